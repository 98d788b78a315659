import Derived.Test.YthaiaannkhpppaaGreatDoorC9
import Derived.Test.YthaiaannkhpppaaGreatDoorC10
open _root_ renaming List.length→y,Option.some→H,Array.size→z,Go.World.heap→G,Go.Value.ownBlock→cK,Go.World.cell?→aW,Go.World.setCell→cq,Go.World.alloc→cN,Bool.false→aX,Bool.true→ci,Nat→M,Int→X,List→cJ,Go.Calls→cY,Go.Proofs.Tryz.prog→aZ,Go.Value.slice→I,Go.Value.string→am,Go.Value.bool→aN,Go.Value.pointer→cX,Go.Value.tuple→dq,Go.Value.agg→dC
namespace Go.Proofs.YthaiaannkhpppaaGreatDoor
open ChangeShapes WideShapes RowKit Proofs.Tryz List
set_option maxHeartbeats 16000000
set_option linter.all false
set_option maxRecDepth 100000
variable{a f A:Y}{b c g m:M}{d s L:ab}{e:cR}{i x:DK}{j W u v:cW}{k:X}{n:eR}{o:SR}{p:eV}{r:iV}{B:gW}{F:Fs}{O:bz}{Q:Prop}
section
open Conc.Locks
def SR.shut(s:SR):SR:={s with closed:=ci,memory:=az,l0:=az,l1:=az,l2:=az,l3:=az,ow:=none}
def TF(h:cS a b o 0)(hc:o.closed=aX)(an:∃K E l,o.memory=I K E l)(aa:∃K E l,o.l0=I K E l)(ac:∃K E l,o.l1=I K E l)(ad:∃K E l,o.l2=I K E l)(al:∃K E l,o.l3=I K E l)(hd:cG a o.aI x)(v:¬x.aO o.aI b)(hp:Pow a)(ap:b≠2)(hl:o.log<18446744073709551616)(hf:o.jx=ci->∃bs,dh (vw x.files) (fa o.log)=H bs)(hm:y x.gT<=1000000000000):cY aZ 23 #[aA b] a λC F=>∃bc K' p r,C=aM bc/\FT a F o.aI b x K' (su o) bc/\cS F b {o.shut with jx:=p,iT:=r} 0/\(bc=.nilIface->p=aX/\r=aX):=by
 have c0:=cS.cellAt h 0 rfl;have f0:a.frozen? (R b 0)=aX:=h.free;obtain⟨d,j⟩:∃d,cq a (R b 0) (jN 1)=d:=⟨_,rfl⟩;have c:cS d b o 1:=by rw[<-j];exact h.lB 1
 have A:Z (λav=>av=b) a d:=by rw[<-j];exact(gZ b a)
 have c5:aW d (R b 5)=H (aN aX):=c.cell (by rw[<-hc];rfl);have c6:=cS.cellAt c 6 rfl;have c7:=cS.cellAt c 7 rfl;have S:=cS.cellAt c 10 rfl;have T:=cS.cellAt c 11 rfl;have V:=cS.cellAt c 12 rfl;have W:=cS.cellAt c 13 rfl;have ax:=cS.cellAt c 16 rfl;have ba:d.frozen? (R b 16)=aX:=c.free;have g5:d.frozen? (R b 5)=aX:=c.free;have g7:d.frozen? (R b 7)=aX:=c.free;have aD:d.frozen? (R b 10)=aX:=c.free;have aF:d.frozen? (R b 11)=aX:=c.free;have aU:d.frozen? (R b 12)=aX:=c.free;have aV:d.frozen? (R b 13)=aX:=c.free;obtain⟨n,k⟩:∃n,cq (cq (cq (cq (cq (cq (cq d (R b 5)<|aN ci) (R b 7) az) (R b 10) az) (R b 11) az) (R b 12) az) (R b 13) az) (R b 16) (.map none)=n:=⟨_,rfl⟩;have hS:cS n b o.shut 1:=by have s:=aH (i:=16) (u:=.map none)<|aH (i:=13) (u:=az)<|aH (i:=12) (u:=az)<|aH (i:=11) (u:=az)<|aH (i:=10) (u:=az)<|aH (i:=7) (u:=az)<|aH (i:=5) (u:=aN ci) c;rw[k]at s;exact s
 have g:Z (λav=>av=b) a n:=by rw[<-k];exact((((((A.setCell b 5 _<|.inl rfl).setCell b 7 _<|.inl rfl).setCell b 10 _<|.inl rfl).setCell b 11 _<|.inl rfl).setCell b 12 _<|.inl rfl).setCell b 13 _<|.inl rfl).setCell b 16 _<|.inl rfl
 have t:=AM hS (hd.aj g<|λav hk C=>v<|C▸hk) v (hp.aj g<|λC=>ap C.symm) hl hf hm;obtain⟨N,L,O,P,Q⟩:=iO hS (hd.aj g<|λav hk C=>v<|C▸hk) g j k;obtain⟨mx,mn,mc,em⟩:=an;obtain⟨bh,bg,bf,ea⟩:=aa;obtain⟨bx,bn,bi,eb⟩:=ac;obtain⟨cx,cn,cc,ec⟩:=ad;obtain⟨dx,dn,dc,ed⟩:=al;rw[em]at c7;rw[ea]at S;rw[eb]at T;rw[ec]at V;rw[ed]at W;clear h c A hc hd hp hf hS g j k em ea eb ec ed;go_enter_defers func23,ntmps23
 go_wp2_with fail
 apply(lock_free (R b 0) _ c0 f0).mono;rintro C F⟨rfl,au⟩;rw[J P]at au;subst F;go_wp2_with fail
 rw[J Q];apply t.mono;rintro C B⟨v2,D,p,r,rfl,m,e,w⟩;have d0:=cS.cellAt e 0 rfl;have k0:B.frozen? (R b 0)=aX:=e.free;have HF:=U (show FT a (cq B (R b 0)<|jN 0) o.aI b x D (su o) v2/\cS (cq B (R b 0)<|jN 0) b {o.shut with jx:=p,iT:=r} 0/\(v2=.nilIface->p=aX/\r=aX)from by have bb:=ak N;have s:fJ n B o.aI b x D:=m.nW;have ao:¬D.aO o.aI b:=λl=>(s.aO b l).elim v (λd=>by omega);have h0:fJ a n o.aI b x x:=⟨L,O.mono<|λ_ l=>.inl<|.inr l,λ_ l=>.inl l,Fx.refl _⟩;exact⟨⟨(h0.trans s).set ao 0<|jN 0,m.uz.imp id<|λ⟨k,q,l,c,d,g,a,j⟩=>⟨k,q,l,c,d,g,a.aj (gZ b B)<|a.qg (sbqq:=b) e,j⟩⟩,e.lB 0,w⟩);clear t e m w v;go_wp2;refine gN (f:=30) (args:=#[aA b]) (by simp) (by simp[go_sem]) ?_;apply(unlock_deferred (R b 0) .returning _ d0 k0).mono;rintro C u' bd⟨rfl,rfl,rfl⟩;refine⟨_,iw rfl _ _ _,?_⟩;exact⟨v2,D,p,r,rfl,HF⟩
end
section
open Shelf
abbrev gz:=cJ<|M×M
def Zr(a:gz):jM:=a.map<|λp=>((p.1:X),aE (p.2:X))
def rf(a:gz):eR:=a.map<|λp=>(p.2:X)
def Xo(a:gz):xL (Zr a) (rf a):=by simp[xL,Zr,rf]
def qK(a:gz):y (rf a)=y a:=by simp[rf]
def Oy{a:eR}(h:n.Perm a)(p:Option E)(e:E):pD n p e=pD a p e:=by
 cases p with
 |none=>rfl
 |some q=>unfold pD;grind
def EL{a:eR}(h:n.Perm a):∀(l:cR)(p:Option E),lL n p l=lL a p l
 |[],_=>rfl
 |e::r,p=>by rw[lL,lL,Oy h,EL h r]
def EK{a:eR}(h:n.Perm a)(l:cR):dI n l=dI a l:=EL h l none
def Kp(v:Option M)(w:Y):cY aZ 156 #[.map v] w λe a=>e=aM (.func (.func 219) #[] #[aA<|z<|G w])/\a=cN w (aw #[.map v] 78):=by
 go_in
 go_wp2;go_ret;simp_all
def ya{c b:M}(f:gz)(h:cS a c o k)(q:o.ow=H b)(i:oP a b (Zr f))(u:y f<=4):cY aZ 97 #[aA c] a λt r=>∃m,∃l:eR,t=aM m/\l.Perm (rf f)/\r.ownsRow (z<|G a) 88 1 m (y l) (l.map<|Value.int .u64)/\Z ay a r:=by
 have s:aW a (R c 16)=H (.map<|H b):=by rw[<-q];exact h.cell rfl
 have e:=(Z.refl ay a).alloc<|aw #[.map<|H b] 78;have j:=KE (bm:=z<|G a) (b:=b) (Zr f) (w:=(cN a<|aw #[.map<|H b] 78)) (aJ _ rfl) (i.dw<|e.block _ i.lt id) (Xo f) (by rw[qK];exact u);clear h q i;go_in
 go_wp2_with fail
 apply(Kp _ _).mono;rintro t w⟨rfl,v⟩;subst w;go_wp2_with fail
 apply j.mono;rintro t C⟨m,x,rfl,n,g,p⟩;obtain⟨B,A,rfl⟩:=aB g;have d:=U<|And.intro n (And.intro g p);clear n g p;go_wp2;go_ret;exact⟨_,x,rfl,d.1,fX d.2.1 (by simp),e.trans d.2.2<|λk a=>.inr<|by omega⟩
def Bx(f:M)(ac:SR)(u:X)(v:gz)(C:ab)(Q:cR)(h:cS a f ac u)(V:ac.ow=H b)(F:oP a b (Zr v))(h4:y v<=4)(E:kC a ac.memory e)(p:∀u,cK ac.memory=H u->u<z (G a))(D:kC a C Q)(o:∀u,cK C=H u->u<z (G a))(r:dV e)(hl:y e+y Q<=1000000):cY aZ 58 #[aA f,C] a λaa w'=>∃W,aa=aM W/\w'.ownsRow (z<|G a) 171 4 W (y<|dI (rf v)<|fM e Q) (aK<|dI (rf v)<|fM e Q)/\Z ay a w':=by
 have S:=cS.cellAt h 7 rfl;have m:=Ui E D r (by omega) p o;obtain⟨x1,n1,t⟩:=bY E;obtain⟨x2,n2,K⟩:=bY D;have HM:=U<|λ(P:Y)(c:Z ay a P)=>ya (b:=b) v (h.aj c id) V (F.dw<|c.block _ F.lt id) h4;rw[t]at S m;clear h V F E p D o t;subst K;go_in
 go_wp2_with fail
 apply m.mono;rintro aa P⟨v1,rfl,i,k⟩;have q:=HM P k;obtain⟨y1,d1,L⟩:=aB i;have w:=U i;have A:=U k;clear i k m S;subst L;go_wp2_with fail
 apply q.mono;rintro aa w2⟨v2,ms,rfl,T,d,l⟩;have c:=l.own w<|λ_ _ a=>a;have g:=zO ms (dJ c) (r.fM Q) (aC (xI e Q) hl) (dJ d) (by have:=T.length_eq;rw[qK]at this;omega) (λu a=>(bM c u a).2)<|λu a=>(bM d u a).2;rw[EK T]at g;obtain⟨y2,d2,N⟩:=aB d;have n:=U<|A.cz l;clear d l c q;subst N;go_wp2_with fail
 apply g.mono;rintro aa w3⟨v3,rfl,j,s⟩;obtain⟨y3,d3,O⟩:=aB j;have x:=U<|fX (base':=z<|G a) j n.size;have B:=U<|n.cz s;clear j s g;subst O;go_wp2;go_ret;exact⟨_,rfl,x,B⟩
end
structure Aside(w:Y)(K:DK)(db sb k:M):Prop where
 lt:k<z (G w)
 aO:¬K.aO db k
 ne:k≠sb
def Aside.fj(h:Aside a i c g m)(d:fJ a f c g i x):Aside f x c g m:=⟨ag h.lt d.aj.size,λe=>(d.aO m e).elim h.aO (λj=>by have:=h.lt;omega),h.ne⟩
def Aside.block{w w':Y}{a:DK}(h:Aside w i c g m)(d:fJ w w' c g i a):w'.heap[m]?=w.heap[m]?:=d.aj.block m h.lt<|λe=>e.elim h.aO h.ne
def Aside.cell{w w':Y}{c a k i:M}{e:DK}(j:Aside w x c a k)(h:fJ w w' c a x e)(g:aW w (R k i)=H d):aW w' (R k i)=H d:=(dt (w:=w)<|j.block h).trans g
def Av(n:Row a g d m B)(j:fJ a f b c i x)(e:∀k,cK d=H k->Aside a i b c k):Row f g d m B:=j.aj.row n<|λk h=>⟨λl=>l.elim (e k h).aO (e k h).ne,(e k h).lt⟩
structure rV(w:Y)(db:M)(fs:Fs)(A:eV)(t:bz):Prop where
 mem:∃bb boff xq,lH w t.tb (aA db) t.num (y<|dK t.cs) (y<|fI<|bW 0 t.cs) (mV<|fI<|bW 0 t.cs) bb boff xq az t.ks/\A bb
 loc:A t.tb
 ks:t.ks=bW 0 t.cs
 num:t.num<18446744073709551616
 pure:uj t.ks t.cs
 idx:Kg (bW 0 t.cs)
 small:y (dK t.cs)<=100000
 file:dh fs (fQ t.num)=H (nC t.cs)
def rV.fj{k fs':Fs}(h:rV a c k (Aside a i c g) O)(j:fJ a f c g i x)(n:dh fs' (fQ O.num)=dh k (fQ O.num)):rV f c fs' (Aside f x c g) O:=by
 obtain⟨m,e,d,o,l⟩:=h.mem;exact⟨⟨m,e,d,o.dw (h.loc.block j)<|l.block j,l.fj j⟩,h.loc.fj j,h.ks,h.num,h.pure,h.idx,h.small,n.trans h.file⟩
structure PG(w:Y)(K:DK)(db sb:M):Prop where
 steps:Steps w
 pow:Pow w
 fS:Aside w K db sb 1
 ml:Aside w K db sb 2
def PG.fj(h:PG a i c g)(d:fJ a f c g i x):PG f x c g:=⟨λk e=>h.fS.cell d<|h.steps k e,h.pow.dw<|h.ml.block d,h.fS.fj d,h.ml.fj d⟩
structure Dn(fs:Fs)(w:Y)(K:DK)(db sb:M)(v:ab)(ts:cW):Prop where
 row:Row w 1 v (y ts) (ts.map bz.ptr)
 loc:∀k,cK v=H k->Aside w K db sb k
 each:∀t∈ts,rV w db fs (Aside w K db sb) t
abbrev M6(w:Y)(K:DK):=Dn (vw K.files) w K
def Dn.fj{h fs':Fs}(l:Dn h a i c g d j)(e:fJ a f c g i x)(m:∀t∈j,dh fs' (fQ t.num)=dh h (fQ t.num)):Dn fs' f x c g d j:=⟨Av l.row e l.loc,λo n=>(l.loc o n).fj e,λt k=>(l.each t k).fj e<|m t k⟩
def jz(h:∀t∈j,uj t.ks t.cs):y j<=y (bZ j):=by
 induction j with
 |nil=>simp
 |cons t r b=>
  obtain⟨x,a,_⟩:=(h t<|by simp).yl;have c:1<=y t.all:=List.length_pos_of_mem a;have d:=b (λu a=>h u<|by simp[a]);have e:y (bZ<|t::r)=y t.all+y (bZ r):=by simp[bZ]
  grind
structure zr(fs:Fs)(w:Y)(sb:M)(s:SR)(K:DK)(m:cR)(a b c d:cW)(C:M):Prop where
 mem:kC w s.memory m
 sI:∀k,cK s.memory=H k->Aside w K s.aI sb k
 l0:Dn fs w K s.aI sb s.l0 a
 l1:Dn fs w K s.aI sb s.l1 b
 l2:Dn fs w K s.aI sb s.l2 c
 l3:Dn fs w K s.aI sb s.l3 d
 aI:cG w s.aI K
 wR:¬K.aO s.aI sb
 kA:PG w K s.aI sb
 rE:y m+y (bZ a)+y (bZ b)+y (bZ c)+y (bZ d)<=C
 kK:C<=1000000
 mj:dV m
 iP:∀x∈m,x.Good
 s1:ji b
 s2:ji c
 s3:ji d
abbrev ST(w:Y)(a:M)(s:SR)(K:DK):=zr (vw K.files) w a s K
def zr.len{d b f j:cW}(h:zr F a c o i e d b f j g):y e<=2000000:=by have:=h.rE;have:=h.kK;omega
def zr.count{f b j k:cW}(h:zr F a c o i e f b j k g):y f+y b+y j+y k<=2000000:=by
 have:=h.rE;have:=h.kK;have:=jz<|λt d=>(h.l0.each t d).pure;have:=jz h.s1.pure;have:=jz h.s2.pure;have:=jz h.s3.pure;omega
def zr.fj{l b j m:cW}(h:zr F a c o i e l b j m g)(k:c<z (G a))(d:fJ a f o.aI c i x):zr F f c o x e l b j m g where
 mem:=Av h.mem d h.sI
 sI:=λj c=>(h.sI j c).fj d
 l0:=h.l0.fj d<|λ_ _=>rfl
 l1:=h.l1.fj d<|λ_ _=>rfl
 l2:=h.l2.fj d<|λ_ _=>rfl
 l3:=h.l3.fj d<|λ_ _=>rfl
 aI:=d.ok
 wR:=λj=>(d.aO c j).elim h.wR<|λn=>by omega
 kA:=h.kA.fj d
 rE:=h.rE
 kK:=h.kK
 mj:=h.mj
 iP:=h.iP
 s1:=h.s1
 s2:=h.s2
 s3:=h.s3
def ST.fj{k b l m:cW}(n:ST a c o i e k b l m g)(d:c<z (G a))(h:fJ a f o.aI c i x)(j:vw x.files=vw i.files):ST f c o x e k b l m g:=by
 rw[ST,j];exact zr.fj n d h
def oz(s:SR)(m:cR)(a b c d:cW):cJ (ab×cR):=(.iface 87 s.memory,m)::(((a.map<|λt=>(NV t,t.all)).reverse)++[(Ga (s.l1,b),bZ b)]++[(Ga (s.l2,c),bZ c)]++[(Ga (s.l3,d),bZ d)])
def yL(s:SR)(m:cR)(a b c d:cW):(oz s m a b c d).map (·.1)=xQ s.memory (s.l0,a) (s.l1,b) (s.l2,c) (s.l3,d):=by
 simp[oz,xQ,pt,vy]
def zr.E3{l b m n:cW}(h:zr F a c o i e l b m n g)(j:cS a c o k):Dm a c 10 [(o.l0,l),(o.l1,b),(o.l2,m),(o.l3,n)]:=by
 refine⟨rfl,λf d=>?_,λf d=>?_,λf d=>?_,?_⟩;(have:f=0\/f=1\/f=2\/f=3:=by grind);rcases this with rfl|rfl|rfl|rfl<;>exact j.cell rfl;(have:f=0\/f=1\/f=2\/f=3:=by grind);rcases this with rfl|rfl|rfl|rfl;exact h.l0.row;exact h.l1.row;exact h.l2.row;exact h.l3.row;(have:f=0\/f=1\/f=2\/f=3:=by grind);rcases this with rfl|rfl|rfl|rfl;exactλk d=>(h.l0.loc k d).lt;exactλk d=>(h.l1.loc k d).lt;exactλk d=>(h.l2.loc k d).lt;exactλk d=>(h.l3.loc k d).lt;have:=h.count;simp[lO];omega
structure QE(Xqq:Prop)(K:DK)(fs:Fs):Prop where
 get:∀n bs,dh fs n=H bs->∃f,ld K.files n=H f/\f.bytes=bs
 bad:0<K.fx.bd->Xqq
 ok:K.fx.ok
def QE.refl(h:cG a c i):QE (0<i.fx.bd) i (vw i.files):=⟨λ_ _ h=>jq h,id,h.wS⟩
abbrev se(a:Prop)(b:M)(K:DK):iV:=JI a b K<|K.aO b
def nD(a:M)(K:DK):iV:=se (0<K.fx.bd) a K
def DT(g:QE Q i F)(j:rV a b F (Aside a i b c) O)(e:PG a i b c):nE (se Q b i) (z<|G a) O.tb O.ks O.cs a:=by
 obtain⟨l,f,d,n,k⟩:=j.mem;obtain⟨o,m,h⟩:=g.get _ _ j.file;exact nE.Qe Q b i (i.aO b) (z<|G a) O.tb O.num j.num _ _ _ l f d az O.ks O.cs o (fI<|bW 0 O.cs) a n j.pure m h g.ok g.bad ⟨j.loc.lt,j.loc.aO⟩ ⟨k.lt,k.aO⟩ e.steps ⟨e.fS.lt,e.fS.aO⟩ e.pow ⟨e.ml.lt,e.ml.aO⟩
def vM(f:QE Q i F)(h:Dn F a i b c d j)(g:PG a i b c)(l:ji j)(k:y j<=1000000000):sQ (se Q b i) (z<|G a) d j a:=⟨h.row,λn e=>⟨(h.loc n e).lt,(h.loc n e).aO⟩,λt m=>DT f (h.each t m) g,l,k⟩
def JF(c:cG a b i)(d:∀k,i.aO b k->k<z (G a)):(se Q b i).D a:=⟨d,i,c,⟨rfl,rfl,rfl⟩,λ_ h=>h,Fx.refl _⟩
def zr.Sb(h:zr F a b o i e j W u v c):(se Q o.aI i).D a:=JF h.aI h.aI.lt
def ST.Sb(h:ST a b o i e j W u v c):(nD o.aI i).D a:=JF h.aI h.aI.lt
def zr.ZM(d:QE Q i F)(h:zr F a b o i e j W u v c):∀r∈oz o e j W u v,qW (se Q o.aI i) (z<|G a) r.1 r.2 a:=by
 have hF:∀k,(se Q o.aI i).F k->k<z (G a):=h.aI.lt;have l:=h.count;intro r f;simp only[oz,bJ,aG,qG,bR,gu,mO]at f;rcases f with rfl|((⟨t,g,rfl⟩|rfl)|rfl)|rfl;exact qW.list h.mem h.mj (show y e<=1000000000000 by have:=h.len;omega) (λk a=>⟨(h.sI k a).lt,(h.sI k a).aO⟩)<|ah _;exact qW.table (DT d (h.l0.each t g) h.kA) (ah _) hF;exact qW.yj (vM d h.l1 h.kA h.s1<|by omega) (ah _) hF;exact qW.yj (vM d h.l2 h.kA h.s2<|by omega) (ah _) hF;exact qW.yj (vM d h.l3 h.kA h.s3<|by omega) (ah _) hF
def BG(h:ji j):∀x∈bZ j,x.Good:=by
 intro x a;unfold bZ at a;obtain⟨l,c,a⟩:=bC.1 a;obtain⟨t,d,rfl⟩:=bR.1 c;obtain⟨e,b,a⟩:=bC.1 a;exact(h.pure t d).iP e b x a
def Uq(h:uj O.ks O.cs):∀x∈O.all,x.Good:=by
 intro x a;obtain⟨c,b,a⟩:=bC.1 a;exact h.iP c b x a
def zr.KO(h:zr F a b o i e j W u v c):∀r∈oz o e j W u v,∀x∈r.2,x.Good:=by
 intro r d;simp only[oz,bJ,aG,qG,bR,gu,mO]at d;rcases d with rfl|((⟨t,f,rfl⟩|rfl)|rfl)|rfl;exact h.iP;exact Uq (h.l0.each t f).pure;exact BG h.s1;exact BG h.s2;exact BG h.s3
def yR(c:cG a o.aI i)(d:¬i.aO o.aI b)(j:X):fJ a (cq a (R b 0)<|jN j) o.aI b i i:=(fJ.refl c).set d 0 _
def fJ.sb(h:fJ a A b c i x)(d:¬i.aO b c)(g:c<z (G a)):¬x.aO b c:=λe=>(h.aO c e).elim d<|λj=>by omega
def tY{b sbqq:M}(d:cG a b i)(c:Below (z<|G a) a f):fJ a f b sbqq i i:=⟨d.aj (Z.aR (S:=ay) c)<|λ_ _=>id,(Z.aR (S:=ay) c).mono cL,λ_ e=>.inl e,Fx.refl _⟩
structure Ng(w:Y)(K:DK)(sb:M)(s:SR)(sn:gz):Prop where
 ex:∃b,s.ow=H b/\oP w b (Zr sn)/\Aside w K s.aI sb b
 len:y sn<=4
def Ng.fj{g:gz}(k:Ng a i c o g)(e:fJ a f o.aI c i x):Ng f x c o g:=by
 obtain⟨b,h,j,d⟩:=k.ex;exact⟨⟨b,h,j.dw<|d.block e,d.fj e⟩,k.len⟩
def Ng.fields{s s':SR}{c:gz}(h:Ng a i b s c)(g:s'.aI=s.aI/\s'.ow=s.ow):Ng a i b s' c:=by
 obtain⟨j,d,e,f⟩:=h.ex;exact⟨⟨j,g.2.trans d,e,by rw[g.1];exact f⟩,h.len⟩
theorem rV.Gg{w w':Y}{db:M}{m:Fs}{A:eV}{t:bz}(l:rV w db m A t)(o:∀r,A r->w'.heap[r]?=w.heap[r]?):rV w' db m A t:=by
 obtain⟨p,k,j,q,n⟩:=l.mem;exact⟨⟨p,k,j,q.dw (o _ l.loc)<|o _ n,n⟩,l.loc,l.ks,l.num,l.pure,l.idx,l.small,l.file⟩
structure Nl(t:bz):Prop where
 pure:uj t.ks t.cs
 idx:Kg (bW 0 t.cs)
 small:y (dK t.cs)<=100000
def Kd(db sbqq baseqq:M)(K:DK)(k:M):Prop:=k<baseqq/\¬K.aO db k/\k≠sbqq
def XT(e:cW)(ps:cJ NT)(t:bz):Prop:=t∈e\/∃p∈ps,p.t=t
def qE(w:Y)(db sbqq baseqq:M)(K:DK)(v:ab):Prop:=∀k,cK v=H k->k<z (G w)/\¬K.aO db k/\k≠sbqq/\(k<baseqq\/∃j l,w.heap[k]?=H (aw j 186 l))
theorem qE.aj{w w':Y}{db sbqq baseqq:M}{K:DK}{v:ab}(n:qE w db sbqq baseqq K v)(l:Z (K.aO db) w w'):qE w' db sbqq baseqq K v:=λq m=>by
 obtain⟨j,k,o,p⟩:=n q m;exact⟨ag j l.size,k,o,p.imp id<|λ⟨m,n,r⟩=>⟨m,n,(l.block q j k).trans r⟩⟩
structure LS(w:Y)(db sb base:M)(K:DK)(e:cW)(ps:cJ NT)(C:M)(g h i f:ab)(a b c d:cW):Prop where
 D:(nD db K).D w
 wS:K.fx.ok
 le:base<=z (G w)
 aO:∀k,K.aO db k->k<base
 KL:sb<base
 steps:Steps w
 pow:Pow w
 fS:Kd db sb base K 1
 ml:Kd db sb base K 2
 xY:∀t∈e,rV w db (vw K.files) (Kd db sb base K) t
 news:∀p∈ps,p.Ok w base/\Nl p.t
 apart:ps.Pairwise NT.mW
 r0:Row w 1 g (y a) (a.map bz.ptr)
 r1:Row w 1 h (y b) (b.map bz.ptr)
 r2:Row w 1 i (y c) (c.map bz.ptr)
 r3:Row w 1 f (y d) (d.map bz.ptr)
 b0:qE w db sb base K g
 b1:qE w db sb base K h
 b2:qE w db sb base K i
 b3:qE w db sb base K f
 x0:∀t∈a,XT e ps t
 x1:∀t∈b,XT e ps t
 x2:∀t∈c,XT e ps t
 x3:∀t∈d,XT e ps t
 nodup:((a++b++c++d).map bz.tb).Nodup
 s1:ji b
 s2:ji c
 s3:ji d
 rE:y (bZ a)+y (bZ b)+y (bZ c)+y (bZ d)<=C
 kK:C<=1000000
section
variable{w w':Y}{db sbqq baseqq C:M}{K:DK}{e:cW}{ps:cJ NT}{g h i f:ab}{a b c d:cW}
theorem XT.more{t:bz}(j:XT e ps t)(l:cJ NT):XT e (ps++l) t:=by
 rcases j with j|⟨p,k,n⟩;exact .inl j;exact .inr ⟨p,by simp[k],n⟩
theorem LS.aj(j:LS w db sbqq baseqq K e ps C g h i f a b c d)(l:Z (K.aO db) w w')(n:(nD db K).D w'):LS w' db sbqq baseqq K e ps C g h i f a b c d where
 D:=n
 wS:=j.wS
 le:=aC j.le l.size
 aO:=j.aO
 KL:=j.KL
 steps:=λm k=>l.cell (j.steps m k) j.fS.2.1<|ag j.fS.1 j.le
 pow:=j.pow.dw<|l.block _ (ag j.ml.1 j.le) j.ml.2.1
 fS:=j.fS
 ml:=j.ml
 xY:=λt n=>(j.xY t n).Gg<|λm k=>l.block m (ag k.1 j.le) k.2.1
 news:=λp n=>⟨(j.news p n).1.aj l (λm k c=>by have:=((j.news p n).1.lt m k).1;have:=j.aO m c;omega),(j.news p n).2⟩
 apart:=j.apart
 r0:=l.row j.r0<|λm k=>⟨(j.b0 m k).2.1,(j.b0 m k).1⟩
 r1:=l.row j.r1<|λm k=>⟨(j.b1 m k).2.1,(j.b1 m k).1⟩
 r2:=l.row j.r2<|λm k=>⟨(j.b2 m k).2.1,(j.b2 m k).1⟩
 r3:=l.row j.r3<|λm k=>⟨(j.b3 m k).2.1,(j.b3 m k).1⟩
 b0:=j.b0.aj l
 b1:=j.b1.aj l
 b2:=j.b2.aj l
 b3:=j.b3.aj l
 x0:=j.x0
 x1:=j.x1
 x2:=j.x2
 x3:=j.x3
 nodup:=j.nodup
 s1:=j.s1
 s2:=j.s2
 s3:=j.s3
 rE:=j.rE
 kK:=j.kK
theorem LS.Zw(l:LS w db sbqq baseqq K e ps C g h i f a b c d){t:bz}(j:XT e ps t):uj t.ks t.cs:=by
 rcases j with j|⟨p,k,rfl⟩;exact(l.xY t j).pure;exact(l.news p k).2.pure
theorem LS.Xl(k:LS w db sbqq baseqq K e ps C g h i f a b c d){t:bz}(l:XT e ps t):nE (nD db K) (z<|G w) t.tb t.ks t.cs w:=by
 have v:=k.le;have o:1<z (G w)/\¬(nD db K).F 1:=⟨by have:=k.fS.1;omega,k.fS.2.1⟩;rcases l with l|⟨p,x,rfl⟩;obtain⟨r,m,j,u,q⟩:=(k.xY t l).mem;obtain⟨A,s,n⟩:=jq (k.xY t l).file;exact nE.Qe (0<K.fx.bd) db K (K.aO db) (z<|G w) t.tb t.num (k.xY t l).num _ _ _ r m j az t.ks t.cs A (fI<|bW 0 t.cs) w u (k.xY t l).pure s n k.wS id ⟨by have:=(k.xY t l).loc.1;omega,(k.xY t l).loc.2.1⟩ ⟨by have:=q.1;omega,q.2.1⟩ k.steps o k.pow ⟨by have:=k.ml.1;omega,k.ml.2.1⟩;obtain⟨j,n⟩:=k.news p x;have r:=j.lt;have q:∀j,p.has j->j<z (G w)/\¬(nD db K).F j:=λj l=>⟨(r j l).2,λc=>by have:=k.aO j c;have:=(r j l).1;omega⟩;(have m:y (dK p.t.cs)<=p.Gl:=by rcases j.data.2 with⟨c,_⟩|⟨B,s,u,c,_,_,A,_⟩;cases c;grind);exact nE.ZD (nD db K) (z<|G w) p.t.tb 0 0 0 0 p.bb 0 p.xq p.x 0 p.Gl p.t.ks p.t.cs w j.mem n.pure (fc.bytes j.data) m (by have:=n.small;omega) (q _<|.inl rfl) (q _<|.inr<|.inl rfl) (q _<|.inr<|.inr rfl) k.steps o
theorem LS.count(j:LS w db sbqq baseqq K e ps C g h i f a b c d):y a+y b+y c+y d<=1000000:=by
 have:=j.rE;have:=j.kK;have:=jz<|λt k=>j.Zw<|j.x0 t k;have:=jz j.s1.pure;have:=jz j.s2.pure;have:=jz j.s3.pure;omega
theorem LS.A7(j:LS w db sbqq baseqq K e ps C g h i f a b c d):sQ (nD db K) (z<|G w) h b w:=⟨j.r1,λm k=>⟨(j.b1 m k).1,(j.b1 m k).2.1⟩,λt l=>j.Xl<|j.x1 t l,j.s1,by have:=j.count;omega⟩
theorem LS.A6(j:LS w db sbqq baseqq K e ps C g h i f a b c d):sQ (nD db K) (z<|G w) i c w:=⟨j.r2,λm k=>⟨(j.b2 m k).1,(j.b2 m k).2.1⟩,λt l=>j.Xl<|j.x2 t l,j.s2,by have:=j.count;omega⟩
theorem LS.G3(j:LS w db sbqq baseqq K e ps C g h i f a b c d):sQ (nD db K) (z<|G w) f d w:=⟨j.r3,λm k=>⟨(j.b3 m k).1,(j.b3 m k).2.1⟩,λt l=>j.Xl<|j.x3 t l,j.s3,by have:=j.count;omega⟩
theorem wJ{j:cW}(n:∀t∈j,t.ks=bW 0 t.cs):kg j=y (bZ j):=by
 induction j with
 |nil=>rfl
 |cons t r m=>
  have k:=m (λu j=>n u<|by simp[j]);have l:=n t (by simp);unfold kg at k|-;rw[cy,zj,k,zb,af,l,Ck];rfl
theorem LS.ks(l:LS w db sbqq baseqq K e ps C g h i f a b c d){t:bz}(j:XT e ps t):t.ks=bW 0 t.cs:=by
 rcases j with j|⟨p,k,rfl⟩;exact(l.xY t j).ks;exact(l.news p k).1.ks
theorem Ek{l n:M}{v:ab}{o:gW}(p:Row w l v n o)(r:0<n):∃b j k,v=bD b j n k/\n<=k:=by
 rcases p.2 with⟨_,q⟩|⟨b,j,k,s,m,_⟩;omega;grind
theorem LS.pB{m:cW}{D:cR}(v:LS w db sbqq baseqq K e ps C g h i f a b c d)(O:Z (K.aO db) w w')(A:qu w' (z<|G w) m)(F:m.map bz.all=gC D)(N:dV D)(t:qV 5 D)(E:∀aa∈D,aa.Good):∃l:cJ NT,l.map NT.t=m/\(∀p∈ps++l,p.Ok w' baseqq/\Nl p.t)/\(ps++l).Pairwise NT.mW/\(∀B∈m,XT e (ps++l) B)/\(∀B∈m,z (G w)<=B.tb)/\(m.map bz.tb).Nodup:=by
 have L:=yO F A.each N t E;obtain⟨l,n,o,x⟩:=A;have s:∀p∈ps,∀u,p.has u->u<z (G w):=λp j u r=>((v.news p j).1.lt u r).2;refine⟨l,n,λp j=>?_,?_,λB k=>?_,λB k=>?_,?_⟩;rcases aG.1 j with c|c;exact⟨(v.news p c).1.aj O (λu r d=>by have:=((v.news p c).1.lt u r).1;have:=v.aO u d;omega),(v.news p c).2⟩;obtain⟨P,Q,S,T⟩:=L p.t (by rw[<-n];grind);refine⟨(o p c).base v.le,P,Q,?_⟩;have V:=(o p c).pieces.data;have W:=(o p c).pieces.length;omega;rw[bQ];exact⟨v.apart,x,λp j q l u r k=>by have:=s p j u r;have:=((o q l).lt u k).1;omega⟩;rw[<-n]at k;obtain⟨p,j,rfl⟩:=bR.1 k;exact .inr ⟨p,by simp[j],rfl⟩;rw[<-n]at k;obtain⟨p,j,rfl⟩:=bR.1 k;exact(o p j).new;rw[<-n,gG];unfold List.Nodup;rw[ki];refine x.imp<|λ{p q}j k=>j p.t.tb (.inl rfl)<|.inl k
theorem XT.qC(k:LS w db sbqq baseqq K e ps C g h i f a b c d){t:bz}(j:XT e ps t):t.tb<z (G w):=by
 rcases j with j|⟨p,l,rfl⟩;have:=(k.xY t j).loc.1;have:=k.le;omega;exact((k.news p l).1.lt _<|.inl rfl).2
theorem PO{j:cW}(k:∀t∈j,uj t.ks t.cs)(l:dV (bZ j))(m:(j.map bz.all).Pairwise gU):ji j:=⟨k,l,m⟩
theorem wl{j s:M}{v:ab}{o:gW}(m:w'.ownsRow (z<|G w) 186 j v s o)(r:∀k,K.aO db k->k<baseqq)(n:sbqq<baseqq)(q:baseqq<=z (G w)):qE w' db sbqq baseqq K v:=λk l=>by
 have p:=m.lt k l;grind[fE]
end
theorem Tu{n:M}{a b c d:cW}(k:PR n (bU a b c d)):dV (cQ<|bZ b::a.map bz.all):=by
 have j:bU a b c d=[]++((a.map bz.all).reverse++[bZ b])++[bZ c,bZ d]:=by simp[bU]
 rw[j]at k;exact(zy (ms:=[]) (lowest:=aX) (λr j=>k.row r<|by grind) (k.row _<|by simp) (bQ.1 k.pB).1).1
theorem Qj{u v j:cW}{o:M}(q:ji u)(r:ji v)(p:Over (bZ u) (bZ v))(l:o<y u)(n:j.Sublist v):dV (cQ<|bZ j::[u[o]].map bz.all):=by
 have k:∀t∈[u[o].all,bZ j],dV t:=by intro t s;simp only[bJ,gu,mO]at s;rcases s with rfl|rfl;exact q.each<|aq l;exact r.mj.sub<|nY n
 have m:jU [u[o].all,bZ j]:=Ox<|λx q k r=>p x (lZ.2 ⟨_,aq l,q⟩) k<|(nY n).subset r;show dV (cQ [bZ j,u[o].all]);rw[tQ k m<|List.Perm.swap _ _ _];exact oU k m
theorem LS.C1{w:Y}{db sbqq baseqq C an:M}{K:DK}{e:cW}{ps:cJ NT}{g h i f:ab}{a b c d:cW}(j:LS w db sbqq baseqq K e ps C g h i f a b c d)(hp:PR an (bU a b c d))(ha:0<y a)(o:eR)(Q:Option Addr)(P:M)(hm:Row w 1 (I Q (y o) P) (y o) (o.map<|Value.int .u64))(W:∀v,cK (I Q (y o) P)=H v->v<z (G w)/\¬K.aO db v)(F:y o<=4):cY aZ 104 #[dC #[g,h,i,f],ar 0,I Q (y o) P] w λac w'=>(∃S k O,∃x:cW,∃aa,ac=aM (dq #[dC #[az,I S k O,i,f],.nilIface])/\LS w' db sbqq baseqq K e aa C az (I S k O) i f [] x c d/\PR an (bU [] x c d)/\(∀A,(A∈o\/(an:X)<=A)->∀v,eQ A (bU [] x c d) v=eQ A (bU a b c d) v)/\Z (K.aO db) w w')\/Dp (nD db K) w w' (K.aO db) ac bL:=by
 obtain⟨b0,o0,c0,rfl,al⟩:=Ek j.r0 ha;obtain⟨x1,c1,rfl⟩:=bY j.r1;obtain⟨x2,c2,rfl⟩:=bY j.r2;obtain⟨x3,c3,rfl⟩:=bY j.r3;have D:∀ad∈cQ (bZ b::a.map bz.all),ad.Good:=by intro ad hx;have:=(eN _).mem_iff.1 hx;rw[bK,aG]at this;refine hp.iP ad ?_;unfold bU;rw[eH,aG];grind[mem_flatten]
 have q:y (cQ<|bZ b::a.map bz.all)<=1000000:=by have T:=(eN<|bZ b::a.map bz.all).length_eq;rw[bK,af]at T;have h2:(a.map bz.all).flatten=bZ a:=rfl;rw[h2]at T;have:=j.rE;have:=j.kK;omega
 have L:=Tu hp;refine(Tv b0 o0 c0 x1 x2 x3 _ _ _ c1 c2 c3 a c d j.r0 ⟨(j.b0 _ rfl).1,(j.b0 _ rfl).2.1⟩ (λA N=>j.Xl<|j.x0 A N) j.A7 j.r2 j.r3 (λv p=>⟨(j.b2 v p).1,(j.b2 v p).2.1⟩) (λv p=>⟨(j.b3 v p).1,(j.b3 v p).2.1⟩) j.D (ah _) (λv p=>by have:=j.aO v p;have:=j.le;omega) j.steps ⟨by have:=j.fS.1;have:=j.le;omega,j.fS.2.1⟩ j.count o Q P hm W F _ rfl L D q).mono ?_;rintro ac w'(⟨S,k,O,x,rfl,r,l,m,V,N⟩|B);rotate_left;exact .inr B;obtain⟨_,s,p1,p2,p3⟩:=Pd hp l;obtain⟨_,t,E,_⟩:=tP (ms:=o) (lowest:=c.isEmpty&&d.isEmpty) L D q F;obtain⟨qs,q0,q1,q2,q3,q4,q5⟩:=j.pB N m l s t E;have u:ji x:=GL l m.each s t E;refine .inl ⟨S,k,O,x,ps++qs,rfl,?_,p1,p2,N⟩;have h':=j.aj N V;refine{h' with news:=q1,apart:=q2,r0:=⟨rfl,.inl ⟨rfl,rfl⟩⟩,r1:=dJ r,b0:=?_,b1:=wl r j.aO j.KL j.le,x0:=?_,x1:=q3,x2:=λA n=>(h'.x2 A n).more qs,x3:=λA n=>(h'.x3 A n).more qs,nodup:=?_,s1:=u,rE:=?_};intro v p;cases p;grind
 rw[cV,bA,aP,jm];have hn:=j.nodup;rw[bA,aP,jm]at hn;refine⟨q5,hn.2.1,λad hx ap hy ac=>?_⟩;obtain⟨A,n,rfl⟩:=bR.1 hx;obtain⟨ao,hu,rfl⟩:=bR.1 hy;have T:=q4 A n;(have h2:ao.tb<z (G w):=by rcases aG.1 hu with c|c;exact XT.qC j<|j.x2 ao c;exact XT.qC j<|j.x3 ao c);omega;have:=j.rE;have e0:y (bZ ([]:cW))=0:=rfl;omega
theorem LS.B9{w:Y}{db sbqq baseqq C aD:M}{K:DK}{e:cW}{ps:cJ NT}{g h i f:ab}{a b c d:cW}(j:LS w db sbqq baseqq K e ps C g h i f a b c d)(hp:PR aD (bU a b c d))(hb:0<y b)(u:eR)(mx:Option Addr)(mc:M)(hm:Row w 1 (I mx (y u) mc) (y u) (u.map<|Value.int .u64))(ao:∀O,cK (I mx (y u) mc)=H O->O<z (G w)/\¬K.aO db O)(W:y u<=4):cY aZ 104 #[dC #[g,h,i,f],ar 1,I mx (y u) mc] w λS w'=>(∃xl nl cl xm n cm,∃b' c':cW,∃au,S=aM (dq #[dC #[g,I xl nl cl,I xm n cm,f],.nilIface])/\LS w' db sbqq baseqq K e au C g (I xl nl cl) (I xm n cm) f a b' c' d/\y b'+1=y b/\PR aD (bU a b' c' d)/\(∀t,(t∈u\/(aD:X)<=t)->∀O,eQ t (bU a b' c' d) O=eQ t (bU a b c d) O)/\Z (K.aO db) w w')\/Dp (nD db K) w w' (K.aO db) S bL:=by
 obtain⟨b0,o0,c0,rfl,al⟩:=Ek j.r1 hb;obtain⟨x1,c1,rfl⟩:=bY j.r0;obtain⟨x2,c2,rfl⟩:=bY j.r2;obtain⟨x3,c3,rfl⟩:=bY j.r3;have an:∀l(v:l<y b)(s:cW),s.Sublist c->∀N∈(bZ s::[b[l]].map bz.all).flatten,N∈bZ b\/N∈bZ c:=by intro l v s hw N P;simp only[cy,gR,bK,iK,dM,aG]at P;grind[nY,lZ,getElem_mem]
 have E:∀N,N∈bZ b\/N∈bZ c->N.Good:=λN P=>hp.iP N (by unfold bU;rw[eH,aG];grind);have o:∀l(v:l<y b)(s:cW),s.Sublist c->dV (cQ<|bZ s::[b[l]].map bz.all)/\(∀N∈cQ (bZ s::[b[l]].map bz.all),N.Good)/\y (cQ<|bZ s::[b[l]].map bz.all)<=1000000:=by intro l v s hw;refine⟨Qj j.s1 j.s2 (Dw (C:=(a.map bz.all).reverse) (D:=[bZ d]) (by have:=hp.pB;simpa[bU]using this)) v hw,λN P=>E N<|an l v s hw N<|(eN _).mem_iff.1 P,?_⟩;have h1:=(eN<|bZ s::[b[l]].map bz.all).length_eq;simp only[cy,gR,bK,iK,dM,af]at h1;have h2:=(nY hw).length_le;(have L:y b[l].all<=y (bZ b):=by have:=(nY (us:=[b[l]]) (ts:=b)<|vV.2<|aq v).length_le;simpa[bZ]using this);have:=j.rE;have:=j.kK;grind
 refine(Fp b0 o0 c0 x2 x1 x3 _ _ _ _ _ _ a d j.A7 al hb j.A6 j.r0 j.r3 (λO F=>⟨(j.b0 O F).1,(j.b0 O F).2.1⟩) (λO F=>⟨(j.b3 O F).1,(j.b3 O F).2.1⟩) j.D (ah _) (λO F=>by have:=j.aO O F;have:=j.le;omega) j.steps ⟨by have:=j.fS.1;have:=j.le;omega,j.fS.2.1⟩ (by have:=j.count;omega) (by rw[wJ<|λt ht=>j.ks<|j.x2 t ht];have:=j.rE;have:=j.kK;omega) _ (.inl ⟨rfl,rfl,rfl,rfl,rfl,rfl,rfl⟩) o u mx mc hm ao W).mono ?_;rintro S w'(⟨xl,nl,cl,xm,n,cm,x,l,v,Q,q,rfl,hcut,aa,ac,m,p,ad,ht⟩|V);rotate_left;exact .inr V;obtain⟨p1,p2,p3,p0,p4,p5⟩:=Pc hp j.s1 j.s2 v hcut m;rw[lF m]at p3 p4;obtain⟨s1,s2,s3⟩:=o l v _ ((nt _ _).trans (kj _ _):(List.take (q-Q)<|List.drop Q _).Sublist _);obtain⟨_,B,_,_⟩:=tP (ms:=u) (lowest:=d.isEmpty) s1 s2 s3 W;obtain⟨qs,q0,q1,q2,q3,q4,q5⟩:=j.pB ht p m p3 B p4;have ax:=yO m p.each p3 B p4;have r:(b.take l++b.drop (l+1)).Sublist b:=by grind[TA,append_assoc,sublist_append_right]
 have ap:(c.take Q++c.drop q).Sublist c:=by grind[Yq,zv.le,append_assoc,sublist_append_right]
 refine .inl ⟨xl,nl,cl,xm,n,cm,b.take l++b.drop (l+1),c.take Q++x++c.drop q,ps++qs,rfl,?_,by simp;omega,p1,p2,ht⟩;have h':=j.aj ht ad;have A:∀t∈c.take Q++x++c.drop q,t∈c\/t∈x:=by grind
 refine{h' with news:=q1,apart:=q2,r1:=dJ aa,r2:=dJ ac,b1:=wl aa j.aO j.KL j.le,b2:=wl ac j.aO j.KL j.le,x0:=λt k=>(h'.x0 t k).more qs,x1:=λt k=>(h'.x1 t<|r.subset k).more qs,x2:=?_,x3:=λt k=>(h'.x3 t k).more qs,nodup:=?_,s1:=j.s1.sub r,s2:=?_,rE:=?_};intro t k;rcases A t k with S|S;exact(h'.x2 t S).more qs;exact q3 t S;(have hn:((a++(b.take l++b.drop (l+1))++(c.take Q++c.drop q)++d).map bz.tb).Nodup:=by refine List.Nodup.sublist (List.Sublist.map _ ?_) j.nodup;grind);(have L:(a++(b.take l++b.drop (l+1))++(c.take Q++x++c.drop q)++d).Perm (x++(a++(b.take l++b.drop (l+1))++(c.take Q++c.drop q)++d)):=by(have T:a++(b.take l++b.drop (l+1))++(c.take Q++x++c.drop q)++d=(a++(b.take l++b.drop (l+1))++c.take Q)++x++(c.drop q++d):=by grind);(have e2:x++(a++(b.take l++b.drop (l+1))++(c.take Q++c.drop q)++d)=x++(a++(b.take l++b.drop (l+1))++c.take Q)++(c.drop q++d):=by grind);rw[T,e2];exact vX _ qx);rw[(L.map bz.tb).nodup_iff,aP,jm];refine⟨q5,hn,λN P aF hy S=>?_⟩;obtain⟨t,k,rfl⟩:=bR.1 P;obtain⟨av,hu,rfl⟩:=bR.1 hy;have h1:=q4 t k;(have h2:av.tb<z (G w):=by simp only[aG]at hu;rcases hu with((T|T|T)|T|T)|T;exact XT.qC j<|j.x0 av T;exact XT.qC j<|j.x1 av<|dZ T;exact XT.qC j<|j.x1 av<|dQ T;exact XT.qC j<|j.x2 av<|dZ T;exact XT.qC j<|j.x2 av<|dQ T;exact XT.qC j<|j.x3 av T);omega;refine PO (λt k=>?_) (p1.mj _<|by simp[bU]) p0;rcases A t k with S|S;exact j.s2.pure t S;grind
 have:=j.rE;omega
theorem LS.B8{w:Y}{db sbqq baseqq C aD:M}{K:DK}{e:cW}{ps:cJ NT}{g h i f:ab}{a b c d:cW}(j:LS w db sbqq baseqq K e ps C g h i f a b c d)(hp:PR aD (bU a b c d))(hc:0<y c)(u:eR)(mx:Option Addr)(mc:M)(hm:Row w 1 (I mx (y u) mc) (y u) (u.map<|Value.int .u64))(ao:∀O,cK (I mx (y u) mc)=H O->O<z (G w)/\¬K.aO db O)(W:y u<=4):cY aZ 104 #[dC #[g,h,i,f],ar 2,I mx (y u) mc] w λS w'=>(∃xl nl cl xm n cm,∃c' d':cW,∃au,S=aM (dq #[dC #[g,h,I xl nl cl,I xm n cm],.nilIface])/\LS w' db sbqq baseqq K e au C g h (I xl nl cl) (I xm n cm) a b c' d'/\y c'+1=y c/\PR aD (bU a b c' d')/\(∀t,(t∈u\/(aD:X)<=t)->∀O,eQ t (bU a b c' d') O=eQ t (bU a b c d) O)/\Z (K.aO db) w w')\/Dp (nD db K) w w' (K.aO db) S bL:=by
 obtain⟨b0,o0,c0,rfl,al⟩:=Ek j.r2 hc;obtain⟨x1,c1,rfl⟩:=bY j.r0;obtain⟨x2,c2,rfl⟩:=bY j.r1;obtain⟨x3,c3,rfl⟩:=bY j.r3;have an:∀l(v:l<y c)(s:cW),s.Sublist d->∀N∈(bZ s::[c[l]].map bz.all).flatten,N∈bZ c\/N∈bZ d:=by intro l v s hw N P;simp only[cy,gR,bK,iK,dM,aG]at P;grind[nY,lZ,getElem_mem]
 have E:∀N,N∈bZ c\/N∈bZ d->N.Good:=λN P=>hp.iP N (by unfold bU;rw[eH,aG];grind);have o:∀l(v:l<y c)(s:cW),s.Sublist d->dV (cQ<|bZ s::[c[l]].map bz.all)/\(∀N∈cQ (bZ s::[c[l]].map bz.all),N.Good)/\y (cQ<|bZ s::[c[l]].map bz.all)<=1000000:=by intro l v s hw;refine⟨Qj j.s2 j.s3 (Dw (C:=(a.map bz.all).reverse++[bZ b]) (D:=[]) (by have:=hp.pB;simpa[bU]using this)) v hw,λN P=>E N<|an l v s hw N<|(eN _).mem_iff.1 P,?_⟩;have h1:=(eN<|bZ s::[c[l]].map bz.all).length_eq;simp only[cy,gR,bK,iK,dM,af]at h1;have h2:=(nY hw).length_le;(have L:y c[l].all<=y (bZ c):=by have:=(nY (us:=[c[l]]) (ts:=c)<|vV.2<|aq v).length_le;simpa[bZ]using this);have:=j.rE;have:=j.kK;grind
 refine(Fp b0 o0 c0 x3 x1 x2 _ _ _ _ _ _ a b j.A6 al hc j.G3 j.r0 j.r1 (λO F=>⟨(j.b0 O F).1,(j.b0 O F).2.1⟩) (λO F=>⟨(j.b1 O F).1,(j.b1 O F).2.1⟩) j.D (ah _) (λO F=>by have:=j.aO O F;have:=j.le;omega) j.steps ⟨by have:=j.fS.1;have:=j.le;omega,j.fS.2.1⟩ (by have:=j.count;omega) (by rw[wJ<|λt ht=>j.ks<|j.x3 t ht];have:=j.rE;have:=j.kK;omega) _ (.inr ⟨rfl,rfl,rfl,rfl,rfl,rfl,rfl⟩) o u mx mc hm ao W).mono ?_;rintro S w'(⟨xl,nl,cl,xm,n,cm,x,l,v,Q,q,rfl,hcut,aa,ac,m,p,ad,ht⟩|V);rotate_left;exact .inr V;obtain⟨p1,p2,p3,p0,p4,p5⟩:=Pb hp j.s2 j.s3 v hcut m;rw[lF m]at p3 p4;obtain⟨s1,s2,s3⟩:=o l v _ ((nt _ _).trans (kj _ _):(List.take (q-Q)<|List.drop Q _).Sublist _);obtain⟨_,B,_,_⟩:=tP (ms:=u) (lowest:=ci) s1 s2 s3 W;obtain⟨qs,q0,q1,q2,q3,q4,q5⟩:=j.pB ht p m p3 B p4;have ax:=yO m p.each p3 B p4;have r:(c.take l++c.drop (l+1)).Sublist c:=by grind[TA,append_assoc,sublist_append_right]
 have ap:(d.take Q++d.drop q).Sublist d:=by grind[Yq,zv.le,append_assoc,sublist_append_right]
 refine .inl ⟨xl,nl,cl,xm,n,cm,c.take l++c.drop (l+1),d.take Q++x++d.drop q,ps++qs,rfl,?_,by simp;omega,p1,p2,ht⟩;have h':=j.aj ht ad;have A:∀t∈d.take Q++x++d.drop q,t∈d\/t∈x:=by grind
 refine{h' with news:=q1,apart:=q2,r2:=dJ aa,r3:=dJ ac,b2:=wl aa j.aO j.KL j.le,b3:=wl ac j.aO j.KL j.le,x0:=λt k=>(h'.x0 t k).more qs,x1:=λt k=>(h'.x1 t k).more qs,x2:=λt k=>(h'.x2 t<|r.subset k).more qs,x3:=?_,nodup:=?_,s2:=j.s2.sub r,s3:=?_,rE:=?_};intro t k;rcases A t k with S|S;exact(h'.x3 t S).more qs;exact q3 t S;(have hn:((a++b++(c.take l++c.drop (l+1))++(d.take Q++d.drop q)).map bz.tb).Nodup:=by refine List.Nodup.sublist (List.Sublist.map _ ?_) j.nodup;grind);(have L:(a++b++(c.take l++c.drop (l+1))++(d.take Q++x++d.drop q)).Perm (x++(a++b++(c.take l++c.drop (l+1))++(d.take Q++d.drop q))):=by(have T:a++b++(c.take l++c.drop (l+1))++(d.take Q++x++d.drop q)=(a++b++(c.take l++c.drop (l+1))++d.take Q)++x++d.drop q:=by grind);(have e2:x++(a++b++(c.take l++c.drop (l+1))++(d.take Q++d.drop q))=x++(a++b++(c.take l++c.drop (l+1))++d.take Q)++d.drop q:=by grind);rw[T,e2];exact vX _ qx);rw[(L.map bz.tb).nodup_iff,aP,jm];refine⟨q5,hn,λN P aF hy S=>?_⟩;obtain⟨t,k,rfl⟩:=bR.1 P;obtain⟨av,hu,rfl⟩:=bR.1 hy;have h1:=q4 t k;(have h2:av.tb<z (G w):=by simp only[aG]at hu;rcases hu with((T|T)|T|T)|T|T;exact XT.qC j<|j.x0 av T;exact XT.qC j<|j.x1 av T;exact XT.qC j<|j.x2 av<|dZ T;exact XT.qC j<|j.x2 av<|dQ T;exact XT.qC j<|j.x3 av<|dZ T;exact XT.qC j<|j.x3 av<|dQ T);omega;refine PO (λt k=>?_) (p1.mj _<|by simp[bU]) p0;rcases A t k with S|S;exact j.s3.pure t S;grind
 have:=j.rE;omega
def QC(w:Y)(t:bz):Prop:=t.num<18446744073709551616/\∃g cut b e f c a d,lH w t.tb g t.num cut b e f c a d t.ks
def QC.aj{w w':Y}(n:QC w O)(j:Z ay w w'):QC w' O:=by
 obtain⟨m,l,cut,c,h,k,d,a,e,g⟩:=n;exact⟨m,l,cut,c,h,k,d,a,e,g.dw (j.block _ (ak g.box) id)<|j.block _ g.lt.2 id⟩
def QC.name(k:QC a O)(n:Pow a):cY aZ 100 #[aA O.tb] a λj w'=>j=aM (am<|fQ O.num)/\Below (z<|G a) a w':=by
 obtain⟨l,i,cut,c,g,h,d,b,e,m⟩:=k;grind[Cw]
def Fb:(prog.info? 79).map (λi=>(i.zero,i.size,i.bytes))=H (H<|dC #[],0,0):=by kernel_rfl
def PY(a b c d:ab)(e f g h:cW):qd [(a,e),(b,f),(c,g),(d,h)]=(e++f++g++h).map bz.ptr:=by simp[qd]
def QY(a b c d:ab)(e f g h:cW):lO [(a,e),(b,f),(c,g),(d,h)]=y (e++f++g++h):=by simp[lO]
def mT(T a:cW):cW:=T.filter<|λt=>!(a.any<|λu=>u.num==t.num)
def OT{T T':cW}(h:b<y T):mT (T.take<|b+1) T'=mT (T.take b) T'++(if T'.any (λu=>u.num==T[b].num)then []else [T[b]]):=by
 unfold mT;rw[ai h,kU];cases hc:T'.any (λu=>u.num==T[b].num)<;>simp[hc]
def WO{T':cW}(t:bz):T'.any (λu=>u.num==t.num)=ci↔∃u∈T',am (fQ t.num)=am (fQ u.num):=by
 rw[ol];constructor;grind
 rintro⟨u,a,e⟩;refine⟨u,a,?_⟩;(have:fQ t.num=fQ u.num:=by simpa using e);rw[pX this];grind
def ny(s:SR)(T a:cW):cJ ae:=(if s.ez then [fa s.log]else [])++(mT T a).map (λt=>fQ t.num)
def IZ(fg ck F fr t u v w:cW){v3:ab}(h:cS a b o k)(hl:Dm a b 10 [(o.l0,fg),(o.l1,ck),(o.l2,F),(o.l3,fr)])(r0:Row a 1 d (y t) (t.map bz.ptr))(r1:Row a 1 s (y u) (u.map bz.ptr))(r2:Row a 1 L (y v) (v.map bz.ptr))(r3:Row a 1 v3 (y w) (w.map bz.ptr))(k0:∀k,cK d=H k->k<z (G a))(k1:∀k,cK s=H k->k<z (G a))(k2:∀k,cK L=H k->k<z (G a))(k3:∀k,cK v3=H k->k<z (G a))(hT:∀E∈fg++ck++F++fr,QC a E)(bL:∀E∈t++u++v++w,QC a E)(hp:Pow a)(fv:o.log<18446744073709551616)(fL:y (fg++ck++F++fr)<=10000000)(gb:y (t++u++v++w)<=10000000):cY aZ 170 #[aA b,dC #[d,s,L,v3]] a λdr w'=>∃v',dr=aM v'/\w'.ownsRow (z<|G a) 9 1 v' (y<|ny o (fg++ck++F++fr)<|t++u++v++w) (strs<|ny o (fg++ck++F++fr)<|t++u++v++w)/\Z ay a w':=by
 have hd:=@rq aZ;have gn:∀(et:Bool)(a:Y),(Op.unary .not<|aN et).run aZ a=.ok (aN<|!et) a:=λ_ _=>rfl;obtain⟨i0,ea,em,en,eo⟩:=di zT;obtain⟨i1,fu,gj,hf,hg⟩:=di Fb;obtain⟨x0,c0,rfl⟩:=bY r0;obtain⟨x1,c1,rfl⟩:=bY r1;obtain⟨x2,c2,rfl⟩:=bY r2;obtain⟨x3,c3,rfl⟩:=bY r3;have fx:=ak h;have eb:Dm (cN a<|aw #[I x0 (y t) c0,I x1 (y u) c1,I x2 (y v) c2,I x3 (y w) c3] 92) (z<|G a) 0 [(I x0 (y t) c0,t),(I x1 (y u) c1,u),(I x2 (y v) c2,v),(I x3 (y w) c3,w)]:=by have aU:Z ay a (cN a<|aw #[I x0 (y t) c0,I x1 (y u) c1,I x2 (y v) c2,I x3 (y w) c3] 92):=(cF _ _);have bu:(cN a<|aw #[I x0 (y t) c0,I x1 (y u) c1,I x2 (y v) c2,I x3 (y w) c3] 92).heap[z<|G a]?=H (aw #[I x0 (y t) c0,I x1 (y u) c1,I x2 (y v) c2,I x3 (y w) c3] 92 (0,0)):=aJ _ rfl;refine⟨rfl,λax hi=>?_,λax hi=>?_,λax hi=>?_,by rw[QY];omega⟩;(have:ax=0\/ax=1\/ax=2\/ax=3:=by grind);rcases this with rfl|rfl|rfl|rfl<;>(rw[cg bu];rfl);(have:ax=0\/ax=1\/ax=2\/ax=3:=by grind);rcases this with rfl|rfl|rfl|rfl;exact aU.row r0<|λk f=>⟨id,k0 k f⟩;exact aU.row r1<|λk f=>⟨id,k1 k f⟩;exact aU.row r2<|λk f=>⟨id,k2 k f⟩;exact aU.row r3<|λk f=>⟨id,k3 k f⟩;grind
 obtain⟨T,bT⟩:∃T,fg++ck++F++fr=T:=⟨_,rfl⟩;obtain⟨c,V⟩:∃c,t++u++v++w=c:=⟨_,rfl⟩;have bn:∀bx,Z ay a bx->cY aZ 99 #[cX<|H<|R b 10] bx λdr w'=>∃v',dr=aM v'/\w'.ownsRow (z<|G bx) 186 1 v' (y T) (T.map bz.ptr)/\Z ay bx w':=λbx m=>by have:=sJ (w:=bx) (lb:=b) (lo:=10) _<|hl.aj m id<|λ_ _ _ _ F=>F;rw[PY,QY,bT]at this;exact this
 have ac:∀bx,Z ay (cN a<|aw #[I x0 (y t) c0,I x1 (y u) c1,I x2 (y v) c2,I x3 (y w) c3] 92) bx->cY aZ 99 #[aA<|z<|G a] bx λdr w'=>∃v',dr=aM v'/\w'.ownsRow (z<|G bx) 186 1 v' (y c) (c.map bz.ptr)/\Z ay bx w':=λbx m=>by have:=sJ (w:=bx) (lb:=z<|G a) (lo:=0) _<|eb.aj m id<|λ_ _ _ _ F=>F;rw[PY,QY,V]at this;exact this
 rw[bT]at hT fL|-;rw[V]at bL gb|-;have cs:=U hT;have bs:=U bL;obtain⟨HB,HP,ev⟩:=dz h hp bn;have bg:=U ac;clear hT bL h hl r0 r1 r2 r3 k0 k1 k2 k3 eb bT V hp bn ac fg ck F fr;obtain⟨WB,dv⟩:∃WB,cN a (aw #[I x0 (y t) c0,I x1 (y u) c1,I x2 (y v) c2,I x3 (y w) c3] 92)=WB:=⟨_,rfl⟩;have ba:Z ay a WB:=by rw[<-dv];exact(cF _ _)
 have bE:=ba.block b fx id|>.trans HB;have fk:=cS.cellAt bE 18 rfl;have gx:=cS.cellAt bE 17 rfl;have ei:Pow WB:=HP.aj ba id;have bm:=yQ o.log fv ei;have bv:=U ba;rw[dv]at bg;clear ba bE ei;have cp:=U bm;clear bm;obtain⟨lg,bl⟩:∃lg,o.ez=lg:=⟨_,rfl⟩;have co:=U (show ny o T c=(if lg then [fa o.log]else [])++(mT T c).map (λE=>fQ E.num)by rw[<-bl];rfl);rw[bl]at fk;generalize o.log=eq at*;go_in
 cases lg;(case' false=>(go_wp2_with fail);generalize aU:WB=W5;have aF:=U (show Z ay WB W5 by rw[<-aU];exact Z.refl _ _);obtain⟨v5,l⟩:∃v5,v5=I none 0 0:=⟨_,rfl⟩;obtain⟨pre,e⟩:∃pre:cJ ae,pre=[]:=⟨_,rfl⟩;have n:=U (show W5.ownsRow (z<|G a) 9 1 v5 (y pre) (strs pre)by rw[l,e];exact cO _ _ _ _);have bf:=U (show ny o T c=pre++(mT T c).map (λE=>fQ E.num)by rw[e];exact co);(have fz:y pre<=1:=by rw[e];simp);have dc:=U l;clear aU l e);(case' true=>(go_wp2_with fail);apply cp.mono;rintro dr w2⟨rfl,dx⟩;have bu:=U<|Z.aR (S:=ay) dx;clear dx;(go_wp2_with(at_builtin;refine cA _ rfl (.tmp 17) (.tmp 23) 132 rfl (z<|G a) 9 i0 (am ⟨#[]⟩) 1 16 underlying132 ea em en eo rfl (by decide) az 0 [] rfl (cO _ _ _ _) (R (z<|G w2) 0) 1 1 [am<|fa eq] rfl rfl (oZ _ _ _) (by simp[Value.oneCell']) (by omega) (by omega) (by have:=bv.size;have:=bu.size;simp;omega) ?_;intro v3 W5 cd el;obtain⟨x5,c5,l⟩:=aB cd;subst l;have n:=U cd;have dm:=U el;clear cd el));have aF:=U<|show Z ay WB W5 from((bu.alloc _).cz<|Z.ee (S:=ay) dm.grown<|λk f=>by cases f);obtain⟨v5,l⟩:∃v5,v5=I x5 1 c5:=⟨_,rfl⟩;obtain⟨pre,e⟩:∃pre:cJ ae,pre=[fa eq]:=⟨_,rfl⟩;have aU:=J n;clear n;have n:=U (show W5.ownsRow (z<|G a) 9 1 v5 (y pre) (strs pre)by rw[l,e];exact aU);have bf:=U (show ny o T c=pre++(mT T c).map (λE=>fQ E.num)by rw[e];exact co);(have fz:y pre<=1:=by rw[e];simp);have dc:=U l;clear dm bu l e aU)
 all_goals
  have gc:=aF.size;have he:=bv.size;apply(bg (cN W5<|.map #[] 0)<|aF.alloc _).mono;rintro dr w6⟨v6,rfl,ce,aV⟩;obtain⟨x6,c6,ge⟩:=aB ce;subst ge;obtain⟨cT,fb,cx,cE⟩:=fY ((lh.new W5 .string).dw<|aV.block _ (by simp) id) (bv.cz<|(aF.alloc<|.map #[] 0).trans aV cL) ((((Z.refl ay W5).alloc<|.map #[] 0).cz aV).own n<|λ_ _ F=>F) ce;clear ce aV;obtain⟨B,ec⟩:∃B,z (G W5)=B:=⟨_,rfl⟩;rw[ec]at cT;have gk:z (G a)<=B:=by omega
  have ew:=U (show B<z (G<|cN W5<|.map #[] 0)by rw[<-ec];simp);clear gc;go_wp2_with fail
  go_loopw [28] (λax wr=>∃bd:M,bd<=y c/\ax=ar bd/\lh wr B .string (λet=>∃E∈c.take bd,et=am (fQ E.num))/\Z (λk=>k=B) w6 wr) (λax _=>y c-(intOf ax).toNat)
  case atStart=>exact⟨0,bP _,rfl,cT.congr (by simp),Z.refl _ _⟩
  case round=>
   obtain⟨bd,hn,rfl,g,N⟩:=hrel;have bb:Z ay a wr:=fb.trans N (λk f=>.inr<|by omega);by_cases C:bd<y c
   .have A:=N.own cE (λk f F=>by have:=(cE.lt k f).1;have:=J ew;omega);obtain⟨b6,gg,cb⟩:∃b6,x6=H (R b6 0)/\aW wr (R b6 bd)=H c[bd].ptr:=by
     rcases A.2 with⟨h2,h0⟩|⟨gE,fl,fn,h2,_⟩
     .omega
     .cases h2;refine⟨gE,rfl,?_⟩;have:=pz A bd c[bd].ptr (by rw[fq,aQ C];rfl);rwa[dB,dE]at this
    subst gg;have ad:=(bs c[bd]<|aq C).aj bb|>.name (HP.aj bb id);have aD:=U (show∀et,(∃E∈c.take (bd+1),et=am (fQ E.num))↔(∃E∈c.take bd,et=am (fQ E.num))\/et=am (fQ c[bd].num)fromλet=>by
     rw[ai C];grind)
    have D:=g.lt;have O:=U g;have ff:=U N;have e1:(bd:X)<(y c:X):=by omega
    clear g N bb A;unfold bz.ptr at cb;generalize fQ c[bd].num=r at*;generalize c[bd].tb=er at*;go_wp2_with fail
    apply ad.mono;rintro dr w7⟨rfl,ca⟩;have ey:=U<|O.dw<|ca.block B D;have fd:=U<|ff.cz<|Z.aR (S:=ay) ca;clear ca ad;go_wp2_with(at_mapUpdate;refine uR _ rfl _ _ _ 205 rfl 9 79 underlying205 .string underlying9 B _ rfl ey (am r) trivial rfl rfl ?_;intro w8 ej dT;have eA:=U ej;have eu:=U dT;clear ej dT)
    go_roundw;case rel=>exact⟨bd+1,C,by go_num,eA.congr aD,fd.trans (fA eu)<|λ_ F=>.inl F⟩
    case measure=>simp[intOf];omega
   .have al:bd=y c:=by omega
    rw[al,bI]at g;have e1:¬(bd:X)<(y c:X):=by omega
    have D:=g.lt;obtain⟨O,db,bh⟩:=dz g bb<|N.own cx (λk f F=>by have:=(n.lt k f).2;omega);clear g N al;go_wp2_with fail
    apply(ev wr db).mono;rintro dr w9⟨v9,rfl,cf,av⟩;obtain⟨x9,c9,gf⟩:=aB cf;subst gf;obtain⟨eB,cM,cB,fe,br,ex⟩:=lf (O.dw<|av.block B D id) cf (av.own bh<|λ_ _ F=>F) (db.cz av) (show∀k,cK v5=H k->z (G a)<=k/\k<z (G wr)/\k≠B fromλk f=>⟨(n.lt k f).1,(bh.lt k f).2,by have:=(n.lt k f).2;omega⟩)<|show B<z (G wr)/\z (G wr)<=z (G w9)from⟨D,av.size⟩;clear cf av;go_wp2_with fail
    go_loopw [5,42] (λo ax b=>∃K:M,K<=y T/\ax=ar K/\b.ownsRow (z<|G a) 9 1 o (y<|pre++(mT (T.take K) c).map (λE=>fQ E.num)) (strs<|pre++(mT (T.take K) c).map (λE=>fQ E.num))/\eE w9 b v5 o) (λ_ ax _=>y T-(intOf ax).toNat)
    case atStart=>
     refine⟨0,bP _,rfl,?_,?_⟩
     .rw[<-J dc];have:pre++(mT (T.take 0) c).map (λE=>fQ E.num)=pre:=by simp[mT]
      rw[this];exact cB
     grind[J,eE.refl]
    case round=>
     obtain⟨K,hm,rfl,ho,bc⟩:=hrel;obtain⟨ox,oc,ef⟩:=aB ho;have q:Z (λk=>cK v5=H k) w9 wr:=Z.ee bc.grown<|λk f=>.inl f;have i:Z ay a wr:=fe.trans q<|λk f=>.inr (br k f).1;have j:=eB.dw<|q.block B (by have:=J ex;omega)<|λF=>(br B F).2.2 rfl;have ch:∀k,cK u5=H k->k≠B:=λk f F=>by
      grind[eE.vp,J]
     by_cases p:K<y T
     .have A:=q.own cM (λk f F=>by have:=(cM.lt k f).1;have:=(br k F).2.1;omega);obtain⟨b9,gi,cb⟩:∃b9,x9=H (R b9 0)/\aW wr (R b9 K)=H T[K].ptr:=by
       rcases A.2 with⟨h2,h0⟩|⟨gE,fl,fn,h2,_⟩
       .omega
       .cases h2;refine⟨gE,rfl,?_⟩;have:=pz A K T[K].ptr (by rw[fq,aQ p];rfl);rwa[dB,dE]at this
      subst gi;have ao:=HP.aj i id;have x:=(cs T[K]<|aq p).aj i;have ad:=x.name ao;have bo:=λbx(m:Z ay wr bx)=>(x.aj m).name<|ao.aj m id;have aD:=U<|OT (T':=c) p;have W:=WO (T':=c) T[K];have e1:(K:X)<(y T:X):=by omega
      have cc:=j.lt;have ha:y (pre++(mT (T.take K) c).map (λE=>fQ E.num))<=20000000:=by
       have:y (mT (T.take K) c)<=y (T.take K):=ep _ _;rw[dO]at this;rw[af,dj];omega
      obtain⟨bt,HO,dn,Q,gs,cr⟩:=lf j ho bc i ch bo;clear j ho bc i ch A q bo x ao;unfold bz.ptr at cb;have cn:=U (show∀ck,c.any (λu=>u.num==T[K].num)=ck->(pre++(mT (T.take<|K+1) c).map (λE=>fQ E.num))=(pre++(mT (T.take K) c).map (λE=>fQ E.num))++(if ck then []else [fQ T[K].num])fromλck hb=>by
       rw[J aD,hb,aP,bA];cases ck<;>rfl)
      clear aD;obtain⟨gr,hr⟩:∃gr,c.any (λu=>u.num==T[K].num)=gr:=⟨_,rfl⟩;have ds:=cn gr hr;rw[hr]at W;have cm:=U ds;clear ds hr cn;generalize fs:pre++(mT (T.take K) c).map (λE=>fQ E.num)=Lm at*;clear fs;have cl:=U W;clear W;generalize ed:fQ T[K].num=r at*;clear ed;generalize T[K].tb=er at*;subst ef;go_wp2_with fail
      apply ad.mono;rintro dr es⟨rfl,aa⟩;have ap:Z ay wr es:=Z.aR aa;have bp:=bt.dw<|aa.block B cc;have hc:=BH underlying205 underlying9 fu gj bp (am r) trivial gr cl;have cu:=U<|ap.own HO<|λ_ _ F=>F;have P:=U ap;clear bp ap aa ad;cases gr with
      |true=>
       go_wp2;go_roundw;case rel=>
        refine⟨K+1,p,by go_num,?_,?_⟩
        .rw[J cm];simp only[nk,dM];exact aT cu _
        .have m:=(P.alloc<|aw #[] 79);refine dn.trans ⟨⟨m.os,m.tape,m.output,m.size,λax hi _=>m.block ax hi id⟩,.inl rfl⟩
       case measure=>simp[intOf];omega
      |false=>
       go_wp2_with fail
       apply(cr (cN es<|aw #[] 79)<|P.alloc _).mono;rintro dr cj⟨rfl,bk⟩;have au:Z ay wr cj:=(P.alloc<|aw #[] 79).cz<|Z.aR (S:=ay) bk;have cv:=U<|au.own HO<|λ_ _ F=>F;have bi:=U au;clear au bk;go_wp2_with(at_builtin;refine cA _ rfl (.tmp 55) (.tmp 58) 132 rfl (z<|G a) 9 i0 (am ⟨#[]⟩) 1 16 underlying132 ea em en eo rfl (by decide) (I ox (y Lm) oc) (y Lm) (strs Lm) rfl (aT cv<|aw #[am r] 9) (R (z<|G cj) 0) 1 1 [am r] rfl rfl (oZ _ _ _) (by simp[Value.oneCell']) (by omega) (by omega) (by have:=Q.size;have:=bi.size;simp;omega) ?_;intro hh hj an bq;obtain⟨hk,gt,ek⟩:=aB an;subst ek;have cw:=U an;have dk:=U bq;clear an bq)
       go_roundw;case rel=>
        refine⟨K+1,p,by go_num,?_,?_⟩
        .rw[J cm];simp only[tw,ru];rw[BF,af];exact cw
        .have m:=J bi;have h1:eE wr cj (I ox (y Lm) oc) (I ox (y Lm) oc):=⟨⟨m.os,m.tape,m.output,m.size,λax hi _=>m.block ax hi id⟩,.inl rfl⟩;exact dn.trans<|h1.trans<|eE.alloc _ dk
       case measure=>simp[intOf];omega
     .have al:K=y T:=by omega
      rw[al,bI,<-J bf]at ho;have e1:¬(K:X)<(y T:X):=by omega
      obtain⟨oy,od,eg⟩:=aB ho;have HO:=U ho;have Q:=U i;clear ho bc i q j ch al ef;subst eg;go_wp2;go_ret;exact⟨_,rfl,HO,Q⟩
theorem NT.mW.symm{p q:NT}(h:p.mW q):q.mW p:=λk g e=>h k e g
theorem WN{ps:cJ NT}(l:ps.Pairwise NT.mW){p q:NT}(j:p∈ps)(k:q∈ps)(h:p≠q):p.mW q:=by
 obtain⟨i,f,rfl⟩:=gO.1 j;obtain⟨m,g,rfl⟩:=gO.1 k;rw[cU]at l;rcases nr i m with e|e|e;grind
 grind
 exact(l m i g f e).symm
theorem Hh{w k:Y}{baseqq r e u j t f:M}{l:gW}(s:w.ownsRow baseqq r e (bD j 0 t f) u l)(q:k.heap[j]?=w.heap[j]?):k.ownsRow baseqq r e (bD j 0 t f) u l:=by
 refine⟨s.1,.inr ?_⟩;rcases s.2 with⟨m,_⟩|⟨v,h,g,m,n,o,p⟩;cases m;cases m;exact⟨j,f,g,rfl,n,q.trans o,p⟩
theorem Wc{e:dS}(f:Kg (bW 0 e))(h:y (dK e)<=100000):y (nC e)<=200000:=by
 have j:=mF<|λk g=>(f.can k g).fits;have:=f.len;unfold nC fI;rw[af,af,cH];omega
structure CF(w:Y)(db sb base:M)(K:DK)(b:cW)(ps:cJ NT)(T:cW)(nx0 c:M):Prop where
 le:base<=z (G w)
 aO:∀k,K.aO db k->k<base
 KL:sb<base
 xt:∀t∈T,XT b ps t
 nodup:(T.map bz.tb).Nodup
 apart:ps.Pairwise NT.mW
 news:∀p∈ps,p.Ok w base/\Nl p.t
 inj:∀t∈b,∀u∈b,t.num=u.num->t=u
 low:∀t∈b,t.num<nx0
 fresh:∀n,nx0<=n->dh (vw K.files) (fQ n)=none
 fS:Kd db sb base K 1
 ml:Kd db sb base K 2
 small:y T<=1000000
 nx:nx0<=1000000000000000
 room:K.fx.room<1000000000
 wS:K.fx.ok
 gT:y K.gT<=10000000000
def Wr(db:M)(K:DK)(ps:cJ NT)(k:M):Prop:=K.aO db k\/∃p∈ps,k=p.t.tb\/k=p.x
def Hi(nx0:M)(us:cW):cJ wM:=us.flatMap<|λu=>if nx0<=u.num then Cu u.num u.cs else []
theorem Qf(nx0:M)(us:cW)(u:bz):Hi nx0 (us++[u])=Hi nx0 us++(if nx0<=u.num then Cu u.num u.cs else []):=by simp[Hi]
structure CM(w:Y)(db sb base:M)(K:DK)(b:cW)(ps:cJ NT)(T:cW)(nx0 c:M)(wr:Y)(a:DK)(us:cW)(i num:M):Prop where
 len:y us=i
 le:i<=y T
 same:us.map (λt=>(t.tb,t.ks,t.cs))=(T.take i).map (λt=>(t.tb,t.ks,t.cs))
 zn:∀t∈b,rV wr db (vw a.files) (Kd db sb base K) t
 Nq:∀u∈us,u∈b\/∃p∈ps,p.t.tb=u.tb/\rV wr db (vw a.files) p.has u/\nx0<=u.num/\u.num<num
 rest:∀p∈ps,p.t∈T.drop i->p.Ok wr base
 files:∃gs:Fs,vw a.files=vw K.files++gs/\(∀g∈gs,∃u∈us,g=(fQ u.num,nC u.cs)/\nx0<=u.num)
 fx:Fx K.fx a.fx
 ops:mi (Hi nx0 us) K a
 qf:(us.map bz.num).Nodup
 lX:nx0<=num/\num<=nx0+i
 aI:cG wr db a
 gT:y a.gT<=y K.gT+i
 aj:Z (Wr db K ps) w wr
 aO:∀k,a.aO db k->K.aO db k\/z (G w)<=k
 steps:Steps wr
 pow:Pow wr
section
variable{w wr w2:Y}{db sbqq baseqq:M}{K a d:DK}{b:cW}{ps:cJ NT}{T us:cW}{nx0 c i num:M}
theorem CM.start(h:CF w db sbqq baseqq K b ps T nx0 c)(g:∀t∈b,rV w db (vw K.files) (Kd db sbqq baseqq K) t)(f:cG w db K)(j:Steps w)(e:Pow w):CM w db sbqq baseqq K b ps T nx0 c w K [] 0 nx0 where
 len:=rfl
 le:=bP _
 same:=by simp
 zn:=g
 Nq:=by simp
 rest:=λp e _=>(h.news p e).1
 files:=⟨[],by simp,by simp⟩
 fx:=Fx.refl _
 ops:=⟨rfl,rfl,rfl⟩
 qf:=by simp
 lX:=⟨ah _,ah _⟩
 aI:=f
 gT:=ah _
 aj:=Z.refl _ _
 aO:=λ_ h=>.inl h
 steps:=j
 pow:=e
theorem Vm(h:us.map (λt=>(t.tb,t.ks,t.cs))=(T.take i).map (λt=>(t.tb,t.ks,t.cs))):us.map bz.tb=(T.take i).map bz.tb:=by
 have:=bS (List.map Prod.fst) h;grind[map_map,Function.comp_def]
theorem Up(k:(T.map bz.tb).Nodup)(j:i<y T)(h:us.map (λt=>(t.tb,t.ks,t.cs))=(T.take i).map (λt=>(t.tb,t.ks,t.cs))):∀u∈us,u.tb≠T[i].tb:=by
 intro u m f;have e:u.tb∈(T.take i).map bz.tb:=by rw[<-Vm h];grind
 rw[f]at e;obtain⟨t,l,g⟩:=bR.1 e;grind[mem_iff_getElem,length_take,pairwise_iff_getElem]
theorem GQ(e:i<y T)(h:us.map (λt=>(t.tb,t.ks,t.cs))=(T.take i).map (λt=>(t.tb,t.ks,t.cs)))(u:bz)(f:(u.tb,u.ks,u.cs)=(T[i].tb,T[i].ks,T[i].cs)):(us++[u]).map (λt=>(t.tb,t.ks,t.cs))=(T.take<|i+1).map (λt=>(t.tb,t.ks,t.cs)):=by
 rw[ai e,aP,aP,h];grind
theorem EG{l:cJ M}{x:M}(h:l.Nodup)(e:x∉l):(l++[x]).Nodup:=by
 rw[jm];grind
theorem CM.skip(m:CF w db sbqq baseqq K b ps T nx0 c)(hm:CM w db sbqq baseqq K b ps T nx0 c wr a us i num)(f:i<y T)(h:T[i]∈b):CM w db sbqq baseqq K b ps T nx0 c wr a (us++[T[i]]) (i+1) num:=by
 have e:=Up m.nodup f hm.same;obtain⟨n,j,o⟩:=hm.files;refine{hm with len:=by rw[af,hm.len];rfl,le:=f,same:=GQ f hm.same _ rfl,Nq:=?_,rest:=?_,files:=⟨n,j,λt s=>?_⟩,ops:=by rw[Qf,dF (by have:=m.low _ h;omega),dM];exact hm.ops,qf:=?_,lX:=⟨hm.lX.1,by have:=hm.lX.2;omega⟩,gT:=by have:=hm.gT;omega};intro u g;rcases aG.1 g with l|l;exact hm.Nq u l;grind
 intro q k p;refine hm.rest q k ?_;rw[<-kI f];grind
 grind
 rw[aP];refine EG hm.qf<|λl=>?_;obtain⟨u,g,r⟩:=bR.1 l;rcases hm.Nq u g with p|⟨q,k,_,_,p,_⟩;exact e u g (by rw[m.inj u p _ h r]);have:=m.low _ h;omega
theorem CM.wrote(A:CF w db sbqq baseqq K b ps T nx0 c)(e:CM w db sbqq baseqq K b ps T nx0 c wr a us i num)(E:i<y T){p:NT}(C:p∈ps)(o:p.t=T[i])(hd:cG w2 db d)(ht:Z (λk=>a.aO db k\/k=p.t.tb\/k=p.x) wr w2)(hf:∀k,d.aO db k->a.aO db k\/z (G wr)<=k)(N:mi (Cu num p.t.cs) a d)(V:Fx a.fx d.fx)(hT:lH w2 p.t.tb (aA db) num (y<|dK p.t.cs) (y<|fI<|bW 0 p.t.cs) (mV<|fI<|bW 0 p.t.cs) p.bb 0 p.xq az (bW 0 p.t.cs))(L:num<18446744073709551616):CM w db sbqq baseqq K b ps T nx0 c w2 d (us++[{T[i]with num:=num}]) (i+1) (num+1):=by
 have al:=Up A.nodup E e.same;obtain⟨gs,D,W⟩:=e.files;have n:=(A.news p C).1;have ac:=n.lt;have au:=e.aj.size;have ao:=A.le
 have j:∀k,k<z (G w)->¬K.aO db k->¬p.has k->w2.heap[k]?=wr.heap[k]?:=λk g O h=>ht.block k (by omega) (λf=>by
  rcases f with f|f|f
  .rcases e.aO k f with x|x
   .exact O x
   .omega
  .exact h<|.inl f
  .exact h (.inr (.inr f)))
 have m:∀k,Kd db sbqq baseqq K k->w2.heap[k]?=wr.heap[k]?:=λk g=>j k (by have:=g.1;omega) g.2.1 (λf=>by have:=(ac k f).1;have:=g.1;omega);have r:∀q∈ps,q≠p->∀k,q.has k->w2.heap[k]?=wr.heap[k]?:=λq s u k g=>by have h:=(A.news q s).1.lt k g;exact j k h.2 (λf=>by have:=A.aO k f;omega)<|λf=>WN A.apart s C u k g f
 have l:dh (vw a.files) (fQ num)=none:=by
  rw[D,gh,A.fresh num e.lX.1,jk];cases f:dh gs (fQ num)with
  |none=>rfl
  |some aa=>
   obtain⟨S,P,Q,h⟩:=W _<|nU f;simp only[ib]at Q;have O:=pX Q.1;rcases e.Nq S P with x|⟨q,s,_,_,_,x⟩
   .have:=A.low S x;omega
   .omega
 obtain⟨hv,ap⟩:=Dx N l;have t:∀n e,dh (vw a.files) n=H e->dh (vw d.files) n=H e:=λn e B=>by rw[hv,gh,B];rfl
 have ad:∀{A:eV}{an:bz},rV wr db (vw a.files) A an->(∀k,A k->w2.heap[k]?=wr.heap[k]?)->rV w2 db (vw d.files) A an:=λho g=>by have h:=ho.Gg g;exact⟨h.mem,h.loc,h.ks,h.num,h.pure,h.idx,h.small,t _ _ h.file⟩
 have v:=(A.news p C).2;have F:rV w2 db (vw d.files) p.has {T[i]with num:=num}:=by rw[<-o];refine⟨⟨p.bb,0,p.xq,?_,.inr<|.inl rfl⟩,.inl rfl,n.ks,L,v.pure,v.idx,v.small,?_⟩;show lH w2 p.t.tb _ num _ _ _ p.bb 0 p.xq _ p.t.ks;rw[n.ks];exact hT;show dh (vw d.files) (fQ num)=H (nC p.t.cs);rw[hv,gh,l];simp[dh]
 refine{len:=by rw[af,e.len];rfl,le:=E,same:=GQ E e.same _ rfl,zn:=λan h0=>ad (e.zn an h0) m,Nq:=?_,rest:=?_,files:=⟨gs++[(fQ num,nC p.t.cs)],by rw[hv,D,bA],λax hg=>?_⟩,fx:=e.fx.trans V,ops:=?_,qf:=?_,lX:=⟨by have:=e.lX.1;omega,by have:=e.lX.2;omega⟩,aI:=hd,gT:=by have:=e.gT;omega,aj:=?_,aO:=?_,steps:=?_,pow:=?_};intro S P;rcases aG.1 P with f|f;(rcases e.Nq S f with x|⟨q,s,Q,ho,h,O⟩;exact .inl x;grind);rw[dp]at f;subst f;exact .inr ⟨p,C,by rw[o],F,e.lX.1,by grind⟩;intro q s O;(have u:q≠p:=λQ=>by subst Q;rw[o]at O;obtain⟨av,hj,Q⟩:=gO.1 O;rw[pR]at Q;(have aa:i+1+av<y T:=by rw[jc]at hj;omega);have h2:=cU.1 A.nodup i (i+1+av) (by simpa using E) (by simpa using aa) (by omega);grind);have h:=e.rest q s (by rw[<-kI E];grind);have B:=r q s u;exact⟨h.ks,h.num,h.pieces,h.mem.dw (B _<|.inl rfl)<|B _<|.inr<|.inl rfl,Hh h.data<|B _<|.inr<|.inr rfl,Hh h.Gp<|B _<|.inr<|.inl rfl,h.new⟩;rcases aG.1 hg with f|f;(grind);rw[dp]at f;refine⟨{T[i]with num:=num},by simp,?_,e.lX.1⟩;rw[f,o];rw[Qf,dH e.lX.1];(have h:({T[i]with num:=num}:bz).cs=p.t.cs:=by rw[o]);rw[h];exact mi.JX e.ops N;rw[aP];refine EG e.qf<|λf=>?_;obtain⟨S,P,Q⟩:=bR.1 f;have h:S.num=num:=Q;rcases e.Nq S P with x|⟨q,s,_,_,_,x⟩;have:=A.low S x;have:=e.lX.1;omega;omega;refine e.aj.trans ht<|λk g=>?_;rcases g with f|f|f;rcases e.aO k f with x|x;exact .inl<|.inl x;exact .inr x;exact .inl<|.inr ⟨p,C,.inl f⟩;exact .inl<|.inr ⟨p,C,.inr f⟩;intro k g;rcases hf k g with f|f;exact e.aO k f;grind
 exactλk g=>(dt (w:=wr)<|m _ A.fS).trans<|e.steps k g;exact e.pow.dw<|m _ A.ml
end
section
open Conc.Locks
def Nh(d:Fs)(w c:Y)(a:M)(s:SR)(K:DK)(m:cR)(e f g h:cW)(C:M):Prop:=∃b,fJ w c s.aI a K b/\b.files=K.files/\(b.gT=K.gT/\b.sm=K.sm)/\(∀k,b.aO s.aI k->K.aO s.aI k)/\cS c a s 0/\zr d c a s b m e f g h C
def Ni(w c:Y)(a:M)(s:SR)(K:DK)(m:cR)(d e f g:cW)(C:M):Prop:=∃b,fJ w c s.aI a K b/\b.files=K.files/\(b.gT=K.gT/\b.sm=K.sm)/\(∀k,b.aO s.aI k->K.aO s.aI k)/\cS c a s 0/\ST c a s b m d e f g C
def Nh.YT(p:Nh (vw i.files) a f b o i e j W u v c):Ni a f b o i e j W u v c:=by
 obtain⟨g,h,d,k,l,m,n⟩:=p;refine⟨g,h,d,k,l,m,?_⟩;rw[ST,d];exact n
def Og{sbqq:M}(j:fJ a f o.aI sbqq i i)(e:(se Q o.aI i).D A)(n:Z (se Q o.aI i).F f A):∃c,fJ a A o.aI sbqq i c/\c.files=i.files/\(c.gT=i.gT/\c.sm=i.sm)/\(∀k,c.aO o.aI k->i.aO o.aI k):=by
 obtain⟨m,c,l,d,g,h⟩:=e;exact⟨c,j.trans ⟨l,n.mono<|λk e=>.inl<|.inl e,λk e=>.inl<|g k e,h⟩,d.1,⟨d.2.2,d.2.1⟩,g⟩
def OS(a:ae)(c:X)(b:cJ (ab×cR)):ab:=if 1<=a.size/\a.size<=8 then Yl (wQ c a b)else .tuple #[am ⟨#[]⟩,aN aX,ui 3]
def Tc(d:ae)(g:X)(s:QE Q i F)(q:cS a b o k)(f:zr F a b o i e j W u v c)(B:d.size<=140737488351232):cY aZ 36 #[aA b,am d,aE g] a (λr l=>(r=aM (OS d g<|oz o e j W u v)/\(se Q o.aI i).D l/\Z (se Q o.aI i).F a l)\/Dp (se Q o.aI i) a l (se Q o.aI i).F r gE)/\∃x n p,OS d g (oz o e j W u v)=dq #[x,n,p]:=by
 obtain⟨D,C,m⟩:=bY f.mem;unfold OS;by_cases h:1<=d.size/\d.size<=8
 .rw[dH h];refine⟨VY (z<|G a) (o.l0,j) (o.l1,W) (o.l2,u) (o.l3,v) (oz o e j W u v) d g q D (y e) C m (f.E3 q) (yL o e j W u v) (λK t=>f.ZM s _<|aq t) f.Sb (ah _) f.aI.lt h (λE w x A=>by have:=(f.KO E w x A).val;omega),?_⟩;cases wQ g d (oz o e j W u v)with
  |none=>exact⟨_,_,_,rfl⟩
  |some x=>exact⟨_,_,_,rfl⟩
 rw[dF h];refine⟨(VX a b d g h B).mono ?_,_,_,_,rfl⟩;rintro r l⟨rfl,rfl⟩;exact .inl ⟨rfl,f.Sb,Z.refl _ _⟩
def cS.sep{b q:M}(h:cS a b o k):∀j,j=b->j=q->∃d t r,a.heap[j]?=H (aw d t r)/\t≠201:=λj c _=>c▸⟨_,_,_,h,by decide⟩
def Lh{Xqq:Prop}{A s W2:Y}(K:cS s b o 1)(w:zr F A b o i e j W u v c)(h:b<z (G A))(k:fJ A s o.aI b i i)(x:Below (z<|G s) s W2):cS W2 b o 1/\zr F W2 b o i e j W u v c/\∀a,(se Xqq o.aI i).D a->Z (se Xqq o.aI i).F W2 a->aW a (R b 0)=H (jN 1)/\a.frozen? (R b 0)=aX/\Nh F A (cq a (R b 0)<|jN 0) b o i e j W u v c/\∀q,Af a q->Af (cq a (R b 0)<|jN 0) q:=by
 have f:=k.trans<|tY (sbqq:=b) k.ok x;have n:=w.fj h f;have g:cS W2 b o 1:=K.aj (Z.aR (S:=ay) x) id;refine⟨g,n,λa t r=>?_⟩;have d:cS a b o 1:=(r.block b (ak g) n.wR).trans g;obtain⟨B,l,C,D,E⟩:=Og f t r;have p:=l.sb w.wR h;have m:=l.set p 0<|jN 0;exact⟨d.cell rfl,d.free,⟨B,m,C,D,E,d.lB 0,w.fj h m⟩,λq f=>f.aj (gZ b a) d.sep⟩
def SY(m:ae)(hX:QE Q i F)(h:cS a b o 0)(N:zr F a b o i e j W u v c)(hc:o.closed=aX)(hz:m.size<=140737488351232):cY aZ 14 #[aA b,am m] a λE x=>(E=aM (OS m o.aS<|oz o e j W u v)\/Q/\∃q,E=aM (gE<|eD q)/\Af x q)/\Nh F a x b o i e j W u v c:=by
 have T:=ak h;have c0:=cS.cellAt h 0 rfl;have f0:a.frozen? (R b 0)=aX:=h.free;have s:=yR N.aI N.wR 1;have K:=h.lB 1;generalize hW:cq a (R b 0) (jN 1)=B at s K;have t:=uA K;rw[hc]at t;have p:cY aZ 31 #[aA b] B λE x=>E=aM .nilIface/\Below (z<|G B) B x:=t;have HX:=U<|λC(L:Below (z<|G B) B C)=>Lh (Xqq:=Q) (W2:=C) K N T s L;have HW:=U hW;have P:=U hX;clear h N s K hc hW t hX;go_enter_defers func14,ntmps14
 go_wp2_with fail
 apply(lock_free (R b 0) _ c0 f0).mono;rintro E x⟨rfl,V⟩;rw[J HW]at V;subst x;go_wp2_with fail
 apply p.mono;rintro E C⟨rfl,L⟩;obtain⟨r,D,n⟩:=HX C L;obtain⟨k,rx,ry,rz,w⟩:=Tc m o.aS P r D hz;have c9:=cS.cellAt r 9 rfl;rw[w]at k;have S:=U w;have A:=U n;clear r D n L p w;go_wp2_with fail
 apply k.mono;rintro E w2(⟨rfl,g,l⟩|⟨hx,q,rfl,hq,g,l⟩);(all_goals obtain⟨d0,g0,hF,d⟩:=A w2 g l);(.have O:=U hF;clear g l hF k d;go_wp2;refine gN (f:=30) (args:=#[aA b]) (by simp) (by simp[go_sem]) ?_;apply(unlock_deferred (R b 0) .returning _ d0 g0).mono;rintro E u' aa⟨rfl,rfl,rfl⟩;exact⟨_,og rfl _ _ _,.inl (by rw[J S];rfl),O⟩);have O:=U hF;have HQ:=U<|d q hq;clear g l hF k d hq;go_wp2;refine gN (f:=30) (args:=#[aA b]) (by simp) (by simp[go_sem]) ?_;apply(unlock_deferred (R b 0) .returning _ d0 g0).mono;rintro E u' aa⟨rfl,rfl,rfl⟩;exact⟨_,og rfl _ _ _,.inr ⟨hx,q,rfl,HQ⟩,O⟩
def Mr(d:ae)(p:cS a b o 0)(g:ST a b o i e j W u v c)(m:o.closed=aX)(n:d.size<=140737488351232):cY aZ 14 #[aA b,am d] a λh f=>(h=aM (OS d o.aS<|oz o e j W u v)\/0<i.fx.bd/\∃q,h=aM (gE<|eD q)/\Af f q)/\Ni a f b o i e j W u v c:=by
 refine(SY d (QE.refl g.aI) p g m n).mono ?_;rintro h f⟨k,l⟩;exact⟨k,l.YT⟩
end
def TP(a:X)(b:ae)(c:dS):cR:=nR ⟨#[]⟩<|(cQ<|c.map<|fZ b).filter<|λe=>decide<|e.bO<=a
def YC(c:X)(i:ae)(b:dS):∀x∈TP c i b,x∈b.flatten:=by
 intro x h;have d:=(wG _ _).subset h;have e:=(eN _).mem_iff.1 (dL.1 d).1;obtain⟨l,f,a⟩:=bC.1 e;obtain⟨r,g,rfl⟩:=bR.1 f;exact bC.2 ⟨r,g,(dL.1 a).1⟩
def YD(c:X)(b:ae)(a:dS):y (TP c b a)<=y a.flatten:=by
 have d:=(wG ((cQ<|a.map<|fZ b).filter<|λe=>decide<|e.bO<=c) ⟨#[]⟩).length_le;have f:=ep (λe:E=>decide<|e.bO<=c)<|cQ<|a.map<|fZ b;have g:=(eN<|a.map<|fZ b).length_eq;have h:=VP b a;unfold TP;omega
def VQ(v:ab)(w:Y):(Go.method 541 87 v "From").run aZ w=.ok (305,v) w:=by kernel_rfl
def lK.list(s:kC a d e)(n:dV e)(h:∀x∈e,x.bO<18446744073709551616)(m:y e<=1000000000000)(i:∀j,cK d=H j->j<b/\¬r.F j)(g:b<=z (G a))(hF:∀o,r.F o->o<b):lK r b (.iface 87 d) e a:=by
 refine⟨_,d,_,d,rfl,VQ d,enters_of func305 (by kernel_rfl) rfl,λp v c k=>?_⟩;apply(Ff r b p (s.same c i) n h m (λj f=>⟨(i j f).2,ag (ag (i j f).1 g) c.1⟩) (aC g c.1) hF).mono;rintro A w⟨q,S,rfl,l,f,t⟩;refine⟨q,S,rfl,l,r.eY k (Z.aR (S:=ay) f) cL,Z.aR f,λo u=>?_⟩;grind
def zr.JA(d:QE Q i F)(h:zr F a b o i e j W u v c):∀r∈oz o e j W u v,lK (se Q o.aI i) (z<|G a) r.1 r.2 a:=by
 have hF:∀k,(se Q o.aI i).F k->k<z (G a):=h.aI.lt;have l:=h.count;intro r f;simp only[oz,bJ,aG,qG,bR,gu,mO]at f;rcases f with rfl|((⟨t,g,rfl⟩|rfl)|rfl)|rfl;exact lK.list h.mem h.mj (λx d=>(h.iP x d).b1) (show y e<=1000000000000 by have:=h.len;omega) (λk a=>⟨(h.sI k a).lt,(h.sI k a).aO⟩) (ah _) hF;exact lK.table (DT d (h.l0.each t g) h.kA) (ah _) hF;exact lK.yj (vM d h.l1 h.kA h.s1<|by omega) (ah _) hF;exact lK.yj (vM d h.l2 h.kA h.s2<|by omega) (ah _) hF;exact lK.yj (vM d h.l3 h.kA h.s3<|by omega) (ah _) hF
def ST.JA(h:ST a b o i e j W u v c):∀r∈oz o e j W u v,lK (nD o.aI i) (z<|G a) r.1 r.2 a:=zr.JA (QE.refl h.aI) h
section
open Shelf
attribute [local go_sem] Oper.semAt_some
def Mk:(prog.info? 69).map (λi=>(i.zero,i.size,i.bytes))=H (H<|dC #[am ⟨#[]⟩,am ⟨#[]⟩],2,32):=by kernel_rfl
def F9(p:KV):∀u∈sK p,u.oneCell'=ci:=by
 intro u a;simp[sK]at a;rcases a with rfl|rfl<;>rfl
def ZL(w:Y)(p:KV)(t:TypeId):∀j u,(sK p)[j]?=H u->aW (cN w<|aw #[am p.1,am p.2] t) (((R (z<|G w) 0):Addr).add j)=H u:=by
 intro j u a;rw[dB];have h:(cN w<|aw #[am p.1,am p.2] t).heap[z<|G w]?=H (aw #[am p.1,am p.2] t (0,0)):=aJ _ rfl;rw[cg h,dE];simpa[sK]using a
def Vx(l:kD)(p:KV):jL (l++[p])=jL l++sK p:=by simp[jL]
def PA(V:iV)(b:Y)(c:ae)(a:X)(n:M)(d:kD)(B:eV)(W:Y):Prop:=Acc V.F b [(z<|G b,am c,9),(z (G b)+1,ar a,3),(z (G b)+2,az,64),(z (G b)+3,.nilIface,47)] (z (G b)+4) 64 69 2 (z (G b)+5) n (jL d) B W
def PZ(V:iV)(a:Y)(B:eV)(W:Y):Prop:=∃x n c q,V.Xp/\Af W q/\eP W (z (G a)+2) (I x n c) 64/\eP W (z (G a)+3) (eD q) 47/\V.D W/\Z V.F a W/\B (z (G a)+2)/\B (z (G a)+3)
def PZ.stays{T:eV}(x:PZ r a p f)(c:Z T f A)(g:∀k,T k->¬p k/\b<=k/\∃L,f.heap[k]?=H (.loop L))(h:∀k,T k->¬p k/\z (G a)<=k)(hF:∀k,T k->¬r.F k):PZ r a p A:=by
 obtain⟨B,b,e,q,v,⟨d,j,i⟩,n,o,u,t,l,m⟩:=x;refine⟨B,b,e,q,v,⟨d,(c.block _ (ak j)<|λe=>?_).trans j,i⟩,(c.block _ (ak n)<|λe=>(g _ e).1 l).trans n,(c.block _ (ak o)<|λe=>(g _ e).1 m).trans o,r.eY u c hF,t.trans c<|λk w=>.inr (h k w).2,l,m⟩;obtain⟨L,s⟩:=(g _ e).2.2;rw[j]at s;cases s
def RU(n0:M)(p0 p1 p2 p3:ab×cW)(l:cJ (ab×cR))(lo p:ae)(c bt:X)(h:cS a b o k)(mx:Option Addr)(mn mc:M)(dv:o.memory=I mx mn mc)(hl:Dm a b 10 [p0,p1,p2,p3])(br:l.map (·.1)=xQ o.memory p0 p1 p2 p3)(hR:∀gE(p:gE<y l),lK r n0 l[gE].1 l[gE].2 a)(hD:r.D a)(gj:n0<=z (G a))(hF:∀k,r.F k->k<n0)(gx:∀bT∈TP bt lo (l.map (·.2)),bT.key.size<=281474976710656/\bT.val.size<=281474976710656)(au:y (TP bt lo<|l.map (·.2))<=1000000000):cY aZ 121 #[aA b,am lo,am p,ar c,aE bt] a λca w'=>(∃v',ca=aM (dq #[v',.nilIface])/\w'.ownsRow (z<|G a) 69 2 v' (y<|Cg p c []<|((TP bt lo<|l.map (·.2)).filter<|λca=>!ca.del).map ze) (jL<|Cg p c []<|((TP bt lo<|l.map (·.2)).filter<|λca=>!ca.del).map ze)/\r.D w'/\Z r.F a w')\/∃bT jK v,Dp r a w' r.F ca (λej=>dq #[I bT jK v,ej]):=by
 obtain⟨ha,hL⟩:∃ha,(TP bt lo<|l.map (·.2)).filter (λca=>!ca.del)=ha:=⟨_,rfl⟩;rw[hL];obtain⟨bi,hP⟩:∃bi,Cg p c [] (ha.map ze)=bi:=⟨_,rfl⟩;rw[hP];have cr:=U hL;have hn:=U hP;clear hL hP;have ey:y l<=1000000000:=by(have au:y (pt p0 p1 p2 p3)+1=y l:=by have:=bS y br;simp[xQ]at this;omega);have:=hl.small;rw[<-au];simp[pt,lO]at this|-;omega
 obtain⟨i0,hY,iv,jA,jB⟩:=di Mk;have P:Z ay a (cN (cN (cN (cN (cN a<|aw #[am p] 9)<|aw #[ar c] 3)<|aw #[az] 64)<|aw #[.nilIface] 47)<|aw #[az] 64):=((((cF ay a).alloc _).alloc _).alloc _).alloc _;have bv:z (G<|cN (cN (cN (cN (cN a<|aw #[am p] 9)<|aw #[ar c] 3)<|aw #[az] 64)<|aw #[.nilIface] 47)<|aw #[az] 64)=z (G a)+5:=by simp
 have ed:eP (cN (cN (cN (cN (cN a<|aw #[am p] 9)<|aw #[ar c] 3)<|aw #[az] 64)<|aw #[.nilIface] 47)<|aw #[az] 64) (z<|G a) (am p) 9:=eP.alloc (eP.alloc (eP.alloc (eP.alloc (aJ _ rfl) _) _) _) _;have ef:eP (cN (cN (cN (cN (cN a<|aw #[am p] 9)<|aw #[ar c] 3)<|aw #[az] 64)<|aw #[.nilIface] 47)<|aw #[az] 64) (z (G a)+1) (ar c) 3:=eP.alloc (eP.alloc (eP.alloc (aJ _<|by simp) _) _) _;have t:eP (cN (cN (cN (cN (cN a<|aw #[am p] 9)<|aw #[ar c] 3)<|aw #[az] 64)<|aw #[.nilIface] 47)<|aw #[az] 64) (z (G a)+2) az 64:=eP.alloc (eP.alloc (aJ _<|by simp) _) _;have u:eP (cN (cN (cN (cN (cN a<|aw #[am p] 9)<|aw #[ar c] 3)<|aw #[az] 64)<|aw #[.nilIface] 47)<|aw #[az] 64) (z (G a)+3) .nilIface 47:=eP.alloc (aJ _<|by simp) _;have eg:eP (cN (cN (cN (cN (cN a<|aw #[am p] 9)<|aw #[ar c] 3)<|aw #[az] 64)<|aw #[.nilIface] 47)<|aw #[az] 64) (z (G a)+4) az 64:=aJ _ (by simp);obtain⟨W5,hH⟩:∃W5,(cN (cN (cN (cN (cN a<|aw #[am p] 9)<|aw #[ar c] 3)<|aw #[az] 64)<|aw #[.nilIface] 47)<|aw #[az] 64)=W5:=⟨_,rfl⟩;rw[hH]at P bv ed ef t u eg;have gi:=Ei p0 p1 p2 p3 ((P.block b (ak h) id).trans h) mx mn mc dv<|hl.aj P id<|λ_ _ _ _ v=>v;have ds:y (pt p0 p1 p2 p3)+1=y l:=by have:=bS y br;simp[xQ]at this;omega
 rw[ds,<-br]at gi;have gc:∀w6 v6,w6.ownsRow (z<|G W5) 169 1 v6 (y l) (l.map (·.1))->Z ay W5 w6->cY aZ 186 #[v6,am lo,aE bt] w6 λca w'=>∃v' b,ca=aM v'/\jf r n0 v' (TP bt lo<|l.map (·.2)) b w'/\r.D w'/\Z r.F a w'/\(∀k,b k->z (G a)+5<=k)/\Z r.F W5 w':=by intro w6 v6 bb Q;have e:Z ay a w6:=P.cz Q;refine(ZS n0 l lo bt (dJ bb) (λk d=>⟨(bb.lt k d).2,λhf=>by have:=hF k hf;have:=(bb.lt k d).1;omega⟩) ey (λgE p=>(hR gE p).same<|e.same gj cL cL) (r.eY hD e cL) (aC gj e.size) hF).mono ?_;rintro ca w7⟨v7,S7,rfl,dr,aV,bE,cd⟩;refine⟨v7,S7,rfl,dr,aV,(e.mono (T:=r.F) cL).trans bE<|λ_ v=>.inl v,λk d=>?_,(Q.mono (T:=r.F) cL).trans bE<|λ_ v=>.inl v⟩;have:=cd k d;have:=Q.size;omega
 have hk:=U gc;have cu:=U<|And.intro ed (And.intro ef (And.intro t (And.intro u (And.intro eg bv))));clear gc P bv ed ef t u eg;obtain⟨hz,HF,em,HH,HL,kb,HR,HD,ka⟩:=yr gx hF au h hl br hR hD dv;clear h hl br hR hD dv gx au hF ds;refine(dP (n:=3)).1 ?_;refine callsIn_of_wp_marks func121 rfl trivial ?_ rfl;simp only[ntmps121,fo,aY,dG,Nat.reduceAdd,Nat.reduceSub,eM,eL,fp,eX,cV,df];gi_wp2_with(refine⟨trivial,?_⟩;gi_at_call 74;refine(dP.2<|gi).mono ?_;rintro ca w6⟨v6,rfl,bb,Q⟩;obtain⟨x6,c6,it⟩:=aB bb;subst it;have hm:=U bb;have hx:=U Q;clear bb Q)
 gi_wp2_with(refine⟨trivial,?_⟩;gi_at_call 186;refine(dP.2<|hk _ _ hm hx).mono ?_;rintro ca w7⟨v7,S7,rfl,dr,aV,bE,cd,cn⟩;obtain⟨f7,eo,rfl,fu,ge⟩:=dr;have hj:=U<|show jf r n0 (.func (.func f7) #[] eo) (TP bt lo<|l.map (·.2)) S7 w7 from⟨f7,eo,rfl,fu,ge⟩;have hg:=U aV;have hy:=U bE;have hu:=U cd;have bp:=U cn;clear aV bE cd fu ge cn)
 gi_wp2_with(refine⟨trivial,?_⟩;gi_at_call 185;refine(dP.2<|Ll hj).mono ?_;rintro ca w8⟨v8,S8,rfl,hW,ba,eA⟩;obtain⟨f8,bq,rfl,fv,al⟩:=hW;have hi:=U fv;have hp:=U al;have he:=U ba;have hw:=U eA;clear fv al ba eA)
 gi_wp2_with(refine⟨trivial,?_⟩;gi_at_call 184;refine(dP.2<|MF f8 bq w8).mono ?_;rintro ca w9⟨rfl,kt⟩;subst w9)
 have al:=J hp;rw[J cr]at al;have ba:=J he;have ko:=al.own.size;have hF:∀k,r.F k->k<z (G a):=λk d=>by have:=HF k d;omega
 have il:Z r.F a w8:=hy.cz<|Z.aR (S:=ay) ba;have jE:∀k,S8 k->z (G a)+5<=k:=λk d=>by rcases hw k d with v|v;exact hu k v;have:=bp.size;have:=cu.2.2.2.2.2;omega
 obtain⟨W9,ce⟩:∃W9,cN w8 (aw #[.func (.func f8) #[] bq] 237)=W9:=⟨_,rfl⟩;have bh:Z ay w8 W9:=by rw[<-ce];exact(cF ay w8)
 have hJ:eP W9 (z<|G w8) (.func (.func f8) #[] bq) 237:=by rw[<-ce];exact aJ _ rfl
 have ks:z (G W9)=z (G w8)+1:=by rw[<-ce];simp
 have bc:Z r.F a W9:=il.cz bh;have gn:Z r.F W5 W9:=(bp.cz<|Z.aR (S:=ay) ba).cz bh;have gg:Bt r n0 f8 bq ha S8 W9:=al.same<|bh.same al.own.size (λk d=>⟨(al.own.each k d).2,λv=>v⟩) cL;have hE:r.D W9:=r.eY (r.eY hg (Z.aR (S:=ay) ba) cL) bh cL;have jH:z (G a)+5<=z (G w8):=by have:=bp.size;have:=cu.2.2.2.2.2;have:=ba.size;omega
 have hC:PA r a p c 0 [] (λk=>k=z (G a)\/k=z (G a)+1\/k=z (G a)+2\/k=z (G a)+3\/k=z (G a)+4) W9:=by obtain⟨g,i,n,x3,e,bv⟩:=J cu;have d:∀{b:M}{ej:ab}{t:TypeId},eP W5 b ej t->z (G a)<=b->eP W9 b ej t:=λhc V=>(gn.block _ (ak hc) (λv=>by have:=hF _ v;omega)).trans hc;refine⟨?_,⟨az,d e (by omega),cO _ _ _ _,λk=>by simp[cK];omega⟩,?_,by omega,bc⟩;(grind);grind
 rw[ce];have hP:=J hn;refine uv (arg:=JW) (m:=3) (V:=r) (n0:=n0) (gf:=232) (lb:=#[aA<|z<|G w8]) (pp:=E9 r ha) (ff:=ZX ha) (S:=λk=>S8 k\/k=z (G w8)) (λ_ h=>.inr<|.inr h) ?geval (enters_of func232 (by kernel_rfl) rfl) (λbT=>by cases bT<;>rfl) (Ih 2 bq hJ hi gg (by omega) (λv=>by have:=(al.own.each _ v).2;omega)) hE (by omega) ?slt (λl' bm W=>∃pre,l'=pre.map Sum.inl/\PA r a p c (y pre) (pre.map ze) bm W/\(∀rest,ha=pre++rest->bi=Cg p c (pre.map ze) (rest.map ze))) (λv _ bm W=>(v=.exit 0/\PA r a p c (y bi) bi bm W/\r.D W)\/(v=.ret/\PZ r a bm W)) (λk=>k=z (G a)\/k=z (G a)+1\/k=z (G a)+2\/k=z (G a)+3\/k=z (G a)+4) ⟨[],rfl,hC,λrest hr=>by rw[<-hP,hr];rfl⟩ ?sb ?lt ?st ?xst ?body ?done ?stop;case geval=>rfl
 (case slt=>rintro k(v|v);have:=(gg.own.each k v).2;exact this;omega);(case sb=>grind);(case lt=>rintro _ bm W⟨pre,rfl,h,_⟩k d;have:=h.lt k d;grind);(case st=>rintro _ bm W W' hb⟨pre,rfl,h,e⟩ht hT;refine⟨pre,rfl,h.stays ht<|λk d=>⟨(hT k d).1,?_⟩,e⟩;have:=bc.size;grind);(case xst=>rintro v pre bm W W' hb h ht hT;have:=bc.size;have e:∀k,hb k->¬bm k/\z (G a)<=k:=λk d=>⟨(hT k d).1,by have:=(hT k d).2.1;omega⟩;(have aa:∀k,hb k->¬r.F k:=λk d hf=>by have:=(e k d).2;have:=hF k hf;omega);rcases h with⟨h1,h2,h3⟩|⟨h1,h2⟩;exact .inl ⟨h1,h2.stays ht<|λk d=>⟨(e k d).1,.inr (e k d).2⟩,r.eY h3 ht aa⟩;exact .inr ⟨h1,h2.stays ht hT e aa⟩);(case stop=>rintro ch v pre bm W hG(⟨rfl,T,F⟩|⟨rfl,hZ⟩)ad hK;rotate_left;(.obtain⟨bT,jK,v,q,hX,hq,h2,h3,F,e,b2,b3⟩:=hZ;have C:=gF W ch<|.deferred none;(have aa:∀k,z (G a)<=k->¬r.F k:=λk d hf=>by have:=hF k hf;omega);(have V:z (G a)<=ch:=by have:=bc.size;omega);gi_wp2;refine⟨by simp,.inl ⟨_,_,rfl,run_takeDeferred hK,?_⟩⟩;refine⟨_,tH rfl underlying64 _ _ (z (G a)+2) (z (G a)+3) (I bT jK v) (eD q) rfl rfl ?_ ?_,?_⟩;exact(eP.cell<|(C.block _ (ak h2)<|λv=>ad<|v▸b2).trans h2);exact(eP.cell<|(C.block _ (ak h3)<|λv=>ad<|v▸b3).trans h3);refine .inr ⟨bT,jK,v,hX,q,rfl,?_,r.eY F C (λk d=>by rw[d];exact aa _ V),e.trans C<|λk d=>.inr<|by omega⟩;obtain⟨bL,hq,dT⟩:=hq;exact⟨bL,(C.block _ (ak hq) (λv=>by rw[v,hK]at hq;cases hq)).trans hq,dT⟩);obtain⟨ej,hv,j,L⟩:=T.row;have bs:aW W (R (z (G a)+1+1+1+1) 0)=H ej:=hv.cell;have t:=T.fix (z (G a)+2,az,64) (by simp);have u:=T.fix (z (G a)+3,.nilIface,47) (by simp);have fl:aW W (R (z (G a)+1+1) 0)=H az:=t.cell;have fx:W.frozen? (R (z (G a)+1+1) 0)=aX:=t.free;have fn:aW W (R (z (G a)+1+1+1) 0)=H .nilIface:=u.cell;have fz:W.frozen? (R (z (G a)+1+1+1) 0)=aX:=u.free;obtain⟨x,w,bf⟩:=aB j;obtain⟨cv,cw,HC,HV,aF,bk,aD,HK⟩:=CV t u T hv j L F hK;clear T hv j L F hK t u;subst bf;gi_wp2;have hB:=J bk;have T:=J HC;have n1:ch≠z (G a)+2:=λv=>ad<|(hB _).2<|.inl ⟨(z (G a)+2,az,64),by simp,v.symm⟩;have n2:ch≠z (G a)+3:=λv=>ad<|(hB _).2<|.inl ⟨(z (G a)+3,.nilIface,47),by simp,v.symm⟩;have n3:¬cK (I x (y bi) w)=H ch:=λv=>ad<|(hB _).2<|.inr<|.inr v;(have cM:(cq (cq W (R (z (G a)+2) 0)<|I x (y bi) w) (R (z (G a)+3) 0) .nilIface).heap[ch]?=H (.deferred<|H []):=by rw[jd _ n2,jd _ n1];exact HK);have ao:eP (cq (cq W (R (z (G a)+2) 0)<|I x (y bi) w) (R (z (G a)+3) 0) .nilIface) (z (G a)+2) (I x (y bi) w) 64:=(cv.set _).other _ (by omega);have ap:eP (cq (cq W (R (z (G a)+2) 0)<|I x (y bi) w) (R (z (G a)+3) 0) .nilIface) (z (G a)+3) .nilIface 47:=(cw.other _<|by omega).set _;have C:=gF (cq (cq W (R (z (G a)+2) 0)<|I x (y bi) w) (R (z (G a)+3) 0) .nilIface) ch<|.deferred none;have ac:Z (λk=>k=z (G a)+2\/k=z (G a)+3) W (cq (cq W (R (z (G a)+2) 0)<|I x (y bi) w) (R (z (G a)+3) 0) .nilIface):=((Z.refl (λk=>k=z (G a)+2\/k=z (G a)+3) W).setCell _ 0 _<|.inl<|.inl rfl).setCell _ 0 _<|.inl<|.inr rfl;have bd:=(ac.mono (T:=λk=>k=z (G a)+2\/k=z (G a)+3\/k=ch)<|λk d=>.inl<|d.elim .inl<|λv=>.inr<|.inl v).trans C<|λk d=>.inl<|.inr<|.inr d;(have aa:∀k,z (G a)<=k->¬r.F k:=λk d hf=>by have:=hF k hf;omega);(have V:∀k,(k=z (G a)+2\/k=z (G a)+3\/k=ch)->z (G a)<=k:=by have:=bc.size;rintro k(v|v|v)<;>omega);refine⟨by simp,.inl ⟨_,_,rfl,run_takeDeferred cM,?_⟩⟩;refine⟨_,tH rfl underlying64 _ _ (z (G a)+2) (z (G a)+3) (I x (y bi) w) .nilIface rfl rfl ?_ ?_,?_⟩;exact(eP.cell<|(C.block _ (ak ao)<|λv=>n1 v.symm).trans ao);exact(eP.cell<|(C.block _ (ak ap)<|λv=>n2 v.symm).trans ap);refine .inl ⟨_,rfl,?_,r.eY aD bd<|λk d=>aa k<|V k d,T.aj.trans bd<|λk d=>.inr<|V k d⟩;have j:=J aF;have iu:=bd.own j (λk d v=>by have:=(j.lt k d).1;grind);obtain⟨h1,⟨h2,h0⟩|⟨hd,hA,cx,h2,hc,s⟩⟩:=iu;exact⟨h1,.inl ⟨h2,h0⟩⟩;exact⟨h1,.inr ⟨hd,hA,cx,h2,by omega,s⟩⟩)
 case body=>
  rintro lr _ bT bm W ds cB⟨gb,LL,ex⟩bu⟨pre,rfl,T,hcut⟩F;cases bT with
  |inr q=>
   obtain⟨hX,hq⟩:r.Xp/\Af W q:=by
    rcases bu with⟨ax,h,_⟩|⟨ax,q',h,hX,hq⟩
    .have:Sum.inr q∈ax.map (Sum.inl (β:=M)):=by rw[<-h];simp
     simp at this
    .have:=mz h rfl;cases this;exact⟨hX,hq⟩
   obtain⟨HC,aD,HQ,cc⟩:=fY T F hq ex;clear T F hq ex bu hcut;unfold JW wo;simp only;gi_wp2;refine⟨(cF _ _),λn K=>?_⟩;have D:Z ay W (cN W<|aw #[am ⟨#[]⟩,am ⟨#[]⟩,aN aX,aE 0] 171):=cF _ _;have O:PA r a p c (y pre) (pre.map ze) bm n:=(HC.stays D cL).stays K (λk d=>by grind);have bo:Af n q:=by
    obtain⟨bL,h,dT⟩:=J HQ;have h1:=(D.block q (ak h) id).trans h;refine⟨bL,(K.block q (ak h1)<|λv=>?_).trans h1,dT⟩;rw[v,J cc]at h;cases h
   have aU:r.D n:=r.eY (r.eY aD D cL) K (λk d hf=>by have:=hF k hf;have:=bc.size;omega);obtain⟨ej,hv,j,L⟩:=O.row;have t:=O.fix (z (G a)+2,az,64) (by simp);have u:=O.fix (z (G a)+3,.nilIface,47) (by simp);have bs:aW n (R (z (G a)+1+1+1+1) 0)=H ej:=hv.cell;have fl:aW n (R (z (G a)+1+1) 0)=H az:=t.cell;have fx:n.frozen? (R (z (G a)+1+1) 0)=aX:=t.free;have fn:aW n (R (z (G a)+1+1+1) 0)=H .nilIface:=u.cell;have fz:n.frozen? (R (z (G a)+1+1+1) 0)=aX:=u.free;obtain⟨x,w,bf⟩:=aB j;have b2:bm (z (G a)+2):=(L _).2<|.inl ⟨(z (G a)+2,az,64),by simp,rfl⟩;have b3:bm (z (G a)+3):=(L _).2<|.inl ⟨(z (G a)+3,.nilIface,47),by simp,rfl⟩;have ac:Z (λk=>k=z (G a)+2\/k=z (G a)+3) n (cq (cq n (R (z (G a)+2) 0)<|I x (y pre) w) (R (z (G a)+3) 0)<|eD q):=((Z.refl (λk=>k=z (G a)+2\/k=z (G a)+3) n).setCell _ 0 _<|.inl<|.inl rfl).setCell _ 0 _<|.inl<|.inr rfl;have bn:Af (cq (cq n (R (z (G a)+2) 0)<|I x (y pre) w) (R (z (G a)+3) 0)<|eD q) q:=bo.aj ac (by
    rintro k(rfl|rfl)_
    .exact⟨_,64,_,t,by decide⟩
    .exact⟨_,47,_,u,by decide⟩)
   have N:=r.eY aU ac (by rintro k(rfl|rfl)hf<;>have:=hF _ hf<;>omega);have V:∀k,(k=z (G a)+2\/k=z (G a)+3)->z (G a)<=k:=by rintro k(v|v)<;>omega
   have bl:Z r.F a (cq (cq n (R (z (G a)+2) 0)<|I x (y pre) w) (R (z (G a)+3) 0)<|eD q):=O.aj.trans ac<|λk d=>.inr<|V k d;have bx:z (G W)+1<=z (G n):=by have:=K.size;simp_all
   have bg:Z (λk=>bm k\/k=lr) W (cq (cq n (R (z (G a)+2) 0)<|I x (y pre) w) (R (z (G a)+3) 0)<|eD q):=((D.mono (T:=λk=>bm k\/k=lr) cL).trans K<|λk d=>.inl<|.inr d).trans ac (by
    rintro k(rfl|rfl)
    .exact .inl<|.inl b2
    .exact .inl (.inl b3))
   have av:(cq (cq n (R (z (G a)+2) 0)<|I x (y pre) w) (R (z (G a)+3) 0)<|eD q).heap[lr]?=n.heap[lr]?:=ac.block lr (ag (Nat.lt_succ_of_lt gb) bx) (by
    rintro(rfl|rfl)
    .exact cB b2
    .exact cB b3)
   have hZ:PZ r a bm (cq (cq n (R (z (G a)+2) 0)<|I x (y pre) w) (R (z (G a)+3) 0)<|eD q):=⟨x,y pre,w,q,hX,bn,(t.set _).other _ (by omega),(u.other _<|by omega).set _,N,bl,b2,b3⟩;obtain⟨HZ,ck,cj⟩:=dz hZ bg av;clear O bo aU hv j L t u ac bn N bl bg av hZ D K;subst bf;gi_wp2;exact⟨bm,.inr ⟨rfl,HZ⟩,ck,cj,λk d=>.inl d⟩
  |inl bT=>
  obtain⟨rest,s⟩:∃rest,(pre++[bT])++rest=ha:=by
   rcases bu with⟨ax,h,D,hr⟩|⟨ax,q',h,hX,hq⟩
   .refine⟨D,?_⟩;have:(pre++[bT]).map Sum.inl=ax.map (Sum.inl (β:=M)):=by simpa using h
    rw[tj<|λ_ _=>Sum.inl.inj]at this;rw[this,hr]
   .have:=mz h rfl;cases this
  have fs:=hcut (bT::rest) (by rw[<-s];simp);have au:y pre+1<=1000000000:=by
   have h1:=bS y s;have h2:=bS y cr;have h3:=ep (λca=>!ca.del)<|TP bt lo<|l.map (·.2);have D:=J em;grind
  have ei:bT.key.size<=281474976710656/\bT.val.size<=281474976710656:=hz bT (by
   have:bT∈(TP bt lo<|l.map (·.2)).filter (λca=>!ca.del):=by rw[J cr,<-s];simp
   grind)
  have ih:pre.map ze++[ze bT]=(pre++[bT]).map ze:=by simp
  obtain⟨HC,aD,el,jD,hs⟩:=iO T F fs hcut s;clear T F fs hcut s;obtain⟨e,i,A,g⟩:=bT;unfold JW E.value;simp only at ei;simp only;gi_wp2;refine⟨(cF _ _),λn K=>?_⟩;have O:PA r a p c (y pre) (pre.map ze) bm n:=(HC.stays ((Z.refl ay W).alloc<|aw #[am e,am i,aN A,aE g] 171) cL).stays K (λk d=>by grind);have cE:iM n (z<|G W) ⟨e,i,A,g⟩:=iM.aj (aJ _ rfl) K (by omega);obtain⟨ej,hv,j,L⟩:=O.row;have hM:aW n (R (z<|G a) 0)=H (am p):=(O.fix (z<|G a,am p,9)<|by simp).cell;have hN:aW n (R (z (G a)+1) 0)=H (ar c):=(O.fix (z (G a)+1,ar c,3)<|by simp).cell;have bs:aW n (R (z (G a)+4) 0)=H ej:=hv.cell;obtain⟨x,w,bf⟩:=aB j;obtain⟨dk,dm,hS,hU⟩:=cE.cells;obtain⟨ek,HV,aF,bk,en,hh⟩:=lf O hv j L K cE;have gk:z (G W)+1<=z (G n):=by have:=K.size;simp_all
  clear O cE hv j L K;subst bf;have jI:=gk;have cf:Z (λk=>bm k\/k=lr) W n:=((Z.refl (λk=>bm k\/k=lr) W).alloc<|aw #[am e,am i,aN A,aE g] 171).trans en<|λk d=>.inl<|.inr d;have aa:∀k,z (G a)<=k->¬r.F k:=λk d hf=>by have:=hF k hf;omega
  have aU:r.D n:=r.eY (r.eY aD (cF ay W) cL) en (λk d=>by grind);by_cases B:(!(p.toList==[])&&!ja e p)=ci
  .have an:bi=pre.map ze:=by
    rw[J el,cy,Cg];exact dH B
   have fe:(p.toList==[])=aX:=by cases h1:(p.toList==[])<;>simp[h1]at B|-
   have db:ja e p=aX:=by cases h2:ja e p<;>simp[h2]at B|-
   unfold ja at db;obtain⟨cs,cp,cb⟩:=dz cf aU an;clear cf aU an B;gi_wp2;refine⟨bm,.inl ⟨rfl,?_,cp⟩,cs,rfl,λk d=>.inl d⟩;rw[J cb,dj];exact ek
  .have dx:(p.toList==[])=ci\/((p.toList==[])=aX/\ja e p=ci):=by
    cases h1:(p.toList==[])<;>cases h2:ja e p<;>simp[h1,h2]at B|-
   have cl:bi=if((y pre:X)+1==c)=ci then pre.map ze++[ze ⟨e,i,A,g⟩]else Cg p c (pre.map ze++[ze ⟨e,i,A,g⟩]) (rest.map ze):=by
    rw[J el,cy,Cg,dj];exact dF B
   have cj:=U cl;have bg:=ak hh;have cm:=ak HV;have bl:aW n.drew (R (z (G a)+1+1+1+1) 0)=H (I x (y pre) w)/\aW n.drew (R (z<|G W) 0)=H (am e)/\aW n.drew (R (z<|G W) 1)=H (am i):=⟨bs,dk,dm⟩;have bo:=U (show∀N,Z ay n N->aW N (R (z (G a)+1+1+1+1) 0)=H (I x (y pre) w)/\aW N (R (z<|G W) 0)=H (am e)/\aW N (R (z<|G W) 1)=H (am i)fromλN hX=>⟨hX.cell bl.1 id cm,hX.cell bl.2.1 id bg,hX.cell bl.2.2 id bg⟩);have hO:=λW=>sY e W ei.1;have fr:=λW=>sY i W ei.2;have hI:z (G a)+5<=z (G n):=by omega
   have cs:=U cf;have cp:=U aU;clear cf aU B cl;rcases dx with fe|⟨fe,db⟩;case' inl=>gi_wp2_with fail
   case' inr=>unfold ja at db;gi_wp2_with fail
   all_goals
    rename_i QQ KK ew;refine uu (λN=>aW N (R (z (G a)+1+1+1+1) 0)=H (I x (y pre) w)/\aW N (R (z<|G W) 0)=H (am e)/\aW N (R (z<|G W) 1)=H (am i)) 10 (by kernel_rfl) (by kernel_rfl) (λkv a h=>h) ?_;refine fh 0 ?_;iterate 3 (refine iz (v:=?_) bl rfl (by kernel_rfl) lk rfl ?_ ?_;rotate_left;(focus(rintro N⟨z0,z1,z2⟩;go_simp;try rfl));simp only[Act.put,dW,Nat.reduceAdd])
    apply ii;refine fh 4 ?_;iterate 2 (refine iz (v:=?_) bl rfl (by kernel_rfl) lk rfl ?_ ?_;rotate_left;(focus(rintro N⟨z0,z1,z2⟩;go_simp;try rfl));simp only[Act.put,dW,Nat.reduceAdd])
    apply ii;refine bj (i:=3) rfl rfl (by kernel_rfl) ?_;intro K3 er;go_simp;apply(hO _).mono;rintro ca w4⟨rfl,fg⟩;have eb:Z ay n w4:=(cZ ay n).cz<|Z.aR (S:=ay) fg;refine er _ _ (λ_=>bo w4 eb) ?_;try simp only[Act.put,dW]
    refine bj (i:=6) rfl rfl (by kernel_rfl) ?_;intro K6 es;go_simp;apply(fr _).mono;rintro ca w5⟨rfl,fk⟩;have P:Z ay n w5:=eb.cz<|Z.aR (S:=ay) fk;refine es _ _ (λ_=>bo w5 P) ?_;try simp only[Act.put,dW]
    refine bj (i:=7) rfl rfl (by kernel_rfl) ?_;intro K7 et;go_simp;refine et _ _ (λ_=>bo w5 P) ?_;try simp only[Act.put,dW]
    refine bj (i:=8) rfl rfl (by kernel_rfl) ?_;intro K8 eu;go_simp;have Q:=P.alloc<|aw #[am e,am i] 69;refine eu _ _ (λ_=>bo _ Q) ?_;try simp only[Act.put,dW]
    have bv:=P.size;refine bj (i:=9) rfl rfl (by kernel_rfl) ?_;intro K9 ev;simp only[de,cD,cI];refine kp (.tmp 36) (.tmp 44) 64 rfl (z (G a)+5) 69 i0 (dC #[am ⟨#[]⟩,am ⟨#[]⟩]) 2 32 underlying64 hY iv jA jB rfl (by decide) (I x (y pre) w) (y pre) (jL<|pre.map ze) rfl (Q.own aF<|λ_ _ v=>v) (R (z<|G w5) 0) 1 1 (sK<|ze ⟨e,i,A,g⟩) rfl rfl (ZL _ (ze ⟨e,i,A,g⟩) _) (F9 _) (by omega) (by omega) (by simp;omega) ?_;intro v3 w3 ea ec;obtain⟨x3,c3,ip⟩:=aB ea;subst ip;have bx:Z (λk=>cK (I x (y pre) w)=H k) n w3:=(Q.mono (T:=λk=>cK (I x (y pre) w)=H k) cL).trans (Z.ee (S:=λk=>cK (I x (y pre) w)=H k) ec.grown<|λk d=>.inl d)<|λk d=>.inl d;have dc:eP w3 (z (G a)+4) (I x (y pre) w) 64:=(bx.block _ cm (λv=>by have:=(aF.lt _ v).1;omega)).trans HV;have dn:¬cK (I x (y pre) w)=H (z<|G W):=λv=>by have:=(HC.lt _<|(bk _).2<|.inr<|.inr v).2;omega
    have cT:aW w3 (R (z (G a)+1+1+1+1) 0)=H (I x (y pre) w)/\aW w3 (R (z<|G W) 0)=H (am e)/\aW w3 (R (z<|G W) 1)=H (am i):=⟨dc.cell,bx.cell dk dn bg,bx.cell dm dn bg⟩;refine ev _ _ (λ_=>cT) ?_;simp only[Act.put,dW];refine bj (i:=10) rfl rfl (by kernel_rfl) ?_;intro kc ck;have hQ:=cT.1;have hV:w3.frozen? (R (z (G a)+1+1+1+1) 0)=aX:=dc.free;go_simp;refine ck _ _ FQ ?_;refine eS (by kernel_rfl) ?_ _;show KK _ _;apply ew;have fd:cK (I x3 (y pre+1) c3)=cK (I x (y pre) w)\/∃hd,cK (I x3 (y pre+1) c3)=H hd/\z (G n)<=hd:=by
     rcases ec.vp with kd|⟨hd,kd,kl⟩
     .exact .inl kd
     .exact .inr ⟨hd,kd,by simp at kl;omega⟩
    obtain⟨B',q1,q2,q3⟩:=ek.more HV bk aF bx fd ea;have bn:Hid (PA r a p c (y pre+1) (pre.map ze++[ze ⟨e,i,A,g⟩]) B'<|cq w3 (R (z (G a)+1+1+1+1) 0)<|I x3 (y pre+1) c3):=U (by unfold PA;rw[Vx];exact q1);have cc:Hid (Z bm n<|cq w3 (R (z (G a)+1+1+1+1) 0)<|I x3 (y pre+1) c3):=U q2;have ho:=U q3;clear q1 q2 q3 ew er es et eu ev ck bx dc cT hQ hV ea ec fd dn eb P Q fg fk bl bo;obtain⟨W7,fb⟩:∃W7,cq w3 (R (z (G a)+1+1+1+1) 0) (I x3 (y pre+1) c3)=W7:=⟨_,rfl⟩;rw[fb]at bn cc|-;clear fb;obtain⟨v7,gr,co,gs⟩:=bn.row;obtain⟨x7,c7,gt⟩:=aB co;subst gt;have kf:aW W7 (R (z (G a)+1+1+1+1) 0)=H (I x7 (y pre+1) c7):=gr.cell;have kk:aW W7 (R (z (G a)+1) 0)=H (ar c):=(bn.fix (z (G a)+1,ar c,3)<|by simp).cell;have aV:r.D W7:=r.eY cp cc<|λk d=>aa k (HC.lt k d).1;have eB:Z (λk=>bm k\/k=lr) W W7:=cs.trans cc<|λk d=>.inl<|.inl d;have av:W7.heap[lr]?=n.heap[lr]?:=cc.block lr (by omega) cB;have eq:∀k,B' k->bm k\/z (G W)<=k:=λk d=>(ho k d).imp_right (λv=>by omega);have D:=U<|And.intro aV (And.intro eB (And.intro av eq));clear aV eB av eq gr co gs hM hN bs dk dm hS hU;by_cases jG:(y pre:X)+1=c
    .have fL:((y pre:X)+1==c)=ci:=by grind
     have an:bi=pre.map ze++[ze ⟨e,i,A,g⟩]:=by rw[J cj];grind
     have cb:=U an;clear an;gi_wp2;refine⟨B',.inl ⟨rfl,?_,D.1⟩,D.2.1,D.2.2.1,D.2.2.2⟩;rw[J cb,af,dj];exact bn
    .have fL:¬((y pre:X)+1==c)=ci:=by grind
     have an:bi=Cg p c (pre.map ze++[ze ⟨e,i,A,g⟩]) (rest.map ze):=by rw[J cj];grind
     have cb:=U an;have kn:((y pre:X)+1==c)=aX:=by grind
     clear an fL;gi_wp2;refine⟨D.1,B',⟨pre++[⟨e,i,A,g⟩],by simp,?_,λjC hr=>?_⟩,D.2.1,D.2.2.1,D.2.2.2⟩
     .rw[af,<-ih];exact bn
     grind[J,append_cancel_left]
 (case done=>rintro l' ch bm W g hG⟨pre,rfl,T,hcut⟩ad F hK;(obtain rfl:ha=pre:=by rcases g with h|⟨i,q,h⟩;exact((tj (f:=Sum.inl (β:=M))<|λ_ _=>Sum.inl.inj).1 h).symm;(have:Sum.inr q∈pre.map (Sum.inl (β:=M)):=by rw[h];simp);simp at this);(have e:bi=ha.map ze:=by rw[hcut []<|by simp];rfl);(have T:PA r a p c (y bi) bi bm W:=by rw[e,dj];exact T);clear e hcut;obtain⟨ej,hv,j,L⟩:=T.row;have bs:aW W (R (z (G a)+1+1+1+1) 0)=H ej:=hv.cell;have t:=T.fix (z (G a)+2,az,64) (by simp);have u:=T.fix (z (G a)+3,.nilIface,47) (by simp);have fl:aW W (R (z (G a)+1+1) 0)=H az:=t.cell;have fx:W.frozen? (R (z (G a)+1+1) 0)=aX:=t.free;have fn:aW W (R (z (G a)+1+1+1) 0)=H .nilIface:=u.cell;have fz:W.frozen? (R (z (G a)+1+1+1) 0)=aX:=u.free;obtain⟨x,w,bf⟩:=aB j;obtain⟨cv,cw,HC,HV,aF,bk,aD,HK⟩:=CV t u T hv j L F hK;clear T hv j L F hK t u;subst bf;gi_wp2;have hB:=J bk;have T:=J HC;have n1:ch≠z (G a)+2:=λv=>ad<|(hB _).2<|.inl ⟨(z (G a)+2,az,64),by simp,v.symm⟩;have n2:ch≠z (G a)+3:=λv=>ad<|(hB _).2<|.inl ⟨(z (G a)+3,.nilIface,47),by simp,v.symm⟩;have n3:¬cK (I x (y bi) w)=H ch:=λv=>ad<|(hB _).2<|.inr<|.inr v;(have cM:(cq (cq W (R (z (G a)+2) 0)<|I x (y bi) w) (R (z (G a)+3) 0) .nilIface).heap[ch]?=H (.deferred<|H []):=by rw[jd _ n2,jd _ n1];exact HK);have ao:eP (cq (cq W (R (z (G a)+2) 0)<|I x (y bi) w) (R (z (G a)+3) 0) .nilIface) (z (G a)+2) (I x (y bi) w) 64:=(cv.set _).other _ (by omega);have ap:eP (cq (cq W (R (z (G a)+2) 0)<|I x (y bi) w) (R (z (G a)+3) 0) .nilIface) (z (G a)+3) .nilIface 47:=(cw.other _<|by omega).set _;have C:=gF (cq (cq W (R (z (G a)+2) 0)<|I x (y bi) w) (R (z (G a)+3) 0) .nilIface) ch<|.deferred none;have ac:Z (λk=>k=z (G a)+2\/k=z (G a)+3) W (cq (cq W (R (z (G a)+2) 0)<|I x (y bi) w) (R (z (G a)+3) 0) .nilIface):=((Z.refl (λk=>k=z (G a)+2\/k=z (G a)+3) W).setCell _ 0 _<|.inl<|.inl rfl).setCell _ 0 _<|.inl<|.inr rfl;have bd:=(ac.mono (T:=λk=>k=z (G a)+2\/k=z (G a)+3\/k=ch)<|λk d=>.inl<|d.elim .inl<|λv=>.inr<|.inl v).trans C<|λk d=>.inl<|.inr<|.inr d;(have aa:∀k,z (G a)<=k->¬r.F k:=λk d hf=>by have:=hF k hf;omega);(have V:∀k,(k=z (G a)+2\/k=z (G a)+3\/k=ch)->z (G a)<=k:=by have:=bc.size;rintro k(v|v|v)<;>omega);refine⟨by simp,.inl ⟨_,_,rfl,run_takeDeferred cM,?_⟩⟩;refine⟨_,tH rfl underlying64 _ _ (z (G a)+2) (z (G a)+3) (I x (y bi) w) .nilIface rfl rfl ?_ ?_,?_⟩;exact(eP.cell<|(C.block _ (ak ao)<|λv=>n1 v.symm).trans ao);exact(eP.cell<|(C.block _ (ak ap)<|λv=>n2 v.symm).trans ap);refine .inl ⟨_,rfl,?_,r.eY aD bd<|λk d=>aa k<|V k d,T.aj.trans bd<|λk d=>.inr<|V k d⟩;have j:=J aF;have iu:=bd.own j (λk d v=>by have:=(j.lt k d).1;grind);obtain⟨h1,⟨h2,h0⟩|⟨hd,hA,cx,h2,hc,s⟩⟩:=iu;exact⟨h1,.inl ⟨h2,h0⟩⟩;exact⟨h1,.inr ⟨hd,hA,cx,h2,by omega,s⟩⟩)
end
section
open Conc.Locks
def KJ(b:X)(d c:ae)(a:X)(e:dS):kD:=Cg c a []<|((TP b d e).filter<|λf=>!f.del).map ze
def qL(s:SR)(m:cR)(a b c d:cW):(oz s m a b c d).map (·.2)=m::bU a b c d:=by
 simp[oz,bU,vy,nu]
def WP(a:cW):y ((a.map bz.all).reverse).flatten=y (bZ a):=by
 unfold bZ;rw[sk,sk,vy,List.sum_reverse]
def zr.flat{d b f h:cW}(j:zr F a c o i e d b f h g):y (e::bU d b f h).flatten<=g:=by
 have k:=j.rE;have l:=WP d;unfold bU;rw[bK,eH];grind
def zr.VW(k:zr F a b o i e j W u v c):∀x∈(e::bU j W u v).flatten,x.Good:=by
 intro x f;rw[<-qL o]at f;obtain⟨l,g,d⟩:=bC.1 f;obtain⟨r,h,rfl⟩:=bR.1 g;exact k.KO r h x d
def TU(w a:Y)(v:ab)(l:kD):Prop:=a.ownsRow (z<|G w) 69 2 v (y l)<|jL l
def UQ(l g:ae)(d h:X)(s:QE Q i F)(p:cS a b o k)(f:zr F a b o i e j W u v c):cY aZ 121 #[aA b,am l,am g,ar d,aE h] a λB m=>(∃r,B=aM (dq #[r,.nilIface])/\TU a m r (KJ h l g d<|e::bU j W u v)/\(se Q o.aI i).D m/\Z (se Q o.aI i).F a m)\/∃x C u,Dp (se Q o.aI i) a m (se Q o.aI i).F B (λD=>dq #[I x C u,D]):=by
 obtain⟨A,w,n⟩:=bY f.mem
 have q:=RU (z<|G a) (o.l0,j) (o.l1,W) (o.l2,u) (o.l3,v) (oz o e j W u v) l g d h p A (y e) w n (f.E3 p) (yL o e j W u v) (λK g=>f.JA s _<|aq g) f.Sb (ah _) f.aI.lt (by
  rw[qL];intro x t;have:=f.VW x (YC _ _ _ x t);grind[E.Good.Mf,E.Good.val])
  (by
   rw[qL];have:=YD h l (e::bU j W u v);have:=f.flat;have:=f.kK;omega)
 rw[qL]at q;exact q
def Xv(r p:ae)(d n:X)(t:QE Q i F)(s:cS a b o k)(g:zr F a b o i e j W u v c):cY aZ 76 #[aA b,am r,am p,ar d,aE n] a λx l=>(∃w,x=aM (dq #[w,.nilIface])/\TU a l w (KJ n r p d<|e::bU j W u v)/\(se Q o.aI i).D l/\Z (se Q o.aI i).F a l)\/Dp (se Q o.aI i) a l (se Q o.aI i).F x (λE=>dq #[az,E]):=by
 have A:=UQ r p d n t s g;clear s g t;go_in
 go_wp2_with fail
 apply A.mono;rintro x L(⟨K,rfl,f⟩|⟨O,N,u,B,q,rfl,f⟩);(.obtain⟨D,C,rfl⟩:=aB f.1;have m:=U f;clear f;go_wp2;(go_ret2);exact .inl ⟨_,rfl,m⟩);have m:=U f;clear f;go_wp2;(go_ret2);exact .inr ⟨B,q,rfl,m⟩
def TU.unlock{l:kD}(h:TU a f d l)(c:b<z (G a)):TU a (cq f (R b 0) s) d l:=by
 unfold TU at h|-;exact h.kept (dN f _ _ _) (by right;intro e;have:=(h.lt _ e).1;omega)
def NR(lo hi:ae)(d:X)(hX:QE Q i F)(h:cS a b o 0)(P:zr F a b o i e j W u v c)(hc:o.closed=aX):cY aZ 38 #[aA b,am lo,am hi,ar d] a λN D=>((∃v',N=aM (dq #[v',.nilIface])/\TU a D v' (KJ o.aS lo hi d<|e::bU j W u v))\/Q/\∃q,N=aM (dq #[az,eD q])/\Af D q)/\Nh F a D b o i e j W u v c:=by
 have E:=ak h;have c0:=cS.cellAt h 0 rfl;have f0:a.frozen? (R b 0)=aX:=h.free;have x:=yR P.aI P.wR 1;have O:=h.lB 1;have L:z (G<|cq a (R b 0)<|jN 1)=z (G a):=gP;generalize hW:cq a (R b 0) (jN 1)=s at x O L;have C:=uA O;rw[hc]at C;have r:cY aZ 31 #[aA b] s λN D=>N=aM .nilIface/\Below (z<|G s) s D:=C;have HX:=U<|λl(t:Below (z<|G s) s l)=>Lh (Xqq:=Q) (W2:=l) O P E x t;have HG:=U (show∀l m an al,Below (z<|G s) s l->TU l m an al->TU a (cq m (R b 0)<|jN 0) an al fromλl m an al t hg=>by have:TU a m an al:=fX hg (by have:=t.size;omega);exact this.unlock E);have HW:=U hW;have T:=U hX;clear h P x O hc hW C L hX;go_enter_defers func38,ntmps38
 go_wp2_with fail
 apply(lock_free (R b 0) _ c0 f0).mono;rintro N D⟨rfl,ac⟩;rw[J HW]at ac;subst D;go_wp2_with fail
 apply r.mono;rintro N l⟨rfl,t⟩;obtain⟨w,K,p⟩:=HX l t;have B:=Xv lo hi d o.aS T w K;have c9:=cS.cellAt w 9 rfl;have n:=U p;have V:=U<|λm an al=>HG l m an al t;clear w K p t r;go_wp2_with fail
 apply B.mono;rintro N m(⟨v2,rfl,A,g,k⟩|⟨hx,q,rfl,hq,g,k⟩);(.obtain⟨px,pc,rfl⟩:=aB A;obtain⟨d0,g0,hF,_⟩:=n m g k;have S:=U hF;have aa:=U<|V _ _ _ A;clear g k hF B A;go_wp2;refine gN (f:=30) (args:=#[aA b]) (by simp) (by simp[go_sem]) ?_;apply(unlock_deferred (R b 0) .returning _ d0 g0).mono;rintro N u' ad⟨rfl,rfl,rfl⟩;exact⟨_,pK rfl _ _ _,.inl ⟨I px _ pc,rfl,aa⟩,S⟩);obtain⟨d0,g0,hF,hC⟩:=n m g k;have S:=U hF;have HQ:=U<|hC q hq;clear g k hF B hq hC;go_wp2;refine gN (f:=30) (args:=#[aA b]) (by simp) (by simp[go_sem]) ?_;apply(unlock_deferred (R b 0) .returning _ d0 g0).mono;rintro N u' ad⟨rfl,rfl,rfl⟩;exact⟨_,pK rfl _ _ _,.inr ⟨hx,q,rfl,HQ⟩,S⟩
def Rq(h g:ae)(d:X)(s:cS a b o 0)(k:ST a b o i e j W u v c)(r:o.closed=aX):cY aZ 38 #[aA b,am h,am g,ar d] a λm f=>((∃l,m=aM (dq #[l,.nilIface])/\TU a f l (KJ o.aS h g d<|e::bU j W u v))\/0<i.fx.bd/\∃q,m=aM (dq #[az,eD q])/\Af f q)/\Ni a f b o i e j W u v c:=by
 refine(NR h g d (QE.refl k.aI) s k r).mono ?_;rintro m f⟨n,p⟩;exact⟨n,p.YT⟩
end

