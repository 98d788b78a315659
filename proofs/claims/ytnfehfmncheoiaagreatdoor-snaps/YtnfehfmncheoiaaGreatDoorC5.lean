import Derived.Carry
import Derived.Laws.OwnMore
import Derived.Test.YtnfehfmncheoiaaGreatDoorC2
import Derived.Test.YtnfehfmncheoiaaGreatDoorC3
open _root_ renaming List.length→y,Option.some→H,Array.size→z,Go.World.heap→G,Go.Value.ownBlock→bV,Go.World.cell?→aS,Go.World.setCell→bZ,Go.World.alloc→ct,Bool.false→bE,Bool.true→bU,Nat→M,Int→X,List→cr,Go.Calls→cw,Go.undef→iC,Go.Proofs.Tryz.prog→bF,Go.Value.slice→I,Go.Value.string→J,Go.Value.bool→aL,Go.Value.pointer→fh,Go.Value.tuple→dA
namespace Go.Proofs.YtnfehfmncheoiaaGreatDoor
open ChangeShapes WideShapes RowKit Proofs.Tryz
set_option maxHeartbeats 16000000
set_option linter.all false
set_option maxRecDepth 100000
variable{a f C:Y}{b c g l:M}{d s:aa}{m F Q:X}{o:eK}{v:ab}{x:iV}{V:Array aa}
def oM:Option M->aa
 |none=>.pointer none
 |some g=>.pointer<|H<|R g 0
abbrev Mv:=ab×Option M
def yn(p:Mv):iV:=[J p.1,oM p.2]
def ru(l:cr Mv):iV:=l.flatMap yn
def IK(l:cr Mv)(i:M)(h:i<y l):(ru l)[i*2]?=H (J l[i].1)/\(ru l)[i*2+1]?=H (oM l[i].2):=by
 induction l generalizing i with
 |nil=>simp at h
 |cons p r a=>
  cases i with
  |zero=>simp[ru,yn]
  |succ i=>
   have:=a i (by simpa using h);have e:(i+1)*2=i*2+2:=by omega
   rw[e];simpa[ru,yn]using this
def Vy(w:Y)(v:aa)(l:cr Mv):Prop:=Row w 2 v (y l)<|ru l
def Ld(m:fg)(x:Mv):fg:=match x.2 with
 |none=>m.del x.1
 |some g=>m.put x.1<|oM<|H g
def rK(m:fg)(l:cr Mv):fg:=l.foldl Ld m
def Lc(m:fg)(l:cr Mv)(n:M)(h:n<y l):rK m (l.take<|n+1)=Ld (rK m<|l.take n) l[n]:=by
 unfold rK;rw[ai h,iJ];rfl
def qZ(h:aS a (R b c)=H d):b<z (G a):=by
 by_cases e:b<z (G a);exact e;unfold World.cell? at h;rw[eF<|by simpa using e]at h;simp at h
def gF.ne{m:fg}(l:gF a b m)(h:aS a (R c g)=H d):c≠b:=by
 obtain⟨k,e,i,_⟩:=l;intro j;subst j;simp[World.cell?,i]at h
def GL(K:fg)(p:cr Mv)(v:gF a b K)(S:Vy a d p)(hr:y p<=1000000000000):cw bF 148 #[.map<|H b,d] a λad N=>ad=aO (dA #[])/\gF N b (rK K p)/\a.grownBy N (H b):=by
 obtain⟨Q,⟨rfl,P⟩|⟨D,j,O,rfl,V,E⟩⟩:=S;(.obtain rfl:p=[]:=aP P;have t:=U v;clear v;(go_in);go_wp2;(go_loopw [8] (λF wr=>F=am 0/\wr=a) (λ_ _=>0));(case atStart=>exact⟨rfl,rfl⟩);(case round=>obtain⟨rfl,rfl⟩:=hrel;go_wp2;go_end0;exact⟨rfl,t,td _ _⟩))
 .have w:=U E;have t:=U v;clear E Q v;go_in
  go_wp2;go_loopw [8] (λF wr=>∃n:M,n<=y p/\F=am n/\gF wr b (rK K<|p.take n)/\a.grownBy wr (H b)) (λF _=>y p-(intOf F).toNat)
  case atStart=>exact⟨0,bw _,rfl,t,td _ _⟩
  case round=>
   obtain⟨n,hn,rfl,e,g⟩:=hrel;by_cases r:n<y p
   .have u:=IK p n r;have m:=w _ _ u.1;have q:=qZ m;have s:=t.ne m;have c:wr.heap[D]?=a.heap[D]?:=g.block D q (by simpa using s);have x:aS wr (R D<|j+n*2)=H (J p[n].1):=(cH (w:=a) c).trans<|w _ _ u.1;have o:aS wr (R D<|j+n*2+1)=H (oM p[n].2):=(cH (w:=a) c).trans (by rw[aV];exact w _ _ u.2);have C:=U<|Lc K p n r;clear u m c q s;generalize rK K (p.take n)=ac at*;generalize p[n]=al at*;obtain⟨L,W⟩:=al;simp only at x o;have A:=U<|λv=>e.alloc v;have B:=U<|λv=>g.trans<|dt wr v<|H b;clear e g;cases W with
    |none=>
     simp only[oM]at o;go_wp2_with(first
      |(at_delete;refine Dj _ rfl _ _ 70 9 rfl 125 underlying70 underlying9 b ac rfl (A _) L rfl ?_;intro w2 i f;have l:=U i;have k:=U f;clear i f))
     go_roundw;case rel=>exact⟨n+1,by omega,by go_num,by rw[ae C];exact l,(B _).trans k⟩
     case measure=>simp[intOf];omega
    |some an=>
     simp only[oM]at o;go_wp2_with(first
      |(at_mapUpdate;refine Di _ rfl _ _ _ 70 rfl 9 125 underlying70 underlying9 b ac rfl (A _) L _ rfl rfl ?_;intro w2 i f;have l:=U i;have k:=U f;clear i f))
     go_roundw;case rel=>exact⟨n+1,by omega,by go_num,by rw[ae C];exact l,(B _).trans k⟩
     case measure=>simp[intOf];omega
   .have i:n=y p:=by omega
    subst i;have f:=U e;have c:=U g;clear e g;go_wp2;go_end0;have:=ae f;rw[bN]at this;exact⟨rfl,this,c⟩
def RM:(prog.info? 261).map (λi=>(i.zero,i.size,i.bytes))=H (H aK,1,24):=by kernel_rfl
def tu(w:Y)(x:aa)(t:TypeId):∀j u,[x][j]?=H u->aS (ct w<|aq #[x] t) (((R (z<|G w) 0):Addr).add j)=H u:=by
 intro j u a;rw[du];unfold World.cell?;rw[fw];simpa using a
structure Fm(w w':Y)(db nb sb:M)(mv:aa)(room reads yF:X)(m:fg)(n:M)(xs:iV)(mv':aa):Prop where
 iH:og w' db nb sb mv' room reads yF
 now:gF w' nb m
 steps:w'.ownsRow 0 261 1 mv' n xs
 ar:Z (λk=>k=db\/k=nb\/bV mv=H k) w w'
 own:bV mv'=bV mv\/∃g,bV mv'=H g/\z (G w)<=g
def Eo(bb:fg)(C:cr Mv)(h:og f b c g d m F Q)(S:gF f c bb)(hl:Vy f s C)(hr:y C<=1000000000000)(L:f.ownsRow 0 261 1 d l x)(hn:l<=1000000000000):cw bF 183 #[aw b,s] f λt w'=>t=aO (dA #[])/\∃ba,Fm f w' b c g d m F Q (rK bb C) (l+1) (x++[s]) ba:=by
 obtain⟨i0,ao,au,av,ax⟩:=cz RM;have HS:=U<|GL bb C S hl hr;obtain⟨B,w,rfl⟩:=bL hl;have ac:=cellAt h 0 rfl;have o:b≠c:=S.ne ac;have K:bV d≠H b:=zn L h (by decide);have A:bV d≠H c:=by intro t;obtain⟨r,q⟩:=fD L t;obtain⟨O,N,E,_⟩:=S;rw[E]at q;cases q
 have n:∀i r k,gF i c (rK bb C)->f.grownBy i (H c)->k.ownsRow 0 261 1 r (l+1) (x++[I B (y C) w])->eR (ct i<|aq #[I B (y C) w] 261) k d r->aS k (R b 2)=H d/\k.frozen? (R b 2)=bE/\Fm f (bZ k (R b 2) r) b c g d m F Q (rK bb C) (l+1) (x++[I B (y C) w]) r:=by intro i r k p e N q;have ad:i.heap[b]?=f.heap[b]?:=e.block b (aj h) (by simpa using o);have E:b<z (G i):=ag (aj h) e.size;have an:(ct i<|aq #[I B (y C) w] 261).heap[b]?=f.heap[b]?:=(Below.heap_alloc i _ b E).trans ad;have al:k.heap[b]?=f.heap[b]?:=(q.grown.block b (by simp;omega)<|λt=>K t.symm).trans an;have P:og k b c g d m F Q:=al.trans h;have O:bV r≠H b:=zn N P (by decide);refine⟨by rw[bR P];rfl,dJ P,⟨?_,?_,?_,?_,?_⟩⟩;unfold og;rw[aQ P];rfl;exact((p.alloc _).kept q.grown<|λt=>A t.symm).kept (cW k b 2 r) (by simp;exactλt=>o t.symm);exact N.kept (cW k b 2 r)<|.inr O;refine((Z.dM e (by rintro bg⟨⟩;exact .inl<|.inr<|.inl rfl)).alloc<|aq #[I B (y C) w] 261).trans (T:=λbg=>bV d=H bg) (Z.dM q.grown<|λbg t=>.inl t) (λx t=>.inl<|.inr<|.inr t)|>.setCell b 2 r (.inl<|.inl rfl);rcases q.uc with t|⟨bg,t,hg⟩;exact .inl t;exact .inr ⟨bg,t,by have:=e.size;simp at hg;omega⟩
 obtain⟨HG,HO,V⟩:=dB n (λi(e:f.grownBy i (H c))=>(L.kept e<|.inr A).alloc<|aq #[I B (y C) w] 261)<|λi(e:f.grownBy i (H c))=>(cH (w:=f) (a:=(R b 2))<|e.block b (aj h)<|by simpa using o).trans (show aS f (R b 2)=H d by rw[bR h];rfl);obtain⟨xm,cm,rfl⟩:=aB L;clear h S hl L n K A o;go_in
 go_wp2_with(first
  |(go_at_call 148;refine HS.mono ?_;rintro t i⟨rfl,p,e⟩;have bc:=V i e;have W:=U p;have D:=U e;clear p e)
  |(at_builtin;refine bQ _ rfl (.tmp 14) (.tmp 16) 71 rfl 0 261 i0 aK 1 24 underlying71 ao au av ax rfl (by decide) _ l x rfl (HO i D) (R (z (G i)) 0) 1 1 [.slice B (y C) w] rfl rfl (tu _ _ _) (by simp[Value.oneCell']) (by omega) (by omega) (bw _) ?_;intro v2 k j v;obtain⟨bd,bf,u⟩:=HG i v2 k W D j v;obtain⟨x2,c2,rfl⟩:=aB j;have HF:=U u;clear j v u))
 go_end0;exact⟨rfl,_,HF⟩
structure df where
 name:ab
 pE:M
 data:aa
 bytes:eK
 safe:X
def df.nm(f:df):ab×aa:=(f.name,oM<|H f.pE)
structure DK where
 nb:M
 sb:M
 mv:aa
 reads:X
 yF:X
 files:cr df
 sm:fg
 eO:cr (aa×cr Mv)
variable{j:DK}
def xU(w:Y)(f:df):Prop:=w.heap[f.pE]?=H (aq #[f.data,am f.safe] 129 (0,0))/\eJ w 0 f.data f.bytes/\kw f.bytes
def tw(w:Y)(x:aa×cr Mv):Prop:=Vy w x.1 x.2/\y x.2<=2/\∀k,bV x.1=H k->∃a b,w.heap[k]?=H (aq a 302 b)
def mR(f g:df):Prop:=f.pE≠g.pE/\∀k,bV f.data=H k->bV g.data≠H k
def mR.symm{f g:df}(h:mR f g):mR g f:=⟨λe=>h.1 e.symm,λk e a=>h.2 k a e⟩
structure cJ(w:Y)(db:M)(K:DK):Prop where
 iH:og w db K.nb K.sb K.mv 1099511627776 K.reads K.yF
 now:gF w K.nb (K.files.map df.nm)
 safe:gF w K.sb K.sm
 ne:K.nb≠K.sb
 steps:w.ownsRow 0 261 1 K.mv (y K.eO) (K.eO.map (·.1))
 each:∀x∈K.eO,tw w x
 files:∀f∈K.files,xU w f
 apart:K.files.Pairwise mR
def DK.aZ(a:M)(K:DK)(k:M):Prop:=k=a\/k=K.nb\/k=K.sb\/bV K.mv=H k\/(∃x∈K.eO,bV x.1=H k)\/∃f∈K.files,f.pE=k\/bV f.data=H k
def xU.ar{S:fI}{w w':Y}{f:df}(h:xU w f)(a:Z S w w')(b:¬S f.pE)(c:∀k,bV f.data=H k->¬S k):xU w' f:=⟨(a.block _ (aj h.1) b).trans h.1,a.own h.2.1 c,h.2.2⟩
def tw.ar{S:fI}{w w':Y}{x:aa×cr Mv}(m:tw w x)(h:Z S w w')(d:∀k,bV x.1=H k->¬S k):tw w' x:=by
 obtain⟨j,l,g⟩:=m;refine⟨h.row j<|λk e=>⟨d k e,?_⟩,l,λk e=>?_⟩;obtain⟨a,c,b⟩:=g k e;exact aj b;obtain⟨a,c,b⟩:=g k e;exact⟨a,c,(h.block k (aj b)<|d k e).trans b⟩
def gF.ar{S:fI}{w w':Y}{m:fg}(j:gF w b m)(h:Z S w w')(e:¬S b):gF w' b m:=by
 obtain⟨d,c,a,g⟩:=j;exact⟨d,c,(h.block b (aj a) e).trans a,g⟩
def gF.tag{m:fg}(k:gF a b m){e:M×M}(d:a.heap[g]?=H (aq V c e)):g≠b:=by
 obtain⟨j,h,f,_⟩:=k;intro i;subst i;rw[f]at d;cases d
def iq{e:Array aa}{f h:M×M}(i:a.heap[b]?=H (aq V g f))(d:a.heap[c]?=H (aq e l h))(k:g≠l):b≠c:=by
 intro j;subst j;rw[i]at d;cases d;exact k rfl
def cJ.lt(h:cJ a b j):∀k,j.aZ b k->k<z (G a):=by
 rintro k(rfl|rfl|rfl|e|⟨x,g,e⟩|⟨f,c,rfl|e⟩);exact aj h.iH;exact h.now.lt;exact h.safe.lt;exact(aF h.steps k e).2;obtain⟨_,_,d⟩:=(h.each x g).2.2 k e;exact aj d;exact aj (h.files f c).1;exact(aF (h.files f c).2.1 k e).2
def cJ.ar{S:fI}{w w':Y}(h:cJ w b j)(c:Z S w w')(a:∀k,j.aZ b k->¬S k):cJ w' b j where
 iH:=(c.block b (aj h.iH)<|a _<|.inl rfl).trans h.iH
 now:=h.now.ar c<|a _<|.inr<|.inl rfl
 safe:=h.safe.ar c<|a _<|.inr<|.inr<|.inl rfl
 ne:=h.ne
 steps:=c.own h.steps<|λ_ e=>a _<|.inr<|.inr<|.inr<|.inl e
 each x hx:=(h.each x hx).ar c<|λ_ e=>a _<|.inr<|.inr<|.inr<|.inr<|.inl ⟨x,hx,e⟩
 files f hf:=(h.files f hf).ar c (a _<|.inr<|.inr<|.inr<|.inr<|.inr ⟨f,hf,.inl rfl⟩)<|λ_ e=>a _<|.inr<|.inr<|.inr<|.inr<|.inr ⟨f,hf,.inr e⟩
 apart:=h.apart
def cJ.alloc{w:Y}(h:cJ w c j)(o:Obj):cJ (ct w o) c j:=h.ar ((Z.refl az w).alloc o)<|λ_ _=>id
def cJ.named{K:DK}{C:cr Mv}{n:cr df}(l:cJ a b K)(k:Fm a f b K.nb K.sb K.mv 1099511627776 K.reads K.yF (n.map df.nm) (y K.eO+1) (K.eO.map (·.1)++[d]) s)(B:tw a (d,C))(q:∀t∈n,xU a t)(A:n.Pairwise mR):cJ f b {K with mv:=s,files:=n,eO:=K.eO++[(d,C)]}:=by
 have e:∀{o u:M}{r:Array aa}{p:M×M},a.heap[o]?=H (aq r u p)->u≠73->u≠261->¬(o=b\/o=K.nb\/bV K.mv=H o):=by rintro o u r p j v w(i|i|i);exact iq j l.iH v i;exact l.now.tag j i;obtain⟨h,m⟩:=fD l.steps i;exact iq j m w rfl
 have c:∀x,tw a x->tw f x:=λx g=>g.ar k.ar (λo i=>by obtain⟨h,p,j⟩:=g.2.2 o i;exact e j (by decide)<|by decide);refine⟨k.iH,k.now,l.safe.ar k.ar ?_,l.ne,?_,?_,?_,A⟩;rintro(i|i|i);exact l.safe.tag l.iH i.symm;exact l.ne i.symm;obtain⟨h,m⟩:=fD l.steps i;exact l.safe.tag m rfl;have:=k.steps;simpa using this;intro x g;rcases ak.1 g with g|g;exact c x<|l.each x g;(obtain rfl:x=(d,C):=by simpa using g);exact c _ B;intro t j;refine(q t j).ar k.ar (e (q t j).1 (by decide)<|by decide)<|λo i=>?_;obtain⟨h,m⟩:=fD (q t j).2.1 i;exact e m (by decide)<|by decide
def Fm.aZ{K:DK}{p:cr Mv}{j:cr df}{u:fg}(m:Fm a C b K.nb K.sb K.mv 1099511627776 K.reads K.yF u c x s)(r:g<=z (G a))(o:∀k,bV d=H k->g<=k)(n:∀f∈j,∀k,(f.pE=k\/bV f.data=H k)->K.aZ b k\/g<=k):∀k,({K with mv:=s,files:=j,eO:=K.eO++[(d,p)]}:DK).aZ b k->K.aZ b k\/g<=k:=by
 rintro k(rfl|rfl|rfl|h|⟨q,e,h⟩|⟨f,l,h⟩);exact .inl<|.inl rfl;exact .inl<|.inr<|.inl rfl;exact .inl<|.inr<|.inr<|.inl rfl;rcases m.own with i|⟨v,i,t⟩;exact .inl<|.inr<|.inr<|.inr<|.inl<|i.symm.trans h;rw[show({K with mv:=s,files:=j,eO:=K.eO++[(d,p)]}:DK).mv=s from rfl,i]at h;cases h;exact .inr (by omega);rcases ak.1 e with e|e;exact .inl<|.inr<|.inr<|.inr<|.inr<|.inl ⟨q,e,h⟩;(obtain rfl:q=(d,p):=by simpa using e);exact .inr<|o k h;exact n f l k h
def Jf{m:fg}(h:m.get v=none)(c:aa):m.put v c=m++[(v,c)]:=by
 induction m with
 |nil=>rfl
 |cons p r b=>
  by_cases a:p.1=v
  .simp[fg.get,a]at h
  .simp[fg.get,a]at h;simp[fg.put,a,b h]
structure rG(w w':Y)(db:M)(K K':DK):Prop where
 ok:cJ w' db K'
 ar:Z (K.aZ db) w w'
 aZ:∀k,K'.aZ db k->K.aZ db k\/z (G w)<=k
def Ep(m:fg)(x:Mv):rK m [x]=Ld m x:=rfl
def Cx{K:DK}(c:ab)(h:cJ a b K)(t:fg.get (K.files.map df.nm) c=none)(N:y K.eO<=1000000000000):cw bF 122 #[aw b,J c] a λe q=>e=aO .nilIface/\∃i,rG a q b K i/\i.files=K.files++[⟨c,z<|G a,aK,[],0⟩]/\y i.eO=y K.eO+1:=by
 obtain⟨T,L,u,_,_⟩:=cz tX;have x:=tR underlying70 underlying9 L u h.now c;rw[t]at x;simp only[uB]at x;have F:=cellAt h.iH 0 rfl;have B:=U<|yy h.iH
 have g:∃W:Y,W=ct (ct a<|aq #[aK,am 0] 129) (aq #[J c,aw<|z<|G a] 302)/\cw bF 183 #[aw b,bC (z (G a)+1) 0 1 1] W λe q=>e=aO (dA #[])/\∃i,rG a q b K i/\i.files=K.files++[⟨c,z<|G a,aK,[],0⟩]/\y i.eO=y K.eO+1:=by
  refine⟨_,rfl,?_⟩;have m:=(h.alloc<|aq #[aK,am 0] 129).alloc<|aq #[J c,aw<|z<|G a] 302;have k:(ct a<|aq #[aK,am 0] 129).heap[z<|G a]?=H (aq #[aK,am 0] 129 (0,0)):=fw _ _;have f:=(Below.heap_alloc (ct a<|aq #[aK,am 0] 129) (aq #[J c,aw<|z<|G a] 302) (z<|G a)<|by simp).trans k;have n:(ct (ct a<|aq #[aK,am 0] 129)<|aq #[J c,aw<|z<|G a] 302).heap[z (G a)+1]?=H (aq #[J c,aw<|z<|G a] 302 (0,0)):=by
   have:=fw (ct a<|aq #[aK,am 0] 129)<|aq #[J c,aw<|z<|G a] 302;simpa using this
  generalize s:(ct (ct a<|aq #[aK,am 0] 129)<|aq #[J c,aw<|z<|G a] 302)=W at*;have l:∀S,Z S a W:=λS=>by rw[<-s];exact((Z.refl S a).alloc _).alloc _
  have o:tw W (bC (z (G a)+1) 0 1 1,[(c,H<|z<|G a)]):=by
   refine⟨show Row _ _ _ _ _ from⟨rfl,.inr ⟨z (G a)+1,0,1,rfl,ah _,λE Q D=>?_⟩⟩,by simp,λO e=>?_⟩
   .rw[cR,bR n];simpa[ru,yn,oM]using D
   .cases e;exact⟨_,_,n⟩
  apply(Eo (K.files.map df.nm) [(c,H<|z<|G a)] m.iH m.now o.1 (by simp) m.steps N).mono;rintro e q⟨rfl,p,r⟩;refine⟨rfl,{K with mv:=p,files:=K.files++[df.mk c (z<|G a) aK [] 0],eO:=K.eO++[(bC (z (G a)+1) 0 1 1,[(c,H<|z<|G a)])]},?_,rfl,by simp⟩;have j:Fm W q b K.nb K.sb K.mv 1099511627776 K.reads K.yF ((K.files++[df.mk c (z<|G a) aK [] 0]).map df.nm) (y K.eO+1) (K.eO.map (·.1)++[bC (z (G a)+1) 0 1 1]) p:=by
   rw[Ep]at r;simp only[Ld,Jf t]at r;simpa[df.nm]using r
  refine⟨m.named j o ?_ ?_,?_,?_⟩
  .intro v d;rcases ak.1 d with d|d
   .exact m.files v d
   .obtain rfl:v=⟨c,z<|G a,aK,[],0⟩:=by simpa using d
    exact⟨f,eJ.nil _ _,by intro V D;simp at D⟩
  .refine bP.2 ⟨h.apart,by simp,λQ D S E=>?_⟩;obtain rfl:S=⟨c,z<|G a,aK,[],0⟩:=by simpa using E
   refine⟨λe=>?_,λO _ e=>by cases e⟩;have:=aj (h.files Q D).1;simp only at e;omega
  .exact(l _).trans j.ar (by
    rintro V(rfl|rfl|e)
    .exact .inl<|.inl rfl
    .exact .inl<|.inr<|.inl rfl
    .exact .inl (.inr (.inr (.inr (.inl e)))))
  .refine j.aZ (l az).size (λO e=>by cases e;exact Nat.le_succ _)<|λv d O e=>?_;rcases ak.1 d with d|d
   .exact .inl<|.inr<|.inr<|.inr<|.inr<|.inr ⟨v,d,e⟩
   .obtain rfl:v=⟨c,z<|G a,aK,[],0⟩:=by simpa using d
    rcases e with e|e
    .exact .inr (by simp only at e;omega)
    .cases e
 obtain⟨W,s,g⟩:=g;have C:=U g;clear g h t;go_in
 go_wp2_with(first
  |(go_at_call 147;refine B.mono ?_;rintro e P⟨rfl,rfl⟩)
  |(go_at_call 183;subst s;refine za (by simpa using ae C) ?_;rintro e P⟨rfl,w⟩;have A:=U w;clear w))
 go_ret;exact⟨rfl,A⟩
def qN:cr df->ab->Option df
 |[],_=>none
 |f::r,n=>if f.name=n then H f else qN r n
def pC:cr df->ab->cr df
 |[],_=>[]
 |f::r,n=>if f.name=n then r else f::pC r n
def qK:cr df->df->cr df
 |[],f=>[f]
 |g::r,f=>if g.name=f.name then f::r else g::qK r f
def Mc(a:cr df)(n:ab):(pC a n).map df.nm=fg.del (a.map df.nm) n:=by
 induction a with
 |nil=>rfl
 |cons f r b=>by_cases h:f.name=n<;>simp[pC,fg.del,df.nm,h,<-b]
def KH(a:cr df)(f:df):(qK a f).map df.nm=fg.put (a.map df.nm) f.name (oM<|H f.pE):=by
 induction a with
 |nil=>rfl
 |cons g r b=>by_cases h:g.name=f.name<;>simp[qK,fg.put,df.nm,h,<-b]
def kG{a:cr df}{f:df}(h:qN a v=H f):f.name=v/\f∈a/\fg.get (a.map df.nm) v=H (oM<|H f.pE):=by
 induction a with
 |nil=>cases h
 |cons i r g=>
  by_cases e:i.name=v
  .simp[qN,e]at h;subst h;exact⟨e,by simp,by simp[fg.get,df.nm,e]⟩
  .simp[qN,e]at h;obtain⟨b,c,d⟩:=g h;exact⟨b,by simp[c],by simpa[fg.get,df.nm,e]using d⟩
def Bw{a:cr df}(h:qN a v=none):fg.get (a.map df.nm) v=none:=by
 induction a with
 |nil=>rfl
 |cons g r b=>
  by_cases e:g.name=v
  .simp[qN,e]at h
  .simp[qN,e]at h;simpa[fg.get,df.nm,e]using b h
def qm(a:cr df)(n:ab):(pC a n).Sublist a:=by
 induction a with
 |nil=>exact ez _
 |cons f r b=>
  by_cases h:f.name=n
  .simp[pC,h]
  .simpa[pC,h]using b
def EW{a:cr df}{f:df}(i:a.Pairwise mR)(h:qN a v=H f):∀g∈pC a v,mR f g:=by
 induction a with
 |nil=>cases h
 |cons g r j=>
  obtain⟨c,d⟩:=bj.1 i;by_cases e:g.name=v
  .simp[qN,e]at h;subst h;simpa[pC,e]using c
  .simp[qN,e]at h;intro x b;simp[pC,e]at b;rcases b with rfl|b
   .exact(c f (kG h).2.1).symm
   .exact j d h x b
def Ak{a:cr df}{f x:df}(h:x∈qK a f):x=f\/x∈pC a f.name:=by
 induction a with
 |nil=>left;simpa[qK]using h
 |cons g r b=>
  by_cases e:g.name=f.name
  .simp[qK,e]at h;simpa[pC,e]using h
  .simp[qK,e]at h;simp[pC,e];rcases h with rfl|h
   .exact .inr<|.inl rfl
   .rcases b h with h|h
    .exact .inl h
    .exact .inr<|.inr h
def DU{b:cr df}{f:df}(c:(pC b f.name).Pairwise mR)(h:∀g∈pC b f.name,mR f g):(qK b f).Pairwise mR:=by
 induction b with
 |nil=>simp[qK]
 |cons g r j=>
  by_cases e:g.name=f.name
  .simp only[pC,e,jf]at c h;simp only[qK,e,jf];exact bj.2 ⟨h,c⟩
  .simp only[pC,e,ke]at c h;simp only[qK,e,ke];obtain⟨d,i⟩:=bj.1 c;refine bj.2 ⟨λx a=>?_,j i<|λx a=>h x<|by simp[a]⟩;rcases Ak a with rfl|a
   .exact(h g<|by simp).symm
   .exact d x a
def St{b:cr df}{f:df}(a:f.name≠v):pC (qK b f) v=qK (pC b v) f:=by
 induction b with
 |nil=>simp[pC,qK,a]
 |cons g r d=>
  by_cases e:g.name=f.name
  .have:g.name≠v:=by rw[e];exact a
   simp[pC,qK,e,a]
  .by_cases c:g.name=v
   .have:¬v=f.name:=λh=>a h.symm;simp[pC,qK,c,this]
   .simp[pC,qK,e,c,d]
def Hi{K:DK}{x:cr Mv}{e:cr df}(A:cJ a b K)(l:∀S,Z S a f)(k:Fm f C b K.nb K.sb K.mv 1099511627776 K.reads K.yF (e.map df.nm) (y K.eO+1) (K.eO.map (·.1)++[d]) s)(v:tw f (d,x))(u:∀w,bV d=H w->z (G a)<=w)(n:∀g∈e,∃h∈K.files,g.pE=h.pE/\g.data=h.data/\g.bytes=h.bytes/\g.safe=h.safe)(t:e.Pairwise mR):rG a C b K {K with mv:=s,files:=e,eO:=K.eO++[(d,x)]}:=by
 have o:cJ f b K:=A.ar (l az)<|λ_ _=>id;refine⟨o.named k v (λg c=>?_) t,?_,?_⟩;obtain⟨h,m,i,j,q,r⟩:=n g c;have:=o.files h m;unfold xU at*;rw[i,j,q,r];exact this
 .exact(l _).trans k.ar (by
   rintro q(rfl|rfl|p)
   .exact .inl<|.inl rfl
   .exact .inl<|.inr<|.inl rfl
   .exact .inl (.inr (.inr (.inr (.inl p)))))
 refine k.aZ (l az).size u<|λg c w p=>.inl ?_;obtain⟨h,m,i,j,_⟩:=n g c;exact .inr<|.inr<|.inr<|.inr<|.inr ⟨h,m,by rw[<-i,<-j];exact p⟩
def Nr(c:ab)(F:df)(h:cJ a b j)(p:qN j.files c=H F)(u:y j.eO<=1000000000000):cw bF 159 #[aw b,J c] a λi k=>i=aO .nilIface/\∃d,rG a k b j d/\d.files=pC j.files c/\y d.eO=y j.eO+1:=by
 have r:=U<|ve _ c (R F.pE 0) h.iH h.now (kG p).2.2;have g:cw bF 183 #[aw b,bC (z<|G a) 0 1 1] (ct a<|aq #[J c,fh none] 302) λi k=>i=aO (dA #[])/\∃d,rG a k b j d/\d.files=pC j.files c/\y d.eO=y j.eO+1:=by have e:(ct a<|aq #[J c,fh none] 302).heap[z<|G a]?=H (aq #[J c,fh none] 302 (0,0)):=fw _ _;have o:∀S,Z S a (ct a<|aq #[J c,fh none] 302):=λS=>(Z.refl S a).alloc _;generalize ct a (aq #[J c,fh none] 302)=W at*;have m:cJ W b j:=h.ar (o az)<|λ_ _=>id;(have f:tw W (bC (z<|G a) 0 1 1,[(c,none)]):=by refine⟨show Row _ _ _ _ _ from⟨rfl,.inr ⟨z<|G a,0,1,rfl,ah _,λA B t=>?_⟩⟩,by simp,λx i=>?_⟩;rw[cR,bR e];simpa[ru,yn,oM]using t;cases i;exact⟨_,_,e⟩);apply(Eo (j.files.map df.nm) [(c,none)] m.iH m.now f.1 (by simp) m.steps u).mono;rintro i k⟨rfl,v,l⟩;rw[Ep]at l;simp only[Ld,<-Mc]at l;exact⟨rfl,_,Hi h o l f (λx i=>by cases i;exact ah _) (λb a=>⟨b,(qm _ _).subset a,rfl,rfl,rfl,rfl⟩)<|h.apart.sublist<|qm _ _,rfl,by simp⟩
 have s:=U g;clear g h p;go_in
 go_wp2_with(first
  |(go_at_call 145;refine r.mono ?_;rintro i w⟨rfl,rfl⟩)
  |(go_at_call 183;refine za s ?_;rintro i w⟨rfl,n⟩;have q:=U n;clear n))
 go_ret;exact⟨rfl,q⟩
def Nq(c d:ab)(F:df)(h:cJ a b j)(m:qN j.files c=H F)(f:c≠d)(B:y j.eO<=1000000000000):cw bF 205 #[aw b,J c,J d] a λg n=>g=aO .nilIface/\∃e,rG a n b j e/\e.files=qK (pC j.files c) {F with name:=d}/\y e.eO=y j.eO+1:=by
 have w:=U<|ve _ c (R F.pE 0) h.iH h.now (kG m).2.2;have l:cw bF 183 #[aw b,bC (z<|G a) 0 2 2] (ct a<|aq #[J d,aw F.pE,J c,fh none] 302) λg n=>g=aO (dA #[])/\∃e,rG a n b j e/\e.files=qK (pC j.files c) {F with name:=d}/\y e.eO=y j.eO+1:=by have i:(ct a<|aq #[J d,aw F.pE,J c,fh none] 302).heap[z<|G a]?=H (aq #[J d,aw F.pE,J c,fh none] 302 (0,0)):=fw _ _;have t:∀S,Z S a (ct a<|aq #[J d,aw F.pE,J c,fh none] 302):=λS=>(Z.refl S a).alloc _;generalize ct a (aq #[J d,aw F.pE,J c,fh none] 302)=W at*;have q:cJ W b j:=h.ar (t az)<|λ_ _=>id;(have k:tw W (bC (z<|G a) 0 2 2,[(d,H F.pE),(c,none)]):=by refine⟨show Row _ _ _ _ _ from⟨rfl,.inr ⟨z<|G a,0,2,rfl,ah _,λK N p=>?_⟩⟩,by simp,λL g=>?_⟩;rw[cR,bR i];simpa[ru,yn,oM]using p;cases g;exact⟨_,_,i⟩);apply(Eo (j.files.map df.nm) [(d,H F.pE),(c,none)] q.iH q.now k.1 (by simp) q.steps B).mono;rintro g n⟨rfl,C,s⟩;(have A:rK (j.files.map df.nm) [(d,H F.pE),(c,none)]=(qK (pC j.files c) {F with name:=d}).map df.nm:=by rw[<-St (f:={F with name:=d}) (λg=>f g.symm),Mc,KH];rfl);rw[A]at s;refine⟨rfl,_,Hi h t s k (λL g=>by cases g;exact ah _) (λE o=>?_) ?_,rfl,by simp⟩;rcases Ak o with rfl|o;exact⟨F,(kG m).2.1,rfl,rfl,rfl,rfl⟩;exact⟨E,(qm _ _).subset<|(qm _ _).subset o,rfl,rfl,rfl,rfl⟩;refine DU ((h.apart.sublist<|qm _ _).sublist<|qm _ _)<|λK p=>?_;have:=EW h.apart m K<|(qm _ _).subset p;exact this
 have u:(!c.toList==d.toList)=bU:=by simp[zr f]
 have x:=U l;clear l h m f;go_in
 go_wp2_with(first
  |(go_at_call 145;refine w.mono ?_;rintro g D⟨rfl,rfl⟩)
  |(go_at_call 183;refine za x ?_;rintro g D⟨rfl,r⟩;have v:=U r;clear r))
 go_ret;exact⟨rfl,v⟩
def cJ.Kc(h:cJ a b j){k:M}(e:bV j.mv=H k):k≠j.sb/\k≠j.nb/\k≠b:=by
 obtain⟨d,c⟩:=fD h.steps e;exact⟨h.safe.tag c,h.now.tag c,iq c h.iH<|by decide⟩
def cJ.Xi{K:DK}{D:fg}(h:cJ a b K)(i:Z (λk=>k=K.sb) a f)(n:gF f K.sb D):rG a (bZ f (R b 2) aK) b K {K with mv:=aK,eO:=[],sm:=D}:=by
 have c:b≠K.sb:=h.safe.tag h.iH;have l:og f b K.nb K.sb K.mv 1099511627776 K.reads K.yF:=(i.block b (aj h.iH) c).trans h.iH;have d:Z (λk=>k=b\/k=K.sb) a (bZ f (R b 2) aK):=(i.mono<|λx e=>.inl<|.inr e).setCell b 2 _<|.inl<|.inl rfl;refine⟨⟨?_,?_,?_,h.ne,bJ _ _ _ _,by simp,?_,h.apart⟩,?_,?_⟩;unfold og;rw[aQ l];rfl;refine h.now.ar d ?_;rintro(e|e);exact h.now.tag h.iH e.symm;exact h.ne e;exact n.kept (cW f b 2 _) (by simp;exactλe=>c e.symm);intro o m;have hF:=h.files o m;refine hF.ar d ?_ ?_;rintro(e|e);exact iq hF.1 h.iH (by decide) e;exact h.safe.tag hF.1 e;intro k e;obtain⟨j,g⟩:=fD hF.2.1 e;rintro(e|e);exact iq g h.iH (by decide) e;exact h.safe.tag g e
 .exact d.mono (by
   rintro x(rfl|rfl)
   .exact .inl<|.inl rfl
   .exact .inl (.inr (.inr (.inl rfl))))
 rintro k(e|e|e|e|⟨x,g,_⟩|e);exact .inl<|.inl e;exact .inl<|.inr<|.inl e;exact .inl<|.inr<|.inr<|.inl e;cases e;cases g;exact .inl<|.inr<|.inr<|.inr<|.inr<|.inr e
def Cb(h:cJ a b j)(hn:y j.eO<=1000000000000):cw bF 93 #[aw b] a λx r=>x=aO .nilIface/\∃C,rG a r b j C/\C.files=j.files/\C.eO=[]:=by
 have N:=U<|yy h.iH;have F:b≠j.sb:=h.safe.tag h.iH;have k:∀wr,Z (λs=>s=j.sb) a wr->aS wr (R b 1)=H (.map<|H j.sb)/\aS wr (R b 2)=H j.mv/\wr.frozen? (R b 2)=bE:=by intro wr e;have i:og wr b j.nb j.sb j.mv 1099511627776 j.reads j.yF:=(e.block b (aj h.iH) F).trans h.iH;exact⟨by rw[bR i];rfl,by rw[bR i];rfl,dJ i⟩
 have t:=U k;have ad:=(k a<|Z.refl _ _).2.1;have m:=U<|λ(r:Y)(D:fg)(e:Z (λs=>s=j.sb) a r)(o:gF r j.sb D)=>h.Xi e o;have l:∀(wr:Y)(n:M)(d:n<y j.eO)(D:fg),Z (λs=>s=j.sb) a wr->gF wr j.sb D->cw bF 148 #[.map<|H j.sb,j.eO[n].1] wr λx r=>x=aO (dA #[])/\gF r j.sb (rK D j.eO[n].2)/\wr.grownBy r (H j.sb):=by intro wr n d D e o;have i:=(h.each j.eO[n]<|ap d).ar e (λs x v=>by obtain⟨E,w,p⟩:=(h.each j.eO[n]<|ap d).2.2 s x;exact h.safe.tag p v);exact GL D j.eO[n].2 o i.1 (by have:=i.2.1;omega)
 obtain⟨g,c,f,u⟩:=gx l h.steps h.safe<|λs=>h.Kc (k:=s);clear k l h;generalize an:j.mv=mv at*;rcases c.2 with⟨rfl,h0⟩|⟨av,W,E,rfl,_,Q,au,_,k,q⟩
 .have i:j.eO=[]:=aP h0;clear g c u;go_in
  go_wp2_with(first
   |(go_at_call 147;refine N.mono ?_;rintro x L⟨rfl,hw⟩;subst L))
  go_loopw [15] (λS wr=>S=am 0/\wr=a) (λ_ _=>0)
  case atStart=>exact⟨rfl,rfl⟩
  case round=>
   obtain⟨rfl,rfl⟩:=hrel;have K:=(t wr<|Z.refl _ _).2.2;go_wp2;go_ret;exact⟨rfl,_,m wr j.sm (Z.refl _ _) f,rfl,rfl⟩
 .have i:∀n(d:n<y j.eO)wr,Z (λs=>s=j.sb) a wr->aS wr (R av n)=H j.eO[n].1:=by
   intro n d wr e;refine e.cell ?_ (u av rfl).1<|aj Q;have:=World.ownsRow.cellAt c n (by omega);rw[this];simp[d]
  have p:=U i;clear i k q Q c;go_in
  go_wp2_with(first
   |(go_at_call 147;refine N.mono ?_;rintro x L⟨rfl,hw⟩;subst L))
  go_loopw [15] (λS wr=>∃n:M,n<=y j.eO/\S=am n/\Z (λs=>s=j.sb) a wr/\∃D,gF wr j.sb D) (λS _=>y j.eO-(intOf S).toNat)
  case atStart=>exact⟨0,bw _,rfl,Z.refl _ _,j.sm,f⟩
  case round=>
   obtain⟨n,ao,rfl,e,D,o⟩:=hrel;obtain⟨ac,P,K⟩:=t wr e;have O:=U e;have T:=U o;by_cases d:n<y j.eO
   .have al:=p n d wr e;have V:=U<|g wr n d D e o;clear e o;go_wp2_with(first
     |(go_at_call 148;refine V.mono ?_;rintro x w2⟨rfl,w,v⟩;have B:=U w;have A:=U v;clear w v))
    go_roundw;case rel=>exact⟨n+1,by omega,by go_num,O.trans (fi A)<|λa x=>.inl x,_,B⟩
    case measure=>simp[intOf];omega
   .clear e o;have v:n=y j.eO:=by omega
    subst v;go_wp2;go_ret;exact⟨rfl,_,m wr D O T,rfl,rfl⟩
def TG{m:fg}(h:fg.get m v=H d):fg.put m v d=m:=by
 induction m with
 |nil=>cases h
 |cons p r a=>
  by_cases e:p.1=v
  .simp[fg.get,e]at h;simp[fg.put,e,<-h];rw[<-e]
  .simp[fg.get,e]at h;simp[fg.put,e,a h]
def cJ.YT{K:DK}{F F':df}(o:cJ a b K)(A:qN K.files F'.name=H F)(v:F'.pE=F.pE)(q:Z (λm=>m=F.pE\/bV F.data=H m) a f)(hF:xU f F')(B:∀m,bV F'.data=H m->bV F.data=H m\/z (G a)<=m):rG a f b K {K with files:=qK K.files F'}:=by
 obtain⟨_,c,r⟩:=kG A;have g:=o.files F c;have h:∀{m C:M}{u:Array aa}{s:M×M},a.heap[m]?=H (aq u C s)->C≠129->C≠5->¬(m=F.pE\/bV F.data=H m):=by rintro m C u s w D E(e|e);exact iq w g.1 D e;obtain⟨i,j⟩:=fD g.2.1 e;exact iq w j E rfl
 have d:∀{w:M}{C:fg},gF a w C->¬(w=F.pE\/bV F.data=H w):=by rintro w C u(e|e);exact u.tag g.1 e.symm;obtain⟨i,j⟩:=fD g.2.1 e;exact u.tag j rfl
 have l:∀t∈pC K.files F'.name,t∈K.files:=λt k=>(qm _ _).subset k;have n:=EW o.apart A;refine⟨⟨?_,?_,o.safe.ar q<|d o.safe,o.ne,?_,?_,?_,?_⟩,?_,?_⟩;exact(q.block b (aj o.iH)<|h o.iH (by decide)<|by decide).trans o.iH;show gF f K.nb ((qK K.files F').map df.nm);rw[KH,v,TG r];exact o.now.ar q<|d o.now;refine q.own o.steps<|λm e=>?_;obtain⟨i,j⟩:=fD o.steps e;exact h j (by decide) (by decide);intro x p;refine(o.each x p).ar q<|λm e=>?_;obtain⟨i,s,j⟩:=(o.each x p).2.2 m e;exact h j (by decide) (by decide);intro x p;rcases Ak p with rfl|p;exact hF;have u:=o.files x<|l x p;refine u.ar q ?_ ?_;rintro(e|e);exact(n x p).1 e.symm;obtain⟨i,j⟩:=fD g.2.1 e;exact iq u.1 j (by decide) rfl;intro m w;rintro(e|e);obtain⟨i,j⟩:=fD u.2.1 w;exact iq j g.1 (by decide) e;exact(n x p).2 m e w;refine DU (o.apart.sublist<|qm _ _)<|λt k=>⟨by rw[v];exact(n t k).1,λm e u=>?_⟩;rcases B m e with w|w;exact(n t k).2 m w u;have:=(aF (o.files t<|l t k).2.1 m u).2;omega
 .exact q.mono (by
   rintro x(rfl|e)
   .exact .inl<|.inr<|.inr<|.inr<|.inr<|.inr ⟨F,c,.inl rfl⟩
   .exact .inl (.inr (.inr (.inr (.inr (.inr ⟨F,c,.inr e⟩))))))
 rintro m(e|e|e|e|e|⟨w,u,e⟩);exact .inl<|.inl e;exact .inl<|.inr<|.inl e;exact .inl<|.inr<|.inr<|.inl e;exact .inl<|.inr<|.inr<|.inr<|.inl e;exact .inl<|.inr<|.inr<|.inr<|.inr<|.inl e;rcases Ak u with rfl|u;rcases e with e|e;exact .inl<|.inr<|.inr<|.inr<|.inr<|.inr ⟨F,c,.inl<|v.symm.trans e⟩;rcases B m e with e|e;exact .inl<|.inr<|.inr<|.inr<|.inr<|.inr ⟨F,c,.inr e⟩;exact .inr e;exact .inl<|.inr<|.inr<|.inr<|.inr<|.inr ⟨w,l w u,e⟩
def Pb(c:ab)(F:df)(m:cJ a b j)(i:qN j.files c=H F)(n:y F.bytes<=140737488351232):cw bF 91 #[aw b,J c] a λl k=>l=aO .nilIface/\∃g,rG a k b j g/\g.files=qK j.files {F with safe:=y F.bytes}/\g.eO=j.eO:=by
 obtain⟨h,e,d⟩:=kG i;have hF:=m.files F e;have f:bV F.data≠H F.pE:=zn hF.2.1 hF.1 (by decide);apply(Th _ c F.pE F.bytes F.safe m.iH m.now d ⟨F.data,hF.1,eJ.bytes hF.2.1,f⟩ n).mono;rintro l k⟨rfl,_,rfl⟩;refine⟨rfl,_,m.YT (F:=F) (F':={F with safe:=y F.bytes}) (by rw[show({F with safe:=y F.bytes}:df).name=F.name from rfl,h];exact i) rfl ((Z.refl _ a).setCell F.pE 1 _<|.inl<|.inl rfl) ⟨?_,?_,hF.2.2⟩<|λo l=>.inl l,rfl,rfl⟩;show(bZ a (R F.pE 1)<|am<|y F.bytes).heap[F.pE]?=_;rw[aQ hF.1];rfl;exact World.ownsRow.kept hF.2.1 (cW a F.pE 1 _)<|.inr f
def VN(c:ab)(F:df)(h:cJ a b j)(f:qN j.files c=H F)(i:y F.bytes<=140737488351232):cw bF 154 #[aw b,J c] a λl k=>l=aO (dA #[am<|y F.bytes,.nilIface])/\k=a:=by
 obtain⟨g,e,d⟩:=kG f;have hF:=h.files F e;exact Tn _ c F.pE F.bytes F.safe h.iH h.now d ⟨F.data,hF.1,eJ.bytes hF.2.1,zn hF.2.1 hF.1<|by decide⟩ i
def uk(a:cr df):M:=(a.map (·.bytes.length)).sum
def qt.left_eq{m left:fg}(l:qt a b c m left):a.rangeLeft b c=y left:=by
 obtain⟨k,d,e,seen,j,g,_,_,h,_,_,_,i⟩:=l;simp only[World.rangeLeft,g,h];have:=bS y i;simpa using this
def Ek{L:cr df}{b a:fg}{p:ab×aa}(h:L.map df.nm=b++p::a):∃A f C,L=A++f::C/\b=A.map df.nm/\p=f.nm/\a=C.map df.nm:=by
 obtain⟨A,D,rfl,c,d⟩:=ix.1 h;obtain⟨f,C,rfl,e,g⟩:=nn.1 d;exact⟨A,f,C,rfl,c.symm,e.symm,g.symm⟩
def eJ.shape(h:eJ a b d o):∃x c,d=I x (y o) c:=aB h
def Ht{db:M}{K:DK}(n:ab)(F:df)(bp e A:M)(f:eK){w:Y}(h:cJ w db K)(L:qN K.files n=H F)(bd:uk K.files+y f<=1099511627776)(ba:kw f)(D:∀bk ad,(f.map<|Value.int .u8)[bk]?=H ad->aS w (R bp<|e+bk)=H ad)(C:bp<z (G w))(bq:y F.bytes<=1099511627776):cw bF 123 #[aw db,J n,bC bp e (y f) A] w λB w'=>B=aO .nilIface/\∃o,rG w w' db K o/\(∃bl,o.files=qK K.files {F with data:=bl,bytes:=F.bytes++f})/\o.eO=K.eO:=by
 obtain⟨i0,hi,bg,bh,bi⟩:=cz qh;obtain⟨bc,Q,O⟩:=kG L;subst bc;have HF:=U<|ve _ F.name (R F.pE 0) h.iH h.now O;have br:=cellAt h.iH 0 rfl;obtain⟨HD,v,HB⟩:=dB (λ(wr:Y)(r:Z az w wr)=>h.ar r<|λ_ _=>id) h.now<|λ(wr:Y)(r:Z az w wr)bk ad(hj:(f.map<|Value.int .u8)[bk]?=H ad)=>r.cell (D bk ad hj) id C;clear h D;go_in
 go_wp2_with(first
  |(go_at_call 145;refine HF.mono ?_;rintro B w1⟨rfl,hw⟩;subst w1)
  |(at_range;refine ui _ rfl _ 70 rfl 9 125 underlying70 K.nb _ rfl v ?_;intro w0 k N bx;have av:=U k;have u:=U N;clear k N))
 go_frame
 go_loopw [9] (λad wr=>∃(bn:cr df)(a:M),(∀al∈bn,al∈K.files)/\ad=am a/\a+uk bn=uk K.files/\qt wr K.nb (z<|G w) (K.files.map df.nm) (bn.map df.nm)/\Z az w wr) (λ_ wr=>wr.rangeLeft K.nb<|z<|G w)
 case atStart=>exact⟨K.files,0,λ_ h=>h,rfl,by simp,av,Z.dM u<|by simp⟩
 case round=>
  obtain⟨bn,a,hL,rfl,l,P,r⟩:=hrel;obtain⟨t,x,bm,HL⟩:=gx P r l hL;clear P r hL;go_wp2_with(first
   |(at_next;refine vD _ rfl _ rfl K.nb (z (G w)) _ _ rfl t ?_ ?_))
  .intro bb;obtain rfl:bn=[]:=by simpa using bb
   have bf:a=uk K.files:=by simpa[uk]using l
   have g:=HD wr x;have hF:=g.files F Q;have bs:=cellAt g.iH 3 rfl;have E:=cellAt hF.1 0 rfl;have V:bV F.data≠H F.pE:=zn hF.2.1 hF.1 (by decide);have c:∀i j,j.ownsRow 0 5 1 i (y F.bytes+y f) (F.bytes.map (Value.int .u8)++f.map (Value.int .u8))->eR wr j F.data i->aS j (R F.pE 0)=H F.data/\j.frozen? (R F.pE 0)=bE/\∃o,rG w (bZ j (R F.pE 0) i) db K o/\(∃bl,o.files=qK K.files {F with data:=bl,bytes:=F.bytes++f})/\o.eO=K.eO:=by
    intro i j ac q;have b:j.heap[F.pE]?=H (aq #[F.data,am F.safe] 129 (0,0)):=(q.grown.block F.pE (aj hF.1)<|λB=>V B.symm).trans hF.1;have W:bV i≠H F.pE:=zn ac b (by decide);refine⟨by rw[bR b];rfl,dJ b,_,(HD w<|Z.refl _ _).YT (F:=F) (F':={F with data:=i,bytes:=F.bytes++f}) L rfl ?_ ⟨?_,?_,hF.2.2.append ba⟩ ?_,⟨i,rfl⟩,rfl⟩
    .exact((x.mono (T:=λan=>an=F.pE\/bV F.data=H an) cG).trans (Z.dM (S:=λan=>bV F.data=H an) q.grown<|λan B=>.inl B)<|λbl B=>.inl<|.inr B).setCell F.pE 0 i<|.inl<|.inl rfl
    .show(bZ j (R F.pE 0) i).heap[F.pE]?=_;rw[aQ b];rfl
    .exact eJ.of (World.ownsRow.kept ac (cW j F.pE 0 i)<|.inr W) (by simp)<|by simp
    .intro an B;rcases q.uc with e'|⟨ax,e',bv⟩
     .exact .inl<|e'.symm.trans B
     .have:ax=an:=by
       have e2:bV i=H an:=B;rw[e']at e2;simpa using e2
      exact .inr (by have:=x.size;omega)
   have s:=U c;have HO:=U hF.2.1;obtain⟨bl,ca,p⟩:=eJ.shape hF.2.1;have bo:¬((1099511627776-a:X)<y f):=by omega
   clear c g hF V;generalize F.data=fd at*;subst p;have ao:=U<|HB wr x;go_wp2_with(first
    |(at_builtin;go_loud(refine bQ _ rfl (.tmp 54) (.tmp 55) 126 rfl 0 5 i0 (.int .u8 0) 1 1 underlying126 hi bg bh bi rfl (by decide) _ (y F.bytes) (F.bytes.map (Value.int .u8)) rfl HO (R bp e) (y f) A (f.map (Value.int .u8)) rfl (by simp) (λbk ad hj=>by rw[du];exact ao bk ad hj) (by intro ad hu;simp only[aY]at hu;obtain⟨bT,_,rfl⟩:=hu;rfl) (by omega) (by omega) (bw _) ?_;intro v2 j d m;obtain⟨bt,bu,c⟩:=s v2 j d m;obtain⟨x2,c2,rfl⟩:=aB d;have au:=U c;clear d m c)))
   go_ret;exact⟨rfl,au⟩
  .intro bf pk pv ac w1 j b i V au;obtain⟨an,al,ao,rfl,rfl,W,rfl⟩:=Ek j;simp only[df.nm,oM,gV]at W;obtain⟨rfl,rfl⟩:=W;have s:al∈K.files:=HL al (by simp);have c:Z az w w1:=x.trans (fi i) (by rintro bl rfl;exact .inr<|ah _);have g:=HD w1 c;have hF:=g.files al s;have E:=cellAt hF.1 0 rfl;obtain⟨bl,ca,p⟩:=eJ.shape hF.2.1;rw[p]at E;have bb:uk (an++al::ao)=uk (an++ao)+y al.bytes:=by simp[uk];omega
   obtain⟨m,d,q⟩:=dB (show(λax=>ax∈K.files)=(λax=>ax∈K.files)from rfl) b c;clear j b i V g hF c m;go_wp2;go_roundw;case rel=>exact⟨an++ao,a+y al.bytes,λax L=>HL ax (by simp at L|-;rcases L with h|h<;>simp[h]),by go_num,by omega,by simpa using ae d,q⟩
   case measure=>rw[(ae d).left_eq,(ae t).left_eq];simp
def Bytes.cells(r:Bytes a (bC b c (y o) l) o):∀j u,(o.map<|Value.int .u8)[j]?=H u->aS a (R b<|c+j)=H u:=by
 rcases r with⟨m,_⟩|⟨q,k,e,m,_,n⟩;cases m;cases m;intro j u h;rw[dz]at h;obtain⟨x,i,rfl⟩:=pK.1 h;have d:j<y o:=(fq.1 i).1;rw[n j d,i];rfl
def Hn{v:aa}{bs:eK}{w:Y}(h:Bytes w v bs)(Q:y bs<=1099511627776)(g:∀q,bV v=H q->q<z (G w)):cw bF 55 #[v] w λP t=>∃s,P=aO s/\eJ t (z<|G w) s bs/\Below (z<|G w) w t:=by
 obtain⟨L,E,m,o,p⟩:=cz qh;rcases h.shape with⟨rfl,rfl⟩|⟨A,e,l,rfl,K⟩;(.have D:∀w:Y,(binOp .eql 126 aK aK).run bF w=.ok (aL bU) w:=λ_=>rfl;(go_in);go_wp2;go_ret;exact⟨_,rfl,eJ.nil _ _,Below.refl _ _⟩)
 .have C:A<z (G w):=g A rfl;have u:=U h.cells;have i:(ct w<|aq #[] 5).ownsRow (z<|G w) 5 1 (bC (z<|G w) 0 0 0) 0 []:=World.ownsRow_lit w #[] 0 (ah _) (by decide) rfl;have x:=U i;have D:∀(w:Y)a n c,(binOp .eql 126 (I (H a) n c) aK).run bF w=.ok (aL bE) w:=λ_ _ _ _=>rfl;clear h g i;go_in
  go_wp2_with(first
   |(at_builtin;refine bQ _ rfl (.tmp 5) (.tmp 6) 126 rfl (z (G w)) 5 L (.int .u8 0) 1 1 underlying126 E m o p rfl (by decide) _ 0 [] rfl x (R A e) (y bs) l (bs.map (Value.int .u8)) rfl (by simp) (λS O F=>by rw[du,fp C];exact u S O F) (by intro O r;simp only[aY]at r;obtain⟨N,_,rfl⟩:=r;rfl) (by omega) (by omega) (by simp) ?_;intro V W b d;have j:=U b;have k:=U d;clear b d))
  go_ret;refine⟨_,rfl,eJ.of j (by simp) (by simp),?_⟩;have:=k.below (B:=z<|G w) (by simp) (by rintro q⟨⟩;exact ah _);exact⟨this.os,this.tape,this.output,aD (by simp) this.size,λq b=>(this.block q b).trans<|Below.heap_alloc w _ q b⟩
def cJ.Db{K:DK}(h:cJ a b K)(r m:X):rG a (bZ (bZ a (R b 6)<|am r) (R b 7)<|am m) b K {K with reads:=r,yF:=m}:=by
 have c:Z (λk=>k=b) a (bZ (bZ a (R b 6)<|am r) (R b 7)<|am m):=((Z.refl (λk=>k=b) a).setCell b 6 _<|.inl rfl).setCell b 7 _<|.inl rfl;have g:(bZ a (R b 6)<|am r).heap[b]?=H (aq #[.map<|H K.nb,.map<|H K.sb,K.mv,am 1099511627776,am 0,am 0,am r,am K.yF] 73 (0,0)):=by rw[aQ h.iH];rfl
 refine⟨⟨?_,h.now.ar c ?_,h.safe.ar c ?_,h.ne,c.own h.steps ?_,?_,?_,h.apart⟩,c.mono<|λx e=>.inl<|.inl e,λk e=>.inl e⟩;unfold og;rw[aQ g];rfl;exactλe=>h.now.tag h.iH e.symm;exactλe=>h.safe.tag h.iH e.symm;exactλk e=>(h.Kc e).2.2;intro x i;refine(h.each x i).ar c<|λk e=>?_;obtain⟨d,j,f⟩:=(h.each x i).2.2 k e;exact iq f h.iH (by decide);intro j i;have hF:=h.files j i;refine hF.ar c (iq hF.1 h.iH<|by decide)<|λk e=>?_;obtain⟨d,f⟩:=fD hF.2.1 e;exact iq f h.iH<|by decide
def Bh(t:ab)(F:df)(q B:M)(h:cJ a b j)(hg:qN j.files t=H F)(hl:y F.bytes<=1099511627776)(ha:q<=y F.bytes)(hn:B<=1099511627776):cw bF 155 #[aw b,J t,am q,am B] a λf K=>∃E,f=aO (dA #[E,.nilIface])/\eJ K (z<|G a) E ((F.bytes.drop q).take B)/\∃w,rG a K b j w/\w.files=j.files/\w.eO=j.eO/\∀k,w.aZ b k->j.aZ b k:=by
 obtain⟨T,m,r⟩:=kG hg;have bb:=cellAt h.iH 6 rfl;have bf:=dJ (i:=6) h.iH;have v:∀u,aS (bZ a (R b 6)<|am u) (R b 7)=H (am j.yF)/\(bZ a (R b 6)<|am u).frozen? (R b 7)=bE:=by intro u;(have s:(bZ a (R b 6)<|am u).heap[b]?=H (aq #[.map<|H j.nb,.map<|H j.sb,j.mv,am 1099511627776,am 0,am 0,am u,am j.yF] 73 (0,0)):=by rw[aQ h.iH];rfl);exact⟨by rw[bR s];rfl,dJ s⟩
 have bc:=λu=>(v u).1;have bg:=λu=>(v u).2;have HF:=U<|λu N=>ve _ t (R F.pE 0) (h.Db u N).ok.iH (h.Db u N).ok.now r;have Q:∀u N,aS (bZ (bZ a (R b 6)<|am u) (R b 7)<|am N) (R F.pE 0)=H F.data:=λu N=>by rw[bR ((h.Db u N).ok.files F m).1];rfl
 have o:=(h.files F m).2.1
 have c:=U (λ(u N:X)(ad:aa)(O:eK)(hb:Bytes a ad O)(V:y O<=1099511627776)(ho:∀k,bV ad=H k->bV F.data=H k)=>
  have S:=h.Db u N
  have P:Bytes (bZ (bZ a (R b 6)<|am u) (R b 7)<|am N) ad O:=by
   have s:bV F.data≠H b:=zn o h.iH (by decide);have C:bV ad≠H b:=λf=>s<|ho b f;exact(hb.grown (cW a b 6 _)<|.inl C).grown (cW _ b 7 _)<|.inl C
  show cw bF 55 #[ad] (bZ (bZ a (R b 6)<|am u) (R b 7)<|am N) λf K=>∃E,f=aO E/\eJ K (z<|G a) E O/\∃w,rG a K b j w/\w.files=j.files/\w.eO=j.eO/\∀k,w.aZ b k->j.aZ b k from(Hn P V (λk f=>by
   have:=(aF o k (ho k f)).2;simpa[World.setCell]using this)).mono (by
    rintro f K⟨E,rfl,C,s⟩;have D:z (G<|bZ (bZ a (R b 6)<|am u) (R b 7)<|am N)=z (G a):=by simp[World.setCell]
    rw[D]at C s;have ht:Z az (bZ (bZ a (R b 6) (am u)) (R b 7) (am N)) K:=Z.aT (by rw[D];exact s);exact⟨E,rfl,C,_,⟨S.ok.ar ht (λ_ _=>id),S.ar.ci ht,S.aZ⟩,rfl,rfl,λ_ f=>f⟩))
 have A:=eJ.bytes o;rcases(show _ from o).2 with⟨g,L⟩|⟨av,x,ax,g,_,_,bi,bd,_,_⟩
 .have s:F.bytes=[]:=aP L;have D:q=0:=by rw[s]at ha;simpa using ha
  subst D;rw[g]at Q;have P:(F.bytes.drop 0).take B=[]:=by rw[s];simp
  rw[P];have l:=U (show∀ac,bV (I none 0 0)=H ac->bV F.data=H ac fromλac f=>by cases f);clear h o A g T m r hg P s ha hl;rcases fS B with C|C
  .subst C;by_cases hm:j.yF<((0:M):X);all_goals
    go_in
    go_wp2_with(first
     |(go_at_call 145;refine(HF _ _).mono ?_;rintro f W⟨rfl,hw⟩;subst W)
     |(go_at_call 55;refine(c _ _ aK [] (.inl ⟨rfl,rfl⟩) (bw _) l).mono ?_;rintro f w2⟨v2,rfl,e,d⟩;have n:=U e;have p:=U d;clear e d))
    go_ret2
    exact⟨_,rfl,n,p⟩
  .by_cases hm:j.yF<B;all_goals
    go_in
    go_wp2_with(first
     |(go_at_call 145;refine(HF _ _).mono ?_;rintro f W⟨rfl,hw⟩;subst W)
     |(go_at_call 55;refine(c _ _ aK [] (.inl ⟨rfl,rfl⟩) (bw _) l).mono ?_;rintro f w2⟨v2,rfl,e,d⟩;have n:=U e;have p:=U d;clear e d))
    go_ret2
    exact⟨_,rfl,n,p⟩
 .have H1:∀k,q+k<=y F.bytes->Bytes a (bC av q k<|x-q) ((F.bytes.drop q).take k):=by
   intro k hk;rw[g]at A;have v:=A.BD ha;rw[cR]at v;have h2:=Bytes.take (bs:=F.bytes.drop q) (by simpa using v) (n:=k) (by simp;omega);exact h2
  have H0:∀k,q+k<=y F.bytes->q=x->Bytes a (bC av 0 k 0) ((F.bytes.drop q).take k):=by
   intro k hk f;obtain rfl:k=0:=by omega
   exact .inr ⟨av,0,0,by simp,by simp,λk hk=>by simp at hk⟩
  have au:∃k,k=min B (y F.bytes-q)/\q+k<=y F.bytes/\(F.bytes.drop q).take k=(F.bytes.drop q).take B:=⟨min B<|y F.bytes-q,rfl,by omega,by rw[List.take_eq_take_iff];simp⟩;obtain⟨k,hk,P,V⟩:=au;have D:=H1 k P;have C:=H0 k P;rw[V]at D C;have S:y ((F.bytes.drop q).take B)<=1099511627776:=by simp;omega
  obtain⟨al,ad,an⟩:=dB D C S;have s:∀(o b a ac:M),bV (bC av o b a)=H ac->bV F.data=H ac:=by rw[g];exactλ_ _ _ ac f=>f
  have l:=U s;rw[g]at Q;clear D C S h o A H1 H0 s g T m r hg V;have ba:q<=x:=by omega
  by_cases hm:j.yF<B;all_goals
   by_cases ao:q=x;all_goals
    by_cases bh:B<=y F.bytes-q;all_goals
     go_in
     go_wp2_with(first
      |(go_at_call 145;refine(HF _ _).mono ?_;rintro f W⟨rfl,hw⟩;subst W)
      |(go_at_call 55;refine(c _ _ _ ((F.bytes.drop q).take B) (by
       have v:=ae al;have L:=ae ad;first
        |((have f:k=B:=by omega);rw[f]at L;exact L<|by omega)
        |((have f:k=0:=by omega);rw[f]at L;exact L<|by omega)
        |((have f:k=B:=by omega);rw[f]at v;exact v)
        |((have f:k=y F.bytes-q:=by omega);rw[f]at v;exact v)) an (λac f=>l _ _ _ ac f)).mono ?_;rintro f w2⟨v2,rfl,e,d⟩;have n:=U e;have p:=U d;clear e d))
     go_ret2
     exact⟨_,rfl,by first|exact n|(have h9:=ae n;rw[ao]at h9;exact h9),p⟩
def rr(b:M):DK:=⟨b,b+1,aK,0,0,[],[],[]⟩
def GO(w:Y):gF (ct w<|.map #[] 0) (z<|G w) []:=⟨#[],0,fw _ _,rfl,wA 0⟩
def Cj(w:Y):cw bF 10 #[am 1099511627776] w λe b=>e=aO (aw<|z (G w)+2)/\cJ b (z (G w)+2) (rr<|z<|G w)/\Below (z<|G w) w b:=by
 have d:=@tG bF;have a:cJ (ct (ct (ct w<|.map #[] 0)<|.map #[] 0)<|aq #[.map<|H<|z<|G w,.map<|H<|z (G w)+1,aK,am 1099511627776,am 0,am 0,am 0,am 0] 73) (z (G w)+2) (rr<|z<|G w):=by refine⟨?_,((GO w).alloc _).alloc _,?_,by simp[rr],bJ _ _ _ _,by simp[rr],by simp[rr],by simp[rr]⟩;have:=fw (ct (ct w<|.map #[] 0)<|.map #[] 0)<|aq #[.map<|H<|z<|G w,.map<|H<|z (G w)+1,aK,am 1099511627776,am 0,am 0,am 0,am 0] 73;simpa[og,rr]using this;have:=(GO<|ct w<|.map #[] 0).alloc<|aq #[.map<|H<|z<|G w,.map<|H<|z (G w)+1,aK,am 1099511627776,am 0,am 0,am 0,am 0] 73;simpa[rr]using this
 have c:=U a;clear a;go_in
 go_wp2;go_ret;exact⟨rfl,c,((((Below.refl _ w).alloc (ah _) _).alloc (by simp) _).alloc (by simp;omega) _)⟩
def DT:∀{m:fg}{k:ab},m.get k=none->m.put k d=m++[(k,d)]
 |[],k,_=>rfl
 |p::r,k,h=>by
  unfold fg.get at h;by_cases e:p.1=k
  .rw[dw e]at h;cases h
  .rw[cY e]at h;unfold fg.put;rw[cY e,DT h];rfl
def LM{v:aa}:∀{m:fg}{k:ab},m.get k=none->fg.get (m++[(k,v)]) k=H v
 |[],k,_=>by simp[fg.get]
 |p::r,k,h=>by
  unfold fg.get at h;by_cases e:p.1=k
  .rw[dw e]at h;cases h
  .rw[cY e]at h;show fg.get (p::(r++[(k,v)])) k=H v;unfold fg.get;rw[cY e];exact LM h
def LN{a:cr df}(h:v∉a.map df.name):fg.get (a.map df.nm) v=none:=by
 induction a with
 |nil=>rfl
 |cons f a b=>
  rw[aX,aA,not_or]at h;rw[aX];unfold fg.get;rw[cY<|λe=>h.1 e.symm];exact b h.2
def qW{m:fg}{t:TypeId}{e:M×M}(j:gF a b m)(d:a.heap[c]?=H (aq V t e)):c≠b:=by
 rintro rfl;obtain⟨i,h,g,_⟩:=j;rw[g]at d;cases d
def cJ.add{K:DK}{f:df}{j:fg}(l:cJ a b K)(v:K.eO=[])(r:Z (λk=>k=K.nb\/k=K.sb) a C)(m:gF C K.nb (K.files.map df.nm++[f.nm]))(i:gF C K.sb j)(u:xU C f)(A:z (G a)<=f.pE)(t:∀k,bV f.data=H k->z (G a)<=k):cJ C b {K with files:=K.files++[f],sm:=j}/\∀k,DK.aZ b {K with files:=K.files++[f],sm:=j} k->K.aZ b k\/k=f.pE\/bV f.data=H k:=by
 have c:∀{k:M}{b:Array aa}{t:TypeId}{d:M×M},a.heap[k]?=H (aq b t d)->¬(k=K.nb\/k=K.sb):=λh g=>g.elim (qW l.now h)<|qW l.safe h;refine⟨⟨?_,?_,i,l.ne,?_,?_,?_,?_⟩,?_⟩;exact(r.block b (aj l.iH)<|c l.iH).trans l.iH;rw[aM];exact m;exact r.own l.steps (λk h g=>by obtain⟨n,o⟩:=fD l.steps h;exact c o g);show∀x∈K.eO,_;rw[v];simp;intro s d;rcases ak.1 d with d|d;have e:=l.files s d;exact e.ar r (c e.1) (λk h g=>by obtain⟨n,o⟩:=fD e.2.1 h;exact c o g);obtain rfl:=bG.1 d;exact u;show(K.files++[f]).Pairwise mR;rw[bP];refine⟨l.apart,List.pairwise_singleton _ _,λs d w p=>?_⟩;obtain rfl:=bG.1 p;have e:=l.files s d;refine⟨λB=>by have:=aj e.1;omega,λk h q=>?_⟩;have:=(aF e.2.1 k h).2;have:=t k q;omega;rintro k(g|g|g|g|⟨x,p,g⟩|⟨s,d,g⟩);exact .inl<|.inl g;exact .inl<|.inr<|.inl g;exact .inl<|.inr<|.inr<|.inl g;exact .inl<|.inr<|.inr<|.inr<|.inl g;exact .inl<|.inr<|.inr<|.inr<|.inr<|.inl ⟨x,p,g⟩;rcases ak.1 d with d|d;exact .inl<|.inr<|.inr<|.inr<|.inr<|.inr ⟨s,d,g⟩;obtain rfl:=bG.1 d;exact .inr<|g.imp Eq.symm id
def Af{P:Program}{r:Oper}{h:Act}{K:Act->Y->Prop}{Q:Exit->Act->Y->Prop}(i A j:Operand)(x:TypeId)(g:r.op=Op.mapUpdate x i A j)(v B:TypeId)(o:P.underlying x=H (.map v B))(m:P.underlying v=H .string)(k:M)(w:fg)(n:h.eval i=.map (H k))(C:gF a k w)(b:ab)(c:aa)(q:h.eval A=J b)(p:h.eval j=c)(l:∀d,gF d k (w.put b c)->a.grownBy d (H k)->z (G d)=z (G a)->K (h.put r.dst iC) d):Oper.wp P r h a K Q:=by
 obtain⟨d,e,s,t,u⟩:=Cc o m C b c;unfold Oper.wp;simp[execOp,g,n,q,p,e,Result.andThen];exact l d s t u
