import Derived.Carry
import Derived.Laws.OwnMore
import Derived.Test.YtojeeoclojldpaaGreatDoorC2
import Derived.Test.YtojeeoclojldpaaGreatDoorC3
open _root_ renaming List.length→y,Option.some→H,Array.size→z,Go.World.heap→G,Go.Value.ownBlock→bV,Go.World.cell?→aT,Go.World.setCell→bZ,Go.World.alloc→ct,Bool.false→bF,Bool.true→bW,Nat→M,Int→Z,List→cr,Go.Calls→cy,Go.undef→iB,Go.Proofs.Tryz.prog→bG,Go.Value.slice→J,Go.Value.string→ai,Go.Value.bool→aL,Go.Value.pointer→fp,Go.Value.tuple→dB
namespace Go.Proofs.YtojeeoclojldpaaGreatDoor
open ChangeShapes WideShapes RowKit Proofs.Tryz
set_option maxHeartbeats 16000000
set_option linter.all false
set_option maxRecDepth 100000
variable{a f C:I}{b c g l:M}{d s:aa}{m F Q:Z}{o:eI}{v:ab}{x:iU}{V:Array aa}
def oM:Option M->aa
 |none=>.pointer none
 |some g=>.pointer<|H<|R g 0
abbrev Mv:=ab×Option M
def ym(p:Mv):iU:=[ai p.1,oM p.2]
def ru(l:cr Mv):iU:=l.flatMap ym
def IK(l:cr Mv)(i:M)(h:i<y l):(ru l)[i*2]?=H (ai l[i].1)/\(ru l)[i*2+1]?=H (oM l[i].2):=by
 induction l generalizing i with
 |nil=>simp at h
 |cons p r a=>
  cases i with
  |zero=>simp[ru,ym]
  |succ i=>
   have:=a i (by simpa using h);have e:(i+1)*2=i*2+2:=by omega
   rw[e];simpa[ru,ym]using this
def Vn(w:I)(v:aa)(l:cr Mv):Prop:=Row w 2 v (y l)<|ru l
def Ld(m:fc)(x:Mv):fc:=match x.2 with
 |none=>m.del x.1
 |some g=>m.put x.1<|oM<|H g
def rK(m:fc)(l:cr Mv):fc:=l.foldl Ld m
def Lc(m:fc)(l:cr Mv)(n:M)(h:n<y l):rK m (l.take<|n+1)=Ld (rK m<|l.take n) l[n]:=by
 unfold rK;rw[aj h,iJ];rfl
def qZ(h:aT a (R b c)=H d):b<z (G a):=by
 by_cases e:b<z (G a);exact e;unfold World.cell? at h;rw[eD<|by simpa using e]at h;simp at h
def gE.ne{m:fc}(l:gE a b m)(h:aT a (R c g)=H d):c≠b:=by
 obtain⟨k,e,i,_⟩:=l;intro j;subst j;simp[World.cell?,i]at h
def GM(K:fc)(p:cr Mv)(v:gE a b K)(S:Vn a d p)(hr:y p<=1000000000000):cy bG 147 #[.map<|H b,d] a λad N=>ad=aO (dB #[])/\gE N b (rK K p)/\a.grownBy N (H b):=by
 obtain⟨Q,⟨rfl,P⟩|⟨D,j,O,rfl,V,E⟩⟩:=S;(.obtain rfl:p=[]:=aQ P;have t:=U v;clear v;(go_in);go_wp2;(go_loopw [8] (λF wr=>F=ap 0/\wr=a) (λ_ _=>0));(case atStart=>exact⟨rfl,rfl⟩);(case round=>obtain⟨rfl,rfl⟩:=hrel;go_wp2;go_end0;exact⟨rfl,t,sZ _ _⟩))
 .have w:=U E;have t:=U v;clear E Q v;go_in
  go_wp2;go_loopw [8] (λF wr=>∃n:M,n<=y p/\F=ap n/\gE wr b (rK K<|p.take n)/\a.grownBy wr (H b)) (λF _=>y p-(intOf F).toNat)
  case atStart=>exact⟨0,bA _,rfl,t,sZ _ _⟩
  case round=>
   obtain⟨n,hn,rfl,e,g⟩:=hrel;by_cases r:n<y p
   .have u:=IK p n r;have m:=w _ _ u.1;have q:=qZ m;have s:=t.ne m;have c:wr.heap[D]?=a.heap[D]?:=g.block D q (by simpa using s);have x:aT wr (R D<|j+n*2)=H (ai p[n].1):=(cH (w:=a) c).trans<|w _ _ u.1;have o:aT wr (R D<|j+n*2+1)=H (oM p[n].2):=(cH (w:=a) c).trans (by rw[aV];exact w _ _ u.2);have C:=U<|Lc K p n r;clear u m c q s;generalize rK K (p.take n)=ac at*;generalize p[n]=al at*;obtain⟨L,W⟩:=al;simp only at x o;have A:=U<|λv=>e.alloc v;have B:=U<|λv=>g.trans<|dr wr v<|H b;clear e g;cases W with
    |none=>
     simp only[oM]at o;go_wp2_with(first
      |(at_delete;refine Di _ rfl _ _ 70 9 rfl 125 underlying70 underlying9 b ac rfl (A _) L rfl ?_;intro X i f;have l:=U i;have k:=U f;clear i f))
     go_roundw;case rel=>exact⟨n+1,by omega,by go_num,by rw[ae C];exact l,(B _).trans k⟩
     case measure=>simp[intOf];omega
    |some an=>
     simp only[oM]at o;go_wp2_with(first
      |(at_mapUpdate;refine Dh _ rfl _ _ _ 70 rfl 9 125 underlying70 underlying9 b ac rfl (A _) L _ rfl rfl ?_;intro X i f;have l:=U i;have k:=U f;clear i f))
     go_roundw;case rel=>exact⟨n+1,by omega,by go_num,by rw[ae C];exact l,(B _).trans k⟩
     case measure=>simp[intOf];omega
   .have i:n=y p:=by omega
    subst i;have f:=U e;have c:=U g;clear e g;go_wp2;go_end0;have:=ae f;rw[bP]at this;exact⟨rfl,this,c⟩
def RC:(prog.info? 261).map (λi=>(i.zero,i.size,i.bytes))=H (H aK,1,24):=by kernel_rfl
def tr(w:I)(x:aa)(t:TypeId):∀j u,[x][j]?=H u->aT (ct w<|ar #[x] t) (((R (z<|G w) 0):Addr).add j)=H u:=by
 intro j u a;rw[dt];unfold World.cell?;rw[ft];simpa using a
structure Fm(w w':I)(db nb sb:M)(mv:aa)(room reads yE:Z)(m:fc)(n:M)(xs:iU)(mv':aa):Prop where
 iG:oe w' db nb sb mv' room reads yE
 now:gE w' nb m
 steps:w'.ownsRow 0 261 1 mv' n xs
 aw:Y (λk=>k=db\/k=nb\/bV mv=H k) w w'
 own:bV mv'=bV mv\/∃g,bV mv'=H g/\z (G w)<=g
def Eo(ba:fc)(C:cr Mv)(h:oe f b c g d m F Q)(S:gE f c ba)(hl:Vn f s C)(hr:y C<=1000000000000)(L:f.ownsRow 0 261 1 d l x)(hn:l<=1000000000000):cy bG 182 #[aA b,s] f λt w'=>t=aO (dB #[])/\∃ax,Fm f w' b c g d m F Q (rK ba C) (l+1) (x++[s]) ax:=by
 obtain⟨i0,an,ao,au,av⟩:=cz RC;have HS:=U<|GM ba C S hl hr;obtain⟨B,w,rfl⟩:=bM hl;have X:=cellAt h 0 rfl;have o:b≠c:=S.ne X;have K:bV d≠H b:=zl L h (by decide);have A:bV d≠H c:=by intro t;obtain⟨r,q⟩:=fD L t;obtain⟨O,N,E,_⟩:=S;rw[E]at q;cases q
 have n:∀i r k,gE i c (rK ba C)->f.grownBy i (H c)->k.ownsRow 0 261 1 r (l+1) (x++[J B (y C) w])->eP (ct i<|ar #[J B (y C) w] 261) k d r->aT k (R b 2)=H d/\k.frozen? (R b 2)=bF/\Fm f (bZ k (R b 2) r) b c g d m F Q (rK ba C) (l+1) (x++[J B (y C) w]) r:=by intro i r k p e N q;have ac:i.heap[b]?=f.heap[b]?:=e.block b (ak h) (by simpa using o);have E:b<z (G i):=ag (ak h) e.size;have al:(ct i<|ar #[J B (y C) w] 261).heap[b]?=f.heap[b]?:=(Below.heap_alloc i _ b E).trans ac;have ad:k.heap[b]?=f.heap[b]?:=(q.grown.block b (by simp;omega)<|λt=>K t.symm).trans al;have P:oe k b c g d m F Q:=ad.trans h;have O:bV r≠H b:=zl N P (by decide);refine⟨by rw[bN P];rfl,dK P,⟨?_,?_,?_,?_,?_⟩⟩;unfold oe;rw[aR P];rfl;exact((p.alloc _).kept q.grown<|λt=>A t.symm).kept (cV k b 2 r) (by simp;exactλt=>o t.symm);exact N.kept (cV k b 2 r)<|.inr O;refine((Y.dN e (by rintro bf⟨⟩;exact .inl<|.inr<|.inl rfl)).alloc<|ar #[J B (y C) w] 261).trans (T:=λbf=>bV d=H bf) (Y.dN q.grown<|λbf t=>.inl t) (λx t=>.inl<|.inr<|.inr t)|>.setCell b 2 r (.inl<|.inl rfl);rcases q.uc with t|⟨bf,t,hg⟩;exact .inl t;exact .inr ⟨bf,t,by have:=e.size;simp at hg;omega⟩
 obtain⟨HG,HO,V⟩:=dC n (λi(e:f.grownBy i (H c))=>(L.kept e<|.inr A).alloc<|ar #[J B (y C) w] 261)<|λi(e:f.grownBy i (H c))=>(cH (w:=f) (a:=(R b 2))<|e.block b (ak h)<|by simpa using o).trans (show aT f (R b 2)=H d by rw[bN h];rfl);obtain⟨xm,cm,rfl⟩:=aC L;clear h S hl L n K A o;go_in
 go_wp2_with(first
  |(go_at_call 147;refine HS.mono ?_;rintro t i⟨rfl,p,e⟩;have bb:=V i e;have W:=U p;have D:=U e;clear p e)
  |(at_builtin;refine bS _ rfl (.tmp 14) (.tmp 16) 71 rfl 0 261 i0 aK 1 24 underlying71 an ao au av rfl (by decide) _ l x rfl (HO i D) (R (z (G i)) 0) 1 1 [.slice B (y C) w] rfl rfl (tr _ _ _) (by simp[Value.oneCell']) (by omega) (by omega) (bA _) ?_;intro v2 k j v;obtain⟨bc,bd,u⟩:=HG i v2 k W D j v;obtain⟨x2,c2,rfl⟩:=aC j;have HF:=U u;clear j v u))
 go_end0;exact⟨rfl,_,HF⟩
structure da where
 name:ab
 pE:M
 data:aa
 bytes:eI
 safe:Z
def da.nm(f:da):ab×aa:=(f.name,oM<|H f.pE)
structure DK where
 nb:M
 sb:M
 mv:aa
 reads:Z
 yE:Z
 files:cr da
 sm:fc
 eM:cr (aa×cr Mv)
variable{j:DK}
def xS(w:I)(f:da):Prop:=w.heap[f.pE]?=H (ar #[f.data,ap f.safe] 129 (0,0))/\eH w 0 f.data f.bytes/\kA f.bytes
def tv(w:I)(x:aa×cr Mv):Prop:=Vn w x.1 x.2/\y x.2<=2/\∀k,bV x.1=H k->∃a b,w.heap[k]?=H (ar a 302 b)
def mP(f g:da):Prop:=f.pE≠g.pE/\∀k,bV f.data=H k->bV g.data≠H k
def mP.symm{f g:da}(h:mP f g):mP g f:=⟨λe=>h.1 e.symm,λk e a=>h.2 k a e⟩
structure cK(w:I)(db:M)(K:DK):Prop where
 iG:oe w db K.nb K.sb K.mv 1099511627776 K.reads K.yE
 now:gE w K.nb (K.files.map da.nm)
 safe:gE w K.sb K.sm
 ne:K.nb≠K.sb
 steps:w.ownsRow 0 261 1 K.mv (y K.eM) (K.eM.map (·.1))
 each:∀x∈K.eM,tv w x
 files:∀f∈K.files,xS w f
 apart:K.files.Pairwise mP
def DK.bj(a:M)(K:DK)(k:M):Prop:=k=a\/k=K.nb\/k=K.sb\/bV K.mv=H k\/(∃x∈K.eM,bV x.1=H k)\/∃f∈K.files,f.pE=k\/bV f.data=H k
def xS.aw{S:fJ}{w w':I}{f:da}(h:xS w f)(a:Y S w w')(b:¬S f.pE)(c:∀k,bV f.data=H k->¬S k):xS w' f:=⟨(a.block _ (ak h.1) b).trans h.1,a.own h.2.1 c,h.2.2⟩
def tv.aw{S:fJ}{w w':I}{x:aa×cr Mv}(m:tv w x)(h:Y S w w')(d:∀k,bV x.1=H k->¬S k):tv w' x:=by
 obtain⟨j,l,g⟩:=m;refine⟨h.row j<|λk e=>⟨d k e,?_⟩,l,λk e=>?_⟩;obtain⟨a,c,b⟩:=g k e;exact ak b;obtain⟨a,c,b⟩:=g k e;exact⟨a,c,(h.block k (ak b)<|d k e).trans b⟩
def gE.aw{S:fJ}{w w':I}{m:fc}(j:gE w b m)(h:Y S w w')(e:¬S b):gE w' b m:=by
 obtain⟨d,c,a,g⟩:=j;exact⟨d,c,(h.block b (ak a) e).trans a,g⟩
def gE.tag{m:fc}(k:gE a b m){e:M×M}(d:a.heap[g]?=H (ar V c e)):g≠b:=by
 obtain⟨j,h,f,_⟩:=k;intro i;subst i;rw[f]at d;cases d
def io{e:Array aa}{f h:M×M}(i:a.heap[b]?=H (ar V g f))(d:a.heap[c]?=H (ar e l h))(k:g≠l):b≠c:=by
 intro j;subst j;rw[i]at d;cases d;exact k rfl
def cK.lt(h:cK a b j):∀k,j.bj b k->k<z (G a):=by
 rintro k(rfl|rfl|rfl|e|⟨x,g,e⟩|⟨f,c,rfl|e⟩);exact ak h.iG;exact h.now.lt;exact h.safe.lt;exact(aI h.steps k e).2;obtain⟨_,_,d⟩:=(h.each x g).2.2 k e;exact ak d;exact ak (h.files f c).1;exact(aI (h.files f c).2.1 k e).2
def cK.aw{S:fJ}{w w':I}(h:cK w b j)(c:Y S w w')(a:∀k,j.bj b k->¬S k):cK w' b j where
 iG:=(c.block b (ak h.iG)<|a _<|.inl rfl).trans h.iG
 now:=h.now.aw c<|a _<|.inr<|.inl rfl
 safe:=h.safe.aw c<|a _<|.inr<|.inr<|.inl rfl
 ne:=h.ne
 steps:=c.own h.steps<|λ_ e=>a _<|.inr<|.inr<|.inr<|.inl e
 each x hx:=(h.each x hx).aw c<|λ_ e=>a _<|.inr<|.inr<|.inr<|.inr<|.inl ⟨x,hx,e⟩
 files f hf:=(h.files f hf).aw c (a _<|.inr<|.inr<|.inr<|.inr<|.inr ⟨f,hf,.inl rfl⟩)<|λ_ e=>a _<|.inr<|.inr<|.inr<|.inr<|.inr ⟨f,hf,.inr e⟩
 apart:=h.apart
def cK.alloc{w:I}(h:cK w c j)(o:Obj):cK (ct w o) c j:=h.aw ((Y.refl aB w).alloc o)<|λ_ _=>id
def cK.named{K:DK}{C:cr Mv}{n:cr da}(l:cK a b K)(k:Fm a f b K.nb K.sb K.mv 1099511627776 K.reads K.yE (n.map da.nm) (y K.eM+1) (K.eM.map (·.1)++[d]) s)(B:tv a (d,C))(q:∀t∈n,xS a t)(A:n.Pairwise mP):cK f b {K with mv:=s,files:=n,eM:=K.eM++[(d,C)]}:=by
 have e:∀{o u:M}{r:Array aa}{p:M×M},a.heap[o]?=H (ar r u p)->u≠73->u≠261->¬(o=b\/o=K.nb\/bV K.mv=H o):=by rintro o u r p j v w(i|i|i);exact io j l.iG v i;exact l.now.tag j i;obtain⟨h,m⟩:=fD l.steps i;exact io j m w rfl
 have c:∀x,tv a x->tv f x:=λx g=>g.aw k.aw (λo i=>by obtain⟨h,p,j⟩:=g.2.2 o i;exact e j (by decide)<|by decide);refine⟨k.iG,k.now,l.safe.aw k.aw ?_,l.ne,?_,?_,?_,A⟩;rintro(i|i|i);exact l.safe.tag l.iG i.symm;exact l.ne i.symm;obtain⟨h,m⟩:=fD l.steps i;exact l.safe.tag m rfl;have:=k.steps;simpa using this;intro x g;rcases am.1 g with g|g;exact c x<|l.each x g;(obtain rfl:x=(d,C):=by simpa using g);exact c _ B;intro t j;refine(q t j).aw k.aw (e (q t j).1 (by decide)<|by decide)<|λo i=>?_;obtain⟨h,m⟩:=fD (q t j).2.1 i;exact e m (by decide)<|by decide
def Fm.bj{K:DK}{p:cr Mv}{j:cr da}{u:fc}(m:Fm a C b K.nb K.sb K.mv 1099511627776 K.reads K.yE u c x s)(r:g<=z (G a))(o:∀k,bV d=H k->g<=k)(n:∀f∈j,∀k,(f.pE=k\/bV f.data=H k)->K.bj b k\/g<=k):∀k,({K with mv:=s,files:=j,eM:=K.eM++[(d,p)]}:DK).bj b k->K.bj b k\/g<=k:=by
 rintro k(rfl|rfl|rfl|h|⟨q,e,h⟩|⟨f,l,h⟩);exact .inl<|.inl rfl;exact .inl<|.inr<|.inl rfl;exact .inl<|.inr<|.inr<|.inl rfl;rcases m.own with i|⟨v,i,t⟩;exact .inl<|.inr<|.inr<|.inr<|.inl<|i.symm.trans h;rw[show({K with mv:=s,files:=j,eM:=K.eM++[(d,p)]}:DK).mv=s from rfl,i]at h;cases h;exact .inr (by omega);rcases am.1 e with e|e;exact .inl<|.inr<|.inr<|.inr<|.inr<|.inl ⟨q,e,h⟩;(obtain rfl:q=(d,p):=by simpa using e);exact .inr<|o k h;exact n f l k h
def Je{m:fc}(h:m.get v=none)(c:aa):m.put v c=m++[(v,c)]:=by
 induction m with
 |nil=>rfl
 |cons p r b=>
  by_cases a:p.1=v
  .simp[fc.get,a]at h
  .simp[fc.get,a]at h;simp[fc.put,a,b h]
structure rG(w w':I)(db:M)(K K':DK):Prop where
 ok:cK w' db K'
 aw:Y (K.bj db) w w'
 bj:∀k,K'.bj db k->K.bj db k\/z (G w)<=k
def Ep(m:fc)(x:Mv):rK m [x]=Ld m x:=rfl
def Cv{K:DK}(c:ab)(h:cK a b K)(t:fc.get (K.files.map da.nm) c=none)(N:y K.eM<=1000000000000):cy bG 121 #[aA b,ai c] a λe q=>e=aO .nilIface/\∃i,rG a q b K i/\i.files=K.files++[⟨c,z<|G a,aK,[],0⟩]/\y i.eM=y K.eM+1:=by
 obtain⟨T,L,u,_,_⟩:=cz tX;have x:=tR underlying70 underlying9 L u h.now c;rw[t]at x;simp only[uB]at x;have F:=cellAt h.iG 0 rfl;have B:=U<|yx h.iG
 have g:∃W:I,W=ct (ct a<|ar #[aK,ap 0] 129) (ar #[ai c,aA<|z<|G a] 302)/\cy bG 182 #[aA b,bD (z (G a)+1) 0 1 1] W λe q=>e=aO (dB #[])/\∃i,rG a q b K i/\i.files=K.files++[⟨c,z<|G a,aK,[],0⟩]/\y i.eM=y K.eM+1:=by
  refine⟨_,rfl,?_⟩;have m:=(h.alloc<|ar #[aK,ap 0] 129).alloc<|ar #[ai c,aA<|z<|G a] 302;have k:(ct a<|ar #[aK,ap 0] 129).heap[z<|G a]?=H (ar #[aK,ap 0] 129 (0,0)):=ft _ _;have f:=(Below.heap_alloc (ct a<|ar #[aK,ap 0] 129) (ar #[ai c,aA<|z<|G a] 302) (z<|G a)<|by simp).trans k;have n:(ct (ct a<|ar #[aK,ap 0] 129)<|ar #[ai c,aA<|z<|G a] 302).heap[z (G a)+1]?=H (ar #[ai c,aA<|z<|G a] 302 (0,0)):=by
   have:=ft (ct a<|ar #[aK,ap 0] 129)<|ar #[ai c,aA<|z<|G a] 302;simpa using this
  generalize s:(ct (ct a<|ar #[aK,ap 0] 129)<|ar #[ai c,aA<|z<|G a] 302)=W at*;have l:∀S,Y S a W:=λS=>by rw[<-s];exact((Y.refl S a).alloc _).alloc _
  have o:tv W (bD (z (G a)+1) 0 1 1,[(c,H<|z<|G a)]):=by
   refine⟨show Row _ _ _ _ _ from⟨rfl,.inr ⟨z (G a)+1,0,1,rfl,ah _,λE Q D=>?_⟩⟩,by simp,λO e=>?_⟩
   .rw[cQ,bN n];simpa[ru,ym,oM]using D
   .cases e;exact⟨_,_,n⟩
  apply(Eo (K.files.map da.nm) [(c,H<|z<|G a)] m.iG m.now o.1 (by simp) m.steps N).mono;rintro e q⟨rfl,p,r⟩;refine⟨rfl,{K with mv:=p,files:=K.files++[da.mk c (z<|G a) aK [] 0],eM:=K.eM++[(bD (z (G a)+1) 0 1 1,[(c,H<|z<|G a)])]},?_,rfl,by simp⟩;have j:Fm W q b K.nb K.sb K.mv 1099511627776 K.reads K.yE ((K.files++[da.mk c (z<|G a) aK [] 0]).map da.nm) (y K.eM+1) (K.eM.map (·.1)++[bD (z (G a)+1) 0 1 1]) p:=by
   rw[Ep]at r;simp only[Ld,Je t]at r;simpa[da.nm]using r
  refine⟨m.named j o ?_ ?_,?_,?_⟩
  .intro v d;rcases am.1 d with d|d
   .exact m.files v d
   .obtain rfl:v=⟨c,z<|G a,aK,[],0⟩:=by simpa using d
    exact⟨f,eH.nil _ _,by intro V D;simp at D⟩
  .refine bR.2 ⟨h.apart,by simp,λQ D S E=>?_⟩;obtain rfl:S=⟨c,z<|G a,aK,[],0⟩:=by simpa using E
   refine⟨λe=>?_,λO _ e=>by cases e⟩;have:=ak (h.files Q D).1;simp only at e;omega
  .exact(l _).trans j.aw (by
    rintro V(rfl|rfl|e)
    .exact .inl<|.inl rfl
    .exact .inl<|.inr<|.inl rfl
    .exact .inl (.inr (.inr (.inr (.inl e)))))
  .refine j.bj (l aB).size (λO e=>by cases e;exact Nat.le_succ _)<|λv d O e=>?_;rcases am.1 d with d|d
   .exact .inl<|.inr<|.inr<|.inr<|.inr<|.inr ⟨v,d,e⟩
   .obtain rfl:v=⟨c,z<|G a,aK,[],0⟩:=by simpa using d
    rcases e with e|e
    .exact .inr (by simp only at e;omega)
    .cases e
 obtain⟨W,s,g⟩:=g;have C:=U g;clear g h t;go_in
 go_wp2_with(first
  |(go_at_call 146;refine B.mono ?_;rintro e P⟨rfl,rfl⟩)
  |(go_at_call 182;subst s;refine yY (by simpa using ae C) ?_;rintro e P⟨rfl,w⟩;have A:=U w;clear w))
 go_ret;exact⟨rfl,A⟩
def qM:cr da->ab->Option da
 |[],_=>none
 |f::r,n=>if f.name=n then H f else qM r n
def pB:cr da->ab->cr da
 |[],_=>[]
 |f::r,n=>if f.name=n then r else f::pB r n
def qJ:cr da->da->cr da
 |[],f=>[f]
 |g::r,f=>if g.name=f.name then f::r else g::qJ r f
def Mc(a:cr da)(n:ab):(pB a n).map da.nm=fc.del (a.map da.nm) n:=by
 induction a with
 |nil=>rfl
 |cons f r b=>by_cases h:f.name=n<;>simp[pB,fc.del,da.nm,h,<-b]
def KI(a:cr da)(f:da):(qJ a f).map da.nm=fc.put (a.map da.nm) f.name (oM<|H f.pE):=by
 induction a with
 |nil=>rfl
 |cons g r b=>by_cases h:g.name=f.name<;>simp[qJ,fc.put,da.nm,h,<-b]
def kH{a:cr da}{f:da}(h:qM a v=H f):f.name=v/\f∈a/\fc.get (a.map da.nm) v=H (oM<|H f.pE):=by
 induction a with
 |nil=>cases h
 |cons i r g=>
  by_cases e:i.name=v
  .simp[qM,e]at h;subst h;exact⟨e,by simp,by simp[fc.get,da.nm,e]⟩
  .simp[qM,e]at h;obtain⟨b,c,d⟩:=g h;exact⟨b,by simp[c],by simpa[fc.get,da.nm,e]using d⟩
def Bt{a:cr da}(h:qM a v=none):fc.get (a.map da.nm) v=none:=by
 induction a with
 |nil=>rfl
 |cons g r b=>
  by_cases e:g.name=v
  .simp[qM,e]at h
  .simp[qM,e]at h;simpa[fc.get,da.nm,e]using b h
def qm(a:cr da)(n:ab):(pB a n).Sublist a:=by
 induction a with
 |nil=>exact ew _
 |cons f r b=>
  by_cases h:f.name=n
  .simp[pB,h]
  .simpa[pB,h]using b
def EW{a:cr da}{f:da}(i:a.Pairwise mP)(h:qM a v=H f):∀g∈pB a v,mP f g:=by
 induction a with
 |nil=>cases h
 |cons g r j=>
  obtain⟨c,d⟩:=bw.1 i;by_cases e:g.name=v
  .simp[qM,e]at h;subst h;simpa[pB,e]using c
  .simp[qM,e]at h;intro x b;simp[pB,e]at b;rcases b with rfl|b
   .exact(c f (kH h).2.1).symm
   .exact j d h x b
def Ai{a:cr da}{f x:da}(h:x∈qJ a f):x=f\/x∈pB a f.name:=by
 induction a with
 |nil=>left;simpa[qJ]using h
 |cons g r b=>
  by_cases e:g.name=f.name
  .simp[qJ,e]at h;simpa[pB,e]using h
  .simp[qJ,e]at h;simp[pB,e];rcases h with rfl|h
   .exact .inr<|.inl rfl
   .rcases b h with h|h
    .exact .inl h
    .exact .inr<|.inr h
def DU{b:cr da}{f:da}(c:(pB b f.name).Pairwise mP)(h:∀g∈pB b f.name,mP f g):(qJ b f).Pairwise mP:=by
 induction b with
 |nil=>simp[qJ]
 |cons g r j=>
  by_cases e:g.name=f.name
  .simp only[pB,e,je]at c h;simp only[qJ,e,je];exact bw.2 ⟨h,c⟩
  .simp only[pB,e,kg]at c h;simp only[qJ,e,kg];obtain⟨d,i⟩:=bw.1 c;refine bw.2 ⟨λx a=>?_,j i<|λx a=>h x<|by simp[a]⟩;rcases Ai a with rfl|a
   .exact(h g<|by simp).symm
   .exact d x a
def Sj{b:cr da}{f:da}(a:f.name≠v):pB (qJ b f) v=qJ (pB b v) f:=by
 induction b with
 |nil=>simp[pB,qJ,a]
 |cons g r d=>
  by_cases e:g.name=f.name
  .have:g.name≠v:=by rw[e];exact a
   simp[pB,qJ,e,a]
  .by_cases c:g.name=v
   .have:¬v=f.name:=λh=>a h.symm;simp[pB,qJ,c,this]
   .simp[pB,qJ,e,c,d]
def Hj{K:DK}{x:cr Mv}{e:cr da}(A:cK a b K)(l:∀S,Y S a f)(k:Fm f C b K.nb K.sb K.mv 1099511627776 K.reads K.yE (e.map da.nm) (y K.eM+1) (K.eM.map (·.1)++[d]) s)(v:tv f (d,x))(u:∀w,bV d=H w->z (G a)<=w)(n:∀g∈e,∃h∈K.files,g.pE=h.pE/\g.data=h.data/\g.bytes=h.bytes/\g.safe=h.safe)(t:e.Pairwise mP):rG a C b K {K with mv:=s,files:=e,eM:=K.eM++[(d,x)]}:=by
 have o:cK f b K:=A.aw (l aB)<|λ_ _=>id;refine⟨o.named k v (λg c=>?_) t,?_,?_⟩;obtain⟨h,m,i,j,q,r⟩:=n g c;have:=o.files h m;unfold xS at*;rw[i,j,q,r];exact this
 .exact(l _).trans k.aw (by
   rintro q(rfl|rfl|p)
   .exact .inl<|.inl rfl
   .exact .inl<|.inr<|.inl rfl
   .exact .inl (.inr (.inr (.inr (.inl p)))))
 refine k.bj (l aB).size u<|λg c w p=>.inl ?_;obtain⟨h,m,i,j,_⟩:=n g c;exact .inr<|.inr<|.inr<|.inr<|.inr ⟨h,m,by rw[<-i,<-j];exact p⟩
def Nq(c:ab)(F:da)(h:cK a b j)(p:qM j.files c=H F)(u:y j.eM<=1000000000000):cy bG 158 #[aA b,ai c] a λi k=>i=aO .nilIface/\∃d,rG a k b j d/\d.files=pB j.files c/\y d.eM=y j.eM+1:=by
 have r:=U<|vf _ c (R F.pE 0) h.iG h.now (kH p).2.2;have g:cy bG 182 #[aA b,bD (z<|G a) 0 1 1] (ct a<|ar #[ai c,fp none] 302) λi k=>i=aO (dB #[])/\∃d,rG a k b j d/\d.files=pB j.files c/\y d.eM=y j.eM+1:=by have e:(ct a<|ar #[ai c,fp none] 302).heap[z<|G a]?=H (ar #[ai c,fp none] 302 (0,0)):=ft _ _;have o:∀S,Y S a (ct a<|ar #[ai c,fp none] 302):=λS=>(Y.refl S a).alloc _;generalize ct a (ar #[ai c,fp none] 302)=W at*;have m:cK W b j:=h.aw (o aB)<|λ_ _=>id;(have f:tv W (bD (z<|G a) 0 1 1,[(c,none)]):=by refine⟨show Row _ _ _ _ _ from⟨rfl,.inr ⟨z<|G a,0,1,rfl,ah _,λA B t=>?_⟩⟩,by simp,λx i=>?_⟩;rw[cQ,bN e];simpa[ru,ym,oM]using t;cases i;exact⟨_,_,e⟩);apply(Eo (j.files.map da.nm) [(c,none)] m.iG m.now f.1 (by simp) m.steps u).mono;rintro i k⟨rfl,v,l⟩;rw[Ep]at l;simp only[Ld,<-Mc]at l;exact⟨rfl,_,Hj h o l f (λx i=>by cases i;exact ah _) (λb a=>⟨b,(qm _ _).subset a,rfl,rfl,rfl,rfl⟩)<|h.apart.sublist<|qm _ _,rfl,by simp⟩
 have s:=U g;clear g h p;go_in
 go_wp2_with(first
  |(go_at_call 144;refine r.mono ?_;rintro i w⟨rfl,rfl⟩)
  |(go_at_call 182;refine yY s ?_;rintro i w⟨rfl,n⟩;have q:=U n;clear n))
 go_ret;exact⟨rfl,q⟩
def Np(c d:ab)(F:da)(h:cK a b j)(m:qM j.files c=H F)(f:c≠d)(B:y j.eM<=1000000000000):cy bG 204 #[aA b,ai c,ai d] a λg n=>g=aO .nilIface/\∃e,rG a n b j e/\e.files=qJ (pB j.files c) {F with name:=d}/\y e.eM=y j.eM+1:=by
 have w:=U<|vf _ c (R F.pE 0) h.iG h.now (kH m).2.2;have l:cy bG 182 #[aA b,bD (z<|G a) 0 2 2] (ct a<|ar #[ai d,aA F.pE,ai c,fp none] 302) λg n=>g=aO (dB #[])/\∃e,rG a n b j e/\e.files=qJ (pB j.files c) {F with name:=d}/\y e.eM=y j.eM+1:=by have i:(ct a<|ar #[ai d,aA F.pE,ai c,fp none] 302).heap[z<|G a]?=H (ar #[ai d,aA F.pE,ai c,fp none] 302 (0,0)):=ft _ _;have t:∀S,Y S a (ct a<|ar #[ai d,aA F.pE,ai c,fp none] 302):=λS=>(Y.refl S a).alloc _;generalize ct a (ar #[ai d,aA F.pE,ai c,fp none] 302)=W at*;have q:cK W b j:=h.aw (t aB)<|λ_ _=>id;(have k:tv W (bD (z<|G a) 0 2 2,[(d,H F.pE),(c,none)]):=by refine⟨show Row _ _ _ _ _ from⟨rfl,.inr ⟨z<|G a,0,2,rfl,ah _,λK N p=>?_⟩⟩,by simp,λL g=>?_⟩;rw[cQ,bN i];simpa[ru,ym,oM]using p;cases g;exact⟨_,_,i⟩);apply(Eo (j.files.map da.nm) [(d,H F.pE),(c,none)] q.iG q.now k.1 (by simp) q.steps B).mono;rintro g n⟨rfl,C,s⟩;(have A:rK (j.files.map da.nm) [(d,H F.pE),(c,none)]=(qJ (pB j.files c) {F with name:=d}).map da.nm:=by rw[<-Sj (f:={F with name:=d}) (λg=>f g.symm),Mc,KI];rfl);rw[A]at s;refine⟨rfl,_,Hj h t s k (λL g=>by cases g;exact ah _) (λE o=>?_) ?_,rfl,by simp⟩;rcases Ai o with rfl|o;exact⟨F,(kH m).2.1,rfl,rfl,rfl,rfl⟩;exact⟨E,(qm _ _).subset<|(qm _ _).subset o,rfl,rfl,rfl,rfl⟩;refine DU ((h.apart.sublist<|qm _ _).sublist<|qm _ _)<|λK p=>?_;have:=EW h.apart m K<|(qm _ _).subset p;exact this
 have u:(!c.toList==d.toList)=bW:=by simp[zp f]
 have x:=U l;clear l h m f;go_in
 go_wp2_with(first
  |(go_at_call 144;refine w.mono ?_;rintro g D⟨rfl,rfl⟩)
  |(go_at_call 182;refine yY x ?_;rintro g D⟨rfl,r⟩;have v:=U r;clear r))
 go_ret;exact⟨rfl,v⟩
def cK.Ke(h:cK a b j){k:M}(e:bV j.mv=H k):k≠j.sb/\k≠j.nb/\k≠b:=by
 obtain⟨d,c⟩:=fD h.steps e;exact⟨h.safe.tag c,h.now.tag c,io c h.iG<|by decide⟩
def cK.WX{K:DK}{D:fc}(h:cK a b K)(i:Y (λk=>k=K.sb) a f)(n:gE f K.sb D):rG a (bZ f (R b 2) aK) b K {K with mv:=aK,eM:=[],sm:=D}:=by
 have c:b≠K.sb:=h.safe.tag h.iG;have l:oe f b K.nb K.sb K.mv 1099511627776 K.reads K.yE:=(i.block b (ak h.iG) c).trans h.iG;have d:Y (λk=>k=b\/k=K.sb) a (bZ f (R b 2) aK):=(i.mono<|λx e=>.inl<|.inr e).setCell b 2 _<|.inl<|.inl rfl;refine⟨⟨?_,?_,?_,h.ne,bK _ _ _ _,by simp,?_,h.apart⟩,?_,?_⟩;unfold oe;rw[aR l];rfl;refine h.now.aw d ?_;rintro(e|e);exact h.now.tag h.iG e.symm;exact h.ne e;exact n.kept (cV f b 2 _) (by simp;exactλe=>c e.symm);intro o m;have hF:=h.files o m;refine hF.aw d ?_ ?_;rintro(e|e);exact io hF.1 h.iG (by decide) e;exact h.safe.tag hF.1 e;intro k e;obtain⟨j,g⟩:=fD hF.2.1 e;rintro(e|e);exact io g h.iG (by decide) e;exact h.safe.tag g e
 .exact d.mono (by
   rintro x(rfl|rfl)
   .exact .inl<|.inl rfl
   .exact .inl (.inr (.inr (.inl rfl))))
 rintro k(e|e|e|e|⟨x,g,_⟩|e);exact .inl<|.inl e;exact .inl<|.inr<|.inl e;exact .inl<|.inr<|.inr<|.inl e;cases e;cases g;exact .inl<|.inr<|.inr<|.inr<|.inr<|.inr e
def BZ(h:cK a b j)(hn:y j.eM<=1000000000000):cy bG 92 #[aA b] a λx r=>x=aO .nilIface/\∃C,rG a r b j C/\C.files=j.files/\C.eM=[]:=by
 have N:=U<|yx h.iG;have F:b≠j.sb:=h.safe.tag h.iG;have k:∀wr,Y (λs=>s=j.sb) a wr->aT wr (R b 1)=H (.map<|H j.sb)/\aT wr (R b 2)=H j.mv/\wr.frozen? (R b 2)=bF:=by intro wr e;have i:oe wr b j.nb j.sb j.mv 1099511627776 j.reads j.yE:=(e.block b (ak h.iG) F).trans h.iG;exact⟨by rw[bN i];rfl,by rw[bN i];rfl,dK i⟩
 have t:=U k;have ad:=(k a<|Y.refl _ _).2.1;have m:=U<|λ(r:I)(D:fc)(e:Y (λs=>s=j.sb) a r)(o:gE r j.sb D)=>h.WX e o;have l:∀(wr:I)(n:M)(d:n<y j.eM)(D:fc),Y (λs=>s=j.sb) a wr->gE wr j.sb D->cy bG 147 #[.map<|H j.sb,j.eM[n].1] wr λx r=>x=aO (dB #[])/\gE r j.sb (rK D j.eM[n].2)/\wr.grownBy r (H j.sb):=by intro wr n d D e o;have i:=(h.each j.eM[n]<|aq d).aw e (λs x v=>by obtain⟨E,w,p⟩:=(h.each j.eM[n]<|aq d).2.2 s x;exact h.safe.tag p v);exact GM D j.eM[n].2 o i.1 (by have:=i.2.1;omega)
 obtain⟨g,c,f,u⟩:=gx l h.steps h.safe<|λs=>h.Ke (k:=s);clear k l h;generalize an:j.mv=mv at*;rcases c.2 with⟨rfl,X⟩|⟨av,W,E,rfl,_,Q,au,_,k,q⟩
 .have i:j.eM=[]:=aQ X;clear g c u;go_in
  go_wp2_with(first
   |(go_at_call 146;refine N.mono ?_;rintro x L⟨rfl,hw⟩;subst L))
  go_loopw [15] (λS wr=>S=ap 0/\wr=a) (λ_ _=>0)
  case atStart=>exact⟨rfl,rfl⟩
  case round=>
   obtain⟨rfl,rfl⟩:=hrel;have K:=(t wr<|Y.refl _ _).2.2;go_wp2;go_ret;exact⟨rfl,_,m wr j.sm (Y.refl _ _) f,rfl,rfl⟩
 .have i:∀n(d:n<y j.eM)wr,Y (λs=>s=j.sb) a wr->aT wr (R av n)=H j.eM[n].1:=by
   intro n d wr e;refine e.cell ?_ (u av rfl).1<|ak Q;have:=World.ownsRow.cellAt c n (by omega);rw[this];simp[d]
  have p:=U i;clear i k q Q c;go_in
  go_wp2_with(first
   |(go_at_call 146;refine N.mono ?_;rintro x L⟨rfl,hw⟩;subst L))
  go_loopw [15] (λS wr=>∃n:M,n<=y j.eM/\S=ap n/\Y (λs=>s=j.sb) a wr/\∃D,gE wr j.sb D) (λS _=>y j.eM-(intOf S).toNat)
  case atStart=>exact⟨0,bA _,rfl,Y.refl _ _,j.sm,f⟩
  case round=>
   obtain⟨n,ao,rfl,e,D,o⟩:=hrel;obtain⟨ac,P,K⟩:=t wr e;have O:=U e;have T:=U o;by_cases d:n<y j.eM
   .have al:=p n d wr e;have V:=U<|g wr n d D e o;clear e o;go_wp2_with(first
     |(go_at_call 147;refine V.mono ?_;rintro x w2⟨rfl,w,v⟩;have B:=U w;have A:=U v;clear w v))
    go_roundw;case rel=>exact⟨n+1,by omega,by go_num,O.trans (fg A)<|λa x=>.inl x,_,B⟩
    case measure=>simp[intOf];omega
   .clear e o;have v:n=y j.eM:=by omega
    subst v;go_wp2;go_ret;exact⟨rfl,_,m wr D O T,rfl,rfl⟩
def Tw{m:fc}(h:fc.get m v=H d):fc.put m v d=m:=by
 induction m with
 |nil=>cases h
 |cons p r a=>
  by_cases e:p.1=v
  .simp[fc.get,e]at h;simp[fc.put,e,<-h];rw[<-e]
  .simp[fc.get,e]at h;simp[fc.put,e,a h]
def cK.YP{K:DK}{F F':da}(o:cK a b K)(A:qM K.files F'.name=H F)(v:F'.pE=F.pE)(q:Y (λm=>m=F.pE\/bV F.data=H m) a f)(hF:xS f F')(B:∀m,bV F'.data=H m->bV F.data=H m\/z (G a)<=m):rG a f b K {K with files:=qJ K.files F'}:=by
 obtain⟨_,c,r⟩:=kH A;have g:=o.files F c;have h:∀{m C:M}{u:Array aa}{s:M×M},a.heap[m]?=H (ar u C s)->C≠129->C≠5->¬(m=F.pE\/bV F.data=H m):=by rintro m C u s w D E(e|e);exact io w g.1 D e;obtain⟨i,j⟩:=fD g.2.1 e;exact io w j E rfl
 have d:∀{w:M}{C:fc},gE a w C->¬(w=F.pE\/bV F.data=H w):=by rintro w C u(e|e);exact u.tag g.1 e.symm;obtain⟨i,j⟩:=fD g.2.1 e;exact u.tag j rfl
 have l:∀t∈pB K.files F'.name,t∈K.files:=λt k=>(qm _ _).subset k;have n:=EW o.apart A;refine⟨⟨?_,?_,o.safe.aw q<|d o.safe,o.ne,?_,?_,?_,?_⟩,?_,?_⟩;exact(q.block b (ak o.iG)<|h o.iG (by decide)<|by decide).trans o.iG;show gE f K.nb ((qJ K.files F').map da.nm);rw[KI,v,Tw r];exact o.now.aw q<|d o.now;refine q.own o.steps<|λm e=>?_;obtain⟨i,j⟩:=fD o.steps e;exact h j (by decide) (by decide);intro x p;refine(o.each x p).aw q<|λm e=>?_;obtain⟨i,s,j⟩:=(o.each x p).2.2 m e;exact h j (by decide) (by decide);intro x p;rcases Ai p with rfl|p;exact hF;have u:=o.files x<|l x p;refine u.aw q ?_ ?_;rintro(e|e);exact(n x p).1 e.symm;obtain⟨i,j⟩:=fD g.2.1 e;exact io u.1 j (by decide) rfl;intro m w;rintro(e|e);obtain⟨i,j⟩:=fD u.2.1 w;exact io j g.1 (by decide) e;exact(n x p).2 m e w;refine DU (o.apart.sublist<|qm _ _)<|λt k=>⟨by rw[v];exact(n t k).1,λm e u=>?_⟩;rcases B m e with w|w;exact(n t k).2 m w u;have:=(aI (o.files t<|l t k).2.1 m u).2;omega
 .exact q.mono (by
   rintro x(rfl|e)
   .exact .inl<|.inr<|.inr<|.inr<|.inr<|.inr ⟨F,c,.inl rfl⟩
   .exact .inl (.inr (.inr (.inr (.inr (.inr ⟨F,c,.inr e⟩))))))
 rintro m(e|e|e|e|e|⟨w,u,e⟩);exact .inl<|.inl e;exact .inl<|.inr<|.inl e;exact .inl<|.inr<|.inr<|.inl e;exact .inl<|.inr<|.inr<|.inr<|.inl e;exact .inl<|.inr<|.inr<|.inr<|.inr<|.inl e;rcases Ai u with rfl|u;rcases e with e|e;exact .inl<|.inr<|.inr<|.inr<|.inr<|.inr ⟨F,c,.inl<|v.symm.trans e⟩;rcases B m e with e|e;exact .inl<|.inr<|.inr<|.inr<|.inr<|.inr ⟨F,c,.inr e⟩;exact .inr e;exact .inl<|.inr<|.inr<|.inr<|.inr<|.inr ⟨w,l w u,e⟩
def OV(c:ab)(F:da)(m:cK a b j)(i:qM j.files c=H F)(n:y F.bytes<=140737488351232):cy bG 90 #[aA b,ai c] a λl k=>l=aO .nilIface/\∃g,rG a k b j g/\g.files=qJ j.files {F with safe:=y F.bytes}/\g.eM=j.eM:=by
 obtain⟨h,e,d⟩:=kH i;have hF:=m.files F e;have f:bV F.data≠H F.pE:=zl hF.2.1 hF.1 (by decide);apply(SY _ c F.pE F.bytes F.safe m.iG m.now d ⟨F.data,hF.1,eH.bytes hF.2.1,f⟩ n).mono;rintro l k⟨rfl,_,rfl⟩;refine⟨rfl,_,m.YP (F:=F) (F':={F with safe:=y F.bytes}) (by rw[show({F with safe:=y F.bytes}:da).name=F.name from rfl,h];exact i) rfl ((Y.refl _ a).setCell F.pE 1 _<|.inl<|.inl rfl) ⟨?_,?_,hF.2.2⟩<|λo l=>.inl l,rfl,rfl⟩;show(bZ a (R F.pE 1)<|ap<|y F.bytes).heap[F.pE]?=_;rw[aR hF.1];rfl;exact World.ownsRow.kept hF.2.1 (cV a F.pE 1 _)<|.inr f
def VC(c:ab)(F:da)(h:cK a b j)(f:qM j.files c=H F)(i:y F.bytes<=140737488351232):cy bG 153 #[aA b,ai c] a λl k=>l=aO (dB #[ap<|y F.bytes,.nilIface])/\k=a:=by
 obtain⟨g,e,d⟩:=kH f;have hF:=h.files F e;exact Te _ c F.pE F.bytes F.safe h.iG h.now d ⟨F.data,hF.1,eH.bytes hF.2.1,zl hF.2.1 hF.1<|by decide⟩ i
def uk(a:cr da):M:=(a.map (·.bytes.length)).sum
def qt.left_eq{m left:fc}(l:qt a b c m left):a.rangeLeft b c=y left:=by
 obtain⟨k,d,e,seen,j,g,_,_,h,_,_,_,i⟩:=l;simp only[World.rangeLeft,g,h];have:=bU y i;simpa using this
def Ek{L:cr da}{b a:fc}{p:ab×aa}(h:L.map da.nm=b++p::a):∃A f C,L=A++f::C/\b=A.map da.nm/\p=f.nm/\a=C.map da.nm:=by
 obtain⟨A,D,rfl,c,d⟩:=iw.1 h;obtain⟨f,C,rfl,e,g⟩:=ni.1 d;exact⟨A,f,C,rfl,c.symm,e.symm,g.symm⟩
def eH.shape(h:eH a b d o):∃x c,d=J x (y o) c:=aC h
def Hu{db:M}{K:DK}(n:ab)(F:da)(bo e A:M)(f:eI){w:I}(h:cK w db K)(L:qM K.files n=H F)(bc:uk K.files+y f<=1099511627776)(ax:kA f)(D:∀bi ac,(f.map<|Value.int .u8)[bi]?=H ac->aT w (R bo<|e+bi)=H ac)(C:bo<z (G w))(bp:y F.bytes<=1099511627776):cy bG 122 #[aA db,ai n,bD bo e (y f) A] w λB w'=>B=aO .nilIface/\∃o,rG w w' db K o/\(∃bk,o.files=qJ K.files {F with data:=bk,bytes:=F.bytes++f})/\o.eM=K.eM:=by
 obtain⟨i0,hi,bf,bg,bh⟩:=cz qh;obtain⟨bb,Q,O⟩:=kH L;subst bb;have HF:=U<|vf _ F.name (R F.pE 0) h.iG h.now O;have bq:=cellAt h.iG 0 rfl;obtain⟨HD,v,HB⟩:=dC (λ(wr:I)(r:Y aB w wr)=>h.aw r<|λ_ _=>id) h.now<|λ(wr:I)(r:Y aB w wr)bi ac(hj:(f.map<|Value.int .u8)[bi]?=H ac)=>r.cell (D bi ac hj) id C;clear h D;go_in
 go_wp2_with(first
  |(go_at_call 144;refine HF.mono ?_;rintro B w1⟨rfl,hw⟩;subst w1)
  |(at_range;refine ui _ rfl _ 70 rfl 9 125 underlying70 K.nb _ rfl v ?_;intro w0 k N bv;have au:=U k;have u:=U N;clear k N))
 go_frame
 go_loopw [9] (λac wr=>∃(bm:cr da)(a:M),(∀ad∈bm,ad∈K.files)/\ac=ap a/\a+uk bm=uk K.files/\qt wr K.nb (z<|G w) (K.files.map da.nm) (bm.map da.nm)/\Y aB w wr) (λ_ wr=>wr.rangeLeft K.nb<|z<|G w)
 case atStart=>exact⟨K.files,0,λ_ h=>h,rfl,by simp,au,Y.dN u<|by simp⟩
 case round=>
  obtain⟨bm,a,hL,rfl,l,P,r⟩:=hrel;obtain⟨t,x,bl,HL⟩:=gx P r l hL;clear P r hL;go_wp2_with(first
   |(at_next;refine vE _ rfl _ rfl K.nb (z (G w)) _ _ rfl t ?_ ?_))
  .intro ba;obtain rfl:bm=[]:=by simpa using ba
   have bd:a=uk K.files:=by simpa[uk]using l
   have g:=HD wr x;have hF:=g.files F Q;have br:=cellAt g.iG 3 rfl;have E:=cellAt hF.1 0 rfl;have V:bV F.data≠H F.pE:=zl hF.2.1 hF.1 (by decide);have c:∀i j,j.ownsRow 0 5 1 i (y F.bytes+y f) (F.bytes.map (Value.int .u8)++f.map (Value.int .u8))->eP wr j F.data i->aT j (R F.pE 0)=H F.data/\j.frozen? (R F.pE 0)=bF/\∃o,rG w (bZ j (R F.pE 0) i) db K o/\(∃bk,o.files=qJ K.files {F with data:=bk,bytes:=F.bytes++f})/\o.eM=K.eM:=by
    intro i j X q;have b:j.heap[F.pE]?=H (ar #[F.data,ap F.safe] 129 (0,0)):=(q.grown.block F.pE (ak hF.1)<|λB=>V B.symm).trans hF.1;have W:bV i≠H F.pE:=zl X b (by decide);refine⟨by rw[bN b];rfl,dK b,_,(HD w<|Y.refl _ _).YP (F:=F) (F':={F with data:=i,bytes:=F.bytes++f}) L rfl ?_ ⟨?_,?_,hF.2.2.append ax⟩ ?_,⟨i,rfl⟩,rfl⟩
    .exact((x.mono (T:=λal=>al=F.pE\/bV F.data=H al) cG).trans (Y.dN (S:=λal=>bV F.data=H al) q.grown<|λal B=>.inl B)<|λbk B=>.inl<|.inr B).setCell F.pE 0 i<|.inl<|.inl rfl
    .show(bZ j (R F.pE 0) i).heap[F.pE]?=_;rw[aR b];rfl
    .exact eH.of (World.ownsRow.kept X (cV j F.pE 0 i)<|.inr W) (by simp)<|by simp
    .intro al B;rcases q.uc with e'|⟨av,e',bu⟩
     .exact .inl<|e'.symm.trans B
     .have:av=al:=by
       have e2:bV i=H al:=B;rw[e']at e2;simpa using e2
      exact .inr (by have:=x.size;omega)
   have s:=U c;have HO:=U hF.2.1;obtain⟨bk,bT,p⟩:=eH.shape hF.2.1;have bn:¬((1099511627776-a:Z)<y f):=by omega
   clear c g hF V;generalize F.data=fd at*;subst p;have an:=U<|HB wr x;go_wp2_with(first
    |(at_builtin;go_loud(refine bS _ rfl (.tmp 54) (.tmp 55) 126 rfl 0 5 i0 (.int .u8 0) 1 1 underlying126 hi bf bg bh rfl (by decide) _ (y F.bytes) (F.bytes.map (Value.int .u8)) rfl HO (R bo e) (y f) A (f.map (Value.int .u8)) rfl (by simp) (λbi ac hj=>by rw[dt];exact an bi ac hj) (by intro ac hu;simp only[aZ]at hu;obtain⟨bx,_,rfl⟩:=hu;rfl) (by omega) (by omega) (bA _) ?_;intro v2 j d m;obtain⟨bs,bt,c⟩:=s v2 j d m;obtain⟨x2,c2,rfl⟩:=aC d;have ao:=U c;clear d m c)))
   go_ret;exact⟨rfl,ao⟩
  .intro bd pk pv X w1 j b i V ao;obtain⟨al,ad,an,rfl,rfl,W,rfl⟩:=Ek j;simp only[da.nm,oM,gT]at W;obtain⟨rfl,rfl⟩:=W;have s:ad∈K.files:=HL ad (by simp);have c:Y aB w w1:=x.trans (fg i) (by rintro bk rfl;exact .inr<|ah _);have g:=HD w1 c;have hF:=g.files ad s;have E:=cellAt hF.1 0 rfl;obtain⟨bk,bT,p⟩:=eH.shape hF.2.1;rw[p]at E;have ba:uk (al++ad::an)=uk (al++an)+y ad.bytes:=by simp[uk];omega
   obtain⟨m,d,q⟩:=dC (show(λav=>av∈K.files)=(λav=>av∈K.files)from rfl) b c;clear j b i V g hF c m;go_wp2;go_roundw;case rel=>exact⟨al++an,a+y ad.bytes,λav L=>HL av (by simp at L|-;rcases L with h|h<;>simp[h]),by go_num,by omega,by simpa using ae d,q⟩
   case measure=>rw[(ae d).left_eq,(ae t).left_eq];simp
def Bytes.cells(r:Bytes a (bD b c (y o) l) o):∀j u,(o.map<|Value.int .u8)[j]?=H u->aT a (R b<|c+j)=H u:=by
 rcases r with⟨m,_⟩|⟨q,k,e,m,_,n⟩;cases m;cases m;intro j u h;rw[dz]at h;obtain⟨x,i,rfl⟩:=pK.1 h;have d:j<y o:=(fo.1 i).1;rw[n j d,i];rfl
def Ho{v:aa}{bs:eI}{w:I}(h:Bytes w v bs)(Q:y bs<=1099511627776)(g:∀q,bV v=H q->q<z (G w)):cy bG 54 #[v] w λP t=>∃s,P=aO s/\eH t (z<|G w) s bs/\Below (z<|G w) w t:=by
 obtain⟨L,E,m,o,p⟩:=cz qh;rcases h.shape with⟨rfl,rfl⟩|⟨A,e,l,rfl,K⟩;(.have D:∀w:I,(binOp .eql 126 aK aK).run bG w=.ok (aL bW) w:=λ_=>rfl;(go_in);go_wp2;go_ret;exact⟨_,rfl,eH.nil _ _,Below.refl _ _⟩)
 .have C:A<z (G w):=g A rfl;have u:=U h.cells;have i:(ct w<|ar #[] 5).ownsRow (z<|G w) 5 1 (bD (z<|G w) 0 0 0) 0 []:=World.ownsRow_lit w #[] 0 (ah _) (by decide) rfl;have x:=U i;have D:∀(w:I)a n c,(binOp .eql 126 (J (H a) n c) aK).run bG w=.ok (aL bF) w:=λ_ _ _ _=>rfl;clear h g i;go_in
  go_wp2_with(first
   |(at_builtin;refine bS _ rfl (.tmp 5) (.tmp 6) 126 rfl (z (G w)) 5 L (.int .u8 0) 1 1 underlying126 E m o p rfl (by decide) _ 0 [] rfl x (R A e) (y bs) l (bs.map (Value.int .u8)) rfl (by simp) (λS O F=>by rw[dt,fm C];exact u S O F) (by intro O r;simp only[aZ]at r;obtain⟨N,_,rfl⟩:=r;rfl) (by omega) (by omega) (by simp) ?_;intro V W b d;have j:=U b;have k:=U d;clear b d))
  go_ret;refine⟨_,rfl,eH.of j (by simp) (by simp),?_⟩;have:=k.below (B:=z<|G w) (by simp) (by rintro q⟨⟩;exact ah _);exact⟨this.os,this.tape,this.output,aE (by simp) this.size,λq b=>(this.block q b).trans<|Below.heap_alloc w _ q b⟩
def cK.Da{K:DK}(h:cK a b K)(r m:Z):rG a (bZ (bZ a (R b 6)<|ap r) (R b 7)<|ap m) b K {K with reads:=r,yE:=m}:=by
 have c:Y (λk=>k=b) a (bZ (bZ a (R b 6)<|ap r) (R b 7)<|ap m):=((Y.refl (λk=>k=b) a).setCell b 6 _<|.inl rfl).setCell b 7 _<|.inl rfl;have g:(bZ a (R b 6)<|ap r).heap[b]?=H (ar #[.map<|H K.nb,.map<|H K.sb,K.mv,ap 1099511627776,ap 0,ap 0,ap r,ap K.yE] 73 (0,0)):=by rw[aR h.iG];rfl
 refine⟨⟨?_,h.now.aw c ?_,h.safe.aw c ?_,h.ne,c.own h.steps ?_,?_,?_,h.apart⟩,c.mono<|λx e=>.inl<|.inl e,λk e=>.inl e⟩;unfold oe;rw[aR g];rfl;exactλe=>h.now.tag h.iG e.symm;exactλe=>h.safe.tag h.iG e.symm;exactλk e=>(h.Ke e).2.2;intro x i;refine(h.each x i).aw c<|λk e=>?_;obtain⟨d,j,f⟩:=(h.each x i).2.2 k e;exact io f h.iG (by decide);intro j i;have hF:=h.files j i;refine hF.aw c (io hF.1 h.iG<|by decide)<|λk e=>?_;obtain⟨d,f⟩:=fD hF.2.1 e;exact io f h.iG<|by decide
def Be(t:ab)(F:da)(q B:M)(h:cK a b j)(hg:qM j.files t=H F)(hl:y F.bytes<=1099511627776)(X:q<=y F.bytes)(hn:B<=1099511627776):cy bG 154 #[aA b,ai t,ap q,ap B] a λf K=>∃E,f=aO (dB #[E,.nilIface])/\eH K (z<|G a) E ((F.bytes.drop q).take B)/\∃w,rG a K b j w/\w.files=j.files/\w.eM=j.eM/\∀k,w.bj b k->j.bj b k:=by
 obtain⟨T,m,r⟩:=kH hg;have bb:=cellAt h.iG 6 rfl;have bf:=dK (i:=6) h.iG;have v:∀u,aT (bZ a (R b 6)<|ap u) (R b 7)=H (ap j.yE)/\(bZ a (R b 6)<|ap u).frozen? (R b 7)=bF:=by intro u;(have s:(bZ a (R b 6)<|ap u).heap[b]?=H (ar #[.map<|H j.nb,.map<|H j.sb,j.mv,ap 1099511627776,ap 0,ap 0,ap u,ap j.yE] 73 (0,0)):=by rw[aR h.iG];rfl);exact⟨by rw[bN s];rfl,dK s⟩
 have bc:=λu=>(v u).1;have bg:=λu=>(v u).2;have HF:=U<|λu N=>vf _ t (R F.pE 0) (h.Da u N).ok.iG (h.Da u N).ok.now r;have Q:∀u N,aT (bZ (bZ a (R b 6)<|ap u) (R b 7)<|ap N) (R F.pE 0)=H F.data:=λu N=>by rw[bN ((h.Da u N).ok.files F m).1];rfl
 have o:=(h.files F m).2.1
 have c:=U (λ(u N:Z)(ad:aa)(O:eI)(hb:Bytes a ad O)(V:y O<=1099511627776)(ho:∀k,bV ad=H k->bV F.data=H k)=>
  have S:=h.Da u N
  have P:Bytes (bZ (bZ a (R b 6)<|ap u) (R b 7)<|ap N) ad O:=by
   have s:bV F.data≠H b:=zl o h.iG (by decide);have C:bV ad≠H b:=λf=>s<|ho b f;exact(hb.grown (cV a b 6 _)<|.inl C).grown (cV _ b 7 _)<|.inl C
  show cy bG 54 #[ad] (bZ (bZ a (R b 6)<|ap u) (R b 7)<|ap N) λf K=>∃E,f=aO E/\eH K (z<|G a) E O/\∃w,rG a K b j w/\w.files=j.files/\w.eM=j.eM/\∀k,w.bj b k->j.bj b k from(Ho P V (λk f=>by
   have:=(aI o k (ho k f)).2;simpa[World.setCell]using this)).mono (by
    rintro f K⟨E,rfl,C,s⟩;have D:z (G<|bZ (bZ a (R b 6)<|ap u) (R b 7)<|ap N)=z (G a):=by simp[World.setCell]
    rw[D]at C s;have ht:Y aB (bZ (bZ a (R b 6) (ap u)) (R b 7) (ap N)) K:=Y.aW (by rw[D];exact s);exact⟨E,rfl,C,_,⟨S.ok.aw ht (λ_ _=>id),S.aw.ci ht,S.bj⟩,rfl,rfl,λ_ f=>f⟩))
 have A:=eH.bytes o;rcases(show _ from o).2 with⟨g,L⟩|⟨av,x,ax,g,_,_,bi,bd,_,_⟩
 .have s:F.bytes=[]:=aQ L;have D:q=0:=by rw[s]at X;simpa using X
  subst D;rw[g]at Q;have P:(F.bytes.drop 0).take B=[]:=by rw[s];simp
  rw[P];have l:=U (show∀ac,bV (J none 0 0)=H ac->bV F.data=H ac fromλac f=>by cases f);clear h o A g T m r hg P s X hl;rcases fT B with C|C
  .subst C;by_cases hm:j.yE<((0:M):Z);all_goals
    go_in
    go_wp2_with(first
     |(go_at_call 144;refine(HF _ _).mono ?_;rintro f W⟨rfl,hw⟩;subst W)
     |(go_at_call 54;refine(c _ _ aK [] (.inl ⟨rfl,rfl⟩) (bA _) l).mono ?_;rintro f w2⟨v2,rfl,e,d⟩;have n:=U e;have p:=U d;clear e d))
    go_ret2
    exact⟨_,rfl,n,p⟩
  .by_cases hm:j.yE<B;all_goals
    go_in
    go_wp2_with(first
     |(go_at_call 144;refine(HF _ _).mono ?_;rintro f W⟨rfl,hw⟩;subst W)
     |(go_at_call 54;refine(c _ _ aK [] (.inl ⟨rfl,rfl⟩) (bA _) l).mono ?_;rintro f w2⟨v2,rfl,e,d⟩;have n:=U e;have p:=U d;clear e d))
    go_ret2
    exact⟨_,rfl,n,p⟩
 .have H1:∀k,q+k<=y F.bytes->Bytes a (bD av q k<|x-q) ((F.bytes.drop q).take k):=by
   intro k hk;rw[g]at A;have v:=A.BA X;rw[cQ]at v;have h2:=Bytes.take (bs:=F.bytes.drop q) (by simpa using v) (n:=k) (by simp;omega);exact h2
  have H0:∀k,q+k<=y F.bytes->q=x->Bytes a (bD av 0 k 0) ((F.bytes.drop q).take k):=by
   intro k hk f;obtain rfl:k=0:=by omega
   exact .inr ⟨av,0,0,by simp,by simp,λk hk=>by simp at hk⟩
  have au:∃k,k=min B (y F.bytes-q)/\q+k<=y F.bytes/\(F.bytes.drop q).take k=(F.bytes.drop q).take B:=⟨min B<|y F.bytes-q,rfl,by omega,by rw[List.take_eq_take_iff];simp⟩;obtain⟨k,hk,P,V⟩:=au;have D:=H1 k P;have C:=H0 k P;rw[V]at D C;have S:y ((F.bytes.drop q).take B)<=1099511627776:=by simp;omega
  obtain⟨al,ad,an⟩:=dC D C S;have s:∀(o b a ac:M),bV (bD av o b a)=H ac->bV F.data=H ac:=by rw[g];exactλ_ _ _ ac f=>f
  have l:=U s;rw[g]at Q;clear D C S h o A H1 H0 s g T m r hg V;have ba:q<=x:=by omega
  by_cases hm:j.yE<B;all_goals
   by_cases ao:q=x;all_goals
    by_cases bh:B<=y F.bytes-q;all_goals
     go_in
     go_wp2_with(first
      |(go_at_call 144;refine(HF _ _).mono ?_;rintro f W⟨rfl,hw⟩;subst W)
      |(go_at_call 54;refine(c _ _ _ ((F.bytes.drop q).take B) (by
       have v:=ae al;have L:=ae ad;first
        |((have f:k=B:=by omega);rw[f]at L;exact L<|by omega)
        |((have f:k=0:=by omega);rw[f]at L;exact L<|by omega)
        |((have f:k=B:=by omega);rw[f]at v;exact v)
        |((have f:k=y F.bytes-q:=by omega);rw[f]at v;exact v)) an (λac f=>l _ _ _ ac f)).mono ?_;rintro f w2⟨v2,rfl,e,d⟩;have n:=U e;have p:=U d;clear e d))
     go_ret2
     exact⟨_,rfl,by first|exact n|(have h9:=ae n;rw[ao]at h9;exact h9),p⟩
def rr(b:M):DK:=⟨b,b+1,aK,0,0,[],[],[]⟩
def GP(w:I):gE (ct w<|.map #[] 0) (z<|G w) []:=⟨#[],0,ft _ _,rfl,wA 0⟩
def Ch(w:I):cy bG 9 #[ap 1099511627776] w λe b=>e=aO (aA<|z (G w)+2)/\cK b (z (G w)+2) (rr<|z<|G w)/\Below (z<|G w) w b:=by
 have d:=@tF bG;have a:cK (ct (ct (ct w<|.map #[] 0)<|.map #[] 0)<|ar #[.map<|H<|z<|G w,.map<|H<|z (G w)+1,aK,ap 1099511627776,ap 0,ap 0,ap 0,ap 0] 73) (z (G w)+2) (rr<|z<|G w):=by refine⟨?_,((GP w).alloc _).alloc _,?_,by simp[rr],bK _ _ _ _,by simp[rr],by simp[rr],by simp[rr]⟩;have:=ft (ct (ct w<|.map #[] 0)<|.map #[] 0)<|ar #[.map<|H<|z<|G w,.map<|H<|z (G w)+1,aK,ap 1099511627776,ap 0,ap 0,ap 0,ap 0] 73;simpa[oe,rr]using this;have:=(GP<|ct w<|.map #[] 0).alloc<|ar #[.map<|H<|z<|G w,.map<|H<|z (G w)+1,aK,ap 1099511627776,ap 0,ap 0,ap 0,ap 0] 73;simpa[rr]using this
 have c:=U a;clear a;go_in
 go_wp2;go_ret;exact⟨rfl,c,((((Below.refl _ w).alloc (ah _) _).alloc (by simp) _).alloc (by simp;omega) _)⟩
def DT:∀{m:fc}{k:ab},m.get k=none->m.put k d=m++[(k,d)]
 |[],k,_=>rfl
 |p::r,k,h=>by
  unfold fc.get at h;by_cases e:p.1=k
  .rw[dw e]at h;cases h
  .rw[cW e]at h;unfold fc.put;rw[cW e,DT h];rfl
def LM{v:aa}:∀{m:fc}{k:ab},m.get k=none->fc.get (m++[(k,v)]) k=H v
 |[],k,_=>by simp[fc.get]
 |p::r,k,h=>by
  unfold fc.get at h;by_cases e:p.1=k
  .rw[dw e]at h;cases h
  .rw[cW e]at h;show fc.get (p::(r++[(k,v)])) k=H v;unfold fc.get;rw[cW e];exact LM h
def LN{a:cr da}(h:v∉a.map da.name):fc.get (a.map da.nm) v=none:=by
 induction a with
 |nil=>rfl
 |cons f a b=>
  rw[aY,az,not_or]at h;rw[aY];unfold fc.get;rw[cW<|λe=>h.1 e.symm];exact b h.2
def qW{m:fc}{t:TypeId}{e:M×M}(j:gE a b m)(d:a.heap[c]?=H (ar V t e)):c≠b:=by
 rintro rfl;obtain⟨i,h,g,_⟩:=j;rw[g]at d;cases d
def cK.add{K:DK}{f:da}{j:fc}(l:cK a b K)(v:K.eM=[])(r:Y (λk=>k=K.nb\/k=K.sb) a C)(m:gE C K.nb (K.files.map da.nm++[f.nm]))(i:gE C K.sb j)(u:xS C f)(A:z (G a)<=f.pE)(t:∀k,bV f.data=H k->z (G a)<=k):cK C b {K with files:=K.files++[f],sm:=j}/\∀k,DK.bj b {K with files:=K.files++[f],sm:=j} k->K.bj b k\/k=f.pE\/bV f.data=H k:=by
 have c:∀{k:M}{b:Array aa}{t:TypeId}{d:M×M},a.heap[k]?=H (ar b t d)->¬(k=K.nb\/k=K.sb):=λh g=>g.elim (qW l.now h)<|qW l.safe h;refine⟨⟨?_,?_,i,l.ne,?_,?_,?_,?_⟩,?_⟩;exact(r.block b (ak l.iG)<|c l.iG).trans l.iG;rw[aM];exact m;exact r.own l.steps (λk h g=>by obtain⟨n,o⟩:=fD l.steps h;exact c o g);show∀x∈K.eM,_;rw[v];simp;intro s d;rcases am.1 d with d|d;have e:=l.files s d;exact e.aw r (c e.1) (λk h g=>by obtain⟨n,o⟩:=fD e.2.1 h;exact c o g);obtain rfl:=bH.1 d;exact u;show(K.files++[f]).Pairwise mP;rw[bR];refine⟨l.apart,List.pairwise_singleton _ _,λs d w p=>?_⟩;obtain rfl:=bH.1 p;have e:=l.files s d;refine⟨λB=>by have:=ak e.1;omega,λk h q=>?_⟩;have:=(aI e.2.1 k h).2;have:=t k q;omega;rintro k(g|g|g|g|⟨x,p,g⟩|⟨s,d,g⟩);exact .inl<|.inl g;exact .inl<|.inr<|.inl g;exact .inl<|.inr<|.inr<|.inl g;exact .inl<|.inr<|.inr<|.inr<|.inl g;exact .inl<|.inr<|.inr<|.inr<|.inr<|.inl ⟨x,p,g⟩;rcases am.1 d with d|d;exact .inl<|.inr<|.inr<|.inr<|.inr<|.inr ⟨s,d,g⟩;obtain rfl:=bH.1 d;exact .inr<|g.imp Eq.symm id
def Ad{P:Program}{r:Oper}{h:Act}{K:Act->I->Prop}{Q:Exit->Act->I->Prop}(i A j:Operand)(x:TypeId)(g:r.op=Op.mapUpdate x i A j)(v B:TypeId)(o:P.underlying x=H (.map v B))(m:P.underlying v=H .string)(k:M)(w:fc)(n:h.eval i=.map (H k))(C:gE a k w)(b:ab)(c:aa)(q:h.eval A=ai b)(p:h.eval j=c)(l:∀d,gE d k (w.put b c)->a.grownBy d (H k)->z (G d)=z (G a)->K (h.put r.dst iB) d):Oper.wp P r h a K Q:=by
 obtain⟨d,e,s,t,u⟩:=Ca o m C b c;unfold Oper.wp;simp[execOp,g,n,q,p,e,Result.andThen];exact l d s t u
