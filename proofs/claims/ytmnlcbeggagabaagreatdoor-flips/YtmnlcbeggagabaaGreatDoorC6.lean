import Derived.Carry
import Derived.Laws.OwnMore
import Derived.Test.YtmnlcbeggagabaaGreatDoorC3
import Derived.Test.YtmnlcbeggagabaaGreatDoorC4
open _root_ renaming List.length→y,Option.some→H,Array.size→z,Go.World.heap→G,Go.Value.ownBlock→cz,Go.World.cell?→aS,Go.World.setCell→cA,Go.World.alloc→cG,Bool.false→bj,Bool.true→ci,Nat→M,Int→U,List→cS,Go.Calls→cD,Go.undef→ix,Go.Proofs.Tryz.prog→aZ,Go.Value.slice→J,Go.Value.string→am,Go.Value.bool→aK,Go.Value.pointer→dF,Go.Value.tuple→dd
namespace Go.Proofs.YtmnlcbeggagabaaGreatDoor
open ChangeShapes WideShapes RowKit Proofs.Tryz List
set_option maxHeartbeats 16000000
set_option linter.all false
set_option maxRecDepth 100000
variable{a f B:Z}{b c g m:M}{d u:ab}{k D S:U}{n:dN}{v:ae}{A:iF}
def kT:Option M->ab
 |none=>.pointer none
 |some g=>.pointer<|H<|R g 0
abbrev Mv:=ae×Option M
def xK(p:Mv):iF:=[am p.1,kT p.2]
def re(l:cS Mv):iF:=l.flatMap xK
def Ht(l:cS Mv)(i:M)(h:i<y l):(re l)[i*2]?=H (am l[i].1)/\(re l)[i*2+1]?=H (kT l[i].2):=by
 induction l generalizing i with
 |nil=>simp at h
 |cons p r a=>
  cases i with
  |zero=>simp[re,xK]
  |succ i=>
   have:=a i (by simpa using h);have e:(i+1)*2=i*2+2:=by omega
   rw[e];simpa[re,xK]using this
def UL(w:Z)(v:ab)(l:cS Mv):Prop:=Row w 2 v (y l)<|re l
def Km(m:eY)(x:Mv):eY:=match x.2 with
 |none=>m.del x.1
 |some g=>m.put x.1<|kT<|H g
def mR(m:eY)(l:cS Mv):eY:=l.foldl Km m
def Kl(m:eY)(l:cS Mv)(n:M)(h:n<y l):mR m (l.take<|n+1)=Km (mR m<|l.take n) l[n]:=by
 unfold mR;rw[aj h,fK];rfl
def qP(h:aS a (R b c)=H d):b<z (G a):=by
 by_cases e:b<z (G a);exact e;unfold World.cell? at h;rw[kD<|by simpa using e]at h;simp at h
def gl.ne{m:eY}(l:gl a b m)(h:aS a (R c g)=H d):c≠b:=by
 obtain⟨k,e,i,_⟩:=l;intro j;subst j;simp[World.cell?,i]at h
def Ga(K:eY)(p:cS Mv)(v:gl a b K)(S:UL a d p)(hr:y p<=1000000000000):cD aZ 39 #[.map<|H b,d] a λac N=>ac=aJ (dd #[])/\gl N b (mR K p)/\a.grownBy N (H b):=by
 obtain⟨Q,⟨rfl,P⟩|⟨D,j,O,rfl,V,E⟩⟩:=S;(.obtain rfl:p=[]:=aP P;have t:=Y v;clear v;(go_in);go_wp2;(go_loopw [8] (λF wr=>F=aq 0/\wr=a) (λ_ _=>0));(case atStart=>grind);(case round=>obtain⟨rfl,rfl⟩:=hrel;go_wp2;go_end0;exact⟨rfl,t,Ei _ _⟩))
 .have w:=Y E;have t:=Y v;clear E Q v;go_in
  go_wp2;go_loopw [8] (λF wr=>∃n:M,n<=y p/\F=aq n/\gl wr b (mR K<|p.take n)/\a.grownBy wr (H b)) (λF _=>y p-(intOf F).toNat)
  case atStart=>exact⟨0,bG _,rfl,t,Ei _ _⟩
  case round=>
   obtain⟨n,hn,rfl,e,g⟩:=hrel;by_cases r:n<y p
   .have u:=Ht p n r;have m:=w _ _ u.1;have q:=qP m;have s:=t.ne m;have c:wr.heap[D]?=a.heap[D]?:=g.block D q (by simpa using s);have x:aS wr (R D<|j+n*2)=H (am p[n].1):=(da (w:=a) c).trans<|w _ _ u.1;have o:aS wr (R D<|j+n*2+1)=H (kT p[n].2):=(da (w:=a) c).trans (by rw[bF];exact w _ _ u.2);have C:=Y<|Kl K p n r;clear u m c q s;generalize mR K (p.take n)=aa at*;generalize p[n]=ad at*;obtain⟨L,W⟩:=ad;simp only at x o;have A:=Y<|λv=>e.alloc v;have B:=Y<|λv=>g.trans<|dy wr v<|H b;clear e g;cases W with
    |none=>
     simp only[kT]at o;go_wp2_with(first
      |(at_delete;refine CO _ rfl _ _ 69 9 rfl 74 underlying69 underlying9 b aa rfl (A _) L rfl ?_;intro X i f;have l:=Y i;have k:=Y f;clear i f))
     go_roundw;case rel=>exact⟨n+1,by omega,by go_num,by rw[af C];exact l,(B _).trans k⟩
     case measure=>simp[intOf];omega
    |some al=>
     simp only[kT]at o;go_wp2_with(first
      |(at_mapUpdate;refine wl _ rfl _ _ _ 69 rfl 9 74 underlying69 underlying9 b aa rfl (A _) L _ rfl rfl ?_;intro X i f;have l:=Y i;have k:=Y f;clear i f))
     go_roundw;case rel=>exact⟨n+1,by omega,by go_num,by rw[af C];exact l,(B _).trans k⟩
     case measure=>simp[intOf];omega
   .have i:n=y p:=by omega
    subst i;have f:=Y e;have c:=Y g;clear e g;go_wp2;go_end0;have:=af f;rw[bL]at this;exact⟨rfl,this,c⟩
def QJ:(prog.info? 109).map (λi=>(i.zero,i.size,i.bytes))=H (H aw,1,24):=by kernel_rfl
def qD(w:Z)(x:ab)(t:TypeId):∀j u,[x][j]?=H u->aS (cG w<|ay #[x] t) (((R (z<|G w) 0):Addr).add j)=H u:=by
 intro j u a;rw[dt];simp_all
structure EJ(w w':Z)(db nb sb:M)(mv:ab)(room reads vU:U)(m:eY)(n:M)(xs:iF)(mv':ab):Prop where
 iy:mW w' db nb sb mv' room reads vU
 now:gl w' nb m
 steps:w'.ownsRow 0 109 1 mv' n xs
 ap:I (λk=>k=db\/k=nb\/cz mv=H k) w w'
 own:cz mv'=cz mv\/∃g,cz mv'=H g/\z (G w)<=g
def DQ(ax:eY)(C:cS Mv)(h:mW f b c g d k D S)(Q:gl f c ax)(hl:UL f u C)(hr:y C<=1000000000000)(L:f.ownsRow 0 109 1 d m A)(hn:m<=1000000000000):cD aZ 164 #[aA b,u] f λt w'=>t=aJ (dd #[])/\∃av,EJ f w' b c g d k D S (mR ax C) (m+1) (A++[u]) av:=by
 obtain⟨i0,al,an,ao,au⟩:=cU QJ;have HS:=Y<|Ga ax C Q hl hr;obtain⟨B,v,rfl⟩:=bN hl;have X:=cellAt h 0 rfl;have w:b≠c:=Q.ne X;have K:cz d≠H b:=tZ L h (by decide);have x:cz d≠H c:=by intro t;obtain⟨q,p⟩:=fR L t;obtain⟨O,N,F,_⟩:=Q;rw[F]at p;cases p
 have n:∀i q l,gl i c (mR ax C)->f.grownBy i (H c)->l.ownsRow 0 109 1 q (m+1) (A++[J B (y C) v])->eC (cG i<|ay #[J B (y C) v] 109) l d q->aS l (R b 2)=H d/\l.frozen? (R b 2)=bj/\EJ f (cA l (R b 2) q) b c g d k D S (mR ax C) (m+1) (A++[J B (y C) v]) q:=by intro i q l o e N p;have aa:i.heap[b]?=f.heap[b]?:=e.block b (ar h) (by simpa using w);have F:b<z (G i):=ah (ar h) e.size;have ad:(cG i<|ay #[J B (y C) v] 109).heap[b]?=f.heap[b]?:=(Below.heap_alloc i _ b F).trans aa;have ac:l.heap[b]?=f.heap[b]?:=(p.grown.block b (by simp;omega)<|λt=>K t.symm).trans ad;have P:mW l b c g d k D S:=ac.trans h;have O:cz q≠H b:=tZ N P (by decide);refine⟨by rw[bV P];rfl,cZ P,⟨?_,?_,?_,?_,?_⟩⟩;unfold mW;rw[aL P];rfl;exact((o.alloc _).kept p.grown<|λt=>x t.symm).kept (du l b 2 q) (by grind);exact N.kept (du l b 2 q)<|.inr O;refine((I.dW e<|by grind).alloc<|ay #[J B (y C) v] 109).trans (T:=λk=>cz d=H k) (I.dW p.grown<|λk t=>.inl t) (λx t=>.inl<|.inr<|.inr t)|>.setCell b 2 q (.inl<|.inl rfl);rcases p.uj with t|⟨aV,t,hg⟩;exact .inl t;exact .inr ⟨aV,t,by have:=e.size;simp at hg;omega⟩
 obtain⟨HG,HO,V⟩:=dz n (λi(e:f.grownBy i (H c))=>(L.kept e<|.inr x).alloc<|ay #[J B (y C) v] 109)<|λi(e:f.grownBy i (H c))=>(da (w:=f) (a:=(R b 2))<|e.block b (ar h)<|by simpa using w).trans (show aS f (R b 2)=H d by rw[bV h];rfl);obtain⟨xm,cm,rfl⟩:=aC L;clear h Q hl L n K x w;go_in
 go_wp2_with(first
  |(go_at_call 39;refine HS.mono ?_;rintro t i⟨rfl,o,e⟩;have aD:=V i e;have W:=Y o;have E:=Y e;clear o e)
  |(at_builtin;refine ct _ rfl (.tmp 14) (.tmp 16) 70 rfl 0 109 i0 aw 1 24 underlying70 al an ao au rfl (by decide) _ m A rfl (HO i E) (R (z (G i)) 0) 1 1 [.slice B (y C) v] rfl rfl (qD _ _ _) (by simp[Value.oneCell']) (by omega) (by omega) (bG _) ?_;intro v2 l j s;obtain⟨aF,aU,r⟩:=HG i v2 l W E j s;obtain⟨x2,c2,rfl⟩:=aC j;have HF:=Y r;clear j s r))
 go_end0;exact⟨rfl,_,HF⟩
structure cX where
 name:ae
 oM:M
 data:ab
 bytes:dN
 safe:U
def cX.nm(f:cX):ae×ab:=(f.name,kT<|H f.oM)
structure DK where
 nb:M
 sb:M
 mv:ab
 reads:U
 vU:U
 files:cS cX
 sm:eY
 dM:cS (ab×cS Mv)
variable{i L:DK}
def vJ(w:Z)(f:cX):Prop:=w.heap[f.oM]?=H (ay #[f.data,aq f.safe] 78 (0,0))/\eE w 0 f.data f.bytes/\jn f.bytes
def sV(w:Z)(x:ab×cS Mv):Prop:=UL w x.1 x.2/\y x.2<=2/\∀k,cz x.1=H k->∃a b,w.heap[k]?=H (ay a 164 b)
def mL(f g:cX):Prop:=f.oM≠g.oM/\∀k,cz f.data=H k->cz g.data≠H k
def mL.symm{f g:cX}(h:mL f g):mL g f:=⟨λe=>h.1 e.symm,λk e a=>h.2 k a e⟩
structure cH(w:Z)(db:M)(K:DK):Prop where
 iy:mW w db K.nb K.sb K.mv 1099511627776 K.reads K.vU
 now:gl w K.nb (K.files.map cX.nm)
 safe:gl w K.sb K.sm
 ne:K.nb≠K.sb
 steps:w.ownsRow 0 109 1 K.mv (y K.dM) (K.dM.map (·.1))
 each:∀x∈K.dM,sV w x
 files:∀f∈K.files,vJ w f
 apart:K.files.Pairwise mL
def DK.aO(a:M)(K:DK)(k:M):Prop:=k=a\/k=K.nb\/k=K.sb\/cz K.mv=H k\/(∃x∈K.dM,cz x.1=H k)\/∃f∈K.files,f.oM=k\/cz f.data=H k
def vJ.ap{S:eT}{w w':Z}{f:cX}(h:vJ w f)(a:I S w w')(c:¬S f.oM)(d:∀k,cz f.data=H k->¬S k):vJ w' f:=⟨(a.block _ (ar h.1) c).trans h.1,a.own h.2.1 d,h.2.2⟩
def sV.ap{S:eT}{w w':Z}{x:ab×cS Mv}(n:sV w x)(e:I S w w')(c:∀k,cz x.1=H k->¬S k):sV w' x:=by
 obtain⟨j,l,m⟩:=n;refine⟨e.row j<|λk g=>⟨c k g,?_⟩,l,λk g=>?_⟩;grind
 obtain⟨a,h,d⟩:=m k g;exact⟨a,h,(e.block k (ar d)<|c k g).trans d⟩
def gl.ap{S:eT}{w w':Z}{b:M}{m:eY}(j:gl w b m)(h:I S w w')(e:¬S b):gl w' b m:=by
 obtain⟨d,c,a,g⟩:=j;exact⟨d,c,(h.block b (ar a) e).trans a,g⟩
def gl.tag{m:eY}(i:gl a b m){d:Array ab}{e:M×M}(k:a.heap[g]?=H (ay d c e)):g≠b:=by
 obtain⟨h,f,j,_⟩:=i;grind
theorem ld{d e:Array ab}{f h:M×M}(i:a.heap[b]?=H (ay d g f))(j:a.heap[c]?=H (ay e m h))(k:g≠m):b≠c:=by
 grind
def cH.lt(h:cH a c i):∀k,i.aO c k->k<z (G a):=by
 rintro k(rfl|rfl|rfl|e|⟨x,j,e⟩|⟨f,d,rfl|e⟩);exact ar h.iy;exact h.now.lt;exact h.safe.lt;exact(bK h.steps k e).2;obtain⟨_,_,g⟩:=(h.each x j).2.2 k e;exact ar g;exact ar (h.files f d).1;exact(bK (h.files f d).2.1 k e).2
def cH.ap{S:eT}{w w':Z}(h:cH w c L)(d:I S w w')(a:∀k,L.aO c k->¬S k):cH w' c L where
 iy:=(d.block c (ar h.iy)<|a _<|.inl rfl).trans h.iy
 now:=h.now.ap d<|a _<|.inr<|.inl rfl
 safe:=h.safe.ap d<|a _<|.inr<|.inr<|.inl rfl
 ne:=h.ne
 steps:=d.own h.steps<|λ_ e=>a _<|.inr<|.inr<|.inr<|.inl e
 each x hx:=(h.each x hx).ap d<|λ_ e=>a _<|.inr<|.inr<|.inr<|.inr<|.inl ⟨x,hx,e⟩
 files f hf:=(h.files f hf).ap d (a _<|.inr<|.inr<|.inr<|.inr<|.inr ⟨f,hf,.inl rfl⟩)<|λ_ e=>a _<|.inr<|.inr<|.inr<|.inr<|.inr ⟨f,hf,.inr e⟩
 apart:=h.apart
def cH.alloc{w:Z}(h:cH w b i)(o:Obj):cH (cG w o) b i:=h.ap ((I.refl az w).alloc o)<|λ_ _=>id
def cH.named{K:DK}{A:cS Mv}{m:cS cX}(k:cH a b K)(j:EJ a f b K.nb K.sb K.mv 1099511627776 K.reads K.vU (m.map cX.nm) (y K.dM+1) (K.dM.map (·.1)++[d]) u)(C:sV a (d,A))(q:∀r∈m,vJ a r)(w:m.Pairwise mL):cH f b {K with mv:=u,files:=m,dM:=K.dM++[(d,A)]}:=by
 have l:∀{n t:M}{g:Array ab}{o:M×M},a.heap[n]?=H (ay g t o)->t≠72->t≠109->¬(n=b\/n=K.nb\/cz K.mv=H n):=by rintro n t g o s v B(e|e|e);exact ld s k.iy v e;exact k.now.tag s e;obtain⟨c,p⟩:=fR k.steps e;grind
 have i:∀x,sV a x->sV f x:=λx h=>h.ap j.ap (λn e=>by obtain⟨c,o,g⟩:=h.2.2 n e;grind);refine⟨j.iy,j.now,k.safe.ap j.ap ?_,k.ne,?_,?_,?_,w⟩;rintro(e|e|e);exact k.safe.tag k.iy e.symm;exact k.ne e.symm;obtain⟨c,p⟩:=fR k.steps e;exact k.safe.tag p rfl;have:=j.steps;grind
 intro x h;rcases aG.1 h with h|h;exact i x<|k.each x h;grind
 intro r g;refine(q r g).ap j.ap (l (q r g).1 (by decide)<|by decide)<|λn e=>?_;obtain⟨c,p⟩:=fR (q r g).2.1 e;grind
def EJ.aO{K:DK}{s:cS Mv}{i:cS cX}{t:eY}(l:EJ a B c K.nb K.sb K.mv 1099511627776 K.reads K.vU t g A u)(o:m<=z (G a))(r:∀k,cz d=H k->m<=k)(p:∀f∈i,∀k,(f.oM=k\/cz f.data=H k)->K.aO c k\/m<=k):∀k,({K with mv:=u,files:=i,dM:=K.dM++[(d,s)]}:DK).aO c k->K.aO c k\/m<=k:=by
 rintro k(rfl|rfl|rfl|j|⟨x,e,j⟩|⟨f,n,j⟩);exact .inl<|.inl rfl;exact .inl<|.inr<|.inl rfl;exact .inl<|.inr<|.inr<|.inl rfl;rcases l.own with h|⟨v,h,q⟩;exact .inl<|.inr<|.inr<|.inr<|.inl<|h.symm.trans j;grind
 rcases aG.1 e with e|e;exact .inl<|.inr<|.inr<|.inr<|.inr<|.inl ⟨x,e,j⟩;grind
 grind
def Iq{m:eY}(h:m.get v=none)(c:ab):m.put v c=m++[(v,c)]:=by
 induction m with
 |nil=>rfl
 |cons p r b=>
  by_cases a:p.1=v
  .simp[eY.get,a]at h
  .simp[eY.get,a]at h;simp[eY.put,a,b h]
structure oA(w w':Z)(db:M)(K K':DK):Prop where
 ok:cH w' db K'
 ap:I (K.aO db) w w'
 aO:∀k,K'.aO db k->K.aO db k\/z (G w)<=k
def DR(m:eY)(x:Mv):mR m [x]=Km m x:=rfl
def Aq{K:DK}(c:ae)(h:cH a b K)(s:eY.get (K.files.map cX.nm) c=none)(N:y K.dM<=1000000000000):cD aZ 124 #[aA b,am c] a λe p=>e=aJ .nilIface/\∃f,oA a p b K f/\f.files=K.files++[⟨c,z<|G a,aw,[],0⟩]/\f.sm=K.sm/\f.dM=K.dM++[(aY (z (G a)+1) 0 1 1,[(c,H<|z<|G a)])]:=by
 obtain⟨T,L,u,_,_⟩:=cU rh;have x:=qW underlying69 underlying9 L u h.now c;rw[s]at x;simp only[Option.getD_none]at x;have F:=cellAt h.iy 0 rfl;have B:=Y<|xU h.iy
 have i:∃W:Z,W=cG (cG a<|ay #[aw,aq 0] 78) (ay #[am c,aA<|z<|G a] 164)/\cD aZ 164 #[aA b,aY (z (G a)+1) 0 1 1] W λe p=>e=aJ (dd #[])/\∃f,oA a p b K f/\f.files=K.files++[⟨c,z<|G a,aw,[],0⟩]/\f.sm=K.sm/\f.dM=K.dM++[(aY (z (G a)+1) 0 1 1,[(c,H<|z<|G a)])]:=by
  refine⟨_,rfl,?_⟩;have m:=(h.alloc<|ay #[aw,aq 0] 78).alloc<|ay #[am c,aA<|z<|G a] 164;have k:(cG a<|ay #[aw,aq 0] 78).heap[z<|G a]?=H (ay #[aw,aq 0] 78 (0,0)):=jb _ _;have g:=(Below.heap_alloc (cG a<|ay #[aw,aq 0] 78) (ay #[am c,aA<|z<|G a] 164) (z<|G a)<|by simp).trans k;have t:(cG (cG a<|ay #[aw,aq 0] 78)<|ay #[am c,aA<|z<|G a] 164).heap[z (G a)+1]?=H (ay #[am c,aA<|z<|G a] 164 (0,0)):=by
   have:=jb (cG a<|ay #[aw,aq 0] 78)<|ay #[am c,aA<|z<|G a] 164;simp_all
  generalize r:(cG (cG a<|ay #[aw,aq 0] 78)<|ay #[am c,aA<|z<|G a] 164)=W at*;have l:∀S,I S a W:=λS=>by rw[<-r];exact(cK S a).alloc _
  have n:sV W (aY (z (G a)+1) 0 1 1,[(c,H<|z<|G a)]):=by
   refine⟨show Row _ _ _ _ _ from⟨rfl,.inr ⟨z (G a)+1,0,1,rfl,ai _,λE Q D=>?_⟩⟩,by simp,λO e=>?_⟩
   .rw[dr,bV t];simpa[re,xK,kT]using D
   .cases e;grind
  apply(DQ (K.files.map cX.nm) [(c,H<|z<|G a)] m.iy m.now n.1 (by simp) m.steps N).mono;rintro e p⟨rfl,o,q⟩;refine⟨rfl,{K with mv:=o,files:=K.files++[cX.mk c (z<|G a) aw [] 0],dM:=K.dM++[(aY (z (G a)+1) 0 1 1,[(c,H<|z<|G a)])]},?_,rfl,rfl,rfl⟩;have j:EJ W p b K.nb K.sb K.mv 1099511627776 K.reads K.vU ((K.files++[cX.mk c (z<|G a) aw [] 0]).map cX.nm) (y K.dM+1) (K.dM.map (·.1)++[aY (z (G a)+1) 0 1 1]) o:=by
   rw[DR]at q;simp only[Km,Iq s]at q;simpa[cX.nm]using q
  refine⟨m.named j n ?_ ?_,?_,?_⟩
  .intro v d;rcases aG.1 d with d|d
   .exact m.files v d
   .obtain rfl:v=⟨c,z<|G a,aw,[],0⟩:=by simpa using d
    exact⟨g,eE.nil _ _,by intro V D;simp at D⟩
  .refine bP.2 ⟨h.apart,by simp,λQ D S E=>?_⟩;obtain rfl:S=⟨c,z<|G a,aw,[],0⟩:=by simpa using E
   refine⟨λe=>?_,λO _ e=>by cases e⟩;have:=ar (h.files Q D).1;grind
  .exact(l _).trans j.ap (by
    rintro V(rfl|rfl|e)
    .exact .inl<|.inl rfl
    .exact .inl<|.inr<|.inl rfl
    .exact .inl (.inr (.inr (.inr (.inl e)))))
  .refine j.aO (l az).size (λO e=>by cases e;grind)<|λv d O e=>?_;rcases aG.1 d with d|d
   .exact .inl<|.inr<|.inr<|.inr<|.inr<|.inr ⟨v,d,e⟩
   .obtain rfl:v=⟨c,z<|G a,aw,[],0⟩:=by simpa using d
    rcases e with e|e
    .grind
    .cases e
 obtain⟨W,r,i⟩:=i;have C:=Y i;clear i h s;go_in
 go_wp2_with(first
  |(go_at_call 134;refine B.mono ?_;rintro e P⟨rfl,rfl⟩)
  |(go_at_call 164;subst r;refine yD (by simpa using af C) ?_;rintro e P⟨rfl,w⟩;have A:=Y w;clear w))
 go_ret;exact⟨rfl,A⟩
def Lt(c:ae)(m:cH a b i)(j:eY.get (i.files.map cX.nm) c=none)(k:y i.dM<=1000000000000):cD aZ 124 #[aA b,am c] a λl e=>l=aJ .nilIface/\∃d,oA a e b i d/\d.files=i.files++[⟨c,z<|G a,aw,[],0⟩]/\y d.dM=y i.dM+1:=by
 apply(Aq c m j k).mono;rintro l e⟨rfl,d,f,g,n,h⟩;exact⟨rfl,d,f,g,by rw[h];simp⟩
def mS:cS cX->ae->Option cX
 |[],_=>none
 |f::r,n=>if f.name=n then H f else mS r n
def pm:cS cX->ae->cS cX
 |[],_=>[]
 |f::r,n=>if f.name=n then r else f::pm r n
def mB:cS cX->cX->cS cX
 |[],f=>[f]
 |g::r,f=>if g.name=f.name then f::r else g::mB r f
def Lq(a:cS cX)(n:ae):(pm a n).map cX.nm=eY.del (a.map cX.nm) n:=by
 induction a with
 |nil=>rfl
 |cons f r b=>by_cases h:f.name=n<;>simp[pm,eY.del,cX.nm,h,<-b]
def JV(a:cS cX)(f:cX):(mB a f).map cX.nm=eY.put (a.map cX.nm) f.name (kT<|H f.oM):=by
 induction a with
 |nil=>rfl
 |cons g r b=>by_cases h:g.name=f.name<;>simp[mB,eY.put,cX.nm,h,<-b]
theorem iS{a:cS cX}{f:cX}(h:mS a v=H f):f.name=v/\f∈a/\eY.get (a.map cX.nm) v=H (kT<|H f.oM):=by
 induction a with
 |nil=>cases h
 |cons i r g=>
  by_cases e:i.name=v
  .simp[mS,e]at h;subst h;exact⟨e,by simp,by simp[eY.get,cX.nm,e]⟩
  .simp[mS,e]at h;obtain⟨b,c,d⟩:=g h;exact⟨b,by simp[c],by simpa[eY.get,cX.nm,e]using d⟩
def Bj{a:cS cX}(h:mS a v=none):eY.get (a.map cX.nm) v=none:=by
 induction a with
 |nil=>rfl
 |cons g r b=>
  by_cases e:g.name=v
  .simp[mS,e]at h
  .simp[mS,e]at h;simpa[eY.get,cX.nm,e]using b h
theorem rj(a:cS cX)(n:ae):(pm a n).Sublist a:=by
 induction a with
 |nil=>exact pD _
 |cons f r b=>
  by_cases h:f.name=n
  .simp[pm,h]
  .simpa[pm,h]using b
def Et{a:cS cX}{f:cX}(d:a.Pairwise mL)(h:mS a v=H f):∀g∈pm a v,mL f g:=by
 induction a with
 |nil=>cases h
 |cons g r j=>
  obtain⟨c,i⟩:=bA.1 d;by_cases e:g.name=v
  .simp[mS,e]at h;subst h;simpa[pm,e]using c
  .simp[mS,e]at h;intro x b;simp[pm,e]at b;rcases b with rfl|b
   .exact(c f (iS h).2.1).symm
   grind
def zU{a:cS cX}{f x:cX}(h:x∈mB a f):x=f\/x∈pm a f.name:=by
 induction a with
 |nil=>left;simpa[mB]using h
 |cons g r b=>
  by_cases e:g.name=f.name
  .simp[mB,e]at h;simpa[pm,e]using h
  .simp[mB,e]at h;simp[pm,e];grind
def Dz{a:cS cX}{f:cX}(c:(pm a f.name).Pairwise mL)(h:∀g∈pm a f.name,mL f g):(mB a f).Pairwise mL:=by
 induction a with
 |nil=>simp[mB]
 |cons g r i=>
  by_cases e:g.name=f.name
  .simp only[pm,e,lk]at c h;simp only[mB,e,lk];simp_all
  .simp only[pm,e,nj]at c h;simp only[mB,e,nj];obtain⟨j,d⟩:=bA.1 c;refine bA.2 ⟨λx b=>?_,i d<|λx b=>h x<|by simp[b]⟩;rcases zU b with rfl|b
   .exact(h g<|by simp).symm
   grind
def Rr{b:cS cX}{f:cX}(a:f.name≠v):pm (mB b f) v=mB (pm b v) f:=by
 induction b with
 |nil=>simp[pm,mB,a]
 |cons g r d=>
  by_cases e:g.name=f.name
  .have:g.name≠v:=by rw[e];exact a
   simp[pm,mB,e,a]
  .by_cases c:g.name=v
   .have:¬v=f.name:=λh=>a h.symm;simp[pm,mB,c,this]
   .simp[pm,mB,e,c,d]
def Gy{K:DK}{x:cS Mv}{e:cS cX}(A:cH a b K)(l:∀S,I S a f)(k:EJ f B b K.nb K.sb K.mv 1099511627776 K.reads K.vU (e.map cX.nm) (y K.dM+1) (K.dM.map (·.1)++[d]) u)(v:sV f (d,x))(t:∀w,cz d=H w->z (G a)<=w)(n:∀g∈e,∃h∈K.files,g.oM=h.oM/\g.data=h.data/\g.bytes=h.bytes/\g.safe=h.safe)(s:e.Pairwise mL):oA a B b K {K with mv:=u,files:=e,dM:=K.dM++[(d,x)]}:=by
 have o:cH f b K:=A.ap (l az)<|λ_ _=>id;refine⟨o.named k v (λg c=>?_) s,?_,?_⟩;obtain⟨h,m,i,j,q,r⟩:=n g c;have:=o.files h m;unfold vJ at*;rw[i,j,q,r];exact this
 .exact(l _).trans k.ap (by
   rintro q(rfl|rfl|p)
   .exact .inl<|.inl rfl
   .exact .inl<|.inr<|.inl rfl
   .exact .inl (.inr (.inr (.inr (.inl p)))))
 refine k.aO (l az).size t<|λg c w p=>.inl ?_;obtain⟨h,m,i,j,_⟩:=n g c;exact .inr<|.inr<|.inr<|.inr<|.inr ⟨h,m,by rw[<-i,<-j];exact p⟩
def MO(c:ae)(F:cX)(h:cH a b i)(p:mS i.files c=H F)(u:y i.dM<=1000000000000):cD aZ 105 #[aA b,am c] a λg j=>g=aJ .nilIface/\∃d,oA a j b i d/\d.files=pm i.files c/\y d.dM=y i.dM+1:=by
 have r:=Y<|uJ _ c (R F.oM 0) h.iy h.now (iS p).2.2;have f:cD aZ 164 #[aA b,aY (z<|G a) 0 1 1] (cG a<|ay #[am c,dF none] 164) λg j=>g=aJ (dd #[])/\∃d,oA a j b i d/\d.files=pm i.files c/\y d.dM=y i.dM+1:=by have m:(cG a<|ay #[am c,dF none] 164).heap[z<|G a]?=H (ay #[am c,dF none] 164 (0,0)):=jb _ _;have o:∀S,I S a (cG a<|ay #[am c,dF none] 164):=λS=>(cK S a);generalize cG a (ay #[am c,dF none] 164)=W at*;have l:cH W b i:=h.ap (o az)<|λ_ _=>id;(have e:sV W (aY (z<|G a) 0 1 1,[(c,none)]):=by refine⟨show Row _ _ _ _ _ from⟨rfl,.inr ⟨z<|G a,0,1,rfl,ai _,λA B t=>?_⟩⟩,by simp,λx g=>?_⟩;rw[dr,bV m];simpa[re,xK,kT]using t;cases g;grind);apply(DQ (i.files.map cX.nm) [(c,none)] l.iy l.now e.1 (by simp) l.steps u).mono;rintro g j⟨rfl,v,k⟩;rw[DR]at k;simp only[Km,<-Lq]at k;exact⟨rfl,_,Gy h o k e (λx g=>by cases g;grind) (λf a=>⟨f,(rj _ _).subset a,rfl,rfl,rfl,rfl⟩)<|h.apart.sublist<|rj _ _,rfl,by simp⟩
 have s:=Y f;clear f h p;go_in
 go_wp2_with(first
  |(go_at_call 133;refine r.mono ?_;rintro g w⟨rfl,rfl⟩)
  |(go_at_call 164;refine yD s ?_;rintro g w⟨rfl,n⟩;have q:=Y n;clear n))
 go_ret;exact⟨rfl,q⟩
def MN(c d:ae)(F:cX)(h:cH a b i)(l:mS i.files c=H F)(f:c≠d)(B:y i.dM<=1000000000000):cD aZ 225 #[aA b,am c,am d] a λg m=>g=aJ .nilIface/\∃e,oA a m b i e/\e.files=mB (pm i.files c) {F with name:=d}/\y e.dM=y i.dM+1:=by
 have w:=Y<|uJ _ c (R F.oM 0) h.iy h.now (iS l).2.2;have k:cD aZ 164 #[aA b,aY (z<|G a) 0 2 2] (cG a<|ay #[am d,aA F.oM,am c,dF none] 164) λg m=>g=aJ (dd #[])/\∃e,oA a m b i e/\e.files=mB (pm i.files c) {F with name:=d}/\y e.dM=y i.dM+1:=by have p:(cG a<|ay #[am d,aA F.oM,am c,dF none] 164).heap[z<|G a]?=H (ay #[am d,aA F.oM,am c,dF none] 164 (0,0)):=jb _ _;have s:∀S,I S a (cG a<|ay #[am d,aA F.oM,am c,dF none] 164):=λS=>(cK S a);generalize cG a (ay #[am d,aA F.oM,am c,dF none] 164)=W at*;have o:cH W b i:=h.ap (s az)<|λ_ _=>id;(have j:sV W (aY (z<|G a) 0 2 2,[(d,H F.oM),(c,none)]):=by refine⟨show Row _ _ _ _ _ from⟨rfl,.inr ⟨z<|G a,0,2,rfl,ai _,λK N n=>?_⟩⟩,by simp,λL g=>?_⟩;rw[dr,bV p];simpa[re,xK,kT]using n;cases g;grind);apply(DQ (i.files.map cX.nm) [(d,H F.oM),(c,none)] o.iy o.now j.1 (by simp) o.steps B).mono;rintro g m⟨rfl,C,r⟩;(have A:mR (i.files.map cX.nm) [(d,H F.oM),(c,none)]=(mB (pm i.files c) {F with name:=d}).map cX.nm:=by rw[<-Rr (f:={F with name:=d}) (λg=>f g.symm),Lq,JV];rfl);rw[A]at r;refine⟨rfl,_,Gy h s r j (λL g=>by cases g;grind) (λE t=>?_) ?_,rfl,by simp⟩;(rcases zU t with rfl|t;exact⟨F,(iS l).2.1,rfl,rfl,rfl,rfl⟩;grind[rj]);refine Dz ((h.apart.sublist<|rj _ _).sublist<|rj _ _)<|λK n=>?_;have:=Et h.apart l K<|(rj _ _).subset n;exact this
 have u:(!c.toList==d.toList)=ci:=by simp[wK f]
 have x:=Y k;clear k h l f;go_in
 go_wp2_with(first
  |(go_at_call 133;refine w.mono ?_;rintro g D⟨rfl,rfl⟩)
  |(go_at_call 164;refine yD x ?_;rintro g D⟨rfl,q⟩;have v:=Y q;clear q))
 go_ret;exact⟨rfl,v⟩
def cH.Ju(h:cH a b i){k:M}(e:cz i.mv=H k):k≠i.sb/\k≠i.nb/\k≠b:=by
 obtain⟨d,c⟩:=fR h.steps e;exact⟨h.safe.tag c,h.now.tag c,ld c h.iy<|by decide⟩
def cH.WE{K:DK}{D:eY}(h:cH a b K)(i:I (λk=>k=K.sb) a f)(n:gl f K.sb D):oA a (cA f (R b 2) aw) b K {K with mv:=aw,dM:=[],sm:=D}:=by
 have d:b≠K.sb:=h.safe.tag h.iy;have l:mW f b K.nb K.sb K.mv 1099511627776 K.reads K.vU:=(i.block b (ar h.iy) d).trans h.iy;have c:I (λk=>k=b\/k=K.sb) a (cA f (R b 2) aw):=(i.mono<|λx e=>.inl<|.inr e).setCell b 2 _<|.inl<|.inl rfl;refine⟨⟨?_,?_,?_,h.ne,cO _ _ _ _,by simp,?_,h.apart⟩,?_,?_⟩;unfold mW;rw[aL l];rfl;refine h.now.ap c ?_;rintro(e|e);exact h.now.tag h.iy e.symm;exact h.ne e;exact n.kept (du f b 2 _) (by grind);intro o m;have hF:=h.files o m;refine hF.ap c ?_ ?_;rintro(e|e);exact ld hF.1 h.iy (by decide) e;exact h.safe.tag hF.1 e;intro k e;obtain⟨j,g⟩:=fR hF.2.1 e;rintro(e|e);exact ld g h.iy (by decide) e;exact h.safe.tag g e
 .exact c.mono (by
   rintro x(rfl|rfl)
   .exact .inl<|.inl rfl
   .exact .inl (.inr (.inr (.inl rfl))))
 rintro k(e|e|e|e|⟨x,g,_⟩|e);exact .inl<|.inl e;exact .inl<|.inr<|.inl e;exact .inl<|.inr<|.inr<|.inl e;cases e;cases g;exact .inl<|.inr<|.inr<|.inr<|.inr<|.inr e
def zw(h:cH a b i)(hn:y i.dM<=1000000000000):cD aZ 79 #[aA b] a λA r=>A=aJ .nilIface/\∃B,oA a r b i B/\B.files=i.files/\B.dM=[]/\B.sm=(i.dM.map (·.2)).foldl mR i.sm:=by
 have P:=Y<|xU h.iy;have L:b≠i.sb:=h.safe.tag h.iy;have k:∀wr,I (λs=>s=i.sb) a wr->aS wr (R b 1)=H (.map<|H i.sb)/\aS wr (R b 2)=H i.mv/\wr.frozen? (R b 2)=bj:=by intro wr e;have j:mW wr b i.nb i.sb i.mv 1099511627776 i.reads i.vU:=(e.block b (ar h.iy) L).trans h.iy;exact⟨by rw[bV j];rfl,by rw[bV j];rfl,cZ j⟩
 have t:=Y k;have ad:=(k a<|I.refl _ _).2.1;have o:=Y<|λ(r:Z)(D:eY)(e:I (λs=>s=i.sb) a r)(m:gl r i.sb D)=>h.WE e m;have l:∀(wr:Z)(n:M)(d:n<y i.dM)(D:eY),I (λs=>s=i.sb) a wr->gl wr i.sb D->cD aZ 39 #[.map<|H i.sb,i.dM[n].1] wr λA r=>A=aJ (dd #[])/\gl r i.sb (mR D i.dM[n].2)/\wr.grownBy r (H i.sb):=by intro wr n d D e m;have j:=(h.each i.dM[n]<|ak d).ap e (λs A u=>by obtain⟨F,w,p⟩:=(h.each i.dM[n]<|ak d).2.2 s A;exact h.safe.tag p u);exact Ga D i.dM[n].2 m j.1 (by have:=j.2.1;omega)
 obtain⟨g,c,f,v⟩:=fX l h.steps h.safe<|λs=>h.Ju (k:=s);clear k l h;generalize an:i.mv=mv at*;rcases c.2 with⟨rfl,h0⟩|⟨av,aa,F,rfl,_,T,au,_,k,q⟩
 .have j:i.dM=[]:=aP h0;clear g c v;go_in
  go_wp2_with(first
   |(go_at_call 134;refine P.mono ?_;rintro A O⟨rfl,hw⟩;subst O))
  go_loopw [15] (λV wr=>V=aq 0/\wr=a) (λ_ _=>0)
  case atStart=>grind
  case round=>
   obtain⟨rfl,rfl⟩:=hrel;have N:=(t wr<|I.refl _ _).2.2;go_wp2;go_ret;exact⟨rfl,_,o wr i.sm (I.refl _ _) f,rfl,rfl,by rw[j];rfl⟩
 .have j:∀n(d:n<y i.dM)wr,I (λs=>s=i.sb) a wr->aS wr (R av n)=H i.dM[n].1:=by
   intro n d wr e;refine e.cell ?_ (v av rfl).1<|ar T;have:=World.ownsRow.cellAt c n (by omega);rw[this];simp[d]
  have p:=Y j;clear j k q T c;go_in
  go_wp2_with(first
   |(go_at_call 134;refine P.mono ?_;rintro A O⟨rfl,hw⟩;subst O))
  go_loopw [15] (λV wr=>∃n:M,n<=y i.dM/\V=aq n/\I (λs=>s=i.sb) a wr/\gl wr i.sb (((i.dM.take n).map (·.2)).foldl mR i.sm)) (λV _=>y i.dM-(intOf V).toNat)
  case atStart=>exact⟨0,bG _,rfl,I.refl _ _,f⟩
  case round=>
   obtain⟨n,ao,rfl,e,m⟩:=hrel;obtain⟨D,K⟩:∃D,((i.dM.take n).map (·.2)).foldl mR i.sm=D:=⟨_,rfl⟩;rw[K]at m;have u:=Y K;clear K;obtain⟨ac,S,N⟩:=t wr e;have Q:=Y e;have W:=Y m;by_cases d:n<y i.dM
   .have al:=p n d wr e;have X:=Y<|g wr n d D e m;clear e m;go_wp2_with(first
     |(go_at_call 39;refine X.mono ?_;rintro A w2⟨rfl,x,w⟩;have E:=Y x;have C:=Y w;clear x w))
    go_roundw;case rel=>exact⟨n+1,by omega,by go_num,Q.trans (fj C)<|λx A=>.inl A,by rw[aj d,aR,fK,af u];exact E⟩
    case measure=>simp[intOf];omega
   .clear e m;have w:n=y i.dM:=by omega
    subst w;go_wp2;go_ret;exact⟨rfl,_,o wr D Q W,rfl,rfl,by rw[<-af u,bL]⟩
def Js(k:cH a b i)(h:y i.dM<=1000000000000):cD aZ 79 #[aA b] a λe j=>e=aJ .nilIface/\∃c,oA a j b i c/\c.files=i.files/\c.dM=[]:=(zw k h).mono<|λ_ _⟨e,c,d,f,g,_⟩=>⟨e,c,d,f,g⟩
def SE{m:eY}(h:eY.get m v=H d):eY.put m v d=m:=by
 induction m with
 |nil=>cases h
 |cons p r a=>
  by_cases e:p.1=v
  .simp[eY.get,e]at h;simp[eY.put,e,<-h];rw[<-e]
  .simp[eY.get,e]at h;simp[eY.put,e,a h]
def cH.YB{K:DK}{F F':cX}(m:cH a b K)(A:mS K.files F'.name=H F)(v:F'.oM=F.oM)(p:I (λk=>k=F.oM\/cz F.data=H k) a f)(hF:vJ f F')(B:∀k,cz F'.data=H k->cz F.data=H k\/z (G a)<=k):oA a f b K {K with files:=mB K.files F'}:=by
 obtain⟨_,c,r⟩:=iS A;have g:=m.files F c;have q:∀{k w:M}{u:Array ab}{s:M×M},a.heap[k]?=H (ay u w s)->w≠78->w≠5->¬(k=F.oM\/cz F.data=H k):=by rintro k w u s D C E(e|e);exact ld D g.1 C e;obtain⟨h,n⟩:=fR g.2.1 e;grind
 have d:∀{w:M}{C:eY},gl a w C->¬(w=F.oM\/cz F.data=H w):=by rintro w C u(e|e);exact u.tag g.1 e.symm;obtain⟨h,n⟩:=fR g.2.1 e;exact u.tag n rfl
 have j:∀t∈pm K.files F'.name,t∈K.files:=λt i=>(rj _ _).subset i;have l:=Et m.apart A;refine⟨⟨?_,?_,m.safe.ap p<|d m.safe,m.ne,?_,?_,?_,?_⟩,?_,?_⟩;exact(p.block b (ar m.iy)<|q m.iy (by decide)<|by decide).trans m.iy;show gl f K.nb ((mB K.files F').map cX.nm);rw[JV,v,SE r];exact m.now.ap p<|d m.now;refine p.own m.steps<|λk e=>?_;obtain⟨h,n⟩:=fR m.steps e;grind
 intro x o;refine(m.each x o).ap p<|λk e=>?_;obtain⟨h,s,n⟩:=(m.each x o).2.2 k e;grind
 intro x o;rcases zU o with rfl|o;exact hF;have u:=m.files x<|j x o;refine u.ap p ?_ ?_;rintro(e|e);exact(l x o).1 e.symm;obtain⟨h,n⟩:=fR g.2.1 e;exact ld u.1 n (by decide) rfl;intro k w;rintro(e|e);obtain⟨h,n⟩:=fR u.2.1 w;exact ld n g.1 (by decide) e;exact(l x o).2 k e w;refine Dz (m.apart.sublist<|rj _ _)<|λt i=>⟨by rw[v];exact(l t i).1,λk e u=>?_⟩;rcases B k e with w|w;exact(l t i).2 k w u;have:=(bK (m.files t<|j t i).2.1 k u).2;omega
 .exact p.mono (by
   rintro x(rfl|e)
   .exact .inl<|.inr<|.inr<|.inr<|.inr<|.inr ⟨F,c,.inl rfl⟩
   .exact .inl (.inr (.inr (.inr (.inr (.inr ⟨F,c,.inr e⟩))))))
 rintro k(e|e|e|e|e|⟨w,u,e⟩);exact .inl<|.inl e;exact .inl<|.inr<|.inl e;exact .inl<|.inr<|.inr<|.inl e;exact .inl<|.inr<|.inr<|.inr<|.inl e;exact .inl<|.inr<|.inr<|.inr<|.inr<|.inl e;rcases zU u with rfl|u;rcases e with e|e;exact .inl<|.inr<|.inr<|.inr<|.inr<|.inr ⟨F,c,.inl<|v.symm.trans e⟩;rcases B k e with e|e;exact .inl<|.inr<|.inr<|.inr<|.inr<|.inr ⟨F,c,.inr e⟩;exact .inr e;exact .inl<|.inr<|.inr<|.inr<|.inr<|.inr ⟨w,j w u,e⟩
def Jr(c:ae)(F:cX)(m:cH a b i)(j:mS i.files c=H F)(n:y F.bytes<=140737488351232):cD aZ 78 #[aA b,am c] a λl k=>l=aJ .nilIface/\∃g,oA a k b i g/\g.files=mB i.files {F with safe:=y F.bytes}/\g.dM=i.dM/\g.sm=i.sm:=by
 obtain⟨h,e,d⟩:=iS j;have hF:=m.files F e;have f:cz F.data≠H F.oM:=tZ hF.2.1 hF.1 (by decide);apply(Sk _ c F.oM F.bytes F.safe m.iy m.now d ⟨F.data,hF.1,eE.bytes hF.2.1,f⟩ n).mono;rintro l k⟨rfl,_,rfl⟩;refine⟨rfl,_,m.YB (F:=F) (F':={F with safe:=y F.bytes}) (by rw[show({F with safe:=y F.bytes}:cX).name=F.name from rfl,h];exact j) rfl ((I.refl _ a).setCell F.oM 1 _<|.inl<|.inl rfl) ⟨?_,?_,hF.2.2⟩<|λo l=>.inl l,rfl,rfl,rfl⟩;show(cA a (R F.oM 1)<|aq<|y F.bytes).heap[F.oM]?=_;rw[aL hF.1];rfl;exact World.ownsRow.kept hF.2.1 (du a F.oM 1 _)<|.inr f
def UX(c:ae)(F:cX)(m:cH a b i)(j:mS i.files c=H F)(k:y F.bytes<=140737488351232):cD aZ 78 #[aA b,am c] a λe l=>e=aJ .nilIface/\∃d,oA a l b i d/\d.files=mB i.files {F with safe:=y F.bytes}/\d.dM=i.dM:=(Jr c F m j k).mono<|λ_ _⟨e,d,f,g,h,_⟩=>⟨e,d,f,g,h⟩
def Vd(c:ae)(F:cX)(h:cH a b i)(f:mS i.files c=H F)(j:y F.bytes<=140737488351232):cD aZ 96 #[aA b,am c] a λl k=>l=aJ (dd #[aq<|y F.bytes,.nilIface])/\k=a:=by
 obtain⟨g,e,d⟩:=iS f;have hF:=h.files F e;exact Sr _ c F.oM F.bytes F.safe h.iy h.now d ⟨F.data,hF.1,eE.bytes hF.2.1,tZ hF.2.1 hF.1<|by decide⟩ j
def sB(a:cS cX):M:=(a.map (·.bytes.length)).sum
def pj.left_eq{m left:eY}(l:pj a b c m left):a.rangeLeft b c=y left:=by
 obtain⟨k,d,e,seen,j,g,_,_,h,_,_,_,i⟩:=l;simp only[World.rangeLeft,g,h];have:=bQ y i;grind
def DM{L:cS cX}{b a:eY}{p:ae×ab}(h:L.map cX.nm=b++p::a):∃A f C,L=A++f::C/\b=A.map cX.nm/\p=f.nm/\a=C.map cX.nm:=by
 obtain⟨A,D,rfl,d,c⟩:=iz.1 h;obtain⟨f,C,rfl,e,g⟩:=nn.1 c;grind
def eE.shape(h:eE a b d n):∃x c,d=J x (y n) c:=aC h
def EE{db:M}{K:DK}(o:ae)(F:cX)(bh e A:M)(f:dN){w:Z}(h:cH w db K)(hg:mS K.files o=H F)(aD:sB K.files+y f<=1099511627776)(au:jn f)(C:∀bb X,(f.map<|Value.int .u8)[bb]?=H X->aS w (R bh<|e+bb)=H X)(B:bh<z (G w))(bi:y F.bytes<=1099511627776):cD aZ 125 #[aA db,am o,aY bh e (y f) A] w λW w'=>W=aJ .nilIface/\∃k,oA w w' db K k/\(∃bc,k.files=mB K.files {F with data:=bc,bytes:=F.bytes++f})/\k.dM=K.dM/\k.sm=K.sm:=by
 obtain⟨i0,hi,aU,aV,ba⟩:=cU pL;obtain⟨ax,O,L⟩:=iS hg;subst ax;have HF:=Y<|uJ _ F.name (R F.oM 0) h.iy h.now L;have bk:=cellAt h.iy 0 rfl;obtain⟨HD,v,HB⟩:=dz (λ(wr:Z)(r:I az w wr)=>h.ap r<|λ_ _=>id) h.now<|λ(wr:Z)(r:I az w wr)bb X(hj:(f.map<|Value.int .u8)[bb]?=H X)=>r.cell (C bb X hj) id B;clear h C;go_in
 go_wp2_with(first
  |(go_at_call 133;refine HF.mono ?_;rintro W w1⟨rfl,hw⟩;subst w1)
  |(at_range;refine qJ _ rfl _ 69 rfl 9 74 underlying69 K.nb _ rfl v ?_;intro w0 l E bp;have an:=Y l;have u:=Y E;clear l E))
 go_frame
 go_loopw [9] (λX wr=>∃(bf:cS cX)(a:M),(∀aa∈bf,aa∈K.files)/\X=aq a/\a+sB bf=sB K.files/\pj wr K.nb (z<|G w) (K.files.map cX.nm) (bf.map cX.nm)/\I az w wr) (λ_ wr=>wr.rangeLeft K.nb<|z<|G w)
 case atStart=>exact⟨K.files,0,λ_ h=>h,rfl,by simp,an,I.dW u<|by simp⟩
 case round=>
  obtain⟨bf,a,hL,rfl,m,N,r⟩:=hrel;obtain⟨t,x,bd,HL⟩:=fX N r m hL;clear N r hL;go_wp2_with(first
   |(at_next;refine pF _ rfl _ rfl K.nb (z (G w)) _ _ rfl t ?_ ?_))
  .intro av;obtain rfl:bf=[]:=by simpa using av
   have aF:a=sB K.files:=by simpa[sB]using m
   have g:=HD wr x;have hF:=g.files F O;have bl:=cellAt g.iy 3 rfl;have D:=cellAt hF.1 0 rfl;have P:cz F.data≠H F.oM:=tZ hF.2.1 hF.1 (by decide);have c:∀i j,j.ownsRow 0 5 1 i (y F.bytes+y f) (F.bytes.map (Value.int .u8)++f.map (Value.int .u8))->eC wr j F.data i->aS j (R F.oM 0)=H F.data/\j.frozen? (R F.oM 0)=bj/\∃k,oA w (cA j (R F.oM 0) i) db K k/\(∃bc,k.files=mB K.files {F with data:=bc,bytes:=F.bytes++f})/\k.dM=K.dM/\k.sm=K.sm:=by
    intro i j V q;have b:j.heap[F.oM]?=H (ay #[F.data,aq F.safe] 78 (0,0)):=(q.grown.block F.oM (ar hF.1)<|λW=>P W.symm).trans hF.1;have Q:cz i≠H F.oM:=tZ V b (by decide);refine⟨by rw[bV b];rfl,cZ b,_,(HD w<|I.refl _ _).YB (F:=F) (F':={F with data:=i,bytes:=F.bytes++f}) hg rfl ?_ ⟨?_,?_,hF.2.2.append au⟩ ?_,⟨i,rfl⟩,rfl,rfl⟩
    .exact((x.mono (T:=λac=>ac=F.oM\/cz F.data=H ac) cC).trans (I.dW (S:=λac=>cz F.data=H ac) q.grown<|λac W=>.inl W)<|λbc W=>.inl<|.inr W).setCell F.oM 0 i<|.inl<|.inl rfl
    .show(cA j (R F.oM 0) i).heap[F.oM]?=_;rw[aL b];rfl
    .exact eE.of (World.ownsRow.kept V (du j F.oM 0 i)<|.inr Q) (by simp)<|by simp
    .intro ac W;rcases q.uj with e'|⟨ao,e',bo⟩
     .grind
     .have:ao=ac:=by
       have e2:cz i=H ac:=W;rw[e']at e2;simpa using e2
      exact .inr (by have:=x.size;omega)
   have s:=Y c;have HO:=Y hF.2.1;obtain⟨bc,br,p⟩:=eE.shape hF.2.1;have bg:¬((1099511627776-a:U)<y f):=by omega
   clear c g hF P;generalize F.data=fd at*;subst p;have ad:=Y<|HB wr x;go_wp2_with(first
    |(at_builtin;go_loud(refine ct _ rfl (.tmp 54) (.tmp 55) 75 rfl 0 5 i0 (.int .u8 0) 1 1 underlying75 hi aU aV ba rfl (by decide) _ (y F.bytes) (F.bytes.map (Value.int .u8)) rfl HO (R bh e) (y f) A (f.map (Value.int .u8)) rfl (by simp) (λbb X hj=>by rw[dt];exact ad bb X hj) (by intro X hu;simp only[bM]at hu;obtain⟨bq,_,rfl⟩:=hu;rfl) (by omega) (by omega) (bG _) ?_;intro v2 j d n;obtain⟨bm,bn,c⟩:=s v2 j d n;obtain⟨x2,c2,rfl⟩:=aC d;have al:=Y c;clear d n c)))
   go_ret;exact⟨rfl,al⟩
  .intro aF pk pv V w1 j b i P al;obtain⟨ac,aa,ad,rfl,rfl,Q,rfl⟩:=DM j;simp only[cX.nm,kT,iZ]at Q;obtain⟨rfl,rfl⟩:=Q;have s:aa∈K.files:=HL aa (by simp);have c:I az w w1:=x.trans (fj i) (by grind);have g:=HD w1 c;have hF:=g.files aa s;have D:=cellAt hF.1 0 rfl;obtain⟨bc,br,p⟩:=eE.shape hF.2.1;rw[p]at D;have av:sB (ac++aa::ad)=sB (ac++ad)+y aa.bytes:=by simp[sB];omega
   obtain⟨n,d,q⟩:=dz (show(λao=>ao∈K.files)=(λao=>ao∈K.files)from rfl) b c;clear j b i P g hF c n;go_wp2;go_roundw;case rel=>exact⟨ac++ad,a+y aa.bytes,λao hg=>HL ao (by grind),by go_num,by omega,by simpa using af d,q⟩
   case measure=>rw[(af d).left_eq,(af t).left_eq];simp
def RM(d:ae)(F:cX)(n c h:M)(f:dN)(w:cH a b i)(s:mS i.files d=H F)(e:sB i.files+y f<=1099511627776)(m:jn f)(l:∀u v,(f.map<|Value.int .u8)[u]?=H v->aS a (R n<|c+u)=H v)(j:n<z (G a))(k:y F.bytes<=1099511627776):cD aZ 125 #[aA b,am d,aY n c (y f) h] a λo t=>o=aJ .nilIface/\∃g,oA a t b i g/\(∃x,g.files=mB i.files {F with data:=x,bytes:=F.bytes++f})/\g.dM=i.dM:=(EE d F n c h f w s e m l j k).mono<|λ_ _⟨o,g,p,q,r,_⟩=>⟨o,g,p,q,r⟩
def Bytes.cells(k:Bytes a (aY b c (y n) m) n):∀j u,(n.map<|Value.int .u8)[j]?=H u->aS a (R b<|c+j)=H u:=by
 rcases k with⟨h,_⟩|⟨i,e,d,h,_,l⟩;cases h;grind
def GC{v:ab}{bs:dN}{w:Z}(h:Bytes w v bs)(Q:y bs<=1099511627776)(g:∀q,cz v=H q->q<z (G w)):cD aZ 23 #[v] w λP t=>∃s,P=aJ s/\eE t (z<|G w) s bs/\Below (z<|G w) w t:=by
 obtain⟨L,E,m,o,p⟩:=cU pL;rcases h.shape with⟨rfl,rfl⟩|⟨A,e,l,rfl,K⟩;(.have D:∀w:Z,(binOp .eql 75 aw aw).run aZ w=.ok (aK ci) w:=λ_=>rfl;(go_in);go_wp2;go_ret;exact⟨_,rfl,eE.nil _ _,Below.refl _ _⟩)
 .have C:A<z (G w):=g A rfl;have u:=Y h.cells;have i:(cG w<|ay #[] 5).ownsRow (z<|G w) 5 1 (aY (z<|G w) 0 0 0) 0 []:=World.ownsRow_lit w #[] 0 (ai _) (by decide) rfl;have x:=Y i;have D:∀(w:Z)a n c,(binOp .eql 75 (J (H a) n c) aw).run aZ w=.ok (aK bj) w:=λ_ _ _ _=>rfl;clear h g i;go_in
  go_wp2_with(first
   |(at_builtin;refine ct _ rfl (.tmp 5) (.tmp 6) 75 rfl (z (G w)) 5 L (.int .u8 0) 1 1 underlying75 E m o p rfl (by decide) _ 0 [] rfl x (R A e) (y bs) l (bs.map (Value.int .u8)) rfl (by simp) (λS O F=>by rw[dt,fo C];exact u S O F) (by intro O r;simp only[bM]at r;obtain⟨N,_,rfl⟩:=r;rfl) (by omega) (by omega) (by simp) ?_;intro V W b d;have j:=Y b;have k:=Y d;clear b d))
  go_ret;refine⟨_,rfl,eE.of j (by simp) (by simp),?_⟩;have:=k.below (B:=z<|G w) (by simp) (by rintro q⟨⟩;grind);exact⟨this.os,this.tape,this.output,aB (by simp) this.size,λq b=>(this.block q b).trans<|Below.heap_alloc w _ q b⟩
def cH.CJ{K:DK}(h:cH a b K)(r m:U):oA a (cA (cA a (R b 6)<|aq r) (R b 7)<|aq m) b K {K with reads:=r,vU:=m}:=by
 have c:I (λk=>k=b) a (cA (cA a (R b 6)<|aq r) (R b 7)<|aq m):=(iV b a).setCell b 7 _<|.inl rfl;have g:(cA a (R b 6)<|aq r).heap[b]?=H (ay #[.map<|H K.nb,.map<|H K.sb,K.mv,aq 1099511627776,aq 0,aq 0,aq r,aq K.vU] 72 (0,0)):=by rw[aL h.iy];rfl
 refine⟨⟨?_,h.now.ap c ?_,h.safe.ap c ?_,h.ne,c.own h.steps ?_,?_,?_,h.apart⟩,c.mono<|λx e=>.inl<|.inl e,λk e=>.inl e⟩;unfold mW;rw[aL g];rfl;exactλe=>h.now.tag h.iy e.symm;exactλe=>h.safe.tag h.iy e.symm;exactλk e=>(h.Ju e).2.2;intro x i;refine(h.each x i).ap c<|λk e=>?_;obtain⟨d,j,f⟩:=(h.each x i).2.2 k e;exact ld f h.iy (by decide);intro j i;have hF:=h.files j i;refine hF.ap c (ld hF.1 h.iy<|by decide)<|λk e=>?_;obtain⟨d,f⟩:=fR hF.2.1 e;exact ld f h.iy<|by decide
def AV(s:ae)(F:cX)(p A:M)(h:cH a b L)(hg:mS L.files s=H F)(hl:y F.bytes<=1099511627776)(X:p<=y F.bytes)(hn:A<=1099511627776):cD aZ 97 #[aA b,am s,aq p,aq A] a λf E=>∃D,f=aJ (dd #[D,.nilIface])/\eE E (z<|G a) D ((F.bytes.drop p).take A)/\∃v,oA a E b L v/\v.files=L.files/\v.dM=L.dM/\∀k,v.aO b k->L.aO b k:=by
 obtain⟨T,l,q⟩:=iS hg;have aD:=cellAt h.iy 6 rfl;have aV:=cZ (i:=6) h.iy;have u:∀t,aS (cA a (R b 6)<|aq t) (R b 7)=H (aq L.vU)/\(cA a (R b 6)<|aq t).frozen? (R b 7)=bj:=by intro t;(have r:(cA a (R b 6)<|aq t).heap[b]?=H (ay #[.map<|H L.nb,.map<|H L.sb,L.mv,aq 1099511627776,aq 0,aq 0,aq t,aq L.vU] 72 (0,0)):=by rw[aL h.iy];rfl);exact⟨by rw[bV r];rfl,cZ r⟩
 have aF:=λt=>(u t).1;have ba:=λt=>(u t).2;have HF:=Y<|λt N=>uJ _ s (R F.oM 0) (h.CJ t N).ok.iy (h.CJ t N).ok.now q;have Q:∀t N,aS (cA (cA a (R b 6)<|aq t) (R b 7)<|aq N) (R F.oM 0)=H F.data:=λt N=>by rw[bV ((h.CJ t N).ok.files F l).1];rfl
 have n:=(h.files F l).2.1
 have c:=Y (λ(t N:U)(ac:ab)(O:dN)(hb:Bytes a ac O)(V:y O<=1099511627776)(ho:∀k,cz ac=H k->cz F.data=H k)=>
  have S:=h.CJ t N
  have P:Bytes (cA (cA a (R b 6)<|aq t) (R b 7)<|aq N) ac O:=by
   have r:cz F.data≠H b:=tZ n h.iy (by decide);have B:cz ac≠H b:=λf=>r<|ho b f;exact(hb.grown (du a b 6 _)<|.inl B).grown (du _ b 7 _)<|.inl B
  show cD aZ 23 #[ac] (cA (cA a (R b 6)<|aq t) (R b 7)<|aq N) λf E=>∃D,f=aJ D/\eE E (z<|G a) D O/\∃v,oA a E b L v/\v.files=L.files/\v.dM=L.dM/\∀k,v.aO b k->L.aO b k from(GC P V (λk f=>by
   have:=(bK n k (ho k f)).2;simp_all)).mono (by
    rintro f E⟨D,rfl,B,r⟩;have C:z (G<|cA (cA a (R b 6)<|aq t) (R b 7)<|aq N)=z (G a):=by simp_all
    rw[C]at B r;have ht:I az (cA (cA a (R b 6) (aq t)) (R b 7) (aq N)) E:=I.aQ (by rw[C];exact r);exact⟨D,rfl,B,_,⟨S.ok.ap ht (λ_ _=>id),S.ap.bW ht,S.aO⟩,rfl,rfl,λ_ f=>f⟩))
 have x:=eE.bytes n;rcases(show _ from n).2 with⟨g,K⟩|⟨au,w,av,g,_,_,bc,aU,_,_⟩
 .have r:F.bytes=[]:=aP K;have C:p=0:=by rw[r]at X;simpa using X
  subst C;rw[g]at Q;have P:(F.bytes.drop 0).take A=[]:=by rw[r];simp
  rw[P];have j:=Y (show∀aa,cz (J none 0 0)=H aa->cz F.data=H aa fromλaa f=>by cases f);clear h n x g T l q hg P r X hl;rcases gm A with B|B
  .subst B;by_cases hm:L.vU<((0:M):U);all_goals
    go_in
    go_wp2_with(first
     |(go_at_call 133;refine(HF _ _).mono ?_;rintro f W⟨rfl,hw⟩;subst W)
     |(go_at_call 23;refine(c _ _ aw [] (.inl ⟨rfl,rfl⟩) (bG _) j).mono ?_;rintro f w2⟨v2,rfl,e,d⟩;have m:=Y e;have o:=Y d;clear e d))
    go_ret2
    exact⟨_,rfl,m,o⟩
  .by_cases hm:L.vU<A;all_goals
    go_in
    go_wp2_with(first
     |(go_at_call 133;refine(HF _ _).mono ?_;rintro f W⟨rfl,hw⟩;subst W)
     |(go_at_call 23;refine(c _ _ aw [] (.inl ⟨rfl,rfl⟩) (bG _) j).mono ?_;rintro f w2⟨v2,rfl,e,d⟩;have m:=Y e;have o:=Y d;clear e d))
    go_ret2
    exact⟨_,rfl,m,o⟩
 .have H1:∀k,p+k<=y F.bytes->Bytes a (aY au p k<|w-p) ((F.bytes.drop p).take k):=by
   intro k hk;rw[g]at x;have u:=x.Bq X;rw[dr]at u;have h2:=Bytes.take (bs:=F.bytes.drop p) (by simpa using u) (n:=k) (by simp;omega);exact h2
  have H0:∀k,p+k<=y F.bytes->p=w->Bytes a (aY au 0 k 0) ((F.bytes.drop p).take k):=by
   intro k hk f;obtain rfl:k=0:=by omega
   exact .inr ⟨au,0,0,by simp,by simp,λk hk=>by simp at hk⟩
  have ao:∃k,k=min A (y F.bytes-p)/\p+k<=y F.bytes/\(F.bytes.drop p).take k=(F.bytes.drop p).take A:=⟨min A<|y F.bytes-p,rfl,by omega,by rw[List.take_eq_take_iff];simp⟩;obtain⟨k,hk,P,V⟩:=ao;have C:=H1 k P;have B:=H0 k P;rw[V]at C B;have S:y ((F.bytes.drop p).take A)<=1099511627776:=by simp;omega
  obtain⟨ad,ac,al⟩:=dz C B S;have r:∀(o b a aa:M),cz (aY au o b a)=H aa->cz F.data=H aa:=by rw[g];exactλ_ _ _ aa f=>f
  have j:=Y r;rw[g]at Q;clear C B S h n x H1 H0 r g T l q hg V;have ax:p<=w:=by omega
  by_cases hm:L.vU<A;all_goals
   by_cases an:p=w;all_goals
    by_cases bb:A<=y F.bytes-p;all_goals
     go_in
     go_wp2_with(first
      |(go_at_call 133;refine(HF _ _).mono ?_;rintro f W⟨rfl,hw⟩;subst W)
      |(go_at_call 23;refine(c _ _ _ ((F.bytes.drop p).take A) (by
       have u:=af ad;have K:=af ac;first
        |((have f:k=A:=by omega);rw[f]at K;exact K<|by omega)
        |((have f:k=0:=by omega);rw[f]at K;exact K<|by omega)
        |((have f:k=A:=by omega);rw[f]at u;exact u)
        |((have f:k=y F.bytes-p:=by omega);rw[f]at u;exact u)) al (λaa f=>j _ _ _ aa f)).mono ?_;rintro f w2⟨v2,rfl,e,d⟩;have m:=Y e;have o:=Y d;clear e d))
     go_ret2
     exact⟨_,rfl,by first|exact m|(have h9:=af m;rw[an]at h9;exact h9),o⟩
def iM(b:M):DK:=⟨b,b+1,aw,0,0,[],[],[]⟩
def Gd(w:Z):gl (cG w<|.map #[] 0) (z<|G w) []:=⟨#[],0,jb _ _,rfl,pW 0⟩
def wJ(w:Z):cD aZ 14 #[aq 1099511627776] w λe b=>e=aJ (aA<|z (G w)+2)/\cH b (z (G w)+2) (iM<|z<|G w)/\Below (z<|G w) w b:=by
 have d:=@qQ aZ;have a:cH (cG (cG (cG w<|.map #[] 0)<|.map #[] 0)<|ay #[.map<|H<|z<|G w,.map<|H<|z (G w)+1,aw,aq 1099511627776,aq 0,aq 0,aq 0,aq 0] 72) (z (G w)+2) (iM<|z<|G w):=by refine⟨?_,((Gd w).alloc _).alloc _,?_,by simp[iM],cO _ _ _ _,by simp[iM],by simp[iM],by simp[iM]⟩;have:=jb (cG (cG w<|.map #[] 0)<|.map #[] 0)<|ay #[.map<|H<|z<|G w,.map<|H<|z (G w)+1,aw,aq 1099511627776,aq 0,aq 0,aq 0,aq 0] 72;simpa[mW,iM]using this;have:=(Gd<|cG w<|.map #[] 0).alloc<|ay #[.map<|H<|z<|G w,.map<|H<|z (G w)+1,aw,aq 1099511627776,aq 0,aq 0,aq 0,aq 0] 72;simpa[iM]using this
 have c:=Y a;clear a;go_in
 go_wp2;go_ret;exact⟨rfl,c,((((Below.refl _ w).alloc (ai _) _).alloc (by simp) _).alloc (by simp;omega) _)⟩
def Dy:∀{m:eY}{k:ae},m.get k=none->m.put k d=m++[(k,d)]
 |[],k,_=>rfl
 |p::r,k,h=>by
  unfold eY.get at h;by_cases e:p.1=k
  .rw[dV e]at h;cases h
  .rw[eI e]at h;unfold eY.put;rw[eI e,Dy h];rfl
def La{v:ab}:∀{m:eY}{k:ae},m.get k=none->eY.get (m++[(k,v)]) k=H v
 |[],k,_=>by simp[eY.get]
 |p::r,k,h=>by
  unfold eY.get at h;by_cases e:p.1=k
  .rw[dV e]at h;cases h
  .rw[eI e]at h;show eY.get (p::(r++[(k,v)])) k=H v;unfold eY.get;rw[eI e];exact La h
def Lb{a:cS cX}(h:v∉a.map cX.name):eY.get (a.map cX.nm) v=none:=by
 induction a with
 |nil=>rfl
 |cons f a b=>
  rw[cr,bR,not_or]at h;rw[cr];unfold eY.get;rw[eI<|λe=>h.1 e.symm];exact b h.2
def qN{m:eY}{e:Array ab}{t:TypeId}{g:M×M}(k:gl a b m)(d:a.heap[c]?=H (ay e t g)):c≠b:=by
 rintro rfl;obtain⟨j,i,h,_⟩:=k;rw[h]at d;cases d
def cH.add{K:DK}{f:cX}{i:eY}(l:cH a b K)(x:K.dM=[])(q:I (λk=>k=K.nb\/k=K.sb) a B)(m:gl B K.nb (K.files.map cX.nm++[f.nm]))(h:gl B K.sb i)(w:vJ B f)(v:z (G a)<=f.oM)(t:∀k,cz f.data=H k->z (G a)<=k):cH B b {K with files:=K.files++[f],sm:=i}/\∀k,DK.aO b {K with files:=K.files++[f],sm:=i} k->K.aO b k\/k=f.oM\/cz f.data=H k:=by
 have d:∀{k:M}{b:Array ab}{t:TypeId}{c:M×M},a.heap[k]?=H (ay b t c)->¬(k=K.nb\/k=K.sb):=λg j=>j.elim (qN l.now g)<|qN l.safe g;refine⟨⟨?_,?_,h,l.ne,?_,?_,?_,?_⟩,?_⟩;exact(q.block b (ar l.iy)<|d l.iy).trans l.iy;rw[aR];exact m;exact q.own l.steps (λk g j=>by obtain⟨n,s⟩:=fR l.steps g;grind);grind
 intro r e;rcases aG.1 e with e|e;have c:=l.files r e;exact c.ap q (d c.1) (λk g j=>by obtain⟨n,s⟩:=fR c.2.1 g;grind);grind
 show(K.files++[f]).Pairwise mL;rw[bP];refine⟨l.apart,List.pairwise_singleton _ _,λr e u o=>?_⟩;obtain rfl:=dA.1 o;have c:=l.files r e;refine⟨λA=>by have:=ar c.1;omega,λk g p=>?_⟩;have:=(bK c.2.1 k g).2;have:=t k p;omega;rintro k(j|j|j|j|⟨p,o,j⟩|⟨r,e,j⟩);exact .inl<|.inl j;exact .inl<|.inr<|.inl j;exact .inl<|.inr<|.inr<|.inl j;exact .inl<|.inr<|.inr<|.inr<|.inl j;(grind);rcases aG.1 e with e|e;exact .inl<|.inr<|.inr<|.inr<|.inr<|.inr ⟨r,e,j⟩;grind
def zL{P:Program}{r:Oper}{h:Act}{K:Act->Z->Prop}{Q:Exit->Act->Z->Prop}(i A j:Operand)(x:TypeId)(g:r.op=Op.mapUpdate x i A j)(v B:TypeId)(o:P.underlying x=H (.map v B))(m:P.underlying v=H .string)(k:M)(w:eY)(n:h.eval i=.map (H k))(C:gl a k w)(b:ae)(c:ab)(q:h.eval A=am b)(p:h.eval j=c)(l:∀d,gl d k (w.put b c)->a.grownBy d (H k)->z (G d)=z (G a)->K (h.put r.dst ix) d):Oper.wp P r h a K Q:=by
 obtain⟨d,e,s,t,u⟩:=BM o m C b c;unfold Oper.wp;simp[execOp,g,n,q,p,e,Result.andThen];exact l d s t u
