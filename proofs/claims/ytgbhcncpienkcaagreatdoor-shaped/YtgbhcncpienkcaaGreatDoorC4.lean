import Derived.Carry
import Derived.Laws.OwnMore
import Derived.Test.YtgbhcncpienkcaaGreatDoorC1
import Derived.Test.YtgbhcncpienkcaaGreatDoorC2
open _root_ renaming List.length→y,Option.some→H,Array.size→z,Go.World.heap→G,Go.Value.ownBlock→ct,Go.World.cell?→aO,Go.World.setCell→cA,Go.World.alloc→cF,Bool.false→aY,Bool.true→bU,Nat→M,Int→Z,List→cw,Go.Calls→cD,Go.undef→ix,Go.Proofs.Tryz.prog→bz,Go.Value.slice→J,Go.Value.string→aj,Go.Value.bool→aK,Go.Value.pointer→fj,Go.Value.tuple→dw
namespace Go.Proofs.YtgbhcncpienkcaaGreatDoor
open ChangeShapes WideShapes RowKit Proofs.Tryz List
set_option maxHeartbeats 16000000
set_option linter.all false
set_option maxRecDepth 100000
variable{a f C:Y}{b c g l:M}{d u:aa}{m K S:Z}{p:eO}{W:ab}{x:iC}{V:Array aa}
def pm:Option M->aa
 |none=>.pointer none
 |some g=>.pointer<|H<|R g 0
abbrev Mv:=ab×Option M
def yF(p:Mv):iC:=[aj p.1,pm p.2]
def rL(l:cw Mv):iC:=l.flatMap yF
def JH(l:cw Mv)(i:M)(h:i<y l):(rL l)[i*2]?=H (aj l[i].1)/\(rL l)[i*2+1]?=H (pm l[i].2):=by
 induction l generalizing i with
 |nil=>simp at h
 |cons p r a=>
  cases i with
  |zero=>simp[rL,yF]
  |succ i=>
   have:=a i (by simpa using h);have e:(i+1)*2=i*2+2:=by omega
   rw[e];simpa[rL,yF]using this
def Xu(w:Y)(v:aa)(l:cw Mv):Prop:=Row w 2 v (y l)<|rL l
def Mt(m:fi)(x:Mv):fi:=match x.2 with
 |none=>m.del x.1
 |some g=>m.put x.1<|pm<|H g
def sa(m:fi)(l:cw Mv):fi:=l.foldl Mt m
def Mr(m:fi)(l:cw Mv)(n:M)(h:n<y l):sa m (l.take<|n+1)=Mt (sa m<|l.take n) l[n]:=by
 unfold sa;rw[ah h,iL];rfl
def nh(h:aO a (R b c)=H d):b<z (G a):=by
 by_cases e:b<z (G a);exact e;unfold World.cell? at h;rw[jq<|by simpa using e]at h;simp at h
def gI.ne{m:fi}(l:gI a b m)(h:aO a (R c g)=H d):c≠b:=by
 obtain⟨k,e,i,_⟩:=l;intro j;subst j;simp[World.cell?,i]at h
def Ig(K:fi)(p:cw Mv)(v:gI a b K)(S:Xu a d p)(hr:y p<=1000000000000):cD bz 173 #[.map<|H b,d] a λad N=>ad=aL (dw #[])/\gI N b (sa K p)/\a.grownBy N (H b):=by
 obtain⟨Q,⟨rfl,P⟩|⟨D,j,O,rfl,V,E⟩⟩:=S;(.obtain rfl:p=[]:=aP P;have t:=U v;clear v;(go_in);go_wp2;(go_loopw [8] (λF wr=>F=ap 0/\wr=a) (λ_ _=>0));(case atStart=>grind);(case round=>obtain⟨rfl,rfl⟩:=hrel;go_wp2;go_end0;exact⟨rfl,t,tr _ _⟩))
 .have w:=U E;have t:=U v;clear E Q v;go_in
  go_wp2;go_loopw [8] (λF wr=>∃n:M,n<=y p/\F=ap n/\gI wr b (sa K<|p.take n)/\a.grownBy wr (H b)) (λF _=>y p-(intOf F).toNat)
  case atStart=>exact⟨0,bj _,rfl,t,tr _ _⟩
  case round=>
   obtain⟨n,hn,rfl,e,g⟩:=hrel;by_cases r:n<y p
   .have u:=JH p n r;have m:=w _ _ u.1;have q:=nh m;have s:=t.ne m;have c:wr.heap[D]?=a.heap[D]?:=g.block D q (by simpa using s);have x:aO wr (R D<|j+n*2)=H (aj p[n].1):=(cR (w:=a) c).trans<|w _ _ u.1;have o:aO wr (R D<|j+n*2+1)=H (pm p[n].2):=(cR (w:=a) c).trans (by rw[aV];exact w _ _ u.2);have C:=U<|Mr K p n r;clear u m c q s;generalize sa K (p.take n)=ac at*;generalize p[n]=al at*;obtain⟨L,W⟩:=al;simp only at x o;have A:=U<|λv=>e.alloc v;have B:=U<|λv=>g.trans<|dt wr v<|H b;clear e g;cases W with
    |none=>
     simp only[pm]at o;go_wp2_with(first
      |(at_delete;refine DT _ rfl _ _ 78 9 rfl 134 underlying78 underlying9 b ac rfl (A _) L rfl ?_;intro X i f;have l:=U i;have k:=U f;clear i f))
     go_roundw;case rel=>exact⟨n+1,by omega,by go_num,by rw[ae C];exact l,(B _).trans k⟩
     case measure=>simp[intOf];omega
    |some an=>
     simp only[pm]at o;go_wp2_with(first
      |(at_mapUpdate;refine DS _ rfl _ _ _ 78 rfl 9 134 underlying78 underlying9 b ac rfl (A _) L _ rfl rfl ?_;intro X i f;have l:=U i;have k:=U f;clear i f))
     go_roundw;case rel=>exact⟨n+1,by omega,by go_num,by rw[ae C];exact l,(B _).trans k⟩
     case measure=>simp[intOf];omega
   .have i:n=y p:=by omega
    subst i;have f:=U e;have c:=U g;clear e g;go_wp2;go_end0;have:=ae f;rw[aX]at this;exact⟨rfl,this,c⟩
def Tu:(prog.info? 284).map (λi=>(i.zero,i.size,i.bytes))=H (H aD,1,24):=by kernel_rfl
def pt(w:Y)(x:aa)(t:TypeId):∀j u,[x][j]?=H u->aO (cF w<|ar #[x] t) (((R (z<|G w) 0):Addr).add j)=H u:=by
 intro j u a;rw[du];simp_all
structure Gd(w w':Y)(db nb sb:M)(mv:aa)(room reads oC:Z)(m:fi)(n:M)(xs:iC)(mv':aa):Prop where
 iq:oE w' db nb sb mv' room reads oC
 now:gI w' nb m
 steps:w'.ownsRow 0 284 1 mv' n xs
 aw:I (λk=>k=db\/k=nb\/ct mv=H k) w w'
 own:ct mv'=ct mv\/∃g,ct mv'=H g/\z (G w)<=g
def Fa(ax:fi)(C:cw Mv)(h:oE f b c g d m K S)(Q:gI f c ax)(hl:Xu f u C)(hr:y C<=1000000000000)(L:f.ownsRow 0 284 1 d l x)(hn:l<=1000000000000):cD bz 211 #[ay b,u] f λt w'=>t=aL (dw #[])/\∃av,Gd f w' b c g d m K S (sa ax C) (l+1) (x++[u]) av:=by
 obtain⟨i0,an,ao,aq,au⟩:=cH Tu;have HS:=U<|Ig ax C Q hl hr;obtain⟨B,v,rfl⟩:=bM hl;have X:=cellAt h 0 rfl;have w:b≠c:=Q.ne X;have F:ct d≠H b:=xJ L h (by decide);have A:ct d≠H c:=by intro t;obtain⟨q,p⟩:=fR L t;obtain⟨O,N,E,_⟩:=Q;rw[E]at p;cases p
 have n:∀i q k,gI i c (sa ax C)->f.grownBy i (H c)->k.ownsRow 0 284 1 q (l+1) (x++[J B (y C) v])->eL (cF i<|ar #[J B (y C) v] 284) k d q->aO k (R b 2)=H d/\k.frozen? (R b 2)=aY/\Gd f (cA k (R b 2) q) b c g d m K S (sa ax C) (l+1) (x++[J B (y C) v]) q:=by intro i q k o e N p;have ac:i.heap[b]?=f.heap[b]?:=e.block b (am h) (by simpa using w);have E:b<z (G i):=ag (am h) e.size;have al:(cF i<|ar #[J B (y C) v] 284).heap[b]?=f.heap[b]?:=(Below.heap_alloc i _ b E).trans ac;have ad:k.heap[b]?=f.heap[b]?:=(p.grown.block b (by simp;omega)<|λt=>F t.symm).trans al;have P:oE k b c g d m K S:=ad.trans h;have O:ct q≠H b:=xJ N P (by decide);refine⟨by rw[bL P];rfl,dE P,⟨?_,?_,?_,?_,?_⟩⟩;unfold oE;rw[aT P];rfl;exact((o.alloc _).kept p.grown<|λt=>A t.symm).kept (de k b 2 q) (by grind);exact N.kept (de k b 2 q)<|.inr O;refine((I.dJ e<|by grind).alloc<|ar #[J B (y C) v] 284).trans (T:=λk=>ct d=H k) (I.dJ p.grown<|λk t=>.inl t) (λx t=>.inl<|.inr<|.inr t)|>.setCell b 2 q (.inl<|.inl rfl);rcases p.ur with t|⟨bd,t,hg⟩;exact .inl t;exact .inr ⟨bd,t,by have:=e.size;simp at hg;omega⟩
 obtain⟨HG,HO,V⟩:=dA n (λi(e:f.grownBy i (H c))=>(L.kept e<|.inr A).alloc<|ar #[J B (y C) v] 284)<|λi(e:f.grownBy i (H c))=>(cR (w:=f) (a:=(R b 2))<|e.block b (am h)<|by simpa using w).trans (show aO f (R b 2)=H d by rw[bL h];rfl);obtain⟨xm,cm,rfl⟩:=aA L;clear h Q hl L n F A w;go_in
 go_wp2_with(first
  |(go_at_call 173;refine HS.mono ?_;rintro t i⟨rfl,o,e⟩;have ba:=V i e;have W:=U o;have D:=U e;clear o e)
  |(at_builtin;refine bO _ rfl (.tmp 14) (.tmp 16) 79 rfl 0 284 i0 aD 1 24 underlying79 an ao aq au rfl (by decide) _ l x rfl (HO i D) (R (z (G i)) 0) 1 1 [.slice B (y C) v] rfl rfl (pt _ _ _) (by simp[Value.oneCell']) (by omega) (by omega) (bj _) ?_;intro v2 k j s;obtain⟨bb,bc,r⟩:=HG i v2 k W D j s;obtain⟨x2,c2,rfl⟩:=aA j;have HF:=U r;clear j s r))
 go_end0;exact⟨rfl,_,HF⟩
structure df where
 name:ab
 pS:M
 data:aa
 bytes:eO
 safe:Z
def df.nm(f:df):ab×aa:=(f.name,pm<|H f.pS)
structure DK where
 nb:M
 sb:M
 mv:aa
 reads:Z
 oC:Z
 files:cw df
 sm:fi
 eJ:cw (aa×cw Mv)
variable{j:DK}
def yn(w:Y)(f:df):Prop:=w.heap[f.pS]?=H (ar #[f.data,ap f.safe] 138 (0,0))/\eP w 0 f.data f.bytes/\kE f.bytes
def tG(w:Y)(x:aa×cw Mv):Prop:=Xu w x.1 x.2/\y x.2<=2/\∀k,ct x.1=H k->∃a b,w.heap[k]?=H (ar a 331 b)
def nk(f g:df):Prop:=f.pS≠g.pS/\∀k,ct f.data=H k->ct g.data≠H k
def nk.symm{f g:df}(h:nk f g):nk g f:=⟨λe=>h.1 e.symm,λk e a=>h.2 k a e⟩
structure cQ(w:Y)(db:M)(K:DK):Prop where
 iq:oE w db K.nb K.sb K.mv 1099511627776 K.reads K.oC
 now:gI w K.nb (K.files.map df.nm)
 safe:gI w K.sb K.sm
 ne:K.nb≠K.sb
 steps:w.ownsRow 0 284 1 K.mv (y K.eJ) (K.eJ.map (·.1))
 each:∀x∈K.eJ,tG w x
 files:∀f∈K.files,yn w f
 apart:K.files.Pairwise nk
def DK.aU(a:M)(K:DK)(k:M):Prop:=k=a\/k=K.nb\/k=K.sb\/ct K.mv=H k\/(∃x∈K.eJ,ct x.1=H k)\/∃f∈K.files,f.pS=k\/ct f.data=H k
def yn.aw{S:fA}{w w':Y}{f:df}(h:yn w f)(a:I S w w')(c:¬S f.pS)(d:∀k,ct f.data=H k->¬S k):yn w' f:=⟨(a.block _ (am h.1) c).trans h.1,a.own h.2.1 d,h.2.2⟩
def tG.aw{S:fA}{w w':Y}{x:aa×cw Mv}(n:tG w x)(e:I S w w')(c:∀k,ct x.1=H k->¬S k):tG w' x:=by
 obtain⟨j,l,m⟩:=n;refine⟨e.row j<|λk g=>⟨c k g,?_⟩,l,λk g=>?_⟩;grind
 obtain⟨a,h,d⟩:=m k g;exact⟨a,h,(e.block k (am d)<|c k g).trans d⟩
def gI.aw{S:fA}{w w':Y}{b:M}{m:fi}(j:gI w b m)(h:I S w w')(e:¬S b):gI w' b m:=by
 obtain⟨d,c,a,g⟩:=j;exact⟨d,c,(h.block b (am a) e).trans a,g⟩
def gI.tag{m:fi}(h:gI a b m){d:M×M}(j:a.heap[g]?=H (ar V c d)):g≠b:=by
 obtain⟨f,e,i,_⟩:=h;grind
theorem lL{d:Array aa}{e f:M×M}(h:a.heap[b]?=H (ar V g e))(i:a.heap[c]?=H (ar d l f))(j:g≠l):b≠c:=by
 grind
def cQ.lt(h:cQ a c j):∀k,j.aU c k->k<z (G a):=by
 rintro k(rfl|rfl|rfl|e|⟨x,i,e⟩|⟨f,d,rfl|e⟩);exact am h.iq;exact h.now.lt;exact h.safe.lt;exact(aG h.steps k e).2;obtain⟨_,_,g⟩:=(h.each x i).2.2 k e;exact am g;exact am (h.files f d).1;exact(aG (h.files f d).2.1 k e).2
def cQ.aw{S:fA}{w w':Y}(h:cQ w c j)(d:I S w w')(a:∀k,j.aU c k->¬S k):cQ w' c j where
 iq:=(d.block c (am h.iq)<|a _<|.inl rfl).trans h.iq
 now:=h.now.aw d<|a _<|.inr<|.inl rfl
 safe:=h.safe.aw d<|a _<|.inr<|.inr<|.inl rfl
 ne:=h.ne
 steps:=d.own h.steps<|λ_ e=>a _<|.inr<|.inr<|.inr<|.inl e
 each x hx:=(h.each x hx).aw d<|λ_ e=>a _<|.inr<|.inr<|.inr<|.inr<|.inl ⟨x,hx,e⟩
 files f hf:=(h.files f hf).aw d (a _<|.inr<|.inr<|.inr<|.inr<|.inr ⟨f,hf,.inl rfl⟩)<|λ_ e=>a _<|.inr<|.inr<|.inr<|.inr<|.inr ⟨f,hf,.inr e⟩
 apart:=h.apart
def cQ.alloc{w:Y}(h:cQ w c j)(o:Obj):cQ (cF w o) c j:=h.aw ((I.refl az w).alloc o)<|λ_ _=>id
def cQ.named{K:DK}{A:cw Mv}{m:cw df}(k:cQ a b K)(j:Gd a f b K.nb K.sb K.mv 1099511627776 K.reads K.oC (m.map df.nm) (y K.eJ+1) (K.eJ.map (·.1)++[d]) u)(C:tG a (d,A))(q:∀r∈m,yn a r)(w:m.Pairwise nk):cQ f b {K with mv:=u,files:=m,eJ:=K.eJ++[(d,A)]}:=by
 have l:∀{n t:M}{g:Array aa}{o:M×M},a.heap[n]?=H (ar g t o)->t≠81->t≠284->¬(n=b\/n=K.nb\/ct K.mv=H n):=by rintro n t g o s v B(e|e|e);exact lL s k.iq v e;exact k.now.tag s e;obtain⟨c,p⟩:=fR k.steps e;grind
 have i:∀x,tG a x->tG f x:=λx h=>h.aw j.aw (λn e=>by obtain⟨c,o,g⟩:=h.2.2 n e;grind);refine⟨j.iq,j.now,k.safe.aw j.aw ?_,k.ne,?_,?_,?_,w⟩;rintro(e|e|e);exact k.safe.tag k.iq e.symm;exact k.ne e.symm;obtain⟨c,p⟩:=fR k.steps e;exact k.safe.tag p rfl;have:=j.steps;grind
 intro x h;rcases aE.1 h with h|h;exact i x<|k.each x h;grind
 intro r g;refine(q r g).aw j.aw (l (q r g).1 (by decide)<|by decide)<|λn e=>?_;obtain⟨c,p⟩:=fR (q r g).2.1 e;grind
def Gd.aU{K:DK}{s:cw Mv}{i:cw df}{t:fi}(m:Gd a C c K.nb K.sb K.mv 1099511627776 K.reads K.oC t g x u)(o:l<=z (G a))(r:∀k,ct d=H k->l<=k)(p:∀f∈i,∀k,(f.pS=k\/ct f.data=H k)->K.aU c k\/l<=k):∀k,({K with mv:=u,files:=i,eJ:=K.eJ++[(d,s)]}:DK).aU c k->K.aU c k\/l<=k:=by
 rintro k(rfl|rfl|rfl|j|⟨v,e,j⟩|⟨f,n,j⟩);exact .inl<|.inl rfl;exact .inl<|.inr<|.inl rfl;exact .inl<|.inr<|.inr<|.inl rfl;rcases m.own with h|⟨w,h,q⟩;exact .inl<|.inr<|.inr<|.inr<|.inl<|h.symm.trans j;grind
 rcases aE.1 e with e|e;exact .inl<|.inr<|.inr<|.inr<|.inr<|.inl ⟨v,e,j⟩;grind
 grind
def Kc{m:fi}(h:m.get W=none)(v:aa):m.put W v=m++[(W,v)]:=by
 induction m with
 |nil=>rfl
 |cons p r b=>
  by_cases a:p.1=W
  .simp[fi.get,a]at h
  .simp[fi.get,a]at h;simp[fi.put,a,b h]
structure qI(w w':Y)(db:M)(K K':DK):Prop where
 ok:cQ w' db K'
 aw:I (K.aU db) w w'
 aU:∀k,K'.aU db k->K.aU db k\/z (G w)<=k
def Fb(m:fi)(x:Mv):sa m [x]=Mt m x:=rfl
def Dg{K:DK}(c:ab)(h:cQ a b K)(s:fi.get (K.files.map df.nm) c=none)(N:y K.eJ<=1000000000000):cD bz 150 #[ay b,aj c] a λe p=>e=aL .nilIface/\∃i,qI a p b K i/\i.files=K.files++[⟨c,z<|G a,aD,[],0⟩]/\y i.eJ=y K.eJ+1:=by
 obtain⟨T,L,u,_,_⟩:=cH uj;have x:=uc underlying78 underlying9 L u h.now c;rw[s]at x;simp only[uR]at x;have F:=cellAt h.iq 0 rfl;have B:=U<|yO h.iq
 have g:∃W:Y,W=cF (cF a<|ar #[aD,ap 0] 138) (ar #[aj c,ay<|z<|G a] 331)/\cD bz 211 #[ay b,bB (z (G a)+1) 0 1 1] W λe p=>e=aL (dw #[])/\∃i,qI a p b K i/\i.files=K.files++[⟨c,z<|G a,aD,[],0⟩]/\y i.eJ=y K.eJ+1:=by
  refine⟨_,rfl,?_⟩;have m:=(h.alloc<|ar #[aD,ap 0] 138).alloc<|ar #[aj c,ay<|z<|G a] 331;have k:(cF a<|ar #[aD,ap 0] 138).heap[z<|G a]?=H (ar #[aD,ap 0] 138 (0,0)):=jl _ _;have f:=(Below.heap_alloc (cF a<|ar #[aD,ap 0] 138) (ar #[aj c,ay<|z<|G a] 331) (z<|G a)<|by simp).trans k;have t:(cF (cF a<|ar #[aD,ap 0] 138)<|ar #[aj c,ay<|z<|G a] 331).heap[z (G a)+1]?=H (ar #[aj c,ay<|z<|G a] 331 (0,0)):=by
   have:=jl (cF a<|ar #[aD,ap 0] 138)<|ar #[aj c,ay<|z<|G a] 331;simp_all
  generalize r:(cF (cF a<|ar #[aD,ap 0] 138)<|ar #[aj c,ay<|z<|G a] 331)=W at*;have l:∀S,I S a W:=λS=>by rw[<-r];exact(cK S a).alloc _
  have n:tG W (bB (z (G a)+1) 0 1 1,[(c,H<|z<|G a)]):=by
   refine⟨show Row _ _ _ _ _ from⟨rfl,.inr ⟨z (G a)+1,0,1,rfl,ai _,λE Q D=>?_⟩⟩,by simp,λO e=>?_⟩
   .rw[dp,bL t];simpa[rL,yF,pm]using D
   .cases e;grind
  apply(Fa (K.files.map df.nm) [(c,H<|z<|G a)] m.iq m.now n.1 (by simp) m.steps N).mono;rintro e p⟨rfl,o,q⟩;refine⟨rfl,{K with mv:=o,files:=K.files++[df.mk c (z<|G a) aD [] 0],eJ:=K.eJ++[(bB (z (G a)+1) 0 1 1,[(c,H<|z<|G a)])]},?_,rfl,by simp⟩;have j:Gd W p b K.nb K.sb K.mv 1099511627776 K.reads K.oC ((K.files++[df.mk c (z<|G a) aD [] 0]).map df.nm) (y K.eJ+1) (K.eJ.map (·.1)++[bB (z (G a)+1) 0 1 1]) o:=by
   rw[Fb]at q;simp only[Mt,Kc s]at q;simpa[df.nm]using q
  refine⟨m.named j n ?_ ?_,?_,?_⟩
  .intro v d;rcases aE.1 d with d|d
   .exact m.files v d
   .obtain rfl:v=⟨c,z<|G a,aD,[],0⟩:=by simpa using d
    exact⟨f,eP.nil _ _,by intro V D;simp at D⟩
  .refine bR.2 ⟨h.apart,by simp,λQ D S E=>?_⟩;obtain rfl:S=⟨c,z<|G a,aD,[],0⟩:=by simpa using E
   refine⟨λe=>?_,λO _ e=>by cases e⟩;have:=am (h.files Q D).1;grind
  .exact(l _).trans j.aw (by
    rintro V(rfl|rfl|e)
    .exact .inl<|.inl rfl
    .exact .inl<|.inr<|.inl rfl
    .exact .inl (.inr (.inr (.inr (.inl e)))))
  .refine j.aU (l az).size (λO e=>by cases e;grind)<|λv d O e=>?_;rcases aE.1 d with d|d
   .exact .inl<|.inr<|.inr<|.inr<|.inr<|.inr ⟨v,d,e⟩
   .obtain rfl:v=⟨c,z<|G a,aD,[],0⟩:=by simpa using d
    rcases e with e|e
    .grind
    .cases e
 obtain⟨W,r,g⟩:=g;have C:=U g;clear g h s;go_in
 go_wp2_with(first
  |(go_at_call 172;refine B.mono ?_;rintro e P⟨rfl,rfl⟩)
  |(go_at_call 211;subst r;refine zu (by simpa using ae C) ?_;rintro e P⟨rfl,w⟩;have A:=U w;clear w))
 go_ret;exact⟨rfl,A⟩
def sd:cw df->ab->Option df
 |[],_=>none
 |f::r,n=>if f.name=n then H f else sd r n
def pR:cw df->ab->cw df
 |[],_=>[]
 |f::r,n=>if f.name=n then r else f::pR r n
def rh:cw df->df->cw df
 |[],f=>[f]
 |g::r,f=>if g.name=f.name then f::r else g::rh r f
def Np(a:cw df)(n:ab):(pR a n).map df.nm=fi.del (a.map df.nm) n:=by
 induction a with
 |nil=>rfl
 |cons f r b=>by_cases h:f.name=n<;>simp[pR,fi.del,df.nm,h,<-b]
def LX(a:cw df)(f:df):(rh a f).map df.nm=fi.put (a.map df.nm) f.name (pm<|H f.pS):=by
 induction a with
 |nil=>rfl
 |cons g r b=>by_cases h:g.name=f.name<;>simp[rh,fi.put,df.nm,h,<-b]
theorem kI{a:cw df}{f:df}(h:sd a W=H f):f.name=W/\f∈a/\fi.get (a.map df.nm) W=H (pm<|H f.pS):=by
 induction a with
 |nil=>cases h
 |cons i r g=>
  by_cases e:i.name=W
  .simp[sd,e]at h;subst h;exact⟨e,by simp,by simp[fi.get,df.nm,e]⟩
  .simp[sd,e]at h;obtain⟨b,c,d⟩:=g h;exact⟨b,by simp[c],by simpa[fi.get,df.nm,e]using d⟩
def BY{a:cw df}(h:sd a W=none):fi.get (a.map df.nm) W=none:=by
 induction a with
 |nil=>rfl
 |cons g r b=>
  by_cases e:g.name=W
  .simp[sd,e]at h
  .simp[sd,e]at h;simpa[fi.get,df.nm,e]using b h
theorem rR(a:cw df)(n:ab):(pR a n).Sublist a:=by
 induction a with
 |nil=>exact nB _
 |cons f r b=>
  by_cases h:f.name=n
  .simp[pR,h]
  .simpa[pR,h]using b
def FM{a:cw df}{f:df}(d:a.Pairwise nk)(h:sd a W=H f):∀g∈pR a W,nk f g:=by
 induction a with
 |nil=>cases h
 |cons g r j=>
  obtain⟨c,i⟩:=bC.1 d;by_cases e:g.name=W
  .simp[sd,e]at h;subst h;simpa[pR,e]using c
  .simp[sd,e]at h;intro x b;simp[pR,e]at b;rcases b with rfl|b
   .exact(c f (kI h).2.1).symm
   grind
def AD{a:cw df}{f x:df}(h:x∈rh a f):x=f\/x∈pR a f.name:=by
 induction a with
 |nil=>left;simpa[rh]using h
 |cons g r b=>
  by_cases e:g.name=f.name
  .simp[rh,e]at h;simpa[pR,e]using h
  .simp[rh,e]at h;simp[pR,e];grind
def EH{a:cw df}{f:df}(c:(pR a f.name).Pairwise nk)(h:∀g∈pR a f.name,nk f g):(rh a f).Pairwise nk:=by
 induction a with
 |nil=>simp[rh]
 |cons g r i=>
  by_cases e:g.name=f.name
  .simp only[pR,e,ir]at c h;simp only[rh,e,ir];simp_all
  .simp only[pR,e,jk]at c h;simp only[rh,e,jk];obtain⟨j,d⟩:=bC.1 c;refine bC.2 ⟨λx b=>?_,i d<|λx b=>h x<|by simp[b]⟩;rcases AD b with rfl|b
   .exact(h g<|by simp).symm
   grind
def TY{b:cw df}{f:df}(a:f.name≠W):pR (rh b f) W=rh (pR b W) f:=by
 induction b with
 |nil=>simp[pR,rh,a]
 |cons g r d=>
  by_cases e:g.name=f.name
  .have:g.name≠W:=by rw[e];exact a
   simp[pR,rh,e,a]
  .by_cases c:g.name=W
   .have:¬W=f.name:=λh=>a h.symm;simp[pR,rh,c,this]
   .simp[pR,rh,e,c,d]
def IB{K:DK}{x:cw Mv}{e:cw df}(A:cQ a b K)(l:∀S,I S a f)(k:Gd f C b K.nb K.sb K.mv 1099511627776 K.reads K.oC (e.map df.nm) (y K.eJ+1) (K.eJ.map (·.1)++[d]) u)(v:tG f (d,x))(t:∀w,ct d=H w->z (G a)<=w)(n:∀g∈e,∃h∈K.files,g.pS=h.pS/\g.data=h.data/\g.bytes=h.bytes/\g.safe=h.safe)(s:e.Pairwise nk):qI a C b K {K with mv:=u,files:=e,eJ:=K.eJ++[(d,x)]}:=by
 have o:cQ f b K:=A.aw (l az)<|λ_ _=>id;refine⟨o.named k v (λg c=>?_) s,?_,?_⟩;obtain⟨h,m,i,j,q,r⟩:=n g c;have:=o.files h m;unfold yn at*;rw[i,j,q,r];exact this
 .exact(l _).trans k.aw (by
   rintro q(rfl|rfl|p)
   .exact .inl<|.inl rfl
   .exact .inl<|.inr<|.inl rfl
   .exact .inl (.inr (.inr (.inr (.inl p)))))
 refine k.aU (l az).size t<|λg c w p=>.inl ?_;obtain⟨h,m,i,j,_⟩:=n g c;exact .inr<|.inr<|.inr<|.inr<|.inr ⟨h,m,by rw[<-i,<-j];exact p⟩
def OQ(c:ab)(F:df)(h:cQ a b j)(p:sd j.files c=H F)(u:y j.eJ<=1000000000000):cD bz 183 #[ay b,aj c] a λg i=>g=aL .nilIface/\∃d,qI a i b j d/\d.files=pR j.files c/\y d.eJ=y j.eJ+1:=by
 have r:=U<|vB _ c (R F.pS 0) h.iq h.now (kI p).2.2;have f:cD bz 211 #[ay b,bB (z<|G a) 0 1 1] (cF a<|ar #[aj c,fj none] 331) λg i=>g=aL (dw #[])/\∃d,qI a i b j d/\d.files=pR j.files c/\y d.eJ=y j.eJ+1:=by have m:(cF a<|ar #[aj c,fj none] 331).heap[z<|G a]?=H (ar #[aj c,fj none] 331 (0,0)):=jl _ _;have o:∀S,I S a (cF a<|ar #[aj c,fj none] 331):=λS=>(cK S a);generalize cF a (ar #[aj c,fj none] 331)=W at*;have l:cQ W b j:=h.aw (o az)<|λ_ _=>id;(have e:tG W (bB (z<|G a) 0 1 1,[(c,none)]):=by refine⟨show Row _ _ _ _ _ from⟨rfl,.inr ⟨z<|G a,0,1,rfl,ai _,λA B t=>?_⟩⟩,by simp,λx g=>?_⟩;rw[dp,bL m];simpa[rL,yF,pm]using t;cases g;grind);apply(Fa (j.files.map df.nm) [(c,none)] l.iq l.now e.1 (by simp) l.steps u).mono;rintro g i⟨rfl,v,k⟩;rw[Fb]at k;simp only[Mt,<-Np]at k;exact⟨rfl,_,IB h o k e (λx g=>by cases g;grind) (λf a=>⟨f,(rR _ _).subset a,rfl,rfl,rfl,rfl⟩)<|h.apart.sublist<|rR _ _,rfl,by simp⟩
 have s:=U f;clear f h p;go_in
 go_wp2_with(first
  |(go_at_call 170;refine r.mono ?_;rintro g w⟨rfl,rfl⟩)
  |(go_at_call 211;refine zu s ?_;rintro g w⟨rfl,n⟩;have q:=U n;clear n))
 go_ret;exact⟨rfl,q⟩
def OP(c d:ab)(F:df)(h:cQ a b j)(l:sd j.files c=H F)(f:c≠d)(B:y j.eJ<=1000000000000):cD bz 230 #[ay b,aj c,aj d] a λg m=>g=aL .nilIface/\∃e,qI a m b j e/\e.files=rh (pR j.files c) {F with name:=d}/\y e.eJ=y j.eJ+1:=by
 have w:=U<|vB _ c (R F.pS 0) h.iq h.now (kI l).2.2;have k:cD bz 211 #[ay b,bB (z<|G a) 0 2 2] (cF a<|ar #[aj d,ay F.pS,aj c,fj none] 331) λg m=>g=aL (dw #[])/\∃e,qI a m b j e/\e.files=rh (pR j.files c) {F with name:=d}/\y e.eJ=y j.eJ+1:=by have p:(cF a<|ar #[aj d,ay F.pS,aj c,fj none] 331).heap[z<|G a]?=H (ar #[aj d,ay F.pS,aj c,fj none] 331 (0,0)):=jl _ _;have s:∀S,I S a (cF a<|ar #[aj d,ay F.pS,aj c,fj none] 331):=λS=>(cK S a);generalize cF a (ar #[aj d,ay F.pS,aj c,fj none] 331)=W at*;have o:cQ W b j:=h.aw (s az)<|λ_ _=>id;(have i:tG W (bB (z<|G a) 0 2 2,[(d,H F.pS),(c,none)]):=by refine⟨show Row _ _ _ _ _ from⟨rfl,.inr ⟨z<|G a,0,2,rfl,ai _,λK N n=>?_⟩⟩,by simp,λL g=>?_⟩;rw[dp,bL p];simpa[rL,yF,pm]using n;cases g;grind);apply(Fa (j.files.map df.nm) [(d,H F.pS),(c,none)] o.iq o.now i.1 (by simp) o.steps B).mono;rintro g m⟨rfl,C,r⟩;(have A:sa (j.files.map df.nm) [(d,H F.pS),(c,none)]=(rh (pR j.files c) {F with name:=d}).map df.nm:=by rw[<-TY (f:={F with name:=d}) (λg=>f g.symm),Np,LX];rfl);rw[A]at r;refine⟨rfl,_,IB h s r i (λL g=>by cases g;grind) (λE t=>?_) ?_,rfl,by simp⟩;(rcases AD t with rfl|t;exact⟨F,(kI l).2.1,rfl,rfl,rfl,rfl⟩;grind[rR]);refine EH ((h.apart.sublist<|rR _ _).sublist<|rR _ _)<|λK n=>?_;have:=FM h.apart l K<|(rR _ _).subset n;exact this
 have u:(!c.toList==d.toList)=bU:=by simp[wl f]
 have x:=U k;clear k h l f;go_in
 go_wp2_with(first
  |(go_at_call 170;refine w.mono ?_;rintro g D⟨rfl,rfl⟩)
  |(go_at_call 211;refine zu x ?_;rintro g D⟨rfl,q⟩;have v:=U q;clear q))
 go_ret;exact⟨rfl,v⟩
def cQ.Li(h:cQ a b j){k:M}(e:ct j.mv=H k):k≠j.sb/\k≠j.nb/\k≠b:=by
 obtain⟨d,c⟩:=fR h.steps e;exact⟨h.safe.tag c,h.now.tag c,lL c h.iq<|by decide⟩
def cQ.Zi{K:DK}{D:fi}(h:cQ a b K)(i:I (λk=>k=K.sb) a f)(n:gI f K.sb D):qI a (cA f (R b 2) aD) b K {K with mv:=aD,eJ:=[],sm:=D}:=by
 have d:b≠K.sb:=h.safe.tag h.iq;have l:oE f b K.nb K.sb K.mv 1099511627776 K.reads K.oC:=(i.block b (am h.iq) d).trans h.iq;have c:I (λk=>k=b\/k=K.sb) a (cA f (R b 2) aD):=(i.mono<|λx e=>.inl<|.inr e).setCell b 2 _<|.inl<|.inl rfl;refine⟨⟨?_,?_,?_,h.ne,bK _ _ _ _,by simp,?_,h.apart⟩,?_,?_⟩;unfold oE;rw[aT l];rfl;refine h.now.aw c ?_;rintro(e|e);exact h.now.tag h.iq e.symm;exact h.ne e;exact n.kept (de f b 2 _) (by grind);intro o m;have hF:=h.files o m;refine hF.aw c ?_ ?_;rintro(e|e);exact lL hF.1 h.iq (by decide) e;exact h.safe.tag hF.1 e;intro k e;obtain⟨j,g⟩:=fR hF.2.1 e;rintro(e|e);exact lL g h.iq (by decide) e;exact h.safe.tag g e
 .exact c.mono (by
   rintro x(rfl|rfl)
   .exact .inl<|.inl rfl
   .exact .inl (.inr (.inr (.inl rfl))))
 rintro k(e|e|e|e|⟨x,g,_⟩|e);exact .inl<|.inl e;exact .inl<|.inr<|.inl e;exact .inl<|.inr<|.inr<|.inl e;cases e;cases g;exact .inl<|.inr<|.inr<|.inr<|.inr<|.inr e
def CI(h:cQ a b j)(hn:y j.eJ<=1000000000000):cD bz 104 #[ay b] a λx r=>x=aL .nilIface/\∃C,qI a r b j C/\C.files=j.files/\C.eJ=[]:=by
 have N:=U<|yO h.iq;have F:b≠j.sb:=h.safe.tag h.iq;have k:∀wr,I (λs=>s=j.sb) a wr->aO wr (R b 1)=H (.map<|H j.sb)/\aO wr (R b 2)=H j.mv/\wr.frozen? (R b 2)=aY:=by intro wr e;have i:oE wr b j.nb j.sb j.mv 1099511627776 j.reads j.oC:=(e.block b (am h.iq) F).trans h.iq;exact⟨by rw[bL i];rfl,by rw[bL i];rfl,dE i⟩
 have t:=U k;have ad:=(k a<|I.refl _ _).2.1;have m:=U<|λ(r:Y)(D:fi)(e:I (λs=>s=j.sb) a r)(o:gI r j.sb D)=>h.Zi e o;have l:∀(wr:Y)(n:M)(d:n<y j.eJ)(D:fi),I (λs=>s=j.sb) a wr->gI wr j.sb D->cD bz 173 #[.map<|H j.sb,j.eJ[n].1] wr λx r=>x=aL (dw #[])/\gI r j.sb (sa D j.eJ[n].2)/\wr.grownBy r (H j.sb):=by intro wr n d D e o;have i:=(h.each j.eJ[n]<|ak d).aw e (λs x v=>by obtain⟨E,w,p⟩:=(h.each j.eJ[n]<|ak d).2.2 s x;exact h.safe.tag p v);exact Ig D j.eJ[n].2 o i.1 (by have:=i.2.1;omega)
 obtain⟨g,c,f,u⟩:=gH l h.steps h.safe<|λs=>h.Li (k:=s);clear k l h;generalize an:j.mv=mv at*;rcases c.2 with⟨rfl,X⟩|⟨au,W,E,rfl,_,Q,aq,_,k,q⟩
 .have i:j.eJ=[]:=aP X;clear g c u;go_in
  go_wp2_with(first
   |(go_at_call 172;refine N.mono ?_;rintro x L⟨rfl,hw⟩;subst L))
  go_loopw [15] (λS wr=>S=ap 0/\wr=a) (λ_ _=>0)
  case atStart=>grind
  case round=>
   obtain⟨rfl,rfl⟩:=hrel;have K:=(t wr<|I.refl _ _).2.2;go_wp2;go_ret;exact⟨rfl,_,m wr j.sm (I.refl _ _) f,rfl,rfl⟩
 .have i:∀n(d:n<y j.eJ)wr,I (λs=>s=j.sb) a wr->aO wr (R au n)=H j.eJ[n].1:=by
   intro n d wr e;refine e.cell ?_ (u au rfl).1<|am Q;have:=World.ownsRow.cellAt c n (by omega);rw[this];simp[d]
  have p:=U i;clear i k q Q c;go_in
  go_wp2_with(first
   |(go_at_call 172;refine N.mono ?_;rintro x L⟨rfl,hw⟩;subst L))
  go_loopw [15] (λS wr=>∃n:M,n<=y j.eJ/\S=ap n/\I (λs=>s=j.sb) a wr/\∃D,gI wr j.sb D) (λS _=>y j.eJ-(intOf S).toNat)
  case atStart=>exact⟨0,bj _,rfl,I.refl _ _,j.sm,f⟩
  case round=>
   obtain⟨n,ao,rfl,e,D,o⟩:=hrel;obtain⟨ac,P,K⟩:=t wr e;have O:=U e;have T:=U o;by_cases d:n<y j.eJ
   .have al:=p n d wr e;have V:=U<|g wr n d D e o;clear e o;go_wp2_with(first
     |(go_at_call 173;refine V.mono ?_;rintro x w2⟨rfl,w,v⟩;have B:=U w;have A:=U v;clear w v))
    go_roundw;case rel=>exact⟨n+1,by omega,by go_num,O.trans (fm A)<|λa x=>.inl x,_,B⟩
    case measure=>simp[intOf];omega
   .clear e o;have v:n=y j.eJ:=by omega
    subst v;go_wp2;go_ret;exact⟨rfl,_,m wr D O T,rfl,rfl⟩
def Vm{m:fi}(h:fi.get m W=H d):fi.put m W d=m:=by
 induction m with
 |nil=>cases h
 |cons p r a=>
  by_cases e:p.1=W
  .simp[fi.get,e]at h;simp[fi.put,e,<-h];rw[<-e]
  .simp[fi.get,e]at h;simp[fi.put,e,a h]
def cQ.F1{K:DK}{F F':df}(m:cQ a b K)(A:sd K.files F'.name=H F)(v:F'.pS=F.pS)(p:I (λk=>k=F.pS\/ct F.data=H k) a f)(hF:yn f F')(B:∀k,ct F'.data=H k->ct F.data=H k\/z (G a)<=k):qI a f b K {K with files:=rh K.files F'}:=by
 obtain⟨_,c,r⟩:=kI A;have g:=m.files F c;have q:∀{k w:M}{u:Array aa}{s:M×M},a.heap[k]?=H (ar u w s)->w≠138->w≠5->¬(k=F.pS\/ct F.data=H k):=by rintro k w u s D C E(e|e);exact lL D g.1 C e;obtain⟨h,n⟩:=fR g.2.1 e;grind
 have d:∀{w:M}{C:fi},gI a w C->¬(w=F.pS\/ct F.data=H w):=by rintro w C u(e|e);exact u.tag g.1 e.symm;obtain⟨h,n⟩:=fR g.2.1 e;exact u.tag n rfl
 have j:∀t∈pR K.files F'.name,t∈K.files:=λt i=>(rR _ _).subset i;have l:=FM m.apart A;refine⟨⟨?_,?_,m.safe.aw p<|d m.safe,m.ne,?_,?_,?_,?_⟩,?_,?_⟩;exact(p.block b (am m.iq)<|q m.iq (by decide)<|by decide).trans m.iq;show gI f K.nb ((rh K.files F').map df.nm);rw[LX,v,Vm r];exact m.now.aw p<|d m.now;refine p.own m.steps<|λk e=>?_;obtain⟨h,n⟩:=fR m.steps e;grind
 intro x o;refine(m.each x o).aw p<|λk e=>?_;obtain⟨h,s,n⟩:=(m.each x o).2.2 k e;grind
 intro x o;rcases AD o with rfl|o;exact hF;have u:=m.files x<|j x o;refine u.aw p ?_ ?_;rintro(e|e);exact(l x o).1 e.symm;obtain⟨h,n⟩:=fR g.2.1 e;exact lL u.1 n (by decide) rfl;intro k w;rintro(e|e);obtain⟨h,n⟩:=fR u.2.1 w;exact lL n g.1 (by decide) e;exact(l x o).2 k e w;refine EH (m.apart.sublist<|rR _ _)<|λt i=>⟨by rw[v];exact(l t i).1,λk e u=>?_⟩;rcases B k e with w|w;exact(l t i).2 k w u;have:=(aG (m.files t<|j t i).2.1 k u).2;omega
 .exact p.mono (by
   rintro x(rfl|e)
   .exact .inl<|.inr<|.inr<|.inr<|.inr<|.inr ⟨F,c,.inl rfl⟩
   .exact .inl (.inr (.inr (.inr (.inr (.inr ⟨F,c,.inr e⟩))))))
 rintro k(e|e|e|e|e|⟨w,u,e⟩);exact .inl<|.inl e;exact .inl<|.inr<|.inl e;exact .inl<|.inr<|.inr<|.inl e;exact .inl<|.inr<|.inr<|.inr<|.inl e;exact .inl<|.inr<|.inr<|.inr<|.inr<|.inl e;rcases AD u with rfl|u;rcases e with e|e;exact .inl<|.inr<|.inr<|.inr<|.inr<|.inr ⟨F,c,.inl<|v.symm.trans e⟩;rcases B k e with e|e;exact .inl<|.inr<|.inr<|.inr<|.inr<|.inr ⟨F,c,.inr e⟩;exact .inr e;exact .inl<|.inr<|.inr<|.inr<|.inr<|.inr ⟨w,j w u,e⟩
def QC(c:ab)(F:df)(m:cQ a b j)(i:sd j.files c=H F)(n:y F.bytes<=140737488351232):cD bz 102 #[ay b,aj c] a λl k=>l=aL .nilIface/\∃g,qI a k b j g/\g.files=rh j.files {F with safe:=y F.bytes}/\g.eJ=j.eJ:=by
 obtain⟨h,e,d⟩:=kI i;have hF:=m.files F e;have f:ct F.data≠H F.pS:=xJ hF.2.1 hF.1 (by decide);apply(UK _ c F.pS F.bytes F.safe m.iq m.now d ⟨F.data,hF.1,eP.bytes hF.2.1,f⟩ n).mono;rintro l k⟨rfl,_,rfl⟩;refine⟨rfl,_,m.F1 (F:=F) (F':={F with safe:=y F.bytes}) (by rw[show({F with safe:=y F.bytes}:df).name=F.name from rfl,h];exact i) rfl ((I.refl _ a).setCell F.pS 1 _<|.inl<|.inl rfl) ⟨?_,?_,hF.2.2⟩<|λo l=>.inl l,rfl,rfl⟩;show(cA a (R F.pS 1)<|ap<|y F.bytes).heap[F.pS]?=_;rw[aT hF.1];rfl;exact World.ownsRow.kept hF.2.1 (de a F.pS 1 _)<|.inr f
def XL(c:ab)(F:df)(h:cQ a b j)(f:sd j.files c=H F)(i:y F.bytes<=140737488351232):cD bz 178 #[ay b,aj c] a λl k=>l=aL (dw #[ap<|y F.bytes,.nilIface])/\k=a:=by
 obtain⟨g,e,d⟩:=kI f;have hF:=h.files F e;exact UR _ c F.pS F.bytes F.safe h.iq h.now d ⟨F.data,hF.1,eP.bytes hF.2.1,xJ hF.2.1 hF.1<|by decide⟩ i
def uB(a:cw df):M:=(a.map (·.bytes.length)).sum
def qE.left_eq{m left:fi}(l:qE a b c m left):a.rangeLeft b c=y left:=by
 obtain⟨k,d,e,seen,j,g,_,_,h,_,_,_,i⟩:=l;simp only[World.rangeLeft,g,h];have:=bX y i;grind
def EX{L:cw df}{b a:fi}{p:ab×aa}(h:L.map df.nm=b++p::a):∃A f C,L=A++f::C/\b=A.map df.nm/\p=f.nm/\a=C.map df.nm:=by
 obtain⟨A,D,rfl,d,c⟩:=iA.1 h;obtain⟨f,C,rfl,e,g⟩:=nH.1 c;grind
def eP.shape(h:eP a b d p):∃x c,d=J x (y p) c:=aA h
def IN{db:M}{K:DK}(n:ab)(F:df)(bm e A:M)(f:eO){w:Y}(h:cQ w db K)(hg:sd K.files n=H F)(ba:uB K.files+y f<=1099511627776)(au:kE f)(C:∀bg X,(f.map<|Value.int .u8)[bg]?=H X->aO w (R bm<|e+bg)=H X)(B:bm<z (G w))(bn:y F.bytes<=1099511627776):cD bz 151 #[ay db,aj n,bB bm e (y f) A] w λW w'=>W=aL .nilIface/\∃o,qI w w' db K o/\(∃bh,o.files=rh K.files {F with data:=bh,bytes:=F.bytes++f})/\o.eJ=K.eJ:=by
 obtain⟨i0,hi,bc,bd,bf⟩:=cH qw;obtain⟨ax,O,L⟩:=kI hg;subst ax;have HF:=U<|vB _ F.name (R F.pS 0) h.iq h.now L;have bo:=cellAt h.iq 0 rfl;obtain⟨HD,v,HB⟩:=dA (λ(wr:Y)(r:I az w wr)=>h.aw r<|λ_ _=>id) h.now<|λ(wr:Y)(r:I az w wr)bg X(hj:(f.map<|Value.int .u8)[bg]?=H X)=>r.cell (C bg X hj) id B;clear h C;go_in
 go_wp2_with(first
  |(go_at_call 170;refine HF.mono ?_;rintro W w1⟨rfl,hw⟩;subst w1)
  |(at_range;refine uz _ rfl _ 78 rfl 9 134 underlying78 K.nb _ rfl v ?_;intro w0 k E bt;have ao:=U k;have u:=U E;clear k E))
 go_frame
 go_loopw [9] (λX wr=>∃(bk:cw df)(a:M),(∀ac∈bk,ac∈K.files)/\X=ap a/\a+uB bk=uB K.files/\qE wr K.nb (z<|G w) (K.files.map df.nm) (bk.map df.nm)/\I az w wr) (λ_ wr=>wr.rangeLeft K.nb<|z<|G w)
 case atStart=>exact⟨K.files,0,λ_ h=>h,rfl,by simp,ao,I.dJ u<|by simp⟩
 case round=>
  obtain⟨bk,a,hL,rfl,l,N,r⟩:=hrel;obtain⟨t,x,bi,HL⟩:=gH N r l hL;clear N r hL;go_wp2_with(first
   |(at_next;refine vS _ rfl _ rfl K.nb (z (G w)) _ _ rfl t ?_ ?_))
  .intro av;obtain rfl:bk=[]:=by simpa using av
   have bb:a=uB K.files:=by simpa[uB]using l
   have g:=HD wr x;have hF:=g.files F O;have bp:=cellAt g.iq 3 rfl;have D:=cellAt hF.1 0 rfl;have P:ct F.data≠H F.pS:=xJ hF.2.1 hF.1 (by decide);have c:∀i j,j.ownsRow 0 5 1 i (y F.bytes+y f) (F.bytes.map (Value.int .u8)++f.map (Value.int .u8))->eL wr j F.data i->aO j (R F.pS 0)=H F.data/\j.frozen? (R F.pS 0)=aY/\∃o,qI w (cA j (R F.pS 0) i) db K o/\(∃bh,o.files=rh K.files {F with data:=bh,bytes:=F.bytes++f})/\o.eJ=K.eJ:=by
    intro i j V q;have b:j.heap[F.pS]?=H (ar #[F.data,ap F.safe] 138 (0,0)):=(q.grown.block F.pS (am hF.1)<|λW=>P W.symm).trans hF.1;have Q:ct i≠H F.pS:=xJ V b (by decide);refine⟨by rw[bL b];rfl,dE b,_,(HD w<|I.refl _ _).F1 (F:=F) (F':={F with data:=i,bytes:=F.bytes++f}) hg rfl ?_ ⟨?_,?_,hF.2.2.append au⟩ ?_,⟨i,rfl⟩,rfl⟩
    .exact((x.mono (T:=λad=>ad=F.pS\/ct F.data=H ad) cO).trans (I.dJ (S:=λad=>ct F.data=H ad) q.grown<|λad W=>.inl W)<|λbh W=>.inl<|.inr W).setCell F.pS 0 i<|.inl<|.inl rfl
    .show(cA j (R F.pS 0) i).heap[F.pS]?=_;rw[aT b];rfl
    .exact eP.of (World.ownsRow.kept V (de j F.pS 0 i)<|.inr Q) (by simp)<|by simp
    .intro ad W;rcases q.ur with e'|⟨aq,e',bs⟩
     .grind
     .have:aq=ad:=by
       have e2:ct i=H ad:=W;rw[e']at e2;simpa using e2
      exact .inr (by have:=x.size;omega)
   have s:=U c;have HO:=U hF.2.1;obtain⟨bh,bv,p⟩:=eP.shape hF.2.1;have bl:¬((1099511627776-a:Z)<y f):=by omega
   clear c g hF P;generalize F.data=fd at*;subst p;have al:=U<|HB wr x;go_wp2_with(first
    |(at_builtin;go_loud(refine bO _ rfl (.tmp 54) (.tmp 55) 135 rfl 0 5 i0 (.int .u8 0) 1 1 underlying135 hi bc bd bf rfl (by decide) _ (y F.bytes) (F.bytes.map (Value.int .u8)) rfl HO (R bm e) (y f) A (f.map (Value.int .u8)) rfl (by simp) (λbg X hj=>by rw[du];exact al bg X hj) (by intro X hu;simp only[bW]at hu;obtain⟨bu,_,rfl⟩:=hu;rfl) (by omega) (by omega) (bj _) ?_;intro v2 j d m;obtain⟨bq,br,c⟩:=s v2 j d m;obtain⟨x2,c2,rfl⟩:=aA d;have an:=U c;clear d m c)))
   go_ret;exact⟨rfl,an⟩
  .intro bb pk pv V w1 j b i P an;obtain⟨ad,ac,al,rfl,rfl,Q,rfl⟩:=EX j;simp only[df.nm,pm,ji]at Q;obtain⟨rfl,rfl⟩:=Q;have s:ac∈K.files:=HL ac (by simp);have c:I az w w1:=x.trans (fm i) (by grind);have g:=HD w1 c;have hF:=g.files ac s;have D:=cellAt hF.1 0 rfl;obtain⟨bh,bv,p⟩:=eP.shape hF.2.1;rw[p]at D;have av:uB (ad++ac::al)=uB (ad++al)+y ac.bytes:=by simp[uB];omega
   obtain⟨m,d,q⟩:=dA (show(λaq=>aq∈K.files)=(λaq=>aq∈K.files)from rfl) b c;clear j b i P g hF c m;go_wp2;go_roundw;case rel=>exact⟨ad++al,a+y ac.bytes,λaq hg=>HL aq (by grind),by go_num,by omega,by simpa using ae d,q⟩
   case measure=>rw[(ae d).left_eq,(ae t).left_eq];simp
def Bytes.cells{d:eO}(m:Bytes a (bB b c (y d) l) d):∀j u,(d.map<|Value.int .u8)[j]?=H u->aO a (R b<|c+j)=H u:=by
 rcases m with⟨i,_⟩|⟨k,h,e,i,_,n⟩;cases i;grind
def IH{v:aa}{bs:eO}{w:Y}(h:Bytes w v bs)(Q:y bs<=1099511627776)(g:∀q,ct v=H q->q<z (G w)):cD bz 63 #[v] w λP t=>∃s,P=aL s/\eP t (z<|G w) s bs/\Below (z<|G w) w t:=by
 obtain⟨L,E,m,o,p⟩:=cH qw;rcases h.shape with⟨rfl,rfl⟩|⟨A,e,l,rfl,K⟩;(.have D:∀w:Y,(binOp .eql 135 aD aD).run bz w=.ok (aK bU) w:=λ_=>rfl;(go_in);go_wp2;go_ret;exact⟨_,rfl,eP.nil _ _,Below.refl _ _⟩)
 .have C:A<z (G w):=g A rfl;have u:=U h.cells;have i:(cF w<|ar #[] 5).ownsRow (z<|G w) 5 1 (bB (z<|G w) 0 0 0) 0 []:=World.ownsRow_lit w #[] 0 (ai _) (by decide) rfl;have x:=U i;have D:∀(w:Y)a n c,(binOp .eql 135 (J (H a) n c) aD).run bz w=.ok (aK aY) w:=λ_ _ _ _=>rfl;clear h g i;go_in
  go_wp2_with(first
   |(at_builtin;refine bO _ rfl (.tmp 5) (.tmp 6) 135 rfl (z (G w)) 5 L (.int .u8 0) 1 1 underlying135 E m o p rfl (by decide) _ 0 [] rfl x (R A e) (y bs) l (bs.map (Value.int .u8)) rfl (by simp) (λS O F=>by rw[du,ia C];exact u S O F) (by intro O r;simp only[bW]at r;obtain⟨N,_,rfl⟩:=r;rfl) (by omega) (by omega) (by simp) ?_;intro V W b d;have j:=U b;have k:=U d;clear b d))
  go_ret;refine⟨_,rfl,eP.of j (by simp) (by simp),?_⟩;have:=k.below (B:=z<|G w) (by simp) (by rintro q⟨⟩;grind);exact⟨this.os,this.tape,this.output,aC (by simp) this.size,λq b=>(this.block q b).trans<|Below.heap_alloc w _ q b⟩
def cQ.Bf{K:DK}(h:cQ a b K)(r m:Z):qI a (cA (cA a (R b 6)<|ap r) (R b 7)<|ap m) b K {K with reads:=r,oC:=m}:=by
 have c:I (λk=>k=b) a (cA (cA a (R b 6)<|ap r) (R b 7)<|ap m):=(gW b a).setCell b 7 _<|.inl rfl;have g:(cA a (R b 6)<|ap r).heap[b]?=H (ar #[.map<|H K.nb,.map<|H K.sb,K.mv,ap 1099511627776,ap 0,ap 0,ap r,ap K.oC] 81 (0,0)):=by rw[aT h.iq];rfl
 refine⟨⟨?_,h.now.aw c ?_,h.safe.aw c ?_,h.ne,c.own h.steps ?_,?_,?_,h.apart⟩,c.mono<|λx e=>.inl<|.inl e,λk e=>.inl e⟩;unfold oE;rw[aT g];rfl;exactλe=>h.now.tag h.iq e.symm;exactλe=>h.safe.tag h.iq e.symm;exactλk e=>(h.Li e).2.2;intro x i;refine(h.each x i).aw c<|λk e=>?_;obtain⟨d,j,f⟩:=(h.each x i).2.2 k e;exact lL f h.iq (by decide);intro j i;have hF:=h.files j i;refine hF.aw c (lL hF.1 h.iq<|by decide)<|λk e=>?_;obtain⟨d,f⟩:=fR hF.2.1 e;exact lL f h.iq<|by decide
def A8(n:M)(K a:DK):Prop:=a.reads=wrap64 (K.reads+1)/\(a.oC=K.oC\/a.oC=n)
def Qn(o:∃d,qI a f b j d/\d.files=j.files/\d.eJ=j.eJ/\(∀k,d.aU b k->j.aU b k)/\d.reads=m/\d.oC=K)(n:m=wrap64 (j.reads+1))(l:K=j.oC\/K=c):∃d,qI a f b j d/\d.files=j.files/\d.eJ=j.eJ/\(∀k,d.aU b k->j.aU b k)/\A8 c j d:=by
 obtain⟨d,e,g,h,i,rfl,rfl⟩:=o;exact⟨d,e,g,h,i,n,l⟩
def BK(u:ab)(F:df)(r B:M)(h:cQ a b j)(hg:sd j.files u=H F)(hl:y F.bytes<=1099511627776)(X:r<=y F.bytes)(hn:B<=1099511627776):cD bz 179 #[ay b,aj u,ap r,ap B] a λf K=>∃E,f=aL (dw #[E,.nilIface])/\eP K (z<|G a) E ((F.bytes.drop r).take B)/\∃p,qI a K b j p/\p.files=j.files/\p.eJ=j.eJ/\(∀k,p.aU b k->j.aU b k)/\A8 B j p:=by
 obtain⟨T,m,s⟩:=kI hg;have ba:=cellAt h.iq 6 rfl;have bd:=dE (i:=6) h.iq;have w:∀v,aO (cA a (R b 6)<|ap v) (R b 7)=H (ap j.oC)/\(cA a (R b 6)<|ap v).frozen? (R b 7)=aY:=by intro v;(have t:(cA a (R b 6)<|ap v).heap[b]?=H (ar #[.map<|H j.nb,.map<|H j.sb,j.mv,ap 1099511627776,ap 0,ap 0,ap v,ap j.oC] 81 (0,0)):=by rw[aT h.iq];rfl);exact⟨by rw[bL t];rfl,dE t⟩
 have bb:=λv=>(w v).1;have bf:=λv=>(w v).2;have HF:=U<|λv N=>vB _ u (R F.pS 0) (h.Bf v N).ok.iq (h.Bf v N).ok.now s;have Q:∀v N,aO (cA (cA a (R b 6)<|ap v) (R b 7)<|ap N) (R F.pS 0)=H F.data:=λv N=>by rw[bL ((h.Bf v N).ok.files F m).1];rfl
 have o:=(h.files F m).2.1
 have c:=U (λ(v N:Z)(ad:aa)(O:eO)(hb:Bytes a ad O)(V:y O<=1099511627776)(ho:∀k,ct ad=H k->ct F.data=H k)=>
  have S:=h.Bf v N
  have P:Bytes (cA (cA a (R b 6)<|ap v) (R b 7)<|ap N) ad O:=by
   have t:ct F.data≠H b:=xJ o h.iq (by decide);have C:ct ad≠H b:=λf=>t<|ho b f;exact(hb.grown (de a b 6 _)<|.inl C).grown (de _ b 7 _)<|.inl C
  show cD bz 63 #[ad] (cA (cA a (R b 6)<|ap v) (R b 7)<|ap N) λf K=>∃E,f=aL E/\eP K (z<|G a) E O/\∃p,qI a K b j p/\p.files=j.files/\p.eJ=j.eJ/\(∀k,p.aU b k->j.aU b k)/\p.reads=v/\p.oC=N from(IH P V (λk f=>by
   have:=(aG o k (ho k f)).2;simp_all)).mono (by
    rintro f K⟨E,rfl,C,t⟩;have D:z (G<|cA (cA a (R b 6)<|ap v) (R b 7)<|ap N)=z (G a):=by simp_all
    rw[D]at C t;have ht:I az (cA (cA a (R b 6) (ap v)) (R b 7) (ap N)) K:=I.aR (by rw[D];exact t);exact⟨E,rfl,C,_,⟨S.ok.aw ht (λ_ _=>id),S.aw.cr ht,S.aU⟩,rfl,rfl,λ_ f=>f,rfl,rfl⟩))
 have A:=eP.bytes o;rcases(show _ from o).2 with⟨g,L⟩|⟨au,x,av,g,_,_,bh,bc,_,_⟩
 .have t:F.bytes=[]:=aP L;have D:r=0:=by rw[t]at X;simpa using X
  subst D;rw[g]at Q;have P:(F.bytes.drop 0).take B=[]:=by rw[t];simp
  rw[P];have l:=U (show∀ac,ct (J none 0 0)=H ac->ct F.data=H ac fromλac f=>by cases f);clear h o A g T m s hg P t X hl;rcases gB B with C|C
  .subst C;by_cases hm:j.oC<((0:M):Z);all_goals
    go_in
    go_wp2_with(first
     |(go_at_call 170;refine(HF _ _).mono ?_;rintro f W⟨rfl,hw⟩;subst W)
     |(go_at_call 63;refine(c _ _ aD [] (.inl ⟨rfl,rfl⟩) (bj _) l).mono ?_;rintro f w2⟨v2,rfl,e,d⟩;have n:=U e;have q:=U d;clear e d))
    go_ret2
    exact⟨_,rfl,n,Qn q rfl (by first|exact .inl rfl|exact .inr rfl)⟩
  .by_cases hm:j.oC<B;all_goals
    go_in
    go_wp2_with(first
     |(go_at_call 170;refine(HF _ _).mono ?_;rintro f W⟨rfl,hw⟩;subst W)
     |(go_at_call 63;refine(c _ _ aD [] (.inl ⟨rfl,rfl⟩) (bj _) l).mono ?_;rintro f w2⟨v2,rfl,e,d⟩;have n:=U e;have q:=U d;clear e d))
    go_ret2
    exact⟨_,rfl,n,Qn q rfl (by first|exact .inl rfl|exact .inr rfl)⟩
 .have H1:∀k,r+k<=y F.bytes->Bytes a (bB au r k<|x-r) ((F.bytes.drop r).take k):=by
   intro k hk;rw[g]at A;have w:=A.Cf X;rw[dp]at w;have h2:=Bytes.take (bs:=F.bytes.drop r) (by simpa using w) (n:=k) (by simp;omega);exact h2
  have H0:∀k,r+k<=y F.bytes->r=x->Bytes a (bB au 0 k 0) ((F.bytes.drop r).take k):=by
   intro k hk f;obtain rfl:k=0:=by omega
   exact .inr ⟨au,0,0,by simp,by simp,λk hk=>by simp at hk⟩
  have aq:∃k,k=min B (y F.bytes-r)/\r+k<=y F.bytes/\(F.bytes.drop r).take k=(F.bytes.drop r).take B:=⟨min B<|y F.bytes-r,rfl,by omega,by rw[List.take_eq_take_iff];simp⟩;obtain⟨k,hk,P,V⟩:=aq;have D:=H1 k P;have C:=H0 k P;rw[V]at D C;have S:y ((F.bytes.drop r).take B)<=1099511627776:=by simp;omega
  obtain⟨al,ad,an⟩:=dA D C S;have t:∀(o b a ac:M),ct (bB au o b a)=H ac->ct F.data=H ac:=by rw[g];exactλ_ _ _ ac f=>f
  have l:=U t;rw[g]at Q;clear D C S h o A H1 H0 t g T m s hg V;have ax:r<=x:=by omega
  by_cases hm:j.oC<B;all_goals
   by_cases ao:r=x;all_goals
    by_cases bg:B<=y F.bytes-r;all_goals
     go_in
     go_wp2_with(first
      |(go_at_call 170;refine(HF _ _).mono ?_;rintro f W⟨rfl,hw⟩;subst W)
      |(go_at_call 63;refine(c _ _ _ ((F.bytes.drop r).take B) (by
       have w:=ae al;have L:=ae ad;first
        |((have f:k=B:=by omega);rw[f]at L;exact L<|by omega)
        |((have f:k=0:=by omega);rw[f]at L;exact L<|by omega)
        |((have f:k=B:=by omega);rw[f]at w;exact w)
        |((have f:k=y F.bytes-r:=by omega);rw[f]at w;exact w)) an (λac f=>l _ _ _ ac f)).mono ?_;rintro f w2⟨v2,rfl,e,d⟩;have n:=U e;have q:=U d;clear e d))
     go_ret2
     exact⟨_,rfl,by first|exact n|(have h9:=ae n;rw[ao]at h9;exact h9),Qn q rfl (by first|exact .inl rfl|exact .inr rfl)⟩
def rK(b:M):DK:=⟨b,b+1,aD,0,0,[],[],[]⟩
def Ij(w:Y):gI (cF w<|.map #[] 0) (z<|G w) []:=⟨#[],0,jl _ _,rfl,wQ 0⟩
def CR(w:Y):cD bz 10 #[ap 1099511627776] w λe b=>e=aL (ay<|z (G w)+2)/\cQ b (z (G w)+2) (rK<|z<|G w)/\Below (z<|G w) w b:=by
 have d:=@tR bz;have a:cQ (cF (cF (cF w<|.map #[] 0)<|.map #[] 0)<|ar #[.map<|H<|z<|G w,.map<|H<|z (G w)+1,aD,ap 1099511627776,ap 0,ap 0,ap 0,ap 0] 81) (z (G w)+2) (rK<|z<|G w):=by refine⟨?_,((Ij w).alloc _).alloc _,?_,by simp[rK],bK _ _ _ _,by simp[rK],by simp[rK],by simp[rK]⟩;have:=jl (cF (cF w<|.map #[] 0)<|.map #[] 0)<|ar #[.map<|H<|z<|G w,.map<|H<|z (G w)+1,aD,ap 1099511627776,ap 0,ap 0,ap 0,ap 0] 81;simpa[oE,rK]using this;have:=(Ij<|cF w<|.map #[] 0).alloc<|ar #[.map<|H<|z<|G w,.map<|H<|z (G w)+1,aD,ap 1099511627776,ap 0,ap 0,ap 0,ap 0] 81;simpa[rK]using this
 have c:=U a;clear a;go_in
 go_wp2;go_ret;exact⟨rfl,c,((((Below.refl _ w).alloc (ai _) _).alloc (by simp) _).alloc (by simp;omega) _)⟩
def EG:∀{m:fi}{k:ab},m.get k=none->m.put k d=m++[(k,d)]
 |[],k,_=>rfl
 |p::r,k,h=>by
  unfold fi.get at h;by_cases e:p.1=k
  .rw[dz e]at h;cases h
  .rw[dr e]at h;unfold fi.put;rw[dr e,EG h];rfl
def MZ{v:aa}:∀{m:fi}{k:ab},m.get k=none->fi.get (m++[(k,v)]) k=H v
 |[],k,_=>by simp[fi.get]
 |p::r,k,h=>by
  unfold fi.get at h;by_cases e:p.1=k
  .rw[dz e]at h;cases h
  .rw[dr e]at h;show fi.get (p::(r++[(k,v)])) k=H v;unfold fi.get;rw[dr e];exact MZ h
def Na{a:cw df}(h:W∉a.map df.name):fi.get (a.map df.nm) W=none:=by
 induction a with
 |nil=>rfl
 |cons f a b=>
  rw[bZ,bH,not_or]at h;rw[bZ];unfold fi.get;rw[dr<|λe=>h.1 e.symm];exact b h.2
def rC{m:fi}{t:TypeId}{e:M×M}(j:gI a b m)(d:a.heap[c]?=H (ar V t e)):c≠b:=by
 rintro rfl;obtain⟨i,h,g,_⟩:=j;rw[g]at d;cases d
def cQ.add{K:DK}{f:df}{i:fi}(l:cQ a b K)(x:K.eJ=[])(q:I (λk=>k=K.nb\/k=K.sb) a C)(m:gI C K.nb (K.files.map df.nm++[f.nm]))(h:gI C K.sb i)(w:yn C f)(v:z (G a)<=f.pS)(t:∀k,ct f.data=H k->z (G a)<=k):cQ C b {K with files:=K.files++[f],sm:=i}/\∀k,DK.aU b {K with files:=K.files++[f],sm:=i} k->K.aU b k\/k=f.pS\/ct f.data=H k:=by
 have d:∀{k:M}{b:Array aa}{t:TypeId}{c:M×M},a.heap[k]?=H (ar b t c)->¬(k=K.nb\/k=K.sb):=λg j=>j.elim (rC l.now g)<|rC l.safe g;refine⟨⟨?_,?_,h,l.ne,?_,?_,?_,?_⟩,?_⟩;exact(q.block b (am l.iq)<|d l.iq).trans l.iq;rw[aQ];exact m;exact q.own l.steps (λk g j=>by obtain⟨n,s⟩:=fR l.steps g;grind);grind
 intro r e;rcases aE.1 e with e|e;have c:=l.files r e;exact c.aw q (d c.1) (λk g j=>by obtain⟨n,s⟩:=fR c.2.1 g;grind);grind
 show(K.files++[f]).Pairwise nk;rw[bR];refine⟨l.apart,List.pairwise_singleton _ _,λr e u o=>?_⟩;obtain rfl:=cX.1 o;have c:=l.files r e;refine⟨λA=>by have:=am c.1;omega,λk g p=>?_⟩;have:=(aG c.2.1 k g).2;have:=t k p;omega;rintro k(j|j|j|j|⟨p,o,j⟩|⟨r,e,j⟩);exact .inl<|.inl j;exact .inl<|.inr<|.inl j;exact .inl<|.inr<|.inr<|.inl j;exact .inl<|.inr<|.inr<|.inr<|.inl j;(grind);rcases aE.1 e with e|e;exact .inl<|.inr<|.inr<|.inr<|.inr<|.inr ⟨r,e,j⟩;grind
def Ay{P:Program}{r:Oper}{h:Act}{K:Act->Y->Prop}{Q:Exit->Act->Y->Prop}(i A j:Operand)(x:TypeId)(g:r.op=Op.mapUpdate x i A j)(v B:TypeId)(o:P.underlying x=H (.map v B))(m:P.underlying v=H .string)(k:M)(w:fi)(n:h.eval i=.map (H k))(C:gI a k w)(b:ab)(c:aa)(q:h.eval A=aj b)(p:h.eval j=c)(l:∀d,gI d k (w.put b c)->a.grownBy d (H k)->z (G d)=z (G a)->K (h.put r.dst ix) d):Oper.wp P r h a K Q:=by
 obtain⟨d,e,s,t,u⟩:=CJ o m C b c;unfold Oper.wp;simp[execOp,g,n,q,p,e,Result.andThen];exact l d s t u
