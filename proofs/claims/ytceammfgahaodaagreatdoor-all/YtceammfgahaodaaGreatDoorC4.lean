import Derived.Carry
import Derived.Laws.OwnMore
import Derived.Test.YtceammfgahaodaaGreatDoorC1
import Derived.Test.YtceammfgahaodaaGreatDoorC2
open _root_ renaming List.length→z,Option.some→M,Array.size→G,Go.World.heap→H,Go.Value.ownBlock→bY,Go.World.cell?→aS,Go.World.setCell→ct,Go.World.alloc→cF,Bool.false→bF,Bool.true→bX,Nat→R,Int→Y,List→cD,Go.Calls→cA,Go.undef→iE,Go.Proofs.Tryz.prog→bG,Go.Value.slice→ah,Go.Value.string→aj,Go.Value.bool→aO,Go.Value.pointer→fA,Go.Value.tuple→dE
namespace Go.Proofs.YtceammfgahaodaaGreatDoor
open ChangeShapes WideShapes RowKit Proofs.Tryz
set_option maxHeartbeats 16000000
set_option linter.all false
set_option maxRecDepth 100000
variable{a f B:I}{b c g l:R}{d t:aa}{m D Q:Y}{o:eP}{v:ab}{x:jd}{T:Array aa}
def po:Option R->aa
 |none=>.pointer none
 |some g=>.pointer<|M<|U g 0
abbrev Mv:=ab×Option R
def yC(p:Mv):jd:=[aj p.1,po p.2]
def rO(l:cD Mv):jd:=l.flatMap yC
def Jf(l:cD Mv)(i:R)(h:i<z l):(rO l)[i*2]?=M (aj l[i].1)/\(rO l)[i*2+1]?=M (po l[i].2):=by
 induction l generalizing i with
 |nil=>simp at h
 |cons p r a=>
  cases i with
  |zero=>simp[rO,yC]
  |succ i=>
   have:=a i (by simpa using h);have e:(i+1)*2=i*2+2:=by omega
   rw[e];simpa[rO,yC]using this
def VX(w:I)(v:aa)(l:cD Mv):Prop:=Row w 2 v (z l)<|rO l
def LB(m:ft)(x:Mv):ft:=match x.2 with
 |none=>m.del x.1
 |some g=>m.put x.1<|po<|M g
def se(m:ft)(l:cD Mv):ft:=l.foldl LB m
def Lz(m:ft)(l:cD Mv)(n:R)(h:n<z l):se m (l.take<|n+1)=LB (se m<|l.take n) l[n]:=by
 unfold se;rw[ak h,iQ];rfl
def rD(h:aS a (U b c)=M d):b<G (H a):=by
 by_cases e:b<G (H a);exact e;unfold World.cell? at h;rw[eL<|by simpa using e]at h;simp at h
def gI.ne{m:ft}(l:gI a b m)(h:aS a (U c g)=M d):c≠b:=by
 obtain⟨k,e,i,_⟩:=l;intro j;subst j;simp[World.cell?,i]at h
def Hg(F:ft)(p:cD Mv)(v:gI a b F)(Q:VX a d p)(hr:z p<=1000000000000):cA bG 147 #[.map<|M b,d] a λac L=>ac=aP (dE #[])/\gI L b (se F p)/\a.grownBy L (M b):=by
 obtain⟨P,⟨rfl,O⟩|⟨C,j,N,rfl,S,D⟩⟩:=Q;(.obtain rfl:p=[]:=aR O;have t:=Z v;clear v;(go_in);go_wp2;(go_loopw [8] (λE wr=>E=aq 0/\wr=a) (λ_ _=>0));(case atStart=>exact⟨rfl,rfl⟩);(case round=>obtain⟨rfl,rfl⟩:=hrel;go_wp2;go_end0;exact⟨rfl,t,tz _ _⟩))
 .have w:=Z D;have t:=Z v;clear D P v;go_in
  go_wp2;go_loopw [8] (λE wr=>∃n:R,n<=z p/\E=aq n/\gI wr b (se F<|p.take n)/\a.grownBy wr (M b)) (λE _=>z p-(intOf E).toNat)
  case atStart=>exact⟨0,bB _,rfl,t,tz _ _⟩
  case round=>
   obtain⟨n,hn,rfl,e,g⟩:=hrel;by_cases r:n<z p
   .have u:=Jf p n r;have m:=w _ _ u.1;have q:=rD m;have s:=t.ne m;have c:wr.heap[C]?=a.heap[C]?:=g.block C q (by simpa using s);have x:aS wr (U C<|j+n*2)=M (aj p[n].1):=(cP (w:=a) c).trans<|w _ _ u.1;have o:aS wr (U C<|j+n*2+1)=M (po p[n].2):=(cP (w:=a) c).trans (by rw[aY];exact w _ _ u.2);have B:=Z<|Lz F p n r;clear u m c q s;generalize se F (p.take n)=X at*;generalize p[n]=ad at*;obtain⟨K,V⟩:=ad;simp only at x o;have y:=Z<|λv=>e.alloc v;have A:=Z<|λv=>g.trans<|dA wr v<|M b;clear e g;cases V with
    |none=>
     simp only[po]at o;go_wp2_with(first
      |(at_delete;refine Dy _ rfl _ _ 70 9 rfl 125 underlying70 underlying9 b X rfl (y _) K rfl ?_;intro W i f;have l:=Z i;have k:=Z f;clear i f))
     go_roundw;case rel=>exact⟨n+1,by omega,by go_num,by rw[ae B];exact l,(A _).trans k⟩
     case measure=>simp[intOf];omega
    |some al=>
     simp only[po]at o;go_wp2_with(first
      |(at_mapUpdate;refine Dx _ rfl _ _ _ 70 rfl 9 125 underlying70 underlying9 b X rfl (y _) K _ rfl rfl ?_;intro W i f;have l:=Z i;have k:=Z f;clear i f))
     go_roundw;case rel=>exact⟨n+1,by omega,by go_num,by rw[ae B];exact l,(A _).trans k⟩
     case measure=>simp[intOf];omega
   .have i:n=z p:=by omega
    subst i;have f:=Z e;have c:=Z g;clear e g;go_wp2;go_end0;have:=ae f;rw[bP]at this;exact⟨rfl,this,c⟩
def Sg:(prog.info? 261).map (λi=>(i.zero,i.size,i.bytes))=M (M aG,1,24):=by kernel_rfl
def tI(w:I)(x:aa)(t:TypeId):∀j u,[x][j]?=M u->aS (cF w<|aw #[x] t) (((U (G<|H w) 0):Addr).add j)=M u:=by
 intro j u a;rw[dB];unfold World.cell?;rw[fG];simpa using a
structure FF(w w':I)(db nb sb:R)(mv:aa)(room reads yS:Y)(m:ft)(n:R)(xs:jd)(mv':aa):Prop where
 iN:oH w' db nb sb mv' room reads yS
 now:gI w' nb m
 steps:w'.ownsRow 0 261 1 mv' n xs
 ay:J (λk=>k=db\/k=nb\/bY mv=M k) w w'
 own:bY mv'=bY mv\/∃g,bY mv'=M g/\G (H w)<=g
def EE(ax:ft)(B:cD Mv)(h:oH f b c g d m D Q)(P:gI f c ax)(hl:VX f t B)(hr:z B<=1000000000000)(K:f.ownsRow 0 261 1 d l x)(hn:l<=1000000000000):cA bG 182 #[aA b,t] f λs w'=>s=aP (dE #[])/\∃av,FF f w' b c g d m D Q (se ax B) (l+1) (x++[t]) av:=by
 obtain⟨i0,al,an,ao,au⟩:=cL Sg;have HS:=Z<|Hg ax B P hl hr;obtain⟨A,w,rfl⟩:=bS hl;have W:=cellAt h 0 rfl;have o:b≠c:=P.ne W;have F:bY d≠M b:=zC K h (by decide);have y:bY d≠M c:=by intro s;obtain⟨r,q⟩:=fK K s;obtain⟨N,L,E,_⟩:=P;rw[E]at q;cases q
 have n:∀i r k,gI i c (se ax B)->f.grownBy i (M c)->k.ownsRow 0 261 1 r (l+1) (x++[ah A (z B) w])->eY (cF i<|aw #[ah A (z B) w] 261) k d r->aS k (U b 2)=M d/\k.frozen? (U b 2)=bF/\FF f (ct k (U b 2) r) b c g d m D Q (se ax B) (l+1) (x++[ah A (z B) w]) r:=by intro i r k p e L q;have X:i.heap[b]?=f.heap[b]?:=e.block b (am h) (by simpa using o);have E:b<G (H i):=ag (am h) e.size;have ad:(cF i<|aw #[ah A (z B) w] 261).heap[b]?=f.heap[b]?:=(Below.heap_alloc i _ b E).trans X;have ac:k.heap[b]?=f.heap[b]?:=(q.grown.block b (by simp;omega)<|λs=>F s.symm).trans ad;have O:oH k b c g d m D Q:=ac.trans h;have N:bY r≠M b:=zC L O (by decide);refine⟨by rw[bL O];rfl,dW O,⟨?_,?_,?_,?_,?_⟩⟩;unfold oH;rw[aT O];rfl;exact((p.alloc _).kept q.grown<|λs=>y s.symm).kept (df k b 2 r) (by simp;exactλs=>o s.symm);exact L.kept (df k b 2 r)<|.inr N;refine((J.dR e (by rintro bd⟨⟩;exact .inl<|.inr<|.inl rfl)).alloc<|aw #[ah A (z B) w] 261).trans (T:=λbd=>bY d=M bd) (J.dR q.grown<|λbd s=>.inl s) (λx s=>.inl<|.inr<|.inr s)|>.setCell b 2 r (.inl<|.inl rfl);rcases q.uq with s|⟨bd,s,hg⟩;exact .inl s;exact .inr ⟨bd,s,by have:=e.size;simp at hg;omega⟩
 obtain⟨HG,HO,S⟩:=dI n (λi(e:f.grownBy i (M c))=>(K.kept e<|.inr y).alloc<|aw #[ah A (z B) w] 261)<|λi(e:f.grownBy i (M c))=>(cP (w:=f) (a:=(U b 2))<|e.block b (am h)<|by simpa using o).trans (show aS f (U b 2)=M d by rw[bL h];rfl);obtain⟨xm,cm,rfl⟩:=aB K;clear h P hl K n F y o;go_in
 go_wp2_with(first
  |(go_at_call 147;refine HS.mono ?_;rintro s i⟨rfl,p,e⟩;have ba:=S i e;have V:=Z p;have C:=Z e;clear p e)
  |(at_builtin;refine bV _ rfl (.tmp 14) (.tmp 16) 71 rfl 0 261 i0 aG 1 24 underlying71 al an ao au rfl (by decide) _ l x rfl (HO i C) (U (G (H i)) 0) 1 1 [.slice A (z B) w] rfl rfl (tI _ _ _) (by simp[Value.oneCell']) (by omega) (by omega) (bB _) ?_;intro v2 k j v;obtain⟨bb,bc,u⟩:=HG i v2 k V C j v;obtain⟨x2,c2,rfl⟩:=aB j;have HF:=Z u;clear j v u))
 go_end0;exact⟨rfl,_,HF⟩
structure dp where
 name:ab
 pV:R
 data:aa
 bytes:eP
 safe:Y
def dp.nm(f:dp):ab×aa:=(f.name,po<|M f.pV)
structure DK where
 nb:R
 sb:R
 mv:aa
 reads:Y
 yS:Y
 files:cD dp
 sm:ft
 eU:cD (aa×cD Mv)
variable{j:DK}
def yj(w:I)(f:dp):Prop:=w.heap[f.pV]?=M (aw #[f.data,aq f.safe] 129 (0,0))/\eQ w 0 f.data f.bytes/\kG f.bytes
def tK(w:I)(x:aa×cD Mv):Prop:=VX w x.1 x.2/\z x.2<=2/\∀k,bY x.1=M k->∃a b,w.heap[k]?=M (aw a 302 b)
def np(f g:dp):Prop:=f.pV≠g.pV/\∀k,bY f.data=M k->bY g.data≠M k
def np.symm{f g:dp}(h:np f g):np g f:=⟨λe=>h.1 e.symm,λk e a=>h.2 k a e⟩
structure cU(w:I)(db:R)(K:DK):Prop where
 iN:oH w db K.nb K.sb K.mv 1099511627776 K.reads K.yS
 now:gI w K.nb (K.files.map dp.nm)
 safe:gI w K.sb K.sm
 ne:K.nb≠K.sb
 steps:w.ownsRow 0 261 1 K.mv (z K.eU) (K.eU.map (·.1))
 each:∀x∈K.eU,tK w x
 files:∀f∈K.files,yj w f
 apart:K.files.Pairwise np
def DK.bw(a:R)(K:DK)(k:R):Prop:=k=a\/k=K.nb\/k=K.sb\/bY K.mv=M k\/(∃x∈K.eU,bY x.1=M k)\/∃f∈K.files,f.pV=k\/bY f.data=M k
def yj.ay{S:fN}{w w':I}{f:dp}(h:yj w f)(a:J S w w')(c:¬S f.pV)(d:∀k,bY f.data=M k->¬S k):yj w' f:=⟨(a.block _ (am h.1) c).trans h.1,a.own h.2.1 d,h.2.2⟩
def tK.ay{S:fN}{w w':I}{x:aa×cD Mv}(n:tK w x)(j:J S w w')(g:∀k,bY x.1=M k->¬S k):tK w' x:=by
 obtain⟨l,m,h⟩:=n;refine⟨j.row l<|λk e=>⟨g k e,?_⟩,m,λk e=>?_⟩;obtain⟨a,d,c⟩:=h k e;exact am c;obtain⟨a,d,c⟩:=h k e;exact⟨a,d,(j.block k (am c)<|g k e).trans c⟩
def gI.ay{S:fN}{w w':I}{b:R}{m:ft}(j:gI w b m)(h:J S w w')(e:¬S b):gI w' b m:=by
 obtain⟨d,c,a,g⟩:=j;exact⟨d,c,(h.block b (am a) e).trans a,g⟩
def gI.tag{m:ft}(k:gI a b m){e:R×R}(d:a.heap[g]?=M (aw T c e)):g≠b:=by
 obtain⟨j,h,f,_⟩:=k;intro i;subst i;rw[f]at d;cases d
def iA{e:Array aa}{f h:R×R}(i:a.heap[b]?=M (aw T g f))(d:a.heap[c]?=M (aw e l h))(k:g≠l):b≠c:=by
 intro j;subst j;rw[i]at d;cases d;exact k rfl
def cU.lt(h:cU a c j):∀k,j.bw c k->k<G (H a):=by
 rintro k(rfl|rfl|rfl|e|⟨x,i,e⟩|⟨f,d,rfl|e⟩);exact am h.iN;exact h.now.lt;exact h.safe.lt;exact(aI h.steps k e).2;obtain⟨_,_,g⟩:=(h.each x i).2.2 k e;exact am g;exact am (h.files f d).1;exact(aI (h.files f d).2.1 k e).2
def cU.ay{S:fN}{w w':I}(h:cU w c j)(d:J S w w')(a:∀k,j.bw c k->¬S k):cU w' c j where
 iN:=(d.block c (am h.iN)<|a _<|.inl rfl).trans h.iN
 now:=h.now.ay d<|a _<|.inr<|.inl rfl
 safe:=h.safe.ay d<|a _<|.inr<|.inr<|.inl rfl
 ne:=h.ne
 steps:=d.own h.steps<|λ_ e=>a _<|.inr<|.inr<|.inr<|.inl e
 each x hx:=(h.each x hx).ay d<|λ_ e=>a _<|.inr<|.inr<|.inr<|.inr<|.inl ⟨x,hx,e⟩
 files f hf:=(h.files f hf).ay d (a _<|.inr<|.inr<|.inr<|.inr<|.inr ⟨f,hf,.inl rfl⟩)<|λ_ e=>a _<|.inr<|.inr<|.inr<|.inr<|.inr ⟨f,hf,.inr e⟩
 apart:=h.apart
def cU.alloc{w:I}(h:cU w c j)(o:Obj):cU (cF w o) c j:=h.ay ((J.refl az w).alloc o)<|λ_ _=>id
def cU.named{K:DK}{B:cD Mv}{n:cD dp}(l:cU a b K)(k:FF a f b K.nb K.sb K.mv 1099511627776 K.reads K.yS (n.map dp.nm) (z K.eU+1) (K.eU.map (·.1)++[d]) t)(A:tK a (d,B))(q:∀s∈n,yj a s)(y:n.Pairwise np):cU f b {K with mv:=t,files:=n,eU:=K.eU++[(d,B)]}:=by
 have e:∀{o u:R}{r:Array aa}{p:R×R},a.heap[o]?=M (aw r u p)->u≠73->u≠261->¬(o=b\/o=K.nb\/bY K.mv=M o):=by rintro o u r p j v w(i|i|i);exact iA j l.iN v i;exact l.now.tag j i;obtain⟨h,m⟩:=fK l.steps i;exact iA j m w rfl
 have c:∀x,tK a x->tK f x:=λx g=>g.ay k.ay (λo i=>by obtain⟨h,p,j⟩:=g.2.2 o i;exact e j (by decide)<|by decide);refine⟨k.iN,k.now,l.safe.ay k.ay ?_,l.ne,?_,?_,?_,y⟩;rintro(i|i|i);exact l.safe.tag l.iN i.symm;exact l.ne i.symm;obtain⟨h,m⟩:=fK l.steps i;exact l.safe.tag m rfl;have:=k.steps;simpa using this;intro x g;rcases ap.1 g with g|g;exact c x<|l.each x g;(obtain rfl:x=(d,B):=by simpa using g);exact c _ A;intro s j;refine(q s j).ay k.ay (e (q s j).1 (by decide)<|by decide)<|λo i=>?_;obtain⟨h,m⟩:=fK (q s j).2.1 i;exact e m (by decide)<|by decide
def FF.bw{K:DK}{q:cD Mv}{j:cD dp}{v:ft}(n:FF a B c K.nb K.sb K.mv 1099511627776 K.reads K.yS v g x t)(s:l<=G (H a))(p:∀k,bY d=M k->l<=k)(o:∀f∈j,∀k,(f.pV=k\/bY f.data=M k)->K.bw c k\/l<=k):∀k,({K with mv:=t,files:=j,eU:=K.eU++[(d,q)]}:DK).bw c k->K.bw c k\/l<=k:=by
 rintro k(rfl|rfl|rfl|h|⟨r,e,h⟩|⟨f,m,h⟩);exact .inl<|.inl rfl;exact .inl<|.inr<|.inl rfl;exact .inl<|.inr<|.inr<|.inl rfl;rcases n.own with i|⟨w,i,u⟩;exact .inl<|.inr<|.inr<|.inr<|.inl<|i.symm.trans h;rw[show({K with mv:=t,files:=j,eU:=K.eU++[(d,q)]}:DK).mv=t from rfl,i]at h;cases h;exact .inr (by omega);rcases ap.1 e with e|e;exact .inl<|.inr<|.inr<|.inr<|.inr<|.inl ⟨r,e,h⟩;(obtain rfl:r=(d,q):=by simpa using e);exact .inr<|p k h;exact o f m k h
def JA{m:ft}(h:m.get v=none)(c:aa):m.put v c=m++[(v,c)]:=by
 induction m with
 |nil=>rfl
 |cons p r b=>
  by_cases a:p.1=v
  .simp[ft.get,a]at h
  .simp[ft.get,a]at h;simp[ft.put,a,b h]
structure rW(w w':I)(db:R)(K K':DK):Prop where
 ok:cU w' db K'
 ay:J (K.bw db) w w'
 bw:∀k,K'.bw db k->K.bw db k\/G (H w)<=k
def EF(m:ft)(x:Mv):se m [x]=LB m x:=rfl
def CN{K:DK}(c:ab)(h:cU a b K)(t:ft.get (K.files.map dp.nm) c=none)(L:z K.eU<=1000000000000):cA bG 121 #[aA b,aj c] a λe q=>e=aP .nilIface/\∃i,rW a q b K i/\i.files=K.files++[⟨c,G<|H a,aG,[],0⟩]/\z i.eU=z K.eU+1:=by
 obtain⟨S,F,u,_,_⟩:=cL uj;have x:=uc underlying70 underlying9 F u h.now c;rw[t]at x;simp only[uP]at x;have E:=cellAt h.iN 0 rfl;have A:=Z<|yL h.iN
 have g:∃W:I,W=cF (cF a<|aw #[aG,aq 0] 129) (aw #[aj c,aA<|G<|H a] 302)/\cA bG 182 #[aA b,bE (G (H a)+1) 0 1 1] W λe q=>e=aP (dE #[])/\∃i,rW a q b K i/\i.files=K.files++[⟨c,G<|H a,aG,[],0⟩]/\z i.eU=z K.eU+1:=by
  refine⟨_,rfl,?_⟩;have m:=(h.alloc<|aw #[aG,aq 0] 129).alloc<|aw #[aj c,aA<|G<|H a] 302;have k:(cF a<|aw #[aG,aq 0] 129).heap[G<|H a]?=M (aw #[aG,aq 0] 129 (0,0)):=fG _ _;have f:=(Below.heap_alloc (cF a<|aw #[aG,aq 0] 129) (aw #[aj c,aA<|G<|H a] 302) (G<|H a)<|by simp).trans k;have n:(cF (cF a<|aw #[aG,aq 0] 129)<|aw #[aj c,aA<|G<|H a] 302).heap[G (H a)+1]?=M (aw #[aj c,aA<|G<|H a] 302 (0,0)):=by
   have:=fG (cF a<|aw #[aG,aq 0] 129)<|aw #[aj c,aA<|G<|H a] 302;simpa using this
  generalize s:(cF (cF a<|aw #[aG,aq 0] 129)<|aw #[aj c,aA<|G<|H a] 302)=W at*;have l:∀S,J S a W:=λS=>by rw[<-s];exact(cI S a).alloc _
  have o:tK W (bE (G (H a)+1) 0 1 1,[(c,M<|G<|H a)]):=by
   refine⟨show Row _ _ _ _ _ from⟨rfl,.inr ⟨G (H a)+1,0,1,rfl,ai _,λD P C=>?_⟩⟩,by simp,λN e=>?_⟩
   .rw[cZ,bL n];simpa[rO,yC,po]using C
   .cases e;exact⟨_,_,n⟩
  apply(EE (K.files.map dp.nm) [(c,M<|G<|H a)] m.iN m.now o.1 (by simp) m.steps L).mono;rintro e q⟨rfl,p,r⟩;refine⟨rfl,{K with mv:=p,files:=K.files++[dp.mk c (G<|H a) aG [] 0],eU:=K.eU++[(bE (G (H a)+1) 0 1 1,[(c,M<|G<|H a)])]},?_,rfl,by simp⟩;have j:FF W q b K.nb K.sb K.mv 1099511627776 K.reads K.yS ((K.files++[dp.mk c (G<|H a) aG [] 0]).map dp.nm) (z K.eU+1) (K.eU.map (·.1)++[bE (G (H a)+1) 0 1 1]) p:=by
   rw[EF]at r;simp only[LB,JA t]at r;simpa[dp.nm]using r
  refine⟨m.named j o ?_ ?_,?_,?_⟩
  .intro v d;rcases ap.1 d with d|d
   .exact m.files v d
   .obtain rfl:v=⟨c,G<|H a,aG,[],0⟩:=by simpa using d
    exact⟨f,eQ.nil _ _,by intro T C;simp at C⟩
  .refine bR.2 ⟨h.apart,by simp,λP C Q D=>?_⟩;obtain rfl:Q=⟨c,G<|H a,aG,[],0⟩:=by simpa using D
   refine⟨λe=>?_,λN _ e=>by cases e⟩;have:=am (h.files P C).1;simp only at e;omega
  .exact(l _).trans j.ay (by
    rintro T(rfl|rfl|e)
    .exact .inl<|.inl rfl
    .exact .inl<|.inr<|.inl rfl
    .exact .inl (.inr (.inr (.inr (.inl e)))))
  .refine j.bw (l az).size (λN e=>by cases e;exact Nat.le_succ _)<|λv d N e=>?_;rcases ap.1 d with d|d
   .exact .inl<|.inr<|.inr<|.inr<|.inr<|.inr ⟨v,d,e⟩
   .obtain rfl:v=⟨c,G<|H a,aG,[],0⟩:=by simpa using d
    rcases e with e|e
    .exact .inr (by simp only at e;omega)
    .cases e
 obtain⟨W,s,g⟩:=g;have B:=Z g;clear g h t;go_in
 go_wp2_with(first
  |(go_at_call 146;refine A.mono ?_;rintro e O⟨rfl,rfl⟩)
  |(go_at_call 182;subst s;refine zm (by simpa using ae B) ?_;rintro e O⟨rfl,w⟩;have y:=Z w;clear w))
 go_ret;exact⟨rfl,y⟩
def rj:cD dp->ab->Option dp
 |[],_=>none
 |f::r,n=>if f.name=n then M f else rj r n
def pT:cD dp->ab->cD dp
 |[],_=>[]
 |f::r,n=>if f.name=n then r else f::pT r n
def qZ:cD dp->dp->cD dp
 |[],f=>[f]
 |g::r,f=>if g.name=f.name then f::r else g::qZ r f
def MB(a:cD dp)(n:ab):(pT a n).map dp.nm=ft.del (a.map dp.nm) n:=by
 induction a with
 |nil=>rfl
 |cons f r b=>by_cases h:f.name=n<;>simp[pT,ft.del,dp.nm,h,<-b]
def Li(a:cD dp)(f:dp):(qZ a f).map dp.nm=ft.put (a.map dp.nm) f.name (po<|M f.pV):=by
 induction a with
 |nil=>rfl
 |cons g r b=>by_cases h:g.name=f.name<;>simp[qZ,ft.put,dp.nm,h,<-b]
def kN{a:cD dp}{f:dp}(h:rj a v=M f):f.name=v/\f∈a/\ft.get (a.map dp.nm) v=M (po<|M f.pV):=by
 induction a with
 |nil=>cases h
 |cons i r g=>
  by_cases e:i.name=v
  .simp[rj,e]at h;subst h;exact⟨e,by simp,by simp[ft.get,dp.nm,e]⟩
  .simp[rj,e]at h;obtain⟨b,c,d⟩:=g h;exact⟨b,by simp[c],by simpa[ft.get,dp.nm,e]using d⟩
def BJ{a:cD dp}(h:rj a v=none):ft.get (a.map dp.nm) v=none:=by
 induction a with
 |nil=>rfl
 |cons g r b=>
  by_cases e:g.name=v
  .simp[rj,e]at h
  .simp[rj,e]at h;simpa[ft.get,dp.nm,e]using b h
def qF(a:cD dp)(n:ab):(pT a n).Sublist a:=by
 induction a with
 |nil=>exact eF _
 |cons f r b=>
  by_cases h:f.name=n
  .simp[pT,h]
  .simpa[pT,h]using b
def Fo{a:cD dp}{f:dp}(i:a.Pairwise np)(h:rj a v=M f):∀g∈pT a v,np f g:=by
 induction a with
 |nil=>cases h
 |cons g r j=>
  obtain⟨c,d⟩:=bA.1 i;by_cases e:g.name=v
  .simp[rj,e]at h;subst h;simpa[pT,e]using c
  .simp[rj,e]at h;intro x b;simp[pT,e]at b;rcases b with rfl|b
   .exact(c f (kN h).2.1).symm
   .exact j d h x b
def Ay{a:cD dp}{f x:dp}(h:x∈qZ a f):x=f\/x∈pT a f.name:=by
 induction a with
 |nil=>left;simpa[qZ]using h
 |cons g r b=>
  by_cases e:g.name=f.name
  .simp[qZ,e]at h;simpa[pT,e]using h
  .simp[qZ,e]at h;simp[pT,e];rcases h with rfl|h
   .exact .inr<|.inl rfl
   .rcases b h with h|h
    .exact .inl h
    .exact .inr<|.inr h
def El{b:cD dp}{f:dp}(c:(pT b f.name).Pairwise np)(h:∀g∈pT b f.name,np f g):(qZ b f).Pairwise np:=by
 induction b with
 |nil=>simp[qZ]
 |cons g r j=>
  by_cases e:g.name=f.name
  .simp only[pT,e,iO]at c h;simp only[qZ,e,iO];exact bA.2 ⟨h,c⟩
  .simp only[pT,e,jT]at c h;simp only[qZ,e,jT];obtain⟨d,i⟩:=bA.1 c;refine bA.2 ⟨λx a=>?_,j i<|λx a=>h x<|by simp[a]⟩;rcases Ay a with rfl|a
   .exact(h g<|by simp).symm
   .exact d x a
def SN{b:cD dp}{f:dp}(a:f.name≠v):pT (qZ b f) v=qZ (pT b v) f:=by
 induction b with
 |nil=>simp[pT,qZ,a]
 |cons g r d=>
  by_cases e:g.name=f.name
  .have:g.name≠v:=by rw[e];exact a
   simp[pT,qZ,e,a]
  .by_cases c:g.name=v
   .have:¬v=f.name:=λh=>a h.symm;simp[pT,qZ,c,this]
   .simp[pT,qZ,e,c,d]
def Ia{K:DK}{x:cD Mv}{e:cD dp}(y:cU a b K)(l:∀S,J S a f)(k:FF f B b K.nb K.sb K.mv 1099511627776 K.reads K.yS (e.map dp.nm) (z K.eU+1) (K.eU.map (·.1)++[d]) t)(v:tK f (d,x))(u:∀w,bY d=M w->G (H a)<=w)(n:∀g∈e,∃h∈K.files,g.pV=h.pV/\g.data=h.data/\g.bytes=h.bytes/\g.safe=h.safe)(s:e.Pairwise np):rW a B b K {K with mv:=t,files:=e,eU:=K.eU++[(d,x)]}:=by
 have o:cU f b K:=y.ay (l az)<|λ_ _=>id;refine⟨o.named k v (λg c=>?_) s,?_,?_⟩;obtain⟨h,m,i,j,q,r⟩:=n g c;have:=o.files h m;unfold yj at*;rw[i,j,q,r];exact this
 .exact(l _).trans k.ay (by
   rintro q(rfl|rfl|p)
   .exact .inl<|.inl rfl
   .exact .inl<|.inr<|.inl rfl
   .exact .inl (.inr (.inr (.inr (.inl p)))))
 refine k.bw (l az).size u<|λg c w p=>.inl ?_;obtain⟨h,m,i,j,_⟩:=n g c;exact .inr<|.inr<|.inr<|.inr<|.inr ⟨h,m,by rw[<-i,<-j];exact p⟩
def NU(c:ab)(F:dp)(h:cU a b j)(p:rj j.files c=M F)(u:z j.eU<=1000000000000):cA bG 158 #[aA b,aj c] a λi k=>i=aP .nilIface/\∃d,rW a k b j d/\d.files=pT j.files c/\z d.eU=z j.eU+1:=by
 have r:=Z<|vu _ c (U F.pV 0) h.iN h.now (kN p).2.2;have g:cA bG 182 #[aA b,bE (G<|H a) 0 1 1] (cF a<|aw #[aj c,fA none] 302) λi k=>i=aP (dE #[])/\∃d,rW a k b j d/\d.files=pT j.files c/\z d.eU=z j.eU+1:=by have e:(cF a<|aw #[aj c,fA none] 302).heap[G<|H a]?=M (aw #[aj c,fA none] 302 (0,0)):=fG _ _;have o:∀S,J S a (cF a<|aw #[aj c,fA none] 302):=λS=>(cI S a);generalize cF a (aw #[aj c,fA none] 302)=W at*;have m:cU W b j:=h.ay (o az)<|λ_ _=>id;(have f:tK W (bE (G<|H a) 0 1 1,[(c,none)]):=by refine⟨show Row _ _ _ _ _ from⟨rfl,.inr ⟨G<|H a,0,1,rfl,ai _,λy A t=>?_⟩⟩,by simp,λx i=>?_⟩;rw[cZ,bL e];simpa[rO,yC,po]using t;cases i;exact⟨_,_,e⟩);apply(EE (j.files.map dp.nm) [(c,none)] m.iN m.now f.1 (by simp) m.steps u).mono;rintro i k⟨rfl,v,l⟩;rw[EF]at l;simp only[LB,<-MB]at l;exact⟨rfl,_,Ia h o l f (λx i=>by cases i;exact ai _) (λb a=>⟨b,(qF _ _).subset a,rfl,rfl,rfl,rfl⟩)<|h.apart.sublist<|qF _ _,rfl,by simp⟩
 have s:=Z g;clear g h p;go_in
 go_wp2_with(first
  |(go_at_call 144;refine r.mono ?_;rintro i w⟨rfl,rfl⟩)
  |(go_at_call 182;refine zm s ?_;rintro i w⟨rfl,n⟩;have q:=Z n;clear n))
 go_ret;exact⟨rfl,q⟩
def NS(c d:ab)(F:dp)(h:cU a b j)(m:rj j.files c=M F)(f:c≠d)(A:z j.eU<=1000000000000):cA bG 204 #[aA b,aj c,aj d] a λg n=>g=aP .nilIface/\∃e,rW a n b j e/\e.files=qZ (pT j.files c) {F with name:=d}/\z e.eU=z j.eU+1:=by
 have w:=Z<|vu _ c (U F.pV 0) h.iN h.now (kN m).2.2;have l:cA bG 182 #[aA b,bE (G<|H a) 0 2 2] (cF a<|aw #[aj d,aA F.pV,aj c,fA none] 302) λg n=>g=aP (dE #[])/\∃e,rW a n b j e/\e.files=qZ (pT j.files c) {F with name:=d}/\z e.eU=z j.eU+1:=by have i:(cF a<|aw #[aj d,aA F.pV,aj c,fA none] 302).heap[G<|H a]?=M (aw #[aj d,aA F.pV,aj c,fA none] 302 (0,0)):=fG _ _;have t:∀S,J S a (cF a<|aw #[aj d,aA F.pV,aj c,fA none] 302):=λS=>(cI S a);generalize cF a (aw #[aj d,aA F.pV,aj c,fA none] 302)=W at*;have q:cU W b j:=h.ay (t az)<|λ_ _=>id;(have k:tK W (bE (G<|H a) 0 2 2,[(d,M F.pV),(c,none)]):=by refine⟨show Row _ _ _ _ _ from⟨rfl,.inr ⟨G<|H a,0,2,rfl,ai _,λE L p=>?_⟩⟩,by simp,λK g=>?_⟩;rw[cZ,bL i];simpa[rO,yC,po]using p;cases g;exact⟨_,_,i⟩);apply(EE (j.files.map dp.nm) [(d,M F.pV),(c,none)] q.iN q.now k.1 (by simp) q.steps A).mono;rintro g n⟨rfl,B,s⟩;(have y:se (j.files.map dp.nm) [(d,M F.pV),(c,none)]=(qZ (pT j.files c) {F with name:=d}).map dp.nm:=by rw[<-SN (f:={F with name:=d}) (λg=>f g.symm),MB,Li];rfl);rw[y]at s;refine⟨rfl,_,Ia h t s k (λK g=>by cases g;exact ai _) (λD o=>?_) ?_,rfl,by simp⟩;rcases Ay o with rfl|o;exact⟨F,(kN m).2.1,rfl,rfl,rfl,rfl⟩;exact⟨D,(qF _ _).subset<|(qF _ _).subset o,rfl,rfl,rfl,rfl⟩;refine El ((h.apart.sublist<|qF _ _).sublist<|qF _ _)<|λE p=>?_;have:=Fo h.apart m E<|(qF _ _).subset p;exact this
 have u:(!c.toList==d.toList)=bX:=by simp[zH f]
 have x:=Z l;clear l h m f;go_in
 go_wp2_with(first
  |(go_at_call 144;refine w.mono ?_;rintro g C⟨rfl,rfl⟩)
  |(go_at_call 182;refine zm x ?_;rintro g C⟨rfl,r⟩;have v:=Z r;clear r))
 go_ret;exact⟨rfl,v⟩
def cU.Ky(h:cU a b j){k:R}(e:bY j.mv=M k):k≠j.sb/\k≠j.nb/\k≠b:=by
 obtain⟨d,c⟩:=fK h.steps e;exact⟨h.safe.tag c,h.now.tag c,iA c h.iN<|by decide⟩
def cU.XG{K:DK}{D:ft}(h:cU a b K)(i:J (λk=>k=K.sb) a f)(n:gI f K.sb D):rW a (ct f (U b 2) aG) b K {K with mv:=aG,eU:=[],sm:=D}:=by
 have c:b≠K.sb:=h.safe.tag h.iN;have l:oH f b K.nb K.sb K.mv 1099511627776 K.reads K.yS:=(i.block b (am h.iN) c).trans h.iN;have d:J (λk=>k=b\/k=K.sb) a (ct f (U b 2) aG):=(i.mono<|λx e=>.inl<|.inr e).setCell b 2 _<|.inl<|.inl rfl;refine⟨⟨?_,?_,?_,h.ne,bN _ _ _ _,by simp,?_,h.apart⟩,?_,?_⟩;unfold oH;rw[aT l];rfl;refine h.now.ay d ?_;rintro(e|e);exact h.now.tag h.iN e.symm;exact h.ne e;exact n.kept (df f b 2 _) (by simp;exactλe=>c e.symm);intro o m;have hF:=h.files o m;refine hF.ay d ?_ ?_;rintro(e|e);exact iA hF.1 h.iN (by decide) e;exact h.safe.tag hF.1 e;intro k e;obtain⟨j,g⟩:=fK hF.2.1 e;rintro(e|e);exact iA g h.iN (by decide) e;exact h.safe.tag g e
 .exact d.mono (by
   rintro x(rfl|rfl)
   .exact .inl<|.inl rfl
   .exact .inl (.inr (.inr (.inl rfl))))
 rintro k(e|e|e|e|⟨x,g,_⟩|e);exact .inl<|.inl e;exact .inl<|.inr<|.inl e;exact .inl<|.inr<|.inr<|.inl e;cases e;cases g;exact .inl<|.inr<|.inr<|.inr<|.inr<|.inr e
def Co(h:cU a b j)(hn:z j.eU<=1000000000000):cA bG 92 #[aA b] a λx r=>x=aP .nilIface/\∃B,rW a r b j B/\B.files=j.files/\B.eU=[]:=by
 have L:=Z<|yL h.iN;have E:b≠j.sb:=h.safe.tag h.iN;have k:∀wr,J (λs=>s=j.sb) a wr->aS wr (U b 1)=M (.map<|M j.sb)/\aS wr (U b 2)=M j.mv/\wr.frozen? (U b 2)=bF:=by intro wr e;have i:oH wr b j.nb j.sb j.mv 1099511627776 j.reads j.yS:=(e.block b (am h.iN) E).trans h.iN;exact⟨by rw[bL i];rfl,by rw[bL i];rfl,dW i⟩
 have t:=Z k;have ac:=(k a<|J.refl _ _).2.1;have m:=Z<|λ(r:I)(D:ft)(e:J (λs=>s=j.sb) a r)(o:gI r j.sb D)=>h.XG e o;have l:∀(wr:I)(n:R)(d:n<z j.eU)(D:ft),J (λs=>s=j.sb) a wr->gI wr j.sb D->cA bG 147 #[.map<|M j.sb,j.eU[n].1] wr λx r=>x=aP (dE #[])/\gI r j.sb (se D j.eU[n].2)/\wr.grownBy r (M j.sb):=by intro wr n d D e o;have i:=(h.each j.eU[n]<|ar d).ay e (λs x v=>by obtain⟨C,w,p⟩:=(h.each j.eU[n]<|ar d).2.2 s x;exact h.safe.tag p v);exact Hg D j.eU[n].2 o i.1 (by have:=i.2.1;omega)
 obtain⟨g,c,f,u⟩:=gD l h.steps h.safe<|λs=>h.Ky (k:=s);clear k l h;generalize al:j.mv=mv at*;rcases c.2 with⟨rfl,W⟩|⟨au,V,C,rfl,_,P,ao,_,k,q⟩
 .have i:j.eU=[]:=aR W;clear g c u;go_in
  go_wp2_with(first
   |(go_at_call 146;refine L.mono ?_;rintro x K⟨rfl,hw⟩;subst K))
  go_loopw [15] (λQ wr=>Q=aq 0/\wr=a) (λ_ _=>0)
  case atStart=>exact⟨rfl,rfl⟩
  case round=>
   obtain⟨rfl,rfl⟩:=hrel;have F:=(t wr<|J.refl _ _).2.2;go_wp2;go_ret;exact⟨rfl,_,m wr j.sm (J.refl _ _) f,rfl,rfl⟩
 .have i:∀n(d:n<z j.eU)wr,J (λs=>s=j.sb) a wr->aS wr (U au n)=M j.eU[n].1:=by
   intro n d wr e;refine e.cell ?_ (u au rfl).1<|am P;have:=World.ownsRow.cellAt c n (by omega);rw[this];simp[d]
  have p:=Z i;clear i k q P c;go_in
  go_wp2_with(first
   |(go_at_call 146;refine L.mono ?_;rintro x K⟨rfl,hw⟩;subst K))
  go_loopw [15] (λQ wr=>∃n:R,n<=z j.eU/\Q=aq n/\J (λs=>s=j.sb) a wr/\∃D,gI wr j.sb D) (λQ _=>z j.eU-(intOf Q).toNat)
  case atStart=>exact⟨0,bB _,rfl,J.refl _ _,j.sm,f⟩
  case round=>
   obtain⟨n,an,rfl,e,D,o⟩:=hrel;obtain⟨X,O,F⟩:=t wr e;have N:=Z e;have S:=Z o;by_cases d:n<z j.eU
   .have ad:=p n d wr e;have T:=Z<|g wr n d D e o;clear e o;go_wp2_with(first
     |(go_at_call 147;refine T.mono ?_;rintro x w2⟨rfl,w,v⟩;have A:=Z w;have y:=Z v;clear w v))
    go_roundw;case rel=>exact⟨n+1,by omega,by go_num,N.trans (fy y)<|λa x=>.inl x,_,A⟩
    case measure=>simp[intOf];omega
   .clear e o;have v:n=z j.eU:=by omega
    subst v;go_wp2;go_ret;exact⟨rfl,_,m wr D N S,rfl,rfl⟩
def Ua{m:ft}(h:ft.get m v=M d):ft.put m v d=m:=by
 induction m with
 |nil=>cases h
 |cons p r a=>
  by_cases e:p.1=v
  .simp[ft.get,e]at h;simp[ft.put,e,<-h];rw[<-e]
  .simp[ft.get,e]at h;simp[ft.put,e,a h]
def cU.Zr{K:DK}{F F':dp}(o:cU a b K)(y:rj K.files F'.name=M F)(v:F'.pV=F.pV)(q:J (λm=>m=F.pV\/bY F.data=M m) a f)(hF:yj f F')(A:∀m,bY F'.data=M m->bY F.data=M m\/G (H a)<=m):rW a f b K {K with files:=qZ K.files F'}:=by
 obtain⟨_,c,r⟩:=kN y;have g:=o.files F c;have h:∀{m B:R}{u:Array aa}{s:R×R},a.heap[m]?=M (aw u B s)->B≠129->B≠5->¬(m=F.pV\/bY F.data=M m):=by rintro m B u s w C D(e|e);exact iA w g.1 C e;obtain⟨i,j⟩:=fK g.2.1 e;exact iA w j D rfl
 have d:∀{w:R}{B:ft},gI a w B->¬(w=F.pV\/bY F.data=M w):=by rintro w B u(e|e);exact u.tag g.1 e.symm;obtain⟨i,j⟩:=fK g.2.1 e;exact u.tag j rfl
 have l:∀t∈pT K.files F'.name,t∈K.files:=λt k=>(qF _ _).subset k;have n:=Fo o.apart y;refine⟨⟨?_,?_,o.safe.ay q<|d o.safe,o.ne,?_,?_,?_,?_⟩,?_,?_⟩;exact(q.block b (am o.iN)<|h o.iN (by decide)<|by decide).trans o.iN;show gI f K.nb ((qZ K.files F').map dp.nm);rw[Li,v,Ua r];exact o.now.ay q<|d o.now;refine q.own o.steps<|λm e=>?_;obtain⟨i,j⟩:=fK o.steps e;exact h j (by decide) (by decide);intro x p;refine(o.each x p).ay q<|λm e=>?_;obtain⟨i,s,j⟩:=(o.each x p).2.2 m e;exact h j (by decide) (by decide);intro x p;rcases Ay p with rfl|p;exact hF;have u:=o.files x<|l x p;refine u.ay q ?_ ?_;rintro(e|e);exact(n x p).1 e.symm;obtain⟨i,j⟩:=fK g.2.1 e;exact iA u.1 j (by decide) rfl;intro m w;rintro(e|e);obtain⟨i,j⟩:=fK u.2.1 w;exact iA j g.1 (by decide) e;exact(n x p).2 m e w;refine El (o.apart.sublist<|qF _ _)<|λt k=>⟨by rw[v];exact(n t k).1,λm e u=>?_⟩;rcases A m e with w|w;exact(n t k).2 m w u;have:=(aI (o.files t<|l t k).2.1 m u).2;omega
 .exact q.mono (by
   rintro x(rfl|e)
   .exact .inl<|.inr<|.inr<|.inr<|.inr<|.inr ⟨F,c,.inl rfl⟩
   .exact .inl (.inr (.inr (.inr (.inr (.inr ⟨F,c,.inr e⟩))))))
 rintro m(e|e|e|e|e|⟨w,u,e⟩);exact .inl<|.inl e;exact .inl<|.inr<|.inl e;exact .inl<|.inr<|.inr<|.inl e;exact .inl<|.inr<|.inr<|.inr<|.inl e;exact .inl<|.inr<|.inr<|.inr<|.inr<|.inl e;rcases Ay u with rfl|u;rcases e with e|e;exact .inl<|.inr<|.inr<|.inr<|.inr<|.inr ⟨F,c,.inl<|v.symm.trans e⟩;rcases A m e with e|e;exact .inl<|.inr<|.inr<|.inr<|.inr<|.inr ⟨F,c,.inr e⟩;exact .inr e;exact .inl<|.inr<|.inr<|.inr<|.inr<|.inr ⟨w,l w u,e⟩
def PD(c:ab)(F:dp)(m:cU a b j)(i:rj j.files c=M F)(n:z F.bytes<=140737488351232):cA bG 90 #[aA b,aj c] a λl k=>l=aP .nilIface/\∃g,rW a k b j g/\g.files=qZ j.files {F with safe:=z F.bytes}/\g.eU=j.eU:=by
 obtain⟨h,e,d⟩:=kN i;have hF:=m.files F e;have f:bY F.data≠M F.pV:=zC hF.2.1 hF.1 (by decide);apply(TA _ c F.pV F.bytes F.safe m.iN m.now d ⟨F.data,hF.1,eQ.bytes hF.2.1,f⟩ n).mono;rintro l k⟨rfl,_,rfl⟩;refine⟨rfl,_,m.Zr (F:=F) (F':={F with safe:=z F.bytes}) (by rw[show({F with safe:=z F.bytes}:dp).name=F.name from rfl,h];exact i) rfl ((J.refl _ a).setCell F.pV 1 _<|.inl<|.inl rfl) ⟨?_,?_,hF.2.2⟩<|λo l=>.inl l,rfl,rfl⟩;show(ct a (U F.pV 1)<|aq<|z F.bytes).heap[F.pV]?=_;rw[aT hF.1];rfl;exact World.ownsRow.kept hF.2.1 (df a F.pV 1 _)<|.inr f
def Wn(c:ab)(F:dp)(h:cU a b j)(f:rj j.files c=M F)(i:z F.bytes<=140737488351232):cA bG 153 #[aA b,aj c] a λl k=>l=aP (dE #[aq<|z F.bytes,.nilIface])/\k=a:=by
 obtain⟨g,e,d⟩:=kN f;have hF:=h.files F e;exact TH _ c F.pV F.bytes F.safe h.iN h.now d ⟨F.data,hF.1,eQ.bytes hF.2.1,zC hF.2.1 hF.1<|by decide⟩ i
def uz(a:cD dp):R:=(a.map (·.bytes.length)).sum
def qJ.left_eq{m left:ft}(l:qJ a b c m left):a.rangeLeft b c=z left:=by
 obtain⟨k,d,e,seen,j,g,_,_,h,_,_,_,i⟩:=l;simp only[World.rangeLeft,g,h];have:=bW z i;simpa using this
def EC{L:cD dp}{b a:ft}{p:ab×aa}(h:L.map dp.nm=b++p::a):∃A f C,L=A++f::C/\b=A.map dp.nm/\p=f.nm/\a=C.map dp.nm:=by
 obtain⟨A,D,rfl,c,d⟩:=iF.1 h;obtain⟨f,C,rfl,e,g⟩:=nI.1 d;exact⟨A,f,C,rfl,c.symm,e.symm,g.symm⟩
def eQ.shape(h:eQ a b d o):∃x c,d=ah x (z o) c:=aB h
def Im{db:R}{K:DK}(n:ab)(F:dp)(bn e y:R)(f:eP){w:I}(h:cU w db K)(E:rj K.files n=M F)(bb:uz K.files+z f<=1099511627776)(av:kG f)(C:∀bh X,(f.map<|Value.int .u8)[bh]?=M X->aS w (U bn<|e+bh)=M X)(B:bn<G (H w))(bo:z F.bytes<=1099511627776):cA bG 122 #[aA db,aj n,bE bn e (z f) y] w λA w'=>A=aP .nilIface/\∃o,rW w w' db K o/\(∃bi,o.files=qZ K.files {F with data:=bi,bytes:=F.bytes++f})/\o.eU=K.eU:=by
 obtain⟨i0,hi,bd,bf,bg⟩:=cL qC;obtain⟨ba,P,N⟩:=kN E;subst ba;have HF:=Z<|vu _ F.name (U F.pV 0) h.iN h.now N;have bp:=cellAt h.iN 0 rfl;obtain⟨HD,v,HB⟩:=dI (λ(wr:I)(r:J az w wr)=>h.ay r<|λ_ _=>id) h.now<|λ(wr:I)(r:J az w wr)bh X(hj:(f.map<|Value.int .u8)[bh]?=M X)=>r.cell (C bh X hj) id B;clear h C;go_in
 go_wp2_with(first
  |(go_at_call 144;refine HF.mono ?_;rintro A w1⟨rfl,hw⟩;subst w1)
  |(at_range;refine ux _ rfl _ 70 rfl 9 125 underlying70 K.nb _ rfl v ?_;intro w0 k L bu;have ao:=Z k;have u:=Z L;clear k L))
 go_frame
 go_loopw [9] (λX wr=>∃(bl:cD dp)(a:R),(∀ac∈bl,ac∈K.files)/\X=aq a/\a+uz bl=uz K.files/\qJ wr K.nb (G<|H w) (K.files.map dp.nm) (bl.map dp.nm)/\J az w wr) (λ_ wr=>wr.rangeLeft K.nb<|G<|H w)
 case atStart=>exact⟨K.files,0,λ_ h=>h,rfl,by simp,ao,J.dR u<|by simp⟩
 case round=>
  obtain⟨bl,a,hL,rfl,l,O,r⟩:=hrel;obtain⟨t,x,bk,HL⟩:=gD O r l hL;clear O r hL;go_wp2_with(first
   |(at_next;refine vN _ rfl _ rfl K.nb (G (H w)) _ _ rfl t ?_ ?_))
  .intro ax;obtain rfl:bl=[]:=by simpa using ax
   have bc:a=uz K.files:=by simpa[uz]using l
   have g:=HD wr x;have hF:=g.files F P;have bq:=cellAt g.iN 3 rfl;have D:=cellAt hF.1 0 rfl;have Q:bY F.data≠M F.pV:=zC hF.2.1 hF.1 (by decide);have c:∀i j,j.ownsRow 0 5 1 i (z F.bytes+z f) (F.bytes.map (Value.int .u8)++f.map (Value.int .u8))->eY wr j F.data i->aS j (U F.pV 0)=M F.data/\j.frozen? (U F.pV 0)=bF/\∃o,rW w (ct j (U F.pV 0) i) db K o/\(∃bi,o.files=qZ K.files {F with data:=bi,bytes:=F.bytes++f})/\o.eU=K.eU:=by
    intro i j W q;have b:j.heap[F.pV]?=M (aw #[F.data,aq F.safe] 129 (0,0)):=(q.grown.block F.pV (am hF.1)<|λA=>Q A.symm).trans hF.1;have V:bY i≠M F.pV:=zC W b (by decide);refine⟨by rw[bL b];rfl,dW b,_,(HD w<|J.refl _ _).Zr (F:=F) (F':={F with data:=i,bytes:=F.bytes++f}) E rfl ?_ ⟨?_,?_,hF.2.2.append av⟩ ?_,⟨i,rfl⟩,rfl⟩
    .exact((x.mono (T:=λad=>ad=F.pV\/bY F.data=M ad) cN).trans (J.dR (S:=λad=>bY F.data=M ad) q.grown<|λad A=>.inl A)<|λbi A=>.inl<|.inr A).setCell F.pV 0 i<|.inl<|.inl rfl
    .show(ct j (U F.pV 0) i).heap[F.pV]?=_;rw[aT b];rfl
    .exact eQ.of (World.ownsRow.kept W (df j F.pV 0 i)<|.inr V) (by simp)<|by simp
    .intro ad A;rcases q.uq with e'|⟨au,e',bt⟩
     .exact .inl<|e'.symm.trans A
     .have:au=ad:=by
       have e2:bY i=M ad:=A;rw[e']at e2;simpa using e2
      exact .inr (by have:=x.size;omega)
   have s:=Z c;have HO:=Z hF.2.1;obtain⟨bi,bx,p⟩:=eQ.shape hF.2.1;have bm:¬((1099511627776-a:Y)<z f):=by omega
   clear c g hF Q;generalize F.data=fd at*;subst p;have al:=Z<|HB wr x;go_wp2_with(first
    |(at_builtin;go_loud(refine bV _ rfl (.tmp 54) (.tmp 55) 126 rfl 0 5 i0 (.int .u8 0) 1 1 underlying126 hi bd bf bg rfl (by decide) _ (z F.bytes) (F.bytes.map (Value.int .u8)) rfl HO (U bn e) (z f) y (f.map (Value.int .u8)) rfl (by simp) (λbh X hj=>by rw[dB];exact al bh X hj) (by intro X hu;simp only[bz]at hu;obtain⟨bv,_,rfl⟩:=hu;rfl) (by omega) (by omega) (bB _) ?_;intro v2 j d m;obtain⟨br,bs,c⟩:=s v2 j d m;obtain⟨x2,c2,rfl⟩:=aB d;have an:=Z c;clear d m c)))
   go_ret;exact⟨rfl,an⟩
  .intro bc pk pv W w1 j b i Q an;obtain⟨ad,ac,al,rfl,rfl,V,rfl⟩:=EC j;simp only[dp.nm,po,hZ]at V;obtain⟨rfl,rfl⟩:=V;have s:ac∈K.files:=HL ac (by simp);have c:J az w w1:=x.trans (fy i) (by rintro bi rfl;exact .inr<|ai _);have g:=HD w1 c;have hF:=g.files ac s;have D:=cellAt hF.1 0 rfl;obtain⟨bi,bx,p⟩:=eQ.shape hF.2.1;rw[p]at D;have ax:uz (ad++ac::al)=uz (ad++al)+z ac.bytes:=by simp[uz];omega
   obtain⟨m,d,q⟩:=dI (show(λau=>au∈K.files)=(λau=>au∈K.files)from rfl) b c;clear j b i Q g hF c m;go_wp2;go_roundw;case rel=>exact⟨ad++al,a+z ac.bytes,λau E=>HL au (by simp at E|-;rcases E with h|h<;>simp[h]),by go_num,by omega,by simpa using ae d,q⟩
   case measure=>rw[(ae d).left_eq,(ae t).left_eq];simp
def Bytes.cells(r:Bytes a (bE b c (z o) l) o):∀j u,(o.map<|Value.int .u8)[j]?=M u->aS a (U b<|c+j)=M u:=by
 rcases r with⟨m,_⟩|⟨q,k,e,m,_,n⟩;cases m;cases m;intro j u h;rw[dD]at h;obtain⟨x,i,rfl⟩:=qa.1 h;have d:j<z o:=(fF.1 i).1;rw[n j d,i];rfl
def Ig{v:aa}{bs:eP}{w:I}(h:Bytes w v bs)(P:z bs<=1099511627776)(g:∀q,bY v=M q->q<G (H w)):cA bG 54 #[v] w λO t=>∃s,O=aP s/\eQ t (G<|H w) s bs/\Below (G<|H w) w t:=by
 obtain⟨K,D,m,o,p⟩:=cL qC;rcases h.shape with⟨rfl,rfl⟩|⟨y,e,l,rfl,F⟩;(.have C:∀w:I,(binOp .eql 126 aG aG).run bG w=.ok (aO bX) w:=λ_=>rfl;(go_in);go_wp2;go_ret;exact⟨_,rfl,eQ.nil _ _,Below.refl _ _⟩)
 .have A:y<G (H w):=g y rfl;have u:=Z h.cells;have i:(cF w<|aw #[] 5).ownsRow (G<|H w) 5 1 (bE (G<|H w) 0 0 0) 0 []:=World.ownsRow_lit w #[] 0 (ai _) (by decide) rfl;have x:=Z i;have C:∀(w:I)a n c,(binOp .eql 126 (ah (M a) n c) aG).run bG w=.ok (aO bF) w:=λ_ _ _ _=>rfl;clear h g i;go_in
  go_wp2_with(first
   |(at_builtin;refine bV _ rfl (.tmp 5) (.tmp 6) 126 rfl (G (H w)) 5 K (.int .u8 0) 1 1 underlying126 D m o p rfl (by decide) _ 0 [] rfl x (U y e) (z bs) l (bs.map (Value.int .u8)) rfl (by simp) (λQ N E=>by rw[dB,fE A];exact u Q N E) (by intro N r;simp only[bz]at r;obtain⟨L,_,rfl⟩:=r;rfl) (by omega) (by omega) (by simp) ?_;intro S V b d;have j:=Z b;have k:=Z d;clear b d))
  go_ret;refine⟨_,rfl,eQ.of j (by simp) (by simp),?_⟩;have:=k.below (B:=G<|H w) (by simp) (by rintro q⟨⟩;exact ai _);exact⟨this.os,this.tape,this.output,aF (by simp) this.size,λq b=>(this.block q b).trans<|Below.heap_alloc w _ q b⟩
def cU.Dp{K:DK}(h:cU a b K)(r m:Y):rW a (ct (ct a (U b 6)<|aq r) (U b 7)<|aq m) b K {K with reads:=r,yS:=m}:=by
 have c:J (λk=>k=b) a (ct (ct a (U b 6)<|aq r) (U b 7)<|aq m):=(ij b a).setCell b 7 _<|.inl rfl;have g:(ct a (U b 6)<|aq r).heap[b]?=M (aw #[.map<|M K.nb,.map<|M K.sb,K.mv,aq 1099511627776,aq 0,aq 0,aq r,aq K.yS] 73 (0,0)):=by rw[aT h.iN];rfl
 refine⟨⟨?_,h.now.ay c ?_,h.safe.ay c ?_,h.ne,c.own h.steps ?_,?_,?_,h.apart⟩,c.mono<|λx e=>.inl<|.inl e,λk e=>.inl e⟩;unfold oH;rw[aT g];rfl;exactλe=>h.now.tag h.iN e.symm;exactλe=>h.safe.tag h.iN e.symm;exactλk e=>(h.Ky e).2.2;intro x i;refine(h.each x i).ay c<|λk e=>?_;obtain⟨d,j,f⟩:=(h.each x i).2.2 k e;exact iA f h.iN (by decide);intro j i;have hF:=h.files j i;refine hF.ay c (iA hF.1 h.iN<|by decide)<|λk e=>?_;obtain⟨d,f⟩:=fK hF.2.1 e;exact iA f h.iN<|by decide
def Bu(t:ab)(F:dp)(q A:R)(h:cU a b j)(hg:rj j.files t=M F)(hl:z F.bytes<=1099511627776)(W:q<=z F.bytes)(hn:A<=1099511627776):cA bG 154 #[aA b,aj t,aq q,aq A] a λf E=>∃D,f=aP (dE #[D,.nilIface])/\eQ E (G<|H a) D ((F.bytes.drop q).take A)/\∃w,rW a E b j w/\w.files=j.files/\w.eU=j.eU/\∀k,w.bw b k->j.bw b k:=by
 obtain⟨S,m,r⟩:=kN hg;have bb:=cellAt h.iN 6 rfl;have bf:=dW (i:=6) h.iN;have v:∀u,aS (ct a (U b 6)<|aq u) (U b 7)=M (aq j.yS)/\(ct a (U b 6)<|aq u).frozen? (U b 7)=bF:=by intro u;(have s:(ct a (U b 6)<|aq u).heap[b]?=M (aw #[.map<|M j.nb,.map<|M j.sb,j.mv,aq 1099511627776,aq 0,aq 0,aq u,aq j.yS] 73 (0,0)):=by rw[aT h.iN];rfl);exact⟨by rw[bL s];rfl,dW s⟩
 have bc:=λu=>(v u).1;have bg:=λu=>(v u).2;have HF:=Z<|λu L=>vu _ t (U F.pV 0) (h.Dp u L).ok.iN (h.Dp u L).ok.now r;have P:∀u L,aS (ct (ct a (U b 6)<|aq u) (U b 7)<|aq L) (U F.pV 0)=M F.data:=λu L=>by rw[bL ((h.Dp u L).ok.files F m).1];rfl
 have o:=(h.files F m).2.1
 have c:=Z (λ(u L:Y)(ad:aa)(N:eP)(hb:Bytes a ad N)(T:z N<=1099511627776)(X:∀k,bY ad=M k->bY F.data=M k)=>
  have Q:=h.Dp u L
  have O:Bytes (ct (ct a (U b 6)<|aq u) (U b 7)<|aq L) ad N:=by
   have s:bY F.data≠M b:=zC o h.iN (by decide);have B:bY ad≠M b:=λf=>s<|X b f;exact(hb.grown (df a b 6 _)<|.inl B).grown (df _ b 7 _)<|.inl B
  show cA bG 54 #[ad] (ct (ct a (U b 6)<|aq u) (U b 7)<|aq L) λf E=>∃D,f=aP D/\eQ E (G<|H a) D N/\∃w,rW a E b j w/\w.files=j.files/\w.eU=j.eU/\∀k,w.bw b k->j.bw b k from(Ig O T (λk f=>by
   have:=(aI o k (X k f)).2;simpa[World.setCell]using this)).mono (by
    rintro f E⟨D,rfl,B,s⟩;have C:G (H<|ct (ct a (U b 6)<|aq u) (U b 7)<|aq L)=G (H a):=by simp[World.setCell]
    rw[C]at B s;have ht:J az (ct (ct a (U b 6) (aq u)) (U b 7) (aq L)) E:=J.aV (by rw[C];exact s);exact⟨D,rfl,B,_,⟨Q.ok.ay ht (λ_ _=>id),Q.ay.cw ht,Q.bw⟩,rfl,rfl,λ_ f=>f⟩))
 have y:=eQ.bytes o;rcases(show _ from o).2 with⟨g,K⟩|⟨av,x,ax,g,_,_,bi,bd,_,_⟩
 .have s:F.bytes=[]:=aR K;have C:q=0:=by rw[s]at W;simpa using W
  subst C;rw[g]at P;have O:(F.bytes.drop 0).take A=[]:=by rw[s];simp
  rw[O];have l:=Z (show∀ac,bY (ah none 0 0)=M ac->bY F.data=M ac fromλac f=>by cases f);clear h o y g S m r hg O s W hl;rcases fY A with B|B
  .subst B;by_cases hm:j.yS<((0:R):Y);all_goals
    go_in
    go_wp2_with(first
     |(go_at_call 144;refine(HF _ _).mono ?_;rintro f V⟨rfl,hw⟩;subst V)
     |(go_at_call 54;refine(c _ _ aG [] (.inl ⟨rfl,rfl⟩) (bB _) l).mono ?_;rintro f w2⟨v2,rfl,e,d⟩;have n:=Z e;have p:=Z d;clear e d))
    go_ret2
    exact⟨_,rfl,n,p⟩
  .by_cases hm:j.yS<A;all_goals
    go_in
    go_wp2_with(first
     |(go_at_call 144;refine(HF _ _).mono ?_;rintro f V⟨rfl,hw⟩;subst V)
     |(go_at_call 54;refine(c _ _ aG [] (.inl ⟨rfl,rfl⟩) (bB _) l).mono ?_;rintro f w2⟨v2,rfl,e,d⟩;have n:=Z e;have p:=Z d;clear e d))
    go_ret2
    exact⟨_,rfl,n,p⟩
 .have H1:∀k,q+k<=z F.bytes->Bytes a (bE av q k<|x-q) ((F.bytes.drop q).take k):=by
   intro k X;rw[g]at y;have v:=y.BR W;rw[cZ]at v;have h2:=Bytes.take (bs:=F.bytes.drop q) (by simpa using v) (n:=k) (by simp;omega);exact h2
  have H0:∀k,q+k<=z F.bytes->q=x->Bytes a (bE av 0 k 0) ((F.bytes.drop q).take k):=by
   intro k X f;obtain rfl:k=0:=by omega
   exact .inr ⟨av,0,0,by simp,by simp,λk X=>by simp at X⟩
  have au:∃k,k=min A (z F.bytes-q)/\q+k<=z F.bytes/\(F.bytes.drop q).take k=(F.bytes.drop q).take A:=⟨min A<|z F.bytes-q,rfl,by omega,by rw[List.take_eq_take_iff];simp⟩;obtain⟨k,X,O,T⟩:=au;have C:=H1 k O;have B:=H0 k O;rw[T]at C B;have Q:z ((F.bytes.drop q).take A)<=1099511627776:=by simp;omega
  obtain⟨al,ad,an⟩:=dI C B Q;have s:∀(o b a ac:R),bY (bE av o b a)=M ac->bY F.data=M ac:=by rw[g];exactλ_ _ _ ac f=>f
  have l:=Z s;rw[g]at P;clear C B Q h o y H1 H0 s g S m r hg T;have ba:q<=x:=by omega
  by_cases hm:j.yS<A;all_goals
   by_cases ao:q=x;all_goals
    by_cases bh:A<=z F.bytes-q;all_goals
     go_in
     go_wp2_with(first
      |(go_at_call 144;refine(HF _ _).mono ?_;rintro f V⟨rfl,hw⟩;subst V)
      |(go_at_call 54;refine(c _ _ _ ((F.bytes.drop q).take A) (by
       have v:=ae al;have K:=ae ad;first
        |((have f:k=A:=by omega);rw[f]at K;exact K<|by omega)
        |((have f:k=0:=by omega);rw[f]at K;exact K<|by omega)
        |((have f:k=A:=by omega);rw[f]at v;exact v)
        |((have f:k=z F.bytes-q:=by omega);rw[f]at v;exact v)) an (λac f=>l _ _ _ ac f)).mono ?_;rintro f w2⟨v2,rfl,e,d⟩;have n:=Z e;have p:=Z d;clear e d))
     go_ret2
     exact⟨_,rfl,by first|exact n|(have h9:=ae n;rw[ao]at h9;exact h9),p⟩
def rN(b:R):DK:=⟨b,b+1,aG,0,0,[],[],[]⟩
def Hj(w:I):gI (cF w<|.map #[] 0) (G<|H w) []:=⟨#[],0,fG _ _,rfl,wL 0⟩
def Cw(w:I):cA bG 9 #[aq 1099511627776] w λe b=>e=aP (aA<|G (H w)+2)/\cU b (G (H w)+2) (rN<|G<|H w)/\Below (G<|H w) w b:=by
 have d:=@tS bG;have a:cU (cF (cF (cF w<|.map #[] 0)<|.map #[] 0)<|aw #[.map<|M<|G<|H w,.map<|M<|G (H w)+1,aG,aq 1099511627776,aq 0,aq 0,aq 0,aq 0] 73) (G (H w)+2) (rN<|G<|H w):=by refine⟨?_,((Hj w).alloc _).alloc _,?_,by simp[rN],bN _ _ _ _,by simp[rN],by simp[rN],by simp[rN]⟩;have:=fG (cF (cF w<|.map #[] 0)<|.map #[] 0)<|aw #[.map<|M<|G<|H w,.map<|M<|G (H w)+1,aG,aq 1099511627776,aq 0,aq 0,aq 0,aq 0] 73;simpa[oH,rN]using this;have:=(Hj<|cF w<|.map #[] 0).alloc<|aw #[.map<|M<|G<|H w,.map<|M<|G (H w)+1,aG,aq 1099511627776,aq 0,aq 0,aq 0,aq 0] 73;simpa[rN]using this
 have c:=Z a;clear a;go_in
 go_wp2;go_ret;exact⟨rfl,c,((((Below.refl _ w).alloc (ai _) _).alloc (by simp) _).alloc (by simp;omega) _)⟩
def Ek:∀{m:ft}{k:ab},m.get k=none->m.put k d=m++[(k,d)]
 |[],k,_=>rfl
 |p::r,k,h=>by
  unfold ft.get at h;by_cases e:p.1=k
  .rw[dt e]at h;cases h
  .rw[dh e]at h;unfold ft.put;rw[dh e,Ek h];rfl
def Mk{v:aa}:∀{m:ft}{k:ab},m.get k=none->ft.get (m++[(k,v)]) k=M v
 |[],k,_=>by simp[ft.get]
 |p::r,k,h=>by
  unfold ft.get at h;by_cases e:p.1=k
  .rw[dt e]at h;cases h
  .rw[dh e]at h;show ft.get (p::(r++[(k,v)])) k=M v;unfold ft.get;rw[dh e];exact Mk h
def Ml{a:cD dp}(h:v∉a.map dp.name):ft.get (a.map dp.nm) v=none:=by
 induction a with
 |nil=>rfl
 |cons f a b=>
  rw[aZ,aD,not_or]at h;rw[aZ];unfold ft.get;rw[dh<|λe=>h.1 e.symm];exact b h.2
def rB{m:ft}{e:Array aa}{t:TypeId}{g:R×R}(k:gI a b m)(d:a.heap[c]?=M (aw e t g)):c≠b:=by
 rintro rfl;obtain⟨j,i,h,_⟩:=k;rw[h]at d;cases d
def cU.add{K:DK}{f:dp}{j:ft}(l:cU a b K)(v:K.eU=[])(r:J (λk=>k=K.nb\/k=K.sb) a B)(m:gI B K.nb (K.files.map dp.nm++[f.nm]))(i:gI B K.sb j)(u:yj B f)(y:G (H a)<=f.pV)(t:∀k,bY f.data=M k->G (H a)<=k):cU B b {K with files:=K.files++[f],sm:=j}/\∀k,DK.bw b {K with files:=K.files++[f],sm:=j} k->K.bw b k\/k=f.pV\/bY f.data=M k:=by
 have c:∀{k:R}{b:Array aa}{t:TypeId}{d:R×R},a.heap[k]?=M (aw b t d)->¬(k=K.nb\/k=K.sb):=λh g=>g.elim (rB l.now h)<|rB l.safe h;refine⟨⟨?_,?_,i,l.ne,?_,?_,?_,?_⟩,?_⟩;exact(r.block b (am l.iN)<|c l.iN).trans l.iN;rw[aQ];exact m;exact r.own l.steps (λk h g=>by obtain⟨n,o⟩:=fK l.steps h;exact c o g);show∀x∈K.eU,_;rw[v];simp;intro s d;rcases ap.1 d with d|d;have e:=l.files s d;exact e.ay r (c e.1) (λk h g=>by obtain⟨n,o⟩:=fK e.2.1 h;exact c o g);obtain rfl:=bI.1 d;exact u;show(K.files++[f]).Pairwise np;rw[bR];refine⟨l.apart,List.pairwise_singleton _ _,λs d w p=>?_⟩;obtain rfl:=bI.1 p;have e:=l.files s d;refine⟨λA=>by have:=am e.1;omega,λk h q=>?_⟩;have:=(aI e.2.1 k h).2;have:=t k q;omega;rintro k(g|g|g|g|⟨x,p,g⟩|⟨s,d,g⟩);exact .inl<|.inl g;exact .inl<|.inr<|.inl g;exact .inl<|.inr<|.inr<|.inl g;exact .inl<|.inr<|.inr<|.inr<|.inl g;exact .inl<|.inr<|.inr<|.inr<|.inr<|.inl ⟨x,p,g⟩;rcases ap.1 d with d|d;exact .inl<|.inr<|.inr<|.inr<|.inr<|.inr ⟨s,d,g⟩;obtain rfl:=bI.1 d;exact .inr<|g.imp Eq.symm id
def As{P:Program}{r:Oper}{h:Act}{K:Act->I->Prop}{Q:Exit->Act->I->Prop}(i y j:Operand)(x:TypeId)(g:r.op=Op.mapUpdate x i y j)(v A:TypeId)(o:P.underlying x=M (.map v A))(m:P.underlying v=M .string)(k:R)(w:ft)(n:h.eval i=.map (M k))(B:gI a k w)(b:ab)(c:aa)(q:h.eval y=aj b)(p:h.eval j=c)(l:∀d,gI d k (w.put b c)->a.grownBy d (M k)->G (H d)=G (H a)->K (h.put r.dst iE) d):Oper.wp P r h a K Q:=by
 obtain⟨d,e,s,t,u⟩:=Cp o m B b c;unfold Oper.wp;simp[execOp,g,n,q,p,e,Result.andThen];exact l d s t u
