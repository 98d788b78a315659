import Derived.Deep.LoopGhost
import Derived.Laws.Rows
import Derived.LoopIn
import Derived.LoopNIn
import Derived.RangeFuncBound
import Derived.RangeFuncLeaves
import Derived.RangeFuncNested
import Derived.Shelf.Abstract
import Derived.Shelf.AbstractIn
import Derived.Shelf.RegionOpen
import Derived.Sort.LoopGhostIn
import Derived.TacticsInMore
import Derived.Test.YtbgjhlkoccmfaaaGreatDoorC1
open _root_ renaming List.length→y,Option.some→M,Array.size→G,Go.World.heap→H,Go.Value.ownBlock→cN,Go.World.cell?→bA,Go.World.setCell→cP,Go.World.alloc→dw,Bool.false→bD,Bool.true→cz,Nat→R,Int→Y,List→cy,Go.Calls→cR,Go.undef→jm,Go.Proofs.Tryz.prog→bN,Go.Value.slice→am,Go.Value.string→aw,Go.Value.bool→aO,Go.Value.tuple→de,Go.Value.agg→ef,Go.World.frozen?→iH,Go.World.ownsRow→fD,Go.Value.nilIface→ib,Go.Act.put→ig,Nat.reduceAdd→jZ,Go.RowKit.Below→gC,Bool→eN,Option.none→dE,rfl→z,Or.inl→J,Or.inr→bj
namespace Go.Proofs.YtbgjhlkoccmfaaaGreatDoor
open ChangeShapes WideShapes RowKit Proofs.Tryz List
set_option maxHeartbeats 16000000
set_option linter.all false
set_option maxRecDepth 100000
variable{a e P:Z}{b c k n T:R}{d w:ae}{i:dB}{m:eD}{W:fB}{r:Y}{B:af}{O:iF}{Q:iE}{S:E}{V:eN}
structure ju where
 D:Z->Prop
 F:R->Prop
 l:∀{w w':Z}{S:fB},D w->I S w w'->(∀k,S k->¬F k)->D w'
 lt:∀{w:Z}{k:R},D w->F k->k<G (H w)
 Xp:Prop
variable{s:ju}
def kZ(V:ju)(b:R)(S:fB)(w a:Z):Prop:=G (H w)<=G (H a)/\∀k,((k<b/\¬V.F k)\/S k)->a.heap[k]?=w.heap[k]?
def kZ.bI(V:ju)(a:R)(S:fB)(w:Z):kZ V a S w w:=⟨aq _,λ_ _=>rfl⟩
def kZ.aj{S:fB}{d b e:Z}(h:kZ s c S d b)(k:kZ s c S b e):kZ s c S d e:=⟨aR h.1 k.1,λi a=>(k.2 i a).trans<|h.2 i a⟩
def kZ.aT{S T:fB}{e b:Z}(h:kZ s c S e b)(a:∀k,T k->S k):kZ s c T e b:=⟨h.1,λi d=>h.2 i<|d.imp id<|a i⟩
def kZ.u{a b:Z}(h:kZ s c W a b){k i:R}(g:W k\/(k<c/\¬s.F k))(e:bA a (X k i)=M d):bA b (X k i)=M d:=(dZ (w:=a)<|h.2 k g.symm).trans e
def I.bM{V:ju}{n0:R}{S T:fB}(h:I T a e)(i:n0<=G (H a))(c:∀k,S k->k<G (H a)/\¬T k)(g:∀k,T k->k<n0->V.F k):kZ V n0 S a e:=by
 refine⟨h.D,λk d=>?_⟩;obtain⟨b,f⟩|b:=d;exact h.A k U aI;exact h.A k (c k b).1 (c k b).2
theorem aQ{w:Z}(o:Obj)(h:c=G (H w)):(dw w o).heap[c]?=M o:=by
 subst h;show(w.heap.push o)[G<|H w]?=M o;simp
theorem gw{w:Z}(o:Obj)(h:b<G (H w)):(dw w o).heap[b]?=w.heap[b]?:=Below.heap_alloc w o b h
def kU(u:ae)(h:b≠c):(cP a (X c k) u).heap[b]?=a.heap[b]?:=Below.heap_setCell a (X c k) u b h
theorem gJ{b i:R}:G (H<|cP a (X b i) d)=G (H a):=sM
abbrev fE(w:Z)(b:R)(v:ae)(t:TypeId):Prop:=w.heap[b]?=M (aK #[v] t (0,0))
theorem fE.u{w:Z}{b:R}{t:TypeId}(h:fE w b d t):bA w (X b 0)=M d:=by rw[cE h];rfl
theorem fE.bS{w:Z}{t:TypeId}(h:fE w b d t):iH w (X b 0)=bD:=cV h
def fE.gq{v:ae}{t:TypeId}(h:fE e b v t)(u:ae):fE (cP e (X b 0) u) b u t:=(aY h).trans rfl
def fE.dN{t:TypeId}(h:fE a b d t){b' i:R}(u:ae)(c:b≠b'):fE (cP a (X b' i) u) b d t:=(kU u c).trans h
theorem fE.aE{w:Z}{t:TypeId}(h:fE w b d t)(o:Obj):fE (dw w o) b d t:=(gw o<|az h).trans h
def jP(w:Z)(b:R)(x:E):Prop:=w.heap[b]?=M (aK #[aw x.D,aw x.l,aO x.dP,bw x.f] 223 (0,0))
def jP.bU{x:E}(h:jP a b x):bA a (X b 0)=M (aw x.D)/\bA a (X b 1)=M (aw x.l)/\bA a (X b 2)=M (aO x.dP)/\bA a (X b 3)=M (bw x.f):=by
 refine⟨?_,?_,?_,?_⟩<;>rw[cE h]<;>rfl
def jP.bS{w:Z}{b i:R}(h:jP w b S):iH w (X b i)=bD:=cV h
def jP.aE{w:Z}{x:E}(h:jP w b x)(o:Obj):jP (dw w o) b x:=(gw o<|az h).trans h
def jP.aA{w w':Z}{b:R}{x:E}{S:fB}(h:jP w b x)(c:I S w w')(a:¬S b):jP w' b x:=(c.A b (az h) a).trans h
def jP.gK{b:R}(h:jP a b S)(c:E):jP (cP (cP (cP (cP a (X b 0)<|aw c.D) (X b 1)<|aw c.l) (X b 2)<|aO c.dP) (X b 3)<|bw c.f) b c:=(aY<|aY<|aY<|aY h).trans z
def gY{c:Func}{p u v:Tmp}(h:c.results=#[.cell p 223,.tmp u,.tmp v])(a:Array ae)(w:Z)(g:R)(x:E)(t:TypeId)(d:R×R)(i:a.getD p jm=aJ g)(e:w.heap[g]?=M (aK #[aw x.D,aw x.l,aO x.dP,bw x.f] t d)):(results c a).run bN w=.ok (de #[x.t,a.getD u jm,a.getD v jm]) w:=by
 have b:a[p]?.getD jm=aJ g:=dV i;have f:=kP (P:=bN) w g t 223 #[aw x.D,aw x.l,aO x.dP,bw x.f] d _ e underlying223 z aH;simp[results,h,b,asAddr,f,Result.andThen,E.t]
def yt:ae:=ef #[aw ⟨#[]⟩,aw ⟨#[]⟩,aO bD,bw 0]
structure wU(V:ju)(n0:R)(S:fB)(w:Z):Prop where
 D:n0<=G (H w)
 f:∀k,V.F k->k<n0
 bZ:∀k,S k->n0<=k/\k<G (H w)
def tB(w:Z)(q:R):Prop:=∃c,rC w q c/\1<=c
def tB.aA{w w':Z}{q:R}{S:fB}(h:tB w q)(e:I S w w')(g:∀k,S k->k=q->∃c t r,w.heap[k]?=M (aK c t r)/\t≠157):tB w' q:=by
 let⟨c,⟨n,h,d⟩,a⟩:=h;refine⟨c,⟨n,(e.A q (az h)<|λc=>?_).trans h,d⟩,a⟩;grind
def Es(V:ju)(w a:Z)(S:fB)(e:Ending)(r:ae->ae):Prop:=V.Xp/\∃q,e=aN (r<|eW q)/\tB a q/\V.D a/\I S w a
abbrev bE(v:ae):ae:=de #[yt,aO bD,v]
def Dp(V:ju)(c g:R)(d:Array ae):dB->fB->Z->Prop
 |[],S,w=>wU V c S w/\∀b,kZ V c S w b->V.D b->cR bN g d b λf a=>(f=aN (de #[yt,aO bD,ib])/\V.D a/\I (λk=>S k\/V.F k) b a)\/Es V b a (λk=>S k\/V.F k) f bE
 |x::l,S,w=>wU V c S w/\∀b,kZ V c S w b->V.D b->cR bN g d b λf a=>(f=aN (de #[x.t,aO cz,ib])/\V.D a/\I (λk=>S k\/V.F k) b a/\∃e,(∀k,e k->S k\/G (H b)<=k)/\Dp V c g d l e a)\/Es V b a (λk=>S k\/V.F k) f bE
def wU.fp(h:wU s b W a):∀k,W k->¬s.F k:=λk d c=>gV (h.f k c)<|(h.bZ k d).1
def wU.aA{S T:fB}{w w':Z}(h:wU s c S w)(d:I T w w'):wU s c S w':=⟨aR h.1 d.D,h.f,λk a=>⟨(h.bZ k a).1,au (h.bZ k a).2 d.D⟩⟩
def wU.bM{V:ju}{n0:R}{S:fB}(h:wU V n0 S a)(c:kZ V n0 S a e):wU V n0 S e:=⟨aR h.1 c.1,h.f,λk b=>⟨(h.bZ k b).1,au (h.bZ k b).2 c.1⟩⟩
def Dp.aZ{a f:R}{c:Array ae}{l:dB}{w:Z}(h:Dp s a f c l W w):wU s a W w:=by
 cases l<;>exact h.1
def Dp.bM{V:ju}{n0 j:R}{g:Array ae}{S:fB}(h:Dp V n0 j g i S a)(b:kZ V n0 S a e):Dp V n0 j g i S e:=by
 cases i with
 |nil=>exact⟨h.1.bM b,λf c d=>h.2 f (b.aj c) d⟩
 |cons x i=>exact⟨h.1.bM b,λf c d=>h.2 f (b.aj c) d⟩
def Out(V:ju)(P:dB->fB->Z->Prop)(l:dB)(S:fB)(w:Z)(e:Ending)(a:Z):Prop:=((∃b,e=aN (bE b)/\((l=[]/\b=ib)\/(V.Xp/\∃q,b=eW q/\tB a q)))\/∃x r c,l=x::r/\e=aN (de #[x.t,aO cz,ib])/\(∀k,c k->S k\/G (H w)<=k)/\P r c a)/\V.D a/\I (λk=>S k\/V.F k) w a
def Dp.ug{g:Array ae}(h:Dp s b c g i W a)(j:s.D a):cR bN c g a (Out s (Dp s b c g) i W a):=by
 cases i with
 |nil=>
  go_call h.2 a (kZ.bI _ _ _ _) j as o n(⟨rfl,e,d⟩|⟨m,q,rfl,e,d,f⟩)
  .exact⟨ar,e,d⟩
  .exact⟨aI,d,f⟩
 |cons x i=>
  go_call h.2 a (kZ.bI _ _ _ _) j as o n(⟨rfl,e,d,k,f,l⟩|⟨m,q,rfl,e,d,f⟩)
  .exact⟨bj ⟨x,i,k,z,z,f,l⟩,e,d⟩
  .exact⟨aI,d,f⟩
def Dp.of{t:Array ae}(P:dB->fB->Z->Prop)(k:∀{l S w},P l S w->wU s b S w)(n:∀{l S w e},P l S w->kZ s b S w e->P l S e)(j:∀{l S w},P l S w->s.D w->cR bN c t w (Out s P l S w)):∀{l:dB}{S:fB}{w:Z},P l S w->Dp s b c t l S w
 |[],S,w,h=>⟨k h,λe f g=>(j (n h f) g).mono (by
  rintro A o⟨⟨u,rfl,⟨_,rfl⟩|⟨i,q,rfl,m⟩⟩|⟨C,B,p,r,_⟩,a,d⟩
  .grind
  .exact bj ⟨i,q,z,m,a,d⟩
  .cases r)⟩
 |g9::l,S,w,h=>⟨k h,λe f g=>(j (n h f) g).mono (by
  rintro A o⟨⟨u,rfl,⟨r,_⟩|⟨i,q,rfl,m⟩⟩|⟨C,B,p,r,rfl,v,x⟩,a,d⟩
  .cases r
  .exact bj ⟨i,q,z,m,a,d⟩
  .cases r;exact J ⟨z,a,d,p,v,Dp.of P k n j x⟩)⟩
def kw(V:ju)(c:R)(v:ae)(l:dB)(S:fB)(w:Z):Prop:=∃f b,v=.func (.func f) #[] b/\(∀a w,(callFunc f a).run bN w=.ok (.enter f a) w)/\Dp V c f b l S w
def kw.bM{V:ju}{n0:R}{S:fB}(h:kw V n0 d i S a)(j:kZ V n0 S a e):kw V n0 d i S e:=by
 let⟨k,b,c,f,g⟩:=h;exact⟨k,b,c,f,g.bM j⟩
def kw.aZ{l:dB}{w:Z}(h:kw s c d l W w):wU s c W w:=by
 let⟨f,e,g,j,a⟩:=h;exact a.aZ
def Eo(x a:E)(w:Z):cR bN 249 #[x.t,a.t] w λf e=>f=aN (aO<|ahead x a)/\e=dw (dw w<|aK #[aw x.D,aw x.l,aO x.dP,bw x.f] 223) (aK #[aw a.D,aw a.l,aO a.dP,bw a.f] 223):=by
 have b:ahead x a=(Op.bytesLess x.D.toList a.D.toList||((x.D.toList==a.D.toList)&&decide (a.f<x.f))):=by unfold ahead kG;congr 2;rw[Bool.eq_iff_iff];simp only[beq_iff_eq,rD];grind[An]
 rw[b];clear b;let⟨c,i,xd,g⟩:=x;let⟨d,l,k,j⟩:=a;unfold E.t;simp only;cases h1:Op.bytesLess c.toList d.toList with
 |true=>
  go_in
  go_wp2;go_ret;simp_all
 |false=>
  cases h2:(c.toList==d.toList)with
  |true=>
   go_in
   go_wp2;go_ret;simp_all
  |false=>
   go_in
   go_wp2;go_ret;simp_all
def BC{f:R}(r:Array ae)(n:R)(p:R->eN)(w:Z)(x:Enters bN f)(V:n<=1000000000000)(A:∀S F,S<=F->F<n->p S=cz->p F=cz)(K:∀j,j<n->∀W,gC (G<|H w) w W->cR bN f (#[ay j]++r) W λs E=>s=aN (aO<|p j)/\gC (G<|H W) W E):cR bN 247 #[ay n,.func (.func f) #[] r] w λs P=>∃D:R,s=aN (ay D)/\D<=n/\(∀j,j<D->p j=bD)/\(∀j,D<=j->j<n->p j=cz)/\gC (G<|H w) w P:=by
 have T:∀a w,(callFunc f a).run bN w=.ok (.enter f a) w:=x;have C:∀(x:eN)(w:Z),(Op.unary .not<|aO x).run bN w=.ok (aO<|!x) w:=λ_ _=>rfl;clear x;go_in
 go_wp2;go_loopw [5,6] (λj a wr=>∃g e:R,j=ay g/\a=ay e/\g<=e/\e<=n/\(∀t,t<g->p t=bD)/\(∀t,e<=t->t<n->p t=cz)/\gC (G<|H w) w wr) (λj a _=>(intOf a).toNat-(intOf j).toNat)
 exact⟨0,n,z,z,bQ _,aq _,λt h=>U,λt q h=>U,Below.refl _ _⟩
 .obtain⟨g,e,rfl,rfl,L,k,u,v,a⟩:=hrel;by_cases N:g<e
  .let⟨m,O⟩:∃m:R,(g+e)/2=m:=⟨_,rfl⟩;have l:m<n:=U;have b:=K m l wr a;have B:((g:Y)+(e:Y))/2=(m:Y):=U;cases hp:p m with
   |false=>
    rw[hp]at b;have o:=ak (λt(q:t<m+1)=>(show p t=bD from by
     cases c:p t with
     |false=>rfl
     |true=>have:=A t m U l c;rw[hp]at this;cases this))
    clear hp;go_wp2_with(go_at_fn f;refine b.mono ?_;rintro s Q⟨rfl,d⟩;have i:=ak d;clear d)
    go_roundw
    .exact⟨m+1,e,dM,z,U,k,o,v,a.trans<|i.mono a.size⟩
    .simp[intOf];omega
   |true=>
    rw[hp]at b;have o:=ak<|λt(q:m<=t)(a:t<n)=>A m t q a hp;clear hp;go_wp2_with(go_at_fn f;refine b.mono ?_;rintro s Q⟨rfl,d⟩;have i:=ak d;clear d)
    go_roundw
    .exact⟨g,m,z,dM,U,U,u,o,a.trans<|i.mono a.size⟩
    .simp[intOf];omega
  .have b:g=e:=U;subst b;go_wp2;go_ret;exact⟨g,z,k,u,v,a⟩
def bu(l:dB):iE:=l.flatMap E.bU
theorem ic(l:dB):y (bu l)=y l*4:=by
 induction l with
 |nil=>rfl
 |cons e r a=>unfold bu at*;rw[dR,ai,a];simp[E.bU];omega
theorem ie(a b:dB):bu (a++b)=bu a++bu b:=by simp[bu]
def fH(l:dB)(n:R)(h:n<y l):(bu l)[n*4]?=M (aw l[n].D)/\(bu l)[n*4+1]?=M (aw l[n].l)/\(bu l)[n*4+2]?=M (aO l[n].dP)/\(bu l)[n*4+3]?=M (bw l[n].f):=by
 have e:bu l=bu (l.take n)++(E.bU l[n]++bu (l.drop<|n+1)):=by(have b:l=l.take n++l[n]::l.drop (n+1):=by rw[<-dm h,du]);(conv=>lhs;rw[b]);simp only[bu,gR,dR]
 have a:y (bu<|l.take n)=n*4:=by rw[ic];simp;omega
 refine⟨?_,?_,?_,?_⟩;rw[e,fP U,a];simp[E.bU];rw[e,fP U,a,show n*4+1-n*4=1 by omega];simp[E.bU];rw[e,fP U,a,show n*4+2-n*4=2 by omega];simp[E.bU];rw[e,fP U,a,show n*4+3-n*4=3 by omega];simp[E.bU]
def lF(w:Z)(v:ae)(l:dB):Prop:=Row w 4 v (y l)<|bu l
def lF.dD{l:dB}{B:R}(h:lF a d l)(k:gC B a e)(n:∀q,cN d=M q->q<B):lF e d l:=by
 obtain⟨g,⟨rfl,j⟩|⟨i,b,c,rfl,f,m⟩⟩:=h;exact⟨g,J ⟨z,j⟩⟩;exact⟨g,bj ⟨i,b,c,z,f,λo u j=>(k.cell (p:=(X i<|b+o))<|n i z).trans<|m o u j⟩⟩
def below_drewN{w wr:Z}(h:gC b w wr)(q:R):gC b w (wr.drewN q):=⟨h.os,h.tape,h.output,h.size,h.block⟩
def DA{b:af}(h:B≠b):(B.toList==b.toList)=bD:=by
 grind[An]
def jP.dD{B b:R}(h:jP a b S)(c:gC B a e)(d:b<B):jP e b S:=(c.block b d).trans h
def RY(h:lF a d i)(j:fE a b d 103)(p:jP a c S)(g:R)(F:g<y i):cR bN 248 #[ay g,aJ b,aJ c] a λT L=>T=aN (aO<|!ahead i[g] S)/\gC (G<|H a) a L:=by
 have:∀(S:eN)(a:Z),(Op.unary .not<|aO S).run bN a=.ok (aO<|!S) a:=λ_ _=>rfl;have:=j.u;let⟨N,O,P,Q⟩:=p.bU;obtain⟨W,⟨rfl,V⟩|⟨k,e,l,rfl,K,C⟩⟩:=h;omega;have D:=fH i g F;have n:=C _ _ D.1;have x:bA a (X k<|e+g*4+1)=M (aw i[g].l):=by rw[bJ];grind
 have A:bA a (X k<|e+g*4+2)=M (aO i[g].dP):=by rw[bJ];grind
 have B:bA a (X k<|e+g*4+3)=M (bw i[g].f):=by rw[bJ];grind
 have m:=λW=>Eo i[g] S W;have:(g:Y)<(y i:Y):=U;have:(0:Y)<=(g:Y):=U;generalize i[g]=o at*;generalize ahead o S=aa at*;let⟨v,w,u,t⟩:=o;let⟨r,s,xd,q⟩:=S;unfold E.t at m;simp only at m N O P Q n x A B;have:=az j;have:=az p;have:k<G (H a):=cA _ _ n;go_in
 go_wp21;go_region_held3(λf=>bA f (X b 0)=M (bX k e (y i) l)/\bA f (X k<|e+g*4)=M (aw v)/\bA f (X k<|e+g*4+1)=M (aw w)/\bA f (X k<|e+g*4+2)=M (aO u)/\bA f (X k<|e+g*4+3)=M (bw t)/\bA f (X c 0)=M (aw r)/\bA f (X c 1)=M (aw s)/\bA f (X c 2)=M (aO xd)/\bA f (X c 3)=M (bw q)) (first|assumption|go_keep) (first|(go_at_call 249;refine(m _).mono ?_;rintro T w1⟨rfl,rfl⟩))
 go_wp2;go_ret;have j:gC (G<|H a) a (dw (dw a<|aK #[aw v,aw w,aO u,bw t] 223)<|aK #[aw r,aw s,aO xd,bw q] 223):=((Below.refl _ a).alloc (aq _) _).alloc ar _;exact⟨z,j.os,j.tape,j.output,j.size,j.block⟩
def DP(v:ae)(q:af)(e:Y)(w:Z)(h:lF w v i)(D:gF i)(x:y i<=1000000000000)(E:∀e,cN v=M e->e<G (H w)):cR bN 190 #[v,aw q,bw e] w λK F=>K=aN (ay<|mO i ⟨q,⟨#[]⟩,bD,e⟩)/\gC (G<|H w) w F:=by
 let⟨W,b⟩:∃W,dw (dw w<|aK #[v] 103) (aK #[aw q,aw ⟨#[]⟩,aO bD,bw e] 223)=W:=⟨_,rfl⟩;have s:gC (G<|H w) w W:=b▸((Below.refl _ w).alloc (aq _) _).alloc ar _;have:G (H W)=G (H w)+2:=by rw[<-b];simp
 have a:fE W (G<|H w) v 103:=by rw[<-b];grind[fE.aE,aQ]
 have k:jP W (G (H w)+1) ⟨q,⟨#[]⟩,bD,e⟩:=b▸aQ _ ar
 have n:=BC #[aJ<|G<|H w,aJ<|G (H w)+1] (y i) (λr=>if t:r<y i then !ahead i[r] ⟨q,⟨#[]⟩,bD,e⟩else cz) W (enters_of func248 aH z) x (by
  intro r L l c j;have m:r<y i:=U;simp only[c,m,Ax]at j|-;cases d:ahead i[L] ⟨q,⟨#[]⟩,bD,e⟩with
  |false=>rfl
  |true=>rw[D.aT l c d]at j;cases j)
  (by
   intro r t N g;apply(RY (h.dD (s.trans (g.mono U)) E) ((g.block _ U).trans a) (k.dD g U) r t).mono;grind)
 let⟨Q,P,o⟩:=cG h;subst o;subst b;go_in
 go_wp2_with(go_at_call 247;refine n.mono ?_;rintro K O⟨p,rfl,C,A,B,a⟩;have u:=ak<|show mO i ⟨q,⟨#[]⟩,bD,e⟩=p from H6 C aI aI;have f:=ak a)
 go_ret;rw[ag u];exact⟨z,s.trans<|f.mono dW⟩
def fE.bM{V:ju}{n0:R}{S:fB}{t:TypeId}(h:fE a b d t)(f:kZ V n0 S a e)(c:S b):fE e b d t:=(f.2 b<|bj c).trans h
def Au(c a b:R)(v:ae)(k:R):Prop:=k=a\/k=b\/(cN v=M k/\c<=k)
structure MX(V:ju)(n0:R)(w:Z)(xi xl:R)(v:ae)(l:dB)(i:R):Prop where
 bi:fE w xi (ay i) 3
 bl:fE w xl v 103
 f:lF w v l
 il:xi≠xl
 aZ:∀k,cN v=M k->k≠xi/\k≠xl/\¬V.F k/\k<G (H w)
def MX.D(h:MX s b a c k d i n)(r:kZ s b (Au b c k d) a e):lF e d i:=by
 have t:=h.aZ;obtain⟨l,⟨rfl,o⟩|⟨m,f,g,rfl,j,p⟩⟩:=h.f;exact⟨l,J ⟨z,o⟩⟩;refine⟨l,bj ⟨m,f,g,z,j,λv w q=>r.u ?_<|p v w q⟩⟩;by_cases u:b<=m;exact J<|bj<|bj ⟨z,u⟩;exact bj ⟨U,(t m z).2.2.1⟩
def Wk(V:ju)(e c f:R)(w:ae)(m:dB)(hl:y m<=1000000000000):∀(aa j:R)(S:Z),aa=y m-j->j<=y m->MX V e S c f w m j->wU V e (Au e c f w) S->Dp V e 334 #[aJ c,aJ f] (m.drop j) (Au e c f w) S:=by
 intro aa;induction aa with
 |zero=>
  intro j S N L g p;have a:j=y m:=U;subst a;rw[lh];refine⟨p,λb i v=>?_⟩;have s:=(g.bi.bM i<|J z).u;have l:=(g.bl.bM i<|bj<|J z).u;have B:=ak<|λd(an:I (Au e c f w) b d)=>V.l v an p.fp;have n:=az<|g.bi.bM i<|J z;have r:=az<|g.bl.bM i<|bj<|J z;let⟨ab,k,q⟩:=cG g.f;rw[q]at l;clear g i v N L q;go_in
  go_wp2;refine ci (gY z _ _ (G<|H b) ⟨⟨#[]⟩,⟨#[]⟩,bD,0⟩ _ _ z<|aQ _ z) z ?_;refine J ⟨z,?_⟩;have o:I (Au e c f w) b (dw b<|aK #[aw ⟨#[]⟩,aw ⟨#[]⟩,aO bD,bw 0] 223):=(cI _ _);exact⟨B _ o,o.aT aI⟩
 |succ aa ih=>
  intro j S N L g p;have r:j<y m:=U;rw[dm r];refine⟨p,λb i v=>?_⟩;have l:=g.bi.bM i<|J z;have n:=g.bl.bM i<|bj<|J z;have:=l.u;have:=l.bS;have:=n.u;have hE:=g.D i;have O:=g.aZ;have Q:=g.il;let⟨B,HI,HO,HS⟩:=jr (λd(an:I (Au e c f w) b d)=>V.l v an p.fp) (λd(a:MX V e d c f w m (j+1))(g:wU V e (Au e c f w) d)=>ih (j+1) d U U a g) (p.bM i) i.1;obtain⟨C,⟨rfl,ad⟩|⟨u,a,k,rfl,al,hc⟩⟩:=hE
  .omega
  have hg:=fH m j r;have s:bA b (X u<|a+j*4)=M (aw m[j].D):=hc _ _ hg.1;have E:bA b (X u<|a+j*4+1)=M (aw m[j].l):=by rw[bJ];grind
  have F:bA b (X u<|a+j*4+2)=M (aO m[j].dP):=by rw[bJ];grind
  have K:bA b (X u<|a+j*4+3)=M (bw m[j].f):=by rw[bJ];grind
  have:=az l;have:=az n;have:u<G (H b):=cA _ _ s;have:c≠u:=λac=>(O u z).1 ac.symm;let⟨HE,A,x,HV⟩:=jr (show Row b 4 (bX u a (y m) k) (y m) (bu m)from⟨C,aI⟩) n l O;generalize m[j]=ab at*;let⟨xk,xv,xd,W⟩:=ab;simp only at s E F K;go_in
  go_wp2;refine ci (gY z _ _ (G<|H b) ⟨xk,xv,xd,W⟩ _ _ z<|aQ _ gJ.symm) z ?_;refine J ⟨z,?_⟩;have o:I (λP=>P=c) b (dw (cP b (X c 0)<|ay<|j+1)<|aK #[aw xk,aw xv,aO xd,bw W] 223):=(iP c b).aE _;have t:I (Au e c f<|bX u a (y m) k) b _:=o.aT (T:=Au e c f<|bX u a (y m) k)<|λab q=>J<|J q;refine⟨B _ t,t.aT<|λab q=>J<|J q,Au e c f _,λP D=>J D,HI _ ?_<|HO.aA o⟩;refine⟨(x.gq _).aE _,(A.dN _<|λac=>Q ac.symm).aE _,o.bV HE ?_,Q,λP D=>?_⟩
  .rintro P⟨⟩;grind
  .let⟨q1,q2,q3,q4⟩:=HV P D;exact⟨q1,q2,q3,au q4<|aR HS o.D⟩
def Hq(V:ju)(i:R){v:ae}{l:dB}(e:af){w:Z}(h:lF w v l)(F:gF l)(S:∀O∈l,O.f<18446744073709551616)(E:y l<=1000000000000)(q:∀k,cN v=M k->¬V.F k/\k<G (H w))(hn:i<=G (H w))(hF:∀k,V.F k->k<i):cR bN 332 #[v,aw e] w λt N=>∃L aa,t=aN L/\kw V i L (iX e l) aa N/\gC (G<|H w) w N/\(∀k,aa k->(cN v=M k/\i<=k)\/G (H w)<=k):=by
 have T:=λc(m:gC (G<|H w) w c)=>DP v e 18446744073709551615 c (by
  obtain⟨n,⟨rfl,x⟩|⟨u,a,b,rfl,f,B⟩⟩:=h
  .exact⟨n,J ⟨z,x⟩⟩
  .exact⟨n,bj ⟨u,a,b,z,f,λK W C=>(m.cell (p:=(X u (a+K))) (q u z).2).trans (B K W C)⟩⟩) F E (λd o=>au (q d o).2 m.size)
 let⟨Q,r,s⟩:=eU T (show iX e l=l.drop (mO l ⟨e,⟨#[]⟩,bD,18446744073709551615⟩)from(Vp F e _ _ aI).symm)<|Lq l ⟨e,⟨#[]⟩,bD,18446744073709551615⟩;have D:=cG h;generalize mO l ⟨e,⟨#[]⟩,bD,18446744073709551615⟩=P at*;obtain⟨O,b,rfl⟩:=D;go_in
 go_wp2_with(go_at_call 190;refine(Q _<|(Below.refl _ w).alloc (aq _) _).mono ?_;rintro t j⟨rfl,A⟩;have HB:=ak A)
 go_ret;have o:=ag HB;have:G (H w)+1<=G (H j):=by have:=o.size;simp_all
 have d:gC (G<|H w) w j:=((Below.refl _ w).alloc (aq _) _).trans<|o.mono ar;have c:gC (G<|H w) w (dw j<|aK #[ay P] 3):=d.alloc d.size _;have p:fE j (G<|H w) (am O (y l) b) 103:=(o.block (G<|H w) ar).trans<|aQ _ z;refine⟨_,Au i (G<|H j) (G<|H w)<|am O (y l) b,z,⟨334,_,z,enters_of func334 aH z,?_⟩,c,?_⟩;rw[ag r];refine Wk V i (G<|H j) (G<|H w) (am O (y l) b) l E _ P _ z s ⟨aQ _ z,p.aE _,?_,U,λk g=>?_⟩ ⟨by simp;omega,hF,λk g=>?_⟩;obtain⟨n,⟨t,x⟩|⟨u,a,m,t,f,B⟩⟩:=h;exact⟨n,J ⟨t,x⟩⟩;refine⟨n,bj ⟨u,a,m,t,f,λK W C=>(c.cell (p:=(X u<|a+K)) ?_).trans<|B K W C⟩⟩;exact(q u (by rw[t];rfl)).2;let⟨m,q2⟩:=q k g;exact⟨U,U,m,by simp;omega⟩;obtain rfl|rfl|⟨g,m⟩:=g;exact⟨U,ar⟩;exact⟨U,by simp;omega⟩;exact⟨m,by have:=(q k g).2;simp;omega⟩;rintro k(rfl|rfl|g);right;omega;right;omega;grind
def vy{σ:Type}(a:σ->E->eN)(IP:σ->E->σ):σ->dB->dB
 |_,[]=>[]
 |s,x::r=>if a s x then x::vy a IP (IP s x) r else vy a IP (IP s x) r
structure Dk(σ:Type)(V:ju)(n0:R)where
 f:R
 cb:Array ae
 L:σ->E->eN
 IP:σ->E->σ
 A:σ->Z->Prop
 S:R->Prop
 o:Enters bN f
 ug:∀s x w,A s w->cR bN f (#[x.t]++cb) w λe w'=>e=aN (aO<|L s x)/\A (IP s x) w'/\I S w w'
 l:∀s w w',A s w->(∀k,S k->w'.heap[k]?=w.heap[k]?)->A s w'
 lt:∀s w,A s w->∀k,S k->n0<=k/\k<G (H w)
structure nt{σ:Type}{V:ju}{n0:R}(K:Dk σ V n0)(w:Z)(xn xk f:R)(cb:Array ae)(s:σ)(l:dB)(S:fB):Prop where
 bn:fE w xn (.func (.func f) #[] cb) 288
 bk:fE w xk (.func (.func K.f) #[] K.cb) 412
 o:Enters bN f
 L:Dp V n0 f cb l S w
 A:K.A s w
 aZ:n0<=xn/\n0<=xk
 nS:∀k,S k->k≠xn/\k≠xk/\¬K.S k
 nK:∀k,K.S k->k≠xn/\k≠xk
def Bm{σ:Type}(K:Dk σ s b)(c a:R)(S:fB)(k:R):Prop:=k=c\/k=a\/S k\/K.S k
def nt.bM{σ:Type}{V:ju}{n0:R}{K:Dk σ V n0}{g:Array ae}{s:σ}{S:fB}(h:nt K a b c k g s i S)(d:kZ V n0 (Bm K b c S) a e):nt K e b c k g s i S:=⟨h.bn.bM d<|J z,h.bk.bM d<|bj<|J z,h.o,h.L.bM<|d.aT<|λ_ f=>bj<|bj<|J f,K.l s a e h.A<|λj f=>d.2 j<|bj<|bj<|bj<|bj f,h.aZ,h.nS,h.nK⟩
def nt.p{σ:Type}{K:Dk σ s b}{e:Array ae}{g:σ}(h:nt K a c k n e g i W):wU s b (Bm K c k W) a:=⟨h.L.aZ.D,h.L.aZ.f,by
 rintro f(rfl|rfl|d|d)
 .exact⟨h.aZ.1,az h.bn⟩
 .exact⟨h.aZ.2,az h.bk⟩
 .exact h.L.aZ.bZ f d
 .exact K.lt g a h.A f d⟩
def nt.U2{σ:Type}{K:Dk σ s b}{l:Array ae}{p:σ}{q:dB}{j:fB}(h:nt K a c k n l p i W)(o:I (λd=>W d\/s.F d) a e)(r:∀d,j d->W d\/G (H a)<=d)(t:Dp s b n l q j e):nt K e c k n l p q j:=by
 have hF:∀d,b<=d->¬s.F d:=λd g a=>bP<|h.p.f d a;refine⟨(o.A c (az h.bn) ?_).trans h.bn,(o.A k (az h.bk) ?_).trans h.bk,h.o,t,K.l p a e h.A<|λd g=>o.A d (K.lt p a h.A d g).2 ?_,h.aZ,λd g=>?_,h.nK⟩;rintro(f|f);exact(h.nS c f).1 z;exact hF c h.aZ.1 f;rintro(f|f);exact(h.nS k f).2.1 z;exact hF k h.aZ.2 f;rintro(f|f);exact(h.nS d f).2.2 g;exact hF d (K.lt p a h.A d g).1 f;obtain f|f:=r d g;exact h.nS d f;refine⟨?_,?_,?_⟩;rintro rfl;have:=az h.bn;omega;rintro rfl;have:=az h.bk;omega;intro m;have:=(K.lt p a h.A d m).2;omega
def nt.qR{σ:Type}{K:Dk σ s b}{g d f:R}{l:Array ae}{q m:σ}(h:nt K a g d f l q i W)(j:I K.S a e)(o:K.A m e):nt K e g d f l m i W:=by
 have:∀k,b<=k->¬s.F k:=λk c a=>bP<|h.p.f k a;refine⟨(j.A g (az h.bn)<|λn=>(h.nK g n).1 z).trans h.bn,(j.A d (az h.bk)<|λn=>(h.nK d n).2 z).trans h.bk,h.o,h.L.bM ?_,o,h.aZ,h.nS,h.nK⟩;refine j.bM h.L.aZ.D (λk c=>⟨(h.L.aZ.bZ k c).2,(h.nS k c).2.2⟩)<|λk c p=>?_;have:=(K.lt q a h.A k c).1;omega
def nt.ni{σ:Type}{K:Dk σ s b}{d:Array ae}{e:σ}(h:nt K a c k n d e i W)(o:Obj):nt K (dw a o) c k n d e i W:=h.qR ((I.bI _ _).aE o)<|K.l e a _ h.A<|λg f=>gw o (K.lt e a h.A g f).2
def nt.fp{σ:Type}{K:Dk σ s b}{f:Array ae}{m:σ}{T:fB}(h:nt K a c k n f m i W)(l:I T a e)(j:∀d,T d->¬Bm K c k W d/\b<=d):nt K e c k n f m i W:=h.bM<|l.bM h.L.aZ.D (λd g=>⟨(h.p.bZ d g).2,λo=>(j d o).1 g⟩) aI
def yo(w:Z)(b:R)(a:E):Z:=cP (cP (cP (cP w (X b 0)<|aw a.D) (X b 1)<|aw a.l) (X b 2)<|aO a.dP) (X b 3)<|bw a.f
def kp(w:Z)(b:R)(a:E):I (λk=>k=b) w (yo w b a):=(((iP b w).aL b 1 _<|J z).aL b 2 _<|J z).aL b 3 _<|J z
def T3{σ:Type}(K:Dk σ s b)(e d h:R)(f:Array ae)(l:dB)(S:fB)(w:Z):Prop:=∃g c a,l=vy K.L K.IP g c/\S=Bm K e d a/\nt K w e d h f g c a
def jP.nY{c q:R}(h:jP a c S):∀k,k=c->k=q->∃d t r,a.heap[k]?=M (aK d t r)/\t≠157:=λk b _=>b▸⟨_,_,_,h,cg⟩
def Sf{σ:Type}(K:Dk σ s b)(cb:Array ae)(bx:σ){bt:dB}(hA:nt K a c k n cb bx bt W)(hD:s.D a):cR bN 292 #[aJ c,aJ k] a (Out s (T3 K c k n cb) (vy K.L K.IP bx bt) (Bm K c k W) a):=by
 have:∀t a,(callFunc n t).run bN a=.ok (.enter n t) a:=hA.o;have:∀t a,(callFunc K.f t).run bN a=.ok (.enter K.f t) a:=K.o;go_in
 go_wp2;go_loopg [5] (y bt+1) (λd _ wr=>∃C l' S',y l'<d/\nt K wr c k n cb C l' S'/\s.D wr/\I (λr=>Bm K c k W r\/s.F r) a wr/\vy K.L K.IP bx bt=vy K.L K.IP C l'/\(∀r,S' r->W r\/G (H a)+1<=r)/\y l'<=y bt/\jP wr (G<|H a) ⟨⟨#[]⟩,⟨#[]⟩,bD,0⟩/\¬S' (G<|H a)/\¬K.S (G<|H a))
 have h:=hA;refine⟨bx,bt,W,U,h.ni _,s.l hD (cI aC a) cY,(cI _ _),z,λr u=>J u,aq _,aQ _ z,λp=>?_,λp=>?_⟩;have:=(h.L.aZ.bZ _ p).2;omega;have:=(K.lt _ _ h.A _ p).2;omega
 .let⟨C,l',S',aV,D,ap,aD,ax,V,ba,T,bb,bc⟩:=hrel;have:=D.bn.u;have hc:=D.L.ug ap;have Q:=ak (show∀A,I (λr=>S' r\/s.F r) wr A->I (λr=>Bm K c k W r\/s.F r) a A fromλA h=>aD.aj h (by
   rintro r(u|u)
   .obtain p|p:=V r u
    .exact J<|J<|bj<|bj<|J p
    grind
   grind))
  have:=az T;let⟨HN,P,L,ad,aa⟩:=nZ bb bc D ax T;let⟨an,ac⟩:=And.intro (ak V) (ak<|And.intro aV ba);clear D ap aD ax T V bb bc aV ba;go_wp21;go_call hc as cj A⟨⟨ev,rfl,br⟩|⟨⟨f,g,e,d⟩,bv,S1,rfl,rfl,B,bl⟩,S,v⟩
  .have j:jP A (G<|H a) ⟨⟨#[]⟩,⟨#[]⟩,bD,0⟩:=aa.aA v<|λp=>p.elim HN<|λp=>gV (L.p.f _ p) hA.p.D;let⟨bn,bo,bp,bq⟩:=j.bU;have F:=j.bS (i:=0);have N:=j.bS (i:=1);have O:=j.bS (i:=2);have ab:=j.bS (i:=3);have al:=az j;let⟨m,w,x⟩:=eU j S v;clear j S v;unfold bE yt;have o:Hid (I (λr=>r=G (H a)) A<|(yo A (G<|H a) ⟨⟨#[]⟩,⟨#[]⟩,bD,0⟩).alloc<|aK #[aw ⟨#[]⟩,aw ⟨#[]⟩,aO bD,bw 0] 223):=ak<|(kp _ _ _).aE _;have l:=ak hA.p;obtain⟨rfl,rfl⟩|⟨hX,q,rfl,hq⟩:=br
   .go_wp2;apply ci (gY z _ _ (G<|H a) ⟨⟨#[]⟩,⟨#[]⟩,bD,0⟩ _ _ z<|(m.gK ⟨⟨#[]⟩,⟨#[]⟩,bD,0⟩).aE _) z;exact⟨J ⟨_,z,J ⟨ad.trans z,z⟩⟩,s.l w o<|λr u hf=>gV (l.f r hf) l.D,(Q _ x).aj o ar⟩
   .have HQ:=ak hq;clear hq;go_wp2;apply ci (gY z _ _ (G<|H a) ⟨⟨#[]⟩,⟨#[]⟩,bD,0⟩ _ _ z<|(m.gK ⟨⟨#[]⟩,⟨#[]⟩,bD,0⟩).aE _) z;exact⟨J ⟨_,z,bj ⟨hX,q,z,HQ.aA o m.nY⟩⟩,s.l w o<|λr u hf=>gV (l.f r hf) l.D,(Q _ x).aj o ar⟩
  .have:=ac.1;have:y bv<y bt:=zY ac.2;have hA1:=L.U2 v B bl;have w:=hA1.ni<|aK #[aw f,aw g,aO e,bw d] 223;have j:jP A (G<|H a) ⟨⟨#[]⟩,⟨#[]⟩,bD,0⟩:=aa.aA v<|λp=>p.elim HN<|λp=>gV (L.p.f _ p) hA.p.D;have:=w.bk.u;have bd:jP (dw A<|aK #[aw f,aw g,aO e,bw d] 223) (G<|H A) ⟨f,g,e,d⟩:=aQ _ z;let⟨bn,bo,bp,bq⟩:=bd.bU;have m:=(K.ug C ⟨f,g,e,d⟩) _ w.A;have bg:=ak<|show¬K.S (G<|H A)fromλp=>bP<|(K.lt _ _ hA1.A _ p).2;have:=v.D;have bi:vy K.L K.IP C (⟨f,g,e,d⟩::bv)=if K.L C ⟨f,g,e,d⟩then⟨f,g,e,d⟩::vy K.L K.IP (K.IP C ⟨f,g,e,d⟩) bv else vy K.L K.IP (K.IP C ⟨f,g,e,d⟩) bv:=rfl;have al:=ak<|ad.trans bi;unfold E.t at m|-;simp only at m|-;go_wp21;go_call m as cj w2⟨rfl,bh,F⟩;have bm:jP w2 (G<|H A) ⟨f,g,e,d⟩:=bd.aA F bg;have x:jP w2 (G<|H a) ⟨⟨#[]⟩,⟨#[]⟩,bD,0⟩:=(j.aE _).aA F P;let⟨vS,bL,bT,ca⟩:=bm.bU;let⟨cc,cd,ce,ch⟩:=x.bU;have:=x.bS (i:=0);have:=x.bS (i:=1);have:=x.bS (i:=2);have:=x.bS (i:=3);let⟨ab,N,ao⟩:=eU x (w.qR F bh) F;have l:=ak hA.p;have bk:=ak N.p;have av:=ak<|s.l (s.l S (cI aC A) cY) ao<|λr u hf=>gV (bk.f r hf)<|(K.lt _ _ w.A r u).1;have aU:=ak<|((Q _ v).aE _).aj ao<|λr u=>J<|J<|bj<|bj<|bj u;cases hte:K.L C ⟨f,g,e,d⟩with
   |true=>
    have O:=ak (al.trans<|by rw[fV hte]);go_wp2;refine ci (gY z _ _ (G<|H a) ⟨f,g,e,d⟩ _ _ z<|ab.gK ⟨f,g,e,d⟩) z ?_;have o:I (λr=>r=G (H a)) w2 (yo w2 (G<|H a) ⟨f,g,e,d⟩):=kp _ _ _;have bs:¬Bm K c k S1 (G<|H a):=by
     rintro(p|p|p|p)
     .have:=(l.bZ c<|J z).2;omega
     .have:=(l.bZ k<|bj<|J z).2;omega
     .obtain bf|bf:=B _ p
      .exact HN bf
      .omega
     .exact P p
    refine⟨bj ⟨⟨f,g,e,d⟩,_,_,O,z,λr u=>?_,K.IP C ⟨f,g,e,d⟩,bv,S1,z,z,N.fp o<|λr u=>u▸⟨bs,l.D⟩⟩,s.l av o<|λr u hf=>gV (l.f r hf) l.D,aU.aj o ar⟩;obtain p|p|p|p:=u
    .exact J<|J p
    .exact J<|bj<|J p
    .obtain p|p:=B r p
     .obtain bf|bf:=an r p
      .exact J<|bj<|bj<|J bf
      grind
     grind
    .exact J<|bj<|bj<|bj p
   |false=>
    have O:=ak (al.trans<|by rw[fM (by rw[hte];simp)]);go_wp2;go_roundg(y bv+1);case measure=>grind
    .refine⟨K.IP C ⟨f,g,e,d⟩,bv,S1,U,N,av,aU,O,λr u=>?_,U,ab,λp=>?_,P⟩
     .obtain p|p:=B r u
      .exact an r p
      grind
     .obtain bf|bf:=B _ p
      .exact HN bf
      .omega
def VC{σ:Type}(K:Dk σ s b)(c a k:R)(f:Array ae)(d:σ)(l:dB)(S:fB)(w:Z)(i:nt K w c a k f d l S):Dp s b 292 #[aJ c,aJ a] (vy K.L K.IP d l) (Bm K c a S) w:=by
 refine Dp.of (T3 K c a k f) ?_ ?_ ?_ ⟨d,l,S,z,z,i⟩;rintro l S w⟨d,g,e,rfl,rfl,h⟩;exact h.p;rintro l S w m⟨d,g,e,rfl,rfl,h⟩j;exact⟨d,g,e,z,z,h.bM j⟩;rintro l S w⟨d,g,e,rfl,rfl,h⟩j;exact Sf K f d h j
def Oz{σ:Type}(K:Dk σ s b)(l:σ)(B:kw s b d i W a)(f:K.A l a)(x:∀k,W k->¬K.S k):cR bN 269 #[d,.func (.func K.f) #[] K.cb] a λC q=>∃p m,C=aN p/\kw s b p (vy K.L K.IP l i) m q/\gC (G<|H a) a q/\(∀k,m k->W k\/K.S k\/G (H a)<=k):=by
 obtain⟨w,j,rfl,A,e⟩:=B;let⟨r,u,t,v⟩:=jr A e f x;go_in
 go_wp2;go_ret;have e:=ag u;have f:=ag t;have n:gC (G<|H a) a (dw (dw a<|aK #[.func (.func w) #[] j] 288)<|aK #[.func (.func K.f) #[] K.cb] 412):=((Below.refl _ a).alloc (aq _) _).alloc ar _;have o:I aC a (dw (dw a<|aK #[.func (.func w) #[] j] 288)<|aK #[.func (.func K.f) #[] K.cb] 412):=I.p n;refine⟨_,Bm K (G<|H a) (G (H a)+1) W,z,⟨292,_,z,enters_of func292 aH z,?_⟩,n,?_⟩;refine VC K (G<|H a) (G (H a)+1) w j l i W _ ⟨?_,aQ _ ar,r,e.bM<|o.bM e.aZ.D (λk c=>⟨(e.aZ.bZ k c).2,λg=>g⟩)<|λk c=>c.elim,K.l l a _ f<|λk c=>?_,⟨e.aZ.D,bP e.aZ.D⟩,λk c=>?_,λk c=>?_⟩;(grind[fE.aE,aQ]);exact o.A k (K.lt l a f k c).2<|λg=>g;have:=(e.aZ.bZ k c).2;exact⟨U,U,v k c⟩;have:=(K.lt l a f k c).2;grind
 rintro k(g|g|g|g);(grind);(grind);exact J g;grind
def Yr(V:ju)(b:R):Dk Unit V b where
 f:=270
 cb:=#[]
 L:=λ_ e=>!e.dP
 IP:=λ_ _=>()
 A:=λ_ _=>True
 S:=λ_=>False
 o:=enters_of func270 aH z
 ug:=by
  rintro _⟨d,e,xd,c⟩w _;unfold E.t;simp only;have a:∀(x:eN)(w:Z),(Op.unary .not<|aO x).run bN w=.ok (aO<|!x) w:=λ_ _=>rfl;show cR bN 270 #[ef #[aw d,aw e,aO xd,bw c]] w _;go_in
  go_wp2;go_ret;exact⟨z,trivial,(cI _ w)⟩
 l:=λ_ _ _ _ _=>trivial
 lt:=λ_ _ _ _ a=>a.elim
def Lo(l:dB)(s:Unit):vy (λ(_:Unit)e=>!e.dP) (λ_ _=>()) s l=l.filter (λe=>!e.dP):=by
 induction l generalizing s with
 |nil=>rfl
 |cons x r a=>
  unfold vy;grind
def Oo(p:kw s b d i W a):cR bN 230 #[d] a λg f=>∃e c,g=aN e/\kw s b e (i.filter<|λg=>!g.dP) c f/\gC (G<|H a) a f/\(∀k,c k->W k\/G (H a)<=k):=by
 have w:=Oz (Yr s b) () p trivial<|λ_ _ j=>j;have x:=Lo i ();have n:cR bN 269 #[d,.func (.func 270) #[] #[]] a λg f=>∃e c,g=aN e/\kw s b e (i.filter<|λg=>!g.dP) c f/\gC (G<|H a) a f/\(∀k,c k->W k\/G (H a)<=k):=by go_call w as g f⟨e,c,t,C,u,v⟩;refine⟨e,c,t,?_,u,λk A=>?_⟩;rwa[<-x];obtain j|j|j:=v k A;exact J j;exact j.elim;exact bj j
 obtain⟨E,B,rfl,_⟩:=p;go_in
 go_wp2_with(go_at_call 269;refine n.mono ?_;rintro g D⟨e,c,rfl,o,m,l⟩;have q:=ak o;have HB:=ak m;have r:=ak l)
 go_ret;exact⟨e,c,z,q,HB,r⟩
def atK(V:ju)(m d b:R)(n:Y):Dk af V m where
 f:=271
 cb:=#[aJ d,aJ b]
 L:=λs p=>decide (p.f<=n)&&!decide (p.D=s)
 IP:=λs p=>if p.f<=n then p.D else s
 A:=λs w=>fE w d (bw n) 104/\fE w b (aw s) 9/\m<=b/\m<=d/\d≠b
 S:=λk=>k=d\/k=b
 o:=enters_of func271 aH z
 ug:=by
  rintro s⟨r,x,xd,g⟩w⟨c,e,K,v,j⟩;unfold E.t;simp only;have C:=e.u;have F:=e.bS;have D:=c.u;have u:=az e;have q:=az c;have HB:=ak e;have a:=ak c;show cR bN 271 #[ef #[aw r,aw x,aO xd,bw g],aJ d,aJ b] w _;by_cases k:g<=n
  .have t:¬n<g:=U;by_cases i:r=s
   .subst i;simp only[k,zk,tj,Bool.and_false,mS];go_in
    go_wp2;go_ret;exact⟨z,⟨a.aE _,HB.aE _⟩,(cI _ w)⟩
   .have B:=DA i;simp only[k,i,zk,Ch,zn,Bool.and_true,mS];go_in
    go_wp2;go_ret;refine⟨z,⟨(a.dN _ j).aE _,(HB.gq _).aE _⟩,?_⟩;exact((I.bI _ w).aL b 0 _<|J<|bj z).aE _
  .have t:n<g:=U;simp only[k,Ch,zo,mz];go_in
   go_wp2;go_ret;exact⟨z,⟨a.aE _,HB.aE _⟩,(cI _ w)⟩
 l:=aI
 lt:=aI
def N9(b:Y)(l:dB)(s:af):vy (λs(e:E)=>decide (e.f<=b)&&!decide (e.D=s)) (λs e=>if e.f<=b then e.D else s) s l=sh s (l.filter<|λe=>decide<|e.f<=b):=by
 induction l generalizing s with
 |nil=>rfl
 |cons x r c=>
  unfold vy;by_cases a:x.f<=b
  .rw[xw<|by simp[a]];unfold sh;by_cases h:x.D=s
   .grind
   grind
  grind
structure Bl(V:ju)(n0:R)(ls:iF)where
 f:R
 cb:Array ae
 A:Z->Prop
 S:R->Prop
 o:Enters bN f
 ug:∀i(hi:i<y ls)w,A w->V.D w->cR bN f (#[ay i]++cb) w λe w'=>(∃v' S',e=aN (de #[v',ib])/\kw V n0 v' ls[i] S' w'/\V.D w'/\I V.F w w'/\(∀k,S' k->G (H w)<=k))\/∃u,Es V w w' V.F e<|λv=>de #[u,v]
 l:∀w w',A w->kZ V n0 S w w'->A w'
 lt:∀w,A w->∀k,S k->n0<=k/\k<G (H w)
structure jS{V:ju}{n0:R}{ls:iF}(O:Bl V n0 ls)(w:Z)(b c d m:R)(n:ae)(r:dB)(a:R)(S:fB):Prop where
 br:fE w b n 288
 ba:fE w c (ay a) 3
 bn:fE w d (ay<|y ls) 3
 bo:fE w m (.func (.func O.f) #[] O.cb) 457
 bV:(n=.nilFunc/\r=[]/\∀k,¬S k)\/kw V n0 n r S w
 A:O.A w
 le:a<=y ls
 D:n0<=G (H w)
 f:∀k,V.F k->k<n0
 aZ:n0<=b/\n0<=c/\n0<=d/\n0<=m
 ra:b≠c
 rn:b≠d
 ro:b≠m
 an:c≠d
 ao:c≠m
 nS:∀k,S k->k≠b/\k≠c/\k≠d/\k≠m/\¬O.S k
 nO:∀k,O.S k->k≠b/\k≠c/\k≠d/\k≠m
def pQ{V:ju}{n0:R}{g8:iF}(O:Bl V n0 g8)(b c d m:R)(S:fB)(k:R):Prop:=k=b\/k=c\/k=d\/k=m\/S k\/O.S k
def C8{V:ju}{n0:R}{g8:iF}(O:Bl V n0 g8)(b c d m:R)(l:dB)(S:fB)(w:Z):Prop:=∃n r a e,l=r++(g8.drop a).flatten/\S=pQ O b c d m e/\jS O w b c d m n r a e
def EM(r:dB)(g8:iF)(a:R):dB:=r++(g8.drop a).flatten
section
variable{V:ju}{n0:R}{g8:iF}{O:Bl V n0 g8}{w w':Z}{b c d m:R}{n:ae}{r:dB}{a:R}{S:fB}
def jS.p(h:jS O w b c d m n r a S):wU V n0 (pQ O b c d m S) w:=⟨h.D,h.f,by
 rintro k(rfl|rfl|rfl|rfl|e|e)
 .exact⟨h.aZ.1,az h.br⟩
 .exact⟨h.aZ.2.1,az h.ba⟩
 .exact⟨h.aZ.2.2.1,az h.bn⟩
 .exact⟨h.aZ.2.2.2,az h.bo⟩
 .obtain⟨_,_,f⟩|f:=h.bV
  .grind
  .exact f.aZ.bZ k e
 .exact O.lt w h.A k e⟩
def jS.bM(h:jS O w b c d m n r a S)(e:kZ V n0 (pQ O b c d m S) w w'):jS O w' b c d m n r a S:=⟨h.br.bM e<|J z,h.ba.bM e<|bj<|J z,h.bn.bM e<|bj<|bj<|J z,h.bo.bM e<|bj<|bj<|bj<|J z,h.bV.imp id<|λg=>g.bM<|e.aT<|λ_ f=>bj aI,O.l w w' h.A<|e.aT<|λ_ f=>bj aI,h.le,aR h.D e.1,h.f,h.aZ,h.ra,h.rn,h.ro,h.an,h.ao,h.nS,h.nO⟩
def jS.fp{T:fB}(h:jS O w b c d m n r a S)(g:I T w w')(f:∀k,T k->¬pQ O b c d m S k/\(k<n0->V.F k)):jS O w' b c d m n r a S:=h.bM<|g.bM h.D (λk e=>⟨(h.p.bZ k e).2,λi=>(f k i).1 e⟩) aI
def jS.ni(h:jS O w b c d m n r a S)(o:Obj):jS O (dw w o) b c d m n r a S:=h.fp ((I.bI aC w).aE o) cY
def jS.U2{p:dB}{i:fB}(h:jS O w b c d m n r a S)(g:I (λk=>S k\/V.F k) w w')(q:∀k,i k->S k\/G (H w)<=k)(t:kw V n0 n p i w'):jS O w' b c d m n p a i:=by
 have l:=h.p;have hF:∀k,n0<=k->¬V.F k:=λk e f=>bP<|l.f k f;have o:∀k,k=b\/k=c\/k=d\/k=m->¬(S k\/V.F k):=by rintro k e(f|f);(have:=h.nS k f;grind);obtain rfl|rfl|rfl|rfl:=e;exact hF _ h.aZ.1 f;exact hF _ h.aZ.2.1 f;exact hF _ h.aZ.2.2.1 f;exact hF _ h.aZ.2.2.2 f
 refine⟨(g.A b (az h.br)<|o _<|J z).trans h.br,(g.A c (az h.ba)<|o _<|bj<|J z).trans h.ba,(g.A d (az h.bn) aI).trans h.bn,(g.A m (az h.bo) aI).trans h.bo,bj t,O.l w w' h.A<|g.bM h.D (λk e=>⟨(O.lt w h.A k e).2,?_⟩)<|λk e s=>?_,h.le,aR h.D g.D,h.f,h.aZ,h.ra,h.rn,h.ro,h.an,h.ao,λk e=>?_,h.nO⟩;rintro(f|f);exact(h.nS k f).2.2.2.2 e;exact hF k (O.lt w h.A k e).1 f;obtain f|f:=e;have:=(l.bZ k<|bj aI).1;omega;exact f;obtain f|f:=q k e;exact h.nS k f;refine⟨?_,?_,?_,?_,?_⟩;rintro rfl;have:=az h.br;omega;rintro rfl;have:=az h.ba;omega;rintro rfl;have:=az h.bn;omega;rintro rfl;have:=az h.bo;omega;intro j;have:=(O.lt w h.A k j).2;omega
def jS.t(h:jS O w b c d m n r a S)(g:I (λk=>S k\/V.F k) w w'):jS O (cP w' (X b 0) .nilFunc) b c d m .nilFunc [] a aC:=by
 have s:=h.p;have hF:∀k,n0<=k->¬V.F k:=λk e f=>bP<|s.f k f;have t:∀k,k=b\/k=c\/k=d\/k=m->¬(S k\/V.F k):=by rintro k e(f|f);(have:=h.nS k f;grind);obtain rfl|rfl|rfl|rfl:=e;exact hF _ h.aZ.1 f;exact hF _ h.aZ.2.1 f;exact hF _ h.aZ.2.2.1 f;exact hF _ h.aZ.2.2.2 f
 have o:fE w' b n 288:=(g.A b (az h.br)<|t _<|J z).trans h.br;have i:fE w' c (ay a) 3:=(g.A c (az h.ba)<|t _<|bj<|J z).trans h.ba;have j:fE w' d (ay<|y g8) 3:=(g.A d (az h.bn) aI).trans h.bn;have l:fE w' m (.func (.func O.f) #[] O.cb) 457:=(g.A m (az h.bo) aI).trans h.bo;have p:I (λk=>(S k\/V.F k)\/k=b) w (cP w' (X b 0) .nilFunc):=(g.aT (T:=λk=>(S k\/V.F k)\/k=b) aI).aL b 0 _<|J<|bj z;refine⟨o.gq _,i.dN _<|λq=>h.ra q.symm,j.dN _<|λq=>h.rn q.symm,l.dN _<|λq=>h.ro q.symm,ar,O.l w _ h.A<|p.bM h.D (λk e=>⟨(O.lt w h.A k e).2,?_⟩)<|λk e u=>?_,h.le,by rw[gJ];exact aR h.D g.D,h.f,h.aZ,h.ra,h.rn,h.ro,h.an,h.ao,cY,h.nO⟩;rintro((f|f)|f);exact(h.nS k f).2.2.2.2 e;exact hF k (O.lt w h.A k e).1 f;exact(h.nO k e).1 f;obtain(f|f)|f:=e;have:=(s.bZ k<|bj aI).1;omega;exact f;have:=h.aZ.1;subst f;omega
def jS.YA{q:ae}{o:fB}(x:a<y g8)(h:jS O w b c d m .nilFunc [] a S)(g:I V.F w w')(B:kw V n0 q g8[a] o w')(C:∀k,o k->G (H w)<=k):jS O (cP (cP w' (X b 0) q) (X c 0)<|ay<|(a:Y)+1) b c d m q g8[a] (a+1) o:=by
 have hF:∀k,n0<=k->¬V.F k:=λk e f=>bP<|h.f k f;have D:∀k,o k->k≠b/\k≠c/\k≠d/\k≠m/\¬O.S k:=λk e=>by have:=C k e;have:=az h.br;have:=az h.ba;have:=az h.bn;have:=az h.bo;exact⟨U,U,U,U,λA=>bP<|(O.lt w h.A k A).2⟩
 have v:fE w' b .nilFunc 288:=(g.A b (az h.br)<|hF _ h.aZ.1).trans h.br;have s:fE w' c (ay a) 3:=(g.A c (az h.ba)<|hF _ h.aZ.2.1).trans h.ba;have t:fE w' d (ay<|y g8) 3:=(g.A d (az h.bn)<|hF _ h.aZ.2.2.1).trans h.bn;have u:fE w' m (.func (.func O.f) #[] O.cb) 457:=(g.A m (az h.bo)<|hF _ h.aZ.2.2.2).trans h.bo;have i:O.A w':=O.l w w' h.A<|g.bM h.D (λk e=>⟨(O.lt w h.A k e).2,hF k (O.lt w h.A k e).1⟩)<|λk e _=>e;have l:I (λk=>k=b\/k=c) w' (cP (cP w' (X b 0) q) (X c 0)<|ay<|(a:Y)+1):=((I.bI (λk=>k=b\/k=c) w').aL b 0 _<|J<|J z).aL c 0 _<|J<|bj z;have f:n0<=G (H w'):=aR h.D g.D;have j:∀k,(k=b\/k=c)->k<n0->V.F k:=by rintro k(rfl|rfl)A;have:=h.aZ.1;omega;have:=h.aZ.2.1;omega
 refine⟨(v.gq _).dN _ h.ra,(s.dN _<|λp=>h.ra p.symm).gq _,(t.dN _<|λp=>h.rn p.symm).dN _<|λp=>h.an p.symm,(u.dN _<|λp=>h.ro p.symm).dN _<|λp=>h.ao p.symm,bj<|B.bM<|l.bM f (λk e=>⟨(B.aZ.bZ k e).2,?_⟩) j,O.l w' _ i<|l.bM f (λk e=>⟨(O.lt w' i k e).2,?_⟩) j,x,by rw[gJ,gJ];exact f,h.f,h.aZ,h.ra,h.rn,h.ro,h.an,h.ao,D,h.nO⟩;grind
 rintro(A|A);exact(h.nO k e).1 A;exact(h.nO k e).2.1 A
end
def wH{P:Program}{w:Z}{b:R}{u:ae}{t:TypeId}(h:fE w b u t)(v:ae)(d:v.oneCell'=cz):(store (X b 0) v).run P w=.ok () (cP w (X b 0) v):=by
 have a:=h.u;have c:=h.bS;rw[Dr P w _ _ _ d];simp[a,c]
abbrev zE:E:=⟨⟨#[]⟩,⟨#[]⟩,bD,0⟩
def WP{l:Bl s b O}{v:R}{h:fB}(j:wU s b (pQ l c k n T W) a)(p:jS l e c k n T d i v h)(q:s.D e)(t:I (λg=>pQ l c k n T W g\/s.F g) a e)(r:¬pQ l c k n T h (G<|H a))(x:E)(o:Obj):s.D ((yo e (G<|H a) x).alloc o)/\I (λg=>pQ l c k n T W g\/s.F g) a ((yo e (G<|H a) x).alloc o)/\jS l ((yo e (G<|H a) x).alloc o) c k n T d i v h:=by
 have f:I (λg=>g=G (H a)) e ((yo e (G<|H a) x).alloc o):=(kp _ _ _).aE o;refine⟨s.l q f<|λg m u=>gV (j.f g u) j.D,t.aj f ar,p.fp f<|λg m=>?_⟩;subst m;exact⟨r,λa=>bP j.D⟩
def Qb(bs:Bl s b O){ek:dB}{ej:R}(hA:jS bs a c k n T d ek ej W)(hD:s.D a)(et:y O<=1000000000000):cR bN 343 #[aJ c,aJ k,aJ n,aJ T] a (Out s (C8 bs c k n T) (EM ek O ej) (pQ bs c k n T W) a):=by
 have:∀b a,(callFunc bs.f b).run bN a=.ok (.enter bs.f b) a:=bs.o;have:∀a,(binOp .eql 288 .nilFunc .nilFunc).run bN a=.ok (aO cz) a:=λ_=>rfl;have:∀f b a,(binOp .eql 288 (.func f #[] b) .nilFunc).run bN a=.ok (aO bD) a:=λ_ _ _=>rfl;have m:=hA.p;have B:∀g,b<=g->¬s.F g:=λg v hf=>bP<|m.f g hf;go_in
 go_wp2;go_loopg [9] (2*(y O-ej)+2) (λd _ wr=>∃aU r' x S' em,2*(y O-x)+em<d/\((aU=.nilFunc/\r'=[])\/(em=1/\kw s b aU r' S' wr))/\jS bs wr c k n T aU r' x S'/\s.D wr/\I (λg=>pQ bs c k n T W g\/s.F g) a wr/\EM ek O ej=EM r' O x/\(∀g,S' g->W g\/G (H a)+1<=g)/\jP wr (G<|H a) zE/\¬pQ bs c k n T S' (G<|H a))
 have h:=hA;refine⟨d,ek,ej,W,1,U,?_,h.ni _,s.l hD (cI aC a) cY,(cI _ _),z,λg v=>J v,aQ _ z,λf=>?_⟩;(obtain⟨c1,c2,_⟩|f:=(h.ni<|aK #[aw ⟨#[]⟩,aw ⟨#[]⟩,aO bD,bw 0] 223).bV;(grind);grind);have:=(h.p.bZ _ f).2;omega
 .let⟨aU,r',x,S',em,al,cx,e,Q,ac,S,ab,r,ap⟩:=hrel;have ch:=e.br.u;have cc:=e.ba.u;have cd:=e.bn.u;have ce:=e.bo.u;have:=e.ra;have:¬k=c:=λei=>e.ra ei.symm;have bf:=ak S;have N:=ak r;have bL:=ak ab;have p:=ak ap;have bd:=ak al;have bo:=az r;have ax:=ak (show∀V,I s.F wr V->I (λg=>pQ bs c k n T W g\/s.F g) a V fromλV h=>ac.aj h<|λg v=>J<|bj v);obtain⟨rfl,rfl⟩|⟨rfl,f1,A,rfl,bi,cB⟩:=cx;case' inl=>
   by_cases aD:x<y O;rotate_left
   .have bt:x=y O:=bP e.le;subst bt;let⟨dr,ds,dv,dx⟩:=r.bU;have cl:=r.bS (i:=0);have cm:=r.bS (i:=1);have cn:=r.bS (i:=2);have co:=r.bS (i:=3);have aV:=ak e;have K:=ak Q;clear e Q S r ab ap al;go_wp2;refine ci (gY z _ _ (G<|H a) zE _ _ z<|N.gK zE) z ?_;have u:I (λg=>g=G (H a)) wr (yo wr (G<|H a) zE):=kp _ _ _;refine⟨J ⟨_,z,J ⟨?_,z⟩⟩,s.l K u<|λg v hf=>gV (m.f g hf) m.D,ac.aj u<|λg v=>bj U⟩;rw[ag bf];simp[EM]
   have cs:=bs.ug x aD wr e.A Q;have cb:EM [] O x=EM O[x] O (x+1):=by unfold EM;rw[dm aD,di,ep]
   have bg:=ak<|S.trans cb;let⟨HK,bc,bb,aV⟩:=jr (show∀g,g=c\/g=k->b<=g by rintro g(rfl|rfl);exact e.aZ.1;exact e.aZ.2.1) e.br e.ba e;clear e Q S r ab ap al cb;go_wp21;go_call cs as ei V(⟨v1,S1,rfl,⟨f1,A,rfl,bi,cv⟩,aa,o,av⟩|⟨ey,hX,q,rfl,hq,aa,o⟩);rotate_left
   .have K:jP V (G<|H a) zE:=N.aA o<|B _ m.D;let⟨dr,ds,dv,dx⟩:=K.bU;have cl:=K.bS (i:=0);have cm:=K.bS (i:=1);have cn:=K.bS (i:=2);have co:=K.bS (i:=3);let⟨bt,HQ,dd,dk⟩:=jr K hq aa o;clear K hq aa o;go_wp2;refine ci (gY z _ _ (G<|H a) zE _ _ z<|bt.gK zE) z ?_;have u:I (λg=>g=G (H a)) V (yo V (G<|H a) zE):=kp _ _ _;exact⟨J ⟨_,z,bj ⟨hX,q,z,HQ.aA u bt.nY⟩⟩,s.l dd u<|λg v hf=>gV (m.f g hf) m.D,(ax _ dk).aj u<|λg v=>bj U⟩
   have hA1:=aV.YA aD o ⟨f1,A,z,bi,cv⟩ av;have ad:fE V c .nilFunc 288:=(o.A c (az bc)<|B _<|HK _<|J z).trans bc;have L:fE V k (ay x) 3:=(o.A k (az bb)<|B _<|HK _<|bj z).trans bb;have cT:=wH (P:=bN) ad (.func (.func f1) #[] A) z;have cj:=L.u;have ck:=L.bS;have cr:=az ad;have cp:=az L;have ao:I (λg=>g=c\/g=k) V (cP (cP V (X c 0)<|.func (.func f1) #[] A) (X k 0)<|ay<|(x:Y)+1):=((I.bI (λg=>g=c\/g=k) V).aL c 0 _<|J<|J z).aL k 0 _<|J<|bj z;have ca:=ak<|s.l aa ao<|λg v=>B g<|HK g v;have dT:=hA1.br.u;have l:=ak (show¬pQ bs c k n T S1 (G<|H a)by
    rintro(f|f|f|f|f|f)
    .exact p<|J f
    .exact p<|bj<|J f
    .exact p<|bj<|bj<|J f
    .exact p<|bj<|bj<|bj<|J f
    .have:=av _ f;omega
    .exact p (bj (bj (bj (bj (bj f))))))
   have bv:=ak<|(N.aA o<|B _ m.D).aA ao<|λf=>f.elim (λf=>p<|J f)<|λf=>p<|bj<|J f;have bT:=ak ((ax _ o).aj ao (by
    rintro g(f|f)
    .exact J<|J<|J f
    .exact J (J (bj (J f)))))
   have bh:=ak (show∀g,S1 g->W g\/G (H a)+1<=g fromλg v=>bj<|bP<|av g v);have bx:=ak<|show 2*(y O-(x+1))+1<gk from bP<|ag bd;have w:=ak hA1;have eg:=ao.D;have ed:=o.D;clear hA1 ad L ao aa o av cv aV HK bc bb N p ac bf bL bd cs ax;generalize O[x]=rr at*;go_wp21;clear cT cj ck;generalize(cP (cP V (X c 0)<|.func (.func f1) #[] A) (X k 0)<|ay<|(x:Y)+1)=el at*;generalize x+1=db at*;have ec:G (H a)<G (H el):=U;clear cr cp eg ed aD bo;clear ch cc cd ce
  case' inr=>
   have dT:=e.br.u;let⟨w,ca,bT,bg,bh⟩:=nZ e Q ac S ab;have bv:=N;have l:=p;have bx:=ak<|show 2*(y O-x)+1<gk from al;clear e Q S r ab ap al cB N p ac bf bL bd ax;go_wp21;clear ch cc cd ce;generalize o:wr=el at*;clear o;generalize r'=rr at*;generalize x=db at*;generalize S'=S1 at*;have ec:=bo;clear bo
  all_goals
   have cM:Dp s b f1 A rr S1 el:=by
    obtain⟨f,_⟩|⟨f2,en,ev,_,bq⟩:=w.bV
    .cases f
    grind
   go_call cM.ug ca as ei w2⟨cu,bk,an⟩;have bm:I (λg=>pQ bs c k n T W g\/s.F g) a w2:=bT.aj an (by
    rintro g(f|f)
    .obtain dc|dc:=bh g f
     .exact J<|J<|bj<|bj<|bj<|bj<|J dc
     grind
    grind)
   have t:jP w2 (G<|H a) zE:=bv.aA an<|λf=>f.elim (λf=>l<|bj<|bj<|bj<|bj<|J f)<|B _ m.D;have bn:fE w2 c (.func (.func f1) #[] A) 288:=(an.A c (az w.br)<|λf=>f.elim (λf=>(w.nS c f).1 z)<|λf=>B _ w.aZ.1 f).trans w.br;have u:=λx:E=>(kp w2 (G<|H a) x).aE<|aK #[aw x.D,aw x.l,aO x.dP,bw x.f] 223;have bp:G (H a)≠c:=λf=>l<|J f;let⟨eo,eq,er,es⟩:=t.bU;have:=t.bS (i:=0);have:=t.bS (i:=1);have:=t.bS (i:=2);have:=t.bS (i:=3);have:=az t;clear cM;obtain⟨ex,rfl,⟨ea,rfl⟩|⟨hX,q,rfl,hq⟩⟩|⟨⟨D,F,C,j⟩,r2,S2,eb,rfl,bl,bq⟩:=cu
   .subst ea;have:=wH (P:=bN) (bn.aE<|aK #[aw ⟨#[]⟩,aw ⟨#[]⟩,aO bD,bw 0] 223) .nilFunc z;have ba:=ak<|w.t<|an.aE<|aK #[aw ⟨#[]⟩,aw ⟨#[]⟩,aO bD,bw 0] 223;unfold bE yt;go_wp2;go_roundg(2*(y O-db)+1);case measure=>exact bx
    .have br:I (λg=>g=c) w2 (cP (dw w2<|aK #[aw ⟨#[]⟩,aw ⟨#[]⟩,aO bD,bw 0] 223) (X c 0) .nilFunc):=((I.bI (λg=>g=c) w2).aE _).aL c 0 _<|J z;refine⟨.nilFunc,[],db,λ_=>False,0,U,J ⟨z,z⟩,ba,s.l bk br<|λg v=>v▸B _ w.aZ.1,bm.aj br<|λg v=>J<|J<|J v,bg,cY,t.aA br bp,?_⟩;rintro(f|f|f|f|f|f)
     .exact bp f
     .exact l<|bj<|J f
     .exact l<|bj<|bj<|J f
     .exact l<|bj<|bj<|bj<|J f
     .exact f
     .exact l<|bj<|bj<|bj<|bj<|bj f
   .have HQ:=ak hq;clear hq bn;unfold bE yt;go_wp2;refine ci (gY z _ _ (G<|H a) zE _ _ z<|(t.gK zE).aE _) z ?_;exact⟨J ⟨_,z,bj ⟨hX,q,z,HQ.aA (u zE) t.nY⟩⟩,s.l bk (u zE)<|λg v hf=>gV (m.f g hf) m.D,bm.aj (u zE)<|λg v=>bj U⟩
   .subst eb;have ba:=ak<|w.U2 an bl ⟨f1,A,z,bi,bq⟩;clear bq bn;unfold E.t;simp only;go_wp2;refine ci (gY z _ _ (G<|H a) ⟨D,F,C,j⟩ _ _ z<|(t.gK ⟨D,F,C,j⟩).aE _) z ?_;have dn:¬pQ bs c k n T S2 (G<|H a):=by
     rintro(f|f|f|f|f|f)
     .exact bp f
     .exact l<|bj<|J f
     .exact l<|bj<|bj<|J f
     .exact l<|bj<|bj<|bj<|J f
     .obtain dc|dc:=bl _ f
      .exact l<|bj<|bj<|bj<|bj<|J dc
      .omega
     .exact l<|bj<|bj<|bj<|bj<|bj f
    let⟨q1,q2,q3⟩:=WP m ba bk bm dn ⟨D,F,C,j⟩<|aK #[aw D,aw F,aO C,bw j] 223;refine⟨bj ⟨⟨D,F,C,j⟩,_,_,bg,z,λg v=>?_,_,r2,db,S2,z,z,q3⟩,q1,q2⟩;obtain f|f|f|f|f|f:=v
    .exact J<|J f
    .exact J<|bj<|J f
    .exact J<|bj<|bj<|J f
    .exact J<|bj<|bj<|bj<|J f
    .obtain dc|dc:=bl g f
     .obtain ei|ei:=bh g dc
      .exact J<|bj<|bj<|bj<|bj<|J ei
      grind
     grind
    .exact J<|bj<|bj<|bj<|bj<|bj f
def Tj(k:Bl s b O)(f c d e:R)(j:y O<=1000000000000)(a:ae)(r:dB)(i:R)(S:fB)(w:Z)(l:jS k w f c d e a r i S):Dp s b 343 #[aJ f,aJ c,aJ d,aJ e] (EM r O i) (pQ k f c d e S) w:=by
 refine Dp.of (C8 k f c d e) ?_ ?_ ?_ ⟨a,r,i,S,z,z,l⟩;rintro n S w⟨a,r,i,g,rfl,rfl,h⟩;exact h.p;rintro n S w o⟨a,r,i,g,rfl,rfl,h⟩m;exact⟨a,r,i,g,z,z,h.bM m⟩;rintro n S w⟨a,r,i,g,rfl,rfl,h⟩m;exact Qb k h m j
def Ko(c:Bl s b O)(w:Z)(a:c.A w)(n:b<=G (H w))(hF:∀k,s.F k->k<b)(f:y O<=1000000000000):cR bN 338 #[ay<|y O,.func (.func c.f) #[] c.cb] w λp l=>∃j g,p=aN j/\kw s b j O.flatten g l/\gC (G<|H w) w l/\(∀k,g k->c.S k\/G (H w)<=k):=by
 have m:=ak a;clear a;go_in
 go_wp2;go_ret;have a:=ag m;have i:gC (G<|H w) w (dw (dw (dw (dw w<|aK #[ay<|y O] 3)<|aK #[.func (.func c.f) #[] c.cb] 457)<|aK #[ay 0] 3)<|aK #[.nilFunc] 288):=((((Below.refl _ w).alloc (aq _) _).alloc ar _).alloc dW _).alloc dW _;have o:I aC w _:=I.p i;refine⟨_,pQ c (G (H w)+1+1+1) (G (H w)+1+1) (G<|H w) (G (H w)+1) aC,z,⟨343,_,z,enters_of func343 aH z,?_⟩,i,?_⟩;refine Tj c _ _ _ _ f .nilFunc [] 0 _ _ ⟨aQ _ ar,?_,?_,?_,ar,c.l w _ a<|o.bM n (λk e=>⟨(c.lt w a k e).2,λd=>d⟩) cY,bQ _,by simp;omega,hF,⟨U,U,U,U⟩,U,U,U,U,U,cY,λk e=>?_⟩;exact fE.aE (aQ _ ar) _;(grind[fE.aE,aQ]);exact fE.aE (fE.aE (aQ _ ar) _) _;have:=(c.lt w a k e).2;grind
 rintro k(d|d|d|d|d|d);(grind);(grind);(grind);(grind);exact d.elim;exact J d
structure Hd where
 v:ae
 l:dB
 fr:E
 f:eN
 t:Bool
 S:R->Prop
def Hd.bU(h:Hd):iE:=[h.v,.string h.fr.D,.string h.fr.l,.bool h.fr.dP,.int .u64 h.fr.f,.bool h.f,.bool h.t]
def fw(hs:cy Hd):iE:=hs.flatMap Hd.bU
def Hd.D(h:Hd):dB:=if h.f then h.fr::h.l else h.l
theorem oF(hs:cy Hd):y (fw hs)=y hs*7:=by
 induction hs with
 |nil=>rfl
 |cons h r c=>unfold fw at*;rw[dR,ai,c];simp[Hd.bU];omega
def sa(hs:cy Hd)(i:R)(h:i<y hs):fw hs=fw (hs.take i)++(Hd.bU hs[i]++fw (hs.drop<|i+1)):=by
 have c:hs=hs.take i++hs[i]::hs.drop (i+1):=by rw[<-dm h,du]
 conv=>lhs;rw[c]
 simp only[fw,gR,dR]
theorem uB(hs:cy Hd)(i j:R)(h:i<y hs)(d:j<7):(fw hs)[i*7+j]?=(Hd.bU hs[i])[j]?:=by
 have c:y (fw<|hs.take i)=i*7:=by rw[oF];simp;omega
 rw[sa hs i h,fP U,c,show i*7+j-i*7=j by omega,ir (by simp[Hd.bU];omega)]
def LX(hs:cy Hd)(i:R)(h:i<y hs)(x:Hd)(e:x.v=hs[i].v):(((((((fw hs).set (i*7+1)<|.string x.fr.D).set (i*7+2)<|.string x.fr.l).set (i*7+3)<|.bool x.fr.dP).set (i*7+4)<|.int .u64 x.fr.f).set (i*7+5)<|.bool x.f).set (i*7+6)<|.bool x.t)=fw (hs.set i x):=by
 have d:y (fw<|hs.take i)=i*7:=by rw[oF];simp;omega
 have c:fw (hs.set i x)=fw (hs.take i)++(Hd.bU x++fw (hs.drop<|i+1)):=by rw[kB,fV h];simp only[fw,gR,dR]
 rw[c,sa hs i h];rw[iI _ _ U,iI _ _ U,iI _ _ U,iI _ _ U,iI _ _ U,iI _ _ U,d];rw[show i*7+1-i*7=1 by omega,show i*7+2-i*7=2 by omega,show i*7+3-i*7=3 by omega,show i*7+4-i*7=4 by omega,show i*7+5-i*7=5 by omega,show i*7+6-i*7=6 by omega];simp[Hd.bU,e]
def IR(hs:cy Hd)(i:R)(h:i<y hs)(x:Hd)(e:x={hs[i]with f:=x.f}):(fw hs).set (i*7+5) (.bool x.f)=fw (hs.set i x):=by
 have d:y (fw<|hs.take i)=i*7:=by rw[oF];simp;omega
 have c:fw (hs.set i x)=fw (hs.take i)++(Hd.bU x++fw (hs.drop<|i+1)):=by rw[kB,fV h];simp only[fw,gR,dR]
 rw[c,sa hs i h,iI _ _ U,d,show i*7+5-i*7=5 by omega];rw[e];simp[Hd.bU]
structure Xf(V:ju)(n0:R)(w:Z)(h:Hd):Prop where
 L:h.t=bD->kw V n0 h.v h.l h.S w
 aZ:wU V n0 h.S w
 f:h.t=cz->h.l=[]/\h.f=bD
def Xf.bM{V:ju}{n0:R}{w w':Z}{h:Hd}(o:Xf V n0 w h)(hs:kZ V n0 h.S w w'):Xf V n0 w' h:=⟨λe=>(o.L e).bM hs,o.aZ.bM hs,o.f⟩
structure kN(V:ju)(n0:R)(w:Z)(b a:R)(hs:cy Hd):Prop where
 g:fE w b (bX a 0 (y hs)<|y hs) 406
 bV:w.heap[a]?=M (.cells (fw hs).toArray 408 (0,0))
 bZ:∀i(hi:i<y hs),Xf V n0 w hs[i]
 D:n0<=G (H w)
 f:∀k,V.F k->k<n0
 aZ:n0<=b/\n0<=a
 bh:b≠a
 nS:∀i(hi:i<y hs)k,hs[i].S k->k≠b/\k≠a
 S:∀i j(hi:i<y hs)(hj:j<y hs),i≠j->∀k,hs[i].S k->¬hs[j].S k
def nu(b a:R)(hs:cy Hd)(k:R):Prop:=k=b\/k=a\/∃i,∃c:i<y hs,hs[i].S k
section
variable{V:ju}{n0:R}{w w':Z}{b a:R}{hs:cy Hd}
def kN.p(h:kN V n0 w b a hs):wU V n0 (nu b a hs) w:=⟨h.D,h.f,by
 rintro k(rfl|rfl|⟨i,c,d⟩)
 .exact⟨h.aZ.1,az h.g⟩
 .exact⟨h.aZ.2,az h.bV⟩
 .exact(h.bZ i c).aZ.bZ k d⟩
def kN.bM(h:kN V n0 w b a hs)(c:kZ V n0 (nu b a hs) w w'):kN V n0 w' b a hs:=⟨h.g.bM c<|J z,(c.2 a<|bj<|bj<|J z).trans h.bV,λi d=>(h.bZ i d).bM<|c.aT<|λ_ e=>bj<|bj ⟨i,d,e⟩,aR h.D c.1,h.f,h.aZ,h.bh,h.nS,h.S⟩
def kN.fp{T:fB}(h:kN V n0 w b a hs)(e:I T w w')(d:∀k,T k->¬nu b a hs k/\(k<n0->V.F k)):kN V n0 w' b a hs:=h.bM<|e.bM h.D (λk c=>⟨(h.p.bZ k c).2,λf=>(d k f).1 c⟩) aI
def kN.ni(h:kN V n0 w b a hs)(o:Obj):kN V n0 (dw w o) b a hs:=h.fp ((I.bI aC w).aE o) cY
def kN.gK(h:kN V n0 w b a hs)(l:R)(j:l<y hs)(B:Hd)(v:I (λk=>(hs[l].S k\/V.F k)\/k=a) w w')(C:w'.heap[a]?=M (.cells (fw<|hs.set l B).toArray 408 (0,0)))(D:Xf V n0 w' B)(q:∀k,B.S k->hs[l].S k\/G (H w)<=k):kN V n0 w' b a (hs.set l B):=by
 have hF:∀k,n0<=k->¬V.F k:=λk c d=>bP<|h.f k d;have r:fE w' b (bX a 0 (y hs)<|y hs) 406:=by refine(v.A b (az h.g) ?_).trans h.g;rintro((d|d)|d);exact(h.nS l j b d).1 z;exact hF b h.aZ.1 d;exact h.bh d
 refine⟨by rw[gz];exact r,C,λo s=>?_,aR h.D v.D,h.f,h.aZ,h.bh,λo s k c=>?_,λn m t u i k c=>?_⟩;rw[nJ];split;exact D;rename_i i;have e:o<y hs:=dV s;refine(h.bZ o e).bM<|v.bM h.D (λk c=>⟨((h.bZ o e).aZ.bZ k c).2,?_⟩)<|λk c g=>?_;rintro((d|d)|d);exact h.S l o j e i k d c;exact hF k ((h.bZ o e).aZ.bZ k c).1 d;exact(h.nS o e k c).2 d;obtain(d|d)|d:=c;have:=((h.bZ l j).aZ.bZ k d).1;omega;exact d;have:=h.aZ.2;omega;rw[nJ]at c;split at c;(obtain d|d:=q k c;exact h.nS l j k d;have:=az h.g;have:=az h.bV;grind);exact h.nS o (dV s) k c;rw[nJ]at c|-;have e:n<y hs:=dV t;have g:m<y hs:=dV u;split at c;rename_i x;have A:¬l=m:=U;rw[fM A];obtain d|d:=q k c;exact h.S l m j g A k d;intro c2;have:=((h.bZ m g).aZ.bZ k c2).2;omega;rename_i x;split;intro c2;obtain d|d:=q k c2;exact h.S l n j e x k d c;have:=((h.bZ n e).aZ.bZ k c).2;omega;exact h.S n m e g i k c
end
def yE{d:cy Hd}(h:a.heap[b]?=M (.cells (fw d).toArray 408 (0,0)))(i:R)(e:i<y d):(bA a (X b<|i*7+1)=M (.string d[i].fr.D)/\bA a (X b<|i*7+1+1)=M (.string d[i].fr.l)/\bA a (X b<|i*7+1+2)=M (.bool d[i].fr.dP)/\bA a (X b<|i*7+1+3)=M (.int .u64 d[i].fr.f)/\bA a (X b<|i*7+5)=M (.bool d[i].f)/\bA a (X b<|i*7+6)=M (.bool d[i].t))/\∀o,iH a (X b o)=bD:=by
 have c:∀j,j<7->bA a (X b<|i*7+j)=(Hd.bU d[i])[j]?:=λj f=>by rw[cE h];grind[uB]
 exact⟨⟨c 1 cg,by rw[bJ];exact c 2 cg,by rw[bJ];exact c 3 cg,by rw[bJ];exact c 4 cg,c 5 cg,c 6 cg⟩,λo=>cV h⟩
def On(w:Z)(a i:R)(x:Hd):Z:=cP (cP (cP (cP (cP (cP w (X a<|i*7+1)<|.string x.fr.D) (X a<|i*7+1+1)<|.string x.fr.l) (X a<|i*7+1+2)<|.bool x.fr.dP) (X a<|i*7+1+3)<|.int .u64 x.fr.f) (X a<|i*7+5)<|.bool x.f) (X a<|i*7+6)<|.bool x.t
def Vn(w:Z)(a i:R)(x:Hd):I (λk=>k=a) w (On w a i x):=(((((iP a w).aL a _ _<|J z).aL a _ _<|J z).aL a _ _<|J z).aL a _ _<|J z).aL a _ _<|J z
def Yq{c:cy Hd}(h:a.heap[b]?=M (.cells (fw c).toArray 408 (0,0)))(i:R)(d:i<y c)(x:Hd)(e:x.v=c[i].v):(On a b i x).heap[b]?=M (.cells (fw<|c.set i x).toArray 408 (0,0)):=by
 refine(aY<|aY<|aY<|aY<|aY<|aY h).trans ?_;simp only[dC];rw[<-LX c i d x e]
def PH{g:cy Hd}(o:kN s b a c k g)(j:R)(r:j<y g)(d:Hd)(D:Obj)(L:d.v=g[j].v)(A:I (λf=>g[j].S f\/s.F f) a e)(u:s.D e)(v:e.heap[k]?=M (.cells (fw g).toArray 408 (0,0)))(K:d.t=bD->kw s b d.v d.l d.S e)(h:wU s b d.S e)(l:d.t=cz->d.l=[]/\d.f=bD)(w:∀f,d.S f->g[j].S f\/G (H a)<=f)(m:d.D=g[j].D)(B:d.f=cz\/d.t=cz):s.D ((On e k j d).alloc D)/\I (λf=>nu c k g f\/s.F f) a ((On e k j d).alloc D)/\∃E:Hd,kN s b ((On e k j d).alloc D) c k (g.set j E)/\E.D=g[j].D/\(E.f=cz\/E.t=cz)/\(∀f,E.S f->g[j].S f\/G (H a)<=f):=by
 have n:I (λf=>f=k) e ((On e k j d).alloc D):=(Vn _ _ _ _).aE _;have q:I (λf=>(g[j].S f\/s.F f)\/f=k) a ((On e k j d).alloc D):=(A.aT (T:=λf=>(g[j].S f\/s.F f)\/f=k) aI).aj n ar;have C:((On e k j d).alloc D).heap[k]?=M (.cells (fw<|g.set j d).toArray 408 (0,0)):=by have:=Yq v j r d L;grind[gw,az]
 have x:∀f,d.S f->¬f=k:=λf p t=>by obtain N|N:=w f p;exact(o.nS j r f N).2 t;have:=az o.bV;omega
 have i:=n.bM (V:=s) (n0:=b) (S:=d.S) h.D (λf p=>⟨(h.bZ f p).2,x f p⟩)<|λf p a=>bP o.aZ.2;refine⟨s.l u n<|λf p F=>gV (o.f f F) o.aZ.2,q.aT ?_,d,o.gK j r d q C ⟨λt=>(K t).bM i,h.bM i,l⟩ w,m,B,w⟩;rintro f((t|t)|t);exact J<|J<|bj<|bj ⟨j,r,t⟩;grind
 exact J<|J<|bj<|J t
def ZQ(e:cy Hd)(i:R)(u:i<y e)(h:kN s b a c k e)(hD:s.D a):cR bN 266 #[.pointer<|M<|X k<|i*7] a λal Q=>(al=.returned ib/\s.D Q/\I (λC=>nu c k e C\/s.F C) a Q/\∃ac:Hd,kN s b Q c k (e.set i ac)/\ac.D=e[i].D/\(ac.f=cz\/ac.t=cz)/\(∀C,ac.S C->e[i].S C\/G (H a)<=C))\/Es s a Q (λC=>nu c k e C\/s.F C) al (λap=>ap):=by
 have g:∀j,j<7->bA a (X k<|i*7+j)=(Hd.bU e[i])[j]?:=λj d=>by rw[cE h.bV];grind[uB]
 have B:=g 0 cg;have d:=g 5 cg;have f:=g 6 cg;have n:=h.bZ i u;clear g;have w:e.set i e[i]=e:=List.set_getElem_self u;have r:=ak w;clear w;cases hfu:e[i].f with
 |true=>
  simp only[Hd.bU,hfu]at d B;simp at d;have m:=ak hfu;clear hfu n f B;go_in
  go_wp2;go_ret;refine J ⟨z,hD,I.bI _ _,e[i],?_,z,J m,λC K=>J K⟩;rw[ag r];exact h
 |false=>
  cases hen:e[i].t with
  |true=>
   simp only[Hd.bU,hfu,hen]at d B f;simp at d f;clear n B;go_in
   go_wp2;go_ret;refine J ⟨z,hD,I.bI _ _,e[i],?_,z,bj hen,λC K=>J K⟩;rw[ag r];exact h
  |false=>
   let⟨an,cb,A,eg,v⟩:=n.L hen;simp only[Hd.bU,hfu,hen,A]at d B f;simp at d f B;let⟨m,ad,W,S⟩:=jr hfu hen A<|show Enters bN an from eg;clear hfu hen n A;have hc:=v.ug hD;clear v;go_in
   go_wp21;go_call hc as al w1⟨L,x,l⟩;have o:w1.heap[k]?=M (.cells (fw e).toArray 408 (0,0)):=(l.A k (az h.bV)<|λD=>D.elim (λD=>(h.nS i u k D).2 z)<|λD=>gV (h.f k D) h.aZ.2).trans h.bV;let⟨⟨c1,c2,c3,c4,c5,c6⟩,j⟩:=yE o i u;have:=j<|i*7+1;have:=j<|i*7+1+1;have:=j<|i*7+1+2;have:=j<|i*7+1+3;have:=j<|i*7+5;have:=j<|i*7+6;have:=az o;obtain⟨ev,rfl,⟨hl,rfl⟩|⟨hX,q,rfl,hq⟩⟩|⟨⟨O,P,N,p⟩,ao,S1,hl,rfl,ab,aa⟩:=L
   .have T:=ak hl;unfold bE yt;go_wp2;go_ret;have t:=h;refine J ⟨z,PH t i u ⟨e[i].v,[],zE,bD,cz,e[i].S⟩ _ z l x o (λD=>by cases D) ((t.bZ i u).aZ.aA l) (λ_=>⟨rfl,rfl⟩) (λC K=>J K) ?_<|bj rfl⟩;unfold Hd.D;rw[ag m,ag T];rfl
   .have t:=ak hq;unfold bE yt;go_wp2;go_ret;refine bj ⟨hX,q,z,t.aA (cI aC w1) cY,s.l x (cI aC w1) cY,(l.aT ?_).aE _⟩;rintro C(D|D)
    .exact J<|J<|bj<|bj ⟨i,u,D⟩
    grind
   .let⟨T,V,F⟩:=eU hl ab aa;unfold E.t;simp only;go_wp2;go_ret;have t:=ag F;refine J ⟨z,PH h i u ⟨e[i].v,ao,⟨O,P,N,p⟩,cz,bD,S1⟩ _ z l x o (λ_=>⟨an,cb,W,S,t⟩) t.aZ (λD=>by cases D) V ?_<|J rfl⟩;unfold Hd.D;rw[ag m,ag T];rfl
def Iq:Option R->Y
 |none=>-1
 |some b=>b
def lu(a:cy Hd):iF:=a.map Hd.D
def Vk(a:cy Hd)(i:R)(e:i<y a)(x:Hd)(b:x.D=a[i].D):lu (a.set i x)=lu a:=by
 unfold lu;rw[uv,b];refine List.ext_getElem ar<|λj c d=>?_;rw[nJ];grind
def zI{a:cy Hd}(c:b<y a):nA (lu a) b=a[b].D.head?:=by
 unfold nA lu;simp[c]
theorem It{a:cy Hd}(h:k<y a){x:Hd}(g:∀d,x.S d->a[k].S d\/n<=d):∀d,nu b c (a.set k x) d->nu b c a d\/n<=d:=by
 rintro d(e|e|⟨j,i,e⟩);exact J<|J e;exact J<|bj<|J e;rw[nJ]at e;split at e;obtain f|f:=g d e;exact J<|bj<|bj ⟨k,h,f⟩;exact bj f;exact J<|bj aI
theorem BY(w:Z)(q:R):I aC w (w.drewN q):=⟨rfl,rfl,rfl,aq _,λ_ _ _=>rfl⟩
def MC(h:nA O b=M S)(a:mq O b=dE):mq O (b+1)=M b:=by
 unfold mq;rw[h,a]
def MB{f:E}(h:nA O b=M S)(a:mq O b=M c)(d:nA O c=M f):mq O (b+1)=if ahead S f then M b else M c:=by
 conv=>lhs;unfold mq
 rw[h,a];grind
def Hz{a:cy Hd}{x:Hd}(h:∀j(c:j<y a),j<b->a[j].f=cz\/a[j].t=cz)(d:x.f=cz\/x.t=cz):∀j(c:j<y (a.set b x)),j<b+1->(a.set b x)[j].f=cz\/(a.set b x)[j].t=cz:=by
 grind
def C6(V:ju)(d b c N:R)(l:dB)(S:fB)(w:Z):Prop:=∃a,l=eL (lu a)/\S=nu b c a/\y a=N/\kN V d w b c a
theorem OJ(e:cy Hd)(h:kN s b a c k e)(hD:s.D a)(hn:y e<=1000000000000):cR bN 265 #[aJ c] a (Out s (C6 s b c k<|y e) (eL<|lu e) (nu c k e) a):=by
 have cb:=az h.g;have cd:=h.g.u;let⟨j,HH,HD⟩:=eU h.p h hD;go_in
 go_wp2;go_loopw [4,9] (λg ax wr=>∃(u:R)(d:cy Hd),u<=y e/\ax=.int .i64 u/\g=.int .i64 (Iq<|mq (lu e) u)/\kN s b wr c k d/\y d=y e/\lu d=lu e/\(∀bp(hj:bp<y d),bp<u->d[bp].f=cz\/d[bp].t=cz)/\s.D wr/\I (λm=>nu c k e m\/s.F m) a wr/\jP wr (G<|H a) zE/\(∀m,nu c k d m->nu c k e m\/G (H a)+1<=m)) (λ_ ax _=>y e-(intOf ax).toNat)
 have h:=ag HH;exact⟨0,e,bQ _,z,z,h.ni _,z,z,λbp _ hj=>U,s.l HD (cI aC a) cY,(cI _ _),aQ _ z,λm r=>J r⟩
 .obtain⟨u,d,ce,rfl,rfl,x,T,F,Q,D,hT,L,hS⟩:=hrel;have bx:=x.g.u;rw[T]at bx;by_cases bn:u<y e
  .have ao:=ZQ d u U x D;let⟨HA,bq,aV,HT,HE,HS⟩:=nT x F Q hT L hS;let⟨bo,p⟩:∃bo,mq (lu e) u=bo:=⟨_,rfl⟩;rw[p];have K:=ak p;go_wp21;go_call ao as cc w1(⟨rfl,an,P,aD,hA1,bL,bT,ca⟩|⟨hX,q,rfl,hq,an,P⟩);rotate_left
   .have bg:=az HE;have B:jP w1 (G<|H a) zE:=HE.aA P (by
     rintro(v|v)
     .obtain V|V:=HS _ v
      .have:=(j.bZ _ V).2;omega
      .omega
     .have:=j.f _ v;have:=j.D;omega)
    let⟨bb,bc,bd,bf⟩:=B.bU;have bi:=B.bS (i:=0);have bk:=B.bS (i:=1);have bl:=B.bS (i:=2);have bm:=B.bS (i:=3);let⟨aU,HQ,ad,N⟩:=jr B hq an P;go_wp2;apply ci (gY z _ _ (G<|H a) zE _ _ z<|aU.gK zE) z;have o:I (λm=>m=G (H a)) w1 (yo w1 (G<|H a) zE):=kp _ _ _;refine⟨J ⟨_,z,bj ⟨hX,q,z,HQ.aA o aU.nY⟩⟩,s.l ad o<|λm r hf=>gV (j.f m hf) j.D,(HT.aj N ?_).aj o ar⟩;rintro m(v|v)
    .obtain V|V:=HS m v
     .grind
     grind
    grind
   let⟨ad,N,t,br,al,bs⟩:=nT an P hA1 bL bT ca;go_wp2;have ab:u<y d:=U;have av:u<y (d.set u aD):=sM;let⟨⟨c1,c2,c3,c4,c5,c6⟩,ap⟩:=yE t.bV u av;rw[sI]at c1 c2 c3 c4 c5 c6;have bt:=t.g.u;rw[gz,T]at bt;have ac:lu (d.set u aD)=lu e:=(Vk d u ab aD br).trans bq;have aa:=ak ac;have ba:=ak (by rw[<-ac,zI av,sI]:nA (lu e) u=aD.D.head?);have ch:G (H a)<G (H wr):=az HE;have bh:∀(bg:Z)(bv:Y),I aC w1 bg->Iq (mq (lu e)<|u+1)=bv->∃(i:R)(g:cy Hd),i<=y e/\Value.int .i64 ((u:Y)+1)=.int .i64 i/\Value.int .i64 bv=.int .i64 (Iq<|mq (lu e) i)/\kN s b bg c k g/\y g=y e/\lu g=lu e/\(∀bp(hj:bp<y g),bp<i->g[bp].f=cz\/g[bp].t=cz)/\s.D bg/\I (λm=>nu c k e m\/s.F m) a bg/\jP bg (G<|H a) zE/\(∀m,nu c k g m->nu c k e m\/G (H a)+1<=m):=by
    intro bg bv B aU;refine⟨u+1,d.set u aD,bn,z,by rw[aU],t.fp B cY,by rw[gz];exact T,aa,Hz aV al,s.l ad B cY,?_,?_,?_⟩
    .refine((HT.aj N ?_).t B);rintro m(v|v)
     .obtain V|V:=HS m v
      .simp_all
      grind
     simp_all
    .refine(HE.aA N ?_).aA B<|λv=>v;rintro(v|v)
     .obtain V|V:=HS _ v
      .have:=(j.bZ _ V).2;omega
      .omega
     .have:=j.f _ v;have:=j.D;omega
    .intro m r;obtain V|V:=It ab bs m r
     .exact HS m V
     grind
   have W:=ak bh;cases hfu:aD.f with
   |false=>
    rw[hfu]at c5;have bg:aD.t=cz:=al.resolve_left (by rw[hfu];simp);have aU:=(t.bZ u av).f;rw[sI]at aU;have bv:=aU bg;have B:nA (lu e) u=dE:=by rw[ag ba];unfold Hd.D;rw[hfu,bv.1];rfl
    have HB:=ak (by unfold mq;rw[B];exact K:mq (lu e) (u+1)=bo);go_quiet(fail)
    go_wp2;go_roundw
    .grind[BY,ag]
    .simp[intOf];omega
   |true=>
    rw[hfu]at c5;have ap:nA (lu e) u=M aD.fr:=by rw[ag ba];unfold Hd.D;rw[hfu];rfl
    cases bo with
    |none=>
     have HB:=ak<|MC ap K;simp only[Iq];go_quiet(fail)
     go_wp2;go_roundw
     .exact W _ _ (BY _ _) (by rw[ag HB];rfl)
     .simp[intOf];omega
    |some l=>
     let⟨bE,O,C,_⟩:=wD K;have HB:=ak<|MB ap K C;have n:l<y (d.set u aD):=U;have i:(d.set u aD)[l].D.head?=M O:=by rw[<-zI n,ag aa];exact C
     have g:(d.set u aD)[l].f=cz:=by
      obtain v|v:=Hz aV al l n U
      .exact v
      .have:=(t.bZ l n).f v;unfold Hd.D at i;rw[this.2,this.1]at i;cases i
     have A:(d.set u aD)[l].fr=O:=by
      unfold Hd.D at i;rw[g]at i;simp_all
     let⟨⟨d1,d2,d3,d4,_,_⟩,_⟩:=yE t.bV l n;rw[A]at d1 d2 d3 d4;have B:=Eo aD.fr O;have bg:=az t.bV;have aU:=az t.g;generalize aD.fr=xf at*;let⟨xk,xv,xd,xb⟩:=xf;let⟨fk,fv,fd,w⟩:=O;simp only at c1 c2 c3 c4 d1 d2 d3 d4;simp only[E.t]at B;simp only[Iq];have i1:(0:Y)<=(l:Y):=U;have i2:(l:Y)<(y e:Y):=U;have i3:l<y e:=U;have i4:¬(l:Y)<0:=U;have i5:(0:Y)<=(u:Y):=U;have i6:(u:Y)<(y e:Y):=U;cases hax:ahead ⟨xk,xv,xd,xb⟩ ⟨fk,fv,fd,w⟩;all_goals
      rw[hax]at HB B;go_region_held3(λa=>bA a (X c 0)=M (bX k 0 (y e)<|y e)/\bA a (X k<|u*7+5)=M (.bool cz)/\(bA a (X k<|u*7+1)=M (.string xk)/\bA a (X k<|u*7+1+1)=M (.string xv)/\bA a (X k<|u*7+1+2)=M (.bool xd)/\bA a (X k<|u*7+1+3)=M (.int .u64 xb))/\(bA a (X k<|l*7+1)=M (.string fk)/\bA a (X k<|l*7+1+1)=M (.string fv)/\bA a (X k<|l*7+1+2)=M (.bool fd)/\bA a (X k<|l*7+1+3)=M (.int .u64 w))) (first|assumption|go_keep) (first
       |(go_at_call 249;refine(B _).mono ?_;rintro cc w2⟨rfl,rfl⟩))
      go_wp2;go_roundw
      .refine W _ _ ?_ (by rw[ag HB];rfl);exact(((cI aC w1).aE _)).t<|BY _ 1
      .simp[intOf];omega
  .have bt:u=y e:=U;subst bt;let⟨bo,p⟩:∃bo,mq (lu e) (y e)=bo:=⟨_,rfl⟩;rw[p];cases bo with
   |none=>
    have hm:=zS (hs:=lu e) (by rw[show y (lu e)=y e by simp[lu]];exact p);have B:=ak hm;have t:=ak D;have HT:=ak hT;have HE:=ak L;let⟨bb,bc,bd,bf⟩:=L.bU;have bi:=L.bS (i:=0);have bk:=L.bS (i:=1);have bl:=L.bS (i:=2);have bm:=L.bS (i:=3);clear hm p x D hT L hS F Q;simp only[Iq];go_wp2;refine ci (gY z _ _ (G<|H a) zE _ _ z<|HE.gK zE) z ?_;have o:I (λm=>m=G (H a)) wr (yo wr (G<|H a) zE):=kp _ _ _;exact⟨J ⟨_,z,J ⟨B,z⟩⟩,s.l t o<|λm r hf=>gV (j.f m hf) j.D,HT.aj o ar⟩
   |some l=>
    let⟨bE,O,C,_⟩:=wD p;have hm:=zR (hs:=lu e) (by rw[(by simp[lu]:y (lu e)=y e)];exact p) C;have n:l<y d:=U;have i:d[l].D.head?=M O:=by rw[<-zI n,F];exact C
    have g:d[l].f=cz:=by
     obtain v|v:=Q l n U
     .exact v
     .have:=(x.bZ l n).f v;unfold Hd.D at i;rw[this.2,this.1]at i;cases i
    have A:d[l].fr=O:=by
     unfold Hd.D at i;rw[g]at i;grind
    have N:d[l].t=bD:=by
     cases v:d[l].t with
     |false=>rfl
     |true=>have:=((x.bZ l n).f v).2;rw[g]at this;cases this
    let⟨⟨d1,d2,d3,d4,d5,_⟩,P⟩:=yE x.bV l n;have g5:=P<|l*7+5;rw[A]at d1 d2 d3 d4;have aa:lu (d.set l {d[l]with f:=bD})=(lu e).modify l List.tail:=by
     rw[<-F];unfold lu;rw[uv];refine List.ext_getElem ar<|λbp h1 h2=>?_;rw[nJ,List.getElem_modify];split
     .rename_i cc;subst cc;simp[Hd.D,g]
     .simp
    have B:(cP wr (X k<|l*7+5)<|.bool bD).heap[k]?=M (.cells (fw<|d.set l {d[l]with f:=bD}).toArray 408 (0,0)):=by
     apply(aY x.bV).trans;simp only[dC];rw[<-IR d l n {d[l]with f:=bD} rfl]
    have K:I (λm=>m=k) wr (cP wr (X k<|l*7+5)<|.bool bD):=(iP k wr);have W:Xf s b (cP wr (X k<|l*7+5)<|.bool bD) {d[l]with f:=bD}:=by
     have an:=x.bZ l n;have aV:=K.bM (V:=s) (n0:=b) (S:=d[l].S) x.D (λm r=>⟨(an.aZ.bZ m r).2,λv=>(x.nS l n m r).2 v⟩)<|λm r bn=>bP x.aZ.2;exact⟨λv=>(an.L N).bM aV,an.aZ.bM aV,aI⟩
    have ab:=x.gK l n {d[l]with f:=bD} ((I.bI (λm=>(d[l].S m\/s.F m)\/m=k) wr).aL k _ _ (J<|bj rfl):I (λm=>(d[l].S m\/s.F m)\/m=k) wr (cP wr (X k<|l*7+5)<|.bool bD)) B W (λm r=>J r);have aU:¬G (H a)=k:=λv=>bP<|az HH.bV;have bv:¬k=G (H a):=λv=>aU v.symm;have t:jP (cP wr (X k<|l*7+5)<|.bool bD) (G<|H a) zE:=L.aA K aU;let⟨bb,bc,bd,bf⟩:=t.bU;have bi:=t.bS (i:=0);have bk:=t.bS (i:=1);have bl:=t.bS (i:=2);have bm:=t.bS (i:=3);have ac:∀m,nu c k (d.set l {d[l]with f:=bD}) m->nu c k e m\/G (H a)+1<=m:=by
     grind[It]
    have av:=s.l D K<|λm r hf=>gV (j.f m hf)<|j.bZ k<|bj<|J z;have al:eL (lu e)=O::eL (lu<|d.set l {d[l]with f:=bD}):=by rw[aa];exact hm
    have ad:y (d.set l {d[l]with f:=bD})=y e:=by rw[gz];exact T
    let⟨ao,aD⟩:∃ao,ao=d.set l {d[l]with f:=bD}:=⟨_,rfl⟩;rw[<-aD]at ab ac al ad;let⟨ba,ap,br,bq,bs,bg,bh⟩:=zX ab ac al ad (hT.aj K (λm r=>J<|J<|bj<|J r):I (λm=>nu c k e m\/s.F m) a (cP wr (X k<|l*7+5)<|.bool bD)) av t;have i1:(0:Y)<=(l:Y):=U;have i2:(l:Y)<(y e:Y):=U;have i3:l<y e:=U;have i4:¬(l:Y)<0:=U;rw[g]at d5;clear hm C i g A N aa B K W ab ac av al ad t x D hT L hS F Q p P aD;let⟨fk,fv,fd,w⟩:=O;simp only at d1 d2 d3 d4;simp only[Iq];go_wp2;apply ci (gY z _ _ (G<|H a) ⟨fk,fv,fd,w⟩ _ _ z<|bh.gK ⟨fk,fv,fd,w⟩) z;have o:I (λm=>m=G (H a)) (cP wr (X k<|l*7+5)<|.bool bD) (yo (cP wr (X k<|l*7+5)<|.bool bD) (G<|H a) ⟨fk,fv,fd,w⟩):=kp _ _ _;refine⟨bj ⟨⟨fk,fv,fd,w⟩,_,_,br,z,λm r=>?_,ao,z,z,bq,ba.fp o<|λm r=>?_⟩,s.l bg o<|λm r hf=>gV (j.f m hf) j.D,bs.aj o ar⟩;rotate_left
    .subst r;refine⟨λv=>?_,λv=>bP j.D⟩;obtain V|V:=ap _ v
     .have:=(j.bZ _ V).2;omega
     .omega
    .obtain V|V:=ap m r
     .exact J V
     grind
def Sm(V:ju)(f c d:R)(b:cy Hd)(w:Z)(i:y b<=1000000000000)(a:kN V f w c d b):Dp V f 265 #[aJ c] (eL<|lu b) (nu c d b) w:=by
 refine Dp.of (C6 V f c d<|y b) ?_ ?_ ?_ ⟨b,z,z,z,a⟩;rintro l S w⟨h,rfl,rfl,_,a⟩;exact a.p;rintro l S w j⟨h,rfl,rfl,e,a⟩g;exact⟨h,z,z,e,a.bM g⟩;rintro l S w⟨h,rfl,rfl,e,a⟩g;rw[<-e];grind[OJ]
def KZ{P:Program}{e:Array ae}{t:TypeId}(h:a.heap[b]?=M (aK e t (0,0)))(i:e[c]?=M d)(v:ae)(j:v.oneCell'=cz):(store (X b c) v).run P a=.ok () (cP a (X b c) v):=by
 have f:bA a (X b c)=M d:=(cE h).trans i;have g:=cV (i:=c) h;rw[Dr P a _ _ _ j];simp[f,g]
def vS:Hd:=⟨.nilFunc,[],zE,bD,bD,λ_=>False⟩
def LD(g:ae×dB×fB):Hd:=⟨g.1,g.2.1,zE,bD,bD,g.2.2⟩
def wP(a:cy (ae×dB×fB))(n:R):cy Hd:=(a.take n).map LD++List.replicate (y a-n) vS
def EO(a:cy (ae×dB×fB))(n:R)(h:n<=y a):y (wP a n)=y a:=by unfold wP;simp;omega
def We(a:cy (ae×dB×fB))(n:R)(h:n<y a):(wP a n).set n (LD a[n])=wP a (n+1):=by
 unfold wP;have b:y a-n=(y a-(n+1))+1:=U;rw[b,List.replicate_succ,iI _ _ dW];rw[aG h];have:n-y ((a.take n).map LD)=0:=by simp;omega
 rw[this];grind
def Pr(a:cy (ae×dB×fB))(n:R)(h:n<y a):(wP a n)[n]?=M vS:=by
 unfold wP;rw[fP dW];grind
def IS(a:cy Hd)(i:R)(h:i<y a)(x:Hd)(c:x.fr=a[i].fr)(d:x.f=a[i].f)(e:x.t=a[i].t):(fw a).set (i*7) x.v=fw (a.set i x):=by
 have f:y (fw<|a.take i)=i*7:=by rw[oF];simp;omega
 have b:fw (a.set i x)=fw (a.take i)++(Hd.bU x++fw (a.drop<|i+1)):=by rw[kB,fV h];simp only[fw,gR,dR]
 rw[b,sa a i h,iI _ _ U,f,xX];simp[Hd.bU,c,d,e]
def Sp(n:R):(madeCells #[.nilFunc,aw ⟨#[]⟩,aw ⟨#[]⟩,aO bD,bw 0,aO bD,aO bD]<|n*7).toList=fw (List.replicate n vS):=by
 refine wh<|λj=>?_;by_cases c:j<n*7;(have a:j/7<y (List.replicate n vS):=by simp;omega);have b:=uB (List.replicate n vS) (j/7) (j%7) a U;rw[show j/7*7+j%7=j by omega]at b;rw[b,List.getElem_replicate];have f:j%7<7:=oh _ cg;(have d:(madeCells #[.nilFunc,aw ⟨#[]⟩,aw ⟨#[]⟩,aO bD,bw 0,aO bD,aO bD]<|n*7).toList[j]?=M ((#[.nilFunc,aw ⟨#[]⟩,aw ⟨#[]⟩,aO bD,bw 0,aO bD,aO bD]:Array ae)[j%7]!):=by unfold madeCells;simp[c]);rw[d];have:j%7=0\/j%7=1\/j%7=2\/j%7=3\/j%7=4\/j%7=5\/j%7=6:=U;obtain e|e|e|e|e|e|e:=this<;>rw[e]<;>rfl;grind[getElem?_eq_none,Array.length_toList,size_madeCells,oF]
def Zp:(prog.info? 408).map (λi=>(i.zero,i.size,i.bytes))=M (M<|ef #[.nilFunc,aw ⟨#[]⟩,aw ⟨#[]⟩,aO bD,bw 0,aO bD,aO bD],7,64):=aH
def Vy(h:fD a b c k (bX n 0 T T) T Q):a.heap[n]?=M (aK Q.toArray c (0,0)):=by
 obtain⟨q,⟨e,_⟩|⟨p,i,d,e,r,m,o,l,f,g⟩⟩:=h;cases e;cases e;(have j:d.toList=Q:=by rw[<-g,fA (by rw[nG,f];grind)]);rw[m,<-j]
def VG(bc:ju)(N:R)(b:cy (ae×dB×fB))(hr:Row a 1 d (y b) (b.map (·.1)))(ax:∀m,cN d=M m->m<G (H a))(hn:y b<=40000000000)(hg:∀i(k:i<y b),kw bc N b[i].1 b[i].2.1 b[i].2.2 a)(hd:∀i bf(k:i<y b)(hj:bf<y b),i≠bf->∀m,b[i].2.2 m->¬b[bf].2.2 m)(L:N<=G (H a))(hF:∀m,bc.F m->m<N):cR bN 215 #[d] a λbh w'=>∃v' S',bh=aN v'/\kw bc N v' (eL<|b.map (·.2.1)) S' w'/\gC (G<|H a) a w'/\(∀m,S' m->(∃i,∃k:i<y b,b[i].2.2 m)\/G (H a)<=m):=by
 let⟨i0,av,aV,ba,bb⟩:=cZ Zp;let⟨bo,bg,aU⟩:=cG hr;let⟨HR,ao,HG,al,HF⟩:=nZ hr ax hg hd hF;subst aU;go_in
 go_wp2_with(at_make;refine wpList_make_full _ z (.tmp 7) (.tmp 7) 406 z (G<|H a) 408 i0 (ef #[.nilFunc,aw ⟨#[]⟩,aw ⟨#[]⟩,aO bD,bw 0,aO bD,aO bD]) 7 underlying406 av aV ba _ _ _ _ (y b) z z z z (by rw[bb];omega) (by unfold maxLen;omega) (aq _) ?_;intro r ab W;have F:=Vy ab;have o:=ak F;have an:=ak W)
 have ap:=ag an;have ac:G (H a)<G (H r):=az o;have e:gC (G<|H a) a r:=(Below.refl _ a).grown ap (aq _) ar;have Q:=ak<|e.alloc e.size<|aK #[bX (G<|H a) 0 (y b)<|y b] 406;have E:(dw r<|aK #[bX (G<|H a) 0 (y b)<|y b] 406).heap[G<|H a]?=M (aK (fw<|wP b 0).toArray 408 (0,0)):=by rw[gw _ ac,ag o];(have bh:wP b 0=List.replicate (y b) vS:=by simp[wP]);rw[bh,<-Sp];rfl
 have B:fE (dw r<|aK #[bX (G<|H a) 0 (y b)<|y b] 406) (G<|H r) (bX (G<|H a) 0 (y b)<|y b) 406:=aQ _ z;go_loopw [11] (λi wr=>∃n:R,n<=y b/\i=ay n/\wr.heap[G<|H a]?=M (aK (fw<|wP b n).toArray 408 (0,0))/\fE wr (G<|H r) (bX (G<|H a) 0 (y b)<|y b) 406/\gC (G<|H a) a wr) (λi _=>y b-(intOf i).toNat)
 exact⟨0,bQ _,z,E,B,Q⟩
 .obtain⟨n,aa,rfl,f,j,e⟩:=hrel;have bi:=j.u;let⟨w,u,s⟩:=eU f j e;by_cases g:n<y b
  .let⟨bd,T,V,bl,bm⟩:=HG n g;have C:∀l c,bo=M (X l c)->bA wr (X l<|c+n)=M (.func (.func bd) #[] T):=by
    intro l c O;obtain⟨h1,⟨A,_⟩|⟨bq,ad,S,A,aD,hc⟩⟩:=ag HR
    .rw[O]at A;cases A
    .rw[O]at A;cases A;refine(e.cell (p:=(X l<|c+n))<|ao l (by rw[O];rfl)).trans<|hc n _ ?_;rw[fO,bF g];simp[V]
   let⟨l,c,O⟩:∃l c,bo=M (X l c):=by
    obtain⟨h1,⟨A,q⟩|⟨bq,ad,S,A,aD,hc⟩⟩:=ag HR
    .omega
    grind
   have bk:=C l c O;subst O;have D:(fw<|wP b n).toArray[n*7]?=M .nilFunc:=by
    have hl:n<y (wP b n):=EO b n aa▸g;have:=uB (wP b n) n 0 hl cg;rw[List.getElem?_toArray];rw[ma]at this;rw[this];have q:=Pr b n g;rw[bF hl]at q;cases h0':(wP b n)[n]with
    |mk bs br fr fu en bp=>
     rw[h0']at q;cases q;rfl
   have bn:=KZ (P:=bN) f D (.func (.func bd) #[] T) z;have K:(cP wr (X (G<|H a)<|n*7)<|.func (.func bd) #[] T).heap[G<|H a]?=M (aK (fw<|wP b<|n+1).toArray 408 (0,0)):=by
    have hl:n<y (wP b n):=EO b n aa▸g;have q:(wP b n)[n]=vS:=by
     have:=Pr b n g;rw[bF hl]at this;grind
    refine(aY f).trans ?_;simp only[dC];rw[<-We b n g,<-IS (wP b n) n hl (LD b[n]) (by rw[q];rfl) (by rw[q];rfl) (by rw[q];rfl)];simp only[LD,V]
   let⟨x,v,t⟩:=eU K (j.dN (b':=G<|H a) (i:=n*7) (.func (.func bd) #[] T) U)<|e.setCell (p:=(X (G<|H a)<|n*7)) (aq _)<|.func (.func bd) #[] T;go_wp2;go_roundw
   .exact⟨n+1,g,dM,x,v,t⟩
   .simp[intOf];omega
  .have C:n=y b:=U;subst C;go_wp2;go_ret;have f:=ag w;have:=ag u;have e:=ag s;have x:wP b (y b)=b.map LD:=by simp[wP]
   rw[x]at f;have K:I aC a wr:=I.p e;have hg:=ag HG;have D:lu (b.map LD)=b.map (·.2.1):=by unfold lu;rw[iV];rfl
   refine⟨_,nu (G<|H r) (G<|H a)<|b.map LD,z,⟨265,_,z,enters_of func265 aH z,?_⟩,e,?_⟩
   .rw[<-D];refine Sm bc N (G<|H r) (G<|H a) (b.map LD) wr dW ⟨aI,f,λi k=>?_,aR L e.size,HF,⟨U,L⟩,U,λi k m q=>?_,λi bf k hj A m q=>?_⟩
    .have l:i<y b:=dV k;have c:=hg i l;have t:=K.bM (V:=bc) (n0:=N) (S:=b[i].2.2) L (λm q=>⟨(c.aZ.bZ m q).2,λv=>v⟩) cY;rw[mu];exact⟨λ_=>c.bM t,c.aZ.bM t,λv=>by cases v⟩
    .have l:i<y b:=dV k;rw[mu]at q;have:=((hg i l).aZ.bZ m q).2;grind
    .rw[mu]at q|-;exact al i bf (dV k) (dV hj) A m q
   .rintro m(v|v|⟨i,k,v⟩)
    .grind
    .grind
    .rw[mu]at v;exact J ⟨i,dV k,v⟩
def nz(V:ju)(f:R)(j:ae)(h:dB)(w:Z):Prop:=∃t v i b,j=.iface t v/\(∀w,(Go.method 577 t v "From").run bN w=.ok (i,b) w)/\Enters bN i/\∀e c,kZ V f aC w c->V.D c->cR bN i #[b,aw e] c λl a=>∃g d,l=aN g/\kw V f g (iX e h) d a/\V.D a/\I V.F c a/\(∀k,d k->G (H c)<=k)
def Zn:(prog.info? 288).map (λi=>(i.zero,i.size,i.bytes))=M (M .nilFunc,1,8):=aH
def Ek(w:Z)(v:ae)(t:TypeId):∀j u,[v][j]?=M u->bA (dw w<|aK #[v] t) (((X (G<|H w) 0):Addr).add j)=M u:=by
 intro j u a;rw[dS];simp_all
def Y0(h:d.oneCell'=cz):∀u∈[d],u.oneCell'=cz:=by
 grind
structure Di(V:ju)(n0:R)(w0 w:Z)(lo:af)(m8:cy (ae×dB))(o:ae)(j5:cy (ae×dB×fB)):Prop where
 aZ:fD w (G<|H w0) 288 1 o (y j5) (j5.map (·.1))
 L:∀i(hi:i<y j5),kw V n0 j5[i].1 j5[i].2.1 j5[i].2.2 w
 l:j5.map (·.2.1)=(m8.take<|y j5).map (λr=>iX lo r.2)
 S:∀i j(hi:i<y j5)(hj:j<y j5),i≠j->∀k,j5[i].2.2 k->¬j5[j].2.2 k
 fp:∀i(hi:i<y j5)k,j5[i].2.2 k->G (H w0)<=k/\cN o≠M k
 f:V.D w
 aA:I V.F w0 w
def Di.t{u:Z}{m8:cy (ae×dB)}{i:cy (ae×dB×fB)}{p:ae}(h:Di s b a e B m8 d i)(o:y i<y m8)(hn:b<=G (H a))(hF:∀k,s.F k->k<b)(L:I s.F e P)(A:kw s b p (iX B m8[y i].2) W P)(hD:s.D P)(x:∀k,W k->G (H e)<=k){V:Obj}(Q:fm (dw P V) u d w)(O:fD u (G<|H a) 288 1 w (y i+1) (i.map (·.1)++[p])):Di s b a u B m8 w (i++[(p,iX B m8[y i].2,W)]):=by
 have K:=h.aA.D;have F:∀k,cN d=M k->G (H a)<=k/\k<G (H e):=λk c=>h.aZ.lt k c;have C:∀k,b<=k->¬s.F k:=aI;have j:I (λk=>cN d=M k) P u:=(((I.bI (λk=>cN d=M k) P).aE V).aj (I.eF (S:=λk=>cN d=M k) Q.dF<|λk c=>J c)<|λk c=>J c);have N:I (λk=>s.F k\/cN d=M k) e u:=(L.aT (T:=λk=>s.F k\/cN d=M k) aI).aj j aI;have g:∀l(q:l<y (i++[(p,iX B m8[y i].2,W)])),(∃f:l<y i,(i++[(p,iX B m8[y i].2,W)])[l]=i[l])\/(l=y i/\(i++[(p,iX B m8[y i].2,W)])[l]=(p,iX B m8[y i].2,W)):=by grind
 have E:∀k,(k<G (H P)/\cN d≠M k)->cN w≠M k:=by rintro k⟨v,h2⟩m;obtain r|⟨ab,r,n⟩:=Q.f;(grind);rw[r]at m;cases m;simp at n;omega
 have t:∀k,W k->k<G (H P):=λk c=>(A.aZ.bZ k c).2;refine⟨aI,λl q=>?_,?_,λl aa q hj D k c=>?_,λl q k c=>?_,?_,?_⟩;obtain⟨f,m⟩|⟨_,m⟩:=g l q;(rw[m];have n:=h.L l f;refine n.bM<|N.bM (aR hn K) (λk c=>⟨(n.aZ.bZ k c).2,?_⟩)<|λk c o=>?_;rintro(r|r);exact C k (n.aZ.bZ k c).1 r;exact(h.fp l f k c).2 r;grind);rw[m];refine A.bM<|j.bM A.aZ.D (λk c=>⟨t k c,λr=>?_⟩)<|λk c o=>?_;have:=x k c;have:=(F k r).2;omega;grind
 rw[bz,h.l];simp only[bO,gA,ai,bK,eE,ez];rw[aG o,bz];rfl;obtain⟨f,m⟩|⟨ei,m⟩:=g l q<;>obtain⟨n,v⟩|⟨ej,v⟩:=g aa hj;rw[m]at c;rw[v];exact h.S l aa f n D k c;rw[m]at c;rw[v];intro r;have:=x k r;have:=((h.L l f).aZ.bZ k c).2;omega;rw[m]at c;rw[v];intro r;have:=x k c;have:=((h.L aa n).aZ.bZ k r).2;omega;omega;obtain⟨f,m⟩|⟨_,m⟩:=g l q;rw[m]at c;have:=((h.L l f).aZ.bZ k c).2;have:=L.D;exact⟨(h.fp l f k c).1,E k ⟨U,(h.fp l f k c).2⟩⟩;rw[m]at c;have:=x k c;grind
 exact s.l hD j aI;exact(h.aA.aj L<|λk c=>J c).aj j aI
def nz.bM{V:ju}{n0:R}(h:nz V n0 d i a)(m:kZ V n0 aC a e):nz V n0 d i e:=by
 let⟨t,v,p,b,c,f,g,j⟩:=h;exact⟨t,v,p,b,c,f,g,λn o k l=>j n o (m.aj k) l⟩
def DI(p:R)(m8:cy (ae×dB))(lv:ae)(v:af)(hr:Row a 1 lv (y m8) (m8.map (·.1)))(ax:∀l,cN lv=M l->l<G (H a)/\¬s.F l)(hn:y m8<=40000000000)(hR:∀aa(C:aa<y m8),nz s p m8[aa].1 m8[aa].2 a)(hD:s.D a)(Q:p<=G (H a))(hF:∀l,s.F l->l<p):cR bN 148 #[lv,aw v] a λbb w'=>∃v' S',bb=aN v'/\kw s p v' (eL<|(m8.map (·.2)).map<|iX v) S' w'/\s.D w'/\I s.F a w'/\(∀l,S' l->G (H a)<=l):=by
 let⟨i0,N,T,V,W⟩:=cZ Zn;let⟨bh,ba,aU⟩:=cG hr;subst aU;go_in
 go_wp2_with(at_make;refine ke _ z _ _ 355 z (G<|H a) 288 i0 .nilFunc 1 underlying355 N T V _ _ _ (y m8) z z z (by rw[W];omega) (by unfold maxLen;omega) (aq _) ?_;intro w1 t r;have w:=ak t;have q:=ak r;clear t r)
 have ap:Di s p a w1 v m8 (bX (G<|H a) 0 0<|y m8) []:=by have c:I s.F a w1:=I.eF q ar;exact⟨w,λaa C=>by simp at C,ar,ar,λaa C=>by simp at C,s.l hD (I.eF (S:=aC) q ar) cY,c⟩
 go_loopw [5,13] (λo aa wr=>∃(aV:R)(b:cy (ae×dB×fB)),aV<=y m8/\aa=ay aV/\y b=aV/\Di s p a wr v m8 o b) (λ_ aa _=>y m8-(intOf aa).toNat)
 exact⟨0,[],bQ _,z,z,ap⟩
 .obtain⟨aV,b,bd,rfl,rfl,c⟩:=hrel;let⟨ox,oc,ho⟩:=aM c.aZ;by_cases n:y b<y m8
  .let⟨bk,bl,bc,bg,P,hm,he,g⟩:=hR (y b) n;have:∀b a,(callFunc bc b).run bN a=.ok (.enter bc b) a:=he;have k:kZ s p aC a wr:=c.aA.bM Q cY<|λl B _=>B;have hc:=g v wr k c.f;let⟨bq,d,hx⟩:∃bq d,bh=M (X bq d):=by
    obtain⟨h1,⟨A,h0⟩|⟨bi,ab,E,A,aD,hc⟩⟩:=hr
    .omega
    grind
   have:bA wr (X bq<|d+y b)=M (.iface bk bl):=by
    obtain⟨h1,⟨A,_⟩|⟨bi,ab,E,A,aD,av⟩⟩:=hr
    .rw[hx]at A;cases A
    .rw[hx]at A;cases A;have hb:=ax bq (by rw[hx];rfl);refine c.aA.u (av (y b) _ ?_) hb.2 hb.1;rw[fO,bF n];simp[P]
   subst hx;subst ho;clear g k P he;go_wp2_with(first
    |(go_at_fn bc;refine hc.mono ?_;rintro bb w2⟨v1,S1,rfl,m,K,o,f⟩;obtain⟨F,e,rfl,L,O⟩:=m;have D:=ak<|show kw s p (.func (.func F) #[] e) (iX v m8[y b].2) S1 w2 from⟨F,e,z,L,O⟩;have i:=bC (o.aZ c.aZ<|λl B hf=>gV (hF l hf)<|(c.aZ.lt l B).1)<|.cells #[.func (.func F) #[] e] 288;have al:=ak i;have ac:=ak K;have an:=ak o;have x:=ak f;have:=o.D;have bf:=c.aA.D;clear K o f O i L)
    |(at_builtin;refine cq _ z (.tmp 17) (.tmp 21) 355 z (G (H a)) 288 i0 .nilFunc 1 8 underlying355 N T V W z cg (.slice ox (y b) oc) (y b) (b.map (λ(bh:ae×dB×fB)=>bh.1)) z al (X (G (H w2)) 0) 1 1 [.func (.func F) #[] e] z z (Ek _ _ _) (Y0 z) U U dW ?_;intro o2 w3 j u;have ad:=ak j;have ao:=ak u;clear j u))
   go_roundw
   .refine⟨y b+1,b++[(.func (.func F) #[] e,iX v m8[y b].2,S1)],n,dM,ar,?_⟩;exact c.t n Q hF an D ac x ao ad
   .simp[intOf];omega
  .have g:y b=y m8:=U;subst ho;have A:=ak c;have:=c.aA.D;have j:Row wr 1 (am ox (y b) oc) (y b) (b.map (·.1)):=dQ c.aZ;have d:∀l,cN (am ox (y b) oc)=M l->l<G (H wr):=λl B=>(c.aZ.lt l B).2;have u:=VG s p b j d U c.L c.S U hF;have e:b.map (·.2.1)=(m8.map (·.2)).map (iX v):=by rw[c.l,g,cQ,iV];rfl
   clear c j d g;go_wp2_with(go_at_call 215;refine u.mono ?_;rintro bb w2⟨v1,S1,rfl,m,i,f⟩;have D:=ak m;have o:=ak i;have x:=ak f;clear m i f)
   go_ret;have c:=ag A;have k:I aC wr w2:=I.p<|ag o;refine⟨v1,S1,z,?_,s.l c.f k cY,c.aA.t k,λl B=>?_⟩
   .rwa[<-e]
   .obtain⟨aa,C,E⟩|E:=x l B
    .exact(c.fp aa C l E).1
    .omega
def zah(e:R)(m8:cy (ae×dB))(w:af)(C:Y)(hr:Row a 1 d (y m8) (m8.map (·.1)))(ao:∀k,cN d=M k->k<G (H a)/\¬s.F k)(hn:y m8<=40000000000)(hR:∀ac(hi:ac<y m8),nz s e m8[ac].1 m8[ac].2 a)(hD:s.D a)(j:e<=G (H a))(hF:∀k,s.F k->k<e):cR bN 231 #[d,aw w,bw C] a λA b=>∃n m,A=aN n/\kw s e n (sh ⟨#[]⟩<|(eL<|(m8.map (·.2)).map<|iX w).filter<|λA=>decide<|A.f<=C) m b/\s.D b/\I s.F a b/\(∀k,m k->G (H a)<=k):=by
 let⟨W,q⟩:∃W,dw (dw a<|aK #[bw C] 104) (aK #[aw ⟨#[]⟩] 9)=W:=⟨_,rfl⟩;have B:I aC a W:=q▸(cI _ a).aE _;have:G (H W)=G (H a)+2:=by rw[<-q];simp
 have V:=DI e m8 d w (B.bV hr aI) aI hn (λac hi=>(hR ac hi).bM<|B.bM j cY cY) (s.l hD B cY) U hF;have t:∀k,e<=k->¬s.F k:=aI;have i:∀(b:Z)(n:ae)(m:fB),kw s e n (eL<|(m8.map (·.2)).map<|iX w) m b->I s.F W b->(∀k,m k->G (H W)<=k)->cR bN 269 #[n,.func (.func 271) #[] #[aJ<|G<|H a,aJ<|G (H a)+1]] b λA l=>∃f c,A=aN f/\kw s e f (sh ⟨#[]⟩<|(eL<|(m8.map (·.2)).map<|iX w).filter<|λA=>decide<|A.f<=C) c l/\gC (G<|H b) b l/\(∀k,c k->G (H a)<=k):=by intro b n m hg v hS;have b1:fE b (G<|H a) (bw C) 104:=(v.A _ U<|t _ j).trans (by rw[<-q];grind[fE.aE,aQ]);have b2:fE b (G (H a)+1) (aw ⟨#[]⟩) 9:=(v.A _ U<|t _ U).trans<|q▸aQ _ ar;refine(Oz (atK s e (G<|H a) (G (H a)+1) C) ⟨#[]⟩ hg ⟨b1,b2,U,j,U⟩<|λk g D=>?_).mono ?_;have:=hS k g;obtain D|D:=D<;>omega;rintro A l⟨f,c,h1,h2,h3,h4⟩;refine⟨f,c,h1,?_,h3,λk g=>?_⟩;rwa[<-N9];obtain D|(D|D)|D:=h4 k g;have:=hS k D;omega;omega;omega;grind
 let⟨K,HT,HD⟩:=eU i B<|λx(t:I s.F W x)(h:s.D x)(a:Z)(C:gC (G<|H x) x a)=>s.l h (I.p (S:=aC) C) cY;let⟨av,ad,ab⟩:=cG hr;subst q;subst ab;go_in
 go_wp2_with(first
  |(go_at_call 148;refine V.mono ?_;rintro A w2⟨v1,S1,rfl,r,N,u,O⟩;have i:=K w2 v1 S1 r u O;have E:=ak N;have p:=ak u;obtain⟨f1,al,rfl,an,ap⟩:=r)
  |(go_at_call 269;refine i.mono ?_;rintro A x⟨v2,S2,rfl,aa,Q,P⟩;have F:=ak aa;have o:=ak Q;have L:=ak P))
 go_ret;exact⟨v2,S2,z,F,HD _ p E _ o,(((HT.aT cY).aj p<|λk g=>J g)).aj (I.p (S:=s.F) o)<|λk g=>J g,L⟩
def iB(W:Z)(l:R)(o:Obj):I (λk=>k=l) W (W.putObj l o):=I.eF (grownBy_putObj' W l o) aI
def Uo{α:Type}(e:α->Array ae)(V:ju)(h p l:R)(m:Array ae)(o:cy α->Z->Prop)(j:cy α->Prop)(S n:fB)(w:Z):Prop:=∀(g:R)(d:cy α->fB->Z->Prop)(f:cy α->Z->Prop)(B:fB)(W:Z),kZ V h S w W->V.D W->d [] B W->(∀k,S k->¬B k)->(∀a B W,d a B W->∀k,B k->h<=k/\k<G (H W))->(∀a B W b T,d a B W->I T W b->(∀k,T k->¬B k/\n k)->d a B b)->(∀a x B W,o (a++[x]) W->d a B W->V.D W->YieldAt Fence.wide (p-1) bN g (e x) W λi b=>
 (i=aN (aO cz)/\V.D b/\∃c,d (a++[x]) c b/\I B W b/\(∀k,c k->B k\/G (H W)<=k))\/(i=aN (aO bD)/\f (a++[x]) b))->
 CallsIn Fence.wide p bN l (#[.func (.yield g) #[] #[]]++m) W λi b=>(∃v,i=aN v)/\((∃k c,j k/\d k c b/\V.D b)\/(∃a,f a b))
def Qy{α:Type}(e:α->Array ae)(V:ju)(h n j:R)(l:Array ae)(m:cy α)(S:fB)(w:Z):Prop:=∀(g:R)(d:cy α->fB->Z->Prop)(f:cy α->Z->Prop)(B:fB)(W:Z),kZ V h S w W->V.D W->d [] B W->(∀k,S k->¬B k)->(∀a B W,d a B W->∀k,B k->h<=k/\k<G (H W))->(∀a B W b T,d a B W->I T W b->(∀k,T k->¬B k/\(S k\/V.F k\/G (H w)<=k))->d a B b)->(∀a x B W,(a++[x])<+:m->d a B W->V.D W->YieldAt Fence.wide (n-1) bN g (e x) W λi b=>
 (i=aN (aO cz)/\V.D b/\∃c,d (a++[x]) c b/\I B W b/\(∀k,c k->B k\/G (H W)<=k))\/(i=aN (aO bD)/\f (a++[x]) b))->
 CallsIn Fence.wide n bN j (#[.func (.yield g) #[] #[]]++l) W λi b=>(∃v,i=aN v)/\((∃c,d m c b/\V.D b)\/(∃a,f a b))
def Qy.q{α:Type}{a:α->Array ae}{d:Array ae}{l:cy α}{S:fB}{w:Z}(h:Qy a s c k n d l S w):Uo a s c k n d (λu _=>u<+:l) (·=l) S (λt=>S t\/s.F t\/G (H w)<=t) w:=by
 intro v x e B W f g j m o q r;apply(h v x e B W f g j m o q r).mono;grind
abbrev T6{α:Type}(a:α->Array ae)(V:ju)(e m:R)(c:R)(d:Array ae)(f:cy α->Z->Prop)(b:cy α->Prop)(S:fB)(w:Z):Prop:=Uo a V e m c d f b S (λk=>S k\/V.F k\/G (H w)<=k) w
def DL{α:Type}(V:ju)(g:cy α->fB->Z->Prop)(f:Code->cy α->fB->Z->Prop)(e:cy α)(B:fB)(W d:Z)(b:R):Exit->Act->Z->Prop
 | .normal,_,a=>V.D a/\∃c,g e c a/\I (λk=>B k\/k=b) W a/\a.heap[b]?=d.heap[b]?/\(∀k,c k->B k\/G (H W)<=k)
 | .ret,_,a=>∃c,f .ret e c a/\I (λk=>B k\/k=b) W a/\a.heap[b]?=d.heap[b]?/\(∀k,c k->B k\/G (H W)<=k)
 | .exit id,_,a=>∃c,f (.exit id) e c a/\I (λk=>B k\/k=b) W a/\a.heap[b]?=d.heap[b]?/\(∀k,c k->B k\/G (H W)<=k)
 | .goto _,_,_=>False
 | .panic _,_,_=>False
 | .outgrown,_,_=>False
abbrev Tv{α:Type}(h:α->Array ae)(n:R)(t:Operand)(m:Array Tmp)(c body:Code)(Q:Exit->Act->Z->Prop)(a:Act)(w:Z)(V:ju)(q:R)(s:cy α->Z->Prop)(S r:fB)(i:cy α->fB->Z->Prop)(f:Code->cy α->fB->Z->Prop)(B:fB)(o:Prop):Prop:=(i [] B w)->(∀k,S k->¬B k)->(∀b B W,i b B W->∀k,B k->q<=k/\k<G (H W))->(∀b B W e T,i b B W->I T W e->(∀k,T k->¬B k/\r k)->i b B e)->(∀l b B W e T,f l b B W->I T W e->(∀k,T k->¬B k/\G (H w)<=k/\∃L,W.heap[k]?=M (.loop L))->f l b B e)->(∀d b x B W,G (H w)<=d->¬B d->(d<G (H W)/\∃L,W.heap[d]?=M (.loop L))->s (b++[x]) W->i b B W->V.D W->c.wpIn (Fence.wide.inRound d) (n-1-1) bN (Exit.then (λp j=>I aC W j/\∀g,I (λk=>k=d) j g->body.wpIn (Fence.wide.inRound d) (n-1-1) bN (DL V i f (b++[x]) B W g d) p g) (λ_ _ _=>False)) {tmps:=(m.zip<|h x).foldl (λv(u,A)=>v.setIfInBounds u A) a.tmps,defers:=[]} W)->o->(∀(D:R)(l:Code)(b:cy α)(B:fB)(W:Z),G (H w)<=D->f l b B W->¬B D->W.heap[D]?=M (.deferred<|M [])->l.wpIn Fence.wide n bN Q {a with defers:={target:=.collected D,args:=#[]}::a.defers} W)->(Code.rangeFunc t m c body).wpIn Fence.wide n bN Q a w
def tI{α:Type}{arg:α->Array ae}{m:R}{bk:Operand}{ps:Array Tmp}{assign body:Code}{bi:Exit->Act->Z->Prop}{a:Act}{V:ju}{n0 gf:R}{lb:Array ae}{pp:cy α->Z->Prop}{ff:cy α->Prop}{S n9:fB}(hU:∀l,G (H e)<=l->n9 l)(hg:a.eval bk=.func (.func gf) #[] lb)(eg:Enters bN gf)(aU:∀bb,(arg bb).size=ps.size)(QG:Uo arg V n0 (m-1) gf lb pp ff S n9 e)(hD:V.D e)(aD:n0<=G (H e))(ba:∀l,S l->l<G (H e))(bg:cy α->fB->Z->Prop)(Ix:Code->cy α->fB->Z->Prop)(ad:fB):Tv arg m bk ps assign body bi a e V n0 pp S n9 bg Ix ad (∀(bf:cy α)(bc:R)(ad:fB)(W:Z),ff bf->G (H e)<=bc->bg bf ad W->¬ad bc->V.D W->W.heap[bc]?=M (.deferred<|M [])->bi .normal {a with defers:={target:=.collected bc,args:=#[]}::a.defers} W):=by
 intro h0 bh N ac E K L O;apply wpIn_rangeFunc;intro fn av;let⟨b,f⟩:∃b:LoopState->Option Code->Loop,b=λc d=>{state:=c,pending:=d,fn,tmps:=a.tmps,params:=ps,assign,body,defers:=G (H e)}:=⟨_,rfl⟩;let⟨B,C⟩:∃B,dw (dw e<|.deferred<|M []) (.loop<|b .ready dE)=B:=⟨_,rfl⟩;have ap:B.heap[G (H e)+1]?=M (.loop<|b .ready dE):=by rw[<-C];exact aQ _ ar
 have ao:B.heap[G<|H e]?=M (.deferred<|M []):=by rw[<-C];grind[gw,aQ]
 have Q:I aC e B:=C▸(cI _ e).aE _;refine⟨G (H e)+1,[{target:=.collected<|G<|H e,args:=#[]}],B,{target:=.fn (.func gf) lb,args:=#[.func (.yield<|G (H e)+1) #[] #[]]},B,gf,#[.func (.yield<|e.heap.size+1) #[] #[]]++lb,B,?_,?_,?_,?_,(λA=>(by cases A)),?_⟩;rw[<-C,f];exact run_enterLoop_outer _ _ _ _ _;(.simp only[resolve,hg];simp[go_sem]);intro c _;trivial;(.have:=eg;unfold Enters at this;simp[invoke,go_sem,this])
 .refine(QG (G (H e)+1) (λk ad W=>∃j,(∀l,ad l↔j l\/l=G (H e)\/l=G (H e)+1)/\bg k j W/\¬j (G<|H e)/\¬j (G (H e)+1)/\W.heap[G (H e)+1]?=M (.loop<|b .ready dE)/\W.heap[G<|H e]?=M (.deferred<|M [])) (λk W=>∃A j,Ix A k j W/\¬j (G<|H e)/\¬j (G (H e)+1)/\W.heap[G (H e)+1]?=M (.loop<|b .done<|M A)/\W.heap[G<|H e]?=M (.deferred<|M [])) (λl=>ad l\/l=G (H e)\/l=G (H e)+1) B (Q.bM aD aI cY) (V.l hD Q cY) ⟨ad,λl=>th,ac _ _ _ _ _ h0 Q cY,λA=>bP<|(N _ _ _ h0 _ A).2,λA=>bP<|(N _ _ _ h0 _ A).2,ap,ao⟩ ?_ ?_ ?_ ?_).mono ?_
  .grind
  .rintro k B' W⟨j,hB,hi,_,_,p,r⟩l u;obtain A|A|A:=(hB l).1 u
   .exact N _ _ _ hi l A
   .grind
   grind
  .rintro k B' W g T⟨j,hB,hi,n1,n2,p,r⟩c i;exact⟨j,hB,aI,n1,n2,(c.A _ (az p) aI).trans p,(c.A _ (az r) aI).trans r⟩
  .rintro k bb B' W ab⟨j,hB,hi,n1,n2,p,r⟩an;have hy:=run_yield (P:=bN) (args:=(arg bb)) p<|f▸aU bb;rw[f]at hy;refine⟨fn,_,assign,body,hy,roundIn_of_wpIn av<|wpIn_mono (K (G (H e)+1) k bb j W U n2 ⟨az p,_,p⟩ ab hi an) ?_⟩;intro bd a1 Wa D;cases bd with
   |normal=>
    let⟨aV,D⟩:=D;have aa:Wa.heap[G (H e)+1]?=M (.loop<|b .ready dE):=(aV.A _ (az p)<|λA=>A).trans p;refine⟨_,run_beginRound aa (by rw[f]),?_⟩;have ax:(Wa.putObj (G (H e)+1)<|.loop {b .ready dE with state:=.busy}).heap[G (H e)+1]?=M (.loop {b .ready dE with state:=.busy}):=World.putObj_heap_same<|az aa;apply wpIn_mono<|D _<|iB _ _ _;have F:∀(c:Option Code)(i:Z),i.heap[G (H e)+1]?=(Wa.putObj (G (H e)+1)<|.loop {b .ready dE with state:=.busy}).heap[G (H e)+1]?->(Instr.endRound (G (H e)+1) c).run bN i=.ok (aO c.isNone) (i.putObj (G (H e)+1)<|.loop<|b (if c.isNone then .ready else .done) c)/\(i.putObj (G (H e)+1)<|.loop<|b (if c.isNone then .ready else .done) c).heap[G (H e)+1]?=M (.loop<|b (if c.isNone then .ready else .done) c):=λc i h3=>by
     have:=run_endRound (P:=bN) c<|h3.trans ax;rw[f]at this|-;grind[World.putObj_heap_same,az]
    have o:∀i,I (λl=>j l\/l=G (H e)+1) W i->i.heap[G<|H e]?=M (.deferred<|M []):=λi g=>(g.A _ (az r) aI).trans r;have w:∀(n:fB),(∀l,n l->j l\/G (H W)<=l)->¬n (G<|H e)/\¬n (G (H e)+1):=aI;rintro bd a3 i q;cases bd with
    |normal=>
     let⟨c,n,t,g,x,s⟩:=q;let⟨hr,v⟩:=F dE i x;let⟨q1,q2⟩:=w n s;have d:=iB i (G (H e)+1)<|.loop<|b (if(dE:Option Code).isNone then .ready else .done) dE;refine⟨_,_,hr,.inl ⟨z,V.l c d<|λl u hf=>?_,λl=>n l\/l=G (H e)\/l=G (H e)+1,⟨n,λl=>th,ac _ _ _ _ _ t d<|λl u=>aI,q1,q2,v,?_⟩,?_,?_⟩⟩
     .have:=V.lt hD hf;omega
     .exact(d.A _ (az<|o i g)<|λA=>U).trans<|o i g
     .refine(g.aj d ar).aT<|λl u=>.inl<|(hB l).2 ?_;grind
     grind
    |ret=>
     let⟨n,t,g,x,s⟩:=q;let⟨hr,v⟩:=F (M .ret) i x;let⟨q1,q2⟩:=w n s;have d:=iB i (G (H e)+1)<|.loop<|b (if(M Code.ret:Option Code).isNone then .ready else .done)<|M .ret;exact⟨_,_,hr,.inr ⟨z,.ret,n,E _ _ _ _ _ _ t d aI,q1,q2,v,(d.A _ (az<|o i g)<|λA=>U).trans<|o i g⟩⟩
    |exit id=>
     let⟨n,t,g,x,s⟩:=q;let⟨hr,v⟩:=F (M<|.exit id) i x;let⟨q1,q2⟩:=w n s;have d:=iB i (G (H e)+1)<|.loop<|b (if(M (Code.exit id):Option Code).isNone then .ready else .done)<|M<|.exit id;exact⟨_,_,hr,.inr ⟨z,.exit id,n,E _ _ _ _ _ _ t d aI,q1,q2,v,(d.A _ (az<|o i g)<|λA=>U).trans<|o i g⟩⟩
    |goto bl=>exact q.elim
    |panic ch=>exact q.elim
    |outgrown=>exact q.elim
   |exit id=>exact D.elim
   |goto bl=>exact D.elim
   |ret=>exact D.elim
   |panic al=>exact D.elim
   |outgrown=>exact D.elim
  .rintro bd i⟨⟨v,rfl⟩,(⟨bf,B',g,⟨j,hB,hi,n1,n2,p,r⟩,c⟩|⟨k,A,j,hi,n1,n2,p,r⟩)⟩
   .have d:=λo=>iB i (G (H e)+1) o;exact⟨dE,_,by have:=run_endLoop (P:=bN) p (by rw[f];simp);rwa[f]at this,L bf _ j _ g (aq _) aI n1 (V.l c (d _)<|λl u hf=>bP<|V.lt hD hf)<|(d _).A _ (az r) (λA=>U)|>.trans r⟩
   .have d:=λo=>iB i (G (H e)+1) o;exact⟨M A,_,by have:=run_endLoop (P:=bN) p (by rw[f];simp);rwa[f]at this,O _ A k j _ (aq _) aI n1<|(d _).A _ (az r) (λA=>U)|>.trans r⟩
def tJ{α:Type}{arg:α->Array ae}{m:R}{A:Operand}{r:Array Tmp}{b body:Code}{Q:Exit->Act->Z->Prop}{a:Act}{V:ju}{n0 gf:R}{lb:Array ae}{l:cy α}{S:fB}(w:a.eval A=.func (.func gf) #[] lb)(t:Enters bN gf)(n:∀C,(arg C).size=r.size)(QG:Qy arg V n0 (m-1) gf lb l S e)(v:V.D e)(k:n0<=G (H e))(f:∀p,S p->p<G (H e))(s:cy α->fB->Z->Prop)(q:Code->cy α->fB->Z->Prop)(B:fB):Tv arg m A r b body Q a e V n0 (λx _=>x<+:l) S (λp=>S p\/V.F p\/G (H e)<=p) s q B (∀(D:R)(B:fB)(W:Z),G (H e)<=D->s l B W->¬B D->V.D W->W.heap[D]?=M (.deferred<|M [])->Q .normal {a with defers:={target:=.collected D,args:=#[]}::a.defers} W):=λu h j o g c i d=>tI aI w t n QG.q v k f s q B u h j o g c aI d
abbrev MI:E⊕R->Array ae
 | .inl x=>#[x.t,ib]
 | .inr q=>#[yt,eW q]
def upX(V:ju)(l:dB)(b:cy (E⊕R))(W:Z):Prop:=(∃a:dB,b=a.map .inl/\a<+:l)\/∃(a:dB)(q:R),b=a.map .inl++[.inr q]/\V.Xp/\tB W q
def zan(l:dB)(b:cy (E⊕R)):Prop:=b=l.map .inl\/∃(a:cy (E⊕R))(q:R),b=a++[.inr q]
section
open Shelf
def Kf(cl:R)(O:Array ae)(hb:fE a c (.func (.func k) #[] O) 288)(he:Enters bN k)(hr:Dp s b k O i W a)(bt:b<=c)(bT:¬W c):T6 MI s b cl 264 #[aJ c] (upX s i) (zan i) (λe=>W e\/e=c) a:=by
 intro lr ck Jx cj ce hs hD hJ aD bb A hY;have:∀b a,(callFunc k b).run bN a=.ok (.enter k b) a:=he;have bs:fE ce c (.func (.func k) #[] O) 288:=hb.bM hs<|.inr z;have ca:Dp s b k O i W ce:=hr.bM<|hs.aT<|λ_ f=>.inl f;have bf:=hs.1;refine tf func264 z trivial ?_ z;simp only[ntmps264,gm,bK,eE,jZ,Nat.reduceSub,fc,fa,gp,fG,ep,dt];gi_wp2;gi_loopg [3] (y i+1) (λd _ wr=>∃g m S' l,i=g++m/\y m<d/\Dp s b k O m S' wr/\fE wr c (.func (.func k) #[] O) 288/\s.D wr/\ck (g.map .inl) l wr/\(∀e,S' e->¬l e)/\¬l c/\¬S' c/\(∀e,S' e->W e\/G (H a)<=e)/\G (H a)<=G (H wr))
 exact⟨[],i,W,cj,z,U,ca,bs,hD,hJ,λe f=>aD e<|.inl f,aD c<|.inr z,bT,λe f=>.inl f,bf⟩;(.let⟨g,m,S',l,hl,bv,D,ba,bo,ab,B,bn,br,bq,cc⟩:=hrel;have:=ba.u;have C:=D.aZ;have bc:∀e,b<=e->¬s.F e:=λe f a=>bP<|C.f e a;have hc:=D.ug bo;have HT:=ak<|λj(a:I (λe=>S' e\/s.F e) wr j)=>A (g.map .inl) l wr j _ ab a<|λe f=>⟨λu=>f.elim (λw=>B e w u)<|λw=>bc e (bb _ _ _ ab e u).1 w,aI⟩;let⟨bk,F,bh,an,al,ao,HL,cb⟩:=Zu bq ba ab B bn br hl C;(gi_wp2_with fail);refine⟨trivial,(λu=>(by cases u)),?_⟩;refine(ew.2 hc).mono ?_;rintro ch j⟨bd,P,x⟩;obtain⟨ev,rfl,⟨bx,rfl⟩|⟨hX,q,rfl,hq⟩⟩|⟨⟨o,p,n,d⟩,cd,S1,bL,rfl,bp,r⟩:=bd;(.subst bx;let⟨t,N⟩:=And.intro (ak P) (ak<|HT j x);unfold bE yt;gi_wp2;refine⟨λ_ h=>(by cases h),?_⟩;gi_wp2;refine ci (jb z _ _ _) z ?_;refine⟨⟨_,z⟩,.inl ⟨_,l,.inl z,?_,s.l t (cI aC j) cY⟩⟩;have hl:=ag HL;rw[eu]at hl;rw[hl];exact A _ l j _ _ N (cI aC j) cY);(.have V:=A _ l j _ _ (HT j x) ((I.bI aC j).aE<|aK #[aw ⟨#[]⟩,aw ⟨#[]⟩,aO bD,bw 0] 223) cY;have Q:=s.l P ((I.bI aC j).aE<|aK #[aw ⟨#[]⟩,aw ⟨#[]⟩,aO bD,bw 0] 223) cY;let⟨fn,bg,v,body,hy,hR⟩:=hY (g.map .inl) (.inr q) l _ (.inr ⟨g,q,rfl,hX,hq.aA (cI aC j) cY⟩) V Q;unfold MI yt at hy;simp only at hy;unfold bE yt;(gi_wp2_with fail);refine⟨(λu=>(by cases u)),hR.mono ?_⟩;rintro ch W3(⟨rfl,S,B3,aa,aU,av⟩|⟨rfl,hx⟩);(.let⟨K,L⟩:=And.intro (ak S) (ak aa);gi_wp2;exact ci (jb z _ _ _) z ⟨⟨_,z⟩,.inl ⟨_,B3,.inr ⟨_,q,z⟩,L,K⟩⟩);have HX:=ak hx;gi_wp2;exact ci (jb z _ _ _) z ⟨⟨_,z⟩,.inr ⟨_,HX⟩⟩);(.subst bL;have ac:I aC j (dw j<|aK #[aw o,aw p,aO n,bw d] 223):=cI _ _;have V:=A _ l j _ _ (HT j x) ac cY;have Q:=s.l P ac cY;let⟨fn,bg,v,body,hy,hR⟩:=hY (g.map .inl) (.inl ⟨o,p,n,d⟩) l _ (.inl ⟨g++[⟨o,p,n,d⟩],ar,cd,by rw[ag HL];simp⟩) V Q;let⟨HR,ap,N,bi,bm⟩:=nZ hR x bp r ac;unfold MI at hy;unfold E.t at hy|-;simp only at hy|-;(gi_wp2_with fail);refine⟨(λu=>(by cases u)),(ag HR).mono ?_⟩;rintro ch W3(⟨rfl,S,B3,aa,aU,av⟩|⟨rfl,hx⟩);(.obtain⟨K,L,bl,ad⟩:=jr S aa aU av;gi_wp2;(gi_roundg (y cd+1));(case measure=>simpa using bv);have:=bb _ _ _ bh;have r:=ag bi;(have ax:∀e,S1 e->¬l e:=λe f u=>by obtain w|w:=N e f;exact an e w u;grind);have t:I l j W3:=(bm.aT (T:=l) cY).aj bl<|λe f=>.inl f;(have aV:fE j c (.func (.func k) #[] O) 288:=by refine(ap.A c (az F) ?_).trans F;rintro(u|u);exact ao u;exact bc _ bt u);have:=ap.D;have:=t.D;have:=az F;refine⟨g++[⟨o,p,n,d⟩],cd,S1,B3,by rw[ag HL];simp,U,r.bM<|t.bM r.aZ.D (λe f=>⟨(r.aZ.bZ e f).2,ax e f⟩) aI,(t.A c (az aV) al).trans aV,K,bz▸L,λe f u=>?_,λu=>?_,λu=>?_,λe f=>?_,U⟩;obtain w|w:=ad e u;(grind);have:=(r.aZ.bZ e f).2;simp at w;omega;obtain w|w:=ad c u;exact al w;simp at w;omega;obtain w|w:=N c u;exact ao w;omega;obtain w|w:=N e f;exact bk e w;grind);have HX:=ak hx;gi_wp2;exact ci (jb z _ _ _) z ⟨⟨_,z⟩,.inr ⟨_,HX⟩⟩))
end
section
open Shelf
attribute [local go_sem] Oper.semAt_some
def PS(f:R)(a:Array ae)(w:Z):cR bN 214 #[.func (.func f) #[] a] w λe b=>e=aN (.func (.func 264) #[] #[aJ<|G<|H w])/\b=dw w (aK #[.func (.func f) #[] a] 288):=by
 go_in
 go_wp2;go_ret;simp_all
def oO:(prog.info? 223).map (λi=>(i.zero,i.size,i.bytes))=M (M yt,4,48):=aH
structure zd(V:ju)(S:fB)(w0:Z)(N:R)(pre:dB)(B:fB)(W:Z):Prop where
 d:fE W (G<|H w0) aF 103
 f:fE W (G (H w0)+1) ib 44
 bV:∃v,fE W (G (H w0)+2) v 103/\fD W (G (H w0)+3) 223 4 v (y pre) (bu pre)/\(∀k,B k↔k=G (H w0)\/k=G (H w0)+1\/k=G (H w0)+2\/cN v=M k)
 le:y pre<=N
 aA:I (λk=>S k\/V.F k) w0 W
def zd.lt{S:fB}(h:zd s S a c i W e):∀k,W k->G (H a)<=k/\k<G (H e):=by
 intro k m;let⟨v,n,g,j⟩:=h.bV;obtain d|d|d|d:=(j k).1 m;grind
 grind
 grind
 have:=g.lt k d;grind
def zd.gQ{B:fB}{T:fB}(h:zd s W a b i B e)(c:I T e P)(j:∀k,T k->¬B k/\((W k\/s.F k)\/G (H a)<=k)):zd s W a b i B P:=by
 let⟨v,d,f,g⟩:=h.bV;exact⟨(c.A _ (az h.d) aI).trans h.d,(c.A _ (az h.f) aI).trans h.f,⟨v,(c.A _ (az d) aI).trans d,c.aZ f aI,g⟩,h.le,h.aA.aj c<|λk l=>(j k l).2⟩
def ym{b:Func}{p q:Tmp}{c:TypeId}(h:b.results=#[.cell p c,.cell q 44]){l:TypeId}(i:prog.underlying c=M (.slice l))(a:Array ae)(w:Z)(d e:R)(u v:ae)(j:a.getD p jm=aJ d)(k:a.getD q jm=aJ e)(f:bA w (X d 0)=M u)(g:bA w (X e 0)=M v):(results b a).run bN w=.ok (de #[u,v]) w:=by
 simp[results,h,(dV j:a[p]?.getD jm=aJ d),(dV k:a[q]?.getD jm=aJ e),asAddr,loadVar,isAgg,underlying,i,underlying44,f,g,Result.andThen]
def gl{O:Fence}{P:Program}(A:Z){l:Array Oper}{e:cy Oper}{E:Oper}{F:Act}{aa:Exit->Act->Z->Prop}(s:E.guard=dE)(ad al:Operand)(K:TypeId)(t:E.op=.call {callee:=.builtin .append,args:=#[ad,al],argTypes:=#[K,K]})(o:R)(B:TypeId)(C:TypeInfo)(m9:ae)(a bytes:R)(ht:P.underlying K=M (.slice B))(S:P.info? B=M C)(hz:C.zero=M m9)(i:C.size=a)(r:C.bytes=bytes)(v:m9.cells.size=a)(u:0<a)(N:ae)(D:R)(w:iE)(W:F.eval ad=N)(j:fD A o B a N D w)(p:Addr)(x ab:R)(c:iE)(hx:F.eval al=am (M p) x ab)(V:y c=x*a)(g:∀ac L,c[ac]?=M L->bA A (p.add ac)=M L)(Q:∀L∈c,L.oneCell'=cz)(hn:D+x<=140737488355328)(d:(D+x)*bytes<=140737488355328)(f:o<=G (H A))(h:∀m n,fD n o B a m (D+x) (w++c)->fm A n N m->wpListIn O b P l aa e (F.put E.dst m) n):wpListIn O b P l aa (E::e) F A:=by
 refine zj s λan q=>?_;let⟨m,n,k,r1,r2,r3,r4⟩:=oW (P:=P) A o K E.type B C m9 a bytes ht S hz i r v u N D w j p x ab c V g Q (by unfold maxLen;omega) d f;unfold Oper.wpIn;refine⟨?_,?_⟩;simp[Oper.about,t,resolve,Target.leads,rH];rw[Oper.semAt_plain O _ _ (by rw[t];grind)];simp[execOp,t,resolve,invoke,builtin,W,hx,k,Result.andThen];exact q _ _<|h m n r1<|fm.of r2 r4
theorem yM(w:Z)(x:E)(t:TypeId):∀j u,(bu [x])[j]?=M u->bA (dw w<|aK #[aw x.D,aw x.l,aO x.dP,bw x.f] t) (((X (G<|H w) 0):Addr).add j)=M u:=by
 intro j u a;rw[dS];rw[cE (aQ _ rfl:(dw w<|aK #[aw x.D,aw x.l,aO x.dP,bw x.f] t).heap[G<|H w]?=M (aK #[aw x.D,aw x.l,aO x.dP,bw x.f] t (0,0))),ez];simpa[bu,E.bU]using a
theorem DS(x:E):∀u∈bu [x],u.oneCell'=cz:=by
 intro u a;simp[bu,E.bU]at a;obtain rfl|rfl|rfl|rfl:=a<;>rfl
def zd.jj{c:dB}{B:fB}{x:E}{K:Obj}(h:zd s W a b c B e)(t:fE e (G (H a)+2) d 103)(L:∀k,B k↔k=G (H a)\/k=G (H a)+1\/k=G (H a)+2\/cN d=M k)(D:fD e (G (H a)+3) 223 4 d (y c) (bu c))(N:y c+1<=b)(A:fm (dw e K) P d w)(j:fD P (G (H a)+3) 223 4 w (y c+1) (bu c++bu [x])):∃u,zd s W a b (c++[x]) u (cP P (X (G (H a)+2) 0) w)/\I B e (cP P (X (G (H a)+2) 0) w)/\(∀k,u k->B k\/G (H e)<=k):=by
 have:∀k,cN d=M k->G (H a)+3<=k/\k<G (H e):=λk f=>D.lt k f;have:∀k,cN w=M k->G (H a)+3<=k:=λk f=>(j.lt k f).1;have O:=az t;have n:I (λk=>cN d=M k) e P:=((I.bI (λk=>cN d=M k) e).aE K).aj (I.eF (S:=λk=>cN d=M k) A.dF<|λk f=>.inl f)<|λk f=>.inl f;have g:∀k,k<G (H a)+3->¬cN d=M k:=aI;have o:fE P (G<|H a) aF 103:=(n.A _ (az h.d)<|g _ U).trans h.d;have q:fE P (G (H a)+1) ib 44:=(n.A _ (az h.f)<|g _ U).trans h.f;have r:fE P (G (H a)+2) d 103:=(n.A _ (az t)<|g _ U).trans t;have l:I B e (cP P (X (G (H a)+2) 0) w):=(n.aT (T:=B) aI).aL _ _ _ aI;refine⟨λk=>k=G (H a)\/k=G (H a)+1\/k=G (H a)+2\/cN w=M k,⟨o.dN _ U,q.dN _ U,⟨w,r.gq _,?_,λk=>th⟩,by simp;omega,?_⟩,l,?_⟩;have v:y (c++[x])=y c+1:=ar;rw[v,ie];exact j.kept (eG P _ _ _) aI;exact h.aA.aj l aI;rintro k(v|v|v|v);(grind);(grind);(grind);obtain F|⟨Q,F,C⟩:=A.f;(grind);rw[F]at v;cases v;simp at C;grind
def CZ(V:ju)(S:fB)(a:Z)(B:fB)(W:Z):Prop:=∃q,V.Xp/\tB W q/\fE W (G<|H a) aF 103/\fE W (G (H a)+1) (eW q) 44/\V.D W/\I (λk=>S k\/V.F k) a W/\B (G<|H a)/\B (G (H a)+1)
def CZ.gQ{B T:fB}(h:CZ s W a B e)(c:I T e P)(n:∀k,T k->¬B k/\b<=k/\∃L,e.heap[k]?=M (.loop L))(v:∀k,T k->¬B k/\G (H a)<=k)(hF:∀k,T k->¬s.F k):CZ s W a B P:=by
 let⟨q,w,⟨r,⟨d,o,g⟩,f⟩,l,m,u,t,i,j⟩:=h;refine⟨q,w,⟨r,⟨d,(c.A _ (az o)<|λp=>?_).trans o,g⟩,f⟩,(c.A _ (az l)<|λp=>(n _ p).1 i).trans l,(c.A _ (az m)<|λp=>(n _ p).1 j).trans m,s.l u c hF,t.aj c aI,i,j⟩;grind
def EQ(hg:kw s c d i W a)(hD:s.D a)(hl:y i<=40000000000):cR bN 147 #[d] a λbE w'=>(∃v',bE=aN (de #[v',ib])/\fD w' (G<|H a) 223 4 v' (y i) (bu i)/\s.D w'/\I (λk=>W k\/s.F k) a w')\/Es s a w' (λk=>W k\/s.F k) bE (λd=>de #[aF,d]):=by
 obtain⟨bv,cb,rfl,he,hr⟩:=hg;let⟨HE,HR,HD⟩:=eU he hr hD;let⟨i0,bm,bn,bo,av⟩:=cZ oO;apply(ew (n:=3)).1;refine callsIn_of_wp_marks func147 z trivial ?_ z;simp only[ntmps147,gm,bK,eE,jZ,Nat.reduceSub,fc,fa,gp,fG,ep,dt];gi_wp2_with(refine⟨trivial,?_⟩;gi_at_call 214;apply(ew.2<|(PS bv cb) _).mono;rintro bE w1⟨rfl,rfl⟩)
 have hr:=ag HR;let⟨W0,w⟩:∃W0,(dw (dw (dw (dw a<|aK #[aF] 103)<|aK #[ib] 44)<|aK #[aF] 103)<|aK #[.func (.func bv) #[] cb] 288)=W0:=⟨_,rfl⟩;have cm:G (H W0)=G (H a)+4:=by rw[<-w];simp
 have O:I aC a W0:=w▸(((cI aC a).aE _).aE _).aE _;have bg:zd s W a (y i) [] (λk=>k=G (H a)\/k=G (H a)+1\/k=G (H a)+2) W0:=by refine⟨?_,?_,⟨aF,?_,ct _ _ _ _,λk=>by simp[cN]⟩,bQ _,O.aT cY⟩;rw[<-w];grind[fE.aE,aQ];rw[<-w];exact fE.aE (fE.aE (aQ _ ar) _) _;rw[<-w];exact fE.aE (aQ _ ar) _
 have cl:=hr.aZ.D;have bL:∀k,W k->k<G (H a):=λk u=>(hr.aZ.bZ k u).2;rw[w];have aU:∀k,G (H a)<=k->¬s.F k:=λk u hf=>bP<|hr.aZ.f k hf;refine tI (arg:=MI) (m:=3) (V:=s) (n0:=c) (gf:=264) (lb:=#[aJ<|G (H a)+3]) (pp:=upX s i) (ff:=zan i) (S:=λk=>W k\/k=G (H a)+3) aI ?geval (enters_of func264 aH z) aI (Kf 2 cb (w▸aQ _ ar:fE W0 (G (H a)+3) (.func (.func bv) #[] cb) 288) HE (hr.bM (O.bM hr.aZ.D (λk u=>⟨(hr.aZ.bZ k u).2,λD=>D⟩) cY):Dp s c bv cb i W W0) U aI) (s.l HD O cY:s.D W0) U ?slt (λl' S B=>∃e,l'=e.map Sum.inl/\zd s W a (y i) e S B) (λD _ S B=>D=.ret/\CZ s W a S B) (λk=>k=G (H a)\/k=G (H a)+1\/k=G (H a)+2) ⟨[],z,bg⟩ ?sb ?lt ?st ?xst ?body ?done ?stop;rfl;grind
 grind
 rintro _ S B⟨e,rfl,h⟩k u;have:=h.lt k u;grind
 rintro _ S B W' T⟨e,rfl,h⟩ht hT;refine⟨e,z,h.gQ ht<|λk u=>⟨(hT k u).1,?_⟩⟩;grind
 rintro D e S B W' T⟨h1,V⟩ht hT;exact⟨h1,V.gQ ht hT (aI:∀k,T k->¬S k/\G (H a)<=k) aI⟩;(case stop=>rintro aV D e S B bh⟨rfl,g⟩al hK;let⟨q,hX,hq,V,f,C,O,b2,b3⟩:=g;have r:=iB B aV<|.deferred dE;have bl:G (H a)<=aV:=U;gi_wp2;refine⟨ar,.inl ⟨_,_,z,run_takeDeferred hK,?_⟩⟩;refine⟨_,ym z underlying103 _ _ (G<|H a) (G (H a)+1) aF (eW q) z z ?_ ?_,?_⟩;exact(fE.u<|(r.A _ (az V)<|λD=>al<|D▸b2).trans V);exact(fE.u<|(r.A _ (az f)<|λD=>al<|D▸b3).trans f);refine .inr ⟨hX,q,z,?_,s.l C r aI,O.aj r aI⟩;let⟨cc,⟨Q,hq,ao⟩,an⟩:=hq;exact⟨cc,⟨Q,(r.A _ (az hq) aI).trans hq,ao⟩,an⟩)
 .rintro lr _ bx S B ck bf⟨br,LL,bi⟩ab⟨e,rfl,x⟩C;cases bx with
  |inr q=>
   let⟨hX,hq⟩:s.Xp/\tB B q:=by
    obtain⟨A,h,_⟩|⟨A,q',h,hX,hq⟩:=ab
    .have:Sum.inr q∈A.map (Sum.inl (β:=R)):=by rw[<-h];simp
     simp at this
    simp_all
   unfold MI yt;simp only;gi_wp2;refine⟨(cI _ _),λp g=>?_⟩;have j:I aC B (dw B<|aK #[aw ⟨#[]⟩,aw ⟨#[]⟩,aO bD,bw 0] 223):=cI _ _;have v:zd s W a (y i) e S p:=(x.gQ j cY).gQ g<|λk u=>aI;have ba:tB p q:=by
    let⟨cc,⟨Q,h,ao⟩,an⟩:=hq;have h1:=(j.A q (az h) id).trans h;refine⟨cc,⟨Q,(g.A q (az h1)<|λD=>?_).trans h1,ao⟩,an⟩;rw[D,bi]at h;cases h
   let⟨d,hv,t,P⟩:=v.bV;have l:=v.d;have o:=v.f;have bc:=l.u;have bk:=l.bS;have bd:=o.u;have bp:=o.bS;have b2:S (G<|H a):=(P _).2<|.inl z;have b3:S (G (H a)+1):=aI;have f:I (λk=>k=G (H a)\/k=G (H a)+1) p (cP (cP p (X (G<|H a) 0) aF) (X (G (H a)+1) 0)<|eW q):=((I.bI (λk=>k=G (H a)\/k=G (H a)+1) p).aL _ 0 _<|.inl<|.inl z).aL _ 0 _<|.inl<|.inr z;have aD:tB (cP (cP p (X (G<|H a) 0) aF) (X (G (H a)+1) 0)<|eW q) q:=ba.aA f (by
    grind)
   have aa:=s.l (s.l (s.l C j cY) g aI:s.D p) f (by rintro k(rfl|rfl)hf<;>exact aU _ U hf);have bl:∀k,(k=G (H a)\/k=G (H a)+1)->G (H a)<=k:=by rintro k(D|D)<;>omega
   have ax:I (λk=>W k\/s.F k) a (cP (cP p (X (G<|H a) 0) aF) (X (G (H a)+1) 0)<|eW q):=v.aA.aj f ar;have bb:G (H B)+1<=G (H p):=by have:=g.D;simp_all
   have ac:I (λk=>S k\/k=lr) B (cP (cP p (X (G<|H a) 0) aF) (X (G (H a)+1) 0)<|eW q):=((j.aT (T:=λk=>S k\/k=lr) cY).aj g ar).aj f (by
    grind)
   have N:(cP (cP p (X (G<|H a) 0) aF) (X (G (H a)+1) 0)<|eW q).heap[lr]?=p.heap[lr]?:=f.A lr U (by
    grind)
   gi_wp2;exact⟨S,⟨z,(⟨q,hX,aD,(l.gq _).dN _ U,(o.dN _ U).gq _,aa,ax,b2,b3⟩:CZ s W a S (cP (cP p (X (G<|H a) 0) aF) (X (G (H a)+1) 0)<|eW q))⟩,ac,N,λk u=>.inl u⟩
  |inl bx=>
   have aD:y e+1<=y i:=by
    obtain⟨A,h,hp⟩|⟨A,q',h,_⟩:=ab
    .have h1:=hp.length_le;have V:=cD y h;grind
    simp_all
   let⟨l,o,j,f⟩:=bx;unfold MI E.t;simp only;gi_wp2;refine⟨(cI _ _),λp g=>?_⟩;have v:zd s W a (y i) e S p:=((x.gQ ((I.bI aC B).aE<|aK #[aw l,aw o,aO j,bw f] 223) cY).gQ g<|λk u=>aI);have ax:jP p (G<|H B) ⟨l,o,j,f⟩:=jP.aA (aQ _ z) g U;let⟨d,hv,t,P⟩:=v.bV;have bT:bA p (X (G (H a)+1+1) 0)=M d:=hv.u;have cj:iH p (X (G (H a)+1+1) 0)=bD:=hv.bS;let⟨L,K,ap⟩:=aM t;let⟨ca,cd,ce,ch⟩:=ax.bU;have bs:=az ax;have bt:=az hv;have bk:G (H a)+3<=G (H p):=zee v.aA.D g.D;let⟨ba,HV,F,ad,bc⟩:=nZ v hv t P g;subst ap;gi_wp2_with(first
    |(gi_at_builtin;refine gl _ z (.tmp 14) (.tmp 16) 103 z (G (H a)+3) 223 i0 yt 4 48 underlying103 bm bn bo av z cg (.slice L (y e) K) (y e) (bu e) z (bC F (.cells #[.string l,.string o,.bool j,.int .u64 f] 223)) (X (G (H p)) 0) 1 1 (bu [⟨l,o,j,f⟩]) z z (yM _ ⟨l,o,j,f⟩ _) (DS _) U U dW ?_;intro v2 w3 N ac;obtain⟨co,cn,rfl⟩:=aM N;have aa:fE w3 (G (H a)+1+1) (.slice L (y e) K) 103:=(ac.dF.block _ (az (HV.aE (.cells #[.string l,.string o,.bool j,.int .u64 f] 223))) (λD=>bP ((F.lt _ D.symm).1))).trans (HV.aE _);have bp:=aa.u;have bq:=aa.bS;have bb:=ak N;have bd:=ak ac))
   let⟨B',q1,q2,q3⟩:=ba.jj (x:=⟨l,o,j,f⟩) HV ad F aD bd bb;have g:=ag bc;have av:=g.D;simp at av;refine⟨?_,B',⟨_,ar,q1⟩,(((I.bI (λk=>S k\/k=lr) B).aE<|aK #[aw l,aw o,aO j,bw f] 223).aj g ar:I (λk=>S k\/k=lr) B p).aj q2 aI,q2.A lr U bf,λk u=>?_⟩
   .refine s.l (s.l (s.l C (cI aC B) cY) g<|λk u=>aI) q2<|λk u=>aU k (x.lt k u).1
   grind
 rintro l' aV S B A bh⟨e,rfl,x⟩al C hK;(obtain rfl:e=i:=by obtain D|⟨p,q,D⟩:=A;(grind[List.map_inj_right,Sum.inl.inj]);(have:Sum.inr q∈e.map (Sum.inl (β:=R)):=by rw[D];simp);simp at this);let⟨d,hv,t,P⟩:=x.bV;have:bA B (X (G (H a)+1+1) 0)=M d:=hv.u;have:=x.d.u;have:=x.d.bS;have:=x.f.u;have:=x.f.bS;obtain⟨L,K,ap⟩:=aM t;let⟨HC,HV,F,ad,o,HK⟩:=nT x hv t P C hK;subst ap;gi_wp2;have:=ag ad;have x:=ag HC;have N:aV≠G (H a):=U;have n2:aV≠G (H a)+1:=U;have:¬cN (am L (y e) K)=M aV:=aI;(have v:(cP (cP B (X (G<|H a) 0)<|am L (y e) K) (X (G (H a)+1) 0) ib).heap[aV]?=M (.deferred<|M []):=by rwa[kU _ n2,kU _ N]);have f:fE (cP (cP B (X (G<|H a) 0)<|am L (y e) K) (X (G (H a)+1) 0) ib) (G<|H a) (am L (y e) K) 103:=(x.d.gq _).dN _ U;have g:fE (cP (cP B (X (G<|H a) 0)<|am L (y e) K) (X (G (H a)+1) 0) ib) (G (H a)+1) ib 44:=(x.f.dN _ U).gq _;have r:=iB (cP (cP B (X (G<|H a) 0)<|am L (y e) K) (X (G (H a)+1) 0) ib) aV<|.deferred dE;have l:=((((I.bI (λk=>k=G (H a)\/k=G (H a)+1) B).aL _ 0 _<|.inl<|.inl z).aL _ 0 _ (.inl<|.inr z):I (λk=>k=G (H a)\/k=G (H a)+1) B (cP (cP B (X (G<|H a) 0)<|am L (y e) K) (X (G (H a)+1) 0) ib)).aT (T:=λk=>k=G (H a)\/k=G (H a)+1\/k=aV) ar).aj r ar;(have:∀k,(k=G (H a)\/k=G (H a)+1\/k=aV)->G (H a)<=k:=by rintro k(D|D|D)<;>omega);refine⟨ar,.inl ⟨_,_,z,run_takeDeferred v,?_⟩⟩;refine⟨_,ym z underlying103 _ _ (G<|H a) (G (H a)+1) (am L (y e) K) ib z z ?_ ?_,?_⟩;exact(fE.u<|(r.A _ (az f)<|λD=>N D.symm).trans f);exact(fE.u<|(r.A _ (az g)<|λD=>n2 D.symm).trans g);refine .inl ⟨_,z,?_,s.l o l aI,x.aA.aj l aI⟩;have t:=ag F;have hx:=l.aZ t (λk u D=>by have:=(t.lt k u).1;grind);obtain⟨h1,⟨V,h0⟩|⟨aa,cp,p,V,hb,j⟩⟩:=hx;exact⟨h1,.inl ⟨V,h0⟩⟩;exact⟨h1,.inr ⟨aa,cp,p,V,U,j⟩⟩
end
def Hs:Option E->ae
 |some x=>.tuple #[x.t,.bool cz,ib]
 |none=>.tuple #[yt,.bool bD,ib]
def Ma(t:TypeId)(a b:af):binOp .geq t (aw a) (aw b)=pure (aO !(Op.bytesLess a.toList b.toList)):=by simp[binOp,Op.stringOp]
def CK{o:dB}(E:af)(t:Y)(h:lF a d o)(F:gF o)(P:y o<=1000000000000)(D:∀t,cN d=M t->t<G (H a)):cR bN 331 #[d,aw E,bw t] a λN S=>N=aN (Hs<|kC t o E)/\gC (G<|H a) a S:=by
 have j:gC (G<|H a) a (dw a<|aK #[aw ⟨#[]⟩,aw ⟨#[]⟩,aO bD,bw 0] 223):=(Below.refl _ a).alloc (aq _) _;have C:=DP d E t (dw a<|aK #[aw ⟨#[]⟩,aw ⟨#[]⟩,aO bD,bw 0] 223) (h.dD j D) F P (λt b=>by have:=D t b;simp;omega);have q:=SL F E ⟨#[]⟩ bD t;have B:=ak<|Lq o ⟨E,⟨#[]⟩,bD,t⟩;generalize mO o ⟨E,⟨#[]⟩,bD,t⟩=p at*;by_cases r:p<y o;(·(have e1:((p:Y)==(y o:Y))=bD:=by simp;omega);have:(p:Y)<(y o:Y):=U;have:(0:Y)<=(p:Y):=U;obtain⟨h1,⟨rfl,h0⟩|⟨u,b,L,rfl,Q,v⟩⟩:=h;omega;have s:=fH o p r;have m:=D u z;by_cases f:o[p].D=E;(case' pos=>rw[q,Ax ⟨r,f⟩];subst f;generalize o[p]=T at*;obtain⟨x,A,xd,w⟩:=T;simp only at s C);(case' neg=>have O:=DA f;rw[q,Fz<|λK=>f K.2];generalize o[p]=T at*;let⟨x,A,xd,w⟩:=T;simp only at s O);(all_goals(go_in);go_wp2_with(go_at_call 190;refine C.mono ?_;rintro N n⟨rfl,g⟩;have e:gC (G<|H a) a n:=j.trans<|g.mono j.size;have:bA n (X u<|b+p*4)=M (aw x):=(e.cell (p:=(X u<|b+p*4)) m).trans<|v _ _ s.1;have q1:bA n (X u<|b+p*4+1)=M (aw A):=(e.cell (p:=(X u<|b+p*4+1)) m).trans (by rw[bJ];exact v _ _ s.2.1);have q2:bA n (X u<|b+p*4+2)=M (aO xd):=(e.cell (p:=(X u<|b+p*4+2)) m).trans (by rw[bJ];exact v _ _ s.2.2.1);have q3:bA n (X u<|b+p*4+3)=M (bw w):=(e.cell (p:=(X u<|b+p*4+3)) m).trans (by rw[bJ];exact v _ _ s.2.2.2);have c:jP n (G<|H a) ⟨⟨#[]⟩,⟨#[]⟩,bD,0⟩:=(g.block _ ar).trans<|aQ _ z;let⟨V,W,z2,z3⟩:=c.bU;have y0:=c.bS (i:=0);have y1:=c.bS (i:=1);have y2:=c.bS (i:=2);have y3:=c.bS (i:=3);have l:=ak c;have k:=ak e));refine ci (gY z _ _ (G<|H a) ⟨⟨#[]⟩,⟨#[]⟩,bD,0⟩ _ _ z<|l.gK ⟨⟨#[]⟩,⟨#[]⟩,bD,0⟩) z ?_;exact⟨z,(((k.setCell (p:=(X (G<|H a) 0)) (aq _) _).setCell (p:=(X (G<|H a) 1)) (aq _) _).setCell (p:=(X (G<|H a) 2)) (aq _) _).setCell (p:=(X (G<|H a) 3)) (aq _) _⟩;exact ci (gY z _ _ (G<|H a) ⟨x,A,xd,w⟩ _ _ z<|l.gK ⟨x,A,xd,w⟩) z ⟨z,(((k.setCell (p:=(X (G<|H a) 0)) (aq _) _).setCell (p:=(X (G<|H a) 1)) (aq _) _).setCell (p:=(X (G<|H a) 2)) (aq _) _).setCell (p:=(X (G<|H a) 3)) (aq _) _⟩);have b:p=y o:=bP<|ag B;rw[q,Fz<|λK=>r K.1];have f:=cG h;subst b;obtain⟨s,m,rfl⟩:=f;have:((y o:Y)==(y o:Y))=cz:=ar;(go_in);(go_wp2_with(go_at_call 190;refine C.mono ?_;rintro N n⟨rfl,g⟩;have e:gC (G<|H a) a n:=j.trans<|g.mono j.size;have c:jP n (G<|H a) ⟨⟨#[]⟩,⟨#[]⟩,bD,0⟩:=(g.block _ ar).trans<|aQ _ z;let⟨V,W,z2,z3⟩:=c.bU;have:=c.bS (i:=0);have:=c.bS (i:=1);have:=c.bS (i:=2);have:=c.bS (i:=3);have l:=ak c;have k:=ak e));exact ci (gY z _ _ (G<|H a) ⟨⟨#[]⟩,⟨#[]⟩,bD,0⟩ _ _ z<|l.gK ⟨⟨#[]⟩,⟨#[]⟩,bD,0⟩) z ⟨z,(((k.setCell (p:=(X (G<|H a) 0)) (aq _) _).setCell (p:=(X (G<|H a) 1)) (aq _) _).setCell (p:=(X (G<|H a) 2)) (aq _) _).setCell (p:=(X (G<|H a) 3)) (aq _) _⟩
def BA(l:dB):eN:=decide<|l.Pairwise<|λa b=>ahead a b=cz
def XS(h:gF i):BA i=cz:=by unfold gF at h;unfold BA;exact uU h
def XU(h:BA i=cz):gF i:=by unfold BA at h;unfold gF;exact lJ h
def F1(a:b+1<y i)(h:ahead i[b] i[b+1]=bD):BA i=bD:=yQ λq=>by
 have:=cW.1 q b (b+1) U a U;rw[h]at this;cases this
def KP(h:∀a(b:a+1<y i),ahead i[a] i[a+1]=cz):gF i:=by
 refine cW.2 λa j b e c=>?_;obtain⟨d,rfl⟩:∃d,j=a+1+d:=⟨j-a-1,U⟩;induction d with
 |zero=>exact h a e
 |succ d f=>exact tW (f U U)<|h (a+1+d) U
def Rg(ap:ae)(w:Z)(h:lF w ap i)(hl:y i<=1000000000000)(hv:∀av,cN ap=M av->av<G (H w)):cR bN 333 #[ap] w λax w'=>ax=aN (aO<|BA i)/\gC (G<|H w) w w':=by
 have V:∀(ab:eN)(w:Z),(Op.unary .not<|aO ab).run bN w=.ok (aO<|!ab) w:=λ_ _=>rfl;obtain⟨h1,⟨rfl,h0⟩|⟨j,a,ac,rfl,an,hc⟩⟩:=h;(·(go_in);go_wp2;(go_loop [6] (λd=>d=ay 0) (λ_=>0));rfl;obtain rfl:=hrel;go_wp2;go_ret;exact⟨by rw[bG h0];rfl,Below.refl _ _⟩)
 .have HC:=ak hc;have A:=hv j z;go_in
  go_wp2;go_loopw [6] (λd wr=>∃s:R,s<=y i/\d=ay s/\gC (G<|H w) w wr/\Hid (∀d(n:d+1<y i),d+1<s->ahead i[d] i[d+1]=cz)) (λd _=>y i-(intOf d).toNat)
  .exact⟨0,bQ _,z,Below.refl _ _,ak U⟩
  .obtain⟨s,ao,rfl,c,k⟩:=hrel;have HB:=ak c;by_cases o:s<y i
   .obtain r|r:=fN s
    .subst r;go_wp2;go_quiet(fail)
     go_wp2;go_roundw
     .exact⟨1,U,z,below_drewN HB _,ak U⟩
     .simp[intOf];omega
    .obtain⟨p,rfl⟩:∃p,s=p+1:=⟨s-1,U⟩;have W:p<y i:=U;have b:∀d u,(bu i)[d]?=M u->bA wr (X j<|a+d)=M u:=λd u e=>(c.cell (p:=(X j<|a+d)) A).trans<|HC d u e;have e:=fH i p W;have f:=fH i (p+1) o;have P:=b _ _ e.1;have c1:=b _ _ e.2.1;have c2:=b _ _ e.2.2.1;have c3:=b _ _ e.2.2.2;have d0:=b _ _ f.1;have Q:=b _ _ f.2.1;have S:=b _ _ f.2.2.1;have T:=b _ _ f.2.2.2;simp only[<-bJ]at c1 c2 c3 Q S T;have x:=λW=>Eo i[p] i[p+1] W;have v:=ak (show ahead i[p] i[p+1]=cz->∀d(n:d+1<y i),d+1<p+1+1->ahead i[d] i[d+1]=cz fromλq d n W=>by
      by_cases l:d+1<p+1
      .exact ag k d n l
      .obtain rfl:d=p:=U;exact q)
     have u:=ak<|show ahead i[p] i[p+1]=bD->BA i=bD from F1 o;generalize ahead i[p] i[p+1]=bb at*;have al:j<G (H wr):=cA _ _ P;generalize i[p]=ab at*;generalize i[p+1]=g9 at*;let⟨D,F,xd,C⟩:=ab;let⟨N,O,L,K⟩:=g9;unfold E.t at x;simp only at x P c1 c2 c3 d0 Q S T;have aa:(0:Y)<(p:Y)+1:=U;have e2:(0:Y)<=(p:Y):=U;have e3:(p:Y)<(y i:Y):=U;have e4:(0:Y)<=(p:Y)+1:=U;have e5:(p:Y)+1<(y i:Y):=U;have e9:IntKind.i64.wrap (p:Y)=(p:Y):=by rw[bR];omega
     have ad:wrap64 (p:Y)=(p:Y):=by unfold wrap64;omega
     have m:gC (G<|H w) w (dw (dw wr<|aK #[aw D,aw F,aO xd,bw C] 223)<|aK #[aw N,aw O,aO L,bw K] 223):=(HB.alloc HB.size _).alloc (by have:=HB.size;simp;omega) _;have t:=ak m;clear m;cases bb;all_goals
      go_wp21;go_region_held3(λg=>bA g (X j<|a+p*4)=M (aw D)/\bA g (X j<|a+p*4+1)=M (aw F)/\bA g (X j<|a+p*4+2)=M (aO xd)/\bA g (X j<|a+p*4+3)=M (bw C)/\bA g (X j<|a+(p+1)*4)=M (aw N)/\bA g (X j<|a+(p+1)*4+1)=M (aw O)/\bA g (X j<|a+(p+1)*4+2)=M (aO L)/\bA g (X j<|a+(p+1)*4+3)=M (bw K)) (first|assumption|go_keep) (first|(go_at_call 249;refine(x _).mono ?_;rintro ax w1⟨rfl,rfl⟩))
     .go_wp2;go_ret;exact⟨by rw[ag u ar];rfl,below_drewN t _⟩
     go_wp2;go_roundw
     .have l:gC (G<|H wr) wr (dw (dw wr<|aK #[aw D,aw F,aO xd,bw C] 223)<|aK #[aw N,aw O,aO L,bw K] 223):=((Below.refl _ wr).alloc (aq _) _).alloc ar _;refine⟨p+1+1,U,dM,HB.trans ?_,ak<|ag v ar⟩;exact Below.mono (B:=G<|H wr) ⟨l.os,l.tape,l.output,l.size,l.block⟩ HB.size
     .simp[intOf];omega
   .clear c;have b:BA i=cz:=XS<|KP λd n=>ag k d n U;go_wp2;go_ret;exact⟨by rw[b];rfl,HB⟩
def Rd.ni{m6:eN}(h:Rd a b m m6)(d:a.grownBy e dE):Rd e b m m6:=by
 let⟨v,f,g,c⟩:=h;refine⟨v,(d.block b (az f) ar).trans f,g.dF d ?_,c⟩;grind
def Rd.lt{w:Z}{rest:eD}{m6:eN}(h:Rd w c rest m6):c<G (H w):=by
 let⟨v,a,_⟩:=h;exact az a
def Rd.gK{m6:eN}{m9:E}(h:Rd e c m m6)(x:jP e k m9)(r:c≠k)(j:E):Rd (yo e k j) c m m6:=by
 let⟨F,s,A,C⟩:=h;have u:=kp e k j;refine⟨F,(u.A c (az s) r).trans s,?_,C⟩;obtain⟨v,w⟩|⟨b,d,i,v,o,B⟩:=A;exact J ⟨v,w⟩;refine bj ⟨b,d,i,v,o,λD t=>?_⟩;have g:=B D t;(have n:b≠k:=by rintro rfl;rw[cE x,bF t]at g;grind);have q:b<G (H e):=cA e (X b<|d+D) g;have l:=u.A b q n;rwa[dZ (w:=e) (w':=yo e k j) (a:=(X b<|d+D)) l]
def I.Z4(h:I (λk=>k=b) a e):a.grownBy e (M b):=⟨h.os,h.l,h.f,h.D,λk c d=>h.A k c<|λf=>d<|by rw[f]⟩
def jP.dF{w w':Z}(h:jP w b S)(a:w.grownBy w' (M c))(d:c≠b):jP w' b S:=(a.block b (az h) aI).trans h
def yn{c:Func}{p u:Tmp}(h:c.results=#[.cell p 223,.tmp u])(a:Array ae)(w:Z)(g:R)(x:E)(t:TypeId)(d:R×R)(i:a.getD p jm=aJ g)(e:w.heap[g]?=M (aK #[aw x.D,aw x.l,aO x.dP,bw x.f] t d)):(results c a).run bN w=.ok (de #[x.t,a.getD u jm]) w:=by
 have b:a[p]?.getD jm=aJ g:=dV i;have f:=kP (P:=bN) w g t 223 #[aw x.D,aw x.l,aO x.dP,bw x.f] d _ e underlying223 z aH;simp[results,h,b,asAddr,f,Result.andThen,E.t]
def uG{rest:eD}{m6:eN}{n:R}(h:(fY rest m6 n).2.1=bD):m6=bD/\rest=(fY rest m6 n).2.2++(fY rest m6 n).1/\y (fY rest m6 n).2.2=n:=by
 unfold fY at*;split at h;cases h;rename_i a;rw[fM a];refine⟨by cases m6<;>simp_all,ar,by simp;omega⟩
def Qd{a:eD}{m6:eN}(h:(fY a m6 1).2.1=bD):a=dz a m6 1::(fY a m6 1).1:=by
 let⟨e,b,c⟩:=uG h;unfold dz;let⟨x,d⟩:=List.length_eq_one_iff.1 c;rw[d]at b|-;simpa[jv]using b
def Bw(h:ki m):km (qK m)=m:=by
 unfold km qK;simp only[iV];conv=>rhs;rw[<-we m]
 refine qg λx a=>?_;have:=h x a;simp;omega
def AD{rest:eD}{m6:eN}(a:ki rest)(h:(nP rest m6).2.1=bD):m6=bD/\rest=iM (qK (nP rest m6).2.2)++(nP rest m6).1:=by
 unfold nP at*;simp only at*;let⟨b,e,f⟩:=uG h;have g:=Qd b;let⟨d,_⟩:=uG b;refine⟨d,?_⟩;have c:=(ki.lO (n:=(dz rest m6 1).toNat) (m6:=(fY rest m6 1).2.1) (ki.lO (n:=1) (m6:=m6) a).1).2;have i:=(jU (n:=1) (m6:=m6) a).1;unfold iM;rw[Bw c,<-iw,Bw c,f];rw[show(((dz rest m6 1).toNat:R):Y)=dz rest m6 1 by omega];rw[dt,<-e,<-g]
def qX(a:eD)(m6:eN):y (nP a m6).1<=y a/\(ki a->ki (nP a m6).1/\ki (nP a m6).2.2/\(qK (nP a m6).2.2).size<=255):=by
 unfold nP;simp only;have d:=jd a m6 1;have e:=jd (fY a m6 1).1 (fY a m6 1).2.1 (dz a m6 1).toNat;refine⟨U,λb=>?_⟩;have c:=ki.lO (n:=(dz a m6 1).toNat) (m6:=(fY a m6 1).2.1) (ki.lO (n:=1) (m6:=m6) b).1;have f:=jU (n:=1) (m6:=m6) b;refine⟨c.1,c.2,?_⟩;rw[<-iw,Bw c.2];omega
def FY(d:Rd e b m V)(c:jP e (G<|H a) zE)(g:b<G (H a))(f:I (λk=>k=b) a e)(x:E)(o:Obj):Rd ((yo e (G<|H a) x).alloc o) b m V/\a.grownBy ((yo e (G<|H a) x).alloc o) (M b):=⟨(d.gK c U x).ni<|eR _ _ dE,((f.aj (kp e (G<|H a) x) ar).aE _).Z4⟩
def Jj(o:R){m6:eN}(h:Rd a o m m6)(v:ki m)(hr:y m<=140737488351232):cR bN 188 #[aJ o] a λN w'=>∃(ao:E)(ok:eN)(bg:eD)(bd:eN),N=aN (de #[ao.t,aO ok])/\Rd w' o bg bd/\ki bg/\y bg<=y m/\a.grownBy w' (M o)/\(ok=cz->m6=bD/\bd=bD/\ao.Good/\ao.f=0/\m=oz ao++bg)/\(ok=bD->∀(d:E)x,d.Good->m6=bD->m≠oz d++x):=by
 have hX:∀(d:E)x,m6=bD->m=oz d++x->dz m m6 1=qn d.dP/\((nP (nP (fY m m6 1).1 (fY m m6 1).2.1).1 (nP (fY m m6 1).1 (fY m m6 1).2.1).2.1).2.1=bD/\qK (nP (nP (fY m m6 1).1 (fY m m6 1).2.1).1 (nP (fY m m6 1).1 (fY m m6 1).2.1).2.1).2.2=d.l)/\qK (nP (fY m m6 1).1 (fY m m6 1).2.1).2.2=d.D:=by rintro d x rfl rfl;rw[show oz d++x=qn d.dP::(iM d.D++(iM d.l++x))by simp[oz]];simp[(EN _ _).1,(EN _ _).2,(yg _ _).1,yh]
 have i1:=ki.lO (n:=1) (m6:=m6) v;have l1:=jd m m6 1;have b1:=@Qd m m6;have n1:=jU (n:=1) (m6:=m6) v;have s1:=λq=>(uG (rest:=m) (m6:=m6) (n:=1) q).1;have aa:=λW(u:Rd W o m m6)=>Io u v hr;generalize dz m m6 1=l at*;generalize fY m m6 1=bm at*;let⟨A,B,A3⟩:=bm;simp only at*;have i2:=(qX A B).2 i1.1;have l2:=(qX A B).1;have t2:=λq=>AD (rest:=A) (m6:=B) i1.1 q;have ab:=λW(u:Rd W o A B)=>Cp u i1.1 U;generalize nP A B=bn at*;let⟨C,D,B3⟩:=bn;simp only at*;have i3:=(qX C D).2 i2.1;have l3:=(qX C D).1;have t3:=λq=>AD (rest:=C) (m6:=D) i2.1 q;have ac:=λW(u:Rd W o C D)=>Cp u i2.1 U;generalize nP C D=bo at*;obtain⟨C1,p,C3⟩:=bo;simp only at*;generalize qK B3=b at*;generalize qK C3=c at*;have an:=λW(u:Rd W o C1 p)=>Jn u;have ad:=rl b;have al:=zV c;have bf:∀(ao:eN)(a:Z),(Op.unary .not<|aO ao).run bN a=.ok (aO<|!ao) a:=λ_ _=>rfl;have j:=λW=>ad W U;have k:=λW=>al W U;have w:=h.lt;have HR:=ak<|h.ni<|eR a (aK #[aw ⟨#[]⟩,aw ⟨#[]⟩,aO bD,bw 0] 223) dE
 have HN:=ak (show∀(d:E)x,d.Good->m6=bD->m=oz d++x->p=bD/\(1<=b.size/\b.size<=8)/\c.size<=16/\l<=1/\(l=1->c.toList.isEmpty=cz)fromλd x bc bd N=>by
  obtain⟨rfl,⟨g,rfl⟩,rfl⟩:=hX d x bd N;refine⟨g,⟨bc.L,bc.f⟩,bc.l,?_,λq=>?_⟩
  .cases d.dP<;>simp[qn]
  .cases hd:d.dP
   .rw[hd]at q;cases q
   .rw[bc.dP hd];kernel_rfl)
 clear hX;have hD:p=cz\/(p=bD/\decide (1<=b.size/\b.size<=8)=bD)\/(p=bD/\decide (1<=b.size/\b.size<=8)=cz/\decide (c.size<=16)=bD)\/(p=bD/\decide (1<=b.size/\b.size<=8)=cz/\decide (c.size<=16)=cz/\(1<l\/(l=1/\c.toList.isEmpty=bD)\/l=0\/(l=1/\c=⟨#[]⟩))):=by have hk:1<l\/l=0\/l=1:=U;(have g:c=⟨#[]⟩\/c.toList.isEmpty=bD:=by rcases hq:c.toList with _|⟨ao,bg⟩;exact J<|An<|hq.trans aH;exact bj z);obtain g|g:=g<;>cases p<;>cases decide (1<=b.size/\b.size<=8)<;>cases decide (c.size<=16)<;>simp[g]<;>omega
 have s:p=bD->decide (1<=b.size/\b.size<=8)=cz->decide (c.size<=16)=cz->∀g:eN,l=qn g->(g=cz->c=⟨#[]⟩)->m6=bD/\p=bD/\E.Good ⟨b,c,g,0⟩/\(⟨b,c,g,0⟩:E).f=0/\m=oz ⟨b,c,g,0⟩++C1:=by intro c1 c2 c3 g hk bb;obtain⟨q1,q2⟩:=t3 c1;obtain⟨q3,q4⟩:=t2 q1;have L:=lJ c2;have aD:=lJ c3;refine⟨s1 q3,c1,⟨L.1,L.2,aD,bb,ar,ar⟩,z,?_⟩;rw[b1 q3,hk,q4,q2];simp[oz]
 clear b1 s1 t2 t3;have HF:=ak s;clear s;obtain h1|⟨h1,Q⟩|⟨h1,Q,h3⟩|⟨h1,Q,h3,S|⟨S,h5⟩|S|⟨S,rfl⟩⟩:=hD;all_goals first|rw[Q]at j|skip
 all_goals first|rw[h3]at k|skip
 all_goals subst h1
 all_goals
  go_in
  go_wp2_with(first
   |(go_at_call 187;refine(aa _<|ag HR).mono ?_;rintro N w1⟨rfl,aU,T⟩;have av:=ak aU;have F:=ak T;have bi:=T.size)
   |(go_at_call 241;refine(ab _<|ag av).mono ?_;rintro N w2⟨rfl,aV,V⟩;have ax:=ak aV;have K:=ak V;have bk:=V.size)
   |(go_at_call 241;refine(ac _<|ag ax).mono ?_;rintro N w3⟨rfl,ba,t⟩;have r:=ak ba;have ap:=ak t;have bl:=t.size;have e:jP w3 (G<|H a) zE:=(((jP.dF (aQ _ z) (ag F) U).dF (ag K) U).dF t U);obtain⟨z0,z1,z2,z3⟩:=e.bU;have y0:=e.bS (i:=0);have y1:=e.bS (i:=1);have y2:=e.bS (i:=2);have y3:=e.bS (i:=3);have bh:=az e;have f:=ak e)
   |(go_at_call 179;refine(an _<|(ag r).ni<|eR w3 _ dE).mono ?_;rintro N w4⟨rfl,rfl⟩)
   |(go_at_call 104;refine(j _).mono ?_;rintro N w5⟨rfl,rfl⟩)
   |(go_at_call 105;refine(k _).mono ?_;rintro N w6⟨rfl,rfl⟩))
 (all_goals have hW:I (λk=>k=o) a w3:=(((cI (λk=>k=o) a).aj (gH F)<|λ_=>J).aj (gH K)<|λ_=>J).aj (gH ap)<|λ_=>J;clear aa ab ac an ad j al k);iterate 5 ·(refine ci (yn z _ _ (G<|H a) zE _ _ z<|((ag f).gK zE).aE _) z ?_;obtain⟨O,P⟩:=FY (ag r) (ag f) w hW zE _;exact⟨zE,bD,_,_,z,O,i3.1,U,P,ar,λ_ d x bc bd N=>zY<|ag HN d x bc bd N⟩)
 refine ci (yn z _ _ (G<|H a) ⟨b,c,bD,0⟩ _ _ z<|((ag f).gK ⟨b,c,bD,0⟩).aE _) z ?_;obtain⟨O,P⟩:=FY (ag r) (ag f) w hW ⟨b,c,bD,0⟩ _;exact⟨⟨b,c,bD,0⟩,cz,_,_,z,O,i3.1,U,P,λ_=>by simpa using ag HF ar Q h3 bD S ar,ar⟩;refine ci (yn z _ _ (G<|H a) ⟨b,⟨#[]⟩,cz,0⟩ _ _ z<|((ag f).gK ⟨b,⟨#[]⟩,cz,0⟩).aE _) z ?_;obtain⟨O,P⟩:=FY (ag r) (ag f) w hW ⟨b,⟨#[]⟩,cz,0⟩ _;exact⟨⟨b,⟨#[]⟩,cz,0⟩,cz,_,_,z,O,i3.1,U,P,λ_=>by simpa using ag HF ar Q h3 cz S ar,ar⟩
def ij(a:eD):eD:=a++le 4 (pt a)
def yI(e:E):eD:=le 8 e.f++oz e
def iG(c:dB):eD:=c.flatMap yI
def JO(a:eD):jv (le 4<|pt a)=pt a:=by
 rw[xO 4 _<|Ii a];exact wi (Ii a)<|zY<|Mq a
def zT(a:0<=r)(b:r<18446744073709551616):jv (le 8 r)=r:=by
 rw[xO 8 _ a];grind
def QR(ok:eN)(o c d:R)(b f:eD)(C:Steps a)(x:y f=4)(u:ki f)(D:(jv f !=pt b)=!ok)(O:y b+4<=d)(S:y b+4<=100000000000000)(t:Bytes a (bX o c (y b+4) d) (b++f)):cR bN 175 #[bX o c (y b+4:R) d] a λF Q=>
 F=aN (if ok=cz then de #[bX o c (y b) d,aO cz]else de #[aF,aO bD])/\gC (G<|H a) a Q:=by
 have P:=C.lt
 have K:o<G (H a):=t.lt (by intro h;simp_all) o z
 have j:Bytes a (bX o c (y<|b++f) d) (b++f):=ai▸x▸t
 have A:Bytes a (bX o c (y b) d) b:=by
  have:=j.ot (n:=y b) ar;rwa[rL]at this
 have B:Bytes a (bX o (c+y b) 4<|d-y b) f:=by
  have:=j.Ec (n:=y b) ar;rwa[pw,ai,x,xe]at this
 have E:dz f bD 4=jv f:=by
  unfold dz fY;rw[fM (by simp[x]),fA U]
 have L:(dz f bD 4 !=pt b)=!ok:=E▸D
 clear t j E D
 cases ok
 all_goals
  simp only[tj,zn]at L;go_in
  go_wp21;refine(oM B<|λW N=>zY<|Vz N).mono ?_;rintro F p⟨rfl,v,e⟩;have w:G (H p)=G (H a)+1:=by rw[e];simp
  have i:gC (G<|H a) a p:=e▸(Below.refl _ _).alloc (aq _) _;have l:Hid (Steps p):=e▸C.aE _;have k:Hid (Bytes p (bX o c (y b) d) b):=e▸A.aE _;clear e;go_wp21;go_region_with(first
   |(go_at_call 178;refine(vk (G<|H a) bD _ ?_ u U).mono ?_;exact v.df z;rintro F T⟨rfl,m,g⟩;have s:=ak<|Steps.dF (by exact Steps.df l z) g dW;have q:=ak<|Bytes.dF (by exact Bytes.df k z) g<|J (by simp[cN];omega);have r:=ak<|Below.grown (by exact Below.of_heap i z) g (by simp[w]) ar;clear m g)
   |(go_at_call 186;refine(sV _ b _ ?_ ?_ U).mono ?_;(first|exact s.df rfl|exact l.df z);(first|exact q.df rfl|exact k.df z);rintro F V⟨rfl,rfl⟩))
  all_goals
   go_wp2;go_ret2
   exact⟨by rfl,by first|exact r.of_heap rfl|exact Below.of_heap i z⟩
def LK:∀l:eD,ki l->le (y l) (jv l)=l
 |[],_=>rfl
 |x::r,h=>by
  have:=h x ar;have c:=LK r (λa b=>h a<|by simp[b]);have a:(x+256*jv r) %256=x:=U;have b:(x+256*jv r)/256=jv r:=U;rw[bK,le,jv,a,b,c]
def zeo(w e:Z)(v:ae)(d:eD)(g:Ending):Prop:=((g=aN (de #[aF,aO bD])/\∀a,d≠ij a)\/∃f b c a,v=bX f b (y a+4) c/\y a+4<=c/\d=ij a/\g=aN (de #[bX f b (y a) c,aO cz]))/\gC (G<|H w) w e
def Bv(x:ae)(c:eD){w:Z}(s:Steps w)(k:Bytes w x c)(l:ki c)(n:y c<=100000000000000):cR bN 175 #[x] w λA o=>zeo w o x c A:=by
 obtain⟨rfl,rfl⟩|⟨p,b,e,rfl,f,t⟩:=k;(·(have g:∀a,([]:eD)≠ij a:=λa q=>by have:=cD y q;simp[ij,dh]at this);(go_in);go_wp2;(go_ret2);exact⟨J ⟨z,g⟩,Below.refl _ _⟩);by_cases B:y c<4;(.have u:(y c:Y)-4<0:=U;have g:=ak (show∀a,c≠ij a fromλa q=>by have:=cD y q;simp[ij,dh]at this;omega);(go_in);go_wp2;(go_ret2);exact⟨J ⟨z,g⟩,Below.refl _ _⟩);obtain⟨a,d,rfl,j⟩:∃a d,c=a++d/\y d=4:=⟨c.take<|y c-4,c.drop<|y c-4,ar,by simp;omega⟩;have m:y (a++d)=y a+4:=by simp[j]
 rw[m]at f n|-;have QG:ki d:=λb a=>l b (by simp[a]);have k:Bytes w (bX p b (y a+4) e) (a++d):=bj ⟨p,b,e,by rw[m],m▸f,t⟩;go_call QR (jv d==pt a) p b e a d s j QG (by simp[bne]) f n k as A o⟨rfl,r⟩;refine⟨?_,r⟩;by_cases i:jv d=pt a;refine bj ⟨p,b,e,a,z,f,?_,by simp[i]⟩;have:=LK d QG;rw[j,i]at this;rw[ij,this];refine J ⟨by simp[i],λg q=>i ?_⟩;unfold ij at q;let⟨u,v⟩:=List.append_inj' q (by rw[j,dh]);rw[v,u];exact JO g
def Po(h:S.Good):ki (oz S):=by
 unfold oz;have c:∀s:af,s.size<=255->ki (iM s):=λs d b a=>by unfold iM at a;obtain rfl|a:=dy.1 a;omega;exact ki.XJ s b a
 intro b a;obtain rfl|a:=dy.1 a;unfold qn;split<;>omega;obtain a|a:=aP.1 a;exact c _ (bP h.f) b a;exact c _ (bP h.l) b a
def Pp(h:∀x∈i,x.Good):ki (iG i):=by
 intro b a;unfold iG at a;let⟨x,c,a⟩:=pU.1 a;unfold yI at a;obtain a|a:=aP.1 a;exact ki.le 8 _ b a;exact Po (h x c) b a
def Ac(h:S.Good):y (yI S)<=35:=by
 have:=h.f;have:=h.l;unfold yI oz iM;grind[dh,iw]
def PP(h:∀x∈i,x.Good):y (iG i)<=35*y i:=by
 induction i with
 |nil=>simp[iG]
 |cons x r c=>
  have:=Ac<|h x ar;have:=c (λa b=>h a<|by simp[b]);have e:iG (x::r)=yI x++iG r:=by simp[iG]
  rw[e,ai,bK];omega
structure pS where
 p:R
 D:R
 A:R
 eJ:af
 eP:af
abbrev la:=cy pS
def pS.t(k:pS):ae:=ef #[ay k.p,ay k.D,ay k.A,aw k.eJ,aw k.eP]
def pS.bU(k:pS):iE:=[ay k.p,ay k.D,ay k.A,aw k.eJ,aw k.eP]
structure pS.Of(k:pS)(c:dB):Prop where
 ne:0<y c
 D:k.D=y (iG c)+4
 A:k.A=y c
 eJ:k.eJ=(c[0]'ne).D
 eP:k.eP=(c[y c-1]'U).D
structure pS.Fl(k:pS)(c:dB):Prop where
 ne:0<y c
 eJ:k.eJ=(c[0]'ne).D
 eP:k.eP=(c[y c-1]'U).D
def Cf(w:Z)(b:R)(k:pS):Prop:=w.heap[b]?=M (aK #[ay k.p,ay k.D,ay k.A,aw k.eJ,aw k.eP] 383 (0,0))
def Cf.bU{k:pS}(h:Cf a b k):bA a (X b 0)=M (ay k.p)/\bA a (X b 1)=M (ay k.D)/\bA a (X b 2)=M (ay k.A)/\bA a (X b 3)=M (aw k.eJ)/\bA a (X b 4)=M (aw k.eP):=by
 refine⟨?_,?_,?_,?_,?_⟩<;>rw[cE h]<;>rfl
def Cf.aA{w w':Z}{b:R}{k:pS}{S:fB}(h:Cf w b k)(c:I S w w')(a:¬S b):Cf w' b k:=(c.A b (az h) a).trans h
def AV(x:E)(t:TypeId)(c:b=G (H a)):∀j u,(bu [x])[j]?=M u->bA (dw a<|aK #[aw x.D,aw x.l,aO x.dP,bw x.f] t) (((X b 0):Addr).add j)=M u:=by
 grind[yM]
def Rd.lA{m6:eN}(h:Rd a b m m6)(g:fm a e d w)(j:∀k,cN d=M k->b<k):Rd e b m m6:=by
 let⟨u,f,i,c⟩:=h;refine⟨u,(g.dF.block b (az f) aI).trans f,i.dF g.dF ?_,c⟩;cases hu:cN u with
 |none=>exact bj z
 |some k=>
  grind
structure S5(w0 w:Z)(rb:R)(k:pS)(pre:eD)(c:dB)(r:eD)(o:ae):Prop where
 aZ:fD w (G<|H w0) 223 4 o (y c) (bu c)
 rd:Rd w rb r bD
 eq:pre=iG c++r
 L:ki r
 S:∀x∈c,x.Good
 g:Cf w (G<|H w0) k
 l:gC (G<|H w0) w0 w
 d:G (H w0)<rb
 ne:cN o≠M rb/\cN o≠M (G<|H w0)
 f:∀k,cN o=M k->rb<k
def TbP(w b:Z)(k:pS)(d:eD)(e:Ending):Prop:=∃(a:ae)(ok:eN),e=aN (de #[a,aO ok])/\gC (G<|H w) w b/\(ok=cz->∃c,d=ij (iG c)/\k.Of c/\(∀x∈c,x.Good)/\gF c/\fD b (G<|H w) 223 4 a (y c) (bu c))
def OS{rest:eD}{m6:eN}(a:ki rest)(h:(fY rest m6 8).2.1=bD):m6=bD/\rest=le 8 (dz rest m6 8)++(fY rest m6 8).1:=by
 let⟨b,c,d⟩:=uG h;have:=LK _ (ki.lO (n:=8) (m6:=m6) a).2;rw[d]at this;exact⟨b,by unfold dz;rw[this];exact c⟩
def IC(x:pS)(hT:Steps a)(hb:Bytes a d m)(ba:ki m)(hr:y m<=1000000)(cB:1<=x.A/\x.A<=1000)(hv:∀bd,cN d=M bd->bd<G (H a)):cR bN 347 #[d,x.t] a λbf w'=>TbP a w' x m bf:=by
 let⟨i0,bL,ch,cj,ck⟩:=cZ oO;let⟨pos,l,b,first,e⟩:=x;simp only at cB;unfold pS.t;simp only;have bs:gC (G<|H a) a (dw a<|aK #[ay pos,ay l,ay b,aw first,aw e] 383):=(Below.refl _ a).alloc (aq _) _;have ce:=Bv d m (w:=dw a<|aK #[ay pos,ay l,ay b,aw first,aw e] 383) (hT.aE _) (hb.aE _) ba U;have dT:∀(cm:eN)(a:Z),(Op.unary .not<|aO cm).run bN a=.ok (aO<|!cm) a:=λ_ _=>rfl;let⟨bi,HB,bk⟩:=eU hb bs ba;clear hb hT bs ba;go_in
 go_wp21;go_call ce as bf u⟨hU,aD⟩;have P:Cf u (G<|H a) ⟨pos,l,b,first,e⟩:=(aD.block _ ar).trans<|aQ _ z;let⟨k0,k1,k2,k3,k4⟩:=P.bU;simp only at k0 k1 k2 k3 k4;have B:gC (G<|H a) a u:=HB.trans<|aD.mono ar;have dx:=az P;have L:=ak P;have o:=ak B;clear aD P B ce;obtain⟨rfl,_⟩|⟨bd,r,ax,c,rfl,ei,C,rfl⟩:=hU;(.go_wp2;(go_ret2);exact⟨aF,bD,z,o,ar⟩);by_cases cd:y c+4=l;rotate_left;(·(have f:(((y c:Y)+4)!=(l:Y))=cz:=by simp;omega);go_wp2;(go_ret2);exact⟨aF,bD,z,o,ar⟩);subst cd;have cx:bd<G (H a):=hv bd z;have an:Bytes a (bX bd r (y c) ax) c:=by(have f:Bytes a (bX bd r (y<|ij c) ax) (ij c):=by have:=ag bi;rw[C]at this;rw[show y (ij c)=y c+4 by unfold ij;rw[ai,dh]];exact this);have:=f.ot (n:=y c) (by simp[ij]);unfold ij at this;rwa[rL]at this
 have cb:ki c:=λcm hx=>bk cm (by rw[C];unfold ij;simp[hx]);have db:y c<=1000000:=by rw[C]at hr;unfold ij at hr;rw[ai]at hr;omega
 have ca:=oM (an.dD o (by intro x w;cases w;exact cx)) (by intro x w;cases w;show bd<_;have:=o.size;omega);have bm:=ak cb;have bh:=ak C;clear an cb C bi bk hr;have eb:(((y c:Y)+4)!=((y c:Y)+4))=bD:=ar
 go_wp2_with(first
  |(go_at_call 176;refine ca.mono ?_;rintro bf w2⟨rfl,ao,dr⟩;subst dr;have bn:=ak ao;clear ao)
  |(at_make;refine ke _ z _ _ 103 z (G (H a)) 223 i0 yt 4 underlying103 bL ch cj _ _ _ b z z U (by rw[ck];omega) (by unfold maxLen;omega) dW ?_;intro w3 ad D;have p:I aC u w3:=(cI aC u).t (I.eF (S:=aC) D ar);have bv:=L.aA p (λi=>i);let⟨m0,m1,m2,m3,m4⟩:=bv.bU;simp only at m0 m1 m2 m3 m4;have bo:=ak p;clear bv p;have A:=ak ad;have V:=ak D;clear ad D))
 have aV:=ag V;have ds:=aV.size;simp at ds;have dk:G (H<|dw u<|aK #[bX bd r (y c) ax,aO bD] 380)=G (H u)+1:=ar;have p:=ag bo;have hA0:S5 a w3 (G<|H u) ⟨pos,y c+4,b,first,e⟩ c [] c (bX (G (H u)+1) 0 0 b):=by have al:=ag A;rw[dk]at al;refine⟨al,bn.ni aV,z,bm,ar,L.aA p<|λi=>i,o.trans<|(p.dD (aq _) cY).mono o.size,U,⟨?_,?_⟩,?_⟩;simp[cN];have:=az L;simp[cN];omega;intro x w;simp[cN]at w;omega
 have bg:=ak hA0;clear hA0 aV p;go_loopw [9,35] (λo ec wr=>∃(i:dB)(bc:eD),y i<=b/\ec=ay (y i)/\S5 a wr (G<|H u) ⟨pos,y c+4,b,first,e⟩ c i bc o) (λ_ ec _=>b-(intOf ec).toNat)
 exact⟨[],c,bQ _,z,bg⟩;(.obtain⟨i,bc,ej,rfl,g⟩:=hrel;let⟨Q,K,ho⟩:=aM g.aZ;have cd:=g.l.size;have ab:=g.g.bU;simp only at ab;let⟨q0,q1,q2,q3,q4⟩:=ab;have ea:=g.rd.lt;(have el:y bc<=1000000:=by have:=g.eq;rw[this,ai]at db;omega);have T:=ak g;by_cases cT:y i<b;(.have i1:=ki.lO (n:=8) (m6:=bD) g.L;have l1:=jd bc bD 8;have b1:=λq=>OS (rest:=bc) (m6:=bD) g.L q;have n1:=jU (n:=8) (m6:=bD) g.L;have k:=Hf g.rd g.L U;clear g;generalize dz bc bD 8=bt at*;generalize fY bc bD 8=en at*;let⟨A1,A2,A3⟩:=en;simp only at*;have t:=λW(a:Rd W (G<|H u) A1 A2)=>Jj (G<|H u) a i1.1 U;subst ho;go_wp21;go_call k as bf w4⟨rfl,bE,bq⟩;have dn:=t w4 bE;have cl:=ak bq;clear bq bE t k;go_wp21;go_call dn as bf v⟨cm,ok,r2,s2,rfl,bT,br,eg,cM,bx,_⟩;let⟨xk,xv,xd,xb⟩:=cm;unfold E.t;simp only;have j:I (λx=>x=G (H u)) wr v:=(gH cl).aj (gH cM)<|λ_=>J;have bp:gC (G<|H a) a v:=T.l.trans<|j.dD T.l.size<|zY T.d;have bb:=ak bp;have av:=ak j;clear j bp;cases ok;(.go_wp2;(go_ret2);exact⟨aF,bD,z,bb.alloc bb.size _,ar⟩);obtain⟨rfl,rfl,hg,ed,N⟩:=bx rfl;have s:=bC (bC ((ag av).aZ T.aZ<|λx w i=>T.ne.1 (by rw[<-i];exact w))<|.cells #[.string xk,.string xv,.bool xd,.int .u64 bt] 223)<|.cells #[.string xk,.string xv,.bool xd,.int .u64 bt] 223;have em:=(ag av).D;let⟨bl,cu,co,cn,aU,cs,cp⟩:=zX s bT br hg b1 N n1;clear s bT br hg b1 N bx i1 n1;(go_wp2_with(at_builtin;refine cq _ z (.tmp 48) (.tmp 50) 103 z (G<|H a) 223 i0 yt 4 48 underlying103 bL ch cj ck z cg (.slice Q (y i) K) (y i) (bu i) z bl (X (G (H v)+1) 0) 1 1 (bu [⟨xk,xv,xd,bt⟩]) z z (AV ⟨xk,xv,xd,bt⟩ _ ar) (DS _) U U dW ?_;intro o2 w6 f ac;have cr:=ak f;have cv:=ak ac;clear f ac));go_roundw;(.have g:=ag T;have j:=ag av;have O:=ag cv;have f:=ag cr;have ek:=g.aZ.lt;have F:=ag cn;let⟨_,dd⟩:=ag aU rfl;refine⟨i++[⟨xk,xv,xd,bt⟩],r2,by rw[ai];exact cT,by rw[ai];go_num,?_⟩;have cc:I (λx=>cN (am Q (y i) K)=M x) v w6:=(((I.bI (λx=>cN (am Q (y i) K)=M x) v).aE _).aE _).aj (I.eF (S:=λx=>cN (am Q (y i) K)=M x) O.dF<|λ_=>J)<|λ_=>J;(have aa:∀x,x<G (H v)->cN (am Q (y i) K)≠M x->cN o2≠M x:=by intro x w hn bf;obtain dv|⟨ap,dv,hg⟩:=O.f;(grind);rw[dv]at bf;cases bf;simp at hg;omega);refine⟨?_,?_,?_,co,?_,?_,?_,g.d,⟨aa _ U g.ne.1,aa _ U g.ne.2⟩,?_⟩;rw[ai,ie];exact f;have hr:=ag cu;have N:=hr.ni<|eR v (aK #[aw xk,aw xv,aO xd,bw bt] 223) dE;have dc:=N.ni<|eR _ (aK #[aw xk,aw xv,aO xd,bw bt] 223) dE;exact dc.lA O g.f;rw[g.eq,dd,ag cs];simp[iG,yI,oz];intro cm hx;obtain q|q:=aP.1 hx;exact g.S cm q;obtain rfl:=bY.1 q;have:=ag cp;exact⟨F.L,F.f,F.l,F.dP,this.1,by simp at this;show bt<_;omega⟩;exact(g.g.aA j U).aA cc<|λi=>g.ne.2 i;refine(g.l.trans<|j.dD g.l.size aI).trans<|cc.dD U aI;intro x w;obtain dv|⟨ap,dv,hg⟩:=O.f;exact g.f x<|dv.symm.trans w;rw[dv]at w;cases w;simp at hg;omega);simp[intOf];omega);(.obtain rfl:y i=b:=U;(have bt:∀W,W.heap=wr.heap->cR bN 180 #[aJ<|G<|H u] W λbf w'=>bf=aN (aO bc.isEmpty)/\w'=W:=by intro W hW;have:=Ae (g.rd.df hW) U;simpa using this);(have hE:lF wr (am Q (y i) K) i:=by have t:=dQ g.aZ;rwa[ho]at t);(have bb:∀bd,cN (am Q (y i) K)=M bd->bd<G (H wr):=λbd hb=>by rw[<-ho]at hb;exact(g.aZ.lt bd hb).2);(have cc:∀W,W.heap=wr.heap->cR bN 333 #[am Q (y i) K] W λbf w'=>bf=aN (aO<|BA i)/\gC (G<|H W) W w':=by intro W hW;refine Rg (am Q (y i) K) W ?_ U (by rw[hW];exact bb);obtain⟨t,⟨h2,h0⟩|⟨ap,cl,bl,h2,bT,co⟩⟩:=hE;(grind);exact⟨t,bj ⟨ap,cl,bl,h2,bT,λj u b=>(dZ (w:=wr)<|by rw[hW]).trans<|co j u b⟩⟩);obtain⟨cn,⟨bp,cs⟩|⟨ap,f,cp,bp,bE,aU⟩⟩:=hE;omega;have f0:bA wr (X ap<|f+0*4)=M (aw (i[0]'U).D):=aU _ _ (fH i 0 U).1;have fL:bA wr (X ap<|f+(y i-1)*4)=M (aw (i[y i-1]'U).D):=aU _ _ (fH i (y i-1) U).1;cases bp;(have ac:∀W,gC (G<|H wr) wr W->gC (G<|H a) a W/\(bc=[]->BA i=cz->(i[0]'U).D=first->(i[y i-1]'U).D=e->∃b,m=ij (iG b)/\pS.Of ⟨pos,y c+4,y i,first,e⟩ b/\(∀cm∈b,cm.Good)/\gF b/\fD W (G<|H a) 223 4 (bX ap f (y i) K) (y b) (bu b)):=by intro W hW;refine⟨g.l.trans<|hW.mono g.l.size,λz1 z2 z3 z4=>⟨i,?_,⟨U,?_,z,z3.symm,z4.symm⟩,g.S,XU z2,?_⟩⟩;rw[ag bh,g.eq,z1,eu];rw[g.eq,z1,eu];have t:=g.aZ;rw[ho]at t;exact(I.p (S:=aC) hW).aZ t<|λ_ _ i=>i);have s:=ak ac;have bx:=bb ap z;have aa:G (H a)<G (H wr):=az T.g;subst ho;clear g cn bE aU ac bb;rw[xW,ma]at f0;generalize(i[0]'U).D=ka at*;generalize(i[y i-1]'U).D=kb at*;let⟨O,hp⟩:∃O,y i-1=O:=⟨_,rfl⟩;have e1:(y i:Y)-1=(O:Y):=U;have e2:(O:Y)<(y i:Y):=U;have e0:(0:Y)<(y i:Y):=U;have e00:0<y i:=U;have e3:(0:Y)<=(O:Y):=U;have e4:O<y i:=U;have e5:¬((y i:Y)<(y i:Y)):=U;have e6:O<=1000:=U;(have e9:IntKind.i64.wrap (O:Y)=(O:Y):=by rw[bR];omega);(have cr:wrap64 (O:Y)=(O:Y):=by unfold wrap64;omega);rw[hp]at fL;clear hp L o bn A V bo bg T bm bh HB ca;(have hD:bc.isEmpty=bD\/(bc.isEmpty=cz/\BA i=bD)\/(bc.isEmpty=cz/\BA i=cz/\(ka.toList==first.toList)=bD)\/(bc.isEmpty=cz/\BA i=cz/\(ka.toList==first.toList)=cz/\(kb.toList==e.toList)=bD)\/(bc.isEmpty=cz/\BA i=cz/\(ka.toList==first.toList)=cz/\(kb.toList==e.toList)=cz):=by cases bc.isEmpty<;>cases BA i<;>cases(ka.toList==first.toList)<;>cases(kb.toList==e.toList)<;>simp);have F:bA wr.drew (X ap f)=M (aw ka)/\bA wr.drew (X ap<|f+O*4)=M (aw kb)/\bA wr.drew (X (G<|H a) 3)=M (aw first)/\bA wr.drew (X (G<|H a) 4)=M (aw e):=⟨f0,fL,q3,q4⟩;obtain t|⟨t,h2⟩|⟨t,h2,h3⟩|⟨t,h2,h3,h4⟩|⟨t,h2,h3,h4⟩:=hD;(all_goals rw[t]at bt);(all_goals first|rw[h2]at cc|skip);(all_goals go_wp21;rename_i QQ KK N;refine zp (λj4=>bA j4 (X ap f)=M (aw ka)/\bA j4 (X ap<|f+O*4)=M (aw kb)/\bA j4 (X (G<|H a) 3)=M (aw first)/\bA j4 (X (G<|H a) 4)=M (aw e)) z ?_;(iterate 1 (refine qh F ?_;simp only[ig,eh,fT,jZ]));refine Cm (i:=1) z z aH ?_;intro K1 bq;go_simp;go_call bt wr.drew rfl as bf w4⟨rfl,rfl⟩;refine bq _ _ F ?_;clear bq;simp only[ig,eh,fT,jZ];iterate 1 (refine qh F ?_;simp only[ig,eh,fT,jZ]));(·(iterate 2 (refine Br F z aH wO aH ?_;simp only[ig,eh,fT,jZ]));(iterate 2 (refine qh F ?_;simp only[ig,eh,fT,jZ]));(iterate 7 (refine Br F z aH wO aH ?_;simp only[ig,eh,fT,jZ]));(iterate 2 (refine qh F ?_;simp only[ig,eh,fT,jZ]));(iterate 10 (refine Br F z aH wO aH ?_;simp only[ig,eh,fT,jZ]));(iterate 2 (refine qh F ?_;simp only[ig,eh,fT,jZ]));refine zt aH ?_ _;show KK _ _;apply N;go_wp2;(go_ret2);exact⟨_,bD,z,(ag s _<|below_drewN (Below.refl _ _) _).1,ar⟩);(all_goals(iterate 1 (refine qh F ?_;simp only[ig,eh,fT,jZ]));refine Cm (i:=4) z aH aH ?_;intro K4 br;go_simp;go_call cc wr.drew rfl as bf v⟨rfl,k⟩;have j:bA v (X ap f)=M (aw ka)/\bA v (X ap<|f+O*4)=M (aw kb)/\bA v (X (G<|H a) 3)=M (aw first)/\bA v (X (G<|H a) 4)=M (aw e):=⟨(k.cell (p:=(X ap f)) bx).trans f0,(k.cell (p:=(X ap<|f+O*4)) bx).trans fL,(k.cell (p:=(X (G<|H a) 3)) aa).trans q3,(k.cell (p:=(X (G<|H a) 4)) aa).trans q4⟩;have av:=ak<|show gC (G<|H wr) wr v from⟨k.os,k.tape,k.output,k.size,k.block⟩;clear k;refine br _ _ j ?_;clear br;simp only[ig,eh,fT,jZ];iterate 2 (refine qh j ?_;simp only[ig,eh,fT,jZ]));(·(iterate 7 (refine Br j z aH wO aH ?_;simp only[ig,eh,fT,jZ]));(iterate 2 (refine qh j ?_;simp only[ig,eh,fT,jZ]));(iterate 10 (refine Br j z aH wO aH ?_;simp only[ig,eh,fT,jZ]));(iterate 2 (refine qh j ?_;simp only[ig,eh,fT,jZ]));refine zt aH ?_ _;show KK _ _;apply N;go_wp2;(go_ret2);exact⟨_,bD,z,(ag s _<|ag av).1,ar⟩);(all_goals iterate 9 (refine qh j ?_;(try simp only[ig,eh,fT,jZ])));(·(iterate 10 (refine Br j z aH wO aH ?_;(try simp only[ig,eh,fT,jZ])));(iterate 2 (refine qh j ?_;(try simp only[ig,eh,fT,jZ])));refine zt aH ?_ _;show KK _ _;apply N;go_wp2;(go_ret2);exact⟨_,bD,z,(ag s _<|ag av).1,ar⟩);(all_goals(iterate 12 (refine qh j ?_;(try simp only[ig,eh,fT,jZ])));refine zt aH ?_ _;show KK _ _;apply N;go_wp2;(go_ret2);have hf:=ag s _<|ag av);exact⟨_,bD,z,hf.1,ar⟩;exact⟨_,cz,z,hf.1,λ_=>hf.2 (dV t) h2 (An<|dV h3)<|An<|dV h4⟩))
variable{L:la}
def fK(l:la):iE:=l.flatMap pS.bU
theorem El(l:la):y (fK l)=y l*5:=by
 induction l with
 |nil=>rfl
 |cons e r a=>unfold fK at*;rw[dR,ai,a];simp[pS.bU];omega
def jt(l:la)(n j:R)(h:n<y l)(b:j<5):(fK l)[n*5+j]?=(pS.bU l[n])[j]?:=by
 have:fK l=fK (l.take n)++(pS.bU l[n]++fK (l.drop<|n+1)):=by(have a:l=l.take n++l[n]::l.drop (n+1):=by rw[<-dm h,du]);(conv=>lhs;rw[a]);simp only[fK,gR,dR]
 grind[El,getElem?_append_right,getElem?_append_left]
structure mQ(w:Z)(tb:R)(dv:ae)(number cut isize sum:Y)(bb boff vV:R)(dav:ae)(ks:la):Prop where
 g:w.heap[tb]?=M (aK #[dv,bw number,eI cut,eI isize,eI sum,bX bb boff (y ks) vV,dav] 323 (0,0))
 bU:∀j u,(fK ks)[j]?=M u->bA w (X bb<|boff+j)=M u
 ne:0<y ks
 le:y ks<=vV
 f:y ks<=1000000000
def Wn{g f i:Y}(h:mQ a b d r g f i c k n w L):cR bN 184 #[aJ b] a λl j=>l=aN (aw (L[0]'h.ne).eJ)/\j=a:=by
 have:=aX h.g 5;have e:=h.ne;have:bA a (X c<|k+3)=M (aw (L[0]'e).eJ):=h.bU _ _<|jt L 0 3 e cg;have:(0:Y)<(y L:Y):=U;generalize(L[0]'e).eJ=s at*;clear h;go_in
 go_wp2;go_ret;simp_all
def Ze{f e g:Y}(h:mQ a b d r f e g c k n w L):cR bN 183 #[aJ b] a λl j=>l=aN (aw (L[y L-1]'(bP h.ne)).eP)/\∃q,j=a.drewN q:=by
 have:=aX h.g 5;have:=h.ne;have:=h.f;let⟨p,i⟩:∃p,y L-1=p:=⟨_,rfl⟩;have:bA a (X c<|k+p*5+4)=M (aw (L[y L-1]'U).eP):=by subst i;rw[bJ];exact h.bU _ _<|jt L (y L-1) 4 U cg
 have:(y L:Y)-1=(p:Y):=U;have:(p:Y)<(y L:Y):=U;have:(0:Y)<=(p:Y):=U;have:p<y L:=U;generalize(L[y L-1]'U).eP=s at*;clear h i;go_in
 go_wp2;go_quiet(fail)
 go_wp2;go_ret;exact⟨z,nq,z⟩
def RX(l:R){bk:R}{g e j:Y}(f:af)(h:mQ a b d r g e j c k n w L)(o:fE a l (aJ b) 235)(m:fE a bk (aw f) 9)(i:R)(p:i<y L):cR bN 345 #[ay i,aJ l,aJ bk] a λt s=>t=aN (aO<|!kG L[i].eP f)/\∃q,s=a.drewN q:=by
 have:=aX h.g 5;have:bA a (X c<|k+i*5+4)=M (aw L[i].eP):=by rw[bJ];exact h.bU _ _<|jt L i 4 p cg
 have:=o.u;have:=m.u;have:=Ma;have:(i:Y)<(y L:Y):=U;have:(0:Y)<=(i:Y):=U;unfold kG;generalize L[i].eP=u at*;clear h o m;go_in
 go_wp2;go_quiet(fail)
 go_wp2;go_ret;exact⟨z,nq,z⟩
def mQ.dD{g f i:Y}{B:R}(h:mQ a b d r g f i c k n w L)(j:gC B a e)(m:b<B)(o:c<B):mQ e b d r g f i c k n w L:=⟨(j.block b m).trans h.g,λs u q=>(j.cell (p:=(X c<|k+s)) o).trans<|h.bU s u q,h.ne,h.le,h.f⟩
def mQ.lt{w:Z}{i g m:Y}{e a:R}{j:ae}(h:mQ w c d r i g m n e a j L):c<G (H w)/\n<G (H w):=⟨az h.g,cA w (X n<|e+(0*5+0))<|h.bU _ _<|jt L 0 0 h.ne cg⟩
def Cz{p l C:Y}(e:af)(h:mQ a b d r p l C c k n w L)(hs:L.Pairwise (λT ac=>kG T.eP ac.eP=cz)):cR bN 341 #[aJ b,aw e] a λV w'=>∃D:R,V=aN (ay D)/\D<=y L/\(∀i(f:i<y L),i<D->kG L[i].eP e=cz)/\(∀i(f:i<y L),D<=i->kG L[i].eP e=bD)/\gC (G<|H a) a w':=by
 have m:=h.lt;have u:gC (G<|H a) a (dw (dw a<|aK #[aJ b] 235)<|aK #[aw e] 9):=((Below.refl _ a).alloc (aq _) _).alloc ar _;have o:=h.dD u m.1 m.2;have:=aX o.g 5
 have B:=BC #[aJ<|G<|H a,aJ<|G (H a)+1] (y L) (λi=>if f:i<y L then !kG L[i].eP e else cz) (dw (dw a<|aK #[aJ b] 235)<|aK #[aw e] 9) (enters_of func345 aH z) (bP h.f) (by
  intro T ac aa A W;have t:T<y L:=U;simp only[A,t,Ax]at W|-;grind[Nat.lt_or_eq_of_le,pairwise_iff_getElem,my])
  (by
   intro i f ab g;have s:=o.dD g dW dW;have v:fE ab (G (H a)) (aJ b) 235:=(g.block _ dW).trans (fE.aE (aQ _ z) _);have x:fE ab (G (H a)+1) (aw e) 9:=(g.block _ ar).trans (aQ _ ar);go_call RX (G (H a)) e s v x i f as V W'⟨rfl,q,rfl⟩;simp only[f,Ax];exact⟨trivial,below_drewN (Below.refl _ _) _⟩)
 have:=o.lt.1;clear o h hs;go_in
 go_wp2_with(go_at_call 247;refine B.mono ?_;rintro V w1⟨D,rfl,E,F,K,N⟩;have O:=ak E;have P:=ak F;have Q:=ak K;have S:=ak N;clear E F K N)
 go_ret;refine⟨D,z,O,λi f j=>?_,λi f j=>?_,u.trans<|S.mono u.size⟩;have:=P i j;grind
 have:=Q i j f;grind
structure nX(V:ju)(n0 tb:R)(ks:la)(cs:iF)(w:Z):Prop where
 D:∃dv number cut isize sum bb boff vV dav,mQ w tb dv number cut isize sum bb boff vV dav ks/\(tb<n0/\¬V.F tb)/\(bb<n0/\¬V.F bb)
 dL:y ks=y cs
 l:∀i(hi:i<y ks)(hc:i<y cs),ks[i].Fl cs[i]
 S:∀c∈cs,∀x∈c,x.Good
 o:gF cs.flatten
 L:cs.Pairwise lI
 f:∀c∈cs,y c<=1000
 t:∀i(hi:i<y ks)(hc:i<y cs)W,kZ V n0 aC w W->V.D W->cR bN 342 #[aJ tb,ay i] W λe W'=>(∃v',e=aN (de #[v',ib])/\fD W' (G<|H W) 223 4 v' (y cs[i]) (bu cs[i])/\V.D W'/\I V.F W W')\/Es V W W' V.F e (λv=>de #[aF,v])
def mQ.bM{V:ju}{n0:R}{S:fB}{g f i:Y}(h:mQ a b d r g f i c k n w L)(j:kZ V n0 S a e)(l:b<n0/\¬V.F b)(m:c<n0/\¬V.F c):mQ e b d r g f i c k n w L:=⟨(j.2 b<|J l).trans h.g,λp u o=>j.u (bj m)<|h.bU p u o,h.ne,h.le,h.f⟩
def Steps.bM{V:ju}{n0:R}{S:fB}(h:Steps a)(d:kZ V n0 S a e)(b:1<n0/\¬V.F 1):Steps e:=λk c=>d.u (bj b)<|h k c
def nX.bM{V:ju}{n0 n:R}(h:nX V n0 n L O a)(m:kZ V n0 aC a e):nX V n0 n L O e:=by
 let⟨p,c,g,d,j,o,f,b,i,u,k,l⟩:=h.D;exact⟨⟨p,c,g,d,j,o,f,b,i,u.bM m k l,k,l⟩,h.dL,h.l,h.S,h.o,h.L,h.f,λv t s W r q=>h.t v t s W (m.aj r) q⟩
def Oi(h:nX s b c L O a)(f:s.D a)(_:b<=G (H a))(_:∀l,s.F l->l<b)(i:R)(j:i<y L)(g:i<y O):cR bN 342 #[aJ c,ay i] a λk d=>(∃e,k=aN (de #[e,ib])/\fD d (G<|H a) 223 4 e (y O[i]) (bu O[i])/\s.D d/\I s.F a d)\/Es s a d s.F k (λv=>de #[aF,v]):=h.t i j g a (kZ.bI s b aC a) f
def nX.A(h:nX s b c L O a):L.Pairwise (λn o=>kG n.eP o.eP=cz):=by
 refine cW.2<|λl m j k f=>?_;have d:l<y O:=bP h.dL;have e:m<y O:=bP h.dL;have g:=h.l l j d;have i:=h.l m k e;rw[g.eP,i.eP];have:=cW.1 h.L l m d e f;have p:=g.ne;have q:=i.ne;exact this _ ar _ ar
def nX.Ea(h:nX s b c L O a)(e:af)(k:R)(p:∀j(r:j<y L),j<k->kG L[j].eP e=cz):((O.drop k).map<|iX e).flatten=iX e O.flatten:=by
 have m:O.flatten=(O.take k).flatten++(O.drop k).flatten:=by rw[<-lV,du]
 have:iX e (O.take k).flatten=[]:=by unfold iX;rw[oo];intro x t;let⟨v,q,i⟩:=dO.1 t;obtain⟨j,r,rfl⟩:=dJ q;rw[oX]at i;have d:j<k/\j<y O:=aI;have f:j<y L:=bP h.dL;have u:=h.l j f d.2;have g:gF O[j]:=h.o.kD<|eC<|aB d.2;have l:=p j f d.1;rw[u.eP]at l;have o:=g.FJ u.ne i;rw[DW o l];simp
 have n:∀l:iF,(l.map<|iX e).flatten=iX e l.flatten:=by
  intro l;induction l with
  |nil=>rfl
  |cons f g d=>simp only[bO,di,d];unfold iX;rw[mA]
 rw[n,m];grind
theorem IE(bt:R)(i:R)(B:af)(h:nX s b c L O a)(ht:fE a bt (aJ c) 235)(hg:fE a k (ay i) 3)(Q:fE a n (aw B) 9)(hn:b<=n)(hD:s.D a)(ac:b<=G (H a))(hF:∀i,s.F i->i<b)(x:R)(hi:i+x<y L)(hc:i+x<y O):cR bN 344 #[ay x,aJ bt,aJ k,aJ n] a λad S=>(∃v' S',ad=aN (de #[v',ib])/\kw s b v' (iX B O[i+x]) S' S/\s.D S/\I s.F a S/\(∀i,S' i->G (H a)<=i))\/∃aU,Es s a S s.F ad (λax=>de #[aU,ax]):=by
 have:=ht.u;have:=hg.u;have c3:=Q.u;have N:=Oi h hD ac hF (i+x) hi hc;have f:=aB hc;have r:gF O[i+x]:=h.o.kD<|eC f;have ab:=h.f _ f;have p:i+x<1000000000:=by grind[nX.D,mQ.f]
 have F:=az Q;have K:¬s.F n:=aI;let⟨HL,HS,D,V⟩:=jr Q r (show∀ao∈O[i+x],ao.f<18446744073709551616 fromλao hx=>(h.S _ f ao hx).b1) hF;clear ht hg Q h hD f hF r hi;have P:IntKind.i64.wrap ((i:Y)+(x:Y))=((i+x:R):Y):=by rw[bR];omega
 have t:wrap64 ((i:Y)+(x:Y))=((i+x:R):Y):=by unfold wrap64;omega
 let⟨an,hm⟩:∃an,i+x=an:=⟨_,rfl⟩;simp only[hm]at N ab HS D P t p|-;have:(i:Y)+(x:Y)=(an:Y):=U;generalize O[an]=aD at*;clear hm P t;go_in
 go_wp21;go_call N as ad C(⟨v1,rfl,d,u,e⟩|⟨hX,q,rfl,hq,u,e⟩);(.have ap:bA C (X n 0)=M (aw B):=e.u c3 K F;have E:lF C v1 aD:=dQ d;have w:=d.lt;have al:=e.D;have v:=Hq s b B E HS D U (λi A=>⟨λa=>gV (V i a)<|(w i A).1,(w i A).2⟩) U V;clear d E;(go_wp2_with(go_at_call 332;refine v.mono ?_;rintro ad w2⟨v2,S2,rfl,o,m,j⟩;have W:=ak o;have T:=ak m;have aa:=ak j;clear o m j));(go_ret2);have g:I aC C w2:=I.p T;refine J ⟨v2,S2,z,W,s.l u g cY,e.t g,λk' A=>?_⟩;obtain av|av:=aa k' A;exact(w k' av.1).1;omega);have:bA C (X n 0)=M (aw B):=e.u c3 K F;have:=e.D;have v:=Hq s b B (v:=aF) (l:=[]) (w:=C) ⟨z,J ⟨z,z⟩⟩ .kj (λao hx=>by cases hx) ar (λi A=>by cases A) U V;go_wp21;go_call v as ad w2⟨v2,S2,rfl,o,m,j⟩;clear o j;go_wp2;(go_ret2);have g:I aC C w2:=I.p m;exact bj ⟨v2,hX,q,z,hq.aA g cY,s.l u g cY,e.t g⟩
def XO(V:ju)(a r g d e k:R)(s:la)(h:iF)(t:af)(p:y s=y h):Bl V a ((h.drop k).map<|iX t)where
 f:=344
 cb:=#[aJ g,aJ d,aJ e]
 A:=λW=>nX V a r s h W/\(fE W g (aJ r) 235/\fE W d (ay k) 3/\fE W e (aw t) 9)/\(a<=g/\a<=d/\a<=e)/\a<=G (H W)/\∀k,V.F k->k<a
 S:=λx=>x=g\/x=d\/x=e
 o:=enters_of func344 aH z
 ug:=by
  rintro w v x⟨n,⟨i,j,m⟩,q,c,hF⟩u;have b:k+w<y h:=aI;rw[mu,rN];grind[IE]
 l:=by
  rintro W u⟨n,⟨i,j,m⟩,q,c,hF⟩b;exact⟨n.bM<|b.aT cY,⟨i.bM b<|J z,j.bM b<|bj<|J z,m.bM b<|bj<|bj z⟩,q,aR c b.1,hF⟩
 lt:=by
  grind
def EB{n0 j8:R}{ks:la}{cs:iF}(f:af)(h:nX s n0 j8 ks cs a)(hD:s.D a)(u:n0<=G (H a))(hF:∀k,s.F k->k<n0):cR bN 340 #[aJ j8,aw f] a λac i=>∃w r,ac=aN w/\kw s n0 w (iX f cs.flatten) r i/\s.D i/\I s.F a i/\(∀k,r k->G (H a)<=k):=by
 have j:gC (G<|H a) a (dw (dw a<|aK #[aJ j8] 235)<|aK #[aw f] 9):=((Below.refl _ a).alloc (aq _) _).alloc ar _;let⟨dv,E,al,aa,aV,K,g,d,an,C,ax,ao⟩:=h.D;have e:=C.lt;have Q:=Cz f (C.dD j e.1 e.2) h.A;have q:=h.dL;have av:=C.f
 have HX:=ak (show∀(c:Z)(k:R),gC (G<|H<|dw (dw a<|aK #[aJ j8] 235)<|aK #[aw f] 9) (dw (dw a<|aK #[aJ j8] 235)<|aK #[aw f] 9) c->k<=y ks->(∀d(e:d<y ks),d<k->kG ks[d].eP f=cz)->∀W,W.heap=(dw c<|aK #[ay k] 3).heap->I aC (dw c<|aK #[ay k] 3) W->cR bN 338 #[ay ((y ks-k:R):Y),.func (.func 344) #[] #[aJ<|G<|H a,aJ<|G<|H c,aJ<|G (H a)+1]] W λac i=>∃w r,ac=aN w/\kw s n0 w (iX f cs.flatten) r i/\s.D i/\I s.F a i/\(∀k,r k->G (H a)<=k)/\gC (G<|H W) W i from by
  intro c k b hk P W t N;have v:=b.size;simp at v;have m:I aC a W:=(((I.p (S:=aC) j).t<|I.p (S:=aC) b).aE _).t N;have T:fE c (G<|H a) (aJ j8) 235:=(b.block _ dW).trans<|fE.aE (aQ _ z) _;have V:fE c (G (H a)+1) (aw f) 9:=(b.block _ ar).trans<|aQ _ ar;have y1:fE W (G<|H a) (aJ j8) 235:=by rw[fE,t];exact T.aE _
  have y2:fE W (G (H a)+1) (aw f) 9:=by rw[fE,t];exact V.aE _
  have y3:fE W (G<|H c) (ay k) 3:=by rw[fE,t];exact aQ _ z
  have L:nX s n0 j8 ks cs W:=h.bM<|m.bM u cY cY;have A:=Ko (XO s n0 j8 (G<|H a) (G<|H c) (G (H a)+1) k ks cs f q) W ⟨L,⟨y1,y3,y2⟩,⟨u,U,U⟩,aR u m.D,hF⟩ aI hF dW;have hl:y ((cs.drop k).map<|iX f)=y ks-k:=by simp;omega
  rw[hl]at A;go_call A as ac i⟨w,r,rfl,hg,hb,hS⟩;rw[h.Ea f k P]at hg;have D:I aC W i:=I.p hb;have n:=m.t D;refine⟨w,r,z,hg,s.l hD n cY,n.aT cY,λba hx=>?_,hb⟩;have aU:=m.D;obtain(ad|ad|ad)|ad:=hS ba hx
  .omega
  .omega
  .omega
  .omega)
 have l:∀W,gC (G<|H a) a W->bA W (X j8 5)=M (bX K g (y ks) d):=λW b=>by rw[cE (C.dD b e.1 e.2).g];rfl
 have F:=ak l;have HB:=ak j;have aD:=e.1;clear h C hD hF l j e q;go_in
 go_wp2_with(go_at_call 341;refine Q.mono ?_;rintro ac c⟨k,rfl,hk,B,O,b⟩;have o:gC (G<|H a) a c:=HB.trans<|b.mono HB.size;have l:=F c o;have v:=b.size;have x1:bA c (X (G<|H a) 0)=M (aJ j8):=fE.u<|(b.block _ dW).trans<|fE.aE (aQ _ z) _;have x:=ak<|HX c k b hk B;clear B O b o)
 simp at v;have q1:G (H a)<G (H c):=U;have q2:j8<G (H c):=U;let⟨ab,hd⟩:∃ab,y ks-k=ab:=⟨_,rfl⟩;rw[hd]at x;have q3:(y ks:Y)-(k:Y)=(ab:Y):=U;have q4:ab<=1000000000:=U;have q6:IntKind.i64.wrap (ab:Y)=(ab:Y):=by rw[bR];omega
 clear hd
 go_region_held3(λb=>bA b (X (G<|H a) 0)=M (aJ j8)/\bA b (X j8 5)=M (bX K g (y ks) d)/\bA b (X (G<|H c) 0)=M (ay k)) (first|assumption|go_keep) (first
  |(go_at_call 338;refine(x ((dw c (.cells #[.int .i64 k] 3)).drew) z ⟨z,z,z,aq _,λ_ _ _=>rfl⟩).mono ?_;rintro ac w2⟨v2,S2,rfl,r1,r2,r3,r4,r5⟩;have R1:=ak r1;have R2:=ak r2;have R3:=ak r3;have R4:=ak r4;have ap:bA w2 (X (G (H a)) 0)=M (aJ j8)/\bA w2 (X j8 5)=M (bX K g (y ks) d)/\bA w2 (X (G (H c)) 0)=M (.int .i64 k):=⟨(r5.cell (p:=(X (G (H a)) 0)) dW).trans (by rw[cL,rG _ _ _ q1];exact x1),(r5.cell (p:=(X j8 5)) dW).trans (by rw[cL,rG _ _ _ q2];exact l),(r5.cell (p:=(X (G (H c)) 0)) ar).trans ar⟩))
 go_wp2;go_ret;exact⟨v2,S2,z,R1,R2,R3,R4⟩
structure Cc(ks:la)(key:af)(k:R):Prop where
 le:k<=y ks
 da:∀i(hi:i<y ks),i<k->kG ks[i].eP key=cz
 xQ:∀i(hi:i<y ks),k<=i->kG ks[i].eP key=bD
def UQ(h:L.Pairwise (λl f=>kG l.eP f.eP=cz))(d:af):∃k,Cc L d k:=by
 induction L with
 |nil=>exact⟨0,aq _,λi a=>by simp at a,λi a=>by simp at a⟩
 |cons f r j=>
  let⟨m,g⟩:=dp.1 h;cases c:kG f.eP d with
  |true=>
   let⟨k,e⟩:=j g;refine⟨k+1,by have:=e.le;simp;omega,λi a b=>?_,λi a b=>?_⟩
   .cases i with
    |zero=>exact c
    |succ i=>exact e.da i (dV a) U
   .cases i with
    |zero=>omega
    |succ i=>exact e.xQ i (dV a) U
  |false=>
   refine⟨0,bQ _,λi a b=>U,λi a _=>?_⟩;grind[getElem_mem,my]
def Cc.eq(h:Cc L B b)(a:Cc L B c):b=c:=by
 obtain e|e|e:=mT b c;have f:=a.da b (bP a.le) e;have d:=h.xQ b (bP a.le)<|aq _;rw[f]at d;cases d;exact e;have f:=h.da c (bP h.le) e;have d:=a.xQ c (bP h.le)<|aq _;rw[f]at d;cases d
def nX.CT(h:nX s b c L O a)(q:Cc L B k)(x:E)(u:x∈O.flatten)(i:x.D=B):∃j:k<y O,x∈O[k]:=by
 let⟨A,j,g⟩:=dO.1 u;obtain⟨n,p,rfl⟩:=dJ j;have d:n<y L:=bP h.dL;have v:=h.l n d p;have m:gF O[n]:=h.o.kD<|eC j;have l:=m.FJ v.ne g;obtain t|t|t:=mT n k;have:=q.da n d t;rw[v.eP]at this;have:=DW l this;rw[i,jq]at this;cases this;grind
 have f:k<y L:=U;have e:k<y O:=U;have r:=h.l k f e;have o:=q.xQ k f<|aq _;rw[r.eP]at o;have w:=r.ne;have:=cW.1 h.L k n e p t _ (aB<|show y O[k]-1<y O[k]by omega) x g;rw[i,o]at this;cases this
def nX.AS(h:nX s b c L O a)(l:Cc L B k)(m:∀(q:k<y L),kG B L[k].eJ=cz)(p:Y):kC p O.flatten B=dE:=by
 refine tv<|λx n e=>?_;let⟨i,g⟩:=h.CT l x n e;have d:k<y L:=bP h.dL;have o:=h.l k d i;have j:=m d;have f:gF O[k]:=h.o.kD<|eC<|aB i;rw[o.eJ,<-e,f.xS o.ne g]at j;cases j
def nX.Eb(h:nX s b c L O a)(f:Cc L B k)(e:k<y O)(d:Y):kC d O.flatten B=kC d O[k] B:=CU e (h.CT f) h.L d
def CX:ju:=⟨λ_=>True,λ_=>False,λ_ _ _=>trivial,λ_ h=>h.elim,False⟩
def Sw(a:0<=r)(b:r<4294967296):jv (le 4 r)=r:=by
 rw[xO 4 r a];grind
