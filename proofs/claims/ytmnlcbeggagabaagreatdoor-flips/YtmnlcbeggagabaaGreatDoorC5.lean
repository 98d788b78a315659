import Derived.Deep.LoopGhost
import Derived.Laws.Rows
import Derived.Shelf.Abstract
import Derived.Test.YtmnlcbeggagabaaGreatDoorC3
import Derived.Test.YtmnlcbeggagabaaGreatDoorC4
open _root_ renaming List.length→y,Option.some→H,Array.size→z,Go.World.heap→G,Go.Value.ownBlock→cz,Go.World.cell?→aS,Go.World.setCell→cA,Go.World.alloc→cG,Bool.false→bj,Bool.true→ci,Nat→M,Int→U,List→cS,Go.Calls→cD,Go.undef→ix,Go.Proofs.Tryz.prog→aZ,Go.Value.slice→J,Go.Value.string→am,Go.Value.bool→aK,Go.Value.tuple→dd,Go.Value.agg→dD
namespace Go.Proofs.YtmnlcbeggagabaaGreatDoor
open ChangeShapes WideShapes RowKit Proofs.Tryz List
set_option maxHeartbeats 16000000
set_option linter.all false
set_option maxRecDepth 100000
variable{a f B:Z}{b c g m x O:M}{d:ab}{e N:cI}{l:dJ}{X:eT}{v:ae}{w:E}{W:Type}
structure iL where
 D:Z->Prop
 F:M->Prop
 eQ:∀{w w':Z}{S:eT},D w->I S w w'->(∀k,S k->¬F k)->D w'
 lt:∀{w:Z}{k:M},D w->F k->k<z (G w)
 Xp:Prop
variable{t:iL}
def kw(V:iL)(b:M)(S:eT)(w a:Z):Prop:=z (G w)<=z (G a)/\∀k,((k<b/\¬V.F k)\/S k)->a.heap[k]?=w.heap[k]?
def kw.refl(V:iL)(a:M)(S:eT)(w:Z):kw V a S w w:=⟨ai _,λ_ _=>rfl⟩
def kw.trans{S:eT}{d b e:Z}(h:kw t c S d b)(k:kw t c S b e):kw t c S d e:=⟨aB h.1 k.1,λi a=>(k.2 i a).trans<|h.2 i a⟩
def kw.mono{S T:eT}{e b:Z}(h:kw t c S e b)(a:∀k,T k->S k):kw t c T e b:=⟨h.1,λi d=>h.2 i<|d.imp id<|a i⟩
def kw.cell{V:iL}{a b:Z}(h:kw V c X a b){k i:M}(g:X k\/(k<c/\¬V.F k))(e:aS a (R k i)=H d):aS b (R k i)=H d:=(da (w:=a)<|h.2 k g.symm).trans e
def I.same{V:iL}{n0:M}{S T:eT}(h:I T a f)(i:n0<=z (G a))(c:∀k,S k->k<z (G a)/\¬T k)(e:∀k,T k->k<n0->V.F k):kw V n0 S a f:=by
 refine⟨h.size,λk g=>?_⟩;rcases g with⟨b,d⟩|b;exact h.block k (by omega)<|λc=>d<|e k c b;exact h.block k (c k b).1 (c k b).2
theorem aH{w:Z}(o:Obj)(h:c=z (G w)):(cG w o).heap[c]?=H o:=by
 subst h;show(w.heap.push o)[z<|G w]?=H o;simp
theorem eU{w:Z}(o:Obj)(h:b<z (G w)):(cG w o).heap[b]?=w.heap[b]?:=Below.heap_alloc w o b h
def iI(u:ab)(h:b≠c):(cA a (R c g) u).heap[b]?=a.heap[b]?:=Below.heap_setCell a (R c g) u b h
theorem gN{b i:M}:z (G<|cA a (R b i) d)=z (G a):=by simp_all
abbrev eG(w:Z)(b:M)(v:ab)(t:TypeId):Prop:=w.heap[b]?=H (ay #[v] t (0,0))
theorem eG.cell{b:M}{t:TypeId}(h:eG a b d t):aS a (R b 0)=H d:=by rw[bV h];rfl
theorem eG.free{t:TypeId}(h:eG a b d t):a.frozen? (R b 0)=bj:=cZ h
def eG.set{t:TypeId}(h:eG a b d t)(u:ab):eG (cA a (R b 0) u) b u t:=(aL h).trans rfl
def eG.other{t:TypeId}(h:eG a b d t){b' i:M}(u:ab)(c:b≠b'):eG (cA a (R b' i) u) b d t:=(iI u c).trans h
theorem eG.alloc{w:Z}{t:TypeId}(h:eG w b d t)(o:Obj):eG (cG w o) b d t:=(eU o<|ar h).trans h
def iG(w:Z)(b:M)(x:E):Prop:=w.heap[b]?=H (ay #[am x.key,am x.val,aK x.del,aE x.bJ] 170 (0,0))
def iG.cells(h:iG a b w):aS a (R b 0)=H (am w.key)/\aS a (R b 1)=H (am w.val)/\aS a (R b 2)=H (aK w.del)/\aS a (R b 3)=H (aE w.bJ):=by
 refine⟨?_,?_,?_,?_⟩<;>rw[bV h]<;>rfl
def iG.free{b i:M}(h:iG a b w):a.frozen? (R b i)=bj:=cZ h
def iG.alloc{w:Z}{x:E}(h:iG w b x)(o:Obj):iG (cG w o) b x:=(eU o<|ar h).trans h
def iG.ap{d w':Z}{b:M}{S:eT}(h:iG d b w)(c:I S d w')(a:¬S b):iG w' b w:=(c.block b (ar h) a).trans h
def iG.put{b:M}(h:iG a b w)(c:E):iG (cA (cA (cA (cA a (R b 0)<|am c.key) (R b 1)<|am c.val) (R b 2)<|aK c.del) (R b 3)<|aE c.bJ) b c:=(aL<|aL<|aL<|aL h).trans rfl
def fp{c:Func}{p u v:Tmp}(i:c.results=#[.cell p 170,.tmp u,.tmp v])(a:Array ab)(w:Z)(g:M)(x:E)(t:TypeId)(d:M×M)(h:a.getD p ix=aA g)(e:w.heap[g]?=H (ay #[am x.key,am x.val,aK x.del,aE x.bJ] t d)):(results c a).run aZ w=.ok (dd #[x.value,a.getD u ix,a.getD v ix]) w:=by
 have b:a[p]?.getD ix=aA g:=by simpa using h
 have f:=kj (P:=aZ) w g t 170 #[am x.key,am x.val,aK x.del,aE x.bJ] d _ e underlying170 rfl (by kernel_rfl);simp[results,i,b,asAddr,f,Result.andThen,E.value]
def vP:ab:=dD #[am ⟨#[]⟩,am ⟨#[]⟩,aK bj,aE 0]
structure uh(V:iL)(n0:M)(S:eT)(w:Z):Prop where
 size:n0<=z (G w)
 aM:∀k,V.F k->k<n0
 each:∀k,S k->n0<=k/\k<z (G w)
abbrev ot(q:M):ab:=.iface 202<|aA q
def vL(w:Z)(q:M):Prop:=∃n,w.heap[q]?=H (ay #[am n,aq 7] 204 (0,0))
def vL.ap{w w':Z}{q:M}{S:eT}(h:vL w q)(d:I S w w')(a:∀k,S k->k=q->∃c t r,w.heap[k]?=H (ay c t r)/\t≠204):vL w' q:=by
 obtain⟨n,h⟩:=h;refine⟨n,(d.block q (ar h)<|λc=>?_).trans h⟩;obtain⟨x,t,r,e,g⟩:=a q c rfl;rw[h]at e;injection e with e;injection e with _ e;exact g e.symm
def RX(V:iL)(w a:Z)(S:eT)(e:Ending)(r:ab->ab):Prop:=V.Xp/\∃q,e=aJ (r<|ot q)/\vL a q/\V.D a/\I S w a
abbrev bE(v:ab):ab:=dd #[vP,aK bj,v]
def Ax(V:iL)(c g:M)(d:Array ab):cI->eT->Z->Prop
 |[],S,w=>uh V c S w/\∀b,kw V c S w b->V.D b->cD aZ g d b λf a=>(f=aJ (dd #[vP,aK bj,.nilIface])/\V.D a/\I (λk=>S k\/V.F k) b a)\/RX V b a (λk=>S k\/V.F k) f bE
 |x::l,S,w=>uh V c S w/\∀b,kw V c S w b->V.D b->cD aZ g d b λf a=>(f=aJ (dd #[x.value,aK ci,.nilIface])/\V.D a/\I (λk=>S k\/V.F k) b a/\∃e,(∀k,e k->S k\/z (G b)<=k)/\Ax V c g d l e a)\/RX V b a (λk=>S k\/V.F k) f bE
def uh.apart(h:uh t b X a):∀k,X k->¬t.F k:=λk d c=>by have:=h.aM k c;have:=(h.each k d).1;omega
def uh.ap{S T:eT}{w w':Z}(h:uh t c S w)(d:I T w w'):uh t c S w':=⟨aB h.1 d.size,h.aM,λk a=>⟨(h.each k a).1,ah (h.each k a).2 d.size⟩⟩
def uh.same{V:iL}{n0:M}{S:eT}(h:uh V n0 S a)(c:kw V n0 S a f):uh V n0 S f:=⟨aB h.1 c.1,h.aM,λk b=>⟨(h.each k b).1,ah (h.each k b).2 c.1⟩⟩
def Ax.own{c f:M}{d:Array ab}(h:Ax t c f d e X a):uh t c X a:=by
 cases e<;>exact h.1
def Ax.same{V:iL}{n0 j:M}{h:Array ab}{S:eT}(i:Ax V n0 j h e S a)(b:kw V n0 S a f):Ax V n0 j h e S f:=by
 cases e with
 |nil=>exact⟨i.1.same b,λg c d=>i.2 g (b.trans c) d⟩
 |cons x e=>exact⟨i.1.same b,λg c d=>i.2 g (b.trans c) d⟩
def Out(V:iL)(P:cI->eT->Z->Prop)(l:cI)(S:eT)(w:Z)(e:Ending)(a:Z):Prop:=((∃b,e=aJ (bE b)/\((l=[]/\b=.nilIface)\/(V.Xp/\∃q,b=ot q/\vL a q)))\/∃x r c,l=x::r/\e=aJ (dd #[x.value,aK ci,.nilIface])/\(∀k,c k->S k\/z (G w)<=k)/\P r c a)/\V.D a/\I (λk=>S k\/V.F k) w a
def Ax.call{h:Array ab}(n:Ax t b c h e X a)(j:t.D a):cD aZ c h a (Out t (Ax t b c h) e X a):=by
 cases e with
 |nil=>
  refine(n.2 a (kw.refl _ _ _ _) j).mono ?_;rintro o m(⟨rfl,d,f⟩|⟨i,q,rfl,d,f,g⟩)
  .exact⟨.inl ⟨_,rfl,.inl ⟨rfl,rfl⟩⟩,d,f⟩
  .exact⟨.inl ⟨_,rfl,.inr ⟨i,q,rfl,d⟩⟩,f,g⟩
 |cons x e=>
  refine(n.2 a (kw.refl _ _ _ _) j).mono ?_;rintro o m(⟨rfl,d,f,k,g,l⟩|⟨i,q,rfl,d,f,g⟩)
  .exact⟨.inr ⟨x,e,k,rfl,rfl,g,l⟩,d,f⟩
  .exact⟨.inl ⟨_,rfl,.inr ⟨i,q,rfl,d⟩⟩,f,g⟩
def Ax.of{r:Array ab}(P:cI->eT->Z->Prop)(j:∀{l S w},P l S w->uh t b S w)(m:∀{l S w e},P l S w->kw t b S w e->P l S e)(i:∀{l S w},P l S w->t.D w->cD aZ c r w (Out t P l S w)):∀{l:cI}{S:eT}{w:Z},P l S w->Ax t b c r l S w
 |[],S,w,s=>⟨j s,λe f g=>(i (m s f) g).mono (by
  rintro A n⟨⟨u,rfl,⟨_,rfl⟩|⟨h,q,rfl,k⟩⟩|⟨C,B,o,p,_⟩,a,d⟩
  .exact .inl ⟨rfl,a,d⟩
  .exact .inr ⟨h,q,rfl,k,a,d⟩
  .cases p)⟩
 |yqq::l,S,w,s=>⟨j s,λe f g=>(i (m s f) g).mono (by
  rintro A n⟨⟨u,rfl,⟨p,_⟩|⟨h,q,rfl,k⟩⟩|⟨C,B,o,p,rfl,v,x⟩,a,d⟩
  .cases p
  .exact .inr ⟨h,q,rfl,k,a,d⟩
  .cases p;exact .inl ⟨rfl,a,d,o,v,Ax.of P j m i x⟩)⟩
def iT(V:iL)(c:M)(v:ab)(l:cI)(S:eT)(w:Z):Prop:=∃f b,v=.func (.func f) #[] b/\(∀a w,(callFunc f a).run aZ w=.ok (.enter f a) w)/\Ax V c f b l S w
def iT.same{V:iL}{n0:M}{S:eT}(k:iT V n0 d e S a)(i:kw V n0 S a f):iT V n0 d e S f:=by
 obtain⟨j,b,c,g,h⟩:=k;exact⟨j,b,c,g,h.same i⟩
def iT.own(j:iT t c d e X a):uh t c X a:=by
 obtain⟨f,h,k,l,g⟩:=j;exact g.own
def Bz(x a:E)(w:Z):cD aZ 208 #[x.value,a.value] w λf e=>f=aJ (aK<|ahead x a)/\e=cG (cG w<|ay #[am x.key,am x.val,aK x.del,aE x.bJ] 170) (ay #[am a.key,am a.val,aK a.del,aE a.bJ] 170):=by
 have b:ahead x a=(Op.bytesLess x.key.toList a.key.toList||((x.key.toList==a.key.toList)&&decide (a.bJ<x.bJ))):=by unfold ahead iX;congr 2;rw[vN];simp only[beq_iff_eq,po];grind[IP]
 rw[b];clear b;obtain⟨c,j,i,g⟩:=x;obtain⟨d,m,l,k⟩:=a;unfold E.value;simp only;cases h1:Op.bytesLess c.toList d.toList with
 |true=>
  go_in
  go_wp2;go_ret;simp_all
 |false=>
  cases h2:(c.toList==d.toList)with
  |true=>
   go_in
   go_wp2;go_ret;simp_all
  |false=>
   go_in
   go_wp2;go_ret;simp_all
def yN{f:M}(A:Array ab)(n:M)(p:M->Bool)(w:Z)(C:Enters aZ f)(hn:n<=1000000000000)(E:∀aa P,aa<=P->P<n->p aa=ci->p P=ci)(D:∀j,j<n->∀W,Below (z<|G w) w W->cD aZ f (#[aq j]++A) W λB O=>B=aJ (aK<|p j)/\Below (z<|G W) W O):cD aZ 206 #[aq n,.func (.func f) #[] A] w λB V=>∃L:M,B=aJ (aq L)/\L<=n/\(∀j,j<L->p j=bj)/\(∀j,L<=j->j<n->p j=ci)/\Below (z<|G w) w V:=by
 have eg:∀a w,(callFunc f a).run aZ w=.ok (.enter f a) w:=C;have K:∀(x:Bool)(w:Z),(Op.unary .not<|aK x).run aZ w=.ok (aK<|!x) w:=λ_ _=>rfl;have x:=Y E;have N:=Y D;clear E D C;go_in
 go_wp2;go_loopw [5,6] (λj a wr=>∃g e:M,j=aq g/\a=aq e/\g<=e/\e<=n/\(∀t,t<g->p t=bj)/\(∀t,e<=t->t<n->p t=ci)/\Below (z<|G w) w wr) (λj a _=>(intOf a).toNat-(intOf j).toNat)
 case atStart=>exact⟨0,n,rfl,rfl,bG _,ai _,λt h=>by omega,λt s h=>by omega,Below.refl _ _⟩
 case round=>
  obtain⟨g,e,rfl,rfl,Q,k,q,r,b⟩:=hrel;obtain⟨u,v,HB⟩:=dz q r b;by_cases S:g<e
  .obtain⟨m,T⟩:∃m:M,(g+e)/2=m:=⟨_,rfl⟩;have l:m<n:=by omega
   have a:=N m l wr b;have F:((g:U)+(e:U))/2=(m:U):=by omega
   clear q r b;cases hp:p m with
   |false=>
    rw[hp]at a;have o:=Y (λt(s:t<m+1)=>(show p t=bj from by
     cases c:p t with
     |false=>rfl
     |true=>have:=x t m (by omega) l c;rw[hp]at this;cases this))
    clear hp;go_wp2_with(go_at_fn f;refine a.mono ?_;rintro B X⟨rfl,d⟩;have i:=Y d;clear d)
    go_roundw;case rel=>exact⟨m+1,e,by go_num,rfl,by omega,k,o,v,HB.trans<|i.mono HB.size⟩
    case measure=>simp[intOf];omega
   |true=>
    rw[hp]at a;have o:=Y<|λt(s:m<=t)(a:t<n)=>x m t s a hp;clear hp;go_wp2_with(go_at_fn f;refine a.mono ?_;rintro B X⟨rfl,d⟩;have i:=Y d;clear d)
    go_roundw;case rel=>exact⟨g,m,rfl,by go_num,by omega,by omega,u,o,HB.trans<|i.mono HB.size⟩
    case measure=>simp[intOf];omega
  .have a:g=e:=by omega
   subst a;clear q r b;go_wp2;go_ret;exact⟨g,rfl,k,u,v,HB⟩
def aI(l:cI):iF:=l.flatMap E.cells
theorem fH(l:cI):y (aI l)=y l*4:=by
 induction l with
 |nil=>rfl
 |cons e r a=>unfold aI at*;rw[dI,ag,a];simp[E.cells];omega
theorem fI(a b:cI):aI (a++b)=aI a++aI b:=by simp[aI]
def eh(l:cI)(n:M)(h:n<y l):(aI l)[n*4]?=H (am l[n].key)/\(aI l)[n*4+1]?=H (am l[n].val)/\(aI l)[n*4+2]?=H (aK l[n].del)/\(aI l)[n*4+3]?=H (aE l[n].bJ):=by
 have e:aI l=aI (l.take n)++(E.cells l[n]++aI (l.drop<|n+1)):=by(have b:l=l.take n++l[n]::l.drop (n+1):=by rw[<-bD h,bX]);(conv=>lhs;rw[b]);simp only[aI,fV,dI]
 have a:y (aI<|l.take n)=n*4:=by rw[fH];simp;omega
 refine⟨?_,?_,?_,?_⟩;rw[e,eV (by omega),a];simp[E.cells];rw[e,eV (by omega),a,show n*4+1-n*4=1 by omega];simp[E.cells];rw[e,eV (by omega),a,show n*4+2-n*4=2 by omega];simp[E.cells];rw[e,eV (by omega),a,show n*4+3-n*4=3 by omega];simp[E.cells]
def jU(w:Z)(v:ab)(l:cI):Prop:=Row w 4 v (y l)<|aI l
def jU.below{B:M}(n:jU a d e)(k:Below B a f)(m:∀o,cz d=H o->o<B):jU f d e:=by
 obtain⟨h,⟨rfl,j⟩|⟨i,b,c,rfl,g,l⟩⟩:=n;exact⟨h,.inl ⟨rfl,j⟩⟩;exact⟨h,.inr ⟨i,b,c,rfl,g,λn u j=>(k.cell (p:=(R i<|b+n))<|m i rfl).trans<|l n u j⟩⟩
def below_drewN{w wr:Z}(h:Below b w wr)(q:M):Below b w (wr.drewN q):=⟨h.os,h.tape,h.output,h.size,h.block⟩
def GY{b:ae}(h:v≠b):(v.toList==b.toList)=bj:=by
 grind[IP]
def iG.below{B b:M}(h:iG a b w)(c:Below B a f)(d:b<B):iG f b w:=(c.block b d).trans h
def MW(h:jU a d e)(i:eG a b d 88)(p:iG a c w)(j:M)(P:j<y e):cD aZ 207 #[aq j,aA b,aA c] a λX Q=>X=aJ (aK<|!ahead e[j] w)/\Below (z<|G a) a Q:=by
 have t:∀(w:Bool)(a:Z),(Op.unary .not<|aK w).run aZ a=.ok (aK<|!w) a:=λ_ _=>rfl;have c1:=i.cell;obtain⟨S,T,V,W⟩:=p.cells;obtain⟨O,⟨rfl,h0⟩|⟨l,f,m,rfl,o,r⟩⟩:=h;omega;have s:=eh e j P;have q:=r _ _ s.1;have K:aS a (R l<|f+j*4+1)=H (am e[j].val):=by rw[bF];grind
 have L:aS a (R l<|f+j*4+2)=H (aK e[j].del):=by rw[bF];grind
 have N:aS a (R l<|f+j*4+3)=H (aE e[j].bJ):=by rw[bF];grind
 have n:=λW=>Bz e[j] w W;have e2:(j:U)<(y e:U):=by omega
 have e3:(0:U)<=(j:U):=by omega
 generalize e[j]=k at*;generalize ahead k w=aa at*;obtain⟨D,F,C,B⟩:=k;obtain⟨x,A,v,u⟩:=w;unfold E.value at n;simp only at n S T V W q K L N;have u1:=ar i;have u2:=ar p;have u3:l<z (G a):=cW _ _ q;clear r s p i O o;go_in
 go_wp2_with fail
 go_region_held3(λg=>aS g (R b 0)=H (aY l f (y e) m)/\aS g (R l<|f+j*4)=H (am D)/\aS g (R l<|f+j*4+1)=H (am F)/\aS g (R l<|f+j*4+2)=H (aK C)/\aS g (R l<|f+j*4+3)=H (aE B)/\aS g (R c 0)=H (am x)/\aS g (R c 1)=H (am A)/\aS g (R c 2)=H (aK v)/\aS g (R c 3)=H (aE u)) (first|assumption|go_keep) (first|(go_at_call 208;refine(n _).mono ?_;rintro X w1⟨rfl,rfl⟩))
 go_wp2;go_ret;have i:Below (z<|G a) a (cG (cG a<|ay #[am D,am F,aK C,aE B] 170)<|ay #[am x,am A,aK v,aE u] 170):=((Below.refl _ a).alloc (ai _) _).alloc (by simp) _;exact⟨rfl,i.os,i.tape,i.output,i.size,i.block⟩
def AY(E:ab)(v:ae)(l:U)(w:Z)(h:jU w E e)(B:dK e)(L:y e<=1000000000000)(D:∀l,cz E=H l->l<z (G w)):cD aZ 157 #[E,am v,aE l] w λS Q=>S=aJ (aq<|lh e ⟨v,⟨#[]⟩,bj,l⟩)/\Below (z<|G w) w Q:=by
 obtain⟨W,c⟩:∃W,cG (cG w<|ay #[E] 88) (ay #[am v,am ⟨#[]⟩,aK bj,aE l] 170)=W:=⟨_,rfl⟩;have r:Below (z<|G w) w W:=by rw[<-c];exact((Below.refl _ w).alloc (ai _) _).alloc (by simp) _
 have O:z (G W)=z (G w)+2:=by rw[<-c];simp
 have a:eG W (z<|G w) E 88:=by rw[<-c];grind[eG.alloc,aH]
 have f:iG W (z (G w)+1) ⟨v,⟨#[]⟩,bj,l⟩:=by rw[<-c];exact aH _<|by simp
 have k:=yN #[aA<|z<|G w,aA<|z (G w)+1] (y e) (λx=>if A:x<y e then !ahead e[x] ⟨v,⟨#[]⟩,bj,l⟩else ci) W (enters_of func207 (by kernel_rfl) rfl) L (by
  intro x T s g q;have t:x<y e:=by omega
  simp only[g,t,zj]at q|-;cases d:ahead e[T] ⟨v,⟨#[]⟩,bj,l⟩with
  |false=>rfl
  |true=>rw[B.mono s g d]at q;cases q)
  (by
   intro x A K o;apply(MW (h.below (r.trans (o.mono (by omega))) D) ((o.block _ (by omega)).trans a) (f.below o (by omega)) x A).mono;grind)
 have n:=Y k;obtain⟨aa,X,u⟩:=bN h;have HB:=Y r;clear k h B D r a f O;subst u;subst c;go_in
 go_wp2_with(go_at_call 206;refine n.mono ?_;rintro S V⟨p,rfl,N,i,j,a⟩;have F:=Y<|show lh e ⟨v,⟨#[]⟩,bj,l⟩=p from Vi N (λP C b=>by have:=i P b;grind) (λP C b=>by have:=j P b C;grind);have m:=Y a;clear i j a)
 go_ret;rw[af F];exact⟨rfl,HB.trans<|m.mono (by simp;omega)⟩
def eG.same{V:iL}{n0:M}{S:eT}{t:TypeId}(h:eG a b d t)(e:kw V n0 S a f)(c:S b):eG f b d t:=(e.2 b<|.inr c).trans h
def xA(c a b:M)(v:ab)(k:M):Prop:=k=a\/k=b\/(cz v=H k/\c<=k)
structure Jc(V:iL)(n0:M)(w:Z)(xi xl:M)(v:ab)(l:cI)(i:M):Prop where
 bi:eG w xi (aq i) 3
 bl:eG w xl v 88
 XY:jU w v l
 il:xi≠xl
 own:∀k,cz v=H k->k≠xi/\k≠xl/\¬V.F k/\k<z (G w)
def Jc.XX(s:Jc t b a c g d e m)(q:kw t b (xA b c g d) a f):jU f d e:=by
 have r:=s.own;obtain⟨k,⟨rfl,n⟩|⟨l,h,i,rfl,j,o⟩⟩:=s.XY;exact⟨k,.inl ⟨rfl,n⟩⟩;refine⟨k,.inr ⟨l,h,i,rfl,j,λv w p=>q.cell ?_<|o v w p⟩⟩;by_cases u:b<=l;exact .inl<|.inr<|.inr ⟨rfl,u⟩;exact .inr ⟨by omega,(r l rfl).2.2.1⟩
def QU(V:iL)(e c g:M)(A:ab)(n:cI)(hl:y n<=1000000000000):∀(al l:M)(ac:Z),al=y n-l->l<=y n->Jc V e ac c g A n l->uh V e (xA e c g A) ac->Ax V e 298 #[aA c,aA g] (n.drop l) (xA e c g A) ac:=by
 intro al;induction al with
 |zero=>
  intro l ac K W f p;have a:l=y n:=by omega
  subst a;rw[fZ];refine⟨p,λb i s=>?_⟩;have h0:=(f.bi.same i<|.inl rfl).cell;have Q:=(f.bl.same i<|.inr<|.inl rfl).cell;have D:=Y<|λd(av:I (xA e c g A) b d)=>V.eQ s av p.apart;have e0:=ar<|f.bi.same i<|.inl rfl;have e1:=ar<|f.bl.same i<|.inr<|.inl rfl;obtain⟨ad,j,o⟩:=bN f.XY;rw[o]at Q;clear f i s K W o;go_in
  go_wp2;refine cg (fp rfl _ _ (z<|G b) ⟨⟨#[]⟩,⟨#[]⟩,bj,0⟩ _ _ rfl<|aH _ rfl) rfl ?_;refine .inl ⟨rfl,?_⟩;have q:I (xA e c g A) b (cG b<|ay #[am ⟨#[]⟩,am ⟨#[]⟩,aK bj,aE 0] 170):=(cK _ _);exact⟨D _ q,q.mono<|λad o=>.inl<|.inl o⟩
 |succ al X=>
  intro l ac K W f p;have v:l<y n:=by omega
  rw[bD v];refine⟨p,λb i s=>?_⟩;have k:=f.bi.same i<|.inl rfl;have m:=f.bl.same i<|.inr<|.inl rfl;have h0:=k.cell;have au:=k.free;have Q:=m.cell;have hE:=f.XX i;have P:=f.own;have n2:=f.il;obtain⟨D,HI,HO,HS⟩:=fX (λd(av:I (xA e c g A) b d)=>V.eQ s av p.apart) (λd(a:Jc V e d c g A n (l+1))(f:uh V e (xA e c g A) d)=>X (l+1) d (by omega) (by omega) a f) (p.same i) i.1;clear f i s K X p;obtain⟨t,⟨rfl,ao⟩|⟨r,a,j,rfl,u,E⟩⟩:=hE
  .omega
  have S:=eh n l v;have w:aS b (R r<|a+l*4)=H (am n[l].key):=E _ _ S.1;have L:aS b (R r<|a+l*4+1)=H (am n[l].val):=by rw[bF];grind
  have N:aS b (R r<|a+l*4+2)=H (aK n[l].del):=by rw[bF];grind
  have O:aS b (R r<|a+l*4+3)=H (aE n[l].bJ):=by rw[bF];grind
  have e0:=ar k;have e1:=ar m;have e2:r<z (G b):=cW _ _ w;have n1:c≠r:=λan=>(P r rfl).1 an.symm;obtain⟨HE,C,B,HV⟩:=fX (show Row b 4 (aY r a (y n) j) (y n) (aI n)from⟨t,.inr ⟨r,a,j,rfl,u,E⟩⟩) m k P;clear S k m E P t u;generalize n[l]=ad at*;obtain⟨xk,xv,xd,xb⟩:=ad;simp only at w L N O;go_in
  go_wp2;refine cg (fp rfl _ _ (z<|G b) ⟨xk,xv,xd,xb⟩ _ _ rfl<|aH _ gN.symm) rfl ?_;refine .inl ⟨rfl,?_⟩;have q:I (λaa=>aa=c) b (cG (cA b (R c 0)<|aq<|l+1)<|ay #[am xk,am xv,aK xd,aE xb] 170):=(iV c b).alloc _;have x:I (xA e c g<|aY r a (y n) j) b _:=q.mono (T:=xA e c g<|aY r a (y n) j)<|λad o=>.inl<|.inl o;refine⟨D _ x,x.mono<|λad o=>.inl<|.inl o,xA e c g _,λaa F=>.inl F,HI _ ?_<|HO.ap q⟩;refine⟨(B.set _).alloc _,(C.other _<|λan=>n2 an.symm).alloc _,q.row HE ?_,n2,λaa F=>?_⟩
  .rintro aa⟨⟩;grind
  .obtain⟨q1,q2,q3,q4⟩:=HV aa F;exact⟨q1,q2,q3,ah q4<|aB HS q.size⟩
def Ej(V:iL)(i:M){v:ab}{l:cI}(e:ae){w:Z}(h:jU w v l)(F:dK l)(r:∀L∈l,L.bJ<18446744073709551616)(N:y l<=1000000000000)(s:∀k,cz v=H k->¬V.F k/\k<z (G w))(hn:i<=z (G w))(hF:∀k,V.F k->k<i):cD aZ 296 #[v,am e] w λA S=>∃Q ad,A=aJ Q/\iT V i Q (fO e l) ad S/\Below (z<|G w) w S/\(∀k,ad k->(cz v=H k/\i<=k)\/z (G w)<=k):=by
 have O:=λW(m:Below (z<|G w) w W)=>AY v e 18446744073709551615 W (by
  obtain⟨n,⟨rfl,C⟩|⟨B,a,b,rfl,f,D⟩⟩:=h
  .exact⟨n,.inl ⟨rfl,C⟩⟩
  .exact⟨n,.inr ⟨B,a,b,rfl,f,λP ac E=>(m.cell (p:=(R B (a+P))) (s B rfl).2).trans (D P ac E)⟩⟩) F N (λc o=>ah (s c o).2 m.size)
 obtain⟨HP,t,u⟩:=dz O (show fO e l=l.drop (lh l ⟨e,⟨#[]⟩,bj,18446744073709551615⟩)from(PT F e _ _ (λL a=>by have:=r L a;omega)).symm)<|Hm l ⟨e,⟨#[]⟩,bj,18446744073709551615⟩;have K:=bN h;obtain⟨X,x,W⟩:=dz h s hF;clear O s h F hF r;generalize lh l ⟨e,⟨#[]⟩,bj,18446744073709551615⟩=T at*;obtain⟨L,b,rfl⟩:=K;go_in
 go_wp2_with(go_at_call 157;refine(HP _<|(Below.refl _ w).alloc (ai _) _).mono ?_;rintro A j⟨rfl,p⟩;have HB:=Y p;clear p)
 go_ret;have o:=af HB;have aa:z (G w)+1<=z (G j):=by have:=o.size;simp_all
 have d:Below (z<|G w) w j:=((Below.refl _ w).alloc (ai _) _).trans (o.mono<|by simp);have c:Below (z<|G w) w (cG j<|ay #[aq T] 3):=d.alloc d.size _;have q:eG j (z<|G w) (J L (y l) b) 88:=(o.block (z<|G w)<|by simp).trans<|aH _ rfl;refine⟨_,xA i (z<|G j) (z<|G w)<|J L (y l) b,rfl,⟨298,_,rfl,enters_of func298 (by kernel_rfl) rfl,?_⟩,c,?_⟩;rw[af t];refine QU V i (z<|G j) (z<|G w) (J L (y l) b) l N _ T _ rfl u ⟨aH _ rfl,q.alloc _,?_,by omega,λk g=>?_⟩ ⟨by simp;omega,W,λk g=>?_⟩;obtain⟨n,⟨A,C⟩|⟨B,a,m,A,f,D⟩⟩:=af X;exact⟨n,.inl ⟨A,C⟩⟩;refine⟨n,.inr ⟨B,a,m,A,f,λP ac E=>(c.cell (p:=(R B<|a+P)) ?_).trans<|D P ac E⟩⟩;exact(x B (by rw[A];rfl)).2;obtain⟨m,q2⟩:=x k g;exact⟨by omega,by omega,m,by simp;omega⟩;rcases g with rfl|rfl|⟨g,m⟩;exact⟨by omega,by simp⟩;exact⟨by omega,by simp;omega⟩;exact⟨m,by have:=(x k g).2;simp;omega⟩;rintro k(rfl|rfl|g);right;omega;right;omega;grind
def sG(a:W->E->Bool)(Fa:W->E->W):W->cI->cI
 |_,[]=>[]
 |s,x::r=>if a s x then x::sG a Fa (Fa s x) r else sG a Fa (Fa s x) r
structure AB(σ:Type)(V:iL)(n0:M)where
 f:M
 cb:Array ab
 test:σ->E->Bool
 Fa:σ->E->σ
 inv:σ->Z->Prop
 S:M->Prop
 RT:Enters aZ f
 call:∀s x w,inv s w->cD aZ f (#[x.value]++cb) w λe w'=>e=aJ (aK<|test s x)/\inv (Fa s x) w'/\I S w w'
 eQ:∀s w w',inv s w->(∀k,S k->w'.heap[k]?=w.heap[k]?)->inv s w'
 lt:∀s w,inv s w->∀k,S k->n0<=k/\k<z (G w)
structure lG{σ:Type}{V:iL}{n0:M}(K:AB σ V n0)(w:Z)(xn xk f:M)(cb:Array ab)(s:σ)(l:cI)(S:eT):Prop where
 bn:eG w xn (.func (.func f) #[] cb) 240
 bk:eG w xk (.func (.func K.f) #[] K.cb) 356
 RT:Enters aZ f
 run:Ax V n0 f cb l S w
 inv:K.inv s w
 own:n0<=xn/\n0<=xk
 nS:∀k,S k->k≠xn/\k≠xk/\¬K.S k
 nK:∀k,K.S k->k≠xn/\k≠xk
def yz(K:AB W t b)(c a:M)(S:eT)(k:M):Prop:=k=c\/k=a\/S k\/K.S k
def lG.same{V:iL}{n0:M}{K:AB W V n0}{j:Array ab}{s:W}{S:eT}(h:lG K a b c g j s e S)(d:kw V n0 (yz K b c S) a f):lG K f b c g j s e S:=⟨h.bn.same d<|.inl rfl,h.bk.same d<|.inr<|.inl rfl,h.RT,h.run.same<|d.mono<|λ_ i=>.inr<|.inr<|.inl i,K.eQ s a f h.inv<|λk i=>d.2 k<|.inr<|.inr<|.inr<|.inr i,h.own,h.nS,h.nK⟩
def lG.tf{K:AB W t b}{f:Array ab}{s:W}(h:lG K a c g m f s e X):uh t b (yz K c g X) a:=⟨h.run.own.size,h.run.own.aM,by
 rintro k(rfl|rfl|d|d)
 .exact⟨h.own.1,ar h.bn⟩
 .exact⟨h.own.2,ar h.bk⟩
 .exact h.run.own.each k d
 .exact K.lt s a h.inv k d⟩
def lG.WC{K:AB W t b}{l:Array ab}{s:W}{j:eT}(h:lG K a c g m l s e X)(o:I (λk=>X k\/t.F k) a f)(q:∀k,j k->X k\/z (G a)<=k)(r:Ax t b m l N j f):lG K f c g m l s N j:=by
 have p:=h.tf;have hF:∀k,b<=k->¬t.F k:=λk i a=>by have:=p.aM k a;omega
 refine⟨(o.block c (ar h.bn) ?_).trans h.bn,(o.block g (ar h.bk) ?_).trans h.bk,h.RT,r,K.eQ s a f h.inv<|λk i=>o.block k (K.lt s a h.inv k i).2 ?_,h.own,λk i=>?_,h.nK⟩;rintro(d|d);exact(h.nS c d).1 rfl;exact hF c h.own.1 d;rintro(d|d);exact(h.nS g d).2.1 rfl;exact hF g h.own.2 d;rintro(d|d);exact(h.nS k d).2.2 i;exact hF k (K.lt s a h.inv k i).1 d;rcases q k i with d|d;exact h.nS k d;refine⟨?_,?_,?_⟩;rintro rfl;have:=ar h.bn;omega;rintro rfl;have:=ar h.bk;omega;intro n;have:=(K.lt s a h.inv k n).2;omega
def lG.kept{K:AB W t b}{g d f:M}{j:Array ab}{s l:W}(h:lG K a g d f j s e X)(i:I K.S a B)(o:K.inv l B):lG K B g d f j l e X:=by
 have n:=h.tf;have hF:∀k,b<=k->¬t.F k:=λk c a=>by have:=n.aM k a;omega
 refine⟨(i.block g (ar h.bn)<|λm=>(h.nK g m).1 rfl).trans h.bn,(i.block d (ar h.bk)<|λm=>(h.nK d m).2 rfl).trans h.bk,h.RT,h.run.same ?_,o,h.own,h.nS,h.nK⟩;refine i.same h.run.own.size (λk c=>⟨(h.run.own.each k c).2,(h.nS k c).2.2⟩)<|λk c p=>?_;have:=(K.lt s a h.inv k c).1;omega
def lG.laid{K:AB W t b}{d:Array ab}{s:W}(h:lG K a c g m d s e X)(o:Obj):lG K (cG a o) c g m d s e X:=h.kept ((I.refl _ _).alloc o)<|K.eQ s a _ h.inv<|λk f=>eU o (K.lt s a h.inv k f).2
def lG.apart{K:AB W t b}{h:Array ab}{s:W}{T:eT}(j:lG K a c g m h s e X)(n:I T a f)(i:∀k,T k->¬yz K c g X k/\b<=k):lG K f c g m h s e X:=j.same<|n.same j.run.own.size (λk d=>⟨(j.tf.each k d).2,λo=>(i k o).1 d⟩) (λk d l=>by have:=(i k d).2;omega)
def uB(w:Z)(b:M)(a:E):Z:=cA (cA (cA (cA w (R b 0)<|am a.key) (R b 1)<|am a.val) (R b 2)<|aK a.del) (R b 3)<|aE a.bJ
def iD(w:Z)(b:M)(a:E):I (λk=>k=b) w (uB w b a):=(((iV b w).setCell b 1 _<|.inl rfl).setCell b 2 _<|.inl rfl).setCell b 3 _<|.inl rfl
def Wt(K:AB W t b)(e d g:M)(f:Array ab)(l:cI)(S:eT)(w:Z):Prop:=∃s c a,l=sG K.test K.Fa s c/\S=yz K e d a/\lG K w e d g f s c a
def iG.sep{c q:M}(h:iG a c w):∀k,k=c->k=q->∃d t r,a.heap[k]?=H (ay d t r)/\t≠204:=λk b _=>b▸⟨_,_,_,h,by decide⟩
def MY(K:AB W t b)(cb:Array ab)(co:W)(hA:lG K a c g m cb co e X)(hD:t.D a):cD aZ 247 #[aA c,aA g] a (Out t (Wt K c g m cb) (sG K.test K.Fa co e) (yz K c g X) a):=by
 have eg:∀v a,(callFunc m v).run aZ a=.ok (.enter m v) a:=hA.RT;have ek:∀v a,(callFunc K.f v).run aZ a=.ok (.enter K.f v) a:=K.RT;have HA:=Y hA;have HD:=Y hD;clear hA hD;go_in
 go_wp2;go_loopg [5] (y e+1) (λd _ wr=>∃L l' S',y l'<d/\lG K wr c g m cb L l' S'/\t.D wr/\I (λs=>yz K c g X s\/t.F s) a wr/\sG K.test K.Fa co e=sG K.test K.Fa L l'/\(∀s,S' s->X s\/z (G a)+1<=s)/\y l'<=y e/\iG wr (z<|G a) ⟨⟨#[]⟩,⟨#[]⟩,bj,0⟩/\¬S' (z<|G a)/\¬K.S (z<|G a))
 (case atStart=>have h:=HA;refine⟨co,e,X,by omega,h.laid _,t.eQ HD (cK az a) cC,(cK _ _),rfl,λs o=>.inl o,ai _,aH _ rfl,λu=>?_,λu=>?_⟩;have:=(h.run.own.each _ u).2;omega;have:=(K.lt _ _ h.inv _ u).2;omega)
 case round=>
  obtain⟨L,l',S',T,Q,bd,bl,bh,ao,bs,an,bt,bu⟩:=hrel;have cs:=Q.bn.cell;have hc:=Q.run.call bd;have al:=Y (show∀B,I (λs=>S' s\/t.F s) wr B->I (λs=>yz K c g X s\/t.F s) a B fromλB h=>bl.trans h (by
   rintro s(o|o)
   .rcases ao s o with u|u
    .exact .inl<|.inl<|.inr<|.inr<|.inl u
    grind
   grind))
  have cT:=ar an;obtain⟨HN,ad,V,aV,aD⟩:=jk bt bu Q bh an;obtain⟨bb,aU⟩:=And.intro (Y ao) (Y<|And.intro T bs);clear Q bd bl bh an ao bt bu T bs;go_wp2_with fail
  refine hc.mono ?_;rintro db B⟨⟨ev,rfl,cj⟩|⟨⟨j,k,f,d⟩,cl,S1,rfl,rfl,au,bk⟩,S,w⟩
  .have l:iG B (z<|G a) ⟨⟨#[]⟩,⟨#[]⟩,bj,0⟩:=aD.ap w<|λu=>u.elim HN (λu=>by have:=V.tf.aM _ u;have:=HA.tf.size;omega);obtain⟨cc,cd,ce,ch⟩:=l.cells;have bo:=l.free (i:=0);have bp:=l.free (i:=1);have bq:=l.free (i:=2);have br:=l.free (i:=3);have p:=ar l;obtain⟨C,N,P⟩:=dz l S w;clear l S w;unfold bE vP;have r:Hid (I (λs=>s=z (G a)) B<|(uB B (z<|G a) ⟨⟨#[]⟩,⟨#[]⟩,bj,0⟩).alloc<|ay #[am ⟨#[]⟩,am ⟨#[]⟩,aK bj,aE 0] 170):=Y<|(iD _ _ _).alloc _;have n:=Y HA.tf;rcases cj with⟨rfl,rfl⟩|⟨D,q,rfl,x⟩
   .go_wp2;refine cg (fp rfl _ _ (z<|G a) ⟨⟨#[]⟩,⟨#[]⟩,bj,0⟩ _ _ rfl<|(C.put ⟨⟨#[]⟩,⟨#[]⟩,bj,0⟩).alloc _) rfl ?_;exact⟨.inl ⟨_,rfl,.inl ⟨aV.trans rfl,rfl⟩⟩,t.eQ N r (λs o hf=>by have:=n.aM s hf;have:=n.size;omega),(al _ P).trans r<|λs o=>.inr<|by omega⟩
   .have A:=Y x;clear x;go_wp2;refine cg (fp rfl _ _ (z<|G a) ⟨⟨#[]⟩,⟨#[]⟩,bj,0⟩ _ _ rfl<|(C.put ⟨⟨#[]⟩,⟨#[]⟩,bj,0⟩).alloc _) rfl ?_;exact⟨.inl ⟨_,rfl,.inr ⟨D,q,rfl,A.ap r C.sep⟩⟩,t.eQ N r (λs o hf=>by have:=n.aM s hf;have:=n.size;omega),(al _ P).trans r<|λs o=>.inr<|by omega⟩
  .have T:=aU.1;have cn:y cl<y e:=by have:=aU.2;simp at this;omega
   have F:=K.call L ⟨j,k,f,d⟩;have hA1:=V.WC w au bk;have A:=hA1.laid<|ay #[am j,am k,aK f,aE d] 170;have l:iG B (z<|G a) ⟨⟨#[]⟩,⟨#[]⟩,bj,0⟩:=aD.ap w<|λu=>u.elim HN (λu=>by have:=V.tf.aM _ u;have:=HA.tf.size;omega);have cp:=A.bk.cell;have av:iG (cG B<|ay #[am j,am k,aK f,aE d] 170) (z<|G B) ⟨j,k,f,d⟩:=aH _ rfl;obtain⟨cc,cd,ce,ch⟩:=av.cells;have p:=F _ A.inv;have bx:=Y (show¬K.S (z<|G B)fromλu=>by have:=(K.lt _ _ hA1.inv _ u).2;omega);have cm:=w.size;obtain⟨bT,O,ax,C,N⟩:=jk av au A l S;have P:=Y w;clear l S w hA1 A bk au av F;have bi:sG K.test K.Fa L (⟨j,k,f,d⟩::cl)=if K.test L ⟨j,k,f,d⟩then⟨j,k,f,d⟩::sG K.test K.Fa (K.Fa L ⟨j,k,f,d⟩) cl else sG K.test K.Fa (K.Fa L ⟨j,k,f,d⟩) cl:=rfl;have ba:=Y<|aV.trans bi;clear bi;unfold E.value at p|-;simp only at p|-;go_wp2_with fail
   refine p.mono ?_;rintro db w2⟨rfl,bg,D⟩;have bn:iG w2 (z<|G B) ⟨j,k,f,d⟩:=bT.ap D bx;have x:iG w2 (z<|G a) ⟨⟨#[]⟩,⟨#[]⟩,bj,0⟩:=(C.alloc _).ap D ad;obtain⟨Bi,cu,cv,cw⟩:=bn.cells;obtain⟨cx,cB,cE,cM⟩:=x.cells;have bo:=x.free (i:=0);have bp:=x.free (i:=1);have bq:=x.free (i:=2);have br:=x.free (i:=3);obtain⟨aF,aa,bc⟩:=dz x (ax.kept D bg) D;clear bg D bn x;have n:=Y HA.tf;have ca:=Y aa.tf;have bf:=Y<|t.eQ (t.eQ N (cK az B) cC) bc (λs o hf=>by have:=ca.aM s hf;have:=(K.lt _ _ ax.inv s o).1;omega);have bm:=Y<|((al _ P).alloc _).trans bc<|λs o=>.inl<|.inl<|.inr<|.inr<|.inr o;cases hte:K.test L ⟨j,k,f,d⟩with
   |true=>
    have ac:=Y (ba.trans<|by rw[dV hte]);clear hte;go_wp2;refine cg (fp rfl _ _ (z<|G a) ⟨j,k,f,d⟩ _ _ rfl<|aF.put ⟨j,k,f,d⟩) rfl ?_;have r:I (λs=>s=z (G a)) w2 (uB w2 (z<|G a) ⟨j,k,f,d⟩):=iD _ _ _;have ck:¬yz K c g S1 (z<|G a):=by
     rintro(u|u|u|u)
     .have:=(n.each c<|.inl rfl).2;omega
     .have:=(n.each g<|.inr<|.inl rfl).2;omega
     .rcases O _ u with bv|bv
      .exact HN bv
      .omega
     .exact ad u
    refine⟨.inr ⟨⟨j,k,f,d⟩,_,_,ac,rfl,λs o=>?_,K.Fa L ⟨j,k,f,d⟩,cl,S1,rfl,rfl,aa.apart r (λs o=>by rw[o];exact⟨ck,n.size⟩)⟩,t.eQ bf r (λs o hf=>by have:=n.aM s hf;have:=n.size;omega),bm.trans r<|λs o=>.inr<|by omega⟩;rcases o with u|u|u|u
    .exact .inl<|.inl u
    .exact .inl<|.inr<|.inl u
    .rcases O s u with u|u
     .rcases bb s u with bv|bv
      .exact .inl<|.inr<|.inr<|.inl bv
      .exact .inr<|by omega
     .exact .inr<|by omega
    .exact .inl<|.inr<|.inr<|.inr u
   |false=>
    have ac:=Y (ba.trans<|by rw[eI (by rw[hte];simp)]);clear hte;go_wp2;go_roundg(y cl+1);case measure=>simp at T;omega
    case rel=>
     refine⟨K.Fa L ⟨j,k,f,d⟩,cl,S1,by omega,aa,bf,bm,ac,λs o=>?_,by omega,aF,λu=>?_,ad⟩
     .rcases O s o with u|u
      .exact bb s u
      grind
     .rcases O _ u with bv|bv
      .exact HN bv
      .omega
def Qe(K:AB W t b)(c a j:M)(e:Array ab)(s:W)(l:cI)(S:eT)(w:Z)(g:lG K w c a j e s l S):Ax t b 247 #[aA c,aA a] (sG K.test K.Fa s l) (yz K c a S) w:=by
 refine Ax.of (Wt K c a j e) ?_ ?_ ?_ ⟨s,l,S,rfl,rfl,g⟩;rintro l S w⟨s,f,d,rfl,rfl,h⟩;exact h.tf;rintro l S w k⟨s,f,d,rfl,rfl,h⟩i;exact⟨s,f,d,rfl,rfl,h.same i⟩;rintro l S w⟨s,f,d,rfl,rfl,h⟩i;exact MY K e s h i
def Ke(K:AB W t b)(s:W)(B:iT t b d e X a)(g:K.inv s a)(m:∀k,X k->¬K.S k):cD aZ 227 #[d,.func (.func K.f) #[] K.cb] a λC r=>∃q l,C=aJ q/\iT t b q (sG K.test K.Fa s e) l r/\Below (z<|G a) a r/\(∀k,l k->X k\/K.S k\/z (G a)<=k):=by
 obtain⟨A,j,rfl,o,f⟩:=B;obtain⟨u,w,v,x⟩:=fX o f g m;clear o f g m;go_in
 go_wp2;go_ret;have f:=af w;have g:=af v;have n:Below (z<|G a) a (cG (cG a<|ay #[.func (.func A) #[] j] 240)<|ay #[.func (.func K.f) #[] K.cb] 356):=((Below.refl _ a).alloc (ai _) _).alloc (by simp) _;have p:I az a (cG (cG a<|ay #[.func (.func A) #[] j] 240)<|ay #[.func (.func K.f) #[] K.cb] 356):=I.aQ n;refine⟨_,yz K (z<|G a) (z (G a)+1) X,rfl,⟨247,_,rfl,enters_of func247 (by kernel_rfl) rfl,?_⟩,n,?_⟩;refine Qe K (z<|G a) (z (G a)+1) A j s e X _ ⟨?_,aH _ (by simp),u,f.same<|p.same f.own.size (λk c=>⟨(f.own.each k c).2,λi=>i⟩)<|λk c=>c.elim,K.eQ s a _ g<|λk c=>?_,⟨f.own.size,by have:=f.own.size;omega⟩,λk c=>?_,λk c=>?_⟩;(grind[eG.alloc,aH]);exact p.block k (K.lt s a g k c).2<|λi=>i;have:=(f.own.each k c).2;exact⟨by omega,by omega,x k c⟩;have:=(K.lt s a g k c).2;grind
 rintro k(i|i|i|i);(grind);(grind);exact .inl i;grind
def SG(V:iL)(b:M):AB Unit V b where
 f:=228
 cb:=#[]
 test:=λ_ e=>!e.del
 Fa:=λ_ _=>()
 inv:=λ_ _=>True
 S:=λ_=>False
 RT:=enters_of func228 (by kernel_rfl) rfl
 call:=by
  rintro _⟨e,g,d,c⟩w _;unfold E.value;simp only;have a:∀(x:Bool)(w:Z),(Op.unary .not<|aK x).run aZ w=.ok (aK<|!x) w:=λ_ _=>rfl;show cD aZ 228 #[dD #[am e,am g,aK d,aE c]] w _;go_in
  go_wp2;go_ret;exact⟨rfl,trivial,(cK _ w)⟩
 eQ:=λ_ _ _ _ _=>trivial
 lt:=λ_ _ _ _ a=>a.elim
def Hl(l:cI)(s:Unit):sG (λ(_:Unit)e=>!e.del) (λ_ _=>()) s l=l.filter (λe=>!e.del):=by
 induction l generalizing s with
 |nil=>rfl
 |cons x r a=>
  unfold sG;grind
def JX(r:iT t b d e X a):cD aZ 179 #[d] a λl g=>∃f c,l=aJ f/\iT t b f (e.filter<|λl=>!l.del) c g/\Below (z<|G a) a g/\(∀m,c m->X m\/z (G a)<=m):=by
 have p:=Ke (SG t b) () r trivial<|λ_ _ n=>n;have q:=Hl e ();have o:cD aZ 227 #[d,.func (.func 228) #[] #[]] a λl g=>∃f c,l=aJ f/\iT t b f (e.filter<|λl=>!l.del) c g/\Below (z<|G a) a g/\(∀m,c m->X m\/z (G a)<=m):=by apply p.mono;rintro l g⟨f,c,v,w,x,A⟩;refine⟨f,c,v,?_,x,λm B=>?_⟩;rw[<-q];exact w;rcases A m B with n|n|n;exact .inl n;exact n.elim;exact .inr n
 clear p q;obtain⟨E,C,rfl,_⟩:=r;go_in
 go_wp2_with(go_at_call 227;refine o.mono ?_;rintro l D⟨f,c,rfl,k,j,i⟩;have s:=Y k;have HB:=Y j;have u:=Y i;clear k j i)
 go_ret;exact⟨f,c,rfl,s,HB,u⟩
def Zl(V:iL)(l d b:M)(m:U):AB ae V l where
 f:=229
 cb:=#[aA d,aA b]
 test:=λs n=>decide (n.bJ<=m)&&!decide (n.key=s)
 Fa:=λs n=>if n.bJ<=m then n.key else s
 inv:=λs w=>eG w d (aE m) 89/\eG w b (am s) 9/\l<=b/\l<=d/\d≠b
 S:=λu=>u=d\/u=b
 RT:=enters_of func229 (by kernel_rfl) rfl
 call:=by
  rintro s⟨p,x,v,i⟩w⟨a,g,F,t,j⟩;unfold E.value;simp only;have B:=g.cell;have D:=g.free;have C:=a.cell;have r:=ar g;have o:=ar a;have HB:=Y g;have c:=Y a;clear g a;show cD aZ 229 #[dD #[am p,am x,aK v,aE i],aA d,aA b] w _;by_cases k:i<=m
  .have q:¬m<i:=by omega
   by_cases e:p=s
   .subst e;simp only[k,qR,qI,Bool.and_false,lk];go_in
    go_wp2;go_ret;exact⟨rfl,⟨c.alloc _,HB.alloc _⟩,(cK _ w)⟩
   .have A:=GY e;simp only[k,e,qR,zk,lR,Bool.and_true,lk];go_in
    go_wp2;go_ret;refine⟨rfl,⟨(c.other _ j).alloc _,(HB.set _).alloc _⟩,?_⟩;exact((I.refl _ w).setCell b 0 _<|.inl<|.inr rfl).alloc _
  .have q:m<i:=by omega
   simp only[k,zk,wi,nj];go_in
   go_wp2;go_ret;exact⟨rfl,⟨c.alloc _,HB.alloc _⟩,(cK _ w)⟩
 eQ:=λs w a h e=>⟨(e d<|.inl rfl).trans h.1,(e b<|.inr rfl).trans h.2.1,h.2.2⟩
 lt:=λs w h u e=>by
  grind
def VO(b:U)(l:cI)(s:ae):sG (λs(e:E)=>decide (e.bJ<=b)&&!decide (e.key=s)) (λs e=>if e.bJ<=b then e.key else s) s l=mT s (l.filter<|λe=>decide<|e.bJ<=b):=by
 induction l generalizing s with
 |nil=>rfl
 |cons x r c=>
  unfold sG;by_cases a:x.bJ<=b
  .rw[ik<|by simp[a]];unfold mT;by_cases h:x.key=s
   .grind
   grind
  grind
structure yy(V:iL)(n0:M)(ls:dJ)where
 f:M
 cb:Array ab
 inv:Z->Prop
 S:M->Prop
 RT:Enters aZ f
 call:∀i(hi:i<y ls)w,inv w->V.D w->cD aZ f (#[aq i]++cb) w λe w'=>(∃v' S',e=aJ (dd #[v',.nilIface])/\iT V n0 v' ls[i] S' w'/\V.D w'/\I V.F w w'/\(∀k,S' k->z (G w)<=k))\/∃u,RX V w w' V.F e<|λv=>dd #[u,v]
 eQ:∀w w',inv w->kw V n0 S w w'->inv w'
 lt:∀w,inv w->∀k,S k->n0<=k/\k<z (G w)
structure iJ{V:iL}{n0:M}{ls:dJ}(O:yy V n0 ls)(w:Z)(b c d g:M)(h:ab)(r:cI)(a:M)(S:eT):Prop where
 br:eG w b h 240
 ba:eG w c (aq a) 3
 bn:eG w d (aq<|y ls) 3
 bo:eG w g (.func (.func O.f) #[] O.cb) 406
 row:(h=.nilFunc/\r=[]/\∀k,¬S k)\/iT V n0 h r S w
 inv:O.inv w
 le:a<=y ls
 size:n0<=z (G w)
 aM:∀k,V.F k->k<n0
 own:n0<=b/\n0<=c/\n0<=d/\n0<=g
 ra:b≠c
 rn:b≠d
 ro:b≠g
 an:c≠d
 ao:c≠g
 nS:∀k,S k->k≠b/\k≠c/\k≠d/\k≠g/\¬O.S k
 nO:∀k,O.S k->k≠b/\k≠c/\k≠d/\k≠g
def nI{V:iL}{n0:M}{lsqq:dJ}(O:yy V n0 lsqq)(b c d g:M)(S:eT)(k:M):Prop:=k=b\/k=c\/k=d\/k=g\/S k\/O.S k
def UO{V:iL}{n0:M}{lsqq:dJ}(O:yy V n0 lsqq)(b c d g:M)(l:cI)(S:eT)(w:Z):Prop:=∃h r a e,l=r++(lsqq.drop a).flatten/\S=nI O b c d g e/\iJ O w b c d g h r a e
def Cb(r:cI)(lsqq:dJ)(a:M):cI:=r++(lsqq.drop a).flatten
section
variable{V:iL}{n0:M}{lsqq:dJ}{O:yy V n0 lsqq}{w w':Z}{b c d g:M}{h:ab}{r:cI}{a:M}{S:eT}
theorem iJ.tf(e:iJ O w b c d g h r a S):uh V n0 (nI O b c d g S) w:=⟨e.size,e.aM,by
 rintro k(rfl|rfl|rfl|rfl|f|f)
 .exact⟨e.own.1,ar e.br⟩
 .exact⟨e.own.2.1,ar e.ba⟩
 .exact⟨e.own.2.2.1,ar e.bn⟩
 .exact⟨e.own.2.2.2,ar e.bo⟩
 .rcases e.row with⟨_,_,i⟩|i
  .grind
  .exact i.own.each k f
 .exact O.lt w e.inv k f⟩
theorem iJ.same(e:iJ O w b c d g h r a S)(f:kw V n0 (nI O b c d g S) w w'):iJ O w' b c d g h r a S:=⟨e.br.same f<|.inl rfl,e.ba.same f<|.inr<|.inl rfl,e.bn.same f<|.inr<|.inr<|.inl rfl,e.bo.same f<|.inr<|.inr<|.inr<|.inl rfl,e.row.imp id<|λj=>j.same<|f.mono<|λ_ i=>.inr<|.inr<|.inr<|.inr<|.inl i,O.eQ w w' e.inv<|f.mono<|λ_ i=>.inr<|.inr<|.inr<|.inr<|.inr i,e.le,aB e.size f.1,e.aM,e.own,e.ra,e.rn,e.ro,e.an,e.ao,e.nS,e.nO⟩
theorem iJ.apart{T:eT}(j:iJ O w b c d g h r a S)(l:I T w w')(i:∀k,T k->¬nI O b c d g S k/\(k<n0->V.F k)):iJ O w' b c d g h r a S:=j.same<|l.same j.size (λk e=>⟨(j.tf.each k e).2,λm=>(i k m).1 e⟩)<|λk e f=>(i k e).2 f
theorem iJ.laid(e:iJ O w b c d g h r a S)(o:Obj):iJ O (cG w o) b c d g h r a S:=e.apart ((I.refl az w).alloc o) cC
theorem iJ.WC{p:cI}{m:eT}(e:iJ O w b c d g h r a S)(j:I (λk=>S k\/V.F k) w w')(q:∀k,m k->S k\/z (G w)<=k)(t:iT V n0 h p m w'):iJ O w' b c d g h p a m:=by
 have o:=e.tf;have hF:∀k,n0<=k->¬V.F k:=λk f e=>by have:=o.aM k e;omega
 have l:∀k,k=b\/k=c\/k=d\/k=g->¬(S k\/V.F k):=by rintro k f(i|i);(have:=e.nS k i;grind);rcases f with rfl|rfl|rfl|rfl;exact hF _ e.own.1 i;exact hF _ e.own.2.1 i;exact hF _ e.own.2.2.1 i;exact hF _ e.own.2.2.2 i
 refine⟨(j.block b (ar e.br)<|l _<|.inl rfl).trans e.br,(j.block c (ar e.ba)<|l _<|.inr<|.inl rfl).trans e.ba,(j.block d (ar e.bn)<|l _<|.inr<|.inr<|.inl rfl).trans e.bn,(j.block g (ar e.bo)<|l _<|.inr<|.inr<|.inr rfl).trans e.bo,.inr t,O.eQ w w' e.inv<|j.same e.size (λk f=>⟨(O.lt w e.inv k f).2,?_⟩)<|λk f s=>?_,e.le,aB e.size j.size,e.aM,e.own,e.ra,e.rn,e.ro,e.an,e.ao,λk f=>?_,e.nO⟩;rintro(i|i);exact(e.nS k i).2.2.2.2 f;exact hF k (O.lt w e.inv k f).1 i;rcases f with i|i;have:=(o.each k<|.inr<|.inr<|.inr<|.inr<|.inl i).1;omega;exact i;rcases q k f with i|i;exact e.nS k i;refine⟨?_,?_,?_,?_,?_⟩;rintro rfl;have:=ar e.br;omega;rintro rfl;have:=ar e.ba;omega;rintro rfl;have:=ar e.bn;omega;rintro rfl;have:=ar e.bo;omega;intro n;have:=(O.lt w e.inv k n).2;omega
theorem iJ.ended(e:iJ O w b c d g h r a S)(j:I (λk=>S k\/V.F k) w w'):iJ O (cA w' (R b 0) .nilFunc) b c d g .nilFunc [] a az:=by
 have t:=e.tf;have hF:∀k,n0<=k->¬V.F k:=λk f e=>by have:=t.aM k e;omega
 have l:∀k,k=b\/k=c\/k=d\/k=g->¬(S k\/V.F k):=by rintro k f(i|i);(have:=e.nS k i;grind);rcases f with rfl|rfl|rfl|rfl;exact hF _ e.own.1 i;exact hF _ e.own.2.1 i;exact hF _ e.own.2.2.1 i;exact hF _ e.own.2.2.2 i
 have p:eG w' b h 240:=(j.block b (ar e.br)<|l _<|.inl rfl).trans e.br;have m:eG w' c (aq a) 3:=(j.block c (ar e.ba)<|l _<|.inr<|.inl rfl).trans e.ba;have n:eG w' d (aq<|y lsqq) 3:=(j.block d (ar e.bn)<|l _<|.inr<|.inr<|.inl rfl).trans e.bn;have o:eG w' g (.func (.func O.f) #[] O.cb) 406:=(j.block g (ar e.bo)<|l _<|.inr<|.inr<|.inr rfl).trans e.bo;have q:I (λk=>(S k\/V.F k)\/k=b) w (cA w' (R b 0) .nilFunc):=(j.mono (T:=λk=>(S k\/V.F k)\/k=b)<|λk f=>.inl<|.inl f).setCell b 0 _<|.inl<|.inr rfl;refine⟨p.set _,m.other _<|λs=>e.ra s.symm,n.other _<|λs=>e.rn s.symm,o.other _<|λs=>e.ro s.symm,.inl ⟨rfl,rfl,λ_ i=>i⟩,O.eQ w _ e.inv<|q.same e.size (λk f=>⟨(O.lt w e.inv k f).2,?_⟩)<|λk f u=>?_,e.le,by rw[gN];exact aB e.size j.size,e.aM,e.own,e.ra,e.rn,e.ro,e.an,e.ao,cC,e.nO⟩;rintro((i|i)|i);exact(e.nS k i).2.2.2.2 f;exact hF k (O.lt w e.inv k f).1 i;exact(e.nO k f).1 i;rcases f with(i|i)|i;have:=(t.each k<|.inr<|.inr<|.inr<|.inr<|.inl i).1;omega;exact i;have:=e.own.1;subst i;omega
theorem iJ.opened{q:ab}{o:eT}(x:a<y lsqq)(e:iJ O w b c d g .nilFunc [] a S)(j:I V.F w w')(B:iT V n0 q lsqq[a] o w')(C:∀k,o k->z (G w)<=k):iJ O (cA (cA w' (R b 0) q) (R c 0)<|aq<|(a:U)+1) b c d g q lsqq[a] (a+1) o:=by
 have hF:∀k,n0<=k->¬V.F k:=λk f i=>by have:=e.aM k i;omega
 have D:∀k,o k->k≠b/\k≠c/\k≠d/\k≠g/\¬O.S k:=λk f=>by have:=C k f;have E:=ar e.br;have F:=ar e.ba;have K:=ar e.bn;have L:=ar e.bo;exact⟨by omega,by omega,by omega,by omega,λA=>by have:=(O.lt w e.inv k A).2;omega⟩
 have v:eG w' b .nilFunc 240:=(j.block b (ar e.br)<|hF _ e.own.1).trans e.br;have s:eG w' c (aq a) 3:=(j.block c (ar e.ba)<|hF _ e.own.2.1).trans e.ba;have t:eG w' d (aq<|y lsqq) 3:=(j.block d (ar e.bn)<|hF _ e.own.2.2.1).trans e.bn;have u:eG w' g (.func (.func O.f) #[] O.cb) 406:=(j.block g (ar e.bo)<|hF _ e.own.2.2.2).trans e.bo;have l:O.inv w':=O.eQ w w' e.inv<|j.same e.size (λk f=>⟨(O.lt w e.inv k f).2,hF k (O.lt w e.inv k f).1⟩)<|λk f _=>f;have n:I (λk=>k=b\/k=c) w' (cA (cA w' (R b 0) q) (R c 0)<|aq<|(a:U)+1):=((I.refl (λk=>k=b\/k=c) w').setCell b 0 _<|.inl<|.inl rfl).setCell c 0 _<|.inl<|.inr rfl;have i:n0<=z (G w'):=aB e.size j.size;have m:∀k,(k=b\/k=c)->k<n0->V.F k:=by rintro k(rfl|rfl)A;have:=e.own.1;omega;have:=e.own.2.1;omega
 refine⟨(v.set _).other _ e.ra,(s.other _<|λp=>e.ra p.symm).set _,(t.other _<|λp=>e.rn p.symm).other _<|λp=>e.an p.symm,(u.other _<|λp=>e.ro p.symm).other _<|λp=>e.ao p.symm,.inr<|B.same<|n.same i (λk f=>⟨(B.own.each k f).2,?_⟩) m,O.eQ w' _ l<|n.same i (λk f=>⟨(O.lt w' l k f).2,?_⟩) m,x,by rw[gN,gN];exact i,e.aM,e.own,e.ra,e.rn,e.ro,e.an,e.ao,D,e.nO⟩;grind
 rintro(A|A);exact(e.nO k f).1 A;exact(e.nO k f).2.1 A
end
def tY{P:Program}{w:Z}{b:M}{u:ab}{t:TypeId}(h:eG w b u t)(v:ab)(d:v.oneCell'=ci):(store (R b 0) v).run P w=.ok () (cA w (R b 0) v):=by
 have a:=h.cell;have c:=h.free;rw[run_store P w _ _ _ d];simp[a,c]
abbrev zE:E:=⟨⟨#[]⟩,⟨#[]⟩,bj,0⟩
def RD{o:yy t b l}{i:eT}(j:uh t b (nI o c g m x X) a)(r:iJ o f c g m x d e O i)(s:t.D f)(v:I (λk=>nI o c g m x X k\/t.F k) a f)(u:¬nI o c g m x i (z<|G a))(q:E)(p:Obj):t.D ((uB f (z<|G a) q).alloc p)/\I (λk=>nI o c g m x X k\/t.F k) a ((uB f (z<|G a) q).alloc p)/\iJ o ((uB f (z<|G a) q).alloc p) c g m x d e O i:=by
 have h:I (λk=>k=z (G a)) f ((uB f (z<|G a) q).alloc p):=(iD _ _ _).alloc p;refine⟨t.eQ s h (λk n w=>by have:=j.aM k w;have:=j.size;omega),v.trans h (λk n=>.inr<|by omega),r.apart h<|λk n=>?_⟩;subst n;exact⟨u,λa=>by have:=j.size;omega⟩
def LA(bx:yy t b l)(hA:iJ bx a c g m x d e O X)(hD:t.D a)(fk:y l<=1000000000000):cD aZ 307 #[aA c,aA g,aA m,aA x] a (Out t (UO bx c g m x) (Cb e l O) (nI bx c g m x X) a):=by
 have fr:∀b a,(callFunc bx.f b).run aZ a=.ok (.enter bx.f b) a:=bx.RT;have fl:∀a,(binOp .eql 240 .nilFunc .nilFunc).run aZ a=.ok (aK ci) a:=λ_=>rfl;have fn:∀f b a,(binOp .eql 240 (.func f #[] b) .nilFunc).run aZ a=.ok (aK bj) a:=λ_ _ _=>rfl;have bt:=hA.tf;have r:=Y bt;have ck:∀k,b<=k->¬t.F k:=λk v hf=>by have:=bt.aM k hf;omega
 obtain⟨C,HA,HD⟩:=dz ck hA hD;clear hA hD bt ck;go_in
 go_wp2;go_loopg [9] (2*(y l-O)+2) (λd _ wr=>∃bb r' B S' ev,2*(y l-B)+ev<d/\((bb=.nilFunc/\r'=[])\/(ev=1/\iT t b bb r' S' wr))/\iJ bx wr c g m x bb r' B S'/\t.D wr/\I (λk=>nI bx c g m x X k\/t.F k) a wr/\Cb e l O=Cb r' l B/\(∀k,S' k->X k\/z (G a)+1<=k)/\iG wr (z<|G a) zE/\¬nI bx c g m x S' (z<|G a))
 (case atStart=>have h:=af HA;refine⟨d,e,O,X,1,by omega,?_,h.laid _,t.eQ HD (cK az a) cC,(cK _ _),rfl,λk v=>.inl v,aH _ rfl,λj=>?_⟩;(rcases(h.laid<|ay #[am ⟨#[]⟩,am ⟨#[]⟩,aK bj,aE 0] 170).row with⟨c1,c2,_⟩|j;(grind);grind);have:=(h.tf.each _ j).2;omega)
 case round=>
  obtain⟨bb,r',B,S',ev,an,dm,f,V,aa,W,ad,u,ax⟩:=hrel;have cs:=f.br.cell;have cn:=f.ba.cell;have co:=f.bn.cell;have cp:=f.bo.cell;have n1:=f.ra;have n2:¬g=c:=λer=>f.ra er.symm;have bn:=Y aa;have bk:=Y W;have T:=Y u;have cc:=Y ad;have s:=Y ax;have bi:=Y an;have bs:=ar u;have aF:=Y (show∀w1,I t.F wr w1->I (λk=>nI bx c g m x X k\/t.F k) a w1 fromλw1 h=>aa.trans h<|λk v=>.inl<|.inr v);rcases dm with⟨rfl,rfl⟩|⟨rfl,f1,D,rfl,bq,dn⟩;case' inl=>
   by_cases aV:B<y l;rotate_left
   .have bT:B=y l:=by have:=f.le;omega
    subst bT;obtain⟨ed,ef,eg,ei⟩:=u.cells;have cw:=u.free (i:=0);have cx:=u.free (i:=1);have cB:=u.free (i:=2);have cE:=u.free (i:=3);have bc:=Y f;have Q:=Y V;clear f V aa W u ad ax an;go_wp2;refine cg (fp rfl _ _ (z<|G a) zE _ _ rfl<|T.put zE) rfl ?_;have A:I (λk=>k=z (G a)) wr (uB wr (z<|G a) zE):=iD _ _ _;refine⟨.inl ⟨_,rfl,.inl ⟨?_,rfl⟩⟩,t.eQ Q A (λk v hf=>by have:=r.aM k hf;have:=r.size;omega),bn.trans A<|λk v=>.inr<|by omega⟩;rw[af bk];simp[Cb]
   have db:=bx.call B aV wr f.inv V;have cl:Cb [] l B=Cb l[B] l (B+1):=by unfold Cb;rw[bD aV,bO,de]
   have bl:=Y<|W.trans cl;obtain⟨HK,bg,bf,bc⟩:=fX (show∀k,k=c\/k=g->b<=k by rintro k(rfl|rfl);exact f.own.1;exact f.own.2.1) f.br f.ba f;clear f V aa W u ad ax an cl;go_wp2_with fail
   refine db.mono ?_;rintro er w1(⟨v1,S1,rfl,⟨f1,D,rfl,bq,dk⟩,ac,p,aD⟩|⟨fu,hX,q,rfl,hq,ac,p⟩);rotate_left
   .have Q:iG w1 (z<|G a) zE:=T.ap p<|C _ r.size;obtain⟨ed,ef,eg,ei⟩:=Q.cells;have cw:=Q.free (i:=0);have cx:=Q.free (i:=1);have cB:=Q.free (i:=2);have cE:=Q.free (i:=3);obtain⟨bT,HQ,ea,eb⟩:=fX Q hq ac p;clear Q hq ac p;go_wp2;refine cg (fp rfl _ _ (z<|G a) zE _ _ rfl<|bT.put zE) rfl ?_;have A:I (λk=>k=z (G a)) w1 (uB w1 (z<|G a) zE):=iD _ _ _;exact⟨.inl ⟨_,rfl,.inr ⟨hX,q,rfl,HQ.ap A bT.sep⟩⟩,t.eQ ea A (λk v hf=>by have:=r.aM k hf;have:=r.size;omega),(aF _ eb).trans A<|λk v=>.inr<|by omega⟩
   have hA1:=bc.opened aV p ⟨f1,D,rfl,bq,dk⟩ aD;have al:eG w1 c .nilFunc 240:=(p.block c (ar bg)<|C _<|HK _<|.inl rfl).trans bg;have S:eG w1 g (aq B) 3:=(p.block g (ar bf)<|C _<|HK _<|.inr rfl).trans bf;have dv:=tY (P:=aZ) al (.func (.func f1) #[] D) rfl;have cu:=S.cell;have cv:=S.free;have cT:=ar al;have cM:=ar S;have au:I (λk=>k=c\/k=g) w1 (cA (cA w1 (R c 0)<|.func (.func f1) #[] D) (R g 0)<|aq<|(B:U)+1):=((I.refl (λk=>k=c\/k=g) w1).setCell c 0 _<|.inl<|.inl rfl).setCell g 0 _<|.inl<|.inr rfl;have cj:=Y<|t.eQ ac au<|λk v=>C k<|HK k v;have ej:=hA1.br.cell;have o:=Y (show¬nI bx c g m x S1 (z<|G a)by
    rintro(j|j|j|j|j|j)
    .exact s<|.inl j
    .exact s<|.inr<|.inl j
    .exact s<|.inr<|.inr<|.inl j
    .exact s<|.inr<|.inr<|.inr<|.inl j
    .have:=aD _ j;omega
    .exact s (.inr (.inr (.inr (.inr (.inr j))))))
   have ca:=Y<|(T.ap p<|C _ r.size).ap au<|λj=>j.elim (λj=>s<|.inl j)<|λj=>s<|.inr<|.inl j;have ce:=Y ((aF _ p).trans au (by
    rintro k(j|j)
    .exact .inl<|.inl<|.inl j
    .exact .inl (.inl (.inr (.inl j)))))
   have bm:=Y (show∀k,S1 k->X k\/z (G a)+1<=k fromλk v=>.inr (by have:=aD k v;omega));have cb:=Y (show 2*(y l-(B+1))+1<gk by have:=af bi;omega);have w:=Y hA1;have eq:=au.size;have eo:=p.size;clear hA1 al S au ac p aD dk bc HK bg bf T s bn bk cc bi db aF;generalize l[B]=rr at*;go_wp2_with fail
   clear dv cu cv;generalize(cA (cA w1 (R c 0)<|.func (.func f1) #[] D) (R g 0)<|aq<|(B:U)+1)=eu at*;generalize B+1=dx at*;have em:z (G a)<z (G eu):=by omega
   clear cT cM eq eo aV bs;clear cs cn co cp
  case' inr=>
   have ej:=f.br.cell;obtain⟨w,cj,ce,bl,bm⟩:=jk f V aa W ad;have ca:=T;have o:=s;have cb:=Y<|show 2*(y l-B)+1<gk from an;clear f V aa W u ad ax an dn T s bn bk cc bi aF;go_wp2_with fail
   clear cs cn co cp;generalize p:wr=eu at*;clear p;generalize r'=rr at*;generalize B=dx at*;generalize S'=S1 at*;have em:=bs;clear bs
  all_goals
   have ds:Ax t b f1 D rr S1 eu:=by
    rcases w.row with⟨j,_⟩|⟨f2,ex,en,_,ba⟩
    .cases j
    .cases en;exact ba
   refine(ds.call cj).mono ?_;rintro er w2⟨dc,ch,ao⟩;have cm:I (λk=>nI bx c g m x X k\/t.F k) a w2:=ce.trans ao (by
    rintro k(j|j)
    .rcases bm k j with dT|dT
     .exact .inl<|.inl<|.inr<|.inr<|.inr<|.inr<|.inl dT
     .exact .inr<|by omega
    .exact .inl (.inr j))
   have F:iG w2 (z<|G a) zE:=ca.ap ao<|λj=>j.elim (λj=>o<|.inr<|.inr<|.inr<|.inr<|.inl j)<|C _ r.size;have aU:eG w2 c (.func (.func f1) #[] D) 240:=(ao.block c (ar w.br)<|λj=>j.elim (λj=>(w.nS c j).1 rfl)<|λj=>C _ w.own.1 j).trans w.br;have A:=λx:E=>(iD w2 (z<|G a) x).alloc<|ay #[am x.key,am x.val,aK x.del,aE x.bJ] 170;have bu:z (G a)≠c:=λj=>o<|.inl j;obtain⟨ey,eA,eB,fb⟩:=F.cells;have fd:=F.free (i:=0);have fe:=F.free (i:=1);have ff:=F.free (i:=2);have fg:=F.free (i:=3);have es:=ar F;obtain⟨av,bh,bo,bp,HT⟩:=jk F ch cm A ao;clear F ch cm A ao ds;rcases dc with⟨fs,rfl,⟨ek,rfl⟩|⟨hX,q,rfl,hq⟩⟩|⟨⟨L,N,K,n⟩,r2,S2,el,rfl,br,ba⟩
   .subst ek;have et:=tY (P:=aZ) (aU.alloc<|ay #[am ⟨#[]⟩,am ⟨#[]⟩,aK bj,aE 0] 170) .nilFunc rfl;have bd:=Y<|w.ended<|HT.alloc<|ay #[am ⟨#[]⟩,am ⟨#[]⟩,aK bj,aE 0] 170;clear aU;unfold bE vP;go_wp2;go_roundg(2*(y l-dx)+1);case measure=>exact cb
    case rel=>
     have bv:I (λk=>k=c) w2 (cA (cG w2<|ay #[am ⟨#[]⟩,am ⟨#[]⟩,aK bj,aE 0] 170) (R c 0) .nilFunc):=((I.refl (λk=>k=c) w2).alloc _).setCell c 0 _<|.inl rfl;refine⟨.nilFunc,[],dx,λ_=>False,0,by omega,.inl ⟨rfl,rfl⟩,bd,t.eQ bh bv (λk v=>by rw[v];exact C _ w.own.1),bo.trans bv<|λk v=>.inl<|.inl<|.inl v,bl,cC,av.ap bv bu,?_⟩;rintro(j|j|j|j|j|j)
     .exact bu j
     .exact o<|.inr<|.inl j
     .exact o<|.inr<|.inr<|.inl j
     .exact o<|.inr<|.inr<|.inr<|.inl j
     .exact j
     .exact o<|.inr<|.inr<|.inr<|.inr<|.inr j
   .have HQ:=Y hq;clear hq aU;unfold bE vP;go_wp2;refine cg (fp rfl _ _ (z<|G a) zE _ _ rfl<|(av.put zE).alloc _) rfl ?_;exact⟨.inl ⟨_,rfl,.inr ⟨hX,q,rfl,HQ.ap (bp zE) av.sep⟩⟩,t.eQ bh (bp zE) (λk v hf=>by have:=r.aM k hf;have:=r.size;omega),bo.trans (bp zE)<|λk v=>.inr<|by omega⟩
   .subst el;have bd:=Y<|w.WC HT br ⟨f1,D,rfl,bq,ba⟩;have cd:=Y br;clear br ba aU;unfold E.value;simp only;go_wp2;refine cg (fp rfl _ _ (z<|G a) ⟨L,N,K,n⟩ _ _ rfl<|(av.put ⟨L,N,K,n⟩).alloc _) rfl ?_;have ec:¬nI bx c g m x S2 (z<|G a):=by
     rintro(j|j|j|j|j|j)
     .exact bu j
     .exact o<|.inr<|.inl j
     .exact o<|.inr<|.inr<|.inl j
     .exact o<|.inr<|.inr<|.inr<|.inl j
     .rcases cd _ j with dT|dT
      .exact o<|.inr<|.inr<|.inr<|.inr<|.inl dT
      .omega
     .exact o<|.inr<|.inr<|.inr<|.inr<|.inr j
    obtain⟨q1,q2,q3⟩:=RD r bd bh bo ec ⟨L,N,K,n⟩<|ay #[am L,am N,aK K,aE n] 170;refine⟨.inr ⟨⟨L,N,K,n⟩,_,_,bl,rfl,λk v=>?_,_,r2,dx,S2,rfl,rfl,q3⟩,q1,q2⟩;rcases v with j|j|j|j|j|j
    .exact .inl<|.inl j
    .exact .inl<|.inr<|.inl j
    .exact .inl<|.inr<|.inr<|.inl j
    .exact .inl<|.inr<|.inr<|.inr<|.inl j
    .rcases cd k j with dT|dT
     .rcases bm k dT with er|er
      .exact .inl<|.inr<|.inr<|.inr<|.inr<|.inl er
      .exact .inr<|by omega
     .exact .inr<|by omega
    .exact .inl<|.inr<|.inr<|.inr<|.inr<|.inr j
def Oa(O:yy t b l)(f c d e:M)(i:y l<=1000000000000)(a:ab)(r:cI)(h:M)(S:eT)(w:Z)(k:iJ O w f c d e a r h S):Ax t b 307 #[aA f,aA c,aA d,aA e] (Cb r l h) (nI O f c d e S) w:=by
 refine Ax.of (UO O f c d e) ?_ ?_ ?_ ⟨a,r,h,S,rfl,rfl,k⟩;rintro n S w⟨a,r,h,g,rfl,rfl,j⟩;exact j.tf;rintro n S w o⟨a,r,h,g,rfl,rfl,j⟩m;exact⟨a,r,h,g,rfl,rfl,j.same m⟩;rintro n S w⟨a,r,h,g,rfl,rfl,j⟩m;exact LA O j m i
def GD(O:yy t b l)(w:Z)(a:O.inv w)(o:b<=z (G w))(hF:∀k,t.F k->k<b)(e:y l<=1000000000000):cD aZ 302 #[aq<|y l,.func (.func O.f) #[] O.cb] w λq j=>∃i f,q=aJ i/\iT t b i l.flatten f j/\Below (z<|G w) w j/\(∀k,f k->O.S k\/z (G w)<=k):=by
 have n:=Y a;have m:=Y hF;clear a hF;go_in
 go_wp2;go_ret;have a:=af n;have g:Below (z<|G w) w (cG (cG (cG (cG w<|ay #[aq<|y l] 3)<|ay #[.func (.func O.f) #[] O.cb] 406)<|ay #[aq 0] 3)<|ay #[.nilFunc] 240):=((((Below.refl _ w).alloc (ai _) _).alloc (by simp) _).alloc (by simp;omega) _).alloc (by simp;omega) _;have p:I az w _:=I.aQ g;refine⟨_,nI O (z (G w)+1+1+1) (z (G w)+1+1) (z<|G w) (z (G w)+1) az,rfl,⟨307,_,rfl,enters_of func307 (by kernel_rfl) rfl,?_⟩,g,?_⟩;refine Oa O _ _ _ _ e .nilFunc [] 0 _ _ ⟨aH _ (by simp),?_,?_,?_,.inl ⟨rfl,rfl,λ_ c=>c⟩,O.eQ w _ a<|p.same o (λk d=>⟨(O.lt w a k d).2,λc=>c⟩) cC,bG _,by simp;omega,m,⟨by omega,by omega,by omega,by omega⟩,by omega,by omega,by omega,by omega,by omega,cC,λk d=>?_⟩;exact eG.alloc (aH _<|by simp) _;(grind[eG.alloc,aH]);exact eG.alloc (eG.alloc (aH _<|by simp) _) _;have:=(O.lt w a k d).2;grind
 rintro k(c|c|c|c|c|c);(grind);(grind);(grind);(grind);exact c.elim;exact .inl c
structure Hd where
 v:ab
 l:cI
 fr:E
 full:Bool
 ended:Bool
 S:M->Prop
def Hd.cells(h:Hd):iF:=[h.v,.string h.fr.key,.string h.fr.val,.bool h.fr.del,.int .u64 h.fr.bJ,.bool h.full,.bool h.ended]
def dX(hs:cS Hd):iF:=hs.flatMap Hd.cells
def Hd.rest(h:Hd):cI:=if h.full then h.fr::h.l else h.l
theorem mH(hs:cS Hd):y (dX hs)=y hs*7:=by
 induction hs with
 |nil=>rfl
 |cons h r c=>unfold dX at*;rw[dI,ag,c];simp[Hd.cells];omega
theorem pN(hs:cS Hd)(i:M)(h:i<y hs):dX hs=dX (hs.take i)++(Hd.cells hs[i]++dX (hs.drop<|i+1)):=by
 have c:hs=hs.take i++hs[i]::hs.drop (i+1):=by rw[<-bD h,bX]
 conv=>lhs;rw[c]
 simp only[dX,fV,dI]
theorem rU(hs:cS Hd)(i j:M)(h:i<y hs)(d:j<7):(dX hs)[i*7+j]?=(Hd.cells hs[i])[j]?:=by
 have c:y (dX<|hs.take i)=i*7:=by rw[mH];simp;omega
 rw[pN hs i h,eV (by omega),c,show i*7+j-i*7=j by omega,gP (by simp[Hd.cells];omega)]
theorem Ip(hs:cS Hd)(i:M)(h:i<y hs)(x:Hd)(e:x.v=hs[i].v):(((((((dX hs).set (i*7+1)<|.string x.fr.key).set (i*7+2)<|.string x.fr.val).set (i*7+3)<|.bool x.fr.del).set (i*7+4)<|.int .u64 x.fr.bJ).set (i*7+5)<|.bool x.full).set (i*7+6)<|.bool x.ended)=dX (hs.set i x):=by
 have d:y (dX<|hs.take i)=i*7:=by rw[mH];simp;omega
 have c:dX (hs.set i x)=dX (hs.take i)++(Hd.cells x++dX (hs.drop<|i+1)):=by rw[gV,dV h];simp only[dX,fV,dI]
 rw[c,pN hs i h];rw[gw _ _ (by omega),gw _ _ (by omega),gw _ _ (by omega),gw _ _ (by omega),gw _ _ (by omega),gw _ _ (by omega),d];rw[show i*7+1-i*7=1 by omega,show i*7+2-i*7=2 by omega,show i*7+3-i*7=3 by omega,show i*7+4-i*7=4 by omega,show i*7+5-i*7=5 by omega,show i*7+6-i*7=6 by omega];simp[Hd.cells,e]
theorem Fe(hs:cS Hd)(i:M)(h:i<y hs)(x:Hd)(e:x={hs[i]with full:=x.full}):(dX hs).set (i*7+5) (.bool x.full)=dX (hs.set i x):=by
 have d:y (dX<|hs.take i)=i*7:=by rw[mH];simp;omega
 have c:dX (hs.set i x)=dX (hs.take i)++(Hd.cells x++dX (hs.drop<|i+1)):=by rw[gV,dV h];simp only[dX,fV,dI]
 rw[c,pN hs i h,gw _ _ (by omega),d,show i*7+5-i*7=5 by omega];rw[e];simp[Hd.cells]
structure RP(V:iL)(n0:M)(w:Z)(h:Hd):Prop where
 gives:h.ended=bj->iT V n0 h.v h.l h.S w
 own:uh V n0 h.S w
 done:h.ended=ci->h.l=[]/\h.full=bj
theorem RP.same{V:iL}{n0:M}{w w':Z}{h:Hd}(o:RP V n0 w h)(hs:kw V n0 h.S w w'):RP V n0 w' h:=⟨λe=>(o.gives e).same hs,o.own.same hs,o.done⟩
structure jm(V:iL)(n0:M)(w:Z)(b a:M)(hs:cS Hd):Prop where
 box:eG w b (aY a 0 (y hs)<|y hs) 359
 row:w.heap[a]?=H (.cells (dX hs).toArray 361 (0,0))
 each:∀i(hi:i<y hs),RP V n0 w hs[i]
 size:n0<=z (G w)
 aM:∀k,V.F k->k<n0
 own:n0<=b/\n0<=a
 bh:b≠a
 nS:∀i(hi:i<y hs)k,hs[i].S k->k≠b/\k≠a
 Lp:∀i j(hi:i<y hs)(hj:j<y hs),i≠j->∀k,hs[i].S k->¬hs[j].S k
def lH(b a:M)(hs:cS Hd)(k:M):Prop:=k=b\/k=a\/∃i,∃c:i<y hs,hs[i].S k
section
variable{V:iL}{n0:M}{w w':Z}{b a:M}{hs:cS Hd}
theorem jm.tf(h:jm V n0 w b a hs):uh V n0 (lH b a hs) w:=⟨h.size,h.aM,by
 rintro k(rfl|rfl|⟨i,c,d⟩)
 .exact⟨h.own.1,ar h.box⟩
 .exact⟨h.own.2,ar h.row⟩
 .exact(h.each i c).own.each k d⟩
theorem jm.same(h:jm V n0 w b a hs)(c:kw V n0 (lH b a hs) w w'):jm V n0 w' b a hs:=⟨h.box.same c<|.inl rfl,(c.2 a<|.inr<|.inr<|.inl rfl).trans h.row,λi d=>(h.each i d).same<|c.mono<|λ_ e=>.inr<|.inr ⟨i,d,e⟩,aB h.size c.1,h.aM,h.own,h.bh,h.nS,h.Lp⟩
theorem jm.apart{T:eT}(h:jm V n0 w b a hs)(f:I T w w')(e:∀k,T k->¬lH b a hs k/\(k<n0->V.F k)):jm V n0 w' b a hs:=h.same<|f.same h.size (λk c=>⟨(h.tf.each k c).2,λg=>(e k g).1 c⟩)<|λk c d=>(e k c).2 d
theorem jm.laid(h:jm V n0 w b a hs)(o:Obj):jm V n0 (cG w o) b a hs:=h.apart ((I.refl az w).alloc o) cC
theorem jm.put(h:jm V n0 w b a hs)(l:M)(j:l<y hs)(B:Hd)(x:I (λk=>(hs[l].S k\/V.F k)\/k=a) w w')(C:w'.heap[a]?=H (.cells (dX<|hs.set l B).toArray 361 (0,0)))(D:RP V n0 w' B)(r:∀k,B.S k->hs[l].S k\/z (G w)<=k):jm V n0 w' b a (hs.set l B):=by
 have hF:∀k,n0<=k->¬V.F k:=λk c d=>by have:=h.aM k d;omega
 have s:eG w' b (aY a 0 (y hs)<|y hs) 359:=by refine(x.block b (ar h.box) ?_).trans h.box;rintro((d|d)|d);exact(h.nS l j b d).1 rfl;exact hF b h.own.1 d;exact h.bh d
 refine⟨by rw[gU];exact s,C,λo t=>?_,aB h.size x.size,h.aM,h.own,h.bh,λo t k c=>?_,λn m u v i k c=>?_⟩;rw[lQ];split;exact D;rename_i i;(have e:o<y hs:=by simpa using t);refine(h.each o e).same<|x.same h.size (λk c=>⟨((h.each o e).own.each k c).2,?_⟩)<|λk c g=>?_;rintro((d|d)|d);exact h.Lp l o j e i k d c;exact hF k ((h.each o e).own.each k c).1 d;exact(h.nS o e k c).2 d;rcases c with(d|d)|d;have:=((h.each l j).own.each k d).1;omega;exact d;have:=h.own.2;omega;rw[lQ]at c;split at c;(rcases r k c with d|d;exact h.nS l j k d;have e:=ar h.box;have g:=ar h.row;grind);exact h.nS o (by simpa using t) k c;rw[lQ]at c|-;(have e:n<y hs:=by simpa using u);(have g:m<y hs:=by simpa using v);split at c;rename_i q;have A:¬l=m:=λd=>i<|q.symm.trans d;rw[eI A];rcases r k c with d|d;exact h.Lp l m j g A k d;intro c2;have:=((h.each m g).own.each k c2).2;omega;rename_i q;split;intro c2;rcases r k c2 with d|d;exact h.Lp l n j e q k d c;have:=((h.each n e).own.each k c).2;omega;exact h.Lp n m e g i k c
end
