import Derived.Deep.LoopGhost
import Derived.Deep.RegionHeld3
import Derived.Laws.Rows
import Derived.LoopIn
import Derived.LoopNIn
import Derived.RangeFuncBound
import Derived.RangeFuncLeaves
import Derived.RangeFuncNested
import Derived.Shelf.Abstract
import Derived.Shelf.AbstractIn
import Derived.Shelf.RegionOpen
import Derived.Sort.LoopGhostIn
import Derived.TacticsInMore
import Derived.Test.YtceammfgahaodaaGreatDoorC1
import Derived.Test.YtceammfgahaodaaGreatDoorC2
open _root_ renaming List.length→z,Option.some→M,Array.size→G,Go.World.heap→H,Go.Value.ownBlock→bY,Go.World.cell?→aS,Go.World.setCell→ct,Go.World.alloc→cF,Bool.false→bF,Bool.true→bX,Nat→R,Int→Y,List→cD,Go.Calls→cA,Go.undef→iE,Go.Proofs.Tryz.prog→bG,Go.Value.slice→ah,Go.Value.string→aj,Go.Value.bool→aO,Go.Value.pointer→fA,Go.Value.tuple→dE,Go.Value.agg→eB
namespace Go.Proofs.YtceammfgahaodaaGreatDoor
open ChangeShapes WideShapes RowKit Proofs.Tryz
set_option maxHeartbeats 16000000
set_option linter.all false
set_option maxRecDepth 100000
variable{a f B:I}{b c g l y P:R}{d t L V:aa}{e K:cK}{k:dX}{m:Y}{o:eP}{X:fN}{v W:ab}{w:E}{x:jd}{C:Bool}{S:Type}{T:Array aa}
def E.value(e:E):aa:=eB #[aj e.key,aj e.val,aO e.del,aL e.bK]
def E.cells(e:E):jd:=[aj e.key,aj e.val,aO e.del,aL e.bK]
def pm(d:Bool):Y:=if d then 1 else 0
def eC(s:ab):eP:=(s.size:Y)::kJ s
def oh(e:E):eP:=pm e.del::(eC e.key++eC e.val)
def eY.ne(h:eY a B d t)(c:bY d≠M b)(g:b<G (H a)):bY t≠M b:=by
 rcases h.uq with e|⟨j,e,i⟩;rw[e];exact c;rw[e];simp;omega
def eY.cell{w w':I}(h:eY w w' d L){N i:R}(a:aS w (U N i)=M V)(c:bY d≠M N):aS w' (U N i)=M V:=h.grown.cell a<|λe=>c e.symm
def eQ.lt{bs:eP}(h:eQ a c d bs):∀k,bY d=M k->c<=k/\k<G (H a):=aI h
def eQ.of_heap{w w':I}(h:eQ w b d o)(e:w'.heap=w.heap):eQ w' b d o:=by
 unfold eQ World.ownsRow at*;rw[e];exact h
def eY.of_heap{a w w':I}(h:eY w w' d t)(e:(a.os,a.tape,a.output,a.heap)=(w.os,w.tape,w.output,w.heap)):eY a w' d t:=by
 simp only[hZ]at e;obtain⟨g,i,j,b⟩:=e;refine⟨⟨by rw[h.grown.os,g],by rw[h.grown.tape,i],by rw[h.grown.output,j],by rw[b];exact h.grown.size,λl e k=>by rw[b]at e|-;exact h.grown.block l e k⟩,by rw[b];exact h.uq⟩
def eY.Io{o:Obj}(h:eY (a.alloc o).drew f d t):eY a f d t:=(eY.of_heap (a:=a.alloc o) h rfl).alloc o
def PP(a:R)(ac:aa)(s:eP)(ad:E)(w:I)(p:eQ w a ac s)(hb:a<=G (H w))(hl:z s<=35184372088832)(Q:ad.key.size<=255)(T:ad.val.size<=255):cA bG 185 #[ac,ad.value] w λC w'=>∃W,C=aP W/\eQ w' a W (s++oh ad)/\eY w w' ac W:=by
 obtain⟨d,e,A,k⟩:=ad;simp only at Q T;unfold E.value;simp only;have i:bY ac≠M (G<|H w):=λC=>by have:=(p.lt _ C).2;omega
 have O0:=Z<|p.alloc<|aw #[aj d,aj e,aO A,aL k] 164;clear p;cases A with
 |true=>
  go_in
  go_wp2_with fail
  go_region_held3(λj=>aS j (U (G<|H w) 0)=M (aj d)/\aS j (U (G<|H w) 1)=M (aj e)) (first|assumption|go_keep) (first
   |(go_at_call 184;refine(uf a ac s 1 _ ?_ (by simp;omega)<|by omega).mono ?_;exact O0.of_heap rfl;rintro C x⟨u,rfl,m,b⟩;have g:bY u≠M (G<|H w):=b.ne i (by simp);have q:aS x (U (G<|H w) 0)=M (.string d)/\aS x (U (G<|H w) 1)=M (.string e):=⟨b.cell (by simp) i,b.cell (by simp) i⟩;have t:G (H w)<G (H x):=(by have:=b.grown.size;simp at this;omega);have D:=Z m;have L:=Z b;clear m b)
   |(go_at_call_of 228 u;refine(pI a u (s++[1]) d _ ?_ (by omega) ?_ Q).mono ?_;exact D.of_heap rfl;(simp;omega);rintro C y⟨v,rfl,n,c⟩;have l:bY v≠M (G<|H w):=c.ne g t;have r:aS y (U (G<|H w) 0)=M (.string d)/\aS y (U (G<|H w) 1)=M (.string e):=⟨c.cell q.1 g,c.cell q.2 g⟩;have V:G (H w)<G (H y):=(by have:=c.grown.size;omega);have F:=Z n;have N:=Z<|L.trans c;clear n c)
   |(go_at_call_of 228 v;refine(pI a v (s++[1]++eC d) e _ ?_ (by omega) ?_ T).mono ?_;exact F.of_heap rfl;(simp[eC,ic];omega);rintro C B⟨X,rfl,o,f⟩;have S:aS B (U (G (H w)) 0)=M (.string d)/\aS B (U (G (H w)) 1)=M (.string e):=⟨f.cell r.1 l,f.cell r.2 l⟩;have K:=Z o;have O:=Z (N.trans f);clear o f))
  go_wp2;go_ret;refine⟨X,rfl,?_,O.Io⟩;have P:=ae K;simpa[oh,pm,eC,aW]using P
 |false=>
  go_in
  go_wp2_with fail
  go_region_held3(λj=>aS j (U (G<|H w) 0)=M (aj d)/\aS j (U (G<|H w) 1)=M (aj e)) (first|assumption|go_keep) (first
   |(go_at_call 184;refine(uf a ac s 0 _ ?_ (by simp;omega)<|by omega).mono ?_;exact O0.of_heap rfl;rintro C x⟨u,rfl,m,b⟩;have g:bY u≠M (G<|H w):=b.ne i (by simp);have q:aS x (U (G<|H w) 0)=M (.string d)/\aS x (U (G<|H w) 1)=M (.string e):=⟨b.cell (by simp) i,b.cell (by simp) i⟩;have t:G (H w)<G (H x):=(by have:=b.grown.size;simp at this;omega);have D:=Z m;have L:=Z b;clear m b)
   |(go_at_call_of 228 u;refine(pI a u (s++[0]) d _ ?_ (by omega) ?_ Q).mono ?_;exact D.of_heap rfl;(simp;omega);rintro C y⟨v,rfl,n,c⟩;have l:bY v≠M (G<|H w):=c.ne g t;have r:aS y (U (G<|H w) 0)=M (.string d)/\aS y (U (G<|H w) 1)=M (.string e):=⟨c.cell q.1 g,c.cell q.2 g⟩;have V:G (H w)<G (H y):=(by have:=c.grown.size;omega);have F:=Z n;have N:=Z<|L.trans c;clear n c)
   |(go_at_call_of 228 v;refine(pI a v (s++[0]++eC d) e _ ?_ (by omega) ?_ T).mono ?_;exact F.of_heap rfl;(simp[eC,ic];omega);rintro C B⟨X,rfl,o,f⟩;have S:aS B (U (G (H w)) 0)=M (.string d)/\aS B (U (G (H w)) 1)=M (.string e):=⟨f.cell r.1 l,f.cell r.2 l⟩;have K:=Z o;have O:=Z (N.trans f);clear o f))
  go_wp2;go_ret;refine⟨X,rfl,?_,O.Io⟩;have P:=ae K;simpa[oh,pm,eC,aW]using P
def qt{b:Bool}(h:C=b):Ending.returned (aO C)=aP (aO b):=by rw[h]
def rf(s:ab)(w:I)(f:s.size<=140737488351232):cA bG 68 #[aj s] w λe d=>e=aP (aO<|decide<|1<=s.size/\s.size<=8)/\d=w:=by
 by_cases b:1<=s.size;(.by_cases c:s.size<=8;(·(have a:decide (1<=s.size/\s.size<=8)=bX:=by simp[b,c]);rw[a];(go_in);go_wp2;go_ret;exact⟨qt (by simp;omega),rfl⟩);(have a:decide (1<=s.size/\s.size<=8)=bF:=by simp[b,c]);rw[a];(go_in);go_wp2;go_ret;exact⟨qt (by simp;omega),rfl⟩);(have a:decide (1<=s.size/\s.size<=8)=bF:=by simp[b]);rw[a];(go_in);go_wp2;go_ret;exact⟨rfl,rfl⟩
def xQ(s:ab)(w:I)(d:s.size<=140737488351232):cA bG 69 #[aj s] w λe c=>e=aP (aO<|decide<|s.size<=16)/\c=w:=by
 by_cases b:s.size<=16;(·(have a:decide (s.size<=16)=bX:=by simp[b]);rw[a];(go_in);go_wp2;go_ret;exact⟨qt (by simp;omega),rfl⟩);(have a:decide (s.size<=16)=bF:=by simp[b]);rw[a];(go_in);go_wp2;go_ret;exact⟨qt (by simp;omega),rfl⟩
structure E.Good(x:E):Prop where
 UO:1<=x.key.size
 Me:x.key.size<=8
 val:x.val.size<=16
 del:x.del=bX->x.val=⟨#[]⟩
 b0:0<=x.bK
 b1:x.bK<18446744073709551616
def mY(a b:eP):jV (a++b) bF (z a)=(b,bF,a):=by
 unfold jV;rw[dh<|by simp];simp
def vQ(s:ab)(b:eP):DE (eC s++b) bF=(b,bF,kJ s)/\num (eC s++b) bF 1=s.size:=by
 have a:jV (eC s++b) bF 1=(kJ s++b,bF,[(s.size:Y)]):=by have:=mY [(s.size:Y)]<|kJ s++b;simpa[eC]using this
 have c:num (eC s++b) bF 1=s.size:=by unfold num;rw[a];simp[mM]
 refine⟨?_,c⟩;unfold DE;simp only[a,c];have:=mY (kJ s) b;rw[ic]at this;simpa using this
def Mc(d:Bool)(b:eP):jV (pm d::b) bF 1=(b,bF,[pm d])/\num (pm d::b) bF 1=pm d:=by
 have h:=mY [pm d] b;have a:jV (pm d::b) bF 1=(b,bF,[pm d]):=by simpa using h
 exact⟨a,by unfold num;rw[a];simp[mM]⟩
structure jr where
 D:I->Prop
 F:R->Prop
 fq:∀{w w':I}{S:fN},D w->J S w w'->(∀k,S k->¬F k)->D w'
 lt:∀{w:I}{k:R},D w->F k->k<G (H w)
variable{u:jr}
def jL(V:jr)(b:R)(S:fN)(w a:I):Prop:=G (H w)<=G (H a)/\∀k,((k<b/\¬V.F k)\/S k)->a.heap[k]?=w.heap[k]?
def jL.refl(V:jr)(a:R)(S:fN)(w:I):jL V a S w w:=⟨ai _,λ_ _=>rfl⟩
def jL.trans{S:fN}{d b e:I}(h:jL u c S d b)(k:jL u c S b e):jL u c S d e:=⟨aF h.1 k.1,λi a=>(k.2 i a).trans<|h.2 i a⟩
def jL.mono{S T:fN}{e b:I}(h:jL u c S e b)(a:∀k,T k->S k):jL u c T e b:=⟨h.1,λi d=>h.2 i<|d.imp id<|a i⟩
def jL.cell{a b:I}(h:jL u c X a b){k i:R}(g:X k\/(k<c/\¬u.F k))(e:aS a (U k i)=M d):aS b (U k i)=M d:=(cP (w:=a)<|h.2 k g.symm).trans e
def J.same{V:jr}{n0:R}{S T:fN}(h:J T a f)(i:n0<=G (H a))(c:∀k,S k->k<G (H a)/\¬T k)(e:∀k,T k->k<n0->V.F k):jL V n0 S a f:=by
 refine⟨h.size,λk g=>?_⟩;rcases g with⟨b,d⟩|b;exact h.block k (by omega)<|λc=>d<|e k c b;exact h.block k (c k b).1 (c k b).2
def aE{w:I}(o:Obj)(h:c=G (H w)):(cF w o).heap[c]?=M o:=by
 subst h;show(w.heap.push o)[G<|H w]?=M o;simp
def ga{w:I}(o:Obj)(h:b<G (H w)):(cF w o).heap[b]?=w.heap[b]?:=Below.heap_alloc w o b h
def iC(u:aa)(h:b≠c):(ct a (U c g) u).heap[b]?=a.heap[b]?:=Below.heap_setCell a (U c g) u b h
def gE{b i:R}:G (H<|ct a (U b i) d)=G (H a):=by simp[World.setCell]
abbrev er(w:I)(b:R)(v:aa)(t:TypeId):Prop:=w.heap[b]?=M (aw #[v] t (0,0))
def er.cell{b:R}{t:TypeId}(h:er a b d t):aS a (U b 0)=M d:=by rw[bL h];rfl
def er.free{t:TypeId}(h:er a b d t):a.frozen? (U b 0)=bF:=dW h
def er.set{t:TypeId}(h:er a b d t)(u:aa):er (ct a (U b 0) u) b u t:=(aT h).trans rfl
def er.other{t:TypeId}(h:er a b d t){b' i:R}(u:aa)(c:b≠b'):er (ct a (U b' i) u) b d t:=(iC u c).trans h
def er.alloc{w:I}{b:R}{t:TypeId}(h:er w b d t)(o:Obj):er (cF w o) b d t:=(ga o<|am h).trans h
def ix(w:I)(b:R)(x:E):Prop:=w.heap[b]?=M (aw #[aj x.key,aj x.val,aO x.del,aL x.bK] 164 (0,0))
def ix.cells(h:ix a b w):aS a (U b 0)=M (aj w.key)/\aS a (U b 1)=M (aj w.val)/\aS a (U b 2)=M (aO w.del)/\aS a (U b 3)=M (aL w.bK):=by
 refine⟨?_,?_,?_,?_⟩<;>rw[bL h]<;>rfl
def ix.free{b i:R}(h:ix a b w):a.frozen? (U b i)=bF:=dW h
def ix.alloc{w:I}{b:R}{x:E}(h:ix w b x)(o:Obj):ix (cF w o) b x:=(ga o<|am h).trans h
def ix.ay{d w':I}{b:R}{S:fN}(h:ix d b w)(c:J S d w')(a:¬S b):ix w' b w:=(c.block b (am h) a).trans h
def ix.put{b:R}(h:ix a b w)(c:E):ix (ct (ct (ct (ct a (U b 0)<|aj c.key) (U b 1)<|aj c.val) (U b 2)<|aO c.del) (U b 3)<|aL c.bK) b c:=(aT<|aT<|aT<|aT h).trans rfl
def fZ{c:Func}{p u v:Tmp}(i:c.results=#[.cell p 164,.tmp u,.tmp v])(a:Array aa)(w:I)(g:R)(x:E)(t:TypeId)(d:R×R)(h:a.getD p iE=aA g)(e:w.heap[g]?=M (aw #[aj x.key,aj x.val,aO x.del,aL x.bK] t d)):(results c a).run bG w=.ok (dE #[x.value,a.getD u iE,a.getD v iE]) w:=by
 have b:a[p]?.getD iE=aA g:=by simpa using h
 have f:=lO (P:=bG) w g t 164 #[aj x.key,aj x.val,aO x.del,aL x.bK] d _ e underlying164 rfl (by kernel_rfl);simp[results,i,b,asAddr,f,Result.andThen,E.value]
def wX:aa:=eB #[aj ⟨#[]⟩,aj ⟨#[]⟩,aO bF,aL 0]
structure vE(V:jr)(n0:R)(S:fN)(w:I):Prop where
 size:n0<=G (H w)
 aN:∀k,V.F k->k<n0
 each:∀k,S k->n0<=k/\k<G (H w)
def Ir(V:jr)(c g:R)(d:Array aa):cK->fN->I->Prop
 |[],S,w=>vE V c S w/\∀b,jL V c S w b->V.D b->cA bG g d b λf a=>f=aP (dE #[wX,aO bF,.nilIface])/\V.D a/\J (λk=>S k\/V.F k) b a
 |x::l,S,w=>vE V c S w/\∀b,jL V c S w b->V.D b->cA bG g d b λf a=>f=aP (dE #[x.value,aO bX,.nilIface])/\V.D a/\J (λk=>S k\/V.F k) b a/\∃e,(∀k,e k->S k\/G (H b)<=k)/\Ir V c g d l e a
def vE.apart(h:vE u b X a):∀k,X k->¬u.F k:=λk d c=>by have:=h.aN k c;have:=(h.each k d).1;omega
def vE.ay{S T:fN}{w w':I}(h:vE u c S w)(d:J T w w'):vE u c S w':=⟨aF h.1 d.size,h.aN,λk a=>⟨(h.each k a).1,ag (h.each k a).2 d.size⟩⟩
def vE.same{V:jr}{n0:R}{S:fN}(h:vE V n0 S a)(c:jL V n0 S a f):vE V n0 S f:=⟨aF h.1 c.1,h.aN,λk b=>⟨(h.each k b).1,ag (h.each k b).2 c.1⟩⟩
def Ir.own{c f:R}{d:Array aa}(h:Ir u c f d e X a):vE u c X a:=by
 cases e<;>exact h.1
def Ir.same{V:jr}{n0 i:R}{S:fN}(h:Ir V n0 i T e S a)(b:jL V n0 S a f):Ir V n0 i T e S f:=by
 cases e with
 |nil=>exact⟨h.1.same b,λg c d=>h.2 g (b.trans c) d⟩
 |cons x e=>exact⟨h.1.same b,λg c d=>h.2 g (b.trans c) d⟩
def jm(V:jr)(c:R)(v:aa)(l:cK)(S:fN)(w:I):Prop:=∃f b,v=.func (.func f) #[] b/\(∀a w,(callFunc f a).run bG w=.ok (.enter f a) w)/\Ir V c f b l S w
def jm.same{V:jr}{n0:R}{S:fN}(k:jm V n0 d e S a)(i:jL V n0 S a f):jm V n0 d e S f:=by
 obtain⟨j,b,c,g,h⟩:=k;exact⟨j,b,c,g,h.same i⟩
def jm.own(j:jm u c d e X a):vE u c X a:=by
 obtain⟨f,h,k,l,g⟩:=j;exact g.own
def Ca(x a:E)(w:I):cA bG 195 #[x.value,a.value] w λe f=>e=aP (aO<|ahead x a)/\f=cF (cF w<|aw #[aj x.key,aj x.val,aO x.del,aL x.bK] 164) (aw #[aj a.key,aj a.val,aO a.del,aL a.bK] 164):=by
 have b:ahead x a=(Op.bytesLess x.key.toList a.key.toList||((x.key.toList==a.key.toList)&&decide (a.bK<x.bK))):=by unfold ahead im;congr 2;rw[wC];simp only[beq_iff_eq,js];exact⟨λe=>by rw[e],JT⟩
 rw[b];clear b;obtain⟨c,j,i,g⟩:=x;obtain⟨d,m,l,k⟩:=a;unfold E.value;simp only;cases h1:Op.bytesLess c.toList d.toList with
 |true=>
  go_in
  go_wp2;go_ret;exact⟨rfl,rfl⟩
 |false=>
  cases h2:(c.toList==d.toList)with
  |true=>
   go_in
   go_wp2;go_ret;exact⟨by simp,rfl⟩
  |false=>
   go_in
   go_wp2;go_ret;exact⟨by simp,rfl⟩
def zw{f:R}(A:Array aa)(o:R)(p:R->Bool)(w:I)(C:Enters bG f)(hn:o<=1000000000000)(E:∀ac P,ac<=P->P<o->p ac=bX->p P=bX)(D:∀j,j<o->∀W,Below (G<|H w) w W->cA bG f (#[aq j]++A) W λB O=>B=aP (aO<|p j)/\Below (G<|H W) W O):cA bG 224 #[aq o,.func (.func f) #[] A] w λB V=>∃L:R,B=aP (aq L)/\L<=o/\(∀j,j<L->p j=bF)/\(∀j,L<=j->j<o->p j=bX)/\Below (G<|H w) w V:=by
 have eg:∀a w,(callFunc f a).run bG w=.ok (.enter f a) w:=C;have K:∀(x:Bool)(w:I),(Op.unary .not<|aO x).run bG w=.ok (aO<|!x) w:=λ_ _=>rfl;have y:=Z E;have N:=Z D;clear E D C;go_in
 go_wp2;go_loopw [5,6] (λj a wr=>∃g e:R,j=aq g/\a=aq e/\g<=e/\e<=o/\(∀t,t<g->p t=bF)/\(∀t,e<=t->t<o->p t=bX)/\Below (G<|H w) w wr) (λj a _=>(intOf a).toNat-(intOf j).toNat)
 case atStart=>exact⟨0,o,rfl,rfl,bB _,ai _,λt h=>by omega,λt u h=>by omega,Below.refl _ _⟩
 case round=>
  obtain⟨g,e,rfl,rfl,Q,l,r,s,b⟩:=hrel;obtain⟨v,x,k⟩:=dI r s b;by_cases S:g<e
  .obtain⟨m,T⟩:∃m:R,(g+e)/2=m:=⟨_,rfl⟩;have n:m<o:=by omega
   have a:=N m n wr b;have F:((g:Y)+(e:Y))/2=(m:Y):=by omega
   clear r s b;cases hp:p m with
   |false=>
    rw[hp]at a;have q:=Z (λt(u:t<m+1)=>(show p t=bF from by
     cases c:p t with
     |false=>rfl
     |true=>have:=y t m (by omega) n c;rw[hp]at this;cases this))
    clear hp;go_wp2_with(go_at_fn f;refine a.mono ?_;rintro B X⟨rfl,d⟩;have i:=Z d;clear d)
    go_roundw;case rel=>exact⟨m+1,e,by go_num,rfl,by omega,l,q,x,k.trans<|i.mono k.size⟩
    case measure=>simp[intOf];omega
   |true=>
    rw[hp]at a;have q:=Z<|λt(u:m<=t)(a:t<o)=>y m t u a hp;clear hp;go_wp2_with(go_at_fn f;refine a.mono ?_;rintro B X⟨rfl,d⟩;have i:=Z d;clear d)
    go_roundw;case rel=>exact⟨g,m,rfl,by go_num,by omega,by omega,v,q,k.trans<|i.mono k.size⟩
    case measure=>simp[intOf];omega
  .have a:g=e:=by omega
   subst a;clear r s b;go_wp2;go_ret;exact⟨g,rfl,l,v,x,k⟩
def aH(l:cK):jd:=l.flatMap E.cells
def fS(l:cK):z (aH l)=z l*4:=by
 induction l with
 |nil=>rfl
 |cons e r a=>unfold aH at*;rw[dN,af,a];simp[E.cells];omega
def fT(a b:cK):aH (a++b)=aH a++aH b:=by simp[aH]
def eG(l:cK)(n:R)(h:n<z l):(aH l)[n*4]?=M (aj l[n].key)/\(aH l)[n*4+1]?=M (aj l[n].val)/\(aH l)[n*4+2]?=M (aO l[n].del)/\(aH l)[n*4+3]?=M (aL l[n].bK):=by
 have e:aH l=aH (l.take n)++(E.cells l[n]++aH (l.drop<|n+1)):=by(have b:l=l.take n++l[n]::l.drop (n+1):=by rw[<-bH h,ci]);(conv=>lhs;rw[b]);simp only[aH,gh,dN]
 have a:z (aH<|l.take n)=n*4:=by rw[fS];simp;omega
 refine⟨?_,?_,?_,?_⟩;rw[e,dJ (by omega),a];simp[E.cells];rw[e,dJ (by omega),a,show n*4+1-n*4=1 by omega];simp[E.cells];rw[e,dJ (by omega),a,show n*4+2-n*4=2 by omega];simp[E.cells];rw[e,dJ (by omega),a,show n*4+3-n*4=3 by omega];simp[E.cells]
def ku(w:I)(v:aa)(l:cK):Prop:=Row w 4 v (z l)<|aH l
def ku.below{B:R}(n:ku a d e)(k:Below B a f)(m:∀o,bY d=M o->o<B):ku f d e:=by
 obtain⟨h,⟨rfl,j⟩|⟨i,b,c,rfl,g,l⟩⟩:=n;exact⟨h,.inl ⟨rfl,j⟩⟩;exact⟨h,.inr ⟨i,b,c,rfl,g,λn u j=>(k.cell (p:=(U i<|b+n))<|m i rfl).trans<|l n u j⟩⟩
def below_drewN{w wr:I}(h:Below b w wr)(q:R):Below b w (wr.drewN q):=⟨h.os,h.tape,h.output,h.size,h.block⟩
def IE(h:v≠W):(v.toList==W.toList)=bF:=by
 cases c:(v.toList==W.toList)with
 |false=>rfl
 |true=>exact absurd (JT<|by simpa using c) h
def ix.below{B b:R}(h:ix a b w)(c:Below B a f)(d:b<B):ix f b w:=(c.block b d).trans h
def Oj(h:ku a d e)(i:er a b d 102)(r:ix a c w)(j:R)(O:j<z e):cA bG 225 #[aq j,aA b,aA c] a λW P=>W=aP (aO<|!ahead e[j] w)/\Below (G<|H a) a P:=by
 have t:∀(w:Bool)(a:I),(Op.unary .not<|aO w).run bG a=.ok (aO<|!w) a:=λ_ _=>rfl;have c1:=i.cell;obtain⟨Q,S,T,V⟩:=r.cells;obtain⟨N,⟨rfl,h0⟩|⟨n,f,o,rfl,q,k⟩⟩:=h;omega;have l:=eG e j O;have s:=k _ _ l.1;have F:aS a (U n<|f+j*4+1)=M (aj e[j].val):=by rw[aY];exact k _ _ l.2.1
 have K:aS a (U n<|f+j*4+2)=M (aO e[j].del):=by rw[aY];exact k _ _ l.2.2.1
 have L:aS a (U n<|f+j*4+3)=M (aL e[j].bK):=by rw[aY];exact k _ _ l.2.2.2
 have p:=λW=>Ca e[j] w W;have X:(j:Y)<(z e:Y):=by omega
 have e3:(0:Y)<=(j:Y):=by omega
 generalize e[j]=m at*;generalize ahead m w=ac at*;obtain⟨C,D,B,A⟩:=m;obtain⟨x,y,v,u⟩:=w;unfold E.value at p;simp only at p Q S T V s F K L;have u1:=am i;have u2:=am r;have u3:n<G (H a):=dj _ _ s;clear k l r i N q;go_in
 go_wp2_with fail
 go_region_held3(λg=>aS g (U b 0)=M (bE n f (z e) o)/\aS g (U n<|f+j*4)=M (aj C)/\aS g (U n<|f+j*4+1)=M (aj D)/\aS g (U n<|f+j*4+2)=M (aO B)/\aS g (U n<|f+j*4+3)=M (aL A)/\aS g (U c 0)=M (aj x)/\aS g (U c 1)=M (aj y)/\aS g (U c 2)=M (aO v)/\aS g (U c 3)=M (aL u)) (first|assumption|go_keep) (first|(go_at_call 195;refine(p _).mono ?_;rintro W w1⟨rfl,rfl⟩))
 go_wp2;go_ret;have i:Below (G<|H a) a (cF (cF a<|aw #[aj C,aj D,aO B,aL A] 164)<|aw #[aj x,aj y,aO v,aL u] 164):=((Below.refl _ a).alloc (ai _) _).alloc (by simp) _;exact⟨rfl,i.os,i.tape,i.output,i.size,i.block⟩
def Bw(E:aa)(A:ab)(l:Y)(w:I)(h:ku w E e)(C:dS e)(O:z e<=1000000000000)(D:∀l,bY E=M l->l<G (H w)):cA bG 180 #[E,aj A,aL l] w λN T=>N=aP (aq<|ly e ⟨A,⟨#[]⟩,bF,l⟩)/\Below (G<|H w) w T:=by
 obtain⟨W,c⟩:∃W,cF (cF w<|aw #[E] 102) (aw #[aj A,aj ⟨#[]⟩,aO bF,aL l] 164)=W:=⟨_,rfl⟩;have t:Below (G<|H w) w W:=by rw[<-c];exact((Below.refl _ w).alloc (ai _) _).alloc (by simp) _
 have Q:G (H W)=G (H w)+2:=by rw[<-c];simp
 have a:er W (G<|H w) E 102:=by rw[<-c];exact er.alloc (aE _ rfl) _
 have f:ix W (G (H w)+1) ⟨A,⟨#[]⟩,bF,l⟩:=by rw[<-c];exact aE _<|by simp
 have k:=zw #[aA<|G<|H w,aA<|G (H w)+1] (z e) (λB=>if u:B<z e then !ahead e[B] ⟨A,⟨#[]⟩,bF,l⟩else bX) W (enters_of func225 (by kernel_rfl) rfl) O (by
  intro B X v g s;have x:B<z e:=by omega
  simp only[g,x,oU]at s|-;cases d:ahead e[X] ⟨A,⟨#[]⟩,bF,l⟩with
  |false=>rfl
  |true=>rw[C.mono v g d]at s;cases s)
  (by
   intro B u L q;apply(Oj (h.below (t.trans (q.mono (by omega))) D) ((q.block _ (by omega)).trans a) (f.below q (by omega)) B u).mono;rintro N V⟨rfl,r⟩;simp only[u,oU];exact⟨trivial,r⟩)
 have o:=Z k;obtain⟨ad,ac,y⟩:=bS h;have F:=Z t;clear k h C D t a f Q;subst y;subst c;go_in
 go_wp2_with(go_at_call 224;refine o.mono ?_;rintro N w1⟨p,rfl,P,i,j,a⟩;have K:=Z<|show ly e ⟨A,⟨#[]⟩,bF,l⟩=p from Wv P (λS m b=>by have:=i S b;simpa[m]using this) (λS m b=>by have:=j S b m;simpa[m]using this);have n:=Z a;clear i j a)
 go_ret;rw[ae K];exact⟨rfl,F.trans<|n.mono (by simp;omega)⟩
def er.same{V:jr}{n0:R}{S:fN}{t:TypeId}(h:er a b d t)(e:jL V n0 S a f)(c:S b):er f b d t:=(e.2 b<|.inr c).trans h
def yi(c a b:R)(v:aa)(k:R):Prop:=k=a\/k=b\/(bY v=M k/\c<=k)
structure Kh(V:jr)(n0:R)(w:I)(xi xl:R)(v:aa)(l:cK)(i:R):Prop where
 bi:er w xi (aq i) 3
 bl:er w xl v 102
 YI:ku w v l
 il:xi≠xl
 own:∀k,bY v=M k->k≠xi/\k≠xl/\¬V.F k/\k<G (H w)
def Kh.YH(s:Kh u b a c g d e l)(q:jL u b (yi b c g d) a f):ku f d e:=by
 have r:=s.own;obtain⟨k,⟨rfl,n⟩|⟨m,h,i,rfl,j,o⟩⟩:=s.YI;exact⟨k,.inl ⟨rfl,n⟩⟩;refine⟨k,.inr ⟨m,h,i,rfl,j,λv w p=>q.cell ?_<|o v w p⟩⟩;by_cases t:b<=m;exact .inl<|.inr<|.inr ⟨rfl,t⟩;exact .inr ⟨by omega,(r m rfl).2.2.1⟩
def Ss(V:jr)(e c g:R)(B:aa)(n:cK)(hl:z n<=1000000000000):∀(an l:R)(ad:I),an=z n-l->l<=z n->Kh V e ad c g B n l->vE V e (yi e c g B) ad->Ir V e 318 #[aA c,aA g] (n.drop l) (yi e c g B) ad:=by
 intro an;induction an with
 |zero=>
  intro l ad K W f p;have a:l=z n:=by omega
  subst a;rw[gx];refine⟨p,λb i t=>?_⟩;have h0:=(f.bi.same i<|.inl rfl).cell;have S:=(f.bl.same i<|.inr<|.inl rfl).cell;have E:=Z<|λd(av:J (yi e c g B) b d)=>V.fq t av p.apart;have e0:=am<|f.bi.same i<|.inl rfl;have e1:=am<|f.bl.same i<|.inr<|.inl rfl;obtain⟨al,j,o⟩:=bS f.YI;rw[o]at S;clear f i t K W o;go_in
  go_wp2;refine cO (fZ rfl _ _ (G<|H b) ⟨⟨#[]⟩,⟨#[]⟩,bF,0⟩ _ _ rfl<|aE _ rfl) rfl ?_;refine⟨rfl,?_⟩;have q:J (yi e c g B) b (cF b<|aw #[aj ⟨#[]⟩,aj ⟨#[]⟩,aO bF,aL 0] 164):=(cI _ _);exact⟨E _ q,q.mono<|λal o=>.inl<|.inl o⟩
 |succ an X=>
  intro l ad K W f p;have x:l<z n:=by omega
  rw[bH x];refine⟨p,λb i t=>?_⟩;have k:=f.bi.same i<|.inl rfl;have m:=f.bl.same i<|.inr<|.inl rfl;have h0:=k.cell;have au:=k.free;have S:=m.cell;have hE:=f.YH i;have P:=f.own;have n2:=f.il;obtain⟨E,HI,HO,HS⟩:=gD (λd(av:J (yi e c g B) b d)=>V.fq t av p.apart) (λd(a:Kh V e d c g B n (l+1))(f:vE V e (yi e c g B) d)=>X (l+1) d (by omega) (by omega) a f) (p.same i) i.1;clear f i t K X p;obtain⟨u,⟨rfl,ao⟩|⟨s,a,j,rfl,w,r⟩⟩:=hE
  .omega
  have v:=eG n l x;have y:aS b (U s<|a+l*4)=M (aj n[l].key):=r _ _ v.1;have L:aS b (U s<|a+l*4+1)=M (aj n[l].val):=by rw[aY];exact r _ _ v.2.1
  have N:aS b (U s<|a+l*4+2)=M (aO n[l].del):=by rw[aY];exact r _ _ v.2.2.1
  have O:aS b (U s<|a+l*4+3)=M (aL n[l].bK):=by rw[aY];exact r _ _ v.2.2.2
  have e0:=am k;have e1:=am m;have e2:s<G (H b):=dj _ _ y;have n1:c≠s:=λQ=>(P s rfl).1 Q.symm;obtain⟨HE,D,C,HV⟩:=gD (show Row b 4 (bE s a (z n) j) (z n) (aH n)from⟨u,.inr ⟨s,a,j,rfl,w,r⟩⟩) m k P;clear v k m r P u w;generalize n[l]=al at*;obtain⟨xk,xv,xd,xb⟩:=al;simp only at y L N O;go_in
  go_wp2;refine cO (fZ rfl _ _ (G<|H b) ⟨xk,xv,xd,xb⟩ _ _ rfl<|aE _ gE.symm) rfl ?_;refine⟨rfl,?_⟩;have q:J (λac=>ac=c) b (cF (ct b (U c 0)<|aq<|l+1)<|aw #[aj xk,aj xv,aO xd,aL xb] 164):=(ij c b).alloc _;have A:J (yi e c g<|bE s a (z n) j) b _:=q.mono (T:=yi e c g<|bE s a (z n) j)<|λal o=>.inl<|.inl o;refine⟨E _ A,A.mono<|λal o=>.inl<|.inl o,yi e c g _,λac F=>.inl F,HI _ ?_<|HO.ay q⟩;refine⟨(C.set _).alloc _,(D.other _<|λQ=>n2 Q.symm).alloc _,q.row HE ?_,n2,λac F=>?_⟩
  .rintro ac⟨⟩;exact⟨λQ=>n1 Q.symm,e2⟩
  .obtain⟨q1,q2,q3,q4⟩:=HV ac F;exact⟨q1,q2,q3,ag q4<|aF HS q.size⟩
def Mq(V:jr)(m:R)(i:ab)(h:ku a d e)(E:dS e)(t:∀K∈e,K.bK<18446744073709551616)(L:z e<=1000000000000)(u:∀k,bY d=M k->¬V.F k/\k<G (H a))(hn:m<=G (H a))(hF:∀k,V.F k->k<m):cA bG 316 #[d,aj i] a λy Q=>∃P al,y=aP P/\jm V m P (fX i e) al Q/\Below (G<|H a) a Q/\(∀k,al k->(bY d=M k/\m<=k)\/G (H a)<=k):=by
 have N:=λW(o:Below (G<|H a) a W)=>Bw d i 18446744073709551615 W (by
  obtain⟨p,⟨rfl,B⟩|⟨A,b,c,rfl,l,C⟩⟩:=h
  .exact⟨p,.inl ⟨rfl,B⟩⟩
  .exact⟨p,.inr ⟨A,b,c,rfl,l,λO ad D=>(o.cell (p:=(U A (b+O))) (u A rfl).2).trans (C O ad D)⟩⟩) E L (λa q=>ag (u a q).2 o.size)
 obtain⟨HP,v,w⟩:=dI N (show fX i e=e.drop (ly e ⟨i,⟨#[]⟩,bF,18446744073709551615⟩)from(Rp E i _ _ (λK a=>by have:=t K a;omega)).symm)<|IX e ⟨i,⟨#[]⟩,bF,18446744073709551615⟩;have F:=bS h;obtain⟨X,x,W⟩:=dI h u hF;clear N u h E hF t;generalize ly e ⟨i,⟨#[]⟩,bF,18446744073709551615⟩=S at*;obtain⟨K,c,rfl⟩:=F;go_in
 go_wp2_with(go_at_call 180;refine(HP _<|(Below.refl _ a).alloc (ai _) _).mono ?_;rintro y n⟨rfl,r⟩;have T:=Z r;clear r)
 go_ret;have q:=ae T;have ac:G (H a)+1<=G (H n):=by have:=q.size;simpa using this
 have g:Below (G<|H a) a n:=((Below.refl _ a).alloc (ai _) _).trans (q.mono<|by simp);have f:Below (G<|H a) a (cF n<|aw #[aq S] 3):=g.alloc g.size _;have s:er n (G<|H a) (ah K (z e) c) 102:=(q.block (G<|H a)<|by simp).trans<|aE _ rfl;refine⟨_,yi m (G<|H n) (G<|H a)<|ah K (z e) c,rfl,⟨318,_,rfl,enters_of func318 (by kernel_rfl) rfl,?_⟩,f,?_⟩;rw[ae v];refine Ss V m (G<|H n) (G<|H a) (ah K (z e) c) e L _ S _ rfl w ⟨aE _ rfl,s.alloc _,?_,by omega,λk j=>?_⟩ ⟨by simp;omega,W,λk j=>?_⟩;obtain⟨p,⟨y,B⟩|⟨A,b,o,y,l,C⟩⟩:=ae X;exact⟨p,.inl ⟨y,B⟩⟩;refine⟨p,.inr ⟨A,b,o,y,l,λO ad D=>(f.cell (p:=(U A<|b+O)) ?_).trans<|C O ad D⟩⟩;exact(x A (by rw[y];rfl)).2;obtain⟨o,q2⟩:=x k j;exact⟨by omega,by omega,o,by simp;omega⟩;rcases j with rfl|rfl|⟨j,o⟩;exact⟨by omega,by simp⟩;exact⟨by omega,by simp;omega⟩;exact⟨o,by have:=(x k j).2;simp;omega⟩;rintro k(rfl|rfl|j);right;omega;right;omega;left;exact j
def rL(a:S->E->Bool)(Ex:S->E->S):S->cK->cK
 |_,[]=>[]
 |s,x::r=>if a s x then x::rL a Ex (Ex s x) r else rL a Ex (Ex s x) r
structure Cc(σ:Type)(V:jr)(n0:R)where
 f:R
 cb:Array aa
 test:σ->E->Bool
 Ex:σ->E->σ
 inv:σ->I->Prop
 S:R->Prop
 Tj:Enters bG f
 call:∀s x w,inv s w->cA bG f (#[x.value]++cb) w λe w'=>e=aP (aO<|test s x)/\inv (Ex s x) w'/\J S w w'
 fq:∀s w w',inv s w->(∀k,S k->w'.heap[k]?=w.heap[k]?)->inv s w'
 lt:∀s w,inv s w->∀k,S k->n0<=k/\k<G (H w)
structure mi{σ:Type}{V:jr}{n0:R}(K:Cc σ V n0)(w:I)(xn xk f:R)(cb:Array aa)(s:σ)(l:cK)(S:fN):Prop where
 bn:er w xn (.func (.func f) #[] cb) 174
 bk:er w xk (.func (.func K.f) #[] K.cb) 345
 Tj:Enters bG f
 run:Ir V n0 f cb l S w
 inv:K.inv s w
 own:n0<=xn/\n0<=xk
 nS:∀k,S k->k≠xn/\k≠xk/\¬K.S k
 nK:∀k,K.S k->k≠xn/\k≠xk
def AZ(K:Cc S u b)(c a:R)(d:fN)(k:R):Prop:=k=c\/k=a\/d k\/K.S k
def mi.same{σ:Type}{V:jr}{n0:R}{K:Cc σ V n0}{s:σ}{S:fN}(h:mi K a b c g T s e S)(d:jL V n0 (AZ K b c S) a f):mi K f b c g T s e S:=⟨h.bn.same d<|.inl rfl,h.bk.same d<|.inr<|.inl rfl,h.Tj,h.run.same<|d.mono<|λ_ i=>.inr<|.inr<|.inl i,K.fq s a f h.inv<|λk i=>d.2 k<|.inr<|.inr<|.inr<|.inr i,h.own,h.nS,h.nK⟩
def mi.pS{K:Cc S u b}{s:S}(h:mi K a c g l T s e X):vE u b (AZ K c g X) a:=⟨h.run.own.size,h.run.own.aN,by
 rintro k(rfl|rfl|d|d)
 .exact⟨h.own.1,am h.bn⟩
 .exact⟨h.own.2,am h.bk⟩
 .exact h.run.own.each k d
 .exact K.lt s a h.inv k d⟩
def mi.Tv{o:Cc S u b}{s:S}{j:fN}(h:mi o a c g l T s e X)(n:J (λk=>X k\/u.F k) a f)(q:∀k,j k->X k\/G (H a)<=k)(r:Ir u b l T K j f):mi o f c g l T s K j:=by
 have p:=h.pS;have hF:∀k,b<=k->¬u.F k:=λk i a=>by have:=p.aN k a;omega
 refine⟨(n.block c (am h.bn) ?_).trans h.bn,(n.block g (am h.bk) ?_).trans h.bk,h.Tj,r,o.fq s a f h.inv<|λk i=>n.block k (o.lt s a h.inv k i).2 ?_,h.own,λk i=>?_,h.nK⟩;rintro(d|d);exact(h.nS c d).1 rfl;exact hF c h.own.1 d;rintro(d|d);exact(h.nS g d).2.1 rfl;exact hF g h.own.2 d;rintro(d|d);exact(h.nS k d).2.2 i;exact hF k (o.lt s a h.inv k i).1 d;rcases q k i with d|d;exact h.nS k d;refine⟨?_,?_,?_⟩;rintro rfl;have:=am h.bn;omega;rintro rfl;have:=am h.bk;omega;intro m;have:=(o.lt s a h.inv k m).2;omega
def mi.kept{K:Cc S u b}{g d f:R}{j:Array aa}{s l:S}(h:mi K a g d f j s e X)(i:J K.S a B)(o:K.inv l B):mi K B g d f j l e X:=by
 have n:=h.pS;have hF:∀k,b<=k->¬u.F k:=λk c a=>by have:=n.aN k a;omega
 refine⟨(i.block g (am h.bn)<|λm=>(h.nK g m).1 rfl).trans h.bn,(i.block d (am h.bk)<|λm=>(h.nK d m).2 rfl).trans h.bk,h.Tj,h.run.same ?_,o,h.own,h.nS,h.nK⟩;refine i.same h.run.own.size (λk c=>⟨(h.run.own.each k c).2,(h.nS k c).2.2⟩)<|λk c p=>?_;have:=(K.lt s a h.inv k c).1;omega
def mi.laid{K:Cc S u b}{s:S}(h:mi K a c g l T s e X)(o:Obj):mi K (cF a o) c g l T s e X:=h.kept ((J.refl _ _).alloc o)<|K.fq s a _ h.inv<|λk d=>ga o (K.lt s a h.inv k d).2
def mi.apart{K:Cc S u b}{s:S}{n:fN}(i:mi K a c g l T s e X)(m:J n a f)(h:∀k,n k->¬AZ K c g X k/\b<=k):mi K f c g l T s e X:=i.same<|m.same i.run.own.size (λk d=>⟨(i.pS.each k d).2,λo=>(h k o).1 d⟩) (λk d j=>by have:=(h k d).2;omega)
def wS(w:I)(b:R)(a:E):I:=ct (ct (ct (ct w (U b 0)<|aj a.key) (U b 1)<|aj a.val) (U b 2)<|aO a.del) (U b 3)<|aL a.bK
def jj(w:I)(b:R)(a:E):J (λk=>k=b) w (wS w b a):=(((ij b w).setCell b 1 _<|.inl rfl).setCell b 2 _<|.inl rfl).setCell b 3 _<|.inl rfl
def zD(K:Cc S u b)(cp:Array aa)(dm:S)(hA:mi K a c g l cp dm e X)(hD:u.D a):cA bG 259 #[aA c,aA g] a λcs cc=>u.D cc/\J (λt=>AZ K c g X t\/u.F t) a cc/\((rL K.test K.Ex dm e=[]/\cs=aP (dE #[wX,aO bF,.nilIface]))\/(∃cm L l' S',rL K.test K.Ex dm e=cm::rL K.test K.Ex L l'/\cs=aP (dE #[cm.value,aO bX,.nilIface])/\mi K cc c g l cp L l' S'/\z l'<z e/\(∀t,S' t->X t\/G (H a)<=t))):=by
 have eg:∀y a,(callFunc l y).run bG a=.ok (.enter l y) a:=hA.Tj;have ek:∀y a,(callFunc K.f y).run bG a=.ok (.enter K.f y) a:=K.Tj;have HA:=Z hA;have HD:=Z hD;clear hA hD;go_in
 go_wp2;go_loopg [5] (z e+1) (λd _ wr=>∃L l' S',z l'<d/\mi K wr c g l cp L l' S'/\u.D wr/\J (λt=>AZ K c g X t\/u.F t) a wr/\rL K.test K.Ex dm e=rL K.test K.Ex L l'/\(∀t,S' t->X t\/G (H a)+1<=t)/\z l'<=z e/\ix wr (G<|H a) ⟨⟨#[]⟩,⟨#[]⟩,bF,0⟩/\¬S' (G<|H a)/\¬K.S (G<|H a))
 (case atStart=>have h:=HA;refine⟨dm,e,X,by omega,h.laid _,u.fq HD (cI az a) cN,(cI _ _),rfl,λt n=>.inl n,ai _,aE _ rfl,λv=>?_,λv=>?_⟩;have:=(h.run.own.each _ v).2;omega;have:=(K.lt _ _ h.inv _ v).2;omega)
 case round=>
  obtain⟨L,l',S',bT,T,bf,bi,av,bh,ca,bg,bk,cb⟩:=hrel;have dn:=T.bn.cell;have F:=T.run;cases l' with
  |nil=>
   have hc:=F.2 wr (jL.refl _ _ _ _) bf;have HN:=Z bk;have N:=Z T;have bd:=Z bi;have P:=Z av;have O:=Z bg;have Q:=Z bh;clear F T bf bi av bg bh bk cb bT ca;go_wp2_with(go_at_fn l;refine hc.mono ?_;rintro cs B⟨rfl,A,q⟩;have p:ix B (G<|H a) ⟨⟨#[]⟩,⟨#[]⟩,bF,0⟩:=O.ay q<|λv=>v.elim HN (λv=>by have:=N.pS.aN _ v;have:=HA.pS.size;omega);have bb:=p.cells;have bl:=p.free (i:=0);have bm:=p.free (i:=1);have bn:=p.free (i:=2);have bo:=p.free (i:=3);have d:=am p;have ad:=Z p;have ac:=Z A;have an:=Z q;clear p A q;unfold wX;obtain⟨ce,ch,cj,ck⟩:=bb)
   refine cO (fZ rfl _ _ (G<|H a) ⟨⟨#[]⟩,⟨#[]⟩,bF,0⟩ _ _ rfl<|(ad.put ⟨⟨#[]⟩,⟨#[]⟩,bF,0⟩).alloc _) rfl ?_;have V:J (λt=>t=G (H a)) B ((wS B (G<|H a) ⟨⟨#[]⟩,⟨#[]⟩,bF,0⟩).alloc<|aw #[aj ⟨#[]⟩,aj ⟨#[]⟩,aO bF,aL 0] 164):=(jj _ _ _).alloc _;have x:=HA.pS;refine⟨u.fq ac V (λt n hf=>by have:=x.aN t hf;have:=x.size;omega),?_,.inl ⟨P.trans rfl,rfl⟩⟩;refine(bd.trans an ?_).trans V (λt n=>.inr<|by omega);rintro t(n|n)
   .rcases Q t n with v|v
    .exact .inl<|.inl<|.inr<|.inr<|.inl v
    .exact .inr<|by omega
   .exact .inl<|.inr n
  |cons cm co=>
   have hc:=F.2 wr (jL.refl _ _ _ _) bf;have cd:rL K.test K.Ex L (cm::co)=if K.test L cm then cm::rL K.test K.Ex (K.Ex L cm) co else rL K.test K.Ex (K.Ex L cm) co:=rfl;rw[cd]at av;have HN:=Z bk;have bc:=Z cb;have N:=Z T;have bd:=Z bi;have P:=Z av;have O:=Z bg;have Q:=Z bh;have cl:z co<z e:=by simp at ca;omega
   have dk:z co+1<gk:=by simpa using bT
   clear F T bf bi av bg bh bk cb bT ca cd;have r:=K.call L cm;obtain⟨j,k,f,d⟩:=cm;unfold E.value at r hc;simp only at r hc;cases hte:K.test L ⟨j,k,f,d⟩with
   |true=>
    rw[hte]at r;have br:=Z (P.trans<|by rw[dt hte]);clear P hte;go_wp2_with(first
     |(go_at_fn l;refine hc.mono ?_;rintro cs B⟨rfl,A,q,S1,C,ax⟩;have hA1:=N.Tv q C ax;have o:=hA1.laid<|.cells #[.string j,.string k,.bool f,.int .u64 d] 164;have p:ix B (G<|H a) ⟨⟨#[]⟩,⟨#[]⟩,bF,0⟩:=O.ay q<|λv=>v.elim HN (λv=>by have:=N.pS.aN _ v;have:=HA.pS.size;omega);have cu:=o.bk.cell;have D:ix (cF B<|.cells #[.string j,.string k,.bool f,.int .u64 d] 164) (G<|H B) ⟨j,k,f,d⟩:=aE _ rfl;have bb:=D.cells;have w:=r _ o.inv;have bs:=Z (show¬K.S (G<|H B)fromλv=>by have:=(K.lt _ _ hA1.inv _ v).2;omega);have bt:=Z D;have al:=Z C;have W:=Z o;have ad:=Z p;have ac:=Z A;have an:=Z q;clear p A q hA1 o ax C D;obtain⟨ce,ch,cj,ck⟩:=bb)
     |(go_at_fn K.f;refine w.mono ?_;rintro cs w2⟨rfl,au,s⟩;have ba:ix w2 (G (H B)) ⟨j,k,f,d⟩:=bt.ay s bs;have m:ix w2 (G (H a)) ⟨⟨#[]⟩,⟨#[]⟩,bF,0⟩:=(ad.alloc _).ay s bc;obtain⟨AI,cv,cx,cB⟩:=ba.cells;obtain⟨cE,cM,cT,db⟩:=m.cells;have bl:=m.free (i:=0);have bm:=m.free (i:=1);have bn:=m.free (i:=2);have bo:=m.free (i:=3);have bq:=Z m;have bp:=Z (W.kept s au);have ao:=Z s;clear au s ba m))
    refine cO (fZ rfl _ _ (G<|H a) ⟨j,k,f,d⟩ _ _ rfl<|bq.put ⟨j,k,f,d⟩) rfl ?_;have V:J (λt=>t=G (H a)) w2 (wS w2 (G<|H a) ⟨j,k,f,d⟩):=jj _ _ _;have x:=HA.pS;have hA2:=ae bp;have bx:=hA2.pS;have dd:G (H a)<G (H wr):=am O;have dc:¬AZ K c g S1 (G<|H a):=by
     rintro(v|v|v|v)
     .have:=(x.each c<|.inl rfl).2;omega
     .have:=(x.each g<|.inr<|.inl rfl).2;omega
     .rcases al _ v with cn|cn
      .exact HN cn
      .omega
     .exact bc v
    have bu:=u.fq ac (((J.refl az B).alloc<|aw #[aj j,aj k,aO f,aL d] 164)) cN;have bv:=u.fq bu ao (λt n hf=>by have:=bx.aN t hf;have:=(K.lt _ _ W.inv t n).1;omega);refine⟨u.fq bv V (λt n hf=>by have:=x.aN t hf;have:=x.size;omega),?_,.inr ⟨⟨j,k,f,d⟩,K.Ex L ⟨j,k,f,d⟩,co,S1,br,rfl,hA2.apart V (λt n=>by rw[n];exact⟨dc,x.size⟩),cl,λt n=>?_⟩⟩
    .refine(((bd.trans an ?_).alloc _).trans ao ?_).trans V<|λt n=>.inr<|by omega
     .rintro t(n|n)
      .rcases Q t n with v|v
       .exact .inl<|.inl<|.inr<|.inr<|.inl v
       .exact .inr<|by omega
      .exact .inl<|.inr n
     .exactλt n=>.inl<|.inl<|.inr<|.inr<|.inr n
    .rcases al t n with v|v
     .rcases Q t v with cn|cn
      .exact .inl cn
      .exact .inr<|by omega
     .exact .inr<|by omega
   |false=>
    rw[hte]at r;have br:=Z (P.trans<|by rw[dh (by rw[hte];simp)]);clear P hte;go_wp2_with(first
     |(go_at_fn l;refine hc.mono ?_;rintro cs B⟨rfl,A,q,S1,C,ax⟩;have hA1:=N.Tv q C ax;have o:=hA1.laid<|.cells #[.string j,.string k,.bool f,.int .u64 d] 164;have p:ix B (G<|H a) ⟨⟨#[]⟩,⟨#[]⟩,bF,0⟩:=O.ay q<|λv=>v.elim HN (λv=>by have:=N.pS.aN _ v;have:=HA.pS.size;omega);have cu:=o.bk.cell;have D:ix (cF B<|.cells #[.string j,.string k,.bool f,.int .u64 d] 164) (G<|H B) ⟨j,k,f,d⟩:=aE _ rfl;have bb:=D.cells;have w:=r _ o.inv;have bs:=Z (show¬K.S (G<|H B)fromλv=>by have:=(K.lt _ _ hA1.inv _ v).2;omega);have bt:=Z D;have al:=Z C;have W:=Z o;have ad:=Z p;have ac:=Z A;have an:=Z q;clear p A q hA1 o ax C D;obtain⟨ce,ch,cj,ck⟩:=bb)
     |(go_at_fn K.f;refine w.mono ?_;rintro cs w2⟨rfl,au,s⟩;have ba:ix w2 (G (H B)) ⟨j,k,f,d⟩:=bt.ay s bs;have m:ix w2 (G (H a)) ⟨⟨#[]⟩,⟨#[]⟩,bF,0⟩:=(ad.alloc _).ay s bc;obtain⟨AI,cv,cx,cB⟩:=ba.cells;obtain⟨cE,cM,cT,db⟩:=m.cells;have bl:=m.free (i:=0);have bm:=m.free (i:=1);have bn:=m.free (i:=2);have bo:=m.free (i:=3);have bq:=Z m;have bp:=Z (W.kept s au);have ao:=Z s;clear au s ba m))
    go_roundg(z co+1);case measure=>omega
    case rel=>
     have x:=HA.pS;have hA2:=ae bp;have bx:=hA2.pS;have dd:G (H a)<G (H wr):=am O;have bu:=u.fq ac (((J.refl az B).alloc<|aw #[aj j,aj k,aO f,aL d] 164)) cN;have bv:=u.fq bu ao (λt n hf=>by have:=bx.aN t hf;have:=(K.lt _ _ W.inv t n).1;omega);refine⟨K.Ex L ⟨j,k,f,d⟩,co,S1,by omega,hA2,bv,?_,br,λt n=>?_,by omega,bq,λv=>?_,bc⟩
     .refine((bd.trans an ?_).alloc _).trans ao ?_
      .rintro t(n|n)
       .rcases Q t n with v|v
        .exact .inl<|.inl<|.inr<|.inr<|.inl v
        .exact .inr<|by omega
       .exact .inl<|.inr n
      .exactλt n=>.inl<|.inl<|.inr<|.inr<|.inr n
     .rcases al t n with v|v
      .exact Q t v
      .exact .inr<|by omega
     .rcases al _ v with cn|cn
      .exact HN cn
      .omega
def Rz(K:Cc S u b)(l k L:R)(j:Array aa):∀(t:R)(s:S)(n:cK)(r:fN)(w:I),z n<=t->mi K w l k L j s n r->Ir u b 259 #[aA l,aA k] (rL K.test K.Ex s n) (AZ K l k r) w:=by
 intro t;induction t with
 |zero=>
  intro s n r w B c;obtain rfl:n=[]:=aR (by omega);refine⟨c.pS,λq h g=>(zD K j s (c.same h) g).mono ?_⟩;rintro E d⟨e,f,⟨_,a⟩|⟨F,p,o,i,a,_⟩⟩
  .exact⟨a,e,f⟩
  .cases a
 |succ t C=>
  intro s n r w B c;cases hL:rL K.test K.Ex s n with
  |nil=>
   refine⟨c.pS,λq h g=>(zD K j s (c.same h) g).mono ?_⟩;rintro E d⟨e,f,⟨_,a⟩|⟨F,p,o,i,a,_⟩⟩
   .exact⟨a,e,f⟩
   .rw[hL]at a;cases a
  |cons D P=>
   refine⟨c.pS,λq h g=>(zD K j s (c.same h) g).mono ?_⟩;rintro E d⟨e,f,⟨a,_⟩|⟨F,p,o,i,a,x,y,N,A⟩⟩
   .rw[hL]at a;cases a
   .rw[hL]at a;obtain⟨rfl,rfl⟩:=yW a;refine⟨x,e,f,AZ K l k i,?_,C p o i d (by omega) y⟩;rintro O(m|m|m|m)
    .exact .inl<|.inl m
    .exact .inl<|.inr<|.inl m
    .rcases A O m with v|v
     .exact .inl<|.inr<|.inr<|.inl v
     .exact .inr v
    .exact .inl<|.inr<|.inr<|.inr m
def Lt(K:Cc S u b)(s:S)(A:jm u b d e X a)(g:K.inv s a)(m:∀k,X k->¬K.S k):cA bG 217 #[d,.func (.func K.f) #[] K.cb] a λB r=>∃q l,B=aP q/\jm u b q (rL K.test K.Ex s e) l r/\Below (G<|H a) a r/\(∀k,l k->X k\/K.S k\/G (H a)<=k):=by
 obtain⟨y,j,rfl,o,f⟩:=A;obtain⟨t,w,v,x⟩:=gD o f g m;clear o f g m;go_in
 go_wp2;go_ret;have f:=ae w;have g:=ae v;have n:Below (G<|H a) a (cF (cF a<|aw #[.func (.func y) #[] j] 174)<|aw #[.func (.func K.f) #[] K.cb] 345):=((Below.refl _ a).alloc (ai _) _).alloc (by simp) _;have p:J az a (cF (cF a<|aw #[.func (.func y) #[] j] 174)<|aw #[.func (.func K.f) #[] K.cb] 345):=J.aV n;refine⟨_,AZ K (G<|H a) (G (H a)+1) X,rfl,⟨259,_,rfl,enters_of func259 (by kernel_rfl) rfl,?_⟩,n,?_⟩;refine Rz K (G<|H a) (G (H a)+1) y j _ s e X _ (ai _) ⟨?_,aE _ (by simp),t,f.same<|p.same f.own.size (λk c=>⟨(f.own.each k c).2,λi=>i⟩)<|λk c=>c.elim,K.fq s a _ g<|λk c=>?_,⟨f.own.size,by have:=f.own.size;omega⟩,λk c=>?_,λk c=>?_⟩;exact(er.alloc (aE _ rfl) _);exact p.block k (K.lt s a g k c).2<|λi=>i;have:=(f.own.each k c).2;exact⟨by omega,by omega,x k c⟩;have:=(K.lt s a g k c).2;exact⟨by omega,by omega⟩;rintro k(i|i|i|i);exact .inr (.inr<|by omega);exact .inr (.inr<|by omega);exact .inl i;exact .inr<|.inl i
def Uc(V:jr)(b:R):Cc Unit V b where
 f:=218
 cb:=#[]
 test:=λ_ e=>!e.del
 Ex:=λ_ _=>()
 inv:=λ_ _=>True
 S:=λ_=>False
 Tj:=enters_of func218 (by kernel_rfl) rfl
 call:=by
  rintro _⟨e,g,d,c⟩w _;unfold E.value;simp only;have a:∀(x:Bool)(w:I),(Op.unary .not<|aO x).run bG w=.ok (aO<|!x) w:=λ_ _=>rfl;show cA bG 218 #[eB #[aj e,aj g,aO d,aL c]] w _;go_in
  go_wp2;go_ret;exact⟨rfl,trivial,(cI _ w)⟩
 fq:=λ_ _ _ _ _=>trivial
 lt:=λ_ _ _ _ a=>a.elim
def IW(l:cK)(s:Unit):rL (λ(_:Unit)e=>!e.del) (λ_ _=>()) s l=l.filter (λe=>!e.del):=by
 induction l generalizing s with
 |nil=>rfl
 |cons x r a=>
  unfold rL;cases h:x.del with
  |true=>simp[h,a]
  |false=>simp[h,a]
def Lk(r:jm u b d e X a):cA bG 162 #[d] a λl g=>∃f c,l=aP f/\jm u b f (e.filter<|λl=>!l.del) c g/\Below (G<|H a) a g/\(∀m,c m->X m\/G (H a)<=m):=by
 have p:=Lt (Uc u b) () r trivial<|λ_ _ n=>n;have q:=IW e ();have o:cA bG 217 #[d,.func (.func 218) #[] #[]] a λl g=>∃f c,l=aP f/\jm u b f (e.filter<|λl=>!l.del) c g/\Below (G<|H a) a g/\(∀m,c m->X m\/G (H a)<=m):=by apply p.mono;rintro l g⟨f,c,w,x,y,A⟩;refine⟨f,c,w,?_,y,λm B=>?_⟩;rw[<-q];exact x;rcases A m B with n|n|n;exact .inl n;exact n.elim;exact .inr n
 clear p q;obtain⟨E,C,rfl,_⟩:=r;go_in
 go_wp2_with(go_at_call 217;refine o.mono ?_;rintro l D⟨f,c,rfl,k,j,i⟩;have t:=Z k;have s:=Z j;have v:=Z i;clear k j i)
 go_ret;exact⟨f,c,rfl,t,s,v⟩
def ZA(V:jr)(m e b:R)(n:Y):Cc ab V m where
 f:=219
 cb:=#[aA e,aA b]
 test:=λs o=>decide (o.bK<=n)&&!decide (o.key=s)
 Ex:=λs o=>if o.bK<=n then o.key else s
 inv:=λs w=>er w e (aL n) 103/\er w b (aj s) 9/\m<=b/\m<=e/\e≠b
 S:=λv=>v=e\/v=b
 Tj:=enters_of func219 (by kernel_rfl) rfl
 call:=by
  rintro s⟨q,y,x,i⟩w⟨a,g,F,u,k⟩;unfold E.value;simp only;have B:=g.cell;have D:=g.free;have C:=a.cell;have t:=am g;have p:=am a;have j:=Z g;have d:=Z a;clear g a;show cA bG 219 #[eB #[aj q,aj y,aO x,aL i],aA e,aA b] w _;by_cases l:i<=n
  .have r:¬n<i:=by omega
   by_cases c:q=s
   .subst c;simp only[l,mR,uu,Bool.and_false,iO];go_in
    go_wp2;go_ret;exact⟨rfl,⟨d.alloc _,j.alloc _⟩,(cI _ w)⟩
   .have A:=IE c;simp only[l,c,mR,zW,nL,Bool.and_true,iO];go_in
    go_wp2;go_ret;refine⟨rfl,⟨(d.other _ k).alloc _,(j.set _).alloc _⟩,?_⟩;exact((J.refl _ w).setCell b 0 _<|.inl<|.inr rfl).alloc _
  .have r:n<i:=by omega
   simp only[l,zW,ql,jT];go_in
   go_wp2;go_ret;exact⟨rfl,⟨d.alloc _,j.alloc _⟩,(cI _ w)⟩
 fq:=λs w a h c=>⟨(c e<|.inl rfl).trans h.1,(c b<|.inr rfl).trans h.2.1,h.2.2⟩
 lt:=λs w h v c=>by
  rcases c with rfl|rfl
  .exact⟨h.2.2.2.1,am h.1⟩
  .exact⟨h.2.2.1,am h.2.1⟩
def Xg(c:Y)(l:cK)(s:ab):rL (λs(e:E)=>decide (e.bK<=c)&&!decide (e.key=s)) (λs e=>if e.bK<=c then e.key else s) s l=nA s (l.filter<|λe=>decide<|e.bK<=c):=by
 induction l generalizing s with
 |nil=>rfl
 |cons x r b=>
  unfold rL;by_cases a:x.bK<=c
  .rw[eW<|by simp[a]];unfold nA;by_cases h:x.key=s
   .simp[h,a,b]
   .simp[h,a,b]
  .rw[dl<|by simp[a]];simp[a,b]
structure AY(V:jr)(n0:R)(ls:dX)where
 f:R
 cb:Array aa
 inv:I->Prop
 S:R->Prop
 Tj:Enters bG f
 call:∀i(hi:i<z ls)w,inv w->V.D w->cA bG f (#[aq i]++cb) w λe w'=>∃v' S',e=aP (dE #[v',.nilIface])/\jm V n0 v' ls[i] S' w'/\V.D w'/\J V.F w w'/\(∀k,S' k->G (H w)<=k)
 fq:∀w w',inv w->jL V n0 S w w'->inv w'
 lt:∀w,inv w->∀k,S k->n0<=k/\k<G (H w)
structure iS{V:jr}{n0:R}{ls:dX}(O:AY V n0 ls)(w:I)(b c d g:R)(h:aa)(r:cK)(a:R)(S:fN):Prop where
 br:er w b h 174
 ba:er w c (aq a) 3
 bn:er w d (aq<|z ls) 3
 bo:er w g (.func (.func O.f) #[] O.cb) 425
 row:(h=.nilFunc/\r=[]/\∀k,¬S k)\/jm V n0 h r S w
 inv:O.inv w
 le:a<=z ls
 size:n0<=G (H w)
 aN:∀k,V.F k->k<n0
 own:n0<=b/\n0<=c/\n0<=d/\n0<=g
 ra:b≠c
 rn:b≠d
 ro:b≠g
 an:c≠d
 ao:c≠g
 nS:∀k,S k->k≠b/\k≠c/\k≠d/\k≠g/\¬O.S k
 nO:∀k,O.S k->k≠b/\k≠c/\k≠d/\k≠g
def ni{V:jr}{n0:R}{lsqq:dX}(O:AY V n0 lsqq)(b c d g:R)(S:fN)(k:R):Prop:=k=b\/k=c\/k=d\/k=g\/S k\/O.S k
def zf(r:cK)(lsqq:dX)(a:R):cK:=r++(lsqq.drop a).flatten
section
variable{V:jr}{n0:R}{lsqq:dX}{O:AY V n0 lsqq}{w w':I}{b c d g:R}{h:aa}{r:cK}{a:R}{S:fN}
theorem iS.pS(e:iS O w b c d g h r a S):vE V n0 (ni O b c d g S) w:=⟨e.size,e.aN,by
 rintro k(rfl|rfl|rfl|rfl|f|f)
 .exact⟨e.own.1,am e.br⟩
 .exact⟨e.own.2.1,am e.ba⟩
 .exact⟨e.own.2.2.1,am e.bn⟩
 .exact⟨e.own.2.2.2,am e.bo⟩
 .rcases e.row with⟨_,_,i⟩|i
  .exact(i k f).elim
  .exact i.own.each k f
 .exact O.lt w e.inv k f⟩
theorem iS.same(e:iS O w b c d g h r a S)(f:jL V n0 (ni O b c d g S) w w'):iS O w' b c d g h r a S:=⟨e.br.same f<|.inl rfl,e.ba.same f<|.inr<|.inl rfl,e.bn.same f<|.inr<|.inr<|.inl rfl,e.bo.same f<|.inr<|.inr<|.inr<|.inl rfl,e.row.imp id<|λj=>j.same<|f.mono<|λ_ i=>.inr<|.inr<|.inr<|.inr<|.inl i,O.fq w w' e.inv<|f.mono<|λ_ i=>.inr<|.inr<|.inr<|.inr<|.inr i,e.le,aF e.size f.1,e.aN,e.own,e.ra,e.rn,e.ro,e.an,e.ao,e.nS,e.nO⟩
theorem iS.apart{T:fN}(j:iS O w b c d g h r a S)(l:J T w w')(i:∀k,T k->¬ni O b c d g S k/\(k<n0->V.F k)):iS O w' b c d g h r a S:=j.same<|l.same j.size (λk e=>⟨(j.pS.each k e).2,λm=>(i k m).1 e⟩)<|λk e f=>(i k e).2 f
theorem iS.laid(e:iS O w b c d g h r a S)(o:Obj):iS O (cF w o) b c d g h r a S:=e.apart ((J.refl az w).alloc o) cN
theorem iS.Tv{p:cK}{m:fN}(e:iS O w b c d g h r a S)(j:J (λk=>S k\/V.F k) w w')(q:∀k,m k->S k\/G (H w)<=k)(t:jm V n0 h p m w'):iS O w' b c d g h p a m:=by
 have o:=e.pS;have hF:∀k,n0<=k->¬V.F k:=λk f e=>by have:=o.aN k e;omega
 have l:∀k,k=b\/k=c\/k=d\/k=g->¬(S k\/V.F k):=by rintro k f(i|i);have:=e.nS k i;rcases f with rfl|rfl|rfl|rfl;exact this.1 rfl;exact this.2.1 rfl;exact this.2.2.1 rfl;exact this.2.2.2.1 rfl;rcases f with rfl|rfl|rfl|rfl;exact hF _ e.own.1 i;exact hF _ e.own.2.1 i;exact hF _ e.own.2.2.1 i;exact hF _ e.own.2.2.2 i
 refine⟨(j.block b (am e.br)<|l _<|.inl rfl).trans e.br,(j.block c (am e.ba)<|l _<|.inr<|.inl rfl).trans e.ba,(j.block d (am e.bn)<|l _<|.inr<|.inr<|.inl rfl).trans e.bn,(j.block g (am e.bo)<|l _<|.inr<|.inr<|.inr rfl).trans e.bo,.inr t,O.fq w w' e.inv<|j.same e.size (λk f=>⟨(O.lt w e.inv k f).2,?_⟩)<|λk f s=>?_,e.le,aF e.size j.size,e.aN,e.own,e.ra,e.rn,e.ro,e.an,e.ao,λk f=>?_,e.nO⟩;rintro(i|i);exact(e.nS k i).2.2.2.2 f;exact hF k (O.lt w e.inv k f).1 i;rcases f with i|i;have:=(o.each k<|.inr<|.inr<|.inr<|.inr<|.inl i).1;omega;exact i;rcases q k f with i|i;exact e.nS k i;refine⟨?_,?_,?_,?_,?_⟩;rintro rfl;have:=am e.br;omega;rintro rfl;have:=am e.ba;omega;rintro rfl;have:=am e.bn;omega;rintro rfl;have:=am e.bo;omega;intro n;have:=(O.lt w e.inv k n).2;omega
theorem iS.ended(e:iS O w b c d g h r a S)(j:J (λk=>S k\/V.F k) w w'):iS O (ct w' (U b 0) .nilFunc) b c d g .nilFunc [] a az:=by
 have t:=e.pS;have hF:∀k,n0<=k->¬V.F k:=λk f e=>by have:=t.aN k e;omega
 have l:∀k,k=b\/k=c\/k=d\/k=g->¬(S k\/V.F k):=by rintro k f(i|i);have:=e.nS k i;rcases f with rfl|rfl|rfl|rfl;exact this.1 rfl;exact this.2.1 rfl;exact this.2.2.1 rfl;exact this.2.2.2.1 rfl;rcases f with rfl|rfl|rfl|rfl;exact hF _ e.own.1 i;exact hF _ e.own.2.1 i;exact hF _ e.own.2.2.1 i;exact hF _ e.own.2.2.2 i
 have p:er w' b h 174:=(j.block b (am e.br)<|l _<|.inl rfl).trans e.br;have m:er w' c (aq a) 3:=(j.block c (am e.ba)<|l _<|.inr<|.inl rfl).trans e.ba;have n:er w' d (aq<|z lsqq) 3:=(j.block d (am e.bn)<|l _<|.inr<|.inr<|.inl rfl).trans e.bn;have o:er w' g (.func (.func O.f) #[] O.cb) 425:=(j.block g (am e.bo)<|l _<|.inr<|.inr<|.inr rfl).trans e.bo;have q:J (λk=>(S k\/V.F k)\/k=b) w (ct w' (U b 0) .nilFunc):=(j.mono (T:=λk=>(S k\/V.F k)\/k=b)<|λk f=>.inl<|.inl f).setCell b 0 _<|.inl<|.inr rfl;refine⟨p.set _,m.other _<|λs=>e.ra s.symm,n.other _<|λs=>e.rn s.symm,o.other _<|λs=>e.ro s.symm,.inl ⟨rfl,rfl,λ_ i=>i⟩,O.fq w _ e.inv<|q.same e.size (λk f=>⟨(O.lt w e.inv k f).2,?_⟩)<|λk f u=>?_,e.le,by rw[gE];exact aF e.size j.size,e.aN,e.own,e.ra,e.rn,e.ro,e.an,e.ao,cN,e.nO⟩;rintro((i|i)|i);exact(e.nS k i).2.2.2.2 f;exact hF k (O.lt w e.inv k f).1 i;exact(e.nO k f).1 i;rcases f with(i|i)|i;have:=(t.each k<|.inr<|.inr<|.inr<|.inr<|.inl i).1;omega;exact i;have:=e.own.1;subst i;omega
theorem iS.opened{s:aa}{p:fN}(y:a<z lsqq)(e:iS O w b c d g .nilFunc [] a S)(j:J V.F w w')(B:jm V n0 s lsqq[a] p w')(C:∀k,p k->G (H w)<=k):iS O (ct (ct w' (U b 0) s) (U c 0)<|aq<|(a:Y)+1) b c d g s lsqq[a] (a+1) p:=by
 have hF:∀k,n0<=k->¬V.F k:=λk f i=>by have:=e.aN k i;omega
 have A:∀k,p k->k≠b/\k≠c/\k≠d/\k≠g/\¬O.S k:=λk f=>by have:=C k f;have D:=am e.br;have E:=am e.ba;have F:=am e.bn;have K:=am e.bo;exact⟨by omega,by omega,by omega,by omega,λo=>by have:=(O.lt w e.inv k o).2;omega⟩
 have x:er w' b .nilFunc 174:=(j.block b (am e.br)<|hF _ e.own.1).trans e.br;have t:er w' c (aq a) 3:=(j.block c (am e.ba)<|hF _ e.own.2.1).trans e.ba;have u:er w' d (aq<|z lsqq) 3:=(j.block d (am e.bn)<|hF _ e.own.2.2.1).trans e.bn;have v:er w' g (.func (.func O.f) #[] O.cb) 425:=(j.block g (am e.bo)<|hF _ e.own.2.2.2).trans e.bo;have l:O.inv w':=O.fq w w' e.inv<|j.same e.size (λk f=>⟨(O.lt w e.inv k f).2,hF k (O.lt w e.inv k f).1⟩)<|λk f _=>f;have n:J (λk=>k=b\/k=c) w' (ct (ct w' (U b 0) s) (U c 0)<|aq<|(a:Y)+1):=((J.refl (λk=>k=b\/k=c) w').setCell b 0 _<|.inl<|.inl rfl).setCell c 0 _<|.inl<|.inr rfl;have i:n0<=G (H w'):=aF e.size j.size;have m:∀k,(k=b\/k=c)->k<n0->V.F k:=by rintro k(rfl|rfl)o;have:=e.own.1;omega;have:=e.own.2.1;omega
 refine⟨(x.set _).other _ e.ra,(t.other _<|λq=>e.ra q.symm).set _,(u.other _<|λq=>e.rn q.symm).other _<|λq=>e.an q.symm,(v.other _<|λq=>e.ro q.symm).other _<|λq=>e.ao q.symm,.inr<|B.same<|n.same i (λk f=>⟨(B.own.each k f).2,?_⟩) m,O.fq w' _ l<|n.same i (λk f=>⟨(O.lt w' l k f).2,?_⟩) m,y,by rw[gE,gE];exact i,e.aN,e.own,e.ra,e.rn,e.ro,e.an,e.ao,A,e.nO⟩;rintro(o|o);exact(A k f).1 o;exact(A k f).2.1 o;rintro(o|o);exact(e.nO k f).1 o;exact(e.nO k f).2.1 o
end
def oN{P:Program}{w:I}{b:R}{u:aa}{t:TypeId}(h:er w b u t)(v:aa)(d:v.oneCell'=bX):(store (U b 0) v).run P w=.ok () (ct w (U b 0) v):=by
 have a:=h.cell;have c:=h.free;rw[run_store P w _ _ _ d];simp[a,c]
abbrev zE:E:=⟨⟨#[]⟩,⟨#[]⟩,bF,0⟩
def Ii{O:AY u b k}{j:fN}(m:vE u b (ni O c g l y X) a)(p:iS O f c g l y d e P j)(q:u.D f)(s:J (λi=>ni O c g l y X i\/u.F i) a f)(r:¬ni O c g l y j (G<|H a))(x:E)(o:Obj):u.D ((wS f (G<|H a) x).alloc o)/\J (λi=>ni O c g l y X i\/u.F i) a ((wS f (G<|H a) x).alloc o)/\iS O ((wS f (G<|H a) x).alloc o) c g l y d e P j:=by
 have h:J (λi=>i=G (H a)) f ((wS f (G<|H a) x).alloc o):=(jj _ _ _).alloc o;refine⟨u.fq q h (λi n t=>by have:=m.aN i t;have:=m.size;omega),s.trans h (λi n=>.inr<|by omega),p.apart h<|λi n=>?_⟩;subst n;exact⟨r,λa=>by have:=m.size;omega⟩
def CS(ce:AY u b k){en:R}(hA:iS ce a c g l y d e en X)(hD:u.D a)(ex:z k<=1000000000000):cA bG 327 #[aA c,aA g,aA l,aA y] a λdv cs=>u.D cs/\J (λn=>ni ce c g l y X n\/u.F n) a cs/\((zf e k en=[]/\dv=aP (dE #[wX,aO bF,.nilIface]))\/(∃dx bf r' B S',zf e k en=dx::zf r' k B/\dv=aP (dE #[dx.value,aO bX,.nilIface])/\iS ce cs c g l y bf r' B S'/\(∀n,S' n->X n\/G (H a)<=n))):=by
 have fd:∀b a,(callFunc ce.f b).run bG a=.ok (.enter ce.f b) a:=ce.Tj;have ey:∀a,(binOp .eql 174 .nilFunc .nilFunc).run bG a=.ok (aO bX) a:=λ_=>rfl;have fb:∀f b a,(binOp .eql 174 (.func f #[] b) .nilFunc).run bG a=.ok (aO bF) a:=λ_ _ _=>rfl;have co:=hA.pS;have S:=Z co;have cE:∀n,b<=n->¬u.F n:=λn Q hf=>by have:=co.aN n hf;omega
 obtain⟨x,HA,HD⟩:=dI cE hA hD;clear hA hD co cE;go_in
 go_wp2;go_loopg [9] (2*(z k-en)+2) (λd _ wr=>∃bf r' B S' eo,2*(z k-B)+eo<d/\((bf=.nilFunc/\r'=[])\/(eo=1/\jm u b bf r' S' wr))/\iS ce wr c g l y bf r' B S'/\u.D wr/\J (λn=>ni ce c g l y X n\/u.F n) a wr/\zf e k en=zf r' k B/\(∀n,S' n->X n\/G (H a)+1<=n)/\ix wr (G<|H a) zE/\¬ni ce c g l y S' (G<|H a))
 (case atStart=>have h:=ae HA;refine⟨d,e,en,X,1,by omega,?_,h.laid _,u.fq HD (cI az a) cN,(cI _ _),rfl,λn Q=>.inl Q,aE _ rfl,λj=>?_⟩;rcases(h.laid<|aw #[aj ⟨#[]⟩,aj ⟨#[]⟩,aO bF,aL 0] 164).row with⟨c1,c2,_⟩|j;exact .inl ⟨c1,c2⟩;exact .inr ⟨rfl,j⟩;have:=(h.pS.each _ j).2;omega)
 case round=>
  obtain⟨bf,r',B,S',eo,br,dm,p,W,bn,bd,bm,D,bl⟩:=hrel;have ev:=p.br.cell;have es:=p.ba.cell;have et:=p.bn.cell;have eu:=p.bo.cell;have n1:=p.ra;have n2:¬g=c:=λdv=>p.ra dv.symm;have bh:=Z bn;have cl:=Z bd;have V:=Z D;have cv:=Z bm;have m:=Z bl;have cu:=Z br;rcases dm with⟨rfl,rfl⟩|⟨rfl,O,w,rfl,eq,bb⟩
  .by_cases cb:B<z k
   .have cd:=ce.call B cb wr p.inv W;have cM:zf [] k B=zf k[B] k (B+1):=by unfold zf;rw[bH cb,aX,cJ]
    have bx:=Z<|bd.trans cM;have cB:=p.br;have cx:=p.ba;obtain⟨HK,bv,bu⟩:=dI (show∀n,n=c\/n=g->b<=n by rintro n(rfl|rfl);exact p.own.1;exact p.own.2.1) cB cx;clear cB cx;have cj:=Z p;clear p W bn bd D bm bl br cM;cases hla:k[B]with
    |nil=>
     rw[hla]at cd bx;have bg:=Z hla;clear hla;go_wp2_with(first
      |(go_at_fn ce.f;refine cd.mono ?_;rintro dv w1⟨v1,S1,rfl,bq,bi,N,au⟩;obtain⟨O,w,rfl,ca,bs⟩:=bq;have hA1:=cj.opened cb N (by rw[ae bg];exact⟨O,w,rfl,ca,bs⟩) au;have F:er w1 c .nilFunc 174:=(N.block c (am bv)<|x _<|HK _<|.inl rfl).trans bv;have A:er w1 g (.int .i64 B) 3:=(N.block g (am bu)<|x _<|HK _<|.inr rfl).trans bu;have dn:=oN (P:=bG) F (.func (.func O) #[] w) rfl;have cT:=A.cell;have db:=A.free;have dd:=am F;have dc:=am A;have ba:J (λn=>n=c\/n=g) w1 (ct (ct w1 (U c 0)<|.func (.func O) #[] w) (U g 0)<|.int .i64<|(B:Y)+1):=((J.refl (λn=>n=c\/n=g) w1).setCell c 0 _<|.inl<|.inl rfl).setCell g 0 _<|.inl<|.inr rfl;have bk:=u.fq bi ba<|λn Q=>x n<|HK n Q;have bt:Ir u b O w [] S1 (ct (ct w1 (U c 0)<|.func (.func O) #[] w) (U g 0)<|.int .i64<|(B:Y)+1):=(by rcases hA1.row with⟨j,_⟩|⟨f2,dT,cp,_,L⟩;cases j;cases cp;rw[ae bg]at L;exact L);have K:=bt.2 _ (jL.refl _ _ _ _) bk;have ea:=hA1.br.cell;have ef:=hA1.br.free;have ek:=am hA1.br;have v:=Z hA1;have an:=Z N;have bc:=Z au;have ao:=Z ba;clear bi N au bs hA1 F A ba bk bt)
      |(go_at_fn O;refine K.mono ?_;rintro dv w2⟨rfl,C,q⟩;have hA2:=v.ended (q.alloc (.cells #[.string ⟨#[]⟩,.string ⟨#[]⟩,.bool bF,.int .u64 0] 164));have bo:er w2 c (.func (.func O) #[] w) 174:=(q.block c (am v.br) (λj=>j.elim (λj=>(v.nS c j).1 rfl) (λj=>x _ v.own.1 j))).trans v.br;have ds:=oN (P:=bG) (bo.alloc (.cells #[.string ⟨#[]⟩,.string ⟨#[]⟩,.bool bF,.int .u64 0] 164)) .nilFunc rfl;have ad:=Z hA2;have al:=Z C;have T:=Z q;clear hA2 C q bo;unfold wX))
     go_roundg(2*(z k-B));case measure=>have:=ae cu;omega
     case rel=>
      have ax:G (H a)<G (H wr):=am V;have cc:¬u.F (G<|H a):=x _ S.size;have ac:G (H a)≠c/\G (H a)≠g:=⟨λj=>m<|.inl j,λj=>m<|.inr<|.inl j⟩;have em:=ao.size;have el:=an.size;have hT:J (λn=>ni ce c g l y X n\/u.F n) a (ct (cF w2<|aw #[aj ⟨#[]⟩,aj ⟨#[]⟩,aO bF,aL 0] 164) (U c 0) .nilFunc):=by
       refine((((bh.trans an<|λn Q=>.inl<|.inr Q).trans ao ?_).trans T ?_).alloc _).setCell c 0 _<|.inl<|.inl<|.inl rfl
       .rintro n(j|j)
        .exact .inl<|.inl<|.inl j
        .exact .inl<|.inl<|.inr<|.inl j
       .rintro n(j|j)
        .have:=bc n j;exact .inr<|by omega
        .exact .inl<|.inr j
      have cm:=u.fq al (((J.refl (λn=>n=c) w2).alloc<|aw #[aj ⟨#[]⟩,aj ⟨#[]⟩,aO bF,aL 0] 164).setCell c 0 .nilFunc<|.inl rfl) (λn Q=>by rw[Q];exact x _ v.own.1);have o:ix (ct (cF w2<|aw #[aj ⟨#[]⟩,aj ⟨#[]⟩,aO bF,aL 0] 164) (U c 0) .nilFunc) (G<|H a) zE:=by
       refine(iC _ ac.1).trans<|ix.alloc (b:=G<|H a) (x:=zE) ?_ _;refine(((V.ay an cc).ay ao<|λj=>j.elim ac.1 ac.2).ay T ?_);rintro(j|j)
       .have:=bc _ j;omega
       .exact cc j
      refine⟨.nilFunc,[],B+1,λ_=>False,0,by omega,.inl ⟨rfl,rfl⟩,ad,cm,hT,bx,cN,o,?_⟩;rintro(j|j|j|j|j|j)
      .exact ac.1 j
      .exact ac.2 j
      .exact m<|.inr<|.inr<|.inl j
      .exact m<|.inr<|.inr<|.inr<|.inl j
      .exact j
      .exact m<|.inr<|.inr<|.inr<|.inr<|.inr j
    |cons dx r2=>
     rw[hla]at cd bx;have bg:=Z hla;clear hla;obtain⟨s,t,r,f⟩:=dx;go_wp2_with(first
      |(go_at_fn ce.f;refine cd.mono ?_;rintro dv w1⟨v1,S1,rfl,bq,bi,N,au⟩;obtain⟨O,w,rfl,ca,bs⟩:=bq;have hA1:=cj.opened cb N (by rw[ae bg];exact⟨O,w,rfl,ca,bs⟩) au;have F:er w1 c .nilFunc 174:=(N.block c (am bv)<|x _<|HK _<|.inl rfl).trans bv;have A:er w1 g (.int .i64 B) 3:=(N.block g (am bu)<|x _<|HK _<|.inr rfl).trans bu;have dn:=oN (P:=bG) F (.func (.func O) #[] w) rfl;have cT:=A.cell;have db:=A.free;have dd:=am F;have dc:=am A;have ba:J (λn=>n=c\/n=g) w1 (ct (ct w1 (U c 0)<|.func (.func O) #[] w) (U g 0)<|.int .i64<|(B:Y)+1):=((J.refl (λn=>n=c\/n=g) w1).setCell c 0 _<|.inl<|.inl rfl).setCell g 0 _<|.inl<|.inr rfl;have bk:=u.fq bi ba<|λn Q=>x n<|HK n Q;have bt:Ir u b O w (⟨s,t,r,f⟩::r2) S1 (ct (ct w1 (U c 0)<|.func (.func O) #[] w) (U g 0)<|.int .i64<|(B:Y)+1):=(by rcases hA1.row with⟨j,_⟩|⟨f2,dT,cp,_,L⟩;cases j;cases cp;rw[ae bg]at L;exact L);have K:=bt.2 _ (jL.refl _ _ _ _) bk;unfold E.value at K;simp only at K;have bp:Enters bG O:=ca;have ea:=hA1.br.cell;have ef:=hA1.br.free;have ek:=am hA1.br;have v:=Z hA1;have an:=Z N;have bc:=Z au;have ao:=Z ba;clear bi N au bs hA1 F A ba bk bt)
      |(go_at_fn O;refine K.mono ?_;rintro dv w2⟨rfl,C,q,S2,av,L⟩;have hA2:=v.Tv q av ⟨O,w,rfl,bp,L⟩;have o:ix w2 (G (H a)) zE:=(((V.ay an (x _ S.size)).ay ao (λj=>j.elim (λj=>m (.inl j)) (λj=>m (.inr (.inl j))))).ay q (λj=>j.elim (λj=>by have:=bc _ j;have:=am V;omega) (x _ S.size)));obtain⟨eb,ec,ed,ee⟩:=o.cells;have eg:=o.free (i:=0);have bq:=o.free (i:=1);have ei:=o.free (i:=2);have ej:=o.free (i:=3);have dk:=am o;have ck:=Z o;have ad:=Z hA2;have al:=Z C;have T:=Z q;have bT:=Z av;clear hA2 C q av L o))
     refine cO (fZ rfl _ _ (G<|H a) ⟨s,t,r,f⟩ _ _ rfl<|(ck.put ⟨s,t,r,f⟩).alloc _) rfl ?_;have ax:G (H a)<G (H wr):=am V;have em:=ao.size;have el:=an.size;have hT:J (λn=>ni ce c g l y X n\/u.F n) a w2:=by
      refine((bh.trans an<|λn Q=>.inl<|.inr Q).trans ao ?_).trans T ?_
      .rintro n(j|j)
       .exact .inl<|.inl<|.inl j
       .exact .inl<|.inl<|.inr<|.inl j
      .rintro n(j|j)
       .have:=bc n j;exact .inr<|by omega
       .exact .inl<|.inr j
     have ch:∀n,S2 n->G (H a)<n:=λn Q=>by
      rcases bT n Q with j|j
      .have:=bc n j;omega
      .omega
     have cn:¬ni ce c g l y S2 (G<|H a):=by
      rintro(j|j|j|j|j|j)
      .exact m<|.inl j
      .exact m<|.inr<|.inl j
      .exact m<|.inr<|.inr<|.inl j
      .exact m<|.inr<|.inr<|.inr<|.inl j
      .have:=ch _ j;omega
      .exact m<|.inr<|.inr<|.inr<|.inr<|.inr j
     obtain⟨q1,q2,q3⟩:=Ii S ad al hT cn ⟨s,t,r,f⟩<|aw #[aj s,aj t,aO r,aL f] 164;exact⟨q1,q2,.inr ⟨⟨s,t,r,f⟩,_,r2,B+1,S2,bx,rfl,q3,λn Q=>.inr (by have:=ch n Q;omega)⟩⟩
   .have N:B=z k:=by have:=p.le;omega
    subst N;obtain⟨bc,bg,bi,bk⟩:=D.cells;have an:=D.free (i:=0);have ao:=D.free (i:=1);have au:=D.free (i:=2);have ba:=D.free (i:=3);have cj:=Z p;have F:=Z W;clear p W bn bd D bm bl br;go_wp2;refine cO (fZ rfl _ _ (G<|H a) zE _ _ rfl<|V.put zE) rfl ?_;have A:J (λn=>n=G (H a)) wr (wS wr (G<|H a) zE):=jj _ _ _;refine⟨u.fq F A (λn Q hf=>by have:=S.aN n hf;have:=S.size;omega),bh.trans A (λn Q=>.inr<|by omega),.inl ⟨?_,rfl⟩⟩;rw[ae cl];simp[zf]
  .have ax:G (H a)<G (H wr):=am D;have bp:Enters bG O:=eq;have N:=Z ax;cases r' with
   |nil=>
    have K:=bb.2 wr (jL.refl _ _ _ _) W;have v:=Z p;clear p W bn bd D bm bl br bb ax;go_wp2_with(go_at_fn O;refine K.mono ?_;rintro dv w2⟨rfl,C,q⟩;have hA2:=v.ended<|q.alloc<|aw #[aj ⟨#[]⟩,aj ⟨#[]⟩,aO bF,aL 0] 164;have bo:er w2 c (.func (.func O) #[] w) 174:=(q.block c (am v.br)<|λj=>j.elim (λj=>(v.nS c j).1 rfl)<|λj=>x _ v.own.1 j).trans v.br;have ds:=oN (P:=bG) (bo.alloc<|aw #[aj ⟨#[]⟩,aj ⟨#[]⟩,aO bF,aL 0] 164) .nilFunc rfl;have ad:=Z hA2;have al:=Z C;have T:=Z q;clear hA2 C q bo;unfold wX)
    go_roundg(2*(z k-B)+1);case measure=>have:=ae cu;omega
    case rel=>
     have cc:¬u.F (G<|H a):=x _ S.size;have ac:G (H a)≠c:=λj=>m<|.inl j;have A:=ae cv;have ax:=ae N;have hT:J (λn=>ni ce c g l y X n\/u.F n) a (ct (cF w2<|aw #[aj ⟨#[]⟩,aj ⟨#[]⟩,aO bF,aL 0] 164) (U c 0) .nilFunc):=by
      refine((bh.trans T ?_).alloc _).setCell c 0 _<|.inl<|.inl<|.inl rfl;rintro n(j|j)
      .rcases A n j with F|F
       .exact .inl<|.inl<|.inr<|.inr<|.inr<|.inr<|.inl F
       .exact .inr<|by omega
      .exact .inl<|.inr j
     have cm:=u.fq al (((J.refl (λn=>n=c) w2).alloc<|aw #[aj ⟨#[]⟩,aj ⟨#[]⟩,aO bF,aL 0] 164).setCell c 0 .nilFunc<|.inl rfl) (λn Q=>by rw[Q];exact x _ v.own.1);have o:ix (ct (cF w2<|aw #[aj ⟨#[]⟩,aj ⟨#[]⟩,aO bF,aL 0] 164) (U c 0) .nilFunc) (G<|H a) zE:=by
      refine(iC _ ac).trans<|ix.alloc (b:=G<|H a) (x:=zE) ?_ _;refine V.ay T ?_;rintro(j|j)
      .exact m<|.inr<|.inr<|.inr<|.inr<|.inl j
      .exact cc j
     refine⟨.nilFunc,[],B,λ_=>False,0,by omega,.inl ⟨rfl,rfl⟩,ad,cm,hT,cl,cN,o,?_⟩;rintro(j|j|j|j|j|j)
     .exact ac j
     .exact m<|.inr<|.inl j
     .exact m<|.inr<|.inr<|.inl j
     .exact m<|.inr<|.inr<|.inr<|.inl j
     .exact j
     .exact m<|.inr<|.inr<|.inr<|.inr<|.inr j
   |cons dx r2=>
    have K:=bb.2 wr (jL.refl _ _ _ _) W;have v:=Z p;clear p W bn bd D bm bl br bb ax;obtain⟨s,t,r,f⟩:=dx;unfold E.value at K;simp only at K;go_wp2_with(go_at_fn O;refine K.mono ?_;rintro dv w2⟨rfl,C,q,S2,av,L⟩;have hA2:=v.Tv q av ⟨O,w,rfl,bp,L⟩;have o:ix w2 (G<|H a) zE:=(V.ay q<|λj=>j.elim (λj=>m<|.inr<|.inr<|.inr<|.inr<|.inl j)<|x _ S.size);obtain⟨eb,ec,ed,ee⟩:=o.cells;have eg:=o.free (i:=0);have bq:=o.free (i:=1);have ei:=o.free (i:=2);have ej:=o.free (i:=3);have dk:=am o;have ck:=Z o;have ad:=Z hA2;have al:=Z C;have T:=Z q;have bT:=Z av;clear hA2 C q av L o)
    refine cO (fZ rfl _ _ (G<|H a) ⟨s,t,r,f⟩ _ _ rfl<|(ck.put ⟨s,t,r,f⟩).alloc _) rfl ?_;have ax:=ae N;have A:=ae cv;have hT:J (λn=>ni ce c g l y X n\/u.F n) a w2:=by
     refine bh.trans T ?_;rintro n(j|j)
     .rcases A n j with F|F
      .exact .inl<|.inl<|.inr<|.inr<|.inr<|.inr<|.inl F
      .exact .inr<|by omega
     .exact .inl<|.inr j
    have cn:¬ni ce c g l y S2 (G<|H a):=by
     rintro(j|j|j|j|j|j)
     .exact m<|.inl j
     .exact m<|.inr<|.inl j
     .exact m<|.inr<|.inr<|.inl j
     .exact m<|.inr<|.inr<|.inr<|.inl j
     .rcases bT _ j with F|F
      .exact m<|.inr<|.inr<|.inr<|.inr<|.inl F
      .omega
     .exact m<|.inr<|.inr<|.inr<|.inr<|.inr j
    obtain⟨q1,q2,q3⟩:=Ii S ad al hT cn ⟨s,t,r,f⟩<|aw #[aj s,aj t,aO r,aL f] 164;refine⟨q1,q2,.inr ⟨⟨s,t,r,f⟩,_,r2,B,S2,cl,rfl,q3,λn Q=>?_⟩⟩;rcases bT n Q with F|F
    .rcases A n F with F|F
     .exact .inl F
     .exact .inr<|by omega
    .exact .inr<|by omega
def Pq(O:AY u b k)(m i j l:R)(e:z k<=1000000000000):∀(v:cK)(s:aa)(y:cK)(x:R)(S:fN)(A:I),zf y k x=v->iS O A m i j l s y x S->Ir u b 327 #[aA m,aA i,aA j,aA l] v (ni O m i j l S) A:=by
 intro v;induction v with
 |nil=>
  intro s y x S A h d;refine⟨d.pS,λL r q=>(CS O (d.same r) q e).mono ?_⟩;rintro P g⟨o,p,⟨_,a⟩|⟨T,f,w,t,n,a,_⟩⟩
  .exact⟨a,o,p⟩
  .rw[h]at a;cases a
 |cons N v K=>
  intro s y x S A h d;refine⟨d.pS,λL r q=>(CS O (d.same r) q e).mono ?_⟩;rintro P g⟨o,p,⟨a,_⟩|⟨T,f,w,t,n,a,C,D,E⟩⟩
  .rw[h]at a;cases a
  .rw[h]at a;obtain⟨rfl,F⟩:=yW a;refine⟨C,o,p,ni O m i j l n,?_,K f w t n g F.symm D⟩;rintro Q(c|c|c|c|c|c)
   .exact .inl<|.inl c
   .exact .inl<|.inr<|.inl c
   .exact .inl<|.inr<|.inr<|.inl c
   .exact .inl<|.inr<|.inr<|.inr<|.inl c
   .rcases E Q c with B|B
    .exact .inl<|.inr<|.inr<|.inr<|.inr<|.inl B
    .exact .inr B
   .exact .inl<|.inr<|.inr<|.inr<|.inr<|.inr c
def Ij(O:AY u b k)(w:I)(a:O.inv w)(o:b<=G (H w))(hF:∀d,u.F d->d<b)(f:z k<=1000000000000):cA bG 322 #[aq<|z k,.func (.func O.f) #[] O.cb] w λq l=>∃j g,q=aP j/\jm u b j k.flatten g l/\Below (G<|H w) w l/\(∀d,g d->O.S d\/G (H w)<=d):=by
 have n:=Z a;have m:=Z hF;clear a hF;go_in
 go_wp2;go_ret;have a:=ae n;have i:Below (G<|H w) w (cF (cF (cF (cF w<|aw #[aq<|z k] 3)<|aw #[.func (.func O.f) #[] O.cb] 425)<|aw #[aq 0] 3)<|aw #[.nilFunc] 174):=((((Below.refl _ w).alloc (ai _) _).alloc (by simp) _).alloc (by simp;omega) _).alloc (by simp;omega) _;have p:J az w _:=J.aV i;refine⟨_,ni O (G (H w)+1+1+1) (G (H w)+1+1) (G<|H w) (G (H w)+1) az,rfl,⟨327,_,rfl,enters_of func327 (by kernel_rfl) rfl,?_⟩,i,?_⟩;refine Pq O _ _ _ _ f k.flatten .nilFunc [] 0 _ _ rfl ⟨aE _ (by simp),?_,?_,?_,.inl ⟨rfl,rfl,λ_ c=>c⟩,O.fq w _ a<|p.same o (λd e=>⟨(O.lt w a d e).2,λc=>c⟩) cN,bB _,by simp;omega,m,⟨by omega,by omega,by omega,by omega⟩,by omega,by omega,by omega,by omega,by omega,cN,λd e=>?_⟩;exact er.alloc (aE _<|by simp) _;exact er.alloc (er.alloc (er.alloc (aE _ rfl) _) _) _;exact er.alloc (er.alloc (aE _<|by simp) _) _;have:=(O.lt w a d e).2;exact⟨by omega,by omega,by omega,by omega⟩;rintro d(c|c|c|c|c|c);exact .inr (by omega);exact .inr (by omega);exact .inr (by omega);exact .inr (by omega);exact c.elim;exact .inl c
structure Hd where
 v:aa
 l:cK
 fr:E
 full:Bool
 ended:Bool
 S:R->Prop
def Hd.cells(h:Hd):jd:=[h.v,.string h.fr.key,.string h.fr.val,.bool h.fr.del,.int .u64 h.fr.bK,.bool h.full,.bool h.ended]
def ep(hs:cD Hd):jd:=hs.flatMap Hd.cells
def Hd.rest(h:Hd):cK:=if h.full then h.fr::h.l else h.l
theorem nn(hs:cD Hd):z (ep hs)=z hs*7:=by
 induction hs with
 |nil=>rfl
 |cons h r c=>unfold ep at*;rw[dN,af,c];simp[Hd.cells];omega
theorem qE(hs:cD Hd)(i:R)(h:i<z hs):ep hs=ep (hs.take i)++(Hd.cells hs[i]++ep (hs.drop<|i+1)):=by
 have c:hs=hs.take i++hs[i]::hs.drop (i+1):=by rw[<-bH h,ci]
 conv=>lhs;rw[c]
 simp only[ep,gh,dN]
theorem sA(hs:cD Hd)(i j:R)(h:i<z hs)(d:j<7):(ep hs)[i*7+j]?=(Hd.cells hs[i])[j]?:=by
 have c:z (ep<|hs.take i)=i*7:=by rw[nn];simp;omega
 rw[qE hs i h,dJ (by omega),c,show i*7+j-i*7=j by omega,gm (by simp[Hd.cells];omega)]
theorem Jy(hs:cD Hd)(i:R)(h:i<z hs)(x:Hd)(e:x.v=hs[i].v):(((((((ep hs).set (i*7+1)<|.string x.fr.key).set (i*7+2)<|.string x.fr.val).set (i*7+3)<|.bool x.fr.del).set (i*7+4)<|.int .u64 x.fr.bK).set (i*7+5)<|.bool x.full).set (i*7+6)<|.bool x.ended)=ep (hs.set i x):=by
 have d:z (ep<|hs.take i)=i*7:=by rw[nn];simp;omega
 have c:ep (hs.set i x)=ep (hs.take i)++(Hd.cells x++ep (hs.drop<|i+1)):=by rw[jn,dt h];simp only[ep,gh,dN]
 rw[c,qE hs i h];rw[gG _ _ (by omega),gG _ _ (by omega),gG _ _ (by omega),gG _ _ (by omega),gG _ _ (by omega),gG _ _ (by omega),d];rw[show i*7+1-i*7=1 by omega,show i*7+2-i*7=2 by omega,show i*7+3-i*7=3 by omega,show i*7+4-i*7=4 by omega,show i*7+5-i*7=5 by omega,show i*7+6-i*7=6 by omega];simp[Hd.cells,e]
theorem Gi(hs:cD Hd)(i:R)(h:i<z hs)(x:Hd)(e:x={hs[i]with full:=x.full}):(ep hs).set (i*7+5) (.bool x.full)=ep (hs.set i x):=by
 have d:z (ep<|hs.take i)=i*7:=by rw[nn];simp;omega
 have c:ep (hs.set i x)=ep (hs.take i)++(Hd.cells x++ep (hs.drop<|i+1)):=by rw[jn,dt h];simp only[ep,gh,dN]
 rw[c,qE hs i h,gG _ _ (by omega),d,show i*7+5-i*7=5 by omega];rw[e];simp[Hd.cells]
structure Tf(V:jr)(n0:R)(w:I)(h:Hd):Prop where
 gives:h.ended=bF->jm V n0 h.v h.l h.S w
 own:vE V n0 h.S w
 done:h.ended=bX->h.l=[]/\h.full=bF
theorem Tf.same{V:jr}{n0:R}{w w':I}{h:Hd}(o:Tf V n0 w h)(hs:jL V n0 h.S w w'):Tf V n0 w' h:=⟨λe=>(o.gives e).same hs,o.own.same hs,o.done⟩
structure jF(V:jr)(n0:R)(w:I)(b a:R)(hs:cD Hd):Prop where
 box:er w b (bE a 0 (z hs)<|z hs) 312
 row:w.heap[a]?=M (.cells (ep hs).toArray 314 (0,0))
 each:∀i(hi:i<z hs),Tf V n0 w hs[i]
 size:n0<=G (H w)
 aN:∀k,V.F k->k<n0
 own:n0<=b/\n0<=a
 bh:b≠a
 nS:∀i(hi:i<z hs)k,hs[i].S k->k≠b/\k≠a
 MA:∀i j(hi:i<z hs)(hj:j<z hs),i≠j->∀k,hs[i].S k->¬hs[j].S k
def lL(b a:R)(hs:cD Hd)(k:R):Prop:=k=b\/k=a\/∃i,∃c:i<z hs,hs[i].S k
section
variable{V:jr}{n0:R}{w w':I}{b a:R}{hs:cD Hd}
theorem jF.pS(h:jF V n0 w b a hs):vE V n0 (lL b a hs) w:=⟨h.size,h.aN,by
 rintro k(rfl|rfl|⟨i,c,d⟩)
 .exact⟨h.own.1,am h.box⟩
 .exact⟨h.own.2,am h.row⟩
 .exact(h.each i c).own.each k d⟩
theorem jF.same(h:jF V n0 w b a hs)(c:jL V n0 (lL b a hs) w w'):jF V n0 w' b a hs:=⟨h.box.same c<|.inl rfl,(c.2 a<|.inr<|.inr<|.inl rfl).trans h.row,λi d=>(h.each i d).same<|c.mono<|λ_ e=>.inr<|.inr ⟨i,d,e⟩,aF h.size c.1,h.aN,h.own,h.bh,h.nS,h.MA⟩
theorem jF.apart{T:fN}(h:jF V n0 w b a hs)(f:J T w w')(e:∀k,T k->¬lL b a hs k/\(k<n0->V.F k)):jF V n0 w' b a hs:=h.same<|f.same h.size (λk c=>⟨(h.pS.each k c).2,λg=>(e k g).1 c⟩)<|λk c d=>(e k c).2 d
theorem jF.laid(h:jF V n0 w b a hs)(o:Obj):jF V n0 (cF w o) b a hs:=h.apart ((J.refl az w).alloc o) cN
theorem jF.put(h:jF V n0 w b a hs)(l:R)(j:l<z hs)(A:Hd)(x:J (λk=>(hs[l].S k\/V.F k)\/k=a) w w')(B:w'.heap[a]?=M (.cells (ep<|hs.set l A).toArray 314 (0,0)))(C:Tf V n0 w' A)(r:∀k,A.S k->hs[l].S k\/G (H w)<=k):jF V n0 w' b a (hs.set l A):=by
 have hF:∀k,n0<=k->¬V.F k:=λk c d=>by have:=h.aN k d;omega
 have s:er w' b (bE a 0 (z hs)<|z hs) 312:=by refine(x.block b (am h.box) ?_).trans h.box;rintro((d|d)|d);exact(h.nS l j b d).1 rfl;exact hF b h.own.1 d;exact h.bh d
 refine⟨by rw[eT];exact s,B,λo t=>?_,aF h.size x.size,h.aN,h.own,h.bh,λo t k c=>?_,λn m u v i k c=>?_⟩;rw[lk];split;exact C;rename_i i;(have e:o<z hs:=by simpa using t);refine(h.each o e).same<|x.same h.size (λk c=>⟨((h.each o e).own.each k c).2,?_⟩)<|λk c g=>?_;rintro((d|d)|d);exact h.MA l o j e i k d c;exact hF k ((h.each o e).own.each k c).1 d;exact(h.nS o e k c).2 d;rcases c with(d|d)|d;have:=((h.each l j).own.each k d).1;omega;exact d;have:=h.own.2;omega;rw[lk]at c;split at c;rcases r k c with d|d;exact h.nS l j k d;have e:=am h.box;have g:=am h.row;exact⟨by omega,by omega⟩;exact h.nS o (by simpa using t) k c;rw[lk]at c|-;(have e:n<z hs:=by simpa using u);(have g:m<z hs:=by simpa using v);split at c;rename_i q;have y:¬l=m:=λd=>i<|q.symm.trans d;rw[dh y];rcases r k c with d|d;exact h.MA l m j g y k d;intro c2;have:=((h.each m g).own.each k c2).2;omega;rename_i q;split;intro c2;rcases r k c2 with d|d;exact h.MA l n j e q k d c;have:=((h.each n e).own.each k c).2;omega;exact h.MA n m e g i k c
end
def tw{d:cD Hd}(h:a.heap[b]?=M (.cells (ep d).toArray 314 (0,0)))(i:R)(e:i<z d):(aS a (U b<|i*7+1)=M (.string d[i].fr.key)/\aS a (U b<|i*7+1+1)=M (.string d[i].fr.val)/\aS a (U b<|i*7+1+2)=M (.bool d[i].fr.del)/\aS a (U b<|i*7+1+3)=M (.int .u64 d[i].fr.bK)/\aS a (U b<|i*7+5)=M (.bool d[i].full)/\aS a (U b<|i*7+6)=M (.bool d[i].ended))/\∀o,a.frozen? (U b o)=bF:=by
 have c:∀j,j<7->aS a (U b<|i*7+j)=(Hd.cells d[i])[j]?:=λj f=>by rw[bL h];simp only[qP];exact sA d i j e f
 exact⟨⟨c 1 (by decide),by rw[aY];exact c 2 (by decide),by rw[aY];exact c 3 (by decide),by rw[aY];exact c 4 (by decide),c 5 (by decide),c 6<|by decide⟩,λo=>dW h⟩
def Lj(w:I)(a i:R)(x:Hd):I:=ct (ct (ct (ct (ct (ct w (U a<|i*7+1)<|.string x.fr.key) (U a<|i*7+1+1)<|.string x.fr.val) (U a<|i*7+1+2)<|.bool x.fr.del) (U a<|i*7+1+3)<|.int .u64 x.fr.bK) (U a<|i*7+5)<|.bool x.full) (U a<|i*7+6)<|.bool x.ended
def Rl(w:I)(a i:R)(x:Hd):J (λk=>k=a) w (Lj w a i x):=(((((ij a w).setCell a _ _<|.inl rfl).setCell a _ _<|.inl rfl).setCell a _ _<|.inl rfl).setCell a _ _<|.inl rfl).setCell a _ _<|.inl rfl
def Ub{c:cD Hd}(h:a.heap[b]?=M (.cells (ep c).toArray 314 (0,0)))(i:R)(d:i<z c)(x:Hd)(e:x.v=c[i].v):(Lj a b i x).heap[b]?=M (.cells (ep<|c.set i x).toArray 314 (0,0)):=by
 refine(aT<|aT<|aT<|aT<|aT<|aT h).trans ?_;simp only[cH];rw[<-Jy c i d x e]
def Mu{e:cD Hd}(p:jF u b a c g e)(l:R)(s:l<z e)(d:Hd)(C:Obj)(K:d.v=e[l].v)(y:J (λk=>e[l].S k\/u.F k) a f)(t:u.D f)(v:f.heap[g]?=M (.cells (ep e).toArray 314 (0,0)))(F:d.ended=bF->jm u b d.v d.l d.S f)(h:vE u b d.S f)(m:d.ended=bX->d.l=[]/\d.full=bF)(w:∀k,d.S k->e[l].S k\/G (H a)<=k)(n:d.rest=e[l].rest)(A:d.full=bX\/d.ended=bX):u.D ((Lj f g l d).alloc C)/\J (λk=>lL c g e k\/u.F k) a ((Lj f g l d).alloc C)/\∃D:Hd,jF u b ((Lj f g l d).alloc C) c g (e.set l D)/\D.rest=e[l].rest/\(D.full=bX\/D.ended=bX)/\(∀k,D.S k->e[l].S k\/G (H a)<=k):=by
 have o:J (λk=>k=g) f ((Lj f g l d).alloc C):=(Rl _ _ _ _).alloc _;have q:J (λk=>(e[l].S k\/u.F k)\/k=g) a ((Lj f g l d).alloc C):=(y.mono (T:=λk=>(e[l].S k\/u.F k)\/k=g)<|λk j=>.inl<|.inl j).trans o<|λk j=>.inl<|.inr j;have B:((Lj f g l d).alloc C).heap[g]?=M (.cells (ep<|e.set l d).toArray 314 (0,0)):=by have:=Ub v l s d K;exact(ga _<|am this).trans this
 have x:∀k,d.S k->¬k=g:=λk j r=>by rcases w k j with L|L;exact(p.nS l s k L).2 r;have:=am p.row;omega
 have i:=o.same (V:=u) (n0:=b) (S:=d.S) h.size (λk j=>⟨(h.each k j).2,x k j⟩) (λk j a=>by have:=p.own.2;omega);refine⟨u.fq t o (λk j E=>by have:=p.aN k E;have:=p.own.2;omega),q.mono ?_,d,p.put l s d q B ⟨λr=>(F r).same i,h.same i,m⟩ w,n,A,w⟩;rintro k((r|r)|r);exact .inl<|.inl<|.inr<|.inr ⟨l,s,r⟩;exact .inl<|.inr r;exact .inl<|.inl<|.inr<|.inl r
def Vn(f:cD Hd)(k:R)(r:k<z f)(h:jF u b a c g f)(hD:u.D a):cA bG 194 #[.pointer<|M<|U g<|k*7] a λav w'=>av=.returned .nilIface/\u.D w'/\J (λac=>lL c g f ac\/u.F ac) a w'/\∃ao:Hd,jF u b w' c g (f.set k ao)/\ao.rest=f[k].rest/\(ao.full=bX\/ao.ended=bX)/\(∀ac,ao.S ac->f[k].S ac\/G (H a)<=ac):=by
 have o:∀j,j<7->aS a (U g<|k*7+j)=(Hd.cells f[k])[j]?:=λj d=>by rw[bL h.row];simp only[qP];exact sA f k j r d
 have F:=o 0 (by decide);have e:=o 5 (by decide);have l:=o 6 (by decide);have n:=Z h;have X:=Z hD;have t:=h.each k r;clear h hD o;have y:f.set k f[k]=f:=List.set_getElem_self r;have w:=Z y;clear y;cases hfu:f[k].full with
 |true=>
  simp only[Hd.cells,hfu]at e F;simp at e;have p:=Z hfu;clear hfu t l F;go_in
  go_wp2;go_ret;refine⟨rfl,X,J.refl _ _,f[k],?_,rfl,.inl p,λac Q=>.inl Q⟩;rw[ae w];exact n
 |false=>
  cases hen:f[k].ended with
  |true=>
   simp only[Hd.cells,hfu,hen]at e F l;simp at e l;have p:=Z hfu;have K:=Z hen;clear hfu hen t F;go_in
   go_wp2;go_ret;refine⟨rfl,X,J.refl _ _,f[k],?_,rfl,.inr K,λac Q=>.inl Q⟩;rw[ae w];exact n
  |false=>
   obtain⟨au,cb,D,eg,i⟩:=t.gives hen;simp only[Hd.cells,hfu,hen,D]at e F l;simp at e l F;obtain⟨p,K,an,ad⟩:=gD hfu hen D<|show Enters bG au from eg;clear hfu hen t D;cases hl:f[k].l with
   |nil=>
    rw[hl]at i;have P:=i.2 a (jL.refl _ _ _ _) X;clear i;have HL:=Z hl;clear hl;go_in
    go_wp2_with(go_at_fn au;refine P.mono ?_;rintro av w1⟨rfl,q,m⟩;have j:w1.heap[g]?=M (.cells (ep f).toArray 314 (0,0)):=(m.block g (am n.row)<|λC=>C.elim (λC=>(n.nS k r g C).2 rfl) (λC=>by have:=n.aN g C;have:=n.own.2;omega)).trans n.row;obtain⟨⟨c1,c2,c3,c4,c5,c6⟩,d⟩:=tw j k r;have g1:=d<|k*7+1;have g2:=d<|k*7+1+1;have g3:=d<|k*7+1+2;have g4:=d<|k*7+1+3;have g5:=d<|k*7+5;have g6:=d<|k*7+6;have S:=am j;have B:=Z j;have A:=Z q;have s:=Z m;clear j d q m;unfold wX)
    go_ret;have v:=ae n;refine⟨rfl,Mu v k r ⟨f[k].v,[],zE,bF,bX,f[k].S⟩ _ rfl s A B (λC=>by cases C) ((v.each k r).own.ay s) (λ_=>⟨rfl,rfl⟩) (λac Q=>.inl Q) ?_<|.inr rfl⟩;unfold Hd.rest;rw[ae p,ae HL];rfl
   |cons ao ax=>
    rw[hl]at i;have P:=i.2 a (jL.refl _ _ _ _) X;clear i;have HL:=Z hl;clear hl;obtain⟨V,W,T,v⟩:=ao;unfold E.value at P;simp only at P;go_in
    go_wp2_with(go_at_fn au;refine P.mono ?_;rintro av w1⟨rfl,q,m,S1,O,N⟩;have j:w1.heap[g]?=M (.cells (ep f).toArray 314 (0,0)):=(m.block g (am n.row)<|λC=>C.elim (λC=>(n.nS k r g C).2 rfl) (λC=>by have:=n.aN g C;have:=n.own.2;omega)).trans n.row;obtain⟨⟨c1,c2,c3,c4,c5,c6⟩,d⟩:=tw j k r;have g1:=d<|k*7+1;have g2:=d<|k*7+1+1;have g3:=d<|k*7+1+2;have g4:=d<|k*7+1+3;have g5:=d<|k*7+5;have g6:=d<|k*7+6;have S:=am j;have B:=Z j;have A:=Z q;have s:=Z m;have al:=Z O;have L:=Z N;clear j d q m O N)
    go_ret;have x:=ae L;refine⟨rfl,Mu n k r ⟨f[k].v,ax,⟨V,W,T,v⟩,bX,bF,S1⟩ _ rfl s A B (λ_=>⟨au,cb,an,ad,x⟩) x.own (λC=>by cases C) al ?_<|.inl rfl⟩;unfold Hd.rest;rw[ae p,ae HL];rfl
def Fz:Option R->Y
 |none=>-1
 |some b=>b
def jW(a:cD Hd):dX:=a.map Hd.rest
def Rf(a:cD Hd)(i:R)(f:i<z a)(x:Hd)(b:x.rest=a[i].rest):jW (a.set i x)=jW a:=by
 unfold jW;rw[oe,b];refine List.ext_getElem (by simp)<|λj c d=>?_;rw[lk];split;rename_i e;subst e;simp;rfl
def xE{a:cD Hd}(c:b<z a):lI (jW a) b=a[b].rest.head?:=by
 unfold lI jW;simp[c]
def FG{a:cD Hd}(h:g<z a){x:Hd}{N:R}(f:∀k,x.S k->a[g].S k\/N<=k):∀k,lL b c (a.set g x) k->lL b c a k\/N<=k:=by
 rintro k(d|d|⟨j,i,d⟩);exact .inl<|.inl d;exact .inl<|.inr<|.inl d;rw[lk]at d;split at d;rcases f k d with e|e;exact .inl<|.inr<|.inr ⟨g,h,e⟩;exact .inr e;exact .inl<|.inr<|.inr ⟨j,by simpa using i,d⟩
def wu(w:I)(q:R):J az w (w.drewN q):=⟨rfl,rfl,rfl,ai _,λ_ _ _=>rfl⟩
def JR(h:lI k b=M w)(a:kE k b=none):kE k (b+1)=M b:=by
 unfold kE;rw[h,a]
def JQ{f:E}(h:lI k b=M w)(a:kE k b=M c)(d:lI k c=M f):kE k (b+1)=if ahead w f then M b else M c:=by
 conv=>lhs;unfold kE
 rw[h,a];simp only[d,ia]
def Fh{a:cD Hd}{x:Hd}(h:∀j(c:j<z a),j<b->a[j].full=bX\/a[j].ended=bX)(f:x.full=bX\/x.ended=bX):∀j(c:j<z (a.set b x)),j<b+1->(a.set b x)[j].full=bX\/(a.set b x)[j].ended=bX:=by
 intro j c d;rw[lk];split;exact f;rename_i e;exact h j (by simpa using c)<|by omega
def CB(e:cD Hd)(h:jF u b a c g e)(hD:u.D a)(hn:z e<=1000000000000):cA bG 193 #[aA c] a λbv ax=>u.D ax/\J (λk=>lL c g e k\/u.F k) a ax/\((cQ (jW e)=[]/\bv=.returned (.tuple #[wX,.bool bF,.nilIface]))\/(∃W d,cQ (jW e)=W::cQ (jW d)/\bv=.returned (.tuple #[W.value,.bool bX,.nilIface])/\jF u b ax c g d/\z d=z e/\(∀k,lL c g d k->lL c g e k\/G (H a)<=k))):=by
 have bf:=h.pS;have ck:=am h.box;have cm:=h.box.cell;obtain⟨n,HH,HD⟩:=dI bf h hD;clear h hD bf;go_in
 go_wp2;go_loopw [4,9] (λf bp wr=>∃(p:R)(d:cD Hd),p<=z e/\bp=.int .i64 p/\f=.int .i64 (Fz<|kE (jW e) p)/\jF u b wr c g d/\z d=z e/\jW d=jW e/\(∀bq(hj:bq<z d),bq<p->d[bq].full=bX\/d[bq].ended=bX)/\u.D wr/\J (λk=>lL c g e k\/u.F k) a wr/\ix wr (G<|H a) zE/\(∀k,lL c g d k->lL c g e k\/G (H a)+1<=k)) (λ_ bp _=>z e-(intOf bp).toNat)
 (case atStart=>have h:=ae HH;exact⟨0,e,bB _,rfl,rfl,h.laid _,rfl,rfl,λbq _ hj=>by omega,u.fq HD (cI az a) cN,(cI _ _),aE _ rfl,λk m=>.inl m⟩)
 case round=>
  obtain⟨p,d,cn,rfl,rfl,v,T,B,F,y,hT,C,hS⟩:=hrel;have bT:=v.box.cell;rw[T]at bT;by_cases bi:p<z e
  .have au:=Vn d p (by omega) v y;obtain⟨HA,bs,ba,HT,HE,HS⟩:=kD v B F hT C hS;clear v y hT C hS B F;obtain⟨bo,o⟩:∃bo,kE (jW e) p=bo:=⟨_,rfl⟩;rw[o];have P:=Z o;clear o;go_wp2_with(go_at_call 194;refine au.mono ?_;rintro bv w1⟨rfl,bd,bg,W,hA1,bk,bl,bm⟩;have br:=Z bd;have bc:=Z bg;have q:=Z hA1;have bt:=Z bk;have an:=Z bl;have bu:=Z bm;clear bd bg hA1 bk bl bm)
   have K:p<z d:=by omega
   have av:p<z (d.set p W):=by simpa using K
   obtain⟨⟨c1,c2,c3,c4,c5,c6⟩,A⟩:=tw q.row p av;rw[qO]at c1 c2 c3 c4 c5 c6;have bx:=q.box.cell;rw[eT,T]at bx;have O:jW (d.set p W)=jW e:=(Rf d p K W bt).trans bs;have bh:lI (jW e) p=W.rest.head?:=by rw[<-O,xE av,qO]
   have ac:=Z O;have bb:=Z bh;clear O bh A;have cb:G (H a)<G (H wr):=am HE;have al:∀(ao:I)(L:Y),J az w1 ao->Fz (kE (jW e)<|p+1)=L->∃(i:R)(f:cD Hd),i<=z e/\Value.int .i64 ((p:Y)+1)=.int .i64 i/\Value.int .i64 L=.int .i64 (Fz<|kE (jW e) i)/\jF u b ao c g f/\z f=z e/\jW f=jW e/\(∀bq(hj:bq<z f),bq<i->f[bq].full=bX\/f[bq].ended=bX)/\u.D ao/\J (λk=>lL c g e k\/u.F k) a ao/\ix ao (G<|H a) zE/\(∀k,lL c g f k->lL c g e k\/G (H a)+1<=k):=by
    intro ao L D ad;refine⟨p+1,d.set p W,bi,rfl,by rw[ad],q.apart D cN,by rw[eT];exact T,ac,Fh ba an,u.fq br D cN,?_,?_,?_⟩
    .refine((HT.trans bc ?_).cw D);rintro k(t|t)
     .rcases HS k t with V|V
      .exact .inl<|.inl V
      .exact .inr<|by omega
     .exact .inl<|.inr t
    .refine(HE.ay bc ?_).ay D<|λt=>t;rintro(t|t)
     .rcases HS _ t with V|V
      .have:=(n.each _ V).2;omega
      .omega
     .have:=n.aN _ t;have:=n.size;omega
    .intro k m;rcases FG K bu k m with V|V
     .exact HS k V
     .exact .inr<|by omega
   have x:=Z al;clear al cb;cases hfu:W.full with
   |false=>
    rw[hfu]at c5;have ad:W.ended=bX:=an.resolve_left (by rw[hfu];simp);have ao:=(q.each p av).done;rw[qO]at ao;have bn:=ao ad;have L:lI (jW e) p=none:=by rw[ae bb];unfold Hd.rest;rw[hfu,bn.1];rfl
    have D:kE (jW e) (p+1)=bo:=by unfold kE;rw[L];exact P
    have X:=Z D;clear D L bn ao ad hfu;go_quiet(fail)
    go_wp2;go_roundw;case rel=>exact x _ _ (wu _ _)<|by rw[ae X]
    case measure=>simp[intOf];omega
   |true=>
    rw[hfu]at c5;have A:lI (jW e) p=M W.fr:=by rw[ae bb];unfold Hd.rest;rw[hfu];rfl
    cases bo with
    |none=>
     have X:=Z<|JR A P;clear A hfu;simp only[Fz];go_quiet(fail)
     go_wp2;go_roundw;case rel=>exact x _ _ (wu _ _) (by rw[ae X];rfl)
     case measure=>simp[intOf];omega
    |some j=>
     obtain⟨ca,Q,w,_⟩:=um P;have X:=Z<|JQ A P w;have l:j<z (d.set p W):=by omega
     have f:(d.set p W)[j].rest.head?=M Q:=by rw[<-xE l,ae ac];exact w
     have i:(d.set p W)[j].full=bX:=by
      rcases Fh ba an j l (by omega)with t|t
      .exact t
      .have:=(q.each j l).done t;unfold Hd.rest at f;rw[this.2,this.1]at f;cases f
     have s:(d.set p W)[j].fr=Q:=by
      unfold Hd.rest at f;rw[i]at f;simpa using f
     obtain⟨⟨d1,d2,d3,d4,_,_⟩,_⟩:=tw q.row j l;rw[s]at d1 d2 d3 d4;have D:=Ca W.fr Q;have ao:=am q.row;have ad:=am q.box;generalize W.fr=xf at*;obtain⟨xk,xv,xd,L⟩:=xf;obtain⟨fk,fv,fd,r⟩:=Q;simp only at c1 c2 c3 c4 d1 d2 d3 d4;simp only[E.value]at D;clear A hfu w f i s c6;simp only[Fz];have i1:(0:Y)<=(j:Y):=by omega
     have i2:(j:Y)<(z e:Y):=by omega
     have i3:j<z e:=by omega
     have i4:¬(j:Y)<0:=by omega
     have i5:(0:Y)<=(p:Y):=by omega
     have i6:(p:Y)<(z e:Y):=by omega
     cases hax:ahead ⟨xk,xv,xd,L⟩ ⟨fk,fv,fd,r⟩with
     |true=>
      rw[hax]at X D;go_region_held3(λa=>aS a (U c 0)=M (bE g 0 (z e)<|z e)/\aS a (U g<|p*7+5)=M (.bool bX)/\(aS a (U g<|p*7+1)=M (.string xk)/\aS a (U g<|p*7+1+1)=M (.string xv)/\aS a (U g<|p*7+1+2)=M (.bool xd)/\aS a (U g<|p*7+1+3)=M (.int .u64 L))/\(aS a (U g<|j*7+1)=M (.string fk)/\aS a (U g<|j*7+1+1)=M (.string fv)/\aS a (U g<|j*7+1+2)=M (.bool fd)/\aS a (U g<|j*7+1+3)=M (.int .u64 r))) (first|assumption|go_keep) (first
       |(go_at_call 195;refine(D _).mono ?_;rintro bv w2⟨rfl,rfl⟩))
      go_wp2;go_roundw;case rel=>
       refine x _ _ ?_ (by rw[ae X];rfl);exact(((cI az w1).alloc _)).cw<|wu _ 1
      case measure=>simp[intOf];omega
     |false=>
      rw[hax]at X D;go_region_held3(λa=>aS a (U c 0)=M (bE g 0 (z e)<|z e)/\aS a (U g<|p*7+5)=M (.bool bX)/\(aS a (U g<|p*7+1)=M (.string xk)/\aS a (U g<|p*7+1+1)=M (.string xv)/\aS a (U g<|p*7+1+2)=M (.bool xd)/\aS a (U g<|p*7+1+3)=M (.int .u64 L))/\(aS a (U g<|j*7+1)=M (.string fk)/\aS a (U g<|j*7+1+1)=M (.string fv)/\aS a (U g<|j*7+1+2)=M (.bool fd)/\aS a (U g<|j*7+1+3)=M (.int .u64 r))) (first|assumption|go_keep) (first
       |(go_at_call 195;refine(D _).mono ?_;rintro bv w2⟨rfl,rfl⟩))
      go_wp2;go_roundw;case rel=>
       refine x _ _ ?_ (by rw[ae X];rfl);exact(((cI az w1).alloc _)).cw<|wu _ 1
      case measure=>simp[intOf];omega
  .have cj:p=z e:=by omega
   subst cj;obtain⟨bo,o⟩:∃bo,kE (jW e) (z e)=bo:=⟨_,rfl⟩;rw[o];cases bo with
   |none=>
    have hm:=xK (hs:=jW e) (by rw[show z (jW e)=z e by simp[jW]];exact o);have A:=Z hm;have q:=Z y;have HT:=Z hT;have HE:=Z C;obtain⟨bt,bu,bx,cb⟩:=C.cells;have cc:=C.free (i:=0);have cd:=C.free (i:=1);have ce:=C.free (i:=2);have ch:=C.free (i:=3);clear hm o v y hT C hS B F;simp only[Fz];go_wp2;refine cO (fZ rfl _ _ (G<|H a) zE _ _ rfl<|HE.put zE) rfl ?_;have x:J (λk=>k=G (H a)) wr (wS wr (G<|H a) zE):=jj _ _ _;exact⟨u.fq q x (λk m hf=>by have:=n.aN k hf;have:=n.size;omega),HT.trans x (λk m=>.inr<|by omega),.inl ⟨A,rfl⟩⟩
   |some j=>
    have bd:z (jW e)=z e:=by simp[jW]
    obtain⟨ca,Q,w,_⟩:=um o;have hm:=xJ (hs:=jW e) (by rw[bd];exact o) w;have l:j<z d:=by omega
    have f:d[j].rest.head?=M Q:=by rw[<-xE l,B];exact w
    have i:d[j].full=bX:=by
     rcases F j l (by omega)with t|t
     .exact t
     .have:=(v.each j l).done t;unfold Hd.rest at f;rw[this.2,this.1]at f;cases f
    have s:d[j].fr=Q:=by
     unfold Hd.rest at f;rw[i]at f;simpa using f
    have A:d[j].ended=bF:=by
     cases t:d[j].ended with
     |false=>rfl
     |true=>have:=((v.each j l).done t).2;rw[i]at this;cases this
    obtain⟨⟨d1,d2,d3,d4,d5,_⟩,L⟩:=tw v.row j l;have g5:=L<|j*7+5;rw[s]at d1 d2 d3 d4;have P:jW (d.set j {d[j]with full:=bF})=(jW e).modify j List.tail:=by
     rw[<-B];unfold jW;rw[oe];refine List.ext_getElem (by simp)<|λbq h1 h2=>?_;rw[lk,List.getElem_modify];split
     .rename_i bv;subst bv;simp[Hd.rest,i]
     .simp
    have D:(ct wr (U g<|j*7+5)<|.bool bF).heap[g]?=M (.cells (ep<|d.set j {d[j]with full:=bF}).toArray 314 (0,0)):=by
     refine(aT v.row).trans ?_;simp only[cH];rw[<-Gi d j l {d[j]with full:=bF} rfl]
    have bh:J (λk=>(d[j].S k\/u.F k)\/k=g) wr (ct wr (U g<|j*7+5)<|.bool bF):=(J.refl (λk=>(d[j].S k\/u.F k)\/k=g) wr).setCell g _ _<|.inl<|.inr rfl;have K:J (λk=>k=g) wr (ct wr (U g<|j*7+5)<|.bool bF):=(ij g wr);have O:Tf u b (ct wr (U g<|j*7+5)<|.bool bF) {d[j]with full:=bF}:=by
     have an:=v.each j l;have bg:=K.same (V:=u) (n0:=b) (S:=d[j].S) v.size (λk m=>⟨(an.own.each k m).2,λt=>(v.nS j l k m).2 t⟩) (λk m bi=>by have:=v.own.2;omega);exact⟨λt=>(an.gives A).same bg,an.own.same bg,λt=>by rw[A]at t;cases t⟩
    have X:=v.put j l {d[j]with full:=bF} bh D O (λk m=>.inl m);have bc:¬G (H a)=g:=λt=>by have:=am HH.row;omega
    have cl:¬g=G (H a):=λt=>bc t.symm;have q:ix (ct wr (U g<|j*7+5)<|.bool bF) (G<|H a) zE:=C.ay K bc;obtain⟨bt,bu,bx,cb⟩:=q.cells;have cc:=q.free (i:=0);have cd:=q.free (i:=1);have ce:=q.free (i:=2);have ch:=q.free (i:=3);have ac:∀k,lL c g (d.set j {d[j]with full:=bF}) k->lL c g e k\/G (H a)+1<=k:=by
     intro k m;rcases FG l (x:={d[j]with full:=bF}) (N:=G (H a)+1) (λk m=>.inl m) k m with V|V
     .exact hS k V
     .exact .inr V
    have ba:J (λk=>lL c g e k\/u.F k) a (ct wr (U g<|j*7+5)<|.bool bF):=hT.trans K<|λk m=>.inl<|.inl<|.inr<|.inl m;have av:=u.fq y K (λk m hf=>by have:=n.aN k hf;have:=n.each g<|.inr<|.inl rfl;omega);have al:cQ (jW e)=Q::cQ (jW<|d.set j {d[j]with full:=bF}):=by rw[P];exact hm
    have ad:z (d.set j {d[j]with full:=bF})=z e:=by rw[eT];exact T
    obtain⟨ao,bb⟩:∃ao,ao=d.set j {d[j]with full:=bF}:=⟨_,rfl⟩;rw[<-bb]at X ac al ad;obtain⟨bk,au,br,bn,bs,bl,bm⟩:=wI X ac al ad ba av q;have i1:(0:Y)<=(j:Y):=by omega
    have i2:(j:Y)<(z e:Y):=by omega
    have i3:j<z e:=by omega
    have i4:¬(j:Y)<0:=by omega
    rw[i]at d5;clear hm w f i s A P D bh K O X ac ba av al ad q v y hT C hS B F o bd L bb;obtain⟨fk,fv,fd,r⟩:=Q;simp only at d1 d2 d3 d4;simp only[Fz];go_wp2;refine cO (fZ rfl _ _ (G<|H a) ⟨fk,fv,fd,r⟩ _ _ rfl<|bm.put ⟨fk,fv,fd,r⟩) rfl ?_;have x:J (λk=>k=G (H a)) (ct wr (U g<|j*7+5)<|.bool bF) (wS (ct wr (U g<|j*7+5)<|.bool bF) (G<|H a) ⟨fk,fv,fd,r⟩):=jj _ _ _;refine⟨u.fq bl x (λk m hf=>by have:=n.aN k hf;have:=n.size;omega),bs.trans x (λk m=>.inr<|by omega),.inr ⟨⟨fk,fv,fd,r⟩,ao,br,rfl,bk.apart x<|λk m=>?_,bn,λk m=>?_⟩⟩
    .subst m;refine⟨λt=>?_,λt=>by have:=n.size;omega⟩;rcases au _ t with V|V
     .have:=(n.each _ V).2;omega
     .omega
    .rcases au k m with V|V
     .exact .inl V
     .exact .inr<|by omega
def Ot(V:jr)(n f k N:R)(y:N<=1000000000000):∀(m:cK)(c:cD Hd)(w:I),cQ (jW c)=m->z c=N->jF V n w f k c->Ir V n 193 #[aA f] m (lL f k c) w:=by
 intro m;induction m with
 |nil=>
  intro c w g l d;refine⟨d.pS,λu a j=>(CB c (d.same a) j<|by omega).mono ?_⟩;rintro x e⟨h,i,⟨_,b⟩|⟨A,a,b,_⟩⟩
  .exact⟨b,h,i⟩
  .rw[g]at b;cases b
 |cons v m t=>
  intro c w g l d;refine⟨d.pS,λu a j=>(CB c (d.same a) j<|by omega).mono ?_⟩;rintro x e⟨h,i,⟨b,_⟩|⟨A,a,b,o,p,q,r⟩⟩
  .rw[g]at b;cases b
  .rw[g]at b;obtain⟨rfl,s⟩:=yW b;exact⟨o,h,i,lL f k a,r,t a e s.symm (q.trans l) p⟩
def IK{P:Program}{t:TypeId}(i:a.heap[b]?=M (aw T t (0,0)))(g:T[c]?=M d)(v:aa)(h:v.oneCell'=bX):(store (U b c) v).run P a=.ok () (ct a (U b c) v):=by
 have e:aS a (U b c)=M d:=(bL i).trans g;have f:=dW (i:=c) i;rw[run_store P a _ _ _ h];simp[e,f]
def AI:Hd:=⟨.nilFunc,[],zE,bF,bF,λ_=>False⟩
def Gh(g:aa×cK×fN):Hd:=⟨g.1,g.2.1,zE,bF,bF,g.2.2⟩
def uI(a:cD (aa×cK×fN))(n:R):cD Hd:=(a.take n).map Gh++List.replicate (z a-n) AI
def CH(a:cD (aa×cK×fN))(n:R)(h:n<=z a):z (uI a n)=z a:=by unfold uI;simp;omega
def Sm(a:cD (aa×cK×fN))(n:R)(h:n<z a):(uI a n).set n (Gh a[n])=uI a (n+1):=by
 unfold uI;have b:z a-n=(z a-(n+1))+1:=by omega
 rw[b,List.replicate_succ,gG _ _ (by simp;omega)];rw[ak h];have:n-z ((a.take n).map Gh)=0:=by simp;omega
 rw[this];simp only[aQ,aZ,fi,aW,cC,cJ,dM]
def Mj(a:cD (aa×cK×fN))(n:R)(h:n<z a):(uI a n)[n]?=M AI:=by
 unfold uI;rw[dJ (by simp;omega)];have:n-z ((a.take n).map Gh)=0:=by simp;omega
 rw[this];have b:z a-n=(z a-(n+1))+1:=by omega
 rw[b,List.replicate_succ];rfl
def Gj(a:cD Hd)(i:R)(h:i<z a)(x:Hd)(c:x.fr=a[i].fr)(d:x.full=a[i].full)(e:x.ended=a[i].ended):(ep a).set (i*7) x.v=ep (a.set i x):=by
 have f:z (ep<|a.take i)=i*7:=by rw[nn];simp;omega
 have b:ep (a.set i x)=ep (a.take i)++(Hd.cells x++ep (a.drop<|i+1)):=by rw[jn,dt h];simp only[ep,gh,dN]
 rw[b,qE a i h,gG _ _ (by omega),f,zY];simp[Hd.cells,c,d,e]
def Ou(n:R):(madeCells #[.nilFunc,aj ⟨#[]⟩,aj ⟨#[]⟩,aO bF,aL 0,aO bF,aO bF]<|n*7).toList=ep (List.replicate n AI):=by
 refine qf<|λj=>?_;by_cases c:j<n*7;(have a:j/7<z (List.replicate n AI):=by simp;omega);have b:=sA (List.replicate n AI) (j/7) (j%7) a (Nat.mod_lt _<|by decide);rw[show j/7*7+j%7=j by omega]at b;rw[b,List.getElem_replicate];have f:j%7<7:=Nat.mod_lt _ (by decide);(have d:(madeCells #[.nilFunc,aj ⟨#[]⟩,aj ⟨#[]⟩,aO bF,aL 0,aO bF,aO bF]<|n*7).toList[j]?=M ((#[.nilFunc,aj ⟨#[]⟩,aj ⟨#[]⟩,aO bF,aL 0,aO bF,aO bF]:Array aa)[j%7]!):=by unfold madeCells;simp[c]);rw[d];(have:j%7=0\/j%7=1\/j%7=2\/j%7=3\/j%7=4\/j%7=5\/j%7=6:=by omega);rcases this with e|e|e|e|e|e|e<;>rw[e]<;>rfl;rw[dy (by rw[iL,size_madeCells];omega),dy (by rw[nn];simp;omega)]
def UW:(prog.info? 314).map (λi=>(i.zero,i.size,i.bytes))=M (M<|eB #[.nilFunc,aj ⟨#[]⟩,aj ⟨#[]⟩,aO bF,aL 0,aO bF,aO bF],7,64):=by kernel_rfl
def Rv(p:a.ownsRow b c g (bE l 0 y y) y x):a.heap[l]?=M (aw x.toArray c (0,0)):=by
 obtain⟨q,⟨e,_⟩|⟨o,i,d,e,r,m,n,k,f,h⟩⟩:=p;cases e;cases e;(have j:d.toList=x:=by rw[<-h,da (by rw[iL,f];exact ai _)]);rw[m,<-j]
def RI(bk:jr)(V:R)(b:cD (aa×cK×fN))(hr:Row a 1 d (z b) (b.map (·.1)))(al:∀u,bY d=M u->u<G (H a))(hn:z b<=1000000000)(hg:∀j(s:j<z b),jm bk V b[j].1 b[j].2.1 b[j].2.2 a)(hd:∀j bm(s:j<z b)(hj:bm<z b),j≠bm->∀u,b[j].2.2 u->¬b[bm].2.2 u)(T:V<=G (H a))(hF:∀u,bk.F u->u<V):cA bG 133 #[d] a λbo w'=>∃v' S',bo=aP v'/\jm bk V v' (cQ<|b.map (·.2.1)) S' w'/\Below (G<|H a) a w'/\(∀u,S' u->(∃j,∃s:j<z b,b[j].2.2 u)\/G (H a)<=u):=by
 obtain⟨i0,bc,bg,bh,bi⟩:=cL UW;obtain⟨bt,bn,bf⟩:=bS hr;obtain⟨HR,ax,HG,au,HF⟩:=jX hr al hg hd hF;clear hr al hg hd hF;subst bf;go_in
 go_wp2_with(at_make;refine wpList_make_full _ rfl (.tmp 7) (.tmp 7) 312 rfl (G<|H a) 314 i0 (eB #[.nilFunc,aj ⟨#[]⟩,aj ⟨#[]⟩,aO bF,aL 0,aO bF,aO bF]) 7 underlying312 bc bg bh _ _ _ _ (z b) rfl rfl rfl rfl (by rw[bi];omega) (by unfold maxLen;omega) (ai _) ?_;intro C A y;have q:=Rv A;have v:=Z q;have av:=Z y;clear A y q)
 have ad:=ae av;have ao:G (H a)<G (H C):=am v;have c:Below (G<|H a) a C:=(Below.refl _ a).grown ad (ai _) (by simp);have X:=Z<|c.alloc c.size<|aw #[bE (G<|H a) 0 (z b)<|z b] 312;have o:(cF C<|aw #[bE (G<|H a) 0 (z b)<|z b] 312).heap[G<|H a]?=M (aw (ep<|uI b 0).toArray 314 (0,0)):=by rw[ga _ ao,ae v];(have bo:uI b 0=List.replicate (z b) AI:=by simp[uI]);rw[bo,<-Ou];rfl
 have k:er (cF C<|aw #[bE (G<|H a) 0 (z b)<|z b] 312) (G<|H C) (bE (G<|H a) 0 (z b)<|z b) 312:=aE _ rfl;have N:=Z o;have F:=Z k;clear ad c o k;go_loopw [11] (λj wr=>∃n:R,n<=z b/\j=aq n/\wr.heap[G<|H a]?=M (aw (ep<|uI b n).toArray 314 (0,0))/\er wr (G<|H C) (bE (G<|H a) 0 (z b)<|z b) 312/\Below (G<|H a) a wr) (λj _=>z b-(intOf j).toNat)
 case atStart=>exact⟨0,bB _,rfl,N,F,X⟩
 case round=>
  obtain⟨n,an,rfl,f,g,c⟩:=hrel;have bp:=g.cell;obtain⟨O,K,D⟩:=dI f g c;by_cases i:n<z b
  .obtain⟨bl,cb,S,ba,bb⟩:=HG n i;have l:∀t e,bt=M (U t e)->aS wr (U t<|e+n)=M (.func (.func bl) #[] cb):=by
    intro t e W;obtain⟨h1,⟨x,_⟩|⟨bs,B,ac,x,bd,hc⟩⟩:=ae HR
    .rw[W]at x;cases x
    .rw[W]at x;cases x;refine(c.cell (p:=(U t<|e+n))<|ax t (by rw[W];rfl)).trans<|hc n _ ?_;rw[dD,aK i];simp[S]
   obtain⟨t,e,W⟩:∃t e,bt=M (U t e):=by
    obtain⟨h1,⟨x,w⟩|⟨bs,B,ac,x,bd,hc⟩⟩:=ae HR
    .omega
    .cases x;exact⟨bs,B,rfl⟩
   have bq:=l t e W;subst W;have m:(ep<|uI b n).toArray[n*7]?=M .nilFunc:=by
    have hl:n<z (uI b n):=by rw[CH b n an];exact i
    have:=sA (uI b n) n 0 hl (by decide);rw[qP];rw[ju]at this;rw[this];have w:=Mj b n i;rw[aK hl]at w;cases h0':(uI b n)[n]with
    |mk bx bv fr fu en bu=>
     rw[h0']at w;cases w;rfl
   have br:=IK (P:=bG) f m (.func (.func bl) #[] cb) rfl;have r:(ct wr (U (G<|H a)<|n*7)<|.func (.func bl) #[] cb).heap[G<|H a]?=M (aw (ep<|uI b<|n+1).toArray 314 (0,0)):=by
    have hl:n<z (uI b n):=by rw[CH b n an];exact i
    have w:(uI b n)[n]=AI:=by
     have:=Mj b n i;rw[aK hl]at this;exact dF this
    refine(aT f).trans ?_;simp only[cH];rw[<-Sm b n i,<-Gj (uI b n) n hl (Gh b[n]) (by rw[w];rfl) (by rw[w];rfl) (by rw[w];rfl)];simp only[Gh,S]
   obtain⟨Q,L,E⟩:=dI r (g.other (b':=G<|H a) (i:=n*7) (.func (.func bl) #[] cb)<|by omega)<|c.setCell (p:=(U (G<|H a)<|n*7)) (ai _)<|.func (.func bl) #[] cb;clear f g c m r l ba bb S;go_wp2;go_roundw;case rel=>exact⟨n+1,i,by go_num,Q,L,E⟩
   case measure=>simp[intOf];omega
  .have B:n=z b:=by omega
   subst B;clear f g c;go_wp2;go_ret;have f:=ae O;have g:=ae K;have c:=ae D;have w:uI b (z b)=b.map Gh:=by simp[uI]
   rw[w]at f;have L:J az a wr:=J.aV c;have hg:=ae HG;have E:jW (b.map Gh)=b.map (·.2.1):=by unfold jW;rw[iZ];rfl
   refine⟨_,lL (G<|H C) (G<|H a)<|b.map Gh,rfl,⟨193,_,rfl,enters_of func193 (by kernel_rfl) rfl,?_⟩,c,?_⟩
   .refine Ot bk V (G<|H C) (G<|H a) (z b) (by omega) _ (b.map Gh) wr (by rw[E]) (by simp) ⟨by simpa using g,f,λj s=>?_,aF T c.size,HF,⟨by omega,T⟩,by omega,λj s u m=>?_,λj bm s hj x u m=>?_⟩
    .have l:j<z b:=by simpa using s
     have e:=hg j l;have r:=L.same (V:=bk) (n0:=V) (S:=b[j].2.2) T (λu m=>⟨(e.own.each u m).2,λt=>t⟩) cN;rw[jY];exact⟨λ_=>e.same r,e.own.same r,λt=>by cases t⟩
    .have l:j<z b:=by simpa using s
     rw[jY]at m;have:=((hg j l).own.each u m).2;exact⟨by omega,by omega⟩
    .rw[jY]at m|-;exact au j bm (by simpa using s) (by simpa using hj) x u m
   .rintro u(t|t|⟨j,s,t⟩)
    .exact .inr<|by omega
    .exact .inr<|by omega
    .rw[jY]at t;exact .inl ⟨j,by simpa using s,t⟩
def mP(V:jr)(f:R)(j:aa)(h:cK)(w:I):Prop:=∃t v i b,j=.iface t v/\(∀w,(Go.method 545 t v "From").run bG w=.ok (i,b) w)/\Enters bG i/\∀e c,jL V f az w c->V.D c->cA bG i #[b,aj e] c λl a=>∃g d,l=aP g/\jm V f g (fX e h) d a/\V.D a/\J V.F c a/\(∀k,d k->G (H c)<=k)
def UU:(prog.info? 174).map (λi=>(i.zero,i.size,i.bytes))=M (M .nilFunc,1,8):=by kernel_rfl
def vD(w:I)(v:aa)(t:TypeId):∀j u,[v][j]?=M u->aS (cF w<|aw #[v] t) (((U (G<|H w) 0):Addr).add j)=M u:=by
 intro j u a;rw[dB];cases j with
 |zero=>cases a;simp
 |succ j=>cases j<;>cases a
def Um(h:d.oneCell'=bX):∀u∈[d],u.oneCell'=bX:=by
 intro u a;rw[bI]at a;rw[a];exact h
structure Ba(V:jr)(n0:R)(w0 w:I)(lo:ab)(Rqq:cD (aa×cK))(o:aa)(Gqq:cD (aa×cK×fN)):Prop where
 own:w.ownsRow (G<|H w0) 174 1 o (z Gqq) (Gqq.map (·.1))
 gives:∀i(hi:i<z Gqq),jm V n0 Gqq[i].1 Gqq[i].2.1 Gqq[i].2.2 w
 rows:Gqq.map (·.2.1)=(Rqq.take<|z Gqq).map (λr=>fX lo r.2)
 MA:∀i j(hi:i<z Gqq)(hj:j<z Gqq),i≠j->∀k,Gqq[i].2.2 k->¬Gqq[j].2.2 k
 apart:∀i(hi:i<z Gqq)k,Gqq[i].2.2 k->G (H w0)<=k/\bY o≠M k
 aN:V.D w
 ay:J V.F w0 w
def Ba.next{C:I}{h:cD (aa×cK)}{e:cD (aa×cK×fN)}(w:Ba u b a f v h d e)(s:z e<z h)(hn:b<=G (H a))(hF:∀k,u.F k->k<b)(O:J u.F f B)(F:jm u b L (fX v h[z e].2) X B)(W:u.D B)(E:∀k,X k->G (H f)<=k){V:Obj}(Q:eY (cF B V) C d t)(A:C.ownsRow (G<|H a) 174 1 t (z e+1) (e.map (·.1)++[L])):Ba u b a C v h t (e++[(L,fX v h[z e].2,X)]):=by
 have N:=w.ay.size;have j:∀k,bY d=M k->G (H a)<=k/\k<G (H f):=λk c=>w.own.lt k c;have x:∀k,b<=k->¬u.F k:=λk c a=>by have:=hF k a;omega
 have n:J (λk=>bY d=M k) B C:=(((J.refl (λk=>bY d=M k) B).alloc V).trans (J.dR (S:=λk=>bY d=M k) Q.grown<|λk c=>.inl c)<|λk c=>.inl c);have P:J (λk=>u.F k\/bY d=M k) f C:=(O.mono (T:=λk=>u.F k\/bY d=M k)<|λk c=>.inl<|.inl c).trans n<|λk c=>.inl<|.inr c;have i:∀m(p:m<z (e++[(L,fX v h[z e].2,X)])),(∃g:m<z e,(e++[(L,fX v h[z e].2,X)])[m]=e[m])\/(m=z e/\(e++[(L,fX v h[z e].2,X)])[m]=(L,fX v h[z e].2,X)):=by intro m p;by_cases l:m<z e;exact .inl ⟨l,oK l⟩;(have:m=z e:=by simp at p;omega);subst this;exact .inr ⟨rfl,by simp⟩
 have y:∀k,(k<G (H B)/\bY d≠M k)->bY t≠M k:=by rintro k⟨h1,D⟩q;rcases Q.uq with l|⟨ad,l,r⟩;exact D<|l.symm.trans q;rw[l]at q;cases q;simp at r;omega
 have o:∀k,X k->k<G (H B):=λk c=>(F.own.each k c).2;refine⟨by simpa using A,λm p=>?_,?_,λm ac p hj K k c=>?_,λm p k c=>?_,?_,?_⟩;rcases i m p with⟨g,q⟩|⟨_,q⟩;rw[q];have r:=w.gives m g;refine r.same<|P.same (aF hn N) (λk c=>⟨(r.own.each k c).2,?_⟩)<|λk c s=>?_;rintro(l|l);exact x k (r.own.each k c).1 l;exact(w.apart m g k c).2 l;rcases c with l|l;exact l;have:=(j k l).1;omega;rw[q];refine F.same<|n.same F.own.size (λk c=>⟨o k c,λl=>?_⟩)<|λk c s=>?_;have:=E k c;have:=(j k l).2;omega;have:=(j k c).1;omega;rw[aQ,w.rows];simp only[aZ,fi,af,aC,cS,cZ];rw[ak s,aQ];rfl;rcases i m p with⟨g,q⟩|⟨ei,q⟩<;>rcases i ac hj with⟨r,D⟩|⟨ej,D⟩;rw[q]at c;rw[D];exact w.MA m ac g r K k c;rw[q]at c;rw[D];intro l;have:=E k l;have:=((w.gives m g).own.each k c).2;omega;rw[q]at c;rw[D];intro l;have:=E k c;have:=((w.gives ac r).own.each k l).2;omega;omega;rcases i m p with⟨g,q⟩|⟨_,q⟩;rw[q]at c;have:=((w.gives m g).own.each k c).2;have r:=O.size;exact⟨(w.apart m g k c).1,y k ⟨by omega,(w.apart m g k c).2⟩⟩;rw[q]at c;have:=E k c;refine⟨by omega,y k ⟨o k c,λl=>?_⟩⟩;have:=(j k l).2;omega;exact u.fq W n<|λk c=>x k (by have:=(j k c).1;omega);exact(w.ay.trans O<|λk c=>.inl c).trans n<|λk c=>.inr (j k c).1
def mP.same{V:jr}{n0:R}(j:mP V n0 d e a)(l:jL V n0 az a f):mP V n0 d e f:=by
 obtain⟨t,v,o,b,c,g,h,i⟩:=j;exact⟨t,v,o,b,c,g,h,λm n j k=>i m n (l.trans j) k⟩
def Bs(r:R)(c:cD (aa×cK))(lv:aa)(y:ab)(hr:Row a 1 lv (z c) (c.map (·.1)))(W:∀n,bY lv=M n->n<G (H a)/\¬u.F n)(hn:z c<=1000000000)(hR:∀F(m:F<z c),mP u r c[F].1 c[F].2 a)(hD:u.D a)(ad:r<=G (H a))(hF:∀n,u.F n->n<r):cA bG 85 #[lv,aj y] a λbn w'=>∃v' S',bn=aP v'/\jm u r v' (cQ<|(c.map (·.2)).map<|fX y) S' w'/\u.D w'/\J u.F a w'/\(∀n,S' n->G (H a)<=n):=by
 obtain⟨i0,V,al,an,ao⟩:=cL UU;obtain⟨bu,bm,bi⟩:=bS hr;obtain⟨HR,av,L,HD,HF⟩:=jX hr W hR hD hF;clear hr W hR hD hF;subst bi;go_in
 go_wp2_with(at_make;refine lN _ rfl _ _ 248 rfl (G<|H a) 174 i0 .nilFunc 1 underlying248 V al an _ _ _ (z c) rfl rfl rfl (by rw[ao];omega) (by unfold maxLen;omega) (ai _) ?_;intro w1 w v;have C:=Z w;have s:=Z v;clear w v)
 have Q:Ba u r a w1 y c (bE (G<|H a) 0 0<|z c) []:=by have d:J u.F a w1:=J.dR s (by simp);exact⟨C,λF m=>by simp at m,by simp,λF j m=>by simp at m,λF m=>by simp at m,u.fq HD (J.dR (S:=az) s<|by simp) cN,d⟩
 have ax:=Z Q;clear Q;go_loopw [5,13] (λo F wr=>∃(bl:R)(b:cD (aa×cK×fN)),bl<=z c/\F=aq bl/\z b=bl/\Ba u r a wr y c o b) (λ_ F _=>z c-(intOf F).toNat)
 case atStart=>exact⟨0,[],bB _,rfl,rfl,ax⟩
 case round=>
  obtain⟨bl,b,br,rfl,bf,d⟩:=hrel;obtain⟨ox,oc,ho⟩:=aB d.own;subst bf;by_cases p:z b<z c
  .obtain⟨bx,bT,bo,bt,ac,hm,he,i⟩:=L (z b) p;have eg:∀b a,(callFunc bo b).run bG a=.ok (.enter bo b) a:=he;have l:jL u r az a wr:=d.ay.same ad cN<|λn E _=>E;have hc:=i y wr l d.aN;obtain⟨bq,e,hx⟩:∃bq e,bu=M (U bq e):=by
    obtain⟨h1,⟨t,h0⟩|⟨bv,A,N,t,bh,hc⟩⟩:=ae HR
    .omega
    .cases t;exact⟨bv,A,rfl⟩
   have bp:aS wr (U bq<|e+z b)=M (.iface bx bT):=by
    obtain⟨h1,⟨t,_⟩|⟨bv,A,N,t,bh,bg⟩⟩:=ae HR
    .rw[hx]at t;cases t
    .rw[hx]at t;cases t;have hb:=av bq (by rw[hx];rfl);refine d.ay.cell (bg (z b) _ ?_) hb.2 hb.1;rw[dD,aK p];simp[ac]
   subst hx;subst ho;have K:=Z d;clear d i l ac he;go_wp2_with(first
    |(go_at_fn bo;refine hc.mono ?_;rintro bn w2⟨v1,S1,rfl,o,P,q,g⟩;obtain⟨O,f,rfl,T,X⟩:=o;have B:=Z<|show jm u r (.func (.func O) #[] f) (fX y c[z b].2) S1 w2 from⟨O,f,rfl,T,X⟩;have j:=aU (q.own K.own (λn E hf=>by have:=HF n hf;have:=(K.own.lt n E).1;omega))<|.cells #[.func (.func O) #[] f] 174;have bb:=Z j;have au:=Z P;have bc:=Z q;have D:=Z g;have bs:=q.size;have bk:=K.ay.size;clear P q g X j T)
    |(at_builtin;refine bV _ rfl (.tmp 17) (.tmp 21) 248 rfl (G (H a)) 174 i0 .nilFunc 1 8 underlying248 V al an ao rfl (by decide) (.slice ox (z b) oc) (z b) (b.map (λ(bu:aa×cK×fN)=>bu.1)) rfl bb (U (G (H w2)) 0) 1 1 [.func (.func O) #[] f] rfl rfl (vD _ _ _) (Um rfl) (by omega) (by omega) (by simp;omega) ?_;intro o2 w3 k x;have ba:=Z k;have bd:=Z x;clear k x))
   go_roundw;case rel=>
    refine⟨z b+1,b++[(.func (.func O) #[] f,fX y c[z b].2,S1)],p,by go_num,by simp,?_⟩;exact K.next p ad HF bc B au D bd ba
   case measure=>simp[intOf];omega
  .have k:z b=z c:=by omega
   subst ho;have K:=Z d;have bk:=d.ay.size;have l:Row wr 1 (ah ox (z b) oc) (z b) (b.map (·.1)):=dr d.own;have i:∀n,bY (ah ox (z b) oc)=M n->n<G (H wr):=λn E=>(d.own.lt n E).2;have x:=RI u r b l i (by omega) (λF m=>d.gives F m) d.MA (by omega) HF;have e:b.map (·.2.1)=(c.map (·.2)).map (fX y):=by rw[d.rows,k,bP,iZ];rfl
   have j:=Z e;clear d l i e k;go_wp2_with(go_at_call 133;refine x.mono ?_;rintro bn w2⟨v1,S1,rfl,o,f,g⟩;have B:=Z o;have t:=Z f;have D:=Z g;clear o f g)
   go_ret;have d:=ae K;have f:=ae t;have q:J az wr w2:=J.aV f;refine⟨v1,S1,rfl,?_,u.fq d.aN q cN,d.ay.cw q,λn E=>?_⟩
   .rw[<-ae j];exact B
   .rcases D n E with⟨F,m,A⟩|A
    .exact(d.apart F m n A).1
    .omega
def Yj(j:R)(b:cD (aa×cK))(F:ab)(O:Y)(hr:Row a 1 d (z b) (b.map (·.1)))(g:∀k,bY d=M k->k<G (H a)/\¬u.F k)(hn:z b<=1000000000)(hR:∀an(hi:an<z b),mP u j b[an].1 b[an].2 a)(hD:u.D a)(n:j<=G (H a))(hF:∀k,u.F k->k<j):cA bG 163 #[d,aj F,aL O] a λN e=>∃s r,N=aP s/\jm u j s (nA ⟨#[]⟩<|(cQ<|(b.map (·.2)).map<|fX F).filter<|λN=>decide<|N.bK<=O) r e/\u.D e/\J u.F a e/\(∀k,r k->G (H a)<=k):=by
 obtain⟨W,A⟩:∃W,cF (cF a<|aw #[aL O] 103) (aw #[aj ⟨#[]⟩] 9)=W:=⟨_,rfl⟩;have E:J az a W:=by rw[<-A];exact(cI _ a).alloc _
 have hz:G (H W)=G (H a)+2:=by rw[<-A];simp
 have ac:=Bs j b d F (E.row hr<|λk c=>⟨λL=>L,(g k c).1⟩) (λk c=>⟨by have:=(g k c).1;omega,(g k c).2⟩) hn (λan hi=>(hR an hi).same<|E.same n cN cN) (u.fq hD E cN) (by omega) hF;have m:∀k,j<=k->¬u.F k:=λk c a=>by have:=hF k a;omega
 have i:∀(e:I)(s:aa)(r:fN),jm u j s (cQ<|(b.map (·.2)).map<|fX F) r e->J u.F W e->(∀k,r k->G (H W)<=k)->cA bG 217 #[s,.func (.func 219) #[] #[aA<|G<|H a,aA<|G (H a)+1]] e λN q=>∃l f,N=aP l/\jm u j l (nA ⟨#[]⟩<|(cQ<|(b.map (·.2)).map<|fX F).filter<|λN=>decide<|N.bK<=O) f q/\Below (G<|H e) e q/\(∀k,f k->G (H a)<=k):=by intro e s r hg p hS;have b1:er e (G<|H a) (aL O) 103:=(p.block _ (by omega)<|m _ n).trans (by rw[<-A];exact er.alloc (aE _ rfl) _);have b2:er e (G (H a)+1) (aj ⟨#[]⟩) 9:=(p.block _ (by omega)<|m _<|by omega).trans (by rw[<-A];exact aE _<|by simp);refine(Lt (ZA u j (G<|H a) (G (H a)+1) O) ⟨#[]⟩ hg ⟨b1,b2,by omega,n,by omega⟩<|λk c L=>?_).mono ?_;have:=hS k c;rcases L with L|L<;>omega;rintro N q⟨l,f,h1,h2,h3,h4⟩;refine⟨l,f,h1,?_,h3,λk c=>?_⟩;rw[<-Xg];exact h2;rcases h4 k c with L|(L|L)|L;have:=hS k L;omega;omega;omega;have:=p.size;omega
 obtain⟨T,HT,HD⟩:=dI i E<|λK(t:J u.F W K)(h:u.D K)(a:I)(O:Below (G<|H K) K a)=>u.fq h (J.aV (S:=az) O) cN;obtain⟨av,ao,ad⟩:=bS hr;subst A;clear i E hR hD hF m hz g hr;subst ad;go_in
 go_wp2_with(first
  |(go_at_call 85;refine ac.mono ?_;rintro N w2⟨v1,S1,rfl,C,w,o,x⟩;have i:=T w2 v1 S1 C o x;have P:=Z w;have v:=Z o;obtain⟨f1,au,rfl,X,al⟩:=C;clear w o x X al)
  |(go_at_call 217;refine i.mono ?_;rintro N K⟨v2,S2,rfl,D,B,y⟩;have Q:=Z D;have t:=Z B;have V:=Z y;clear D B y))
 go_ret;exact⟨v2,S2,rfl,Q,HD _ v P _ t,(((HT.mono cN).trans v<|λk c=>.inl c)).trans (J.aV (S:=u.F) t)<|λk c=>.inl c,V⟩
def gH(W:I)(l:R)(o:Obj):J (λk=>k=l) W (W.putObj l o):=J.dR (grownBy_putObj' W l o) (by rintro k⟨⟩;exact .inl rfl)
def Qo(f:S->Array aa)(V:jr)(i q m:R)(n:Array aa)(o l:cD S->Prop)(p e:fN)(w:I):Prop:=∀(h:R)(d:cD S->fN->I->Prop)(g:cD S->I->Prop)(B:fN)(W:I),jL V i p w W->V.D W->d [] B W->(∀k,p k->¬B k)->(∀a B W,d a B W->∀k,B k->i<=k/\k<G (H W))->(∀a B W b T,d a B W->J T W b->(∀k,T k->¬B k/\e k)->d a B b)->(∀a x B W,o (a++[x])->d a B W->V.D W->YieldAt Fence.wide (q-1) bG h (f x) W λj b=>
 (j=aP (aO bX)/\V.D b/\∃c,d (a++[x]) c b/\J B W b/\(∀k,c k->B k\/G (H W)<=k))\/(j=aP (aO bF)/\g (a++[x]) b))->
 CallsIn Fence.wide q bG m (#[.func (.yield h) #[] #[]]++n) W λj b=>(∃v,j=aP v)/\((∃k c,l k/\d k c b/\V.D b)\/(∃a,g a b))
def Is{α:Type}(e:α->Array aa)(V:jr)(h n j:R)(l:Array aa)(m:cD α)(S:fN)(w:I):Prop:=∀(g:R)(d:cD α->fN->I->Prop)(f:cD α->I->Prop)(B:fN)(W:I),jL V h S w W->V.D W->d [] B W->(∀k,S k->¬B k)->(∀a B W,d a B W->∀k,B k->h<=k/\k<G (H W))->(∀a B W b T,d a B W->J T W b->(∀k,T k->¬B k/\(S k\/V.F k\/G (H w)<=k))->d a B b)->(∀a x B W,(a++[x])<+:m->d a B W->V.D W->YieldAt Fence.wide (n-1) bG g (e x) W λi b=>
 (i=aP (aO bX)/\V.D b/\∃c,d (a++[x]) c b/\J B W b/\(∀k,c k->B k\/G (H W)<=k))\/(i=aP (aO bF)/\f (a++[x]) b))->
 CallsIn Fence.wide n bG j (#[.func (.yield g) #[] #[]]++l) W λi b=>(∃v,i=aP v)/\((∃c,d m c b/\V.D b)\/(∃a,f a b))
def Is.q{d:S->Array aa}{h:Array aa}{j:cD S}(A:Is d u c g l h j X a):Qo d u c g l h (·<+:j) (·=j) X (λv=>X v\/u.F v\/G (H a)<=v) a:=by
 intro w x m B W n o p q r s t;apply(A w x m B W n o p q r s t).mono;rintro C y⟨f,⟨k,e⟩|e⟩;exact⟨f,.inl ⟨j,k,rfl,e⟩⟩;exact⟨f,.inr e⟩
abbrev YR{α:Type}(a:α->Array aa)(V:jr)(e m:R)(c:R)(d:Array aa)(f b:cD α->Prop)(S:fN)(w:I):Prop:=Qo a V e m c d f b S (λk=>S k\/V.F k\/G (H w)<=k) w
def Bv(V:jr)(g:cD S->fN->I->Prop)(f:Code->cD S->fN->I->Prop)(e:cD S)(B:fN)(W d:I)(b:R):Exit->Act->I->Prop
 | .normal,_,a=>V.D a/\∃c,g e c a/\J (λk=>B k\/k=b) W a/\a.heap[b]?=d.heap[b]?/\(∀k,c k->B k\/G (H W)<=k)
 | .ret,_,a=>∃c,f .ret e c a/\J (λk=>B k\/k=b) W a/\a.heap[b]?=d.heap[b]?/\(∀k,c k->B k\/G (H W)<=k)
 | .exit id,_,a=>∃c,f (.exit id) e c a/\J (λk=>B k\/k=b) W a/\a.heap[b]?=d.heap[b]?/\(∀k,c k->B k\/G (H W)<=k)
 | .goto _,_,_=>False
 | .panic _,_,_=>False
 | .outgrown,_,_=>False
abbrev Px{α:Type}(i:α->Array aa)(o:R)(t:Operand)(n:Array Tmp)(c body:Code)(Q:Exit->Act->I->Prop)(a:Act)(w:I)(V:jr)(r:R)(s:cD α->Prop)(S g:fN)(j:cD α->fN->I->Prop)(f:Code->cD α->fN->I->Prop)(B:fN)(p:Prop):Prop:=(j [] B w)->(∀k,S k->¬B k)->(∀b B W,j b B W->∀k,B k->r<=k/\k<G (H W))->(∀b B W e T,j b B W->J T W e->(∀k,T k->¬B k/\g k)->j b B e)->(∀m b B W e T,f m b B W->J T W e->(∀k,T k->¬B k/\G (H w)<=k)->f m b B e)->(∀d b x B W,G (H w)<=d->¬B d->d<G (H W)->s (b++[x])->j b B W->V.D W->c.wpIn (Fence.wide.inRound d) (o-1-1) bG (Exit.then (λq l=>J az W l/\∀h,J (λk=>k=d) l h->body.wpIn (Fence.wide.inRound d) (o-1-1) bG (Bv V j f (b++[x]) B W h d) q h) (λ_ _ _=>False)) {tmps:=(n.zip<|i x).foldl (λv(u,y)=>v.setIfInBounds u y) a.tmps,defers:=[]} W)->p->(∀(D:R)(m:Code)(b:cD α)(B:fN)(W:I),G (H w)<=D->f m b B W->¬B D->W.heap[D]?=M (.deferred<|M [])->m.wpIn Fence.wide o bG Q {a with defers:={target:=.collected D,args:=#[]}::a.defers} W)->(Code.rangeFunc t n c body).wpIn Fence.wide o bG Q a w
def xu{α:Type}{arg:α->Array aa}{m:R}{bt:Operand}{ps:Array Tmp}{assign body:Code}{bs:Exit->Act->I->Prop}{a:Act}{V:jr}{n0 gf:R}{lb:Array aa}{pp ff:cD α->Prop}{S T:fN}(hU:∀k,G (H f)<=k->T k)(hg:a.eval bt=.func (.func gf) #[] lb)(eg:Enters bG gf)(bl:∀bn,(arg bn).size=ps.size)(ri:Qo arg V n0 (m-1) gf lb pp ff S T f)(hD:V.D f)(av:n0<=G (H f))(w:∀k,S k->k<G (H f))(br:cD α->fN->I->Prop)(Ix:Code->cD α->fN->I->Prop)(bb:fN):Px arg m bt ps assign body bs a f V n0 pp S T br Ix bb (∀(bq:cD α)(bo:R)(bb:fN)(W:I),ff bq->G (H f)<=bo->br bq bb W->¬bb bo->V.D W->W.heap[bo]?=M (.deferred<|M [])->bs .normal {a with defers:={target:=.collected bo,args:=#[]}::a.defers} W):=by
 intro h0 bh ad K C X ac al;refine wpIn_rangeFunc ?_;intro fn bi;obtain⟨d,g⟩:∃d:LoopState->Option Code->Loop,d=λb c=>{state:=b,pending:=c,fn,tmps:=a.tmps,params:=ps,assign,body,defers:=G (H f)}:=⟨_,rfl⟩;obtain⟨D,E⟩:∃D,cF (cF f<|.deferred<|M []) (.loop<|d .ready none)=D:=⟨_,rfl⟩;have bg:D.heap[G (H f)+1]?=M (.loop<|d .ready none):=by rw[<-E];exact aE _<|by simp
 have bf:D.heap[G<|H f]?=M (.deferred<|M []):=by rw[<-E];exact(ga _<|by simp).trans<|aE _ rfl
 have an:J az f D:=by rw[<-E];exact(cI _ f).alloc _
 refine⟨G (H f)+1,[{target:=.collected<|G<|H f,args:=#[]}],D,{target:=.fn (.func gf) lb,args:=#[.func (.yield<|G (H f)+1) #[] #[]]},D,gf,#[.func (.yield<|f.heap.size+1) #[] #[]]++lb,D,?_,?_,?_,?_,(λi=>(by cases i)),?_⟩;rw[<-E,g];exact run_enterLoop_outer _ _ _ _ _;(.simp only[resolve,hg];simp[go_sem]);intro b _;trivial;(.have:=eg;unfold Enters at this;simp[invoke,go_sem,this])
 .refine(ri (G (H f)+1) (λp bb W=>∃n,(∀k,bb k↔n k\/k=G (H f)\/k=G (H f)+1)/\br p n W/\¬n (G<|H f)/\¬n (G (H f)+1)/\W.heap[G (H f)+1]?=M (.loop<|d .ready none)/\W.heap[G<|H f]?=M (.deferred<|M [])) (λp W=>∃i n,Ix i p n W/\¬n (G<|H f)/\¬n (G (H f)+1)/\W.heap[G (H f)+1]?=M (.loop<|d .done<|M i)/\W.heap[G<|H f]?=M (.deferred<|M [])) (λk=>bb k\/k=G (H f)\/k=G (H f)+1) D (an.same av (λk o=>⟨w k o,λi=>i⟩) cN) (V.fq hD an cN) ⟨bb,λk=>ru,K _ _ _ _ _ h0 an cN,λi=>by have:=(ad _ _ _ h0 _ i).2;omega,λi=>by have:=(ad _ _ _ h0 _ i).2;omega,bg,bf⟩ ?_ ?_ ?_ ?_).mono ?_
  .rintro k o(i|i|i)
   .exact bh k o i
   .have:=w k o;omega
   .have:=w k o;omega
  .rintro p B' W⟨n,v,F,_,_,r,o⟩k b;rcases(v k).1 b with i|i|i
   .exact ad _ _ _ F k i
   .subst i;exact⟨av,am o⟩
   .subst i;exact⟨by omega,am r⟩
  .rintro p B' W l q⟨n,v,F,N,O,r,o⟩j e;exact⟨n,v,K _ _ _ _ _ F j<|λk b=>⟨λi=>(e k b).1<|(v k).2<|.inl i,(e k b).2⟩,N,O,(j.block _ (am r)<|λi=>(e _ i).1<|(v _).2<|.inr<|.inr rfl).trans r,(j.block _ (am o)<|λi=>(e _ i).1<|(v _).2<|.inr<|.inl rfl).trans o⟩
  .rintro p bn B' W ax⟨n,v,F,N,O,r,o⟩bd;have hy:=run_yield (P:=bG) (args:=(arg bn)) r (by rw[g];exact bl bn);rw[g]at hy;refine⟨fn,_,assign,body,hy,roundIn_of_wpIn bi<|wpIn_mono (X (G (H f)+1) p bn n W (by omega) O (am r) ax F bd) ?_⟩;clear hy;intro bp a1 Wa L;cases bp with
   |normal=>
    obtain⟨bm,L⟩:=L;have au:Wa.heap[G (H f)+1]?=M (.loop<|d .ready none):=(bm.block _ (am r)<|λi=>i).trans r;refine⟨_,run_beginRound au (by rw[g]),?_⟩;have bk:(Wa.putObj (G (H f)+1)<|.loop {d .ready none with state:=.busy}).heap[G (H f)+1]?=M (.loop {d .ready none with state:=.busy}):=World.putObj_heap_same<|am au;refine wpIn_mono (L _<|gH _ _ _) ?_;have fin:∀(e:Option Code)(l:I),l.heap[G (H f)+1]?=(Wa.putObj (G (H f)+1)<|.loop {d .ready none with state:=.busy}).heap[G (H f)+1]?->(Instr.endRound (G (H f)+1) e).run bG l=.ok (aO e.isNone) (l.putObj (G (H f)+1)<|.loop<|d (if e.isNone then .ready else .done) e)/\(l.putObj (G (H f)+1)<|.loop<|d (if e.isNone then .ready else .done) e).heap[G (H f)+1]?=M (.loop<|d (if e.isNone then .ready else .done) e):=λe l h3=>by
     have ao:=h3.trans bk;have:=run_endRound (P:=bG) e ao;rw[g]at this|-;exact⟨this,World.putObj_heap_same<|am ao⟩
    have t:∀l,J (λk=>n k\/k=G (H f)+1) W l->l.heap[G<|H f]?=M (.deferred<|M []):=λl j=>(j.block _ (am o)<|λi=>i.elim N<|λi=>by omega).trans o;have A:∀(q:fN),(∀k,q k->n k\/G (H W)<=k)->¬q (G<|H f)/\¬q (G (H f)+1):=λq e=>by
     have:=am r;refine⟨λi=>?_,λi=>?_⟩
     .rcases e _ i with ba|ba
      .exact N ba
      .omega
     .rcases e _ i with ba|ba
      .exact O ba
      .omega
    rintro bp a3 l u;cases bp with
    |normal=>
     obtain⟨e,q,x,j,B,s⟩:=u;obtain⟨hr,y⟩:=fin none l B;obtain⟨q1,Q⟩:=A q s;have c:=gH l (G (H f)+1)<|.loop<|d (if(none:Option Code).isNone then .ready else .done) none;refine⟨_,_,hr,.inl ⟨rfl,V.fq e c<|λk b hf=>?_,λk=>q k\/k=G (H f)\/k=G (H f)+1,⟨q,λk=>ru,K _ _ _ _ _ x c (λk b=>by subst b;exact⟨Q,hU _<|by omega⟩),q1,Q,y,?_⟩,?_,?_⟩⟩
     .have:=V.lt hD hf;omega
     .exact(c.block _ (am<|t l j)<|λi=>by omega).trans<|t l j
     .refine(j.trans c<|λk b=>.inl<|.inr b).mono<|λk b=>.inl<|(v k).2 ?_;rcases b with i|i
      .exact .inl i
      .exact .inr<|.inr i
     .rintro k(i|i|i)
      .rcases s k i with ba|ba
       .exact .inl<|(v k).2<|.inl ba
       .exact .inr ba
      .exact .inl<|(v k).2<|.inr<|.inl i
      .exact .inl<|(v k).2<|.inr<|.inr i
    |ret=>
     obtain⟨q,x,j,B,s⟩:=u;obtain⟨hr,y⟩:=fin (M .ret) l B;obtain⟨q1,Q⟩:=A q s;have c:=gH l (G (H f)+1)<|.loop<|d (if(M Code.ret:Option Code).isNone then .ready else .done)<|M .ret;exact⟨_,_,hr,.inr ⟨rfl,.ret,q,C _ _ _ _ _ _ x c (λk b=>by subst b;exact⟨Q,by omega⟩),q1,Q,y,(c.block _ (am<|t l j)<|λi=>by omega).trans<|t l j⟩⟩
    |exit id=>
     obtain⟨q,x,j,B,s⟩:=u;obtain⟨hr,y⟩:=fin (M<|.exit id) l B;obtain⟨q1,Q⟩:=A q s;have c:=gH l (G (H f)+1)<|.loop<|d (if(M (Code.exit id):Option Code).isNone then .ready else .done)<|M<|.exit id;exact⟨_,_,hr,.inr ⟨rfl,.exit id,q,C _ _ _ _ _ _ x c (λk b=>by subst b;exact⟨Q,by omega⟩),q1,Q,y,(c.block _ (am<|t l j)<|λi=>by omega).trans<|t l j⟩⟩
    |goto bu=>exact u.elim
    |panic ch=>exact u.elim
    |outgrown=>exact u.elim
   |exit id=>exact L.elim
   |goto bu=>exact L.elim
   |ret=>exact L.elim
   |panic bc=>exact L.elim
   |outgrown=>exact L.elim
  .rintro bp l⟨⟨q,rfl⟩,(⟨bq,B',j,⟨n,v,F,N,O,r,o⟩,e⟩|⟨p,i,n,F,N,O,r,o⟩)⟩
   .have c:=λd=>gH l (G (H f)+1) d;exact⟨none,_,by have:=run_endLoop (P:=bG) r (by rw[g];simp);rw[g]at this;exact this,ac bq _ n _ j (ai _) (K _ _ _ _ _ F (c _) (λk b=>by subst b;exact⟨O,hU _<|by omega⟩)) N (V.fq e (c _) (λk b hf=>by have:=V.lt hD hf;omega))<|(c _).block _ (am o) (λi=>by omega)|>.trans o⟩
   .have c:=λd=>gH l (G (H f)+1) d;exact⟨M i,_,by have:=run_endLoop (P:=bG) r (by rw[g];simp);rw[g]at this;exact this,al _ i p n _ (ai _) (C _ _ _ _ _ _ F (c _) (λk b=>by subst b;exact⟨O,by omega⟩)) N<|(c _).block _ (am o) (λi=>by omega)|>.trans o⟩
def nT{α:Type}{arg:α->Array aa}{m:R}{y:Operand}{s:Array Tmp}{b body:Code}{Q:Exit->Act->I->Prop}{a:Act}{V:jr}{n0 gf:R}{lb:Array aa}{l:cD α}{S:fN}(x:a.eval y=.func (.func gf) #[] lb)(u:Enters bG gf)(o:∀C,(arg C).size=s.size)(ri:Is arg V n0 (m-1) gf lb l S f)(w:V.D f)(n:n0<=G (H f))(g:∀q,S q->q<G (H f))(t:cD α->fN->I->Prop)(r:Code->cD α->fN->I->Prop)(B:fN):Px arg m y s b body Q a f V n0 (·<+:l) S (λq=>S q\/V.F q\/G (H f)<=q) t r B (∀(D:R)(B:fN)(W:I),G (H f)<=D->t l B W->¬B D->V.D W->W.heap[D]?=M (.deferred<|M [])->Q .normal {a with defers:={target:=.collected D,args:=#[]}::a.defers} W):=λv i k p h c d e=>xu (λ_ A=>.inr<|.inr A) x u o ri.q w n g t r B v i k p h c (λ_ D B W j=>j▸d D B W) e
abbrev Tc(x:E):Array aa:=#[x.value,.nilIface]
abbrev Iter:=@Is E Tc
section
open Go.Shelf
def Fk(cM:R)(cb:Array aa)(hb:er a c (.func (.func g) #[] cb) 174)(he:Enters bG g)(hr:Ir u b g cb e X a)(cj:b<=c)(cl:¬X c):Iter u b cM 192 #[aA c] e (λk=>X k\/k=c) a:=by
 intro lr cv Jx cE cx hs hD hJ bl ao bq hY;have eg:∀b a,(callFunc g b).run bG a=.ok (.enter g b) a:=he;have bm:er cx c (.func (.func g) #[] cb) 174:=hb.same hs<|.inr rfl;have bp:Ir u b g cb e X cx:=hr.same<|hs.mono<|λ_ d=>.inl d;have br:=hs.1;obtain⟨bt,ca,HD,HJ,bb,V,K,HY⟩:=Fc bm bp hD hJ bl ao bq hY;clear hs hD hJ bl ao bq hY hb hr bm bp he;refine rr func192 rfl trivial ?_ rfl;simp only[ntmps192,eZ,aC,cS,Nat.reduceAdd,Nat.reduceSub,eh,dZ,fa,eE,cJ,cC];gi_wp2;gi_loopg [3] (z e+1) (λd _ wr=>∃i q S' v,e=i++q/\z q<d/\Ir u b g cb q S' wr/\er wr c (.func (.func g) #[] cb) 174/\u.D wr/\cv i v wr/\(∀k,S' k->¬v k)/\¬v c/\¬S' c/\(∀k,S' k->X k\/G (H a)<=k)/\G (H a)<=G (H wr))
 case atStart=>exact⟨[],e,X,cE,rfl,by omega,ae ca,ae bt,ae HD,ae HJ,λk d=>(ae bb) k<|.inl d,(ae bb) c<|.inr rfl,cl,λk d=>.inl d,br⟩
 case round=>
  obtain⟨i,q,S',v,hl,bn,p,P,N,j,n,ac,al,C,cp⟩:=hrel;have cc:=Z C;have co:=P.cell;have S:=Z P;have bx:=Z j;have bc:=Z n;obtain⟨av,bd,HL⟩:=dI ac al hl;have o:=p.own;have ba:=Z o;have D:∀k,b<=k->¬u.F k:=λk d a=>by have:=o.aN k a;omega
  have ch:=Z D;cases q with
  |nil=>
   have hc:=p.2 wr (jL.refl _ _ _ _) N;have HT:=Z<|λm(X:J (λk=>S' k\/u.F k) wr m)=>(ae K) i v wr m _ j X<|λk d=>⟨λr=>d.elim (λs=>n k s r)<|λs=>D k ((ae V) _ _ _ j k r).1 s,d.elim (λs=>(C k s).elim (λr=>.inl<|.inl r)<|λr=>.inr<|.inr r)<|λs=>.inr<|.inl s⟩;clear p P N j n ac al hl o D bn C;gi_wp2_with(refine⟨trivial,(λr=>(by cases r)),?_⟩;gi_at_fn g;refine(di.2 hc).mono ?_;rintro cB m⟨rfl,B,l⟩;have f:=Z B;have ax:=Z<|(ae HT) m l;clear B l;unfold wX)
   refine⟨λ_ h=>(by cases h),?_⟩;gi_wp2;refine cO (iY rfl _ _ _) rfl ?_;refine⟨⟨_,rfl⟩,.inl ⟨v,?_,u.fq (ae f) (cI az m) cN⟩⟩;have hl:=ae HL;rw[dO]at hl;rw[hl];exact(ae K) i v m _ _ (ae ax) (cI az m) cN
  |cons cu cs=>
   have hc:=p.2 wr (jL.refl _ _ _ _) N;have bo:(i++[cu])<+:e:=⟨cs,by rw[hl];simp⟩;have HT:=Z<|λm(X:J (λk=>S' k\/u.F k) wr m)=>(ae K) i v wr m _ j X<|λk d=>⟨λr=>d.elim (λs=>n k s r)<|λs=>D k ((ae V) _ _ _ j k r).1 s,d.elim (λs=>(C k s).elim (λr=>.inl<|.inl r)<|λr=>.inr<|.inr r)<|λs=>.inr<|.inl s⟩;have L:=Z<|λa(c:cv i v a)(b:u.D a)=>(ae HY) i cu v a bo c b;clear p P N j n ac al hl o D C;obtain⟨x,y,w,f⟩:=cu;unfold Tc at L;unfold E.value at hc L;simp only at hc L;gi_wp2_with(refine⟨trivial,(λr=>(by cases r)),?_⟩;gi_at_fn g;refine(di.2 hc).mono ?_;rintro cB m⟨rfl,B,l,S1,bk,t⟩;have ad:=(ae K) i v m _ _ ((ae HT) m l) ((J.refl az m).alloc<|aw #[aj x,aj y,aO w,aL f] 164) cN;have bg:=u.fq B ((J.refl az m).alloc<|aw #[aj x,aj y,aO w,aL f] 164) cN;obtain⟨fn,cn,bs,body,hy,hR⟩:=(ae L) _ ad bg;have HR:=Z hR;have ax:=Z ad;have cd:=Z l;have W:=Z bk;have bT:=Z t;clear B l bk t ad bg hR)
   refine⟨(λr=>(by cases r)),(ae HR).mono ?_⟩;rintro cB W3(⟨rfl,bh,B3,bi,O,bf⟩|⟨rfl,hx⟩)
   .have bu:=Z bh;obtain⟨bv,ce,au⟩:=dI bi O bf;clear bh bi O bf;gi_wp2;gi_roundg (z cs+1)
    case measure=>simpa using bn
    case rel=>
     have l:=ae cd;have O:=ae ce;have t:=ae bT;have o:=ae ba;have j:=ae bx;have A:=(ae V) _ _ _ j;have cm:J az m (cF m<|aw #[aj x,aj y,aO w,aL f] 164):=(cI _ _);have Q:∀k,S1 k->¬v k:=λk d r=>by
      rcases(ae W) k d with s|s
      .exact(ae bc) k s r
      .have:=(A k r).2;omega
     have ck:=t.own.size;have F:J v m W3:=(cm.mono (T:=v) cN).trans O<|λk d=>.inl d;have an:er m c (.func (.func g) #[] cb) 174:=by
      refine(l.block c (am<|ae S) ?_).trans<|ae S;rintro(r|r)
      .exact(ae bd) r
      .exact(ae ch) c cj r
     refine⟨i++[⟨x,y,w,f⟩],cs,S1,B3,by rw[ae HL];simp,by omega,t.same<|F.same ck (λk d=>⟨(t.own.each k d).2,Q k d⟩) (λk d ao=>by have:=(A k d).1;omega),(F.block c (am an)<|ae av).trans an,ae bu,ae bv,λk d r=>?_,λr=>?_,λr=>?_,?_,?_⟩
     .rcases(ae au) k r with s|s
      .exact Q k d s
      .have:=(t.own.each k d).2;simp at s;omega
     .rcases(ae au) c r with s|s
      .exact(ae av) s
      .have:=am an;simp at s;omega
     .rcases(ae W) c r with s|s
      .exact(ae bd) s
      .have:=am<|ae S;omega
     .intro k d;rcases(ae W) k d with s|s
      .exact(ae cc) k s
      .exact .inr<|by omega
     .have:=l.size;have:=F.size;omega
   .have A:=Z hx;clear hx;gi_wp2;refine cO (iY rfl _ _ _) rfl ?_;exact⟨⟨_,rfl⟩,.inr ⟨_,ae A⟩⟩
end
section
open Go.Shelf
attribute [local go_sem] Oper.semAt_some
def Mz(f:R)(a:Array aa)(w:I):cA bG 132 #[.func (.func f) #[] a] w λe b=>e=aP (.func (.func 192) #[] #[aA<|G<|H w])/\b=cF w (aw #[.func (.func f) #[] a] 174):=by
 go_in
 go_wp2;go_ret;exact⟨rfl,rfl⟩
def ot:(prog.info? 164).map (λi=>(i.zero,i.size,i.bytes))=M (M wX,4,48):=by kernel_rfl
structure yl(V:jr)(S:fN)(w0:I)(N:R)(pre:cK)(B:fN)(W:I):Prop where
 Lb:er W (G<|H w0) aG 102
 err:er W (G (H w0)+1) .nilIface 50
 row:∃v,er W (G (H w0)+2) v 102/\W.ownsRow (G (H w0)+3) 164 4 v (z pre) (aH pre)/\(∀k,B k↔k=G (H w0)\/k=G (H w0)+1\/k=G (H w0)+2\/bY v=M k)
 le:z pre<=N
 ay:J (λk=>S k\/V.F k) w0 W
def yl.lt{S:fN}(h:yl u S a c e X B):∀k,X k->G (H a)<=k/\k<G (H B):=by
 intro k l;obtain⟨v,g,i,j⟩:=h.row;rcases(j k).1 l with d|d|d|d;subst d;exact⟨ai _,am h.Lb⟩;subst d;exact⟨by omega,am h.err⟩;subst d;exact⟨by omega,am g⟩;have:=i.lt k d;exact⟨by omega,this.2⟩
def yl.stays{m:fN}{T:fN}(i:yl u X a b e m f)(g:J T f B)(d:∀k,T k->¬m k/\((X k\/u.F k)\/G (H a)<=k)):yl u X a b e m B:=by
 obtain⟨v,l,n,c⟩:=i.row;exact⟨(g.block _ (am i.Lb)<|λh=>(d _ h).1<|(c _).2<|.inl rfl).trans i.Lb,(g.block _ (am i.err)<|λh=>(d _ h).1<|(c _).2<|.inr<|.inl rfl).trans i.err,⟨v,(g.block _ (am l)<|λh=>(d _ h).1<|(c _).2<|.inr<|.inr<|.inl rfl).trans l,g.own n<|λk j h=>(d k h).1<|(c k).2<|.inr<|.inr<|.inr j,c⟩,i.le,i.ay.trans g<|λk j=>(d k j).2⟩
def zA{d:Func}{p q:Tmp}{e:TypeId}(n:d.results=#[.cell p e,.cell q 50]){m:TypeId}(j:prog.underlying e=M (.slice m))(a:Array aa)(w:I)(f g:R)(u v:aa)(k:a.getD p iE=aA f)(l:a.getD q iE=aA g)(h:aS w (U f 0)=M u)(i:aS w (U g 0)=M v):(results d a).run bG w=.ok (dE #[u,v]) w:=by
 have b:a[p]?.getD iE=aA f:=by simpa using k
 have c:a[q]?.getD iE=aA g:=by simpa using l
 simp[results,n,b,c,asAddr,loadVar,isAgg,underlying,j,underlying50,h,i,Result.andThen]
def ez{O:Fence}{P:Program}(A:I){m:Array Oper}{f:cD Oper}{E:Oper}{F:Act}{ac:Exit->Act->I->Prop}(t:E.guard=none)(al an:Operand)(K:TypeId)(u:E.op=.call {callee:=.builtin .append,args:=#[al,an],argTypes:=#[K,K]})(a:R)(B:TypeId)(C:TypeInfo)(j:aa)(c bytes:R)(X:P.underlying K=M (.slice B))(T:P.info? B=M C)(hz:C.zero=M j)(i:C.size=c)(r:C.bytes=bytes)(w:j.cells.size=c)(v:0<c)(N:aa)(D:R)(x:jd)(W:F.eval al=N)(k:A.ownsRow a B c N D x)(p:Addr)(y Q:R)(d:jd)(hx:F.eval an=ah (M p) y Q)(V:z d=y*c)(h:∀ad L,d[ad]?=M L->aS A (p.add ad)=M L)(S:∀L∈d,L.oneCell'=bX)(hn:D+y<=140737488355328)(e:(D+y)*bytes<=140737488355328)(g:a<=G (H A))(ao:∀n o,o.ownsRow a B c n (D+y) (x++d)->eY A o N n->wpListIn O b P m ac f (F.put E.dst n) o):wpListIn O b P m ac (E::f) F A:=by
 refine wY t λau q=>?_;obtain⟨n,o,l,r1,r2,r3,r4⟩:=nB (P:=P) A a K E.type B C j c bytes X T hz i r w v N D x k p y Q d V h S (by unfold maxLen;omega) e g;unfold Oper.wpIn;refine⟨?_,?_⟩;simp[Oper.about,u,resolve,Target.leads,pZ];rw[Oper.semAt_plain O _ _ (by rw[u];intro Q s;cases s)];simp[execOp,u,resolve,invoke,builtin,W,hx,l,Result.andThen];exact q _ _<|ao n o r1<|eY.of r2 r4
def ww(w:I)(x:E)(t:TypeId):∀j u,(aH [x])[j]?=M u->aS (cF w<|aw #[aj x.key,aj x.val,aO x.del,aL x.bK] t) (((U (G<|H w) 0):Addr).add j)=M u:=by
 intro j u a;rw[dB];have h:(cF w<|aw #[aj x.key,aj x.val,aO x.del,aL x.bK] t).heap[G<|H w]?=M (aw #[aj x.key,aj x.val,aO x.del,aL x.bK] t (0,0)):=aE _ rfl;rw[bL h,cZ];simpa[aH,E.cells]using a
def BA(x:E):∀u∈aH [x],u.oneCell'=bX:=by
 intro u a;simp[aH,E.cells]at a;rcases a with rfl|rfl|rfl|rfl<;>rfl
def yl.more{y:fN}{x:E}{N:Obj}(A:yl u X a b e y f)(v:er f (G (H a)+2) d 102)(j:∀k,y k↔k=G (H a)\/k=G (H a)+1\/k=G (H a)+2\/bY d=M k)(L:f.ownsRow (G (H a)+3) 164 4 d (z e) (aH e))(O:z e+1<=b)(D:eY (cF f N) B d t)(l:B.ownsRow (G (H a)+3) 164 4 t (z e+1) (aH e++aH [x])):∃C,yl u X a b (e++[x]) C (ct B (U (G (H a)+2) 0) t)/\J y f (ct B (U (G (H a)+2) 0) t)/\(∀k,C k->y k\/G (H f)<=k):=by
 have w:∀k,bY d=M k->G (H a)+3<=k/\k<G (H f):=λk c=>L.lt k c;have n:∀k,bY t=M k->G (H a)+3<=k:=λk c=>(l.lt k c).1;have P:=am v;have o:J (λk=>bY d=M k) f B:=((J.refl (λk=>bY d=M k) f).alloc N).trans (J.dR (S:=λk=>bY d=M k) D.grown<|λk c=>.inl c)<|λk c=>.inl c;have g:∀k,k<G (H a)+3->¬bY d=M k:=λk c h=>by have:=(w k h).1;omega
 have q:er B (G<|H a) aG 102:=(o.block _ (am A.Lb)<|g _<|by omega).trans A.Lb;have r:er B (G (H a)+1) .nilIface 50:=(o.block _ (am A.err)<|g _<|by omega).trans A.err;have s:er B (G (H a)+2) d 102:=(o.block _ (am v)<|g _<|by omega).trans v;have m:J y f (ct B (U (G (H a)+2) 0) t):=(o.mono (T:=y)<|λk c=>.inl<|(j k).2<|.inr<|.inr<|.inr c).setCell _ _ _<|.inl<|(j _).2<|.inr<|.inr<|.inl rfl;refine⟨λk=>k=G (H a)\/k=G (H a)+1\/k=G (H a)+2\/bY t=M k,⟨q.other _ (by omega),r.other _ (by omega),⟨t,s.set _,?_,λk=>ru⟩,by simp;omega,?_⟩,m,?_⟩;(have F:z (e++[x])=z e+1:=by simp);rw[F,fT];exact l.kept (df B _ _ _) (by right;intro h;have:=n _ h;omega);exact A.ay.trans m<|λk c=>.inr (A.lt k c).1;rintro k(h|h|h|h);exact .inl<|(j k).2<|.inl h;exact .inl<|(j k).2<|.inr<|.inl h;exact .inl<|(j k).2<|.inr<|.inr<|.inl h;rcases D.uq with F|⟨Q,F,K⟩;exact .inl<|(j k).2<|.inr<|.inr<|.inr<|F.symm.trans h;rw[F]at h;cases h;simp at K;exact .inr<|by omega
def CO(hg:jm u c d e X a)(hD:u.D a)(hl:z e<=1000000000):cA bG 84 #[d] a λcn w'=>∃v',cn=aP (dE #[v',.nilIface])/\w'.ownsRow (G<|H a) 164 4 v' (z e) (aH e)/\u.D w'/\J (λk=>X k\/u.F k) a w':=by
 obtain⟨bx,cb,rfl,he,F⟩:=hg;obtain⟨HE,HR,HD⟩:=dI he F hD;have bl:=Mz bx cb;obtain⟨i0,bm,bp,bq,an⟩:=cL ot;clear he F hD;refine(di (n:=3)).1 ?_;refine callsIn_of_wp_marks func84 rfl trivial ?_ rfl;simp only[ntmps84,eZ,aC,cS,Nat.reduceAdd,Nat.reduceSub,eh,dZ,fa,eE,cJ,cC];gi_wp2_with(refine⟨trivial,?_⟩;gi_at_call 132;refine(di.2<|bl _).mono ?_;rintro cn w1⟨rfl,rfl⟩)
 have F:=ae HR;obtain⟨O,s⟩:∃O,(cF (cF (cF (cF a<|aw #[aG] 102)<|aw #[.nilIface] 50)<|aw #[aG] 102)<|aw #[.func (.func bx) #[] cb] 174)=O:=⟨_,rfl⟩;have ck:G (H O)=G (H a)+4:=by rw[<-s];simp
 have ad:J az a O:=by rw[<-s];exact(((cI az a).alloc _).alloc _).alloc _
 have bi:er O (G (H a)+3) (.func (.func bx) #[] cb) 174:=by rw[<-s];exact aE _<|by simp
 have bf:yl u X a (z e) [] (λk=>k=G (H a)\/k=G (H a)+1\/k=G (H a)+2) O:=by refine⟨?_,?_,⟨aG,?_,bN _ _ _ _,λk=>by simp[bY]⟩,bB _,ad.mono cN⟩;rw[<-s];exact er.alloc (er.alloc (er.alloc (aE _ rfl) _) _) _;rw[<-s];exact er.alloc (er.alloc (aE _<|by simp) _) _;rw[<-s];exact er.alloc (aE _<|by simp) _
 have bn:Ir u c bx cb e X O:=F.same<|ad.same F.own.size (λk g=>⟨(F.own.each k g).2,λq=>q⟩) cN;have bg:u.D O:=u.fq HD ad cN;have cj:=F.own.size;have ac:∀k,X k->k<G (H a):=λk g=>(F.own.each k g).2;rw[s];refine nT (arg:=Tc) (m:=3) (V:=u) (n0:=c) (gf:=192) (lb:=#[aA<|G (H a)+3]) (l:=e) (S:=λk=>X k\/k=G (H a)+3) ?geval (enters_of func192 (by kernel_rfl) rfl) (λ_=>rfl) (Fk 2 cb bi HE bn (by omega) (λq=>by have:=ac _ q;omega)) bg (by omega) ?slt (λo av W=>yl u X a (z e) o av W) (λ_ _ _ _=>False) (λk=>k=G (H a)\/k=G (H a)+1\/k=G (H a)+2) bf ?sb ?lt ?st (λ_ _ _ _ _ _ h=>h.elim) ?body ?done ?stop;case geval=>rfl
 (case slt=>rintro k(q|q);have:=ac k q;omega;omega);(case sb=>rintro k(q|q)f;have:=ac k q;omega;omega);(case lt=>intro o av W h k g;have:=h.lt k g;exact⟨by omega,this.2⟩);(case st=>intro o av W j cs h i f;refine h.stays i<|λk g=>⟨(f k g).1,?_⟩;rcases(f k g).2 with(q|q)|q|q;exact .inl<|.inl q;exact .inr (by omega);exact .inl<|.inr q;exact .inr<|by omega);(case stop=>intro ax q o av W _ h;exact h.elim)
 case body=>
  intro lr o co av W ch ao bt P v A;have au:z o+1<=z e:=by have:=P.length_le;simpa using this
  have HC:=Z v;have Q:=Z A;clear v A P;obtain⟨j,l,i,f⟩:=co;unfold Tc E.value;simp only;gi_wp2;refine⟨(cI _ _),λT r=>?_⟩;have K:yl u X a (z e) o av T:=((HC.stays ((J.refl az W).alloc<|aw #[aj j,aj l,aO i,aL f] 164) cN).stays r (λk g=>by subst g;exact⟨ao,.inr<|by omega⟩));have V:ix T (G<|H W) ⟨j,l,i,f⟩:=ix.ay (aE _ rfl) r (by omega);obtain⟨d,N,p,C⟩:=K.row;have bk:aS T (U (G (H a)+1+1) 0)=M d:=N.cell;have ce:T.frozen? (U (G (H a)+1+1) 0)=bF:=N.free;obtain⟨y,x,al⟩:=aB p;obtain⟨bT,ca,cc,cd⟩:=V.cells;have bu:=am V;have bv:=am N;have bh:G (H a)+3<=G (H T):=by have:=K.ay.size;have:=r.size;simp at this;omega
  obtain⟨ba,HV,w,S,bc⟩:=jX K N p C r;clear K V N p C r;subst al;gi_wp2_with(first
   |(gi_at_builtin;refine ez _ rfl (.tmp 14) (.tmp 16) 102 rfl (G (H a)+3) 164 i0 wX 4 48 underlying102 bm bp bq an rfl (by decide) (.slice y (z o) x) (z o) (aH o) rfl (aU w (.cells #[.string j,.string l,.bool i,.int .u64 f] 164)) (U (G (H T)) 0) 1 1 (aH [⟨j,l,i,f⟩]) rfl rfl (ww _ ⟨j,l,i,f⟩ _) (BA _) (by omega) (by omega) (by simp;omega) ?_;intro v2 w3 t D;obtain⟨cm,cl,rfl⟩:=aB t;have B:er w3 (G (H a)+1+1) (.slice y (z o) x) 102:=(D.grown.block _ (am (HV.alloc (.cells #[.string j,.string l,.bool i,.int .u64 f] 164))) (λq=>by have:=(w.lt _ q.symm).1;omega)).trans (HV.alloc _);have br:=B.cell;have bs:=B.free;clear B;have bb:=Z t;have bd:=Z D;clear t D))
  obtain⟨B',q1,q2,q3⟩:=ba.more (x:=⟨j,l,i,f⟩) HV S w au bd bb;have r:=ae bc;have an:=r.size;simp at an;have bo:J (λk=>av k\/k=lr) W T:=((J.refl (λk=>av k\/k=lr) W).alloc<|aw #[aj j,aj l,aO i,aL f] 164).trans r<|λk g=>.inl<|.inr g;have L:∀k,G (H a)<=k->¬u.F k:=λk g hf=>by have:=F.own.aN k hf;omega
  refine⟨?_,B',q1,bo.trans q2<|λk g=>.inl<|.inl g,q2.block lr (by omega) ao,λk g=>?_⟩
  .refine u.fq (u.fq (u.fq Q (cI az W) cN) r (λk g=>by subst g;exact L _<|by omega)) q2<|λk g=>L k (HC.lt k g).1
  .rcases q3 k g with q|q
   .exact .inl q
   .exact .inr<|by omega
 case done=>
  intro ax av W ao v j A hK;obtain⟨d,N,p,C⟩:=v.row;have bk:aS W (U (G (H a)+1+1) 0)=M d:=N.cell;have au:=v.Lb.cell;have bb:=v.Lb.free;have ba:=v.err.cell;have bc:=v.err.free;obtain⟨y,x,al⟩:=aB p;obtain⟨HC,HV,w,S,Q,HK⟩:=kD v N p C A hK;clear v N p C A hK;subst al;gi_wp2;have P:=ae S;have v:=ae HC;have n1:ax≠G (H a):=λq=>j<|(P _).2<|.inl q;have n2:ax≠G (H a)+1:=λq=>j<|(P _).2<|.inr<|.inl q;have n3:¬bY (ah y (z e) x)=M ax:=λq=>j<|(P _).2<|.inr<|.inr<|.inr q;have T:(ct (ct W (U (G<|H a) 0)<|ah y (z e) x) (U (G (H a)+1) 0) .nilIface).heap[ax]?=M (.deferred<|M []):=by
   rw[iC _ n2,iC _ n1];exact HK
  have f:er (ct (ct W (U (G<|H a) 0)<|ah y (z e) x) (U (G (H a)+1) 0) .nilIface) (G<|H a) (ah y (z e) x) 102:=(v.Lb.set _).other _ (by omega);have i:er (ct (ct W (U (G<|H a) 0)<|ah y (z e) x) (U (G (H a)+1) 0) .nilIface) (G (H a)+1) .nilIface 50:=(v.err.other _<|by omega).set _;have r:=gH (ct (ct W (U (G<|H a) 0)<|ah y (z e) x) (U (G (H a)+1) 0) .nilIface) ax<|.deferred none;have V:J (λk=>k=G (H a)\/k=G (H a)+1) W (ct (ct W (U (G<|H a) 0)<|ah y (z e) x) (U (G (H a)+1) 0) .nilIface):=((J.refl (λk=>k=G (H a)\/k=G (H a)+1) W).setCell _ 0 _<|.inl<|.inl rfl).setCell _ 0 _<|.inl<|.inr rfl;have t:=(V.mono (T:=λk=>k=G (H a)\/k=G (H a)+1\/k=ax)<|λk g=>.inl<|g.elim .inl<|λq=>.inr<|.inl q).trans r<|λk g=>.inl<|.inr<|.inr g;have L:∀k,G (H a)<=k->¬u.F k:=λk g hf=>by have:=F.own.aN k hf;omega
  have B:∀k,(k=G (H a)\/k=G (H a)+1\/k=ax)->G (H a)<=k:=by rintro k(q|q|q)<;>omega
  refine⟨by simp,.inl ⟨_,_,rfl,run_takeDeferred T,?_⟩⟩;refine⟨_,zA rfl underlying102 _ _ (G<|H a) (G (H a)+1) (ah y (z e) x) .nilIface rfl rfl ?_ ?_,?_⟩
  .exact(er.cell<|(r.block _ (am f)<|λq=>n1 q.symm).trans f)
  .exact(er.cell<|(r.block _ (am i)<|λq=>n2 q.symm).trans i)
  .refine⟨_,rfl,?_,u.fq Q t<|λk g=>L k<|B k g,v.ay.trans t<|λk g=>.inr<|B k g⟩;have p:=ae w;have hx:=t.own p (λk g q=>by
    have:=(p.lt k g).1;rcases q with q|q|q
    .omega
    .omega
    .exact n3 (by rw[<-q];exact g))
   obtain⟨h1,⟨K,h0⟩|⟨bd,cp,D,K,hb,l⟩⟩:=hx
   .exact⟨h1,.inl ⟨K,h0⟩⟩
   .exact⟨h1,.inr ⟨bd,cp,D,K,by omega,l⟩⟩
end
def tD:Option E->aa
 |some x=>.tuple #[x.value,.bool bX,.nilIface]
 |none=>.tuple #[wX,.bool bF,.nilIface]
def JC(t:TypeId)(a b:ab):binOp .geq t (aj a) (aj b)=pure (aO !(Op.bytesLess a.toList b.toList)):=by simp[binOp,Op.stringOp]
def AB(N:ab)(y:Y)(h:ku a d e)(B:dS e)(hl:z e<=1000000000000)(w:∀y,bY d=M y->y<G (H a)):cA bG 315 #[d,aj N,aL y] a λac w'=>ac=aP (tD<|iH y e N)/\Below (G<|H a) a w':=by
 have m:Below (G<|H a) a (cF a<|aw #[aj ⟨#[]⟩,aj ⟨#[]⟩,aO bF,aL 0] 164):=(Below.refl _ a).alloc (ai _) _;have K:=Bw d N y (cF a<|aw #[aj ⟨#[]⟩,aj ⟨#[]⟩,aO bF,aL 0] 164) (h.below m w) B hl (λy b=>by have:=w y b;simp;omega);have n:=OQ B N ⟨#[]⟩ bF y;have x:=Z<|IX e ⟨N,⟨#[]⟩,bF,y⟩;generalize ly e ⟨N,⟨#[]⟩,bF,y⟩=p at*;by_cases s:p<z e;(·(have e1:((p:Y)==(z e:Y))=bF:=by simp;omega);(have e2:(p:Y)<(z e:Y):=by omega);(have e3:(0:Y)<=(p:Y):=by omega);obtain⟨O,⟨rfl,h0⟩|⟨u,b,al,rfl,A,L⟩⟩:=h;omega;have v:=eG e p s;have t:=Z L;have j:=w u rfl;by_cases k:e[p].key=N;(.rw[n,oU ⟨s,k⟩];clear L w O A n B;subst k;generalize e[p]=an at*;obtain⟨E,F,D,C⟩:=an;simp only at v K;have r:=Z v;clear v;(go_in);(go_wp2_with(go_at_call 180;refine K.mono ?_;rintro ac l⟨rfl,g⟩;have f:Below (G<|H a) a l:=m.trans<|g.mono m.size;have q0:aS l (U u<|b+p*4)=M (aj E):=(f.cell (p:=(U u<|b+p*4)) j).trans<|t _ _ r.1;have q1:aS l (U u<|b+p*4+1)=M (aj F):=(f.cell (p:=(U u<|b+p*4+1)) j).trans (by rw[aY];exact t _ _ r.2.1);have q2:aS l (U u<|b+p*4+2)=M (aO D):=(f.cell (p:=(U u<|b+p*4+2)) j).trans (by rw[aY];exact t _ _ r.2.2.1);have q3:aS l (U u<|b+p*4+3)=M (aL C):=(f.cell (p:=(U u<|b+p*4+3)) j).trans (by rw[aY];exact t _ _ r.2.2.2);have c:ix l (G<|H a) ⟨⟨#[]⟩,⟨#[]⟩,bF,0⟩:=(g.block _<|by simp).trans<|aE _ rfl;obtain⟨V,W,X,z3⟩:=c.cells;have P:=c.free (i:=0);have Q:=c.free (i:=1);have S:=c.free (i:=2);have T:=c.free (i:=3);have q:=Z c;have o:=Z f;clear c f g));refine cO (fZ rfl _ _ (G<|H a) ⟨E,F,D,C⟩ _ _ rfl<|q.put ⟨E,F,D,C⟩) rfl ?_;exact⟨rfl,(((o.setCell (p:=(U (G<|H a) 0)) (ai _) _).setCell (p:=(U (G<|H a) 1)) (ai _) _).setCell (p:=(U (G<|H a) 2)) (ai _) _).setCell (p:=(U (G<|H a) 3)) (ai _) _⟩);have e4:=IE k;rw[n,dif_neg<|λad=>k ad.2];clear L w O A n B k;generalize e[p]=an at*;obtain⟨E,F,D,C⟩:=an;simp only at v e4;have r:=Z v;clear v;(go_in);(go_wp2_with(go_at_call 180;refine K.mono ?_;rintro ac l⟨rfl,g⟩;have f:Below (G<|H a) a l:=m.trans<|g.mono m.size;have q0:aS l (U u<|b+p*4)=M (aj E):=(f.cell (p:=(U u<|b+p*4)) j).trans<|t _ _ r.1;have q1:aS l (U u<|b+p*4+1)=M (aj F):=(f.cell (p:=(U u<|b+p*4+1)) j).trans (by rw[aY];exact t _ _ r.2.1);have q2:aS l (U u<|b+p*4+2)=M (aO D):=(f.cell (p:=(U u<|b+p*4+2)) j).trans (by rw[aY];exact t _ _ r.2.2.1);have q3:aS l (U u<|b+p*4+3)=M (aL C):=(f.cell (p:=(U u<|b+p*4+3)) j).trans (by rw[aY];exact t _ _ r.2.2.2);have c:ix l (G<|H a) ⟨⟨#[]⟩,⟨#[]⟩,bF,0⟩:=(g.block _<|by simp).trans<|aE _ rfl;obtain⟨V,W,X,z3⟩:=c.cells;have P:=c.free (i:=0);have Q:=c.free (i:=1);have S:=c.free (i:=2);have T:=c.free (i:=3);have q:=Z c;have o:=Z f;clear c f g));refine cO (fZ rfl _ _ (G<|H a) ⟨⟨#[]⟩,⟨#[]⟩,bF,0⟩ _ _ rfl<|q.put ⟨⟨#[]⟩,⟨#[]⟩,bF,0⟩) rfl ?_;exact⟨rfl,(((o.setCell (p:=(U (G<|H a) 0)) (ai _) _).setCell (p:=(U (G<|H a) 1)) (ai _) _).setCell (p:=(U (G<|H a) 2)) (ai _) _).setCell (p:=(U (G<|H a) 3)) (ai _) _⟩);(have b:p=z e:=by have:=ae x;omega);rw[n,dif_neg<|λad=>s ad.1];have j:=bS h;clear h B n s w x;subst b;obtain⟨r,k,rfl⟩:=j;(have e1:((z e:Y)==(z e:Y))=bX:=by simp);(go_in);(go_wp2_with(go_at_call 180;refine K.mono ?_;rintro ac l⟨rfl,g⟩;have f:Below (G<|H a) a l:=m.trans<|g.mono m.size;have c:ix l (G<|H a) ⟨⟨#[]⟩,⟨#[]⟩,bF,0⟩:=(g.block _<|by simp).trans<|aE _ rfl;obtain⟨V,W,X,z3⟩:=c.cells;have P:=c.free (i:=0);have Q:=c.free (i:=1);have S:=c.free (i:=2);have T:=c.free (i:=3);have q:=Z c;have o:=Z f;clear c f g));refine cO (fZ rfl _ _ (G<|H a) ⟨⟨#[]⟩,⟨#[]⟩,bF,0⟩ _ _ rfl<|q.put ⟨⟨#[]⟩,⟨#[]⟩,bF,0⟩) rfl ?_;exact⟨rfl,(((o.setCell (p:=(U (G<|H a) 0)) (ai _) _).setCell (p:=(U (G<|H a) 1)) (ai _) _).setCell (p:=(U (G<|H a) 2)) (ai _) _).setCell (p:=(U (G<|H a) 3)) (ai _) _⟩
def Nz(au:aa)(w:I)(h:ku w au e)(D:dS e)(hl:z e<=1000000000000)(F:∀av,bY au=M av->av<G (H w)):cA bG 317 #[au] w λax w'=>ax=aP (aO bX)/\Below (G<|H w) w w':=by
 have y:∀(W:Bool)(w:I),(Op.unary .not<|aO W).run bG w=.ok (aO<|!W) w:=λ_ _=>rfl;obtain⟨h1,⟨rfl,h0⟩|⟨i,a,ac,rfl,an,x⟩⟩:=h;(·(go_in);go_wp2;(go_loop [6] (λK=>K=aq 0) (λ_=>0));(case atStart=>rfl);(case round=>obtain rfl:=hrel;go_wp2;go_ret;exact⟨rfl,Below.refl _ _⟩));(.have X:=Z x;have HS:=Z D;have o:=F i rfl;clear x D h1 F;(go_in);go_wp2;(go_loopw [6] (λK wr=>∃q:R,q<=z e/\K=aq q/\Below (G<|H w) w wr) (λK _=>z e-(intOf K).toNat));(case atStart=>exact⟨0,bB _,rfl,Below.refl _ _⟩);(case round=>obtain⟨q,ao,rfl,d⟩:=hrel;have m:=Z d;by_cases k:q<z e;(.rcases fY q with l|l;(.subst l;clear d;go_wp2;(go_quiet(fail));go_wp2;go_roundw;(case rel=>exact⟨1,by omega,rfl,below_drewN m _⟩);case measure=>simp[intOf];omega);(.obtain⟨p,rfl⟩:∃p,q=p+1:=⟨q-1,by omega⟩;(have A:p<z e:=by omega);have b:∀j u,(aH e)[j]?=M u->aS wr (U i<|a+j)=M u:=λj u c=>(d.cell (p:=(U i<|a+j)) o).trans<|X j u c;have f:=eG e p A;have g:=eG e (p+1) k;have s:=b _ _ f.1;have c1:=b _ _ f.2.1;have c2:=b _ _ f.2.2.1;have c3:=b _ _ f.2.2.2;have d0:=b _ _ g.1;have t:=b _ _ g.2.1;have u:=b _ _ g.2.2.1;have v:=b _ _ g.2.2.2;simp only[<-aY]at c1 c2 c3 t u v;have n:=λW=>Ca e[p] e[p+1] W;rw[cG.1 (ae HS) p (p+1) A k<|by omega]at n;have al:i<G (H wr):=dj _ _ s;clear f g d b;generalize e[p]=W at*;generalize e[p+1]=r at*;obtain⟨O,P,N,L⟩:=W;obtain⟨T,V,S,Q⟩:=r;unfold E.value at n;simp only at n s c1 c2 c3 d0 t u v;(have C:(0:Y)<(p:Y)+1:=by omega);(have e2:(0:Y)<=(p:Y):=by omega);(have e3:(p:Y)<(z e:Y):=by omega);(have e4:(0:Y)<=(p:Y)+1:=by omega);(have e5:(p:Y)+1<(z e:Y):=by omega);(have e9:IntKind.i64.wrap (p:Y)=(p:Y):=by rw[bQ];omega);(have ad:wrap64 (p:Y)=(p:Y):=by unfold wrap64;omega);(go_wp2_with fail);(go_region_held3(λc=>aS c (U i<|a+p*4)=M (aj O)/\aS c (U i<|a+p*4+1)=M (aj P)/\aS c (U i<|a+p*4+2)=M (aO N)/\aS c (U i<|a+p*4+3)=M (aL L)/\aS c (U i<|a+(p+1)*4)=M (aj T)/\aS c (U i<|a+(p+1)*4+1)=M (aj V)/\aS c (U i<|a+(p+1)*4+2)=M (aO S)/\aS c (U i<|a+(p+1)*4+3)=M (aL Q)) (first|assumption|go_keep) (first|(go_at_call 195;refine(n _).mono ?_;rintro ax w1⟨rfl,rfl⟩)));go_wp2;go_roundw;(case rel=>have j:Below (G<|H wr) wr (cF (cF wr<|aw #[aj O,aj P,aO N,aL L] 164)<|aw #[aj T,aj V,aO S,aL Q] 164):=((Below.refl _ wr).alloc (ai _) _).alloc (by simp) _;refine⟨p+1+1,by omega,by go_num,m.trans ?_⟩;exact Below.mono (B:=G<|H wr) ⟨j.os,j.tape,j.output,j.size,j.block⟩ m.size);case measure=>simp[intOf];omega));clear d;go_wp2;go_ret;exact⟨rfl,m⟩))
def Rd.laid(h:Rd a b o C)(d:a.grownBy f none):Rd f b o C:=by
 obtain⟨v,e,g,c⟩:=h;refine⟨v,(d.block b (am e)<|by simp).trans e,g.grown d ?_,c⟩;cases bY v with
 |none=>exact .inr rfl
 |some k=>exact .inl<|by simp
def Rd.lt(h:Rd a c o C):c<G (H a):=by
 obtain⟨v,d,_⟩:=h;exact am d
def Rd.put(K:Rd B c o C)(y:ix B g w)(r:c≠g)(h:E):Rd (wS B g h) c o C:=by
 obtain⟨L,s,A,F⟩:=K;have u:=jj B g h;refine⟨L,(u.block c (am s) r).trans s,?_,F⟩;rcases A with⟨v,x⟩|⟨b,d,k,v,n,D⟩;exact .inl ⟨v,x⟩;refine .inr ⟨b,d,k,v,n,λj t=>?_⟩;have e:=D j t;(have m:b≠g:=by rintro rfl;rw[bL y,aK t]at e;(have:d+j=0\/d+j=1\/d+j=2\/d+j=3\/4<=d+j:=by omega);rcases this with i|i|i|i|i;rw[i]at e;simp at e;rw[i]at e;simp at e;rw[i]at e;simp at e;rw[i]at e;simp at e;rw[eL<|by simpa using i]at e;simp at e);have q:b<G (H B):=dj B (U b<|d+j) e;have l:=u.block b q m;rw[cP (w:=B) (w':=wS B g h) (a:=(U b<|d+j)) l];exact e
def J.UZ(h:J (λk=>k=b) a f):a.grownBy f (M b):=⟨h.os,h.tape,h.output,h.size,λk c d=>h.block k c<|λe=>d<|by rw[e]⟩
def ix.grown(h:ix a b w)(e:a.grownBy f (M c))(d:c≠b):ix f b w:=(e.block b (am h) (by simp;exactλg=>d g.symm)).trans h
def Ak{c:Func}{p u:Tmp}(i:c.results=#[.cell p 164,.tmp u])(a:Array aa)(w:I)(g:R)(x:E)(t:TypeId)(d:R×R)(h:a.getD p iE=aA g)(e:w.heap[g]?=M (aw #[aj x.key,aj x.val,aO x.del,aL x.bK] t d)):(results c a).run bG w=.ok (dE #[x.value,a.getD u iE]) w:=by
 have b:a[p]?.getD iE=aA g:=by simpa using h
 have f:=lO (P:=bG) w g t 164 #[aj x.key,aj x.val,aO x.del,aL x.bK] d _ e underlying164 rfl (by kernel_rfl);simp[results,i,b,asAddr,f,Result.andThen,E.value]
def GC(m:R){x:E}(a:eP)(B:I)(h:Rd B m (oh x++a) bF)(A:kG (oh x++a))(hr:z (oh x++a)<=140737488351232)(hx:x.Good):cA bG 216 #[aA m] B λad w'=>ad=aP (dE #[E.value {x with bK:=0},aO bX])/\Rd w' m a bF/\B.grownBy w' (M m):=by
 obtain⟨b,c,s,r⟩:=x;have au:=hx.UO;have av:=hx.Me;have hv:=hx.val;have hd:=hx.del;simp only at au av hv hd;have e0:oh ⟨b,c,s,r⟩++a=pm s::(eC b++(eC c++a)):=by simp[oh]
 rw[e0]at h A hr;have y:kG (eC b++(eC c++a)):=λac hy=>A ac<|aJ _ hy;have F:kG (eC c++a):=λac hy=>y ac<|ii _ hy;have V:z (eC b++(eC c++a))<=140737488351232:=by simp only[aC]at hr;omega
 have ax:z (eC c++a)<=140737488351232:=by rw[af]at V;omega
 have k:=λal(Q:Rd al m (pm s::(eC b++(eC c++a))) bF)=>Fx Q A hr;have v:=λal(Q:Rd al m (eC b++(eC c++a)) bF)=>DF Q y V;have w:=λal(Q:Rd al m (eC c++a) bF)=>DF Q F ax;obtain⟨ka,kb⟩:=Mc s<|eC b++(eC c++a);obtain⟨ta,_⟩:=vQ b<|eC c++a;obtain⟨L,_⟩:=vQ c a;simp only[ka,kb]at k;simp only[ta,vR]at v;simp only[L,vR]at w;have ba:=λal(Q:Rd al m a bF)=>GK Q;have S:=rf b;have T:=xQ c;have bh:∀(x:Bool)(B:I),(Op.unary .not<|aO x).run bG B=.ok (aO<|!x) B:=λ_ _=>rfl;have an:decide (1<=b.size/\b.size<=8)=bX:=by simp[au,av]
 have ao:decide (c.size<=16)=bX:=by simp[hv]
 rw[an]at S;rw[ao]at T;have D:=λal=>S al (by omega);have K:=λal=>T al (by omega);have bi:=h.lt;have HR:=Z<|h.laid<|dA B (aw #[aj ⟨#[]⟩,aj ⟨#[]⟩,aO bF,aL 0] 164) none;clear h A y F hr V ax ka kb ta L e0 hx S T an ao;cases s with
 |true=>
  have bc:c=⟨#[]⟩:=hd rfl;subst bc;simp only[pm]at k;go_in
  go_wp2_with(first
   |(go_at_call 215;refine(k _<|ae HR).mono ?_;rintro ad w1⟨rfl,t,f⟩;have O:=Z t;have o:=Z f;have bd:=f.size;clear t f k)
   |(go_at_call 248;refine(v _<|ae O).mono ?_;rintro ad w2⟨rfl,u,g⟩;have P:=Z u;have p:=Z g;have bf:=g.size;clear u g v)
   |(go_at_call 248;refine(w _<|ae P).mono ?_;rintro ad C⟨rfl,j,e⟩;have q:=Z j;have N:=Z e;have bg:=e.size;have d:ix C (G<|H B) zE:=(((ix.grown (aE _ rfl) (ae o)<|by omega).grown (ae p)<|by omega).grown e<|by omega);obtain⟨z0,z1,z2,z3⟩:=d.cells;have y0:=d.free (i:=0);have y1:=d.free (i:=1);have y2:=d.free (i:=2);have y3:=d.free (i:=3);have bb:=am d;have n:=Z d;clear j e w d)
   |(go_at_call 211;refine(ba _<|(ae q).laid<|dA C _ none).mono ?_;rintro ad w4⟨rfl,rfl⟩)
   |(go_at_call 68;refine(D _).mono ?_;rintro ad w5⟨rfl,rfl⟩)
   |(go_at_call 69;refine(K _).mono ?_;rintro ad w6⟨rfl,rfl⟩))
  refine cO (Ak rfl _ _ (G<|H B) ⟨b,⟨#[]⟩,bX,0⟩ _ _ rfl<|((ae n).put ⟨b,⟨#[]⟩,bX,0⟩).alloc _) rfl ?_;have j:=ae q;have f:=ae o;have g:=ae p;have e:=ae N;have W:=(j.put (ae n) (by omega) (⟨b,⟨#[]⟩,bX,0⟩:E)).laid<|dA _ (aw #[aj (⟨b,⟨#[]⟩,bX,0⟩:E).key,aj (⟨b,⟨#[]⟩,bX,0⟩:E).val,aO (⟨b,⟨#[]⟩,bX,0⟩:E).del,aL (⟨b,⟨#[]⟩,bX,0⟩:E).bK] 164) none;have ht:J (λX=>X=m) B ((wS C (G<|H B) (⟨b,⟨#[]⟩,bX,0⟩:E)).alloc<|aw #[aj (⟨b,⟨#[]⟩,bX,0⟩:E).key,aj (⟨b,⟨#[]⟩,bX,0⟩:E).val,aO (⟨b,⟨#[]⟩,bX,0⟩:E).del,aL (⟨b,⟨#[]⟩,bX,0⟩:E).bK] 164):=by
   refine((((((cI (λX=>X=m) B).trans (fy f)<|λX l=>.inl l).trans (fy g)<|λX l=>.inl l).trans (fy e)<|λX l=>.inl l).trans (jj C (G<|H B) (⟨b,⟨#[]⟩,bX,0⟩:E))<|λX l=>.inr<|by omega).alloc _)
  exact⟨rfl,W,ht.UZ⟩
 |false=>
  simp only[pm]at k;go_in
  go_wp2_with(first
   |(go_at_call 215;refine(k _<|ae HR).mono ?_;rintro ad w1⟨rfl,t,f⟩;have O:=Z t;have o:=Z f;have bd:=f.size;clear t f k)
   |(go_at_call 248;refine(v _<|ae O).mono ?_;rintro ad w2⟨rfl,u,g⟩;have P:=Z u;have p:=Z g;have bf:=g.size;clear u g v)
   |(go_at_call 248;refine(w _<|ae P).mono ?_;rintro ad C⟨rfl,j,e⟩;have q:=Z j;have N:=Z e;have bg:=e.size;have d:ix C (G<|H B) zE:=(((ix.grown (aE _ rfl) (ae o)<|by omega).grown (ae p)<|by omega).grown e<|by omega);obtain⟨z0,z1,z2,z3⟩:=d.cells;have y0:=d.free (i:=0);have y1:=d.free (i:=1);have y2:=d.free (i:=2);have y3:=d.free (i:=3);have bb:=am d;have n:=Z d;clear j e w d)
   |(go_at_call 211;refine(ba _<|(ae q).laid<|dA C _ none).mono ?_;rintro ad w4⟨rfl,rfl⟩)
   |(go_at_call 68;refine(D _).mono ?_;rintro ad w5⟨rfl,rfl⟩)
   |(go_at_call 69;refine(K _).mono ?_;rintro ad w6⟨rfl,rfl⟩))
  refine cO (Ak rfl _ _ (G<|H B) ⟨b,c,bF,0⟩ _ _ rfl<|((ae n).put ⟨b,c,bF,0⟩).alloc _) rfl ?_;have j:=ae q;have f:=ae o;have g:=ae p;have e:=ae N;have W:=(j.put (ae n) (by omega) (⟨b,c,bF,0⟩:E)).laid<|dA _ (aw #[aj (⟨b,c,bF,0⟩:E).key,aj (⟨b,c,bF,0⟩:E).val,aO (⟨b,c,bF,0⟩:E).del,aL (⟨b,c,bF,0⟩:E).bK] 164) none;have ht:J (λX=>X=m) B ((wS C (G<|H B) (⟨b,c,bF,0⟩:E)).alloc<|aw #[aj (⟨b,c,bF,0⟩:E).key,aj (⟨b,c,bF,0⟩:E).val,aO (⟨b,c,bF,0⟩:E).del,aL (⟨b,c,bF,0⟩:E).bK] 164):=by
   refine((((((cI (λX=>X=m) B).trans (fy f)<|λX l=>.inl l).trans (fy g)<|λX l=>.inl l).trans (fy e)<|λX l=>.inl l).trans (jj C (G<|H B) (⟨b,c,bF,0⟩:E))<|λX l=>.inr<|by omega).alloc _)
  exact⟨rfl,W,ht.UZ⟩
def iJ(a:eP):eP:=a++le 4 (mQ a)
def BQ(e:E):eP:=le 8 e.bK++oh e
def fM(c:cK):eP:=c.flatMap BQ
def RV(a:eP):mM (le 4<|mQ a)=mQ a:=by
 rw[AC 4 _<|zP a];exact Int.emod_eq_of_lt (zP a) (by have:=BT a;simpa using this)
def CE(a:0<=m)(b:m<18446744073709551616):mM (le 8 m)=m:=by
 rw[AC 8 _ a];exact Int.emod_eq_of_lt a<|by simpa using b
def xz(w d e:R)(c:eP)(C:Steps a)(X:z c+4<=e)(hr:z c+4<=1000000000)(o:Bytes a (bE w d (z c+4) e) (iJ c)):cA bG 207 #[bE w d (z c+4:R) e] a λO w'=>
 O=aP (dE #[bE w d (z c) e,aO bX])/\Below (G<|H a) a w':=by
 obtain⟨b,f⟩:∃b,b=le 4 (mQ c):=⟨_,rfl⟩
 have t:z b=4:=by rw[f,cq]
 have p:kG b:=by rw[f];exact kG.le 4 _
 have L:mM b=mQ c:=by rw[f];exact RV c
 unfold iJ at o
 rw[<-f]at o
 clear f
 have ac:=C.lt
 have V:w<G (H a):=o.lt (by intro h;simp at h;rw[h.2]at t;simp at t) w rfl
 have k:Bytes a (bE w d (z<|c++b) e) (c++b):=by rw[af,t];exact o
 have u:Bytes a (bE w d (z c) e) c:=by
  have:=k.take (n:=z c) (by simp);rwa[qd]at this
 have v:Bytes a (bE w (d+z c) 4<|e-z c) b:=by
  have:=k.BR (n:=z c) (by simp);rwa[sR,af,t,uQ]at this
 have N:num b bF 4=mM b:=by
  unfold num jV;rw[dh (by simp[t]),da<|by omega]
 obtain⟨D,E,Q,P,K⟩:=jX u v N p C
 clear o k u v N p C
 have hd:(num b bF 4 !=mQ c)=bF:=by rw[ae Q,L];simp
 clear L
 go_in
 go_wp2_with fail
 refine(nu E (λad W=>by have:=Rw W;simp at this;omega)).mono ?_
 rintro O x⟨rfl,q,g⟩
 have s:G (H x)=G (H a)+1:=by rw[g];simp
 have j:Below (G<|H a) a x:=by rw[g];exact(Below.refl _ _).alloc (ai _) _
 have m:Hid (Steps x):=by rw[g];exact K.alloc _
 have l:Hid (Bytes x (bE w d (z c) e) c):=by rw[g];exact D.alloc _
 obtain⟨S,F,T⟩:=dI q j s
 clear q g s j K D E
 go_wp2_with fail
 go_region_with(first
  |(go_at_call 210;refine(Kl (G<|H a) bF _ ?_ P<|by omega).mono ?_;exact S.of_heap rfl;rintro O w2⟨rfl,r,i⟩;have B:=Z<|Steps.grown (by exact Steps.of_heap m rfl) i (by simp;omega);have y:=Z<|Bytes.grown (by exact Bytes.of_heap l rfl) i<|.inl (by simp[bY];omega);have A:=Z (Below.grown (by exact Below.of_heap F rfl) i (by simp[ae T])<|by simp);clear r i)
  |(go_at_call 188;refine(sF _ c _ ?_ ?_ (by omega)).mono ?_;(first|exact B.of_heap rfl|exact m.of_heap rfl);(first|exact y.of_heap rfl|exact l.of_heap rfl);rintro O w3⟨rfl,rfl⟩))
 all_goals
  go_wp2;go_ret2
  exact⟨by rfl,by first|exact A.of_heap rfl|exact Below.of_heap F rfl⟩
def SJ(c:cK)(n:R)(h:n<z c):fM (c.drop n)=le 8 c[n].bK++(oh c[n]++fM (c.drop<|n+1)):=by
 unfold fM;rw[bH h,dN];simp[BQ]
def AH(h:w.Good):kG (oh w):=by
 unfold oh;have c:∀s:ab,s.size<=255->kG (eC s):=λs d b a=>by unfold eC at a;rcases aD.1 a with rfl|a;omega;exact kG.text s b a
 intro b a;rcases aD.1 a with rfl|a;unfold pm;split<;>omega;rcases ap.1 a with a|a;exact c _ (by have:=h.Me;omega) b a;exact c _ (by have:=h.val;omega) b a
def Mh(h:∀x∈e,x.Good):kG (fM e):=by
 intro b a;unfold fM at a;obtain⟨x,c,a⟩:=mF.1 a;unfold BQ at a;rcases ap.1 a with a|a;exact kG.le 8 _ b a;exact AH (h x c) b a
def ul(h:w.Good):z (BQ w)<=35:=by
 have a:=h.Me;have b:=h.val;unfold BQ oh eC;simp[cq,ic];omega
def CK{c:cK}(h:∀x∈c,x.Good):z (fM c)<=35*z c:=by
 induction c with
 |nil=>simp[fM]
 |cons x r d=>
  have a:=ul (h x<|by simp);have f:=d (λa b=>h a<|by simp[b]);have e:fM (x::r)=BQ x++fM r:=by simp[fM]
  rw[e,af,aC];omega
structure rq where
 pos:R
 size:R
 count:R
 first:ab
 last:ab
abbrev mU:=cD rq
def rq.value(k:rq):aa:=eB #[aq k.pos,aq k.size,aq k.count,aj k.first,aj k.last]
def rq.cells(k:rq):jd:=[aq k.pos,aq k.size,aq k.count,aj k.first,aj k.last]
structure rq.Of(k:rq)(c:cK):Prop where
 ne:0<z c
 size:k.size=z (fM c)+4
 count:k.count=z c
 first:k.first=(c[0]'ne).key
 last:k.last=(c[z c-1]'(by omega)).key
def Ce(w:I)(b:R)(k:rq):Prop:=w.heap[b]?=M (aw #[aq k.pos,aq k.size,aq k.count,aj k.first,aj k.last] 347 (0,0))
def Ce.cells{k:rq}(h:Ce a b k):aS a (U b 0)=M (aq k.pos)/\aS a (U b 1)=M (aq k.size)/\aS a (U b 2)=M (aq k.count)/\aS a (U b 3)=M (aj k.first)/\aS a (U b 4)=M (aj k.last):=by
 refine⟨?_,?_,?_,?_,?_⟩<;>rw[bL h]<;>rfl
def Ce.ay{w w':I}{b:R}{k:rq}{S:fN}(h:Ce w b k)(c:J S w w')(a:¬S b):Ce w' b k:=(c.block b (am h) a).trans h
def yM(x:E)(t:TypeId)(c:b=G (H a)):∀j u,(aH [x])[j]?=M u->aS (cF a<|aw #[aj x.key,aj x.val,aO x.del,aL x.bK] t) (((U b 0):Addr).add j)=M u:=by
 subst c;exact ww a x t
def Rd.wrote(l:Rd a b o C)(h:eY a f d t)(g:∀k,bY d=M k->b<k):Rd f b o C:=by
 obtain⟨u,e,j,c⟩:=l;refine⟨u,(h.grown.block b (am e) (λi=>by have:=g b i.symm;omega)).trans e,j.grown h.grown ?_,c⟩;cases hu:bY u with
 |none=>exact .inr rfl
 |some k=>
  left;intro i;have m:=c k hu;have n:=g k i.symm;omega
structure VV(w0 w:I)(rb:R)(k:rq)(c:cK)(o:aa)(n:R):Prop where
 own:w.ownsRow (G<|H w0) 164 4 o n (aH<|c.take n)
 rd:Rd w rb (fM<|c.drop n) bF
 box:Ce w (G<|H w0) k
 YW:Below (G<|H w0) w0 w
 TP:G (H w0)<rb
 ne:bY o≠M rb/\bY o≠M (G<|H w0)
 wJ:∀k,bY o=M k->rb<k
def DI(al c l:R)(t:rq)(hT:Steps a)(g:t.Of e)(hg:∀cn∈e,cn.Good)(hs:dS e)(dT:z e<=1000)(bi:t.size<=l)(x:Bytes a (bE al c t.size l) (iJ<|fM e)):cA bG 331 #[bE al c t.size l,t.value] a λO L=>
 ∃v',O=aP (dE #[v',aO bX])/\L.ownsRow (G<|H a) 164 4 v' (z e) (aH e)/\Below (G<|H a) a L:=by
 have dx:=CK hg
 obtain⟨i0,bT,ck,cl,cm⟩:=cL ot
 obtain⟨pos,f,bd,first,b⟩:=t
 have cb:=g.ne
 have u:f=z (fM e)+4:=g.size
 have ca:bd=z e:=g.count
 have bn:=Z<|show first=(e[0]'cb).key from g.first
 have bo:=Z<|show b=(e[z e-1]'(by omega)).key from g.last
 clear g
 subst ca
 simp only at x bi
 unfold rq.value
 simp only
 have bt:Below (G<|H a) a (cF a<|aw #[aq pos,aq f,aq<|z e,aj first,aj b] 347):=(Below.refl _ a).alloc (ai _) _
 have bs:al<G (H a):=x.lt (by unfold iJ;intro h;have:=bW z h;simp[cq]at this) al rfl
 have cj:cA bG 207 #[bE al c f l] (cF a<|aw #[aq pos,aq f,aq<|z e,aj first,aj b] 347) λO L=>
  O=aP (dE #[bE al c (z<|fM e) l,aO bX])/\Below (G<|H<|cF a<|aw #[aq pos,aq f,aq<|z e,aj first,aj b] 347) (cF a<|aw #[aq pos,aq f,aq<|z e,aj first,aj b] 347) L:=by
   rw[u]at x bi|-;exact xz al c l (fM e) (hT.alloc _) bi (by omega)<|x.alloc _
 have ax:Bytes a (bE al c (z<|fM e) l) (fM e):=by
  have d:Bytes a (bE al c (z<|iJ<|fM e) l) (iJ<|fM e):=by rw[u]at x;unfold iJ at*;rw[af,cq];exact x
  have:=d.take (n:=z<|fM e) (by simp[iJ]);unfold iJ at this;rwa[qd]at this
 have ds:∀(cn:Bool)(a:I),(Op.unary .not<|aO cn).run bG a=.ok (aO<|!cn) a:=λ_ _=>rfl
 obtain⟨ad,HG,HS,HB,cp⟩:=jX ax hg hs bt u
 clear x hT ax hg hs bt u
 go_in
 go_wp2_with(first
  |(go_at_call 207;refine cj.mono ?_;rintro O w⟨rfl,bg⟩;have X:Ce w (G<|H a) ⟨pos,f,z e,first,b⟩:=(bg.block _<|by simp).trans<|aE _ rfl;obtain⟨k0,k1,k2,k3,k4⟩:=X.cells;simp only at k0 k1 k2 k3 k4;have m:Below (G<|H a) a w:=HB.trans (bg.mono<|by simp);have dn:=am X;have cc:=nu (ad.below m (by intro t g;cases g;exact bs)) (by intro t g;cases g;exact ag bs m.size);have N:=Z X;have bc:=Z m;clear bg X m)
  |(go_at_call 208;refine cc.mono ?_;rintro O w2⟨rfl,ba,dk⟩;subst dk;have bq:=Z ba;clear ba)
  |(at_make;refine lN _ rfl _ _ 102 rfl (G (H a)) 164 i0 wX 4 underlying102 bT ck cl _ _ _ (z e) rfl rfl (by omega) (by rw[cm];omega) (by unfold maxLen;omega) (by simp;omega) ?_;intro w3 av A;have r:J az w w3:=(cI az w).cw (J.dR (S:=az) A (by simp));have bu:=N.ay r (λe=>e);obtain⟨m0,m1,m2,m3,m4⟩:=bu.cells;simp only at m0 m1 m2 m3 m4;have br:=Z r;clear bu r;have y:=Z av;have ac:=Z A;clear av A))
 have bh:=ae ac
 have dm:=bh.size
 simp at dm
 have dd:G (H<|cF w<|aw #[bE al c (z<|fM e) l,aO bF] 376)=G (H w)+1:=by simp
 have r:=ae br
 have hA0:VV a w3 (G<|H w) ⟨pos,f,z e,first,b⟩ e (bE (G (H w)+1) 0 0<|z e) 0:=by
  have i:=ae y;rw[dd]at i;refine⟨i,?_,N.ay r<|λe=>e,bc.trans<|(r.below (ai _) cN).mono bc.size,by omega,⟨?_,?_⟩,?_⟩
  .exact bq.laid bh
  .simp[bY]
  .have:=am N;simp[bY];omega
  .intro t g;simp[bY]at g;omega
 have bm:=Z hA0
 clear hA0 bh r
 go_loopw [9,35] (λc i wr=>∃o:R,o<=z e/\i=aq o/\VV a wr (G<|H w) ⟨pos,f,z e,first,b⟩ e c o) (λ_ i _=>z e-(intOf i).toNat)
 case atStart=>exact⟨0,bB _,rfl,bm⟩
 case round=>
  obtain⟨o,ea,rfl,k⟩:=hrel;have i:=k.own;obtain⟨ox,F,ho⟩:=aB i;have ec:=k.YW.size;have an:=k.box.cells;simp only at an;obtain⟨q0,q1,q2,q3,q4⟩:=an;have dv:=k.rd.lt;have HA:=Z k;by_cases Q:o<z e
  .have v:=HG e[o]<|ar Q;have q:=k.rd;rw[SJ e o Q]at q;have B:kG (fM<|e.drop<|o+1):=Mh<|λcn b=>HG cn<|dw b;have bk:z (fM<|e.drop<|o+1)<=35*1000:=by
    have P:=CK (c:=e.drop<|o+1)<|λcn b=>HG cn<|dw b;have h2:z (e.drop<|o+1)<=1000:=by simp;omega
    omega
   have C:=AH v;have p:=ul v;have bl:z (oh e[o])<=35:=by unfold BQ at p;rw[af]at p;omega
   have d:=LM q ((kG.le 8 _).append<|C.append B) (by simp only[af,cq];omega);have T:=mY (le 8 e[o].bK)<|oh e[o]++fM (e.drop<|o+1);rw[cq]at T;have au:num (le 8 e[o].bK++(oh e[o]++fM (e.drop<|o+1))) bF 8=e[o].bK:=by unfold num;rw[T];exact CE v.b0 v.b1
   rw[T,au]at d;simp only at d;have n:=λW(a:Rd W (G<|H w) (oh e[o]++fM (e.drop<|o+1)) bF)=>GC (G<|H w) (fM<|e.drop<|o+1) W a (C.append B) (by simp only[af];omega) v;have cB:Hid (aH (e.take o)++aH [e[o]]=aH (e.take<|o+1)):=by rw[<-fT,ak Q];exact Z rfl
   clear k i q B bk C p bl T au v;generalize e[o]=cn at*;obtain⟨xk,xv,xd,xb⟩:=cn;simp only at d n;unfold E.value at n;simp only at n;subst ho;go_wp2_with(first
    |(go_at_call 209;refine d.mono ?_;rintro O w4⟨rfl,cd,bv⟩;have cu:=Z cd;have co:=Z bv;clear cd bv)
    |(go_at_call 216;refine(n w4 cu).mono ?_;rintro O K⟨rfl,ce,bx⟩;have s:J (λt=>t=G (H w)) wr K:=(fy co).trans (fy bx)<|λt g=>.inl g;have D:=aU (aU (s.own HA.own<|λt g e=>HA.ne.1 (by rw[<-e];exact g))<|.cells #[.string xk,.string xv,.bool xd,.int .u64 xb] 164)<|.cells #[.string xk,.string xv,.bool xd,.int .u64 xb] 164;have eb:=s.size;have bp:=Z D;have cx:=Z s;have cv:=Z ce;clear ce bx D s)
    |(at_builtin;refine bV _ rfl (.tmp 48) (.tmp 50) 102 rfl (G (H a)) 164 i0 wX 4 48 underlying102 bT ck cl cm rfl (by decide) (.slice ox o F) o (aH (e.take o)) rfl bp (U (G (H K)+1) 0) 1 1 (aH [⟨xk,xv,xd,xb⟩]) rfl rfl (yM ⟨xk,xv,xd,xb⟩ _ (by simp)) (BA _) (by omega) (by omega) (by simp;omega) ?_;intro o2 w6 j bb;have cs:=Z j;have cE:=Z bb;clear j bb))
   go_roundw;case rel=>
    refine⟨o+1,Q,by go_num,?_⟩;have k:=ae HA;have s:=ae cx;have V:=ae cE;have j:=ae cs;have cT:=k.own.lt;have ch:J (λt=>bY (ah ox o F)=M t) K w6:=(((J.refl (λt=>bY (ah ox o F)=M t) K).alloc _).alloc _).trans (J.dR (S:=λt=>bY (ah ox o F)=M t) V.grown<|λt g=>.inl g)<|λt g=>.inl g;have ao:∀t,t<G (H K)->bY (ah ox o F)≠M t->bY o2≠M t:=by
     intro t g hn O;rcases V.uq with cM|⟨bf,cM,hg⟩
     .exact hn<|cM.symm.trans O
     .rw[cM]at O;cases O;simp at hg;omega
    refine⟨?_,?_,?_,?_,k.TP,⟨ao _ (by omega) k.ne.1,ao _ (by omega) k.ne.2⟩,?_⟩
    .rw[<-ae cB];exact j
    .have hr:=ae cv;have db:=hr.laid<|dA K (aw #[aj xk,aj xv,aO xd,aL xb] 164) none;have dc:=db.laid<|dA _ (aw #[aj xk,aj xv,aO xd,aL xb] 164) none;exact dc.wrote V k.wJ
    .exact(k.box.ay s (λe=>by have:=k.TP;omega)).ay ch<|λe=>k.ne.2 e
    .refine(k.YW.trans<|s.below k.YW.size (λt g=>by have:=k.TP;omega)).trans<|ch.below (by omega)<|λt g=>(cT t g).1
    .intro t g;rcases V.uq with cM|⟨bf,cM,hg⟩
     .exact k.wJ t<|cM.symm.trans g
     .rw[cM]at g;cases g;simp at hg;omega
   case measure=>simp[intOf];omega
  .have cs:o=z e:=by omega
   subst cs;have q:=k.rd;rw[gx]at q;have co:∀W,W.heap=wr.heap->cA bG 212 #[aA<|G<|H w] W λO L=>O=aP (aO bX)/\L=W:=by
    intro W C;have:=xZ (q.of_heap C) (by simp[fM]);simpa[fM]using this
   have hE:ku wr (ah ox (z e) F) e:=by
    have P:=dr i;rw[ho,bP]at P;exact P
   have T:∀al,bY (ah ox (z e) F)=M al->al<G (H wr):=λal x=>by rw[<-ho]at x;exact(i.lt al x).2
   have p:∀W,W.heap=wr.heap->cA bG 317 #[ah ox (z e) F] W λO L=>O=aP (aO bX)/\Below (G<|H W) W L:=by
    intro W C;refine Nz (ah ox (z e) F) W ?_ HS (by omega) (λal x=>by rw[C];exact T al x);obtain⟨P,⟨h2,h0⟩|⟨bf,bx,ao,h2,bv,ch⟩⟩:=hE
    .exact⟨P,.inl ⟨h2,h0⟩⟩
    .exact⟨P,.inr ⟨bf,bx,ao,h2,bv,λj u b=>(cP (w:=wr)<|by rw[C]).trans<|ch j u b⟩⟩
   obtain⟨ce,⟨au,cE⟩|⟨bf,d,cx,au,bp,D⟩⟩:=hE
   .omega
   have bb:=(eG e 0 cb).1;have bk:=(eG e (z e-1)<|by omega).1;have f0:aS wr (U bf<|d+0*4)=M (aj e[0].key):=D _ _ bb;have fL:aS wr (U bf<|d+(z e-1)*4)=M (aj e[z e-1].key):=D _ _ bk;rw[<-ae bn]at f0;rw[<-ae bo]at fL;cases au;subst ho;clear k i q ce bp D bb bk;rw[zX,ju]at f0;have n:Below (G<|H a) a wr:=HA.YW;have B:∀W,Below (G<|H wr) wr W->∃v',Ending.returned (dE #[bE bf d (z e) F,aO bX])=aP (dE #[v',aO bX])/\W.ownsRow (G<|H a) 164 4 v' (z e) (aH e)/\Below (G<|H a) a W:=by
    intro W C;have k:=ae HA;have P:=k.own;rw[bP]at P;refine⟨_,rfl,?_,n.trans<|C.mono n.size⟩;exact(J.aV (S:=az) C).own P<|λ_ _ e=>e
   have V:=Z B;have bl:=T bf rfl;have v:G (H a)<G (H wr):=am HA.box;clear B n cp bn bo N bc ad bq y ac br bm HA HG HS HB cj cc T;obtain⟨s,hp⟩:∃s,z e-1=s:=⟨_,rfl⟩;have e1:(z e:Y)-1=(s:Y):=by omega
   have e2:(s:Y)<(z e:Y):=by omega
   have e3:(0:Y)<=(s:Y):=by omega
   have e4:s<z e:=by omega
   have e5:¬((z e:Y)<(z e:Y)):=by omega
   have e6:s<=1000:=by omega
   have e9:IntKind.i64.wrap (s:Y)=(s:Y):=by rw[bQ];omega
   have cB:wrap64 (s:Y)=(s:Y):=by unfold wrap64;omega
   rw[hp]at fL;have cu:∀W,W.heap=wr.heap->cA bG 317 #[bE bf d (z e) F] W λO L=>O=aP (aO bX)/\Below (G<|H W) W L:=p;clear p hp;go_wp2_with fail
   go_region_held3(λc=>aS c (U bf d)=M (aj first)/\aS c (U bf<|d+s*4)=M (aj b)/\aS c (U (G<|H a) 3)=M (aj first)/\aS c (U (G<|H a) 4)=M (aj b)) (first|assumption|go_keep) (first
    |(go_at_call 212;refine(co wr.drew rfl).mono ?_;rintro O w4⟨rfl,cv⟩;subst cv)
    |(go_at_call 317;refine(cu wr.drew rfl).mono ?_;rintro O K⟨rfl,j⟩;have a0:aS K (U bf d)=M (.string first):=(j.cell (p:=(U bf d)) bl).trans f0;have a1:aS K (U bf (d+s*4))=M (.string b):=(j.cell (p:=(U bf (d+s*4))) bl).trans fL;have a2:aS K (U (G (H a)) 3)=M (.string first):=(j.cell (p:=(U (G (H a)) 3)) v).trans q3;have a3:aS K (U (G (H a)) 4)=M (.string b):=(j.cell (p:=(U (G (H a)) 4)) v).trans q4;have cd:=Z j;clear j))
   go_wp2;go_ret2
   have j:=ae cd;exact V _ ⟨j.os,j.tape,j.output,j.size,j.block⟩
variable{A:mU}
def eD(l:mU):jd:=l.flatMap rq.cells
def BX(l:mU):z (eD l)=z l*5:=by
 induction l with
 |nil=>rfl
 |cons e r a=>unfold eD at*;rw[dN,af,a];simp[rq.cells];omega
def iD(l:mU)(n j:R)(h:n<z l)(c:j<5):(eD l)[n*5+j]?=(rq.cells l[n])[j]?:=by
 have e:eD l=eD (l.take n)++(rq.cells l[n]++eD (l.drop<|n+1)):=by(have a:l=l.take n++l[n]::l.drop (n+1):=by rw[<-bH h,ci]);(conv=>lhs;rw[a]);simp only[eD,gh,dN]
 have b:z (eD<|l.take n)=n*5:=by rw[BX];simp;omega
 rw[e,dJ (by omega),b,show n*5+j-n*5=j by omega,gm (by simp[rq.cells];omega)]
structure mh(w:I)(tb:R)(dv:aa)(number cut isize sum:Y)(bb boff wU:R)(dav:aa)(ks:mU):Prop where
 box:w.heap[tb]?=M (aw #[dv,aL number,dz cut,dz isize,dz sum,bE bb boff (z ks) wU,dav] 293 (0,0))
 cells:∀j u,(eD ks)[j]?=M u->aS w (U bb<|boff+j)=M u
 ne:0<z ks
 le:z ks<=wU
 small:z ks<=1000000000
def St{e cut i j:Y}(h:mh a b d e cut i j c g l t A):cA bG 175 #[aA b] a λn m=>n=aP (aj (A[0]'h.ne).first)/\m=a:=by
 have k:=cellAt h.box 5 rfl;have f:=h.ne;have o:aS a (U c<|g+3)=M (aj (A[0]'f).first):=h.cells _ _ (iD A 0 3 f<|by decide);have p:(0:Y)<(z A:Y):=by omega
 generalize(A[0]'f).first=s at*;clear h;go_in
 go_wp2;go_ret;exact⟨rfl,rfl⟩
def UK{e cut f i:Y}(h:mh a b d e cut f i c g l t A):cA bG 176 #[aA b] a λr o=>r=aP (aj (A[z A-1]'(by have:=h.ne;omega)).last)/\∃q,o=a.drewN q:=by
 have k:=cellAt h.box 5 rfl;have m:=h.ne;have n:=h.small;obtain⟨p,j⟩:∃p,z A-1=p:=⟨_,rfl⟩;have x:aS a (U c<|g+p*5+4)=M (aj (A[z A-1]'(by omega)).last):=by subst j;rw[aY];exact h.cells _ _<|iD A (z A-1) 4 (by omega)<|by decide
 have s:(z A:Y)-1=(p:Y):=by omega
 have u:(p:Y)<(z A:Y):=by omega
 have v:(0:Y)<=(p:Y):=by omega
 have w:p<z A:=by omega
 generalize(A[z A-1]'(by omega)).last=y at*;clear h j;go_in
 go_wp2;go_quiet(fail)
 go_wp2;go_ret;exact⟨rfl,nq,rfl⟩
def Oi(m:R){bk:R}{e cut f k:Y}(i:ab)(h:mh a b d e cut f k c g l t A)(o:er a m (aA b) 224)(n:er a bk (aj i) 9)(j:R)(s:j<z A):cA bG 329 #[aq j,aA m,aA bk] a λv u=>v=aP (aO<|!im A[j].last i)/\∃q,u=a.drewN q:=by
 have p:=cellAt h.box 5 rfl;have y:aS a (U c<|g+j*5+4)=M (aj A[j].last):=by rw[aY];exact h.cells _ _<|iD A j 4 s<|by decide
 have c1:=o.cell;have c2:=n.cell;have r:=JC;have w:(j:Y)<(z A:Y):=by omega
 have x:(0:Y)<=(j:Y):=by omega
 unfold im;generalize A[j].last=B at*;clear h o n;go_in
 go_wp2;go_quiet(fail)
 go_wp2;go_ret;exact⟨rfl,nq,rfl⟩
def mh.below{e cut h i:Y}{B:R}(j:mh a b d e cut h i c g l t A)(k:Below B a f)(m:b<B)(n:c<B):mh f b d e cut h i c g l t A:=⟨(k.block b m).trans j.box,λq u o=>(k.cell (p:=(U c<|g+q)) n).trans<|j.cells q u o,j.ne,j.le,j.small⟩
def mh.lt{e cut h i:Y}(j:mh a c d e cut h i g l y t A):c<G (H a)/\g<G (H a):=⟨am j.box,dj a (U g<|l+(0*5+0))<|j.cells _ _<|iD A 0 0 j.ne<|by decide⟩
def Ap{i cut n E:Y}(e:ab)(h:mh a b t i cut n E c g l L A)(S:A.Pairwise (λT V=>im T.last V.last=bX)):cA bG 325 #[aA b,aj e] a λad w'=>∃F:R,ad=aP (aq F)/\F<=z A/\(∀j(f:j<z A),j<F->im A[j].last e=bX)/\(∀j(f:j<z A),F<=j->im A[j].last e=bF)/\Below (G<|H a) a w':=by
 have r:=h.lt;have B:Below (G<|H a) a (cF (cF a<|aw #[aA b] 224)<|aw #[aj e] 9):=((Below.refl _ a).alloc (ai _) _).alloc (by simp) _;have u:=h.below B r.1 r.2;have al:=cellAt u.box 5 rfl
 have s:=zw #[aA<|G<|H a,aA<|G (H a)+1] (z A) (λj=>if f:j<z A then !im A[j].last e else bX) (cF (cF a<|aw #[aA b] 224)<|aw #[aj e] 9) (enters_of func329 (by kernel_rfl) rfl) (by have:=h.small;omega) (by
  intro T V y p v;have o:T<z A:=by omega
  simp only[p,o,oU]at v|-;rcases lu y with ac|ac
  .have k:=cG.1 S T V o p ac;cases d:im A[V].last e with
   |false=>rfl
   |true=>have:=lP k d;rw[this]at v;cases v
  .subst ac;exact v)
  (by
   intro j f ao k;have x:=u.below k (by simp;omega) (by simp;omega);have C:er ao (G (H a)) (aA b) 224:=(k.block _ (by simp;omega)).trans (er.alloc (aE _ rfl) _);have D:er ao (G (H a)+1) (aj e) 9:=(k.block _ (by simp)).trans (aE _ (by simp));apply(Oi (G (H a)) e x C D j f).mono;rintro ad W'⟨rfl,q,rfl⟩;simp only[f,oU];exact⟨trivial,below_drewN (Below.refl _ _) _⟩)
 have w:=Z s;have K:=Z B;have an:=u.lt.1;clear s u B h S;go_in
 go_wp2_with(go_at_call 224;refine w.mono ?_;rintro ad w1⟨F,rfl,N,O,P,Q⟩;have W:=Z N;have X:=Z O;have H3:=Z P;have H4:=Z Q;clear N O P Q)
 go_ret;refine⟨F,rfl,W,λj f m=>?_,λj f m=>?_,K.trans<|H4.mono K.size⟩;have:=X j m;simp only[f,oU]at this;simpa using this;have:=H3 j m f;simp only[f,oU]at this;simpa using this
structure nZ(V:jr)(n0 tb:R)(ks:mU)(cs:dX)(w:I):Prop where
 mem:∃dv number cut isize sum bb boff wU dav,mh w tb dv number cut isize sum bb boff wU dav ks/\(tb<n0/\¬V.F tb)/\(bb<n0/\¬V.F bb)
 len:z ks=z cs
 Ew:∀i(hi:i<z ks)(hc:i<z cs),ks[i].Of cs[i]
 jb:∀c∈cs,∀x∈c,x.Good
 mr:dS cs.flatten
 Dh:cs.Pairwise gZ
 small:∀c∈cs,z c<=1000
 bytes:∀i(hi:i<z ks)(hc:i<z cs)W,jL V n0 az w W->V.D W->cA bG 330 #[aA tb,ks[i].value] W λe W'=>
  ∃b off cap,e=aP (dE #[bE b off ks[i].size cap,.nilIface])/\ks[i].size<=cap/\Bytes W' (bE b off ks[i].size cap) (iJ<|fM cs[i])/\V.D W'/\J V.F W W'
 steps:Steps w
 Ae:1<n0/\¬V.F 1
def mh.same{V:jr}{n0:R}{S:fN}{e cut h i:Y}(j:mh a b d e cut h i c g l t A)(k:jL V n0 S a f)(m:b<n0/\¬V.F b)(n:c<n0/\¬V.F c):mh f b d e cut h i c g l t A:=⟨(k.2 b<|.inl m).trans j.box,λp u o=>k.cell (.inr n)<|j.cells p u o,j.ne,j.le,j.small⟩
def Steps.same{V:jr}{n0:R}{S:fN}(h:Steps a)(d:jL V n0 S a f)(b:1<n0/\¬V.F 1):Steps f:=λk c=>d.cell (.inr b)<|h k c
def nZ.same{V:jr}{n0 d:R}(h:nZ V n0 d A k a)(j:jL V n0 az a f):nZ V n0 d A k f:=by
 obtain⟨p,c,cut,e,l,o,g,b,i,u,m,n⟩:=h.mem;exact⟨⟨p,c,cut,e,l,o,g,b,i,u.same j m n,m,n⟩,h.len,h.Ew,h.jb,h.mr,h.Dh,h.small,λv t s W r q=>h.bytes v t s W (j.trans r) q,h.steps.same j h.Ae,h.Ae⟩
def Lh(h:nZ u b c A k a)(hD:u.D a)(hn:b<=G (H a))(hF:∀ac,u.F ac->ac<b)(o:R)(E:o<z A)(hc:o<z k):cA bG 326 #[aA c,aq o] a λbg L=>∃K,bg=aP (dE #[K,.nilIface])/\L.ownsRow (G<|H a) 164 4 K (z k[o]) (aH k[o])/\u.D L/\J u.F a L:=by
 obtain⟨dv,ad,cut,bd,bo,N,i,X,bk,B,bn,bl⟩:=h.mem;have bm:=cellAt B.box 5 rfl;have g0:aS a (U N<|i+o*5)=M (aq A[o].pos):=B.cells _ _ (iD A o 0 E<|by decide);have g1:aS a (U N<|i+o*5+1)=M (aq A[o].size):=by rw[aY];exact B.cells _ _<|iD A o 1 E<|by decide
 have g2:aS a (U N<|i+o*5+2)=M (aq A[o].count):=by rw[aY];exact B.cells _ _<|iD A o 2 E<|by decide
 have g3:aS a (U N<|i+o*5+3)=M (aj A[o].first):=by rw[aY];exact B.cells _ _<|iD A o 3 E<|by decide
 have g4:aS a (U N<|i+o*5+4)=M (aj A[o].last):=by rw[aY];exact B.cells _ _<|iD A o 4 E<|by decide
 have e2:(o:Y)<(z A:Y):=by omega
 have e3:(0:Y)<=(o:Y):=by omega
 have m:=ar hc;have D:=h.Ew o E hc;have r:=h.jb _ m;have n:=h.small _ m;have C:dS k[o]:=h.mr.sub<|cW m;have q:=h.bytes o E hc;have v:=h.steps;have t:=h.Ae;have bi:∀(x:Bool)(a:I),(Op.unary .not<|aO x).run bG a=.ok (aO<|!x) a:=λ_ _=>rfl;have P:∀ac,b<=ac->¬u.F ac:=λac hk a=>by have:=hF ac a;omega
 obtain⟨pos,d,e,first,g,bb⟩:∃pos d e first g,A[o]=⟨pos,d,e,first,g⟩:=⟨_,_,_,_,_,rfl⟩
 rw[bb]at g0 g1 g2 g3 g4 D q;simp only at g0 g1 g2 g3 g4;unfold rq.value at q;simp only at q;have w:J az a (cF a<|aw #[aq pos,aq d,aq e,aj first,aj g] 347):=(cI _ _);have ba:=q _ (w.same hn cN cN)<|u.fq hD w cN;have bh:=(B.lt).2;have HX:=Z (show∀p bf f j,J u.F (cF a<|aw #[aq pos,aq d,aq e,aj first,aj g] 347) p->d<=j->Bytes p (bE bf f d j) (iJ<|fM k[o])->cA bG 331 #[bE bf f d j,eB #[aq pos,aq d,aq e,aj first,aj g]] p λbg L=>∃K,bg=aP (dE #[K,aO bX])/\L.ownsRow (G<|H p) 164 4 K (z k[o]) (aH k[o])/\Below (G<|H p) p L from by intro p bf f j ht y hB;have Q:Steps p:=(v.same (S:=az) (w.same (V:=u) hn cN cN) t).same (S:=az) (ht.same (V:=u) (by simp;omega) cN<|λac hk _=>hk) t;exact DI bf f j ⟨pos,d,e,first,g⟩ Q D r C n y hB);have av:=Z P;clear B D r n C q v t m h hD hF P;go_in
 go_wp2_with(first
  |(go_at_call 330;refine ba.mono ?_;rintro bg p⟨bf,f,j,rfl,y,hB,O,l⟩;have bc:=HX p bf f j l y hB;have W:Ce p (G<|H a) ⟨pos,d,e,first,g⟩:=Ce.ay (aE _ rfl) l<|av _ hn;obtain⟨k0,k1,k2,k3,k4⟩:=W.cells;simp only at k0 k1 k2 k3 k4;have an:=Z O;have au:=Z l;clear y hB O l W)
  |(go_at_call 331;refine bc.mono ?_;rintro bg w3⟨K,rfl,s,x⟩;have ao:=Z s;have al:=Z x;clear s x))
 go_ret2
 have l:=ae au;have x:=ae al;have hz:=l.size;simp at hz;have V:J az p w3:=J.aV x;refine⟨K,rfl,?_,u.fq an V cN,((w.mono (T:=u.F) cN).trans l<|λac hk=>.inl hk).cw V⟩;obtain⟨h1,⟨h2,h0⟩|⟨bp,cp,ax,h2,hb,F⟩⟩:=ae ao;exact⟨h1,.inl ⟨h2,h0⟩⟩;exact⟨h1,.inr ⟨bp,cp,ax,h2,by omega,F⟩⟩
def nZ.AD(h:nZ u b c A k a):A.Pairwise (λo p=>im o.last p.last=bX):=by
 refine cG.2<|λm n j l f=>?_;have d:m<z k:=by have:=h.len;omega
 have e:n<z k:=by have:=h.len;omega
 have g:=h.Ew m j d;have i:=h.Ew n l e;rw[g.last,i.last];have:=cG.1 h.Dh m n d e f;have q:=g.ne;have r:=i.ne;exact this _ (ar<|by omega) _<|ar<|by omega
def nZ.BK(q:nZ u b c A k a)(e:ab)(j:R)(s:∀i(m:i<z A),i<j->im A[i].last e=bX):((k.drop j).map<|fX e).flatten=fX e k.flatten:=by
 have n:k.flatten=(k.take j).flatten++(k.drop j).flatten:=by rw[<-dQ,ci]
 have o:fX e (k.take j).flatten=[]:=by unfold fX;rw[gU];intro y v;obtain⟨x,t,h⟩:=bC.1 v;obtain⟨i,m,rfl⟩:=dY t;rw[gB]at h;(have d:i<j/\i<z k:=by simp at m;omega);(have f:i<z A:=by have:=q.len;omega);have w:=q.Ew i f d.2;have g:dS k[i]:=q.mr.sub<|cW<|ar d.2;have l:=s i f d.1;rw[w.last]at l;have r:=g.Dm w.ne h;rw[xP r l];simp
 have p:∀l:dX,(l.map<|fX e).flatten=fX e l.flatten:=by
  intro l;induction l with
  |nil=>rfl
  |cons f r d=>simp only[aZ,aX,d];unfold fX;rw[je]
 rw[p,n];unfold fX at*;rw[je,o,cJ]
def FO(bt:R)(i:R)(F:ab)(h:nZ u b c A k a)(ht:er a bt (aA c) 224)(hg:er a g (aq i) 3)(D:er a l (aj F) 9)(hn:b<=l)(hD:u.D a)(ac:b<=G (H a))(hF:∀i,u.F i->i<b)(q:R)(hi:i+q<z A)(hc:i+q<z k):cA bG 328 #[aq q,aA bt,aA g,aA l] a λao w'=>∃v' S',ao=aP (dE #[v',.nilIface])/\jm u b v' (fX F k[i+q]) S' w'/\u.D w'/\J u.F a w'/\(∀i,S' i->G (H a)<=i):=by
 have c1:=ht.cell;have c2:=hg.cell;have c3:=D.cell;have x:=Lh h hD ac hF (i+q) hi hc;have e:=ar hc;have o:dS k[i+q]:=h.mr.sub<|cW e;have X:=h.small _ e;have n:i+q<1000000000:=by obtain⟨_,_,_,_,_,_,_,_,_,E,_⟩:=h.mem;have:=E.small;omega
 have S:=am D;have W:¬u.F l:=λT=>by have:=hF l T;omega
 obtain⟨HL,HS,r,HF⟩:=gD D o (show∀x∈k[i+q],x.bK<18446744073709551616 fromλx b=>(h.jb _ e x b).b1) hF;clear ht hg D h hD e hF o hi;have B:IntKind.i64.wrap ((i:Y)+(q:Y))=((i+q:R):Y):=by rw[bQ];omega
 have p:wrap64 ((i:Y)+(q:Y))=((i+q:R):Y):=by unfold wrap64;omega
 obtain⟨an,E⟩:∃an,i+q=an:=⟨_,rfl⟩;simp only[E]at x X HS r B p n|-;have ad:(i:Y)+(q:Y)=(an:Y):=by omega
 generalize k[an]=ax at*;clear E B p;go_in
 go_wp2_with(first
  |(go_at_call 326;refine x.mono ?_;rintro ao w1⟨v1,rfl,d,s,f⟩;have au:aS w1 (U l 0)=M (.string F):=f.cell c3 W S;have t:ku w1 v1 ax:=dr d;have m:=d.lt;have al:=f.size;have V:=Mq u b F t HS r (by omega) (λi C=>⟨λT=>by have:=HF i T;have:=(m i C).1;omega,(m i C).2⟩) (by omega) HF;have L:=Z s;have Q:=Z f;have O:=Z m;clear d s f t m)
  |(go_at_call 316;refine V.mono ?_;rintro ao w2⟨v2,S2,rfl,w,j,v⟩;have N:=Z w;have K:=Z j;have P:=Z v;clear w j v))
 go_ret2
 have j:=ae K;have f:=ae Q;have y:J az w1 w2:=J.aV j;refine⟨v2,S2,rfl,N,u.fq L y cN,f.cw y,λk' C=>?_⟩;rcases P k' C with av|av;exact(O k' av.1).1;omega
def Tz(V:jr)(c a d j k n:R)(r:mU)(l:dX)(o:ab)(q:z r=z l):AY V c ((l.drop n).map<|fX o)where
 f:=328
 cb:=#[aA d,aA j,aA k]
 inv:=λW=>nZ V c a r l W/\(er W d (aA a) 224/\er W j (aq n) 3/\er W k (aj o) 9)/\(c<=d/\c<=j/\c<=k)/\c<=G (H W)/\∀n,V.F n->n<c
 S:=λx=>x=d\/x=j\/x=k
 Tj:=enters_of func328 (by kernel_rfl) rfl
 call:=by
  rintro u t W⟨m,⟨e,g,h⟩,⟨_,_,p⟩,b,hF⟩s;have i:n+u<z l:=by simp at t;omega
  have:=FO d n o m e g h p s b hF u (by omega) i;simpa using this
 fq:=by
  rintro W t⟨m,⟨e,g,h⟩,s,b,hF⟩i;exact⟨m.same<|i.mono cN,⟨e.same i<|.inl rfl,g.same i<|.inr<|.inl rfl,h.same i<|.inr<|.inr rfl⟩,s,aF b i.1,hF⟩
 lt:=by
  rintro W⟨_,⟨e,g,h⟩,⟨i,s,p⟩,_⟩x(rfl|rfl|rfl)
  .exact⟨i,am e⟩
  .exact⟨s,am g⟩
  .exact⟨p,am h⟩
def Cm{n0 tbqq:R}{ks:mU}{cs:dX}(f:ab)(h:nZ u n0 tbqq ks cs a)(hD:u.D a)(n:n0<=G (H a))(hF:∀k,u.F k->k<n0):cA bG 324 #[aA tbqq,aj f] a λad j=>∃w s,ad=aP w/\jm u n0 w (fX f cs.flatten) s j/\u.D j/\J u.F a j/\(∀k,s k->G (H a)<=k):=by
 have l:Below (G<|H a) a (cF (cF a<|aw #[aA tbqq] 224)<|aw #[aj f] 9):=((Below.refl _ a).alloc (ai _) _).alloc (by simp) _;obtain⟨dv,D,cut,X,bc,K,g,d,an,B,ax,ao⟩:=h.mem;have e:=B.lt;have Q:=Ap f (B.below l e.1 e.2) h.AD;have r:=h.len;have av:=B.small
 have HX:=Z (show∀(c:I)(k:R),Below (G<|H<|cF (cF a<|aw #[aA tbqq] 224)<|aw #[aj f] 9) (cF (cF a<|aw #[aA tbqq] 224)<|aw #[aj f] 9) c->k<=z ks->(∀d(e:d<z ks),d<k->im ks[d].last f=bX)->∀W,W.heap=(cF c<|aw #[aq k] 3).heap->J az (cF c<|aw #[aq k] 3) W->cA bG 322 #[aq ((z ks-k:R):Y),.func (.func 328) #[] #[aA<|G<|H a,aA<|G<|H c,aA<|G (H a)+1]] W λad j=>∃w s,ad=aP w/\jm u n0 w (fX f cs.flatten) s j/\u.D j/\J u.F a j/\(∀k,s k->G (H a)<=k)/\Below (G<|H W) W j from by
  intro c k b hk P W t N;have v:=b.size;simp at v;have i:J az a W:=(((J.aV (S:=az) l).cw<|J.aV (S:=az) b).alloc _).cw N;have T:er c (G<|H a) (aA tbqq) 224:=(b.block _ (by simp;omega)).trans<|er.alloc (aE _ rfl) _;have V:er c (G (H a)+1) (aj f) 9:=(b.block _<|by simp).trans (aE _<|by simp);have y1:er W (G<|H a) (aA tbqq) 224:=by rw[er,t];exact T.alloc _
  have y2:er W (G (H a)+1) (aj f) 9:=by rw[er,t];exact V.alloc _
  have y3:er W (G<|H c) (aq k) 3:=by rw[er,t];exact aE _ rfl
  have L:nZ u n0 tbqq ks cs W:=h.same<|i.same n cN cN;have y:=Ij (Tz u n0 tbqq (G<|H a) (G<|H c) (G (H a)+1) k ks cs f r) W ⟨L,⟨y1,y3,y2⟩,⟨n,by omega,by omega⟩,aF n i.size,hF⟩ (aF n i.size) hF (by simp;omega);have hl:z ((cs.drop k).map<|fX f)=z ks-k:=by simp;omega
  rw[hl]at y;apply y.mono;rintro ad j⟨w,s,rfl,hg,hb,hS⟩;rw[h.BK f k P]at hg;have C:J az W j:=J.aV hb;have o:=i.cw C;refine⟨w,s,rfl,hg,u.fq hD o cN,o.mono cN,λbd hx=>?_,hb⟩;have bb:=i.size;rcases hS bd hx with(al|al|al)|al
  .omega
  .omega
  .omega
  .omega)
 have m:∀W,Below (G<|H a) a W->aS W (U tbqq 5)=M (bE K g (z ks) d):=λW b=>by rw[bL (B.below b e.1 e.2).box];rfl
 have F:=Z m;have HB:=Z l;have ba:=e.1;clear h B hD hF m l e r;go_in
 go_wp2_with(go_at_call 325;refine Q.mono ?_;rintro ad c⟨k,rfl,hk,A,O,b⟩;have q:Below (G<|H a) a c:=HB.trans<|b.mono HB.size;have m:=F c q;have v:=b.size;have x1:aS c (U (G<|H a) 0)=M (aA tbqq):=er.cell<|(b.block _ (by simp;omega)).trans<|er.alloc (aE _ rfl) _;have x:=Z<|HX c k b hk A;clear A O b q)
 simp at v;have q1:G (H a)<G (H c):=by omega
 have q2:tbqq<G (H c):=by omega
 obtain⟨ac,hd⟩:∃ac,z ks-k=ac:=⟨_,rfl⟩;rw[hd]at x;have q3:(z ks:Y)-(k:Y)=(ac:Y):=by omega
 have q4:ac<=1000000000:=by omega
 have q6:IntKind.i64.wrap (ac:Y)=(ac:Y):=by rw[bQ];omega
 clear hd
 go_region_held3(λb=>aS b (U (G<|H a) 0)=M (aA tbqq)/\aS b (U tbqq 5)=M (bE K g (z ks) d)/\aS b (U (G<|H c) 0)=M (aq k)) (first|assumption|go_keep) (first
  |(go_at_call 322;refine(x ((cF c (.cells #[.int .i64 k] 3)).drew) rfl ⟨rfl,rfl,rfl,ai _,λ_ _ _=>rfl⟩).mono ?_;rintro ad w2⟨v2,S2,rfl,r1,r2,r3,r4,E⟩;have R1:=Z r1;have R2:=Z r2;have R3:=Z r3;have R4:=Z r4;have au:aS w2 (U (G (H a)) 0)=M (aA tbqq)/\aS w2 (U tbqq 5)=M (bE K g (z ks) d)/\aS w2 (U (G (H c)) 0)=M (.int .i64 k):=⟨(E.cell (p:=(U (G (H a)) 0)) (by simp;omega)).trans (by rw[bD,pY _ _ _ q1];exact x1),(E.cell (p:=(U tbqq 5)) (by simp;omega)).trans (by rw[bD,pY _ _ _ q2];exact m),(E.cell (p:=(U (G (H c)) 0)) (by simp)).trans (by simp)⟩;clear r1 r2 r3 r4 E))
 go_wp2;go_ret;exact⟨v2,S2,rfl,R1,R2,R3,R4⟩
structure zS(ks:mU)(key:ab)(k:R):Prop where
 le:k<=z ks
 low:∀i(hi:i<z ks),i<k->im ks[i].last key=bX
 vt:∀i(hi:i<z ks),k<=i->im ks[i].last key=bF
def QJ(n:A.Pairwise (λm g=>im m.last g.last=bX))(b:ab):∃l,zS A b l:=by
 induction A with
 |nil=>exact⟨0,ai _,λi a=>by simp at a,λi a=>by simp at a⟩
 |cons g r k=>
  obtain⟨h,j⟩:=bA.1 n;cases c:im g.last b with
  |true=>
   obtain⟨l,f⟩:=k j;refine⟨l+1,by have:=f.le;simp;omega,λi a e=>?_,λi a e=>?_⟩
   .cases i with
    |zero=>exact c
    |succ i=>exact f.low i (by simpa using a)<|by omega
   .cases i with
    |zero=>omega
    |succ i=>exact f.vt i (by simpa using a)<|by omega
  |false=>
   refine⟨0,bB _,λi a e=>by omega,λi a _=>?_⟩;cases i with
   |zero=>exact c
   |succ i=>
    have f:i<z r:=by simpa using a
    have:=h r[i]<|ar f;show im r[i].last b=bF;cases d:im r[i].last b with
    |false=>rfl
    |true=>have:=lP this d;rw[c]at this;cases this
def zS.eq(h:zS A v b)(a:zS A v c):b=c:=by
 rcases kH b c with e|e|e;have f:=a.low b (by have:=a.le;omega) e;have d:=h.vt b (by have:=a.le;omega)<|ai _;rw[f]at d;cases d;exact e;have f:=h.low c (by have:=h.le;omega) e;have d:=a.vt c (by have:=h.le;omega)<|ai _;rw[f]at d;cases d
def nZ.AN(q:nZ u b c A k a)(s:zS A v g)(x:E)(w:x∈k.flatten)(i:x.key=v):∃j:g<z k,x∈k[g]:=by
 obtain⟨C,j,d⟩:=bC.1 w;obtain⟨o,l,rfl⟩:=dY j;have e:o<z A:=by have:=q.len;omega
 have y:=q.Ew o e l;have n:dS k[o]:=q.mr.sub<|cW j;have m:=n.Dm y.ne d;rcases kH o g with p|p|p;have:=s.low o e p;rw[y.last]at this;have:=xP m this;rw[i,fD]at this;cases this;subst p;exact⟨l,d⟩;(have h:g<z A:=by omega);(have f:g<z k:=by omega);have t:=q.Ew g h f;have r:=s.vt g h<|ai _;rw[t.last]at r;have B:=t.ne;have:=cG.1 q.Dh g o f l p _ (ar<|show z k[g]-1<z k[g]by omega) x d;rw[i,r]at this;cases this
def nZ.yK(l:nZ u b c A k a)(m:zS A v g)(n:∀(r:g<z A),im v A[g].first=bX)(q:Y):iH q k.flatten v=none:=by
 refine rC<|λx o e=>?_;obtain⟨i,h⟩:=l.AN m x o e;have d:g<z A:=by have:=l.len;omega
 have p:=l.Ew g d i;have j:=n d;have f:dS k[g]:=l.mr.sub<|cW<|ar i;rw[p.first,<-e,f.xW p.ne h]at j;cases j
def nZ.BO(j:nZ u b c A k a)(h:zS A v g)(f:g<z k)(e:Y):iH e k.flatten v=iH e k[g] v:=AO f (λx i d=>j.AN h x i d) j.Dh e
def WT(t:TypeId)(a b:ab):binOp .gtr t (aj a) (aj b)=pure (aO !(Op.bytesLess a.toList b.toList||a.toList==b.toList)):=by simp[binOp,Op.stringOp]
def PZ(a b:ab):(!(Op.bytesLess a.toList b.toList||a.toList==b.toList))=im b a:=by
 show(!(im a b||a.toList==b.toList))=im b a;cases h1:im a b with
 |true=>rw[lQ h1];rfl
 |false=>
  cases h2:(a.toList==b.toList)with
  |true=>
   have:a=b:=JT (by simpa using h2);rw[this,fD];rfl
  |false=>
   cases h3:im b a with
   |true=>rfl
   |false=>rw[oq h1 h3]at h2;simp at h2
def Cn{n0 tbqq:R}{ks:mU}{cs:dX}(m:ab)(bt:Y)(h:nZ u n0 tbqq ks cs a)(hD:u.D a)(w:n0<=G (H a))(hF:∀x,u.F x->x<n0):cA bG 321 #[aA tbqq,aj m,aL bt] a λbd w'=>bd=aP (tD<|iH bt cs.flatten m)/\u.D w'/\J u.F a w':=by
 obtain⟨x,o⟩:=QJ h.AD m;have s:Below (G<|H a) a (cF a<|aw #[aj ⟨#[]⟩,aj ⟨#[]⟩,aO bF,aL 0] 164):=(Below.refl _ a).alloc (ai _) _;obtain⟨dv,bk,cut,bn,bx,bo,V,L,bp,W,bv,bq⟩:=h.mem;have v:=W.lt;have j:=h.len;have bu:=W.small;have T:cA bG 325 #[aA tbqq,aj m] (cF a<|aw #[aj ⟨#[]⟩,aj ⟨#[]⟩,aO bF,aL 0] 164) λbd w'=>bd=aP (aq x)/\Below (G<|H a) a w'/\ix w' (G<|H a) zE:=by apply(Ap m (W.below s v.1 v.2) h.AD).mono;rintro bd w'⟨f,rfl,g,q,r,d⟩;obtain rfl:x=f:=o.eq ⟨g,q,r⟩;exact⟨rfl,s.trans<|d.mono s.size,(d.block _<|by simp).trans<|aE _ rfl⟩
 have n:∀bc,Below (G<|H a) a bc->aS bc (U tbqq 5)=M (bE bo V (z ks) L):=λbc N=>by rw[bL (W.below N v.1 v.2).box];rfl
 have F:=Z n;have Q:∀bf,n0<=bf->¬u.F bf:=λbf X a=>by have:=hF bf a;omega
 have K:=Z Q;have al:=Z<|λbc(N:Below (G<|H a) a bc)=>u.fq hD (J.aV (S:=az) N) cN;have br:=WT;by_cases P:x<z ks
 .have t:∀bc,Below (G<|H a) a bc->aS bc (U bo<|V+x*5+3)=M (aj ks[x].first):=λbc N=>by rw[aY];exact(W.below N v.1 v.2).cells _ _<|iD ks x 3 P<|by decide
  have ac:=Z t;have e1:((x:Y)==(z ks:Y))=bF:=by simp;omega
  have e2:(x:Y)<(z ks:Y):=by omega
  have e3:(0:Y)<=(x:Y):=by omega
  have bh:=PZ ks[x].first m;cases hfk:im m ks[x].first with
  |true=>
   rw[hfk]at bh;have e:=h.yK o (λ_=>hfk) bt;rw[e];have HL:=Z j;clear h W o hD hF Q s n t j e hfk;generalize ks[x].first=fk at*;go_in
   go_wp2_with(go_at_call 325;refine T.mono ?_;rintro bd k⟨rfl,c,b⟩;have n:=F k c;have t:=ac k c;obtain⟨z0,z1,z2,z3⟩:=b.cells;have y0:=b.free (i:=0);have y1:=b.free (i:=1);have y2:=b.free (i:=2);have y3:=b.free (i:=3);have p:=Z b;have l:=Z c;clear b c)
   refine cO (fZ rfl _ _ (G<|H a) zE _ _ rfl<|p.put zE) rfl ?_;have B:Below (G<|H a) a (wS k (G<|H a) zE):=l.trans ((jj k (G<|H a) zE).below l.size<|λbf X=>by omega);exact⟨rfl,al _ B,J.aV B⟩
  |false=>
   rw[hfk]at bh;have O:x<z cs:=by omega
   rw[h.BO o O bt];have bi:dS cs[x]:=h.mr.sub<|cW<|ar O;have bs:=h.small _<|ar O;obtain⟨bg,bl,HL⟩:=dI (λbc(N:Below (G<|H a) a bc)=>Lh (h.same<|(J.aV (S:=az) N).same w cN cN) (al bc N) (aF w N.size) hF x P O) bi j;clear h W o hD hF Q s n t j hfk bi;generalize ks[x].first=fk at*;generalize cs[x]=bm at*;have g:=(λv(w2 k:I)(a:w2.ownsRow (G<|H k) 164 4 v (z bm) (aH bm))=>AB m bt (dr a) bl (by omega)<|λc b=>(a.lt c b).2);generalize iH bt bm m=fe at*;cases fe with
   |none=>
    simp only[tD,wX]at g;have au:=Z g;clear g;go_in
    go_wp2_with(first
     |(go_at_call 325;refine T.mono ?_;rintro bd k⟨rfl,c,b⟩;have n:=F k c;have t:=ac k c;have bb:=bg k c;have p:=Z b;have l:=Z c;clear b c)
     |(go_at_call 326;refine bb.mono ?_;rintro bd w2⟨v2,rfl,f,A,r⟩;have ba:=au v2 w2 k f;have an:=Z<|p.ay r<|K _ w;have ad:=Z A;have av:=Z r;clear f A r)
     |(go_at_call 315;refine ba.mono ?_;rintro bd w3⟨rfl,q⟩;have d:=an.ay (J.aV (S:=az) q) (λbm=>bm);obtain⟨z0,z1,z2,z3⟩:=d.cells;have y0:=d.free (i:=0);have y1:=d.free (i:=1);have y2:=d.free (i:=2);have y3:=d.free (i:=3);have ao:=Z d;have y:=Z q;clear d q))
    refine cO (fZ rfl _ _ (G<|H a) zE _ _ rfl<|ao.put zE) rfl ?_;have D:J u.F a w3:=((J.aV (S:=u.F) l).trans av<|λx o=>.inl o).trans (J.aV (S:=u.F) y)<|λx o=>.inl o;have C:=jj w3 (G<|H a) zE;have ax:=u.fq ad (J.aV (S:=az) y) cN;refine⟨rfl,u.fq ax C (λbf X=>by subst X;exact K _ w),D.trans C<|λbf X=>.inr<|by omega⟩
   |some bf=>
    obtain⟨xk,xv,xd,xb⟩:=bf;simp only[tD,E.value]at g;have au:=Z g;clear g;go_in
    go_wp2_with(first
     |(go_at_call 325;refine T.mono ?_;rintro bd k⟨rfl,c,b⟩;have n:=F k c;have t:=ac k c;have bb:=bg k c;have p:=Z b;have l:=Z c;clear b c)
     |(go_at_call 326;refine bb.mono ?_;rintro bd w2⟨v2,rfl,f,A,r⟩;have ba:=au v2 w2 k f;have an:=Z<|p.ay r<|K _ w;have ad:=Z A;have av:=Z r;clear f A r)
     |(go_at_call 315;refine ba.mono ?_;rintro bd w3⟨rfl,q⟩;have d:=an.ay (J.aV (S:=az) q) (λbm=>bm);obtain⟨z0,z1,z2,z3⟩:=d.cells;have y0:=d.free (i:=0);have y1:=d.free (i:=1);have y2:=d.free (i:=2);have y3:=d.free (i:=3);have ao:=Z d;have y:=Z q;clear d q))
    refine cO (fZ rfl _ _ (G<|H a) ⟨xk,xv,xd,xb⟩ _ _ rfl<|ao.put ⟨xk,xv,xd,xb⟩) rfl ?_;have D:J u.F a w3:=((J.aV (S:=u.F) l).trans av<|λx o=>.inl o).trans (J.aV (S:=u.F) y)<|λx o=>.inl o;have C:=jj w3 (G<|H a) ⟨xk,xv,xd,xb⟩;have ax:=u.fq ad (J.aV (S:=az) y) cN;refine⟨rfl,u.fq ax C (λbf X=>by subst X;exact K _ w),D.trans C<|λbf X=>.inr<|by omega⟩
 (have d:x=z ks:=by have:=o.le;omega);have e:=h.yK o (λa=>absurd a P) bt;rw[e];(have e1:((x:Y)==(z ks:Y))=bX:=by simp;omega);subst d;have HL:=Z j;clear h W o hD hF Q s n j e P;(go_in);(go_wp2_with(go_at_call 325;refine T.mono ?_;rintro bd k⟨rfl,c,b⟩;have n:=F k c;obtain⟨z0,z1,z2,z3⟩:=b.cells;have y0:=b.free (i:=0);have y1:=b.free (i:=1);have y2:=b.free (i:=2);have y3:=b.free (i:=3);have p:=Z b;have l:=Z c;clear b c));refine cO (fZ rfl _ _ (G<|H a) zE _ _ rfl<|p.put zE) rfl ?_;have B:Below (G<|H a) a (wS k (G<|H a) zE):=l.trans ((jj k (G<|H a) zE).below l.size<|λbf X=>by omega);exact⟨rfl,al _ B,J.aV B⟩
def AP:jr:=⟨λ_=>True,λ_=>False,λ_ _ _=>trivial,λ_ h=>h.elim⟩
section
open Go.Shelf
attribute [local go_sem] Oper.semAt_some
def zt(v:aa)(n c:R):aa:=match v with
 | .slice (M ⟨d,a,none⟩) _ b=>.slice (M ⟨d,a+n*4,none⟩) c<|b-n
 |v=>v
def Gs(v:aa)(p:R×cK):Array aa:=#[zt v p.1<|z p.2]
def AQ{o p g s:cK}(r:ku a d o)(h:o=p++g++s)(k:g≠[]):ku a (zt d (z p)<|z g) g:=by
 have l:0<z g:=gJ.2 k;obtain⟨u,⟨rfl,t⟩|⟨q,b,c,rfl,n,i⟩⟩:=r;have:=bW z h;simp at this;omega;have m:=bW z h;simp at m;refine⟨by rw[fS],.inr ⟨q,b+z p*4,c-z p,rfl,by omega,λj v f=>?_⟩⟩;have e:j<z g*4:=by rw[<-fS];exact(fF.1 f).1
 have:=i (z p*4+j) v (by rw[h,fT,fT,aW,dJ (by rw[fS];omega),fS,show z p*4+j-z p*4=j by omega,gm (by rw[fS];exact e)];exact f);rw[aY];exact this
def AF(v:aa)(x:Option Addr)(n c:R)(a:v=ah x n c)(w:I):cA bG 79 #[v] w λe b=>e=aP (.func (.func 127) #[] #[fA<|M ⟨G<|H w,0,none⟩])/\b=cF w (aw #[v] 102):=by
 subst a;go_in
 go_wp2;go_ret;exact⟨rfl,rfl⟩
def Sb(r:b<=c)(A:c<z e)(u:∀o(B:o+1<z e),b<=o->o<c->e[o+1].key=e[o].key)(s:∀D:c+1<z e,e[c+1].key≠e[c].key):∃p,e.drop b=p++e.drop (c+1)/\p≠[]/\z p=c+1-b/\io (e.drop b)=p::io (e.drop<|c+1):=by
 have w:e.drop b=(e.drop b).take (c+1-b)++e.drop (c+1):=by(conv=>lhs;rw[<-ci (c+1-b) (e.drop b)]);rw[List.drop_drop,show b+(c+1-b)=c+1 by omega]
 have n:∀t(k:t<=c)(f:b<=t),(e[t]'(by omega)).key=(e[b]'(by omega)).key:=by
  intro t;induction t with
  |zero=>intro _ j;obtain rfl:b=0:=(by omega);rfl
  |succ t i=>
   intro k f;rcases lu f with h|h
   .exact(u t (by omega) (by omega)<|by omega).trans<|i (by omega)<|by omega
   .subst h;rfl
 have d:z ((e.drop b).take<|c+1-b)=c+1-b:=by simp;omega
 have g:(e.drop b).take (c+1-b)≠[]:=λh=>by rw[h]at d;simp at d;omega
 have a:∀x∈(e.drop b).take (c+1-b),x.key=(e[b]'(by omega)).key:=by intro x l;obtain⟨t,k,rfl⟩:=dY l;rw[d]at k;rw[gB,nD];exact n (b+t) (by omega)<|by omega
 refine⟨_,w,g,d,?_⟩;conv=>lhs;rw[w]
 rw[Md _ _ ?_,UM g<|λx l m v=>(a x l).trans (a m v).symm];rfl;intro y q C i;have j:=a y<|List.mem_of_getLast? q;(have f:c+1<z e:=by rcases dK (c+1) (z e)with h|h;exact h;rw[qh h]at i;cases i);rw[bH f]at i;cases i;rw[j,<-n c (ai _) r];exactλh=>s f h.symm
def wh(n0 bx:R)(hb:er a b d 102)(hr:ku a d e)(u:∀w,bY d=M w->w<n0)(bl:n0<=G (H a))(bu:z e<=1000000000):Is (Gs d) AP n0 bx 127 #[fA<|M ⟨b,0,none⟩] (nV 0<|io e) (λw=>w=b) a:=by
 intro lr bv Jx bp bm hs hD hJ W p ad hY;obtain⟨bT,P,hv⟩:=bS hr;obtain⟨HB,HR,av,HS,HJ,bc,HY,ba,N⟩:=xS hb hr u hs hJ W hY p<|λc bp bm q(h:bv c bp bm)=>ad c bp bm (bm.drewN q) (λ_=>False) h (J.aV<|below_drewN (Below.refl _ bm) q) cN;have br:aS bm ⟨b,0,none⟩=M d:=hs.cell (.inl rfl) hb.cell;clear hb hr u hs hJ W p ad hY hD;subst hv;refine rr func127 rfl trivial ?_ rfl;simp only[ntmps127,eZ,aC,cS,Nat.reduceAdd,Nat.reduceSub,eh,dZ,fa,eE,cJ,cC];gi_wp2;gi_loopw [3,7] (λf d wr=>∃(m i:R)(c:cD (R×cK))(x:fN),f=aq m/\d=aq i/\m<=i/\i<=z e/\nV 0 (io e)=c++nV m (io<|e.drop m)/\(∀k(F:k<z e),m<=k->k<i->∃h:k+1<z e,e[k+1].key=e[k].key)/\bv c x wr/\(∀w,w=b->¬x w)/\jL AP n0 (λw=>w=b) a wr) (λ_ d _=>z e-(intOf d).toNat)
 case atStart=>exact⟨0,0,[],bp,rfl,rfl,ai _,bB _,rfl,λk _ _ h=>by omega,HJ,bc,HS⟩
 case round=>
  obtain⟨m,i,c,x,rfl,rfl,bg,bt,hl,t,B,n,f⟩:=hrel;have bs:aS wr ⟨b,0,none⟩=M (ah bT (z e) P):=f.cell (.inl rfl) HB.cell;obtain⟨HL,K,r,O⟩:=gD hl t B f;have l:=Z n;by_cases p:i<z e
  .obtain⟨bn,g,y,hx,ac,o⟩:∃bn g y,ah bT (z e) P=ah (M ⟨bn,g,none⟩) (z e) y/\z e<=y/\∀k u,(aH e)[k]?=M u->aS wr ⟨bn,g+k,none⟩=M u:=by
    obtain⟨S,⟨A,D⟩|⟨an,v,s,A,ac,C⟩⟩:=ae HR
    .omega
    .exact⟨an,v,s,A,ac,λk u F=>f.cell (.inr ⟨av an (by rw[A];rfl),id⟩)<|C k u F⟩
   cases hx;have e1:(i:Y)<(z e:Y):=by omega
   have e2:(0:Y)<=(i:Y):=by omega
   have g0:=o _ _ (eG e i p).1;clear hl t B f n;by_cases hn:∃h:i+1<z e,e[i+1].key=e[i].key
   .obtain⟨j,s⟩:=hn;have g1:=o _ _ (eG e (i+1) j).1;rw[s]at g1;have v:=Z (show∀k(F:k<z e),m<=k->k<i+1->∃h:k+1<z e,e[k+1].key=e[k].key fromλk F S A=>by
     rcases lu (show k<=i by omega)with Q|Q
     .exact K k F S Q
     .subst Q;exact⟨j,s⟩)
    clear o s;generalize e[i].key=C at*;have e3:(i:Y)+1<(z e:Y):=by omega
    have e4:(0:Y)<=(i:Y)+1:=by omega
    gi_wp2;refine sE.2 ?_;go_quiet(fail)
    gi_wp2;go_roundw;case rel=>exact⟨m,i+1,c,x,rfl,by go_num,by omega,by omega,HL,v,N _ _ _ _ r,l,O.trans ⟨ai _,λ_ _=>rfl⟩⟩
    case measure=>simp[intOf];omega
   .obtain⟨an,bh,bi,C,D⟩:=Sb bg p (λk F S A=>(K k (by omega) S A).2)<|λh P=>hn ⟨h,P⟩;have v:(c++[(m,an)])<+:nV 0 (io e):=⟨nV (m+z an)<|io<|e.drop<|i+1,by rw[ae HL,D,nV];simp⟩;have X:nV 0 (io e)=(c++[(m,an)])++nV (i+1) (io<|e.drop<|i+1):=by rw[ae HL,D,nV,C,show m+(i+1-m)=i+1 by omega];simp
    have L:=Z v;have ax:=Z X;have e6:(m:Y)<=(i:Y)+1:=by omega
    have e7:(i:Y)+1<=(P:Y):=by omega
    have e8:¬(P-m=0):=by omega
    have e9:(0:Y)<=(m:Y):=by omega
    have e4:(0:Y)<=(i:Y)+1:=by omega
    have bf:=Z (λq=>show YieldAt Fence.wide (bx-1) bG lr #[ah (M ⟨bn,g+m*4,none⟩) (i+1-m)<|P-m] (wr.drewN q) _ from by
     have:=HY c (m,an) x (wr.drewN q) L (N _ _ _ q r) trivial;unfold Gs zt at this;simp only[C]at this;exact this)
    clear bh bi C D v X;rcases dK (i+1) (z e)with j|j;case' inl=>
     have g1:=o _ _ (eG e (i+1) j).1;have bq:=IE<|λP=>hn ⟨j,P⟩;have e3:(i:Y)+1<(z e:Y):=by omega
    case' inr=>
     have e3:((i:Y)+1<(z e:Y))=False:=by simp;omega
    all_goals
     clear o hn;gi_wp2;refine sE.2 ?_;go_quiet(fail)
     obtain⟨fn,bo,al,body,hy,hR⟩:=bf nq;have bb:=Z hR;clear hR;gi_wp2;refine⟨(λP=>(by cases P)),bb.mono ?_⟩;rintro ca W3(⟨rfl,_,B3,V,s,T⟩|⟨rfl,hx⟩)
     .have au:=Z V;have bd:=Z s;have ao:=Z T;clear V s T;gi_wp2;go_roundw;case rel=>
       have s:=ae bd;have f:=ae O;have bk:b<G (H wr):=ag (am HB) f.1;refine⟨i+1,i+1,c++[(m,an)],B3,by go_num,by go_num,ai _,by omega,ax,λk _ S A=>by omega,au,λw E Q=>?_,?_⟩
       .rcases ao w Q with Q|Q
        .exact l w E Q
        .subst E;exact absurd (show G (H wr)<=_ from Q)<|by omega
       .refine f.trans<|jL.trans (b:=wr.drewN nq) ⟨ai _,λ_ _=>rfl⟩ ?_;exact s.same (aF bl f.1) (λw E=>⟨by subst E;exact bk,l w E⟩) (λw E a=>by have:=(ba _ _ _ r w E).1;omega)
      case measure=>simp[intOf];omega
     .have HX:=Z hx;clear hx;gi_wp2;refine cO (iY rfl _ _ _) rfl ?_;exact⟨⟨_,rfl⟩,.inr ⟨_,HX⟩⟩
  .have o:i=z e:=by omega
   have g:m=z e:=by
    rcases dK m (z e)with Q|Q
    .obtain⟨h,_⟩:=t (z e-1) (by omega) (by omega) (by omega);omega
    .omega
   have j:=Z (show nV 0 (io e)=c by rw[hl,g,gx];simp[io,nV]);have e1:((i:Y)<(z e:Y))=False:=by simp;omega
   clear hl t B f n o g;gi_wp2;refine vH (iY rfl _ _ _) rfl ?_;first|refine⟨⟨_,rfl⟩,.inl ⟨⟨x,?_⟩,trivial⟩⟩|refine⟨⟨_,rfl⟩,.inl ⟨x,?_,trivial⟩⟩
   rw[ae j];exact r
end
section
open Go.Shelf
attribute [local go_sem] Oper.semAt_some
def Sj(w:Array aa)(e:eP)(q:Y->Bool)(A:Enters bG b)(u:Row a 1 d (z e) (e.map<|Value.int .u64))(C:∀D,bY d=M D->D<G (H a))(hn:z e<=1000000000)(B:∀E∈e,∀W,Below (G<|H a) a W->cA bG b (#[aL E]++w) W λx N=>x=aP (aO<|q E)/\Below (G<|H W) W N):cA bG 128 #[d,.func (.func b) #[] w] a λx w'=>(∃D:Y,x=aP (aq D)/\decide (0<=D)=e.any q)/\Below (G<|H a) a w':=by
 have eg:∀c a,(callFunc b c).run bG a=.ok (.enter b c) a:=A;obtain⟨ac,ad,t⟩:=bS u;obtain⟨K,L,F⟩:=dI u C B;clear A u C B;subst t;go_in
 go_wp2;go_loopw [8] (λi wr=>∃n:R,n<=z e/\i=aq n/\Below (G<|H a) a wr/\(e.take n).any q=bF) (λi _=>z e-(intOf i).toNat)
 case atStart=>exact⟨0,bB _,rfl,Below.refl _ _,rfl⟩
 case round=>
  obtain⟨n,X,rfl,f,k⟩:=hrel;have o:=Z f;by_cases j:n<z e
  .obtain⟨O,g,hx,T⟩:∃O g,ac=M (U O g)/\aS wr (U O<|g+n)=M (aL e[n]):=by
    obtain⟨h1,⟨y,h0⟩|⟨Q,l,v,y,V,S⟩⟩:=ae K
    .omega
    .cases y;exact⟨Q,l,rfl,(f.cell (p:=(U Q<|l+n))<|L Q rfl).trans<|S n _<|by simp[j]⟩
   subst hx;have c:=F e[n] (ar j) wr f;have P:(n:Y)<(z e:Y):=by omega
   have e2:(0:Y)<=(n:Y):=by omega
   have p:(e.take<|n+1).any q=q e[n]:=by rw[ak j,List.any_append,k];simp
   have s:=Z p;have r:=Z<|ar j;clear f k p;generalize e[n]=E at*;cases hp:q E with
   |true=>
    rw[hp]at c;have l:=Z<|show e.any q=bX from ji.2 ⟨E,r,hp⟩;clear hp;go_wp2_with(go_at_fn b;refine c.mono ?_;rintro x w1⟨rfl,i⟩;have m:=Z i;clear i)
    go_ret;exact⟨⟨n,rfl,by rw[ae l];simp⟩,o.trans<|m.mono o.size⟩
   |false=>
    rw[hp]at c;have l:=Z<|s.trans hp;clear hp;go_wp2_with(go_at_fn b;refine c.mono ?_;rintro x w1⟨rfl,i⟩;have m:=Z i;clear i)
    go_roundw;case rel=>exact⟨n+1,j,by go_num,o.trans<|m.mono o.size,l⟩
    case measure=>simp[intOf];omega
  .have c:n=z e:=by omega
   have g:=Z (show e.any q=bF by rw[<-k,c,bP]);have P:((n:Y)<(z e:Y))=False:=by simp;omega
   clear f k c;go_wp2;go_ret;exact⟨⟨-1,rfl,by rw[ae g];simp⟩,o⟩
def JK(e:Array aa)(c:eP)(t:Y->Bool)(j:Enters bG b)(g:Row a 1 d (z c) (c.map<|Value.int .u64))(m:∀s,bY d=M s->s<G (H a))(r:z c<=1000000000)(k:∀v∈c,∀W,Below (G<|H a) a W->cA bG b (#[aL v]++e) W λn q=>n=aP (aO<|t v)/\Below (G<|H W) W q):cA bG 81 #[d,.func (.func b) #[] e] a λn u=>n=aP (aO<|c.any t)/\Below (G<|H a) a u:=by
 have h:=Sj e c t j g m r k;obtain⟨y,x,f⟩:=bS g;clear j g m k;subst f;go_in
 go_wp2_with(go_at_call 128;refine h.mono ?_;rintro n w⟨⟨s,rfl,l⟩,i⟩;have p:=Z l;have o:=Z i;clear l i)
 go_ret;rw[<-ae p];exact⟨rfl,o⟩
def Lv(i:R)(r:Y)(N:i<z e)(L:0<i)(O:z e<=1000000000)(n:ix a b e[i])(o:er a c d 102)(w:ku a d e)(l:er a g (aq i) 3):cA bG 80 #[aL r,aA b,aA c,aA g] a λC y=>C=aP (aO<|decide (e[i].bK<=r)&&decide (r<(e[i-1]'(by omega)).bK))/\y=a:=by
 obtain⟨_,_,_,P⟩:=n.cells;have c1:=o.cell;have c2:=l.cell;obtain⟨p,x⟩:∃p,i=p+1:=⟨i-1,by omega⟩;subst x;obtain⟨v,⟨rfl,u⟩|⟨B,f,s,rfl,j,m⟩⟩:=w;omega;have k:p<z e:=by omega
 have K:aS a (U B<|f+p*4+3)=M (aL e[p].bK):=by rw[aY];exact m _ _ (eG e p k).2.2.2
 have D:(0:Y)<=(p:Y):=by omega
 have E:(p:Y)<(z e:Y):=by omega
 have F:IntKind.i64.wrap (p:Y)=(p:Y):=by rw[bQ];omega
 have t:wrap64 (p:Y)=(p:Y):=by unfold wrap64;omega
 simp only[sP];generalize e[p].bK=Q at*;generalize e[p+1].bK=A at*;clear n o l m v j;by_cases q:A<=r;(.simp only[q,mR,yX];(go_in);go_wp2;go_ret;exact⟨rfl,rfl⟩);simp only[q,zW,ql];(go_in);go_wp2;go_ret;exact⟨rfl,rfl⟩
structure rX(W0:I)(S:fN)(bl:R)(lst:cK)(B:fN)(W:I):Prop where
 row:∃v,er W bl v 102/\W.ownsRow (G<|H W0) 164 4 v (z lst) (aH lst)/\∀k,B k↔k=bl\/bY v=M k
 ay:J (λk=>k=bl\/S k) W0 W
def rX.lt{S m:fN}(n:rX a S c e m B){n0:R}(l:n0<=c)(o:n0<=G (H a)):∀k,m k->n0<=k/\k<G (H B):=by
 intro k j;obtain⟨v,g,h,i⟩:=n.row;rcases(i k).1 j with d|d;subst d;exact⟨l,am g⟩;have:=h.lt k d;exact⟨by omega,this.2⟩
def rX.stays{j T:fN}(n:rX a X b e j f)(h:J T f B)(d:∀k,T k->¬j k/\(X k\/G (H a)<=k)):rX a X b e j B:=by
 obtain⟨v,i,m,c⟩:=n.row;exact⟨⟨v,(h.block _ (am i)<|λl=>(d _ l).1<|(c _).2<|.inl rfl).trans i,h.own m<|λk g l=>(d k l).1<|(c k).2<|.inr g,c⟩,n.ay.trans h<|λk g=>(d k g).2.imp_left .inr⟩
def rX.more{e:I}{u:fN}{c xs:cK}(F:rX a X b c u f)(q:b<G (H a))(E:er f b d 102)(C:J az f B)(A:eY B e d t)(l:e.ownsRow (G<|H a) 164 4 t (z c+z xs) (aH c++aH xs)):∃v,rX a X b (c++xs) v (ct e (U b 0) t)/\J u f (ct e (U b 0) t)/\(∀k,v k->u k\/G (H f)<=k):=by
 obtain⟨n,o,w,j⟩:=F.row;obtain rfl:n=d:=by have D:=o.symm.trans E;simpa using D
 have y:J (λk=>bY n=M k) f e:=(C.mono cN).trans (J.dR (S:=λk=>bY n=M k) A.grown<|λk g=>.inl g)<|λk g=>.inl g;have r:∀k,k<G (H a)->¬bY n=M k:=λk g h=>by have:=(w.lt k h).1;omega
 have s:er e b n 102:=(y.block _ (am o)<|r _ q).trans o;have m:J u f (ct e (U b 0) t):=(y.mono (T:=u)<|λk g=>.inl<|(j k).2<|.inr g).setCell _ _ _<|.inl<|(j _).2<|.inl rfl;refine⟨λk=>k=b\/bY t=M k,⟨⟨t,s.set _,?_,λk=>ru⟩,?_⟩,m,?_⟩;rw[af,fT];exact l.kept (df e _ _ _) (by right;intro h;have:=(l.lt _ h).1;omega);refine F.ay.trans m<|λk g=>?_;rcases(j k).1 g with h|h;exact .inl<|.inl h;exact .inr (w.lt k h).1;rintro k(h|h);exact .inl<|(j k).2<|.inl h;rcases A.uq with D|⟨L,D,K⟩;exact .inl<|(j k).2<|.inr<|D.symm.trans h;rw[D]at h;cases h;have:=C.size;exact .inr<|by omega
end
