import Derived.Deep.LoopGhost
import Derived.Deep.RegionHeld3
import Derived.Defers
import Derived.Laws.CopyRow
import Derived.Laws.NewBlocks
import Derived.Laws.Rows
import Derived.Lib.AppendZerosOnto
import Derived.Lib.Overlaps
import Derived.LoopIn
import Derived.LoopNIn
import Derived.RangeFuncBound
import Derived.RangeFuncLeaves
import Derived.RangeFuncNested
import Derived.Shelf.Abstract
import Derived.Shelf.AbstractIn
import Derived.Shelf.RegionOpen
import Derived.Shelf.RegionOpenPlain
import Derived.Sort.LoopGhostIn
import Derived.TacticsInMore
import Derived.Test.YtgbhcncpienkcaaGreatDoorC1
import Derived.Test.YtgbhcncpienkcaaGreatDoorC2
open _root_ renaming List.length→y,Option.some→H,Array.size→z,Go.World.heap→G,Go.Value.ownBlock→ct,Go.World.cell?→aO,Go.World.setCell→cA,Go.World.alloc→cF,Bool.false→aY,Bool.true→bU,Nat→M,Int→Z,List→cw,Go.Calls→cD,Go.undef→ix,Go.Proofs.Tryz.prog→bz,Go.Value.slice→J,Go.Value.string→aj,Go.Value.bool→aK,Go.Value.pointer→fj,Go.Value.tuple→dw,Go.Value.agg→dW
namespace Go.Proofs.YtgbhcncpienkcaaGreatDoor
open ChangeShapes WideShapes RowKit Proofs.Tryz List
set_option maxHeartbeats 16000000
set_option linter.all false
set_option maxRecDepth 100000
variable{a f C:Y}{b c g l A Q:M}{d u N:aa}{e L:cJ}{k:dL}{m:Z}{p:eO}{X:fA}{W:ab}{w:E}{x:iC}{D:Bool}{T:Type}{V:Array aa}
def E.value(e:E):aa:=dW #[aj e.key,aj e.val,aK e.del,aJ e.bP]
def E.cells(e:E):iC:=[aj e.key,aj e.val,aK e.del,aJ e.bP]
def pa(d:Bool):Z:=if d then 1 else 0
def eh(s:ab):eO:=(s.size:Z)::kY s
def oe(e:E):eO:=pa e.del::(eh e.key++eh e.val)
def eL.ne(h:eL a C d u)(e:ct d≠H b)(c:b<z (G a)):ct u≠H b:=by
 grind[eL.ur]
def eL.cell{w w':Y}(h:eL w w' d u){a i:M}(c:aO w (R a i)=H N)(e:ct d≠H a):aO w' (R a i)=H N:=h.grown.cell c<|λg=>e g.symm
def eP.lt{bs:eO}(h:eP a c d bs):∀k,ct d=H k->c<=k/\k<z (G a):=aG h
def eP.of_heap{w w':Y}(h:eP w b d p)(e:w'.heap=w.heap):eP w' b d p:=by
 unfold eP World.ownsRow at*;rw[e];exact h
def eL.of_heap{a w w':Y}(h:eL w w' d u)(e:(a.os,a.tape,a.output,a.heap)=(w.os,w.tape,w.output,w.heap)):eL a w' d u:=by
 simp only[ji]at e;obtain⟨g,i,j,b⟩:=e;refine⟨⟨by rw[h.grown.os,g],by rw[h.grown.tape,i],by rw[h.grown.output,j],by rw[b];exact h.grown.size,λl e k=>by rw[b]at e|-;exact h.grown.block l e k⟩,by rw[b];exact h.ur⟩
def eL.IP{o:Obj}(h:eL (a.alloc o).drew f d u):eL a f d u:=(eL.of_heap (a:=a.alloc o) h rfl).alloc o
def QO(a:M)(ac:aa)(s:eO)(ad:E)(w:Y)(p:eP w a ac s)(hb:a<=z (G w))(hl:y s<=35184372088832)(S:ad.key.size<=255)(V:ad.val.size<=255):cD bz 214 #[ac,ad.value] w λD w'=>∃X,D=aL X/\eP w' a X (s++oe ad)/\eL w w' ac X:=by
 obtain⟨d,e,B,k⟩:=ad;simp only at S V;unfold E.value;simp only;have i:ct ac≠H (z<|G w):=λD=>by have:=(p.lt _ D).2;omega
 have O0:=U<|p.alloc<|ar #[aj d,aj e,aK B,aJ k] 180;clear p;cases B with
 |true=>
  go_in
  go_wp2_with fail
  go_region_held3(λj=>aO j (R (z<|G w) 0)=H (aj d)/\aO j (R (z<|G w) 1)=H (aj e)) (first|assumption|go_keep) (first
   |(go_at_call 213;refine(uf a ac s 1 _ ?_ (by simp;omega)<|by omega).mono ?_;exact O0.of_heap rfl;rintro D x⟨u,rfl,m,b⟩;have g:ct u≠H (z<|G w):=b.ne i (by simp);have q:aO x (R (z<|G w) 0)=H (.string d)/\aO x (R (z<|G w) 1)=H (.string e):=⟨b.cell (by simp) i,b.cell (by simp) i⟩;have t:z (G w)<z (G x):=(by have:=b.grown.size;simp at this;omega);have F:=U m;have N:=U b;clear m b)
   |(go_at_call_of 254 u;refine(pF a u (s++[1]) d _ ?_ (by omega) ?_ S).mono ?_;exact F.of_heap rfl;(simp;omega);rintro D A⟨v,rfl,n,c⟩;have l:ct v≠H (z<|G w):=c.ne g t;have r:aO A (R (z<|G w) 0)=H (.string d)/\aO A (R (z<|G w) 1)=H (.string e):=⟨c.cell q.1 g,c.cell q.2 g⟩;have W:z (G w)<z (G A):=(by have:=c.grown.size;omega);have K:=U n;have O:=U<|N.trans c;clear n c)
   |(go_at_call_of 254 v;refine(pF a v (s++[1]++eh d) e _ ?_ (by omega) ?_ V).mono ?_;exact K.of_heap rfl;(simp[eh,hZ];omega);rintro D C⟨v3,rfl,o,f⟩;have T:aO C (R (z (G w)) 0)=H (.string d)/\aO C (R (z (G w)) 1)=H (.string e):=⟨f.cell r.1 l,f.cell r.2 l⟩;have L:=U o;have P:=U (O.trans f);clear o f))
  go_wp2;go_ret;refine⟨v3,rfl,?_,P.IP⟩;have Q:=ae L;simpa[oe,pa,eh,bD]using Q
 |false=>
  go_in
  go_wp2_with fail
  go_region_held3(λj=>aO j (R (z<|G w) 0)=H (aj d)/\aO j (R (z<|G w) 1)=H (aj e)) (first|assumption|go_keep) (first
   |(go_at_call 213;refine(uf a ac s 0 _ ?_ (by simp;omega)<|by omega).mono ?_;exact O0.of_heap rfl;rintro D x⟨u,rfl,m,b⟩;have g:ct u≠H (z<|G w):=b.ne i (by simp);have q:aO x (R (z<|G w) 0)=H (.string d)/\aO x (R (z<|G w) 1)=H (.string e):=⟨b.cell (by simp) i,b.cell (by simp) i⟩;have t:z (G w)<z (G x):=(by have:=b.grown.size;simp at this;omega);have F:=U m;have N:=U b;clear m b)
   |(go_at_call_of 254 u;refine(pF a u (s++[0]) d _ ?_ (by omega) ?_ S).mono ?_;exact F.of_heap rfl;(simp;omega);rintro D A⟨v,rfl,n,c⟩;have l:ct v≠H (z<|G w):=c.ne g t;have r:aO A (R (z<|G w) 0)=H (.string d)/\aO A (R (z<|G w) 1)=H (.string e):=⟨c.cell q.1 g,c.cell q.2 g⟩;have W:z (G w)<z (G A):=(by have:=c.grown.size;omega);have K:=U n;have O:=U<|N.trans c;clear n c)
   |(go_at_call_of 254 v;refine(pF a v (s++[0]++eh d) e _ ?_ (by omega) ?_ V).mono ?_;exact K.of_heap rfl;(simp[eh,hZ];omega);rintro D C⟨v3,rfl,o,f⟩;have T:aO C (R (z (G w)) 0)=H (.string d)/\aO C (R (z (G w)) 1)=H (.string e):=⟨f.cell r.1 l,f.cell r.2 l⟩;have L:=U o;have P:=U (O.trans f);clear o f))
  go_wp2;go_ret;refine⟨v3,rfl,?_,P.IP⟩;have Q:=ae L;simpa[oe,pa,eh,bD]using Q
theorem qj{b:Bool}(h:D=b):Ending.returned (aK D)=aL (aK b):=by rw[h]
theorem rj(s:ab)(w:Y)(f:s.size<=140737488351232):cD bz 84 #[aj s] w λe d=>e=aL (aK<|decide<|1<=s.size/\s.size<=8)/\d=w:=by
 by_cases b:1<=s.size;(.by_cases c:s.size<=8;(·(have a:decide (1<=s.size/\s.size<=8)=bU:=by simp[b,c]);rw[a];(go_in);go_wp2;go_ret;exact⟨qj (by simp;omega),rfl⟩);(have a:decide (1<=s.size/\s.size<=8)=aY:=by simp[b,c]);rw[a];(go_in);go_wp2;go_ret;exact⟨qj (by simp;omega),rfl⟩);(have a:decide (1<=s.size/\s.size<=8)=aY:=by simp[b]);rw[a];(go_in);go_wp2;go_ret;simp_all
theorem xR(s:ab)(w:Y)(d:s.size<=140737488351232):cD bz 85 #[aj s] w λe c=>e=aL (aK<|decide<|s.size<=16)/\c=w:=by
 by_cases b:s.size<=16;(·(have a:decide (s.size<=16)=bU:=by simp[b]);rw[a];(go_in);go_wp2;go_ret;exact⟨qj (by simp;omega),rfl⟩);(have a:decide (s.size<=16)=aY:=by simp[b]);rw[a];(go_in);go_wp2;go_ret;exact⟨qj (by simp;omega),rfl⟩
structure E.Good(x:E):Prop where
 Wd:1<=x.key.size
 MS:x.key.size<=8
 val:x.val.size<=16
 del:x.del=bU->x.val=⟨#[]⟩
 b0:0<=x.bP
 b1:x.bP<18446744073709551616
theorem mY(a b:eO):jV (a++b) aY (y a)=(b,aY,a):=by
 unfold jV;rw[dr<|by simp];simp
def vV(s:ab)(b:eO):Ea (eh s++b) aY=(b,aY,kY s)/\num (eh s++b) aY 1=s.size:=by
 have a:jV (eh s++b) aY 1=(kY s++b,aY,[(s.size:Z)]):=by have:=mY [(s.size:Z)]<|kY s++b;simpa[eh]using this
 have c:num (eh s++b) aY 1=s.size:=by unfold num;rw[a];simp[mN]
 refine⟨?_,c⟩;unfold Ea;grind[mY,hZ]
def MQ(d:Bool)(b:eO):jV (pa d::b) aY 1=(b,aY,[pa d])/\num (pa d::b) aY 1=pa d:=by
 have h:=mY [pa d] b;have a:jV (pa d::b) aY 1=(b,aY,[pa d]):=by simpa using h
 exact⟨a,by unfold num;rw[a];simp[mN]⟩
structure iY where
 D:Y->Prop
 F:M->Prop
 fD:∀{w w':Y}{S:fA},D w->I S w w'->(∀k,S k->¬F k)->D w'
 lt:∀{w:Y}{k:M},D w->F k->k<z (G w)
 Eb:Y->Prop
 up:∀{w:Y},D w->Eb w
 AX:∀{w w':Y}{S:fA},Eb w->I S w w'->(∀k,S k->¬F k)->Eb w'
variable{t:iY}
def iY.Cl(V:iY):Prop:=∀w,V.Eb w->V.D w
def jF(V:iY)(b:M)(S:fA)(w a:Y):Prop:=z (G w)<=z (G a)/\∀k,((k<b/\¬V.F k)\/S k)->a.heap[k]?=w.heap[k]?
def jF.refl(V:iY)(a:M)(S:fA)(w:Y):jF V a S w w:=⟨ai _,λ_ _=>rfl⟩
def jF.trans{S:fA}{d b e:Y}(h:jF t c S d b)(k:jF t c S b e):jF t c S d e:=⟨aC h.1 k.1,λi a=>(k.2 i a).trans<|h.2 i a⟩
def jF.mono{S T:fA}{e b:Y}(h:jF t c S e b)(a:∀k,T k->S k):jF t c T e b:=⟨h.1,λi d=>h.2 i<|d.imp id<|a i⟩
def jF.cell{V:iY}{a b:Y}(h:jF V c X a b){k i:M}(g:X k\/(k<c/\¬V.F k))(e:aO a (R k i)=H d):aO b (R k i)=H d:=(cR (w:=a)<|h.2 k g.symm).trans e
def I.same{V:iY}{n0:M}{S T:fA}(h:I T a f)(i:n0<=z (G a))(c:∀k,S k->k<z (G a)/\¬T k)(e:∀k,T k->k<n0->V.F k):jF V n0 S a f:=by
 refine⟨h.size,λk g=>?_⟩;rcases g with⟨b,d⟩|b;exact h.block k (by omega)<|λc=>d<|e k c b;exact h.block k (c k b).1 (c k b).2
theorem aB{w:Y}(o:Obj)(h:c=z (G w)):(cF w o).heap[c]?=H o:=by
 subst h;show(w.heap.push o)[z<|G w]?=H o;simp
theorem gl{w:Y}(o:Obj)(h:b<z (G w)):(cF w o).heap[b]?=w.heap[b]?:=Below.heap_alloc w o b h
def iw(u:aa)(h:b≠c):(cA a (R c g) u).heap[b]?=a.heap[b]?:=Below.heap_setCell a (R c g) u b h
theorem gM{b i:M}:z (G<|cA a (R b i) d)=z (G a):=by simp_all
abbrev ep(w:Y)(b:M)(v:aa)(t:TypeId):Prop:=w.heap[b]?=H (ar #[v] t (0,0))
theorem ep.cell{b:M}{t:TypeId}(h:ep a b d t):aO a (R b 0)=H d:=by rw[bL h];rfl
theorem ep.free{t:TypeId}(h:ep a b d t):a.frozen? (R b 0)=aY:=dE h
def ep.set{t:TypeId}(h:ep a b d t)(u:aa):ep (cA a (R b 0) u) b u t:=(aT h).trans rfl
def ep.other{t:TypeId}(h:ep a b d t){b' i:M}(u:aa)(c:b≠b'):ep (cA a (R b' i) u) b d t:=(iw u c).trans h
theorem ep.alloc{w:Y}{b:M}{t:TypeId}(h:ep w b d t)(o:Obj):ep (cF w o) b d t:=(gl o<|am h).trans h
def ii(w:Y)(b:M)(x:E):Prop:=w.heap[b]?=H (ar #[aj x.key,aj x.val,aK x.del,aJ x.bP] 180 (0,0))
def ii.cells(h:ii a b w):aO a (R b 0)=H (aj w.key)/\aO a (R b 1)=H (aj w.val)/\aO a (R b 2)=H (aK w.del)/\aO a (R b 3)=H (aJ w.bP):=by
 refine⟨?_,?_,?_,?_⟩<;>rw[bL h]<;>rfl
def ii.free{b i:M}(h:ii a b w):a.frozen? (R b i)=aY:=dE h
def ii.alloc{w:Y}{b:M}{x:E}(h:ii w b x)(o:Obj):ii (cF w o) b x:=(gl o<|am h).trans h
def ii.aw{d w':Y}{b:M}{S:fA}(h:ii d b w)(c:I S d w')(a:¬S b):ii w' b w:=(c.block b (am h) a).trans h
def ii.put{b:M}(h:ii a b w)(c:E):ii (cA (cA (cA (cA a (R b 0)<|aj c.key) (R b 1)<|aj c.val) (R b 2)<|aK c.del) (R b 3)<|aJ c.bP) b c:=(aT<|aT<|aT<|aT h).trans rfl
def fZ{c:Func}{p u v:Tmp}(i:c.results=#[.cell p 180,.tmp u,.tmp v])(a:Array aa)(w:Y)(g:M)(x:E)(t:TypeId)(d:M×M)(h:a.getD p ix=ay g)(e:w.heap[g]?=H (ar #[aj x.key,aj x.val,aK x.del,aJ x.bP] t d)):(results c a).run bz w=.ok (dw #[x.value,a.getD u ix,a.getD v ix]) w:=by
 have b:a[p]?.getD ix=ay g:=by simpa using h
 have f:=kJ (P:=bz) w g t 180 #[aj x.key,aj x.val,aK x.del,aJ x.bP] d _ e underlying180 rfl (by kernel_rfl);simp[results,i,b,asAddr,f,Result.andThen,E.value]
def xe:aa:=dW #[aj ⟨#[]⟩,aj ⟨#[]⟩,aK aY,aJ 0]
structure vJ(V:iY)(n0:M)(S:fA)(w:Y):Prop where
 size:n0<=z (G w)
 aH:∀k,V.F k->k<n0
 each:∀k,S k->n0<=k/\k<z (G w)
def IT(V:iY)(c g:M)(d:Array aa):cJ->fA->Y->Prop
 |[],S,w=>vJ V c S w/\∀b,jF V c S w b->V.D b->cD bz g d b λf a=>f=aL (dw #[xe,aK aY,.nilIface])/\V.D a/\I (λk=>S k\/V.F k) b a
 |x::l,S,w=>vJ V c S w/\∀b,jF V c S w b->V.D b->cD bz g d b λf a=>f=aL (dw #[x.value,aK bU,.nilIface])/\V.D a/\I (λk=>S k\/V.F k) b a/\∃e,(∀k,e k->S k\/z (G b)<=k)/\IT V c g d l e a
def vJ.apart(h:vJ t b X a):∀k,X k->¬t.F k:=λk d c=>by have:=h.aH k c;have:=(h.each k d).1;omega
def vJ.aw{S T:fA}{w w':Y}(h:vJ t c S w)(d:I T w w'):vJ t c S w':=⟨aC h.1 d.size,h.aH,λk a=>⟨(h.each k a).1,ag (h.each k a).2 d.size⟩⟩
def vJ.same{V:iY}{n0:M}{S:fA}(h:vJ V n0 S a)(c:jF V n0 S a f):vJ V n0 S f:=⟨aC h.1 c.1,h.aH,λk b=>⟨(h.each k b).1,ag (h.each k b).2 c.1⟩⟩
def IT.own{c f:M}(h:IT t c f V e X a):vJ t c X a:=by
 cases e<;>exact h.1
def IT.same{V:iY}{n0 j:M}{h:Array aa}{S:fA}(i:IT V n0 j h e S a)(b:jF V n0 S a f):IT V n0 j h e S f:=by
 cases e with
 |nil=>exact⟨i.1.same b,λg c d=>i.2 g (b.trans c) d⟩
 |cons x e=>exact⟨i.1.same b,λg c d=>i.2 g (b.trans c) d⟩
def jf(V:iY)(c:M)(v:aa)(l:cJ)(S:fA)(w:Y):Prop:=∃f b,v=.func (.func f) #[] b/\(∀a w,(callFunc f a).run bz w=.ok (.enter f a) w)/\IT V c f b l S w
def jf.same{V:iY}{n0:M}{S:fA}(k:jf V n0 d e S a)(i:jF V n0 S a f):jf V n0 d e S f:=by
 obtain⟨j,b,c,g,h⟩:=k;exact⟨j,b,c,g,h.same i⟩
def jf.own(j:jf t c d e X a):vJ t c X a:=by
 obtain⟨f,h,k,l,g⟩:=j;exact g.own
def Cr(x a:E)(w:Y):cD bz 223 #[x.value,a.value] w λf e=>f=aL (aK<|ahead x a)/\e=cF (cF w<|ar #[aj x.key,aj x.val,aK x.del,aJ x.bP] 180) (ar #[aj a.key,aj a.val,aK a.del,aJ a.bP] 180):=by
 have b:ahead x a=(Op.bytesLess x.key.toList a.key.toList||((x.key.toList==a.key.toList)&&decide (a.bP<x.bP))):=by unfold ahead iP;congr 2;rw[wJ];simp only[beq_iff_eq,nz];grind[FX]
 rw[b];clear b;obtain⟨c,j,i,g⟩:=x;obtain⟨d,m,l,k⟩:=a;unfold E.value;simp only;cases h1:Op.bytesLess c.toList d.toList with
 |true=>
  go_in
  go_wp2;go_ret;simp_all
 |false=>
  cases h2:(c.toList==d.toList)with
  |true=>
   go_in
   go_wp2;go_ret;simp_all
  |false=>
   go_in
   go_wp2;go_ret;simp_all
def zD{f:M}(B:Array aa)(o:M)(p:M->Bool)(w:Y)(D:Enters bz f)(hn:o<=1000000000000)(F:∀ac Q,ac<=Q->Q<o->p ac=bU->p Q=bU)(E:∀j,j<o->∀W,Below (z<|G w) w W->cD bz f (#[ap j]++B) W λC P=>C=aL (aK<|p j)/\Below (z<|G W) W P):cD bz 250 #[ap o,.func (.func f) #[] B] w λC X=>∃N:M,C=aL (ap N)/\N<=o/\(∀j,j<N->p j=aY)/\(∀j,N<=j->j<o->p j=bU)/\Below (z<|G w) w X:=by
 have eg:∀a w,(callFunc f a).run bz w=.ok (.enter f a) w:=D;have L:∀(x:Bool)(w:Y),(Op.unary .not<|aK x).run bz w=.ok (aK<|!x) w:=λ_ _=>rfl;have A:=U F;have O:=U E;clear F E D;go_in
 go_wp2;go_loopw [5,6] (λj a wr=>∃g e:M,j=ap g/\a=ap e/\g<=e/\e<=o/\(∀t,t<g->p t=aY)/\(∀t,e<=t->t<o->p t=bU)/\Below (z<|G w) w wr) (λj a _=>(intOf a).toNat-(intOf j).toNat)
 case atStart=>exact⟨0,o,rfl,rfl,bj _,ai _,λt h=>by omega,λt u h=>by omega,Below.refl _ _⟩
 case round=>
  obtain⟨g,e,rfl,rfl,S,l,r,s,b⟩:=hrel;obtain⟨v,x,k⟩:=dA r s b;by_cases T:g<e
  .obtain⟨m,V⟩:∃m:M,(g+e)/2=m:=⟨_,rfl⟩;have n:m<o:=by omega
   have a:=O m n wr b;have K:((g:Z)+(e:Z))/2=(m:Z):=by omega
   clear r s b;cases hp:p m with
   |false=>
    rw[hp]at a;have q:=U (λt(u:t<m+1)=>(show p t=aY from by
     cases c:p t with
     |false=>rfl
     |true=>have:=A t m (by omega) n c;rw[hp]at this;cases this))
    clear hp;go_wp2_with(go_at_fn f;refine a.mono ?_;rintro C w1⟨rfl,d⟩;have i:=U d;clear d)
    go_roundw;case rel=>exact⟨m+1,e,by go_num,rfl,by omega,l,q,x,k.trans<|i.mono k.size⟩
    case measure=>simp[intOf];omega
   |true=>
    rw[hp]at a;have q:=U<|λt(u:m<=t)(a:t<o)=>A m t u a hp;clear hp;go_wp2_with(go_at_fn f;refine a.mono ?_;rintro C w1⟨rfl,d⟩;have i:=U d;clear d)
    go_roundw;case rel=>exact⟨g,m,rfl,by go_num,by omega,by omega,v,q,k.trans<|i.mono k.size⟩
    case measure=>simp[intOf];omega
  .have a:g=e:=by omega
   subst a;clear r s b;go_wp2;go_ret;exact⟨g,rfl,l,v,x,k⟩
def aF(l:cJ):iC:=l.flatMap E.cells
theorem fP(l:cJ):y (aF l)=y l*4:=by
 induction l with
 |nil=>rfl
 |cons e r a=>unfold aF at*;rw[dF,af,a];simp[E.cells];omega
theorem fQ(a b:cJ):aF (a++b)=aF a++aF b:=by simp[aF]
def eE(l:cJ)(n:M)(h:n<y l):(aF l)[n*4]?=H (aj l[n].key)/\(aF l)[n*4+1]?=H (aj l[n].val)/\(aF l)[n*4+2]?=H (aK l[n].del)/\(aF l)[n*4+3]?=H (aJ l[n].bP):=by
 have e:aF l=aF (l.take n)++(E.cells l[n]++aF (l.drop<|n+1)):=by(have b:l=l.take n++l[n]::l.drop (n+1):=by rw[<-aZ h,bN]);(conv=>lhs;rw[b]);simp only[aF,gd,dF]
 have a:y (aF<|l.take n)=n*4:=by rw[fP];simp;omega
 refine⟨?_,?_,?_,?_⟩;rw[e,fU (by omega),a];simp[E.cells];rw[e,fU (by omega),a,show n*4+1-n*4=1 by omega];simp[E.cells];rw[e,fU (by omega),a,show n*4+2-n*4=2 by omega];simp[E.cells];rw[e,fU (by omega),a,show n*4+3-n*4=3 by omega];simp[E.cells]
def kr(w:Y)(v:aa)(l:cJ):Prop:=Row w 4 v (y l)<|aF l
def kr.below{B:M}(n:kr a d e)(k:Below B a f)(m:∀o,ct d=H o->o<B):kr f d e:=by
 obtain⟨h,⟨rfl,j⟩|⟨i,b,c,rfl,g,l⟩⟩:=n;exact⟨h,.inl ⟨rfl,j⟩⟩;exact⟨h,.inr ⟨i,b,c,rfl,g,λn u j=>(k.cell (p:=(R i<|b+n))<|m i rfl).trans<|l n u j⟩⟩
def below_drewN{w wr:Y}(h:Below b w wr)(q:M):Below b w (wr.drewN q):=⟨h.os,h.tape,h.output,h.size,h.block⟩
def Jg{b:ab}(h:W≠b):(W.toList==b.toList)=aY:=by
 grind[FX]
def ii.below{B b:M}(h:ii a b w)(c:Below B a f)(d:b<B):ii f b w:=(c.block b d).trans h
def Pe(h:kr a d e)(i:ep a b d 97)(p:ii a c w)(j:M)(P:j<y e):cD bz 251 #[ap j,ay b,ay c] a λX Q=>X=aL (aK<|!ahead e[j] w)/\Below (z<|G a) a Q:=by
 have t:∀(w:Bool)(a:Y),(Op.unary .not<|aK w).run bz a=.ok (aK<|!w) a:=λ_ _=>rfl;have c1:=i.cell;obtain⟨S,T,V,W⟩:=p.cells;obtain⟨O,⟨rfl,h0⟩|⟨l,f,m,rfl,o,r⟩⟩:=h;omega;have s:=eE e j P;have q:=r _ _ s.1;have K:aO a (R l<|f+j*4+1)=H (aj e[j].val):=by rw[aV];grind
 have L:aO a (R l<|f+j*4+2)=H (aK e[j].del):=by rw[aV];grind
 have N:aO a (R l<|f+j*4+3)=H (aJ e[j].bP):=by rw[aV];grind
 have n:=λW=>Cr e[j] w W;have e2:(j:Z)<(y e:Z):=by omega
 have e3:(0:Z)<=(j:Z):=by omega
 generalize e[j]=k at*;generalize ahead k w=ac at*;obtain⟨D,F,C,B⟩:=k;obtain⟨x,A,v,u⟩:=w;unfold E.value at n;simp only at n S T V W q K L N;have u1:=am i;have u2:=am p;have u3:l<z (G a):=dj _ _ q;clear r s p i O o;go_in
 go_wp2_with fail
 go_region_held3(λg=>aO g (R b 0)=H (bB l f (y e) m)/\aO g (R l<|f+j*4)=H (aj D)/\aO g (R l<|f+j*4+1)=H (aj F)/\aO g (R l<|f+j*4+2)=H (aK C)/\aO g (R l<|f+j*4+3)=H (aJ B)/\aO g (R c 0)=H (aj x)/\aO g (R c 1)=H (aj A)/\aO g (R c 2)=H (aK v)/\aO g (R c 3)=H (aJ u)) (first|assumption|go_keep) (first|(go_at_call 223;refine(n _).mono ?_;rintro X w1⟨rfl,rfl⟩))
 go_wp2;go_ret;have i:Below (z<|G a) a (cF (cF a<|ar #[aj D,aj F,aK C,aJ B] 180)<|ar #[aj x,aj A,aK v,aJ u] 180):=((Below.refl _ a).alloc (ai _) _).alloc (by simp) _;exact⟨rfl,i.os,i.tape,i.output,i.size,i.block⟩
def BN(E:aa)(v:ab)(l:Z)(w:Y)(h:kr w E e)(B:dM e)(N:y e<=1000000000000)(D:∀l,ct E=H l->l<z (G w)):cD bz 209 #[E,aj v,aJ l] w λT S=>T=aL (ap<|lA e ⟨v,⟨#[]⟩,aY,l⟩)/\Below (z<|G w) w S:=by
 obtain⟨W,c⟩:∃W,cF (cF w<|ar #[E] 97) (ar #[aj v,aj ⟨#[]⟩,aK aY,aJ l] 180)=W:=⟨_,rfl⟩;have r:Below (z<|G w) w W:=by rw[<-c];exact((Below.refl _ w).alloc (ai _) _).alloc (by simp) _
 have P:z (G W)=z (G w)+2:=by rw[<-c];simp
 have a:ep W (z<|G w) E 97:=by rw[<-c];grind[ep.alloc,aB]
 have f:ii W (z (G w)+1) ⟨v,⟨#[]⟩,aY,l⟩:=by rw[<-c];exact aB _<|by simp
 have k:=zD #[ay<|z<|G w,ay<|z (G w)+1] (y e) (λx=>if A:x<y e then !ahead e[x] ⟨v,⟨#[]⟩,aY,l⟩else bU) W (enters_of func251 (by kernel_rfl) rfl) N (by
  intro x V s g q;have t:x<y e:=by omega
  simp only[g,t,zY]at q|-;cases d:ahead e[V] ⟨v,⟨#[]⟩,aY,l⟩with
  |false=>rfl
  |true=>rw[B.mono s g d]at q;cases q)
  (by
   intro x A L o;apply(Pe (h.below (r.trans (o.mono (by omega))) D) ((o.block _ (by omega)).trans a) (f.below o (by omega)) x A).mono;grind)
 have n:=U k;obtain⟨ad,ac,u⟩:=bM h;have F:=U r;clear k h B D r a f P;subst u;subst c;go_in
 go_wp2_with(go_at_call 250;refine n.mono ?_;rintro T X⟨p,rfl,O,i,j,a⟩;have K:=U<|show lA e ⟨v,⟨#[]⟩,aY,l⟩=p from XW O (λQ C b=>by have:=i Q b;grind) (λQ C b=>by have:=j Q b C;grind);have m:=U a;clear i j a)
 go_ret;rw[ae K];exact⟨rfl,F.trans<|m.mono (by simp;omega)⟩
def ep.same{V:iY}{n0:M}{S:fA}{t:TypeId}(h:ep a b d t)(e:jF V n0 S a f)(c:S b):ep f b d t:=(e.2 b<|.inr c).trans h
def ym(c a b:M)(v:aa)(k:M):Prop:=k=a\/k=b\/(ct v=H k/\c<=k)
structure KO(V:iY)(n0:M)(w:Y)(xi xl:M)(v:aa)(l:cJ)(i:M):Prop where
 bi:ep w xi (ap i) 3
 bl:ep w xl v 97
 r7:kr w v l
 il:xi≠xl
 own:∀k,ct v=H k->k≠xi/\k≠xl/\¬V.F k/\k<z (G w)
def KO.p9(s:KO t b a c g d e l)(q:jF t b (ym b c g d) a f):kr f d e:=by
 have r:=s.own;obtain⟨k,⟨rfl,n⟩|⟨m,h,i,rfl,j,o⟩⟩:=s.r7;exact⟨k,.inl ⟨rfl,n⟩⟩;refine⟨k,.inr ⟨m,h,i,rfl,j,λv w p=>q.cell ?_<|o v w p⟩⟩;by_cases u:b<=m;exact .inl<|.inr<|.inr ⟨rfl,u⟩;exact .inr ⟨by omega,(r m rfl).2.2.1⟩
def TF(V:iY)(e c g:M)(A:aa)(n:cJ)(hl:y n<=1000000000000):∀(an l:M)(ad:Y),an=y n-l->l<=y n->KO V e ad c g A n l->vJ V e (ym e c g A) ad->IT V e 325 #[ay c,ay g] (n.drop l) (ym e c g A) ad:=by
 intro an;induction an with
 |zero=>
  intro l ad K W f p;have a:l=y n:=by omega
  subst a;rw[gh];refine⟨p,λb i s=>?_⟩;have h0:=(f.bi.same i<|.inl rfl).cell;have Q:=(f.bl.same i<|.inr<|.inl rfl).cell;have D:=U<|λd(av:I (ym e c g A) b d)=>V.fD s av p.apart;have e0:=am<|f.bi.same i<|.inl rfl;have e1:=am<|f.bl.same i<|.inr<|.inl rfl;obtain⟨al,j,o⟩:=bM f.r7;rw[o]at Q;clear f i s K W o;go_in
  go_wp2;refine cP (fZ rfl _ _ (z<|G b) ⟨⟨#[]⟩,⟨#[]⟩,aY,0⟩ _ _ rfl<|aB _ rfl) rfl ?_;refine⟨rfl,?_⟩;have q:I (ym e c g A) b (cF b<|ar #[aj ⟨#[]⟩,aj ⟨#[]⟩,aK aY,aJ 0] 180):=(cK _ _);exact⟨D _ q,q.mono<|λal o=>.inl<|.inl o⟩
 |succ an X=>
  intro l ad K W f p;have v:l<y n:=by omega
  rw[aZ v];refine⟨p,λb i s=>?_⟩;have k:=f.bi.same i<|.inl rfl;have m:=f.bl.same i<|.inr<|.inl rfl;have h0:=k.cell;have au:=k.free;have Q:=m.cell;have hE:=f.p9 i;have P:=f.own;have n2:=f.il;obtain⟨D,HI,HO,HS⟩:=gH (λd(av:I (ym e c g A) b d)=>V.fD s av p.apart) (λd(a:KO V e d c g A n (l+1))(f:vJ V e (ym e c g A) d)=>X (l+1) d (by omega) (by omega) a f) (p.same i) i.1;clear f i s K X p;obtain⟨t,⟨rfl,aq⟩|⟨r,a,j,rfl,u,E⟩⟩:=hE
  .omega
  have S:=eE n l v;have w:aO b (R r<|a+l*4)=H (aj n[l].key):=E _ _ S.1;have L:aO b (R r<|a+l*4+1)=H (aj n[l].val):=by rw[aV];grind
  have N:aO b (R r<|a+l*4+2)=H (aK n[l].del):=by rw[aV];grind
  have O:aO b (R r<|a+l*4+3)=H (aJ n[l].bP):=by rw[aV];grind
  have e0:=am k;have e1:=am m;have e2:r<z (G b):=dj _ _ w;have n1:c≠r:=λao=>(P r rfl).1 ao.symm;obtain⟨HE,C,B,HV⟩:=gH (show Row b 4 (bB r a (y n) j) (y n) (aF n)from⟨t,.inr ⟨r,a,j,rfl,u,E⟩⟩) m k P;clear S k m E P t u;generalize n[l]=al at*;obtain⟨xk,xv,xd,xb⟩:=al;simp only at w L N O;go_in
  go_wp2;refine cP (fZ rfl _ _ (z<|G b) ⟨xk,xv,xd,xb⟩ _ _ rfl<|aB _ gM.symm) rfl ?_;refine⟨rfl,?_⟩;have q:I (λac=>ac=c) b (cF (cA b (R c 0)<|ap<|l+1)<|ar #[aj xk,aj xv,aK xd,aJ xb] 180):=(gW c b).alloc _;have x:I (ym e c g<|bB r a (y n) j) b _:=q.mono (T:=ym e c g<|bB r a (y n) j)<|λal o=>.inl<|.inl o;refine⟨D _ x,x.mono<|λal o=>.inl<|.inl o,ym e c g _,λac F=>.inl F,HI _ ?_<|HO.aw q⟩;refine⟨(B.set _).alloc _,(C.other _<|λao=>n2 ao.symm).alloc _,q.row HE ?_,n2,λac F=>?_⟩
  .rintro ac⟨⟩;grind
  .obtain⟨q1,q2,q3,q4⟩:=HV ac F;exact⟨q1,q2,q3,ag q4<|aC HS q.size⟩
def Nd(V:iY)(m:M)(i:ab)(h:kr a d e)(F:dM e)(t:∀L∈e,L.bP<18446744073709551616)(N:y e<=1000000000000)(u:∀k,ct d=H k->¬V.F k/\k<z (G a))(hn:m<=z (G a))(hF:∀k,V.F k->k<m):cD bz 323 #[d,aj i] a λA S=>∃Q al,A=aL Q/\jf V m Q (fT i e) al S/\Below (z<|G a) a S/\(∀k,al k->(ct d=H k/\m<=k)\/z (G a)<=k):=by
 have O:=λW(o:Below (z<|G a) a W)=>BN d i 18446744073709551615 W (by
  obtain⟨p,⟨rfl,C⟩|⟨B,b,c,rfl,j,D⟩⟩:=h
  .exact⟨p,.inl ⟨rfl,C⟩⟩
  .exact⟨p,.inr ⟨B,b,c,rfl,j,λP ad E=>(o.cell (p:=(R B (b+P))) (u B rfl).2).trans (D P ad E)⟩⟩) F N (λa q=>ag (u a q).2 o.size)
 obtain⟨HP,v,w⟩:=dA O (show fT i e=e.drop (lA e ⟨i,⟨#[]⟩,aY,18446744073709551615⟩)from(SA F i _ _ (λL a=>by have:=t L a;omega)).symm)<|JA e ⟨i,⟨#[]⟩,aY,18446744073709551615⟩;have K:=bM h;obtain⟨HH,x,X⟩:=dA h u hF;clear O u h F hF t;generalize lA e ⟨i,⟨#[]⟩,aY,18446744073709551615⟩=T at*;obtain⟨L,c,rfl⟩:=K;go_in
 go_wp2_with(go_at_call 209;refine(HP _<|(Below.refl _ a).alloc (ai _) _).mono ?_;rintro A n⟨rfl,r⟩;have W:=U r;clear r)
 go_ret;have q:=ae W;have ac:z (G a)+1<=z (G n):=by have:=q.size;simp_all
 have g:Below (z<|G a) a n:=((Below.refl _ a).alloc (ai _) _).trans (q.mono<|by simp);have f:Below (z<|G a) a (cF n<|ar #[ap T] 3):=g.alloc g.size _;have s:ep n (z<|G a) (J L (y e) c) 97:=(q.block (z<|G a)<|by simp).trans<|aB _ rfl;refine⟨_,ym m (z<|G n) (z<|G a)<|J L (y e) c,rfl,⟨325,_,rfl,enters_of func325 (by kernel_rfl) rfl,?_⟩,f,?_⟩;rw[ae v];refine TF V m (z<|G n) (z<|G a) (J L (y e) c) e N _ T _ rfl w ⟨aB _ rfl,s.alloc _,?_,by omega,λk l=>?_⟩ ⟨by simp;omega,X,λk l=>?_⟩;obtain⟨p,⟨A,C⟩|⟨B,b,o,A,j,D⟩⟩:=ae HH;exact⟨p,.inl ⟨A,C⟩⟩;refine⟨p,.inr ⟨B,b,o,A,j,λP ad E=>(f.cell (p:=(R B<|b+P)) ?_).trans<|D P ad E⟩⟩;exact(x B (by rw[A];rfl)).2;obtain⟨o,q2⟩:=x k l;exact⟨by omega,by omega,o,by simp;omega⟩;rcases l with rfl|rfl|⟨l,o⟩;exact⟨by omega,by simp⟩;exact⟨by omega,by simp;omega⟩;exact⟨o,by have:=(x k l).2;simp;omega⟩;rintro k(rfl|rfl|l);right;omega;right;omega;grind
def rJ(a:T->E->Bool)(ER:T->E->T):T->cJ->cJ
 |_,[]=>[]
 |s,x::r=>if a s x then x::rJ a ER (ER s x) r else rJ a ER (ER s x) r
structure Ct(σ:Type)(V:iY)(n0:M)where
 f:M
 cb:Array aa
 test:σ->E->Bool
 ER:σ->E->σ
 inv:σ->Y->Prop
 S:M->Prop
 Ur:Enters bz f
 call:∀s x w,inv s w->cD bz f (#[x.value]++cb) w λe w'=>e=aL (aK<|test s x)/\inv (ER s x) w'/\I S w w'
 fD:∀s w w',inv s w->(∀k,S k->w'.heap[k]?=w.heap[k]?)->inv s w'
 lt:∀s w,inv s w->∀k,S k->n0<=k/\k<z (G w)
structure lT{σ:Type}{V:iY}{n0:M}(K:Ct σ V n0)(w:Y)(xn xk f:M)(cb:Array aa)(s:σ)(l:cJ)(S:fA):Prop where
 bn:ep w xn (.func (.func f) #[] cb) 190
 bk:ep w xk (.func (.func K.f) #[] K.cb) 373
 Ur:Enters bz f
 run:IT V n0 f cb l S w
 inv:K.inv s w
 own:n0<=xn/\n0<=xk
 nS:∀k,S k->k≠xn/\k≠xk/\¬K.S k
 nK:∀k,K.S k->k≠xn/\k≠xk
def Bj(K:Ct T t b)(c a:M)(S:fA)(k:M):Prop:=k=c\/k=a\/S k\/K.S k
def lT.same{V:iY}{n0:M}{K:Ct T V n0}{j:Array aa}{s:T}{S:fA}(h:lT K a b c g j s e S)(d:jF V n0 (Bj K b c S) a f):lT K f b c g j s e S:=⟨h.bn.same d<|.inl rfl,h.bk.same d<|.inr<|.inl rfl,h.Ur,h.run.same<|d.mono<|λ_ i=>.inr<|.inr<|.inl i,K.fD s a f h.inv<|λk i=>d.2 k<|.inr<|.inr<|.inr<|.inr i,h.own,h.nS,h.nK⟩
def lT.pQ{K:Ct T t b}{s:T}(h:lT K a c g l V s e X):vJ t b (Bj K c g X) a:=⟨h.run.own.size,h.run.own.aH,by
 rintro k(rfl|rfl|d|d)
 .exact⟨h.own.1,am h.bn⟩
 .exact⟨h.own.2,am h.bk⟩
 .exact h.run.own.each k d
 .exact K.lt s a h.inv k d⟩
def lT.UF{K:Ct T t b}{s:T}{j:fA}(h:lT K a c g l V s e X)(n:I (λk=>X k\/t.F k) a f)(p:∀k,j k->X k\/z (G a)<=k)(q:IT t b l V L j f):lT K f c g l V s L j:=by
 have o:=h.pQ;have hF:∀k,b<=k->¬t.F k:=λk i a=>by have:=o.aH k a;omega
 refine⟨(n.block c (am h.bn) ?_).trans h.bn,(n.block g (am h.bk) ?_).trans h.bk,h.Ur,q,K.fD s a f h.inv<|λk i=>n.block k (K.lt s a h.inv k i).2 ?_,h.own,λk i=>?_,h.nK⟩;rintro(d|d);exact(h.nS c d).1 rfl;exact hF c h.own.1 d;rintro(d|d);exact(h.nS g d).2.1 rfl;exact hF g h.own.2 d;rintro(d|d);exact(h.nS k d).2.2 i;exact hF k (K.lt s a h.inv k i).1 d;rcases p k i with d|d;exact h.nS k d;refine⟨?_,?_,?_⟩;rintro rfl;have:=am h.bn;omega;rintro rfl;have:=am h.bk;omega;intro m;have:=(K.lt s a h.inv k m).2;omega
def lT.kept{σ:Type}{K:Ct σ t b}{g d f:M}{s j:σ}(h:lT K a g d f V s e X)(i:I K.S a C)(n:K.inv j C):lT K C g d f V j e X:=by
 have m:=h.pQ;have hF:∀k,b<=k->¬t.F k:=λk c a=>by have:=m.aH k a;omega
 refine⟨(i.block g (am h.bn)<|λl=>(h.nK g l).1 rfl).trans h.bn,(i.block d (am h.bk)<|λl=>(h.nK d l).2 rfl).trans h.bk,h.Ur,h.run.same ?_,n,h.own,h.nS,h.nK⟩;refine i.same h.run.own.size (λk c=>⟨(h.run.own.each k c).2,(h.nS k c).2.2⟩)<|λk c o=>?_;have:=(K.lt s a h.inv k c).1;omega
def lT.laid{K:Ct T t b}{s:T}(h:lT K a c g l V s e X)(o:Obj):lT K (cF a o) c g l V s e X:=h.kept ((I.refl _ _).alloc o)<|K.fD s a _ h.inv<|λk d=>gl o (K.lt s a h.inv k d).2
def lT.apart{K:Ct T t b}{s:T}{n:fA}(i:lT K a c g l V s e X)(m:I n a f)(h:∀k,n k->¬Bj K c g X k/\b<=k):lT K f c g l V s e X:=i.same<|m.same i.run.own.size (λk d=>⟨(i.pQ.each k d).2,λo=>(h k o).1 d⟩) (λk d j=>by have:=(h k d).2;omega)
def wW(w:Y)(b:M)(a:E):Y:=cA (cA (cA (cA w (R b 0)<|aj a.key) (R b 1)<|aj a.val) (R b 2)<|aK a.del) (R b 3)<|aJ a.bP
def jc(w:Y)(b:M)(a:E):I (λk=>k=b) w (wW w b a):=(((gW b w).setCell b 1 _<|.inl rfl).setCell b 2 _<|.inl rfl).setCell b 3 _<|.inl rfl
def zJ(K:Ct T t b)(cp:Array aa)(dk:T)(hA:lT K a c g l cp dk e X)(hD:t.D a):cD bz 274 #[ay c,ay g] a λcq ca=>t.D ca/\I (λu=>Bj K c g X u\/t.F u) a ca/\((rJ K.test K.ER dk e=[]/\cq=aL (dw #[xe,aK aY,.nilIface]))\/(∃cm N l' S',rJ K.test K.ER dk e=cm::rJ K.test K.ER N l'/\cq=aL (dw #[cm.value,aK bU,.nilIface])/\lT K ca c g l cp N l' S'/\y l'<y e/\(∀u,S' u->X u\/z (G a)<=u))):=by
 have eg:∀A a,(callFunc l A).run bz a=.ok (.enter l A) a:=hA.Ur;have ek:∀A a,(callFunc K.f A).run bz a=.ok (.enter K.f A) a:=K.Ur;have HA:=U hA;have HD:=U hD;clear hA hD;go_in
 go_wp2;go_loopg [5] (y e+1) (λd _ wr=>∃N l' S',y l'<d/\lT K wr c g l cp N l' S'/\t.D wr/\I (λu=>Bj K c g X u\/t.F u) a wr/\rJ K.test K.ER dk e=rJ K.test K.ER N l'/\(∀u,S' u->X u\/z (G a)+1<=u)/\y l'<=y e/\ii wr (z<|G a) ⟨⟨#[]⟩,⟨#[]⟩,aY,0⟩/\¬S' (z<|G a)/\¬K.S (z<|G a))
 (case atStart=>have h:=HA;refine⟨dk,e,X,by omega,h.laid _,t.fD HD (cK az a) cO,(cK _ _),rfl,λu p=>.inl p,ai _,aB _ rfl,λv=>?_,λv=>?_⟩;have:=(h.run.own.each _ v).2;omega;have:=(K.lt _ _ h.inv _ v).2;omega)
 case round=>
  obtain⟨N,l',S',cj,V,bf,bi,av,bh,ck,bg,bk,bT⟩:=hrel;have dm:=V.bn.cell;have L:=V.run;cases l' with
  |nil=>
   have hc:=L.2 wr (jF.refl _ _ _ _) bf;have HN:=U bk;have O:=U V;have bd:=U bi;have Q:=U av;have P:=U bg;have S:=U bh;clear L V bf bi av bg bh bk bT cj ck;go_wp2_with(go_at_fn l;refine hc.mono ?_;rintro cq C⟨rfl,B,q⟩;have o:ii C (z<|G a) ⟨⟨#[]⟩,⟨#[]⟩,aY,0⟩:=P.aw q<|λv=>v.elim HN (λv=>by have:=O.pQ.aH _ v;have:=HA.pQ.size;omega);have bb:=o.cells;have bl:=o.free (i:=0);have bm:=o.free (i:=1);have bn:=o.free (i:=2);have bo:=o.free (i:=3);have d:=am o;have al:=U o;have ad:=U B;have ao:=U q;clear o B q;unfold xe;obtain⟨cc,cd,ce,ch⟩:=bb)
   refine cP (fZ rfl _ _ (z<|G a) ⟨⟨#[]⟩,⟨#[]⟩,aY,0⟩ _ _ rfl<|(al.put ⟨⟨#[]⟩,⟨#[]⟩,aY,0⟩).alloc _) rfl ?_;have W:I (λu=>u=z (G a)) C ((wW C (z<|G a) ⟨⟨#[]⟩,⟨#[]⟩,aY,0⟩).alloc<|ar #[aj ⟨#[]⟩,aj ⟨#[]⟩,aK aY,aJ 0] 180):=(jc _ _ _).alloc _;have x:=HA.pQ;refine⟨t.fD ad W (λu p hf=>by have:=x.aH u hf;have:=x.size;omega),?_,.inl ⟨Q.trans rfl,rfl⟩⟩;refine(bd.trans ao ?_).trans W (λu p=>.inr<|by omega);rintro u(p|p)
   .rcases S u p with v|v
    .exact .inl<|.inl<|.inr<|.inr<|.inl v
    grind
   grind
  |cons cm co=>
   have hc:=L.2 wr (jF.refl _ _ _ _) bf;have cb:rJ K.test K.ER N (cm::co)=if K.test N cm then cm::rJ K.test K.ER (K.ER N cm) co else rJ K.test K.ER (K.ER N cm) co:=rfl;rw[cb]at av;have HN:=U bk;have bc:=U bT;have O:=U V;have bd:=U bi;have Q:=U av;have P:=U bg;have S:=U bh;have cl:y co<y e:=by grind
   have dd:y co+1<gk:=by grind
   clear L V bf bi av bg bh bk bT cj ck cb;have r:=K.call N cm;obtain⟨j,k,f,d⟩:=cm;unfold E.value at r hc;simp only at r hc;cases hte:K.test N ⟨j,k,f,d⟩with
   |true=>
    rw[hte]at r;have br:=U (Q.trans<|by rw[dz hte]);clear Q hte;go_wp2_with(first
     |(go_at_fn l;refine hc.mono ?_;rintro cq C⟨rfl,B,q,S1,D,ax⟩;have hA1:=O.UF q D ax;have n:=hA1.laid<|.cells #[.string j,.string k,.bool f,.int .u64 d] 180;have o:ii C (z<|G a) ⟨⟨#[]⟩,⟨#[]⟩,aY,0⟩:=P.aw q<|λv=>v.elim HN (λv=>by have:=O.pQ.aH _ v;have:=HA.pQ.size;omega);have cs:=n.bk.cell;have F:ii (cF C<|.cells #[.string j,.string k,.bool f,.int .u64 d] 180) (z<|G C) ⟨j,k,f,d⟩:=aB _ rfl;have bb:=F.cells;have w:=r _ n.inv;have bs:=U (show¬K.S (z<|G C)fromλv=>by have:=(K.lt _ _ hA1.inv _ v).2;omega);have bt:=U F;have an:=U D;have ac:=U n;have al:=U o;have ad:=U B;have ao:=U q;clear o B q hA1 n ax D F;obtain⟨cc,cd,ce,ch⟩:=bb)
     |(go_at_fn K.f;refine w.mono ?_;rintro cq w2⟨rfl,au,s⟩;have ba:ii w2 (z (G C)) ⟨j,k,f,d⟩:=bt.aw s bs;have m:ii w2 (z (G a)) ⟨⟨#[]⟩,⟨#[]⟩,aY,0⟩:=(al.alloc _).aw s bc;obtain⟨Bp,cu,cv,cx⟩:=ba.cells;obtain⟨cB,cE,cM,cT⟩:=m.cells;have bl:=m.free (i:=0);have bm:=m.free (i:=1);have bn:=m.free (i:=2);have bo:=m.free (i:=3);have bq:=U m;have bp:=U (ac.kept s au);have aq:=U s;clear au s ba m))
    refine cP (fZ rfl _ _ (z<|G a) ⟨j,k,f,d⟩ _ _ rfl<|bq.put ⟨j,k,f,d⟩) rfl ?_;have W:I (λu=>u=z (G a)) w2 (wW w2 (z<|G a) ⟨j,k,f,d⟩):=jc _ _ _;have x:=HA.pQ;have hA2:=ae bp;have bx:=hA2.pQ;have dc:z (G a)<z (G wr):=am P;have db:¬Bj K c g S1 (z<|G a):=by
     rintro(v|v|v|v)
     .have:=(x.each c<|.inl rfl).2;omega
     .have:=(x.each g<|.inr<|.inl rfl).2;omega
     .rcases an _ v with cn|cn
      .exact HN cn
      .omega
     .exact bc v
    have bu:=t.fD ad (((I.refl az C).alloc<|ar #[aj j,aj k,aK f,aJ d] 180)) cO;have bv:=t.fD bu aq (λu p hf=>by have:=bx.aH u hf;have:=(K.lt _ _ ac.inv u p).1;omega);refine⟨t.fD bv W (λu p hf=>by have:=x.aH u hf;have:=x.size;omega),?_,.inr ⟨⟨j,k,f,d⟩,K.ER N ⟨j,k,f,d⟩,co,S1,br,rfl,hA2.apart W (λu p=>by rw[p];exact⟨db,x.size⟩),cl,λu p=>?_⟩⟩
    .refine(((bd.trans ao ?_).alloc _).trans aq ?_).trans W<|λu p=>.inr<|by omega
     .rintro u(p|p)
      .rcases S u p with v|v
       .exact .inl<|.inl<|.inr<|.inr<|.inl v
       grind
      grind
     .exactλu p=>.inl<|.inl<|.inr<|.inr<|.inr p
    .rcases an u p with v|v
     .rcases S u v with cn|cn
      .exact .inl cn
      grind
     grind
   |false=>
    rw[hte]at r;have br:=U (Q.trans<|by rw[dr (by rw[hte];simp)]);clear Q hte;go_wp2_with(first
     |(go_at_fn l;refine hc.mono ?_;rintro cq C⟨rfl,B,q,S1,D,ax⟩;have hA1:=O.UF q D ax;have n:=hA1.laid<|.cells #[.string j,.string k,.bool f,.int .u64 d] 180;have o:ii C (z<|G a) ⟨⟨#[]⟩,⟨#[]⟩,aY,0⟩:=P.aw q<|λv=>v.elim HN (λv=>by have:=O.pQ.aH _ v;have:=HA.pQ.size;omega);have cs:=n.bk.cell;have F:ii (cF C<|.cells #[.string j,.string k,.bool f,.int .u64 d] 180) (z<|G C) ⟨j,k,f,d⟩:=aB _ rfl;have bb:=F.cells;have w:=r _ n.inv;have bs:=U (show¬K.S (z<|G C)fromλv=>by have:=(K.lt _ _ hA1.inv _ v).2;omega);have bt:=U F;have an:=U D;have ac:=U n;have al:=U o;have ad:=U B;have ao:=U q;clear o B q hA1 n ax D F;obtain⟨cc,cd,ce,ch⟩:=bb)
     |(go_at_fn K.f;refine w.mono ?_;rintro cq w2⟨rfl,au,s⟩;have ba:ii w2 (z (G C)) ⟨j,k,f,d⟩:=bt.aw s bs;have m:ii w2 (z (G a)) ⟨⟨#[]⟩,⟨#[]⟩,aY,0⟩:=(al.alloc _).aw s bc;obtain⟨Bp,cu,cv,cx⟩:=ba.cells;obtain⟨cB,cE,cM,cT⟩:=m.cells;have bl:=m.free (i:=0);have bm:=m.free (i:=1);have bn:=m.free (i:=2);have bo:=m.free (i:=3);have bq:=U m;have bp:=U (ac.kept s au);have aq:=U s;clear au s ba m))
    go_roundg(y co+1);case measure=>omega
    case rel=>
     have x:=HA.pQ;have hA2:=ae bp;have bx:=hA2.pQ;have dc:z (G a)<z (G wr):=am P;have bu:=t.fD ad (((I.refl az C).alloc<|ar #[aj j,aj k,aK f,aJ d] 180)) cO;have bv:=t.fD bu aq (λu p hf=>by have:=bx.aH u hf;have:=(K.lt _ _ ac.inv u p).1;omega);refine⟨K.ER N ⟨j,k,f,d⟩,co,S1,by omega,hA2,bv,?_,br,λu p=>?_,by omega,bq,λv=>?_,bc⟩
     .refine((bd.trans ao ?_).alloc _).trans aq ?_
      .rintro u(p|p)
       .rcases S u p with v|v
        .exact .inl<|.inl<|.inr<|.inr<|.inl v
        grind
       grind
      .exactλu p=>.inl<|.inl<|.inr<|.inr<|.inr p
     .rcases an u p with v|v
      .exact S u v
      grind
     .rcases an _ v with cn|cn
      .exact HN cn
      .omega
def SK(K:Ct T t b)(h g E:M)(f:Array aa):∀(n:M)(s:T)(l:cJ)(S:fA)(w:Y),y l<=n->lT K w h g E f s l S->IT t b 274 #[ay h,ay g] (rJ K.test K.ER s l) (Bj K h g S) w:=by
 intro n;induction n with
 |zero=>
  intro s l S w x a;obtain rfl:l=[]:=aP (by omega);refine⟨a.pQ,λm e d=>(zJ K f s (a.same e) d).mono ?_⟩;grind
 |succ n A=>
  intro s l S w x a;cases hL:rJ K.test K.ER s l with
  |nil=>
   refine⟨a.pQ,λm e d=>(zJ K f s (a.same e) d).mono ?_⟩;grind
  |cons D O=>
   refine⟨a.pQ,λm e d=>(zJ K f s (a.same e) d).mono ?_⟩;rintro N j⟨p,q,⟨c,_⟩|⟨P,C,B,k,c,r,u,F,v⟩⟩
   .rw[hL]at c;cases c
   .rw[hL]at c;obtain⟨rfl,rfl⟩:=List.cons.inj c;refine⟨r,p,q,Bj K h g k,?_,A C B k j (by omega) u⟩;rintro L(i|i|i|i)
    .exact .inl<|.inl i
    .exact .inl<|.inr<|.inl i
    .rcases v L i with o|o
     .exact .inl<|.inr<|.inr<|.inl o
     .exact .inr o
    .exact .inl<|.inr<|.inr<|.inr i
def Mi(K:Ct T t b)(s:T)(B:jf t b d e X a)(g:K.inv s a)(m:∀k,X k->¬K.S k):cD bz 243 #[d,.func (.func K.f) #[] K.cb] a λC r=>∃q l,C=aL q/\jf t b q (rJ K.test K.ER s e) l r/\Below (z<|G a) a r/\(∀k,l k->X k\/K.S k\/z (G a)<=k):=by
 obtain⟨A,j,rfl,o,f⟩:=B;obtain⟨u,w,v,x⟩:=gH o f g m;clear o f g m;go_in
 go_wp2;go_ret;have f:=ae w;have g:=ae v;have n:Below (z<|G a) a (cF (cF a<|ar #[.func (.func A) #[] j] 190)<|ar #[.func (.func K.f) #[] K.cb] 373):=((Below.refl _ a).alloc (ai _) _).alloc (by simp) _;have p:I az a (cF (cF a<|ar #[.func (.func A) #[] j] 190)<|ar #[.func (.func K.f) #[] K.cb] 373):=I.aR n;refine⟨_,Bj K (z<|G a) (z (G a)+1) X,rfl,⟨274,_,rfl,enters_of func274 (by kernel_rfl) rfl,?_⟩,n,?_⟩;refine SK K (z<|G a) (z (G a)+1) A j _ s e X _ (ai _) ⟨?_,aB _ (by simp),u,f.same<|p.same f.own.size (λk c=>⟨(f.own.each k c).2,λi=>i⟩)<|λk c=>c.elim,K.fD s a _ g<|λk c=>?_,⟨f.own.size,by have:=f.own.size;omega⟩,λk c=>?_,λk c=>?_⟩;(grind[ep.alloc,aB]);exact p.block k (K.lt s a g k c).2<|λi=>i;have:=(f.own.each k c).2;exact⟨by omega,by omega,x k c⟩;have:=(K.lt s a g k c).2;grind
 rintro k(i|i|i|i);(grind);(grind);exact .inl i;grind
def Vo(V:iY)(b:M):Ct Unit V b where
 f:=244
 cb:=#[]
 test:=λ_ e=>!e.del
 ER:=λ_ _=>()
 inv:=λ_ _=>True
 S:=λ_=>False
 Ur:=enters_of func244 (by kernel_rfl) rfl
 call:=by
  rintro _⟨e,g,d,c⟩w _;unfold E.value;simp only;have a:∀(x:Bool)(w:Y),(Op.unary .not<|aK x).run bz w=.ok (aK<|!x) w:=λ_ _=>rfl;show cD bz 244 #[dW #[aj e,aj g,aK d,aJ c]] w _;go_in
  go_wp2;go_ret;exact⟨rfl,trivial,(cK _ w)⟩
 fD:=λ_ _ _ _ _=>trivial
 lt:=λ_ _ _ _ a=>a.elim
def Jz(l:cJ)(s:Unit):rJ (λ(_:Unit)e=>!e.del) (λ_ _=>()) s l=l.filter (λe=>!e.del):=by
 induction l generalizing s with
 |nil=>rfl
 |cons x r a=>
  unfold rJ;grind
def LZ(r:jf t b d e X a):cD bz 200 #[d] a λl g=>∃f c,l=aL f/\jf t b f (e.filter<|λl=>!l.del) c g/\Below (z<|G a) a g/\(∀m,c m->X m\/z (G a)<=m):=by
 have p:=Mi (Vo t b) () r trivial<|λ_ _ n=>n;have q:=Jz e ();have o:cD bz 243 #[d,.func (.func 244) #[] #[]] a λl g=>∃f c,l=aL f/\jf t b f (e.filter<|λl=>!l.del) c g/\Below (z<|G a) a g/\(∀m,c m->X m\/z (G a)<=m):=by apply p.mono;rintro l g⟨f,c,w,x,A,B⟩;refine⟨f,c,w,?_,A,λm C=>?_⟩;rw[<-q];exact x;rcases B m C with n|n|n;exact .inl n;exact n.elim;exact .inr n
 clear p q;obtain⟨F,D,rfl,_⟩:=r;go_in
 go_wp2_with(go_at_call 243;refine o.mono ?_;rintro l E⟨f,c,rfl,k,j,i⟩;have u:=U k;have s:=U j;have v:=U i;clear k j i)
 go_ret;exact⟨f,c,rfl,u,s,v⟩
def G6(V:iY)(m d b:M)(n:Z):Ct ab V m where
 f:=245
 cb:=#[ay d,ay b]
 test:=λs o=>decide (o.bP<=n)&&!decide (o.key=s)
 ER:=λs o=>if o.bP<=n then o.key else s
 inv:=λs w=>ep w d (aJ n) 98/\ep w b (aj s) 9/\m<=b/\m<=d/\d≠b
 S:=λv=>v=d\/v=b
 Ur:=enters_of func245 (by kernel_rfl) rfl
 call:=by
  rintro s⟨q,A,x,i⟩w⟨a,g,K,u,k⟩;unfold E.value;simp only;have C:=g.cell;have F:=g.free;have D:=a.cell;have t:=am g;have p:=am a;have j:=U g;have c:=U a;clear g a;show cD bz 245 #[dW #[aj q,aj A,aK x,aJ i],ay d,ay b] w _;by_cases l:i<=n
  .have r:¬n<i:=by omega
   by_cases e:q=s
   .subst e;simp only[l,mQ,uw,Bool.and_false,ir];go_in
    go_wp2;go_ret;exact⟨rfl,⟨c.alloc _,j.alloc _⟩,(cK _ w)⟩
   .have B:=Jg e;simp only[l,e,mQ,zZ,nI,Bool.and_true,ir];go_in
    go_wp2;go_ret;refine⟨rfl,⟨(c.other _ k).alloc _,(j.set _).alloc _⟩,?_⟩;exact((I.refl _ w).setCell b 0 _<|.inl<|.inr rfl).alloc _
  .have r:n<i:=by omega
   simp only[l,zZ,xu,jk];go_in
   go_wp2;go_ret;exact⟨rfl,⟨c.alloc _,j.alloc _⟩,(cK _ w)⟩
 fD:=λs w a h e=>⟨(e d<|.inl rfl).trans h.1,(e b<|.inr rfl).trans h.2.1,h.2.2⟩
 lt:=λs w h v e=>by
  grind
def YG(b:Z)(l:cJ)(s:ab):rJ (λs(e:E)=>decide (e.bP<=b)&&!decide (e.key=s)) (λs e=>if e.bP<=b then e.key else s) s l=nu s (l.filter<|λe=>decide<|e.bP<=b):=by
 induction l generalizing s with
 |nil=>rfl
 |cons x r c=>
  unfold rJ;by_cases a:x.bP<=b
  .rw[im<|by simp[a]];unfold nu;by_cases h:x.key=s
   .grind
   grind
  grind
structure Bi(V:iY)(n0:M)(ls:dL)where
 f:M
 cb:Array aa
 inv:Y->Prop
 S:M->Prop
 Ur:Enters bz f
 call:∀i(hi:i<y ls)w,inv w->V.D w->cD bz f (#[ap i]++cb) w λe w'=>∃v' S',e=aL (dw #[v',.nilIface])/\jf V n0 v' ls[i] S' w'/\V.D w'/\I V.F w w'/\(∀k,S' k->z (G w)<=k)
 fD:∀w w',inv w->jF V n0 S w w'->inv w'
 lt:∀w,inv w->∀k,S k->n0<=k/\k<z (G w)
structure iN{V:iY}{n0:M}{ls:dL}(O:Bi V n0 ls)(w:Y)(b c d g:M)(h:aa)(r:cJ)(a:M)(S:fA):Prop where
 br:ep w b h 190
 ba:ep w c (ap a) 3
 bn:ep w d (ap<|y ls) 3
 bo:ep w g (.func (.func O.f) #[] O.cb) 434
 row:(h=.nilFunc/\r=[]/\∀k,¬S k)\/jf V n0 h r S w
 inv:O.inv w
 le:a<=y ls
 size:n0<=z (G w)
 aH:∀k,V.F k->k<n0
 own:n0<=b/\n0<=c/\n0<=d/\n0<=g
 ra:b≠c
 rn:b≠d
 ro:b≠g
 an:c≠d
 ao:c≠g
 nS:∀k,S k->k≠b/\k≠c/\k≠d/\k≠g/\¬O.S k
 nO:∀k,O.S k->k≠b/\k≠c/\k≠d/\k≠g
def ni{V:iY}{n0:M}{lsqq:dL}(O:Bi V n0 lsqq)(b c d g:M)(S:fA)(k:M):Prop:=k=b\/k=c\/k=d\/k=g\/S k\/O.S k
def zn(r:cJ)(lsqq:dL)(a:M):cJ:=r++(lsqq.drop a).flatten
section
variable{V:iY}{n0:M}{lsqq:dL}{O:Bi V n0 lsqq}{w w':Y}{b c d g:M}{h:aa}{r:cJ}{a:M}{S:fA}
theorem iN.pQ(e:iN O w b c d g h r a S):vJ V n0 (ni O b c d g S) w:=⟨e.size,e.aH,by
 rintro k(rfl|rfl|rfl|rfl|f|f)
 .exact⟨e.own.1,am e.br⟩
 .exact⟨e.own.2.1,am e.ba⟩
 .exact⟨e.own.2.2.1,am e.bn⟩
 .exact⟨e.own.2.2.2,am e.bo⟩
 .rcases e.row with⟨_,_,i⟩|i
  .grind
  .exact i.own.each k f
 .exact O.lt w e.inv k f⟩
theorem iN.same(e:iN O w b c d g h r a S)(f:jF V n0 (ni O b c d g S) w w'):iN O w' b c d g h r a S:=⟨e.br.same f<|.inl rfl,e.ba.same f<|.inr<|.inl rfl,e.bn.same f<|.inr<|.inr<|.inl rfl,e.bo.same f<|.inr<|.inr<|.inr<|.inl rfl,e.row.imp id<|λj=>j.same<|f.mono<|λ_ i=>.inr<|.inr<|.inr<|.inr<|.inl i,O.fD w w' e.inv<|f.mono<|λ_ i=>.inr<|.inr<|.inr<|.inr<|.inr i,e.le,aC e.size f.1,e.aH,e.own,e.ra,e.rn,e.ro,e.an,e.ao,e.nS,e.nO⟩
theorem iN.apart{T:fA}(j:iN O w b c d g h r a S)(l:I T w w')(i:∀k,T k->¬ni O b c d g S k/\(k<n0->V.F k)):iN O w' b c d g h r a S:=j.same<|l.same j.size (λk e=>⟨(j.pQ.each k e).2,λm=>(i k m).1 e⟩)<|λk e f=>(i k e).2 f
theorem iN.laid(e:iN O w b c d g h r a S)(o:Obj):iN O (cF w o) b c d g h r a S:=e.apart ((I.refl az w).alloc o) cO
theorem iN.UF{p:cJ}{m:fA}(e:iN O w b c d g h r a S)(j:I (λk=>S k\/V.F k) w w')(q:∀k,m k->S k\/z (G w)<=k)(t:jf V n0 h p m w'):iN O w' b c d g h p a m:=by
 have o:=e.pQ;have hF:∀k,n0<=k->¬V.F k:=λk f e=>by have:=o.aH k e;omega
 have l:∀k,k=b\/k=c\/k=d\/k=g->¬(S k\/V.F k):=by rintro k f(i|i);(have:=e.nS k i;grind);rcases f with rfl|rfl|rfl|rfl;exact hF _ e.own.1 i;exact hF _ e.own.2.1 i;exact hF _ e.own.2.2.1 i;exact hF _ e.own.2.2.2 i
 refine⟨(j.block b (am e.br)<|l _<|.inl rfl).trans e.br,(j.block c (am e.ba)<|l _<|.inr<|.inl rfl).trans e.ba,(j.block d (am e.bn)<|l _<|.inr<|.inr<|.inl rfl).trans e.bn,(j.block g (am e.bo)<|l _<|.inr<|.inr<|.inr rfl).trans e.bo,.inr t,O.fD w w' e.inv<|j.same e.size (λk f=>⟨(O.lt w e.inv k f).2,?_⟩)<|λk f s=>?_,e.le,aC e.size j.size,e.aH,e.own,e.ra,e.rn,e.ro,e.an,e.ao,λk f=>?_,e.nO⟩;rintro(i|i);exact(e.nS k i).2.2.2.2 f;exact hF k (O.lt w e.inv k f).1 i;rcases f with i|i;have:=(o.each k<|.inr<|.inr<|.inr<|.inr<|.inl i).1;omega;exact i;rcases q k f with i|i;exact e.nS k i;refine⟨?_,?_,?_,?_,?_⟩;rintro rfl;have:=am e.br;omega;rintro rfl;have:=am e.ba;omega;rintro rfl;have:=am e.bn;omega;rintro rfl;have:=am e.bo;omega;intro n;have:=(O.lt w e.inv k n).2;omega
theorem iN.ended(e:iN O w b c d g h r a S)(j:I (λk=>S k\/V.F k) w w'):iN O (cA w' (R b 0) .nilFunc) b c d g .nilFunc [] a az:=by
 have t:=e.pQ;have hF:∀k,n0<=k->¬V.F k:=λk f e=>by have:=t.aH k e;omega
 have l:∀k,k=b\/k=c\/k=d\/k=g->¬(S k\/V.F k):=by rintro k f(i|i);(have:=e.nS k i;grind);rcases f with rfl|rfl|rfl|rfl;exact hF _ e.own.1 i;exact hF _ e.own.2.1 i;exact hF _ e.own.2.2.1 i;exact hF _ e.own.2.2.2 i
 have p:ep w' b h 190:=(j.block b (am e.br)<|l _<|.inl rfl).trans e.br;have m:ep w' c (ap a) 3:=(j.block c (am e.ba)<|l _<|.inr<|.inl rfl).trans e.ba;have n:ep w' d (ap<|y lsqq) 3:=(j.block d (am e.bn)<|l _<|.inr<|.inr<|.inl rfl).trans e.bn;have o:ep w' g (.func (.func O.f) #[] O.cb) 434:=(j.block g (am e.bo)<|l _<|.inr<|.inr<|.inr rfl).trans e.bo;have q:I (λk=>(S k\/V.F k)\/k=b) w (cA w' (R b 0) .nilFunc):=(j.mono (T:=λk=>(S k\/V.F k)\/k=b)<|λk f=>.inl<|.inl f).setCell b 0 _<|.inl<|.inr rfl;refine⟨p.set _,m.other _<|λs=>e.ra s.symm,n.other _<|λs=>e.rn s.symm,o.other _<|λs=>e.ro s.symm,.inl ⟨rfl,rfl,λ_ i=>i⟩,O.fD w _ e.inv<|q.same e.size (λk f=>⟨(O.lt w e.inv k f).2,?_⟩)<|λk f u=>?_,e.le,by rw[gM];exact aC e.size j.size,e.aH,e.own,e.ra,e.rn,e.ro,e.an,e.ao,cO,e.nO⟩;rintro((i|i)|i);exact(e.nS k i).2.2.2.2 f;exact hF k (O.lt w e.inv k f).1 i;exact(e.nO k f).1 i;rcases f with(i|i)|i;have:=(t.each k<|.inr<|.inr<|.inr<|.inr<|.inl i).1;omega;exact i;have:=e.own.1;subst i;omega
theorem iN.opened{q:aa}{o:fA}(x:a<y lsqq)(e:iN O w b c d g .nilFunc [] a S)(j:I V.F w w')(B:jf V n0 q lsqq[a] o w')(C:∀k,o k->z (G w)<=k):iN O (cA (cA w' (R b 0) q) (R c 0)<|ap<|(a:Z)+1) b c d g q lsqq[a] (a+1) o:=by
 have hF:∀k,n0<=k->¬V.F k:=λk f i=>by have:=e.aH k i;omega
 have D:∀k,o k->k≠b/\k≠c/\k≠d/\k≠g/\¬O.S k:=λk f=>by have:=C k f;have E:=am e.br;have F:=am e.ba;have K:=am e.bn;have L:=am e.bo;exact⟨by omega,by omega,by omega,by omega,λA=>by have:=(O.lt w e.inv k A).2;omega⟩
 have v:ep w' b .nilFunc 190:=(j.block b (am e.br)<|hF _ e.own.1).trans e.br;have s:ep w' c (ap a) 3:=(j.block c (am e.ba)<|hF _ e.own.2.1).trans e.ba;have t:ep w' d (ap<|y lsqq) 3:=(j.block d (am e.bn)<|hF _ e.own.2.2.1).trans e.bn;have u:ep w' g (.func (.func O.f) #[] O.cb) 434:=(j.block g (am e.bo)<|hF _ e.own.2.2.2).trans e.bo;have l:O.inv w':=O.fD w w' e.inv<|j.same e.size (λk f=>⟨(O.lt w e.inv k f).2,hF k (O.lt w e.inv k f).1⟩)<|λk f _=>f;have n:I (λk=>k=b\/k=c) w' (cA (cA w' (R b 0) q) (R c 0)<|ap<|(a:Z)+1):=((I.refl (λk=>k=b\/k=c) w').setCell b 0 _<|.inl<|.inl rfl).setCell c 0 _<|.inl<|.inr rfl;have i:n0<=z (G w'):=aC e.size j.size;have m:∀k,(k=b\/k=c)->k<n0->V.F k:=by rintro k(rfl|rfl)A;have:=e.own.1;omega;have:=e.own.2.1;omega
 refine⟨(v.set _).other _ e.ra,(s.other _<|λp=>e.ra p.symm).set _,(t.other _<|λp=>e.rn p.symm).other _<|λp=>e.an p.symm,(u.other _<|λp=>e.ro p.symm).other _<|λp=>e.ao p.symm,.inr<|B.same<|n.same i (λk f=>⟨(B.own.each k f).2,?_⟩) m,O.fD w' _ l<|n.same i (λk f=>⟨(O.lt w' l k f).2,?_⟩) m,x,by rw[gM,gM];exact i,e.aH,e.own,e.ra,e.rn,e.ro,e.an,e.ao,D,e.nO⟩;grind
 rintro(A|A);exact(e.nO k f).1 A;exact(e.nO k f).2.1 A
end
def oN{P:Program}{w:Y}{b:M}{u:aa}{t:TypeId}(h:ep w b u t)(v:aa)(d:v.oneCell'=bU):(store (R b 0) v).run P w=.ok () (cA w (R b 0) v):=by
 have a:=h.cell;have c:=h.free;rw[run_store P w _ _ _ d];simp[a,c]
abbrev zE:E:=⟨⟨#[]⟩,⟨#[]⟩,aY,0⟩
def IJ{O:Bi t b k}{j:fA}(m:vJ t b (ni O c g l A X) a)(p:iN O f c g l A d e Q j)(q:t.D f)(s:I (λi=>ni O c g l A X i\/t.F i) a f)(r:¬ni O c g l A j (z<|G a))(x:E)(o:Obj):t.D ((wW f (z<|G a) x).alloc o)/\I (λi=>ni O c g l A X i\/t.F i) a ((wW f (z<|G a) x).alloc o)/\iN O ((wW f (z<|G a) x).alloc o) c g l A d e Q j:=by
 have h:I (λi=>i=z (G a)) f ((wW f (z<|G a) x).alloc o):=(jc _ _ _).alloc o;refine⟨t.fD q h (λi n u=>by have:=m.aH i u;have:=m.size;omega),s.trans h (λi n=>.inr<|by omega),p.apart h<|λi n=>?_⟩;subst n;exact⟨r,λa=>by have:=m.size;omega⟩
def Dl(cd:Bi t b k)(hA:iN cd a c g l A d e Q X)(hD:t.D a)(ex:y k<=1000000000000):cD bz 334 #[ay c,ay g,ay l,ay A] a λds cq=>t.D cq/\I (λo=>ni cd c g l A X o\/t.F o) a cq/\((zn e k Q=[]/\ds=aL (dw #[xe,aK aY,.nilIface]))\/(∃dv bg r' C S',zn e k Q=dv::zn r' k C/\ds=aL (dw #[dv.value,aK bU,.nilIface])/\iN cd cq c g l A bg r' C S'/\(∀o,S' o->X o\/z (G a)<=o))):=by
 have eA:∀b a,(callFunc cd.f b).run bz a=.ok (.enter cd.f b) a:=cd.Ur;have ey:∀a,(binOp .eql 190 .nilFunc .nilFunc).run bz a=.ok (aK bU) a:=λ_=>rfl;have ez:∀f b a,(binOp .eql 190 (.func f #[] b) .nilFunc).run bz a=.ok (aK aY) a:=λ_ _ _=>rfl;have co:=hA.pQ;have T:=U co;have cB:∀o,b<=o->¬t.F o:=λo S hf=>by have:=co.aH o hf;omega
 obtain⟨x,HA,HD⟩:=dA cB hA hD;clear hA hD co cB;go_in
 go_wp2;go_loopg [9] (2*(y k-Q)+2) (λd _ wr=>∃bg r' C S' eo,2*(y k-C)+eo<d/\((bg=.nilFunc/\r'=[])\/(eo=1/\jf t b bg r' S' wr))/\iN cd wr c g l A bg r' C S'/\t.D wr/\I (λo=>ni cd c g l A X o\/t.F o) a wr/\zn e k Q=zn r' k C/\(∀o,S' o->X o\/z (G a)+1<=o)/\ii wr (z<|G a) zE/\¬ni cd c g l A S' (z<|G a))
 (case atStart=>have h:=ae HA;refine⟨d,e,Q,X,1,by omega,?_,h.laid _,t.fD HD (cK az a) cO,(cK _ _),rfl,λo S=>.inl S,aB _ rfl,λj=>?_⟩;(rcases(h.laid<|ar #[aj ⟨#[]⟩,aj ⟨#[]⟩,aK aY,aJ 0] 180).row with⟨c1,c2,_⟩|j;(grind);grind);have:=(h.pQ.each _ j).2;omega)
 case round=>
  obtain⟨bg,r',C,S',eo,br,dk,p,ac,bn,bf,bm,F,bl⟩:=hrel;have ev:=p.br.cell;have es:=p.ba.cell;have et:=p.bn.cell;have eu:=p.bo.cell;have n1:=p.ra;have n2:¬g=c:=λds=>p.ra ds.symm;have bh:=U bn;have ck:=U bf;have W:=U F;have cu:=U bm;have m:=U bl;have cs:=U br;rcases dk with⟨rfl,rfl⟩|⟨rfl,O,w,rfl,eq,bc⟩
  .by_cases cb:C<y k
   .have cc:=cd.call C cb wr p.inv ac;have cE:zn [] k C=zn k[C] k (C+1):=by unfold zn;rw[aZ cb,bG,cU]
    have bx:=U<|bf.trans cE;have cx:=p.br;have cv:=p.ba;obtain⟨HK,bv,bu⟩:=dA (show∀o,o=c\/o=g->b<=o by rintro o(rfl|rfl);exact p.own.1;exact p.own.2.1) cx cv;clear cx cv;have ch:=U p;clear p ac bn bf F bm bl br cE;cases hla:k[C]with
    |nil=>
     rw[hla]at cc bx;have cl:=U hla;clear hla;go_wp2_with(first
      |(go_at_fn cd.f;refine cc.mono ?_;rintro ds w1⟨v1,S1,rfl,bq,bi,N,au⟩;obtain⟨O,w,rfl,ca,bs⟩:=bq;have hA1:=ch.opened cb N (by rw[ae cl];exact⟨O,w,rfl,ca,bs⟩) au;have K:ep w1 c .nilFunc 190:=(N.block c (am bv)<|x _<|HK _<|.inl rfl).trans bv;have B:ep w1 g (.int .i64 C) 3:=(N.block g (am bu)<|x _<|HK _<|.inr rfl).trans bu;have dm:=oN (P:=bz) K (.func (.func O) #[] w) rfl;have cM:=B.cell;have cT:=B.free;have dc:=am K;have db:=am B;have bb:I (λo=>o=c\/o=g) w1 (cA (cA w1 (R c 0)<|.func (.func O) #[] w) (R g 0)<|.int .i64<|(C:Z)+1):=((I.refl (λo=>o=c\/o=g) w1).setCell c 0 _<|.inl<|.inl rfl).setCell g 0 _<|.inl<|.inr rfl;have bk:=t.fD bi bb<|λo S=>x o<|HK o S;have bt:IT t b O w [] S1 (cA (cA w1 (R c 0)<|.func (.func O) #[] w) (R g 0)<|.int .i64<|(C:Z)+1):=(by rcases hA1.row with⟨j,_⟩|⟨f2,dx,en,_,ax⟩;cases j;grind[ae]);have L:=bt.2 _ (jF.refl _ _ _ _) bk;have dT:=hA1.br.cell;have ef:=hA1.br.free;have ek:=am hA1.br;have v:=U hA1;have ao:=U N;have bd:=U au;have aq:=U bb;clear bi N au bs hA1 K B bb bk bt)
      |(go_at_fn O;refine L.mono ?_;rintro ds w2⟨rfl,D,q⟩;have hA2:=v.ended (q.alloc (.cells #[.string ⟨#[]⟩,.string ⟨#[]⟩,.bool aY,.int .u64 0] 180));have bo:ep w2 c (.func (.func O) #[] w) 190:=(q.block c (am v.br) (λj=>j.elim (λj=>(v.nS c j).1 rfl) (λj=>x _ v.own.1 j))).trans v.br;have dn:=oN (P:=bz) (bo.alloc (.cells #[.string ⟨#[]⟩,.string ⟨#[]⟩,.bool aY,.int .u64 0] 180)) .nilFunc rfl;have al:=U hA2;have an:=U D;have V:=U q;clear hA2 D q bo;unfold xe))
     go_roundg(2*(y k-C));case measure=>have:=ae cs;omega
     case rel=>
      have ba:z (G a)<z (G wr):=am W;have cp:¬t.F (z<|G a):=x _ T.size;have ad:z (G a)≠c/\z (G a)≠g:=⟨λj=>m<|.inl j,λj=>m<|.inr<|.inl j⟩;have em:=aq.size;have el:=ao.size;have hT:I (λo=>ni cd c g l A X o\/t.F o) a (cA (cF w2<|ar #[aj ⟨#[]⟩,aj ⟨#[]⟩,aK aY,aJ 0] 180) (R c 0) .nilFunc):=by
       refine((((bh.trans ao<|λo S=>.inl<|.inr S).trans aq ?_).trans V ?_).alloc _).setCell c 0 _<|.inl<|.inl<|.inl rfl
       .rintro o(j|j)
        .exact .inl<|.inl<|.inl j
        .exact .inl<|.inl<|.inr<|.inl j
       .rintro o(j|j)
        .have:=bd o j;grind
        grind
      have cm:=t.fD an (((I.refl (λo=>o=c) w2).alloc<|ar #[aj ⟨#[]⟩,aj ⟨#[]⟩,aK aY,aJ 0] 180).setCell c 0 .nilFunc<|.inl rfl) (λo S=>by rw[S];exact x _ v.own.1);have n:ii (cA (cF w2<|ar #[aj ⟨#[]⟩,aj ⟨#[]⟩,aK aY,aJ 0] 180) (R c 0) .nilFunc) (z<|G a) zE:=by
       refine(iw _ ad.1).trans<|ii.alloc (b:=z<|G a) (x:=zE) ?_ _;refine(((W.aw ao cp).aw aq<|λj=>j.elim ad.1 ad.2).aw V ?_);rintro(j|j)
       .have:=bd _ j;omega
       grind
      refine⟨.nilFunc,[],C+1,λ_=>False,0,by omega,.inl ⟨rfl,rfl⟩,al,cm,hT,bx,cO,n,?_⟩;rintro(j|j|j|j|j|j)
      .exact ad.1 j
      .exact ad.2 j
      .exact m<|.inr<|.inr<|.inl j
      .exact m<|.inr<|.inr<|.inr<|.inl j
      .exact j
      .exact m<|.inr<|.inr<|.inr<|.inr<|.inr j
    |cons dv r2=>
     rw[hla]at cc bx;have cl:=U hla;clear hla;obtain⟨s,u,r,f⟩:=dv;go_wp2_with(first
      |(go_at_fn cd.f;refine cc.mono ?_;rintro ds w1⟨v1,S1,rfl,bq,bi,N,au⟩;obtain⟨O,w,rfl,ca,bs⟩:=bq;have hA1:=ch.opened cb N (by rw[ae cl];exact⟨O,w,rfl,ca,bs⟩) au;have K:ep w1 c .nilFunc 190:=(N.block c (am bv)<|x _<|HK _<|.inl rfl).trans bv;have B:ep w1 g (.int .i64 C) 3:=(N.block g (am bu)<|x _<|HK _<|.inr rfl).trans bu;have dm:=oN (P:=bz) K (.func (.func O) #[] w) rfl;have cM:=B.cell;have cT:=B.free;have dc:=am K;have db:=am B;have bb:I (λo=>o=c\/o=g) w1 (cA (cA w1 (R c 0)<|.func (.func O) #[] w) (R g 0)<|.int .i64<|(C:Z)+1):=((I.refl (λo=>o=c\/o=g) w1).setCell c 0 _<|.inl<|.inl rfl).setCell g 0 _<|.inl<|.inr rfl;have bk:=t.fD bi bb<|λo S=>x o<|HK o S;have bt:IT t b O w (⟨s,u,r,f⟩::r2) S1 (cA (cA w1 (R c 0)<|.func (.func O) #[] w) (R g 0)<|.int .i64<|(C:Z)+1):=(by rcases hA1.row with⟨j,_⟩|⟨f2,dx,en,_,ax⟩;cases j;grind[ae]);have L:=bt.2 _ (jF.refl _ _ _ _) bk;unfold E.value at L;simp only at L;have bp:Enters bz O:=ca;have dT:=hA1.br.cell;have ef:=hA1.br.free;have ek:=am hA1.br;have v:=U hA1;have ao:=U N;have bd:=U au;have aq:=U bb;clear bi N au bs hA1 K B bb bk bt)
      |(go_at_fn O;refine L.mono ?_;rintro ds w2⟨rfl,D,q,S2,av,ax⟩;have hA2:=v.UF q av ⟨O,w,rfl,bp,ax⟩;have n:ii w2 (z (G a)) zE:=(((W.aw ao (x _ T.size)).aw aq (λj=>j.elim (λj=>m (.inl j)) (λj=>m (.inr (.inl j))))).aw q (λj=>j.elim (λj=>by have:=bd _ j;have:=am W;omega) (x _ T.size)));obtain⟨ea,eb,ec,ed⟩:=n.cells;have eg:=n.free (i:=0);have bq:=n.free (i:=1);have ei:=n.free (i:=2);have ej:=n.free (i:=3);have dd:=am n;have cj:=U n;have al:=U hA2;have an:=U D;have V:=U q;have bT:=U av;clear hA2 D q av ax n))
     refine cP (fZ rfl _ _ (z<|G a) ⟨s,u,r,f⟩ _ _ rfl<|(cj.put ⟨s,u,r,f⟩).alloc _) rfl ?_;have ba:z (G a)<z (G wr):=am W;have em:=aq.size;have el:=ao.size;have hT:I (λo=>ni cd c g l A X o\/t.F o) a w2:=by
      refine((bh.trans ao<|λo S=>.inl<|.inr S).trans aq ?_).trans V ?_
      .rintro o(j|j)
       .exact .inl<|.inl<|.inl j
       .exact .inl<|.inl<|.inr<|.inl j
      .rintro o(j|j)
       .have:=bd o j;grind
       grind
     have ce:∀o,S2 o->z (G a)<o:=λo S=>by
      rcases bT o S with j|j
      .have:=bd o j;omega
      .omega
     have cn:¬ni cd c g l A S2 (z<|G a):=by
      rintro(j|j|j|j|j|j)
      .exact m<|.inl j
      .exact m<|.inr<|.inl j
      .exact m<|.inr<|.inr<|.inl j
      .exact m<|.inr<|.inr<|.inr<|.inl j
      .have:=ce _ j;omega
      .exact m<|.inr<|.inr<|.inr<|.inr<|.inr j
     obtain⟨q1,q2,q3⟩:=IJ T al an hT cn ⟨s,u,r,f⟩<|ar #[aj s,aj u,aK r,aJ f] 180;exact⟨q1,q2,.inr ⟨⟨s,u,r,f⟩,_,r2,C+1,S2,bx,rfl,q3,λo S=>.inr (by have:=ce o S;omega)⟩⟩
   .have N:C=y k:=by have:=p.le;omega
    subst N;obtain⟨bd,bi,bk,bs⟩:=F.cells;have ao:=F.free (i:=0);have aq:=F.free (i:=1);have au:=F.free (i:=2);have bb:=F.free (i:=3);have ch:=U p;have K:=U ac;clear p ac bn bf F bm bl br;go_wp2;refine cP (fZ rfl _ _ (z<|G a) zE _ _ rfl<|W.put zE) rfl ?_;have B:I (λo=>o=z (G a)) wr (wW wr (z<|G a) zE):=jc _ _ _;refine⟨t.fD K B (λo S hf=>by have:=T.aH o hf;have:=T.size;omega),bh.trans B (λo S=>.inr<|by omega),.inl ⟨?_,rfl⟩⟩;rw[ae ck];simp[zn]
  .have ba:z (G a)<z (G wr):=am F;have bp:Enters bz O:=eq;have K:=U ba;cases r' with
   |nil=>
    have L:=bc.2 wr (jF.refl _ _ _ _) ac;have v:=U p;clear p ac bn bf F bm bl br bc ba;go_wp2_with(go_at_fn O;refine L.mono ?_;rintro ds w2⟨rfl,D,q⟩;have hA2:=v.ended<|q.alloc<|ar #[aj ⟨#[]⟩,aj ⟨#[]⟩,aK aY,aJ 0] 180;have bo:ep w2 c (.func (.func O) #[] w) 190:=(q.block c (am v.br)<|λj=>j.elim (λj=>(v.nS c j).1 rfl)<|λj=>x _ v.own.1 j).trans v.br;have dn:=oN (P:=bz) (bo.alloc<|ar #[aj ⟨#[]⟩,aj ⟨#[]⟩,aK aY,aJ 0] 180) .nilFunc rfl;have al:=U hA2;have an:=U D;have V:=U q;clear hA2 D q bo;unfold xe)
    go_roundg(2*(y k-C)+1);case measure=>have:=ae cs;omega
    case rel=>
     have cp:¬t.F (z<|G a):=x _ T.size;have ad:z (G a)≠c:=λj=>m<|.inl j;have B:=ae cu;have ba:=ae K;have hT:I (λo=>ni cd c g l A X o\/t.F o) a (cA (cF w2<|ar #[aj ⟨#[]⟩,aj ⟨#[]⟩,aK aY,aJ 0] 180) (R c 0) .nilFunc):=by
      refine((bh.trans V ?_).alloc _).setCell c 0 _<|.inl<|.inl<|.inl rfl;rintro o(j|j)
      .rcases B o j with N|N
       .exact .inl<|.inl<|.inr<|.inr<|.inr<|.inr<|.inl N
       grind
      grind
     have cm:=t.fD an (((I.refl (λo=>o=c) w2).alloc<|ar #[aj ⟨#[]⟩,aj ⟨#[]⟩,aK aY,aJ 0] 180).setCell c 0 .nilFunc<|.inl rfl) (λo S=>by rw[S];exact x _ v.own.1);have n:ii (cA (cF w2<|ar #[aj ⟨#[]⟩,aj ⟨#[]⟩,aK aY,aJ 0] 180) (R c 0) .nilFunc) (z<|G a) zE:=by
      refine(iw _ ad).trans<|ii.alloc (b:=z<|G a) (x:=zE) ?_ _;refine W.aw V ?_;rintro(j|j)
      .exact m<|.inr<|.inr<|.inr<|.inr<|.inl j
      .exact cp j
     refine⟨.nilFunc,[],C,λ_=>False,0,by omega,.inl ⟨rfl,rfl⟩,al,cm,hT,ck,cO,n,?_⟩;rintro(j|j|j|j|j|j)
     .exact ad j
     .exact m<|.inr<|.inl j
     .exact m<|.inr<|.inr<|.inl j
     .exact m<|.inr<|.inr<|.inr<|.inl j
     .exact j
     .exact m<|.inr<|.inr<|.inr<|.inr<|.inr j
   |cons dv r2=>
    have L:=bc.2 wr (jF.refl _ _ _ _) ac;have v:=U p;clear p ac bn bf F bm bl br bc ba;obtain⟨s,u,r,f⟩:=dv;unfold E.value at L;simp only at L;go_wp2_with(go_at_fn O;refine L.mono ?_;rintro ds w2⟨rfl,D,q,S2,av,ax⟩;have hA2:=v.UF q av ⟨O,w,rfl,bp,ax⟩;have n:ii w2 (z<|G a) zE:=(W.aw q<|λj=>j.elim (λj=>m<|.inr<|.inr<|.inr<|.inr<|.inl j)<|x _ T.size);obtain⟨ea,eb,ec,ed⟩:=n.cells;have eg:=n.free (i:=0);have bq:=n.free (i:=1);have ei:=n.free (i:=2);have ej:=n.free (i:=3);have dd:=am n;have cj:=U n;have al:=U hA2;have an:=U D;have V:=U q;have bT:=U av;clear hA2 D q av ax n)
    refine cP (fZ rfl _ _ (z<|G a) ⟨s,u,r,f⟩ _ _ rfl<|(cj.put ⟨s,u,r,f⟩).alloc _) rfl ?_;have ba:=ae K;have B:=ae cu;have hT:I (λo=>ni cd c g l A X o\/t.F o) a w2:=by
     refine bh.trans V ?_;rintro o(j|j)
     .rcases B o j with N|N
      .exact .inl<|.inl<|.inr<|.inr<|.inr<|.inr<|.inl N
      grind
     grind
    have cn:¬ni cd c g l A S2 (z<|G a):=by
     rintro(j|j|j|j|j|j)
     .exact m<|.inl j
     .exact m<|.inr<|.inl j
     .exact m<|.inr<|.inr<|.inl j
     .exact m<|.inr<|.inr<|.inr<|.inl j
     .rcases bT _ j with N|N
      .exact m<|.inr<|.inr<|.inr<|.inr<|.inl N
      .omega
     .exact m<|.inr<|.inr<|.inr<|.inr<|.inr j
    obtain⟨q1,q2,q3⟩:=IJ T al an hT cn ⟨s,u,r,f⟩<|ar #[aj s,aj u,aK r,aJ f] 180;refine⟨q1,q2,.inr ⟨⟨s,u,r,f⟩,_,r2,C,S2,ck,rfl,q3,λo S=>?_⟩⟩;rcases bT o S with N|N
    .grind
    grind
def Qq(O:Bi t b k)(i f g h:M)(e:y k<=1000000000000):∀(r:cJ)(n:aa)(u:cJ)(s:M)(S:fA)(w:Y),zn u k s=r->iN O w i f g h n u s S->IT t b 334 #[ay i,ay f,ay g,ay h] r (ni O i f g h S) w:=by
 intro r;induction r with
 |nil=>
  intro n u s S w l d;refine⟨d.pQ,λN m j=>(Dl O (d.same m) j e).mono ?_⟩;grind
 |cons P r K=>
  intro n u s S w l d;refine⟨d.pQ,λN m j=>(Dl O (d.same m) j e).mono ?_⟩;rintro T p⟨A,B,⟨a,_⟩|⟨V,o,L,v,q,a,C,D,E⟩⟩
  .rw[l]at a;cases a
  .rw[l]at a;obtain⟨rfl,F⟩:=List.cons.inj a;refine⟨C,A,B,ni O i f g h q,?_,K o L v q p F.symm D⟩;rintro Q(c|c|c|c|c|c)
   .exact .inl<|.inl c
   .exact .inl<|.inr<|.inl c
   .exact .inl<|.inr<|.inr<|.inl c
   .exact .inl<|.inr<|.inr<|.inr<|.inl c
   .rcases E Q c with x|x
    .exact .inl<|.inr<|.inr<|.inr<|.inr<|.inl x
    .exact .inr x
   .exact .inl<|.inr<|.inr<|.inr<|.inr<|.inr c
def IK(O:Bi t b k)(w:Y)(a:O.inv w)(o:b<=z (G w))(hF:∀d,t.F d->d<b)(f:y k<=1000000000000):cD bz 329 #[ap<|y k,.func (.func O.f) #[] O.cb] w λq l=>∃j g,q=aL j/\jf t b j k.flatten g l/\Below (z<|G w) w l/\(∀d,g d->O.S d\/z (G w)<=d):=by
 have n:=U a;have m:=U hF;clear a hF;go_in
 go_wp2;go_ret;have a:=ae n;have i:Below (z<|G w) w (cF (cF (cF (cF w<|ar #[ap<|y k] 3)<|ar #[.func (.func O.f) #[] O.cb] 434)<|ar #[ap 0] 3)<|ar #[.nilFunc] 190):=((((Below.refl _ w).alloc (ai _) _).alloc (by simp) _).alloc (by simp;omega) _).alloc (by simp;omega) _;have p:I az w _:=I.aR i;refine⟨_,ni O (z (G w)+1+1+1) (z (G w)+1+1) (z<|G w) (z (G w)+1) az,rfl,⟨334,_,rfl,enters_of func334 (by kernel_rfl) rfl,?_⟩,i,?_⟩;refine Qq O _ _ _ _ f k.flatten .nilFunc [] 0 _ _ rfl ⟨aB _ (by simp),?_,?_,?_,.inl ⟨rfl,rfl,λ_ c=>c⟩,O.fD w _ a<|p.same o (λd e=>⟨(O.lt w a d e).2,λc=>c⟩) cO,bj _,by simp;omega,m,⟨by omega,by omega,by omega,by omega⟩,by omega,by omega,by omega,by omega,by omega,cO,λd e=>?_⟩;exact ep.alloc (aB _<|by simp) _;(grind[ep.alloc,aB]);exact ep.alloc (ep.alloc (aB _<|by simp) _) _;have:=(O.lt w a d e).2;grind
 rintro d(c|c|c|c|c|c);(grind);(grind);(grind);(grind);exact c.elim;exact .inl c
structure Hd where
 v:aa
 l:cJ
 fr:E
 full:Bool
 ended:Bool
 S:M->Prop
def Hd.cells(h:Hd):iC:=[h.v,.string h.fr.key,.string h.fr.val,.bool h.fr.del,.int .u64 h.fr.bP,.bool h.full,.bool h.ended]
def dS(hs:cw Hd):iC:=hs.flatMap Hd.cells
def Hd.rest(h:Hd):cJ:=if h.full then h.fr::h.l else h.l
theorem nj(hs:cw Hd):y (dS hs)=y hs*7:=by
 induction hs with
 |nil=>rfl
 |cons h r c=>unfold dS at*;rw[dF,af,c];simp[Hd.cells];omega
theorem qz(hs:cw Hd)(i:M)(h:i<y hs):dS hs=dS (hs.take i)++(Hd.cells hs[i]++dS (hs.drop<|i+1)):=by
 have c:hs=hs.take i++hs[i]::hs.drop (i+1):=by rw[<-aZ h,bN]
 conv=>lhs;rw[c]
 simp only[dS,gd,dF]
theorem sr(hs:cw Hd)(i j:M)(h:i<y hs)(d:j<7):(dS hs)[i*7+j]?=(Hd.cells hs[i])[j]?:=by
 have c:y (dS<|hs.take i)=i*7:=by rw[nj];simp;omega
 rw[qz hs i h,fU (by omega),c,show i*7+j-i*7=j by omega,iE (by simp[Hd.cells];omega)]
theorem Ka(hs:cw Hd)(i:M)(h:i<y hs)(x:Hd)(e:x.v=hs[i].v):(((((((dS hs).set (i*7+1)<|.string x.fr.key).set (i*7+2)<|.string x.fr.val).set (i*7+3)<|.bool x.fr.del).set (i*7+4)<|.int .u64 x.fr.bP).set (i*7+5)<|.bool x.full).set (i*7+6)<|.bool x.ended)=dS (hs.set i x):=by
 have d:y (dS<|hs.take i)=i*7:=by rw[nj];simp;omega
 have c:dS (hs.set i x)=dS (hs.take i)++(Hd.cells x++dS (hs.drop<|i+1)):=by rw[jg,dz h];simp only[dS,gd,dF]
 rw[c,qz hs i h];rw[gF _ _ (by omega),gF _ _ (by omega),gF _ _ (by omega),gF _ _ (by omega),gF _ _ (by omega),gF _ _ (by omega),d];rw[show i*7+1-i*7=1 by omega,show i*7+2-i*7=2 by omega,show i*7+3-i*7=3 by omega,show i*7+4-i*7=4 by omega,show i*7+5-i*7=5 by omega,show i*7+6-i*7=6 by omega];simp[Hd.cells,e]
theorem GG(hs:cw Hd)(i:M)(h:i<y hs)(x:Hd)(e:x={hs[i]with full:=x.full}):(dS hs).set (i*7+5) (.bool x.full)=dS (hs.set i x):=by
 have d:y (dS<|hs.take i)=i*7:=by rw[nj];simp;omega
 have c:dS (hs.set i x)=dS (hs.take i)++(Hd.cells x++dS (hs.drop<|i+1)):=by rw[jg,dz h];simp only[dS,gd,dF]
 rw[c,qz hs i h,gF _ _ (by omega),d,show i*7+5-i*7=5 by omega];rw[e];simp[Hd.cells]
structure Uo(V:iY)(n0:M)(w:Y)(h:Hd):Prop where
 gives:h.ended=aY->jf V n0 h.v h.l h.S w
 own:vJ V n0 h.S w
 done:h.ended=bU->h.l=[]/\h.full=aY
theorem Uo.same{V:iY}{n0:M}{w w':Y}{h:Hd}(o:Uo V n0 w h)(hs:jF V n0 h.S w w'):Uo V n0 w' h:=⟨λe=>(o.gives e).same hs,o.own.same hs,o.done⟩
structure jv(V:iY)(n0:M)(w:Y)(b a:M)(hs:cw Hd):Prop where
 box:ep w b (bB a 0 (y hs)<|y hs) 340
 row:w.heap[a]?=H (.cells (dS hs).toArray 342 (0,0))
 each:∀i(hi:i<y hs),Uo V n0 w hs[i]
 size:n0<=z (G w)
 aH:∀k,V.F k->k<n0
 own:n0<=b/\n0<=a
 bh:b≠a
 nS:∀i(hi:i<y hs)k,hs[i].S k->k≠b/\k≠a
 No:∀i j(hi:i<y hs)(hj:j<y hs),i≠j->∀k,hs[i].S k->¬hs[j].S k
def lU(b a:M)(hs:cw Hd)(k:M):Prop:=k=b\/k=a\/∃i,∃c:i<y hs,hs[i].S k
section
variable{V:iY}{n0:M}{w w':Y}{b a:M}{hs:cw Hd}
theorem jv.pQ(h:jv V n0 w b a hs):vJ V n0 (lU b a hs) w:=⟨h.size,h.aH,by
 rintro k(rfl|rfl|⟨i,c,d⟩)
 .exact⟨h.own.1,am h.box⟩
 .exact⟨h.own.2,am h.row⟩
 .exact(h.each i c).own.each k d⟩
theorem jv.same(h:jv V n0 w b a hs)(c:jF V n0 (lU b a hs) w w'):jv V n0 w' b a hs:=⟨h.box.same c<|.inl rfl,(c.2 a<|.inr<|.inr<|.inl rfl).trans h.row,λi d=>(h.each i d).same<|c.mono<|λ_ e=>.inr<|.inr ⟨i,d,e⟩,aC h.size c.1,h.aH,h.own,h.bh,h.nS,h.No⟩
theorem jv.apart{T:fA}(h:jv V n0 w b a hs)(f:I T w w')(e:∀k,T k->¬lU b a hs k/\(k<n0->V.F k)):jv V n0 w' b a hs:=h.same<|f.same h.size (λk c=>⟨(h.pQ.each k c).2,λg=>(e k g).1 c⟩)<|λk c d=>(e k c).2 d
theorem jv.laid(h:jv V n0 w b a hs)(o:Obj):jv V n0 (cF w o) b a hs:=h.apart ((I.refl az w).alloc o) cO
theorem jv.put(h:jv V n0 w b a hs)(l:M)(j:l<y hs)(B:Hd)(x:I (λk=>(hs[l].S k\/V.F k)\/k=a) w w')(C:w'.heap[a]?=H (.cells (dS<|hs.set l B).toArray 342 (0,0)))(D:Uo V n0 w' B)(r:∀k,B.S k->hs[l].S k\/z (G w)<=k):jv V n0 w' b a (hs.set l B):=by
 have hF:∀k,n0<=k->¬V.F k:=λk c d=>by have:=h.aH k d;omega
 have s:ep w' b (bB a 0 (y hs)<|y hs) 340:=by refine(x.block b (am h.box) ?_).trans h.box;rintro((d|d)|d);exact(h.nS l j b d).1 rfl;exact hF b h.own.1 d;exact h.bh d
 refine⟨by rw[eS];exact s,C,λo t=>?_,aC h.size x.size,h.aH,h.own,h.bh,λo t k c=>?_,λn m u v i k c=>?_⟩;rw[mF];split;exact D;rename_i i;(have e:o<y hs:=by simpa using t);refine(h.each o e).same<|x.same h.size (λk c=>⟨((h.each o e).own.each k c).2,?_⟩)<|λk c g=>?_;rintro((d|d)|d);exact h.No l o j e i k d c;exact hF k ((h.each o e).own.each k c).1 d;exact(h.nS o e k c).2 d;rcases c with(d|d)|d;have:=((h.each l j).own.each k d).1;omega;exact d;have:=h.own.2;omega;rw[mF]at c;split at c;(rcases r k c with d|d;exact h.nS l j k d;have e:=am h.box;have g:=am h.row;grind);exact h.nS o (by simpa using t) k c;rw[mF]at c|-;(have e:n<y hs:=by simpa using u);(have g:m<y hs:=by simpa using v);split at c;rename_i q;have A:¬l=m:=λd=>i<|q.symm.trans d;rw[dr A];rcases r k c with d|d;exact h.No l m j g A k d;intro c2;have:=((h.each m g).own.each k c2).2;omega;rename_i q;split;intro c2;rcases r k c2 with d|d;exact h.No l n j e q k d c;have:=((h.each n e).own.each k c).2;omega;exact h.No n m e g i k c
end
def tq{d:cw Hd}(h:a.heap[b]?=H (.cells (dS d).toArray 342 (0,0)))(i:M)(e:i<y d):(aO a (R b<|i*7+1)=H (.string d[i].fr.key)/\aO a (R b<|i*7+1+1)=H (.string d[i].fr.val)/\aO a (R b<|i*7+1+2)=H (.bool d[i].fr.del)/\aO a (R b<|i*7+1+3)=H (.int .u64 d[i].fr.bP)/\aO a (R b<|i*7+5)=H (.bool d[i].full)/\aO a (R b<|i*7+6)=H (.bool d[i].ended))/\∀o,a.frozen? (R b o)=aY:=by
 have c:∀j,j<7->aO a (R b<|i*7+j)=(Hd.cells d[i])[j]?:=λj f=>by rw[bL h];grind[sr]
 exact⟨⟨c 1 (by decide),by rw[aV];exact c 2 (by decide),by rw[aV];exact c 3 (by decide),by rw[aV];exact c 4 (by decide),c 5 (by decide),c 6<|by decide⟩,λo=>dE h⟩
def LY(w:Y)(a i:M)(x:Hd):Y:=cA (cA (cA (cA (cA (cA w (R a<|i*7+1)<|.string x.fr.key) (R a<|i*7+1+1)<|.string x.fr.val) (R a<|i*7+1+2)<|.bool x.fr.del) (R a<|i*7+1+3)<|.int .u64 x.fr.bP) (R a<|i*7+5)<|.bool x.full) (R a<|i*7+6)<|.bool x.ended
def Sv(w:Y)(a i:M)(x:Hd):I (λk=>k=a) w (LY w a i x):=(((((gW a w).setCell a _ _<|.inl rfl).setCell a _ _<|.inl rfl).setCell a _ _<|.inl rfl).setCell a _ _<|.inl rfl).setCell a _ _<|.inl rfl
def Vn{c:cw Hd}(h:a.heap[b]?=H (.cells (dS c).toArray 342 (0,0)))(i:M)(d:i<y c)(x:Hd)(e:x.v=c[i].v):(LY a b i x).heap[b]?=H (.cells (dS<|c.set i x).toArray 342 (0,0)):=by
 refine(aT<|aT<|aT<|aT<|aT<|aT h).trans ?_;simp only[cz];rw[<-Ka c i d x e]
def Ni{e:cw Hd}(p:jv t b a c g e)(l:M)(r:l<y e)(d:Hd)(D:Obj)(L:d.v=e[l].v)(A:I (λk=>e[l].S k\/t.F k) a f)(u:t.D f)(v:f.heap[g]?=H (.cells (dS e).toArray 342 (0,0)))(K:d.ended=aY->jf t b d.v d.l d.S f)(h:vJ t b d.S f)(m:d.ended=bU->d.l=[]/\d.full=aY)(w:∀k,d.S k->e[l].S k\/z (G a)<=k)(n:d.rest=e[l].rest)(B:d.full=bU\/d.ended=bU):t.D ((LY f g l d).alloc D)/\I (λk=>lU c g e k\/t.F k) a ((LY f g l d).alloc D)/\∃E:Hd,jv t b ((LY f g l d).alloc D) c g (e.set l E)/\E.rest=e[l].rest/\(E.full=bU\/E.ended=bU)/\(∀k,E.S k->e[l].S k\/z (G a)<=k):=by
 have o:I (λk=>k=g) f ((LY f g l d).alloc D):=(Sv _ _ _ _).alloc _;have q:I (λk=>(e[l].S k\/t.F k)\/k=g) a ((LY f g l d).alloc D):=(A.mono (T:=λk=>(e[l].S k\/t.F k)\/k=g)<|λk j=>.inl<|.inl j).trans o<|λk j=>.inl<|.inr j;have C:((LY f g l d).alloc D).heap[g]?=H (.cells (dS<|e.set l d).toArray 342 (0,0)):=by have:=Vn v l r d L;grind[gl,am]
 have x:∀k,d.S k->¬k=g:=λk j s=>by rcases w k j with N|N;exact(p.nS l r k N).2 s;have:=am p.row;omega
 have i:=o.same (V:=t) (n0:=b) (S:=d.S) h.size (λk j=>⟨(h.each k j).2,x k j⟩) (λk j a=>by have:=p.own.2;omega);refine⟨t.fD u o (λk j F=>by have:=p.aH k F;have:=p.own.2;omega),q.mono ?_,d,p.put l r d q C ⟨λs=>(K s).same i,h.same i,m⟩ w,n,B,w⟩;rintro k((s|s)|s);exact .inl<|.inl<|.inr<|.inr ⟨l,r,s⟩;grind
 exact .inl<|.inl<|.inr<|.inl s
def WH(i:cw Hd)(k:M)(s:k<y i)(h:jv t b a c g i)(hD:t.D a):cD bz 222 #[.pointer<|H<|R g<|k*7] a λau w'=>au=.returned .nilIface/\t.D w'/\I (λac=>lU c g i ac\/t.F ac) a w'/\∃ao:Hd,jv t b w' c g (i.set k ao)/\ao.rest=i[k].rest/\(ao.full=bU\/ao.ended=bU)/\(∀ac,ao.S ac->i[k].S ac\/z (G a)<=ac):=by
 have o:∀j,j<7->aO a (R g<|k*7+j)=(Hd.cells i[k])[j]?:=λj d=>by rw[bL h.row];grind[sr]
 have K:=o 0 (by decide);have e:=o 5 (by decide);have l:=o 6 (by decide);have n:=U h;have HD:=U hD;have u:=h.each k s;clear h hD o;have A:i.set k i[k]=i:=List.set_getElem_self s;have w:=U A;clear A;cases hfu:i[k].full with
 |true=>
  simp only[Hd.cells,hfu]at e K;simp at e;have p:=U hfu;clear hfu u l K;go_in
  go_wp2;go_ret;refine⟨rfl,HD,I.refl _ _,i[k],?_,rfl,.inl p,λac S=>.inl S⟩;rw[ae w];exact n
 |false=>
  cases hen:i[k].ended with
  |true=>
   simp only[Hd.cells,hfu,hen]at e K l;simp at e l;have p:=U hfu;have L:=U hen;clear hfu hen u K;go_in
   go_wp2;go_ret;refine⟨rfl,HD,I.refl _ _,i[k],?_,rfl,.inr L,λac S=>.inl S⟩;rw[ae w];exact n
  |false=>
   obtain⟨aq,cb,F,eg,f⟩:=u.gives hen;simp only[Hd.cells,hfu,hen,F]at e K l;simp at e l K;obtain⟨p,L,an,ad⟩:=gH hfu hen F<|show Enters bz aq from eg;clear hfu hen u F;cases hl:i[k].l with
   |nil=>
    rw[hl]at f;have Q:=f.2 a (jF.refl _ _ _ _) HD;clear f;have HL:=U hl;clear hl;go_in
    go_wp2_with(go_at_fn aq;refine Q.mono ?_;rintro au w1⟨rfl,q,m⟩;have j:w1.heap[g]?=H (.cells (dS i).toArray 342 (0,0)):=(m.block g (am n.row)<|λD=>D.elim (λD=>(n.nS k s g D).2 rfl) (λD=>by have:=n.aH g D;have:=n.own.2;omega)).trans n.row;obtain⟨⟨c1,c2,c3,c4,c5,c6⟩,d⟩:=tq j k s;have g1:=d<|k*7+1;have g2:=d<|k*7+1+1;have g3:=d<|k*7+1+2;have g4:=d<|k*7+1+3;have g5:=d<|k*7+5;have g6:=d<|k*7+6;have T:=am j;have C:=U j;have B:=U q;have r:=U m;clear j d q m;unfold xe)
    go_ret;have v:=ae n;refine⟨rfl,Ni v k s ⟨i[k].v,[],zE,aY,bU,i[k].S⟩ _ rfl r B C (λD=>by cases D) ((v.each k s).own.aw r) (λ_=>⟨rfl,rfl⟩) (λac S=>.inl S) ?_<|.inr rfl⟩;unfold Hd.rest;rw[ae p,ae HL];rfl
   |cons ao av=>
    rw[hl]at f;have Q:=f.2 a (jF.refl _ _ _ _) HD;clear f;have HL:=U hl;clear hl;obtain⟨W,X,V,v⟩:=ao;unfold E.value at Q;simp only at Q;go_in
    go_wp2_with(go_at_fn aq;refine Q.mono ?_;rintro au w1⟨rfl,q,m,S1,P,O⟩;have j:w1.heap[g]?=H (.cells (dS i).toArray 342 (0,0)):=(m.block g (am n.row)<|λD=>D.elim (λD=>(n.nS k s g D).2 rfl) (λD=>by have:=n.aH g D;have:=n.own.2;omega)).trans n.row;obtain⟨⟨c1,c2,c3,c4,c5,c6⟩,d⟩:=tq j k s;have g1:=d<|k*7+1;have g2:=d<|k*7+1+1;have g3:=d<|k*7+1+2;have g4:=d<|k*7+1+3;have g5:=d<|k*7+5;have g6:=d<|k*7+6;have T:=am j;have C:=U j;have B:=U q;have r:=U m;have al:=U P;have N:=U O;clear j d q m P O)
    go_ret;have x:=ae N;refine⟨rfl,Ni n k s ⟨i[k].v,av,⟨W,X,V,v⟩,bU,aY,S1⟩ _ rfl r B C (λ_=>⟨aq,cb,an,ad,x⟩) x.own (λD=>by cases D) al ?_<|.inl rfl⟩;unfold Hd.rest;rw[ae p,ae HL];rfl
def FW:Option M->Z
 |none=>-1
 |some b=>b
def jW(a:cw Hd):dL:=a.map Hd.rest
def Sp(a:cw Hd)(i:M)(e:i<y a)(x:Hd)(b:x.rest=a[i].rest):jW (a.set i x)=jW a:=by
 unfold jW;rw[nZ,b];refine List.ext_getElem (by simp)<|λj c d=>?_;rw[mF];grind
def xG{a:cw Hd}(c:b<y a):lZ (jW a) b=a[b].rest.head?:=by
 unfold lZ jW;simp[c]
theorem Ge{a:cw Hd}(f:g<y a){x:Hd}(e:∀k,x.S k->a[g].S k\/l<=k):∀k,lU b c (a.set g x) k->lU b c a k\/l<=k:=by
 rintro k(d|d|⟨j,i,d⟩);exact .inl<|.inl d;exact .inl<|.inr<|.inl d;rw[mF]at d;split at d;(rcases e k d with h|h;exact .inl<|.inr<|.inr ⟨g,f,h⟩;grind);exact .inl<|.inr<|.inr ⟨j,by grind,d⟩
theorem wC(w:Y)(q:M):I az w (w.drewN q):=⟨rfl,rfl,rfl,ai _,λ_ _ _=>rfl⟩
def Ku(h:lZ k b=H w)(a:kT k b=none):kT k (b+1)=H b:=by
 unfold kT;rw[h,a]
def Kt{f:E}(h:lZ k b=H w)(a:kT k b=H c)(d:lZ k c=H f):kT k (b+1)=if ahead w f then H b else H c:=by
 conv=>lhs;unfold kT
 rw[h,a];grind
def FG{a:cw Hd}{x:Hd}(h:∀j(c:j<y a),j<b->a[j].full=bU\/a[j].ended=bU)(d:x.full=bU\/x.ended=bU):∀j(c:j<y (a.set b x)),j<b+1->(a.set b x)[j].full=bU\/(a.set b x)[j].ended=bU:=by
 grind
def CV(e:cw Hd)(h:jv t b a c g e)(hD:t.D a)(hn:y e<=1000000000000):cD bz 221 #[ay c] a λbv ax=>t.D ax/\I (λk=>lU c g e k\/t.F k) a ax/\((cG (jW e)=[]/\bv=.returned (.tuple #[xe,.bool aY,.nilIface]))\/(∃an d,cG (jW e)=an::cG (jW d)/\bv=.returned (.tuple #[an.value,.bool bU,.nilIface])/\jv t b ax c g d/\y d=y e/\(∀k,lU c g d k->lU c g e k\/z (G a)<=k))):=by
 have bg:=h.pQ;have cl:=am h.box;have cn:=h.box.cell;obtain⟨m,HH,HD⟩:=dA bg h hD;clear h hD bg;go_in
 go_wp2;go_loopw [4,9] (λf bp wr=>∃(p:M)(d:cw Hd),p<=y e/\bp=.int .i64 p/\f=.int .i64 (FW<|kT (jW e) p)/\jv t b wr c g d/\y d=y e/\jW d=jW e/\(∀bq(hj:bq<y d),bq<p->d[bq].full=bU\/d[bq].ended=bU)/\t.D wr/\I (λk=>lU c g e k\/t.F k) a wr/\ii wr (z<|G a) zE/\(∀k,lU c g d k->lU c g e k\/z (G a)+1<=k)) (λ_ bp _=>y e-(intOf bp).toNat)
 (case atStart=>have h:=ae HH;exact⟨0,e,bj _,rfl,rfl,h.laid _,rfl,rfl,λbq _ hj=>by omega,t.fD HD (cK az a) cO,(cK _ _),aB _ rfl,λk o=>.inl o⟩)
 case round=>
  obtain⟨p,d,co,rfl,rfl,u,Q,B,K,x,hT,D,hS⟩:=hrel;have bT:=u.box.cell;rw[Q]at bT;by_cases bk:p<y e
  .have au:=WH d p (by omega) u x;obtain⟨HA,bs,bb,HT,HE,HS⟩:=jX u B K hT D hS;clear u x hT D hS B K;obtain⟨V,n⟩:∃V,kT (jW e) p=V:=⟨_,rfl⟩;rw[n];have O:=U n;clear n;go_wp2_with(go_at_call 222;refine au.mono ?_;rintro bv w1⟨rfl,bf,bh,an,hA1,bl,bm,bn⟩;have br:=U bf;have bd:=U bh;have q:=U hA1;have bt:=U bl;have ao:=U bm;have bu:=U bn;clear bf bh hA1 bl bm bn)
   have al:p<y d:=by omega
   have av:p<y (d.set p an):=by simp_all
   obtain⟨⟨c1,c2,c3,c4,c5,c6⟩,A⟩:=tq q.row p av;rw[qM]at c1 c2 c3 c4 c5 c6;have bx:=q.box.cell;rw[eS,Q]at bx;have N:jW (d.set p an)=jW e:=(Sp d p al an bt).trans bs;have bi:lZ (jW e) p=an.rest.head?:=by rw[<-N,xG av,qM]
   have T:=U N;have bc:=U bi;clear N bi A;have cb:z (G a)<z (G wr):=am HE;have ad:∀(aq:Y)(L:Z),I az w1 aq->FW (kT (jW e)<|p+1)=L->∃(i:M)(f:cw Hd),i<=y e/\Value.int .i64 ((p:Z)+1)=.int .i64 i/\Value.int .i64 L=.int .i64 (FW<|kT (jW e) i)/\jv t b aq c g f/\y f=y e/\jW f=jW e/\(∀bq(hj:bq<y f),bq<i->f[bq].full=bU\/f[bq].ended=bU)/\t.D aq/\I (λk=>lU c g e k\/t.F k) a aq/\ii aq (z<|G a) zE/\(∀k,lU c g f k->lU c g e k\/z (G a)+1<=k):=by
    intro aq L F ac;refine⟨p+1,d.set p an,bk,rfl,by rw[ac],q.apart F cO,by rw[eS];exact Q,T,FG bb ao,t.fD br F cO,?_,?_,?_⟩
    .refine((HT.trans bd ?_).cr F);rintro k(w|w)
     .rcases HS k w with ba|ba
      .simp_all
      grind
     simp_all
    .refine(HE.aw bd ?_).aw F<|λw=>w;rintro(w|w)
     .rcases HS _ w with ba|ba
      .have:=(m.each _ ba).2;omega
      .omega
     .have:=m.aH _ w;have:=m.size;omega
    .intro k o;rcases Ge al bu k o with ba|ba
     .exact HS k ba
     grind
   have C:=U ad;clear ad cb;cases hfu:an.full with
   |false=>
    rw[hfu]at c5;have ac:an.ended=bU:=ao.resolve_left (by rw[hfu];simp);have aq:=(q.each p av).done;rw[qM]at aq;have bo:=aq ac;have L:lZ (jW e) p=none:=by rw[ae bc];unfold Hd.rest;rw[hfu,bo.1];rfl
    have F:kT (jW e) (p+1)=V:=by unfold kT;rw[L];exact O
    have HB:=U F;clear F L bo aq ac hfu;go_quiet(fail)
    go_wp2;go_roundw;case rel=>grind[wC,ae]
    case measure=>simp[intOf];omega
   |true=>
    rw[hfu]at c5;have A:lZ (jW e) p=H an.fr:=by rw[ae bc];unfold Hd.rest;rw[hfu];rfl
    cases V with
    |none=>
     have HB:=U<|Ku A O;clear A hfu;simp only[FW];go_quiet(fail)
     go_wp2;go_roundw;case rel=>exact C _ _ (wC _ _) (by rw[ae HB];rfl)
     case measure=>simp[intOf];omega
    |some j=>
     obtain⟨ca,P,v,_⟩:=uo O;have HB:=U<|Kt A O v;have l:j<y (d.set p an):=by omega
     have i:(d.set p an)[j].rest.head?=H P:=by rw[<-xG l,ae T];exact v
     have f:(d.set p an)[j].full=bU:=by
      rcases FG bb ao j l (by omega)with w|w
      .exact w
      .have:=(q.each j l).done w;unfold Hd.rest at i;rw[this.2,this.1]at i;cases i
     have s:(d.set p an)[j].fr=P:=by
      unfold Hd.rest at i;rw[f]at i;simp_all
     obtain⟨⟨d1,d2,d3,d4,_,_⟩,_⟩:=tq q.row j l;rw[s]at d1 d2 d3 d4;have F:=Cr an.fr P;have aq:=am q.row;have ac:=am q.box;generalize an.fr=xf at*;obtain⟨xk,xv,xd,L⟩:=xf;obtain⟨X,fv,W,r⟩:=P;simp only at c1 c2 c3 c4 d1 d2 d3 d4;simp only[E.value]at F;clear A hfu v i f s c6;simp only[FW];have i1:(0:Z)<=(j:Z):=by omega
     have i2:(j:Z)<(y e:Z):=by omega
     have i3:j<y e:=by omega
     have i4:¬(j:Z)<0:=by omega
     have i5:(0:Z)<=(p:Z):=by omega
     have i6:(p:Z)<(y e:Z):=by omega
     cases hax:ahead ⟨xk,xv,xd,L⟩ ⟨X,fv,W,r⟩with
     |true=>
      rw[hax]at HB F;go_region_held3(λa=>aO a (R c 0)=H (bB g 0 (y e)<|y e)/\aO a (R g<|p*7+5)=H (.bool bU)/\(aO a (R g<|p*7+1)=H (.string xk)/\aO a (R g<|p*7+1+1)=H (.string xv)/\aO a (R g<|p*7+1+2)=H (.bool xd)/\aO a (R g<|p*7+1+3)=H (.int .u64 L))/\(aO a (R g<|j*7+1)=H (.string X)/\aO a (R g<|j*7+1+1)=H (.string fv)/\aO a (R g<|j*7+1+2)=H (.bool W)/\aO a (R g<|j*7+1+3)=H (.int .u64 r))) (first|assumption|go_keep) (first
       |(go_at_call 223;refine(F _).mono ?_;rintro bv w2⟨rfl,rfl⟩))
      go_wp2;go_roundw;case rel=>
       refine C _ _ ?_ (by rw[ae HB];rfl);exact(((cK az w1).alloc _)).cr<|wC _ 1
      case measure=>simp[intOf];omega
     |false=>
      rw[hax]at HB F;go_region_held3(λa=>aO a (R c 0)=H (bB g 0 (y e)<|y e)/\aO a (R g<|p*7+5)=H (.bool bU)/\(aO a (R g<|p*7+1)=H (.string xk)/\aO a (R g<|p*7+1+1)=H (.string xv)/\aO a (R g<|p*7+1+2)=H (.bool xd)/\aO a (R g<|p*7+1+3)=H (.int .u64 L))/\(aO a (R g<|j*7+1)=H (.string X)/\aO a (R g<|j*7+1+1)=H (.string fv)/\aO a (R g<|j*7+1+2)=H (.bool W)/\aO a (R g<|j*7+1+3)=H (.int .u64 r))) (first|assumption|go_keep) (first
       |(go_at_call 223;refine(F _).mono ?_;rintro bv w2⟨rfl,rfl⟩))
      go_wp2;go_roundw;case rel=>
       refine C _ _ ?_ (by rw[ae HB];rfl);exact(((cK az w1).alloc _)).cr<|wC _ 1
      case measure=>simp[intOf];omega
  .have ck:p=y e:=by omega
   subst ck;obtain⟨V,n⟩:∃V,kT (jW e) (y e)=V:=⟨_,rfl⟩;rw[n];cases V with
   |none=>
    have hm:=xM (hs:=jW e) (by rw[show y (jW e)=y e by simp[jW]];exact n);have C:=U hm;have q:=U x;have HT:=U hT;have HE:=U D;obtain⟨bu,bx,cb,cc⟩:=D.cells;have cd:=D.free (i:=0);have ce:=D.free (i:=1);have ch:=D.free (i:=2);have cj:=D.free (i:=3);clear hm n u x hT D hS B K;simp only[FW];go_wp2;refine cP (fZ rfl _ _ (z<|G a) zE _ _ rfl<|HE.put zE) rfl ?_;have A:I (λk=>k=z (G a)) wr (wW wr (z<|G a) zE):=jc _ _ _;exact⟨t.fD q A (λk o hf=>by have:=m.aH k hf;have:=m.size;omega),HT.trans A (λk o=>.inr<|by omega),.inl ⟨C,rfl⟩⟩
   |some j=>
    have bh:y (jW e)=y e:=by simp[jW]
    obtain⟨ca,P,v,_⟩:=uo n;have hm:=xL (hs:=jW e) (by rw[bh];exact n) v;have l:j<y d:=by omega
    have i:d[j].rest.head?=H P:=by rw[<-xG l,B];exact v
    have f:d[j].full=bU:=by
     rcases K j l (by omega)with w|w
     .exact w
     .have:=(u.each j l).done w;unfold Hd.rest at i;rw[this.2,this.1]at i;cases i
    have s:d[j].fr=P:=by
     unfold Hd.rest at i;rw[f]at i;grind
    have C:d[j].ended=aY:=by
     cases w:d[j].ended with
     |false=>rfl
     |true=>have:=((u.each j l).done w).2;rw[f]at this;cases this
    obtain⟨⟨d1,d2,d3,d4,d5,_⟩,N⟩:=tq u.row j l;have g5:=N<|j*7+5;rw[s]at d1 d2 d3 d4;have T:jW (d.set j {d[j]with full:=aY})=(jW e).modify j List.tail:=by
     rw[<-B];unfold jW;rw[nZ];refine List.ext_getElem (by simp)<|λbq h1 h2=>?_;rw[mF,List.getElem_modify];split
     .rename_i bv;subst bv;simp[Hd.rest,f]
     .simp
    have F:(cA wr (R g<|j*7+5)<|.bool aY).heap[g]?=H (.cells (dS<|d.set j {d[j]with full:=aY}).toArray 342 (0,0)):=by
     refine(aT u.row).trans ?_;simp only[cz];rw[<-GG d j l {d[j]with full:=aY} rfl]
    have bl:I (λk=>(d[j].S k\/t.F k)\/k=g) wr (cA wr (R g<|j*7+5)<|.bool aY):=(I.refl (λk=>(d[j].S k\/t.F k)\/k=g) wr).setCell g _ _<|.inl<|.inr rfl;have L:I (λk=>k=g) wr (cA wr (R g<|j*7+5)<|.bool aY):=(gW g wr);have O:Uo t b (cA wr (R g<|j*7+5)<|.bool aY) {d[j]with full:=aY}:=by
     have aq:=u.each j l;have bi:=L.same (V:=t) (n0:=b) (S:=d[j].S) u.size (λk o=>⟨(aq.own.each k o).2,λw=>(u.nS j l k o).2 w⟩) (λk o bk=>by have:=u.own.2;omega);exact⟨λw=>(aq.gives C).same bi,aq.own.same bi,λw=>by rw[C]at w;cases w⟩
    have ac:=u.put j l {d[j]with full:=aY} bl F O (λk o=>.inl o);have bf:¬z (G a)=g:=λw=>by have:=am HH.row;omega
    have cm:¬g=z (G a):=λw=>bf w.symm;have q:ii (cA wr (R g<|j*7+5)<|.bool aY) (z<|G a) zE:=D.aw L bf;obtain⟨bu,bx,cb,cc⟩:=q.cells;have cd:=q.free (i:=0);have ce:=q.free (i:=1);have ch:=q.free (i:=2);have cj:=q.free (i:=3);have ad:∀k,lU c g (d.set j {d[j]with full:=aY}) k->lU c g e k\/z (G a)+1<=k:=by
     grind[Ge]
    have bc:I (λk=>lU c g e k\/t.F k) a (cA wr (R g<|j*7+5)<|.bool aY):=hT.trans L<|λk o=>.inl<|.inl<|.inr<|.inl o;have bb:=t.fD x L (λk o hf=>by have:=m.aH k hf;have:=m.each g<|.inr<|.inl rfl;omega);have ao:cG (jW e)=P::cG (jW<|d.set j {d[j]with full:=aY}):=by rw[T];exact hm
    have al:y (d.set j {d[j]with full:=aY})=y e:=by rw[eS];exact Q
    obtain⟨au,bd⟩:∃au,au=d.set j {d[j]with full:=aY}:=⟨_,rfl⟩;rw[<-bd]at ac ad ao al;obtain⟨bm,av,bs,br,bt,bn,bo⟩:=xV ac ad ao al bc bb q;have i1:(0:Z)<=(j:Z):=by omega
    have i2:(j:Z)<(y e:Z):=by omega
    have i3:j<y e:=by omega
    have i4:¬(j:Z)<0:=by omega
    rw[f]at d5;clear hm v i f s C T F bl L O ac ad bc bb ao al q u x hT D hS B K n bh N bd;obtain⟨X,fv,W,r⟩:=P;simp only at d1 d2 d3 d4;simp only[FW];go_wp2;refine cP (fZ rfl _ _ (z<|G a) ⟨X,fv,W,r⟩ _ _ rfl<|bo.put ⟨X,fv,W,r⟩) rfl ?_;have A:I (λk=>k=z (G a)) (cA wr (R g<|j*7+5)<|.bool aY) (wW (cA wr (R g<|j*7+5)<|.bool aY) (z<|G a) ⟨X,fv,W,r⟩):=jc _ _ _;refine⟨t.fD bn A (λk o hf=>by have:=m.aH k hf;have:=m.size;omega),bt.trans A (λk o=>.inr<|by omega),.inr ⟨⟨X,fv,W,r⟩,au,bs,rfl,bm.apart A<|λk o=>?_,br,λk o=>?_⟩⟩
    .subst o;refine⟨λw=>?_,λw=>by have:=m.size;omega⟩;rcases av _ w with ba|ba
     .have:=(m.each _ ba).2;omega
     .omega
    .rcases av k o with ba|ba
     .exact .inl ba
     .exact .inr<|by omega
def Pp(V:iY)(g d f N:M)(m:N<=1000000000000):∀(l:cJ)(a:cw Hd)(w:Y),cG (jW a)=l->y a=N->jv V g w d f a->IT V g 221 #[ay d] l (lU d f a) w:=by
 intro l;induction l with
 |nil=>
  intro a w h i c;refine⟨c.pQ,λj b e=>(CV a (c.same b) e<|by omega).mono ?_⟩;grind
 |cons k l n=>
  intro a w h i c;refine⟨c.pQ,λj b e=>(CV a (c.same b) e<|by omega).mono ?_⟩;grind
def Jn{P:Program}{t:TypeId}(i:a.heap[b]?=H (ar V t (0,0)))(g:V[c]?=H d)(v:aa)(h:v.oneCell'=bU):(store (R b c) v).run P a=.ok () (cA a (R b c) v):=by
 have e:aO a (R b c)=H d:=(bL i).trans g;have f:=dE (i:=c) i;rw[run_store P a _ _ _ h];simp[e,f]
def Bp:Hd:=⟨.nilFunc,[],zE,aY,aY,λ_=>False⟩
def JI(g:aa×cJ×fA):Hd:=⟨g.1,g.2.1,zE,aY,aY,g.2.2⟩
def uJ(a:cw (aa×cJ×fA))(n:M):cw Hd:=(a.take n).map JI++List.replicate (y a-n) Bp
def Db(a:cw (aa×cJ×fA))(n:M)(h:n<=y a):y (uJ a n)=y a:=by unfold uJ;simp;omega
def TA(a:cw (aa×cJ×fA))(n:M)(h:n<y a):(uJ a n).set n (JI a[n])=uJ a (n+1):=by
 unfold uJ;have b:y a-n=(y a-(n+1))+1:=by omega
 rw[b,List.replicate_succ,gF _ _ (by simp;omega)];rw[ah h];have:n-y ((a.take n).map JI)=0:=by simp;omega
 rw[this];grind
def MY(a:cw (aa×cJ×fA))(n:M)(h:n<y a):(uJ a n)[n]?=H Bp:=by
 unfold uJ;rw[fU (by simp;omega)];grind
def GH(a:cw Hd)(i:M)(h:i<y a)(x:Hd)(c:x.fr=a[i].fr)(d:x.full=a[i].full)(e:x.ended=a[i].ended):(dS a).set (i*7) x.v=dS (a.set i x):=by
 have f:y (dS<|a.take i)=i*7:=by rw[nj];simp;omega
 have b:dS (a.set i x)=dS (a.take i)++(Hd.cells x++dS (a.drop<|i+1)):=by rw[jg,dz h];simp only[dS,gd,dF]
 rw[b,qz a i h,gF _ _ (by omega),f,Ab];simp[Hd.cells,c,d,e]
def Pq(n:M):(madeCells #[.nilFunc,aj ⟨#[]⟩,aj ⟨#[]⟩,aK aY,aJ 0,aK aY,aK aY]<|n*7).toList=dS (List.replicate n Bp):=by
 refine tY<|λj=>?_;by_cases c:j<n*7;(have a:j/7<y (List.replicate n Bp):=by simp;omega);have b:=sr (List.replicate n Bp) (j/7) (j%7) a (Nat.mod_lt _<|by decide);rw[show j/7*7+j%7=j by omega]at b;rw[b,List.getElem_replicate];have f:j%7<7:=Nat.mod_lt _ (by decide);(have d:(madeCells #[.nilFunc,aj ⟨#[]⟩,aj ⟨#[]⟩,aK aY,aJ 0,aK aY,aK aY]<|n*7).toList[j]?=H ((#[.nilFunc,aj ⟨#[]⟩,aj ⟨#[]⟩,aK aY,aJ 0,aK aY,aK aY]:Array aa)[j%7]!):=by unfold madeCells;simp[c]);rw[d];(have:j%7=0\/j%7=1\/j%7=2\/j%7=3\/j%7=4\/j%7=5\/j%7=6:=by omega);rcases this with e|e|e|e|e|e|e<;>rw[e]<;>rfl;grind[getElem?_eq_none,Array.length_toList,size_madeCells,nj]
def Wn:(prog.info? 342).map (λi=>(i.zero,i.size,i.bytes))=H (H<|dW #[.nilFunc,aj ⟨#[]⟩,aj ⟨#[]⟩,aK aY,aJ 0,aK aY,aK aY],7,64):=by kernel_rfl
def SG(p:a.ownsRow b c g (bB l 0 A A) A x):a.heap[l]?=H (ar x.toArray c (0,0)):=by
 obtain⟨q,⟨e,_⟩|⟨o,i,d,e,r,m,n,k,f,h⟩⟩:=p;cases e;cases e;(have j:d.toList=x:=by rw[<-h,cZ (by rw[jy,f];grind)]);rw[m,<-j]
def SW(bk:iY)(V:M)(b:cw (aa×cJ×fA))(hr:Row a 1 d (y b) (b.map (·.1)))(al:∀u,ct d=H u->u<z (G a))(hn:y b<=1000000000)(hg:∀j(s:j<y b),jf bk V b[j].1 b[j].2.1 b[j].2.2 a)(hd:∀j bm(s:j<y b)(hj:bm<y b),j≠bm->∀u,b[j].2.2 u->¬b[bm].2.2 u)(T:V<=z (G a))(hF:∀u,bk.F u->u<V):cD bz 159 #[d] a λbo w'=>∃v' S',bo=aL v'/\jf bk V v' (cG<|b.map (·.2.1)) S' w'/\Below (z<|G a) a w'/\(∀u,S' u->(∃j,∃s:j<y b,b[j].2.2 u)\/z (G a)<=u):=by
 obtain⟨i0,bc,bg,bh,bi⟩:=cH Wn;obtain⟨bs,bn,bf⟩:=bM hr;obtain⟨HR,ax,HG,au,HF⟩:=je hr al hg hd hF;clear hr al hg hd hF;subst bf;go_in
 go_wp2_with(at_make;refine wpList_make_full _ rfl (.tmp 7) (.tmp 7) 340 rfl (z<|G a) 342 i0 (dW #[.nilFunc,aj ⟨#[]⟩,aj ⟨#[]⟩,aK aY,aJ 0,aK aY,aK aY]) 7 underlying340 bc bg bh _ _ _ _ (y b) rfl rfl rfl rfl (by rw[bi];omega) (by unfold maxLen;omega) (ai _) ?_;intro B A x;have q:=SG A;have v:=U q;have av:=U x;clear A x q)
 have ad:=ae av;have ao:z (G a)<z (G B):=am v;have c:Below (z<|G a) a B:=(Below.refl _ a).grown ad (ai _) (by simp);have X:=U<|c.alloc c.size<|ar #[bB (z<|G a) 0 (y b)<|y b] 340;have o:(cF B<|ar #[bB (z<|G a) 0 (y b)<|y b] 340).heap[z<|G a]?=H (ar (dS<|uJ b 0).toArray 342 (0,0)):=by rw[gl _ ao,ae v];(have bo:uJ b 0=List.replicate (y b) Bp:=by simp[uJ]);rw[bo,<-Pq];rfl
 have k:ep (cF B<|ar #[bB (z<|G a) 0 (y b)<|y b] 340) (z<|G B) (bB (z<|G a) 0 (y b)<|y b) 340:=aB _ rfl;have L:=U o;have E:=U k;clear ad c o k;go_loopw [11] (λj wr=>∃n:M,n<=y b/\j=ap n/\wr.heap[z<|G a]?=H (ar (dS<|uJ b n).toArray 342 (0,0))/\ep wr (z<|G B) (bB (z<|G a) 0 (y b)<|y b) 340/\Below (z<|G a) a wr) (λj _=>y b-(intOf j).toNat)
 case atStart=>exact⟨0,bj _,rfl,L,E,X⟩
 case round=>
  obtain⟨n,an,rfl,f,g,c⟩:=hrel;have bp:=g.cell;obtain⟨N,F,C⟩:=dA f g c;by_cases i:n<y b
  .obtain⟨bl,cb,S,ba,bb⟩:=HG n i;have l:∀t e,bs=H (R t e)->aO wr (R t<|e+n)=H (.func (.func bl) #[] cb):=by
    intro t e W;obtain⟨h1,⟨Q,_⟩|⟨bu,aq,ac,Q,bd,hc⟩⟩:=ae HR
    .rw[W]at Q;cases Q
    .rw[W]at Q;cases Q;refine(c.cell (p:=(R t<|e+n))<|ax t (by rw[W];rfl)).trans<|hc n _ ?_;rw[dP,aI i];simp[S]
   obtain⟨t,e,W⟩:∃t e,bs=H (R t e):=by
    obtain⟨h1,⟨Q,w⟩|⟨bu,aq,ac,Q,bd,hc⟩⟩:=ae HR
    .omega
    grind
   have bq:=l t e W;subst W;have m:(dS<|uJ b n).toArray[n*7]?=H .nilFunc:=by
    have hl:n<y (uJ b n):=by rw[Db b n an];exact i
    have:=sr (uJ b n) n 0 hl (by decide);rw[List.getElem?_toArray];rw[jn]at this;rw[this];have w:=MY b n i;rw[aI hl]at w;cases h0':(uJ b n)[n]with
    |mk bx bv fr fu en bt=>
     rw[h0']at w;cases w;rfl
   have br:=Jn (P:=bz) f m (.func (.func bl) #[] cb) rfl;have r:(cA wr (R (z<|G a)<|n*7)<|.func (.func bl) #[] cb).heap[z<|G a]?=H (ar (dS<|uJ b<|n+1).toArray 342 (0,0)):=by
    have hl:n<y (uJ b n):=by rw[Db b n an];exact i
    have w:(uJ b n)[n]=Bp:=by
     have:=MY b n i;rw[aI hl]at this;grind
    refine(aT f).trans ?_;simp only[cz];rw[<-TA b n i,<-GH (uJ b n) n hl (JI b[n]) (by rw[w];rfl) (by rw[w];rfl) (by rw[w];rfl)];simp only[JI,S]
   obtain⟨O,K,D⟩:=dA r (g.other (b':=z<|G a) (i:=n*7) (.func (.func bl) #[] cb)<|by omega)<|c.setCell (p:=(R (z<|G a)<|n*7)) (ai _)<|.func (.func bl) #[] cb;clear f g c m r l ba bb S;go_wp2;go_roundw;case rel=>exact⟨n+1,i,by go_num,O,K,D⟩
   case measure=>simp[intOf];omega
  .have K:n=y b:=by omega
   subst K;clear f g c;go_wp2;go_ret;have f:=ae N;have g:=ae F;have c:=ae C;have w:uJ b (y b)=b.map JI:=by simp[uJ]
   rw[w]at f;have Q:I az a wr:=I.aR c;have hg:=ae HG;have O:jW (b.map JI)=b.map (·.2.1):=by unfold jW;rw[iz];rfl
   refine⟨_,lU (z<|G B) (z<|G a)<|b.map JI,rfl,⟨221,_,rfl,enters_of func221 (by kernel_rfl) rfl,?_⟩,c,?_⟩
   .refine Pp bk V (z<|G B) (z<|G a) (y b) (by omega) _ (b.map JI) wr (by rw[O]) (by simp) ⟨by grind,f,λj s=>?_,aC T c.size,HF,⟨by omega,T⟩,by omega,λj s u m=>?_,λj bm s hj D u m=>?_⟩
    .have l:j<y b:=by simpa using s
     have e:=hg j l;have r:=Q.same (V:=bk) (n0:=V) (S:=b[j].2.2) T (λu m=>⟨(e.own.each u m).2,λt=>t⟩) cO;rw[qW];exact⟨λ_=>e.same r,e.own.same r,λt=>by cases t⟩
    .have l:j<y b:=by simpa using s
     rw[qW]at m;have:=((hg j l).own.each u m).2;grind
    .rw[qW]at m|-;exact au j bm (by simpa using s) (by simpa using hj) D u m
   .rintro u(t|t|⟨j,s,t⟩)
    .grind
    .grind
    .rw[qW]at t;exact .inl ⟨j,by simpa using s,t⟩
def mP(V:iY)(f:M)(j:aa)(h:cJ)(w:Y):Prop:=∃t v i b,j=.iface t v/\(∀w,(Go.method 554 t v "From").run bz w=.ok (i,b) w)/\Enters bz i/\∀e c,jF V f az w c->V.D c->cD bz i #[b,aj e] c λl a=>∃g d,l=aL g/\jf V f g (fT e h) d a/\V.D a/\I V.F c a/\(∀k,d k->z (G c)<=k)
def Wl:(prog.info? 190).map (λi=>(i.zero,i.size,i.bytes))=H (H .nilFunc,1,8):=by kernel_rfl
def vH(w:Y)(v:aa)(t:TypeId):∀j u,[v][j]?=H u->aO (cF w<|ar #[v] t) (((R (z<|G w) 0):Addr).add j)=H u:=by
 intro j u a;rw[du];simp_all
def Vz(h:d.oneCell'=bU):∀u∈[d],u.oneCell'=bU:=by
 grind
structure Bk(V:iY)(n0:M)(w0 w:Y)(lo:ab)(Rqq:cw (aa×cJ))(o:aa)(Gqq:cw (aa×cJ×fA)):Prop where
 own:w.ownsRow (z<|G w0) 190 1 o (y Gqq) (Gqq.map (·.1))
 gives:∀i(hi:i<y Gqq),jf V n0 Gqq[i].1 Gqq[i].2.1 Gqq[i].2.2 w
 rows:Gqq.map (·.2.1)=(Rqq.take<|y Gqq).map (λr=>fT lo r.2)
 No:∀i j(hi:i<y Gqq)(hj:j<y Gqq),i≠j->∀k,Gqq[i].2.2 k->¬Gqq[j].2.2 k
 apart:∀i(hi:i<y Gqq)k,Gqq[i].2.2 k->z (G w0)<=k/\ct o≠H k
 aH:V.D w
 aw:I V.F w0 w
def Bk.next{x:Y}{h:cw (aa×cJ)}{e:cw (aa×cJ×fA)}(s:Bk t b a f W h d e)(o:y e<y h)(hn:b<=z (G a))(hF:∀k,t.F k->k<b)(L:I t.F f C)(D:jf t b N (fT W h[y e].2) X C)(hD:t.D C)(B:∀k,X k->z (G f)<=k){V:Obj}(Q:eL (cF C V) x d u)(P:x.ownsRow (z<|G a) 190 1 u (y e+1) (e.map (·.1)++[N])):Bk t b a x W h u (e++[(N,fT W h[y e].2,X)]):=by
 have K:=s.aw.size;have p:∀k,ct d=H k->z (G a)<=k/\k<z (G f):=λk c=>s.own.lt k c;have w:∀k,b<=k->¬t.F k:=λk c a=>by have:=hF k a;omega
 have j:I (λk=>ct d=H k) C x:=(((I.refl (λk=>ct d=H k) C).alloc V).trans (I.dJ (S:=λk=>ct d=H k) Q.grown<|λk c=>.inl c)<|λk c=>.inl c);have O:I (λk=>t.F k\/ct d=H k) f x:=(L.mono (T:=λk=>t.F k\/ct d=H k)<|λk c=>.inl<|.inl c).trans j<|λk c=>.inl<|.inr c;have i:∀l(q:l<y (e++[(N,fT W h[y e].2,X)])),(∃g:l<y e,(e++[(N,fT W h[y e].2,X)])[l]=e[l])\/(l=y e/\(e++[(N,fT W h[y e].2,X)])[l]=(N,fT W h[y e].2,X)):=by grind
 have F:∀k,(k<z (G C)/\ct d≠H k)->ct u≠H k:=by rintro k⟨A,h2⟩m;rcases Q.ur with r|⟨ad,r,n⟩;(grind);rw[r]at m;cases m;simp at n;omega
 have v:∀k,X k->k<z (G C):=λk c=>(D.own.each k c).2;refine⟨by grind,λl q=>?_,?_,λl ac q hj E k c=>?_,λl q k c=>?_,?_,?_⟩;rcases i l q with⟨g,m⟩|⟨_,m⟩;(rw[m];have n:=s.gives l g;refine n.same<|O.same (aC hn K) (λk c=>⟨(n.own.each k c).2,?_⟩)<|λk c o=>?_;rintro(r|r);exact w k (n.own.each k c).1 r;exact(s.apart l g k c).2 r;grind);rw[m];refine D.same<|j.same D.own.size (λk c=>⟨v k c,λr=>?_⟩)<|λk c o=>?_;have:=B k c;have:=(p k r).2;omega;grind
 rw[aQ,s.rows];simp only[bZ,fW,af,aS,dH,dp];rw[ah o,aQ];rfl;rcases i l q with⟨g,m⟩|⟨ei,m⟩<;>rcases i ac hj with⟨n,A⟩|⟨ej,A⟩;rw[m]at c;rw[A];exact s.No l ac g n E k c;rw[m]at c;rw[A];intro r;have:=B k r;have:=((s.gives l g).own.each k c).2;omega;rw[m]at c;rw[A];intro r;have:=B k c;have:=((s.gives ac n).own.each k r).2;omega;omega;rcases i l q with⟨g,m⟩|⟨_,m⟩;rw[m]at c;have:=((s.gives l g).own.each k c).2;have n:=L.size;exact⟨(s.apart l g k c).1,F k ⟨by omega,(s.apart l g k c).2⟩⟩;rw[m]at c;have:=B k c;grind
 exact t.fD hD j<|λk c=>w k (by have:=(p k c).1;omega);exact(s.aw.trans L<|λk c=>.inl c).trans j<|λk c=>.inr (p k c).1
def mP.same{V:iY}{n0:M}(j:mP V n0 d e a)(l:jF V n0 az a f):mP V n0 d e f:=by
 obtain⟨t,v,o,b,c,g,h,i⟩:=j;exact⟨t,v,o,b,c,g,h,λm n j k=>i m n (l.trans j) k⟩
def BH(r:M)(c:cw (aa×cJ))(lv:aa)(x:ab)(hr:Row a 1 lv (y c) (c.map (·.1)))(W:∀n,ct lv=H n->n<z (G a)/\¬t.F n)(hn:y c<=1000000000)(hR:∀F(m:F<y c),mP t r c[F].1 c[F].2 a)(hD:t.D a)(ad:r<=z (G a))(hF:∀n,t.F n->n<r):cD bz 97 #[lv,aj x] a λbn w'=>∃v' S',bn=aL v'/\jf t r v' (cG<|(c.map (·.2)).map<|fT x) S' w'/\t.D w'/\I t.F a w'/\(∀n,S' n->z (G a)<=n):=by
 obtain⟨i0,V,al,an,ao⟩:=cH Wl;obtain⟨bu,bm,bi⟩:=bM hr;obtain⟨HR,av,L,HD,HF⟩:=je hr W hR hD hF;clear hr W hR hD hF;subst bi;go_in
 go_wp2_with(at_make;refine jJ _ rfl _ _ 271 rfl (z<|G a) 190 i0 .nilFunc 1 underlying271 V al an _ _ _ (y c) rfl rfl rfl (by rw[ao];omega) (by unfold maxLen;omega) (ai _) ?_;intro w1 v u;have B:=U v;have s:=U u;clear v u)
 have Q:Bk t r a w1 x c (bB (z<|G a) 0 0<|y c) []:=by have d:I t.F a w1:=I.dJ s (by simp);exact⟨B,λF m=>by simp at m,by simp,λF j m=>by simp at m,λF m=>by simp at m,t.fD HD (I.dJ (S:=az) s<|by simp) cO,d⟩
 have ax:=U Q;clear Q;go_loopw [5,13] (λo F wr=>∃(bl:M)(b:cw (aa×cJ×fA)),bl<=y c/\F=ap bl/\y b=bl/\Bk t r a wr x c o b) (λ_ F _=>y c-(intOf F).toNat)
 case atStart=>exact⟨0,[],bj _,rfl,rfl,ax⟩
 case round=>
  obtain⟨bl,b,br,rfl,bf,d⟩:=hrel;obtain⟨ox,oc,ho⟩:=aA d.own;subst bf;by_cases p:y b<y c
  .obtain⟨bx,bT,bo,bt,ac,hm,he,i⟩:=L (y b) p;have eg:∀b a,(callFunc bo b).run bz a=.ok (.enter bo b) a:=he;have l:jF t r az a wr:=d.aw.same ad cO<|λn E _=>E;have hc:=i x wr l d.aH;obtain⟨bq,e,hx⟩:∃bq e,bu=H (R bq e):=by
    obtain⟨h1,⟨D,h0⟩|⟨bv,aq,N,D,bh,hc⟩⟩:=ae HR
    .omega
    grind
   have bp:aO wr (R bq<|e+y b)=H (.iface bx bT):=by
    obtain⟨h1,⟨D,_⟩|⟨bv,aq,N,D,bh,bg⟩⟩:=ae HR
    .rw[hx]at D;cases D
    .rw[hx]at D;cases D;have hb:=av bq (by rw[hx];rfl);refine d.aw.cell (bg (y b) _ ?_) hb.2 hb.1;rw[dP,aI p];simp[ac]
   subst hx;subst ho;have K:=U d;clear d i l ac he;go_wp2_with(first
    |(go_at_fn bo;refine hc.mono ?_;rintro bn w2⟨v1,S1,rfl,o,P,q,g⟩;obtain⟨O,f,rfl,T,X⟩:=o;have A:=U<|show jf t r (.func (.func O) #[] f) (fT x c[y b].2) S1 w2 from⟨O,f,rfl,T,X⟩;have j:=aN (q.own K.own (λn E hf=>by have:=HF n hf;have:=(K.own.lt n E).1;omega))<|.cells #[.func (.func O) #[] f] 190;have bb:=U j;have au:=U P;have bc:=U q;have C:=U g;have bs:=q.size;have bk:=K.aw.size;clear P q g X j T)
    |(at_builtin;refine bO _ rfl (.tmp 17) (.tmp 21) 271 rfl (z (G a)) 190 i0 .nilFunc 1 8 underlying271 V al an ao rfl (by decide) (.slice ox (y b) oc) (y b) (b.map (λ(bu:aa×cJ×fA)=>bu.1)) rfl bb (R (z (G w2)) 0) 1 1 [.func (.func O) #[] f] rfl rfl (vH _ _ _) (Vz rfl) (by omega) (by omega) (by simp;omega) ?_;intro o2 w3 k w;have ba:=U k;have bd:=U w;clear k w))
   go_roundw;case rel=>
    refine⟨y b+1,b++[(.func (.func O) #[] f,fT x c[y b].2,S1)],p,by go_num,by simp,?_⟩;exact K.next p ad HF bc A au C bd ba
   case measure=>simp[intOf];omega
  .have k:y b=y c:=by omega
   subst ho;have K:=U d;have bk:=d.aw.size;have l:Row wr 1 (J ox (y b) oc) (y b) (b.map (·.1)):=da d.own;have i:∀n,ct (J ox (y b) oc)=H n->n<z (G wr):=λn E=>(d.own.lt n E).2;have D:=SW t r b l i (by omega) (λF m=>d.gives F m) d.No (by omega) HF;have e:b.map (·.2.1)=(c.map (·.2)).map (fT x):=by rw[d.rows,k,aX,iz];rfl
   have j:=U e;clear d l i e k;go_wp2_with(go_at_call 159;refine D.mono ?_;rintro bn w2⟨v1,S1,rfl,o,f,g⟩;have A:=U o;have w:=U f;have C:=U g;clear o f g)
   go_ret;have d:=ae K;have f:=ae w;have q:I az wr w2:=I.aR f;refine⟨v1,S1,rfl,?_,t.fD d.aH q cO,d.aw.cr q,λn E=>?_⟩
   .rw[<-ae j];exact A
   .rcases C n E with⟨F,m,N⟩|N
    .exact(d.apart F m n N).1
    .omega
def ZO(j:M)(b:cw (aa×cJ))(K:ab)(P:Z)(hr:Row a 1 d (y b) (b.map (·.1)))(g:∀k,ct d=H k->k<z (G a)/\¬t.F k)(hn:y b<=1000000000)(hR:∀ao(hi:ao<y b),mP t j b[ao].1 b[ao].2 a)(hD:t.D a)(n:j<=z (G a))(hF:∀k,t.F k->k<j):cD bz 201 #[d,aj K,aJ P] a λO e=>∃r q,O=aL r/\jf t j r (nu ⟨#[]⟩<|(cG<|(b.map (·.2)).map<|fT K).filter<|λO=>decide<|O.bP<=P) q e/\t.D e/\I t.F a e/\(∀k,q k->z (G a)<=k):=by
 obtain⟨X,A⟩:∃X,cF (cF a<|ar #[aJ P] 98) (ar #[aj ⟨#[]⟩] 9)=X:=⟨_,rfl⟩;have E:I az a X:=by rw[<-A];exact(cK _ a).alloc _
 have hz:z (G X)=z (G a)+2:=by rw[<-A];simp
 have ad:=BH j b d K (E.row hr<|λk c=>⟨λN=>N,(g k c).1⟩) (λk c=>⟨by have:=(g k c).1;omega,(g k c).2⟩) hn (λao hi=>(hR ao hi).same<|E.same n cO cO) (t.fD hD E cO) (by omega) hF;have m:∀k,j<=k->¬t.F k:=λk c a=>by have:=hF k a;omega
 have i:∀(e:Y)(r:aa)(q:fA),jf t j r (cG<|(b.map (·.2)).map<|fT K) q e->I t.F X e->(∀k,q k->z (G X)<=k)->cD bz 243 #[r,.func (.func 245) #[] #[ay<|z<|G a,ay<|z (G a)+1]] e λO p=>∃l f,O=aL l/\jf t j l (nu ⟨#[]⟩<|(cG<|(b.map (·.2)).map<|fT K).filter<|λO=>decide<|O.bP<=P) f p/\Below (z<|G e) e p/\(∀k,f k->z (G a)<=k):=by intro e r q hg F hS;have b1:ep e (z<|G a) (aJ P) 98:=(F.block _ (by omega)<|m _ n).trans (by rw[<-A];grind[ep.alloc,aB]);have b2:ep e (z (G a)+1) (aj ⟨#[]⟩) 9:=(F.block _ (by omega)<|m _<|by omega).trans (by rw[<-A];exact aB _<|by simp);refine(Mi (G6 t j (z<|G a) (z (G a)+1) P) ⟨#[]⟩ hg ⟨b1,b2,by omega,n,by omega⟩<|λk c N=>?_).mono ?_;have:=hS k c;rcases N with N|N<;>omega;rintro O p⟨l,f,h1,h2,h3,h4⟩;refine⟨l,f,h1,?_,h3,λk c=>?_⟩;rw[<-YG];exact h2;rcases h4 k c with N|(N|N)|N;have:=hS k N;omega;omega;omega;grind
 obtain⟨V,HT,HD⟩:=dA i E<|λL(b:I t.F X L)(h:t.D L)(a:Y)(P:Below (z<|G L) L a)=>t.fD h (I.aR (S:=az) P) cO;obtain⟨av,aq,al⟩:=bM hr;subst A;clear i E hR hD hF m hz g hr;subst al;go_in
 go_wp2_with(first
  |(go_at_call 97;refine ad.mono ?_;rintro O w2⟨v1,S1,rfl,C,v,o,w⟩;have i:=V w2 v1 S1 C o w;have Q:=U v;have u:=U o;obtain⟨f1,au,rfl,ac,an⟩:=C;clear v o w ac an)
  |(go_at_call 243;refine i.mono ?_;rintro O L⟨v2,S2,rfl,D,B,x⟩;have T:=U D;have s:=U B;have W:=U x;clear D B x))
 go_ret;exact⟨v2,S2,rfl,T,HD _ u Q _ s,(((HT.mono cO).trans u<|λk c=>.inl c)).trans (I.aR (S:=t.F) s)<|λk c=>.inl c,W⟩
def gG(W:Y)(l:M)(o:Obj):I (λk=>k=l) W (W.putObj l o):=I.dJ (grownBy_putObj' W l o)<|by grind
def Rq(f:T->Array aa)(V:iY)(i q m:M)(n:Array aa)(o l:cw T->Prop)(S e:fA)(w:Y):Prop:=∀(h:M)(d:cw T->fA->Y->Prop)(g:cw T->Y->Prop)(B:fA)(W:Y),jF V i S w W->V.D W->d [] B W->(∀k,S k->¬B k)->(∀a B W,d a B W->∀k,B k->i<=k/\k<z (G W))->(∀a B W b p,d a B W->I p W b->(∀k,p k->¬B k/\e k)->d a B b)->(∀a x B W,o (a++[x])->d a B W->V.D W->YieldAt Fence.wide (q-1) bz h (f x) W λj b=>
 (j=aL (aK bU)/\V.D b/\∃c,d (a++[x]) c b/\I B W b/\(∀k,c k->B k\/z (G W)<=k))\/(j=aL (aK aY)/\g (a++[x]) b))->
 CallsIn Fence.wide q bz m (#[.func (.yield h) #[] #[]]++n) W λj b=>(∃v,j=aL v)/\((∃k c,l k/\d k c b/\V.D b)\/(∃a,g a b))
def IV{α:Type}(e:α->Array aa)(V:iY)(h n j:M)(l:Array aa)(m:cw α)(S:fA)(w:Y):Prop:=∀(g:M)(d:cw α->fA->Y->Prop)(f:cw α->Y->Prop)(B:fA)(W:Y),jF V h S w W->V.D W->d [] B W->(∀k,S k->¬B k)->(∀a B W,d a B W->∀k,B k->h<=k/\k<z (G W))->(∀a B W b T,d a B W->I T W b->(∀k,T k->¬B k/\(S k\/V.F k\/z (G w)<=k))->d a B b)->(∀a x B W,(a++[x])<+:m->d a B W->V.D W->YieldAt Fence.wide (n-1) bz g (e x) W λi b=>
 (i=aL (aK bU)/\V.D b/\∃c,d (a++[x]) c b/\I B W b/\(∀k,c k->B k\/z (G W)<=k))\/(i=aL (aK aY)/\f (a++[x]) b))->
 CallsIn Fence.wide n bz j (#[.func (.yield g) #[] #[]]++l) W λi b=>(∃v,i=aL v)/\((∃c,d m c b/\V.D b)\/(∃a,f a b))
def IV.q{α:Type}{d:α->Array aa}{q:cw α}(u:IV d t c g l V q X a):Rq d t c g l V (·<+:q) (·=q) X (λp=>X p\/t.F p\/z (G a)<=p) a:=by
 intro r s e B W f h j k m n o;apply(u r s e B W f h j k m n o).mono;grind
abbrev A7{α:Type}(a:α->Array aa)(V:iY)(e m:M)(c:M)(d:Array aa)(f b:cw α->Prop)(S:fA)(w:Y):Prop:=Rq a V e m c d f b S (λk=>S k\/V.F k\/z (G w)<=k) w
def BM(V:iY)(g:cw T->fA->Y->Prop)(f:Code->cw T->fA->Y->Prop)(e:cw T)(B:fA)(W d:Y)(b:M):Exit->Act->Y->Prop
 | .normal,_,a=>V.D a/\∃c,g e c a/\I (λk=>B k\/k=b) W a/\a.heap[b]?=d.heap[b]?/\(∀k,c k->B k\/z (G W)<=k)
 | .ret,_,a=>∃c,f .ret e c a/\I (λk=>B k\/k=b) W a/\a.heap[b]?=d.heap[b]?/\(∀k,c k->B k\/z (G W)<=k)
 | .exit id,_,a=>∃c,f (.exit id) e c a/\I (λk=>B k\/k=b) W a/\a.heap[b]?=d.heap[b]?/\(∀k,c k->B k\/z (G W)<=k)
 | .goto _,_,_=>False
 | .panic _,_,_=>False
 | .outgrown,_,_=>False
abbrev Qx{α:Type}(i:α->Array aa)(o:M)(t:Operand)(n:Array Tmp)(c body:Code)(Q:Exit->Act->Y->Prop)(a:Act)(w:Y)(V:iY)(r:M)(s:cw α->Prop)(S g:fA)(j:cw α->fA->Y->Prop)(f:Code->cw α->fA->Y->Prop)(B:fA)(p:Prop):Prop:=(j [] B w)->(∀k,S k->¬B k)->(∀b B W,j b B W->∀k,B k->r<=k/\k<z (G W))->(∀b B W e T,j b B W->I T W e->(∀k,T k->¬B k/\g k)->j b B e)->(∀m b B W e T,f m b B W->I T W e->(∀k,T k->¬B k/\z (G w)<=k)->f m b B e)->(∀d b x B W,z (G w)<=d->¬B d->d<z (G W)->s (b++[x])->j b B W->V.D W->c.wpIn (Fence.wide.inRound d) (o-1-1) bz (Exit.then (λq l=>I az W l/\∀h,I (λk=>k=d) l h->body.wpIn (Fence.wide.inRound d) (o-1-1) bz (BM V j f (b++[x]) B W h d) q h) (λ_ _ _=>False)) {tmps:=(n.zip<|i x).foldl (λv(u,A)=>v.setIfInBounds u A) a.tmps,defers:=[]} W)->p->(∀(D:M)(m:Code)(b:cw α)(B:fA)(W:Y),z (G w)<=D->f m b B W->¬B D->W.heap[D]?=H (.deferred<|H [])->m.wpIn Fence.wide o bz Q {a with defers:={target:=.collected D,args:=#[]}::a.defers} W)->(Code.rangeFunc t n c body).wpIn Fence.wide o bz Q a w
def xx{arg:T->Array aa}{m:M}{bq:Operand}{ps:Array Tmp}{assign body:Code}{bp:Exit->Act->Y->Prop}{a:Act}{V:iY}{n0 gf:M}{lb:Array aa}{pp ff:cw T->Prop}{S N:fA}(hU:∀k,z (G f)<=k->N k)(hg:a.eval bq=.func (.func gf) #[] lb)(eg:Enters bz gf)(bg:∀bi,(arg bi).size=ps.size)(rk:Rq arg V n0 (m-1) gf lb pp ff S N f)(hD:V.D f)(bf:n0<=z (G f))(al:∀k,S k->k<z (G f))(bn:cw T->fA->Y->Prop)(Ix:Code->cw T->fA->Y->Prop)(aq:fA):Qx arg m bq ps assign body bp a f V n0 pp S N bn Ix aq (∀(bm:cw T)(bk:M)(aq:fA)(W:Y),ff bm->z (G f)<=bk->bn bm aq W->¬aq bk->V.D W->W.heap[bk]?=H (.deferred<|H [])->bp .normal {a with defers:={target:=.collected bk,args:=#[]}::a.defers} W):=by
 intro h0 bo X K B O Q ac;refine wpIn_rangeFunc ?_;intro fn bb;obtain⟨c,g⟩:∃c:LoopState->Option Code->Loop,c=λb d=>{state:=b,pending:=d,fn,tmps:=a.tmps,params:=ps,assign,body,defers:=z (G f)}:=⟨_,rfl⟩;obtain⟨C,E⟩:∃C,cF (cF f<|.deferred<|H []) (.loop<|c .ready none)=C:=⟨_,rfl⟩;have ba:C.heap[z (G f)+1]?=H (.loop<|c .ready none):=by rw[<-E];exact aB _<|by simp
 have ax:C.heap[z<|G f]?=H (.deferred<|H []):=by rw[<-E];grind[gl,aB]
 have ad:I az f C:=by rw[<-E];exact(cK _ f).alloc _
 refine⟨z (G f)+1,[{target:=.collected<|z<|G f,args:=#[]}],C,{target:=.fn (.func gf) lb,args:=#[.func (.yield<|z (G f)+1) #[] #[]]},C,gf,#[.func (.yield<|f.heap.size+1) #[] #[]]++lb,C,?_,?_,?_,?_,(λo=>(by cases o)),?_⟩;rw[<-E,g];exact run_enterLoop_outer _ _ _ _ _;(.simp only[resolve,hg];simp[go_sem]);intro b _;trivial;(.have:=eg;unfold Enters at this;simp[invoke,go_sem,this])
 .refine(rk (z (G f)+1) (λn aq W=>∃l,(∀k,aq k↔l k\/k=z (G f)\/k=z (G f)+1)/\bn n l W/\¬l (z<|G f)/\¬l (z (G f)+1)/\W.heap[z (G f)+1]?=H (.loop<|c .ready none)/\W.heap[z<|G f]?=H (.deferred<|H [])) (λn W=>∃o l,Ix o n l W/\¬l (z<|G f)/\¬l (z (G f)+1)/\W.heap[z (G f)+1]?=H (.loop<|c .done<|H o)/\W.heap[z<|G f]?=H (.deferred<|H [])) (λk=>aq k\/k=z (G f)\/k=z (G f)+1) C (ad.same bf (λk q=>⟨al k q,λo=>o⟩) cO) (V.fD hD ad cO) ⟨aq,λk=>rA,K _ _ _ _ _ h0 ad cO,λo=>by have:=(X _ _ _ h0 _ o).2;omega,λo=>by have:=(X _ _ _ h0 _ o).2;omega,ba,ax⟩ ?_ ?_ ?_ ?_).mono ?_
  .grind
  .rintro n B' W⟨l,D,F,_,_,s,q⟩k e;rcases(D k).1 e with o|o|o
   .exact X _ _ _ F k o
   .grind
   grind
  .rintro n B' W j p⟨l,D,F,n1,n2,s,q⟩i d;exact⟨l,D,K _ _ _ _ _ F i<|λk e=>⟨λo=>(d k e).1<|(D k).2<|.inl o,(d k e).2⟩,n1,n2,(i.block _ (am s)<|λo=>(d _ o).1<|(D _).2<|.inr<|.inr rfl).trans s,(i.block _ (am q)<|λo=>(d _ o).1<|(D _).2<|.inr<|.inl rfl).trans q⟩
  .rintro n bi B' W ao⟨l,D,F,n1,n2,s,q⟩av;have hy:=run_yield (P:=bz) (args:=(arg bi)) s (by rw[g];exact bg bi);rw[g]at hy;refine⟨fn,_,assign,body,hy,roundIn_of_wpIn bb<|wpIn_mono (O (z (G f)+1) n bi l W (by omega) n2 (am s) ao F av) ?_⟩;clear hy;intro bl a1 Wa L;cases bl with
   |normal=>
    obtain⟨bh,L⟩:=L;have an:Wa.heap[z (G f)+1]?=H (.loop<|c .ready none):=(bh.block _ (am s)<|λo=>o).trans s;refine⟨_,run_beginRound an (by rw[g]),?_⟩;have bc:(Wa.putObj (z (G f)+1)<|.loop {c .ready none with state:=.busy}).heap[z (G f)+1]?=H (.loop {c .ready none with state:=.busy}):=World.putObj_heap_same<|am an;refine wpIn_mono (L _<|gG _ _ _) ?_;have fin:∀(d:Option Code)(j:Y),j.heap[z (G f)+1]?=(Wa.putObj (z (G f)+1)<|.loop {c .ready none with state:=.busy}).heap[z (G f)+1]?->(Instr.endRound (z (G f)+1) d).run bz j=.ok (aK d.isNone) (j.putObj (z (G f)+1)<|.loop<|c (if d.isNone then .ready else .done) d)/\(j.putObj (z (G f)+1)<|.loop<|c (if d.isNone then .ready else .done) d).heap[z (G f)+1]?=H (.loop<|c (if d.isNone then .ready else .done) d):=λd j h3=>by
     have bd:=h3.trans bc;have:=run_endRound (P:=bz) d bd;rw[g]at this|-;grind[World.putObj_heap_same,am]
    have r:∀j,I (λk=>l k\/k=z (G f)+1) W j->j.heap[z<|G f]?=H (.deferred<|H []):=λj i=>(i.block _ (am q)<|λo=>o.elim n1<|λo=>by omega).trans q;have x:∀(p:fA),(∀k,p k->l k\/z (G W)<=k)->¬p (z<|G f)/\¬p (z (G f)+1):=λp b=>by
     have:=am s;grind
    rintro bl a3 j t;cases bl with
    |normal=>
     obtain⟨d,p,v,i,A,u⟩:=t;obtain⟨hr,w⟩:=fin none j A;obtain⟨q1,q2⟩:=x p u;have b:=gG j (z (G f)+1)<|.loop<|c (if(none:Option Code).isNone then .ready else .done) none;refine⟨_,_,hr,.inl ⟨rfl,V.fD d b<|λk e hf=>?_,λk=>p k\/k=z (G f)\/k=z (G f)+1,⟨p,λk=>rA,K _ _ _ _ _ v b (λk e=>by grind),q1,q2,w,?_⟩,?_,?_⟩⟩
     .have:=V.lt hD hf;omega
     .exact(b.block _ (am<|r j i)<|λo=>by omega).trans<|r j i
     .refine(i.trans b<|λk e=>.inl<|.inr e).mono<|λk e=>.inl<|(D k).2 ?_;grind
     grind
    |ret=>
     obtain⟨p,v,i,A,u⟩:=t;obtain⟨hr,w⟩:=fin (H .ret) j A;obtain⟨q1,q2⟩:=x p u;have b:=gG j (z (G f)+1)<|.loop<|c (if(H Code.ret:Option Code).isNone then .ready else .done)<|H .ret;exact⟨_,_,hr,.inr ⟨rfl,.ret,p,B _ _ _ _ _ _ v b (λk e=>by grind),q1,q2,w,(b.block _ (am<|r j i)<|λo=>by omega).trans<|r j i⟩⟩
    |exit id=>
     obtain⟨p,v,i,A,u⟩:=t;obtain⟨hr,w⟩:=fin (H<|.exit id) j A;obtain⟨q1,q2⟩:=x p u;have b:=gG j (z (G f)+1)<|.loop<|c (if(H (Code.exit id):Option Code).isNone then .ready else .done)<|H<|.exit id;exact⟨_,_,hr,.inr ⟨rfl,.exit id,p,B _ _ _ _ _ _ v b (λk e=>by grind),q1,q2,w,(b.block _ (am<|r j i)<|λo=>by omega).trans<|r j i⟩⟩
    |goto br=>exact t.elim
    |panic ch=>exact t.elim
    |outgrown=>exact t.elim
   |exit id=>exact L.elim
   |goto br=>exact L.elim
   |ret=>exact L.elim
   |panic au=>exact L.elim
   |outgrown=>exact L.elim
  .rintro bl j⟨⟨v,rfl⟩,(⟨bm,B',i,⟨l,D,F,n1,n2,s,q⟩,d⟩|⟨n,o,l,F,n1,n2,s,q⟩)⟩
   .have b:=λc=>gG j (z (G f)+1) c;exact⟨none,_,by have:=run_endLoop (P:=bz) s (by rw[g];simp);rw[g]at this;exact this,Q bm _ l _ i (ai _) (K _ _ _ _ _ F (b _)<|λk e=>by grind) n1 (V.fD d (b _) (λk e hf=>by have:=V.lt hD hf;omega))<|(b _).block _ (am q) (λo=>by omega)|>.trans q⟩
   .have b:=λc=>gG j (z (G f)+1) c;exact⟨H o,_,by have:=run_endLoop (P:=bz) s (by rw[g];simp);rw[g]at this;exact this,ac _ o n l _ (ai _) (B _ _ _ _ _ _ F (b _)<|λk e=>by grind) n1<|(b _).block _ (am q) (λo=>by omega)|>.trans q⟩
def nQ{α:Type}{arg:α->Array aa}{m:M}{A:Operand}{s:Array Tmp}{b body:Code}{Q:Exit->Act->Y->Prop}{a:Act}{V:iY}{n0 gf:M}{lb:Array aa}{l:cw α}{S:fA}(x:a.eval A=.func (.func gf) #[] lb)(u:Enters bz gf)(o:∀E,(arg E).size=s.size)(rk:IV arg V n0 (m-1) gf lb l S f)(w:V.D f)(n:n0<=z (G f))(g:∀q,S q->q<z (G f))(t:cw α->fA->Y->Prop)(r:Code->cw α->fA->Y->Prop)(B:fA):Qx arg m A s b body Q a f V n0 (·<+:l) S (λq=>S q\/V.F q\/z (G f)<=q) t r B (∀(D:M)(B:fA)(W:Y),z (G f)<=D->t l B W->¬B D->V.D W->W.heap[D]?=H (.deferred<|H [])->Q .normal {a with defers:={target:=.collected D,args:=#[]}::a.defers} W):=λv i k p h c d e=>xx (λ_ C=>.inr<|.inr C) x u o rk.q w n g t r B v i k p h c (λ_ D B W j=>j▸d D B W) e
abbrev Uk(x:E):Array aa:=#[x.value,.nilIface]
abbrev Iter:=@IV E Uk
section
open Shelf
def FJ(cB:M)(cb:Array aa)(hb:ep a c (.func (.func g) #[] cb) 190)(he:Enters bz g)(hr:IT t b g cb e X a)(cc:b<=c)(co:¬X c):Iter t b cB 220 #[ay c] e (λk=>X k\/k=c) a:=by
 intro lr cu Jx cE cv hs hD hJ bk ao bp hY;have eg:∀b a,(callFunc g b).run bz a=.ok (.enter g b) a:=he;have bl:ep cv c (.func (.func g) #[] cb) 190:=hb.same hs<|.inr rfl;have bo:IT t b g cb e X cv:=hr.same<|hs.mono<|λ_ i=>.inl i;have ch:=hs.1;obtain⟨ck,cl,HD,HJ,cm,V,L,HY⟩:=FB bl bo hD hJ bk ao bp hY;clear hs hD hJ bk ao bp hY hb hr bl bo he;refine ru func220 rfl trivial ?_ rfl;simp only[ntmps220,eU,aS,dH,Nat.reduceAdd,Nat.reduceSub,dR,dQ,eV,eD,cU,cL];gi_wp2;gi_loopg [3] (y e+1) (λd _ wr=>∃f q S' v,e=f++q/\y q<d/\IT t b g cb q S' wr/\ep wr c (.func (.func g) #[] cb) 190/\t.D wr/\cu f v wr/\(∀k,S' k->¬v k)/\¬v c/\¬S' c/\(∀k,S' k->X k\/z (G a)<=k)/\z (G a)<=z (G wr))
 case atStart=>grind[ae]
 case round=>
  obtain⟨f,q,S',v,hl,bm,p,Q,O,j,n,ac,al,D,cp⟩:=hrel;have bv:=U D;have cn:=Q.cell;have S:=U Q;have bt:=U j;have ba:=U n;obtain⟨au,bb,HL⟩:=dA ac al hl;have o:=p.own;have ax:=U o;have F:∀k,b<=k->¬t.F k:=λk i a=>by have:=o.aH k a;omega
  have ca:=U F;cases q with
  |nil=>
   have hc:=p.2 wr (jF.refl _ _ _ _) O;have HT:=U<|λm(X:I (λk=>S' k\/t.F k) wr m)=>(ae L) f v wr m _ j X<|λk i=>⟨λr=>i.elim (λs=>n k s r)<|λs=>F k ((ae V) _ _ _ j k r).1 s,i.elim (λs=>(D k s).elim (λr=>.inl<|.inl r)<|λr=>.inr<|.inr r)<|λs=>.inr<|.inl s⟩;clear p Q O j n ac al hl o F bm D;gi_wp2_with(refine⟨trivial,(λr=>(by cases r)),?_⟩;gi_at_fn g;refine(dh.2 hc).mono ?_;rintro cx m⟨rfl,C,l⟩;have d:=U C;have av:=U<|(ae HT) m l;clear C l;unfold xe)
   refine⟨λ_ h=>(by cases h),?_⟩;gi_wp2;refine cP (iT rfl _ _ _) rfl ?_;refine⟨⟨_,rfl⟩,.inl ⟨v,?_,t.fD (ae d) (cK az m) cO⟩⟩;have hl:=ae HL;rw[ee]at hl;rw[hl];exact(ae L) f v m _ _ (ae av) (cK az m) cO
  |cons cs cq=>
   have hc:=p.2 wr (jF.refl _ _ _ _) O;have bn:(f++[cs])<+:e:=⟨cq,by rw[hl];simp⟩;have HT:=U<|λm(X:I (λk=>S' k\/t.F k) wr m)=>(ae L) f v wr m _ j X<|λk i=>⟨λr=>i.elim (λs=>n k s r)<|λs=>F k ((ae V) _ _ _ j k r).1 s,i.elim (λs=>(D k s).elim (λr=>.inl<|.inl r)<|λr=>.inr<|.inr r)<|λs=>.inr<|.inl s⟩;have N:=U<|λa(c:cu f v a)(b:t.D a)=>(ae HY) f cs v a bn c b;clear p Q O j n ac al hl o F D;obtain⟨x,A,w,d⟩:=cs;unfold Uk at N;unfold E.value at hc N;simp only at hc N;gi_wp2_with(refine⟨trivial,(λr=>(by cases r)),?_⟩;gi_at_fn g;refine(dh.2 hc).mono ?_;rintro cx m⟨rfl,C,l,S1,bh,u⟩;have ad:=(ae L) f v m _ _ ((ae HT) m l) ((I.refl az m).alloc<|ar #[aj x,aj A,aK w,aJ d] 180) cO;have bd:=t.fD C ((I.refl az m).alloc<|ar #[aj x,aj A,aK w,aJ d] 180) cO;obtain⟨fn,cj,bq,body,hy,hR⟩:=(ae N) _ ad bd;have HR:=U hR;have av:=U ad;have bx:=U l;have W:=U bh;have bu:=U u;clear C l bh u ad bd hR)
   refine⟨(λr=>(by cases r)),(ae HR).mono ?_⟩;rintro cx W3(⟨rfl,bf,B3,bg,P,bc⟩|⟨rfl,hx⟩)
   .have br:=U bf;obtain⟨bs,bT,aq⟩:=dA bg P bc;clear bf bg P bc;gi_wp2;gi_roundg (y cq+1)
    case measure=>simpa using bm
    case rel=>
     have l:=ae bx;have P:=ae bT;have u:=ae bu;have o:=ae ax;have j:=ae bt;have B:=(ae V) _ _ _ j;have ce:I az m (cF m<|ar #[aj x,aj A,aK w,aJ d] 180):=(cK _ _);have bi:∀k,S1 k->¬v k:=λk i r=>by
      rcases(ae W) k i with s|s
      .exact(ae ba) k s r
      .have:=(B k r).2;omega
     have cd:=u.own.size;have K:I v m W3:=(ce.mono (T:=v) cO).trans P<|λk i=>.inl i;have an:ep m c (.func (.func g) #[] cb) 190:=by
      refine(l.block c (am<|ae S) ?_).trans<|ae S;rintro(r|r)
      .exact(ae bb) r
      .exact(ae ca) c cc r
     refine⟨f++[⟨x,A,w,d⟩],cq,S1,B3,by rw[ae HL];simp,by omega,u.same<|K.same cd (λk i=>⟨(u.own.each k i).2,bi k i⟩) (λk i ao=>by have:=(B k i).1;omega),(K.block c (am an)<|ae au).trans an,ae br,ae bs,λk i r=>?_,λr=>?_,λr=>?_,?_,?_⟩
     .rcases(ae aq) k r with s|s
      .grind
      .have:=(u.own.each k i).2;simp at s;omega
     .rcases(ae aq) c r with s|s
      .exact(ae au) s
      .have:=am an;simp at s;omega
     .rcases(ae W) c r with s|s
      .exact(ae bb) s
      .have:=am<|ae S;omega
     .intro k i;rcases(ae W) k i with s|s
      .exact(ae bv) k s
      .exact .inr<|by omega
     .have:=l.size;have:=K.size;omega
   .have B:=U hx;clear hx;gi_wp2;refine cP (iT rfl _ _ _) rfl ?_;exact⟨⟨_,rfl⟩,.inr ⟨_,ae B⟩⟩
end
section
open Shelf
attribute [local go_sem] Oper.semAt_some
def Nn(f:M)(a:Array aa)(w:Y):cD bz 158 #[.func (.func f) #[] a] w λe b=>e=aL (.func (.func 220) #[] #[ay<|z<|G w])/\b=cF w (ar #[.func (.func f) #[] a] 190):=by
 go_in
 go_wp2;go_ret;simp_all
def oh:(prog.info? 180).map (λi=>(i.zero,i.size,i.bytes))=H (H xe,4,48):=by kernel_rfl
structure yo(V:iY)(S:fA)(w0:Y)(N:M)(pre:cJ)(B:fA)(W:Y):Prop where
 NZ:ep W (z<|G w0) aD 97
 err:ep W (z (G w0)+1) .nilIface 50
 row:∃v,ep W (z (G w0)+2) v 97/\W.ownsRow (z (G w0)+3) 180 4 v (y pre) (aF pre)/\(∀k,B k↔k=z (G w0)\/k=z (G w0)+1\/k=z (G w0)+2\/ct v=H k)
 le:y pre<=N
 aw:I (λk=>S k\/V.F k) w0 W
def yo.lt{S:fA}(j:yo t S a c e X C):∀k,X k->z (G a)<=k/\k<z (G C):=by
 intro k i;obtain⟨v,l,g,h⟩:=j.row;rcases(h k).1 i with d|d|d|d;grind
 grind
 grind
 have:=g.lt k d;grind
def yo.stays{B:fA}{T:fA}(i:yo t X a b e B f)(g:I T f C)(d:∀k,T k->¬B k/\((X k\/t.F k)\/z (G a)<=k)):yo t X a b e B C:=by
 obtain⟨v,l,m,c⟩:=i.row;exact⟨(g.block _ (am i.NZ)<|λh=>(d _ h).1<|(c _).2<|.inl rfl).trans i.NZ,(g.block _ (am i.err)<|λh=>(d _ h).1<|(c _).2<|.inr<|.inl rfl).trans i.err,⟨v,(g.block _ (am l)<|λh=>(d _ h).1<|(c _).2<|.inr<|.inr<|.inl rfl).trans l,g.own m<|λk j h=>(d k h).1<|(c k).2<|.inr<|.inr<|.inr j,c⟩,i.le,i.aw.trans g<|λk j=>(d k j).2⟩
def zH{d:Func}{p q:Tmp}{e:TypeId}(l:d.results=#[.cell p e,.cell q 50]){k:TypeId}(j:prog.underlying e=H (.slice k))(a:Array aa)(w:Y)(f g:M)(u v:aa)(m:a.getD p ix=ay f)(n:a.getD q ix=ay g)(h:aO w (R f 0)=H u)(i:aO w (R g 0)=H v):(results d a).run bz w=.ok (dw #[u,v]) w:=by
 have b:a[p]?.getD ix=ay f:=by simp_all
 have c:a[q]?.getD ix=ay g:=by simp_all
 simp[results,l,b,c,asAddr,loadVar,isAgg,underlying,j,underlying50,h,i,Result.andThen]
def dV{O:Fence}{P:Program}(A:Y){m:Array Oper}{f:cw Oper}{E:Oper}{F:Act}{ac:Exit->Act->Y->Prop}(s:E.guard=none)(an ao:Operand)(K:TypeId)(t:E.op=.call {callee:=.builtin .append,args:=#[an,ao],argTypes:=#[K,K]})(a:M)(B:TypeId)(C:TypeInfo)(j:aa)(c bytes:M)(W:P.underlying K=H (.slice B))(S:P.info? B=H C)(hz:C.zero=H j)(i:C.size=c)(r:C.bytes=bytes)(v:j.cells.size=c)(u:0<c)(N:aa)(D:M)(w:iC)(V:F.eval an=N)(k:A.ownsRow a B c N D w)(p:Addr)(x ad:M)(d:iC)(X:F.eval ao=J (H p) x ad)(T:y d=x*c)(h:∀al L,d[al]?=H L->aO A (p.add al)=H L)(Q:∀L∈d,L.oneCell'=bU)(hn:D+x<=140737488355328)(e:(D+x)*bytes<=140737488355328)(g:a<=z (G A))(aq:∀n o,o.ownsRow a B c n (D+x) (w++d)->eL A o N n->wpListIn O b P m ac f (F.put E.dst n) o):wpListIn O b P m ac (E::f) F A:=by
 refine xg s λau q=>?_;obtain⟨n,o,l,r1,r2,r3,r4⟩:=ny (P:=P) A a K E.type B C j c bytes W S hz i r v u N D w k p x ad d T h Q (by unfold maxLen;omega) e g;unfold Oper.wpIn;refine⟨?_,?_⟩;simp[Oper.about,t,resolve,Target.leads,pV];rw[Oper.semAt_plain O _ _ (by rw[t];grind)];simp[execOp,t,resolve,invoke,builtin,V,X,l,Result.andThen];exact q _ _<|aq n o r1<|eL.of r2 r4
theorem wE(w:Y)(x:E)(t:TypeId):∀j u,(aF [x])[j]?=H u->aO (cF w<|ar #[aj x.key,aj x.val,aK x.del,aJ x.bP] t) (((R (z<|G w) 0):Addr).add j)=H u:=by
 intro j u a;rw[du];have h:(cF w<|ar #[aj x.key,aj x.val,aK x.del,aJ x.bP] t).heap[z<|G w]?=H (ar #[aj x.key,aj x.val,aK x.del,aJ x.bP] t (0,0)):=aB _ rfl;rw[bL h,dp];simpa[aF,E.cells]using a
theorem BQ(x:E):∀u∈aF [x],u.oneCell'=bU:=by
 intro u a;simp[aF,E.cells]at a;rcases a with rfl|rfl|rfl|rfl<;>rfl
def yo.more{B:fA}{x:E}{O:Obj}(v:yo t X a b e B f)(r:ep f (z (G a)+2) d 97)(A:∀k,B k↔k=z (G a)\/k=z (G a)+1\/k=z (G a)+2\/ct d=H k)(L:f.ownsRow (z (G a)+3) 180 4 d (y e) (aF e))(P:y e+1<=b)(F:eL (cF f O) C d u)(h:C.ownsRow (z (G a)+3) 180 4 u (y e+1) (aF e++aF [x])):∃w,yo t X a b (e++[x]) w (cA C (R (z (G a)+2) 0) u)/\I B f (cA C (R (z (G a)+2) 0) u)/\(∀k,w k->B k\/z (G f)<=k):=by
 have s:∀k,ct d=H k->z (G a)+3<=k/\k<z (G f):=λk c=>L.lt k c;have D:∀k,ct u=H k->z (G a)+3<=k:=λk c=>(h.lt k c).1;have Q:=am r;have l:I (λk=>ct d=H k) f C:=((I.refl (λk=>ct d=H k) f).alloc O).trans (I.dJ (S:=λk=>ct d=H k) F.grown<|λk c=>.inl c)<|λk c=>.inl c;have g:∀k,k<z (G a)+3->¬ct d=H k:=λk c m=>by have:=(s k m).1;omega
 have n:ep C (z<|G a) aD 97:=(l.block _ (am v.NZ)<|g _<|by omega).trans v.NZ;have o:ep C (z (G a)+1) .nilIface 50:=(l.block _ (am v.err)<|g _<|by omega).trans v.err;have q:ep C (z (G a)+2) d 97:=(l.block _ (am r)<|g _<|by omega).trans r;have j:I B f (cA C (R (z (G a)+2) 0) u):=(l.mono (T:=B)<|λk c=>.inl<|(A k).2<|.inr<|.inr<|.inr c).setCell _ _ _<|.inl<|(A _).2<|.inr<|.inr<|.inl rfl;refine⟨λk=>k=z (G a)\/k=z (G a)+1\/k=z (G a)+2\/ct u=H k,⟨n.other _ (by omega),o.other _ (by omega),⟨u,q.set _,?_,λk=>rA⟩,by simp;omega,?_⟩,j,?_⟩;(have K:y (e++[x])=y e+1:=by simp);rw[K,fQ];exact h.kept (de C _ _ _) (by grind);exact v.aw.trans j<|λk c=>.inr (v.lt k c).1;rintro k(m|m|m|m);(grind);(grind);(grind);rcases F.ur with N|⟨S,N,K⟩;(grind);rw[N]at m;cases m;simp at K;grind
def Dh(hg:jf t c d e X a)(hD:t.D a)(hl:y e<=1000000000):cD bz 96 #[d] a λcm w'=>∃v',cm=aL (dw #[v',.nilIface])/\w'.ownsRow (z<|G a) 180 4 v' (y e) (aF e)/\t.D w'/\I (λk=>X k\/t.F k) a w':=by
 obtain⟨bv,cb,rfl,he,K⟩:=hg;obtain⟨HE,HR,HD⟩:=dA he K hD;have bk:=Nn bv cb;obtain⟨i0,bl,bo,bp,an⟩:=cH oh;clear he K hD;refine(dh (n:=3)).1 ?_;refine callsIn_of_wp_marks func96 rfl trivial ?_ rfl;simp only[ntmps96,eU,aS,dH,Nat.reduceAdd,Nat.reduceSub,dR,dQ,eV,eD,cU,cL];gi_wp2_with(refine⟨trivial,?_⟩;gi_at_call 158;refine(dh.2<|bk _).mono ?_;rintro cm w1⟨rfl,rfl⟩)
 have K:=ae HR;obtain⟨O,r⟩:∃O,(cF (cF (cF (cF a<|ar #[aD] 97)<|ar #[.nilIface] 50)<|ar #[aD] 97)<|ar #[.func (.func bv) #[] cb] 190)=O:=⟨_,rfl⟩;have cj:z (G O)=z (G a)+4:=by rw[<-r];simp
 have ad:I az a O:=by rw[<-r];exact(((cK az a).alloc _).alloc _).alloc _
 have bh:ep O (z (G a)+3) (.func (.func bv) #[] cb) 190:=by rw[<-r];exact aB _<|by simp
 have bc:yo t X a (y e) [] (λk=>k=z (G a)\/k=z (G a)+1\/k=z (G a)+2) O:=by refine⟨?_,?_,⟨aD,?_,bK _ _ _ _,λk=>by simp[ct]⟩,bj _,ad.mono cO⟩;rw[<-r];grind[ep.alloc,aB];rw[<-r];exact ep.alloc (ep.alloc (aB _<|by simp) _) _;rw[<-r];exact ep.alloc (aB _<|by simp) _
 have bm:IT t c bv cb e X O:=K.same<|ad.same K.own.size (λk g=>⟨(K.own.each k g).2,λF=>F⟩) cO;have bd:t.D O:=t.fD HD ad cO;have ch:=K.own.size;have bf:∀k,X k->k<z (G a):=λk g=>(K.own.each k g).2;rw[r];refine nQ (arg:=Uk) (m:=3) (V:=t) (n0:=c) (gf:=220) (lb:=#[ay<|z (G a)+3]) (l:=e) (S:=λk=>X k\/k=z (G a)+3) ?geval (enters_of func220 (by kernel_rfl) rfl) (λ_=>rfl) (FJ 2 cb bh HE bm (by omega) (λF=>by have:=bf _ F;omega)) bd (by omega) ?slt (λp aq W=>yo t X a (y e) p aq W) (λ_ _ _ _=>False) (λk=>k=z (G a)\/k=z (G a)+1\/k=z (G a)+2) bc ?sb ?lt ?st (λ_ _ _ _ _ _ h=>h.elim) ?body ?done ?stop;case geval=>rfl
 (case slt=>grind);(case sb=>grind);(case lt=>intro p aq W h k g;have:=h.lt k g;grind);(case st=>intro p aq W j co h i f;refine h.stays i<|λk g=>⟨(f k g).1,?_⟩;grind);(case stop=>grind)
 case body=>
  intro lr p cn aq W ce bb bs P u A;have ao:y p+1<=y e:=by have:=P.length_le;grind
  have HC:=U u;have Q:=U A;clear u A P;obtain⟨j,l,i,f⟩:=cn;unfold Uk E.value;simp only;gi_wp2;refine⟨(cK _ _),λT q=>?_⟩;have L:yo t X a (y e) p aq T:=((HC.stays ((I.refl az W).alloc<|ar #[aj j,aj l,aK i,aJ f] 180) cO).stays q<|λk g=>by grind);have V:ii T (z<|G W) ⟨j,l,i,f⟩:=ii.aw (aB _ rfl) q (by omega);obtain⟨d,N,o,C⟩:=L.row;have bi:aO T (R (z (G a)+1+1) 0)=H d:=N.cell;have cd:T.frozen? (R (z (G a)+1+1) 0)=aY:=N.free;obtain⟨x,w,al⟩:=aA o;obtain⟨bx,bT,ca,cc⟩:=V.cells;have bt:=am V;have bu:=am N;have bg:z (G a)+3<=z (G T):=by have:=L.aw.size;have:=q.size;grind
  obtain⟨au,HV,v,S,ax⟩:=je L N o C q;clear L V N o C q;subst al;gi_wp2_with(first
   |(gi_at_builtin;refine dV _ rfl (.tmp 14) (.tmp 16) 97 rfl (z (G a)+3) 180 i0 xe 4 48 underlying97 bl bo bp an rfl (by decide) (.slice x (y p) w) (y p) (aF p) rfl (aN v (.cells #[.string j,.string l,.bool i,.int .u64 f] 180)) (R (z (G T)) 0) 1 1 (aF [⟨j,l,i,f⟩]) rfl rfl (wE _ ⟨j,l,i,f⟩ _) (BQ _) (by omega) (by omega) (by simp;omega) ?_;intro v2 w3 s D;obtain⟨cl,ck,rfl⟩:=aA s;have B:ep w3 (z (G a)+1+1) (.slice x (y p) w) 97:=(D.grown.block _ (am (HV.alloc (.cells #[.string j,.string l,.bool i,.int .u64 f] 180))) (λF=>by have:=(v.lt _ F.symm).1;omega)).trans (HV.alloc _);have bq:=B.cell;have br:=B.free;clear B;have av:=U s;have ba:=U D;clear s D))
  obtain⟨B',q1,q2,q3⟩:=au.more (x:=⟨j,l,i,f⟩) HV S v ao ba av;have q:=ae ax;have an:=q.size;simp at an;have bn:I (λk=>aq k\/k=lr) W T:=((I.refl (λk=>aq k\/k=lr) W).alloc<|ar #[aj j,aj l,aK i,aJ f] 180).trans q<|λk g=>.inl<|.inr g;have ac:∀k,z (G a)<=k->¬t.F k:=λk g hf=>by have:=K.own.aH k hf;omega
  refine⟨?_,B',q1,bn.trans q2<|λk g=>.inl<|.inl g,q2.block lr (by omega) bb,λk g=>?_⟩
  .refine t.fD (t.fD (t.fD Q (cK az W) cO) q<|λk g=>by grind) q2<|λk g=>ac k (HC.lt k g).1
  grind
 (case done=>intro D aq W au u j A hK;obtain⟨d,N,o,C⟩:=u.row;have bi:aO W (R (z (G a)+1+1) 0)=H d:=N.cell;have av:=u.NZ.cell;have ba:=u.NZ.free;have ax:=u.err.cell;have bb:=u.err.free;obtain⟨x,w,al⟩:=aA o;obtain⟨HC,HV,v,S,Q,HK⟩:=jX u N o C A hK;clear u N o C A hK;subst al;gi_wp2;have T:=ae S;have u:=ae HC;have n1:D≠z (G a):=λF=>j<|(T _).2<|.inl F;have n2:D≠z (G a)+1:=λF=>j<|(T _).2<|.inr<|.inl F;have n3:¬ct (J x (y e) w)=H D:=λF=>j<|(T _).2<|.inr<|.inr<|.inr F;(have V:(cA (cA W (R (z<|G a) 0)<|J x (y e) w) (R (z (G a)+1) 0) .nilIface).heap[D]?=H (.deferred<|H []):=by rw[iw _ n2,iw _ n1];exact HK);have f:ep (cA (cA W (R (z<|G a) 0)<|J x (y e) w) (R (z (G a)+1) 0) .nilIface) (z<|G a) (J x (y e) w) 97:=(u.NZ.set _).other _ (by omega);have i:ep (cA (cA W (R (z<|G a) 0)<|J x (y e) w) (R (z (G a)+1) 0) .nilIface) (z (G a)+1) .nilIface 50:=(u.err.other _<|by omega).set _;have q:=gG (cA (cA W (R (z<|G a) 0)<|J x (y e) w) (R (z (G a)+1) 0) .nilIface) D<|.deferred none;have ao:I (λk=>k=z (G a)\/k=z (G a)+1) W (cA (cA W (R (z<|G a) 0)<|J x (y e) w) (R (z (G a)+1) 0) .nilIface):=((I.refl (λk=>k=z (G a)\/k=z (G a)+1) W).setCell _ 0 _<|.inl<|.inl rfl).setCell _ 0 _<|.inl<|.inr rfl;have s:=(ao.mono (T:=λk=>k=z (G a)\/k=z (G a)+1\/k=D)<|λk g=>.inl<|g.elim .inl<|λF=>.inr<|.inl F).trans q<|λk g=>.inl<|.inr<|.inr g;(have ac:∀k,z (G a)<=k->¬t.F k:=λk g hf=>by have:=K.own.aH k hf;omega);(have B:∀k,(k=z (G a)\/k=z (G a)+1\/k=D)->z (G a)<=k:=by rintro k(F|F|F)<;>omega);refine⟨by simp,.inl ⟨_,_,rfl,run_takeDeferred V,?_⟩⟩;refine⟨_,zH rfl underlying97 _ _ (z<|G a) (z (G a)+1) (J x (y e) w) .nilIface rfl rfl ?_ ?_,?_⟩;exact(ep.cell<|(q.block _ (am f)<|λF=>n1 F.symm).trans f);exact(ep.cell<|(q.block _ (am i)<|λF=>n2 F.symm).trans i);refine⟨_,rfl,?_,t.fD Q s<|λk g=>ac k<|B k g,u.aw.trans s<|λk g=>.inr<|B k g⟩;have o:=ae v;have hx:=s.own o (λk g F=>by have:=(o.lt k g).1;grind);obtain⟨h1,⟨P,h0⟩|⟨bg,cp,L,P,hb,l⟩⟩:=hx;exact⟨h1,.inl ⟨P,h0⟩⟩;exact⟨h1,.inr ⟨bg,cp,L,P,by omega,l⟩⟩)
end
def tv:Option E->aa
 |some x=>.tuple #[x.value,.bool bU,.nilIface]
 |none=>.tuple #[xe,.bool aY,.nilIface]
def Ke(t:TypeId)(a b:ab):binOp .geq t (aj a) (aj b)=pure (aK !(Op.bytesLess a.toList b.toList)):=by simp[binOp,Op.stringOp]
def AJ(O:ab)(A:Z)(h:kr a d e)(C:dM e)(hl:y e<=1000000000000)(w:∀A,ct d=H A->A<z (G a)):cD bz 322 #[d,aj O,aJ A] a λac w'=>ac=aL (tv<|iI A e O)/\Below (z<|G a) a w':=by
 have m:Below (z<|G a) a (cF a<|ar #[aj ⟨#[]⟩,aj ⟨#[]⟩,aK aY,aJ 0] 180):=(Below.refl _ a).alloc (ai _) _;have L:=BN d O A (cF a<|ar #[aj ⟨#[]⟩,aj ⟨#[]⟩,aK aY,aJ 0] 180) (h.below m w) C hl (λA b=>by have:=w A b;simp;omega);have n:=PP C O ⟨#[]⟩ aY A;have x:=U<|JA e ⟨O,⟨#[]⟩,aY,A⟩;generalize lA e ⟨O,⟨#[]⟩,aY,A⟩=p at*;by_cases s:p<y e;(·(have e1:((p:Z)==(y e:Z))=aY:=by simp;omega);(have e2:(p:Z)<(y e:Z):=by omega);(have e3:(0:Z)<=(p:Z):=by omega);obtain⟨P,⟨rfl,h0⟩|⟨u,b,al,rfl,B,N⟩⟩:=h;omega;have v:=eE e p s;have t:=U N;have j:=w u rfl;by_cases k:e[p].key=O;(.rw[n,zY ⟨s,k⟩];clear N w P B n C;subst k;generalize e[p]=an at*;obtain⟨F,K,E,D⟩:=an;simp only at v L;have r:=U v;clear v;(go_in);(go_wp2_with(go_at_call 209;refine L.mono ?_;rintro ac l⟨rfl,g⟩;have f:Below (z<|G a) a l:=m.trans<|g.mono m.size;have q0:aO l (R u<|b+p*4)=H (aj F):=(f.cell (p:=(R u<|b+p*4)) j).trans<|t _ _ r.1;have q1:aO l (R u<|b+p*4+1)=H (aj K):=(f.cell (p:=(R u<|b+p*4+1)) j).trans (by rw[aV];exact t _ _ r.2.1);have q2:aO l (R u<|b+p*4+2)=H (aK E):=(f.cell (p:=(R u<|b+p*4+2)) j).trans (by rw[aV];exact t _ _ r.2.2.1);have q3:aO l (R u<|b+p*4+3)=H (aJ D):=(f.cell (p:=(R u<|b+p*4+3)) j).trans (by rw[aV];exact t _ _ r.2.2.2);have c:ii l (z<|G a) ⟨⟨#[]⟩,⟨#[]⟩,aY,0⟩:=(g.block _<|by simp).trans<|aB _ rfl;obtain⟨W,X,z2,z3⟩:=c.cells;have Q:=c.free (i:=0);have S:=c.free (i:=1);have T:=c.free (i:=2);have V:=c.free (i:=3);have q:=U c;have o:=U f;clear c f g));refine cP (fZ rfl _ _ (z<|G a) ⟨F,K,E,D⟩ _ _ rfl<|q.put ⟨F,K,E,D⟩) rfl ?_;exact⟨rfl,(((o.setCell (p:=(R (z<|G a) 0)) (ai _) _).setCell (p:=(R (z<|G a) 1)) (ai _) _).setCell (p:=(R (z<|G a) 2)) (ai _) _).setCell (p:=(R (z<|G a) 3)) (ai _) _⟩);have e4:=Jg k;rw[n,dif_neg<|λad=>k ad.2];clear N w P B n C k;generalize e[p]=an at*;obtain⟨F,K,E,D⟩:=an;simp only at v e4;have r:=U v;clear v;(go_in);(go_wp2_with(go_at_call 209;refine L.mono ?_;rintro ac l⟨rfl,g⟩;have f:Below (z<|G a) a l:=m.trans<|g.mono m.size;have q0:aO l (R u<|b+p*4)=H (aj F):=(f.cell (p:=(R u<|b+p*4)) j).trans<|t _ _ r.1;have q1:aO l (R u<|b+p*4+1)=H (aj K):=(f.cell (p:=(R u<|b+p*4+1)) j).trans (by rw[aV];exact t _ _ r.2.1);have q2:aO l (R u<|b+p*4+2)=H (aK E):=(f.cell (p:=(R u<|b+p*4+2)) j).trans (by rw[aV];exact t _ _ r.2.2.1);have q3:aO l (R u<|b+p*4+3)=H (aJ D):=(f.cell (p:=(R u<|b+p*4+3)) j).trans (by rw[aV];exact t _ _ r.2.2.2);have c:ii l (z<|G a) ⟨⟨#[]⟩,⟨#[]⟩,aY,0⟩:=(g.block _<|by simp).trans<|aB _ rfl;obtain⟨W,X,z2,z3⟩:=c.cells;have Q:=c.free (i:=0);have S:=c.free (i:=1);have T:=c.free (i:=2);have V:=c.free (i:=3);have q:=U c;have o:=U f;clear c f g));refine cP (fZ rfl _ _ (z<|G a) ⟨⟨#[]⟩,⟨#[]⟩,aY,0⟩ _ _ rfl<|q.put ⟨⟨#[]⟩,⟨#[]⟩,aY,0⟩) rfl ?_;exact⟨rfl,(((o.setCell (p:=(R (z<|G a) 0)) (ai _) _).setCell (p:=(R (z<|G a) 1)) (ai _) _).setCell (p:=(R (z<|G a) 2)) (ai _) _).setCell (p:=(R (z<|G a) 3)) (ai _) _⟩);(have b:p=y e:=by have:=ae x;omega);rw[n,dif_neg<|λad=>s ad.1];have j:=bM h;clear h C n s w x;subst b;obtain⟨r,k,rfl⟩:=j;(have e1:((y e:Z)==(y e:Z))=bU:=by simp);(go_in);(go_wp2_with(go_at_call 209;refine L.mono ?_;rintro ac l⟨rfl,g⟩;have f:Below (z<|G a) a l:=m.trans<|g.mono m.size;have c:ii l (z<|G a) ⟨⟨#[]⟩,⟨#[]⟩,aY,0⟩:=(g.block _<|by simp).trans<|aB _ rfl;obtain⟨W,X,z2,z3⟩:=c.cells;have Q:=c.free (i:=0);have S:=c.free (i:=1);have T:=c.free (i:=2);have V:=c.free (i:=3);have q:=U c;have o:=U f;clear c f g));refine cP (fZ rfl _ _ (z<|G a) ⟨⟨#[]⟩,⟨#[]⟩,aY,0⟩ _ _ rfl<|q.put ⟨⟨#[]⟩,⟨#[]⟩,aY,0⟩) rfl ?_;exact⟨rfl,(((o.setCell (p:=(R (z<|G a) 0)) (ai _) _).setCell (p:=(R (z<|G a) 1)) (ai _) _).setCell (p:=(R (z<|G a) 2)) (ai _) _).setCell (p:=(R (z<|G a) 3)) (ai _) _⟩
def Ow(aq:aa)(w:Y)(h:kr w aq e)(F:dM e)(hl:y e<=1000000000000)(K:∀au,ct aq=H au->au<z (G w)):cD bz 324 #[aq] w λav w'=>av=aL (aK bU)/\Below (z<|G w) w w':=by
 have A:∀(X:Bool)(w:Y),(Op.unary .not<|aK X).run bz w=.ok (aK<|!X) w:=λ_ _=>rfl;obtain⟨h1,⟨rfl,h0⟩|⟨i,a,ac,rfl,an,x⟩⟩:=h;(·(go_in);go_wp2;(go_loop [6] (λL=>L=ap 0) (λ_=>0));(case atStart=>rfl);(case round=>obtain rfl:=hrel;go_wp2;go_ret;exact⟨rfl,Below.refl _ _⟩));(.have HC:=U x;have HS:=U F;have o:=K i rfl;clear x F h1 K;(go_in);go_wp2;(go_loopw [6] (λL wr=>∃q:M,q<=y e/\L=ap q/\Below (z<|G w) w wr) (λL _=>y e-(intOf L).toNat));(case atStart=>exact⟨0,bj _,rfl,Below.refl _ _⟩);(case round=>obtain⟨q,ao,rfl,d⟩:=hrel;have m:=U d;by_cases k:q<y e;(.rcases gB q with l|l;(.subst l;clear d;go_wp2;(go_quiet(fail));go_wp2;go_roundw;(case rel=>exact⟨1,by omega,rfl,below_drewN m _⟩);case measure=>simp[intOf];omega);(.obtain⟨p,rfl⟩:∃p,q=p+1:=⟨q-1,by omega⟩;(have C:p<y e:=by omega);have b:∀j u,(aF e)[j]?=H u->aO wr (R i<|a+j)=H u:=λj u c=>(d.cell (p:=(R i<|a+j)) o).trans<|HC j u c;have f:=eE e p C;have g:=eE e (p+1) k;have s:=b _ _ f.1;have c1:=b _ _ f.2.1;have c2:=b _ _ f.2.2.1;have c3:=b _ _ f.2.2.2;have d0:=b _ _ g.1;have t:=b _ _ g.2.1;have u:=b _ _ g.2.2.1;have v:=b _ _ g.2.2.2;simp only[<-aV]at c1 c2 c3 t u v;have n:=λW=>Cr e[p] e[p+1] W;rw[cN.1 (ae HS) p (p+1) C k<|by omega]at n;have al:i<z (G wr):=dj _ _ s;clear f g d b;generalize e[p]=X at*;generalize e[p+1]=r at*;obtain⟨P,Q,O,N⟩:=X;obtain⟨V,W,T,S⟩:=r;unfold E.value at n;simp only at n s c1 c2 c3 d0 t u v;(have D:(0:Z)<(p:Z)+1:=by omega);(have e2:(0:Z)<=(p:Z):=by omega);(have e3:(p:Z)<(y e:Z):=by omega);(have e4:(0:Z)<=(p:Z)+1:=by omega);(have e5:(p:Z)+1<(y e:Z):=by omega);(have e9:IntKind.i64.wrap (p:Z)=(p:Z):=by rw[bw];omega);(have ad:wrap64 (p:Z)=(p:Z):=by unfold wrap64;omega);(go_wp2_with fail);(go_region_held3(λc=>aO c (R i<|a+p*4)=H (aj P)/\aO c (R i<|a+p*4+1)=H (aj Q)/\aO c (R i<|a+p*4+2)=H (aK O)/\aO c (R i<|a+p*4+3)=H (aJ N)/\aO c (R i<|a+(p+1)*4)=H (aj V)/\aO c (R i<|a+(p+1)*4+1)=H (aj W)/\aO c (R i<|a+(p+1)*4+2)=H (aK T)/\aO c (R i<|a+(p+1)*4+3)=H (aJ S)) (first|assumption|go_keep) (first|(go_at_call 223;refine(n _).mono ?_;rintro av w1⟨rfl,rfl⟩)));go_wp2;go_roundw;(case rel=>have j:Below (z<|G wr) wr (cF (cF wr<|ar #[aj P,aj Q,aK O,aJ N] 180)<|ar #[aj V,aj W,aK T,aJ S] 180):=((Below.refl _ wr).alloc (ai _) _).alloc (by simp) _;refine⟨p+1+1,by omega,by go_num,m.trans ?_⟩;exact Below.mono (B:=z<|G wr) ⟨j.os,j.tape,j.output,j.size,j.block⟩ m.size);case measure=>simp[intOf];omega));clear d;go_wp2;go_ret;exact⟨rfl,m⟩))
def Rd.laid(h:Rd a b p D)(d:a.grownBy f none):Rd f b p D:=by
 obtain⟨v,e,g,c⟩:=h;refine⟨v,(d.block b (am e)<|by simp).trans e,g.grown d ?_,c⟩;grind
def Rd.lt(h:Rd a c p D):c<z (G a):=by
 obtain⟨v,d,_⟩:=h;exact am d
def Rd.put{e:eO}(K:Rd C c e D)(v:ii C g w)(o:c≠g)(i:E):Rd (wW C g i) c e D:=by
 obtain⟨L,q,x,B⟩:=K;have s:=jc C g i;refine⟨L,(s.block c (am q) o).trans q,?_,B⟩;rcases x with⟨t,u⟩|⟨b,d,j,t,m,A⟩;exact .inl ⟨t,u⟩;refine .inr ⟨b,d,j,t,m,λF r=>?_⟩;have h:=A F r;(have l:b≠g:=by rintro rfl;rw[bL v,aI r]at h;grind);have n:b<z (G C):=dj C (R b<|d+F) h;have k:=s.block b n l;rw[cR (w:=C) (w':=wW C g i) (a:=(R b<|d+F)) k];exact h
def I.Wq(h:I (λk=>k=b) a f):a.grownBy f (H b):=⟨h.os,h.tape,h.output,h.size,λk c d=>h.block k c<|λe=>d<|by rw[e]⟩
def ii.grown(h:ii a b w)(d:a.grownBy f (H c))(e:c≠b):ii f b w:=(d.block b (am h)<|by grind).trans h
def Ao{c:Func}{p u:Tmp}(i:c.results=#[.cell p 180,.tmp u])(a:Array aa)(w:Y)(g:M)(x:E)(t:TypeId)(d:M×M)(h:a.getD p ix=ay g)(e:w.heap[g]?=H (ar #[aj x.key,aj x.val,aK x.del,aJ x.bP] t d)):(results c a).run bz w=.ok (dw #[x.value,a.getD u ix]) w:=by
 have b:a[p]?.getD ix=ay g:=by simpa using h
 have f:=kJ (P:=bz) w g t 180 #[aj x.key,aj x.val,aK x.del,aJ x.bP] d _ e underlying180 rfl (by kernel_rfl);simp[results,i,b,asAddr,f,Result.andThen,E.value]
def He(m:M){x:E}(a:eO)(C:Y)(h:Rd C m (oe x++a) aY)(B:kE (oe x++a))(hr:y (oe x++a)<=140737488351232)(hx:x.Good):cD bz 241 #[ay m] C λal w'=>al=aL (dw #[E.value {x with bP:=0},aK bU])/\Rd w' m a aY/\C.grownBy w' (H m):=by
 obtain⟨b,c,s,r⟩:=x;have au:=hx.Wd;have av:=hx.MS;have hv:=hx.val;have hd:=hx.del;simp only at au av hv hd;have e0:oe ⟨b,c,s,r⟩++a=pa s::(eh b++(eh c++a)):=by simp[oe]
 rw[e0]at h B hr;have A:kE (eh b++(eh c++a)):=λad hy=>B ad<|bI _ hy;have K:kE (eh c++a):=λad hy=>A ad<|fV _ hy;have W:y (eh b++(eh c++a))<=140737488351232:=by grind
 have ax:y (eh c++a)<=140737488351232:=by rw[af]at W;omega
 have k:=λan(S:Rd an m (pa s::(eh b++(eh c++a))) aY)=>FU S B hr;have v:=λan(S:Rd an m (eh b++(eh c++a)) aY)=>Ec S A W;have w:=λan(S:Rd an m (eh c++a) aY)=>Ec S K ax;obtain⟨ka,kb⟩:=MQ s<|eh b++(eh c++a);obtain⟨ta,_⟩:=vV b<|eh c++a;obtain⟨N,_⟩:=vV c a;simp only[ka,kb]at k;simp only[ta,vW]at v;simp only[N,vW]at w;have ba:=λan(S:Rd an m a aY)=>Hm S;have T:=rj b;have V:=xR c;have bh:∀(x:Bool)(C:Y),(Op.unary .not<|aK x).run bz C=.ok (aK<|!x) C:=λ_ _=>rfl;have ao:decide (1<=b.size/\b.size<=8)=bU:=by simp[au,av]
 have aq:decide (c.size<=16)=bU:=by simp[hv]
 rw[ao]at T;rw[aq]at V;have F:=λan=>T an (by omega);have L:=λan=>V an (by omega);have bi:=h.lt;have HR:=U<|h.laid<|dt C (ar #[aj ⟨#[]⟩,aj ⟨#[]⟩,aK aY,aJ 0] 180) none;clear h B A K hr W ax ka kb ta N e0 hx T V ao aq;cases s with
 |true=>
  have bc:c=⟨#[]⟩:=hd rfl;subst bc;simp only[pa]at k;go_in
  go_wp2_with(first
   |(go_at_call 240;refine(k _<|ae HR).mono ?_;rintro al w1⟨rfl,t,f⟩;have P:=U t;have o:=U f;have bd:=f.size;clear t f k)
   |(go_at_call 272;refine(v _<|ae P).mono ?_;rintro al w2⟨rfl,u,g⟩;have Q:=U u;have p:=U g;have bf:=g.size;clear u g v)
   |(go_at_call 272;refine(w _<|ae Q).mono ?_;rintro al D⟨rfl,j,e⟩;have q:=U j;have O:=U e;have bg:=e.size;have d:ii D (z<|G C) zE:=(((ii.grown (aB _ rfl) (ae o)<|by omega).grown (ae p)<|by omega).grown e<|by omega);obtain⟨z0,z1,z2,z3⟩:=d.cells;have y0:=d.free (i:=0);have y1:=d.free (i:=1);have y2:=d.free (i:=2);have y3:=d.free (i:=3);have bb:=am d;have n:=U d;clear j e w d)
   |(go_at_call 237;refine(ba _<|(ae q).laid<|dt D _ none).mono ?_;rintro al w4⟨rfl,rfl⟩)
   |(go_at_call 84;refine(F _).mono ?_;rintro al w5⟨rfl,rfl⟩)
   |(go_at_call 85;refine(L _).mono ?_;rintro al w6⟨rfl,rfl⟩))
  refine cP (Ao rfl _ _ (z<|G C) ⟨b,⟨#[]⟩,bU,0⟩ _ _ rfl<|((ae n).put ⟨b,⟨#[]⟩,bU,0⟩).alloc _) rfl ?_;have j:=ae q;have f:=ae o;have g:=ae p;have e:=ae O;have X:=(j.put (ae n) (by omega) (⟨b,⟨#[]⟩,bU,0⟩:E)).laid<|dt _ (ar #[aj (⟨b,⟨#[]⟩,bU,0⟩:E).key,aj (⟨b,⟨#[]⟩,bU,0⟩:E).val,aK (⟨b,⟨#[]⟩,bU,0⟩:E).del,aJ (⟨b,⟨#[]⟩,bU,0⟩:E).bP] 180) none;have ht:I (λac=>ac=m) C ((wW D (z<|G C) (⟨b,⟨#[]⟩,bU,0⟩:E)).alloc<|ar #[aj (⟨b,⟨#[]⟩,bU,0⟩:E).key,aj (⟨b,⟨#[]⟩,bU,0⟩:E).val,aK (⟨b,⟨#[]⟩,bU,0⟩:E).del,aJ (⟨b,⟨#[]⟩,bU,0⟩:E).bP] 180):=by
   refine((((((cK (λac=>ac=m) C).trans (fm f)<|λac l=>.inl l).trans (fm g)<|λac l=>.inl l).trans (fm e)<|λac l=>.inl l).trans (jc D (z<|G C) (⟨b,⟨#[]⟩,bU,0⟩:E))<|λac l=>.inr<|by omega).alloc _)
  exact⟨rfl,X,ht.Wq⟩
 |false=>
  simp only[pa]at k;go_in
  go_wp2_with(first
   |(go_at_call 240;refine(k _<|ae HR).mono ?_;rintro al w1⟨rfl,t,f⟩;have P:=U t;have o:=U f;have bd:=f.size;clear t f k)
   |(go_at_call 272;refine(v _<|ae P).mono ?_;rintro al w2⟨rfl,u,g⟩;have Q:=U u;have p:=U g;have bf:=g.size;clear u g v)
   |(go_at_call 272;refine(w _<|ae Q).mono ?_;rintro al D⟨rfl,j,e⟩;have q:=U j;have O:=U e;have bg:=e.size;have d:ii D (z<|G C) zE:=(((ii.grown (aB _ rfl) (ae o)<|by omega).grown (ae p)<|by omega).grown e<|by omega);obtain⟨z0,z1,z2,z3⟩:=d.cells;have y0:=d.free (i:=0);have y1:=d.free (i:=1);have y2:=d.free (i:=2);have y3:=d.free (i:=3);have bb:=am d;have n:=U d;clear j e w d)
   |(go_at_call 237;refine(ba _<|(ae q).laid<|dt D _ none).mono ?_;rintro al w4⟨rfl,rfl⟩)
   |(go_at_call 84;refine(F _).mono ?_;rintro al w5⟨rfl,rfl⟩)
   |(go_at_call 85;refine(L _).mono ?_;rintro al w6⟨rfl,rfl⟩))
  refine cP (Ao rfl _ _ (z<|G C) ⟨b,c,aY,0⟩ _ _ rfl<|((ae n).put ⟨b,c,aY,0⟩).alloc _) rfl ?_;have j:=ae q;have f:=ae o;have g:=ae p;have e:=ae O;have X:=(j.put (ae n) (by omega) (⟨b,c,aY,0⟩:E)).laid<|dt _ (ar #[aj (⟨b,c,aY,0⟩:E).key,aj (⟨b,c,aY,0⟩:E).val,aK (⟨b,c,aY,0⟩:E).del,aJ (⟨b,c,aY,0⟩:E).bP] 180) none;have ht:I (λac=>ac=m) C ((wW D (z<|G C) (⟨b,c,aY,0⟩:E)).alloc<|ar #[aj (⟨b,c,aY,0⟩:E).key,aj (⟨b,c,aY,0⟩:E).val,aK (⟨b,c,aY,0⟩:E).del,aJ (⟨b,c,aY,0⟩:E).bP] 180):=by
   refine((((((cK (λac=>ac=m) C).trans (fm f)<|λac l=>.inl l).trans (fm g)<|λac l=>.inl l).trans (fm e)<|λac l=>.inl l).trans (jc D (z<|G C) (⟨b,c,aY,0⟩:E))<|λac l=>.inr<|by omega).alloc _)
  exact⟨rfl,X,ht.Wq⟩
def iM(a:eO):eO:=a++le 4 (ng a)
def Ce(e:E):eO:=le 8 e.bP++oe e
def fI(c:cJ):eO:=c.flatMap Ce
def Ti(a:eO):mN (le 4<|ng a)=ng a:=by
 rw[AL 4 _<|zR a];exact Int.emod_eq_of_lt (zR a) (by have:=Ci a;grind)
def CZ(a:0<=m)(b:m<18446744073709551616):mN (le 8 m)=m:=by
 rw[AL 8 _ a];grind
def xB(v d e:M)(c:eO)(C:Steps a)(ac:y c+4<=e)(hr:y c+4<=1000000000)(o:Bytes a (bB v d (y c+4) e) (iM c)):cD bz 233 #[bB v d (y c+4:M) e] a λP w'=>
 P=aL (dw #[bB v d (y c) e,aK bU])/\Below (z<|G a) a w':=by
 obtain⟨b,f⟩:∃b,b=le 4 (ng c):=⟨_,rfl⟩
 have D:y b=4:=by rw[f,cC]
 have p:kE b:=by rw[f];exact kE.le 4 _
 have N:mN b=ng c:=by rw[f];exact Ti c
 unfold iM at o
 rw[<-f]at o
 clear f
 have ad:=C.lt
 have W:v<z (G a):=o.lt (by intro h;simp_all) v rfl
 have k:Bytes a (bB v d (y<|c++b) e) (c++b):=by rw[af,D];exact o
 have t:Bytes a (bB v d (y c) e) c:=by
  have:=k.take (n:=y c) (by simp);rwa[pX]at this
 have u:Bytes a (bB v (d+y c) 4<|e-y c) b:=by
  have:=k.Cf (n:=y c) (by simp);rwa[sN,af,D,uS]at this
 have O:num b aY 4=mN b:=by
  unfold num jV;rw[dr (by simp[D]),cZ<|by omega]
 obtain⟨E,F,S,Q,L⟩:=je t u O p C
 clear o k t u O p C
 have hd:(num b aY 4 !=ng c)=aY:=by rw[ae S,N];simp
 clear N
 go_in
 go_wp2_with fail
 refine(nr F (λal X=>by have:=SH X;grind)).mono ?_
 rintro P w⟨rfl,q,g⟩
 have s:z (G w)=z (G a)+1:=by rw[g];simp
 have j:Below (z<|G a) a w:=by rw[g];exact(Below.refl _ _).alloc (ai _) _
 have m:Hid (Steps w):=by rw[g];exact L.alloc _
 have l:Hid (Bytes w (bB v d (y c) e) c):=by rw[g];exact E.alloc _
 obtain⟨T,K,V⟩:=dA q j s
 clear q g s j L E F
 go_wp2_with fail
 go_region_with(first
  |(go_at_call 236;refine(KU (z<|G a) aY _ ?_ Q<|by omega).mono ?_;exact T.of_heap rfl;rintro P w2⟨rfl,r,i⟩;have B:=U<|Steps.grown (by exact Steps.of_heap m rfl) i (by simp;omega);have x:=U<|Bytes.grown (by exact Bytes.of_heap l rfl) i<|.inl (by simp[ct];omega);have A:=U (Below.grown (by exact Below.of_heap K rfl) i (by simp[ae V])<|by simp);clear r i)
  |(go_at_call 217;refine(sA _ c _ ?_ ?_ (by omega)).mono ?_;(first|exact B.of_heap rfl|exact m.of_heap rfl);(first|exact x.of_heap rfl|exact l.of_heap rfl);rintro P w3⟨rfl,rfl⟩))
 all_goals
  go_wp2;go_ret2
  exact⟨by rfl,by first|exact A.of_heap rfl|exact Below.of_heap K rfl⟩
def TV(c:cJ)(n:M)(h:n<y c):fI (c.drop n)=le 8 c[n].bP++(oe c[n]++fI (c.drop<|n+1)):=by
 unfold fI;rw[aZ h,dF];simp[Ce]
def AR(h:w.Good):kE (oe w):=by
 unfold oe;have c:∀s:ab,s.size<=255->kE (eh s):=λs d b a=>by unfold eh at a;rcases bH.1 a with rfl|a;omega;exact kE.text s b a
 intro b a;rcases bH.1 a with rfl|a;unfold pa;split<;>omega;rcases aE.1 a with a|a;exact c _ (by have:=h.MS;omega) b a;exact c _ (by have:=h.val;omega) b a
def MW(h:∀x∈e,x.Good):kE (fI e):=by
 intro b a;unfold fI at a;obtain⟨x,c,a⟩:=mD.1 a;unfold Ce at a;rcases aE.1 a with a|a;exact kE.le 8 _ b a;exact AR (h x c) b a
def ul(h:w.Good):y (Ce w)<=35:=by
 have a:=h.MS;have b:=h.val;unfold Ce oe eh;grind[cC,hZ]
def De{c:cJ}(h:∀x∈c,x.Good):y (fI c)<=35*y c:=by
 induction c with
 |nil=>simp[fI]
 |cons x r d=>
  have a:=ul (h x<|by simp);have f:=d (λa b=>h a<|by simp[b]);have e:fI (x::r)=Ce x++fI r:=by simp[fI]
  rw[e,af,aS];omega
structure rE where
 pos:M
 size:M
 count:M
 first:ab
 last:ab
abbrev mq:=cw rE
def rE.value(k:rE):aa:=dW #[ap k.pos,ap k.size,ap k.count,aj k.first,aj k.last]
def rE.cells(k:rE):iC:=[ap k.pos,ap k.size,ap k.count,aj k.first,aj k.last]
structure rE.Of(k:rE)(c:cJ):Prop where
 ne:0<y c
 size:k.size=y (fI c)+4
 count:k.count=y c
 first:k.first=(c[0]'ne).key
 last:k.last=(c[y c-1]'(by omega)).key
def Cw(w:Y)(b:M)(k:rE):Prop:=w.heap[b]?=H (ar #[ap k.pos,ap k.size,ap k.count,aj k.first,aj k.last] 310 (0,0))
def Cw.cells{k:rE}(h:Cw a b k):aO a (R b 0)=H (ap k.pos)/\aO a (R b 1)=H (ap k.size)/\aO a (R b 2)=H (ap k.count)/\aO a (R b 3)=H (aj k.first)/\aO a (R b 4)=H (aj k.last):=by
 refine⟨?_,?_,?_,?_,?_⟩<;>rw[bL h]<;>rfl
def Cw.aw{w w':Y}{b:M}{k:rE}{S:fA}(h:Cw w b k)(c:I S w w')(a:¬S b):Cw w' b k:=(c.block b (am h) a).trans h
def yQ(x:E)(t:TypeId)(c:b=z (G a)):∀j u,(aF [x])[j]?=H u->aO (cF a<|ar #[aj x.key,aj x.val,aK x.del,aJ x.bP] t) (((R b 0):Addr).add j)=H u:=by
 grind[wE]
def Rd.wrote(m:Rd a b p D)(g:eL a f d u)(i:∀k,ct d=H k->b<k):Rd f b p D:=by
 obtain⟨j,e,h,c⟩:=m;refine⟨j,(g.grown.block b (am e) (λl=>by have:=i b l.symm;omega)).trans e,h.grown g.grown ?_,c⟩;cases hu:ct j with
 |none=>grind
 |some k=>
  grind
structure Xq(w0 w:Y)(rb:M)(k:rE)(c:cJ)(o:aa)(n:M):Prop where
 own:w.ownsRow (z<|G w0) 180 4 o n (aF<|c.take n)
 rd:Rd w rb (fI<|c.drop n) aY
 box:Cw w (z<|G w0) k
 B9:Below (z<|G w0) w0 w
 Vc:z (G w0)<rb
 ne:ct o≠H rb/\ct o≠H (z<|G w0)
 wN:∀k,ct o=H k->rb<k
def Ef(an c l:M)(t:rE)(hT:Steps a)(g:t.Of e)(hg:∀cm∈e,cm.Good)(hs:dM e)(dx:y e<=1000)(bi:t.size<=l)(x:Bytes a (bB an c t.size l) (iM<|fI e)):cD bz 338 #[bB an c t.size l,t.value] a λac N=>
 ∃v',ac=aL (dw #[v',aK bU])/\N.ownsRow (z<|G a) 180 4 v' (y e) (aF e)/\Below (z<|G a) a N:=by
 have dv:=De hg
 obtain⟨i0,bx,cj,ck,cl⟩:=cH oh
 obtain⟨pos,f,bd,first,b⟩:=t
 have ca:=g.ne
 have u:f=y (fI e)+4:=g.size
 have bT:bd=y e:=g.count
 have bn:=U<|show first=(e[0]'ca).key from g.first
 have bo:=U<|show b=(e[y e-1]'(by omega)).key from g.last
 clear g
 subst bT
 simp only at x bi
 unfold rE.value
 simp only
 have bs:Below (z<|G a) a (cF a<|ar #[ap pos,ap f,ap<|y e,aj first,aj b] 310):=(Below.refl _ a).alloc (ai _) _
 have cB:an<z (G a):=x.lt (by unfold iM;intro h;have:=bX y h;simp[cC]at this) an rfl
 have ch:cD bz 233 #[bB an c f l] (cF a<|ar #[ap pos,ap f,ap<|y e,aj first,aj b] 310) λac N=>
  ac=aL (dw #[bB an c (y<|fI e) l,aK bU])/\Below (z<|G<|cF a<|ar #[ap pos,ap f,ap<|y e,aj first,aj b] 310) (cF a<|ar #[ap pos,ap f,ap<|y e,aj first,aj b] 310) N:=by
   rw[u]at x bi|-;exact xB an c l (fI e) (hT.alloc _) bi (by omega)<|x.alloc _
 have ax:Bytes a (bB an c (y<|fI e) l) (fI e):=by
  have d:Bytes a (bB an c (y<|iM<|fI e) l) (iM<|fI e):=by rw[u]at x;unfold iM at*;rw[af,cC];exact x
  have:=d.take (n:=y<|fI e) (by simp[iM]);unfold iM at this;rwa[pX]at this
 have dn:∀(cm:Bool)(a:Y),(Op.unary .not<|aK cm).run bz a=.ok (aK<|!cm) a:=λ_ _=>rfl
 obtain⟨al,HG,HS,HB,co⟩:=je ax hg hs bs u
 clear x hT ax hg hs bs u
 go_in
 go_wp2_with(first
  |(go_at_call 233;refine ch.mono ?_;rintro ac w⟨rfl,bg⟩;have V:Cw w (z<|G a) ⟨pos,f,y e,first,b⟩:=(bg.block _<|by simp).trans<|aB _ rfl;obtain⟨k0,k1,k2,k3,k4⟩:=V.cells;simp only at k0 k1 k2 k3 k4;have o:Below (z<|G a) a w:=HB.trans (bg.mono<|by simp);have dm:=am V;have cb:=nr (al.below o (by intro t g;cases g;exact cB)) (by intro t g;cases g;grind);have O:=U V;have bc:=U o;clear bg V o)
  |(go_at_call 234;refine cb.mono ?_;rintro ac w2⟨rfl,ba,dc⟩;subst dc;have bq:=U ba;clear ba)
  |(at_make;refine jJ _ rfl _ _ 97 rfl (z (G a)) 180 i0 xe 4 underlying97 bx cj ck _ _ _ (y e) rfl rfl (by omega) (by rw[cl];omega) (by unfold maxLen;omega) (by simp;omega) ?_;intro w3 av B;have r:I az w w3:=(cK az w).cr (I.dJ (S:=az) B (by simp));have bt:=O.aw r (λe=>e);obtain⟨m0,m1,m2,m3,m4⟩:=bt.cells;simp only at m0 m1 m2 m3 m4;have br:=U r;clear bt r;have A:=U av;have ad:=U B;clear av B))
 have bh:=ae ad
 have dd:=bh.size
 simp at dd
 have db:z (G<|cF w<|ar #[bB an c (y<|fI e) l,aK aY] 397)=z (G w)+1:=by simp
 have r:=ae br
 have hA0:Xq a w3 (z<|G w) ⟨pos,f,y e,first,b⟩ e (bB (z (G w)+1) 0 0<|y e) 0:=by
  have i:=ae A;rw[db]at i;refine⟨i,?_,O.aw r<|λe=>e,bc.trans<|(r.below (ai _) cO).mono bc.size,by omega,⟨?_,?_⟩,?_⟩
  .exact bq.laid bh
  .simp[ct]
  .have:=am O;simp[ct];omega
  .intro t g;simp[ct]at g;omega
 have bm:=U hA0
 clear hA0 bh r
 go_loopw [9,35] (λo i wr=>∃n:M,n<=y e/\i=ap n/\Xq a wr (z<|G w) ⟨pos,f,y e,first,b⟩ e o n) (λ_ i _=>y e-(intOf i).toNat)
 case atStart=>exact⟨0,bj _,rfl,bm⟩
 case round=>
  obtain⟨n,dT,rfl,k⟩:=hrel;have i:=k.own;obtain⟨X,K,ho⟩:=aA i;have eb:=k.B9.size;have ao:=k.box.cells;simp only at ao;obtain⟨q0,q1,q2,q3,q4⟩:=ao;have ds:=k.rd.lt;have HA:=U k;by_cases P:n<y e
  .have v:=HG e[n]<|ak P;have q:=k.rd;rw[TV e n P]at q;have C:kE (fI<|e.drop<|n+1):=MW<|λcm b=>HG cm<|dK b;have bk:y (fI<|e.drop<|n+1)<=35*1000:=by
    have h1:=De (c:=e.drop<|n+1)<|λcm b=>HG cm<|dK b;grind
   have D:=AR v;have p:=ul v;have bl:y (oe e[n])<=35:=by unfold Ce at p;rw[af]at p;omega
   have d:=MC q ((kE.le 8 _).append<|D.append C) (by grind[length_append,cC]);have Q:=mY (le 8 e[n].bP)<|oe e[n]++fI (e.drop<|n+1);rw[cC]at Q;have au:num (le 8 e[n].bP++(oe e[n]++fI (e.drop<|n+1))) aY 8=e[n].bP:=by unfold num;rw[Q];exact CZ v.b0 v.b1
   rw[Q,au]at d;simp only at d;have m:=λW(a:Rd W (z<|G w) (oe e[n]++fI (e.drop<|n+1)) aY)=>He (z<|G w) (fI<|e.drop<|n+1) W a (D.append C) (by grind) v;have cv:Hid (aF (e.take n)++aF [e[n]]=aF (e.take<|n+1)):=by rw[<-fQ,ah P];grind
   clear k i q C bk D p bl Q au v;generalize e[n]=cm at*;obtain⟨xk,xv,xd,xb⟩:=cm;simp only at d m;unfold E.value at m;simp only at m;subst ho;go_wp2_with(first
    |(go_at_call 235;refine d.mono ?_;rintro ac w4⟨rfl,cc,bu⟩;have cq:=U cc;have cn:=U bu;clear cc bu)
    |(go_at_call 241;refine(m w4 cq).mono ?_;rintro ac L⟨rfl,cd,bv⟩;have s:I (λt=>t=z (G w)) wr L:=(fm cn).trans (fm bv)<|λt g=>.inl g;have F:=aN (aN (s.own HA.own<|λt g e=>HA.ne.1 (by rw[<-e];exact g))<|.cells #[.string xk,.string xv,.bool xd,.int .u64 xb] 180)<|.cells #[.string xk,.string xv,.bool xd,.int .u64 xb] 180;have ea:=s.size;have bp:=U F;have cu:=U s;have cs:=U cd;clear cd bv F s)
    |(at_builtin;refine bO _ rfl (.tmp 48) (.tmp 50) 97 rfl (z (G a)) 180 i0 xe 4 48 underlying97 bx cj ck cl rfl (by decide) (.slice X n K) n (aF (e.take n)) rfl bp (R (z (G L)+1) 0) 1 1 (aF [⟨xk,xv,xd,xb⟩]) rfl rfl (yQ ⟨xk,xv,xd,xb⟩ _ (by simp)) (BQ _) (by omega) (by omega) (by simp;omega) ?_;intro o2 w6 j bb;have cp:=U j;have cx:=U bb;clear j bb))
   go_roundw;case rel=>
    refine⟨n+1,P,by go_num,?_⟩;have k:=ae HA;have s:=ae cu;have T:=ae cx;have j:=ae cp;have cE:=k.own.lt;have ce:I (λt=>ct (J X n K)=H t) L w6:=(((I.refl (λt=>ct (J X n K)=H t) L).alloc _).alloc _).trans (I.dJ (S:=λt=>ct (J X n K)=H t) T.grown<|λt g=>.inl g)<|λt g=>.inl g;have aq:∀t,t<z (G L)->ct (J X n K)≠H t->ct o2≠H t:=by
     intro t g hn ac;rcases T.ur with dk|⟨bf,dk,hg⟩
     .grind
     .rw[dk]at ac;cases ac;simp at hg;omega
    refine⟨?_,?_,?_,?_,k.Vc,⟨aq _ (by omega) k.ne.1,aq _ (by omega) k.ne.2⟩,?_⟩
    .rw[<-ae cv];exact j
    .have hr:=ae cs;have cM:=hr.laid<|dt L (ar #[aj xk,aj xv,aK xd,aJ xb] 180) none;have cT:=cM.laid<|dt _ (ar #[aj xk,aj xv,aK xd,aJ xb] 180) none;exact cT.wrote T k.wN
    .exact(k.box.aw s (λe=>by have:=k.Vc;omega)).aw ce<|λe=>k.ne.2 e
    .refine(k.B9.trans<|s.below k.B9.size (λt g=>by have:=k.Vc;omega)).trans<|ce.below (by omega)<|λt g=>(cE t g).1
    .intro t g;rcases T.ur with dk|⟨bf,dk,hg⟩
     .exact k.wN t<|dk.symm.trans g
     .rw[dk]at g;cases g;simp at hg;omega
   case measure=>simp[intOf];omega
  .have cp:n=y e:=by omega
   subst cp;have q:=k.rd;rw[gh]at q;have cn:∀W,W.heap=wr.heap->cD bz 238 #[ay<|z<|G w] W λac N=>ac=aL (aK bU)/\N=W:=by
    intro W D;have:=ye (q.of_heap D) (by simp[fI]);simpa[fI]using this
   have hE:kr wr (J X (y e) K) e:=by
    have h1:=da i;rw[ho,aX]at h1;exact h1
   have Q:∀an,ct (J X (y e) K)=H an->an<z (G wr):=λan x=>by rw[<-ho]at x;exact(i.lt an x).2
   have p:∀W,W.heap=wr.heap->cD bz 324 #[J X (y e) K] W λac N=>ac=aL (aK bU)/\Below (z<|G W) W N:=by
    intro W D;refine Ow (J X (y e) K) W ?_ HS (by omega) (λan x=>by rw[D];exact Q an x);obtain⟨h1,⟨h2,h0⟩|⟨bf,bv,aq,h2,bu,ce⟩⟩:=hE
    .grind
    .exact⟨h1,.inr ⟨bf,bv,aq,h2,bu,λj u b=>(cR (w:=wr)<|by rw[D]).trans<|ce j u b⟩⟩
   obtain⟨cd,⟨au,cx⟩|⟨bf,d,cu,au,bp,F⟩⟩:=hE
   .omega
   have bb:=(eE e 0 ca).1;have bk:=(eE e (y e-1)<|by omega).1;have f0:aO wr (R bf<|d+0*4)=H (aj e[0].key):=F _ _ bb;have fL:aO wr (R bf<|d+(y e-1)*4)=H (aj e[y e-1].key):=F _ _ bk;rw[<-ae bn]at f0;rw[<-ae bo]at fL;cases au;subst ho;clear k i q cd bp F bb bk;rw[Aa,jn]at f0;have m:Below (z<|G a) a wr:=HA.B9;have C:∀W,Below (z<|G wr) wr W->∃v',Ending.returned (dw #[bB bf d (y e) K,aK bU])=aL (dw #[v',aK bU])/\W.ownsRow (z<|G a) 180 4 v' (y e) (aF e)/\Below (z<|G a) a W:=by
    intro W D;have k:=ae HA;have h1:=k.own;rw[aX]at h1;refine⟨_,rfl,?_,m.trans<|D.mono m.size⟩;exact(I.aR (S:=az) D).own h1<|λ_ _ e=>e
   have T:=U C;have bl:=Q bf rfl;have v:z (G a)<z (G wr):=am HA.box;clear C m co bn bo O bc al bq A ad br bm HA HG HS HB ch cb Q;obtain⟨s,hp⟩:∃s,y e-1=s:=⟨_,rfl⟩;have e1:(y e:Z)-1=(s:Z):=by omega
   have e2:(s:Z)<(y e:Z):=by omega
   have e3:(0:Z)<=(s:Z):=by omega
   have e4:s<y e:=by omega
   have e5:¬((y e:Z)<(y e:Z)):=by omega
   have e6:s<=1000:=by omega
   have e9:IntKind.i64.wrap (s:Z)=(s:Z):=by rw[bw];omega
   have cv:wrap64 (s:Z)=(s:Z):=by unfold wrap64;omega
   rw[hp]at fL;have cq:∀W,W.heap=wr.heap->cD bz 324 #[bB bf d (y e) K] W λac N=>ac=aL (aK bU)/\Below (z<|G W) W N:=p;clear p hp;go_wp2_with fail
   go_region_held3(λc=>aO c (R bf d)=H (aj first)/\aO c (R bf<|d+s*4)=H (aj b)/\aO c (R (z<|G a) 3)=H (aj first)/\aO c (R (z<|G a) 4)=H (aj b)) (first|assumption|go_keep) (first
    |(go_at_call 238;refine(cn wr.drew rfl).mono ?_;rintro ac w4⟨rfl,cs⟩;subst cs)
    |(go_at_call 324;refine(cq wr.drew rfl).mono ?_;rintro ac L⟨rfl,j⟩;have a0:aO L (R bf d)=H (.string first):=(j.cell (p:=(R bf d)) bl).trans f0;have a1:aO L (R bf (d+s*4))=H (.string b):=(j.cell (p:=(R bf (d+s*4))) bl).trans fL;have a2:aO L (R (z (G a)) 3)=H (.string first):=(j.cell (p:=(R (z (G a)) 3)) v).trans q3;have a3:aO L (R (z (G a)) 4)=H (.string b):=(j.cell (p:=(R (z (G a)) 4)) v).trans q4;have cc:=U j;clear j))
   go_wp2;go_ret2
   have j:=ae cc;exact T _ ⟨j.os,j.tape,j.output,j.size,j.block⟩
variable{B:mq}
def eI(l:mq):iC:=l.flatMap rE.cells
theorem Co(l:mq):y (eI l)=y l*5:=by
 induction l with
 |nil=>rfl
 |cons e r a=>unfold eI at*;rw[dF,af,a];simp[rE.cells];omega
def iy(l:mq)(n j:M)(h:n<y l)(b:j<5):(eI l)[n*5+j]?=(rE.cells l[n])[j]?:=by
 have e:eI l=eI (l.take n)++(rE.cells l[n]++eI (l.drop<|n+1)):=by(have a:l=l.take n++l[n]::l.drop (n+1):=by rw[<-aZ h,bN]);(conv=>lhs;rw[a]);simp only[eI,gd,dF]
 grind[Co,getElem?_append_right,getElem?_append_left]
structure lS(w:Y)(tb:M)(dv:aa)(number cut isize sum:Z)(bb boff wZ:M)(dav:aa)(ks:mq):Prop where
 box:w.heap[tb]?=H (ar #[dv,aJ number,dq cut,dq isize,dq sum,bB bb boff (y ks) wZ,dav] 308 (0,0))
 cells:∀j u,(eI ks)[j]?=H u->aO w (R bb<|boff+j)=H u
 ne:0<y ks
 le:y ks<=wZ
 small:y ks<=1000000000
def TG{e cut i j:Z}(h:lS a b d e cut i j c g l u B):cD bz 124 #[ay b] a λn m=>n=aL (aj (B[0]'h.ne).first)/\m=a:=by
 have k:=cellAt h.box 5 rfl;have f:=h.ne;have o:aO a (R c<|g+3)=H (aj (B[0]'f).first):=h.cells _ _ (iy B 0 3 f<|by decide);have p:(0:Z)<(y B:Z):=by omega
 generalize(B[0]'f).first=s at*;clear h;go_in
 go_wp2;go_ret;simp_all
def VY{e cut f i:Z}(h:lS a b d e cut f i c g l u B):cD bz 125 #[ay b] a λr o=>r=aL (aj (B[y B-1]'(by have:=h.ne;omega)).last)/\∃q,o=a.drewN q:=by
 have k:=cellAt h.box 5 rfl;have m:=h.ne;have n:=h.small;obtain⟨p,j⟩:∃p,y B-1=p:=⟨_,rfl⟩;have x:aO a (R c<|g+p*5+4)=H (aj (B[y B-1]'(by omega)).last):=by subst j;rw[aV];exact h.cells _ _<|iy B (y B-1) 4 (by omega)<|by decide
 have s:(y B:Z)-1=(p:Z):=by omega
 have t:(p:Z)<(y B:Z):=by omega
 have v:(0:Z)<=(p:Z):=by omega
 have w:p<y B:=by omega
 generalize(B[y B-1]'(by omega)).last=A at*;clear h j;go_in
 go_wp2;go_quiet(fail)
 go_wp2;go_ret;exact⟨rfl,nq,rfl⟩
def Pd(m:M){bk:M}{e cut f k:Z}(i:ab)(h:lS a b d e cut f k c g l u B)(o:ep a m (ay b) 142)(n:ep a bk (aj i) 9)(j:M)(s:j<y B):cD bz 336 #[ap j,ay m,ay bk] a λv t=>v=aL (aK<|!iP B[j].last i)/\∃q,t=a.drewN q:=by
 have p:=cellAt h.box 5 rfl;have A:aO a (R c<|g+j*5+4)=H (aj B[j].last):=by rw[aV];exact h.cells _ _<|iy B j 4 s<|by decide
 have c1:=o.cell;have c2:=n.cell;have r:=Ke;have w:(j:Z)<(y B:Z):=by omega
 have x:(0:Z)<=(j:Z):=by omega
 unfold iP;generalize B[j].last=C at*;clear h o n;go_in
 go_wp2;go_quiet(fail)
 go_wp2;go_ret;exact⟨rfl,nq,rfl⟩
def lS.below{e cut h i:Z}{m:mq}{B:M}(j:lS a b d e cut h i c g l u m)(k:Below B a f)(n:b<B)(o:c<B):lS f b d e cut h i c g l u m:=⟨(k.block b n).trans j.box,λr s q=>(k.cell (p:=(R c<|g+r)) o).trans<|j.cells r s q,j.ne,j.le,j.small⟩
def lS.lt{e cut h i:Z}(j:lS a c d e cut h i g l A u B):c<z (G a)/\g<z (G a):=⟨am j.box,dj a (R g<|l+(0*5+0))<|j.cells _ _<|iy B 0 0 j.ne<|by decide⟩
def Av{f cut n D:Z}(e:ab)(h:lS a b d f cut n D c g l u B)(hs:B.Pairwise (λV ao=>iP V.last ao.last=bU)):cD bz 332 #[ay b,aj e] a λW w'=>∃E:M,W=aL (ap E)/\E<=y B/\(∀j(i:j<y B),j<E->iP B[j].last e=bU)/\(∀j(i:j<y B),E<=j->iP B[j].last e=aY)/\Below (z<|G a) a w':=by
 have o:=h.lt;have w:Below (z<|G a) a (cF (cF a<|ar #[ay b] 142)<|ar #[aj e] 9):=((Below.refl _ a).alloc (ai _) _).alloc (by simp) _;have r:=h.below w o.1 o.2;have ad:=cellAt r.box 5 rfl
 have p:=zD #[ay<|z<|G a,ay<|z (G a)+1] (y B) (λj=>if i:j<y B then !iP B[j].last e else bU) (cF (cF a<|ar #[ay b] 142)<|ar #[aj e] 9) (enters_of func336 (by kernel_rfl) rfl) (by have:=h.small;omega) (by
  intro V ao ac C X;have v:V<y B:=by omega
  simp only[C,v,zY]at X|-;grind[Nat.lt_or_eq_of_le,pairwise_iff_getElem,kZ])
  (by
   intro j i an k;have t:=r.below k (by simp;omega) (by simp;omega);have x:ep an (z (G a)) (ay b) 142:=(k.block _ (by simp;omega)).trans (ep.alloc (aB _ rfl) _);have A:ep an (z (G a)+1) (aj e) 9:=(k.block _ (by simp)).trans (aB _ (by simp));apply(Pd (z (G a)) e t x A j i).mono;rintro W W'⟨rfl,q,rfl⟩;simp only[i,zY];exact⟨trivial,below_drewN (Below.refl _ _) _⟩)
 have s:=U p;have F:=U w;have al:=r.lt.1;clear p r w h hs;go_in
 go_wp2_with(go_at_call 250;refine s.mono ?_;rintro W w1⟨E,rfl,K,L,N,O⟩;have P:=U K;have Q:=U L;have S:=U N;have T:=U O;clear K L N O)
 go_ret;refine⟨E,rfl,P,λj i m=>?_,λj i m=>?_,F.trans<|T.mono F.size⟩;have:=Q j m;grind
 have:=S j m i;grind
structure nF(V:iY)(n0 tb:M)(ks:mq)(cs:dL)(w:Y):Prop where
 mem:∃dv number cut isize sum bb boff wZ dav,lS w tb dv number cut isize sum bb boff wZ dav ks/\(tb<n0/\¬V.F tb)/\(bb<n0/\¬V.F bb)
 len:y ks=y cs
 EQ:∀i(hi:i<y ks)(hc:i<y cs),ks[i].Of cs[i]
 iX:∀c∈cs,∀x∈c,x.Good
 mh:dM cs.flatten
 Dz:cs.Pairwise gX
 small:∀c∈cs,y c<=1000
 bytes:∀i(hi:i<y ks)(hc:i<y cs)W,jF V n0 az w W->V.D W->cD bz 337 #[ay tb,ks[i].value] W λe W'=>
  ∃b off cap,e=aL (dw #[bB b off ks[i].size cap,.nilIface])/\ks[i].size<=cap/\Bytes W' (bB b off ks[i].size cap) (iM<|fI cs[i])/\V.Eb W'/\I V.F W W'
 steps:Steps w
 Aj:1<n0/\¬V.F 1
def lS.same{V:iY}{n0:M}{S:fA}{e cut h i:Z}(j:lS a b d e cut h i c g l u B)(k:jF V n0 S a f)(m:b<n0/\¬V.F b)(n:c<n0/\¬V.F c):lS f b d e cut h i c g l u B:=⟨(k.2 b<|.inl m).trans j.box,λp q o=>k.cell (.inr n)<|j.cells p q o,j.ne,j.le,j.small⟩
def Steps.same{V:iY}{n0:M}{S:fA}(h:Steps a)(d:jF V n0 S a f)(b:1<n0/\¬V.F 1):Steps f:=λk c=>d.cell (.inr b)<|h k c
def nF.same{V:iY}{n0 d:M}(h:nF V n0 d B k a)(j:jF V n0 az a f):nF V n0 d B k f:=by
 obtain⟨p,c,cut,e,l,o,g,b,i,u,m,n⟩:=h.mem;exact⟨⟨p,c,cut,e,l,o,g,b,i,u.same j m n,m,n⟩,h.len,h.EQ,h.iX,h.mh,h.Dz,h.small,λv t s W r q=>h.bytes v t s W (j.trans r) q,h.steps.same j h.Aj,h.Aj⟩
def LV(h:nF t b c B k a)(hD:t.D a)(hn:b<=z (G a))(hF:∀ad,t.F ad->ad<b)(o:M)(F:o<y B)(hc:o<y k):cD bz 333 #[ay c,ap o] a λbg N=>∃L,bg=aL (dw #[L,.nilIface])/\N.ownsRow (z<|G a) 180 4 L (y k[o]) (aF k[o])/\t.Eb N/\I t.F a N:=by
 obtain⟨dv,al,cut,bd,bo,O,i,ac,bk,C,bn,bl⟩:=h.mem;have bm:=cellAt C.box 5 rfl;have g0:aO a (R O<|i+o*5)=H (ap B[o].pos):=C.cells _ _ (iy B o 0 F<|by decide);have g1:aO a (R O<|i+o*5+1)=H (ap B[o].size):=by rw[aV];exact C.cells _ _<|iy B o 1 F<|by decide
 have g2:aO a (R O<|i+o*5+2)=H (ap B[o].count):=by rw[aV];exact C.cells _ _<|iy B o 2 F<|by decide
 have g3:aO a (R O<|i+o*5+3)=H (aj B[o].first):=by rw[aV];exact C.cells _ _<|iy B o 3 F<|by decide
 have g4:aO a (R O<|i+o*5+4)=H (aj B[o].last):=by rw[aV];exact C.cells _ _<|iy B o 4 F<|by decide
 have e2:(o:Z)<(y B:Z):=by omega
 have e3:(0:Z)<=(o:Z):=by omega
 have m:=ak hc;have E:=h.EQ o F hc;have r:=h.iX _ m;have n:=h.small _ m;have D:dM k[o]:=h.mh.sub<|cS m;have q:=h.bytes o F hc;have v:=h.steps;have u:=h.Aj;have bi:∀(x:Bool)(a:Y),(Op.unary .not<|aK x).run bz a=.ok (aK<|!x) a:=λ_ _=>rfl;have Q:∀ad,b<=ad->¬t.F ad:=λad hk a=>by have:=hF ad a;omega
 obtain⟨pos,d,e,first,g,bb⟩:∃pos d e first g,B[o]=⟨pos,d,e,first,g⟩:=⟨_,_,_,_,_,rfl⟩
 rw[bb]at g0 g1 g2 g3 g4 E q;simp only at g0 g1 g2 g3 g4;unfold rE.value at q;simp only at q;have w:I az a (cF a<|ar #[ap pos,ap d,ap e,aj first,aj g] 310):=(cK _ _);have ba:=q _ (w.same hn cO cO)<|t.fD hD w cO;have bh:=(C.lt).2;have HX:=U (show∀p bf f j,I t.F (cF a<|ar #[ap pos,ap d,ap e,aj first,aj g] 310) p->d<=j->Bytes p (bB bf f d j) (iM<|fI k[o])->cD bz 338 #[bB bf f d j,dW #[ap pos,ap d,ap e,aj first,aj g]] p λbg N=>∃L,bg=aL (dw #[L,aK bU])/\N.ownsRow (z<|G p) 180 4 L (y k[o]) (aF k[o])/\Below (z<|G p) p N from by intro p bf f j ht A hB;have V:Steps p:=(v.same (S:=az) (w.same (V:=t) hn cO cO) u).same (S:=az) (ht.same (V:=t) (by simp;omega) cO<|λad hk _=>hk) u;exact Ef bf f j ⟨pos,d,e,first,g⟩ V E r D n A hB);have av:=U Q;clear C E r n D q v u m h hD hF Q;go_in
 go_wp2_with(first
  |(go_at_call 337;refine ba.mono ?_;rintro bg p⟨bf,f,j,rfl,A,hB,P,l⟩;have bc:=HX p bf f j l A hB;have X:Cw p (z<|G a) ⟨pos,d,e,first,g⟩:=Cw.aw (aB _ rfl) l<|av _ hn;obtain⟨k0,k1,k2,k3,k4⟩:=X.cells;simp only at k0 k1 k2 k3 k4;have ao:=U P;have au:=U l;clear A hB P l X)
  |(go_at_call 338;refine bc.mono ?_;rintro bg w3⟨L,rfl,s,x⟩;have aq:=U s;have an:=U x;clear s x))
 go_ret2
 have l:=ae au;have x:=ae an;have hz:=l.size;simp at hz;have W:I az p w3:=I.aR x;refine⟨L,rfl,?_,t.AX ao W cO,((w.mono (T:=t.F) cO).trans l<|λad hk=>.inl hk).cr W⟩;obtain⟨h1,⟨h2,h0⟩|⟨bp,cp,ax,h2,hb,K⟩⟩:=ae aq;exact⟨h1,.inl ⟨h2,h0⟩⟩;exact⟨h1,.inr ⟨bp,cp,ax,h2,by omega,K⟩⟩
def nF.AM(h:nF t b c B k a):B.Pairwise (λo p=>iP o.last p.last=bU):=by
 refine cN.2<|λm n j l f=>?_;have d:m<y k:=by have:=h.len;omega
 have e:n<y k:=by have:=h.len;omega
 have g:=h.EQ m j d;have i:=h.EQ n l e;rw[g.last,i.last];have:=cN.1 h.Dz m n d e f;have q:=g.ne;have r:=i.ne;exact this _ (ak<|by omega) _<|ak<|by omega
def nF.BZ(o:nF t b c B k a)(e:ab)(j:M)(q:∀i(s:i<y B),i<j->iP B[i].last e=bU):((k.drop j).map<|fT e).flatten=fT e k.flatten:=by
 have m:k.flatten=(k.take j).flatten++(k.drop j).flatten:=by rw[<-dB,bN]
 have w:fT e (k.take j).flatten=[]:=by unfold fT;rw[gV];intro A u;obtain⟨x,r,h⟩:=bE.1 u;obtain⟨i,s,rfl⟩:=dO r;rw[lC]at h;(have d:i<j/\i<y k:=by grind);(have f:i<y B:=by have:=o.len;omega);have v:=o.EQ i f d.2;have g:dM k[i]:=o.mh.sub<|cS<|ak d.2;have l:=q i f d.1;rw[v.last]at l;have p:=g.DG v.ne h;rw[xQ p l];simp
 have n:∀l:dL,(l.map<|fT e).flatten=fT e l.flatten:=by
  intro l;induction l with
  |nil=>rfl
  |cons f r d=>simp only[bZ,bG,d];unfold fT;rw[lf]
 rw[n,m];grind
theorem Gn(bt:M)(i:M)(F:ab)(h:nF t b c B k a)(ht:ep a bt (ay c) 142)(hg:ep a g (ap i) 3)(E:ep a l (aj F) 9)(hn:b<=l)(hD:t.D a)(ac:b<=z (G a))(hF:∀i,t.F i->i<b)(hE:t.Cl)(q:M)(hi:i+q<y B)(hc:i+q<y k):cD bz 335 #[ap q,ay bt,ay g,ay l] a λao w'=>∃v' S',ao=aL (dw #[v',.nilIface])/\jf t b v' (fT F k[i+q]) S' w'/\t.D w'/\I t.F a w'/\(∀i,S' i->z (G a)<=i):=by
 have c1:=ht.cell;have c2:=hg.cell;have c3:=E.cell;have x:=LV h hD ac hF (i+q) hi hc;have e:=ak hc;have o:dM k[i+q]:=h.mh.sub<|cS e;have X:=h.small _ e;have n:i+q<1000000000:=by grind[nF.mem,lS.small]
 have S:=am E;have W:¬t.F l:=λT=>by have:=hF l T;omega
 obtain⟨HL,HS,r,HF⟩:=gH E o (show∀x∈k[i+q],x.bP<18446744073709551616 fromλx b=>(h.iX _ e x b).b1) hF;clear ht hg E h hD e hF o hi;have C:IntKind.i64.wrap ((i:Z)+(q:Z))=((i+q:M):Z):=by rw[bw];omega
 have p:wrap64 ((i:Z)+(q:Z))=((i+q:M):Z):=by unfold wrap64;omega
 obtain⟨an,hm⟩:∃an,i+q=an:=⟨_,rfl⟩;simp only[hm]at x X HS r C p n|-;have ad:(i:Z)+(q:Z)=(an:Z):=by omega
 generalize k[an]=av at*;clear hm C p;go_in
 go_wp2_with(first
  |(go_at_call 333;refine x.mono ?_;rintro ao w1⟨v1,rfl,d,s,f⟩;have aq:aO w1 (R l 0)=H (.string F):=f.cell c3 W S;have u:kr w1 v1 av:=da d;have m:=d.lt;have al:=f.size;have V:=Nd t b F u HS r (by omega) (λi D=>⟨λT=>by have:=HF i T;have:=(m i D).1;omega,(m i D).2⟩) (by omega) HF;have L:=U s;have Q:=U f;have O:=U m;clear d s f u m)
  |(go_at_call 323;refine V.mono ?_;rintro ao w2⟨v2,S2,rfl,w,j,v⟩;have N:=U w;have K:=U j;have P:=U v;clear w j v))
 go_ret2
 have j:=ae K;have f:=ae Q;have A:I az w1 w2:=I.aR j;refine⟨v2,S2,rfl,N,t.fD (hE _ L) A cO,f.cr A,λk' D=>?_⟩;rcases P k' D with au|au;exact(O k' au.1).1;omega
def UJ(V:iY)(b a g d e k:M)(l:mq)(h:dL)(m:ab)(j:y l=y h)(t:V.Cl):Bi V b ((h.drop k).map<|fT m)where
 f:=335
 cb:=#[ay g,ay d,ay e]
 inv:=λW=>nF V b a l h W/\(ep W g (ay a) 142/\ep W d (ap k) 3/\ep W e (aj m) 9)/\(b<=g/\b<=d/\b<=e)/\b<=z (G W)/\∀k,V.F k->k<b
 S:=λx=>x=g\/x=d\/x=e
 Ur:=enters_of func335 (by kernel_rfl) rfl
 call:=by
  grind[Gn]
 fD:=by
  rintro W s⟨q,⟨n,o,p⟩,r,i,hF⟩c;exact⟨q.same<|c.mono cO,⟨n.same c<|.inl rfl,o.same c<|.inr<|.inl rfl,p.same c<|.inr<|.inr rfl⟩,r,aC i c.1,hF⟩
 lt:=by
  grind
def CG{n0 tbqq:M}{ks:mq}{cs:dL}(f:ab)(h:nF t n0 tbqq ks cs a)(hD:t.D a)(n:n0<=z (G a))(hF:∀k,t.F k->k<n0)(hE:t.Cl):cD bz 331 #[ay tbqq,aj f] a λal j=>∃w s,al=aL w/\jf t n0 w (fT f cs.flatten) s j/\t.D j/\I t.F a j/\(∀k,s k->z (G a)<=k):=by
 have l:Below (z<|G a) a (cF (cF a<|ar #[ay tbqq] 142)<|ar #[aj f] 9):=((Below.refl _ a).alloc (ai _) _).alloc (by simp) _;obtain⟨dv,E,cut,ac,bc,L,g,d,ao,C,ax,aq⟩:=h.mem;have e:=C.lt;have T:=Av f (C.below l e.1 e.2) h.AM;have r:=h.len;have av:=C.small
 have HX:=U (show∀(c:Y)(k:M),Below (z<|G<|cF (cF a<|ar #[ay tbqq] 142)<|ar #[aj f] 9) (cF (cF a<|ar #[ay tbqq] 142)<|ar #[aj f] 9) c->k<=y ks->(∀d(e:d<y ks),d<k->iP ks[d].last f=bU)->∀W,W.heap=(cF c<|ar #[ap k] 3).heap->I az (cF c<|ar #[ap k] 3) W->cD bz 329 #[ap ((y ks-k:M):Z),.func (.func 335) #[] #[ay<|z<|G a,ay<|z<|G c,ay<|z (G a)+1]] W λal j=>∃w s,al=aL w/\jf t n0 w (fT f cs.flatten) s j/\t.D j/\I t.F a j/\(∀k,s k->z (G a)<=k)/\Below (z<|G W) W j from by
  intro c k b hk Q W u O;have v:=b.size;simp at v;have i:I az a W:=(((I.aR (S:=az) l).cr<|I.aR (S:=az) b).alloc _).cr O;have V:ep c (z<|G a) (ay tbqq) 142:=(b.block _ (by simp;omega)).trans<|ep.alloc (aB _ rfl) _;have X:ep c (z (G a)+1) (aj f) 9:=(b.block _<|by simp).trans (aB _<|by simp);have y1:ep W (z<|G a) (ay tbqq) 142:=by rw[ep,u];exact V.alloc _
  have y2:ep W (z (G a)+1) (aj f) 9:=by rw[ep,u];exact X.alloc _
  have y3:ep W (z<|G c) (ap k) 3:=by rw[ep,u];exact aB _ rfl
  have N:nF t n0 tbqq ks cs W:=h.same<|i.same n cO cO;have A:=IK (UJ t n0 tbqq (z<|G a) (z<|G c) (z (G a)+1) k ks cs f r hE) W ⟨N,⟨y1,y3,y2⟩,⟨n,by omega,by omega⟩,aC n i.size,hF⟩ (aC n i.size) hF (by simp;omega);have hl:y ((cs.drop k).map<|fT f)=y ks-k:=by simp;omega
  rw[hl]at A;apply A.mono;rintro al j⟨w,s,rfl,hg,hb,hS⟩;rw[h.BZ f k Q]at hg;have D:I az W j:=I.aR hb;have o:=i.cr D;refine⟨w,s,rfl,hg,t.fD hD o cO,o.mono cO,λbd hx=>?_,hb⟩;have bb:=i.size;rcases hS bd hx with(an|an|an)|an
  .omega
  .omega
  .omega
  .omega)
 have m:∀W,Below (z<|G a) a W->aO W (R tbqq 5)=H (bB L g (y ks) d):=λW b=>by rw[bL (C.below b e.1 e.2).box];rfl
 have K:=U m;have HB:=U l;have ba:=e.1;clear h C hD hF m l e r;go_in
 go_wp2_with(go_at_call 332;refine T.mono ?_;rintro al c⟨k,rfl,hk,B,P,b⟩;have q:Below (z<|G a) a c:=HB.trans<|b.mono HB.size;have m:=K c q;have v:=b.size;have x1:aO c (R (z<|G a) 0)=H (ay tbqq):=ep.cell<|(b.block _ (by simp;omega)).trans<|ep.alloc (aB _ rfl) _;have x:=U<|HX c k b hk B;clear B P b q)
 simp at v;have q1:z (G a)<z (G c):=by omega
 have q2:tbqq<z (G c):=by omega
 obtain⟨ad,hd⟩:∃ad,y ks-k=ad:=⟨_,rfl⟩;rw[hd]at x;have q3:(y ks:Z)-(k:Z)=(ad:Z):=by omega
 have q4:ad<=1000000000:=by omega
 have q6:IntKind.i64.wrap (ad:Z)=(ad:Z):=by rw[bw];omega
 clear hd
 go_region_held3(λb=>aO b (R (z<|G a) 0)=H (ay tbqq)/\aO b (R tbqq 5)=H (bB L g (y ks) d)/\aO b (R (z<|G c) 0)=H (ap k)) (first|assumption|go_keep) (first
  |(go_at_call 329;refine(x ((cF c (.cells #[.int .i64 k] 3)).drew) rfl ⟨rfl,rfl,rfl,ai _,λ_ _ _=>rfl⟩).mono ?_;rintro al w2⟨v2,S2,rfl,r1,r2,r3,r4,F⟩;have R1:=U r1;have R2:=U r2;have R3:=U r3;have R4:=U r4;have au:aO w2 (R (z (G a)) 0)=H (ay tbqq)/\aO w2 (R tbqq 5)=H (bB L g (y ks) d)/\aO w2 (R (z (G c)) 0)=H (.int .i64 k):=⟨(F.cell (p:=(R (z (G a)) 0)) (by simp;omega)).trans (by rw[bY,pU _ _ _ q1];exact x1),(F.cell (p:=(R tbqq 5)) (by simp;omega)).trans (by rw[bY,pU _ _ _ q2];exact m),(F.cell (p:=(R (z (G c)) 0)) (by simp)).trans (by simp)⟩;clear r1 r2 r3 r4 F))
 go_wp2;go_ret;exact⟨v2,S2,rfl,R1,R2,R3,R4⟩
structure zU(ks:mq)(key:ab)(k:M):Prop where
 le:k<=y ks
 low:∀i(hi:i<y ks),i<k->iP ks[i].last key=bU
 vz:∀i(hi:i<y ks),k<=i->iP ks[i].last key=aY
def RQ(l:B.Pairwise (λj f=>iP j.last f.last=bU))(d:ab):∃k,zU B d k:=by
 induction B with
 |nil=>exact⟨0,ai _,λi a=>by simp at a,λi a=>by simp at a⟩
 |cons f r h=>
  obtain⟨m,g⟩:=bC.1 l;cases c:iP f.last d with
  |true=>
   obtain⟨k,e⟩:=h g;refine⟨k+1,by have:=e.le;simp;omega,λi a b=>?_,λi a b=>?_⟩
   .cases i with
    |zero=>exact c
    |succ i=>exact e.low i (by simpa using a)<|by omega
   .cases i with
    |zero=>omega
    |succ i=>exact e.vz i (by simpa using a)<|by omega
  |false=>
   refine⟨0,bj _,λi a b=>by omega,λi a _=>?_⟩;grind[getElem_mem,kZ]
def zU.eq(h:zU B W b)(a:zU B W c):b=c:=by
 rcases lB b c with e|e|e;have f:=a.low b (by have:=a.le;omega) e;have d:=h.vz b (by have:=a.le;omega)<|ai _;rw[f]at d;cases d;exact e;have f:=h.low c (by have:=h.le;omega) e;have d:=a.vz c (by have:=h.le;omega)<|ai _;rw[f]at d;cases d
def nF.AV(o:nF t b c B k a)(r:zU B W g)(x:E)(v:x∈k.flatten)(i:x.key=W):∃j:g<y k,x∈k[g]:=by
 obtain⟨C,j,h⟩:=bE.1 v;obtain⟨n,q,rfl⟩:=dO j;have d:n<y B:=by have:=o.len;omega
 have w:=o.EQ n d q;have m:dM k[n]:=o.mh.sub<|cS j;have l:=m.DG w.ne h;rcases lB n g with u|u|u;have:=r.low n d u;rw[w.last]at this;have:=xQ l this;rw[i,fy]at this;cases this;grind
 (have f:g<y B:=by omega);(have e:g<y k:=by omega);have s:=o.EQ g f e;have p:=r.vz g f<|ai _;rw[s.last]at p;have A:=s.ne;have:=cN.1 o.Dz g n e q u _ (ak<|show y k[g]-1<y k[g]by omega) x h;rw[i,p]at this;cases this
def nF.yN(l:nF t b c B k a)(m:zU B W g)(n:∀(r:g<y B),iP W B[g].first=bU)(q:Z):iI q k.flatten W=none:=by
 refine rD<|λx o e=>?_;obtain⟨i,h⟩:=l.AV m x o e;have d:g<y B:=by have:=l.len;omega
 have p:=l.EQ g d i;have j:=n d;have f:dM k[g]:=l.mh.sub<|cS<|ak i;rw[p.first,<-e,f.xY p.ne h]at j;cases j
def nF.Cc(j:nF t b c B k a)(h:zU B W g)(f:g<y k)(e:Z):iI e k.flatten W=iI e k[g] W:=AW f (λx i d=>j.AV h x i d) j.Dz e
def Ys(t:TypeId)(a b:ab):binOp .gtr t (aj a) (aj b)=pure (aK !(Op.bytesLess a.toList b.toList||a.toList==b.toList)):=by simp[binOp,Op.stringOp]
def QZ(a b:ab):(!(Op.bytesLess a.toList b.toList||a.toList==b.toList))=iP b a:=by
 show(!(iP a b||a.toList==b.toList))=iP b a;grind[ld,FX,fy,nC]
def CH{n0 tbqq:M}{ks:mq}{cs:dL}(m:ab)(bt:Z)(h:nF t n0 tbqq ks cs a)(hD:t.D a)(w:n0<=z (G a))(hF:∀x,t.F x->x<n0):cD bz 328 #[ay tbqq,aj m,aJ bt] a λbc w'=>bc=aL (tv<|iI bt cs.flatten m)/\t.Eb w'/\I t.F a w':=by
 obtain⟨x,o⟩:=RQ h.AM m;have s:Below (z<|G a) a (cF a<|ar #[aj ⟨#[]⟩,aj ⟨#[]⟩,aK aY,aJ 0] 180):=(Below.refl _ a).alloc (ai _) _;obtain⟨dv,bi,cut,bm,bv,bn,W,N,bo,X,bu,bp⟩:=h.mem;have v:=X.lt;have j:=h.len;have bs:=X.small;have V:cD bz 332 #[ay tbqq,aj m] (cF a<|ar #[aj ⟨#[]⟩,aj ⟨#[]⟩,aK aY,aJ 0] 180) λbc w'=>bc=aL (ap x)/\Below (z<|G a) a w'/\ii w' (z<|G a) zE:=by apply(Av m (X.below s v.1 v.2) h.AM).mono;rintro bc w'⟨f,rfl,g,q,r,d⟩;obtain rfl:x=f:=o.eq ⟨g,q,r⟩;exact⟨rfl,s.trans<|d.mono s.size,(d.block _<|by simp).trans<|aB _ rfl⟩
 have n:∀bb,Below (z<|G a) a bb->aO bb (R tbqq 5)=H (bB bn W (y ks) N):=λbb O=>by rw[bL (X.below O v.1 v.2).box];rfl
 have K:=U n;have T:∀bd,n0<=bd->¬t.F bd:=λbd hx a=>by have:=hF bd a;omega
 have L:=U T;have al:=U<|λbb(O:Below (z<|G a) a bb)=>t.fD hD (I.aR (S:=az) O) cO;have bq:=Ys;by_cases Q:x<y ks
 .have u:∀bb,Below (z<|G a) a bb->aO bb (R bn<|W+x*5+3)=H (aj ks[x].first):=λbb O=>by rw[aV];exact(X.below O v.1 v.2).cells _ _<|iy ks x 3 Q<|by decide
  have ac:=U u;have e1:((x:Z)==(y ks:Z))=aY:=by simp;omega
  have e2:(x:Z)<(y ks:Z):=by omega
  have e3:(0:Z)<=(x:Z):=by omega
  have bg:=QZ ks[x].first m;cases hfk:iP m ks[x].first with
  |true=>
   rw[hfk]at bg;have e:=h.yN o (λ_=>hfk) bt;rw[e];have HL:=U j;clear h X o hD hF T s n u j e hfk;generalize ks[x].first=fk at*;go_in
   go_wp2_with(go_at_call 332;refine V.mono ?_;rintro bc k⟨rfl,c,b⟩;have n:=K k c;have u:=ac k c;obtain⟨z0,z1,z2,z3⟩:=b.cells;have y0:=b.free (i:=0);have y1:=b.free (i:=1);have y2:=b.free (i:=2);have y3:=b.free (i:=3);have p:=U b;have l:=U c;clear b c)
   refine cP (fZ rfl _ _ (z<|G a) zE _ _ rfl<|p.put zE) rfl ?_;have C:Below (z<|G a) a (wW k (z<|G a) zE):=l.trans ((jc k (z<|G a) zE).below l.size<|λbd hx=>by omega);exact⟨rfl,t.up<|al _ C,I.aR C⟩
  |false=>
   rw[hfk]at bg;have P:x<y cs:=by omega
   rw[h.Cc o P bt];have bh:dM cs[x]:=h.mh.sub<|cS<|ak P;have br:=h.small _<|ak P;obtain⟨bf,bk,HL⟩:=dA (λbb(O:Below (z<|G a) a bb)=>LV (h.same<|(I.aR (S:=az) O).same w cO cO) (al bb O) (aC w O.size) hF x Q P) bh j;clear h X o hD hF T s n u j hfk bh;generalize ks[x].first=fk at*;generalize cs[x]=bl at*;have g:=(λv(w2 k:Y)(a:w2.ownsRow (z<|G k) 180 4 v (y bl) (aF bl))=>AJ m bt (da a) bk (by omega)<|λc b=>(a.lt c b).2);generalize iI bt bl m=fe at*;cases fe with
   |none=>
    simp only[tv,xe]at g;have aq:=U g;clear g;go_in
    go_wp2_with(first
     |(go_at_call 332;refine V.mono ?_;rintro bc k⟨rfl,c,b⟩;have n:=K k c;have u:=ac k c;have ba:=bf k c;have p:=U b;have l:=U c;clear b c)
     |(go_at_call 333;refine ba.mono ?_;rintro bc w2⟨v2,rfl,f,B,r⟩;have ax:=aq v2 w2 k f;have an:=U<|p.aw r<|L _ w;have ad:=U B;have au:=U r;clear f B r)
     |(go_at_call 322;refine ax.mono ?_;rintro bc w3⟨rfl,q⟩;have d:=an.aw (I.aR (S:=az) q) (λbl=>bl);obtain⟨z0,z1,z2,z3⟩:=d.cells;have y0:=d.free (i:=0);have y1:=d.free (i:=1);have y2:=d.free (i:=2);have y3:=d.free (i:=3);have ao:=U d;have A:=U q;clear d q))
    refine cP (fZ rfl _ _ (z<|G a) zE _ _ rfl<|ao.put zE) rfl ?_;have F:I t.F a w3:=((I.aR (S:=t.F) l).trans au<|λx o=>.inl o).trans (I.aR (S:=t.F) A)<|λx o=>.inl o;have D:=jc w3 (z<|G a) zE;have av:=t.AX ad (I.aR (S:=az) A) cO;refine⟨rfl,t.AX av D (λbd hx=>by subst hx;exact L _ w),F.trans D<|λbd hx=>.inr<|by omega⟩
   |some bd=>
    obtain⟨xk,xv,xd,xb⟩:=bd;simp only[tv,E.value]at g;have aq:=U g;clear g;go_in
    go_wp2_with(first
     |(go_at_call 332;refine V.mono ?_;rintro bc k⟨rfl,c,b⟩;have n:=K k c;have u:=ac k c;have ba:=bf k c;have p:=U b;have l:=U c;clear b c)
     |(go_at_call 333;refine ba.mono ?_;rintro bc w2⟨v2,rfl,f,B,r⟩;have ax:=aq v2 w2 k f;have an:=U<|p.aw r<|L _ w;have ad:=U B;have au:=U r;clear f B r)
     |(go_at_call 322;refine ax.mono ?_;rintro bc w3⟨rfl,q⟩;have d:=an.aw (I.aR (S:=az) q) (λbl=>bl);obtain⟨z0,z1,z2,z3⟩:=d.cells;have y0:=d.free (i:=0);have y1:=d.free (i:=1);have y2:=d.free (i:=2);have y3:=d.free (i:=3);have ao:=U d;have A:=U q;clear d q))
    refine cP (fZ rfl _ _ (z<|G a) ⟨xk,xv,xd,xb⟩ _ _ rfl<|ao.put ⟨xk,xv,xd,xb⟩) rfl ?_;have F:I t.F a w3:=((I.aR (S:=t.F) l).trans au<|λx o=>.inl o).trans (I.aR (S:=t.F) A)<|λx o=>.inl o;have D:=jc w3 (z<|G a) ⟨xk,xv,xd,xb⟩;have av:=t.AX ad (I.aR (S:=az) A) cO;refine⟨rfl,t.AX av D (λbd hx=>by subst hx;exact L _ w),F.trans D<|λbd hx=>.inr<|by omega⟩
 (have d:x=y ks:=by have:=o.le;omega);have e:=h.yN o (λa=>absurd a Q) bt;rw[e];(have e1:((x:Z)==(y ks:Z))=bU:=by simp;omega);subst d;have HL:=U j;clear h X o hD hF T s n j e Q;(go_in);(go_wp2_with(go_at_call 332;refine V.mono ?_;rintro bc k⟨rfl,c,b⟩;have n:=K k c;obtain⟨z0,z1,z2,z3⟩:=b.cells;have y0:=b.free (i:=0);have y1:=b.free (i:=1);have y2:=b.free (i:=2);have y3:=b.free (i:=3);have p:=U b;have l:=U c;clear b c));refine cP (fZ rfl _ _ (z<|G a) zE _ _ rfl<|p.put zE) rfl ?_;have C:Below (z<|G a) a (wW k (z<|G a) zE):=l.trans ((jc k (z<|G a) zE).below l.size<|λbd hx=>by omega);exact⟨rfl,t.up<|al _ C,I.aR C⟩
def AY:iY:=⟨λ_=>True,λ_=>False,λ_ _ _=>trivial,λ_ h=>h.elim,λ_=>True,id,λ_ _ _=>trivial⟩
section
open Shelf
attribute [local go_sem] Oper.semAt_some
def zA(v:aa)(n c:M):aa:=match v with
 | .slice (H ⟨d,a,none⟩) _ b=>.slice (H ⟨d,a+n*4,none⟩) c<|b-n
 |v=>v
def GP(v:aa)(p:M×cJ):Array aa:=#[zA v p.1<|y p.2]
def AZ{o p g s:cJ}(r:kr a d o)(f:o=p++g++s)(i:g≠[]):kr a (zA d (y p)<|y g) g:=by
 have k:0<y g:=gJ.2 i;obtain⟨u,⟨rfl,t⟩|⟨q,b,c,rfl,n,h⟩⟩:=r;have:=bX y f;grind;have m:=bX y f;simp at m;refine⟨by rw[fP],.inr ⟨q,b+y p*4,c-y p,rfl,by omega,λj v l=>?_⟩⟩;have e:j<y g*4:=by rw[<-fP];grind
 have:=h (y p*4+j) v (by rw[f,fQ,fQ,bD,fU (by rw[fP];omega),fP,show y p*4+j-y p*4=j by omega,iE (by rw[fP];exact e)];exact l);rw[aV];exact this
def AP(v:aa)(x:Option Addr)(n c:M)(a:v=J x n c)(w:Y):cD bz 91 #[v] w λe b=>e=aL (.func (.func 153) #[] #[fj<|H ⟨z<|G w,0,none⟩])/\b=cF w (ar #[v] 97):=by
 subst a;go_in
 go_wp2;go_ret;simp_all
def To(r:b<=c)(s:c<y e)(A:∀j(u:j+1<y e),b<=j->j<c->e[j+1].key=e[j].key)(w:∀B:c+1<y e,e[c+1].key≠e[c].key):∃i,e.drop b=i++e.drop (c+1)/\i≠[]/\y i=c+1-b/\ic (e.drop b)=i::ic (e.drop<|c+1):=by
 have p:e.drop b=(e.drop b).take (c+1-b)++e.drop (c+1):=by(conv=>lhs;rw[<-bN (c+1-b) (e.drop b)]);rw[List.drop_drop,show b+(c+1-b)=c+1 by omega]
 have v:∀t(d:t<=c)(a:b<=t),(e[t]'(by omega)).key=(e[b]'(by omega)).key:=by
  intro t;induction t with
  |zero=>grind
  |succ t g=>
   grind
 have d:y ((e.drop b).take<|c+1-b)=c+1-b:=by simp;omega
 have f:(e.drop b).take (c+1-b)≠[]:=λa=>by rw[a]at d;grind
 have a:∀x∈(e.drop b).take (c+1-b),x.key=(e[b]'(by omega)).key:=by grind[getElem_of_mem]
 refine⟨_,p,f,d,?_⟩;conv=>lhs;rw[p]
 rw[MR _ _ ?_,Wb f<|λx n h o=>(a x n).trans (a h o).symm];rfl;intro q k t m;have l:=a q<|List.mem_of_getLast? k;(have g:c+1<y e:=by grind);rw[aZ g]at m;grind
def ww(n0 bx:M)(hb:ep a b d 97)(hr:kr a d e)(u:∀w,ct d=H w->w<n0)(bk:n0<=z (G a))(bu:y e<=1000000000):IV (GP d) AY n0 bx 153 #[fj<|H ⟨b,0,none⟩] (nU 0<|ic e) (λw=>w=b) a:=by
 intro lr bv Jx bo bl hs hD hJ W o ad hY;obtain⟨bT,Q,hv⟩:=bM hr;obtain⟨HB,HR,av,HS,HJ,bc,HY,ba,O⟩:=xU hb hr u hs hJ W hY o<|λc bo bl q(h:bv c bo bl)=>ad c bo bl (bl.drewN q) (λ_=>False) h (I.aR<|below_drewN (Below.refl _ bl) q) cO;have bq:aO bl ⟨b,0,none⟩=H d:=hs.cell (.inl rfl) hb.cell;clear hb hr u hs hJ W o ad hY hD;subst hv;refine ru func153 rfl trivial ?_ rfl;simp only[ntmps153,eU,aS,dH,Nat.reduceAdd,Nat.reduceSub,dR,dQ,eV,eD,cU,cL];gi_wp2;gi_loopw [3,7] (λf d wr=>∃(l i:M)(c:cw (M×cJ))(x:fA),f=ap l/\d=ap i/\l<=i/\i<=y e/\nU 0 (ic e)=c++nU l (ic<|e.drop l)/\(∀j(F:j<y e),l<=j->j<i->∃h:j+1<y e,e[j+1].key=e[j].key)/\bv c x wr/\(∀w,w=b->¬x w)/\jF AY n0 (λw=>w=b) a wr) (λ_ d _=>y e-(intOf d).toNat)
 case atStart=>exact⟨0,0,[],bo,rfl,rfl,ai _,bj _,rfl,λj _ _ h=>by omega,HJ,bc,HS⟩
 case round=>
  obtain⟨l,i,c,x,rfl,rfl,bg,bs,hl,t,C,m,f⟩:=hrel;have br:aO wr ⟨b,0,none⟩=H (J bT (y e) Q):=f.cell (.inl rfl) HB.cell;obtain⟨HL,L,r,P⟩:=gH hl t C f;have k:=U m;by_cases o:i<y e
  .obtain⟨bm,g,A,hx,ac,n⟩:∃bm g A,J bT (y e) Q=J (H ⟨bm,g,none⟩) (y e) A/\y e<=A/\∀j u,(aF e)[j]?=H u->aO wr ⟨bm,g+j,none⟩=H u:=by
    obtain⟨S,⟨B,E⟩|⟨ao,v,s,B,ac,D⟩⟩:=ae HR
    .omega
    .exact⟨ao,v,s,B,ac,λj u F=>f.cell (.inr ⟨av ao (by rw[B];rfl),id⟩)<|D j u F⟩
   cases hx;have e1:(i:Z)<(y e:Z):=by omega
   have e2:(0:Z)<=(i:Z):=by omega
   have g0:=n _ _ (eE e i o).1;clear hl t C f m;by_cases hn:∃h:i+1<y e,e[i+1].key=e[i].key
   .obtain⟨p,s⟩:=hn;have g1:=n _ _ (eE e (i+1) p).1;rw[s]at g1;have v:=U (show∀j(F:j<y e),l<=j->j<i+1->∃h:j+1<y e,e[j+1].key=e[j].key fromλj F S B=>by
     rcases mV (show j<=i by omega)with al|al
     .exact L j F S al
     grind)
    clear n s;generalize e[i].key=D at*;have e3:(i:Z)+1<(y e:Z):=by omega
    have e4:(0:Z)<=(i:Z)+1:=by omega
    gi_wp2;refine sy.2 ?_;go_quiet(fail)
    gi_wp2;go_roundw;case rel=>exact⟨l,i+1,c,x,rfl,by go_num,by omega,by omega,HL,v,O _ _ _ _ r,k,P.trans ⟨ai _,λ_ _=>rfl⟩⟩
    case measure=>simp[intOf];omega
   .obtain⟨ao,bh,bi,D,E⟩:=To bg o (λj F S B=>(L j (by omega) S B).2)<|λh Q=>hn ⟨h,Q⟩;have v:(c++[(l,ao)])<+:nU 0 (ic e):=⟨nU (l+y ao)<|ic<|e.drop<|i+1,by rw[ae HL,E,nU];simp⟩;have X:nU 0 (ic e)=(c++[(l,ao)])++nU (i+1) (ic<|e.drop<|i+1):=by rw[ae HL,E,nU,D,show l+(i+1-l)=i+1 by omega];simp
    have N:=U v;have ax:=U X;have e6:(l:Z)<=(i:Z)+1:=by omega
    have e7:(i:Z)+1<=(Q:Z):=by omega
    have e8:¬(Q-l=0):=by omega
    have e9:(0:Z)<=(l:Z):=by omega
    have e4:(0:Z)<=(i:Z)+1:=by omega
    have bf:=U (λq=>show YieldAt Fence.wide (bx-1) bz lr #[J (H ⟨bm,g+l*4,none⟩) (i+1-l)<|Q-l] (wr.drewN q) _ from by
     have:=HY c (l,ao) x (wr.drewN q) N (O _ _ _ q r) trivial;unfold GP zA at this;simp only[D]at this;exact this)
    clear bh bi D E v X;rcases gU (i+1) (y e)with p|p;case' inl=>
     have g1:=n _ _ (eE e (i+1) p).1;have bp:=Jg<|λQ=>hn ⟨p,Q⟩;have e3:(i:Z)+1<(y e:Z):=by omega
    case' inr=>
     have e3:((i:Z)+1<(y e:Z))=False:=by simp;omega
    all_goals
     clear n hn;gi_wp2;refine sy.2 ?_;go_quiet(fail)
     obtain⟨fn,bn,an,body,hy,hR⟩:=bf nq;have bb:=U hR;clear hR;gi_wp2;refine⟨(λQ=>(by cases Q)),bb.mono ?_⟩;rintro ca W3(⟨rfl,_,B3,V,s,T⟩|⟨rfl,hx⟩)
     .have au:=U V;have bd:=U s;have aq:=U T;clear V s T;gi_wp2;go_roundw;case rel=>
       have s:=ae bd;have f:=ae P;have bt:b<z (G wr):=ag (am HB) f.1;refine⟨i+1,i+1,c++[(l,ao)],B3,by go_num,by go_num,ai _,by omega,ax,λj _ S B=>by omega,au,λw K al=>?_,?_⟩
       .rcases aq w al with al|al
        .exact k w K al
        .subst K;exact absurd (show z (G wr)<=_ from al)<|by omega
       .refine f.trans<|jF.trans (b:=wr.drewN nq) ⟨ai _,λ_ _=>rfl⟩ ?_;exact s.same (aC bk f.1) (λw K=>⟨by simp_all,k w K⟩) (λw K a=>by have:=(ba _ _ _ r w K).1;omega)
      case measure=>simp[intOf];omega
     .have HX:=U hx;clear hx;gi_wp2;refine cP (iT rfl _ _ _) rfl ?_;exact⟨⟨_,rfl⟩,.inr ⟨_,HX⟩⟩
  .have p:i=y e:=by omega
   have g:l=y e:=by
    rcases gU l (y e)with al|al
    .obtain⟨h,_⟩:=t (y e-1) (by omega) (by omega) (by omega);omega
    .omega
   have n:=U (show nU 0 (ic e)=c by rw[hl,g,gh];simp[ic,nU]);have e1:((i:Z)<(y e:Z))=False:=by simp;omega
   clear hl t C f m p g;gi_wp2;refine vL (iT rfl _ _ _) rfl ?_;first|refine⟨⟨_,rfl⟩,.inl ⟨⟨x,?_⟩,trivial⟩⟩|refine⟨⟨_,rfl⟩,.inl ⟨x,?_,trivial⟩⟩
   rw[ae n];exact r
end
section
open Shelf
attribute [local go_sem] Oper.semAt_some
def Tx(w:Array aa)(e:eO)(q:Z->Bool)(B:Enters bz b)(u:Row a 1 d (y e) (e.map<|Value.int .u64))(D:∀E,ct d=H E->E<z (G a))(hn:y e<=1000000000)(C:∀F∈e,∀W,Below (z<|G a) a W->cD bz b (#[aJ F]++w) W λx O=>x=aL (aK<|q F)/\Below (z<|G W) W O):cD bz 154 #[d,.func (.func b) #[] w] a λx w'=>(∃E:Z,x=aL (ap E)/\decide (0<=E)=e.any q)/\Below (z<|G a) a w':=by
 have eg:∀c a,(callFunc b c).run bz a=.ok (.enter b c) a:=B;obtain⟨ad,al,t⟩:=bM u;obtain⟨L,N,K⟩:=dA u D C;clear B u D C;subst t;go_in
 go_wp2;go_loopw [8] (λi wr=>∃n:M,n<=y e/\i=ap n/\Below (z<|G a) a wr/\(e.take n).any q=aY) (λi _=>y e-(intOf i).toNat)
 case atStart=>exact⟨0,bj _,rfl,Below.refl _ _,rfl⟩
 case round=>
  obtain⟨n,ac,rfl,f,k⟩:=hrel;have o:=U f;by_cases j:n<y e
  .obtain⟨P,g,hx,V⟩:∃P g,ad=H (R P g)/\aO wr (R P<|g+n)=H (aJ e[n]):=by
    obtain⟨h1,⟨A,h0⟩|⟨S,l,v,A,X,T⟩⟩:=ae L
    .omega
    .cases A;exact⟨S,l,rfl,(f.cell (p:=(R S<|l+n))<|N S rfl).trans<|T n _<|by simp[j]⟩
   subst hx;have c:=K e[n] (ak j) wr f;have Q:(n:Z)<(y e:Z):=by omega
   have e2:(0:Z)<=(n:Z):=by omega
   have p:(e.take<|n+1).any q=q e[n]:=by rw[ah j,List.any_append,k];simp
   have s:=U p;have r:=U<|ak j;clear f k p;generalize e[n]=F at*;cases hp:q F with
   |true=>
    rw[hp]at c;have l:=U<|show e.any q=bU from oa.2 ⟨F,r,hp⟩;clear hp;go_wp2_with(go_at_fn b;refine c.mono ?_;rintro x w1⟨rfl,i⟩;have m:=U i;clear i)
    go_ret;exact⟨⟨n,rfl,by rw[ae l];simp⟩,o.trans<|m.mono o.size⟩
   |false=>
    rw[hp]at c;have l:=U<|s.trans hp;clear hp;go_wp2_with(go_at_fn b;refine c.mono ?_;rintro x w1⟨rfl,i⟩;have m:=U i;clear i)
    go_roundw;case rel=>exact⟨n+1,j,by go_num,o.trans<|m.mono o.size,l⟩
    case measure=>simp[intOf];omega
  .have c:n=y e:=by omega
   have g:=U (show e.any q=aY by rw[<-k,c,aX]);have Q:((n:Z)<(y e:Z))=False:=by simp;omega
   clear f k c;go_wp2;go_ret;exact⟨⟨-1,rfl,by rw[ae g];simp⟩,o⟩
def Kn(e:Array aa)(c:eO)(t:Z->Bool)(j:Enters bz b)(g:Row a 1 d (y c) (c.map<|Value.int .u64))(m:∀s,ct d=H s->s<z (G a))(r:y c<=1000000000)(k:∀v∈c,∀W,Below (z<|G a) a W->cD bz b (#[aJ v]++e) W λn q=>n=aL (aK<|t v)/\Below (z<|G W) W q):cD bz 93 #[d,.func (.func b) #[] e] a λn u=>n=aL (aK<|c.any t)/\Below (z<|G a) a u:=by
 have h:=Tx e c t j g m r k;obtain⟨A,x,f⟩:=bM g;clear j g m k;subst f;go_in
 go_wp2_with(go_at_call 154;refine h.mono ?_;rintro n w⟨⟨s,rfl,l⟩,i⟩;have p:=U l;have o:=U i;clear l i)
 go_ret;rw[<-ae p];exact⟨rfl,o⟩
def Ml(i:M)(r:Z)(O:i<y e)(N:0<i)(P:y e<=1000000000)(n:ii a b e[i])(o:ep a c d 97)(w:kr a d e)(l:ep a g (ap i) 3):cD bz 92 #[aJ r,ay b,ay c,ay g] a λD A=>D=aL (aK<|decide (e[i].bP<=r)&&decide (r<(e[i-1]'(by omega)).bP))/\A=a:=by
 obtain⟨_,_,_,Q⟩:=n.cells;have c1:=o.cell;have c2:=l.cell;obtain⟨p,x⟩:∃p,i=p+1:=⟨i-1,by omega⟩;subst x;obtain⟨v,⟨rfl,u⟩|⟨C,f,s,rfl,j,m⟩⟩:=w;omega;have k:p<y e:=by omega
 have L:aO a (R C<|f+p*4+3)=H (aJ e[p].bP):=by rw[aV];exact m _ _ (eE e p k).2.2.2
 have E:(0:Z)<=(p:Z):=by omega
 have F:(p:Z)<(y e:Z):=by omega
 have K:IntKind.i64.wrap (p:Z)=(p:Z):=by rw[bw];omega
 have t:wrap64 (p:Z)=(p:Z):=by unfold wrap64;omega
 simp only[Nat.add_sub_cancel];generalize e[p].bP=S at*;generalize e[p+1].bP=B at*;clear n o l m v j;by_cases q:B<=r;(.simp only[q,mQ,Bool.true_and];(go_in);go_wp2;go_ret;simp_all);simp only[q,zZ,xu];(go_in);go_wp2;go_ret;simp_all
structure rS(W0:Y)(S:fA)(bl:M)(lst:cJ)(B:fA)(W:Y):Prop where
 row:∃v,ep W bl v 97/\W.ownsRow (z<|G W0) 180 4 v (y lst) (aF lst)/\∀k,B k↔k=bl\/ct v=H k
 aw:I (λk=>k=bl\/S k) W0 W
def rS.lt{S B:fA}(j:rS a S c e B C){n0:M}(m:n0<=c)(n:n0<=z (G a)):∀k,B k->n0<=k/\k<z (G C):=by
 intro k h;obtain⟨v,l,d,g⟩:=j.row;rcases(g k).1 h with i|i;grind
 have:=d.lt k i;grind
def rS.stays{B T:fA}(m:rS a X b e B f)(h:I T f C)(d:∀k,T k->¬B k/\(X k\/z (G a)<=k)):rS a X b e B C:=by
 obtain⟨v,i,l,c⟩:=m.row;exact⟨⟨v,(h.block _ (am i)<|λj=>(d _ j).1<|(c _).2<|.inl rfl).trans i,h.own l<|λk g j=>(d k j).1<|(c k).2<|.inr g,c⟩,m.aw.trans h<|λk g=>(d k g).2.imp_left .inr⟩
def rS.more{e:Y}{B:fA}{c xs:cJ}(K:rS a X b c B f)(o:b<z (G a))(E:ep f b d 97)(A:I az f C)(w:eL C e d u)(h:e.ownsRow (z<|G a) 180 4 u (y c+y xs) (aF c++aF xs)):∃s,rS a X b (c++xs) s (cA e (R b 0) u)/\I B f (cA e (R b 0) u)/\(∀k,s k->B k\/z (G f)<=k):=by
 obtain⟨l,n,D,t⟩:=K.row;obtain rfl:l=d:=by have F:=n.symm.trans E;simpa using F
 have v:I (λk=>ct l=H k) f e:=(A.mono cO).trans (I.dJ (S:=λk=>ct l=H k) w.grown<|λk g=>.inl g)<|λk g=>.inl g;have q:∀k,k<z (G a)->¬ct l=H k:=λk g m=>by have:=(D.lt k m).1;omega
 have r:ep e b l 97:=(v.block _ (am n)<|q _ o).trans n;have j:I B f (cA e (R b 0) u):=(v.mono (T:=B)<|λk g=>.inl<|(t k).2<|.inr g).setCell _ _ _<|.inl<|(t _).2<|.inl rfl;refine⟨λk=>k=b\/ct u=H k,⟨⟨u,r.set _,?_,λk=>rA⟩,?_⟩,j,?_⟩;rw[af,fQ];exact h.kept (de e _ _ _) (by right;intro m;have:=(h.lt _ m).1;omega);refine K.aw.trans j<|λk g=>?_;grind
 rintro k(m|m);(grind);rcases w.ur with F|⟨N,F,L⟩;(grind);rw[F]at m;cases m;have:=A.size;grind
end
section
open Shelf
attribute [local go_sem] Oper.semAt_some
theorem er{c base' l e n:M}(r:a.ownsRow c l e d n x)(k:base'<=c):a.ownsRow base' l e d n x:=by
 obtain⟨j,h⟩:=r;refine⟨j,?_⟩;rcases h with h|⟨q,g,i,m,b,o,p⟩;exact .inl h;exact .inr ⟨q,g,i,m,aC k b,o,p⟩
def Mn(a:eO)(l:cJ):y (dI a l)<=y l:=(js a l).length_le
def kr.aw{S:fA}{w w':Y}(h:kr w d e)(a:I S w w')(c:∀k,ct d=H k->¬S k/\k<z (G w)):kr w' d e:=a.row h c
def kr.some(h:kr a d e)(l:0<y e):∃g b c,d=bB g b (y e) c/\y e<=c:=by
 obtain⟨j,⟨rfl,i⟩|⟨g,b,c,rfl,f,k⟩⟩:=h;omega;grind
def wk(c:eO)(h:kr a d e)(hs:dM e)(hl:y e<=1000000)(hm:Row a 1 u (y c) (c.map<|Value.int .u64))(fr:y c<=1000)(hv:∀k,ct d=H k->k<z (G a))(co:∀k,ct u=H k->k<z (G a)):cD bz 58 #[d,u] a λcT w'=>∃v',cT=aL v'/\w'.ownsRow (z<|G a) 180 4 v' (y<|dI c e) (aF<|dI c e)/\I az a w':=by
 obtain⟨i0,cm,cx,cB,cE⟩:=cH oh;obtain⟨es,N,cv⟩:=bM h;obtain⟨mx,mc,cp⟩:=bM hm;have ed:=AP d es (y e) N cv;obtain⟨HH,HM,HV,ad⟩:=gH h hm hv co;clear h hm hv co;subst cp;subst cv;refine(dh (n:=3)).1 ?_;refine callsIn_of_wp_marks func58 rfl trivial ?_ rfl;simp only[ntmps58,eU,aS,dH,Nat.reduceAdd,Nat.reduceSub,dR,dQ,eV,eD,cU,cL];gi_wp2_with(refine⟨trivial,?_⟩;gi_at_call 91;refine(dh.2<|ed _).mono ?_;rintro cT w1⟨rfl,rfl⟩)
 obtain⟨p,F⟩:∃p,(cF (cF (cF a<|ar #[J mx (y c) mc] 131)<|ar #[aD] 97)<|ar #[J es (y e) N] 97)=p:=⟨_,rfl⟩;have fs:z (G p)=z (G a)+3:=by rw[<-F];simp
 have bs:I az a p:=by rw[<-F];exact((cK az a).alloc _).alloc _
 have dT:ep p (z<|G a) (J mx (y c) mc) 131:=by rw[<-F];grind[ep.alloc,aB]
 have ea:ep p (z (G a)+1) aD 97:=by rw[<-F];exact ep.alloc (aB _<|by simp) _
 have eb:ep p (z (G a)+2) (J es (y e) N) 97:=by rw[<-F];exact aB _<|by simp
 have bk:kr p (J es (y e) N) e:=HH.aw bs<|λk b=>⟨id,HV k b⟩;have hA0:rS p (λk=>k=z (G a)+2) (z (G a)+1) (dI c<|ig []) (λk=>k=z (G a)+1) p:=⟨⟨_,ea,bK _ _ _ _,λk=>by simp[ct]⟩,I.refl _ _⟩;rw[F];refine nQ (m:=3) (arg:=GP<|J es (y e) N) (V:=AY) (n0:=z<|G a) (gf:=153) (lb:=#[ay<|z (G a)+2]) (l:=nU 0<|ic e) (S:=λk=>k=z (G a)+2) ?geval (enters_of func153 (by kernel_rfl) rfl) (λ_=>rfl) (ww (z<|G a) 2 eb bk HV (by omega)<|by omega) trivial (by omega) (λk b=>by omega) (λf bx bv=>rS p (λk=>k=z (G a)+2) (z (G a)+1) (dI c<|ig f) bx bv) (λ_ _ _ _=>False) (λk=>k=z (G a)+1) hA0 (λk b N=>by omega) ?lt ?st (λ_ _ _ _ _ _ h=>h.elim) ?body ?done ?stop;case geval=>rfl
 case lt=>exactλf bx bv O=>O.lt (by omega)<|by omega
 (case st=>intro f bx bv i T O ht g;refine O.stays ht<|λk b=>⟨(g k b).1,?_⟩;rcases(g k b).2 with N|N|N;exact .inl N;exact N.elim;grind);(case stop=>grind)
 case body=>
  rintro lr f⟨db,r⟩bx bv fq dn eo W O _;obtain⟨hn,fz,b⟩:=JT hs W;have fd:0<y r:=gJ.2 b.ne;have fn:db+y r+y fz=y e:=by rw[b.all,hn];simp;omega
  obtain⟨dc,E,ez,hx,fl⟩:=bk.some (by omega);cases hx;have an:=AZ bk b.all b.ne;rw[<-hn]at an;unfold GP;unfold zA at an|-;simp only at an|-;have ce:∀k,bx k->k<z (G bv):=λk b=>(O.lt (n0:=z<|G a) (by omega) (by omega) k b).2;obtain⟨HA,HK,HP,HN⟩:=gH O b W hn;clear O W b hn;gi_wp2;refine⟨(cK _ _),λW2 cs=>?_⟩;have br:I (λk=>k=lr) bv W2:=(cK (λk=>k=lr) bv).trans cs<|λk b=>.inl b;have hA2:=HA.stays br (λk b=>by grind);have bn:ep W2 (z<|G bv) (bB dc (E+db*4) (y r)<|N-db) 97:=(cs.block _ (by simp)<|by omega).trans<|aB _ rfl;have em:=bn.cell;have eA:=br.size;have dx:z (G bv)<z (G W2):=am bn;have eF:dc<z (G a):=HV dc rfl;gi_wp2;gi_loopw [15] (λb wr=>∃(n:M)(B1:fA),b=ap n/\n<=y r/\rS p (λk=>k=z (G a)+2) (z (G a)+1) (dI c (ig f)++dI c (r.take n)) B1 wr/\I bx W2 wr/\(∀k,B1 k->bx k\/z (G W2)<=k)) (λb _=>y r-(intOf b).toNat)
  case atStart=>exact⟨0,bx,rfl,bj _,by simpa[dI,lY]using hA2,I.refl _ _,λk b=>.inl b⟩
  case round=>
   obtain⟨n,B1,rfl,fe,hA1,l,P⟩:=hrel;by_cases B:n<y r
   .have ao:kr wr (bB dc (E+db*4) (y r)<|N-db) r:=an.aw hA1.aw<|λk b=>(show dc=k by simpa[ct]using b)▸⟨λq=>by rcases q with q|q<;>omega,by omega⟩;have bm:ep wr (z<|G a) (J mx (y c) mc) 131:=(hA1.aw.block _ (by omega)<|by omega).trans dT;have cq:Row wr 1 (J mx (y c) mc) (y c) (c.map<|Value.int .u64):=hA1.aw.row (bs.row HM<|λk b=>⟨id,ad k b⟩) (λk b=>by have:=ad k b;grind);have Q:ep wr (z<|G bv) (bB dc (E+db*4) (y r)<|N-db) 97:=(l.block _ dx (λq=>by have:=ce _ q;omega)).trans bn;obtain⟨lv,o,s,au⟩:=hA1.row;obtain⟨ex,ec,bp⟩:=aA s;have bo:=o.cell;have cn:=o.free;have ax:=bm.cell;have ba:=Q.cell;obtain⟨ds,⟨ch,dv⟩|⟨b',eq,ek,ch,dv,j⟩⟩:=id ao
    .omega
    cases ch;have T:=eE r n B;have g0:=j _ _ T.1;have g1:=j _ _ T.2.1;have g2:=j _ _ T.2.2.1;have g3:=j _ _ T.2.2.2;simp only[<-aV]at g1 g2 g3;have e1:(n:Z)<(y r:Z):=by omega
    have e2:(0:Z)<=(n:Z):=by omega
    have eB:=am bm;have ef:=am o;have cu:=am Q;have cl:dc<z (G wr):=dj _ _ g0;have en:y (dI c (ig f)++dI c (r.take n))+1<=2000000:=by
     have q1:=Mn c<|ig f;have q2:=Mn c<|r.take n;have q3:y (ig f)=db:=HN.symm;have w:=ou n r;rw[af];omega
    have bq:=SO (ms:=c) HK.same B;have L:=U (show∀(v t:Y)v5,I az wr v->eL v t lv v5->t.ownsRow (z<|G p) 180 4 v5 (y (dI c (ig f)++dI c (r.take n))+1) (aF (dI c (ig f)++dI c (r.take n))++aF [r[n]])->wanted c r n B=bU->∃B1,rS p (λk=>k=z (G a)+2) (z (G a)+1) (dI c (ig f)++dI c (r.take<|n+1)) B1 (cA t (R (z (G a)+1) 0) v5)/\I bx W2 (cA t (R (z (G a)+1) 0) v5)/\(∀k,B1 k->bx k\/z (G W2)<=k)fromλv t v5 ht A x m=>by
     obtain⟨w,q1,q2,q3⟩:=hA1.more (xs:=[r[n]]) (by omega) o ht A x;rw[bq,dz m,<-bD];refine⟨w,q1,l.trans q2 P,λk b=>?_⟩;grind[Nat.le_trans,I.size])
    have bf:=U (show∀(v:Y),I az wr v->wanted c r n B=aY->rS p (λk=>k=z (G a)+2) (z (G a)+1) (dI c (ig f)++dI c (r.take<|n+1)) B1 v/\I bx W2 v fromλv ht m=>by
     rw[bq,dr (by simp[m]),ee];exact⟨hA1.stays ht cO,l.cr ht⟩)
    obtain⟨bT,cc,bb,ev,dm,bc,K,et,eu⟩:=xU hA1 l P ao cq o s Q j;clear hA1 l P cq o s au bm j T ds bq;generalize el:dI c (ig f)++dI c (r.take n)=g at*;subst bp;have dd:=U (show 0<n->∀a d:Y,I az wr a->Below (z<|G a) a d->ep a (z<|G wr) (ap n) 3->ii a (z (G wr)+1) r[n]->∀cM,cD bz 92 (#[aJ cM]++#[ay<|z (G wr)+1,ay<|z<|G bv,ay<|z<|G wr]) d λcT c=>cT=aL (aK<|decide (r[n].bP<=cM)&&decide (cM<(r[n-1]'(by omega)).bP))/\Below (z<|G d) d c fromλh0 a d x w q1 q2 cM=>by
     apply(Ml n cM B h0 (by omega) (q2.below w (am q2)) ((w.block _ (ag cu x.size)).trans ((x.block _ cu id).trans Q)) ((ao.aw x (λk b=>⟨id,(show dc=k by simpa[ct]using b)▸cl⟩)).below w (λk b=>(show dc=k by simpa[ct]using b)▸ag cl x.size)) ((w.block _ (am q1)).trans q1)).mono;grind[Below.refl])
    clear ao Q;have cd:=U<|show wanted c r n B=(decide (n=0)||c.any (λcM=>decide (r[n].bP<=cM)&&decide (cM<(r[n-1]'(by omega)).bP)))from rfl;generalize fb:r[n]=ej at*;obtain⟨yk,yv,yd,X⟩:=ej;simp only at g0 g1 g2 g3;rcases gB n with h0|h0
    .subst h0;simp only[Aa,jn]at g0 g1 g2 g3;have i:I az wr (cF (cF wr<|ar #[ap 0] 3)<|ar #[aj yk,aj yv,aK yd,aJ X] 180):=(cK _ _).alloc _;have w:=U<|i.own K<|λ_ _ N=>N;have ac:=U (show∀t:Y,(cF (cF (cF wr<|ar #[ap 0] 3)<|ar #[aj yk,aj yv,aK yd,aJ X] 180)<|ar #[aj yk,aj yv,aK yd,aJ X] 180).grownBy t (ct<|J ex (y g) ec)->aO t (R (z (G a)+1) 0)=H (J ex (y g) ec)/\t.frozen? (R (z (G a)+1) 0)=aY fromλt hg=>by
      have A:ep t (z (G a)+1) (J ex (y g) ec) 97:=(hg.block _ (by have:=am bc;simp;omega) (λcT=>by have:=(K.lt _ cT.symm).1;omega)).trans (ep.alloc (ep.alloc (ep.alloc bc _) _) _);exact⟨A.cell,A.free⟩)
     have al:=U i;clear i;gi_wp2_with fail
     refine⟨trivial,?_⟩;gi_wp2_with(first
      |(gi_at_builtin;refine dV _ rfl (.tmp 28) (.tmp 30) 97 rfl (z (G p)) 180 i0 xe 4 48 underlying97 cm cx cB cE rfl (by decide) (.slice ex (y g) ec) (y g) (aF g) rfl (aN w (.cells #[.string yk,.string yv,.bool yd,.int .u64 X] 180)) (R (z (G wr)+1+1) 0) 1 1 (aF [⟨yk,yv,yd,X⟩]) rfl (by rw[fP];rfl) (yQ ⟨yk,yv,yd,X⟩ _ (by simp)) (BQ _) (by omega) (by omega) (by simp;omega) ?_;intro v5 t C D;obtain⟨x5,c5,bt⟩:=aA C;subst bt;have x:=ac t D.grown;obtain⟨eg,ei⟩:=x;have bd:=U C;have bh:=U D;clear C D))
     refine⟨⟨1,?_⟩,by simp[intOf];omega⟩;obtain⟨B2,r1,r2,r3⟩:=L _ t _ ((al).alloc _) bh bd (by rw[ae cd];simp);grind
    .have e0:((n:Z)==0)=aY:=by simp;omega
     obtain⟨v,w⟩:∃v,cF (cF wr<|ar #[ap n] 3) (ar #[aj yk,aj yv,aK yd,aJ X] 180)=v:=⟨_,rfl⟩;have i:I az wr v:=by rw[<-w];exact(cK _ _).alloc _
     have A:=Kn #[ay<|z (G wr)+1,ay<|z<|G bv,ay<|z<|G wr] c _ (enters_of func92 (by kernel_rfl) rfl) (i.row dm<|λk b=>⟨id,by have:=ad k b;omega⟩) (λk b=>by have:=ad k b;have:=i.size;omega) (by omega)<|λcM _ d a=>dd h0 v d i a (by rw[<-w];grind[ep.alloc,aB]) (by rw[<-w];exact aB _<|by simp) cM;have bu:=ae cd;rw[show decide (n=0)=aY by simp;omega,zf]at bu;rw[<-bu]at A;have cj:ii v (z (G wr)+1) ⟨yk,yv,yd,X⟩:=by rw[<-w];exact aB _<|by simp
     have ck:ep v (z (G a)+1) (J ex (y g) ec) 97:=(i.block _ ef id).trans bc;have fv:=i.size;obtain⟨ca,ac,al,ey⟩:=gH cj ck i w;clear cj ck i bu;cases m:wanted c r n B with
     |true=>
      rw[m]at A;have bi:=U m;clear m;subst w;gi_wp2_with fail
      refine⟨trivial,(CallsIn.inRound lr<|dh.2 A).mono ?_⟩;rintro cT w4⟨rfl,x⟩;have av:=al.cr<|I.aR (S:=az) x;have j:=ca.below x<|am ca;have aq:ep w4 (z (G a)+1) (J ex (y g) ec) 97:=(x.block _<|am ac).trans ac;obtain⟨z0,z1,z2,z3⟩:=j.cells;simp only at z0 z1 z2 z3;have z4:=aq.cell;obtain⟨cb,bg,dk⟩:=dA (av.own K<|λ_ _ N=>N) av aq;have fu:=av.size;have ff:=am j;have fk:=am aq;clear av j aq x A bo cn ax ba g0 g1 g2 g3;generalize z (G wr)+1=fx at*;gi_wp2_with(first
       |(gi_at_builtin;refine dV _ rfl (.tmp 28) (.tmp 30) 97 rfl (z (G p)) 180 i0 xe 4 48 underlying97 cm cx cB cE rfl (by decide) (.slice ex (y g) ec) (y g) (aF g) rfl (aN cb (.cells #[.string yk,.string yv,.bool yd,.int .u64 X] 180)) (R (z (G w4)) 0) 1 1 (aF [⟨yk,yv,yd,X⟩]) rfl (by rw[fP];rfl) (yQ ⟨yk,yv,yd,X⟩ _ rfl) (BQ _) (by omega) (by omega) (by simp;omega) ?_;intro v5 t C D;obtain⟨x5,c5,bt⟩:=aA C;subst bt;have bl:ep t (z (G a)+1) (.slice ex (y g) ec) 97:=(D.grown.block _ (by simp;omega) (λcT=>by have:=(cb.lt _ cT.symm).1;omega)).trans (dk.alloc _);have eg:=bl.cell;have ei:=bl.free;have bd:=U C;have bh:=U D;clear C D bl))
      refine⟨⟨n+1,?_⟩,by simp[intOf];omega⟩;obtain⟨B2,r1,r2,r3⟩:=L _ t _ (bg.alloc _) bh bd bi;exact⟨B2,by go_num,by omega,r1,r2,r3⟩
     |false=>
      rw[m]at A;have bi:=U m;clear m;subst w;gi_wp2_with fail
      refine⟨trivial,(CallsIn.inRound lr<|dh.2 A).mono ?_⟩;rintro cT w4⟨rfl,x⟩;have bg:=U<|al.cr<|I.aR (S:=az) x;clear A x bo cn ax ba g0 g1 g2 g3;gi_wp2;refine⟨⟨n+1,?_⟩,by simp[intOf];omega⟩;obtain⟨r1,r2⟩:=bf _ bg bi;exact⟨B1,by go_num,by omega,r1,r2,bb⟩
   .have g:n=y r:=by omega
    have e1:((n:Z)<(y r:Z))=False:=by simp;omega
    obtain⟨bT,cc,bb⟩:=dA hA1 l P;clear hA1 l P;gi_wp2;have l:=ae cc;have hA1:=ae bT;refine⟨trivial,B1,?_,(br.mono<|λk b=>.inl<|.inr b).trans l<|λk b=>.inl<|.inl b,l.block lr (by omega) dn,λk b=>(bb k b).imp_right<|λN=>by omega⟩;show rS p _ _ (dI c<|ig<|f++[(db,r)]) B1 wr;rw[tC,(ae HK).Mq,show dI c r=dI c (r.take n)by rw[g,aX]];exact hA1
 (case done=>intro D bx bv m O j _ l;obtain⟨lv,o,s,au⟩:=O.row;rw[AU]at s;obtain⟨ex,ec,bp⟩:=aA s;have bo:=o.cell;obtain⟨HA,K,i,HK⟩:=gH O s au l;have n:=am l;clear O o s au l;subst bp;gi_wp2;have g:=gG bv D<|.deferred none;refine⟨by simp,.inl ⟨_,_,rfl,run_takeDeferred HK,?_⟩⟩;refine⟨_,gm rfl _ _ _,?_⟩;have hx:=g.own K<|λk b N=>j<|(i D).2<|.inr (by rw[<-N];exact b);refine⟨_,rfl,er hx (by omega),bs.trans (HA.aw.trans g<|λk b=>.inr<|by grind)<|λk b=>.inr (by rcases b with N|N<;>omega)⟩)
end
def TU(c:cJ)(x:E):fI (c++[x])=fI c++Ce x:=by simp[fI]
def ya(c d:cJ):fI (c++d)=fI c++fI d:=by simp[fI]
def Rf{c:cJ}(h:∀x∈c,x.Good):y (fI c)<=35*y c:=by
 induction c with
 |nil=>simp[fI]
 |cons x r d=>
  have a:=ul (h x<|by simp);have f:=d (λa b=>h a<|by simp[b]);have e:fI (x::r)=Ce x++fI r:=by simp[fI]
  rw[e,af,aS];omega
def EI(h:kr a d e)(hv:∀an,ct d=H an->an<z (G a))(hg:∀bd∈e,bd.Good)(hl:y e<=1000):cD bz 247 #[d] a λao w'=>∃v',ao=aL v'/\eP w' (z<|G a) v' (fI e)/\I az a w':=by
 obtain⟨bd,au,al⟩:=bM h;obtain⟨HH,HV,HG⟩:=dA h hv hg;clear h hv hg;subst al;go_in
 go_wp2;go_loopw [3,8] (λc b wr=>∃l:M,l<=y e/\b=ap l/\eP wr (z<|G a) c (fI<|e.take l)/\I az a wr) (λ_ b _=>y e-(intOf b).toNat)
 case atStart=>exact⟨0,bj _,rfl,by simpa[fI]using eP.nil _ _,I.refl _ _⟩
 case round=>
  obtain⟨l,hi,rfl,u,x⟩:=hrel;obtain⟨N,L,t⟩:=aA u;by_cases m:l<y e
  .have i:=HG _<|ak m;obtain⟨V,⟨A,W⟩|⟨aq,v,av,A,W,B⟩⟩:=ae HH
   .omega
   cases A;have X:aq<z (G a):=HV aq rfl;have f:∀j u,(aF e)[j]?=H u->aO wr (R aq<|v+j)=H u:=λj u a=>x.cell (B j u a) id X;have g:=eE e l m;have g0:=f _ _ g.1;have g1:=f _ _ g.2.1;have g2:=f _ _ g.2.2.1;have g3:=f _ _ g.2.2.2;simp only[<-aV]at g1 g2 g3;have ba:y (fI<|e.take l)<=35000:=by
    have:=Rf (c:=e.take l)<|λw a=>HG w<|fJ a;have:=ou l e;omega
   have Q:=U (show fI (e.take<|l+1)=fI (e.take l)++Ce e[l]by rw[ah m,TU]);have bb:=x.size;have T:=U x;have j:ct (J N (y<|fI<|e.take l) L)≠H (z<|G wr):=λao=>by rw[<-t]at ao;have:=(u.lt _ ao).2;omega
   have e1:(l:Z)<(y e:Z):=by omega
   have e2:(0:Z)<=(l:Z):=by omega
   have K:=U u;clear B g f x u V;generalize fI (e.take l)=s at*;subst t;generalize e[l]=w at*;obtain⟨q,r,p,k⟩:=w;simp only at g0 g1 g2 g3;have k1:=i.MS;have k2:=i.val;have k3:=i.b0;have k4:=i.b1;simp only at k1 k2 k3 k4;clear i;have C:eP (cF wr<|ar #[aj q,aj r,aK p,aJ k] 180) (z<|G a) (J N (y s) L) s:=aN K _;have P:=U C;clear C;go_wp2_with fail
   go_region_held3(λe=>aO e (R (z<|G wr) 0)=H (aj q)/\aO e (R (z<|G wr) 1)=H (aj r)/\aO e (R (z<|G wr) 2)=H (aK p)/\aO e (R (z<|G wr) 3)=H (aJ k)) (first|assumption|go_keep) (first
    |(go_at_call 212;refine(pG (baseqq:=z<|G a) (v:=(.slice N (y s) L)) (bs:=s) k (w:=(cF wr<|.cells #[.string q,.string r,.bool p,.int .u64 k] 180).drew) (P.of_heap rfl) (by simp;omega) (by omega) k3 k4).mono ?_;rintro ao F⟨v1,rfl,D,b⟩;have n:ct v1≠H (z<|G wr):=b.ne j (by simp);have o:aO F (R (z<|G wr) 0)=H (.string q)/\aO F (R (z<|G wr) 1)=H (.string r)/\aO F (R (z<|G wr) 2)=H (.bool p)/\aO F (R (z<|G wr) 3)=H (.int .u64 k):=⟨b.cell (by simp) j,b.cell (by simp) j,b.cell (by simp) j,b.cell (by simp) j⟩;have bc:z (G wr)<z (G F):=(by have:=b.grown.size;simp at this;omega);have O1:=U D;have W1:=U b;clear D b)
    |(go_at_call 214;refine(QO (z (G a)) v1 (s++le 8 k) ⟨q,r,p,k⟩ _ ?_ (by omega) (by simp[cC];omega) (by grind) (by grind)).mono ?_;exact O1.of_heap rfl;rintro ao O⟨v2,rfl,E,c⟩;have ax:aO O (R (z (G wr)) 0)=H (.string q)/\aO O (R (z (G wr)) 1)=H (.string r)/\aO O (R (z (G wr)) 2)=H (.bool p)/\aO O (R (z (G wr)) 3)=H (.int .u64 k):=⟨c.cell o.1 n,c.cell o.2.1 n,c.cell o.2.2.1 n,c.cell o.2.2.2 n⟩;have O2:=U E;have W2:=U (W1.trans c);clear E c))
   go_wp2;have hW:=ae W2;have ac:I az a (cF wr<|ar #[aj q,aj r,aK p,aJ k] 180):=T.alloc _;have ad:I az a (cF wr<|ar #[aj q,aj r,aK p,aJ k] 180).drew:=ac.trans (S:=az) ⟨rfl,rfl,rfl,ai _,λ_ _ _=>rfl⟩<|λ_ au=>.inl au;refine⟨⟨l+1,m,by go_num,?_,ad.trans (I.dJ (S:=λan=>ct (J N (y s) L)=H an) hW.grown<|λan hk=>.inl hk)<|λan hk=>.inr (K.lt an hk).1⟩,by simp[intOf];omega⟩;rw[ae Q];have:=ae O2;rwa[bD]at this
  .have b:l=y e:=by omega
   have e1:((l:Z)<(y e:Z))=False:=by simp;omega
   subst t;rw[b,aX]at u|-;have K:=U u;have T:=U x;clear u x;go_wp2;go_ret;exact⟨_,rfl,K,T⟩
def Py(a:0<=m)(b:m<4294967296):mN (le 4 m)=m:=by
 rw[AL 4 m a];grind
def si(b:M)(n:Z)(a:eO)(w:Y)(k:Rd w b (le 4 n++a) aY)(c:kE a)(l:y a<=140737488350000)(g:0<=n)(h:n<4294967296):cD bz 236 #[ay b] w λj f=>j=aL (dq n)/\Rd f b a aY/\w.grownBy f (H b):=by
 have d:=mY (le 4 n) a;rw[cC]at d;have e:=KU b aY w k ((kE.le 4 n).append c) (by grind[length_append,cC]);have i:num (le 4 n++a) aY 4=n:=by unfold num;rw[d];exact Py g h
 rw[d,i]at e;exact e
def AH(b:M)(n:Z)(a:eO)(w:Y)(k:Rd w b (le 8 n++a) aY)(c:kE a)(l:y a<=140737488350000)(g:0<=n)(h:n<18446744073709551616):cD bz 235 #[ay b] w λj f=>j=aL (aJ n)/\Rd f b a aY/\w.grownBy f (H b):=by
 have d:=mY (le 8 n) a;rw[cC]at d;have e:=MC k ((kE.le 8 n).append c) (by grind[length_append,cC]);have i:num (le 8 n++a) aY 8=n:=by unfold num;rw[d];exact CZ g h
 rw[d,i]at e;exact e
def YE(a:M)(n:Z)(w:Y)(k:Rd w a (n::p) aY)(b:kE p)(l:y p<=140737488350000)(g:0<=n)(h:n<256):cD bz 240 #[ay a] w λj f=>j=aL (tL n)/\Rd f a p aY/\w.grownBy f (H a):=by
 have c:=mY [n] p;simp only[aS,dH,dp,cL,cU]at c;have e:=FU k (by intro x d;rcases bH.1 d with rfl|d;exact⟨g,h⟩;exact b x d) (by grind);have i:num (n::p) aY 1=n:=by unfold num;rw[c];simp[mN]
 rw[c,i]at e;exact e
def QB(b:M)(s:ab)(w:Y)(i:Rd w b (eh s++p) aY)(c:kE p)(j:y p<=140737488350000)(k:s.size<=255):cD bz 272 #[ay b] w λh d=>h=aL (aj s)/\Rd d b p aY/\w.grownBy d (H b):=by
 have f:=(vV s p).1;have e:kE (eh s++p):=by intro x a;rcases aE.1 a with a|a;unfold eh at a;rcases bH.1 a with rfl|a;omega;exact kE.text s x a;exact c x a
 have g:=Ec i e (by simp only[af,eh,aS,hZ];omega);rw[f]at g;grind[vW]
def rB{P:Program}(w:Y)(k A B c:TypeId)(e m o b g:M)(n:Addr)(d i:M)(a:Array aa)(D:TypeId)(f:iC)(x:P.underlying k=H (.slice c))(u:(P.info? c).map (·.size)=H e)(q:w.heap[m]?=H (ar a D (0,0)))(t:y f=Nat.min d b*e)(h:∀C v,f[C]?=H v->aO w (n.add C)=H v)(l:o+y f<=a.size)(p:∀v∈f,v.oneCell'=bU):(Builtin.copy_ #[k,A] B #[bB m o b g,J (H n) d i]).run P w=.ok (goInt<|Nat.min d b) (w.setRow m (a.toList.take o++f++a.toList.drop (o+y f)).toArray):=by
 have s:=run_loadCells_list (P:=P) w n f h;have j:=run_storeCells_at P m o D f 0 a w q (by grind) p;cases hq:P.info? c with
 |none=>simp[hq]at u
 |some E=>
  have r:E.size=e:=by grind
  simp[Builtin.copy_,eG x,Builtin.lenOf,Builtin.firstCells,sizeOf,typeInfo,hq,r,<-t,s,j]
def CD(w:Y)(g:M)(a:Array aa):I (λk=>k=g) w (w.setRow g a):=⟨rfl,rfl,rfl,by simp,λk _ b=>sh w g k a b⟩
theorem Wg{a d:iC}(j:x.take (b*4)=a)(k:y a=b*4)(l:c<=b)(i:y d=4)(e:(b+1)*4<=y x):(((x.take ((c+1)*4)++a.drop (c*4)++x.drop ((c+1)*4+y (a.drop<|c*4))).take (c*4)++d++(x.take ((c+1)*4)++a.drop (c*4)++x.drop ((c+1)*4+y (a.drop<|c*4))).drop (c*4+y d)).take<|(b+1)*4)=a.take (c*4)++d++a.drop (c*4):=by
 have f:y (x.take<|(c+1)*4)=c*4+4:=by rw[dU];omega
 have g:(x.take ((c+1)*4)++a.drop (c*4)++x.drop ((c+1)*4+y (a.drop<|c*4))).take (c*4)=a.take (c*4):=by rw[bD,iJ (by omega),List.take_take,<-j,List.take_take];grind
 have h:(x.take ((c+1)*4)++a.drop (c*4)++x.drop ((c+1)*4+y (a.drop<|c*4))).drop (c*4+y d)=a.drop (c*4)++x.drop ((c+1)*4+y (a.drop<|c*4)):=by rw[bD,i,<-f,sN]
 rw[g,h,<-bD,oQ (by simp;omega)]
def Vy(l:cJ):∀u∈aF l,u.oneCell'=bU:=by
 intro u a;induction l with
 |nil=>cases a
 |cons x r b=>
  rw[show x::r=[x]++r from rfl,fQ,aE]at a;grind[BQ]
def Qo(h:kr f d e)(S:y e<=1000000000)(g:∀s,ct d=H s->s<z (G f)):cD bz 208 #[d] f λQ w=>∃v,Q=aL v/\w.ownsRow (z<|G f) 180 4 v (y e) (aF e)/\Below (z<|G f) f w:=by
 obtain⟨P,L,p,q,r⟩:=cH oh;obtain⟨t,⟨rfl,E⟩|⟨D,b,o,rfl,O,u⟩⟩:=h;(.obtain rfl:e=[]:=aP E;have K:∀f:Y,(binOp .eql 97 aD aD).run bz f=.ok (aK bU) f:=λ_=>rfl;(go_in);go_wp2;go_ret;exact⟨_,rfl,bK _ _ _ _,Below.refl _ _⟩)
 .have F:D<z (G f):=g D rfl;have x:=U u;have A:=U t;have j:(cF f<|ar #[] 180).ownsRow (z<|G f) 180 4 (bB (z<|G f) 0 0 0) 0 []:=World.ownsRow_lit f #[] 0 (ai _) (by decide) rfl;have C:=U j;have K:∀(f:Y)a n c,(binOp .eql 97 (J (H a) n c) aD).run bz f=.ok (aK aY) f:=λ_ _ _ _=>rfl;clear g j u t;go_in
  go_wp2_with(first
   |(at_builtin;refine bO _ rfl (.tmp 5) (.tmp 6) 97 rfl (z (G f)) 180 P xe 4 48 underlying97 L p q r rfl (by decide) _ 0 [] rfl C (R D b) (y e) o (aF e) rfl A (λT V N=>by rw[du,ia F];exact x T V N) (Vy e) (by omega) (by omega) (by simp) ?_;intro W X i k;have l:=U i;have m:=U k;clear i k))
  go_ret;refine⟨_,rfl,by simpa using ae l,?_⟩;have:=m.below (B:=z<|G f) (by simp) (by rintro s⟨⟩;grind);exact⟨this.os,this.tape,this.output,aC (by simp) this.size,λs b=>(this.block s b).trans<|Below.heap_alloc f _ s b⟩
def BF{P:Program}{t d e f:TypeId}(c:P.underlying t=H (.slice f))(b:P.underlying d=H (.slice f))(x a:aa)(w:Y):(Builtin.append_ #[t,d] e #[x,a]).run P w=(Builtin.append_ #[t,t] e #[x,a]).run P w:=by
 cases x<;>try(simp[Builtin.append_,eG c];done)
 cases hq:P.info? f<;>simp[Builtin.append_,eG c,eG b,sizeOf,typeInfo,hq]
def nP{P:Program}(w:Y){k:Array Oper}{e:cw Oper}{C:Oper}{E:Act}{ad:Exit->Act->Y->Prop}(p:C.guard=none)(ao aq:Operand)(ac D:TypeId)(W:C.op=.call {callee:=.builtin .append,args:=#[ao,aq],argTypes:=#[ac,D]})(a:M)(u:TypeId)(A:TypeInfo)(i:aa)(b bytes:M)(x:P.underlying ac=H (.slice u))(r:P.underlying D=H (.slice u))(T:P.info? u=H A)(hz:A.zero=H i)(h:A.size=b)(o:A.bytes=bytes)(s:i.cells.size=b)(q:0<b)(K:aa)(B:M)(t:iC)(hs:E.eval ao=K)(j:w.ownsRow a u b K B t)(n:Addr)(v al:M)(c:iC)(hx:E.eval aq=J (H n) v al)(V:y c=v*b)(g:∀an F,c[an]?=H F->aO w (n.add an)=H F)(L:∀F∈c,F.oneCell'=bU)(hn:B+v<=140737488355328)(d:(B+v)*bytes<=140737488355328)(f:a<=z (G w))(au:∀l m,m.ownsRow a u b l (B+v) (t++c)->eL w m K l->wpList P k ad e (E.put C.dst l) m):wpList P k ad (C::e) E w:=by
 obtain⟨l,m,X,N,O,_,Q⟩:=ny (P:=P) w a ac C.type u A i b bytes x T hz h o s q K B t j n v al c V g L (by unfold maxLen;omega) d f;refine kP p λav S=>?_;unfold Oper.wp;simp[execOp,W,resolve,invoke,builtin,hs,hx,BF x r,X,Result.andThen];exact S _ _<|au l m N<|eL.of O Q
def PF(o:a.ownsRow b 180 4 d c x)(r:b<=z (G a))(D:ii a g w)(S:c<=1000000000):cD bz 210 #[d,ap c,bB g 0 1 1] a λQ K=>∃A,Q=aL A/\K.ownsRow b 180 4 A (c+1) (x++aF [w])/\eL a K d A:=by
 obtain⟨v,t,l,m,n⟩:=cH oh;have B:∀C P,(aF [w])[C]?=H P->aO a (((R g 0):Addr).add C)=H P:=by intro C P s;rw[du,bL D,dp];simpa[aF,E.cells]using s
 have p:=U B;have q:=U o;clear B D;rcases o.2 with⟨rfl,rfl⟩|⟨T,k,N,rfl,_,_,O,u,_⟩;(.clear o;(go_in);(go_wp2_with(at_builtin;refine nP _ rfl (.tmp 23) (.tmp 24) 97 96 rfl b 180 v xe 4 48 underlying97 underlying96 t l m n rfl (by decide) _ 0 x rfl q (R g 0) 1 1 (aF [w]) rfl rfl p (BQ w) (by omega) (by omega) r ?_;intro F L e f;have i:=U e;have j:=U f;clear e f));go_ret;exact⟨_,rfl,by simpa using ae i,j⟩);clear o;(have C:k<=9223372036854775807:=by unfold maxLen at u;omega);by_cases s:k=c;(.subst s;(go_in);(go_wp2_with(at_builtin;refine nP _ rfl (.tmp 23) (.tmp 24) 97 96 rfl b 180 v xe 4 48 underlying97 underlying96 t l m n rfl (by decide) _ k x rfl q (R g 0) 1 1 (aF [w]) rfl rfl p (BQ w) (by omega) (by omega) r ?_;intro F L e f;have i:=U e;have j:=U f;clear e f));go_ret;exact⟨_,rfl,i,j⟩);(go_in);(go_wp2_with(at_builtin;refine nP _ rfl (.tmp 23) (.tmp 24) 97 96 rfl b 180 v xe 4 48 underlying97 underlying96 t l m n rfl (by decide) _ c x rfl q (R g 0) 1 1 (aF [w]) rfl rfl p (BQ w) (by omega) (by omega) r ?_;intro F L e f;have i:=U e;have j:=U f;clear e f));go_ret;exact⟨_,rfl,i,j⟩
section
open Shelf
attribute [local go_sem] Oper.semAt_some
def Xj(l:cJ):y (gA l)<=y l:=(kg l).length_le
def WM(h:(aF<|e.take b)[c]?=H d):(aF e)[c]?=H d:=by
 grind[fQ,take_append_drop,getElem?_append_left,List.getElem?_eq_some_iff]
def p6:aa->M
 | .slice _ n _=>n
 |_=>0
def NC(h:kr a d e)(hs:dM e)(hl:y e<=1000000)(hv:∀k,ct d=H k->k<z (G a)):cD bz 162 #[d] a λch w'=>∃v',ch=aL v'/\w'.ownsRow (z<|G a) 180 4 v' (y<|gA e) (aF<|gA e)/\I az a w':=by
 obtain⟨i0,bm,bs,bt,bu⟩:=cH oh;obtain⟨cd,v,al⟩:=bM h;have bn:=AP d cd (y e) v al;have HH:=U h;have HV:=U hv;clear h hv;subst al;refine(dh (n:=3)).1 ?_;refine callsIn_of_wp_marks func162 rfl trivial ?_ rfl;simp only[ntmps162,eU,aS,dH,Nat.reduceAdd,Nat.reduceSub,dR,dQ,eV,eD,cU,cL];gi_wp2_with(refine⟨trivial,?_⟩;gi_at_call 91;refine(dh.2<|bn _).mono ?_;rintro ch w1⟨rfl,rfl⟩)
 obtain⟨l,p⟩:∃l,(cF (cF a<|ar #[aD] 97)<|ar #[J cd (y e) v] 97)=l:=⟨_,rfl⟩;have cx:z (G l)=z (G a)+2:=by rw[<-p];simp
 have ad:I az a l:=by rw[<-p];exact(cK az a).alloc _
 have bi:ep l (z<|G a) aD 97:=by rw[<-p];grind[ep.alloc,aB]
 have bk:ep l (z (G a)+1) (J cd (y e) v) 97:=by rw[<-p];exact aB _<|by simp
 have D:kr l (J cd (y e) v) e:=HH.aw ad<|λk b=>⟨id,HV k b⟩;have hA0:rS l (λk=>k=z (G a)+1) (z<|G a) (gA<|ig []) (λk=>k=z (G a)) l:=⟨⟨_,bi,bK _ _ _ _,λk=>by simp[ct]⟩,I.refl _ _⟩;rw[p];refine nQ (m:=3) (arg:=GP<|J cd (y e) v) (V:=AY) (n0:=z<|G a) (gf:=153) (lb:=#[ay<|z (G a)+1]) (l:=nU 0<|ic e) (S:=λk=>k=z (G a)+1) ?geval (enters_of func153 (by kernel_rfl) rfl) (λ_=>rfl) (ww (z<|G a) 2 bk D HV (by omega)<|by omega) trivial (by omega) (λk b=>by omega) (λj bv bd=>rS l (λk=>k=z (G a)+1) (z<|G a) (gA<|ig j) bv bd) (λ_ _ _ _=>False) (λk=>k=z (G a)) hA0 (λk b v=>by omega) ?lt ?st (λ_ _ _ _ _ _ h=>h.elim) ?body ?done ?stop;case geval=>rfl
 case lt=>exactλj bv bd n=>n.lt (by omega)<|by omega
 (case st=>intro j bv bd o T n f c;refine n.stays f<|λk b=>⟨(c k b).1,?_⟩;rcases(c k b).2 with v|v|v;exact .inl v;exact v.elim;exact .inr v);(case stop=>grind)
 case body=>
  rintro lr j⟨ao,s⟩bv bd cs bf cb A n _;obtain⟨hn,cB,b⟩:=JT hs A;have cn:0<y s:=gJ.2 b.ne;have cq:ao+y s+y cB=y e:=by rw[b.all,hn];simp;omega
  obtain⟨aq,f,cj,hx,co⟩:=D.some (by omega);cases hx;have o:=AZ D b.all b.ne;rw[<-hn]at o;unfold GP;unfold zA at o|-;simp only at o|-;have bT:∀k,bv k->k<z (G bd):=λk b=>(n.lt (n0:=z<|G a) (by omega) (by omega) k b).2;have cm:y s<=v-ao:=by omega
  generalize v-ao=ce at*;obtain⟨HA,HK,HN⟩:=dA n b hn;clear n A b hn;gi_wp2;refine⟨I.refl _ _,λW2 x=>?_⟩;have hA2:=HA.stays x (λk b=>by grind);have cl:aq<z (G a):=HV aq rfl;have W:kr W2 (bB aq (f+ao*4) (y s) ce) s:=o.aw hA2.aw<|λk b=>(show aq=k by simpa[ct]using b)▸⟨λq=>by rcases q with q|q<;>omega,by omega⟩;obtain⟨bg,⟨Q,bh⟩|⟨b',cc,bx,Q,bh,T⟩⟩:=id W
  .omega
  cases Q;obtain⟨lv,i,g,w⟩:=hA2.row;obtain⟨ex,ec,F⟩:=aA g;have bp:=i.cell;have cp:=i.free;have bo:=am i;have ck:=x.size;obtain⟨B,au,ba,O,t⟩:=je T hA2 x i g;have an:z (G l)<=z (G W2):=hA2.aw.size;have ca:y (gA<|ig j)+y s<=1000000:=by have:=Xj<|ig j;have:=ae HN;omega
  clear T hA2 x i g w W o bg;generalize X:gA (ig j)=u at*;subst F;gi_wp2;gi_loop [4] (λa=>∃N:M,N<=y s/\a=bB aq (f+ao*4) N ce/\uY s=uY (s.take N)) (λa=>p6 a)
  case atStart=>exact⟨y s,ai _,rfl,by rw[aX]⟩
  case round=>
   obtain⟨N,hj,rfl,ac⟩:=hrel;have P:=U ac;clear ac;have c:(N=0\/∃h:N-1<y s,s[N-1].del=aY)\/∃r,∃_:r<y s,N=r+1/\s[r].del=bU:=by
    grind
   rcases c with c|⟨r,hp,rfl,hd⟩
   .have bb:=U<|Rz hj P c;have bl:(N=0\/∃r,N=r+1/\aO W2 (R aq<|f+ao*4+r*4+2)=H (aK aY)):=by
     rcases c with h|⟨h1,h2⟩
     .exact .inl h
     .cases N with
      |zero=>exact .inl rfl
      |succ r=>
       have g2:=B _ _ (eE s r<|by omega).2.2.1;rw[<-aV]at g2;grind
    have av:=U (show∀i u,(aF<|s.take N)[i]?=H u->aO W2 (((R aq<|f+ao*4):Addr).add i)=H u fromλi u a=>by rw[du];exact B _ _<|WM a);have C:=U (show y (s.take N)=N by simp;omega);clear c;have bq:=ae C;generalize s.take N=gj at*;rcases bl with rfl|⟨r,rfl,g2⟩;case' inr=>
     have e2:(0:Z)<=(r:Z):=by omega
     have e3:(r:Z)<(r:Z)+1:=by omega
     have e4:(0:Z)<(r:Z)+1:=by omega
    all_goals
     clear bq;gi_wp2_with(first
      |(gi_at_builtin;refine dV _ rfl (.tmp 25) (.tmp 26) 97 rfl (z (G l)) 180 i0 xe 4 48 underlying97 bm bs bt bu rfl (by decide) (.slice ex (y u) ec) (y u) (aF u) rfl t (R aq (f+ao*4)) _ ce (aF gj) rfl (by rw[fP,ae C]) av (Vy gj) (by omega) (by omega) an ?_;intro v5 w5 K L;obtain⟨x5,c5,br⟩:=aA K;subst br;have E:ep w5 (z (G a)) (.slice ex (y u) ec) 97:=(L.grown.block _ bo (λch=>by have:=(t.lt _ ch.symm).1;omega)).trans O;have cu:=E.cell;have cv:=E.free;have ax:=U K;have bc:=U L;clear K L E))
     obtain⟨B2,r1,r2,r3⟩:=au.more (xs:=gj) (by omega) O (I.refl _ _) bc (by rw[ae C];exact ax);refine⟨trivial,B2,?_,(ba.mono<|λk b=>.inl<|.inr b).trans r2<|λk b=>.inl<|.inl b,r2.block lr (by omega) bf,λk b=>(r3 k b).imp_right<|λv=>by omega⟩;show rS l _ _ (gA<|ig<|j++[(ao,s)]) B2 _;rw[tC,(ae HK).bare,ae bb,X];exact r1
   .have g2:=B _ _ (eE s r hp).2.2.1;rw[hd,<-aV]at g2;have C:=U<|P.trans<|RA hp hd;clear hd;have e2:(0:Z)<=(r:Z):=by omega
    have e3:(r:Z)<(r:Z)+1:=by omega
    have e4:(0:Z)<(r:Z)+1:=by omega
    have E:(r:Z)<=(ce:Z):=by omega
    gi_wp2;exact⟨⟨r,by omega,rfl,C⟩,by simp[p6]⟩
 (case done=>intro x bv bd s n o _ r;obtain⟨lv,i,g,w⟩:=n.row;rw[AU]at g;obtain⟨ex,ec,F⟩:=aA g;have bp:=i.cell;obtain⟨HA,t,f,HK⟩:=gH n g w r;have u:=am r;clear n i g w r;subst F;gi_wp2;have c:=gG bd x<|.deferred none;refine⟨by simp,.inl ⟨_,_,rfl,run_takeDeferred HK,?_⟩⟩;refine⟨_,gm rfl _ _ _,?_⟩;have hx:=c.own t<|λk b v=>o<|(f x).2<|.inr (by rw[<-v];exact b);refine⟨_,rfl,er hx (by omega),ad.trans (HA.aw.trans c<|λk b=>.inr (by subst b;omega))<|λk b=>.inr (by rcases b with v|v<;>omega)⟩)
end
section
open Shelf
def zh{P:Program}{b:Array Oper}{o:Oper}{e:Act}{K:Act->Y->Prop}{Q:Exit->Act->Y->Prop}{F:Prop}(k:o.guard=none)(p x:Operand)(g h:TypeId)(c:o.op=Op.call {callee:=Callee.builtin Builtin.copy,args:=#[p,x],argTypes:=#[g,h]})(v u:aa)(j:e.eval p=v)(n:e.eval x=u)(l:(Builtin.copy_ #[g,h] o.type #[v,u]).run P a=.ok d f)(i:K (e.put o.dst d) f):if Region.wanted o (yielded b e.tmps)=bU then Oper.wp P o e a K Q else F:=by
 have m:Region.wanted o (yielded b e.tmps)=bU:=by simp[Region.wanted,k]
 rw[dz m];unfold Oper.wp;simp[execOp,c,resolve,invoke,builtin,j,n,l,Result.andThen];exact i
def RX(w:Y):(Go.sizeOf 180).run bz w=.ok 4 w:=by kernel_rfl
def qo{w:Y}{f:TypeId}(a:w.heap[c]?=H (ar V f (0,0)))(e:V.toList.take (b*4)=x)(j:M)(u:aa)(o:M)(d:(x.drop o)[j]?=H u):aO w (R c<|o+j)=H u:=by
 rw[bL a];rw[List.getElem?_drop,<-e,oX]at d;grind
def JW(f k d n i:M)(l:Array aa)(m:iC)(L:f<=k)(Q:a.heap[k]?=H (ar l 180 (0,0)))(C:n+1<=d)(X:d<=9223372036854775807)(K:l.size=d*4)(v:l.toList.take (n*4)=m)(p:ii a b w)(s:b≠k)(hi:i<n)(hn:n<=1000000000)(h1:∀ad∈m,ad.oneCell'=bU):cD bz 210 #[bB k 0 n d,ap i,bB b 0 1 1] a λbf w'=>bf=aL (bB k 0 (n+1) d)/\w'.ownsRow f 180 4 (bB k 0 (n+1) d) (n+1) (m.take (i*4)++aF [w]++m.drop (i*4))/\I (λan=>an=k) a w':=by
 have P:y m=n*4:=by rw[<-v,dU,jy];omega
 have ac:∀lb o,(callFunc 252 #[bB b 0 1 1,bB k ((i+1)*4) lb o]).run bz a=.ok (.value<|aK aY) a:=λlb o=>by rw[eZ func252 (by kernel_rfl) (by kernel_rfl) (by kernel_rfl) (e:=Extern.SlicesOverlaps.overlaps #[96,96] #[4]) (by kernel_rfl),Lib.run_overlaps_apart a 96 4 180 underlying96 4 RX (R b 0) (R k<|(i+1)*4) 1 1 lb o s _ _ 4 (d*4) (by unfold ii at p;simp[World.shape?,p];rfl) (by simp[World.shape?,Q,K];rfl) (by omega) (by unfold ii at p;simp[World.frozen?,p]) (by unfold ii at p;simp[World.frozen?,p])];rfl
 have t:(prog.info? 180).map (·.size)=H 4:=by kernel_rfl
 have O:y (m.drop<|i*4)=(n-i)*4:=by rw[ja,P];omega
 obtain⟨c,j⟩:∃c,c=(l.toList.take ((i+1)*4)++m.drop (i*4)++l.toList.drop ((i+1)*4+y (m.drop<|i*4))):=⟨_,rfl⟩;have T:y c=d*4:=by rw[j];grind
 have D:∀x q o,(Builtin.copy_ #[97,97] x #[bB k ((i+1)*4) (n-i) q,bB k (i*4) (n+1-i) o]).run bz a.drew=.ok (goInt<|Nat.min (n+1-i)<|n-i) (a.drew.setRow k c.toArray):=λx q o=>by rw[j];refine rB a.drew _ _ x 180 4 k ((i+1)*4) _ q (R k<|i*4) _ o l _ (m.drop<|i*4) underlying97 t Q ?_ (λbg ad V=>by rw[du];exact qo Q v bg ad _ V) (by omega)<|λad hu=>h1 ad<|dK hu;rw[O];grind
 have r:(a.drew.setRow k c.toArray).heap[k]?=H (ar c.toArray 180 (0,0)):=tQ _ _ _ _ _ _ Q;obtain⟨e,g⟩:∃e,e=(c.take (i*4)++aF [w]++c.drop (i*4+y (aF [w]))):=⟨_,rfl⟩;have u:y (aF [w])=4:=rfl;have N:ii (a.drew.setRow k c.toArray) b w:=(sh a.drew k b _ s).trans p;have F:∀(W:Y),W.heap=(a.drew.setRow k c.toArray).heap->∀x q,(Builtin.copy_ #[97,96] x #[bB k (i*4) (n+1-i) q,bB b 0 1 1]).run bz W=.ok (goInt<|Nat.min 1<|n+1-i) (W.setRow k e.toArray):=λW A x q=>by rw[g];refine rB W _ _ x 180 4 k (i*4) _ q (R b 0) _ 1 c.toArray _ (aF [w]) underlying97 t (by rw[A];exact r) ?_ (λbg ad V=>?_) (by simp;omega)<|BQ w;rw[u];simp only[Nat.min_def];split<;>omega;rw[du,bL (show ii W b w by unfold ii;rw[A];exact N),dp];simpa[aF,E.cells]using V
 have bd:¬((i:Z)=(n:Z)):=by omega
 have bb:IntKind.i64.wrap ((i:Z)+1)=(i:Z)+1:=by rw[bw];omega
 have bc:IntKind.i64.wrap ((n:Z)+1)=(n:Z)+1:=by rw[bw];omega
 have ba:((i:Z)+1).toNat=i+1:=by omega
 have al:((n:Z)+1).toNat=n+1:=by omega
 have au:(0:Z)<=(i:Z)+1:=by omega
 have ax:i<=n:=by omega
 have av:(i:Z)<=(n:Z)+1:=by omega
 have ao:¬(d=i):=by omega
 have aq:¬(d=i+1):=by omega
 have S:prog.follows .mixedOrders=bU:=by kernel_rfl
 have B:=U (show∀W:Y,W.heap=(a.drew.setRow k c.toArray).heap->W.os=a.os->W.tape=a.tape->W.output=a.output->(W.setRow k e.toArray).ownsRow f 180 4 (bB k 0 (n+1) d) (n+1) (m.take (i*4)++aF [w]++m.drop (i*4))/\I (λan=>an=k) a (W.setRow k e.toArray)from by
  intro W A e1 e2 e3;refine⟨⟨by simp[u];omega,.inr ⟨k,d,e.toArray,rfl,L,tQ _ _ _ _ _ _ (by rw[A];exact r),C,X,?_,?_⟩⟩,⟨e1,e2,e3,?_,?_⟩⟩
  .rw[g];grind
  .rw[List.toList_toArray,g,j];grind[Wg]
  .rw[setRow_size,A,setRow_size];simp_all
  .intro an hk o;rw[sh _ _ _ _ o,A,sh _ _ _ _ o];rfl)
 clear T O j g u N r P h1 v K t p s L;go_in
 go_wp2_with(simp only[ac])
 go_region_law_o (refine zh rfl _ _ 97 97 rfl _ _ (by simp[Act.eval,Act.put]) (by simp[Act.eval,Act.put]) (D _ _ _) ?_)
 go_wp2_with(at_builtin;refine wpList_copy_run _ rfl _ _ 97 96 rfl _ _ rfl rfl (F _ rfl _ _) ?_)
 go_ret;exact⟨rfl,B _ rfl rfl rfl rfl⟩
end
section
open Shelf
attribute [local go_sem] Oper.semAt_some
section
variable{F:Fence}{n:M}{P:Program}(w:Y){b:Array Oper}{rest:cw Oper}{o:Oper}{a:Act}{Q:Exit->Act->Y->Prop}
theorem Dt(j:o.guard=none)(g:Operand)(t:TypeId)(c:o.op=Op.range t g)(x u:TypeId)(l:P.underlying t=H (.map x u))(h:M)(m:fM)(k:a.eval g=.map (H h))(v:jw w h m)(i:∀d,qD d h (z<|G w) m m->w.grownBy d none->z (G d)=z (G w)+1->wpListIn F n P b Q rest (a.put o.dst<|ay<|z<|G w) d):wpListIn F n P b Q (o::rest) a w:=by
 refine xg j λs f=>?_;obtain⟨d,e,p,q,r⟩:=OJ l v;unfold Oper.wpIn;refine⟨?_,?_⟩;simp[Oper.about,c];rw[Oper.semAt_plain F _ _ (by rw[c];grind)];simp[execOp,c,k,e,Result.andThen];exact f _ _<|i d p q r
theorem DV(u:o.guard=none)(k:Operand)(e:o.op=Op.next k aY)(x r:M)(A left:fM)(rk:a.eval k=ay r)(C:qD w x r A left)(h:left=[]->wpListIn F n P b Q rest (a.put o.dst<|dw #[aK aY]) w)(i:∀f p c g,left=f++p::c->qD g x r A (f++c)->w.grownBy g (H r)->z (G g)=z (G w)->(Instr.entry<|ay r).run P g=.ok (dw #[ap p.1,p.2]) g->wpListIn F n P b Q rest (a.put o.dst<|dw #[aK bU,ap p.1,p.2]) g):wpListIn F n P b Q (o::rest) a w:=by
 refine xg u λB j=>?_;unfold Oper.wpIn;refine⟨?_,?_⟩;simp[Oper.about,e];rw[Oper.semAt_plain F _ _ (by rw[e];grind)];rcases Sh (P:=P) C o.type with⟨l,d⟩|⟨f,p,c,g,v,d,m,q,s,t⟩;simp[execOp,e,rk,d,Result.andThen];exact j _ _<|h l;simp[execOp,e,rk,d,Result.andThen];exact j _ _<|i f p c g v m q s t
end
def YJ(v:Z):Array aa:=#[aJ v]
def xA(m:fM)(c:eO):Prop:=m.map (·.2)=c.map (Value.int .u64)
theorem Ja(n0 cE s an:M)(ch:fM)(V:eO)(w:Y)(hb:ep w s (.map<|H an) 103)(hm:jw w an ch)(bo:xA ch V)(cc:an<n0)(cd:n0<=z (G w)):A7 YJ AY n0 cE 157 #[ay s] (λcu=>∃cM,(cu++cM).Perm V) (λcu=>cu.Perm V) (λk=>k=s) w:=by
 intro lr cB Jx cx bq hs hD hJ bb bg bi hY;have cl:aO bq (R s 0)=H (.map<|H an):=hs.cell (.inl rfl) hb.cell;have bh:jw bq an ch:=hm.di<|hs.2 an<|.inl ⟨cc,id⟩;obtain⟨HB,HM,cb,HS,HJ,bu,HY,ad,al⟩:=xU hb bh bo hs hJ bb hY bg bi;clear hb hm bo hs hJ bb bg bi hY hD bh;refine ru func157 rfl trivial ?_ rfl;simp only[ntmps157,eU,aS,dH,Nat.reduceAdd,Nat.reduceSub,dR,dQ,eV,eD,cU,cL]
 gi_wp2_with(first
  |(refine Dt _ rfl _ 103 rfl 3 98 underlying103 an _ rfl HM ?_;intro w0 v bc cp;have X:=U v;have p:=U bc;clear v bc))
 have O:=HS.1;have cn:s<z (G bq):=ag (am HB) O;have S:I az bq w0:=I.dJ p (by simp);have t:=ad _ _ _ HJ;gi_loopg [] (y ch) (λk wr=>∃(d:eO)(left:fM)(vl:eO)(B:fA),y left=k/\xA left vl/\(d++vl).Perm V/\qD wr an (z<|G bq) ch left/\cB d B wr/\(∀k,k=s->¬B k)/\jF AY n0 (λk=>k=s) w wr/\¬B (z<|G bq))
 (case atStart=>refine⟨[],ch,V,cx,rfl,cb,mG _,X,al _ _ _ _ _ HJ S cO,bu,HS.trans<|S.same (aC cd O) (λk g=>⟨by grind,id⟩) cO,λN=>by have:=(t _ N).2;omega⟩);(case round=>obtain⟨d,left,vl,B,bf,c,j,bd,ba,u,e,aq⟩:=hrel;have cm:aO wr (R s 0)=H (.map<|H an):=e.cell (.inl rfl) HB.cell;obtain⟨K,E,ac,D⟩:=gH c j bd ba;have r:=U u;obtain⟨bv,C,bs⟩:=dA e aq bf;clear c j bd ba u e aq bf X p S t;(gi_wp2_with(first|(refine DV _ rfl _ rfl an (z<|G bq) _ _ rfl ac ?_ ?_)));(.intro f;subst f;(have i:vl=[]:=by have:=ae K;unfold xA at this;simpa using this.symm);subst i;gi_wp2;refine vL (iT rfl _ _ _) rfl ?_;exact⟨⟨_,rfl⟩,.inl ⟨d,B,by simpa using ae E,D,trivial⟩⟩);(.intro m pk pv l w1 hl x A bk cj;subst hl;have c:=ae K;unfold xA at c;rw[aQ,bZ]at c;obtain⟨va,vd,rfl,bl,bn⟩:=iA.1 c.symm;obtain⟨cv,vc,rfl,hv,bm⟩:=nH.1 bn;simp only at hv;subst hv;have T:I (λk=>k=z (G bq)) wr w1:=I.dJ A (λk g=>by grind);obtain⟨bT,i,ca⟩:=dA T x (show xA (m++l) (va++vc)from by unfold xA;rw[aQ,aQ,bl,bm]);have q:=U<|show((d++[cv])++(va++vc)).Perm V from List.Perm.trans (by rw[bD];grind) E;have av:=al _ _ _ _ _ D T (λk g=>by subst g;exact⟨C,.inr<|.inr O⟩);have L:=U<|HY d cv B w1 ⟨va++vc,q⟩ av trivial;clear T x A c bl bn bm av K E ac;unfold YJ at L;obtain⟨fn,ck,bp,body,hy,hR⟩:=ae L;have bt:=U hR;clear hR L;gi_wp2;refine⟨(λN=>(by cases N)),bt.mono ?_⟩;rintro cT W3(⟨rfl,_,B3,ax,f,ao⟩|⟨rfl,hx⟩);(.have br:=U ax;have bx:=U f;have W:=U ao;clear ax f ao;gi_wp2;(gi_roundg (y<|m++l));(case measure=>have:=ae bs;grind);(case rel=>have f:=ae bx;have e:=ae bv;have cs:z (G wr)=z (G w1):=bk.symm;have ce:=i.lt;have co:=i.ne;have au:∀k,B k->n0<=k:=λk g=>(ad _ _ _ D k g).1;have cq:=e.1;refine⟨d++[cv],m++l,va++vc,B3,rfl,ca,q,i.kept (f.block an (by omega) (λN=>by have:=au _ N;omega))<|f.block _ ce C,br,λk g N=>?_,?_,λN=>?_⟩;(rcases W k N with N|N;exact r k g N;grind);refine(e.trans<|bT.same (by omega) (λk g=>⟨by omega,by omega⟩)<|λk g c=>by omega).trans<|f.same (by omega) (λk g=>⟨by omega,r k g⟩) (λk g c=>by have:=au k g;omega);rcases W _ N with N|N;exact C N;omega));have W:=U hx;clear hx;gi_wp2;refine cP (iT rfl _ _ _) rfl ?_;exact⟨⟨_,rfl⟩,.inr ⟨_,W⟩⟩))
end
def kN(n:Z):aa:=if n=0 then .nilIface else .iface 53 (ap n)
def MA{b:uP}(hp:yp a d b)(S:∀al,ct d=H al->al<z (G a))(hr:y b<=1000000000000)(T:∀W∈b,W.key.size<=140737488351232/\W.val.size<=140737488351232):cD bz 52 #[d] a λp l=>p=aL (kN<|ga b)/\I az a l:=by
 have Q:∀(W:Bool)(a:Y),(Op.unary .not<|aK W).run bz a=.ok (aK<|!W) a:=λ_ _=>rfl;obtain⟨h1,⟨rfl,h0⟩|⟨N,g,ac,rfl,ad,P⟩⟩:=hp;(.obtain rfl:b=[]:=aP h0;(go_in);go_wp2;(go_loopw [11] (λV wr=>V=ap 0/\wr=a) (λ_ _=>0));(case atStart=>grind);(case round=>obtain⟨rfl,c⟩:=hrel;subst wr;go_wp2;go_ret;exact⟨rfl,I.refl _ _⟩))
 .have K:N<z (G a):=S N rfl;have D:=U P;have HZ:=U T;clear P h1 S T;by_cases O:8<y b
  .have F:=U (show ga b=2 by unfold ga;rw[dz O]);have e1:(8:Z)<(y b:Z):=by omega
   go_in
   go_wp2;go_ret;exact⟨by rw[ae F];rfl,I.refl _ _⟩
  .have F:=U (show ga b=lJ b by unfold ga;rw[dr O]);have e1:¬(8:Z)<(y b:Z):=by omega
   go_in
   go_wp2;go_loopw [11] (λV wr=>∃n:M,n<=y b/\V=ap n/\ga b=lJ (b.drop n)/\I az a wr) (λV _=>y b-(intOf V).toNat)
   case atStart=>exact⟨0,bj _,rfl,F,I.refl _ _⟩
   case round=>
    obtain⟨n,hn,rfl,C,e⟩:=hrel;have E:=U C;by_cases c:n<y b
    .have B:=kX b n c;have q:aO wr (R N<|g+n*3)=H (aj b[n].key):=e.cell (D _ _ B.1) id K;have r:aO wr (R N<|g+n*3+1)=H (aj b[n].val):=e.cell (by rw[aV];exact D _ _ B.2.1) id K;have s:aO wr (R N<|g+n*3+2)=H (aK b[n].del):=e.cell (by rw[aV];exact D _ _ B.2.2) id K;have u:=HZ _<|ak c;have i:=U e;clear B C e;by_cases v:b[n].key.size=0\/8<b[n].key.size
     .have o:=U<|E.trans<|Dj c v;generalize b[n]=X at*;obtain⟨x,A,L⟩:=X;simp only at q r s v u;have j:∀W,cD bz 84 #[aj x] W λp l=>p=aL (aK aY)/\l=W:=by
       grind[rj,qj]
      go_wp2_with fail
      apply(j _).mono;rintro p m⟨rfl,k⟩;subst m;go_wp2;go_ret;exact⟨by rw[ae o];rfl,i.alloc _⟩
     .by_cases f:b[n].del=aY/\16<b[n].val.size
      .have o:=U<|E.trans<|Di c v f;generalize b[n]=X at*;obtain⟨x,A,L⟩:=X;simp only at q r s v f u;obtain⟨rfl,w⟩:=f;have j:∀W,cD bz 84 #[aj x] W λp l=>p=aL (aK bU)/\l=W:=by
        grind[rj,qj]
       have t:∀W,cD bz 85 #[aj A] W λp l=>p=aL (aK aY)/\l=W:=by
        grind[xR,qj]
       go_wp2_with fail
       apply(j _).mono;rintro p m⟨rfl,k⟩;subst m;go_wp2_with fail
       apply(t _).mono;rintro p m⟨rfl,k⟩;subst m;go_wp2;go_ret;exact⟨by rw[ae o];rfl,i.alloc _⟩
      .have o:=U<|E.trans<|FR c v f;generalize b[n]=X at*;obtain⟨x,A,L⟩:=X;simp only at q r s v f u;have j:∀W,cD bz 84 #[aj x] W λp l=>p=aL (aK bU)/\l=W:=by
        grind[rj,qj]
       cases L with
       |true=>
        clear f;go_wp2_with fail
        apply(j _).mono;rintro p m⟨rfl,k⟩;subst m;go_wp2;go_roundw;case rel=>exact⟨n+1,c,by go_num,o,i.alloc _⟩
        case measure=>simp[intOf];omega
       |false=>
        have w:A.size<=16:=by grind
        have t:∀W,cD bz 85 #[aj A] W λp l=>p=aL (aK bU)/\l=W:=by
         grind[xR,qj]
        clear f;go_wp2_with fail
        apply(j _).mono;rintro p m⟨rfl,k⟩;subst m;go_wp2_with fail
        apply(t _).mono;rintro p m⟨rfl,k⟩;subst m;go_wp2;go_roundw;case rel=>exact⟨n+1,c,by go_num,o,i.alloc _⟩
        case measure=>simp[intOf];omega
    .have f:n=y b:=by omega
     have o:=U (show ga b=0 by rw[C,f,gh];rfl);have i:=U e;have j:¬(n:Z)<(y b:Z):=by omega
     clear C e f;go_wp2;go_ret;exact⟨by rw[ae o];rfl,i⟩
structure SR where
 aH:M
 mem:Z
 qQ:Z
 closed:Bool
 memory:aa
 gK:M
 aW:M
 l0:aa
 l1:aa
 l2:aa
 l3:aa
 next:M
 ie:M
 lW:Option M
 log:M
 gE:Bool
 vU:Bool
 kB:Bool
 kA:Bool
variable{n:SR}
def SR.cells(s:SR)(k:Z):Array aa:=#[iO k,dq 0,ay s.aH,ap s.mem,ap s.qQ,aK s.closed,.nilIface,s.memory,ap s.gK,aJ s.aW,s.l0,s.l1,s.l2,s.l3,aJ s.next,ap s.ie,.map s.lW,aJ s.log,aK s.gE,aK s.vU,aK s.kB,aK s.kA]
def bJ(w:Y)(a:M)(s:SR)(k:Z):Prop:=w.heap[a]?=H (ar (s.cells k) 105 (0,0))
def bJ.cell{s:SR}(h:bJ a c s m){i:M}(e:(s.cells m)[i]?=H d):aO a (R c i)=H d:=by
 rw[bL h];exact e
def bJ.cellAt(h:bJ a b n m)(i:M)(e:(n.cells m).toList[i]?=H d):aO a (R b i)=H d:=h.cell (by rw[<-e];simp)
def bJ.free{b i:M}(h:bJ a b n m):a.frozen? (R b i)=aY:=dE h
def bJ.aw{S:fA}{w w':Y}(h:bJ w c n m)(d:I S w w')(a:¬S c):bJ w' c n m:=(d.block c (am h) a).trans h
def ZP(w:Y)(t:aa):cD bz 39 #[.nilIface,t] w λe a=>e=aL (aK aY)/\a=w:=by
 go_in
 go_wp2;go_ret;simp_all
def It(w:Y):cD bz 70 #[.nilIface] w λe a=>e=aL .nilIface/\Below (z<|G w) w a:=by
 go_in
 go_wp2_with(go_at_call 39;refine(ZP _ _).mono ?_;rintro e b⟨rfl,rfl⟩)
 go_ret;exact⟨rfl,(Below.refl _ w).alloc (ai _) _⟩
def gS(h:bJ a b n m):cD bz 37 #[ay b] a λg f=>g=aL (kN<|if n.closed then 6 else 0)/\Below (z<|G a) a f:=by
 have c5:aO a (R b 5)=H (aK n.closed):=h.cell rfl;have i:aO a (R b 6)=H .nilIface:=h.cell rfl;have e:=It a;cases hc:n.closed with
 |true=>
  rw[hc]at c5;clear h hc;go_in
  go_wp2;go_ret;exact⟨rfl,Below.refl _ _⟩
 |false=>
  rw[hc]at c5;clear h hc;go_in
  go_wp2_with(go_at_call 70;refine e.mono ?_;rintro g j⟨rfl,c⟩;have d:=U c;clear c)
  go_ret;exact⟨rfl,d⟩
def pM(a:Z)(i n:M):Bool:=if i=0 then decide (a<=(n:Z))else decide (i<3)&&decide (a<(n:Z))
def rQ(i f:M)(x:Option Addr)(g:M)(h:bJ a b n m)(k:i<4):cD bz 113 #[ay b,ap i,J x f g] a λj e=>j=aL (aK<|pM n.qQ i f)/\e=a:=by
 have c4:aO a (R b 4)=H (ap n.qQ):=h.cell rfl;generalize n.qQ=d at*;clear h;have c:i=0\/i=1\/i=2\/i=3:=by omega
 rcases c with rfl|rfl|rfl|rfl;(·(go_in);go_wp2;go_ret;exact⟨rfl,rfl⟩);(·(go_in);go_wp2;go_ret;exact⟨rfl,rfl⟩);(·(go_in);go_wp2;go_ret;exact⟨rfl,rfl⟩);(go_in);go_wp2;go_ret;exact⟨rfl,rfl⟩
section
open Conc.Locks
def bJ.gx(h:bJ a b n m)(j:Z):bJ (cA a (R b 0)<|iO j) b n j:=by
 have:=aT (i:=0) (u:=iO j) h;exact this
def JV(h:bJ a b n 0):cD bz 145 #[ay b] a λj d=>j=aL (aK n.closed)/\bJ d b n 0/\I (λm=>m=b) a d:=by
 have g:=bJ.cellAt h 0 rfl;have k:a.frozen? (R b 0)=aY:=h.free;have c:=h.gx 1;have c5:=bJ.cellAt c 5 rfl;have i:=bJ.cellAt c 0 rfl;have l:(cA a (R b 0)<|iO 1).frozen? (R b 0)=aY:=c.free;have e:=U<|show bJ (cA (cA a (R b 0)<|iO 1) (R b 0)<|iO 0) b n 0/\I (λm=>m=b) a (cA (cA a (R b 0)<|iO 1) (R b 0)<|iO 0)from⟨c.gx 0,(gW b a).setCell b 0 _<|.inl rfl⟩;clear h c;go_enter_defers func145,ntmps145
 go_wp2_with(go_at_call 35;refine(lock_free (R b 0) _ g k).mono ?_;rintro j d⟨rfl,rfl⟩)
 refine eH (f:=36) (args:=#[ay b]) (by simp) (by simp[go_sem]) ?_;apply(unlock_deferred (R b 0) .returning _ i l).mono;rintro j p o⟨rfl,rfl,rfl⟩;exact⟨_,gm rfl _ _ _,rfl,e⟩
end
structure Acc(S:fA)(b:Y)(a:cw (M×aa×TypeId))(lb:M)(e d:TypeId)(c base n:M)(xs:iC)(B:fA)(W:Y):Prop where
 fix:∀p∈a,ep W p.1 p.2.1 p.2.2
 row:∃v,ep W lb v e/\W.ownsRow base d c v n xs/\(∀k,B k↔(∃p∈a,p.1=k)\/k=lb\/ct v=H k)
 B8:∀p∈a,z (G b)<=p.1/\p.1<base/\p.1≠lb
 B7:z (G b)<=lb/\lb<base
 aw:I S b W
section
variable{S:fA}{b W:Y}{a:cw (M×aa×TypeId)}{lb:M}{e d:TypeId}{c baseqq n:M}{xs:iC}{B:fA}
theorem Acc.lt(i:Acc S b a lb e d c baseqq n xs B W):∀k,B k->z (G b)<=k/\k<z (G W):=by
 intro k m;obtain⟨v,o,j,l⟩:=i.row;have:=i.B7;rcases(l k).1 m with⟨p,g,h⟩|h|h;subst h;exact⟨(i.B8 p g).1,am<|i.fix p g⟩;grind
 have:=j.lt k h;grind
theorem Acc.stays{m:Y}{T:fA}(l:Acc S b a lb e d c baseqq n xs B W)(h:I T W m)(g:∀k,T k->¬B k/\(S k\/z (G b)<=k)):Acc S b a lb e d c baseqq n xs B m:=by
 obtain⟨v,p,q,f⟩:=l.row;exact⟨λr j=>(h.block _ (am<|l.fix r j)<|λo=>(g _ o).1<|(f _).2<|.inl ⟨r,j,rfl⟩).trans<|l.fix r j,⟨v,(h.block _ (am p)<|λo=>(g _ o).1<|(f _).2<|.inr<|.inl rfl).trans p,h.own q<|λk i o=>(g k o).1<|(f k).2<|.inr<|.inr i,f⟩,l.B8,l.B7,l.aw.trans h<|λk i=>(g k i).2⟩
theorem Acc.more{g:Y}{v f:aa}{D:M}{o:iC}(q:Acc S b a lb e d c baseqq n xs B W)(A:ep W lb v e)(w:∀k,B k↔(∃p∈a,p.1=k)\/k=lb\/ct v=H k)(N:W.ownsRow baseqq d c v n xs)(t:I (λk=>ct v=H k) W g)(F:ct f=ct v\/∃P,ct f=H P/\z (G W)<=P)(j:g.ownsRow baseqq d c f D o):∃u,Acc S b a lb e d c baseqq D o u (cA g (R lb 0) f)/\I B W (cA g (R lb 0) f)/\(∀k,u k->B k\/z (G W)<=k):=by
 have m:∀k,ct v=H k->baseqq<=k/\k<z (G W):=λk h=>N.lt k h;have C:∀k,ct f=H k->baseqq<=k:=λk h=>(j.lt k h).1;have L:=q.B7;have s:ep g lb v e:=(t.block _ (am A) (λE=>by have:=(m _ E).1;omega)).trans A;have l:I B W (cA g (R lb 0) f):=(t.mono (T:=B)<|λk h=>.inl<|(w k).2<|.inr<|.inr h).setCell _ _ _<|.inl<|(w _).2<|.inr<|.inl rfl;refine⟨λk=>(∃p∈a,p.1=k)\/k=lb\/ct f=H k,⟨λp r=>?_,⟨f,s.set _,?_,λk=>rA⟩,q.B8,q.B7,?_⟩,l,?_⟩;obtain⟨Q,V,O⟩:=q.B8 p r;have K:ep g p.1 p.2.1 p.2.2:=(t.block _ (am<|q.fix p r) (λE=>by have:=(m _ E).1;omega)).trans<|q.fix p r;exact K.other _ O;exact j.kept (de g _ _ _) (by grind);exact q.aw.trans l<|λk h=>.inr (q.lt k h).1;grind
end
def Rr(e:T->Array aa)(V:iY)(h o j:M)(l:Array aa)(n:cw T)(S:fA)(w:Y):Prop:=∀(g:M)(d:cw T->fA->Y->Prop)(f:cw T->Y->Prop)(B:fA)(W:Y),jF V h S w W->V.D W->d [] B W->(∀k,S k->¬B k)->(∀a B W,d a B W->∀k,B k->h<=k/\k<z (G W))->(∀a B W b m,d a B W->I m W b->(∀k,m k->¬B k/\(V.F k\/z (G w)<=k))->d a B b)->(∀a x B W,(a++[x])<+:n->d a B W->V.D W->YieldAt Fence.wide (o-1) bz g (e x) W λi b=>
 (i=aL (aK bU)/\V.D b/\∃c,d (a++[x]) c b/\I B W b/\(∀k,c k->B k\/z (G W)<=k))\/(i=aL (aK aY)/\f (a++[x]) b))->
 CallsIn Fence.wide o bz j (#[.func (.yield g) #[] #[]]++l) W λi b=>(∃v,i=aL v)/\((∃c,d n c b/\V.D b)\/(∃a,f a b))
def Rr.q{α:Type}{d:α->Array aa}{p:cw α}(u:Rr d t c g l V p X a):Rq d t c g l V (·<+:p) (·=p) X (λr=>t.F r\/z (G a)<=r) a:=by
 intro q s e B W f h j k m n o;apply(u q s e B W f h j k m n o).mono;grind
def Cy{c:T->Array aa}{m:M}{C:Operand}{t:Array Tmp}{b body:Code}{Q:Exit->Act->Y->Prop}{a:Act}{V:iY}{n0 gf:M}{lb:Array aa}{l:cw T}{S:fA}(A:a.eval C=.func (.func gf) #[] lb)(v:Enters bz gf)(p:∀F,(c F).size=t.size)(rk:Rr c V n0 (m-1) gf lb l S f)(x:V.D f)(o:n0<=z (G f))(h:∀s,S s->s<z (G f))(u:cw T->fA->Y->Prop)(r:Code->cw T->fA->Y->Prop)(B:fA):Qx c m C t b body Q a f V n0 (·<+:l) S (λs=>V.F s\/z (G f)<=s) u r B (∀(D:M)(B:fA)(W:Y),z (G f)<=D->u l B W->¬B D->V.D W->W.heap[D]?=H (.deferred<|H [])->Q .normal {a with defers:={target:=.collected D,args:=#[]}::a.defers} W):=λw j n q i d e g=>xx (λ_ E=>.inr E) A v p rk.q x o h u r B w j n q i d (λ_ D B W k=>k▸e D B W) g
def Vx(d:aa)(b a:Z)(w:Y)(e:∃p,d=.pointer p)(h:¬(1<=b/\b<=32/\2<=a/\a<=6)):cD bz 32 #[d,dW #[ap b,ap a]] w λg f=>g=aL (dw #[fj none,kN 1])/\I az w f:=by
 obtain⟨p,rfl⟩:=e;have c:=U<|show I az w (cF w<|ar #[ap b,ap a] 86)from(cK az w);unfold kN;simp only[Int.reduceEq,jk];by_cases i:b<1;(.clear h;(go_in);go_wp2;(go_ret2);exact⟨rfl,c⟩);by_cases j:32<b;(.clear h;(go_in);go_wp2;(go_ret2);exact⟨rfl,c⟩);by_cases k:a<2;(.clear h;(go_in);go_wp2;(go_ret2);exact⟨rfl,c⟩);have l:6<a:=by omega
 clear h;go_in
 go_wp2;go_ret2
 exact⟨rfl,c⟩
def SR.fresh(c:M)(b a:Z)(d:M):SR:=⟨c,b,a,aY,aD,0,0,aD,aD,aD,aD,0,0,H d,0,aY,aY,aY,aY⟩
def Jh(a:M):Array aa:=#[.func (.func 64) #[ay a] #[],.func (.func 65) #[ay a] #[],.func (.func 66) #[ay a] #[],.func (.func 67) #[ay a] #[]]
def jw.G7(w:Y)(o:Obj):jw (cF (cF w o)<|.map #[] 0) (z (G w)+1) []:=by
 have h:=jw.new<|cF w o;simp_all
def Yc(q:M)(e a:Z)(w:Y)(X:1<=e/\e<=32/\2<=a/\a<=6)(p t u v x:Y->Prop)(o:∀W,I az w W->bJ W (z (G w)+2) (SR.fresh q e a<|z (G w)+1) 0->jw W (z (G w)+1) []->z (G W)=z (G w)+4->p W)(C:∀W,p W->cD bz 64 #[ay<|z (G w)+2] W λn k=>n=aL .nilIface/\t k/\k.heap[z (G w)+3]?=W.heap[z (G w)+3]?)(D:∀W,t W->cD bz 65 #[ay<|z (G w)+2] W λn k=>n=aL .nilIface/\u k/\k.heap[z (G w)+3]?=W.heap[z (G w)+3]?)(E:∀W,u W->cD bz 66 #[ay<|z (G w)+2] W λn k=>n=aL .nilIface/\v k/\k.heap[z (G w)+3]?=W.heap[z (G w)+3]?)(F:∀W,v W->cD bz 67 #[ay<|z (G w)+2] W λn k=>n=aL .nilIface/\x k/\k.heap[z (G w)+3]?=W.heap[z (G w)+3]?):cD bz 32 #[ay q,dW #[ap e,ap a]] w λn k=>n=aL (dw #[ay<|z (G w)+2,.nilIface])/\x k:=by
 obtain⟨o1,o2,o3,o4⟩:=X;have e1:¬e<1:=by omega
 have e2:¬32<e:=by omega
 have e3:¬a<2:=by omega
 have e4:¬6<a:=by omega
 have P:∀b w,(callFunc 64 b).run bz w=.ok (.enter 64 b) w:=enters_of func64 (by kernel_rfl) rfl;have Q:∀b w,(callFunc 65 b).run bz w=.ok (.enter 65 b) w:=enters_of func65 (by kernel_rfl) rfl;have S:∀b w,(callFunc 66 b).run bz w=.ok (.enter 66 b) w:=enters_of func66 (by kernel_rfl) rfl;have T:∀b w,(callFunc 67 b).run bz w=.ok (.enter 67 b) w:=enters_of func67 (by kernel_rfl) rfl;obtain⟨B,K,L,N,O⟩:=je (show p (cF (cF (cF (cF w<|ar #[ap e,ap a] 86)<|.map #[] 0)<|ar ((SR.fresh q e a<|z (G w)+1).cells 0) 105)<|ar (Jh<|z (G w)+2) 73)/\(cF (cF (cF (cF w<|ar #[ap e,ap a] 86)<|.map #[] 0)<|ar ((SR.fresh q e a<|z (G w)+1).cells 0) 105)<|ar (Jh<|z (G w)+2) 73).heap[z (G w)+3]?=H (ar (Jh<|z (G w)+2) 73 (0,0))from⟨o _ ((((cK az w).alloc _).alloc _).alloc _) ((gl _<|by simp).trans<|aB _<|by simp) (((jw.G7 w _).alloc _).alloc _) (by simp),aB _<|by simp⟩) C D E F;clear o1 o2 o3 o4 o C D E F;have V:=@tR bz;go_in
 go_wp2;go_loopw [44] (λi wr=>∃(r:M),r<=4/\i=ap r/\((r=0/\p wr)\/(r=1/\t wr)\/(r=2/\u wr)\/(r=3/\v wr)\/(r=4/\x wr))/\wr.heap[z (G w)+3]?=H (ar (Jh<|z (G w)+2) 73 (0,0))) (λi _=>4-(intOf i).toNat)
 case atStart=>exact⟨0,by omega,by go_num,.inl ⟨rfl,B.1⟩,B.2⟩
 (case round=>obtain⟨r,hj,rfl,f,j⟩:=hrel;have f0:=cellAt j 0 rfl;have f1:=cellAt j 1 rfl;have f2:=cellAt j 2 rfl;have f3:=cellAt j 3 rfl;have l:=U j;clear j;rcases f with⟨rfl,f⟩|⟨rfl,f⟩|⟨rfl,f⟩|⟨rfl,f⟩|⟨rfl,f⟩;(.have m:=K wr f;clear f;(go_wp2_with(go_at_fn 64;refine m.mono ?_;rintro n A⟨rfl,c,d⟩;have i:=U c;have g:=U<|d.trans l;clear c d));go_roundw;(case rel=>exact⟨1,by omega,by go_num,.inr<|.inl ⟨rfl,i⟩,g⟩);case measure=>simp[intOf]);(.have m:=L wr f;clear f;(go_wp2_with(go_at_fn 65;refine m.mono ?_;rintro n A⟨rfl,c,d⟩;have i:=U c;have g:=U<|d.trans l;clear c d));go_roundw;(case rel=>exact⟨2,by omega,by go_num,.inr<|.inr<|.inl ⟨rfl,i⟩,g⟩);case measure=>simp[intOf]);(.have m:=N wr f;clear f;(go_wp2_with(go_at_fn 66;refine m.mono ?_;rintro n A⟨rfl,c,d⟩;have i:=U c;have g:=U<|d.trans l;clear c d));go_roundw;(case rel=>exact⟨3,by omega,by go_num,.inr<|.inr<|.inr<|.inl ⟨rfl,i⟩,g⟩);case measure=>simp[intOf]);(.have m:=O wr f;clear f;(go_wp2_with(go_at_fn 67;refine m.mono ?_;rintro n A⟨rfl,c,d⟩;have i:=U c;have g:=U<|d.trans l;clear c d));go_roundw;(case rel=>exact⟨4,by omega,by go_num,.inr<|.inr<|.inr<|.inr<|⟨rfl,i⟩,g⟩);case measure=>simp[intOf]);have s:=U f;clear f;go_wp2;(go_ret2);exact⟨rfl,s⟩)
