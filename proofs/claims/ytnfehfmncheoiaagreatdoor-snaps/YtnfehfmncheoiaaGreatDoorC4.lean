import Derived.Deep.LoopGhost
import Derived.Deep.RegionHeld3
import Derived.Defers
import Derived.Laws.Rows
import Derived.Shelf.Abstract
import Derived.Test.YtnfehfmncheoiaaGreatDoorC1
import Derived.Test.YtnfehfmncheoiaaGreatDoorC2
import Derived.Test.YtnfehfmncheoiaaGreatDoorC3
open _root_ renaming List.length→y,Option.some→H,Array.size→z,Go.World.heap→G,Go.Value.ownBlock→bV,Go.World.cell?→aS,Go.World.setCell→bZ,Go.World.alloc→ct,Bool.false→bE,Bool.true→bU,Nat→M,Int→X,List→cr,Go.Calls→cw,Go.undef→iC,Go.Proofs.Tryz.prog→bF,Go.Value.slice→I,Go.Value.string→J,Go.Value.bool→aL,Go.Value.pointer→fh,Go.Value.tuple→dA,Go.Value.agg→eD
namespace Go.Proofs.YtnfehfmncheoiaaGreatDoor
open ChangeShapes WideShapes RowKit Proofs.Tryz
set_option maxHeartbeats 16000000
set_option linter.all false
set_option maxRecDepth 100000
variable{a f C:Y}{b c g l B P:M}{d s N:aa}{e L:cA}{k:dW}{m:X}{o:eK}{W:fI}{v:ab}{w:E}{x:iV}{D:Bool}{K:iB}{T:Type}{V:Array aa}
def E.value(e:E):aa:=eD #[J e.key,J e.val,aL e.del,aI e.bH]
def E.cells(e:E):iV:=[J e.key,J e.val,aL e.del,aI e.bH]
def oK(d:Bool):X:=if d then 1 else 0
def ep(s:ab):eK:=(s.size:X)::kC s
def nM(e:E):eK:=oK e.del::(ep e.key++ep e.val)
def eR.ne(h:eR a C d s)(c:bV d≠H b)(g:b<z (G a)):bV s≠H b:=by
 rcases h.uc with e|⟨j,e,i⟩;rw[e];exact c;rw[e];simp;omega
def eR.cell{w w':Y}(h:eR w w' d s){a i:M}(b:aS w (R a i)=H N)(c:bV d≠H a):aS w' (R a i)=H N:=h.grown.cell b<|λe=>c e.symm
def eJ.lt{bs:eK}(h:eJ a b d bs):∀k,bV d=H k->b<=k/\k<z (G a):=aF h
def eJ.of_heap{w w':Y}(h:eJ w b d o)(e:w'.heap=w.heap):eJ w' b d o:=by
 unfold eJ World.ownsRow at*;rw[e];exact h
def eR.of_heap{a w w':Y}(h:eR w w' d s)(e:(a.os,a.tape,a.output,a.heap)=(w.os,w.tape,w.output,w.heap)):eR a w' d s:=by
 simp only[gV]at e;obtain⟨g,i,j,b⟩:=e;refine⟨⟨by rw[h.grown.os,g],by rw[h.grown.tape,i],by rw[h.grown.output,j],by rw[b];exact h.grown.size,λl e k=>by rw[b]at e|-;exact h.grown.block l e k⟩,by rw[b];exact h.uc⟩
def eR.Hu{o:Obj}(h:eR (a.alloc o).drew f d s):eR a f d s:=(eR.of_heap (a:=a.alloc o) h rfl).alloc o
def Po(a:M)(ac:aa)(s:eK)(ad:E)(w:Y)(p:eJ w a ac s)(hb:a<=z (G w))(hl:y s<=35184372088832)(S:ad.key.size<=255)(V:ad.val.size<=255):cw bF 186 #[ac,ad.value] w λD w'=>∃v',D=aO v'/\eJ w' a v' (s++nM ad)/\eR w w' ac v':=by
 obtain⟨d,e,B,k⟩:=ad;simp only at S V;unfold E.value;simp only;have i:bV ac≠H (z<|G w):=λD=>by have:=(p.lt _ D).2;omega
 have O0:=U<|p.alloc<|aq #[J d,J e,aL B,aI k] 164;clear p;cases B with
 |true=>
  go_in
  go_wp2_with fail
  go_region_held3(λj=>aS j (R (z<|G w) 0)=H (J d)/\aS j (R (z<|G w) 1)=H (J e)) (first|assumption|go_keep) (first
   |(go_at_call 185;refine(tU a ac s 1 _ ?_ (by simp;omega)<|by omega).mono ?_;exact O0.of_heap rfl;rintro D x⟨u,rfl,m,b⟩;have g:bV u≠H (z<|G w):=b.ne i (by simp);have q:aS x (R (z<|G w) 0)=H (.string d)/\aS x (R (z<|G w) 1)=H (.string e):=⟨b.cell (by simp) i,b.cell (by simp) i⟩;have t:z (G w)<z (G x):=(by have:=b.grown.size;simp at this;omega);have F:=U m;have N:=U b;clear m b)
   |(go_at_call_of 229 u;refine(pa a u (s++[1]) d _ ?_ (by omega) ?_ S).mono ?_;exact F.of_heap rfl;(simp;omega);rintro D A⟨v,rfl,n,c⟩;have l:bV v≠H (z<|G w):=c.ne g t;have r:aS A (R (z<|G w) 0)=H (.string d)/\aS A (R (z<|G w) 1)=H (.string e):=⟨c.cell q.1 g,c.cell q.2 g⟩;have W:z (G w)<z (G A):=(by have:=c.grown.size;omega);have K:=U n;have O:=U<|N.trans c;clear n c)
   |(go_at_call_of 229 v;refine(pa a v (s++[1]++ep d) e _ ?_ (by omega) ?_ V).mono ?_;exact K.of_heap rfl;(simp[ep,gY];omega);rintro D C⟨v3,rfl,o,f⟩;have T:aS C (R (z (G w)) 0)=H (.string d)/\aS C (R (z (G w)) 1)=H (.string e):=⟨f.cell r.1 l,f.cell r.2 l⟩;have L:=U o;have P:=U (O.trans f);clear o f))
  go_wp2;go_ret;refine⟨v3,rfl,?_,P.Hu⟩;have Q:=ae L;simpa[nM,oK,ep,aU]using Q
 |false=>
  go_in
  go_wp2_with fail
  go_region_held3(λj=>aS j (R (z<|G w) 0)=H (J d)/\aS j (R (z<|G w) 1)=H (J e)) (first|assumption|go_keep) (first
   |(go_at_call 185;refine(tU a ac s 0 _ ?_ (by simp;omega)<|by omega).mono ?_;exact O0.of_heap rfl;rintro D x⟨u,rfl,m,b⟩;have g:bV u≠H (z<|G w):=b.ne i (by simp);have q:aS x (R (z<|G w) 0)=H (.string d)/\aS x (R (z<|G w) 1)=H (.string e):=⟨b.cell (by simp) i,b.cell (by simp) i⟩;have t:z (G w)<z (G x):=(by have:=b.grown.size;simp at this;omega);have F:=U m;have N:=U b;clear m b)
   |(go_at_call_of 229 u;refine(pa a u (s++[0]) d _ ?_ (by omega) ?_ S).mono ?_;exact F.of_heap rfl;(simp;omega);rintro D A⟨v,rfl,n,c⟩;have l:bV v≠H (z<|G w):=c.ne g t;have r:aS A (R (z<|G w) 0)=H (.string d)/\aS A (R (z<|G w) 1)=H (.string e):=⟨c.cell q.1 g,c.cell q.2 g⟩;have W:z (G w)<z (G A):=(by have:=c.grown.size;omega);have K:=U n;have O:=U<|N.trans c;clear n c)
   |(go_at_call_of 229 v;refine(pa a v (s++[0]++ep d) e _ ?_ (by omega) ?_ V).mono ?_;exact K.of_heap rfl;(simp[ep,gY];omega);rintro D C⟨v3,rfl,o,f⟩;have T:aS C (R (z (G w)) 0)=H (.string d)/\aS C (R (z (G w)) 1)=H (.string e):=⟨f.cell r.1 l,f.cell r.2 l⟩;have L:=U o;have P:=U (O.trans f);clear o f))
  go_wp2;go_ret;refine⟨v3,rfl,?_,P.Hu⟩;have Q:=ae L;simpa[nM,oK,ep,aU]using Q
def pY{b:Bool}(h:D=b):Ending.returned (aL D)=aO (aL b):=by rw[h]
def qL(s:ab)(w:Y)(f:s.size<=140737488351232):cw bF 69 #[J s] w λe d=>e=aO (aL<|decide<|1<=s.size/\s.size<=8)/\d=w:=by
 by_cases b:1<=s.size;(.by_cases c:s.size<=8;(·(have a:decide (1<=s.size/\s.size<=8)=bU:=by simp[b,c]);rw[a];(go_in);go_wp2;go_ret;exact⟨pY (by simp;omega),rfl⟩);(have a:decide (1<=s.size/\s.size<=8)=bE:=by simp[b,c]);rw[a];(go_in);go_wp2;go_ret;exact⟨pY (by simp;omega),rfl⟩);(have a:decide (1<=s.size/\s.size<=8)=bE:=by simp[b]);rw[a];(go_in);go_wp2;go_ret;exact⟨rfl,rfl⟩
def xF(s:ab)(w:Y)(d:s.size<=140737488351232):cw bF 70 #[J s] w λe c=>e=aO (aL<|decide<|s.size<=16)/\c=w:=by
 by_cases b:s.size<=16;(·(have a:decide (s.size<=16)=bU:=by simp[b]);rw[a];(go_in);go_wp2;go_ret;exact⟨pY (by simp;omega),rfl⟩);(have a:decide (s.size<=16)=bE:=by simp[b]);rw[a];(go_in);go_wp2;go_ret;exact⟨pY (by simp;omega),rfl⟩
structure E.Good(x:E):Prop where
 Us:1<=x.key.size
 LF:x.key.size<=8
 val:x.val.size<=16
 del:x.del=bU->x.val=⟨#[]⟩
 b0:0<=x.bH
 b1:x.bH<18446744073709551616
def mG(a b:eK):jP (a++b) bE (y a)=(b,bE,a):=by
 unfold jP;rw[cY<|by simp];simp
def vG(s:ab)(b:eK):Do (ep s++b) bE=(b,bE,kC s)/\num (ep s++b) bE 1=s.size:=by
 have a:jP (ep s++b) bE 1=(kC s++b,bE,[(s.size:X)]):=by have:=mG [(s.size:X)]<|kC s++b;simpa[ep]using this
 have c:num (ep s++b) bE 1=s.size:=by unfold num;rw[a];simp[mi]
 refine⟨?_,c⟩;unfold Do;simp only[a,c];have:=mG (kC s) b;rw[gY]at this;simpa using this
def LB(d:Bool)(b:eK):jP (oK d::b) bE 1=(b,bE,[oK d])/\num (oK d::b) bE 1=oK d:=by
 have h:=mG [oK d] b;have a:jP (oK d::b) bE 1=(b,bE,[oK d]):=by simpa using h
 exact⟨a,by unfold num;rw[a];simp[mi]⟩
structure jm where
 D:Y->Prop
 F:M->Prop
 fm:∀{w w':Y}{S:fI},D w->Z S w w'->(∀k,S k->¬F k)->D w'
 lt:∀{w:Y}{k:M},D w->F k->k<z (G w)
variable{r:jm}
def jJ(V:jm)(b:M)(S:fI)(w a:Y):Prop:=z (G w)<=z (G a)/\∀k,((k<b/\¬V.F k)\/S k)->a.heap[k]?=w.heap[k]?
def jJ.refl(V:jm)(a:M)(S:fI)(w:Y):jJ V a S w w:=⟨ah _,λ_ _=>rfl⟩
def jJ.trans{S:fI}{d b e:Y}(h:jJ r c S d b)(k:jJ r c S b e):jJ r c S d e:=⟨aD h.1 k.1,λi a=>(k.2 i a).trans<|h.2 i a⟩
def jJ.mono{S T:fI}(h:jJ r b S a C)(c:∀k,T k->S k):jJ r b T a C:=⟨h.1,λi d=>h.2 i<|d.imp id<|c i⟩
def jJ.cell(h:jJ r b W a C){k i:M}(e:W k\/(k<b/\¬r.F k))(c:aS a (R k i)=H d):aS C (R k i)=H d:=(cH (w:=a)<|h.2 k e.symm).trans c
def Z.same{V:jm}{n0:M}{S T:fI}(h:Z T a f)(i:n0<=z (G a))(c:∀k,S k->k<z (G a)/\¬T k)(e:∀k,T k->k<n0->V.F k):jJ V n0 S a f:=by
 refine⟨h.size,λk g=>?_⟩;rcases g with⟨b,d⟩|b;exact h.block k (by omega)<|λc=>d<|e k c b;exact h.block k (c k b).1 (c k b).2
def aC{w:Y}(o:Obj)(h:b=z (G w)):(ct w o).heap[b]?=H o:=by
 subst h;show(w.heap.push o)[z<|G w]?=H o;simp
def fX{w:Y}(o:Obj)(h:b<z (G w)):(ct w o).heap[b]?=w.heap[b]?:=Below.heap_alloc w o b h
def ir(u:aa)(h:b≠c):(bZ a (R c g) u).heap[b]?=a.heap[b]?:=Below.heap_setCell a (R c g) u b h
def gz{b i:M}:z (G<|bZ a (R b i) d)=z (G a):=by simp[World.setCell]
abbrev dV(w:Y)(b:M)(v:aa)(t:TypeId):Prop:=w.heap[b]?=H (aq #[v] t (0,0))
def dV.cell{t:TypeId}(h:dV a b d t):aS a (R b 0)=H d:=by rw[bR h];rfl
def dV.free{t:TypeId}(h:dV a b d t):a.frozen? (R b 0)=bE:=dJ h
def dV.set{t:TypeId}(h:dV a b d t)(u:aa):dV (bZ a (R b 0) u) b u t:=(aQ h).trans rfl
def dV.other{t:TypeId}(h:dV a b d t){b' i:M}(u:aa)(c:b≠b'):dV (bZ a (R b' i) u) b d t:=(ir u c).trans h
def dV.alloc{w:Y}{b:M}{t:TypeId}(h:dV w b d t)(o:Obj):dV (ct w o) b d t:=(fX o<|aj h).trans h
def ij(w:Y)(b:M)(x:E):Prop:=w.heap[b]?=H (aq #[J x.key,J x.val,aL x.del,aI x.bH] 164 (0,0))
def ij.cells(h:ij a b w):aS a (R b 0)=H (J w.key)/\aS a (R b 1)=H (J w.val)/\aS a (R b 2)=H (aL w.del)/\aS a (R b 3)=H (aI w.bH):=by
 refine⟨?_,?_,?_,?_⟩<;>rw[bR h]<;>rfl
def ij.free{b i:M}(h:ij a b w):a.frozen? (R b i)=bE:=dJ h
def ij.alloc{w:Y}{b:M}{x:E}(h:ij w b x)(o:Obj):ij (ct w o) b x:=(fX o<|aj h).trans h
def ij.ar{d w':Y}{S:fI}(h:ij d b w)(c:Z S d w')(a:¬S b):ij w' b w:=(c.block b (aj h) a).trans h
def ij.put(h:ij a b w)(c:E):ij (bZ (bZ (bZ (bZ a (R b 0)<|J c.key) (R b 1)<|J c.val) (R b 2)<|aL c.del) (R b 3)<|aI c.bH) b c:=(aQ<|aQ<|aQ<|aQ h).trans rfl
def fV{c:Func}{p u v:Tmp}(i:c.results=#[.cell p 164,.tmp u,.tmp v])(a:Array aa)(w:Y)(g:M)(x:E)(t:TypeId)(d:M×M)(h:a.getD p iC=aw g)(e:w.heap[g]?=H (aq #[J x.key,J x.val,aL x.del,aI x.bH] t d)):(results c a).run bF w=.ok (dA #[x.value,a.getD u iC,a.getD v iC]) w:=by
 have b:a[p]?.getD iC=aw g:=by simpa using h
 have f:=mO (P:=bF) w g t 164 #[J x.key,J x.val,aL x.del,aI x.bH] d _ e underlying164 rfl (by kernel_rfl);simp[results,i,b,asAddr,f,Result.andThen,E.value]
def wP:aa:=eD #[J ⟨#[]⟩,J ⟨#[]⟩,aL bE,aI 0]
structure vq(V:jm)(n0:M)(S:fI)(w:Y):Prop where
 size:n0<=z (G w)
 aN:∀k,V.F k->k<n0
 each:∀k,S k->n0<=k/\k<z (G w)
def Hx(V:jm)(c g:M)(d:Array aa):cA->fI->Y->Prop
 |[],S,w=>vq V c S w/\∀b,jJ V c S w b->V.D b->cw bF g d b λf a=>f=aO (dA #[wP,aL bE,.nilIface])/\V.D a/\Z (λk=>S k\/V.F k) b a
 |x::l,S,w=>vq V c S w/\∀b,jJ V c S w b->V.D b->cw bF g d b λf a=>f=aO (dA #[x.value,aL bU,.nilIface])/\V.D a/\Z (λk=>S k\/V.F k) b a/\∃e,(∀k,e k->S k\/z (G b)<=k)/\Hx V c g d l e a
def vq.apart(h:vq r b W a):∀k,W k->¬r.F k:=λk d c=>by have:=h.aN k c;have:=(h.each k d).1;omega
def vq.ar{S T:fI}{w w':Y}(h:vq r b S w)(c:Z T w w'):vq r b S w':=⟨aD h.1 c.size,h.aN,λk a=>⟨(h.each k a).1,ag (h.each k a).2 c.size⟩⟩
def vq.same{V:jm}{n0:M}{S:fI}(h:vq V n0 S a)(c:jJ V n0 S a f):vq V n0 S f:=⟨aD h.1 c.1,h.aN,λk b=>⟨(h.each k b).1,ag (h.each k b).2 c.1⟩⟩
def Hx.own{b f:M}(h:Hx r b f V e W a):vq r b W a:=by
 cases e<;>exact h.1
def Hx.same{V:jm}{n0 j:M}{h:Array aa}{S:fI}(i:Hx V n0 j h e S a)(b:jJ V n0 S a f):Hx V n0 j h e S f:=by
 cases e with
 |nil=>exact⟨i.1.same b,λg c d=>i.2 g (b.trans c) d⟩
 |cons x e=>exact⟨i.1.same b,λg c d=>i.2 g (b.trans c) d⟩
def jl(V:jm)(c:M)(v:aa)(l:cA)(S:fI)(w:Y):Prop:=∃f b,v=.func (.func f) #[] b/\(∀a w,(callFunc f a).run bF w=.ok (.enter f a) w)/\Hx V c f b l S w
def jl.same{V:jm}{n0:M}{S:fI}(k:jl V n0 d e S a)(i:jJ V n0 S a f):jl V n0 d e S f:=by
 obtain⟨j,b,c,g,h⟩:=k;exact⟨j,b,c,g,h.same i⟩
def jl.own(h:jl r b d e W a):vq r b W a:=by
 obtain⟨f,g,j,k,c⟩:=h;exact c.own
def lE(n:X):aa:=if n=0 then .nilIface else .iface 55 (am n)
def Lj{b:uz}(hp:xW a d b)(S:∀ao,bV d=H ao->ao<z (G a))(hr:y b<=1000000000000)(T:∀ad∈b,ad.key.size<=140737488351232/\ad.val.size<=140737488351232):cw bF 43 #[d] a λp f=>p=aO (lE<|fY b)/\Z az a f:=by
 have Q:∀(ad:Bool)(a:Y),(Op.unary .not<|aL ad).run bF a=.ok (aL<|!ad) a:=λ_ _=>rfl;obtain⟨h1,⟨rfl,h0⟩|⟨N,j,al,rfl,an,P⟩⟩:=hp;(.obtain rfl:b=[]:=aP h0;(go_in);go_wp2;(go_loopw [11] (λV wr=>V=am 0/\wr=a) (λ_ _=>0));(case atStart=>exact⟨rfl,rfl⟩);(case round=>obtain⟨rfl,c⟩:=hrel;subst wr;go_wp2;go_ret;exact⟨rfl,Z.refl _ _⟩))
 .have K:N<z (G a):=S N rfl;have D:=U P;have HZ:=U T;clear P h1 S T;by_cases O:8<y b
  .have F:=U (show fY b=2 by unfold fY;rw[dw O]);have e1:(8:X)<(y b:X):=by omega
   go_in
   go_wp2;go_ret;exact⟨by rw[ae F];rfl,Z.refl _ _⟩
  .have F:=U (show fY b=lL b by unfold fY;rw[cY O]);have e1:¬(8:X)<(y b:X):=by omega
   go_in
   go_wp2;go_loopw [11] (λV wr=>∃n:M,n<=y b/\V=am n/\fY b=lL (b.drop n)/\Z az a wr) (λV _=>y b-(intOf V).toNat)
   case atStart=>exact⟨0,bw _,rfl,F,Z.refl _ _⟩
   case round=>
    obtain⟨n,hn,rfl,C,i⟩:=hrel;have E:=U C;by_cases g:n<y b
    .have B:=kT b n g;have s:aS wr (R N<|j+n*3)=H (J b[n].key):=i.cell (D _ _ B.1) id K;have t:aS wr (R N<|j+n*3+1)=H (J b[n].val):=i.cell (by rw[aV];exact D _ _ B.2.1) id K;have u:aS wr (R N<|j+n*3+2)=H (aL b[n].del):=i.cell (by rw[aV];exact D _ _ B.2.2) id K;have e:=HZ _<|ap g;have k:=U i;clear B C i;by_cases x:b[n].key.size=0\/8<b[n].key.size
     .have q:=U<|E.trans<|Cz g x;generalize b[n]=ac at*;obtain⟨r,w,L⟩:=ac;simp only at s t u x e;have l:∀W,cw bF 69 #[J r] W λp f=>p=aO (aL bE)/\f=W:=by
       intro W;apply(qL r W e.1).mono;rintro p f⟨rfl,rfl⟩;exact⟨pY (by simp;omega),rfl⟩
      go_wp2_with fail
      apply(l _).mono;rintro p o⟨rfl,m⟩;subst o;go_wp2;go_ret;exact⟨by rw[ae q];rfl,k.alloc _⟩
     .by_cases c:b[n].del=bE/\16<b[n].val.size
      .have q:=U<|E.trans<|Cy g x c;generalize b[n]=ac at*;obtain⟨r,w,L⟩:=ac;simp only at s t u x c e;obtain⟨rfl,A⟩:=c;have l:∀W,cw bF 69 #[J r] W λp f=>p=aO (aL bU)/\f=W:=by
        intro W;apply(qL r W e.1).mono;rintro p f⟨rfl,rfl⟩;exact⟨pY (by simp;omega),rfl⟩
       have v:∀W,cw bF 70 #[J w] W λp f=>p=aO (aL bE)/\f=W:=by
        intro W;apply(xF w W e.2).mono;rintro p f⟨rfl,rfl⟩;exact⟨pY (by simp;omega),rfl⟩
       go_wp2_with fail
       apply(l _).mono;rintro p o⟨rfl,m⟩;subst o;go_wp2_with fail
       apply(v _).mono;rintro p o⟨rfl,m⟩;subst o;go_wp2;go_ret;exact⟨by rw[ae q];rfl,k.alloc _⟩
      .have q:=U<|E.trans<|Fb g x c;generalize b[n]=ac at*;obtain⟨r,w,L⟩:=ac;simp only at s t u x c e;have l:∀W,cw bF 69 #[J r] W λp f=>p=aO (aL bU)/\f=W:=by
        intro W;apply(qL r W e.1).mono;rintro p f⟨rfl,rfl⟩;exact⟨pY (by simp;omega),rfl⟩
       cases L with
       |true=>
        clear c;go_wp2_with fail
        apply(l _).mono;rintro p o⟨rfl,m⟩;subst o;go_wp2;go_roundw;case rel=>exact⟨n+1,g,by go_num,q,k.alloc _⟩
        case measure=>simp[intOf];omega
       |false=>
        have A:w.size<=16:=by simp at c;omega
        have v:∀W,cw bF 70 #[J w] W λp f=>p=aO (aL bU)/\f=W:=by
         intro W;apply(xF w W e.2).mono;rintro p f⟨rfl,rfl⟩;exact⟨pY (by simp;omega),rfl⟩
        clear c;go_wp2_with fail
        apply(l _).mono;rintro p o⟨rfl,m⟩;subst o;go_wp2_with fail
        apply(v _).mono;rintro p o⟨rfl,m⟩;subst o;go_wp2;go_roundw;case rel=>exact⟨n+1,g,by go_num,q,k.alloc _⟩
        case measure=>simp[intOf];omega
    .have c:n=y b:=by omega
     have q:=U (show fY b=0 by rw[C,c,gm];rfl);have k:=U i;have e:¬(n:X)<(y b:X):=by omega
     clear C i c;go_wp2;go_ret;exact⟨by rw[ae q];rfl,k⟩
structure SR where
 aN:M
 mem:X
 wH:X
 closed:Bool
 memory:aa
 iT:M
 bB:M
 l0:aa
 l1:aa
 l2:aa
 l3:aa
 next:M
 ia:M
 lT:Option M
 log:M
 gC:Bool
 vF:Bool
 kj:Bool
 ki:Bool
variable{n:SR}
def SR.cells(s:SR)(k:X):Array aa:=#[jn k,dr 0,aw s.aN,am s.mem,am s.wH,aL s.closed,.nilIface,s.memory,am s.iT,aI s.bB,s.l0,s.l1,s.l2,s.l3,aI s.next,am s.ia,.map s.lT,aI s.log,aL s.gC,aL s.vF,aL s.kj,aL s.ki]
def bK(w:Y)(a:M)(s:SR)(k:X):Prop:=w.heap[a]?=H (aq (s.cells k) 110 (0,0))
def bK.cell(h:bK a b n m){i:M}(c:(n.cells m)[i]?=H d):aS a (R b i)=H d:=by
 rw[bR h];exact c
def bK.cellAt(h:bK a b n m)(i:M)(e:(n.cells m).toList[i]?=H d):aS a (R b i)=H d:=h.cell (by rw[<-e];simp)
def bK.free{b i:M}(h:bK a b n m):a.frozen? (R b i)=bE:=dJ h
def bK.ar{S:fI}{w w':Y}(h:bK w b n m)(c:Z S w w')(a:¬S b):bK w' b n m:=(c.block b (aj h) a).trans h
def XL(w:Y)(t:aa):cw bF 48 #[.nilIface,t] w λe a=>e=aO (aL bE)/\a=w:=by
 go_in
 go_wp2;go_ret;exact⟨rfl,rfl⟩
def GX(w:Y):cw bF 68 #[.nilIface] w λe a=>e=aO .nilIface/\Below (z<|G w) w a:=by
 go_in
 go_wp2_with(go_at_call 48;refine(XL _ _).mono ?_;rintro e b⟨rfl,rfl⟩)
 go_ret;exact⟨rfl,(Below.refl _ w).alloc (ah _) _⟩
def ja(h:bK a b n m):cw bF 42 #[aw b] a λg f=>g=aO (lE<|if n.closed then 6 else 0)/\Below (z<|G a) a f:=by
 have c5:aS a (R b 5)=H (aL n.closed):=h.cell rfl;have i:aS a (R b 6)=H .nilIface:=h.cell rfl;have e:=GX a;cases hc:n.closed with
 |true=>
  rw[hc]at c5;clear h hc;go_in
  go_wp2;go_ret;exact⟨rfl,Below.refl _ _⟩
 |false=>
  rw[hc]at c5;clear h hc;go_in
  go_wp2_with(go_at_call 68;refine e.mono ?_;rintro g j⟨rfl,c⟩;have d:=U c;clear c)
  go_ret;exact⟨rfl,d⟩
def uZ(a:X)(i n:M):Bool:=if i=0 then decide (a<=(n:X))else decide (i<3)&&decide (a<(n:X))
def rE(i f:M)(x:Option Addr)(g:M)(h:bK a b n m)(k:i<4):cw bF 103 #[aw b,am i,I x f g] a λj e=>j=aO (aL<|uZ n.wH i f)/\e=a:=by
 have c4:aS a (R b 4)=H (am n.wH):=h.cell rfl;generalize n.wH=d at*;clear h;have c:i=0\/i=1\/i=2\/i=3:=by omega
 rcases c with rfl|rfl|rfl|rfl;(·(go_in);go_wp2;go_ret;exact⟨rfl,rfl⟩);(·(go_in);go_wp2;go_ret;exact⟨rfl,rfl⟩);(·(go_in);go_wp2;go_ret;exact⟨rfl,rfl⟩);(go_in);go_wp2;go_ret;exact⟨rfl,rfl⟩
section
open Go.Conc.Locks
def bK.gQ(h:bK a b n m)(j:X):bK (bZ a (R b 0)<|jn j) b n j:=by
 have:=aQ (i:=0) (u:=jn j) h;exact this
def IY(h:bK a b n 0):cw bF 109 #[aw b] a λj d=>j=aO (aL n.closed)/\bK d b n 0/\Z (λk=>k=b) a d:=by
 have g:=bK.cellAt h 0 rfl;have l:a.frozen? (R b 0)=bE:=h.free;have c:=h.gQ 1;have c5:=bK.cellAt c 5 rfl;have i:=bK.cellAt c 0 rfl;have m:(bZ a (R b 0)<|jn 1).frozen? (R b 0)=bE:=c.free;have e:=U<|show bK (bZ (bZ a (R b 0)<|jn 1) (R b 0)<|jn 0) b n 0/\Z (λk=>k=b) a (bZ (bZ a (R b 0)<|jn 1) (R b 0)<|jn 0)from⟨c.gQ 0,((Z.refl (λk=>k=b) a).setCell b 0 _<|.inl rfl).setCell b 0 _<|.inl rfl⟩;clear h c;go_enter_defers func109,ntmps109
 go_wp2_with(go_at_call 40;refine(lock_free (R b 0) _ g l).mono ?_;rintro j d⟨rfl,rfl⟩)
 refine eZ (f:=41) (args:=#[aw b]) (by simp) (by simp[go_sem]) ?_;apply(unlock_deferred (R b 0) .returning _ i m).mono;rintro j p o⟨rfl,rfl,rfl⟩;exact⟨_,gL rfl _ _ _,rfl,e⟩
end
def TQ(d:aa)(b a:X)(w:Y)(e:∃p,d=.pointer p)(h:¬(1<=b/\b<=32/\2<=a/\a<=6)):cw bF 27 #[d,eD #[am b,am a]] w λg f=>g=aO (dA #[fh none,lE 1])/\Z az w f:=by
 obtain⟨p,rfl⟩:=e;have c:=U<|show Z az w (ct w<|aq #[am b,am a] 78)from(Z.refl az w).alloc _;unfold lE;simp only[Int.reduceEq,ke];by_cases i:b<1;(.clear h;(go_in);go_wp2;(go_ret2);exact⟨rfl,c⟩);by_cases j:32<b;(.clear h;(go_in);go_wp2;(go_ret2);exact⟨rfl,c⟩);by_cases k:a<2;(.clear h;(go_in);go_wp2;(go_ret2);exact⟨rfl,c⟩);have l:6<a:=by omega
 clear h;go_in
 go_wp2;go_ret2
 exact⟨rfl,c⟩
def SR.fresh(c:M)(b a:X)(d:M):SR:=⟨c,b,a,bE,aK,0,0,aK,aK,aK,aK,0,0,H d,0,bE,bE,bE,bE⟩
def Im(a:M):Array aa:=#[.func (.func 56) #[aw a] #[],.func (.func 57) #[aw a] #[],.func (.func 58) #[aw a] #[],.func (.func 59) #[aw a] #[]]
def jw.Zc(w:Y)(o:Obj):jw (ct (ct w o)<|.map #[] 0) (z (G w)+1) []:=by
 have h:=jw.new<|ct w o;have e:z (G<|ct w o)=z (G w)+1:=by simp
 rw[e]at h;exact h
def Wc(q:M)(e a:X)(w:Y)(ho:1<=e/\e<=32/\2<=a/\a<=6)(p t u v x:Y->Prop)(o:∀W,Z az w W->bK W (z (G w)+2) (SR.fresh q e a<|z (G w)+1) 0->jw W (z (G w)+1) []->z (G W)=z (G w)+4->p W)(C:∀W,p W->cw bF 56 #[aw<|z (G w)+2] W λn k=>n=aO .nilIface/\t k/\k.heap[z (G w)+3]?=W.heap[z (G w)+3]?)(D:∀W,t W->cw bF 57 #[aw<|z (G w)+2] W λn k=>n=aO .nilIface/\u k/\k.heap[z (G w)+3]?=W.heap[z (G w)+3]?)(E:∀W,u W->cw bF 58 #[aw<|z (G w)+2] W λn k=>n=aO .nilIface/\v k/\k.heap[z (G w)+3]?=W.heap[z (G w)+3]?)(F:∀W,v W->cw bF 59 #[aw<|z (G w)+2] W λn k=>n=aO .nilIface/\x k/\k.heap[z (G w)+3]?=W.heap[z (G w)+3]?):cw bF 27 #[aw q,eD #[am e,am a]] w λn k=>n=aO (dA #[aw<|z (G w)+2,.nilIface])/\x k:=by
 obtain⟨o1,o2,o3,o4⟩:=ho;have e1:¬e<1:=by omega
 have e2:¬32<e:=by omega
 have e3:¬a<2:=by omega
 have e4:¬6<a:=by omega
 have P:∀b w,(callFunc 56 b).run bF w=.ok (.enter 56 b) w:=enters_of func56 (by kernel_rfl) rfl;have Q:∀b w,(callFunc 57 b).run bF w=.ok (.enter 57 b) w:=enters_of func57 (by kernel_rfl) rfl;have S:∀b w,(callFunc 58 b).run bF w=.ok (.enter 58 b) w:=enters_of func58 (by kernel_rfl) rfl;have T:∀b w,(callFunc 59 b).run bF w=.ok (.enter 59 b) w:=enters_of func59 (by kernel_rfl) rfl;obtain⟨B,K,L,N,O⟩:=jR (show p (ct (ct (ct (ct w<|aq #[am e,am a] 78)<|.map #[] 0)<|aq ((SR.fresh q e a<|z (G w)+1).cells 0) 110)<|aq (Im<|z (G w)+2) 64)/\(ct (ct (ct (ct w<|aq #[am e,am a] 78)<|.map #[] 0)<|aq ((SR.fresh q e a<|z (G w)+1).cells 0) 110)<|aq (Im<|z (G w)+2) 64).heap[z (G w)+3]?=H (aq (Im<|z (G w)+2) 64 (0,0))from⟨o _ (((((Z.refl az w).alloc _).alloc _).alloc _).alloc _) ((fX _<|by simp).trans<|aC _<|by simp) (((jw.Zc w _).alloc _).alloc _) (by simp),aC _<|by simp⟩) C D E F;clear o1 o2 o3 o4 o C D E F;have V:=@tG bF;go_in
 go_wp2;go_loopw [44] (λi wr=>∃(r:M),r<=4/\i=am r/\((r=0/\p wr)\/(r=1/\t wr)\/(r=2/\u wr)\/(r=3/\v wr)\/(r=4/\x wr))/\wr.heap[z (G w)+3]?=H (aq (Im<|z (G w)+2) 64 (0,0))) (λi _=>4-(intOf i).toNat)
 case atStart=>exact⟨0,by omega,by go_num,.inl ⟨rfl,B.1⟩,B.2⟩
 (case round=>obtain⟨r,hj,rfl,f,j⟩:=hrel;have f0:=cellAt j 0 rfl;have f1:=cellAt j 1 rfl;have f2:=cellAt j 2 rfl;have f3:=cellAt j 3 rfl;have l:=U j;clear j;rcases f with⟨rfl,f⟩|⟨rfl,f⟩|⟨rfl,f⟩|⟨rfl,f⟩|⟨rfl,f⟩;(.have m:=K wr f;clear f;(go_wp2_with(go_at_fn 56;refine m.mono ?_;rintro n A⟨rfl,c,d⟩;have i:=U c;have g:=U<|d.trans l;clear c d));go_roundw;(case rel=>exact⟨1,by omega,by go_num,.inr<|.inl ⟨rfl,i⟩,g⟩);case measure=>simp[intOf]);(.have m:=L wr f;clear f;(go_wp2_with(go_at_fn 57;refine m.mono ?_;rintro n A⟨rfl,c,d⟩;have i:=U c;have g:=U<|d.trans l;clear c d));go_roundw;(case rel=>exact⟨2,by omega,by go_num,.inr<|.inr<|.inl ⟨rfl,i⟩,g⟩);case measure=>simp[intOf]);(.have m:=N wr f;clear f;(go_wp2_with(go_at_fn 58;refine m.mono ?_;rintro n A⟨rfl,c,d⟩;have i:=U c;have g:=U<|d.trans l;clear c d));go_roundw;(case rel=>exact⟨3,by omega,by go_num,.inr<|.inr<|.inr<|.inl ⟨rfl,i⟩,g⟩);case measure=>simp[intOf]);(.have m:=O wr f;clear f;(go_wp2_with(go_at_fn 59;refine m.mono ?_;rintro n A⟨rfl,c,d⟩;have i:=U c;have g:=U<|d.trans l;clear c d));go_roundw;(case rel=>exact⟨4,by omega,by go_num,.inr<|.inr<|.inr<|.inr<|⟨rfl,i⟩,g⟩);case measure=>simp[intOf]);have s:=U f;clear f;go_wp2;(go_ret2);exact⟨rfl,s⟩)
def zF(l:iB):Prop:=l.Pairwise<|λa b=>ie a.1 b.1=bU
def Aw(a k:ab):EN a k=!ie a k:=rfl
def DC(k v:ab)(l a:iB):l.foldl (fP k v) (a,bU)=(a++l.filter (λp=>!decide (p.1=k)),bU):=by
 induction l generalizing a with
 |nil=>simp
 |cons p r b=>
  rw[fO];by_cases h:p.1=k
  .have:fP k v (a,bU) p=(a,bU):=by simp[fP,h]
   rw[this,b];simp[h]
  .have:fP k v (a,bU) p=(a++[p],bU):=by simp[fP,h]
   rw[this,b];simp[h]
def Qz(k v:ab)(a:iB)(s:zF K):K.foldl (fP k v) (a,bE)=if K.all (λp=>ie p.1 k)then(a++K,bE)else(a++K.filter (λp=>ie p.1 k)++[(k,v)]++K.filter (λp=>ie k p.1),bU):=by
 induction K generalizing a with
 |nil=>simp
 |cons p r o=>
  obtain⟨l,m⟩:=bj.1 s;rw[fO];cases c:ie p.1 k with
  |true=>
   have b:=oa c;have h:EN p.1 k=bE:=by rw[Aw,c];rfl
   have:fP k v (a,bE) p=(a++[p],bE):=by simp[fP,b,h]
   rw[this,o _ m];simp only[ue,c,yL];split
   .simp
   .rw[eP (by simp[c]),de<|by simp[lI c]];simp
  |false=>
   have h:EN p.1 k=bU:=by rw[Aw,c];rfl
   have d:∀q∈r,ie k q.1=bU:=λq b=>xE c<|l q b;have e:r.filter (λp=>ie p.1 k)=[]:=gO.2 (λq b=>by simp[lI<|d q b]);have f:r.filter (λp=>ie k p.1)=r:=eX.2<|λq b=>d q b;have g:r.filter (λp=>!decide (p.1=k))=r:=eX.2 (λq b=>by have:=oa<|d q b;simp;exactλj=>this j.symm);by_cases i:p.1=k
   .have:fP k v (a,bE) p=(a++[(k,v)],bU):=by
     unfold fP;simp only[h];simp[i]
    rw[this,DC,g];simp only[ue,c,pT];rw[de (by simp[c]),e,de (by rw[i,fo];simp),f];simp
   .have:fP k v (a,bE) p=(a++[(k,v)]++[p],bU):=by simp[fP,h,i]
    have n:ie k p.1=bU:=by
     cases j:ie k p.1 with
     |true=>rfl
     |false=>exact absurd (nP c j) i
    rw[this,DC,g];simp only[ue,c,pT];rw[de (by simp[c]),e,eP (by simp[n]),f];simp
def Pg(o:zF K)(k v:ab)(g:Bool):vK K k v g=K.filter (λp=>ie p.1 k)++(if g then []else [(k,v)])++K.filter (λp=>ie k p.1):=by
 have h:K.filter (λp=>!decide (p.1=k))=K.filter (λp=>ie p.1 k)++K.filter (λp=>ie k p.1):=by
  clear v g;induction K with
  |nil=>rfl
  |cons p r n=>
   obtain⟨j,l⟩:=bj.1 o;cases e:ie p.1 k with
   |true=>
    rw[eP (by simp[oa e]),eP (by simp[e]),de (by simp[lI e]),n l];rfl
   |false=>
    have d:∀q∈r,ie k q.1=bU:=λq c=>xE e<|j q c;have a:r.filter (λp=>ie p.1 k)=[]:=gO.2 (λq c=>by simp[lI<|d q c]);have b:r.filter (λp=>ie k p.1)=r:=eX.2<|λq c=>d q c;have f:r.filter (λp=>!decide (p.1=k))=r:=eX.2 (λq c=>by have:=oa<|d q c;simp;exactλi=>this i.symm);by_cases g:p.1=k
    .rw[de (by simp[g]),de (by simp[e]),de (by rw[g,fo];simp),a,b,f];rfl
    .have m:ie k p.1=bU:=by
      cases i:ie k p.1 with
      |true=>rfl
      |false=>exact absurd (nP e i) g
     rw[eP (by simp[g]),de (by simp[e]),eP (by simp[m]),a,b,f];rfl
 unfold vK pW;cases g with
 |true=>
  rw[DC];simp only[cC,ite_true,dI];exact h
 |false=>
  rw[Qz k v [] o];by_cases e:K.all (λp=>ie p.1 k)=bU
  .rw[dw e];rw[nL]at e;have a:K.filter (λp=>ie p.1 k)=K:=eX.2 e;have b:K.filter (λp=>ie k p.1)=[]:=gO.2 (λq c=>by simp[lI<|e q c]);rw[a,b];simp
  .rw[cY e];simp
def Tp(h:zF K)(k v:ab)(d:Bool):zF (vK K k v d):=by
 rw[Pg h];refine bP.2 ⟨bP.2 ⟨lA eW h,?_,?_⟩,lA eW h,?_⟩;cases d<;>simp
 .intro c a e b;cases d with
  |true=>simp at b
  |false=>simp at a b;rw[b];exact a.2
 .intro c a e b;simp only[cU]at b;rcases ak.1 a with a|a
  .simp only[cU]at a;exact lH a.2 b.2
  .cases d with
   |true=>simp at a
   |false=>simp at a;rw[a];exact b.2
def TZ(h:zF K){d:ab}{p:KV}:p∈vK K v d D↔(p.1≠v/\p∈K)\/(D=bE/\p=(v,d)):=by
 rw[Pg h];simp only[ak,cU];constructor
 .rintro((⟨a,b⟩|a)|⟨a,b⟩)
  .exact .inl ⟨oa b,a⟩
  .cases D with
   |true=>simp at a
   |false=>simp at a;exact .inr ⟨rfl,a⟩
  .exact .inl ⟨λe=>oa b e.symm,a⟩
 .rintro(⟨a,b⟩|⟨rfl,rfl⟩)
  .cases c:ie p.1 v with
   |true=>exact .inl<|.inl ⟨b,rfl⟩
   |false=>
    cases e:ie v p.1 with
    |true=>exact .inr ⟨b,rfl⟩
    |false=>exact absurd (nP c e) a
  .exact .inl<|.inr<|by simp
def zF.ext{m:iB}(n:zF K)(o:zF m)(e:∀x,x∈K↔x∈m):K=m:=by
 induction K generalizing m with
 |nil=>
  cases m with
  |nil=>rfl
  |cons a r=>exact absurd ((e a).2<|by simp)<|by simp
 |cons x r i=>
  cases m with
  |nil=>exact absurd ((e x).1<|by simp)<|by simp
  |cons a s=>
   obtain⟨f,h⟩:=bj.1 n;obtain⟨g,j⟩:=bj.1 o;have d:x=a:=by
    rcases aA.1 ((e x).1<|by simp)with p|p
    .exact p
    .rcases aA.1 ((e a).2<|by simp)with q|q
     .exact q.symm
     .have l:=g x p;have k:=f a q;rw[lI l]at k;cases k
   subst d;congr 1;refine i h j<|λb=>⟨λc=>?_,λc=>?_⟩
   .rcases aA.1 ((e b).1<|aG _ c)with p|p
    .have:=f b c;rw[p,fo]at this;cases this
    .exact p
   .rcases aA.1 ((e b).2<|aG _ c)with p|p
    .have:=g b c;rw[p,fo]at this;cases this
    .exact p
def vr(a:dW)(l:iB):Prop:=zF l/\∀k v,(k,v)∈l↔seen a k=H v
def vr.congr{b:dW}(h:vr k K)(e:∀a,seen b a=seen k a):vr b K:=⟨h.1,λa v=>by rw[e a];exact h.2 a v⟩
def Ve(h:∀r∈k,r=[]):vr k []:=by
 refine⟨List.Pairwise.nil,λb v=>?_⟩;have:qM k b=none:=by unfold qM;rw[List.findSome?_eq_none_iff];intro r a;rw[h r a];rfl
 simp[seen,this]
def Vd(g:wM e)(h:vr (e::k) K)(b:E):vr (sQ e b::k) (vK K b.key b.val b.del):=by
 refine⟨Tp h.1 _ _ _,λf v=>?_⟩;rw[TZ h.1];simp only;have a:seen (sQ e b::k) f=if f=b.key then(if b.del then none else H b.val)else seen (e::k) f:=by unfold seen;rw[qi,qi,LU g];split;simp;rfl
 rw[a,h.2 f v];by_cases d:f=b.key
 .rw[dw d];cases hd:b.del with
  |true=>simp[d]
  |false=>simp[d];exact eq_comm
 rw[cY d];constructor;rintro(⟨_,c⟩|⟨_,c⟩);exact c;simp only[gV]at c;exact absurd c.1 d;intro c;exact .inl ⟨d,c⟩
def Sw(i:vr k K)(b:ab):qf K b=match seen k b with|some v=>(v,bU)|none=>(⟨#[]⟩,bE):=by
 have c:∀m:iB,(∀p∈m,p∈K)->(∀v,seen k b=H v->(b,v)∈m)->qf m b=match seen k b with|some v=>(v,bU)|none=>(⟨#[]⟩,bE):=by
  intro m;induction m with
  |nil=>
   intro _ d;cases hs:seen k b with
   |none=>rfl
   |some v=>exact absurd (d v hs)<|by simp
  |cons p r h=>
   intro f d;unfold qf;split
   .rename_i a;have:seen k b=H p.2:=(i.2 b p.2).1 (by rw[<-a];exact f p<|by simp);rw[this]
   .rename_i a;refine h (λq g=>f q<|by simp[g])<|λv e=>?_;rcases aA.1 (d v e)with q|q
    .rw[<-q]at a;exact absurd rfl a
    .exact q
 exact c K (λp a=>a)<|λv e=>(i.2 b v).2 e
def yV(e:E):KV:=(e.key,e.val)
def Sv(o:vr k K)(l:∀g j,qM k g=H j->j.key=g)(i:ab)(m:wM e)(h:∀x,x∈e↔qM k x.key=H x/\ie x.key i=bE):(e.filter<|λj=>!j.del).map yV=K.filter (λp=>EN p.1 i):=by
 refine zF.ext ?_ (lA eW o.1)<|λp=>?_;unfold zF;rw[js];exact m.sub eW
 .obtain⟨g,v⟩:=p;simp only[aY,cU,Aw];rw[o.2 g v];constructor
  .rintro⟨x,⟨n,c⟩,b⟩;obtain⟨a,d⟩:=(h x).1 n;simp only[yV,gV]at b;obtain⟨rfl,rfl⟩:=b;have f:x.del=bE:=by simpa using c
   exact⟨by simp[seen,a,f],by simp[d]⟩
  .rintro⟨a,d⟩;unfold seen at a;cases hh:qM k g with
   |none=>rw[hh]at a;cases a
   |some x=>
    rw[hh]at a;simp only[qE]at a;have b:=l g x hh;cases c:x.del with
    |true=>rw[c]at a;cases a
    |false=>
     rw[c]at a;refine⟨x,⟨(h x).2 ⟨by rw[b];exact hh,by rw[b];simpa using d⟩,by simp[c]⟩,?_⟩;simp only[yV,gV];refine⟨b,?_⟩;simpa using a
def vY(c:ab)(a:X):iB->iB->iB
 |b,[]=>b
 |b,p::r=>if(!(c.toList==[])&&!ie p.1 c)=bU then b else if((y b:X)+1==a)=bU then b++[p]else vY c a (b++[p]) r
def Vl{a:ab}{r:iB}(h:0<m)(e:m<=y K):r.foldl (jN v a m) K=K:=by
 induction r with
 |nil=>rfl
 |cons p r d=>
  rw[fO];have:jN v a m K p=K:=by
   unfold jN rD;have b:decide (m<=0)=bE:=by simp;omega
   have c:decide ((y K:X)<m)=bE:=by simp;omega
   rw[b,c];simp
  rw[this,d]
def XJ{a:ab}{r:iB}(d:(a.toList==[])=bE)(b:∀p∈r,ie p.1 a=bE):r.foldl (jN v a m) K=K:=by
 induction r with
 |nil=>rfl
 |cons p r e=>
  rw[fO];have:jN v a m K p=K:=by
   unfold jN rD;have c:Op.bytesLess p.1.toList a.toList=bE:=b p (by simp);rw[d,c];simp
  rw[this,e<|λp a=>b p<|by simp[a]]
def Wv{b:ab}{a:iB}(o:zF K)(i:∀p∈K,ie p.1 v=bE)(l:m<=0\/(y a:X)<m):vY b m a K=K.foldl (jN v b m) a:=by
 induction K generalizing a with
 |nil=>rfl
 |cons p s r=>
  obtain⟨j,k⟩:=bj.1 o;have n:EN p.1 v=bU:=by rw[Aw,i p<|by simp];rfl
  have f:(decide (m<=0)||decide ((y a:X)<m))=bU:=by simpa using l
  unfold vY;split
  .rename_i c;simp at c;refine(XJ (by simpa using c.1) ?_).symm;intro q g;rcases aA.1 g with e|e
   .rw[e];exact c.2
   .cases d:ie q.1 b with
    |false=>rfl
    |true=>have:=lH (j q e) d;rw[c.2]at this;cases this
  .rename_i c;have h:jN v b m a p=a++[p]:=by
    unfold jN rD;rw[n,f];have:((b.toList==[])||Op.bytesLess p.1.toList b.toList)=bU:=by
     cases d:(b.toList==[])with
     |true=>rfl
     |false=>
      rw[d]at c;show(bE||ie p.1 b)=bU;simpa using c
    rw[this];rfl
   rw[fO,h];split
   .rename_i e;have:(y a:X)+1=m:=by simpa using e
    exact(Vl (by omega) (by simp;omega)).symm
   .rename_i e;refine r k (λq g=>i q<|by simp[g]) ?_;have:¬(y a:X)+1=m:=by simpa using e
    simp;omega
def Vm(l:iB)(d e:ab)(a:X):mJ l d e a=(l.filter<|λp=>EN p.1 d).foldl (jN d e a) []:=by
 unfold mJ;generalize([]:iB)=b;induction l generalizing b with
 |nil=>rfl
 |cons p r f=>
  cases c:EN p.1 d with
  |true=>rw[eP (by simp[c]),fO,fO,f]
  |false=>
   have:jN d e a b p=b:=by unfold jN rD;rw[c];simp
   rw[de (by simp[c]),fO,this,f]
def OL(l:vr k K)(h:∀j b,qM k j=H b->b.key=j)(c d:ab)(a:X)(g:wM e)(i:∀x,x∈e↔qM k x.key=H x/\ie x.key c=bE):vY d a [] ((e.filter<|λb=>!b.del).map yV)=mJ K c d a:=by
 have b:=Sv l h c g i;rw[Vm,<-b];refine Wv ?_ ?_ ?_;unfold zF;rw[js];exact g.sub eW;intro p f;rw[b,cU,Aw]at f;simpa using f.2;simp only[cK];omega
def BO(x a:E)(w:Y):cw bF 196 #[x.value,a.value] w λe f=>e=aO (aL<|ahead x a)/\f=ct (ct w<|aq #[J x.key,J x.val,aL x.del,aI x.bH] 164) (aq #[J a.key,J a.val,aL a.del,aI a.bH] 164):=by
 have b:ahead x a=(Op.bytesLess x.key.toList a.key.toList||((x.key.toList==a.key.toList)&&decide (a.bH<x.bH))):=by unfold ahead ie;congr 2;rw[wk];simp only[beq_iff_eq,jo];exact⟨λe=>by rw[e],Jy⟩
 rw[b];clear b;obtain⟨c,j,i,g⟩:=x;obtain⟨d,m,l,k⟩:=a;unfold E.value;simp only;cases h1:Op.bytesLess c.toList d.toList with
 |true=>
  go_in
  go_wp2;go_ret;exact⟨rfl,rfl⟩
 |false=>
  cases h2:(c.toList==d.toList)with
  |true=>
   go_in
   go_wp2;go_ret;exact⟨by simp,rfl⟩
  |false=>
   go_in
   go_wp2;go_ret;exact⟨by simp,rfl⟩
def zi{f:M}(B:Array aa)(o:M)(p:M->Bool)(w:Y)(D:Enters bF f)(hn:o<=1000000000000)(F:∀ac Q,ac<=Q->Q<o->p ac=bU->p Q=bU)(E:∀j,j<o->∀W,Below (z<|G w) w W->cw bF f (#[am j]++B) W λC P=>C=aO (aL<|p j)/\Below (z<|G W) W P):cw bF 225 #[am o,.func (.func f) #[] B] w λC w'=>∃N:M,C=aO (am N)/\N<=o/\(∀j,j<N->p j=bE)/\(∀j,N<=j->j<o->p j=bU)/\Below (z<|G w) w w':=by
 have eg:∀a w,(callFunc f a).run bF w=.ok (.enter f a) w:=D;have L:∀(x:Bool)(w:Y),(Op.unary .not<|aL x).run bF w=.ok (aL<|!x) w:=λ_ _=>rfl;have A:=U F;have O:=U E;clear F E D;go_in
 go_wp2;go_loopw [5,6] (λj a wr=>∃g e:M,j=am g/\a=am e/\g<=e/\e<=o/\(∀t,t<g->p t=bE)/\(∀t,e<=t->t<o->p t=bU)/\Below (z<|G w) w wr) (λj a _=>(intOf a).toNat-(intOf j).toNat)
 case atStart=>exact⟨0,o,rfl,rfl,bw _,ah _,λt h=>by omega,λt u h=>by omega,Below.refl _ _⟩
 case round=>
  obtain⟨g,e,rfl,rfl,S,l,r,s,b⟩:=hrel;obtain⟨v,x,k⟩:=dB r s b;by_cases T:g<e
  .obtain⟨m,V⟩:∃m:M,(g+e)/2=m:=⟨_,rfl⟩;have n:m<o:=by omega
   have a:=O m n wr b;have K:((g:X)+(e:X))/2=(m:X):=by omega
   clear r s b;cases hp:p m with
   |false=>
    rw[hp]at a;have q:=U (λt(u:t<m+1)=>(show p t=bE from by
     cases c:p t with
     |false=>rfl
     |true=>have:=A t m (by omega) n c;rw[hp]at this;cases this))
    clear hp;go_wp2_with(go_at_fn f;refine a.mono ?_;rintro C w1⟨rfl,d⟩;have i:=U d;clear d)
    go_roundw;case rel=>exact⟨m+1,e,by go_num,rfl,by omega,l,q,x,k.trans<|i.mono k.size⟩
    case measure=>simp[intOf];omega
   |true=>
    rw[hp]at a;have q:=U<|λt(u:m<=t)(a:t<o)=>A m t u a hp;clear hp;go_wp2_with(go_at_fn f;refine a.mono ?_;rintro C w1⟨rfl,d⟩;have i:=U d;clear d)
    go_roundw;case rel=>exact⟨g,m,rfl,by go_num,by omega,by omega,v,q,k.trans<|i.mono k.size⟩
    case measure=>simp[intOf];omega
  .have a:g=e:=by omega
   subst a;clear r s b;go_wp2;go_ret;exact⟨g,rfl,l,v,x,k⟩
def aE(l:cA):iV:=l.flatMap E.cells
def fM(l:cA):y (aE l)=y l*4:=by
 induction l with
 |nil=>rfl
 |cons e r a=>unfold aE at*;rw[dH,af,a];simp[E.cells];omega
def fN(a b:cA):aE (a++b)=aE a++aE b:=by simp[aE]
def eA(l:cA)(n:M)(h:n<y l):(aE l)[n*4]?=H (J l[n].key)/\(aE l)[n*4+1]?=H (J l[n].val)/\(aE l)[n*4+2]?=H (aL l[n].del)/\(aE l)[n*4+3]?=H (aI l[n].bH):=by
 have e:aE l=aE (l.take n)++(E.cells l[n]++aE (l.drop<|n+1)):=by(have b:l=l.take n++l[n]::l.drop (n+1):=by rw[<-bD h,bW]);(conv=>lhs;rw[b]);simp only[aE,fZ,dH]
 have a:y (aE<|l.take n)=n*4:=by rw[fM];simp;omega
 refine⟨?_,?_,?_,?_⟩;rw[e,dD (by omega),a];simp[E.cells];rw[e,dD (by omega),a,show n*4+1-n*4=1 by omega];simp[E.cells];rw[e,dD (by omega),a,show n*4+2-n*4=2 by omega];simp[E.cells];rw[e,dD (by omega),a,show n*4+3-n*4=3 by omega];simp[E.cells]
def ku(w:Y)(v:aa)(l:cA):Prop:=Row w 4 v (y l)<|aE l
def ku.below{B:M}(n:ku a d e)(k:Below B a f)(m:∀o,bV d=H o->o<B):ku f d e:=by
 obtain⟨h,⟨rfl,j⟩|⟨i,b,c,rfl,g,l⟩⟩:=n;exact⟨h,.inl ⟨rfl,j⟩⟩;exact⟨h,.inr ⟨i,b,c,rfl,g,λn u j=>(k.cell (p:=(R i<|b+n))<|m i rfl).trans<|l n u j⟩⟩
def below_drewN{w wr:Y}(h:Below b w wr)(q:M):Below b w (wr.drewN q):=⟨h.os,h.tape,h.output,h.size,h.block⟩
def Il{b:ab}(h:v≠b):(v.toList==b.toList)=bE:=by
 cases c:(v.toList==b.toList)with
 |false=>rfl
 |true=>exact absurd (Jy<|by simpa using c) h
def ij.below{B b:M}(h:ij a b w)(c:Below B a f)(d:b<B):ij f b w:=(c.block b d).trans h
def NF(h:ku a d e)(i:dV a b d 102)(r:ij a c w)(j:M)(P:j<y e):cw bF 226 #[am j,aw b,aw c] a λac Q=>ac=aO (aL<|!ahead e[j] w)/\Below (z<|G a) a Q:=by
 have t:∀(w:Bool)(a:Y),(Op.unary .not<|aL w).run bF a=.ok (aL<|!w) a:=λ_ _=>rfl;have c1:=i.cell;obtain⟨S,T,V,W⟩:=r.cells;obtain⟨O,⟨rfl,h0⟩|⟨n,f,o,rfl,q,k⟩⟩:=h;omega;have l:=eA e j P;have s:=k _ _ l.1;have K:aS a (R n<|f+j*4+1)=H (J e[j].val):=by rw[aV];exact k _ _ l.2.1
 have L:aS a (R n<|f+j*4+2)=H (aL e[j].del):=by rw[aV];exact k _ _ l.2.2.1
 have N:aS a (R n<|f+j*4+3)=H (aI e[j].bH):=by rw[aV];exact k _ _ l.2.2.2
 have p:=λW=>BO e[j] w W;have e2:(j:X)<(y e:X):=by omega
 have e3:(0:X)<=(j:X):=by omega
 generalize e[j]=m at*;generalize ahead m w=ad at*;obtain⟨D,F,C,B⟩:=m;obtain⟨x,A,v,u⟩:=w;unfold E.value at p;simp only at p S T V W s K L N;have u1:=aj i;have u2:=aj r;have u3:n<z (G a):=da _ _ s;clear k l r i O q;go_in
 go_wp2_with fail
 go_region_held3(λg=>aS g (R b 0)=H (bC n f (y e) o)/\aS g (R n<|f+j*4)=H (J D)/\aS g (R n<|f+j*4+1)=H (J F)/\aS g (R n<|f+j*4+2)=H (aL C)/\aS g (R n<|f+j*4+3)=H (aI B)/\aS g (R c 0)=H (J x)/\aS g (R c 1)=H (J A)/\aS g (R c 2)=H (aL v)/\aS g (R c 3)=H (aI u)) (first|assumption|go_keep) (first|(go_at_call 196;refine(p _).mono ?_;rintro ac w1⟨rfl,rfl⟩))
 go_wp2;go_ret;have i:Below (z<|G a) a (ct (ct a<|aq #[J D,J F,aL C,aI B] 164)<|aq #[J x,J A,aL v,aI u] 164):=((Below.refl _ a).alloc (ah _) _).alloc (by simp) _;exact⟨rfl,i.os,i.tape,i.output,i.size,i.block⟩
def Bj(F:aa)(B:ab)(l:X)(w:Y)(h:ku w F e)(D:dQ e)(P:y e<=1000000000000)(E:∀l,bV F=H l->l<z (G w)):cw bF 181 #[F,J B,aI l] w λO V=>O=aO (am<|li e ⟨B,⟨#[]⟩,bE,l⟩)/\Below (z<|G w) w V:=by
 obtain⟨W,c⟩:∃W,ct (ct w<|aq #[F] 102) (aq #[J B,J ⟨#[]⟩,aL bE,aI l] 164)=W:=⟨_,rfl⟩;have t:Below (z<|G w) w W:=by rw[<-c];exact((Below.refl _ w).alloc (ah _) _).alloc (by simp) _
 have S:z (G W)=z (G w)+2:=by rw[<-c];simp
 have a:dV W (z<|G w) F 102:=by rw[<-c];exact dV.alloc (aC _ rfl) _
 have f:ij W (z (G w)+1) ⟨B,⟨#[]⟩,bE,l⟩:=by rw[<-c];exact aC _<|by simp
 have k:=zi #[aw<|z<|G w,aw<|z (G w)+1] (y e) (λC=>if u:C<y e then !ahead e[C] ⟨B,⟨#[]⟩,bE,l⟩else bU) W (enters_of func226 (by kernel_rfl) rfl) P (by
  intro C ac v g s;have x:C<y e:=by omega
  simp only[g,x,oE]at s|-;cases d:ahead e[ac] ⟨B,⟨#[]⟩,bE,l⟩with
  |false=>rfl
  |true=>rw[D.mono v g d]at s;cases s)
  (by
   intro C u N q;apply(NF (h.below (t.trans (q.mono (by omega))) E) ((q.block _ (by omega)).trans a) (f.below q (by omega)) C u).mono;rintro O X'⟨rfl,r⟩;simp only[u,oE];exact⟨trivial,r⟩)
 have o:=U k;obtain⟨al,ad,A⟩:=bL h;have K:=U t;clear k h D E t a f S;subst A;subst c;go_in
 go_wp2_with(go_at_call 225;refine o.mono ?_;rintro O w1⟨p,rfl,Q,i,j,a⟩;have L:=U<|show li e ⟨B,⟨#[]⟩,bE,l⟩=p from VV Q (λT m b=>by have:=i T b;simpa[m]using this) (λT m b=>by have:=j T b m;simpa[m]using this);have n:=U a;clear i j a)
 go_ret;rw[ae L];exact⟨rfl,K.trans<|n.mono (by simp;omega)⟩
def dV.same{V:jm}{n0:M}{S:fI}{t:TypeId}(h:dV a b d t)(e:jJ V n0 S a f)(c:S b):dV f b d t:=(e.2 b<|.inr c).trans h
def xS(c a b:M)(v:aa)(k:M):Prop:=k=a\/k=b\/(bV v=H k/\c<=k)
structure JM(V:jm)(n0:M)(w:Y)(xi xl:M)(v:aa)(l:cA)(i:M):Prop where
 bi:dV w xi (am i) 3
 bl:dV w xl v 102
 Yh:ku w v l
 il:xi≠xl
 own:∀k,bV v=H k->k≠xi/\k≠xl/\¬V.F k/\k<z (G w)
def JM.Yg(t:JM r b a c g d e l)(q:jJ r b (xS b c g d) a f):ku f d e:=by
 have s:=t.own;obtain⟨k,⟨rfl,n⟩|⟨m,h,i,rfl,j,o⟩⟩:=t.Yh;exact⟨k,.inl ⟨rfl,n⟩⟩;refine⟨k,.inr ⟨m,h,i,rfl,j,λv w p=>q.cell ?_<|o v w p⟩⟩;by_cases u:b<=m;exact .inl<|.inr<|.inr ⟨rfl,u⟩;exact .inr ⟨by omega,(s m rfl).2.2.1⟩
def RY(V:jm)(e b g:M)(C:aa)(n:cA)(hl:y n<=1000000000000):∀(al l:M)(ac:Y),al=y n-l->l<=y n->JM V e ac b g C n l->vq V e (xS e b g C) ac->Hx V e 319 #[aw b,aw g] (n.drop l) (xS e b g C) ac:=by
 intro al;induction al with
 |zero=>
  intro l ac L hi f p;have a:l=y n:=by omega
  subst a;rw[gm];refine⟨p,λc i t=>?_⟩;have h0:=(f.bi.same i<|.inl rfl).cell;have h1:=(f.bl.same i<|.inr<|.inl rfl).cell;have F:=U<|λd(au:Z (xS e b g C) c d)=>V.fm t au p.apart;have e0:=aj<|f.bi.same i<|.inl rfl;have e1:=aj<|f.bl.same i<|.inr<|.inl rfl;obtain⟨ad,j,o⟩:=bL f.Yh;rw[o]at h1;clear f i t L hi o;go_in
  go_wp2;refine cI (fV rfl _ _ (z<|G c) ⟨⟨#[]⟩,⟨#[]⟩,bE,0⟩ _ _ rfl<|aC _ rfl) rfl ?_;refine⟨rfl,?_⟩;have q:Z (xS e b g C) c (ct c<|aq #[J ⟨#[]⟩,J ⟨#[]⟩,aL bE,aI 0] 164):=(Z.refl _ _).alloc _;exact⟨F _ q,q.mono<|λad o=>.inl<|.inl o⟩
 |succ al ih=>
  intro l ac L hi f p;have x:l<y n:=by omega
  rw[bD x];refine⟨p,λc i t=>?_⟩;have k:=f.bi.same i<|.inl rfl;have m:=f.bl.same i<|.inr<|.inl rfl;have h0:=k.cell;have ao:=k.free;have h1:=m.cell;have hE:=f.Yg i;have Q:=f.own;have n2:=f.il;obtain⟨F,HI,HO,HS⟩:=gx (λd(au:Z (xS e b g C) c d)=>V.fm t au p.apart) (λd(a:JM V e d b g C n (l+1))(f:vq V e (xS e b g C) d)=>ih (l+1) d (by omega) (by omega) a f) (p.same i) i.1;clear f i t L ih p;obtain⟨u,⟨rfl,an⟩|⟨s,a,j,rfl,w,r⟩⟩:=hE
  .omega
  have v:=eA n l x;have A:aS c (R s<|a+l*4)=H (J n[l].key):=r _ _ v.1;have N:aS c (R s<|a+l*4+1)=H (J n[l].val):=by rw[aV];exact r _ _ v.2.1
  have O:aS c (R s<|a+l*4+2)=H (aL n[l].del):=by rw[aV];exact r _ _ v.2.2.1
  have P:aS c (R s<|a+l*4+3)=H (aI n[l].bH):=by rw[aV];exact r _ _ v.2.2.2
  have e0:=aj k;have e1:=aj m;have e2:s<z (G c):=da _ _ A;have n1:b≠s:=λW=>(Q s rfl).1 W.symm;obtain⟨HE,E,D,HV⟩:=gx (show Row c 4 (bC s a (y n) j) (y n) (aE n)from⟨u,.inr ⟨s,a,j,rfl,w,r⟩⟩) m k Q;clear v k m r Q u w;generalize n[l]=ad at*;obtain⟨xk,xv,xd,xb⟩:=ad;simp only at A N O P;go_in
  go_wp2;refine cI (fV rfl _ _ (z<|G c) ⟨xk,xv,xd,xb⟩ _ _ rfl<|aC _ gz.symm) rfl ?_;refine⟨rfl,?_⟩;have q:Z (λS=>S=b) c (ct (bZ c (R b 0)<|am<|l+1)<|aq #[J xk,J xv,aL xd,aI xb] 164):=((Z.refl (λS=>S=b) c).setCell b 0 _<|.inl rfl).alloc _;have B:Z (xS e b g<|bC s a (y n) j) c _:=q.mono (T:=xS e b g<|bC s a (y n) j)<|λad o=>.inl<|.inl o;refine⟨F _ B,B.mono<|λad o=>.inl<|.inl o,xS e b g _,λS K=>.inl K,HI _ ?_<|HO.ar q⟩;refine⟨(D.set _).alloc _,(E.other _<|λW=>n2 W.symm).alloc _,q.row HE ?_,n2,λS K=>?_⟩
  .rintro S⟨⟩;exact⟨λW=>n1 W.symm,e2⟩
  .obtain⟨q1,q2,q3,q4⟩:=HV S K;exact⟨q1,q2,q3,ag q4<|aD HS q.size⟩
def LQ(V:jm)(m:M)(i:ab)(h:ku a d e)(F:dQ e)(t:∀L∈e,L.bH<18446744073709551616)(N:y e<=1000000000000)(u:∀k,bV d=H k->¬V.F k/\k<z (G a))(hn:m<=z (G a))(hF:∀k,V.F k->k<m):cw bF 317 #[d,J i] a λA S=>∃Q al,A=aO Q/\jl V m Q (fQ i e) al S/\Below (z<|G a) a S/\(∀k,al k->(bV d=H k/\m<=k)\/z (G a)<=k):=by
 have O:=λW(o:Below (z<|G a) a W)=>Bj d i 18446744073709551615 W (by
  obtain⟨p,⟨rfl,C⟩|⟨B,b,c,rfl,l,D⟩⟩:=h
  .exact⟨p,.inl ⟨rfl,C⟩⟩
  .exact⟨p,.inr ⟨B,b,c,rfl,l,λP ad E=>(o.cell (p:=(R B (b+P))) (u B rfl).2).trans (D P ad E)⟩⟩) F N (λa q=>ag (u a q).2 o.size)
 obtain⟨HP,v,w⟩:=dB O (show fQ i e=e.drop (li e ⟨i,⟨#[]⟩,bE,18446744073709551615⟩)from(QX F i _ _ (λL a=>by have:=t L a;omega)).symm)<|ID e ⟨i,⟨#[]⟩,bE,18446744073709551615⟩;have K:=bL h;obtain⟨HH,x,HF⟩:=dB h u hF;clear O u h F hF t;generalize li e ⟨i,⟨#[]⟩,bE,18446744073709551615⟩=T at*;obtain⟨L,c,rfl⟩:=K;go_in
 go_wp2_with(go_at_call 181;refine(HP _<|(Below.refl _ a).alloc (ah _) _).mono ?_;rintro A n⟨rfl,r⟩;have W:=U r;clear r)
 go_ret;have q:=ae W;have ac:z (G a)+1<=z (G n):=by have:=q.size;simpa using this
 have g:Below (z<|G a) a n:=((Below.refl _ a).alloc (ah _) _).trans (q.mono<|by simp);have f:Below (z<|G a) a (ct n<|aq #[am T] 3):=g.alloc g.size _;have s:dV n (z<|G a) (I L (y e) c) 102:=(q.block (z<|G a)<|by simp).trans<|aC _ rfl;refine⟨_,xS m (z<|G n) (z<|G a)<|I L (y e) c,rfl,⟨319,_,rfl,enters_of func319 (by kernel_rfl) rfl,?_⟩,f,?_⟩;rw[ae v];refine RY V m (z<|G n) (z<|G a) (I L (y e) c) e N _ T _ rfl w ⟨aC _ rfl,s.alloc _,?_,by omega,λk j=>?_⟩ ⟨by simp;omega,HF,λk j=>?_⟩;obtain⟨p,⟨A,C⟩|⟨B,b,o,A,l,D⟩⟩:=ae HH;exact⟨p,.inl ⟨A,C⟩⟩;refine⟨p,.inr ⟨B,b,o,A,l,λP ad E=>(f.cell (p:=(R B<|b+P)) ?_).trans<|D P ad E⟩⟩;exact(x B (by rw[A];rfl)).2;obtain⟨o,q2⟩:=x k j;exact⟨by omega,by omega,o,by simp;omega⟩;rcases j with rfl|rfl|⟨j,o⟩;exact⟨by omega,by simp⟩;exact⟨by omega,by simp;omega⟩;exact⟨o,by have:=(x k j).2;simp;omega⟩;rintro k(rfl|rfl|j);right;omega;right;omega;left;exact j
def rq(a:T->E->Bool)(Ef:T->E->T):T->cA->cA
 |_,[]=>[]
 |s,x::r=>if a s x then x::rq a Ef (Ef s x) r else rq a Ef (Ef s x) r
structure BQ(σ:Type)(V:jm)(n0:M)where
 f:M
 cb:Array aa
 test:σ->E->Bool
 Ef:σ->E->σ
 inv:σ->Y->Prop
 S:M->Prop
 SN:Enters bF f
 call:∀s x w,inv s w->cw bF f (#[x.value]++cb) w λe w'=>e=aO (aL<|test s x)/\inv (Ef s x) w'/\Z S w w'
 fm:∀s w w',inv s w->(∀k,S k->w'.heap[k]?=w.heap[k]?)->inv s w'
 lt:∀s w,inv s w->∀k,S k->n0<=k/\k<z (G w)
structure lS{σ:Type}{V:jm}{n0:M}(K:BQ σ V n0)(w:Y)(xn xk f:M)(cb:Array aa)(s:σ)(l:cA)(S:fI):Prop where
 bn:dV w xn (.func (.func f) #[] cb) 174
 bk:dV w xk (.func (.func K.f) #[] K.cb) 345
 SN:Enters bF f
 run:Hx V n0 f cb l S w
 inv:K.inv s w
 own:n0<=xn/\n0<=xk
 nS:∀k,S k->k≠xn/\k≠xk/\¬K.S k
 nK:∀k,K.S k->k≠xn/\k≠xk
def AL(K:BQ T r b)(c a:M)(S:fI)(k:M):Prop:=k=c\/k=a\/S k\/K.S k
def lS.same{V:jm}{n0:M}{K:BQ T V n0}{j:Array aa}{s:T}{S:fI}(h:lS K a b c g j s e S)(d:jJ V n0 (AL K b c S) a f):lS K f b c g j s e S:=⟨h.bn.same d<|.inl rfl,h.bk.same d<|.inr<|.inl rfl,h.SN,h.run.same<|d.mono<|λ_ i=>.inr<|.inr<|.inl i,K.fm s a f h.inv<|λk i=>d.2 k<|.inr<|.inr<|.inr<|.inr i,h.own,h.nS,h.nK⟩
def lS.pB{K:BQ T r b}{s:T}(h:lS K a c g l V s e W):vq r b (AL K c g W) a:=⟨h.run.own.size,h.run.own.aN,by
 rintro k(rfl|rfl|d|d)
 .exact⟨h.own.1,aj h.bn⟩
 .exact⟨h.own.2,aj h.bk⟩
 .exact h.run.own.each k d
 .exact K.lt s a h.inv k d⟩
def lS.Tc{K:BQ T r b}{s:T}{j:fI}(h:lS K a c g l V s e W)(n:Z (λk=>W k\/r.F k) a f)(p:∀k,j k->W k\/z (G a)<=k)(q:Hx r b l V L j f):lS K f c g l V s L j:=by
 have o:=h.pB;have hF:∀k,b<=k->¬r.F k:=λk i a=>by have:=o.aN k a;omega
 refine⟨(n.block c (aj h.bn) ?_).trans h.bn,(n.block g (aj h.bk) ?_).trans h.bk,h.SN,q,K.fm s a f h.inv<|λk i=>n.block k (K.lt s a h.inv k i).2 ?_,h.own,λk i=>?_,h.nK⟩;rintro(d|d);exact(h.nS c d).1 rfl;exact hF c h.own.1 d;rintro(d|d);exact(h.nS g d).2.1 rfl;exact hF g h.own.2 d;rintro(d|d);exact(h.nS k d).2.2 i;exact hF k (K.lt s a h.inv k i).1 d;rcases p k i with d|d;exact h.nS k d;refine⟨?_,?_,?_⟩;rintro rfl;have:=aj h.bn;omega;rintro rfl;have:=aj h.bk;omega;intro m;have:=(K.lt s a h.inv k m).2;omega
def lS.kept{σ:Type}{K:BQ σ r b}{g d f:M}{s j:σ}(h:lS K a g d f V s e W)(i:Z K.S a C)(n:K.inv j C):lS K C g d f V j e W:=by
 have m:=h.pB;have hF:∀k,b<=k->¬r.F k:=λk c a=>by have:=m.aN k a;omega
 refine⟨(i.block g (aj h.bn)<|λl=>(h.nK g l).1 rfl).trans h.bn,(i.block d (aj h.bk)<|λl=>(h.nK d l).2 rfl).trans h.bk,h.SN,h.run.same ?_,n,h.own,h.nS,h.nK⟩;refine i.same h.run.own.size (λk c=>⟨(h.run.own.each k c).2,(h.nS k c).2.2⟩)<|λk c o=>?_;have:=(K.lt s a h.inv k c).1;omega
def lS.laid{K:BQ T r b}{s:T}(h:lS K a c g l V s e W)(o:Obj):lS K (ct a o) c g l V s e W:=h.kept ((Z.refl _ _).alloc o)<|K.fm s a _ h.inv<|λk d=>fX o (K.lt s a h.inv k d).2
def lS.apart{K:BQ T r b}{s:T}{n:fI}(i:lS K a c g l V s e W)(m:Z n a f)(h:∀k,n k->¬AL K c g W k/\b<=k):lS K f c g l V s e W:=i.same<|m.same i.run.own.size (λk d=>⟨(i.pB.each k d).2,λo=>(h k o).1 d⟩) (λk d j=>by have:=(h k d).2;omega)
def wK(w:Y)(b:M)(a:E):Y:=bZ (bZ (bZ (bZ w (R b 0)<|J a.key) (R b 1)<|J a.val) (R b 2)<|aL a.del) (R b 3)<|aI a.bH
def jb(w:Y)(b:M)(a:E):Z (λk=>k=b) w (wK w b a):=((((Z.refl (λk=>k=b) w).setCell b 0 _<|.inl rfl).setCell b 1 _<|.inl rfl).setCell b 2 _<|.inl rfl).setCell b 3 _<|.inl rfl
def zo(K:BQ T r b)(cu:Array aa)(ds:T)(hA:lS K a c g l cu ds e W)(hD:r.D a):cw bF 260 #[aw c,aw g] a λcv ce=>r.D ce/\Z (λu=>AL K c g W u\/r.F u) a ce/\((rq K.test K.Ef ds e=[]/\cv=aO (dA #[wP,aL bE,.nilIface]))\/(∃co N l' S',rq K.test K.Ef ds e=co::rq K.test K.Ef N l'/\cv=aO (dA #[co.value,aL bU,.nilIface])/\lS K ce c g l cu N l' S'/\y l'<y e/\(∀u,S' u->W u\/z (G a)<=u))):=by
 have eg:∀A a,(callFunc l A).run bF a=.ok (.enter l A) a:=hA.SN;have ek:∀A a,(callFunc K.f A).run bF a=.ok (.enter K.f A) a:=K.SN;have HA:=U hA;have HD:=U hD;clear hA hD;go_in
 go_wp2;go_loopg [5] (y e+1) (λd _ wr=>∃N l' S',y l'<d/\lS K wr c g l cu N l' S'/\r.D wr/\Z (λu=>AL K c g W u\/r.F u) a wr/\rq K.test K.Ef ds e=rq K.test K.Ef N l'/\(∀u,S' u->W u\/z (G a)+1<=u)/\y l'<=y e/\ij wr (z<|G a) ⟨⟨#[]⟩,⟨#[]⟩,bE,0⟩/\¬S' (z<|G a)/\¬K.S (z<|G a))
 (case atStart=>have h:=HA;refine⟨ds,e,W,by omega,h.laid _,r.fm HD ((Z.refl az a).alloc _) cG,(Z.refl _ _).alloc _,rfl,λu n=>.inl n,ah _,aC _ rfl,λv=>?_,λv=>?_⟩;have:=(h.run.own.each _ v).2;omega;have:=(K.lt _ _ h.inv _ v).2;omega)
 case round=>
  obtain⟨N,l',S',cb,V,bh,bl,ba,bk,cc,bi,bm,cd⟩:=hrel;have dv:=V.bn.cell;have L:=V.run;cases l' with
  |nil=>
   have hc:=L.2 wr (jJ.refl _ _ _ _) bh;have HN:=U bm;have O:=U V;have bg:=U bl;have Q:=U ba;have P:=U bi;have S:=U bk;clear L V bh bl ba bi bk bm cd cb cc;go_wp2_with(go_at_fn l;refine hc.mono ?_;rintro cv C⟨rfl,B,q⟩;have p:ij C (z<|G a) ⟨⟨#[]⟩,⟨#[]⟩,bE,0⟩:=P.ar q<|λv=>v.elim HN (λv=>by have:=O.pB.aN _ v;have:=HA.pB.size;omega);have bd:=p.cells;have bn:=p.free (i:=0);have bo:=p.free (i:=1);have bp:=p.free (i:=2);have bq:=p.free (i:=3);have d:=aj p;have an:=U p;have al:=U B;have au:=U q;clear p B q;unfold wP;obtain⟨cj,ck,cl,cm⟩:=bd)
   refine cI (fV rfl _ _ (z<|G a) ⟨⟨#[]⟩,⟨#[]⟩,bE,0⟩ _ _ rfl<|(an.put ⟨⟨#[]⟩,⟨#[]⟩,bE,0⟩).alloc _) rfl ?_;have ac:Z (λu=>u=z (G a)) C ((wK C (z<|G a) ⟨⟨#[]⟩,⟨#[]⟩,bE,0⟩).alloc<|aq #[J ⟨#[]⟩,J ⟨#[]⟩,aL bE,aI 0] 164):=(jb _ _ _).alloc _;have x:=HA.pB;refine⟨r.fm al ac (λu n hf=>by have:=x.aN u hf;have:=x.size;omega),?_,.inl ⟨Q.trans rfl,rfl⟩⟩;refine(bg.trans au ?_).trans ac (λu n=>.inr<|by omega);rintro u(n|n)
   .rcases S u n with v|v
    .exact .inl<|.inl<|.inr<|.inr<|.inl v
    .exact .inr<|by omega
   .exact .inl<|.inr n
  |cons co cs=>
   have hc:=L.2 wr (jJ.refl _ _ _ _) bh;have ch:rq K.test K.Ef N (co::cs)=if K.test N co then co::rq K.test K.Ef (K.Ef N co) cs else rq K.test K.Ef (K.Ef N co) cs:=rfl;rw[ch]at ba;have HN:=U bm;have bf:=U cd;have O:=U V;have bg:=U bl;have Q:=U ba;have P:=U bi;have S:=U bk;have cn:y cs<y e:=by simp at cc;omega
   have dn:y cs+1<gk:=by simpa using cb
   clear L V bh bl ba bi bk bm cd cb cc ch;have s:=K.call N co;obtain⟨j,k,f,d⟩:=co;unfold E.value at s hc;simp only at s hc;cases hte:K.test N ⟨j,k,f,d⟩with
   |true=>
    rw[hte]at s;have bt:=U (Q.trans<|by rw[dw hte]);clear Q hte;go_wp2_with(first
     |(go_at_fn l;refine hc.mono ?_;rintro cv C⟨rfl,B,q,S1,D,bb⟩;have hA1:=O.Tc q D bb;have o:=hA1.laid<|.cells #[.string j,.string k,.bool f,.int .u64 d] 164;have p:ij C (z<|G a) ⟨⟨#[]⟩,⟨#[]⟩,bE,0⟩:=P.ar q<|λv=>v.elim HN (λv=>by have:=O.pB.aN _ v;have:=HA.pB.size;omega);have cx:=o.bk.cell;have F:ij (ct C<|.cells #[.string j,.string k,.bool f,.int .u64 d] 164) (z<|G C) ⟨j,k,f,d⟩:=aC _ rfl;have bd:=F.cells;have w:=s _ o.inv;have bu:=U (show¬K.S (z<|G C)fromλv=>by have:=(K.lt _ _ hA1.inv _ v).2;omega);have bv:=U F;have ao:=U D;have ad:=U o;have an:=U p;have al:=U B;have au:=U q;clear p B q hA1 o bb D F;obtain⟨cj,ck,cl,cm⟩:=bd)
     |(go_at_fn K.f;refine w.mono ?_;rintro cv w2⟨rfl,ax,t⟩;have bc:ij w2 (z (G C)) ⟨j,k,f,d⟩:=bv.ar t bu;have m:ij w2 (z (G a)) ⟨⟨#[]⟩,⟨#[]⟩,bE,0⟩:=(an.alloc _).ar t bf;obtain⟨Av,cB,cE,cM⟩:=bc.cells;obtain⟨cT,db,dc,dd⟩:=m.cells;have bn:=m.free (i:=0);have bo:=m.free (i:=1);have bp:=m.free (i:=2);have bq:=m.free (i:=3);have bs:=U m;have br:=U (ad.kept t ax);have av:=U t;clear ax t bc m))
    refine cI (fV rfl _ _ (z<|G a) ⟨j,k,f,d⟩ _ _ rfl<|bs.put ⟨j,k,f,d⟩) rfl ?_;have ac:Z (λu=>u=z (G a)) w2 (wK w2 (z<|G a) ⟨j,k,f,d⟩):=jb _ _ _;have x:=HA.pB;have hA2:=ae br;have ca:=hA2.pB;have dm:z (G a)<z (G wr):=aj P;have dk:¬AL K c g S1 (z<|G a):=by
     rintro(v|v|v|v)
     .have:=(x.each c<|.inl rfl).2;omega
     .have:=(x.each g<|.inr<|.inl rfl).2;omega
     .rcases ao _ v with cp|cp
      .exact HN cp
      .omega
     .exact bf v
    have bx:=r.fm al (((Z.refl az C).alloc<|aq #[J j,J k,aL f,aI d] 164)) cG;have bT:=r.fm bx av (λu n hf=>by have:=ca.aN u hf;have:=(K.lt _ _ ad.inv u n).1;omega);refine⟨r.fm bT ac (λu n hf=>by have:=x.aN u hf;have:=x.size;omega),?_,.inr ⟨⟨j,k,f,d⟩,K.Ef N ⟨j,k,f,d⟩,cs,S1,bt,rfl,hA2.apart ac (λu n=>by rw[n];exact⟨dk,x.size⟩),cn,λu n=>?_⟩⟩
    .refine(((bg.trans au ?_).alloc _).trans av ?_).trans ac<|λu n=>.inr<|by omega
     .rintro u(n|n)
      .rcases S u n with v|v
       .exact .inl<|.inl<|.inr<|.inr<|.inl v
       .exact .inr<|by omega
      .exact .inl<|.inr n
     .exactλu n=>.inl<|.inl<|.inr<|.inr<|.inr n
    .rcases ao u n with v|v
     .rcases S u v with cp|cp
      .exact .inl cp
      .exact .inr<|by omega
     .exact .inr<|by omega
   |false=>
    rw[hte]at s;have bt:=U (Q.trans<|by rw[cY (by rw[hte];simp)]);clear Q hte;go_wp2_with(first
     |(go_at_fn l;refine hc.mono ?_;rintro cv C⟨rfl,B,q,S1,D,bb⟩;have hA1:=O.Tc q D bb;have o:=hA1.laid<|.cells #[.string j,.string k,.bool f,.int .u64 d] 164;have p:ij C (z<|G a) ⟨⟨#[]⟩,⟨#[]⟩,bE,0⟩:=P.ar q<|λv=>v.elim HN (λv=>by have:=O.pB.aN _ v;have:=HA.pB.size;omega);have cx:=o.bk.cell;have F:ij (ct C<|.cells #[.string j,.string k,.bool f,.int .u64 d] 164) (z<|G C) ⟨j,k,f,d⟩:=aC _ rfl;have bd:=F.cells;have w:=s _ o.inv;have bu:=U (show¬K.S (z<|G C)fromλv=>by have:=(K.lt _ _ hA1.inv _ v).2;omega);have bv:=U F;have ao:=U D;have ad:=U o;have an:=U p;have al:=U B;have au:=U q;clear p B q hA1 o bb D F;obtain⟨cj,ck,cl,cm⟩:=bd)
     |(go_at_fn K.f;refine w.mono ?_;rintro cv w2⟨rfl,ax,t⟩;have bc:ij w2 (z (G C)) ⟨j,k,f,d⟩:=bv.ar t bu;have m:ij w2 (z (G a)) ⟨⟨#[]⟩,⟨#[]⟩,bE,0⟩:=(an.alloc _).ar t bf;obtain⟨Av,cB,cE,cM⟩:=bc.cells;obtain⟨cT,db,dc,dd⟩:=m.cells;have bn:=m.free (i:=0);have bo:=m.free (i:=1);have bp:=m.free (i:=2);have bq:=m.free (i:=3);have bs:=U m;have br:=U (ad.kept t ax);have av:=U t;clear ax t bc m))
    go_roundg(y cs+1);case measure=>omega
    case rel=>
     have x:=HA.pB;have hA2:=ae br;have ca:=hA2.pB;have dm:z (G a)<z (G wr):=aj P;have bx:=r.fm al (((Z.refl az C).alloc<|aq #[J j,J k,aL f,aI d] 164)) cG;have bT:=r.fm bx av (λu n hf=>by have:=ca.aN u hf;have:=(K.lt _ _ ad.inv u n).1;omega);refine⟨K.Ef N ⟨j,k,f,d⟩,cs,S1,by omega,hA2,bT,?_,bt,λu n=>?_,by omega,bs,λv=>?_,bf⟩
     .refine((bg.trans au ?_).alloc _).trans av ?_
      .rintro u(n|n)
       .rcases S u n with v|v
        .exact .inl<|.inl<|.inr<|.inr<|.inl v
        .exact .inr<|by omega
       .exact .inl<|.inr n
      .exactλu n=>.inl<|.inl<|.inr<|.inr<|.inr n
     .rcases ao u n with v|v
      .exact S u v
      .exact .inr<|by omega
     .rcases ao _ v with cp|cp
      .exact HN cp
      .omega
def Ri(K:BQ T r b)(l k L:M)(j:Array aa):∀(t:M)(s:T)(n:cA)(S:fI)(w:Y),y n<=t->lS K w l k L j s n S->Hx r b 260 #[aw l,aw k] (rq K.test K.Ef s n) (AL K l k S) w:=by
 intro t;induction t with
 |zero=>
  intro s n S w B c;obtain rfl:n=[]:=aP (by omega);refine⟨c.pB,λq h g=>(zo K j s (c.same h) g).mono ?_⟩;rintro E d⟨e,f,⟨_,a⟩|⟨F,p,o,i,a,_⟩⟩
  .exact⟨a,e,f⟩
  .cases a
 |succ t C=>
  intro s n S w B c;cases hL:rq K.test K.Ef s n with
  |nil=>
   refine⟨c.pB,λq h g=>(zo K j s (c.same h) g).mono ?_⟩;rintro E d⟨e,f,⟨_,a⟩|⟨F,p,o,i,a,_⟩⟩
   .exact⟨a,e,f⟩
   .rw[hL]at a;cases a
  |cons D P=>
   refine⟨c.pB,λq h g=>(zo K j s (c.same h) g).mono ?_⟩;rintro E d⟨e,f,⟨a,_⟩|⟨F,p,o,i,a,v,x,N,A⟩⟩
   .rw[hL]at a;cases a
   .rw[hL]at a;obtain⟨rfl,rfl⟩:=yK a;refine⟨v,e,f,AL K l k i,?_,C p o i d (by omega) x⟩;rintro O(m|m|m|m)
    .exact .inl<|.inl m
    .exact .inl<|.inr<|.inl m
    .rcases A O m with u|u
     .exact .inl<|.inr<|.inr<|.inl u
     .exact .inr u
    .exact .inl<|.inr<|.inr<|.inr m
def KT(K:BQ T r b)(s:T)(B:jl r b d e W a)(g:K.inv s a)(m:∀k,W k->¬K.S k):cw bF 218 #[d,.func (.func K.f) #[] K.cb] a λC t=>∃q l,C=aO q/\jl r b q (rq K.test K.Ef s e) l t/\Below (z<|G a) a t/\(∀k,l k->W k\/K.S k\/z (G a)<=k):=by
 obtain⟨A,j,rfl,o,f⟩:=B;obtain⟨u,w,v,x⟩:=gx o f g m;clear o f g m;go_in
 go_wp2;go_ret;have f:=ae w;have g:=ae v;have n:Below (z<|G a) a (ct (ct a<|aq #[.func (.func A) #[] j] 174)<|aq #[.func (.func K.f) #[] K.cb] 345):=((Below.refl _ a).alloc (ah _) _).alloc (by simp) _;have p:Z az a (ct (ct a<|aq #[.func (.func A) #[] j] 174)<|aq #[.func (.func K.f) #[] K.cb] 345):=Z.aT n;refine⟨_,AL K (z<|G a) (z (G a)+1) W,rfl,⟨260,_,rfl,enters_of func260 (by kernel_rfl) rfl,?_⟩,n,?_⟩;refine Ri K (z<|G a) (z (G a)+1) A j _ s e W _ (ah _) ⟨?_,aC _ (by simp),u,f.same<|p.same f.own.size (λk c=>⟨(f.own.each k c).2,λi=>i⟩)<|λk c=>c.elim,K.fm s a _ g<|λk c=>?_,⟨f.own.size,by have:=f.own.size;omega⟩,λk c=>?_,λk c=>?_⟩;exact(dV.alloc (aC _ rfl) _);exact p.block k (K.lt s a g k c).2<|λi=>i;have:=(f.own.each k c).2;exact⟨by omega,by omega,x k c⟩;have:=(K.lt s a g k c).2;exact⟨by omega,by omega⟩;rintro k(i|i|i|i);exact .inr (.inr<|by omega);exact .inr (.inr<|by omega);exact .inl i;exact .inr<|.inl i
def TI(V:jm)(b:M):BQ Unit V b where
 f:=219
 cb:=#[]
 test:=λ_ e=>!e.del
 Ef:=λ_ _=>()
 inv:=λ_ _=>True
 S:=λ_=>False
 SN:=enters_of func219 (by kernel_rfl) rfl
 call:=by
  rintro _⟨e,g,d,c⟩w _;unfold E.value;simp only;have a:∀(x:Bool)(w:Y),(Op.unary .not<|aL x).run bF w=.ok (aL<|!x) w:=λ_ _=>rfl;show cw bF 219 #[eD #[J e,J g,aL d,aI c]] w _;go_in
  go_wp2;go_ret;exact⟨rfl,trivial,(Z.refl _ w).alloc _⟩
 fm:=λ_ _ _ _ _=>trivial
 lt:=λ_ _ _ _ a=>a.elim
def IC(l:cA)(s:Unit):rq (λ(_:Unit)e=>!e.del) (λ_ _=>()) s l=l.filter (λe=>!e.del):=by
 induction l generalizing s with
 |nil=>rfl
 |cons x r a=>
  unfold rq;cases h:x.del with
  |true=>simp[h,a]
  |false=>simp[h,a]
def KJ(s:jl r b d e W a):cw bF 163 #[d] a λl g=>∃f c,l=aO f/\jl r b f (e.filter<|λl=>!l.del) c g/\Below (z<|G a) a g/\(∀m,c m->W m\/z (G a)<=m):=by
 have p:=KT (TI r b) () s trivial<|λ_ _ n=>n;have q:=IC e ();have o:cw bF 218 #[d,.func (.func 219) #[] #[]] a λl g=>∃f c,l=aO f/\jl r b f (e.filter<|λl=>!l.del) c g/\Below (z<|G a) a g/\(∀m,c m->W m\/z (G a)<=m):=by apply p.mono;rintro l g⟨f,c,w,x,A,B⟩;refine⟨f,c,w,?_,A,λm C=>?_⟩;rw[<-q];exact x;rcases B m C with n|n|n;exact .inl n;exact n.elim;exact .inr n
 clear p q;obtain⟨F,D,rfl,_⟩:=s;go_in
 go_wp2_with(go_at_call 218;refine o.mono ?_;rintro l E⟨f,c,rfl,k,j,i⟩;have u:=U k;have t:=U j;have v:=U i;clear k j i)
 go_ret;exact⟨f,c,rfl,u,t,v⟩
def Zb(V:jm)(m e b:M)(n:X):BQ ab V m where
 f:=220
 cb:=#[aw e,aw b]
 test:=λs o=>decide (o.bH<=n)&&!decide (o.key=s)
 Ef:=λs o=>if o.bH<=n then o.key else s
 inv:=λs w=>dV w e (aI n) 103/\dV w b (J s) 9/\m<=b/\m<=e/\e≠b
 S:=λv=>v=e\/v=b
 SN:=enters_of func220 (by kernel_rfl) rfl
 call:=by
  rintro s⟨q,A,x,i⟩w⟨a,g,K,u,k⟩;unfold E.value;simp only;have C:=g.cell;have F:=g.free;have D:=a.cell;have t:=aj g;have p:=aj a;have j:=U g;have d:=U a;clear g a;show cw bF 220 #[eD #[J q,J A,aL x,aI i],aw e,aw b] w _;by_cases l:i<=n
  .have r:¬n<i:=by omega
   by_cases c:q=s
   .subst c;simp only[l,mu,uf,Bool.and_false,jf];go_in
    go_wp2;go_ret;exact⟨rfl,⟨d.alloc _,j.alloc _⟩,(Z.refl _ w).alloc _⟩
   .have B:=Il c;simp only[l,c,mu,zH,nr,Bool.and_true,jf];go_in
    go_wp2;go_ret;refine⟨rfl,⟨(d.other _ k).alloc _,(j.set _).alloc _⟩,?_⟩;exact((Z.refl _ w).setCell b 0 _<|.inl<|.inr rfl).alloc _
  .have r:n<i:=by omega
   simp only[l,zH,pT,ke];go_in
   go_wp2;go_ret;exact⟨rfl,⟨d.alloc _,j.alloc _⟩,(Z.refl _ w).alloc _⟩
 fm:=λs w a h c=>⟨(c e<|.inl rfl).trans h.1,(c b<|.inr rfl).trans h.2.1,h.2.2⟩
 lt:=λs w h v c=>by
  rcases c with rfl|rfl
  .exact⟨h.2.2.2.1,aj h.1⟩
  .exact⟨h.2.2.1,aj h.2.1⟩
def WH(c:X)(l:cA)(s:ab):rq (λs(e:E)=>decide (e.bH<=c)&&!decide (e.key=s)) (λs e=>if e.bH<=c then e.key else s) s l=mX s (l.filter<|λe=>decide<|e.bH<=c):=by
 induction l generalizing s with
 |nil=>rfl
 |cons x r b=>
  unfold rq;by_cases a:x.bH<=c
  .rw[eP<|by simp[a]];unfold mX;by_cases h:x.key=s
   .simp[h,a,b]
   .simp[h,a,b]
  .rw[de<|by simp[a]];simp[a,b]
structure AK(V:jm)(n0:M)(ls:dW)where
 f:M
 cb:Array aa
 inv:Y->Prop
 S:M->Prop
 SN:Enters bF f
 call:∀i(hi:i<y ls)w,inv w->V.D w->cw bF f (#[am i]++cb) w λe w'=>∃v' S',e=aO (dA #[v',.nilIface])/\jl V n0 v' ls[i] S' w'/\V.D w'/\Z V.F w w'/\(∀k,S' k->z (G w)<=k)
 fm:∀w w',inv w->jJ V n0 S w w'->inv w'
 lt:∀w,inv w->∀k,S k->n0<=k/\k<z (G w)
structure iK{V:jm}{n0:M}{ls:dW}(O:AK V n0 ls)(w:Y)(b c d g:M)(h:aa)(r:cA)(a:M)(S:fI):Prop where
 br:dV w b h 174
 ba:dV w c (am a) 3
 bn:dV w d (am<|y ls) 3
 bo:dV w g (.func (.func O.f) #[] O.cb) 425
 row:(h=.nilFunc/\r=[]/\∀k,¬S k)\/jl V n0 h r S w
 inv:O.inv w
 le:a<=y ls
 size:n0<=z (G w)
 aN:∀k,V.F k->k<n0
 own:n0<=b/\n0<=c/\n0<=d/\n0<=g
 ra:b≠c
 rn:b≠d
 ro:b≠g
 an:c≠d
 ao:c≠g
 nS:∀k,S k->k≠b/\k≠c/\k≠d/\k≠g/\¬O.S k
 nO:∀k,O.S k->k≠b/\k≠c/\k≠d/\k≠g
def mM{V:jm}{n0:M}{lsqq:dW}(O:AK V n0 lsqq)(b c d g:M)(S:fI)(k:M):Prop:=k=b\/k=c\/k=d\/k=g\/S k\/O.S k
def yU(r:cA)(lsqq:dW)(a:M):cA:=r++(lsqq.drop a).flatten
section
variable{V:jm}{n0:M}{lsqq:dW}{O:AK V n0 lsqq}{w w':Y}{b c d g:M}{h:aa}{r:cA}{a:M}{S:fI}
theorem iK.pB(e:iK O w b c d g h r a S):vq V n0 (mM O b c d g S) w:=⟨e.size,e.aN,by
 rintro k(rfl|rfl|rfl|rfl|f|f)
 .exact⟨e.own.1,aj e.br⟩
 .exact⟨e.own.2.1,aj e.ba⟩
 .exact⟨e.own.2.2.1,aj e.bn⟩
 .exact⟨e.own.2.2.2,aj e.bo⟩
 .rcases e.row with⟨_,_,i⟩|i
  .exact(i k f).elim
  .exact i.own.each k f
 .exact O.lt w e.inv k f⟩
theorem iK.same(e:iK O w b c d g h r a S)(f:jJ V n0 (mM O b c d g S) w w'):iK O w' b c d g h r a S:=⟨e.br.same f<|.inl rfl,e.ba.same f<|.inr<|.inl rfl,e.bn.same f<|.inr<|.inr<|.inl rfl,e.bo.same f<|.inr<|.inr<|.inr<|.inl rfl,e.row.imp id<|λj=>j.same<|f.mono<|λ_ i=>.inr<|.inr<|.inr<|.inr<|.inl i,O.fm w w' e.inv<|f.mono<|λ_ i=>.inr<|.inr<|.inr<|.inr<|.inr i,e.le,aD e.size f.1,e.aN,e.own,e.ra,e.rn,e.ro,e.an,e.ao,e.nS,e.nO⟩
theorem iK.apart{T:fI}(j:iK O w b c d g h r a S)(l:Z T w w')(i:∀k,T k->¬mM O b c d g S k/\(k<n0->V.F k)):iK O w' b c d g h r a S:=j.same<|l.same j.size (λk e=>⟨(j.pB.each k e).2,λm=>(i k m).1 e⟩)<|λk e f=>(i k e).2 f
theorem iK.laid(e:iK O w b c d g h r a S)(o:Obj):iK O (ct w o) b c d g h r a S:=e.apart ((Z.refl az w).alloc o) cG
theorem iK.Tc{p:cA}{m:fI}(e:iK O w b c d g h r a S)(j:Z (λk=>S k\/V.F k) w w')(q:∀k,m k->S k\/z (G w)<=k)(t:jl V n0 h p m w'):iK O w' b c d g h p a m:=by
 have o:=e.pB;have hF:∀k,n0<=k->¬V.F k:=λk f e=>by have:=o.aN k e;omega
 have l:∀k,k=b\/k=c\/k=d\/k=g->¬(S k\/V.F k):=by rintro k f(i|i);have:=e.nS k i;rcases f with rfl|rfl|rfl|rfl;exact this.1 rfl;exact this.2.1 rfl;exact this.2.2.1 rfl;exact this.2.2.2.1 rfl;rcases f with rfl|rfl|rfl|rfl;exact hF _ e.own.1 i;exact hF _ e.own.2.1 i;exact hF _ e.own.2.2.1 i;exact hF _ e.own.2.2.2 i
 refine⟨(j.block b (aj e.br)<|l _<|.inl rfl).trans e.br,(j.block c (aj e.ba)<|l _<|.inr<|.inl rfl).trans e.ba,(j.block d (aj e.bn)<|l _<|.inr<|.inr<|.inl rfl).trans e.bn,(j.block g (aj e.bo)<|l _<|.inr<|.inr<|.inr rfl).trans e.bo,.inr t,O.fm w w' e.inv<|j.same e.size (λk f=>⟨(O.lt w e.inv k f).2,?_⟩)<|λk f s=>?_,e.le,aD e.size j.size,e.aN,e.own,e.ra,e.rn,e.ro,e.an,e.ao,λk f=>?_,e.nO⟩;rintro(i|i);exact(e.nS k i).2.2.2.2 f;exact hF k (O.lt w e.inv k f).1 i;rcases f with i|i;have:=(o.each k<|.inr<|.inr<|.inr<|.inr<|.inl i).1;omega;exact i;rcases q k f with i|i;exact e.nS k i;refine⟨?_,?_,?_,?_,?_⟩;rintro rfl;have:=aj e.br;omega;rintro rfl;have:=aj e.ba;omega;rintro rfl;have:=aj e.bn;omega;rintro rfl;have:=aj e.bo;omega;intro n;have:=(O.lt w e.inv k n).2;omega
theorem iK.ended(e:iK O w b c d g h r a S)(j:Z (λk=>S k\/V.F k) w w'):iK O (bZ w' (R b 0) .nilFunc) b c d g .nilFunc [] a az:=by
 have t:=e.pB;have hF:∀k,n0<=k->¬V.F k:=λk f e=>by have:=t.aN k e;omega
 have l:∀k,k=b\/k=c\/k=d\/k=g->¬(S k\/V.F k):=by rintro k f(i|i);have:=e.nS k i;rcases f with rfl|rfl|rfl|rfl;exact this.1 rfl;exact this.2.1 rfl;exact this.2.2.1 rfl;exact this.2.2.2.1 rfl;rcases f with rfl|rfl|rfl|rfl;exact hF _ e.own.1 i;exact hF _ e.own.2.1 i;exact hF _ e.own.2.2.1 i;exact hF _ e.own.2.2.2 i
 have p:dV w' b h 174:=(j.block b (aj e.br)<|l _<|.inl rfl).trans e.br;have m:dV w' c (am a) 3:=(j.block c (aj e.ba)<|l _<|.inr<|.inl rfl).trans e.ba;have n:dV w' d (am<|y lsqq) 3:=(j.block d (aj e.bn)<|l _<|.inr<|.inr<|.inl rfl).trans e.bn;have o:dV w' g (.func (.func O.f) #[] O.cb) 425:=(j.block g (aj e.bo)<|l _<|.inr<|.inr<|.inr rfl).trans e.bo;have q:Z (λk=>(S k\/V.F k)\/k=b) w (bZ w' (R b 0) .nilFunc):=(j.mono (T:=λk=>(S k\/V.F k)\/k=b)<|λk f=>.inl<|.inl f).setCell b 0 _<|.inl<|.inr rfl;refine⟨p.set _,m.other _<|λs=>e.ra s.symm,n.other _<|λs=>e.rn s.symm,o.other _<|λs=>e.ro s.symm,.inl ⟨rfl,rfl,λ_ i=>i⟩,O.fm w _ e.inv<|q.same e.size (λk f=>⟨(O.lt w e.inv k f).2,?_⟩)<|λk f u=>?_,e.le,by rw[gz];exact aD e.size j.size,e.aN,e.own,e.ra,e.rn,e.ro,e.an,e.ao,cG,e.nO⟩;rintro((i|i)|i);exact(e.nS k i).2.2.2.2 f;exact hF k (O.lt w e.inv k f).1 i;exact(e.nO k f).1 i;rcases f with(i|i)|i;have:=(t.each k<|.inr<|.inr<|.inr<|.inr<|.inl i).1;omega;exact i;have:=e.own.1;subst i;omega
theorem iK.opened{s:aa}{p:fI}(A:a<y lsqq)(e:iK O w b c d g .nilFunc [] a S)(j:Z V.F w w')(C:jl V n0 s lsqq[a] p w')(D:∀k,p k->z (G w)<=k):iK O (bZ (bZ w' (R b 0) s) (R c 0)<|am<|(a:X)+1) b c d g s lsqq[a] (a+1) p:=by
 have hF:∀k,n0<=k->¬V.F k:=λk f i=>by have:=e.aN k i;omega
 have B:∀k,p k->k≠b/\k≠c/\k≠d/\k≠g/\¬O.S k:=λk f=>by have:=D k f;have E:=aj e.br;have F:=aj e.ba;have K:=aj e.bn;have L:=aj e.bo;exact⟨by omega,by omega,by omega,by omega,λo=>by have:=(O.lt w e.inv k o).2;omega⟩
 have x:dV w' b .nilFunc 174:=(j.block b (aj e.br)<|hF _ e.own.1).trans e.br;have t:dV w' c (am a) 3:=(j.block c (aj e.ba)<|hF _ e.own.2.1).trans e.ba;have u:dV w' d (am<|y lsqq) 3:=(j.block d (aj e.bn)<|hF _ e.own.2.2.1).trans e.bn;have v:dV w' g (.func (.func O.f) #[] O.cb) 425:=(j.block g (aj e.bo)<|hF _ e.own.2.2.2).trans e.bo;have l:O.inv w':=O.fm w w' e.inv<|j.same e.size (λk f=>⟨(O.lt w e.inv k f).2,hF k (O.lt w e.inv k f).1⟩)<|λk f _=>f;have n:Z (λk=>k=b\/k=c) w' (bZ (bZ w' (R b 0) s) (R c 0)<|am<|(a:X)+1):=((Z.refl (λk=>k=b\/k=c) w').setCell b 0 _<|.inl<|.inl rfl).setCell c 0 _<|.inl<|.inr rfl;have i:n0<=z (G w'):=aD e.size j.size;have m:∀k,(k=b\/k=c)->k<n0->V.F k:=by rintro k(rfl|rfl)o;have:=e.own.1;omega;have:=e.own.2.1;omega
 refine⟨(x.set _).other _ e.ra,(t.other _<|λq=>e.ra q.symm).set _,(u.other _<|λq=>e.rn q.symm).other _<|λq=>e.an q.symm,(v.other _<|λq=>e.ro q.symm).other _<|λq=>e.ao q.symm,.inr<|C.same<|n.same i (λk f=>⟨(C.own.each k f).2,?_⟩) m,O.fm w' _ l<|n.same i (λk f=>⟨(O.lt w' l k f).2,?_⟩) m,A,by rw[gz,gz];exact i,e.aN,e.own,e.ra,e.rn,e.ro,e.an,e.ao,B,e.nO⟩;rintro(o|o);exact(B k f).1 o;exact(B k f).2.1 o;rintro(o|o);exact(e.nO k f).1 o;exact(e.nO k f).2.1 o
end
def ow{P:Program}{w:Y}{b:M}{u:aa}{t:TypeId}(h:dV w b u t)(v:aa)(d:v.oneCell'=bU):(store (R b 0) v).run P w=.ok () (bZ w (R b 0) v):=by
 have a:=h.cell;have c:=h.free;rw[run_store P w _ _ _ d];simp[a,c]
abbrev zE:E:=⟨⟨#[]⟩,⟨#[]⟩,bE,0⟩
def Hp{O:AK r b k}{j:fI}(m:vq r b (mM O c g l B W) a)(p:iK O f c g l B d e P j)(q:r.D f)(t:Z (λi=>mM O c g l B W i\/r.F i) a f)(s:¬mM O c g l B j (z<|G a))(x:E)(o:Obj):r.D ((wK f (z<|G a) x).alloc o)/\Z (λi=>mM O c g l B W i\/r.F i) a ((wK f (z<|G a) x).alloc o)/\iK O ((wK f (z<|G a) x).alloc o) c g l B d e P j:=by
 have h:Z (λi=>i=z (G a)) f ((wK f (z<|G a) x).alloc o):=(jb _ _ _).alloc o;refine⟨r.fm q h (λi n u=>by have:=m.aN i u;have:=m.size;omega),t.trans h (λi n=>.inr<|by omega),p.apart h<|λi n=>?_⟩;subst n;exact⟨s,λa=>by have:=m.size;omega⟩
def CC(cj:AK r b k){eq:M}(hA:iK cj a c g l B d e eq W)(hD:r.D a)(fb:y k<=1000000000000):cw bF 328 #[aw c,aw g,aw l,aw B] a λdT cv=>r.D cv/\Z (λn=>mM cj c g l B W n\/r.F n) a cv/\((yU e k eq=[]/\dT=aO (dA #[wP,aL bE,.nilIface]))\/(∃ea bh r' C S',yU e k eq=ea::yU r' k C/\dT=aO (dA #[ea.value,aL bU,.nilIface])/\iK cj cv c g l B bh r' C S'/\(∀n,S' n->W n\/z (G a)<=n))):=by
 have ff:∀b a,(callFunc cj.f b).run bF a=.ok (.enter cj.f b) a:=cj.SN;have fd:∀a,(binOp .eql 174 .nilFunc .nilFunc).run bF a=.ok (aL bU) a:=λ_=>rfl;have fe:∀f b a,(binOp .eql 174 (.func f #[] b) .nilFunc).run bF a=.ok (aL bE) a:=λ_ _ _=>rfl;have cs:=hA.pB;have T:=U cs;have cT:∀n,b<=n->¬r.F n:=λn S hf=>by have:=cs.aN n hf;omega
 obtain⟨x,HA,HD⟩:=dB cT hA hD;clear hA hD cs cT;go_in
 go_wp2;go_loopg [9] (2*(y k-eq)+2) (λd _ wr=>∃bh r' C S' es,2*(y k-C)+es<d/\((bh=.nilFunc/\r'=[])\/(es=1/\jl r b bh r' S' wr))/\iK cj wr c g l B bh r' C S'/\r.D wr/\Z (λn=>mM cj c g l B W n\/r.F n) a wr/\yU e k eq=yU r' k C/\(∀n,S' n->W n\/z (G a)+1<=n)/\ij wr (z<|G a) zE/\¬mM cj c g l B S' (z<|G a))
 (case atStart=>have h:=ae HA;refine⟨d,e,eq,W,1,by omega,?_,h.laid _,r.fm HD ((Z.refl az a).alloc _) cG,(Z.refl _ _).alloc _,rfl,λn S=>.inl S,aC _ rfl,λj=>?_⟩;rcases(h.laid<|aq #[J ⟨#[]⟩,J ⟨#[]⟩,aL bE,aI 0] 164).row with⟨c1,c2,_⟩|j;exact .inl ⟨c1,c2⟩;exact .inr ⟨rfl,j⟩;have:=(h.pB.each _ j).2;omega)
 case round=>
  obtain⟨bh,r',C,S',es,bt,ds,p,ad,bp,bg,bo,F,bn⟩:=hrel;have ey:=p.br.cell;have eu:=p.ba.cell;have ev:=p.bn.cell;have ex:=p.bo.cell;have n1:=p.ra;have n2:¬g=c:=λdT=>p.ra dT.symm;have bk:=U bp;have cn:=U bg;have ac:=U F;have cB:=U bo;have m:=U bn;have cx:=U bt;rcases ds with⟨rfl,rfl⟩|⟨rfl,Q,w,rfl,et,bd⟩
  .by_cases cd:C<y k
   .have ch:=cj.call C cd wr p.inv ad;have db:yU [] k C=yU k[C] k (C+1):=by unfold yU;rw[bD cd,aW,cC]
    have ca:=U<|bg.trans db;have cM:=p.br;have cE:=p.ba;obtain⟨HK,bT,bx⟩:=dB (show∀n,n=c\/n=g->b<=n by rintro n(rfl|rfl);exact p.own.1;exact p.own.2.1) cM cE;clear cM cE;have cl:=U p;clear p ad bp bg F bo bn bt db;cases hla:k[C]with
    |nil=>
     rw[hla]at ch ca;have bi:=U hla;clear hla;go_wp2_with(first
      |(go_at_fn cj.f;refine ch.mono ?_;rintro dT w1⟨v1,S1,rfl,bs,bl,O,ax⟩;obtain⟨Q,w,rfl,cc,bu⟩:=bs;have hA1:=cl.opened cd O (by rw[ae bi];exact⟨Q,w,rfl,cc,bu⟩) ax;have K:dV w1 c .nilFunc 174:=(O.block c (aj bT)<|x _<|HK _<|.inl rfl).trans bT;have A:dV w1 g (.int .i64 C) 3:=(O.block g (aj bx)<|x _<|HK _<|.inr rfl).trans bx;have dv:=ow (P:=bF) K (.func (.func Q) #[] w) rfl;have dc:=A.cell;have dd:=A.free;have dm:=aj K;have dk:=aj A;have bc:Z (λn=>n=c\/n=g) w1 (bZ (bZ w1 (R c 0)<|.func (.func Q) #[] w) (R g 0)<|.int .i64<|(C:X)+1):=((Z.refl (λn=>n=c\/n=g) w1).setCell c 0 _<|.inl<|.inl rfl).setCell g 0 _<|.inl<|.inr rfl;have bm:=r.fm bl bc<|λn S=>x n<|HK n S;have bv:Hx r b Q w [] S1 (bZ (bZ w1 (R c 0)<|.func (.func Q) #[] w) (R g 0)<|.int .i64<|(C:X)+1):=(by rcases hA1.row with⟨j,_⟩|⟨f2,eb,cu,_,N⟩;cases j;cases cu;rw[ae bi]at N;exact N);have L:=bv.2 _ (jJ.refl _ _ _ _) bm;have ec:=hA1.br.cell;have ei:=hA1.br.free;have em:=aj hA1.br;have v:=U hA1;have au:=U O;have bf:=U ax;have av:=U bc;clear bl O ax bu hA1 K A bc bm bv)
      |(go_at_fn Q;refine L.mono ?_;rintro dT w2⟨rfl,D,q⟩;have hA2:=v.ended (q.alloc (.cells #[.string ⟨#[]⟩,.string ⟨#[]⟩,.bool bE,.int .u64 0] 164));have bq:dV w2 c (.func (.func Q) #[] w) 174:=(q.block c (aj v.br) (λj=>j.elim (λj=>(v.nS c j).1 rfl) (λj=>x _ v.own.1 j))).trans v.br;have dx:=ow (P:=bF) (bq.alloc (.cells #[.string ⟨#[]⟩,.string ⟨#[]⟩,.bool bE,.int .u64 0] 164)) .nilFunc rfl;have an:=U hA2;have ao:=U D;have V:=U q;clear hA2 D q bq;unfold wP))
     go_roundg(2*(y k-C));case measure=>have:=ae cx;omega
     case rel=>
      have bb:z (G a)<z (G wr):=aj ac;have ce:¬r.F (z<|G a):=x _ T.size;have al:z (G a)≠c/\z (G a)≠g:=⟨λj=>m<|.inl j,λj=>m<|.inr<|.inl j⟩;have eo:=av.size;have en:=au.size;have hT:Z (λn=>mM cj c g l B W n\/r.F n) a (bZ (ct w2<|aq #[J ⟨#[]⟩,J ⟨#[]⟩,aL bE,aI 0] 164) (R c 0) .nilFunc):=by
       refine((((bk.trans au<|λn S=>.inl<|.inr S).trans av ?_).trans V ?_).alloc _).setCell c 0 _<|.inl<|.inl<|.inl rfl
       .rintro n(j|j)
        .exact .inl<|.inl<|.inl j
        .exact .inl<|.inl<|.inr<|.inl j
       .rintro n(j|j)
        .have:=bf n j;exact .inr<|by omega
        .exact .inl<|.inr j
      have co:=r.fm ao (((Z.refl (λn=>n=c) w2).alloc<|aq #[J ⟨#[]⟩,J ⟨#[]⟩,aL bE,aI 0] 164).setCell c 0 .nilFunc<|.inl rfl) (λn S=>by rw[S];exact x _ v.own.1);have o:ij (bZ (ct w2<|aq #[J ⟨#[]⟩,J ⟨#[]⟩,aL bE,aI 0] 164) (R c 0) .nilFunc) (z<|G a) zE:=by
       refine(ir _ al.1).trans<|ij.alloc (b:=z<|G a) (x:=zE) ?_ _;refine(((ac.ar au ce).ar av<|λj=>j.elim al.1 al.2).ar V ?_);rintro(j|j)
       .have:=bf _ j;omega
       .exact ce j
      refine⟨.nilFunc,[],C+1,λ_=>False,0,by omega,.inl ⟨rfl,rfl⟩,an,co,hT,ca,cG,o,?_⟩;rintro(j|j|j|j|j|j)
      .exact al.1 j
      .exact al.2 j
      .exact m<|.inr<|.inr<|.inl j
      .exact m<|.inr<|.inr<|.inr<|.inl j
      .exact j
      .exact m<|.inr<|.inr<|.inr<|.inr<|.inr j
    |cons ea r2=>
     rw[hla]at ch ca;have bi:=U hla;clear hla;obtain⟨t,u,s,f⟩:=ea;go_wp2_with(first
      |(go_at_fn cj.f;refine ch.mono ?_;rintro dT w1⟨v1,S1,rfl,bs,bl,O,ax⟩;obtain⟨Q,w,rfl,cc,bu⟩:=bs;have hA1:=cl.opened cd O (by rw[ae bi];exact⟨Q,w,rfl,cc,bu⟩) ax;have K:dV w1 c .nilFunc 174:=(O.block c (aj bT)<|x _<|HK _<|.inl rfl).trans bT;have A:dV w1 g (.int .i64 C) 3:=(O.block g (aj bx)<|x _<|HK _<|.inr rfl).trans bx;have dv:=ow (P:=bF) K (.func (.func Q) #[] w) rfl;have dc:=A.cell;have dd:=A.free;have dm:=aj K;have dk:=aj A;have bc:Z (λn=>n=c\/n=g) w1 (bZ (bZ w1 (R c 0)<|.func (.func Q) #[] w) (R g 0)<|.int .i64<|(C:X)+1):=((Z.refl (λn=>n=c\/n=g) w1).setCell c 0 _<|.inl<|.inl rfl).setCell g 0 _<|.inl<|.inr rfl;have bm:=r.fm bl bc<|λn S=>x n<|HK n S;have bv:Hx r b Q w (⟨t,u,s,f⟩::r2) S1 (bZ (bZ w1 (R c 0)<|.func (.func Q) #[] w) (R g 0)<|.int .i64<|(C:X)+1):=(by rcases hA1.row with⟨j,_⟩|⟨f2,eb,cu,_,N⟩;cases j;cases cu;rw[ae bi]at N;exact N);have L:=bv.2 _ (jJ.refl _ _ _ _) bm;unfold E.value at L;simp only at L;have br:Enters bF Q:=cc;have ec:=hA1.br.cell;have ei:=hA1.br.free;have em:=aj hA1.br;have v:=U hA1;have au:=U O;have bf:=U ax;have av:=U bc;clear bl O ax bu hA1 K A bc bm bv)
      |(go_at_fn Q;refine L.mono ?_;rintro dT w2⟨rfl,D,q,S2,ba,N⟩;have hA2:=v.Tc q ba ⟨Q,w,rfl,br,N⟩;have o:ij w2 (z (G a)) zE:=(((ac.ar au (x _ T.size)).ar av (λj=>j.elim (λj=>m (.inl j)) (λj=>m (.inr (.inl j))))).ar q (λj=>j.elim (λj=>by have:=bf _ j;have:=aj ac;omega) (x _ T.size)));obtain⟨ed,ee,ef,eg⟩:=o.cells;have ej:=o.free (i:=0);have bs:=o.free (i:=1);have ek:=o.free (i:=2);have el:=o.free (i:=3);have dn:=aj o;have cm:=U o;have an:=U hA2;have ao:=U D;have V:=U q;have cb:=U ba;clear hA2 D q ba N o))
     refine cI (fV rfl _ _ (z<|G a) ⟨t,u,s,f⟩ _ _ rfl<|(cm.put ⟨t,u,s,f⟩).alloc _) rfl ?_;have bb:z (G a)<z (G wr):=aj ac;have eo:=av.size;have en:=au.size;have hT:Z (λn=>mM cj c g l B W n\/r.F n) a w2:=by
      refine((bk.trans au<|λn S=>.inl<|.inr S).trans av ?_).trans V ?_
      .rintro n(j|j)
       .exact .inl<|.inl<|.inl j
       .exact .inl<|.inl<|.inr<|.inl j
      .rintro n(j|j)
       .have:=bf n j;exact .inr<|by omega
       .exact .inl<|.inr j
     have ck:∀n,S2 n->z (G a)<n:=λn S=>by
      rcases cb n S with j|j
      .have:=bf n j;omega
      .omega
     have cp:¬mM cj c g l B S2 (z<|G a):=by
      rintro(j|j|j|j|j|j)
      .exact m<|.inl j
      .exact m<|.inr<|.inl j
      .exact m<|.inr<|.inr<|.inl j
      .exact m<|.inr<|.inr<|.inr<|.inl j
      .have:=ck _ j;omega
      .exact m<|.inr<|.inr<|.inr<|.inr<|.inr j
     obtain⟨q1,q2,q3⟩:=Hp T an ao hT cp ⟨t,u,s,f⟩<|aq #[J t,J u,aL s,aI f] 164;exact⟨q1,q2,.inr ⟨⟨t,u,s,f⟩,_,r2,C+1,S2,ca,rfl,q3,λn S=>.inr (by have:=ck n S;omega)⟩⟩
   .have O:C=y k:=by have:=p.le;omega
    subst O;obtain⟨bf,bi,bl,bm⟩:=F.cells;have au:=F.free (i:=0);have av:=F.free (i:=1);have ax:=F.free (i:=2);have bc:=F.free (i:=3);have cl:=U p;have K:=U ad;clear p ad bp bg F bo bn bt;go_wp2;refine cI (fV rfl _ _ (z<|G a) zE _ _ rfl<|ac.put zE) rfl ?_;have A:Z (λn=>n=z (G a)) wr (wK wr (z<|G a) zE):=jb _ _ _;refine⟨r.fm K A (λn S hf=>by have:=T.aN n hf;have:=T.size;omega),bk.trans A (λn S=>.inr<|by omega),.inl ⟨?_,rfl⟩⟩;rw[ae cn];simp[yU]
  .have bb:z (G a)<z (G wr):=aj F;have br:Enters bF Q:=et;have O:=U bb;cases r' with
   |nil=>
    have L:=bd.2 wr (jJ.refl _ _ _ _) ad;have v:=U p;clear p ad bp bg F bo bn bt bd bb;go_wp2_with(go_at_fn Q;refine L.mono ?_;rintro dT w2⟨rfl,D,q⟩;have hA2:=v.ended<|q.alloc<|aq #[J ⟨#[]⟩,J ⟨#[]⟩,aL bE,aI 0] 164;have bq:dV w2 c (.func (.func Q) #[] w) 174:=(q.block c (aj v.br)<|λj=>j.elim (λj=>(v.nS c j).1 rfl)<|λj=>x _ v.own.1 j).trans v.br;have dx:=ow (P:=bF) (bq.alloc<|aq #[J ⟨#[]⟩,J ⟨#[]⟩,aL bE,aI 0] 164) .nilFunc rfl;have an:=U hA2;have ao:=U D;have V:=U q;clear hA2 D q bq;unfold wP)
    go_roundg(2*(y k-C)+1);case measure=>have:=ae cx;omega
    case rel=>
     have ce:¬r.F (z<|G a):=x _ T.size;have al:z (G a)≠c:=λj=>m<|.inl j;have A:=ae cB;have bb:=ae O;have hT:Z (λn=>mM cj c g l B W n\/r.F n) a (bZ (ct w2<|aq #[J ⟨#[]⟩,J ⟨#[]⟩,aL bE,aI 0] 164) (R c 0) .nilFunc):=by
      refine((bk.trans V ?_).alloc _).setCell c 0 _<|.inl<|.inl<|.inl rfl;rintro n(j|j)
      .rcases A n j with K|K
       .exact .inl<|.inl<|.inr<|.inr<|.inr<|.inr<|.inl K
       .exact .inr<|by omega
      .exact .inl<|.inr j
     have co:=r.fm ao (((Z.refl (λn=>n=c) w2).alloc<|aq #[J ⟨#[]⟩,J ⟨#[]⟩,aL bE,aI 0] 164).setCell c 0 .nilFunc<|.inl rfl) (λn S=>by rw[S];exact x _ v.own.1);have o:ij (bZ (ct w2<|aq #[J ⟨#[]⟩,J ⟨#[]⟩,aL bE,aI 0] 164) (R c 0) .nilFunc) (z<|G a) zE:=by
      refine(ir _ al).trans<|ij.alloc (b:=z<|G a) (x:=zE) ?_ _;refine ac.ar V ?_;rintro(j|j)
      .exact m<|.inr<|.inr<|.inr<|.inr<|.inl j
      .exact ce j
     refine⟨.nilFunc,[],C,λ_=>False,0,by omega,.inl ⟨rfl,rfl⟩,an,co,hT,cn,cG,o,?_⟩;rintro(j|j|j|j|j|j)
     .exact al j
     .exact m<|.inr<|.inl j
     .exact m<|.inr<|.inr<|.inl j
     .exact m<|.inr<|.inr<|.inr<|.inl j
     .exact j
     .exact m<|.inr<|.inr<|.inr<|.inr<|.inr j
   |cons ea r2=>
    have L:=bd.2 wr (jJ.refl _ _ _ _) ad;have v:=U p;clear p ad bp bg F bo bn bt bd bb;obtain⟨t,u,s,f⟩:=ea;unfold E.value at L;simp only at L;go_wp2_with(go_at_fn Q;refine L.mono ?_;rintro dT w2⟨rfl,D,q,S2,ba,N⟩;have hA2:=v.Tc q ba ⟨Q,w,rfl,br,N⟩;have o:ij w2 (z<|G a) zE:=(ac.ar q<|λj=>j.elim (λj=>m<|.inr<|.inr<|.inr<|.inr<|.inl j)<|x _ T.size);obtain⟨ed,ee,ef,eg⟩:=o.cells;have ej:=o.free (i:=0);have bs:=o.free (i:=1);have ek:=o.free (i:=2);have el:=o.free (i:=3);have dn:=aj o;have cm:=U o;have an:=U hA2;have ao:=U D;have V:=U q;have cb:=U ba;clear hA2 D q ba N o)
    refine cI (fV rfl _ _ (z<|G a) ⟨t,u,s,f⟩ _ _ rfl<|(cm.put ⟨t,u,s,f⟩).alloc _) rfl ?_;have bb:=ae O;have A:=ae cB;have hT:Z (λn=>mM cj c g l B W n\/r.F n) a w2:=by
     refine bk.trans V ?_;rintro n(j|j)
     .rcases A n j with K|K
      .exact .inl<|.inl<|.inr<|.inr<|.inr<|.inr<|.inl K
      .exact .inr<|by omega
     .exact .inl<|.inr j
    have cp:¬mM cj c g l B S2 (z<|G a):=by
     rintro(j|j|j|j|j|j)
     .exact m<|.inl j
     .exact m<|.inr<|.inl j
     .exact m<|.inr<|.inr<|.inl j
     .exact m<|.inr<|.inr<|.inr<|.inl j
     .rcases cb _ j with K|K
      .exact m<|.inr<|.inr<|.inr<|.inr<|.inl K
      .omega
     .exact m<|.inr<|.inr<|.inr<|.inr<|.inr j
    obtain⟨q1,q2,q3⟩:=Hp T an ao hT cp ⟨t,u,s,f⟩<|aq #[J t,J u,aL s,aI f] 164;refine⟨q1,q2,.inr ⟨⟨t,u,s,f⟩,_,r2,C,S2,cn,rfl,q3,λn S=>?_⟩⟩;rcases cb n S with K|K
    .rcases A n K with K|K
     .exact .inl K
     .exact .inr<|by omega
    .exact .inr<|by omega
def OP(O:AK r b k)(m i j l:M)(e:y k<=1000000000000):∀(v:cA)(t:aa)(A:cA)(x:M)(S:fI)(B:Y),yU A k x=v->iK O B m i j l t A x S->Hx r b 328 #[aw m,aw i,aw j,aw l] v (mM O m i j l S) B:=by
 intro v;induction v with
 |nil=>
  intro t A x S B h d;refine⟨d.pB,λN s q=>(CC O (d.same s) q e).mono ?_⟩;rintro Q g⟨o,p,⟨_,a⟩|⟨V,f,w,u,n,a,_⟩⟩
  .exact⟨a,o,p⟩
  .rw[h]at a;cases a
 |cons P v L=>
  intro t A x S B h d;refine⟨d.pB,λN s q=>(CC O (d.same s) q e).mono ?_⟩;rintro Q g⟨o,p,⟨a,_⟩|⟨V,f,w,u,n,a,D,E,F⟩⟩
  .rw[h]at a;cases a
  .rw[h]at a;obtain⟨rfl,K⟩:=yK a;refine⟨D,o,p,mM O m i j l n,?_,L f w u n g K.symm E⟩;rintro T(c|c|c|c|c|c)
   .exact .inl<|.inl c
   .exact .inl<|.inr<|.inl c
   .exact .inl<|.inr<|.inr<|.inl c
   .exact .inl<|.inr<|.inr<|.inr<|.inl c
   .rcases F T c with C|C
    .exact .inl<|.inr<|.inr<|.inr<|.inr<|.inl C
    .exact .inr C
   .exact .inl<|.inr<|.inr<|.inr<|.inr<|.inr c
def Hq(O:AK r b k)(w:Y)(a:O.inv w)(o:b<=z (G w))(hF:∀d,r.F d->d<b)(f:y k<=1000000000000):cw bF 323 #[am<|y k,.func (.func O.f) #[] O.cb] w λq l=>∃j g,q=aO j/\jl r b j k.flatten g l/\Below (z<|G w) w l/\(∀d,g d->O.S d\/z (G w)<=d):=by
 have n:=U a;have m:=U hF;clear a hF;go_in
 go_wp2;go_ret;have a:=ae n;have i:Below (z<|G w) w (ct (ct (ct (ct w<|aq #[am<|y k] 3)<|aq #[.func (.func O.f) #[] O.cb] 425)<|aq #[am 0] 3)<|aq #[.nilFunc] 174):=((((Below.refl _ w).alloc (ah _) _).alloc (by simp) _).alloc (by simp;omega) _).alloc (by simp;omega) _;have p:Z az w _:=Z.aT i;refine⟨_,mM O (z (G w)+1+1+1) (z (G w)+1+1) (z<|G w) (z (G w)+1) az,rfl,⟨328,_,rfl,enters_of func328 (by kernel_rfl) rfl,?_⟩,i,?_⟩;refine OP O _ _ _ _ f k.flatten .nilFunc [] 0 _ _ rfl ⟨aC _ (by simp),?_,?_,?_,.inl ⟨rfl,rfl,λ_ c=>c⟩,O.fm w _ a<|p.same o (λd e=>⟨(O.lt w a d e).2,λc=>c⟩) cG,bw _,by simp;omega,m,⟨by omega,by omega,by omega,by omega⟩,by omega,by omega,by omega,by omega,by omega,cG,λd e=>?_⟩;exact dV.alloc (aC _<|by simp) _;exact dV.alloc (dV.alloc (dV.alloc (aC _ rfl) _) _) _;exact dV.alloc (dV.alloc (aC _<|by simp) _) _;have:=(O.lt w a d e).2;exact⟨by omega,by omega,by omega,by omega⟩;rintro d(c|c|c|c|c|c);exact .inr (by omega);exact .inr (by omega);exact .inr (by omega);exact .inr (by omega);exact c.elim;exact .inl c
structure Hd where
 v:aa
 l:cA
 fr:E
 full:Bool
 ended:Bool
 S:M->Prop
def Hd.cells(h:Hd):iV:=[h.v,.string h.fr.key,.string h.fr.val,.bool h.fr.del,.int .u64 h.fr.bH,.bool h.full,.bool h.ended]
def dU(hs:cr Hd):iV:=hs.flatMap Hd.cells
def Hd.rest(h:Hd):cA:=if h.full then h.fr::h.l else h.l
theorem mQ(hs:cr Hd):y (dU hs)=y hs*7:=by
 induction hs with
 |nil=>rfl
 |cons h r c=>unfold dU at*;rw[dH,af,c];simp[Hd.cells];omega
theorem qj(hs:cr Hd)(i:M)(h:i<y hs):dU hs=dU (hs.take i)++(Hd.cells hs[i]++dU (hs.drop<|i+1)):=by
 have c:hs=hs.take i++hs[i]::hs.drop (i+1):=by rw[<-bD h,bW]
 conv=>lhs;rw[c]
 simp only[dU,fZ,dH]
theorem se(hs:cr Hd)(i j:M)(h:i<y hs)(d:j<7):(dU hs)[i*7+j]?=(Hd.cells hs[i])[j]?:=by
 have c:y (dU<|hs.take i)=i*7:=by rw[mQ];simp;omega
 rw[qj hs i h,dD (by omega),c,show i*7+j-i*7=j by omega,gd (by simp[Hd.cells];omega)]
theorem Jd(hs:cr Hd)(i:M)(h:i<y hs)(x:Hd)(e:x.v=hs[i].v):(((((((dU hs).set (i*7+1)<|.string x.fr.key).set (i*7+2)<|.string x.fr.val).set (i*7+3)<|.bool x.fr.del).set (i*7+4)<|.int .u64 x.fr.bH).set (i*7+5)<|.bool x.full).set (i*7+6)<|.bool x.ended)=dU (hs.set i x):=by
 have d:y (dU<|hs.take i)=i*7:=by rw[mQ];simp;omega
 have c:dU (hs.set i x)=dU (hs.take i)++(Hd.cells x++dU (hs.drop<|i+1)):=by rw[jg,dw h];simp only[dU,fZ,dH]
 rw[c,qj hs i h];rw[gD _ _ (by omega),gD _ _ (by omega),gD _ _ (by omega),gD _ _ (by omega),gD _ _ (by omega),gD _ _ (by omega),d];rw[show i*7+1-i*7=1 by omega,show i*7+2-i*7=2 by omega,show i*7+3-i*7=3 by omega,show i*7+4-i*7=4 by omega,show i*7+5-i*7=5 by omega,show i*7+6-i*7=6 by omega];simp[Hd.cells,e]
theorem FP(hs:cr Hd)(i:M)(h:i<y hs)(x:Hd)(e:x={hs[i]with full:=x.full}):(dU hs).set (i*7+5) (.bool x.full)=dU (hs.set i x):=by
 have d:y (dU<|hs.take i)=i*7:=by rw[mQ];simp;omega
 have c:dU (hs.set i x)=dU (hs.take i)++(Hd.cells x++dU (hs.drop<|i+1)):=by rw[jg,dw h];simp only[dU,fZ,dH]
 rw[c,qj hs i h,gD _ _ (by omega),d,show i*7+5-i*7=5 by omega];rw[e];simp[Hd.cells]
structure SJ(V:jm)(n0:M)(w:Y)(h:Hd):Prop where
 gives:h.ended=bE->jl V n0 h.v h.l h.S w
 own:vq V n0 h.S w
 done:h.ended=bU->h.l=[]/\h.full=bE
theorem SJ.same{V:jm}{n0:M}{w w':Y}{h:Hd}(o:SJ V n0 w h)(hs:jJ V n0 h.S w w'):SJ V n0 w' h:=⟨λe=>(o.gives e).same hs,o.own.same hs,o.done⟩
structure jv(V:jm)(n0:M)(w:Y)(b a:M)(hs:cr Hd):Prop where
 box:dV w b (bC a 0 (y hs)<|y hs) 312
 row:w.heap[a]?=H (.cells (dU hs).toArray 314 (0,0))
 each:∀i(hi:i<y hs),SJ V n0 w hs[i]
 size:n0<=z (G w)
 aN:∀k,V.F k->k<n0
 own:n0<=b/\n0<=a
 bh:b≠a
 nS:∀i(hi:i<y hs)k,hs[i].S k->k≠b/\k≠a
 Mb:∀i j(hi:i<y hs)(hj:j<y hs),i≠j->∀k,hs[i].S k->¬hs[j].S k
def lF(b a:M)(hs:cr Hd)(k:M):Prop:=k=b\/k=a\/∃i,∃c:i<y hs,hs[i].S k
section
variable{V:jm}{n0:M}{w w':Y}{b a:M}{hs:cr Hd}
theorem jv.pB(h:jv V n0 w b a hs):vq V n0 (lF b a hs) w:=⟨h.size,h.aN,by
 rintro k(rfl|rfl|⟨i,c,d⟩)
 .exact⟨h.own.1,aj h.box⟩
 .exact⟨h.own.2,aj h.row⟩
 .exact(h.each i c).own.each k d⟩
theorem jv.same(h:jv V n0 w b a hs)(c:jJ V n0 (lF b a hs) w w'):jv V n0 w' b a hs:=⟨h.box.same c<|.inl rfl,(c.2 a<|.inr<|.inr<|.inl rfl).trans h.row,λi d=>(h.each i d).same<|c.mono<|λ_ e=>.inr<|.inr ⟨i,d,e⟩,aD h.size c.1,h.aN,h.own,h.bh,h.nS,h.Mb⟩
theorem jv.apart{T:fI}(h:jv V n0 w b a hs)(f:Z T w w')(e:∀k,T k->¬lF b a hs k/\(k<n0->V.F k)):jv V n0 w' b a hs:=h.same<|f.same h.size (λk c=>⟨(h.pB.each k c).2,λg=>(e k g).1 c⟩)<|λk c d=>(e k c).2 d
theorem jv.laid(h:jv V n0 w b a hs)(o:Obj):jv V n0 (ct w o) b a hs:=h.apart ((Z.refl az w).alloc o) cG
theorem jv.put(h:jv V n0 w b a hs)(l:M)(j:l<y hs)(B:Hd)(x:Z (λk=>(hs[l].S k\/V.F k)\/k=a) w w')(C:w'.heap[a]?=H (.cells (dU<|hs.set l B).toArray 314 (0,0)))(D:SJ V n0 w' B)(r:∀k,B.S k->hs[l].S k\/z (G w)<=k):jv V n0 w' b a (hs.set l B):=by
 have hF:∀k,n0<=k->¬V.F k:=λk c d=>by have:=h.aN k d;omega
 have s:dV w' b (bC a 0 (y hs)<|y hs) 312:=by refine(x.block b (aj h.box) ?_).trans h.box;rintro((d|d)|d);exact(h.nS l j b d).1 rfl;exact hF b h.own.1 d;exact h.bh d
 refine⟨by rw[eM];exact s,C,λo t=>?_,aD h.size x.size,h.aN,h.own,h.bh,λo t k c=>?_,λn m u v i k c=>?_⟩;rw[kV];split;exact D;rename_i i;(have e:o<y hs:=by simpa using t);refine(h.each o e).same<|x.same h.size (λk c=>⟨((h.each o e).own.each k c).2,?_⟩)<|λk c g=>?_;rintro((d|d)|d);exact h.Mb l o j e i k d c;exact hF k ((h.each o e).own.each k c).1 d;exact(h.nS o e k c).2 d;rcases c with(d|d)|d;have:=((h.each l j).own.each k d).1;omega;exact d;have:=h.own.2;omega;rw[kV]at c;split at c;rcases r k c with d|d;exact h.nS l j k d;have e:=aj h.box;have g:=aj h.row;exact⟨by omega,by omega⟩;exact h.nS o (by simpa using t) k c;rw[kV]at c|-;(have e:n<y hs:=by simpa using u);(have g:m<y hs:=by simpa using v);split at c;rename_i q;have A:¬l=m:=λd=>i<|q.symm.trans d;rw[cY A];rcases r k c with d|d;exact h.Mb l m j g A k d;intro c2;have:=((h.each m g).own.each k c2).2;omega;rename_i q;split;intro c2;rcases r k c2 with d|d;exact h.Mb l n j e q k d c;have:=((h.each n e).own.each k c).2;omega;exact h.Mb n m e g i k c
end
def sZ{d:cr Hd}(h:a.heap[b]?=H (.cells (dU d).toArray 314 (0,0)))(i:M)(e:i<y d):(aS a (R b<|i*7+1)=H (.string d[i].fr.key)/\aS a (R b<|i*7+1+1)=H (.string d[i].fr.val)/\aS a (R b<|i*7+1+2)=H (.bool d[i].fr.del)/\aS a (R b<|i*7+1+3)=H (.int .u64 d[i].fr.bH)/\aS a (R b<|i*7+5)=H (.bool d[i].full)/\aS a (R b<|i*7+6)=H (.bool d[i].ended))/\∀o,a.frozen? (R b o)=bE:=by
 have c:∀j,j<7->aS a (R b<|i*7+j)=(Hd.cells d[i])[j]?:=λj f=>by rw[bR h];simp only[qx];exact se d i j e f
 exact⟨⟨c 1 (by decide),by rw[aV];exact c 2 (by decide),by rw[aV];exact c 3 (by decide),by rw[aV];exact c 4 (by decide),c 5 (by decide),c 6<|by decide⟩,λo=>dJ h⟩
def KI(w:Y)(a i:M)(x:Hd):Y:=bZ (bZ (bZ (bZ (bZ (bZ w (R a<|i*7+1)<|.string x.fr.key) (R a<|i*7+1+1)<|.string x.fr.val) (R a<|i*7+1+2)<|.bool x.fr.del) (R a<|i*7+1+3)<|.int .u64 x.fr.bH) (R a<|i*7+5)<|.bool x.full) (R a<|i*7+6)<|.bool x.ended
def QT(w:Y)(a i:M)(x:Hd):Z (λk=>k=a) w (KI w a i x):=((((((Z.refl (λk=>k=a) w).setCell a _ _<|.inl rfl).setCell a _ _<|.inl rfl).setCell a _ _<|.inl rfl).setCell a _ _<|.inl rfl).setCell a _ _<|.inl rfl).setCell a _ _<|.inl rfl
def TH{c:cr Hd}(h:a.heap[b]?=H (.cells (dU c).toArray 314 (0,0)))(i:M)(d:i<y c)(x:Hd)(e:x.v=c[i].v):(KI a b i x).heap[b]?=H (.cells (dU<|c.set i x).toArray 314 (0,0)):=by
 refine(aQ<|aQ<|aQ<|aQ<|aQ<|aQ h).trans ?_;simp only[dZ];rw[<-Jd c i d x e]
def LV{e:cr Hd}(p:jv r b a c g e)(l:M)(t:l<y e)(d:Hd)(D:Obj)(L:d.v=e[l].v)(A:Z (λk=>e[l].S k\/r.F k) a f)(u:r.D f)(v:f.heap[g]?=H (.cells (dU e).toArray 314 (0,0)))(K:d.ended=bE->jl r b d.v d.l d.S f)(h:vq r b d.S f)(m:d.ended=bU->d.l=[]/\d.full=bE)(w:∀k,d.S k->e[l].S k\/z (G a)<=k)(n:d.rest=e[l].rest)(B:d.full=bU\/d.ended=bU):r.D ((KI f g l d).alloc D)/\Z (λk=>lF c g e k\/r.F k) a ((KI f g l d).alloc D)/\∃E:Hd,jv r b ((KI f g l d).alloc D) c g (e.set l E)/\E.rest=e[l].rest/\(E.full=bU\/E.ended=bU)/\(∀k,E.S k->e[l].S k\/z (G a)<=k):=by
 have o:Z (λk=>k=g) f ((KI f g l d).alloc D):=(QT _ _ _ _).alloc _;have q:Z (λk=>(e[l].S k\/r.F k)\/k=g) a ((KI f g l d).alloc D):=(A.mono (T:=λk=>(e[l].S k\/r.F k)\/k=g)<|λk j=>.inl<|.inl j).trans o<|λk j=>.inl<|.inr j;have C:((KI f g l d).alloc D).heap[g]?=H (.cells (dU<|e.set l d).toArray 314 (0,0)):=by have:=TH v l t d L;exact(fX _<|aj this).trans this
 have x:∀k,d.S k->¬k=g:=λk j s=>by rcases w k j with N|N;exact(p.nS l t k N).2 s;have:=aj p.row;omega
 have i:=o.same (V:=r) (n0:=b) (S:=d.S) h.size (λk j=>⟨(h.each k j).2,x k j⟩) (λk j a=>by have:=p.own.2;omega);refine⟨r.fm u o (λk j F=>by have:=p.aN k F;have:=p.own.2;omega),q.mono ?_,d,p.put l t d q C ⟨λs=>(K s).same i,h.same i,m⟩ w,n,B,w⟩;rintro k((s|s)|s);exact .inl<|.inl<|.inr<|.inr ⟨l,t,s⟩;exact .inl<|.inr s;exact .inl<|.inl<|.inr<|.inl s
def UR(f:cr Hd)(k:M)(s:k<y f)(h:jv r b a c g f)(hD:r.D a):cw bF 195 #[.pointer<|H<|R g<|k*7] a λax w'=>ax=.returned .nilIface/\r.D w'/\Z (λad=>lF c g f ad\/r.F ad) a w'/\∃au:Hd,jv r b w' c g (f.set k au)/\au.rest=f[k].rest/\(au.full=bU\/au.ended=bU)/\(∀ad,au.S ad->f[k].S ad\/z (G a)<=ad):=by
 have o:∀j,j<7->aS a (R g<|k*7+j)=(Hd.cells f[k])[j]?:=λj d=>by rw[bR h.row];simp only[qx];exact se f k j s d
 have K:=o 0 (by decide);have e:=o 5 (by decide);have l:=o 6 (by decide);have n:=U h;have HD:=U hD;have u:=h.each k s;clear h hD o;have A:f.set k f[k]=f:=List.set_getElem_self s;have w:=U A;clear A;cases hfu:f[k].full with
 |true=>
  simp only[Hd.cells,hfu]at e K;simp at e;have p:=U hfu;clear hfu u l K;go_in
  go_wp2;go_ret;refine⟨rfl,HD,Z.refl _ _,f[k],?_,rfl,.inl p,λad S=>.inl S⟩;rw[ae w];exact n
 |false=>
  cases hen:f[k].ended with
  |true=>
   simp only[Hd.cells,hfu,hen]at e K l;simp at e l;have p:=U hfu;have L:=U hen;clear hfu hen u K;go_in
   go_wp2;go_ret;refine⟨rfl,HD,Z.refl _ _,f[k],?_,rfl,.inr L,λad S=>.inl S⟩;rw[ae w];exact n
  |false=>
   obtain⟨av,cb,F,eg,i⟩:=u.gives hen;simp only[Hd.cells,hfu,hen,F]at e K l;simp at e l K;obtain⟨p,L,ao,al⟩:=gx hfu hen F<|show Enters bF av from eg;clear hfu hen u F;cases hl:f[k].l with
   |nil=>
    rw[hl]at i;have Q:=i.2 a (jJ.refl _ _ _ _) HD;clear i;have HL:=U hl;clear hl;go_in
    go_wp2_with(go_at_fn av;refine Q.mono ?_;rintro ax w1⟨rfl,q,m⟩;have j:w1.heap[g]?=H (.cells (dU f).toArray 314 (0,0)):=(m.block g (aj n.row)<|λD=>D.elim (λD=>(n.nS k s g D).2 rfl) (λD=>by have:=n.aN g D;have:=n.own.2;omega)).trans n.row;obtain⟨⟨c1,c2,c3,c4,c5,c6⟩,d⟩:=sZ j k s;have g1:=d<|k*7+1;have g2:=d<|k*7+1+1;have g3:=d<|k*7+1+2;have g4:=d<|k*7+1+3;have g5:=d<|k*7+5;have g6:=d<|k*7+6;have T:=aj j;have C:=U j;have B:=U q;have t:=U m;clear j d q m;unfold wP)
    go_ret;have v:=ae n;refine⟨rfl,LV v k s ⟨f[k].v,[],zE,bE,bU,f[k].S⟩ _ rfl t B C (λD=>by cases D) ((v.each k s).own.ar t) (λ_=>⟨rfl,rfl⟩) (λad S=>.inl S) ?_<|.inr rfl⟩;unfold Hd.rest;rw[ae p,ae HL];rfl
   |cons au ba=>
    rw[hl]at i;have Q:=i.2 a (jJ.refl _ _ _ _) HD;clear i;have HL:=U hl;clear hl;obtain⟨W,ac,V,v⟩:=au;unfold E.value at Q;simp only at Q;go_in
    go_wp2_with(go_at_fn av;refine Q.mono ?_;rintro ax w1⟨rfl,q,m,S1,P,O⟩;have j:w1.heap[g]?=H (.cells (dU f).toArray 314 (0,0)):=(m.block g (aj n.row)<|λD=>D.elim (λD=>(n.nS k s g D).2 rfl) (λD=>by have:=n.aN g D;have:=n.own.2;omega)).trans n.row;obtain⟨⟨c1,c2,c3,c4,c5,c6⟩,d⟩:=sZ j k s;have g1:=d<|k*7+1;have g2:=d<|k*7+1+1;have g3:=d<|k*7+1+2;have g4:=d<|k*7+1+3;have g5:=d<|k*7+5;have g6:=d<|k*7+6;have T:=aj j;have C:=U j;have B:=U q;have t:=U m;have an:=U P;have N:=U O;clear j d q m P O)
    go_ret;have x:=ae N;refine⟨rfl,LV n k s ⟨f[k].v,ba,⟨W,ac,V,v⟩,bU,bE,S1⟩ _ rfl t B C (λ_=>⟨av,cb,ao,al,x⟩) x.own (λD=>by cases D) an ?_<|.inl rfl⟩;unfold Hd.rest;rw[ae p,ae HL];rfl
def Fg:Option M->X
 |none=>-1
 |some b=>b
def jQ(a:cr Hd):dW:=a.map Hd.rest
def QM(a:cr Hd)(i:M)(f:i<y a)(x:Hd)(b:x.rest=a[i].rest):jQ (a.set i x)=jQ a:=by
 unfold jQ;rw[nJ,b];refine List.ext_getElem (by simp)<|λj c d=>?_;rw[kV];split;rename_i e;subst e;simp;rfl
def xq{a:cr Hd}(c:b<y a):lC (jQ a) b=a[b].rest.head?:=by
 unfold lC jQ;simp[c]
def Fo{a:cr Hd}(h:g<y a){x:Hd}{N:M}(f:∀k,x.S k->a[g].S k\/N<=k):∀k,lF b c (a.set g x) k->lF b c a k\/N<=k:=by
 rintro k(d|d|⟨j,i,d⟩);exact .inl<|.inl d;exact .inl<|.inr<|.inl d;rw[kV]at d;split at d;rcases f k d with e|e;exact .inl<|.inr<|.inr ⟨g,h,e⟩;exact .inr e;exact .inl<|.inr<|.inr ⟨j,by simpa using i,d⟩
def vX(w:Y)(q:M):Z az w (w.drewN q):=⟨rfl,rfl,rfl,ah _,λ_ _ _=>rfl⟩
def Jv(h:lC k b=H w)(a:km k b=none):km k (b+1)=H b:=by
 unfold km;rw[h,a]
def Ju{f:E}(h:lC k b=H w)(a:km k b=H c)(d:lC k c=H f):km k (b+1)=if ahead w f then H b else H c:=by
 conv=>lhs;unfold km
 rw[h,a];simp only[d,gW]
def EQ{a:cr Hd}{x:Hd}(h:∀j(c:j<y a),j<b->a[j].full=bU\/a[j].ended=bU)(f:x.full=bU\/x.ended=bU):∀j(c:j<y (a.set b x)),j<b+1->(a.set b x)[j].full=bU\/(a.set b x)[j].ended=bU:=by
 intro j c d;rw[kV];split;exact f;rename_i e;exact h j (by simpa using c)<|by omega
def Cn(e:cr Hd)(h:jv r b a c g e)(hD:r.D a)(hn:y e<=1000000000000):cw bF 194 #[aw c] a λbx ba=>r.D ba/\Z (λk=>lF c g e k\/r.F k) a ba/\((di (jQ e)=[]/\bx=.returned (.tuple #[wP,.bool bE,.nilIface]))\/(∃ac d,di (jQ e)=ac::di (jQ d)/\bx=.returned (.tuple #[ac.value,.bool bU,.nilIface])/\jv r b ba c g d/\y d=y e/\(∀k,lF c g d k->lF c g e k\/z (G a)<=k))):=by
 have bg:=h.pB;have cm:=aj h.box;have co:=h.box.cell;obtain⟨n,HH,HD⟩:=dB bg h hD;clear h hD bg;go_in
 go_wp2;go_loopw [4,9] (λf bq wr=>∃(p:M)(d:cr Hd),p<=y e/\bq=.int .i64 p/\f=.int .i64 (Fg<|km (jQ e) p)/\jv r b wr c g d/\y d=y e/\jQ d=jQ e/\(∀br(hj:br<y d),br<p->d[br].full=bU\/d[br].ended=bU)/\r.D wr/\Z (λk=>lF c g e k\/r.F k) a wr/\ij wr (z<|G a) zE/\(∀k,lF c g d k->lF c g e k\/z (G a)+1<=k)) (λ_ bq _=>y e-(intOf bq).toNat)
 (case atStart=>have h:=ae HH;exact⟨0,e,bw _,rfl,rfl,h.laid _,rfl,rfl,λbr _ hj=>by omega,r.fm HD ((Z.refl az a).alloc _) cG,(Z.refl _ _).alloc _,aC _ rfl,λk m=>.inl m⟩)
 case round=>
  obtain⟨p,d,cp,rfl,rfl,v,V,C,K,A,hT,D,hS⟩:=hrel;have ca:=v.box.cell;rw[V]at ca;by_cases bk:p<y e
  .have av:=UR d p (by omega) v A;obtain⟨HA,bt,bb,HT,HE,HS⟩:=kF v C K hT D hS;clear v A hT D hS C K;obtain⟨bo,o⟩:∃bo,km (jQ e) p=bo:=⟨_,rfl⟩;rw[o];have Q:=U o;clear o;go_wp2_with(go_at_call 195;refine av.mono ?_;rintro bx w1⟨rfl,bf,bh,ac,hA1,bl,bm,bn⟩;have bs:=U bf;have bd:=U bh;have q:=U hA1;have bu:=U bl;have ao:=U bm;have bv:=U bn;clear bf bh hA1 bl bm bn)
   have L:p<y d:=by omega
   have ax:p<y (d.set p ac):=by simpa using L
   obtain⟨⟨c1,c2,c3,c4,c5,c6⟩,B⟩:=sZ q.row p ax;rw[qw]at c1 c2 c3 c4 c5 c6;have bT:=q.box.cell;rw[eM,V]at bT;have P:jQ (d.set p ac)=jQ e:=(QM d p L ac bu).trans bt;have bi:lC (jQ e) p=ac.rest.head?:=by rw[<-P,xq ax,qw]
   have ad:=U P;have bc:=U bi;clear P bi B;have cc:z (G a)<z (G wr):=aj HE;have an:∀(au:Y)(O:X),Z az w1 au->Fg (km (jQ e)<|p+1)=O->∃(i:M)(f:cr Hd),i<=y e/\Value.int .i64 ((p:X)+1)=.int .i64 i/\Value.int .i64 O=.int .i64 (Fg<|km (jQ e) i)/\jv r b au c g f/\y f=y e/\jQ f=jQ e/\(∀br(hj:br<y f),br<i->f[br].full=bU\/f[br].ended=bU)/\r.D au/\Z (λk=>lF c g e k\/r.F k) a au/\ij au (z<|G a) zE/\(∀k,lF c g f k->lF c g e k\/z (G a)+1<=k):=by
    intro au O F al;refine⟨p+1,d.set p ac,bk,rfl,by rw[al],q.apart F cG,by rw[eM];exact V,ad,EQ bb ao,r.fm bs F cG,?_,?_,?_⟩
    .refine((HT.trans bd ?_).ci F);rintro k(u|u)
     .rcases HS k u with W|W
      .exact .inl<|.inl W
      .exact .inr<|by omega
     .exact .inl<|.inr u
    .refine(HE.ar bd ?_).ar F<|λu=>u;rintro(u|u)
     .rcases HS _ u with W|W
      .have:=(n.each _ W).2;omega
      .omega
     .have:=n.aN _ u;have:=n.size;omega
    .intro k m;rcases Fo L bv k m with W|W
     .exact HS k W
     .exact .inr<|by omega
   have x:=U an;clear an cc;cases hfu:ac.full with
   |false=>
    rw[hfu]at c5;have al:ac.ended=bU:=ao.resolve_left (by rw[hfu];simp);have au:=(q.each p ax).done;rw[qw]at au;have bp:=au al;have O:lC (jQ e) p=none:=by rw[ae bc];unfold Hd.rest;rw[hfu,bp.1];rfl
    have F:km (jQ e) (p+1)=bo:=by unfold km;rw[O];exact Q
    have HB:=U F;clear F O bp au al hfu;go_quiet(fail)
    go_wp2;go_roundw;case rel=>exact x _ _ (vX _ _)<|by rw[ae HB]
    case measure=>simp[intOf];omega
   |true=>
    rw[hfu]at c5;have B:lC (jQ e) p=H ac.fr:=by rw[ae bc];unfold Hd.rest;rw[hfu];rfl
    cases bo with
    |none=>
     have HB:=U<|Jv B Q;clear B hfu;simp only[Fg];go_quiet(fail)
     go_wp2;go_roundw;case rel=>exact x _ _ (vX _ _) (by rw[ae HB];rfl)
     case measure=>simp[intOf];omega
    |some j=>
     obtain⟨cb,T,w,_⟩:=ua Q;have HB:=U<|Ju B Q w;have l:j<y (d.set p ac):=by omega
     have f:(d.set p ac)[j].rest.head?=H T:=by rw[<-xq l,ae ad];exact w
     have i:(d.set p ac)[j].full=bU:=by
      rcases EQ bb ao j l (by omega)with u|u
      .exact u
      .have:=(q.each j l).done u;unfold Hd.rest at f;rw[this.2,this.1]at f;cases f
     have t:(d.set p ac)[j].fr=T:=by
      unfold Hd.rest at f;rw[i]at f;simpa using f
     obtain⟨⟨d1,d2,d3,d4,_,_⟩,_⟩:=sZ q.row j l;rw[t]at d1 d2 d3 d4;have F:=BO ac.fr T;have au:=aj q.row;have al:=aj q.box;generalize ac.fr=xf at*;obtain⟨xk,xv,xd,O⟩:=xf;obtain⟨fk,fv,fd,s⟩:=T;simp only at c1 c2 c3 c4 d1 d2 d3 d4;simp only[E.value]at F;clear B hfu w f i t c6;simp only[Fg];have i1:(0:X)<=(j:X):=by omega
     have i2:(j:X)<(y e:X):=by omega
     have i3:j<y e:=by omega
     have i4:¬(j:X)<0:=by omega
     have i5:(0:X)<=(p:X):=by omega
     have i6:(p:X)<(y e:X):=by omega
     cases hax:ahead ⟨xk,xv,xd,O⟩ ⟨fk,fv,fd,s⟩with
     |true=>
      rw[hax]at HB F;go_region_held3(λa=>aS a (R c 0)=H (bC g 0 (y e)<|y e)/\aS a (R g<|p*7+5)=H (.bool bU)/\(aS a (R g<|p*7+1)=H (.string xk)/\aS a (R g<|p*7+1+1)=H (.string xv)/\aS a (R g<|p*7+1+2)=H (.bool xd)/\aS a (R g<|p*7+1+3)=H (.int .u64 O))/\(aS a (R g<|j*7+1)=H (.string fk)/\aS a (R g<|j*7+1+1)=H (.string fv)/\aS a (R g<|j*7+1+2)=H (.bool fd)/\aS a (R g<|j*7+1+3)=H (.int .u64 s))) (first|assumption|go_keep) (first
       |(go_at_call 196;refine(F _).mono ?_;rintro bx w2⟨rfl,rfl⟩))
      go_wp2;go_roundw;case rel=>
       refine x _ _ ?_ (by rw[ae HB];rfl);exact((((Z.refl az w1).alloc _).alloc _)).ci<|vX _ 1
      case measure=>simp[intOf];omega
     |false=>
      rw[hax]at HB F;go_region_held3(λa=>aS a (R c 0)=H (bC g 0 (y e)<|y e)/\aS a (R g<|p*7+5)=H (.bool bU)/\(aS a (R g<|p*7+1)=H (.string xk)/\aS a (R g<|p*7+1+1)=H (.string xv)/\aS a (R g<|p*7+1+2)=H (.bool xd)/\aS a (R g<|p*7+1+3)=H (.int .u64 O))/\(aS a (R g<|j*7+1)=H (.string fk)/\aS a (R g<|j*7+1+1)=H (.string fv)/\aS a (R g<|j*7+1+2)=H (.bool fd)/\aS a (R g<|j*7+1+3)=H (.int .u64 s))) (first|assumption|go_keep) (first
       |(go_at_call 196;refine(F _).mono ?_;rintro bx w2⟨rfl,rfl⟩))
      go_wp2;go_roundw;case rel=>
       refine x _ _ ?_ (by rw[ae HB];rfl);exact((((Z.refl az w1).alloc _).alloc _)).ci<|vX _ 1
      case measure=>simp[intOf];omega
  .have cl:p=y e:=by omega
   subst cl;obtain⟨bo,o⟩:∃bo,km (jQ e) (y e)=bo:=⟨_,rfl⟩;rw[o];cases bo with
   |none=>
    have hm:=xz (hs:=jQ e) (by rw[show y (jQ e)=y e by simp[jQ]];exact o);have B:=U hm;have q:=U A;have HT:=U hT;have HE:=U D;obtain⟨bv,bT,cc,cd⟩:=D.cells;have ce:=D.free (i:=0);have ch:=D.free (i:=1);have cj:=D.free (i:=2);have ck:=D.free (i:=3);clear hm o v A hT D hS C K;simp only[Fg];go_wp2;refine cI (fV rfl _ _ (z<|G a) zE _ _ rfl<|HE.put zE) rfl ?_;have x:Z (λk=>k=z (G a)) wr (wK wr (z<|G a) zE):=jb _ _ _;exact⟨r.fm q x (λk m hf=>by have:=n.aN k hf;have:=n.size;omega),HT.trans x (λk m=>.inr<|by omega),.inl ⟨B,rfl⟩⟩
   |some j=>
    have bh:y (jQ e)=y e:=by simp[jQ]
    obtain⟨cb,T,w,_⟩:=ua o;have hm:=xy (hs:=jQ e) (by rw[bh];exact o) w;have l:j<y d:=by omega
    have f:d[j].rest.head?=H T:=by rw[<-xq l,C];exact w
    have i:d[j].full=bU:=by
     rcases K j l (by omega)with u|u
     .exact u
     .have:=(v.each j l).done u;unfold Hd.rest at f;rw[this.2,this.1]at f;cases f
    have t:d[j].fr=T:=by
     unfold Hd.rest at f;rw[i]at f;simpa using f
    have B:d[j].ended=bE:=by
     cases u:d[j].ended with
     |false=>rfl
     |true=>have:=((v.each j l).done u).2;rw[i]at this;cases this
    obtain⟨⟨d1,d2,d3,d4,d5,_⟩,O⟩:=sZ v.row j l;have g5:=O<|j*7+5;rw[t]at d1 d2 d3 d4;have Q:jQ (d.set j {d[j]with full:=bE})=(jQ e).modify j List.tail:=by
     rw[<-C];unfold jQ;rw[nJ];refine List.ext_getElem (by simp)<|λbr h1 h2=>?_;rw[kV,List.getElem_modify];split
     .rename_i bx;subst bx;simp[Hd.rest,i]
     .simp
    have F:(bZ wr (R g<|j*7+5)<|.bool bE).heap[g]?=H (.cells (dU<|d.set j {d[j]with full:=bE}).toArray 314 (0,0)):=by
     refine(aQ v.row).trans ?_;simp only[dZ];rw[<-FP d j l {d[j]with full:=bE} rfl]
    have bl:Z (λk=>(d[j].S k\/r.F k)\/k=g) wr (bZ wr (R g<|j*7+5)<|.bool bE):=(Z.refl (λk=>(d[j].S k\/r.F k)\/k=g) wr).setCell g _ _<|.inl<|.inr rfl;have L:Z (λk=>k=g) wr (bZ wr (R g<|j*7+5)<|.bool bE):=(Z.refl (λk=>k=g) wr).setCell g _ _<|.inl rfl;have P:SJ r b (bZ wr (R g<|j*7+5)<|.bool bE) {d[j]with full:=bE}:=by
     have au:=v.each j l;have bi:=L.same (V:=r) (n0:=b) (S:=d[j].S) v.size (λk m=>⟨(au.own.each k m).2,λu=>(v.nS j l k m).2 u⟩) (λk m bk=>by have:=v.own.2;omega);exact⟨λu=>(au.gives B).same bi,au.own.same bi,λu=>by rw[B]at u;cases u⟩
    have ad:=v.put j l {d[j]with full:=bE} bl F P (λk m=>.inl m);have bf:¬z (G a)=g:=λu=>by have:=aj HH.row;omega
    have cn:¬g=z (G a):=λu=>bf u.symm;have q:ij (bZ wr (R g<|j*7+5)<|.bool bE) (z<|G a) zE:=D.ar L bf;obtain⟨bv,bT,cc,cd⟩:=q.cells;have ce:=q.free (i:=0);have ch:=q.free (i:=1);have cj:=q.free (i:=2);have ck:=q.free (i:=3);have al:∀k,lF c g (d.set j {d[j]with full:=bE}) k->lF c g e k\/z (G a)+1<=k:=by
     intro k m;rcases Fo l (x:={d[j]with full:=bE}) (N:=z (G a)+1) (λk m=>.inl m) k m with W|W
     .exact hS k W
     .exact .inr W
    have bc:Z (λk=>lF c g e k\/r.F k) a (bZ wr (R g<|j*7+5)<|.bool bE):=hT.trans L<|λk m=>.inl<|.inl<|.inr<|.inl m;have bb:=r.fm A L (λk m hf=>by have:=n.aN k hf;have:=n.each g<|.inr<|.inl rfl;omega);have ao:di (jQ e)=T::di (jQ<|d.set j {d[j]with full:=bE}):=by rw[Q];exact hm
    have an:y (d.set j {d[j]with full:=bE})=y e:=by rw[eM];exact V
    obtain⟨av,bd⟩:∃av,av=d.set j {d[j]with full:=bE}:=⟨_,rfl⟩;rw[<-bd]at ad al ao an;obtain⟨bm,ax,bt,bs,bu,bn,bp⟩:=ww ad al ao an bc bb q;have i1:(0:X)<=(j:X):=by omega
    have i2:(j:X)<(y e:X):=by omega
    have i3:j<y e:=by omega
    have i4:¬(j:X)<0:=by omega
    rw[i]at d5;clear hm w f i t B Q F bl L P ad al bc bb ao an q v A hT D hS C K o bh O bd;obtain⟨fk,fv,fd,s⟩:=T;simp only at d1 d2 d3 d4;simp only[Fg];go_wp2;refine cI (fV rfl _ _ (z<|G a) ⟨fk,fv,fd,s⟩ _ _ rfl<|bp.put ⟨fk,fv,fd,s⟩) rfl ?_;have x:Z (λk=>k=z (G a)) (bZ wr (R g<|j*7+5)<|.bool bE) (wK (bZ wr (R g<|j*7+5)<|.bool bE) (z<|G a) ⟨fk,fv,fd,s⟩):=jb _ _ _;refine⟨r.fm bn x (λk m hf=>by have:=n.aN k hf;have:=n.size;omega),bu.trans x (λk m=>.inr<|by omega),.inr ⟨⟨fk,fv,fd,s⟩,av,bt,rfl,bm.apart x<|λk m=>?_,bs,λk m=>?_⟩⟩
    .subst m;refine⟨λu=>?_,λu=>by have:=n.size;omega⟩;rcases ax _ u with W|W
     .have:=(n.each _ W).2;omega
     .omega
    .rcases ax k m with W|W
     .exact .inl W
     .exact .inr<|by omega
def NM(V:jm)(n f k N:M)(A:N<=1000000000000):∀(m:cA)(c:cr Hd)(w:Y),di (jQ c)=m->y c=N->jv V n w f k c->Hx V n 194 #[aw f] m (lF f k c) w:=by
 intro m;induction m with
 |nil=>
  intro c w g l d;refine⟨d.pB,λu a j=>(Cn c (d.same a) j<|by omega).mono ?_⟩;rintro x e⟨h,i,⟨_,b⟩|⟨B,a,b,_⟩⟩
  .exact⟨b,h,i⟩
  .rw[g]at b;cases b
 |cons v m t=>
  intro c w g l d;refine⟨d.pB,λu a j=>(Cn c (d.same a) j<|by omega).mono ?_⟩;rintro x e⟨h,i,⟨b,_⟩|⟨B,a,b,o,p,q,r⟩⟩
  .rw[g]at b;cases b
  .rw[g]at b;obtain⟨rfl,s⟩:=yK b;exact⟨o,h,i,lF f k a,r,t a e s.symm (q.trans l) p⟩
def Ir{P:Program}{t:TypeId}(i:a.heap[b]?=H (aq V t (0,0)))(g:V[c]?=H d)(v:aa)(h:v.oneCell'=bU):(store (R b c) v).run P a=.ok () (bZ a (R b c) v):=by
 have e:aS a (R b c)=H d:=(bR i).trans g;have f:=dJ (i:=c) i;rw[run_store P a _ _ _ h];simp[e,f]
def Av:Hd:=⟨.nilFunc,[],zE,bE,bE,λ_=>False⟩
def FO(g:aa×cA×fI):Hd:=⟨g.1,g.2.1,zE,bE,bE,g.2.2⟩
def uu(a:cr (aa×cA×fI))(n:M):cr Hd:=(a.take n).map FO++List.replicate (y a-n) Av
def Cs(a:cr (aa×cA×fI))(n:M)(h:n<=y a):y (uu a n)=y a:=by unfold uu;simp;omega
def RT(a:cr (aa×cA×fI))(n:M)(h:n<y a):(uu a n).set n (FO a[n])=uu a (n+1):=by
 unfold uu;have b:y a-n=(y a-(n+1))+1:=by omega
 rw[b,List.replicate_succ,gD _ _ (by simp;omega)];rw[ai h];have:n-y ((a.take n).map FO)=0:=by simp;omega
 rw[this];simp only[aM,aX,eY,aU,cq,cC,gy]
def LK(a:cr (aa×cA×fI))(n:M)(h:n<y a):(uu a n)[n]?=H Av:=by
 unfold uu;rw[dD (by simp;omega)];have:n-y ((a.take n).map FO)=0:=by simp;omega
 rw[this];have b:y a-n=(y a-(n+1))+1:=by omega
 rw[b,List.replicate_succ];rfl
def FQ(a:cr Hd)(i:M)(h:i<y a)(x:Hd)(c:x.fr=a[i].fr)(d:x.full=a[i].full)(e:x.ended=a[i].ended):(dU a).set (i*7) x.v=dU (a.set i x):=by
 have f:y (dU<|a.take i)=i*7:=by rw[mQ];simp;omega
 have b:dU (a.set i x)=dU (a.take i)++(Hd.cells x++dU (a.drop<|i+1)):=by rw[jg,dw h];simp only[dU,fZ,dH]
 rw[b,qj a i h,gD _ _ (by omega),f,zJ];simp[Hd.cells,c,d,e]
def NP(n:M):(madeCells #[.nilFunc,J ⟨#[]⟩,J ⟨#[]⟩,aL bE,aI 0,aL bE,aL bE]<|n*7).toList=dU (List.replicate n Av):=by
 refine pO<|λj=>?_;by_cases c:j<n*7;(have a:j/7<y (List.replicate n Av):=by simp;omega);have b:=se (List.replicate n Av) (j/7) (j%7) a (Nat.mod_lt _<|by decide);rw[show j/7*7+j%7=j by omega]at b;rw[b,List.getElem_replicate];have f:j%7<7:=Nat.mod_lt _ (by decide);(have d:(madeCells #[.nilFunc,J ⟨#[]⟩,J ⟨#[]⟩,aL bE,aI 0,aL bE,aL bE]<|n*7).toList[j]?=H ((#[.nilFunc,J ⟨#[]⟩,J ⟨#[]⟩,aL bE,aI 0,aL bE,aL bE]:Array aa)[j%7]!):=by unfold madeCells;simp[c]);rw[d];(have:j%7=0\/j%7=1\/j%7=2\/j%7=3\/j%7=4\/j%7=5\/j%7=6:=by omega);rcases this with e|e|e|e|e|e|e<;>rw[e]<;>rfl;rw[dq (by rw[iF,size_madeCells];omega),dq (by rw[mQ];simp;omega)]
def UA:(prog.info? 314).map (λi=>(i.zero,i.size,i.bytes))=H (H<|eD #[.nilFunc,J ⟨#[]⟩,J ⟨#[]⟩,aL bE,aI 0,aL bE,aL bE],7,64):=by kernel_rfl
def Re(p:a.ownsRow b c g (bC l 0 B B) B x):a.heap[l]?=H (aq x.toArray c (0,0)):=by
 obtain⟨q,⟨e,_⟩|⟨o,i,d,e,r,m,n,k,f,h⟩⟩:=p;cases e;cases e;(have j:d.toList=x:=by rw[<-h,cS (by rw[iF,f];exact ah _)]);rw[m,<-j]
def Rq(bl:jm)(W:M)(b:cr (aa×cA×fI))(hr:Row a 1 d (y b) (b.map (·.1)))(an:∀u,bV d=H u->u<z (G a))(hn:y b<=1000000000)(hg:∀j(s:j<y b),jl bl W b[j].1 b[j].2.1 b[j].2.2 a)(hd:∀j bn(s:j<y b)(hj:bn<y b),j≠bn->∀u,b[j].2.2 u->¬b[bn].2.2 u)(V:W<=z (G a))(hF:∀u,bl.F u->u<W):cw bF 134 #[d] a λbp w'=>∃v' S',bp=aO v'/\jl bl W v' (di<|b.map (·.2.1)) S' w'/\Below (z<|G a) a w'/\(∀u,S' u->(∃j,∃s:j<y b,b[j].2.2 u)\/z (G a)<=u):=by
 obtain⟨i0,bd,bh,bi,bk⟩:=cz UA;obtain⟨bu,bo,bg⟩:=bL hr;obtain⟨HR,ba,HG,av,HF⟩:=jR hr an hg hd hF;clear hr an hg hd hF;subst bg;go_in
 go_wp2_with(at_make;refine wpList_make_full _ rfl (.tmp 7) (.tmp 7) 312 rfl (z<|G a) 314 i0 (eD #[.nilFunc,J ⟨#[]⟩,J ⟨#[]⟩,aL bE,aI 0,aL bE,aL bE]) 7 underlying312 bd bh bi _ _ _ _ (y b) rfl rfl rfl rfl (by rw[bk];omega) (by unfold maxLen;omega) (ah _) ?_;intro D B A;have q:=Re B;have v:=U q;have ax:=U A;clear B A q)
 have al:=ae ax;have au:z (G a)<z (G D):=aj v;have c:Below (z<|G a) a D:=(Below.refl _ a).grown al (ah _) (by simp);have ac:=U<|c.alloc c.size<|aq #[bC (z<|G a) 0 (y b)<|y b] 312;have o:(ct D<|aq #[bC (z<|G a) 0 (y b)<|y b] 312).heap[z<|G a]?=H (aq (dU<|uu b 0).toArray 314 (0,0)):=by rw[fX _ au,ae v];(have bp:uu b 0=List.replicate (y b) Av:=by simp[uu]);rw[bp,<-NP];rfl
 have k:dV (ct D<|aq #[bC (z<|G a) 0 (y b)<|y b] 312) (z<|G D) (bC (z<|G a) 0 (y b)<|y b) 312:=aC _ rfl;have O:=U o;have K:=U k;clear al c o k;go_loopw [11] (λj wr=>∃n:M,n<=y b/\j=am n/\wr.heap[z<|G a]?=H (aq (dU<|uu b n).toArray 314 (0,0))/\dV wr (z<|G D) (bC (z<|G a) 0 (y b)<|y b) 312/\Below (z<|G a) a wr) (λj _=>y b-(intOf j).toNat)
 case atStart=>exact⟨0,bw _,rfl,O,K,ac⟩
 case round=>
  obtain⟨n,ao,rfl,f,g,c⟩:=hrel;have bq:=g.cell;obtain⟨Q,L,E⟩:=dB f g c;by_cases i:n<y b
  .obtain⟨bm,cb,T,bb,bc⟩:=HG n i;have l:∀t e,bu=H (R t e)->aS wr (R t<|e+n)=H (.func (.func bm) #[] cb):=by
    intro t e hx;obtain⟨h1,⟨x,_⟩|⟨bt,C,ad,x,bf,hc⟩⟩:=ae HR
    .rw[hx]at x;cases x
    .rw[hx]at x;cases x;refine(c.cell (p:=(R t<|e+n))<|ba t (by rw[hx];rfl)).trans<|hc n _ ?_;rw[dz,aH i];simp[T]
   obtain⟨t,e,hx⟩:∃t e,bu=H (R t e):=by
    obtain⟨h1,⟨x,w⟩|⟨bt,C,ad,x,bf,hc⟩⟩:=ae HR
    .omega
    .cases x;exact⟨bt,C,rfl⟩
   have br:=l t e hx;subst hx;have m:(dU<|uu b n).toArray[n*7]?=H .nilFunc:=by
    have hl:n<y (uu b n):=by rw[Cs b n ao];exact i
    have:=se (uu b n) n 0 hl (by decide);rw[qx];rw[jq]at this;rw[this];have w:=LK b n i;rw[aH hl]at w;cases h0':(uu b n)[n]with
    |mk bT bx fr fu en bv=>
     rw[h0']at w;cases w;rfl
   have bs:=Ir (P:=bF) f m (.func (.func bm) #[] cb) rfl;have r:(bZ wr (R (z<|G a)<|n*7)<|.func (.func bm) #[] cb).heap[z<|G a]?=H (aq (dU<|uu b<|n+1).toArray 314 (0,0)):=by
    have hl:n<y (uu b n):=by rw[Cs b n ao];exact i
    have w:(uu b n)[n]=Av:=by
     have:=LK b n i;rw[aH hl]at this;exact dC this
    refine(aQ f).trans ?_;simp only[dZ];rw[<-RT b n i,<-FQ (uu b n) n hl (FO b[n]) (by rw[w];rfl) (by rw[w];rfl) (by rw[w];rfl)];simp only[FO,T]
   obtain⟨S,N,F⟩:=dB r (g.other (b':=z<|G a) (i:=n*7) (.func (.func bm) #[] cb)<|by omega)<|c.setCell (p:=(R (z<|G a)<|n*7)) (ah _)<|.func (.func bm) #[] cb;clear f g c m r l bb bc T;go_wp2;go_roundw;case rel=>exact⟨n+1,i,by go_num,S,N,F⟩
   case measure=>simp[intOf];omega
  .have C:n=y b:=by omega
   subst C;clear f g c;go_wp2;go_ret;have f:=ae Q;have g:=ae L;have c:=ae E;have w:uu b (y b)=b.map FO:=by simp[uu]
   rw[w]at f;have N:Z az a wr:=Z.aT c;have hg:=ae HG;have F:jQ (b.map FO)=b.map (·.2.1):=by unfold jQ;rw[iR];rfl
   refine⟨_,lF (z<|G D) (z<|G a)<|b.map FO,rfl,⟨194,_,rfl,enters_of func194 (by kernel_rfl) rfl,?_⟩,c,?_⟩
   .refine NM bl W (z<|G D) (z<|G a) (y b) (by omega) _ (b.map FO) wr (by rw[F]) (by simp) ⟨by simpa using g,f,λj s=>?_,aD V c.size,HF,⟨by omega,V⟩,by omega,λj s u m=>?_,λj bn s hj x u m=>?_⟩
    .have l:j<y b:=by simpa using s
     have e:=hg j l;have r:=N.same (V:=bl) (n0:=W) (S:=b[j].2.2) V (λu m=>⟨(e.own.each u m).2,λt=>t⟩) cG;rw[jS];exact⟨λ_=>e.same r,e.own.same r,λt=>by cases t⟩
    .have l:j<y b:=by simpa using s
     rw[jS]at m;have:=((hg j l).own.each u m).2;exact⟨by omega,by omega⟩
    .rw[jS]at m|-;exact av j bn (by simpa using s) (by simpa using hj) x u m
   .rintro u(t|t|⟨j,s,t⟩)
    .exact .inr<|by omega
    .exact .inr<|by omega
    .rw[jS]at t;exact .inl ⟨j,by simpa using s,t⟩
def ml(V:jm)(f:M)(j:aa)(h:cA)(w:Y):Prop:=∃t v i b,j=.iface t v/\(∀w,(Go.method 545 t v "From").run bF w=.ok (i,b) w)/\Enters bF i/\∀e c,jJ V f az w c->V.D c->cw bF i #[b,J e] c λl a=>∃g d,l=aO g/\jl V f g (fQ e h) d a/\V.D a/\Z V.F c a/\(∀k,d k->z (G c)<=k)
def Uy:(prog.info? 174).map (λi=>(i.zero,i.size,i.bytes))=H (H .nilFunc,1,8):=by kernel_rfl
def vp(w:Y)(v:aa)(t:TypeId):∀j u,[v][j]?=H u->aS (ct w<|aq #[v] t) (((R (z<|G w) 0):Addr).add j)=H u:=by
 intro j u a;rw[du];cases j with
 |zero=>cases a;simp
 |succ j=>cases j<;>cases a
def TS(h:d.oneCell'=bU):∀u∈[d],u.oneCell'=bU:=by
 intro u a;rw[bG]at a;rw[a];exact h
structure AM(V:jm)(n0:M)(w0 w:Y)(lo:ab)(Rqq:cr (aa×cA))(o:aa)(Gqq:cr (aa×cA×fI)):Prop where
 own:w.ownsRow (z<|G w0) 174 1 o (y Gqq) (Gqq.map (·.1))
 gives:∀i(hi:i<y Gqq),jl V n0 Gqq[i].1 Gqq[i].2.1 Gqq[i].2.2 w
 rows:Gqq.map (·.2.1)=(Rqq.take<|y Gqq).map (λr=>fQ lo r.2)
 Mb:∀i j(hi:i<y Gqq)(hj:j<y Gqq),i≠j->∀k,Gqq[i].2.2 k->¬Gqq[j].2.2 k
 apart:∀i(hi:i<y Gqq)k,Gqq[i].2.2 k->z (G w0)<=k/\bV o≠H k
 aN:V.D w
 ar:Z V.F w0 w
def AM.next{D:Y}{h:cr (aa×cA)}{e:cr (aa×cA×fI)}(w:AM r b a f v h d e)(u:y e<y h)(hn:b<=z (G a))(hF:∀k,r.F k->k<b)(P:Z r.F f C)(K:jl r b N (fQ v h[y e].2) W C)(hD:r.D C)(F:∀k,W k->z (G f)<=k){ob:Obj}(V:eR (ct C ob) D d s)(B:D.ownsRow (z<|G a) 174 1 s (y e+1) (e.map (·.1)++[N])):AM r b a D v h s (e++[(N,fQ v h[y e].2,W)]):=by
 have O:=w.ar.size;have j:∀k,bV d=H k->z (G a)<=k/\k<z (G f):=λk c=>w.own.lt k c;have x:∀k,b<=k->¬r.F k:=λk c a=>by have:=hF k a;omega
 have n:Z (λk=>bV d=H k) C D:=(((Z.refl (λk=>bV d=H k) C).alloc ob).trans (Z.dM (S:=λk=>bV d=H k) V.grown<|λk c=>.inl c)<|λk c=>.inl c);have Q:Z (λk=>r.F k\/bV d=H k) f D:=(P.mono (T:=λk=>r.F k\/bV d=H k)<|λk c=>.inl<|.inl c).trans n<|λk c=>.inl<|.inr c;have i:∀m(p:m<y (e++[(N,fQ v h[y e].2,W)])),(∃g:m<y e,(e++[(N,fQ v h[y e].2,W)])[m]=e[m])\/(m=y e/\(e++[(N,fQ v h[y e].2,W)])[m]=(N,fQ v h[y e].2,W)):=by intro m p;by_cases l:m<y e;exact .inl ⟨l,oq l⟩;(have:m=y e:=by simp at p;omega);subst this;exact .inr ⟨rfl,by simp⟩
 have A:∀k,(k<z (G C)/\bV d≠H k)->bV s≠H k:=by rintro k⟨h1,E⟩q;rcases V.uc with l|⟨ad,l,t⟩;exact E<|l.symm.trans q;rw[l]at q;cases q;simp at t;omega
 have o:∀k,W k->k<z (G C):=λk c=>(K.own.each k c).2;refine⟨by simpa using B,λm p=>?_,?_,λm ac p hj L k c=>?_,λm p k c=>?_,?_,?_⟩;rcases i m p with⟨g,q⟩|⟨_,q⟩;rw[q];have t:=w.gives m g;refine t.same<|Q.same (aD hn O) (λk c=>⟨(t.own.each k c).2,?_⟩)<|λk c u=>?_;rintro(l|l);exact x k (t.own.each k c).1 l;exact(w.apart m g k c).2 l;rcases c with l|l;exact l;have:=(j k l).1;omega;rw[q];refine K.same<|n.same K.own.size (λk c=>⟨o k c,λl=>?_⟩)<|λk c u=>?_;have:=F k c;have:=(j k l).2;omega;have:=(j k c).1;omega;rw[aM,w.rows];simp only[aX,eY,af,ay,cK,cR];rw[ai u,aM];rfl;rcases i m p with⟨g,q⟩|⟨ei,q⟩<;>rcases i ac hj with⟨t,E⟩|⟨ej,E⟩;rw[q]at c;rw[E];exact w.Mb m ac g t L k c;rw[q]at c;rw[E];intro l;have:=F k l;have:=((w.gives m g).own.each k c).2;omega;rw[q]at c;rw[E];intro l;have:=F k c;have:=((w.gives ac t).own.each k l).2;omega;omega;rcases i m p with⟨g,q⟩|⟨_,q⟩;rw[q]at c;have:=((w.gives m g).own.each k c).2;have t:=P.size;exact⟨(w.apart m g k c).1,A k ⟨by omega,(w.apart m g k c).2⟩⟩;rw[q]at c;have:=F k c;refine⟨by omega,A k ⟨o k c,λl=>?_⟩⟩;have:=(j k l).2;omega;exact r.fm hD n<|λk c=>x k (by have:=(j k c).1;omega);exact(w.ar.trans P<|λk c=>.inl c).trans n<|λk c=>.inr (j k c).1
def ml.same{V:jm}{n0:M}(j:ml V n0 d e a)(l:jJ V n0 az a f):ml V n0 d e f:=by
 obtain⟨t,v,o,b,c,g,h,i⟩:=j;exact⟨t,v,o,b,c,g,h,λm n j k=>i m n (l.trans j) k⟩
def Gx(s:M)(c:cr (aa×cA))(lv:aa)(A:ab)(hr:Row a 1 lv (y c) (c.map (·.1)))(ac:∀n,bV lv=H n->n<z (G a)/\¬r.F n)(hn:y c<=1000000000)(hR:∀K(m:K<y c),ml r s c[K].1 c[K].2 a)(hD:r.D a)(an:s<=z (G a))(hF:∀n,r.F n->n<s):cw bF 86 #[lv,J A] a λbp w'=>∃v' S',bp=aO v'/\jl r s v' (di<|(c.map (·.2)).map<|fQ A) S' w'/\r.D w'/\Z r.F a w'/\(∀n,S' n->z (G a)<=n):=by
 obtain⟨i0,W,ao,au,av⟩:=cz Uy;obtain⟨bx,bo,bl⟩:=bL hr;obtain⟨HR,ba,N,HD,HF⟩:=jR hr ac hR hD hF;clear hr ac hR hD hF;subst bl;go_in
 go_wp2_with(at_make;refine lG _ rfl _ _ 248 rfl (z<|G a) 174 i0 .nilFunc 1 underlying248 W ao au _ _ _ (y c) rfl rfl rfl (by rw[av];omega) (by unfold maxLen;omega) (ah _) ?_;intro w1 w v;have D:=U w;have t:=U v;clear w v)
 have T:AM r s a w1 A c (bC (z<|G a) 0 0<|y c) []:=by have d:Z r.F a w1:=Z.dM t (by simp);exact⟨D,λK m=>by simp at m,by simp,λK j m=>by simp at m,λK m=>by simp at m,r.fm HD (Z.dM (S:=az) t<|by simp) cG,d⟩
 have bb:=U T;clear T;go_loopw [5,13] (λo K wr=>∃(bn:M)(b:cr (aa×cA×fI)),bn<=y c/\K=am bn/\y b=bn/\AM r s a wr A c o b) (λ_ K _=>y c-(intOf K).toNat)
 case atStart=>exact⟨0,[],bw _,rfl,rfl,bb⟩
 case round=>
  obtain⟨bn,b,bt,rfl,bh,d⟩:=hrel;obtain⟨ox,oc,ho⟩:=aB d.own;subst bh;by_cases p:y b<y c
  .obtain⟨ca,cb,br,bv,al,hm,he,i⟩:=N (y b) p;have eg:∀b a,(callFunc br b).run bF a=.ok (.enter br b) a:=he;have l:jJ r s az a wr:=d.ar.same an cG<|λn F _=>F;have hc:=i A wr l d.aN;obtain⟨bq,e,hx⟩:∃bq e,bx=H (R bq e):=by
    obtain⟨h1,⟨u,h0⟩|⟨bT,B,O,u,bk,hc⟩⟩:=ae HR
    .omega
    .cases u;exact⟨bT,B,rfl⟩
   have bs:aS wr (R bq<|e+y b)=H (.iface ca cb):=by
    obtain⟨h1,⟨u,_⟩|⟨bT,B,O,u,bk,bi⟩⟩:=ae HR
    .rw[hx]at u;cases u
    .rw[hx]at u;cases u;have hb:=ba bq (by rw[hx];rfl);refine d.ar.cell (bi (y b) _ ?_) hb.2 hb.1;rw[dz,aH p];simp[al]
   subst hx;subst ho;have L:=U d;clear d i l al he;go_wp2_with(first
    |(go_at_fn br;refine hc.mono ?_;rintro bp w2⟨v1,S1,rfl,o,Q,q,g⟩;obtain⟨P,f,rfl,V,ad⟩:=o;have C:=U<|show jl r s (.func (.func P) #[] f) (fQ A c[y b].2) S1 w2 from⟨P,f,rfl,V,ad⟩;have j:=aR (q.own L.own (λn F hf=>by have:=HF n hf;have:=(L.own.lt n F).1;omega))<|.cells #[.func (.func P) #[] f] 174;have bd:=U j;have ax:=U Q;have bf:=U q;have E:=U g;have bu:=q.size;have bm:=L.ar.size;clear Q q g ad j V)
    |(at_builtin;refine bQ _ rfl (.tmp 17) (.tmp 21) 248 rfl (z (G a)) 174 i0 .nilFunc 1 8 underlying248 W ao au av rfl (by decide) (.slice ox (y b) oc) (y b) (b.map (λ(bx:aa×cA×fI)=>bx.1)) rfl bd (R (z (G w2)) 0) 1 1 [.func (.func P) #[] f] rfl rfl (vp _ _ _) (TS rfl) (by omega) (by omega) (by simp;omega) ?_;intro o2 w3 k x;have bc:=U k;have bg:=U x;clear k x))
   go_roundw;case rel=>
    refine⟨y b+1,b++[(.func (.func P) #[] f,fQ A c[y b].2,S1)],p,by go_num,by simp,?_⟩;exact L.next p an HF bf C ax E bg bc
   case measure=>simp[intOf];omega
  .have k:y b=y c:=by omega
   subst ho;have L:=U d;have bm:=d.ar.size;have l:Row wr 1 (I ox (y b) oc) (y b) (b.map (·.1)):=dF d.own;have i:∀n,bV (I ox (y b) oc)=H n->n<z (G wr):=λn F=>(d.own.lt n F).2;have x:=Rq r s b l i (by omega) (λK m=>d.gives K m) d.Mb (by omega) HF;have e:b.map (·.2.1)=(c.map (·.2)).map (fQ A):=by rw[d.rows,k,bN,iR];rfl
   have j:=U e;clear d l i e k;go_wp2_with(go_at_call 134;refine x.mono ?_;rintro bp w2⟨v1,S1,rfl,o,f,g⟩;have C:=U o;have u:=U f;have E:=U g;clear o f g)
   go_ret;have d:=ae L;have f:=ae u;have q:Z az wr w2:=Z.aT f;refine⟨v1,S1,rfl,?_,r.fm d.aN q cG,d.ar.ci q,λn F=>?_⟩
   .rw[<-ae j];exact C
   .rcases E n F with⟨K,m,B⟩|B
    .exact(d.apart K m n B).1
    .omega
def XK(j:M)(b:cr (aa×cA))(K:ab)(P:X)(hr:Row a 1 d (y b) (b.map (·.1)))(g:∀k,bV d=H k->k<z (G a)/\¬r.F k)(hn:y b<=1000000000)(hR:∀au(hi:au<y b),ml r j b[au].1 b[au].2 a)(hD:r.D a)(n:j<=z (G a))(hF:∀k,r.F k->k<j):cw bF 164 #[d,J K,aI P] a λO e=>∃t s,O=aO t/\jl r j t (mX ⟨#[]⟩<|(di<|(b.map (·.2)).map<|fQ K).filter<|λO=>decide<|O.bH<=P) s e/\r.D e/\Z r.F a e/\(∀k,s k->z (G a)<=k):=by
 obtain⟨ac,B⟩:∃ac,ct (ct a<|aq #[aI P] 103) (aq #[J ⟨#[]⟩] 9)=ac:=⟨_,rfl⟩;have F:Z az a ac:=by rw[<-B];exact((Z.refl _ a).alloc _).alloc _
 have hz:z (G ac)=z (G a)+2:=by rw[<-B];simp
 have al:=Gx j b d K (F.row hr<|λk c=>⟨λN=>N,(g k c).1⟩) (λk c=>⟨by have:=(g k c).1;omega,(g k c).2⟩) hn (λau hi=>(hR au hi).same<|F.same n cG cG) (r.fm hD F cG) (by omega) hF;have m:∀k,j<=k->¬r.F k:=λk c a=>by have:=hF k a;omega
 have i:∀(e:Y)(t:aa)(s:fI),jl r j t (di<|(b.map (·.2)).map<|fQ K) s e->Z r.F ac e->(∀k,s k->z (G ac)<=k)->cw bF 218 #[t,.func (.func 220) #[] #[aw<|z<|G a,aw<|z (G a)+1]] e λO q=>∃l f,O=aO l/\jl r j l (mX ⟨#[]⟩<|(di<|(b.map (·.2)).map<|fQ K).filter<|λO=>decide<|O.bH<=P) f q/\Below (z<|G e) e q/\(∀k,f k->z (G a)<=k):=by intro e t s hg p hS;have b1:dV e (z<|G a) (aI P) 103:=(p.block _ (by omega)<|m _ n).trans (by rw[<-B];exact dV.alloc (aC _ rfl) _);have b2:dV e (z (G a)+1) (J ⟨#[]⟩) 9:=(p.block _ (by omega)<|m _<|by omega).trans (by rw[<-B];exact aC _<|by simp);refine(KT (Zb r j (z<|G a) (z (G a)+1) P) ⟨#[]⟩ hg ⟨b1,b2,by omega,n,by omega⟩<|λk c N=>?_).mono ?_;have:=hS k c;rcases N with N|N<;>omega;rintro O q⟨l,f,h1,h2,h3,h4⟩;refine⟨l,f,h1,?_,h3,λk c=>?_⟩;rw[<-WH];exact h2;rcases h4 k c with N|(N|N)|N;have:=hS k N;omega;omega;omega;have:=p.size;omega
 obtain⟨V,HT,HD⟩:=dB i F<|λL(t:Z r.F ac L)(h:r.D L)(a:Y)(P:Below (z<|G L) L a)=>r.fm h (Z.aT (S:=az) P) cG;obtain⟨ba,av,an⟩:=bL hr;subst B;clear i F hR hD hF m hz g hr;subst an;go_in
 go_wp2_with(first
  |(go_at_call 86;refine al.mono ?_;rintro O w2⟨v1,S1,rfl,D,w,o,x⟩;have i:=V w2 v1 S1 D o x;have Q:=U w;have v:=U o;obtain⟨f1,ax,rfl,ad,ao⟩:=D;clear w o x ad ao)
  |(go_at_call 218;refine i.mono ?_;rintro O L⟨v2,S2,rfl,E,C,A⟩;have T:=U E;have u:=U C;have W:=U A;clear E C A))
 go_ret;exact⟨v2,S2,rfl,T,HD _ v Q _ u,(((HT.mono cG).trans v<|λk c=>.inl c)).trans (Z.aT (S:=r.F) u)<|λk c=>.inl c,W⟩
