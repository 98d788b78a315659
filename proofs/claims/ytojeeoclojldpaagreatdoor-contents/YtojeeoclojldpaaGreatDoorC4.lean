import Derived.Deep.LoopGhost
import Derived.Deep.RegionHeld3
import Derived.Defers
import Derived.Laws.Rows
import Derived.Shelf.Abstract
import Derived.Test.YtojeeoclojldpaaGreatDoorC1
import Derived.Test.YtojeeoclojldpaaGreatDoorC2
import Derived.Test.YtojeeoclojldpaaGreatDoorC3
open _root_ renaming List.length→y,Option.some→H,Array.size→z,Go.World.heap→G,Go.Value.ownBlock→bV,Go.World.cell?→aT,Go.World.setCell→bZ,Go.World.alloc→ct,Bool.false→bF,Bool.true→bW,Nat→M,Int→Z,Go.Calls→cy,Go.undef→iB,Go.Proofs.Tryz.prog→bG,Go.Value.slice→J,Go.Value.string→ai,Go.Value.bool→aL,Go.Value.pointer→fp,Go.Value.tuple→dB,Go.Value.agg→eC
namespace Go.Proofs.YtojeeoclojldpaaGreatDoor
open ChangeShapes WideShapes RowKit Proofs.Tryz
set_option maxHeartbeats 16000000
set_option linter.all false
set_option maxRecDepth 100000
variable{a f C:I}{b c g l:M}{d s N:aa}{e L:cA}{k:dW}{m:Z}{o:eI}{X:fJ}{v W:ab}{w:E}{D:Bool}{K:iH}{T:Type}{V:Array aa}
def E.value(e:E):aa:=eC #[ai e.key,ai e.val,aL e.del,aH e.bI]
def E.cells(e:E):iU:=[ai e.key,ai e.val,aL e.del,aH e.bI]
def oK(d:Bool):Z:=if d then 1 else 0
def eh(s:ab):eI:=(s.size:Z)::kD s
def nL(e:E):eI:=oK e.del::(eh e.key++eh e.val)
def eP.ne(h:eP a C d s)(c:bV d≠H b)(g:b<z (G a)):bV s≠H b:=by
 rcases h.uc with e|⟨j,e,i⟩;rw[e];exact c;rw[e];simp;omega
def eP.cell{w w':I}(h:eP w w' d s){a i:M}(b:aT w (R a i)=H N)(c:bV d≠H a):aT w' (R a i)=H N:=h.grown.cell b<|λe=>c e.symm
def eH.lt{bs:eI}(h:eH a b d bs):∀k,bV d=H k->b<=k/\k<z (G a):=aI h
def eH.of_heap{w w':I}(h:eH w b d o)(e:w'.heap=w.heap):eH w' b d o:=by
 unfold eH World.ownsRow at*;rw[e];exact h
def eP.of_heap{a w w':I}(h:eP w w' d s)(e:(a.os,a.tape,a.output,a.heap)=(w.os,w.tape,w.output,w.heap)):eP a w' d s:=by
 simp only[gT]at e;obtain⟨g,i,j,b⟩:=e;refine⟨⟨by rw[h.grown.os,g],by rw[h.grown.tape,i],by rw[h.grown.output,j],by rw[b];exact h.grown.size,λl e k=>by rw[b]at e|-;exact h.grown.block l e k⟩,by rw[b];exact h.uc⟩
def eP.Hv{o:Obj}(h:eP (a.alloc o).drew f d s):eP a f d s:=(eP.of_heap (a:=a.alloc o) h rfl).alloc o
def Ph(a:M)(ac:aa)(s:eI)(ad:E)(w:I)(p:eH w a ac s)(hb:a<=z (G w))(hl:y s<=35184372088832)(S:ad.key.size<=255)(V:ad.val.size<=255):cy bG 185 #[ac,ad.value] w λD w'=>∃X,D=aO X/\eH w' a X (s++nL ad)/\eP w w' ac X:=by
 obtain⟨d,e,B,k⟩:=ad;simp only at S V;unfold E.value;simp only;have i:bV ac≠H (z<|G w):=λD=>by have:=(p.lt _ D).2;omega
 have O0:=U<|p.alloc<|ar #[ai d,ai e,aL B,aH k] 164;clear p;cases B with
 |true=>
  go_in
  go_wp2_with fail
  go_region_held3(λj=>aT j (R (z<|G w) 0)=H (ai d)/\aT j (R (z<|G w) 1)=H (ai e)) (first|assumption|go_keep) (first
   |(go_at_call 184;refine(tU a ac s 1 _ ?_ (by simp;omega)<|by omega).mono ?_;exact O0.of_heap rfl;rintro D x⟨u,rfl,m,b⟩;have g:bV u≠H (z<|G w):=b.ne i (by simp);have q:aT x (R (z<|G w) 0)=H (.string d)/\aT x (R (z<|G w) 1)=H (.string e):=⟨b.cell (by simp) i,b.cell (by simp) i⟩;have t:z (G w)<z (G x):=(by have:=b.grown.size;simp at this;omega);have F:=U m;have N:=U b;clear m b)
   |(go_at_call_of 228 u;refine(oZ a u (s++[1]) d _ ?_ (by omega) ?_ S).mono ?_;exact F.of_heap rfl;(simp;omega);rintro D A⟨v,rfl,n,c⟩;have l:bV v≠H (z<|G w):=c.ne g t;have r:aT A (R (z<|G w) 0)=H (.string d)/\aT A (R (z<|G w) 1)=H (.string e):=⟨c.cell q.1 g,c.cell q.2 g⟩;have W:z (G w)<z (G A):=(by have:=c.grown.size;omega);have K:=U n;have O:=U<|N.trans c;clear n c)
   |(go_at_call_of 228 v;refine(oZ a v (s++[1]++eh d) e _ ?_ (by omega) ?_ V).mono ?_;exact K.of_heap rfl;(simp[eh,gW];omega);rintro D C⟨v3,rfl,o,f⟩;have T:aT C (R (z (G w)) 0)=H (.string d)/\aT C (R (z (G w)) 1)=H (.string e):=⟨f.cell r.1 l,f.cell r.2 l⟩;have L:=U o;have P:=U (O.trans f);clear o f))
  go_wp2;go_ret;refine⟨v3,rfl,?_,P.Hv⟩;have Q:=ae L;simpa[nL,oK,eh,aU]using Q
 |false=>
  go_in
  go_wp2_with fail
  go_region_held3(λj=>aT j (R (z<|G w) 0)=H (ai d)/\aT j (R (z<|G w) 1)=H (ai e)) (first|assumption|go_keep) (first
   |(go_at_call 184;refine(tU a ac s 0 _ ?_ (by simp;omega)<|by omega).mono ?_;exact O0.of_heap rfl;rintro D x⟨u,rfl,m,b⟩;have g:bV u≠H (z<|G w):=b.ne i (by simp);have q:aT x (R (z<|G w) 0)=H (.string d)/\aT x (R (z<|G w) 1)=H (.string e):=⟨b.cell (by simp) i,b.cell (by simp) i⟩;have t:z (G w)<z (G x):=(by have:=b.grown.size;simp at this;omega);have F:=U m;have N:=U b;clear m b)
   |(go_at_call_of 228 u;refine(oZ a u (s++[0]) d _ ?_ (by omega) ?_ S).mono ?_;exact F.of_heap rfl;(simp;omega);rintro D A⟨v,rfl,n,c⟩;have l:bV v≠H (z<|G w):=c.ne g t;have r:aT A (R (z<|G w) 0)=H (.string d)/\aT A (R (z<|G w) 1)=H (.string e):=⟨c.cell q.1 g,c.cell q.2 g⟩;have W:z (G w)<z (G A):=(by have:=c.grown.size;omega);have K:=U n;have O:=U<|N.trans c;clear n c)
   |(go_at_call_of 228 v;refine(oZ a v (s++[0]++eh d) e _ ?_ (by omega) ?_ V).mono ?_;exact K.of_heap rfl;(simp[eh,gW];omega);rintro D C⟨v3,rfl,o,f⟩;have T:aT C (R (z (G w)) 0)=H (.string d)/\aT C (R (z (G w)) 1)=H (.string e):=⟨f.cell r.1 l,f.cell r.2 l⟩;have L:=U o;have P:=U (O.trans f);clear o f))
  go_wp2;go_ret;refine⟨v3,rfl,?_,P.Hv⟩;have Q:=ae L;simpa[nL,oK,eh,aU]using Q
def pY{b:Bool}(h:D=b):Ending.returned (aL D)=aO (aL b):=by rw[h]
def qK(s:ab)(w:I)(f:s.size<=140737488351232):cy bG 68 #[ai s] w λe d=>e=aO (aL<|decide<|1<=s.size/\s.size<=8)/\d=w:=by
 by_cases b:1<=s.size;(.by_cases c:s.size<=8;(·(have a:decide (1<=s.size/\s.size<=8)=bW:=by simp[b,c]);rw[a];(go_in);go_wp2;go_ret;exact⟨pY (by simp;omega),rfl⟩);(have a:decide (1<=s.size/\s.size<=8)=bF:=by simp[b,c]);rw[a];(go_in);go_wp2;go_ret;exact⟨pY (by simp;omega),rfl⟩);(have a:decide (1<=s.size/\s.size<=8)=bF:=by simp[b]);rw[a];(go_in);go_wp2;go_ret;exact⟨rfl,rfl⟩
def xE(s:ab)(w:I)(d:s.size<=140737488351232):cy bG 69 #[ai s] w λe c=>e=aO (aL<|decide<|s.size<=16)/\c=w:=by
 by_cases b:s.size<=16;(·(have a:decide (s.size<=16)=bW:=by simp[b]);rw[a];(go_in);go_wp2;go_ret;exact⟨pY (by simp;omega),rfl⟩);(have a:decide (s.size<=16)=bF:=by simp[b]);rw[a];(go_in);go_wp2;go_ret;exact⟨pY (by simp;omega),rfl⟩
structure E.Good(x:E):Prop where
 Uh:1<=x.key.size
 LD:x.key.size<=8
 val:x.val.size<=16
 del:x.del=bW->x.val=⟨#[]⟩
 b0:0<=x.bI
 b1:x.bI<18446744073709551616
def mD(a b:eI):jN (a++b) bF (y a)=(b,bF,a):=by
 unfold jN;rw[cW<|by simp];simp
def vH(s:ab)(b:eI):Dn (eh s++b) bF=(b,bF,kD s)/\num (eh s++b) bF 1=s.size:=by
 have a:jN (eh s++b) bF 1=(kD s++b,bF,[(s.size:Z)]):=by have:=mD [(s.size:Z)]<|kD s++b;simpa[eh]using this
 have c:num (eh s++b) bF 1=s.size:=by unfold num;rw[a];simp[mi]
 refine⟨?_,c⟩;unfold Dn;simp only[a,c];have:=mD (kD s) b;rw[gW]at this;simpa using this
def Lz(d:Bool)(b:eI):jN (oK d::b) bF 1=(b,bF,[oK d])/\num (oK d::b) bF 1=oK d:=by
 have h:=mD [oK d] b;have a:jN (oK d::b) bF 1=(b,bF,[oK d]):=by simpa using h
 exact⟨a,by unfold num;rw[a];simp[mi]⟩
structure jj where
 D:I->Prop
 F:M->Prop
 fi:∀{w w':I}{S:fJ},D w->Y S w w'->(∀k,S k->¬F k)->D w'
 lt:∀{w:I}{k:M},D w->F k->k<z (G w)
variable{r:jj}
def jz(V:jj)(b:M)(S:fJ)(w a:I):Prop:=z (G w)<=z (G a)/\∀k,((k<b/\¬V.F k)\/S k)->a.heap[k]?=w.heap[k]?
def jz.refl(V:jj)(a:M)(S:fJ)(w:I):jz V a S w w:=⟨ah _,λ_ _=>rfl⟩
def jz.trans{S:fJ}{d b e:I}(h:jz r c S d b)(k:jz r c S b e):jz r c S d e:=⟨aE h.1 k.1,λi a=>(k.2 i a).trans<|h.2 i a⟩
def jz.mono{S T:fJ}(h:jz r b S a C)(c:∀k,T k->S k):jz r b T a C:=⟨h.1,λi d=>h.2 i<|d.imp id<|c i⟩
def jz.cell(h:jz r b X a C){k i:M}(e:X k\/(k<b/\¬r.F k))(c:aT a (R k i)=H d):aT C (R k i)=H d:=(cH (w:=a)<|h.2 k e.symm).trans c
def Y.same{V:jj}{n0:M}{S T:fJ}(h:Y T a f)(i:n0<=z (G a))(c:∀k,S k->k<z (G a)/\¬T k)(e:∀k,T k->k<n0->V.F k):jz V n0 S a f:=by
 refine⟨h.size,λk g=>?_⟩;rcases g with⟨b,d⟩|b;exact h.block k (by omega)<|λc=>d<|e k c b;exact h.block k (c k b).1 (c k b).2
def aD{w:I}(o:Obj)(h:b=z (G w)):(ct w o).heap[b]?=H o:=by
 subst h;show(w.heap.push o)[z<|G w]?=H o;simp
def fX{w:I}(o:Obj)(h:b<z (G w)):(ct w o).heap[b]?=w.heap[b]?:=Below.heap_alloc w o b h
def iq(u:aa)(h:b≠c):(bZ a (R c g) u).heap[b]?=a.heap[b]?:=Below.heap_setCell a (R c g) u b h
def gz{b i:M}:z (G<|bZ a (R b i) d)=z (G a):=by simp[World.setCell]
abbrev dV(w:I)(b:M)(v:aa)(t:TypeId):Prop:=w.heap[b]?=H (ar #[v] t (0,0))
def dV.cell{t:TypeId}(h:dV a b d t):aT a (R b 0)=H d:=by rw[bN h];rfl
def dV.free{t:TypeId}(h:dV a b d t):a.frozen? (R b 0)=bF:=dK h
def dV.set{t:TypeId}(h:dV a b d t)(u:aa):dV (bZ a (R b 0) u) b u t:=(aR h).trans rfl
def dV.other{t:TypeId}(h:dV a b d t){b' i:M}(u:aa)(c:b≠b'):dV (bZ a (R b' i) u) b d t:=(iq u c).trans h
def dV.alloc{w:I}{b:M}{t:TypeId}(h:dV w b d t)(o:Obj):dV (ct w o) b d t:=(fX o<|ak h).trans h
def ii(w:I)(b:M)(x:E):Prop:=w.heap[b]?=H (ar #[ai x.key,ai x.val,aL x.del,aH x.bI] 164 (0,0))
def ii.cells(h:ii a b w):aT a (R b 0)=H (ai w.key)/\aT a (R b 1)=H (ai w.val)/\aT a (R b 2)=H (aL w.del)/\aT a (R b 3)=H (aH w.bI):=by
 refine⟨?_,?_,?_,?_⟩<;>rw[bN h]<;>rfl
def ii.free{b i:M}(h:ii a b w):a.frozen? (R b i)=bF:=dK h
def ii.alloc{w:I}{b:M}{x:E}(h:ii w b x)(o:Obj):ii (ct w o) b x:=(fX o<|ak h).trans h
def ii.aw{d w':I}{S:fJ}(h:ii d b w)(c:Y S d w')(a:¬S b):ii w' b w:=(c.block b (ak h) a).trans h
def ii.put(h:ii a b w)(c:E):ii (bZ (bZ (bZ (bZ a (R b 0)<|ai c.key) (R b 1)<|ai c.val) (R b 2)<|aL c.del) (R b 3)<|aH c.bI) b c:=(aR<|aR<|aR<|aR h).trans rfl
def fW{c:Func}{p u v:Tmp}(i:c.results=#[.cell p 164,.tmp u,.tmp v])(a:Array aa)(w:I)(g:M)(x:E)(t:TypeId)(d:M×M)(h:a.getD p iB=aA g)(e:w.heap[g]?=H (ar #[ai x.key,ai x.val,aL x.del,aH x.bI] t d)):(results c a).run bG w=.ok (dB #[x.value,a.getD u iB,a.getD v iB]) w:=by
 have b:a[p]?.getD iB=aA g:=by simpa using h
 have f:=mL (P:=bG) w g t 164 #[ai x.key,ai x.val,aL x.del,aH x.bI] d _ e underlying164 rfl (by kernel_rfl);simp[results,i,b,asAddr,f,Result.andThen,E.value]
def wO:aa:=eC #[ai ⟨#[]⟩,ai ⟨#[]⟩,aL bF,aH 0]
structure vr(V:jj)(n0:M)(S:fJ)(w:I):Prop where
 size:n0<=z (G w)
 aN:∀k,V.F k->k<n0
 each:∀k,S k->n0<=k/\k<z (G w)
def Hy(V:jj)(c g:M)(d:Array aa):cA->fJ->I->Prop
 |[],S,w=>vr V c S w/\∀b,jz V c S w b->V.D b->cy bG g d b λf a=>f=aO (dB #[wO,aL bF,.nilIface])/\V.D a/\Y (λk=>S k\/V.F k) b a
 |x::l,S,w=>vr V c S w/\∀b,jz V c S w b->V.D b->cy bG g d b λf a=>f=aO (dB #[x.value,aL bW,.nilIface])/\V.D a/\Y (λk=>S k\/V.F k) b a/\∃e,(∀k,e k->S k\/z (G b)<=k)/\Hy V c g d l e a
def vr.apart(h:vr r b X a):∀k,X k->¬r.F k:=λk d c=>by have:=h.aN k c;have:=(h.each k d).1;omega
def vr.aw{S T:fJ}{w w':I}(h:vr r b S w)(c:Y T w w'):vr r b S w':=⟨aE h.1 c.size,h.aN,λk a=>⟨(h.each k a).1,ag (h.each k a).2 c.size⟩⟩
def vr.same{V:jj}{n0:M}{S:fJ}(h:vr V n0 S a)(c:jz V n0 S a f):vr V n0 S f:=⟨aE h.1 c.1,h.aN,λk b=>⟨(h.each k b).1,ag (h.each k b).2 c.1⟩⟩
def Hy.own{b f:M}(h:Hy r b f V e X a):vr r b X a:=by
 cases e<;>exact h.1
def Hy.same{V:jj}{n0 j:M}{h:Array aa}{S:fJ}(i:Hy V n0 j h e S a)(b:jz V n0 S a f):Hy V n0 j h e S f:=by
 cases e with
 |nil=>exact⟨i.1.same b,λg c d=>i.2 g (b.trans c) d⟩
 |cons x e=>exact⟨i.1.same b,λg c d=>i.2 g (b.trans c) d⟩
def ji(V:jj)(c:M)(v:aa)(l:cA)(S:fJ)(w:I):Prop:=∃f b,v=.func (.func f) #[] b/\(∀a w,(callFunc f a).run bG w=.ok (.enter f a) w)/\Hy V c f b l S w
def ji.same{V:jj}{n0:M}{S:fJ}(k:ji V n0 d e S a)(i:jz V n0 S a f):ji V n0 d e S f:=by
 obtain⟨j,b,c,g,h⟩:=k;exact⟨j,b,c,g,h.same i⟩
def ji.own(h:ji r b d e X a):vr r b X a:=by
 obtain⟨f,g,j,k,c⟩:=h;exact c.own
def lE(n:Z):aa:=if n=0 then .nilIface else .iface 55 (ap n)
def Li{b:uz}(hp:xV a d b)(S:∀an,bV d=H an->an<z (G a))(hr:y b<=1000000000000)(T:∀ac∈b,ac.key.size<=140737488351232/\ac.val.size<=140737488351232):cy bG 42 #[d] a λp f=>p=aO (lE<|fY b)/\Y aB a f:=by
 have Q:∀(ac:Bool)(a:I),(Op.unary .not<|aL ac).run bG a=.ok (aL<|!ac) a:=λ_ _=>rfl;obtain⟨h1,⟨rfl,h0⟩|⟨N,j,ad,rfl,al,P⟩⟩:=hp;(.obtain rfl:b=[]:=aQ h0;(go_in);go_wp2;(go_loopw [11] (λV wr=>V=ap 0/\wr=a) (λ_ _=>0));(case atStart=>exact⟨rfl,rfl⟩);(case round=>obtain⟨rfl,c⟩:=hrel;subst wr;go_wp2;go_ret;exact⟨rfl,Y.refl _ _⟩))
 .have K:N<z (G a):=S N rfl;have D:=U P;have HZ:=U T;clear P h1 S T;by_cases O:8<y b
  .have F:=U (show fY b=2 by unfold fY;rw[dw O]);have e1:(8:Z)<(y b:Z):=by omega
   go_in
   go_wp2;go_ret;exact⟨by rw[ae F];rfl,Y.refl _ _⟩
  .have F:=U (show fY b=lL b by unfold fY;rw[cW O]);have e1:¬(8:Z)<(y b:Z):=by omega
   go_in
   go_wp2;go_loopw [11] (λV wr=>∃n:M,n<=y b/\V=ap n/\fY b=lL (b.drop n)/\Y aB a wr) (λV _=>y b-(intOf V).toNat)
   case atStart=>exact⟨0,bA _,rfl,F,Y.refl _ _⟩
   case round=>
    obtain⟨n,hn,rfl,C,i⟩:=hrel;have E:=U C;by_cases g:n<y b
    .have B:=kU b n g;have s:aT wr (R N<|j+n*3)=H (ai b[n].key):=i.cell (D _ _ B.1) id K;have t:aT wr (R N<|j+n*3+1)=H (ai b[n].val):=i.cell (by rw[aV];exact D _ _ B.2.1) id K;have u:aT wr (R N<|j+n*3+2)=H (aL b[n].del):=i.cell (by rw[aV];exact D _ _ B.2.2) id K;have e:=HZ _<|aq g;have k:=U i;clear B C i;by_cases x:b[n].key.size=0\/8<b[n].key.size
     .have q:=U<|E.trans<|Cx g x;generalize b[n]=X at*;obtain⟨r,w,L⟩:=X;simp only at s t u x e;have l:∀W,cy bG 68 #[ai r] W λp f=>p=aO (aL bF)/\f=W:=by
       intro W;apply(qK r W e.1).mono;rintro p f⟨rfl,rfl⟩;exact⟨pY (by simp;omega),rfl⟩
      go_wp2_with fail
      apply(l _).mono;rintro p o⟨rfl,m⟩;subst o;go_wp2;go_ret;exact⟨by rw[ae q];rfl,k.alloc _⟩
     .by_cases c:b[n].del=bF/\16<b[n].val.size
      .have q:=U<|E.trans<|Cw g x c;generalize b[n]=X at*;obtain⟨r,w,L⟩:=X;simp only at s t u x c e;obtain⟨rfl,A⟩:=c;have l:∀W,cy bG 68 #[ai r] W λp f=>p=aO (aL bW)/\f=W:=by
        intro W;apply(qK r W e.1).mono;rintro p f⟨rfl,rfl⟩;exact⟨pY (by simp;omega),rfl⟩
       have v:∀W,cy bG 69 #[ai w] W λp f=>p=aO (aL bF)/\f=W:=by
        intro W;apply(xE w W e.2).mono;rintro p f⟨rfl,rfl⟩;exact⟨pY (by simp;omega),rfl⟩
       go_wp2_with fail
       apply(l _).mono;rintro p o⟨rfl,m⟩;subst o;go_wp2_with fail
       apply(v _).mono;rintro p o⟨rfl,m⟩;subst o;go_wp2;go_ret;exact⟨by rw[ae q];rfl,k.alloc _⟩
      .have q:=U<|E.trans<|Fb g x c;generalize b[n]=X at*;obtain⟨r,w,L⟩:=X;simp only at s t u x c e;have l:∀W,cy bG 68 #[ai r] W λp f=>p=aO (aL bW)/\f=W:=by
        intro W;apply(qK r W e.1).mono;rintro p f⟨rfl,rfl⟩;exact⟨pY (by simp;omega),rfl⟩
       cases L with
       |true=>
        clear c;go_wp2_with fail
        apply(l _).mono;rintro p o⟨rfl,m⟩;subst o;go_wp2;go_roundw;case rel=>exact⟨n+1,g,by go_num,q,k.alloc _⟩
        case measure=>simp[intOf];omega
       |false=>
        have A:w.size<=16:=by simp at c;omega
        have v:∀W,cy bG 69 #[ai w] W λp f=>p=aO (aL bW)/\f=W:=by
         intro W;apply(xE w W e.2).mono;rintro p f⟨rfl,rfl⟩;exact⟨pY (by simp;omega),rfl⟩
        clear c;go_wp2_with fail
        apply(l _).mono;rintro p o⟨rfl,m⟩;subst o;go_wp2_with fail
        apply(v _).mono;rintro p o⟨rfl,m⟩;subst o;go_wp2;go_roundw;case rel=>exact⟨n+1,g,by go_num,q,k.alloc _⟩
        case measure=>simp[intOf];omega
    .have c:n=y b:=by omega
     have q:=U (show fY b=0 by rw[C,c,gm];rfl);have k:=U i;have e:¬(n:Z)<(y b:Z):=by omega
     clear C i c;go_wp2;go_ret;exact⟨by rw[ae q];rfl,k⟩
structure SR where
 aN:M
 mem:Z
 wH:Z
 closed:Bool
 memory:aa
 iS:M
 bC:M
 l0:aa
 l1:aa
 l2:aa
 l3:aa
 next:M
 gZ:M
 lT:Option M
 log:M
 gB:Bool
 vG:Bool
 km:Bool
 kj:Bool
variable{n:SR}
def SR.cells(s:SR)(k:Z):Array aa:=#[jk k,dq 0,aA s.aN,ap s.mem,ap s.wH,aL s.closed,.nilIface,s.memory,ap s.iS,aH s.bC,s.l0,s.l1,s.l2,s.l3,aH s.next,ap s.gZ,.map s.lT,aH s.log,aL s.gB,aL s.vG,aL s.km,aL s.kj]
def bL(w:I)(a:M)(s:SR)(k:Z):Prop:=w.heap[a]?=H (ar (s.cells k) 110 (0,0))
def bL.cell(h:bL a b n m){i:M}(c:(n.cells m)[i]?=H d):aT a (R b i)=H d:=by
 rw[bN h];exact c
def bL.cellAt(h:bL a b n m)(i:M)(e:(n.cells m).toList[i]?=H d):aT a (R b i)=H d:=h.cell (by rw[<-e];simp)
def bL.free{b i:M}(h:bL a b n m):a.frozen? (R b i)=bF:=dK h
def bL.aw{S:fJ}{w w':I}(h:bL w b n m)(c:Y S w w')(a:¬S b):bL w' b n m:=(c.block b (ak h) a).trans h
def XC(w:I)(t:aa):cy bG 47 #[.nilIface,t] w λe a=>e=aO (aL bF)/\a=w:=by
 go_in
 go_wp2;go_ret;exact⟨rfl,rfl⟩
def GY(w:I):cy bG 67 #[.nilIface] w λe a=>e=aO .nilIface/\Below (z<|G w) w a:=by
 go_in
 go_wp2_with(go_at_call 47;refine(XC _ _).mono ?_;rintro e b⟨rfl,rfl⟩)
 go_ret;exact⟨rfl,(Below.refl _ w).alloc (ah _) _⟩
def iZ(h:bL a b n m):cy bG 41 #[aA b] a λg f=>g=aO (lE<|if n.closed then 6 else 0)/\Below (z<|G a) a f:=by
 have c5:aT a (R b 5)=H (aL n.closed):=h.cell rfl;have i:aT a (R b 6)=H .nilIface:=h.cell rfl;have e:=GY a;cases hc:n.closed with
 |true=>
  rw[hc]at c5;clear h hc;go_in
  go_wp2;go_ret;exact⟨rfl,Below.refl _ _⟩
 |false=>
  rw[hc]at c5;clear h hc;go_in
  go_wp2_with(go_at_call 67;refine e.mono ?_;rintro g j⟨rfl,c⟩;have d:=U c;clear c)
  go_ret;exact⟨rfl,d⟩
def ve(a:Z)(i n:M):Bool:=if i=0 then decide (a<=(n:Z))else decide (i<3)&&decide (a<(n:Z))
def rE(i f:M)(x:Option Addr)(g:M)(h:bL a b n m)(k:i<4):cy bG 102 #[aA b,ap i,J x f g] a λj e=>j=aO (aL<|ve n.wH i f)/\e=a:=by
 have c4:aT a (R b 4)=H (ap n.wH):=h.cell rfl;generalize n.wH=d at*;clear h;have c:i=0\/i=1\/i=2\/i=3:=by omega
 rcases c with rfl|rfl|rfl|rfl;(·(go_in);go_wp2;go_ret;exact⟨rfl,rfl⟩);(·(go_in);go_wp2;go_ret;exact⟨rfl,rfl⟩);(·(go_in);go_wp2;go_ret;exact⟨rfl,rfl⟩);(go_in);go_wp2;go_ret;exact⟨rfl,rfl⟩
section
open Go.Conc.Locks
def bL.gO(h:bL a b n m)(j:Z):bL (bZ a (R b 0)<|jk j) b n j:=by
 have:=aR (i:=0) (u:=jk j) h;exact this
def IY(h:bL a b n 0):cy bG 108 #[aA b] a λj d=>j=aO (aL n.closed)/\bL d b n 0/\Y (λk=>k=b) a d:=by
 have g:=bL.cellAt h 0 rfl;have l:a.frozen? (R b 0)=bF:=h.free;have c:=h.gO 1;have c5:=bL.cellAt c 5 rfl;have i:=bL.cellAt c 0 rfl;have m:(bZ a (R b 0)<|jk 1).frozen? (R b 0)=bF:=c.free;have e:=U<|show bL (bZ (bZ a (R b 0)<|jk 1) (R b 0)<|jk 0) b n 0/\Y (λk=>k=b) a (bZ (bZ a (R b 0)<|jk 1) (R b 0)<|jk 0)from⟨c.gO 0,((Y.refl (λk=>k=b) a).setCell b 0 _<|.inl rfl).setCell b 0 _<|.inl rfl⟩;clear h c;go_enter_defers func108,ntmps108
 go_wp2_with(go_at_call 39;refine(lock_free (R b 0) _ g l).mono ?_;rintro j d⟨rfl,rfl⟩)
 refine eY (f:=40) (args:=#[aA b]) (by simp) (by simp[go_sem]) ?_;apply(unlock_deferred (R b 0) .returning _ i m).mono;rintro j p o⟨rfl,rfl,rfl⟩;exact⟨_,gK rfl _ _ _,rfl,e⟩
end
def TG(d:aa)(b a:Z)(w:I)(e:∃p,d=.pointer p)(h:¬(1<=b/\b<=32/\2<=a/\a<=6)):cy bG 26 #[d,eC #[ap b,ap a]] w λg f=>g=aO (dB #[fp none,lE 1])/\Y aB w f:=by
 obtain⟨p,rfl⟩:=e;have c:=U<|show Y aB w (ct w<|ar #[ap b,ap a] 78)from(Y.refl aB w).alloc _;unfold lE;simp only[Int.reduceEq,kg];by_cases i:b<1;(.clear h;(go_in);go_wp2;(go_ret2);exact⟨rfl,c⟩);by_cases j:32<b;(.clear h;(go_in);go_wp2;(go_ret2);exact⟨rfl,c⟩);by_cases k:a<2;(.clear h;(go_in);go_wp2;(go_ret2);exact⟨rfl,c⟩);have l:6<a:=by omega
 clear h;go_in
 go_wp2;go_ret2
 exact⟨rfl,c⟩
def SR.fresh(c:M)(b a:Z)(d:M):SR:=⟨c,b,a,bF,aK,0,0,aK,aK,aK,aK,0,0,H d,0,bF,bF,bF,bF⟩
def Io(a:M):Array aa:=#[.func (.func 55) #[aA a] #[],.func (.func 56) #[aA a] #[],.func (.func 57) #[aA a] #[],.func (.func 58) #[aA a] #[]]
def ju.YY(w:I)(o:Obj):ju (ct (ct w o)<|.map #[] 0) (z (G w)+1) []:=by
 have h:=ju.new<|ct w o;have e:z (G<|ct w o)=z (G w)+1:=by simp
 rw[e]at h;exact h
def VO(q:M)(e a:Z)(w:I)(X:1<=e/\e<=32/\2<=a/\a<=6)(p t u v x:I->Prop)(o:∀W,Y aB w W->bL W (z (G w)+2) (SR.fresh q e a<|z (G w)+1) 0->ju W (z (G w)+1) []->z (G W)=z (G w)+4->p W)(C:∀W,p W->cy bG 55 #[aA<|z (G w)+2] W λn k=>n=aO .nilIface/\t k/\k.heap[z (G w)+3]?=W.heap[z (G w)+3]?)(D:∀W,t W->cy bG 56 #[aA<|z (G w)+2] W λn k=>n=aO .nilIface/\u k/\k.heap[z (G w)+3]?=W.heap[z (G w)+3]?)(E:∀W,u W->cy bG 57 #[aA<|z (G w)+2] W λn k=>n=aO .nilIface/\v k/\k.heap[z (G w)+3]?=W.heap[z (G w)+3]?)(F:∀W,v W->cy bG 58 #[aA<|z (G w)+2] W λn k=>n=aO .nilIface/\x k/\k.heap[z (G w)+3]?=W.heap[z (G w)+3]?):cy bG 26 #[aA q,eC #[ap e,ap a]] w λn k=>n=aO (dB #[aA<|z (G w)+2,.nilIface])/\x k:=by
 obtain⟨o1,o2,o3,o4⟩:=X;have e1:¬e<1:=by omega
 have e2:¬32<e:=by omega
 have e3:¬a<2:=by omega
 have e4:¬6<a:=by omega
 have P:∀b w,(callFunc 55 b).run bG w=.ok (.enter 55 b) w:=enters_of func55 (by kernel_rfl) rfl;have Q:∀b w,(callFunc 56 b).run bG w=.ok (.enter 56 b) w:=enters_of func56 (by kernel_rfl) rfl;have S:∀b w,(callFunc 57 b).run bG w=.ok (.enter 57 b) w:=enters_of func57 (by kernel_rfl) rfl;have T:∀b w,(callFunc 58 b).run bG w=.ok (.enter 58 b) w:=enters_of func58 (by kernel_rfl) rfl;obtain⟨B,K,L,N,O⟩:=jP (show p (ct (ct (ct (ct w<|ar #[ap e,ap a] 78)<|.map #[] 0)<|ar ((SR.fresh q e a<|z (G w)+1).cells 0) 110)<|ar (Io<|z (G w)+2) 64)/\(ct (ct (ct (ct w<|ar #[ap e,ap a] 78)<|.map #[] 0)<|ar ((SR.fresh q e a<|z (G w)+1).cells 0) 110)<|ar (Io<|z (G w)+2) 64).heap[z (G w)+3]?=H (ar (Io<|z (G w)+2) 64 (0,0))from⟨o _ (((((Y.refl aB w).alloc _).alloc _).alloc _).alloc _) ((fX _<|by simp).trans<|aD _<|by simp) (((ju.YY w _).alloc _).alloc _) (by simp),aD _<|by simp⟩) C D E F;clear o1 o2 o3 o4 o C D E F;have V:=@tF bG;go_in
 go_wp2;go_loopw [44] (λi wr=>∃(r:M),r<=4/\i=ap r/\((r=0/\p wr)\/(r=1/\t wr)\/(r=2/\u wr)\/(r=3/\v wr)\/(r=4/\x wr))/\wr.heap[z (G w)+3]?=H (ar (Io<|z (G w)+2) 64 (0,0))) (λi _=>4-(intOf i).toNat)
 case atStart=>exact⟨0,by omega,by go_num,.inl ⟨rfl,B.1⟩,B.2⟩
 (case round=>obtain⟨r,hj,rfl,f,j⟩:=hrel;have f0:=cellAt j 0 rfl;have f1:=cellAt j 1 rfl;have f2:=cellAt j 2 rfl;have f3:=cellAt j 3 rfl;have l:=U j;clear j;rcases f with⟨rfl,f⟩|⟨rfl,f⟩|⟨rfl,f⟩|⟨rfl,f⟩|⟨rfl,f⟩;(.have m:=K wr f;clear f;(go_wp2_with(go_at_fn 55;refine m.mono ?_;rintro n A⟨rfl,c,d⟩;have i:=U c;have g:=U<|d.trans l;clear c d));go_roundw;(case rel=>exact⟨1,by omega,by go_num,.inr<|.inl ⟨rfl,i⟩,g⟩);case measure=>simp[intOf]);(.have m:=L wr f;clear f;(go_wp2_with(go_at_fn 56;refine m.mono ?_;rintro n A⟨rfl,c,d⟩;have i:=U c;have g:=U<|d.trans l;clear c d));go_roundw;(case rel=>exact⟨2,by omega,by go_num,.inr<|.inr<|.inl ⟨rfl,i⟩,g⟩);case measure=>simp[intOf]);(.have m:=N wr f;clear f;(go_wp2_with(go_at_fn 57;refine m.mono ?_;rintro n A⟨rfl,c,d⟩;have i:=U c;have g:=U<|d.trans l;clear c d));go_roundw;(case rel=>exact⟨3,by omega,by go_num,.inr<|.inr<|.inr<|.inl ⟨rfl,i⟩,g⟩);case measure=>simp[intOf]);(.have m:=O wr f;clear f;(go_wp2_with(go_at_fn 58;refine m.mono ?_;rintro n A⟨rfl,c,d⟩;have i:=U c;have g:=U<|d.trans l;clear c d));go_roundw;(case rel=>exact⟨4,by omega,by go_num,.inr<|.inr<|.inr<|.inr<|⟨rfl,i⟩,g⟩);case measure=>simp[intOf]);have s:=U f;clear f;go_wp2;(go_ret2);exact⟨rfl,s⟩)
def zC(l:iH):Prop:=l.Pairwise<|λa b=>ic a.1 b.1=bW
def Au(a k:ab):EN a k=!ic a k:=rfl
def DB(k v:ab)(l a:iH):l.foldl (fQ k v) (a,bW)=(a++l.filter (λp=>!decide (p.1=k)),bW):=by
 induction l generalizing a with
 |nil=>simp
 |cons p r b=>
  rw[fP];by_cases h:p.1=k
  .have:fQ k v (a,bW) p=(a,bW):=by simp[fQ,h]
   rw[this,b];simp[h]
  .have:fQ k v (a,bW) p=(a++[p],bW):=by simp[fQ,h]
   rw[this,b];simp[h]
def Qs(k v:ab)(a:iH)(s:zC K):K.foldl (fQ k v) (a,bF)=if K.all (λp=>ic p.1 k)then(a++K,bF)else(a++K.filter (λp=>ic p.1 k)++[(k,v)]++K.filter (λp=>ic k p.1),bW):=by
 induction K generalizing a with
 |nil=>simp
 |cons p r o=>
  obtain⟨l,m⟩:=bw.1 s;rw[fP];cases c:ic p.1 k with
  |true=>
   have b:=nZ c;have h:EN p.1 k=bF:=by rw[Au,c];rfl
   have:fQ k v (a,bF) p=(a++[p],bF):=by simp[fQ,b,h]
   rw[this,o _ m];simp only[ue,c,yJ];split
   .simp
   .rw[eN (by simp[c]),cZ<|by simp[lI c]];simp
  |false=>
   have h:EN p.1 k=bW:=by rw[Au,c];rfl
   have d:∀q∈r,ic k q.1=bW:=λq b=>xD c<|l q b;have e:r.filter (λp=>ic p.1 k)=[]:=gN.2 (λq b=>by simp[lI<|d q b]);have f:r.filter (λp=>ic k p.1)=r:=eV.2<|λq b=>d q b;have g:r.filter (λp=>!decide (p.1=k))=r:=eV.2 (λq b=>by have:=nZ<|d q b;simp;exactλj=>this j.symm);by_cases i:p.1=k
   .have:fQ k v (a,bF) p=(a++[(k,v)],bW):=by
     unfold fQ;simp only[h];simp[i]
    rw[this,DB,g];simp only[ue,c,pT];rw[cZ (by simp[c]),e,cZ (by rw[i,fj];simp),f];simp
   .have:fQ k v (a,bF) p=(a++[(k,v)]++[p],bW):=by simp[fQ,h,i]
    have n:ic k p.1=bW:=by
     cases j:ic k p.1 with
     |true=>rfl
     |false=>exact absurd (nN c j) i
    rw[this,DB,g];simp only[ue,c,pT];rw[cZ (by simp[c]),e,eN (by simp[n]),f];simp
def Pb(o:zC K)(k v:ab)(g:Bool):vL K k v g=K.filter (λp=>ic p.1 k)++(if g then []else [(k,v)])++K.filter (λp=>ic k p.1):=by
 have h:K.filter (λp=>!decide (p.1=k))=K.filter (λp=>ic p.1 k)++K.filter (λp=>ic k p.1):=by
  clear v g;induction K with
  |nil=>rfl
  |cons p r n=>
   obtain⟨j,l⟩:=bw.1 o;cases e:ic p.1 k with
   |true=>
    rw[eN (by simp[nZ e]),eN (by simp[e]),cZ (by simp[lI e]),n l];rfl
   |false=>
    have d:∀q∈r,ic k q.1=bW:=λq c=>xD e<|j q c;have a:r.filter (λp=>ic p.1 k)=[]:=gN.2 (λq c=>by simp[lI<|d q c]);have b:r.filter (λp=>ic k p.1)=r:=eV.2<|λq c=>d q c;have f:r.filter (λp=>!decide (p.1=k))=r:=eV.2 (λq c=>by have:=nZ<|d q c;simp;exactλi=>this i.symm);by_cases g:p.1=k
    .rw[cZ (by simp[g]),cZ (by simp[e]),cZ (by rw[g,fj];simp),a,b,f];rfl
    .have m:ic k p.1=bW:=by
      cases i:ic k p.1 with
      |true=>rfl
      |false=>exact absurd (nN e i) g
     rw[eN (by simp[g]),cZ (by simp[e]),eN (by simp[m]),a,b,f];rfl
 unfold vL pW;cases g with
 |true=>
  rw[DB];simp only[cC,ite_true,dJ];exact h
 |false=>
  rw[Qs k v [] o];by_cases e:K.all (λp=>ic p.1 k)=bW
  .rw[dw e];rw[nI]at e;have a:K.filter (λp=>ic p.1 k)=K:=eV.2 e;have b:K.filter (λp=>ic k p.1)=[]:=gN.2 (λq c=>by simp[lI<|e q c]);rw[a,b];simp
  .rw[cW e];simp
def Tg(h:zC K)(k v:ab)(d:Bool):zC (vL K k v d):=by
 rw[Pb h];refine bR.2 ⟨bR.2 ⟨lA eU h,?_,?_⟩,lA eU h,?_⟩;cases d<;>simp
 .intro c a e b;cases d with
  |true=>simp at b
  |false=>simp at a b;rw[b];exact a.2
 .intro c a e b;simp only[cS]at b;rcases am.1 a with a|a
  .simp only[cS]at a;exact lH a.2 b.2
  .cases d with
   |true=>simp at a
   |false=>simp at a;rw[a];exact b.2
def TP(h:zC K){p:KV}:p∈vL K v W D↔(p.1≠v/\p∈K)\/(D=bF/\p=(v,W)):=by
 rw[Pb h];simp only[am,cS];constructor
 .rintro((⟨a,b⟩|a)|⟨a,b⟩)
  .exact .inl ⟨nZ b,a⟩
  .cases D with
   |true=>simp at a
   |false=>simp at a;exact .inr ⟨rfl,a⟩
  .exact .inl ⟨λe=>nZ b e.symm,a⟩
 .rintro(⟨a,b⟩|⟨rfl,rfl⟩)
  .cases c:ic p.1 v with
   |true=>exact .inl<|.inl ⟨b,rfl⟩
   |false=>
    cases e:ic v p.1 with
    |true=>exact .inr ⟨b,rfl⟩
    |false=>exact absurd (nN c e) a
  .exact .inl<|.inr<|by simp
def zC.ext{m:iH}(n:zC K)(o:zC m)(e:∀x,x∈K↔x∈m):K=m:=by
 induction K generalizing m with
 |nil=>
  cases m with
  |nil=>rfl
  |cons a r=>exact absurd ((e a).2<|by simp)<|by simp
 |cons x r i=>
  cases m with
  |nil=>exact absurd ((e x).1<|by simp)<|by simp
  |cons a s=>
   obtain⟨f,h⟩:=bw.1 n;obtain⟨g,j⟩:=bw.1 o;have d:x=a:=by
    rcases az.1 ((e x).1<|by simp)with p|p
    .exact p
    .rcases az.1 ((e a).2<|by simp)with q|q
     .exact q.symm
     .have l:=g x p;have k:=f a q;rw[lI l]at k;cases k
   subst d;congr 1;refine i h j<|λb=>⟨λc=>?_,λc=>?_⟩
   .rcases az.1 ((e b).1<|aJ _ c)with p|p
    .have:=f b c;rw[p,fj]at this;cases this
    .exact p
   .rcases az.1 ((e b).2<|aJ _ c)with p|p
    .have:=g b c;rw[p,fj]at this;cases this
    .exact p
def vt(a:dW)(l:iH):Prop:=zC l/\∀k v,(k,v)∈l↔seen a k=H v
def vt.congr{b:dW}(h:vt k K)(e:∀a,seen b a=seen k a):vt b K:=⟨h.1,λa v=>by rw[e a];exact h.2 a v⟩
def UT(h:∀r∈k,r=[]):vt k []:=by
 refine⟨List.Pairwise.nil,λb v=>?_⟩;have:qL k b=none:=by unfold qL;rw[List.findSome?_eq_none_iff];intro r a;rw[h r a];rfl
 simp[seen,this]
def US(g:wM e)(h:vt (e::k) K)(b:E):vt (sP e b::k) (vL K b.key b.val b.del):=by
 refine⟨Tg h.1 _ _ _,λf v=>?_⟩;rw[TP h.1];simp only;have a:seen (sP e b::k) f=if f=b.key then(if b.del then none else H b.val)else seen (e::k) f:=by unfold seen;rw[qi,qi,LU g];split;simp;rfl
 rw[a,h.2 f v];by_cases d:f=b.key
 .rw[dw d];cases hd:b.del with
  |true=>simp[d]
  |false=>simp[d];exact eq_comm
 rw[cW d];constructor;rintro(⟨_,c⟩|⟨_,c⟩);exact c;simp only[gT]at c;exact absurd c.1 d;intro c;exact .inl ⟨d,c⟩
def Sm(i:vt k K)(b:ab):qf K b=match seen k b with|some v=>(v,bW)|none=>(⟨#[]⟩,bF):=by
 have c:∀m:iH,(∀p∈m,p∈K)->(∀v,seen k b=H v->(b,v)∈m)->qf m b=match seen k b with|some v=>(v,bW)|none=>(⟨#[]⟩,bF):=by
  intro m;induction m with
  |nil=>
   intro _ d;cases hs:seen k b with
   |none=>rfl
   |some v=>exact absurd (d v hs)<|by simp
  |cons p r h=>
   intro f d;unfold qf;split
   .rename_i a;have:seen k b=H p.2:=(i.2 b p.2).1 (by rw[<-a];exact f p<|by simp);rw[this]
   .rename_i a;refine h (λq g=>f q<|by simp[g])<|λv e=>?_;rcases az.1 (d v e)with q|q
    .rw[<-q]at a;exact absurd rfl a
    .exact q
 exact c K (λp a=>a)<|λv e=>(i.2 b v).2 e
def yT(e:E):KV:=(e.key,e.val)
def Sl(o:vt k K)(l:∀g j,qL k g=H j->j.key=g)(i:ab)(m:wM e)(h:∀x,x∈e↔qL k x.key=H x/\ic x.key i=bF):(e.filter<|λj=>!j.del).map yT=K.filter (λp=>EN p.1 i):=by
 refine zC.ext ?_ (lA eU o.1)<|λp=>?_;unfold zC;rw[jp];exact m.sub eU
 .obtain⟨g,v⟩:=p;simp only[aZ,cS,Au];rw[o.2 g v];constructor
  .rintro⟨x,⟨n,c⟩,b⟩;obtain⟨a,d⟩:=(h x).1 n;simp only[yT,gT]at b;obtain⟨rfl,rfl⟩:=b;have f:x.del=bF:=by simpa using c
   exact⟨by simp[seen,a,f],by simp[d]⟩
  .rintro⟨a,d⟩;unfold seen at a;cases hh:qL k g with
   |none=>rw[hh]at a;cases a
   |some x=>
    rw[hh]at a;simp only[qE]at a;have b:=l g x hh;cases c:x.del with
    |true=>rw[c]at a;cases a
    |false=>
     rw[c]at a;refine⟨x,⟨(h x).2 ⟨by rw[b];exact hh,by rw[b];simpa using d⟩,by simp[c]⟩,?_⟩;simp only[yT,gT];refine⟨b,?_⟩;simpa using a
def vZ(c:ab)(a:Z):iH->iH->iH
 |b,[]=>b
 |b,p::r=>if(!(c.toList==[])&&!ic p.1 c)=bW then b else if((y b:Z)+1==a)=bW then b++[p]else vZ c a (b++[p]) r
def Va{r:iH}(h:0<m)(d:m<=y K):r.foldl (jL v W m) K=K:=by
 induction r with
 |nil=>rfl
 |cons p r c=>
  rw[fP];have:jL v W m K p=K:=by
   unfold jL rD;have a:decide (m<=0)=bF:=by simp;omega
   have b:decide ((y K:Z)<m)=bF:=by simp;omega
   rw[a,b];simp
  rw[this,c]
def XA{r:iH}(c:(W.toList==[])=bF)(a:∀p∈r,ic p.1 W=bF):r.foldl (jL v W m) K=K:=by
 induction r with
 |nil=>rfl
 |cons p r d=>
  rw[fP];have:jL v W m K p=K:=by
   unfold jL rD;have b:Op.bytesLess p.1.toList W.toList=bF:=a p (by simp);rw[c,b];simp
  rw[this,d<|λp b=>a p<|by simp[b]]
def Wi{a:iH}(n:zC K)(h:∀p∈K,ic p.1 v=bF)(k:m<=0\/(y a:Z)<m):vZ W m a K=K.foldl (jL v W m) a:=by
 induction K generalizing a with
 |nil=>rfl
 |cons p r o=>
  obtain⟨i,j⟩:=bw.1 n;have l:EN p.1 v=bW:=by rw[Au,h p<|by simp];rfl
  have e:(decide (m<=0)||decide ((y a:Z)<m))=bW:=by simpa using k
  unfold vZ;split
  .rename_i b;simp at b;refine(XA (by simpa using b.1) ?_).symm;intro q f;rcases az.1 f with c|c
   .rw[c];exact b.2
   .cases d:ic q.1 W with
    |false=>rfl
    |true=>have:=lH (i q c) d;rw[b.2]at this;cases this
  .rename_i b;have g:jL v W m a p=a++[p]:=by
    unfold jL rD;rw[l,e];have:((W.toList==[])||Op.bytesLess p.1.toList W.toList)=bW:=by
     cases d:(W.toList==[])with
     |true=>rfl
     |false=>
      rw[d]at b;show(bF||ic p.1 W)=bW;simpa using b
    rw[this];rfl
   rw[fP,g];split
   .rename_i c;have:(y a:Z)+1=m:=by simpa using c
    exact(Va (by omega) (by simp;omega)).symm
   .rename_i c;refine o j (λq f=>h q<|by simp[f]) ?_;have:¬(y a:Z)+1=m:=by simpa using c
    simp;omega
def Vb(l:iH)(d e:ab)(a:Z):mO l d e a=(l.filter<|λp=>EN p.1 d).foldl (jL d e a) []:=by
 unfold mO;generalize([]:iH)=b;induction l generalizing b with
 |nil=>rfl
 |cons p r f=>
  cases c:EN p.1 d with
  |true=>rw[eN (by simp[c]),fP,fP,f]
  |false=>
   have:jL d e a b p=b:=by unfold jL rD;rw[c];simp
   rw[cZ (by simp[c]),fP,this,f]
def OG(l:vt k K)(h:∀j b,qL k j=H b->b.key=j)(c d:ab)(a:Z)(g:wM e)(i:∀x,x∈e↔qL k x.key=H x/\ic x.key c=bF):vZ d a [] ((e.filter<|λb=>!b.del).map yT)=mO K c d a:=by
 have b:=Sl l h c g i;rw[Vb,<-b];refine Wi ?_ ?_ ?_;unfold zC;rw[jp];exact g.sub eU;intro p f;rw[b,cS,Au]at f;simpa using f.2;simp only[cL];omega
def BK(x a:E)(w:I):cy bG 195 #[x.value,a.value] w λe f=>e=aO (aL<|ahead x a)/\f=ct (ct w<|ar #[ai x.key,ai x.val,aL x.del,aH x.bI] 164) (ar #[ai a.key,ai a.val,aL a.del,aH a.bI] 164):=by
 have b:ahead x a=(Op.bytesLess x.key.toList a.key.toList||((x.key.toList==a.key.toList)&&decide (a.bI<x.bI))):=by unfold ahead ic;congr 2;rw[wl];simp only[beq_iff_eq,jl];exact⟨λe=>by rw[e],Jz⟩
 rw[b];clear b;obtain⟨c,j,i,g⟩:=x;obtain⟨d,m,l,k⟩:=a;unfold E.value;simp only;cases h1:Op.bytesLess c.toList d.toList with
 |true=>
  go_in
  go_wp2;go_ret;exact⟨rfl,rfl⟩
 |false=>
  cases h2:(c.toList==d.toList)with
  |true=>
   go_in
   go_wp2;go_ret;exact⟨by simp,rfl⟩
  |false=>
   go_in
   go_wp2;go_ret;exact⟨by simp,rfl⟩
def zg{f:M}(B:Array aa)(o:M)(p:M->Bool)(w:I)(D:Enters bG f)(hn:o<=1000000000000)(F:∀ac Q,ac<=Q->Q<o->p ac=bW->p Q=bW)(E:∀j,j<o->∀W,Below (z<|G w) w W->cy bG f (#[ap j]++B) W λC P=>C=aO (aL<|p j)/\Below (z<|G W) W P):cy bG 224 #[ap o,.func (.func f) #[] B] w λC X=>∃N:M,C=aO (ap N)/\N<=o/\(∀j,j<N->p j=bF)/\(∀j,N<=j->j<o->p j=bW)/\Below (z<|G w) w X:=by
 have eg:∀a w,(callFunc f a).run bG w=.ok (.enter f a) w:=D;have L:∀(x:Bool)(w:I),(Op.unary .not<|aL x).run bG w=.ok (aL<|!x) w:=λ_ _=>rfl;have A:=U F;have O:=U E;clear F E D;go_in
 go_wp2;go_loopw [5,6] (λj a wr=>∃g e:M,j=ap g/\a=ap e/\g<=e/\e<=o/\(∀t,t<g->p t=bF)/\(∀t,e<=t->t<o->p t=bW)/\Below (z<|G w) w wr) (λj a _=>(intOf a).toNat-(intOf j).toNat)
 case atStart=>exact⟨0,o,rfl,rfl,bA _,ah _,λt h=>by omega,λt u h=>by omega,Below.refl _ _⟩
 case round=>
  obtain⟨g,e,rfl,rfl,S,l,r,s,b⟩:=hrel;obtain⟨v,x,k⟩:=dC r s b;by_cases T:g<e
  .obtain⟨m,V⟩:∃m:M,(g+e)/2=m:=⟨_,rfl⟩;have n:m<o:=by omega
   have a:=O m n wr b;have K:((g:Z)+(e:Z))/2=(m:Z):=by omega
   clear r s b;cases hp:p m with
   |false=>
    rw[hp]at a;have q:=U (λt(u:t<m+1)=>(show p t=bF from by
     cases c:p t with
     |false=>rfl
     |true=>have:=A t m (by omega) n c;rw[hp]at this;cases this))
    clear hp;go_wp2_with(go_at_fn f;refine a.mono ?_;rintro C w1⟨rfl,d⟩;have i:=U d;clear d)
    go_roundw;case rel=>exact⟨m+1,e,by go_num,rfl,by omega,l,q,x,k.trans<|i.mono k.size⟩
    case measure=>simp[intOf];omega
   |true=>
    rw[hp]at a;have q:=U<|λt(u:m<=t)(a:t<o)=>A m t u a hp;clear hp;go_wp2_with(go_at_fn f;refine a.mono ?_;rintro C w1⟨rfl,d⟩;have i:=U d;clear d)
    go_roundw;case rel=>exact⟨g,m,rfl,by go_num,by omega,by omega,v,q,k.trans<|i.mono k.size⟩
    case measure=>simp[intOf];omega
  .have a:g=e:=by omega
   subst a;clear r s b;go_wp2;go_ret;exact⟨g,rfl,l,v,x,k⟩
def aF(l:cA):iU:=l.flatMap E.cells
def fN(l:cA):y (aF l)=y l*4:=by
 induction l with
 |nil=>rfl
 |cons e r a=>unfold aF at*;rw[dI,af,a];simp[E.cells];omega
def fO(a b:cA):aF (a++b)=aF a++aF b:=by simp[aF]
def ez(l:cA)(n:M)(h:n<y l):(aF l)[n*4]?=H (ai l[n].key)/\(aF l)[n*4+1]?=H (ai l[n].val)/\(aF l)[n*4+2]?=H (aL l[n].del)/\(aF l)[n*4+3]?=H (aH l[n].bI):=by
 have e:aF l=aF (l.take n)++(E.cells l[n]++aF (l.drop<|n+1)):=by(have b:l=l.take n++l[n]::l.drop (n+1):=by rw[<-bE h,bX]);(conv=>lhs;rw[b]);simp only[aF,fZ,dI]
 have a:y (aF<|l.take n)=n*4:=by rw[fN];simp;omega
 refine⟨?_,?_,?_,?_⟩;rw[e,dE (by omega),a];simp[E.cells];rw[e,dE (by omega),a,show n*4+1-n*4=1 by omega];simp[E.cells];rw[e,dE (by omega),a,show n*4+2-n*4=2 by omega];simp[E.cells];rw[e,dE (by omega),a,show n*4+3-n*4=3 by omega];simp[E.cells]
def kw(w:I)(v:aa)(l:cA):Prop:=Row w 4 v (y l)<|aF l
def kw.below{B:M}(n:kw a d e)(k:Below B a f)(m:∀o,bV d=H o->o<B):kw f d e:=by
 obtain⟨h,⟨rfl,j⟩|⟨i,b,c,rfl,g,l⟩⟩:=n;exact⟨h,.inl ⟨rfl,j⟩⟩;exact⟨h,.inr ⟨i,b,c,rfl,g,λn u j=>(k.cell (p:=(R i<|b+n))<|m i rfl).trans<|l n u j⟩⟩
def below_drewN{w wr:I}(h:Below b w wr)(q:M):Below b w (wr.drewN q):=⟨h.os,h.tape,h.output,h.size,h.block⟩
def Im(h:v≠W):(v.toList==W.toList)=bF:=by
 cases c:(v.toList==W.toList)with
 |false=>rfl
 |true=>exact absurd (Jz<|by simpa using c) h
def ii.below{B b:M}(h:ii a b w)(c:Below B a f)(d:b<B):ii f b w:=(c.block b d).trans h
def NB(h:kw a d e)(i:dV a b d 102)(r:ii a c w)(j:M)(P:j<y e):cy bG 225 #[ap j,aA b,aA c] a λX Q=>X=aO (aL<|!ahead e[j] w)/\Below (z<|G a) a Q:=by
 have t:∀(w:Bool)(a:I),(Op.unary .not<|aL w).run bG a=.ok (aL<|!w) a:=λ_ _=>rfl;have c1:=i.cell;obtain⟨S,T,V,W⟩:=r.cells;obtain⟨O,⟨rfl,h0⟩|⟨n,f,o,rfl,q,k⟩⟩:=h;omega;have l:=ez e j P;have s:=k _ _ l.1;have K:aT a (R n<|f+j*4+1)=H (ai e[j].val):=by rw[aV];exact k _ _ l.2.1
 have L:aT a (R n<|f+j*4+2)=H (aL e[j].del):=by rw[aV];exact k _ _ l.2.2.1
 have N:aT a (R n<|f+j*4+3)=H (aH e[j].bI):=by rw[aV];exact k _ _ l.2.2.2
 have p:=λW=>BK e[j] w W;have e2:(j:Z)<(y e:Z):=by omega
 have e3:(0:Z)<=(j:Z):=by omega
 generalize e[j]=m at*;generalize ahead m w=ac at*;obtain⟨D,F,C,B⟩:=m;obtain⟨x,A,v,u⟩:=w;unfold E.value at p;simp only at p S T V W s K L N;have u1:=ak i;have u2:=ak r;have u3:n<z (G a):=cY _ _ s;clear k l r i O q;go_in
 go_wp2_with fail
 go_region_held3(λg=>aT g (R b 0)=H (bD n f (y e) o)/\aT g (R n<|f+j*4)=H (ai D)/\aT g (R n<|f+j*4+1)=H (ai F)/\aT g (R n<|f+j*4+2)=H (aL C)/\aT g (R n<|f+j*4+3)=H (aH B)/\aT g (R c 0)=H (ai x)/\aT g (R c 1)=H (ai A)/\aT g (R c 2)=H (aL v)/\aT g (R c 3)=H (aH u)) (first|assumption|go_keep) (first|(go_at_call 195;refine(p _).mono ?_;rintro X w1⟨rfl,rfl⟩))
 go_wp2;go_ret;have i:Below (z<|G a) a (ct (ct a<|ar #[ai D,ai F,aL C,aH B] 164)<|ar #[ai x,ai A,aL v,aH u] 164):=((Below.refl _ a).alloc (ah _) _).alloc (by simp) _;exact⟨rfl,i.os,i.tape,i.output,i.size,i.block⟩
def Bg(F:aa)(B:ab)(l:Z)(w:I)(h:kw w F e)(D:dQ e)(P:y e<=1000000000000)(E:∀l,bV F=H l->l<z (G w)):cy bG 180 #[F,ai B,aH l] w λO V=>O=aO (ap<|li e ⟨B,⟨#[]⟩,bF,l⟩)/\Below (z<|G w) w V:=by
 obtain⟨W,c⟩:∃W,ct (ct w<|ar #[F] 102) (ar #[ai B,ai ⟨#[]⟩,aL bF,aH l] 164)=W:=⟨_,rfl⟩;have t:Below (z<|G w) w W:=by rw[<-c];exact((Below.refl _ w).alloc (ah _) _).alloc (by simp) _
 have S:z (G W)=z (G w)+2:=by rw[<-c];simp
 have a:dV W (z<|G w) F 102:=by rw[<-c];exact dV.alloc (aD _ rfl) _
 have f:ii W (z (G w)+1) ⟨B,⟨#[]⟩,bF,l⟩:=by rw[<-c];exact aD _<|by simp
 have k:=zg #[aA<|z<|G w,aA<|z (G w)+1] (y e) (λC=>if u:C<y e then !ahead e[C] ⟨B,⟨#[]⟩,bF,l⟩else bW) W (enters_of func225 (by kernel_rfl) rfl) P (by
  intro C ac v g s;have x:C<y e:=by omega
  simp only[g,x,oE]at s|-;cases d:ahead e[ac] ⟨B,⟨#[]⟩,bF,l⟩with
  |false=>rfl
  |true=>rw[D.mono v g d]at s;cases s)
  (by
   intro C u N q;apply(NB (h.below (t.trans (q.mono (by omega))) E) ((q.block _ (by omega)).trans a) (f.below q (by omega)) C u).mono;rintro O X⟨rfl,r⟩;simp only[u,oE];exact⟨trivial,r⟩)
 have o:=U k;obtain⟨al,ad,A⟩:=bM h;have K:=U t;clear k h D E t a f S;subst A;subst c;go_in
 go_wp2_with(go_at_call 224;refine o.mono ?_;rintro O w1⟨p,rfl,Q,i,j,a⟩;have L:=U<|show li e ⟨B,⟨#[]⟩,bF,l⟩=p from VI Q (λT m b=>by have:=i T b;simpa[m]using this) (λT m b=>by have:=j T b m;simpa[m]using this);have n:=U a;clear i j a)
 go_ret;rw[ae L];exact⟨rfl,K.trans<|n.mono (by simp;omega)⟩
def dV.same{V:jj}{n0:M}{S:fJ}{t:TypeId}(h:dV a b d t)(e:jz V n0 S a f)(c:S b):dV f b d t:=(e.2 b<|.inr c).trans h
def xR(c a b:M)(v:aa)(k:M):Prop:=k=a\/k=b\/(bV v=H k/\c<=k)
structure JO(V:jj)(n0:M)(w:I)(xi xl:M)(v:aa)(l:cA)(i:M):Prop where
 bi:dV w xi (ap i) 3
 bl:dV w xl v 102
 Yc:kw w v l
 il:xi≠xl
 own:∀k,bV v=H k->k≠xi/\k≠xl/\¬V.F k/\k<z (G w)
def JO.Yb(t:JO r b a c g d e l)(q:jz r b (xR b c g d) a f):kw f d e:=by
 have s:=t.own;obtain⟨k,⟨rfl,n⟩|⟨m,h,i,rfl,j,o⟩⟩:=t.Yc;exact⟨k,.inl ⟨rfl,n⟩⟩;refine⟨k,.inr ⟨m,h,i,rfl,j,λv w p=>q.cell ?_<|o v w p⟩⟩;by_cases u:b<=m;exact .inl<|.inr<|.inr ⟨rfl,u⟩;exact .inr ⟨by omega,(s m rfl).2.2.1⟩
def RP(V:jj)(e b g:M)(C:aa)(n:cA)(hl:y n<=1000000000000):∀(al l:M)(ac:I),al=y n-l->l<=y n->JO V e ac b g C n l->vr V e (xR e b g C) ac->Hy V e 318 #[aA b,aA g] (n.drop l) (xR e b g C) ac:=by
 intro al;induction al with
 |zero=>
  intro l ac L hi f p;have a:l=y n:=by omega
  subst a;rw[gm];refine⟨p,λc i t=>?_⟩;have h0:=(f.bi.same i<|.inl rfl).cell;have X:=(f.bl.same i<|.inr<|.inl rfl).cell;have F:=U<|λd(au:Y (xR e b g C) c d)=>V.fi t au p.apart;have e0:=ak<|f.bi.same i<|.inl rfl;have e1:=ak<|f.bl.same i<|.inr<|.inl rfl;obtain⟨ad,j,o⟩:=bM f.Yc;rw[o]at X;clear f i t L hi o;go_in
  go_wp2;refine cI (fW rfl _ _ (z<|G c) ⟨⟨#[]⟩,⟨#[]⟩,bF,0⟩ _ _ rfl<|aD _ rfl) rfl ?_;refine⟨rfl,?_⟩;have q:Y (xR e b g C) c (ct c<|ar #[ai ⟨#[]⟩,ai ⟨#[]⟩,aL bF,aH 0] 164):=(Y.refl _ _).alloc _;exact⟨F _ q,q.mono<|λad o=>.inl<|.inl o⟩
 |succ al ih=>
  intro l ac L hi f p;have x:l<y n:=by omega
  rw[bE x];refine⟨p,λc i t=>?_⟩;have k:=f.bi.same i<|.inl rfl;have m:=f.bl.same i<|.inr<|.inl rfl;have h0:=k.cell;have ao:=k.free;have X:=m.cell;have hE:=f.Yb i;have Q:=f.own;have n2:=f.il;obtain⟨F,HI,HO,HS⟩:=gx (λd(au:Y (xR e b g C) c d)=>V.fi t au p.apart) (λd(a:JO V e d b g C n (l+1))(f:vr V e (xR e b g C) d)=>ih (l+1) d (by omega) (by omega) a f) (p.same i) i.1;clear f i t L ih p;obtain⟨u,⟨rfl,an⟩|⟨s,a,j,rfl,w,r⟩⟩:=hE
  .omega
  have v:=ez n l x;have A:aT c (R s<|a+l*4)=H (ai n[l].key):=r _ _ v.1;have N:aT c (R s<|a+l*4+1)=H (ai n[l].val):=by rw[aV];exact r _ _ v.2.1
  have O:aT c (R s<|a+l*4+2)=H (aL n[l].del):=by rw[aV];exact r _ _ v.2.2.1
  have P:aT c (R s<|a+l*4+3)=H (aH n[l].bI):=by rw[aV];exact r _ _ v.2.2.2
  have e0:=ak k;have e1:=ak m;have e2:s<z (G c):=cY _ _ A;have n1:b≠s:=λW=>(Q s rfl).1 W.symm;obtain⟨HE,E,D,HV⟩:=gx (show Row c 4 (bD s a (y n) j) (y n) (aF n)from⟨u,.inr ⟨s,a,j,rfl,w,r⟩⟩) m k Q;clear v k m r Q u w;generalize n[l]=ad at*;obtain⟨xk,xv,xd,xb⟩:=ad;simp only at A N O P;go_in
  go_wp2;refine cI (fW rfl _ _ (z<|G c) ⟨xk,xv,xd,xb⟩ _ _ rfl<|aD _ gz.symm) rfl ?_;refine⟨rfl,?_⟩;have q:Y (λS=>S=b) c (ct (bZ c (R b 0)<|ap<|l+1)<|ar #[ai xk,ai xv,aL xd,aH xb] 164):=((Y.refl (λS=>S=b) c).setCell b 0 _<|.inl rfl).alloc _;have B:Y (xR e b g<|bD s a (y n) j) c _:=q.mono (T:=xR e b g<|bD s a (y n) j)<|λad o=>.inl<|.inl o;refine⟨F _ B,B.mono<|λad o=>.inl<|.inl o,xR e b g _,λS K=>.inl K,HI _ ?_<|HO.aw q⟩;refine⟨(D.set _).alloc _,(E.other _<|λW=>n2 W.symm).alloc _,q.row HE ?_,n2,λS K=>?_⟩
  .rintro S⟨⟩;exact⟨λW=>n1 W.symm,e2⟩
  .obtain⟨q1,q2,q3,q4⟩:=HV S K;exact⟨q1,q2,q3,ag q4<|aE HS q.size⟩
def LQ(V:jj)(m:M)(i:ab)(h:kw a d e)(F:dQ e)(t:∀L∈e,L.bI<18446744073709551616)(N:y e<=1000000000000)(u:∀k,bV d=H k->¬V.F k/\k<z (G a))(hn:m<=z (G a))(hF:∀k,V.F k->k<m):cy bG 316 #[d,ai i] a λA S=>∃Q al,A=aO Q/\ji V m Q (fR i e) al S/\Below (z<|G a) a S/\(∀k,al k->(bV d=H k/\m<=k)\/z (G a)<=k):=by
 have O:=λW(o:Below (z<|G a) a W)=>Bg d i 18446744073709551615 W (by
  obtain⟨p,⟨rfl,C⟩|⟨B,b,c,rfl,l,D⟩⟩:=h
  .exact⟨p,.inl ⟨rfl,C⟩⟩
  .exact⟨p,.inr ⟨B,b,c,rfl,l,λP ad E=>(o.cell (p:=(R B (b+P))) (u B rfl).2).trans (D P ad E)⟩⟩) F N (λa q=>ag (u a q).2 o.size)
 obtain⟨HP,v,w⟩:=dC O (show fR i e=e.drop (li e ⟨i,⟨#[]⟩,bF,18446744073709551615⟩)from(QO F i _ _ (λL a=>by have:=t L a;omega)).symm)<|ID e ⟨i,⟨#[]⟩,bF,18446744073709551615⟩;have K:=bM h;obtain⟨HH,x,X⟩:=dC h u hF;clear O u h F hF t;generalize li e ⟨i,⟨#[]⟩,bF,18446744073709551615⟩=T at*;obtain⟨L,c,rfl⟩:=K;go_in
 go_wp2_with(go_at_call 180;refine(HP _<|(Below.refl _ a).alloc (ah _) _).mono ?_;rintro A n⟨rfl,r⟩;have W:=U r;clear r)
 go_ret;have q:=ae W;have ac:z (G a)+1<=z (G n):=by have:=q.size;simpa using this
 have g:Below (z<|G a) a n:=((Below.refl _ a).alloc (ah _) _).trans (q.mono<|by simp);have f:Below (z<|G a) a (ct n<|ar #[ap T] 3):=g.alloc g.size _;have s:dV n (z<|G a) (J L (y e) c) 102:=(q.block (z<|G a)<|by simp).trans<|aD _ rfl;refine⟨_,xR m (z<|G n) (z<|G a)<|J L (y e) c,rfl,⟨318,_,rfl,enters_of func318 (by kernel_rfl) rfl,?_⟩,f,?_⟩;rw[ae v];refine RP V m (z<|G n) (z<|G a) (J L (y e) c) e N _ T _ rfl w ⟨aD _ rfl,s.alloc _,?_,by omega,λk j=>?_⟩ ⟨by simp;omega,X,λk j=>?_⟩;obtain⟨p,⟨A,C⟩|⟨B,b,o,A,l,D⟩⟩:=ae HH;exact⟨p,.inl ⟨A,C⟩⟩;refine⟨p,.inr ⟨B,b,o,A,l,λP ad E=>(f.cell (p:=(R B<|b+P)) ?_).trans<|D P ad E⟩⟩;exact(x B (by rw[A];rfl)).2;obtain⟨o,q2⟩:=x k j;exact⟨by omega,by omega,o,by simp;omega⟩;rcases j with rfl|rfl|⟨j,o⟩;exact⟨by omega,by simp⟩;exact⟨by omega,by simp;omega⟩;exact⟨o,by have:=(x k j).2;simp;omega⟩;rintro k(rfl|rfl|j);right;omega;right;omega;left;exact j
def rq(a:T->E->Bool)(Ef:T->E->T):T->cA->cA
 |_,[]=>[]
 |s,x::r=>if a s x then x::rq a Ef (Ef s x) r else rq a Ef (Ef s x) r
structure BO(σ:Type)(V:jj)(n0:M)where
 f:M
 cb:Array aa
 test:σ->E->Bool
 Ef:σ->E->σ
 inv:σ->I->Prop
 S:M->Prop
 SD:Enters bG f
 call:∀s x w,inv s w->cy bG f (#[x.value]++cb) w λe w'=>e=aO (aL<|test s x)/\inv (Ef s x) w'/\Y S w w'
 fi:∀s w w',inv s w->(∀k,S k->w'.heap[k]?=w.heap[k]?)->inv s w'
 lt:∀s w,inv s w->∀k,S k->n0<=k/\k<z (G w)
structure lS{σ:Type}{V:jj}{n0:M}(K:BO σ V n0)(w:I)(xn xk f:M)(cb:Array aa)(s:σ)(l:cA)(S:fJ):Prop where
 bn:dV w xn (.func (.func f) #[] cb) 174
 bk:dV w xk (.func (.func K.f) #[] K.cb) 345
 SD:Enters bG f
 run:Hy V n0 f cb l S w
 inv:K.inv s w
 own:n0<=xn/\n0<=xk
 nS:∀k,S k->k≠xn/\k≠xk/\¬K.S k
 nK:∀k,K.S k->k≠xn/\k≠xk
def AI(K:BO T r b)(c a:M)(S:fJ)(k:M):Prop:=k=c\/k=a\/S k\/K.S k
def lS.same{V:jj}{n0:M}{K:BO T V n0}{j:Array aa}{s:T}{S:fJ}(h:lS K a b c g j s e S)(d:jz V n0 (AI K b c S) a f):lS K f b c g j s e S:=⟨h.bn.same d<|.inl rfl,h.bk.same d<|.inr<|.inl rfl,h.SD,h.run.same<|d.mono<|λ_ i=>.inr<|.inr<|.inl i,K.fi s a f h.inv<|λk i=>d.2 k<|.inr<|.inr<|.inr<|.inr i,h.own,h.nS,h.nK⟩
def lS.pA{K:BO T r b}{s:T}(h:lS K a c g l V s e X):vr r b (AI K c g X) a:=⟨h.run.own.size,h.run.own.aN,by
 rintro k(rfl|rfl|d|d)
 .exact⟨h.own.1,ak h.bn⟩
 .exact⟨h.own.2,ak h.bk⟩
 .exact h.run.own.each k d
 .exact K.lt s a h.inv k d⟩
def lS.SQ{K:BO T r b}{s:T}{j:fJ}(h:lS K a c g l V s e X)(n:Y (λk=>X k\/r.F k) a f)(p:∀k,j k->X k\/z (G a)<=k)(q:Hy r b l V L j f):lS K f c g l V s L j:=by
 have o:=h.pA;have hF:∀k,b<=k->¬r.F k:=λk i a=>by have:=o.aN k a;omega
 refine⟨(n.block c (ak h.bn) ?_).trans h.bn,(n.block g (ak h.bk) ?_).trans h.bk,h.SD,q,K.fi s a f h.inv<|λk i=>n.block k (K.lt s a h.inv k i).2 ?_,h.own,λk i=>?_,h.nK⟩;rintro(d|d);exact(h.nS c d).1 rfl;exact hF c h.own.1 d;rintro(d|d);exact(h.nS g d).2.1 rfl;exact hF g h.own.2 d;rintro(d|d);exact(h.nS k d).2.2 i;exact hF k (K.lt s a h.inv k i).1 d;rcases p k i with d|d;exact h.nS k d;refine⟨?_,?_,?_⟩;rintro rfl;have:=ak h.bn;omega;rintro rfl;have:=ak h.bk;omega;intro m;have:=(K.lt s a h.inv k m).2;omega
def lS.kept{σ:Type}{K:BO σ r b}{g d f:M}{s j:σ}(h:lS K a g d f V s e X)(i:Y K.S a C)(n:K.inv j C):lS K C g d f V j e X:=by
 have m:=h.pA;have hF:∀k,b<=k->¬r.F k:=λk c a=>by have:=m.aN k a;omega
 refine⟨(i.block g (ak h.bn)<|λl=>(h.nK g l).1 rfl).trans h.bn,(i.block d (ak h.bk)<|λl=>(h.nK d l).2 rfl).trans h.bk,h.SD,h.run.same ?_,n,h.own,h.nS,h.nK⟩;refine i.same h.run.own.size (λk c=>⟨(h.run.own.each k c).2,(h.nS k c).2.2⟩)<|λk c o=>?_;have:=(K.lt s a h.inv k c).1;omega
def lS.laid{K:BO T r b}{s:T}(h:lS K a c g l V s e X)(o:Obj):lS K (ct a o) c g l V s e X:=h.kept ((Y.refl _ _).alloc o)<|K.fi s a _ h.inv<|λk d=>fX o (K.lt s a h.inv k d).2
def lS.apart{K:BO T r b}{s:T}{n:fJ}(i:lS K a c g l V s e X)(m:Y n a f)(h:∀k,n k->¬AI K c g X k/\b<=k):lS K f c g l V s e X:=i.same<|m.same i.run.own.size (λk d=>⟨(i.pA.each k d).2,λo=>(h k o).1 d⟩) (λk d j=>by have:=(h k d).2;omega)
def wK(w:I)(b:M)(a:E):I:=bZ (bZ (bZ (bZ w (R b 0)<|ai a.key) (R b 1)<|ai a.val) (R b 2)<|aL a.del) (R b 3)<|aH a.bI
def ja(w:I)(b:M)(a:E):Y (λk=>k=b) w (wK w b a):=((((Y.refl (λk=>k=b) w).setCell b 0 _<|.inl rfl).setCell b 1 _<|.inl rfl).setCell b 2 _<|.inl rfl).setCell b 3 _<|.inl rfl
def zm(K:BO T r b)(cs:Array aa)(dn:T)(hA:lS K a c g l cs dn e X)(hD:r.D a):cy bG 259 #[aA c,aA g] a λcu cd=>r.D cd/\Y (λu=>AI K c g X u\/r.F u) a cd/\((rq K.test K.Ef dn e=[]/\cu=aO (dB #[wO,aL bF,.nilIface]))\/(∃cn N l' S',rq K.test K.Ef dn e=cn::rq K.test K.Ef N l'/\cu=aO (dB #[cn.value,aL bW,.nilIface])/\lS K cd c g l cs N l' S'/\y l'<y e/\(∀u,S' u->X u\/z (G a)<=u))):=by
 have eg:∀A a,(callFunc l A).run bG a=.ok (.enter l A) a:=hA.SD;have ek:∀A a,(callFunc K.f A).run bG a=.ok (.enter K.f A) a:=K.SD;have HA:=U hA;have HD:=U hD;clear hA hD;go_in
 go_wp2;go_loopg [5] (y e+1) (λd _ wr=>∃N l' S',y l'<d/\lS K wr c g l cs N l' S'/\r.D wr/\Y (λu=>AI K c g X u\/r.F u) a wr/\rq K.test K.Ef dn e=rq K.test K.Ef N l'/\(∀u,S' u->X u\/z (G a)+1<=u)/\y l'<=y e/\ii wr (z<|G a) ⟨⟨#[]⟩,⟨#[]⟩,bF,0⟩/\¬S' (z<|G a)/\¬K.S (z<|G a))
 (case atStart=>have h:=HA;refine⟨dn,e,X,by omega,h.laid _,r.fi HD ((Y.refl aB a).alloc _) cG,(Y.refl _ _).alloc _,rfl,λu n=>.inl n,ah _,aD _ rfl,λv=>?_,λv=>?_⟩;have:=(h.run.own.each _ v).2;omega;have:=(K.lt _ _ h.inv _ v).2;omega)
 case round=>
  obtain⟨N,l',S',ca,V,bg,bk,ax,bi,cb,bh,bl,cc⟩:=hrel;have ds:=V.bn.cell;have L:=V.run;cases l' with
  |nil=>
   have hc:=L.2 wr (jz.refl _ _ _ _) bg;have HN:=U bl;have O:=U V;have bf:=U bk;have Q:=U ax;have P:=U bh;have S:=U bi;clear L V bg bk ax bh bi bl cc ca cb;go_wp2_with(go_at_fn l;refine hc.mono ?_;rintro cu C⟨rfl,B,q⟩;have p:ii C (z<|G a) ⟨⟨#[]⟩,⟨#[]⟩,bF,0⟩:=P.aw q<|λv=>v.elim HN (λv=>by have:=O.pA.aN _ v;have:=HA.pA.size;omega);have bc:=p.cells;have bm:=p.free (i:=0);have bn:=p.free (i:=1);have bo:=p.free (i:=2);have bp:=p.free (i:=3);have d:=ak p;have al:=U p;have ad:=U B;have ao:=U q;clear p B q;unfold wO;obtain⟨ch,cj,ck,cl⟩:=bc)
   refine cI (fW rfl _ _ (z<|G a) ⟨⟨#[]⟩,⟨#[]⟩,bF,0⟩ _ _ rfl<|(al.put ⟨⟨#[]⟩,⟨#[]⟩,bF,0⟩).alloc _) rfl ?_;have W:Y (λu=>u=z (G a)) C ((wK C (z<|G a) ⟨⟨#[]⟩,⟨#[]⟩,bF,0⟩).alloc<|ar #[ai ⟨#[]⟩,ai ⟨#[]⟩,aL bF,aH 0] 164):=(ja _ _ _).alloc _;have x:=HA.pA;refine⟨r.fi ad W (λu n hf=>by have:=x.aN u hf;have:=x.size;omega),?_,.inl ⟨Q.trans rfl,rfl⟩⟩;refine(bf.trans ao ?_).trans W (λu n=>.inr<|by omega);rintro u(n|n)
   .rcases S u n with v|v
    .exact .inl<|.inl<|.inr<|.inr<|.inl v
    .exact .inr<|by omega
   .exact .inl<|.inr n
  |cons cn cp=>
   have hc:=L.2 wr (jz.refl _ _ _ _) bg;have ce:rq K.test K.Ef N (cn::cp)=if K.test N cn then cn::rq K.test K.Ef (K.Ef N cn) cp else rq K.test K.Ef (K.Ef N cn) cp:=rfl;rw[ce]at ax;have HN:=U bl;have bd:=U cc;have O:=U V;have bf:=U bk;have Q:=U ax;have P:=U bh;have S:=U bi;have cm:y cp<y e:=by simp at cb;omega
   have dm:y cp+1<gk:=by simpa using ca
   clear L V bg bk ax bh bi bl cc ca cb ce;have s:=K.call N cn;obtain⟨j,k,f,d⟩:=cn;unfold E.value at s hc;simp only at s hc;cases hte:K.test N ⟨j,k,f,d⟩with
   |true=>
    rw[hte]at s;have bs:=U (Q.trans<|by rw[dw hte]);clear Q hte;go_wp2_with(first
     |(go_at_fn l;refine hc.mono ?_;rintro cu C⟨rfl,B,q,S1,D,ba⟩;have hA1:=O.SQ q D ba;have o:=hA1.laid<|.cells #[.string j,.string k,.bool f,.int .u64 d] 164;have p:ii C (z<|G a) ⟨⟨#[]⟩,⟨#[]⟩,bF,0⟩:=P.aw q<|λv=>v.elim HN (λv=>by have:=O.pA.aN _ v;have:=HA.pA.size;omega);have cv:=o.bk.cell;have F:ii (ct C<|.cells #[.string j,.string k,.bool f,.int .u64 d] 164) (z<|G C) ⟨j,k,f,d⟩:=aD _ rfl;have bc:=F.cells;have w:=s _ o.inv;have bt:=U (show¬K.S (z<|G C)fromλv=>by have:=(K.lt _ _ hA1.inv _ v).2;omega);have bu:=U F;have an:=U D;have ac:=U o;have al:=U p;have ad:=U B;have ao:=U q;clear p B q hA1 o ba D F;obtain⟨ch,cj,ck,cl⟩:=bc)
     |(go_at_fn K.f;refine w.mono ?_;rintro cu w2⟨rfl,av,t⟩;have bb:ii w2 (z (G C)) ⟨j,k,f,d⟩:=bu.aw t bt;have m:ii w2 (z (G a)) ⟨⟨#[]⟩,⟨#[]⟩,bF,0⟩:=(al.alloc _).aw t bd;obtain⟨As,cx,cB,cE⟩:=bb.cells;obtain⟨cM,cT,db,dc⟩:=m.cells;have bm:=m.free (i:=0);have bn:=m.free (i:=1);have bo:=m.free (i:=2);have bp:=m.free (i:=3);have br:=U m;have bq:=U (ac.kept t av);have au:=U t;clear av t bb m))
    refine cI (fW rfl _ _ (z<|G a) ⟨j,k,f,d⟩ _ _ rfl<|br.put ⟨j,k,f,d⟩) rfl ?_;have W:Y (λu=>u=z (G a)) w2 (wK w2 (z<|G a) ⟨j,k,f,d⟩):=ja _ _ _;have x:=HA.pA;have hA2:=ae bq;have bT:=hA2.pA;have dk:z (G a)<z (G wr):=ak P;have dd:¬AI K c g S1 (z<|G a):=by
     rintro(v|v|v|v)
     .have:=(x.each c<|.inl rfl).2;omega
     .have:=(x.each g<|.inr<|.inl rfl).2;omega
     .rcases an _ v with co|co
      .exact HN co
      .omega
     .exact bd v
    have bv:=r.fi ad (((Y.refl aB C).alloc<|ar #[ai j,ai k,aL f,aH d] 164)) cG;have bx:=r.fi bv au (λu n hf=>by have:=bT.aN u hf;have:=(K.lt _ _ ac.inv u n).1;omega);refine⟨r.fi bx W (λu n hf=>by have:=x.aN u hf;have:=x.size;omega),?_,.inr ⟨⟨j,k,f,d⟩,K.Ef N ⟨j,k,f,d⟩,cp,S1,bs,rfl,hA2.apart W (λu n=>by rw[n];exact⟨dd,x.size⟩),cm,λu n=>?_⟩⟩
    .refine(((bf.trans ao ?_).alloc _).trans au ?_).trans W<|λu n=>.inr<|by omega
     .rintro u(n|n)
      .rcases S u n with v|v
       .exact .inl<|.inl<|.inr<|.inr<|.inl v
       .exact .inr<|by omega
      .exact .inl<|.inr n
     .exactλu n=>.inl<|.inl<|.inr<|.inr<|.inr n
    .rcases an u n with v|v
     .rcases S u v with co|co
      .exact .inl co
      .exact .inr<|by omega
     .exact .inr<|by omega
   |false=>
    rw[hte]at s;have bs:=U (Q.trans<|by rw[cW (by rw[hte];simp)]);clear Q hte;go_wp2_with(first
     |(go_at_fn l;refine hc.mono ?_;rintro cu C⟨rfl,B,q,S1,D,ba⟩;have hA1:=O.SQ q D ba;have o:=hA1.laid<|.cells #[.string j,.string k,.bool f,.int .u64 d] 164;have p:ii C (z<|G a) ⟨⟨#[]⟩,⟨#[]⟩,bF,0⟩:=P.aw q<|λv=>v.elim HN (λv=>by have:=O.pA.aN _ v;have:=HA.pA.size;omega);have cv:=o.bk.cell;have F:ii (ct C<|.cells #[.string j,.string k,.bool f,.int .u64 d] 164) (z<|G C) ⟨j,k,f,d⟩:=aD _ rfl;have bc:=F.cells;have w:=s _ o.inv;have bt:=U (show¬K.S (z<|G C)fromλv=>by have:=(K.lt _ _ hA1.inv _ v).2;omega);have bu:=U F;have an:=U D;have ac:=U o;have al:=U p;have ad:=U B;have ao:=U q;clear p B q hA1 o ba D F;obtain⟨ch,cj,ck,cl⟩:=bc)
     |(go_at_fn K.f;refine w.mono ?_;rintro cu w2⟨rfl,av,t⟩;have bb:ii w2 (z (G C)) ⟨j,k,f,d⟩:=bu.aw t bt;have m:ii w2 (z (G a)) ⟨⟨#[]⟩,⟨#[]⟩,bF,0⟩:=(al.alloc _).aw t bd;obtain⟨As,cx,cB,cE⟩:=bb.cells;obtain⟨cM,cT,db,dc⟩:=m.cells;have bm:=m.free (i:=0);have bn:=m.free (i:=1);have bo:=m.free (i:=2);have bp:=m.free (i:=3);have br:=U m;have bq:=U (ac.kept t av);have au:=U t;clear av t bb m))
    go_roundg(y cp+1);case measure=>omega
    case rel=>
     have x:=HA.pA;have hA2:=ae bq;have bT:=hA2.pA;have dk:z (G a)<z (G wr):=ak P;have bv:=r.fi ad (((Y.refl aB C).alloc<|ar #[ai j,ai k,aL f,aH d] 164)) cG;have bx:=r.fi bv au (λu n hf=>by have:=bT.aN u hf;have:=(K.lt _ _ ac.inv u n).1;omega);refine⟨K.Ef N ⟨j,k,f,d⟩,cp,S1,by omega,hA2,bx,?_,bs,λu n=>?_,by omega,br,λv=>?_,bd⟩
     .refine((bf.trans ao ?_).alloc _).trans au ?_
      .rintro u(n|n)
       .rcases S u n with v|v
        .exact .inl<|.inl<|.inr<|.inr<|.inl v
        .exact .inr<|by omega
       .exact .inl<|.inr n
      .exactλu n=>.inl<|.inl<|.inr<|.inr<|.inr n
     .rcases an u n with v|v
      .exact S u v
      .exact .inr<|by omega
     .rcases an _ v with co|co
      .exact HN co
      .omega
def QZ(K:BO T r b)(l k L:M)(j:Array aa):∀(t:M)(s:T)(n:cA)(S:fJ)(w:I),y n<=t->lS K w l k L j s n S->Hy r b 259 #[aA l,aA k] (rq K.test K.Ef s n) (AI K l k S) w:=by
 intro t;induction t with
 |zero=>
  intro s n S w B c;obtain rfl:n=[]:=aQ (by omega);refine⟨c.pA,λq h g=>(zm K j s (c.same h) g).mono ?_⟩;rintro E d⟨e,f,⟨_,a⟩|⟨F,p,o,i,a,_⟩⟩
  .exact⟨a,e,f⟩
  .cases a
 |succ t C=>
  intro s n S w B c;cases hL:rq K.test K.Ef s n with
  |nil=>
   refine⟨c.pA,λq h g=>(zm K j s (c.same h) g).mono ?_⟩;rintro E d⟨e,f,⟨_,a⟩|⟨F,p,o,i,a,_⟩⟩
   .exact⟨a,e,f⟩
   .rw[hL]at a;cases a
  |cons D P=>
   refine⟨c.pA,λq h g=>(zm K j s (c.same h) g).mono ?_⟩;rintro E d⟨e,f,⟨a,_⟩|⟨F,p,o,i,a,v,x,N,A⟩⟩
   .rw[hL]at a;cases a
   .rw[hL]at a;obtain⟨rfl,rfl⟩:=yI a;refine⟨v,e,f,AI K l k i,?_,C p o i d (by omega) x⟩;rintro O(m|m|m|m)
    .exact .inl<|.inl m
    .exact .inl<|.inr<|.inl m
    .rcases A O m with u|u
     .exact .inl<|.inr<|.inr<|.inl u
     .exact .inr u
    .exact .inl<|.inr<|.inr<|.inr m
def KT(K:BO T r b)(s:T)(B:ji r b d e X a)(g:K.inv s a)(m:∀k,X k->¬K.S k):cy bG 217 #[d,.func (.func K.f) #[] K.cb] a λC t=>∃q l,C=aO q/\ji r b q (rq K.test K.Ef s e) l t/\Below (z<|G a) a t/\(∀k,l k->X k\/K.S k\/z (G a)<=k):=by
 obtain⟨A,j,rfl,o,f⟩:=B;obtain⟨u,w,v,x⟩:=gx o f g m;clear o f g m;go_in
 go_wp2;go_ret;have f:=ae w;have g:=ae v;have n:Below (z<|G a) a (ct (ct a<|ar #[.func (.func A) #[] j] 174)<|ar #[.func (.func K.f) #[] K.cb] 345):=((Below.refl _ a).alloc (ah _) _).alloc (by simp) _;have p:Y aB a (ct (ct a<|ar #[.func (.func A) #[] j] 174)<|ar #[.func (.func K.f) #[] K.cb] 345):=Y.aW n;refine⟨_,AI K (z<|G a) (z (G a)+1) X,rfl,⟨259,_,rfl,enters_of func259 (by kernel_rfl) rfl,?_⟩,n,?_⟩;refine QZ K (z<|G a) (z (G a)+1) A j _ s e X _ (ah _) ⟨?_,aD _ (by simp),u,f.same<|p.same f.own.size (λk c=>⟨(f.own.each k c).2,λi=>i⟩)<|λk c=>c.elim,K.fi s a _ g<|λk c=>?_,⟨f.own.size,by have:=f.own.size;omega⟩,λk c=>?_,λk c=>?_⟩;exact(dV.alloc (aD _ rfl) _);exact p.block k (K.lt s a g k c).2<|λi=>i;have:=(f.own.each k c).2;exact⟨by omega,by omega,x k c⟩;have:=(K.lt s a g k c).2;exact⟨by omega,by omega⟩;rintro k(i|i|i|i);exact .inr (.inr<|by omega);exact .inr (.inr<|by omega);exact .inl i;exact .inr<|.inl i
def Ty(V:jj)(b:M):BO Unit V b where
 f:=218
 cb:=#[]
 test:=λ_ e=>!e.del
 Ef:=λ_ _=>()
 inv:=λ_ _=>True
 S:=λ_=>False
 SD:=enters_of func218 (by kernel_rfl) rfl
 call:=by
  rintro _⟨e,g,d,c⟩w _;unfold E.value;simp only;have a:∀(x:Bool)(w:I),(Op.unary .not<|aL x).run bG w=.ok (aL<|!x) w:=λ_ _=>rfl;show cy bG 218 #[eC #[ai e,ai g,aL d,aH c]] w _;go_in
  go_wp2;go_ret;exact⟨rfl,trivial,(Y.refl _ w).alloc _⟩
 fi:=λ_ _ _ _ _=>trivial
 lt:=λ_ _ _ _ a=>a.elim
def IC(l:cA)(s:Unit):rq (λ(_:Unit)e=>!e.del) (λ_ _=>()) s l=l.filter (λe=>!e.del):=by
 induction l generalizing s with
 |nil=>rfl
 |cons x r a=>
  unfold rq;cases h:x.del with
  |true=>simp[h,a]
  |false=>simp[h,a]
def KM(s:ji r b d e X a):cy bG 162 #[d] a λl g=>∃f c,l=aO f/\ji r b f (e.filter<|λl=>!l.del) c g/\Below (z<|G a) a g/\(∀m,c m->X m\/z (G a)<=m):=by
 have p:=KT (Ty r b) () s trivial<|λ_ _ n=>n;have q:=IC e ();have o:cy bG 217 #[d,.func (.func 218) #[] #[]] a λl g=>∃f c,l=aO f/\ji r b f (e.filter<|λl=>!l.del) c g/\Below (z<|G a) a g/\(∀m,c m->X m\/z (G a)<=m):=by apply p.mono;rintro l g⟨f,c,w,x,A,B⟩;refine⟨f,c,w,?_,A,λm C=>?_⟩;rw[<-q];exact x;rcases B m C with n|n|n;exact .inl n;exact n.elim;exact .inr n
 clear p q;obtain⟨F,D,rfl,_⟩:=s;go_in
 go_wp2_with(go_at_call 217;refine o.mono ?_;rintro l E⟨f,c,rfl,k,j,i⟩;have u:=U k;have t:=U j;have v:=U i;clear k j i)
 go_ret;exact⟨f,c,rfl,u,t,v⟩
def YX(V:jj)(m e b:M)(n:Z):BO ab V m where
 f:=219
 cb:=#[aA e,aA b]
 test:=λs o=>decide (o.bI<=n)&&!decide (o.key=s)
 Ef:=λs o=>if o.bI<=n then o.key else s
 inv:=λs w=>dV w e (aH n) 103/\dV w b (ai s) 9/\m<=b/\m<=e/\e≠b
 S:=λv=>v=e\/v=b
 SD:=enters_of func219 (by kernel_rfl) rfl
 call:=by
  rintro s⟨q,A,x,i⟩w⟨a,g,K,u,k⟩;unfold E.value;simp only;have C:=g.cell;have F:=g.free;have D:=a.cell;have t:=ak g;have p:=ak a;have j:=U g;have d:=U a;clear g a;show cy bG 219 #[eC #[ai q,ai A,aL x,aH i],aA e,aA b] w _;by_cases l:i<=n
  .have r:¬n<i:=by omega
   by_cases c:q=s
   .subst c;simp only[l,nh,uf,Bool.and_false,je];go_in
    go_wp2;go_ret;exact⟨rfl,⟨d.alloc _,j.alloc _⟩,(Y.refl _ w).alloc _⟩
   .have B:=Im c;simp only[l,c,nh,zF,nk,Bool.and_true,je];go_in
    go_wp2;go_ret;refine⟨rfl,⟨(d.other _ k).alloc _,(j.set _).alloc _⟩,?_⟩;exact((Y.refl _ w).setCell b 0 _<|.inl<|.inr rfl).alloc _
  .have r:n<i:=by omega
   simp only[l,zF,pT,kg];go_in
   go_wp2;go_ret;exact⟨rfl,⟨d.alloc _,j.alloc _⟩,(Y.refl _ w).alloc _⟩
 fi:=λs w a h c=>⟨(c e<|.inl rfl).trans h.1,(c b<|.inr rfl).trans h.2.1,h.2.2⟩
 lt:=λs w h v c=>by
  rcases c with rfl|rfl
  .exact⟨h.2.2.2.1,ak h.1⟩
  .exact⟨h.2.2.1,ak h.2.1⟩
def Wt(c:Z)(l:cA)(s:ab):rq (λs(e:E)=>decide (e.bI<=c)&&!decide (e.key=s)) (λs e=>if e.bI<=c then e.key else s) s l=mU s (l.filter<|λe=>decide<|e.bI<=c):=by
 induction l generalizing s with
 |nil=>rfl
 |cons x r b=>
  unfold rq;by_cases a:x.bI<=c
  .rw[eN<|by simp[a]];unfold mU;by_cases h:x.key=s
   .simp[h,a,b]
   .simp[h,a,b]
  .rw[cZ<|by simp[a]];simp[a,b]
structure AH(V:jj)(n0:M)(ls:dW)where
 f:M
 cb:Array aa
 inv:I->Prop
 S:M->Prop
 SD:Enters bG f
 call:∀i(hi:i<y ls)w,inv w->V.D w->cy bG f (#[ap i]++cb) w λe w'=>∃v' S',e=aO (dB #[v',.nilIface])/\ji V n0 v' ls[i] S' w'/\V.D w'/\Y V.F w w'/\(∀k,S' k->z (G w)<=k)
 fi:∀w w',inv w->jz V n0 S w w'->inv w'
 lt:∀w,inv w->∀k,S k->n0<=k/\k<z (G w)
structure iK{V:jj}{n0:M}{ls:dW}(O:AH V n0 ls)(w:I)(b c d g:M)(h:aa)(r:cA)(a:M)(S:fJ):Prop where
 br:dV w b h 174
 ba:dV w c (ap a) 3
 bn:dV w d (ap<|y ls) 3
 bo:dV w g (.func (.func O.f) #[] O.cb) 425
 row:(h=.nilFunc/\r=[]/\∀k,¬S k)\/ji V n0 h r S w
 inv:O.inv w
 le:a<=y ls
 size:n0<=z (G w)
 aN:∀k,V.F k->k<n0
 own:n0<=b/\n0<=c/\n0<=d/\n0<=g
 ra:b≠c
 rn:b≠d
 ro:b≠g
 an:c≠d
 ao:c≠g
 nS:∀k,S k->k≠b/\k≠c/\k≠d/\k≠g/\¬O.S k
 nO:∀k,O.S k->k≠b/\k≠c/\k≠d/\k≠g
def mH{V:jj}{n0:M}{lsqq:dW}(O:AH V n0 lsqq)(b c d g:M)(S:fJ)(k:M):Prop:=k=b\/k=c\/k=d\/k=g\/S k\/O.S k
def yS(r:cA)(lsqq:dW)(a:M):cA:=r++(lsqq.drop a).flatten
section
variable{V:jj}{n0:M}{lsqq:dW}{O:AH V n0 lsqq}{w w':I}{b c d g:M}{h:aa}{r:cA}{a:M}{S:fJ}
theorem iK.pA(e:iK O w b c d g h r a S):vr V n0 (mH O b c d g S) w:=⟨e.size,e.aN,by
 rintro k(rfl|rfl|rfl|rfl|f|f)
 .exact⟨e.own.1,ak e.br⟩
 .exact⟨e.own.2.1,ak e.ba⟩
 .exact⟨e.own.2.2.1,ak e.bn⟩
 .exact⟨e.own.2.2.2,ak e.bo⟩
 .rcases e.row with⟨_,_,i⟩|i
  .exact(i k f).elim
  .exact i.own.each k f
 .exact O.lt w e.inv k f⟩
theorem iK.same(e:iK O w b c d g h r a S)(f:jz V n0 (mH O b c d g S) w w'):iK O w' b c d g h r a S:=⟨e.br.same f<|.inl rfl,e.ba.same f<|.inr<|.inl rfl,e.bn.same f<|.inr<|.inr<|.inl rfl,e.bo.same f<|.inr<|.inr<|.inr<|.inl rfl,e.row.imp id<|λj=>j.same<|f.mono<|λ_ i=>.inr<|.inr<|.inr<|.inr<|.inl i,O.fi w w' e.inv<|f.mono<|λ_ i=>.inr<|.inr<|.inr<|.inr<|.inr i,e.le,aE e.size f.1,e.aN,e.own,e.ra,e.rn,e.ro,e.an,e.ao,e.nS,e.nO⟩
theorem iK.apart{T:fJ}(j:iK O w b c d g h r a S)(l:Y T w w')(i:∀k,T k->¬mH O b c d g S k/\(k<n0->V.F k)):iK O w' b c d g h r a S:=j.same<|l.same j.size (λk e=>⟨(j.pA.each k e).2,λm=>(i k m).1 e⟩)<|λk e f=>(i k e).2 f
theorem iK.laid(e:iK O w b c d g h r a S)(o:Obj):iK O (ct w o) b c d g h r a S:=e.apart ((Y.refl aB w).alloc o) cG
theorem iK.SQ{p:cA}{m:fJ}(e:iK O w b c d g h r a S)(j:Y (λk=>S k\/V.F k) w w')(q:∀k,m k->S k\/z (G w)<=k)(t:ji V n0 h p m w'):iK O w' b c d g h p a m:=by
 have o:=e.pA;have hF:∀k,n0<=k->¬V.F k:=λk f e=>by have:=o.aN k e;omega
 have l:∀k,k=b\/k=c\/k=d\/k=g->¬(S k\/V.F k):=by rintro k f(i|i);have:=e.nS k i;rcases f with rfl|rfl|rfl|rfl;exact this.1 rfl;exact this.2.1 rfl;exact this.2.2.1 rfl;exact this.2.2.2.1 rfl;rcases f with rfl|rfl|rfl|rfl;exact hF _ e.own.1 i;exact hF _ e.own.2.1 i;exact hF _ e.own.2.2.1 i;exact hF _ e.own.2.2.2 i
 refine⟨(j.block b (ak e.br)<|l _<|.inl rfl).trans e.br,(j.block c (ak e.ba)<|l _<|.inr<|.inl rfl).trans e.ba,(j.block d (ak e.bn)<|l _<|.inr<|.inr<|.inl rfl).trans e.bn,(j.block g (ak e.bo)<|l _<|.inr<|.inr<|.inr rfl).trans e.bo,.inr t,O.fi w w' e.inv<|j.same e.size (λk f=>⟨(O.lt w e.inv k f).2,?_⟩)<|λk f s=>?_,e.le,aE e.size j.size,e.aN,e.own,e.ra,e.rn,e.ro,e.an,e.ao,λk f=>?_,e.nO⟩;rintro(i|i);exact(e.nS k i).2.2.2.2 f;exact hF k (O.lt w e.inv k f).1 i;rcases f with i|i;have:=(o.each k<|.inr<|.inr<|.inr<|.inr<|.inl i).1;omega;exact i;rcases q k f with i|i;exact e.nS k i;refine⟨?_,?_,?_,?_,?_⟩;rintro rfl;have:=ak e.br;omega;rintro rfl;have:=ak e.ba;omega;rintro rfl;have:=ak e.bn;omega;rintro rfl;have:=ak e.bo;omega;intro n;have:=(O.lt w e.inv k n).2;omega
theorem iK.ended(e:iK O w b c d g h r a S)(j:Y (λk=>S k\/V.F k) w w'):iK O (bZ w' (R b 0) .nilFunc) b c d g .nilFunc [] a aB:=by
 have t:=e.pA;have hF:∀k,n0<=k->¬V.F k:=λk f e=>by have:=t.aN k e;omega
 have l:∀k,k=b\/k=c\/k=d\/k=g->¬(S k\/V.F k):=by rintro k f(i|i);have:=e.nS k i;rcases f with rfl|rfl|rfl|rfl;exact this.1 rfl;exact this.2.1 rfl;exact this.2.2.1 rfl;exact this.2.2.2.1 rfl;rcases f with rfl|rfl|rfl|rfl;exact hF _ e.own.1 i;exact hF _ e.own.2.1 i;exact hF _ e.own.2.2.1 i;exact hF _ e.own.2.2.2 i
 have p:dV w' b h 174:=(j.block b (ak e.br)<|l _<|.inl rfl).trans e.br;have m:dV w' c (ap a) 3:=(j.block c (ak e.ba)<|l _<|.inr<|.inl rfl).trans e.ba;have n:dV w' d (ap<|y lsqq) 3:=(j.block d (ak e.bn)<|l _<|.inr<|.inr<|.inl rfl).trans e.bn;have o:dV w' g (.func (.func O.f) #[] O.cb) 425:=(j.block g (ak e.bo)<|l _<|.inr<|.inr<|.inr rfl).trans e.bo;have q:Y (λk=>(S k\/V.F k)\/k=b) w (bZ w' (R b 0) .nilFunc):=(j.mono (T:=λk=>(S k\/V.F k)\/k=b)<|λk f=>.inl<|.inl f).setCell b 0 _<|.inl<|.inr rfl;refine⟨p.set _,m.other _<|λs=>e.ra s.symm,n.other _<|λs=>e.rn s.symm,o.other _<|λs=>e.ro s.symm,.inl ⟨rfl,rfl,λ_ i=>i⟩,O.fi w _ e.inv<|q.same e.size (λk f=>⟨(O.lt w e.inv k f).2,?_⟩)<|λk f u=>?_,e.le,by rw[gz];exact aE e.size j.size,e.aN,e.own,e.ra,e.rn,e.ro,e.an,e.ao,cG,e.nO⟩;rintro((i|i)|i);exact(e.nS k i).2.2.2.2 f;exact hF k (O.lt w e.inv k f).1 i;exact(e.nO k f).1 i;rcases f with(i|i)|i;have:=(t.each k<|.inr<|.inr<|.inr<|.inr<|.inl i).1;omega;exact i;have:=e.own.1;subst i;omega
theorem iK.opened{s:aa}{p:fJ}(A:a<y lsqq)(e:iK O w b c d g .nilFunc [] a S)(j:Y V.F w w')(C:ji V n0 s lsqq[a] p w')(D:∀k,p k->z (G w)<=k):iK O (bZ (bZ w' (R b 0) s) (R c 0)<|ap<|(a:Z)+1) b c d g s lsqq[a] (a+1) p:=by
 have hF:∀k,n0<=k->¬V.F k:=λk f i=>by have:=e.aN k i;omega
 have B:∀k,p k->k≠b/\k≠c/\k≠d/\k≠g/\¬O.S k:=λk f=>by have:=D k f;have E:=ak e.br;have F:=ak e.ba;have K:=ak e.bn;have L:=ak e.bo;exact⟨by omega,by omega,by omega,by omega,λo=>by have:=(O.lt w e.inv k o).2;omega⟩
 have x:dV w' b .nilFunc 174:=(j.block b (ak e.br)<|hF _ e.own.1).trans e.br;have t:dV w' c (ap a) 3:=(j.block c (ak e.ba)<|hF _ e.own.2.1).trans e.ba;have u:dV w' d (ap<|y lsqq) 3:=(j.block d (ak e.bn)<|hF _ e.own.2.2.1).trans e.bn;have v:dV w' g (.func (.func O.f) #[] O.cb) 425:=(j.block g (ak e.bo)<|hF _ e.own.2.2.2).trans e.bo;have l:O.inv w':=O.fi w w' e.inv<|j.same e.size (λk f=>⟨(O.lt w e.inv k f).2,hF k (O.lt w e.inv k f).1⟩)<|λk f _=>f;have n:Y (λk=>k=b\/k=c) w' (bZ (bZ w' (R b 0) s) (R c 0)<|ap<|(a:Z)+1):=((Y.refl (λk=>k=b\/k=c) w').setCell b 0 _<|.inl<|.inl rfl).setCell c 0 _<|.inl<|.inr rfl;have i:n0<=z (G w'):=aE e.size j.size;have m:∀k,(k=b\/k=c)->k<n0->V.F k:=by rintro k(rfl|rfl)o;have:=e.own.1;omega;have:=e.own.2.1;omega
 refine⟨(x.set _).other _ e.ra,(t.other _<|λq=>e.ra q.symm).set _,(u.other _<|λq=>e.rn q.symm).other _<|λq=>e.an q.symm,(v.other _<|λq=>e.ro q.symm).other _<|λq=>e.ao q.symm,.inr<|C.same<|n.same i (λk f=>⟨(C.own.each k f).2,?_⟩) m,O.fi w' _ l<|n.same i (λk f=>⟨(O.lt w' l k f).2,?_⟩) m,A,by rw[gz,gz];exact i,e.aN,e.own,e.ra,e.rn,e.ro,e.an,e.ao,B,e.nO⟩;rintro(o|o);exact(B k f).1 o;exact(B k f).2.1 o;rintro(o|o);exact(e.nO k f).1 o;exact(e.nO k f).2.1 o
end
