import Derived.Deep.LoopGhost
import Derived.Deep.RegionHeld3
import Derived.Laws.Rows
import Derived.LoopIn
import Derived.LoopNIn
import Derived.RangeFuncBound
import Derived.RangeFuncLeaves
import Derived.RangeFuncNested
import Derived.Shelf.Abstract
import Derived.Shelf.AbstractIn
import Derived.Shelf.RegionOpen
import Derived.Sort.LoopGhostIn
import Derived.TacticsInMore
import Derived.Test.YthaiaannkhpppaaGreatDoorC1
import Derived.Test.YthaiaannkhpppaaGreatDoorC2
open _root_ renaming List.length→y,Option.some→H,Array.size→z,Go.World.heap→G,Go.Value.ownBlock→cK,Go.World.cell?→aW,Go.World.setCell→cq,Go.World.alloc→cN,Bool.false→aX,Bool.true→ci,Nat→M,Int→X,List→cJ,Go.Calls→cY,Go.undef→iH,Go.Proofs.Tryz.prog→aZ,Go.Value.slice→I,Go.Value.string→am,Go.Value.bool→aN,Go.Value.pointer→cX,Go.Value.tuple→dq,Go.Value.agg→dC
namespace Go.Proofs.YthaiaannkhpppaaGreatDoor
open ChangeShapes WideShapes RowKit Proofs.Tryz List
set_option maxHeartbeats 16000000
set_option linter.all false
set_option maxRecDepth 100000
variable{a f A:Y}{b c g m D S:M}{d s L:ab}{e K:cR}{k:X}{l:dS}{n:eR}{p:eV}{t:ae}{w:E}{B:gW}{P:Bool}{T:Type}{V:Array ab}
def E.value(e:E):ab:=dC #[am e.key,am e.val,aN e.del,aE e.bO]
def E.cells(e:E):gW:=[am e.key,am e.val,aN e.del,aE e.bO]
def oV(d:Bool):X:=if d then 1 else 0
def eF(s:ae):eR:=(s.size:X)::kR s
def oq(e:E):eR:=oV e.del::(eF e.key++eF e.val)
def eE.ne(h:eE a A d s)(e:cK d≠H b)(c:b<z (G a)):cK s≠H b:=by
 grind[eE.vp]
def eE.cell{w w':Y}(h:eE w w' d s){N i:M}(a:aW w (R N i)=H L)(c:cK d≠H N):aW w' (R N i)=H L:=h.grown.cell a<|λe=>c e.symm
def fc.lt{bs:eR}(h:fc a c d bs):∀k,cK d=H k->c<=k/\k<z (G a):=bM h
def fc.of_heap{w w':Y}(h:fc w b d n)(e:w'.heap=w.heap):fc w' b d n:=by
 unfold fc World.ownsRow at*;rw[e];exact h
def eE.of_heap{a w w':Y}(h:eE w w' d s)(e:(a.os,a.tape,a.output,a.heap)=(w.os,w.tape,w.output,w.heap)):eE a w' d s:=by
 simp only[ib]at e;obtain⟨g,i,j,b⟩:=e;refine⟨⟨by rw[h.grown.os,g],by rw[h.grown.tape,i],by rw[h.grown.output,j],by rw[b];exact h.grown.size,λl e k=>by rw[b]at e|-;exact h.grown.block l e k⟩,by rw[b];exact h.vp⟩
def eE.Is{o:Obj}(h:eE (a.alloc o).drew f d s):eE a f d s:=(eE.of_heap (a:=a.alloc o) h rfl).alloc o
def PW(a:M)(aa:ab)(s:eR)(ac:E)(w:Y)(p:fc w a aa s)(hb:a<=z (G w))(hl:y s<=35184372088832)(S:ac.key.size<=255)(V:ac.val.size<=255):cY aZ 180 #[aa,ac.value] w λD w'=>∃v',D=aM v'/\fc w' a v' (s++oq ac)/\eE w w' aa v':=by
 obtain⟨d,e,B,k⟩:=ac;simp only at S V;unfold E.value;simp only;have i:cK aa≠H (z<|G w):=λD=>by have:=(p.lt _ D).2;omega
 have O0:=U<|p.alloc<|aw #[am d,am e,aN B,aE k] 171;clear p;cases B with
 |true=>
  go_in
  go_wp2_with fail
  go_region_held3(λj=>aW j (R (z<|G w) 0)=H (am d)/\aW j (R (z<|G w) 1)=H (am e)) (first|assumption|go_keep) (first
   |(go_at_call 179;refine(uB a aa s 1 _ ?_ (by simp;omega)<|by omega).mono ?_;exact O0.of_heap rfl;rintro D x⟨u,rfl,m,b⟩;have g:cK u≠H (z<|G w):=b.ne i (by simp);have q:aW x (R (z<|G w) 0)=H (.string d)/\aW x (R (z<|G w) 1)=H (.string e):=⟨b.cell (by simp) i,b.cell (by simp) i⟩;have t:z (G w)<z (G x):=(by have:=b.grown.size;simp at this;omega);have F:=U m;have N:=U b;clear m b)
   |(go_at_call_of 230 u;refine(pu a u (s++[1]) d _ ?_ (by omega) ?_ S).mono ?_;exact F.of_heap rfl;(simp;omega);rintro D A⟨v,rfl,n,c⟩;have l:cK v≠H (z<|G w):=c.ne g t;have r:aW A (R (z<|G w) 0)=H (.string d)/\aW A (R (z<|G w) 1)=H (.string e):=⟨c.cell q.1 g,c.cell q.2 g⟩;have W:z (G w)<z (G A):=(by have:=c.grown.size;omega);have K:=U n;have O:=U<|N.trans c;clear n c)
   |(go_at_call_of 230 v;refine(pu a v (s++[1]++eF d) e _ ?_ (by omega) ?_ V).mono ?_;exact K.of_heap rfl;(simp[eF,ic];omega);rintro D C⟨v3,rfl,o,f⟩;have T:aW C (R (z (G w)) 0)=H (.string d)/\aW C (R (z (G w)) 1)=H (.string e):=⟨f.cell r.1 l,f.cell r.2 l⟩;have L:=U o;have P:=U (O.trans f);clear o f))
  go_wp2;go_ret;refine⟨v3,rfl,?_,P.Is⟩;have Q:=J L;simpa[oq,oV,eF,bA]using Q
 |false=>
  go_in
  go_wp2_with fail
  go_region_held3(λj=>aW j (R (z<|G w) 0)=H (am d)/\aW j (R (z<|G w) 1)=H (am e)) (first|assumption|go_keep) (first
   |(go_at_call 179;refine(uB a aa s 0 _ ?_ (by simp;omega)<|by omega).mono ?_;exact O0.of_heap rfl;rintro D x⟨u,rfl,m,b⟩;have g:cK u≠H (z<|G w):=b.ne i (by simp);have q:aW x (R (z<|G w) 0)=H (.string d)/\aW x (R (z<|G w) 1)=H (.string e):=⟨b.cell (by simp) i,b.cell (by simp) i⟩;have t:z (G w)<z (G x):=(by have:=b.grown.size;simp at this;omega);have F:=U m;have N:=U b;clear m b)
   |(go_at_call_of 230 u;refine(pu a u (s++[0]) d _ ?_ (by omega) ?_ S).mono ?_;exact F.of_heap rfl;(simp;omega);rintro D A⟨v,rfl,n,c⟩;have l:cK v≠H (z<|G w):=c.ne g t;have r:aW A (R (z<|G w) 0)=H (.string d)/\aW A (R (z<|G w) 1)=H (.string e):=⟨c.cell q.1 g,c.cell q.2 g⟩;have W:z (G w)<z (G A):=(by have:=c.grown.size;omega);have K:=U n;have O:=U<|N.trans c;clear n c)
   |(go_at_call_of 230 v;refine(pu a v (s++[0]++eF d) e _ ?_ (by omega) ?_ V).mono ?_;exact K.of_heap rfl;(simp[eF,ic];omega);rintro D C⟨v3,rfl,o,f⟩;have T:aW C (R (z (G w)) 0)=H (.string d)/\aW C (R (z (G w)) 1)=H (.string e):=⟨f.cell r.1 l,f.cell r.2 l⟩;have L:=U o;have P:=U (O.trans f);clear o f))
  go_wp2;go_ret;refine⟨v3,rfl,?_,P.Is⟩;have Q:=J L;simpa[oq,oV,eF,bA]using Q
theorem qa{b:Bool}(h:P=b):Ending.returned (aN P)=aM (aN b):=by rw[h]
theorem qQ(s:ae)(w:Y)(f:s.size<=140737488351232):cY aZ 70 #[am s] w λe d=>e=aM (aN<|decide<|1<=s.size/\s.size<=8)/\d=w:=by
 by_cases b:1<=s.size;(.by_cases c:s.size<=8;(·(have a:decide (1<=s.size/\s.size<=8)=ci:=by simp[b,c]);rw[a];(go_in);go_wp2;go_ret;exact⟨qa (by simp;omega),rfl⟩);(have a:decide (1<=s.size/\s.size<=8)=aX:=by simp[b,c]);rw[a];(go_in);go_wp2;go_ret;exact⟨qa (by simp;omega),rfl⟩);(have a:decide (1<=s.size/\s.size<=8)=aX:=by simp[b]);rw[a];(go_in);go_wp2;go_ret;simp_all
theorem yo(s:ae)(w:Y)(d:s.size<=140737488351232):cY aZ 71 #[am s] w λe c=>e=aM (aN<|decide<|s.size<=16)/\c=w:=by
 by_cases b:s.size<=16;(·(have a:decide (s.size<=16)=ci:=by simp[b]);rw[a];(go_in);go_wp2;go_ret;exact⟨qa (by simp;omega),rfl⟩);(have a:decide (s.size<=16)=aX:=by simp[b]);rw[a];(go_in);go_wp2;go_ret;exact⟨qa (by simp;omega),rfl⟩
structure E.Good(x:E):Prop where
 VA:1<=x.key.size
 Mf:x.key.size<=8
 val:x.val.size<=16
 del:x.del=ci->x.val=⟨#[]⟩
 b0:0<=x.bO
 b1:x.bO<18446744073709551616
theorem mD(a b:eR):jJ (a++b) aX (y a)=(b,aX,a):=by
 unfold jJ;rw[dF<|by simp];simp
def vZ(s:ae)(b:eR):DM (eF s++b) aX=(b,aX,kR s)/\num (eF s++b) aX 1=s.size:=by
 have a:jJ (eF s++b) aX 1=(kR s++b,aX,[(s.size:X)]):=by have:=mD [(s.size:X)]<|kR s++b;simpa[eF]using this
 have c:num (eF s++b) aX 1=s.size:=by unfold num;rw[a];simp[ma]
 refine⟨?_,c⟩;unfold DM;grind[mD,ic]
def Md(d:Bool)(b:eR):jJ (oV d::b) aX 1=(b,aX,[oV d])/\num (oV d::b) aX 1=oV d:=by
 have h:=mD [oV d] b;have a:jJ (oV d::b) aX 1=(b,aX,[oV d]):=by simpa using h
 exact⟨a,by unfold num;rw[a];simp[ma]⟩
def ui(n:X):ab:=if n=0 then .nilIface else .iface 50 (ar n)
def LH{b:oa}(hp:Gv a d b)(S:∀al,cK d=H al->al<z (G a))(hr:y b<=1000000000000)(T:∀W∈b,W.key.size<=140737488351232/\W.val.size<=140737488351232):cY aZ 32 #[d] a λp l=>p=aM (ui<|ga b)/\Z ay a l:=by
 have Q:∀(W:Bool)(a:Y),(Op.unary .not<|aN W).run aZ a=.ok (aN<|!W) a:=λ_ _=>rfl;obtain⟨h1,⟨rfl,h0⟩|⟨N,g,ac,rfl,ad,P⟩⟩:=hp;(.obtain rfl:b=[]:=aL h0;(go_in);go_wp2;(go_loopw [11] (λV wr=>V=ar 0/\wr=a) (λ_ _=>0));(case atStart=>grind);(case round=>obtain⟨rfl,c⟩:=hrel;subst wr;go_wp2;go_ret;exact⟨rfl,Z.refl _ _⟩))
 .have K:N<z (G a):=S N rfl;have D:=U P;have HZ:=U T;clear P h1 S T;by_cases O:8<y b
  .have F:=U (show ga b=2 by unfold ga;rw[dH O]);have e1:(8:X)<(y b:X):=by omega
   go_in
   go_wp2;go_ret;exact⟨by rw[J F];rfl,Z.refl _ _⟩
  .have F:=U (show ga b=mJ b by unfold ga;rw[dF O]);have e1:¬(8:X)<(y b:X):=by omega
   go_in
   go_wp2;go_loopw [11] (λV wr=>∃n:M,n<=y b/\V=ar n/\ga b=mJ (b.drop n)/\Z ay a wr) (λV _=>y b-(intOf V).toNat)
   case atStart=>exact⟨0,bP _,rfl,F,Z.refl _ _⟩
   case round=>
    obtain⟨n,hn,rfl,C,e⟩:=hrel;have E:=U C;by_cases c:n<y b
    .have B:=lE b n c;have q:aW wr (R N<|g+n*3)=H (am b[n].key):=e.cell (D _ _ B.1) id K;have r:aW wr (R N<|g+n*3+1)=H (am b[n].val):=e.cell (by rw[bw];exact D _ _ B.2.1) id K;have s:aW wr (R N<|g+n*3+2)=H (aN b[n].del):=e.cell (by rw[bw];exact D _ _ B.2.2) id K;have u:=HZ _<|aq c;have i:=U e;clear B C e;by_cases v:b[n].key.size=0\/8<b[n].key.size
     .have o:=U<|E.trans<|De c v;generalize b[n]=aa at*;obtain⟨x,A,L⟩:=aa;simp only at q r s v u;have j:∀W,cY aZ 70 #[am x] W λp l=>p=aM (aN aX)/\l=W:=by
       grind[qQ,qa]
      go_wp2_with fail
      apply(j _).mono;rintro p m⟨rfl,k⟩;subst m;go_wp2;go_ret;exact⟨by rw[J o];rfl,i.alloc _⟩
     .by_cases f:b[n].del=aX/\16<b[n].val.size
      .have o:=U<|E.trans<|Dd c v f;generalize b[n]=aa at*;obtain⟨x,A,L⟩:=aa;simp only at q r s v f u;obtain⟨rfl,w⟩:=f;have j:∀W,cY aZ 70 #[am x] W λp l=>p=aM (aN ci)/\l=W:=by
        grind[qQ,qa]
       have t:∀W,cY aZ 71 #[am A] W λp l=>p=aM (aN aX)/\l=W:=by
        grind[yo,qa]
       go_wp2_with fail
       apply(j _).mono;rintro p m⟨rfl,k⟩;subst m;go_wp2_with fail
       apply(t _).mono;rintro p m⟨rfl,k⟩;subst m;go_wp2;go_ret;exact⟨by rw[J o];rfl,i.alloc _⟩
      .have o:=U<|E.trans<|Fz c v f;generalize b[n]=aa at*;obtain⟨x,A,L⟩:=aa;simp only at q r s v f u;have j:∀W,cY aZ 70 #[am x] W λp l=>p=aM (aN ci)/\l=W:=by
        grind[qQ,qa]
       cases L with
       |true=>
        clear f;go_wp2_with fail
        apply(j _).mono;rintro p m⟨rfl,k⟩;subst m;go_wp2;go_roundw;case rel=>exact⟨n+1,c,by go_num,o,i.alloc _⟩
        case measure=>simp[intOf];omega
       |false=>
        have w:A.size<=16:=by grind
        have t:∀W,cY aZ 71 #[am A] W λp l=>p=aM (aN ci)/\l=W:=by
         grind[yo,qa]
        clear f;go_wp2_with fail
        apply(j _).mono;rintro p m⟨rfl,k⟩;subst m;go_wp2_with fail
        apply(t _).mono;rintro p m⟨rfl,k⟩;subst m;go_wp2;go_roundw;case rel=>exact⟨n+1,c,by go_num,o,i.alloc _⟩
        case measure=>simp[intOf];omega
    .have f:n=y b:=by omega
     have o:=U (show ga b=0 by rw[C,f,gv];rfl);have i:=U e;have j:¬(n:X)<(y b:X):=by omega
     clear C e f;go_wp2;go_ret;exact⟨by rw[J o];rfl,i⟩
def yp:(prog.info? 102).map (λi=>(i.zero,i.size,i.bytes))=H (H<|cX none,1,8):=by kernel_rfl
abbrev eD(q:M):ab:=.iface 199<|aA q
def Nm(n:ae):Prop:=n.size<=1000000
def lP(w:Y)(q:M)(c:X):Prop:=∃n,w.heap[q]?=H (aw #[am n,ar c] 201 (0,0))/\Nm n
def lP.new(w:Y)(c:X)(h:Nm t):lP (cN w<|aw #[am t,ar c] 201) (z<|G w) c:=⟨t,ix _ _,h⟩
structure Iw where
 room:X
 wt:X
 bd:X
 reads:X
 Si:X
def Iw.ok(f:Iw):Prop:=(0<=f.wt/\f.wt<=9223372036854775807)/\0<=f.bd/\f.bd<=9223372036854775807
structure Fx(f f':Iw):Prop where
 ok:f.ok->f'.ok
 room:f'.room=f.room
 bd:f.bd=0->f'.bd=0
def Fx.refl(f:Iw):Fx f f:=⟨id,rfl,id⟩
def Fx.trans{f g h:Iw}(a:Fx f g)(b:Fx g h):Fx f h:=⟨λq=>b.ok<|a.ok q,b.room.trans a.room,λq=>b.bd<|a.bd q⟩
def Fx.pos{f g:Iw}(b:Fx f g)(a:f.ok)(h:0<g.bd):0<f.bd:=by
 have c:=a.2.1;have d:=b.bd;omega
def jQ(w:Y)(b d a:M)(c:ab)(f:Iw):Prop:=w.heap[b]?=H (aw #[.map<|H d,.map<|H a,c,ar f.room,ar f.wt,ar f.bd,ar f.reads,ar f.Si] 62 (0,0))
def J0(w b:Y)(c f a:M)(e:ab)(d:Iw)(i:Ending):Prop:=∃g h,i=aM (aN g)/\jQ b c f a e h/\Z (λk=>k=c) w b/\z (G b)=z (G w)/\Fx d h/\(g=ci->0<d.bd)
def Tn{l:Iw}(h:jQ a b c g d l)(t:l.ok):cY aZ 131 #[aA b] a λx w=>J0 a w b c g d l x:=by
 obtain⟨j,wt,i,f,e⟩:=l;obtain⟨⟨u,v⟩,m,n⟩:=t;simp only at u v m n;have c4:=cellAt h 4 rfl;have c5:=cellAt h 5 rfl;have A:a.frozen? (R b 4)=aX:=cP h;have B:a.frozen? (R b 5)=aX:=cP h;simp only at c4 c5;have k:=U h;clear h;by_cases C:0<wt;(·(have o:IntKind.i64.wrap (wt-1)=wt-1:=by rw[bN];omega);(go_in);go_wp2;go_ret;refine⟨aX,⟨j,wt-1,i,f,e⟩,rfl,?_,gZ b a,by simp,⟨λ_=>⟨⟨by show 0<=wt-1;omega,by show wt-1<=_;omega⟩,m,n⟩,rfl,id⟩,λq=>by cases q⟩;unfold jQ;rw[aH<|J k];rfl);(have p:wt=0:=by omega);subst p;by_cases r:0<i;(·(have o:IntKind.i64.wrap (i-1)=i-1:=by rw[bN];omega);(go_in);go_wp2;go_ret;refine⟨ci,⟨j,0,i-1,f,e⟩,rfl,?_,gZ b a,by simp,⟨λ_=>⟨⟨Int.le_refl _,by show(0:X)<=_;omega⟩,by show 0<=i-1;omega,by show i-1<=_;omega⟩,rfl,λq=>by have s:i=0:=q;omega⟩,λ_=>r⟩;unfold jQ;rw[aH<|J k];rfl);(have s:i=0:=by omega);subst s;(go_in);go_wp2;go_ret;exact⟨aX,_,rfl,k,Z.refl _ _,rfl,Fx.refl _,λq=>by cases q⟩
structure iV where
 D:Y->Prop
 F:M->Prop
 eY:∀{w w':Y}{S:eV},D w->Z S w w'->(∀k,S k->¬F k)->D w'
 lt:∀{w:Y}{k:M},D w->F k->k<z (G w)
 Xp:Prop
variable{r:iV}
def kO(V:iV)(b:M)(S:eV)(w a:Y):Prop:=z (G w)<=z (G a)/\∀k,((k<b/\¬V.F k)\/S k)->a.heap[k]?=w.heap[k]?
def kO.refl(V:iV)(a:M)(S:eV)(w:Y):kO V a S w w:=⟨ah _,λ_ _=>rfl⟩
def kO.trans{S:eV}{d b e:Y}(h:kO r c S d b)(k:kO r c S b e):kO r c S d e:=⟨aC h.1 k.1,λi a=>(k.2 i a).trans<|h.2 i a⟩
def kO.mono{S T:eV}{e b:Y}(h:kO r c S e b)(a:∀k,T k->S k):kO r c T e b:=⟨h.1,λi d=>h.2 i<|d.imp id<|a i⟩
def kO.cell{S:eV}{a b:Y}(h:kO r c S a b){k i:M}(g:S k\/(k<c/\¬r.F k))(e:aW a (R k i)=H d):aW b (R k i)=H d:=(dt (w:=a)<|h.2 k g.symm).trans e
def Z.same{V:iV}{n0:M}{S T:eV}(h:Z T a f)(i:n0<=z (G a))(c:∀k,S k->k<z (G a)/\¬T k)(e:∀k,T k->k<n0->V.F k):kO V n0 S a f:=by
 refine⟨h.size,λk g=>?_⟩;rcases g with⟨b,d⟩|b;exact h.block k (by omega)<|λc=>d<|e k c b;exact h.block k (c k b).1 (c k b).2
theorem aJ{w:Y}(o:Obj)(h:c=z (G w)):(cN w o).heap[c]?=H o:=by
 subst h;show(w.heap.push o)[z<|G w]?=H o;simp
theorem fU{w:Y}(o:Obj)(h:b<z (G w)):(cN w o).heap[b]?=w.heap[b]?:=Below.heap_alloc w o b h
def jd(u:ab)(h:b≠c):(cq a (R c g) u).heap[b]?=a.heap[b]?:=Below.heap_setCell a (R c g) u b h
theorem gP{b i:M}:z (G<|cq a (R b i) d)=z (G a):=by simp_all
abbrev eP(w:Y)(b:M)(v:ab)(t:TypeId):Prop:=w.heap[b]?=H (aw #[v] t (0,0))
theorem eP.cell{b:M}{t:TypeId}(h:eP a b d t):aW a (R b 0)=H d:=by rw[cg h];rfl
theorem eP.free{t:TypeId}(h:eP a b d t):a.frozen? (R b 0)=aX:=cP h
def eP.set{t:TypeId}(h:eP a b d t)(u:ab):eP (cq a (R b 0) u) b u t:=(aH h).trans rfl
def eP.other{t:TypeId}(h:eP a b d t){b' i:M}(u:ab)(c:b≠b'):eP (cq a (R b' i) u) b d t:=(jd u c).trans h
theorem eP.alloc{w:Y}{t:TypeId}(h:eP w b d t)(o:Obj):eP (cN w o) b d t:=(fU o<|ak h).trans h
def iM(w:Y)(b:M)(x:E):Prop:=w.heap[b]?=H (aw #[am x.key,am x.val,aN x.del,aE x.bO] 171 (0,0))
def iM.cells(h:iM a b w):aW a (R b 0)=H (am w.key)/\aW a (R b 1)=H (am w.val)/\aW a (R b 2)=H (aN w.del)/\aW a (R b 3)=H (aE w.bO):=by
 refine⟨?_,?_,?_,?_⟩<;>rw[cg h]<;>rfl
def iM.free{b i:M}(h:iM a b w):a.frozen? (R b i)=aX:=cP h
def iM.alloc{w:Y}{x:E}(h:iM w b x)(o:Obj):iM (cN w o) b x:=(fU o<|ak h).trans h
def iM.aj{w w':Y}{b:M}{x:E}{S:eV}(h:iM w b x)(c:Z S w w')(a:¬S b):iM w' b x:=(c.block b (ak h) a).trans h
def iM.put{b:M}(h:iM a b w)(c:E):iM (cq (cq (cq (cq a (R b 0)<|am c.key) (R b 1)<|am c.val) (R b 2)<|aN c.del) (R b 3)<|aE c.bO) b c:=(aH<|aH<|aH<|aH h).trans rfl
def fD{c:Func}{p u v:Tmp}(i:c.results=#[.cell p 171,.tmp u,.tmp v])(a:Array ab)(w:Y)(g:M)(x:E)(t:TypeId)(d:M×M)(h:a.getD p iH=aA g)(e:w.heap[g]?=H (aw #[am x.key,am x.val,aN x.del,aE x.bO] t d)):(results c a).run aZ w=.ok (dq #[x.value,a.getD u iH,a.getD v iH]) w:=by
 have b:a[p]?.getD iH=aA g:=by simpa using h
 have f:=ku (P:=aZ) w g t 171 #[am x.key,am x.val,aN x.del,aE x.bO] d _ e underlying171 rfl (by kernel_rfl);simp[results,i,b,asAddr,f,Result.andThen,E.value]
def wo:ab:=dC #[am ⟨#[]⟩,am ⟨#[]⟩,aN aX,aE 0]
structure vi(V:iV)(n0:M)(S:eV)(w:Y):Prop where
 size:n0<=z (G w)
 aI:∀k,V.F k->k<n0
 each:∀k,S k->n0<=k/\k<z (G w)
def Af(w:Y)(q:M):Prop:=lP w q 8
def Af.aj{w w':Y}{q:M}{S:eV}(h:Af w q)(g:Z S w w')(a:∀k,S k->k=q->∃c t r,w.heap[k]?=H (aw c t r)/\t≠201):Af w' q:=by
 obtain⟨n,h,d⟩:=h;refine⟨n,(g.block q (ak h)<|λc=>?_).trans h,d⟩;obtain⟨x,t,r,e,j⟩:=a q c rfl;rw[h]at e;injection e with e;injection e with _ e;exact j e.symm
def Dp(V:iV)(w a:Y)(S:eV)(e:Ending)(r:ab->ab):Prop:=V.Xp/\∃q,e=aM (r<|eD q)/\Af a q/\V.D a/\Z S w a
abbrev bE(v:ab):ab:=dq #[wo,aN aX,v]
def Bt(V:iV)(c g:M)(d:Array ab):cR->eV->Y->Prop
 |[],S,w=>vi V c S w/\∀b,kO V c S w b->V.D b->cY aZ g d b λf a=>(f=aM (dq #[wo,aN aX,.nilIface])/\V.D a/\Z (λk=>S k\/V.F k) b a)\/Dp V b a (λk=>S k\/V.F k) f bE
 |x::l,S,w=>vi V c S w/\∀b,kO V c S w b->V.D b->cY aZ g d b λf a=>(f=aM (dq #[x.value,aN ci,.nilIface])/\V.D a/\Z (λk=>S k\/V.F k) b a/\∃e,(∀k,e k->S k\/z (G b)<=k)/\Bt V c g d l e a)\/Dp V b a (λk=>S k\/V.F k) f bE
def vi.apart(h:vi r b p a):∀k,p k->¬r.F k:=λk d c=>by have:=h.aI k c;have:=(h.each k d).1;omega
def vi.aj{S T:eV}{w w':Y}(h:vi r c S w)(d:Z T w w'):vi r c S w':=⟨aC h.1 d.size,h.aI,λk a=>⟨(h.each k a).1,ag (h.each k a).2 d.size⟩⟩
def vi.same{V:iV}{n0:M}{S:eV}(h:vi V n0 S a)(c:kO V n0 S a f):vi V n0 S f:=⟨aC h.1 c.1,h.aI,λk b=>⟨(h.each k b).1,ag (h.each k b).2 c.1⟩⟩
def Bt.own{c f:M}(h:Bt r c f V e p a):vi r c p a:=by
 cases e<;>exact h.1
def Bt.same{V:iV}{n0 j:M}{h:Array ab}{S:eV}(i:Bt V n0 j h e S a)(b:kO V n0 S a f):Bt V n0 j h e S f:=by
 cases e with
 |nil=>exact⟨i.1.same b,λg c d=>i.2 g (b.trans c) d⟩
 |cons x e=>exact⟨i.1.same b,λg c d=>i.2 g (b.trans c) d⟩
def Out(V:iV)(P:cR->eV->Y->Prop)(l:cR)(S:eV)(w:Y)(e:Ending)(a:Y):Prop:=((∃b,e=aM (bE b)/\((l=[]/\b=.nilIface)\/(V.Xp/\∃q,b=eD q/\Af a q)))\/∃x r c,l=x::r/\e=aM (dq #[x.value,aN ci,.nilIface])/\(∀k,c k->S k\/z (G w)<=k)/\P r c a)/\V.D a/\Z (λk=>S k\/V.F k) w a
def Bt.call(m:Bt r b c V e p a)(i:r.D a):cY aZ c V a (Out r (Bt r b c V) e p a):=by
 cases e with
 |nil=>
  refine(m.2 a (kO.refl _ _ _ _) i).mono ?_;rintro n l(⟨rfl,d,f⟩|⟨h,q,rfl,d,f,g⟩)
  .exact⟨.inl ⟨_,rfl,.inl ⟨rfl,rfl⟩⟩,d,f⟩
  .exact⟨.inl ⟨_,rfl,.inr ⟨h,q,rfl,d⟩⟩,f,g⟩
 |cons x e=>
  refine(m.2 a (kO.refl _ _ _ _) i).mono ?_;rintro n l(⟨rfl,d,f,j,g,k⟩|⟨h,q,rfl,d,f,g⟩)
  .exact⟨.inr ⟨x,e,j,rfl,rfl,g,k⟩,d,f⟩
  .exact⟨.inl ⟨_,rfl,.inr ⟨h,q,rfl,d⟩⟩,f,g⟩
def Bt.of(P:cR->eV->Y->Prop)(j:∀{l S w},P l S w->vi r b S w)(m:∀{l S w e},P l S w->kO r b S w e->P l S e)(i:∀{l S w},P l S w->r.D w->cY aZ c V w (Out r P l S w)):∀{l:cR}{S:eV}{w:Y},P l S w->Bt r b c V l S w
 |[],S,w,s=>⟨j s,λe f g=>(i (m s f) g).mono (by
  rintro x n⟨⟨t,rfl,⟨_,rfl⟩|⟨h,q,rfl,k⟩⟩|⟨B,A,o,p,_⟩,a,d⟩
  .exact .inl ⟨rfl,a,d⟩
  .exact .inr ⟨h,q,rfl,k,a,d⟩
  .cases p)⟩
 |yqq::l,S,w,s=>⟨j s,λe f g=>(i (m s f) g).mono (by
  rintro x n⟨⟨t,rfl,⟨p,_⟩|⟨h,q,rfl,k⟩⟩|⟨B,A,o,p,rfl,u,v⟩,a,d⟩
  .cases p
  .exact .inr ⟨h,q,rfl,k,a,d⟩
  .cases p;exact .inl ⟨rfl,a,d,o,u,Bt.of P j m i v⟩)⟩
def jf(V:iV)(c:M)(v:ab)(l:cR)(S:eV)(w:Y):Prop:=∃f b,v=.func (.func f) #[] b/\(∀a w,(callFunc f a).run aZ w=.ok (.enter f a) w)/\Bt V c f b l S w
def jf.same{V:iV}{n0:M}{S:eV}(k:jf V n0 d e S a)(i:kO V n0 S a f):jf V n0 d e S f:=by
 obtain⟨j,b,c,g,h⟩:=k;exact⟨j,b,c,g,h.same i⟩
def jf.own(j:jf r c d e p a):vi r c p a:=by
 obtain⟨f,h,k,l,g⟩:=j;exact g.own
def Cp(x a:E)(w:Y):cY aZ 212 #[x.value,a.value] w λf e=>f=aM (aN<|ahead x a)/\e=cN (cN w<|aw #[am x.key,am x.val,aN x.del,aE x.bO] 171) (aw #[am a.key,am a.val,aN a.del,aE a.bO] 171):=by
 have b:ahead x a=(Op.bytesLess x.key.toList a.key.toList||((x.key.toList==a.key.toList)&&decide (a.bO<x.bO))):=by unfold ahead ja;congr 2;rw[Bool.eq_iff_iff];simp only[beq_iff_eq,pM];grind[FF]
 rw[b];clear b;obtain⟨c,j,i,g⟩:=x;obtain⟨d,m,l,k⟩:=a;unfold E.value;simp only;cases h1:Op.bytesLess c.toList d.toList with
 |true=>
  go_in
  go_wp2;go_ret;simp_all
 |false=>
  cases h2:(c.toList==d.toList)with
  |true=>
   go_in
   go_wp2;go_ret;simp_all
  |false=>
   go_in
   go_wp2;go_ret;simp_all
def zI{f:M}(A:Array ab)(n:M)(p:M->Bool)(w:Y)(C:Enters aZ f)(hn:n<=1000000000000)(E:∀aa P,aa<=P->P<n->p aa=ci->p P=ci)(D:∀j,j<n->∀W,Below (z<|G w) w W->cY aZ f (#[ar j]++A) W λB O=>B=aM (aN<|p j)/\Below (z<|G W) W O):cY aZ 210 #[ar n,.func (.func f) #[] A] w λB V=>∃L:M,B=aM (ar L)/\L<=n/\(∀j,j<L->p j=aX)/\(∀j,L<=j->j<n->p j=ci)/\Below (z<|G w) w V:=by
 have eg:∀a w,(callFunc f a).run aZ w=.ok (.enter f a) w:=C;have K:∀(x:Bool)(w:Y),(Op.unary .not<|aN x).run aZ w=.ok (aN<|!x) w:=λ_ _=>rfl;have x:=U E;have N:=U D;clear E D C;go_in
 go_wp2;go_loopw [5,6] (λj a wr=>∃g e:M,j=ar g/\a=ar e/\g<=e/\e<=n/\(∀t,t<g->p t=aX)/\(∀t,e<=t->t<n->p t=ci)/\Below (z<|G w) w wr) (λj a _=>(intOf a).toNat-(intOf j).toNat)
 case atStart=>exact⟨0,n,rfl,rfl,bP _,ah _,λt h=>by omega,λt s h=>by omega,Below.refl _ _⟩
 case round=>
  obtain⟨g,e,rfl,rfl,Q,k,q,r,b⟩:=hrel;obtain⟨u,v,HB⟩:=dz q r b;by_cases S:g<e
  .obtain⟨m,T⟩:∃m:M,(g+e)/2=m:=⟨_,rfl⟩;have l:m<n:=by omega
   have a:=N m l wr b;have F:((g:X)+(e:X))/2=(m:X):=by omega
   clear q r b;cases hp:p m with
   |false=>
    rw[hp]at a;have o:=U (λt(s:t<m+1)=>(show p t=aX from by
     cases c:p t with
     |false=>rfl
     |true=>have:=x t m (by omega) l c;rw[hp]at this;cases this))
    clear hp;go_wp2_with(go_at_fn f;refine a.mono ?_;rintro B w1⟨rfl,d⟩;have i:=U d;clear d)
    go_roundw;case rel=>exact⟨m+1,e,by go_num,rfl,by omega,k,o,v,HB.trans<|i.mono HB.size⟩
    case measure=>simp[intOf];omega
   |true=>
    rw[hp]at a;have o:=U<|λt(s:m<=t)(a:t<n)=>x m t s a hp;clear hp;go_wp2_with(go_at_fn f;refine a.mono ?_;rintro B w1⟨rfl,d⟩;have i:=U d;clear d)
    go_roundw;case rel=>exact⟨g,m,rfl,by go_num,by omega,by omega,u,o,HB.trans<|i.mono HB.size⟩
    case measure=>simp[intOf];omega
  .have a:g=e:=by omega
   subst a;clear q r b;go_wp2;go_ret;exact⟨g,rfl,k,u,v,HB⟩
def aK(l:cR):gW:=l.flatMap E.cells
theorem fV(l:cR):y (aK l)=y l*4:=by
 induction l with
 |nil=>rfl
 |cons e r a=>unfold aK at*;rw[dU,af,a];simp[E.cells];omega
theorem fW(a b:cR):aK (a++b)=aK a++aK b:=by simp[aK]
def eI(l:cR)(n:M)(h:n<y l):(aK l)[n*4]?=H (am l[n].key)/\(aK l)[n*4+1]?=H (am l[n].val)/\(aK l)[n*4+2]?=H (aN l[n].del)/\(aK l)[n*4+3]?=H (aE l[n].bO):=by
 have e:aK l=aK (l.take n)++(E.cells l[n]++aK (l.drop<|n+1)):=by(have b:l=l.take n++l[n]::l.drop (n+1):=by rw[<-bG h,bV]);(conv=>lhs;rw[b]);simp only[aK,fG,dU]
 have a:y (aK<|l.take n)=n*4:=by rw[fV];simp;omega
 refine⟨?_,?_,?_,?_⟩;rw[e,eU (by omega),a];simp[E.cells];rw[e,eU (by omega),a,show n*4+1-n*4=1 by omega];simp[E.cells];rw[e,eU (by omega),a,show n*4+2-n*4=2 by omega];simp[E.cells];rw[e,eU (by omega),a,show n*4+3-n*4=3 by omega];simp[E.cells]
def kC(w:Y)(v:ab)(l:cR):Prop:=Row w 4 v (y l)<|aK l
def kC.below{B:M}(n:kC a d e)(k:Below B a f)(m:∀o,cK d=H o->o<B):kC f d e:=by
 obtain⟨h,⟨rfl,j⟩|⟨i,b,c,rfl,g,l⟩⟩:=n;exact⟨h,.inl ⟨rfl,j⟩⟩;exact⟨h,.inr ⟨i,b,c,rfl,g,λn u j=>(k.cell (p:=(R i<|b+n))<|m i rfl).trans<|l n u j⟩⟩
def below_drewN{w wr:Y}(h:Below b w wr)(q:M):Below b w (wr.drewN q):=⟨h.os,h.tape,h.output,h.size,h.block⟩
def IJ{b:ae}(h:t≠b):(t.toList==b.toList)=aX:=by
 grind[FF]
def iM.below{B b:M}(h:iM a b w)(c:Below B a f)(d:b<B):iM f b w:=(c.block b d).trans h
def Oo(h:kC a d e)(i:eP a b d 87)(p:iM a c w)(j:M)(P:j<y e):cY aZ 211 #[ar j,aA b,aA c] a λaa Q=>aa=aM (aN<|!ahead e[j] w)/\Below (z<|G a) a Q:=by
 have t:∀(w:Bool)(a:Y),(Op.unary .not<|aN w).run aZ a=.ok (aN<|!w) a:=λ_ _=>rfl;have c1:=i.cell;obtain⟨S,T,V,W⟩:=p.cells;obtain⟨O,⟨rfl,h0⟩|⟨l,f,m,rfl,o,r⟩⟩:=h;omega;have s:=eI e j P;have q:=r _ _ s.1;have K:aW a (R l<|f+j*4+1)=H (am e[j].val):=by rw[bw];grind
 have L:aW a (R l<|f+j*4+2)=H (aN e[j].del):=by rw[bw];grind
 have N:aW a (R l<|f+j*4+3)=H (aE e[j].bO):=by rw[bw];grind
 have n:=λW=>Cp e[j] w W;have e2:(j:X)<(y e:X):=by omega
 have e3:(0:X)<=(j:X):=by omega
 generalize e[j]=k at*;generalize ahead k w=ac at*;obtain⟨D,F,C,B⟩:=k;obtain⟨x,A,v,u⟩:=w;unfold E.value at n;simp only at n S T V W q K L N;have u1:=ak i;have u2:=ak p;have u3:l<z (G a):=cC _ _ q;clear r s p i O o;go_in
 go_wp2_with fail
 go_region_held3(λg=>aW g (R b 0)=H (bD l f (y e) m)/\aW g (R l<|f+j*4)=H (am D)/\aW g (R l<|f+j*4+1)=H (am F)/\aW g (R l<|f+j*4+2)=H (aN C)/\aW g (R l<|f+j*4+3)=H (aE B)/\aW g (R c 0)=H (am x)/\aW g (R c 1)=H (am A)/\aW g (R c 2)=H (aN v)/\aW g (R c 3)=H (aE u)) (first|assumption|go_keep) (first|(go_at_call 212;refine(n _).mono ?_;rintro aa w1⟨rfl,rfl⟩))
 go_wp2;go_ret;have i:Below (z<|G a) a (cN (cN a<|aw #[am D,am F,aN C,aE B] 171)<|aw #[am x,am A,aN v,aE u] 171):=((Below.refl _ a).alloc (ah _) _).alloc (by simp) _;exact⟨rfl,i.os,i.tape,i.output,i.size,i.block⟩
def BN(E:ab)(v:ae)(l:X)(w:Y)(h:kC w E e)(B:dV e)(L:y e<=1000000000000)(D:∀l,cK E=H l->l<z (G w)):cY aZ 150 #[E,am v,aE l] w λS Q=>S=aM (ar<|lj e ⟨v,⟨#[]⟩,aX,l⟩)/\Below (z<|G w) w Q:=by
 obtain⟨W,c⟩:∃W,cN (cN w<|aw #[E] 87) (aw #[am v,am ⟨#[]⟩,aN aX,aE l] 171)=W:=⟨_,rfl⟩;have r:Below (z<|G w) w W:=by rw[<-c];exact((Below.refl _ w).alloc (ah _) _).alloc (by simp) _
 have O:z (G W)=z (G w)+2:=by rw[<-c];simp
 have a:eP W (z<|G w) E 87:=by rw[<-c];grind[eP.alloc,aJ]
 have f:iM W (z (G w)+1) ⟨v,⟨#[]⟩,aX,l⟩:=by rw[<-c];exact aJ _<|by simp
 have k:=zI #[aA<|z<|G w,aA<|z (G w)+1] (y e) (λx=>if A:x<y e then !ahead e[x] ⟨v,⟨#[]⟩,aX,l⟩else ci) W (enters_of func211 (by kernel_rfl) rfl) L (by
  intro x T s g q;have t:x<y e:=by omega
  simp only[g,t,Ag]at q|-;cases d:ahead e[T] ⟨v,⟨#[]⟩,aX,l⟩with
  |false=>rfl
  |true=>rw[B.mono s g d]at q;cases q)
  (by
   intro x A K o;apply(Oo (h.below (r.trans (o.mono (by omega))) D) ((o.block _ (by omega)).trans a) (f.below o (by omega)) x A).mono;grind)
 have n:=U k;obtain⟨ac,aa,u⟩:=bY h;have HB:=U r;clear k h B D r a f O;subst u;subst c;go_in
 go_wp2_with(go_at_call 210;refine n.mono ?_;rintro S V⟨p,rfl,N,i,j,a⟩;have F:=U<|show lj e ⟨v,⟨#[]⟩,aX,l⟩=p from XA N (λP C b=>by have:=i P b;grind) (λP C b=>by have:=j P b C;grind);have m:=U a;clear i j a)
 go_ret;rw[J F];exact⟨rfl,HB.trans<|m.mono (by simp;omega)⟩
def eP.same{V:iV}{n0:M}{S:eV}{t:TypeId}(h:eP a b d t)(e:kO V n0 S a f)(c:S b):eP f b d t:=(e.2 b<|.inr c).trans h
def yD(c a b:M)(v:ab)(k:M):Prop:=k=a\/k=b\/(cK v=H k/\c<=k)
structure Kh(V:iV)(n0:M)(w:Y)(xi xl:M)(v:ab)(l:cR)(i:M):Prop where
 bi:eP w xi (ar i) 3
 bl:eP w xl v 87
 B7:kC w v l
 il:xi≠xl
 own:∀k,cK v=H k->k≠xi/\k≠xl/\¬V.F k/\k<z (G w)
def Kh.B6(t:Kh r b a c g d e m)(q:kO r b (yD b c g d) a f):kC f d e:=by
 have s:=t.own;obtain⟨k,⟨rfl,n⟩|⟨l,h,i,rfl,j,o⟩⟩:=t.B7;exact⟨k,.inl ⟨rfl,n⟩⟩;refine⟨k,.inr ⟨l,h,i,rfl,j,λv w p=>q.cell ?_<|o v w p⟩⟩;by_cases u:b<=l;exact .inl<|.inr<|.inr ⟨rfl,u⟩;exact .inr ⟨by omega,(s l rfl).2.2.1⟩
def Ta(V:iV)(e c g:M)(A:ab)(n:cR)(hl:y n<=1000000000000):∀(al l:M)(ac:Y),al=y n-l->l<=y n->Kh V e ac c g A n l->vi V e (yD e c g A) ac->Bt V e 307 #[aA c,aA g] (n.drop l) (yD e c g A) ac:=by
 intro al;induction al with
 |zero=>
  intro l ac K W f p;have a:l=y n:=by omega
  subst a;rw[gv];refine⟨p,λb i s=>?_⟩;have h0:=(f.bi.same i<|.inl rfl).cell;have Q:=(f.bl.same i<|.inr<|.inl rfl).cell;have D:=U<|λd(au:Z (yD e c g A) b d)=>V.eY s au p.apart;have e0:=ak<|f.bi.same i<|.inl rfl;have e1:=ak<|f.bl.same i<|.inr<|.inl rfl;obtain⟨ad,j,o⟩:=bY f.B7;rw[o]at Q;clear f i s K W o;go_in
  go_wp2;refine ct (fD rfl _ _ (z<|G b) ⟨⟨#[]⟩,⟨#[]⟩,aX,0⟩ _ _ rfl<|aJ _ rfl) rfl ?_;refine .inl ⟨rfl,?_⟩;have q:Z (yD e c g A) b (cN b<|aw #[am ⟨#[]⟩,am ⟨#[]⟩,aN aX,aE 0] 171):=(cF _ _);exact⟨D _ q,q.mono<|λad o=>.inl<|.inl o⟩
 |succ al ih=>
  intro l ac K W f p;have v:l<y n:=by omega
  rw[bG v];refine⟨p,λb i s=>?_⟩;have k:=f.bi.same i<|.inl rfl;have m:=f.bl.same i<|.inr<|.inl rfl;have h0:=k.cell;have ap:=k.free;have Q:=m.cell;have hE:=f.B6 i;have P:=f.own;have n2:=f.il;obtain⟨D,HI,HO,HS⟩:=fY (λd(au:Z (yD e c g A) b d)=>V.eY s au p.apart) (λd(a:Kh V e d c g A n (l+1))(f:vi V e (yD e c g A) d)=>ih (l+1) d (by omega) (by omega) a f) (p.same i) i.1;clear f i s K ih p;obtain⟨t,⟨rfl,ao⟩|⟨r,a,j,rfl,u,E⟩⟩:=hE
  .omega
  have S:=eI n l v;have w:aW b (R r<|a+l*4)=H (am n[l].key):=E _ _ S.1;have L:aW b (R r<|a+l*4+1)=H (am n[l].val):=by rw[bw];grind
  have N:aW b (R r<|a+l*4+2)=H (aN n[l].del):=by rw[bw];grind
  have O:aW b (R r<|a+l*4+3)=H (aE n[l].bO):=by rw[bw];grind
  have e0:=ak k;have e1:=ak m;have e2:r<z (G b):=cC _ _ w;have n1:c≠r:=λan=>(P r rfl).1 an.symm;obtain⟨HE,C,B,HV⟩:=fY (show Row b 4 (bD r a (y n) j) (y n) (aK n)from⟨t,.inr ⟨r,a,j,rfl,u,E⟩⟩) m k P;clear S k m E P t u;generalize n[l]=ad at*;obtain⟨xk,xv,xd,xb⟩:=ad;simp only at w L N O;go_in
  go_wp2;refine ct (fD rfl _ _ (z<|G b) ⟨xk,xv,xd,xb⟩ _ _ rfl<|aJ _ gP.symm) rfl ?_;refine .inl ⟨rfl,?_⟩;have q:Z (λaa=>aa=c) b (cN (cq b (R c 0)<|ar<|l+1)<|aw #[am xk,am xv,aN xd,aE xb] 171):=(gZ c b).alloc _;have x:Z (yD e c g<|bD r a (y n) j) b _:=q.mono (T:=yD e c g<|bD r a (y n) j)<|λad o=>.inl<|.inl o;refine⟨D _ x,x.mono<|λad o=>.inl<|.inl o,yD e c g _,λaa F=>.inl F,HI _ ?_<|HO.aj q⟩;refine⟨(B.set _).alloc _,(C.other _<|λan=>n2 an.symm).alloc _,q.row HE ?_,n2,λaa F=>?_⟩
  .rintro aa⟨⟩;grind
  .obtain⟨q1,q2,q3,q4⟩:=HV aa F;exact⟨q1,q2,q3,ag q4<|aC HS q.size⟩
def Ff(V:iV)(i:M){v:ab}{l:cR}(e:ae){w:Y}(h:kC w v l)(F:dV l)(r:∀L∈l,L.bO<18446744073709551616)(N:y l<=1000000000000)(s:∀k,cK v=H k->¬V.F k/\k<z (G w))(hn:i<=z (G w))(hF:∀k,V.F k->k<i):cY aZ 305 #[v,am e] w λA S=>∃Q ad,A=aM Q/\jf V i Q (fZ e l) ad S/\Below (z<|G w) w S/\(∀k,ad k->(cK v=H k/\i<=k)\/z (G w)<=k):=by
 have O:=λW(m:Below (z<|G w) w W)=>BN v e 18446744073709551615 W (by
  obtain⟨n,⟨rfl,C⟩|⟨B,a,b,rfl,f,D⟩⟩:=h
  .exact⟨n,.inl ⟨rfl,C⟩⟩
  .exact⟨n,.inr ⟨B,a,b,rfl,f,λP ac E=>(m.cell (p:=(R B (a+P))) (s B rfl).2).trans (D P ac E)⟩⟩) F N (λc o=>ag (s c o).2 m.size)
 obtain⟨HP,t,u⟩:=dz O (show fZ e l=l.drop (lj l ⟨e,⟨#[]⟩,aX,18446744073709551615⟩)from(RO F e _ _ (λL a=>by have:=r L a;omega)).symm)<|IW l ⟨e,⟨#[]⟩,aX,18446744073709551615⟩;have K:=bY h;obtain⟨HH,x,W⟩:=dz h s hF;clear O s h F hF r;generalize lj l ⟨e,⟨#[]⟩,aX,18446744073709551615⟩=T at*;obtain⟨L,b,rfl⟩:=K;go_in
 go_wp2_with(go_at_call 150;refine(HP _<|(Below.refl _ w).alloc (ah _) _).mono ?_;rintro A j⟨rfl,p⟩;have HB:=U p;clear p)
 go_ret;have o:=J HB;have aa:z (G w)+1<=z (G j):=by have:=o.size;simp_all
 have d:Below (z<|G w) w j:=((Below.refl _ w).alloc (ah _) _).trans (o.mono<|by simp);have c:Below (z<|G w) w (cN j<|aw #[ar T] 3):=d.alloc d.size _;have q:eP j (z<|G w) (I L (y l) b) 87:=(o.block (z<|G w)<|by simp).trans<|aJ _ rfl;refine⟨_,yD i (z<|G j) (z<|G w)<|I L (y l) b,rfl,⟨307,_,rfl,enters_of func307 (by kernel_rfl) rfl,?_⟩,c,?_⟩;rw[J t];refine Ta V i (z<|G j) (z<|G w) (I L (y l) b) l N _ T _ rfl u ⟨aJ _ rfl,q.alloc _,?_,by omega,λk g=>?_⟩ ⟨by simp;omega,W,λk g=>?_⟩;obtain⟨n,⟨A,C⟩|⟨B,a,m,A,f,D⟩⟩:=J HH;exact⟨n,.inl ⟨A,C⟩⟩;refine⟨n,.inr ⟨B,a,m,A,f,λP ac E=>(c.cell (p:=(R B<|a+P)) ?_).trans<|D P ac E⟩⟩;exact(x B (by rw[A];rfl)).2;obtain⟨m,q2⟩:=x k g;exact⟨by omega,by omega,m,by simp;omega⟩;rcases g with rfl|rfl|⟨g,m⟩;exact⟨by omega,by simp⟩;exact⟨by omega,by simp;omega⟩;exact⟨m,by have:=(x k g).2;simp;omega⟩;rintro k(rfl|rfl|g);right;omega;right;omega;grind
def tL(a:T->E->Bool)(Gd:T->E->T):T->cR->cR
 |_,[]=>[]
 |s,x::r=>if a s x then x::tL a Gd (Gd s x) r else tL a Gd (Gd s x) r
structure Bp(σ:Type)(V:iV)(n0:M)where
 f:M
 cb:Array ab
 test:σ->E->Bool
 Gd:σ->E->σ
 inv:σ->Y->Prop
 S:M->Prop
 Ub:Enters aZ f
 call:∀s x w,inv s w->cY aZ f (#[x.value]++cb) w λe w'=>e=aM (aN<|test s x)/\inv (Gd s x) w'/\Z S w w'
 eY:∀s w w',inv s w->(∀k,S k->w'.heap[k]?=w.heap[k]?)->inv s w'
 lt:∀s w,inv s w->∀k,S k->n0<=k/\k<z (G w)
structure lI{σ:Type}{V:iV}{n0:M}(K:Bp σ V n0)(w:Y)(xn xk f:M)(cb:Array ab)(s:σ)(l:cR)(S:eV):Prop where
 bn:eP w xn (.func (.func f) #[] cb) 237
 bk:eP w xk (.func (.func K.f) #[] K.cb) 365
 Ub:Enters aZ f
 run:Bt V n0 f cb l S w
 inv:K.inv s w
 own:n0<=xn/\n0<=xk
 nS:∀k,S k->k≠xn/\k≠xk/\¬K.S k
 nK:∀k,K.S k->k≠xn/\k≠xk
def zu(K:Bp T r b)(c a:M)(S:eV)(k:M):Prop:=k=c\/k=a\/S k\/K.S k
def lI.same{V:iV}{n0:M}{K:Bp T V n0}{j:Array ab}{s:T}{S:eV}(h:lI K a b c g j s e S)(d:kO V n0 (zu K b c S) a f):lI K f b c g j s e S:=⟨h.bn.same d<|.inl rfl,h.bk.same d<|.inr<|.inl rfl,h.Ub,h.run.same<|d.mono<|λ_ i=>.inr<|.inr<|.inl i,K.eY s a f h.inv<|λk i=>d.2 k<|.inr<|.inr<|.inr<|.inr i,h.own,h.nS,h.nK⟩
def lI.uh{K:Bp T r b}{s:T}(h:lI K a c g m V s e p):vi r b (zu K c g p) a:=⟨h.run.own.size,h.run.own.aI,by
 rintro k(rfl|rfl|d|d)
 .exact⟨h.own.1,ak h.bn⟩
 .exact⟨h.own.2,ak h.bk⟩
 .exact h.run.own.each k d
 .exact K.lt s a h.inv k d⟩
def lI.Zk{o:Bp T r b}{s:T}{j:eV}(h:lI o a c g m V s e p)(n:Z (λk=>p k\/r.F k) a f)(t:∀k,j k->p k\/z (G a)<=k)(u:Bt r b m V K j f):lI o f c g m V s K j:=by
 have q:=h.uh;have hF:∀k,b<=k->¬r.F k:=λk i a=>by have:=q.aI k a;omega
 refine⟨(n.block c (ak h.bn) ?_).trans h.bn,(n.block g (ak h.bk) ?_).trans h.bk,h.Ub,u,o.eY s a f h.inv<|λk i=>n.block k (o.lt s a h.inv k i).2 ?_,h.own,λk i=>?_,h.nK⟩;rintro(d|d);exact(h.nS c d).1 rfl;exact hF c h.own.1 d;rintro(d|d);exact(h.nS g d).2.1 rfl;exact hF g h.own.2 d;rintro(d|d);exact(h.nS k d).2.2 i;exact hF k (o.lt s a h.inv k i).1 d;rcases t k i with d|d;exact h.nS k d;refine⟨?_,?_,?_⟩;rintro rfl;have:=ak h.bn;omega;rintro rfl;have:=ak h.bk;omega;intro l;have:=(o.lt s a h.inv k l).2;omega
def lI.kept{σ:Type}{K:Bp σ r b}{g d f:M}{s j:σ}(h:lI K a g d f V s e p)(i:Z K.S a A)(n:K.inv j A):lI K A g d f V j e p:=by
 have m:=h.uh;have hF:∀k,b<=k->¬r.F k:=λk c a=>by have:=m.aI k a;omega
 refine⟨(i.block g (ak h.bn)<|λl=>(h.nK g l).1 rfl).trans h.bn,(i.block d (ak h.bk)<|λl=>(h.nK d l).2 rfl).trans h.bk,h.Ub,h.run.same ?_,n,h.own,h.nS,h.nK⟩;refine i.same h.run.own.size (λk c=>⟨(h.run.own.each k c).2,(h.nS k c).2.2⟩)<|λk c o=>?_;have:=(K.lt s a h.inv k c).1;omega
def lI.laid{K:Bp T r b}{s:T}(h:lI K a c g m V s e p)(o:Obj):lI K (cN a o) c g m V s e p:=h.kept ((Z.refl _ _).alloc o)<|K.eY s a _ h.inv<|λk d=>fU o (K.lt s a h.inv k d).2
def lI.apart{K:Bp T r b}{s:T}{n:eV}(i:lI K a c g m V s e p)(l:Z n a f)(h:∀k,n k->¬zu K c g p k/\b<=k):lI K f c g m V s e p:=i.same<|l.same i.run.own.size (λk d=>⟨(i.uh.each k d).2,λo=>(h k o).1 d⟩) (λk d j=>by have:=(h k d).2;omega)
def vH(w:Y)(b:M)(a:E):Y:=cq (cq (cq (cq w (R b 0)<|am a.key) (R b 1)<|am a.val) (R b 2)<|aN a.del) (R b 3)<|aE a.bO
def iL(w:Y)(b:M)(a:E):Z (λk=>k=b) w (vH w b a):=(((gZ b w).setCell b 1 _<|.inl rfl).setCell b 2 _<|.inl rfl).setCell b 3 _<|.inl rfl
def Zb(K:Bp T r b)(e d g:M)(f:Array ab)(l:cR)(S:eV)(w:Y):Prop:=∃s c a,l=tL K.test K.Gd s c/\S=zu K e d a/\lI K w e d g f s c a
def iM.sep{c q:M}(h:iM a c w):∀k,k=c->k=q->∃d t r,a.heap[k]?=H (aw d t r)/\t≠201:=λk b _=>b▸⟨_,_,_,h,by decide⟩
def Ot(K:Bp T r b)(cb:Array ab)(cm:T)(hA:lI K a c g m cb cm e p)(hD:r.D a):cY aZ 256 #[aA c,aA g] a (Out r (Zb K c g m cb) (tL K.test K.Gd cm e) (zu K c g p) a):=by
 have eg:∀w a,(callFunc m w).run aZ a=.ok (.enter m w) a:=hA.Ub;have ek:∀w a,(callFunc K.f w).run aZ a=.ok (.enter K.f w) a:=K.Ub;have HA:=U hA;have HD:=U hD;clear hA hD;go_in
 go_wp2;go_loopg [5] (y e+1) (λd _ wr=>∃N l' S',y l'<d/\lI K wr c g m cb N l' S'/\r.D wr/\Z (λu=>zu K c g p u\/r.F u) a wr/\tL K.test K.Gd cm e=tL K.test K.Gd N l'/\(∀u,S' u->p u\/z (G a)+1<=u)/\y l'<=y e/\iM wr (z<|G a) ⟨⟨#[]⟩,⟨#[]⟩,aX,0⟩/\¬S' (z<|G a)/\¬K.S (z<|G a))
 (case atStart=>have h:=HA;refine⟨cm,e,p,by omega,h.laid _,r.eY HD (cF ay a) cL,(cF _ _),rfl,λu o=>.inl o,ah _,aJ _ rfl,λv=>?_,λv=>?_⟩;have:=(h.run.own.each _ v).2;omega;have:=(K.lt _ _ h.inv _ v).2;omega)
 case round=>
  obtain⟨N,l',S',W,S,bd,bl,bh,ap,bs,ao,bt,bu⟩:=hrel;have co:=S.bn.cell;have hc:=S.run.call bd;have an:=U (show∀C,Z (λu=>S' u\/r.F u) wr C->Z (λu=>zu K c g p u\/r.F u) a C fromλC h=>bl.trans h (by
   rintro u(o|o)
   .rcases ap u o with v|v
    .exact .inl<|.inl<|.inr<|.inr<|.inl v
    grind
   grind))
  have cB:=ak ao;obtain⟨HN,al,aa,aV,aD⟩:=iO bt bu S bh ao;obtain⟨bb,aU⟩:=And.intro (U ap) (U<|And.intro W bs);clear S bd bl bh ao ap bt bu W bs;go_wp2_with fail
  refine hc.mono ?_;rintro cE C⟨⟨ev,rfl,cf⟩|⟨⟨j,k,f,d⟩,cj,S1,rfl,rfl,au,bk⟩,V,x⟩
  .have l:iM C (z<|G a) ⟨⟨#[]⟩,⟨#[]⟩,aX,0⟩:=aD.aj x<|λv=>v.elim HN (λv=>by have:=aa.uh.aI _ v;have:=HA.uh.size;omega);obtain⟨ca,cc,cd,ce⟩:=l.cells;have bo:=l.free (i:=0);have bp:=l.free (i:=1);have bq:=l.free (i:=2);have br:=l.free (i:=3);have s:=ak l;obtain⟨D,O,Q⟩:=dz l V x;clear l V x;unfold bE wo;have t:Hid (Z (λu=>u=z (G a)) C<|(vH C (z<|G a) ⟨⟨#[]⟩,⟨#[]⟩,aX,0⟩).alloc<|aw #[am ⟨#[]⟩,am ⟨#[]⟩,aN aX,aE 0] 171):=U<|(iL _ _ _).alloc _;have n:=U HA.uh;rcases cf with⟨rfl,rfl⟩|⟨F,q,rfl,A⟩
   .go_wp2;refine ct (fD rfl _ _ (z<|G a) ⟨⟨#[]⟩,⟨#[]⟩,aX,0⟩ _ _ rfl<|(D.put ⟨⟨#[]⟩,⟨#[]⟩,aX,0⟩).alloc _) rfl ?_;exact⟨.inl ⟨_,rfl,.inl ⟨aV.trans rfl,rfl⟩⟩,r.eY O t (λu o hf=>by have:=n.aI u hf;have:=n.size;omega),(an _ Q).trans t<|λu o=>.inr<|by omega⟩
   .have B:=U A;clear A;go_wp2;refine ct (fD rfl _ _ (z<|G a) ⟨⟨#[]⟩,⟨#[]⟩,aX,0⟩ _ _ rfl<|(D.put ⟨⟨#[]⟩,⟨#[]⟩,aX,0⟩).alloc _) rfl ?_;exact⟨.inl ⟨_,rfl,.inr ⟨F,q,rfl,B.aj t D.sep⟩⟩,r.eY O t (λu o hf=>by have:=n.aI u hf;have:=n.size;omega),(an _ Q).trans t<|λu o=>.inr<|by omega⟩
  .have W:=aU.1;have cl:y cj<y e:=by have:=aU.2;simp at this;omega
   have L:=K.call N ⟨j,k,f,d⟩;have hA1:=aa.Zk x au bk;have B:=hA1.laid<|aw #[am j,am k,aN f,aE d] 171;have l:iM C (z<|G a) ⟨⟨#[]⟩,⟨#[]⟩,aX,0⟩:=aD.aj x<|λv=>v.elim HN (λv=>by have:=aa.uh.aI _ v;have:=HA.uh.size;omega);have cn:=B.bk.cell;have av:iM (cN C<|aw #[am j,am k,aN f,aE d] 171) (z<|G C) ⟨j,k,f,d⟩:=aJ _ rfl;obtain⟨ca,cc,cd,ce⟩:=av.cells;have s:=L _ B.inv;have bx:=U (show¬K.S (z<|G C)fromλv=>by have:=(K.lt _ _ hA1.inv _ v).2;omega);have ck:=x.size;obtain⟨bL,P,ax,D,O⟩:=iO av au B l V;have Q:=U x;clear l V x hA1 B bk au av L;have bi:tL K.test K.Gd N (⟨j,k,f,d⟩::cj)=if K.test N ⟨j,k,f,d⟩then⟨j,k,f,d⟩::tL K.test K.Gd (K.Gd N ⟨j,k,f,d⟩) cj else tL K.test K.Gd (K.Gd N ⟨j,k,f,d⟩) cj:=rfl;have ba:=U<|aV.trans bi;clear bi;unfold E.value at s|-;simp only at s|-;go_wp2_with fail
   refine s.mono ?_;rintro cE w2⟨rfl,bg,F⟩;have bn:iM w2 (z<|G C) ⟨j,k,f,d⟩:=bL.aj F bx;have A:iM w2 (z<|G a) ⟨⟨#[]⟩,⟨#[]⟩,aX,0⟩:=(D.alloc _).aj F al;obtain⟨yV,cp,cr,cs⟩:=bn.cells;obtain⟨cu,cv,cw,cx⟩:=A.cells;have bo:=A.free (i:=0);have bp:=A.free (i:=1);have bq:=A.free (i:=2);have br:=A.free (i:=3);obtain⟨aF,ac,bc⟩:=dz A (ax.kept F bg) F;clear bg F bn A;have n:=U HA.uh;have bT:=U ac.uh;have bf:=U<|r.eY (r.eY O (cF ay C) cL) bc (λu o hf=>by have:=bT.aI u hf;have:=(K.lt _ _ ax.inv u o).1;omega);have bm:=U<|((an _ Q).alloc _).trans bc<|λu o=>.inl<|.inl<|.inr<|.inr<|.inr o;cases hte:K.test N ⟨j,k,f,d⟩with
   |true=>
    have ad:=U (ba.trans<|by rw[dH hte]);clear hte;go_wp2;refine ct (fD rfl _ _ (z<|G a) ⟨j,k,f,d⟩ _ _ rfl<|aF.put ⟨j,k,f,d⟩) rfl ?_;have t:Z (λu=>u=z (G a)) w2 (vH w2 (z<|G a) ⟨j,k,f,d⟩):=iL _ _ _;have ch:¬zu K c g S1 (z<|G a):=by
     rintro(v|v|v|v)
     .have:=(n.each c<|.inl rfl).2;omega
     .have:=(n.each g<|.inr<|.inl rfl).2;omega
     .rcases P _ v with bv|bv
      .exact HN bv
      .omega
     .exact al v
    refine⟨.inr ⟨⟨j,k,f,d⟩,_,_,ad,rfl,λu o=>?_,K.Gd N ⟨j,k,f,d⟩,cj,S1,rfl,rfl,ac.apart t (λu o=>by rw[o];exact⟨ch,n.size⟩)⟩,r.eY bf t (λu o hf=>by have:=n.aI u hf;have:=n.size;omega),bm.trans t<|λu o=>.inr<|by omega⟩;rcases o with v|v|v|v
    .exact .inl<|.inl v
    .exact .inl<|.inr<|.inl v
    .rcases P u v with v|v
     .rcases bb u v with bv|bv
      .exact .inl<|.inr<|.inr<|.inl bv
      .exact .inr<|by omega
     .exact .inr<|by omega
    .exact .inl<|.inr<|.inr<|.inr v
   |false=>
    have ad:=U (ba.trans<|by rw[dF (by rw[hte];simp)]);clear hte;go_wp2;go_roundg(y cj+1);case measure=>simp at W;omega
    case rel=>
     refine⟨K.Gd N ⟨j,k,f,d⟩,cj,S1,by omega,ac,bf,bm,ad,λu o=>?_,by omega,aF,λv=>?_,al⟩
     .rcases P u o with v|v
      .exact bb u v
      grind
     .rcases P _ v with bv|bv
      .exact HN bv
      .omega
def RZ(K:Bp T r b)(c a j:M)(e:Array ab)(s:T)(l:cR)(S:eV)(w:Y)(g:lI K w c a j e s l S):Bt r b 256 #[aA c,aA a] (tL K.test K.Gd s l) (zu K c a S) w:=by
 refine Bt.of (Zb K c a j e) ?_ ?_ ?_ ⟨s,l,S,rfl,rfl,g⟩;rintro l S w⟨s,f,d,rfl,rfl,h⟩;exact h.uh;rintro l S w k⟨s,f,d,rfl,rfl,h⟩i;exact⟨s,f,d,rfl,rfl,h.same i⟩;rintro l S w⟨s,f,d,rfl,rfl,h⟩i;exact Ot K e s h i
def Lt(K:Bp T r b)(s:T)(C:jf r b d e p a)(g:K.inv s a)(m:∀k,p k->¬K.S k):cY aZ 233 #[d,.func (.func K.f) #[] K.cb] a λD u=>∃t l,D=aM t/\jf r b t (tL K.test K.Gd s e) l u/\Below (z<|G a) a u/\(∀k,l k->p k\/K.S k\/z (G a)<=k):=by
 obtain⟨B,j,rfl,o,f⟩:=C;obtain⟨v,x,w,A⟩:=fY o f g m;clear o f g m;go_in
 go_wp2;go_ret;have f:=J x;have g:=J w;have n:Below (z<|G a) a (cN (cN a<|aw #[.func (.func B) #[] j] 237)<|aw #[.func (.func K.f) #[] K.cb] 365):=((Below.refl _ a).alloc (ah _) _).alloc (by simp) _;have q:Z ay a (cN (cN a<|aw #[.func (.func B) #[] j] 237)<|aw #[.func (.func K.f) #[] K.cb] 365):=Z.aR n;refine⟨_,zu K (z<|G a) (z (G a)+1) p,rfl,⟨256,_,rfl,enters_of func256 (by kernel_rfl) rfl,?_⟩,n,?_⟩;refine RZ K (z<|G a) (z (G a)+1) B j s e p _ ⟨?_,aJ _ (by simp),v,f.same<|q.same f.own.size (λk c=>⟨(f.own.each k c).2,λi=>i⟩)<|λk c=>c.elim,K.eY s a _ g<|λk c=>?_,⟨f.own.size,by have:=f.own.size;omega⟩,λk c=>?_,λk c=>?_⟩;(grind[eP.alloc,aJ]);exact q.block k (K.lt s a g k c).2<|λi=>i;have:=(f.own.each k c).2;exact⟨by omega,by omega,A k c⟩;have:=(K.lt s a g k c).2;grind
 rintro k(i|i|i|i);(grind);(grind);exact .inl i;grind
def UL(V:iV)(b:M):Bp Unit V b where
 f:=234
 cb:=#[]
 test:=λ_ e=>!e.del
 Gd:=λ_ _=>()
 inv:=λ_ _=>True
 S:=λ_=>False
 Ub:=enters_of func234 (by kernel_rfl) rfl
 call:=by
  rintro _⟨e,g,d,c⟩w _;unfold E.value;simp only;have a:∀(x:Bool)(w:Y),(Op.unary .not<|aN x).run aZ w=.ok (aN<|!x) w:=λ_ _=>rfl;show cY aZ 234 #[dC #[am e,am g,aN d,aE c]] w _;go_in
  go_wp2;go_ret;exact⟨rfl,trivial,(cF _ w)⟩
 eY:=λ_ _ _ _ _=>trivial
 lt:=λ_ _ _ _ a=>a.elim
def IV(l:cR)(s:Unit):tL (λ(_:Unit)e=>!e.del) (λ_ _=>()) s l=l.filter (λe=>!e.del):=by
 induction l generalizing s with
 |nil=>rfl
 |cons x r a=>
  unfold tL;grind
def Ll(t:jf r b d e p a):cY aZ 185 #[d] a λl g=>∃f c,l=aM f/\jf r b f (e.filter<|λl=>!l.del) c g/\Below (z<|G a) a g/\(∀m,c m->p m\/z (G a)<=m):=by
 have q:=Lt (UL r b) () t trivial<|λ_ _ n=>n;have s:=IV e ();have o:cY aZ 233 #[d,.func (.func 234) #[] #[]] a λl g=>∃f c,l=aM f/\jf r b f (e.filter<|λl=>!l.del) c g/\Below (z<|G a) a g/\(∀m,c m->p m\/z (G a)<=m):=by apply q.mono;rintro l g⟨f,c,w,x,A,B⟩;refine⟨f,c,w,?_,A,λm C=>?_⟩;rw[<-s];exact x;rcases B m C with n|n|n;exact .inl n;exact n.elim;exact .inr n
 clear q s;obtain⟨F,D,rfl,_⟩:=t;go_in
 go_wp2_with(go_at_call 233;refine o.mono ?_;rintro l E⟨f,c,rfl,k,j,i⟩;have u:=U k;have HB:=U j;have v:=U i;clear k j i)
 go_ret;exact⟨f,c,rfl,u,HB,v⟩
def M0(V:iV)(l d b:M)(m:X):Bp ae V l where
 f:=235
 cb:=#[aA d,aA b]
 test:=λs n=>decide (n.bO<=m)&&!decide (n.key=s)
 Gd:=λs n=>if n.bO<=m then n.key else s
 inv:=λs w=>eP w d (aE m) 88/\eP w b (am s) 9/\l<=b/\l<=d/\d≠b
 S:=λu=>u=d\/u=b
 Ub:=enters_of func235 (by kernel_rfl) rfl
 call:=by
  rintro s⟨p,x,v,i⟩w⟨a,g,F,t,j⟩;unfold E.value;simp only;have B:=g.cell;have D:=g.free;have C:=a.cell;have r:=ak g;have o:=ak a;have HB:=U g;have c:=U a;clear g a;show cY aZ 235 #[dC #[am p,am x,aN v,aE i],aA d,aA b] w _;by_cases k:i<=m
  .have q:¬m<i:=by omega
   by_cases e:p=s
   .subst e;simp only[k,ul,uO,Bool.and_false,nk];go_in
    go_wp2;go_ret;exact⟨rfl,⟨c.alloc _,HB.alloc _⟩,(cF _ w)⟩
   .have A:=IJ e;simp only[k,e,ul,Ah,nG,Bool.and_true,nk];go_in
    go_wp2;go_ret;refine⟨rfl,⟨(c.other _ j).alloc _,(HB.set _).alloc _⟩,?_⟩;exact((Z.refl _ w).setCell b 0 _<|.inl<|.inr rfl).alloc _
  .have q:m<i:=by omega
   simp only[k,Ah,xG,ru];go_in
   go_wp2;go_ret;exact⟨rfl,⟨c.alloc _,HB.alloc _⟩,(cF _ w)⟩
 eY:=λs w a h e=>⟨(e d<|.inl rfl).trans h.1,(e b<|.inr rfl).trans h.2.1,h.2.2⟩
 lt:=λs w h u e=>by
  grind
def YA(b:X)(l:cR)(s:ae):tL (λs(e:E)=>decide (e.bO<=b)&&!decide (e.key=s)) (λs e=>if e.bO<=b then e.key else s) s l=nR s (l.filter<|λe=>decide<|e.bO<=b):=by
 induction l generalizing s with
 |nil=>rfl
 |cons x r c=>
  unfold tL;by_cases a:x.bO<=b
  .rw[ir<|by simp[a]];unfold nR;by_cases h:x.key=s
   .grind
   grind
  grind
structure zt(V:iV)(n0:M)(ls:dS)where
 f:M
 cb:Array ab
 inv:Y->Prop
 S:M->Prop
 Ub:Enters aZ f
 call:∀i(hi:i<y ls)w,inv w->V.D w->cY aZ f (#[ar i]++cb) w λe w'=>(∃v' S',e=aM (dq #[v',.nilIface])/\jf V n0 v' ls[i] S' w'/\V.D w'/\Z V.F w w'/\(∀k,S' k->z (G w)<=k))\/∃u,Dp V w w' V.F e<|λv=>dq #[u,v]
 eY:∀w w',inv w->kO V n0 S w w'->inv w'
 lt:∀w,inv w->∀k,S k->n0<=k/\k<z (G w)
structure iU{V:iV}{n0:M}{ls:dS}(O:zt V n0 ls)(w:Y)(b c d g:M)(h:ab)(r:cR)(a:M)(S:eV):Prop where
 br:eP w b h 237
 ba:eP w c (ar a) 3
 bn:eP w d (ar<|y ls) 3
 bo:eP w g (.func (.func O.f) #[] O.cb) 421
 row:(h=.nilFunc/\r=[]/\∀k,¬S k)\/jf V n0 h r S w
 inv:O.inv w
 le:a<=y ls
 size:n0<=z (G w)
 aI:∀k,V.F k->k<n0
 own:n0<=b/\n0<=c/\n0<=d/\n0<=g
 ra:b≠c
 rn:b≠d
 ro:b≠g
 an:c≠d
 ao:c≠g
 nS:∀k,S k->k≠b/\k≠c/\k≠d/\k≠g/\¬O.S k
 nO:∀k,O.S k->k≠b/\k≠c/\k≠d/\k≠g
def oe{V:iV}{n0:M}{lsqq:dS}(O:zt V n0 lsqq)(b c d g:M)(S:eV)(k:M):Prop:=k=b\/k=c\/k=d\/k=g\/S k\/O.S k
def Xc{V:iV}{n0:M}{lsqq:dS}(O:zt V n0 lsqq)(b c d g:M)(l:cR)(S:eV)(w:Y):Prop:=∃h r a e,l=r++(lsqq.drop a).flatten/\S=oe O b c d g e/\iU O w b c d g h r a e
def CS(r:cR)(lsqq:dS)(a:M):cR:=r++(lsqq.drop a).flatten
section
variable{V:iV}{n0:M}{lsqq:dS}{O:zt V n0 lsqq}{w w':Y}{b c d g:M}{h:ab}{r:cR}{a:M}{S:eV}
theorem iU.uh(e:iU O w b c d g h r a S):vi V n0 (oe O b c d g S) w:=⟨e.size,e.aI,by
 rintro k(rfl|rfl|rfl|rfl|f|f)
 .exact⟨e.own.1,ak e.br⟩
 .exact⟨e.own.2.1,ak e.ba⟩
 .exact⟨e.own.2.2.1,ak e.bn⟩
 .exact⟨e.own.2.2.2,ak e.bo⟩
 .rcases e.row with⟨_,_,i⟩|i
  .grind
  .exact i.own.each k f
 .exact O.lt w e.inv k f⟩
theorem iU.same(e:iU O w b c d g h r a S)(f:kO V n0 (oe O b c d g S) w w'):iU O w' b c d g h r a S:=⟨e.br.same f<|.inl rfl,e.ba.same f<|.inr<|.inl rfl,e.bn.same f<|.inr<|.inr<|.inl rfl,e.bo.same f<|.inr<|.inr<|.inr<|.inl rfl,e.row.imp id<|λj=>j.same<|f.mono<|λ_ i=>.inr<|.inr<|.inr<|.inr<|.inl i,O.eY w w' e.inv<|f.mono<|λ_ i=>.inr<|.inr<|.inr<|.inr<|.inr i,e.le,aC e.size f.1,e.aI,e.own,e.ra,e.rn,e.ro,e.an,e.ao,e.nS,e.nO⟩
theorem iU.apart{T:eV}(j:iU O w b c d g h r a S)(l:Z T w w')(i:∀k,T k->¬oe O b c d g S k/\(k<n0->V.F k)):iU O w' b c d g h r a S:=j.same<|l.same j.size (λk e=>⟨(j.uh.each k e).2,λm=>(i k m).1 e⟩)<|λk e f=>(i k e).2 f
theorem iU.laid(e:iU O w b c d g h r a S)(o:Obj):iU O (cN w o) b c d g h r a S:=e.apart ((Z.refl ay w).alloc o) cL
theorem iU.Zk{p:cR}{m:eV}(e:iU O w b c d g h r a S)(j:Z (λk=>S k\/V.F k) w w')(q:∀k,m k->S k\/z (G w)<=k)(t:jf V n0 h p m w'):iU O w' b c d g h p a m:=by
 have o:=e.uh;have hF:∀k,n0<=k->¬V.F k:=λk f e=>by have:=o.aI k e;omega
 have l:∀k,k=b\/k=c\/k=d\/k=g->¬(S k\/V.F k):=by rintro k f(i|i);(have:=e.nS k i;grind);rcases f with rfl|rfl|rfl|rfl;exact hF _ e.own.1 i;exact hF _ e.own.2.1 i;exact hF _ e.own.2.2.1 i;exact hF _ e.own.2.2.2 i
 refine⟨(j.block b (ak e.br)<|l _<|.inl rfl).trans e.br,(j.block c (ak e.ba)<|l _<|.inr<|.inl rfl).trans e.ba,(j.block d (ak e.bn)<|l _<|.inr<|.inr<|.inl rfl).trans e.bn,(j.block g (ak e.bo)<|l _<|.inr<|.inr<|.inr rfl).trans e.bo,.inr t,O.eY w w' e.inv<|j.same e.size (λk f=>⟨(O.lt w e.inv k f).2,?_⟩)<|λk f s=>?_,e.le,aC e.size j.size,e.aI,e.own,e.ra,e.rn,e.ro,e.an,e.ao,λk f=>?_,e.nO⟩;rintro(i|i);exact(e.nS k i).2.2.2.2 f;exact hF k (O.lt w e.inv k f).1 i;rcases f with i|i;have:=(o.each k<|.inr<|.inr<|.inr<|.inr<|.inl i).1;omega;exact i;rcases q k f with i|i;exact e.nS k i;refine⟨?_,?_,?_,?_,?_⟩;rintro rfl;have:=ak e.br;omega;rintro rfl;have:=ak e.ba;omega;rintro rfl;have:=ak e.bn;omega;rintro rfl;have:=ak e.bo;omega;intro n;have:=(O.lt w e.inv k n).2;omega
theorem iU.ended(e:iU O w b c d g h r a S)(j:Z (λk=>S k\/V.F k) w w'):iU O (cq w' (R b 0) .nilFunc) b c d g .nilFunc [] a ay:=by
 have t:=e.uh;have hF:∀k,n0<=k->¬V.F k:=λk f e=>by have:=t.aI k e;omega
 have l:∀k,k=b\/k=c\/k=d\/k=g->¬(S k\/V.F k):=by rintro k f(i|i);(have:=e.nS k i;grind);rcases f with rfl|rfl|rfl|rfl;exact hF _ e.own.1 i;exact hF _ e.own.2.1 i;exact hF _ e.own.2.2.1 i;exact hF _ e.own.2.2.2 i
 have p:eP w' b h 237:=(j.block b (ak e.br)<|l _<|.inl rfl).trans e.br;have m:eP w' c (ar a) 3:=(j.block c (ak e.ba)<|l _<|.inr<|.inl rfl).trans e.ba;have n:eP w' d (ar<|y lsqq) 3:=(j.block d (ak e.bn)<|l _<|.inr<|.inr<|.inl rfl).trans e.bn;have o:eP w' g (.func (.func O.f) #[] O.cb) 421:=(j.block g (ak e.bo)<|l _<|.inr<|.inr<|.inr rfl).trans e.bo;have q:Z (λk=>(S k\/V.F k)\/k=b) w (cq w' (R b 0) .nilFunc):=(j.mono (T:=λk=>(S k\/V.F k)\/k=b)<|λk f=>.inl<|.inl f).setCell b 0 _<|.inl<|.inr rfl;refine⟨p.set _,m.other _<|λs=>e.ra s.symm,n.other _<|λs=>e.rn s.symm,o.other _<|λs=>e.ro s.symm,.inl ⟨rfl,rfl,λ_ i=>i⟩,O.eY w _ e.inv<|q.same e.size (λk f=>⟨(O.lt w e.inv k f).2,?_⟩)<|λk f u=>?_,e.le,by rw[gP];exact aC e.size j.size,e.aI,e.own,e.ra,e.rn,e.ro,e.an,e.ao,cL,e.nO⟩;rintro((i|i)|i);exact(e.nS k i).2.2.2.2 f;exact hF k (O.lt w e.inv k f).1 i;exact(e.nO k f).1 i;rcases f with(i|i)|i;have:=(t.each k<|.inr<|.inr<|.inr<|.inr<|.inl i).1;omega;exact i;have:=e.own.1;subst i;omega
theorem iU.opened{q:ab}{o:eV}(x:a<y lsqq)(e:iU O w b c d g .nilFunc [] a S)(j:Z V.F w w')(B:jf V n0 q lsqq[a] o w')(C:∀k,o k->z (G w)<=k):iU O (cq (cq w' (R b 0) q) (R c 0)<|ar<|(a:X)+1) b c d g q lsqq[a] (a+1) o:=by
 have hF:∀k,n0<=k->¬V.F k:=λk f i=>by have:=e.aI k i;omega
 have D:∀k,o k->k≠b/\k≠c/\k≠d/\k≠g/\¬O.S k:=λk f=>by have:=C k f;have E:=ak e.br;have F:=ak e.ba;have K:=ak e.bn;have L:=ak e.bo;exact⟨by omega,by omega,by omega,by omega,λA=>by have:=(O.lt w e.inv k A).2;omega⟩
 have v:eP w' b .nilFunc 237:=(j.block b (ak e.br)<|hF _ e.own.1).trans e.br;have s:eP w' c (ar a) 3:=(j.block c (ak e.ba)<|hF _ e.own.2.1).trans e.ba;have t:eP w' d (ar<|y lsqq) 3:=(j.block d (ak e.bn)<|hF _ e.own.2.2.1).trans e.bn;have u:eP w' g (.func (.func O.f) #[] O.cb) 421:=(j.block g (ak e.bo)<|hF _ e.own.2.2.2).trans e.bo;have l:O.inv w':=O.eY w w' e.inv<|j.same e.size (λk f=>⟨(O.lt w e.inv k f).2,hF k (O.lt w e.inv k f).1⟩)<|λk f _=>f;have n:Z (λk=>k=b\/k=c) w' (cq (cq w' (R b 0) q) (R c 0)<|ar<|(a:X)+1):=((Z.refl (λk=>k=b\/k=c) w').setCell b 0 _<|.inl<|.inl rfl).setCell c 0 _<|.inl<|.inr rfl;have i:n0<=z (G w'):=aC e.size j.size;have m:∀k,(k=b\/k=c)->k<n0->V.F k:=by rintro k(rfl|rfl)A;have:=e.own.1;omega;have:=e.own.2.1;omega
 refine⟨(v.set _).other _ e.ra,(s.other _<|λp=>e.ra p.symm).set _,(t.other _<|λp=>e.rn p.symm).other _<|λp=>e.an p.symm,(u.other _<|λp=>e.ro p.symm).other _<|λp=>e.ao p.symm,.inr<|B.same<|n.same i (λk f=>⟨(B.own.each k f).2,?_⟩) m,O.eY w' _ l<|n.same i (λk f=>⟨(O.lt w' l k f).2,?_⟩) m,x,by rw[gP,gP];exact i,e.aI,e.own,e.ra,e.rn,e.ro,e.an,e.ao,D,e.nO⟩;grind
 rintro(A|A);exact(e.nO k f).1 A;exact(e.nO k f).2.1 A
end
def uV{P:Program}{w:Y}{b:M}{u:ab}{t:TypeId}(h:eP w b u t)(v:ab)(d:v.oneCell'=ci):(store (R b 0) v).run P w=.ok () (cq w (R b 0) v):=by
 have a:=h.cell;have c:=h.free;rw[Bu P w _ _ _ d];simp[a,c]
abbrev zE:E:=⟨⟨#[]⟩,⟨#[]⟩,aX,0⟩
def TK{O:zt r b l}{i:eV}(j:vi r b (oe O c g m D p) a)(q:iU O f c g m D d e S i)(s:r.D f)(u:Z (λk=>oe O c g m D p k\/r.F k) a f)(t:¬oe O c g m D i (z<|G a))(x:E)(o:Obj):r.D ((vH f (z<|G a) x).alloc o)/\Z (λk=>oe O c g m D p k\/r.F k) a ((vH f (z<|G a) x).alloc o)/\iU O ((vH f (z<|G a) x).alloc o) c g m D d e S i:=by
 have h:Z (λk=>k=z (G a)) f ((vH f (z<|G a) x).alloc o):=(iL _ _ _).alloc o;refine⟨r.eY s h (λk n v=>by have:=j.aI k v;have:=j.size;omega),u.trans h (λk n=>.inr<|by omega),q.apart h<|λk n=>?_⟩;subst n;exact⟨t,λa=>by have:=j.size;omega⟩
def MQ(bx:zt r b l)(hA:iU bx a c g m D d e S p)(hD:r.D a)(fb:y l<=1000000000000):cY aZ 316 #[aA c,aA g,aA m,aA D] a (Out r (Xc bx c g m D) (CS e l S) (oe bx c g m D p) a):=by
 have ff:∀b a,(callFunc bx.f b).run aZ a=.ok (.enter bx.f b) a:=bx.Ub;have fd:∀a,(binOp .eql 237 .nilFunc .nilFunc).run aZ a=.ok (aN ci) a:=λ_=>rfl;have fe:∀f b a,(binOp .eql 237 (.func f #[] b) .nilFunc).run aZ a=.ok (aN aX) a:=λ_ _ _=>rfl;have bt:=hA.uh;have t:=U bt;have ch:∀k,b<=k->¬r.F k:=λk w hf=>by have:=bt.aI k hf;omega
 obtain⟨C,HA,HD⟩:=dz ch hA hD;clear hA hD bt ch;go_in
 go_wp2;go_loopg [9] (2*(y l-S)+2) (λd _ wr=>∃bb r' B S' er,2*(y l-B)+er<d/\((bb=.nilFunc/\r'=[])\/(er=1/\jf r b bb r' S' wr))/\iU bx wr c g m D bb r' B S'/\r.D wr/\Z (λk=>oe bx c g m D p k\/r.F k) a wr/\CS e l S=CS r' l B/\(∀k,S' k->p k\/z (G a)+1<=k)/\iM wr (z<|G a) zE/\¬oe bx c g m D S' (z<|G a))
 (case atStart=>have h:=J HA;refine⟨d,e,S,p,1,by omega,?_,h.laid _,r.eY HD (cF ay a) cL,(cF _ _),rfl,λk w=>.inl w,aJ _ rfl,λj=>?_⟩;(rcases(h.laid<|aw #[am ⟨#[]⟩,am ⟨#[]⟩,aN aX,aE 0] 171).row with⟨c1,c2,_⟩|j;(grind);grind);have:=(h.uh.each _ j).2;omega)
 case round=>
  obtain⟨bb,r',B,S',er,ao,db,f,W,ac,aa,al,v,ax⟩:=hrel;have co:=f.br.cell;have cl:=f.ba.cell;have cm:=f.bn.cell;have cn:=f.bo.cell;have n1:=f.ra;have n2:¬g=c:=λem=>f.ra em.symm;have bn:=U ac;have bk:=U aa;have V:=U v;have cb:=U al;have u:=U ax;have bi:=U ao;have bs:=ak v;have aF:=U (show∀w1,Z r.F wr w1->Z (λk=>oe bx c g m D p k\/r.F k) a w1 fromλw1 h=>ac.trans h<|λk w=>.inl<|.inr w);rcases db with⟨rfl,rfl⟩|⟨rfl,f1,F,rfl,bq,dc⟩;case' inl=>
   by_cases aV:B<y l;rotate_left
   .have bL:B=y l:=by have:=f.le;omega
    subst bL;obtain⟨dT,ea,eb,ec⟩:=v.cells;have cs:=v.free (i:=0);have cu:=v.free (i:=1);have cv:=v.free (i:=2);have cw:=v.free (i:=3);have bc:=U f;have Q:=U W;clear f W ac aa v al ax ao;go_wp2;refine ct (fD rfl _ _ (z<|G a) zE _ _ rfl<|V.put zE) rfl ?_;have A:Z (λk=>k=z (G a)) wr (vH wr (z<|G a) zE):=iL _ _ _;refine⟨.inl ⟨_,rfl,.inl ⟨?_,rfl⟩⟩,r.eY Q A (λk w hf=>by have:=t.aI k hf;have:=t.size;omega),bn.trans A<|λk w=>.inr<|by omega⟩;rw[J bk];simp[CS]
   have cE:=bx.call B aV wr f.inv W;have cj:CS [] l B=CS l[B] l (B+1):=by unfold CS;rw[bG aV,bK,cV]
   have bl:=U<|aa.trans cj;obtain⟨HK,bg,bf,bc⟩:=fY (show∀k,k=c\/k=g->b<=k by rintro k(rfl|rfl);exact f.own.1;exact f.own.2.1) f.br f.ba f;clear f W ac aa v al ax ao cj;go_wp2_with fail
   refine cE.mono ?_;rintro em w1(⟨v1,S1,rfl,⟨f1,F,rfl,bq,cT⟩,ad,s,aD⟩|⟨fk,hX,q,rfl,hq,ad,s⟩);rotate_left
   .have Q:iM w1 (z<|G a) zE:=V.aj s<|C _ t.size;obtain⟨dT,ea,eb,ec⟩:=Q.cells;have cs:=Q.free (i:=0);have cu:=Q.free (i:=1);have cv:=Q.free (i:=2);have cw:=Q.free (i:=3);obtain⟨bL,HQ,ds,dv⟩:=fY Q hq ad s;clear Q hq ad s;go_wp2;refine ct (fD rfl _ _ (z<|G a) zE _ _ rfl<|bL.put zE) rfl ?_;have A:Z (λk=>k=z (G a)) w1 (vH w1 (z<|G a) zE):=iL _ _ _;exact⟨.inl ⟨_,rfl,.inr ⟨hX,q,rfl,HQ.aj A bL.sep⟩⟩,r.eY ds A (λk w hf=>by have:=t.aI k hf;have:=t.size;omega),(aF _ dv).trans A<|λk w=>.inr<|by omega⟩
   have hA1:=bc.opened aV s ⟨f1,F,rfl,bq,cT⟩ aD;have an:eP w1 c .nilFunc 237:=(s.block c (ak bg)<|C _<|HK _<|.inl rfl).trans bg;have T:eP w1 g (ar B) 3:=(s.block g (ak bf)<|C _<|HK _<|.inr rfl).trans bf;have dm:=uV (P:=aZ) an (.func (.func f1) #[] F) rfl;have cp:=T.cell;have cr:=T.free;have cB:=ak an;have cx:=ak T;have au:Z (λk=>k=c\/k=g) w1 (cq (cq w1 (R c 0)<|.func (.func f1) #[] F) (R g 0)<|ar<|(B:X)+1):=((Z.refl (λk=>k=c\/k=g) w1).setCell c 0 _<|.inl<|.inl rfl).setCell g 0 _<|.inl<|.inr rfl;have cf:=U<|r.eY ad au<|λk w=>C k<|HK k w;have ed:=hA1.br.cell;have o:=U (show¬oe bx c g m D S1 (z<|G a)by
    rintro(j|j|j|j|j|j)
    .exact u<|.inl j
    .exact u<|.inr<|.inl j
    .exact u<|.inr<|.inr<|.inl j
    .exact u<|.inr<|.inr<|.inr<|.inl j
    .have:=aD _ j;omega
    .exact u (.inr (.inr (.inr (.inr (.inr j))))))
   have bT:=U<|(V.aj s<|C _ t.size).aj au<|λj=>j.elim (λj=>u<|.inl j)<|λj=>u<|.inr<|.inl j;have cd:=U ((aF _ s).trans au (by
    rintro k(j|j)
    .exact .inl<|.inl<|.inl j
    .exact .inl (.inl (.inr (.inl j)))))
   have bm:=U (show∀k,S1 k->p k\/z (G a)+1<=k fromλk w=>.inr (by have:=aD k w;omega));have ca:=U (show 2*(y l-(B+1))+1<gk by have:=J bi;omega);have x:=U hA1;have el:=au.size;have ek:=s.size;clear hA1 an T au ad s aD cT bc HK bg bf V u bn bk cb bi cE aF;generalize l[B]=rr at*;go_wp2_with fail
   clear dm cp cr;generalize(cq (cq w1 (R c 0)<|.func (.func f1) #[] F) (R g 0)<|ar<|(B:X)+1)=eq at*;generalize B+1=dn at*;have ei:z (G a)<z (G eq):=by omega
   clear cB cx el ek aV bs;clear co cl cm cn
  case' inr=>
   have ed:=f.br.cell;obtain⟨x,cf,cd,bl,bm⟩:=iO f W ac aa al;have bT:=V;have o:=u;have ca:=U<|show 2*(y l-B)+1<gk from ao;clear f W ac aa v al ax ao dc V u bn bk cb bi aF;go_wp2_with fail
   clear co cl cm cn;generalize s:wr=eq at*;clear s;generalize r'=rr at*;generalize B=dn at*;generalize S'=S1 at*;have ei:=bs;clear bs
  all_goals
   have dk:Bt r b f1 F rr S1 eq:=by
    rcases x.row with⟨j,_⟩|⟨f2,es,ej,_,ba⟩
    .cases j
    .cases ej;exact ba
   refine(dk.call cf).mono ?_;rintro em w2⟨cM,ce,ap⟩;have ck:Z (λk=>oe bx c g m D p k\/r.F k) a w2:=cd.trans ap (by
    rintro k(j|j)
    .rcases bm k j with dr|dr
     .exact .inl<|.inl<|.inr<|.inr<|.inr<|.inr<|.inl dr
     .exact .inr<|by omega
    .exact .inl (.inr j))
   have K:iM w2 (z<|G a) zE:=bT.aj ap<|λj=>j.elim (λj=>o<|.inr<|.inr<|.inr<|.inr<|.inl j)<|C _ t.size;have aU:eP w2 c (.func (.func f1) #[] F) 237:=(ap.block c (ak x.br)<|λj=>j.elim (λj=>(x.nS c j).1 rfl)<|λj=>C _ x.own.1 j).trans x.br;have A:=λx:E=>(iL w2 (z<|G a) x).alloc<|aw #[am x.key,am x.val,aN x.del,aE x.bO] 171;have bu:z (G a)≠c:=λj=>o<|.inl j;obtain⟨et,eu,ev,ew⟩:=K.cells;have ex:=K.free (i:=0);have ey:=K.free (i:=1);have eA:=K.free (i:=2);have eB:=K.free (i:=3);have en:=ak K;obtain⟨av,bh,bo,bp,HT⟩:=iO K ce ck A ap;clear K ce ck A ap dk;rcases cM with⟨fg,rfl,⟨ef,rfl⟩|⟨hX,q,rfl,hq⟩⟩|⟨⟨N,O,L,n⟩,r2,S2,eg,rfl,br,ba⟩
   .subst ef;have eo:=uV (P:=aZ) (aU.alloc<|aw #[am ⟨#[]⟩,am ⟨#[]⟩,aN aX,aE 0] 171) .nilFunc rfl;have bd:=U<|x.ended<|HT.alloc<|aw #[am ⟨#[]⟩,am ⟨#[]⟩,aN aX,aE 0] 171;clear aU;unfold bE wo;go_wp2;go_roundg(2*(y l-dn)+1);case measure=>exact ca
    case rel=>
     have bv:Z (λk=>k=c) w2 (cq (cN w2<|aw #[am ⟨#[]⟩,am ⟨#[]⟩,aN aX,aE 0] 171) (R c 0) .nilFunc):=((Z.refl (λk=>k=c) w2).alloc _).setCell c 0 _<|.inl rfl;refine⟨.nilFunc,[],dn,λ_=>False,0,by omega,.inl ⟨rfl,rfl⟩,bd,r.eY bh bv (λk w=>by rw[w];exact C _ x.own.1),bo.trans bv<|λk w=>.inl<|.inl<|.inl w,bl,cL,av.aj bv bu,?_⟩;rintro(j|j|j|j|j|j)
     .exact bu j
     .exact o<|.inr<|.inl j
     .exact o<|.inr<|.inr<|.inl j
     .exact o<|.inr<|.inr<|.inr<|.inl j
     .exact j
     .exact o<|.inr<|.inr<|.inr<|.inr<|.inr j
   .have HQ:=U hq;clear hq aU;unfold bE wo;go_wp2;refine ct (fD rfl _ _ (z<|G a) zE _ _ rfl<|(av.put zE).alloc _) rfl ?_;exact⟨.inl ⟨_,rfl,.inr ⟨hX,q,rfl,HQ.aj (bp zE) av.sep⟩⟩,r.eY bh (bp zE) (λk w hf=>by have:=t.aI k hf;have:=t.size;omega),bo.trans (bp zE)<|λk w=>.inr<|by omega⟩
   .subst eg;have bd:=U<|x.Zk HT br ⟨f1,F,rfl,bq,ba⟩;have cc:=U br;clear br ba aU;unfold E.value;simp only;go_wp2;refine ct (fD rfl _ _ (z<|G a) ⟨N,O,L,n⟩ _ _ rfl<|(av.put ⟨N,O,L,n⟩).alloc _) rfl ?_;have dx:¬oe bx c g m D S2 (z<|G a):=by
     rintro(j|j|j|j|j|j)
     .exact bu j
     .exact o<|.inr<|.inl j
     .exact o<|.inr<|.inr<|.inl j
     .exact o<|.inr<|.inr<|.inr<|.inl j
     .rcases cc _ j with dr|dr
      .exact o<|.inr<|.inr<|.inr<|.inr<|.inl dr
      .omega
     .exact o<|.inr<|.inr<|.inr<|.inr<|.inr j
    obtain⟨q1,q2,q3⟩:=TK t bd bh bo dx ⟨N,O,L,n⟩<|aw #[am N,am O,aN L,aE n] 171;refine⟨.inr ⟨⟨N,O,L,n⟩,_,_,bl,rfl,λk w=>?_,_,r2,dn,S2,rfl,rfl,q3⟩,q1,q2⟩;rcases w with j|j|j|j|j|j
    .exact .inl<|.inl j
    .exact .inl<|.inr<|.inl j
    .exact .inl<|.inr<|.inr<|.inl j
    .exact .inl<|.inr<|.inr<|.inr<|.inl j
    .rcases cc k j with dr|dr
     .rcases bm k dr with em|em
      .exact .inl<|.inr<|.inr<|.inr<|.inr<|.inl em
      .exact .inr<|by omega
     .exact .inr<|by omega
    .exact .inl<|.inr<|.inr<|.inr<|.inr<|.inr j
def Pv(O:zt r b l)(f c d e:M)(i:y l<=1000000000000)(a:ab)(j:cR)(h:M)(S:eV)(w:Y)(m:iU O w f c d e a j h S):Bt r b 316 #[aA f,aA c,aA d,aA e] (CS j l h) (oe O f c d e S) w:=by
 refine Bt.of (Xc O f c d e) ?_ ?_ ?_ ⟨a,j,h,S,rfl,rfl,m⟩;rintro o S w⟨a,j,h,g,rfl,rfl,k⟩;exact k.uh;rintro o S w p⟨a,j,h,g,rfl,rfl,k⟩n;exact⟨a,j,h,g,rfl,rfl,k.same n⟩;rintro o S w⟨a,j,h,g,rfl,rfl,k⟩n;exact MQ O k n i
def Iq(O:zt r b l)(w:Y)(a:O.inv w)(o:b<=z (G w))(hF:∀k,r.F k->k<b)(e:y l<=1000000000000):cY aZ 311 #[ar<|y l,.func (.func O.f) #[] O.cb] w λq j=>∃i f,q=aM i/\jf r b i l.flatten f j/\Below (z<|G w) w j/\(∀k,f k->O.S k\/z (G w)<=k):=by
 have n:=U a;have m:=U hF;clear a hF;go_in
 go_wp2;go_ret;have a:=J n;have g:Below (z<|G w) w (cN (cN (cN (cN w<|aw #[ar<|y l] 3)<|aw #[.func (.func O.f) #[] O.cb] 421)<|aw #[ar 0] 3)<|aw #[.nilFunc] 237):=((((Below.refl _ w).alloc (ah _) _).alloc (by simp) _).alloc (by simp;omega) _).alloc (by simp;omega) _;have p:Z ay w _:=Z.aR g;refine⟨_,oe O (z (G w)+1+1+1) (z (G w)+1+1) (z<|G w) (z (G w)+1) ay,rfl,⟨316,_,rfl,enters_of func316 (by kernel_rfl) rfl,?_⟩,g,?_⟩;refine Pv O _ _ _ _ e .nilFunc [] 0 _ _ ⟨aJ _ (by simp),?_,?_,?_,.inl ⟨rfl,rfl,λ_ c=>c⟩,O.eY w _ a<|p.same o (λk d=>⟨(O.lt w a k d).2,λc=>c⟩) cL,bP _,by simp;omega,m,⟨by omega,by omega,by omega,by omega⟩,by omega,by omega,by omega,by omega,by omega,cL,λk d=>?_⟩;exact eP.alloc (aJ _<|by simp) _;(grind[eP.alloc,aJ]);exact eP.alloc (eP.alloc (aJ _<|by simp) _) _;have:=(O.lt w a k d).2;grind
 rintro k(c|c|c|c|c|c);(grind);(grind);(grind);(grind);exact c.elim;exact .inl c
structure Hd where
 v:ab
 l:cR
 fr:E
 full:Bool
 ended:Bool
 S:M->Prop
def Hd.cells(h:Hd):gW:=[h.v,.string h.fr.key,.string h.fr.val,.bool h.fr.del,.int .u64 h.fr.bO,.bool h.full,.bool h.ended]
def eC(hs:cJ Hd):gW:=hs.flatMap Hd.cells
def Hd.rest(h:Hd):cR:=if h.full then h.fr::h.l else h.l
theorem mS(hs:cJ Hd):y (eC hs)=y hs*7:=by
 induction hs with
 |nil=>rfl
 |cons h r c=>unfold eC at*;rw[dU,af,c];simp[Hd.cells];omega
theorem ql(hs:cJ Hd)(i:M)(h:i<y hs):eC hs=eC (hs.take i)++(Hd.cells hs[i]++eC (hs.drop<|i+1)):=by
 have c:hs=hs.take i++hs[i]::hs.drop (i+1):=by rw[<-bG h,bV]
 conv=>lhs;rw[c]
 simp only[eC,fG,dU]
theorem sL(hs:cJ Hd)(i j:M)(h:i<y hs)(d:j<7):(eC hs)[i*7+j]?=(Hd.cells hs[i])[j]?:=by
 have c:y (eC<|hs.take i)=i*7:=by rw[mS];simp;omega
 rw[ql hs i h,eU (by omega),c,show i*7+j-i*7=j by omega,gp (by simp[Hd.cells];omega)]
theorem Jw(hs:cJ Hd)(i:M)(h:i<y hs)(x:Hd)(e:x.v=hs[i].v):(((((((eC hs).set (i*7+1)<|.string x.fr.key).set (i*7+2)<|.string x.fr.val).set (i*7+3)<|.bool x.fr.del).set (i*7+4)<|.int .u64 x.fr.bO).set (i*7+5)<|.bool x.full).set (i*7+6)<|.bool x.ended)=eC (hs.set i x):=by
 have d:y (eC<|hs.take i)=i*7:=by rw[mS];simp;omega
 have c:eC (hs.set i x)=eC (hs.take i)++(Hd.cells x++eC (hs.drop<|i+1)):=by rw[jg,dH h];simp only[eC,fG,dU]
 rw[c,ql hs i h];rw[gD _ _ (by omega),gD _ _ (by omega),gD _ _ (by omega),gD _ _ (by omega),gD _ _ (by omega),gD _ _ (by omega),d];rw[show i*7+1-i*7=1 by omega,show i*7+2-i*7=2 by omega,show i*7+3-i*7=3 by omega,show i*7+4-i*7=4 by omega,show i*7+5-i*7=5 by omega,show i*7+6-i*7=6 by omega];simp[Hd.cells,e]
theorem Gi(hs:cJ Hd)(i:M)(h:i<y hs)(x:Hd)(e:x={hs[i]with full:=x.full}):(eC hs).set (i*7+5) (.bool x.full)=eC (hs.set i x):=by
 have d:y (eC<|hs.take i)=i*7:=by rw[mS];simp;omega
 have c:eC (hs.set i x)=eC (hs.take i)++(Hd.cells x++eC (hs.drop<|i+1)):=by rw[jg,dH h];simp only[eC,fG,dU]
 rw[c,ql hs i h,gD _ _ (by omega),d,show i*7+5-i*7=5 by omega];rw[e];simp[Hd.cells]
structure TT(V:iV)(n0:M)(w:Y)(h:Hd):Prop where
 gives:h.ended=aX->jf V n0 h.v h.l h.S w
 own:vi V n0 h.S w
 done:h.ended=ci->h.l=[]/\h.full=aX
theorem TT.same{V:iV}{n0:M}{w w':Y}{h:Hd}(o:TT V n0 w h)(hs:kO V n0 h.S w w'):TT V n0 w' h:=⟨λe=>(o.gives e).same hs,o.own.same hs,o.done⟩
structure jr(V:iV)(n0:M)(w:Y)(b a:M)(hs:cJ Hd):Prop where
 box:eP w b (bD a 0 (y hs)<|y hs) 366
 row:w.heap[a]?=H (.cells (eC hs).toArray 368 (0,0))
 each:∀i(hi:i<y hs),TT V n0 w hs[i]
 size:n0<=z (G w)
 aI:∀k,V.F k->k<n0
 own:n0<=b/\n0<=a
 bh:b≠a
 nS:∀i(hi:i<y hs)k,hs[i].S k->k≠b/\k≠a
 MG:∀i j(hi:i<y hs)(hj:j<y hs),i≠j->∀k,hs[i].S k->¬hs[j].S k
def lJ(b a:M)(hs:cJ Hd)(k:M):Prop:=k=b\/k=a\/∃i,∃c:i<y hs,hs[i].S k
section
variable{V:iV}{n0:M}{w w':Y}{b a:M}{hs:cJ Hd}
theorem jr.uh(h:jr V n0 w b a hs):vi V n0 (lJ b a hs) w:=⟨h.size,h.aI,by
 rintro k(rfl|rfl|⟨i,c,d⟩)
 .exact⟨h.own.1,ak h.box⟩
 .exact⟨h.own.2,ak h.row⟩
 .exact(h.each i c).own.each k d⟩
theorem jr.same(h:jr V n0 w b a hs)(c:kO V n0 (lJ b a hs) w w'):jr V n0 w' b a hs:=⟨h.box.same c<|.inl rfl,(c.2 a<|.inr<|.inr<|.inl rfl).trans h.row,λi d=>(h.each i d).same<|c.mono<|λ_ e=>.inr<|.inr ⟨i,d,e⟩,aC h.size c.1,h.aI,h.own,h.bh,h.nS,h.MG⟩
theorem jr.apart{T:eV}(h:jr V n0 w b a hs)(f:Z T w w')(e:∀k,T k->¬lJ b a hs k/\(k<n0->V.F k)):jr V n0 w' b a hs:=h.same<|f.same h.size (λk c=>⟨(h.uh.each k c).2,λg=>(e k g).1 c⟩)<|λk c d=>(e k c).2 d
theorem jr.laid(h:jr V n0 w b a hs)(o:Obj):jr V n0 (cN w o) b a hs:=h.apart ((Z.refl ay w).alloc o) cL
theorem jr.put(h:jr V n0 w b a hs)(l:M)(j:l<y hs)(B:Hd)(x:Z (λk=>(hs[l].S k\/V.F k)\/k=a) w w')(C:w'.heap[a]?=H (.cells (eC<|hs.set l B).toArray 368 (0,0)))(D:TT V n0 w' B)(r:∀k,B.S k->hs[l].S k\/z (G w)<=k):jr V n0 w' b a (hs.set l B):=by
 have hF:∀k,n0<=k->¬V.F k:=λk c d=>by have:=h.aI k d;omega
 have s:eP w' b (bD a 0 (y hs)<|y hs) 366:=by refine(x.block b (ak h.box) ?_).trans h.box;rintro((d|d)|d);exact(h.nS l j b d).1 rfl;exact hF b h.own.1 d;exact h.bh d
 refine⟨by rw[iE];exact s,C,λo t=>?_,aC h.size x.size,h.aI,h.own,h.bh,λo t k c=>?_,λn m u v i k c=>?_⟩;rw[lT];split;exact D;rename_i i;(have e:o<y hs:=by simpa using t);refine(h.each o e).same<|x.same h.size (λk c=>⟨((h.each o e).own.each k c).2,?_⟩)<|λk c g=>?_;rintro((d|d)|d);exact h.MG l o j e i k d c;exact hF k ((h.each o e).own.each k c).1 d;exact(h.nS o e k c).2 d;rcases c with(d|d)|d;have:=((h.each l j).own.each k d).1;omega;exact d;have:=h.own.2;omega;rw[lT]at c;split at c;(rcases r k c with d|d;exact h.nS l j k d;have e:=ak h.box;have g:=ak h.row;grind);exact h.nS o (by simpa using t) k c;rw[lT]at c|-;(have e:n<y hs:=by simpa using u);(have g:m<y hs:=by simpa using v);split at c;rename_i q;have A:¬l=m:=λd=>i<|q.symm.trans d;rw[dF A];rcases r k c with d|d;exact h.MG l m j g A k d;intro c2;have:=((h.each m g).own.each k c2).2;omega;rename_i q;split;intro c2;rcases r k c2 with d|d;exact h.MG l n j e q k d c;have:=((h.each n e).own.each k c).2;omega;exact h.MG n m e g i k c
end
def wE{d:cJ Hd}(h:a.heap[b]?=H (.cells (eC d).toArray 368 (0,0)))(i:M)(e:i<y d):(aW a (R b<|i*7+1)=H (.string d[i].fr.key)/\aW a (R b<|i*7+1+1)=H (.string d[i].fr.val)/\aW a (R b<|i*7+1+2)=H (.bool d[i].fr.del)/\aW a (R b<|i*7+1+3)=H (.int .u64 d[i].fr.bO)/\aW a (R b<|i*7+5)=H (.bool d[i].full)/\aW a (R b<|i*7+6)=H (.bool d[i].ended))/\∀o,a.frozen? (R b o)=aX:=by
 have c:∀j,j<7->aW a (R b<|i*7+j)=(Hd.cells d[i])[j]?:=λj f=>by rw[cg h];grind[sL]
 exact⟨⟨c 1 (by decide),by rw[bw];exact c 2 (by decide),by rw[bw];exact c 3 (by decide),by rw[bw];exact c 4 (by decide),c 5 (by decide),c 6<|by decide⟩,λo=>cP h⟩
def Lk(w:Y)(a i:M)(x:Hd):Y:=cq (cq (cq (cq (cq (cq w (R a<|i*7+1)<|.string x.fr.key) (R a<|i*7+1+1)<|.string x.fr.val) (R a<|i*7+1+2)<|.bool x.fr.del) (R a<|i*7+1+3)<|.int .u64 x.fr.bO) (R a<|i*7+5)<|.bool x.full) (R a<|i*7+6)<|.bool x.ended
def RJ(w:Y)(a i:M)(x:Hd):Z (λk=>k=a) w (Lk w a i x):=(((((gZ a w).setCell a _ _<|.inl rfl).setCell a _ _<|.inl rfl).setCell a _ _<|.inl rfl).setCell a _ _<|.inl rfl).setCell a _ _<|.inl rfl
def UK{c:cJ Hd}(h:a.heap[b]?=H (.cells (eC c).toArray 368 (0,0)))(i:M)(d:i<y c)(x:Hd)(e:x.v=c[i].v):(Lk a b i x).heap[b]?=H (.cells (eC<|c.set i x).toArray 368 (0,0)):=by
 refine(aH<|aH<|aH<|aH<|aH<|aH h).trans ?_;simp only[dd];rw[<-Jw c i d x e]
def MB{e:cJ Hd}(p:jr r b a c g e)(l:M)(s:l<y e)(d:Hd)(D:Obj)(L:d.v=e[l].v)(A:Z (λk=>e[l].S k\/r.F k) a f)(u:r.D f)(v:f.heap[g]?=H (.cells (eC e).toArray 368 (0,0)))(K:d.ended=aX->jf r b d.v d.l d.S f)(h:vi r b d.S f)(m:d.ended=ci->d.l=[]/\d.full=aX)(w:∀k,d.S k->e[l].S k\/z (G a)<=k)(n:d.rest=e[l].rest)(B:d.full=ci\/d.ended=ci):r.D ((Lk f g l d).alloc D)/\Z (λk=>lJ c g e k\/r.F k) a ((Lk f g l d).alloc D)/\∃E:Hd,jr r b ((Lk f g l d).alloc D) c g (e.set l E)/\E.rest=e[l].rest/\(E.full=ci\/E.ended=ci)/\(∀k,E.S k->e[l].S k\/z (G a)<=k):=by
 have o:Z (λk=>k=g) f ((Lk f g l d).alloc D):=(RJ _ _ _ _).alloc _;have q:Z (λk=>(e[l].S k\/r.F k)\/k=g) a ((Lk f g l d).alloc D):=(A.mono (T:=λk=>(e[l].S k\/r.F k)\/k=g)<|λk j=>.inl<|.inl j).trans o<|λk j=>.inl<|.inr j;have C:((Lk f g l d).alloc D).heap[g]?=H (.cells (eC<|e.set l d).toArray 368 (0,0)):=by have:=UK v l s d L;grind[fU,ak]
 have x:∀k,d.S k->¬k=g:=λk j t=>by rcases w k j with N|N;exact(p.nS l s k N).2 t;have:=ak p.row;omega
 have i:=o.same (V:=r) (n0:=b) (S:=d.S) h.size (λk j=>⟨(h.each k j).2,x k j⟩) (λk j a=>by have:=p.own.2;omega);refine⟨r.eY u o (λk j F=>by have:=p.aI k F;have:=p.own.2;omega),q.mono ?_,d,p.put l s d q C ⟨λt=>(K t).same i,h.same i,m⟩ w,n,B,w⟩;rintro k((t|t)|t);exact .inl<|.inl<|.inr<|.inr ⟨l,s,t⟩;grind
 exact .inl<|.inl<|.inr<|.inl t
def Wb(e:cJ Hd)(k:M)(v:k<y e)(h:jr r b a c g e)(hD:r.D a):cY aZ 237 #[.pointer<|H<|R g<|k*7] a λav w'=>(av=.returned .nilIface/\r.D w'/\Z (λK=>lJ c g e K\/r.F K) a w'/\∃au:Hd,jr r b w' c g (e.set k au)/\au.rest=e[k].rest/\(au.full=ci\/au.ended=ci)/\(∀K,au.S K->e[k].S K\/z (G a)<=K))\/Dp r a w' (λK=>lJ c g e K\/r.F K) av (λaF=>aF):=by
 have j:∀d,d<7->aW a (R g<|k*7+d)=(Hd.cells e[k])[d]?:=λd f=>by rw[cg h.row];grind[sL]
 have F:=j 0 (by decide);have d:=j 5 (by decide);have f:=j 6 (by decide);have m:=U h;have HD:=U hD;have o:=h.each k v;clear h hD j;have x:e.set k e[k]=e:=List.set_getElem_self v;have t:=U x;clear x;cases hfu:e[k].full with
 |true=>
  simp only[Hd.cells,hfu]at d F;simp at d;have l:=U hfu;clear hfu o f F;go_in
  go_wp2;go_ret;refine .inl ⟨rfl,HD,Z.refl _ _,e[k],?_,rfl,.inl l,λK T=>.inl T⟩;rw[J t];exact m
 |false=>
  cases hen:e[k].ended with
  |true=>
   simp only[Hd.cells,hfu,hen]at d F f;simp at d f;have l:=U hfu;have L:=U hen;clear hfu hen o F;go_in
   go_wp2;go_ret;refine .inl ⟨rfl,HD,Z.refl _ _,e[k],?_,rfl,.inr L,λK T=>.inl T⟩;rw[J t];exact m
  |false=>
   obtain⟨ax,cb,C,eg,w⟩:=o.gives hen;simp only[Hd.cells,hfu,hen,C]at d F f;simp at d f F;obtain⟨l,L,ao,al⟩:=fY hfu hen C<|show Enters aZ ax from eg;clear hfu hen o C;have hc:=w.call HD;clear w;go_in
   go_wp2_with fail
   refine hc.mono ?_;rintro av w1⟨W,P,B⟩;have p:w1.heap[g]?=H (.cells (eC e).toArray 368 (0,0)):=(B.block g (ak m.row)<|λD=>D.elim (λD=>(m.nS k v g D).2 rfl) (λD=>by have:=m.aI g D;have:=m.own.2;omega)).trans m.row;obtain⟨⟨c1,c2,c3,c4,c5,c6⟩,i⟩:=wE p k v;have g1:=i<|k*7+1;have g2:=i<|k*7+1+1;have g3:=i<|k*7+1+2;have g4:=i<|k*7+1+3;have g5:=i<|k*7+5;have g6:=i<|k*7+6;have ap:=ak p;obtain⟨N,A,n⟩:=dz p P B;clear p i P B hc;rcases W with⟨ev,rfl,⟨V,rfl⟩|⟨hX,q,rfl,hq⟩⟩|⟨⟨ac,ad,aa,s⟩,aD,S1,V,rfl,S,Q⟩
   .have HL:=U V;clear V;unfold bE wo;go_wp2;go_ret;have u:=J m;refine .inl ⟨rfl,MB u k v ⟨e[k].v,[],zE,aX,ci,e[k].S⟩ _ rfl n A N (λD=>by cases D) ((u.each k v).own.aj n) (λ_=>⟨rfl,rfl⟩) (λK T=>.inl T) ?_<|.inr rfl⟩;unfold Hd.rest;rw[J l,J HL];rfl
   .have u:=U hq;clear hq;unfold bE wo;go_wp2;go_ret;refine .inr ⟨hX,q,rfl,u.aj (cF ay w1) cL,r.eY A (cF ay w1) cL,(n.mono ?_).alloc _⟩;rintro K(D|D)
    .exact .inl<|.inl<|.inr<|.inr ⟨k,v,D⟩
    .exact .inl<|.inr D
   .obtain⟨HL,an,O⟩:=dz V S Q;clear V S Q;unfold E.value;simp only;go_wp2;go_ret;have u:=J O;refine .inl ⟨rfl,MB m k v ⟨e[k].v,aD,⟨ac,ad,aa,s⟩,ci,aX,S1⟩ _ rfl n A N (λ_=>⟨ax,cb,ao,al,u⟩) u.own (λD=>by cases D) an ?_<|.inl rfl⟩;unfold Hd.rest;rw[J l,J HL];rfl
def FE:Option M->X
 |none=>-1
 |some b=>b
def jR(a:cJ Hd):dS:=a.map Hd.rest
def RD(a:cJ Hd)(i:M)(e:i<y a)(x:Hd)(b:x.rest=a[i].rest):jR (a.set i x)=jR a:=by
 unfold jR;rw[sD,b];refine List.ext_getElem (by simp)<|λj c d=>?_;rw[lT];grind
def xU{a:cJ Hd}(c:b<y a):lM (jR a) b=a[b].rest.head?:=by
 unfold lM jR;simp[c]
theorem FM{a:cJ Hd}(h:g<y a){x:Hd}(f:∀k,x.S k->a[g].S k\/m<=k):∀k,lJ b c (a.set g x) k->lJ b c a k\/m<=k:=by
 rintro k(d|d|⟨j,i,d⟩);exact .inl<|.inl d;exact .inl<|.inr<|.inl d;rw[lT]at d;split at d;rcases f k d with e|e;exact .inl<|.inr<|.inr ⟨g,h,e⟩;exact .inr e;exact .inl<|.inr<|.inr ⟨j,by simpa using i,d⟩
def wI(w:Y)(q:M):Z ay w (w.drewN q):=⟨rfl,rfl,rfl,ah _,λ_ _ _=>rfl⟩
def JS(h:lM l b=H w)(a:kN l b=none):kN l (b+1)=H b:=by
 unfold kN;rw[h,a]
def JR{f:E}(h:lM l b=H w)(a:kN l b=H c)(d:lM l c=H f):kN l (b+1)=if ahead w f then H b else H c:=by
 conv=>lhs;unfold kN
 rw[h,a];grind
def Fi{a:cJ Hd}{x:Hd}(h:∀j(c:j<y a),j<b->a[j].full=ci\/a[j].ended=ci)(d:x.full=ci\/x.ended=ci):∀j(c:j<y (a.set b x)),j<b+1->(a.set b x)[j].full=ci\/(a.set b x)[j].ended=ci:=by
 grind
def WX(V:iV)(d b c N:M)(l:cR)(S:eV)(w:Y):Prop:=∃a,l=cQ (jR a)/\S=lJ b c a/\y a=N/\jr V d w b c a
def LF(e:cJ Hd)(h:jr r b a c g e)(hD:r.D a)(hn:y e<=1000000000000):cY aZ 236 #[aA c] a (Out r (WX r b c g<|y e) (cQ<|jR e) (lJ c g e) a):=by
 have bb:=h.uh;have cb:=ak h.box;have cd:=h.box.cell;obtain⟨j,HH,HD⟩:=dz bb h hD;clear h hD bb;go_in
 go_wp2;go_loopw [4,9] (λf aF wr=>∃(s:M)(d:cJ Hd),s<=y e/\aF=.int .i64 s/\f=.int .i64 (FE<|kN (jR e) s)/\jr r b wr c g d/\y d=y e/\jR d=jR e/\(∀bt(hj:bt<y d),bt<s->d[bt].full=ci\/d[bt].ended=ci)/\r.D wr/\Z (λl=>lJ c g e l\/r.F l) a wr/\iM wr (z<|G a) zE/\(∀l,lJ c g d l->lJ c g e l\/z (G a)+1<=l)) (λ_ aF _=>y e-(intOf aF).toNat)
 (case atStart=>have h:=J HH;exact⟨0,e,bP _,rfl,rfl,h.laid _,rfl,rfl,λbt _ hj=>by omega,r.eY HD (cF ay a) cL,(cF _ _),aJ _ rfl,λl n=>.inl n⟩)
 case round=>
  obtain⟨s,d,ce,rfl,rfl,x,ac,L,P,D,hT,O,hS⟩:=hrel;have bL:=x.box.cell;rw[ac]at bL;by_cases bn:s<y e
  .have ax:=Wb d s (by omega) x D;obtain⟨HA,bu,aV,HT,HE,HS⟩:=lf x L P hT O hS;clear x D hT O hS L P;obtain⟨bo,o⟩:∃bo,kN (jR e) s=bo:=⟨_,rfl⟩;rw[o];have V:=U o;clear o;go_wp2_with fail
   refine ax.mono ?_;rintro cc w1(⟨rfl,N,F,aU,hA1,bp,bq,br⟩|⟨hX,q,rfl,hq,N,F⟩);rotate_left
   .have al:=ak HE;have A:iM w1 (z<|G a) zE:=HE.aj F (by
     rintro(t|t)
     .rcases HS _ t with aa|aa
      .have:=(j.each _ aa).2;omega
      .omega
     .have:=j.aI _ t;have:=j.size;omega)
    obtain⟨bc,bd,bf,bg⟩:=A.cells;have bi:=A.free (i:=0);have bk:=A.free (i:=1);have bl:=A.free (i:=2);have bm:=A.free (i:=3);obtain⟨Q,HQ,ap,W⟩:=fY A hq N F;clear A hq N F;go_wp2;refine ct (fD rfl _ _ (z<|G a) zE _ _ rfl<|Q.put zE) rfl ?_;have p:Z (λl=>l=z (G a)) w1 (vH w1 (z<|G a) zE):=iL _ _ _;refine⟨.inl ⟨_,rfl,.inr ⟨hX,q,rfl,HQ.aj p Q.sep⟩⟩,r.eY ap p (λl n hf=>by have:=j.aI l hf;have:=j.size;omega),(HT.trans W ?_).trans p<|λl n=>.inr<|by omega⟩;rintro l(t|t)
    .rcases HS l t with aa|aa
     .exact .inl<|.inl aa
     .exact .inr<|by omega
    .exact .inl<|.inr t
   obtain⟨ap,W,u,bv,au,bx⟩:=lf N F hA1 bp bq br;clear N F hA1 bp bq br;go_wp2;have ao:s<y d:=by omega
   have aD:s<y (d.set s aU):=by simp_all
   obtain⟨⟨c1,c2,c3,c4,c5,c6⟩,K⟩:=wE u.row s aD;rw[qy]at c1 c2 c3 c4 c5 c6;have bE:=u.box.cell;rw[iE,ac]at bE;have T:jR (d.set s aU)=jR e:=(RD d s ao aU bv).trans bu;have bh:lM (jR e) s=aU.rest.head?:=by rw[<-T,xU aD,qy]
   have ad:=U T;have ba:=U bh;clear T bh K;have ca:z (G a)<z (G wr):=ak HE;have an:∀(av:Y)(Q:X),Z ay w1 av->FE (kN (jR e)<|s+1)=Q->∃(i:M)(f:cJ Hd),i<=y e/\Value.int .i64 ((s:X)+1)=.int .i64 i/\Value.int .i64 Q=.int .i64 (FE<|kN (jR e) i)/\jr r b av c g f/\y f=y e/\jR f=jR e/\(∀bt(hj:bt<y f),bt<i->f[bt].full=ci\/f[bt].ended=ci)/\r.D av/\Z (λl=>lJ c g e l\/r.F l) a av/\iM av (z<|G a) zE/\(∀l,lJ c g f l->lJ c g e l\/z (G a)+1<=l):=by
    intro av Q A al;refine⟨s+1,d.set s aU,bn,rfl,by rw[al],u.apart A cL,by rw[iE];exact ac,ad,Fi aV au,r.eY ap A cL,?_,?_,?_⟩
    .refine((HT.trans W ?_).cz A);rintro l(t|t)
     .rcases HS l t with aa|aa
      .simp_all
      .exact .inr<|by omega
     simp_all
    .refine(HE.aj W ?_).aj A<|λt=>t;rintro(t|t)
     .rcases HS _ t with aa|aa
      .have:=(j.each _ aa).2;omega
      .omega
     .have:=j.aI _ t;have:=j.size;omega
    .intro l n;rcases FM ao bx l n with aa|aa
     .exact HS l aa
     .exact .inr<|by omega
   have C:=U an;clear an ca;cases hfu:aU.full with
   |false=>
    rw[hfu]at c5;have al:aU.ended=ci:=au.resolve_left (by rw[hfu];simp);have av:=(u.each s aD).done;rw[qy]at av;have bs:=av al;have Q:lM (jR e) s=none:=by rw[J ba];unfold Hd.rest;rw[hfu,bs.1];rfl
    have A:kN (jR e) (s+1)=bo:=by unfold kN;rw[Q];exact V
    have HB:=U A;clear A Q bs av al hfu;go_quiet(fail)
    go_wp2;go_roundw;case rel=>exact C _ _ (wI _ _)<|by rw[J HB]
    case measure=>simp[intOf];omega
   |true=>
    rw[hfu]at c5;have K:lM (jR e) s=H aU.fr:=by rw[J ba];unfold Hd.rest;rw[hfu];rfl
    cases bo with
    |none=>
     have HB:=U<|JS K V;clear K hfu;simp only[FE];go_quiet(fail)
     go_wp2;go_roundw;case rel=>exact C _ _ (wI _ _) (by rw[J HB];rfl)
     case measure=>simp[intOf];omega
    |some k=>
     obtain⟨bT,fb,B,_⟩:=uH V;have HB:=U<|JR K V B;have m:k<y (d.set s aU):=by omega
     have i:(d.set s aU)[k].rest.head?=H fb:=by rw[<-xU m,J ad];exact B
     have f:(d.set s aU)[k].full=ci:=by
      rcases Fi aV au k m (by omega)with t|t
      .exact t
      .have:=(u.each k m).done t;unfold Hd.rest at i;rw[this.2,this.1]at i;cases i
     have w:(d.set s aU)[k].fr=fb:=by
      unfold Hd.rest at i;rw[f]at i;simp_all
     obtain⟨⟨d1,d2,d3,d4,_,_⟩,_⟩:=wE u.row k m;rw[w]at d1 d2 d3 d4;have A:=Cp aU.fr fb;have av:=ak u.row;have al:=ak u.box;generalize aU.fr=xf at*;obtain⟨xk,xv,xd,Q⟩:=xf;obtain⟨fk,fv,fd,v⟩:=fb;simp only at c1 c2 c3 c4 d1 d2 d3 d4;simp only[E.value]at A;clear K hfu B i f w c6;simp only[FE];have i1:(0:X)<=(k:X):=by omega
     have i2:(k:X)<(y e:X):=by omega
     have i3:k<y e:=by omega
     have i4:¬(k:X)<0:=by omega
     have i5:(0:X)<=(s:X):=by omega
     have i6:(s:X)<(y e:X):=by omega
     cases hax:ahead ⟨xk,xv,xd,Q⟩ ⟨fk,fv,fd,v⟩with
     |true=>
      rw[hax]at HB A;go_region_held3(λa=>aW a (R c 0)=H (bD g 0 (y e)<|y e)/\aW a (R g<|s*7+5)=H (.bool ci)/\(aW a (R g<|s*7+1)=H (.string xk)/\aW a (R g<|s*7+1+1)=H (.string xv)/\aW a (R g<|s*7+1+2)=H (.bool xd)/\aW a (R g<|s*7+1+3)=H (.int .u64 Q))/\(aW a (R g<|k*7+1)=H (.string fk)/\aW a (R g<|k*7+1+1)=H (.string fv)/\aW a (R g<|k*7+1+2)=H (.bool fd)/\aW a (R g<|k*7+1+3)=H (.int .u64 v))) (first|assumption|go_keep) (first
       |(go_at_call 212;refine(A _).mono ?_;rintro cc w2⟨rfl,rfl⟩))
      go_wp2;go_roundw;case rel=>
       refine C _ _ ?_ (by rw[J HB];rfl);exact(((cF ay w1).alloc _)).cz<|wI _ 1
      case measure=>simp[intOf];omega
     |false=>
      rw[hax]at HB A;go_region_held3(λa=>aW a (R c 0)=H (bD g 0 (y e)<|y e)/\aW a (R g<|s*7+5)=H (.bool ci)/\(aW a (R g<|s*7+1)=H (.string xk)/\aW a (R g<|s*7+1+1)=H (.string xv)/\aW a (R g<|s*7+1+2)=H (.bool xd)/\aW a (R g<|s*7+1+3)=H (.int .u64 Q))/\(aW a (R g<|k*7+1)=H (.string fk)/\aW a (R g<|k*7+1+1)=H (.string fv)/\aW a (R g<|k*7+1+2)=H (.bool fd)/\aW a (R g<|k*7+1+3)=H (.int .u64 v))) (first|assumption|go_keep) (first
       |(go_at_call 212;refine(A _).mono ?_;rintro cc w2⟨rfl,rfl⟩))
      go_wp2;go_roundw;case rel=>
       refine C _ _ ?_ (by rw[J HB];rfl);exact(((cF ay w1).alloc _)).cz<|wI _ 1
      case measure=>simp[intOf];omega
  .have bu:s=y e:=by omega
   subst bu;obtain⟨bo,o⟩:∃bo,kN (jR e) (y e)=bo:=⟨_,rfl⟩;rw[o];cases bo with
   |none=>
    have hm:=yg (hs:=jR e) (by rw[show y (jR e)=y e by simp[jR]];exact o);have A:=U hm;have u:=U D;have HT:=U hT;have HE:=U O;obtain⟨bc,bd,bf,bg⟩:=O.cells;have bi:=O.free (i:=0);have bk:=O.free (i:=1);have bl:=O.free (i:=2);have bm:=O.free (i:=3);clear hm o x D hT O hS L P;simp only[FE];go_wp2;refine ct (fD rfl _ _ (z<|G a) zE _ _ rfl<|HE.put zE) rfl ?_;have p:Z (λl=>l=z (G a)) wr (vH wr (z<|G a) zE):=iL _ _ _;exact⟨.inl ⟨_,rfl,.inl ⟨A,rfl⟩⟩,r.eY u p (λl n hf=>by have:=j.aI l hf;have:=j.size;omega),HT.trans p<|λl n=>.inr<|by omega⟩
   |some k=>
    have aD:y (jR e)=y e:=by simp[jR]
    obtain⟨bT,fb,B,_⟩:=uH o;have hm:=yf (hs:=jR e) (by rw[aD];exact o) B;have m:k<y d:=by omega
    have i:d[k].rest.head?=H fb:=by rw[<-xU m,L];exact B
    have f:d[k].full=ci:=by
     rcases P k m (by omega)with t|t
     .exact t
     .have:=(x.each k m).done t;unfold Hd.rest at i;rw[this.2,this.1]at i;cases i
    have w:d[k].fr=fb:=by
     unfold Hd.rest at i;rw[f]at i;grind
    have A:d[k].ended=aX:=by
     cases t:d[k].ended with
     |false=>rfl
     |true=>have:=((x.each k m).done t).2;rw[f]at this;cases this
    obtain⟨⟨d1,d2,d3,d4,d5,_⟩,K⟩:=wE x.row k m;have g5:=K<|k*7+5;rw[w]at d1 d2 d3 d4;have Q:jR (d.set k {d[k]with full:=aX})=(jR e).modify k List.tail:=by
     rw[<-L];unfold jR;rw[sD];refine List.ext_getElem (by simp)<|λbt h1 h2=>?_;rw[lT,List.getElem_modify];split
     .rename_i cc;subst cc;simp[Hd.rest,f]
     .simp
    have C:(cq wr (R g<|k*7+5)<|.bool aX).heap[g]?=H (.cells (eC<|d.set k {d[k]with full:=aX}).toArray 368 (0,0)):=by
     refine(aH x.row).trans ?_;simp only[dd];rw[<-Gi d k m {d[k]with full:=aX} rfl]
    have aV:Z (λl=>(d[k].S l\/r.F l)\/l=g) wr (cq wr (R g<|k*7+5)<|.bool aX):=(Z.refl (λl=>(d[k].S l\/r.F l)\/l=g) wr).setCell g _ _<|.inl<|.inr rfl;have F:Z (λl=>l=g) wr (cq wr (R g<|k*7+5)<|.bool aX):=(gZ g wr);have N:TT r b (cq wr (R g<|k*7+5)<|.bool aX) {d[k]with full:=aX}:=by
     have al:=x.each k m;have aU:=F.same (V:=r) (n0:=b) (S:=d[k].S) x.size (λl n=>⟨(al.own.each l n).2,λt=>(x.nS k m l n).2 t⟩) (λl n bn=>by have:=x.own.2;omega);exact⟨λt=>(al.gives A).same aU,al.own.same aU,λt=>by rw[A]at t;cases t⟩
    have T:=x.put k m {d[k]with full:=aX} aV C N (λl n=>.inl n);have ax:¬z (G a)=g:=λt=>by have:=ak HH.row;omega
    have bv:¬g=z (G a):=λt=>ax t.symm;have u:iM (cq wr (R g<|k*7+5)<|.bool aX) (z<|G a) zE:=O.aj F ax;obtain⟨bc,bd,bf,bg⟩:=u.cells;have bi:=u.free (i:=0);have bk:=u.free (i:=1);have bl:=u.free (i:=2);have bm:=u.free (i:=3);have V:∀l,lJ c g (d.set k {d[k]with full:=aX}) l->lJ c g e l\/z (G a)+1<=l:=by
     grind[FM]
    have au:Z (λl=>lJ c g e l\/r.F l) a (cq wr (R g<|k*7+5)<|.bool aX):=hT.trans F<|λl n=>.inl<|.inl<|.inr<|.inl n;have ap:=r.eY D F (λl n hf=>by have:=j.aI l hf;have:=j.each g<|.inr<|.inl rfl;omega);have ad:cQ (jR e)=fb::cQ (jR<|d.set k {d[k]with full:=aX}):=by rw[Q];exact hm
    have W:y (d.set k {d[k]with full:=aX})=y e:=by rw[iE];exact ac
    obtain⟨an,av⟩:∃an,an=d.set k {d[k]with full:=aX}:=⟨_,rfl⟩;rw[<-av]at T V ad W;obtain⟨ba,ao,br,bq,bs,bh,bp⟩:=zo T V ad W au ap u;have i1:(0:X)<=(k:X):=by omega
    have i2:(k:X)<(y e:X):=by omega
    have i3:k<y e:=by omega
    have i4:¬(k:X)<0:=by omega
    rw[f]at d5;clear hm B i f w A Q C aV F N T V au ap ad W u x D hT O hS L P o aD K av;obtain⟨fk,fv,fd,v⟩:=fb;simp only at d1 d2 d3 d4;simp only[FE];go_wp2;refine ct (fD rfl _ _ (z<|G a) ⟨fk,fv,fd,v⟩ _ _ rfl<|bp.put ⟨fk,fv,fd,v⟩) rfl ?_;have p:Z (λl=>l=z (G a)) (cq wr (R g<|k*7+5)<|.bool aX) (vH (cq wr (R g<|k*7+5)<|.bool aX) (z<|G a) ⟨fk,fv,fd,v⟩):=iL _ _ _;refine⟨.inr ⟨⟨fk,fv,fd,v⟩,_,_,br,rfl,λl n=>?_,an,rfl,rfl,bq,ba.apart p<|λl n=>?_⟩,r.eY bh p (λl n hf=>by have:=j.aI l hf;have:=j.size;omega),bs.trans p<|λl n=>.inr<|by omega⟩;rotate_left
    .subst n;refine⟨λt=>?_,λt=>by have:=j.size;omega⟩;rcases ao _ t with aa|aa
     .have:=(j.each _ aa).2;omega
     .omega
    .rcases ao l n with aa|aa
     .exact .inl aa
     .exact .inr<|by omega
def OA(V:iV)(f c d:M)(b:cJ Hd)(w:Y)(i:y b<=1000000000000)(a:jr V f w c d b):Bt V f 236 #[aA c] (cQ<|jR b) (lJ c d b) w:=by
 refine Bt.of (WX V f c d<|y b) ?_ ?_ ?_ ⟨b,rfl,rfl,rfl,a⟩;rintro l S w⟨h,rfl,rfl,_,a⟩;exact a.uh;rintro l S w j⟨h,rfl,rfl,e,a⟩g;exact⟨h,rfl,rfl,e,a.same g⟩;rintro l S w⟨h,rfl,rfl,e,a⟩g;rw[<-e];exact LF h a g<|by omega
def IN{P:Program}{t:TypeId}(i:a.heap[b]?=H (aw V t (0,0)))(g:V[c]?=H d)(v:ab)(h:v.oneCell'=ci):(store (R b c) v).run P a=.ok () (cq a (R b c) v):=by
 have e:aW a (R b c)=H d:=(cg i).trans g;have f:=cP (i:=c) i;rw[Bu P a _ _ _ h];simp[e,f]
def yV:Hd:=⟨.nilFunc,[],zE,aX,aX,λ_=>False⟩
def Jg(g:ab×cR×eV):Hd:=⟨g.1,g.2.1,zE,aX,aX,g.2.2⟩
def vf(a:cJ (ab×cR×eV))(n:M):cJ Hd:=(a.take n).map Jg++List.replicate (y a-n) yV
def CU(a:cJ (ab×cR×eV))(n:M)(h:n<=y a):y (vf a n)=y a:=by unfold vf;simp;omega
def SS(a:cJ (ab×cR×eV))(n:M)(h:n<y a):(vf a n).set n (Jg a[n])=vf a (n+1):=by
 unfold vf;have b:y a-n=(y a-(n+1))+1:=by omega
 rw[b,List.replicate_succ,gD _ _ (by simp;omega)];rw[ai h];have:n-y ((a.take n).map Jg)=0:=by simp;omega
 rw[this];grind
def Mn(a:cJ (ab×cR×eV))(n:M)(h:n<y a):(vf a n)[n]?=H yV:=by
 unfold vf;rw[eU (by simp;omega)];grind
def Gj(a:cJ Hd)(i:M)(h:i<y a)(x:Hd)(c:x.fr=a[i].fr)(d:x.full=a[i].full)(e:x.ended=a[i].ended):(eC a).set (i*7) x.v=eC (a.set i x):=by
 have f:y (eC<|a.take i)=i*7:=by rw[mS];simp;omega
 have b:eC (a.set i x)=eC (a.take i)++(Hd.cells x++eC (a.drop<|i+1)):=by rw[jg,dH h];simp only[eC,fG,dU]
 rw[b,ql a i h,gD _ _ (by omega),f,Aj];simp[Hd.cells,c,d,e]
def OC(n:M):(madeCells #[.nilFunc,am ⟨#[]⟩,am ⟨#[]⟩,aN aX,aE 0,aN aX,aN aX]<|n*7).toList=eC (List.replicate n yV):=by
 refine ut<|λj=>?_;by_cases c:j<n*7;(have a:j/7<y (List.replicate n yV):=by simp;omega);have b:=sL (List.replicate n yV) (j/7) (j%7) a (Nat.mod_lt _<|by decide);rw[show j/7*7+j%7=j by omega]at b;rw[b,List.getElem_replicate];have f:j%7<7:=Nat.mod_lt _ (by decide);(have d:(madeCells #[.nilFunc,am ⟨#[]⟩,am ⟨#[]⟩,aN aX,aE 0,aN aX,aN aX]<|n*7).toList[j]?=H ((#[.nilFunc,am ⟨#[]⟩,am ⟨#[]⟩,aN aX,aE 0,aN aX,aN aX]:Array ab)[j%7]!):=by unfold madeCells;simp[c]);rw[d];(have:j%7=0\/j%7=1\/j%7=2\/j%7=3\/j%7=4\/j%7=5\/j%7=6:=by omega);rcases this with e|e|e|e|e|e|e<;>rw[e]<;>rfl;grind[getElem?_eq_none,Array.length_toList,size_madeCells,mS]
def VH:(prog.info? 368).map (λi=>(i.zero,i.size,i.bytes))=H (H<|dC #[.nilFunc,am ⟨#[]⟩,am ⟨#[]⟩,aN aX,aE 0,aN aX,aN aX],7,64):=by kernel_rfl
def RV(p:a.ownsRow b c g (bD m 0 D D) D B):a.heap[m]?=H (aw B.toArray c (0,0)):=by
 obtain⟨q,⟨e,_⟩|⟨o,i,d,e,r,l,n,k,f,h⟩⟩:=p;cases e;cases e;(have j:d.toList=B:=by rw[<-h,eT (by rw[lR,f];grind)]);rw[l,<-j]
def Sj(bf:iV)(V:M)(b:cJ (ab×cR×eV))(hr:Row a 1 d (y b) (b.map (·.1)))(al:∀u,cK d=H u->u<z (G a))(hn:y b<=1000000000)(hg:∀j(s:j<y b),jf bf V b[j].1 b[j].2.1 b[j].2.2 a)(hd:∀j bh(s:j<y b)(hj:bh<y b),j≠bh->∀u,b[j].2.2 u->¬b[bh].2.2 u)(T:V<=z (G a))(hF:∀u,bf.F u->u<V):cY aZ 187 #[d] a λbk w'=>∃v' S',bk=aM v'/\jf bf V v' (cQ<|b.map (·.2.1)) S' w'/\Below (z<|G a) a w'/\(∀u,S' u->(∃j,∃s:j<y b,b[j].2.2 u)\/z (G a)<=u):=by
 obtain⟨i0,aU,bb,bc,bd⟩:=di VH;obtain⟨bo,bi,ba⟩:=bY hr;obtain⟨HR,ax,HG,au,HF⟩:=iO hr al hg hd hF;clear hr al hg hd hF;subst ba;go_in
 go_wp2_with(at_make;refine wpList_make_full _ rfl (.tmp 7) (.tmp 7) 366 rfl (z<|G a) 368 i0 (dC #[.nilFunc,am ⟨#[]⟩,am ⟨#[]⟩,aN aX,aE 0,aN aX,aN aX]) 7 underlying366 aU bb bc _ _ _ _ (y b) rfl rfl rfl rfl (by rw[bd];omega) (by unfold maxLen;omega) (ah _) ?_;intro B A x;have q:=RV A;have v:=U q;have av:=U x;clear A x q)
 have ad:=J av;have ao:z (G a)<z (G B):=ak v;have c:Below (z<|G a) a B:=(Below.refl _ a).grown ad (ah _) (by simp);have aa:=U<|c.alloc c.size<|aw #[bD (z<|G a) 0 (y b)<|y b] 366;have o:(cN B<|aw #[bD (z<|G a) 0 (y b)<|y b] 366).heap[z<|G a]?=H (aw (eC<|vf b 0).toArray 368 (0,0)):=by rw[fU _ ao,J v];(have bk:vf b 0=List.replicate (y b) yV:=by simp[vf]);rw[bk,<-OC];rfl
 have k:eP (cN B<|aw #[bD (z<|G a) 0 (y b)<|y b] 366) (z<|G B) (bD (z<|G a) 0 (y b)<|y b) 366:=aJ _ rfl;have L:=U o;have E:=U k;clear ad c o k;go_loopw [11] (λj wr=>∃n:M,n<=y b/\j=ar n/\wr.heap[z<|G a]?=H (aw (eC<|vf b n).toArray 368 (0,0))/\eP wr (z<|G B) (bD (z<|G a) 0 (y b)<|y b) 366/\Below (z<|G a) a wr) (λj _=>y b-(intOf j).toNat)
 case atStart=>exact⟨0,bP _,rfl,L,E,aa⟩
 case round=>
  obtain⟨n,an,rfl,f,g,c⟩:=hrel;have bl:=g.cell;obtain⟨N,F,C⟩:=dz f g c;by_cases i:n<y b
  .obtain⟨bg,cb,S,aD,aF⟩:=HG n i;have l:∀t e,bo=H (R t e)->aW wr (R t<|e+n)=H (.func (.func bg) #[] cb):=by
    intro t e W;obtain⟨h1,⟨Q,_⟩|⟨bq,ap,ac,Q,aV,hc⟩⟩:=J HR
    .rw[W]at Q;cases Q
    .rw[W]at Q;cases Q;refine(c.cell (p:=(R t<|e+n))<|ax t (by rw[W];rfl)).trans<|hc n _ ?_;rw[fq,aQ i];simp[S]
   obtain⟨t,e,W⟩:∃t e,bo=H (R t e):=by
    obtain⟨h1,⟨Q,w⟩|⟨bq,ap,ac,Q,aV,hc⟩⟩:=J HR
    .omega
    grind
   have bm:=l t e W;subst W;have m:(eC<|vf b n).toArray[n*7]?=H .nilFunc:=by
    have hl:n<y (vf b n):=by rw[CU b n an];exact i
    have:=sL (vf b n) n 0 hl (by decide);rw[List.getElem?_toArray];rw[kH]at this;rw[this];have w:=Mn b n i;rw[aQ hl]at w;cases h0':(vf b n)[n]with
    |mk bs br fr fu en bp=>
     rw[h0']at w;cases w;rfl
   have bn:=IN (P:=aZ) f m (.func (.func bg) #[] cb) rfl;have r:(cq wr (R (z<|G a)<|n*7)<|.func (.func bg) #[] cb).heap[z<|G a]?=H (aw (eC<|vf b<|n+1).toArray 368 (0,0)):=by
    have hl:n<y (vf b n):=by rw[CU b n an];exact i
    have w:(vf b n)[n]=yV:=by
     have:=Mn b n i;rw[aQ hl]at this;grind
    refine(aH f).trans ?_;simp only[dd];rw[<-SS b n i,<-Gj (vf b n) n hl (Jg b[n]) (by rw[w];rfl) (by rw[w];rfl) (by rw[w];rfl)];simp only[Jg,S]
   obtain⟨O,K,D⟩:=dz r (g.other (b':=z<|G a) (i:=n*7) (.func (.func bg) #[] cb)<|by omega)<|c.setCell (p:=(R (z<|G a)<|n*7)) (ah _)<|.func (.func bg) #[] cb;clear f g c m r l aD aF S;go_wp2;go_roundw;case rel=>exact⟨n+1,i,by go_num,O,K,D⟩
   case measure=>simp[intOf];omega
  .have K:n=y b:=by omega
   subst K;clear f g c;go_wp2;go_ret;have f:=J N;have g:=J F;have c:=J C;have w:vf b (y b)=b.map Jg:=by simp[vf]
   rw[w]at f;have Q:Z ay a wr:=Z.aR c;have hg:=J HG;have O:jR (b.map Jg)=b.map (·.2.1):=by unfold jR;rw[gG];rfl
   refine⟨_,lJ (z<|G B) (z<|G a)<|b.map Jg,rfl,⟨236,_,rfl,enters_of func236 (by kernel_rfl) rfl,?_⟩,c,?_⟩
   .rw[<-O];refine OA bf V (z<|G B) (z<|G a) (b.map Jg) wr (by simp;omega) ⟨by grind,f,λj s=>?_,aC T c.size,HF,⟨by omega,T⟩,by omega,λj s u m=>?_,λj bh s hj D u m=>?_⟩
    .have l:j<y b:=by simpa using s
     have e:=hg j l;have r:=Q.same (V:=bf) (n0:=V) (S:=b[j].2.2) T (λu m=>⟨(e.own.each u m).2,λt=>t⟩) cL;rw[kQ];exact⟨λ_=>e.same r,e.own.same r,λt=>by cases t⟩
    .have l:j<y b:=by simpa using s
     rw[kQ]at m;have:=((hg j l).own.each u m).2;grind
    .rw[kQ]at m|-;exact au j bh (by simpa using s) (by simpa using hj) D u m
   .rintro u(t|t|⟨j,s,t⟩)
    .grind
    .grind
    .rw[kQ]at t;exact .inl ⟨j,by simpa using s,t⟩
def lK(V:iV)(e:M)(i:ab)(g:cR)(w:Y):Prop:=∃t v h oN,i=.iface t v/\(∀w,(Go.method 541 t v "From").run aZ w=.ok (h,oN) w)/\Enters aZ h/\∀d b,kO V e ay w b->V.D b->cY aZ h #[oN,am d] b λj a=>∃f c,j=aM f/\jf V e f (fZ d g) c a/\V.D a/\Z V.F b a/\(∀k,c k->z (G b)<=k)
def VF:(prog.info? 237).map (λi=>(i.zero,i.size,i.bytes))=H (H .nilFunc,1,8):=by kernel_rfl
def vQ(w:Y)(v:ab)(t:TypeId):∀j u,[v][j]?=H u->aW (cN w<|aw #[v] t) (((R (z<|G w) 0):Addr).add j)=H u:=by
 intro j u a;rw[dB];simp_all
def Va(h:d.oneCell'=ci):∀u∈[d],u.oneCell'=ci:=by
 grind
structure Bm(V:iV)(n0:M)(w0 w:Y)(lo:ae)(Rqq:cJ (ab×cR))(o:ab)(Gqq:cJ (ab×cR×eV)):Prop where
 own:w.ownsRow (z<|G w0) 237 1 o (y Gqq) (Gqq.map (·.1))
 gives:∀i(hi:i<y Gqq),jf V n0 Gqq[i].1 Gqq[i].2.1 Gqq[i].2.2 w
 rows:Gqq.map (·.2.1)=(Rqq.take<|y Gqq).map (λr=>fZ lo r.2)
 MG:∀i j(hi:i<y Gqq)(hj:j<y Gqq),i≠j->∀k,Gqq[i].2.2 k->¬Gqq[j].2.2 k
 apart:∀i(hi:i<y Gqq)k,Gqq[i].2.2 k->z (G w0)<=k/\cK o≠H k
 aI:V.D w
 aj:Z V.F w0 w
def Bm.next{D:Y}{h:cJ (ab×cR)}{e:cJ (ab×cR×eV)}(w:Bm r b a f t h d e)(o:y e<y h)(hn:b<=z (G a))(hF:∀k,r.F k->k<b)(Q:Z r.F f A)(K:jf r b L (fZ t h[y e].2) p A)(hD:r.D A)(F:∀k,p k->z (G f)<=k){ob:Obj}(hw:eE (cN A ob) D d s)(W:D.ownsRow (z<|G a) 237 1 s (y e+1) (e.map (·.1)++[L])):Bm r b a D t h s (e++[(L,fZ t h[y e].2,p)]):=by
 have P:=w.aj.size;have q:∀k,cK d=H k->z (G a)<=k/\k<z (G f):=λk c=>w.own.lt k c;have C:∀k,b<=k->¬r.F k:=λk c a=>by have:=hF k a;omega
 have j:Z (λk=>cK d=H k) A D:=(((Z.refl (λk=>cK d=H k) A).alloc ob).trans (Z.ee (S:=λk=>cK d=H k) hw.grown<|λk c=>.inl c)<|λk c=>.inl c);have V:Z (λk=>r.F k\/cK d=H k) f D:=(Q.mono (T:=λk=>r.F k\/cK d=H k)<|λk c=>.inl<|.inl c).trans j<|λk c=>.inl<|.inr c;have i:∀l(u:l<y (e++[(L,fZ t h[y e].2,p)])),(∃g:l<y e,(e++[(L,fZ t h[y e].2,p)])[l]=e[l])\/(l=y e/\(e++[(L,fZ t h[y e].2,p)])[l]=(L,fZ t h[y e].2,p)):=by grind
 have O:∀k,(k<z (G A)/\cK d≠H k)->cK s≠H k:=by rintro k⟨E,h2⟩m;rcases hw.vp with v|⟨ac,v,n⟩;(grind);rw[v]at m;cases m;simp at n;omega
 have B:∀k,p k->k<z (G A):=λk c=>(K.own.each k c).2;refine⟨by grind,λl u=>?_,?_,λl aa u hj N k c=>?_,λl u k c=>?_,?_,?_⟩;rcases i l u with⟨g,m⟩|⟨_,m⟩;(rw[m];have n:=w.gives l g;refine n.same<|V.same (aC hn P) (λk c=>⟨(n.own.each k c).2,?_⟩)<|λk c o=>?_;rintro(v|v);exact C k (n.own.each k c).1 v;exact(w.apart l g k c).2 v;grind);rw[m];refine K.same<|j.same K.own.size (λk c=>⟨B k c,λv=>?_⟩)<|λk c o=>?_;have:=F k c;have:=(q k v).2;omega;grind
 rw[aP,w.rows];simp only[cy,gR,af,aY,dG,dE];rw[ai o,aP];rfl;rcases i l u with⟨g,m⟩|⟨ei,m⟩<;>rcases i aa hj with⟨n,E⟩|⟨ej,E⟩;rw[m]at c;rw[E];exact w.MG l aa g n N k c;rw[m]at c;rw[E];intro v;have:=F k v;have:=((w.gives l g).own.each k c).2;omega;rw[m]at c;rw[E];intro v;have:=F k c;have:=((w.gives aa n).own.each k v).2;omega;omega;rcases i l u with⟨g,m⟩|⟨_,m⟩;rw[m]at c;have:=((w.gives l g).own.each k c).2;have n:=Q.size;exact⟨(w.apart l g k c).1,O k ⟨by omega,(w.apart l g k c).2⟩⟩;rw[m]at c;have:=F k c;grind
 exact r.eY hD j<|λk c=>C k (by have:=(q k c).1;omega);exact(w.aj.trans Q<|λk c=>.inl c).trans j<|λk c=>.inr (q k c).1
def lK.same{V:iV}{n0:M}(i:lK V n0 d e a)(k:kO V n0 ay a f):lK V n0 d e f:=by
 obtain⟨t,v,n,oN,b,c,g,h⟩:=i;exact⟨t,v,n,oN,b,c,g,λl m i j=>h l m (k.trans i) j⟩
def BJ(s:M)(c:cJ (ab×cR))(lv:ab)(x:ae)(hr:Row a 1 lv (y c) (c.map (·.1)))(W:∀n,cK lv=H n->n<z (G a)/\¬r.F n)(hn:y c<=1000000000)(hR:∀F(m:F<y c),lK r s c[F].1 c[F].2 a)(hD:r.D a)(ad:s<=z (G a))(hF:∀n,r.F n->n<s):cY aZ 123 #[lv,am x] a λbi w'=>∃v' S',bi=aM v'/\jf r s v' (cQ<|(c.map (·.2)).map<|fZ x) S' w'/\r.D w'/\Z r.F a w'/\(∀n,S' n->z (G a)<=n):=by
 obtain⟨i0,V,al,an,ao⟩:=di VF;obtain⟨bo,bh,bd⟩:=bY hr;obtain⟨HR,av,L,HD,HF⟩:=iO hr W hR hD hF;clear hr W hR hD hF;subst bd;go_in
 go_wp2_with(at_make;refine kr _ rfl _ _ 318 rfl (z<|G a) 237 i0 .nilFunc 1 underlying318 V al an _ _ _ (y c) rfl rfl rfl (by rw[ao];omega) (by unfold maxLen;omega) (ah _) ?_;intro w1 v u;have B:=U v;have t:=U u;clear v u)
 have Q:Bm r s a w1 x c (bD (z<|G a) 0 0<|y c) []:=by have d:Z r.F a w1:=Z.ee t (by simp);exact⟨B,λF m=>by simp at m,by simp,λF j m=>by simp at m,λF m=>by simp at m,r.eY HD (Z.ee (S:=ay) t<|by simp) cL,d⟩
 have ax:=U Q;clear Q;go_loopw [5,13] (λo F wr=>∃(bg:M)(b:cJ (ab×cR×eV)),bg<=y c/\F=ar bg/\y b=bg/\Bm r s a wr x c o b) (λ_ F _=>y c-(intOf F).toNat)
 case atStart=>exact⟨0,[],bP _,rfl,rfl,ax⟩
 case round=>
  obtain⟨bg,b,bm,rfl,ba,d⟩:=hrel;obtain⟨ox,oc,ho⟩:=aB d.own;subst ba;by_cases p:y b<y c
  .obtain⟨br,bs,bk,oN,ac,hm,he,i⟩:=L (y b) p;have eg:∀b a,(callFunc bk b).run aZ a=.ok (.enter bk b) a:=he;have l:kO r s ay a wr:=d.aj.same ad cL<|λn E _=>E;have hc:=i x wr l d.aI;obtain⟨bq,e,hx⟩:∃bq e,bo=H (R bq e):=by
    obtain⟨h1,⟨D,h0⟩|⟨bp,ap,N,D,bc,hc⟩⟩:=J HR
    .omega
    grind
   have bl:aW wr (R bq<|e+y b)=H (.iface br bs):=by
    obtain⟨h1,⟨D,_⟩|⟨bp,ap,N,D,bc,bb⟩⟩:=J HR
    .rw[hx]at D;cases D
    .rw[hx]at D;cases D;have hb:=av bq (by rw[hx];rfl);refine d.aj.cell (bb (y b) _ ?_) hb.2 hb.1;rw[fq,aQ p];simp[ac]
   subst hx;subst ho;have K:=U d;clear d i l ac he;go_wp2_with(first
    |(go_at_fn bk;refine hc.mono ?_;rintro bi w2⟨v1,S1,rfl,o,P,q,g⟩;obtain⟨O,f,rfl,T,aa⟩:=o;have A:=U<|show jf r s (.func (.func O) #[] f) (fZ x c[y b].2) S1 w2 from⟨O,f,rfl,T,aa⟩;have j:=aT (q.own K.own (λn E hf=>by have:=HF n hf;have:=(K.own.lt n E).1;omega))<|.cells #[.func (.func O) #[] f] 237;have aF:=U j;have au:=U P;have aU:=U q;have C:=U g;have bn:=q.size;have bf:=K.aj.size;clear P q g aa j T)
    |(at_builtin;refine cA _ rfl (.tmp 17) (.tmp 21) 318 rfl (z (G a)) 237 i0 .nilFunc 1 8 underlying318 V al an ao rfl (by decide) (.slice ox (y b) oc) (y b) (b.map (λ(bo:ab×cR×eV)=>bo.1)) rfl aF (R (z (G w2)) 0) 1 1 [.func (.func O) #[] f] rfl rfl (vQ _ _ _) (Va rfl) (by omega) (by omega) (by simp;omega) ?_;intro o2 w3 k w;have aD:=U k;have aV:=U w;clear k w))
   go_roundw;case rel=>
    refine⟨y b+1,b++[(.func (.func O) #[] f,fZ x c[y b].2,S1)],p,by go_num,by simp,?_⟩;exact K.next p ad HF aU A au C aV aD
   case measure=>simp[intOf];omega
  .have k:y b=y c:=by omega
   subst ho;have K:=U d;have bf:=d.aj.size;have l:Row wr 1 (I ox (y b) oc) (y b) (b.map (·.1)):=dJ d.own;have i:∀n,cK (I ox (y b) oc)=H n->n<z (G wr):=λn E=>(d.own.lt n E).2;have D:=Sj r s b l i (by omega) (λF m=>d.gives F m) d.MG (by omega) HF;have e:b.map (·.2.1)=(c.map (·.2)).map (fZ x):=by rw[d.rows,k,bI,gG];rfl
   have j:=U e;clear d l i e k;go_wp2_with(go_at_call 187;refine D.mono ?_;rintro bi w2⟨v1,S1,rfl,o,f,g⟩;have A:=U o;have w:=U f;have C:=U g;clear o f g)
   go_ret;have d:=J K;have f:=J w;have q:Z ay wr w2:=Z.aR f;refine⟨v1,S1,rfl,?_,r.eY d.aI q cL,d.aj.cz q,λn E=>?_⟩
   .rw[<-J j];exact A
   .rcases C n E with⟨F,m,N⟩|N
    .exact(d.apart F m n N).1
    .omega
def ZS(j:M)(b:cJ (ab×cR))(K:ae)(P:X)(hr:Row a 1 d (y b) (b.map (·.1)))(g:∀k,cK d=H k->k<z (G a)/\¬r.F k)(hn:y b<=1000000000)(hR:∀ao(hi:ao<y b),lK r j b[ao].1 b[ao].2 a)(hD:r.D a)(n:j<=z (G a))(hF:∀k,r.F k->k<j):cY aZ 186 #[d,am K,aE P] a λO e=>∃s q,O=aM s/\jf r j s (nR ⟨#[]⟩<|(cQ<|(b.map (·.2)).map<|fZ K).filter<|λO=>decide<|O.bO<=P) q e/\r.D e/\Z r.F a e/\(∀k,q k->z (G a)<=k):=by
 obtain⟨aa,A⟩:∃aa,cN (cN a<|aw #[aE P] 88) (aw #[am ⟨#[]⟩] 9)=aa:=⟨_,rfl⟩;have E:Z ay a aa:=by rw[<-A];exact(cF _ a).alloc _
 have hz:z (G aa)=z (G a)+2:=by rw[<-A];simp
 have ad:=BJ j b d K (E.row hr<|λk c=>⟨λN=>N,(g k c).1⟩) (λk c=>⟨by have:=(g k c).1;omega,(g k c).2⟩) hn (λao hi=>(hR ao hi).same<|E.same n cL cL) (r.eY hD E cL) (by omega) hF;have m:∀k,j<=k->¬r.F k:=λk c a=>by have:=hF k a;omega
 have i:∀(e:Y)(s:ab)(q:eV),jf r j s (cQ<|(b.map (·.2)).map<|fZ K) q e->Z r.F aa e->(∀k,q k->z (G aa)<=k)->cY aZ 233 #[s,.func (.func 235) #[] #[aA<|z<|G a,aA<|z (G a)+1]] e λO p=>∃l f,O=aM l/\jf r j l (nR ⟨#[]⟩<|(cQ<|(b.map (·.2)).map<|fZ K).filter<|λO=>decide<|O.bO<=P) f p/\Below (z<|G e) e p/\(∀k,f k->z (G a)<=k):=by intro e s q hg F hS;have b1:eP e (z<|G a) (aE P) 88:=(F.block _ (by omega)<|m _ n).trans (by rw[<-A];grind[eP.alloc,aJ]);have b2:eP e (z (G a)+1) (am ⟨#[]⟩) 9:=(F.block _ (by omega)<|m _<|by omega).trans (by rw[<-A];exact aJ _<|by simp);refine(Lt (M0 r j (z<|G a) (z (G a)+1) P) ⟨#[]⟩ hg ⟨b1,b2,by omega,n,by omega⟩<|λk c N=>?_).mono ?_;have:=hS k c;rcases N with N|N<;>omega;rintro O p⟨l,f,h1,h2,h3,h4⟩;refine⟨l,f,h1,?_,h3,λk c=>?_⟩;rw[<-YA];exact h2;rcases h4 k c with N|(N|N)|N;have:=hS k N;omega;omega;omega;grind
 obtain⟨V,HT,HD⟩:=dz i E<|λL(t:Z r.F aa L)(h:r.D L)(a:Y)(P:Below (z<|G L) L a)=>r.eY h (Z.aR (S:=ay) P) cL;obtain⟨av,ap,al⟩:=bY hr;subst A;clear i E hR hD hF m hz g hr;subst al;go_in
 go_wp2_with(first
  |(go_at_call 123;refine ad.mono ?_;rintro O w2⟨v1,S1,rfl,C,v,o,w⟩;have i:=V w2 v1 S1 C o w;have Q:=U v;have u:=U o;obtain⟨f1,au,rfl,ac,an⟩:=C;clear v o w ac an)
  |(go_at_call 233;refine i.mono ?_;rintro O L⟨v2,S2,rfl,D,B,x⟩;have T:=U D;have t:=U B;have W:=U x;clear D B x))
 go_ret;exact⟨v2,S2,rfl,T,HD _ u Q _ t,(((HT.mono cL).trans u<|λk c=>.inl c)).trans (Z.aR (S:=r.F) t)<|λk c=>.inl c,W⟩
def gF(W:Y)(l:M)(o:Obj):Z (λk=>k=l) W (W.putObj l o):=Z.ee (grownBy_putObj' W l o)<|by grind
def WY(e:T->Array ab)(V:iV)(h p l:M)(m:Array ab)(n:cJ T->Y->Prop)(j:cJ T->Prop)(S d:eV)(w:Y):Prop:=∀(g:M)(c:cJ T->eV->Y->Prop)(f:cJ T->Y->Prop)(B:eV)(W:Y),kO V h S w W->V.D W->c [] B W->(∀k,S k->¬B k)->(∀pre B W,c pre B W->∀k,B k->h<=k/\k<z (G W))->(∀pre B W a o,c pre B W->Z o W a->(∀k,o k->¬B k/\d k)->c pre B a)->(∀pre x B W,n (pre++[x]) W->c pre B W->V.D W->YieldAt Fence.wide (p-1) aZ g (e x) W λi a=>
 (i=aM (aN ci)/\V.D a/\∃b,c (pre++[x]) b a/\Z B W a/\(∀k,b k->B k\/z (G W)<=k))\/(i=aM (aN aX)/\f (pre++[x]) a))->
 CallsIn Fence.wide p aZ l (#[.func (.yield g) #[] #[]]++m) W λi a=>(∃v,i=aM v)/\((∃k b,j k/\c k b a/\V.D a)\/(∃pre,f pre a))
def Iu(d:T->Array ab)(V:iV)(g n i:M)(j:Array ab)(m:cJ T)(S:eV)(w:Y):Prop:=∀(f:M)(c:cJ T->eV->Y->Prop)(e:cJ T->Y->Prop)(B:eV)(W:Y),kO V g S w W->V.D W->c [] B W->(∀k,S k->¬B k)->(∀pre B W,c pre B W->∀k,B k->g<=k/\k<z (G W))->(∀pre B W a l,c pre B W->Z l W a->(∀k,l k->¬B k/\(S k\/V.F k\/z (G w)<=k))->c pre B a)->(∀pre x B W,(pre++[x])<+:m->c pre B W->V.D W->YieldAt Fence.wide (n-1) aZ f (d x) W λh a=>
 (h=aM (aN ci)/\V.D a/\∃b,c (pre++[x]) b a/\Z B W a/\(∀k,b k->B k\/z (G W)<=k))\/(h=aM (aN aX)/\e (pre++[x]) a))->
 CallsIn Fence.wide n aZ i (#[.func (.yield f) #[] #[]]++j) W λh a=>(∃v,h=aM v)/\((∃b,c m b a/\V.D a)\/(∃pre,e pre a))
def Iu.q{α:Type}{d:α->Array ab}{t:cJ α}{S:eV}(A:Iu d r c g m V t S a):WY d r c g m V (λu _=>u<+:t) (·=t) S (λk=>S k\/r.F k\/z (G a)<=k) a:=by
 intro v w e B W h j l n o q s;apply(A v w e B W h j l n o q s).mono;grind
abbrev Zd{α:Type}(a:α->Array ab)(V:iV)(e m:M)(c:M)(d:Array ab)(f:cJ α->Y->Prop)(b:cJ α->Prop)(S:eV)(w:Y):Prop:=WY a V e m c d f b S (λk=>S k\/V.F k\/z (G w)<=k) w
def BM(V:iV)(g:cJ T->eV->Y->Prop)(f:Code->cJ T->eV->Y->Prop)(e:cJ T)(B:eV)(W d:Y)(b:M):Exit->Act->Y->Prop
 | .normal,_,a=>V.D a/\∃c,g e c a/\Z (λk=>B k\/k=b) W a/\a.heap[b]?=d.heap[b]?/\(∀k,c k->B k\/z (G W)<=k)
 | .ret,_,a=>∃c,f .ret e c a/\Z (λk=>B k\/k=b) W a/\a.heap[b]?=d.heap[b]?/\(∀k,c k->B k\/z (G W)<=k)
 | .exit id,_,a=>∃c,f (.exit id) e c a/\Z (λk=>B k\/k=b) W a/\a.heap[b]?=d.heap[b]?/\(∀k,c k->B k\/z (G W)<=k)
 | .goto _,_,_=>False
 | .panic _,_,_=>False
 | .outgrown,_,_=>False
abbrev WT{α:Type}(h:α->Array ab)(n:M)(s:Operand)(m:Array Tmp)(b body:Code)(Q:Exit->Act->Y->Prop)(a:Act)(w:Y)(V:iV)(q:M)(r:cJ α->Y->Prop)(S f:eV)(i:cJ α->eV->Y->Prop)(e:Code->cJ α->eV->Y->Prop)(B:eV)(o:Prop):Prop:=(i [] B w)->(∀k,S k->¬B k)->(∀pre B W,i pre B W->∀k,B k->q<=k/\k<z (G W))->(∀pre B W d T,i pre B W->Z T W d->(∀k,T k->¬B k/\f k)->i pre B d)->(∀l pre B W d T,e l pre B W->Z T W d->(∀k,T k->¬B k/\z (G w)<=k/\∃L,W.heap[k]?=H (.loop L))->e l pre B d)->(∀c pre x B W,z (G w)<=c->¬B c->(c<z (G W)/\∃L,W.heap[c]?=H (.loop L))->r (pre++[x]) W->i pre B W->V.D W->b.wpIn (Fence.wide.inRound c) (n-1-1) aZ (Exit.then (λp j=>Z ay W j/\∀g,Z (λk=>k=c) j g->body.wpIn (Fence.wide.inRound c) (n-1-1) aZ (BM V i e (pre++[x]) B W g c) p g) (λ_ _ _=>False)) {tmps:=(m.zip<|h x).foldl (λu(t,v)=>u.setIfInBounds t v) a.tmps,defers:=[]} W)->o->(∀(D:M)(l:Code)(pre:cJ α)(B:eV)(W:Y),z (G w)<=D->e l pre B W->¬B D->W.heap[D]?=H (.deferred<|H [])->l.wpIn Fence.wide n aZ Q {a with defers:={target:=.collected D,args:=#[]}::a.defers} W)->(Code.rangeFunc s m b body).wpIn Fence.wide n aZ Q a w
def uv{arg:T->Array ab}{m:M}{bl:Operand}{ps:Array Tmp}{assign body:Code}{bk:Exit->Act->Y->Prop}{a:Act}{V:iV}{n0 gf:M}{lb:Array ab}{pp:cJ T->Y->Prop}{ff:cJ T->Prop}{S L:eV}(hU:∀k,z (G f)<=k->L k)(hg:a.eval bl=.func (.func gf) #[] lb)(eg:Enters aZ gf)(ba:∀bc,(arg bc).size=ps.size)(sa:WY arg V n0 (m-1) gf lb pp ff S L f)(hD:V.D f)(aV:n0<=z (G f))(al:∀k,S k->k<z (G f))(bh:cJ T->eV->Y->Prop)(Ix:Code->cJ T->eV->Y->Prop)(ap:eV):WT arg m bl ps assign body bk a f V n0 pp S L bh Ix ap (∀(bg:cJ T)(bd:M)(ap:eV)(W:Y),ff bg->z (G f)<=bd->bh bg ap W->¬ap bd->V.D W->W.heap[bd]?=H (.deferred<|H [])->bk .normal {a with defers:={target:=.collected bd,args:=#[]}::a.defers} W):=by
 intro h0 bi aa F A N O ac;refine wpIn_rangeFunc ?_;intro fn aF;obtain⟨d,g⟩:∃d:LoopState->Option Code->Loop,d=λb c=>{state:=b,pending:=c,fn,tmps:=a.tmps,params:=ps,assign,body,defers:=z (G f)}:=⟨_,rfl⟩;obtain⟨B,D⟩:∃B,cN (cN f<|.deferred<|H []) (.loop<|d .ready none)=B:=⟨_,rfl⟩;have aD:B.heap[z (G f)+1]?=H (.loop<|d .ready none):=by rw[<-D];exact aJ _<|by simp
 have ax:B.heap[z<|G f]?=H (.deferred<|H []):=by rw[<-D];grind[fU,aJ]
 have ad:Z ay f B:=by rw[<-D];exact(cF _ f).alloc _
 refine⟨z (G f)+1,[{target:=.collected<|z<|G f,args:=#[]}],B,{target:=.fn (.func gf) lb,args:=#[.func (.yield<|z (G f)+1) #[] #[]]},B,gf,#[.func (.yield<|f.heap.size+1) #[] #[]]++lb,B,?_,?_,?_,?_,(λn=>(by cases n)),?_⟩;rw[<-D,g];exact run_enterLoop_outer _ _ _ _ _;(.simp only[resolve,hg];simp[go_sem]);intro b _;trivial;(.have:=eg;unfold Enters at this;simp[invoke,go_sem,this])
 .refine(sa (z (G f)+1) (λpre ap W=>∃l,(∀k,ap k↔l k\/k=z (G f)\/k=z (G f)+1)/\bh pre l W/\¬l (z<|G f)/\¬l (z (G f)+1)/\W.heap[z (G f)+1]?=H (.loop<|d .ready none)/\W.heap[z<|G f]?=H (.deferred<|H [])) (λpre W=>∃n l,Ix n pre l W/\¬l (z<|G f)/\¬l (z (G f)+1)/\W.heap[z (G f)+1]?=H (.loop<|d .done<|H n)/\W.heap[z<|G f]?=H (.deferred<|H [])) (λk=>ap k\/k=z (G f)\/k=z (G f)+1) B (ad.same aV (λk r=>⟨al k r,λn=>n⟩) cL) (V.eY hD ad cL) ⟨ap,λk=>qY,F _ _ _ _ _ h0 ad cL,λn=>by have:=(aa _ _ _ h0 _ n).2;omega,λn=>by have:=(aa _ _ _ h0 _ n).2;omega,aD,ax⟩ ?_ ?_ ?_ ?_).mono ?_
  .grind
  .rintro pre B' W⟨l,C,E,_,_,o,r⟩k b;rcases(C k).1 b with n|n|n
   .exact aa _ _ _ E k n
   .grind
   grind
  .rintro pre B' W j p⟨l,C,E,n1,n2,o,r⟩i e;exact⟨l,C,F _ _ _ _ _ E i<|λk b=>⟨λn=>(e k b).1<|(C k).2<|.inl n,(e k b).2⟩,n1,n2,(i.block _ (ak o)<|λn=>(e _ n).1<|(C _).2<|.inr<|.inr rfl).trans o,(i.block _ (ak r)<|λn=>(e _ n).1<|(C _).2<|.inr<|.inl rfl).trans r⟩
  .rintro pre bc B' W ao⟨l,C,E,n1,n2,o,r⟩av;have hy:=run_yield (P:=aZ) (args:=(arg bc)) o (by rw[g];exact ba bc);rw[g]at hy;refine⟨fn,_,assign,body,hy,roundIn_of_wpIn aF<|wpIn_mono (N (z (G f)+1) pre bc l W (by omega) n2 ⟨ak o,_,o⟩ ao E av) ?_⟩;clear hy;intro bf a1 Wa K;cases bf with
   |normal=>
    obtain⟨bb,K⟩:=K;have an:Wa.heap[z (G f)+1]?=H (.loop<|d .ready none):=(bb.block _ (ak o)<|λn=>n).trans o;refine⟨_,run_beginRound an (by rw[g]),?_⟩;have Q:(Wa.putObj (z (G f)+1)<|.loop {d .ready none with state:=.busy}).heap[z (G f)+1]?=H (.loop {d .ready none with state:=.busy}):=World.putObj_heap_same<|ak an;refine wpIn_mono (K _<|gF _ _ _) ?_;have fin:∀(e:Option Code)(j:Y),j.heap[z (G f)+1]?=(Wa.putObj (z (G f)+1)<|.loop {d .ready none with state:=.busy}).heap[z (G f)+1]?->(Instr.endRound (z (G f)+1) e).run aZ j=.ok (aN e.isNone) (j.putObj (z (G f)+1)<|.loop<|d (if e.isNone then .ready else .done) e)/\(j.putObj (z (G f)+1)<|.loop<|d (if e.isNone then .ready else .done) e).heap[z (G f)+1]?=H (.loop<|d (if e.isNone then .ready else .done) e):=λe j h3=>by
     have aU:=h3.trans Q;have:=run_endRound (P:=aZ) e aU;rw[g]at this|-;grind[World.putObj_heap_same,ak]
    have s:∀j,Z (λk=>l k\/k=z (G f)+1) W j->j.heap[z<|G f]?=H (.deferred<|H []):=λj i=>(i.block _ (ak r)<|λn=>n.elim n1<|λn=>by omega).trans r;have x:∀(q:eV),(∀k,q k->l k\/z (G W)<=k)->¬q (z<|G f)/\¬q (z (G f)+1):=λq b=>by
     have:=ak o;grind
    rintro bf a3 j t;cases bf with
    |normal=>
     obtain⟨e,q,v,i,p,u⟩:=t;obtain⟨hr,w⟩:=fin none j p;obtain⟨q1,q2⟩:=x q u;have c:=gF j (z (G f)+1)<|.loop<|d (if(none:Option Code).isNone then .ready else .done) none;refine⟨_,_,hr,.inl ⟨rfl,V.eY e c<|λk b hf=>?_,λk=>q k\/k=z (G f)\/k=z (G f)+1,⟨q,λk=>qY,F _ _ _ _ _ v c (λk b=>by grind),q1,q2,w,?_⟩,?_,?_⟩⟩
     .have:=V.lt hD hf;omega
     .exact(c.block _ (ak<|s j i)<|λn=>by omega).trans<|s j i
     .refine(i.trans c<|λk b=>.inl<|.inr b).mono<|λk b=>.inl<|(C k).2 ?_;grind
     grind
    |ret=>
     obtain⟨q,v,i,p,u⟩:=t;obtain⟨hr,w⟩:=fin (H .ret) j p;obtain⟨q1,q2⟩:=x q u;have c:=gF j (z (G f)+1)<|.loop<|d (if(H Code.ret:Option Code).isNone then .ready else .done)<|H .ret;exact⟨_,_,hr,.inr ⟨rfl,.ret,q,A _ _ _ _ _ _ v c<|λk b=>⟨by grind,by grind,b▸⟨_,p.trans Q⟩⟩,q1,q2,w,(c.block _ (ak<|s j i)<|λn=>by omega).trans<|s j i⟩⟩
    |exit id=>
     obtain⟨q,v,i,p,u⟩:=t;obtain⟨hr,w⟩:=fin (H<|.exit id) j p;obtain⟨q1,q2⟩:=x q u;have c:=gF j (z (G f)+1)<|.loop<|d (if(H (Code.exit id):Option Code).isNone then .ready else .done)<|H<|.exit id;exact⟨_,_,hr,.inr ⟨rfl,.exit id,q,A _ _ _ _ _ _ v c<|λk b=>⟨by grind,by grind,b▸⟨_,p.trans Q⟩⟩,q1,q2,w,(c.block _ (ak<|s j i)<|λn=>by omega).trans<|s j i⟩⟩
    |goto bm=>exact t.elim
    |panic ch=>exact t.elim
    |outgrown=>exact t.elim
   |exit id=>exact K.elim
   |goto bm=>exact K.elim
   |ret=>exact K.elim
   |panic au=>exact K.elim
   |outgrown=>exact K.elim
  .rintro bf j⟨⟨v,rfl⟩,(⟨bg,B',i,⟨l,C,E,n1,n2,o,r⟩,e⟩|⟨pre,n,l,E,n1,n2,o,r⟩)⟩
   .have c:=λd=>gF j (z (G f)+1) d;exact⟨none,_,by have:=run_endLoop (P:=aZ) o (by rw[g];simp);rw[g]at this;exact this,O bg _ l _ i (ah _) (F _ _ _ _ _ E (c _)<|λk b=>by grind) n1 (V.eY e (c _) (λk b hf=>by have:=V.lt hD hf;omega))<|(c _).block _ (ak r) (λn=>by omega)|>.trans r⟩
   .have c:=λd=>gF j (z (G f)+1) d;exact⟨H n,_,by have:=run_endLoop (P:=aZ) o (by rw[g];simp);rw[g]at this;exact this,ac _ n pre l _ (ah _) (A _ _ _ _ _ _ E (c _)<|λk b=>⟨by grind,by grind,b▸⟨_,o⟩⟩) n1<|(c _).block _ (ak r) (λn=>by omega)|>.trans r⟩
def pj{α:Type}{arg:α->Array ab}{m:M}{C:Operand}{s:Array Tmp}{b body:Code}{Q:Exit->Act->Y->Prop}{a:Act}{V:iV}{n0 gf:M}{lb:Array ab}{l:cJ α}{S:eV}(x:a.eval C=.func (.func gf) #[] lb)(u:Enters aZ gf)(o:∀F,(arg F).size=s.size)(sa:Iu arg V n0 (m-1) gf lb l S f)(w:V.D f)(n:n0<=z (G f))(g:∀q,S q->q<z (G f))(t:cJ α->eV->Y->Prop)(r:Code->cJ α->eV->Y->Prop)(B:eV):WT arg m C s b body Q a f V n0 (λA _=>A<+:l) S (λq=>S q\/V.F q\/z (G f)<=q) t r B (∀(D:M)(B:eV)(W:Y),z (G f)<=D->t l B W->¬B D->V.D W->W.heap[D]?=H (.deferred<|H [])->Q .normal {a with defers:={target:=.collected D,args:=#[]}::a.defers} W):=λv i k p h c d e=>uv (λ_ E=>.inr<|.inr E) x u o sa.q w n g t r B v i k p h c (λ_ D B W j=>j▸d D B W) e
abbrev JW:E⊕M->Array ab
 | .inl x=>#[x.value,.nilIface]
 | .inr q=>#[wo,eD q]
def E9(V:iV)(l:cR)(a:cJ (E⊕M))(W:Y):Prop:=(∃pre:cR,a=pre.map .inl/\pre<+:l)\/∃(pre:cR)(q:M),a=pre.map .inl++[.inr q]/\V.Xp/\Af W q
def ZX(l:cR)(a:cJ (E⊕M)):Prop:=a=l.map .inl\/∃(pre:cJ (E⊕M))(q:M),a=pre++[.inr q]
section
open Shelf
def Ih(cs:M)(cb:Array ab)(hb:eP a c (.func (.func g) #[] cb) 237)(he:Enters aZ g)(hr:Bt r b g cb e p a)(bL:b<=c)(cd:¬p c):Zd JW r b cs 232 #[aA c] (E9 r e) (ZX e) (λk=>p k\/k=c) a:=by
 intro lr cr Jx cp cn hs hD hJ bf ap bm hY;have eg:∀b a,(callFunc g b).run aZ a=.ok (.enter g b) a:=he;have bi:eP cn c (.func (.func g) #[] cb) 237:=hb.same hs<|.inr rfl;have bl:Bt r b g cb e p cn:=hr.same<|hs.mono<|λ_ f=>.inl f;have bn:=hs.1;obtain⟨bp,bs,HD,HJ,aF,aD,N,HY⟩:=CV bi bl hD hJ bf ap bm hY;clear hs hD hJ bf ap bm hY hb hr bi bl he;refine qX func232 rfl trivial ?_ rfl;simp only[ntmps232,fo,aY,dG,Nat.reduceAdd,Nat.reduceSub,eM,eL,fp,eX,cV,df];gi_wp2;gi_loopg [3] (y e+1) (λd _ wr=>∃pre rest S' m,e=pre++rest/\y rest<d/\Bt r b g cb rest S' wr/\eP wr c (.func (.func g) #[] cb) 237/\r.D wr/\cr (pre.map .inl) m wr/\(∀k,S' k->¬m k)/\¬m c/\¬S' c/\(∀k,S' k->p k\/z (G a)<=k)/\z (G a)<=z (G wr))
 case atStart=>exact⟨[],e,p,cp,rfl,by omega,bs,bp,HD,HJ,λk f=>aF k<|.inl f,aF c<|.inr rfl,cd,λk f=>.inl f,bn⟩
 (case round=>obtain⟨pre,rest,S',m,hl,bT,K,ao,bc,Q,D,bb,bg,an,cj⟩:=hrel;have cf:=ao.cell;have F:=K.own;(have au:∀k,b<=k->¬r.F k:=λk f a=>by have:=F.aI k a;omega);have hc:=K.call bc;have HT:=U<|λi(a:Z (λk=>S' k\/r.F k) wr i)=>N (pre.map .inl) m wr i _ Q a<|λk f=>⟨λu=>f.elim (λv=>D k v u)<|λv=>au k (aD _ _ _ Q k u).1 v,f.elim (λv=>(an k v).elim (λu=>.inl<|.inl u)<|λu=>.inr<|.inr u)<|λv=>.inr<|.inl v⟩;obtain⟨bt,aa,bq,aU,ax,aV,HL,ce⟩:=CV an ao Q D bb bg hl F;have bx:=U au;clear K ao bc Q D bb bg hl F au an;(gi_wp2_with fail);refine⟨trivial,(λu=>(by cases u)),?_⟩;refine(dP.2 hc).mono ?_;rintro co i⟨bk,t,l⟩;rcases bk with⟨ev,rfl,⟨ca,rfl⟩|⟨hX,q,rfl,hq⟩⟩|⟨⟨o,s,n,d⟩,cm,S1,cc,rfl,bd,j⟩;(.subst ca;obtain⟨w,L⟩:=And.intro (U t) (U<|HT i l);clear t l hc;unfold bE wo;gi_wp2;refine⟨λ_ h=>(by cases h),?_⟩;gi_wp2;refine ct (iX rfl _ _ _) rfl ?_;refine⟨⟨_,rfl⟩,.inl ⟨_,m,.inl rfl,?_,r.eY w (cF ay i) cL⟩⟩;have hl:=J HL;rw[dM]at hl;rw[hl];exact N _ m i _ _ L (cF ay i) cL);(.have B:=N _ m i _ _ (HT i l) ((Z.refl ay i).alloc<|aw #[am ⟨#[]⟩,am ⟨#[]⟩,aN aX,aE 0] 171) cL;have x:=r.eY t ((Z.refl ay i).alloc<|aw #[am ⟨#[]⟩,am ⟨#[]⟩,aN aX,aE 0] 171) cL;obtain⟨fn,bo,O,body,hy,hR⟩:=HY (pre.map .inl) (.inr q) m _ (.inr ⟨pre,q,rfl,hX,hq.aj (cF ay i) cL⟩) B x;have HR:=U hR;clear B x hR t l hq hc;unfold JW wo at hy;simp only at hy;unfold bE wo;(gi_wp2_with fail);refine⟨(λu=>(by cases u)),(J HR).mono ?_⟩;rintro co W3(⟨rfl,A,B3,C,S,P⟩|⟨rfl,hx⟩);(.obtain⟨ac,ad⟩:=And.intro (U A) (U C);clear A C S P;gi_wp2;refine ct (iX rfl _ _ _) rfl ?_;exact⟨⟨_,rfl⟩,.inl ⟨_,B3,.inr ⟨_,q,rfl⟩,ad,ac⟩⟩);have HX:=U hx;clear hx;gi_wp2;refine ct (iX rfl _ _ _) rfl ?_;exact⟨⟨_,rfl⟩,.inr ⟨_,HX⟩⟩);(.subst cc;have V:Z ay i (cN i<|aw #[am o,am s,aN n,aE d] 171):=cF _ _;have B:=N _ m i _ _ (HT i l) V cL;have x:=r.eY t V cL;obtain⟨fn,bo,O,body,hy,hR⟩:=HY (pre.map .inl) (.inl ⟨o,s,n,d⟩) m _ (.inl ⟨pre++[⟨o,s,n,d⟩],by simp,cm,by rw[J HL];simp⟩) B x;obtain⟨HR,ba,al,br,bv⟩:=iO hR l bd j V;clear B x hR t l bd j hc V;unfold JW at hy;unfold E.value at hy|-;simp only at hy|-;(gi_wp2_with fail);refine⟨(λu=>(by cases u)),(J HR).mono ?_⟩;rintro co W3(⟨rfl,A,B3,C,S,P⟩|⟨rfl,hx⟩);(.obtain⟨ac,ad,bu,av⟩:=fY A C S P;clear A C S P;gi_wp2;(gi_roundg (y cm+1));(case measure=>simpa using bT);(case rel=>have w:=aD _ _ _ bq;have j:=J br;(have W:∀k,S1 k->¬m k:=λk f u=>by rcases al k f with v|v;exact aU k v u;have:=(w k u).2;omega);have L:Z m i W3:=(bv.mono (T:=m) cL).trans bu<|λk f=>.inl f;(have bh:eP i c (.func (.func g) #[] cb) 237:=by refine(ba.block c (ak aa) ?_).trans aa;rintro(u|u);exact aV u;exact bx _ bL u);have ck:=ba.size;have cl:=L.size;have ch:=ak aa;refine⟨pre++[⟨o,s,n,d⟩],cm,S1,B3,by rw[J HL];simp,by omega,j.same<|L.same j.own.size (λk f=>⟨(j.own.each k f).2,W k f⟩) (λk f ap=>by have:=(w k f).1;omega),(L.block c (ak bh) ax).trans bh,ac,by rw[aP];exact ad,λk f u=>?_,λu=>?_,λu=>?_,λk f=>?_,by omega⟩;rcases av k u with v|v;exact W k f v;have:=(j.own.each k f).2;simp at v;omega;rcases av c u with v|v;exact ax v;simp at v;omega;rcases al c u with v|v;exact aV v;omega;rcases al k f with v|v;exact bt k v;exact .inr<|by omega));have HX:=U hx;clear hx;gi_wp2;refine ct (iX rfl _ _ _) rfl ?_;exact⟨⟨_,rfl⟩,.inr ⟨_,HX⟩⟩))
end
section
open Shelf
attribute [local go_sem] Oper.semAt_some
def MF(f:M)(a:Array ab)(w:Y):cY aZ 184 #[.func (.func f) #[] a] w λe b=>e=aM (.func (.func 232) #[] #[aA<|z<|G w])/\b=cN w (aw #[.func (.func f) #[] a] 237):=by
 go_in
 go_wp2;go_ret;simp_all
def mZ:(prog.info? 171).map (λi=>(i.zero,i.size,i.bytes))=H (H wo,4,48):=by kernel_rfl
structure wV(V:iV)(S:eV)(w0:Y)(N:M)(pre:cR)(B:eV)(W:Y):Prop where
 uz:eP W (z<|G w0) az 87
 err:eP W (z (G w0)+1) .nilIface 47
 row:∃v,eP W (z (G w0)+2) v 87/\W.ownsRow (z (G w0)+3) 171 4 v (y pre) (aK pre)/\(∀k,B k↔k=z (G w0)\/k=z (G w0)+1\/k=z (G w0)+2\/cK v=H k)
 le:y pre<=N
 aj:Z (λk=>S k\/V.F k) w0 W
def wV.lt{S:eV}{pre:cR}(i:wV r S a c pre p A):∀k,p k->z (G a)<=k/\k<z (G A):=by
 intro k h;obtain⟨v,j,e,g⟩:=i.row;rcases(g k).1 h with d|d|d|d;grind
 grind
 grind
 have:=e.lt k d;grind
def wV.stays{pre:cR}{B:eV}{T:eV}(h:wV r p a b pre B f)(e:Z T f A)(d:∀k,T k->¬B k/\((p k\/r.F k)\/z (G a)<=k)):wV r p a b pre B A:=by
 obtain⟨v,j,l,c⟩:=h.row;exact⟨(e.block _ (ak h.uz)<|λg=>(d _ g).1<|(c _).2<|.inl rfl).trans h.uz,(e.block _ (ak h.err)<|λg=>(d _ g).1<|(c _).2<|.inr<|.inl rfl).trans h.err,⟨v,(e.block _ (ak j)<|λg=>(d _ g).1<|(c _).2<|.inr<|.inr<|.inl rfl).trans j,e.own l<|λk i g=>(d k g).1<|(c k).2<|.inr<|.inr<|.inr i,c⟩,h.le,h.aj.trans e<|λk i=>(d k i).2⟩
def tH{d:Func}{p q:Tmp}{e:TypeId}(n:d.results=#[.cell p e,.cell q 47]){m:TypeId}(j:prog.underlying e=H (.slice m))(a:Array ab)(w:Y)(f g:M)(u v:ab)(k:a.getD p iH=aA f)(l:a.getD q iH=aA g)(h:aW w (R f 0)=H u)(i:aW w (R g 0)=H v):(results d a).run aZ w=.ok (dq #[u,v]) w:=by
 have b:a[p]?.getD iH=aA f:=by simpa using k
 have c:a[q]?.getD iH=aA g:=by simpa using l
 simp[results,n,b,c,asAddr,loadVar,isAgg,underlying,j,underlying47,h,i,Result.andThen]
def fi{N:Fence}{P:Program}(x:Y){l:Array Oper}{rest:cJ Oper}{D:Oper}{E:Act}{aa:Exit->Act->Y->Prop}(r:D.guard=none)(al an:Operand)(F:TypeId)(s:D.op=.call {callee:=.builtin .append,args:=#[al,an],argTypes:=#[F,F]})(a:M)(A:TypeId)(B:TypeInfo)(i:ab)(c bytes:M)(V:P.underlying F=H (.slice A))(Q:P.info? A=H B)(hz:B.zero=H i)(h:B.size=c)(q:B.bytes=bytes)(u:i.cells.size=c)(t:0<c)(L:ab)(C:M)(v:gW)(T:E.eval al=L)(j:x.ownsRow a A c L C v)(o:Addr)(w ac:M)(d:gW)(W:E.eval an=I (H o) w ac)(S:y d=w*c)(g:∀ad K,d[ad]?=H K->aW x (o.add ad)=H K)(O:∀K∈d,K.oneCell'=ci)(hn:C+w<=140737488355328)(e:(C+w)*bytes<=140737488355328)(f:a<=z (G x))(ao:∀m n,n.ownsRow a A c m (C+w) (v++d)->eE x n L m->wpListIn N b P l aa rest (E.put D.dst m) n):wpListIn N b P l aa (D::rest) E x:=by
 refine xA r λap p=>?_;obtain⟨m,n,k,r1,r2,r3,r4⟩:=nj (P:=P) x a F D.type A B i c bytes V Q hz h q u t L C v j o w ac d S g O (by unfold maxLen;omega) e f;unfold Oper.wpIn;refine⟨?_,?_⟩;simp[Oper.about,s,resolve,Target.leads,vT];rw[Oper.semAt_plain N _ _ (by rw[s];grind)];simp[execOp,s,resolve,invoke,builtin,T,W,k,Result.andThen];exact p _ _<|ao m n r1<|eE.of r2 r4
theorem wK(w:Y)(x:E)(t:TypeId):∀j u,(aK [x])[j]?=H u->aW (cN w<|aw #[am x.key,am x.val,aN x.del,aE x.bO] t) (((R (z<|G w) 0):Addr).add j)=H u:=by
 intro j u a;rw[dB];have h:(cN w<|aw #[am x.key,am x.val,aN x.del,aE x.bO] t).heap[z<|G w]?=H (aw #[am x.key,am x.val,aN x.del,aE x.bO] t (0,0)):=aJ _ rfl;rw[cg h,dE];simpa[aK,E.cells]using a
theorem BR(x:E):∀u∈aK [x],u.oneCell'=ci:=by
 intro u a;simp[aK,E.cells]at a;rcases a with rfl|rfl|rfl|rfl<;>rfl
def wV.more{S:eV}{pre:cR}{B:eV}{x:E}{O:Obj}(v:wV r S a b pre B f)(t:eP f (z (G a)+2) d 87)(C:∀k,B k↔k=z (G a)\/k=z (G a)+1\/k=z (G a)+2\/cK d=H k)(L:f.ownsRow (z (G a)+3) 171 4 d (y pre) (aK pre))(P:y pre+1<=b)(F:eE (cN f O) A d s)(g:A.ownsRow (z (G a)+3) 171 4 s (y pre+1) (aK pre++aK [x])):∃w,wV r S a b (pre++[x]) w (cq A (R (z (G a)+2) 0) s)/\Z B f (cq A (R (z (G a)+2) 0) s)/\(∀k,w k->B k\/z (G f)<=k):=by
 have u:∀k,cK d=H k->z (G a)+3<=k/\k<z (G f):=λk c=>L.lt k c;have D:∀k,cK s=H k->z (G a)+3<=k:=λk c=>(g.lt k c).1;have Q:=ak t;have j:Z (λk=>cK d=H k) f A:=((Z.refl (λk=>cK d=H k) f).alloc O).trans (Z.ee (S:=λk=>cK d=H k) F.grown<|λk c=>.inl c)<|λk c=>.inl c;have e:∀k,k<z (G a)+3->¬cK d=H k:=λk c l=>by have:=(u k l).1;omega
 have n:eP A (z<|G a) az 87:=(j.block _ (ak v.uz)<|e _<|by omega).trans v.uz;have o:eP A (z (G a)+1) .nilIface 47:=(j.block _ (ak v.err)<|e _<|by omega).trans v.err;have q:eP A (z (G a)+2) d 87:=(j.block _ (ak t)<|e _<|by omega).trans t;have h:Z B f (cq A (R (z (G a)+2) 0) s):=(j.mono (T:=B)<|λk c=>.inl<|(C k).2<|.inr<|.inr<|.inr c).setCell _ _ _<|.inl<|(C _).2<|.inr<|.inr<|.inl rfl;refine⟨λk=>k=z (G a)\/k=z (G a)+1\/k=z (G a)+2\/cK s=H k,⟨n.other _ (by omega),o.other _ (by omega),⟨s,q.set _,?_,λk=>qY⟩,by simp;omega,?_⟩,h,?_⟩;(have K:y (pre++[x])=y pre+1:=by simp);rw[K,fW];exact g.kept (dN A _ _ _) (by grind);exact v.aj.trans h<|λk c=>.inr (v.lt k c).1;rintro k(l|l|l|l);(grind);(grind);(grind);rcases F.vp with N|⟨V,N,K⟩;(grind);rw[N]at l;cases l;simp at K;grind
def CZ(V:iV)(S:eV)(a:Y)(B:eV)(W:Y):Prop:=∃q,V.Xp/\Af W q/\eP W (z<|G a) az 87/\eP W (z (G a)+1) (eD q) 47/\V.D W/\Z (λk=>S k\/V.F k) a W/\B (z<|G a)/\B (z (G a)+1)
def CZ.stays{B T:eV}(x:CZ r p a B f)(c:Z T f A)(e:∀k,T k->¬B k/\b<=k/\∃L,f.heap[k]?=H (.loop L))(g:∀k,T k->¬B k/\z (G a)<=k)(hF:∀k,T k->¬r.F k):CZ r p a B A:=by
 obtain⟨q,v,⟨d,i,h⟩,n,o,u,t,j,l⟩:=x;refine⟨q,v,⟨d,(c.block _ (ak i)<|λm=>?_).trans i,h⟩,(c.block _ (ak n)<|λm=>(e _ m).1 j).trans n,(c.block _ (ak o)<|λm=>(e _ m).1 l).trans o,r.eY u c hF,t.trans c<|λk w=>.inr (g k w).2,j,l⟩;obtain⟨L,s⟩:=(e _ m).2.2;rw[i]at s;cases s
def Dc(hg:jf r c d e p a)(hD:r.D a)(hl:y e<=1000000000):cY aZ 122 #[d] a λch w'=>(∃v',ch=aM (dq #[v',.nilIface])/\w'.ownsRow (z<|G a) 171 4 v' (y e) (aK e)/\r.D w'/\Z (λk=>p k\/r.F k) a w')\/Dp r a w' (λk=>p k\/r.F k) ch (λd=>dq #[az,d]):=by
 obtain⟨bT,cb,rfl,he,hr⟩:=hg;obtain⟨HE,HR,HD⟩:=dz he hr hD;have bq:=MF bT cb;obtain⟨i0,bt,bx,bE,aF⟩:=di mZ;clear he hr hD;refine(dP (n:=3)).1 ?_;refine callsIn_of_wp_marks func122 rfl trivial ?_ rfl;simp only[ntmps122,fo,aY,dG,Nat.reduceAdd,Nat.reduceSub,eM,eL,fp,eX,cV,df];gi_wp2_with(refine⟨trivial,?_⟩;gi_at_call 184;refine(dP.2<|bq _).mono ?_;rintro ch w1⟨rfl,rfl⟩)
 have hr:=J HR;obtain⟨W0,D⟩:∃W0,(cN (cN (cN (cN a<|aw #[az] 87)<|aw #[.nilIface] 47)<|aw #[az] 87)<|aw #[.func (.func bT) #[] cb] 237)=W0:=⟨_,rfl⟩;have cs:z (G W0)=z (G a)+4:=by rw[<-D];simp
 have ac:Z ay a W0:=by rw[<-D];exact(((cF ay a).alloc _).alloc _).alloc _
 have bm:eP W0 (z (G a)+3) (.func (.func bT) #[] cb) 237:=by rw[<-D];exact aJ _<|by simp
 have bh:wV r p a (y e) [] (λk=>k=z (G a)\/k=z (G a)+1\/k=z (G a)+2) W0:=by refine⟨?_,?_,⟨az,?_,cO _ _ _ _,λk=>by simp[cK]⟩,bP _,ac.mono cL⟩;rw[<-D];grind[eP.alloc,aJ];rw[<-D];exact eP.alloc (eP.alloc (aJ _<|by simp) _) _;rw[<-D];exact eP.alloc (aJ _<|by simp) _
 have bu:Bt r c bT cb e p W0:=hr.same<|ac.same hr.own.size (λk g=>⟨(hr.own.each k g).2,λv=>v⟩) cL;have bk:r.D W0:=r.eY HD ac cL;have cr:=hr.own.size;have bl:∀k,p k->k<z (G a):=λk g=>(hr.own.each k g).2;rw[D];have P:∀k,z (G a)<=k->¬r.F k:=λk g hf=>by have:=hr.own.aI k hf;omega
 refine uv (arg:=JW) (m:=3) (V:=r) (n0:=c) (gf:=232) (lb:=#[aA<|z (G a)+3]) (pp:=E9 r e) (ff:=ZX e) (S:=λk=>p k\/k=z (G a)+3) (λ_ h=>.inr<|.inr h) ?geval (enters_of func232 (by kernel_rfl) rfl) (λbL=>by cases bL<;>rfl) (Ih 2 cb bm HE bu (by omega) (λv=>by have:=bl _ v;omega)) bk (by omega) ?slt (λl' an W=>∃pre,l'=pre.map Sum.inl/\wV r p a (y e) pre an W) (λv _ an W=>v=.ret/\CZ r p a an W) (λk=>k=z (G a)\/k=z (G a)+1\/k=z (G a)+2) ⟨[],rfl,bh⟩ ?sb ?lt ?st ?xst ?body ?done ?stop;case geval=>rfl
 (case slt=>grind);(case sb=>grind);(case lt=>rintro _ an W⟨pre,rfl,h⟩k g;have:=h.lt k g;grind);(case st=>rintro _ an W W' cf⟨pre,rfl,h⟩ht hT;refine⟨pre,rfl,h.stays ht<|λk g=>⟨(hT k g).1,?_⟩⟩;grind);(case xst=>rintro v pre an W W' cf⟨h1,h2⟩ht hT;have f:∀k,cf k->¬an k/\z (G a)<=k:=λk g=>⟨(hT k g).1,by have:=(hT k g).2.1;omega⟩;exact⟨h1,h2.stays ht hT f<|λk g=>P k (f k g).2⟩);(case stop=>rintro bc v pre an W bi⟨rfl,hZ⟩N hK;obtain⟨q,hX,hq,h2,f,w,ac,b2,b3⟩:=hZ;have x:=gF W bc<|.deferred none;(have O:z (G a)<=bc:=by omega);gi_wp2;refine⟨by simp,.inl ⟨_,_,rfl,run_takeDeferred hK,?_⟩⟩;refine⟨_,tH rfl underlying87 _ _ (z<|G a) (z (G a)+1) az (eD q) rfl rfl ?_ ?_,?_⟩;exact(eP.cell<|(x.block _ (ak h2)<|λv=>N<|v▸b2).trans h2);exact(eP.cell<|(x.block _ (ak f)<|λv=>N<|v▸b3).trans f);refine .inr ⟨hX,q,rfl,?_,r.eY w x (λk g=>by rw[g];exact P _ O),ac.trans x<|λk g=>.inr<|by omega⟩;obtain⟨al,hq,ax⟩:=hq;exact⟨al,(x.block _ (ak hq) (λv=>by rw[v,hK]at hq;cases hq)).trans hq,ax⟩)
 case body=>
  rintro lr _ bL an W co ap⟨aV,LL,av⟩K⟨pre,rfl,C⟩w;cases bL with
  |inr q=>
   obtain⟨hX,hq⟩:r.Xp/\Af W q:=by
    rcases K with⟨L,h,_⟩|⟨L,q',h,hX,hq⟩
    .have:Sum.inr q∈L.map (Sum.inl (β:=M)):=by rw[<-h];simp
     simp at this
    .have:=mz h rfl;cases this;exact⟨hX,hq⟩
   obtain⟨HC,Q,HQ,bd⟩:=fY C w hq av;clear C w hq av K;unfold JW wo;simp only;gi_wp2;refine⟨(cF _ _),λt i=>?_⟩;have f:Z ay W (cN W<|aw #[am ⟨#[]⟩,am ⟨#[]⟩,aN aX,aE 0] 171):=cF _ _;have u:wV r p a (y e) pre an t:=(HC.stays f cL).stays i (λk g=>by grind);have ba:Af t q:=by
    obtain⟨al,h,ax⟩:=HQ;have h1:=(f.block q (ak h) id).trans h;refine⟨al,(i.block q (ak h1)<|λv=>?_).trans h1,ax⟩;rw[v,J bd]at h;cases h
   have F:r.D t:=r.eY (r.eY Q f cL) i<|λk g hf=>P k (by omega) hf;obtain⟨d,hv,s,A⟩:=u.row;have j:=u.uz;have l:=u.err;have bn:=j.cell;have br:=j.free;have bo:=l.cell;have bs:=l.free;have b2:an (z<|G a):=(A _).2<|.inl rfl;have b3:an (z (G a)+1):=(A _).2<|.inr<|.inl rfl;have B:Z (λk=>k=z (G a)\/k=z (G a)+1) t (cq (cq t (R (z<|G a) 0) az) (R (z (G a)+1) 0)<|eD q):=((Z.refl (λk=>k=z (G a)\/k=z (G a)+1) t).setCell _ 0 _<|.inl<|.inl rfl).setCell _ 0 _<|.inl<|.inr rfl;have aU:Af (cq (cq t (R (z<|G a) 0) az) (R (z (G a)+1) 0)<|eD q) q:=ba.aj B (by
    rintro k(rfl|rfl)_
    .exact⟨_,87,_,j,by decide⟩
    .exact⟨_,47,_,l,by decide⟩)
   have aa:=r.eY F B (by rintro k(rfl|rfl)hf<;>exact P _ (by omega) hf);have O:∀k,(k=z (G a)\/k=z (G a)+1)->z (G a)<=k:=by rintro k(v|v)<;>omega
   have au:Z (λk=>p k\/r.F k) a (cq (cq t (R (z<|G a) 0) az) (R (z (G a)+1) 0)<|eD q):=u.aj.trans B<|λk g=>.inr<|O k g;have bb:z (G W)+1<=z (G t):=by have:=i.size;simp_all
   have ad:Z (λk=>an k\/k=lr) W (cq (cq t (R (z<|G a) 0) az) (R (z (G a)+1) 0)<|eD q):=((f.mono (T:=λk=>an k\/k=lr) cL).trans i<|λk g=>.inl<|.inr g).trans B (by
    rintro k(rfl|rfl)
    .exact .inl<|.inl b2
    .exact .inl (.inl b3))
   have o:(cq (cq t (R (z<|G a) 0) az) (R (z (G a)+1) 0)<|eD q).heap[lr]?=t.heap[lr]?:=B.block lr (ag (Nat.lt_succ_of_lt aV) bb) (by
    rintro(rfl|rfl)
    .exact ap b2
    .exact ap b3)
   have hZ:CZ r p a an (cq (cq t (R (z<|G a) 0) az) (R (z (G a)+1) 0)<|eD q):=⟨q,hX,aU,(j.set _).other _ (by omega),(l.other _<|by omega).set _,aa,au,b2,b3⟩;obtain⟨HZ,bg,bf⟩:=dz hZ ad o;clear u ba F hv s A j l B aU aa au ad o hZ f i;gi_wp2;exact⟨an,⟨rfl,HZ⟩,bg,bf,λk g=>.inl g⟩
  |inl bL=>
   have aU:y pre+1<=y e:=by
    rcases K with⟨L,h,hp⟩|⟨L,q',h,_⟩
    .have h1:=hp.length_le;have h2:=bS y h;simp at h2;omega
    .have:=mz h rfl;cases this
   have HC:=U C;have Q:=U w;clear C w K av;obtain⟨l,o,j,f⟩:=bL;unfold JW E.value;simp only;gi_wp2;refine⟨(cF _ _),λt i=>?_⟩;have u:wV r p a (y e) pre an t:=((HC.stays ((Z.refl ay W).alloc<|aw #[am l,am o,aN j,aE f] 171) cL).stays i<|λk g=>by grind);have au:iM t (z<|G W) ⟨l,o,j,f⟩:=iM.aj (aJ _ rfl) i (by omega);obtain⟨d,hv,s,A⟩:=u.row;have bp:aW t (R (z (G a)+1+1) 0)=H d:=hv.cell;have cn:t.frozen? (R (z (G a)+1+1) 0)=aX:=hv.free;obtain⟨V,T,aD⟩:=aB s;obtain⟨cj,ck,cl,cm⟩:=au.cells;have cd:=ak au;have ce:=ak hv;have bg:z (G a)+3<=z (G t):=by have:=u.aj.size;have:=i.size;grind
   obtain⟨ba,HV,S,ao,bd⟩:=iO u hv s A i;clear u au hv s A i;subst aD;gi_wp2_with(first
    |(gi_at_builtin;refine fi _ rfl (.tmp 14) (.tmp 16) 87 rfl (z (G a)+3) 171 i0 wo 4 48 underlying87 bt bx bE aF rfl (by decide) (.slice V (y pre) T) (y pre) (aK pre) rfl (aT S (.cells #[.string l,.string o,.bool j,.int .u64 f] 171)) (R (z (G t)) 0) 1 1 (aK [⟨l,o,j,f⟩]) rfl rfl (wK _ ⟨l,o,j,f⟩ _) (BR _) (by omega) (by omega) (by simp;omega) ?_;intro v2 w3 F ad;obtain⟨cu,cp,rfl⟩:=aB F;have aa:eP w3 (z (G a)+1+1) (.slice V (y pre) T) 87:=(ad.grown.block _ (ak (HV.alloc (.cells #[.string l,.string o,.bool j,.int .u64 f] 171))) (λv=>by have:=(S.lt _ v.symm).1;omega)).trans (HV.alloc _);have ca:=aa.cell;have cc:=aa.free;clear aa;have bb:=U F;have bf:=U ad;clear F ad))
   obtain⟨B',q1,q2,q3⟩:=ba.more (x:=⟨l,o,j,f⟩) HV ao S aU bf bb;have i:=J bd;have aF:=i.size;simp at aF;have bv:Z (λk=>an k\/k=lr) W t:=((Z.refl (λk=>an k\/k=lr) W).alloc<|aw #[am l,am o,aN j,aE f] 171).trans i<|λk g=>.inl<|.inr g;refine⟨?_,B',⟨_,by simp,q1⟩,bv.trans q2<|λk g=>.inl<|.inl g,q2.block lr (by omega) ap,λk g=>?_⟩
   .refine r.eY (r.eY (r.eY Q (cF ay W) cL) i<|λk g=>by grind) q2<|λk g=>P k (HC.lt k g).1
   grind
 (case done=>rintro l' bc an W F bi⟨pre,rfl,C⟩N w hK;(obtain rfl:pre=e:=by rcases F with v|⟨j,q,v⟩;exact(tj (f:=Sum.inl (β:=M))<|λ_ _=>Sum.inl.inj).1 v;(have:Sum.inr q∈pre.map (Sum.inl (β:=M)):=by rw[v];simp);simp at this);obtain⟨d,hv,s,A⟩:=C.row;have bp:aW W (R (z (G a)+1+1) 0)=H d:=hv.cell;have bn:=C.uz.cell;have br:=C.uz.free;have bo:=C.err.cell;have bs:=C.err.free;obtain⟨V,T,aD⟩:=aB s;obtain⟨HC,HV,S,ao,Q,HK⟩:=lf C hv s A w hK;clear C hv s A w hK;subst aD;gi_wp2;have t:=J ao;have C:=J HC;have K:bc≠z (G a):=λv=>N<|(t _).2<|.inl v;have L:bc≠z (G a)+1:=λv=>N<|(t _).2<|.inr<|.inl v;have n3:¬cK (I V (y pre) T)=H bc:=λv=>N<|(t _).2<|.inr<|.inr<|.inr v;(have u:(cq (cq W (R (z<|G a) 0)<|I V (y pre) T) (R (z (G a)+1) 0) .nilIface).heap[bc]?=H (.deferred<|H []):=by rw[jd _ L,jd _ K];exact HK);have f:eP (cq (cq W (R (z<|G a) 0)<|I V (y pre) T) (R (z (G a)+1) 0) .nilIface) (z<|G a) (I V (y pre) T) 87:=(C.uz.set _).other _ (by omega);have i:eP (cq (cq W (R (z<|G a) 0)<|I V (y pre) T) (R (z (G a)+1) 0) .nilIface) (z (G a)+1) .nilIface 47:=(C.err.other _<|by omega).set _;have x:=gF (cq (cq W (R (z<|G a) 0)<|I V (y pre) T) (R (z (G a)+1) 0) .nilIface) bc<|.deferred none;have B:Z (λk=>k=z (G a)\/k=z (G a)+1) W (cq (cq W (R (z<|G a) 0)<|I V (y pre) T) (R (z (G a)+1) 0) .nilIface):=((Z.refl (λk=>k=z (G a)\/k=z (G a)+1) W).setCell _ 0 _<|.inl<|.inl rfl).setCell _ 0 _<|.inl<|.inr rfl;have l:=(B.mono (T:=λk=>k=z (G a)\/k=z (G a)+1\/k=bc)<|λk g=>.inl<|g.elim .inl<|λv=>.inr<|.inl v).trans x<|λk g=>.inl<|.inr<|.inr g;(have O:∀k,(k=z (G a)\/k=z (G a)+1\/k=bc)->z (G a)<=k:=by rintro k(v|v|v)<;>omega);refine⟨by simp,.inl ⟨_,_,rfl,run_takeDeferred u,?_⟩⟩;refine⟨_,tH rfl underlying87 _ _ (z<|G a) (z (G a)+1) (I V (y pre) T) .nilIface rfl rfl ?_ ?_,?_⟩;exact(eP.cell<|(x.block _ (ak f)<|λv=>K v.symm).trans f);exact(eP.cell<|(x.block _ (ak i)<|λv=>L v.symm).trans i);refine .inl ⟨_,rfl,?_,r.eY Q l<|λk g=>P k<|O k g,C.aj.trans l<|λk g=>.inr<|O k g⟩;have s:=J S;have hx:=l.own s (λk g v=>by have:=(s.lt k g).1;grind);obtain⟨h1,⟨h2,h0⟩|⟨aa,cp,o,h2,hb,j⟩⟩:=hx;exact⟨h1,.inl ⟨h2,h0⟩⟩;exact⟨h1,.inr ⟨aa,cp,o,h2,by omega,j⟩⟩)
end
def Fg:Option E->ab
 |some x=>.tuple #[x.value,.bool ci,.nilIface]
 |none=>.tuple #[wo,.bool aX,.nilIface]
def Jz(t:TypeId)(a b:ae):binOp .geq t (am a) (am b)=pure (aN !(Op.bytesLess a.toList b.toList)):=by simp[binOp,Op.stringOp]
def AP(O:ae)(A:X)(h:kC a d e)(C:dV e)(hl:y e<=1000000000000)(w:∀A,cK d=H A->A<z (G a)):cY aZ 304 #[d,am O,aE A] a λaa w'=>aa=aM (Fg<|iC A e O)/\Below (z<|G a) a w':=by
 have m:Below (z<|G a) a (cN a<|aw #[am ⟨#[]⟩,am ⟨#[]⟩,aN aX,aE 0] 171):=(Below.refl _ a).alloc (ah _) _;have L:=BN d O A (cN a<|aw #[am ⟨#[]⟩,am ⟨#[]⟩,aN aX,aE 0] 171) (h.below m w) C hl (λA b=>by have:=w A b;simp;omega);have n:=OW C O ⟨#[]⟩ aX A;have x:=U<|IW e ⟨O,⟨#[]⟩,aX,A⟩;generalize lj e ⟨O,⟨#[]⟩,aX,A⟩=p at*;by_cases s:p<y e;(·(have e1:((p:X)==(y e:X))=aX:=by simp;omega);(have e2:(p:X)<(y e:X):=by omega);(have e3:(0:X)<=(p:X):=by omega);obtain⟨P,⟨rfl,h0⟩|⟨u,b,ad,rfl,B,N⟩⟩:=h;omega;have v:=eI e p s;have t:=U N;have j:=w u rfl;by_cases k:e[p].key=O;(.rw[n,Ag ⟨s,k⟩];clear N w P B n C;subst k;generalize e[p]=al at*;obtain⟨F,K,E,D⟩:=al;simp only at v L;have r:=U v;clear v;(go_in);(go_wp2_with(go_at_call 150;refine L.mono ?_;rintro aa l⟨rfl,g⟩;have f:Below (z<|G a) a l:=m.trans<|g.mono m.size;have q0:aW l (R u<|b+p*4)=H (am F):=(f.cell (p:=(R u<|b+p*4)) j).trans<|t _ _ r.1;have q1:aW l (R u<|b+p*4+1)=H (am K):=(f.cell (p:=(R u<|b+p*4+1)) j).trans (by rw[bw];exact t _ _ r.2.1);have q2:aW l (R u<|b+p*4+2)=H (aN E):=(f.cell (p:=(R u<|b+p*4+2)) j).trans (by rw[bw];exact t _ _ r.2.2.1);have q3:aW l (R u<|b+p*4+3)=H (aE D):=(f.cell (p:=(R u<|b+p*4+3)) j).trans (by rw[bw];exact t _ _ r.2.2.2);have c:iM l (z<|G a) ⟨⟨#[]⟩,⟨#[]⟩,aX,0⟩:=(g.block _<|by simp).trans<|aJ _ rfl;obtain⟨W,z1,z2,z3⟩:=c.cells;have Q:=c.free (i:=0);have S:=c.free (i:=1);have T:=c.free (i:=2);have V:=c.free (i:=3);have q:=U c;have o:=U f;clear c f g));refine ct (fD rfl _ _ (z<|G a) ⟨F,K,E,D⟩ _ _ rfl<|q.put ⟨F,K,E,D⟩) rfl ?_;exact⟨rfl,(((o.setCell (p:=(R (z<|G a) 0)) (ah _) _).setCell (p:=(R (z<|G a) 1)) (ah _) _).setCell (p:=(R (z<|G a) 2)) (ah _) _).setCell (p:=(R (z<|G a) 3)) (ah _) _⟩);have e4:=IJ k;rw[n,dif_neg<|λac=>k ac.2];clear N w P B n C k;generalize e[p]=al at*;obtain⟨F,K,E,D⟩:=al;simp only at v e4;have r:=U v;clear v;(go_in);(go_wp2_with(go_at_call 150;refine L.mono ?_;rintro aa l⟨rfl,g⟩;have f:Below (z<|G a) a l:=m.trans<|g.mono m.size;have q0:aW l (R u<|b+p*4)=H (am F):=(f.cell (p:=(R u<|b+p*4)) j).trans<|t _ _ r.1;have q1:aW l (R u<|b+p*4+1)=H (am K):=(f.cell (p:=(R u<|b+p*4+1)) j).trans (by rw[bw];exact t _ _ r.2.1);have q2:aW l (R u<|b+p*4+2)=H (aN E):=(f.cell (p:=(R u<|b+p*4+2)) j).trans (by rw[bw];exact t _ _ r.2.2.1);have q3:aW l (R u<|b+p*4+3)=H (aE D):=(f.cell (p:=(R u<|b+p*4+3)) j).trans (by rw[bw];exact t _ _ r.2.2.2);have c:iM l (z<|G a) ⟨⟨#[]⟩,⟨#[]⟩,aX,0⟩:=(g.block _<|by simp).trans<|aJ _ rfl;obtain⟨W,z1,z2,z3⟩:=c.cells;have Q:=c.free (i:=0);have S:=c.free (i:=1);have T:=c.free (i:=2);have V:=c.free (i:=3);have q:=U c;have o:=U f;clear c f g));refine ct (fD rfl _ _ (z<|G a) ⟨⟨#[]⟩,⟨#[]⟩,aX,0⟩ _ _ rfl<|q.put ⟨⟨#[]⟩,⟨#[]⟩,aX,0⟩) rfl ?_;exact⟨rfl,(((o.setCell (p:=(R (z<|G a) 0)) (ah _) _).setCell (p:=(R (z<|G a) 1)) (ah _) _).setCell (p:=(R (z<|G a) 2)) (ah _) _).setCell (p:=(R (z<|G a) 3)) (ah _) _⟩);(have b:p=y e:=by have:=J x;omega);rw[n,dif_neg<|λac=>s ac.1];have j:=bY h;clear h C n s w x;subst b;obtain⟨r,k,rfl⟩:=j;(have e1:((y e:X)==(y e:X))=ci:=by simp);(go_in);(go_wp2_with(go_at_call 150;refine L.mono ?_;rintro aa l⟨rfl,g⟩;have f:Below (z<|G a) a l:=m.trans<|g.mono m.size;have c:iM l (z<|G a) ⟨⟨#[]⟩,⟨#[]⟩,aX,0⟩:=(g.block _<|by simp).trans<|aJ _ rfl;obtain⟨W,z1,z2,z3⟩:=c.cells;have Q:=c.free (i:=0);have S:=c.free (i:=1);have T:=c.free (i:=2);have V:=c.free (i:=3);have q:=U c;have o:=U f;clear c f g));refine ct (fD rfl _ _ (z<|G a) ⟨⟨#[]⟩,⟨#[]⟩,aX,0⟩ _ _ rfl<|q.put ⟨⟨#[]⟩,⟨#[]⟩,aX,0⟩) rfl ?_;exact⟨rfl,(((o.setCell (p:=(R (z<|G a) 0)) (ah _) _).setCell (p:=(R (z<|G a) 1)) (ah _) _).setCell (p:=(R (z<|G a) 2)) (ah _) _).setCell (p:=(R (z<|G a) 3)) (ah _) _⟩
def NH(ao:ab)(w:Y)(h:kC w ao e)(D:dV e)(hl:y e<=1000000000000)(F:∀ap,cK ao=H ap->ap<z (G w)):cY aZ 306 #[ao] w λau w'=>au=aM (aN ci)/\Below (z<|G w) w w':=by
 have x:∀(W:Bool)(w:Y),(Op.unary .not<|aN W).run aZ w=.ok (aN<|!W) w:=λ_ _=>rfl;obtain⟨h1,⟨rfl,h0⟩|⟨i,a,aa,rfl,al,v⟩⟩:=h;(·(go_in);go_wp2;(go_loop [6] (λK=>K=ar 0) (λ_=>0));(case atStart=>rfl);(case round=>obtain rfl:=hrel;go_wp2;go_ret;exact⟨rfl,Below.refl _ _⟩));(.have HC:=U v;have HS:=U D;have n:=F i rfl;clear v D h1 F;(go_in);go_wp2;(go_loopw [6] (λK wr=>∃o:M,o<=y e/\K=ar o/\Below (z<|G w) w wr) (λK _=>y e-(intOf K).toNat));(case atStart=>exact⟨0,bP _,rfl,Below.refl _ _⟩);(case round=>obtain⟨o,an,rfl,d⟩:=hrel;have HB:=U d;by_cases k:o<y e;(.rcases gB o with l|l;(.subst l;clear d;go_wp2;(go_quiet(fail));go_wp2;go_roundw;(case rel=>exact⟨1,by omega,rfl,below_drewN HB _⟩);case measure=>simp[intOf];omega);(.obtain⟨p,rfl⟩:∃p,o=p+1:=⟨o-1,by omega⟩;(have A:p<y e:=by omega);have b:∀j u,(aK e)[j]?=H u->aW wr (R i<|a+j)=H u:=λj u c=>(d.cell (p:=(R i<|a+j)) n).trans<|HC j u c;have f:=eI e p A;have g:=eI e (p+1) k;have r:=b _ _ f.1;have c1:=b _ _ f.2.1;have c2:=b _ _ f.2.2.1;have c3:=b _ _ f.2.2.2;have d0:=b _ _ g.1;have s:=b _ _ g.2.1;have t:=b _ _ g.2.2.1;have u:=b _ _ g.2.2.2;simp only[<-bw]at c1 c2 c3 s t u;have m:=λW=>Cp e[p] e[p+1] W;rw[cU.1 (J HS) p (p+1) A k<|by omega]at m;have ad:i<z (G wr):=cC _ _ r;clear f g d b;generalize e[p]=W at*;generalize e[p+1]=q at*;obtain⟨O,P,N,L⟩:=W;obtain⟨T,V,S,Q⟩:=q;unfold E.value at m;simp only at m r c1 c2 c3 d0 s t u;(have C:(0:X)<(p:X)+1:=by omega);(have e2:(0:X)<=(p:X):=by omega);(have e3:(p:X)<(y e:X):=by omega);(have e4:(0:X)<=(p:X)+1:=by omega);(have e5:(p:X)+1<(y e:X):=by omega);(have e9:IntKind.i64.wrap (p:X)=(p:X):=by rw[bN];omega);(have ac:wrap64 (p:X)=(p:X):=by unfold wrap64;omega);(go_wp2_with fail);(go_region_held3(λc=>aW c (R i<|a+p*4)=H (am O)/\aW c (R i<|a+p*4+1)=H (am P)/\aW c (R i<|a+p*4+2)=H (aN N)/\aW c (R i<|a+p*4+3)=H (aE L)/\aW c (R i<|a+(p+1)*4)=H (am T)/\aW c (R i<|a+(p+1)*4+1)=H (am V)/\aW c (R i<|a+(p+1)*4+2)=H (aN S)/\aW c (R i<|a+(p+1)*4+3)=H (aE Q)) (first|assumption|go_keep) (first|(go_at_call 212;refine(m _).mono ?_;rintro au w1⟨rfl,rfl⟩)));go_wp2;go_roundw;(case rel=>have j:Below (z<|G wr) wr (cN (cN wr<|aw #[am O,am P,aN N,aE L] 171)<|aw #[am T,am V,aN S,aE Q] 171):=((Below.refl _ wr).alloc (ah _) _).alloc (by simp) _;refine⟨p+1+1,by omega,by go_num,HB.trans ?_⟩;exact Below.mono (B:=z<|G wr) ⟨j.os,j.tape,j.output,j.size,j.block⟩ HB.size);case measure=>simp[intOf];omega));clear d;go_wp2;go_ret;exact⟨rfl,HB⟩))
def Bytes.shape(h:Bytes a d n):d=az/\n=[]\/∃f b c,d=bD f b (y n) c/\y n<=c:=by
 rcases h with h|⟨f,b,c,h,e,_⟩;exact .inl h;grind
def kM:Option M->ab
 |none=>.pointer none
 |some g=>.pointer<|H<|R g 0
abbrev Mv:=ae×Option M
def yM(p:Mv):gW:=[am p.1,kM p.2]
def rK(l:cJ Mv):gW:=l.flatMap yM
def Jf(l:cJ Mv)(i:M)(h:i<y l):(rK l)[i*2]?=H (am l[i].1)/\(rK l)[i*2+1]?=H (kM l[i].2):=by
 induction l generalizing i with
 |nil=>simp at h
 |cons p r a=>
  cases i with
  |zero=>simp[rK,yM]
  |succ i=>
   have:=a i (by simpa using h);have e:(i+1)*2=i*2+2:=by omega
   rw[e];simpa[rK,yM]using this
def WW(w:Y)(v:ab)(l:cJ Mv):Prop:=Row w 2 v (y l)<|rK l
def LB(m:fK)(x:Mv):fK:=match x.2 with
 |none=>m.del x.1
 |some g=>m.put x.1<|kM<|H g
def oT(m:fK)(l:cJ Mv):fK:=l.foldl LB m
def LA(m:fK)(l:cJ Mv)(n:M)(h:n<y l):oT m (l.take<|n+1)=LB (oT m<|l.take n) l[n]:=by
 unfold oT;rw[ai h,gK];rfl
def rl(h:aW a (R b c)=H d):b<z (G a):=by
 by_cases e:b<z (G a);exact e;unfold World.cell? at h;rw[kJ<|by simpa using e]at h;simp at h
def gM.ne{m:fK}(l:gM a b m)(h:aW a (R c g)=H d):c≠b:=by
 obtain⟨k,e,i,_⟩:=l;intro j;subst j;simp[World.cell?,i]at h
def Hl(K:fK)(p:cJ Mv)(v:gM a b K)(S:WW a d p)(hr:y p<=1000000000000):cY aZ 35 #[.map<|H b,d] a λac N=>ac=aM (dq #[])/\gM N b (oT K p)/\a.grownBy N (H b):=by
 obtain⟨Q,⟨rfl,P⟩|⟨D,j,O,rfl,V,E⟩⟩:=S;(.obtain rfl:p=[]:=aL P;have t:=U v;clear v;(go_in);go_wp2;(go_loopw [8] (λF wr=>F=ar 0/\wr=a) (λ_ _=>0));(case atStart=>grind);(case round=>obtain⟨rfl,rfl⟩:=hrel;go_wp2;go_end0;exact⟨rfl,t,Fe _ _⟩))
 .have w:=U E;have t:=U v;clear E Q v;go_in
  go_wp2;go_loopw [8] (λF wr=>∃n:M,n<=y p/\F=ar n/\gM wr b (oT K<|p.take n)/\a.grownBy wr (H b)) (λF _=>y p-(intOf F).toNat)
  case atStart=>exact⟨0,bP _,rfl,t,Fe _ _⟩
  case round=>
   obtain⟨n,hn,rfl,e,g⟩:=hrel;by_cases r:n<y p
   .have u:=Jf p n r;have m:=w _ _ u.1;have q:=rl m;have s:=t.ne m;have c:wr.heap[D]?=a.heap[D]?:=g.block D q (by simpa using s);have x:aW wr (R D<|j+n*2)=H (am p[n].1):=(dt (w:=a) c).trans<|w _ _ u.1;have o:aW wr (R D<|j+n*2+1)=H (kM p[n].2):=(dt (w:=a) c).trans (by rw[bw];exact w _ _ u.2);have C:=U<|LA K p n r;clear u m c q s;generalize oT K (p.take n)=aa at*;generalize p[n]=ad at*;obtain⟨L,W⟩:=ad;simp only at x o;have A:=U<|λv=>e.alloc v;have B:=U<|λv=>g.trans<|dD wr v<|H b;clear e g;cases W with
    |none=>
     simp only[kM]at o;go_wp2_with(first
      |(at_delete;refine DG _ rfl _ _ 59 9 rfl 102 underlying59 underlying9 b aa rfl (A _) L rfl ?_;intro w2 i f;have l:=U i;have k:=U f;clear i f))
     go_roundw;case rel=>exact⟨n+1,by omega,by go_num,by rw[J C];exact l,(B _).trans k⟩
     case measure=>simp[intOf];omega
    |some al=>
     simp only[kM]at o;go_wp2_with(first
      |(at_mapUpdate;refine xH _ rfl _ _ _ 59 rfl 9 102 underlying59 underlying9 b aa rfl (A _) L _ rfl rfl ?_;intro w2 i f;have l:=U i;have k:=U f;clear i f))
     go_roundw;case rel=>exact⟨n+1,by omega,by go_num,by rw[J C];exact l,(B _).trans k⟩
     case measure=>simp[intOf];omega
   .have i:n=y p:=by omega
    subst i;have f:=U e;have c:=U g;clear e g;go_wp2;go_end0;have:=J f;rw[bI]at this;exact⟨rfl,this,c⟩
def Rd.laid{rest:eR}(h:Rd a b rest P)(d:a.grownBy f none):Rd f b rest P:=by
 obtain⟨v,e,g,c⟩:=h;refine⟨v,(d.block b (ak e)<|by simp).trans e,g.grown d ?_,c⟩;grind
def Rd.lt{rest:eR}(h:Rd a c rest P):c<z (G a):=by
 obtain⟨v,d,_⟩:=h;exact ak d
def Rd.put{rest:eR}(D:Rd A c rest P)(u:iM A g w)(n:c≠g)(h:E):Rd (vH A g h) c rest P:=by
 obtain⟨F,o,v,B⟩:=D;have r:=iL A g h;refine⟨F,(r.block c (ak o) n).trans o,?_,B⟩;rcases v with⟨s,t⟩|⟨b,d,i,s,l,x⟩;exact .inl ⟨s,t⟩;refine .inr ⟨b,d,i,s,l,λC q=>?_⟩;have e:=x C q;(have k:b≠g:=by rintro rfl;rw[cg u,aQ q]at e;grind);have m:b<z (G A):=cC A (R b<|d+C) e;have j:=r.block b m k;rw[dt (w:=A) (w':=vH A g h) (a:=(R b<|d+C)) j];exact e
def Z.VM(h:Z (λk=>k=b) a f):a.grownBy f (H b):=⟨h.os,h.tape,h.output,h.size,λk c d=>h.block k c<|λe=>d<|by rw[e]⟩
def iM.grown{e w':Y}(h:iM e b w)(a:e.grownBy w' (H c))(d:c≠b):iM w' b w:=(a.block b (ak h)<|by grind).trans h
def Aw{c:Func}{p u:Tmp}(i:c.results=#[.cell p 171,.tmp u])(a:Array ab)(w:Y)(g:M)(x:E)(t:TypeId)(d:M×M)(h:a.getD p iH=aA g)(e:w.heap[g]?=H (aw #[am x.key,am x.val,aN x.del,aE x.bO] t d)):(results c a).run aZ w=.ok (dq #[x.value,a.getD u iH]) w:=by
 have b:a[p]?.getD iH=aA g:=by simpa using h
 have f:=ku (P:=aZ) w g t 171 #[am x.key,am x.val,aN x.del,aE x.bO] d _ e underlying171 rfl (by kernel_rfl);simp[results,i,b,asAddr,f,Result.andThen,E.value]
def GD(m:M){x:E}(a:eR)(C:Y)(h:Rd C m (oq x++a) aX)(B:kh (oq x++a))(hr:y (oq x++a)<=140737488351232)(hx:x.Good):cY aZ 148 #[aA m] C λal w'=>al=aM (dq #[E.value {x with bO:=0},aN ci])/\Rd w' m a aX/\C.grownBy w' (H m):=by
 obtain⟨b,c,s,r⟩:=x;have au:=hx.VA;have av:=hx.Mf;have hv:=hx.val;have hd:=hx.del;simp only at au av hv hd;have e0:oq ⟨b,c,s,r⟩++a=oV s::(eF b++(eF c++a)):=by simp[oq]
 rw[e0]at h B hr;have A:kh (eF b++(eF c++a)):=λad hy=>B ad<|du _ hy;have K:kh (eF c++a):=λad hy=>A ad<|kY _ hy;have W:y (eF b++(eF c++a))<=140737488351232:=by grind
 have ax:y (eF c++a)<=140737488351232:=by rw[af]at W;omega
 have k:=λan(S:Rd an m (oV s::(eF b++(eF c++a))) aX)=>FB S B hr;have v:=λan(S:Rd an m (eF b++(eF c++a)) aX)=>DO S A W;have w:=λan(S:Rd an m (eF c++a) aX)=>DO S K ax;obtain⟨ka,kb⟩:=Md s<|eF b++(eF c++a);obtain⟨ta,_⟩:=vZ b<|eF c++a;obtain⟨N,_⟩:=vZ c a;simp only[ka,kb]at k;simp only[ta,wa]at v;simp only[N,wa]at w;have aD:=λan(S:Rd an m a aX)=>GM S;have T:=qQ b;have V:=yo c;have bc:∀(x:Bool)(C:Y),(Op.unary .not<|aN x).run aZ C=.ok (aN<|!x) C:=λ_ _=>rfl;have ao:decide (1<=b.size/\b.size<=8)=ci:=by simp[au,av]
 have ap:decide (c.size<=16)=ci:=by simp[hv]
 rw[ao]at T;rw[ap]at V;have F:=λan=>T an (by omega);have L:=λan=>V an (by omega);have bd:=h.lt;have HR:=U<|h.laid<|dD C (aw #[am ⟨#[]⟩,am ⟨#[]⟩,aN aX,aE 0] 171) none;clear h B A K hr W ax ka kb ta N e0 hx T V ao ap;cases s with
 |true=>
  have aU:c=⟨#[]⟩:=hd rfl;subst aU;simp only[oV]at k;go_in
  go_wp2_with(first
   |(go_at_call 147;refine(k _<|J HR).mono ?_;rintro al w1⟨rfl,t,f⟩;have P:=U t;have o:=U f;have aV:=f.size;clear t f k)
   |(go_at_call 193;refine(v _<|J P).mono ?_;rintro al w2⟨rfl,u,g⟩;have Q:=U u;have p:=U g;have ba:=g.size;clear u g v)
   |(go_at_call 193;refine(w _<|J Q).mono ?_;rintro al D⟨rfl,j,e⟩;have q:=U j;have O:=U e;have bb:=e.size;have d:iM D (z<|G C) zE:=(((iM.grown (aJ _ rfl) (J o)<|by omega).grown (J p)<|by omega).grown e<|by omega);obtain⟨z0,z1,z2,z3⟩:=d.cells;have y0:=d.free (i:=0);have y1:=d.free (i:=1);have y2:=d.free (i:=2);have y3:=d.free (i:=3);have aF:=ak d;have n:=U d;clear j e w d)
   |(go_at_call 137;refine(aD _<|(J q).laid<|dD D _ none).mono ?_;rintro al w4⟨rfl,rfl⟩)
   |(go_at_call 70;refine(F _).mono ?_;rintro al w5⟨rfl,rfl⟩)
   |(go_at_call 71;refine(L _).mono ?_;rintro al w6⟨rfl,rfl⟩))
  refine ct (Aw rfl _ _ (z<|G C) ⟨b,⟨#[]⟩,ci,0⟩ _ _ rfl<|((J n).put ⟨b,⟨#[]⟩,ci,0⟩).alloc _) rfl ?_;have j:=J q;have f:=J o;have g:=J p;have e:=J O;have aa:=(j.put (J n) (by omega) (⟨b,⟨#[]⟩,ci,0⟩:E)).laid<|dD _ (aw #[am (⟨b,⟨#[]⟩,ci,0⟩:E).key,am (⟨b,⟨#[]⟩,ci,0⟩:E).val,aN (⟨b,⟨#[]⟩,ci,0⟩:E).del,aE (⟨b,⟨#[]⟩,ci,0⟩:E).bO] 171) none;have ht:Z (λac=>ac=m) C ((vH D (z<|G C) (⟨b,⟨#[]⟩,ci,0⟩:E)).alloc<|aw #[am (⟨b,⟨#[]⟩,ci,0⟩:E).key,am (⟨b,⟨#[]⟩,ci,0⟩:E).val,aN (⟨b,⟨#[]⟩,ci,0⟩:E).del,aE (⟨b,⟨#[]⟩,ci,0⟩:E).bO] 171):=by
   refine((((((cF (λac=>ac=m) C).trans (fA f)<|λac l=>.inl l).trans (fA g)<|λac l=>.inl l).trans (fA e)<|λac l=>.inl l).trans (iL D (z<|G C) (⟨b,⟨#[]⟩,ci,0⟩:E))<|λac l=>.inr<|by omega).alloc _)
  exact⟨rfl,aa,ht.VM⟩
 |false=>
  simp only[oV]at k;go_in
  go_wp2_with(first
   |(go_at_call 147;refine(k _<|J HR).mono ?_;rintro al w1⟨rfl,t,f⟩;have P:=U t;have o:=U f;have aV:=f.size;clear t f k)
   |(go_at_call 193;refine(v _<|J P).mono ?_;rintro al w2⟨rfl,u,g⟩;have Q:=U u;have p:=U g;have ba:=g.size;clear u g v)
   |(go_at_call 193;refine(w _<|J Q).mono ?_;rintro al D⟨rfl,j,e⟩;have q:=U j;have O:=U e;have bb:=e.size;have d:iM D (z<|G C) zE:=(((iM.grown (aJ _ rfl) (J o)<|by omega).grown (J p)<|by omega).grown e<|by omega);obtain⟨z0,z1,z2,z3⟩:=d.cells;have y0:=d.free (i:=0);have y1:=d.free (i:=1);have y2:=d.free (i:=2);have y3:=d.free (i:=3);have aF:=ak d;have n:=U d;clear j e w d)
   |(go_at_call 137;refine(aD _<|(J q).laid<|dD D _ none).mono ?_;rintro al w4⟨rfl,rfl⟩)
   |(go_at_call 70;refine(F _).mono ?_;rintro al w5⟨rfl,rfl⟩)
   |(go_at_call 71;refine(L _).mono ?_;rintro al w6⟨rfl,rfl⟩))
  refine ct (Aw rfl _ _ (z<|G C) ⟨b,c,aX,0⟩ _ _ rfl<|((J n).put ⟨b,c,aX,0⟩).alloc _) rfl ?_;have j:=J q;have f:=J o;have g:=J p;have e:=J O;have aa:=(j.put (J n) (by omega) (⟨b,c,aX,0⟩:E)).laid<|dD _ (aw #[am (⟨b,c,aX,0⟩:E).key,am (⟨b,c,aX,0⟩:E).val,aN (⟨b,c,aX,0⟩:E).del,aE (⟨b,c,aX,0⟩:E).bO] 171) none;have ht:Z (λac=>ac=m) C ((vH D (z<|G C) (⟨b,c,aX,0⟩:E)).alloc<|aw #[am (⟨b,c,aX,0⟩:E).key,am (⟨b,c,aX,0⟩:E).val,aN (⟨b,c,aX,0⟩:E).del,aE (⟨b,c,aX,0⟩:E).bO] 171):=by
   refine((((((cF (λac=>ac=m) C).trans (fA f)<|λac l=>.inl l).trans (fA g)<|λac l=>.inl l).trans (fA e)<|λac l=>.inl l).trans (iL D (z<|G C) (⟨b,c,aX,0⟩:E))<|λac l=>.inr<|by omega).alloc _)
  exact⟨rfl,aa,ht.VM⟩
def SJ:(prog.info? 100).map (λi=>(i.zero,i.size,i.bytes))=H (H az,1,24):=by kernel_rfl
def oZ(w:Y)(x:ab)(t:TypeId):∀j u,[x][j]?=H u->aW (cN w<|aw #[x] t) (((R (z<|G w) 0):Addr).add j)=H u:=by
 intro j u a;rw[dB];simp_all
structure FL(w w':Y)(db nb sb:M)(mv:ab)(fx:Iw)(m:fK)(n:M)(xs:gW)(mv':ab):Prop where
 ie:jQ w' db nb sb mv' fx
 now:gM w' nb m
 steps:w'.ownsRow 0 100 1 mv' n xs
 aj:Z (λk=>k=db\/k=nb\/cK mv=H k) w w'
 own:cK mv'=cK mv\/∃g,cK mv'=H g/\z (G w)<=g
def EM{N:Iw}(au:fK)(A:cJ Mv)(h:jQ f b c g d N)(P:gM f c au)(hl:WW f s A)(hr:y A<=1000000000000)(F:f.ownsRow 0 100 1 d m B)(hn:m<=1000000000000):cY aZ 157 #[aA b,s] f λt w'=>t=aM (dq #[])/\∃ap,FL f w' b c g d N (oT au A) (m+1) (B++[s]) ap:=by
 obtain⟨i0,ad,al,an,ao⟩:=di SJ;have HS:=U<|Hl au A P hl hr;obtain⟨x,u,rfl⟩:=bY hl;have V:=cellAt h 0 rfl;have v:b≠c:=P.ne V;have E:cK d≠H b:=zM F h (by decide);have w:cK d≠H c:=by intro t;obtain⟨p,o⟩:=fE F t;obtain⟨L,K,D,_⟩:=P;rw[D]at o;cases o
 have l:∀i p k,gM i c (oT au A)->f.grownBy i (H c)->k.ownsRow 0 100 1 p (m+1) (B++[I x (y A) u])->eE (cN i<|aw #[I x (y A) u] 100) k d p->aW k (R b 2)=H d/\k.frozen? (R b 2)=aX/\FL f (cq k (R b 2) p) b c g d N (oT au A) (m+1) (B++[I x (y A) u]) p:=by intro i p k n e K o;have W:i.heap[b]?=f.heap[b]?:=e.block b (ak h) (by simpa using v);have D:b<z (G i):=ag (ak h) e.size;have ac:(cN i<|aw #[I x (y A) u] 100).heap[b]?=f.heap[b]?:=(Below.heap_alloc i _ b D).trans W;have aa:k.heap[b]?=f.heap[b]?:=(o.grown.block b (by simp;omega)<|λt=>E t.symm).trans ac;have O:jQ k b c g d N:=aa.trans h;have L:cK p≠H b:=zM K O (by decide);refine⟨by rw[cg O];rfl,cP O,⟨?_,?_,?_,?_,?_⟩⟩;unfold jQ;rw[aH O];rfl;exact((n.alloc _).kept o.grown<|λt=>w t.symm).kept (dN k b 2 p) (by grind);exact K.kept (dN k b 2 p)<|.inr L;refine((Z.ee e<|by grind).alloc<|aw #[I x (y A) u] 100).trans (T:=λk=>cK d=H k) (Z.ee o.grown<|λk t=>.inl t) (λc t=>.inl<|.inr<|.inr t)|>.setCell b 2 p (.inl<|.inl rfl);rcases o.vp with t|⟨aF,t,hg⟩;exact .inl t;exact .inr ⟨aF,t,by have:=e.size;simp at hg;omega⟩
 obtain⟨HG,HO,Q⟩:=dz l (λi(e:f.grownBy i (H c))=>(F.kept e<|.inr w).alloc<|aw #[I x (y A) u] 100)<|λi(e:f.grownBy i (H c))=>(dt (w:=f) (a:=(R b 2))<|e.block b (ak h)<|by simpa using v).trans (show aW f (R b 2)=H d by rw[cg h];rfl);obtain⟨xm,cm,rfl⟩:=aB F;clear h P hl F l E w v;go_in
 go_wp2_with(first
  |(go_at_call 35;refine HS.mono ?_;rintro t i⟨rfl,n,e⟩;have av:=Q i e;have S:=U n;have C:=U e;clear n e)
  |(at_builtin;refine cA _ rfl (.tmp 14) (.tmp 16) 60 rfl 0 100 i0 az 1 24 underlying60 ad al an ao rfl (by decide) _ m B rfl (HO i C) (R (z (G i)) 0) 1 1 [.slice x (y A) u] rfl rfl (oZ _ _ _) (by simp[Value.oneCell']) (by omega) (by omega) (bP _) ?_;intro v2 k j r;obtain⟨ax,aD,q⟩:=HG i v2 k S C j r;obtain⟨x2,c2,rfl⟩:=aB j;have HF:=U q;clear j r q))
 go_end0;exact⟨rfl,_,HF⟩
structure da where
 name:ae
 pa:M
 data:ab
 bytes:eR
 safe:X
def da.nm(f:da):ae×ab:=(f.name,kM<|H f.pa)
structure DK where
 nb:M
 sb:M
 mv:ab
 fx:Iw
 files:cJ da
 sm:fK
 gT:cJ (ab×cJ Mv)
variable{i x:DK}
def fB(a:cJ da):M:=(a.map (·.bytes.length)).sum
def wL(w:Y)(f:da):Prop:=w.heap[f.pa]?=H (aw #[f.data,ar f.safe] 105 (0,0))/\fc w 0 f.data f.bytes/\kh f.bytes
def tZ(w:Y)(x:ab×cJ Mv):Prop:=WW w x.1 x.2/\y x.2<=2/\∀k,cK x.1=H k->∃a b,w.heap[k]?=H (aw a 165 b)
def mW(f g:da):Prop:=f.pa≠g.pa/\∀k,cK f.data=H k->cK g.data≠H k
def mW.symm{f g:da}(h:mW f g):mW g f:=⟨λe=>h.1 e.symm,λk e a=>h.2 k a e⟩
structure cG(w:Y)(db:M)(K:DK):Prop where
 ie:jQ w db K.nb K.sb K.mv K.fx
 now:gM w K.nb (K.files.map da.nm)
 safe:gM w K.sb K.sm
 ne:K.nb≠K.sb
 steps:w.ownsRow 0 100 1 K.mv (y K.gT) (K.gT.map (·.1))
 each:∀x∈K.gT,tZ w x
 files:∀f∈K.files,wL w f
 apart:K.files.Pairwise mW
 wS:K.fx.ok
 room:(fB K.files:X)<=K.fx.room
 kK:K.fx.room<=1099511627776
def DK.aO(a:M)(K:DK)(k:M):Prop:=k=a\/k=K.nb\/k=K.sb\/cK K.mv=H k\/(∃x∈K.gT,cK x.1=H k)\/∃f∈K.files,f.pa=k\/cK f.data=H k
def wL.aj{S:eV}{w w':Y}{f:da}(h:wL w f)(a:Z S w w')(c:¬S f.pa)(d:∀k,cK f.data=H k->¬S k):wL w' f:=⟨(a.block _ (ak h.1) c).trans h.1,a.own h.2.1 d,h.2.2⟩
def tZ.aj{S:eV}{w w':Y}{x:ab×cJ Mv}(n:tZ w x)(e:Z S w w')(c:∀k,cK x.1=H k->¬S k):tZ w' x:=by
 obtain⟨j,l,m⟩:=n;refine⟨e.row j<|λk g=>⟨c k g,?_⟩,l,λk g=>?_⟩;grind
 obtain⟨a,h,d⟩:=m k g;exact⟨a,h,(e.block k (ak d)<|c k g).trans d⟩
def gM.aj{S:eV}{w w':Y}{b:M}{m:fK}(j:gM w b m)(h:Z S w w')(e:¬S b):gM w' b m:=by
 obtain⟨d,c,a,g⟩:=j;exact⟨d,c,(h.block b (ak a) e).trans a,g⟩
def gM.tag{m:fK}(h:gM a b m){d:M×M}(j:a.heap[g]?=H (aw V c d)):g≠b:=by
 obtain⟨f,e,i,_⟩:=h;grind
theorem kw{d:Array ab}{e f:M×M}(h:a.heap[b]?=H (aw V g e))(i:a.heap[c]?=H (aw d m f))(j:g≠m):b≠c:=by
 grind
def cG.lt(h:cG a c i):∀k,i.aO c k->k<z (G a):=by
 rintro k(rfl|rfl|rfl|e|⟨x,j,e⟩|⟨f,d,rfl|e⟩);exact ak h.ie;exact h.now.lt;exact h.safe.lt;exact(bM h.steps k e).2;obtain⟨_,_,g⟩:=(h.each x j).2.2 k e;exact ak g;exact ak (h.files f d).1;exact(bM (h.files f d).2.1 k e).2
def cG.aj{S:eV}{w w':Y}{K:DK}(h:cG w c K)(d:Z S w w')(a:∀k,K.aO c k->¬S k):cG w' c K where
 ie:=(d.block c (ak h.ie)<|a _<|.inl rfl).trans h.ie
 now:=h.now.aj d<|a _<|.inr<|.inl rfl
 safe:=h.safe.aj d<|a _<|.inr<|.inr<|.inl rfl
 ne:=h.ne
 steps:=d.own h.steps<|λ_ e=>a _<|.inr<|.inr<|.inr<|.inl e
 each x hx:=(h.each x hx).aj d<|λ_ e=>a _<|.inr<|.inr<|.inr<|.inr<|.inl ⟨x,hx,e⟩
 files f hf:=(h.files f hf).aj d (a _<|.inr<|.inr<|.inr<|.inr<|.inr ⟨f,hf,.inl rfl⟩)<|λ_ e=>a _<|.inr<|.inr<|.inr<|.inr<|.inr ⟨f,hf,.inr e⟩
 apart:=h.apart
 wS:=h.wS
 room:=h.room
 kK:=h.kK
def cG.alloc{w:Y}(h:cG w b i)(o:Obj):cG (cN w o) b i:=h.aj ((Z.refl ay w).alloc o)<|λ_ _=>id
def cG.named{K:DK}{B:cJ Mv}{l:cJ da}(j:cG a b K)(k:FL a f b K.nb K.sb K.mv K.fx (l.map da.nm) (y K.gT+1) (K.gT.map (·.1)++[d]) s)(D:tZ a (d,B))(q:∀r∈l,wL a r)(w:l.Pairwise mW)(A:fB l<=fB K.files):cG f b {K with mv:=s,files:=l,gT:=K.gT++[(d,B)]}:=by
 have m:∀{n u:M}{g:Array ab}{o:M×M},a.heap[n]?=H (aw g u o)->u≠62->u≠100->¬(n=b\/n=K.nb\/cK K.mv=H n):=by rintro n u g o t v C(e|e|e);exact kw t j.ie v e;exact j.now.tag t e;obtain⟨c,p⟩:=fE j.steps e;grind
 have i:∀x,tZ a x->tZ f x:=λx h=>h.aj k.aj (λn e=>by obtain⟨c,o,g⟩:=h.2.2 n e;grind);refine⟨k.ie,k.now,j.safe.aj k.aj ?_,j.ne,?_,?_,?_,w,j.wS,sE (Int.ofNat_le.2 A) j.room,j.kK⟩;rintro(e|e|e);exact j.safe.tag j.ie e.symm;exact j.ne e.symm;obtain⟨c,p⟩:=fE j.steps e;exact j.safe.tag p rfl;have:=k.steps;grind
 intro x h;rcases aG.1 h with h|h;exact i x<|j.each x h;grind
 intro r g;refine(q r g).aj k.aj (m (q r g).1 (by decide)<|by decide)<|λn e=>?_;obtain⟨c,p⟩:=fE (q r g).2.1 e;grind
def FL.aO{K:DK}{t:cJ Mv}{i:cJ da}{u:fK}(l:FL a A c K.nb K.sb K.mv K.fx u g B s)(o:m<=z (G a))(r:∀k,cK d=H k->m<=k)(p:∀f∈i,∀k,(f.pa=k\/cK f.data=H k)->K.aO c k\/m<=k):∀k,({K with mv:=s,files:=i,gT:=K.gT++[(d,t)]}:DK).aO c k->K.aO c k\/m<=k:=by
 rintro k(rfl|rfl|rfl|j|⟨x,e,j⟩|⟨f,n,j⟩);exact .inl<|.inl rfl;exact .inl<|.inr<|.inl rfl;exact .inl<|.inr<|.inr<|.inl rfl;rcases l.own with h|⟨v,h,q⟩;exact .inl<|.inr<|.inr<|.inr<|.inl<|h.symm.trans j;grind
 rcases aG.1 e with e|e;exact .inl<|.inr<|.inr<|.inr<|.inr<|.inl ⟨x,e,j⟩;grind
 grind
def iN(a:eR):eR:=a++le 4 (mV a)
def Ce(e:E):eR:=le 8 e.bO++oq e
def fP(c:cR):eR:=c.flatMap Ce
def Sx(a:eR):ma (le 4<|mV a)=mV a:=by
 rw[AR 4 _<|zV a];exact Int.emod_eq_of_lt (zV a) (by have:=Ch a;grind)
def CT(a:0<=k)(b:k<18446744073709551616):ma (le 8 k)=k:=by
 rw[AR 8 _ a];grind
def xM(u c d:M)(pre:eR)(B:Steps a)(W:y pre+4<=d)(hr:y pre+4<=1000000000)(m:Bytes a (bD u c (y pre+4) d) (iN pre)):cY aZ 133 #[bD u c (y pre+4:M) d] a λN w'=>
 N=aM (dq #[bD u c (y pre) d,aN ci])/\Below (z<|G a) a w':=by
 obtain⟨b,e⟩:∃b,b=le 4 (mV pre):=⟨_,rfl⟩
 have C:y b=4:=by rw[e,cH]
 have o:kh b:=by rw[e];exact kh.le 4 _
 have K:ma b=mV pre:=by rw[e];exact Sx pre
 unfold iN at m
 rw[<-e]at m
 clear e
 have aa:=B.lt
 have T:u<z (G a):=m.lt (by intro h;simp_all) u rfl
 have j:Bytes a (bD u c (y<|pre++b) d) (pre++b):=by rw[af,C];exact m
 have s:Bytes a (bD u c (y pre) d) pre:=by
  have:=j.take (n:=y pre) (by simp);rwa[kS]at this
 have t:Bytes a (bD u (c+y pre) 4<|d-y pre) b:=by
  have:=j.Cf (n:=y pre) (by simp);rwa[tr,af,C,vt]at this
 have L:num b aX 4=ma b:=by
  unfold num jJ;rw[dF (by simp[C]),eT<|by omega]
 obtain⟨D,E,P,O,F⟩:=iO s t L o B
 clear m j s t L o B
 have hd:(num b aX 4 !=mV pre)=aX:=by rw[J P,K];simp
 clear K
 go_in
 go_wp2_with fail
 refine(mY E (λac V=>by have:=RW V;grind)).mono ?_
 rintro N v⟨rfl,p,f⟩
 have r:z (G v)=z (G a)+1:=by rw[f];simp
 have i:Below (z<|G a) a v:=by rw[f];exact(Below.refl _ _).alloc (ah _) _
 have l:Hid (Steps v):=by rw[f];exact F.alloc _
 have k:Hid (Bytes v (bD u c (y pre) d) pre):=by rw[f];exact D.alloc _
 obtain⟨Q,HB,S⟩:=dz p i r
 clear p f r i F D E
 go_wp2_with fail
 go_region_with(first
  |(go_at_call 136;refine(Ko (z<|G a) aX _ ?_ O<|by omega).mono ?_;exact Q.of_heap rfl;rintro N w2⟨rfl,q,g⟩;have A:=U<|Steps.grown (by exact Steps.of_heap l rfl) g (by simp;omega);have w:=U<|Bytes.grown (by exact Bytes.of_heap k rfl) g<|.inl (by simp[cK];omega);have x:=U (Below.grown (by exact Below.of_heap HB rfl) g (by simp[J S])<|by simp);clear q g)
  |(go_at_call 146;refine(sU _ pre _ ?_ ?_ (by omega)).mono ?_;(first|exact A.of_heap rfl|exact l.of_heap rfl);(first|exact w.of_heap rfl|exact k.of_heap rfl);rintro N w3⟨rfl,rfl⟩))
 all_goals
  go_wp2;go_ret2
  exact⟨by rfl,by first|exact x.of_heap rfl|exact Below.of_heap HB rfl⟩
def Tt(c:cR)(n:M)(h:n<y c):fP (c.drop n)=le 8 c[n].bO++(oq c[n]++fP (c.drop<|n+1)):=by
 unfold fP;rw[bG h,dU];simp[Ce]
def AX(h:w.Good):kh (oq w):=by
 unfold oq;have c:∀s:ae,s.size<=255->kh (eF s):=λs d b a=>by unfold eF at a;rcases bJ.1 a with rfl|a;omega;exact kh.text s b a
 intro b a;rcases bJ.1 a with rfl|a;unfold oV;split<;>omega;rcases aG.1 a with a|a;exact c _ (by have:=h.Mf;omega) b a;exact c _ (by have:=h.val;omega) b a
def Ml(h:∀x∈e,x.Good):kh (fP e):=by
 intro b a;unfold fP at a;obtain⟨x,c,a⟩:=lS.1 a;unfold Ce at a;rcases aG.1 a with a|a;exact kh.le 8 _ b a;exact AX (h x c) b a
def uF(h:w.Good):y (Ce w)<=35:=by
 have a:=h.Mf;have b:=h.val;unfold Ce oq eF;grind[cH,ic]
def Da{c:cR}(h:∀x∈c,x.Good):y (fP c)<=35*y c:=by
 induction c with
 |nil=>simp[fP]
 |cons x r d=>
  have a:=uF (h x<|by simp);have f:=d (λa b=>h a<|by simp[b]);have e:fP (x::r)=Ce x++fP r:=by simp[fP]
  rw[e,af,aY];omega
def ld:cJ da->ae->Option da
 |[],_=>none
 |f::r,n=>if f.name=n then H f else ld r n
def mH:cJ da->ae->cJ da
 |[],_=>[]
 |f::r,n=>if f.name=n then r else f::mH r n
def nN:cJ da->da->cJ da
 |[],f=>[f]
 |g::r,f=>if g.name=f.name then f::r else g::nN r f
def MH(a:cJ da)(n:ae):(mH a n).map da.nm=fK.del (a.map da.nm) n:=by
 induction a with
 |nil=>rfl
 |cons f r b=>by_cases h:f.name=n<;>simp[mH,fK.del,da.nm,h,<-b]
def Lj(a:cJ da)(f:da):(nN a f).map da.nm=fK.put (a.map da.nm) f.name (kM<|H f.pa):=by
 induction a with
 |nil=>rfl
 |cons g r b=>by_cases h:g.name=f.name<;>simp[nN,fK.put,da.nm,h,<-b]
theorem je{a:cJ da}{f:da}(h:ld a t=H f):f.name=t/\f∈a/\fK.get (a.map da.nm) t=H (kM<|H f.pa):=by
 induction a with
 |nil=>cases h
 |cons i r g=>
  by_cases e:i.name=t
  .simp[ld,e]at h;subst h;exact⟨e,by simp,by simp[fK.get,da.nm,e]⟩
  .simp[ld,e]at h;obtain⟨b,c,d⟩:=g h;exact⟨b,by simp[c],by simpa[fK.get,da.nm,e]using d⟩
def BZ{a:cJ da}(h:ld a t=none):fK.get (a.map da.nm) t=none:=by
 induction a with
 |nil=>rfl
 |cons g r b=>
  by_cases e:g.name=t
  .simp[ld,e]at h
  .simp[ld,e]at h;simpa[fK.get,da.nm,e]using b h
theorem rQ(a:cJ da)(n:ae):(mH a n).Sublist a:=by
 induction a with
 |nil=>exact pT _
 |cons f r b=>
  by_cases h:f.name=n
  .simp[mH,h]
  .simpa[mH,h]using b
def Fq{a:cJ da}{f:da}(d:a.Pairwise mW)(h:ld a t=H f):∀g∈mH a t,mW f g:=by
 induction a with
 |nil=>cases h
 |cons g r j=>
  obtain⟨c,i⟩:=bB.1 d;by_cases e:g.name=t
  .simp[ld,e]at h;subst h;simpa[mH,e]using c
  .simp[ld,e]at h;intro x b;simp[mH,e]at b;rcases b with rfl|b
   .exact(c f (je h).2.1).symm
   grind
def AL{a:cJ da}{f x:da}(h:x∈nN a f):x=f\/x∈mH a f.name:=by
 induction a with
 |nil=>left;simpa[nN]using h
 |cons g r b=>
  by_cases e:g.name=f.name
  .simp[nN,e]at h;simpa[mH,e]using h
  .simp[nN,e]at h;simp[mH,e];grind
def Ep{a:cJ da}{f:da}(c:(mH a f.name).Pairwise mW)(h:∀g∈mH a f.name,mW f g):(nN a f).Pairwise mW:=by
 induction a with
 |nil=>simp[nN]
 |cons g r i=>
  by_cases e:g.name=f.name
  .simp only[mH,e,nk]at c h;simp only[nN,e,nk];simp_all
  .simp only[mH,e,ru]at c h;simp only[nN,e,ru];obtain⟨j,d⟩:=bB.1 c;refine bB.2 ⟨λx b=>?_,i d<|λx b=>h x<|by simp[b]⟩;rcases AL b with rfl|b
   .exact(h g<|by simp).symm
   grind
def Tx{b:cJ da}{f:da}(a:f.name≠t):mH (nN b f) t=nN (mH b t) f:=by
 induction b with
 |nil=>simp[mH,nN,a]
 |cons g r d=>
  by_cases e:g.name=f.name
  .have:g.name≠t:=by rw[e];exact a
   simp[mH,nN,e,a]
  .by_cases c:g.name=t
   .have:¬t=f.name:=λh=>a h.symm;simp[mH,nN,c,this]
   .simp[mH,nN,e,c,d]
structure rp where
 pos:M
 size:M
 count:M
 first:ae
 last:ae
abbrev mq:=cJ rp
def rp.value(k:rp):ab:=dC #[ar k.pos,ar k.size,ar k.count,am k.first,am k.last]
def rp.cells(k:rp):gW:=[ar k.pos,ar k.size,ar k.count,am k.first,am k.last]
structure rp.Of(k:rp)(c:cR):Prop where
 ne:0<y c
 size:k.size=y (fP c)+4
 count:k.count=y c
 first:k.first=(c[0]'ne).key
 last:k.last=(c[y c-1]'(by omega)).key
def Ad(w:Y)(b:M)(k:rp):Prop:=w.heap[b]?=H (aw #[ar k.pos,ar k.size,ar k.count,am k.first,am k.last] 328 (0,0))
def Ad.cells{k:rp}(h:Ad a b k):aW a (R b 0)=H (ar k.pos)/\aW a (R b 1)=H (ar k.size)/\aW a (R b 2)=H (ar k.count)/\aW a (R b 3)=H (am k.first)/\aW a (R b 4)=H (am k.last):=by
 refine⟨?_,?_,?_,?_,?_⟩<;>rw[cg h]<;>rfl
def Ad.aj{w w':Y}{b:M}{k:rp}{S:eV}(h:Ad w b k)(c:Z S w w')(a:¬S b):Ad w' b k:=(c.block b (ak h) a).trans h
def za(x:E)(t:TypeId)(c:b=z (G a)):∀j u,(aK [x])[j]?=H u->aW (cN a<|aw #[am x.key,am x.val,aN x.del,aE x.bO] t) (((R b 0):Addr).add j)=H u:=by
 grind[wK]
def Rd.wrote{rest:eR}(l:Rd a b rest P)(g:eE a f d s)(i:∀k,cK d=H k->b<k):Rd f b rest P:=by
 obtain⟨u,e,h,c⟩:=l;refine⟨u,(g.grown.block b (ak e) (λj=>by have:=i b j.symm;omega)).trans e,h.grown g.grown ?_,c⟩;cases hu:cK u with
 |none=>exact .inr rfl
 |some k=>
  grind
structure WR(w0 w:Y)(rb:M)(k:rp)(c:cR)(o:ab)(n:M):Prop where
 own:w.ownsRow (z<|G w0) 171 4 o n (aK<|c.take n)
 rd:Rd w rb (fP<|c.drop n) aX
 box:Ad w (z<|G w0) k
 E6:Below (z<|G w0) w0 w
 UE:z (G w0)<rb
 ne:cK o≠H rb/\cK o≠H (z<|G w0)
 wU:∀k,cK o=H k->rb<k
def DR(al c l:M)(t:rp)(hT:Steps a)(g:t.Of e)(hg:∀cc∈e,cc.Good)(hs:dV e)(cT:y e<=1000)(bc:t.size<=l)(x:Bytes a (bD al c t.size l) (iN<|fP e)):cY aZ 320 #[bD al c t.size l,t.value] a λaa N=>
 ∃v',aa=aM (dq #[v',aN ci])/\N.ownsRow (z<|G a) 171 4 v' (y e) (aK e)/\Below (z<|G a) a N:=by
 have cM:=Da hg
 obtain⟨i0,br,bT,ca,cb⟩:=di mZ
 obtain⟨pos,f,aU,first,b⟩:=t
 have bt:=g.ne
 have u:f=y (fP e)+4:=g.size
 have bs:aU=y e:=g.count
 have bh:=U<|show first=(e[0]'bt).key from g.first
 have bi:=U<|show b=(e[y e-1]'(by omega)).key from g.last
 clear g
 subst bs
 simp only at x bc
 unfold rp.value
 simp only
 have bn:Below (z<|G a) a (cN a<|aw #[ar pos,ar f,ar<|y e,am first,am b] 328):=(Below.refl _ a).alloc (ah _) _
 have cn:al<z (G a):=x.lt (by unfold iN;intro h;have:=bS y h;simp[cH]at this) al rfl
 have bL:cY aZ 133 #[bD al c f l] (cN a<|aw #[ar pos,ar f,ar<|y e,am first,am b] 328) λaa N=>
  aa=aM (dq #[bD al c (y<|fP e) l,aN ci])/\Below (z<|G<|cN a<|aw #[ar pos,ar f,ar<|y e,am first,am b] 328) (cN a<|aw #[ar pos,ar f,ar<|y e,am first,am b] 328) N:=by
   rw[u]at x bc|-;exact xM al c l (fP e) (hT.alloc _) bc (by omega)<|x.alloc _
 have av:Bytes a (bD al c (y<|fP e) l) (fP e):=by
  have d:Bytes a (bD al c (y<|iN<|fP e) l) (iN<|fP e):=by rw[u]at x;unfold iN at*;rw[af,cH];exact x
  have:=d.take (n:=y<|fP e) (by simp[iN]);unfold iN at this;rwa[kS]at this
 have cB:∀(cc:Bool)(a:Y),(Op.unary .not<|aN cc).run aZ a=.ok (aN<|!cc) a:=λ_ _=>rfl
 obtain⟨ad,HG,HS,HB,ce⟩:=iO av hg hs bn u
 clear x hT av hg hs bn u
 go_in
 go_wp2_with(first
  |(go_at_call 133;refine bL.mono ?_;rintro aa w⟨rfl,ba⟩;have V:Ad w (z<|G a) ⟨pos,f,y e,first,b⟩:=(ba.block _<|by simp).trans<|aJ _ rfl;obtain⟨k0,k1,k2,k3,k4⟩:=V.cells;simp only at k0 k1 k2 k3 k4;have o:Below (z<|G a) a w:=HB.trans (ba.mono<|by simp);have cx:=ak V;have bu:=mY (ad.below o (by intro t g;cases g;exact cn)) (by intro t g;cases g;grind);have O:=U V;have aF:=U o;clear ba V o)
  |(go_at_call 134;refine bu.mono ?_;rintro aa w2⟨rfl,ax,cu⟩;subst cu;have bl:=U ax;clear ax)
  |(at_make;refine kr _ rfl _ _ 87 rfl (z (G a)) 171 i0 wo 4 underlying87 br bT ca _ _ _ (y e) rfl rfl (by omega) (by rw[cb];omega) (by unfold maxLen;omega) (by simp;omega) ?_;intro w3 au B;have r:Z ay w w3:=(cF ay w).cz (Z.ee (S:=ay) B (by simp));have bo:=O.aj r (λe=>e);obtain⟨m0,m1,m2,m3,m4⟩:=bo.cells;simp only at m0 m1 m2 m3 m4;have bm:=U r;clear bo r;have A:=U au;have ac:=U B;clear au B))
 have bb:=J ac
 have cv:=bb.size
 simp at cv
 have cs:z (G<|cN w<|aw #[bD al c (y<|fP e) l,aN aX] 325)=z (G w)+1:=by simp
 have r:=J bm
 have hA0:WR a w3 (z<|G w) ⟨pos,f,y e,first,b⟩ e (bD (z (G w)+1) 0 0<|y e) 0:=by
  have i:=J A;rw[cs]at i;refine⟨i,?_,O.aj r<|λe=>e,aF.trans<|(r.below (ah _) cL).mono aF.size,by omega,⟨?_,?_⟩,?_⟩
  .exact bl.laid bb
  .simp[cK]
  .have:=ak O;simp[cK];omega
  .intro t g;simp[cK]at g;omega
 have bg:=U hA0
 clear hA0 bb r
 go_loopw [9,35] (λo i wr=>∃n:M,n<=y e/\i=ar n/\WR a wr (z<|G w) ⟨pos,f,y e,first,b⟩ e o n) (λ_ i _=>y e-(intOf i).toNat)
 case atStart=>exact⟨0,bP _,rfl,bg⟩
 case round=>
  obtain⟨n,db,rfl,k⟩:=hrel;have i:=k.own;obtain⟨ox,K,ho⟩:=aB i;have dk:=k.E6.size;have an:=k.box.cells;simp only at an;obtain⟨q0,q1,q2,q3,q4⟩:=an;have cE:=k.rd.lt;have HA:=U k;by_cases P:n<y e
  .have v:=HG e[n]<|aq P;have q:=k.rd;rw[Tt e n P]at q;have C:kh (fP<|e.drop<|n+1):=Ml<|λcc b=>HG cc<|dQ b;have bd:y (fP<|e.drop<|n+1)<=35*1000:=by
    have h1:=Da (c:=e.drop<|n+1)<|λcc b=>HG cc<|dQ b;grind
   have D:=AX v;have p:=uF v;have bf:y (oq e[n])<=35:=by unfold Ce at p;rw[af]at p;omega
   have d:=LK q ((kh.le 8 _).append<|D.append C) (by grind[length_append,cH]);have Q:=mD (le 8 e[n].bO)<|oq e[n]++fP (e.drop<|n+1);rw[cH]at Q;have ap:num (le 8 e[n].bO++(oq e[n]++fP (e.drop<|n+1))) aX 8=e[n].bO:=by unfold num;rw[Q];exact CT v.b0 v.b1
   rw[Q,ap]at d;simp only at d;have m:=λW(a:Rd W (z<|G w) (oq e[n]++fP (e.drop<|n+1)) aX)=>GD (z<|G w) (fP<|e.drop<|n+1) W a (D.append C) (by grind) v;have cl:Hid (aK (e.take n)++aK [e[n]]=aK (e.take<|n+1)):=by rw[<-fW,ai P];exact U rfl
   clear k i q C bd D p bf Q ap v;generalize e[n]=cc at*;obtain⟨xk,xv,xd,xb⟩:=cc;simp only at d m;unfold E.value at m;simp only at m;subst ho;go_wp2_with(first
    |(go_at_call 135;refine d.mono ?_;rintro aa w4⟨rfl,bv,bp⟩;have ch:=U bv;have cd:=U bp;clear bv bp)
    |(go_at_call 148;refine(m w4 ch).mono ?_;rintro aa L⟨rfl,bx,bq⟩;have s:Z (λt=>t=z (G w)) wr L:=(fA cd).trans (fA bq)<|λt g=>.inl g;have F:=aT (aT (s.own HA.own<|λt g e=>HA.ne.1 (by rw[<-e];exact g))<|.cells #[.string xk,.string xv,.bool xd,.int .u64 xb] 171)<|.cells #[.string xk,.string xv,.bool xd,.int .u64 xb] 171;have dc:=s.size;have bk:=U F;have ck:=U s;have cj:=U bx;clear bx bq F s)
    |(at_builtin;refine cA _ rfl (.tmp 48) (.tmp 50) 87 rfl (z (G a)) 171 i0 wo 4 48 underlying87 br bT ca cb rfl (by decide) (.slice ox n K) n (aK (e.take n)) rfl bk (R (z (G L)+1) 0) 1 1 (aK [⟨xk,xv,xd,xb⟩]) rfl rfl (za ⟨xk,xv,xd,xb⟩ _ (by simp)) (BR _) (by omega) (by omega) (by simp;omega) ?_;intro o2 w6 j aD;have cf:=U j;have cm:=U aD;clear j aD))
   go_roundw;case rel=>
    refine⟨n+1,P,by go_num,?_⟩;have k:=J HA;have s:=J ck;have T:=J cm;have j:=J cf;have co:=k.own.lt;have bE:Z (λt=>cK (I ox n K)=H t) L w6:=(((Z.refl (λt=>cK (I ox n K)=H t) L).alloc _).alloc _).trans (Z.ee (S:=λt=>cK (I ox n K)=H t) T.grown<|λt g=>.inl g)<|λt g=>.inl g;have ao:∀t,t<z (G L)->cK (I ox n K)≠H t->cK o2≠H t:=by
     intro t g hn aa;rcases T.vp with cw|⟨aV,cw,hg⟩
     .grind
     .rw[cw]at aa;cases aa;simp at hg;omega
    refine⟨?_,?_,?_,?_,k.UE,⟨ao _ (by omega) k.ne.1,ao _ (by omega) k.ne.2⟩,?_⟩
    .rw[<-J cl];exact j
    .have hr:=J cj;have cp:=hr.laid<|dD L (aw #[am xk,am xv,aN xd,aE xb] 171) none;have cr:=cp.laid<|dD _ (aw #[am xk,am xv,aN xd,aE xb] 171) none;exact cr.wrote T k.wU
    .exact(k.box.aj s (λe=>by have:=k.UE;omega)).aj bE<|λe=>k.ne.2 e
    .refine(k.E6.trans<|s.below k.E6.size (λt g=>by have:=k.UE;omega)).trans<|bE.below (by omega)<|λt g=>(co t g).1
    .intro t g;rcases T.vp with cw|⟨aV,cw,hg⟩
     .exact k.wU t<|cw.symm.trans g
     .rw[cw]at g;cases g;simp at hg;omega
   case measure=>simp[intOf];omega
  .have cf:n=y e:=by omega
   subst cf;have q:=k.rd;rw[gv]at q;have cd:∀W,W.heap=wr.heap->cY aZ 138 #[aA<|z<|G w] W λaa N=>aa=aM (aN ci)/\N=W:=by
    intro W D;have:=yw (q.of_heap D) (by simp[fP]);simpa[fP]using this
   have hE:kC wr (I ox (y e) K) e:=by
    have h1:=dJ i;rw[ho,bI]at h1;exact h1
   have Q:∀al,cK (I ox (y e) K)=H al->al<z (G wr):=λal x=>by rw[<-ho]at x;exact(i.lt al x).2
   have p:∀W,W.heap=wr.heap->cY aZ 306 #[I ox (y e) K] W λaa N=>aa=aM (aN ci)/\Below (z<|G W) W N:=by
    intro W D;refine NH (I ox (y e) K) W ?_ HS (by omega) (λal x=>by rw[D];exact Q al x);obtain⟨h1,⟨h2,h0⟩|⟨aV,bq,ao,h2,bp,bE⟩⟩:=hE
    .grind
    .exact⟨h1,.inr ⟨aV,bq,ao,h2,bp,λj u b=>(dt (w:=wr)<|by rw[D]).trans<|bE j u b⟩⟩
   obtain⟨bx,⟨ap,cm⟩|⟨aV,d,ck,ap,bk,F⟩⟩:=hE
   .omega
   have aD:=(eI e 0 bt).1;have bd:=(eI e (y e-1)<|by omega).1;have f0:aW wr (R aV<|d+0*4)=H (am e[0].key):=F _ _ aD;have fL:aW wr (R aV<|d+(y e-1)*4)=H (am e[y e-1].key):=F _ _ bd;rw[<-J bh]at f0;rw[<-J bi]at fL;cases ap;subst ho;clear k i q bx bk F aD bd;rw[Ai,kH]at f0;have m:Below (z<|G a) a wr:=HA.E6;have C:∀W,Below (z<|G wr) wr W->∃v',Ending.returned (dq #[bD aV d (y e) K,aN ci])=aM (dq #[v',aN ci])/\W.ownsRow (z<|G a) 171 4 v' (y e) (aK e)/\Below (z<|G a) a W:=by
    intro W D;have k:=J HA;have h1:=k.own;rw[bI]at h1;refine⟨_,rfl,?_,m.trans<|D.mono m.size⟩;exact(Z.aR (S:=ay) D).own h1<|λ_ _ e=>e
   have T:=U C;have bf:=Q aV rfl;have v:z (G a)<z (G wr):=ak HA.box;clear C m ce bh bi O aF ad bl A ac bm bg HA HG HS HB bL bu Q;obtain⟨s,hp⟩:∃s,y e-1=s:=⟨_,rfl⟩;have e1:(y e:X)-1=(s:X):=by omega
   have e2:(s:X)<(y e:X):=by omega
   have e3:(0:X)<=(s:X):=by omega
   have e4:s<y e:=by omega
   have e5:¬((y e:X)<(y e:X)):=by omega
   have e6:s<=1000:=by omega
   have e9:IntKind.i64.wrap (s:X)=(s:X):=by rw[bN];omega
   have cl:wrap64 (s:X)=(s:X):=by unfold wrap64;omega
   rw[hp]at fL;have ch:∀W,W.heap=wr.heap->cY aZ 306 #[bD aV d (y e) K] W λaa N=>aa=aM (aN ci)/\Below (z<|G W) W N:=p;clear p hp;go_wp2_with fail
   go_region_held3(λc=>aW c (R aV d)=H (am first)/\aW c (R aV<|d+s*4)=H (am b)/\aW c (R (z<|G a) 3)=H (am first)/\aW c (R (z<|G a) 4)=H (am b)) (first|assumption|go_keep) (first
    |(go_at_call 138;refine(cd wr.drew rfl).mono ?_;rintro aa w4⟨rfl,cj⟩;subst cj)
    |(go_at_call 306;refine(ch wr.drew rfl).mono ?_;rintro aa L⟨rfl,j⟩;have a0:aW L (R aV d)=H (.string first):=(j.cell (p:=(R aV d)) bf).trans f0;have a1:aW L (R aV (d+s*4))=H (.string b):=(j.cell (p:=(R aV (d+s*4))) bf).trans fL;have a2:aW L (R (z (G a)) 3)=H (.string first):=(j.cell (p:=(R (z (G a)) 3)) v).trans q3;have a3:aW L (R (z (G a)) 4)=H (.string b):=(j.cell (p:=(R (z (G a)) 4)) v).trans q4;have bv:=U j;clear j))
   go_wp2;go_ret2
   have j:=J bv;exact T _ ⟨j.os,j.tape,j.output,j.size,j.block⟩
def Jy{m:fK}(h:m.get t=none)(v:ab):m.put t v=m++[(t,v)]:=by
 induction m with
 |nil=>rfl
 |cons p r b=>
  by_cases a:p.1=t
  .simp[fK.get,a]at h
  .simp[fK.get,a]at h;simp[fK.put,a,b h]
structure pJ(w w':Y)(db:M)(K K':DK):Prop where
 ok:cG w' db K'
 aj:Z (K.aO db) w w'
 aO:∀k,K'.aO db k->K.aO db k\/z (G w)<=k
 fx:Fx K.fx K'.fx
def pJ.trans{w w' d:Y}{g a:DK}(h:pJ w w' c i g)(k:pJ w' d c g a):pJ w d c i a:=⟨k.ok,h.aj.trans k.aj<|λx e=>h.aO x e,λx e=>(k.aO x e).elim (λj=>h.aO x j)<|λj=>.inr<|aC h.aj.size j,h.fx.trans k.fx⟩
def pJ.refl(h:cG a c i):pJ a a c i i:=⟨h,Z.refl _ _,λ_ d=>.inl d,Fx.refl _⟩
def pJ.still(h:pJ a f b i x)(c:Z ay f A):pJ a A b i x:=⟨h.ok.aj c<|λ_ _=>id,h.aj.cz c,h.aO,h.fx⟩
def EN(m:fK)(x:Mv):oT m [x]=LB m x:=rfl
def cG.DY(h:cG a b i){k:M}(e:cK i.mv=H k):k≠i.sb/\k≠i.nb/\k≠b:=by
 obtain⟨d,c⟩:=fE h.steps e;exact⟨h.safe.tag c,h.now.tag c,kw c h.ie<|by decide⟩
def cG.YX{K:DK}{j:Iw}(h:cG a b K)(m:jQ f b K.nb K.sb K.mv j)(c:Z (λk=>k=b) a f)(d:Fx K.fx j):pJ a f b K {K with fx:=j}:=by
 refine⟨⟨m,h.now.aj c ?_,h.safe.aj c ?_,h.ne,c.own h.steps ?_,?_,?_,h.apart,d.ok h.wS,by rw[d.room];exact h.room,by rw[d.room];exact h.kK⟩,c.mono<|λx e=>.inl<|.inl e,λk e=>.inl e,d⟩;exactλe=>h.now.tag h.ie e.symm;exactλe=>h.safe.tag h.ie e.symm;exactλk e=>(h.DY e).2.2;intro x l;refine(h.each x l).aj c<|λk e=>?_;obtain⟨g,n,i⟩:=(h.each x l).2.2 k e;exact kw i h.ie (by decide);intro j d;have hF:=h.files j d;refine hF.aj c (kw hF.1 h.ie<|by decide)<|λk e=>?_;obtain⟨g,i⟩:=fE hF.2.1 e;exact kw i h.ie<|by decide
abbrev wM:=ae⊕ae×eR⊕ae⊕ae×ae⊕ae⊕Unit
abbrev wM.cr(n:ae):wM:=.inl n
abbrev wM.ap(n:ae)(b:eR):wM:=.inr (.inl (n,b))
abbrev wM.sy(n:ae):wM:=.inr (.inr (.inl n))
abbrev wM.rn(a b:ae):wM:=.inr (.inr (.inr (.inl (a,b))))
abbrev wM.rm(n:ae):wM:=.inr (.inr (.inr (.inr (.inl n))))
abbrev wM.sd:wM:=.inr (.inr (.inr (.inr (.inr ()))))
def Gs:wM->DK->DK->Prop
 | .inl n,K,a=>∃g b,a.files=K.files++[⟨n,g,az,[],0⟩]/\a.sm=K.sm/\a.gT=K.gT++[(b,[(n,H g)])]
 | .inr (.inl (n,d)),K,a=>∃F x,ld K.files n=H F/\a.files=nN K.files {F with data:=x,bytes:=F.bytes++d}/\a.sm=K.sm/\a.gT=K.gT
 | .inr (.inr (.inl n)),K,a=>∃F,ld K.files n=H F/\a.files=nN K.files {F with safe:=y F.bytes}/\a.sm=K.sm/\a.gT=K.gT
 | .inr (.inr (.inr (.inl (c,e)))),K,a=>∃F b,ld K.files c=H F/\a.files=nN (mH K.files c) {F with name:=e}/\a.sm=K.sm/\a.gT=K.gT++[(b,[(e,H F.pa),(c,none)])]
 | .inr (.inr (.inr (.inr (.inl n)))),K,a=>∃F b,ld K.files n=H F/\a.files=mH K.files n/\a.sm=K.sm/\a.gT=K.gT++[(b,[(n,none)])]
 | .inr (.inr (.inr (.inr (.inr _)))),K,a=>a.files=K.files/\a.sm=(K.gT.map (·.2)).foldl oT K.sm/\a.gT=[]
def vq(K a:DK):Prop:=a.files=K.files/\a.sm=K.sm/\a.gT=K.gT
def mi:cJ wM->DK->DK->Prop
 |[],K,a=>vq K a
 |o::l,K,a=>∃b,Gs o K b/\mi l b a
def vq.trans{c a:DK}(h:vq i c)(k:vq c a):vq i a:=⟨k.1.trans h.1,k.2.1.trans h.2.1,k.2.2.trans h.2.2⟩
def Gs.pre{o:wM}{a:DK}(h:vq i x)(k:Gs o x a):Gs o i a:=by
 obtain⟨b,c,d⟩:=h;rcases o with _|⟨_,_⟩|_|⟨_,_⟩|_|_<;>(simp only[Gs,b,c,d]at k|-;exact k)
def mi.pre{l:cJ wM}{a:DK}(h:vq i x)(k:mi l x a):mi l i a:=by
 cases l with
 |nil=>exact h.trans k
 |cons o l=>
  obtain⟨b,c,d⟩:=k;exact⟨b,c.pre h,d⟩
def mi.JX{l m:cJ wM}{b a:DK}(h:mi l i b)(k:mi m b a):mi (l++m) i a:=by
 induction l generalizing i with
 |nil=>exact k.pre h
 |cons o l f=>
  obtain⟨c,d,e⟩:=h;exact⟨c,d,f e⟩
def mi.one{o:wM}{a:DK}(h:Gs o i a):mi [o] i a:=⟨a,h,rfl,rfl,rfl⟩
def QF(f:Iw)(c:X):Prop:=c=8/\0<f.bd\/c=9/\f.room<1000000000
structure zg(w w':Y)(db:M)(K K':DK)(full:cJ wM)(v:ab):Prop where
 nW:pJ w w' db K K'
 uz:(v=.nilIface/\mi full K K')\/∃l q c,l<+:full/\mi l K K'/\v=eD q/\lP w' q c/\QF K.fx c
def xz(w d:Y)(c:M)(K:DK)(a:cJ wM)(e:Ending):Prop:=∃v b,e=aM v/\zg w d c K b a v
def zg.ok{w w':Y}{o:wM}(h:pJ w w' b i x)(k:Gs o i x):zg w w' b i x [o] .nilIface:=⟨h,.inl ⟨rfl,mi.one k⟩⟩
def zg.bad{b q:M}{l:cJ wM}(h:pJ a f b i x)(e:vq i x)(d:lP f q k)(c:QF i.fx k):zg a f b i x l (eD q):=⟨h,.inr ⟨[],q,k,List.nil_prefix,e,rfl,d,c⟩⟩
def Fx.Xh{f g:Iw}(c:Fx f g)(a:f.ok)(h:QF g k):QF f k:=h.imp (λq=>⟨q.1,c.pos a q.2⟩)<|λq=>⟨q.1,by rw[<-c.room];exact q.2⟩
def zg.seq{c:DK}{n r:cJ wM}(j:i.fx.ok)(p:pJ a f b i x)(e:mi n i x)(k:zg f A b x c r d):zg a A b i c (n++r) d:=by
 refine⟨p.trans k.nW,?_⟩;rcases k.uz with⟨g,k⟩|⟨o,q,s,l,k,g,m,h⟩;exact .inl ⟨g,e.JX k⟩;exact .inr ⟨n++o,q,s,rX _|>.2 l,e.JX k,g,m,p.fx.Xh j h⟩
def zg.more{c q:M}{K b:DK}{l m:cJ wM}(h:zg a f c K b l (eD q)):zg a f c K b (l++m) (eD q):=by
 refine⟨h.nW,?_⟩;rcases h.uz with⟨k,_⟩|⟨e,g,j,d,n⟩;cases k;exact .inr ⟨e,g,j,d.trans<|List.prefix_append _ _,n⟩
def J1(w a:Y)(b:M)(K:DK)(e:Ending):Prop:=∃c f,e=aM (aN c)/\pJ w a b K {K with fx:=f}/\Z (λk=>k=b) w a/\z (G a)=z (G w)/\(c=ci->0<K.fx.bd)
def Fk(h:cG a b i):cY aZ 131 #[aA b] a λk d=>J1 a d b i k:=by
 apply(Tn h.ie h.wS).mono;rintro k d⟨l,m,rfl,e,c,f,g,j⟩;exact⟨l,m,rfl,h.YX e c g,c,f,j⟩
def I9(w b:Y)(c:M)(K:DK)(a:ae)(e:Ending):Prop:=∃f,pJ w b c K {K with fx:=f}/\Z (λk=>k=c) w b/\((∃F,ld K.files a=H F/\e=aM (dq #[aA F.pa,.nilIface]))\/(ld K.files a=none/\∃q,e=aM (dq #[cX none,eD q])/\lP b q 10)\/(0<K.fx.bd/\∃q,e=aM (dq #[cX none,eD q])/\lP b q 8))
def yY(c:ae)(h:cG a b i)(d:Nm c):cY aZ 130 #[aA b,am c] a λs v=>I9 a v b i c s:=by
 obtain⟨x,u,p,_,_⟩:=di yp;have m:=xO underlying59 underlying9 u p h.now c;have t:=cellAt h.ie 0 rfl;have l:=Fk h;clear h;rcases hg:ld i.files c with _|F;(.rw[BZ hg]at m;simp only[Option.getD_none]at m;have n:=U hg;clear hg;(go_in);(go_wp2_with fail);apply l.mono;rintro s w⟨r,q,rfl,j,k,o,g⟩;obtain⟨e,f,HB⟩:=dz j k g;clear j k o g l;cases r;(.go_wp2;(go_ret2);exact⟨q,e.still<|cF _ _,f.alloc _,.inr<|.inl ⟨n,_,rfl,lP.new _ _ d⟩⟩);go_wp2;(go_ret2);exact⟨q,e.still<|cF _ _,f.alloc _,.inr<|.inr ⟨HB trivial,_,rfl,lP.new _ _ d⟩⟩);rw[(je hg).2.2]at m;simp only[oh,kM]at m;have n:=U hg;clear hg;(go_in);(go_wp2_with fail);apply l.mono;rintro s w⟨r,q,rfl,j,k,o,g⟩;obtain⟨e,f,HB⟩:=dz j k g;clear j k o g l;cases r;(.go_wp2;(go_ret2);exact⟨q,e,f,.inl ⟨F,n,rfl⟩⟩);go_wp2;(go_ret2);exact⟨q,e.still<|cF _ _,f.alloc _,.inr<|.inr ⟨HB trivial,_,rfl,lP.new _ _ d⟩⟩
def Ij{K:DK}{B:cJ Mv}{e:cJ da}(C:cG a b K)(l:∀S,Z S a f)(k:FL f A b K.nb K.sb K.mv K.fx (e.map da.nm) (y K.gT+1) (K.gT.map (·.1)++[d]) s)(w:tZ f (d,B))(u:∀x,cK d=H x->z (G a)<=x)(n:∀g∈e,∃h∈K.files,g.pa=h.pa/\g.data=h.data/\g.bytes=h.bytes/\g.safe=h.safe)(t:e.Pairwise mW)(v:fB e<=fB K.files):pJ a A b K {K with mv:=s,files:=e,gT:=K.gT++[(d,B)]}:=by
 have o:cG f b K:=C.aj (l ay)<|λ_ _=>id;refine⟨o.named k w (λg c=>?_) t v,?_,?_,Fx.refl _⟩;obtain⟨h,m,i,j,q,r⟩:=n g c;have:=o.files h m;unfold wL at*;rw[i,j,q,r];exact this
 .exact(l _).trans k.aj (by
   rintro q(rfl|rfl|p)
   .exact .inl<|.inl rfl
   .exact .inl<|.inr<|.inl rfl
   .exact .inl (.inr (.inr (.inr (.inl p)))))
 refine k.aO (l ay).size u<|λg c x p=>.inl ?_;obtain⟨h,m,i,j,_⟩:=n g c;exact .inr<|.inr<|.inr<|.inr<|.inr ⟨h,m,by rw[<-i,<-j];exact p⟩
def GC(a:cJ da)(n:ae):fB (mH a n)<=fB a:=by
 induction a with
 |nil=>exact ah _
 |cons f r b=>by_cases h:f.name=n<;>simp[mH,fB,h]at b|-<;>omega
def BB(a:cJ da)(f:da):fB (nN a f)<=fB (mH a f.name)+y f.bytes:=by
 induction a with
 |nil=>simp[nN,mH,fB]
 |cons g r b=>by_cases h:g.name=f.name<;>simp[nN,mH,fB,h]at b|-<;>omega
def pm{a:cJ da}{f:da}(h:ld a t=H f):fB (mH a t)+y f.bytes=fB a:=by
 induction a with
 |nil=>cases h
 |cons g r b=>
  by_cases e:g.name=t
  .simp[ld,e]at h;subst h;simp[mH,fB,e];omega
  .simp[ld,e]at h;have:=b h;simp[mH,fB,e]at this|-;omega
def XR{K:DK}(c:ae)(r:cG a b K)(v:fK.get (K.files.map da.nm) c=none)(w:y K.gT<=1000000000000):∃W:Y,W=cN (cN a<|aw #[az,ar 0] 105) (aw #[am c,aA<|z<|G a] 165)/\cY aZ 157 #[aA b,bD (z (G a)+1) 0 1 1] W λf o=>f=aM (dq #[])/\∃p,pJ a o b K p/\Gs (.cr c) K p:=by
 refine⟨_,rfl,?_⟩;have j:=(r.alloc<|aw #[az,ar 0] 105).alloc<|aw #[am c,aA<|z<|G a] 165;have h:(cN a<|aw #[az,ar 0] 105).heap[z<|G a]?=H (aw #[az,ar 0] 105 (0,0)):=ix _ _;have e:=(Below.heap_alloc (cN a<|aw #[az,ar 0] 105) (aw #[am c,aA<|z<|G a] 165) (z<|G a)<|by simp).trans h;have n:(cN (cN a<|aw #[az,ar 0] 105)<|aw #[am c,aA<|z<|G a] 165).heap[z (G a)+1]?=H (aw #[am c,aA<|z<|G a] 165 (0,0)):=by have:=ix (cN a<|aw #[az,ar 0] 105)<|aw #[am c,aA<|z<|G a] 165;simp_all
 generalize s:(cN (cN a<|aw #[az,ar 0] 105)<|aw #[am c,aA<|z<|G a] 165)=W at*;have i:∀S,Z S a W:=λS=>by rw[<-s];exact(cF S a).alloc _
 have k:tZ W (bD (z (G a)+1) 0 1 1,[(c,H<|z<|G a)]):=by refine⟨show Row _ _ _ _ _ from⟨rfl,.inr ⟨z (G a)+1,0,1,rfl,ah _,λu A t=>?_⟩⟩,by simp,λx f=>?_⟩;rw[dE,cg n];simpa[rK,yM,kM]using t;cases f;grind
 apply(EM (K.files.map da.nm) [(c,H<|z<|G a)] j.ie j.now k.1 (by simp) j.steps w).mono;rintro f o⟨rfl,l,m⟩;refine⟨rfl,{K with mv:=l,files:=K.files++[da.mk c (z<|G a) az [] 0],gT:=K.gT++[(bD (z (G a)+1) 0 1 1,[(c,H<|z<|G a)])]},?_,_,_,rfl,rfl,rfl⟩;have g:FL W o b K.nb K.sb K.mv K.fx ((K.files++[da.mk c (z<|G a) az [] 0]).map da.nm) (y K.gT+1) (K.gT.map (·.1)++[bD (z (G a)+1) 0 1 1]) l:=by rw[EN]at m;simp only[LB,Jy v]at m;simpa[da.nm]using m
 refine⟨j.named g k ?_ ?_ (by simp[fB]),?_,?_,Fx.refl _⟩;intro q d;rcases aG.1 d with d|d;exact j.files q d;(obtain rfl:q=⟨c,z<|G a,az,[],0⟩:=by simpa using d);exact⟨e,fc.nil _ _,by intro C t;simp at t⟩;refine bQ.2 ⟨r.apart,by simp,λA t B u=>?_⟩;(obtain rfl:B=⟨c,z<|G a,az,[],0⟩:=by simpa using u);refine⟨λf=>?_,λx _ f=>by cases f⟩;have:=ak (r.files A t).1;grind
 .exact(i _).trans g.aj (by
   rintro C(rfl|rfl|f)
   .exact .inl<|.inl rfl
   .exact .inl<|.inr<|.inl rfl
   .exact .inl (.inr (.inr (.inr (.inl f)))))
 refine g.aO (i ay).size (λx f=>by cases f;grind)<|λq d x f=>?_;rcases aG.1 d with d|d;exact .inl<|.inr<|.inr<|.inr<|.inr<|.inr ⟨q,d,f⟩;(obtain rfl:q=⟨c,z<|G a,az,[],0⟩:=by simpa using d);rcases f with f|f;(grind);cases f
def Ik{K:DK}(c:ae)(h:cG a b K)(m:ld K.files c=none)(L:y K.gT<=1000000000000)(n:Nm c):cY aZ 116 #[aA b,am c] a λC N=>xz a N b K [.cr c] C:=by
 obtain⟨P,F,o,_,_⟩:=di yp;have g:=λ(e:Y)p(j:cG e b {K with fx:=p})=>xO underlying59 underlying9 F o j.now c;simp only[BZ m,Option.getD_none]at g;have l:=Fk h;have w:=U<|λ(e:Y)p(j:cG e b {K with fx:=p})=>XR c j (BZ m) L;have x:=U g;clear h m g;go_in
 go_wp2_with fail
 apply l.mono;rintro C e⟨O,p,rfl,d,s,t,k⟩;cases O
 .have E:=cellAt d.ok.ie 0 rfl;have g:=x e p d.ok;obtain⟨W,D,f⟩:=w e p d.ok;have i:=U d;have A:=U f;clear d s t k f l;go_wp2_with(first
   |(go_at_call 157;subst D;refine zx (by simpa using J A) ?_;rintro C Q⟨rfl,B,q,r⟩;have u:=U q;have v:=U r;clear q r))
  go_ret;exact⟨_,B,rfl,(J i).trans u,.inl ⟨rfl,mi.pre ⟨rfl,rfl,rfl⟩<|mi.one<|J v⟩⟩
 have HB:=U<|k rfl;have i:=U d;clear d s t k l;go_wp2;go_ret;exact⟨_,_,rfl,zg.bad ((J i).still<|cF _ _) ⟨rfl,rfl,rfl⟩ (lP.new _ _ n)<|.inl ⟨rfl,J HB⟩⟩
variable{C:mq}
def eO(l:mq):gW:=l.flatMap rp.cells
theorem Cm(l:mq):y (eO l)=y l*5:=by
 induction l with
 |nil=>rfl
 |cons e r a=>unfold eO at*;rw[dU,af,a];simp[rp.cells];omega
def iG(l:mq)(n j:M)(h:n<y l)(b:j<5):(eO l)[n*5+j]?=(rp.cells l[n])[j]?:=by
 have e:eO l=eO (l.take n)++(rp.cells l[n]++eO (l.drop<|n+1)):=by(have a:l=l.take n++l[n]::l.drop (n+1):=by rw[<-bG h,bV]);(conv=>lhs;rw[a]);simp only[eO,fG,dU]
 grind[Cm,getElem?_append_right,getElem?_append_left]
structure lH(w:Y)(tb:M)(dv:ab)(number cut isize sum:X)(bb boff xq:M)(dav:ab)(ks:mq):Prop where
 box:w.heap[tb]?=H (aw #[dv,aE number,dA cut,dA isize,dA sum,bD bb boff (y ks) xq,dav] 263 (0,0))
 cells:∀j u,(eO ks)[j]?=H u->aW w (R bb<|boff+j)=H u
 ne:0<y ks
 le:y ks<=xq
 small:y ks<=1000000000
def Tb{e cut i j:X}(h:lH a b d e cut i j c g m s C):cY aZ 142 #[aA b] a λn l=>n=aM (am (C[0]'h.ne).first)/\l=a:=by
 have k:=cellAt h.box 5 rfl;have f:=h.ne;have o:aW a (R c<|g+3)=H (am (C[0]'f).first):=h.cells _ _ (iG C 0 3 f<|by decide);have p:(0:X)<(y C:X):=by omega
 generalize(C[0]'f).first=q at*;clear h;go_in
 go_wp2;go_ret;simp_all
def Vw{e cut f i:X}(h:lH a b d e cut f i c g m s C):cY aZ 141 #[aA b] a λr o=>r=aM (am (C[y C-1]'(by have:=h.ne;omega)).last)/\∃q,o=a.drewN q:=by
 have k:=cellAt h.box 5 rfl;have l:=h.ne;have n:=h.small;obtain⟨p,j⟩:∃p,y C-1=p:=⟨_,rfl⟩;have x:aW a (R c<|g+p*5+4)=H (am (C[y C-1]'(by omega)).last):=by subst j;rw[bw];exact h.cells _ _<|iG C (y C-1) 4 (by omega)<|by decide
 have t:(y C:X)-1=(p:X):=by omega
 have u:(p:X)<(y C:X):=by omega
 have v:(0:X)<=(p:X):=by omega
 have w:p<y C:=by omega
 generalize(C[y C-1]'(by omega)).last=A at*;clear h j;go_in
 go_wp2;go_quiet(fail)
 go_wp2;go_ret;exact⟨rfl,nq,rfl⟩
def XQ(c:ae){F:da}(m:cG a b i)(n:ld i.files c=H F)(p:y i.gT<=1000000000000):cY aZ 157 #[aA b,bD (z<|G a) 0 1 1] (cN a<|aw #[am c,cX none] 165) λh l=>h=aM (dq #[])/\∃j,pJ a l b i j/\Gs (.rm c) i j:=by
 have g:(cN a<|aw #[am c,cX none] 165).heap[z<|G a]?=H (aw #[am c,cX none] 165 (0,0)):=ix _ _;have k:∀S,Z S a (cN a<|aw #[am c,cX none] 165):=λS=>(cF S a);generalize cN a (aw #[am c,cX none] 165)=W at*;have f:cG W b i:=m.aj (k ay)<|λ_ _=>id;have d:tZ W (bD (z<|G a) 0 1 1,[(c,none)]):=by refine⟨show Row _ _ _ _ _ from⟨rfl,.inr ⟨z<|G a,0,1,rfl,ah _,λs u o=>?_⟩⟩,by simp,λr h=>?_⟩;rw[dE,cg g];simpa[rK,yM,kM]using o;cases h;grind
 apply(EM (i.files.map da.nm) [(c,none)] f.ie f.now d.1 (by simp) f.steps p).mono;rintro h l⟨rfl,q,e⟩;rw[EN]at e;simp only[LB,<-MH]at e;exact⟨rfl,_,Ij m k e d (λr h=>by cases h;grind) (λf a=>⟨f,(rQ _ _).subset a,rfl,rfl,rfl,rfl⟩) (m.apart.sublist<|rQ _ _)<|GC _ _,F,_,n,rfl,rfl,rfl⟩
def RG{K:DK}(c:ae){F:da}(h:cG a b K)(j:ld K.files c=H F)(C:y K.gT<=1000000000000)(k:Nm c):cY aZ 98 #[aA b,am c] a λA D=>xz a D b K [.rm c] A:=by
 have i:=yY c h k;have v:=U<|λ(l:Y)B(d:cG l b {K with fx:=B})=>XQ c d j C;have u:=U j;clear h j;go_in
 go_wp2_with fail
 apply i.mono;rintro A l⟨B,e,r,⟨E,d,rfl⟩|⟨d,_⟩|⟨o,q,rfl,p⟩⟩
 .have f:=v l B e.ok;have g:=U e;have w:=U f;clear e r f i d;go_wp2_with(first
   |(go_at_call 157;refine zx (J w) ?_;rintro A L⟨rfl,x,m,n⟩;have s:=U m;have t:=U n;clear m n))
  go_ret;exact⟨_,x,rfl,(J g).trans s,.inl ⟨rfl,mi.pre ⟨rfl,rfl,rfl⟩<|mi.one<|J t⟩⟩
 rw[J u]at d;cases d;obtain⟨g,f,HB⟩:=dz e p o;clear e r p o i;go_wp2;go_ret;exact⟨_,_,rfl,zg.bad g ⟨rfl,rfl,rfl⟩ (J f)<|.inl ⟨rfl,J HB⟩⟩
def XP(d c:ae){F:da}(r:cG a b i)(f:ld i.files d=H F)(l:d≠c)(t:y i.gT<=1000000000000):cY aZ 157 #[aA b,bD (z<|G a) 0 2 2] (cN a<|aw #[am c,aA F.pa,am d,cX none] 165) λg q=>g=aM (dq #[])/\∃m,pJ a q b i m/\Gs (.rn d c) i m:=by
 have k:(cN a<|aw #[am c,aA F.pa,am d,cX none] 165).heap[z<|G a]?=H (aw #[am c,aA F.pa,am d,cX none] 165 (0,0)):=ix _ _;have o:∀S,Z S a (cN a<|aw #[am c,aA F.pa,am d,cX none] 165):=λS=>(cF S a);generalize cN a (aw #[am c,aA F.pa,am d,cX none] 165)=W at*;have j:cG W b i:=r.aj (o ay)<|λ_ _=>id;have e:tZ W (bD (z<|G a) 0 2 2,[(c,H F.pa),(d,none)]):=by refine⟨show Row _ _ _ _ _ from⟨rfl,.inr ⟨z<|G a,0,2,rfl,ah _,λw x h=>?_⟩⟩,by simp,λA g=>?_⟩;rw[dE,cg k];simpa[rK,yM,kM]using h;cases g;grind
 apply(EM (i.files.map da.nm) [(c,H F.pa),(d,none)] j.ie j.now e.1 (by simp) j.steps t).mono;rintro g q⟨rfl,u,n⟩;have s:oT (i.files.map da.nm) [(c,H F.pa),(d,none)]=(nN (mH i.files d) {F with name:=c}).map da.nm:=by rw[<-Tx (f:={F with name:=c}) (λg=>l g.symm),MH,Lj];rfl
 rw[s]at n;refine⟨rfl,_,Ij r o n e (λA g=>by cases g;grind) (λv p=>?_) ?_ ?_,F,_,f,rfl,rfl,rfl⟩;rcases AL p with rfl|p;exact⟨F,(je f).2.1,rfl,rfl,rfl,rfl⟩;grind[rQ]
 refine Ep ((r.apart.sublist<|rQ _ _).sublist<|rQ _ _)<|λw h=>?_;have:=Fq r.apart f w<|(rQ _ _).subset h;exact this;have h:=BB (mH i.files d) {F with name:=c};have w:=GC (mH i.files d) c;have x:=pm f;show fB (nN (mH i.files d) {F with name:=c})<=_;simp only at h;omega
def RF{K:DK}(c d:ae){O:da}(h:cG a b K)(l:ld K.files c=H O)(f:c≠d)(L:y K.gT<=1000000000000)(m:Nm c):cY aZ 229 #[aA b,am c,am d] a λE N=>xz a N b K [.rn c d] E:=by
 have k:=yY c h m;have B:=U<|λ(n:Y)F(e:cG n b {K with fx:=F})=>XP c d e l f L;have o:=U l;have t:(!c.toList==d.toList)=ci:=by simp[zP f]
 clear h l f;go_in
 go_wp2_with fail
 apply k.mono;rintro E n⟨F,g,v,⟨w,e,rfl⟩|⟨e,_⟩|⟨s,q,rfl,u⟩⟩
 .have hF:w=O:=by rw[J o]at e;cases e;rfl
  subst hF;have i:=B n F g.ok;have j:=U g;have C:=U i;clear g v i k e;go_wp2_with(first
   |(go_at_call 157;refine zx (J C) ?_;rintro E P⟨rfl,D,p,r⟩;have x:=U p;have A:=U r;clear p r))
  go_ret;exact⟨_,D,rfl,(J j).trans x,.inl ⟨rfl,mi.pre ⟨rfl,rfl,rfl⟩<|mi.one<|J A⟩⟩
 rw[J o]at e;cases e;obtain⟨j,i,HB⟩:=dz g u s;clear g v u s k;go_wp2;go_ret;exact⟨_,_,rfl,zg.bad j ⟨rfl,rfl,rfl⟩ (J i)<|.inl ⟨rfl,J HB⟩⟩
def On(l:M){bk:M}{e cut f k:X}(i:ae)(h:lH a b d e cut f k c g m s C)(o:eP a l (aA b) 186)(n:eP a bk (am i) 9)(j:M)(t:j<y C):cY aZ 318 #[ar j,aA l,aA bk] a λv u=>v=aM (aN<|!ja C[j].last i)/\∃q,u=a.drewN q:=by
 have p:=cellAt h.box 5 rfl;have A:aW a (R c<|g+j*5+4)=H (am C[j].last):=by rw[bw];exact h.cells _ _<|iG C j 4 t<|by decide
 have c1:=o.cell;have c2:=n.cell;have r:=Jz;have w:(j:X)<(y C:X):=by omega
 have x:(0:X)<=(j:X):=by omega
 unfold ja;generalize C[j].last=B at*;clear h o n;go_in
 go_wp2;go_quiet(fail)
 go_wp2;go_ret;exact⟨rfl,nq,rfl⟩
def lH.below{e cut h i:X}{B:M}(j:lH a b d e cut h i c g m s C)(k:Below B a f)(l:b<B)(n:c<B):lH f b d e cut h i c g m s C:=⟨(k.block b l).trans j.box,λq u o=>(k.cell (p:=(R c<|g+q)) n).trans<|j.cells q u o,j.ne,j.le,j.small⟩
def lH.lt{e cut h i:X}(j:lH a c d e cut h i g m D s C):c<z (G a)/\g<z (G a):=⟨ak j.box,cC a (R g<|m+(0*5+0))<|j.cells _ _<|iG C 0 0 j.ne<|by decide⟩
def AC{f cut n D:X}(e:ae)(h:lH a b d f cut n D c g m s C)(hs:C.Pairwise (λT an=>ja T.last an.last=ci)):cY aZ 314 #[aA b,am e] a λV w'=>∃E:M,V=aM (ar E)/\E<=y C/\(∀j(i:j<y C),j<E->ja C[j].last e=ci)/\(∀j(i:j<y C),E<=j->ja C[j].last e=aX)/\Below (z<|G a) a w':=by
 have o:=h.lt;have w:Below (z<|G a) a (cN (cN a<|aw #[aA b] 186)<|aw #[am e] 9):=((Below.refl _ a).alloc (ah _) _).alloc (by simp) _;have r:=h.below w o.1 o.2;have ac:=cellAt r.box 5 rfl
 have p:=zI #[aA<|z<|G a,aA<|z (G a)+1] (y C) (λj=>if i:j<y C then !ja C[j].last e else ci) (cN (cN a<|aw #[aA b] 186)<|aw #[am e] 9) (enters_of func318 (by kernel_rfl) rfl) (by have:=h.small;omega) (by
  intro T an aa B W;have v:T<y C:=by omega
  simp only[B,v,Ag]at W|-;grind[Nat.lt_or_eq_of_le,pairwise_iff_getElem,lq])
  (by
   intro j i al k;have u:=r.below k (by simp;omega) (by simp;omega);have x:eP al (z (G a)) (aA b) 186:=(k.block _ (by simp;omega)).trans (eP.alloc (aJ _ rfl) _);have A:eP al (z (G a)+1) (am e) 9:=(k.block _ (by simp)).trans (aJ _ (by simp));apply(On (z (G a)) e u x A j i).mono;rintro V W'⟨rfl,q,rfl⟩;simp only[i,Ag];exact⟨trivial,below_drewN (Below.refl _ _) _⟩)
 have t:=U p;have HB:=U w;have ad:=r.lt.1;clear p r w h hs;go_in
 go_wp2_with(go_at_call 210;refine t.mono ?_;rintro V w1⟨E,rfl,F,K,L,N⟩;have O:=U F;have P:=U K;have Q:=U L;have S:=U N;clear F K L N)
 go_ret;refine⟨E,rfl,O,λj i l=>?_,λj i l=>?_,HB.trans<|S.mono HB.size⟩;have:=P j l;grind
 have:=Q j l i;grind
structure nE(V:iV)(n0 tb:M)(ks:mq)(cs:dS)(w:Y):Prop where
 mem:∃dv number cut isize sum bb boff xq dav,lH w tb dv number cut isize sum bb boff xq dav ks/\(tb<n0/\¬V.F tb)/\(bb<n0/\¬V.F bb)
 len:y ks=y cs
 EA:∀i(hi:i<y ks)(hc:i<y cs),ks[i].Of cs[i]
 iP:∀c∈cs,∀x∈c,x.Good
 mj:dV cs.flatten
 Du:cs.Pairwise gU
 small:∀c∈cs,y c<=1000
 bytes:∀i(hi:i<y ks)(hc:i<y cs)W,kO V n0 ay w W->V.D W->cY aZ 319 #[aA tb,ks[i].value] W λe W'=>
  (∃b off cap,e=aM (dq #[bD b off ks[i].size cap,.nilIface])/\ks[i].size<=cap/\Bytes W' (bD b off ks[i].size cap) (iN<|fP cs[i])/\V.D W'/\Z V.F W W')\/Dp V W W' V.F e (λv=>dq #[az,v])
 steps:Steps w
 Ar:1<n0/\¬V.F 1
def lH.same{V:iV}{n0:M}{S:eV}{e cut h i:X}(j:lH a b d e cut h i c g m s C)(k:kO V n0 S a f)(l:b<n0/\¬V.F b)(n:c<n0/\¬V.F c):lH f b d e cut h i c g m s C:=⟨(k.2 b<|.inl l).trans j.box,λp u o=>k.cell (.inr n)<|j.cells p u o,j.ne,j.le,j.small⟩
def Steps.same{V:iV}{n0:M}{S:eV}(h:Steps a)(d:kO V n0 S a f)(b:1<n0/\¬V.F 1):Steps f:=λk c=>d.cell (.inr b)<|h k c
def nE.same{V:iV}{n0 d:M}(h:nE V n0 d C l a)(j:kO V n0 ay a f):nE V n0 d C l f:=by
 obtain⟨p,c,cut,e,k,o,g,b,i,u,m,n⟩:=h.mem;exact⟨⟨p,c,cut,e,k,o,g,b,i,u.same j m n,m,n⟩,h.len,h.EA,h.iP,h.mj,h.Du,h.small,λv t s W r q=>h.bytes v t s W (j.trans r) q,h.steps.same j h.Ar,h.Ar⟩
def Li(h:nE r b c C l a)(hD:r.D a)(hn:b<=z (G a))(hF:∀ao,r.F ao->ao<b)(p:M)(O:p<y C)(hc:p<y l):cY aZ 315 #[aA c,ar p] a λbf V=>(∃Q,bf=aM (dq #[Q,.nilIface])/\V.ownsRow (z<|G a) 171 4 Q (y l[p]) (aK l[p])/\r.D V/\Z r.F a V)\/Dp r a V r.F bf (λbq=>dq #[az,bq]):=by
 obtain⟨dv,au,cut,bc,bo,bb,j,ap,bk,E,bn,bl⟩:=h.mem;have bm:=cellAt E.box 5 rfl;have g0:aW a (R bb<|j+p*5)=H (ar C[p].pos):=E.cells _ _ (iG C p 0 O<|by decide);have g1:aW a (R bb<|j+p*5+1)=H (ar C[p].size):=by rw[bw];exact E.cells _ _<|iG C p 1 O<|by decide
 have g2:aW a (R bb<|j+p*5+2)=H (ar C[p].count):=by rw[bw];exact E.cells _ _<|iG C p 2 O<|by decide
 have g3:aW a (R bb<|j+p*5+3)=H (am C[p].first):=by rw[bw];exact E.cells _ _<|iG C p 3 O<|by decide
 have g4:aW a (R bb<|j+p*5+4)=H (am C[p].last):=by rw[bw];exact E.cells _ _<|iG C p 4 O<|by decide
 have e2:(p:X)<(y C:X):=by omega
 have e3:(0:X)<=(p:X):=by omega
 have n:=aq hc;have N:=h.EA p O hc;have v:=h.iP _ n;have o:=h.small _ n;have F:dV l[p]:=h.mj.sub<|dl n;have u:=h.bytes p O hc;have A:=h.steps;have x:=h.Ar;have bh:∀(x:Bool)(a:Y),(Op.unary .not<|aN x).run aZ a=.ok (aN<|!x) a:=λ_ _=>rfl;have al:∀ao,b<=ao->¬r.F ao:=λao W a=>by have:=hF ao a;omega
 obtain⟨pos,e,d,first,f,aV⟩:∃pos e d first f,C[p]=⟨pos,e,d,first,f⟩:=⟨_,_,_,_,_,rfl⟩
 rw[aV]at g0 g1 g2 g3 g4 N u;simp only at g0 g1 g2 g3 g4;unfold rp.value at u;simp only at u;have t:Z ay a (cN a<|aw #[ar pos,ar e,ar d,am first,am f] 328):=(cF _ _);have ac:=u _ (t.same hn cL cL)<|r.eY hD t cL;have bg:=(E.lt).2;have aD:=U (show∀k,Z r.F (cN a<|aw #[ar pos,ar e,ar d,am first,am f] 328) k->Steps k fromλk ht=>(A.same (S:=ay) (t.same (V:=r) hn cL cL) x).same (S:=ay) (ht.same (V:=r) (by simp;omega) cL<|λao W _=>W) x);have HX:=U (show∀k bd g m,Z r.F (cN a<|aw #[ar pos,ar e,ar d,am first,am f] 328) k->e<=m->Bytes k (bD bd g e m) (iN<|fP l[p])->cY aZ 320 #[bD bd g e m,dC #[ar pos,ar e,ar d,am first,am f]] k λbf V=>∃Q,bf=aM (dq #[Q,aN ci])/\V.ownsRow (z<|G k) 171 4 Q (y l[p]) (aK l[p])/\Below (z<|G k) k V from by intro k bd g m ht D hB;exact DR bd g m ⟨pos,e,d,first,f⟩ (aD k ht) N v F o D hB);have aa:=U al;clear E N v o F u A x n h hD hF al;go_in
 go_wp2_with fail
 refine ac.mono ?_;rintro bf k(⟨bd,g,m,rfl,D,hB,s,i⟩|⟨hX,q,rfl,hq,s,i⟩);rotate_left;(.have L:=U<|(t.mono (T:=r.F) cL).trans i<|λao W=>.inl W;have B:Ad k (z<|G a) ⟨pos,e,d,first,f⟩:=Ad.aj (aJ _ rfl) i<|aa _ hn;obtain⟨k0,k1,k2,k3,k4⟩:=B.cells;simp only at k0 k1 k2 k3 k4;obtain⟨aF,HQ,K⟩:=dz hX hq s;clear hX hq s i B ac;go_wp2;(go_ret2);exact .inr ⟨aF,q,rfl,HQ,K,L⟩);have B:Ad k (z<|G a) ⟨pos,e,d,first,f⟩:=Ad.aj (aJ _ rfl) i<|aa _ hn;obtain⟨k0,k1,k2,k3,k4⟩:=B.cells;simp only at k0 k1 k2 k3 k4;have hz:=i.size;simp at hz;have L:=U<|(t.mono (T:=r.F) cL).trans i<|λao W=>.inl W;have ba:=HX k bd g m i D hB;obtain⟨K,bi⟩:=And.intro (U s) (U i);clear D hB s i B;go_wp2_with(go_at_call 320;refine ba.mono ?_;rintro bf w3⟨Q,rfl,w,ad⟩;have ax:=U w;have av:=U ad;clear w ad)
 go_ret2
 have an:Z ay k w3:=Z.aR av;refine .inl ⟨Q,rfl,?_,r.eY K an cL,L.cz an⟩;obtain⟨h1,⟨h2,h0⟩|⟨bp,cp,aU,h2,hb,P⟩⟩:=J ax;exact⟨h1,.inl ⟨h2,h0⟩⟩;exact⟨h1,.inr ⟨bp,cp,aU,h2,by omega,P⟩⟩
def cG.Zm{K:DK}{D:fK}(h:cG a b K)(i:Z (λk=>k=K.sb) a f)(n:gM f K.sb D):pJ a (cq f (R b 2) az) b K {K with mv:=az,gT:=[],sm:=D}:=by
 have d:b≠K.sb:=h.safe.tag h.ie;have l:jQ f b K.nb K.sb K.mv K.fx:=(i.block b (ak h.ie) d).trans h.ie;have c:Z (λk=>k=b\/k=K.sb) a (cq f (R b 2) az):=(i.mono<|λx e=>.inl<|.inr e).setCell b 2 _<|.inl<|.inl rfl;refine⟨⟨?_,?_,?_,h.ne,cO _ _ _ _,by simp,?_,h.apart,h.wS,h.room,h.kK⟩,?_,?_,Fx.refl _⟩;unfold jQ;rw[aH l];rfl;refine h.now.aj c ?_;rintro(e|e);exact h.now.tag h.ie e.symm;exact h.ne e;exact n.kept (dN f b 2 _) (by grind);intro o m;have hF:=h.files o m;refine hF.aj c ?_ ?_;rintro(e|e);exact kw hF.1 h.ie (by decide) e;exact h.safe.tag hF.1 e;intro k e;obtain⟨j,g⟩:=fE hF.2.1 e;rintro(e|e);exact kw g h.ie (by decide) e;exact h.safe.tag g e
 .exact c.mono (by
   rintro x(rfl|rfl)
   .exact .inl<|.inl rfl
   .exact .inl (.inr (.inr (.inl rfl))))
 rintro k(e|e|e|e|⟨x,g,_⟩|e);exact .inl<|.inl e;exact .inl<|.inr<|.inl e;exact .inl<|.inr<|.inr<|.inl e;cases e;cases g;exact .inl<|.inr<|.inr<|.inr<|.inr<|.inr e
def DV(K:cG a b i)(hn:y i.gT<=1000000000000):cY aZ 82 #[aA b] a λF v=>xz a v b i [.sd] F:=by
 have V:=Fk K;clear K;go_in
 go_wp2_with fail
 apply V.mono;rintro F aa⟨aF,aU,rfl,p,E,hz,S⟩;cases aF;(case true=>have HB:=U<|S rfl;have k:=U p;clear p E hz S V;go_wp2;go_ret;exact⟨_,_,rfl,zg.bad ((J k).still<|cF _ _) ⟨rfl,rfl,rfl⟩ (lP.new _ _ (by unfold Nm;decide))<|.inl ⟨rfl,J HB⟩⟩);have h:=p.ok;have L:=U p;clear E hz S V p;have T:b≠i.sb:=h.safe.tag h.ie;have l:∀wr,Z (λw=>w=i.sb) aa wr->aW wr (R b 1)=H (.map<|H i.sb)/\aW wr (R b 2)=H i.mv/\wr.frozen? (R b 2)=aX:=by intro wr g;have p:jQ wr b i.nb i.sb i.mv aU:=(g.block b (ak h.ie) T).trans h.ie;exact⟨by rw[cg p];rfl,by rw[cg p];rfl,cP p⟩
 have x:=U l;have ao:=(l aa<|Z.refl _ _).2.1;have f:=U<|λ(v:Y)(D:fK)(g:Z (λw=>w=i.sb) aa v)(q:gM v i.sb D)=>(J L).trans<|h.Zm g q;have m:∀(wr:Y)(n:M)(e:n<y i.gT)(D:fK),Z (λw=>w=i.sb) aa wr->gM wr i.sb D->cY aZ 35 #[.map<|H i.sb,i.gT[n].1] wr λF v=>F=aM (dq #[])/\gM v i.sb (oT D i.gT[n].2)/\wr.grownBy v (H i.sb):=by intro wr n e D g q;have k:=(h.each i.gT[n]<|aq e).aj g (λw F A=>by obtain⟨P,B,r⟩:=(h.each i.gT[n]<|aq e).2.2 w F;exact h.safe.tag r A);exact Hl D i.gT[n].2 q k.1 (by have:=k.2.1;omega)
 obtain⟨j,c,d,o⟩:=fY m h.steps h.safe<|λw=>h.DY (k:=w);clear l m h;simp only[Hid]at c d o f;generalize au:i.mv=mv at*;rcases c.2 with⟨rfl,K⟩|⟨aD,al,P,rfl,_,hg,ax,_,l,u⟩;(.have k:i.gT=[]:=aL K;have s:=U f;have t:=U d;clear j c o f d;go_wp2;(go_loopw [15] (λad wr=>ad=ar 0/\wr=aa) (λ_ _=>0));(case atStart=>grind);(case round=>obtain⟨rfl,rfl⟩:=hrel;have W:=(x wr<|Z.refl _ _).2.2;go_wp2;go_ret;exact⟨_,_,rfl,zg.ok (s wr i.sm (Z.refl _ _) t) ⟨rfl,by rw[k];rfl,rfl⟩⟩))
 .have k:∀n(e:n<y i.gT)wr,Z (λw=>w=i.sb) aa wr->aW wr (R aD n)=H i.gT[n].1:=by
   intro n e wr g;refine g.cell ?_ (o aD rfl).1<|ak hg;have:=World.ownsRow.cellAt c n (by omega);rw[this];simp[e]
  have r:=U k;have s:=U f;have t:=U d;clear k l u hg c o f d;go_wp2;go_loopw [15] (λad wr=>∃n:M,n<=y i.gT/\ad=ar n/\Z (λw=>w=i.sb) aa wr/\gM wr i.sb (((i.gT.take n).map (·.2)).foldl oT i.sm)) (λad _=>y i.gT-(intOf ad).toNat)
  case atStart=>exact⟨0,bP _,rfl,Z.refl _ _,t⟩
  case round=>
   obtain⟨n,av,rfl,g,q⟩:=hrel;obtain⟨D,Q⟩:∃D,((i.gT.take n).map (·.2)).foldl oT i.sm=D:=⟨_,rfl⟩;rw[Q]at q;have A:=U Q;clear Q;obtain⟨an,ac,W⟩:=x wr g;have HT:=U g;have HM:=U q;by_cases e:n<y i.gT
   .have ap:=r n e wr g;have HS:=U<|j wr n e D g q;clear g q;go_wp2_with(first
     |(go_at_call 35;refine HS.mono ?_;rintro F w2⟨rfl,C,B⟩;have O:=U C;have N:=U B;clear C B))
    go_roundw;case rel=>exact⟨n+1,by omega,by go_num,HT.trans (fA N)<|λx F=>.inl F,by rw[ai e,aP,gK,J A];exact O⟩
    case measure=>simp[intOf];omega
   .clear g q;have B:n=y i.gT:=by omega
    subst B;go_wp2;go_ret;exact⟨_,_,rfl,zg.ok (s wr D HT HM) ⟨rfl,by rw[<-J A,bI],rfl⟩⟩
