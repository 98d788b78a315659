import Derived.Conc.MuLone
import Derived.LaidEql
import Derived.OrdersIn
import Derived.OwnWalkIn
import Derived.RangeFuncCalls
import Derived.RowKitTokens
import Derived.Stop.Asserts
import Derived.Test.YtophdnlmpfmeiaaGreatDoorC1
namespace Go.Proofs.YtophdnlmpfmeiaaGreatDoor
open ChangeShapes WideShapes RowKit Proofs.Tryz
set_option maxHeartbeats 16000000
set_option linter.all false
set_option maxRecDepth 100000
section
open Go.Conc.Locks
def OM:MuLink where
 lock:=39
 unlock:=40
 ilock:=61
 iunlock:=62
 lockSlow:=100
 unlockSlow:=103
 disable:=96
 enable:=98
 acquire:=99
 relMerge:=101
 cas32:=97
 add32:=102
 tMutex:=100
 tIMutex:=98
 tPMutex:=130
 tPIMutex:=192
 tPI32:=194
 tUP:=137
 tNoCopy:=95
 tU32:=96
def Oj:MuLib prog OM:=by
 constructor<;>first|kernel_rfl|(intro w;kernel_rfl)
def lock_free(a:Addr)(w:J)(b:w.cell? a=some (.int .i32 0))(c:w.frozen? a=false):Calls prog 39 #[.pointer (some a)] w λe d=>e=.returned (.tuple #[])/\d=w.setCell a (.int .i32 1):=MuLone.lock_free Oj a w b c
def unlock_deferred(a:Addr)(u:FrameMode)(w:J)(b:w.cell? a=some (.int .i32 1))(c:w.frozen? a=false):CallsD prog 40 #[.pointer (some a)] u w λg d e=>d=u/\(g=.returned (.tuple #[])/\e=w.setCell a (.int .i32 0)):=MuLone.unlock_deferred Oj a u w b c
end
section
variable{P:Program}{a:Array Oper}{Q:Exit->Act->J->Prop}{b:Region.Mode}
theorem Dg{l n:Nat}{d:String}{c:Array M}{w:J}{R:M->J->Prop}(h:Rows P d c w R):RowsIn (Fence.wide.inRound l) n P d c w R:=λg e _=>let⟨v,f,r,s⟩:=h g e;⟨v,f,r,stepsIn_wide.2 s⟩
theorem Oper.Fb{o:Oper}{d:Act}{w:J}{K:Act->J->Prop}(l n:Nat)(e:∀c,o.op≠ .defer c)(h:o.wp P d w K Q):o.wpIn (Fence.wide.inRound l) n P d w K Q:=by
 unfold Oper.wpIn;refine⟨λg _=>trivial,?_⟩;rw[Oper.semAt_plain (Fence.wide.inRound l) _ _ e];unfold Oper.wp at h;generalize(execOp d.eval o).run P w=r at*;cases r with
 |ok x f=>
  cases x<;>simp only[Oper.upon,Oper.uponIn]at h|-<;>first
   |exact h
   |exact⟨(λc=>(by cases c)),CallsIn.inRound l (dM.2 h)⟩
   |exact⟨(λc=>(by cases c)),Dg h⟩
   |exact h.elim
 |halt x f=>cases x<;>simp only[Oper.upon,Oper.uponIn]at h|-<;>exact h
theorem yh{l n:Nat}(h:∀(i:Nat)(o:Oper)k,a[i]?=some o->o.op≠ .defer k)(g:¬LetsOut Q):∀(c:Nat)(d:Array Bool)(p:Act)(w:J),wpAny P b a Q c d p w->wpAnyIn (Fence.wide.inRound l) n P b a Q c d p w
 |0,_,_,_,j=>j
 |c+1,_,_,_,j=>⟨j.1,λi m=>by
  have e:=qt (λf o k=>yh (l:=l) (n:=n) h g c _ f o k) (j.2 i m);unfold wpOp at e;unfold wpOpIn;cases ho:a[i]? with
  |none=>simpa[ho]using e
  |some o=>
   simp only[ho]at e|-;split
   ·rename_i f;simp only[f,iY]at e;rcases e with e|e
    ·exact Oper.Fb l n (λk=>h i o k ho) e
    ·exact absurd e.2 g
   ·rename_i f;simp only[f]at e;exact⟨λ_ _=>trivial,e⟩⟩
def BP(a:Array Oper):Bool:=a.all λo=>match o.op with| .defer _=>false|_=>true
theorem vd(h:BP a=true):∀(i:Nat)(o:Oper)e,a[i]?=some o->o.op≠ .defer e:=by
 intro i o e d f;obtain⟨c,rfl⟩:=ki.1 d;have:=Array.all_eq_true.1 h i c;rw[f]at this;cases this
theorem uH(S:J->Prop)(m:Nat){l n id:Nat}{c:Act}{w:J}(f:P.follows .mixedOrders=true)(e:BP a=true)(d:∀c w,¬Q .outgrown c w)(h:iK P .any a Q S m a.size (Array.replicate a.size false) c w.drew):(Code.region id a true).wpIn (Fence.wide.inRound l) n P Q c w:=wpIn_region_any f (yh (vd e) (λ⟨c,w,h⟩=>d c w h) _ _ _ _ (kU _ _ _ _ h))
end
section
variable{P:Program}{a:Array Oper}{Q:Exit->Act->J->Prop}{b:Region.Mode}
theorem BG{n:Nat}{d:String}{c:Array M}{w:J}{R:M->J->Prop}(h:Rows P d c w R):RowsIn Fence.wide n P d c w R:=λg e _=>let⟨v,f,r,s⟩:=h g e;⟨v,f,r,stepsIn_wide.2 s⟩
theorem Oper.CQ{o:Oper}{d:Act}{w:J}{K:Act->J->Prop}(n:Nat)(e:∀c,o.op≠ .defer c)(h:o.wp P d w K Q):o.wpIn Fence.wide n P d w K Q:=by
 unfold Oper.wpIn;refine⟨λg _=>trivial,?_⟩;rw[Oper.semAt_plain Fence.wide _ _ e];unfold Oper.wp at h;generalize(execOp d.eval o).run P w=r at*;cases r with
 |ok x f=>
  cases x<;>simp only[Oper.upon,Oper.uponIn]at h|-<;>first
   |exact h
   |exact⟨(λc=>(by cases c)),dM.2 h⟩
   |exact⟨(λc=>(by cases c)),BG h⟩
   |exact h.elim
 |halt x f=>cases x<;>simp only[Oper.upon,Oper.uponIn]at h|-<;>exact h
theorem wJ{n:Nat}(h:∀(i:Nat)(o:Oper)k,a[i]?=some o->o.op≠ .defer k)(g:¬LetsOut Q):∀(c:Nat)(d:Array Bool)(p:Act)(w:J),wpAny P b a Q c d p w->wpAnyIn Fence.wide n P b a Q c d p w
 |0,_,_,_,j=>j
 |c+1,_,_,_,j=>⟨j.1,λi l=>by
  have e:=qt (λf m k=>wJ (n:=n) h g c _ f m k) (j.2 i l);unfold wpOp at e;unfold wpOpIn;cases ho:a[i]? with
  |none=>simpa[ho]using e
  |some o=>
   simp only[ho]at e|-;split
   ·rename_i f;simp only[f,iY]at e;rcases e with e|e
    ·exact Oper.CQ n (λk=>h i o k ho) e
    ·exact absurd e.2 g
   ·rename_i f;simp only[f]at e;exact⟨λ_ _=>trivial,e⟩⟩
theorem vO(S:J->Prop)(m:Nat){n id:Nat}{c:Act}{w:J}(f:P.follows .mixedOrders=true)(e:BP a=true)(d:∀c w,¬Q .outgrown c w)(h:iK P .any a Q S m a.size (Array.replicate a.size false) c w.drew):(Code.region id a true).wpIn Fence.wide n P Q c w:=wpIn_region_any f (wJ (vd e) (λ⟨c,w,h⟩=>d c w h) _ _ _ _ (kU _ _ _ _ h))
end
section
variable{P:Program}{a:Array Oper}{Q:Exit->Act->J->Prop}{b:Region.Mode}{S:J->Prop}
def wU(b:Region.Mode)(a:Array Oper)(i:Nat):Nat->Nat->Bool
 |0,_=>false
 |n+1,j=>match a[j]? with
  |none=>false
  |some o=>o.after.any λe=>Region.binds b e&&(e.on==i||wU b a i n e.on)
def wF(b:Region.Mode)(a:Array Oper)(c:Array Bool):Prop:=∀j o,a[j]?=some o->c.getD j false=true->∀e∈o.after,Region.binds b e=true->c.getD e.on false=true
def Cr(b:Region.Mode)(a:Array Oper)(c:Array Bool):Bool:=(List.range a.size).all λj=>match a[j]? with
 |none=>true
 |some o=>!c.getD j false||o.after.all λe=>!Region.binds b e||c.getD e.on false
theorem JT{c:Array Bool}(h:Cr b a c=true):wF b a c:=by
 intro m o e k n i g;unfold Cr at h;rw[kE]at h;have d:=h m (jz.2 (ki.1 e).1);simp only[e,k,Bool.not_true,Bool.false_or]at d;rw[Array.all_eq_true]at d;obtain⟨l,j,rfl⟩:=Array.mem_iff_getElem.1 i;have f:=d l j;simpa[g]using f
theorem wF.set{c:Array Bool}{j:Nat}(y:wF b a c)(r:j∈Region.ready b a c):wF b a (c.setIfInBounds j true):=by
 intro x A p o w h g;obtain⟨z,B,e,d⟩:=tE.1 r;by_cases s:j=x
 ·subst s;rw[p]at e;cases e;exact getD_set_true (d w h g)
 ·rw[getD_set_ne false s]at o;exact getD_set_true (y x A p o w h g)
theorem uT{r:Nat}{c:Array Bool}(k:wF b a c):∀(n p:Nat)(o:Oper),a[p]?=some o->(∀g∈o.after,Region.binds b g=true->c.getD g.on false=true)->wU b a r n p=true->c.getD r false=true
 |0,_,_,_,_,i=>by simp[wU]at i
 |n+1,p,o,l,e,i=>by
  unfold wU at i;simp only[l]at i;obtain⟨x,m,h⟩:=Array.any_eq_true.1 i;simp only[mU,Bool.or_eq_true,ri]at h;have j:=e _ (Array.getElem_mem m) h.1;rcases h.2 with g|g
  ·rw[<-g];exact j
  ·have hex:∃d,a[(o.after[x]).on]?=some d:=by
    cases n with
    |zero=>simp[wU]at g
    |succ n=>
     unfold wU at g;cases q:a[(o.after[x]).on]? with
     |none=>simp[q]at g
     |some d=>exact⟨d,rfl⟩
   obtain⟨d,f⟩:=hex;exact uT k n _ d f (λi h e=>k _ d f j i h e) g
def qd(P:Program)(b:Region.Mode)(a:Array Oper)(Q:Exit->Act->J->Prop)(S:J->Prop)(m:Nat):Nat->Array Bool->Act->J->Prop
 |0,c,e,w=>Region.ready b a c=[]/\Q .normal e w
 |fuel+1,c,e,w=>
  (Region.ready b a c=[]->Q .normal e w)/\∀i∈Region.ready b a c,wpOp P a Q i (λf d=>(i<m->S d)/\qd P b a Q S m fuel (c.setIfInBounds i true) f d) e w
theorem uI{m:Nat}:∀(c:Nat)(d:Array Bool)(j:Act)(w:J),qd P b a Q S m c d j w->wpAny P b a Q c d j w
 |0,_,_,_,h=>h
 |c+1,_,_,_,h=>⟨h.1,λk g=>qt (λe i f=>uI c _ e i f.2) (h.2 k g)⟩
theorem Bu{o R:Nat}{p:Oper}{ad:M}(F:a[o]?=some p)(ac:o<R)(H:∀j,R<=j->j<a.size->wU b a o a.size j=true)(l:∀(j:Nat)(al:Oper)q U,a[j]?=some al->al.op≠ .select q U)(hQ:∀N D E,Q (.panic N) (D.put p.dst ad) E->Q (.panic N) D E):∀(d:Nat)(c:Array Bool)(D:Act)(E:J),wF b a c->(∀j m,a[j]?=some m->j≠o->c.getD j true=false->(∀z∈m.after,Region.binds b z=true->z.on≠o)->p.apart a m=true)->o∈Region.ready b a c->YieldsIf P a S p ad D->S E->qd P b a Q S R d (c.setIfInBounds o true) (D.put p.dst ad) E->qd P b a Q S R (d+1) c D E:=by
 intro d;induction d with
 |zero=>
  intro c D E _ _ n C r T;refine⟨λW=>(by rw[W]at n;cases n),λj t=>?_⟩;by_cases e:j=o
  ·subst e;exact C.wpOp F r ⟨λ_=>r,T⟩
  ·have:=oD t e;rw[T.1]at this;cases this
 |succ d ih=>
  intro c D E s f n C r T;refine⟨λW=>(by rw[W]at n;cases n),λj t=>?_⟩;by_cases e:j=o
  ·subst e;exact C.wpOp F r ⟨λ_=>r,T⟩
  ·have A:=T.2 j (oD t e);obtain⟨k,m,g,i⟩:=tE.1 t;have w:c.getD o false=true->False:=λG=>by
    have y:=(tE.1 n).1;rcases cJ o c.size with u|u
    ·simp[u]at y G;rw[y]at G;cases G
    ·simp[dy u]at G
   have x:∀z∈m.after,Region.binds b z=true->z.on≠o:=λz G y u=>by
    have A:=i z G y;rw[u]at A;exact w A
   have X:=wpOp_putIf g (f j m g e k x) (λq U=>l o p q U F) (λq U=>l j m q U g) hQ C A;have h:∀O ok,a[O]?=some ok->O≠o->(c.setIfInBounds j true).getD O true=false->(∀z∈ok.after,Region.binds b z=true->z.on≠o)->p.apart a ok=true:=λO ok hk G y K=>by
    refine f O ok hk G ?_ K;by_cases u:j=O
    ·subst u;exact k
    ·rw[getD_set_ne true u]at y;exact y
   have L:=oD n (Ne.symm e);have v:j<R:=by
    rcases cJ j R with N|N
    ·exact N
    ·exact(w (uT s a.size j m g i (H j N (ki.1 g).1))).elim
   refine qt (λV w' B=>⟨λ_=>B.2.1 v,ih (c.setIfInBounds j true) V w' (s.set t) h L B.1 (B.2.1 v) ?_⟩) X;rw[pZ _ _ e];exact B.2.2
theorem dX{i n:Nat}{e:Oper}{v:M}{d:Nat}{c:Array Bool}{f:Act}{w:J}(l:a[i]?=some e)(h:i<n)(j:((List.range a.size).all λm=>decide (m<n)||wU b a i a.size m)=true)(t:Region.noSelect a=true)(r:Region.free b a c i=true)(s:(Region.ready b a c).contains i=true)(g:Cr b a c=true)(p:∀k f w,Q (.panic k) (f.put e.dst v) w->Q (.panic k) f w)(u:YieldsIf P a S e v f)(q:S w)(x:qd P b a Q S n d (c.setIfInBounds i true) (f.put e.dst v) w):qd P b a Q S n (d+1) c f w:=Bu l h (λm y o=>by
 have:=kE.1 j m (jz.2 o);simp only[Bool.or_eq_true,lQ]at this;rcases this with k|k
 ·omega
 ·exact k) (Region.noSelect_spec t) p d c f w (JT g) (Region.free_spec l r) (by simpa using s) u q x
theorem oO{i p:Nat}{o:Oper}{d:Nat}{c:Array Bool}{k:Act}{w:J}(m:a[i]?=some o)(l:o.guard=none)(j:Region.ready b a c=[i])(q:∀K:Act->J->Prop,(∀f e,(i<p->S e)->qd P b a Q S p d (c.setIfInBounds i true) f e->K f e)->Oper.wp P o k w K Q):qd P b a Q S p (d+1) c k w:=by
 refine⟨λg=>(by rw[j]at g;cases g),λr h=>?_⟩;rw[j]at h;obtain rfl:r=i:=by simpa using h
 unfold wpOp;simp only[m];have n:Region.wanted o (yielded a k.tmps)=true:=by simp[Region.wanted,l]
 rw[dr n];exact .inl (q _ (λf e g h=>⟨g,h⟩))
theorem wK{m:Nat}{c:Array Bool}{f:Act}{w:J}(e:Region.ready b a c=[])(h:Q .normal f w):∀d,qd P b a Q S m d c f w
 |0=>⟨e,h⟩
 |_+1=>⟨λ_=>h,by rw[e];simp⟩
theorem tX(S:J->Prop)(m:Nat){id:Nat}{d:Act}{w:J}(c:P.follows .mixedOrders=true)(h:qd P .any a Q S m a.size (Array.replicate a.size false) d w.drew):(Code.region id a true).wp P Q d w:=tU c (uI _ _ _ _ h)
end
section
open Go.Extern.Stop Go.Stop Go.Extern
def CV(w:J):Calls prog 15 #[.nilIface] w λe a=>e=.returned (.int .i64 0)/\Below w.heap.size w a:=by
 go_enter func15,ntmps15
 go_wp2;go_ret;exact⟨rfl,(Below.refl _ w).alloc (ai _) _⟩
def Di(t:Addr)(w:J):(ReflectliteValue.unpack (.iface 114 (.pointer (some t)))).run prog w=.ok (.agg #[.pointer (some ⟨8,114,none⟩),.pointer (some ⟨w.heap.size,0,none⟩),.int .u64 150]) (w.alloc (.cells #[.pointer (some t)] 114)):=by kernel_rfl
def KO(a:Addr)(w:J):(ReflectliteValue.methodAny (ReflectliteValue.valueError "reflectlite.Value.Type" 0) (λt _ _ _=>ReflectliteType.toType t) #[.agg #[.pointer (some ⟨8,114,none⟩),.pointer (some a),.int .u64 150]]).run prog w=.ok (.iface 210 (.agg #[.pointer (some ⟨8,114,none⟩)])) w:=by kernel_rfl
def Ab(h:M)(w:J):(Go.method 513 210 (.agg #[h]) "Kind").run prog w=.ok (276,h) w:=by kernel_rfl
def KP(w:J):((ReflectliteType.abiMethod λt=>(λa:Nat=>Value.int IntKind.u8 (a:Int))<$>Rtype.kind t) #[.pointer (some ⟨8,114,none⟩)]).run prog w=.ok (.int .u8 22) w:=by kernel_rfl
def KQ(w:J):((ReflectliteType.abiMethod λt=>(λa:Nat=>Value.int IntKind.u8 (a:Int))<$>Rtype.kind t) #[.pointer (some ⟨8,55,none⟩)]).run prog w=.ok (.int .u8 2) w:=by kernel_rfl
def Qv(z:Sem M)(f:TypeId->Addr->Nat->Nat->Sem M)(v:M):ReflectliteValue.method z f #[v]=(do match<-ReflectliteValue.parts v with|none=>z|some (t,b,a)=>f t b a (a%32)):=rfl
def AE(a:Addr)(w:J):(ReflectliteValue.parts (.agg #[.pointer (some ⟨8,114,none⟩),.pointer (some a),.int .u64 150])).run prog w=.ok (some (114,a,150)) w:=by kernel_rfl
def Iz(b p:Addr)(W:J)(a:W.cell? b=some (.pointer (some p))):(ReflectliteValue.method (ReflectliteValue.valueError "reflectlite.Value.IsNil" 0) ReflectliteValue.isNil #[.agg #[.pointer (some ⟨8,114,none⟩),.pointer (some b),.int .u64 150]]).run prog W=.ok (.bool false) W:=by
 rw[Qv];simp only[iH,AE,Result.andThen];simp[ReflectliteValue.isNil,loadVar,isAgg,underlying,underlying114,a,Result.andThen]
def Ac(h:M)(w:J):(Go.method 513 210 (.agg #[h]) "Elem").run prog w=.ok (304,.agg #[h]) w:=by kernel_rfl
def tP(h:M)(w:J):(Go.method 513 210 (.agg #[h]) "Implements").run prog w=.ok (305,.agg #[h]) w:=by kernel_rfl
def si(h:M)(w:J):(Go.method 513 210 (.agg #[h]) "AssignableTo").run prog w=.ok (302,.agg #[h]) w:=by kernel_rfl
def KS(w:J):(ReflectliteType.method ReflectliteType.elem #[.agg #[.pointer (some ⟨8,114,none⟩)]]).run prog w=.ok (.iface 210 (.agg #[.pointer (some ⟨8,55,none⟩)])) w:=by kernel_rfl
def yK(w:J):(ReflectliteType.relation "Implements" ReflectliteType.implements_ #[.agg #[.pointer (some ⟨8,55,none⟩)],.iface 210 (.agg #[.pointer (some ⟨8,50,none⟩)])]).run prog w=.ok (.bool true) w:=by kernel_rfl
def yJ(v:M)(w:J):(ReflectliteType.typeOf #[.iface 55 v]).run prog w=.ok (.iface 210 (.agg #[.pointer (some ⟨8,55,none⟩)])) w:=by kernel_rfl
def yL(w:J):(ReflectliteType.relation "AssignableTo" ReflectliteType.assignableTo #[.agg #[.pointer (some ⟨8,55,none⟩)],.iface 210 (.agg #[.pointer (some ⟨8,55,none⟩)])]).run prog w=.ok (.bool true) w:=by kernel_rfl
def Dj(n:Int)(w:J):(ReflectliteValue.unpack (.iface 55 (.int .i64 n))).run prog w=.ok (.agg #[.pointer (some ⟨8,55,none⟩),.pointer (some ⟨w.heap.size,0,none⟩),.int .u64 130]) (w.alloc (.cells #[.int .i64 n] 55)):=by kernel_rfl
def FA(w:J):(Rtype.elem? 114).run prog w=.ok (some 55) w:=by kernel_rfl
def OD(p:Addr)(w:J):(ReflectliteValue.mk 55 p ReflectliteValue.flagAddr).run prog w=.ok (.agg #[.pointer (some ⟨8,55,none⟩),.pointer (some p),.int .u64 386]) w:=by kernel_rfl
def IA(b p:Addr)(W:J)(a:W.cell? b=some (.pointer (some p))):(ReflectliteValue.method (ReflectliteValue.valueError "reflectlite.Value.Elem" 0) ReflectliteValue.elem #[.agg #[.pointer (some ⟨8,114,none⟩),.pointer (some b),.int .u64 150]]).run prog W=.ok (.agg #[.pointer (some ⟨8,55,none⟩),.pointer (some p),.int .u64 386]) W:=by
 rw[Qv];simp only[iH,AE,Result.andThen];simp[ReflectliteValue.elem,loadVar,isAgg,underlying,underlying114,a,Result.andThen,FA,OD]
def Qy(v x:M):ReflectliteValue.set #[v,x]=(do
 let(some (dst,a,fl),some (src,b,_)):=(<-ReflectliteValue.parts v,<-ReflectliteValue.parts x)
  |unsupported (.noEntry "extern/(internal/reflectlite.Value).Set.zeroValue")
 if fl/ReflectliteValue.flagAddr%2==0 then unsupported (.noEntry "extern/(internal/reflectlite.Value).Set.unaddressable")
 let c<-loadVar src b
 if<-Rtype.directlyAssignable dst src then storeVar dst a c
 else if<-Rtype.implements dst src then
  if(<-Rtype.kind src)==20 then
   match c with
   | .nilIface=>unsupported (.noEntry "extern/reflectlite: a nil value of one interface type handed on as a value of another")
   |_=>storeVar dst a c
  else storeVar dst a (.iface src c)
 else panicString ("reflectlite.Set: value of type " ++(<-Rtype.spelt src)++ " is not assignable to type " ++(<-Rtype.spelt dst))
 pure (.tuple #[])):=rfl
def Fz(a:Addr)(w:J):(ReflectliteValue.parts (.agg #[.pointer (some ⟨8,55,none⟩),.pointer (some a),.int .u64 386])).run prog w=.ok (some (55,a,386)) w:=by kernel_rfl
def Iy(a:Addr)(w:J):(ReflectliteValue.parts (.agg #[.pointer (some ⟨8,55,none⟩),.pointer (some a),.int .u64 130])).run prog w=.ok (some (55,a,130)) w:=by kernel_rfl
def FB(w:J):(Rtype.directlyAssignable 55 55).run prog w=.ok true w:=by kernel_rfl
def Ni(a e:Addr)(n:Int)(CN:M)(W:J)(b:W.cell? e=some (.int .i64 n))(d:W.cell? a=some CN)(c:W.frozen? a=false):(ReflectliteValue.set #[.agg #[.pointer (some ⟨8,55,none⟩),.pointer (some a),.int .u64 386],.agg #[.pointer (some ⟨8,55,none⟩),.pointer (some e),.int .u64 130]]).run prog W=.ok (.tuple #[]) (W.setCell a (.int .i64 n)):=by
 rw[Qy];simp only[iH,Fz,Iy,Result.andThen];simp[ReflectliteValue.flagAddr,loadVar,isAgg,underlying,underlying55,b,Result.andThen,FB,storeVar,Value.cells,storeCells,Addr.add];rw[run_store prog W a _ _ (by rfl)];simp[d,c]
def kK(w:J):Prop:=w.cell? ⟨0,0,none⟩=some (.iface 210 (.agg #[.pointer (some ⟨8,50,none⟩)]))
def Pc(n:Int)(t:Addr)(CN:M)(w:J)(d:kK w)(a:w.cell? t=some CN)(c:w.frozen? t=false):Calls prog 46 #[.iface 55 (.int .i64 n),.iface 114 (.pointer (some t))] w λh y=>h=.returned (.bool true)/\y=((((w.alloc (.cells #[.pointer (some t)] 114)).alloc (.cells #[.pointer (some ⟨8,114,none⟩),.pointer (some ⟨w.heap.size,0,none⟩),.int .u64 150] 140)).alloc (.cells #[.pointer (some ⟨8,114,none⟩),.pointer (some ⟨w.heap.size,0,none⟩),.int .u64 150] 140)).alloc (.cells #[.int .i64 n] 55)).setCell t (.int .i64 n):=by
 unfold kK at d;have C:=@di prog 70 _ (λa=>ReflectliteValue.unpack (a.getD 0 (.tuple #[]))) func70 (by kernel_rfl) (by kernel_rfl) (by kernel_rfl) (by kernel_rfl);have D:=@di prog 71 _ (ReflectliteValue.methodAny (ReflectliteValue.valueError "reflectlite.Value.Type" 0) (λt _ _ _=>ReflectliteType.toType t)) func71 (by kernel_rfl) (by kernel_rfl) (by kernel_rfl) (by kernel_rfl);have E:=@di prog 72 _ (ReflectliteValue.method (ReflectliteValue.valueError "reflectlite.Value.IsNil" 0) ReflectliteValue.isNil) func72 (by kernel_rfl) (by kernel_rfl) (by kernel_rfl) (by kernel_rfl);have l:=@di prog 276 _ (ReflectliteType.abiMethod λt=>do pure (.int .u8 (<-Rtype.kind t))) func276 (by kernel_rfl) (by kernel_rfl) (by kernel_rfl) (by kernel_rfl);have o:=@di prog 304 _ (ReflectliteType.method ReflectliteType.elem) func304 (by kernel_rfl) (by kernel_rfl) (by kernel_rfl) (by kernel_rfl);have q:=@di prog 305 _ (ReflectliteType.relation "Implements" ReflectliteType.implements_) func305 (by kernel_rfl) (by kernel_rfl) (by kernel_rfl) (by kernel_rfl);have i:=@di prog 114 _ ReflectliteType.typeOf func114 (by kernel_rfl) (by kernel_rfl) (by kernel_rfl) (by kernel_rfl);have m:=@di prog 302 _ (ReflectliteType.relation "AssignableTo" ReflectliteType.assignableTo) func302 (by kernel_rfl) (by kernel_rfl) (by kernel_rfl) (by kernel_rfl);have j:=@di prog 115 _ (ReflectliteValue.method (ReflectliteValue.valueError "reflectlite.Value.Elem" 0) ReflectliteValue.elem) func115 (by kernel_rfl) (by kernel_rfl) (by kernel_rfl) (by kernel_rfl);have k:=@di prog 116 _ ReflectliteValue.set func116 (by kernel_rfl) (by kernel_rfl) (by kernel_rfl) (by kernel_rfl);have N:=yJ;have F:=si;have f:=yL;have x:=Dj;have A:=Di;have B:=KO;have K:=Ab;have G:=Ac;have H:=tP;have v:=KP;have u:=KQ;have g:=KS;have s:=yK;have L:=Iz ⟨w.heap.size,0,none⟩ t ((w.alloc (.cells #[.pointer (some t)] 114)).alloc (.cells #[.pointer (some ⟨8,114,none⟩),.pointer (some ⟨w.heap.size,0,none⟩),.int .u64 150] 140)) (by simp);have e:0<w.heap.size:=cI _ _ d;have r:((w.alloc (.cells #[.pointer (some t)] 114)).alloc (.cells #[.pointer (some ⟨8,114,none⟩),.pointer (some ⟨w.heap.size,0,none⟩),.int .u64 150] 140)).cell? ⟨0,0,none⟩=some (.iface 210 (.agg #[.pointer (some ⟨8,50,none⟩)])):=by
  rw[dB _ _ ⟨0,0,none⟩ (by first|(simp;done)|(simp;omega)),dB _ _ ⟨0,0,none⟩ e];exact d
 have b:t.block<w.heap.size:=cI _ _ a;have z:=IA ⟨w.heap.size,0,none⟩ t (((w.alloc (.cells #[.pointer (some t)] 114)).alloc (.cells #[.pointer (some ⟨8,114,none⟩),.pointer (some ⟨w.heap.size,0,none⟩),.int .u64 150] 140)).alloc (.cells #[.pointer (some ⟨8,114,none⟩),.pointer (some ⟨w.heap.size,0,none⟩),.int .u64 150] 140)) (by rw[dB _ _ ⟨w.heap.size,0,none⟩ (by simp;omega)];simp);have st:=Ni t ⟨w.heap.size+1+1+1,0,none⟩ n CN ((((w.alloc (.cells #[.pointer (some t)] 114)).alloc (.cells #[.pointer (some ⟨8,114,none⟩),.pointer (some ⟨w.heap.size,0,none⟩),.int .u64 150] 140)).alloc (.cells #[.pointer (some ⟨8,114,none⟩),.pointer (some ⟨w.heap.size,0,none⟩),.int .u64 150] 140)).alloc (.cells #[.int .i64 n] 55)) (by rw[World.cell?_alloc_at _ _ _ _ (by simp)];rfl) (by rw[dB _ _ t (by simp;omega),dB _ _ t (by simp;omega),dB _ _ t (by simp;omega),dB _ _ t b];exact a) (by rw[jx _ _ t (by simp;omega),jx _ _ t (by simp;omega),jx _ _ t (by simp;omega),jx _ _ t (Nat.ne_of_lt b)];exact c);go_enter func46,ntmps46
 go_wp2;refine jZ 1 ?_;rw[fP];go_wp2;go_ret;exact⟨rfl,rfl⟩
end
def kK.alloc{w:J}(h:kK w)(o:Obj):kK (w.alloc o):=by
 unfold kK at*;rw[dB _ _ _ (cI _ _ h)];exact h
def kK.below{w a:J}{B:Nat}(h:kK w)(d:Below B w a)(b:0<B):kK a:=by
 unfold kK at*;exact(d.cell (p:=⟨0,0,none⟩) b).trans h
def Fh(n:Int)(w:J)(i:kK w):Calls prog 15 #[.iface 55 (.int .i64 n)] w λk j=>k=.returned (.int .i64 n)/\Below w.heap.size w j:=by
 have d:(w.alloc (.cells #[.int .i64 0] 55)).cell? ⟨w.heap.size,0,none⟩=some (.int .i64 0):=by simp
 have c:(w.alloc (.cells #[.int .i64 0] 55)).frozen? ⟨w.heap.size,0,none⟩=false:=by simp
 have g:=Pc n ⟨w.heap.size,0,none⟩ (.int .i64 0) (w.alloc (.cells #[.int .i64 0] 55)) (i.alloc _) d c;clear d c;go_enter func15,ntmps15
 go_wp2_with(go_at_call 46;refine g.mono ?_;rintro k e⟨rfl,a⟩;have b:Below w.heap.size w e:=(by rw[a];exact((((((Below.refl _ w).alloc (ai _) _).alloc (by simp) _).alloc (by simp;omega) _).alloc (by simp;omega) _).alloc (by simp;omega) _).setCell (p:=⟨w.heap.size,0,none⟩) (ai _) _);have h:e.cell? ⟨w.heap.size,0,none⟩=some (.int .i64 n):=(by rw[a];exact World.cell?_setCell_same' _ _ _ (by rw[dB _ _ _ (by simp;omega),dB _ _ _ (by simp;omega),dB _ _ _ (by simp;omega),dB _ _ _ (by simp)];simp));have f:=Z b;clear a b)
 go_ret;exact⟨rfl,Y f⟩
section
open Go.Extern.Stop Go.Stop Go.Extern
def Hl(a:TypeId)(v:M)(w:J):(binOp .eql 50 (.iface a v) .nilIface).run prog w=.ok (.bool false) w:=by
 have h:∀d:Nat,(Op.equalIn (d+1) 50 (.iface a v) .nilIface).run prog w=.ok false w:=λd=>by simp[Op.equalIn,er underlying50]
 simp only[binOp];simp[Op.equal,Op.maxDepth,h 9999]
def Mg:(prog.info? 55).map (·.comparable)=some true:=by kernel_rfl
def LI(n:Int)(w:J):Calls prog 81 #[.nilIface,.iface 55 (.int .i64 n)] w λe a=>e=.returned (.bool false)/\a=w:=by
 have b:∀w,(binOp .eql 50 .nilIface (.iface 55 (.int .i64 n))).run prog w=.ok (.bool false) w:=λw=>run_eql_iface_nil_left w _ _ underlying50;go_enter func81,ntmps81
 go_wp2;go_ret;exact⟨rfl,rfl⟩
def tS(h:M)(w:J):(Go.method 513 210 (.agg #[h]) "Comparable").run prog w=.ok (303,.agg #[h]) w:=by kernel_rfl
def zp(w:J):(ReflectliteType.method (λt=>do Rtype.noPackHeld "Comparable" t;(λa:TypeInfo=>Value.bool a.comparable)<$>typeInfo t) #[.agg #[.pointer (some ⟨8,55,none⟩)]]).run prog w=.ok (.bool true) w:=by kernel_rfl
def Qe(v:M)(a:TypeId)(w:J):(Instr.typeAssert (.iface 225 v) a 300 true).run prog w=.ok (.tuple #[.nilIface,.bool false]) w:=run_typeAssert_lacksB underlying300 (by kernel_rfl) (by kernel_rfl) v a w
def MV(v:M)(a:TypeId)(w:J):(Instr.typeAssert (.iface 225 v) a 218 true).run prog w=.ok (.tuple #[.iface 225 v,.bool true]) w:=run_typeAssert_hasB underlying218 (by kernel_rfl) v a w
def BR(v:M)(w:J):(Go.method 513 225 v "Unwrap").run prog w=.ok (313,v) w:=by kernel_rfl
def Fc(a:Nat)(n:Int)(w:J)(h:w.cell? ⟨a,1,none⟩=some (.int .i64 n)):Calls prog 313 #[.pointer (some ⟨a,0,none⟩)] w λe b=>e=.returned (.iface 55 (.int .i64 n))/\b=w:=by
 go_enter func313,ntmps313
 go_wp2;go_ret;exact⟨rfl,rfl⟩
def JG(n:Int)(w:J):(binOp .eql 50 (.iface 55 (.int .i64 n)) (.iface 55 (.int .i64 n))).run prog w=.ok (.bool true) w:=by
 obtain⟨i,b,a⟩:=lU.1 Mg;have h:∀d:Nat,(Op.equalIn (d+2) 50 (.iface 55 (.int .i64 n)) (.iface 55 (.int .i64 n))).run prog w=.ok true w:=λd=>by
  simp[Op.equalIn,er underlying50,er underlying55,typeInfo,b,a]
 simp only[binOp];simp[Op.equal,Op.maxDepth,h 9998]
def Jm(a:Nat)(n:Int)(w:J)(j:w.cell? ⟨a,1,none⟩=some (.int .i64 n)):Calls prog 128 #[.iface 225 (.pointer (some ⟨a,0,none⟩)),.iface 55 (.int .i64 n),.bool true] w λe b=>e=.returned (.bool true)/\b=w:=by
 have g:∀w,(binOp .eql 50 (.iface 225 (.pointer (some ⟨a,0,none⟩))) (.iface 55 (.int .i64 n))).run prog w=.ok (.bool false) w:=λw=>run_eql_iface_types _ _ _ _ underlying50 (by decide) w;have h:=JG n;have i:=Hl;have d:=Qe;have f:=MV;have m1:=BR;have c:=Fc a n w j;go_enter func128,ntmps128
 go_wp2;refine jZ 2 ?_;rw[fP];go_wp2_with fail
 refine c.mono ?_;rintro e b⟨rfl,rfl⟩;go_wp2;rw[fP];go_wp2;go_ret;exact⟨rfl,rfl⟩
def Hg(a:Nat)(n:Int)(w:J)(j:w.cell? ⟨a,1,none⟩=some (.int .i64 n)):Calls prog 81 #[.iface 225 (.pointer (some ⟨a,0,none⟩)),.iface 55 (.int .i64 n)] w λf b=>f=.returned (.bool true)/\b=w:=by
 have h:=Hl;have c:=@di prog 114 _ ReflectliteType.typeOf func114 (by kernel_rfl) (by kernel_rfl) (by kernel_rfl) (by kernel_rfl);have d:=@di prog 303 _ (ReflectliteType.method (λt=>do Rtype.noPackHeld "Comparable" t;pure (.bool (<-typeInfo t).comparable))) func303 (by kernel_rfl) (by kernel_rfl) (by kernel_rfl) (by kernel_rfl);have l:=yJ;have k:=tS;have g:=zp;have e:=Jm a n w j;go_enter func81,ntmps81
 go_wp2_with fail
 refine e.mono ?_;rintro f b⟨rfl,rfl⟩;go_wp2;go_ret;exact⟨rfl,rfl⟩
end
end Go.Proofs.YtophdnlmpfmeiaaGreatDoor
