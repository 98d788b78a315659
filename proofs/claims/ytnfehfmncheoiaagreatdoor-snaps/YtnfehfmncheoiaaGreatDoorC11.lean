import Derived.Test.YtnfehfmncheoiaaGreatDoorC7
open _root_ renaming Option.some→H,Array.size→z,Go.World.heap→G,Go.Value.ownBlock→bV,Go.World.setCell→bZ,Bool.false→bE,Bool.true→bU,Nat→M,List→cr,Go.Proofs.Tryz.prog→bF,Go.Value.bool→aL
namespace Go.Proofs.YtnfehfmncheoiaaGreatDoor
open ChangeShapes WideShapes RowKit Proofs.Tryz
set_option maxHeartbeats 16000000
set_option linter.all false
set_option maxRecDepth 100000
variable{a f:Y}{b c g:M}{W:fI}{r:jm}{T:Type}{V:Array aa}
structure Acc(S:fI)(b:Y)(a:cr (M×aa×TypeId))(lb:M)(e d:TypeId)(c base n:M)(xs:iV)(B:fI)(W:Y):Prop where
 fix:∀p∈a,dV W p.1 p.2.1 p.2.2
 row:∃v,dV W lb v e/\W.ownsRow base d c v n xs/\(∀k,B k↔(∃p∈a,p.1=k)\/k=lb\/bV v=H k)
 Yu:∀p∈a,z (G b)<=p.1/\p.1<base/\p.1≠lb
 Yt:z (G b)<=lb/\lb<base
 ar:Z S b W
section
variable{S:fI}{b W:Y}{a:cr (M×aa×TypeId)}{lb:M}{e d:TypeId}{c baseqq n:M}{xs:iV}{B:fI}
theorem Acc.lt(i:Acc S b a lb e d c baseqq n xs B W):∀k,B k->z (G b)<=k/\k<z (G W):=by
 intro k o;obtain⟨v,j,l,m⟩:=i.row;have:=i.Yt;rcases(m k).1 o with⟨p,h,g⟩|g|g;subst g;exact⟨(i.Yu p h).1,aj<|i.fix p h⟩;subst g;exact⟨by omega,aj j⟩;have:=l.lt k g;exact⟨by omega,this.2⟩
theorem Acc.stays{m:Y}{T:fI}(l:Acc S b a lb e d c baseqq n xs B W)(h:Z T W m)(g:∀k,T k->¬B k/\(S k\/z (G b)<=k)):Acc S b a lb e d c baseqq n xs B m:=by
 obtain⟨v,p,q,f⟩:=l.row;exact⟨λr j=>(h.block _ (aj<|l.fix r j)<|λo=>(g _ o).1<|(f _).2<|.inl ⟨r,j,rfl⟩).trans<|l.fix r j,⟨v,(h.block _ (aj p)<|λo=>(g _ o).1<|(f _).2<|.inr<|.inl rfl).trans p,h.own q<|λk i o=>(g k o).1<|(f k).2<|.inr<|.inr i,f⟩,l.Yu,l.Yt,l.ar.trans h<|λk i=>(g k i).2⟩
theorem Acc.more{g:Y}{C f:aa}{F:M}{s:iV}(t:Acc S b a lb e d c baseqq n xs B W)(E:dV W lb C e)(l:∀k,B k↔(∃p∈a,p.1=k)\/k=lb\/bV C=H k)(P:W.ownsRow baseqq d c C n xs)(A:Z (λk=>bV C=H k) W g)(u:bV f=bV C\/∃L,bV f=H L/\z (G W)<=L)(m:g.ownsRow baseqq d c f F s):∃D,Acc S b a lb e d c baseqq F s D (bZ g (R lb 0) f)/\Z B W (bZ g (R lb 0) f)/\(∀k,D k->B k\/z (G W)<=k):=by
 have q:∀k,bV C=H k->baseqq<=k/\k<z (G W):=λk h=>P.lt k h;have r:∀k,bV f=H k->baseqq<=k:=λk h=>(m.lt k h).1;have O:=t.Yt;have w:dV g lb C e:=(A.block _ (aj E) (λj=>by have:=(q _ j).1;omega)).trans E;have o:Z B W (bZ g (R lb 0) f):=(A.mono (T:=B)<|λk h=>.inl<|(l k).2<|.inr<|.inr h).setCell _ _ _<|.inl<|(l _).2<|.inr<|.inl rfl;refine⟨λk=>(∃p∈a,p.1=k)\/k=lb\/bV f=H k,⟨λp v=>?_,⟨f,w.set _,?_,λk=>qU⟩,t.Yu,t.Yt,?_⟩,o,?_⟩;obtain⟨Q,V,N⟩:=t.Yu p v;have K:dV g p.1 p.2.1 p.2.2:=(A.block _ (aj<|t.fix p v) (λj=>by have:=(q _ j).1;omega)).trans<|t.fix p v;exact K.other _ N;exact m.kept (cW g _ _ _) (by right;intro j;have:=r _ j;omega);exact t.ar.trans o<|λk h=>.inr (t.lt k h).1;rintro k(j|j|j);exact .inl<|(l k).2<|.inl j;exact .inl<|(l k).2<|.inr<|.inl j;rcases u with K|⟨L,K,N⟩;exact .inl<|(l k).2<|.inr<|.inr<|K.symm.trans j;rw[K]at j;cases j;exact .inr N
end
def PU(e:T->Array aa)(V:jm)(h o j:M)(l:Array aa)(n:cr T)(S:fI)(w:Y):Prop:=∀(g:M)(d:cr T->fI->Y->Prop)(f:cr T->Y->Prop)(B:fI)(W:Y),jJ V h S w W->V.D W->d [] B W->(∀k,S k->¬B k)->(∀a B W,d a B W->∀k,B k->h<=k/\k<z (G W))->(∀a B W b m,d a B W->Z m W b->(∀k,m k->¬B k/\(V.F k\/z (G w)<=k))->d a B b)->(∀a x B W,(a++[x])<+:n->d a B W->V.D W->YieldAt Fence.wide (o-1) bF g (e x) W λi b=>
 (i=aO (aL bU)/\V.D b/\∃c,d (a++[x]) c b/\Z B W b/\(∀k,c k->B k\/z (G W)<=k))\/(i=aO (aL bE)/\f (a++[x]) b))->
 CallsIn Fence.wide o bF j (#[.func (.yield g) #[] #[]]++l) W λi b=>(∃v,i=aO v)/\((∃c,d n c b/\V.D b)\/(∃a,f a b))
def PU.q{α:Type}{d:α->Array aa}{l:cr α}(A:PU d r b c g V l W a):PT d r b c g V (·<+:l) (·=l) W (λu=>r.F u\/z (G a)<=u) a:=by
 intro t v j B w k m n o p q s;apply(A t v j B w k m n o p q s).mono;rintro C x⟨f,⟨h,e⟩|e⟩;exact⟨f,.inl ⟨l,h,rfl,e⟩⟩;exact⟨f,.inr e⟩
def BU{c:T->Array aa}{m:M}{C:Operand}{t:Array Tmp}{b body:Code}{Q:Exit->Act->Y->Prop}{a:Act}{V:jm}{n0 gf:M}{lb:Array aa}{l:cr T}{S:fI}(A:a.eval C=.func (.func gf) #[] lb)(v:Enters bF gf)(p:∀F,(c F).size=t.size)(qM:PU c V n0 (m-1) gf lb l S f)(x:V.D f)(o:n0<=z (G f))(h:∀s,S s->s<z (G f))(u:cr T->fI->Y->Prop)(r:Code->cr T->fI->Y->Prop)(B:fI):OX c m C t b body Q a f V n0 (·<+:l) S (λs=>V.F s\/z (G f)<=s) u r B (∀(D:M)(B:fI)(W:Y),z (G f)<=D->u l B W->¬B D->V.D W->W.heap[D]?=H (.deferred<|H [])->Q .normal {a with defers:={target:=.collected D,args:=#[]}::a.defers} W):=λw j n q i d e g=>wW (λ_ E=>.inr E) A v p qM.q x o h u r B w j n q i d (λ_ D B W k=>k▸e D B W) g
