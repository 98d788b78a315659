import Derived.Test.YtojeeoclojldpaaGreatDoorC12
open _root_ renaming Option.some→H,Array.size→z,Go.World.heap→G,Go.Value.ownBlock→bV,Go.World.setCell→bZ,Nat→M,List→cr
namespace Go.Proofs.YtojeeoclojldpaaGreatDoor
open ChangeShapes WideShapes RowKit Proofs.Tryz
set_option maxHeartbeats 16000000
set_option linter.all false
set_option maxRecDepth 100000
structure Acc(S:fJ)(b:I)(a:cr (M×aa×TypeId))(lb:M)(e d:TypeId)(c base n:M)(xs:iU)(B:fJ)(W:I):Prop where
 fix:∀p∈a,dV W p.1 p.2.1 p.2.2
 row:∃v,dV W lb v e/\W.ownsRow base d c v n xs/\(∀k,B k↔(∃p∈a,p.1=k)\/k=lb\/bV v=H k)
 Yq:∀p∈a,z (G b)<=p.1/\p.1<base/\p.1≠lb
 Yp:z (G b)<=lb/\lb<base
 aw:Y S b W
section
variable{S:fJ}{b W:I}{a:cr (M×aa×TypeId)}{lb:M}{e d:TypeId}{c baseqq n:M}{xs:iU}{B:fJ}
theorem Acc.lt(i:Acc S b a lb e d c baseqq n xs B W):∀k,B k->z (G b)<=k/\k<z (G W):=by
 intro k o;obtain⟨v,j,l,m⟩:=i.row;have:=i.Yp;rcases(m k).1 o with⟨p,h,g⟩|g|g;subst g;exact⟨(i.Yq p h).1,ak<|i.fix p h⟩;subst g;exact⟨by omega,ak j⟩;have:=l.lt k g;exact⟨by omega,this.2⟩
theorem Acc.stays{m:I}{T:fJ}(l:Acc S b a lb e d c baseqq n xs B W)(h:Y T W m)(g:∀k,T k->¬B k/\(S k\/z (G b)<=k)):Acc S b a lb e d c baseqq n xs B m:=by
 obtain⟨v,p,q,f⟩:=l.row;exact⟨λr j=>(h.block _ (ak<|l.fix r j)<|λo=>(g _ o).1<|(f _).2<|.inl ⟨r,j,rfl⟩).trans<|l.fix r j,⟨v,(h.block _ (ak p)<|λo=>(g _ o).1<|(f _).2<|.inr<|.inl rfl).trans p,h.own q<|λk i o=>(g k o).1<|(f k).2<|.inr<|.inr i,f⟩,l.Yq,l.Yp,l.aw.trans h<|λk i=>(g k i).2⟩
theorem Acc.more{g:I}{C f:aa}{F:M}{s:iU}(t:Acc S b a lb e d c baseqq n xs B W)(E:dV W lb C e)(l:∀k,B k↔(∃p∈a,p.1=k)\/k=lb\/bV C=H k)(P:W.ownsRow baseqq d c C n xs)(A:Y (λk=>bV C=H k) W g)(u:bV f=bV C\/∃L,bV f=H L/\z (G W)<=L)(m:g.ownsRow baseqq d c f F s):∃D,Acc S b a lb e d c baseqq F s D (bZ g (R lb 0) f)/\Y B W (bZ g (R lb 0) f)/\(∀k,D k->B k\/z (G W)<=k):=by
 have q:∀k,bV C=H k->baseqq<=k/\k<z (G W):=λk h=>P.lt k h;have r:∀k,bV f=H k->baseqq<=k:=λk h=>(m.lt k h).1;have O:=t.Yp;have w:dV g lb C e:=(A.block _ (ak E) (λj=>by have:=(q _ j).1;omega)).trans E;have o:Y B W (bZ g (R lb 0) f):=(A.mono (T:=B)<|λk h=>.inl<|(l k).2<|.inr<|.inr h).setCell _ _ _<|.inl<|(l _).2<|.inr<|.inl rfl;refine⟨λk=>(∃p∈a,p.1=k)\/k=lb\/bV f=H k,⟨λp v=>?_,⟨f,w.set _,?_,λk=>qT⟩,t.Yq,t.Yp,?_⟩,o,?_⟩;obtain⟨Q,V,N⟩:=t.Yq p v;have K:dV g p.1 p.2.1 p.2.2:=(A.block _ (ak<|t.fix p v) (λj=>by have:=(q _ j).1;omega)).trans<|t.fix p v;exact K.other _ N;exact m.kept (cV g _ _ _) (by right;intro j;have:=r _ j;omega);exact t.aw.trans o<|λk h=>.inr (t.lt k h).1;rintro k(j|j|j);exact .inl<|(l k).2<|.inl j;exact .inl<|(l k).2<|.inr<|.inl j;rcases u with K|⟨L,K,N⟩;exact .inl<|(l k).2<|.inr<|.inr<|K.symm.trans j;rw[K]at j;cases j;exact .inr N
end
