import Derived.Laws.CopyRow
import Derived.Laws.NewBlocks
import Derived.Lib.AppendZerosOnto
import Derived.Lib.Overlaps
import Derived.LoopIn
import Derived.LoopNIn
import Derived.RangeFuncBound
import Derived.RangeFuncLeaves
import Derived.RangeFuncNested
import Derived.Shelf.AbstractIn
import Derived.Shelf.RegionOpen
import Derived.Shelf.RegionOpenPlain
import Derived.Sort.LoopGhostIn
import Derived.TacticsInMore
import Derived.Test.YtnfehfmncheoiaaGreatDoorC4
open _root_ renaming List.length→y,Option.some→H,Array.size→z,Go.World.heap→G,Go.Value.ownBlock→bV,Go.World.cell?→aS,Go.World.setCell→bZ,Go.World.alloc→ct,Bool.false→bE,Bool.true→bU,Nat→M,Int→X,List→cr,Go.Calls→cw,Go.undef→iC,Go.Proofs.Tryz.prog→bF,Go.Value.slice→I,Go.Value.string→J,Go.Value.bool→aL,Go.Value.pointer→fh,Go.Value.tuple→dA,Go.Value.agg→eD
namespace Go.Proofs.YtnfehfmncheoiaaGreatDoor
open ChangeShapes WideShapes RowKit Proofs.Tryz
set_option maxHeartbeats 16000000
set_option linter.all false
set_option maxRecDepth 100000
variable{a f C:Y}{b c g l:M}{d s N:aa}{e:cA}{k:dW}{m:X}{o:eK}{W:fI}{r:jm}{v:ab}{w:E}{x:iV}{D:Bool}{T:Type}{V:Array aa}
def gE(W:Y)(l:M)(o:Obj):Z (λk=>k=l) W (W.putObj l o):=Z.dM (grownBy_putObj' W l o) (by rintro k⟨⟩;exact .inl rfl)
def PT(f:T->Array aa)(V:jm)(i q m:M)(n:Array aa)(o l:cr T->Prop)(S e:fI)(w:Y):Prop:=∀(h:M)(d:cr T->fI->Y->Prop)(g:cr T->Y->Prop)(B:fI)(W:Y),jJ V i S w W->V.D W->d [] B W->(∀k,S k->¬B k)->(∀a B W,d a B W->∀k,B k->i<=k/\k<z (G W))->(∀a B W b p,d a B W->Z p W b->(∀k,p k->¬B k/\e k)->d a B b)->(∀a x B W,o (a++[x])->d a B W->V.D W->YieldAt Fence.wide (q-1) bF h (f x) W λj b=>
 (j=aO (aL bU)/\V.D b/\∃c,d (a++[x]) c b/\Z B W b/\(∀k,c k->B k\/z (G W)<=k))\/(j=aO (aL bE)/\g (a++[x]) b))->
 CallsIn Fence.wide q bF m (#[.func (.yield h) #[] #[]]++n) W λj b=>(∃v,j=aO v)/\((∃k c,l k/\d k c b/\V.D b)\/(∃a,g a b))
def Hz{α:Type}(e:α->Array aa)(V:jm)(h n j:M)(l:Array aa)(m:cr α)(S:fI)(w:Y):Prop:=∀(g:M)(d:cr α->fI->Y->Prop)(f:cr α->Y->Prop)(B:fI)(W:Y),jJ V h S w W->V.D W->d [] B W->(∀k,S k->¬B k)->(∀a B W,d a B W->∀k,B k->h<=k/\k<z (G W))->(∀a B W b T,d a B W->Z T W b->(∀k,T k->¬B k/\(S k\/V.F k\/z (G w)<=k))->d a B b)->(∀a x B W,(a++[x])<+:m->d a B W->V.D W->YieldAt Fence.wide (n-1) bF g (e x) W λi b=>
 (i=aO (aL bU)/\V.D b/\∃c,d (a++[x]) c b/\Z B W b/\(∀k,c k->B k\/z (G W)<=k))\/(i=aO (aL bE)/\f (a++[x]) b))->
 CallsIn Fence.wide n bF j (#[.func (.yield g) #[] #[]]++l) W λi b=>(∃v,i=aO v)/\((∃c,d m c b/\V.D b)\/(∃a,f a b))
def Hz.q{α:Type}{d:α->Array aa}{l:cr α}(A:Hz d r b c g V l W a):PT d r b c g V (·<+:l) (·=l) W (λt=>W t\/r.F t\/z (G a)<=t) a:=by
 intro u v j B w k m n o p q s;apply(A u v j B w k m n o p q s).mono;rintro C x⟨f,⟨h,e⟩|e⟩;exact⟨f,.inl ⟨l,h,rfl,e⟩⟩;exact⟨f,.inr e⟩
abbrev Yq{α:Type}(a:α->Array aa)(V:jm)(e m:M)(c:M)(d:Array aa)(f b:cr α->Prop)(S:fI)(w:Y):Prop:=PT a V e m c d f b S (λk=>S k\/V.F k\/z (G w)<=k) w
def Bi(V:jm)(g:cr T->fI->Y->Prop)(f:Code->cr T->fI->Y->Prop)(e:cr T)(B:fI)(W d:Y)(b:M):Exit->Act->Y->Prop
 | .normal,_,a=>V.D a/\∃c,g e c a/\Z (λk=>B k\/k=b) W a/\a.heap[b]?=d.heap[b]?/\(∀k,c k->B k\/z (G W)<=k)
 | .ret,_,a=>∃c,f .ret e c a/\Z (λk=>B k\/k=b) W a/\a.heap[b]?=d.heap[b]?/\(∀k,c k->B k\/z (G W)<=k)
 | .exit id,_,a=>∃c,f (.exit id) e c a/\Z (λk=>B k\/k=b) W a/\a.heap[b]?=d.heap[b]?/\(∀k,c k->B k\/z (G W)<=k)
 | .goto _,_,_=>False
 | .panic _,_,_=>False
 | .outgrown,_,_=>False
abbrev OX{α:Type}(i:α->Array aa)(o:M)(t:Operand)(n:Array Tmp)(c body:Code)(Q:Exit->Act->Y->Prop)(a:Act)(w:Y)(V:jm)(r:M)(s:cr α->Prop)(S g:fI)(j:cr α->fI->Y->Prop)(f:Code->cr α->fI->Y->Prop)(B:fI)(p:Prop):Prop:=(j [] B w)->(∀k,S k->¬B k)->(∀b B W,j b B W->∀k,B k->r<=k/\k<z (G W))->(∀b B W e T,j b B W->Z T W e->(∀k,T k->¬B k/\g k)->j b B e)->(∀m b B W e T,f m b B W->Z T W e->(∀k,T k->¬B k/\z (G w)<=k)->f m b B e)->(∀d b x B W,z (G w)<=d->¬B d->d<z (G W)->s (b++[x])->j b B W->V.D W->c.wpIn (Fence.wide.inRound d) (o-1-1) bF (Exit.then (λq l=>Z az W l/\∀h,Z (λk=>k=d) l h->body.wpIn (Fence.wide.inRound d) (o-1-1) bF (Bi V j f (b++[x]) B W h d) q h) (λ_ _ _=>False)) {tmps:=(n.zip<|i x).foldl (λv(u,A)=>v.setIfInBounds u A) a.tmps,defers:=[]} W)->p->(∀(D:M)(m:Code)(b:cr α)(B:fI)(W:Y),z (G w)<=D->f m b B W->¬B D->W.heap[D]?=H (.deferred<|H [])->m.wpIn Fence.wide o bF Q {a with defers:={target:=.collected D,args:=#[]}::a.defers} W)->(Code.rangeFunc t n c body).wpIn Fence.wide o bF Q a w
def wW{arg:T->Array aa}{m:M}{bv:Operand}{ps:Array Tmp}{assign body:Code}{bu:Exit->Act->Y->Prop}{a:Act}{V:jm}{n0 gf:M}{lb:Array aa}{pp ff:cr T->Prop}{S ac:fI}(hU:∀k,z (G f)<=k->ac k)(hg:a.eval bv=.func (.func gf) #[] lb)(eg:Enters bF gf)(bn:∀bp,(arg bp).size=ps.size)(qM:PT arg V n0 (m-1) gf lb pp ff S ac f)(hD:V.D f)(ba:n0<=z (G f))(w:∀k,S k->k<z (G f))(bt:cr T->fI->Y->Prop)(Ix:Code->cr T->fI->Y->Prop)(bd:fI):OX arg m bv ps assign body bu a f V n0 pp S ac bt Ix bd (∀(bs:cr T)(bq:M)(bd:fI)(W:Y),ff bs->z (G f)<=bq->bt bs bd W->¬bd bq->V.D W->W.heap[bq]?=H (.deferred<|H [])->bu .normal {a with defers:={target:=.collected bq,args:=#[]}::a.defers} W):=by
 intro h0 bk an L D ad al ao;refine wpIn_rangeFunc ?_;intro fn bl;obtain⟨d,g⟩:∃d:LoopState->Option Code->Loop,d=λb c=>{state:=b,pending:=c,fn,tmps:=a.tmps,params:=ps,assign,body,defers:=z (G f)}:=⟨_,rfl⟩;obtain⟨E,F⟩:∃E,ct (ct f<|.deferred<|H []) (.loop<|d .ready none)=E:=⟨_,rfl⟩;have bi:E.heap[z (G f)+1]?=H (.loop<|d .ready none):=by rw[<-F];exact aC _<|by simp
 have bh:E.heap[z<|G f]?=H (.deferred<|H []):=by rw[<-F];exact(fX _<|by simp).trans<|aC _ rfl
 have au:Z az f E:=by rw[<-F];exact((Z.refl _ f).alloc _).alloc _
 refine⟨z (G f)+1,[{target:=.collected<|z<|G f,args:=#[]}],E,{target:=.fn (.func gf) lb,args:=#[.func (.yield<|z (G f)+1) #[] #[]]},E,gf,#[.func (.yield<|f.heap.size+1) #[] #[]]++lb,E,?_,?_,?_,?_,(λi=>(by cases i)),?_⟩;rw[<-F,g];exact run_enterLoop_outer _ _ _ _ _;(.simp only[resolve,hg];simp[go_sem]);intro b _;trivial;(.have:=eg;unfold Enters at this;simp[invoke,go_sem,this])
 .refine(qM (z (G f)+1) (λp bd W=>∃n,(∀k,bd k↔n k\/k=z (G f)\/k=z (G f)+1)/\bt p n W/\¬n (z<|G f)/\¬n (z (G f)+1)/\W.heap[z (G f)+1]?=H (.loop<|d .ready none)/\W.heap[z<|G f]?=H (.deferred<|H [])) (λp W=>∃i n,Ix i p n W/\¬n (z<|G f)/\¬n (z (G f)+1)/\W.heap[z (G f)+1]?=H (.loop<|d .done<|H i)/\W.heap[z<|G f]?=H (.deferred<|H [])) (λk=>bd k\/k=z (G f)\/k=z (G f)+1) E (au.same ba (λk o=>⟨w k o,λi=>i⟩) cG) (V.fm hD au cG) ⟨bd,λk=>qU,L _ _ _ _ _ h0 au cG,λi=>by have:=(an _ _ _ h0 _ i).2;omega,λi=>by have:=(an _ _ _ h0 _ i).2;omega,bi,bh⟩ ?_ ?_ ?_ ?_).mono ?_
  .rintro k o(i|i|i)
   .exact bk k o i
   .have:=w k o;omega
   .have:=w k o;omega
  .rintro p B' W⟨n,v,K,_,_,r,o⟩k b;rcases(v k).1 b with i|i|i
   .exact an _ _ _ K k i
   .subst i;exact⟨ba,aj o⟩
   .subst i;exact⟨by omega,aj r⟩
  .rintro p B' W l q⟨n,v,K,O,Q,r,o⟩j e;exact⟨n,v,L _ _ _ _ _ K j<|λk b=>⟨λi=>(e k b).1<|(v k).2<|.inl i,(e k b).2⟩,O,Q,(j.block _ (aj r)<|λi=>(e _ i).1<|(v _).2<|.inr<|.inr rfl).trans r,(j.block _ (aj o)<|λi=>(e _ i).1<|(v _).2<|.inr<|.inl rfl).trans o⟩
  .rintro p bp B' W bb⟨n,v,K,O,Q,r,o⟩bg;have hy:=run_yield (P:=bF) (args:=(arg bp)) r (by rw[g];exact bn bp);rw[g]at hy;refine⟨fn,_,assign,body,hy,roundIn_of_wpIn bl<|wpIn_mono (ad (z (G f)+1) p bp n W (by omega) Q (aj r) bb K bg) ?_⟩;clear hy;intro br a1 Wa N;cases br with
   |normal=>
    obtain⟨bo,N⟩:=N;have ax:Wa.heap[z (G f)+1]?=H (.loop<|d .ready none):=(bo.block _ (aj r)<|λi=>i).trans r;refine⟨_,run_beginRound ax (by rw[g]),?_⟩;have bm:(Wa.putObj (z (G f)+1)<|.loop {d .ready none with state:=.busy}).heap[z (G f)+1]?=H (.loop {d .ready none with state:=.busy}):=World.putObj_heap_same<|aj ax;refine wpIn_mono (N _<|gE _ _ _) ?_;have fin:∀(e:Option Code)(l:Y),l.heap[z (G f)+1]?=(Wa.putObj (z (G f)+1)<|.loop {d .ready none with state:=.busy}).heap[z (G f)+1]?->(Instr.endRound (z (G f)+1) e).run bF l=.ok (aL e.isNone) (l.putObj (z (G f)+1)<|.loop<|d (if e.isNone then .ready else .done) e)/\(l.putObj (z (G f)+1)<|.loop<|d (if e.isNone then .ready else .done) e).heap[z (G f)+1]?=H (.loop<|d (if e.isNone then .ready else .done) e):=λe l h3=>by
     have av:=h3.trans bm;have:=run_endRound (P:=bF) e av;rw[g]at this|-;exact⟨this,World.putObj_heap_same<|aj av⟩
    have t:∀l,Z (λk=>n k\/k=z (G f)+1) W l->l.heap[z<|G f]?=H (.deferred<|H []):=λl j=>(j.block _ (aj o)<|λi=>i.elim O<|λi=>by omega).trans o;have B:∀(q:fI),(∀k,q k->n k\/z (G W)<=k)->¬q (z<|G f)/\¬q (z (G f)+1):=λq e=>by
     have:=aj r;refine⟨λi=>?_,λi=>?_⟩
     .rcases e _ i with bc|bc
      .exact O bc
      .omega
     .rcases e _ i with bc|bc
      .exact Q bc
      .omega
    rintro br a3 l u;cases br with
    |normal=>
     obtain⟨e,q,x,j,C,s⟩:=u;obtain⟨hr,A⟩:=fin none l C;obtain⟨q1,q2⟩:=B q s;have c:=gE l (z (G f)+1)<|.loop<|d (if(none:Option Code).isNone then .ready else .done) none;refine⟨_,_,hr,.inl ⟨rfl,V.fm e c<|λk b hf=>?_,λk=>q k\/k=z (G f)\/k=z (G f)+1,⟨q,λk=>qU,L _ _ _ _ _ x c (λk b=>by subst b;exact⟨q2,hU _<|by omega⟩),q1,q2,A,?_⟩,?_,?_⟩⟩
     .have:=V.lt hD hf;omega
     .exact(c.block _ (aj<|t l j)<|λi=>by omega).trans<|t l j
     .refine(j.trans c<|λk b=>.inl<|.inr b).mono<|λk b=>.inl<|(v k).2 ?_;rcases b with i|i
      .exact .inl i
      .exact .inr<|.inr i
     .rintro k(i|i|i)
      .rcases s k i with bc|bc
       .exact .inl<|(v k).2<|.inl bc
       .exact .inr bc
      .exact .inl<|(v k).2<|.inr<|.inl i
      .exact .inl<|(v k).2<|.inr<|.inr i
    |ret=>
     obtain⟨q,x,j,C,s⟩:=u;obtain⟨hr,A⟩:=fin (H .ret) l C;obtain⟨q1,q2⟩:=B q s;have c:=gE l (z (G f)+1)<|.loop<|d (if(H Code.ret:Option Code).isNone then .ready else .done)<|H .ret;exact⟨_,_,hr,.inr ⟨rfl,.ret,q,D _ _ _ _ _ _ x c (λk b=>by subst b;exact⟨q2,by omega⟩),q1,q2,A,(c.block _ (aj<|t l j)<|λi=>by omega).trans<|t l j⟩⟩
    |exit id=>
     obtain⟨q,x,j,C,s⟩:=u;obtain⟨hr,A⟩:=fin (H<|.exit id) l C;obtain⟨q1,q2⟩:=B q s;have c:=gE l (z (G f)+1)<|.loop<|d (if(H (Code.exit id):Option Code).isNone then .ready else .done)<|H<|.exit id;exact⟨_,_,hr,.inr ⟨rfl,.exit id,q,D _ _ _ _ _ _ x c (λk b=>by subst b;exact⟨q2,by omega⟩),q1,q2,A,(c.block _ (aj<|t l j)<|λi=>by omega).trans<|t l j⟩⟩
    |goto bx=>exact u.elim
    |panic ch=>exact u.elim
    |outgrown=>exact u.elim
   |exit id=>exact N.elim
   |goto bx=>exact N.elim
   |ret=>exact N.elim
   |panic bf=>exact N.elim
   |outgrown=>exact N.elim
  .rintro br l⟨⟨q,rfl⟩,(⟨bs,B',j,⟨n,v,K,O,Q,r,o⟩,e⟩|⟨p,i,n,K,O,Q,r,o⟩)⟩
   .have c:=λd=>gE l (z (G f)+1) d;exact⟨none,_,by have:=run_endLoop (P:=bF) r (by rw[g];simp);rw[g]at this;exact this,al bs _ n _ j (ah _) (L _ _ _ _ _ K (c _) (λk b=>by subst b;exact⟨Q,hU _<|by omega⟩)) O (V.fm e (c _) (λk b hf=>by have:=V.lt hD hf;omega))<|(c _).block _ (aj o) (λi=>by omega)|>.trans o⟩
   .have c:=λd=>gE l (z (G f)+1) d;exact⟨H i,_,by have:=run_endLoop (P:=bF) r (by rw[g];simp);rw[g]at this;exact this,ao _ i p n _ (ah _) (D _ _ _ _ _ _ K (c _) (λk b=>by subst b;exact⟨Q,by omega⟩)) O<|(c _).block _ (aj o) (λi=>by omega)|>.trans o⟩
def nA{α:Type}{arg:α->Array aa}{m:M}{A:Operand}{s:Array Tmp}{b body:Code}{Q:Exit->Act->Y->Prop}{a:Act}{V:jm}{n0 gf:M}{lb:Array aa}{l:cr α}{S:fI}(x:a.eval A=.func (.func gf) #[] lb)(u:Enters bF gf)(o:∀E,(arg E).size=s.size)(qM:Hz arg V n0 (m-1) gf lb l S f)(w:V.D f)(n:n0<=z (G f))(g:∀q,S q->q<z (G f))(t:cr α->fI->Y->Prop)(r:Code->cr α->fI->Y->Prop)(B:fI):OX arg m A s b body Q a f V n0 (·<+:l) S (λq=>S q\/V.F q\/z (G f)<=q) t r B (∀(D:M)(B:fI)(W:Y),z (G f)<=D->t l B W->¬B D->V.D W->W.heap[D]?=H (.deferred<|H [])->Q .normal {a with defers:={target:=.collected D,args:=#[]}::a.defers} W):=λv i k p h c d e=>wW (λ_ C=>.inr<|.inr C) x u o qM.q w n g t r B v i k p h c (λ_ D B W j=>j▸d D B W) e
abbrev SG(x:E):Array aa:=#[x.value,.nilIface]
abbrev Iter:=@Hz E SG
section
open Go.Shelf
def ET(db:M)(cb:Array aa)(hb:dV a c (.func (.func g) #[] cb) 174)(he:Enters bF g)(hr:Hx r b g cb e W a)(cl:b<=c)(cn:¬W c):Iter r b db 193 #[aw c] e (λk=>W k\/k=c) a:=by
 intro lr cB Jx cT cE hs hD hJ bn av bs hY;have eg:∀b a,(callFunc g b).run bF a=.ok (.enter g b) a:=he;have bo:dV cE c (.func (.func g) #[] cb) 174:=hb.same hs<|.inr rfl;have br:Hx r b g cb e W cE:=hr.same<|hs.mono<|λ_ d=>.inl d;have bt:=hs.1;obtain⟨bv,cd,HD,HJ,bd,ac,L,HY⟩:=EM bo br hD hJ bn av bs hY;clear hs hD hJ bn av bs hY hb hr bo br he;refine qT func193 rfl trivial ?_ rfl;simp only[ntmps193,eT,ay,cK,Nat.reduceAdd,Nat.reduceSub,dS,dR,eU,ew,cC,cq];gi_wp2;gi_loopg [3] (y e+1) (λd _ wr=>∃i q S' v,e=i++q/\y q<d/\Hx r b g cb q S' wr/\dV wr c (.func (.func g) #[] cb) 174/\r.D wr/\cB i v wr/\(∀k,S' k->¬v k)/\¬v c/\¬S' c/\(∀k,S' k->W k\/z (G a)<=k)/\z (G a)<=z (G wr))
 case atStart=>exact⟨[],e,W,cT,rfl,by omega,ae cd,ae bv,ae HD,ae HJ,λk d=>(ae bd) k<|.inl d,(ae bd) c<|.inr rfl,cn,λk d=>.inl d,bt⟩
 case round=>
  obtain⟨i,q,S',v,hl,bp,p,Q,O,j,n,al,ao,D,cu⟩:=hrel;have ce:=U D;have cs:=Q.cell;have V:=U Q;have ca:=U j;have bf:=U n;obtain⟨ba,bg,HL⟩:=dB al ao hl;have o:=p.own;have bc:=U o;have F:∀k,b<=k->¬r.F k:=λk d a=>by have:=o.aN k a;omega
  have ck:=U F;cases q with
  |nil=>
   have hc:=p.2 wr (jJ.refl _ _ _ _) O;have HT:=U<|λm(W:Z (λk=>S' k\/r.F k) wr m)=>(ae L) i v wr m _ j W<|λk d=>⟨λs=>d.elim (λt=>n k t s)<|λt=>F k ((ae ac) _ _ _ j k s).1 t,d.elim (λt=>(D k t).elim (λs=>.inl<|.inl s)<|λs=>.inr<|.inr s)<|λt=>.inr<|.inl t⟩;clear p Q O j n al ao hl o F bp D;gi_wp2_with(refine⟨trivial,(λs=>(by cases s)),?_⟩;gi_at_fn g;refine(cZ.2 hc).mono ?_;rintro cM m⟨rfl,C,l⟩;have f:=U C;have bb:=U<|(ae HT) m l;clear C l;unfold wP)
   refine⟨λ_ h=>(by cases h),?_⟩;gi_wp2;refine cI (iQ rfl _ _ _) rfl ?_;refine⟨⟨_,rfl⟩,.inl ⟨v,?_,r.fm (ae f) ((Z.refl az m).alloc _) cG⟩⟩;have hl:=ae HL;rw[dI]at hl;rw[hl];exact(ae L) i v m _ _ (ae bb) ((Z.refl az m).alloc _) cG
  |cons cx cv=>
   have hc:=p.2 wr (jJ.refl _ _ _ _) O;have bq:(i++[cx])<+:e:=⟨cv,by rw[hl];simp⟩;have HT:=U<|λm(W:Z (λk=>S' k\/r.F k) wr m)=>(ae L) i v wr m _ j W<|λk d=>⟨λs=>d.elim (λt=>n k t s)<|λt=>F k ((ae ac) _ _ _ j k s).1 t,d.elim (λt=>(D k t).elim (λs=>.inl<|.inl s)<|λs=>.inr<|.inr s)<|λt=>.inr<|.inl t⟩;have N:=U<|λa(c:cB i v a)(b:r.D a)=>(ae HY) i cx v a bq c b;clear p Q O j n al ao hl o F D;obtain⟨x,A,w,f⟩:=cx;unfold SG at N;unfold E.value at hc N;simp only at hc N;gi_wp2_with(refine⟨trivial,(λs=>(by cases s)),?_⟩;gi_at_fn g;refine(cZ.2 hc).mono ?_;rintro cM m⟨rfl,C,l,S1,bm,u⟩;have an:=(ae L) i v m _ _ ((ae HT) m l) ((Z.refl az m).alloc<|aq #[J x,J A,aL w,aI f] 164) cG;have bi:=r.fm C ((Z.refl az m).alloc<|aq #[J x,J A,aL w,aI f] 164) cG;obtain⟨fn,cp,bu,body,hy,hR⟩:=(ae N) _ an bi;have HR:=U hR;have bb:=U an;have ch:=U l;have ad:=U bm;have cc:=U u;clear C l bm u an bi hR)
   refine⟨(λs=>(by cases s)),(ae HR).mono ?_⟩;rintro cM W3(⟨rfl,bk,B3,bl,P,bh⟩|⟨rfl,hx⟩)
   .have bx:=U bk;obtain⟨bT,cj,ax⟩:=dB bl P bh;clear bk bl P bh;gi_wp2;gi_roundg (y cv+1)
    case measure=>simpa using bp
    case rel=>
     have l:=ae ch;have P:=ae cj;have u:=ae cc;have o:=ae bc;have j:=ae ca;have B:=(ae ac) _ _ _ j;have co:Z az m (ct m<|aq #[J x,J A,aL w,aI f] 164):=(Z.refl _ _).alloc _;have S:∀k,S1 k->¬v k:=λk d s=>by
      rcases(ae ad) k d with t|t
      .exact(ae bf) k t s
      .have:=(B k s).2;omega
     have cm:=u.own.size;have K:Z v m W3:=(co.mono (T:=v) cG).trans P<|λk d=>.inl d;have au:dV m c (.func (.func g) #[] cb) 174:=by
      refine(l.block c (aj<|ae V) ?_).trans<|ae V;rintro(s|s)
      .exact(ae bg) s
      .exact(ae ck) c cl s
     refine⟨i++[⟨x,A,w,f⟩],cv,S1,B3,by rw[ae HL];simp,by omega,u.same<|K.same cm (λk d=>⟨(u.own.each k d).2,S k d⟩) (λk d av=>by have:=(B k d).1;omega),(K.block c (aj au)<|ae ba).trans au,ae bx,ae bT,λk d s=>?_,λs=>?_,λs=>?_,?_,?_⟩
     .rcases(ae ax) k s with t|t
      .exact S k d t
      .have:=(u.own.each k d).2;simp at t;omega
     .rcases(ae ax) c s with t|t
      .exact(ae ba) t
      .have:=aj au;simp at t;omega
     .rcases(ae ad) c s with t|t
      .exact(ae bg) t
      .have:=aj<|ae V;omega
     .intro k d;rcases(ae ad) k d with t|t
      .exact(ae ce) k t
      .exact .inr<|by omega
     .have:=l.size;have:=K.size;omega
   .have B:=U hx;clear hx;gi_wp2;refine cI (iQ rfl _ _ _) rfl ?_;exact⟨⟨_,rfl⟩,.inr ⟨_,ae B⟩⟩
end
section
open Go.Shelf
attribute [local go_sem] Oper.semAt_some
def Ma(f:M)(a:Array aa)(w:Y):cw bF 133 #[.func (.func f) #[] a] w λe b=>e=aO (.func (.func 193) #[] #[aw<|z<|G w])/\b=ct w (aq #[.func (.func f) #[] a] 174):=by
 go_in
 go_wp2;go_ret;exact⟨rfl,rfl⟩
def nQ:(prog.info? 164).map (λi=>(i.zero,i.size,i.bytes))=H (H wP,4,48):=by kernel_rfl
structure xV(V:jm)(S:fI)(w0:Y)(N:M)(pre:cA)(B:fI)(W:Y):Prop where
 Kz:dV W (z<|G w0) aK 102
 err:dV W (z (G w0)+1) .nilIface 50
 row:∃v,dV W (z (G w0)+2) v 102/\W.ownsRow (z (G w0)+3) 164 4 v (y pre) (aE pre)/\(∀k,B k↔k=z (G w0)\/k=z (G w0)+1\/k=z (G w0)+2\/bV v=H k)
 le:y pre<=N
 ar:Z (λk=>S k\/V.F k) w0 W
def xV.lt{S:fI}(h:xV r S a b e W C):∀k,W k->z (G a)<=k/\k<z (G C):=by
 intro k j;obtain⟨v,d,g,i⟩:=h.row;rcases(i k).1 j with c|c|c|c;subst c;exact⟨ah _,aj h.Kz⟩;subst c;exact⟨by omega,aj h.err⟩;subst c;exact⟨by omega,aj d⟩;have:=g.lt k c;exact⟨by omega,this.2⟩
def xV.stays{B:fI}{T:fI}(i:xV r W a b e B f)(g:Z T f C)(d:∀k,T k->¬B k/\((W k\/r.F k)\/z (G a)<=k)):xV r W a b e B C:=by
 obtain⟨v,l,m,c⟩:=i.row;exact⟨(g.block _ (aj i.Kz)<|λh=>(d _ h).1<|(c _).2<|.inl rfl).trans i.Kz,(g.block _ (aj i.err)<|λh=>(d _ h).1<|(c _).2<|.inr<|.inl rfl).trans i.err,⟨v,(g.block _ (aj l)<|λh=>(d _ h).1<|(c _).2<|.inr<|.inr<|.inl rfl).trans l,g.own m<|λk j h=>(d k h).1<|(c k).2<|.inr<|.inr<|.inr j,c⟩,i.le,i.ar.trans g<|λk j=>(d k j).2⟩
def zl{d:Func}{p q:Tmp}{e:TypeId}(n:d.results=#[.cell p e,.cell q 50]){m:TypeId}(j:prog.underlying e=H (.slice m))(a:Array aa)(w:Y)(f g:M)(u v:aa)(k:a.getD p iC=aw f)(l:a.getD q iC=aw g)(h:aS w (R f 0)=H u)(i:aS w (R g 0)=H v):(results d a).run bF w=.ok (dA #[u,v]) w:=by
 have b:a[p]?.getD iC=aw f:=by simpa using k
 have c:a[q]?.getD iC=aw g:=by simpa using l
 simp[results,n,b,c,asAddr,loadVar,isAgg,underlying,j,underlying50,h,i,Result.andThen]
def dY{Q:Fence}{P:Program}(B:Y){m:Array Oper}{f:cr Oper}{F:Oper}{K:Act}{ac:Exit->Act->Y->Prop}(t:F.guard=none)(al an:Operand)(L:TypeId)(u:F.op=.call {callee:=.builtin .append,args:=#[al,an],argTypes:=#[L,L]})(a:M)(C:TypeId)(D:TypeInfo)(j:aa)(c bytes:M)(ht:P.underlying L=H (.slice C))(V:P.info? C=H D)(hz:D.zero=H j)(i:D.size=c)(r:D.bytes=bytes)(w:j.cells.size=c)(v:0<c)(O:aa)(E:M)(x:iV)(hs:K.eval al=O)(k:B.ownsRow a C c O E x)(p:Addr)(A S:M)(d:iV)(hx:K.eval an=I (H p) A S)(W:y d=A*c)(h:∀ad N,d[ad]?=H N->aS B (p.add ad)=H N)(T:∀N∈d,N.oneCell'=bU)(hn:E+A<=140737488355328)(e:(E+A)*bytes<=140737488355328)(g:a<=z (G B))(ao:∀n o,o.ownsRow a C c n (E+A) (x++d)->eR B o O n->wpListIn Q b P m ac f (K.put F.dst n) o):wpListIn Q b P m ac (F::f) K B:=by
 refine wQ t λau q=>?_;obtain⟨n,o,l,r1,r2,r3,r4⟩:=mY (P:=P) B a L F.type C D j c bytes ht V hz i r w v O E x k p A S d W h T (by unfold maxLen;omega) e g;unfold Oper.wpIn;refine⟨?_,?_⟩;simp[Oper.about,u,resolve,Target.leads,pJ];rw[Oper.semAt_plain Q _ _ (by rw[u];intro S s;cases s)];simp[execOp,u,resolve,invoke,builtin,hs,hx,l,Result.andThen];exact q _ _<|ao n o r1<|eR.of r2 r4
def vZ(w:Y)(x:E)(t:TypeId):∀j u,(aE [x])[j]?=H u->aS (ct w<|aq #[J x.key,J x.val,aL x.del,aI x.bH] t) (((R (z<|G w) 0):Addr).add j)=H u:=by
 intro j u a;rw[du];have h:(ct w<|aq #[J x.key,J x.val,aL x.del,aI x.bH] t).heap[z<|G w]?=H (aq #[J x.key,J x.val,aL x.del,aI x.bH] t (0,0)):=aC _ rfl;rw[bR h,cR];simpa[aE,E.cells]using a
def Bn(x:E):∀u∈aE [x],u.oneCell'=bU:=by
 intro u a;simp[aE,E.cells]at a;rcases a with rfl|rfl|rfl|rfl<;>rfl
def xV.more{B:fI}{x:E}{O:Obj}(A:xV r W a b e B f)(v:dV f (z (G a)+2) d 102)(j:∀k,B k↔k=z (G a)\/k=z (G a)+1\/k=z (G a)+2\/bV d=H k)(N:f.ownsRow (z (G a)+3) 164 4 d (y e) (aE e))(P:y e+1<=b)(F:eR (ct f O) C d s)(l:C.ownsRow (z (G a)+3) 164 4 s (y e+1) (aE e++aE [x])):∃D,xV r W a b (e++[x]) D (bZ C (R (z (G a)+2) 0) s)/\Z B f (bZ C (R (z (G a)+2) 0) s)/\(∀k,D k->B k\/z (G f)<=k):=by
 have w:∀k,bV d=H k->z (G a)+3<=k/\k<z (G f):=λk c=>N.lt k c;have n:∀k,bV s=H k->z (G a)+3<=k:=λk c=>(l.lt k c).1;have Q:=aj v;have o:Z (λk=>bV d=H k) f C:=((Z.refl (λk=>bV d=H k) f).alloc O).trans (Z.dM (S:=λk=>bV d=H k) F.grown<|λk c=>.inl c)<|λk c=>.inl c;have g:∀k,k<z (G a)+3->¬bV d=H k:=λk c h=>by have:=(w k h).1;omega
 have q:dV C (z<|G a) aK 102:=(o.block _ (aj A.Kz)<|g _<|by omega).trans A.Kz;have t:dV C (z (G a)+1) .nilIface 50:=(o.block _ (aj A.err)<|g _<|by omega).trans A.err;have u:dV C (z (G a)+2) d 102:=(o.block _ (aj v)<|g _<|by omega).trans v;have m:Z B f (bZ C (R (z (G a)+2) 0) s):=(o.mono (T:=B)<|λk c=>.inl<|(j k).2<|.inr<|.inr<|.inr c).setCell _ _ _<|.inl<|(j _).2<|.inr<|.inr<|.inl rfl;refine⟨λk=>k=z (G a)\/k=z (G a)+1\/k=z (G a)+2\/bV s=H k,⟨q.other _ (by omega),t.other _ (by omega),⟨s,u.set _,?_,λk=>qU⟩,by simp;omega,?_⟩,m,?_⟩;(have K:y (e++[x])=y e+1:=by simp);rw[K,fN];exact l.kept (cW C _ _ _) (by right;intro h;have:=n _ h;omega);exact A.ar.trans m<|λk c=>.inr (A.lt k c).1;rintro k(h|h|h|h);exact .inl<|(j k).2<|.inl h;exact .inl<|(j k).2<|.inr<|.inl h;exact .inl<|(j k).2<|.inr<|.inr<|.inl h;rcases F.uc with K|⟨S,K,L⟩;exact .inl<|(j k).2<|.inr<|.inr<|.inr<|K.symm.trans h;rw[K]at h;cases h;simp at L;exact .inr<|by omega
def Mf(hg:jl r b d e W a)(hD:r.D a)(hl:y e<=1000000000):cw bF 85 #[d] a λco w'=>∃v',co=aO (dA #[v',.nilIface])/\w'.ownsRow (z<|G a) 164 4 v' (y e) (aE e)/\r.D w'/\Z (λk=>W k\/r.F k) a w':=by
 obtain⟨bT,cb,rfl,he,F⟩:=hg;obtain⟨HE,HR,HD⟩:=dB he F hD;have bm:=Ma bT cb;obtain⟨i0,bn,bq,br,ao⟩:=cz nQ;clear he F hD;refine(cZ (n:=3)).1 ?_;refine callsIn_of_wp_marks func85 rfl trivial ?_ rfl;simp only[ntmps85,eT,ay,cK,Nat.reduceAdd,Nat.reduceSub,dS,dR,eU,ew,cC,cq];gi_wp2_with(refine⟨trivial,?_⟩;gi_at_call 133;refine(cZ.2<|bm _).mono ?_;rintro co w1⟨rfl,rfl⟩)
 have F:=ae HR;obtain⟨P,s⟩:∃P,(ct (ct (ct (ct a<|aq #[aK] 102)<|aq #[.nilIface] 50)<|aq #[aK] 102)<|aq #[.func (.func bT) #[] cb] 174)=P:=⟨_,rfl⟩;have cl:z (G P)=z (G a)+4:=by rw[<-s];simp
 have al:Z az a P:=by rw[<-s];exact((((Z.refl az a).alloc _).alloc _).alloc _).alloc _
 have bk:dV P (z (G a)+3) (.func (.func bT) #[] cb) 174:=by rw[<-s];exact aC _<|by simp
 have bg:xV r W a (y e) [] (λk=>k=z (G a)\/k=z (G a)+1\/k=z (G a)+2) P:=by refine⟨?_,?_,⟨aK,?_,bJ _ _ _ _,λk=>by simp[bV]⟩,bw _,al.mono cG⟩;rw[<-s];exact dV.alloc (dV.alloc (dV.alloc (aC _ rfl) _) _) _;rw[<-s];exact dV.alloc (dV.alloc (aC _<|by simp) _) _;rw[<-s];exact dV.alloc (aC _<|by simp) _
 have bo:Hx r b bT cb e W P:=F.same<|al.same F.own.size (λk f=>⟨(F.own.each k f).2,λp=>p⟩) cG;have bh:r.D P:=r.fm HD al cG;have ck:=F.own.size;have ad:∀k,W k->k<z (G a):=λk f=>(F.own.each k f).2;rw[s];refine nA (arg:=SG) (m:=3) (V:=r) (n0:=b) (gf:=193) (lb:=#[aw<|z (G a)+3]) (l:=e) (S:=λk=>W k\/k=z (G a)+3) ?geval (enters_of func193 (by kernel_rfl) rfl) (λ_=>rfl) (ET 2 cb bk HE bo (by omega) (λp=>by have:=ad _ p;omega)) bh (by omega) ?slt (λl ax K=>xV r W a (y e) l ax K) (λ_ _ _ _=>False) (λk=>k=z (G a)\/k=z (G a)+1\/k=z (G a)+2) bg ?sb ?lt ?st (λ_ _ _ _ _ _ h=>h.elim) ?body ?done ?stop;case geval=>rfl
 (case slt=>rintro k(p|p);have:=ad k p;omega;omega);(case sb=>rintro k(p|p)c;have:=ad k p;omega;omega);(case lt=>intro l ax K h k f;have:=h.lt k f;exact⟨by omega,this.2⟩);(case st=>intro l ax K i cs h g c;refine h.stays g<|λk f=>⟨(c k f).1,?_⟩;rcases(c k f).2 with(p|p)|p|p;exact .inl<|.inl p;exact .inr (by omega);exact .inl<|.inr p;exact .inr<|by omega);(case stop=>intro ba p l ax K _ h;exact h.elim)
 case body=>
  intro lr l cp ax K cj au bu Q u A;have av:y l+1<=y e:=by have:=Q.length_le;simpa using this
  have HC:=U u;have S:=U A;clear u A Q;obtain⟨i,j,g,c⟩:=cp;unfold SG E.value;simp only;gi_wp2;refine⟨(Z.refl _ _).alloc _,λV q=>?_⟩;have L:xV r W a (y e) l ax V:=((HC.stays ((Z.refl az K).alloc<|aq #[J i,J j,aL g,aI c] 164) cG).stays q (λk f=>by subst f;exact⟨au,.inr<|by omega⟩));have ac:ij V (z<|G K) ⟨i,j,g,c⟩:=ij.ar (aC _ rfl) q (by omega);obtain⟨d,O,o,C⟩:=L.row;have bl:aS V (R (z (G a)+1+1) 0)=H d:=O.cell;have ch:V.frozen? (R (z (G a)+1+1) 0)=bE:=O.free;obtain⟨x,w,an⟩:=aB o;obtain⟨ca,cc,cd,ce⟩:=ac.cells;have bv:=aj ac;have bx:=aj O;have bi:z (G a)+3<=z (G V):=by have:=L.ar.size;have:=q.size;simp at this;omega
  obtain⟨bb,HV,v,T,bd⟩:=jR L O o C q;clear L ac O o C q;subst an;gi_wp2_with(first
   |(gi_at_builtin;refine dY _ rfl (.tmp 14) (.tmp 16) 102 rfl (z (G a)+3) 164 i0 wP 4 48 underlying102 bn bq br ao rfl (by decide) (.slice x (y l) w) (y l) (aE l) rfl (aR v (.cells #[.string i,.string j,.bool g,.int .u64 c] 164)) (R (z (G V)) 0) 1 1 (aE [⟨i,j,g,c⟩]) rfl rfl (vZ _ ⟨i,j,g,c⟩ _) (Bn _) (by omega) (by omega) (by simp;omega) ?_;intro v2 w3 t D;obtain⟨cn,cm,rfl⟩:=aB t;have B:dV w3 (z (G a)+1+1) (.slice x (y l) w) 102:=(D.grown.block _ (aj (HV.alloc (.cells #[.string i,.string j,.bool g,.int .u64 c] 164))) (λp=>by have:=(v.lt _ p.symm).1;omega)).trans (HV.alloc _);have bs:=B.cell;have bt:=B.free;clear B;have bc:=U t;have bf:=U D;clear t D))
  obtain⟨B',q1,q2,q3⟩:=bb.more (x:=⟨i,j,g,c⟩) HV T v av bf bc;have q:=ae bd;have ao:=q.size;simp at ao;have bp:Z (λk=>ax k\/k=lr) K V:=((Z.refl (λk=>ax k\/k=lr) K).alloc<|aq #[J i,J j,aL g,aI c] 164).trans q<|λk f=>.inl<|.inr f;have N:∀k,z (G a)<=k->¬r.F k:=λk f hf=>by have:=F.own.aN k hf;omega
  refine⟨?_,B',q1,bp.trans q2<|λk f=>.inl<|.inl f,q2.block lr (by omega) au,λk f=>?_⟩
  .refine r.fm (r.fm (r.fm S ((Z.refl az K).alloc _) cG) q (λk f=>by subst f;exact N _<|by omega)) q2<|λk f=>N k (HC.lt k f).1
  .rcases q3 k f with p|p
   .exact .inl p
   .exact .inr<|by omega
 case done=>
  intro ba ax K au u i A hK;obtain⟨d,O,o,C⟩:=u.row;have bl:aS K (R (z (G a)+1+1) 0)=H d:=O.cell;have av:=u.Kz.cell;have bc:=u.Kz.free;have bb:=u.err.cell;have bd:=u.err.free;obtain⟨x,w,an⟩:=aB o;obtain⟨HC,HV,v,T,S,HK⟩:=kF u O o C A hK;clear u O o C A hK;subst an;gi_wp2;have Q:=ae T;have u:=ae HC;have n1:ba≠z (G a):=λp=>i<|(Q _).2<|.inl p;have n2:ba≠z (G a)+1:=λp=>i<|(Q _).2<|.inr<|.inl p;have n3:¬bV (I x (y e) w)=H ba:=λp=>i<|(Q _).2<|.inr<|.inr<|.inr p;have V:(bZ (bZ K (R (z<|G a) 0)<|I x (y e) w) (R (z (G a)+1) 0) .nilIface).heap[ba]?=H (.deferred<|H []):=by
   rw[ir _ n2,ir _ n1];exact HK
  have c:dV (bZ (bZ K (R (z<|G a) 0)<|I x (y e) w) (R (z (G a)+1) 0) .nilIface) (z<|G a) (I x (y e) w) 102:=(u.Kz.set _).other _ (by omega);have g:dV (bZ (bZ K (R (z<|G a) 0)<|I x (y e) w) (R (z (G a)+1) 0) .nilIface) (z (G a)+1) .nilIface 50:=(u.err.other _<|by omega).set _;have q:=gE (bZ (bZ K (R (z<|G a) 0)<|I x (y e) w) (R (z (G a)+1) 0) .nilIface) ba<|.deferred none;have ac:Z (λk=>k=z (G a)\/k=z (G a)+1) K (bZ (bZ K (R (z<|G a) 0)<|I x (y e) w) (R (z (G a)+1) 0) .nilIface):=((Z.refl (λk=>k=z (G a)\/k=z (G a)+1) K).setCell _ 0 _<|.inl<|.inl rfl).setCell _ 0 _<|.inl<|.inr rfl;have t:=(ac.mono (T:=λk=>k=z (G a)\/k=z (G a)+1\/k=ba)<|λk f=>.inl<|f.elim .inl<|λp=>.inr<|.inl p).trans q<|λk f=>.inl<|.inr<|.inr f;have N:∀k,z (G a)<=k->¬r.F k:=λk f hf=>by have:=F.own.aN k hf;omega
  have B:∀k,(k=z (G a)\/k=z (G a)+1\/k=ba)->z (G a)<=k:=by rintro k(p|p|p)<;>omega
  refine⟨by simp,.inl ⟨_,_,rfl,run_takeDeferred V,?_⟩⟩;refine⟨_,zl rfl underlying102 _ _ (z<|G a) (z (G a)+1) (I x (y e) w) .nilIface rfl rfl ?_ ?_,?_⟩
  .exact(dV.cell<|(q.block _ (aj c)<|λp=>n1 p.symm).trans c)
  .exact(dV.cell<|(q.block _ (aj g)<|λp=>n2 p.symm).trans g)
  .refine⟨_,rfl,?_,r.fm S t<|λk f=>N k<|B k f,u.ar.trans t<|λk f=>.inr<|B k f⟩;have o:=ae v;have hx:=t.own o (λk f p=>by
    have:=(o.lt k f).1;rcases p with p|p|p
    .omega
    .omega
    .exact n3 (by rw[<-p];exact f))
   obtain⟨h1,⟨L,h0⟩|⟨bf,cp,D,L,hb,j⟩⟩:=hx
   .exact⟨h1,.inl ⟨L,h0⟩⟩
   .exact⟨h1,.inr ⟨bf,cp,D,L,by omega,j⟩⟩
end
def tg:Option E->aa
 |some x=>.tuple #[x.value,.bool bU,.nilIface]
 |none=>.tuple #[wP,.bool bE,.nilIface]
def Jh(t:TypeId)(a b:ab):binOp .geq t (J a) (J b)=pure (aL !(Op.bytesLess a.toList b.toList)):=by simp[binOp,Op.stringOp]
def An(O:ab)(A:X)(h:ku a d e)(C:dQ e)(hl:y e<=1000000000000)(w:∀A,bV d=H A->A<z (G a)):cw bF 316 #[d,J O,aI A] a λac w'=>ac=aO (tg<|iA A e O)/\Below (z<|G a) a w':=by
 have m:Below (z<|G a) a (ct a<|aq #[J ⟨#[]⟩,J ⟨#[]⟩,aL bE,aI 0] 164):=(Below.refl _ a).alloc (ah _) _;have L:=Bj d O A (ct a<|aq #[J ⟨#[]⟩,J ⟨#[]⟩,aL bE,aI 0] 164) (h.below m w) C hl (λA b=>by have:=w A b;simp;omega);have n:=Oo C O ⟨#[]⟩ bE A;have x:=U<|ID e ⟨O,⟨#[]⟩,bE,A⟩;generalize li e ⟨O,⟨#[]⟩,bE,A⟩=p at*;by_cases s:p<y e;(·(have e1:((p:X)==(y e:X))=bE:=by simp;omega);(have e2:(p:X)<(y e:X):=by omega);(have e3:(0:X)<=(p:X):=by omega);obtain⟨P,⟨rfl,h0⟩|⟨u,b,al,rfl,B,N⟩⟩:=h;omega;have v:=eA e p s;have t:=U N;have j:=w u rfl;by_cases k:e[p].key=O;(.rw[n,oE ⟨s,k⟩];clear N w P B n C;subst k;generalize e[p]=an at*;obtain⟨F,K,E,D⟩:=an;simp only at v L;have r:=U v;clear v;(go_in);(go_wp2_with(go_at_call 181;refine L.mono ?_;rintro ac l⟨rfl,g⟩;have f:Below (z<|G a) a l:=m.trans<|g.mono m.size;have q0:aS l (R u<|b+p*4)=H (J F):=(f.cell (p:=(R u<|b+p*4)) j).trans<|t _ _ r.1;have q1:aS l (R u<|b+p*4+1)=H (J K):=(f.cell (p:=(R u<|b+p*4+1)) j).trans (by rw[aV];exact t _ _ r.2.1);have q2:aS l (R u<|b+p*4+2)=H (aL E):=(f.cell (p:=(R u<|b+p*4+2)) j).trans (by rw[aV];exact t _ _ r.2.2.1);have q3:aS l (R u<|b+p*4+3)=H (aI D):=(f.cell (p:=(R u<|b+p*4+3)) j).trans (by rw[aV];exact t _ _ r.2.2.2);have c:ij l (z<|G a) ⟨⟨#[]⟩,⟨#[]⟩,bE,0⟩:=(g.block _<|by simp).trans<|aC _ rfl;obtain⟨W,z1,z2,z3⟩:=c.cells;have Q:=c.free (i:=0);have S:=c.free (i:=1);have T:=c.free (i:=2);have V:=c.free (i:=3);have q:=U c;have o:=U f;clear c f g));refine cI (fV rfl _ _ (z<|G a) ⟨F,K,E,D⟩ _ _ rfl<|q.put ⟨F,K,E,D⟩) rfl ?_;exact⟨rfl,(((o.setCell (p:=(R (z<|G a) 0)) (ah _) _).setCell (p:=(R (z<|G a) 1)) (ah _) _).setCell (p:=(R (z<|G a) 2)) (ah _) _).setCell (p:=(R (z<|G a) 3)) (ah _) _⟩);have e4:=Il k;rw[n,dif_neg<|λad=>k ad.2];clear N w P B n C k;generalize e[p]=an at*;obtain⟨F,K,E,D⟩:=an;simp only at v e4;have r:=U v;clear v;(go_in);(go_wp2_with(go_at_call 181;refine L.mono ?_;rintro ac l⟨rfl,g⟩;have f:Below (z<|G a) a l:=m.trans<|g.mono m.size;have q0:aS l (R u<|b+p*4)=H (J F):=(f.cell (p:=(R u<|b+p*4)) j).trans<|t _ _ r.1;have q1:aS l (R u<|b+p*4+1)=H (J K):=(f.cell (p:=(R u<|b+p*4+1)) j).trans (by rw[aV];exact t _ _ r.2.1);have q2:aS l (R u<|b+p*4+2)=H (aL E):=(f.cell (p:=(R u<|b+p*4+2)) j).trans (by rw[aV];exact t _ _ r.2.2.1);have q3:aS l (R u<|b+p*4+3)=H (aI D):=(f.cell (p:=(R u<|b+p*4+3)) j).trans (by rw[aV];exact t _ _ r.2.2.2);have c:ij l (z<|G a) ⟨⟨#[]⟩,⟨#[]⟩,bE,0⟩:=(g.block _<|by simp).trans<|aC _ rfl;obtain⟨W,z1,z2,z3⟩:=c.cells;have Q:=c.free (i:=0);have S:=c.free (i:=1);have T:=c.free (i:=2);have V:=c.free (i:=3);have q:=U c;have o:=U f;clear c f g));refine cI (fV rfl _ _ (z<|G a) ⟨⟨#[]⟩,⟨#[]⟩,bE,0⟩ _ _ rfl<|q.put ⟨⟨#[]⟩,⟨#[]⟩,bE,0⟩) rfl ?_;exact⟨rfl,(((o.setCell (p:=(R (z<|G a) 0)) (ah _) _).setCell (p:=(R (z<|G a) 1)) (ah _) _).setCell (p:=(R (z<|G a) 2)) (ah _) _).setCell (p:=(R (z<|G a) 3)) (ah _) _⟩);(have b:p=y e:=by have:=ae x;omega);rw[n,dif_neg<|λad=>s ad.1];have j:=bL h;clear h C n s w x;subst b;obtain⟨r,k,rfl⟩:=j;(have e1:((y e:X)==(y e:X))=bU:=by simp);(go_in);(go_wp2_with(go_at_call 181;refine L.mono ?_;rintro ac l⟨rfl,g⟩;have f:Below (z<|G a) a l:=m.trans<|g.mono m.size;have c:ij l (z<|G a) ⟨⟨#[]⟩,⟨#[]⟩,bE,0⟩:=(g.block _<|by simp).trans<|aC _ rfl;obtain⟨W,z1,z2,z3⟩:=c.cells;have Q:=c.free (i:=0);have S:=c.free (i:=1);have T:=c.free (i:=2);have V:=c.free (i:=3);have q:=U c;have o:=U f;clear c f g));refine cI (fV rfl _ _ (z<|G a) ⟨⟨#[]⟩,⟨#[]⟩,bE,0⟩ _ _ rfl<|q.put ⟨⟨#[]⟩,⟨#[]⟩,bE,0⟩) rfl ?_;exact⟨rfl,(((o.setCell (p:=(R (z<|G a) 0)) (ah _) _).setCell (p:=(R (z<|G a) 1)) (ah _) _).setCell (p:=(R (z<|G a) 2)) (ah _) _).setCell (p:=(R (z<|G a) 3)) (ah _) _⟩
def MX(av:aa)(w:Y)(h:ku w av e)(F:dQ e)(hl:y e<=1000000000000)(K:∀ax,bV av=H ax->ax<z (G w)):cw bF 318 #[av] w λba w'=>ba=aO (aL bU)/\Below (z<|G w) w w':=by
 have A:∀(ac:Bool)(w:Y),(Op.unary .not<|aL ac).run bF w=.ok (aL<|!ac) w:=λ_ _=>rfl;obtain⟨h1,⟨rfl,h0⟩|⟨i,a,ad,rfl,ao,x⟩⟩:=h;(·(go_in);go_wp2;(go_loop [6] (λL=>L=am 0) (λ_=>0));(case atStart=>rfl);(case round=>obtain rfl:=hrel;go_wp2;go_ret;exact⟨rfl,Below.refl _ _⟩));(.have HC:=U x;have HS:=U F;have o:=K i rfl;clear x F h1 K;(go_in);go_wp2;(go_loopw [6] (λL wr=>∃q:M,q<=y e/\L=am q/\Below (z<|G w) w wr) (λL _=>y e-(intOf L).toNat));(case atStart=>exact⟨0,bw _,rfl,Below.refl _ _⟩);(case round=>obtain⟨q,au,rfl,d⟩:=hrel;have m:=U d;by_cases k:q<y e;(.rcases fS q with l|l;(.subst l;clear d;go_wp2;(go_quiet(fail));go_wp2;go_roundw;(case rel=>exact⟨1,by omega,rfl,below_drewN m _⟩);case measure=>simp[intOf];omega);(.obtain⟨p,rfl⟩:∃p,q=p+1:=⟨q-1,by omega⟩;(have C:p<y e:=by omega);have b:∀j u,(aE e)[j]?=H u->aS wr (R i<|a+j)=H u:=λj u c=>(d.cell (p:=(R i<|a+j)) o).trans<|HC j u c;have f:=eA e p C;have g:=eA e (p+1) k;have s:=b _ _ f.1;have c1:=b _ _ f.2.1;have c2:=b _ _ f.2.2.1;have c3:=b _ _ f.2.2.2;have d0:=b _ _ g.1;have t:=b _ _ g.2.1;have u:=b _ _ g.2.2.1;have v:=b _ _ g.2.2.2;simp only[<-aV]at c1 c2 c3 t u v;have n:=λW=>BO e[p] e[p+1] W;rw[cy.1 (ae HS) p (p+1) C k<|by omega]at n;have an:i<z (G wr):=da _ _ s;clear f g d b;generalize e[p]=ac at*;generalize e[p+1]=r at*;obtain⟨P,Q,O,N⟩:=ac;obtain⟨V,W,T,S⟩:=r;unfold E.value at n;simp only at n s c1 c2 c3 d0 t u v;(have D:(0:X)<(p:X)+1:=by omega);(have e2:(0:X)<=(p:X):=by omega);(have e3:(p:X)<(y e:X):=by omega);(have e4:(0:X)<=(p:X)+1:=by omega);(have e5:(p:X)+1<(y e:X):=by omega);(have e9:IntKind.i64.wrap (p:X)=(p:X):=by rw[bO];omega);(have al:wrap64 (p:X)=(p:X):=by unfold wrap64;omega);(go_wp2_with fail);(go_region_held3(λc=>aS c (R i<|a+p*4)=H (J P)/\aS c (R i<|a+p*4+1)=H (J Q)/\aS c (R i<|a+p*4+2)=H (aL O)/\aS c (R i<|a+p*4+3)=H (aI N)/\aS c (R i<|a+(p+1)*4)=H (J V)/\aS c (R i<|a+(p+1)*4+1)=H (J W)/\aS c (R i<|a+(p+1)*4+2)=H (aL T)/\aS c (R i<|a+(p+1)*4+3)=H (aI S)) (first|assumption|go_keep) (first|(go_at_call 196;refine(n _).mono ?_;rintro ba w1⟨rfl,rfl⟩)));go_wp2;go_roundw;(case rel=>have j:Below (z<|G wr) wr (ct (ct wr<|aq #[J P,J Q,aL O,aI N] 164)<|aq #[J V,J W,aL T,aI S] 164):=((Below.refl _ wr).alloc (ah _) _).alloc (by simp) _;refine⟨p+1+1,by omega,by go_num,m.trans ?_⟩;exact Below.mono (B:=z<|G wr) ⟨j.os,j.tape,j.output,j.size,j.block⟩ m.size);case measure=>simp[intOf];omega));clear d;go_wp2;go_ret;exact⟨rfl,m⟩))
def Rd.laid(h:Rd a b o D)(d:a.grownBy f none):Rd f b o D:=by
 obtain⟨v,e,g,c⟩:=h;refine⟨v,(d.block b (aj e)<|by simp).trans e,g.grown d ?_,c⟩;cases bV v with
 |none=>exact .inr rfl
 |some k=>exact .inl<|by simp
def Rd.lt(h:Rd a b o D):b<z (G a):=by
 obtain⟨v,c,_⟩:=h;exact aj c
def Rd.put(L:Rd C b o D)(A:ij C c w)(q:b≠c)(g:E):Rd (wK C c g) b o D:=by
 obtain⟨N,s,B,K⟩:=L;have u:=jb C c g;refine⟨N,(u.block b (aj s) q).trans s,?_,K⟩;rcases B with⟨v,x⟩|⟨r,d,i,v,m,F⟩;exact .inl ⟨v,x⟩;refine .inr ⟨r,d,i,v,m,λj t=>?_⟩;have e:=F j t;(have l:r≠c:=by rintro rfl;rw[bR A,aH t]at e;(have:d+j=0\/d+j=1\/d+j=2\/d+j=3\/4<=d+j:=by omega);rcases this with h|h|h|h|h;rw[h]at e;simp at e;rw[h]at e;simp at e;rw[h]at e;simp at e;rw[h]at e;simp at e;rw[eF<|by simpa using h]at e;simp at e);have n:r<z (G C):=da C (R r<|d+j) e;have k:=u.block r n l;rw[cH (w:=C) (w':=wK C c g) (a:=(R r<|d+j)) k];exact e
def Z.UD(h:Z (λk=>k=b) a f):a.grownBy f (H b):=⟨h.os,h.tape,h.output,h.size,λk c d=>h.block k c<|λe=>d<|by rw[e]⟩
def ij.grown(h:ij a b w)(e:a.grownBy f (H c))(d:c≠b):ij f b w:=(e.block b (aj h) (by simp;exactλg=>d g.symm)).trans h
def zX{c:Func}{p u:Tmp}(i:c.results=#[.cell p 164,.tmp u])(a:Array aa)(w:Y)(g:M)(x:E)(t:TypeId)(d:M×M)(h:a.getD p iC=aw g)(e:w.heap[g]?=H (aq #[J x.key,J x.val,aL x.del,aI x.bH] t d)):(results c a).run bF w=.ok (dA #[x.value,a.getD u iC]) w:=by
 have b:a[p]?.getD iC=aw g:=by simpa using h
 have f:=mO (P:=bF) w g t 164 #[J x.key,J x.val,aL x.del,aI x.bH] d _ e underlying164 rfl (by kernel_rfl);simp[results,i,b,asAddr,f,Result.andThen,E.value]
def Gj(m:M){x:E}(a:eK)(C:Y)(h:Rd C m (nM x++a) bE)(B:kw (nM x++a))(hr:y (nM x++a)<=140737488351232)(hx:x.Good):cw bF 217 #[aw m] C λan w'=>an=aO (dA #[E.value {x with bH:=0},aL bU])/\Rd w' m a bE/\C.grownBy w' (H m):=by
 obtain⟨b,c,s,r⟩:=x;have ax:=hx.Us;have ba:=hx.LF;have hv:=hx.val;have hd:=hx.del;simp only at ax ba hv hd;have e0:nM ⟨b,c,s,r⟩++a=oK s::(ep b++(ep c++a)):=by simp[nM]
 rw[e0]at h B hr;have A:kw (ep b++(ep c++a)):=λal hy=>B al<|aG _ hy;have K:kw (ep c++a):=λal hy=>A al<|ib _ hy;have W:y (ep b++(ep c++a))<=140737488351232:=by simp only[ay]at hr;omega
 have bb:y (ep c++a)<=140737488351232:=by rw[af]at W;omega
 have k:=λao(S:Rd ao m (oK s::(ep b++(ep c++a))) bE)=>Fe S B hr;have v:=λao(S:Rd ao m (ep b++(ep c++a)) bE)=>Dp S A W;have w:=λao(S:Rd ao m (ep c++a) bE)=>Dp S K bb;obtain⟨ka,kb⟩:=LB s<|ep b++(ep c++a);obtain⟨ta,_⟩:=vG b<|ep c++a;obtain⟨N,_⟩:=vG c a;simp only[ka,kb]at k;simp only[ta,vH]at v;simp only[N,vH]at w;have bc:=λao(S:Rd ao m a bE)=>Gq S;have T:=qL b;have V:=xF c;have bk:∀(x:Bool)(C:Y),(Op.unary .not<|aL x).run bF C=.ok (aL<|!x) C:=λ_ _=>rfl;have au:decide (1<=b.size/\b.size<=8)=bU:=by simp[ax,ba]
 have av:decide (c.size<=16)=bU:=by simp[hv]
 rw[au]at T;rw[av]at V;have F:=λao=>T ao (by omega);have L:=λao=>V ao (by omega);have bl:=h.lt;have HR:=U<|h.laid<|dt C (aq #[J ⟨#[]⟩,J ⟨#[]⟩,aL bE,aI 0] 164) none;clear h B A K hr W bb ka kb ta N e0 hx T V au av;cases s with
 |true=>
  have bf:c=⟨#[]⟩:=hd rfl;subst bf;simp only[oK]at k;go_in
  go_wp2_with(first
   |(go_at_call 216;refine(k _<|ae HR).mono ?_;rintro an w1⟨rfl,t,f⟩;have P:=U t;have o:=U f;have bg:=f.size;clear t f k)
   |(go_at_call 249;refine(v _<|ae P).mono ?_;rintro an w2⟨rfl,u,g⟩;have Q:=U u;have p:=U g;have bh:=g.size;clear u g v)
   |(go_at_call 249;refine(w _<|ae Q).mono ?_;rintro an D⟨rfl,j,e⟩;have q:=U j;have O:=U e;have bi:=e.size;have d:ij D (z<|G C) zE:=(((ij.grown (aC _ rfl) (ae o)<|by omega).grown (ae p)<|by omega).grown e<|by omega);obtain⟨z0,z1,z2,z3⟩:=d.cells;have y0:=d.free (i:=0);have y1:=d.free (i:=1);have y2:=d.free (i:=2);have y3:=d.free (i:=3);have bd:=aj d;have n:=U d;clear j e w d)
   |(go_at_call 212;refine(bc _<|(ae q).laid<|dt D _ none).mono ?_;rintro an w4⟨rfl,rfl⟩)
   |(go_at_call 69;refine(F _).mono ?_;rintro an w5⟨rfl,rfl⟩)
   |(go_at_call 70;refine(L _).mono ?_;rintro an w6⟨rfl,rfl⟩))
  refine cI (zX rfl _ _ (z<|G C) ⟨b,⟨#[]⟩,bU,0⟩ _ _ rfl<|((ae n).put ⟨b,⟨#[]⟩,bU,0⟩).alloc _) rfl ?_;have j:=ae q;have f:=ae o;have g:=ae p;have e:=ae O;have ac:=(j.put (ae n) (by omega) (⟨b,⟨#[]⟩,bU,0⟩:E)).laid<|dt _ (aq #[J (⟨b,⟨#[]⟩,bU,0⟩:E).key,J (⟨b,⟨#[]⟩,bU,0⟩:E).val,aL (⟨b,⟨#[]⟩,bU,0⟩:E).del,aI (⟨b,⟨#[]⟩,bU,0⟩:E).bH] 164) none;have ht:Z (λad=>ad=m) C ((wK D (z<|G C) (⟨b,⟨#[]⟩,bU,0⟩:E)).alloc<|aq #[J (⟨b,⟨#[]⟩,bU,0⟩:E).key,J (⟨b,⟨#[]⟩,bU,0⟩:E).val,aL (⟨b,⟨#[]⟩,bU,0⟩:E).del,aI (⟨b,⟨#[]⟩,bU,0⟩:E).bH] 164):=by
   refine(((((((Z.refl (λad=>ad=m) C).alloc _).trans (fi f)<|λad l=>.inl l).trans (fi g)<|λad l=>.inl l).trans (fi e)<|λad l=>.inl l).trans (jb D (z<|G C) (⟨b,⟨#[]⟩,bU,0⟩:E))<|λad l=>.inr<|by omega).alloc _)
  exact⟨rfl,ac,ht.UD⟩
 |false=>
  simp only[oK]at k;go_in
  go_wp2_with(first
   |(go_at_call 216;refine(k _<|ae HR).mono ?_;rintro an w1⟨rfl,t,f⟩;have P:=U t;have o:=U f;have bg:=f.size;clear t f k)
   |(go_at_call 249;refine(v _<|ae P).mono ?_;rintro an w2⟨rfl,u,g⟩;have Q:=U u;have p:=U g;have bh:=g.size;clear u g v)
   |(go_at_call 249;refine(w _<|ae Q).mono ?_;rintro an D⟨rfl,j,e⟩;have q:=U j;have O:=U e;have bi:=e.size;have d:ij D (z<|G C) zE:=(((ij.grown (aC _ rfl) (ae o)<|by omega).grown (ae p)<|by omega).grown e<|by omega);obtain⟨z0,z1,z2,z3⟩:=d.cells;have y0:=d.free (i:=0);have y1:=d.free (i:=1);have y2:=d.free (i:=2);have y3:=d.free (i:=3);have bd:=aj d;have n:=U d;clear j e w d)
   |(go_at_call 212;refine(bc _<|(ae q).laid<|dt D _ none).mono ?_;rintro an w4⟨rfl,rfl⟩)
   |(go_at_call 69;refine(F _).mono ?_;rintro an w5⟨rfl,rfl⟩)
   |(go_at_call 70;refine(L _).mono ?_;rintro an w6⟨rfl,rfl⟩))
  refine cI (zX rfl _ _ (z<|G C) ⟨b,c,bE,0⟩ _ _ rfl<|((ae n).put ⟨b,c,bE,0⟩).alloc _) rfl ?_;have j:=ae q;have f:=ae o;have g:=ae p;have e:=ae O;have ac:=(j.put (ae n) (by omega) (⟨b,c,bE,0⟩:E)).laid<|dt _ (aq #[J (⟨b,c,bE,0⟩:E).key,J (⟨b,c,bE,0⟩:E).val,aL (⟨b,c,bE,0⟩:E).del,aI (⟨b,c,bE,0⟩:E).bH] 164) none;have ht:Z (λad=>ad=m) C ((wK D (z<|G C) (⟨b,c,bE,0⟩:E)).alloc<|aq #[J (⟨b,c,bE,0⟩:E).key,J (⟨b,c,bE,0⟩:E).val,aL (⟨b,c,bE,0⟩:E).del,aI (⟨b,c,bE,0⟩:E).bH] 164):=by
   refine(((((((Z.refl (λad=>ad=m) C).alloc _).trans (fi f)<|λad l=>.inl l).trans (fi g)<|λad l=>.inl l).trans (fi e)<|λad l=>.inl l).trans (jb D (z<|G C) (⟨b,c,bE,0⟩:E))<|λad l=>.inr<|by omega).alloc _)
  exact⟨rfl,ac,ht.UD⟩
def iD(a:eK):eK:=a++le 4 (mr a)
def BC(e:E):eK:=le 8 e.bH++nM e
def fE(c:cA):eK:=c.flatMap BC
def Rz(a:eK):mi (le 4<|mr a)=mr a:=by
 rw[Ao 4 _<|zA a];exact Int.emod_eq_of_lt (zA a) (by have:=BF a;simpa using this)
def Cq(a:0<=m)(b:m<18446744073709551616):mi (le 8 m)=m:=by
 rw[Ao 8 _ a];exact Int.emod_eq_of_lt a<|by simpa using b
def xe(w d e:M)(c:eK)(D:Steps a)(ac:y c+4<=e)(hr:y c+4<=1000000000)(o:Bytes a (bC w d (y c+4) e) (iD c)):cw bF 208 #[bC w d (y c+4:M) e] a λP w'=>
 P=aO (dA #[bC w d (y c) e,aL bU])/\Below (z<|G a) a w':=by
 obtain⟨b,f⟩:∃b,b=le 4 (mr c):=⟨_,rfl⟩
 have t:y b=4:=by rw[f,bY]
 have p:kw b:=by rw[f];exact kw.le 4 _
 have N:mi b=mr c:=by rw[f];exact Rz c
 unfold iD at o
 rw[<-f]at o
 clear f
 have ad:=D.lt
 have W:w<z (G a):=o.lt (by intro h;simp at h;rw[h.2]at t;simp at t) w rfl
 have k:Bytes a (bC w d (y<|c++b) e) (c++b):=by rw[af,t];exact o
 have u:Bytes a (bC w d (y c) e) c:=by
  have:=k.take (n:=y c) (by simp);rwa[pM]at this
 have v:Bytes a (bC w (d+y c) 4<|e-y c) b:=by
  have:=k.BD (n:=y c) (by simp);rwa[sG,af,t,uC]at this
 have O:num b bE 4=mi b:=by
  unfold num jP;rw[cY (by simp[t]),cS<|by omega]
 obtain⟨E,F,S,Q,L⟩:=jR u v O p D
 clear o k u v O p D
 have hd:(num b bE 4 !=mr c)=bE:=by rw[ae S,N];simp
 clear N
 go_in
 go_wp2_with fail
 refine(mU F (λal hk=>by have:=Rf hk;simp at this;omega)).mono ?_
 rintro P x⟨rfl,q,g⟩
 have s:z (G x)=z (G a)+1:=by rw[g];simp
 have j:Below (z<|G a) a x:=by rw[g];exact(Below.refl _ _).alloc (ah _) _
 have m:Hid (Steps x):=by rw[g];exact L.alloc _
 have l:Hid (Bytes x (bC w d (y c) e) c):=by rw[g];exact E.alloc _
 obtain⟨T,K,V⟩:=dB q j s
 clear q g s j L E F
 go_wp2_with fail
 go_region_with(first
  |(go_at_call 211;refine(JQ (z<|G a) bE _ ?_ Q<|by omega).mono ?_;exact T.of_heap rfl;rintro P w2⟨rfl,r,i⟩;have C:=U<|Steps.grown (by exact Steps.of_heap m rfl) i (by simp;omega);have A:=U<|Bytes.grown (by exact Bytes.of_heap l rfl) i<|.inl (by simp[bV];omega);have B:=U (Below.grown (by exact Below.of_heap K rfl) i (by simp[ae V])<|by simp);clear r i)
  |(go_at_call 189;refine(sk _ c _ ?_ ?_ (by omega)).mono ?_;(first|exact C.of_heap rfl|exact m.of_heap rfl);(first|exact A.of_heap rfl|exact l.of_heap rfl);rintro P w3⟨rfl,rfl⟩))
 all_goals
  go_wp2;go_ret2
  exact⟨by rfl,by first|exact B.of_heap rfl|exact Below.of_heap K rfl⟩
def Sq(c:cA)(n:M)(h:n<y c):fE (c.drop n)=le 8 c[n].bH++(nM c[n]++fE (c.drop<|n+1)):=by
 unfold fE;rw[bD h,dH];simp[BC]
def Au(h:w.Good):kw (nM w):=by
 unfold nM;have c:∀s:ab,s.size<=255->kw (ep s):=λs d b a=>by unfold ep at a;rcases aA.1 a with rfl|a;omega;exact kw.text s b a
 intro b a;rcases aA.1 a with rfl|a;unfold oK;split<;>omega;rcases ak.1 a with a|a;exact c _ (by have:=h.LF;omega) b a;exact c _ (by have:=h.val;omega) b a
def LI(h:∀x∈e,x.Good):kw (fE e):=by
 intro b a;unfold fE at a;obtain⟨x,c,a⟩:=lZ.1 a;unfold BC at a;rcases ak.1 a with a|a;exact kw.le 8 _ b a;exact Au (h x c) b a
def tZ(h:w.Good):y (BC w)<=35:=by
 have a:=h.LF;have b:=h.val;unfold BC nM ep;simp[bY,gY];omega
def Cv{c:cA}(h:∀x∈c,x.Good):y (fE c)<=35*y c:=by
 induction c with
 |nil=>simp[fE]
 |cons x r d=>
  have a:=tZ (h x<|by simp);have f:=d (λa b=>h a<|by simp[b]);have e:fE (x::r)=BC x++fE r:=by simp[fE]
  rw[e,af,ay];omega
structure qS where
 pos:M
 size:M
 count:M
 first:ab
 last:ab
abbrev mz:=cr qS
def qS.value(k:qS):aa:=eD #[am k.pos,am k.size,am k.count,J k.first,J k.last]
def qS.cells(k:qS):iV:=[am k.pos,am k.size,am k.count,J k.first,J k.last]
structure qS.Of(k:qS)(c:cA):Prop where
 ne:0<y c
 size:k.size=y (fE c)+4
 count:k.count=y c
 first:k.first=(c[0]'ne).key
 last:k.last=(c[y c-1]'(by omega)).key
def BS(w:Y)(b:M)(k:qS):Prop:=w.heap[b]?=H (aq #[am k.pos,am k.size,am k.count,J k.first,J k.last] 347 (0,0))
def BS.cells{k:qS}(h:BS a b k):aS a (R b 0)=H (am k.pos)/\aS a (R b 1)=H (am k.size)/\aS a (R b 2)=H (am k.count)/\aS a (R b 3)=H (J k.first)/\aS a (R b 4)=H (J k.last):=by
 refine⟨?_,?_,?_,?_,?_⟩<;>rw[bR h]<;>rfl
def BS.ar{w w':Y}{k:qS}{S:fI}(h:BS w b k)(c:Z S w w')(a:¬S b):BS w' b k:=(c.block b (aj h) a).trans h
def yz(x:E)(t:TypeId)(c:b=z (G a)):∀j u,(aE [x])[j]?=H u->aS (ct a<|aq #[J x.key,J x.val,aL x.del,aI x.bH] t) (((R b 0):Addr).add j)=H u:=by
 subst c;exact vZ a x t
def Rd.wrote(l:Rd a b o D)(h:eR a f d s)(g:∀k,bV d=H k->b<k):Rd f b o D:=by
 obtain⟨u,e,j,c⟩:=l;refine⟨u,(h.grown.block b (aj e) (λi=>by have:=g b i.symm;omega)).trans e,j.grown h.grown ?_,c⟩;cases hu:bV u with
 |none=>exact .inr rfl
 |some k=>
  left;intro i;have m:=c k hu;have n:=g k i.symm;omega
structure Vx(w0 w:Y)(rb:M)(k:qS)(c:cA)(o:aa)(n:M):Prop where
 own:w.ownsRow (z<|G w0) 164 4 o n (aE<|c.take n)
 rd:Rd w rb (fE<|c.drop n) bE
 box:BS w (z<|G w0) k
 Yv:Below (z<|G w0) w0 w
 Tw:z (G w0)<rb
 ne:bV o≠H rb/\bV o≠H (z<|G w0)
 wy:∀k,bV o=H k->rb<k
def Dt(ao c l:M)(t:qS)(hT:Steps a)(g:t.Of e)(hg:∀cp∈e,cp.Good)(hs:dQ e)(eb:y e<=1000)(bl:t.size<=l)(x:Bytes a (bC ao c t.size l) (iD<|fE e)):cw bF 332 #[bC ao c t.size l,t.value] a λP N=>
 ∃v',P=aO (dA #[v',aL bU])/\N.ownsRow (z<|G a) 164 4 v' (y e) (aE e)/\Below (z<|G a) a N:=by
 have ea:=Cv hg
 obtain⟨i0,cb,cm,cn,co⟩:=cz nQ
 obtain⟨pos,f,bg,first,b⟩:=t
 have cd:=g.ne
 have u:f=y (fE e)+4:=g.size
 have cc:bg=y e:=g.count
 have bp:=U<|show first=(e[0]'cd).key from g.first
 have bq:=U<|show b=(e[y e-1]'(by omega)).key from g.last
 clear g
 subst cc
 simp only at x bl
 unfold qS.value
 simp only
 have bv:Below (z<|G a) a (ct a<|aq #[am pos,am f,am<|y e,J first,J b] 347):=(Below.refl _ a).alloc (ah _) _
 have bu:ao<z (G a):=x.lt (by unfold iD;intro h;have:=bS y h;simp[bY]at this) ao rfl
 have cl:cw bF 208 #[bC ao c f l] (ct a<|aq #[am pos,am f,am<|y e,J first,J b] 347) λP N=>
  P=aO (dA #[bC ao c (y<|fE e) l,aL bU])/\Below (z<|G<|ct a<|aq #[am pos,am f,am<|y e,J first,J b] 347) (ct a<|aq #[am pos,am f,am<|y e,J first,J b] 347) N:=by
   rw[u]at x bl|-;exact xe ao c l (fE e) (hT.alloc _) bl (by omega)<|x.alloc _
 have bb:Bytes a (bC ao c (y<|fE e) l) (fE e):=by
  have d:Bytes a (bC ao c (y<|iD<|fE e) l) (iD<|fE e):=by rw[u]at x;unfold iD at*;rw[af,bY];exact x
  have:=d.take (n:=y<|fE e) (by simp[iD]);unfold iD at this;rwa[pM]at this
 have dx:∀(cp:Bool)(a:Y),(Op.unary .not<|aL cp).run bF a=.ok (aL<|!cp) a:=λ_ _=>rfl
 obtain⟨an,HG,HS,HB,cu⟩:=jR bb hg hs bv u
 clear x hT bb hg hs bv u
 go_in
 go_wp2_with(first
  |(go_at_call 208;refine cl.mono ?_;rintro P w⟨rfl,bi⟩;have ad:BS w (z<|G a) ⟨pos,f,y e,first,b⟩:=(bi.block _<|by simp).trans<|aC _ rfl;obtain⟨k0,k1,k2,k3,k4⟩:=ad.cells;simp only at k0 k1 k2 k3 k4;have m:Below (z<|G a) a w:=HB.trans (bi.mono<|by simp);have dv:=aj ad;have ce:=mU (an.below m (by intro t g;cases g;exact bu)) (by intro t g;cases g;exact ag bu m.size);have O:=U ad;have bf:=U m;clear bi ad m)
  |(go_at_call 209;refine ce.mono ?_;rintro P w2⟨rfl,bc,dn⟩;subst dn;have bs:=U bc;clear bc)
  |(at_make;refine lG _ rfl _ _ 102 rfl (z (G a)) 164 i0 wP 4 underlying102 cb cm cn _ _ _ (y e) rfl rfl (by omega) (by rw[co];omega) (by unfold maxLen;omega) (by simp;omega) ?_;intro w3 ba B;have r:Z az w w3:=((Z.refl az w).alloc _).ci (Z.dM (S:=az) B (by simp));have bx:=O.ar r (λe=>e);obtain⟨m0,m1,m2,m3,m4⟩:=bx.cells;simp only at m0 m1 m2 m3 m4;have bt:=U r;clear bx r;have A:=U ba;have al:=U B;clear ba B))
 have bk:=ae al
 have ds:=bk.size
 simp at ds
 have dm:z (G<|ct w<|aq #[bC ao c (y<|fE e) l,aL bE] 376)=z (G w)+1:=by simp
 have r:=ae bt
 have hA0:Vx a w3 (z<|G w) ⟨pos,f,y e,first,b⟩ e (bC (z (G w)+1) 0 0<|y e) 0:=by
  have i:=ae A;rw[dm]at i;refine⟨i,?_,O.ar r<|λe=>e,bf.trans<|(r.below (ah _) cG).mono bf.size,by omega,⟨?_,?_⟩,?_⟩
  .exact bs.laid bk
  .simp[bV]
  .have:=aj O;simp[bV];omega
  .intro t g;simp[bV]at g;omega
 have bo:=U hA0
 clear hA0 bk r
 go_loopw [9,35] (λc i wr=>∃o:M,o<=y e/\i=am o/\Vx a wr (z<|G w) ⟨pos,f,y e,first,b⟩ e c o) (λ_ i _=>y e-(intOf i).toNat)
 case atStart=>exact⟨0,bw _,rfl,bo⟩
 case round=>
  obtain⟨o,ec,rfl,k⟩:=hrel;have i:=k.own;obtain⟨ox,K,ho⟩:=aB i;have ee:=k.Yv.size;have au:=k.box.cells;simp only at au;obtain⟨q0,q1,q2,q3,q4⟩:=au;have dT:=k.rd.lt;have HA:=U k;by_cases T:o<y e
  .have v:=HG e[o]<|ap T;have q:=k.rd;rw[Sq e o T]at q;have C:kw (fE<|e.drop<|o+1):=LI<|λcp b=>HG cp<|dl b;have bm:y (fE<|e.drop<|o+1)<=35*1000:=by
    have Q:=Cv (c:=e.drop<|o+1)<|λcp b=>HG cp<|dl b;have h2:y (e.drop<|o+1)<=1000:=by simp;omega
    omega
   have D:=Au v;have p:=tZ v;have bn:y (nM e[o])<=35:=by unfold BC at p;rw[af]at p;omega
   have d:=Ll q ((kw.le 8 _).append<|D.append C) (by simp only[af,bY];omega);have V:=mG (le 8 e[o].bH)<|nM e[o]++fE (e.drop<|o+1);rw[bY]at V;have ax:num (le 8 e[o].bH++(nM e[o]++fE (e.drop<|o+1))) bE 8=e[o].bH:=by unfold num;rw[V];exact Cq v.b0 v.b1
   rw[V,ax]at d;simp only at d;have n:=λW(a:Rd W (z<|G w) (nM e[o]++fE (e.drop<|o+1)) bE)=>Gj (z<|G w) (fE<|e.drop<|o+1) W a (D.append C) (by simp only[af];omega) v;have cM:Hid (aE (e.take o)++aE [e[o]]=aE (e.take<|o+1)):=by rw[<-fN,ai T];exact U rfl
   clear k i q C bm D p bn V ax v;generalize e[o]=cp at*;obtain⟨xk,xv,xd,xb⟩:=cp;simp only at d n;unfold E.value at n;simp only at n;subst ho;go_wp2_with(first
    |(go_at_call 210;refine d.mono ?_;rintro P w4⟨rfl,ch,bT⟩;have cx:=U ch;have cs:=U bT;clear ch bT)
    |(go_at_call 217;refine(n w4 cx).mono ?_;rintro P L⟨rfl,cj,ca⟩;have s:Z (λt=>t=z (G w)) wr L:=(fi cs).trans (fi ca)<|λt g=>.inl g;have F:=aR (aR (s.own HA.own<|λt g e=>HA.ne.1 (by rw[<-e];exact g))<|.cells #[.string xk,.string xv,.bool xd,.int .u64 xb] 164)<|.cells #[.string xk,.string xv,.bool xd,.int .u64 xb] 164;have ed:=s.size;have br:=U F;have cE:=U s;have cB:=U cj;clear cj ca F s)
    |(at_builtin;refine bQ _ rfl (.tmp 48) (.tmp 50) 102 rfl (z (G a)) 164 i0 wP 4 48 underlying102 cb cm cn co rfl (by decide) (.slice ox o K) o (aE (e.take o)) rfl br (R (z (G L)+1) 0) 1 1 (aE [⟨xk,xv,xd,xb⟩]) rfl rfl (yz ⟨xk,xv,xd,xb⟩ _ (by simp)) (Bn _) (by omega) (by omega) (by simp;omega) ?_;intro o2 w6 j bd;have cv:=U j;have cT:=U bd;clear j bd))
   go_roundw;case rel=>
    refine⟨o+1,T,by go_num,?_⟩;have k:=ae HA;have s:=ae cE;have ac:=ae cT;have j:=ae cv;have dc:=k.own.lt;have ck:Z (λt=>bV (I ox o K)=H t) L w6:=(((Z.refl (λt=>bV (I ox o K)=H t) L).alloc _).alloc _).trans (Z.dM (S:=λt=>bV (I ox o K)=H t) ac.grown<|λt g=>.inl g)<|λt g=>.inl g;have av:∀t,t<z (G L)->bV (I ox o K)≠H t->bV o2≠H t:=by
     intro t g hn P;rcases ac.uc with db|⟨bh,db,hg⟩
     .exact hn<|db.symm.trans P
     .rw[db]at P;cases P;simp at hg;omega
    refine⟨?_,?_,?_,?_,k.Tw,⟨av _ (by omega) k.ne.1,av _ (by omega) k.ne.2⟩,?_⟩
    .rw[<-ae cM];exact j
    .have hr:=ae cB;have dd:=hr.laid<|dt L (aq #[J xk,J xv,aL xd,aI xb] 164) none;have dk:=dd.laid<|dt _ (aq #[J xk,J xv,aL xd,aI xb] 164) none;exact dk.wrote ac k.wy
    .exact(k.box.ar s (λe=>by have:=k.Tw;omega)).ar ck<|λe=>k.ne.2 e
    .refine(k.Yv.trans<|s.below k.Yv.size (λt g=>by have:=k.Tw;omega)).trans<|ck.below (by omega)<|λt g=>(dc t g).1
    .intro t g;rcases ac.uc with db|⟨bh,db,hg⟩
     .exact k.wy t<|db.symm.trans g
     .rw[db]at g;cases g;simp at hg;omega
   case measure=>simp[intOf];omega
  .have cv:o=y e:=by omega
   subst cv;have q:=k.rd;rw[gm]at q;have cs:∀W,W.heap=wr.heap->cw bF 213 #[aw<|z<|G w] W λP N=>P=aO (aL bU)/\N=W:=by
    intro W D;have:=xO (q.of_heap D) (by simp[fE]);simpa[fE]using this
   have hE:ku wr (I ox (y e) K) e:=by
    have Q:=dF i;rw[ho,bN]at Q;exact Q
   have V:∀ao,bV (I ox (y e) K)=H ao->ao<z (G wr):=λao x=>by rw[<-ho]at x;exact(i.lt ao x).2
   have p:∀W,W.heap=wr.heap->cw bF 318 #[I ox (y e) K] W λP N=>P=aO (aL bU)/\Below (z<|G W) W N:=by
    intro W D;refine MX (I ox (y e) K) W ?_ HS (by omega) (λao x=>by rw[D];exact V ao x);obtain⟨Q,⟨h2,h0⟩|⟨bh,ca,av,h2,bT,ck⟩⟩:=hE
    .exact⟨Q,.inl ⟨h2,h0⟩⟩
    .exact⟨Q,.inr ⟨bh,ca,av,h2,bT,λj u b=>(cH (w:=wr)<|by rw[D]).trans<|ck j u b⟩⟩
   obtain⟨cj,⟨ax,cT⟩|⟨bh,d,cE,ax,br,F⟩⟩:=hE
   .omega
   have bd:=(eA e 0 cd).1;have bm:=(eA e (y e-1)<|by omega).1;have f0:aS wr (R bh<|d+0*4)=H (J e[0].key):=F _ _ bd;have fL:aS wr (R bh<|d+(y e-1)*4)=H (J e[y e-1].key):=F _ _ bm;rw[<-ae bp]at f0;rw[<-ae bq]at fL;cases ax;subst ho;clear k i q cj br F bd bm;rw[zI,jq]at f0;have n:Below (z<|G a) a wr:=HA.Yv;have C:∀W,Below (z<|G wr) wr W->∃v',Ending.returned (dA #[bC bh d (y e) K,aL bU])=aO (dA #[v',aL bU])/\W.ownsRow (z<|G a) 164 4 v' (y e) (aE e)/\Below (z<|G a) a W:=by
    intro W D;have k:=ae HA;have Q:=k.own;rw[bN]at Q;refine⟨_,rfl,?_,n.trans<|D.mono n.size⟩;exact(Z.aT (S:=az) D).own Q<|λ_ _ e=>e
   have ac:=U C;have bn:=V bh rfl;have v:z (G a)<z (G wr):=aj HA.box;clear C n cu bp bq O bf an bs A al bt bo HA HG HS HB cl ce V;obtain⟨s,hp⟩:∃s,y e-1=s:=⟨_,rfl⟩;have e1:(y e:X)-1=(s:X):=by omega
   have e2:(s:X)<(y e:X):=by omega
   have e3:(0:X)<=(s:X):=by omega
   have e4:s<y e:=by omega
   have e5:¬((y e:X)<(y e:X)):=by omega
   have e6:s<=1000:=by omega
   have e9:IntKind.i64.wrap (s:X)=(s:X):=by rw[bO];omega
   have cM:wrap64 (s:X)=(s:X):=by unfold wrap64;omega
   rw[hp]at fL;have cx:∀W,W.heap=wr.heap->cw bF 318 #[bC bh d (y e) K] W λP N=>P=aO (aL bU)/\Below (z<|G W) W N:=p;clear p hp;go_wp2_with fail
   go_region_held3(λc=>aS c (R bh d)=H (J first)/\aS c (R bh<|d+s*4)=H (J b)/\aS c (R (z<|G a) 3)=H (J first)/\aS c (R (z<|G a) 4)=H (J b)) (first|assumption|go_keep) (first
    |(go_at_call 213;refine(cs wr.drew rfl).mono ?_;rintro P w4⟨rfl,cB⟩;subst cB)
    |(go_at_call 318;refine(cx wr.drew rfl).mono ?_;rintro P L⟨rfl,j⟩;have a0:aS L (R bh d)=H (.string first):=(j.cell (p:=(R bh d)) bn).trans f0;have a1:aS L (R bh (d+s*4))=H (.string b):=(j.cell (p:=(R bh (d+s*4))) bn).trans fL;have a2:aS L (R (z (G a)) 3)=H (.string first):=(j.cell (p:=(R (z (G a)) 3)) v).trans q3;have a3:aS L (R (z (G a)) 4)=H (.string b):=(j.cell (p:=(R (z (G a)) 4)) v).trans q4;have ch:=U j;clear j))
   go_wp2;go_ret2
   have j:=ae ch;exact ac _ ⟨j.os,j.tape,j.output,j.size,j.block⟩
variable{A:mz}
def er(l:mz):iV:=l.flatMap qS.cells
def BJ(l:mz):y (er l)=y l*5:=by
 induction l with
 |nil=>rfl
 |cons e r a=>unfold er at*;rw[dH,af,a];simp[qS.cells];omega
def iw(l:mz)(n j:M)(h:n<y l)(c:j<5):(er l)[n*5+j]?=(qS.cells l[n])[j]?:=by
 have e:er l=er (l.take n)++(qS.cells l[n]++er (l.drop<|n+1)):=by(have a:l=l.take n++l[n]::l.drop (n+1):=by rw[<-bD h,bW]);(conv=>lhs;rw[a]);simp only[er,fZ,dH]
 have b:y (er<|l.take n)=n*5:=by rw[BJ];simp;omega
 rw[e,dD (by omega),b,show n*5+j-n*5=j by omega,gd (by simp[qS.cells];omega)]
structure lR(w:Y)(tb:M)(dv:aa)(number cut isize sum:X)(bb boff wL:M)(dav:aa)(ks:mz):Prop where
 box:w.heap[tb]?=H (aq #[dv,aI number,dr cut,dr isize,dr sum,bC bb boff (y ks) wL,dav] 293 (0,0))
 cells:∀j u,(er ks)[j]?=H u->aS w (R bb<|boff+j)=H u
 ne:0<y ks
 le:y ks<=wL
 small:y ks<=1000000000
def RZ{e cut i j:X}(h:lR a b d e cut i j c g l s A):cw bF 176 #[aw b] a λn m=>n=aO (J (A[0]'h.ne).first)/\m=a:=by
 have k:=cellAt h.box 5 rfl;have f:=h.ne;have o:aS a (R c<|g+3)=H (J (A[0]'f).first):=h.cells _ _ (iw A 0 3 f<|by decide);have p:(0:X)<(y A:X):=by omega
 generalize(A[0]'f).first=q at*;clear h;go_in
 go_wp2;go_ret;exact⟨rfl,rfl⟩
def Uo{e cut f i:X}(h:lR a b d e cut f i c g l s A):cw bF 177 #[aw b] a λr o=>r=aO (J (A[y A-1]'(by have:=h.ne;omega)).last)/\∃q,o=a.drewN q:=by
 have k:=cellAt h.box 5 rfl;have m:=h.ne;have n:=h.small;obtain⟨p,j⟩:∃p,y A-1=p:=⟨_,rfl⟩;have x:aS a (R c<|g+p*5+4)=H (J (A[y A-1]'(by omega)).last):=by subst j;rw[aV];exact h.cells _ _<|iw A (y A-1) 4 (by omega)<|by decide
 have t:(y A:X)-1=(p:X):=by omega
 have u:(p:X)<(y A:X):=by omega
 have v:(0:X)<=(p:X):=by omega
 have w:p<y A:=by omega
 generalize(A[y A-1]'(by omega)).last=B at*;clear h j;go_in
 go_wp2;go_quiet(fail)
 go_wp2;go_ret;exact⟨rfl,nq,rfl⟩
def NE(m:M){bk:M}{e cut f k:X}(i:ab)(h:lR a b d e cut f k c g l s A)(o:dV a m (aw b) 224)(n:dV a bk (J i) 9)(j:M)(t:j<y A):cw bF 330 #[am j,aw m,aw bk] a λv u=>v=aO (aL<|!ie A[j].last i)/\∃q,u=a.drewN q:=by
 have p:=cellAt h.box 5 rfl;have B:aS a (R c<|g+j*5+4)=H (J A[j].last):=by rw[aV];exact h.cells _ _<|iw A j 4 t<|by decide
 have c1:=o.cell;have c2:=n.cell;have r:=Jh;have w:(j:X)<(y A:X):=by omega
 have x:(0:X)<=(j:X):=by omega
 unfold ie;generalize A[j].last=C at*;clear h o n;go_in
 go_wp2;go_quiet(fail)
 go_wp2;go_ret;exact⟨rfl,nq,rfl⟩
def lR.below{e cut h i:X}{B:M}(j:lR a b d e cut h i c g l s A)(k:Below B a f)(m:b<B)(n:c<B):lR f b d e cut h i c g l s A:=⟨(k.block b m).trans j.box,λq u o=>(k.cell (p:=(R c<|g+q)) n).trans<|j.cells q u o,j.ne,j.le,j.small⟩
def lR.lt{e cut h i:X}(j:lR a b d e cut h i c g l s A):b<z (G a)/\c<z (G a):=⟨aj j.box,da a (R c<|g+(0*5+0))<|j.cells _ _<|iw A 0 0 j.ne<|by decide⟩
def Ac{i cut n F:X}(e:ab)(h:lR a b s i cut n F c g l N A)(T:A.Pairwise (λV W=>ie V.last W.last=bU)):cw bF 326 #[aw b,J e] a λad w'=>∃K:M,ad=aO (am K)/\K<=y A/\(∀j(f:j<y A),j<K->ie A[j].last e=bU)/\(∀j(f:j<y A),K<=j->ie A[j].last e=bE)/\Below (z<|G a) a w':=by
 have r:=h.lt;have C:Below (z<|G a) a (ct (ct a<|aq #[aw b] 224)<|aq #[J e] 9):=((Below.refl _ a).alloc (ah _) _).alloc (by simp) _;have u:=h.below C r.1 r.2;have al:=cellAt u.box 5 rfl
 have t:=zi #[aw<|z<|G a,aw<|z (G a)+1] (y A) (λj=>if f:j<y A then !ie A[j].last e else bU) (ct (ct a<|aq #[aw b] 224)<|aq #[J e] 9) (enters_of func330 (by kernel_rfl) rfl) (by have:=h.small;omega) (by
  intro V W B p v;have o:V<y A:=by omega
  simp only[p,o,oE]at v|-;rcases lf B with ac|ac
  .have k:=cy.1 T V W o p ac;cases d:ie A[W].last e with
   |false=>rfl
   |true=>have:=lH k d;rw[this]at v;cases v
  .subst ac;exact v)
  (by
   intro j f ao k;have x:=u.below k (by simp;omega) (by simp;omega);have D:dV ao (z (G a)) (aw b) 224:=(k.block _ (by simp;omega)).trans (dV.alloc (aC _ rfl) _);have E:dV ao (z (G a)+1) (J e) 9:=(k.block _ (by simp)).trans (aC _ (by simp));apply(NE (z (G a)) e x D E j f).mono;rintro ad W'⟨rfl,q,rfl⟩;simp only[f,oE];exact⟨trivial,below_drewN (Below.refl _ _) _⟩)
 have w:=U t;have L:=U C;have an:=u.lt.1;clear t u C h T;go_in
 go_wp2_with(go_at_call 225;refine w.mono ?_;rintro ad w1⟨K,rfl,O,P,Q,S⟩;have H1:=U O;have H2:=U P;have H3:=U Q;have H4:=U S;clear O P Q S)
 go_ret;refine⟨K,rfl,H1,λj f m=>?_,λj f m=>?_,L.trans<|H4.mono L.size⟩;have:=H2 j m;simp only[f,oE]at this;simpa using this;have:=H3 j m f;simp only[f,oE]at this;simpa using this
structure nG(V:jm)(n0 tb:M)(ks:mz)(cs:dW)(w:Y):Prop where
 mem:∃dv number cut isize sum bb boff wL dav,lR w tb dv number cut isize sum bb boff wL dav ks/\(tb<n0/\¬V.F tb)/\(bb<n0/\¬V.F bb)
 len:y ks=y cs
 Ee:∀i(hi:i<y ks)(hc:i<y cs),ks[i].Of cs[i]
 jd:∀c∈cs,∀x∈c,x.Good
 mq:dQ cs.flatten
 CT:cs.Pairwise gS
 small:∀c∈cs,y c<=1000
 bytes:∀i(hi:i<y ks)(hc:i<y cs)W,jJ V n0 az w W->V.D W->cw bF 331 #[aw tb,ks[i].value] W λe W'=>
  ∃b off cap,e=aO (dA #[bC b off ks[i].size cap,.nilIface])/\ks[i].size<=cap/\Bytes W' (bC b off ks[i].size cap) (iD<|fE cs[i])/\V.D W'/\Z V.F W W'
 steps:Steps w
 zQ:1<n0/\¬V.F 1
def lR.same{V:jm}{n0:M}{S:fI}{e cut h i:X}(j:lR a b d e cut h i c g l s A)(k:jJ V n0 S a f)(m:b<n0/\¬V.F b)(n:c<n0/\¬V.F c):lR f b d e cut h i c g l s A:=⟨(k.2 b<|.inl m).trans j.box,λp u o=>k.cell (.inr n)<|j.cells p u o,j.ne,j.le,j.small⟩
def Steps.same{V:jm}{n0:M}{S:fI}(h:Steps a)(d:jJ V n0 S a f)(b:1<n0/\¬V.F 1):Steps f:=λk c=>d.cell (.inr b)<|h k c
def nG.same{V:jm}{n0 d:M}(h:nG V n0 d A k a)(j:jJ V n0 az a f):nG V n0 d A k f:=by
 obtain⟨p,c,cut,e,l,o,g,b,i,u,m,n⟩:=h.mem;exact⟨⟨p,c,cut,e,l,o,g,b,i,u.same j m n,m,n⟩,h.len,h.Ee,h.jd,h.mq,h.CT,h.small,λv t s W r q=>h.bytes v t s W (j.trans r) q,h.steps.same j h.zQ,h.zQ⟩
def KG(h:nG r b c A k a)(hD:r.D a)(hn:b<=z (G a))(hF:∀al,r.F al->al<b)(o:M)(F:o<y A)(hc:o<y k):cw bF 327 #[aw c,am o] a λbi N=>∃L,bi=aO (dA #[L,.nilIface])/\N.ownsRow (z<|G a) 164 4 L (y k[o]) (aE k[o])/\r.D N/\Z r.F a N:=by
 obtain⟨dv,an,cut,bg,bq,O,i,ad,bm,C,bp,bn⟩:=h.mem;have bo:=cellAt C.box 5 rfl;have g0:aS a (R O<|i+o*5)=H (am A[o].pos):=C.cells _ _ (iw A o 0 F<|by decide);have g1:aS a (R O<|i+o*5+1)=H (am A[o].size):=by rw[aV];exact C.cells _ _<|iw A o 1 F<|by decide
 have g2:aS a (R O<|i+o*5+2)=H (am A[o].count):=by rw[aV];exact C.cells _ _<|iw A o 2 F<|by decide
 have g3:aS a (R O<|i+o*5+3)=H (J A[o].first):=by rw[aV];exact C.cells _ _<|iw A o 3 F<|by decide
 have g4:aS a (R O<|i+o*5+4)=H (J A[o].last):=by rw[aV];exact C.cells _ _<|iw A o 4 F<|by decide
 have e2:(o:X)<(y A:X):=by omega
 have e3:(0:X)<=(o:X):=by omega
 have m:=ap hc;have E:=h.Ee o F hc;have s:=h.jd _ m;have n:=h.small _ m;have D:dQ k[o]:=h.mq.sub<|cL m;have q:=h.bytes o F hc;have v:=h.steps;have u:=h.zQ;have bl:∀(x:Bool)(a:Y),(Op.unary .not<|aL x).run bF a=.ok (aL<|!x) a:=λ_ _=>rfl;have Q:∀al,b<=al->¬r.F al:=λal hk a=>by have:=hF al a;omega
 obtain⟨pos,d,e,first,g,bd⟩:∃pos d e first g,A[o]=⟨pos,d,e,first,g⟩:=⟨_,_,_,_,_,rfl⟩
 rw[bd]at g0 g1 g2 g3 g4 E q;simp only at g0 g1 g2 g3 g4;unfold qS.value at q;simp only at q;have w:Z az a (ct a<|aq #[am pos,am d,am e,J first,J g] 347):=(Z.refl _ _).alloc _;have bc:=q _ (w.same hn cG cG)<|r.fm hD w cG;have bk:=(C.lt).2;have HX:=U (show∀p bh f j,Z r.F (ct a<|aq #[am pos,am d,am e,J first,J g] 347) p->d<=j->Bytes p (bC bh f d j) (iD<|fE k[o])->cw bF 332 #[bC bh f d j,eD #[am pos,am d,am e,J first,J g]] p λbi N=>∃L,bi=aO (dA #[L,aL bU])/\N.ownsRow (z<|G p) 164 4 L (y k[o]) (aE k[o])/\Below (z<|G p) p N from by intro p bh f j ht B hB;have V:Steps p:=(v.same (S:=az) (w.same (V:=r) hn cG cG) u).same (S:=az) (ht.same (V:=r) (by simp;omega) cG<|λal hk _=>hk) u;exact Dt bh f j ⟨pos,d,e,first,g⟩ V E s D n B hB);have ba:=U Q;clear C E s n D q v u m h hD hF Q;go_in
 go_wp2_with(first
  |(go_at_call 331;refine bc.mono ?_;rintro bi p⟨bh,f,j,rfl,B,hB,P,l⟩;have bf:=HX p bh f j l B hB;have ac:BS p (z<|G a) ⟨pos,d,e,first,g⟩:=BS.ar (aC _ rfl) l<|ba _ hn;obtain⟨k0,k1,k2,k3,k4⟩:=ac.cells;simp only at k0 k1 k2 k3 k4;have au:=U P;have ax:=U l;clear B hB P l ac)
  |(go_at_call 332;refine bf.mono ?_;rintro bi w3⟨L,rfl,t,x⟩;have av:=U t;have ao:=U x;clear t x))
 go_ret2
 have l:=ae ax;have x:=ae ao;have hz:=l.size;simp at hz;have W:Z az p w3:=Z.aT x;refine⟨L,rfl,?_,r.fm au W cG,((w.mono (T:=r.F) cG).trans l<|λal hk=>.inl hk).ci W⟩;obtain⟨h1,⟨h2,h0⟩|⟨br,cp,bb,h2,hb,K⟩⟩:=ae av;exact⟨h1,.inl ⟨h2,h0⟩⟩;exact⟨h1,.inr ⟨br,cp,bb,h2,by omega,K⟩⟩
def nG.Ap(h:nG r b c A k a):A.Pairwise (λo p=>ie o.last p.last=bU):=by
 refine cy.2<|λm n j l f=>?_;have d:m<y k:=by have:=h.len;omega
 have e:n<y k:=by have:=h.len;omega
 have g:=h.Ee m j d;have i:=h.Ee n l e;rw[g.last,i.last];have:=cy.1 h.CT m n d e f;have q:=g.ne;have s:=i.ne;exact this _ (ap<|by omega) _<|ap<|by omega
def nG.Bx(q:nG r b c A k a)(e:ab)(j:M)(t:∀i(m:i<y A),i<j->ie A[i].last e=bU):((k.drop j).map<|fQ e).flatten=fQ e k.flatten:=by
 have n:k.flatten=(k.take j).flatten++(k.drop j).flatten:=by rw[<-dP,bW]
 have o:fQ e (k.take j).flatten=[]:=by unfold fQ;rw[gO];intro B v;obtain⟨x,u,h⟩:=bz.1 v;obtain⟨i,m,rfl⟩:=dO u;rw[gq]at h;(have d:i<j/\i<y k:=by simp at m;omega);(have f:i<y A:=by have:=q.len;omega);have w:=q.Ee i f d.2;have g:dQ k[i]:=q.mq.sub<|cL<|ap d.2;have l:=t i f d.1;rw[w.last]at l;have s:=g.CY w.ne h;rw[xE s l];simp
 have p:∀l:dW,(l.map<|fQ e).flatten=fQ e l.flatten:=by
  intro l;induction l with
  |nil=>rfl
  |cons f g d=>simp only[aX,aW,d];unfold fQ;rw[iW]
 rw[p,n];unfold fQ at*;rw[iW,o,cC]
def Fw(bt:M)(i:M)(K:ab)(h:nG r b c A k a)(ht:dV a bt (aw c) 224)(hg:dV a g (am i) 3)(E:dV a l (J K) 9)(hn:b<=l)(hD:r.D a)(al:b<=z (G a))(hF:∀i,r.F i->i<b)(q:M)(hi:i+q<y A)(hc:i+q<y k):cw bF 329 #[am q,aw bt,aw g,aw l] a λav w'=>∃v' S',av=aO (dA #[v',.nilIface])/\jl r b v' (fQ K k[i+q]) S' w'/\r.D w'/\Z r.F a w'/\(∀i,S' i->z (G a)<=i):=by
 have c1:=ht.cell;have c2:=hg.cell;have c3:=E.cell;have x:=KG h hD al hF (i+q) hi hc;have e:=ap hc;have o:dQ k[i+q]:=h.mq.sub<|cL e;have ad:=h.small _ e;have n:i+q<1000000000:=by obtain⟨_,_,_,_,_,_,_,_,_,F,_⟩:=h.mem;have:=F.small;omega
 have T:=aj E;have ac:¬r.F l:=λV=>by have:=hF l V;omega
 obtain⟨HL,HS,s,HF⟩:=gx E o (show∀x∈k[i+q],x.bH<18446744073709551616 fromλx b=>(h.jd _ e x b).b1) hF;clear ht hg E h hD e hF o hi;have C:IntKind.i64.wrap ((i:X)+(q:X))=((i+q:M):X):=by rw[bO];omega
 have p:wrap64 ((i:X)+(q:X))=((i+q:M):X):=by unfold wrap64;omega
 obtain⟨au,F⟩:∃au,i+q=au:=⟨_,rfl⟩;simp only[F]at x ad HS s C p n|-;have an:(i:X)+(q:X)=(au:X):=by omega
 generalize k[au]=bb at*;clear F C p;go_in
 go_wp2_with(first
  |(go_at_call 327;refine x.mono ?_;rintro av w1⟨v1,rfl,d,t,f⟩;have ax:aS w1 (R l 0)=H (.string K):=f.cell c3 ac T;have u:ku w1 v1 bb:=dF d;have m:=d.lt;have ao:=f.size;have W:=LQ r b K u HS s (by omega) (λi D=>⟨λV=>by have:=HF i V;have:=(m i D).1;omega,(m i D).2⟩) (by omega) HF;have N:=U t;have S:=U f;have P:=U m;clear d t f u m)
  |(go_at_call 317;refine W.mono ?_;rintro av w2⟨v2,S2,rfl,w,j,v⟩;have O:=U w;have L:=U j;have Q:=U v;clear w j v))
 go_ret2
 have j:=ae L;have f:=ae S;have B:Z az w1 w2:=Z.aT j;refine⟨v2,S2,rfl,O,r.fm N B cG,f.ci B,λk' D=>?_⟩;rcases Q k' D with ba|ba;exact(P k' ba.1).1;omega
def Tg(V:jm)(c a d j k n:M)(r:mz)(l:dW)(o:ab)(q:y r=y l):AK V c ((l.drop n).map<|fQ o)where
 f:=329
 cb:=#[aw d,aw j,aw k]
 inv:=λW=>nG V c a r l W/\(dV W d (aw a) 224/\dV W j (am n) 3/\dV W k (J o) 9)/\(c<=d/\c<=j/\c<=k)/\c<=z (G W)/\∀n,V.F n->n<c
 S:=λx=>x=d\/x=j\/x=k
 SN:=enters_of func329 (by kernel_rfl) rfl
 call:=by
  rintro u t W⟨m,⟨e,g,h⟩,⟨_,_,p⟩,b,hF⟩s;have i:n+u<y l:=by simp at t;omega
  have:=Fw d n o m e g h p s b hF u (by omega) i;simpa using this
 fm:=by
  rintro W t⟨m,⟨e,g,h⟩,s,b,hF⟩i;exact⟨m.same<|i.mono cG,⟨e.same i<|.inl rfl,g.same i<|.inr<|.inl rfl,h.same i<|.inr<|.inr rfl⟩,s,aD b i.1,hF⟩
 lt:=by
  rintro W⟨_,⟨e,g,h⟩,⟨i,s,p⟩,_⟩x(rfl|rfl|rfl)
  .exact⟨i,aj e⟩
  .exact⟨s,aj g⟩
  .exact⟨p,aj h⟩
def BZ{n0 tbqq:M}{ks:mz}{cs:dW}(f:ab)(h:nG r n0 tbqq ks cs a)(hD:r.D a)(n:n0<=z (G a))(hF:∀k,r.F k->k<n0):cw bF 325 #[aw tbqq,J f] a λan j=>∃w t,an=aO w/\jl r n0 w (fQ f cs.flatten) t j/\r.D j/\Z r.F a j/\(∀k,t k->z (G a)<=k):=by
 have l:Below (z<|G a) a (ct (ct a<|aq #[aw tbqq] 224)<|aq #[J f] 9):=((Below.refl _ a).alloc (ah _) _).alloc (by simp) _;obtain⟨dv,E,cut,ad,bf,L,g,d,au,C,bb,av⟩:=h.mem;have e:=C.lt;have T:=Ac f (C.below l e.1 e.2) h.Ap;have s:=h.len;have ba:=C.small
 have HX:=U (show∀(c:Y)(k:M),Below (z<|G<|ct (ct a<|aq #[aw tbqq] 224)<|aq #[J f] 9) (ct (ct a<|aq #[aw tbqq] 224)<|aq #[J f] 9) c->k<=y ks->(∀d(e:d<y ks),d<k->ie ks[d].last f=bU)->∀W,W.heap=(ct c<|aq #[am k] 3).heap->Z az (ct c<|aq #[am k] 3) W->cw bF 323 #[am ((y ks-k:M):X),.func (.func 329) #[] #[aw<|z<|G a,aw<|z<|G c,aw<|z (G a)+1]] W λan j=>∃w t,an=aO w/\jl r n0 w (fQ f cs.flatten) t j/\r.D j/\Z r.F a j/\(∀k,t k->z (G a)<=k)/\Below (z<|G W) W j from by
  intro c k b hk Q W u O;have v:=b.size;simp at v;have i:Z az a W:=(((Z.aT (S:=az) l).ci<|Z.aT (S:=az) b).alloc _).ci O;have V:dV c (z<|G a) (aw tbqq) 224:=(b.block _ (by simp;omega)).trans<|dV.alloc (aC _ rfl) _;have ac:dV c (z (G a)+1) (J f) 9:=(b.block _<|by simp).trans (aC _<|by simp);have y1:dV W (z<|G a) (aw tbqq) 224:=by rw[dV,u];exact V.alloc _
  have y2:dV W (z (G a)+1) (J f) 9:=by rw[dV,u];exact ac.alloc _
  have y3:dV W (z<|G c) (am k) 3:=by rw[dV,u];exact aC _ rfl
  have N:nG r n0 tbqq ks cs W:=h.same<|i.same n cG cG;have A:=Hq (Tg r n0 tbqq (z<|G a) (z<|G c) (z (G a)+1) k ks cs f s) W ⟨N,⟨y1,y3,y2⟩,⟨n,by omega,by omega⟩,aD n i.size,hF⟩ (aD n i.size) hF (by simp;omega);have hl:y ((cs.drop k).map<|fQ f)=y ks-k:=by simp;omega
  rw[hl]at A;apply A.mono;rintro an j⟨w,t,rfl,hg,hb,hS⟩;rw[h.Bx f k Q]at hg;have D:Z az W j:=Z.aT hb;have o:=i.ci D;refine⟨w,t,rfl,hg,r.fm hD o cG,o.mono cG,λbg hx=>?_,hb⟩;have bd:=i.size;rcases hS bg hx with(ao|ao|ao)|ao
  .omega
  .omega
  .omega
  .omega)
 have m:∀W,Below (z<|G a) a W->aS W (R tbqq 5)=H (bC L g (y ks) d):=λW b=>by rw[bR (C.below b e.1 e.2).box];rfl
 have K:=U m;have HB:=U l;have bc:=e.1;clear h C hD hF m l e s;go_in
 go_wp2_with(go_at_call 326;refine T.mono ?_;rintro an c⟨k,rfl,hk,B,P,b⟩;have q:Below (z<|G a) a c:=HB.trans<|b.mono HB.size;have m:=K c q;have v:=b.size;have x1:aS c (R (z<|G a) 0)=H (aw tbqq):=dV.cell<|(b.block _ (by simp;omega)).trans<|dV.alloc (aC _ rfl) _;have x:=U<|HX c k b hk B;clear B P b q)
 simp at v;have q1:z (G a)<z (G c):=by omega
 have q2:tbqq<z (G c):=by omega
 obtain⟨al,hd⟩:∃al,y ks-k=al:=⟨_,rfl⟩;rw[hd]at x;have q3:(y ks:X)-(k:X)=(al:X):=by omega
 have q4:al<=1000000000:=by omega
 have q6:IntKind.i64.wrap (al:X)=(al:X):=by rw[bO];omega
 clear hd
 go_region_held3(λb=>aS b (R (z<|G a) 0)=H (aw tbqq)/\aS b (R tbqq 5)=H (bC L g (y ks) d)/\aS b (R (z<|G c) 0)=H (am k)) (first|assumption|go_keep) (first
  |(go_at_call 323;refine(x ((ct c (.cells #[.int .i64 k] 3)).drew) rfl ⟨rfl,rfl,rfl,ah _,λ_ _ _=>rfl⟩).mono ?_;rintro an w2⟨v2,S2,rfl,r1,r2,r3,r4,F⟩;have R1:=U r1;have R2:=U r2;have R3:=U r3;have R4:=U r4;have ax:aS w2 (R (z (G a)) 0)=H (aw tbqq)/\aS w2 (R tbqq 5)=H (bC L g (y ks) d)/\aS w2 (R (z (G c)) 0)=H (.int .i64 k):=⟨(F.cell (p:=(R (z (G a)) 0)) (by simp;omega)).trans (by rw[bA,pI _ _ _ q1];exact x1),(F.cell (p:=(R tbqq 5)) (by simp;omega)).trans (by rw[bA,pI _ _ _ q2];exact m),(F.cell (p:=(R (z (G c)) 0)) (by simp)).trans (by simp)⟩;clear r1 r2 r3 r4 F))
 go_wp2;go_ret;exact⟨v2,S2,rfl,R1,R2,R3,R4⟩
structure zD(ks:mz)(key:ab)(k:M):Prop where
 le:k<=y ks
 low:∀i(hi:i<y ks),i<k->ie ks[i].last key=bU
 uY:∀i(hi:i<y ks),k<=i->ie ks[i].last key=bE
def Qo(n:A.Pairwise (λm g=>ie m.last g.last=bU))(b:ab):∃l,zD A b l:=by
 induction A with
 |nil=>exact⟨0,ah _,λi a=>by simp at a,λi a=>by simp at a⟩
 |cons g r k=>
  obtain⟨h,j⟩:=bj.1 n;cases c:ie g.last b with
  |true=>
   obtain⟨l,f⟩:=k j;refine⟨l+1,by have:=f.le;simp;omega,λi a e=>?_,λi a e=>?_⟩
   .cases i with
    |zero=>exact c
    |succ i=>exact f.low i (by simpa using a)<|by omega
   .cases i with
    |zero=>omega
    |succ i=>exact f.uY i (by simpa using a)<|by omega
  |false=>
   refine⟨0,bw _,λi a e=>by omega,λi a _=>?_⟩;cases i with
   |zero=>exact c
   |succ i=>
    have f:i<y r:=by simpa using a
    have:=h r[i]<|ap f;show ie r[i].last b=bE;cases d:ie r[i].last b with
    |false=>rfl
    |true=>have:=lH this d;rw[c]at this;cases this
def zD.eq(h:zD A v b)(a:zD A v c):b=c:=by
 rcases kA b c with e|e|e;have f:=a.low b (by have:=a.le;omega) e;have d:=h.uY b (by have:=a.le;omega)<|ah _;rw[f]at d;cases d;exact e;have f:=h.low c (by have:=h.le;omega) e;have d:=a.uY c (by have:=h.le;omega)<|ah _;rw[f]at d;cases d
def nG.Az(q:nG r b c A k a)(t:zD A v g)(x:E)(w:x∈k.flatten)(i:x.key=v):∃j:g<y k,x∈k[g]:=by
 obtain⟨D,j,d⟩:=bz.1 w;obtain⟨o,l,rfl⟩:=dO j;have e:o<y A:=by have:=q.len;omega
 have B:=q.Ee o e l;have n:dQ k[o]:=q.mq.sub<|cL j;have m:=n.CY B.ne d;rcases kA o g with p|p|p;have:=t.low o e p;rw[B.last]at this;have:=xE m this;rw[i,fo]at this;cases this;subst p;exact⟨l,d⟩;(have h:g<y A:=by omega);(have f:g<y k:=by omega);have u:=q.Ee g h f;have s:=t.uY g h<|ah _;rw[u.last]at s;have C:=u.ne;have:=cy.1 q.CT g o f l p _ (ap<|show y k[g]-1<y k[g]by omega) x d;rw[i,s]at this;cases this
def nG.yx(l:nG r b c A k a)(m:zD A v g)(n:∀(s:g<y A),ie v A[g].first=bU)(q:X):iA q k.flatten v=none:=by
 refine qY<|λx o e=>?_;obtain⟨i,h⟩:=l.Az m x o e;have d:g<y A:=by have:=l.len;omega
 have p:=l.Ee g d i;have j:=n d;have f:dQ k[g]:=l.mq.sub<|cL<|ap i;rw[p.first,<-e,f.xK p.ne h]at j;cases j
def nG.BA(j:nG r b c A k a)(h:zD A v g)(f:g<y k)(e:X):iA e k.flatten v=iA e k[g] v:=AA f (λx i d=>j.Az h x i d) j.CT e
def Ws(t:TypeId)(a b:ab):binOp .gtr t (J a) (J b)=pure (aL !(Op.bytesLess a.toList b.toList||a.toList==b.toList)):=by simp[binOp,Op.stringOp]
def Px(a b:ab):(!(Op.bytesLess a.toList b.toList||a.toList==b.toList))=ie b a:=by
 show(!(ie a b||a.toList==b.toList))=ie b a;cases h1:ie a b with
 |true=>rw[lI h1];rfl
 |false=>
  cases h2:(a.toList==b.toList)with
  |true=>
   have:a=b:=Jy (by simpa using h2);rw[this,fo];rfl
  |false=>
   cases h3:ie b a with
   |true=>rfl
   |false=>rw[nP h1 h3]at h2;simp at h2
def Ca{n0 tbqq:M}{ks:mz}{cs:dW}(m:ab)(bt:X)(h:nG r n0 tbqq ks cs a)(hD:r.D a)(w:n0<=z (G a))(hF:∀x,r.F x->x<n0):cw bF 322 #[aw tbqq,J m,aI bt] a λbd w'=>bd=aO (tg<|iA bt cs.flatten m)/\r.D w'/\Z r.F a w':=by
 obtain⟨x,o⟩:=Qo h.Ap m;have t:Below (z<|G a) a (ct a<|aq #[J ⟨#[]⟩,J ⟨#[]⟩,aL bE,aI 0] 164):=(Below.refl _ a).alloc (ah _) _;obtain⟨dv,bk,cut,bn,bx,bo,W,N,bp,hm,bv,bq⟩:=h.mem;have v:=hm.lt;have j:=h.len;have bu:=hm.small;have V:cw bF 326 #[aw tbqq,J m] (ct a<|aq #[J ⟨#[]⟩,J ⟨#[]⟩,aL bE,aI 0] 164) λbd w'=>bd=aO (am x)/\Below (z<|G a) a w'/\ij w' (z<|G a) zE:=by apply(Ac m (hm.below t v.1 v.2) h.Ap).mono;rintro bd w'⟨f,rfl,g,q,s,d⟩;obtain rfl:x=f:=o.eq ⟨g,q,s⟩;exact⟨rfl,t.trans<|d.mono t.size,(d.block _<|by simp).trans<|aC _ rfl⟩
 have n:∀bc,Below (z<|G a) a bc->aS bc (R tbqq 5)=H (bC bo W (y ks) N):=λbc O=>by rw[bR (hm.below O v.1 v.2).box];rfl
 have K:=U n;have T:∀bf,n0<=bf->¬r.F bf:=λbf hx a=>by have:=hF bf a;omega
 have L:=U T;have al:=U<|λbc(O:Below (z<|G a) a bc)=>r.fm hD (Z.aT (S:=az) O) cG;have br:=Ws;by_cases Q:x<y ks
 .have u:∀bc,Below (z<|G a) a bc->aS bc (R bo<|W+x*5+3)=H (J ks[x].first):=λbc O=>by rw[aV];exact(hm.below O v.1 v.2).cells _ _<|iw ks x 3 Q<|by decide
  have ac:=U u;have e1:((x:X)==(y ks:X))=bE:=by simp;omega
  have e2:(x:X)<(y ks:X):=by omega
  have e3:(0:X)<=(x:X):=by omega
  have bh:=Px ks[x].first m;cases hfk:ie m ks[x].first with
  |true=>
   rw[hfk]at bh;have e:=h.yx o (λ_=>hfk) bt;rw[e];have HL:=U j;clear h hm o hD hF T t n u j e hfk;generalize ks[x].first=fk at*;go_in
   go_wp2_with(go_at_call 326;refine V.mono ?_;rintro bd k⟨rfl,c,b⟩;have n:=K k c;have u:=ac k c;obtain⟨z0,z1,z2,z3⟩:=b.cells;have y0:=b.free (i:=0);have y1:=b.free (i:=1);have y2:=b.free (i:=2);have y3:=b.free (i:=3);have p:=U b;have l:=U c;clear b c)
   refine cI (fV rfl _ _ (z<|G a) zE _ _ rfl<|p.put zE) rfl ?_;have C:Below (z<|G a) a (wK k (z<|G a) zE):=l.trans ((jb k (z<|G a) zE).below l.size<|λbf hx=>by omega);exact⟨rfl,al _ C,Z.aT C⟩
  |false=>
   rw[hfk]at bh;have P:x<y cs:=by omega
   rw[h.BA o P bt];have bi:dQ cs[x]:=h.mq.sub<|cL<|ap P;have bs:=h.small _<|ap P;obtain⟨bg,bl,HL⟩:=dB (λbc(O:Below (z<|G a) a bc)=>KG (h.same<|(Z.aT (S:=az) O).same w cG cG) (al bc O) (aD w O.size) hF x Q P) bi j;clear h hm o hD hF T t n u j hfk bi;generalize ks[x].first=fk at*;generalize cs[x]=bm at*;have g:=(λv(w2 k:Y)(a:w2.ownsRow (z<|G k) 164 4 v (y bm) (aE bm))=>An m bt (dF a) bl (by omega)<|λc b=>(a.lt c b).2);generalize iA bt bm m=fe at*;cases fe with
   |none=>
    simp only[tg,wP]at g;have au:=U g;clear g;go_in
    go_wp2_with(first
     |(go_at_call 326;refine V.mono ?_;rintro bd k⟨rfl,c,b⟩;have n:=K k c;have u:=ac k c;have bb:=bg k c;have p:=U b;have l:=U c;clear b c)
     |(go_at_call 327;refine bb.mono ?_;rintro bd w2⟨v2,rfl,f,B,s⟩;have ba:=au v2 w2 k f;have an:=U<|p.ar s<|L _ w;have ad:=U B;have av:=U s;clear f B s)
     |(go_at_call 316;refine ba.mono ?_;rintro bd w3⟨rfl,q⟩;have d:=an.ar (Z.aT (S:=az) q) (λbm=>bm);obtain⟨z0,z1,z2,z3⟩:=d.cells;have y0:=d.free (i:=0);have y1:=d.free (i:=1);have y2:=d.free (i:=2);have y3:=d.free (i:=3);have ao:=U d;have A:=U q;clear d q))
    refine cI (fV rfl _ _ (z<|G a) zE _ _ rfl<|ao.put zE) rfl ?_;have F:Z r.F a w3:=((Z.aT (S:=r.F) l).trans av<|λx o=>.inl o).trans (Z.aT (S:=r.F) A)<|λx o=>.inl o;have D:=jb w3 (z<|G a) zE;have ax:=r.fm ad (Z.aT (S:=az) A) cG;refine⟨rfl,r.fm ax D (λbf hx=>by subst hx;exact L _ w),F.trans D<|λbf hx=>.inr<|by omega⟩
   |some bf=>
    obtain⟨xk,xv,xd,xb⟩:=bf;simp only[tg,E.value]at g;have au:=U g;clear g;go_in
    go_wp2_with(first
     |(go_at_call 326;refine V.mono ?_;rintro bd k⟨rfl,c,b⟩;have n:=K k c;have u:=ac k c;have bb:=bg k c;have p:=U b;have l:=U c;clear b c)
     |(go_at_call 327;refine bb.mono ?_;rintro bd w2⟨v2,rfl,f,B,s⟩;have ba:=au v2 w2 k f;have an:=U<|p.ar s<|L _ w;have ad:=U B;have av:=U s;clear f B s)
     |(go_at_call 316;refine ba.mono ?_;rintro bd w3⟨rfl,q⟩;have d:=an.ar (Z.aT (S:=az) q) (λbm=>bm);obtain⟨z0,z1,z2,z3⟩:=d.cells;have y0:=d.free (i:=0);have y1:=d.free (i:=1);have y2:=d.free (i:=2);have y3:=d.free (i:=3);have ao:=U d;have A:=U q;clear d q))
    refine cI (fV rfl _ _ (z<|G a) ⟨xk,xv,xd,xb⟩ _ _ rfl<|ao.put ⟨xk,xv,xd,xb⟩) rfl ?_;have F:Z r.F a w3:=((Z.aT (S:=r.F) l).trans av<|λx o=>.inl o).trans (Z.aT (S:=r.F) A)<|λx o=>.inl o;have D:=jb w3 (z<|G a) ⟨xk,xv,xd,xb⟩;have ax:=r.fm ad (Z.aT (S:=az) A) cG;refine⟨rfl,r.fm ax D (λbf hx=>by subst hx;exact L _ w),F.trans D<|λbf hx=>.inr<|by omega⟩
 (have d:x=y ks:=by have:=o.le;omega);have e:=h.yx o (λa=>absurd a Q) bt;rw[e];(have e1:((x:X)==(y ks:X))=bU:=by simp;omega);subst d;have HL:=U j;clear h hm o hD hF T t n j e Q;(go_in);(go_wp2_with(go_at_call 326;refine V.mono ?_;rintro bd k⟨rfl,c,b⟩;have n:=K k c;obtain⟨z0,z1,z2,z3⟩:=b.cells;have y0:=b.free (i:=0);have y1:=b.free (i:=1);have y2:=b.free (i:=2);have y3:=b.free (i:=3);have p:=U b;have l:=U c;clear b c));refine cI (fV rfl _ _ (z<|G a) zE _ _ rfl<|p.put zE) rfl ?_;have C:Below (z<|G a) a (wK k (z<|G a) zE):=l.trans ((jb k (z<|G a) zE).below l.size<|λbf hx=>by omega);exact⟨rfl,al _ C,Z.aT C⟩
def AB:jm:=⟨λ_=>True,λ_=>False,λ_ _ _=>trivial,λ_ h=>h.elim⟩
section
open Go.Shelf
attribute [local go_sem] Oper.semAt_some
def zf(v:aa)(n c:M):aa:=match v with
 | .slice (H ⟨d,a,none⟩) _ b=>.slice (H ⟨d,a+n*4,none⟩) c<|b-n
 |v=>v
def FX(v:aa)(p:M×cA):Array aa:=#[zf v p.1<|y p.2]
def AC{o p g s:cA}(r:ku a d o)(h:o=p++g++s)(k:g≠[]):ku a (zf d (y p)<|y g) g:=by
 have l:0<y g:=gG.2 k;obtain⟨u,⟨rfl,t⟩|⟨q,b,c,rfl,n,i⟩⟩:=r;have:=bS y h;simp at this;omega;have m:=bS y h;simp at m;refine⟨by rw[fM],.inr ⟨q,b+y p*4,c-y p,rfl,by omega,λj v f=>?_⟩⟩;have e:j<y g*4:=by rw[<-fM];exact(fq.1 f).1
 have:=i (y p*4+j) v (by rw[h,fN,fN,aU,dD (by rw[fM];omega),fM,show y p*4+j-y p*4=j by omega,gd (by rw[fM];exact e)];exact f);rw[aV];exact this
def Ar(v:aa)(x:Option Addr)(n c:M)(a:v=I x n c)(w:Y):cw bF 80 #[v] w λe b=>e=aO (.func (.func 128) #[] #[fh<|H ⟨z<|G w,0,none⟩])/\b=ct w (aq #[v] 102):=by
 subst a;go_in
 go_wp2;go_ret;exact⟨rfl,rfl⟩
def RG(r:b<=c)(B:c<y e)(u:∀o(C:o+1<y e),b<=o->o<c->e[o+1].key=e[o].key)(s:∀E:c+1<y e,e[c+1].key≠e[c].key):∃p,e.drop b=p++e.drop (c+1)/\p≠[]/\y p=c+1-b/\ig (e.drop b)=p::ig (e.drop<|c+1):=by
 have w:e.drop b=(e.drop b).take (c+1-b)++e.drop (c+1):=by(conv=>lhs;rw[<-bW (c+1-b) (e.drop b)]);rw[List.drop_drop,show b+(c+1-b)=c+1 by omega]
 have n:∀t(k:t<=c)(f:b<=t),(e[t]'(by omega)).key=(e[b]'(by omega)).key:=by
  intro t;induction t with
  |zero=>intro _ j;obtain rfl:b=0:=(by omega);rfl
  |succ t i=>
   intro k f;rcases lf f with h|h
   .exact(u t (by omega) (by omega)<|by omega).trans<|i (by omega)<|by omega
   .subst h;rfl
 have d:y ((e.drop b).take<|c+1-b)=c+1-b:=by simp;omega
 have g:(e.drop b).take (c+1-b)≠[]:=λh=>by rw[h]at d;simp at d;omega
 have a:∀x∈(e.drop b).take (c+1-b),x.key=(e[b]'(by omega)).key:=by intro x l;obtain⟨t,k,rfl⟩:=dO l;rw[d]at k;rw[gq,ng];exact n (b+t) (by omega)<|by omega
 refine⟨_,w,g,d,?_⟩;conv=>lhs;rw[w]
 rw[LD _ _ ?_,Uq g<|λx l m v=>(a x l).trans (a m v).symm];rfl;intro A q D i;have j:=a A<|List.mem_of_getLast? q;(have f:c+1<y e:=by rcases dE (c+1) (y e)with h|h;exact h;rw[pQ h]at i;cases i);rw[bD f]at i;cases i;rw[j,<-n c (ah _) r];exactλh=>s f h.symm
def vS(n0 ca:M)(hb:dV a b d 102)(hr:ku a d e)(u:∀w,bV d=H w->w<n0)(bn:n0<=z (G a))(bx:y e<=1000000000):Hz (FX d) AB n0 ca 128 #[fh<|H ⟨b,0,none⟩] (nC 0<|ig e) (λw=>w=b) a:=by
 intro lr bT Jx br bo hs hD hJ ac p an hY;obtain⟨cb,Q,hv⟩:=bL hr;obtain⟨HB,HR,ba,HS,HJ,bf,HY,bc,O⟩:=xH hb hr u hs hJ ac hY p<|λc br bo q(h:bT c br bo)=>an c br bo (bo.drewN q) (λ_=>False) h (Z.aT<|below_drewN (Below.refl _ bo) q) cG;have bt:aS bo ⟨b,0,none⟩=H d:=hs.cell (.inl rfl) hb.cell;clear hb hr u hs hJ ac p an hY hD;subst hv;refine qT func128 rfl trivial ?_ rfl;simp only[ntmps128,eT,ay,cK,Nat.reduceAdd,Nat.reduceSub,dS,dR,eU,ew,cC,cq];gi_wp2;gi_loopw [3,7] (λf d wr=>∃(m i:M)(c:cr (M×cA))(x:fI),f=am m/\d=am i/\m<=i/\i<=y e/\nC 0 (ig e)=c++nC m (ig<|e.drop m)/\(∀k(K:k<y e),m<=k->k<i->∃h:k+1<y e,e[k+1].key=e[k].key)/\bT c x wr/\(∀w,w=b->¬x w)/\jJ AB n0 (λw=>w=b) a wr) (λ_ d _=>y e-(intOf d).toNat)
 case atStart=>exact⟨0,0,[],br,rfl,rfl,ah _,bw _,rfl,λk _ _ h=>by omega,HJ,bf,HS⟩
 case round=>
  obtain⟨m,i,c,x,rfl,rfl,bi,bv,hl,t,C,n,f⟩:=hrel;have bu:aS wr ⟨b,0,none⟩=H (I cb (y e) Q):=f.cell (.inl rfl) HB.cell;obtain⟨HL,L,r,P⟩:=gx hl t C f;have l:=U n;by_cases p:i<y e
  .obtain⟨bp,g,A,hx,al,o⟩:∃bp g A,I cb (y e) Q=I (H ⟨bp,g,none⟩) (y e) A/\y e<=A/\∀k u,(aE e)[k]?=H u->aS wr ⟨bp,g+k,none⟩=H u:=by
    obtain⟨T,⟨B,E⟩|⟨au,v,s,B,al,D⟩⟩:=ae HR
    .omega
    .exact⟨au,v,s,B,al,λk u K=>f.cell (.inr ⟨ba au (by rw[B];rfl),id⟩)<|D k u K⟩
   cases hx;have e1:(i:X)<(y e:X):=by omega
   have e2:(0:X)<=(i:X):=by omega
   have g0:=o _ _ (eA e i p).1;clear hl t C f n;by_cases hn:∃h:i+1<y e,e[i+1].key=e[i].key
   .obtain⟨j,s⟩:=hn;have g1:=o _ _ (eA e (i+1) j).1;rw[s]at g1;have v:=U (show∀k(K:k<y e),m<=k->k<i+1->∃h:k+1<y e,e[k+1].key=e[k].key fromλk K T B=>by
     rcases lf (show k<=i by omega)with S|S
     .exact L k K T S
     .subst S;exact⟨j,s⟩)
    clear o s;generalize e[i].key=D at*;have e3:(i:X)+1<(y e:X):=by omega
    have e4:(0:X)<=(i:X)+1:=by omega
    gi_wp2;refine sj.2 ?_;go_quiet(fail)
    gi_wp2;go_roundw;case rel=>exact⟨m,i+1,c,x,rfl,by go_num,by omega,by omega,HL,v,O _ _ _ _ r,l,P.trans ⟨ah _,λ_ _=>rfl⟩⟩
    case measure=>simp[intOf];omega
   .obtain⟨au,bk,bl,D,E⟩:=RG bi p (λk K T B=>(L k (by omega) T B).2)<|λh Q=>hn ⟨h,Q⟩;have v:(c++[(m,au)])<+:nC 0 (ig e):=⟨nC (m+y au)<|ig<|e.drop<|i+1,by rw[ae HL,E,nC];simp⟩;have ad:nC 0 (ig e)=(c++[(m,au)])++nC (i+1) (ig<|e.drop<|i+1):=by rw[ae HL,E,nC,D,show m+(i+1-m)=i+1 by omega];simp
    have N:=U v;have bb:=U ad;have e6:(m:X)<=(i:X)+1:=by omega
    have e7:(i:X)+1<=(Q:X):=by omega
    have e8:¬(Q-m=0):=by omega
    have e9:(0:X)<=(m:X):=by omega
    have e4:(0:X)<=(i:X)+1:=by omega
    have bh:=U (λq=>show YieldAt Fence.wide (ca-1) bF lr #[I (H ⟨bp,g+m*4,none⟩) (i+1-m)<|Q-m] (wr.drewN q) _ from by
     have:=HY c (m,au) x (wr.drewN q) N (O _ _ _ q r) trivial;unfold FX zf at this;simp only[D]at this;exact this)
    clear bk bl D E v ad;rcases dE (i+1) (y e)with j|j;case' inl=>
     have g1:=o _ _ (eA e (i+1) j).1;have bs:=Il<|λQ=>hn ⟨j,Q⟩;have e3:(i:X)+1<(y e:X):=by omega
    case' inr=>
     have e3:((i:X)+1<(y e:X))=False:=by simp;omega
    all_goals
     clear o hn;gi_wp2;refine sj.2 ?_;go_quiet(fail)
     obtain⟨fn,bq,ao,body,hy,hR⟩:=bh nq;have bd:=U hR;clear hR;gi_wp2;refine⟨(λQ=>(by cases Q)),bd.mono ?_⟩;rintro cc W3(⟨rfl,_,B3,W,s,V⟩|⟨rfl,hx⟩)
     .have ax:=U W;have bg:=U s;have av:=U V;clear W s V;gi_wp2;go_roundw;case rel=>
       have s:=ae bg;have f:=ae P;have bm:b<z (G wr):=ag (aj HB) f.1;refine⟨i+1,i+1,c++[(m,au)],B3,by go_num,by go_num,ah _,by omega,bb,λk _ T B=>by omega,ax,λw F S=>?_,?_⟩
       .rcases av w S with S|S
        .exact l w F S
        .subst F;exact absurd (show z (G wr)<=_ from S)<|by omega
       .refine f.trans<|jJ.trans (b:=wr.drewN nq) ⟨ah _,λ_ _=>rfl⟩ ?_;exact s.same (aD bn f.1) (λw F=>⟨by subst F;exact bm,l w F⟩) (λw F a=>by have:=(bc _ _ _ r w F).1;omega)
      case measure=>simp[intOf];omega
     .have HX:=U hx;clear hx;gi_wp2;refine cI (iQ rfl _ _ _) rfl ?_;exact⟨⟨_,rfl⟩,.inr ⟨_,HX⟩⟩
  .have o:i=y e:=by omega
   have g:m=y e:=by
    rcases dE m (y e)with S|S
    .obtain⟨h,_⟩:=t (y e-1) (by omega) (by omega) (by omega);omega
    .omega
   have j:=U (show nC 0 (ig e)=c by rw[hl,g,gm];simp[ig,nC]);have e1:((i:X)<(y e:X))=False:=by simp;omega
   clear hl t C f n o g;gi_wp2;refine vy (iQ rfl _ _ _) rfl ?_;first|refine⟨⟨_,rfl⟩,.inl ⟨⟨x,?_⟩,trivial⟩⟩|refine⟨⟨_,rfl⟩,.inl ⟨x,?_,trivial⟩⟩
   rw[ae j];exact r
end
section
open Go.Shelf
attribute [local go_sem] Oper.semAt_some
def RQ(w:Array aa)(e:eK)(q:X->Bool)(B:Enters bF b)(u:Row a 1 d (y e) (e.map<|Value.int .u64))(D:∀E,bV d=H E->E<z (G a))(hn:y e<=1000000000)(C:∀F∈e,∀W,Below (z<|G a) a W->cw bF b (#[aI F]++w) W λx O=>x=aO (aL<|q F)/\Below (z<|G W) W O):cw bF 129 #[d,.func (.func b) #[] w] a λx w'=>(∃E:X,x=aO (am E)/\decide (0<=E)=e.any q)/\Below (z<|G a) a w':=by
 have eg:∀c a,(callFunc b c).run bF a=.ok (.enter b c) a:=B;obtain⟨al,an,t⟩:=bL u;obtain⟨L,N,K⟩:=dB u D C;clear B u D C;subst t;go_in
 go_wp2;go_loopw [8] (λi wr=>∃n:M,n<=y e/\i=am n/\Below (z<|G a) a wr/\(e.take n).any q=bE) (λi _=>y e-(intOf i).toNat)
 case atStart=>exact⟨0,bw _,rfl,Below.refl _ _,rfl⟩
 case round=>
  obtain⟨n,ad,rfl,f,k⟩:=hrel;have o:=U f;by_cases j:n<y e
  .obtain⟨P,g,hx,V⟩:∃P g,al=H (R P g)/\aS wr (R P<|g+n)=H (aI e[n]):=by
    obtain⟨h1,⟨A,h0⟩|⟨S,l,v,A,ac,T⟩⟩:=ae L
    .omega
    .cases A;exact⟨S,l,rfl,(f.cell (p:=(R S<|l+n))<|N S rfl).trans<|T n _<|by simp[j]⟩
   subst hx;have c:=K e[n] (ap j) wr f;have Q:(n:X)<(y e:X):=by omega
   have e2:(0:X)<=(n:X):=by omega
   have p:(e.take<|n+1).any q=q e[n]:=by rw[ai j,List.any_append,k];simp
   have s:=U p;have r:=U<|ap j;clear f k p;generalize e[n]=F at*;cases hp:q F with
   |true=>
    rw[hp]at c;have l:=U<|show e.any q=bU from iZ.2 ⟨F,r,hp⟩;clear hp;go_wp2_with(go_at_fn b;refine c.mono ?_;rintro x w1⟨rfl,i⟩;have m:=U i;clear i)
    go_ret;exact⟨⟨n,rfl,by rw[ae l];simp⟩,o.trans<|m.mono o.size⟩
   |false=>
    rw[hp]at c;have l:=U<|s.trans hp;clear hp;go_wp2_with(go_at_fn b;refine c.mono ?_;rintro x w1⟨rfl,i⟩;have m:=U i;clear i)
    go_roundw;case rel=>exact⟨n+1,j,by go_num,o.trans<|m.mono o.size,l⟩
    case measure=>simp[intOf];omega
  .have c:n=y e:=by omega
   have g:=U (show e.any q=bE by rw[<-k,c,bN]);have Q:((n:X)<(y e:X))=False:=by simp;omega
   clear f k c;go_wp2;go_ret;exact⟨⟨-1,rfl,by rw[ae g];simp⟩,o⟩
def Jp(e:Array aa)(c:eK)(t:X->Bool)(j:Enters bF b)(g:Row a 1 d (y c) (c.map<|Value.int .u64))(m:∀s,bV d=H s->s<z (G a))(r:y c<=1000000000)(k:∀v∈c,∀W,Below (z<|G a) a W->cw bF b (#[aI v]++e) W λn q=>n=aO (aL<|t v)/\Below (z<|G W) W q):cw bF 82 #[d,.func (.func b) #[] e] a λn u=>n=aO (aL<|c.any t)/\Below (z<|G a) a u:=by
 have h:=RQ e c t j g m r k;obtain⟨A,x,f⟩:=bL g;clear j g m k;subst f;go_in
 go_wp2_with(go_at_call 129;refine h.mono ?_;rintro n w⟨⟨s,rfl,l⟩,i⟩;have p:=U l;have o:=U i;clear l i)
 go_ret;rw[<-ae p];exact⟨rfl,o⟩
def KY(i:M)(r:X)(O:i<y e)(N:0<i)(P:y e<=1000000000)(n:ij a b e[i])(o:dV a c d 102)(w:ku a d e)(l:dV a g (am i) 3):cw bF 81 #[aI r,aw b,aw c,aw g] a λD A=>D=aO (aL<|decide (e[i].bH<=r)&&decide (r<(e[i-1]'(by omega)).bH))/\A=a:=by
 obtain⟨_,_,_,Q⟩:=n.cells;have c1:=o.cell;have c2:=l.cell;obtain⟨p,x⟩:∃p,i=p+1:=⟨i-1,by omega⟩;subst x;obtain⟨v,⟨rfl,u⟩|⟨C,f,s,rfl,j,m⟩⟩:=w;omega;have k:p<y e:=by omega
 have L:aS a (R C<|f+p*4+3)=H (aI e[p].bH):=by rw[aV];exact m _ _ (eA e p k).2.2.2
 have E:(0:X)<=(p:X):=by omega
 have F:(p:X)<(y e:X):=by omega
 have K:IntKind.i64.wrap (p:X)=(p:X):=by rw[bO];omega
 have t:wrap64 (p:X)=(p:X):=by unfold wrap64;omega
 simp only[sE];generalize e[p].bH=S at*;generalize e[p+1].bH=B at*;clear n o l m v j;by_cases q:B<=r;(.simp only[q,mu,yL];(go_in);go_wp2;go_ret;exact⟨rfl,rfl⟩);simp only[q,zH,pT];(go_in);go_wp2;go_ret;exact⟨rfl,rfl⟩
structure rH(W0:Y)(S:fI)(bl:M)(lst:cA)(B:fI)(W:Y):Prop where
 row:∃v,dV W bl v 102/\W.ownsRow (z<|G W0) 164 4 v (y lst) (aE lst)/\∀k,B k↔k=bl\/bV v=H k
 ar:Z (λk=>k=bl\/S k) W0 W
def rH.lt{S B:fI}(l:rH a S b e B C){n0:M}(j:n0<=b)(m:n0<=z (G a)):∀k,B k->n0<=k/\k<z (G C):=by
 intro k i;obtain⟨v,d,g,h⟩:=l.row;rcases(h k).1 i with c|c;subst c;exact⟨j,aj d⟩;have:=g.lt k c;exact⟨by omega,this.2⟩
def rH.stays{B T:fI}(m:rH a W b e B f)(h:Z T f C)(d:∀k,T k->¬B k/\(W k\/z (G a)<=k)):rH a W b e B C:=by
 obtain⟨v,i,l,c⟩:=m.row;exact⟨⟨v,(h.block _ (aj i)<|λj=>(d _ j).1<|(c _).2<|.inl rfl).trans i,h.own l<|λk g j=>(d k j).1<|(c k).2<|.inr g,c⟩,m.ar.trans h<|λk g=>(d k g).2.imp_left .inr⟩
def rH.more{e:Y}{B:fI}{c xs:cA}(K:rH a W b c B f)(q:b<z (G a))(F:dV f b d 102)(D:Z az f C)(A:eR C e d s)(l:e.ownsRow (z<|G a) 164 4 s (y c+y xs) (aE c++aE xs)):∃u,rH a W b (c++xs) u (bZ e (R b 0) s)/\Z B f (bZ e (R b 0) s)/\(∀k,u k->B k\/z (G f)<=k):=by
 obtain⟨n,o,v,j⟩:=K.row;obtain rfl:n=d:=by have E:=o.symm.trans F;simpa using E
 have w:Z (λk=>bV n=H k) f e:=(D.mono cG).trans (Z.dM (S:=λk=>bV n=H k) A.grown<|λk g=>.inl g)<|λk g=>.inl g;have r:∀k,k<z (G a)->¬bV n=H k:=λk g h=>by have:=(v.lt k h).1;omega
 have t:dV e b n 102:=(w.block _ (aj o)<|r _ q).trans o;have m:Z B f (bZ e (R b 0) s):=(w.mono (T:=B)<|λk g=>.inl<|(j k).2<|.inr g).setCell _ _ _<|.inl<|(j _).2<|.inl rfl;refine⟨λk=>k=b\/bV s=H k,⟨⟨s,t.set _,?_,λk=>qU⟩,?_⟩,m,?_⟩;rw[af,fN];exact l.kept (cW e _ _ _) (by right;intro h;have:=(l.lt _ h).1;omega);refine K.ar.trans m<|λk g=>?_;rcases(j k).1 g with h|h;exact .inl<|.inl h;exact .inr (v.lt k h).1;rintro k(h|h);exact .inl<|(j k).2<|.inl h;rcases A.uc with E|⟨N,E,L⟩;exact .inl<|(j k).2<|.inr<|E.symm.trans h;rw[E]at h;cases h;have:=D.size;exact .inr<|by omega
end
section
open Go.Shelf
attribute [local go_sem] Oper.semAt_some
def eS{b base' k c n:M}(r:a.ownsRow b k c d n x)(j:base'<=b):a.ownsRow base' k c d n x:=by
 obtain⟨i,g⟩:=r;refine⟨i,?_⟩;rcases g with g|⟨q,e,h,l,m,o,p⟩;exact .inl g;exact .inr ⟨q,e,h,l,aD j m,o,p⟩
def KZ(a:eK)(l:cA):y (eG a l)<=y l:=(mf a l).length_le
def ku.ar{S:fI}{w w':Y}(h:ku w d e)(a:Z S w w')(b:∀k,bV d=H k->¬S k/\k<z (G w)):ku w' d e:=a.row h b
def ku.some(h:ku a d e)(l:0<y e):∃g b c,d=bC g b (y e) c/\y e<=c:=by
 obtain⟨j,⟨rfl,i⟩|⟨g,b,c,rfl,f,k⟩⟩:=h;omega;exact⟨g,b,c,rfl,f⟩
def zq(c:eK)(h:ku a d e)(hs:dQ e)(hl:y e<=1000000)(hm:Row a 1 s (y c) (c.map<|Value.int .u64))(gb:y c<=1000)(hv:∀k,bV d=H k->k<z (G a))(cu:∀k,bV s=H k->k<z (G a)):cw bF 50 #[d,s] a λch w'=>∃v',ch=aO v'/\w'.ownsRow (z<|G a) 164 4 v' (y<|eG c e) (aE<|eG c e)/\Z az a w':=by
 obtain⟨i0,cp,cT,db,dc⟩:=cz nQ;obtain⟨eu,F,cM⟩:=bL h;obtain⟨mx,mc,cv⟩:=bL hm;have ef:=Ar d eu (y e) F cM;obtain⟨HH,HM,HV,ad⟩:=gx h hm hv cu;clear h hm hv cu;subst cv;subst cM;refine(cZ (n:=3)).1 ?_;refine callsIn_of_wp_marks func50 rfl trivial ?_ rfl;simp only[ntmps50,eT,ay,cK,Nat.reduceAdd,Nat.reduceSub,dS,dR,eU,ew,cC,cq];gi_wp2_with(refine⟨trivial,?_⟩;gi_at_call 80;refine(cZ.2<|ef _).mono ?_;rintro ch w1⟨rfl,rfl⟩)
 obtain⟨p,L⟩:∃p,(ct (ct (ct a<|aq #[I mx (y c) mc] 122)<|aq #[aK] 102)<|aq #[I eu (y e) F] 102)=p:=⟨_,rfl⟩;have gc:z (G p)=z (G a)+3:=by rw[<-L];simp
 have bu:Z az a p:=by rw[<-L];exact(((Z.refl az a).alloc _).alloc _).alloc _
 have eb:dV p (z<|G a) (I mx (y c) mc) 122:=by rw[<-L];exact dV.alloc (dV.alloc (aC _ rfl) _) _
 have ed:dV p (z (G a)+1) aK 102:=by rw[<-L];exact dV.alloc (aC _<|by simp) _
 have ee:dV p (z (G a)+2) (I eu (y e) F) 102:=by rw[<-L];exact aC _<|by simp
 have bm:ku p (I eu (y e) F) e:=HH.ar bu<|λk b=>⟨id,HV k b⟩;have hA0:rH p (λk=>k=z (G a)+2) (z (G a)+1) (eG c<|ii []) (λk=>k=z (G a)+1) p:=⟨⟨_,ed,bJ _ _ _ _,λk=>by simp[bV]⟩,Z.refl _ _⟩;rw[L];refine nA (m:=3) (arg:=FX<|I eu (y e) F) (V:=AB) (n0:=z<|G a) (gf:=128) (lb:=#[aw<|z (G a)+2]) (l:=nC 0<|ig e) (S:=λk=>k=z (G a)+2) ?geval (enters_of func128 (by kernel_rfl) rfl) (λ_=>rfl) (vS (z<|G a) 2 ee bm HV (by omega)<|by omega) trivial (by omega) (λk b=>by omega) (λf bT bl=>rH p (λk=>k=z (G a)+2) (z (G a)+1) (eG c<|ii f) bT bl) (λ_ _ _ _=>False) (λk=>k=z (G a)+1) hA0 (λk b F=>by omega) ?lt ?st (λ_ _ _ _ _ _ h=>h.elim) ?body ?done ?stop;case geval=>rfl
 case lt=>exactλf bT bl P=>P.lt (by omega)<|by omega
 (case st=>intro f bT bl i T P ht g;refine P.stays ht<|λk b=>⟨(g k b).1,?_⟩;rcases(g k b).2 with F|F|F;exact .inl F;exact F.elim;exact .inr F);(case stop=>intro ev F f bT bl _ h;exact h.elim)
 case body=>
  rintro lr f⟨dk,r⟩bT bl ei cj es W P _;obtain⟨hn,gj,b⟩:=IW hs W;have fs:0<y r:=gG.2 b.ne;have fL:dk+y r+y gj=y e:=by rw[b.all,hn];simp;omega
  obtain⟨dm,E,ff,hx,fz⟩:=bm.some (by omega);cases hx;have an:=AC bm b.all b.ne;rw[<-hn]at an;unfold FX;unfold zf at an|-;simp only at an|-;have ck:∀k,bT k->k<z (G bl):=λk b=>(P.lt (n0:=z<|G a) (by omega) (by omega) k b).2;obtain⟨HA,HK,HP,HN⟩:=gx P b W hn;clear P W b hn;gi_wp2;refine⟨(Z.refl _ _).alloc _,λW2 cB=>?_⟩;have bt:Z (λk=>k=lr) bl W2:=((Z.refl (λk=>k=lr) bl).alloc _).trans cB<|λk b=>.inl b;have hA2:=HA.stays bt (λk b=>by subst b;exact⟨cj,.inr ei⟩);have bp:dV W2 (z<|G bl) (bC dm (E+dk*4) (y r)<|F-dk) 102:=(cB.block _ (by simp)<|by omega).trans<|aC _ rfl;have eo:=bp.cell;have fk:=bt.size;have ea:z (G bl)<z (G W2):=aj bp;have fn:dm<z (G a):=HV dm rfl;gi_wp2;gi_loopw [15] (λb wr=>∃(n:M)(B1:fI),b=am n/\n<=y r/\rH p (λk=>k=z (G a)+2) (z (G a)+1) (eG c (ii f)++eG c (r.take n)) B1 wr/\Z bT W2 wr/\(∀k,B1 k->bT k\/z (G W2)<=k)) (λb _=>y r-(intOf b).toNat)
  case atStart=>exact⟨0,bT,rfl,bw _,by simpa[eG,kM]using hA2,Z.refl _ _,λk b=>.inl b⟩
  case round=>
   obtain⟨n,B1,rfl,fu,hA1,i,K⟩:=hrel;by_cases B:n<y r
   .have ao:ku wr (bC dm (E+dk*4) (y r)<|F-dk) r:=an.ar hA1.ar<|λk b=>(show dm=k by simpa[bV]using b)▸⟨λq=>by rcases q with q|q<;>omega,by omega⟩;have bo:dV wr (z<|G a) (I mx (y c) mc) 122:=(hA1.ar.block _ (by omega)<|by omega).trans eb;have cx:Row wr 1 (I mx (y c) mc) (y c) (c.map<|Value.int .u64):=hA1.ar.row (bu.row HM<|λk b=>⟨id,ad k b⟩) (λk b=>by have:=ad k b;exact⟨by omega,by omega⟩);have Q:dV wr (z<|G bl) (bC dm (E+dk*4) (y r)<|F-dk) 102:=(i.block _ ea (λq=>by have:=ck _ q;omega)).trans bp;obtain⟨lv,o,t,av⟩:=hA1.row;obtain⟨ex,ec,br⟩:=aB t;have bq:=o.cell;have cs:=o.free;have ba:=bo.cell;have bb:=Q.cell;obtain⟨dx,⟨cl,dT⟩|⟨b',et,em,cl,dT,l⟩⟩:=id ao
    .omega
    cases cl;have T:=eA r n B;have g0:=l _ _ T.1;have g1:=l _ _ T.2.1;have g2:=l _ _ T.2.2.1;have g3:=l _ _ T.2.2.2;simp only[<-aV]at g1 g2 g3;have e1:(n:X)<(y r:X):=by omega
    have e2:(0:X)<=(n:X):=by omega
    have fl:=aj bo;have eg:=aj o;have cE:=aj Q;have co:dm<z (G wr):=da _ _ g0;have eq:y (eG c (ii f)++eG c (r.take n))+1<=2000000:=by
     have q1:=KZ c<|ii f;have q2:=KZ c<|r.take n;have q3:y (ii f)=dk:=HN.symm;have w:=rQ n r;rw[af];omega
    have bs:=Rl (ms:=c) HK.same B;have O:=U (show∀(v u:Y)v5,Z az wr v->eR v u lv v5->u.ownsRow (z<|G p) 164 4 v5 (y (eG c (ii f)++eG c (r.take n))+1) (aE (eG c (ii f)++eG c (r.take n))++aE [r[n]])->wanted c r n B=bU->∃B1,rH p (λk=>k=z (G a)+2) (z (G a)+1) (eG c (ii f)++eG c (r.take<|n+1)) B1 (bZ u (R (z (G a)+1) 0) v5)/\Z bT W2 (bZ u (R (z (G a)+1) 0) v5)/\(∀k,B1 k->bT k\/z (G W2)<=k)fromλv u v5 ht A x m=>by
     obtain⟨w,q1,q2,q3⟩:=hA1.more (xs:=[r[n]]) (by omega) o ht A x;rw[bs,dw m,<-aU];refine⟨w,q1,i.trans q2 K,λk b=>?_⟩;rcases q3 k b with F|F
     .exact K k F
     .exact .inr (aD i.size F))
    have bg:=U (show∀(v:Y),Z az wr v->wanted c r n B=bE->rH p (λk=>k=z (G a)+2) (z (G a)+1) (eG c (ii f)++eG c (r.take<|n+1)) B1 v/\Z bT W2 v fromλv ht m=>by
     rw[bs,cY (by simp[m]),dI];exact⟨hA1.stays ht cG,i.ci ht⟩)
    obtain⟨ca,cd,bc,fd,dv,bd,N,ey,fb⟩:=xH hA1 i K ao cx o t Q l;clear hA1 i K cx o t av bo l T dx bs;generalize en:eG c (ii f)++eG c (r.take n)=g at*;subst br;have dn:=U (show 0<n->∀a d:Y,Z az wr a->Below (z<|G a) a d->dV a (z<|G wr) (am n) 3->ij a (z (G wr)+1) r[n]->∀dd,cw bF 81 (#[aI dd]++#[aw<|z (G wr)+1,aw<|z<|G bl,aw<|z<|G wr]) d λch A=>ch=aO (aL<|decide (r[n].bH<=dd)&&decide (dd<(r[n-1]'(by omega)).bH))/\Below (z<|G d) d A fromλh0 a d x w q1 q2 dd=>by
     apply(KY n dd B h0 (by omega) (q2.below w (aj q2)) ((w.block _ (ag cE x.size)).trans ((x.block _ cE id).trans Q)) ((ao.ar x (λk b=>⟨id,(show dm=k by simpa[bV]using b)▸co⟩)).below w (λk b=>(show dm=k by simpa[bV]using b)▸ag co x.size)) ((w.block _ (aj q1)).trans q1)).mono;rintro ch A⟨rfl,rfl⟩;exact⟨rfl,Below.refl _ _⟩)
    clear ao Q;have ce:=U<|show wanted c r n B=(decide (n=0)||c.any (λdd=>decide (r[n].bH<=dd)&&decide (dd<(r[n-1]'(by omega)).bH)))from rfl;generalize fr:r[n]=el at*;obtain⟨yk,yv,yd,yb⟩:=el;simp only at g0 g1 g2 g3;rcases fS n with h0|h0
    .subst h0;simp only[zI,jq]at g0 g1 g2 g3;have j:Z az wr (ct (ct wr<|aq #[am 0] 3)<|aq #[J yk,J yv,aL yd,aI yb] 164):=((Z.refl _ _).alloc _).alloc _;have w:=U<|j.own N<|λ_ _ F=>F;have ac:=U (show∀u:Y,(ct (ct (ct wr<|aq #[am 0] 3)<|aq #[J yk,J yv,aL yd,aI yb] 164)<|aq #[J yk,J yv,aL yd,aI yb] 164).grownBy u (bV<|I ex (y g) ec)->aS u (R (z (G a)+1) 0)=H (I ex (y g) ec)/\u.frozen? (R (z (G a)+1) 0)=bE fromλu hg=>by
      have A:dV u (z (G a)+1) (I ex (y g) ec) 102:=(hg.block _ (by have:=aj bd;simp;omega) (λch=>by have:=(N.lt _ ch.symm).1;omega)).trans (dV.alloc (dV.alloc (dV.alloc bd _) _) _);exact⟨A.cell,A.free⟩)
     have al:=U j;clear j;gi_wp2_with fail
     refine⟨trivial,?_⟩;gi_wp2_with(first
      |(gi_at_builtin;refine dY _ rfl (.tmp 28) (.tmp 30) 102 rfl (z (G p)) 164 i0 wP 4 48 underlying102 cp cT db dc rfl (by decide) (.slice ex (y g) ec) (y g) (aE g) rfl (aR w (.cells #[.string yk,.string yv,.bool yd,.int .u64 yb] 164)) (R (z (G wr)+1+1) 0) 1 1 (aE [⟨yk,yv,yd,yb⟩]) rfl (by rw[fM];rfl) (yz ⟨yk,yv,yd,yb⟩ _ (by simp)) (Bn _) (by omega) (by omega) (by simp;omega) ?_;intro v5 u C D;obtain⟨x5,c5,bv⟩:=aB C;subst bv;have x:=ac u D.grown;obtain⟨ej,ek⟩:=x;have bf:=U C;have bi:=U D;clear C D))
     refine⟨⟨1,?_⟩,by simp[intOf];omega⟩;obtain⟨B2,r1,r2,r3⟩:=O _ u _ ((al).alloc _) bi bf (by rw[ae ce];simp);exact⟨B2,rfl,by omega,r1,r2,r3⟩
    .have e0:((n:X)==0)=bE:=by simp;omega
     obtain⟨v,w⟩:∃v,ct (ct wr<|aq #[am n] 3) (aq #[J yk,J yv,aL yd,aI yb] 164)=v:=⟨_,rfl⟩;have j:Z az wr v:=by rw[<-w];exact((Z.refl _ _).alloc _).alloc _
     have A:=Jp #[aw<|z (G wr)+1,aw<|z<|G bl,aw<|z<|G wr] c _ (enters_of func81 (by kernel_rfl) rfl) (j.row dv<|λk b=>⟨id,by have:=ad k b;omega⟩) (λk b=>by have:=ad k b;have:=j.size;omega) (by omega)<|λdd _ d a=>dn h0 v d j a (by rw[<-w];exact dV.alloc (aC _ rfl) _) (by rw[<-w];exact aC _<|by simp) dd;have bx:=ae ce;rw[show decide (n=0)=bE by simp;omega,yM]at bx;rw[<-bx]at A;have cm:ij v (z (G wr)+1) ⟨yk,yv,yd,yb⟩:=by rw[<-w];exact aC _<|by simp
     have cn:dV v (z (G a)+1) (I ex (y g) ec) 102:=(j.block _ eg id).trans bd;have gg:=j.size;obtain⟨cb,ac,al,fe⟩:=gx cm cn j w;clear cm cn j bx;cases m:wanted c r n B with
     |true=>
      rw[m]at A;have bk:=U m;clear m;subst w;gi_wp2_with fail
      refine⟨trivial,(CallsIn.inRound lr<|cZ.2 A).mono ?_⟩;rintro ch w4⟨rfl,x⟩;have ax:=al.ci<|Z.aT (S:=az) x;have l:=cb.below x<|aj cb;have au:dV w4 (z (G a)+1) (I ex (y g) ec) 102:=(x.block _<|aj ac).trans ac;obtain⟨z0,z1,z2,z3⟩:=l.cells;simp only at z0 z1 z2 z3;have z4:=au.cell;obtain⟨cc,bh,ds⟩:=dB (ax.own N<|λ_ _ F=>F) ax au;have ge:=ax.size;have fv:=aj l;have fx:=aj au;clear ax l au x A bq cs ba bb g0 g1 g2 g3;generalize z (G wr)+1=gi at*;gi_wp2_with(first
       |(gi_at_builtin;refine dY _ rfl (.tmp 28) (.tmp 30) 102 rfl (z (G p)) 164 i0 wP 4 48 underlying102 cp cT db dc rfl (by decide) (.slice ex (y g) ec) (y g) (aE g) rfl (aR cc (.cells #[.string yk,.string yv,.bool yd,.int .u64 yb] 164)) (R (z (G w4)) 0) 1 1 (aE [⟨yk,yv,yd,yb⟩]) rfl (by rw[fM];rfl) (yz ⟨yk,yv,yd,yb⟩ _ rfl) (Bn _) (by omega) (by omega) (by simp;omega) ?_;intro v5 u C D;obtain⟨x5,c5,bv⟩:=aB C;subst bv;have bn:dV u (z (G a)+1) (.slice ex (y g) ec) 102:=(D.grown.block _ (by simp;omega) (λch=>by have:=(cc.lt _ ch.symm).1;omega)).trans (ds.alloc _);have ej:=bn.cell;have ek:=bn.free;have bf:=U C;have bi:=U D;clear C D bn))
      refine⟨⟨n+1,?_⟩,by simp[intOf];omega⟩;obtain⟨B2,r1,r2,r3⟩:=O _ u _ (bh.alloc _) bi bf bk;exact⟨B2,by go_num,by omega,r1,r2,r3⟩
     |false=>
      rw[m]at A;have bk:=U m;clear m;subst w;gi_wp2_with fail
      refine⟨trivial,(CallsIn.inRound lr<|cZ.2 A).mono ?_⟩;rintro ch w4⟨rfl,x⟩;have bh:=U<|al.ci<|Z.aT (S:=az) x;clear A x bq cs ba bb g0 g1 g2 g3;gi_wp2;refine⟨⟨n+1,?_⟩,by simp[intOf];omega⟩;obtain⟨r1,r2⟩:=bg _ bh bk;exact⟨B1,by go_num,by omega,r1,r2,bc⟩
   .have g:n=y r:=by omega
    have e1:((n:X)<(y r:X))=False:=by simp;omega
    obtain⟨ca,cd,bc⟩:=dB hA1 i K;clear hA1 i K;gi_wp2;have i:=ae cd;have hA1:=ae ca;refine⟨trivial,B1,?_,(bt.mono<|λk b=>.inl<|.inr b).trans i<|λk b=>.inl<|.inl b,i.block lr (by omega) cj,λk b=>(bc k b).imp_right<|λF=>by omega⟩;show rH p _ _ (eG c<|ii<|f++[(dk,r)]) B1 wr;rw[tj,(ae HK).Lb,show eG c r=eG c (r.take n)by rw[g,bN]];exact hA1
 (case done=>intro ev bT bl m P j _ l;obtain⟨lv,o,t,av⟩:=P.row;rw[Ay]at t;obtain⟨ex,ec,br⟩:=aB t;have bq:=o.cell;obtain⟨HA,N,i,HK⟩:=gx P t av l;have n:=aj l;clear P o t av l;subst br;gi_wp2;have g:=gE bl ev<|.deferred none;refine⟨by simp,.inl ⟨_,_,rfl,run_takeDeferred HK,?_⟩⟩;refine⟨_,gL rfl _ _ _,?_⟩;have hx:=g.own N<|λk b F=>j<|(i ev).2<|.inr (by rw[<-F];exact b);refine⟨_,rfl,eS hx (by omega),bu.trans (HA.ar.trans g<|λk b=>.inr (by subst b;omega))<|λk b=>.inr (by rcases b with F|F<;>omega)⟩)
end
def Sp(c:cA)(x:E):fE (c++[x])=fE c++BC x:=by simp[fE]
def xN(c d:cA):fE (c++d)=fE c++fE d:=by simp[fE]
def PE{c:cA}(h:∀x∈c,x.Good):y (fE c)<=35*y c:=by
 induction c with
 |nil=>simp[fE]
 |cons x r d=>
  have a:=tZ (h x<|by simp);have f:=d (λa b=>h a<|by simp[b]);have e:fE (x::r)=BC x++fE r:=by simp[fE]
  rw[e,af,ay];omega
def DV(h:ku a d e)(hv:∀ao,bV d=H ao->ao<z (G a))(hg:∀bg∈e,bg.Good)(hl:y e<=1000):cw bF 222 #[d] a λau w'=>∃v',au=aO v'/\eJ w' (z<|G a) v' (fE e)/\Z az a w':=by
 obtain⟨bg,ax,an⟩:=bL h;obtain⟨HH,HV,HG⟩:=dB h hv hg;clear h hv hg;subst an;go_in
 go_wp2;go_loopw [3,8] (λc b wr=>∃l:M,l<=y e/\b=am l/\eJ wr (z<|G a) c (fE<|e.take l)/\Z az a wr) (λ_ b _=>y e-(intOf b).toNat)
 case atStart=>exact⟨0,bw _,rfl,by simpa[fE]using eJ.nil _ _,Z.refl _ _⟩
 case round=>
  obtain⟨l,hi,rfl,u,x⟩:=hrel;obtain⟨N,L,t⟩:=aB u;by_cases m:l<y e
  .have i:=HG _<|ap m;obtain⟨V,⟨A,W⟩|⟨av,v,ba,A,W,B⟩⟩:=ae HH
   .omega
   cases A;have ac:av<z (G a):=HV av rfl;have f:∀j u,(aE e)[j]?=H u->aS wr (R av<|v+j)=H u:=λj u a=>x.cell (B j u a) id ac;have g:=eA e l m;have g0:=f _ _ g.1;have g1:=f _ _ g.2.1;have g2:=f _ _ g.2.2.1;have g3:=f _ _ g.2.2.2;simp only[<-aV]at g1 g2 g3;have bc:y (fE<|e.take l)<=35000:=by
    have:=PE (c:=e.take l)<|λw a=>HG w<|eC a;have:=rQ l e;omega
   have Q:=U (show fE (e.take<|l+1)=fE (e.take l)++BC e[l]by rw[ai m,Sp]);have bd:=x.size;have T:=U x;have j:bV (I N (y<|fE<|e.take l) L)≠H (z<|G wr):=λau=>by rw[<-t]at au;have:=(u.lt _ au).2;omega
   have e1:(l:X)<(y e:X):=by omega
   have e2:(0:X)<=(l:X):=by omega
   have K:=U u;clear B g f x u V;generalize fE (e.take l)=s at*;subst t;generalize e[l]=w at*;obtain⟨q,r,p,k⟩:=w;simp only at g0 g1 g2 g3;have k1:=i.LF;have k2:=i.val;have k3:=i.b0;have k4:=i.b1;simp only at k1 k2 k3 k4;clear i;have C:eJ (ct wr<|aq #[J q,J r,aL p,aI k] 164) (z<|G a) (I N (y s) L) s:=aR K _;have P:=U C;clear C;go_wp2_with fail
   go_region_held3(λe=>aS e (R (z<|G wr) 0)=H (J q)/\aS e (R (z<|G wr) 1)=H (J r)/\aS e (R (z<|G wr) 2)=H (aL p)/\aS e (R (z<|G wr) 3)=H (aI k)) (first|assumption|go_keep) (first
    |(go_at_call 184;refine(ph (baseqq:=z<|G a) (v:=(.slice N (y s) L)) (bs:=s) k (w:=(ct wr<|.cells #[.string q,.string r,.bool p,.int .u64 k] 164).drew) (P.of_heap rfl) (by simp;omega) (by omega) k3 k4).mono ?_;rintro au F⟨v1,rfl,D,b⟩;have n:bV v1≠H (z<|G wr):=b.ne j (by simp);have o:aS F (R (z<|G wr) 0)=H (.string q)/\aS F (R (z<|G wr) 1)=H (.string r)/\aS F (R (z<|G wr) 2)=H (.bool p)/\aS F (R (z<|G wr) 3)=H (.int .u64 k):=⟨b.cell (by simp) j,b.cell (by simp) j,b.cell (by simp) j,b.cell (by simp) j⟩;have bf:z (G wr)<z (G F):=(by have:=b.grown.size;simp at this;omega);have O1:=U D;have W1:=U b;clear D b)
    |(go_at_call 186;refine(Po (z (G a)) v1 (s++le 8 k) ⟨q,r,p,k⟩ _ ?_ (by omega) (by simp[bY];omega) (by simp only;omega) (by simp only;omega)).mono ?_;exact O1.of_heap rfl;rintro au O⟨v2,rfl,E,c⟩;have bb:aS O (R (z (G wr)) 0)=H (.string q)/\aS O (R (z (G wr)) 1)=H (.string r)/\aS O (R (z (G wr)) 2)=H (.bool p)/\aS O (R (z (G wr)) 3)=H (.int .u64 k):=⟨c.cell o.1 n,c.cell o.2.1 n,c.cell o.2.2.1 n,c.cell o.2.2.2 n⟩;have O2:=U E;have W2:=U (W1.trans c);clear E c))
   go_wp2;have hW:=ae W2;have ad:Z az a (ct wr<|aq #[J q,J r,aL p,aI k] 164):=T.alloc _;have al:Z az a (ct wr<|aq #[J q,J r,aL p,aI k] 164).drew:=ad.trans (S:=az) ⟨rfl,rfl,rfl,ah _,λ_ _ _=>rfl⟩<|λ_ ax=>.inl ax;refine⟨⟨l+1,m,by go_num,?_,al.trans (Z.dM (S:=λao=>bV (I N (y s) L)=H ao) hW.grown<|λao hk=>.inl hk)<|λao hk=>.inr (K.lt ao hk).1⟩,by simp[intOf];omega⟩;rw[ae Q];have:=ae O2;rwa[aU]at this
  .have b:l=y e:=by omega
   have e1:((l:X)<(y e:X))=False:=by simp;omega
   subst t;rw[b,bN]at u|-;have K:=U u;have T:=U x;clear u x;go_wp2;go_ret;exact⟨_,rfl,K,T⟩
def NX(a:0<=m)(b:m<4294967296):mi (le 4 m)=m:=by
 rw[Ao 4 m a];show m%4294967296=m;omega
def rX(b:M)(n:X)(a:eK)(w:Y)(k:Rd w b (le 4 n++a) bE)(c:kw a)(l:y a<=140737488350000)(g:0<=n)(h:n<4294967296):cw bF 211 #[aw b] w λj f=>j=aO (dr n)/\Rd f b a bE/\w.grownBy f (H b):=by
 have d:=mG (le 4 n) a;rw[bY]at d;have e:=JQ b bE w k ((kw.le 4 n).append c) (by simp only[af,bY];omega);have i:num (le 4 n++a) bE 4=n:=by unfold num;rw[d];exact NX g h
 rw[d,i]at e;exact e
def Am(b:M)(n:X)(a:eK)(w:Y)(k:Rd w b (le 8 n++a) bE)(c:kw a)(l:y a<=140737488350000)(g:0<=n)(h:n<18446744073709551616):cw bF 210 #[aw b] w λj f=>j=aO (aI n)/\Rd f b a bE/\w.grownBy f (H b):=by
 have d:=mG (le 8 n) a;rw[bY]at d;have e:=Ll k ((kw.le 8 n).append c) (by simp only[af,bY];omega);have i:num (le 8 n++a) bE 8=n:=by unfold num;rw[d];exact Cq g h
 rw[d,i]at e;exact e
def WF(a:M)(n:X)(w:Y)(k:Rd w a (n::o) bE)(b:kw o)(l:y o<=140737488350000)(g:0<=n)(h:n<256):cw bF 216 #[aw a] w λj f=>j=aO (tD n)/\Rd f a o bE/\w.grownBy f (H a):=by
 have c:=mG [n] o;simp only[ay,cK,cR,cq,cC]at c;have e:=Fe k (by intro x d;rcases aA.1 d with rfl|d;exact⟨g,h⟩;exact b x d) (by simp only[ay];omega);have i:num (n::o) bE 1=n:=by unfold num;rw[c];simp[mi]
 rw[c,i]at e;exact e
def Pa(b:M)(s:ab)(w:Y)(i:Rd w b (ep s++o) bE)(c:kw o)(j:y o<=140737488350000)(k:s.size<=255):cw bF 249 #[aw b] w λh e=>h=aO (J s)/\Rd e b o bE/\w.grownBy e (H b):=by
 have g:=(vG s o).1;have f:kw (ep s++o):=by intro x a;rcases ak.1 a with a|a;unfold ep at a;rcases aA.1 a with rfl|a;omega;exact kw.text s x a;exact c x a
 have d:=Dp i f (by simp only[af,ep,ay,gY];omega);rw[g]at d;simp only[vH]at d;exact d
def qV{P:Program}(w:Y)(l A B c:TypeId)(e n o b g:M)(p:Addr)(d j:M)(a:Array aa)(D:TypeId)(f:iV)(x:P.underlying l=H (.slice c))(m:(P.info? c).map (·.size)=H e)(r:w.heap[n]?=H (aq a D (0,0)))(u:y f=Nat.min d b*e)(i:∀C v,f[C]?=H v->aS w (p.add C)=H v)(h:o+y f<=a.size)(q:∀v∈f,v.oneCell'=bU):(Builtin.copy_ #[l,A] B #[bC n o b g,I (H p) d j]).run P w=.ok (goInt<|Nat.min d b) (w.setRow n (a.toList.take o++f++a.toList.drop (o+y f)).toArray):=by
 have t:=run_loadCells_list (P:=P) w p f i;have k:=run_storeCells_at P n o D f 0 a w r (by simpa using h) q;cases hq:P.info? c with
 |none=>simp[hq]at m
 |some E=>
  have s:E.size=e:=by simpa[hq]using m
  simp[Builtin.copy_,eB x,Builtin.lenOf,Builtin.firstCells,sizeOf,typeInfo,hq,s,<-u,t,k]
def BX(w:Y)(g:M)(a:Array aa):Z (λk=>k=g) w (w.setRow g a):=⟨rfl,rfl,rfl,by simp,λk _ b=>rW w g k a b⟩
def Uu{a d:iV}(j:x.take (b*4)=a)(k:y a=b*4)(l:c<=b)(i:y d=4)(e:(b+1)*4<=y x):(((x.take ((c+1)*4)++a.drop (c*4)++x.drop ((c+1)*4+y (a.drop<|c*4))).take (c*4)++d++(x.take ((c+1)*4)++a.drop (c*4)++x.drop ((c+1)*4+y (a.drop<|c*4))).drop (c*4+y d)).take<|(b+1)*4)=a.take (c*4)++d++a.drop (c*4):=by
 have f:y (x.take<|(c+1)*4)=c*4+4:=by rw[dK];omega
 have g:(x.take ((c+1)*4)++a.drop (c*4)++x.drop ((c+1)*4+y (a.drop<|c*4))).take (c*4)=a.take (c*4):=by rw[aU,iI (by omega),List.take_take,<-j,List.take_take];congr 1;omega
 have h:(x.take ((c+1)*4)++a.drop (c*4)++x.drop ((c+1)*4+y (a.drop<|c*4))).drop (c*4+y d)=a.drop (c*4)++x.drop ((c+1)*4+y (a.drop<|c*4)):=by rw[aU,i,<-f,sG]
 rw[g,h,<-aU,oF (by simp;omega)]
def TR(l:cA):∀u∈aE l,u.oneCell'=bU:=by
 intro u a;induction l with
 |nil=>cases a
 |cons x r b=>
  rw[show x::r=[x]++r from rfl,fN,ak]at a;rcases a with a|a
  .exact Bn x u a
  .exact b a
def ON(h:ku f d e)(S:y e<=1000000000)(g:∀s,bV d=H s->s<z (G f)):cw bF 180 #[d] f λQ w=>∃v,Q=aO v/\w.ownsRow (z<|G f) 164 4 v (y e) (aE e)/\Below (z<|G f) f w:=by
 obtain⟨P,L,p,q,r⟩:=cz nQ;obtain⟨t,⟨rfl,E⟩|⟨D,b,o,rfl,O,u⟩⟩:=h;(.obtain rfl:e=[]:=aP E;have K:∀f:Y,(binOp .eql 102 aK aK).run bF f=.ok (aL bU) f:=λ_=>rfl;(go_in);go_wp2;go_ret;exact⟨_,rfl,bJ _ _ _ _,Below.refl _ _⟩)
 .have F:D<z (G f):=g D rfl;have x:=U u;have A:=U t;have j:(ct f<|aq #[] 164).ownsRow (z<|G f) 164 4 (bC (z<|G f) 0 0 0) 0 []:=World.ownsRow_lit f #[] 0 (ah _) (by decide) rfl;have C:=U j;have K:∀(f:Y)a n c,(binOp .eql 102 (I (H a) n c) aK).run bF f=.ok (aL bE) f:=λ_ _ _ _=>rfl;clear g j u t;go_in
  go_wp2_with(first
   |(at_builtin;refine bQ _ rfl (.tmp 5) (.tmp 6) 102 rfl (z (G f)) 164 P wP 4 48 underlying102 L p q r rfl (by decide) _ 0 [] rfl C (R D b) (y e) o (aE e) rfl A (λT V N=>by rw[du,fp F];exact x T V N) (TR e) (by omega) (by omega) (by simp) ?_;intro W w2 i k;have l:=U i;have m:=U k;clear i k))
  go_ret;refine⟨_,rfl,by simpa using ae l,?_⟩;have:=m.below (B:=z<|G f) (by simp) (by rintro s⟨⟩;exact ah _);exact⟨this.os,this.tape,this.output,aD (by simp) this.size,λs b=>(this.block s b).trans<|Below.heap_alloc f _ s b⟩
def Bf{P:Program}{t d e f:TypeId}(c:P.underlying t=H (.slice f))(b:P.underlying d=H (.slice f))(x a:aa)(w:Y):(Builtin.append_ #[t,d] e #[x,a]).run P w=(Builtin.append_ #[t,t] e #[x,a]).run P w:=by
 cases x<;>try(simp[Builtin.append_,eB c];done)
 cases hq:P.info? f<;>simp[Builtin.append_,eB c,eB b,sizeOf,typeInfo,hq]
def nz{P:Program}(w:Y){k:Array Oper}{e:cr Oper}{C:Oper}{E:Act}{ad:Exit->Act->Y->Prop}(p:C.guard=none)(ao au:Operand)(ac D:TypeId)(W:C.op=.call {callee:=.builtin .append,args:=#[ao,au],argTypes:=#[ac,D]})(a:M)(u:TypeId)(A:TypeInfo)(i:aa)(b bytes:M)(x:P.underlying ac=H (.slice u))(r:P.underlying D=H (.slice u))(T:P.info? u=H A)(hz:A.zero=H i)(h:A.size=b)(o:A.bytes=bytes)(s:i.cells.size=b)(q:0<b)(K:aa)(B:M)(t:iV)(hs:E.eval ao=K)(j:w.ownsRow a u b K B t)(n:Addr)(v al:M)(c:iV)(hx:E.eval au=I (H n) v al)(V:y c=v*b)(g:∀an F,c[an]?=H F->aS w (n.add an)=H F)(L:∀F∈c,F.oneCell'=bU)(hn:B+v<=140737488355328)(d:(B+v)*bytes<=140737488355328)(f:a<=z (G w))(av:∀l m,m.ownsRow a u b l (B+v) (t++c)->eR w m K l->wpList P k ad e (E.put C.dst l) m):wpList P k ad (C::e) E w:=by
 obtain⟨l,m,hr,N,O,_,Q⟩:=mY (P:=P) w a ac C.type u A i b bytes x T hz h o s q K B t j n v al c V g L (by unfold maxLen;omega) d f;refine kN p λax S=>?_;unfold Oper.wp;simp[execOp,W,resolve,invoke,builtin,hs,hx,Bf x r,hr,Result.andThen];exact S _ _<|av l m N<|eR.of O Q
def Od(o:a.ownsRow b 164 4 d c x)(r:b<=z (G a))(D:ij a g w)(S:c<=1000000000):cw bF 182 #[d,am c,bC g 0 1 1] a λQ K=>∃A,Q=aO A/\K.ownsRow b 164 4 A (c+1) (x++aE [w])/\eR a K d A:=by
 obtain⟨v,t,l,m,n⟩:=cz nQ;have B:∀C P,(aE [w])[C]?=H P->aS a (((R g 0):Addr).add C)=H P:=by intro C P s;rw[du,bR D,cR];simpa[aE,E.cells]using s
 have p:=U B;have q:=U o;clear B D;rcases o.2 with⟨rfl,rfl⟩|⟨T,k,N,rfl,_,_,O,u,_⟩;(.clear o;(go_in);(go_wp2_with(at_builtin;refine nz _ rfl (.tmp 23) (.tmp 24) 102 101 rfl b 164 v wP 4 48 underlying102 underlying101 t l m n rfl (by decide) _ 0 x rfl q (R g 0) 1 1 (aE [w]) rfl rfl p (Bn w) (by omega) (by omega) r ?_;intro F L e f;have i:=U e;have j:=U f;clear e f));go_ret;exact⟨_,rfl,by simpa using ae i,j⟩);clear o;(have C:k<=9223372036854775807:=by unfold maxLen at u;omega);by_cases s:k=c;(.subst s;(go_in);(go_wp2_with(at_builtin;refine nz _ rfl (.tmp 23) (.tmp 24) 102 101 rfl b 164 v wP 4 48 underlying102 underlying101 t l m n rfl (by decide) _ k x rfl q (R g 0) 1 1 (aE [w]) rfl rfl p (Bn w) (by omega) (by omega) r ?_;intro F L e f;have i:=U e;have j:=U f;clear e f));go_ret;exact⟨_,rfl,i,j⟩);(go_in);(go_wp2_with(at_builtin;refine nz _ rfl (.tmp 23) (.tmp 24) 102 101 rfl b 164 v wP 4 48 underlying102 underlying101 t l m n rfl (by decide) _ c x rfl q (R g 0) 1 1 (aE [w]) rfl rfl p (Bn w) (by omega) (by omega) r ?_;intro F L e f;have i:=U e;have j:=U f;clear e f));go_ret;exact⟨_,rfl,i,j⟩
section
open Go.Shelf
attribute [local go_sem] Oper.semAt_some
def Vo(l:cA):y (jj l)<=y l:=(pA l).length_le
def UU(h:(aE<|e.take b)[c]?=H d):(aE e)[c]?=H d:=by
 have a:aE e=aE (e.take b)++aE (e.drop b):=by rw[<-fN,bW]
 rw[a,gd (fq.1 h).1];exact h
def Ye:aa->M
 | .slice _ n _=>n
 |_=>0
def Vp(h:ku a d e)(hs:dQ e)(hl:y e<=1000000)(hv:∀k,bV d=H k->k<z (G a)):cw bF 137 #[d] a λcn w'=>∃v',cn=aO v'/\w'.ownsRow (z<|G a) 164 4 v' (y<|jj e) (aE<|jj e)/\Z az a w':=by
 obtain⟨i0,br,ca,cb,cc⟩:=cz nQ;obtain⟨cl,t,av⟩:=bL h;have bs:=Ar d cl (y e) t av;have HH:=U h;have HV:=U hv;clear h hv;subst av;refine(cZ (n:=3)).1 ?_;refine callsIn_of_wp_marks func137 rfl trivial ?_ rfl;simp only[ntmps137,eT,ay,cK,Nat.reduceAdd,Nat.reduceSub,dS,dR,eU,ew,cC,cq];gi_wp2_with(refine⟨trivial,?_⟩;gi_at_call 80;refine(cZ.2<|bs _).mono ?_;rintro cn w1⟨rfl,rfl⟩)
 obtain⟨l,r⟩:∃l,(ct (ct a<|aq #[aK] 102)<|aq #[I cl (y e) t] 102)=l:=⟨_,rfl⟩;have dc:z (G l)=z (G a)+2:=by rw[<-r];simp
 have au:Z az a l:=by rw[<-r];exact((Z.refl az a).alloc _).alloc _
 have bo:dV l (z<|G a) aK 102:=by rw[<-r];exact dV.alloc (aC _ rfl) _
 have bp:dV l (z (G a)+1) (I cl (y e) t) 102:=by rw[<-r];exact aC _<|by simp
 have E:ku l (I cl (y e) t) e:=HH.ar au<|λk b=>⟨id,HV k b⟩;have hA0:rH l (λk=>k=z (G a)+1) (z<|G a) (jj<|ii []) (λk=>k=z (G a)) l:=⟨⟨_,bo,bJ _ _ _ _,λk=>by simp[bV]⟩,Z.refl _ _⟩;rw[r];refine nA (m:=3) (arg:=FX<|I cl (y e) t) (V:=AB) (n0:=z<|G a) (gf:=128) (lb:=#[aw<|z (G a)+1]) (l:=nC 0<|ig e) (S:=λk=>k=z (G a)+1) ?geval (enters_of func128 (by kernel_rfl) rfl) (λ_=>rfl) (vS (z<|G a) 2 bp E HV (by omega)<|by omega) trivial (by omega) (λk b=>by omega) (λg bd bb=>rH l (λk=>k=z (G a)+1) (z<|G a) (jj<|ii g) bd bb) (λ_ _ _ _=>False) (λk=>k=z (G a)) hA0 (λk b t=>by omega) ?lt ?st (λ_ _ _ _ _ _ h=>h.elim) ?body ?done ?stop;case geval=>rfl
 case lt=>exactλg bd bb n=>n.lt (by omega)<|by omega
 (case st=>intro g bd bb o T n f c;refine n.stays f<|λk b=>⟨(c k b).1,?_⟩;rcases(c k b).2 with t|t|t;exact .inl t;exact t.elim;exact .inr t);(case stop=>intro co t g bd bb _ h;exact h.elim)
 case body=>
  rintro lr g⟨ba,s⟩bd bb bx W cj A n _;obtain⟨hn,dd,b⟩:=IW hs A;have cx:0<y s:=gG.2 b.ne;have cM:ba+y s+y dd=y e:=by rw[b.all,hn];simp;omega
  obtain⟨bc,f,cp,hx,cB⟩:=E.some (by omega);cases hx;have o:=AC E b.all b.ne;rw[<-hn]at o;unfold FX;unfold zf at o|-;simp only at o|-;have ce:∀k,bd k->k<z (G bb):=λk b=>(n.lt (n0:=z<|G a) (by omega) (by omega) k b).2;have cv:y s<=t-ba:=by omega
  generalize t-ba=cm at*;obtain⟨HA,HK,HN⟩:=dB n b hn;clear n A b hn;gi_wp2;refine⟨Z.refl _ _,λW2 x=>?_⟩;have hA2:=HA.stays x (λk b=>by subst b;exact⟨W,.inr bx⟩);have cu:bc<z (G a):=HV bc rfl;have al:ku W2 (bC bc (f+ba*4) (y s) cm) s:=o.ar hA2.ar<|λk b=>(show bc=k by simpa[bV]using b)▸⟨λq=>by rcases q with q|q<;>omega,by omega⟩;obtain⟨bm,⟨ac,bn⟩|⟨b',ck,cd,ac,bn,ad⟩⟩:=id al
  .omega
  cases ac;obtain⟨lv,j,i,w⟩:=hA2.row;obtain⟨ex,ec,K⟩:=aB i;have bu:=j.cell;have cE:=j.free;have bt:=aj j;have cs:=x.size;obtain⟨C,bf,bi,Q,u⟩:=jR ad hA2 x j i;have ax:z (G l)<=z (G W2):=hA2.ar.size;have ch:y (jj<|ii g)+y s<=1000000:=by have:=Vo<|ii g;have:=ae HN;omega
  clear ad hA2 x j i w al o bm;generalize an:jj (ii g)=v at*;subst K;gi_wp2;gi_loop [4] (λa=>∃B:M,B<=y s/\a=bC bc (f+ba*4) B cm/\uO s=uO (s.take B)) (λa=>Ye a)
  case atStart=>exact⟨y s,ah _,rfl,by rw[bN]⟩
  case round=>
   obtain⟨B,hj,rfl,ao⟩:=hrel;have T:=U ao;clear ao;have c:(B=0\/∃h:B-1<y s,s[B-1].del=bE)\/∃p,∃_:p<y s,B=p+1/\s[p].del=bU:=by
    cases B with
    |zero=>exact .inl<|.inl rfl
    |succ p=>
     cases P:s[p].del with
     |true=>exact .inr ⟨p,by omega,rfl,P⟩
     |false=>exact .inl<|.inr ⟨by simp;omega,by simpa using P⟩
   rcases c with c|⟨p,hp,rfl,P⟩
   .have bk:=U<|Qb hj T c;have bq:(B=0\/∃p,B=p+1/\aS W2 (R bc<|f+ba*4+p*4+2)=H (aL bE)):=by
     rcases c with h|⟨h1,h2⟩
     .exact .inl h
     .cases B with
      |zero=>exact .inl rfl
      |succ p=>
       have O:=C _ _ (eA s p<|by omega).2.2.1;rw[<-aV]at O;simp only[sE]at h2;rw[h2]at O;exact .inr ⟨p,rfl,O⟩
    have bg:=U (show∀i u,(aE<|s.take B)[i]?=H u->aS W2 (((R bc<|f+ba*4):Addr).add i)=H u fromλi u a=>by rw[du];exact C _ _<|UU a);have D:=U (show y (s.take B)=B by simp;omega);clear c;have bv:=ae D;generalize s.take B=gj at*;rcases bq with rfl|⟨p,rfl,O⟩;case' inr=>
     have e2:(0:X)<=(p:X):=by omega
     have e3:(p:X)<(p:X)+1:=by omega
     have e4:(0:X)<(p:X)+1:=by omega
    all_goals
     clear bv;gi_wp2_with(first
      |(gi_at_builtin;refine dY _ rfl (.tmp 25) (.tmp 26) 102 rfl (z (G l)) 164 i0 wP 4 48 underlying102 br ca cb cc rfl (by decide) (.slice ex (y v) ec) (y v) (aE v) rfl u (R bc (f+ba*4)) _ cm (aE gj) rfl (by rw[fM,ae D]) bg (TR gj) (by omega) (by omega) ax ?_;intro v5 w5 L N;obtain⟨x5,c5,bT⟩:=aB L;subst bT;have F:dV w5 (z (G a)) (.slice ex (y v) ec) 102:=(N.grown.block _ bt (λcn=>by have:=(u.lt _ cn.symm).1;omega)).trans Q;have cT:=F.cell;have db:=F.free;have bh:=U L;have bl:=U N;clear L N F))
     obtain⟨B2,r1,r2,r3⟩:=bf.more (xs:=gj) (by omega) Q (Z.refl _ _) bl (by rw[ae D];exact bh);refine⟨trivial,B2,?_,(bi.mono<|λk b=>.inl<|.inr b).trans r2<|λk b=>.inl<|.inl b,r2.block lr (by omega) W,λk b=>(r3 k b).imp_right<|λt=>by omega⟩;show rH l _ _ (jj<|ii<|g++[(ba,s)]) B2 _;rw[tj,(ae HK).bare,ae bk,an];exact r1
   .have O:=C _ _ (eA s p hp).2.2.1;rw[P,<-aV]at O;have D:=U<|T.trans<|Qc hp P;clear P;have e2:(0:X)<=(p:X):=by omega
    have e3:(p:X)<(p:X)+1:=by omega
    have e4:(0:X)<(p:X)+1:=by omega
    have F:(p:X)<=(cm:X):=by omega
    gi_wp2;exact⟨⟨p,by omega,rfl,D⟩,by simp[Ye]⟩
 (case done=>intro co bd bb s n o _ p;obtain⟨lv,j,i,w⟩:=n.row;rw[Ay]at i;obtain⟨ex,ec,K⟩:=aB i;have bu:=j.cell;obtain⟨HA,u,f,HK⟩:=gx n i w p;have v:=aj p;clear n j i w p;subst K;gi_wp2;have c:=gE bb co<|.deferred none;refine⟨by simp,.inl ⟨_,_,rfl,run_takeDeferred HK,?_⟩⟩;refine⟨_,gL rfl _ _ _,?_⟩;have hx:=c.own u<|λk b t=>o<|(f co).2<|.inr (by rw[<-t];exact b);refine⟨_,rfl,eS hx (by omega),au.trans (HA.ar.trans c<|λk b=>.inr (by subst b;omega))<|λk b=>.inr (by rcases b with t|t<;>omega)⟩)
end
section
open Go.Shelf
def yO{P:Program}{b:Array Oper}{o:Oper}{e:Act}{K:Act->Y->Prop}{Q:Exit->Act->Y->Prop}{F:Prop}(k:o.guard=none)(p x:Operand)(g h:TypeId)(c:o.op=Op.call {callee:=Callee.builtin Builtin.copy,args:=#[p,x],argTypes:=#[g,h]})(v u:aa)(j:e.eval p=v)(n:e.eval x=u)(l:(Builtin.copy_ #[g,h] o.type #[v,u]).run P a=.ok d f)(i:K (e.put o.dst d) f):if Region.wanted o (yielded b e.tmps)=bU then Oper.wp P o e a K Q else F:=by
 have m:Region.wanted o (yielded b e.tmps)=bU:=by simp[Region.wanted,k]
 rw[dw m];unfold Oper.wp;simp[execOp,c,resolve,invoke,builtin,j,n,l,Result.andThen];exact i
def Qx(w:Y):(Go.sizeOf 164).run bF w=.ok 4 w:=by kernel_rfl
def qd{w:Y}{f:TypeId}(d:w.heap[c]?=H (aq V f (0,0)))(e:V.toList.take (b*4)=x)(j:M)(u:aa)(o:M)(a:(x.drop o)[j]?=H u):aS w (R c<|o+j)=H u:=by
 rw[bR d];rw[oH,<-e,mD]at a;split at a;simpa using a;cases a
def IZ(f k d n i:M)(l:Array aa)(m:iV)(O:f<=k)(Q:a.heap[k]?=H (aq l 164 (0,0)))(F:n+1<=d)(ac:d<=9223372036854775807)(N:l.size=d*4)(p:l.toList.take (n*4)=m)(r:ij a b w)(u:b≠k)(hi:i<n)(hn:n<=1000000000)(h1:∀al∈m,al.oneCell'=bU):cw bF 182 #[bC k 0 n d,am i,bC b 0 1 1] a λbh w'=>bh=aO (bC k 0 (n+1) d)/\w'.ownsRow f 164 4 (bC k 0 (n+1) d) (n+1) (m.take (i*4)++aE [w]++m.drop (i*4))/\Z (λao=>ao=k) a w':=by
 have A:y m=n*4:=by rw[<-p,dK,iF];omega
 have ad:∀lb q,(callFunc 227 #[bC b 0 1 1,bC k ((i+1)*4) lb q]).run bF a=.ok (.value<|aL bE) a:=λlb q=>by rw[eV func227 (by kernel_rfl) (by kernel_rfl) (by kernel_rfl) (e:=Extern.SlicesOverlaps.overlaps #[101,101] #[4]) (by kernel_rfl),Lib.run_overlaps_apart a 101 4 164 underlying101 4 Qx (R b 0) (R k<|(i+1)*4) 1 1 lb q u _ _ 4 (d*4) (by unfold ij at r;simp[World.shape?,r];rfl) (by simp[World.shape?,Q,N];rfl) (by omega) (by unfold ij at r;simp[World.frozen?,r]) (by unfold ij at r;simp[World.frozen?,r])];rfl
 have v:(prog.info? 164).map (·.size)=H 4:=by kernel_rfl
 have x:y (m.drop<|i*4)=(n-i)*4:=by rw[iy,A];omega
 obtain⟨c,j⟩:∃c,c=(l.toList.take ((i+1)*4)++m.drop (i*4)++l.toList.drop ((i+1)*4+y (m.drop<|i*4))):=⟨_,rfl⟩;have T:y c=d*4:=by rw[j];simp only[af,dK,iy,iF]at x|-;omega
 have K:∀B s q,(Builtin.copy_ #[102,102] B #[bC k ((i+1)*4) (n-i) s,bC k (i*4) (n+1-i) q]).run bF a.drew=.ok (goInt<|Nat.min (n+1-i)<|n-i) (a.drew.setRow k c.toArray):=λB s q=>by rw[j];refine qV a.drew _ _ B 164 4 k ((i+1)*4) _ s (R k<|i*4) _ q l _ (m.drop<|i*4) underlying102 v Q ?_ (λbi al V=>by rw[du];exact qd Q p bi al _ V) (by omega)<|λal hu=>h1 al<|dl hu;rw[x];simp only[wR];split<;>omega
 have t:(a.drew.setRow k c.toArray).heap[k]?=H (aq c.toArray 164 (0,0)):=tF _ _ _ _ _ _ Q;obtain⟨e,g⟩:∃e,e=(c.take (i*4)++aE [w]++c.drop (i*4+y (aE [w]))):=⟨_,rfl⟩;have o:y (aE [w])=4:=rfl;have P:ij (a.drew.setRow k c.toArray) b w:=(rW a.drew k b _ u).trans r;have L:∀(W:Y),W.heap=(a.drew.setRow k c.toArray).heap->∀B s,(Builtin.copy_ #[102,101] B #[bC k (i*4) (n+1-i) s,bC b 0 1 1]).run bF W=.ok (goInt<|Nat.min 1<|n+1-i) (W.setRow k e.toArray):=λW C B s=>by rw[g];refine qV W _ _ B 164 4 k (i*4) _ s (R b 0) _ 1 c.toArray _ (aE [w]) underlying102 v (by rw[C];exact t) ?_ (λbi al V=>?_) (by simp;omega)<|Bn w;rw[o];simp only[wR];split<;>omega;rw[du,bR (show ij W b w by unfold ij;rw[C];exact P),cR];simpa[aE,E.cells]using V
 have bg:¬((i:X)=(n:X)):=by omega
 have bd:IntKind.i64.wrap ((i:X)+1)=(i:X)+1:=by rw[bO];omega
 have bf:IntKind.i64.wrap ((n:X)+1)=(n:X)+1:=by rw[bO];omega
 have bc:((i:X)+1).toNat=i+1:=by omega
 have an:((n:X)+1).toNat=n+1:=by omega
 have ax:(0:X)<=(i:X)+1:=by omega
 have bb:i<=n:=by omega
 have ba:(i:X)<=(n:X)+1:=by omega
 have au:¬(d=i):=by omega
 have av:¬(d=i+1):=by omega
 have S:prog.follows .mixedOrders=bU:=by kernel_rfl
 have D:=U (show∀W:Y,W.heap=(a.drew.setRow k c.toArray).heap->W.os=a.os->W.tape=a.tape->W.output=a.output->(W.setRow k e.toArray).ownsRow f 164 4 (bC k 0 (n+1) d) (n+1) (m.take (i*4)++aE [w]++m.drop (i*4))/\Z (λao=>ao=k) a (W.setRow k e.toArray)from by
  intro W C e1 e2 e3;refine⟨⟨by simp[o];omega,.inr ⟨k,d,e.toArray,rfl,O,tF _ _ _ _ _ _ (by rw[C];exact t),F,ac,?_,?_⟩⟩,⟨e1,e2,e3,?_,?_⟩⟩
  .rw[g];simp[o];omega
  .rw[List.toList_toArray,g,j];exact Uu p A (by omega) rfl (by simp;omega)
  .rw[setRow_size,C,setRow_size];exact ah _
  .intro ao hk q;rw[rW _ _ _ _ q,C,rW _ _ _ _ q];rfl)
 clear T x j g o P t A h1 p N v r u O;go_in
 go_wp2_with(simp only[ad])
 go_region_law_o (refine yO rfl _ _ 102 102 rfl _ _ (by simp[Act.eval,Act.put]) (by simp[Act.eval,Act.put]) (K _ _ _) ?_)
 go_wp2_with(at_builtin;refine wpList_copy_run _ rfl _ _ 102 101 rfl _ _ rfl rfl (L _ rfl _ _) ?_)
 go_ret;exact⟨rfl,D _ rfl rfl rfl rfl⟩
end
section
open Go.Shelf
attribute [local go_sem] Oper.semAt_some
section
variable{F:Fence}{n:M}{P:Program}(w:Y){b:Array Oper}{rest:cr Oper}{o:Oper}{a:Act}{Q:Exit->Act->Y->Prop}
theorem CL(k:o.guard=none)(h:Operand)(t:TypeId)(c:o.op=Op.range t h)(A v:TypeId)(m:P.underlying t=H (.map A v))(i:M)(p:fH)(l:a.eval h=.map (H i))(x:jw w i p)(j:∀d,qp d i (z<|G w) p p->w.grownBy d none->z (G d)=z (G w)+1->wpListIn F n P b Q rest (a.put o.dst<|aw<|z<|G w) d):wpListIn F n P b Q (o::rest) a w:=by
 refine wQ k λu f=>?_;obtain⟨d,e,q,r,s⟩:=Nj m x;unfold Oper.wpIn;refine⟨?_,?_⟩;simp[Oper.about,c];rw[Oper.semAt_plain F _ _ (by rw[c];intro B g;cases g)];simp[execOp,c,l,e,Result.andThen];exact f _ _<|j d q r s
theorem Dl(v:o.guard=none)(l:Operand)(e:o.op=Op.next l bE)(A r:M)(B left:fH)(qM:a.eval l=aw r)(D:qp w A r B left)(h:left=[]->wpListIn F n P b Q rest (a.put o.dst<|dA #[aL bE]) w)(i:∀f p c g,left=f++p::c->qp g A r B (f++c)->w.grownBy g (H r)->z (G g)=z (G w)->(Instr.entry<|aw r).run P g=.ok (dA #[am p.1,p.2]) g->wpListIn F n P b Q rest (a.put o.dst<|dA #[aL bU,am p.1,p.2]) g):wpListIn F n P b Q (o::rest) a w:=by
 refine wQ v λC j=>?_;unfold Oper.wpIn;refine⟨?_,?_⟩;simp[Oper.about,e];rw[Oper.semAt_plain F _ _ (by rw[e];intro E k;cases k)];rcases QH (P:=P) D o.type with⟨m,d⟩|⟨f,p,c,g,x,d,q,s,t,u⟩;simp[execOp,e,qM,d,Result.andThen];exact j _ _<|h m;simp[execOp,e,qM,d,Result.andThen];exact j _ _<|i f p c g x q s t u
end
def WM(v:X):Array aa:=#[aI v]
def wZ(m:fH)(c:eK):Prop:=m.map (·.2)=c.map (Value.int .u64)
theorem If(n0 db s ao:M)(cl:fH)(V:eK)(w:Y)(hb:dV w s (.map<|H ao) 108)(hm:jw w ao cl)(bq:wZ cl V)(ce:ao<n0)(cj:n0<=z (G w)):Yq WM AB n0 db 132 #[aw s] (λcE=>∃dc,(cE++dc).Perm V) (λcE=>cE.Perm V) (λk=>k=s) w:=by
 intro lr cT Jx cM bs hs hD hJ bd bi bl hY;have cp:aS bs (R s 0)=H (.map<|H ao):=hs.cell (.inl rfl) hb.cell;have bk:jw bs ao cl:=hm.dh<|hs.2 ao<|.inl ⟨ce,id⟩;obtain⟨HB,HM,cd,HS,HJ,bx,HY,al,an⟩:=xH hb bk bq hs hJ bd hY bi bl;clear hb hm bq hs hJ bd bi bl hY hD bk;refine qT func132 rfl trivial ?_ rfl;simp only[ntmps132,eT,ay,cK,Nat.reduceAdd,Nat.reduceSub,dS,dR,eU,ew,cC,cq]
 gi_wp2_with(first
  |(refine CL _ rfl _ 108 rfl 3 103 underlying108 ao _ rfl HM ?_;intro w0 v bf cv;have ac:=U v;have p:=U bf;clear v bf))
 have O:=HS.1;have ch:s<z (G bs):=ag (aj HB) O;have S:Z az bs w0:=Z.dM p (by simp);have t:=al _ _ _ HJ;gi_loopg [] (y cl) (λk wr=>∃(e:eK)(left:fH)(vl:eK)(B:fI),y left=k/\wZ left vl/\(e++vl).Perm V/\qp wr ao (z<|G bs) cl left/\cT e B wr/\(∀k,k=s->¬B k)/\jJ AB n0 (λk=>k=s) w wr/\¬B (z<|G bs))
 (case atStart=>refine⟨[],cl,V,cM,rfl,cd,np _,ac,an _ _ _ _ _ HJ S cG,bx,HS.trans<|S.same (aD cj O) (λk c=>⟨by subst c;exact ch,id⟩) cG,λN=>by have:=(t _ N).2;omega⟩);(case round=>obtain⟨e,left,vl,B,bh,d,j,bg,bc,u,f,av⟩:=hrel;have cs:aS wr (R s 0)=H (.map<|H ao):=f.cell (.inl rfl) HB.cell;obtain⟨K,E,ad,D⟩:=gx d j bg bc;have r:=U u;obtain⟨bT,C,bu⟩:=dB f av bh;clear d j bg bc u f av bh ac p S t;(gi_wp2_with(first|(refine Dl _ rfl _ rfl ao (z<|G bs) _ _ rfl ad ?_ ?_)));(.intro g;subst g;(have i:vl=[]:=by have:=ae K;unfold wZ at this;simpa using this.symm);subst i;gi_wp2;refine vy (iQ rfl _ _ _) rfl ?_;exact⟨⟨_,rfl⟩,.inl ⟨e,B,by simpa using ae E,D,trivial⟩⟩);(.intro m pk pv l w1 hl x A bm cm;subst hl;have d:=ae K;unfold wZ at d;rw[aM,aX]at d;obtain⟨va,vd,rfl,bn,bp⟩:=ix.1 d.symm;obtain⟨co,vc,rfl,hv,bo⟩:=nn.1 bp;simp only at hv;subst hv;have T:Z (λk=>k=z (G bs)) wr w1:=Z.dM A (λk c=>by cases c;exact .inl rfl);obtain⟨cb,i,cc⟩:=dB T x (show wZ (m++l) (va++vc)from by unfold wZ;rw[aM,aM,bn,bo]);have q:=U<|show((e++[co])++(va++vc)).Perm V from List.Perm.trans (by rw[aU];exact lz _<|show(co::(va++vc)).Perm _ from kU.symm) E;have ba:=an _ _ _ _ _ D T (λk c=>by subst c;exact⟨C,.inr<|.inr O⟩);have L:=U<|HY e co B w1 ⟨va++vc,q⟩ ba trivial;clear T x A d bn bp bo ba K E ad;unfold WM at L;obtain⟨fn,cn,br,body,hy,hR⟩:=ae L;have bv:=U hR;clear hR L;gi_wp2;refine⟨(λN=>(by cases N)),bv.mono ?_⟩;rintro dd W3(⟨rfl,_,B3,bb,g,au⟩|⟨rfl,hx⟩);(.have bt:=U bb;have ca:=U g;have W:=U au;clear bb g au;gi_wp2;(gi_roundg (y<|m++l));(case measure=>have:=ae bu;simp at this|-;omega);(case rel=>have g:=ae ca;have f:=ae bT;have cB:z (G wr)=z (G w1):=bm.symm;have ck:=i.lt;have cu:=i.ne;have ax:∀k,B k->n0<=k:=λk c=>(al _ _ _ D k c).1;have cx:=f.1;refine⟨e++[co],m++l,va++vc,B3,rfl,cc,q,i.kept (g.block ao (by omega) (λN=>by have:=ax _ N;omega))<|g.block _ ck C,bt,λk c N=>?_,?_,λN=>?_⟩;rcases W k N with N|N;exact r k c N;subst c;omega;refine(f.trans<|cb.same (by omega) (λk c=>⟨by omega,by omega⟩)<|λk c d=>by omega).trans<|g.same (by omega) (λk c=>⟨by omega,r k c⟩) (λk c d=>by have:=ax k c;omega);rcases W _ N with N|N;exact C N;omega));have W:=U hx;clear hx;gi_wp2;refine cI (iQ rfl _ _ _) rfl ?_;exact⟨⟨_,rfl⟩,.inr ⟨_,W⟩⟩))
end
