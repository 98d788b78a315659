import Derived.Test.YtophdnlmpfmeiaaGreatDoorC12
namespace Go.Proofs.YtophdnlmpfmeiaaGreatDoor
open ChangeShapes WideShapes RowKit Proofs.Tryz
set_option maxHeartbeats 16000000
set_option linter.all false
set_option maxRecDepth 100000
def Oq{α:Type}(e:α->Array M)(V:gz)(h n j:Nat)(l:Array M)(m:List α)(S:Nat->Prop)(w:J):Prop:=∀(g:Nat)(d:List α->(Nat->Prop)->J->Prop)(f:List α->J->Prop)(B:Nat->Prop)(W:J),ia V h S w W->V.D W->d [] B W->(∀k,S k->¬B k)->(∀a B W,d a B W->∀k,B k->h<=k/\k<W.heap.size)->(∀a B W b T,d a B W->I T W b->(∀k,T k->¬B k/\(S k\/V.F k\/w.heap.size<=k))->d a B b)->(∀a x B W,(a++[x])<+:m->d a B W->V.D W->YieldAt Fence.wide (n-1) prog g (e x) W λi b=>
 (i=.returned (.bool true)/\V.D b/\∃c,d (a++[x]) c b/\I B W b/\(∀k,c k->B k\/W.heap.size<=k))\/(i=.returned (.bool false)/\f (a++[x]) b))->
 CallsIn Fence.wide n prog j (#[.func (.yield g) #[] #[]]++l) W λi b=>(∃v,i=.returned v)/\((∃c,d m c b/\V.D b)\/(∃a,f a b))
def IH{α:Type}(V:gz)(g:List α->(Nat->Prop)->J->Prop)(f:Code->List α->(Nat->Prop)->J->Prop)(e:List α)(B:Nat->Prop)(W d:J)(b:Nat):Exit->Act->J->Prop
 | .normal,_,a=>V.D a/\∃c,g e c a/\I (λk=>B k\/k=b) W a/\a.heap[b]?=d.heap[b]?/\(∀k,c k->B k\/W.heap.size<=k)
 | .ret,_,a=>∃c,f .ret e c a/\I (λk=>B k\/k=b) W a/\a.heap[b]?=d.heap[b]?/\(∀k,c k->B k\/W.heap.size<=k)
 | .exit id,_,a=>∃c,f (.exit id) e c a/\I (λk=>B k\/k=b) W a/\a.heap[b]?=d.heap[b]?/\(∀k,c k->B k\/W.heap.size<=k)
 | .goto _,_,_=>False
 | .panic _,_,_=>False
 | .outgrown,_,_=>False
def CP{α:Type}{arg:α->Array M}{m:Nat}{bs:Operand}{ps:Array Tmp}{assign body:Code}{bq:Exit->Act->J->Prop}{a:Act}{w:J}{V:gz}{n0 gf:Nat}{lb:Array M}{l:List α}{S:Nat->Prop}(hg:a.eval bs=.func (.func gf) #[] lb)(eg:Enters prog gf)(bl:∀x,(arg x).size=ps.size)(nu:Oq arg V n0 (m-1) gf lb l S w)(hD:V.D w)(an:n0<=w.heap.size)(z:∀k,S k->k<w.heap.size)(bb:List α->(Nat->Prop)->J->Prop)(Ix:Code->List α->(Nat->Prop)->J->Prop)(B:Nat->Prop)(h0:bb [] B w)(bh:∀k,S k->¬B k)(U:∀b B W,bb b B W->∀k,B k->n0<=k/\k<W.heap.size)(K:∀b B W W' bo,bb b B W->I bo W W'->(∀k,bo k->¬B k/\(S k\/V.F k\/w.heap.size<=k))->bb b B W')(F:∀f b B W W' bo,Ix f b B W->I bo W W'->(∀k,bo k->¬B k/\w.heap.size<=k)->Ix f b B W')(R:∀lr b x B W,w.heap.size<=lr->¬B lr->lr<W.heap.size->(b++[x])<+:l->bb b B W->V.D W->assign.wpIn (Fence.wide.inRound lr) (m-1-1) prog (Exit.then (λa1 v=>I (λ_=>False) W v/\∀W2,I (λk=>k=lr) v W2->body.wpIn (Fence.wide.inRound lr) (m-1-1) prog (IH V bb Ix (b++[x]) B W W2 lr) a1 W2) (λ_ _ _=>False)) {tmps:=(ps.zip (arg x)).foldl (λbr(bv,bt)=>br.setIfInBounds bv bt) a.tmps,defers:=[]} W)(T:∀(ax:Nat)(B:Nat->Prop)(W:J),w.heap.size<=ax->bb l B W->¬B ax->V.D W->W.heap[ax]?=some (.deferred (some []))->bq .normal {a with defers:={target:=.collected ax,args:=#[]}::a.defers} W)(X:∀(ax:Nat)(f:Code)(b:List α)(B:Nat->Prop)(W:J),w.heap.size<=ax->Ix f b B W->¬B ax->W.heap[ax]?=some (.deferred (some []))->f.wpIn Fence.wide m prog bq {a with defers:={target:=.collected ax,args:=#[]}::a.defers} W):(Code.rangeFunc bs ps assign body).wpIn Fence.wide m prog bq a w:=by
 refine wpIn_rangeFunc ?_;intro fn bi;obtain⟨e,h⟩:∃e:LoopState->Option Code->Loop,e=λst b=>{state:=st,pending:=b,fn,tmps:=a.tmps,params:=ps,assign,body,defers:=w.heap.size}:=⟨_,rfl⟩;obtain⟨v,G⟩:∃v,(w.alloc (.deferred (some []))).alloc (.loop (e .ready none))=v:=⟨_,rfl⟩;have bg:v.heap[w.heap.size+1]?=some (.loop (e .ready none)):=by
  rw[<-G];exact az _ (by simp)
 have bf:v.heap[w.heap.size]?=some (.deferred (some [])):=by
  rw[<-G];exact(dL _ (by simp)).trans (az _ rfl)
 have ac:I (λ_=>False) w v:=by rw[<-G];exact((I.refl _ w).alloc _).alloc _
 refine⟨w.heap.size+1,[{target:=.collected w.heap.size,args:=#[]}],v,{target:=.fn (.func gf) lb,args:=#[.func (.yield (w.heap.size+1)) #[] #[]]},v,gf,#[.func (.yield (w.heap.size+1)) #[] #[]]++lb,v,?_,?_,?_,?_,(λf=>(by cases f)),?_⟩
 ·rw[<-G,h];exact run_enterLoop_outer _ _ _ _ _
 ·simp only[resolve,hg];simp[go_sem]
 ·intro c _;trivial
 ·have:=eg;unfold Enters at this;simp[invoke,go_sem,this]
 ·refine(nu (w.heap.size+1) (λb B W=>∃o,(∀k,B k↔o k\/k=w.heap.size\/k=w.heap.size+1)/\bb b o W/\¬o w.heap.size/\¬o (w.heap.size+1)/\W.heap[w.heap.size+1]?=some (.loop (e .ready none))/\W.heap[w.heap.size]?=some (.deferred (some []))) (λb W=>∃f o,Ix f b o W/\¬o w.heap.size/\¬o (w.heap.size+1)/\W.heap[w.heap.size+1]?=some (.loop (e .done (some f)))/\W.heap[w.heap.size]?=some (.deferred (some []))) (λk=>B k\/k=w.heap.size\/k=w.heap.size+1) v (ac.same an (λk p=>⟨z k p,λf=>f⟩) (λ_ f=>f.elim)) (V.dF hD ac (λ_ f=>f.elim)) ⟨B,λk=>nZ,K _ _ _ _ _ h0 ac (λ_ f=>f.elim),λf=>by have:=(U _ _ _ h0 _ f).2;omega,λf=>by have:=(U _ _ _ h0 _ f).2;omega,bg,bf⟩ ?_ ?_ ?_ ?_).mono ?_
  ·rintro k p(f|f|f)
   ·exact bh k p f
   ·have:=z k p;omega
   ·have:=z k p;omega
  ·rintro b B' W⟨o,y,H,_,_,r,p⟩k c;rcases(y k).1 c with f|f|f
   ·exact U _ _ _ H k f
   ·subst f;exact⟨an,ak p⟩
   ·subst f;exact⟨by omega,ak r⟩
  ·rintro b B' W W' bo⟨o,y,H,N,O,r,p⟩i g;exact⟨o,y,K _ _ _ _ _ H i (λk c=>⟨λf=>(g k c).1 ((y k).2 (.inl f)),(g k c).2⟩),N,O,(i.block _ (ak r) (λf=>(g _ f).1 ((y _).2 (.inr (.inr rfl))))).trans r,(i.block _ (ak p) (λf=>(g _ f).1 ((y _).2 (.inr (.inl rfl))))).trans p⟩
  ·rintro b x B' W ao⟨o,y,H,N,O,r,p⟩bd;have hy:=run_yield (P:=prog) (args:=(arg x)) r (by rw[h];exact bl x);rw[h]at hy;refine⟨fn,_,assign,body,hy,roundIn_of_wpIn bi (ou (R (w.heap.size+1) b x o W (by omega) O (ak r) ao H bd) ?_)⟩;clear hy;intro bp a1 Wa L;cases bp with
   |normal=>
    obtain⟨bn,L⟩:=L;have al:Wa.heap[w.heap.size+1]?=some (.loop (e .ready none)):=(bn.block _ (ak r) (λf=>f)).trans r;refine⟨_,run_beginRound al (by rw[h]),?_⟩;have bk:(Wa.putObj (w.heap.size+1) (.loop {e .ready none with state:=.busy})).heap[w.heap.size+1]?=some (.loop {e .ready none with state:=.busy}):=World.putObj_heap_same (ak al);refine ou (L _ (dp _ _ _)) ?_;have fin:∀(g:Option Code)(j:J),j.heap[w.heap.size+1]?=(Wa.putObj (w.heap.size+1) (.loop {e .ready none with state:=.busy})).heap[w.heap.size+1]?->(Instr.endRound (w.heap.size+1) g).run prog j=.ok (.bool g.isNone) (j.putObj (w.heap.size+1) (.loop (e (if g.isNone then .ready else .done) g)))/\(j.putObj (w.heap.size+1) (.loop (e (if g.isNone then .ready else .done) g))).heap[w.heap.size+1]?=some (.loop (e (if g.isNone then .ready else .done) g)):=λg j h3=>by
     have ad:=h3.trans bk;have:=run_endRound (P:=prog) g ad;rw[h]at this|-;exact⟨this,World.putObj_heap_same (ak ad)⟩
    have t:∀j,I (λk=>o k\/k=w.heap.size+1) W j->j.heap[w.heap.size]?=some (.deferred (some [])):=λj i=>(i.block _ (ak p) (λf=>f.elim N (λf=>by omega))).trans p;have D:∀(q:Nat->Prop),(∀k,q k->o k\/W.heap.size<=k)->¬q w.heap.size/\¬q (w.heap.size+1):=λq g=>by
     have:=ak r;refine⟨λf=>?_,λf=>?_⟩
     ·rcases g _ f with ba|ba
      ·exact N ba
      ·omega
     ·rcases g _ f with ba|ba
      ·exact O ba
      ·omega
    rintro bp a3 j u;cases bp with
    |normal=>
     obtain⟨g,q,A,i,E,s⟩:=u;obtain⟨hr,C⟩:=fin none j E;obtain⟨q1,Q⟩:=D q s;have d:=dp j (w.heap.size+1) (.loop (e (if(none:Option Code).isNone then .ready else .done) none));refine⟨_,_,hr,.inl ⟨rfl,V.dF g d (λk c hf=>?_),λk=>q k\/k=w.heap.size\/k=w.heap.size+1,⟨q,λk=>nZ,K _ _ _ _ _ A d (λk c=>by subst c;exact⟨Q,.inr (.inr (by omega))⟩),q1,Q,C,?_⟩,?_,?_⟩⟩
     ·have:=V.lt hD hf;omega
     ·exact(d.block _ (ak (t j i)) (λf=>by omega)).trans (t j i)
     ·refine(i.trans d (λk c=>.inl (.inr c))).mono (λk c=>.inl ((y k).2 ?_));rcases c with f|f
      ·exact .inl f
      ·exact .inr (.inr f)
     ·rintro k(f|f|f)
      ·rcases s k f with ba|ba
       ·exact .inl ((y k).2 (.inl ba))
       ·exact .inr ba
      ·exact .inl ((y k).2 (.inr (.inl f)))
      ·exact .inl ((y k).2 (.inr (.inr f)))
    |ret=>
     obtain⟨q,A,i,E,s⟩:=u;obtain⟨hr,C⟩:=fin (some .ret) j E;obtain⟨q1,Q⟩:=D q s;have d:=dp j (w.heap.size+1) (.loop (e (if(some Code.ret:Option Code).isNone then .ready else .done) (some .ret)));exact⟨_,_,hr,.inr ⟨rfl,.ret,q,F _ _ _ _ _ _ A d (λk c=>by subst c;exact⟨Q,by omega⟩),q1,Q,C,(d.block _ (ak (t j i)) (λf=>by omega)).trans (t j i)⟩⟩
    |exit id=>
     obtain⟨q,A,i,E,s⟩:=u;obtain⟨hr,C⟩:=fin (some (.exit id)) j E;obtain⟨q1,Q⟩:=D q s;have d:=dp j (w.heap.size+1) (.loop (e (if(some (Code.exit id):Option Code).isNone then .ready else .done) (some (.exit id))));exact⟨_,_,hr,.inr ⟨rfl,.exit id,q,F _ _ _ _ _ _ A d (λk c=>by subst c;exact⟨Q,by omega⟩),q1,Q,C,(d.block _ (ak (t j i)) (λf=>by omega)).trans (t j i)⟩⟩
    |goto br=>exact u.elim
    |panic ch=>exact u.elim
    |outgrown=>exact u.elim
   |exit id=>exact L.elim
   |goto br=>exact L.elim
   |ret=>exact L.elim
   |panic bc=>exact L.elim
   |outgrown=>exact L.elim
  ·rintro bp W2⟨⟨bt,rfl⟩,(⟨B',⟨o,y,H,N,O,r,p⟩,g⟩|⟨b,f,o,H,N,O,r,p⟩)⟩
   ·have d:=λe=>dp W2 (w.heap.size+1) e;exact⟨none,_,by have:=run_endLoop (P:=prog) r (by rw[h];simp);rw[h]at this;exact this,T _ o _ (ai _) (K _ _ _ _ _ H (d _) (λk c=>by subst c;exact⟨O,.inr (.inr (by omega))⟩)) N (V.dF g (d _) (λk c hf=>by have:=V.lt hD hf;omega)) ((d _).block _ (ak p) (λf=>by omega)|>.trans p)⟩
   ·have d:=λe=>dp W2 (w.heap.size+1) e;exact⟨some f,_,by have:=run_endLoop (P:=prog) r (by rw[h];simp);rw[h]at this;exact this,X _ f b o _ (ai _) (F _ _ _ _ _ _ H (d _) (λk c=>by subst c;exact⟨O,by omega⟩)) N ((d _).block _ (ak p) (λf=>by omega)|>.trans p)⟩
def OT:gz:=⟨λ_=>True,λ_=>False,λ_ _ _=>trivial,λ_ h=>h.elim⟩
def Oo{α:Type}(e:α->Array M)(V:gz)(h n j:Nat)(l:Array M)(m:List α)(S:Nat->Prop)(w:J):Prop:=∀(g:Nat)(d:List α->(Nat->Prop)->J->Prop)(f:List α->J->Prop)(B:Nat->Prop)(W:J),ia V h S w W->V.D W->d [] B W->(∀k,S k->¬B k)->(∀a B W,d a B W->∀k,B k->h<=k/\k<W.heap.size)->(∀a B W b T,d a B W->I T W b->(∀k,T k->¬B k/\(V.F k\/w.heap.size<=k))->d a B b)->(∀a x B W,(a++[x])<+:m->d a B W->V.D W->YieldAt Fence.wide (n-1) prog g (e x) W λi b=>
 (i=.returned (.bool true)/\V.D b/\∃c,d (a++[x]) c b/\I B W b/\(∀k,c k->B k\/W.heap.size<=k))\/(i=.returned (.bool false)/\f (a++[x]) b))->
 CallsIn Fence.wide n prog j (#[.func (.yield g) #[] #[]]++l) W λi b=>(∃v,i=.returned v)/\((∃c,d m c b/\V.D b)\/(∃a,f a b))
def IG{α:Type}(V:gz)(g:List α->(Nat->Prop)->J->Prop)(f:Code->List α->(Nat->Prop)->J->Prop)(e:List α)(B:Nat->Prop)(W d:J)(b:Nat):Exit->Act->J->Prop
 | .normal,_,a=>V.D a/\∃c,g e c a/\I (λk=>B k\/k=b) W a/\a.heap[b]?=d.heap[b]?/\(∀k,c k->B k\/W.heap.size<=k)
 | .ret,_,a=>∃c,f .ret e c a/\I (λk=>B k\/k=b) W a/\a.heap[b]?=d.heap[b]?/\(∀k,c k->B k\/W.heap.size<=k)
 | .exit id,_,a=>∃c,f (.exit id) e c a/\I (λk=>B k\/k=b) W a/\a.heap[b]?=d.heap[b]?/\(∀k,c k->B k\/W.heap.size<=k)
 | .goto _,_,_=>False
 | .panic _,_,_=>False
 | .outgrown,_,_=>False
def wI{α:Type}{H:α->Array M}{m:Nat}{bx:Operand}{ps:Array Tmp}{assign body:Code}{Q:Exit->Act->J->Prop}{a:Act}{w:J}{V:gz}{n0 gf:Nat}{lb:Array M}{l:List α}{S:Nat->Prop}(hg:a.eval bx=.func (.func gf) #[] lb)(eg:Enters prog gf)(br:∀bg,(H bg).size=ps.size)(nu:Oo H V n0 (m-1) gf lb l S w)(hD:V.D w)(bb:n0<=w.heap.size)(A:∀k,S k->k<w.heap.size)(bh:List α->(Nat->Prop)->J->Prop)(Ix:Code->List α->(Nat->Prop)->J->Prop)(B:Nat->Prop)(h0:bh [] B w)(bo:∀k,S k->¬B k)(al:∀b B W,bh b B W->∀k,B k->n0<=k/\k<W.heap.size)(N:∀b B W W' T,bh b B W->I T W W'->(∀k,T k->¬B k/\(V.F k\/w.heap.size<=k))->bh b B W')(G:∀f b B W W' T,Ix f b B W->I T W W'->(∀k,T k->¬B k/\w.heap.size<=k)->Ix f b B W')(ac:∀lr b bg B W,w.heap.size<=lr->¬B lr->lr<W.heap.size->(b++[bg])<+:l->bh b B W->V.D W->assign.wpIn (Fence.wide.inRound lr) (m-1-1) prog (Exit.then (λa1 y=>I (λ_=>False) W y/\∀W2,I (λk=>k=lr) y W2->body.wpIn (Fence.wide.inRound lr) (m-1-1) prog (IG V bh Ix (b++[bg]) B W W2 lr) a1 W2) (λ_ _ _=>False)) {tmps:=(ps.zip (H bg)).foldl (λbv(bT,v)=>bv.setIfInBounds bT v) a.tmps,defers:=[]} W)(ad:∀(bd:Nat)(B:Nat->Prop)(W:J),w.heap.size<=bd->bh l B W->¬B bd->V.D W->W.heap[bd]?=some (.deferred (some []))->Q .normal {a with defers:={target:=.collected bd,args:=#[]}::a.defers} W)(an:∀(bd:Nat)(f:Code)(b:List α)(B:Nat->Prop)(W:J),w.heap.size<=bd->Ix f b B W->¬B bd->W.heap[bd]?=some (.deferred (some []))->f.wpIn Fence.wide m prog Q {a with defers:={target:=.collected bd,args:=#[]}::a.defers} W):(Code.rangeFunc bx ps assign body).wpIn Fence.wide m prog Q a w:=by
 refine wpIn_rangeFunc ?_;intro fn bp;obtain⟨e,h⟩:∃e:LoopState->Option Code->Loop,e=λst b=>{state:=st,pending:=b,fn,tmps:=a.tmps,params:=ps,assign,body,defers:=w.heap.size}:=⟨_,rfl⟩;obtain⟨y,K⟩:∃y,(w.alloc (.deferred (some []))).alloc (.loop (e .ready none))=y:=⟨_,rfl⟩;have bn:y.heap[w.heap.size+1]?=some (.loop (e .ready none)):=by
  rw[<-K];exact az _ (by simp)
 have bl:y.heap[w.heap.size]?=some (.deferred (some [])):=by
  rw[<-K];exact(dL _ (by simp)).trans (az _ rfl)
 have ao:I (λ_=>False) w y:=by rw[<-K];exact((I.refl _ w).alloc _).alloc _
 refine⟨w.heap.size+1,[{target:=.collected w.heap.size,args:=#[]}],y,{target:=.fn (.func gf) lb,args:=#[.func (.yield (w.heap.size+1)) #[] #[]]},y,gf,#[.func (.yield (w.heap.size+1)) #[] #[]]++lb,y,?_,?_,?_,?_,(λf=>(by cases f)),?_⟩
 ·rw[<-K,h];exact run_enterLoop_outer _ _ _ _ _
 ·simp only[resolve,hg];simp[go_sem]
 ·intro c _;trivial
 ·have:=eg;unfold Enters at this;simp[invoke,go_sem,this]
 ·refine(nu (w.heap.size+1) (λb B W=>∃p,(∀k,B k↔p k\/k=w.heap.size\/k=w.heap.size+1)/\bh b p W/\¬p w.heap.size/\¬p (w.heap.size+1)/\W.heap[w.heap.size+1]?=some (.loop (e .ready none))/\W.heap[w.heap.size]?=some (.deferred (some []))) (λb W=>∃f p,Ix f b p W/\¬p w.heap.size/\¬p (w.heap.size+1)/\W.heap[w.heap.size+1]?=some (.loop (e .done (some f)))/\W.heap[w.heap.size]?=some (.deferred (some []))) (λk=>B k\/k=w.heap.size\/k=w.heap.size+1) y (ao.same bb (λk q=>⟨A k q,λf=>f⟩) (λ_ f=>f.elim)) (V.dF hD ao (λ_ f=>f.elim)) ⟨B,λk=>nZ,N _ _ _ _ _ h0 ao (λ_ f=>f.elim),λf=>by have:=(al _ _ _ h0 _ f).2;omega,λf=>by have:=(al _ _ _ h0 _ f).2;omega,bn,bl⟩ ?_ ?_ ?_ ?_).mono ?_
  ·rintro k q(f|f|f)
   ·exact bo k q f
   ·have:=A k q;omega
   ·have:=A k q;omega
  ·rintro b B' W⟨p,z,L,_,_,s,q⟩k c;rcases(z k).1 c with f|f|f
   ·exact al _ _ _ L k f
   ·subst f;exact⟨bb,ak q⟩
   ·subst f;exact⟨by omega,ak s⟩
  ·rintro b B' W W' T⟨p,z,L,R,U,s,q⟩j g;exact⟨p,z,N _ _ _ _ _ L j (λk c=>⟨λf=>(g k c).1 ((z k).2 (.inl f)),(g k c).2⟩),R,U,(j.block _ (ak s) (λf=>(g _ f).1 ((z _).2 (.inr (.inr rfl))))).trans s,(j.block _ (ak q) (λf=>(g _ f).1 ((z _).2 (.inr (.inl rfl))))).trans q⟩
  ·rintro b bg B' W bc⟨p,z,L,R,U,s,q⟩bk;have hy:=run_yield (P:=prog) (args:=(H bg)) s (by rw[h];exact br bg);rw[h]at hy;refine⟨fn,_,assign,body,hy,roundIn_of_wpIn bp (ou (ac (w.heap.size+1) b bg p W (by omega) U (ak s) bc L bk) ?_)⟩;clear hy;intro bt a1 Wa O;cases bt with
   |normal=>
    obtain⟨bs,O⟩:=O;have ba:Wa.heap[w.heap.size+1]?=some (.loop (e .ready none)):=(bs.block _ (ak s) (λf=>f)).trans s;refine⟨_,run_beginRound ba (by rw[h]),?_⟩;have bq:(Wa.putObj (w.heap.size+1) (.loop {e .ready none with state:=.busy})).heap[w.heap.size+1]?=some (.loop {e .ready none with state:=.busy}):=World.putObj_heap_same (ak ba);refine ou (O _ (dp _ _ _)) ?_;have fin:∀(g:Option Code)(o:J),o.heap[w.heap.size+1]?=(Wa.putObj (w.heap.size+1) (.loop {e .ready none with state:=.busy})).heap[w.heap.size+1]?->(Instr.endRound (w.heap.size+1) g).run prog o=.ok (.bool g.isNone) (o.putObj (w.heap.size+1) (.loop (e (if g.isNone then .ready else .done) g)))/\(o.putObj (w.heap.size+1) (.loop (e (if g.isNone then .ready else .done) g))).heap[w.heap.size+1]?=some (.loop (e (if g.isNone then .ready else .done) g)):=λg o h3=>by
     have ax:=h3.trans bq;have:=run_endRound (P:=prog) g ax;rw[h]at this|-;exact⟨this,World.putObj_heap_same (ak ax)⟩
    have u:∀o,I (λk=>p k\/k=w.heap.size+1) W o->o.heap[w.heap.size]?=some (.deferred (some [])):=λo j=>(j.block _ (ak q) (λf=>f.elim R (λf=>by omega))).trans q;have E:∀(r:Nat->Prop),(∀k,r k->p k\/W.heap.size<=k)->¬r w.heap.size/\¬r (w.heap.size+1):=λr g=>by
     have:=ak s;refine⟨λf=>?_,λf=>?_⟩
     ·rcases g _ f with bf|bf
      ·exact R bf
      ·omega
     ·rcases g _ f with bf|bf
      ·exact U bf
      ·omega
    rintro bt a3 o x;cases bt with
    |normal=>
     obtain⟨g,r,C,j,F,t⟩:=x;obtain⟨hr,D⟩:=fin none o F;obtain⟨q1,X⟩:=E r t;have d:=dp o (w.heap.size+1) (.loop (e (if(none:Option Code).isNone then .ready else .done) none));refine⟨_,_,hr,.inl ⟨rfl,V.dF g d (λk c hf=>?_),λk=>r k\/k=w.heap.size\/k=w.heap.size+1,⟨r,λk=>nZ,N _ _ _ _ _ C d (λk c=>by subst c;exact⟨X,.inr (by omega)⟩),q1,X,D,?_⟩,?_,?_⟩⟩
     ·have:=V.lt hD hf;omega
     ·exact(d.block _ (ak (u o j)) (λf=>by omega)).trans (u o j)
     ·refine(j.trans d (λk c=>.inl (.inr c))).mono (λk c=>.inl ((z k).2 ?_));rcases c with f|f
      ·exact .inl f
      ·exact .inr (.inr f)
     ·rintro k(f|f|f)
      ·rcases t k f with bf|bf
       ·exact .inl ((z k).2 (.inl bf))
       ·exact .inr bf
      ·exact .inl ((z k).2 (.inr (.inl f)))
      ·exact .inl ((z k).2 (.inr (.inr f)))
    |ret=>
     obtain⟨r,C,j,F,t⟩:=x;obtain⟨hr,D⟩:=fin (some .ret) o F;obtain⟨q1,X⟩:=E r t;have d:=dp o (w.heap.size+1) (.loop (e (if(some Code.ret:Option Code).isNone then .ready else .done) (some .ret)));exact⟨_,_,hr,.inr ⟨rfl,.ret,r,G _ _ _ _ _ _ C d (λk c=>by subst c;exact⟨X,by omega⟩),q1,X,D,(d.block _ (ak (u o j)) (λf=>by omega)).trans (u o j)⟩⟩
    |exit id=>
     obtain⟨r,C,j,F,t⟩:=x;obtain⟨hr,D⟩:=fin (some (.exit id)) o F;obtain⟨q1,X⟩:=E r t;have d:=dp o (w.heap.size+1) (.loop (e (if(some (Code.exit id):Option Code).isNone then .ready else .done) (some (.exit id))));exact⟨_,_,hr,.inr ⟨rfl,.exit id,r,G _ _ _ _ _ _ C d (λk c=>by subst c;exact⟨X,by omega⟩),q1,X,D,(d.block _ (ak (u o j)) (λf=>by omega)).trans (u o j)⟩⟩
    |goto bv=>exact x.elim
    |panic ch=>exact x.elim
    |outgrown=>exact x.elim
   |exit id=>exact O.elim
   |goto bv=>exact O.elim
   |ret=>exact O.elim
   |panic bi=>exact O.elim
   |outgrown=>exact O.elim
  ·rintro bt W2⟨⟨v,rfl⟩,(⟨B',⟨p,z,L,R,U,s,q⟩,g⟩|⟨b,f,p,L,R,U,s,q⟩)⟩
   ·have d:=λo=>dp W2 (w.heap.size+1) o;exact⟨none,_,by have:=run_endLoop (P:=prog) s (by rw[h];simp);rw[h]at this;exact this,ad _ p _ (ai _) (N _ _ _ _ _ L (d _) (λk c=>by subst c;exact⟨U,.inr (by omega)⟩)) R (V.dF g (d _) (λk c hf=>by have:=V.lt hD hf;omega)) ((d _).block _ (ak q) (λf=>by omega)|>.trans q)⟩
   ·have d:=λo=>dp W2 (w.heap.size+1) o;exact⟨some f,_,by have:=run_endLoop (P:=prog) s (by rw[h];simp);rw[h]at this;exact this,an _ f b p _ (ai _) (G _ _ _ _ _ _ L (d _) (λk c=>by subst c;exact⟨U,by omega⟩)) R ((d _).block _ (ak q) (λf=>by omega)|>.trans q)⟩
end Go.Proofs.YtophdnlmpfmeiaaGreatDoor
