import Derived.Test.YtbgjhlkoccmfaaaGreatDoorC8
open _root_ renaming List.length→y,Option.some→M,Array.size→G,Go.World.heap→H,Go.Value.ownBlock→cN,Go.World.cell?→bA,Go.World.setCell→cP,Go.World.alloc→dw,Bool.false→bD,Bool.true→cz,Nat→R,Int→Y,List→cy,Go.Calls→cR,Go.undef→jn,Go.Proofs.Tryz.prog→bN,Go.Value.slice→am,Go.Value.string→aw,Go.Value.bool→aO,Go.Value.pointer→ee,Go.Value.tuple→de,Go.Value.agg→ef,Go.World.frozen?→iI,Go.World.ownsRow→fE,Go.Value.nilIface→ic,Go.Act.put→ii,Nat.reduceAdd→ke,Go.RowKit.Below→gD,Bool→eN,Option.none→dE,rfl→z,Or.inl→J,Or.inr→bu
namespace Go.Proofs.YtbgjhlkoccmfaaaGreatDoor
open ChangeShapes WideShapes RowKit Proofs.Tryz List
set_option maxHeartbeats 16000000
set_option linter.all false
set_option maxRecDepth 100000
variable{a e P:Z}{b c k n T:R}{d w:ae}{f x:DK}{i:dB}{l v C F:dI}{m:eD}{o:SR}{W:fC}{r:Y}{B:af}{K:Prop}{L:ld}{N:Fs}{O:iG}{Q:iF}{S:E}{V:eN}
structure RT(K:DK)(Ms:cy (cy Mk))(Ts:cy dI)(i k:R):Prop where
 da:∀j T m,j<i->Ts[j]?=M T->Ms[j]?=M m->T.map pq=m
 l:∀T m,Ts[i]?=M T->Ms[i]?=M m->T.map pq=m.take k
 v:∀j T,i<j->Ts[j]?=M T->T=[]
 ap:∀j T,0<j->j<i->Ts[j]?=M T->wW T
 fi:∀t∈Ts.flatten,Q0 K t
def RT.A(K:DK)(a:cy (cy Mk)):RT K a [[],[],[],[]] 0 0:=by
 have:∀(j:R)(T:dI),([[],[],[],[]]:cy dI)[j]?=M T->T=[]:=λj T h=>by obtain _|_|_|_|j:=j<;>simp at h<;>exact h
 exact⟨λ_ _ _ h=>U,λT m h _=>by rw[this _ _ h];rfl,λj T _ h=>this j T h,λ_ _ _ h=>U,ar⟩
def RT.dL{K:DK}{a:cy (cy Mk)}{d:cy dI}{T:dI}{m:cy Mk}(h:RT K a d c k)(e:d[c]?=M T)(g:a[c]?=M m)(i:k<=y m):y T=k:=by
 have:=cD y<|h.l T m e g;rw[cS,dX]at this;omega
def RT.gL{j:cy (cy Mk)}{g:cy dI}{n:cy Mk}(h:RT x j g c k)(m:g[c]?=M l)(i:j[c]?=M n)(u:k<y n)(A:cH)(v:pq A=n[k])(t:Q0 x A):RT x j (g.set c<|l++[A]) c (k+1):=by
 refine⟨λr d n e a i=>?_,λd C a o=>?_,λr d e a=>?_,λr d s e a=>?_,λB w=>?_⟩;rw[fJ U]at a;exact h.da r d n e a i;rw[xZ ((ir.1 m).1:c<y g)]at a;cases a;rw[i]at o;cases o;rw[bz,h.l l n m i,aG u,bO,gB,v];rw[fJ U]at a;exact h.v r d e a;rw[fJ U]at a;exact h.ap r d s e a;obtain rfl|q:=dy.1<|(yI m).mem_iff.1 w;exact t;exact h.fi B q
def RT.xL{d:cy (cy Mk)}{e:cy dI}{q:cy Mk}(h:RT f d e b (y q))(g:e[b]?=M l)(n:d[b]?=M q)(p:0<b->wW l):RT f d e (b+1) 0:=by
 refine⟨λj c r m a i=>?_,λc r a _=>by rw[h.v _ c U a];rfl,λj c m a=>h.v j c U a,λj c k m a=>?_,h.fi⟩;by_cases o:j=b;subst o;rw[g]at a;rw[n]at i;cases a;cases i;rw[h.l _ _ g n,cQ];exact h.da j c r U a i;by_cases o:j=b;subst o;rw[g]at a;cases a;exact p k;exact h.ap j c k U a
def Ff.D{r wr:Z}{o:DK}{m:iF}{g:cy dI}(h:Ff r wr c x o k n Q m g)(j:m[T]?=M d)(i:g[T]?=M l)(p:y l<=20000000000):jY wr d l where
 bV:=dQ<|h.l T d l j i
 lt:=λd a=>(h.aZ j a).2
 bZ:=λt q=>by
  let⟨s,e,_⟩:=h.Fj t<|dO.2 ⟨l,iz i,q⟩;let⟨a,e⟩:=e.D;exact⟨_,_,_,_,_,_,_,_,_,e⟩
 f:=p
def GO{db:R}{K:DK}(w:cy (cy Mk))(x0 x1 x2 x3:Option Addr)(n0 c0 n1 c1 n2 c2 n3 c3:R)(bt:cJ a db K)(s:Steps a)(bm:Pow a)(ds:¬K.j db 1)(dr:¬K.j db 2)(h4:y w=4)(an:∀(aD:R)(aU:ae)(o:cy Mk),[am x0 n0 c0,am x1 n1 c1,am x2 n2 c2,am x3 n3 c3][aD]?=M aU->w[aD]?=M o->Row a 4 aU (y o) (mZ o))(bx:∀(aD:R)(aU:ae),[am x0 n0 c0,am x1 n1 c1,am x2 n2 c2,am x3 n3 c3][aD]?=M aU->∀k,cN aU=M k->k<G (H a)/\¬K.j db k)(u:∀o∈w,∀eA∈o,eA.Ok)(dv:∀o∈w,y o<=20000000000):cR bN 68 #[aJ db,ef #[am x0 n0 c0,am x1 n1 c1,am x2 n2 c2,am x3 n3 c3]] a λbc w'=>
 (∃y0 m0 c y1 m1 d y2 m2 e y3 m3 f,bc=aN (de #[ef #[am y0 m0 c,am y1 m1 d,am y2 m2 e,am y3 m3 f],ic])/\∃b Ts,Ff a w' db K b (G<|H a) (G (H a)+2) [am x0 n0 c0,am x1 n1 c1,am x2 n2 c2,am x3 n3 c3] [am y0 m0 c,am y1 m1 d,am y2 m2 e,am y3 m3 f] Ts/\RT K w Ts 4 0)\/(∃o∈w,o≠[])/\∃q,bc=aN (de #[ef #[aF,aF,aF,aF],eW q])/\tD w' q/\I (K.j db) a w'/\∃b,cJ w' db b/\(wS K b/\Fx K.fx b.fx)/\∀k,b.j db k->K.j db k:=by
 let⟨i0,er,ev,ex,ey⟩:=cZ yE
 have fd:∀(eB:eN)(a:Z),(Op.unary .not<|aO eB).run bN a=.ok (aO<|!eB) a:=λ_ _=>rfl
 let⟨mv,bL⟩:∃mv:iF,mv=[am x0 n0 c0,am x1 n1 c1,am x2 n2 c2,am x3 n3 c3]:=⟨_,rfl⟩
 rw[<-bL]at an bx|-
 let⟨W1,A⟩:∃W1,dw (dw (dw a<|aK mv.toArray 159)<|aK #[aF,aF,aF,aF] 108) (aK #[aF,aF,aF,aF] 108)=W1:=⟨_,rfl⟩
 have bs:I aC a W1:=by rw[<-A];exact((cI aC a).aE _).aE _
 have cs:W1.heap[G (H a)+1]?=M (aK #[aF,aF,aF,aF] 108 (0,0)):=by rw[<-A];exact(gy _ ar).trans<|aQ _ ar
 have hA0:Ff a W1 db K K (G<|H a) (G (H a)+2) mv [aF,aF,aF,aF] [[],[],[],[]]:=by
  refine⟨?_,?_,z,z,?_,?_,bt.aA bs<|λ_ _=>id,⟨z,⟨⟨z,z,z⟩,Fx.bI _⟩,λ_ v=>v⟩,ar,ar,bs.aT cY,bt.lt,?_⟩
  .rw[<-A];grind[gy,aQ]
  .rw[<-A];exact aQ _ ar
  .intro aD aU bh n s;have bc:aU=aF/\bh=[]:=by
    obtain _|_|_|_|aD:=aD<;>simp at n s<;>exact⟨n.symm,s⟩
   rw[bc.1,bc.2];grind[World.ownsRow_nil]
  .intro aD b aU c q _ n _ T;have bc:aU=aF:=by
    obtain _|_|_|_|aD:=aD<;>simp at n<;>exact n.symm
   rw[bc]at T;cases T
  .refine⟨aq _,U,?_⟩;rw[<-A];simp
 let⟨cd,eg,HT,HP,cj,ce,ed⟩:=zY hA0 cs s bm an bx u
 let⟨H4,el,eb,em,cl,eo⟩:=nU h4 dv bL A ds dr
 clear bt s bm an bx u h4 dv bL bs cs hA0 A ds dr
 go_in
 go_wp21
 rw[ag em]
 have e2:G (H a)+1+1=G (H a)+2:=rfl
 rw[e2]
 let⟨r,bv⟩:∃r,G (H a)+2=r:=⟨_,rfl⟩
 rw[bv]at cd|-
 have dk:∀(i:R)(o:cy Mk),w[i]?=M o->y o<=20000000000:=λi o hm=>ag el o<|iz hm
 have ea:=ak dk
 have ba:=ak bv
 clear dk e2 bv
 go_loopw [12] (λb wr=>∃(i:R)(K1:DK)(vs:iF)(Ts:cy dI),i<=4/\b=ay i/\Ff a wr db K K1 (G<|H a) r mv vs Ts/\RT K w Ts i 0/\wr.heap[G (H a)+1]?=M (aK #[aF,aF,aF,aF] 108 (0,0))) (λb _=>4-(intOf b).toNat)
 .exact⟨0,_,_,_,bQ _,z,cd,RT.A K w,eg⟩
 .obtain⟨i,K1,vs,Ts,hi,rfl,E,bd,e⟩:=hrel;by_cases P:i<4
  .have W:=ak e;clear e;have dd:i<y w:=by rw[ag H4];exact P
   let⟨o,hm⟩:∃o,w[i]?=M o:=⟨_,bF dd⟩;have bk:i<y mv:=by rw[ag eb];exact P
   let⟨aU,n⟩:∃aU,mv[i]?=M aU:=⟨_,bF bk⟩;have ca:=cj i aU o n hm;let⟨eB,v,et⟩:∃eB v,aU=am eB (y o) v:=by
    obtain⟨q1,⟨q2,q0⟩|⟨fi,bp,cm,q2,_⟩⟩:=ca
    .grind
    grind
   subst et;have es:=ea i o hm;have hc:=(E.p i).trans n;have e1:(i:Y)<4:=U;have e0:(0:Y)<=(i:Y):=U;let⟨HA,ej,HM,HV,ek⟩:=oa E bd hm n ca;clear E bd hm n ca dd bk;go_wp21;go_loopw [19] (λc b=>∃(k:R)(K1:DK)(vs:iF)(Ts:cy dI),k<=y o/\c=ay k/\Ff a b db K K1 (G<|H a) r mv vs Ts/\RT K w Ts i k/\b.heap[G (H a)+1]?=M (aK #[aF,aF,aF,aF] 108 (0,0))) (λc _=>y o-(intOf c).toNat)
   .exact⟨0,_,_,_,bQ _,z,HA,ej,W⟩
   .obtain⟨k,K2,Q,t,hk,rfl,hA2,j,al⟩:=hrel;have d:=ak al;clear al;by_cases p:k<y o
    .have bq:=ak (show∃o∈w,o≠[]from⟨o,iz<|ag HM,λm9=>by rw[m9]at p;exact absurd p<|yT _⟩);have hm:=ag HM;have u:=ed o (iz hm) _<|aB p;have bn:=hA2.aA.bV ek<|λq T=>⟨(ce i _ HV q T).2,(ce i _ HV q T).1⟩;let⟨ff,c,hx,ac⟩:∃ff c,eB=M (X ff c)/\∀aD V,(o[k].bU)[aD]?=M V->bA wr (X ff<|c+(k*4+aD))=M V:=by
      obtain⟨q1,⟨q2,q0⟩|⟨fi,bp,cm,q2,aV,C⟩⟩:=bn
      .omega
      .cases q2;refine⟨fi,bp,z,λaD V hu=>C _ _ ?_⟩;have hj:aD<4:=by
        obtain v|v:=iU aD 4
        .exact v
        .rw[mI<|by simpa[Mk.bU]using v]at hu;cases hu
       rw[TX o k aD p hj];exact hu
     subst hx;have cu:=ac 0 _ z;have cv:=ac 1 _ z;have cx:=ac 2 _ z;have cB:=ac 3 _ z;have bf:i<y t:=by rw[hA2.S];exact P
     let⟨bh,s⟩:∃bh,t[i]?=M bh:=⟨_,bF bf⟩;have O:y bh=k:=j.dL s hm hk;have bg:i<y Q:=by rw[hA2.L];exact P
     let⟨aU,n⟩:∃aU,Q[i]?=M aU:=⟨_,bF bg⟩;have g:=hA2.l i aU bh n s;rw[O]at g;obtain⟨ox,oc,bT⟩:=aM g;subst bT;have dT:=ak (show∀V,pq V=o[k]->Q0 K V->RT K w (t.set i<|bh++[V]) i (k+1)fromλV h1 h2=>j.gL s hm p V h1 h2);have hA3:=hA2.bH<|(I.bI aC wr).aE<|aK #[bw o[k].cK,eI o[k].ut,eI o[k].f,eI o[k].L] 234;generalize o[k]=eA at*;have l:=Nn eA.cK u.1 eA.ut eA.f eA.L u.2.1 u.2.2 (Steps.aA HT hA3.aA cl) (Pow.aA HP hA3.aA eo) (λv=>cl<|hA2.bM.2.2 _ v) hA3.f;unfold GZ at l;have L:=u.1;let⟨x,f,fe,aa,ck⟩:=oa hA2 hA3 g n s;have bb:=ak O;have e4:(k:Y)<(y o:Y):=U;have e5:(0:Y)<=(k:Y):=U;have k0:bA wr (X r i)=M (am ox k oc):=(hA2.u i).trans n;have e6:c+(k*4+0)=c+k*4:=U;have e7:c+(k*4+1)=c+k*4+1:=U;have e8:c+(k*4+2)=c+k*4+2:=U;have e9:c+(k*4+3)=c+k*4+3:=U;rw[e6]at cu;rw[e7]at cv;rw[e8]at cx;rw[e9]at cB;clear hA2 hA3 g n s O u bn ac hm bf bg j e6 e7 e8 e9;let⟨tn,tl,ti,tc⟩:=eA;simp only at cu cv cx cB l L;have bE:=x.o;have bi:=ak (show G (H wr)<G (H<|dw wr<|aK #[bw tn,eI tl,eI ti,eI tc] 234)by simp);go_wp21;go_call l as bc S⟨K3,hd,ap,F,⟨j8,fb,D,N,rfl,ab,co,cT,dc,⟨cp,cr,br⟩,cn⟩|⟨q,rfl,T⟩⟩;rotate_left
     .have cc:=hd.aA;have aV:=ak (show cJ S db K3/\(wS K K3/\Fx K.fx K3.fx)/\∀k,K3.j db k->K.j db k from⟨hd.ok,⟨f.bM.2.1.1.aj ap,f.bM.2.1.2.aj hd.fx⟩,λk v=>f.bM.2.2 k<|F k v⟩);have av:=ag bi;have b:=(cc.A _ (bP<|az d)<|λv=>bP<|f.da _<|f.bM.2.2 _ v).trans<|(gy _<|az d).trans d;have t0:=aX b 0;have t1:=aX b 1;have t2:=aX b 2;have t3:=aX b 3;have cM:∀i,iI S (X (G (H a)+1) i)=bD:=λi=>by simp[World.frozen?,b]
      let⟨HQ,dn,C⟩:=eU T (f.aA.aj cc<|λk hk=>J<|f.bM.2.2 k hk) b;clear T cc b l k0 av hd ap F;go_wp2;have ao:=aY (i:=3) (u:=aF)<|aY (i:=2) (u:=aF)<|aY (i:=1) (u:=aF)<|aY (i:=0) (u:=aF) C;have m:=((((I.bI (λk=>k=G (H a)+1) S).aL (G (H a)+1) 0 aF<|J z).aL (G (H a)+1) 1 aF<|J z).aL (G (H a)+1) 2 aF<|J z).aL (G (H a)+1) 3 aF<|J z;refine ci (qO z _ _ (G (H a)+1) _ _ _ _ _ _ z ao ⟨_,_,_,z⟩ ⟨_,_,_,z⟩ ⟨_,_,_,z⟩ ⟨_,_,_,z⟩) z ?_;exact bu ⟨ag bq,q,z,HQ.aA m<|λk hk _=>hk▸⟨_,108,_,C,cg⟩,dn.aj m ar,K3,aV.1.aA m (λk v bc=>by have:=f.da k<|aV.2.2 k v;have:k=G (H a)+1:=bc;omega),aV.2.1,aV.2.2⟩
     have hA4:=f.A hd.aA (λq T=>J<|f.bM.2.2 q T) hd.ok ⟨ap.1,⟨ap,hd.fx⟩,F⟩;have av:=ag bi;have fg:r<G (H wr):=bE.2.2;have b:=(hd.aA.A _ (bP<|az d)<|λv=>bP<|f.da _<|f.bM.2.2 _ v).trans<|(gy _<|az d).trans d;have bo:Fc S db r Q ⟨j8,N,[],tn⟩:=by
      refine⟨fb,⟨⟨D,by show mR S j8 (aJ db) tn (jN N) (y<|iE N) (pu<|iE N) fb 0 D aF N;rw[cp,cr,br];exact ab⟩,co,L⟩,by show r<j8;omega,az ab.g,U,?_,λaD V hu=>⟨λv=>?_,λv=>?_⟩⟩
      .have C:0<y (fM N):=by
        have:=ab.ne;rcases T:N with _|⟨q,fk⟩
        .rw[T]at this;simp at this
        .simp[fM,pw.bU]
       have:=ab.bU 0 _<|bF C;exact cA S _ this
      .have h1:=(x.aZ hu v).2;have h2:G (H wr)<=j8:=U;simp only at h1;omega
      .have h1:=(x.aZ hu v).2;omega
     have ch:=ak (show RT K w (t.set i<|bh++[⟨j8,N,[],tn⟩]) i (k+1)from ag dT _ (by show Mk.mk tn (jN N) (y<|iE N) (pu<|iE N)=⟨tn,tl,ti,tc⟩;rw[br,show jN N=tl by omega,show y (iE N)=ti by omega]) (by
      let⟨C,q1,q2⟩:=cn;exact⟨C,by rw[<-f.bM.1];exact q1,q2⟩))
     have bl:j8∉t.flatten.map cH.tb:=λv=>by
      let⟨V,hu,bc⟩:=cC.1 v;let⟨_,_,_,h2,_⟩:=x.Fj V hu;omega
     have B:=hA4.l i _ bh aa ck;rw[ag bb]at B;have k1:bA S (X r i)=M (am ox k oc):=(hA4.u i).trans aa;have cb:r<G (H S):=hA4.o.2.2;have en:=ak (show∀v5 w5,fE w5 (r+1) 235 1 v5 (k+1) (bh.map cH.D++[aJ j8])->fo (dw S<|aK #[aJ j8] 235) w5 (am ox k oc) v5->Ff a (cP w5 (X r i) v5) db K K3 (G<|H a) r mv (Q.set i v5) (t.set i<|bh++[⟨j8,N,[],tn⟩])/\(cP w5 (X r i) v5).heap[G (H a)+1]?=M (aK #[aF,aF,aF,aF] 108 (0,0))/\bA w5 (X r i)=M (am ox k oc)/\iI w5 (X r i)=bD from by
      intro v5 w5 ad ax;have C:I aC S (dw S<|aK #[aJ j8] 235):=(cI aC S);have hA5:=hA4.bH C;have cc:=I.fV ax;have dn:cN (am ox k oc)≠M r:=λv=>bP<|(hA4.aZ aa v).1;have eq:=(cc.A r (au cb C.D) dn).trans hA5.g;refine⟨hA5.gL aa ck ax ?_ (bo.aA C cY) bl,?_,?_,by simp[World.frozen?,eq]⟩
      .rw[ai,ag bb,bz];exact ad
      .have aV:=az b;exact(kV v5<|bP<|ag ba).trans<|(cc.A _ (au aV C.D)<|λv=>gW ((hA4.aZ aa v).1)<|ag ba).trans<|(C.A _ aV id).trans b
      .exact cc.u (C.u k1 id cb) dn (au cb C.D))
     have ec:=ak B;clear ab co cT dc cp cr br cn hd ap F hA4 bo bl B l k0 av b;go_wp2_with(first
      |(at_builtin;go_loud(refine cq _ z (.tmp 36) (.tmp 38) 106 z (r+1) 235 i0 (.pointer dE) 1 8 underlying106 er ev ex ey z cg (.slice ox k oc) k (bh.map cH.D) z (bC ec _) (X (G (H S)) 0) 1 1 [aJ j8] z z (pP _ _ _) (by simp[Value.oneCell']) U U dW ?_;intro v5 w5 ad ax;let⟨hA5,y2,y0,y1⟩:=en v5 w5 ad ax;obtain⟨x5,c5,rfl⟩:=aM ad;have dx:=ak hA5;have ei:=ak y2;clear ad ax hA5 y2)))
     go_roundw
     .exact⟨k+1,K3,_,_,p,dM,dx,ag ch,ei⟩
     .simp[intOf];omega
    .have ax:k=y o:=U;subst ax;have bf:i<y t:=by rw[hA2.S];exact P
     obtain⟨bh,s⟩:∃bh,t[i]?=M bh:=⟨_,bF bf⟩;have bg:i<y Q:=by rw[hA2.L];exact P
     obtain⟨aU,n⟩:∃aU,Q[i]?=M aU:=⟨_,bF bg⟩;have O:y bh=y o:=j.dL s HM<|aq _;have B:=hA2.D n s U;have bb:=ak O;clear O;have g:=hA2.l i aU bh n s;obtain⟨ox,oc,bT⟩:=aM g;subst bT;have k0:bA wr (X r i)=M (am ox (y bh) oc):=(hA2.u i).trans n;have l:=λq=>j.xL s HM q;have e4:¬((y o:Y)<(y o:Y)):=U;have x:=ak hA2;have F:=ak l;by_cases ac:i=0
     .subst ac;clear hA2 j B g s n l;go_wp2;go_roundw
      .exact⟨1,_,_,_,U,dM,x,ag F ar,d⟩
      .simp[intOf]
     .have ab:=WY B;have e6:(0:Y)<(i:Y):=U;clear hA2 j B g s n l;go_wp21;go_call ab as bc w6⟨aV,rfl,S,L,C⟩;have aa:=ak<|x.bH<|I.p C;have N:=ak<|(C.block _<|az d).trans d;clear ab;cases aV
      .have bq:=ak (show∃o∈w,o≠[]from⟨o,iz<|ag HM,λm9=>L z<|bG (by rw[ag bb,m9];rfl)⟩);clear S C L;go_wp21;go_call tX fm w6 as bc w7⟨rfl,D⟩;have b:w7.heap[G (H a)+1]?=M (aK #[aF,aF,aF,aF] 108 (0,0)):=by rw[D];exact(gy _<|az N).trans N
       have ap:I aC w6 w7:=by rw[D];exact cI _ _
       have hA7:=(ag aa).bH ap;have ad:tD w7 (G<|H w6):=by rw[D];exact tD.lY w6 tQ
       have t0:=aX b 0;have t1:=aX b 1;have t2:=aX b 2;have t3:=aX b 3;have cM:∀i,iI w7 (X (G (H a)+1) i)=bD:=λi=>by simp[World.frozen?,b]
       let⟨HQ,c,f⟩:=eU ad hA7 b;clear ad hA7 b ap D k0;go_wp2;have ao:=aY (i:=3) (u:=aF)<|aY (i:=2) (u:=aF)<|aY (i:=1) (u:=aF)<|aY (i:=0) (u:=aF) f;have m:=((((I.bI (λk=>k=G (H a)+1) w7).aL (G (H a)+1) 0 aF<|J z).aL (G (H a)+1) 1 aF<|J z).aL (G (H a)+1) 2 aF<|J z).aL (G (H a)+1) 3 aF<|J z;refine ci (qO z _ _ (G (H a)+1) _ _ _ _ _ _ z ao ⟨_,_,_,z⟩ ⟨_,_,_,z⟩ ⟨_,_,_,z⟩ ⟨_,_,_,z⟩) z ?_;exact bu ⟨ag bq,_,z,HQ.aA m<|λk hk _=>hk▸⟨_,108,_,f,cg⟩,c.aA.aj m ar,_,c.f.aA m (λk v bc=>by have:=c.da k<|c.bM.2.2 k v;have:k=G (H a)+1:=bc;omega),c.bM.2.1,c.bM.2.2⟩
      have av:=ak<|S z;clear C S;go_wp2;go_roundw
      .exact⟨i+1,_,_,_,U,dM,aa,ag F<|λ_=>av,N⟩
      .simp[intOf];omega
  .have l:i=4:=U;subst l;have b:=E.L;obtain⟨p,t,x,B,rfl⟩:∃p t x B,vs=[p,t,x,B]:=by
    obtain _|⟨p,_|⟨t,_|⟨x,_|⟨B,_|⟨v4,fk⟩⟩⟩⟩⟩:=vs<;>simp at b;grind
   let⟨c,aa,N⟩:=E.bV (j:=0) rfl;let⟨d,ab,O⟩:=E.bV (j:=1) rfl;let⟨f,ac,Q⟩:=E.bV (j:=2) rfl;let⟨g,ad,S⟩:=E.bV (j:=3) rfl;obtain⟨C,y0,rfl⟩:=aM N;obtain⟨D,y1,rfl⟩:=aM O;obtain⟨F,y2,rfl⟩:=aM Q;obtain⟨L,y3,rfl⟩:=aM S;have r0:=aX E.g 0;have r1:=aX E.g 1;have r2:=aX E.g 2;have r3:=aX E.g 3;have t0:=aX e 0;have t1:=aX e 1;have t2:=aX e 2;have t3:=aX e 3;have cM:∀i,iI wr (X (G (H a)+1) i)=bD:=λi=>by simp[World.frozen?,e]
   let⟨HA,j,W⟩:=eU E bd e;have e5:¬((4:Y)<4):=U;clear E bd N O Q S e b;go_wp2;have m:=((((I.bI (λk=>k=G (H a)+1) wr).aL (G (H a)+1) 0 (am C (y c) y0)<|J z).aL (G (H a)+1) 1 (am D (y d) y1)<|J z).aL (G (H a)+1) 2 (am F (y f) y2)<|J z).aL (G (H a)+1) 3 (am L (y g) y3)<|J z;apply ci (qO z _ _ (G (H a)+1) _ _ _ _ _ _ z (aY (i:=3) (u:=am L (y g) y3)<|aY (i:=2) (u:=am F (y f) y2)<|aY (i:=1) (u:=am D (y d) y1)<|aY (i:=0) (u:=am C (y c) y0) W) ⟨_,_,_,z⟩ ⟨_,_,_,z⟩ ⟨_,_,_,z⟩ ⟨_,_,_,z⟩) z;refine J ⟨C,y c,y0,D,y d,y1,F,y f,y2,L,y g,y3,z,K1,Ts,?_,j⟩;rw[ag ba];have hd:=HA.f.aA m (λk v bc=>by have:=HA.da k<|HA.bM.2.2 k v;have:k=G (H a)+1:=bc;omega);exact HA.A m (λk bc=>bu (by have:k=G (H a)+1:=bc;have:=ag ba;omega)) hd ⟨z,⟨⟨z,z,z⟩,Fx.bI _⟩,λ_ v=>v⟩
def kP.Im{j:ia}(n:kP a b j)(o:I (λc=>c=b) a e)(h:bA a (X c k)=M d):bA e (X c k)=M d:=by
 let⟨p,f,m,_⟩:=n;have i:c≠b:=by intro l;rw[l]at h;simp[World.cell?,m]at h
 have g:c<G (H a):=by obtain l|l:=iU c<|G<|H a;exact l;simp[World.cell?,jJ l]at h
 exact o.u h i g
def kP.WU{i:ia}(j:kP a b i)(k:I (λc=>c=b) a e){g:Array ae}{t:TypeId}{m9:R×R}(h:a.heap[c]?=M (aK g t m9)):e.heap[c]?=M (aK g t m9):=by
 let⟨l,d,m,_⟩:=j;have f:c≠b:=by grind
 exact(k.A c (az h) f).trans h
def kP.TK{l:ia}(o:kP a b l)(p:I (λs=>s=b) a e)(h:Row a c d k Q):Row e c d k Q:=by
 obtain⟨j,⟨rfl,m⟩|⟨q,f,g,rfl,i,n⟩⟩:=h;exact⟨j,J ⟨z,m⟩⟩;exact⟨j,bu ⟨q,f,g,z,i,λr u m=>o.Im p<|n r u m⟩⟩
def Aside.rX(h:Aside a f b c k)(d:I W a e):Aside e f b c k:=⟨au h.lt d.D,h.j,h.ne⟩
def Pow.rX{d:ia}(h:Pow a)(f:kP a b d)(g:I (λk=>k=b) a e):Pow e:=by
 refine h.aA g<|λl=>?_;let⟨i,c,j,_⟩:=f;unfold Pow Lib.TabIs World.var? at h;rw[GI]at h;grind
def Er.rX{r:ia}(h:Er N a f b c d l)(o:kP a k r)(i:I (λu=>u=k) a e):Er N e f b c d l:=by
 refine⟨o.TK i h.bV,λu t=>(h.l u t).rX i,λv p=>?_⟩;have m:=h.bZ v p;let⟨q,j,g,n,s⟩:=m.D;exact⟨⟨q,j,g,⟨o.WU i n.g,λt u p=>o.Im i<|n.bU t u p,n.ne,n.le,n.f⟩,s.rX i⟩,m.l.rX i,m.cK,m.jW,m.f⟩
def ST.rX{s:SR}{n u:dI}{p:ia}(h:ST a b s x i C F n u k)(g:kP a c p)(r:Aside a x s.f b c)(d:I (λm=>m=c) a e):ST e b s x i C F n u k where
 D:=g.TK d h.D
 L:=λm j=>(h.L m j).rX d
 l0:=h.l0.rX g d
 l1:=h.l1.rX g d
 l2:=h.l2.rX g d
 l3:=h.l3.rX g d
 f:=h.f.aA d<|λm n g=>r.j (by have q:m=c:=g;rwa[<-q])
 l:=h.l
 t:=⟨λm j=>g.Im d<|h.t.o m j,h.t.x.rX g d,h.t.i.rX d,h.t.n.rX d⟩
 zb:=h.zb
 v:=h.v
 o:=h.o
 S:=h.S
 s1:=h.s1
 s2:=h.s2
 s3:=h.s3
def Inv.rX{u:cy af}{s s':SR}{ab:DK}{an:dB}{ad al:dI}{aa ac N':R}{sn g:gJ}(h:Inv K u a b s ab an C F ad al aa ac sn)(ao:s.n=M c)(d:s'={s with v:=s'.v})(t:I (λap=>ap=c) a e)(hm:kP e c (Dn g))(hl:y g<=4)(W:s'.v<=N'/\∀av∈g,av.1<=s'.v)(hN:ac<=N')(j:N'<=1000000000):Inv K u e b s' ab an C F ad al aa N' g:=by
 let⟨p,w,q2,D⟩:=h.f.ex;have V:p=c:=by rw[w]at ao;grind
 subst V;have m:=(h.st.rX q2 D t).vI (s':=s') (by rw[d];grind) (by rw[d]);have E:s'.t=s.t:=by rw[d]
 have N:s'.l=s.l:=by rw[d]
 have O:s'.Xg=s.Xg:=by rw[d];rfl
 have P:s'.S=s.S:=by rw[d]
 have q:s'.o=s.o:=by rw[d]
 have Q:s'.D=s.D:=by rw[d]
 have T:s'.ub=s.ub:=by rw[d]
 have r:s'.f=s.f/\s'.n=s.n:=by rw[d];grind
 exact{st:=m,k:=h.k,x:=q▸h.x,L:=q▸h.L,f:=⟨⟨p,r.2.trans w,hm,r.1▸D.rX t⟩,hl⟩,i:=h.i,nx:=E▸h.nx,lg:=N▸h.lg,bt:=P▸h.bt,o:=Q▸T▸h.o,l:=bP h.l,S:=W,A:=h.A,n:=O▸h.n,pH:=h.pH,v:=j,B:=h.B}
def F4{sn:gJ}{n:R}(h:∀p∈sn,p.1<n)(t:R):(Dn sn).gL (n:Y) (bw (t:Y))=Dn (sn++[(n,t)]):=by
 induction sn with
 |nil=>rfl
 |cons p r c=>
  have:=h p ar;have a:=c (λq b=>h q<|by simp[b]);unfold Dn at a|-;rw[bO,dt,bO,ia.gL,fN aI,a]
def rU:gJ->Y->gJ
 |[],_=>[]
 |p::r,n=>if(p.1:Y)=n then r else p::rU r n
def TC(n:Y):∀a:gJ,(Dn a).dP n=Dn (rU a n)
 |[]=>rfl
 |p::r=>by
  have b:=TC n r;unfold Dn at b|-;rw[bO,ia.dP,rU];grind
def Jl(n:Y):∀a:gJ,(rU a n).Sublist a
 |[]=>kK _
 |p::r=>by
  rw[rU];split
  .grind
  .exact(Jl n r).cons_cons _
section
open Conc.Locks
def XW{D:cy af}{s g:SR}{aa:dI}{sn h:gJ}(N:Inv K D a b s f i l C F aa k n sn)(t:b<G (H a))(B:gl a e s.f b f f)(o:cU e b g 1)(ab:s.n=M c)(A:g={s with v:=g.v})(u:I (λp=>p=c) e P)(S:kP P c (Dn h))(Q:y h<=4)(O:g.v<=T/\∀ac∈h,ac.1<=g.v)(L:n<=T)(q:T<=1000000000):bA P ⟨b,0,dE⟩=M (.int .i32 1)/\iI P ⟨b,0,dE⟩=bD/\cU P b g 1/\cU (cP P ⟨b,0,dE⟩<|.int .i32 0) b g 0/\Inv K D (cP P ⟨b,0,dE⟩<|.int .i32 0) b g f i l C F aa k T h/\I (λp=>(f.j s.f p\/p=b)\/p=c) a (cP P ⟨b,0,dE⟩<|.int .i32 0):=by
 have m:=N.eQ (s':=s) t B z (aq _) z;let⟨x,V,q2,W⟩:=m.f.ex;have E:x=c:=by rw[V]at ab;grind
 subst E;have j:=m.rX ab A u S Q O L q;have d:cU P b g 1:=(u.A b (az o)<|λF=>W.ne F.symm).trans o;have:g.f=s.f:=by rw[A]
 have r:=lQ j.st.f j.st.l 0;have w:I (λp=>(f.j s.f p\/p=b)\/p=x) a P:=(B.aA.aT<|λ_ F=>J<|J F).aj u<|λ_ F=>J<|bu F;exact⟨d.u z,d.bS,d,d.jh 0,j.eQ (az d) r z (aq _) z,w.aL b 0 _<|J<|J<|bu z⟩
def IF{D:cy af}{s:SR}{bl:dI}(o:gJ)(m:R)(h:cU a b s 0)(u:Inv K D a b s f i l C F bl c k o)(hc:s.d=bD)(h4:y o<4)(hN:k+1<=1000000000)(E:s.n=M m):cR bN 40 #[.pointer<|M ⟨b,0,dE⟩] a λao N=>ao=.returned (.tuple #[.int .i64<|(s.v:Y)+1,ic])/\cU N b {s with v:=s.v+1} 0/\Inv K D N b {s with v:=s.v+1} f i l C F bl c (k+1) (o++[(s.v+1,s.S)])/\I (λO=>(f.j s.f O\/O=b)\/O=m) a N:=by
 have aU:=az h;have c0:bA a ⟨b,0,dE⟩=M (.int .i32 0):=h.u z;have f0:iI a ⟨b,0,dE⟩=bD:=h.bS;have w:=lQ u.st.f u.st.l 1;have h1:=h.jh 1;have L:=u.f;have hg:=u.S.2;have:s.v<=1000000000:=bP u.S.1;generalize hW:cP a ⟨b,0,dE⟩ (.int .i32 1)=T at w h1;have r:=mY h1;rw[hc]at r;have an:cR bN 49 #[.pointer<|M ⟨b,0,dE⟩] T λao N=>ao=.returned ic/\gD (G<|H T) T N:=r
 have HX:=ak (λj(W:gD (G<|H T) T j)=>show cU j b s 1/\kP j m (Dn o)/\∀d,d=cP j ⟨b,15,dE⟩ (.int .i64<|(s.v:Y)+1)->cU d b {s with v:=s.v+1} 1/\kP d m (Dn o)/\∀t,kP t m ((Dn o).gL ((s.v:Y)+1)<|.int .u64 s.S)->d.drew.grownBy t (M m)->bA t ⟨b,0,dE⟩=M (.int .i32 1)/\iI t ⟨b,0,dE⟩=bD/\bA t ⟨b,15,dE⟩=M (.int .i64<|(s.v:Y)+1)/\cU (cP t ⟨b,0,dE⟩<|.int .i32 0) b {s with v:=s.v+1} 0/\Inv K D (cP t ⟨b,0,dE⟩<|.int .i32 0) b {s with v:=s.v+1} f i l C F bl c (k+1) (o++[(s.v+1,s.S)])/\I (λO=>(f.j s.f O\/O=b)\/O=m) a (cP t ⟨b,0,dE⟩<|.int .i32 0)from by
  have aa:=w.aj<|qV (j3:=b) w.ok W;have e:cU j b s 1:=h1.aA (I.p (S:=λ_=>False) W) id;let⟨b0,q1,q2,q3⟩:=(L.eQ aa).ex;have eb:b0=m:=by rw[q1]at E;grind
  subst eb;refine⟨e,q2,λd p=>?_⟩;subst p;have ab:=aa.gu u.st.l 15<|.int .i64<|(s.v:Y)+1;have g:cU (cP j ⟨b,15,dE⟩<|.int .i64<|(s.v:Y)+1) b {s with v:=s.v+1} 1:=(aY e).trans rfl;let⟨b1,p1,p2,p3⟩:=(L.eQ ab).ex;have ap:b1=b0:=by rw[p1]at q1;grind
  subst ap;refine⟨g,p2,λt q x=>?_⟩;have bb:I (λO=>O=b1) (cP j ⟨b,15,dE⟩<|.int .i64<|(s.v:Y)+1) t:=(cf (λO=>O=b1) _).aj (I.eF (S:=λO=>O=b1) x aI)<|λ_ F=>J F;have B:=F4 (sn:=o) (n:=s.v+1) (λbi hp=>bP<|hg bi hp) s.S;rw[show(((s.v+1:R)):Y)=(s.v:Y)+1 from by push_cast;rfl]at B;rw[B]at q;let⟨r1,r2,r3,r4⟩:=XW u aU ab g p1 rfl bb q dW ⟨by have:=u.S.1;show s.v+1<=k+1;omega,λbi hp=>by
   show bi.1<=s.v+1;obtain F|F:=aP.1 hp
   .have:=hg bi F;omega
   .simp at F;rw[F];exact aq _⟩ U hN
  exact⟨r1,r2,r3.u z,r4⟩)
 have:IntKind.i64.wrap ((s.v:Y)+1)=(s.v:Y)+1:=by rw[bR];omega
 clear h u w h1 hc L r hg;go_enter_defers func40,ntmps40
 go_wp21;go_call ng ⟨b,0,dE⟩ _ c0 f0 as ao N⟨rfl,bc⟩;rw[hW]at bc;subst N;go_wp21;go_call an as ao j⟨rfl,W⟩;let⟨e,ad,al⟩:=(ag HX) j W;have bh:bA j ⟨b,16,dE⟩=M (.map<|M m):=E▸e.u z;have bg:bA j ⟨b,15,dE⟩=M (.int .i64 s.v):=e.u z;have av:iI j ⟨b,15,dE⟩=bD:=e.bS;have aD:=NE (P:=bN) underlying94 ad 3;have hl:y (Dn o)=y o:=by simp[Dn]
 rw[hl]at aD;have:decide ((4:Y)<=(y o:Y))=bD:=yR U;let⟨d,p⟩:∃d,d=cP j ⟨b,15,dE⟩ (.int .i64<|(s.v:Y)+1):=⟨_,rfl⟩;let⟨g,aV,ac⟩:=al d p;have bf:bA d ⟨b,16,dE⟩=M (.map<|M m):=E▸g.u z;have bd:bA d ⟨b,15,dE⟩=M (.int .i64<|(s.v:Y)+1):=g.u z;have j9:bA d ⟨b,9,dE⟩=M (.int .u64 s.S):=g.u z;clear e g al ad hl W an h4;go_wp21;rename_i QQ KK V;rw[<-p];clear p bg bh av;refine Code.wp_mono (Q:=λao l a=>ao=Exit.normal/\KK l a) (λao l a h=>by obtain⟨rfl,h⟩:=h;exact h) ?_;refine cX (λD=>bA D ⟨b,16,dE⟩=M (.map<|M m)/\bA D ⟨b,15,dE⟩=M (.int .i64<|(s.v:Y)+1)/\bA D ⟨b,9,dE⟩=M (.int .u64 s.S)) 12 aH ?_;have ax:bA d.drew ⟨b,16,dE⟩=M (.map<|M m)/\bA d.drew ⟨b,15,dE⟩=M (.int .i64<|(s.v:Y)+1)/\bA d.drew ⟨b,9,dE⟩=M (.int .u64 s.S):=⟨bf,bd,j9⟩;refine dH 0 ?_;iterate 12 (refine zr (v:=?_) ax z aH (λ_ _ _ h=>by cases h.1) (J ⟨by rfl,?_⟩) ?_;rotate_left;(focus(rintro D⟨z0,z1,z2⟩;go_simp;try with_reducible rfl));simp only[ii,ke,dC,eZ,eO,dl,cF,cO])
 refine eS ?_;refine aW 12 ?_;intro bk A;try simp only[dl,cF,cO]
 refine Lt (.tmp 34) (.tmp 38) (.tmp 42) 94 z 3 104 underlying94 underlying3 m _ z (aV.dU z) ((s.v:Y)+1) (.int .u64 s.S) z z ?_;intro w4 q x ba;refine A _ _ (λF=>(F z).elim) ?_;refine dG aH ?_ _;let⟨d0,g0,bm,hF⟩:=ac w4 q x;clear q x ba A;refine⟨z,?_⟩;refine V _ _ ?_;clear V;go_wp2;exact fD d0 g0 ⟨_,jx z _ _ _,z,hF⟩
end
section
open Conc.Locks
def Inv.p{r:cy af}{s:SR}{u:DK}{e:gJ}(h:Inv K r a b s u i l v C F c n e)(w:lG a d (kT e i []))(j:∀A,cN d=M A->Aside a u s.f b A):Inv K r a b {s with L:=d} u (kT e i []) l v C F c n e:=by
 have g:∀t∈kT e i [],t∈i:=λt o=>(AB o).elim id (λq=>by cases q);have p:=AC e i [];rw[eE,mf]at p;have m:=h.st.Yl (s':={s with L:=d}) (C':=c) ⟨rfl,rfl,rfl,rfl,rfl⟩ w j (AA h.st.o e []) (λt o=>h.st.S t<|g t o) U h.st.v;exact{h with st:=m,x:=aR p h.x,k:=Az h.st.o h.f.dL [],f:=h.f.vI ⟨rfl,rfl⟩}
def Le(u:gJ)(T:Y)(h:cU a b o 0)(q:sE (vw f.ah) a b o f i l v C F c)(m:MO a f b o u)(A:o.d=bD)(B:za u T=dE):cR bN 42 #[aJ b,ay T] a λO w=>O=aN (uf 5)/\Au a w b o f i l v C F c:=by
 have s:=az h;have L:=cU.bW h 0 z;have P:iI a (X b 0)=bD:=h.bS;have e:=lQ q.f q.l 1;have n:=h.jh 1;generalize S:cP a (X b 0) (iD 1)=x at e n;let⟨W,D,E,V⟩:=(m.eQ e).ex;have d:=wz T u n A D E;have K:=ak<|λj(p:gD (G<|H x) x j)=>tP (j4:=True) (W2:=j) n q s e p;clear h q e n A m D E V;rw[B]at d;simp only at d;rw[SO]at d|-;clear B;go_enter_defers func42,ntmps42
 go_wp21;go_call ng (X b 0) _ L P as O w⟨rfl,t⟩;rw[S]at t;subst w;go_wp21;go_call d as O j⟨rfl,p⟩;let⟨r,k,g⟩:=K j p;let⟨N,Q,hF,_⟩:=g j k.GR<|I.bI _ _;clear r k g p d;go_wp2;exact fD N Q ⟨_,gH z _ _ _,z,hF.xD⟩
def Ld{j4:cy af}{s:SR}{cp:dI}(d:gJ)(T:Y)(mb tt:R)(h:cU a b s 0)(P:Inv K j4 a b s f i l C F cp c k d)(hc:s.d=bD)(hg:za d T=M tt)(bl:s.n=M mb):cR bN 42 #[aJ b,ay T] a λaU N=>aU=aN ic/\∃e,cU N b {s with L:=e} 0/\Inv K j4 N b {s with L:=e} f (kT (rU d T) i []) l C F cp c k (rU d T)/\I (λt=>(f.j s.f t\/t=b)\/t=mb) a N:=by
 have ca:=az h;have c0:=cU.bW h 0 z;have f0:iI a (X b 0)=bD:=h.bS;have B:=lQ P.st.f P.st.l 1;have h1:=h.jh 1;generalize hW:cP a (X b 0) (iD 1)=W1 at B h1;let⟨b0,q1,q2,q3⟩:=(P.f.eQ B).ex;have eb:b0=mb:=by rw[q1]at bl;grind
 subst eb;have ab:=wz T d h1 hc q1 q2;rw[hg]at ab;simp only at ab
 have HX:=ak (λW2(hb:gD (G<|H W1) W1 W2)=>show bA W2 (X b 16)=M (.map<|M b0)/\kP W2 b0 (Dn d)/\∀g,kP g b0 ((Dn d).dP T)->W2.grownBy g (M b0)->bA g (X b 7)=M s.L/\(∀O,I aC g O->bA O (X b 7)=M s.L/\iI O (X b 7)=bD/\cR bN 95 #[aJ b] O (λaU N=>∃v',∃E:eD,aU=aN v'/\E.Perm (Gi<|rU d T)/\fE N (G<|H O) 104 1 v' (y E) (E.map<|Value.int .u64)/\I aC O N)/\∀v'(E:eD)u,E.Perm (Gi<|rU d T)->I aC O u->fE u (G<|H O) 104 1 v' (y E) (E.map<|Value.int .u64)->cR bN 94 #[s.L,v'] u (λaU N=>∃e,aU=aN e/\fE N (G<|H u) 223 4 e (y<|kT (rU d T) i []) (bj<|kT (rU d T) i [])/\I aC u N))/\∀m e,I aC g m->fE m (G<|H g) 223 4 e (y<|kT (rU d T) i []) (bj<|kT (rU d T) i [])->bA m (X b 7)=M s.L/\iI m (X b 7)=bD/\∀w,w=cP m (X b 7) e->bA w (X b 0)=M (iD 1)/\iI w (X b 0)=bD/\cU (cP w (X b 0)<|iD 0) b {s with L:=e} 0/\Inv K j4 (cP w (X b 0)<|iD 0) b {s with L:=e} f (kT (rU d T) i []) l C F cp c k (rU d T)/\I (λt=>(f.j s.f t\/t=b)\/t=b0) a (cP w (X b 0)<|iD 0)from by
  have bh:=B.aj<|qV (j3:=b) B.ok hb;have av:cU W2 b s 1:=h1.aA (I.p (S:=aC) hb) id;have aV:=P.eQ (s':=s) ca bh z (aq _) z;let⟨b1,p1,p2,p3⟩:=aV.f.ex;have bv:b1=b0:=by rw[p1]at q1;grind
  subst bv;refine⟨p1▸av.u z,p2,λg o aa=>?_⟩;rw[TC]at o;have aD:I (λt=>t=b1) W2 g:=gI aa;have al:=Jl T d;have bk:y (rU d T)<=4:=aR al.length_le P.f.dL;have j:=aV.rX (s':=s) (N':=k) p1 z aD o bk ⟨P.S.1,λp hp=>P.S.2 p<|al.subset hp⟩ (aq _) P.v;have A:cU g b s 1:=(aD.A b (az av)<|λF=>p3.ne F.symm).trans av;have bq:I (λt=>(f.j s.f t\/t=b)\/t=b1) a g:=(bh.aA.aT<|λ_ F=>J<|J F).aj aD<|λ_ F=>J<|bu F;refine⟨A.u z,λO ac=>?_,λm e p r=>?_⟩
  .have V:cU O b s 1:=A.aA ac id;refine⟨V.u z,V.bS,wy (b:=b1) (rU d T) V p1 (o.dU<|ac.A _ o.lt id) bk,λv' E u hp n q=>?_⟩;have W:lG u s.L i:=(ac.t n).bV j.st.D<|λt hk=>⟨id,(j.st.L t hk).lt⟩;have:=yx E W j.st.o.zy (gW j.x j.L) (dQ q) (by have:=hp.length_eq;rw[qN]at this;omega) (λt hk=>au (j.st.L t hk).lt (ac.t n).D)<|λt hk=>(aS q t hk).2;rwa[BH hp]at this
  .have V:cU m b s 1:=A.aA p id;refine⟨V.u z,V.bS,λw x=>?_⟩;subst x;have bL:gl g m s.f b f f:=⟨j.st.f.aA p<|λ_ _=>id,p.aT cY,λ_ F=>J F,Fx.bI _⟩;have ao:=j.eQ (s':=s) (az A) bL z (aq _) z;have hA6:∀t,cN e=M t->Aside m f s.f b t:=λt hk=>by
    have h1:=aS r t hk;exact⟨h1.2,λF=>bP<|j.st.f.lt t F,λF=>bP<|az A⟩
   have ax:gl m (cP m (X b 7) e) s.f b f f:=(gl.bI ao.st.f).gu ao.st.l 7 e;have bx:=ao.eQ (s':=s) (az V) ax z (aq _) z;have cc:lG (cP m (X b 7) e) e (kT (rU d T) i []):=Gv (dQ r) ax hA6;have ap:=bx.p cc (λt hk=>(hA6 t hk).eQ ax);have W:cU (cP m (X b 7) e) b {s with L:=e} 1:=(aY V).trans rfl;have bT:=lQ ap.st.f ap.st.l 0;have br:=bq.t p;exact⟨W.u z,W.bS,W.jh 0,ap.eQ (az W) bT z (aq _) z,(br.aL b 7 _ (J (J (bu z)))).aL b 0 _ (J (J (bu z)))⟩)
 let⟨x7,n7,cj⟩:=cG P.st.D;rw[cj]at HX;clear h P B h1 hc q1 q2 q3 hg bl;go_enter_defers func42,ntmps42
 go_wp21;go_call ng (X b 0) _ c0 f0 as aU N⟨rfl,ck⟩;rw[hW]at ck;subst N;go_wp21;go_call ab as aU W2⟨rfl,hb⟩;let⟨cn,cb,ce⟩:=HX W2 hb;clear hb ab;go_wp2_with(at_delete;refine FR _ z _ _ 94 3 z 104 underlying94 underlying3 b0 (Dn d) z cb T z ?_;intro g o aa;have bt:=ak o;have bs:=ak aa;clear o aa)
 rename_i QQ KK bf;let⟨j7,bg,ch⟩:=ce g bt bs;have D:I aC g g.drew:=cf _ g;let⟨bE,_,bm,cd⟩:=bg g.drew D;clear j7 cn;refine Code.wp_mono (Q:=λaU l a=>aU=Exit.normal/\KK l a) (λaU l a h=>by obtain⟨rfl,h⟩:=h;exact h) ?_;refine cX (λj4=>bA j4 (X b 7)=M (am x7 (y i) n7)) 10 aH ?_;refine dH 0 ?_;iterate 6 (refine vg (v:=?_) bE z aH (λ_ _ _ h=>by cases h.1) rfl ?_ ?_;rotate_left;(focus(rintro j4 z0;go_simp;try rfl));simp only[ii,eh,fU,ke])
 apply eS;refine aW 6 ?_;intro K6 ba;go_simp;go_call bm as aU u⟨v5,E,rfl,bo,q,n⟩;have bn:=cd v5 E u bo n q;let⟨y5,d5,cl⟩:=aM q;subst cl;refine ba _ _ (λ_=>(bg u<|D.t n).1) ?_;try simp only[ii,eh,fU]
 clear ba q bm bo;refine aW 7 ?_;intro K7 bb;go_simp;go_call bn as aU m⟨e,rfl,r,p⟩;have an:I aC g m:=(D.t n).t p;have bp:G (H g)<=G (H u):=(D.t n).D;obtain⟨z7,g7,bi⟩:=ch m e an<|fj r bp;obtain⟨y6,d6,cm⟩:=aM r;subst cm;refine bb _ _ (λ_=>z7) ?_;try simp only[ii,eh,fU]
 clear bb r bn n p an bp D;refine aW 8 ?_;intro K8 bc;go_simp;refine bc _ _ (λ_=>z7) ?_;try simp only[ii,eh,fU]
 clear bc;refine aW 9 ?_;intro K9 bd;go_simp;refine bd _ _ (λ_=>z7) ?_;try simp only[ii,eh,fU]
 clear bd;refine aW 10 ?_;intro co ad;go_simp;refine ad _ _ wX ?_;try simp only[ii,eh,fU]
 clear ad;refine dG aH ?_ _;refine⟨z,?_⟩;obtain⟨w,x⟩:∃w,w=cP m (X b 7) (am y6 (y<|kT (rU d T) i []) d6):=⟨_,rfl⟩;obtain⟨d0,g0,hF⟩:=bi w x;rw[<-x];clear x z7 g7;apply bf;clear bf;go_wp2;exact fD d0 g0 ⟨_,gH z _ _ _,z,_,hF⟩
end
def SR.yC(s:SR)(u0 u1 u2 u3:ae)(next b a:R)(c:eN):SR:={s with l0:=u0,l1:=u1,l2:=u2,l3:=u3,t:=next,l:=b,S:=a,x:=c}
def J6(bT:Z)(b:R)(s:SR)(cb:Y)(nf:R)(db cB:R->R->R->Z->ae->ae->ae->ae->Prop)(E:Z->Prop)(t:fC)(h:cU bT b s cb)(co:∀q,t q->q<G (H bT))(cp:¬t b)(hE:∀ca W',E ca->I (λq=>q=b) ca W'->E W')(hL:cR bN 67 #[aJ s.f] bT λbg m=>(∃(next c a:R)(D:Option Addr)(x v:R)(F:Option Addr)(A c1:R)(L:Option Addr)(B c2:R)(N:Option Addr)(C c3:R),bg=aN (de #[ef #[bw next,bw c,bw a,am D x v,am F A c1,am L B c2,am N C c3],ic])/\db next c a m (am D x v) (am F A c1) (am L B c2) (am N C c3)/\I t bT m)\/K/\∃q,bg=aN (de #[ef #[bw 0,bw 0,bw 0,aF,aF,aF,aF],eW q])/\tD m q/\I t bT m/\E m)(hO:∀next c a W1 ca v0 v1 v2 v3,db next c a W1 v0 v1 v2 v3->I aC W1 ca->cR bN 68 #[aJ s.f,ef #[v0,v1,v2,v3]] ca λbg m=>∃D x v F A c1 L B c2 N C c3 ev,bg=aN (de #[ef #[am D x v,am F A c1,am L B c2,am N C c3],ev])/\((ev=ic/\cB next c a m (am D x v) (am F A c1) (am L B c2) (am N C c3))\/(K/\∃q,ev=eW q/\tD m q/\E m))/\I t ca m)(hS:∀next c a ca u0 u1 u2 u3,cB next c a ca u0 u1 u2 u3->∀W',I (λq=>q=b) ca W'->cB next c a W' u0 u1 u2 u3/\cR bN 22 #[aJ s.f] W' λbg m=>∃dd u,bg=aN (am dd nf u)/\I aC W' m):cR bN 28 #[aJ b] bT λbg m=>(bg=aN ic/\∃next c a u0 u1 u2 u3,cU m b (s.yC u0 u1 u2 u3 next c a<|decide<|0<nf) cb/\cB next c a m u0 u1 u2 u3/\I (λq=>t q\/q=b) bT m)\/K/\∃q,bg=aN (eW q)/\tD m q/\E m/\I (λq=>t q\/q=b) bT m:=by
 have cs:=az h;have k2:=cU.bW h 2 z;go_in
 go_wp21;go_call hL as bg e(⟨next,c,a,D,x,v,F,A,c1,L,B,c2,N,C,c3,rfl,bp,w⟩|⟨hX,q,rfl,hq,w,bs⟩);rotate_left;(.let⟨HQ,cj,cd⟩:=eU hq w bs;clear hq w hL bs;go_wp2;go_ret;exact bu ⟨hX,q,z,HQ.aA (cI aC e) cY,hE _ _ cd<|(cI aC e).aT cY,(cj.aT<|λ_ u=>J<|J u).aE _⟩);let⟨j,ac⟩:∃j,dw e (aK #[bw next,bw c,bw a,am D x v,am F A c1,am L B c2,am N C c3] 161)=j:=⟨_,rfl⟩;have V:I aC e j:=ac▸(cI aC e);have f:j.heap[G<|H e]?=M (aK #[bw next,bw c,bw a,am D x v,am F A c1,am L B c2,am N C c3] 161 (0,0)):=ac▸aQ _ rfl;have bc:I t bT j:=w.t V;have S:cU j b s cb:=(bc.A b cs cp).trans h;have:=w.D;let⟨cl,bk,ce,ck,aa,p⟩:=nU ac V bp bc S f;clear bp w bc S f ac V hL;go_wp21;rw[ag cl];rename_i KK aD;have S:=ag aa;have f:=ag p;have aV:bA j.drew (X b 2)=M (aJ s.f)/\bA j.drew (X (G<|H e) 3)=M (am D x v)/\bA j.drew (X (G<|H e) 4)=M (am F A c1)/\bA j.drew (X (G<|H e) 5)=M (am L B c2)/\bA j.drew (X (G<|H e) 6)=M (am N C c3):=⟨S.u z,by show bA j _=_;rw[cE f];rfl,by show bA j _=_;rw[cE f];rfl,by show bA j _=_;rw[cE f];rfl,by show bA j _=_;rw[cE f];rfl⟩;clear S f;have ch:=ak (show∀K:Z,(∀q,q=b\/q=G (H e)->K.heap[q]?=j.heap[q]?)->bA K (X b 2)=M (aJ s.f)/\bA K (X (G<|H e) 3)=M (am D x v)/\bA K (X (G<|H e) 4)=M (am F A c1)/\bA K (X (G<|H e) 5)=M (am L B c2)/\bA K (X (G<|H e) 6)=M (am N C c3)fromλK hX=>by have hb:cU K b s cb:=(hX b<|J z).trans aa;have hs:=(hX _<|bu z).trans p;exact⟨hb.u z,by rw[cE hs];rfl,by rw[cE hs];rfl,by rw[cE hs];rfl,by rw[cE hs];rfl⟩);refine cX (λ(K:Z)=>bA K (X b 2)=M (aJ s.f)/\bA K (X (G<|H e) 3)=M (am D x v)/\bA K (X (G<|H e) 4)=M (am F A c1)/\bA K (X (G<|H e) 5)=M (am L B c2)/\bA K (X (G<|H e) 6)=M (am N C c3)) 14 aH ?_;refine dH 0 ?_;iterate 7 (refine fX aV ?_;simp only[ii,eh,ke])
 apply eS;refine aW 7 ?_;intro K7 ax;go_simp;go_call hO _ _ _ e j.drew _ _ _ _ ce (bk.t<|cf aC j)as bg w3⟨z0,l0,d0,z1,l1,d1,z2,l2,d2,z3,l3,d3,ev,rfl,cr,bd⟩;have n:I t j w3:=(cf t j).aj bd<|λ_ u=>J u;have:=az p
 have g:∀q,q=b\/q=G (H e)->w3.heap[q]?=j.heap[q]?:=λq hq=>n.A q (by have:=az aa;obtain u|u:=hq<;>omega) (λu=>by
  obtain dc|dc:=hq
  .grind
  .have:=co q u;omega)
 have ab:=ch w3 g;refine ax _ _ (λ_=>ab) ?_;try simp only[ii,eh]
 refine dH 8 ?_;iterate 5 (refine fX ab ?_;simp only[ii,eh,ke])
 apply eS;refine aW 13 ?_;intro cM O;have k:cU w3 b s cb:=(g b<|J z).trans aa;have fz:∀cx,iI w3 (X b cx)=bD:=λcx=>k.bS;have bl:=cU.bW k 10 z;have bm:=cU.bW k 11 z;have bn:=cU.bW k 12 z;have bo:=cU.bW k 13 z;go_simp;let⟨o,Q⟩:∃o,cP (cP (cP (cP w3 (X b 10)<|am z0 l0 d0) (X b 11)<|am z1 l1 d1) (X b 12)<|am z2 l2 d2) (X b 13) (am z3 l3 d3)=o:=⟨_,rfl⟩;have l:cU o b {s with l0:=am z0 l0 d0,l1:=am z1 l1 d1,l2:=am z2 l2 d2,l3:=am z3 l3 d3} cb:=by rw[<-Q];exact(aY<|aY<|aY<|aY k).trans z
 have i:I (λq=>q=b) w3 o:=by rw[<-Q];exact(((iQ b w3).aL b 11 _<|J z).aL b 12 _<|J z).aL b 13 _<|J z
 have d:o.heap[G<|H e]?=M (aK #[bw next,bw c,bw a,am D x v,am F A c1,am L B c2,am N C c3] 161 (0,0)):=(i.A _ (bP n.D) U).trans<|(g _<|bu rfl).trans p;rw[Q];have aU:bA o (X b 2)=M (aJ s.f)/\bA o (X (G<|H e) 3)=M (am D x v)/\bA o (X (G<|H e) 4)=M (am F A c1)/\bA o (X (G<|H e) 5)=M (am L B c2)/\bA o (X (G<|H e) 6)=M (am N C c3):=⟨l.u z,by rw[cE d];rfl,by rw[cE d];rfl,by rw[cE d];rfl,by rw[cE d];rfl⟩;refine O _ _ (λ_=>aU) ?_;try simp only[ii,eh]
 refine aW 14 ?_;intro cT P;go_simp;refine P _ _ wX ?_;refine dG aH ?_ _;show KK _ _;apply aD;have s0:=aX d 0;have s1:=aX d 1;have s2:=aX d 2;have v9:=cU.bW l 9 z;have cu:=cU.bW l 14 z;have cv:=cU.bW l 17 z;have cn:∀cx,iI o (X b cx)=bD:=λcx=>l.bS;have:G (H e)≠b:=U;have:=az l;have:=az d;have r:I (λq=>t q\/q=b) bT o:=((ck.aT (T:=λq=>t q\/q=b)<|λ_ u=>J<|J u).aj n<|λ_ u=>J<|J u).aj i<|λ_ u=>J<|bu u;obtain⟨rfl,bq⟩|⟨hX,q,rfl,hq,bt⟩:=cr;rotate_left;(.let⟨HQ,av,cd⟩:=eU (hq.aA i k.nZ) r<|hE _ _ bt i;clear aD ax O P aU ab aV k l i d fz bl bm bn bo g n bd Q r k2 hq bt;go_wp2;go_ret;exact bu ⟨hX,q,z,HQ,cd,av⟩);let⟨bi,cc,an,av⟩:=js (hS _ _ _ w3 _ _ _ _ bq) l i r;clear aD ax O P aU ab aV k l i d fz bl bm bn bo g n bd bq Q r k2;go_wp21;rename_i cm ao;apply PT cm;(.intro cd;(go_region);all_goals exact cd);refine ao _ _ ?_;clear ao;let⟨W6,ba⟩:∃W6,(cP (cP (cP o (X b 14)<|bw next) (X b 17)<|bw c) (X b 9)<|bw a).drew=W6:=⟨_,rfl⟩;have W:I (λq=>q=b) o W6:=by rw[<-ba];exact(((iQ b o).aL b 17 _<|J z).aL b 9 _<|J z).aj (cf (λq=>q=b) _)<|λ_ u=>J u
 have bb:cU W6 b (s.yC (am z0 l0 d0) (am z1 l1 d1) (am z2 l2 d2) (am z3 l3 d3) next c a s.x) cb:=by rw[<-ba];exact Eq.trans (show _=_ from aY<|aY<|aY cc) z
 have bx:=bi W6<|an.aj W<|λ_ u=>J u;have:=cU.bW bb 2 z;have bv:=bx.2;clear bx s0 s1 s2 v9 cu cv cn;rw[ba];go_wp21;go_call bv as bg w7⟨x7,c7,rfl,al⟩;have ad:cU w7 b (s.yC (am z0 l0 d0) (am z1 l1 d1) (am z2 l2 d2) (am z3 l3 d3) next c a s.x) cb:=(al.A b (az bb) id).trans bb;have:=cU.bW ad 21 z;have:iI w7 (X b 21)=bD:=ad.bS;have bf:I (λq=>q=b) w7 (cP w7 (X b 21)<|aO<|decide<|0<nf):=(iQ b w7);have br:cU (cP w7 (X b 21)<|aO<|decide<|0<nf) b (s.yC (am z0 l0 d0) (am z1 l1 d1) (am z2 l2 d2) (am z3 l3 d3) next c a<|decide<|0<nf) cb:=(aY ad).trans rfl;have ap:=((an.aj W<|λ_ u=>J u).t al).aj bf<|λ_ u=>J u;have bE:=(bi _ ap).1;have bL:I (λq=>t q\/q=b) bT (cP w7 (X b 21)<|aO<|decide<|0<nf):=((av.aj W<|λ_ u=>J<|bu u).t al).aj bf<|λ_ u=>J<|bu u;have bh:=ak<|And.intro br (And.intro bE bL);have:decide ((0:Y)<(nf:Y))=decide (0<nf):=ar;clear ad bf br ap bE bL al bv;go_wp2;go_ret;exact J ⟨z,next,c,a,am z0 l0 d0,am z1 l1 d1,am z2 l2 d2,am z3 l3 d3,bh⟩
def Fp(m:Mk):eD:=le 8 m.cK++(le 4 m.ut++(le 4 m.f++le 4 m.L))
def Fq(D:cy Mk):eD:=le 4 (y D)++D.flatMap Fp
def L7(c b a:R)(r:eD):eD:=le 8 c++(le 8 b++(le 8 a++r))
def Q7(d c b:R)(a:cy (cy Mk)):eD:=ik<|L7 d c b (a.map Fq).flatten
def Ib(m:Mk):y (Fp m)=20:=by simp[Fp,dh]
def AV(D:cy Mk):y (D.flatMap Fp)=20*y D:=by
 induction D with
 |nil=>rfl
 |cons m D a=>rw[dR,ai,a,Ib,bK];omega
def Wy(a:cy (cy Mk)):20*y a.flatten<=y (a.map Fq).flatten:=by
 induction a with
 |nil=>simp
 |cons D a b=>
  rw[di,ai,bO,di,ai,Fq,ai,AV];omega
def E6(d c b:R)(a:cy (cy Mk)):20*y a.flatten<=y (Q7 d c b a):=by
 have:=Wy a;simp only[Q7,L7,iB,ai];omega
structure DO(pre:eD)(nx lg bt i:R)(Ds:cy (cy Mk))(rest:eD)(s:eN):Prop where
 L:kj rest
 dL:y rest<=y pre
 v:∀j D,i<=j->Ds[j]?=M D->D=[]
 ok:∀D∈Ds,∀m∈D,m.Ok
 enc:s=bD->pre=L7 nx lg bt (((Ds.take i).map Fq).flatten++rest)
structure DQ(pre:eD)(nx lg bt i n k:R)(Ds:cy (cy Mk))(rest:eD)(s:eN):Prop where
 L:kj rest
 dL:y rest<=y pre
 v:∀j D,i<j->Ds[j]?=M D->D=[]
 ok:∀D∈Ds,∀m∈D,m.Ok
 l:∃D,Ds[i]?=M D/\y D=k/\(s=bD->pre=L7 nx lg bt (((Ds.take i).map Fq).flatten++(le 4 n++(D.flatMap Fp++rest))))
def DQ.xL{d:cy (cy Mk)}{a:eD}(h:DQ m b c k n T T d a V):DO m b c k (n+1) d a V:=by
 obtain⟨D,e,f,g⟩:=h.l;have j:=(ir.1 e).1;refine⟨h.L,h.dL,λp E o i=>h.v p E U i,h.ok,λq=>?_⟩;rw[g q,aG j,bz,lW];have l:d[n]=D:=(ir.1 e).2;simp[l,Fq,f]
def DQ.Gh{x w:R}{e:cy (cy Mk)}{D:cy Mk}{rest a:eD}{p:Mk}(h:DQ m b c k n x w e rest V)(g:e[n]?=M D)(C:p.Ok)(t:kj a)(B:y a<=y rest)(o:V=bD/\rest=Fp p++a):DQ m b c k n x (w+1) (e.set n<|D++[p]) a bD:=by
 obtain⟨A,j,r,s⟩:=h.l;rw[g]at j;cases j;refine⟨t,bP h.dL,λF E v d=>?_,λE d q i=>?_,D++[p],?_,by simp[r],λ_=>?_⟩;rw[fJ U]at d;exact h.v F E v d;obtain f|f:=jM d;exact h.ok E f q i;rw[f]at i;obtain f|f:=aP.1 i;exact h.ok D (iz g) q f;rwa[bY.1 f];rw[xZ<|(ir.1 g).1];rw[s o.1,o.2,List.take_set_of_le<|aq _];simp
def DcP(w j:Z)(o:eD)(q:Ending):Prop:=∃(d c b:R)(k:Option Addr)(f e:R)(l:Option Addr)(g c1:R)(m:Option Addr)(h c2:R)(n:Option Addr)(i c3:R)(ok:eN),q=aN (de #[ef #[bw d,bw c,bw b,am k f e,am l g c1,am m h c2,am n i c3],aO ok])/\I aC w j/\(ok=cz->(d<18446744073709551616/\c<18446744073709551616/\b<18446744073709551616)/\∃a:cy (cy Mk),y a=4/\o=Q7 d c b a/\(∀D∈a,∀r∈D,r.Ok)/\∀(p:R)(v:ae)(D:cy Mk),[am k f e,am l g c1,am m h c2,am n i c3][p]?=M v->a[p]?=M D->fE j (G<|H w) 234 4 v (y D) (mZ D))
abbrev Gp(V:Z)(g:R)(e f h:Y)(a b c d:ae):Z:=((((((V.setCell (X g 0)<|bw e).setCell (X g 1)<|bw f).setCell (X g 2)<|bw h).setCell (X g 3) a).setCell (X g 4) b).setCell (X g 5) c).setCell (X g 6) d
def KX{g k f j l:Y}{c e m n o p:ae}{T:TypeId}(h:a.heap[b]?=M (aK #[bw f,bw j,bw l,m,n,o,p] T (0,0))):(Gp a b r g k d w c e).heap[b]?=M (aK #[bw r,bw g,bw k,d,w,c,e] T (0,0)):=by
 simpa using(aY (i:=6) (u:=e)<|aY (i:=5) (u:=c)<|aY (i:=4) (u:=w)<|aY (i:=3) (u:=d)<|aY (i:=2) (u:=bw k)<|aY (i:=1) (u:=bw g)<|aY (i:=0) (u:=bw r) h)
def uK(V:Z)(g:R)(e f h:Y)(a b c d:ae):I (λk=>k=g) V (Gp V g e f h a b c d):=(((((((I.bI (λk=>k=g) V).aL g 0 (bw e)<|J z).aL g 1 (bw f)<|J z).aL g 2 (bw h)<|J z).aL g 3 a<|J z).aL g 4 b<|J z).aL g 5 c<|J z).aL g 6 d<|J z
def S7(b:R)(l m n:Y)(p q r s:ae)(a:Z):Prop:=bA a (X b 0)=M (bw l)/\bA a (X b 1)=M (bw m)/\bA a (X b 2)=M (bw n)/\bA a (X b 3)=M p/\bA a (X b 4)=M q/\bA a (X b 5)=M r/\bA a (X b 6)=M s
def S7.gu{j g:R}{r s w a c d:Y}{A q B C t u v x:ae}(h:S7 j r s w A q B C e)(b:j≠g):S7 j r s w A q B C (Gp e g a c d t u v x):=by
 obtain⟨f,k,l,m,n,o,p⟩:=h;have T:=uK e g a c d t u v x;have L:=so f;exact⟨T.u f b L,T.u k b L,T.u l b L,T.u m b L,T.u n b L,T.u o b L,T.u p b L⟩
def S7.g{b:R}{l m n:Y}{p q r s:ae}{T:TypeId}(h:a.heap[b]?=M (aK #[bw l,bw m,bw n,p,q,r,s] T (0,0))):S7 b l m n p q r s a:=⟨aX h 0,aX h 1,aX h 2,aX h 3,aX h 4,aX h 5,aX h 6⟩
def rd8(b:R){s:eN}(a:kj m)(e:y m<=140737488351232):∃(m9:R)(m8:eD)(t:eN),(m9<18446744073709551616/\kj m8/\y m8<=y m/\(t=bD->s=bD/\m=le 8 m9++m8))/\∀W,Rd W b m s->cR bN 177 #[aJ b] W λf c=>f=aN (bw m9)/\Rd c b m8 t/\W.grownBy c (M b):=by
 have n:=jV (n:=8) (m6:=s) a;obtain⟨m9,h⟩:∃m9:R,dz m s 8=m9:=⟨(dz m s 8).toNat,U⟩;exact⟨m9,_,_,⟨U,a.lP.1,(je m s 8).1,λq=>h▸OR a q⟩,λW d=>h▸Hf d a e⟩
def rd4(a:R){s:eN}(b:kj m)(e:y m<=140737488351232):∃(m9:R)(m8:eD)(t:eN),(m9<4294967296/\kj m8/\y m8<=y m/\(t=bD->s=bD/\m=le 4 m9++m8))/\∀W,Rd W a m s->cR bN 178 #[aJ a] W λf c=>f=aN (eI m9)/\Rd c a m8 t/\W.grownBy c (M a):=by
 have n:=jV (n:=4) (m6:=s) b;obtain⟨m9,h⟩:∃m9:R,dz m s 4=m9:=⟨(dz m s 4).toNat,U⟩;exact⟨m9,_,_,⟨U,b.lP.1,(je m s 4).1,λq=>h▸Cp b q⟩,λW d=>h▸vp a s W d b e⟩
def SX{dc:eD}(hT:Steps e)(hb:Bytes e w dc)(dn:kj dc)(cb:y dc<=10000000000000)(A:∀fd,cN w=M fd->fd<G (H e)):cR bN 116 #[w] e λF w'=>DcP e w' dc F:=by
 obtain⟨i0,hu,hG,hH,hI⟩:=cZ Pk;obtain⟨u0,hB,hF,ip,it⟩:=cZ Hn;have hU:∀(hY:eN)(e:Z),(Op.unary .not<|aO hY).run bN e=.ok (aO<|!hY) e:=λ_ _=>rfl;have ih:=@tE bN;obtain⟨W0,O⟩:=oh<|dw e<|aK #[bw 0,bw 0,bw 0,aF,aF,aF,aF] 161;have dx:I aC e W0:=by rw[<-O];exact(cI _ e)
 have ac:W0.heap[G<|H e]?=M (aK #[bw 0,bw 0,bw 0,aF,aF,aF,aF] 161 (0,0)):=by rw[<-O];exact aQ _ z
 have il:G (H W0)=G (H e)+1:=by rw[<-O];simp
 have dT:=Bw w dc (w:=W0) (by rw[<-O];exact hT.aE _) (by rw[<-O];exact hb.aE _) dn U;have er:=ak (show∀bi,I aC W0 bi->(Gp bi (G<|H e) 0 0 0 aF aF aF aF).heap[G<|H e]?=M (aK #[bw 0,bw 0,bw 0,aF,aF,aF,aF] 161 (0,0))/\DcP e (Gp bi (G<|H e) 0 0 0 aF aF aF aF) dc (aN<|de #[ef #[bw 0,bw 0,bw 0,aF,aF,aF,aF],aO bD])fromλbi hV=>by have h1:=(hV.A _ (az ac) id).trans ac;exact⟨KX h1,0,0,0,dE,0,0,dE,0,0,dE,0,0,dE,0,0,bD,z,(dx.t hV).aj (uK bi (G<|H e) 0 0 0 aF aF aF aF) ar,ar⟩);have ej:=ak (show∀bi,I aC W0 bi->(∀C,iI bi (X (G<|H e) C)=bD)/\S7 (G<|H e) 0 0 0 aF aF aF aF bi/\G (H e)<G (H bi)fromλbi hV=>by have h1:=(hV.A _ (az ac) id).trans ac;exact⟨λC=>by simp[World.frozen?,h1],.g h1,az h1⟩);obtain⟨ei,eA,et,hp,eo,HV⟩:=nU hb dx ac O dn A;clear hb hT dx ac O dn A;go_in
 go_wp2_with fail
 rw[ag hp];apply dT.mono;rintro F w1⟨⟨rfl,hw⟩|⟨fd,l,an,f,rfl,gc,ao,rfl⟩,bd⟩;(.have j:I aC W0 w1:=I.p bd;obtain⟨hQ,⟨t0,t1,t2,t3,t4,t5,t6⟩,P⟩:=ag ej w1 j;have ad:=ak j;clear dT bd hw j;go_wp2;obtain⟨q1,q2⟩:=ag er _<|ag ad;refine ci (mE z _ _ (G<|H e) 0 0 0 _ _ _ _ _ _ z q1 ⟨_,_,_,z⟩ ⟨_,_,_,z⟩ ⟨_,_,_,z⟩ ⟨_,_,_,z⟩) z ?_;exact q2);have hy:y f<=10000000000000:=by rw[ao,iB]at cb;omega
 have fL:kj f:=by have h:=ag eo;rw[ao]at h;exactλhY b=>h hY<|by simp[ik,b]
 have fl:Bytes e (bX fd l (y f) an) f:=by have hb:=ag ei;rw[ao]at hb;unfold ik at hb;obtain⟨F,_⟩|⟨o,r,p,F,gc,i⟩:=hb;cases F;simp only[Value.slice.injEq,wa,Addr.mk.injEq]at F;obtain⟨⟨rfl,rfl,_⟩,_,rfl⟩:=F;refine bu ⟨_,_,_,z,U,λD hk=>?_⟩;have:=i D dW;rw[iu hk]at this;exact this
 have fk:fd<G (H e):=ag HV fd z;have hh:=ak ao;have j:I aC W0 w1:=I.p bd;have dk:I aC e w1:=(ag eA).t j;have fi:Bytes w1 (bX fd l (y f) an) f:=fl.dD (dk.dD (aq _) cY) (λD hk=>by cases hk;exact fk);have hz:=dk.D;have gk:=j.D;have ds:=oN fi (by intro D hk;cases hk;show fd<_;omega);have ad:=ak j;clear fl ao dT bd j dk fi ei HV eo cb;obtain⟨PL,dd⟩:=oh<|y f;rw[dd]at ds hy gc|-;have k:=ak dd;clear dd;go_wp2_with fail
 apply ds.mono;rintro F w2⟨rfl,ba,bg⟩;subst bg;obtain⟨K,dv⟩:=oh<|G<|H w1;have ey:=ak<|(ag ad).aE<|aK #[bX fd l PL an,aO bD] 380;have hJ:G (H W0)<=K:=U;have hA:K<G (H<|dw w1<|aK #[bX fd l PL an,aO bD] 380):=by simp[dv]
 rw[dv]at ba|-;have hX:G (H e)<K:=U;clear ds dv hz gk;generalize dw w1 (aK #[bX fd l PL an,aO bD] 380)=w2 at*;obtain⟨next,A1,A2,⟨n1,i1,l1,v1⟩,x⟩:=rd8 K (s:=bD) fL<|bP<|ag k;obtain⟨c,B1,B2,⟨n2,i2,l2,v2⟩,av⟩:=rd8 K (s:=A2) i1<|bP<|ag k;obtain⟨b,C1,C2,⟨n3,i3,l3,v3⟩,ax⟩:=rd8 K (s:=B2) i2<|bP<|ag k;have x:=x _ ba;clear ba fL;have bt:next<18446744073709551616/\c<18446744073709551616/\b<18446744073709551616:=U
 have bc:DO f next c b 0 [[],[],[],[]] C1 C2:=by refine⟨i3,U,λcx ec _ hD=>?_,ar,λq=>?_⟩;obtain _|_|_|_|cx:=cx<;>simp at hD<;>exact hD;obtain⟨q2,e3⟩:=v3 q;obtain⟨q1,e2⟩:=v2 q2;obtain⟨_,e1⟩:=v1 q1;rw[e1,e2,e3];simp[L7]
 have hi:=ak bc;have he:=ak bt;clear v1 v2 v3 i1 i2 i3 l1 l2 l3 bc bt;go_wp2_with fail
 apply x.mono;rintro F w3⟨rfl,cl,fs⟩;have ga:=av w3 cl;have em:=ak fs;clear cl fs x av;go_wp2_with fail
 apply ga.mono;rintro F w4⟨rfl,cm,fu⟩;have gb:=ax w4 cm;have en:=ak fu;clear cm fu ga ax;go_wp2_with fail
 apply gb.mono;rintro F V⟨rfl,cn,fv⟩;have bb:I (λD=>D=K) w2 V:=((gI em).aj (gI en)<|λ_ h=>J h).aj (gI fv)<|λ_ h=>J h;have al:=ak<|ey.aj bb<|λD hk=>bu U;have gn:K<G (H V):=bP bb.D;have bq:=ak cn;have cs:mL (dw (dw V<|aK #[bw next,bw c,bw b,aF,aF,aF,aF] 161)<|.map #[] 0) (G (H V)+1) (.int .u64) aC:=by have:=mL.lY (dw V<|aK #[bw next,bw c,bw b,aF,aF,aF,aF] 161)<|.int .u64;simp_all
 have fn:(dw (dw V<|aK #[bw next,bw c,bw b,aF,aF,aF,aF] 161)<|.map #[] 0).heap[G<|H V]?=M (aK #[bw next,bw c,bw b,aF,aF,aF,aF] 161 (0,0)):=(gy _ ar).trans<|aQ _ rfl;have br:=ak cs;have eg:=ak fn;clear cs fn cn fv bb gb em en;go_wp2_with((refine Iz _ z _ _ _ 317 z 104 95 underlying317 (.int .u64) underlying104 (G (H V)+1) _ z br (bw c) z z z ?_;intro w8 gr fx ha;have ex:=ak gr;have cT:=ak fx;have fb:=ak ha;clear gr fx ha))
 have hA0:∃ks,uF W0 w8 (G<|H V) K (G (H V)+1) next c b [aF,aF,aF,aF] [[],[],[],[]] ks C1 C2:=by have i:I (λD=>D=G (H V)+1) V w8:=((cI (λD=>D=G (H V)+1) V).aE _).aj (gI cT)<|λ_ iv=>J iv;refine⟨_,?_,z,z,?_,?_,ex,bq.aA i aI,al.aj i<|λD hk=>bu<|bP<|(ag al).D,⟨hJ,gn,U,?_⟩⟩;exact(cT.block _ dW aI).trans eg;intro cx w T A hT;(have F:w=aF/\T=[]:=by obtain _|_|_|_|cx:=cx<;>simp at A hT<;>exact⟨A.symm,hT⟩);rw[F.1,F.2];exact ct _ _ _ _;intro cx o w p q _ A _ hq;(have F:w=aF:=by obtain _|_|_|_|cx:=cx<;>simp at A<;>exact A.symm);rw[F]at hq;cases hq;rw[ag fb];simp
 have cM:=ak hA0;obtain⟨L,gs⟩:=oh<|G<|H V;rw[gs]at cM|-;obtain⟨mb,gf⟩:=oh<|L+1;rw[gf]at cM|-;clear hA0 ex cT fb br eg bq al gs gf gn hA;go_wp2_with fail
 go_loopw [35] (λe wr=>∃(C:R)(vs:iF)(Ds:cy (cy Mk))(ks:ae->Prop)(n:eD)(cB:eN),C<=4/\e=ay C/\uF W0 wr L K mb next c b vs Ds ks n cB/\DO f next c b C Ds n cB) (λe _=>4-(intOf e).toNat)
 (case atStart=>obtain⟨ks,h⟩:=ag cM;exact⟨0,_,_,ks,_,_,bQ _,z,h,hi⟩)
 case round=>
  obtain⟨C,vs,Ds,ks,n,cB,jB,rfl,o,hO⟩:=hrel;by_cases gd:C<4
  .obtain⟨hd,A1,A2,⟨hR,i4,l4,v4⟩,bh⟩:=rd4 K (s:=cB) hO.L<|gW hO.dL<|ag k;have bh:=bh _ o.rd;have gj:DQ f next c b C hd 0 Ds A1 A2:=by
    have i:C<y Ds:=by rw[o.AZ];exact gd
    have hE:Ds[C]?=M []:=by
     rw[bF i,hO.v C _ (aq _)<|bF i]
    refine⟨i4,bP hO.dL,λcx ec p hD=>hO.v cx ec U hD,hO.ok,[],hE,z,λq=>?_⟩;obtain⟨q0,F⟩:=v4 q;rw[hO.enc q0,F];simp
   obtain⟨HA,hm⟩:=And.intro (ak o) (ak gj);have e1:(C:Y)<4:=U;clear o hO v4 i4 l4 gj;go_wp2_with fail
   apply bh.mono;rintro F w9⟨rfl,co,fz⟩;have hg:=ak<|HA.t (gI fz) co;clear co fz bh HA;go_wp2_with fail
   go_loopw [9] (λe i=>∃(D:R)(vs:iF)(Ds:cy (cy Mk))(ks:ae->Prop)(n:eD)(cB:eN),D<=hd/\e=eI (hd-D:R)/\uF W0 i L K mb next c b vs Ds ks n cB/\DQ f next c b C hd D Ds n cB) (λe _=>(intOf e).toNat)
   case atStart=>exact⟨0,_,_,_,_,_,bQ _,rfl,hg,hm⟩
   case round=>
    obtain⟨D,eb,ed,hc,hK,s2,hk,rfl,hA2,N⟩:=hrel;by_cases ge:D<hd
    .have l0:=N.dL;obtain⟨p,A1,A2,⟨n1,i1,l1,v1⟩,x⟩:=rd8 K (s:=s2) N.L<|bP<|ag k;obtain⟨P,B1,B2,⟨n2,i2,l2,v2⟩,av⟩:=rd4 K (s:=A2) i1<|bP<|ag k;obtain⟨ti,C1,C2,⟨n3,i3,l3,v3⟩,ax⟩:=rd4 K (s:=B2) i2<|bP<|ag k;obtain⟨tc,E1,E2,⟨n4,i4,l4,v4⟩,fr⟩:=rd4 K (s:=C2) i3<|bP<|ag k;have x:=x _ hA2.rd;have cc:∀ec,ed[C]?=M ec->E2=bD->DQ f next c b C hd (D+1) (ed.set C<|ec++[⟨p,P,ti,tc⟩]) E1 bD:=λec hD q=>by
      obtain⟨q3,e4⟩:=v4 q;obtain⟨q2,e3⟩:=v3 q3;obtain⟨q1,e2⟩:=v2 q2;obtain⟨q0,e1⟩:=v1 q1;refine N.Gh hD ⟨by show p<_;omega,by show P<_;omega,by show ti<_;omega⟩ i4 U ⟨q0,?_⟩;rw[e1,e2,e3,e4];simp[Fp]
     obtain⟨ec,ff,fg,fe⟩:=N.l;have aD:s2=bD->D<=10000000000000:=λq=>by
      have:=cD y<|fe q;simp only[L7,ai,AV]at this;have:=ag k;omega
     have cr:E2=bD->s2=bD:=λq=>(v1<|(v2<|(v3<|(v4 q).1).1).1).1;have bp:=ak<|λq=>aD<|cr q;obtain⟨hf,eq,ek⟩:=eU hA2 cc ff;have el:=ak fg;have e2:(0:Y)<((hd-D:R):Y):=U;obtain⟨tw,r⟩:∃tw:eN,tw=cz↔hc (bw p):=by
      obtain q|q:=Classical.em<|hc<|bw p
      .exact⟨cz,by simp[q]⟩
      .exact⟨bD,by simp[q]⟩
     have ho:=ak r;clear hA2 N cc ff fg fe aD cr r v1 v2 v3 v4 i1 i2 i3 i4 l0 l1 l2 l3 l4;go_wp2_with fail
     apply x.mono;rintro F hL⟨rfl,ce,bx⟩;have bg:=av hL ce;have bl:=ak bx;clear ce bx x av;go_wp2_with fail
     apply bg.mono;rintro F hM⟨rfl,ch,bE⟩;have gx:=ax hM ch;have bm:=ak bE;clear ch bE bg ax;go_wp2_with fail
     apply gx.mono;rintro F hN⟨rfl,cj,bL⟩;have gE:=fr hN cj;have bn:=ak bL;clear cj bL gx fr;go_wp2_with fail
     apply gE.mono;rintro F Q⟨rfl,ck,bT⟩;have cu:I (λD=>D=K) wr Q:=(((gI bl).aj (gI bm)<|λ_ h=>J h).aj (gI bn)<|λ_ h=>J h).aj (gI bT)<|λ_ h=>J h;have hA13:=hf.t cu ck;have hA14:=hA13.bH<|(I.bI aC Q).aE<|aK #[bw p,eI P,eI ti,eI tc] 234;have hA15:=hA14.bH<|(I.bI aC _).aE<|aK #[] 95;have hv:=DH underlying317 underlying104 hB hF hA14.gu (bw p) z tw ho;have gt:=Jm hA15.rd;obtain⟨s,hl,E⟩:=eU hA15 (show∀(w:ae)(q:R),eb[C]?=M w->cN w=M q->q<G (H Q)fromλw q A hq=>(hA13.aZ A hq).2)<|show(dw (dw Q<|aK #[bw p,eI P,eI ti,eI tc] 234)<|aK #[] 95).heap[G<|H Q]?=M (aK #[bw p,eI P,eI ti,eI tc] 234 (0,0))from(gy _ ar).trans<|aQ _ rfl;clear ck bT cu hA13 hA14 hA15 gE bl bm bn;go_wp2_with fail
     apply gt.mono;rintro F hP⟨rfl,hW⟩;subst hP;obtain⟨mk,dr⟩:=oh<|G<|H Q;have hj:=ak dr;rw[dr]at E|-;clear hv gt dr;generalize dw (dw Q<|aK #[bw p,eI P,eI ti,eI tc] 234) (aK #[] 95)=db at*;have g0:bA db (X mk 0)=M (bw p):=by rw[cE<|ag E];rfl
     have g1:bA db (X L 0)=M (bw next):=by rw[cE (ag s).g];rfl
     obtain⟨hQ,⟨t0,t1,t2,t3,t4,t5,t6⟩,tz⟩:=ag ej db (ag s).aA;have bs:=ak (ag s).aA;rcases show(E2=cz\/E2=bD/\tw=cz\/E2=bD/\tw=bD/\(next:Y)<=(p:Y))\/E2=bD/\tw=bD/\(p:Y)<(next:Y)by cases E2<;>cases tw<;>simp<;>omega with hE|⟨rfl,rfl,hx⟩
     .obtain rfl|⟨rfl,rfl⟩|⟨rfl,rfl,e3⟩:=hE<;>(go_wp2;obtain⟨q1,q2⟩:=ag er _<|ag bs;refine ci (mE z _ _ (G<|H e) 0 0 0 _ _ _ _ _ _ z q1 ⟨_,_,_,z⟩ ⟨_,_,_,z⟩ ⟨_,_,_,z⟩ ⟨_,_,_,z⟩) z ?_;exact q2)
     have e3:¬((next:Y)<=(p:Y)):=U;have aD:=ag bp z;clear hQ t0 t1 t2 t3 t4 t5 t6 bs hx bp;go_wp2_with(at_mapUpdate;go_loud(refine wH _ z _ _ _ 317 z 104 95 underlying317 (.int .u64) underlying104 mb _ z s.gu (bw p) z z z ?_;intro B cp ca;have ev:=ak cp;have bo:=ak ca;clear cp ca))
     have hA16:=s.p bo ev;have v:=(bo.block mk (az E) (by intro F;have F:=iL F;obtain⟨jA,jk,hZ,_⟩:=s.gu;have h2:=ag E;rw[F,hZ]at h2;cases h2)).trans E;have gv:C<y eb:=by rw[hA16.L];exact gd
     obtain⟨w,A⟩:∃w,eb[C]?=M w:=⟨_,bF gv⟩;have ab:=hA16.l C w _ A ek;obtain⟨ox,oc,gi⟩:=aM ab;rw[ag el]at ab gi;have k0:bA B (X L<|3+C)=M w:=(hA16.u C).trans A;have k1:=aX v 0;have k2:=aX v 1;have k3:=aX v 2;have k4:=aX v 3;have aU:=az hA16.g;have i:=az v;have cd:=hA16.o;obtain⟨es,bk,eB⟩:=eU ab hA16 A;have e0:(0:Y)<=(C:Y):=U;clear hA16 v ab A gv g0 g1;subst gi;have hS:bA B.drew (X L<|3+C)=M (am ox D oc)/\bA B.drew (X mk 0)=M (bw p)/\bA B.drew (X mk 1)=M (eI P)/\bA B.drew (X mk 2)=M (eI ti)/\bA B.drew (X mk 3)=M (eI tc):=by
      rw[cL,cL,cL,cL,cL];exact⟨k0,k1,k2,k3,k4⟩
     refine Bd aH ?_;refine wpAny_take (i:=8) (v:=ee<|M<|X L 3) z aH aH aH (λ_ _ _ h=>h) (J ⟨by rfl,λj4=>?_⟩) ?_
     .go_simp;try with_reducible rfl
     simp only[ii,eh,fU];refine qy (S:=λj4=>bA j4 (X L<|3+C)=M (am ox D oc)/\bA j4 (X mk 0)=M (bw p)/\bA j4 (X mk 1)=M (eI P)/\bA j4 (X mk 2)=M (eI ti)/\bA j4 (X mk 3)=M (eI tc)) (m:=10) _ _ _ _ ?_;refine dH 0 ?_;iterate 6 (refine fX hS ?_;simp only[ii,eh,fU,ke])
     apply eS;refine aW 6 ?_;intro K6 hs;go_simp;refine hs _ _ (λ_=>?_) ?_
     .rw[cL,cL,cL,cL,cL,gQ aU,gQ i,gQ i,gQ i,gQ i];exact⟨k0,k1,k2,k3,k4⟩
     try simp only[ii,eh,fU]
     refine aW 7 ?_;intro K7 ht;try simp only[dl,cF,cO]
     refine lO (.tmp 81) (.tmp 83) 158 z (mb+1) 234 i0 (ef #[bw 0,eI 0,eI 0,eI 0]) 4 24 underlying158 hu hG hH hI z cg (am ox D oc) D (mZ ec) z (ku (bC es<|aK #[bw p,eI P,eI ti,eI tc] 234) z) (X (G<|H B) 0) 1 1 [bw p,eI P,eI ti,eI tc] z z (Am _ _ _ _ _ z) (by simp[Value.oneCell']) U U dW ?_;intro v3 T aV cv;have ea:fo (dw B<|aK #[bw p,eI P,eI ti,eI tc] 234) T (am ox D oc) v3:=fo.df cv z;have hA17:=bk.bH<|(I.bI aC B).aE<|aK #[bw p,eI P,eI ti,eI tc] 234;have bv:=hA17.gL (D':=ec++[⟨p,P,ti,tc⟩]) eB ea (by rw[YJ,ai,ag el];exact aV);have r:=I.fV ea;have gg:cN (am ox D oc)≠M L:=λF=>bP<|(es.lt L F).1;have bf:cN (am ox D oc)≠M mk:=λF=>gW (hl _ _ eB F)<|ag hj;have s0:bA T (X L<|3+C)=M (am ox D oc):=r.u (by rw[gQ aU];exact k0) gg dW;have s1:bA T (X mk 0)=M (bw p):=r.u (by rw[gQ i];exact k1) bf dW;have s2:bA T (X mk 1)=M (eI P):=r.u (by rw[gQ i];exact k2) bf dW;have s3:bA T (X mk 2)=M (eI ti):=r.u (by rw[gQ i];exact k3) bf dW;have s4:bA T (X mk 3)=M (eI tc):=r.u (by rw[gQ i];exact k4) bf dW;have ap:=(r.A L dW gg).trans<|(gy _ aU).trans bk.g;have f0:iI T (X L<|3+C)=bD:=by simp[World.frozen?,ap]
     obtain⟨x3,c3,hC⟩:=aM aV;subst hC;refine ht _ _ (λ_=>⟨s0,s1,s2,s3,s4⟩) ?_;try simp only[ii,eh,fU]
     refine mX (i:=9) (v:=?_) z z aH aH aH aH (λ_ _ _ h=>h) (J ⟨by rfl,?_⟩) (And.intro s0 (And.intro s1 (And.intro s2 (And.intro s3 s4)))) ?_;rotate_left
     .rintro j4⟨z0,z1,z2,z3,z4⟩;go_simp;try with_reducible rfl
     simp only[ii,eh,fU];refine aW 10 ?_;intro hr aa;have W:=ak bv;clear bv hA17 ea r aV cv ap s1 s2 s3 s4 k0 k1 k2 k3 k4 hS;go_simp;refine aa _ _ wX ?_;refine dG aH ?_ _;have hn:=ak<|ag eq ec ek trivial;have a5:IntKind.u32.wrap (((hd-D:R):Y)-1)=((hd-(D+1):R):Y):=by rw[IntKind.wrap_u32];omega
     go_wp2;go_roundw;case rel=>exact⟨D+1,_,_,_,_,_,ge,rfl,W,hn⟩
     case measure=>simp[intOf];omega
    .have r:D=hd:=U;subst r;have p:=ak N.xL;have i:=ak hA2;have s:¬((0:Y)<((D-D:R):Y)):=U;clear hA2 N;go_wp2;go_roundw;case rel=>exact⟨C+1,_,_,_,_,_,U,dM,i,p⟩
     case measure=>simp[intOf];omega
  .have bn:C=4:=U;subst bn;have bf:=Af o.rd<|gW hO.dL<|ag k;obtain⟨ap,i⟩:∃ap,(!cB&&n.isEmpty)=ap:=⟨_,rfl⟩;rw[i]at bf;have s:ap=cz->f=L7 next c b (Ds.map Fq).flatten:=λq=>by
    rw[q]at i;simp at i;have:=hO.enc i.1;rw[i.2,eu,fB (by rw[o.AZ];exact aq _)]at this;exact this
   have bh:=o.L;obtain⟨v0,v1,v2,v3,rfl⟩:∃v0 v1 v2 v3,vs=[v0,v1,v2,v3]:=by
    obtain _|⟨v0,_|⟨v1,_|⟨v2,_|⟨v3,_|⟨v4,bp⟩⟩⟩⟩⟩:=vs<;>simp at bh;exact⟨_,_,_,_,z⟩
   obtain⟨v,bc,o0⟩:=o.bV (j:=0) rfl;obtain⟨B,bk,o1⟩:=o.bV (j:=1) rfl;obtain⟨E,bl,o2⟩:=o.bV (j:=2) rfl;obtain⟨N,bm,o3⟩:=o.bV (j:=3) rfl;obtain⟨T,y0,rfl⟩:=aM o0;obtain⟨x1,y1,rfl⟩:=aM o1;obtain⟨x2,y2,rfl⟩:=aM o2;obtain⟨x3,y3,rfl⟩:=aM o3;have hR:=(o.aA.A _ (az et) id).trans et;have cd:=o.o;have bs:=az o.g;have bo:L≠G (H e):=U;have W:=ak (show∀(bi:Z)(ok:eN),I aC wr bi->(ok=cz->ap=cz)->(Gp bi (G<|H e) next c b (am T (y v) y0) (am x1 (y B) y1) (am x2 (y E) y2)<|am x3 (y N) y3).heap[G<|H e]?=M (aK #[bw next,bw c,bw b,am T (y v) y0,am x1 (y B) y1,am x2 (y E) y2,am x3 (y N) y3] 161 (0,0))/\DcP e (Gp bi (G<|H e) next c b (am T (y v) y0) (am x1 (y B) y1) (am x2 (y E) y2)<|am x3 (y N) y3) dc (aN<|de #[ef #[bw next,bw c,bw b,am T (y v) y0,am x1 (y B) y1,am x2 (y E) y2,am x3 (y N) y3],aO ok])fromλbi ok hV bp=>by
    refine⟨KX<|(hV.A _ (az hR) id).trans hR,next,c,b,T,y v,y0,x1,y B,y1,x2,y E,y2,x3,y N,y3,ok,rfl,(((ag eA).t o.aA).t hV).aj (uK bi (G<|H e) _ _ _ _ _ _ _) ar,λq=>⟨ag he,Ds,o.AZ,?_,hO.ok,λcx w ec A hD=>?_⟩⟩
    .rw[ag hh,s<|bp q];rfl
    .have bL:=hV.aZ (o.l cx w ec A hD)<|λ_ _=>id;have bT:=o.l cx w ec A hD;refine fj ((uK bi (G<|H e) next c b _ _ _ _).aZ bL<|λq hq F=>?_) ?_
     .have:=o.aZ A hq;have:q=G (H e):=F;omega
     .omega)
   have hS:S7 L next c b (am T (y v) y0) (am x1 (y B) y1) (am x2 (y E) y2) (am x3 (y N) y3) wr.drew:=.g o.g
   have aV:wr.drew.heap[G<|H e]?=M (aK #[bw 0,bw 0,bw 0,aF,aF,aF,aF] 161 (0,0)):=hR;have ab:=ak<|cf aC wr;have r:=Af (o.rd.df (w':=wr.drew) z)<|gW hO.dL<|ag k;rw[i]at r;have e4:¬((4:Y)<4):=U;clear o hO hR bf o0 o1 o2 o3 bc bk bl bm bh cd s i;go_wp2_with fail
   rename_i QQ KK aU;refine zq (S7 L next c b (am T (y v) y0) (am x1 (y B) y1) (am x2 (y E) y2)<|am x3 (y N) y3) rfl ?_;generalize wr.drew=bx at*;have bE:∀C,iI bx (X (G<|H e) C)=bD:=λC=>by simp[World.frozen?,aV]
   obtain⟨t0,t1,t2,t3,t4,t5,t6⟩:=S7.g aV;iterate 2 (refine qi hS ?_;(try simp only[ii,eh,fU,ke]))
   refine Cn (i:=2) z z aH ?_;intro K2 aD;go_simp;apply r.mono;rintro F w'⟨rfl,ca⟩;subst w';refine aD _ _ hS ?_;try simp only[ii,eh,fU,ke]
   cases ap;case' false=>
    have HF:=ak<|ag W bx bD ab ar;iterate 1 (refine qi hS ?_;(try simp only[ii,eh,fU,ke]))
    iterate 5 (refine Bt hS z aH wP aH ?_;(try simp only[ii,eh,fU,ke]))
    iterate 1 (refine qi hS ?_;(try simp only[ii,eh,fU,ke]))
   case' true=>
    have HF:=ak<|ag W bx (decide<|c<next) ab ar;iterate 7 (refine qi hS ?_;(try simp only[ii,eh,fU,ke]))
   all_goals
    have p:=hS.gu (g:=G<|H e) (a:=next) (c:=c) (d:=b) (t:=am T (y v) y0) (u:=am x1 (y B) y1) (v:=am x2 (y E) y2) (x:=am x3 (y N) y3) bo;refine Cn (i:=10) z z aH ?_;intro hr aa;go_simp;refine aa _ _ p ?_;try simp only[ii,eh,fU,ke]
    refine Cn (i:=11) z z aH ?_;intro bv Q;go_simp;refine Q _ _ p ?_;refine zu aH ?_ _;show KK _ _;apply aU;clear aU aD aa Q p r;go_wp2;obtain⟨q1,q2⟩:=HF;refine ci (mE z _ _ (G<|H e) next c b _ _ _ _ _ _ rfl q1 ⟨_,_,_,rfl⟩ ⟨_,_,_,rfl⟩ ⟨_,_,_,rfl⟩ ⟨_,_,_,rfl⟩) rfl ?_;exact q2
def stZ:ae:=ef #[bw 0,bw 0,bw 0,aF,aF,aF,aF]
structure LdG(w w':Z)(K:DK)(nx lg bt:R)(vs:iF)(Ds:cy (cy Mk)):Prop where
 f:nx<18446744073709551616/\lg<18446744073709551616/\bt<18446744073709551616
 dL:y Ds=4
 ok:∀D∈Ds,∀m∈D,m.Ok
 l:∀(j:R)(v:ae)(D:cy Mk),vs[j]?=M v->Ds[j]?=M D->fE w' (G<|H w) 234 4 v (y D) (mZ D)
 L:fp (vw K.ah) fm=M (Q7 nx lg bt Ds)\/(fp (vw K.ah) fm=dE/\Ds=[[],[],[],[]]/\nx=2/\lg=1/\bt=0)
def LdP(w c:Z)(a:R)(K:DK)(r:Ending):Prop:=∃b,pT w c a K b/\wS K b/\(∀s,b.j a s->K.j a s)/\((∃(k f d:R)(l:Option Addr)(g e:R)(m:Option Addr)(h c1:R)(n:Option Addr)(i c2:R)(o:Option Addr)(j c3:R)(p:cy (cy Mk)),r=aN (de #[ef #[bw k,bw f,bw d,am l g e,am m h c1,am n i c2,am o j c3],ic])/\LdG w c K k f d [am l g e,am m h c1,am n i c2,am o j c3] p)\/(fp (vw K.ah) fm≠dE\/0<K.fx.bd\/∃W,∃t∈K.ah.map dj.dA,I (K.j a) w W/\¬Tv W t)/\∃q,r=aN (de #[stZ,eW q])/\tD c q)
def tg.D(h:tg a)(d:pT a e b f x)(c:¬f.j b 3/\¬f.j b 4):tg e:=h.aA d.aA c.1 c.2
def YW(h:cJ a b f)(hn:y f.ah<=20000000000)(hT:Steps a)(hp:Pow a)(hE:tg a)(bf:¬f.j b 1)(bd:¬f.j b 2)(ac:¬f.j b 3/\¬f.j b 4)(O:∀ca∈f.ah,Nm ca.dA)(S:∀bs,fp (vw f.ah) fm=M bs->y bs<=10000000000000):cR bN 67 #[aJ b] a λV w'=>LdP a w' b f V:=by
 obtain⟨W1,N⟩:=oh<|dw a<|aK #[bw 0,bw 0,bw 0,aF,aF,aF,aF] 161;have o:I aC a W1:=by rw[<-N];exact(cI aC a)
 have ax:W1.heap[G<|H a]?=M (aK #[bw 0,bw 0,bw 0,aF,aF,aF,aF] 161 (0,0)):=by rw[<-N];exact aQ _ z
 have ad:¬f.j b (G<|H a):=λbg=>bP<|h.lt _ bg;have aU:pT a W1 b f f:=(pT.bI h).bH o;have r:=ak (show∀(g:Z)(i:DK)(al av bg:Y)(E F A K:ae),pT a g b f i->(∀bL,i.j b bL->f.j b bL)->g.heap[G<|H a]?=M (aK #[bw 0,bw 0,bw 0,aF,aF,aF,aF] 161 (0,0))->(Gp g (G<|H a) al av bg E F A K).heap[G<|H a]?=M (aK #[bw al,bw av,bw bg,E,F,A,K] 161 (0,0))/\pT a (Gp g (G<|H a) al av bg E F A K) b f i/\∀q,tD g q->tD (Gp g (G<|H a) al av bg E F A K) q fromλg i al av bg E F A K P hf hb=>by have m:=uK g (G<|H a) al av bg E F A K;exact⟨KX hb,⟨P.ok.aA m<|λbL hk V=>ad<|V▸hf bL hk,P.aA.aj m ar,P.j,P.fx⟩,λq u=>u.aA m (λbL hk _=>by rw[hk];exact⟨_,161,_,hb,cg⟩)⟩);have aa:=ak aU;have B:=ak ax;have bk:=ak N;have ap:=ak ad;cases hm:fp (vw f.ah) fm with
 |none=>
  have t:=Ju (db:=b) (K:=f) fm (w:=W1) (h.aA o<|λ_ _=>id) hm tQ;have HX:=ak (show∀k i,pT W1 k b f i->wS f i->cR bN 115 #[aJ b] k λV w'=>zas k w' (∃cc,∃ca∈f.ah.map dj.dA,I (f.j b) a cc/\¬Tv cc ca) V fromλk i P hs=>by
   have m:Pow k:=(hp.aA o id).aA P.aA bd;have g:tg k:=(hE.aA o id id).aA P.aA ac.1 ac.2;refine(Rq (db:=b) (K:=i) P.ok (by rw[hs.1];exact hn) m g (by rw[hs.1];intro ca hf;obtain⟨al,hg,rfl⟩:=cC.1 hf;exact O al hg)).mono ?_;rintro V w'⟨x,D⟩;refine⟨x,D.imp id (λ⟨⟨ca,hf,u⟩,r⟩=>⟨⟨k,ca,by rw[<-hs.1];exact hf,(o.aT (T:=f.j b) cY).aj P.aA (λ_ bg=>J bg),u⟩,r⟩)⟩)
  unfold fm at t;unfold zas st0 at HX;have HM:=ak hm;clear h hT hp hE O hm o ax N bd bf ac ad aU S;go_in
  go_wp2_with fail
  rw[ag bk];apply t.mono;rintro V k⟨i,q,bg,e,n,l,rfl,u,hc⟩;have c:=(e.aA.A _ (az B) ap).trans B;have C:bA k (X q 1)=M (ay bg):=by obtain⟨bp,u,_⟩:=u;exact aX u 1
  obtain rfl|⟨rfl,aD⟩:=hc
  .have w:=Ua q 10 k C;have g:=HX k i e n;obtain⟨ab,s,j,v⟩:=js (aa.aj e) n l c;clear e n l u t HX;go_wp2_with fail
   apply w.mono;rintro V w1⟨rfl,hw⟩;subst w1;go_wp2_with fail
   apply g.mono;rintro V W⟨p,rfl|⟨m,q3,rfl,al⟩⟩
   .have d:=(p.A _ (az v) id).trans v;have t0:=aX d 0;have t1:=aX d 1;have t2:=aX d 2;have t3:=aX d 3;have t4:=aX d 4;have t5:=aX d 5;have t6:=aX d 6;have fz:∀an,iI W (X (G<|H a) an)=bD:=λan=>by simp[World.frozen?,d]
    have Q:=az d;have L:=ak<|ag r W i 2 1 0 aF aF aF aF (ab.bH p) j d;clear d p g w c C;go_wp2;obtain⟨x,D,_⟩:=ag L;refine ci (mE z _ _ (G<|H a) 2 1 0 _ _ _ _ _ _ z x ⟨_,_,_,z⟩ ⟨_,_,_,z⟩ ⟨_,_,_,z⟩ ⟨_,_,_,z⟩) z ?_;refine⟨i,D,s,j,J ⟨2,1,0,dE,0,0,dE,0,0,dE,0,0,dE,0,0,[[],[],[],[]],z,⟨cg,z,ar,λcd cl ce hv hD=>?_,bu ⟨HM,z,z,z,z⟩⟩⟩⟩;have V:cl=aF/\ce=[]:=by
     obtain _|_|_|_|cd:=cd<;>simp at hv hD<;>exact⟨hv.symm,hD⟩
    rw[V.1,V.2];exact ct _ _ _ _
   .have d:=(p.A _ (az v) id).trans v;have t0:=aX d 0;have t1:=aX d 1;have t2:=aX d 2;have t3:=aX d 3;have t4:=aX d 4;have t5:=aX d 5;have t6:=aX d 6;have fz:∀an,iI W (X (G<|H a) an)=bD:=λan=>by simp[World.frozen?,d]
    have Q:=az d;have L:=ak<|ag r W i 0 0 0 aF aF aF aF (ab.bH p) j d;obtain⟨av,aV⟩:=And.intro (ak m) (ak al);clear d p g w c C m al;go_wp2;obtain⟨x,D,q3⟩:=ag L;refine ci (mE z _ _ (G<|H a) 0 0 0 _ _ _ _ _ _ z x ⟨_,_,_,z⟩ ⟨_,_,_,z⟩ ⟨_,_,_,z⟩ ⟨_,_,_,z⟩) z ?_;exact⟨i,D,s,j,bu ⟨bu<|bu av,_,z,q3 _ aV⟩⟩
  .have w:=CR q 8 10 cg k C;have t0:=aX c 0;have t1:=aX c 1;have t2:=aX c 2;have t3:=aX c 3;have t4:=aX c 4;have t5:=aX c 5;have t6:=aX c 6;have fz:∀an,iI k (X (G<|H a) an)=bD:=λan=>by simp[World.frozen?,c]
   have bb:=az c;have L:=ak<|ag r k i 0 0 0 aF aF aF aF (aa.aj e) l c;obtain⟨HQ,s,j,ao⟩:=js u n l aD;clear e n l u c t HX;go_wp2_with fail
   apply w.mono;rintro V w1⟨rfl,hw⟩;subst w1;go_wp2;obtain⟨x,D,q3⟩:=ag L;refine ci (mE z _ _ (G<|H a) 0 0 0 _ _ _ _ _ _ z x ⟨_,_,_,z⟩ ⟨_,_,_,z⟩ ⟨_,_,_,z⟩ ⟨_,_,_,z⟩) z ?_;exact⟨i,D,s,j,bu ⟨bu<|J ao,_,z,q3 _ ⟨8,HQ,cg⟩⟩⟩
 |some bs=>
  have t:=TN (db:=b) (K:=f) fm (w:=W1) (h.aA o<|λ_ _=>id) hm tQ;have ba:kj bs:=by
   obtain⟨al,hF,m⟩:=yH hm;rw[<-m];exact(h.ah al (eM hF).2.1).2.2.1
  have HX:=ak (show∀k i v2,pT W1 k b f i->fA k (G<|H W1) v2 bs->cR bN 116 #[v2] k λV w'=>DcP k w' bs V fromλk i v2 P m=>
   SX (Steps.aA (Steps.aA hT o id) P.aA bf) (fA.bB m) ba (S bs hm) (λbL hk=>(fA.lt m bL hk).2))
  have ba:=λcc=>Zg 10 cc;have cj:∀a:Z,(binOp .neq 44 ic ic).run bN a=.ok (aO bD) a:=λ_=>rfl;have cb:∀(x:eN)(a:Z),(Op.unary .not<|aO x).run bN a=.ok (aO<|!x) a:=λ_ _=>rfl;unfold fm at t;have HM:=ak hm;have bv:=ak<|show G (H a)<=G (H W1)from o.D;clear h hT hp hE O hm o ax N bd bf ac ad aU S;go_in
  go_wp2_with fail
  rw[ag bk];apply t.mono;rintro V k⟨i,e,n,l,⟨v2,rfl,bc⟩|⟨aD,q,rfl,u⟩⟩;rotate_left
  .have c:=(e.aA.A _ (az B) ap).trans B;have C:bA k (X q 1)=M (ay 8):=by obtain⟨bp,u,_⟩:=u;exact aX u 1
   have w:=CR q 8 10 cg k C;have t0:=aX c 0;have t1:=aX c 1;have t2:=aX c 2;have t3:=aX c 3;have t4:=aX c 4;have t5:=aX c 5;have t6:=aX c 6;have fz:∀an,iI k (X (G<|H a) an)=bD:=λan=>by simp[World.frozen?,c]
   have bb:=az c;have L:=ak<|ag r k i 0 0 0 aF aF aF aF (aa.aj e) l c;obtain⟨HQ,s,j,ao⟩:=js u n l aD;clear e n l u c t HX;go_wp2_with fail
   apply w.mono;rintro V w1⟨rfl,hw⟩;subst w1;go_wp2;obtain⟨x,D,q3⟩:=ag L;refine ci (mE z _ _ (G<|H a) 0 0 0 _ _ _ _ _ _ z x ⟨_,_,_,z⟩ ⟨_,_,_,z⟩ ⟨_,_,_,z⟩ ⟨_,_,_,z⟩) z ?_;exact⟨i,D,s,j,bu ⟨bu<|J ao,_,z,q3 _ ⟨8,HQ,cg⟩⟩⟩
  have c:=(e.aA.A _ (az B) ap).trans B;have aV:=HX k i v2 e bc;obtain⟨A,c2,bE⟩:=aM bc;subst bE;have ck:=e.aA.D;obtain⟨ab,s,j,v⟩:=js (aa.aj e) n l c;clear e n l t HX bc c;obtain⟨BL,bl⟩:=oh<|y bs;rw[bl]at aV|-;clear bl;go_wp2_with fail
  apply(ba _).mono;rintro V bT⟨rfl,hw⟩;subst bT;go_wp2_with fail
  apply aV.mono;rintro V W⟨nx,lg,bt,E,n0,c0,F,n1,c1,A,n2,c2,K,n3,c3,ok,rfl,p,bn⟩;have g:=(p.A _ (az v) id).trans v;have bh:=ak<|ab.bH p;have bi:=ak bn;clear aV p bn;cases ok
  .have d:(dw W<|aK #[bw nx,bw lg,bw bt,am E n0 c0,am F n1 c1,am A n2 c2,am K n3 c3] 161).heap[G<|H a]?=M (aK #[bw 0,bw 0,bw 0,aF,aF,aF,aF] 161 (0,0)):=(gy _<|az g).trans g;have ch:=az g;clear g;go_wp2_with fail
   obtain⟨W4,av⟩:=oh<|dw W<|aK #[bw nx,bw lg,bw bt,am E n0 c0,am F n1 c1,am A n2 c2,am K n3 c3] 161;rw[av]at d|-;have bq:=ak (show pT a W4 b f i by rw[<-av];exact(ag bh).bH<|cI _ _);clear av;apply(tX fm W4).mono;rintro V w5⟨rfl,al⟩;have m:w5.heap[G<|H a]?=M (aK #[bw 0,bw 0,bw 0,aF,aF,aF,aF] 161 (0,0)):=by rw[al];exact(gy _<|az d).trans d
   have bo:tD w5 (G<|H W4):=by rw[al];exact tD.lY W4 tQ
   have bm:pT a w5 b f i:=by rw[al];exact(ag bq).bH<|cI _ _
   have t0:=aX m 0;have t1:=aX m 1;have t2:=aX m 2;have t3:=aX m 3;have t4:=aX m 4;have t5:=aX m 5;have t6:=aX m 6;have fz:∀an,iI w5 (X (G<|H a) an)=bD:=λan=>by simp[World.frozen?,m]
   have bx:=az m;have L:=ak<|ag r w5 i 0 0 0 aF aF aF aF bm j m;have br:=ak bo;clear m bo bm al d;go_wp2;obtain⟨x,D,q3⟩:=ag L;refine ci (mE z _ _ (G<|H a) 0 0 0 _ _ _ _ _ _ z x ⟨_,_,_,z⟩ ⟨_,_,_,z⟩ ⟨_,_,_,z⟩ ⟨_,_,_,z⟩) z ?_;exact⟨i,D,s,j,bu ⟨J (by rw[ag HM];simp),_,rfl,q3 _ br⟩⟩
  .obtain⟨m,Ds,g1,g2,g3,g4⟩:=ag bi rfl;have L:=ak<|ag r W i nx lg bt (am E n0 c0) (am F n1 c1) (am A n2 c2) (am K n3 c3) (ag bh) j g;have HG:=ak (show∀o,LdG a ((Gp W (G<|H a) nx lg bt (am E n0 c0) (am F n1 c1) (am A n2 c2)<|am K n3 c3).alloc o) f nx lg bt [am E n0 c0,am F n1 c1,am A n2 c2,am K n3 c3] Ds fromλo=>by
    refine⟨m,g1,g3,λcd cl ce hv hD=>?_,J (by rw[ag HM,g2])⟩;have hr:=g4 cd cl ce hv hD;have al:=ag bv;refine fj (bC ((uK _ (G (H a)) nx lg bt _ _ _ _).aZ hr (λq u V=>?_)) _) U;have:=(aS hr q u).1;have:=az (ag v);have:q=G (H a):=V;omega)
   have t0:=aX g 0;have t1:=aX g 1;have t2:=aX g 2;have t3:=aX g 3;have t4:=aX g 4;have t5:=aX g 5;have t6:=aX g 6;have fz:∀an,iI W (X (G<|H a) an)=bD:=λan=>by simp[World.frozen?,g]
   have Q:=az g;clear g g1 g2 g3 g4 m bi;go_wp21;obtain⟨x,D,q3⟩:=ag L;refine ci (mE z _ _ (G<|H a) nx lg bt _ _ _ _ _ _ z ((gy _<|az x).trans x) ⟨_,_,_,z⟩ ⟨_,_,_,z⟩ ⟨_,_,_,z⟩ ⟨_,_,_,z⟩) z ?_;exact⟨i,D.bH<|cI _ _,s,j,J ⟨nx,lg,bt,E,n0,c0,F,n1,c1,A,n2,c2,K,n3,c3,Ds,z,ag HG _⟩⟩
def Z3{m:Y}(h:le b r=le b m)(a:0<=r)(d:r<256^b)(c:0<=m)(e:m<256^b):r=m:=by
 have f:=cD jw h;rwa[xP b r a,xP b m c,wk a d,wk c e]at f
def qS(h:le b c=le b k)(a:c<256^b)(d:k<256^b):c=k:=by
 have e:=Z3 h (Int.natCast_nonneg c) (by have:=Int.ofNat_lt.2 a;simpa using this) (Int.natCast_nonneg k) (by have:=Int.ofNat_lt.2 d;simpa using this);exact Int.ofNat_inj.1 e
def pm{d a b:eD}(h:m++d=a++b)(c:y m=y a):m=a/\d=b:=ud h c
def XJ{t:af}(h:kp B=kp t):B=t:=by
 have c:B.data.toList=t.data.toList:=by
  have:∀(x a:cy UInt8),x.map (λb=>(b.toNat:Y))=a.map (λb=>(b.toNat:Y))->x=a:=by
   intro x;induction x with
   |nil=>intro a h;cases a with
    |nil=>rfl
    |cons _ _=>simp at h
   |cons e x d=>
    intro a h;cases a with
    |nil=>simp at h
    |cons b a=>
     simp only[bO,iM]at h;rw[d a h.2];have:e.toNat=b.toNat:=bP h.1;rw[UInt8.toNat_inj.1 this]
  exact this _ _ h
 cases B;cases t;simp only[ByteArray.mk.injEq];exact Array.toList_inj.1 c
def TO{t:af}{a:eD}(h:iN B++m=iN t++a)(f:B.size<256)(g:t.size<256):B=t/\m=a:=by
 unfold iN at h;simp only[dt,iM,cw]at h;let⟨e,b⟩:=h;let⟨c,d⟩:=pm b (by rw[ix,ix];omega);exact⟨XJ c,d⟩
def Zs{k b:pw}{d:eD}(h:uB k++m=uB b++d)(c:k.Can)(a:b.Can):(k.D=b.D/\k.A=b.A/\k.eJ=b.eJ/\k.eP=b.eP)/\m=d:=by
 unfold uB at h;simp only[cw]at h;let⟨e,h⟩:=pm h (by simp[dh]);let⟨f,h⟩:=pm h (by simp[dh]);let⟨g,h⟩:=TO h (bP c.f8)<|bP a.f8;let⟨i,h⟩:=TO h (bP c.l8)<|bP a.l8;exact⟨⟨qS e (bP c.D)<|bP a.D,qS f (bP c.c2)<|bP a.c2,g,i⟩,h⟩
def PD:∀{d a:ld},y d=y a->d.flatMap uB=a.flatMap uB->(∀k∈d,k.Can)->(∀k∈a,k.Can)->qD d=qD a
 |[],[],_,_,_,_=>rfl
 |[],_::_,c,_,_,_=>by simp at c
 |_::_,[],c,_,_,_=>by simp at c
 |k::d,j::a,c,h,e,b=>by
  rw[dR,dR]at h;let⟨⟨m,f,g,i⟩,l⟩:=Zs h (e k ar)<|b j ar;have:=PD (dV c) l (λx a=>e x<|by simp[a]) (λx a=>b x<|by simp[a]);unfold qD at this|-;rw[bO,bO,ft,ft,this];unfold GJ;rw[f,g,i]
def L6{a:ld}(h:iE L=iE a)(c:nz L)(b:nz a):qD L=qD a:=by
 unfold iE at h;let⟨d,e⟩:=pm h (by simp[dh]);have:=c.dL;have:=b.dL;exact PD (qS d U U) e c.l b.l
def M6(a:dI):uD a=Fq (a.map pq):=by
 unfold uD Fq;rw[cS,xw];rfl
def DD(c b a:R)(d e f g:dI):mj c b a [d,e,f,g]=Q7 c b a [d.map pq,e.map pq,f.map pq,g.map pq]:=by
 unfold mj Q7 L7;simp[M6,cw]
def ZU{m n:Mk}(h:Fp m=Fp n)(d:m.Ok)(e:n.Ok):m.cK=n.cK/\m.ut=n.ut/\m.f=n.f:=by
 unfold Fp at h;let⟨a,h⟩:=pm h (by simp[dh]);let⟨b,h⟩:=pm h (by simp[dh]);let⟨c,h⟩:=pm h (by simp[dh]);let⟨f,g,i⟩:=d;let⟨j,k,l⟩:=e;exact⟨qS a U U,qS b U U,qS c U U⟩
def Mk.D(m:Mk):R×R×R:=(m.cK,m.ut,m.f)
def Pf:∀{D E:cy Mk},y D=y E->D.flatMap Fp=E.flatMap Fp->(∀m∈D,m.Ok)->(∀m∈E,m.Ok)->D.map Mk.D=E.map Mk.D
 |[],[],_,_,_,_=>rfl
 |[],_::_,b,_,_,_=>by simp at b
 |_::_,[],b,_,_,_=>by simp at b
 |m::D,n::E,b,h,d,a=>by
  rw[dR,dR]at h;let⟨g,i⟩:=pm h (by rw[Ib,Ib]);let⟨c,e,f⟩:=ZU g (d m ar)<|a n ar;rw[bO,bO,Pf (dV b) i (λx c=>d x<|by simp[c])<|λx c=>a x<|by simp[c]];unfold Mk.D;rw[c,e,f]
def Db{D E:cy Mk}{b:eD}(h:Fq D++m=Fq E++b)(e:∀g∈D,g.Ok)(f:∀g∈E,g.Ok)(i:y D<4294967296)(j:y E<4294967296):D.map Mk.D=E.map Mk.D/\m=b:=by
 unfold Fq at h;simp only[cw]at h;let⟨c,h⟩:=pm h (by simp[dh]);have a:y D=y E:=qS c U U;let⟨d,h⟩:=pm h (by rw[AV,AV,a]);exact⟨Pf a d e f,h⟩
def Yf{b:eD}(h:ik m=ik b):m=b:=by
 unfold ik at h;have a:=cD y h;rw[ai,ai,dh,dh]at a;exact(pm h U).1
def E7{j:R}{A B C D e f g i:cy Mk}(h:Q7 b c k [A,B,C,D]=Q7 n T j [e,f,g,i])(d:∀m∈A++B++C++D,m.Ok)(a:∀m∈e++f++g++i,m.Ok)(o:y (A++B++C++D)<4294967296)(l:y (e++f++g++i)<4294967296):A.map Mk.D=e.map Mk.D/\B.map Mk.D=f.map Mk.D/\C.map Mk.D=g.map Mk.D/\D.map Mk.D=i.map Mk.D:=by
 have h:=Yf h;unfold L7 at h;let⟨_,h⟩:=pm h (by simp[dh]);let⟨_,h⟩:=pm h (by simp[dh]);let⟨_,h⟩:=pm h (by simp[dh]);simp only[bO,gB,di,jF]at h;simp only[ai]at o l;simp only[aP]at d a;let⟨p,h⟩:=Db h (λm q=>d m<|by simp[q]) (λm q=>a m<|by simp[q]) U U;let⟨r,h⟩:=Db h (λm q=>d m<|by simp[q]) (λm q=>a m<|by simp[q]) U U;let⟨s,h⟩:=Db h (λm q=>d m<|by simp[q]) (λm q=>a m<|by simp[q]) U U;let⟨t,h⟩:=Db h (λm q=>d m<|by simp[q]) (λm q=>a m<|by simp[q]) U U;exact⟨p,r,s,t⟩
def FI(a:Fs)(t:cH):Prop:=∃f,fp a (jg t.cK)=M f/\(f.drop<|jN t.ks).take (y<|iE t.ks)=iE t.ks
def zL:∀{a b:dI},(a.map pq).map Mk.D=(b.map pq).map Mk.D->(∀t∈a,nz t.ks/\FI N t)->(∀u∈b,nz u.ks/\FI N u)->im a=im b
 |[],[],_,_,_=>rfl
 |[],_::_,h,_,_=>by simp at h
 |_::_,[],h,_,_=>by simp at h
 |t::a,u::b,h,c,d=>by
  simp only[bO,iM]at h;let⟨g,h⟩:=h;unfold Mk.D pq at g;simp only[jt]at g;let⟨i,j,k⟩:=g;let⟨n,q,l,m⟩:=c t ar;let⟨o,p,e,f⟩:=d u ar;rw[<-i,l]at e;cases e;rw[<-j,<-k,m]at f;have:=zL h (λx a=>c x<|by simp[a]) (λx a=>d x<|by simp[a]);unfold im at this|-;rw[bO,bO,ft,ft,this,L6 f n o]
def nz.D(h:nz L):jN L<=51200:=by
 have a:∀l:ld,(∀k∈l,k.Can)->jN l<=512*y l:=by
  intro l;induction l with
  |nil=>intro _;exact aq _
  |cons k l c=>
   intro q;have:=(q k ar).D;have b:=c (λx a=>q x<|by simp[a]);unfold jN at b|-;rw[bO,ft,bK];omega
 have:=a L h.l;have:=h.dL;omega
def nz.A(h:nz L):y (iE L)<=3000:=by
 have a:∀l:ld,(∀k∈l,k.Can)->y (l.flatMap uB)<=26*y l:=by
  intro l;induction l with
  |nil=>intro _;exact aq _
  |cons k l b=>
   intro q;have c:=(q k ar);have:=c.f8;have:=c.l8;have:=b (λx a=>q x<|by simp[a]);rw[dR,ai,bK];have:y (uB k)=4+(4+((1+k.eJ.size)+(1+k.eP.size))):=by
    simp only[uB,ai,dh,iN,bK,ix];omega
   omega
 have:=a L h.l;have:=h.dL;unfold iE;rw[ai,dh];omega
def R7{t:cH}(a:nz t.ks)(b:t.cK<18446744073709551616):(pq t).Ok:=⟨b,by show jN t.ks<_;have:=a.D;omega,by show y (iE t.ks)<_;have:=a.A;omega⟩
def Ksm(e f g h a b c d:dI):Prop:=(e.map pq).map Mk.D=(a.map pq).map Mk.D/\(f.map pq).map Mk.D=(b.map pq).map Mk.D/\(g.map pq).map Mk.D=(c.map pq).map Mk.D/\(h.map pq).map Mk.D=(d.map pq).map Mk.D
def XF{e f g i:dI}(h:Xa N l v C F)(p:fp N fm=M (mj b c k [e,f,g,i])\/fp N fm=dE/\e++f++g++i=[])(q:∀t∈l++v++C++F,nz t.ks/\t.cK<18446744073709551616)(j:∀t∈e++f++g++i,nz t.ks/\t.cK<18446744073709551616)(s:y (l++v++C++F)<4294967296)(n:y (e++f++g++i)<4294967296):Ksm l v C F e f g i:=by
 obtain⟨A,w,u,_,r⟩|⟨r,o⟩:=h.1;obtain a|⟨a,_⟩:=p;rw[r]at a;have a:=iL a;rw[DD,DD]at a;have d:∀(l v C F:dI),l.map pq++v.map pq++C.map pq++F.map pq=(l++v++C++F).map pq:=ar;exact E7 a (by rw[d];intro x d;obtain⟨t,m,rfl⟩:=cC.1 d;exact R7 (q t m).1 (q t m).2) (by rw[d];intro x d;obtain⟨t,m,rfl⟩:=cC.1 d;exact R7 (j t m).1 (j t m).2) (by rw[d,cS];exact s) (by rw[d,cS];exact n);rw[r]at a;cases a;obtain a|⟨_,d⟩:=p;rw[r]at a;cases a;simp only[gC]at o d;obtain⟨⟨⟨rfl,rfl⟩,rfl⟩,rfl⟩:=o;obtain⟨⟨⟨rfl,rfl⟩,rfl⟩,rfl⟩:=d;exact⟨z,z,z,z⟩
def Ksm.zb{g b i j c d e f:dI}(h:Ksm g b i j c d e f)(p:∀t∈g++b++i++j,nz t.ks/\FI N t)(a:∀t∈c++d++e++f,nz t.ks/\FI N t):im g+im b+im i+im j=im c+im d+im e+im f:=by
 let⟨k,l,m,n⟩:=h;rw[zL k (λt q=>p t<|by simp[q]) (λt q=>a t<|by simp[q]),zL l (λt q=>p t<|by simp[q]) (λt q=>a t<|by simp[q]),zL m (λt q=>p t<|by simp[q]) (λt q=>a t<|by simp[q]),zL n (λt q=>p t<|by simp[q])<|λt q=>a t<|by simp[q]]
def Ksm.cK{d f g i:dI}(h:Ksm l v C F d f g i):∀t∈l++v++C++F,∃u∈d++f++g++i,t.cK=u.cK:=by
 have one:∀{x b:dI},(x.map pq).map Mk.D=(b.map pq).map Mk.D->∀t∈x,∃u∈b,t.cK=u.cK:=λ{x b}e t c=>by let⟨m,k,j⟩:=cC.1 (e▸cC.2 ⟨_,cC.2 ⟨t,c,rfl⟩,rfl⟩:(pq t).D∈(b.map pq).map Mk.D);obtain⟨u,a,rfl⟩:=cC.1 k;exact⟨u,a,(cD (·.1) j).symm⟩
 intro t c;simp only[aP]at c;obtain((q|q)|q)|q:=c;let⟨u,a,e⟩:=one h.1 t q;exact⟨u,by simp[a],e⟩;let⟨u,a,e⟩:=one h.2.1 t q;exact⟨u,by simp[a],e⟩;let⟨u,a,e⟩:=one h.2.2.1 t q;exact⟨u,by simp[a],e⟩;let⟨u,a,e⟩:=one h.2.2.2 t q;exact⟨u,by simp[a],e⟩
structure B7(fs:Fs)(W:Z)(db sb:R)(e:DK)(u0 u1 u2 u3:ae)(a b c d:dI):Prop where
 f:cJ W db e
 l0:Er fs W e db sb u0 a
 l1:Er fs W e db sb u1 b
 l2:Er fs W e db sb u2 c
 l3:Er fs W e db sb u3 d
 i:((a++b++c++d).map cH.tb).Nodup
 s1:ma b
 s2:ma c
 s3:ma d
structure Xi(db:R)(K e:DK):Prop where
 l:wS K e
 fx:Fx K.fx e.fx
 j:∀k,e.j db k->K.j db k
def Xi.bI(db:R)(K:DK):Xi db K K:=⟨⟨rfl,rfl,rfl⟩,Fx.bI _,λ_ h=>h⟩
def Xi.aj{db:R}{K m e:DK}(h:Xi db K m)(k:Xi db m e):Xi db K e:=⟨h.l.aj k.l,h.fx.aj k.fx,λq c=>h.j q<|k.j q c⟩
section
variable{fs:Fs}{W W':Z}{db j3:R}{K m e r:DK}{u0 u1 u2 u3:ae}{a b c d:dI}
def B7.eQ(h:B7 fs W db j3 e u0 u1 u2 u3 a b c d)(f:gl W W' db j3 e r):B7 fs W' db j3 r u0 u1 u2 u3 a b c d:=⟨f.ok,h.l0.eQ f,h.l1.eQ f,h.l2.eQ f,h.l3.eQ f,h.i,h.s1,h.s2,h.s3⟩
def B7.aA(h:B7 fs W db j3 e u0 u1 u2 u3 a b c d)(g:I (λq=>q=j3) W W')(j:¬e.j db j3):B7 fs W' db j3 e u0 u1 u2 u3 a b c d:=h.eQ ⟨h.f.aA g<|λn c k=>j<|k▸c,g.aT<|λ_ c=>J<|bu c,λ_ c=>J c,Fx.bI _⟩
def AJ{w:Z}{f n:R}{v:ae}{k:iF}(h:Row w f v n k):∃x c,v=am x n c:=by
 obtain⟨o,⟨j,l⟩|⟨p,i,g,j,_⟩⟩:=h;grind
 grind
def Ff.t{L W:Z}{gb P:R}{mv:iF}{o:cy (cy Mk)}{p:cy dI}(h:Ff L W db m e gb P mv [u0,u1,u2,u3] p)(n:RT m o p 4 0)(hM:y o=4)(aa:j3<G (H L)):∃a b c d,B7 (vw m.ah) W db j3 e u0 u1 u2 u3 a b c d/\o=[a.map pq,b.map pq,c.map pq,d.map pq]/\∀t∈a++b++c++d,FI (vw m.ah) t:=by
 have A:=h.S;obtain⟨F,C,D,E,rfl⟩:∃s u v w,p=[s,u,v,w]:=by obtain _|⟨v0,_|⟨v1,_|⟨v2,_|⟨v3,_|⟨v4,ab⟩⟩⟩⟩⟩:=p<;>simp at A;grind
 obtain⟨m0,m1,m2,m3,rfl⟩:∃s u v w,o=[s,u,v,w]:=by obtain _|⟨v0,_|⟨v1,_|⟨v2,_|⟨v3,_|⟨v4,ab⟩⟩⟩⟩⟩:=o<;>simp at hM;grind
 have O:=h.o;have i:∀q,P<q->q<G (H W)->Aside W e db j3 q:=λq g f=>⟨f,λc=>bP<|h.da q<|h.bM.2.2 q c,U⟩;have g:∀t∈F++C++D++E,qF W db (vw m.ah) (Aside W e db j3) (jb eX.choose (vw m.ah) t)/\Q0 m t/\nz t.ks:=λt f=>by let⟨N,⟨⟨j,x⟩,Q,q2⟩,T,V,g3,g4,_⟩:=h.Fj t<|dV f;exact⟨⟨⟨N,0,j,x,i N g3 g4⟩,i t.tb T V,q2,Q,z⟩,n.fi t<|dV f,Q⟩
 have l:∀f:dI,(f.map<|jb eX.choose<|vw m.ah).map pq=f.map pq:=λf=>by rw[iW];rfl
 have k:∀(N:R)(Q:ae)(T:dI),[u0,u1,u2,u3][N]?=M Q->[F,C,D,E][N]?=M T->(∀t∈T,t∈F++C++D++E)->Er (vw m.ah) W e db j3 Q (T.map<|jb eX.choose<|vw m.ah):=λN Q T j V x=>
  ⟨by rw[GB,cS];exact dQ<|h.l N Q T j V,λq k=>i q (h.aZ j k).1 (h.aZ j k).2,λt f=>by
   obtain⟨S,B,rfl⟩:=cC.1 f;exact(g S (x S B)).1⟩
 refine⟨F.map<|jb eX.choose<|vw m.ah,C.map<|jb eX.choose<|vw m.ah,D.map<|jb eX.choose<|vw m.ah,E.map<|jb eX.choose<|vw m.ah,⟨h.f,k 0 _ _ z z (λt f=>by simp[f]),k 1 _ _ rfl rfl (λt f=>by simp[f]),k 2 _ _ rfl rfl (λt f=>by simp[f]),k 3 _ _ rfl rfl (λt f=>by simp[f]),?_,?_,?_,?_⟩,?_,?_⟩;have:=h.i;simpa[jb,kL]using this;exact pX (λt f=>(g t<|by simp[f]).2.2)<|n.ap 1 C U U rfl;exact pX (λt f=>(g t<|by simp[f]).2.2)<|n.ap 2 D U U rfl;exact pX (λt f=>(g t<|by simp[f]).2.2)<|n.ap 3 E U U rfl;rw[l,l,l,l,n.da 0 F m0 U rfl rfl,n.da 1 C m1 U rfl rfl,n.da 2 D m2 U rfl rfl,n.da 3 E m3 U rfl rfl];intro t f;rw[<-bz,<-bz,<-bz]at f;obtain⟨S,B,rfl⟩:=cC.1 f;let⟨Q,j,N⟩:=(g S B).2.1;exact⟨Q.bB,by show fp (vw m.ah) (jg S.cK)=_;rw[nI,j];rfl,N⟩
end
structure LdF(K:DK)(nx lg bt:R)(a b c d:dI):Prop where
 f:nx<18446744073709551616/\lg<18446744073709551616/\bt<18446744073709551616
 L:fp (vw K.ah) fm=M (mj nx lg bt [a,b,c,d])\/(fp (vw K.ah) fm=dE/\a++b++c++d=[]/\nx=2/\lg=1/\bt=0)
 fi:∀t∈a++b++c++d,FI (vw K.ah) t
structure OpL(w:Z)(db:R)(K:DK)(L:R):Prop where
 f:cJ w db K
 l:y K.ah<=20000000000
 o:Steps w
 x:Pow w
 S:tg w
 i:¬K.j db 1
 n:¬K.j db 2
 D:¬K.j db 3/\¬K.j db 4
 A:Xk (vw K.ah)
 dL:∀bs,fp (vw K.ah) fm=M bs->y bs<=L
def ErL(w:Z)(db:R)(K:DK):Prop:=fp (vw K.ah) fm≠dE\/0<K.fx.bd\/∃W,∃f∈K.ah.map dj.dA,I (K.j db) w W/\¬Tv W f
def Ng(fs:cy dj):(vw fs).map (·.1)=fs.map dj.dA:=by unfold vw;rw[iW];rfl
def Xk.dq{K:DK}(h:Xk (vw K.ah)):∀x∈K.ah.map dj.dA,Nm x:=λx f=>by
 rw[<-Ng]at f;let⟨g,i⟩:=rB f;exact h x g i
def YV{S:Z}{j3:R}{aU:Y}{s:SR}{K:DK}{bc:R}(h:cU S j3 s aU)(x:¬K.j s.f j3)(i:OpL S s.f K bc)(ba:bc<=400000000000):cR bN 28 #[aJ j3] S λu j=>(u=aN ic/\∃n l k u0 u1 u2 u3,cU j j3 (s.yC u0 u1 u2 u3 n l k<|decide<|0<y K.ah) aU/\(∃e a b c d,B7 (vw K.ah) j s.f j3 e u0 u1 u2 u3 a b c d/\Xi s.f K e/\LdF K n l k a b c d)/\I (λq=>K.j s.f q\/q=j3) S j)\/ErL S s.f K/\∃q,u=aN (eW q)/\tD j q/\(∃e,cJ j s.f e/\Xi s.f K e)/\I (λq=>K.j s.f q\/q=j3) S j:=by
 have v:=i.f;refine J6 S j3 s aU (y K.ah) (λn l k j v0 v1 v2 v3=>∃m B,cJ j s.f m/\Xi s.f K m/\I (K.j s.f) S j/\LdG S j K n l k [v0,v1,v2,v3] B) (λn l k j u0 u1 u2 u3=>∃e a b c d,B7 (vw K.ah) j s.f j3 e u0 u1 u2 u3 a b c d/\Xi s.f K e/\LdF K n l k a b c d) (λj=>∃e,cJ j s.f e/\Xi s.f K e) (K.j s.f) h v.lt x ?_ ?_ ?_ ?_;rintro W W'⟨e,h1,h2⟩P;exact⟨e,h1.aA P<|λq c u=>x<|h2.j _<|u▸c,h2⟩;(.go_call YW v i.l i.o i.x i.S i.i i.n i.D (λx g=>i.A.dq x.dA<|uj g) (λs t=>aR (i.dL s t) U)as u j⟨m,f,p,g,⟨n,l,k,x0,C,T,x1,D,c1,x2,E,c2,x3,F,c3,B,rfl,o⟩|⟨A,q,rfl,w⟩⟩;exact J ⟨n,l,k,x0,C,T,x1,D,c1,x2,E,c2,x3,F,c3,z,⟨m,B,f.ok,⟨p,f.fx,g⟩,f.aA,o⟩,f.aA⟩;exact bu ⟨A,q,z,w,f.aA,m,f.ok,p,f.fx,g⟩);rintro n l k W1 W v0 v1 v2 v3⟨m,B,ac,f,aD,o⟩p;have ab:=o.dL;(obtain⟨C,D,E,F,rfl⟩:∃f g i j,B=[f,g,i,j]:=by obtain _|⟨v0,_|⟨v1,_|⟨v2,_|⟨v3,_|⟨L,V⟩⟩⟩⟩⟩:=B<;>simp at ab;grind);have g:=o.l;let⟨x0,T,e0⟩:=AJ<|dQ<|g 0 _ _ rfl rfl;let⟨x1,c1,e1⟩:=AJ<|dQ<|g 1 _ _ rfl rfl;let⟨x2,c2,e2⟩:=AJ<|dQ<|g 2 _ _ rfl rfl;let⟨x3,c3,e3⟩:=AJ<|dQ<|g 3 _ _ rfl rfl;subst e0 e1 e2 e3;have A:I (K.j s.f) S W:=aD.t p;(have N:y (C++D++E++F)<=20000000000:=by obtain u|⟨_,u,_⟩:=o.L;have h1:=i.dL _ u;have h2:=E6 n l k [C,D,E,F];simp only[di,jF,eu,ai]at h2|-;omega;cases u;simp);simp only[ai]at N;(have an:∀(Q:R)(aa:ae),[am x0 (y C) T,am x1 (y D) c1,am x2 (y E) c2,am x3 (y F) c3][Q]?=M aa->∃aV,[C,D,E,F][Q]?=M aV:=λQ aa t=>by obtain _|_|_|_|Q:=Q;exact⟨_,z⟩;exact⟨_,z⟩;exact⟨_,z⟩;exact⟨_,z⟩;simp at t);refine(GO (db:=s.f) (K:=m) [C,D,E,F] x0 x1 x2 x3 _ T _ c1 _ c2 _ c3 (ac.aA p<|λ_ _=>id) (Steps.aA i.o A i.i) (i.x.aA A i.n) (λq=>i.i<|f.j _ q) (λq=>i.n<|f.j _ q) z (λQ aa bb t O=>p.bV (dQ<|g Q aa bb t O)<|λq w=>⟨id,((g Q aa bb t O).lt q w).2⟩) (λQ aa t q w=>?_) o.ok<|λbb O=>?_).mono ?_;let⟨aV,hD⟩:=an Q aa t;have L:=(g Q aa aV t hD).lt q w;exact⟨au L.2 p.D,λg=>bP<|v.lt q<|f.j q g⟩;simp only[dy,lh,uS]at O;obtain rfl|rfl|rfl|rfl:=O<;>omega;rintro u j(⟨y0,m0,d0,y1,m1,d1,y2,m2,d2,y3,m3,d3,rfl,e,Ts,L,hR⟩|⟨⟨aV,hD,av⟩,q,rfl,w,P,e,ad,⟨ax,al⟩,ao⟩);let⟨a,b,c,d,hQ,V,hF⟩:=L.t (j3:=j3) hR rfl<|au (az h) A.D;rw[f.l.1]at hQ hF;refine⟨y0,m0,d0,y1,m1,d1,y2,m2,d2,y3,m3,d3,_,z,J ⟨z,e,a,b,c,d,hQ,f.aj ⟨L.bM.2.1.1,L.bM.2.1.2,L.bM.2.2⟩,o.f,?_,hF⟩,L.aA.aT<|λaU c=>J<|f.j aU c⟩;rw[V]at o;obtain u|⟨e1,e2,e3⟩:=o.L;exact J (by rw[DD];exact u);refine bu ⟨e1,?_,e3⟩;simp only[iM,List.map_eq_nil_iff,rH]at e2;obtain⟨rfl,rfl,rfl,rfl⟩:=e2;rfl;have ap:I (K.j s.f) W j:=P.aT<|λaU c=>J<|f.j aU c;refine⟨dE,0,0,dE,0,0,dE,0,0,dE,0,0,_,z,bu ⟨?_,q,z,w,e,ad,f.aj ⟨ax,al,ao⟩⟩,ap⟩;refine J<|λu=>?_;obtain V|⟨_,V,_⟩:=o.L;rw[u]at V;cases V;cases V;simp at hD;exact av hD;rintro n l k W u0 u1 u2 u3⟨e,a,b,c,d,hQ,p,hF⟩W' P;have g:=hQ.aA P (λq=>x (p.j _ q):¬e.j s.f j3);refine⟨⟨e,a,b,c,d,g,p,hF⟩,?_⟩;(have f:y e.ah=y K.ah:=by have:=cD y p.l.1;simpa[vw]using this);refine(CK g.f (by rw[f];have:=i.l;omega)).mono ?_;rintro u j⟨F,E,rfl,D,C,A⟩;let⟨L,c,t⟩:=aM C;have:=D.length_eq;rw[cS,f]at this;exact⟨L,c,by rw[t,this],A⟩
def QC(w g:Z)(d:R)(b:eD)(f:Ending):Prop:=I aC w g/\((y b<12/\f=aN (de #[aF,aF,aO cz]))\/((∀a,b.take 12≠ik a)/\f=aN (de #[aF,aF,aO bD]))\/∃a,12<=y b/\b.take 12=ik a/\(((y (b.drop 12):Y)<jw (a.take 4)/\f=aN (de #[aF,aF,aO cz]))\/∃(B rest:eD)(c h m9 e:R),b.drop 12=B++rest/\(y B:Y)=jw (a.take 4)/\f=aN (de #[bX d c (y B) h,bX d m9 (y rest) e,aO<|pu B==jw (a.drop 4)])/\y rest<=e/\e<=9223372036854775807/\Bytes w (bX d c (y B) h) B/\Bytes w (bX d m9 (y rest) e) rest))
def M8(cb i g bb:R)(hT:Steps a)(ap:cb<G (H a))(bl:kj m)(hL:bb=y m)(hl:bb<=10000000000000)(cc:bb<=g)(cn:g<=9223372036854775807)(hb:Bytes a (bX cb i bb g) m):cR bN 124 #[bX cb i bb g] a λbc w'=>QC a w' cb m bc:=by
 have cd:∀(ch:eN)(a:Z),(Op.unary .not<|aO ch).run bN a=.ok (aO<|!ch) a:=λ_ _=>rfl;by_cases bx:y m<12;(.have e1:(bb:Y)<12:=U;clear hb;(go_in);go_wp2;(go_ret3);exact⟨I.bI _ _,J ⟨bx,z⟩⟩);rw[hL]at hb;have A:=hb.ou (n:=12) U;have s:=hb.Ed (n:=12) U;rw[<-hL]at s;have bp:=Bw (bX cb i 12 g) (m.take 12) hT A (bl.ou 12) dW;let⟨o,hM⟩:∃o,bb-12=o:=⟨_,rfl⟩;let⟨O,hC⟩:∃O,g-12=O:=⟨_,rfl⟩;rw[hM,hC]at s;have w:y (m.drop 12)=o:=by rw[iZ];omega
 have e1:(12:Y)<=(bb:Y):=U;have e2:(bb:Y)<=(g:Y):=U;have e3:¬(bb:Y)<12:=U;have e6:(12:Y)<=(g:Y):=U;let⟨aV,P,HT,u,HM,HL⟩:=nU A s hT w hM hL;clear hb A s hT w hL;go_in
 go_wp21;go_call bp as bc w1⟨hU,x⟩;have aD:I aC a w1:=I.p x;clear bp;obtain⟨rfl,bm⟩|⟨e,b,f,c,hv,co,k,rfl⟩:=hU;(.have an:=ak bm;clear bm x;go_wp2;(go_ret3);exact⟨aD,bu<|J ⟨an,z⟩⟩);have av:y c=8:=by have:=cD y k;rw[dX,ik,ai,dh]at this;omega
 obtain⟨rfl,rfl,rfl⟩:e=cb/\b=i/\f=g:=by injection hv with q1 q2 q3;injection q1 with q1;injection q1 with q4 q5;exact⟨q4.symm,q5.symm,U⟩
 clear hv;have B:kj c:=λch a=>bl ch<|iy (by rw[k];unfold ik;simp[a]);have V:Bytes a (bX e b 8 f) c:=by have h:=ag aV;rw[k]at h;(have h2:Bytes a (bX e b (y<|ik c) f) (ik c):=by rw[show y (ik c)=12 by rw[ik,ai,dh,av]];exact h);have h8:=h2.ou (n:=8) (by rw[ik,ai,dh,av];omega);rwa[ik,jR U,fB U]at h8
 have bn:=oN (V.dD x (λce hk=>by cases hk;exact ap)) (by intro ce hk;cases hk;exact au ap x.size);rw[av];have t1:fZ c bD 4=(c.drop 4,bD,c.take 4):=by unfold fZ;rw[fN dW]
 have t2:fZ (c.drop 4) bD 4=([],bD,c.drop 4):=by unfold fZ;rw[fN dW,rQ dW,fB dW]
 have n1:dz c bD 4=jw (c.take 4):=by unfold dz;rw[t1]
 have n2:dz (c.drop 4) bD 4=jw (c.drop 4):=by unfold dz;rw[t2]
 have r1:=jV (n:=4) (m6:=bD) B;have r2:=jV (n:=4) (m6:=bD)<|B.pO 4;rw[n1]at r1;rw[n2]at r2;have C:=λW(hR:Rd W (G<|H w1) c bD)=>vp (G<|H w1) bD W hR B U;have D:=λW(hR:Rd W (G<|H w1) (c.drop 4) bD)=>vp (G<|H w1) bD W hR (B.pO 4) dW;rw[n1,t1]at C;rw[n2,t2]at D;simp only at C D;let⟨d,K⟩:∃d:R,jw (c.take 4)=d:=⟨(jw<|c.take 4).toNat,U⟩;let⟨sm,ax⟩:∃sm,jw (c.drop 4)=sm:=⟨_,rfl⟩;rw[K]at C r1;rw[ax]at D r2;clear n1 n2 t1 t2 V x B;go_wp21;go_call bn as bc w2⟨rfl,aa,E⟩;have ca:I aC w1 w2:=E▸(cI _ w1);have cp:G (H w1)<G (H w2):=by rw[E];simp
 have bq:=C w2 aa;clear aa E bn C;go_wp21;go_call bq as bc w3⟨rfl,ab,bT⟩;have ad:=D w3 ab;clear ab bq D;go_wp21;go_call ad as bc t⟨rfl,bo,bk⟩;have p:I aC a t:=by have h3:I (λce=>ce=G (H w1)) w2 t:=(gI bT).aj (gI bk)<|λ_=>J;exact(aD.t ca).aj h3<|λce hk=>bu<|bP aD.D
 clear bo bk ad;have cj:IntKind.u64.wrap (d:Y)=d:=by rw[dY];omega
 have ck:IntKind.u64.wrap (o:Y)=o:=by rw[dY];omega
 have cl:(o:Y)<=(O:Y):=U;by_cases bi:f=12;(.have bg:o=0:=U;have bE:O=0:=U;have bL:bb=12:=U;have w:=ag u;have an:=K;have ba:=ak (show d=0->QC a t e m (aN<|de #[bX e b 0 0,bX e b 0 0,aO<|pu []==sm])fromλq=>by have hn:m.drop 12=[]:=bG U;refine⟨p,bu<|bu ⟨c,U,k,bu ⟨[],[],b,0,b,0,by rw[hn];rfl,by rw[an,q];rfl,?_,aq _,U,bu ar,bu ar⟩⟩⟩;rw[ax];rfl);have F:=ak<|show(0:Y)<d->QC a t e m (aN<|de #[aF,aF,aO cz])fromλq=>⟨p,bu<|bu ⟨c,U,k,J ⟨by rwa[w,an,bg],z⟩⟩⟩;(have N:∀W,W.heap=t.heap->W.os=t.os->W.tape=t.tape->W.output=t.output->cR bN 186 #[bX e b 0 0] W λbc w'=>bc=aN (eI<|pu [])/\w'=W:=λW h1 h2 h3 h4=>by have hW:=p.df (c:=W) (by rw[h1,h2,h3,h4]);have r:=hW.dD (aq _) cY;exact sX _ [] W (HT.dD r HT.lt) (bu ar) ar);generalize pu []=cB at*;subst bi bL bg bE;clear w an hM hC;obtain bd|bd:=fO d;(.subst bd;have br:=ak<|ag ba z;clear ba F;go_wp21;(go_quiet(first|(go_at_call 186;refine Calls.quiet_of_same (N _ z z z z))));go_wp2;(go_ret3);have h0:=ag br;exact⟨h0.1.df z,h0.2⟩);have e9:(0:Y)<(d:Y):=U;go_wp2;(go_ret3);exact ag F e9);have e4:¬(f=12):=bi;have e5:¬(f-12=0):=U;by_cases cm:o<d;(.have e9:(o:Y)<(d:Y):=U;have F:=ak<|show QC a t e m (aN<|de #[aF,aF,aO cz])from⟨p,bu<|bu ⟨c,U,k,J ⟨by rwa[ag u,K],z⟩⟩⟩;go_wp2;(go_ret3);exact ag F);let⟨aU,rest,v,hB⟩:∃aU rest,m.drop 12=aU++rest/\y aU=d:=⟨(m.drop 12).take d,(m.drop 12).drop d,(du _ _).symm,by rw[dX,ag u];omega⟩;have bh:o-d=y rest:=by have:=ag u;rw[v,ai]at this;omega
 have hd:=ag P;rw[v]at hd;rw[show o=y (aU++rest)by rw[<-v];exact(ag u).symm]at hd;have L:=hd.ou (n:=y aU) ar;rw[rN,hB]at L;have ao:=hd.Ed (n:=y aU) ar;rw[pz,hB,show y (aU++rest)-d=y rest by rw[ai];omega]at ao;have ac:∀W,I aC a W->cR bN 186 #[bX e (b+12) d O] W λbc w'=>bc=aN (eI<|pu aU)/\w'=W:=by intro W hW;have r:=hW.dD (aq _) cY;exact sX _ aU W (HT.dD r HT.lt) (L.dD r (λce hk=>by cases hk;exact ap)) U
 have N:∀W,W.heap=t.heap->W.os=t.os->W.tape=t.tape->W.output=t.output->cR bN 186 #[bX e (b+12) d O] W λbc w'=>bc=aN (eI<|pu aU)/\w'=W:=λW h1 h2 h3 h4=>ac W (p.df<|by rw[h1,h2,h3,h4]);have:(d:Y)<=(o:Y):=U;have:(d:Y)<=(O:Y):=U;have:¬((o:Y)<(d:Y)):=U;have:O<=9223372036854775807:=U;let⟨S,j⟩:∃S,y rest=S:=⟨_,rfl⟩;have Q:=ak (show∀W m9 bt,I aC a W->S<=bt->bt<=9223372036854775807->Bytes a (bX e m9 S bt) rest->QC a W e m (aN<|de #[bX e (b+12) d O,bX e m9 S bt,aO<|pu aU==sm])fromλW m9 bt h1 h2 h3 h4=>by refine⟨h1,bu<|bu ⟨c,U,k,bu ⟨aU,rest,b+12,O,m9,bt,v,by rw[hB,K],?_,j▸h2,h3,hB▸L,j▸h4⟩⟩⟩;rw[hB,j,ax]);rw[j]at bh ao;have bs:=ak<|show S=0->rest=[]fromλq=>bG U;generalize pu aU=cB at*;clear ac L hd v hB j k P aV;by_cases bf:O=d;(.obtain rfl:S=0:=U;obtain rfl:o=O:=U;subst bf;have al:=ak (show∀W,I aC a W->QC a W e m (aN<|de #[bX e (b+12) o o,bX e (b+12) 0 0,aO<|cB==sm])fromλW hW=>ag Q W (b+12) 0 hW (aq _) U<|ag bs z▸bu ar);clear bh;go_wp21;(go_quiet(first|(go_at_call 186;refine Calls.quiet_of_same (N _ z z z z))));go_wp2;(go_ret3);exact ag al _<|p.df z);have:¬(O-d=0):=U;have:¬(O=d):=bf;have al:=ak (show∀W,I aC a W->QC a W e m (aN<|de #[bX e (b+12) d O,bX e (b+12+d) S (O-d:R),aO<|cB==sm])fromλW hW=>ag Q W (b+12+d) (O-d) hW U U ao);go_wp21;(go_quiet(first|(go_at_call 186;refine Calls.quiet_of_same (N _ z z z z))));go_wp2;(go_ret3);exact ag al _<|p.df z
structure S6(w0 w:Z)(rb:R)(n:Y)(l:dB)(r:eD)(s:eN)(o:ae):Prop where
 aZ:fE w (G<|H w0) 223 4 o (y l) (bj l)
 rd:Rd w rb r s
 L:kj r
 dL:y r<=100000000000000
 S:∀x∈l,x.Good/\x.f=n
 aA:I aC w0 w
 d:G (H w0)<=rb
 f:∀k,cN o=M k->rb<k
def zap(w b:Z)(n:Y)(d:Prop)(c:dB)(e:Ending):Prop:=∃(a:ae)(ok:eN)(l:dB),e=aN (de #[a,aO ok])/\I aC w b/\fE b (G<|H w) 223 4 a (y l) (bj l)/\y l<=8/\(ok=cz->1<=y l)/\(∀x∈l,x.Good/\x.f=n)/\(d->ok=cz/\l=c)
def QR(n:Y)(b:¬K)(h:I aC a e):zap a e n K i (aN<|de #[aF,aO bD]):=⟨aF,bD,[],rfl,h,ct _ _ _ _,ar,ar,ar,λq=>(b q).elim⟩
def ExL(c:Prop)(b l:dB)(r:eD)(s:eN):Prop:=c->∃a,b=l++a/\r=a.flatMap oC/\s=bD
def ID{j4:Prop}{es:dB}(n:Y){w:Z}(hX:j4->m=oJ n es/\(∀ao∈es,ao.Good/\ao.f=n)/\1<=y es/\y es<=8)(hb:Bytes w d m)(hv:∀ad,cN d=M ad->ad<G (H w))(W:kj m)(hl:y m<=100000000000000)(bg:0<=n)(bh:n<18446744073709551616):cR bN 125 #[d,bw n] w λal w'=>zap w w' n j4 es al:=by
 let⟨i0,bc,bo,bp,bq⟩:=cZ oP;have bi:=oN hb hv;have cm:∀(ao:eN)(w:Z),(Op.unary .not<|aO ao).run bN w=.ok (aO<|!ao) w:=λ_ _=>rfl;have h1:j4->dz m bD 8=n/\fZ m bD 8=((y es:Y)::es.flatMap oC,bD,le 8 n):=λq=>by have al:=rT (le 8 n)<|(y es:Y)::es.flatMap oC;rw[dh]at al;rw[(hX q).1];exact⟨by unfold dz oJ;rw[al];exact zU bg bh,al⟩
 have i1:=(kj.lP (n:=8) (m6:=bD) W).1;have l1:=(je m bD 8).1;have aV:=λcv(hR:Rd cv (G<|H w) m bD)=>Hf hR W U;generalize dz m bD 8=z1 at*;generalize fZ m bD 8=dk at*;let⟨O,o,A3⟩:=dk;simp only at*;have i2:=(kj.lP (n:=1) (m6:=o) i1).1;have i:=(je O o 1).1;have n2:=jV (n:=1) (m6:=o) i1;have ba:=λcv(hR:Rd cv (G<|H w) O o)=>Io hR i1 U;have h2:j4->dz O o 1=y es/\fZ O o 1=(es.flatMap oC,bD,[(y es:Y)]):=λq=>by obtain⟨rfl,rfl,_⟩:O=_/\o=_/\A3=_:=dV<|(h1 q).2;have al:fZ ((y es:Y)::es.flatMap oC) bD 1=(es.flatMap oC,bD,[(y es:Y)]):=rT [(y es:Y)] _;exact⟨by unfold dz;rw[al];simp[jw],al⟩
 generalize dz O o 1=N at*;generalize fZ O o 1=dn at*;let⟨B1,B2,B3⟩:=dn;simp only at*;have HX:=ak<|show j4->z1=n/\N=y es/\B1=es.flatMap oC/\B2=bD/\(∀ao∈es,ao.Good/\ao.f=n)/\1<=y es/\y es<=8 fromλq=>⟨(h1 q).1,(h2 q).1,cD (·.1) (h2 q).2,cD (·.2.1) (h2 q).2,(hX q).2⟩;clear hb hv W h1 h2 hX;go_in
 go_wp21;go_call bi as al w1⟨rfl,A,ab⟩;have bl:I aC w w1:=by rw[ab];exact(cI _ w)
 have co:G (H w)<G (H w1):=by rw[ab];simp
 have bf:=aV w1 A;have av:=ak bl;clear A ab bl bi aV;go_wp21;go_call bf as al w2⟨rfl,B,p⟩;have aU:=ba w2 B;have bm:I aC w w2:=av.aj (gI p) ar;have cc:=ak bm;have cp:=p.size;have bt:=ak p;clear B p bf ba bm;cases hq:(z1 !=n);rotate_left;(.go_wp2;(go_ret2);exact QR n (λq=>by rw[(ag HX q).1]at hq;simp at hq) cc);go_wp21;go_call aU as al w3⟨rfl,C,V⟩;have bn:I aC w w3:=av.aj ((gI bt).aj (gI V)<|λ_=>J) ar;have cb:=ak C;have cr:=V.size;have ax:=ak bn;clear C V aU bn;have hN:N<1\/(1<=N/\8<N)\/∃an:R,N=an/\1<=an/\an<=8:=by obtain q|q:=ya N 1;exact J q;obtain c|c:=ya 8 N;exact bu<|J ⟨q,c⟩;exact bu<|bu ⟨N.toNat,U,U,U⟩
 obtain hN|⟨hN,ch⟩|⟨an,rfl,cB,ch⟩:=hN;iterate 2 ·(go_wp2;go_ret2;exact QR n (λq=>bP<|ag HX q) ax)
 go_wp2_with(first
  |(at_make;go_loud(refine kg _ z _ _ 102 z (G (H w)) 223 i0 yu 4 underlying102 bc bo bp _ _ _ an z z U (by rw[bq];omega) (by unfold maxLen;omega) U ?_;intro w4 x v;have bL:=ak x;have P:=ak v;clear x v)))
 have dc:=P.size;have hA0:S6 w w4 (G<|H w) n [] B1 B2 (bX (G<|H w3) 0 0 an):=by refine⟨bL,cb.nj P,i2,U,ar,(ag ax).t<|I.eF (S:=aC) P ar,aq _,?_⟩;intro ad s;simp[cN]at s;omega
 have br:=ak hA0;clear hA0 i1 i2;go_loopw [8,28] (λo i wr=>∃(l:dB)(cs:eD)(cu:eN),y l<=an/\i=sC (y l)/\S6 w wr (G<|H w) n l cs cu o/\ExL j4 es l cs cu) (λ_ i _=>an-(intOf i).toNat)
 exact⟨[],B1,B2,bQ _,z,br,λq=>⟨es,z,(ag HX q).2.2.1,(ag HX q).2.2.2.1⟩⟩
 .obtain⟨l,cs,cu,hm,rfl,c,hE⟩:=hrel;have HE:=ak hE;clear hE;let⟨ox,oc,ho⟩:=aM c.aZ;have db:=c.aA.D;have cn:=c.rd.lt;by_cases cj:y l<an
  .have k:=Ji (G<|H w) c.rd c.L<|bP c.dL;have HA:=ak c;clear c;subst ho;go_wp21;go_call k as al F⟨ao,ok,r2,s2,rfl,bk,bd,cM,bb,t,aa⟩;let⟨K,L,xd,xb⟩:=ao;unfold E.t;simp only;have g:I (λad=>ad=G (H w)) wr F:=gI bb;have aD:=ak<|show I aC w F from HA.aA.aj g ar;have j:=bC (bC (g.aZ HA.aZ<|λad s c=>bP<|HA.f ad s)<|aK #[aw K,aw L,aO xd,bw n] 223)<|aK #[aw K,aw L,aO xd,bw n] 223;have cT:=g.D;let⟨ap,cd,ca,bE⟩:=js j g bk bd;clear j g bk bd bb k;have hY:j4->∃g9 i,es=l++g9::i/\cs=oC g9++i.flatMap oC/\cu=bD/\g9.Good/\g9.f=n:=λq=>by
    obtain⟨i,u,Q,e3⟩:=ag HE q;have dd:=ag HX q;obtain _|⟨g9,i⟩:=i
    .have:=cD y u;simp at this;omega
    .exact⟨g9,i,u,dV Q,e3,dd.2.2.2.2.1 g9 (by rw[u];simp)⟩
   cases ok
   .have r:=ak (show¬j4 fromλq=>by
     let⟨g9,i,_,Q,e3,e4,_⟩:=hY q;exact aa z g9 _ e4 e3 Q)
    clear t aa hY;go_wp2;go_ret2
    exact QR n (ag r)<|(ag aD).aE _
   have bx:=ak (t z).2.2.1;have bs:=ak (show ExL j4 es (l++[⟨K,L,xd,n⟩]) r2 s2 fromλq=>by
    let⟨_,g2,g3,g4,g5⟩:=t rfl;let⟨g9,i,u,Q,e3,e4,r⟩:=hY q;have:=PN (g9:={g9 with f:=0}) (a:=r2) (b:=i.flatMap oC) g3 ⟨e4.L,e4.f,e4.l,e4.dP,ar,ar⟩ (by rw[yJ,yJ,g4,cw,cw];exact cD _ (g5.symm.trans Q));refine⟨i,?_,this.2,g2⟩;have h:=this.1;cases g9;cases h;cases r;rw[u];simp)
   clear t aa hY;go_wp2_with(first
    |(at_builtin;go_loud(refine cq _ z (.tmp 39) (.tmp 41) 102 z (G (H w)) 223 i0 yu 4 48 underlying102 bc bo bp bq z cg (.slice ox (y l) oc) (y l) (bj l) z ap (X (G (H F)+1) 0) 1 1 (bj [⟨K,L,xd,n⟩]) z z (AW ⟨K,L,xd,n⟩ _ ar) (DT _) U U dW ?_;intro o2 w6 e D;have bT:=ak e;have ce:=ak D;clear e D)))
   go_roundw
   .have c:=ag HA;have g:=ag cd;have ac:=ag ce;have e:=ag bT;have ck:=c.aZ.lt;have r:=ag bx;have cl:I (λad=>cN (am ox (y l) oc)=M ad) F w6:=(((I.bI (λad=>cN (am ox (y l) oc)=M ad) F).aE _).aE _).aj (I.fV ac)<|λ_=>J;refine⟨l++[⟨K,L,xd,n⟩],r2,s2,by rw[ai];exact cj,by rw[ai];go_num,⟨?_,?_,bE,bP c.dL,?_,(ag aD).aj cl<|λad s=>bu (ck ad s).1,c.d,?_⟩,ag bs⟩
    .rw[ai,ig];exact e
    .exact((ag ca).nj<|eR F (aK #[aw K,aw L,aO xd,bw n] 223) dE).nj (eR _ (aK #[aw K,aw L,aO xd,bw n] 223) dE)|>.lB ac c.f
    .intro ao hx;obtain q|q:=aP.1 hx
     .exact c.S ao q
     .obtain rfl:=bY.1 q;exact⟨⟨r.L,r.f,r.l,r.dP,bg,bh⟩,z⟩
    .intro ad s;obtain cx|⟨g9,cx,hy⟩:=ac.f
     .exact c.f ad<|cx.symm.trans s
     .rw[cx]at s;cases s;simp at hy;omega
   .simp[intOf];omega
  .have k:y l=an:=U;have j:=Af c.rd<|bP c.dL;let⟨g,e⟩:∃g,(!cu&&cs.isEmpty)=g:=⟨_,rfl⟩;rw[e]at j;have r:j4->g=cz/\l=es:=λq=>by
    obtain⟨i,u,Q,e3⟩:=ag HE q;have dd:=ag HX q;obtain rfl:i=[]:=by
     have:=cD y u;simp at this;exact bG U
    exact⟨by rw[<-e,Q,e3];rfl,dV u.symm⟩
   clear e;have D:=ak<|show zap w wr n j4 es (aN<|de #[am ox an oc,aO g])from⟨_,g,l,z,c.aA,by have:=c.aZ;rw[ho,k]at this;rw[k];exact this,U,λ_=>U,c.S,r⟩;have t:¬((y l:Y)<(an:Y)):=U;clear c;subst ho;go_wp21;go_call j as al F⟨rfl,K⟩;subst F;go_wp2;go_ret2
   exact ag D
structure Iw(f:Y)(ls:iG):Prop where
 pK:∀l∈ls,1<=y l/\y l<=8
 S:∀l∈ls,∀x∈l,x.Good
 cK:∀i(hi:i<y ls),∀x∈ls[i],x.f=IntKind.u64.wrap (f+i)
 L:(ls.map y).sum<32
structure Qu(w0 w:Z)(f:Y)(ls:iG)(b m9 c:R)(bs:eD)(o:ae)(vs:iF):Prop where
 g:w.heap[G (H w0)+1]?=M (aK #[o,aO bD] 172 (0,0))
 d:w.heap[G<|H w0]?=M (aK #[aF,aO bD] 172 (0,0))
 aZ:fE w (G (H w0)+2) 102 1 o (y ls) vs
 l:Iv w (G (H w0)+2) vs ls
 bB:Bytes w0 (bX b m9 (y bs) c) bs
 L:kj bs
 i:y bs<=c/\c<=9223372036854775807/\y bs<=10000000000000
 aA:I aC w0 w
 S:Iw f ls
def P9(w b:Z)(f:Y)(m8:iG->eN->Prop)(d:Prop)(e:Ending):Prop:=∃(x:Option Addr)(n k:R)(my ok:eN),e=aN (de #[ef #[am x n k,aO my],aO ok])/\I aC w b/\(ok=bD->d)/\(ok=cz->∃a c,n=y a/\fE b (G (H w)+2) 102 1 (am x (y a) k) (y a) c/\Iv b (G (H w)+2) c a/\Iw f a/\m8 a my)
def Xd(f:Y)(a:dB)(b:eD):Prop:=b=zj f a/\(∀x∈a,x.Good/\x.f=f)/\(1<=y a/\y a<=8)/\0<=f/\f<18446744073709551616
def ExB(c:Prop)(f:Y)(a:dB)(b:iG)(r:eD):Prop:=c->b=[]/\Xd f a r\/b=[a]/\r=[]
def Xd.qp(h:Xd r i m):12<=y m/\m.drop 12=oJ r i/\∃a,m.take 12=ik a/\jw (a.take 4)=(y (oJ r i):Y)/\jw (a.drop 4)=pu (oJ r i):=by
 obtain⟨rfl,c,⟨_,d⟩,_⟩:=h;have f:=wD<|λx b=>(c x b).1;have e:y (oJ r i)<=1000:=by unfold oJ;rw[ai,bK,dh];omega
 have b:y (ik<|le 4 (y<|oJ r i)++le 4 (pu<|oJ r i))=12:=by simp[ik,dh]
 unfold zj;refine⟨by rw[ai];omega,?_,_,mS b,?_,?_⟩;rw[<-b,pz];rw[mS<|dh 4 _,Sv U U];rw[List.drop_left'<|dh 4 _,JN]
def Iw.Gh{l:dB}(h:Iw r O)(d:1<=y l)(e:y l<=8)(c:∀x∈l,x.Good/\x.f=IntKind.u64.wrap (r+y O))(g:(O.map y).sum+y l<32):Iw r (O++[l]):=by
 refine⟨λk a=>?_,λk a=>?_,λi f=>?_,by simp;omega⟩;obtain q|q:=aP.1 a;exact h.pK k q;rw[bY.1 q];exact⟨d,e⟩;obtain q|q:=aP.1 a;exact h.S k q;rw[bY.1 q];exactλx b=>(c x b).1;rw[um];split;rename_i q;exact h.cK i q;rename_i q;(have:i=y O:=by simp at f;omega);subst this;simpa usingλx b=>(c x b).2
def Qu.DC{c K w1 w2:Z}{b m9 x z' c':R}{P rest:eD}{w o2 bv:ae}{l:dB}{F:Obj}(h:Qu c K r O b m9 x P w Q)(e:I aC K w1)(W:fE w1 (G<|H K) 223 4 bv (y l) (bj l))(N:fE w2 (G (H c)+2) 102 1 o2 (y O+1) (Q++[bv]))(hw:fo (dw w1 F) w2 w o2)(A:Bytes c (bX b z' (y rest) c') rest)(q:kj rest)(B:y rest<=c'/\c'<=9223372036854775807/\y rest<=10000000000000)(hg:Iw r (O++[l])):Qu c (cP w2 (X (G (H c)+1) 0) o2) r (O++[l]) b z' c' rest o2 (Q++[bv])/\bA w2 (X (G (H c)+1) 0)=M w/\iI w2 (X (G (H c)+1) 0)=bD:=by
 have D:=h.aZ.lt;have p:∀k,cN w=M k->G (H c)+2<=k:=λk a=>(D k a).1;have o:I aC K (dw w1 F):=e.aE _;have hz:=e.D;have ac:=h.aA.D;have i:=(o.A _ (az h.g) id).trans h.g;have j:=(o.A _ (az h.d) id).trans h.d;have g:=I.fV hw;have d:=(g.A _ (az i)<|λx=>bP<|p _ x).trans i;have m:=(g.A _ (az j)<|λx=>bP<|p _ x).trans j;have f:I (λk=>k=G (H c)+1) w2 (cP w2 (X (G (H c)+1) 0) o2):=fK _ _ _ _;have ab:=az h.g;refine⟨⟨by rw[aY d];rfl,(f.A _ (az m) U).trans m,?_,⟨by simp[h.l.1],λad h1 S=>?_⟩,A,q,B,?_,hg⟩,by rw[cE d];rfl,cV d⟩;rw[ai];exact f.aZ N<|λk a x=>bP<|(N.lt k a).1;have n:∀k,cN w=M k->∃s,K.heap[k]?=M (aK s 102 (0,0)):=λk a=>gh h.aZ a;have u:I (λk=>cN w=M k) w1 w2:=((I.bI (λk=>cN w=M k) w1).aE F).aj g<|λ_=>J;have ht:I (λk=>cN w=M k) K w2:=(e.aT (T:=λk=>cN w=M k) cY).aj u<|λ_=>J;(have v:∀(V:Z)(an:ae)(al:R)(L:iF),V.ownsRow (G (H c)+2) 223 4 an al L->I (λk=>cN w=M k) V w2->(∀k,cN w=M k->∃s,V.heap[k]?=M (aK s 102 (0,0)))->fE (cP w2 (X (G (H c)+1) 0) o2) (G (H c)+2) 223 4 an al L:=by intro V an al L hv C aa;have t:=C.aZ hv (λk a x=>by grind[gh,lk]);exact f.aZ t<|λk a x=>bP<|(aS t k a).1);have E:y Q=y O:=h.l.1;obtain q|q:=iU ad<|y O;rw[wF U];simp only[wF q];exact v K _ _ _ (h.l.2 ad U q) ht n;(have C:ad=y O:=by simp at S;omega);subst C;rw[mO U];simp only[mO q];simp only[E,xY,cO];refine v w1 _ _ _ (fj W U) u<|λk a=>?_;let⟨s,t⟩:=n k a;exact⟨s,(e.A k (az t) id).trans t⟩;exact((h.aA.t o).aj g<|λk a=>bu<|bP<|p k a).aj f<|λk a=>bu U
def OT(bd o A:R)(hX:K->Xd r i m)(hT:Steps a)(B:kj m)(j:y m<=10000000000000)(an:y m<=A)(bn:A<=9223372036854775807)(p:bd<G (H a))(hb:Bytes a (bX bd o (y m) A) m):cR bN 72 #[bX bd o (y m) A,bw r] a λao w'=>P9 a w' r (λb _=>K->b=[i]) (¬K) ao:=by
 let⟨i0,cx,cT,db,dc⟩:=cZ VY;have dv:∀(cc:eN)(a:Z),(Op.unary .not<|aO cc).run bN a=.ok (aO<|!cc) a:=λ_ _=>rfl;have ed:∀(dk:Addr)(n aa:R)(a:Z),(binOp .eql 31 (am (M dk) n aa) aF).run bN a=.ok (aO bD) a:=λ_ _ _ _=>rfl;have eg:(binOp .eql 31 aF aF).run bN=λa=>.ok (aO cz) a:=rfl;have hA0:Qu a (dw (dw a<|aK #[aF,aO bD] 172)<|aK #[aF,aO bD] 172) r [] bd o A m aF []:=⟨aQ _ ar,(gy _ ar).trans<|aQ _ z,ct _ _ _ _,⟨z,ar⟩,hb,B,⟨an,bn,j⟩,(cI _ a).aE _,⟨ar,ar,ar,ar⟩⟩;have cd:=ak hA0;have cp:=ak<|show ExB K r i [] m fromλq=>J ⟨z,hX q⟩;have HT:=ak hT;clear hA0 hT hb B j an bn hX;go_in
 go_wp2;go_loopw [0,7] (λbv c wr=>∃(b:iG)(m9 ca:R)(bL:eD)(eq:ae)(vs:iF),bv=bX bd m9 (y bL) ca/\c=ay ((b.map y).sum:R)/\Qu a wr r b bd m9 ca bL eq vs/\ExB K r i b bL) (λbv _ _=>Ya bv)
 exact⟨[],o,A,m,_,_,z,z,cd,cp⟩
 .obtain⟨b,m9,ca,bL,eq,vs,rfl,rfl,c,hE⟩:=hrel;have bb:Steps wr:=HT.dD (c.aA.dD (aq _) cY) HT.lt;let⟨ox,oc,ho⟩:=aM c.aZ;have P:=aX c.g 0;have ec:=aX c.g 1;have bc:=c.aA.D;have ek:=az c.g;have bt:G (H a)<G (H wr):=az c.d;have k:=c.aZ;have w:=c.g;rw[ho]at k P w;have j:=c.i.2.2;have bx:=c.S.L;have br:y b<=31:=bP<|QW<|λl hl=>(c.S.pK l hl).1;have g:=ak (show(K->b=[i])->∀bi(av:eN),I (λaa=>aa=G (H a)+1) wr bi->((bi.setCell (X (G<|H a) 0)<|am ox (y b) oc).setCell (X (G<|H a) 1)<|aO av).heap[G<|H a]?=M (aK #[am ox (y b) oc,aO av] 172 (0,0))/\P9 a ((bi.setCell (X (G<|H a) 0)<|am ox (y b) oc).setCell (X (G<|H a) 1)<|aO av) r (λb _=>K->b=[i]) (¬K) (aN<|de #[ef #[am ox (y b) oc,aO av],aO cz])fromλbr bi av hV=>by
   have s:I (λaa=>aa=G (H a)\/aa=G (H a)+1) wr ((bi.setCell (X (G (H a)) 0) (am ox (y b) oc)).setCell (X (G (H a)) 1) (aO av)):=((hV.aT (T:=λaa=>aa=G (H a)\/aa=G (H a)+1) ar).aL (G (H a)) 0 _ (J (J z))).aL (G (H a)) 1 _ (J (J z));refine⟨?_,ox,y b,oc,av,cz,z,c.aA.aj s ar,(λq=>by cases q),λ_=>⟨b,vs,rfl,s.aZ k (λaa hk ca=>bP ((aS k aa hk).1)),⟨c.l.1,λbf h1 v=>s.aZ (c.l.2 bf h1 v) (λaa hk ca=>bP ((aS (c.l.2 bf h1 v) aa hk).1))⟩,c.S,br⟩⟩;have v:=aY (i:=1) (u:=aO av) (aY (i:=0) (u:=am ox (y b) oc) ((hV.A _ bt U).trans c.d));simpa using v)
  have f:=ak (show¬K->∀bi,I aC wr bi->((bi.setCell (X (G<|H a) 0) aF).setCell (X (G<|H a) 1)<|aO bD).heap[G<|H a]?=M (aK #[aF,aO bD] 172 (0,0))/\P9 a ((bi.setCell (X (G<|H a) 0) aF).setCell (X (G<|H a) 1)<|aO bD) r (λb _=>K->b=[i]) (¬K) (aN<|de #[ef #[aF,aO bD],aO bD])fromλD bi hV=>by
   have s:I (λaa=>aa=G (H a)) wr ((bi.setCell (X (G (H a)) 0) aF).setCell (X (G (H a)) 1) (aO bD)):=((hV.aT (T:=λaa=>aa=G (H a)) cY).aL (G (H a)) 0 _ (J z)).aL (G (H a)) 1 _ (J z);refine⟨?_,dE,0,0,bD,bD,z,c.aA.aj s ar,λ_=>D,ar⟩;have v:=aY (i:=1) (u:=aO bD) (aY (i:=0) (u:=aF) ((hV.A _ bt id).trans c.d));simpa using v)
  have d:=ak c.d;have t:=ak w;by_cases x:0<y bL;rotate_left
  .have av:y bL=0:=U;have g:=ak<|ag g λq=>(hE q).elim (λdk=>bP dk.2.qp.1) (·.1);have r0:=aX d 0;have r1:=aX d 1;have r2:=cV (i:=0) d;have r3:=cV (i:=1) d;rw[av];clear c bb k w av x j hE;subst ho;go_wp2;let⟨V,W⟩:=ag g _ bD<|I.bI _ _;refine ci (pJ z _ _ (G<|H a) ox (y b) oc bD _ _ z V) z ?_;exact W
  have hE:K->b=[]/\Xd r i bL:=λq=>(hE q).elim id (λdk=>by rw[dk.2]at x;cases x);have hcut:=M8 bd m9 ca (y bL) bb (au p bc) c.L z j c.i.1 c.i.2.1<|c.bB.dD (c.aA.dD (aq _) cY) (λaa hk=>by cases hk;exact p);have HC:=ak (show∀dT ao,QC wr dT bd bL ao->I aC wr dT/\((ao=aN (de #[aF,aF,aO cz])\/ao=aN (de #[aF,aF,aO bD]))/\¬K\/∃(bT rest:eD)(g9 ds z' c':R)(ok:eN),ao=aN (de #[bX bd g9 (y bT) ds,bX bd z' (y rest) c',aO ok])/\y rest<y bL/\kj bT/\kj rest/\y bT<=10000000000000/\y rest<=c'/\c'<=9223372036854775807/\Bytes wr (bX bd g9 (y bT) ds) bT/\Bytes wr (bX bd z' (y rest) c') rest/\(K->ok=cz/\bT=oJ r i/\rest=[]))from by
   rintro dT ao⟨h1,⟨cb,v⟩|⟨cb,v⟩|⟨eo,ea,cb,⟨g2,v⟩|⟨bT,rest,g9,ds,z',c',av,g2,v,h3,h4,h5,h6⟩⟩⟩
   .exact⟨h1,J ⟨J v,λq=>bP<|(hE q).2.qp.1⟩⟩
   .exact⟨h1,J ⟨bu v,λq=>by let⟨_,_,en,ao,_⟩:=(hE q).2.qp;exact cb en ao⟩⟩
   .exact⟨h1,J ⟨J v,λq=>by
     let⟨_,e0,en,ao,e1,_⟩:=(hE q).2.qp;cases DF (cb.symm.trans ao);rw[e1,e0]at g2;omega⟩⟩
   .have B:=c.L.pO 12;have hl:=cD y av;rw[iZ,ai]at hl;rw[av]at B;exact⟨h1,bu ⟨bT,rest,g9,ds,z',c',_,v,U,λcc hx=>B cc (by simp[hx]),λcc hx=>B cc (by simp[hx]),U,h3,h4,h5,h6,λq=>by
     let⟨_,e0,en,ao,e1,e2⟩:=(hE q).2.qp;cases DF (cb.symm.trans ao);have h7:=ud (av.symm.trans (e0.trans (eu _).symm)) U;exact⟨by rw[e2,h7.1];simp,h7⟩⟩⟩)
  have cm:=ak k;have HA:=ak c;let⟨RL,aD⟩:∃RL,y bL=RL:=⟨_,rfl⟩;let⟨S0,aV⟩:∃S0,(b.map y).sum=S0:=⟨_,rfl⟩;rw[aD]at hcut x|-;rw[aV]at bx|-;have cn:=ak aD;have ap:=ak aV;have e0:(0:Y)<(RL:Y):=U;have HE:=ak hE;clear c bb k w j aD aV hE;subst ho;go_wp21;go_call hcut as ao w1 bl;let⟨n,cr⟩:=ag HC w1 ao bl;clear hcut bl;have b1:=(n.A _ (az t) id).trans<|ag t;have s1:=(n.A _ (az d) id).trans<|ag d;have r0:=aX s1 0;have r1:=aX s1 1;have r2:=cV (i:=0) s1;have r3:=cV (i:=1) s1;have t0:=aX b1 0;have t1:=aX b1 1;have t2:=cV (i:=1) b1;have ej:=az b1;have F:=ak n;obtain⟨rfl|rfl,D⟩|⟨bT,rest,g9,ds,z',c',ok,rfl,cM,bo,bp,cB,cu,cv,ab,bm,O⟩:=cr
  .have g:=ak<|ag g λq=>(D q).elim;clear n b1 s1 P D;go_wp2;let⟨V,W⟩:=ag g _ cz<|((ag F).aT (T:=λaa=>aa=G (H a)+1) cY).aL (G (H a)+1) 1 (aO cz)<|J rfl;refine ci (pJ z _ _ (G<|H a) ox (y b) oc cz _ _ z V) z ?_;exact W
  .have f:=ak<|ag f D;clear n b1 s1 P D;go_wp2;let⟨V,W⟩:=ag f _<|ag F;refine ci (pJ z _ _ (G<|H a) dE 0 0 bD _ _ z V) z ?_;exact W
  cases ok
  .have f:=ak (ag f λq=>by cases(O q).1);clear n b1 s1 P O;go_wp2;let⟨V,W⟩:=ag f _<|ag F;refine ci (pJ z _ _ (G<|H a) dE 0 0 bD _ _ z V) z ?_;exact W
  let⟨q,hq⟩:∃q,IntKind.u64.wrap (r+(y b:Y))=q:=⟨_,rfl⟩;have bs:0<=q/\q<18446744073709551616:=by rw[<-hq,dY];omega
  have cs:bd<G (H w1):=au (au p bc) n.D;have ab:=ab.dD (n.dD (aq _) cY) (λaa hk=>by cases hk;exact au p bc);have S:=ID (j4:=K) (es:=i) q (w:=w1) (λhx=>by
   obtain⟨_,rfl,_⟩:=O hx;obtain⟨rfl,_,g1,g2,g3,g4⟩:=ag HE hx;obtain rfl:r=q:=by rw[<-hq,dY];simp;omega
   exact⟨z,g1,g2⟩) ab (λaa hk=>by cases hk;exact cs) bo U bs.1 bs.2
  let⟨BL,bk⟩:∃BL,y bT=BL:=⟨_,rfl⟩;rw[bk]at S|-;let⟨RN,aU⟩:∃RN,y rest=RN:=⟨_,rfl⟩;have HG:=ak<|show RN<RL from bP<|ag cn;have E:=ak<|show Bytes a (bX bd z' (y rest) c') rest/\kj rest/\y rest<=c'/\c'<=9223372036854775807/\y rest<=10000000000000 from⟨bm.zaf (ag HA).aA p,bp,cu,cv,bP<|(ag HA).i.2.2⟩;rw[aU];have co:=ak aU;have ch:=ak O;have HQ:=ak hq;have a1:IntKind.u64.wrap (y b:Y)=y b:=by rw[dY];omega
  have a5:IntKind.u64.wrap (r+(y b:Y))=q:=hq;clear n b1 s1 P ab bm bo bp cB cM bk aU hq HC O;go_wp21;go_call S as ao w2⟨bv,dd,l,rfl,al,Q,bq,ad,ac,C⟩;obtain⟨dr,dn,rfl⟩:=aM Q;have e:I aC wr w2:=(ag F).t al;have b2:=(e.A _ (az t) id).trans<|ag t;have s2:=(e.A _ (az d) id).trans<|ag d;have u0:=aX s2 0;have u1:=aX s2 1;have u2:=cV (i:=0) s2;have u3:=cV (i:=1) s2;have v0:=aX b2 0;have v1:=aX b2 1;have dx:=e.D;have a3:IntKind.i64.wrap ((S0:Y)+(y l:Y))=(S0:Y)+y l:=by rw[bR];omega
  have L:=ak e;cases dd
  .have f:=ak (ag f λq=>by cases(C q).1);clear e b2 s2 Q al ad ac S C;go_wp2;let⟨V,W⟩:=ag f _<|ag L;refine ci (pJ z _ _ (G<|H a) dE 0 0 bD _ _ z V) z ?_;exact W
  by_cases N:32<=S0+y l
  .have a4:(32:Y)<=(S0:Y)+(y l:Y):=U;have f:=ak (ag f λq=>by have cb:=ag HE q;rw[(C q).2]at N;rw[<-ag ap,cb.1]at N;have:=cb.2.2.2.1.2;simp at N;omega);clear e b2 s2 Q al ad ac S N C;go_wp2;let⟨V,W⟩:=ag f _<|ag L;refine ci (pJ z _ _ (G<|H a) dE 0 0 bD _ _ z V) z ?_;exact W
  have a4:¬((32:Y)<=(S0:Y)+(y l:Y)):=U;have ck:=ak<|show Iw r (b++[l])from(ag HA).S.Gh (ad z) bq (λcc hx=>by rw[ag HQ];exact ac cc hx) (by rw[ag ap];omega);let⟨bh,cl⟩:=And.intro (ak<|e.aZ cm<|λ_ _ ca=>ca) (ak<|fj Q (ag F).D);let⟨NL,ax⟩:∃NL,y l=NL:=⟨_,rfl⟩;have bg:=ak ax;rw[ax]at a3 a4 bq|-;have cj:=ak<|show ExB K r i (b++[l]) rest fromλq=>bu ⟨by rw[(ag HE q).1,(C q).2];rfl,(ag ch q).2.2⟩;clear e b2 s2 Q al ad ac S N ax C;go_wp2_with(first
   |(at_builtin;go_loud(refine cq _ z (.tmp 50) (.tmp 52) 170 z (G (H a)+2) 102 i0 aF 1 24 underlying170 cx cT db dc z cg (.slice ox (y b) oc) (y b) vs z (bC bh _) (X (G (H w2)) 0) 1 1 [.slice dr NL dn] z z (rG _ _ _) (by simp[Value.oneCell']) U U dW ?_;intro o2 w3 ba bE;let⟨hA3,eb,ei⟩:=(ag HA).DC (z':=z') (c':=c') (w1:=w2) (w2:=w3) (o2:=o2) (rest:=rest) (l:=l) (bv:=.slice dr NL dn) L (by rw[<-ag bg];exact cl) ba bE (ag E).1 (ag E).2.1 ⟨(ag E).2.2.1,(ag E).2.2.2.1,(ag E).2.2.2.2⟩ ck;obtain⟨em,el,rfl⟩:=aM ba;have ce:=ak hA3;clear ba bE hA3)))
  go_roundw
  .exact⟨b++[l],z',c',rest,_,_,by rw[ag co],by rw[bz,eY,ag ap];simp only[bO,gB,ft,List.sum_nil,ag bg];go_num,ce,cj⟩
  .simp only[UV];exact HG
def SR.yq(s:SR)(a:ae)(j n:R):SR:={s with L:=a,o:=n,S:=(s.S+j) %18446744073709551616}
def Oq(s:SR)(a:s.L=aF)(b:s.o=0)(c:s.S<18446744073709551616):s.yq aF 0 0=s:=by
 cases s;simp_all[SR.yq]
def Np{g8:iG}(j:R):((g8.take j).map y).sum<=(g8.map y).sum:=by
 grind[take_append_drop]
def oD(a:iG):dB:=a.foldl (λm l=>kT [] m l) []
def GK(a:iG)(l:dB):oD (a++[l])=kT [] (oD a) l:=by simp[oD]
def ZH(a:iG):∀m,gG m->gG (a.foldl (λm l=>kT [] m l) m):=by
 induction a with
 |nil=>grind
 |cons l r b=>grind[AA]
def DP(a:iG):gG (oD a):=ZH a [] gG.km
def ZJ(a:iG):∀m:dB,y (a.foldl (λm l=>kT [] m l) m)<=y m+(a.map y).sum:=by
 induction a with
 |nil=>intro m;simp
 |cons l r b=>
  grind[AC]
def Jy(a:iG):y (oD a)<=(a.map y).sum:=by
 have:=ZJ a [];simpa[oD]using this
def ZI(b:iG):∀m:dB,∀x∈b.foldl (λm l=>kT [] m l) m,x∈m\/x∈b.flatten:=by
 induction b with
 |nil=>intro m x a;exact J a
 |cons l r c=>
  intro m x a;rw[yW]at a;rw[di,aP];obtain q|q:=c _ x a
  .exact(AB q).imp id J
  .exact bu<|bu q
def Vq(h:S∈oD O):S∈O.flatten:=(ZI O [] S h).elim (λq=>by cases q) id
def Vp(a:iG):sq 5 (oD a):=by
 obtain q|⟨r,l,q⟩:=zh a;rw[q];exact sq.km _;rw[q,zi,GK];exact Az (DP r) ar l
def S9(s:SR)(K:DK)(m8:iG->eN->Prop)(e:Prop):Prop:=∀a,fp (vw K.ah) (gX s.l)=M a->∀(b:Z)(x:Option Addr)(d:R),Steps b->Bytes b (am x (y a) d) a->(x≠dE->y a<=d/\d<=9223372036854775807)->(x=dE->a=[])->(∀k,cN (am x (y a) d)=M k->k<G (H b))->kj a->y a<=10000000000000->cR bN 72 #[am x (y a) d,bw (s.A:Y)] b λf c=>P9 b c (s.A:Y) m8 e f
def S9.aT{K:DK}{m8 e:iG->eN->Prop}{d a:Prop}(h:S9 o K m8 d)(O:∀c t,m8 c t->e c t)(N:d->a):S9 o K e a:=λP L w V W g j k m n p r=>(h P L w V W g j k m n p r).mono λac w'⟨V,ab,aa,t,ok,s,u,v,x⟩=>⟨V,ab,aa,t,ok,s,u,λq=>N<|v q,λq=>let⟨c,Q,A,B,C,D,E⟩:=x q;⟨c,Q,A,B,C,D,O c t E⟩⟩
def RpH(w c:Z)(d:R)(s:SR)(e:Y)(K:DK)(m8:iG->eN->Prop)(g:Prop)(h:Ending):Prop:=(h=aN ic/\∃b my f a,Iw (s.A:Y) b/\m8 b my/\cU c d {s.yq f (y b) (b.map y).sum with i:=cz,my:=my,k:=cz} e/\fE c (G<|H w) 223 4 f (y<|oD b) (bj<|oD b)/\gl w c s.f d K a/\wS K a/\(∀e,a.j s.f e->K.j s.f e))\/∃a,gl w c s.f d K a/\wS K a/\(∀e,a.j s.f e->K.j s.f e)/\(g\/0<K.fx.bd)/\∃q,h=aN (eW q)/\tD c q
def RG{w:Z}{K:DK}{m8:iG->eN->Prop}{EX:Prop}(h:cU w b o r)(hR:S9 o K m8 EX)(v:cJ w o.f K)(ap:¬K.j o.f b)(hp:Pow w)(hT:Steps w)(br:1≠b/\¬K.j o.f 1)(hl:o.l<18446744073709551616)(s:fp (vw K.ah) (gX o.l)≠dE)(hm:o.L=aF)(bE:o.o=0)(ds:o.S<18446744073709551616)(ea:MO w K b o []):cR bN 29 #[aJ b] w λal l=>RpH w l b o r K m8 EX al:=by
 have dT:=az h;have ao:=AN o.l hl hp;have ec:=cU.bW h 17 z;have:IntKind.u64.wrap ((o.S:Y)+1)=(o.A:Y):=by rw[dY];unfold SR.A;omega
 let⟨rb,N⟩:∃rb,fp (vw K.ah) (gX o.l)=M rb:=uW.1 s;have cm:∀cu,I aC w cu->bA cu (X b 2)=M (aJ o.f)/\cR bN 70 #[aJ o.f,aw<|gX o.l] cu λal l=>(∃L aa,al=aN (de #[am L (y rb) aa,ic])/\(cR bN 72 #[am L (y rb) aa,bw (o.A:Y)] l λal e=>∃(L:Option Addr)(g r:R)(my ok:eN),al=aN (de #[ef #[am L g r,aO my],aO ok])/\I aC l e/\(ok=bD->EX)/\(ok=cz->∃a D,g=y a/\fE e (G (H l)+2) 102 1 (am L (y a) r) (y a) D/\Iv e (G (H l)+2) D a/\Iw (o.A:Y) a/\m8 a my))/\G (H w)<=G (H l)/\cU l b o r/\∃t,gl w l o.f b K t/\wS K t/\∀r,t.j o.f r->K.j o.f r)\/∃q,al=aN (de #[aF,eW q])/\RpH w l b o r K m8 EX (aN<|eW q)/\bA l (X q 1)=M (ay 8):=λcu d=>by have f:cU cu b o r:=(d.A b dT id).trans h;refine⟨f.u z,?_⟩;go_call TN (db:=o.f) (K:=K) (gX o.l) (bs:=rb) (w:=cu) (v.aA d<|λ_ _=>id) N (wL hl)as al l⟨t,V,e1,e3,⟨v',rfl,E⟩|⟨av,q,rfl,c⟩⟩;rotate_left;exact bu ⟨q,z,bu ⟨t,(nk (j3:=b) v d).aj<|gl.of V,e1,e3,bu av,q,z,8,c,cg⟩,by let⟨cs,c,_⟩:=c;exact aX c 1⟩;left;have bd:=(nk (j3:=b) v d).aj<|gl.of V;have ad:cU l b o r:=(V.aA.A b (az f) ap).trans f;have ac:Steps l:=λq c=>V.aA.u (d.u (hT q c) id<|cA _ _<|hT q c) br.2<|au (cA _ _<|hT q c) d.D;have bi:G (H w)<=G (H l):=aR d.D V.aA.D;let⟨bk,hF,k⟩:=yH N;have S:=v.ah bk (eM hF).2.1;have ab:kj rb:=k▸S.2.2.1;(have n:y rb<=10000000000000:=by rw[<-k];have:=v.dL (eM hF).2.1;omega);let⟨L,aa,hv⟩:=aM E;subst hv;refine⟨L,aa,z,hR rb N l L aa ac (fA.bB E) ?_ ?_ (λr hk=>(E.lt r hk).2) ab n,bi,ad,t,bd,e1,e3⟩;intro hx;obtain⟨q1,⟨q2,q0⟩|⟨B,cp,O,q2,ax,hh,x,C,i⟩⟩:=E;injection q2 with q3;exact absurd q3 hx;cases q2;exact⟨x,by unfold maxLen at C;omega⟩;intro hx;obtain⟨q1,⟨q2,q0⟩|⟨B,cp,O,q2,ax,hh,x,C,i⟩⟩:=E;exact bG<|dV q0;cases q2;cases hx
 let⟨HH,cM,em,HM⟩:=js h cm N<|And.intro hm bE;have bT:=λcu=>tX (gX o.l) cu;have cj:=wL hl;clear h v hp hT br s cm N hm bE hl hR;generalize gX o.l=cs at*;go_in
 go_wp21;go_call ao as al w1⟨rfl,bv⟩;have bl:I aC w w1:=I.p bv;let⟨k2,hr⟩:=cM w1 bl;have:=bl.D;clear bl bv ao;go_wp21;go_call hr as al w2(⟨rx,rc,rfl,bf,eo,bb,ba⟩|⟨q,rfl,hP,cl⟩);rotate_left;(.have c:=CR q 8 10 cg w2 cl;clear hr cl;go_wp21;go_call c as al W⟨rfl,hw⟩;subst W;clear c;go_wp2;go_ret;show RpH _ _ _ _ _ _ _ _ (aN<|eW q);exact hP);have q9:=cU.bW bb 9 z;have ab:=Zg 10 w2;let⟨bo,bp,dc⟩:=eU bb ba (show∃t,MO w2 t b o []from by let⟨t,V,_⟩:=ba;exact⟨t,ea.eQ V⟩);clear bb ba hr k2 ec;go_wp21;go_call ab as al ej⟨rfl,hw⟩;subst ej;go_wp21;go_call bf as al W⟨x3,n3,c3,my,ok,rfl,P,aV,bh⟩;cases ok;(.have C:=ak<|aV z;let⟨t,d,c,n⟩:=ag bp;let⟨e,m⟩:∃e,dw W (aK #[am x3 n3 c3,aO my] 172)=e:=⟨_,rfl⟩;have A:I aC w2 e:=m▸P.aE _;have i:=ak<|d.aj<|nk (j3:=b) d.ok A;have k:=ak<|And.intro c n;clear d A P bh aV c n bf;go_wp21;go_call bT e as al g⟨rfl,f⟩;have x:tD g (G<|H e):=f▸tD.lY e cj;have p:I aC e g:=f▸cI _ _;have E:=ak<|show RpH w g b o r K m8 EX (aN<|eW<|G<|H e)from bu ⟨t,(ag i).aj<|nk (j3:=b) (ag i).ok p,k.1,k.2,J<|ag C,_,z,x⟩;clear x p f;go_wp2;go_ret;exact ag E);obtain⟨a,D,dx,bg,bc,aU,dr⟩:=bh rfl;subst dx;have:=aU.L;clear bh aV;let⟨e,m⟩:∃e,dw W (aK #[am x3 (y a) c3,aO<|my] 172)=e:=⟨_,rfl⟩;have A:I aC w2 e:=m▸P.aE _;have Q:I aC W e:=m▸(cI aC W);have:=P.D;have cn:G (H e)=G (H W)+1:=by rw[<-m];simp
 have F:e.heap[G<|H W]?=M (aK #[am x3 (y a) c3,aO<|my] 172 (0,0)):=m▸aQ _ z;have bx:cU e b o r:=(A.A b (az bo) id).trans bo;have bq:Row e 1 (am x3 (y a) c3) (y a) D:=dQ<|Q.aZ bg<|λ_ _ aa=>aa;have bt:∀j(b:j<y D)(c:j<y a),fE e (G (H w2)+2) 223 4 D[j] (y a[j]) (bj a[j]):=λj b c=>Q.aZ (bc.2 j b c)<|λ_ _ aa=>aa;have an:∀B,cN (am x3 (y a) c3)=M B->G (H w2)+2<=B/\B<G (H W):=λB s=>bg.lt B s;have:=aX F 0;let⟨dk,cB,dd,cv,cx,el,aD,cT,dn⟩:=Hp bc.1 bq bt an F bx A cn m;clear bg bc P Q F bx bq bt an A cn bf ab q9 m;go_wp2;rw[ag dn];go_loopw [47] (λbn wr=>∃(j:R)(mv:ae),j<=y a/\bn=ay j/\cU wr b (o.yq mv j ((a.take j).map y).sum) r/\fE wr (G<|H w) 223 4 mv (y<|oD<|a.take j) (bj<|oD<|a.take j)/\I (λr=>r=b) e wr) (λbn _=>y a-(intOf bn).toNat)
 have al:=Oq o HM.1 HM.2 ds;refine⟨0,aF,bQ _,dM,?_,ct _ _ _ _,I.bI _ _⟩;show cU e b (o.yq aF 0 0) r;rwa[al]
 .obtain⟨j,mv,hj,rfl,c,f,i⟩:=hrel;have:=ag cT;have:=i.D;let⟨nb,ac⟩:∃nb,(o.S+j) %18446744073709551616=nb:=⟨_,rfl⟩;obtain⟨C,n⟩:=oh<|((a.take j).map y).sum;have bk:=Np (g8:=a) j;have cb:y a<=(a.map y).sum:=QW<|λl hl=>(aU.pK l hl).1;have:y a<=31:=U;have ca:y (a.take j).flatten=C:=by rw[<-n,ul]
  have bi:=Jy<|a.take j;rw[n]at bi;rw[n]at bk;obtain⟨mx,mc,cd⟩:=aM f;have ed:=cU.bW c 7 z;have eg:bA wr (X b 8)=M (ay C):=n▸c.u z;have ei:bA wr (X b 9)=M (bw nb):=ac▸c.u z;by_cases L:j<y a
  .have e1:(j:Y)<(y a:Y):=U;have:(0:Y)<=(j:Y):=U;have cc:j<y D:=ag dk▸L;have ad:=dd j cc L;have bm:∀B,cN D[j]=M B->G (H w2)+2<=B/\B<G (H e):=λB s=>ad.lt B s;have cp:=i.aZ ad<|λB s aa=>bP<|(bm B s).1;have bL:∃b a,x3=M (X b a)/\bA wr (X b<|a+j)=M D[j]:=by
    obtain⟨q1,⟨q2,q0⟩|⟨B,E,ek,q2,en,hc⟩⟩:=ag cB
    .omega
    .cases q2;have:=cv B z;exact⟨B,E,z,i.u (hc j _<|bF cc) U U⟩
   obtain⟨b3,o3,eb,bL⟩:=bL;subst eb;have bd:((a.take<|j+1).map y).sum=C+y a[j]:=by rw[aG L,bz,eY,n];simp
   have O:=Np (g8:=a)<|j+1;rw[bd]at O;have ck:kT [] (oD<|a.take j) a[j]=oD (a.take<|j+1):=by rw[aG L,GK]
   let⟨Kx,co⟩:=ag dc;obtain⟨mb,m1,m2,m3⟩:=co.ex;have m4:kP wr mb (Dn []):=m2.dU<|((i.A mb (gW aD.D m3.lt) m3.ne).trans<|aD.A mb m3.lt id);have ax:=Dw b (o.yq mv j ((a.take j).map y).sum) r [] D[j] a[j] c m1 m4 ar (dQ f) (λB s=>(f.lt B s).2) (dQ cp) (λB s=>bP<|(bm B s).2) (DP _) U;have cr:cR bN 74 #[aJ b,D[j]] wr λal l=>∃v',al=aN v'/\fE l (G<|H wr) 223 4 v' (y<|oD<|a.take<|j+1) (bj<|oD<|a.take<|j+1)/\I aC wr l:=ck▸ax;clear ax m1 m2 m3 m4 co;obtain⟨xj,es,av⟩:=aM ad;obtain⟨ln,dv⟩:=oh<|y a[j];rw[dv]at av bd O;generalize D[j]=vj at*;have:IntKind.i64.wrap ((C:Y)+(ln:Y))=(C:Y)+(ln:Y):=by rw[bR];omega
   obtain⟨k,ch⟩:∃k,(o.S+(j+1)) %18446744073709551616=k:=⟨_,rfl⟩;have:IntKind.u64.wrap ((nb:Y)+1)=(k:Y):=by rw[dY];omega
   have HF:=ak (show∀g d,I aC wr g->fE g (G<|H wr) 223 4 d (y<|oD<|a.take<|j+1) (bj<|oD<|a.take<|j+1)->(bA g (X b 7)=M mv/\bA g (X b 8)=M (ay C)/\bA g (X b 9)=M (bw nb)/\∀bn,iI g (X b bn)=bD)/\cU (cP (cP (cP g (X b 7) d) (X b 8)<|ay<|(C:Y)+ln) (X b 9)<|bw (k:Y)) b (o.yq d (j+1) ((a.take<|j+1).map y).sum) r/\fE (cP (cP (cP g (X b 7) d) (X b 8)<|ay<|(C:Y)+ln) (X b 9)<|bw (k:Y)) (G<|H w) 223 4 d (y<|oD<|a.take<|j+1) (bj<|oD<|a.take<|j+1)/\I (λr=>r=b) e (cP (cP (cP g (X b 7) d) (X b 8)<|ay<|(C:Y)+ln) (X b 9)<|bw (k:Y))fromλg d p x=>by
    have E:cU g b (o.yq mv j ((a.take j).map y).sum) r:=(p.A b (az c) id).trans c;have S:I (λr=>r=b) g (cP (cP (cP g (X b 7) d) (X b 8)<|ay<|(C:Y)+ln) (X b 9)<|bw (k:Y)):=((iQ b g).aL b 8 _<|J z).aL b 9 _<|J z;refine⟨⟨E.u z,n▸E.u z,ac▸E.u z,λbn=>E.bS⟩,?_,?_,(i.t p).aj S<|λ_ aa=>J aa⟩
    .have hx:=aY (i:=9) (u:=bw (k:Y))<|aY (i:=8) (u:=ay<|(C:Y)+ln)<|aY (i:=7) (u:=d) E;have e9:(k:Y)=(((o.S+(j+1)) %18446744073709551616:R):Y):=by rw[ch]
     have e8:((C:Y)+ln)=((((a.take<|j+1).map y).sum:R):Y):=by rw[bd];grind
     rw[e9,e8]at hx|-;exact hx.trans z
    .exact fj (S.aZ x (λB s aa=>gW ((x.lt B s).1) (az c))) U)
   clear c f i ad bm cp O ck bi ca bk cb ac n;subst cd;subst av;go_wp2_with fail
   apply cr.mono;rintro al g⟨d,rfl,x,p⟩;obtain⟨er,eq,ce⟩:=aM x;let⟨⟨y7,y8,y9,fz⟩,hF⟩:=HF g d p x;clear p x cr;subst ce;go_wp2;go_roundw
   .exact⟨j+1,_,L,dM,hF.1,hF.2.1,hF.2.2⟩
   .simp[intOf];omega
  .have:¬(j:Y)<(y a:Y):=U;have d:j=y a:=U;have k:=(i.A _ U U).trans cx;have:=aX k 1;have:∀bn,iI wr (X b bn)=bD:=λbn=>c.bS;have:=cU.bW c 18 z;have:=cU.bW c 19 z;have:=cU.bW c 20 z;have:=az k;have:=az c;have:G (H W)≠b:=U;let⟨E,ad,av,O⟩:=js c f i d;clear c f i k d bk cb ca bi ac n ed eg ei cd;go_wp21;rename_i KK x;apply PT KK
   .intro bd;go_region
    all_goals exact bd
   apply x;clear x;go_wp2;go_ret;have d:=ag O;subst d;have c:=ag E;have f:=ag ad;rw[cQ]at c f;let⟨t,V,e3,e5⟩:=ag bp;have S:I (λr=>r=b) wr ((cP (cP (cP wr (X b 18)<|aO cz) (X b 19)<|aO<|my) (X b 20)<|aO cz).drew):=(((iQ b wr).aL b 19 _<|J z).aL b 20 _<|J z).aj (cf _ _)<|λ_ aa=>J aa;have ax:=((aD.aT (T:=λr=>r=b) cY).aj av<|λ_ aa=>J aa).aj S<|λ_ aa=>J aa;refine J ⟨z,a,my,mv,t,aU,dr,?_,S.aZ f<|λB s aa=>bP<|(f.lt B s).1,V.aj<|Kf V.ok (λq=>ap<|e5 _ q) ax,e3,e5⟩;have hx:=aY (i:=20) (u:=aO cz)<|aY (i:=19) (u:=aO<|my)<|aY (i:=18) (u:=aO cz) c;exact Eq.trans (show _=_ from hx) z
def FV(a:R)(b:dI):ae->Prop:=λx=>x=aw fm\/x=aw (gX a)\/∃t∈b,x=aw (jg t.cK)
def rl{P:Program}{s:Oper}{f:Act}{K:Act->Z->Prop}{Q:Exit->Act->Z->Prop}(i x j:Operand)(w:TypeId)(e:s.op=Op.insert w i x j)(v A:TypeId)(p:P.underlying w=M (.map v A))(l:TypeDesc)(n:P.underlying v=M l)(k:R)(g:ae->Prop)(o:f.eval i=.map (M k))(h:mL a k l g)(b:ae)(d:MapKept.IsKey l b)(r:f.eval x=b)(q:f.eval j=ef #[])(m:∀w',mL w' k l (λx=>g x\/x=b)->a.grownBy w' (M k)->K (f.put s.dst jn) w'):Oper.wp P s f a K Q:=by
 let⟨w',c,t,u,_⟩:=BF p n h b d;unfold Oper.wp;simp[execOp,e,o,r,q,c,Result.andThen];exact m w' t u
def wu(a:R)(b:dI)(x:af):eN:=decide (x=fm)||decide (x=gX a)||b.any (λt=>decide<|x=jg t.cK)
def Xw(a:R)(b:dI)(x:af):wu a b x=cz↔FV a b (aw x):=by
 unfold wu FV;simp[or_assoc]
def IQ(bv bx ao bE:dI)(h:cU a b o r)(hl:Fw a b 10 [(o.l0,bv),(o.l1,bx),(o.l2,ao),(o.l3,bE)])(hT:∀et∈bv++bx++ao++bE,MY a et)(hp:Pow a)(cr:o.l<18446744073709551616)(cv:y (bv++bx++ao++bE)<=20000000000)(co:cJ a o.f f)(ec:y f.ah<=20000000000)(hE:tg a)(hn:∀x∈f.ah.map dj.dA,x.size<=2000000):cR bN 76 #[aJ b] a λap w'=>∃v',ap=aN v'/\∃k:cy af,(∀x∈k,x∈f.ah.map dj.dA/\wu o.l (bv++bx++ao++bE) x=bD)/\y k<=y f.ah/\fE w' (G<|H a) 9 1 v' (y k) (strs k)/\I aC a w':=by
 let⟨i0,cp,dd,dk,dn⟩:=cZ BU;let⟨u0,cB,dc,el,em⟩:=cZ Hn;have ei:=@tE bN;have ds:∀(x:eN)(a:Z),(Op.unary .not<|aO x).run bN a=.ok (aO<|!x) a:=λ_ _=>rfl;have bh:∀W,I aC a W->cR bN 69 #[bw o.l] W λap w'=>ap=aN (aw<|gX o.l)/\gD (G<|H W) W w':=λW E=>AN o.l cr<|hp.aA E id;have al:∀W,I aC a W->cR bN 127 #[ee<|M<|X b 10] W λap w'=>∃v',ap=aN v'/\fE w' (G<|H W) 235 1 v' (y<|bv++bx++ao++bE) ((bv++bx++ao++bE).map cH.D)/\I aC W w':=λW E=>by have e:Fw W b 10 [(o.l0,bv),(o.l1,bx),(o.l2,ao),(o.l3,bE)]:=⟨hl.dL,λD F=>E.u (hl.u D F) id hl.lt,λD F=>E.bV (hl.bV D F)<|λq a=>⟨id,hl.l D F q a⟩,λD F q a=>au (hl.l D F q a) E.D,hl.f⟩;have:=uA _ e;rwa[TQ,UC]at this
 have cs:∀W,I aC a W->cR bN 22 #[aJ o.f] W λap w'=>∃v' k,ap=aN v'/\List.Perm k (f.ah.map dj.dA)/\fE w' (G<|H W) 9 1 v' (y k) (strs k)/\I aC W w':=λW E=>CK (db:=o.f) (K:=f) (w:=W) (co.aA E<|λ_ _=>id) U;have br:=az h;have c2:=cU.bW h 2 z;have ch:=cU.bW h 17 z;let⟨T,cn⟩:∃T,bv++bx++ao++bE=T:=⟨_,rfl⟩;rw[cn]at hT al cv|-;let⟨HH,aV,HP,HN,K,Dm,bT⟩:=zY h hT hp hn bh al cs;generalize o.l=d at*;generalize o.f=dr at*;go_in
 go_wp21;rename_i QQ KK cl;refine cX (λj4=>bA j4 (X b 17)=M (bw d)) 11 aH ?_;have g:∀W,I aC a W->bA W (X b 17)=M (bw d):=λW E=>E.u ch id br;have ax:I aC a a.drew:=cf _ a;have av:=g _ ax;have ek:G (H a.drew)=G (H a):=rfl;refine mX (i:=1) (v:=?_) z z aH aH aH aH (λ_ _ _ h=>h) (J ⟨by rfl,?_⟩) av ?_;rotate_left;(.rintro j4 z0;go_simp;try with_reducible rfl);simp only[ii,eh,fU];refine dH 3 ?_;iterate 4 (refine fX av ?_;simp only[ii,eh,fU,ke])
 apply eS;refine mX (i:=8) (v:=?_) z z aH aH aH aH (λ_ _ _ h=>h) (J ⟨by rfl,?_⟩) av ?_;rotate_left;(.rintro j4 z0;go_simp;try with_reducible rfl);simp only[ii,eh,fU];refine wo (α:=R) (λl W=>I aC a W/\G (H a)<=l/\mL W l .string (λx=>x=aw ⟨#[115,116,97,116,101]⟩\/x=aw (gX d))) (λl=>{tmps:=#[aJ b,jn,aF,jn,jn,jn,jn,jn,jn,jn,jn,.map<|M l,ef #[],aJ b,aJ b,ee<|M<|X b 17,bw d,aw<|gX d,ef #[],jn,jn,jn,jn,jn,jn,jn,jn,jn,jn,jn,jn,jn,jn,jn,jn,jn,jn,jn,jn,jn,jn,jn,jn,jn,jn,jn,jn,jn,jn,jn,jn,jn,jn,jn,jn,jn,jn,jn,jn,jn,jn,jn],defers:=[]}) #[true,true,true,true,true,true,true,true,true,true,false,false] 2 ?_ ?_;(.intro L;refine wo (α:=R) (λl W=>I aC a W/\G (H a)<=l/\mL W l .string aC) (λl=>{tmps:=#[aJ b,jn,aF,jn,jn,jn,jn,jn,jn,jn,jn,.map<|M l,ef #[],aJ b,aJ b,ee<|M<|X b 17,bw d,aw<|gX d,ef #[],jn,jn,jn,jn,jn,jn,jn,jn,jn,jn,jn,jn,jn,jn,jn,jn,jn,jn,jn,jn,jn,jn,jn,jn,jn,jn,jn,jn,jn,jn,jn,jn,jn,jn,jn,jn,jn,jn,jn,jn,jn,jn,jn],defers:=[]}) #[cz,cz,bD,cz,cz,cz,cz,cz,cz,bD,bD,bD] 4 ?_ ?_;(.intro w;refine vk (i:=0) (j:=7) z z z z aH ?_ ?_;(.intro f B;go_simp;have t:=(mL.lY a .string).dU (w':=(dw a<|.map #[] 0).drew) z;have u:I aC a (dw a<|.map #[] 0).drew:=(cI aC a).df z;refine B _ _ (λ_=>g _ u) ?_;generalize(dw a<|.map #[] 0).drew=W1 at*;refine vk (i:=2) (j:=7) z z z z aH ?_ ?_;(.intro V n;(try simp only[dl,cF,cO]);refine rl (.tmp 11) (.const<|aw ⟨#[115,116,97,116,101]⟩) (.tmp 12) 247 z 9 95 underlying247 .string underlying9 (G<|H a) _ z t (aw ⟨#[115,116,97,116,101]⟩) trivial z z ?_;intro P m p;have e:I aC a P:=u.aj (gI p) ar;refine n _ _ (λ_=>g _ e) ?_;refine aW 7 ?_;intro K3 ab;go_simp;go_call K _ e as ap C⟨rfl,s⟩;have i:I aC a C:=e.t<|I.p (S:=aC) s;have Q:=m.dU<|s.block _ m.lt;refine ab _ _ (λ_=>g _ i) ?_;refine aW 9 ?_;intro K4 ac;(try simp only[dl,cF,cO]);refine rl (.tmp 11) (.tmp 17) (.tmp 18) 247 z 9 95 underlying247 .string underlying9 (G<|H a) _ z Q (aw<|gX d) trivial z z ?_;intro w7 ad N;have O:I aC a w7:=i.aj (gI N) ar;exact ac _ _ (λ_=>g _ O)<|lC (L (G<|H a) _ aI) aH);intro V n;go_simp;go_call K _ u as ap C⟨rfl,s⟩;have i:I aC a C:=u.t<|I.p (S:=aC) s;have Q:=t.dU<|s.block _ t.lt;exact n _ _ (λ_=>g _ i)<|lC (w (G<|H a) _ ⟨i,aq _,Q⟩) aH);intro f B;go_simp;go_call K _ ax as ap C⟨rfl,s⟩;have i:I aC a C:=ax.t<|I.p (S:=aC) s;refine B _ _ (λ_=>g _ i) ?_;refine aW 0 ?_;intro V n;go_simp;have t:=i.aE<|.map #[] 0;exact n _ _ (λ_=>g _ t)<|lC (w (G<|H C) _ ⟨t,i.D,mL.lY C .string⟩) aH);rintro l W⟨A,bi,c⟩;refine vk (i:=2) (j:=9) z z z z aH ?_ ?_;intro f B;(try simp only[dl,cF,cO]);refine rl (.tmp 11) (.const<|aw ⟨#[115,116,97,116,101]⟩) (.tmp 12) 247 z 9 95 underlying247 .string underlying9 l _ z c (aw ⟨#[115,116,97,116,101]⟩) trivial z z ?_;intro P m p;have e:I aC a P:=A.aj (gI p) aI;refine B _ _ (λ_=>g _ e) ?_;refine aW 9 ?_;intro V n;(try simp only[dl,cF,cO]);refine rl (.tmp 11) (.tmp 17) (.tmp 18) 247 z 9 95 underlying247 .string underlying9 l _ z m (aw<|gX d) trivial z z ?_;intro C u t;have s:I aC a C:=e.aj (gI t) aI;exact n _ _ (λ_=>g _ s)<|lC (L l _ aI) aH;intro f B;(try simp only[dl,cF,cO]);refine rl (.tmp 11) (.tmp 17) (.tmp 18) 247 z 9 95 underlying247 .string underlying9 l _ z c (aw<|gX d) trivial z z ?_;intro P m p;have e:I aC a P:=A.aj (gI p) aI;refine B _ _ (λ_=>g _ e) ?_;refine aW 2 ?_;intro V n;(try simp only[dl,cF,cO]);refine rl (.tmp 11) (.const<|aw ⟨#[115,116,97,116,101]⟩) (.tmp 12) 247 z 9 95 underlying247 .string underlying9 l _ z m (aw ⟨#[115,116,97,116,101]⟩) trivial z z ?_;intro C u t;have s:I aC a C:=e.aj (gI t) aI;exact n _ _ (λ_=>g _ s)<|lC (L l _ ⟨s,bi,u.yM<|λx=>aI⟩) aH);rintro l W⟨A,bi,c⟩;refine mX (i:=10) (v:=?_) z z aH aH aH aH (λ_ _ _ h=>h) (J ⟨by rfl,?_⟩) (g _ A) ?_;rotate_left;(.rintro j4 z0;go_simp;try with_reducible rfl);simp only[ii,eh,fU];refine aW 11 ?_;intro dx bf;go_simp;refine bf _ _ wX ?_;refine dG aH ?_ _;show KK _ _;apply cl;have bk:=c.lt;have bb:=ak c;go_wp21;go_call Dm W A as ap C⟨v6,rfl,bo,i⟩;obtain⟨x6,c6,cM⟩:=aM bo;subst cM;obtain⟨cc,ce,ba,ca⟩:=js (bb.dU<|i.A _ bk id) (A.t i) bo U;have Q:=i.D;go_wp21;go_loopw [25] (λD wr=>∃aa:R,aa<=y T/\D=ay aa/\mL wr l .string (FV d<|T.take aa)/\I (λr=>r=l) C wr) (λD _=>y T-(intOf D).toNat)
 exact⟨0,bQ _,z,cc.yM (λx=>by unfold FV fm;simp),I.bI _ _⟩
 .obtain⟨aa,hn,rfl,c,e⟩:=hrel;have B:I aC a wr:=ce.aj e aI;by_cases t:aa<y T
  .have L:=e.aZ ba (λr f ao=>by have:=(ba.lt r f).1;have:=ag ca;have:r=l:=ao;omega);let⟨P,ad,bg⟩:∃P,x6=M (X P 0)/\bA wr (X P aa)=M T[aa].D:=by
    obtain⟨h2,h0⟩|⟨eb,cj,ck,h2,_⟩:=L.2
    .omega
    .cases h2;refine⟨eb,z,?_⟩;have:=rk L aa T[aa].D (by rw[fP,bF t];rfl);rwa[dS,ez]at this
   subst ad;have ab:=(aV T[aa]<|aB t).aA B|>.dA (HP.aA B id);have N:=ak (show∀x,FV d (T.take<|aa+1) x↔FV d (T.take aa) x\/x=aw (jg T[aa].cK)fromλx=>by
    unfold FV;rw[aG t];grind)
   have u:=c.lt;have e1:(aa:Y)<(y T:Y):=U;unfold cH.D at bg;generalize jg T[aa].cK=p at*;generalize T[aa].tb=j8 at*;go_wp21;go_call ab as ap w7⟨rfl,m⟩;have s:=ak<|c.dU<|m.block l u;have O:=ak<|e.t<|I.p (S:=aC) m;go_wp2_with(at_mapUpdate;refine wH _ z _ _ _ 247 z 9 95 underlying247 .string underlying9 l _ z s (aw p) trivial z z ?_;intro w8 ac V;have w:=ak ac;have n:=ak V)
   go_roundw
   .exact⟨aa+1,t,dM,w.yM N,O.aj (gI n)<|λ_ ao=>J ao⟩
   .simp[intOf];omega
  .have bl:aa=y T:=U;rw[bl,cQ]at c;have e1:¬(aa:Y)<(y T:Y):=U;have u:=c.lt;have ea:bA wr (X b 2)=M (aJ dr):=B.u c2 id br;go_wp2_with fail
   apply(bT wr B).mono;rintro ap w9⟨v9,k,rfl,P,bp,V⟩;obtain⟨x9,c9,cT⟩:=aM bp;subst cT;have ej:y k<=20000000000:=zZ P.length_eq;let⟨cd,cb,bc⟩:=eU (c.dU<|V.A l u id) bp<|B.t V;have bL:=ak (show∀x∈k,∀W,I aC a W->cR bN 129 #[aw x] W λap w'=>zcs W w' ap fromλx hx W E=>H7 x (HN x<|P.mem_iff.1 hx) (HP.aA E id)<|hE.aA E id id);have cu:=au u V.D;have en:=aR B.D V.D;go_wp21;go_loopw [6,40] (λo D b=>∃(O:R)(s:cy af),O<=y k/\D=ay O/\y s<=O/\Hid (∀x∈s,x∈k/\wu d T x=bD)/\fE b (G<|H a) 9 1 o (y s) (strs s)/\fo w9 b aF o) (λ_ D _=>y k-(intOf D).toNat)
   .exact⟨0,[],bQ _,z,aq _,ak ar,ct _ _ _ _,fo.bI _ _⟩
   .obtain⟨O,s,hm,rfl,cm,HSub,ho,N⟩:=hrel;let⟨ox,oc,bq⟩:=aM ho;have e:I aC w9 wr:=I.eF N.dF (λr f=>by cases f);by_cases m:O<y k
    .have L:=e.aZ cb<|λ_ _ ao=>ao;let⟨b9,db,bg⟩:∃b9,x9=M (X b9 0)/\bA wr (X b9 O)=M (aw k[O]):=by
      obtain⟨h2,h0⟩|⟨eb,cj,ck,h2,_⟩:=L.2
      .omega
      .cases h2;refine⟨eb,z,?_⟩;have:=rk L O (aw k[O]) (by simp[strs,m]);rwa[dS,ez]at this
     subst db;have cx:=cd.dU<|e.A l cu id;let⟨dv,hr⟩:∃dv,wu d T k[O]=dv:=⟨_,rfl⟩;have eg:=DH underlying247 underlying9 cB dc cx (aw k[O]) trivial dv<|hr▸Xw d T k[O];have ed:y s<=12000000000+20000000000:=U;have aU:=ak<|aB m;have ac:=bL k[O]<|aB m;have e2:(O:Y)<(y k:Y):=U;have an:=bc.t e;have eo:=e.D;generalize k[O]=p at*;subst bq;cases dv with
     |true=>
      go_wp2;go_roundw
      .refine⟨O+1,s,m,dM,U,HSub,bC ho _,?_⟩
       .have n:=(I.bI aC wr).aE<|aK #[] 95;exact N.aj ⟨⟨n.os,n.l,n.f,n.D,λD F _=>n.A D F id⟩,J z⟩
      .simp[intOf];omega
     |false=>
      have bn:=ac (dw wr<|aK #[] 95)<|an.aE _;go_wp21;apply bn.mono;rintro ap aD⟨ob,rfl,ad⟩;have w:I aC wr aD:=((I.bI aC wr).aE<|aK #[] 95).t ad;have ab:=ak<|w.aZ ho<|λ_ _ ao=>ao;clear ad bn ac;cases ob
      .go_wp2;go_roundw;case rel=>
        refine⟨O+1,s,m,dM,U,HSub,ab,?_⟩;have n:=w;exact N.aj ⟨⟨n.os,n.l,n.f,n.D,λD F _=>n.A D F id⟩,J z⟩
       case measure=>simp[intOf];omega
      go_wp2_with(at_builtin;refine cq _ z (.tmp 56) (.tmp 58) 81 z (G<|H a) 9 i0 (aw ⟨#[]⟩) 1 16 underlying81 cp dd dk dn z cg (am ox (y s) oc) (y s) (strs s) z (bC ab<|aK #[aw p] 9) (X (G<|H aD) 0) 1 1 [aw p] z z (pP _ _ _) (by simp[Value.oneCell']) U U (by have:=an.D;have:=w.D;simp;omega) ?_;intro eq er bm bt;obtain⟨es,dT,bs⟩:=aM bm;subst bs;have bd:=ak bt)
      go_roundw;case rel=>
       refine⟨O+1,s++[p],m,dM,ai▸wZ cm,ak<|λx hx=>?_,?_,?_⟩
       .obtain q|q:=aP.1 hx
        .exact ag HSub x q
        .rw[bY.1 q];exact⟨ag aU,hr⟩
       .rwa[DA,ai]
       .have n:=w;have h1:fo wr aD (am ox (y s) oc) (am ox (y s) oc):=⟨⟨n.os,n.l,n.f,n.D,λD F _=>n.A D F id⟩,J z⟩;exact N.aj<|h1.aj<|fo.aE _ bd
      case measure=>simp[intOf];omega
    .have bl:O=y k:=U;have e2:¬(O:Y)<(y k:Y):=U;obtain⟨oy,od,n⟩:=aM ho;have w:=ak<|bc.t e;clear N e bq;subst n;go_wp2;go_ret;exact⟨_,z,s,λx hx=>⟨dV<|P.mem_iff.1 (ag HSub x hx).1,(ag HSub x hx).2⟩,by have:=P.length_eq;rw[cS]at this;omega,ho,w⟩
def T5(s:SR)(K:DK)(T:dI)(a:cy af):Prop:=(∀x∈a,x∈K.ah.map dj.dA/\wu s.l T x=bD)/\y a<=y K.ah
def zax(w b:Z)(c:R)(s:SR)(K:DK)(T:dI)(e:Ending):Prop:=∃a,T5 s K T a/\wU w b s.f K (a.map .rm) e
def WN(u v i w:dI)(h:cU a b o r)(V:Fw a b 10 [(o.l0,u),(o.l1,v),(o.l2,i),(o.l3,w)])(T:∀ad∈u++v++i++w,MY a ad)(W:Pow a)(l:o.l<18446744073709551616)(p:y (u++v++i++w)<=20000000000)(c:cJ a o.f f)(s:¬f.j o.f b)(F:y f.l+y f.ah<=1000000000000)(k:y f.ah<=20000000000)(S:tg a)(K:∀D∈f.ah.map dj.dA,Nm D)(n:qu f.fx\/∀D∈f.ah.map dj.dA,wu o.l (u++v++i++w) D=cz):cR bN 30 #[aJ b] a λP C=>zax a C b o f (u++v++i++w) P:=by
 have E:=IQ u v i w h V T W l p c k S (λD a=>by have:=K D a;unfold Nm at this;omega)
 have N:∀ab B d,I aC a ab->T5 o f (u++v++i++w) d->fE ab (G<|H a) 9 1 B (y d) (strs d)->cR bN 75 #[aJ b,B] ab λP C=>∃aa,P=aN aa/\zax a C b o f (u++v++i++w) (aN aa):=by
  intro ab B d A x L;apply(Gy (K:=f) B d ((A.A b (az h) id).trans h) (c.aA A<|λ_ _=>id) s (dQ L) (λj q=>⟨(L.lt j q).2,λa=>gW (c.lt j a)<|(L.lt j q).1⟩) (λq=>n.elim id (λm9=>by
   cases d with
   |nil=>exact absurd z q
   |cons D al=>
    have g:=x.1 D ar;rw[m9 D g.1]at g;exact absurd g.2 ar)) (bP x.2) (λn q=>K n (x.1 n q).1)).mono
  rintro P C⟨aa,K',rfl,m⟩;exact⟨aa,z,d,x,aa,K',z,⟨m.D.ok,(A.aT (T:=f.j o.f) cY).aj m.D.aA<|λ_ q=>J q,λq i=>(m.D.j q i).imp id<|aR A.D,m.D.fx⟩,m.d⟩
 clear h V T W c K F k p l s S n;generalize u++v++i++w=ac at*;go_in
 go_wp21;go_call E as P w1⟨v1,rfl,d,g,j,e,t⟩;have Q:=N w1 v1 d t ⟨g,j⟩ e;let⟨x1,c1,O⟩:=aM e;subst O;clear g j e t;go_wp21;go_call Q as P w2⟨v2,rfl,hK⟩;clear Q;go_wp2;go_ret;show zax _ _ _ _ _ _ (aN v2);exact hK
def TD(s:SR)(a b c d:dI):Prop:=(s.o:Y)<s.D/\qe s.ub 0 (y a)=bD/\qe s.ub 1 (y b)=bD/\qe s.ub 2 (y c)=bD/\qe s.ub 3 (y d)=bD
def ShZ(k:Prop)(j:cy af)(w i:Z)(f:R)(s:SR)(q:Y)(K:DK)(r:dB)(m n o p:dI)(C N:R)(l:gJ)(v:ae):Prop:=(v=ic/\∃h a g b c d e,Fh k j w i f s q K C N l h a g b c d e/\(TD s m n o p->h=s/\a=K/\g=r/\b++c++d++e=m++n++o++p))\/(qu K.fx/\∃a,MK w i f s q K a C v)
def NF(s:SR)(b c d e:dI)(a:eN):Prop:=TD s b c d e->a=bD
def Rl{Q:cy af}(sn:gJ)(h:cU a b o r)(s:Inv K Q a b o f i l v C F c k sn)(hN:k+1<=1000000000)(bc:qu f.fx\/TD o l v C F):cR bN 31 #[aJ b] a λA m=>∃bd,A=aN bd/\ShZ K Q a m b o r f i l v C F c (k+1) sn bd:=by
 have V:=az h;have k3:=cU.bW h 3 z;have k8:=cU.bW h 8 z;have HH:=ak h;have HV:=ak s;clear h s;go_in
 go_wp2;go_quiet(fail)
 rename_i KK p;show KK _ _;apply p;clear p;have w:I aC a (a.drewN nq):=(I.bI aC a).df z;generalize a.drewN nq=g at w|-;let⟨j,P⟩:∃j,decide (o.D<=(o.o:Y))=j:=⟨_,rfl⟩;have ao:=ak (show NF o l v C F j fromλq=>by rw[<-P];have:=q.1;simp;omega);rw[P];clear P;have h:=ag HH;have s:=ag HV;have e:cU g b o r:=(w.A b V id).trans h;have t:=nk (j3:=b) s.st.f w;have n:=s.eQ (s':=o) V t z (aq _) z;let⟨mx,mc,u⟩:=cG s.st.D;let⟨D,x,ab⟩:=cG s.st.l0.bV;let⟨E,c1,ac⟩:=cG s.st.l1.bV;let⟨L,c2,ad⟩:=cG s.st.l2.bV;let⟨N,c3,al⟩:=cG s.st.l3.bV;have:bA g (X b 10)=M (am D (y l) x):=ab▸e.u z;have:bA g (X b 11)=M (am E (y v) c1):=ac▸e.u z;have:bA g (X b 12)=M (am L (y C) c2):=ad▸e.u z;have:bA g (X b 13)=M (am N (y F) c3):=al▸e.u z;have q7:bA g (X b 7)=M (am mx (y i) mc):=u▸e.u z;have q9:=cU.bW e 9 z;have:∀W,(Instr.index 108 (ef #[am D (y l) x,am E (y v) c1,am L (y C) c2,am N (y F) c3])<|ay 0).run bN W=.ok (am D (y l) x) W:=λ_=>aH;have:∀W,(Instr.index 108 (ef #[am D (y l) x,am E (y v) c1,am L (y C) c2,am N (y F) c3])<|ay 1).run bN W=.ok (am E (y v) c1) W:=λ_=>aH;have:∀W,(Instr.index 108 (ef #[am D (y l) x,am E (y v) c1,am L (y C) c2,am N (y F) c3])<|ay 2).run bN W=.ok (am L (y C) c2) W:=λ_=>aH;have:∀W,(Instr.index 108 (ef #[am D (y l) x,am E (y v) c1,am L (y C) c2,am N (y F) c3])<|ay 3).run bN W=.ok (am N (y F) c3) W:=λ_=>aH;have aD:cR bN 77 #[aJ b,ay 0,am D (y l) x] g λA m=>A=aN (aO<|qe o.ub 0<|y l)/\m=g:=tT 0 (y l) D x e U;have aU:cR bN 77 #[aJ b,ay 1,am E (y v) c1] g λA m=>A=aN (aO<|qe o.ub 1<|y v)/\m=g:=tT 1 (y v) E c1 e U;have aV:cR bN 77 #[aJ b,ay 2,am L (y C) c2] g λA m=>A=aN (aO<|qe o.ub 2<|y C)/\m=g:=tT 2 (y C) L c2 e U;have ba:cR bN 77 #[aJ b,ay 3,am N (y F) c3] g λA m=>A=aN (aO<|qe o.ub 3<|y F)/\m=g:=tT 3 (y F) N c3 e U;have aa:¬TD o l v C F->∀bf,I aC g bf->cR bN 78 #[aJ b,am mx (y i) mc,bw o.S] bf λA m=>∃bd,A=aN bd/\ShZ K Q a m b o r f i l v C F c (k+1) sn bd:=λS bf hY=>by have B:qu f.fx:=bc.elim id<|λq=>absurd q S;have O:=nk (j3:=b) n.st.f hY;have d:=n.eQ (s':=o) (az e) O z (aq _) z;have av:cU bf b o r:=(hY.A b (az e) id).trans e;have ax:y i<=100:=gW d.x d.L;have bb:=Gk (am mx (y i) mc) c o.S av d.st d.i (u▸d.st.D) (λq a=>(d.st.L q<|u▸a).lt) d.st.o d.k d.st.S ax (bP d.st.zb) d.st.v d.o.2.2.1 d.bt d.nx d.lg (gW d.l d.v) sn d.f B;go_call bb as A m(⟨rfl,v0,v1,v2,v3,K',dz,a',b',c',d',hO⟩|⟨bd,K',rfl,T⟩);exact⟨_,z,J ⟨z,_,K',[],a',b',c',d',⟨hO.g,hO.A d.o d.st.f d.bt ⟨bP d.S.1,d.S.2⟩ hN d.B d.f d.A d.n d.pH,(t.aj O).aj hO.eQ,⟨z,z,z,z,z,z⟩⟩,λq=>absurd q S⟩⟩;exact⟨bd,z,bu ⟨B,K',⟨(t.aj O).aj T.eQ,T.g,T.f,T.lN⟩⟩⟩
 have ap:=ak<|show ShZ K Q a g b o r f i l v C F c (k+1) sn ic from J ⟨z,o,f,i,l,v,C,F,⟨e,n.aT (aq _) n.st.v U hN,t,⟨z,z,z,z,z,z⟩⟩,λ_=>⟨z,z,z,z⟩⟩;clear h s e t n u ab ac ad al w k3 k8;go_wp2;go_loopw [3,20] (λa i wr=>∃(an:R)(j:eN),an<=4/\i=ay an/\a=aO j/\NF o l v C F j/\wr=g) (λ_ i _=>4-(intOf i).toNat)
 exact⟨0,j,U,dM,z,ao,z⟩;obtain⟨an,j,hj,rfl,rfl,d,bg⟩:=hrel;subst wr;have bb:an=0\/an=1\/an=2\/an=3\/an=4:=U;obtain rfl|rfl|rfl|rfl|rfl:=bb;(.cases j;(·(go_wp2_with(go_at_call 77;refine aD.mono ?_;rintro A S⟨rfl,hw⟩;subst S));go_roundw;exact⟨1,_,U,dM,z,λq=>q.2.1,trivial⟩;simp[intOf]);go_wp2;go_roundw;exact⟨1,_,U,dM,z,d,trivial⟩;simp[intOf]);(.cases j;(·(go_wp2_with(go_at_call 77;refine aU.mono ?_;rintro A S⟨rfl,hw⟩;subst S));go_roundw;exact⟨2,_,U,dM,z,λq=>q.2.2.1,trivial⟩;simp[intOf]);go_wp2;go_roundw;exact⟨2,_,U,dM,z,d,trivial⟩;simp[intOf]);(.cases j;(·(go_wp2_with(go_at_call 77;refine aV.mono ?_;rintro A S⟨rfl,hw⟩;subst S));go_roundw;exact⟨3,_,U,dM,z,λq=>q.2.2.2.1,trivial⟩;simp[intOf]);go_wp2;go_roundw;exact⟨3,_,U,dM,z,d,trivial⟩;simp[intOf]);(.cases j;(·(go_wp2_with(go_at_call 77;refine ba.mono ?_;rintro A S⟨rfl,hw⟩;subst S));go_roundw;exact⟨4,_,U,dM,z,λq=>q.2.2.2.2,trivial⟩;simp[intOf]);go_wp2;go_roundw;exact⟨4,_,U,dM,z,d,trivial⟩;simp[intOf]);cases j;(.go_wp2;go_ret;exact⟨_,z,ap⟩);have O:=ak (aa<|λq=>by cases d q);go_wp21;rename_i KK p;have ax:bA g.drew (X b 7)=M (am mx (y i) mc)/\bA g.drew (X b 9)=M (bw o.S):=⟨q7,q9⟩;refine kG (λ(Q:Z)=>bA Q (X b 7)=M (am mx (y i) mc)/\bA Q (X b 9)=M (bw o.S)) 9 aH ?_;refine lX 0 ?_;(iterate 9 (refine zv ax ?_;simp only[ii,eh,ke]));apply qj;refine gO 9 ?_;intro K9 T;go_simp;go_call O g.drew (cf _ g)as A w7⟨v7,rfl,av⟩;refine T _ _ (λq=>U) ?_;clear T;(try simp only[ii,eh]);refine gO 10 ?_;intro bf B;go_simp;refine B _ _ (λq=>U) ?_;refine kS aH ?_ _;show KK _ _;apply p;clear p B;go_wp2;go_ret;exact⟨_,z,av⟩
def QO(a:R)(b:dI):wu a b fm=cz:=by simp[wu]
def Ni(a:R)(b:dI):wu a b (gX a)=cz:=by simp[wu]
def Xv{t:cH}(h:t∈l):wu b l (jg t.cK)=cz:=by
 unfold wu;rw[yY,nM];exact bu ⟨t,h,ar⟩
def TI{j4:Prop}{es:dB}(s:SR)(K:DK)(k:j4->∀j,fp (vw K.ah) (gX s.l)=M j->Xd (s.A:Y) es j):S9 s K (λp _=>j4->p=[es]) (¬j4):=by
 intro j d w A B r e t u l i c;cases A with
 |none=>
  obtain rfl:=u rfl;obtain⟨b,_⟩|⟨o,a,f,b,_⟩:=e
  .rw[b];go_call OS (s.A:Y) w as E x⟨A,C,v,rfl,m,g,n⟩;exact⟨A,_,C,bD,cz,z,n,(λq=>by cases q),λ_=>⟨[],v,rfl,m,g,⟨ar,ar,ar,ar⟩,λq=>by have:=(k q _ d).qp.1;cases this⟩⟩
  .cases b
 |some D=>
  have g:=t ar;obtain⟨b,_⟩|⟨o,a,f,b,_⟩:=id e
  .cases b
  .injection b with m v n;subst n;rw[m]at e l|-;exact OT o a B (λq=>k q _ d) r i c g.1 g.2 (l o z) e
def TH(s:SR)(K:DK):S9 s K (λ_ _=>True) True:=(TI (es:=[]) s K False.elim).aT (λ_ _ _=>trivial) λ_=>trivial
def LdF.pH{a b d g:dI}(h:LdF f c k n a b d g):Xa (vw f.ah) a b d g:=⟨h.L.imp (λe=>⟨c,k,n,h.f,e⟩)<|λe=>⟨e.1,e.2.1⟩,h.fi⟩
def CC{t:cH}(h:qF a b N W t):MY a t:=by
 let⟨f,d,c,e,_⟩:=h.D;exact⟨h.cK,_,_,_,_,_,_,_,_,e⟩
def Ph{j4:cy af}{s:SR}{d:DK}{aa:dB}{ab ac:dI}(e:B7 (vw d.ah) a s.f b d s.l0 s.l1 s.l2 s.l3 C F ab ac)(hm:lG a s.L aa)(N:∀ad,cN s.L=M ad->Aside a d s.f b ad)(W:gG aa)(t:sq 5 aa)(w:∀al∈aa,al.Good)(O:y aa<=s.o)(u:s.o<=31)(V:MO a d b s [])(D:MV a d s.f b)(Q:¬d.j s.f b)(g:s.t<18446744073709551616/\s.l<18446744073709551616/\s.S<18446744073709551616)(m:1<=s.D/\s.D<=32/\2<=s.ub/\s.ub<=6)(P:y d.l+y d.ah<=20000000000+2*T)(E:s.v<=T)(j:Xk (vw d.ah))(h:QB (vw d.ah) j4 s.Xg (C++F++ab++ac))(q:K->Xa (vw d.ah) C F ab ac)(p:y aa+im C+im F+im ab+im ac<=c)(r:c<=3000000000)(hN:T<=1000000000)(hX:y j4<=12500000000):Inv K j4 a b s d aa C F ab ac c T []where
 st:=⟨hm,N,e.l0,e.l1,e.l2,e.l3,e.f,Q,D,p,r,W,w,e.s1,e.s2,e.s3⟩
 k:=t
 x:=O
 L:=u
 f:=V
 i:=e.i
 nx:=g.1
 lg:=g.2.1
 bt:=g.2.2
 o:=m
 l:=P
 S:=⟨E,ar⟩
 A:=j
 n:=h
 pH:=q
 v:=hN
 B:=hX
def J8{a:cy af}(h:QB N a dE l)(d:Option R):QB N a d l:=λn c b=>(h n c b).imp id<|.imp id<|λq=>q.elim (λ⟨_,e,_⟩=>by cases e) bu
def OpX(u7:Prop)(m8:iG->eN->Prop)(K:DK)(s:SR)(b:DK)(m:dB)(T:dI):Prop:=u7->T=[]/\s.l=1/\s.t=2/\s.x=decide (0<y K.ah)/\wS K b/\((fp (vw K.ah) (gX 1)=dE/\m=[]/\s.o=0/\s.S=0/\s.i=bD/\s.my=bD/\s.k=bD)\/∃a my,m8 a my/\fp (vw K.ah) (gX 1)≠dE/\Iw 1 a/\m=oD a/\s.o=(a.map y).sum/\s.S=y a/\s.i=cz/\s.my=my/\s.k=cz)
structure Opd(j5:Prop)(j4:cy af)(u7:Prop)(m8:iG->eN->Prop)(w W:Z)(db sb:R)(mem ub:Y)(K:DK)(C N:R)(s:SR)(K1:DK)(m:dB)(a b c d:dI):Prop where
 g:cU W sb s 0
 A:Inv j5 j4 W sb s K1 m a b c d C N []
 bM:s.f=db/\s.d=bD/\s.D=mem/\s.ub=ub/\s.v=0/\s.n=M (G (H w)+1)
 eQ:gl w W db sb K K1
 D:G (H w)+4<=G (H W)
 j:∀k,K1.j db k->K.j db k\/G (H w)+4<=k
 f:OpX u7 m8 K s K1 m (a++b++c++d)
def zcu(f:Prop)(e:cy af)(u7:Prop)(m8:iG->eN->Prop)(w W:Z)(c d:R)(a g:Y)(K:DK)(C N:R):Prop:=∃s b m h i j k,Opd f e u7 m8 w W c d a g K C N s b m h i j k
def ErO(w:Z)(b:R)(K:DK)(a:Prop):Prop:=(∃W,I aC w W/\ErL W b K)\/a\/Jc K.fx
def OpF(w d:Z)(a:R)(K:DK)(C:R)(f:Prop)(q:R):Prop:=ErO w a K f/\tD d q/\∃b,cJ d a b/\I (K.j a) w d/\(∀k,b.j a k->K.j a k\/G (H w)<=k)/\Fx K.fx b.fx/\∃c e,mu (c++e) K b/\MS c 0/\y c<=y K.ah/\MS e (20*C+44)
def tg.lt{w:Z}(h:tg w):3<G (H w)/\4<G (H w):=by
 let⟨⟨g,d,a⟩,⟨i,e,c⟩⟩:=h;exact⟨cA _ _ a,cA _ _ c⟩
def V9(a:cy af)(h:y a<=13000000000):MS (a.map .rm) 0:=by
 have c:((a.map qG.rm).map Mq).sum=0:=by
  clear h;induction a with
  |nil=>rfl
  |cons n a b=>simpa[Mq]using b
 refine⟨by rw[cS];exact h,λn d=>?_,?_,λx f e=>?_,U,ZD a⟩;simp at d
 .have:((a.map qG.rm).map Do).sum=0:=by
   clear c;induction a with
   |nil=>rfl
   |cons n a b=>simpa[Do]using b (by simp at h;omega)
  omega
 simp at e
def Inv.ah{g:Prop}{e:cy af}{w w':Z}{K a:DK}{x:dB}{p q:dI}{m:gJ}(h:Inv g e w b o K x v C p q c k m)(d:b<G (H w))(j:gl w w' o.f b K a)(s:y a.l+y a.ah<=20000000000+2*k)(t:Xk (vw a.ah))(r:QB (vw a.ah) e o.Xg (v++C++p++q))(u:g->Xa (vw a.ah) v C p q):Inv g e w' b o a x (v.map<|jb eX.choose<|vw a.ah) (C.map<|jb eX.choose<|vw a.ah) (p.map<|jb eX.choose<|vw a.ah) (q.map<|jb eX.choose<|vw a.ah) c k m:={h with st:=(sE.eQ h.st d j).Ap _,f:=h.f.eQ j,i:=by have:=h.i;simpa[jb,kL]using this,l:=s,A:=t,n:=r.Ap _,pH:=λB=>(u B).Ap _}
def GN{j5:Prop}{j4:cy af}{u7:Prop}{m8:iG->eN->Prop}{EX:Prop}{mem j6:Y}{K:DK}{bL C0 C N:R}(hL:OpL a b K bL)(bq:bL<=400000000000)(ho:1<=mem/\mem<=32/\2<=j6/\j6<=6)(ca:y K.l+y K.ah<=20000000000+2*N)(bT:y K.ah<=13000000000)(hB:∀nx P bt Q V O aa,LdF K nx P bt Q V O aa->(∀al∈Q++V++O++aa,nz al.ks/\al.cK<18446744073709551616)->im Q+im V+im O+im aa<=C0/\QB (vw K.ah) j4 dE (Q++V++O++aa))(hC:C0+31<=C)(bk:C<=3000000000)(hN:N+1<=1000000000)(hX:y j4<=12500000000)(hH:u7->fp (vw K.ah) fm=dE/\∀bp∈K.ah.map dj.dA,bp=gX 1)(br:∀bh l,l.ah=K.ah->(u7->bh.l=1/\bh.S=0)->S9 bh l m8 EX)(aU:qu K.fx\/u7)(bl:u7->1<=mem/\∀n my,m8 n my->Iw 1 n->(((n.map y).sum:R):Y)<mem):cR bN 10 #[aJ b,ef #[ay mem,ay j6]] a λan e=>(an=aN (de #[aJ<|G (H a)+2,ic])/\zcu j5 j4 u7 m8 a e b (G (H a)+2) mem j6 K C (N+1))\/∃q,an=aN (de #[ee dE,eW q])/\OpF a e b K C EX q:=by
 have s:=hL.f.lt;have ba:¬K.j b (G (H a)+2):=λq=>bP<|s _ q;have ad:∀{e:Z},I (λq=>K.j b q\/q=G (H a)+2) a e->I (K.j b) a e:=λh=>h.aT<|λab q=>q.elim J<|λbi=>bu U;refine I5 b mem j6 a ho (λW=>I aC a W/\cU W (G (H a)+2) (SR.wC b mem j6<|G (H a)+1) 0/\kP W (G (H a)+1) []/\G (H W)=G (H a)+4) (λW=>∃nx P bt u0 u1 u2 u3 l Q V O aa,cU W (G (H a)+2) ((SR.wC b mem j6<|G (H a)+1).yC u0 u1 u2 u3 nx P bt<|decide<|0<y K.ah) 0/\B7 (vw K.ah) W b (G (H a)+2) l u0 u1 u2 u3 Q V O aa/\Xi b K l/\LdF K nx P bt Q V O aa/\I (λq=>K.j b q\/q=G (H a)+2) a W/\kP W (G (H a)+1) []/\G (H a)+4<=G (H W)) (λW=>∃bh K1 bv Q V O aa,Opd j5 j4 u7 m8 a W b (G (H a)+2) mem j6 K C N bh K1 bv Q V O aa/\wS K K1) (λW=>∃bh K1 bv Q V O aa,Opd j5 j4 u7 m8 a W b (G (H a)+2) mem j6 K C N bh K1 bv Q V O aa/\∃bo,mu bo K K1/\MS bo 0/\y bo<=y K.ah) (λW=>zcu j5 j4 u7 m8 a W b (G (H a)+2) mem j6 K C<|N+1) (λW q=>OpF a W b K C EX q) aI ?_ ?_ ?_ ?_;(.rintro W⟨B,hb,bf,t⟩;go_call YV hb ba ((λB=>{hL with f:=hL.f.aA B<|λ_ _=>id,o:=Steps.aA hL.o B id,x:=hL.x.aA B id,S:=hL.S.aA B id id}:∀{W:Z},I aC a W->OpL W b K bL) B) bq as an e(⟨rfl,nx,P,bt,u0,u1,u2,u3,bc,⟨l,Q,V,O,aa,w,d,F⟩,g⟩|⟨hx,q,rfl,w,⟨l,m,d⟩,g⟩);have p:=g.D;refine J ⟨z,⟨nx,P,bt,u0,u1,u2,u3,l,Q,V,O,aa,bc,w,d,F,(B.aT (T:=λq=>K.j b q\/q=G (H a)+2) cY).aj g<|λ_ q=>J q,bf.dU<|g.A _ U<|λq=>q.elim (λq=>bP<|s _ q)<|λq=>U,U⟩,?_⟩;exact g.A _ U<|λq=>q.elim (λq=>bP<|s _ q)<|λq=>U;exact bu ⟨q,z,J ⟨W,B,hx⟩,w,l,m,ad<|(B.aT (T:=λq=>K.j b q\/q=G (H a)+2) cY).aj g<|λ_ q=>J q,λab O=>J<|d.j ab O,d.fx,[],[],d.l,by constructor<;>simp[Dr],ar,by constructor<;>simp[Dr]⟩);(.rintro W⟨nx,P,bt,u0,u1,u2,u3,l,Q,V,O,aa,hb,w,d,F,B,bf,t⟩;(have aD:vw l.ah=vw K.ah:=by rw[d.l.1]);have p:¬l.j b (G (H a)+2):=λq=>ba<|d.j _ q;have aV:Pow W:=hL.x.aA B<|λq=>q.elim hL.n<|λq=>bP hL.x.lt;have D:∀e,I (λq=>l.j b q\/q=G (H a)+2) W e->e.heap[G (H a)+3]?=W.heap[G (H a)+3]?:=λe c=>c.A _ U<|λq=>q.elim (λq=>bP<|s _<|d.j _ q)<|λq=>U;have bd:∀e u,I (λq=>l.j b q\/q=G (H a)+2) W e->(∀ab,u.j b ab->l.j b ab)->kP e (G (H a)+1) []/\Aside e u b (G (H a)+2) (G (H a)+1):=λe u c F=>⟨bf.dU<|c.A _ U<|λq=>q.elim (λq=>bP<|s _<|d.j _ q)<|λq=>U,bP c.D,λq=>bP<|s _<|d.j _<|F _ q,U⟩;have ao:gl a W b (G (H a)+2) K l:=⟨w.f,B.aT<|λ_ q=>J q,λab q=>J<|d.j ab q,d.fx⟩;(have bn:∀al∈Q++V++O++aa,nz al.ks/\al.cK<18446744073709551616:=λal av=>by(have:qF W b (vw K.ah) (Aside W l b<|G (H a)+2) al:=by simp only[aP]at av;obtain((q|q)|q)|q:=av;exact w.l0.bZ al q;exact w.l1.bZ al q;exact w.l2.bZ al q;exact w.l3.bZ al q);exact⟨this.jW,this.cK⟩);let⟨bx,E⟩:=hB nx P bt Q V O aa F bn;have bm:∀e u,gl a e b (G (H a)+2) K u->MV e u b (G (H a)+2):=λe u A=>MV.eQ ⟨hL.o,hL.x,⟨hL.o.lt,hL.i,bP hL.o.lt⟩,⟨hL.x.lt,hL.n,bP hL.x.lt⟩⟩ A;(have ap:u7->Q++V++O++aa=[]/\nx=2/\P=1/\bt=0:=λm9=>by obtain an|⟨_,an⟩:=F.L;rw[(hH m9).1]at an;cases an;exact an);by_cases L:fp (vw l.ah) (gX P)=dE;(.go_call NZ hb w.f aV F.f.2.1 L as an e⟨K3,av,g,m,rfl|⟨bs,q,rfl,bg⟩⟩;rotate_left;have j:=ao.aj<|gl.of (j3:=G (H a)+2) av;exact bu ⟨q,z,bu<|bu<|bu<|d.fx.p hL.f.L bs,⟨8,bg,cg⟩,K3,j.ok,ad j.aA,j.j,j.fx,[],[],d.l.aj g,by constructor<;>simp[Dr],ar,by constructor<;>simp[Dr]⟩;have ax:gl W e b (G (H a)+2) l K3:=gl.of av;have j:=ao.aj ax;have ac:=w.eQ ax;(have r:vw K3.ah=vw K.ah:=by rw[g.1,aD]);rw[<-r]at ac E;refine J ⟨z,⟨(SR.wC b mem j6<|G (H a)+1).yC u0 u1 u2 u3 nx P bt<|decide<|0<y K.ah,K3,[],Q,V,O,aa,⟨(av.aA.A _ (az hb) p).trans hb,?_,⟨z,z,z,z,z,z⟩,j,aR t av.aA.D,λab q=>J<|d.j ab<|m ab q,λm9=>?_⟩,d.l.aj g⟩,D e ax.aA⟩;exact Ph ac ⟨z,J ⟨z,z⟩⟩ (λab q=>by cases q) gG.km (sq.km _) ar (aq _) (by show 0<=31;omega) ⟨⟨G (H a)+1,z,bd e K3 ax.aA m⟩,ar⟩ (bm _ _ j) (λq=>p<|m _ q) F.f ho (by rw[g.2.2,d.l.2.2,g.1,d.l.1];omega) (bQ _) (r▸hL.A) (by exact E) (λ_=>r▸F.pH) dW bk U hX;let⟨h1,h2,rfl,h4⟩:=ap m9;exact⟨h1,z,h2,z,d.l.aj g,J ⟨aD▸L,z,z,h4,z,z,z⟩⟩);(.refine(RG (m8:=m8) (EX:=EX) hb (br _ l d.l.1<|λm9=>⟨(ap m9).2.2.1,(ap m9).2.2.2⟩) w.f p aV (Steps.aA hL.o B (λq=>q.elim hL.i<|λq=>bP hL.o.lt):Steps W) ⟨bP hL.o.lt,λq=>hL.i<|d.j _ q⟩ F.f.2.1 L z z F.f.2.2 (⟨⟨G (H a)+1,z,bd W l (I.bI _ W)<|λ_ q=>q⟩,ar⟩:MO W l (G (H a)+2) ((SR.wC b mem j6<|G (H a)+1).yC u0 u1 u2 u3 nx P bt<|decide<|0<y K.ah) [])).mono ?_;rintro an e(⟨rfl,n,my,mv,K3,v,ax,bc,av,A,g,m⟩|⟨K3,A,g,m,hex,q,rfl,bg⟩);rotate_left;have j:=ao.aj A;exact bu ⟨q,z,hex.elim (λm9=>bu<|J m9)<|λm9=>bu<|bu<|bu<|d.fx.p hL.f.L m9,bg,K3,j.ok,ad j.aA,j.j,j.fx,[],[],d.l.aj g,by constructor<;>simp[Dr],ar,by constructor<;>simp[Dr]⟩;have j:=ao.aj A;have ac:=w.eQ A;(have r:vw K3.ah=vw K.ah:=by rw[g.1,aD]);rw[<-r]at ac E;have bE:=v.L;have bs:=Jy n;refine J ⟨z,⟨{((SR.wC b mem j6<|G (H a)+1).yC u0 u1 u2 u3 nx P bt<|decide<|0<y K.ah).yq mv (y n) (n.map y).sum with i:=cz,my:=my,k:=cz},K3,oD n,Q,V,O,aa,⟨bc,?_,⟨rfl,rfl,rfl,rfl,rfl,rfl⟩,j,aR t A.aA.D,λab q=>J<|d.j ab<|m ab q,λm9=>?_⟩,d.l.aj g⟩,D e A.aA⟩;refine Ph ac (dQ av) (λab q=>?_) (DP n) (Vp n) (λbp hx=>?_) bs (by show(n.map y).sum<=31;omega) ⟨⟨G (H a)+1,z,bd e K3 A.aA m⟩,ar⟩ (bm _ _ j) (λq=>p<|m _ q) ⟨F.f.1,F.f.2.1,ol _ cg⟩ ho (by rw[g.2.2,d.l.2.2,g.1,d.l.1];omega) (bQ _) (r▸hL.A) (J8 E _) (λ_=>r▸F.pH) U bk U hX;have h1:=av.lt ab q;exact⟨h1.2,λbi=>bP<|s _<|d.j _<|m ab bi,by show ab≠G (H a)+2;omega⟩;let⟨bo,hl,hx⟩:=dO.1<|Vq hx;exact v.S bo hl bp hx;let⟨h1,h2,h3,h4⟩:=ap m9;subst h3 h4;refine⟨h1,z,h2,z,d.l.aj g,bu ⟨n,my,ax,aD▸L,v,z,z,?_,z,z,z⟩⟩;show(0+y n) %18446744073709551616=y n;have:y n<=(n.map y).sum:=QW<|λbo hl=>(v.pK bo hl).1;omega))
 .rintro W⟨bh,K1,bv,Q,V,O,aa,c,g⟩;let⟨rfl,ec,em,et,eg,bb⟩:=c.bM;have m:=c.A;have t:=c.D;have r:y K1.ah=y K.ah:=by rw[g.1]
  have bd:y (Q++V++O++aa)<=3000000000:=by
   have h1:=m.st.FX;have h2:=m.st.v;have:=jf<|λal B=>(m.st.l0.bZ al B).p;have:=jf m.st.s1.p;have:=jf m.st.s2.p;have:=jf m.st.s3.p;simp only[ai];omega
  have av:∀al∈Q++V++O++aa,MY W al:=λal q=>by
   simp only[aP]at q;obtain((q|q)|q)|q:=q
   .exact CC<|m.st.l0.bZ al q
   .exact CC<|m.st.l1.bZ al q
   .exact CC<|m.st.l2.bZ al q
   .exact CC<|m.st.l3.bZ al q
  refine(WN Q V O aa c.g (m.st.lvm c.g) av m.st.t.x m.lg U m.st.f m.st.l (by rw[g.2.2,r];omega) (r▸hL.l) (hL.S.aA c.eQ.aA (λq=>q.elim hL.D.1<|λq=>bP hL.S.lt.1) (λq=>q.elim hL.D.2<|λq=>bP hL.S.lt.2):tg W) m.A.dq<|aU.imp c.eQ.fx.D<|λm9 bp hx=>?_).mono ?_
  .rw[g.1]at hx;rw[(hH m9).2 bp hx,<-(c.f m9).2.1];exact Ni _ _
  rintro an e⟨ns,ac,cb,u,rfl,hr⟩;have A:gl W e bh.f (G (H a)+2) K1 u:=gl.of hr.D;have j:=c.eQ.aj A;have aD:y ns<=y K.ah:=r▸ac.2;have D:e.heap[G (H a)+3]?=W.heap[G (H a)+3]?:=A.aA.A _ U<|λq=>q.elim (λq=>(c.j _ q).elim (λbi=>bP<|s _ bi)<|λbi=>U)<|λq=>U;have E:MS (ns.map .rm) 0:=V9 ns U;obtain⟨rfl,p⟩|⟨bo,q,cc,hp,p,rfl,w,hc⟩:=hr.d
  .let⟨g1,g2⟩:=GM p;have ax:∀ao,wu bh.l (Q++V++O++aa) ao=cz->fp (vw u.ah) ao=fp (vw K1.ah) ao:=λao q=>by
    rw[g1];exact vJ (λm9=>by have:=(ac.1 ao m9).2;rw[q]at this;cases this)
   have L:∀ao a,fp (vw u.ah) ao=M a->fp (vw K1.ah) ao=M a:=λao a q=>by
    rw[g1]at q;exact(BY m.st.f.kh q).2
   have ap:=m.ah (az c.g) A (by rw[RZ p,g.2.2,r];omega) (λao a q=>m.A ao a<|L ao a q) (λao a q=>m.n ao a<|L ao a q) (λbi=>by
    let⟨t1,t2⟩:=m.pH bi;refine⟨?_,λal q=>?_⟩
    .rw[ax _<|QO _ _];exact t1
    .rw[ax _ (Xv q)];exact t2 al q)
   refine J ⟨z,⟨bh,u,bv,_,_,_,_,⟨(hr.D.aA.A _ (az c.g) m.st.l).trans c.g,ap,⟨z,ec,em,et,eg,bb⟩,j,aR t A.aA.D,λab q=>(A.j ab q).elim (c.j ab)<|λbi=>bu<|aR t bi,λm9=>?_⟩,ns.map .rm,p.ph g,E,by rw[cS];exact aD⟩,D⟩;let⟨z1,z2,z3,z4,z5,z6⟩:=c.f m9;have aV:ns=[]:=by
    cases ns with
    |nil=>rfl
    |cons bp bg=>
     have h1:=ac.1 bp ar;rw[g.1]at h1;rw[(hH m9).2 bp h1.1,<-z2,Ni]at h1;exact absurd h1.2 ar
   subst aV;simp only[gC]at z1;obtain⟨⟨⟨rfl,rfl⟩,rfl⟩,rfl⟩:=z1;exact⟨z,z2,z3,z4,z5.aj (p:wS K1 u),z6⟩
  .have L:y bo<=y K.ah:=by have:=hp.length_le;rw[cS]at this;omega
   exact bu ⟨q,z,bu<|bu<|c.eQ.fx.Y8 hL.f.L hc.Y8,⟨cc,w,hc.pK⟩,u,j.ok,ad j.aA,j.j,j.fx,bo,[],by rw[eu];exact p.ph g,E.ph hp,L,by constructor<;>simp[Dr]⟩
 rintro W⟨bh,K1,bv,Q,V,O,aa,c,l1,E,L,ac⟩;let⟨rfl,ec,em,et,eg,bb⟩:=c.bM;have t:=c.D;refine(Rl [] c.g c.A hN<|aU.imp c.eQ.fx.D<|λm9=>?_).mono ?_;let⟨z1,_,_,_,_,z6⟩:=c.f m9;simp only[gC]at z1;obtain⟨⟨⟨rfl,rfl⟩,rfl⟩,rfl⟩:=z1;have g:=bl m9;have p:2<=bh.ub:=c.A.o.2.2.1;refine⟨?_,by simp[qe];omega,by simp[qe];omega,by simp[qe];omega,by simp[qe]⟩;rw[em];obtain⟨_,_,an,_⟩|⟨n,my,hr,_,v,_,an,_⟩:=z6;rw[an];have:=g.1;simp;omega;rw[an];exact g.2 n my hr v;rintro an e⟨cb,rfl,⟨rfl,s',u,m',a',b',c',d',m,r⟩|⟨ao,u,hs⟩⟩;let⟨q1,q2,q3,q4,q5,q6⟩:=m.bM;(have p:u7->TD bh Q V O aa:=λm9=>by let⟨z1,_,_,_,_,z6⟩:=c.f m9;simp only[gC]at z1;obtain⟨⟨⟨rfl,rfl⟩,rfl⟩,rfl⟩:=z1;have g:=bl m9;have:2<=bh.ub:=c.A.o.2.2.1;refine⟨?_,by simp[qe];omega,by simp[qe];omega,by simp[qe];omega,by simp[qe]⟩;rw[em];obtain⟨_,_,an,_⟩|⟨n,my,hr,_,v,_,an,_⟩:=z6;rw[an];have:=g.1;simp;omega;rw[an];exact g.2 n my hr v);refine J ⟨z,⟨s',u,m',a',b',c',d',m.g,m.A,⟨q1,q2.trans ec,q3.trans em,q4.trans et,q5.trans eg,q6.trans bb⟩,(c.eQ.aj m.eQ),aR t m.eQ.aA.D,λab q=>(m.eQ.j ab q).elim (c.j ab)<|λbi=>bu<|aR t bi,λm9=>?_⟩,?_⟩;obtain⟨rfl,rfl,rfl,e4⟩:=r<|p m9;rw[e4];exact c.f m9;exact m.eQ.aA.A _ U<|λq=>q.elim (λq=>(c.j _ q).elim (λbi=>bP<|s _ bi)<|λbi=>U)<|λq=>U;obtain⟨q,rfl,w⟩:=hs.f;let⟨l2,o2,p⟩:=hs.lN;have j:=c.eQ.aj hs.eQ;exact bu ⟨q,z,bu<|bu<|J<|c.eQ.fx.t ao,w,u,j.ok,ad j.aA,j.j,j.fx,l1,l2,E.Fa o2,L,ac,p⟩
