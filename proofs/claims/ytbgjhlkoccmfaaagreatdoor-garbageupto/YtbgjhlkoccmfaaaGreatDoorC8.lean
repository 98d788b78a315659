import Derived.Test.YtbgjhlkoccmfaaaGreatDoorC7
open _root_ renaming List.length→y,Option.some→M,Array.size→G,Go.World.heap→H,Go.Value.ownBlock→cN,Go.World.cell?→bA,Go.World.setCell→cP,Go.World.alloc→dw,Bool.false→bD,Bool.true→cz,Nat→R,Int→Y,List→cy,Go.Calls→cR,Go.undef→jm,Go.Proofs.Tryz.prog→bN,Go.Value.slice→am,Go.Value.string→aw,Go.Value.bool→aO,Go.Value.pointer→ee,Go.Value.tuple→de,Go.Value.agg→ef,Go.World.frozen?→iH,Go.World.ownsRow→fD,Go.Value.nilIface→ib,Go.Act.put→ig,Nat.reduceAdd→jZ,Go.RowKit.Below→gC,Bool→eN,Option.none→dE,rfl→z,Or.inl→J,Or.inr→bj
namespace Go.Proofs.YtbgjhlkoccmfaaaGreatDoor
open ChangeShapes WideShapes RowKit Proofs.Tryz List
set_option maxHeartbeats 16000000
set_option linter.all false
set_option maxRecDepth 100000
variable{a e P:Z}{b c k n T:R}{d w:ae}{f x:DK}{i:dB}{l v C F:dI}{m:eD}{o:SR}{W:fB}{r:Y}{B:af}{K:Prop}{L:la}{N:Fs}{O:iF}{Q:iE}{V:eN}
structure wS(Ms Ds:cy dI)(i k:R):Prop where
 da:∀j,j<i->Ds[j]?=Ms[j]?
 l:∀m,Ms[i]?=M m->Ds[i]?=M (m.take k)
 xQ:∀j,i<j->j<4->Ds[j]?=M []
theorem wS.A(c:cy dI):wS c [[],[],[],[]] 0 0 where
 da:=ar
 l:=λm _=>rfl
 xQ:=aI
theorem wS.xK{c e:cy dI}{i:R}{m:dI}(h:wS c e i (y m))(f:c[i]?=M m)(d:y c=4):wS c e (i+1) 0 where
 da:=λj g=>by
  obtain k|k:=iT j i
  .exact h.da j k
  .obtain rfl:j=i:=U;rw[f,h.l m f,cQ]
 l:=λj f=>by
  have:i+1<4:=by
   rw[<-d];grind
  rw[List.take_zero];exact h.xQ _ (Nat.lt_succ_self i) this
 xQ:=λj g d=>h.xQ j U d
theorem wS.pI{d f:cy dI}{i k:R}{m:dI}(h:wS d f i k)(g:d[i]?=M m):wS d (f.set i<|m.take<|k+1) i (k+1)where
 da:=λj e=>by rw[fI U];exact h.da j e
 l:=λn c=>by
  rw[g]at c;cases c;rw[jl,h.l m g];rfl
 xQ:=λj e c=>by rw[fI U];exact h.xQ j e c
theorem wS.dq{d c:cy dI}(h:wS d c 4 0)(g:y d=4)(f:y c=4):c=d:=by
 refine wh<|λj=>?_;obtain e|e:=iT j 4;exact h.da j e;grind
section
variable{P:Program}(w:Z){b:Array Oper}{rest:cy Oper}{o:Oper}{a:Act}{Q:Exit->Act->Z->Prop}
theorem Iz(q:o.guard=dE)(k x l:Operand)(E:TypeId)(i:o.op=Op.insert E k x l)(D K:TypeId)(t:P.underlying E=M (.map D K))(n:TypeDesc)(r:P.underlying D=M n)(m:R)(j:ae->Prop)(s:a.eval k=.map (M m))(h:mK w m n j)(c:ae)(g:MapKept.IsKey n c)(v:a.eval x=c)(u:a.eval l=ef #[])(p:∀d,mK d m n (λx=>j x\/x=c)->w.grownBy d (M m)->G (H d)=G (H w)->wpList P b Q rest (a.put o.dst jm) d):wpList P b Q (o::rest) a w:=by
 refine ly q λF f=>?_;let⟨d,e,A,B,C⟩:=BE t r h c g;unfold Oper.wp;simp[execOp,i,s,v,u,e,Result.andThen];exact f _ _<|p d A B C
end
structure B5(w:Z)(db:R)(t:cH)(bb:R):Prop where
 D:∃vV,mQ w t.tb (aJ db) t.cK (jM t.ks) (y<|iD t.ks) (pt<|iD t.ks) bb 0 vV aF t.ks
 jV:ny t.ks
 cK:t.cK<18446744073709551616
def B5.dU{w w':Z}{db:R}{t:cH}(h:B5 w db t c)(d:w'.heap[t.tb]?=w.heap[t.tb]?)(e:w'.heap[c]?=w.heap[c]?):B5 w' db t c:=by
 let⟨a,f⟩:=h.D;exact⟨⟨a,f.dU d e⟩,h.jV,h.cK⟩
def po(t:cH):Mk:=⟨t.cK,jM t.ks,y<|iD t.ks,pt<|iD t.ks⟩
def Q0(K:DK)(t:cH):Prop:=∃F,ii K.ah (jf t.cK)=M F/\(F.bB.drop<|jM t.ks).take (y<|iD t.ks)=iD t.ks
def Fb(w:Z)(c b:R)(d:iE)(t:cH):Prop:=∃a,B5 w c t a/\b<t.tb/\t.tb<G (H w)/\b<a/\a<G (H w)/\∀(j:R)(v:ae),d[j]?=M v->cN v≠M t.tb/\cN v≠M a
structure Fe(w0 wr:Z)(db:R)(K K1:DK)(gb lb:R)(mv vs:iE)(Ts:cy dI):Prop where
 d:wr.heap[gb]?=M (aK mv.toArray 159 (0,0))
 g:wr.heap[lb]?=M (aK vs.toArray 108 (0,0))
 L:y vs=4
 S:y Ts=4
 l:∀(j:R)(v:ae)(T:dI),vs[j]?=M v->Ts[j]?=M T->fD wr (lb+1) 235 1 v (y T) (T.map cH.D)
 ne:∀(j j':R)(v v':ae)(q:R),j≠j'->vs[j]?=M v->vs[j']?=M v'->cN v=M q->cN v'≠M q
 f:cJ wr db K1
 bM:K1.ah=K.ah/\(wR K K1/\Fx K.fx K1.fx)/\∀k,K1.j db k->K.j db k
 Fi:∀t∈Ts.flatten,Fb wr db lb vs t
 i:(Ts.flatten.map cH.tb).Nodup
 aA:I (K.j db) w0 wr
 da:∀k,K.j db k->k<G (H w0)
 o:G (H w0)<=gb/\gb<lb/\lb<G (H wr)
def yH{t:cH}:∀{a:cy dI}{i:R},a[i]?=M l->List.Perm (a.set i<|l++[t]).flatten (t::a.flatten)
 |[],i,h=>by simp at h
 |n9::a,0,h=>by
  simp_all
 |n9::a,i+1,h=>by
  rw[qV]at h;rw[eO,di,di];exact((sJ n9<|yH h).trans xg)
def Fe.bV{m wr:Z}{g:iE}{a:cy dI}(h:Fe m wr b f x c k Q g a){j:R}(l:g[j]?=M d):∃T,a[j]?=M T/\fD wr (k+1) 235 1 d (y T) (T.map cH.D):=by
 have i:j<4:=by rw[<-h.L];grind
 have e:a[j]?=M (a[j]'(h.S▸i)):=bF _;exact⟨_,e,h.l j d _ l e⟩
def Fe.aZ{p wr:Z}{db:R}{K e:DK}{a:iE}{g:cy dI}(h:Fe p wr db K e c k Q a g)(o:a[n]?=M d){q:R}(j:cN d=M q):k<q/\q<G (H wr):=by
 let⟨D,_,m⟩:=h.bV o;have:=aS m q j;omega
def Fe.u{g wr:Z}{db:R}{K d:DK}{a:iE}{e:cy dI}(h:Fe g wr db K d c k Q a e)(j:R):bA wr (X k j)=a[j]?:=by
 rw[cE h.g];simp
def Fe.p{e wr:Z}{d:iE}{a:cy dI}(h:Fe e wr b f x c k Q d a)(j:R):bA wr (X c j)=Q[j]?:=by
 rw[cE h.d];simp
def Fb.aA{S:fB}{w w':Z}{db c:R}{t:cH}(h:Fb w db c Q t)(a:I S w w')(p:∀o,S o->o<=c):Fb w' db c Q t:=by
 let⟨g,n,j,d,k,e,m⟩:=h;refine⟨g,n.dU (a.A _ d aI)<|a.A _ e aI,j,au d a.D,k,au e a.D,m⟩
def Fe.A{p wr m:Z}{e:DK}{o:iE}{n:cy dI}(h:Fe p wr b f x c k Q o n)(g:I W wr m)(t:∀d,W d->f.j b d\/c<d/\d<k)(s:cJ m b e)(i:e.ah=x.ah/\(wR x e/\Fx x.fx e.fx)/\∀d,e.j b d->x.j b d):Fe p m b f e c k Q o n:=by
 have l:=h.da;have a:=h.o;have j:∀d,W d->d<c\/c<d/\d<k:=aI;refine⟨?_,?_,h.L,h.S,?_,h.ne,s,⟨i.1.trans h.bM.1,⟨h.bM.2.1.1.aj i.2.1.1,h.bM.2.1.2.aj i.2.1.2⟩,λd r=>h.bM.2.2 d<|i.2.2 d r⟩,?_,h.i,?_,l,?_⟩;exact(g.A c (az h.d) aI).trans h.d;exact(g.A k (az h.g) aI).trans h.g;exactλi v T a c=>g.aZ (h.l i v T a c)<|λq d r=>gV (h.aZ a d)<|j _ r;exactλc a=>(h.Fi c a).aA g aI;exact h.aA.aj g aI;exact⟨a.1,a.2.1,au a.2.2 g.D⟩
def Fe.bH{g wr i:Z}{e:iE}{a:cy dI}(h:Fe g wr b f x c k Q e a)(d:I aC wr i):Fe g i b f x c k Q e a:=h.A d cY (h.f.aA d<|λ_ _=>id) ⟨z,⟨⟨z,z,z⟩,Fx.bI _⟩,λ_ j=>j⟩
def Fe.gK{w0 wr o:Z}{K1:DK}{t:iE}{K:cy dI}{W:cH}(h:Fe w0 wr c x K1 k n Q t K)(A:t[T]?=M d)(hT:K[T]?=M l)(S:fm wr o d w)(ho:fD o (n+1) 235 1 w (y<|l++[W]) ((l++[W]).map cH.D))(ab:Fb wr c n t W)(F:W.tb∉K.flatten.map cH.tb):Fe w0 (cP o (X n T) w) c x K1 k n Q (t.set T w) (K.set T<|l++[W]):=by
 have s:I (λL=>cN d=M L) wr o:=I.fU S;have P:=λq=>h.aZ (q:=q) A;have aa:=h.o;have u:=h.da;have E:o.heap[n]?=M (aK t.toArray 108 (0,0)):=(s.A n (az h.g) aI).trans h.g;have g:I (λL=>L=n) o (cP o (X n T) w):=(iP n o);have O:∀q,cN w=M q->n<q/\q<G (H o):=λq j=>bP<|aS ho q j;have N:∀q,q<G (H wr)->(∀(V:R)(B:ae),t[V]?=M B->cN B≠M q)->cN w≠M q:=λq j a D=>by grind[fm.f]
 have v:∀B,Fb wr c n t B->Fb (cP o (X n T) w) c n (t.set T w) B:=by rintro B⟨i,hm,h1,h2,h3,h4,h5⟩;have e:B5 o c B i:=hm.dU (s.A _ h2 aI)<|s.A _ h4 aI;have r:=au h2 s.D;have g4:=au h4 s.D;refine⟨i,e.dU (g.A _ r U)<|g.A _ g4 U,h1,by rw[gJ];exact r,h3,by rw[gJ];exact g4,?_⟩;grind
 have m:=yH (t:=W) hT;refine⟨?_,?_,by rw[gz];exact h.L,by rw[gz];exact h.S,?_,?_,?_,h.bM,?_,?_,?_,u,?_⟩;exact(g.A k aI U).trans<|(s.A k (az h.d) aI).trans h.d;rw[aY E];simp;intro V B r a e;by_cases D:T=V;subst D;rw[jl]at a e;rw[A]at a;rw[hT]at e;cases a;cases e;exact g.aZ ho aI;rw[fI D]at a e;have i:=s.aZ (h.l V B r a e)<|λq j C=>h.ne V T B d q (FA D) a A j C;exact g.aZ i<|λq j D=>bP<|h.aZ a j;intro V i' B u' q r a i j;by_cases D:T=V;subst D;rw[fI r]at i;rw[jl,A]at a;cases a;intro e;change cN w=M q at j;obtain C|⟨g9,C,hy⟩:=S.f;exact h.ne _ _ _ _ q r A i (C.symm.trans j) e;rw[C]at j;cases j;have:=h.aZ i e;omega;rw[fI D]at a;by_cases e':T=i';subst e';rw[jl,A]at i;cases i;intro e;change cN w=M q at e;obtain C|⟨g9,C,hy⟩:=S.f;exact h.ne _ _ _ _ q r a A j<|C.symm.trans e;rw[C]at e;cases e;have:=h.aZ a j;omega;rw[fI e']at i;exact h.ne _ _ _ _ q r a i j;exact(h.f.aA s<|λL C D=>gV (P _ D)<|u L<|h.bM.2.2 L C).aA g<|λL C D=>bP<|u L<|h.bM.2.2 L C;intro B a;obtain rfl|a:=dy.1<|m.mem_iff.1 a;(grind);exact v B<|h.Fi B a;rw[(m.map cH.tb).nodup_iff,bO,kQ];exact⟨F,h.i⟩;exact(h.aA.aj s aI).aj g aI;grind[gJ,Nat.lt_of_lt_of_le,I.D]
structure RT(K:DK)(Ms:cy (cy Mk))(Ts:cy dI)(i k:R):Prop where
 da:∀j T m,j<i->Ts[j]?=M T->Ms[j]?=M m->T.map po=m
 l:∀T m,Ts[i]?=M T->Ms[i]?=M m->T.map po=m.take k
 v:∀j T,i<j->Ts[j]?=M T->T=[]
 ap:∀j T,0<j->j<i->Ts[j]?=M T->wV T
 fi:∀t∈Ts.flatten,Q0 K t
def RT.A(K:DK)(a:cy (cy Mk)):RT K a [[],[],[],[]] 0 0:=by
 have:∀(j:R)(T:dI),([[],[],[],[]]:cy dI)[j]?=M T->T=[]:=λj T h=>by obtain _|_|_|_|j:=j<;>simp at h<;>exact h
 exact⟨λ_ _ _ h=>U,λT m h _=>by rw[this _ _ h];rfl,λj T _ h=>this j T h,λ_ _ _ h=>U,ar⟩
def RT.dL{K:DK}{a:cy (cy Mk)}{d:cy dI}{T:dI}{m:cy Mk}(h:RT K a d c k)(e:d[c]?=M T)(g:a[c]?=M m)(i:k<=y m):y T=k:=by
 have:=cD y<|h.l T m e g;rw[cS,dX]at this;omega
def RT.gK{j:cy (cy Mk)}{g:cy dI}{n:cy Mk}(h:RT x j g c k)(m:g[c]?=M l)(i:j[c]?=M n)(u:k<y n)(A:cH)(v:po A=n[k])(t:Q0 x A):RT x j (g.set c<|l++[A]) c (k+1):=by
 refine⟨λr d n e a i=>?_,λd C a o=>?_,λr d e a=>?_,λr d s e a=>?_,λB w=>?_⟩;rw[fI U]at a;exact h.da r d n e a i;rw[xY ((iq.1 m).1:c<y g)]at a;cases a;rw[i]at o;cases o;rw[bz,h.l l n m i,aG u,bO,gA,v];rw[fI U]at a;exact h.v r d e a;rw[fI U]at a;exact h.ap r d s e a;obtain rfl|q:=dy.1<|(yH m).mem_iff.1 w;exact t;exact h.fi B q
def RT.xK{d:cy (cy Mk)}{e:cy dI}{q:cy Mk}(h:RT f d e b (y q))(g:e[b]?=M l)(n:d[b]?=M q)(p:0<b->wV l):RT f d e (b+1) 0:=by
 refine⟨λj c r m a i=>?_,λc r a _=>by rw[h.v _ c U a];rfl,λj c m a=>h.v j c U a,λj c k m a=>?_,h.fi⟩;by_cases o:j=b;subst o;rw[g]at a;rw[n]at i;cases a;cases i;rw[h.l _ _ g n,cQ];exact h.da j c r U a i;by_cases o:j=b;subst o;rw[g]at a;cases a;exact p k;exact h.ap j c k U a
def Fe.D{r wr:Z}{o:DK}{m:iE}{g:cy dI}(h:Fe r wr c x o k n Q m g)(j:m[T]?=M d)(i:g[T]?=M l)(p:y l<=20000000000):jX wr d l where
 bV:=dQ<|h.l T d l j i
 lt:=λd a=>(h.aZ j a).2
 bZ:=λt q=>by
  let⟨s,e,_⟩:=h.Fi t<|dO.2 ⟨l,iy i,q⟩;let⟨a,e⟩:=e.D;exact⟨_,_,_,_,_,_,_,_,_,e⟩
 f:=p
def GO{db:R}{K:DK}(w:cy (cy Mk))(x0 x1 x2 x3:Option Addr)(n0 c0 n1 c1 n2 c2 n3 c3:R)(bt:cJ a db K)(s:Steps a)(bm:Pow a)(ds:¬K.j db 1)(dr:¬K.j db 2)(h4:y w=4)(an:∀(aD:R)(aU:ae)(o:cy Mk),[am x0 n0 c0,am x1 n1 c1,am x2 n2 c2,am x3 n3 c3][aD]?=M aU->w[aD]?=M o->Row a 4 aU (y o) (mY o))(bx:∀(aD:R)(aU:ae),[am x0 n0 c0,am x1 n1 c1,am x2 n2 c2,am x3 n3 c3][aD]?=M aU->∀k,cN aU=M k->k<G (H a)/\¬K.j db k)(u:∀o∈w,∀eA∈o,eA.Ok)(dv:∀o∈w,y o<=20000000000):cR bN 68 #[aJ db,ef #[am x0 n0 c0,am x1 n1 c1,am x2 n2 c2,am x3 n3 c3]] a λbc w'=>
 (∃y0 m0 c y1 m1 d y2 m2 e y3 m3 f,bc=aN (de #[ef #[am y0 m0 c,am y1 m1 d,am y2 m2 e,am y3 m3 f],ib])/\∃b Ts,Fe a w' db K b (G<|H a) (G (H a)+2) [am x0 n0 c0,am x1 n1 c1,am x2 n2 c2,am x3 n3 c3] [am y0 m0 c,am y1 m1 d,am y2 m2 e,am y3 m3 f] Ts/\RT K w Ts 4 0)\/(∃o∈w,o≠[])/\∃q,bc=aN (de #[ef #[aF,aF,aF,aF],eW q])/\tB w' q/\I (K.j db) a w'/\∃b,cJ w' db b/\(wR K b/\Fx K.fx b.fx)/\∀k,b.j db k->K.j db k:=by
 let⟨i0,er,ev,ex,ey⟩:=cZ yD
 have fd:∀(eB:eN)(a:Z),(Op.unary .not<|aO eB).run bN a=.ok (aO<|!eB) a:=λ_ _=>rfl
 let⟨mv,bL⟩:∃mv:iE,mv=[am x0 n0 c0,am x1 n1 c1,am x2 n2 c2,am x3 n3 c3]:=⟨_,rfl⟩
 rw[<-bL]at an bx|-
 let⟨W1,A⟩:∃W1,dw (dw (dw a<|aK mv.toArray 159)<|aK #[aF,aF,aF,aF] 108) (aK #[aF,aF,aF,aF] 108)=W1:=⟨_,rfl⟩
 have bs:I aC a W1:=by rw[<-A];exact((cI aC a).aE _).aE _
 have cs:W1.heap[G (H a)+1]?=M (aK #[aF,aF,aF,aF] 108 (0,0)):=by rw[<-A];exact(gw _ ar).trans<|aQ _ ar
 have hA0:Fe a W1 db K K (G<|H a) (G (H a)+2) mv [aF,aF,aF,aF] [[],[],[],[]]:=by
  refine⟨?_,?_,z,z,?_,?_,bt.aA bs<|λ_ _=>id,⟨z,⟨⟨z,z,z⟩,Fx.bI _⟩,λ_ v=>v⟩,ar,ar,bs.aT cY,bt.lt,?_⟩
  .rw[<-A];grind[gw,aQ]
  .rw[<-A];exact aQ _ ar
  .intro aD aU bh n s;have bc:aU=aF/\bh=[]:=by
    obtain _|_|_|_|aD:=aD<;>simp at n s<;>exact⟨n.symm,s⟩
   rw[bc.1,bc.2];grind[World.ownsRow_nil]
  .intro aD b aU c q _ n _ T;have bc:aU=aF:=by
    obtain _|_|_|_|aD:=aD<;>simp at n<;>exact n.symm
   rw[bc]at T;cases T
  .refine⟨aq _,U,?_⟩;rw[<-A];simp
 let⟨cd,eg,HT,HP,cj,ce,ed⟩:=zX hA0 cs s bm an bx u
 let⟨H4,el,eb,em,cl,eo⟩:=nT h4 dv bL A ds dr
 clear bt s bm an bx u h4 dv bL bs cs hA0 A ds dr
 go_in
 go_wp21
 rw[ag em]
 have e2:G (H a)+1+1=G (H a)+2:=rfl
 rw[e2]
 let⟨r,bv⟩:∃r,G (H a)+2=r:=⟨_,rfl⟩
 rw[bv]at cd|-
 have dk:∀(i:R)(o:cy Mk),w[i]?=M o->y o<=20000000000:=λi o hm=>ag el o<|iy hm
 have ea:=ak dk
 have ba:=ak bv
 clear dk e2 bv
 go_loopw [12] (λb wr=>∃(i:R)(K1:DK)(vs:iE)(Ts:cy dI),i<=4/\b=ay i/\Fe a wr db K K1 (G<|H a) r mv vs Ts/\RT K w Ts i 0/\wr.heap[G (H a)+1]?=M (aK #[aF,aF,aF,aF] 108 (0,0))) (λb _=>4-(intOf b).toNat)
 .exact⟨0,_,_,_,bQ _,z,cd,RT.A K w,eg⟩
 .obtain⟨i,K1,vs,Ts,hi,rfl,E,bd,e⟩:=hrel;by_cases P:i<4
  .have W:=ak e;clear e;have dd:i<y w:=by rw[ag H4];exact P
   let⟨o,hm⟩:∃o,w[i]?=M o:=⟨_,bF dd⟩;have bk:i<y mv:=by rw[ag eb];exact P
   let⟨aU,n⟩:∃aU,mv[i]?=M aU:=⟨_,bF bk⟩;have ca:=cj i aU o n hm;let⟨eB,v,et⟩:∃eB v,aU=am eB (y o) v:=by
    obtain⟨q1,⟨q2,q0⟩|⟨fi,bp,cm,q2,_⟩⟩:=ca
    .grind
    grind
   subst et;have es:=ea i o hm;have hc:=(E.p i).trans n;have e1:(i:Y)<4:=U;have e0:(0:Y)<=(i:Y):=U;let⟨HA,ej,HM,HV,ek⟩:=nZ E bd hm n ca;clear E bd hm n ca dd bk;go_wp21;go_loopw [19] (λc b=>∃(k:R)(K1:DK)(vs:iE)(Ts:cy dI),k<=y o/\c=ay k/\Fe a b db K K1 (G<|H a) r mv vs Ts/\RT K w Ts i k/\b.heap[G (H a)+1]?=M (aK #[aF,aF,aF,aF] 108 (0,0))) (λc _=>y o-(intOf c).toNat)
   .exact⟨0,_,_,_,bQ _,z,HA,ej,W⟩
   .obtain⟨k,K2,Q,t,hk,rfl,hA2,j,al⟩:=hrel;have d:=ak al;clear al;by_cases p:k<y o
    .have bq:=ak (show∃o∈w,o≠[]from⟨o,iy<|ag HM,λm9=>by rw[m9]at p;exact absurd p<|yS _⟩);have hm:=ag HM;have u:=ed o (iy hm) _<|aB p;have bn:=hA2.aA.bV ek<|λq T=>⟨(ce i _ HV q T).2,(ce i _ HV q T).1⟩;let⟨ff,c,hx,ac⟩:∃ff c,eB=M (X ff c)/\∀aD V,(o[k].bU)[aD]?=M V->bA wr (X ff<|c+(k*4+aD))=M V:=by
      obtain⟨q1,⟨q2,q0⟩|⟨fi,bp,cm,q2,aV,C⟩⟩:=bn
      .omega
      .cases q2;refine⟨fi,bp,z,λaD V hu=>C _ _ ?_⟩;have hj:aD<4:=by
        obtain v|v:=iT aD 4
        .exact v
        .rw[mH<|by simpa[Mk.bU]using v]at hu;cases hu
       rw[TY o k aD p hj];exact hu
     subst hx;have cu:=ac 0 _ z;have cv:=ac 1 _ z;have cx:=ac 2 _ z;have cB:=ac 3 _ z;have bf:i<y t:=by rw[hA2.S];exact P
     let⟨bh,s⟩:∃bh,t[i]?=M bh:=⟨_,bF bf⟩;have O:y bh=k:=j.dL s hm hk;have bg:i<y Q:=by rw[hA2.L];exact P
     let⟨aU,n⟩:∃aU,Q[i]?=M aU:=⟨_,bF bg⟩;have g:=hA2.l i aU bh n s;rw[O]at g;obtain⟨ox,oc,bT⟩:=aM g;subst bT;have dT:=ak (show∀V,po V=o[k]->Q0 K V->RT K w (t.set i<|bh++[V]) i (k+1)fromλV h1 h2=>j.gK s hm p V h1 h2);have hA3:=hA2.bH<|(I.bI aC wr).aE<|aK #[bw o[k].cK,eI o[k].ur,eI o[k].f,eI o[k].L] 234;generalize o[k]=eA at*;have l:=No eA.cK u.1 eA.ur eA.f eA.L u.2.1 u.2.2 (Steps.aA HT hA3.aA cl) (Pow.aA HP hA3.aA eo) (λv=>cl<|hA2.bM.2.2 _ v) hA3.f;unfold GZ at l;have L:=u.1;let⟨x,f,fe,aa,ck⟩:=nZ hA2 hA3 g n s;have bb:=ak O;have e4:(k:Y)<(y o:Y):=U;have e5:(0:Y)<=(k:Y):=U;have k0:bA wr (X r i)=M (am ox k oc):=(hA2.u i).trans n;have e6:c+(k*4+0)=c+k*4:=U;have e7:c+(k*4+1)=c+k*4+1:=U;have e8:c+(k*4+2)=c+k*4+2:=U;have e9:c+(k*4+3)=c+k*4+3:=U;rw[e6]at cu;rw[e7]at cv;rw[e8]at cx;rw[e9]at cB;clear hA2 hA3 g n s O u bn ac hm bf bg j e6 e7 e8 e9;let⟨tn,tl,ti,tc⟩:=eA;simp only at cu cv cx cB l L;have bE:=x.o;have bi:=ak (show G (H wr)<G (H<|dw wr<|aK #[bw tn,eI tl,eI ti,eI tc] 234)by simp);go_wp21;go_call l as bc S⟨K3,hd,ap,F,⟨j8,fb,D,N,rfl,ab,co,cT,dc,⟨cp,cr,br⟩,cn⟩|⟨q,rfl,T⟩⟩;rotate_left
     .have cc:=hd.aA;have aV:=ak (show cJ S db K3/\(wR K K3/\Fx K.fx K3.fx)/\∀k,K3.j db k->K.j db k from⟨hd.ok,⟨f.bM.2.1.1.aj ap,f.bM.2.1.2.aj hd.fx⟩,λk v=>f.bM.2.2 k<|F k v⟩);have av:=ag bi;have b:=(cc.A _ (bP<|az d)<|λv=>bP<|f.da _<|f.bM.2.2 _ v).trans<|(gw _<|az d).trans d;have t0:=aX b 0;have t1:=aX b 1;have t2:=aX b 2;have t3:=aX b 3;have cM:∀i,iH S (X (G (H a)+1) i)=bD:=λi=>by simp[World.frozen?,b]
      let⟨HQ,dn,C⟩:=eU T (f.aA.aj cc<|λk hk=>J<|f.bM.2.2 k hk) b;clear T cc b l k0 av hd ap F;go_wp2;have ao:=aY (i:=3) (u:=aF)<|aY (i:=2) (u:=aF)<|aY (i:=1) (u:=aF)<|aY (i:=0) (u:=aF) C;have m:=((((I.bI (λk=>k=G (H a)+1) S).aL (G (H a)+1) 0 aF<|J z).aL (G (H a)+1) 1 aF<|J z).aL (G (H a)+1) 2 aF<|J z).aL (G (H a)+1) 3 aF<|J z;refine ci (qM z _ _ (G (H a)+1) _ _ _ _ _ _ z ao ⟨_,_,_,z⟩ ⟨_,_,_,z⟩ ⟨_,_,_,z⟩ ⟨_,_,_,z⟩) z ?_;exact bj ⟨ag bq,q,z,HQ.aA m<|λk hk _=>hk▸⟨_,108,_,C,cg⟩,dn.aj m ar,K3,aV.1.aA m (λk v bc=>by have:=f.da k<|aV.2.2 k v;have:k=G (H a)+1:=bc;omega),aV.2.1,aV.2.2⟩
     have hA4:=f.A hd.aA (λq T=>J<|f.bM.2.2 q T) hd.ok ⟨ap.1,⟨ap,hd.fx⟩,F⟩;have av:=ag bi;have fg:r<G (H wr):=bE.2.2;have b:=(hd.aA.A _ (bP<|az d)<|λv=>bP<|f.da _<|f.bM.2.2 _ v).trans<|(gw _<|az d).trans d;have bo:Fb S db r Q ⟨j8,N,[],tn⟩:=by
      refine⟨fb,⟨⟨D,by show mQ S j8 (aJ db) tn (jM N) (y<|iD N) (pt<|iD N) fb 0 D aF N;rw[cp,cr,br];exact ab⟩,co,L⟩,by show r<j8;omega,az ab.g,U,?_,λaD V hu=>⟨λv=>?_,λv=>?_⟩⟩
      .have C:0<y (fK N):=by
        have:=ab.ne;rcases T:N with _|⟨q,fk⟩
        .rw[T]at this;simp at this
        .simp[fK,pS.bU]
       have:=ab.bU 0 _<|bF C;exact cA S _ this
      .have h1:=(x.aZ hu v).2;have h2:G (H wr)<=j8:=U;simp only at h1;omega
      .have h1:=(x.aZ hu v).2;omega
     have ch:=ak (show RT K w (t.set i<|bh++[⟨j8,N,[],tn⟩]) i (k+1)from ag dT _ (by show Mk.mk tn (jM N) (y<|iD N) (pt<|iD N)=⟨tn,tl,ti,tc⟩;rw[br,show jM N=tl by omega,show y (iD N)=ti by omega]) (by
      let⟨C,q1,q2⟩:=cn;exact⟨C,by rw[<-f.bM.1];exact q1,q2⟩))
     have bl:j8∉t.flatten.map cH.tb:=λv=>by
      let⟨V,hu,bc⟩:=cC.1 v;let⟨_,_,_,h2,_⟩:=x.Fi V hu;omega
     have B:=hA4.l i _ bh aa ck;rw[ag bb]at B;have k1:bA S (X r i)=M (am ox k oc):=(hA4.u i).trans aa;have cb:r<G (H S):=hA4.o.2.2;have en:=ak (show∀v5 w5,fD w5 (r+1) 235 1 v5 (k+1) (bh.map cH.D++[aJ j8])->fm (dw S<|aK #[aJ j8] 235) w5 (am ox k oc) v5->Fe a (cP w5 (X r i) v5) db K K3 (G<|H a) r mv (Q.set i v5) (t.set i<|bh++[⟨j8,N,[],tn⟩])/\(cP w5 (X r i) v5).heap[G (H a)+1]?=M (aK #[aF,aF,aF,aF] 108 (0,0))/\bA w5 (X r i)=M (am ox k oc)/\iH w5 (X r i)=bD from by
      intro v5 w5 ad ax;have C:I aC S (dw S<|aK #[aJ j8] 235):=(cI aC S);have hA5:=hA4.bH C;have cc:=I.fU ax;have dn:cN (am ox k oc)≠M r:=λv=>bP<|(hA4.aZ aa v).1;have eq:=(cc.A r (au cb C.D) dn).trans hA5.g;refine⟨hA5.gK aa ck ax ?_ (bo.aA C cY) bl,?_,?_,by simp[World.frozen?,eq]⟩
      .rw[ai,ag bb,bz];exact ad
      .have aV:=az b;exact(kU v5<|bP<|ag ba).trans<|(cc.A _ (au aV C.D)<|λv=>gV ((hA4.aZ aa v).1)<|ag ba).trans<|(C.A _ aV id).trans b
      .exact cc.u (C.u k1 id cb) dn (au cb C.D))
     have ec:=ak B;clear ab co cT dc cp cr br cn hd ap F hA4 bo bl B l k0 av b;go_wp2_with(first
      |(at_builtin;go_loud(refine cq _ z (.tmp 36) (.tmp 38) 106 z (r+1) 235 i0 (.pointer dE) 1 8 underlying106 er ev ex ey z cg (.slice ox k oc) k (bh.map cH.D) z (bC ec _) (X (G (H S)) 0) 1 1 [aJ j8] z z (pN _ _ _) (by simp[Value.oneCell']) U U dW ?_;intro v5 w5 ad ax;let⟨hA5,y2,y0,y1⟩:=en v5 w5 ad ax;obtain⟨x5,c5,rfl⟩:=aM ad;have dx:=ak hA5;have ei:=ak y2;clear ad ax hA5 y2)))
     go_roundw
     .exact⟨k+1,K3,_,_,p,dM,dx,ag ch,ei⟩
     .simp[intOf];omega
    .have ax:k=y o:=U;subst ax;have bf:i<y t:=by rw[hA2.S];exact P
     obtain⟨bh,s⟩:∃bh,t[i]?=M bh:=⟨_,bF bf⟩;have bg:i<y Q:=by rw[hA2.L];exact P
     obtain⟨aU,n⟩:∃aU,Q[i]?=M aU:=⟨_,bF bg⟩;have O:y bh=y o:=j.dL s HM<|aq _;have B:=hA2.D n s U;have bb:=ak O;clear O;have g:=hA2.l i aU bh n s;obtain⟨ox,oc,bT⟩:=aM g;subst bT;have k0:bA wr (X r i)=M (am ox (y bh) oc):=(hA2.u i).trans n;have l:=λq=>j.xK s HM q;have e4:¬((y o:Y)<(y o:Y)):=U;have x:=ak hA2;have F:=ak l;by_cases ac:i=0
     .subst ac;clear hA2 j B g s n l;go_wp2;go_roundw
      .exact⟨1,_,_,_,U,dM,x,ag F ar,d⟩
      .simp[intOf]
     .have ab:=WZ B;have e6:(0:Y)<(i:Y):=U;clear hA2 j B g s n l;go_wp21;go_call ab as bc w6⟨aV,rfl,S,L,C⟩;have aa:=ak<|x.bH<|I.p C;have N:=ak<|(C.block _<|az d).trans d;clear ab;cases aV
      .have bq:=ak (show∃o∈w,o≠[]from⟨o,iy<|ag HM,λm9=>L z<|bG (by rw[ag bb,m9];rfl)⟩);clear S C L;go_wp21;go_call tT fj w6 as bc w7⟨rfl,D⟩;have b:w7.heap[G (H a)+1]?=M (aK #[aF,aF,aF,aF] 108 (0,0)):=by rw[D];exact(gw _<|az N).trans N
       have ap:I aC w6 w7:=by rw[D];exact cI _ _
       have hA7:=(ag aa).bH ap;have ad:tB w7 (G<|H w6):=by rw[D];exact tB.lX w6 tO
       have t0:=aX b 0;have t1:=aX b 1;have t2:=aX b 2;have t3:=aX b 3;have cM:∀i,iH w7 (X (G (H a)+1) i)=bD:=λi=>by simp[World.frozen?,b]
       let⟨HQ,c,f⟩:=eU ad hA7 b;clear ad hA7 b ap D k0;go_wp2;have ao:=aY (i:=3) (u:=aF)<|aY (i:=2) (u:=aF)<|aY (i:=1) (u:=aF)<|aY (i:=0) (u:=aF) f;have m:=((((I.bI (λk=>k=G (H a)+1) w7).aL (G (H a)+1) 0 aF<|J z).aL (G (H a)+1) 1 aF<|J z).aL (G (H a)+1) 2 aF<|J z).aL (G (H a)+1) 3 aF<|J z;refine ci (qM z _ _ (G (H a)+1) _ _ _ _ _ _ z ao ⟨_,_,_,z⟩ ⟨_,_,_,z⟩ ⟨_,_,_,z⟩ ⟨_,_,_,z⟩) z ?_;exact bj ⟨ag bq,_,z,HQ.aA m<|λk hk _=>hk▸⟨_,108,_,f,cg⟩,c.aA.aj m ar,_,c.f.aA m (λk v bc=>by have:=c.da k<|c.bM.2.2 k v;have:k=G (H a)+1:=bc;omega),c.bM.2.1,c.bM.2.2⟩
      have av:=ak<|S z;clear C S;go_wp2;go_roundw
      .exact⟨i+1,_,_,_,U,dM,aa,ag F<|λ_=>av,N⟩
      .simp[intOf];omega
  .have l:i=4:=U;subst l;have b:=E.L;obtain⟨p,t,x,B,rfl⟩:∃p t x B,vs=[p,t,x,B]:=by
    obtain _|⟨p,_|⟨t,_|⟨x,_|⟨B,_|⟨v4,fk⟩⟩⟩⟩⟩:=vs<;>simp at b;grind
   let⟨c,aa,N⟩:=E.bV (j:=0) rfl;let⟨d,ab,O⟩:=E.bV (j:=1) rfl;let⟨f,ac,Q⟩:=E.bV (j:=2) rfl;let⟨g,ad,S⟩:=E.bV (j:=3) rfl;obtain⟨C,y0,rfl⟩:=aM N;obtain⟨D,y1,rfl⟩:=aM O;obtain⟨F,y2,rfl⟩:=aM Q;obtain⟨L,y3,rfl⟩:=aM S;have r0:=aX E.g 0;have r1:=aX E.g 1;have r2:=aX E.g 2;have r3:=aX E.g 3;have t0:=aX e 0;have t1:=aX e 1;have t2:=aX e 2;have t3:=aX e 3;have cM:∀i,iH wr (X (G (H a)+1) i)=bD:=λi=>by simp[World.frozen?,e]
   let⟨HA,j,W⟩:=eU E bd e;have e5:¬((4:Y)<4):=U;clear E bd N O Q S e b;go_wp2;have m:=((((I.bI (λk=>k=G (H a)+1) wr).aL (G (H a)+1) 0 (am C (y c) y0)<|J z).aL (G (H a)+1) 1 (am D (y d) y1)<|J z).aL (G (H a)+1) 2 (am F (y f) y2)<|J z).aL (G (H a)+1) 3 (am L (y g) y3)<|J z;apply ci (qM z _ _ (G (H a)+1) _ _ _ _ _ _ z (aY (i:=3) (u:=am L (y g) y3)<|aY (i:=2) (u:=am F (y f) y2)<|aY (i:=1) (u:=am D (y d) y1)<|aY (i:=0) (u:=am C (y c) y0) W) ⟨_,_,_,z⟩ ⟨_,_,_,z⟩ ⟨_,_,_,z⟩ ⟨_,_,_,z⟩) z;refine J ⟨C,y c,y0,D,y d,y1,F,y f,y2,L,y g,y3,z,K1,Ts,?_,j⟩;rw[ag ba];have hd:=HA.f.aA m (λk v bc=>by have:=HA.da k<|HA.bM.2.2 k v;have:k=G (H a)+1:=bc;omega);exact HA.A m (λk bc=>bj (by have:k=G (H a)+1:=bc;have:=ag ba;omega)) hd ⟨z,⟨⟨z,z,z⟩,Fx.bI _⟩,λ_ v=>v⟩
def Fo(m:Mk):eD:=le 8 m.cK++(le 4 m.ur++(le 4 m.f++le 4 m.L))
def Fp(D:cy Mk):eD:=le 4 (y D)++D.flatMap Fo
def L8(c b a:R)(r:eD):eD:=le 8 c++(le 8 b++(le 8 a++r))
def Q7(d c b:R)(a:cy (cy Mk)):eD:=ij<|L8 d c b (a.map Fp).flatten
def Ib(m:Mk):y (Fo m)=20:=by simp[Fo,dh]
def AU(D:cy Mk):y (D.flatMap Fo)=20*y D:=by
 induction D with
 |nil=>rfl
 |cons m D a=>rw[dR,ai,a,Ib,bK];omega
def Wz(a:cy (cy Mk)):20*y a.flatten<=y (a.map Fp).flatten:=by
 induction a with
 |nil=>simp
 |cons D a b=>
  rw[di,ai,bO,di,ai,Fp,ai,AU];omega
def E7(d c b:R)(a:cy (cy Mk)):20*y a.flatten<=y (Q7 d c b a):=by
 have:=Wz a;simp only[Q7,L8,iA,ai];omega
structure DO(pre:eD)(nx lg bt i:R)(Ds:cy (cy Mk))(rest:eD)(s:eN):Prop where
 L:ki rest
 dL:y rest<=y pre
 v:∀j D,i<=j->Ds[j]?=M D->D=[]
 ok:∀D∈Ds,∀m∈D,m.Ok
 enc:s=bD->pre=L8 nx lg bt (((Ds.take i).map Fp).flatten++rest)
structure DQ(pre:eD)(nx lg bt i n k:R)(Ds:cy (cy Mk))(rest:eD)(s:eN):Prop where
 L:ki rest
 dL:y rest<=y pre
 v:∀j D,i<j->Ds[j]?=M D->D=[]
 ok:∀D∈Ds,∀m∈D,m.Ok
 l:∃D,Ds[i]?=M D/\y D=k/\(s=bD->pre=L8 nx lg bt (((Ds.take i).map Fp).flatten++(le 4 n++(D.flatMap Fo++rest))))
def DQ.xK{d:cy (cy Mk)}{a:eD}(h:DQ m b c k n T T d a V):DO m b c k (n+1) d a V:=by
 obtain⟨D,e,f,g⟩:=h.l;have j:=(iq.1 e).1;refine⟨h.L,h.dL,λp E o i=>h.v p E U i,h.ok,λq=>?_⟩;rw[g q,aG j,bz,lV];have l:d[n]=D:=(iq.1 e).2;simp[l,Fp,f]
def DQ.Gh{x w:R}{e:cy (cy Mk)}{D:cy Mk}{rest a:eD}{p:Mk}(h:DQ m b c k n x w e rest V)(g:e[n]?=M D)(C:p.Ok)(t:ki a)(B:y a<=y rest)(o:V=bD/\rest=Fo p++a):DQ m b c k n x (w+1) (e.set n<|D++[p]) a bD:=by
 obtain⟨A,j,r,s⟩:=h.l;rw[g]at j;cases j;refine⟨t,bP h.dL,λF E v d=>?_,λE d q i=>?_,D++[p],?_,by simp[r],λ_=>?_⟩;rw[fI U]at d;exact h.v F E v d;obtain f|f:=jL d;exact h.ok E f q i;rw[f]at i;obtain f|f:=aP.1 i;exact h.ok D (iy g) q f;rwa[bY.1 f];rw[xY<|(iq.1 g).1];rw[s o.1,o.2,List.take_set_of_le<|aq _];simp
def DcP(w j:Z)(o:eD)(q:Ending):Prop:=∃(d c b:R)(k:Option Addr)(f e:R)(l:Option Addr)(g c1:R)(m:Option Addr)(h c2:R)(n:Option Addr)(i c3:R)(ok:eN),q=aN (de #[ef #[bw d,bw c,bw b,am k f e,am l g c1,am m h c2,am n i c3],aO ok])/\I aC w j/\(ok=cz->(d<18446744073709551616/\c<18446744073709551616/\b<18446744073709551616)/\∃a:cy (cy Mk),y a=4/\o=Q7 d c b a/\(∀D∈a,∀r∈D,r.Ok)/\∀(p:R)(v:ae)(D:cy Mk),[am k f e,am l g c1,am m h c2,am n i c3][p]?=M v->a[p]?=M D->fD j (G<|H w) 234 4 v (y D) (mY D))
abbrev Gp(V:Z)(g:R)(e f h:Y)(a b c d:ae):Z:=((((((V.setCell (X g 0)<|bw e).setCell (X g 1)<|bw f).setCell (X g 2)<|bw h).setCell (X g 3) a).setCell (X g 4) b).setCell (X g 5) c).setCell (X g 6) d
def KY{g k f j l:Y}{c e m n o p:ae}{T:TypeId}(h:a.heap[b]?=M (aK #[bw f,bw j,bw l,m,n,o,p] T (0,0))):(Gp a b r g k d w c e).heap[b]?=M (aK #[bw r,bw g,bw k,d,w,c,e] T (0,0)):=by
 simpa using(aY (i:=6) (u:=e)<|aY (i:=5) (u:=c)<|aY (i:=4) (u:=w)<|aY (i:=3) (u:=d)<|aY (i:=2) (u:=bw k)<|aY (i:=1) (u:=bw g)<|aY (i:=0) (u:=bw r) h)
def uJ(V:Z)(g:R)(e f h:Y)(a b c d:ae):I (λk=>k=g) V (Gp V g e f h a b c d):=(((((((I.bI (λk=>k=g) V).aL g 0 (bw e)<|J z).aL g 1 (bw f)<|J z).aL g 2 (bw h)<|J z).aL g 3 a<|J z).aL g 4 b<|J z).aL g 5 c<|J z).aL g 6 d<|J z
def S7(b:R)(l m n:Y)(p q r s:ae)(a:Z):Prop:=bA a (X b 0)=M (bw l)/\bA a (X b 1)=M (bw m)/\bA a (X b 2)=M (bw n)/\bA a (X b 3)=M p/\bA a (X b 4)=M q/\bA a (X b 5)=M r/\bA a (X b 6)=M s
def S7.gq{j g:R}{r s w a c d:Y}{A q B C t u v x:ae}(h:S7 j r s w A q B C e)(b:j≠g):S7 j r s w A q B C (Gp e g a c d t u v x):=by
 obtain⟨f,k,l,m,n,o,p⟩:=h;have T:=uJ e g a c d t u v x;have L:=sj f;exact⟨T.u f b L,T.u k b L,T.u l b L,T.u m b L,T.u n b L,T.u o b L,T.u p b L⟩
def S7.g{b:R}{l m n:Y}{p q r s:ae}{T:TypeId}(h:a.heap[b]?=M (aK #[bw l,bw m,bw n,p,q,r,s] T (0,0))):S7 b l m n p q r s a:=⟨aX h 0,aX h 1,aX h 2,aX h 3,aX h 4,aX h 5,aX h 6⟩
def rd8(b:R){s:eN}(a:ki m)(e:y m<=140737488351232):∃(m9:R)(m8:eD)(t:eN),(m9<18446744073709551616/\ki m8/\y m8<=y m/\(t=bD->s=bD/\m=le 8 m9++m8))/\∀W,Rd W b m s->cR bN 177 #[aJ b] W λf c=>f=aN (bw m9)/\Rd c b m8 t/\W.grownBy c (M b):=by
 have n:=jU (n:=8) (m6:=s) a;obtain⟨m9,h⟩:∃m9:R,dz m s 8=m9:=⟨(dz m s 8).toNat,U⟩;exact⟨m9,_,_,⟨U,a.lO.1,(jd m s 8).1,λq=>h▸OS a q⟩,λW d=>h▸Hf d a e⟩
def rd4(a:R){s:eN}(b:ki m)(e:y m<=140737488351232):∃(m9:R)(m8:eD)(t:eN),(m9<4294967296/\ki m8/\y m8<=y m/\(t=bD->s=bD/\m=le 4 m9++m8))/\∀W,Rd W a m s->cR bN 178 #[aJ a] W λf c=>f=aN (eI m9)/\Rd c a m8 t/\W.grownBy c (M a):=by
 have n:=jU (n:=4) (m6:=s) b;obtain⟨m9,h⟩:∃m9:R,dz m s 4=m9:=⟨(dz m s 4).toNat,U⟩;exact⟨m9,_,_,⟨U,b.lO.1,(jd m s 4).1,λq=>h▸Co b q⟩,λW d=>h▸vk a s W d b e⟩
def SY{dc:eD}(hT:Steps e)(hb:Bytes e w dc)(dn:ki dc)(cb:y dc<=10000000000000)(A:∀fd,cN w=M fd->fd<G (H e)):cR bN 116 #[w] e λF w'=>DcP e w' dc F:=by
 obtain⟨i0,hu,hG,hH,hI⟩:=cZ Pm;obtain⟨u0,hB,hF,ip,it⟩:=cZ Hn;have hU:∀(hY:eN)(e:Z),(Op.unary .not<|aO hY).run bN e=.ok (aO<|!hY) e:=λ_ _=>rfl;have ih:=@tC bN;obtain⟨W0,O⟩:=og<|dw e<|aK #[bw 0,bw 0,bw 0,aF,aF,aF,aF] 161;have dx:I aC e W0:=by rw[<-O];exact(cI _ e)
 have ac:W0.heap[G<|H e]?=M (aK #[bw 0,bw 0,bw 0,aF,aF,aF,aF] 161 (0,0)):=by rw[<-O];exact aQ _ z
 have il:G (H W0)=G (H e)+1:=by rw[<-O];simp
 have dT:=Bv w dc (w:=W0) (by rw[<-O];exact hT.aE _) (by rw[<-O];exact hb.aE _) dn U;have er:=ak (show∀bi,I aC W0 bi->(Gp bi (G<|H e) 0 0 0 aF aF aF aF).heap[G<|H e]?=M (aK #[bw 0,bw 0,bw 0,aF,aF,aF,aF] 161 (0,0))/\DcP e (Gp bi (G<|H e) 0 0 0 aF aF aF aF) dc (aN<|de #[ef #[bw 0,bw 0,bw 0,aF,aF,aF,aF],aO bD])fromλbi hV=>by have h1:=(hV.A _ (az ac) id).trans ac;exact⟨KY h1,0,0,0,dE,0,0,dE,0,0,dE,0,0,dE,0,0,bD,z,(dx.t hV).aj (uJ bi (G<|H e) 0 0 0 aF aF aF aF) ar,ar⟩);have ej:=ak (show∀bi,I aC W0 bi->(∀C,iH bi (X (G<|H e) C)=bD)/\S7 (G<|H e) 0 0 0 aF aF aF aF bi/\G (H e)<G (H bi)fromλbi hV=>by have h1:=(hV.A _ (az ac) id).trans ac;exact⟨λC=>by simp[World.frozen?,h1],.g h1,az h1⟩);obtain⟨ei,eA,et,hp,eo,HV⟩:=nT hb dx ac O dn A;clear hb hT dx ac O dn A;go_in
 go_wp2_with fail
 rw[ag hp];apply dT.mono;rintro F w1⟨⟨rfl,hw⟩|⟨fd,l,an,f,rfl,gc,ao,rfl⟩,bd⟩;(.have j:I aC W0 w1:=I.p bd;obtain⟨hQ,⟨t0,t1,t2,t3,t4,t5,t6⟩,P⟩:=ag ej w1 j;have ad:=ak j;clear dT bd hw j;go_wp2;obtain⟨q1,q2⟩:=ag er _<|ag ad;refine ci (mD z _ _ (G<|H e) 0 0 0 _ _ _ _ _ _ z q1 ⟨_,_,_,z⟩ ⟨_,_,_,z⟩ ⟨_,_,_,z⟩ ⟨_,_,_,z⟩) z ?_;exact q2);have hy:y f<=10000000000000:=by rw[ao,iA]at cb;omega
 have fL:ki f:=by have h:=ag eo;rw[ao]at h;exactλhY b=>h hY<|by simp[ij,b]
 have fl:Bytes e (bX fd l (y f) an) f:=by have hb:=ag ei;rw[ao]at hb;unfold ij at hb;obtain⟨F,_⟩|⟨o,r,p,F,gc,i⟩:=hb;cases F;simp only[Value.slice.injEq,vZ,Addr.mk.injEq]at F;obtain⟨⟨rfl,rfl,_⟩,_,rfl⟩:=F;refine bj ⟨_,_,_,z,U,λD hk=>?_⟩;have:=i D dW;rw[ir hk]at this;exact this
 have fk:fd<G (H e):=ag HV fd z;have hh:=ak ao;have j:I aC W0 w1:=I.p bd;have dk:I aC e w1:=(ag eA).t j;have fi:Bytes w1 (bX fd l (y f) an) f:=fl.dD (dk.dD (aq _) cY) (λD hk=>by cases hk;exact fk);have hz:=dk.D;have gk:=j.D;have ds:=oM fi (by intro D hk;cases hk;show fd<_;omega);have ad:=ak j;clear fl ao dT bd j dk fi ei HV eo cb;obtain⟨PL,dd⟩:=og<|y f;rw[dd]at ds hy gc|-;have k:=ak dd;clear dd;go_wp2_with fail
 apply ds.mono;rintro F w2⟨rfl,ba,bg⟩;subst bg;obtain⟨K,dv⟩:=og<|G<|H w1;have ey:=ak<|(ag ad).aE<|aK #[bX fd l PL an,aO bD] 380;have hJ:G (H W0)<=K:=U;have hA:K<G (H<|dw w1<|aK #[bX fd l PL an,aO bD] 380):=by simp[dv]
 rw[dv]at ba|-;have hX:G (H e)<K:=U;clear ds dv hz gk;generalize dw w1 (aK #[bX fd l PL an,aO bD] 380)=w2 at*;obtain⟨next,A1,A2,⟨n1,i1,l1,v1⟩,x⟩:=rd8 K (s:=bD) fL<|bP<|ag k;obtain⟨c,B1,B2,⟨n2,i2,l2,v2⟩,av⟩:=rd8 K (s:=A2) i1<|bP<|ag k;obtain⟨b,C1,C2,⟨n3,i3,l3,v3⟩,ax⟩:=rd8 K (s:=B2) i2<|bP<|ag k;have x:=x _ ba;clear ba fL;have bt:next<18446744073709551616/\c<18446744073709551616/\b<18446744073709551616:=U
 have bc:DO f next c b 0 [[],[],[],[]] C1 C2:=by refine⟨i3,U,λcx ec _ hD=>?_,ar,λq=>?_⟩;obtain _|_|_|_|cx:=cx<;>simp at hD<;>exact hD;obtain⟨q2,e3⟩:=v3 q;obtain⟨q1,e2⟩:=v2 q2;obtain⟨_,e1⟩:=v1 q1;rw[e1,e2,e3];simp[L8]
 have hi:=ak bc;have he:=ak bt;clear v1 v2 v3 i1 i2 i3 l1 l2 l3 bc bt;go_wp2_with fail
 apply x.mono;rintro F w3⟨rfl,cl,fs⟩;have ga:=av w3 cl;have em:=ak fs;clear cl fs x av;go_wp2_with fail
 apply ga.mono;rintro F w4⟨rfl,cm,fu⟩;have gb:=ax w4 cm;have en:=ak fu;clear cm fu ga ax;go_wp2_with fail
 apply gb.mono;rintro F V⟨rfl,cn,fv⟩;have bb:I (λD=>D=K) w2 V:=((gH em).aj (gH en)<|λ_ h=>J h).aj (gH fv)<|λ_ h=>J h;have al:=ak<|ey.aj bb<|λD hk=>bj U;have gn:K<G (H V):=bP bb.D;have bq:=ak cn;have cs:mK (dw (dw V<|aK #[bw next,bw c,bw b,aF,aF,aF,aF] 161)<|.map #[] 0) (G (H V)+1) (.int .u64) aC:=by have:=mK.lX (dw V<|aK #[bw next,bw c,bw b,aF,aF,aF,aF] 161)<|.int .u64;simp_all
 have fn:(dw (dw V<|aK #[bw next,bw c,bw b,aF,aF,aF,aF] 161)<|.map #[] 0).heap[G<|H V]?=M (aK #[bw next,bw c,bw b,aF,aF,aF,aF] 161 (0,0)):=(gw _ ar).trans<|aQ _ rfl;have br:=ak cs;have eg:=ak fn;clear cs fn cn fv bb gb em en;go_wp2_with((refine Iz _ z _ _ _ 317 z 104 95 underlying317 (.int .u64) underlying104 (G (H V)+1) _ z br (bw c) z z z ?_;intro w8 gr fx ha;have ex:=ak gr;have cT:=ak fx;have fb:=ak ha;clear gr fx ha))
 have hA0:∃ks,uE W0 w8 (G<|H V) K (G (H V)+1) next c b [aF,aF,aF,aF] [[],[],[],[]] ks C1 C2:=by have i:I (λD=>D=G (H V)+1) V w8:=((cI (λD=>D=G (H V)+1) V).aE _).aj (gH cT)<|λ_ iv=>J iv;refine⟨_,?_,z,z,?_,?_,ex,bq.aA i aI,al.aj i<|λD hk=>bj<|bP<|(ag al).D,⟨hJ,gn,U,?_⟩⟩;exact(cT.block _ dW aI).trans eg;intro cx w T A hT;(have F:w=aF/\T=[]:=by obtain _|_|_|_|cx:=cx<;>simp at A hT<;>exact⟨A.symm,hT⟩);rw[F.1,F.2];exact ct _ _ _ _;intro cx o w p q _ A _ hq;(have F:w=aF:=by obtain _|_|_|_|cx:=cx<;>simp at A<;>exact A.symm);rw[F]at hq;cases hq;rw[ag fb];simp
 have cM:=ak hA0;obtain⟨L,gs⟩:=og<|G<|H V;rw[gs]at cM|-;obtain⟨mb,gf⟩:=og<|L+1;rw[gf]at cM|-;clear hA0 ex cT fb br eg bq al gs gf gn hA;go_wp2_with fail
 go_loopw [35] (λe wr=>∃(C:R)(vs:iE)(Ds:cy (cy Mk))(ks:ae->Prop)(n:eD)(cB:eN),C<=4/\e=ay C/\uE W0 wr L K mb next c b vs Ds ks n cB/\DO f next c b C Ds n cB) (λe _=>4-(intOf e).toNat)
 (case atStart=>obtain⟨ks,h⟩:=ag cM;exact⟨0,_,_,ks,_,_,bQ _,z,h,hi⟩)
 case round=>
  obtain⟨C,vs,Ds,ks,n,cB,jB,rfl,o,hO⟩:=hrel;by_cases gd:C<4
  .obtain⟨hd,A1,A2,⟨hR,i4,l4,v4⟩,bh⟩:=rd4 K (s:=cB) hO.L<|gV hO.dL<|ag k;have bh:=bh _ o.rd;have gj:DQ f next c b C hd 0 Ds A1 A2:=by
    have i:C<y Ds:=by rw[o.AY];exact gd
    have hE:Ds[C]?=M []:=by
     rw[bF i,hO.v C _ (aq _)<|bF i]
    refine⟨i4,bP hO.dL,λcx ec p hD=>hO.v cx ec U hD,hO.ok,[],hE,z,λq=>?_⟩;obtain⟨q0,F⟩:=v4 q;rw[hO.enc q0,F];simp
   obtain⟨HA,hm⟩:=And.intro (ak o) (ak gj);have e1:(C:Y)<4:=U;clear o hO v4 i4 l4 gj;go_wp2_with fail
   apply bh.mono;rintro F w9⟨rfl,co,fz⟩;have hg:=ak<|HA.t (gH fz) co;clear co fz bh HA;go_wp2_with fail
   go_loopw [9] (λe i=>∃(D:R)(vs:iE)(Ds:cy (cy Mk))(ks:ae->Prop)(n:eD)(cB:eN),D<=hd/\e=eI (hd-D:R)/\uE W0 i L K mb next c b vs Ds ks n cB/\DQ f next c b C hd D Ds n cB) (λe _=>(intOf e).toNat)
   case atStart=>exact⟨0,_,_,_,_,_,bQ _,rfl,hg,hm⟩
   case round=>
    obtain⟨D,eb,ed,hc,hK,s2,hk,rfl,hA2,N⟩:=hrel;by_cases ge:D<hd
    .have l0:=N.dL;obtain⟨p,A1,A2,⟨n1,i1,l1,v1⟩,x⟩:=rd8 K (s:=s2) N.L<|bP<|ag k;obtain⟨P,B1,B2,⟨n2,i2,l2,v2⟩,av⟩:=rd4 K (s:=A2) i1<|bP<|ag k;obtain⟨ti,C1,C2,⟨n3,i3,l3,v3⟩,ax⟩:=rd4 K (s:=B2) i2<|bP<|ag k;obtain⟨tc,E1,E2,⟨n4,i4,l4,v4⟩,fr⟩:=rd4 K (s:=C2) i3<|bP<|ag k;have x:=x _ hA2.rd;have cc:∀ec,ed[C]?=M ec->E2=bD->DQ f next c b C hd (D+1) (ed.set C<|ec++[⟨p,P,ti,tc⟩]) E1 bD:=λec hD q=>by
      obtain⟨q3,e4⟩:=v4 q;obtain⟨q2,e3⟩:=v3 q3;obtain⟨q1,e2⟩:=v2 q2;obtain⟨q0,e1⟩:=v1 q1;refine N.Gh hD ⟨by show p<_;omega,by show P<_;omega,by show ti<_;omega⟩ i4 U ⟨q0,?_⟩;rw[e1,e2,e3,e4];simp[Fo]
     obtain⟨ec,ff,fg,fe⟩:=N.l;have aD:s2=bD->D<=10000000000000:=λq=>by
      have:=cD y<|fe q;simp only[L8,ai,AU]at this;have:=ag k;omega
     have cr:E2=bD->s2=bD:=λq=>(v1<|(v2<|(v3<|(v4 q).1).1).1).1;have bp:=ak<|λq=>aD<|cr q;obtain⟨hf,eq,ek⟩:=eU hA2 cc ff;have el:=ak fg;have e2:(0:Y)<((hd-D:R):Y):=U;obtain⟨tw,r⟩:∃tw:eN,tw=cz↔hc (bw p):=by
      obtain q|q:=Classical.em<|hc<|bw p
      .exact⟨cz,by simp[q]⟩
      .exact⟨bD,by simp[q]⟩
     have ho:=ak r;clear hA2 N cc ff fg fe aD cr r v1 v2 v3 v4 i1 i2 i3 i4 l0 l1 l2 l3 l4;go_wp2_with fail
     apply x.mono;rintro F hL⟨rfl,ce,bx⟩;have bg:=av hL ce;have bl:=ak bx;clear ce bx x av;go_wp2_with fail
     apply bg.mono;rintro F hM⟨rfl,ch,bE⟩;have gx:=ax hM ch;have bm:=ak bE;clear ch bE bg ax;go_wp2_with fail
     apply gx.mono;rintro F hN⟨rfl,cj,bL⟩;have gE:=fr hN cj;have bn:=ak bL;clear cj bL gx fr;go_wp2_with fail
     apply gE.mono;rintro F Q⟨rfl,ck,bT⟩;have cu:I (λD=>D=K) wr Q:=(((gH bl).aj (gH bm)<|λ_ h=>J h).aj (gH bn)<|λ_ h=>J h).aj (gH bT)<|λ_ h=>J h;have hA13:=hf.t cu ck;have hA14:=hA13.bH<|(I.bI aC Q).aE<|aK #[bw p,eI P,eI ti,eI tc] 234;have hA15:=hA14.bH<|(I.bI aC _).aE<|aK #[] 95;have hv:=DG underlying317 underlying104 hB hF hA14.gq (bw p) z tw ho;have gt:=Jn hA15.rd;obtain⟨s,hl,E⟩:=eU hA15 (show∀(w:ae)(q:R),eb[C]?=M w->cN w=M q->q<G (H Q)fromλw q A hq=>(hA13.aZ A hq).2)<|show(dw (dw Q<|aK #[bw p,eI P,eI ti,eI tc] 234)<|aK #[] 95).heap[G<|H Q]?=M (aK #[bw p,eI P,eI ti,eI tc] 234 (0,0))from(gw _ ar).trans<|aQ _ rfl;clear ck bT cu hA13 hA14 hA15 gE bl bm bn;go_wp2_with fail
     apply gt.mono;rintro F hP⟨rfl,hW⟩;subst hP;obtain⟨mk,dr⟩:=og<|G<|H Q;have hj:=ak dr;rw[dr]at E|-;clear hv gt dr;generalize dw (dw Q<|aK #[bw p,eI P,eI ti,eI tc] 234) (aK #[] 95)=db at*;have g0:bA db (X mk 0)=M (bw p):=by rw[cE<|ag E];rfl
     have g1:bA db (X L 0)=M (bw next):=by rw[cE (ag s).g];rfl
     obtain⟨hQ,⟨t0,t1,t2,t3,t4,t5,t6⟩,tz⟩:=ag ej db (ag s).aA;have bs:=ak (ag s).aA;rcases show(E2=cz\/E2=bD/\tw=cz\/E2=bD/\tw=bD/\(next:Y)<=(p:Y))\/E2=bD/\tw=bD/\(p:Y)<(next:Y)by cases E2<;>cases tw<;>simp<;>omega with hE|⟨rfl,rfl,hx⟩
     .obtain rfl|⟨rfl,rfl⟩|⟨rfl,rfl,e3⟩:=hE<;>(go_wp2;obtain⟨q1,q2⟩:=ag er _<|ag bs;refine ci (mD z _ _ (G<|H e) 0 0 0 _ _ _ _ _ _ z q1 ⟨_,_,_,z⟩ ⟨_,_,_,z⟩ ⟨_,_,_,z⟩ ⟨_,_,_,z⟩) z ?_;exact q2)
     have e3:¬((next:Y)<=(p:Y)):=U;have aD:=ag bp z;clear hQ t0 t1 t2 t3 t4 t5 t6 bs hx bp;go_wp2_with(at_mapUpdate;go_loud(refine wG _ z _ _ _ 317 z 104 95 underlying317 (.int .u64) underlying104 mb _ z s.gq (bw p) z z z ?_;intro B cp ca;have ev:=ak cp;have bo:=ak ca;clear cp ca))
     have hA16:=s.p bo ev;have v:=(bo.block mk (az E) (by intro F;have F:=iK F;obtain⟨jA,jk,hZ,_⟩:=s.gq;have h2:=ag E;rw[F,hZ]at h2;cases h2)).trans E;have gv:C<y eb:=by rw[hA16.L];exact gd
     obtain⟨w,A⟩:∃w,eb[C]?=M w:=⟨_,bF gv⟩;have ab:=hA16.l C w _ A ek;obtain⟨ox,oc,gi⟩:=aM ab;rw[ag el]at ab gi;have k0:bA B (X L<|3+C)=M w:=(hA16.u C).trans A;have k1:=aX v 0;have k2:=aX v 1;have k3:=aX v 2;have k4:=aX v 3;have aU:=az hA16.g;have i:=az v;have cd:=hA16.o;obtain⟨es,bk,eB⟩:=eU ab hA16 A;have e0:(0:Y)<=(C:Y):=U;clear hA16 v ab A gv g0 g1;subst gi;have hS:bA B.drew (X L<|3+C)=M (am ox D oc)/\bA B.drew (X mk 0)=M (bw p)/\bA B.drew (X mk 1)=M (eI P)/\bA B.drew (X mk 2)=M (eI ti)/\bA B.drew (X mk 3)=M (eI tc):=by
      rw[cL,cL,cL,cL,cL];exact⟨k0,k1,k2,k3,k4⟩
     refine Bc aH ?_;refine wpAny_take (i:=8) (v:=ee<|M<|X L 3) z aH aH aH (λ_ _ _ h=>h) (J ⟨by rfl,λj4=>?_⟩) ?_
     .go_simp;try with_reducible rfl
     simp only[ig,eh,fT];refine qx (S:=λj4=>bA j4 (X L<|3+C)=M (am ox D oc)/\bA j4 (X mk 0)=M (bw p)/\bA j4 (X mk 1)=M (eI P)/\bA j4 (X mk 2)=M (eI ti)/\bA j4 (X mk 3)=M (eI tc)) (m:=10) _ _ _ _ ?_;refine dH 0 ?_;iterate 6 (refine fW hS ?_;simp only[ig,eh,fT,jZ])
     apply eS;refine aW 6 ?_;intro K6 hs;go_simp;refine hs _ _ (λ_=>?_) ?_
     .rw[cL,cL,cL,cL,cL,gP aU,gP i,gP i,gP i,gP i];exact⟨k0,k1,k2,k3,k4⟩
     try simp only[ig,eh,fT]
     refine aW 7 ?_;intro K7 ht;try simp only[dl,cF,cO]
     refine lN (.tmp 81) (.tmp 83) 158 z (mb+1) 234 i0 (ef #[bw 0,eI 0,eI 0,eI 0]) 4 24 underlying158 hu hG hH hI z cg (am ox D oc) D (mY ec) z (kr (bC es<|aK #[bw p,eI P,eI ti,eI tc] 234) z) (X (G<|H B) 0) 1 1 [bw p,eI P,eI ti,eI tc] z z (Al _ _ _ _ _ z) (by simp[Value.oneCell']) U U dW ?_;intro v3 T aV cv;have ea:fm (dw B<|aK #[bw p,eI P,eI ti,eI tc] 234) T (am ox D oc) v3:=fm.df cv z;have hA17:=bk.bH<|(I.bI aC B).aE<|aK #[bw p,eI P,eI ti,eI tc] 234;have bv:=hA17.gK (D':=ec++[⟨p,P,ti,tc⟩]) eB ea (by rw[YK,ai,ag el];exact aV);have r:=I.fU ea;have gg:cN (am ox D oc)≠M L:=λF=>bP<|(es.lt L F).1;have bf:cN (am ox D oc)≠M mk:=λF=>gV (hl _ _ eB F)<|ag hj;have s0:bA T (X L<|3+C)=M (am ox D oc):=r.u (by rw[gP aU];exact k0) gg dW;have s1:bA T (X mk 0)=M (bw p):=r.u (by rw[gP i];exact k1) bf dW;have s2:bA T (X mk 1)=M (eI P):=r.u (by rw[gP i];exact k2) bf dW;have s3:bA T (X mk 2)=M (eI ti):=r.u (by rw[gP i];exact k3) bf dW;have s4:bA T (X mk 3)=M (eI tc):=r.u (by rw[gP i];exact k4) bf dW;have ap:=(r.A L dW gg).trans<|(gw _ aU).trans bk.g;have f0:iH T (X L<|3+C)=bD:=by simp[World.frozen?,ap]
     obtain⟨x3,c3,hC⟩:=aM aV;subst hC;refine ht _ _ (λ_=>⟨s0,s1,s2,s3,s4⟩) ?_;try simp only[ig,eh,fT]
     refine mW (i:=9) (v:=?_) z z aH aH aH aH (λ_ _ _ h=>h) (J ⟨by rfl,?_⟩) (And.intro s0 (And.intro s1 (And.intro s2 (And.intro s3 s4)))) ?_;rotate_left
     .rintro j4⟨z0,z1,z2,z3,z4⟩;go_simp;try with_reducible rfl
     simp only[ig,eh,fT];refine aW 10 ?_;intro hr aa;have W:=ak bv;clear bv hA17 ea r aV cv ap s1 s2 s3 s4 k0 k1 k2 k3 k4 hS;go_simp;refine aa _ _ wW ?_;refine dG aH ?_ _;have hn:=ak<|ag eq ec ek trivial;have a5:IntKind.u32.wrap (((hd-D:R):Y)-1)=((hd-(D+1):R):Y):=by rw[IntKind.wrap_u32];omega
     go_wp2;go_roundw;case rel=>exact⟨D+1,_,_,_,_,_,ge,rfl,W,hn⟩
     case measure=>simp[intOf];omega
    .have r:D=hd:=U;subst r;have p:=ak N.xK;have i:=ak hA2;have s:¬((0:Y)<((D-D:R):Y)):=U;clear hA2 N;go_wp2;go_roundw;case rel=>exact⟨C+1,_,_,_,_,_,U,dM,i,p⟩
     case measure=>simp[intOf];omega
  .have bn:C=4:=U;subst bn;have bf:=Ae o.rd<|gV hO.dL<|ag k;obtain⟨ap,i⟩:∃ap,(!cB&&n.isEmpty)=ap:=⟨_,rfl⟩;rw[i]at bf;have s:ap=cz->f=L8 next c b (Ds.map Fp).flatten:=λq=>by
    rw[q]at i;simp at i;have:=hO.enc i.1;rw[i.2,eu,fA (by rw[o.AY];exact aq _)]at this;exact this
   have bh:=o.L;obtain⟨v0,v1,v2,v3,rfl⟩:∃v0 v1 v2 v3,vs=[v0,v1,v2,v3]:=by
    obtain _|⟨v0,_|⟨v1,_|⟨v2,_|⟨v3,_|⟨v4,bp⟩⟩⟩⟩⟩:=vs<;>simp at bh;exact⟨_,_,_,_,z⟩
   obtain⟨v,bc,o0⟩:=o.bV (j:=0) rfl;obtain⟨B,bk,o1⟩:=o.bV (j:=1) rfl;obtain⟨E,bl,o2⟩:=o.bV (j:=2) rfl;obtain⟨N,bm,o3⟩:=o.bV (j:=3) rfl;obtain⟨T,y0,rfl⟩:=aM o0;obtain⟨x1,y1,rfl⟩:=aM o1;obtain⟨x2,y2,rfl⟩:=aM o2;obtain⟨x3,y3,rfl⟩:=aM o3;have hR:=(o.aA.A _ (az et) id).trans et;have cd:=o.o;have bs:=az o.g;have bo:L≠G (H e):=U;have W:=ak (show∀(bi:Z)(ok:eN),I aC wr bi->(ok=cz->ap=cz)->(Gp bi (G<|H e) next c b (am T (y v) y0) (am x1 (y B) y1) (am x2 (y E) y2)<|am x3 (y N) y3).heap[G<|H e]?=M (aK #[bw next,bw c,bw b,am T (y v) y0,am x1 (y B) y1,am x2 (y E) y2,am x3 (y N) y3] 161 (0,0))/\DcP e (Gp bi (G<|H e) next c b (am T (y v) y0) (am x1 (y B) y1) (am x2 (y E) y2)<|am x3 (y N) y3) dc (aN<|de #[ef #[bw next,bw c,bw b,am T (y v) y0,am x1 (y B) y1,am x2 (y E) y2,am x3 (y N) y3],aO ok])fromλbi ok hV bp=>by
    refine⟨KY<|(hV.A _ (az hR) id).trans hR,next,c,b,T,y v,y0,x1,y B,y1,x2,y E,y2,x3,y N,y3,ok,rfl,(((ag eA).t o.aA).t hV).aj (uJ bi (G<|H e) _ _ _ _ _ _ _) ar,λq=>⟨ag he,Ds,o.AY,?_,hO.ok,λcx w ec A hD=>?_⟩⟩
    .rw[ag hh,s<|bp q];rfl
    .have bL:=hV.aZ (o.l cx w ec A hD)<|λ_ _=>id;have bT:=o.l cx w ec A hD;refine fh ((uJ bi (G<|H e) next c b _ _ _ _).aZ bL<|λq hq F=>?_) ?_
     .have:=o.aZ A hq;have:q=G (H e):=F;omega
     .omega)
   have hS:S7 L next c b (am T (y v) y0) (am x1 (y B) y1) (am x2 (y E) y2) (am x3 (y N) y3) wr.drew:=.g o.g
   have aV:wr.drew.heap[G<|H e]?=M (aK #[bw 0,bw 0,bw 0,aF,aF,aF,aF] 161 (0,0)):=hR;have ab:=ak<|cf aC wr;have r:=Ae (o.rd.df (w':=wr.drew) z)<|gV hO.dL<|ag k;rw[i]at r;have e4:¬((4:Y)<4):=U;clear o hO hR bf o0 o1 o2 o3 bc bk bl bm bh cd s i;go_wp2_with fail
   rename_i QQ KK aU;refine zp (S7 L next c b (am T (y v) y0) (am x1 (y B) y1) (am x2 (y E) y2)<|am x3 (y N) y3) rfl ?_;generalize wr.drew=bx at*;have bE:∀C,iH bx (X (G<|H e) C)=bD:=λC=>by simp[World.frozen?,aV]
   obtain⟨t0,t1,t2,t3,t4,t5,t6⟩:=S7.g aV;iterate 2 (refine qh hS ?_;(try simp only[ig,eh,fT,jZ]))
   refine Cm (i:=2) z z aH ?_;intro K2 aD;go_simp;apply r.mono;rintro F w'⟨rfl,ca⟩;subst w';refine aD _ _ hS ?_;try simp only[ig,eh,fT,jZ]
   cases ap;case' false=>
    have HF:=ak<|ag W bx bD ab ar;iterate 1 (refine qh hS ?_;(try simp only[ig,eh,fT,jZ]))
    iterate 5 (refine Br hS z aH wO aH ?_;(try simp only[ig,eh,fT,jZ]))
    iterate 1 (refine qh hS ?_;(try simp only[ig,eh,fT,jZ]))
   case' true=>
    have HF:=ak<|ag W bx (decide<|c<next) ab ar;iterate 7 (refine qh hS ?_;(try simp only[ig,eh,fT,jZ]))
   all_goals
    have p:=hS.gq (g:=G<|H e) (a:=next) (c:=c) (d:=b) (t:=am T (y v) y0) (u:=am x1 (y B) y1) (v:=am x2 (y E) y2) (x:=am x3 (y N) y3) bo;refine Cm (i:=10) z z aH ?_;intro hr aa;go_simp;refine aa _ _ p ?_;try simp only[ig,eh,fT,jZ]
    refine Cm (i:=11) z z aH ?_;intro bv Q;go_simp;refine Q _ _ p ?_;refine zt aH ?_ _;show KK _ _;apply aU;clear aU aD aa Q p r;go_wp2;obtain⟨q1,q2⟩:=HF;refine ci (mD z _ _ (G<|H e) next c b _ _ _ _ _ _ rfl q1 ⟨_,_,_,rfl⟩ ⟨_,_,_,rfl⟩ ⟨_,_,_,rfl⟩ ⟨_,_,_,rfl⟩) rfl ?_;exact q2
def kO.Im{j:gZ}(n:kO a b j)(o:I (λc=>c=b) a e)(h:bA a (X c k)=M d):bA e (X c k)=M d:=by
 let⟨p,f,m,_⟩:=n;have i:c≠b:=by intro l;rw[l]at h;simp[World.cell?,m]at h
 have g:c<G (H a):=by obtain l|l:=iT c<|G<|H a;exact l;simp[World.cell?,jF l]at h
 exact o.u h i g
def kO.WV{i:gZ}(j:kO a b i)(k:I (λc=>c=b) a e){g:Array ae}{t:TypeId}{m9:R×R}(h:a.heap[c]?=M (aK g t m9)):e.heap[c]?=M (aK g t m9):=by
 let⟨l,d,m,_⟩:=j;have f:c≠b:=by grind
 exact(k.A c (az h) f).trans h
def kO.TL{l:gZ}(o:kO a b l)(p:I (λs=>s=b) a e)(h:Row a c d k Q):Row e c d k Q:=by
 obtain⟨j,⟨rfl,m⟩|⟨q,f,g,rfl,i,n⟩⟩:=h;exact⟨j,J ⟨z,m⟩⟩;exact⟨j,bj ⟨q,f,g,z,i,λr u m=>o.Im p<|n r u m⟩⟩
def Aside.rV(h:Aside a f b c k)(d:I W a e):Aside e f b c k:=⟨au h.lt d.D,h.j,h.ne⟩
def Pow.rV{d:gZ}(h:Pow a)(f:kO a b d)(g:I (λk=>k=b) a e):Pow e:=by
 refine h.aA g<|λl=>?_;let⟨i,c,j,_⟩:=f;unfold Pow Lib.TabIs World.var? at h;rw[GI]at h;grind
def Ep.rV{r:gZ}(h:Ep N a f b c d l)(o:kO a k r)(i:I (λu=>u=k) a e):Ep N e f b c d l:=by
 refine⟨o.TL i h.bV,λu t=>(h.l u t).rV i,λv p=>?_⟩;have m:=h.bZ v p;let⟨q,j,g,n,s⟩:=m.D;exact⟨⟨q,j,g,⟨o.WV i n.g,λt u p=>o.Im i<|n.bU t u p,n.ne,n.le,n.f⟩,s.rV i⟩,m.l.rV i,m.cK,m.jV,m.f⟩
def ST.rV{s:SR}{n u:dI}{p:gZ}(h:ST a b s x i C F n u k)(g:kO a c p)(r:Aside a x s.f b c)(d:I (λm=>m=c) a e):ST e b s x i C F n u k where
 D:=g.TL d h.D
 L:=λm j=>(h.L m j).rV d
 l0:=h.l0.rV g d
 l1:=h.l1.rV g d
 l2:=h.l2.rV g d
 l3:=h.l3.rV g d
 f:=h.f.aA d<|λm n g=>r.j (by have q:m=c:=g;rwa[<-q])
 l:=h.l
 t:=⟨λm j=>g.Im d<|h.t.o m j,h.t.x.rV g d,h.t.i.rV d,h.t.n.rV d⟩
 za:=h.za
 v:=h.v
 o:=h.o
 S:=h.S
 s1:=h.s1
 s2:=h.s2
 s3:=h.s3
def Inv.rV{u:cy af}{s s':SR}{ab:DK}{an:dB}{ad al:dI}{aa ac N':R}{sn g:gI}(h:Inv K u a b s ab an C F ad al aa ac sn)(ao:s.n=M c)(d:s'={s with v:=s'.v})(t:I (λap=>ap=c) a e)(hm:kO e c (Dm g))(hl:y g<=4)(W:s'.v<=N'/\∀av∈g,av.1<=s'.v)(hN:ac<=N')(j:N'<=1000000000):Inv K u e b s' ab an C F ad al aa N' g:=by
 let⟨p,w,q2,D⟩:=h.f.ex;have V:p=c:=by rw[w]at ao;grind
 subst V;have m:=(h.st.rV q2 D t).vH (s':=s') (by rw[d];grind) (by rw[d]);have E:s'.t=s.t:=by rw[d]
 have N:s'.l=s.l:=by rw[d]
 have O:s'.Xh=s.Xh:=by rw[d];rfl
 have P:s'.S=s.S:=by rw[d]
 have q:s'.o=s.o:=by rw[d]
 have Q:s'.D=s.D:=by rw[d]
 have T:s'.ua=s.ua:=by rw[d]
 have r:s'.f=s.f/\s'.n=s.n:=by rw[d];grind
 exact{st:=m,k:=h.k,x:=q▸h.x,L:=q▸h.L,f:=⟨⟨p,r.2.trans w,hm,r.1▸D.rV t⟩,hl⟩,i:=h.i,nx:=E▸h.nx,lg:=N▸h.lg,bt:=P▸h.bt,o:=Q▸T▸h.o,l:=bP h.l,S:=W,A:=h.A,n:=O▸h.n,pF:=h.pF,v:=j,B:=h.B}
def F5{sn:gI}{n:R}(h:∀p∈sn,p.1<n)(t:R):(Dm sn).gK (n:Y) (bw (t:Y))=Dm (sn++[(n,t)]):=by
 induction sn with
 |nil=>rfl
 |cons p r c=>
  have:=h p ar;have a:=c (λq b=>h q<|by simp[b]);unfold Dm at a|-;rw[bO,dt,bO,gZ.gK,fM aI,a]
def rS:gI->Y->gI
 |[],_=>[]
 |p::r,n=>if(p.1:Y)=n then r else p::rS r n
def TE(n:Y):∀a:gI,(Dm a).dP n=Dm (rS a n)
 |[]=>rfl
 |p::r=>by
  have b:=TE n r;unfold Dm at b|-;rw[bO,gZ.dP,rS];grind
def Jm(n:Y):∀a:gI,(rS a n).Sublist a
 |[]=>kJ _
 |p::r=>by
  rw[rS];split
  .grind
  .exact(Jm n r).cons_cons _
section
open Conc.Locks
def XX{D:cy af}{s g:SR}{aa:dI}{sn h:gI}(N:Inv K D a b s f i l C F aa k n sn)(t:b<G (H a))(B:gh a e s.f b f f)(o:cU e b g 1)(ab:s.n=M c)(A:g={s with v:=g.v})(u:I (λp=>p=c) e P)(S:kO P c (Dm h))(Q:y h<=4)(O:g.v<=T/\∀ac∈h,ac.1<=g.v)(L:n<=T)(q:T<=1000000000):bA P ⟨b,0,dE⟩=M (.int .i32 1)/\iH P ⟨b,0,dE⟩=bD/\cU P b g 1/\cU (cP P ⟨b,0,dE⟩<|.int .i32 0) b g 0/\Inv K D (cP P ⟨b,0,dE⟩<|.int .i32 0) b g f i l C F aa k T h/\I (λp=>(f.j s.f p\/p=b)\/p=c) a (cP P ⟨b,0,dE⟩<|.int .i32 0):=by
 have m:=N.eQ (s':=s) t B z (aq _) z;let⟨x,V,q2,W⟩:=m.f.ex;have E:x=c:=by rw[V]at ab;grind
 subst E;have j:=m.rV ab A u S Q O L q;have d:cU P b g 1:=(u.A b (az o)<|λF=>W.ne F.symm).trans o;have:g.f=s.f:=by rw[A]
 have r:=lP j.st.f j.st.l 0;have w:I (λp=>(f.j s.f p\/p=b)\/p=x) a P:=(B.aA.aT<|λ_ F=>J<|J F).aj u<|λ_ F=>J<|bj F;exact⟨d.u z,d.bS,d,d.jg 0,j.eQ (az d) r z (aq _) z,w.aL b 0 _<|J<|J<|bj z⟩
def IF{D:cy af}{s:SR}{bl:dI}(o:gI)(m:R)(h:cU a b s 0)(u:Inv K D a b s f i l C F bl c k o)(hc:s.d=bD)(h4:y o<4)(hN:k+1<=1000000000)(E:s.n=M m):cR bN 40 #[.pointer<|M ⟨b,0,dE⟩] a λao N=>ao=.returned (.tuple #[.int .i64<|(s.v:Y)+1,ib])/\cU N b {s with v:=s.v+1} 0/\Inv K D N b {s with v:=s.v+1} f i l C F bl c (k+1) (o++[(s.v+1,s.S)])/\I (λO=>(f.j s.f O\/O=b)\/O=m) a N:=by
 have aU:=az h;have c0:bA a ⟨b,0,dE⟩=M (.int .i32 0):=h.u z;have f0:iH a ⟨b,0,dE⟩=bD:=h.bS;have w:=lP u.st.f u.st.l 1;have h1:=h.jg 1;have L:=u.f;have hg:=u.S.2;have:s.v<=1000000000:=bP u.S.1;generalize hW:cP a ⟨b,0,dE⟩ (.int .i32 1)=T at w h1;have r:=mX h1;rw[hc]at r;have an:cR bN 49 #[.pointer<|M ⟨b,0,dE⟩] T λao N=>ao=.returned ib/\gC (G<|H T) T N:=r
 have HX:=ak (λj(W:gC (G<|H T) T j)=>show cU j b s 1/\kO j m (Dm o)/\∀d,d=cP j ⟨b,15,dE⟩ (.int .i64<|(s.v:Y)+1)->cU d b {s with v:=s.v+1} 1/\kO d m (Dm o)/\∀t,kO t m ((Dm o).gK ((s.v:Y)+1)<|.int .u64 s.S)->d.drew.grownBy t (M m)->bA t ⟨b,0,dE⟩=M (.int .i32 1)/\iH t ⟨b,0,dE⟩=bD/\bA t ⟨b,15,dE⟩=M (.int .i64<|(s.v:Y)+1)/\cU (cP t ⟨b,0,dE⟩<|.int .i32 0) b {s with v:=s.v+1} 0/\Inv K D (cP t ⟨b,0,dE⟩<|.int .i32 0) b {s with v:=s.v+1} f i l C F bl c (k+1) (o++[(s.v+1,s.S)])/\I (λO=>(f.j s.f O\/O=b)\/O=m) a (cP t ⟨b,0,dE⟩<|.int .i32 0)from by
  have aa:=w.aj<|qT (j3:=b) w.ok W;have e:cU j b s 1:=h1.aA (I.p (S:=λ_=>False) W) id;let⟨b0,q1,q2,q3⟩:=(L.eQ aa).ex;have eb:b0=m:=by rw[q1]at E;grind
  subst eb;refine⟨e,q2,λd p=>?_⟩;subst p;have ab:=aa.gq u.st.l 15<|.int .i64<|(s.v:Y)+1;have g:cU (cP j ⟨b,15,dE⟩<|.int .i64<|(s.v:Y)+1) b {s with v:=s.v+1} 1:=(aY e).trans rfl;let⟨b1,p1,p2,p3⟩:=(L.eQ ab).ex;have ap:b1=b0:=by rw[p1]at q1;grind
  subst ap;refine⟨g,p2,λt q x=>?_⟩;have bb:I (λO=>O=b1) (cP j ⟨b,15,dE⟩<|.int .i64<|(s.v:Y)+1) t:=(cf (λO=>O=b1) _).aj (I.eF (S:=λO=>O=b1) x aI)<|λ_ F=>J F;have B:=F5 (sn:=o) (n:=s.v+1) (λbi hp=>bP<|hg bi hp) s.S;rw[show(((s.v+1:R)):Y)=(s.v:Y)+1 from by push_cast;rfl]at B;rw[B]at q;let⟨r1,r2,r3,r4⟩:=XX u aU ab g p1 rfl bb q dW ⟨by have:=u.S.1;show s.v+1<=k+1;omega,λbi hp=>by
   show bi.1<=s.v+1;obtain F|F:=aP.1 hp
   .have:=hg bi F;omega
   .simp at F;rw[F];exact aq _⟩ U hN
  exact⟨r1,r2,r3.u z,r4⟩)
 have:IntKind.i64.wrap ((s.v:Y)+1)=(s.v:Y)+1:=by rw[bR];omega
 clear h u w h1 hc L r hg;go_enter_defers func40,ntmps40
 go_wp21;go_call mZ ⟨b,0,dE⟩ _ c0 f0 as ao N⟨rfl,bc⟩;rw[hW]at bc;subst N;go_wp21;go_call an as ao j⟨rfl,W⟩;let⟨e,ad,al⟩:=(ag HX) j W;have bh:bA j ⟨b,16,dE⟩=M (.map<|M m):=E▸e.u z;have bg:bA j ⟨b,15,dE⟩=M (.int .i64 s.v):=e.u z;have av:iH j ⟨b,15,dE⟩=bD:=e.bS;have aD:=NG (P:=bN) underlying94 ad 3;have hl:y (Dm o)=y o:=by simp[Dm]
 rw[hl]at aD;have:decide ((4:Y)<=(y o:Y))=bD:=yQ U;let⟨d,p⟩:∃d,d=cP j ⟨b,15,dE⟩ (.int .i64<|(s.v:Y)+1):=⟨_,rfl⟩;let⟨g,aV,ac⟩:=al d p;have bf:bA d ⟨b,16,dE⟩=M (.map<|M m):=E▸g.u z;have bd:bA d ⟨b,15,dE⟩=M (.int .i64<|(s.v:Y)+1):=g.u z;have j9:bA d ⟨b,9,dE⟩=M (.int .u64 s.S):=g.u z;clear e g al ad hl W an h4;go_wp21;rename_i QQ KK V;rw[<-p];clear p bg bh av;refine Code.wp_mono (Q:=λao l a=>ao=Exit.normal/\KK l a) (λao l a h=>by obtain⟨rfl,h⟩:=h;exact h) ?_;refine cX (λD=>bA D ⟨b,16,dE⟩=M (.map<|M m)/\bA D ⟨b,15,dE⟩=M (.int .i64<|(s.v:Y)+1)/\bA D ⟨b,9,dE⟩=M (.int .u64 s.S)) 12 aH ?_;have ax:bA d.drew ⟨b,16,dE⟩=M (.map<|M m)/\bA d.drew ⟨b,15,dE⟩=M (.int .i64<|(s.v:Y)+1)/\bA d.drew ⟨b,9,dE⟩=M (.int .u64 s.S):=⟨bf,bd,j9⟩;refine dH 0 ?_;iterate 12 (refine zq (v:=?_) ax z aH (λ_ _ _ h=>by cases h.1) (J ⟨by rfl,?_⟩) ?_;rotate_left;(focus(rintro D⟨z0,z1,z2⟩;go_simp;try with_reducible rfl));simp only[ig,jZ,dC,eY,eO,dl,cF,cO])
 refine eS ?_;refine aW 12 ?_;intro bk A;try simp only[dl,cF,cO]
 refine Lu (.tmp 34) (.tmp 38) (.tmp 42) 94 z 3 104 underlying94 underlying3 m _ z (aV.dU z) ((s.v:Y)+1) (.int .u64 s.S) z z ?_;intro w4 q x ba;refine A _ _ (λF=>(F z).elim) ?_;refine dG aH ?_ _;let⟨d0,g0,bm,hF⟩:=ac w4 q x;clear q x ba A;refine⟨z,?_⟩;refine V _ _ ?_;clear V;go_wp2;exact fC d0 g0 ⟨_,jw z _ _ _,z,hF⟩
end
section
open Conc.Locks
def Inv.p{r:cy af}{s:SR}{u:DK}{e:gI}(h:Inv K r a b s u i l v C F c n e)(w:lF a d (kS e i []))(j:∀A,cN d=M A->Aside a u s.f b A):Inv K r a b {s with L:=d} u (kS e i []) l v C F c n e:=by
 have g:∀t∈kS e i [],t∈i:=λt o=>(AA o).elim id (λq=>by cases q);have p:=AB e i [];rw[eE,ma]at p;have m:=h.st.Ym (s':={s with L:=d}) (C':=c) ⟨rfl,rfl,rfl,rfl,rfl⟩ w j (Az h.st.o e []) (λt o=>h.st.S t<|g t o) U h.st.v;exact{h with st:=m,x:=aR p h.x,k:=Ay h.st.o h.f.dL [],f:=h.f.vH ⟨rfl,rfl⟩}
def Lf(u:gI)(T:Y)(h:cU a b o 0)(q:sC (vw f.ah) a b o f i l v C F c)(m:MP a f b o u)(A:o.d=bD)(B:yZ u T=dE):cR bN 42 #[aJ b,ay T] a λO w=>O=aN (ue 5)/\Ar a w b o f i l v C F c:=by
 have s:=az h;have L:=cU.bW h 0 z;have P:iH a (X b 0)=bD:=h.bS;have e:=lP q.f q.l 1;have n:=h.jg 1;generalize S:cP a (X b 0) (iC 1)=x at e n;let⟨W,D,E,V⟩:=(m.eQ e).ex;have d:=wy T u n A D E;have K:=ak<|λj(p:gC (G<|H x) x j)=>tN (j4:=True) (W2:=j) n q s e p;clear h q e n A m D E V;rw[B]at d;simp only at d;rw[SP]at d|-;clear B;go_enter_defers func42,ntmps42
 go_wp21;go_call mZ (X b 0) _ L P as O w⟨rfl,t⟩;rw[S]at t;subst w;go_wp21;go_call d as O j⟨rfl,p⟩;let⟨r,k,g⟩:=K j p;let⟨N,Q,hF,_⟩:=g j k.GR<|I.bI _ _;clear r k g p d;go_wp2;exact fC N Q ⟨_,gG z _ _ _,z,hF.xC⟩
def Le{j4:cy af}{s:SR}{cp:dI}(d:gI)(T:Y)(mb tt:R)(h:cU a b s 0)(P:Inv K j4 a b s f i l C F cp c k d)(hc:s.d=bD)(hg:yZ d T=M tt)(bl:s.n=M mb):cR bN 42 #[aJ b,ay T] a λaU N=>aU=aN ib/\∃e,cU N b {s with L:=e} 0/\Inv K j4 N b {s with L:=e} f (kS (rS d T) i []) l C F cp c k (rS d T)/\I (λt=>(f.j s.f t\/t=b)\/t=mb) a N:=by
 have ca:=az h;have c0:=cU.bW h 0 z;have f0:iH a (X b 0)=bD:=h.bS;have B:=lP P.st.f P.st.l 1;have h1:=h.jg 1;generalize hW:cP a (X b 0) (iC 1)=W1 at B h1;let⟨b0,q1,q2,q3⟩:=(P.f.eQ B).ex;have eb:b0=mb:=by rw[q1]at bl;grind
 subst eb;have ab:=wy T d h1 hc q1 q2;rw[hg]at ab;simp only at ab
 have HX:=ak (λW2(hb:gC (G<|H W1) W1 W2)=>show bA W2 (X b 16)=M (.map<|M b0)/\kO W2 b0 (Dm d)/\∀g,kO g b0 ((Dm d).dP T)->W2.grownBy g (M b0)->bA g (X b 7)=M s.L/\(∀O,I aC g O->bA O (X b 7)=M s.L/\iH O (X b 7)=bD/\cR bN 95 #[aJ b] O (λaU N=>∃v',∃E:eD,aU=aN v'/\E.Perm (Gi<|rS d T)/\fD N (G<|H O) 104 1 v' (y E) (E.map<|Value.int .u64)/\I aC O N)/\∀v'(E:eD)u,E.Perm (Gi<|rS d T)->I aC O u->fD u (G<|H O) 104 1 v' (y E) (E.map<|Value.int .u64)->cR bN 94 #[s.L,v'] u (λaU N=>∃e,aU=aN e/\fD N (G<|H u) 223 4 e (y<|kS (rS d T) i []) (bu<|kS (rS d T) i [])/\I aC u N))/\∀m e,I aC g m->fD m (G<|H g) 223 4 e (y<|kS (rS d T) i []) (bu<|kS (rS d T) i [])->bA m (X b 7)=M s.L/\iH m (X b 7)=bD/\∀w,w=cP m (X b 7) e->bA w (X b 0)=M (iC 1)/\iH w (X b 0)=bD/\cU (cP w (X b 0)<|iC 0) b {s with L:=e} 0/\Inv K j4 (cP w (X b 0)<|iC 0) b {s with L:=e} f (kS (rS d T) i []) l C F cp c k (rS d T)/\I (λt=>(f.j s.f t\/t=b)\/t=b0) a (cP w (X b 0)<|iC 0)from by
  have bh:=B.aj<|qT (j3:=b) B.ok hb;have av:cU W2 b s 1:=h1.aA (I.p (S:=aC) hb) id;have aV:=P.eQ (s':=s) ca bh z (aq _) z;let⟨b1,p1,p2,p3⟩:=aV.f.ex;have bv:b1=b0:=by rw[p1]at q1;grind
  subst bv;refine⟨p1▸av.u z,p2,λg o aa=>?_⟩;rw[TE]at o;have aD:I (λt=>t=b1) W2 g:=gH aa;have al:=Jm T d;have bk:y (rS d T)<=4:=aR al.length_le P.f.dL;have j:=aV.rV (s':=s) (N':=k) p1 z aD o bk ⟨P.S.1,λp hp=>P.S.2 p<|al.subset hp⟩ (aq _) P.v;have A:cU g b s 1:=(aD.A b (az av)<|λF=>p3.ne F.symm).trans av;have bq:I (λt=>(f.j s.f t\/t=b)\/t=b1) a g:=(bh.aA.aT<|λ_ F=>J<|J F).aj aD<|λ_ F=>J<|bj F;refine⟨A.u z,λO ac=>?_,λm e p r=>?_⟩
  .have V:cU O b s 1:=A.aA ac id;refine⟨V.u z,V.bS,wx (b:=b1) (rS d T) V p1 (o.dU<|ac.A _ o.lt id) bk,λv' E u hp n q=>?_⟩;have W:lF u s.L i:=(ac.t n).bV j.st.D<|λt hk=>⟨id,(j.st.L t hk).lt⟩;have:=yw E W j.st.o.zx (gV j.x j.L) (dQ q) (by have:=hp.length_eq;rw[qL]at this;omega) (λt hk=>au (j.st.L t hk).lt (ac.t n).D)<|λt hk=>(aS q t hk).2;rwa[BG hp]at this
  .have V:cU m b s 1:=A.aA p id;refine⟨V.u z,V.bS,λw x=>?_⟩;subst x;have bL:gh g m s.f b f f:=⟨j.st.f.aA p<|λ_ _=>id,p.aT cY,λ_ F=>J F,Fx.bI _⟩;have ao:=j.eQ (s':=s) (az A) bL z (aq _) z;have hA6:∀t,cN e=M t->Aside m f s.f b t:=λt hk=>by
    have h1:=aS r t hk;exact⟨h1.2,λF=>bP<|j.st.f.lt t F,λF=>bP<|az A⟩
   have ax:gh m (cP m (X b 7) e) s.f b f f:=(gh.bI ao.st.f).gq ao.st.l 7 e;have bx:=ao.eQ (s':=s) (az V) ax z (aq _) z;have cc:lF (cP m (X b 7) e) e (kS (rS d T) i []):=Gv (dQ r) ax hA6;have ap:=bx.p cc (λt hk=>(hA6 t hk).eQ ax);have W:cU (cP m (X b 7) e) b {s with L:=e} 1:=(aY V).trans rfl;have bT:=lP ap.st.f ap.st.l 0;have br:=bq.t p;exact⟨W.u z,W.bS,W.jg 0,ap.eQ (az W) bT z (aq _) z,(br.aL b 7 _ (J (J (bj z)))).aL b 0 _ (J (J (bj z)))⟩)
 let⟨x7,n7,cj⟩:=cG P.st.D;rw[cj]at HX;clear h P B h1 hc q1 q2 q3 hg bl;go_enter_defers func42,ntmps42
 go_wp21;go_call mZ (X b 0) _ c0 f0 as aU N⟨rfl,ck⟩;rw[hW]at ck;subst N;go_wp21;go_call ab as aU W2⟨rfl,hb⟩;let⟨cn,cb,ce⟩:=HX W2 hb;clear hb ab;go_wp2_with(at_delete;refine FR _ z _ _ 94 3 z 104 underlying94 underlying3 b0 (Dm d) z cb T z ?_;intro g o aa;have bt:=ak o;have bs:=ak aa;clear o aa)
 rename_i QQ KK bf;let⟨j7,bg,ch⟩:=ce g bt bs;have D:I aC g g.drew:=cf _ g;let⟨bE,_,bm,cd⟩:=bg g.drew D;clear j7 cn;refine Code.wp_mono (Q:=λaU l a=>aU=Exit.normal/\KK l a) (λaU l a h=>by obtain⟨rfl,h⟩:=h;exact h) ?_;refine cX (λj4=>bA j4 (X b 7)=M (am x7 (y i) n7)) 10 aH ?_;refine dH 0 ?_;iterate 6 (refine vf (v:=?_) bE z aH (λ_ _ _ h=>by cases h.1) rfl ?_ ?_;rotate_left;(focus(rintro j4 z0;go_simp;try rfl));simp only[ig,eh,fT,jZ])
 apply eS;refine aW 6 ?_;intro K6 ba;go_simp;go_call bm as aU u⟨v5,E,rfl,bo,q,n⟩;have bn:=cd v5 E u bo n q;let⟨y5,d5,cl⟩:=aM q;subst cl;refine ba _ _ (λ_=>(bg u<|D.t n).1) ?_;try simp only[ig,eh,fT]
 clear ba q bm bo;refine aW 7 ?_;intro K7 bb;go_simp;go_call bn as aU m⟨e,rfl,r,p⟩;have an:I aC g m:=(D.t n).t p;have bp:G (H g)<=G (H u):=(D.t n).D;obtain⟨z7,g7,bi⟩:=ch m e an<|fh r bp;obtain⟨y6,d6,cm⟩:=aM r;subst cm;refine bb _ _ (λ_=>z7) ?_;try simp only[ig,eh,fT]
 clear bb r bn n p an bp D;refine aW 8 ?_;intro K8 bc;go_simp;refine bc _ _ (λ_=>z7) ?_;try simp only[ig,eh,fT]
 clear bc;refine aW 9 ?_;intro K9 bd;go_simp;refine bd _ _ (λ_=>z7) ?_;try simp only[ig,eh,fT]
 clear bd;refine aW 10 ?_;intro co ad;go_simp;refine ad _ _ wW ?_;try simp only[ig,eh,fT]
 clear ad;refine dG aH ?_ _;refine⟨z,?_⟩;obtain⟨w,x⟩:∃w,w=cP m (X b 7) (am y6 (y<|kS (rS d T) i []) d6):=⟨_,rfl⟩;obtain⟨d0,g0,hF⟩:=bi w x;rw[<-x];clear x z7 g7;apply bf;clear bf;go_wp2;exact fC d0 g0 ⟨_,gG z _ _ _,z,_,hF⟩
end
def Z3{m:Y}(h:le b r=le b m)(a:0<=r)(d:r<256^b)(c:0<=m)(e:m<256^b):r=m:=by
 have f:=cD jv h;rwa[xO b r a,xO b m c,wi a d,wi c e]at f
def qQ(h:le b c=le b k)(a:c<256^b)(d:k<256^b):c=k:=by
 have e:=Z3 h (Int.natCast_nonneg c) (by have:=Int.ofNat_lt.2 a;simpa using this) (Int.natCast_nonneg k) (by have:=Int.ofNat_lt.2 d;simpa using this);exact Int.ofNat_inj.1 e
def ph{d a b:eD}(h:m++d=a++b)(c:y m=y a):m=a/\d=b:=uc h c
def XK{t:af}(h:km B=km t):B=t:=by
 have c:B.data.toList=t.data.toList:=by
  have:∀(x a:cy UInt8),x.map (λb=>(b.toNat:Y))=a.map (λb=>(b.toNat:Y))->x=a:=by
   intro x;induction x with
   |nil=>intro a h;cases a with
    |nil=>rfl
    |cons _ _=>simp at h
   |cons e x d=>
    intro a h;cases a with
    |nil=>simp at h
    |cons b a=>
     simp only[bO,iL]at h;rw[d a h.2];have:e.toNat=b.toNat:=bP h.1;rw[UInt8.toNat_inj.1 this]
  exact this _ _ h
 cases B;cases t;simp only[ByteArray.mk.injEq];exact Array.toList_inj.1 c
def TP{t:af}{a:eD}(h:iM B++m=iM t++a)(f:B.size<256)(g:t.size<256):B=t/\m=a:=by
 unfold iM at h;simp only[dt,iL,cw]at h;let⟨e,b⟩:=h;let⟨c,d⟩:=ph b (by rw[iw,iw];omega);exact⟨XK c,d⟩
def Zt{k b:pS}{d:eD}(h:uA k++m=uA b++d)(c:k.Can)(a:b.Can):(k.D=b.D/\k.A=b.A/\k.eJ=b.eJ/\k.eP=b.eP)/\m=d:=by
 unfold uA at h;simp only[cw]at h;let⟨e,h⟩:=ph h (by simp[dh]);let⟨f,h⟩:=ph h (by simp[dh]);let⟨g,h⟩:=TP h (bP c.f8)<|bP a.f8;let⟨i,h⟩:=TP h (bP c.l8)<|bP a.l8;exact⟨⟨qQ e (bP c.D)<|bP a.D,qQ f (bP c.c2)<|bP a.c2,g,i⟩,h⟩
def PE:∀{d a:la},y d=y a->d.flatMap uA=a.flatMap uA->(∀k∈d,k.Can)->(∀k∈a,k.Can)->qC d=qC a
 |[],[],_,_,_,_=>rfl
 |[],_::_,c,_,_,_=>by simp at c
 |_::_,[],c,_,_,_=>by simp at c
 |k::d,j::a,c,h,e,b=>by
  rw[dR,dR]at h;let⟨⟨m,f,g,i⟩,l⟩:=Zt h (e k ar)<|b j ar;have:=PE (dV c) l (λx a=>e x<|by simp[a]) (λx a=>b x<|by simp[a]);unfold qC at this|-;rw[bO,bO,fq,fq,this];unfold GJ;rw[f,g,i]
def L7{a:la}(h:iD L=iD a)(c:ny L)(b:ny a):qC L=qC a:=by
 unfold iD at h;let⟨d,e⟩:=ph h (by simp[dh]);have:=c.dL;have:=b.dL;exact PE (qQ d U U) e c.l b.l
def M7(a:dI):uC a=Fp (a.map po):=by
 unfold uC Fp;rw[cS,xu];rfl
def DC(c b a:R)(d e f g:dI):mi c b a [d,e,f,g]=Q7 c b a [d.map po,e.map po,f.map po,g.map po]:=by
 unfold mi Q7 L8;simp[M7,cw]
def ZV{m n:Mk}(h:Fo m=Fo n)(d:m.Ok)(e:n.Ok):m.cK=n.cK/\m.ur=n.ur/\m.f=n.f:=by
 unfold Fo at h;let⟨a,h⟩:=ph h (by simp[dh]);let⟨b,h⟩:=ph h (by simp[dh]);let⟨c,h⟩:=ph h (by simp[dh]);let⟨f,g,i⟩:=d;let⟨j,k,l⟩:=e;exact⟨qQ a U U,qQ b U U,qQ c U U⟩
def Mk.D(m:Mk):R×R×R:=(m.cK,m.ur,m.f)
def Pg:∀{D E:cy Mk},y D=y E->D.flatMap Fo=E.flatMap Fo->(∀m∈D,m.Ok)->(∀m∈E,m.Ok)->D.map Mk.D=E.map Mk.D
 |[],[],_,_,_,_=>rfl
 |[],_::_,b,_,_,_=>by simp at b
 |_::_,[],b,_,_,_=>by simp at b
 |m::D,n::E,b,h,d,a=>by
  rw[dR,dR]at h;let⟨g,i⟩:=ph h (by rw[Ib,Ib]);let⟨c,e,f⟩:=ZV g (d m ar)<|a n ar;rw[bO,bO,Pg (dV b) i (λx c=>d x<|by simp[c])<|λx c=>a x<|by simp[c]];unfold Mk.D;rw[c,e,f]
def Da{D E:cy Mk}{b:eD}(h:Fp D++m=Fp E++b)(e:∀g∈D,g.Ok)(f:∀g∈E,g.Ok)(i:y D<4294967296)(j:y E<4294967296):D.map Mk.D=E.map Mk.D/\m=b:=by
 unfold Fp at h;simp only[cw]at h;let⟨c,h⟩:=ph h (by simp[dh]);have a:y D=y E:=qQ c U U;let⟨d,h⟩:=ph h (by rw[AU,AU,a]);exact⟨Pg a d e f,h⟩
def Yg{b:eD}(h:ij m=ij b):m=b:=by
 unfold ij at h;have a:=cD y h;rw[ai,ai,dh,dh]at a;exact(ph h U).1
def E8{j:R}{A B C D e f g i:cy Mk}(h:Q7 b c k [A,B,C,D]=Q7 n T j [e,f,g,i])(d:∀m∈A++B++C++D,m.Ok)(a:∀m∈e++f++g++i,m.Ok)(o:y (A++B++C++D)<4294967296)(l:y (e++f++g++i)<4294967296):A.map Mk.D=e.map Mk.D/\B.map Mk.D=f.map Mk.D/\C.map Mk.D=g.map Mk.D/\D.map Mk.D=i.map Mk.D:=by
 have h:=Yg h;unfold L8 at h;let⟨_,h⟩:=ph h (by simp[dh]);let⟨_,h⟩:=ph h (by simp[dh]);let⟨_,h⟩:=ph h (by simp[dh]);simp only[bO,gA,di,jz]at h;simp only[ai]at o l;simp only[aP]at d a;let⟨p,h⟩:=Da h (λm q=>d m<|by simp[q]) (λm q=>a m<|by simp[q]) U U;let⟨r,h⟩:=Da h (λm q=>d m<|by simp[q]) (λm q=>a m<|by simp[q]) U U;let⟨s,h⟩:=Da h (λm q=>d m<|by simp[q]) (λm q=>a m<|by simp[q]) U U;let⟨t,h⟩:=Da h (λm q=>d m<|by simp[q]) (λm q=>a m<|by simp[q]) U U;exact⟨p,r,s,t⟩
def FI(a:Fs)(t:cH):Prop:=∃f,fo a (jf t.cK)=M f/\(f.drop<|jM t.ks).take (y<|iD t.ks)=iD t.ks
def zK:∀{a b:dI},(a.map po).map Mk.D=(b.map po).map Mk.D->(∀t∈a,ny t.ks/\FI N t)->(∀u∈b,ny u.ks/\FI N u)->ik a=ik b
 |[],[],_,_,_=>rfl
 |[],_::_,h,_,_=>by simp at h
 |_::_,[],h,_,_=>by simp at h
 |t::a,u::b,h,c,d=>by
  simp only[bO,iL]at h;let⟨g,h⟩:=h;unfold Mk.D po at g;simp only[js]at g;let⟨i,j,k⟩:=g;let⟨n,q,l,m⟩:=c t ar;let⟨o,p,e,f⟩:=d u ar;rw[<-i,l]at e;cases e;rw[<-j,<-k,m]at f;have:=zK h (λx a=>c x<|by simp[a]) (λx a=>d x<|by simp[a]);unfold ik at this|-;rw[bO,bO,fq,fq,this,L7 f n o]
def ny.D(h:ny L):jM L<=51200:=by
 have a:∀l:la,(∀k∈l,k.Can)->jM l<=512*y l:=by
  intro l;induction l with
  |nil=>intro _;exact aq _
  |cons k l c=>
   intro q;have:=(q k ar).D;have b:=c (λx a=>q x<|by simp[a]);unfold jM at b|-;rw[bO,fq,bK];omega
 have:=a L h.l;have:=h.dL;omega
def ny.A(h:ny L):y (iD L)<=3000:=by
 have a:∀l:la,(∀k∈l,k.Can)->y (l.flatMap uA)<=26*y l:=by
  intro l;induction l with
  |nil=>intro _;exact aq _
  |cons k l b=>
   intro q;have c:=(q k ar);have:=c.f8;have:=c.l8;have:=b (λx a=>q x<|by simp[a]);rw[dR,ai,bK];have:y (uA k)=4+(4+((1+k.eJ.size)+(1+k.eP.size))):=by
    simp only[uA,ai,dh,iM,bK,iw];omega
   omega
 have:=a L h.l;have:=h.dL;unfold iD;rw[ai,dh];omega
def R7{t:cH}(a:ny t.ks)(b:t.cK<18446744073709551616):(po t).Ok:=⟨b,by show jM t.ks<_;have:=a.D;omega,by show y (iD t.ks)<_;have:=a.A;omega⟩
def Ksm(e f g h a b c d:dI):Prop:=(e.map po).map Mk.D=(a.map po).map Mk.D/\(f.map po).map Mk.D=(b.map po).map Mk.D/\(g.map po).map Mk.D=(c.map po).map Mk.D/\(h.map po).map Mk.D=(d.map po).map Mk.D
def XI{e f g i:dI}(h:Xb N l v C F)(p:fo N fj=M (mi b c k [e,f,g,i])\/fo N fj=dE/\e++f++g++i=[])(q:∀t∈l++v++C++F,ny t.ks/\t.cK<18446744073709551616)(j:∀t∈e++f++g++i,ny t.ks/\t.cK<18446744073709551616)(s:y (l++v++C++F)<4294967296)(n:y (e++f++g++i)<4294967296):Ksm l v C F e f g i:=by
 obtain⟨A,w,u,_,r⟩|⟨r,o⟩:=h.1;obtain a|⟨a,_⟩:=p;rw[r]at a;have a:=iK a;rw[DC,DC]at a;have d:∀(l v C F:dI),l.map po++v.map po++C.map po++F.map po=(l++v++C++F).map po:=ar;exact E8 a (by rw[d];intro x d;obtain⟨t,m,rfl⟩:=cC.1 d;exact R7 (q t m).1 (q t m).2) (by rw[d];intro x d;obtain⟨t,m,rfl⟩:=cC.1 d;exact R7 (j t m).1 (j t m).2) (by rw[d,cS];exact s) (by rw[d,cS];exact n);rw[r]at a;cases a;obtain a|⟨_,d⟩:=p;rw[r]at a;cases a;simp only[gB]at o d;obtain⟨⟨⟨rfl,rfl⟩,rfl⟩,rfl⟩:=o;obtain⟨⟨⟨rfl,rfl⟩,rfl⟩,rfl⟩:=d;exact⟨z,z,z,z⟩
def Ksm.za{g b i j c d e f:dI}(h:Ksm g b i j c d e f)(p:∀t∈g++b++i++j,ny t.ks/\FI N t)(a:∀t∈c++d++e++f,ny t.ks/\FI N t):ik g+ik b+ik i+ik j=ik c+ik d+ik e+ik f:=by
 let⟨k,l,m,n⟩:=h;rw[zK k (λt q=>p t<|by simp[q]) (λt q=>a t<|by simp[q]),zK l (λt q=>p t<|by simp[q]) (λt q=>a t<|by simp[q]),zK m (λt q=>p t<|by simp[q]) (λt q=>a t<|by simp[q]),zK n (λt q=>p t<|by simp[q])<|λt q=>a t<|by simp[q]]
def Ksm.cK{d f g i:dI}(h:Ksm l v C F d f g i):∀t∈l++v++C++F,∃u∈d++f++g++i,t.cK=u.cK:=by
 have one:∀{x b:dI},(x.map po).map Mk.D=(b.map po).map Mk.D->∀t∈x,∃u∈b,t.cK=u.cK:=λ{x b}e t c=>by let⟨m,k,j⟩:=cC.1 (e▸cC.2 ⟨_,cC.2 ⟨t,c,rfl⟩,rfl⟩:(po t).D∈(b.map po).map Mk.D);obtain⟨u,a,rfl⟩:=cC.1 k;exact⟨u,a,(cD (·.1) j).symm⟩
 intro t c;simp only[aP]at c;obtain((q|q)|q)|q:=c;let⟨u,a,e⟩:=one h.1 t q;exact⟨u,by simp[a],e⟩;let⟨u,a,e⟩:=one h.2.1 t q;exact⟨u,by simp[a],e⟩;let⟨u,a,e⟩:=one h.2.2.1 t q;exact⟨u,by simp[a],e⟩;let⟨u,a,e⟩:=one h.2.2.2 t q;exact⟨u,by simp[a],e⟩
def SR.yB(s:SR)(u0 u1 u2 u3:ae)(next b a:R)(c:eN):SR:={s with l0:=u0,l1:=u1,l2:=u2,l3:=u3,t:=next,l:=b,S:=a,x:=c}
def J7(bT:Z)(b:R)(s:SR)(cb:Y)(nf:R)(db cB:R->R->R->Z->ae->ae->ae->ae->Prop)(E:Z->Prop)(t:fB)(h:cU bT b s cb)(co:∀q,t q->q<G (H bT))(cp:¬t b)(hE:∀ca W',E ca->I (λq=>q=b) ca W'->E W')(hL:cR bN 67 #[aJ s.f] bT λbg m=>(∃(next c a:R)(D:Option Addr)(x v:R)(F:Option Addr)(A c1:R)(L:Option Addr)(B c2:R)(N:Option Addr)(C c3:R),bg=aN (de #[ef #[bw next,bw c,bw a,am D x v,am F A c1,am L B c2,am N C c3],ib])/\db next c a m (am D x v) (am F A c1) (am L B c2) (am N C c3)/\I t bT m)\/K/\∃q,bg=aN (de #[ef #[bw 0,bw 0,bw 0,aF,aF,aF,aF],eW q])/\tB m q/\I t bT m/\E m)(hO:∀next c a W1 ca v0 v1 v2 v3,db next c a W1 v0 v1 v2 v3->I aC W1 ca->cR bN 68 #[aJ s.f,ef #[v0,v1,v2,v3]] ca λbg m=>∃D x v F A c1 L B c2 N C c3 ev,bg=aN (de #[ef #[am D x v,am F A c1,am L B c2,am N C c3],ev])/\((ev=ib/\cB next c a m (am D x v) (am F A c1) (am L B c2) (am N C c3))\/(K/\∃q,ev=eW q/\tB m q/\E m))/\I t ca m)(hS:∀next c a ca u0 u1 u2 u3,cB next c a ca u0 u1 u2 u3->∀W',I (λq=>q=b) ca W'->cB next c a W' u0 u1 u2 u3/\cR bN 22 #[aJ s.f] W' λbg m=>∃dd u,bg=aN (am dd nf u)/\I aC W' m):cR bN 28 #[aJ b] bT λbg m=>(bg=aN ib/\∃next c a u0 u1 u2 u3,cU m b (s.yB u0 u1 u2 u3 next c a<|decide<|0<nf) cb/\cB next c a m u0 u1 u2 u3/\I (λq=>t q\/q=b) bT m)\/K/\∃q,bg=aN (eW q)/\tB m q/\E m/\I (λq=>t q\/q=b) bT m:=by
 have cs:=az h;have k2:=cU.bW h 2 z;go_in
 go_wp21;go_call hL as bg e(⟨next,c,a,D,x,v,F,A,c1,L,B,c2,N,C,c3,rfl,bp,w⟩|⟨hX,q,rfl,hq,w,bs⟩);rotate_left;(.let⟨HQ,cj,cd⟩:=eU hq w bs;clear hq w hL bs;go_wp2;go_ret;exact bj ⟨hX,q,z,HQ.aA (cI aC e) cY,hE _ _ cd<|(cI aC e).aT cY,(cj.aT<|λ_ u=>J<|J u).aE _⟩);let⟨j,ac⟩:∃j,dw e (aK #[bw next,bw c,bw a,am D x v,am F A c1,am L B c2,am N C c3] 161)=j:=⟨_,rfl⟩;have V:I aC e j:=ac▸(cI aC e);have f:j.heap[G<|H e]?=M (aK #[bw next,bw c,bw a,am D x v,am F A c1,am L B c2,am N C c3] 161 (0,0)):=ac▸aQ _ rfl;have bc:I t bT j:=w.t V;have S:cU j b s cb:=(bc.A b cs cp).trans h;have:=w.D;let⟨cl,bk,ce,ck,aa,p⟩:=nT ac V bp bc S f;clear bp w bc S f ac V hL;go_wp21;rw[ag cl];rename_i KK aD;have S:=ag aa;have f:=ag p;have aV:bA j.drew (X b 2)=M (aJ s.f)/\bA j.drew (X (G<|H e) 3)=M (am D x v)/\bA j.drew (X (G<|H e) 4)=M (am F A c1)/\bA j.drew (X (G<|H e) 5)=M (am L B c2)/\bA j.drew (X (G<|H e) 6)=M (am N C c3):=⟨S.u z,by show bA j _=_;rw[cE f];rfl,by show bA j _=_;rw[cE f];rfl,by show bA j _=_;rw[cE f];rfl,by show bA j _=_;rw[cE f];rfl⟩;clear S f;have ch:=ak (show∀K:Z,(∀q,q=b\/q=G (H e)->K.heap[q]?=j.heap[q]?)->bA K (X b 2)=M (aJ s.f)/\bA K (X (G<|H e) 3)=M (am D x v)/\bA K (X (G<|H e) 4)=M (am F A c1)/\bA K (X (G<|H e) 5)=M (am L B c2)/\bA K (X (G<|H e) 6)=M (am N C c3)fromλK hX=>by have hb:cU K b s cb:=(hX b<|J z).trans aa;have hs:=(hX _<|bj z).trans p;exact⟨hb.u z,by rw[cE hs];rfl,by rw[cE hs];rfl,by rw[cE hs];rfl,by rw[cE hs];rfl⟩);refine cX (λ(K:Z)=>bA K (X b 2)=M (aJ s.f)/\bA K (X (G<|H e) 3)=M (am D x v)/\bA K (X (G<|H e) 4)=M (am F A c1)/\bA K (X (G<|H e) 5)=M (am L B c2)/\bA K (X (G<|H e) 6)=M (am N C c3)) 14 aH ?_;refine dH 0 ?_;iterate 7 (refine fW aV ?_;simp only[ig,eh,jZ])
 apply eS;refine aW 7 ?_;intro K7 ax;go_simp;go_call hO _ _ _ e j.drew _ _ _ _ ce (bk.t<|cf aC j)as bg w3⟨z0,l0,d0,z1,l1,d1,z2,l2,d2,z3,l3,d3,ev,rfl,cr,bd⟩;have n:I t j w3:=(cf t j).aj bd<|λ_ u=>J u;have:=az p
 have g:∀q,q=b\/q=G (H e)->w3.heap[q]?=j.heap[q]?:=λq hq=>n.A q (by have:=az aa;obtain u|u:=hq<;>omega) (λu=>by
  obtain dc|dc:=hq
  .grind
  .have:=co q u;omega)
 have ab:=ch w3 g;refine ax _ _ (λ_=>ab) ?_;try simp only[ig,eh]
 refine dH 8 ?_;iterate 5 (refine fW ab ?_;simp only[ig,eh,jZ])
 apply eS;refine aW 13 ?_;intro cM O;have k:cU w3 b s cb:=(g b<|J z).trans aa;have fz:∀cx,iH w3 (X b cx)=bD:=λcx=>k.bS;have bl:=cU.bW k 10 z;have bm:=cU.bW k 11 z;have bn:=cU.bW k 12 z;have bo:=cU.bW k 13 z;go_simp;let⟨o,Q⟩:∃o,cP (cP (cP (cP w3 (X b 10)<|am z0 l0 d0) (X b 11)<|am z1 l1 d1) (X b 12)<|am z2 l2 d2) (X b 13) (am z3 l3 d3)=o:=⟨_,rfl⟩;have l:cU o b {s with l0:=am z0 l0 d0,l1:=am z1 l1 d1,l2:=am z2 l2 d2,l3:=am z3 l3 d3} cb:=by rw[<-Q];exact(aY<|aY<|aY<|aY k).trans z
 have i:I (λq=>q=b) w3 o:=by rw[<-Q];exact(((iP b w3).aL b 11 _<|J z).aL b 12 _<|J z).aL b 13 _<|J z
 have d:o.heap[G<|H e]?=M (aK #[bw next,bw c,bw a,am D x v,am F A c1,am L B c2,am N C c3] 161 (0,0)):=(i.A _ (bP n.D) U).trans<|(g _<|bj rfl).trans p;rw[Q];have aU:bA o (X b 2)=M (aJ s.f)/\bA o (X (G<|H e) 3)=M (am D x v)/\bA o (X (G<|H e) 4)=M (am F A c1)/\bA o (X (G<|H e) 5)=M (am L B c2)/\bA o (X (G<|H e) 6)=M (am N C c3):=⟨l.u z,by rw[cE d];rfl,by rw[cE d];rfl,by rw[cE d];rfl,by rw[cE d];rfl⟩;refine O _ _ (λ_=>aU) ?_;try simp only[ig,eh]
 refine aW 14 ?_;intro cT P;go_simp;refine P _ _ wW ?_;refine dG aH ?_ _;show KK _ _;apply aD;have s0:=aX d 0;have s1:=aX d 1;have s2:=aX d 2;have v9:=cU.bW l 9 z;have cu:=cU.bW l 14 z;have cv:=cU.bW l 17 z;have cn:∀cx,iH o (X b cx)=bD:=λcx=>l.bS;have:G (H e)≠b:=U;have:=az l;have:=az d;have r:I (λq=>t q\/q=b) bT o:=((ck.aT (T:=λq=>t q\/q=b)<|λ_ u=>J<|J u).aj n<|λ_ u=>J<|J u).aj i<|λ_ u=>J<|bj u;obtain⟨rfl,bq⟩|⟨hX,q,rfl,hq,bt⟩:=cr;rotate_left;(.let⟨HQ,av,cd⟩:=eU (hq.aA i k.nY) r<|hE _ _ bt i;clear aD ax O P aU ab aV k l i d fz bl bm bn bo g n bd Q r k2 hq bt;go_wp2;go_ret;exact bj ⟨hX,q,z,HQ,cd,av⟩);let⟨bi,cc,an,av⟩:=jr (hS _ _ _ w3 _ _ _ _ bq) l i r;clear aD ax O P aU ab aV k l i d fz bl bm bn bo g n bd bq Q r k2;go_wp21;rename_i cm ao;apply PU cm;(.intro cd;(go_region);all_goals exact cd);refine ao _ _ ?_;clear ao;let⟨W6,ba⟩:∃W6,(cP (cP (cP o (X b 14)<|bw next) (X b 17)<|bw c) (X b 9)<|bw a).drew=W6:=⟨_,rfl⟩;have W:I (λq=>q=b) o W6:=by rw[<-ba];exact(((iP b o).aL b 17 _<|J z).aL b 9 _<|J z).aj (cf (λq=>q=b) _)<|λ_ u=>J u
 have bb:cU W6 b (s.yB (am z0 l0 d0) (am z1 l1 d1) (am z2 l2 d2) (am z3 l3 d3) next c a s.x) cb:=by rw[<-ba];exact Eq.trans (show _=_ from aY<|aY<|aY cc) z
 have bx:=bi W6<|an.aj W<|λ_ u=>J u;have:=cU.bW bb 2 z;have bv:=bx.2;clear bx s0 s1 s2 v9 cu cv cn;rw[ba];go_wp21;go_call bv as bg w7⟨x7,c7,rfl,al⟩;have ad:cU w7 b (s.yB (am z0 l0 d0) (am z1 l1 d1) (am z2 l2 d2) (am z3 l3 d3) next c a s.x) cb:=(al.A b (az bb) id).trans bb;have:=cU.bW ad 21 z;have:iH w7 (X b 21)=bD:=ad.bS;have bf:I (λq=>q=b) w7 (cP w7 (X b 21)<|aO<|decide<|0<nf):=(iP b w7);have br:cU (cP w7 (X b 21)<|aO<|decide<|0<nf) b (s.yB (am z0 l0 d0) (am z1 l1 d1) (am z2 l2 d2) (am z3 l3 d3) next c a<|decide<|0<nf) cb:=(aY ad).trans rfl;have ap:=((an.aj W<|λ_ u=>J u).t al).aj bf<|λ_ u=>J u;have bE:=(bi _ ap).1;have bL:I (λq=>t q\/q=b) bT (cP w7 (X b 21)<|aO<|decide<|0<nf):=((av.aj W<|λ_ u=>J<|bj u).t al).aj bf<|λ_ u=>J<|bj u;have bh:=ak<|And.intro br (And.intro bE bL);have:decide ((0:Y)<(nf:Y))=decide (0<nf):=ar;clear ad bf br ap bE bL al bv;go_wp2;go_ret;exact J ⟨z,next,c,a,am z0 l0 d0,am z1 l1 d1,am z2 l2 d2,am z3 l3 d3,bh⟩
def Ew{P:Program}{d:Array Oper}{Q:Exit->Act->Z->Prop}{e:Region.Mode}{S:Z->Prop}{i m:R}{o:Oper}{c:Array eN}{k:Act}(n:d[i]?=M o)(p:Region.wanted o (yielded d k.tmps)=cz)(l:Region.ready e d c=[i])(h:∀K:Act->Z->Prop,(∀g f,(i<m->S f)->oR P e d Q S m b (c.setIfInBounds i cz) g f->K g f)->Oper.wp P o k a K Q):oR P e d Q S m (b+1) c k a:=by
 refine⟨aI,λq j=>?_⟩;rw[l]at j;obtain rfl:q=i:=dV j;unfold wpOp;grind
def AF(a c:cy dI)(j:R):Prop:=∀i,i<j->y (a.getD i [])=y (c.getD i [])/\lT (a.getD i [])=lT (c.getD i [])
def AF.nx{a d:cy dI}(h:AF a d c)(f:y (a.getD c [])=y (d.getD c []))(g:lT (a.getD c [])=lT (d.getD c [])):AF a d (c+1):=λi e=>by
 obtain q|rfl:=Nat.lt_succ_iff_lt_or_eq.1 e;exact h i q;grind
def MH(ac:Z)(n o:R)(p0 p1 p2 p3 q0 q1 q2 q3:ae)(C D E F K L N O:dI)(d:∀W,I aC ac W->(bA W (X n 10)=M p0/\bA W (X n 11)=M p1/\bA W (X n 12)=M p2/\bA W (X n 13)=M p3)/\(bA W (X o 0)=M q0/\bA W (X o 1)=M q1/\bA W (X o 2)=M q2/\bA W (X o 3)=M q3)/\(jX W p0 C/\jX W p1 D/\jX W p2 E/\jX W p3 F)/\(jX W q0 K/\jX W q1 L/\jX W q2 N/\jX W q3 O))(hc:lT C<=20000000000/\lT D<=20000000000/\lT E<=20000000000/\lT F<=20000000000/\lT K<=20000000000/\lT L<=20000000000/\lT N<=20000000000/\lT O<=20000000000):cR bN 150 #[ee<|M<|X n 10,aJ o] ac λax w'=>∃aV,ax=aN (aO aV)/\(aV=cz->AF [C,D,E,F] [K,L,N,O] 4)/\I aC ac w':=by
 have one:∀(k j:R)(f q:ae)(e b:dI),(∀W,I aC ac W->(bA W (X n k)=M f/\bA W (X o j)=M q)/\jX W f e/\jX W q b)->lT e<=20000000000->lT b<=20000000000->∃(ab:Z->Prop)(an m:Option Addr)(ad al:R)(A B:dI),(∀W,I aC ac W->ab W/\jX W (am an (y A) ad) A/\jX W (am m (y B) al) B)/\(∀c,ab c->bA c (X n k)=M (am an (y A) ad)/\bA c (X o j)=M (am m (y B) al))/\lT A<=20000000000/\lT B<=20000000000/\A=e/\B=b:=by intro k j f q e b h aU aD;let⟨_,s,t⟩:=h ac<|I.bI _ ac;obtain⟨an,ad,rfl⟩:=cG s.bV;obtain⟨m,al,rfl⟩:=cG t.bV;exact⟨_,an,m,ad,al,e,b,h,λc h=>h,aU,aD,z,z⟩
 have p:∀j,j<4->∃(ab:Z->Prop)(an m:Option Addr)(ad al:R)(A B:dI),(∀W,I aC ac W->ab W/\jX W (am an (y A) ad) A/\jX W (am m (y B) al) B)/\(∀c,ab c->bA c (X n<|10+j)=M (am an (y A) ad)/\bA c (X o j)=M (am m (y B) al))/\lT A<=20000000000/\lT B<=20000000000/\A=[C,D,E,F].getD j []/\B=[K,L,N,O].getD j []:=by let⟨e,f,g,i,m0,m1,m2,m3⟩:=hc;intro j hj;obtain rfl|rfl|rfl|rfl:=(show j=0\/j=1\/j=2\/j=3 by omega);exact one 10 0 _ _ _ _ (λW a=>⟨⟨(d W a).1.1,(d W a).2.1.1⟩,(d W a).2.2.1.1,(d W a).2.2.2.1⟩) e m0;exact one 11 1 _ _ _ _ (λW a=>⟨⟨(d W a).1.2.1,(d W a).2.1.2.1⟩,(d W a).2.2.1.2.1,(d W a).2.2.2.2.1⟩) f m1;exact one 12 2 _ _ _ _ (λW a=>⟨⟨(d W a).1.2.2.1,(d W a).2.1.2.2.1⟩,(d W a).2.2.1.2.2.1,(d W a).2.2.2.2.2.1⟩) g m2;exact one 13 3 _ _ _ _ (λW a=>⟨⟨(d W a).1.2.2.2,(d W a).2.1.2.2.2⟩,(d W a).2.2.1.2.2.2,(d W a).2.2.2.2.2.2⟩) i m3
 clear d hc one;generalize [C,D,E,F]=As at p|-;generalize [K,L,N,O]=Bs at p|-;go_in
 go_wp2;go_loopw [6] (λav wr=>∃j:R,j<=4/\av=ay j/\AF As Bs j/\I aC ac wr) (λav _=>4-(intOf av).toNat)
 exact⟨0,U,dM,λav a=>U,I.bI _ _⟩;(.obtain⟨j,hj,rfl,k,ht⟩:=hrel;by_cases h4:j<4;(.let⟨ab,an,m,ad,al,A,B,a,w,aU,aD,eA,eB⟩:=p j h4;have ao:=ak<|show y A=y B->lT A=lT B->AF As Bs (j+1)fromλa c=>k.nx (eA▸eB▸a)<|eA▸eB▸c;clear k eA eB;have u:=ht.t<|cf aC wr;let⟨g,hL,_⟩:=a wr.drew u;have r:=BP hL aU;have HQ:=ak<|λW(c:I aC ac W)=>And.intro (a W c).1 (BP (a W c).2.2 aD);clear ht a hL;obtain rfl|rfl|rfl|rfl:=(show j=0\/j=1\/j=2\/j=3 by omega);(all_goals simp only[jZ]at w;by_cases i:y A=y B;(.have el:((y A:Y)!=(y B:Y))=bD:=aI;have x:=ak i;clear i;let⟨eb,ec⟩:∃eb,((lT A:Y)!=(lT B:Y))=eb:=⟨_,rfl⟩;go_wp21;rename_i QQ KK f;refine kF ab 28 aH ?_;refine lW 0 ?_;(iterate 19 (refine vh (v:=?_) g z aH (λ_ _ _ h=>h) (J ⟨by rfl,?_⟩) ?_;rotate_left;(focus(intro c l;let⟨z0,z1⟩:=w c l;go_simp;try with_reducible rfl));simp only[ig,jZ,dC,eY,eO,dl,cF,cO]));apply qi;refine lW 20 ?_;(iterate 5 (refine vh (v:=?_) g z aH (λ_ _ _ h=>h) (J ⟨by rfl,?_⟩) ?_;rotate_left;(focus(intro c l;let⟨z0,z1⟩:=w c l;go_simp;try with_reducible rfl));simp only[ig,jZ,dC,eY,eO,dl,cF,cO]));apply qi;refine Ew (i:=19) z (by rfl) aH ?_;intro K1 P;go_simp;go_call r as ax W1⟨rfl,T⟩;have s:=u.t<|I.p (S:=aC) T;let⟨S,aa⟩:=HQ W1 s;have ap:=ak s;refine P _ _ (λ_=>S) ?_;(try simp only[ig,dC,eY,eO,dl,cF,cO]);clear P T s r g S;refine Ew (i:=25) z (by rfl) aH ?_;intro K2 Q;go_simp;go_call aa as ax W2⟨rfl,V⟩;have t:=ap.t<|I.p (S:=aC) V;have g:=(HQ W2 t).1;have e:=ak t;refine Q _ _ (λ_=>g) ?_;(try simp only[ig,dC,eY,eO,dl,cF,cO]);clear Q V t aa;refine lW 26 ?_;(iterate 2 (refine vh (v:=?_) g z aH (λ_ _ _ h=>h) (J ⟨by rfl,?_⟩) ?_;rotate_left;(focus(intro c l;let⟨z0,z1⟩:=w c l;go_simp;try with_reducible rfl));simp only[ig,jZ,dC,eY,eO,dl,cF,cO]));apply qi;refine kR aH ?_ _;show KK _ _;apply f;clear f g;cases eb;(.have HN:=ak<|ao x<|bP<|bne_eq_false_iff_eq.1 ec;go_wp2;go_roundw;(first|exact⟨1,U,dM,HN,e⟩|exact⟨2,U,dM,HN,e⟩|exact⟨3,U,dM,HN,e⟩|exact⟨4,U,dM,HN,e⟩);simp[intOf]);go_wp2;go_ret;exact⟨bD,z,(λq=>by cases q),e⟩);(.have el:((y A:Y)!=(y B:Y))=cz:=Bo.2 U;clear i;go_wp21;rename_i QQ KK f;refine kF ab 28 aH ?_;refine lW 0 ?_;(iterate 14 (refine vh (v:=?_) g z aH (λ_ _ _ h=>h) (J ⟨by rfl,?_⟩) ?_;rotate_left;(focus(intro c l;let⟨z0,z1⟩:=w c l;go_simp;try with_reducible rfl));simp only[ig,jZ,dC,eY,eO,dl,cF,cO]));apply qi;refine lW 14 ?_;(iterate 13 (refine vh (v:=jm) g z aH (λ_ _ _ h=>h) (bj ⟨by rfl,z⟩) ?_;simp only[ig,jZ,dC,eY,eO,dl,cF,cO]));apply qi;refine lW 27 ?_;(iterate 1 (refine vh (v:=?_) g z aH (λ_ _ _ h=>h) (J ⟨by rfl,?_⟩) ?_;rotate_left;(focus(intro c l;let⟨z0,z1⟩:=w c l;go_simp;try with_reducible rfl));simp only[ig,jZ,dC,eY,eO,dl,cF,cO]));apply qi;refine kR aH ?_ _;show KK _ _;apply f;clear f g r;go_wp2;go_ret;exact⟨bD,z,(λq=>by cases q),u⟩)));obtain rfl:j=4:=U;have f:=ak ht;have e:=ak k;clear ht k;go_wp2;go_ret;exact⟨cz,z,(λ_=>e),f⟩)
def sC.TK{g b j l:dI}(h:sC N a c o f i g b j l k):∀r∈i::lL g b j l,gF r:=by
 intro r d;unfold lL at d;simp only[dy,aP,pT,cC,lf,uR]at d;obtain rfl|⟨t,e,rfl⟩|rfl|rfl|rfl:=d;exact h.o;exact((h.l0.bZ t e).p).o;exact h.s1.o;exact h.s2.o;exact h.s3.o
structure T8(j5:Prop)(j4:cy af)(w W:Z)(sb lb:R)(s:SR)(k:Y)(K:DK)(m:dB)(a b c d:dI)(C N:R)(sn:gI)(v3:ae)(tm:dI)(qs:cy NT):Prop where
 sv:SV w sb s k lb K (a++b++c++d) C W aF aF aF v3 [] [] [] tm qs
 qN:∃K',gh w W s.f sb K K'/\wR K K'/\Inv j5 j4 W sb s K' m a b c d C N sn
 f:jX W v3 tm
 MY:lT tm<=3000000000
def T8.aA{L:Prop}{E:cy af}{w ab C:Z}{K:DK}{an:dB}{ac b ad al:dI}{aa:R}{O:gI}{N:cy NT}(h:T8 L E w ab c k o r K an ac b ad al n aa O d v N)(a:I aC ab C):T8 L E w C c k o r K an ac b ad al n aa O d v N:=by
 let⟨P,W,x,D⟩:=h.qN;have p:=nj (j3:=c) D.st.f a;refine⟨⟨h.sv.ls.aA (a.aT cY)<|(nW o.f K).l h.sv.ls.D a cY,(a.A k (az h.sv.lb) id).trans h.sv.lb,(a.A c (az h.sv.g) id).trans h.sv.g,h.sv.aA.t a⟩,⟨P,W.aj p,x,D.eQ (az h.sv.g) p z (aq _) z⟩,⟨a.bV h.f.bV<|λr t=>⟨id,h.f.lt r t⟩,λr t=>au (h.f.lt r t) a.D,λao A=>?_,h.f.f⟩,h.MY⟩;let⟨V,g,q,j,B,Q,m,e,s,u⟩:=h.f.bZ ao A;exact⟨V,g,q,j,B,Q,m,e,s,u.dU (a.A _ u.lt.1 id)<|a.A _ u.lt.2 id⟩
def zaa{j4:cy af}{W:Z}{k:Y}{F b L N:dI}{ad:R}{t:gI}(h:cU a c o k)(j:Inv K j4 a c o f i F b L N T ad t)(hp:m.Perm (Gi t))(O:(nW o.f f).D e)(C:I (f.j o.f) a e)(ab:I aC e P)(ho:fD P (G<|H e) 235 1 d (y l) (l.map cH.D))(r:l.map cH.dq=jp (kM<|gu m<|eL<|i::lL F b L N))(hn:sD P (G<|H e) l)(V:I aC P W)(hl:W.heap[n]?=M (aK #[aF,aF,aF,d] 108 (0,0))):∃qs,T8 K j4 a W c n o k f i F b L N T ad t d l qs:=by
 rw[BG hp]at r;have s:=az h;have v:yO (eL<|i::lL F b L N):=wz _ j.st.TK;have B:=(nU<|gu (Gi t)<|eL<|i::lL F b L N).trans<|oE (Gi t)<|eL<|i::lL F b L N;have:∀x∈eL (i::lL F b L N),x.Good:=λx a=>j.st.Hu x<|(ku _).mem_iff.1 a;have ac:sk 5 (kM<|gu (Gi t)<|eL<|i::lL F b L N):=((AC v).kD<|nU _).aT (by rw[qL];have:=j.f.dL;omega);have w:y (kM<|gu (Gi t)<|eL<|i::lL F b L N)<=T:=aR B.length_le<|(ku _).length_eq▸j.st.p;have aa:=pP r;have:=j.st.za;have E:=j.st.v;have D:I aC e W:=ab.t V;have g:I (f.j o.f) a W:=C.t D;have u:(nW o.f f).D W:=(nW o.f f).l O D cY;have x:sD W (G<|H e) l:=hn.aA V;have p:fD W (G<|H e) 235 1 d (y l) (l.map cH.D):=V.aZ ho<|λ_ _ q=>q;have S:=j.st.zbq (C':=T) s j.i U E;have A:=C.D;let⟨qs,Q⟩:=S.L2 g u (x.pO A) r ((zP v _).kD<|nU _) ac aI (fh p A) w;let⟨K',hd,e1,e2,e3⟩:=RO (j3:=c) (gh.bI j.st.f) u g;have hb:cU W c o k:=(g.A c s j.st.l).trans h;refine⟨qs,⟨Q,hl,hb,g⟩,⟨K',hd,e2.2,j.eQ s hd (by rw[e1]) (by rw[e2.1];grind) z⟩,⟨dQ p,λk hk=>(p.lt k hk).2,λal ht=>YI<|x.bZ al ht,?_⟩,?_⟩;have h1:=je Q.s3.p;rw[aa]at h1;omega;have:=vN l;have:=Q.FX;omega
def Qq{m b n p:dI}(j:ST a c o f i m b n p k)(e:Z)(t:ae)(s:I aC a e)(r:fD e (G<|H a) 221 1 t (y (qA (o.l0,m) (o.l1,b) (o.l2,n) (o.l3,p))+1) (zD o.L (o.l0,m) (o.l1,b) (o.l2,n) (o.l3,p))):cR bN 148 #[t,aw ⟨#[]⟩] e λA u=>∃w v,A=aN w/\kw (nW o.f f) (G<|H a) w (eL<|i::lL m b n p) v u/\(nW o.f f).D u/\I (nW o.f f).F e u/\(∀l,v l->G (H e)<=l):=by
 have hF:∀l,(nW o.f f).F l->l<G (H a):=j.f.lt;have d:kZ (nW o.f f) (G<|H a) aC a e:=s.bM (aq _) cY cY;have h:y (pG o i m b n p)=y (qA (o.l0,m) (o.l1,b) (o.l2,n) (o.l3,p))+1:=by have:=cD y<|AH o i m b n p;rw[cS]at this;rw[this];simp[zD]
 have:=j.A;have x:=DI (G<|H a) (pG o i m b n p) t ⟨#[]⟩ (by rw[AH,h];exact dQ r) (λl e=>⟨(r.lt l e).2,λq=>gV (hF l q)<|(r.lt l e).1⟩) (by simp only[pG,bK,ai,List.length_reverse,cS,eE];omega) (λi a=>(j.Mb _<|aB a).bM d) ((nW o.f f).l j.GR s cY) s.D hF;rwa[xD,qg (g:=id)<|λl _=>Pz l,we]at x
def CpZ(j:Prop)(i:cy af)(w d:Z)(c:R)(s:SR)(n:Y)(K:DK)(C N:R)(m:gI)(v:ae):Prop:=(v=ib/\∃l a k e f g h,Fg j i w d c s n K C N m l a k e f g h)\/∃a,MM w d c s n K a C v
def PY{m:cy af}{Q b N S:dI}(D:gI)(h:cU a c o r)(e:Inv K m a c o f i Q b N S k n D)(hN:n+1<=1000000000)(bn:qp f.fx):cR bN 97 #[aJ c] a λO x=>∃ad,O=aN ad/\CpZ K m a x c o r f k (n+1) D ad:=by
 let⟨mx,mc,ck⟩:=cG e.st.D;have cn:=Gt (o.l0,Q) (o.l1,b) (o.l2,N) (o.l3,S) h mx (y i) mc ck<|e.st.lvm h;have bh:=Qq e.st;have bd:yO (eL<|i::lL Q b N S):=wz _ e.st.TK;have cb:=e.st.p;have bq:=e.st.v;have aV:y (eL<|i::lL Q b N S)<=3000000000:=bP<|(ku<|i::lL Q b N S).length_eq;have bo:=az h;let⟨mb,q1,q2,q3⟩:=e.f.ex;have h4:=e.f.dL
 have cj:∀g,I (f.j o.f) a g->cR bN 95 #[aJ c] g λO x=>∃d,∃w:eD,O=aN d/\w.Perm (Gi D)/\fD x (G<|H g) 104 1 d (y w) (w.map<|Value.int .u64)/\I aC g x:=λg ht=>
  wx (b:=mb) D ((ht.A c bo e.st.l).trans h) q1 (q2.dU<|ht.A _ q2.lt q3.j) h4
 have bk:∀g A ad c(w:eD),I (f.j o.f) a g->I aC g A->w.Perm (Gi D)->fD g (G<|H a) 223 4 ad (y<|eL<|i::lL Q b N S) (bu<|eL<|i::lL Q b N S)->fD A (G<|H g) 104 1 c (y w) (w.map<|Value.int .u64)->cR bN 149 #[ad,c] A λO x=>∃j,∃d:dI,O=aN (ef #[aF,aF,aF,j])/\fD x (G<|H A) 235 1 j (y d) (d.map cH.D)/\d.map cH.dq=jp (kM<|gu w<|eL<|i::lL Q b N S)/\sD x (G<|H A) d/\I aC A x:=λg A ad c w t l hp ab L=>by have B:=l.aZ ab<|λ_ _ q=>q;exact VN w (dQ B) (dQ L) bd (λx a=>e.st.Hu x<|(ku _).mem_iff.1 a) aV (by have:=hp.length_eq;rw[qL]at this;omega) (λq hq=>(B.lt q hq).2) (λq hq=>(L.lt q hq).2) (Steps.aA e.st.t.o (t.t l) e.st.t.i.j)<|au e.st.t.i.lt (t.t l).D
 have bg:∀W u j d p,T8 K m a W c u o r f i Q b N S k n D j d p->cR bN 133 #[aJ c,ef #[aF,aF,aF,j],bw o.S] W λO x=>∃ad,O=aN ad/\CpZ K m a x c o r f k (n+1) D ad:=λW u j d p F=>by refine(Gj u k o.S W _ _ _ _ [] [] [] d p F.sv h e.st e.bt e.nx e.lg (gV e.l e.v) bn).mono ?_;rintro O x(⟨rfl,P,dz,a',b',c',d',V⟩|⟨ad,P,rfl,hs⟩);exact⟨_,z,J ⟨z,_,P,[],a',b',c',d',⟨V.g,V.A e.o e.st.f e.bt ⟨bP e.S.1,e.S.2⟩ hN e.B e.f e.A e.n e.pF,V.eQ,⟨z,z,z,z,z,z⟩⟩⟩⟩;exact⟨ad,z,bj ⟨P,hs⟩⟩
 have ao:∀W u j d p,AF [Q,b,N,S] [[],[],[],d] 4->T8 K m a W c u o r f i Q b N S k n D j d p->cR bN 62 #[aJ c] W λO x=>∃ad,O=aN ad/\CpZ K m a x c o r f k (n+1) D ad:=λW u j d p bc F=>by let⟨K1,aa,V,C⟩:=F.qN;go_call C.D F.sv.g (J<|aa.fx.D bn)as O x(⟨rfl,P,hd,hb,hI,ho⟩|⟨ad,P,rfl,hs,_,br,hp,ho⟩);exact⟨_,z,J ⟨z,_,P,i,Q,b,N,S,⟨hb,hI.aT (aq _) bq U hN,aa.aj hd,⟨z,z,z,z,z,z⟩⟩⟩⟩;exact⟨_,z,bj ⟨P,aa.aj hs.eQ,hs.g,hs.f,br,ho.pa V,KU hp⟩⟩
 have bf:∀W u j d p,T8 K m a W c u o r f i Q b N S k n D j d p->cR bN 150 #[ee<|M<|X c 10,aJ u] W λO x=>∃cx,O=aN (aO cx)/\(cx=cz->AF [Q,b,N,S] [[],[],[],d] 4)/\I aC W x:=λW u j d p F=>by have:=e.st.A;have:=e.st.za;refine MH W c u o.l0 o.l1 o.l2 o.l3 aF aF aF j Q b N S [] [] [] d (λm hX=>?_) ⟨bP<|vN Q,bP<|vN b,bP<|vN N,bP<|vN S,by simp[lT],by simp[lT],by simp[lT],bP F.MY⟩;have V:=F.aA hX;let⟨K1,aa,_,C⟩:=V.qN;have hb:=V.sv.g;have hl:=V.sv.lb;exact⟨⟨hb.u z,hb.u z,hb.u z,hb.u z⟩,⟨by rw[cE hl];rfl,by rw[cE hl];rfl,by rw[cE hl];rfl,by rw[cE hl];rfl⟩,⟨C.st.l0.D U,C.st.l1.D U,C.st.l2.D U,C.st.l3.D U⟩,⟨Hi _,Hi _,Hi _,V.f⟩⟩
 have ac:=ak<|λ(g A v W:Z)(u:R)(j:ae)(d:dI)(w:eD)(hp:w.Perm (Gi D))(E:(nW o.f f).D g)(t:I (f.j o.f) a g)(l:I aC g A)(av:I aC A v)(ho:fD v (G<|H A) 235 1 j (y d) (d.map cH.D))(an:d.map cH.dq=jp (kM<|gu w<|eL<|i::lL Q b N S))(c:sD v (G<|H A) d)(hW:I aC v W)(hl:W.heap[u]?=M (aK #[aF,aF,aF,j] 108 (0,0)))=>zaa (k:=r) h e hp E t (l.t av) (fh ho l.D) an (c.pO l.D) hW hl;have ax:=ak (show∀g q3,(nW o.f f).Xp->tB g q3->(nW o.f f).D g->I (f.j o.f) a g->CpZ K m a g c o r f k (n+1) D (eW q3)fromλg q3 hX hq hD ht=>by let⟨P,hd,e1,V,e3⟩:=RO (j3:=c) (gh.bI e.st.f) hD ht;exact bj ⟨P,hd,⟨o,(ht.A c bo e.st.l).trans h,z,z⟩,⟨q3,z,hq⟩,Xr.YH V.2⟩);have aD:=ak (show∀W u j d p,T8 K m a W c u o r f i Q b N S k n D j d p->bA W (X c 8)=M (ay o.o)/\bA W (X c 9)=M (bw o.S)/\W.heap[u]?=M (aK #[aF,aF,aF,j] 108 (0,0))fromλW u j d p F=>⟨F.sv.g.u z,F.sv.g.u z,F.sv.lb⟩);let⟨ML,ba⟩:∃ML,eL (i::lL Q b N S)=ML:=⟨_,rfl⟩;rw[ba]at bh bk ac aV;go_in
 go_wp21;go_call cn as O w1⟨v1,rfl,bl,ap⟩;have hf:=bh w1 v1 ap bl;let⟨y1,e1,cr⟩:=aM bl;subst cr;go_wp21;apply hf.mono;rintro O w2⟨v2,S2,rfl,cc,bs,bp,bb⟩;have:=ap.D;have:=bp.D;have bT:=EQ cc bs U;have aU:=ak<|(ap.aT (T:=f.j o.f) cY).aj bp<|λ_ q=>J q;go_wp2_with fail
 apply bT.mono;rintro O g(⟨j,rfl,ab,E,t⟩|⟨bL,q3,rfl,cm,E,t⟩);rotate_left;(.have s:I (f.j o.f) a g:=aU.aj t<|λq hq=>hq.elim (λcB=>bj<|bP<|bb q cB) J;have V:=ak<|ax g q3 bL cm E s;go_wp2;go_ret;exact⟨_,z,V⟩);have s:I (f.j o.f) a g:=aU.aj t<|λq hq=>hq.elim (λcB=>bj<|bP<|bb q cB) J;have B:fD g (G<|H a) 223 4 j (y ML) (bu ML):=fh ab U;obtain⟨y3,e3,cs⟩:=aM ab;subst cs;have ch:=cj g s;go_wp2_with fail
 apply ch.mono;rintro O A⟨v4,w,rfl,hp,L,l⟩;have cd:=bk g A _ v4 w s l hp B L;obtain⟨y4,e4,cu⟩:=aM L;subst cu;go_wp2_with fail
 apply cd.mono;rintro O v⟨v5,d,rfl,bm,an,cl,av⟩;obtain⟨y5,e5,cv⟩:=aM bm;subst cv;let⟨W,hW⟩:∃W,dw v (aK #[aF,aF,aF,am y5 (y d) e5] 108)=W:=⟨_,rfl⟩;have bE:W.heap[G<|H v]?=M (aK #[aF,aF,aF,am y5 (y d) e5] 108 (0,0)):=hW▸aQ _ z;have cp:I aC v W:=hW▸(cI aC v);let⟨p,hC⟩:=ac g A v W (G<|H v) _ d w hp E s l av bm an cl cp bE;let⟨b8,b9,ce⟩:=aD W _ _ d p hC;by_cases cM:o.o=0;(case' pos=>have ca:decide ((o.o:Y)=0)=cz:=uU U;go_wp21;go_call bf W _ _ d p hC as O W8⟨cx,rfl,bc,co⟩;have V:=hC.aA co;let⟨c8,c9,bi⟩:=aD W8 _ _ d p V;have al:=ak V;cases cx;rotate_left;go_wp21;go_call ao W8 _ _ d p (bc trivial) al as O w9⟨v9,rfl,hP⟩;have br:=ak hP;go_wp2;go_ret;exact⟨_,z,br⟩);(case' neg=>have ca:decide ((o.o:Y)=0)=bD:=aI;obtain⟨W8,rfl⟩:∃W8,W8=W:=⟨_,rfl⟩;have al:=hC;have bi:=ce;have c9:=b9);(all_goals go_wp21;rename_i QQ KK bx;have hS:W8.drew.heap[G<|H v]?=M (aK #[aF,aF,aF,am y5 (y d) e5] 108 (0,0))/\bA W8.drew (X c 9)=M (bw o.S):=⟨bi,c9⟩;refine kF (λm=>m.heap[G<|H v]?=M (aK #[aF,aF,aF,am y5 (y d) e5] 108 (0,0))/\bA m (X c 9)=M (bw o.S)) 6 z ?_;refine lW 0 ?_;(iterate 6 (refine QO (v:=?_) hS z aH wO z ?_ ?_;rotate_left;(focus(rintro m⟨z0,z1⟩;have x0:bA m (X (G<|H v) 0)=M aF:=(by rw[cE z0];rfl);have x1:bA m (X (G<|H v) 1)=M aF:=(by rw[cE z0];rfl);have x2:bA m (X (G<|H v) 2)=M aF:=(by rw[cE z0];rfl);have x3:bA m (X (G<|H v) 3)=M (am y5 (y d) e5):=(by rw[cE z0];rfl);go_simp;try rfl));simp only[ig,eh,fT,jZ]));apply qi;refine gN 6 ?_;intro K6 bt;go_simp;go_call bg _ _ _ d p (al.aA<|cf aC _)as O w9⟨v9,rfl,hP⟩;refine bt _ _ (λN=>U) ?_;refine gN 7 ?_;intro K7 bv;go_simp;refine bv _ _ (λN=>U) ?_;refine kR z ?_ _;show KK _ _;apply bx;go_wp2;go_ret;exact⟨_,z,hP⟩)
section
open Conc.Locks
def Bj{j4:cy af}(sn:gI)(h:cU a b o 0)(D:Inv K j4 a b o f i l v C F c k sn)(x:o.d=bD)(hN:k+1<=1000000000)(hE:∀aV,I (λba=>f.j o.f ba\/ba=b) a aV->jO aV)(ax:qp f.fx):cR bN 44 #[aJ b] a λE r=>(E=aN ib/\∃t e m' O P Q S,Fg K j4 a r b o 0 f c (k+1) sn t e m' O P Q S)\/WrF a r b o f c E:=by
 have aa:=az h;have c0:=cU.bW h 0 z;have f0:iH a (X b 0)=bD:=h.bS;have j:=lP D.st.f D.st.l 1;have s:=h.jg 1;have p:=D.eQ (s':=o) aa j z (aq _) z;generalize hW:cP a (X b 0) (iC 1)=L at j s p;have n:=mX s;rw[x]at n;have ab:cR bN 49 #[aJ b] L λE r=>E=aN ib/\gC (G<|H L) L r:=n;have V:∀N,I aC L N->cR bN 97 #[aJ b] N λE r=>∃ao,E=aN ao/\CpZ K j4 a r b o 1 f c (k+1) sn ao:=λN B=>by have A:gh L N o.f b f f:=⟨p.st.f.aA B<|λ_ _=>id,B.aT cY,λ_ q=>J q,Fx.bI _⟩;have ad:=p.eQ (s':=o) (az s) A z (aq _) z;have al:cU N b o 1:=(B.A b (az s) id).trans s;go_call PY sn al ad hN ax as E r⟨ao,rfl,hz⟩;refine⟨ao,z,?_⟩;obtain⟨rfl,t,e,m',O,P,Q,S,u⟩|⟨e,hs⟩:=hz;exact J ⟨z,t,e,m',O,P,Q,S,⟨u.g,u.A,(j.aj A).aj u.eQ,u.bM⟩⟩;exact bj ⟨e,⟨(j.aj A).aj hs.eQ,hs.g,hs.f,hs.lM⟩⟩
 have W:=λw3 w4 e q q1 C(d:gh a w3 o.f b f e)m hq hf j g s=>MM.Hx (w:=a) (w3:=w3) (w4:=w4) (j3:=b) (q:=q) (q1:=q1) (s:=o) (K:=f) (K':=e) (c:=C) (N:=c) D.st.l aa x d m hq hf j g s;let⟨ac,HW,an,HE,ap⟩:=nZ V hW W hE D.st.l;clear h D j s p x hW V n W hE;go_enter_defers func44,ntmps44
 go_wp21;go_call mZ (X b 0) _ c0 f0 as E r⟨rfl,aD⟩;rw[ag HW]at aD;subst r;go_wp21;go_call ab as E Wr⟨rfl,T⟩;have hd:=ac Wr<|I.p T;clear T ab;go_wp21;go_call hd as E w3⟨v3,rfl,aU⟩;obtain⟨rfl,t,e,m',O,P,Q,S,u⟩|⟨e,d⟩:=aU;(.have m:=JZ u.g;clear hd;go_wp21;go_call m as E w4⟨rfl,g⟩;let⟨d0,g0,w⟩:=u.Hx g;clear g m;go_wp2;exact fC d0 g0 ⟨_,gG z _ _ _,J ⟨z,t,e,m',O,P,Q,S,w⟩⟩);obtain⟨q,rfl,cc,hq,hf⟩:=d.f;let⟨t,A,e1,e2⟩:=d.g;have N:¬e.j o.f b:=λg=>(d.eQ.j b g).elim ap<|λg=>U;have m:=Ke A hq<|HE _ (d.eQ.gq N 6<|eW q).aA;let⟨ad,HQ,al,av,ao⟩:=nZ d.eQ hq hf d.g d.lM;clear d hq hf A e1 e2 N hd;go_wp21;go_call m as E w4⟨q1,rfl,B,g⟩;obtain⟨d0,g0,w⟩:=an w3 w4 e q q1 cc ad av HQ al ao g B;clear g B m;go_wp2;refine fC d0 g0 ?_;refine⟨_,gG z _ _ _,?_⟩;exact bj ⟨eW q1,e,z,w⟩
end
def Aside.D{W W':Z}{K:DK}{db j3 k:R}(h:Aside W K db j3 k)(e:G (H W)<=G (H W')):Aside W' K db j3 k:=⟨au h.lt e,h.j,h.ne⟩
def QJ(W:Z)(x:R):Prop:=∃e t i,W.heap[x]?=M (aK e t i)/\(t≠323/\t≠157)/\((∀u,Value.string u∉e.toList)\/∀k n,Value.int k n∉e.toList)/\∀q,Value.pointer (M<|X q 0)∈e.toList->∃f h g,W.heap[q]?=M (aK f h g)/\h≠323
def QJ.lt{W:Z}{x:R}(h:QJ W x):x<G (H W):=by
 let⟨_,_,_,e,_⟩:=h;exact az e
def Jq{S:fB}{w q:Z}{e ac:R}{v:ae}{g:iE}(O:I S w q)(E:Row w e v ac g)(D:∀ab,cN v=M ab->ab<G (H w))(l:0<y g->∀al,S al->∃j ad n,w.heap[al]?=M (aK j ad n)/\∃(Q:R)(u:ae),g[Q]?=M u/\u∉j.toList):Row q e v ac g:=by
 obtain⟨p,⟨h,T⟩|⟨r,f,i,h,k,o⟩⟩:=E;exact⟨p,J ⟨h,T⟩⟩;refine⟨p,bj ⟨r,f,i,h,k,λaa u A=>?_⟩⟩;(have t:¬S r:=by intro L;(have B:aa<y g:=by grind);let⟨j,ad,n,P,Q,V,x,hu⟩:=l U r L;have:=o Q V x;rw[cE P]at this;grind);exact O.u (o aa u A) t<|D r (by rw[h];rfl)
def Wy{m:dB}{f:Array ae}(e:(∀u,Value.string u∉f.toList)\/∀k n,Value.int k n∉f.toList)(g:0<y (bu m)):∃(i:R)(u:ae),(bu m)[i]?=M u/\u∉f.toList:=by
 obtain _|⟨h,m⟩:=m;simp[bu]at g;obtain e|e:=e;exact⟨0,aw h.D,by simp[bu,E.bU],e _⟩;exact⟨3,bw h.f,by simp[bu,E.bU],e _ _⟩
def Vo{ts:dI}{e:Array ae}(g:∀t∈ts,t.D∉e.toList)(f:0<y (ts.map cH.D)):∃(i:R)(u:ae),(ts.map cH.D)[i]?=M u/\u∉e.toList:=by
 obtain _|⟨t,ts⟩:=ts;simp at f;exact⟨0,t.D,ar,g t ar⟩
def QV{S:fB}{Q E:Z}{r:R}{x:ae}{f n g t:Y}{l j e:R}{o:ae}{i:la}(h:mQ Q r x f n g t l j e o i)(D:I S Q E)(B:∀T,S T->QJ Q T):mQ E r x f n g t l j e o i:=by
 have p:¬S r:=λk=>by let⟨L,aa,O,w,P,_⟩:=B r k;exact lj h.g w (λi=>P.1 i.symm) z
 have u:=h.ne;have A:(fK i)[3]?=M (aw (i[0]'u).eJ):=by obtain _|⟨V,i⟩:=i;simp at u;simp[fK,pS.bU]
 have q:¬S l:=λk=>by let⟨L,aa,O,w,_,k,_⟩:=B l k;(have P:(fK i)[0]?=M (ay (i[0]'u).p):=by obtain _|⟨V,i⟩:=i;simp at u;simp[fK,pS.bU]);obtain k|k:=k;(have:=h.bU 3 _ A;rw[cE w]at this;grind);have:=h.bU 0 _ P;rw[cE w]at this;grind
 exact h.dU (D.A r (az h.g) p)<|D.A l (cA _ _<|h.bU 3 _ A) q
section
variable{W W':Z}{j5:Prop}{j4:cy af}{db j3:R}{s:SR}{K:DK}{m:dB}{a b c d:dI}{C N:R}{S F:fB}{v:ae}{ts:dI}{sn:gI}
def Ep.mB{q:Fs}(h:Ep q W K db j3 v ts)(i:I S W W')(r:∀x,S x->QJ W x):Ep q W' K db j3 v ts where
 bV:=Jq i h.bV (λP j=>(h.l P j).lt) (λB x L=>by
  let⟨t,Q,w,O,_,_,D⟩:=r x L;exact⟨t,Q,w,O,Vo (λo g c=>by
   let⟨p,f,e,k,_⟩:=(h.bZ o g).D;let⟨u,T,A,E,n⟩:=D _ c;exact lj k.g E (λe=>n e.symm) z) B⟩)
 l:=λP j=>(h.l P j).D i.D
 bZ:=λo g=>by
  let⟨⟨p,f,e,k,n⟩,t,u,w,A⟩:=h.bZ o g;exact⟨⟨p,f,e,QV k i r,n.D i.D⟩,t.D i.D,u,w,A⟩
def Inv.mB(h:Inv j5 j4 W j3 s K m a b c d C N sn)(e:I S W W')(u:∀x,S x->Aside W K s.f j3 x)(g:∀x,S x->QJ W x)(o:¬S 1/\¬S 2):Inv j5 j4 W' j3 s K m a b c d C N sn:={h with
 st:={h.st with
  D:=Jq e h.st.D (λk i=>(h.st.L k i).lt) (λq x r=>by
   let⟨l,A,n,j,_,i,_⟩:=g x r;exact⟨l,A,n,j,Wy i q⟩)
  L:=λk i=>(h.st.L k i).D e.D
  l0:=h.st.l0.mB e g
  l1:=h.st.l1.mB e g
  l2:=h.st.l2.mB e g
  l3:=h.st.l3.mB e g
  f:=h.st.f.aA e<|λk c p=>(u k p).j c
  t:=⟨Steps.aA h.st.t.o e o.1,h.st.t.x.aA e o.2,h.st.t.i.D e.D,h.st.t.n.D e.D⟩}
 f:=by
  let⟨b,q,k,r⟩:=h.f.ex;refine⟨⟨b,q,k.dU (e.A b k.lt (λp=>?_)),r.D e.D⟩,h.f.dL⟩;let⟨l,A,n,j,_⟩:=g b p;let⟨B,i,w,_⟩:=k;rw[w]at j;cases j}
def Bb(s:SR)(K:DK)(j3:R):fB:=λk=>(K.j s.f k\/k=j3)\/s.n=M k
def Ba(j5:Prop)(j4:cy af)(W:Z)(db j3 C N:R)(F:fB):Prop:=(∃s K m a b c d sn,F=Bb s K j3/\s.f=db/\s.d=bD/\qp K.fx/\cU W j3 s 0/\Inv j5 j4 W j3 s K m a b c d C N sn)\/∃s f,F=(λk=>k=j3)/\zc W j3 s 0 f
def rC.mB{q:R}{c:Y}(h:rC W q c)(k:I S W W')(i:∀x,S x->QJ W x):rC W' q c:=by
 refine h.aA k<|λm9=>?_;let⟨f,j,_⟩:=h;let⟨l,t,n,e,⟨_,g⟩,_⟩:=i q m9;rw[j]at e;cases e;exact g z
def Ba.mB(h:Ba j5 j4 W db j3 C N F)(e:I S W W')(hF:∀x,S x->¬F x)(g:∀x,S x->QJ W x)(o:¬S 1/\¬S 2):Ba j5 j4 W' db j3 C N F:=by
 obtain⟨s,K,m,a,b,c,d,sn,rfl,i,f,k,l,n⟩|⟨s,j,rfl,f⟩:=h;refine J ⟨s,K,m,a,b,c,d,sn,z,i,f,k,l.aA e<|λm9=>hF j3 m9<|J<|bj z,n.mB e (λx j=>⟨(g x j).lt,λm9=>hF x j<|J<|J m9,λm9=>hF x j<|J<|bj m9⟩) g o⟩;exact bj ⟨s,j,z,f.A e (λm9=>hF j3 m9 z)<|λq c i=>i.mB e g⟩
def FO(j5:Prop)(j4:cy af)(W W':Z)(db j3 C N:R)(F:fB):Prop:=∃e,Ba j5 j4 W' db j3 C N e/\I F W W'/\∀k,e k->F k\/G (H W)<=k
def Tu.Aq{f u:ae}(h:Tu W W' j3 s f u)(hF:F j3):FO j5 j4 W W' db j3 C N F:=⟨_,bj ⟨s,f,z,h.G8⟩,h.aA.aT<|λk e=>J (by rw[show k=j3 from e];exact hF),λk e=>J (by rw[show k=j3 from e];exact hF)⟩
def Q1.ev(h:Q1 W v):ub W v:=by
 obtain e|⟨q,e,f⟩:=h.2;exact bj<|J ⟨6,cg,cg,e⟩;exact bj<|bj ⟨q,e,f⟩
def gh.Aq(j:s.f=db){e:SR}{h:DK}{t:dB}{o p q r:dI}{g:gI}{l n:R}(i:gh W W' s.f j3 K h)(A:qp K.fx)(w:cU W' j3 e 0)(x:e.d=bD)(u:Inv j5 j4 W' j3 e h t o p q r l n g)(k:e.f=s.f/\e.n=s.n):FO j5 j4 W W' db j3 l n (Bb s K j3):=by
 refine⟨_,J ⟨e,h,t,o,p,q,r,g,z,k.1.trans j,x,i.fx.D A,w,u⟩,i.aA.aT<|λB f=>J<|J f,λB f=>?_⟩;unfold Bb at f|-;rw[k.1,k.2]at f;obtain(f|f)|f:=f;exact(i.j B f).imp (λm9=>J<|J m9) id;exact J<|J<|bj f;exact J<|bj f
def Xn.Aq(e:s.f=db)(h:Xn j5 j4 W W' j3 s K m a b c d C N sn)(k:qp K.fx)(i:s.d=bD):FO j5 j4 W W' db j3 C N (Bb s K j3):=by
 let⟨l,j,_,g,f⟩:=h;exact gh.Aq e j k g i f ⟨z,z⟩
def QB.Aq{g:DK}{u:ae}{o f i:R}(h:QB W W' j3 s K g o u):ub W' u/\FO j5 j4 W W' db j3 f i (Bb s K j3):=by
 obtain⟨r,p,q,c,rfl,k,l,n,j,t,e⟩:=h.ex;exact⟨bj<|bj ⟨q,z,c,k,e⟩,_,bj ⟨r,eW p,z,l.G8 n e⟩,h.eQ.aA.aT<|λt j=>J<|J j,λt j=>J<|J<|bj j⟩
def Ba.j(h:Ba j5 j4 W db j3 C N F):F j3:=by
 obtain⟨s,K,m,a,b,c,d,sn,rfl,_⟩|⟨s,f,rfl,_⟩:=h;exact J<|bj z;rfl
def E4(e:af)(h:Ba j5 j4 W db j3 C N F)(r:jO W)(k:j3≠0)(u:e.size<=140737488351232):cR bN 17 #[aJ j3,aw e] W λn g=>∃x i v,n=aN (de #[aw x,aO i,v])/\ub g v/\FO j5 j4 W g db j3 C N F:=by
 obtain⟨s,K,m,a,b,c,d,sn,rfl,j,f,o,p,q⟩|⟨s,w,rfl,f⟩:=h;(.go_call Pw e p q f u as n g⟨x,i,v,rfl,t,l⟩;exact⟨x,i,v,z,t,Xn.Aq j l o f⟩);go_call M3 e f r k as n g⟨v,rfl,l⟩;exact⟨_,_,v,z,l.ev.ev,l.Aq z⟩
def XP(o l:af)(e:Y)(h:Ba j5 j4 W db j3 C N F)(x:jO W)(n:j3≠0):cR bN 59 #[aJ j3,aw o,aw l,ay e] W λq f=>∃v,∃p:kV,∃g,q=aN (de #[v,g])/\uP W f v p/\y p<=40000000000/\ub f g/\FO j5 j4 W f db j3 C N F:=by
 obtain⟨s,K,m,a,b,c,d,sn,rfl,j,i,r,t,u⟩|⟨s,D,rfl,i⟩:=h;(.go_call Jo o l e t u i as q f⟨v,p,g,rfl,k,A,B,w⟩;exact⟨v,p,g,z,k,A,B,Xn.Aq j w r i⟩);go_call Yh o l e i x n as q f⟨v,rfl,k⟩;exact⟨aF,[],v,z,uP.kj _ _,ar,k.ev.ev,k.Aq z⟩
def UG(w:Y)(e:af)(h:Ba j5 j4 W db j3 C N F)(r:jO W)(k:j3≠0)(u:e.size<=140737488351232):cR bN 88 #[aJ j3,ay w,aw e] W λp g=>∃x i v,p=aN (de #[aw x,aO i,v])/\ub g v/\FO j5 j4 W g db j3 C N F:=by
 obtain⟨s,K,m,a,b,c,d,sn,rfl,j,f,q,l,n⟩|⟨s,A,rfl,f⟩:=h;(.go_call ZC w e l n f u as p g⟨x,i,v,rfl,t,o⟩;exact⟨x,i,v,z,t,Xn.Aq j (o.J8 n<|az l) q f⟩);go_call Wi w e f r k as p g⟨v,rfl,o⟩;exact⟨_,_,v,z,o.ev.ev,o.Aq z⟩
def QY(D:Y)(o l:af)(e:Y)(h:Ba j5 j4 W db j3 C N F)(x:jO W)(n:j3≠0):cR bN 90 #[aJ j3,ay D,aw o,aw l,ay e] W λt f=>∃v,∃r:kV,∃g,t=aN (de #[v,g])/\uP W f v r/\y r<=40000000000/\ub f g/\FO j5 j4 W f db j3 C N F:=by
 obtain⟨s,K,m,a,b,c,d,sn,rfl,j,i,u,p,q⟩|⟨s,E,rfl,i⟩:=h;(.go_call Va D o l e p q i as t f⟨v,r,g,rfl,k,A,B,w⟩;exact⟨v,r,g,z,k,A,B,Xn.Aq j (w.J8 q<|az p) u i⟩);go_call Ru D o l e i x n as t f⟨v,rfl,k⟩;exact⟨aF,[],v,z,uP.kj _ _,ar,k.ev.ev,k.Aq z⟩
def Ns(h:Ba j5 j4 W db j3 C N F)(t:N+1<=1000000000)(n:jO W)(k:j3≠0)(j:¬F 0):cR bN 44 #[aJ j3] W λp g=>∃v,p=aN v/\ub g v/\FO j5 j4 W g db j3 C (N+1) F:=by
 obtain⟨s,K,m,a,b,c,d,sn,rfl,i,e,l,q,r⟩|⟨s,P,rfl,e⟩:=h;(.go_call Bj sn q r e t (λV i=>n.aA i<|λm9=>j<|J m9) l as p g(⟨rfl,O,o,L,A,B,D,E,f⟩|⟨v,o,rfl,hF⟩);let⟨u,w,_,_,_,x⟩:=f.bM;exact⟨_,z,J z,gh.Aq i f.eQ l f.g (w.trans e) f.A ⟨u,x⟩⟩;exact⟨v,z,hF.Aq⟩);go_call Mx e n k as p g⟨v,rfl,f⟩;exact⟨v,z,f.ev.ev,f.Aq z⟩
end
section
variable{W W':Z}{j5:Prop}{j4:cy af}{db j3 C N:R}{F:fB}
def FO.aT{a N':R}(h:FO j5 j4 W W' db j3 C N F)(r:C<=a)(c:a<=3000000000)(s:N<=N')(d:N'<=1000000000):FO j5 j4 W W' db j3 a N' F:=by
 let⟨F',n,o,p⟩:=h;refine⟨F',?_,o,p⟩;obtain⟨D,K,B,u,b,v,x,t,A,e,g,j,k,m⟩|q:=n;exact J ⟨D,K,B,u,b,v,x,t,A,e,g,j,k,m.aT r c s d⟩;exact bj q
def Bk:∀a:vW,0<=ml a/\ml a<=100
 |[]=>by simp[ml]
 |c::r=>by
  have:=Bk r;unfold ml;grind
def Dg(a:vW):0<=gS a/\gS a<=100:=by
 have:=Bk a;unfold gS;grind
def Jk{f:ae}{cs:vW}(a:eN)(h:Ba j5 j4 W db j3 C N F)(t:∀V,I (λQ=>Q=j3) W V->FN V f cs)(w:∀E∈cs,E.D.size<=140737488351232/\E.l.size<=140737488351232)(d:y cs<=1000000000)(s:C+8<=3000000000)(l:N+1<=1000000000)(m:jO W)(j:j3≠0)(i:¬F 0):cR bN 15 #[aJ j3,f,aO a] W λo e=>∃v,o=aN v/\ub e v/\FO j5 j4 W e db j3 (C+8) (N+1) F:=by
 obtain⟨T,aa,ao,ab,ac,ad,al,D,rfl,g,b,k,p,r⟩|⟨T,an,rfl,b⟩:=h;(·(have u:vK cs<=8:=by unfold vK;split;rename_i q;exact(rB q).1;omega);go_call Bp D a p r b t w d U l (λV f=>m.aA f<|λm9=>i<|J m9) (J k)as o e(⟨rfl,s',n,S,K,L,O,P,c,_⟩|⟨_,⟨v,n,rfl,hF⟩,_⟩);let⟨x,A,_,_,_,B⟩:=c.bM;refine⟨_,z,?_,(gh.Aq g c.eQ k c.g (A.trans b) c.A ⟨x,B⟩).aT U s (aq _) l⟩;have:=Dg cs;by_cases q:gS cs=0;rw[q];exact J z;exact bj<|J ⟨gS cs,U,this.2,z⟩;exact⟨v,z,hF.Aq⟩);go_call Ut f a b m j as o e⟨v,rfl,d⟩;exact⟨v,z,d.ev.ev,d.Aq z⟩
def OV{s:SR}(b:s.f=db){K:DK}{a:SR}{r:dB}{n o p q:dI}{e:gI}{d:R}(l:s.n=M d)(m:I (λk=>(K.j s.f k\/k=j3)\/k=d) W W')(j:qp K.fx)(h:cU W' j3 a 0)(i:a.d=bD)(g:Inv j5 j4 W' j3 a K r n o p q C N e)(c:a.f=s.f/\a.n=s.n):FO j5 j4 W W' db j3 C N (Bb s K j3):=by
 refine⟨_,J ⟨a,K,r,n,o,p,q,e,z,c.1.trans b,i,j,h,g⟩,m.aT (λk f=>J<|f.imp id<|λm9=>by rw[l,m9]),λk f=>J ?_⟩;unfold Bb at f|-;rwa[c.1,c.2]at f
def KJ(h:Ba j5 j4 W db j3 C N F)(j:N+1<=1000000000)(o:jO W)(f:j3≠0):cR bN 40 #[aJ j3] W λl d=>∃s v,l=aN (de #[ay s,v])/\ub d v/\FO j5 j4 W d db j3 C (N+1) F:=by
 obtain⟨t,K,D,u,w,x,A,g,rfl,c,a,i,e,b⟩|⟨t,B,rfl,a⟩:=h;(.let⟨r,k,_⟩:=b.f.ex;by_cases q:y g<4;(.go_call IF g r e b a q j k as l d⟨rfl,n,m,p⟩;exact⟨_,_,z,J z,OV c k p i n a m ⟨z,z⟩⟩);go_call IG g e b.st b.f a U as l d⟨rfl,m⟩;exact⟨_,_,z,bj<|J ⟨2,cg,cg,z⟩,((Xn.Aq c (m.J8 b<|az e) i a)).aT (aq _) b.st.v U j⟩);go_call KS a o f as l d⟨v,rfl,k⟩;exact⟨_,v,z,k.ev.ev,k.Aq z⟩
def Nr(n:Y)(h:Ba j5 j4 W db j3 C N F)(o:jO W)(f:j3≠0):cR bN 42 #[aJ j3,ay n] W λk d=>∃v,k=aN v/\ub d v/\FO j5 j4 W d db j3 C N F:=by
 obtain⟨u,K,E,w,x,A,B,g,rfl,c,a,i,e,b⟩|⟨u,D,rfl,a⟩:=h
 .let⟨r,j,_⟩:=b.f.ex;cases q:yZ g n with
  |some s=>
   go_call Le g n r s e b a q j as k d⟨rfl,t,m,l,p⟩;exact⟨_,z,J z,OV c j p i m a l ⟨z,z⟩⟩
  |none=>
   go_call Lf g n e b.st b.f a q as k d⟨rfl,l⟩;exact⟨_,z,bj<|J ⟨5,cg,cg,z⟩,(Xn.Aq c (l.J8 b<|az e) i a)⟩
 go_call Ob n a o f as k d⟨v,rfl,j⟩;exact⟨v,z,j.ev.ev,j.Aq z⟩
def UE(h:Ba j5 j4 W db j3 C N F)(n:jO W)(e:j3≠0):cR bN 33 #[aJ j3] W λk a=>∃v b,k=aN (de #[v,b])/\ub a b/\((b=ib/\∃g,P6 W a g v/\y g=4)\/(v=aF/\∃t x,b=.iface t x))/\FO j5 j4 W a db j3 C N F:=by
 obtain⟨s,K,A,p,q,r,u,o,rfl,d,c,l,i,j⟩|⟨s,w,rfl,c⟩:=h;(.go_call Rq i j.st c as k a⟨v,rfl,f,m⟩;exact⟨v,_,z,J z,J ⟨z,_,f,z⟩,(Xn.Aq d (m.J8 j<|az i) l c)⟩);go_call UY c n e as k a⟨v,rfl,f⟩;exact⟨_,v,z,f.ev.ev,bj ⟨z,f.ev.1⟩,f.Aq z⟩
def UH(h:Ba j5 j4 W db j3 C N F):cR bN 21 #[aJ j3] W λe d=>∃v,e=aN v/\ub d v/\FO j5 j4 W d db j3 C N F:=by
 obtain⟨u,K,E,A,B,g,D,w,rfl,m,f,i,j,a⟩|⟨u,r,rfl,f⟩:=h;(have b:∀{v:ae}{a n:R}{d:iE},Row W a v n d->∃x n g,v=am x n g:=λc=>by let⟨x,g,e⟩:=cG c;exact⟨x,_,g,e⟩);refine(Kn j f (b a.st.D) (b a.st.l0.bV) (b a.st.l1.bV) (b a.st.l2.bV) (b a.st.l3.bV) a.st.f a.st.l a.st.t.x (λe=>a.st.t.n.ne e.symm) a.lg (λ_ _=>i)<|gV a.l a.v).mono ?_;rintro e d⟨v,p,s,t,rfl,c,k,_⟩;refine⟨v,z,?_,_,bj ⟨_,_,z,k.G8 z⟩,c.D.aA.aT<|λo e=>J<|J e,λo e=>J<|J<|bj e⟩;obtain⟨rfl,_⟩|⟨_,q,g,_,_,rfl,n,l⟩:=c.d;exact J z;exact bj<|bj ⟨q,z,g,n,l.pI⟩;go_call WK f as e d⟨v,rfl,k,⟨l,b⟩,c⟩;exact⟨v,z,k.ev,_,bj ⟨l,r,z,b⟩,c.aT<|λo e=>J e,λo e=>J e⟩
end
def IM(w:Z)(j3:R)(d c:af)(a:Y)(g:a<=0):cR bN 87 #[aJ j3,aw d,aw c,ay a] w λf e=>f=aN aF/\I aC w e:=by
 have b:I aC w (dw (dw w<|aK #[ay a] 3)<|aK #[aF] 55):=(cI aC w).aE _;go_in
 go_wp2;go_ret;exact⟨z,b⟩
section
variable{W:Z}{j5:Prop}{j4:cy af}{db j3 C N:R}{F:fB}
def T1(W b:Z)(j3:R)(s:SR)(K:DK)(c:kV):Prop:=y c<=40000000000/\∃a,gh W b s.f j3 K a/\a.ah=K.ah/\a.l=K.l/\(∀k,a.j s.f k->K.j s.f k)/\cU b j3 s 0
def T1.aA{w' a:Z}{s:SR}{K:DK}{m:kV}{S:fB}(h:T1 W w' j3 s K m)(j:I S w' a)(g:∀k,S k->k=j3\/G (H W)<=k)(u:cU a j3 s 0)(e:∀k,K.j s.f k->k<G (H W))(v:¬K.j s.f j3):T1 W a j3 s K m:=by
 let⟨p,n,c,r,t,d,x⟩:=h;refine⟨p,n,⟨c.ok.aA j<|λk q o=>?_,c.aA.aj j<|λk o=>(g k o).elim (λm9=>J<|bj m9) bj,c.j,c.fx⟩,r,t,d,u⟩;obtain m9|m9:=g k o;exact v<|m9▸d k q;have:=e k<|d k q;omega
def Qp(j g:af){s:SR}{K:DK}{ab:dB}{P Q S T:dI}{E:gI}(h:cU W j3 s 0)(a:Inv j5 j4 W j3 s K ab P Q S T C N E)(x:s.d=bD):cR bN 140 #[aJ j3,aw j,aw g] W λL e=>∃v o n,∃d:kV,L=aN v/\Kv W e j3 v d o n/\T1 W e j3 s K d:=by
 have c:=az h;refine A9 W j3 j g (λd e=>T1 W e j3 s K d) (λV k i=>?_)<|λd V O f=>f.aA ((I.bI aC V).aE O) cY ((((I.bI aC V).aE O).A j3 (az f.2.choose_spec.2.2.2.2) id).trans f.2.choose_spec.2.2.2.2) a.st.f.lt a.st.l;have l:=nj (j3:=j3) a.st.f k;have u:=a.eQ (s':=s) c l z (aq _) z;go_call XN j g ((k.A j3 c id).trans h) u x as L e⟨v,aa,rfl,A,B,m,b,p,r,t,w,D⟩;refine⟨v,aa,z,A,(b.aA.A _ i ?_).symm,B,m,l.aj b,p,r.1,t,w⟩;rintro(q|q);have:=a.st.f.lt _ q;omega;omega
def T1.Aq{d:Z}{s:SR}{K:DK}{u:dB}{o p q r:dI}{m:gI}{l:kV}(h:T1 W d j3 s K l)(a:cU W j3 s 0)(i:Inv j5 j4 W j3 s K u o p q r C N m)(j:s.d=bD)(k:qp K.fx)(b:s.f=db):FO j5 j4 W d db j3 C N (Bb s K j3):=by
 let⟨_,n,c,e,f,t,g⟩:=h;exact gh.Aq b c k g j (i.eQ (s':=s) (az a) c (by rw[e]) (f▸aq _) rfl) ⟨rfl,rfl⟩
def RcP(W a:Z)(j3:R)(s:SR)(f:ae)(b:kV):Prop:=b=[]/\oV a j3 s 0 f/\I (λk=>k=j3) W a
def RcP.G8{c:Z}{s:SR}{f:ae}{e:kV}(h:RcP W c j3 s f e)(a:zc W j3 s 0 f):zc c j3 s 0 f:=⟨h.2.1,a.l.imp id<|λ⟨q,g,i,b,d⟩=>⟨q,g,i,b.aA h.2.2<|b.pJ (j3:=j3) a.g,d⟩⟩
def Un(j e:af){s:SR}{m:ae}(h:zc W j3 s 0 m)(n:jO W)(g:j3≠0):cR bN 140 #[aJ j3,aw j,aw e] W λo b=>∃v l k,∃a:kV,o=aN v/\Kv W b j3 v a l k/\RcP W b j3 s m a:=by
 have:=az h.g;refine A9 W j3 j e (λa b=>RcP W b j3 s m a) (λV d f=>?_)<|λa V u c=>⟨c.1,c.2.1.aA ((I.bI aC V).aE u) id,c.2.2.aE u⟩;go_call UA j e (h.t d) (n.aA d id) g as o b⟨rfl,v,i⟩;exact⟨aF,[],z,uP.kj _ _,(i.aA.A _ f U).symm,z,i.G8.g,(d.aT (T:=λa=>a=j3) cY).aj i.aA<|λ_ q=>J q⟩
def Nt(p n:af)(a:Y)(h:Ba j5 j4 W db j3 C N F)(hg:jO W)(B:j3≠0):cR bN 87 #[aJ j3,aw p,aw n,ay a] W λe f=>∃K,∃ab:kV,e=aN K/\uP W f K ab/\y ab<=40000000000/\FO j5 j4 W f db j3 C N F:=by
 by_cases i:0<a;(.obtain⟨t,aa,ao,ac,ad,al,an,sn,rfl,x,j,S,w,l⟩|⟨t,Q,rfl,j⟩:=h;(.have d:=az w;refine(EH W j3 t ib p n a (λc f=>T1 W f j3 t aa c) (λo=>aa.j t.f o\/o=j3) i d ?_ (λV m _=>?_) (bj z) (λc V b=>⟨b.2.choose_spec.2.2.2.2,(λq=>by rw[j]at q;cases q),b.1⟩)<|λc V P b g r=>b.aA g (λo e=>by obtain e|e|e:=e;exact J e;all_goals exact bj U) r l.st.f.lt l.st.l).mono ?_;rintro o(q|q);exact l.st.f.lt _ q;omega;(.have L:=nj (j3:=j3) l.st.f m;have hI:=l.eQ (s':=t) d L z (aq _) z;go_call Qp p n ((m.A j3 d id).trans w) hI j as e f⟨K,v,u,c,rfl,A,D,O,s,q1,q2,q3,q4⟩;exact⟨K,v,u,c,z,A,s.aA,D,O,L.aj s,q1,q2,q3,q4⟩);rintro e f⟨E,c,rfl,k,b⟩;exact⟨E,_,z,k,by have:=b.1;rw[dX];omega,b.Aq w l j S x⟩);(.have d:=az j.g;refine(EH W j3 t Q p n a (λc f=>RcP W f j3 t Q c) (λo=>o=j3) i d (λo q=>U) (λV m _=>?_) z (λc V b=>⟨b.2.1,λ_=>b.1,by rw[b.1];simp⟩)<|λc V P b g r=>⟨b.1,r,b.2.2.aj g (λo e=>by obtain e|e|e:=e;exact J e;all_goals exact bj U)⟩).mono ?_;(.go_call Un p n (j.t m) (hg.aA m id) B as e f⟨K,v,u,c,rfl,A,D,r,g⟩;exact⟨K,v,u,c,z,A,g,D,r,(m.aT (T:=λo=>o=j3) cY).aj g<|λ_ q=>J q⟩);rintro e f⟨E,c,rfl,k,b⟩;refine⟨E,_,z,k,by rw[b.1];simp,_,bj ⟨t,Q,rfl,b.G8 j⟩,b.2.2.aT<|λo e=>J e,λo e=>J e⟩));go_call IM W j3 p n a U as e f⟨rfl,g⟩;exact⟨aF,[],z,uP.kj _ _,ar,F,h.mB g cY cY ⟨id,id⟩,g.aT cY,λo e=>J e⟩
end
def kL{W:Z}{c:ae}(h:ub W c)(d:jO W):∃n:Y,0<=n/\(n=0↔c=ib)/\∀a,I aC W a->cR bN 11 #[c] a λj g=>j=aN (ay n)/\gC (G<|H a) a g:=by
 obtain rfl|⟨n,e,k,rfl⟩|⟨q,rfl,i,f,e⟩:=h;exact⟨0,U,ar,λa _=>ow a⟩;refine⟨n,U,?_,λa b=>Ji n<|d.aA b id⟩;unfold ue;rw[fM U];simp;omega;exact⟨i,U,by simp[eW];omega,λa b=>XM (f.aA b id)<|d.aA b id⟩
section
variable{W:Z}{j5:Prop}{j4:cy af}{db j3 C N:R}{F:fB}
def StX(j5:Prop)(j4:cy af)(W:Z)(db j3 C N:R)(F:fB)(s:SR)(f:ae):Prop:=(∃K m b c d e a,F=Bb s K j3/\s.f=db/\f=ib/\s.d=bD/\qp K.fx/\cU W j3 s 0/\Inv j5 j4 W j3 s K m b c d e C N a)\/(F=(λk=>k=j3)/\zc W j3 s 0 f)
def StX.Cr{s:SR}{f:ae}(h:StX j5 j4 W db j3 C N F s f):Ba j5 j4 W db j3 C N F:=by
 obtain⟨K,m,c,d,g,i,b,e,a,_,h⟩|⟨e,h⟩:=h;exact J ⟨s,K,m,c,d,g,i,b,e,a,h⟩;exact bj ⟨s,f,e,h⟩
def Ba.stx(h:Ba j5 j4 W db j3 C N F):∃s f,oV W j3 s 0 f/\StX j5 j4 W db j3 C N F s f:=by
 obtain⟨s,K,n,j,k,l,m,i,e,a,c,d,b,g⟩|⟨s,f,e,h⟩:=h;exact⟨s,ib,b,J ⟨K,n,j,k,l,m,i,e,a,z,c,d,b,g⟩⟩;exact⟨s,f,h.g,bj ⟨e,h⟩⟩
def StX.BN{a:Z}{s:SR}{j:ae}(h:StX j5 j4 W db j3 C N F s j)(g:I (λr=>r=j3) W a)(f:oV a j3 s 0 j):StX j5 j4 a db j3 C N F s j:=by
 obtain⟨K,t,n,o,i,p,m,e,d,rfl,b,k,l,c⟩|⟨e,h⟩:=h;exact J ⟨K,t,n,o,i,p,m,e,d,z,b,k,f,c.eQ (s':=s) (az l) (Kg c.st.f c.st.l g) z (aq _) z⟩;exact bj ⟨e,f,h.l.imp id<|λ⟨q,i,e,c,b⟩=>⟨q,i,e,c.aA g<|c.pJ (j3:=j3) h.g,b⟩⟩
def ub.BN{a:Z}{s:SR}{j b:ae}(h:ub W b)(f:oV W j3 s 0 j)(g:I (λk=>k=j3) W a):ub a b:=by
 obtain e|e|⟨q,e,i,c,d⟩:=h;exact J e;exact bj<|J e;exact bj<|bj ⟨q,e,i,c.aA g<|c.pJ (j3:=j3) f,d⟩
def E5(m k:af)(h:Ba j5 j4 W db j3 C N F)(u:jO W)(l:j3≠0):cR bN 140 #[aJ j3,aw m,aw k] W λe f=>∃v c b,∃a:kV,e=aN v/\Kv W f j3 v a c b/\y a<=40000000000/\∃o,Ba j5 j4 f db j3 C N o/\I F W f/\∀n,o n->F n:=by
 obtain⟨s,T,S,K,L,O,P,E,rfl,i,d,t,p,q⟩|⟨s,Q,rfl,d⟩:=h;(.go_call Qp m k p q d as e f⟨v,c,b,a,rfl,j,w,r,g,x,A,B,D⟩;refine⟨v,c,b,a,z,j,w,_,J ⟨s,r,S,K,L,O,P,E,z,i,d,g.fx.D t,D,q.eQ (s':=s) (az p) g (by rw[x]) (A▸aq _) rfl⟩,g.aA.aT<|λn e=>J<|J e,λn e=>?_⟩;obtain(e|e)|e:=e;exact J<|J<|B n e;exact J<|bj e;exact bj e);go_call Un m k d u l as e f⟨v,c,b,a,rfl,j,g⟩;exact⟨v,c,b,a,z,j,by rw[g.1];simp,_,bj ⟨s,Q,rfl,g.G8 d⟩,g.2.2,λn e=>e⟩
def UF(lo hi u v:af)(L:eN)(h:Ba j5 j4 W db j3 C N F)(hz:u.size<=140737488351232/\v.size<=140737488351232)(hC:C+8<=3000000000)(hN:N+1<=1000000000)(D:jO W)(t:j3≠0)(g:¬F 0)(s:∀k,F k->k<G (H W)):cR bN 139 #[aJ j3,aw lo,aw hi,ef #[aw u,aw v,aO L]] W λj b=>∃ad al,∃ao:kV,j=aN (de #[ad,ay al])/\uP W b ad ao/\y ao<=40000000000/\FO j5 j4 W b db j3 (C+8) (N+1) F:=by
 have ac:=s j3 h.j;have ap:0<G (H W):=cA _ _ D;refine(Vs W j3 lo hi u v L (λc b=>y c<=40000000000/\∃a,Ba j5 j4 b db j3 C N a/\I F W b/\∀k,a k->F k) (λc i e w b=>ub b w/\oV b j3 i 0 e/\∃a,StX j5 j4 b db j3 (C+8) (N+1) a i e/\I F W b/\∀k,a k->F k\/G (H W)<=k) F ac s (λan S av=>?_) (λc W2 W3 K P d V r aa=>?_) (λc i e w an V' Q d p=>?_) (λc i e w an Q=>?_)<|λc an P=>P.1).mono ?_;(.go_call E5 lo hi (h.mB S cY cY ⟨id,id⟩) (D.aA S id) t as j b⟨ad,l,f,c,rfl,E,hp,a,q1,m,n⟩;exact⟨ad,l,f,c,z,E,m,hp,a,q1,(S.aT (T:=F) cY).aj m<|λ_ q=>J q,n⟩);let⟨hp,a,q1,m,n⟩:=P;have ab:jO W3:=(D.aA m g).aA d id;(have f:∀k,cN (bX K 0 1 1)=M k->k=K:=λk l=>by(have:K=k:=by simpa[cN]using l);exact this.symm);refine(Jk (cs:=[⟨u,v,L⟩]) bD (q1.mB d cY cY ⟨id,id⟩) (λan hV=>J ⟨hV.bV V<|λk l=>⟨λj=>aa<|(f k l).symm.trans j,f k l▸r⟩,λk l=>f k l▸au r hV.D⟩) (dV hz) ar hC hN ab t<|λm9=>g<|n _ m9).mono ?_;rintro j b⟨ad,rfl,hv,E,g1,g2,g3⟩;let⟨i,e,p,hx⟩:=g1.stx;have:=aR m.D d.D;exact⟨ad,i,e,z,p,g2.aT<|λk j=>J<|n k j,hv,p,E,hx,(m.t d).aj g2<|λk j=>J<|n k j,λk j=>(g3 k j).imp (n k)<|λm9=>U⟩;let⟨x,O,a,A,o,B⟩:=Q;exact⟨x.BN O d,p,a,A.BN d p,o.aj d<|λk j=>J (by rw[show k=j3 from j];exact h.j),B⟩;let⟨x,O,a,A,o,B⟩:=Q;let⟨al,_,_,f⟩:=kL x<|D.aA o g;exact⟨al,f⟩;rintro j b⟨E,i,e,w,al,c,ao,rfl,f,l,x,O,a,A,o,B⟩;exact⟨E,al,ao,z,f,l,a,A.Cr,o,B⟩
end
structure S6(w0 w:Z)(rb:R)(n:Y)(l:dB)(r:eD)(s:eN)(o:ae):Prop where
 aZ:fD w (G<|H w0) 223 4 o (y l) (bu l)
 rd:Rd w rb r s
 L:ki r
 dL:y r<=100000000000000
 S:∀x∈l,x.Good/\x.f=n
 aA:I aC w0 w
 d:G (H w0)<=rb
 f:∀k,cN o=M k->rb<k
def zaq(w b:Z)(n:Y)(d:Prop)(c:dB)(e:Ending):Prop:=∃(a:ae)(ok:eN)(l:dB),e=aN (de #[a,aO ok])/\I aC w b/\fD b (G<|H w) 223 4 a (y l) (bu l)/\y l<=8/\(ok=cz->1<=y l)/\(∀x∈l,x.Good/\x.f=n)/\(d->ok=cz/\l=c)
def QS(n:Y)(b:¬K)(h:I aC a e):zaq a e n K i (aN<|de #[aF,aO bD]):=⟨aF,bD,[],rfl,h,ct _ _ _ _,ar,ar,ar,λq=>(b q).elim⟩
def ExL(c:Prop)(b l:dB)(r:eD)(s:eN):Prop:=c->∃a,b=l++a/\r=a.flatMap oz/\s=bD
def ID{j4:Prop}{es:dB}(n:Y){w:Z}(hX:j4->m=oI n es/\(∀ao∈es,ao.Good/\ao.f=n)/\1<=y es/\y es<=8)(hb:Bytes w d m)(hv:∀ad,cN d=M ad->ad<G (H w))(W:ki m)(hl:y m<=100000000000000)(bg:0<=n)(bh:n<18446744073709551616):cR bN 125 #[d,bw n] w λal w'=>zaq w w' n j4 es al:=by
 let⟨i0,bc,bo,bp,bq⟩:=cZ oO;have bi:=oM hb hv;have cm:∀(ao:eN)(w:Z),(Op.unary .not<|aO ao).run bN w=.ok (aO<|!ao) w:=λ_ _=>rfl;have h1:j4->dz m bD 8=n/\fY m bD 8=((y es:Y)::es.flatMap oz,bD,le 8 n):=λq=>by have al:=rR (le 8 n)<|(y es:Y)::es.flatMap oz;rw[dh]at al;rw[(hX q).1];exact⟨by unfold dz oI;rw[al];exact zT bg bh,al⟩
 have i1:=(ki.lO (n:=8) (m6:=bD) W).1;have l1:=(jd m bD 8).1;have aV:=λcv(hR:Rd cv (G<|H w) m bD)=>Hf hR W U;generalize dz m bD 8=z1 at*;generalize fY m bD 8=dk at*;let⟨O,o,A3⟩:=dk;simp only at*;have i2:=(ki.lO (n:=1) (m6:=o) i1).1;have i:=(jd O o 1).1;have n2:=jU (n:=1) (m6:=o) i1;have ba:=λcv(hR:Rd cv (G<|H w) O o)=>Io hR i1 U;have h2:j4->dz O o 1=y es/\fY O o 1=(es.flatMap oz,bD,[(y es:Y)]):=λq=>by obtain⟨rfl,rfl,_⟩:O=_/\o=_/\A3=_:=dV<|(h1 q).2;have al:fY ((y es:Y)::es.flatMap oz) bD 1=(es.flatMap oz,bD,[(y es:Y)]):=rR [(y es:Y)] _;exact⟨by unfold dz;rw[al];simp[jv],al⟩
 generalize dz O o 1=N at*;generalize fY O o 1=dn at*;let⟨B1,B2,B3⟩:=dn;simp only at*;have HX:=ak<|show j4->z1=n/\N=y es/\B1=es.flatMap oz/\B2=bD/\(∀ao∈es,ao.Good/\ao.f=n)/\1<=y es/\y es<=8 fromλq=>⟨(h1 q).1,(h2 q).1,cD (·.1) (h2 q).2,cD (·.2.1) (h2 q).2,(hX q).2⟩;clear hb hv W h1 h2 hX;go_in
 go_wp21;go_call bi as al w1⟨rfl,A,ab⟩;have bl:I aC w w1:=by rw[ab];exact(cI _ w)
 have co:G (H w)<G (H w1):=by rw[ab];simp
 have bf:=aV w1 A;have av:=ak bl;clear A ab bl bi aV;go_wp21;go_call bf as al w2⟨rfl,B,p⟩;have aU:=ba w2 B;have bm:I aC w w2:=av.aj (gH p) ar;have cc:=ak bm;have cp:=p.size;have bt:=ak p;clear B p bf ba bm;cases hq:(z1 !=n);rotate_left;(.go_wp2;(go_ret2);exact QS n (λq=>by rw[(ag HX q).1]at hq;simp at hq) cc);go_wp21;go_call aU as al w3⟨rfl,C,V⟩;have bn:I aC w w3:=av.aj ((gH bt).aj (gH V)<|λ_=>J) ar;have cb:=ak C;have cr:=V.size;have ax:=ak bn;clear C V aU bn;have hN:N<1\/(1<=N/\8<N)\/∃an:R,N=an/\1<=an/\an<=8:=by obtain q|q:=xZ N 1;exact J q;obtain c|c:=xZ 8 N;exact bj<|J ⟨q,c⟩;exact bj<|bj ⟨N.toNat,U,U,U⟩
 obtain hN|⟨hN,ch⟩|⟨an,rfl,cB,ch⟩:=hN;iterate 2 ·(go_wp2;go_ret2;exact QS n (λq=>bP<|ag HX q) ax)
 go_wp2_with(first
  |(at_make;go_loud(refine ke _ z _ _ 102 z (G (H w)) 223 i0 yt 4 underlying102 bc bo bp _ _ _ an z z U (by rw[bq];omega) (by unfold maxLen;omega) U ?_;intro w4 x v;have bL:=ak x;have P:=ak v;clear x v)))
 have dc:=P.size;have hA0:S6 w w4 (G<|H w) n [] B1 B2 (bX (G<|H w3) 0 0 an):=by refine⟨bL,cb.ni P,i2,U,ar,(ag ax).t<|I.eF (S:=aC) P ar,aq _,?_⟩;intro ad s;simp[cN]at s;omega
 have br:=ak hA0;clear hA0 i1 i2;go_loopw [8,28] (λo i wr=>∃(l:dB)(cs:eD)(cu:eN),y l<=an/\i=sA (y l)/\S6 w wr (G<|H w) n l cs cu o/\ExL j4 es l cs cu) (λ_ i _=>an-(intOf i).toNat)
 exact⟨[],B1,B2,bQ _,z,br,λq=>⟨es,z,(ag HX q).2.2.1,(ag HX q).2.2.2.1⟩⟩
 .obtain⟨l,cs,cu,hm,rfl,c,hE⟩:=hrel;have HE:=ak hE;clear hE;let⟨ox,oc,ho⟩:=aM c.aZ;have db:=c.aA.D;have cn:=c.rd.lt;by_cases cj:y l<an
  .have k:=Jj (G<|H w) c.rd c.L<|bP c.dL;have HA:=ak c;clear c;subst ho;go_wp21;go_call k as al F⟨ao,ok,r2,s2,rfl,bk,bd,cM,bb,t,aa⟩;let⟨K,L,xd,xb⟩:=ao;unfold E.t;simp only;have g:I (λad=>ad=G (H w)) wr F:=gH bb;have aD:=ak<|show I aC w F from HA.aA.aj g ar;have j:=bC (bC (g.aZ HA.aZ<|λad s c=>bP<|HA.f ad s)<|aK #[aw K,aw L,aO xd,bw n] 223)<|aK #[aw K,aw L,aO xd,bw n] 223;have cT:=g.D;let⟨ap,cd,ca,bE⟩:=jr j g bk bd;clear j g bk bd bb k;have hY:j4->∃g9 i,es=l++g9::i/\cs=oz g9++i.flatMap oz/\cu=bD/\g9.Good/\g9.f=n:=λq=>by
    obtain⟨i,u,Q,e3⟩:=ag HE q;have dd:=ag HX q;obtain _|⟨g9,i⟩:=i
    .have:=cD y u;simp at this;omega
    .exact⟨g9,i,u,dV Q,e3,dd.2.2.2.2.1 g9 (by rw[u];simp)⟩
   cases ok
   .have r:=ak (show¬j4 fromλq=>by
     let⟨g9,i,_,Q,e3,e4,_⟩:=hY q;exact aa z g9 _ e4 e3 Q)
    clear t aa hY;go_wp2;go_ret2
    exact QS n (ag r)<|(ag aD).aE _
   have bx:=ak (t z).2.2.1;have bs:=ak (show ExL j4 es (l++[⟨K,L,xd,n⟩]) r2 s2 fromλq=>by
    let⟨_,g2,g3,g4,g5⟩:=t rfl;let⟨g9,i,u,Q,e3,e4,r⟩:=hY q;have:=PO (g9:={g9 with f:=0}) (a:=r2) (b:=i.flatMap oz) g3 ⟨e4.L,e4.f,e4.l,e4.dP,ar,ar⟩ (by rw[yI,yI,g4,cw,cw];exact cD _ (g5.symm.trans Q));refine⟨i,?_,this.2,g2⟩;have h:=this.1;cases g9;cases h;cases r;rw[u];simp)
   clear t aa hY;go_wp2_with(first
    |(at_builtin;go_loud(refine cq _ z (.tmp 39) (.tmp 41) 102 z (G (H w)) 223 i0 yt 4 48 underlying102 bc bo bp bq z cg (.slice ox (y l) oc) (y l) (bu l) z ap (X (G (H F)+1) 0) 1 1 (bu [⟨K,L,xd,n⟩]) z z (AV ⟨K,L,xd,n⟩ _ ar) (DS _) U U dW ?_;intro o2 w6 e D;have bT:=ak e;have ce:=ak D;clear e D)))
   go_roundw
   .have c:=ag HA;have g:=ag cd;have ac:=ag ce;have e:=ag bT;have ck:=c.aZ.lt;have r:=ag bx;have cl:I (λad=>cN (am ox (y l) oc)=M ad) F w6:=(((I.bI (λad=>cN (am ox (y l) oc)=M ad) F).aE _).aE _).aj (I.fU ac)<|λ_=>J;refine⟨l++[⟨K,L,xd,n⟩],r2,s2,by rw[ai];exact cj,by rw[ai];go_num,⟨?_,?_,bE,bP c.dL,?_,(ag aD).aj cl<|λad s=>bj (ck ad s).1,c.d,?_⟩,ag bs⟩
    .rw[ai,ie];exact e
    .exact((ag ca).ni<|eR F (aK #[aw K,aw L,aO xd,bw n] 223) dE).ni (eR _ (aK #[aw K,aw L,aO xd,bw n] 223) dE)|>.lA ac c.f
    .intro ao hx;obtain q|q:=aP.1 hx
     .exact c.S ao q
     .obtain rfl:=bY.1 q;exact⟨⟨r.L,r.f,r.l,r.dP,bg,bh⟩,z⟩
    .intro ad s;obtain cx|⟨g9,cx,hy⟩:=ac.f
     .exact c.f ad<|cx.symm.trans s
     .rw[cx]at s;cases s;simp at hy;omega
   .simp[intOf];omega
  .have k:y l=an:=U;have j:=Ae c.rd<|bP c.dL;let⟨g,e⟩:∃g,(!cu&&cs.isEmpty)=g:=⟨_,rfl⟩;rw[e]at j;have r:j4->g=cz/\l=es:=λq=>by
    obtain⟨i,u,Q,e3⟩:=ag HE q;have dd:=ag HX q;obtain rfl:i=[]:=by
     have:=cD y u;simp at this;exact bG U
    exact⟨by rw[<-e,Q,e3];rfl,dV u.symm⟩
   clear e;have D:=ak<|show zaq w wr n j4 es (aN<|de #[am ox an oc,aO g])from⟨_,g,l,z,c.aA,by have:=c.aZ;rw[ho,k]at this;rw[k];exact this,U,λ_=>U,c.S,r⟩;have t:¬((y l:Y)<(an:Y)):=U;clear c;subst ho;go_wp21;go_call j as al F⟨rfl,K⟩;subst F;go_wp2;go_ret2
   exact ag D
structure Iw(f:Y)(ls:iF):Prop where
 pI:∀l∈ls,1<=y l/\y l<=8
 S:∀l∈ls,∀x∈l,x.Good
 cK:∀i(hi:i<y ls),∀x∈ls[i],x.f=IntKind.u64.wrap (f+i)
 L:(ls.map y).sum<32
structure Qv(w0 w:Z)(f:Y)(ls:iF)(b m9 c:R)(bs:eD)(o:ae)(vs:iE):Prop where
 g:w.heap[G (H w0)+1]?=M (aK #[o,aO bD] 172 (0,0))
 d:w.heap[G<|H w0]?=M (aK #[aF,aO bD] 172 (0,0))
 aZ:fD w (G (H w0)+2) 102 1 o (y ls) vs
 l:Iv w (G (H w0)+2) vs ls
 bB:Bytes w0 (bX b m9 (y bs) c) bs
 L:ki bs
 i:y bs<=c/\c<=9223372036854775807/\y bs<=10000000000000
 aA:I aC w0 w
 S:Iw f ls
def P9(w b:Z)(f:Y)(m8:iF->eN->Prop)(d:Prop)(e:Ending):Prop:=∃(x:Option Addr)(n k:R)(mw ok:eN),e=aN (de #[ef #[am x n k,aO mw],aO ok])/\I aC w b/\(ok=bD->d)/\(ok=cz->∃a c,n=y a/\fD b (G (H w)+2) 102 1 (am x (y a) k) (y a) c/\Iv b (G (H w)+2) c a/\Iw f a/\m8 a mw)
def Xe(f:Y)(a:dB)(b:eD):Prop:=b=zi f a/\(∀x∈a,x.Good/\x.f=f)/\(1<=y a/\y a<=8)/\0<=f/\f<18446744073709551616
def ExB(c:Prop)(f:Y)(a:dB)(b:iF)(r:eD):Prop:=c->b=[]/\Xe f a r\/b=[a]/\r=[]
def Xe.qo(h:Xe r i m):12<=y m/\m.drop 12=oI r i/\∃a,m.take 12=ij a/\jv (a.take 4)=(y (oI r i):Y)/\jv (a.drop 4)=pt (oI r i):=by
 obtain⟨rfl,c,⟨_,d⟩,_⟩:=h;have f:=wC<|λx b=>(c x b).1;have e:y (oI r i)<=1000:=by unfold oI;rw[ai,bK,dh];omega
 have b:y (ij<|le 4 (y<|oI r i)++le 4 (pt<|oI r i))=12:=by simp[ij,dh]
 unfold zi;refine⟨by rw[ai];omega,?_,_,mR b,?_,?_⟩;rw[<-b,pw];rw[mR<|dh 4 _,Sw U U];rw[List.drop_left'<|dh 4 _,JO]
def Iw.Gh{l:dB}(h:Iw r O)(d:1<=y l)(e:y l<=8)(c:∀x∈l,x.Good/\x.f=IntKind.u64.wrap (r+y O))(g:(O.map y).sum+y l<32):Iw r (O++[l]):=by
 refine⟨λk a=>?_,λk a=>?_,λi f=>?_,by simp;omega⟩;obtain q|q:=aP.1 a;exact h.pI k q;rw[bY.1 q];exact⟨d,e⟩;obtain q|q:=aP.1 a;exact h.S k q;rw[bY.1 q];exactλx b=>(c x b).1;rw[ul];split;rename_i q;exact h.cK i q;rename_i q;(have:i=y O:=by simp at f;omega);subst this;simpa usingλx b=>(c x b).2
def Qv.DB{c K w1 w2:Z}{b m9 x z' c':R}{P rest:eD}{w o2 bv:ae}{l:dB}{F:Obj}(h:Qv c K r O b m9 x P w Q)(e:I aC K w1)(W:fD w1 (G<|H K) 223 4 bv (y l) (bu l))(N:fD w2 (G (H c)+2) 102 1 o2 (y O+1) (Q++[bv]))(hw:fm (dw w1 F) w2 w o2)(A:Bytes c (bX b z' (y rest) c') rest)(q:ki rest)(B:y rest<=c'/\c'<=9223372036854775807/\y rest<=10000000000000)(hg:Iw r (O++[l])):Qv c (cP w2 (X (G (H c)+1) 0) o2) r (O++[l]) b z' c' rest o2 (Q++[bv])/\bA w2 (X (G (H c)+1) 0)=M w/\iH w2 (X (G (H c)+1) 0)=bD:=by
 have D:=h.aZ.lt;have p:∀k,cN w=M k->G (H c)+2<=k:=λk a=>(D k a).1;have o:I aC K (dw w1 F):=e.aE _;have hz:=e.D;have ac:=h.aA.D;have i:=(o.A _ (az h.g) id).trans h.g;have j:=(o.A _ (az h.d) id).trans h.d;have g:=I.fU hw;have d:=(g.A _ (az i)<|λx=>bP<|p _ x).trans i;have m:=(g.A _ (az j)<|λx=>bP<|p _ x).trans j;have f:I (λk=>k=G (H c)+1) w2 (cP w2 (X (G (H c)+1) 0) o2):=fJ _ _ _ _;have ab:=az h.g;refine⟨⟨by rw[aY d];rfl,(f.A _ (az m) U).trans m,?_,⟨by simp[h.l.1],λad h1 S=>?_⟩,A,q,B,?_,hg⟩,by rw[cE d];rfl,cV d⟩;rw[ai];exact f.aZ N<|λk a x=>bP<|(N.lt k a).1;have n:∀k,cN w=M k->∃s,K.heap[k]?=M (aK s 102 (0,0)):=λk a=>fZ h.aZ a;have u:I (λk=>cN w=M k) w1 w2:=((I.bI (λk=>cN w=M k) w1).aE F).aj g<|λ_=>J;have ht:I (λk=>cN w=M k) K w2:=(e.aT (T:=λk=>cN w=M k) cY).aj u<|λ_=>J;(have v:∀(V:Z)(an:ae)(al:R)(L:iE),V.ownsRow (G (H c)+2) 223 4 an al L->I (λk=>cN w=M k) V w2->(∀k,cN w=M k->∃s,V.heap[k]?=M (aK s 102 (0,0)))->fD (cP w2 (X (G (H c)+1) 0) o2) (G (H c)+2) 223 4 an al L:=by intro V an al L hv C aa;have t:=C.aZ hv (λk a x=>by grind[fZ,lj]);exact f.aZ t<|λk a x=>bP<|(aS t k a).1);have E:y Q=y O:=h.l.1;obtain q|q:=iT ad<|y O;rw[wE U];simp only[wE q];exact v K _ _ _ (h.l.2 ad U q) ht n;(have C:ad=y O:=by simp at S;omega);subst C;rw[mM U];simp only[mM q];simp only[E,xX,cO];refine v w1 _ _ _ (fh W U) u<|λk a=>?_;let⟨s,t⟩:=n k a;exact⟨s,(e.A k (az t) id).trans t⟩;exact((h.aA.t o).aj g<|λk a=>bj<|bP<|p k a).aj f<|λk a=>bj U
def OU(bd o A:R)(hX:K->Xe r i m)(hT:Steps a)(B:ki m)(j:y m<=10000000000000)(an:y m<=A)(bn:A<=9223372036854775807)(p:bd<G (H a))(hb:Bytes a (bX bd o (y m) A) m):cR bN 72 #[bX bd o (y m) A,bw r] a λao w'=>P9 a w' r (λb _=>K->b=[i]) (¬K) ao:=by
 let⟨i0,cx,cT,db,dc⟩:=cZ VZ;have dv:∀(cc:eN)(a:Z),(Op.unary .not<|aO cc).run bN a=.ok (aO<|!cc) a:=λ_ _=>rfl;have ed:∀(dk:Addr)(n aa:R)(a:Z),(binOp .eql 31 (am (M dk) n aa) aF).run bN a=.ok (aO bD) a:=λ_ _ _ _=>rfl;have eg:(binOp .eql 31 aF aF).run bN=λa=>.ok (aO cz) a:=rfl;have hA0:Qv a (dw (dw a<|aK #[aF,aO bD] 172)<|aK #[aF,aO bD] 172) r [] bd o A m aF []:=⟨aQ _ ar,(gw _ ar).trans<|aQ _ z,ct _ _ _ _,⟨z,ar⟩,hb,B,⟨an,bn,j⟩,(cI _ a).aE _,⟨ar,ar,ar,ar⟩⟩;have cd:=ak hA0;have cp:=ak<|show ExB K r i [] m fromλq=>J ⟨z,hX q⟩;have HT:=ak hT;clear hA0 hT hb B j an bn hX;go_in
 go_wp2;go_loopw [0,7] (λbv c wr=>∃(b:iF)(m9 ca:R)(bL:eD)(eq:ae)(vs:iE),bv=bX bd m9 (y bL) ca/\c=ay ((b.map y).sum:R)/\Qv a wr r b bd m9 ca bL eq vs/\ExB K r i b bL) (λbv _ _=>Yb bv)
 exact⟨[],o,A,m,_,_,z,z,cd,cp⟩
 .obtain⟨b,m9,ca,bL,eq,vs,rfl,rfl,c,hE⟩:=hrel;have bb:Steps wr:=HT.dD (c.aA.dD (aq _) cY) HT.lt;let⟨ox,oc,ho⟩:=aM c.aZ;have P:=aX c.g 0;have ec:=aX c.g 1;have bc:=c.aA.D;have ek:=az c.g;have bt:G (H a)<G (H wr):=az c.d;have k:=c.aZ;have w:=c.g;rw[ho]at k P w;have j:=c.i.2.2;have bx:=c.S.L;have br:y b<=31:=bP<|QX<|λl hl=>(c.S.pI l hl).1;have g:=ak (show(K->b=[i])->∀bi(av:eN),I (λaa=>aa=G (H a)+1) wr bi->((bi.setCell (X (G<|H a) 0)<|am ox (y b) oc).setCell (X (G<|H a) 1)<|aO av).heap[G<|H a]?=M (aK #[am ox (y b) oc,aO av] 172 (0,0))/\P9 a ((bi.setCell (X (G<|H a) 0)<|am ox (y b) oc).setCell (X (G<|H a) 1)<|aO av) r (λb _=>K->b=[i]) (¬K) (aN<|de #[ef #[am ox (y b) oc,aO av],aO cz])fromλbr bi av hV=>by
   have s:I (λaa=>aa=G (H a)\/aa=G (H a)+1) wr ((bi.setCell (X (G (H a)) 0) (am ox (y b) oc)).setCell (X (G (H a)) 1) (aO av)):=((hV.aT (T:=λaa=>aa=G (H a)\/aa=G (H a)+1) ar).aL (G (H a)) 0 _ (J (J z))).aL (G (H a)) 1 _ (J (J z));refine⟨?_,ox,y b,oc,av,cz,z,c.aA.aj s ar,(λq=>by cases q),λ_=>⟨b,vs,rfl,s.aZ k (λaa hk ca=>bP ((aS k aa hk).1)),⟨c.l.1,λbf h1 v=>s.aZ (c.l.2 bf h1 v) (λaa hk ca=>bP ((aS (c.l.2 bf h1 v) aa hk).1))⟩,c.S,br⟩⟩;have v:=aY (i:=1) (u:=aO av) (aY (i:=0) (u:=am ox (y b) oc) ((hV.A _ bt U).trans c.d));simpa using v)
  have f:=ak (show¬K->∀bi,I aC wr bi->((bi.setCell (X (G<|H a) 0) aF).setCell (X (G<|H a) 1)<|aO bD).heap[G<|H a]?=M (aK #[aF,aO bD] 172 (0,0))/\P9 a ((bi.setCell (X (G<|H a) 0) aF).setCell (X (G<|H a) 1)<|aO bD) r (λb _=>K->b=[i]) (¬K) (aN<|de #[ef #[aF,aO bD],aO bD])fromλD bi hV=>by
   have s:I (λaa=>aa=G (H a)) wr ((bi.setCell (X (G (H a)) 0) aF).setCell (X (G (H a)) 1) (aO bD)):=((hV.aT (T:=λaa=>aa=G (H a)) cY).aL (G (H a)) 0 _ (J z)).aL (G (H a)) 1 _ (J z);refine⟨?_,dE,0,0,bD,bD,z,c.aA.aj s ar,λ_=>D,ar⟩;have v:=aY (i:=1) (u:=aO bD) (aY (i:=0) (u:=aF) ((hV.A _ bt id).trans c.d));simpa using v)
  have d:=ak c.d;have t:=ak w;by_cases x:0<y bL;rotate_left
  .have av:y bL=0:=U;have g:=ak<|ag g λq=>(hE q).elim (λdk=>bP dk.2.qo.1) (·.1);have r0:=aX d 0;have r1:=aX d 1;have r2:=cV (i:=0) d;have r3:=cV (i:=1) d;rw[av];clear c bb k w av x j hE;subst ho;go_wp2;let⟨V,W⟩:=ag g _ bD<|I.bI _ _;refine ci (pH z _ _ (G<|H a) ox (y b) oc bD _ _ z V) z ?_;exact W
  have hE:K->b=[]/\Xe r i bL:=λq=>(hE q).elim id (λdk=>by rw[dk.2]at x;cases x);have hcut:=M8 bd m9 ca (y bL) bb (au p bc) c.L z j c.i.1 c.i.2.1<|c.bB.dD (c.aA.dD (aq _) cY) (λaa hk=>by cases hk;exact p);have HC:=ak (show∀dT ao,QD wr dT bd bL ao->I aC wr dT/\((ao=aN (de #[aF,aF,aO cz])\/ao=aN (de #[aF,aF,aO bD]))/\¬K\/∃(bT rest:eD)(g9 ds z' c':R)(ok:eN),ao=aN (de #[bX bd g9 (y bT) ds,bX bd z' (y rest) c',aO ok])/\y rest<y bL/\ki bT/\ki rest/\y bT<=10000000000000/\y rest<=c'/\c'<=9223372036854775807/\Bytes wr (bX bd g9 (y bT) ds) bT/\Bytes wr (bX bd z' (y rest) c') rest/\(K->ok=cz/\bT=oI r i/\rest=[]))from by
   rintro dT ao⟨h1,⟨cb,v⟩|⟨cb,v⟩|⟨eo,ea,cb,⟨g2,v⟩|⟨bT,rest,g9,ds,z',c',av,g2,v,h3,h4,h5,h6⟩⟩⟩
   .exact⟨h1,J ⟨J v,λq=>bP<|(hE q).2.qo.1⟩⟩
   .exact⟨h1,J ⟨bj v,λq=>by let⟨_,_,en,ao,_⟩:=(hE q).2.qo;exact cb en ao⟩⟩
   .exact⟨h1,J ⟨J v,λq=>by
     let⟨_,e0,en,ao,e1,_⟩:=(hE q).2.qo;cases DE (cb.symm.trans ao);rw[e1,e0]at g2;omega⟩⟩
   .have B:=c.L.pM 12;have hl:=cD y av;rw[iY,ai]at hl;rw[av]at B;exact⟨h1,bj ⟨bT,rest,g9,ds,z',c',_,v,U,λcc hx=>B cc (by simp[hx]),λcc hx=>B cc (by simp[hx]),U,h3,h4,h5,h6,λq=>by
     let⟨_,e0,en,ao,e1,e2⟩:=(hE q).2.qo;cases DE (cb.symm.trans ao);have h7:=uc (av.symm.trans (e0.trans (eu _).symm)) U;exact⟨by rw[e2,h7.1];simp,h7⟩⟩⟩)
  have cm:=ak k;have HA:=ak c;let⟨RL,aD⟩:∃RL,y bL=RL:=⟨_,rfl⟩;let⟨S0,aV⟩:∃S0,(b.map y).sum=S0:=⟨_,rfl⟩;rw[aD]at hcut x|-;rw[aV]at bx|-;have cn:=ak aD;have ap:=ak aV;have e0:(0:Y)<(RL:Y):=U;have HE:=ak hE;clear c bb k w j aD aV hE;subst ho;go_wp21;go_call hcut as ao w1 bl;let⟨n,cr⟩:=ag HC w1 ao bl;clear hcut bl;have b1:=(n.A _ (az t) id).trans<|ag t;have s1:=(n.A _ (az d) id).trans<|ag d;have r0:=aX s1 0;have r1:=aX s1 1;have r2:=cV (i:=0) s1;have r3:=cV (i:=1) s1;have t0:=aX b1 0;have t1:=aX b1 1;have t2:=cV (i:=1) b1;have ej:=az b1;have F:=ak n;obtain⟨rfl|rfl,D⟩|⟨bT,rest,g9,ds,z',c',ok,rfl,cM,bo,bp,cB,cu,cv,ab,bm,O⟩:=cr
  .have g:=ak<|ag g λq=>(D q).elim;clear n b1 s1 P D;go_wp2;let⟨V,W⟩:=ag g _ cz<|((ag F).aT (T:=λaa=>aa=G (H a)+1) cY).aL (G (H a)+1) 1 (aO cz)<|J rfl;refine ci (pH z _ _ (G<|H a) ox (y b) oc cz _ _ z V) z ?_;exact W
  .have f:=ak<|ag f D;clear n b1 s1 P D;go_wp2;let⟨V,W⟩:=ag f _<|ag F;refine ci (pH z _ _ (G<|H a) dE 0 0 bD _ _ z V) z ?_;exact W
  cases ok
  .have f:=ak (ag f λq=>by cases(O q).1);clear n b1 s1 P O;go_wp2;let⟨V,W⟩:=ag f _<|ag F;refine ci (pH z _ _ (G<|H a) dE 0 0 bD _ _ z V) z ?_;exact W
  let⟨q,hq⟩:∃q,IntKind.u64.wrap (r+(y b:Y))=q:=⟨_,rfl⟩;have bs:0<=q/\q<18446744073709551616:=by rw[<-hq,dY];omega
  have cs:bd<G (H w1):=au (au p bc) n.D;have ab:=ab.dD (n.dD (aq _) cY) (λaa hk=>by cases hk;exact au p bc);have S:=ID (j4:=K) (es:=i) q (w:=w1) (λhx=>by
   obtain⟨_,rfl,_⟩:=O hx;obtain⟨rfl,_,g1,g2,g3,g4⟩:=ag HE hx;obtain rfl:r=q:=by rw[<-hq,dY];simp;omega
   exact⟨z,g1,g2⟩) ab (λaa hk=>by cases hk;exact cs) bo U bs.1 bs.2
  let⟨BL,bk⟩:∃BL,y bT=BL:=⟨_,rfl⟩;rw[bk]at S|-;let⟨RN,aU⟩:∃RN,y rest=RN:=⟨_,rfl⟩;have HG:=ak<|show RN<RL from bP<|ag cn;have E:=ak<|show Bytes a (bX bd z' (y rest) c') rest/\ki rest/\y rest<=c'/\c'<=9223372036854775807/\y rest<=10000000000000 from⟨bm.zag (ag HA).aA p,bp,cu,cv,bP<|(ag HA).i.2.2⟩;rw[aU];have co:=ak aU;have ch:=ak O;have HQ:=ak hq;have a1:IntKind.u64.wrap (y b:Y)=y b:=by rw[dY];omega
  have a5:IntKind.u64.wrap (r+(y b:Y))=q:=hq;clear n b1 s1 P ab bm bo bp cB cM bk aU hq HC O;go_wp21;go_call S as ao w2⟨bv,dd,l,rfl,al,Q,bq,ad,ac,C⟩;obtain⟨dr,dn,rfl⟩:=aM Q;have e:I aC wr w2:=(ag F).t al;have b2:=(e.A _ (az t) id).trans<|ag t;have s2:=(e.A _ (az d) id).trans<|ag d;have u0:=aX s2 0;have u1:=aX s2 1;have u2:=cV (i:=0) s2;have u3:=cV (i:=1) s2;have v0:=aX b2 0;have v1:=aX b2 1;have dx:=e.D;have a3:IntKind.i64.wrap ((S0:Y)+(y l:Y))=(S0:Y)+y l:=by rw[bR];omega
  have L:=ak e;cases dd
  .have f:=ak (ag f λq=>by cases(C q).1);clear e b2 s2 Q al ad ac S C;go_wp2;let⟨V,W⟩:=ag f _<|ag L;refine ci (pH z _ _ (G<|H a) dE 0 0 bD _ _ z V) z ?_;exact W
  by_cases N:32<=S0+y l
  .have a4:(32:Y)<=(S0:Y)+(y l:Y):=U;have f:=ak (ag f λq=>by have cb:=ag HE q;rw[(C q).2]at N;rw[<-ag ap,cb.1]at N;have:=cb.2.2.2.1.2;simp at N;omega);clear e b2 s2 Q al ad ac S N C;go_wp2;let⟨V,W⟩:=ag f _<|ag L;refine ci (pH z _ _ (G<|H a) dE 0 0 bD _ _ z V) z ?_;exact W
  have a4:¬((32:Y)<=(S0:Y)+(y l:Y)):=U;have ck:=ak<|show Iw r (b++[l])from(ag HA).S.Gh (ad z) bq (λcc hx=>by rw[ag HQ];exact ac cc hx) (by rw[ag ap];omega);let⟨bh,cl⟩:=And.intro (ak<|e.aZ cm<|λ_ _ ca=>ca) (ak<|fh Q (ag F).D);let⟨NL,ax⟩:∃NL,y l=NL:=⟨_,rfl⟩;have bg:=ak ax;rw[ax]at a3 a4 bq|-;have cj:=ak<|show ExB K r i (b++[l]) rest fromλq=>bj ⟨by rw[(ag HE q).1,(C q).2];rfl,(ag ch q).2.2⟩;clear e b2 s2 Q al ad ac S N ax C;go_wp2_with(first
   |(at_builtin;go_loud(refine cq _ z (.tmp 50) (.tmp 52) 170 z (G (H a)+2) 102 i0 aF 1 24 underlying170 cx cT db dc z cg (.slice ox (y b) oc) (y b) vs z (bC bh _) (X (G (H w2)) 0) 1 1 [.slice dr NL dn] z z (rE _ _ _) (by simp[Value.oneCell']) U U dW ?_;intro o2 w3 ba bE;let⟨hA3,eb,ei⟩:=(ag HA).DB (z':=z') (c':=c') (w1:=w2) (w2:=w3) (o2:=o2) (rest:=rest) (l:=l) (bv:=.slice dr NL dn) L (by rw[<-ag bg];exact cl) ba bE (ag E).1 (ag E).2.1 ⟨(ag E).2.2.1,(ag E).2.2.2.1,(ag E).2.2.2.2⟩ ck;obtain⟨em,el,rfl⟩:=aM ba;have ce:=ak hA3;clear ba bE hA3)))
  go_roundw
  .exact⟨b++[l],z',c',rest,_,_,by rw[ag co],by rw[bz,eX,ag ap];simp only[bO,gA,fq,List.sum_nil,ag bg];go_num,ce,cj⟩
  .simp only[UW];exact HG
structure td(w:Z):Prop where
 syn:∃te pe,bA w (X 3 0)=M (.iface te pe)
 rng:∃te pe,bA w (X 4 0)=M (.iface te pe)
def td.aA{S:fB}{w w':Z}(h:td w)(d:I S w w')(e:¬S 3)(g:¬S 4):td w':=by
 let⟨⟨j,b,a⟩,⟨k,m,c⟩⟩:=h;exact⟨⟨j,b,d.u a e<|cA _ _ a⟩,⟨k,m,d.u c g<|cA _ _ c⟩⟩
def zew(s:af)(w a:Z)(e:Ending):Prop:=I aC w a/\((∃u:R,u<18446744073709551616/\e=aN (de #[bw u,ib]))\/∃(u:Y)(t:TypeId)(N:R),e=aN (de #[bw u,.iface t<|aJ N]))
def JC:∀(l:cy UInt8)(n u:R),n<18446744073709551616->Lib.parseUintM (2^64-1) n l=.ok u->u<18446744073709551616
 |[],n,u,a,h=>by
  simp only[Lib.parseUintM]at h;cases h;exact a
 |c::l,n,u,a,h=>by
  simp only[Lib.parseUintM]at h;split at h
  .split at h
   .cases h
   .split at h
    .cases h
    .exact JC l _ u U h
  .cases h
def Vw(s:af)(l:s.size<=2000000)(h:td a):cR bN 239 #[aw s,ay 10,ay 64] a λe b=>zew s a b e:=by
 let⟨⟨g,i,d⟩,⟨j,k,f⟩⟩:=h;cases hp:Lib.parseUintB 64 s.data.toList with
 |ok u=>
  refine sR (Any.strconv_ParseUint_10_at64_ok CL s U u hp a) ?_;rintro e b⟨rfl,m⟩;refine⟨by grind[I.bI,I.p,ET],J ⟨u,?_,z⟩⟩;unfold Lib.parseUintB at hp;split at hp
  .cases hp
  .exact JC _ 0 u cg hp
 |«syntax»=>
  refine sR (Any.strconv_ParseUint_10_at64_syntax CL s U hp _ a d<|bj ⟨g,i,z⟩) ?_;rintro e b⟨N,rfl,_,_,c⟩;exact⟨I.p c,bj ⟨_,_,N,z⟩⟩
 |range=>
  refine sR (Any.strconv_ParseUint_10_at64_range CL s U hp _ a f<|bj ⟨j,k,z⟩) ?_;rintro e b⟨N,rfl,_,_,c⟩;exact⟨I.p c,bj ⟨_,_,N,z⟩⟩
def Jl(s p:af):(∃r,s=p++r)\/(p.size<=s.size->s.extract 0 p.size≠p):=by
 by_cases h:p.size<=s.size/\s.extract 0 p.size=p;refine J ⟨s.extract p.size s.size,?_⟩;let⟨b,a⟩:=h;(have c:p.data.toList=s.data.toList.take p.size:=by have:=cD (λb:af=>b.data.toList) a;rw[rP,tH]at this;rw[<-this];simp[List.extract]);(have d:(s.extract p.size s.size).data.toList=s.data.toList.drop p.size:=by rw[rP,tH];unfold List.extract;exact fA ar);refine ByteArray.ext<|Array.ext' ?_;rw[ByteArray.data_append,nF,d,c,du];exact bj λb a=>h ⟨b,a⟩
def zey(w a:Z)(e:Ending):Prop:=∃(n:R)(ok:eN),n<18446744073709551616/\e=aN (de #[bw n,aO ok])/\I aC w a
def PD(s:af)(v:s.size<=2000000)(A:Pow a)(x:td a):cR bN 174 #[aw s] a λi g=>zey a g i:=by
 have n:=λ(r:af)(t:r.size<=2000000)=>Vw r t x;have p:=λW(u:R)(k:u<18446744073709551616)(h:I aC a W)=>sg u k<|Pow.aA A h id;have l:(∃r:af,r.size<=2000000/\cR bN 238 #[aw s,aw sW] a λi g=>i=aN (de #[aw r,aO cz])/\g=a)\/cR bN 238 #[aw s,aw sW] a λi g=>i=aN (de #[aw s,aO bD])/\g=a:=by obtain⟨r,rfl⟩|h:=Jl s sW;rw[jT]at v;exact J ⟨r,U,Ig sW r cg U a⟩;exact bj<|If s sW v cg h a
 have m:(∃r:af,r.size<=2000000/\cR bN 238 #[aw s,aw II] a λi g=>i=aN (de #[aw r,aO cz])/\g=a)\/cR bN 238 #[aw s,aw II] a λi g=>i=aN (de #[aw s,aO bD])/\g=a:=by obtain⟨r,rfl⟩|h:=Jl s II;rw[jT]at v;exact J ⟨r,U,Ig II r cg U a⟩;exact bj<|If s II v cg h a
 obtain⟨r,t,l⟩|l:=l;(.clear m;(go_in);go_wp21;go_call l as i d⟨rfl,w⟩;subst d;have c:=n r t;go_wp21;go_call c as i d⟨b,⟨u,k,rfl⟩|⟨u,D,N,rfl⟩⟩;(.have o:=p d u k b;clear c;go_wp21;go_call o as i B⟨rfl,f⟩;have e:=ak<|b.t<|I.p (S:=aC) f;clear o f;by_cases q:Af u=r;(.subst q;go_wp2;(go_ret2);exact⟨u,cz,k,z,e⟩);have C:=DA q;go_wp2;(go_ret2);exact⟨0,bD,cg,z,e⟩);have j:=ak b;clear c b;go_wp2;(go_ret2);exact⟨0,bD,cg,z,j⟩);obtain⟨r,t,m⟩|m:=m;(·(go_in);go_wp21;go_call l as i d⟨rfl,w⟩;subst d;go_wp21;go_call m as i d⟨rfl,w⟩;subst d;have c:=n r t;go_wp21;go_call c as i d⟨b,⟨u,k,rfl⟩|⟨u,D,N,rfl⟩⟩;(.have o:=p d u k b;clear c;go_wp21;go_call o as i B⟨rfl,f⟩;have e:=ak<|b.t<|I.p (S:=aC) f;clear o f;by_cases q:Af u=r;(.subst q;go_wp2;(go_ret2);exact⟨u,cz,k,z,e⟩);have:=DA q;go_wp2;(go_ret2);exact⟨0,bD,cg,z,e⟩);have j:=ak b;clear c b;go_wp2;(go_ret2);exact⟨0,bD,cg,z,j⟩);(go_in);go_wp21;go_call l as i d⟨rfl,w⟩;subst d;go_wp21;go_call m as i d⟨rfl,w⟩;subst d;go_wp2;(go_ret2);exact⟨0,bD,cg,z,I.bI _ _⟩
def zct(w w':Z)(e:Ending):Prop:=∃b,e=aN (aO b)/\I aC w w'
def H8(s:af)(e:s.size<=2000000)(d:Pow a)(c:td a):cR bN 129 #[aw s] a λg w'=>zct a w' g:=by
 have b:=PD s e d c;go_in
 go_wp21;go_call b as g i⟨n,ok,_,rfl,f⟩;clear b;cases ok;(all_goals go_wp2;(all_goals go_ret;exact⟨_,z,f⟩))
def zat(w a:Z)(E:Prop)(e:Ending):Prop:=I aC w a/\(e=aN (de #[st0,ib])\/E/\∃q,e=aN (de #[ef #[bw 0,bw 0,bw 0,aF,aF,aF,aF],eW q])/\tB a q)
def Rr{db:R}{K:DK}(h:cJ a db K)(hn:y K.ah<=20000000000)(hp:Pow a)(hE:td a)(N:∀bf∈K.ah.map dj.dA,bf.size<=2000000):cR bN 115 #[aJ db] a λan V=>zat a V (∃bf∈K.ah.map dj.dA,¬Tw a bf) an:=by
 have Q:I aC a (dw (dw a<|aK #[bw 0,bw 0,bw 0,aF,aF,aF,aF] 161)<|aK #[bw 2,bw 1,bw 0,aF,aF,aF,aF] 161):=(cI aC a).aE _;have ap:(dw (dw a<|aK #[bw 0,bw 0,bw 0,aF,aF,aF,aF] 161)<|aK #[bw 2,bw 1,bw 0,aF,aF,aF,aF] 161).heap[G<|H a]?=M (aK #[bw 0,bw 0,bw 0,aF,aF,aF,aF] 161 (0,0)):=(gw _ ar).trans<|aQ _ z;have av:(dw (dw a<|aK #[bw 0,bw 0,bw 0,aF,aF,aF,aF] 161)<|aK #[bw 2,bw 1,bw 0,aF,aF,aF,aF] 161).heap[G (H a)+1]?=M (aK #[bw 2,bw 1,bw 0,aF,aF,aF,aF] 161 (0,0)):=aQ _ ar;have aU:=CJ (db:=db) (K:=K) (h.aA Q<|λ_ _=>id) U;obtain⟨ad,B,C,HP,HA,HE⟩:=nT Q ap av hp N hE;go_in
 go_wp2_with fail
 apply aU.mono;rintro an w3⟨v3,d,rfl,v,P,w⟩;obtain⟨x3,c3,bc⟩:=aM P;subst bc;have ao:=ad.t w;have ax:=(w.A _ (az B) id).trans B;have aD:=(w.A _ (az C) id).trans C;have bl:y d<=20000000000:=zY v.length_eq;have ba:∀x∈d,x.size<=2000000:=λx hx=>HA x<|v.mem_iff.1 hx;obtain⟨L,r,D,E,ab⟩:=nZ P ao ax aD ba;have ac:=ak v;go_wp2;go_loopw [13] (λi wr=>∃(p:R),p<=y d/\i=ay p/\I aC w3 wr) (λi _=>y d-(intOf i).toNat)
 case atStart=>exact⟨0,bQ _,dM,I.bI _ _⟩
 (case round=>obtain⟨p,hj,rfl,A⟩:=hrel;have o:=(A.A _ (az D) id).trans D;have c:=(A.A _ (az E) id).trans E;by_cases k:p<y d;(.have e1:(p:Y)<(y d:Y):=U;have e2:(0:Y)<=(p:Y):=U;have t:=(ag r).t A;(have O:cR bN 174 #[aw d[p]] wr λan V=>∃(l:R)(ok:eN),an=aN (de #[bw l,aO ok])/\I aC wr V/\(2<l->∃bf∈K.ah.map dj.dA,¬Tw a bf):=by by_cases T:Tw a d[p];obtain⟨l,ok,h2,h3⟩:=T;exact(h3 wr t).mono<|λan V a=>⟨l,ok,a.1,a.2,λq=>U⟩;refine(PD d[p] ((ag ab) _<|aB k) (Pow.aA HP t id)<|(ag HE).aA t id id).mono ?_;rintro an V⟨l,ok,_,rfl,g⟩;exact⟨l,ok,z,g,λ_=>⟨d[p],(ag ac).mem_iff.1<|aB k,T⟩⟩);(have u:∃bi e,x3=M (X bi e)/\bA wr (X bi<|e+p)=M (aw d[p]):=by obtain⟨q1,⟨q2,q0⟩|⟨bm,T,bd,q2,bk,hc⟩⟩:=dQ L;omega;cases q2;refine⟨bm,T,z,?_⟩;(have hg:(strs d)[p]?=M (aw d[p]):=by simp[strs,k]);exact A.u (hc _ _ hg) id (L.lt bm z).2);obtain⟨bi,e,hx,u⟩:=u;subst hx;obtain⟨HT,m,F⟩:=eU A o c;generalize d[p]=bh at*;(go_wp2_with fail);apply O.mono;rintro an W⟨l,ok,rfl,g,n⟩;have S:=(g.A _ (az F) id).trans F;have b:=(g.A _ (az m) id).trans m;have y0:=aX S 0;have s:=ak<|(ag HT).t g;have al:=ak b;clear O g S u;cases ok;(.clear b n;go_wp2;go_roundw;(case rel=>exact⟨p+1,k,dM,s⟩);case measure=>simp[intOf];omega);by_cases j:2<l;rotate_left;(.have aV:¬(2:Y)<(l:Y):=U;clear b j n;go_wp2;go_roundw;(case rel=>exact⟨p+1,k,dM,s⟩);case measure=>simp[intOf];omega);have aV:(2:Y)<(l:Y):=U;have aa:=ak<|n j;clear n;have z0:=aX b 0;have z1:=aX b 1;have z2:=aX b 2;have z3:=aX b 3;have z4:=aX b 4;have z5:=aX b 5;have z6:=aX b 6;(have fz:∀i,iH W (X (G<|H a) i)=bD:=λi=>by simp[World.frozen?,b]);have bg:=az b;clear b j;go_wp21;have f:=aY (i:=6) (u:=aF)<|aY (i:=5) (u:=aF)<|aY (i:=4) (u:=aF)<|aY (i:=3) (u:=aF)<|aY (i:=2) (u:=bw 0)<|aY (i:=1) (u:=bw 0)<|aY (i:=0) (u:=bw 0)<|ag al;have hT:=(ag r).t<|ag s;have hR:=((((((hT.aL _ 0 (bw 0)<|bj<|aq _).aL _ 1 (bw 0)<|bj<|aq _).aL _ 2 (bw 0)<|bj<|aq _).aL _ 3 aF<|bj<|aq _).aL _ 4 aF<|bj<|aq _).aL _ 5 aF<|bj<|aq _).aL _ 6 aF<|bj<|aq _;(have bb:G (H<|cP (cP (cP (cP (cP (cP (cP W (X (G<|H a) 0)<|bw 0) (X (G<|H a) 1)<|bw 0) (X (G<|H a) 2)<|bw 0) (X (G<|H a) 3) aF) (X (G<|H a) 4) aF) (X (G<|H a) 5) aF) (X (G<|H a) 6) aF)=G (H W):=by simp[gJ]);refine ci (mD z _ _ (G<|H a) 0 0 0 _ _ _ _ _ _ z ((gw _<|az f).trans f) ⟨_,_,_,z⟩ ⟨_,_,_,z⟩ ⟨_,_,_,z⟩ ⟨_,_,_,z⟩) z ?_;exact⟨hR.aE _,bj ⟨ag aa,G<|H W,z,10,⟨fj,aQ _ bb.symm,tO⟩,cg⟩⟩);have e1:¬(p:Y)<(y d:Y):=U;have y0:=aX c 0;have b:=aX c 1;have e:=aX c 2;have g:=aX c 3;have j:=aX c 4;have l:=aX c 5;have n:=aX c 6;(have fz:∀i,iH wr (X (G<|H a) i)=bD:=λi=>by simp[World.frozen?,o]);(have m9:∀i,i<7->∃x,bA wr (X (G<|H a) i)=M x:=λi b=>by rw[cE o];simp_all);obtain⟨u0,z0⟩:=m9 0 U;obtain⟨u1,z1⟩:=m9 1 U;obtain⟨u2,z2⟩:=m9 2 U;obtain⟨u3,z3⟩:=m9 3 U;obtain⟨u4,z4⟩:=m9 4 U;obtain⟨u5,z5⟩:=m9 5 U;obtain⟨u6,z6⟩:=m9 6 U;have HT:=ak A;have m:=ak o;go_wp2;have f:=aY (i:=6) (u:=aF)<|aY (i:=5) (u:=aF)<|aY (i:=4) (u:=aF)<|aY (i:=3) (u:=aF)<|aY (i:=2) (u:=bw 0)<|aY (i:=1) (u:=bw 1)<|aY (i:=0) (u:=bw 2) m;refine ci (mD z _ _ (G<|H a) 2 1 0 _ _ _ _ _ _ z f ⟨_,_,_,z⟩ ⟨_,_,_,z⟩ ⟨_,_,_,z⟩ ⟨_,_,_,z⟩) z ?_;refine⟨?_,J z⟩;have hT:=r.t HT;exact((((((hT.aL _ 0 _<|bj<|aq _).aL _ 1 _<|bj<|aq _).aL _ 2 _<|bj<|aq _).aL _ 3 _<|bj<|aq _).aL _ 4 _<|bj<|aq _).aL _ 5 _<|bj<|aq _).aL _ 6 _<|bj<|aq _)
def stZ:ae:=ef #[bw 0,bw 0,bw 0,aF,aF,aF,aF]
structure LdG(w w':Z)(K:DK)(nx lg bt:R)(vs:iE)(Ds:cy (cy Mk)):Prop where
 f:nx<18446744073709551616/\lg<18446744073709551616/\bt<18446744073709551616
 dL:y Ds=4
 ok:∀D∈Ds,∀m∈D,m.Ok
 l:∀(j:R)(v:ae)(D:cy Mk),vs[j]?=M v->Ds[j]?=M D->fD w' (G<|H w) 234 4 v (y D) (mY D)
 L:fo (vw K.ah) fj=M (Q7 nx lg bt Ds)\/(fo (vw K.ah) fj=dE/\Ds=[[],[],[],[]]/\nx=2/\lg=1/\bt=0)
def LdP(w c:Z)(a:R)(K:DK)(r:Ending):Prop:=∃b,pR w c a K b/\wR K b/\(∀s,b.j a s->K.j a s)/\((∃(k f d:R)(l:Option Addr)(g e:R)(m:Option Addr)(h c1:R)(n:Option Addr)(i c2:R)(o:Option Addr)(j c3:R)(p:cy (cy Mk)),r=aN (de #[ef #[bw k,bw f,bw d,am l g e,am m h c1,am n i c2,am o j c3],ib])/\LdG w c K k f d [am l g e,am m h c1,am n i c2,am o j c3] p)\/(fo (vw K.ah) fj≠dE\/0<K.fx.bd\/∃W,∃t∈K.ah.map dj.dA,I (K.j a) w W/\¬Tw W t)/\∃q,r=aN (de #[stZ,eW q])/\tB c q)
def td.D(h:td a)(d:pR a e b f x)(c:¬f.j b 3/\¬f.j b 4):td e:=h.aA d.aA c.1 c.2
def YX(h:cJ a b f)(hn:y f.ah<=20000000000)(hT:Steps a)(hp:Pow a)(hE:td a)(bf:¬f.j b 1)(bd:¬f.j b 2)(ac:¬f.j b 3/\¬f.j b 4)(O:∀ca∈f.ah,Nm ca.dA)(S:∀bs,fo (vw f.ah) fj=M bs->y bs<=10000000000000):cR bN 67 #[aJ b] a λV w'=>LdP a w' b f V:=by
 obtain⟨W1,N⟩:=og<|dw a<|aK #[bw 0,bw 0,bw 0,aF,aF,aF,aF] 161;have o:I aC a W1:=by rw[<-N];exact(cI aC a)
 have ax:W1.heap[G<|H a]?=M (aK #[bw 0,bw 0,bw 0,aF,aF,aF,aF] 161 (0,0)):=by rw[<-N];exact aQ _ z
 have ad:¬f.j b (G<|H a):=λbg=>bP<|h.lt _ bg;have aU:pR a W1 b f f:=(pR.bI h).bH o;have r:=ak (show∀(g:Z)(i:DK)(al av bg:Y)(E F A K:ae),pR a g b f i->(∀bL,i.j b bL->f.j b bL)->g.heap[G<|H a]?=M (aK #[bw 0,bw 0,bw 0,aF,aF,aF,aF] 161 (0,0))->(Gp g (G<|H a) al av bg E F A K).heap[G<|H a]?=M (aK #[bw al,bw av,bw bg,E,F,A,K] 161 (0,0))/\pR a (Gp g (G<|H a) al av bg E F A K) b f i/\∀q,tB g q->tB (Gp g (G<|H a) al av bg E F A K) q fromλg i al av bg E F A K P hf hb=>by have m:=uJ g (G<|H a) al av bg E F A K;exact⟨KY hb,⟨P.ok.aA m<|λbL hk V=>ad<|V▸hf bL hk,P.aA.aj m ar,P.j,P.fx⟩,λq u=>u.aA m (λbL hk _=>by rw[hk];exact⟨_,161,_,hb,cg⟩)⟩);have aa:=ak aU;have B:=ak ax;have bk:=ak N;have ap:=ak ad;cases hm:fo (vw f.ah) fj with
 |none=>
  have t:=Jv (db:=b) (K:=f) fj (w:=W1) (h.aA o<|λ_ _=>id) hm tO;have HX:=ak (show∀k i,pR W1 k b f i->wR f i->cR bN 115 #[aJ b] k λV w'=>zat k w' (∃cc,∃ca∈f.ah.map dj.dA,I (f.j b) a cc/\¬Tw cc ca) V fromλk i P hs=>by
   have m:Pow k:=(hp.aA o id).aA P.aA bd;have g:td k:=(hE.aA o id id).aA P.aA ac.1 ac.2;refine(Rr (db:=b) (K:=i) P.ok (by rw[hs.1];exact hn) m g (by rw[hs.1];intro ca hf;obtain⟨al,hg,rfl⟩:=cC.1 hf;exact O al hg)).mono ?_;rintro V w'⟨x,D⟩;refine⟨x,D.imp id (λ⟨⟨ca,hf,u⟩,r⟩=>⟨⟨k,ca,by rw[<-hs.1];exact hf,(o.aT (T:=f.j b) cY).aj P.aA (λ_ bg=>J bg),u⟩,r⟩)⟩)
  unfold fj at t;unfold zat st0 at HX;have HM:=ak hm;clear h hT hp hE O hm o ax N bd bf ac ad aU S;go_in
  go_wp2_with fail
  rw[ag bk];apply t.mono;rintro V k⟨i,q,bg,e,n,l,rfl,u,hc⟩;have c:=(e.aA.A _ (az B) ap).trans B;have C:bA k (X q 1)=M (ay bg):=by obtain⟨bp,u,_⟩:=u;exact aX u 1
  obtain rfl|⟨rfl,aD⟩:=hc
  .have w:=Ub q 10 k C;have g:=HX k i e n;obtain⟨ab,s,j,v⟩:=jr (aa.aj e) n l c;clear e n l u t HX;go_wp2_with fail
   apply w.mono;rintro V w1⟨rfl,hw⟩;subst w1;go_wp2_with fail
   apply g.mono;rintro V W⟨p,rfl|⟨m,q3,rfl,al⟩⟩
   .have d:=(p.A _ (az v) id).trans v;have t0:=aX d 0;have t1:=aX d 1;have t2:=aX d 2;have t3:=aX d 3;have t4:=aX d 4;have t5:=aX d 5;have t6:=aX d 6;have fz:∀an,iH W (X (G<|H a) an)=bD:=λan=>by simp[World.frozen?,d]
    have Q:=az d;have L:=ak<|ag r W i 2 1 0 aF aF aF aF (ab.bH p) j d;clear d p g w c C;go_wp2;obtain⟨x,D,_⟩:=ag L;refine ci (mD z _ _ (G<|H a) 2 1 0 _ _ _ _ _ _ z x ⟨_,_,_,z⟩ ⟨_,_,_,z⟩ ⟨_,_,_,z⟩ ⟨_,_,_,z⟩) z ?_;refine⟨i,D,s,j,J ⟨2,1,0,dE,0,0,dE,0,0,dE,0,0,dE,0,0,[[],[],[],[]],z,⟨cg,z,ar,λcd cl ce hv hD=>?_,bj ⟨HM,z,z,z,z⟩⟩⟩⟩;have V:cl=aF/\ce=[]:=by
     obtain _|_|_|_|cd:=cd<;>simp at hv hD<;>exact⟨hv.symm,hD⟩
    rw[V.1,V.2];exact ct _ _ _ _
   .have d:=(p.A _ (az v) id).trans v;have t0:=aX d 0;have t1:=aX d 1;have t2:=aX d 2;have t3:=aX d 3;have t4:=aX d 4;have t5:=aX d 5;have t6:=aX d 6;have fz:∀an,iH W (X (G<|H a) an)=bD:=λan=>by simp[World.frozen?,d]
    have Q:=az d;have L:=ak<|ag r W i 0 0 0 aF aF aF aF (ab.bH p) j d;obtain⟨av,aV⟩:=And.intro (ak m) (ak al);clear d p g w c C m al;go_wp2;obtain⟨x,D,q3⟩:=ag L;refine ci (mD z _ _ (G<|H a) 0 0 0 _ _ _ _ _ _ z x ⟨_,_,_,z⟩ ⟨_,_,_,z⟩ ⟨_,_,_,z⟩ ⟨_,_,_,z⟩) z ?_;exact⟨i,D,s,j,bj ⟨bj<|bj av,_,z,q3 _ aV⟩⟩
  .have w:=CQ q 8 10 cg k C;have t0:=aX c 0;have t1:=aX c 1;have t2:=aX c 2;have t3:=aX c 3;have t4:=aX c 4;have t5:=aX c 5;have t6:=aX c 6;have fz:∀an,iH k (X (G<|H a) an)=bD:=λan=>by simp[World.frozen?,c]
   have bb:=az c;have L:=ak<|ag r k i 0 0 0 aF aF aF aF (aa.aj e) l c;obtain⟨HQ,s,j,ao⟩:=jr u n l aD;clear e n l u c t HX;go_wp2_with fail
   apply w.mono;rintro V w1⟨rfl,hw⟩;subst w1;go_wp2;obtain⟨x,D,q3⟩:=ag L;refine ci (mD z _ _ (G<|H a) 0 0 0 _ _ _ _ _ _ z x ⟨_,_,_,z⟩ ⟨_,_,_,z⟩ ⟨_,_,_,z⟩ ⟨_,_,_,z⟩) z ?_;exact⟨i,D,s,j,bj ⟨bj<|J ao,_,z,q3 _ ⟨8,HQ,cg⟩⟩⟩
 |some bs=>
  have t:=TO (db:=b) (K:=f) fj (w:=W1) (h.aA o<|λ_ _=>id) hm tO;have ba:ki bs:=by
   obtain⟨al,hF,m⟩:=yG hm;rw[<-m];exact(h.ah al (eM hF).2.1).2.2.1
  have HX:=ak (show∀k i v2,pR W1 k b f i->fy k (G<|H W1) v2 bs->cR bN 116 #[v2] k λV w'=>DcP k w' bs V fromλk i v2 P m=>
   SY (Steps.aA (Steps.aA hT o id) P.aA bf) (fy.bB m) ba (S bs hm) (λbL hk=>(fy.lt m bL hk).2))
  have ba:=λcc=>Zh 10 cc;have cj:∀a:Z,(binOp .neq 44 ib ib).run bN a=.ok (aO bD) a:=λ_=>rfl;have cb:∀(x:eN)(a:Z),(Op.unary .not<|aO x).run bN a=.ok (aO<|!x) a:=λ_ _=>rfl;unfold fj at t;have HM:=ak hm;have bv:=ak<|show G (H a)<=G (H W1)from o.D;clear h hT hp hE O hm o ax N bd bf ac ad aU S;go_in
  go_wp2_with fail
  rw[ag bk];apply t.mono;rintro V k⟨i,e,n,l,⟨v2,rfl,bc⟩|⟨aD,q,rfl,u⟩⟩;rotate_left
  .have c:=(e.aA.A _ (az B) ap).trans B;have C:bA k (X q 1)=M (ay 8):=by obtain⟨bp,u,_⟩:=u;exact aX u 1
   have w:=CQ q 8 10 cg k C;have t0:=aX c 0;have t1:=aX c 1;have t2:=aX c 2;have t3:=aX c 3;have t4:=aX c 4;have t5:=aX c 5;have t6:=aX c 6;have fz:∀an,iH k (X (G<|H a) an)=bD:=λan=>by simp[World.frozen?,c]
   have bb:=az c;have L:=ak<|ag r k i 0 0 0 aF aF aF aF (aa.aj e) l c;obtain⟨HQ,s,j,ao⟩:=jr u n l aD;clear e n l u c t HX;go_wp2_with fail
   apply w.mono;rintro V w1⟨rfl,hw⟩;subst w1;go_wp2;obtain⟨x,D,q3⟩:=ag L;refine ci (mD z _ _ (G<|H a) 0 0 0 _ _ _ _ _ _ z x ⟨_,_,_,z⟩ ⟨_,_,_,z⟩ ⟨_,_,_,z⟩ ⟨_,_,_,z⟩) z ?_;exact⟨i,D,s,j,bj ⟨bj<|J ao,_,z,q3 _ ⟨8,HQ,cg⟩⟩⟩
  have c:=(e.aA.A _ (az B) ap).trans B;have aV:=HX k i v2 e bc;obtain⟨A,c2,bE⟩:=aM bc;subst bE;have ck:=e.aA.D;obtain⟨ab,s,j,v⟩:=jr (aa.aj e) n l c;clear e n l t HX bc c;obtain⟨BL,bl⟩:=og<|y bs;rw[bl]at aV|-;clear bl;go_wp2_with fail
  apply(ba _).mono;rintro V bT⟨rfl,hw⟩;subst bT;go_wp2_with fail
  apply aV.mono;rintro V W⟨nx,lg,bt,E,n0,c0,F,n1,c1,A,n2,c2,K,n3,c3,ok,rfl,p,bn⟩;have g:=(p.A _ (az v) id).trans v;have bh:=ak<|ab.bH p;have bi:=ak bn;clear aV p bn;cases ok
  .have d:(dw W<|aK #[bw nx,bw lg,bw bt,am E n0 c0,am F n1 c1,am A n2 c2,am K n3 c3] 161).heap[G<|H a]?=M (aK #[bw 0,bw 0,bw 0,aF,aF,aF,aF] 161 (0,0)):=(gw _<|az g).trans g;have ch:=az g;clear g;go_wp2_with fail
   obtain⟨W4,av⟩:=og<|dw W<|aK #[bw nx,bw lg,bw bt,am E n0 c0,am F n1 c1,am A n2 c2,am K n3 c3] 161;rw[av]at d|-;have bq:=ak (show pR a W4 b f i by rw[<-av];exact(ag bh).bH<|cI _ _);clear av;apply(tT fj W4).mono;rintro V w5⟨rfl,al⟩;have m:w5.heap[G<|H a]?=M (aK #[bw 0,bw 0,bw 0,aF,aF,aF,aF] 161 (0,0)):=by rw[al];exact(gw _<|az d).trans d
   have bo:tB w5 (G<|H W4):=by rw[al];exact tB.lX W4 tO
   have bm:pR a w5 b f i:=by rw[al];exact(ag bq).bH<|cI _ _
   have t0:=aX m 0;have t1:=aX m 1;have t2:=aX m 2;have t3:=aX m 3;have t4:=aX m 4;have t5:=aX m 5;have t6:=aX m 6;have fz:∀an,iH w5 (X (G<|H a) an)=bD:=λan=>by simp[World.frozen?,m]
   have bx:=az m;have L:=ak<|ag r w5 i 0 0 0 aF aF aF aF bm j m;have br:=ak bo;clear m bo bm al d;go_wp2;obtain⟨x,D,q3⟩:=ag L;refine ci (mD z _ _ (G<|H a) 0 0 0 _ _ _ _ _ _ z x ⟨_,_,_,z⟩ ⟨_,_,_,z⟩ ⟨_,_,_,z⟩ ⟨_,_,_,z⟩) z ?_;exact⟨i,D,s,j,bj ⟨J (by rw[ag HM];simp),_,rfl,q3 _ br⟩⟩
  .obtain⟨m,Ds,g1,g2,g3,g4⟩:=ag bi rfl;have L:=ak<|ag r W i nx lg bt (am E n0 c0) (am F n1 c1) (am A n2 c2) (am K n3 c3) (ag bh) j g;have HG:=ak (show∀o,LdG a ((Gp W (G<|H a) nx lg bt (am E n0 c0) (am F n1 c1) (am A n2 c2)<|am K n3 c3).alloc o) f nx lg bt [am E n0 c0,am F n1 c1,am A n2 c2,am K n3 c3] Ds fromλo=>by
    refine⟨m,g1,g3,λcd cl ce hv hD=>?_,J (by rw[ag HM,g2])⟩;have hr:=g4 cd cl ce hv hD;have al:=ag bv;refine fh (bC ((uJ _ (G (H a)) nx lg bt _ _ _ _).aZ hr (λq u V=>?_)) _) U;have:=(aS hr q u).1;have:=az (ag v);have:q=G (H a):=V;omega)
   have t0:=aX g 0;have t1:=aX g 1;have t2:=aX g 2;have t3:=aX g 3;have t4:=aX g 4;have t5:=aX g 5;have t6:=aX g 6;have fz:∀an,iH W (X (G<|H a) an)=bD:=λan=>by simp[World.frozen?,g]
   have Q:=az g;clear g g1 g2 g3 g4 m bi;go_wp21;obtain⟨x,D,q3⟩:=ag L;refine ci (mD z _ _ (G<|H a) nx lg bt _ _ _ _ _ _ z ((gw _<|az x).trans x) ⟨_,_,_,z⟩ ⟨_,_,_,z⟩ ⟨_,_,_,z⟩ ⟨_,_,_,z⟩) z ?_;exact⟨i,D.bH<|cI _ _,s,j,J ⟨nx,lg,bt,E,n0,c0,F,n1,c1,A,n2,c2,K,n3,c3,Ds,z,ag HG _⟩⟩
