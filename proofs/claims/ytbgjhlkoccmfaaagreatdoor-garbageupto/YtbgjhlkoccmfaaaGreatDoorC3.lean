import Derived.Laws.CopyRow
import Derived.Laws.NewBlocks
import Derived.Lib.AppendZerosOnto
import Derived.Lib.Overlaps
import Derived.Shelf.RegionOpenPlain
import Derived.Test.YtbgjhlkoccmfaaaGreatDoorC2
open _root_ renaming List.length→y,Option.some→M,Array.size→G,Go.World.heap→H,Go.Value.ownBlock→cN,Go.World.cell?→bA,Go.World.setCell→cP,Go.World.alloc→dw,Bool.false→bD,Bool.true→cz,Nat→R,Int→Y,List→cy,Go.Calls→cR,Go.undef→jn,Go.Proofs.Tryz.prog→bN,Go.Value.slice→am,Go.Value.string→aw,Go.Value.bool→aO,Go.Value.pointer→ee,Go.Value.tuple→de,Go.World.frozen?→iI,Go.World.ownsRow→fE,Go.Value.nilIface→ic,Go.Act.put→ii,Nat.reduceAdd→ke,Go.RowKit.Below→gD,Bool→eN,Option.none→dE,rfl→z,Or.inl→J,Or.inr→bu
namespace Go.Proofs.YtbgjhlkoccmfaaaGreatDoor
open ChangeShapes WideShapes RowKit Proofs.Tryz List
set_option maxHeartbeats 16000000
set_option linter.all false
set_option maxRecDepth 100000
variable{a e P:Z}{b c k:R}{d w:ae}{f:DK}{i:dB}{m:eD}{W:fC}{r:Y}{s:jv}{B:af}{K:Prop}{Q:iF}{S:E}{V:eN}
section
open Shelf
attribute [local go_sem] Oper.semAt_some
def PQ(f:R)(a:Array ae)(w:Z):cR bN 214 #[.func (.func f) #[] a] w λe b=>e=aN (.func (.func 264) #[] #[aJ<|G<|H w])/\b=dw w (aK #[.func (.func f) #[] a] 288):=by
 go_in
 go_wp2;go_ret;simp_all
def oP:(prog.info? 223).map (λi=>(i.zero,i.size,i.bytes))=M (M yu,4,48):=aH
structure ze(V:jv)(S:fC)(w0:Z)(N:R)(pre:dB)(B:fC)(W:Z):Prop where
 d:fF W (G<|H w0) aF 103
 f:fF W (G (H w0)+1) ic 44
 bV:∃v,fF W (G (H w0)+2) v 103/\fE W (G (H w0)+3) 223 4 v (y pre) (bj pre)/\(∀k,B k↔k=G (H w0)\/k=G (H w0)+1\/k=G (H w0)+2\/cN v=M k)
 le:y pre<=N
 aA:I (λk=>S k\/V.F k) w0 W
def ze.lt{S:fC}(h:ze s S a c i W e):∀k,W k->G (H a)<=k/\k<G (H e):=by
 intro k m;let⟨v,n,g,j⟩:=h.bV;obtain d|d|d|d:=(j k).1 m;grind
 grind
 grind
 have:=g.lt k d;grind
def ze.gR{B:fC}{T:fC}(h:ze s W a b i B e)(c:I T e P)(j:∀k,T k->¬B k/\((W k\/s.F k)\/G (H a)<=k)):ze s W a b i B P:=by
 let⟨v,d,f,g⟩:=h.bV;exact⟨(c.A _ (az h.d) aI).trans h.d,(c.A _ (az h.f) aI).trans h.f,⟨v,(c.A _ (az d) aI).trans d,c.aZ f aI,g⟩,h.le,h.aA.aj c<|λk l=>(j k l).2⟩
def yn{b:Func}{p q:Tmp}{c:TypeId}(h:b.results=#[.cell p c,.cell q 44]){l:TypeId}(i:prog.underlying c=M (.slice l))(a:Array ae)(w:Z)(d e:R)(u v:ae)(j:a.getD p jn=aJ d)(k:a.getD q jn=aJ e)(f:bA w (X d 0)=M u)(g:bA w (X e 0)=M v):(results b a).run bN w=.ok (de #[u,v]) w:=by
 simp[results,h,(dV j:a[p]?.getD jn=aJ d),(dV k:a[q]?.getD jn=aJ e),asAddr,loadVar,isAgg,underlying,i,underlying44,f,g,Result.andThen]
def gm{O:Fence}{P:Program}(A:Z){l:Array Oper}{e:cy Oper}{E:Oper}{F:Act}{aa:Exit->Act->Z->Prop}(s:E.guard=dE)(ad al:Operand)(K:TypeId)(t:E.op=.call {callee:=.builtin .append,args:=#[ad,al],argTypes:=#[K,K]})(o:R)(B:TypeId)(C:TypeInfo)(m9:ae)(a bytes:R)(ht:P.underlying K=M (.slice B))(S:P.info? B=M C)(hz:C.zero=M m9)(i:C.size=a)(r:C.bytes=bytes)(v:m9.cells.size=a)(u:0<a)(N:ae)(D:R)(w:iF)(W:F.eval ad=N)(j:fE A o B a N D w)(p:Addr)(x ab:R)(c:iF)(hx:F.eval al=am (M p) x ab)(V:y c=x*a)(g:∀ac L,c[ac]?=M L->bA A (p.add ac)=M L)(Q:∀L∈c,L.oneCell'=cz)(hn:D+x<=140737488355328)(d:(D+x)*bytes<=140737488355328)(f:o<=G (H A))(h:∀m n,fE n o B a m (D+x) (w++c)->fo A n N m->wpListIn O b P l aa e (F.put E.dst m) n):wpListIn O b P l aa (E::e) F A:=by
 refine zk s λan q=>?_;let⟨m,n,k,r1,r2,r3,r4⟩:=oX (P:=P) A o K E.type B C m9 a bytes ht S hz i r v u N D w j p x ab c V g Q (by unfold maxLen;omega) d f;unfold Oper.wpIn;refine⟨?_,?_⟩;simp[Oper.about,t,resolve,Target.leads,rJ];rw[Oper.semAt_plain O _ _ (by rw[t];grind)];simp[execOp,t,resolve,invoke,builtin,W,hx,k,Result.andThen];exact q _ _<|h m n r1<|fo.of r2 r4
theorem yN(w:Z)(x:E)(t:TypeId):∀j u,(bj [x])[j]?=M u->bA (dw w<|aK #[aw x.D,aw x.l,aO x.dP,bw x.f] t) (((X (G<|H w) 0):Addr).add j)=M u:=by
 intro j u a;rw[dS];rw[cE (aQ _ rfl:(dw w<|aK #[aw x.D,aw x.l,aO x.dP,bw x.f] t).heap[G<|H w]?=M (aK #[aw x.D,aw x.l,aO x.dP,bw x.f] t (0,0))),ez];simpa[bj,E.bU]using a
theorem DT(x:E):∀u∈bj [x],u.oneCell'=cz:=by
 intro u a;simp[bj,E.bU]at a;obtain rfl|rfl|rfl|rfl:=a<;>rfl
def ze.jl{c:dB}{B:fC}{x:E}{K:Obj}(h:ze s W a b c B e)(t:fF e (G (H a)+2) d 103)(L:∀k,B k↔k=G (H a)\/k=G (H a)+1\/k=G (H a)+2\/cN d=M k)(D:fE e (G (H a)+3) 223 4 d (y c) (bj c))(N:y c+1<=b)(A:fo (dw e K) P d w)(j:fE P (G (H a)+3) 223 4 w (y c+1) (bj c++bj [x])):∃u,ze s W a b (c++[x]) u (cP P (X (G (H a)+2) 0) w)/\I B e (cP P (X (G (H a)+2) 0) w)/\(∀k,u k->B k\/G (H e)<=k):=by
 have:∀k,cN d=M k->G (H a)+3<=k/\k<G (H e):=λk f=>D.lt k f;have:∀k,cN w=M k->G (H a)+3<=k:=λk f=>(j.lt k f).1;have O:=az t;have n:I (λk=>cN d=M k) e P:=((I.bI (λk=>cN d=M k) e).aE K).aj (I.eF (S:=λk=>cN d=M k) A.dF<|λk f=>.inl f)<|λk f=>.inl f;have g:∀k,k<G (H a)+3->¬cN d=M k:=aI;have o:fF P (G<|H a) aF 103:=(n.A _ (az h.d)<|g _ U).trans h.d;have q:fF P (G (H a)+1) ic 44:=(n.A _ (az h.f)<|g _ U).trans h.f;have r:fF P (G (H a)+2) d 103:=(n.A _ (az t)<|g _ U).trans t;have l:I B e (cP P (X (G (H a)+2) 0) w):=(n.aT (T:=B) aI).aL _ _ _ aI;refine⟨λk=>k=G (H a)\/k=G (H a)+1\/k=G (H a)+2\/cN w=M k,⟨o.dN _ U,q.dN _ U,⟨w,r.gu _,?_,λk=>tq⟩,by simp;omega,?_⟩,l,?_⟩;have v:y (c++[x])=y c+1:=ar;rw[v,ig];exact j.kept (eG P _ _ _) aI;exact h.aA.aj l aI;rintro k(v|v|v|v);(grind);(grind);(grind);obtain F|⟨Q,F,C⟩:=A.f;(grind);rw[F]at v;cases v;simp at C;grind
def CZ(V:jv)(S:fC)(a:Z)(B:fC)(W:Z):Prop:=∃q,V.Xp/\tD W q/\fF W (G<|H a) aF 103/\fF W (G (H a)+1) (eW q) 44/\V.D W/\I (λk=>S k\/V.F k) a W/\B (G<|H a)/\B (G (H a)+1)
def CZ.gR{B T:fC}(h:CZ s W a B e)(c:I T e P)(n:∀k,T k->¬B k/\b<=k/\∃L,e.heap[k]?=M (.loop L))(v:∀k,T k->¬B k/\G (H a)<=k)(hF:∀k,T k->¬s.F k):CZ s W a B P:=by
 let⟨q,w,⟨r,⟨d,o,g⟩,f⟩,l,m,u,t,i,j⟩:=h;refine⟨q,w,⟨r,⟨d,(c.A _ (az o)<|λp=>?_).trans o,g⟩,f⟩,(c.A _ (az l)<|λp=>(n _ p).1 i).trans l,(c.A _ (az m)<|λp=>(n _ p).1 j).trans m,s.l u c hF,t.aj c aI,i,j⟩;grind
def ER(hg:kA s c d i W a)(hD:s.D a)(hl:y i<=40000000000):cR bN 147 #[d] a λbE w'=>(∃v',bE=aN (de #[v',ic])/\fE w' (G<|H a) 223 4 v' (y i) (bj i)/\s.D w'/\I (λk=>W k\/s.F k) a w')\/Et s a w' (λk=>W k\/s.F k) bE (λd=>de #[aF,d]):=by
 obtain⟨bv,cb,rfl,he,hr⟩:=hg;let⟨HE,HR,HD⟩:=eU he hr hD;let⟨i0,bm,bn,bo,av⟩:=cZ oP;apply(ew (n:=3)).1;refine callsIn_of_wp_marks func147 z trivial ?_ z;simp only[ntmps147,gp,bK,eE,ke,Nat.reduceSub,fh,fc,gq,fH,ep,dt];gi_wp2_with(refine⟨trivial,?_⟩;gi_at_call 214;apply(ew.2<|(PQ bv cb) _).mono;rintro bE w1⟨rfl,rfl⟩)
 have hr:=ag HR;let⟨W0,w⟩:∃W0,(dw (dw (dw (dw a<|aK #[aF] 103)<|aK #[ic] 44)<|aK #[aF] 103)<|aK #[.func (.func bv) #[] cb] 288)=W0:=⟨_,rfl⟩;have cm:G (H W0)=G (H a)+4:=by rw[<-w];simp
 have O:I aC a W0:=w▸(((cI aC a).aE _).aE _).aE _;have bg:ze s W a (y i) [] (λk=>k=G (H a)\/k=G (H a)+1\/k=G (H a)+2) W0:=by refine⟨?_,?_,⟨aF,?_,ct _ _ _ _,λk=>by simp[cN]⟩,bQ _,O.aT cY⟩;rw[<-w];grind[fF.aE,aQ];rw[<-w];exact fF.aE (fF.aE (aQ _ ar) _) _;rw[<-w];exact fF.aE (aQ _ ar) _
 have cl:=hr.aZ.D;have bL:∀k,W k->k<G (H a):=λk u=>(hr.aZ.bZ k u).2;rw[w];have aU:∀k,G (H a)<=k->¬s.F k:=λk u hf=>bP<|hr.aZ.f k hf;refine tK (arg:=MH) (m:=3) (V:=s) (n0:=c) (gf:=264) (lb:=#[aJ<|G (H a)+3]) (pp:=upX s i) (ff:=zam i) (S:=λk=>W k\/k=G (H a)+3) aI ?geval (enters_of func264 aH z) aI (Ke 2 cb (w▸aQ _ ar:fF W0 (G (H a)+3) (.func (.func bv) #[] cb) 288) HE (hr.bM (O.bM hr.aZ.D (λk u=>⟨(hr.aZ.bZ k u).2,λD=>D⟩) cY):Dq s c bv cb i W W0) U aI) (s.l HD O cY:s.D W0) U ?slt (λl' S B=>∃e,l'=e.map Sum.inl/\ze s W a (y i) e S B) (λD _ S B=>D=.ret/\CZ s W a S B) (λk=>k=G (H a)\/k=G (H a)+1\/k=G (H a)+2) ⟨[],z,bg⟩ ?sb ?lt ?st ?xst ?body ?done ?stop;rfl;grind
 grind
 rintro _ S B⟨e,rfl,h⟩k u;have:=h.lt k u;grind
 rintro _ S B W' T⟨e,rfl,h⟩ht hT;refine⟨e,z,h.gR ht<|λk u=>⟨(hT k u).1,?_⟩⟩;grind
 rintro D e S B W' T⟨h1,V⟩ht hT;exact⟨h1,V.gR ht hT (aI:∀k,T k->¬S k/\G (H a)<=k) aI⟩;(case stop=>rintro aV D e S B bh⟨rfl,g⟩al hK;let⟨q,hX,hq,V,f,C,O,b2,b3⟩:=g;have r:=iC B aV<|.deferred dE;have bl:G (H a)<=aV:=U;gi_wp2;refine⟨ar,.inl ⟨_,_,z,run_takeDeferred hK,?_⟩⟩;refine⟨_,yn z underlying103 _ _ (G<|H a) (G (H a)+1) aF (eW q) z z ?_ ?_,?_⟩;exact(fF.u<|(r.A _ (az V)<|λD=>al<|D▸b2).trans V);exact(fF.u<|(r.A _ (az f)<|λD=>al<|D▸b3).trans f);refine .inr ⟨hX,q,z,?_,s.l C r aI,O.aj r aI⟩;let⟨cc,⟨Q,hq,ao⟩,an⟩:=hq;exact⟨cc,⟨Q,(r.A _ (az hq) aI).trans hq,ao⟩,an⟩)
 .rintro lr _ bx S B ck bf⟨br,LL,bi⟩ab⟨e,rfl,x⟩C;cases bx with
  |inr q=>
   let⟨hX,hq⟩:s.Xp/\tD B q:=by
    obtain⟨A,h,_⟩|⟨A,q',h,hX,hq⟩:=ab
    .have:Sum.inr q∈A.map (Sum.inl (β:=R)):=by rw[<-h];simp
     simp at this
    simp_all
   unfold MH yu;simp only;gi_wp2;refine⟨(cI _ _),λp g=>?_⟩;have j:I aC B (dw B<|aK #[aw ⟨#[]⟩,aw ⟨#[]⟩,aO bD,bw 0] 223):=cI _ _;have v:ze s W a (y i) e S p:=(x.gR j cY).gR g<|λk u=>aI;have ba:tD p q:=by
    let⟨cc,⟨Q,h,ao⟩,an⟩:=hq;have h1:=(j.A q (az h) id).trans h;refine⟨cc,⟨Q,(g.A q (az h1)<|λD=>?_).trans h1,ao⟩,an⟩;rw[D,bi]at h;cases h
   let⟨d,hv,t,P⟩:=v.bV;have l:=v.d;have o:=v.f;have bc:=l.u;have bk:=l.bS;have bd:=o.u;have bp:=o.bS;have b2:S (G<|H a):=(P _).2<|.inl z;have b3:S (G (H a)+1):=aI;have f:I (λk=>k=G (H a)\/k=G (H a)+1) p (cP (cP p (X (G<|H a) 0) aF) (X (G (H a)+1) 0)<|eW q):=((I.bI (λk=>k=G (H a)\/k=G (H a)+1) p).aL _ 0 _<|.inl<|.inl z).aL _ 0 _<|.inl<|.inr z;have aD:tD (cP (cP p (X (G<|H a) 0) aF) (X (G (H a)+1) 0)<|eW q) q:=ba.aA f (by
    grind)
   have aa:=s.l (s.l (s.l C j cY) g aI:s.D p) f (by rintro k(rfl|rfl)hf<;>exact aU _ U hf);have bl:∀k,(k=G (H a)\/k=G (H a)+1)->G (H a)<=k:=by rintro k(D|D)<;>omega
   have ax:I (λk=>W k\/s.F k) a (cP (cP p (X (G<|H a) 0) aF) (X (G (H a)+1) 0)<|eW q):=v.aA.aj f ar;have bb:G (H B)+1<=G (H p):=by have:=g.D;simp_all
   have ac:I (λk=>S k\/k=lr) B (cP (cP p (X (G<|H a) 0) aF) (X (G (H a)+1) 0)<|eW q):=((j.aT (T:=λk=>S k\/k=lr) cY).aj g ar).aj f (by
    grind)
   have N:(cP (cP p (X (G<|H a) 0) aF) (X (G (H a)+1) 0)<|eW q).heap[lr]?=p.heap[lr]?:=f.A lr U (by
    grind)
   gi_wp2;exact⟨S,⟨z,(⟨q,hX,aD,(l.gu _).dN _ U,(o.dN _ U).gu _,aa,ax,b2,b3⟩:CZ s W a S (cP (cP p (X (G<|H a) 0) aF) (X (G (H a)+1) 0)<|eW q))⟩,ac,N,λk u=>.inl u⟩
  |inl bx=>
   have aD:y e+1<=y i:=by
    obtain⟨A,h,hp⟩|⟨A,q',h,_⟩:=ab
    .have h1:=hp.length_le;have V:=cD y h;grind
    simp_all
   let⟨l,o,j,f⟩:=bx;unfold MH E.t;simp only;gi_wp2;refine⟨(cI _ _),λp g=>?_⟩;have v:ze s W a (y i) e S p:=((x.gR ((I.bI aC B).aE<|aK #[aw l,aw o,aO j,bw f] 223) cY).gR g<|λk u=>aI);have ax:jQ p (G<|H B) ⟨l,o,j,f⟩:=jQ.aA (aQ _ z) g U;let⟨d,hv,t,P⟩:=v.bV;have bT:bA p (X (G (H a)+1+1) 0)=M d:=hv.u;have cj:iI p (X (G (H a)+1+1) 0)=bD:=hv.bS;let⟨L,K,ap⟩:=aM t;let⟨ca,cd,ce,ch⟩:=ax.bU;have bs:=az ax;have bt:=az hv;have bk:G (H a)+3<=G (H p):=zed v.aA.D g.D;let⟨ba,HV,F,ad,bc⟩:=oa v hv t P g;subst ap;gi_wp2_with(first
    |(gi_at_builtin;refine gm _ z (.tmp 14) (.tmp 16) 103 z (G (H a)+3) 223 i0 yu 4 48 underlying103 bm bn bo av z cg (.slice L (y e) K) (y e) (bj e) z (bC F (.cells #[.string l,.string o,.bool j,.int .u64 f] 223)) (X (G (H p)) 0) 1 1 (bj [⟨l,o,j,f⟩]) z z (yN _ ⟨l,o,j,f⟩ _) (DT _) U U dW ?_;intro v2 w3 N ac;obtain⟨co,cn,rfl⟩:=aM N;have aa:fF w3 (G (H a)+1+1) (.slice L (y e) K) 103:=(ac.dF.block _ (az (HV.aE (.cells #[.string l,.string o,.bool j,.int .u64 f] 223))) (λD=>bP ((F.lt _ D.symm).1))).trans (HV.aE _);have bp:=aa.u;have bq:=aa.bS;have bb:=ak N;have bd:=ak ac))
   let⟨B',q1,q2,q3⟩:=ba.jl (x:=⟨l,o,j,f⟩) HV ad F aD bd bb;have g:=ag bc;have av:=g.D;simp at av;refine⟨?_,B',⟨_,ar,q1⟩,(((I.bI (λk=>S k\/k=lr) B).aE<|aK #[aw l,aw o,aO j,bw f] 223).aj g ar:I (λk=>S k\/k=lr) B p).aj q2 aI,q2.A lr U bf,λk u=>?_⟩
   .refine s.l (s.l (s.l C (cI aC B) cY) g<|λk u=>aI) q2<|λk u=>aU k (x.lt k u).1
   grind
 rintro l' aV S B A bh⟨e,rfl,x⟩al C hK;(obtain rfl:e=i:=by obtain D|⟨p,q,D⟩:=A;(grind[List.map_inj_right,Sum.inl.inj]);(have:Sum.inr q∈e.map (Sum.inl (β:=R)):=by rw[D];simp);simp at this);let⟨d,hv,t,P⟩:=x.bV;have:bA B (X (G (H a)+1+1) 0)=M d:=hv.u;have:=x.d.u;have:=x.d.bS;have:=x.f.u;have:=x.f.bS;obtain⟨L,K,ap⟩:=aM t;let⟨HC,HV,F,ad,o,HK⟩:=nU x hv t P C hK;subst ap;gi_wp2;have:=ag ad;have x:=ag HC;have N:aV≠G (H a):=U;have n2:aV≠G (H a)+1:=U;have:¬cN (am L (y e) K)=M aV:=aI;(have v:(cP (cP B (X (G<|H a) 0)<|am L (y e) K) (X (G (H a)+1) 0) ic).heap[aV]?=M (.deferred<|M []):=by rwa[kV _ n2,kV _ N]);have f:fF (cP (cP B (X (G<|H a) 0)<|am L (y e) K) (X (G (H a)+1) 0) ic) (G<|H a) (am L (y e) K) 103:=(x.d.gu _).dN _ U;have g:fF (cP (cP B (X (G<|H a) 0)<|am L (y e) K) (X (G (H a)+1) 0) ic) (G (H a)+1) ic 44:=(x.f.dN _ U).gu _;have r:=iC (cP (cP B (X (G<|H a) 0)<|am L (y e) K) (X (G (H a)+1) 0) ic) aV<|.deferred dE;have l:=((((I.bI (λk=>k=G (H a)\/k=G (H a)+1) B).aL _ 0 _<|.inl<|.inl z).aL _ 0 _ (.inl<|.inr z):I (λk=>k=G (H a)\/k=G (H a)+1) B (cP (cP B (X (G<|H a) 0)<|am L (y e) K) (X (G (H a)+1) 0) ic)).aT (T:=λk=>k=G (H a)\/k=G (H a)+1\/k=aV) ar).aj r ar;(have:∀k,(k=G (H a)\/k=G (H a)+1\/k=aV)->G (H a)<=k:=by rintro k(D|D|D)<;>omega);refine⟨ar,.inl ⟨_,_,z,run_takeDeferred v,?_⟩⟩;refine⟨_,yn z underlying103 _ _ (G<|H a) (G (H a)+1) (am L (y e) K) ic z z ?_ ?_,?_⟩;exact(fF.u<|(r.A _ (az f)<|λD=>N D.symm).trans f);exact(fF.u<|(r.A _ (az g)<|λD=>n2 D.symm).trans g);refine .inl ⟨_,z,?_,s.l o l aI,x.aA.aj l aI⟩;have t:=ag F;have hx:=l.aZ t (λk u D=>by have:=(t.lt k u).1;grind);obtain⟨h1,⟨V,h0⟩|⟨aa,cp,p,V,hb,j⟩⟩:=hx;exact⟨h1,.inl ⟨V,h0⟩⟩;exact⟨h1,.inr ⟨aa,cp,p,V,U,j⟩⟩
end
def Hs:Option E->ae
 |some x=>.tuple #[x.t,.bool cz,ic]
 |none=>.tuple #[yu,.bool bD,ic]
def LZ(t:TypeId)(a b:af):binOp .geq t (aw a) (aw b)=pure (aO !(Op.bytesLess a.toList b.toList)):=by simp[binOp,Op.stringOp]
def CL{o:dB}(E:af)(t:Y)(h:lG a d o)(F:gG o)(P:y o<=1000000000000)(D:∀t,cN d=M t->t<G (H a)):cR bN 331 #[d,aw E,bw t] a λN S=>N=aN (Hs<|kD t o E)/\gD (G<|H a) a S:=by
 have j:gD (G<|H a) a (dw a<|aK #[aw ⟨#[]⟩,aw ⟨#[]⟩,aO bD,bw 0] 223):=(Below.refl _ a).alloc (aq _) _;have C:=DR d E t (dw a<|aK #[aw ⟨#[]⟩,aw ⟨#[]⟩,aO bD,bw 0] 223) (h.dD j D) F P (λt b=>by have:=D t b;simp;omega);have q:=SK F E ⟨#[]⟩ bD t;have B:=ak<|Lp o ⟨E,⟨#[]⟩,bD,t⟩;generalize mP o ⟨E,⟨#[]⟩,bD,t⟩=p at*;by_cases r:p<y o;(·(have e1:((p:Y)==(y o:Y))=bD:=by simp;omega);have:(p:Y)<(y o:Y):=U;have:(0:Y)<=(p:Y):=U;obtain⟨h1,⟨rfl,h0⟩|⟨u,b,L,rfl,Q,v⟩⟩:=h;omega;have s:=fI o p r;have m:=D u z;by_cases f:o[p].D=E;(case' pos=>rw[q,Ay ⟨r,f⟩];subst f;generalize o[p]=T at*;obtain⟨x,A,xd,w⟩:=T;simp only at s C);(case' neg=>have O:=DB f;rw[q,dif_neg<|λK=>f K.2];generalize o[p]=T at*;let⟨x,A,xd,w⟩:=T;simp only at s O);(all_goals(go_in);go_wp2_with(go_at_call 190;refine C.mono ?_;rintro N n⟨rfl,g⟩;have e:gD (G<|H a) a n:=j.trans<|g.mono j.size;have:bA n (X u<|b+p*4)=M (aw x):=(e.cell (p:=(X u<|b+p*4)) m).trans<|v _ _ s.1;have q1:bA n (X u<|b+p*4+1)=M (aw A):=(e.cell (p:=(X u<|b+p*4+1)) m).trans (by rw[bJ];exact v _ _ s.2.1);have q2:bA n (X u<|b+p*4+2)=M (aO xd):=(e.cell (p:=(X u<|b+p*4+2)) m).trans (by rw[bJ];exact v _ _ s.2.2.1);have q3:bA n (X u<|b+p*4+3)=M (bw w):=(e.cell (p:=(X u<|b+p*4+3)) m).trans (by rw[bJ];exact v _ _ s.2.2.2);have c:jQ n (G<|H a) ⟨⟨#[]⟩,⟨#[]⟩,bD,0⟩:=(g.block _ ar).trans<|aQ _ z;let⟨V,W,z2,z3⟩:=c.bU;have y0:=c.bS (i:=0);have y1:=c.bS (i:=1);have y2:=c.bS (i:=2);have y3:=c.bS (i:=3);have l:=ak c;have k:=ak e));refine ci (gZ z _ _ (G<|H a) ⟨⟨#[]⟩,⟨#[]⟩,bD,0⟩ _ _ z<|l.gL ⟨⟨#[]⟩,⟨#[]⟩,bD,0⟩) z ?_;exact⟨z,(((k.setCell (p:=(X (G<|H a) 0)) (aq _) _).setCell (p:=(X (G<|H a) 1)) (aq _) _).setCell (p:=(X (G<|H a) 2)) (aq _) _).setCell (p:=(X (G<|H a) 3)) (aq _) _⟩;exact ci (gZ z _ _ (G<|H a) ⟨x,A,xd,w⟩ _ _ z<|l.gL ⟨x,A,xd,w⟩) z ⟨z,(((k.setCell (p:=(X (G<|H a) 0)) (aq _) _).setCell (p:=(X (G<|H a) 1)) (aq _) _).setCell (p:=(X (G<|H a) 2)) (aq _) _).setCell (p:=(X (G<|H a) 3)) (aq _) _⟩);have b:p=y o:=bP<|ag B;rw[q,dif_neg<|λK=>r K.1];have f:=cG h;subst b;obtain⟨s,m,rfl⟩:=f;have:((y o:Y)==(y o:Y))=cz:=ar;(go_in);(go_wp2_with(go_at_call 190;refine C.mono ?_;rintro N n⟨rfl,g⟩;have e:gD (G<|H a) a n:=j.trans<|g.mono j.size;have c:jQ n (G<|H a) ⟨⟨#[]⟩,⟨#[]⟩,bD,0⟩:=(g.block _ ar).trans<|aQ _ z;let⟨V,W,z2,z3⟩:=c.bU;have:=c.bS (i:=0);have:=c.bS (i:=1);have:=c.bS (i:=2);have:=c.bS (i:=3);have l:=ak c;have k:=ak e));exact ci (gZ z _ _ (G<|H a) ⟨⟨#[]⟩,⟨#[]⟩,bD,0⟩ _ _ z<|l.gL ⟨⟨#[]⟩,⟨#[]⟩,bD,0⟩) z ⟨z,(((k.setCell (p:=(X (G<|H a) 0)) (aq _) _).setCell (p:=(X (G<|H a) 1)) (aq _) _).setCell (p:=(X (G<|H a) 2)) (aq _) _).setCell (p:=(X (G<|H a) 3)) (aq _) _⟩
def BB(l:dB):eN:=decide<|l.Pairwise<|λa b=>ahead a b=cz
def XR(h:gG i):BB i=cz:=by unfold gG at h;unfold BB;exact uV h
def XS(h:BB i=cz):gG i:=by unfold BB at h;unfold gG;exact lK h
def E9(a:b+1<y i)(h:ahead i[b] i[b+1]=bD):BB i=bD:=yR λq=>by
 have:=cW.1 q b (b+1) U a U;rw[h]at this;cases this
def KO(h:∀a(b:a+1<y i),ahead i[a] i[a+1]=cz):gG i:=by
 refine cW.2 λa j b e c=>?_;obtain⟨d,rfl⟩:∃d,j=a+1+d:=⟨j-a-1,U⟩;induction d with
 |zero=>exact h a e
 |succ d f=>exact tY (f U U)<|h (a+1+d) U
def Rf(ap:ae)(w:Z)(h:lG w ap i)(hl:y i<=1000000000000)(hv:∀av,cN ap=M av->av<G (H w)):cR bN 333 #[ap] w λax w'=>ax=aN (aO<|BB i)/\gD (G<|H w) w w':=by
 have V:∀(ab:eN)(w:Z),(Op.unary .not<|aO ab).run bN w=.ok (aO<|!ab) w:=λ_ _=>rfl;obtain⟨h1,⟨rfl,h0⟩|⟨j,a,ac,rfl,an,hc⟩⟩:=h;(·(go_in);go_wp2;(go_loop [6] (λd=>d=ay 0) (λ_=>0));rfl;obtain rfl:=hrel;go_wp2;go_ret;exact⟨by rw[bG h0];rfl,Below.refl _ _⟩)
 .have HC:=ak hc;have A:=hv j z;go_in
  go_wp2;go_loopw [6] (λd wr=>∃s:R,s<=y i/\d=ay s/\gD (G<|H w) w wr/\Hid (∀d(n:d+1<y i),d+1<s->ahead i[d] i[d+1]=cz)) (λd _=>y i-(intOf d).toNat)
  .exact⟨0,bQ _,z,Below.refl _ _,ak U⟩
  .obtain⟨s,ao,rfl,c,k⟩:=hrel;have HB:=ak c;by_cases o:s<y i
   .obtain r|r:=fO s
    .subst r;go_wp2;go_quiet(fail)
     go_wp2;go_roundw
     .exact⟨1,U,z,below_drewN HB _,ak U⟩
     .simp[intOf];omega
    .obtain⟨p,rfl⟩:∃p,s=p+1:=⟨s-1,U⟩;have W:p<y i:=U;have b:∀d u,(bj i)[d]?=M u->bA wr (X j<|a+d)=M u:=λd u e=>(c.cell (p:=(X j<|a+d)) A).trans<|HC d u e;have e:=fI i p W;have f:=fI i (p+1) o;have P:=b _ _ e.1;have c1:=b _ _ e.2.1;have c2:=b _ _ e.2.2.1;have c3:=b _ _ e.2.2.2;have d0:=b _ _ f.1;have Q:=b _ _ f.2.1;have S:=b _ _ f.2.2.1;have T:=b _ _ f.2.2.2;simp only[<-bJ]at c1 c2 c3 Q S T;have x:=λW=>Ep i[p] i[p+1] W;have v:=ak (show ahead i[p] i[p+1]=cz->∀d(n:d+1<y i),d+1<p+1+1->ahead i[d] i[d+1]=cz fromλq d n W=>by
      by_cases l:d+1<p+1
      .exact ag k d n l
      .obtain rfl:d=p:=U;exact q)
     have u:=ak<|show ahead i[p] i[p+1]=bD->BB i=bD from E9 o;generalize ahead i[p] i[p+1]=bb at*;have al:j<G (H wr):=cA _ _ P;generalize i[p]=ab at*;generalize i[p+1]=g9 at*;let⟨D,F,xd,C⟩:=ab;let⟨N,O,L,K⟩:=g9;unfold E.t at x;simp only at x P c1 c2 c3 d0 Q S T;have aa:(0:Y)<(p:Y)+1:=U;have e2:(0:Y)<=(p:Y):=U;have e3:(p:Y)<(y i:Y):=U;have e4:(0:Y)<=(p:Y)+1:=U;have e5:(p:Y)+1<(y i:Y):=U;have e9:IntKind.i64.wrap (p:Y)=(p:Y):=by rw[bR];omega
     have ad:wrap64 (p:Y)=(p:Y):=by unfold wrap64;omega
     have m:gD (G<|H w) w (dw (dw wr<|aK #[aw D,aw F,aO xd,bw C] 223)<|aK #[aw N,aw O,aO L,bw K] 223):=(HB.alloc HB.size _).alloc (by have:=HB.size;simp;omega) _;have t:=ak m;clear m;cases bb;all_goals
      go_wp21;go_region_held3(λg=>bA g (X j<|a+p*4)=M (aw D)/\bA g (X j<|a+p*4+1)=M (aw F)/\bA g (X j<|a+p*4+2)=M (aO xd)/\bA g (X j<|a+p*4+3)=M (bw C)/\bA g (X j<|a+(p+1)*4)=M (aw N)/\bA g (X j<|a+(p+1)*4+1)=M (aw O)/\bA g (X j<|a+(p+1)*4+2)=M (aO L)/\bA g (X j<|a+(p+1)*4+3)=M (bw K)) (first|assumption|go_keep) (first|(go_at_call 249;refine(x _).mono ?_;rintro ax w1⟨rfl,rfl⟩))
     .go_wp2;go_ret;exact⟨by rw[ag u ar];rfl,below_drewN t _⟩
     go_wp2;go_roundw
     .have l:gD (G<|H wr) wr (dw (dw wr<|aK #[aw D,aw F,aO xd,bw C] 223)<|aK #[aw N,aw O,aO L,bw K] 223):=((Below.refl _ wr).alloc (aq _) _).alloc ar _;refine⟨p+1+1,U,dM,HB.trans ?_,ak<|ag v ar⟩;exact Below.mono (B:=G<|H wr) ⟨l.os,l.tape,l.output,l.size,l.block⟩ HB.size
     .simp[intOf];omega
   .clear c;have b:BB i=cz:=XR<|KO λd n=>ag k d n U;go_wp2;go_ret;exact⟨by rw[b];rfl,HB⟩
def Rd.nj{m6:eN}(h:Rd a b m m6)(d:a.grownBy e dE):Rd e b m m6:=by
 let⟨v,f,g,c⟩:=h;refine⟨v,(d.block b (az f) ar).trans f,g.dF d ?_,c⟩;grind
def Rd.lt{w:Z}{rest:eD}{m6:eN}(h:Rd w c rest m6):c<G (H w):=by
 let⟨v,a,_⟩:=h;exact az a
def Rd.gL{m6:eN}{m9:E}(h:Rd e c m m6)(x:jQ e k m9)(r:c≠k)(j:E):Rd (yp e k j) c m m6:=by
 let⟨F,s,A,C⟩:=h;have u:=kr e k j;refine⟨F,(u.A c (az s) r).trans s,?_,C⟩;obtain⟨v,w⟩|⟨b,d,i,v,o,B⟩:=A;exact J ⟨v,w⟩;refine bu ⟨b,d,i,v,o,λD t=>?_⟩;have g:=B D t;(have n:b≠k:=by rintro rfl;rw[cE x,bF t]at g;grind);have q:b<G (H e):=cA e (X b<|d+D) g;have l:=u.A b q n;rwa[dZ (w:=e) (w':=yp e k j) (a:=(X b<|d+D)) l]
def I.Z4(h:I (λk=>k=b) a e):a.grownBy e (M b):=⟨h.os,h.l,h.f,h.D,λk c d=>h.A k c<|λf=>d<|by rw[f]⟩
def jQ.dF{w w':Z}(h:jQ w b S)(a:w.grownBy w' (M c))(d:c≠b):jQ w' b S:=(a.block b (az h) aI).trans h
def yo{c:Func}{p u:Tmp}(h:c.results=#[.cell p 223,.tmp u])(a:Array ae)(w:Z)(g:R)(x:E)(t:TypeId)(d:R×R)(i:a.getD p jn=aJ g)(e:w.heap[g]?=M (aK #[aw x.D,aw x.l,aO x.dP,bw x.f] t d)):(results c a).run bN w=.ok (de #[x.t,a.getD u jn]) w:=by
 have b:a[p]?.getD jn=aJ g:=dV i;have f:=kQ (P:=bN) w g t 223 #[aw x.D,aw x.l,aO x.dP,bw x.f] d _ e underlying223 z aH;simp[results,h,b,asAddr,f,Result.andThen,E.t]
def uH{rest:eD}{m6:eN}{n:R}(h:(fZ rest m6 n).2.1=bD):m6=bD/\rest=(fZ rest m6 n).2.2++(fZ rest m6 n).1/\y (fZ rest m6 n).2.2=n:=by
 unfold fZ at*;split at h;cases h;rename_i a;rw[fN a];refine⟨by cases m6<;>simp_all,ar,by simp;omega⟩
def Qc{a:eD}{m6:eN}(h:(fZ a m6 1).2.1=bD):a=dz a m6 1::(fZ a m6 1).1:=by
 let⟨e,b,c⟩:=uH h;unfold dz;let⟨x,d⟩:=List.length_eq_one_iff.1 c;rw[d]at b|-;simpa[jw]using b
def Bx(h:kj m):kp (qM m)=m:=by
 unfold kp qM;simp only[iW];conv=>rhs;rw[<-wg m]
 refine qh λx a=>?_;have:=h x a;simp;omega
def AE{rest:eD}{m6:eN}(a:kj rest)(h:(nQ rest m6).2.1=bD):m6=bD/\rest=iN (qM (nQ rest m6).2.2)++(nQ rest m6).1:=by
 unfold nQ at*;simp only at*;let⟨b,e,f⟩:=uH h;have g:=Qc b;let⟨d,_⟩:=uH b;refine⟨d,?_⟩;have c:=(kj.lP (n:=(dz rest m6 1).toNat) (m6:=(fZ rest m6 1).2.1) (kj.lP (n:=1) (m6:=m6) a).1).2;have i:=(jV (n:=1) (m6:=m6) a).1;unfold iN;rw[Bx c,<-ix,Bx c,f];rw[show(((dz rest m6 1).toNat:R):Y)=dz rest m6 1 by omega];rw[dt,<-e,<-g]
def qZ(a:eD)(m6:eN):y (nQ a m6).1<=y a/\(kj a->kj (nQ a m6).1/\kj (nQ a m6).2.2/\(qM (nQ a m6).2.2).size<=255):=by
 unfold nQ;simp only;have d:=je a m6 1;have e:=je (fZ a m6 1).1 (fZ a m6 1).2.1 (dz a m6 1).toNat;refine⟨U,λb=>?_⟩;have c:=kj.lP (n:=(dz a m6 1).toNat) (m6:=(fZ a m6 1).2.1) (kj.lP (n:=1) (m6:=m6) b).1;have f:=jV (n:=1) (m6:=m6) b;refine⟨c.1,c.2,?_⟩;rw[<-ix,Bx c.2];omega
def FY(d:Rd e b m V)(c:jQ e (G<|H a) zE)(g:b<G (H a))(f:I (λk=>k=b) a e)(x:E)(o:Obj):Rd ((yp e (G<|H a) x).alloc o) b m V/\a.grownBy ((yp e (G<|H a) x).alloc o) (M b):=⟨(d.gL c U x).nj<|eR _ _ dE,((f.aj (kr e (G<|H a) x) ar).aE _).Z4⟩
def Ji(o:R){m6:eN}(h:Rd a o m m6)(v:kj m)(hr:y m<=140737488351232):cR bN 188 #[aJ o] a λN w'=>∃(ao:E)(ok:eN)(bg:eD)(bd:eN),N=aN (de #[ao.t,aO ok])/\Rd w' o bg bd/\kj bg/\y bg<=y m/\a.grownBy w' (M o)/\(ok=cz->m6=bD/\bd=bD/\ao.Good/\ao.f=0/\m=oC ao++bg)/\(ok=bD->∀(d:E)x,d.Good->m6=bD->m≠oC d++x):=by
 have hX:∀(d:E)x,m6=bD->m=oC d++x->dz m m6 1=qo d.dP/\((nQ (nQ (fZ m m6 1).1 (fZ m m6 1).2.1).1 (nQ (fZ m m6 1).1 (fZ m m6 1).2.1).2.1).2.1=bD/\qM (nQ (nQ (fZ m m6 1).1 (fZ m m6 1).2.1).1 (nQ (fZ m m6 1).1 (fZ m m6 1).2.1).2.1).2.2=d.l)/\qM (nQ (fZ m m6 1).1 (fZ m m6 1).2.1).2.2=d.D:=by rintro d x rfl rfl;rw[show oC d++x=qo d.dP::(iN d.D++(iN d.l++x))by simp[oC]];simp[(EO _ _).1,(EO _ _).2,(yh _ _).1,yi]
 have i1:=kj.lP (n:=1) (m6:=m6) v;have l1:=je m m6 1;have b1:=@Qc m m6;have n1:=jV (n:=1) (m6:=m6) v;have s1:=λq=>(uH (rest:=m) (m6:=m6) (n:=1) q).1;have aa:=λW(u:Rd W o m m6)=>Io u v hr;generalize dz m m6 1=l at*;generalize fZ m m6 1=bm at*;let⟨A,B,A3⟩:=bm;simp only at*;have i2:=(qZ A B).2 i1.1;have l2:=(qZ A B).1;have t2:=λq=>AE (rest:=A) (m6:=B) i1.1 q;have ab:=λW(u:Rd W o A B)=>Cq u i1.1 U;generalize nQ A B=bn at*;let⟨C,D,B3⟩:=bn;simp only at*;have i3:=(qZ C D).2 i2.1;have l3:=(qZ C D).1;have t3:=λq=>AE (rest:=C) (m6:=D) i2.1 q;have ac:=λW(u:Rd W o C D)=>Cq u i2.1 U;generalize nQ C D=bo at*;obtain⟨C1,p,C3⟩:=bo;simp only at*;generalize qM B3=b at*;generalize qM C3=c at*;have an:=λW(u:Rd W o C1 p)=>Jm u;have ad:=rq b;have al:=zW c;have bf:∀(ao:eN)(a:Z),(Op.unary .not<|aO ao).run bN a=.ok (aO<|!ao) a:=λ_ _=>rfl;have j:=λW=>ad W U;have k:=λW=>al W U;have w:=h.lt;have HR:=ak<|h.nj<|eR a (aK #[aw ⟨#[]⟩,aw ⟨#[]⟩,aO bD,bw 0] 223) dE
 have HN:=ak (show∀(d:E)x,d.Good->m6=bD->m=oC d++x->p=bD/\(1<=b.size/\b.size<=8)/\c.size<=16/\l<=1/\(l=1->c.toList.isEmpty=cz)fromλd x bc bd N=>by
  obtain⟨rfl,⟨g,rfl⟩,rfl⟩:=hX d x bd N;refine⟨g,⟨bc.L,bc.f⟩,bc.l,?_,λq=>?_⟩
  .cases d.dP<;>simp[qo]
  .cases hd:d.dP
   .rw[hd]at q;cases q
   .rw[bc.dP hd];kernel_rfl)
 clear hX;have hD:p=cz\/(p=bD/\decide (1<=b.size/\b.size<=8)=bD)\/(p=bD/\decide (1<=b.size/\b.size<=8)=cz/\decide (c.size<=16)=bD)\/(p=bD/\decide (1<=b.size/\b.size<=8)=cz/\decide (c.size<=16)=cz/\(1<l\/(l=1/\c.toList.isEmpty=bD)\/l=0\/(l=1/\c=⟨#[]⟩))):=by have hk:1<l\/l=0\/l=1:=U;(have g:c=⟨#[]⟩\/c.toList.isEmpty=bD:=by rcases hq:c.toList with _|⟨ao,bg⟩;exact J<|Ao<|hq.trans aH;exact bu z);obtain g|g:=g<;>cases p<;>cases decide (1<=b.size/\b.size<=8)<;>cases decide (c.size<=16)<;>simp[g]<;>omega
 have s:p=bD->decide (1<=b.size/\b.size<=8)=cz->decide (c.size<=16)=cz->∀g:eN,l=qo g->(g=cz->c=⟨#[]⟩)->m6=bD/\p=bD/\E.Good ⟨b,c,g,0⟩/\(⟨b,c,g,0⟩:E).f=0/\m=oC ⟨b,c,g,0⟩++C1:=by intro c1 c2 c3 g hk bb;obtain⟨q1,q2⟩:=t3 c1;obtain⟨q3,q4⟩:=t2 q1;have L:=lK c2;have aD:=lK c3;refine⟨s1 q3,c1,⟨L.1,L.2,aD,bb,ar,ar⟩,z,?_⟩;rw[b1 q3,hk,q4,q2];simp[oC]
 clear b1 s1 t2 t3;have HF:=ak s;clear s;obtain h1|⟨h1,Q⟩|⟨h1,Q,h3⟩|⟨h1,Q,h3,S|⟨S,h5⟩|S|⟨S,rfl⟩⟩:=hD;all_goals first|rw[Q]at j|skip
 all_goals first|rw[h3]at k|skip
 all_goals subst h1
 all_goals
  go_in
  go_wp2_with(first
   |(go_at_call 187;refine(aa _<|ag HR).mono ?_;rintro N w1⟨rfl,aU,T⟩;have av:=ak aU;have F:=ak T;have bi:=T.size)
   |(go_at_call 241;refine(ab _<|ag av).mono ?_;rintro N w2⟨rfl,aV,V⟩;have ax:=ak aV;have K:=ak V;have bk:=V.size)
   |(go_at_call 241;refine(ac _<|ag ax).mono ?_;rintro N w3⟨rfl,ba,t⟩;have r:=ak ba;have ap:=ak t;have bl:=t.size;have e:jQ w3 (G<|H a) zE:=(((jQ.dF (aQ _ z) (ag F) U).dF (ag K) U).dF t U);obtain⟨z0,z1,z2,z3⟩:=e.bU;have y0:=e.bS (i:=0);have y1:=e.bS (i:=1);have y2:=e.bS (i:=2);have y3:=e.bS (i:=3);have bh:=az e;have f:=ak e)
   |(go_at_call 179;refine(an _<|(ag r).nj<|eR w3 _ dE).mono ?_;rintro N w4⟨rfl,rfl⟩)
   |(go_at_call 104;refine(j _).mono ?_;rintro N w5⟨rfl,rfl⟩)
   |(go_at_call 105;refine(k _).mono ?_;rintro N w6⟨rfl,rfl⟩))
 (all_goals have hW:I (λk=>k=o) a w3:=(((cI (λk=>k=o) a).aj (gI F)<|λ_=>J).aj (gI K)<|λ_=>J).aj (gI ap)<|λ_=>J;clear aa ab ac an ad j al k);iterate 5 ·(refine ci (yo z _ _ (G<|H a) zE _ _ z<|((ag f).gL zE).aE _) z ?_;obtain⟨O,P⟩:=FY (ag r) (ag f) w hW zE _;exact⟨zE,bD,_,_,z,O,i3.1,U,P,ar,λ_ d x bc bd N=>zZ<|ag HN d x bc bd N⟩)
 refine ci (yo z _ _ (G<|H a) ⟨b,c,bD,0⟩ _ _ z<|((ag f).gL ⟨b,c,bD,0⟩).aE _) z ?_;obtain⟨O,P⟩:=FY (ag r) (ag f) w hW ⟨b,c,bD,0⟩ _;exact⟨⟨b,c,bD,0⟩,cz,_,_,z,O,i3.1,U,P,λ_=>by simpa using ag HF ar Q h3 bD S ar,ar⟩;refine ci (yo z _ _ (G<|H a) ⟨b,⟨#[]⟩,cz,0⟩ _ _ z<|((ag f).gL ⟨b,⟨#[]⟩,cz,0⟩).aE _) z ?_;obtain⟨O,P⟩:=FY (ag r) (ag f) w hW ⟨b,⟨#[]⟩,cz,0⟩ _;exact⟨⟨b,⟨#[]⟩,cz,0⟩,cz,_,_,z,O,i3.1,U,P,λ_=>by simpa using ag HF ar Q h3 cz S ar,ar⟩
def ik(a:eD):eD:=a++le 4 (pu a)
def yJ(e:E):eD:=le 8 e.f++oC e
def iH(c:dB):eD:=c.flatMap yJ
def JN(a:eD):jw (le 4<|pu a)=pu a:=by
 rw[xP 4 _<|Ii a];exact wk (Ii a)<|zZ<|Mo a
def zU(a:0<=r)(b:r<18446744073709551616):jw (le 8 r)=r:=by
 rw[xP 8 _ a];grind
def QP(ok:eN)(o c d:R)(b f:eD)(C:Steps a)(x:y f=4)(u:kj f)(D:(jw f !=pu b)=!ok)(O:y b+4<=d)(S:y b+4<=100000000000000)(t:Bytes a (bX o c (y b+4) d) (b++f)):cR bN 175 #[bX o c (y b+4:R) d] a λF Q=>
 F=aN (if ok=cz then de #[bX o c (y b) d,aO cz]else de #[aF,aO bD])/\gD (G<|H a) a Q:=by
 have P:=C.lt
 have K:o<G (H a):=t.lt (by intro h;simp_all) o z
 have j:Bytes a (bX o c (y<|b++f) d) (b++f):=ai▸x▸t
 have A:Bytes a (bX o c (y b) d) b:=by
  have:=j.ou (n:=y b) ar;rwa[rN]at this
 have B:Bytes a (bX o (c+y b) 4<|d-y b) f:=by
  have:=j.Ed (n:=y b) ar;rwa[pz,ai,x,xg]at this
 have E:dz f bD 4=jw f:=by
  unfold dz fZ;rw[fN (by simp[x]),fB U]
 have L:(dz f bD 4 !=pu b)=!ok:=E▸D
 clear t j E D
 cases ok
 all_goals
  simp only[tr,zo]at L;go_in
  go_wp21;refine(oN B<|λW N=>zZ<|Vy N).mono ?_;rintro F p⟨rfl,v,e⟩;have w:G (H p)=G (H a)+1:=by rw[e];simp
  have i:gD (G<|H a) a p:=e▸(Below.refl _ _).alloc (aq _) _;have l:Hid (Steps p):=e▸C.aE _;have k:Hid (Bytes p (bX o c (y b) d) b):=e▸A.aE _;clear e;go_wp21;go_region_with(first
   |(go_at_call 178;refine(vp (G<|H a) bD _ ?_ u U).mono ?_;exact v.df z;rintro F T⟨rfl,m,g⟩;have s:=ak<|Steps.dF (by exact Steps.df l z) g dW;have q:=ak<|Bytes.dF (by exact Bytes.df k z) g<|J (by simp[cN];omega);have r:=ak<|Below.grown (by exact Below.of_heap i z) g (by simp[w]) ar;clear m g)
   |(go_at_call 186;refine(sX _ b _ ?_ ?_ U).mono ?_;(first|exact s.df rfl|exact l.df z);(first|exact q.df rfl|exact k.df z);rintro F V⟨rfl,rfl⟩))
  all_goals
   go_wp2;go_ret2
   exact⟨by rfl,by first|exact r.of_heap rfl|exact Below.of_heap i z⟩
def LJ:∀l:eD,kj l->le (y l) (jw l)=l
 |[],_=>rfl
 |x::r,h=>by
  have:=h x ar;have c:=LJ r (λa b=>h a<|by simp[b]);have a:(x+256*jw r) %256=x:=U;have b:(x+256*jw r)/256=jw r:=U;rw[bK,le,jw,a,b,c]
def zen(w e:Z)(v:ae)(d:eD)(g:Ending):Prop:=((g=aN (de #[aF,aO bD])/\∀a,d≠ik a)\/∃f b c a,v=bX f b (y a+4) c/\y a+4<=c/\d=ik a/\g=aN (de #[bX f b (y a) c,aO cz]))/\gD (G<|H w) w e
def Bw(x:ae)(c:eD){w:Z}(s:Steps w)(k:Bytes w x c)(l:kj c)(n:y c<=100000000000000):cR bN 175 #[x] w λA o=>zen w o x c A:=by
 obtain⟨rfl,rfl⟩|⟨p,b,e,rfl,f,t⟩:=k;(·(have g:∀a,([]:eD)≠ik a:=λa q=>by have:=cD y q;simp[ik,dh]at this);(go_in);go_wp2;(go_ret2);exact⟨J ⟨z,g⟩,Below.refl _ _⟩);by_cases B:y c<4;(.have u:(y c:Y)-4<0:=U;have g:=ak (show∀a,c≠ik a fromλa q=>by have:=cD y q;simp[ik,dh]at this;omega);(go_in);go_wp2;(go_ret2);exact⟨J ⟨z,g⟩,Below.refl _ _⟩);obtain⟨a,d,rfl,j⟩:∃a d,c=a++d/\y d=4:=⟨c.take<|y c-4,c.drop<|y c-4,ar,by simp;omega⟩;have m:y (a++d)=y a+4:=by simp[j]
 rw[m]at f n|-;have QF:kj d:=λb a=>l b (by simp[a]);have k:Bytes w (bX p b (y a+4) e) (a++d):=bu ⟨p,b,e,by rw[m],m▸f,t⟩;go_call QP (jw d==pu a) p b e a d s j QF (by simp[bne]) f n k as A o⟨rfl,r⟩;refine⟨?_,r⟩;by_cases i:jw d=pu a;refine bu ⟨p,b,e,a,z,f,?_,by simp[i]⟩;have:=LJ d QF;rw[j,i]at this;rw[ik,this];refine J ⟨by simp[i],λg q=>i ?_⟩;unfold ik at q;let⟨u,v⟩:=List.append_inj' q (by rw[j,dh]);rw[v,u];exact JN g
def Pn(h:S.Good):kj (oC S):=by
 unfold oC;have c:∀s:af,s.size<=255->kj (iN s):=λs d b a=>by unfold iN at a;obtain rfl|a:=dy.1 a;omega;exact kj.XI s b a
 intro b a;obtain rfl|a:=dy.1 a;unfold qo;split<;>omega;obtain a|a:=aP.1 a;exact c _ (bP h.f) b a;exact c _ (bP h.l) b a
def Po(h:∀x∈i,x.Good):kj (iH i):=by
 intro b a;unfold iH at a;let⟨x,c,a⟩:=pV.1 a;unfold yJ at a;obtain a|a:=aP.1 a;exact kj.le 8 _ b a;exact Pn (h x c) b a
def Ad(h:S.Good):y (yJ S)<=35:=by
 have:=h.f;have:=h.l;unfold yJ oC iN;grind[dh,ix]
def PO(h:∀x∈i,x.Good):y (iH i)<=35*y i:=by
 induction i with
 |nil=>simp[iH]
 |cons x r c=>
  have:=Ad<|h x ar;have:=c (λa b=>h a<|by simp[b]);have e:iH (x::r)=yJ x++iH r:=by simp[iH]
  rw[e,ai,bK];omega
section
open Shelf
attribute [local go_sem] Oper.semAt_some
def VZ(t:Array ae)(f:eD)(p:Y->eN)(K:Enters bN b)(w:Row a 1 d (y f) (f.map<|Value.int .u64))(P:∀x,cN d=M x->x<G (H a))(hn:y f<=40000000000)(L:∀A∈f,∀W,gD (G<|H a) a W->cR bN b (#[bw A]++t) W λu B=>u=aN (aO<|p A)/\gD (G<|H W) W B):cR bN 210 #[d,.func (.func b) #[] t] a λu S=>(∃x:Y,u=aN (ay x)/\decide (0<=x)=f.any p)/\gD (G<|H a) a S:=by
 have:∀c a,(callFunc b c).run bN a=.ok (.enter b c) a:=K;let⟨aa,ab,q⟩:=cG w;subst q;go_in
 go_wp2;go_loopw [8] (λi wr=>∃n:R,n<=y f/\i=ay n/\gD (G<|H a) a wr/\(f.take n).any p=bD) (λi _=>y f-(intOf i).toNat)
 exact⟨0,bQ _,z,Below.refl _ _,z⟩
 .obtain⟨n,O,rfl,c,m⟩:=hrel;by_cases i:n<y f
  .let⟨C,g,Q,F⟩:∃C g,aa=M (X C g)/\bA wr (X C<|g+n)=M (bw f[n]):=by
    obtain⟨h1,⟨v,h0⟩|⟨D,j,s,v,N,E⟩⟩:=w
    .omega
    .cases v;exact⟨D,j,z,(c.cell (p:=(X D<|j+n))<|P D z).trans<|E n _<|by simp[i]⟩
   subst Q;have e:=L f[n] (aB i) wr c;have V:(n:Y)<(y f:Y):=U;have:(0:Y)<=(n:Y):=U;have r:(f.take<|n+1).any p=p f[n]:=by rw[aG i,List.any_append,m];simp
   have o:=ak<|aB i;generalize f[n]=A at*;cases hp:p A with
   |true=>
    rw[hp]at e;have j:=ak<|show f.any p=cz from nM.2 ⟨A,o,hp⟩;go_wp2_with(go_at_fn b;refine e.mono ?_;rintro u T⟨rfl,l⟩;have k:=ak l)
    go_ret;exact⟨⟨n,z,by rw[ag j];simp⟩,c.trans<|k.mono c.size⟩
   |false=>
    rw[hp]at e;have j:=ak<|r.trans hp;go_wp2_with(go_at_fn b;refine e.mono ?_;rintro u T⟨rfl,l⟩;have k:=ak l)
    go_roundw
    .exact⟨n+1,i,dM,c.trans<|k.mono c.size,j⟩
    .simp[intOf];omega
  .have e:n=y f:=U;have g:=ak (show f.any p=bD by rw[<-m,e,cQ]);have:((n:Y)<(y f:Y))=False:=by simp;omega
   go_wp2;go_ret;exact⟨⟨-1,z,by rw[ag g];simp⟩,c⟩
def Mt(e:Array ae)(c:eD)(s:Y->eN)(m:Enters bN b)(g:Row a 1 d (y c) (c.map<|Value.int .u64))(q:∀r,cN d=M r->r<G (H a))(p:y c<=40000000000)(n:∀u∈c,∀W,gD (G<|H a) a W->cR bN b (#[bw u]++e) W λi k=>i=aN (aO<|s u)/\gD (G<|H W) W k):cR bN 144 #[d,.func (.func b) #[] e] a λi t=>i=aN (aO<|c.any s)/\gD (G<|H a) a t:=by
 have h:=VZ e c s m g q p n;let⟨x,w,f⟩:=cG g;subst f;go_in
 go_wp2_with(go_at_call 210;refine h.mono ?_;rintro i v⟨⟨r,rfl,o⟩,l⟩;have j:=ak o;have HB:=ak l)
 go_ret;rw[<-ag j];exact⟨z,HB⟩
def OA(f:R)(m:Y)(E:f<y i)(C:0<f)(F:y i<=40000000000)(r:jQ a b i[f])(v:fF a c d 103)(s:lG a d i)(o:fF a k (ay f) 3):cR bN 143 #[bw m,aJ b,aJ c,aJ k] a λB w=>B=aN (aO<|decide (i[f].f<=m)&&decide (m<(i[f-1]'U).f))/\w=a:=by
 let⟨_,_,_,K⟩:=r.bU;have:=v.u;have:=o.u;let⟨p,u⟩:∃p,f=p+1:=⟨f-1,U⟩;subst u;obtain⟨D,⟨rfl,n⟩|⟨A,e,l,rfl,t,q⟩⟩:=s;omega;have g:p<y i:=U;have:bA a (X A<|e+p*4+3)=M (bw i[p].f):=by rw[bJ];exact q _ _ (fI i p g).2.2.2
 have:(0:Y)<=(p:Y):=U;have:(p:Y)<(y i:Y):=U;have:IntKind.i64.wrap (p:Y)=(p:Y):=by rw[bR];omega
 have:wrap64 (p:Y)=(p:Y):=by unfold wrap64;omega
 simp only[Nat.add_sub_cancel];generalize i[p].f=L at*;generalize i[p+1].f=x at*;by_cases j:x<=m;(.simp only[j,zl,Bool.true_and];(go_in);go_wp2;go_ret;simp_all);simp only[j,Ci,zp];(go_in);go_wp2;go_ret;simp_all
structure ua(W0:Z)(S:fC)(bl:R)(lst:dB)(B:fC)(W:Z):Prop where
 bV:∃v,fF W bl v 103/\fE W (G<|H W0) 223 4 v (y lst) (bj lst)/\∀k,B k↔k=bl\/cN v=M k
 aA:I (λk=>k=bl\/S k) W0 W
def ua.lt{S B:fC}(h:ua a S c i B e){n0:R}(o:n0<=c)(p:n0<=G (H a)):∀k,B k->n0<=k/\k<G (H e):=by
 intro k j;let⟨v,n,d,g⟩:=h.bV;obtain m|m:=(g k).1 j;grind
 have:=d.lt k m;grind
def ua.gR{S B T:fC}(h:ua a S b i B e)(c:I T e P)(j:∀k,T k->¬B k/\(S k\/G (H a)<=k)):ua a S b i B P:=by
 let⟨v,d,f,g⟩:=h.bV;exact⟨⟨v,(c.A _ (az d) aI).trans d,c.aZ f aI,g⟩,h.aA.aj c aI⟩
def ua.jl{f:Z}{B:fC}{c xs:dB}(h:ua a W b c B e)(r:b<G (H a))(E:fF e b d 103)(C:I aC e P)(A:fo P f d w)(j:fE f (G<|H a) 223 4 w (y c+y xs) (bj c++bj xs)):∃u,ua a W b (c++xs) u (cP f (X b 0) w)/\I B e (cP f (X b 0) w)/\(∀k,u k->B k\/G (H e)<=k):=by
 let⟨n,q,D,K⟩:=h.bV;obtain rfl:n=d:=by have F:=q.symm.trans E;simpa using F
 have v:I (λk=>cN n=M k) e f:=(C.aT cY).aj (I.eF (S:=λk=>cN n=M k) A.dF<|λk g=>J g)<|λk g=>J g;have s:∀k,k<G (H a)->¬cN n=M k:=λk g o=>bP<|(D.lt k o).1;have t:fF f b n 103:=(v.A _ (az q)<|s _ r).trans q;have l:I B e (cP f (X b 0) w):=(v.aT (T:=B) aI).aL _ _ _ aI;refine⟨λk=>k=b\/cN w=M k,⟨⟨w,t.gu _,?_,λk=>tq⟩,?_⟩,l,?_⟩;rw[ai,ig];exact j.kept (eG f _ _ _) (by right;intro o;have:=(j.lt _ o).1;omega);refine h.aA.aj l<|λk g=>?_;grind
 rintro k(o|o);(grind);obtain F|⟨N,F,L⟩:=A.f;(grind);rw[F]at o;cases o;have:=C.D;grind
end
def Sv(a:0<=r)(b:r<4294967296):jw (le 4 r)=r:=by
 rw[xP 4 r a];grind
def tu{P:Program}(w:Z)(k A B c:TypeId)(e m o b g:R)(n:Addr)(d i:R)(a:Array ae)(D:TypeId)(f:iF)(x:P.underlying k=M (.slice c))(u:(P.info? c).map (·.size)=M e)(q:w.heap[m]?=M (aK a D (0,0)))(t:y f=Nat.min d b*e)(h:∀C v,f[C]?=M v->bA w (n.add C)=M v)(l:o+y f<=a.size)(p:∀v∈f,v.oneCell'=cz):(Builtin.copy_ #[k,A] B #[bX m o b g,am (M n) d i]).run P w=.ok (goInt<|Nat.min d b) (w.setRow m (a.toList.take o++f++a.toList.drop (o+y f)).toArray):=by
 have s:=run_loadCells_list (P:=P) w n f h;have j:=run_storeCells_at P m o D f 0 a w q aI p;cases hq:P.info? c with
 |none=>simp[hq]at u
 |some E=>
  have r:E.size=e:=aI;simp[Builtin.copy_,eV x,Builtin.lenOf,Builtin.firstCells,sizeOf,typeInfo,hq,r,<-t,s,j]
def Ez(w:Z)(g:R)(a:Array ae):I (λk=>k=g) w (w.setRow g a):=⟨rfl,rfl,rfl,ar,λk _ b=>uv w g k a b⟩
theorem Zh{a d:iF}(j:Q.take (b*4)=a)(k:y a=b*4)(l:c<=b)(i:y d=4)(e:(b+1)*4<=y Q):(((Q.take ((c+1)*4)++a.drop (c*4)++Q.drop ((c+1)*4+y (a.drop<|c*4))).take (c*4)++d++(Q.take ((c+1)*4)++a.drop (c*4)++Q.drop ((c+1)*4+y (a.drop<|c*4))).drop (c*4+y d)).take<|(b+1)*4)=a.take (c*4)++d++a.drop (c*4):=by
 have f:y (Q.take<|(c+1)*4)=c*4+4:=by rw[dX];omega
 have g:(Q.take ((c+1)*4)++a.drop (c*4)++Q.drop ((c+1)*4+y (a.drop<|c*4))).take (c*4)=a.take (c*4):=by rw[cw,jR U,zm,<-j,zm];grind
 have h:(Q.take ((c+1)*4)++a.drop (c*4)++Q.drop ((c+1)*4+y (a.drop<|c*4))).drop (c*4+y d)=a.drop (c*4)++Q.drop ((c+1)*4+y (a.drop<|c*4)):=by rw[cw,i,<-f,pz]
 rw[g,h,<-cw,mS dW]
def YC(l:dB):∀u∈bj l,u.oneCell'=cz:=by
 intro u a;induction l with
 |nil=>cases a
 |cons x r b=>
  rw[show x::r=[x]++r from rfl,ig,aP]at a;grind[DT]
def Th(h:lG e d i)(O:y i<=1000000000)(k:∀s,cN d=M s->s<G (H e)):cR bN 189 #[d] e λN u=>∃t,N=aN t/\fE u (G<|H e) 223 4 t (y i) (bj i)/\gD (G<|H e) e u:=by
 let⟨L,E,p,q,r⟩:=cZ oP;obtain⟨x,⟨rfl,w⟩|⟨v,b,j,rfl,K,C⟩⟩:=h;(.obtain rfl:i=[]:=bG w;have D:∀e:Z,(binOp .eql 103 aF aF).run bN e=.ok (aO cz) e:=λ_=>rfl;(go_in);go_wp2;go_ret;exact⟨_,z,ct _ _ _ _,Below.refl _ _⟩)
 .have A:v<G (H e):=k v z;have m:fE (dw e<|aK #[] 223) (G<|H e) 223 4 (bX (G<|H e) 0 0 0) 0 []:=World.ownsRow_lit e #[] 0 (aq _) cg z;have D:∀(e:Z)a n c,(binOp .eql 103 (am (M a) n c) aF).run bN e=.ok (aO bD) e:=λ_ _ _ _=>rfl;go_in
  go_wp2_with(first
   |(at_builtin;refine cq _ z (.tmp 5) (.tmp 6) 103 z (G (H e)) 223 L yu 4 48 underlying103 E p q r z cg _ 0 [] z m (X v b) (y i) j (bj i) z x (λP Q F=>by rw[dS,gQ A];exact C P Q F) (YC i) U U ar ?_;intro S T l o;have f:=ak l;have g:=ak o))
  go_ret;refine⟨_,z,dV<|ag f,?_⟩;have:=g.dD (B:=G<|H e) ar (by rintro s⟨⟩;grind);exact⟨this.os,this.tape,this.output,aR ar this.size,λs b=>(this.block s b).trans<|Below.heap_alloc e _ s b⟩
def DI{P:Program}{t d e f:TypeId}(c:P.underlying t=M (.slice f))(a:P.underlying d=M (.slice f))(x b:ae)(w:Z):(Builtin.append_ #[t,d] e #[x,b]).run P w=(Builtin.append_ #[t,t] e #[x,b]).run P w:=by
 cases x<;>try(simp[Builtin.append_,eV c];done)
 cases hq:P.info? f<;>simp[Builtin.append_,eV c,eV a,sizeOf,typeInfo,hq]
def pG{P:Program}(w:Z){j:Array Oper}{d:cy Oper}{C:Oper}{E:Act}{ab:Exit->Act->Z->Prop}(p:C.guard=dE)(al an:Operand)(aa D:TypeId)(W:C.op=.call {callee:=.builtin .append,args:=#[al,an],argTypes:=#[aa,D]})(m:R)(u:TypeId)(A:TypeInfo)(m9:ae)(a bytes:R)(x:P.underlying aa=M (.slice u))(r:P.underlying D=M (.slice u))(T:P.info? u=M A)(hz:A.zero=M m9)(g:A.size=a)(o:A.bytes=bytes)(s:m9.cells.size=a)(q:0<a)(K:ae)(B:R)(t:iF)(hs:E.eval al=K)(i:fE w m u a K B t)(n:Addr)(v ac:R)(b:iF)(hx:E.eval an=am (M n) v ac)(V:y b=v*a)(f:∀ad F,b[ad]?=M F->bA w (n.add ad)=M F)(L:∀F∈b,F.oneCell'=cz)(hn:B+v<=140737488355328)(c:(B+v)*bytes<=140737488355328)(e:m<=G (H w))(h:∀k l,fE l m u a k (B+v) (t++b)->fo w l K k->wpList P j ab d (E.put C.dst k) l):wpList P j ab (C::d) E w:=by
 let⟨k,l,hr,N,O,_,Q⟩:=oX (P:=P) w m aa C.type u A m9 a bytes x T hz g o s q K B t i n v ac b V f L (by unfold maxLen;omega) c e;refine lz p λao S=>?_;unfold Oper.wp;simp[execOp,W,resolve,invoke,builtin,hs,hx,DI x r,hr,Result.andThen];exact S _ _<|h k l N<|fo.of O Q
def Sz(o:fE a b 223 4 d c Q)(q:b<=G (H a))(F:jQ a k S)(O:c<=1000000000):cR bN 191 #[d,ay c,bX k 0 1 1] a λN A=>∃w,N=aN w/\fE A b 223 4 w (c+1) (Q++bj [S])/\fo a A d w:=by
 let⟨v,t,l,m,n⟩:=cZ oP;have r:∀K L,(bj [S])[K]?=M L->bA a (((X k 0):Addr).add K)=M L:=by intro K L s;rw[dS,cE F,ez];simpa[bj,E.bU]using s
 have p:=ak o;obtain⟨rfl,rfl⟩|⟨P,j,C,rfl,_,_,D,u,_⟩:=o.2;(.clear o;(go_in);(go_wp2_with(at_builtin;refine pG _ z (.tmp 23) (.tmp 24) 103 102 z b 223 v yu 4 48 underlying103 underlying102 t l m n z cg _ 0 Q z p (X k 0) 1 1 (bj [S]) z z r (DT S) U U q ?_;intro x B g i;have e:=ak g;have f:=ak i));go_ret;exact⟨_,z,dV<|ag e,f⟩);clear o;(have:j<=9223372036854775807:=by unfold maxLen at u;omega);by_cases s:j=c;(.subst s;(go_in);(go_wp2_with(at_builtin;refine pG _ z (.tmp 23) (.tmp 24) 103 102 z b 223 v yu 4 48 underlying103 underlying102 t l m n z cg _ j Q z p (X k 0) 1 1 (bj [S]) z z r (DT S) U U q ?_;intro x B g i;have e:=ak g;have f:=ak i));go_ret;exact⟨_,z,e,f⟩);(go_in);(go_wp2_with(at_builtin;refine pG _ z (.tmp 23) (.tmp 24) 103 102 z b 223 v yu 4 48 underlying103 underlying102 t l m n z cg _ c Q z p (X k 0) 1 1 (bj [S]) z z r (DT S) U U q ?_;intro x B g i;have e:=ak g;have f:=ak i));go_ret;exact⟨_,z,e,f⟩
section
open Shelf
def Bf{P:Program}{b:Array Oper}{o:Oper}{f:Act}{p:Act->Z->Prop}{Q:Exit->Act->Z->Prop}(k:o.guard=dE)(q x:Operand)(g h:TypeId)(c:o.op=Op.call {callee:=Callee.builtin Builtin.copy,args:=#[q,x],argTypes:=#[g,h]})(v u:ae)(j:f.eval q=v)(n:f.eval x=u)(l:(Builtin.copy_ #[g,h] o.type #[v,u]).run P a=.ok d e)(i:p (f.put o.dst d) e):if Region.wanted o (yielded b f.tmps)=cz then Oper.wp P o f a p Q else K:=by
 have m:Region.wanted o (yielded b f.tmps)=cz:=by simp[Region.wanted,k]
 rw[fW m];unfold Oper.wp;simp[execOp,c,resolve,invoke,builtin,j,n,l,Result.andThen];exact i
def UW(w:Z):(Go.sizeOf 223).run bN w=.ok 4 w:=aH
def rZ{w:Z}{g:TypeId}{a:Array ae}(d:w.heap[c]?=M (aK a g (0,0)))(f:a.toList.take (b*4)=Q)(j:R)(u:ae)(o:R)(e:(Q.drop o)[j]?=M u):bA w (X c<|o+j)=M u:=by
 rw[cE d];rw[List.getElem?_drop,<-f,qL]at e;grind
def LR(n6 j d n i:R)(k:Array ae)(l:iF)(F:n6<=j)(N:a.heap[j]?=M (aK k 223 (0,0)))(A:n+1<=d)(Q:d<=9223372036854775807)(D:k.size=d*4)(u:k.toList.take (n*4)=l)(o:jQ a b S)(r:b≠j)(hi:i<n)(hn:n<=1000000000)(h1:∀ab∈l,ab.oneCell'=cz):cR bN 191 #[bX j 0 n d,ay i,bX b 0 1 1] a λac w'=>ac=aN (bX j 0 (n+1) d)/\fE w' n6 223 4 (bX j 0 (n+1) d) (n+1) (l.take (i*4)++bj [S]++l.drop (i*4))/\I (λaa=>aa=j) a w':=by
 have L:y l=n*4:=by rw[<-u,dX,nH];omega
 have T:∀lb m,(callFunc 250 #[bX b 0 1 1,bX j ((i+1)*4) lb m]).run bN a=.ok (.value<|aO bD) a:=λlb m=>by rw[fG func250 aH aH aH (e:=Extern.SlicesOverlaps.overlaps #[102,102] #[4]) aH,Lib.run_overlaps_apart a 102 4 223 underlying102 4 UW (X b 0) (X j<|(i+1)*4) 1 1 lb m r _ _ 4 (d*4) (by unfold jQ at o;simp[World.shape?,o];rfl) (by simp[World.shape?,N,D];rfl) U (by unfold jQ at o;simp[World.frozen?,o]) (by unfold jQ at o;simp[World.frozen?,o])];rfl
 have s:(prog.info? 223).map (·.size)=M 4:=aH;have K:y (l.drop<|i*4)=(n-i)*4:=by rw[iZ,L];omega
 let⟨c,g⟩:∃c,c=(k.toList.take ((i+1)*4)++l.drop (i*4)++k.toList.drop ((i+1)*4+y (l.drop<|i*4))):=⟨_,rfl⟩;have O:y c=d*4:=by rw[g];grind
 have B:∀v p m,(Builtin.copy_ #[103,103] v #[bX j ((i+1)*4) (n-i) p,bX j (i*4) (n+1-i) m]).run bN a.drew=.ok (goInt<|Nat.min (n+1-i)<|n-i) (a.drew.setRow j c.toArray):=λv p m=>by rw[g];refine tu a.drew _ _ v 223 4 j ((i+1)*4) _ p (X j<|i*4) _ m k _ (l.drop<|i*4) underlying103 s N ?_ (λad ab P=>by rw[dS];exact rZ N u ad ab _ P) U aI;rw[K];grind
 have q:(a.drew.setRow j c.toArray).heap[j]?=M (aK c.toArray 223 (0,0)):=vZ _ _ _ _ _ _ N;let⟨e,f⟩:∃e,e=(c.take (i*4)++bj [S]++c.drop (i*4+y (bj [S]))):=⟨_,rfl⟩;have t:y (bj [S])=4:=rfl;have V:jQ (a.drew.setRow j c.toArray) b S:=(uv a.drew j b _ r).trans o;have C:∀(W:Z),W.heap=(a.drew.setRow j c.toArray).heap->∀v p,(Builtin.copy_ #[103,102] v #[bX j (i*4) (n+1-i) p,bX b 0 1 1]).run bN W=.ok (goInt<|Nat.min 1<|n+1-i) (W.setRow j e.toArray):=λW w v p=>by rw[f];refine tu W _ _ v 223 4 j (i*4) _ p (X b 0) _ 1 c.toArray _ (bj [S]) underlying103 s (w▸q) ?_ (λad ab P=>?_) dW<|DT S;rw[t];simp only[Nat.min_def];split<;>omega;rw[dS,cE (show jQ W b S by unfold jQ;rwa[w]),ez];simpa[bj,E.bU]using P
 have:¬((i:Y)=(n:Y)):=U;have:IntKind.i64.wrap ((i:Y)+1)=(i:Y)+1:=by rw[bR];omega
 have:IntKind.i64.wrap ((n:Y)+1)=(n:Y)+1:=by rw[bR];omega
 have:((i:Y)+1).toNat=i+1:=U;have:((n:Y)+1).toNat=n+1:=U;have:(0:Y)<=(i:Y)+1:=U;have:i<=n:=U;have:(i:Y)<=(n:Y)+1:=U;have:¬(d=i):=U;have:¬(d=i+1):=U;have:prog.follows .mixedOrders=cz:=aH
 have x:=ak (show∀W:Z,W.heap=(a.drew.setRow j c.toArray).heap->W.os=a.os->W.tape=a.tape->W.output=a.output->fE (W.setRow j e.toArray) n6 223 4 (bX j 0 (n+1) d) (n+1) (l.take (i*4)++bj [S]++l.drop (i*4))/\I (λaa=>aa=j) a (W.setRow j e.toArray)from by
  intro W w e1 e2 e3;refine⟨⟨by simp[t];omega,bu ⟨j,d,e.toArray,z,F,vZ _ _ _ _ _ _<|w▸q,A,Q,?_,?_⟩⟩,⟨e1,e2,e3,?_,?_⟩⟩
  .rw[f];grind
  .rw[List.toList_toArray,f,g];grind[Zh]
  .rw[setRow_size,w,setRow_size];simp_all
  .intro aa hk m;rw[uv _ _ _ _ m,w,uv _ _ _ _ m];rfl)
 clear O K g f t V q L h1 u D s o r F;go_in
 go_wp2_with(simp only[T])
 go_region_law_o (refine Bf z _ _ 103 103 z _ _ (by simp[Act.eval,ii]) (by simp[Act.eval,ii]) (B _ _ _) ?_)
 go_wp2_with(at_builtin;refine wpList_copy_run _ z _ _ 103 102 z _ _ z z (C _ z _ _) ?_)
 go_ret;exact⟨z,x _ z z z z⟩
end
structure Acc(S:fC)(w0:Z)(fx:cy (R×ae×TypeId))(lb:R)(c b:TypeId)(a base n:R)(xs:iF)(B:fC)(W:Z):Prop where
 l:∀p∈fx,fF W p.1 p.2.1 p.2.2
 bV:∃v,fF W lb v c/\fE W base b a v n xs/\(∀k,B k↔(∃p∈fx,p.1=k)\/k=lb\/cN v=M k)
 f:∀p∈fx,G (H w0)<=p.1/\p.1<base/\p.1≠lb
 L:G (H w0)<=lb/\lb<base
 aA:I S w0 W
section
variable{S:fC}{w0 W:Z}{fx:cy (R×ae×TypeId)}{lb:R}{c b:TypeId}{a n6 n:R}{xs:iF}{B:fC}
theorem Acc.lt(h:Acc S w0 fx lb c b a n6 n xs B W):∀k,B k->G (H w0)<=k/\k<G (H W):=by
 intro k j;let⟨v,m,g,i⟩:=h.bV;have:=h.L;obtain⟨p,d,e⟩|e|e:=(i k).1 j;subst e;exact⟨(h.f p d).1,az<|h.l p d⟩;grind
 have:=g.lt k e;grind
theorem Acc.gR{e:Z}{T:fC}(h:Acc S w0 fx lb c b a n6 n xs B W)(d:I T W e)(l:∀k,T k->¬B k/\(S k\/G (H w0)<=k)):Acc S w0 fx lb c b a n6 n xs B e:=by
 let⟨v,f,i,j⟩:=h.bV;exact⟨λp g=>(d.A _ (az<|h.l p g) aI).trans<|h.l p g,⟨v,(d.A _ (az f) aI).trans f,d.aZ i aI,j⟩,h.f,h.L,h.aA.aj d<|λk m=>(l k m).2⟩
theorem Acc.jl{e:Z}{v d:ae}{u:R}{l:iF}(h:Acc S w0 fx lb c b a n6 n xs B W)(t:fF W lb v c)(F:∀k,B k↔(∃p∈fx,p.1=k)\/k=lb\/cN v=M k)(C:fE W n6 b a v n xs)(r:I (λk=>cN v=M k) W e)(w:cN d=cN v\/∃E,cN d=M E/\G (H W)<=E)(g:fE e n6 b a d u l):∃s,Acc S w0 fx lb c b a n6 u l s (cP e (X lb 0) d)/\I B W (cP e (X lb 0) d)/\(∀k,s k->B k\/G (H W)<=k):=by
 have:∀k,cN v=M k->n6<=k/\k<G (H W):=λk f=>C.lt k f;have:∀k,cN d=M k->n6<=k:=λk f=>(g.lt k f).1;have:=h.L;have q:fF e lb v c:=(r.A _ (az t) aI).trans t;have j:I B W (cP e (X lb 0) d):=(r.aT (T:=B) aI).aL _ _ _ aI;refine⟨λk=>(∃p∈fx,p.1=k)\/k=lb\/cN d=M k,⟨λp o=>?_,⟨d,q.gu _,?_,λk=>tq⟩,h.f,h.L,?_⟩,j,?_⟩;let⟨K,L,D⟩:=h.f p o;have A:fF e p.1 p.2.1 p.2.2:=(r.A _ (az<|h.l p o) aI).trans<|h.l p o;exact A.dN _ D;exact g.kept (eG e _ _ _) aI;exact h.aA.aj j<|λk f=>bu (h.lt k f).1;grind
end
def ZA{a:cy dj}{c:af}(b:B≠c):ij (mK a B) c=ij a c:=by
 induction a with
 |nil=>rfl
 |cons f r d=>
  by_cases h:f.dA=B
  .have:¬f.dA=c:=aI;simp[mK,ij,h,b]
  .rw[mK,fN h];by_cases e:f.dA=c
   .rw[ij,fW e,ij,fW e]
   .rw[ij,fN e,ij,fN e,d]
def J1(c:af){F:dj}(h:cJ a b f)(e:ij f.ah c=M F)(p:y f.l<=1000000000000):cR bN 65 #[aJ b,bX (G<|H a) 0 1 1] (dw a<|aK #[aw c,ee dE] 154) λk n=>k=aN (de #[])/\∃l,pT a n b f l/\Qs (.rm c) f l:=by
 have j:(dw a<|aK #[aw c,ee dE] 154).heap[G<|H a]?=M (aK #[aw c,ee dE] 154 (0,0)):=jp _ _;have m:∀S,I S a (dw a<|aK #[aw c,ee dE] 154):=λS=>(cI S a);generalize dw a (aK #[aw c,ee dE] 154)=W at*;have i:cJ W b f:=h.aA (m aC)<|λ_ _=>id;have d:vR W (bX (G<|H a) 0 1 1,[(c,dE)]):=by refine⟨show Row _ _ _ _ _ from⟨z,bu ⟨G<|H a,0,1,z,aq _,λt u o=>?_⟩⟩,ar,λs k=>?_⟩;rw[ez,cE j];simpa[tR,AM,lq]using o;cases k;grind
 go_call GU (f.ah.map dj.nm) [(c,dE)] i.S i.l d.1 ar i.o p as k n⟨rfl,r,g⟩;rw[GV]at g;simp only[OF,<-PS]at g;exact⟨z,_,Kg h m g d (λs k=>by cases k;grind) (os:=f.qP++[F]) (λc a=>⟨c,(aP.1 a).elim (λq=>DK.D<|(oH _ _).subset q)<|λq=>(aP.1 q).elim DK.A<|λq=>bY.1 q▸DK.D (eM e).2.1,z,z,z,z⟩) (h.fq.sublist<|oH _ _) (Jg _ _) (λi b c a=>(aP.1 b).elim (λq=>h.i i q c<|(oH _ _).subset a)<|λq=>bY.1 q▸(vK h.fq e c a).zC)<|eH.2 ⟨h.n,nJ _ _,λi b c a=>bY.1 a▸(h.i i b F (eM e).2.1).zC⟩,F,_,e,z,z,z⟩
def Jt{K:DK}(c:af)(h:cJ a b K)(B:ij K.ah c=dE->qu K.fx)(A:y K.l<=1000000000000)(i:Nm c):cR bN 23 #[aJ b,aw c] a λs C=>wU a C b K [.rm c] s:=by
 have x:=tA c h i;have p:=ak<|λ(F:dj)(e:ij K.ah c=M F)(l:Z)t(d:cJ l b {K with fx:=t})=>J1 c d e A;go_in
 go_wp21;go_call x as s l⟨t,e,D,⟨m,d,rfl⟩|⟨d,q,rfl,j⟩|⟨w,q,rfl,j⟩⟩
 .have k:=p m d l t e.ok;go_wp2_with(first
   |(go_at_call 65;refine sU k ?_;rintro s E⟨rfl,r,u,v⟩;have n:=ak u;have o:=ak v))
  go_ret;exact⟨_,r,z,e.aj n,J ⟨z,mu.ph ⟨z,z,z⟩<|mu.pK<|ag o⟩⟩
 (.let⟨f,g,HB⟩:=eU e j<|B d;go_wp2;go_ret;exact⟨_,_,z,vU.A f ⟨z,z,z⟩ (ag g)<|bu ⟨bu<|J z,ag HB⟩⟩);let⟨f,g,HB⟩:=eU e j w;go_wp2;go_ret;exact⟨_,_,z,vU.A f ⟨z,z,z⟩ (ag g)<|J ⟨z,ag HB⟩⟩
def J0(d c:af){F:dj}(h:cJ a b f)(j:ij f.ah d=M F)(k:d≠c)(A:y f.l<=1000000000000):cR bN 65 #[aJ b,bX (G<|H a) 0 2 2] (dw a<|aK #[aw c,aJ F.l,aw d,ee dE] 154) λn w=>n=aN (de #[])/\∃s,pT a w b f s/\Qs (.rn d c) f s:=by
 have r:(dw a<|aK #[aw c,aJ F.l,aw d,ee dE] 154).heap[G<|H a]?=M (aK #[aw c,aJ F.l,aw d,ee dE] 154 (0,0)):=jp _ _;have v:∀S,I S a (dw a<|aK #[aw c,aJ F.l,aw d,ee dE] 154):=λS=>(cI S a);generalize dw a (aK #[aw c,aJ F.l,aw d,ee dE] 154)=W at*;have p:cJ W b f:=h.aA (v aC)<|λ_ _=>id;have l:vR W (bX (G<|H a) 0 2 2,[(c,M F.l),(d,dE)]):=by refine⟨show Row _ _ _ _ _ from⟨z,bu ⟨G<|H a,0,2,z,aq _,λq t g=>?_⟩⟩,ar,λC n=>?_⟩;rw[ez,cE r];simpa[tR,AM,lq]using g;cases n;grind
 go_call GU (f.ah.map dj.nm) [(c,M F.l),(d,dE)] p.S p.l l.1 ar p.o A as n w⟨rfl,B,u⟩;have x:qR (f.ah.map dj.nm) [(c,M F.l),(d,dE)]=(po (mK f.ah d) {F with dA:=c}).map dj.nm:=by rw[<-WE (f:={F with dA:=c}) (λn=>k n.symm),PS,Oj];rfl
 rw[x]at u;refine⟨z,_,Kg h v u l (os:=f.qP++(ij f.ah c).toList) (λC n=>by cases n;grind) (λm e=>?_) ?_ ?_ (λo i m e=>?_) ?_,F,_,j,z,z,z⟩;obtain e|e:=aP.1 e;(obtain rfl|e:=xI e;exact⟨F,DK.D (eM j).2.1,z,z,z,z⟩;grind[DK.D,oH]);obtain e|e:=aP.1 e;(grind);exact⟨m,DK.D (eM<|Option.mem_toList.1 e).2.1,z,z,z,z⟩;refine GF ((h.fq.sublist<|oH _ _).sublist<|oH _ _)<|λo g=>?_;have:=vK h.fq j o<|(oH _ _).subset g;exact this;have:=uG (mK f.ah d) {F with dA:=c};have:=Jg (mK f.ah d) c;have:=sW j;grind
 have q:=(eM j).2.1;have g:m={F with dA:=c}\/m∈mK (mK f.ah d) c:=xI e;obtain i|i:=aP.1 i;obtain rfl|g:=g;exact h.i o i F q;exact h.i o i m<|(oH _ _).subset<|(oH _ _).subset g;(have t:ij (mK f.ah d) c=M o:=by rw[ZA k];grind);obtain rfl|g:=g;exact vK h.fq j o (eM t).2.1;exact(vK (h.fq.sublist<|oH _ _) t m g).zC;refine eH.2 ⟨h.n,?_,λo i m e=>(h.i o i m (eM<|Option.mem_toList.1 e).2.1).zC⟩;cases ij f.ah c<;>simp
def Vk{K:DK}(c d:af)(h:cJ a b K)(D:ij K.ah c=dE->qu K.fx)(f:c≠d)(C:y K.l<=1000000000000)(k:Nm c):cR bN 261 #[aJ b,aw c,aw d] a λu E=>wU a E b K [.rn c d] u:=by
 have B:=tA c h k;have s:=ak<|λ(F:dj)(g:ij K.ah c=M F)(n:Z)v(e:cJ n b {K with fx:=v})=>J0 c d e g f C;have:(!c.toList==d.toList)=cz:=by simp[BI f]
 go_in
 go_wp21;go_call B as u n⟨v,g,F,⟨o,e,rfl⟩|⟨e,q,rfl,l⟩|⟨A,q,rfl,l⟩⟩
 .have m:=s o e n v g.ok;go_wp2_with(first
   |(go_at_call 65;refine sU m ?_;rintro u L⟨rfl,t,w,x⟩;have p:=ak w;have r:=ak x))
  go_ret;exact⟨_,t,z,g.aj p,J ⟨z,mu.ph ⟨z,z,z⟩<|mu.pK<|ag r⟩⟩
 (.let⟨i,j,HB⟩:=eU g l<|D e;go_wp2;go_ret;exact⟨_,_,z,vU.A i ⟨z,z,z⟩ (ag j)<|bu ⟨bu<|J z,ag HB⟩⟩);let⟨i,j,HB⟩:=eU g l A;go_wp2;go_ret;exact⟨_,_,z,vU.A i ⟨z,z,z⟩ (ag j)<|J ⟨z,ag HB⟩⟩
def cJ.U6{K:DK}{D:gU}(h:cJ a b K)(n:I (λk=>k=K.sb) a e)(q:iP e K.sb D):pT a (cP e (X b 2) aF) b K {K with mv:=aF,l:=[],sm:=D}:=by
 have i:b≠K.sb:=h.D.qd h.S;have p:lV e b K.nb K.sb K.mv K.fx:=(n.A b (az h.S) i).trans h.S;have g:I (λk=>k=b\/k=K.sb) a (cP e (X b 2) aF):=(n.aT<|λx c=>J<|bu c).aL b 2 _<|J<|J z;have f:∀j∈K.ah++K.qP,sB (cP e (X b 2) aF) j:=by intro j d;have hF:=h.dq d;refine hF.aA g ?_ ?_;rintro(c|c);exact lk hF.1 h.S cg c;exact h.D.qd hF.1 c;intro k c;let⟨o,m⟩:=gh hF.2.1 c;rintro(c|c);exact lk m h.S cg c;exact h.D.qd m c
 refine⟨⟨?_,?_,?_,h.ne,ct _ _ _ _,ar,λj d=>f j<|DK.D d,h.fq,h.L,h.d,h.v,λj d=>f j<|DK.A d,h.i,h.n⟩,?_,?_,Fx.bI _⟩;unfold lV;rw[aY p];rfl;refine h.l.aA g ?_;rintro(c|c);exact h.l.qd h.S c.symm;exact h.ne c;exact q.qT (eG e b 2 _) aI
 .exact g.aT (by
   rintro x(rfl|rfl)
   .exact J<|J z
   .exact J (bu (bu (J z))))
 rintro k(c|c|c|c|⟨x,m,_⟩|c);exact J<|J c;exact J<|bu<|J c;exact J<|bu<|bu<|J c;cases c;cases m;exact J<|bu<|bu<|bu<|bu<|bu c
def Gc(B:cJ a b f)(hn:y f.l<=1000000000000):cR bN 112 #[aJ b] a λu q=>wU a q b f [.sd] u:=by
 have T:=CX B;go_in
 go_wp21;go_call T as u P⟨av,ax,rfl,o,N,hz,Q⟩;cases av;(case true=>have HB:=ak<|Q z;clear N hz Q T;go_wp2;go_ret;exact⟨_,_,z,vU.A (o.bH<|cI _ _) ⟨z,z,z⟩ (rE.lY _ _ (by unfold Nm;decide))<|J ⟨z,ag HB⟩⟩);have h:=o.ok;have v:=ak o;have E:b≠f.sb:=h.D.qd h.S;have m:∀wr,I (λr=>r=f.sb) P wr->bA wr (X b 1)=M (.map<|M f.sb)/\bA wr (X b 2)=M f.mv/\iI wr (X b 2)=bD:=by intro wr g;have o:lV wr b f.nb f.sb f.mv ax:=(g.A b (az h.S) E).trans h.S;exact⟨by rw[cE o];rfl,by rw[cE o];rfl,cV o⟩
 have s:=ak m;have ac:=(m P<|I.bI _ _).2.1;have i:=ak<|λ(q:Z)(D:gU)(g:I (λr=>r=f.sb) P q)(j:iP q f.sb D)=>(ag v).aj<|h.U6 g j;have p:∀(wr:Z)(n:R)(c:n<y f.l)(D:gU),I (λr=>r=f.sb) P wr->iP wr f.sb D->cR bN 53 #[.map<|M f.sb,f.l[n].1] wr λu q=>u=aN (de #[])/\iP q f.sb (qR D f.l[n].2)/\wr.grownBy q (M f.sb):=by intro wr n c D g j;have l:=(h.bZ f.l[n]<|aB c).aA g (λr u x=>by let⟨A,C,w⟩:=(h.bZ f.l[n]<|aB c).2.2 r u;exact h.D.qd w x);exact JI D f.l[n].2 j l.1<|bP l.2.1
 let⟨k,d,e,t⟩:=js p h.o h.D<|λr=>h.Nt (k:=r);simp only[Hid]at d e t i;generalize al:f.mv=mv at*;obtain⟨rfl,B⟩|⟨ap,aa,A,rfl,_,hg,ao,_,m,O⟩:=d.2;(.have l:f.l=[]:=bG B;go_wp2;(go_loopw [15] (λV wr=>V=ay 0/\wr=P) (λ_ _=>0));(grind);obtain⟨rfl,rfl⟩:=hrel;have F:=(s wr<|I.bI _ _).2.2;go_wp2;go_ret;exact⟨_,_,z,vU.ok (i wr f.sm (I.bI _ _) e) ⟨z,by rw[l];rfl,z⟩⟩)
 .have l:∀n(c:n<y f.l)wr,I (λr=>r=f.sb) P wr->bA wr (X ap n)=M f.l[n].1:=by
   intro n c wr g;refine g.u ?_ (t ap z).1<|az hg;have:=World.ownsRow.cellAt d n U;rw[this];simp[c]
  go_wp2;go_loopw [15] (λV wr=>∃n:R,n<=y f.l/\V=ay n/\I (λr=>r=f.sb) P wr/\iP wr f.sb (((f.l.take n).map (·.2)).foldl qR f.sm)) (λV _=>y f.l-(intOf V).toNat)
  .exact⟨0,bQ _,z,I.bI _ _,e⟩
  .obtain⟨n,an,rfl,g,j⟩:=hrel;let⟨D,C⟩:∃D,((f.l.take n).map (·.2)).foldl qR f.sm=D:=⟨_,z⟩;rw[C]at j;let⟨ab,S,F⟩:=s wr g;have W:=ak j;by_cases c:n<y f.l
   .have ad:=l n c wr g;have HS:=ak<|k wr n c D g j;go_wp2_with(first
     |(go_at_call 53;refine HS.mono ?_;rintro u w2⟨rfl,L,K⟩;have x:=ak L;have w:=ak K))
    go_roundw
    .exact⟨n+1,U,dM,g.aj (gI w)<|λb u=>J u,by rw[aG c,bz,jS,C];exact x⟩
    .simp[intOf];omega
   .clear j;have w:n=y f.l:=U;subst w;go_wp2;go_ret;exact⟨_,_,z,vU.ok (i wr D g W) ⟨z,by rw[<-C,cQ],rfl⟩⟩
def Yo{m:gU}(h:gU.jo m B=M d):gU.gL m B d=m:=by
 induction m with
 |nil=>cases h
 |cons p r a=>
  by_cases e:p.1=B
  .simp[gU.jo,e]at h;simp[gU.gL,e,<-h];rw[<-e]
  .simp[gU.jo,e]at h;simp[gU.gL,e,a h]
def cJ.t{K:DK}{F F':dj}(h:cJ a b K)(N:ij K.ah F'.dA=M F)(C:F'.l=F.l)(r:I (λk=>k=F.l\/cN F.A=M k) a e)(hF:sB e F')(E:∀k,cN F'.A=M k->cN F.A=M k\/G (H a)<=k)(S:fw (po K.ah F')<=4611686018427387904):pT a e b K {K with ah:=po K.ah F'}:=by
 let⟨_,d,A⟩:=eM N;have f:=h.ah F d;have u:∀{k O:R}{q:Array ae}{D:R×R},a.heap[k]?=M (aK q O D)->O≠93->O≠5->¬(k=F.l\/cN F.A=M k):=by rintro k O q D Q P T(c|c);exact lk Q f.1 P c;let⟨i,l⟩:=gh f.2.1 c;grind
 have g:∀{O:R}{P:gU},iP a O P->¬(O=F.l\/cN F.A=M O):=by rintro O P q(c|c);exact q.qd f.1 c.symm;let⟨i,l⟩:=gh f.2.1 c;exact q.qd l z
 have j:∀t∈mK K.ah F'.dA,t∈K.ah:=λt n=>(oH _ _).subset n;have p:=vK h.fq N;refine⟨⟨?_,?_,h.D.aA r<|g h.D,h.ne,?_,?_,?_,?_,h.L,S,h.v,?_,?_,h.n⟩,?_,?_,Fx.bI _⟩;exact(r.A b (az h.S)<|u h.S cg cg).trans h.S;show iP e K.nb ((po K.ah F').map dj.nm);rw[Oj,C,Yo A];exact h.l.aA r<|g h.l;refine r.aZ h.o<|λk c=>?_;let⟨i,l⟩:=gh h.o c;grind
 intro B o;refine(h.bZ B o).aA r<|λk c=>?_;let⟨i,D,l⟩:=(h.bZ B o).2.2 k c;grind
 intro B o;obtain rfl|o:=xI o;exact hF;have s:=h.ah B<|j B o;refine s.aA r ?_ ?_;rintro(c|c);exact(p B o).1 c.symm;let⟨i,l⟩:=gh f.2.1 c;exact lk s.1 l cg z;intro k x;rintro(c|c);let⟨i,l⟩:=gh s.2.1 x;exact lk l f.1 cg c;exact(p B o).2 k c x;refine GF (h.fq.sublist<|oH _ _)<|λt n=>⟨C▸(p t n).1,λk c v=>?_⟩;obtain w|w:=E k c;exact(p t n).2 k w v;have:=(aS (h.ah t<|j t n).2.1 k v).2;omega;intro B o;have s:=h.sD B o;have q:=h.i B o F d;refine s.aA r ?_ ?_;rintro(c|c);exact q.1 c.symm;let⟨i,l⟩:=gh f.2.1 c;exact lk s.1 l cg z;intro k x;rintro(c|c);let⟨i,l⟩:=gh s.2.1 x;exact lk l f.1 cg c;exact q.2 k c x;intro t q L m;obtain rfl|m:=xI m;refine⟨C▸(h.i t q F d).1,λk c v=>?_⟩;obtain w|w:=E k c;exact(h.i t q F d).2 k w v;have:=(aS (h.sD t q).2.1 k v).2;omega;exact h.i t q L<|j L m
 .exact r.aT (by
   rintro B(rfl|c)
   .exact J<|bu<|bu<|bu<|bu<|bu ⟨F,DK.D d,J z⟩
   .exact J (bu (bu (bu (bu (bu ⟨F,DK.D d,bu c⟩))))))
 (.rintro k(c|c|c|c|c|⟨L,m,c⟩);exact J<|J c;exact J<|bu<|J c;exact J<|bu<|bu<|J c;exact J<|bu<|bu<|bu<|J c;exact J<|bu<|bu<|bu<|bu<|J c;(.obtain m|m:=aP.1 m;rotate_left;exact J<|bu<|bu<|bu<|bu<|bu ⟨L,DK.A m,c⟩;obtain rfl|m:=xI m;obtain c|c:=c;exact J<|bu<|bu<|bu<|bu<|bu ⟨F,DK.D d,J<|C.symm.trans c⟩;obtain c|c:=E k c;exact J<|bu<|bu<|bu<|bu<|bu ⟨F,DK.D d,bu c⟩;exact bu c;exact J<|bu<|bu<|bu<|bu<|bu ⟨L,DK.D<|j L m,c⟩))
def fA.fS(h:fA a b d m):∃x c,d=am x (y m) c:=aM h
def cJ.zdq{K:DK}{F:dj}(h:cJ a b K)(e:ij K.ah B=M F):pT a (cP a (X F.l 1)<|ay<|y F.bB) b K {K with ah:=po K.ah {F with D:=y F.bB}}:=by
 let⟨d,c,g⟩:=eM e;have hF:=h.ah F c;have f:cN F.A≠M F.l:=ue hF.2.1 hF.1 cg;refine h.t (F:=F) (F':={F with D:=y F.bB}) (by rw[show({F with D:=y F.bB}:dj).dA=F.dA from rfl,d];exact e) z ((I.bI _ a).aL F.l 1 _<|J<|J z) ⟨?_,?_,hF.2.2.1,ar,ar,hF.2.2.2.2.2⟩ (λl k=>J k) ?_;show(cP a (X F.l 1)<|ay<|y F.bB).heap[F.l]?=_;rw[aY hF.1];rfl;exact qI hF.2.1 (eG a F.l 1 _)<|bu f;have i:=uG K.ah {F with D:=y F.bB};have j:=sW e;rw[<-d]at j;have:=h.d;simp only at i;omega
def Tz(c:af)(h:cJ a b f)(t:ij f.ah c=dE->qu f.fx)(l:Nm c):cR bN 111 #[aJ b,aw c] a λw u=>wU a u b f [.sy c] w:=by
 have r:=tA c h l;go_in
 go_wp21;go_call r as w v⟨B,e,x,⟨g,d,rfl⟩|⟨d,q,rfl,m⟩|⟨p,q,rfl,m⟩⟩;(.have o:=ak d;have hF:=e.ok.ah g (eM d).2.1;have:y g.bB<=140737488351232:=bP hF.2.2.2.2.2;have k:=aX hF.1 0;have:=aX hF.1 1;have:iI v (X g.l 1)=bD:=cV hF.1;let⟨C,A,s⟩:=fA.fS hF.2.1;rw[s]at k;have n:=ak<|e.ok.zdq d;go_wp2;go_ret;exact⟨_,_,z,e.aj n,J ⟨z,mu.ph ⟨z,z,z⟩<|mu.pK ⟨g,o,z,z,z⟩⟩⟩);(.let⟨i,j,HB⟩:=eU e m<|t d;go_wp2;go_ret;exact⟨_,_,z,vU.A i ⟨z,z,z⟩ (ag j)<|bu ⟨bu<|J z,ag HB⟩⟩);let⟨i,j,HB⟩:=eU e m p;go_wp2;go_ret;exact⟨_,_,z,vU.A i ⟨z,z,z⟩ (ag j)<|J ⟨z,ag HB⟩⟩
def zeq(w b:Z)(c:R)(K:DK)(a:af)(e:Ending):Prop:=∃f,pT w b c K {K with fx:=f}/\((∃F,ij K.ah a=M F/\e=aN (de #[ay<|y F.bB,ic]))\/(ij K.ah a=dE/\∃q,e=aN (de #[ay 0,eW q])/\rE b q 10)\/(0<K.fx.bd/\∃q,e=aN (de #[ay 0,eW q])/\rE b q 8))
def TF(c:af)(h:cJ a b f)(k:Nm c):cR bN 120 #[aJ b,aw c] a λs r=>zeq a r b f c s:=by
 have o:=tA c h k;have:=h.d;have:=h.v;go_in
 go_wp21;go_call o as s u⟨m,e,t,⟨F,d,rfl⟩|⟨d,q,rfl,l⟩|⟨n,q,rfl,l⟩⟩;(.have hF:=e.ok.ah F (eM d).2.1;have j:=aX hF.1 0;let⟨x,v,p⟩:=fA.fS hF.2.1;rw[p]at j;have:y F.bB<=140737488351232:=bP hF.2.2.2.2.2;go_wp2;(go_ret2);exact⟨m,e,J ⟨F,d,z⟩⟩);(.let⟨g,i,j⟩:=eU e l d;go_wp2;(go_ret2);exact⟨m,g,bu<|J ⟨j,q,z,i⟩⟩);let⟨g,i,HB⟩:=eU e l n;go_wp2;(go_ret2);exact⟨m,g,bu<|bu ⟨HB,q,z,i⟩⟩
def qg.oO{m left:gU}(h:qg a b c m left):a.rangeLeft b c=y left:=by
 let⟨l,d,e,seen,k,g,_,_,i,_,_,_,j⟩:=h;simp only[World.rangeLeft,g,i];have:=cD y j;grind
def zO{L:cy dj}{b a:gU}{p:af×ae}(h:L.map dj.nm=b++p::a):∃A f C,L=A++f::C/\b=A.map dj.nm/\p=f.nm/\a=C.map dj.nm:=by
 obtain⟨A,D,rfl,c,d⟩:=jz.1 h;grind[map_eq_cons_iff]
def Kp{db:R}{K:DK}(c:af)(bi e x:R)(d:eD){w0:Z}(h0:cJ w0 db K)(hx:ij K.ah c=dE->qu K.fx)(bb:qu K.fx\/fw K.ah+y d<=1000000000)(bm:y d<=1099511627776)(aU:kj d)(ap:∀bg V,(d.map<|Value.int .u8)[bg]?=M V->bA w0 (X bi<|e+bg)=M V)(o:bi<G (H w0))(ao:bi≠db)(m:Nm c):cR bN 25 #[aJ db,aw c,bX bi e (y d) x] w0 λaa w'=>wU w0 w' db K [.ap c d] aa:=by
 obtain⟨i0,hi,bc,bd,bf⟩:=cZ pN;have hf:=tA c h0 m;have:=h0.v;go_in
 go_wp2_with fail
 apply hf.mono;rintro aa W⟨n,vT,P,⟨F,t,rfl⟩|⟨h1,q,rfl,hq⟩|⟨hb,q,rfl,hq⟩⟩;rotate_left;(.obtain⟨p,HQ,HB⟩:=eU vT hq<|hx h1;go_wp2;go_ret;exact⟨_,_,z,vU.A p ⟨z,z,z⟩ (ag HQ)<|bu ⟨bu<|J z,ag HB⟩⟩);(.obtain⟨p,HQ,HB⟩:=eU vT hq hb;go_wp2;go_ret;exact⟨_,_,z,vU.A p ⟨z,z,z⟩ (ag HQ)<|J ⟨z,ag HB⟩⟩);obtain⟨m,E,bl⟩:=eM t;subst m;have h:=vT.ok;have ax:n.d=K.fx.d:=vT.fx.d;have:fw K.ah<=4611686018427387904:=h.d;have:=sW t;have:=aX h.S 0;obtain⟨p,w,HB⟩:=eU (λ(wr:Z)(k:I aC W wr)=>h.aA k<|λ_ _=>id) h.l<|λ(wr:Z)(k:I aC W wr)bg V(hj:(d.map<|Value.int .u8)[bg]?=M V)=>k.u (P.u (ap bg V hj) ao o) id<|au o P.D;have:=ak t
 go_wp2_with(first
  |(at_range;refine oK _ z _ 86 z 9 90 underlying86 K.nb _ z w ?_;intro w0 D aD bq;have al:=ak D;have v:=ak aD))
 go_frame
 go_loopw [9] (λV wr=>∃(bh:cy dj)(a:R),(∀n∈bh,n∈K.ah)/\V=ay a/\a+fw bh=fw K.ah/\qg wr K.nb (G<|H W) (K.ah.map dj.nm) (bh.map dj.nm)/\I aC W wr) (λ_ wr=>wr.rangeLeft K.nb<|G<|H W)
 case atStart=>exact⟨K.ah,0,λ_ h=>h,rfl,ar,al,I.eF v ar⟩
 case round=>
  obtain⟨bh,a,hL,rfl,O,C,k⟩:=hrel;go_wp2_with(first
   |(at_next;refine ot _ z _ z K.nb (G (H W)) _ _ z C ?_ ?_))
  .intro aV;obtain rfl:bh=[]:=dV aV;have:a=fw K.ah:=by simpa[fw]using O
   have l:=p wr k;have hF:=l.ah F E;have av:=aX l.S 3;have B:=aX hF.1 0;simp only at av;have:IntKind.i64.wrap (n.d-(a:Y))=n.d-a:=by rw[bR];omega
   by_cases bp:(fw K.ah:Y)+y d<=n.d
   .have ba:cN F.A≠M F.l:=ue hF.2.1 hF.1 cg;have f:∀i j,fE j 0 5 1 i (y F.bB+y d) (F.bB.map (Value.int .u8)++d.map (Value.int .u8))->fo wr j F.A i->bA j (X F.l 0)=M F.A/\iI j (X F.l 0)=bD/\∃a,pT W (cP j (X F.l 0) i) db {K with fx:=n} a/\Qs (.ap F.dA d) {K with fx:=n} a:=by
     intro i j N s;have b:j.heap[F.l]?=M (aK #[F.A,ay F.D] 93 (0,0)):=(s.dF.block F.l (az hF.1)<|λaa=>ba aa.symm).trans hF.1;have L:cN i≠M F.l:=ue N b cg;refine⟨by rw[cE b];rfl,cV b,_,(p W<|I.bI _ _).t (F:=F) (F':={F with A:=i,bB:=F.bB++d}) t rfl ?_ ⟨?_,?_,hF.2.2.1.jO aU,hF.2.2.2.1,by have:=hF.2.2.2.2.1;simp;omega,by simp;omega⟩ ?_ ?_,F,i,t,z,z,z⟩
     .exact((k.aT (T:=λab=>ab=F.l\/cN F.A=M ab) cY).aj (I.eF (S:=λab=>cN F.A=M ab) s.dF<|λab aa=>J aa) aI).aL F.l 0 i<|J<|J z
     .show(cP j (X F.l 0) i).heap[F.l]?=_;rw[aY b];rfl
     .exact fA.of (qI N (eG j F.l 0 i)<|bu L) ar ar
     .intro ab aa;obtain e'|⟨an,e',bo⟩:=s.f
      .grind
      .have:an=ab:=by
        have e2:cN i=M ab:=aa;rw[e']at e2;simpa using e2
       exact bu<|bP k.D
     grind[uG,length_append]
    have u:=ak f;have HO:=ak hF.2.1;obtain⟨bs,br,r⟩:=fA.fS hF.2.1;have bk:¬((n.d-a:Y)<y d):=U;generalize F.A=fd at*;subst r;have ac:=ak<|HB wr k;go_wp2_with(first
     |(at_builtin;go_loud(refine cq _ z (.tmp 54) (.tmp 55) 31 z 0 5 i0 (.int .u8 0) 1 1 underlying31 hi bc bd bf z cg _ (y F.bB) (F.bB.map (Value.int .u8)) z HO (X bi e) (y d) x (d.map (Value.int .u8)) z ar (λbg V hj=>by rw[dS];exact ac bg V hj) (by intro V hu;simp only[cC]at hu;obtain⟨g9,_,rfl⟩:=hu;rfl) U U (bQ _) ?_;intro v2 j g Q;obtain⟨bn,ax,f⟩:=u v2 j g Q;obtain⟨x2,c2,rfl⟩:=aM g;have ad:=ak f)))
    go_ret;obtain⟨K2,h2,h3⟩:=ag ad;exact⟨_,K2,z,vT.aj h2,J ⟨z,mu.ph ⟨z,z,z⟩<|mu.pK h3⟩⟩
   .have:(n.d-a:Y)<y d:=U;have b:=ak<|show qu K.fx from bb.elim id<|λq=>bu U;go_wp2;go_ret;exact⟨_,_,z,vU.A (vT.bH<|k.aE _) ⟨z,z,z⟩ (rE.lY _ _ m)<|bu ⟨J z,ag b⟩⟩
  .intro ba pk pv N Q u f s aV av;obtain⟨ab,n,ac,rfl,rfl,L,rfl⟩:=zO u;simp only[dj.nm,lq,jt]at L;obtain⟨rfl,rfl⟩:=L;have j:n∈K.ah:=hL n ar;have g:I aC W Q:=k.aj (gI s) aI;have l:=p Q g;have hF:=l.ah n j;have B:=aX hF.1 0;let⟨bs,br,r⟩:=fA.fS hF.2.1;rw[r]at B;have:fw (ab++n::ac)=fw (ab++ac)+y n.bB:=by simp[fw];omega
   let⟨ad,b,i⟩:=eU (show(λan=>an∈K.ah)=(λan=>an∈K.ah)from rfl) f g;go_wp2;go_roundw
   .exact⟨ab++ac,a+y n.bB,λan t=>hL an aI,dM,U,dV<|ag b,i⟩
   .rw[(ag b).oO,C.oO];simp
