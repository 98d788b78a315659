import Derived.Test.YtojeeoclojldpaaGreatDoorC32
import Derived.Test.YtojeeoclojldpaaGreatDoorC33
open _root_ renaming List.length→y,Option.some→H,Array.size→z,Go.World.heap→G,Go.Value.ownBlock→bV,Go.World.cell?→aT,Go.World.setCell→bZ,Go.World.alloc→ct,Bool.false→bF,Bool.true→bW,Nat→M,Int→Z,List→cr,Go.Calls→cy,Go.Proofs.Tryz.prog→bG,Go.Value.slice→J,Go.Value.string→ai,Go.Value.bool→aL,Go.Value.pointer→fp,Go.Value.tuple→dB,Go.Value.agg→eC
namespace Go.Proofs.YtojeeoclojldpaaGreatDoor
open ChangeShapes WideShapes RowKit Proofs.Tryz
set_option maxHeartbeats 16000000
set_option linter.all false
set_option maxRecDepth 100000
theorem sq{A:M}{m:dW}{l:iH}{t:Z}(r:PR A m)(u:vt (m.map<|ke t) l)(lo n:ab)(k:Z):sO t lo n k m=mO l lo n k:=by
 have p:∀v∈m.map (fR lo),gM v:=λv q=>by obtain⟨x,s,rfl⟩:=aZ.1 q;exact(r.row x s).sub eU
 have o:ku (m.map<|fR lo):=by unfold ku;rw[jp];exact r.sQ.imp λ{v x}q o m k n w=>q o (cS.1 m).1 k (cS.1 n).1 w
 exact OG u (λm w q=>Wd q) lo n k (mG (ny p o) t)<|Wu r.row r.sQ lo t
theorem Gt(t:Z)(m:ab):∀(k:cr (aa×cA)),(∀r∈k.map (·.2),gM r)->wq t m k=qL ((k.map (·.2)).map<|ke t) m
 |[],_=>rfl
 |r::k,p=>by
  have o:=Gt t m k<|λx n=>p x (by simp at n|-;exact .inr n);unfold wq qL at*;simp only[rS,aY];rw[RX (p r.2<|by simp),o]
theorem LO{F:M}{K:SR}{t:cA}{p q r s:cP}{l:iH}{D:Z}(v:PR F (t::cF p q r s))(w:vt ((t::cF p q r s).map<|ke D) l)(k:ab):Oc k D (qB K t p q r s)=dB #[ai (sf l k).1,aL (sf l k).2.1,lE (sf l k).2.2]:=by
 unfold Oc;by_cases n:1<=k.size/\k.size<=8;have u:sf l k=((qf l k).1,(qf l k).2,0):=cW (by omega);rw[dw n,u,Gt _ _ _ (by rw[sr];exact v.row),sr,Sm w k];unfold seen;rcases hq:qL ((t::cF p q r s).map<|ke D) k with _|E;rfl;(have x:E.Good:=by obtain⟨L,A,B⟩:=bz.1<|Ps hq;obtain⟨o,m,rfl⟩:=aZ.1 A;exact v.jc E<|bz.2 ⟨o,m,xP (v.row o m) B⟩);rcases hd:E.del with _|_;simp[Wg,hd];rfl;simp[Wg,hd,x.del hd];rfl;have u:sf l k=(⟨#[]⟩,bF,3):=dw (by omega);rw[cW n,u]
theorem Gs(n v:ab)(l:iH):∀e:iH,l.foldl (fQ n v) (e,bW)=(e++l.filter (λp=>!decide (p.1=n)),bW):=by
 induction l with
 |nil=>intro e;simp
 |cons p l k=>
  intro e;obtain⟨o,q⟩:=p;rw[fP];by_cases m:o=n
  .rw[Gp m,k];simp[m]
  .rw[Gn m,k];simp[m]
theorem Th(l:iH)(m v k:ab):vL l m v bW=vL l m k bW:=by
 unfold vL pW;rw[Gs,Gs];simp
theorem Wm{r:dW}(n:Z)(m:uz):∀{q:cA}{l:iH},wM q->vt (q::r) l->vt (gJ q (m.map<|lV n)::r) (SE l m):=by
 induction m with
 |nil=>intro q l _ s;exact s
 |cons k m u=>
  intro q l p s;have o:=US p s<|lV n k;have t:vL l (lV n k).key (lV n k).val (lV n k).del=vL l k.key k.val k.del:=by
   unfold lV;simp only;cases hd:k.del with
   |true=>exact Th _ _ _ _
   |false=>simp
  rw[t]at o;exact u (wM.gJ p [lV n k]) o
section
variable{i W:I}{j db sbqq h:M}{g:PB}{mem b:Z}{e c:aa}{lo:iH}{O:cr (M×Obj)}{C N:M}{l d:LC}{f a:Bool}
theorem LW.now{w:SR}{K:DK}{v:cA}{q r s t:cP}{m:M}{k:dW}{p:Zs}{o:cr oP}(u:LW i W j db sbqq h g mem b e c lo O w K v q r s t C m N k p o d bF l f):vt ((v::cF q r s t).map<|ke w.bC) d.1:=by
 obtain⟨_,_,n⟩:=u.vu;rw[aY,n.mem,n.BH];exact u.yG
theorem LW.shut{p:I}{F:SR}{K:DK}{V:cA}{L P Q T:cP}{n:M}{m:dW}{w:Zs}{v:cr oP}(o:LW i W j db sbqq h g mem b e c lo O F K V L P Q T C n N m w v d bW l f)(B:bL p sbqq F 0)(r:Y (λu=>u=sbqq) W p):LW i p j db sbqq h g mem b e c lo O F K V L P Q T C n N m w v d bW l f:=by
 obtain⟨x,E,D,k,hL⟩:=o.vu;have s:gw W p db sbqq K K:=BB hL.aN o.rV r;have t:=o.lu (S:=λu=>u=sbqq) (λu x=>by have A:u=sbqq:=x;rw[A];exact o.low.2.1);exact o.Ow s.dm (λ_ q=>q) B ⟨x,E,D,k,{hL with aN:=s.ok,steps:=Steps.aw hL.steps r t.1,pow:=hL.pow.aw r t.2}⟩ o.yG o.pV ⟨o.num.1,ah _⟩ o.len o.mJ
theorem LW.read{t:I}{s:SR}{K:DK}{B:cA}{v w x A:cP}{m:M}{k:dW}{r:Zs}{u:cr oP}(n:LW i W j s.aN sbqq h g mem b e c lo O s K B v w x A C m N k r u d bF l f)(E:Inv W sbqq s K B v w x A C m N k (iN 1 r))(P:tw W t sbqq s K B v w x A C):jR i t j s.aN sbqq h g mem b e c lo O C N d bF l f:=by
 obtain⟨D,L,Q,S,F,o⟩:=E.reads (ak n.tN) P;obtain⟨p,_,_⟩:=n.vu;exact⟨s,D,B,v,w,x,A,m,k,r,u,n.Ow L.dm (λ_ q=>q) F ⟨p,rfl,o⟩ n.yG n.pV ⟨n.num.1,ah _⟩ n.len n.mJ⟩
theorem LW.wrote{P:I}{ad:SR}{ao:DK}{bb:cA}{au av ax ba:cP}{t:M}{r:dW}{u:Zs}{X:cr oP}{v F o:M}{m:iH}{w:Z->ab->Option ab}(ac:LW i W j ad.aN sbqq h g mem b e c lo O ad ao bb au av ax ba C t N r u X d bF l f)(hP:nG W P sbqq ad 0 ao v F (iN 1 u) o w)(hl:y m<=v)(hT:v<=1000000)(Q:N<=F)(S:zC m/\∀E al,(E,al)∈m↔w o E=H al)(p:∀an,an∈so (iN 1 u)->∀q,w an q=fV an (bb::cF au av ax ba) q):jR i P j ad.aN sbqq h g mem b e c lo O v F (m,d.2) bF l f:=by
 obtain⟨s',K',L,x,A,B,D,s,n,k⟩:=hP;obtain⟨K,_,_⟩:=ac.vu;obtain⟨g1,g2,_,_,g5,g6⟩:=k.same;obtain⟨p1,p2,p3⟩:=ac.pV rfl;refine⟨s',K',L,x,A,B,D,s,n,u,X,ac.Ow k.fq.dm (λE q=>g6▸q) k.box ⟨g2.trans K,g1,k.inv⟩ ?_ (λ_=>⟨p1,g5.trans p2,λbc V=>(p3 bc V).congr<|λq=>?_⟩) ⟨aE ac.num.1 Q,Q⟩ hl hT⟩;(have T:gJ [] n.flatten::(cF x A B D).map (ke ((s+y n:M):Z))=(L::cF x A B D).map (ke o):=by rw[aY,<-k.BH,k.inv.mem,k.inv.BH]);rw[T];exact⟨S.1,λE al=>by rw[show seen ((L::cF x A B D).map<|ke o) E=w o E from k.wI o (.inr rfl) E];exact S.2 E al⟩;have T:=yo u 1 bc V;exact(k.wI _ (.inl T) q).trans<|p _ T q
theorem Xq(p:jR i W j db sbqq h g mem b e c lo O C N d a l f)(k:ab)(v:k.size<=140737488351232):cy bG 29 #[aA sbqq,ai k] W λt q=>t=aO (if a then .tuple #[ai ⟨#[]⟩,aL bF,lE 6]else .tuple #[ai (sf d.1 k).1,aL (sf d.1 k).2.1,lE (sf d.1 k).2.2])/\jR i q j db sbqq h g mem b e c lo O C N d a l f:=by
 obtain⟨L,K,F,A,B,D,E,o,n,x,w,p⟩:=p;cases a with
 |true=>
  apply(Og k p.tN p.vu.1).mono;rintro t q⟨rfl,m,r⟩;exact⟨rfl,L,K,F,A,B,D,E,o,n,x,w,p.shut m r⟩
 |false=>
  have m:=p.now;obtain⟨s,rfl,r⟩:=p.vu;apply(Uu k p.tN r.st s v).mono;rintro t q⟨rfl,u⟩;refine⟨?_,p.read r u⟩;rw[LO r.all m];rfl
def LK(a:Bool)(k:WD)(n:Z)(m:ab):ab×Bool×Z:=if a then(⟨#[]⟩,bF,6)else match Vg k n with
 |some l=>sf l m
 |none=>(⟨#[]⟩,bF,5)
theorem XW(o:jR i W j db sbqq h g mem b e c lo O C N d a l f)(u:Z)(k:ab)(D:k.size<=140737488351232):cy bG 35 #[aA sbqq,ap u,ai k] W λx q=>x=aO (dB #[ai (LK a d.2 u k).1,aL (LK a d.2 u k).2.1,lE (LK a d.2 u k).2.2])/\jR i q j db sbqq h g mem b e c lo O C N d a l f:=by
 obtain⟨ac,L,V,P,Q,S,T,n,m,w,K,o⟩:=o;cases a with
 |true=>
  apply(Jf u k o.tN o.vu.1).mono;rintro x q⟨rfl,p,r⟩;exact⟨rfl,ac,L,V,P,Q,S,T,n,m,w,K,o.shut p r⟩
 |false=>
  obtain⟨E,X,F⟩:=o.pV rfl;obtain⟨t,rfl,p⟩:=o.vu;apply(Oh (iN 1 w) u k o.tN p.st p.pV t D).mono;rintro x q⟨rfl,A⟩;refine⟨?_,o.read p A⟩;unfold LK;rw[<-E];rcases AX w u with⟨ad,v,_,B,r,s⟩|⟨r,s⟩
  .simp only[r,s];rw[LO p.all<|F v<|gp B];rfl
  .simp only[r,s];rfl
def DG(a:Bool)(n:WD)(o:Z)(lo m:ab)(k:Z):iH×Z:=if a then([],6)else match Vg n o with
 |some l=>(mO l lo m k,0)
 |none=>([],5)
theorem XK(q:jR i W j db sbqq h g mem b e c lo O C N d a l f)(D:Z)(m o:ab)(k:Z):cy bG 37 #[aA sbqq,ap D,ai m,ai o,ap k] W λF p=>∃v,F=aO (dB #[v,lE (DG a d.2 D m o k).2])/\yX W p v (DG a d.2 D m o k).1/\jR i p j db sbqq h g mem b e c lo O C N d a l f:=by
 obtain⟨al,S,ad,T,V,X,ac,t,s,w,Q,q⟩:=q;cases a with
 |true=>
  apply(FD D m o k q.tN q.vu.1).mono;rintro F p⟨rfl,n,r⟩;exact⟨_,rfl,bK _ _ _ _,al,S,ad,T,V,X,ac,t,s,w,Q,q.shut n r⟩
 |false=>
  obtain⟨L,p2,P⟩:=q.pV rfl;obtain⟨r,rfl,n⟩:=q.vu;unfold DG;rw[<-L];rcases AX w D with⟨an,u,_,K,x,A⟩|⟨x,A⟩
  .apply(Kn (iN 1 w) D u.1 m o k n.pV x q.tN n.st r).mono;rintro F p⟨v,rfl,E,B⟩;rw[sq n.all<|P u<|gp K]at E;simp only[A];exact⟨v,rfl,E,q.read n B⟩
  .apply(Ko (iN 1 w) D m o k q.tN n.st n.pV r x).mono;rintro F p⟨rfl,B⟩;simp only[A];exact⟨_,rfl,bK _ _ _ _,q.read n B⟩
theorem Ex(r:jR i W j db sbqq h g mem b e c lo O C N d a l f)(m n:ab)(k:Z):cy bG 34 #[aA sbqq,ai m,ai n,ap k] W λE s=>∃p,E=aO p/\yX W s p (if a=bW\/k<=0 then []else mO d.1 m n k)/\jR i s j db sbqq h g mem b e c lo O C N d a l f:=by
 by_cases A:k<=0;apply(FK W sbqq m n k A).mono;rintro E s⟨rfl,D⟩;exact⟨_,rfl,by rw[dw<|.inr A];exact bK _ _ _ _,r.still D⟩
 .obtain⟨X,ac,V,P,Q,S,T,u,t,L,K,r⟩:=r;cases a with
  |true=>
   apply(CO m n k (by omega) r.tN r.vu.1).mono;rintro E s⟨p,rfl,w,o,D⟩;exact⟨p,rfl,by rw[dw<|.inl rfl];exact w,X,ac,V,P,Q,S,T,u,t,L,K,r.shut o D⟩
  |false=>
   have o:=r.now;obtain⟨x,rfl,v⟩:=r.vu;have B:y (sO X.bC m n 0<|V::cF P Q S T)<=1000000000:=by
    rw[sq v.all o];have:=nC d.1 m n 0;have:=r.len;have:=r.mJ;omega
   apply(FJ m n k (by omega) r.tN v.st x B).mono;rintro E s⟨p,rfl,w,F⟩;rw[Qv _ m n k (by omega),sq v.all o]at w;exact⟨p,rfl,by rw[cW (by rintro(q|q);cases q;exact A q)];exact w,r.read v F⟩
def qP(d:iH)(k:uz):iH:=if fY k=0 then SE d k else d
theorem Hx(d:iH)(k:uz)(m:y d<=C):y (qP d k)<=C+lw k:=by
 unfold qP lw;by_cases q:fY k=0;rw[dw q,dw q];have:=EV d k;omega;rw[cW q,cW q];omega
theorem wh{s:SR}{ad:DK}{F:cA}{w x A B:cP}{t:M}{r:dW}{p:fS}{d:iH}(n:Inv W sbqq s ad F w x A B C t N r p)(L:vt ((F::cF w x A B).map<|ke s.bC) d)(k:uz):(zC (qP d k)/\∀o v,(o,v)∈qP d k↔xe p F (cF w x A B) ((s.bC:Z)+1) k (yP s.bC k) o=H v)/\∀S,S∈so p->∀q,xe p F (cF w x A B) ((s.bC:Z)+1) k S q=fV S (F::cF w x A B) q:=by
 unfold qP xe yP;by_cases q:fY k=0;rw[dw q,dw q,dw q];obtain⟨_,X,hv⟩:=Cy q;have V:=n.bn;have ac:=n.mJ;(have P:∀T∈k.map (lV<|(s.bC:Z)+1),T.Good:=λT D=>by obtain⟨m,E,rfl⟩:=aZ.1 D;exact ER (X m E) (hv m E) (by omega)<|by omega);(have K:∀T∈k.map (lV<|(s.bC:Z)+1),T.bI=(s.bC:Z)+1:=λT D=>by obtain⟨m,E,rfl⟩:=aZ.1 D;rfl);refine⟨?_,λS Q o=>by rw[dw q];exact n.TJ P K Q o⟩;have u:=Wm ((s.bC:Z)+1) k (mG n.row _) L;rcases k with _|⟨c0,k⟩;refine⟨u.1,λo v=>?_⟩;rw[u.2 o v];show _↔fV s.bC (gh p F []::cF w x A B) o=H v;rw[<-n.yl (.inr rfl) o];rfl;refine⟨u.1,λo v=>?_⟩;rw[u.2 o v];show _↔fV ((s.bC+1:M):Z) (gh p F _::cF w x A B) o=H v;rw[show((s.bC+1:M):Z)=(s.bC:Z)+1 by omega,n.TL P K o];rw[cW q,cW q,cW q];exact⟨L,λS Q o=>by rw[cW q]⟩
theorem Ew(q:jR i W j db sbqq h g mem b e c lo O C N d a l f)(r:aa)(m:uz)(k:Bool)(x:xV W r m)(v:∀L,bV r=H L->L<z (G W)/\L≠sbqq)(K:∀Q∈m,Q.key.size<=140737488351232/\Q.val.size<=140737488351232)(F:y m<=1000000000)(t:C+lw m<=1000000)(A:N+1<=100000000):cy bG 12 #[aA sbqq,r,aL k] W λD s=>D=aO (lE<|if a then 6 else fY m)/\jR i s j db sbqq h g mem b e c lo O (C+lw m) (N+1) (if a then d.1 else qP d.1 m,d.2) a l f:=by
 obtain⟨al,S,ad,T,V,X,ac,p,o,B,P,q⟩:=q;cases a with
 |true=>
  apply(zK r k q.tN q.vu.1).mono;rintro D s⟨rfl,n,u⟩;exact⟨rfl,jR.mono ⟨al,S,ad,T,V,X,ac,p,o,B,P,q.shut n u⟩ (by omega) t (by omega) A⟩
 |false=>
  have n:=q.now;obtain⟨w,rfl,u⟩:=q.vu;apply(Dg (iN 1 B) k q.tN u w x v K F t A).mono;rintro D s⟨rfl,E⟩;exact⟨rfl,q.wrote E (Hx d.1 m q.len) t (by omega) (wh u n m).1 (wh u n m).2⟩
theorem TU(q:jR i W j db sbqq h g mem b e c lo O C N d a l f)(m r n o:ab)(p:Bool)(S:n.size<=140737488351232/\o.size<=140737488351232)(A:C+lw [⟨n,o,p⟩]<=1000000)(K:N+1<=100000000):cy bG 63 #[aA sbqq,ai m,ai r,eC #[ai n,ai o,aL p]] W λP w=>∃s,P=aO (dB #[s,ap<|if a then 6 else fY [⟨n,o,p⟩]])/\yX W w s (if a then []else mO d.1 m r 0)/\jR i w j db sbqq h g mem b e c lo O (C+lw [⟨n,o,p⟩]) (N+1) (if a then d.1 else qP d.1 [⟨n,o,p⟩],d.2) a l f:=by
 obtain⟨an,ao,al,V,X,ac,ad,v,u,L,T,q⟩:=q;have F:=q.CQ;have E:=q.YK;cases a with
 |true=>
  apply(FI m r n o p q.tN q.vu.1 F E.1).mono;rintro P w⟨s,rfl,x,k,t⟩;exact⟨s,rfl,x,jR.mono ⟨an,ao,al,V,X,ac,ad,v,u,L,T,q.shut k t⟩ (by omega) A (by omega) K⟩
 |false=>
  have k:=q.now;obtain⟨B,rfl,t⟩:=q.vu;have D:y (sO an.bC m r 0<|al::cF V X ac ad)<=1000000000:=by
   rw[sq t.all k];have:=nC d.1 m r 0;have:=q.len;have:=q.mJ;omega
  apply(KO (iN 1 L) m r n o p q.tN t B F E S A K D).mono;rintro P w⟨s,rfl,x,Q⟩;rw[sq t.all k]at x;exact⟨s,rfl,x,q.wrote Q (Hx d.1 _ q.len) A (by omega) (wh t k _).1 (wh t k _).2⟩
theorem Lh(t:jR i W j db sbqq h g mem b e c lo O C N d a l f):cy bG 22 #[aA sbqq] W λv u=>v=aO (lE<|if a then 6 else 0)/\jR i u j db sbqq h g mem b e c lo O C N d bW l f:=by
 obtain⟨F,P,ad,T,V,w,X,n,m,L,K,t⟩:=t;cases a with
 |true=>
  apply(UW t.tN t.vu.1).mono;rintro v u⟨rfl,A,k⟩;exact⟨rfl,F,P,ad,T,V,w,X,n,m,L,K,t.shut A k⟩
 |false=>
  have r:=t;obtain⟨B,rfl,k⟩:=t.vu;have D:=t.lu (S:=λP=>P=sbqq) (λP v=>by have e':P=sbqq:=v;rw[e'];exact t.low.2.1);have s:∀{n:aa}{Q k:M}{m:iU},Row W k n Q m->∃ac Q w,n=J ac Q w:=λq=>by
   obtain⟨ac,w,v⟩:=oY q;exact⟨ac,_,w,v⟩
  refine(Sp t.tN B (s k.st.mem) (s k.st.l0.row) (s k.st.l1.row) (s k.st.l2.row) (s k.st.l3.row) k.st.aN k.st.rV k.st.lu.pow (λv=>D.2 v.symm) (by have:=k.qX.lt;have:=k.nx;have:=k.mJ;omega) (λq=>⟨_,k.qX.log<|k.loose q,by have:=k.QA.1;omega⟩) (by have:=k.eM;have:=k.mJ;omega)).mono ?_;rintro v u⟨rfl,E,p,hf,hm,A⟩;have o:=k.laid;have x:wN u F.aN E T V w X C n N F.next F.log F.gB m:=o.again p.ok (λQ=>by rw[hf]) hm (Steps.aw o.steps p.aw<|λq=>q.elim o.fC D.1) (o.pow.aw p.aw<|λq=>q.elim o.me D.2) (λq=>(p.bj _ q).elim o.fC (λk=>by have:=o.steps.lt;omega))<|λq=>(p.bj _ q).elim o.me (λk=>by have:=o.pow.lt;omega);exact⟨rfl,_,E,ad,T,V,w,X,n,m,L,K,r.Ow p.dm (λP q=>by cases q) A ⟨rfl,_,_,_,x⟩ r.yG (λq=>by cases q) ⟨r.num.1,ah _⟩ r.len r.mJ⟩
def tP(a:Bool)(k:LC):Z×Z×WD:=if a then(0,6,k.2)else if 4<=y (k.2.filter Option.isSome)then(0,2,k.2)else((y k.2:Z)+1,0,k.2++[H k.1])
theorem WQ(m:jR i W j db sbqq h g mem b e c lo O C N d a l f)(D:N+1<=100000000):cy bG 17 #[aA sbqq] W λx A=>x=aO (dB #[ap (tP a d).1,lE (tP a d).2.1])/\jR i A j db sbqq h g mem b e c lo O C (N+1) (d.1,(tP a d).2.2) a l f:=by
 obtain⟨s,ad,av,al,an,ao,au,o,n,k,T,m⟩:=m;have B:=m.mJ;cases a with
 |true=>
  apply(CK m.tN m.vu.1).mono;rintro x A⟨rfl,E,K⟩;exact⟨rfl,jR.mono ⟨s,ad,av,al,an,ao,au,o,n,k,T,m.shut E K⟩ (ah _) B (by omega) D⟩
 |false=>
  have v:=m.now;obtain⟨L,P,p3⟩:=m.pV rfl;have F:=Bn k 1;rw[L]at F;have w:=Qu k;rw[L]at w;obtain⟨r,rfl,t⟩:=m.vu;by_cases Q:4<=y (d.2.filter Option.isSome)
  .have x:tP bF d=(0,2,d.2):=by unfold tP;rw[cW (by simp),dw Q]
   rw[x];apply(FA (iN 1 k) m.tN t.st t.pV r<|by omega).mono;rintro x A⟨rfl,p⟩;exact⟨rfl,(m.read t p).mono (ah _) B (by omega) D⟩
  .have x:tP bF d=((y d.2:Z)+1,0,d.2++[H d.1]):=by unfold tP;rw[cW (by simp),cW Q]
   rw[x];obtain⟨S,u,ac,X⟩:=t.pV.ex;refine(Fz (iN 1 k) S m.tN t r (by omega) (λba hp=>by have:=uV k 1 ba hp;omega) (by have:=m.num.1;omega) u).mono ?_;rintro x A⟨rfl,E,p,K⟩;have V:iN 1 k++[(s.gZ+1,s.bC)]=iN 1 (k++[H (s.bC,d.1)]):=by rw[zv,P,vA]
   rw[V]at p;refine⟨by rw[P,w];rfl,⟨{s with gZ:=s.gZ+1},ad,av,al,an,ao,au,o,n,k++[H (s.bC,d.1)],T,m.Ow (s':={s with gZ:=s.gZ+1}) (N':=N+1) (zs':=k++[H (s.bC,d.1)]) (lc':=(d.1,d.2++[H d.1])) ⟨p.st.aN,K.mono<|λax q=>.inl<|q.imp id (λ(x:ax=S)=>by rw[x];exact u),λ_ q=>.inl q⟩ (λ_ q=>q) E ⟨r,rfl,p.mono (ah _) B (by omega) D⟩ m.yG (λ_=>⟨by rw[Ng,L],by show s.gZ+1=_;rw[P];simp,λbb hx=>?_⟩) ⟨by have:=m.num.1;simp;omega,by omega⟩ m.len B⟩⟩;rcases am.1 hx with q|q
   .exact p3 bb q
   .have q':=bH.1 q;cases q';exact v
def QG(a:Bool)(k:WD)(n:Z):Z×WD:=if a then(6,k)else match Vg k n with
 |some _=>(0,k.set (n-1).toNat none)
 |none=>(5,k)
theorem Xp(p:jR i W j db sbqq h g mem b e c lo O C N d a l f)(A:Z):cy bG 19 #[aA sbqq,ap A] W λS B=>S=aO (lE (QG a d.2 A).1)/\jR i B j db sbqq h g mem b e c lo O C N (d.1,(QG a d.2 A).2) a l f:=by
 obtain⟨s,al,Q,an,ao,au,av,o,n,k,ss,p⟩:=p;have hT:=p.mJ;cases a with
 |true=>
  apply(DQ A p.tN p.vu.1).mono;rintro S B⟨rfl,F,L⟩;exact⟨rfl,s,al,Q,an,ao,au,av,o,n,k,ss,p.shut F L⟩
 |false=>
  have D:=p.now;obtain⟨P,p2,p3⟩:=p.pV rfl;obtain⟨t,rfl,v⟩:=p.vu;unfold QG;rcases AX k A with⟨T,x,hn,hy,E,u⟩|⟨E,u⟩
  .rw[P]at u;simp only[u];obtain⟨V,w,ad,ac⟩:=v.pV.ex;apply(Iv (iN 1 k) A V x.1 p.tN v t E w).mono;rintro S B⟨rfl,X,F,r,m,L⟩;have hj:(A-1).toNat=T:=by omega
   have e3:lU (iN 1 k) A=iN 1 (k.set T none):=by
    rw[<-Bp k 1 T x hy,hn];congr 1;omega
   rw[e3]at r m;have K:∀Q,H Q∈k.set T none->H Q∈k:=λQ D=>(jF D).elim id (λq=>by cases q);refine⟨rfl,{s with memory:=X},al,_,an,ao,au,av,o,n,k.set T none,ss,p.Ow (s':={s with memory:=X}) (lc':=(d.1,d.2.set (A-1).toNat none)) ⟨r.st.aN,L.mono<|λu q=>.inl<|q.imp id (λ(S:u=V)=>by rw[S];exact w),λ_ q=>.inl q⟩ (λ_ q=>q) F ⟨t,rfl,r⟩ p.yG (λ_=>⟨by rw[Qt,P,hj],by rw[eK];exact p2,λQ D=>(p3 Q<|K Q D).congr<|λq=>m _ (.inl<|yo _ 1 Q D) q⟩) ⟨by rw[eK];exact p.num.1,ah _⟩ p.len hT⟩
  .rw[P]at u;simp only[u];apply(Iw (iN 1 k) A p.tN v.st v.pV t E).mono;rintro S B⟨rfl,m⟩;exact⟨rfl,p.read v m⟩
end
section
variable{i W:I}{j db sbqq f:M}{d:PB}{mem c:Z}{g e:aa}{lo:iH}{O:cr (M×Obj)}{C N:M}{l h:LC}{b a:Bool}
theorem jR.XR(m:jR i W j db sbqq f d mem c g e lo O C N h a l b)(n:Z)(k:ab)(v:k.size<=140737488351232):cy bG 36 #[aA f,ap n,ai k] W λx w=>x=aO (dB #[ai (LK b l.2 n k).1,aL (LK b l.2 n k).2.1,ap (LK b l.2 n k).2.2])/\w=W:=by
 obtain⟨T,K,S,E,F,L,P,s,q,D,r,m⟩:=m;refine(IA d.1 r n k m.ref.ref m.ref.Fy (λA u=>by have:=m.ref.len A u;omega) v).mono ?_;rintro x B⟨rfl,t⟩;refine⟨?_,t⟩;unfold LK xI;rw[<-m.ref.abs];cases b with
 |true=>rfl
 |false=>rcases Dc r n with⟨Q,A,_,_,o,p⟩|⟨o,p⟩<;>(simp only[o,p];rfl)
theorem jR.XJ(r:jR i W j db sbqq f d mem c g e lo O C N h a l b)(u:Z)(m p:ab)(k:Z):cy bG 38 #[aA f,ap u,ai m,ai p,ap k] W λE x=>∃q,E=aO (dB #[q,ap (DG b l.2 u m p k).2])/\pC x (z<|G W) q (DG b l.2 u m p k).1/\Below (z<|G W) W x:=by
 obtain⟨ac,P,X,Q,S,T,V,w,v,L,t,r⟩:=r;refine(FH d.1 t u m p k r.ref.ref r.ref.Fy (λD B=>by have:=r.ref.len D B;omega)).mono ?_;rintro E F⟨q,rfl,s,A⟩;refine⟨q,?_,?_,A⟩
 .unfold DG;rw[<-r.ref.abs];cases b with
  |true=>rfl
  |false=>rcases Dc t u with⟨K,D,_,_,n,o⟩|⟨n,o⟩<;>(simp only[n,o];rfl)
 .unfold DG;rw[<-r.ref.abs];cases b with
  |true=>exact s
  |false=>rcases Dc t u with⟨K,D,_,_,n,o⟩|⟨n,o⟩<;>(simp only[n,o]at s|-;exact s)
theorem jR.Ym(m:jR i W j db sbqq f d mem c g e lo O C N h a l b)(h1:y l.1<=1000000)(hN:y l.2+1<=N)(av:N<=100000000):cy bG 18 #[aA f] W λu w'=>u=aO (dB #[ap (tP b l).1,ap (tP b l).2.1])/\∃X,jR i w' j db sbqq f X mem c g e lo O C N h a (l.1,(tP b l).2.2) b:=by
 obtain⟨bb,ad,ba,al,an,ao,au,t,s,zs,A,m⟩:=m;cases b with
 |true=>
  apply(DR d.1 m.ref.ref).mono;rintro u K⟨rfl,rfl⟩;exact⟨rfl,d,bb,ad,ba,al,an,ao,au,t,s,zs,A,m⟩
 |false=>
  have P:=GQ A;rw[m.ref.abs]at P;have S:y A=y l.2:=by rw[<-m.ref.abs];simp
  by_cases h4:4<=y (l.2.filter Option.isSome)
  .have u:tP bF l=(0,2,l.2):=by unfold tP;rw[cW (by simp),dw h4]
   rw[u];apply(Iz d.1 A m.ref.ref m.ref.Fy<|by omega).mono;rintro u K⟨rfl,rfl⟩;exact⟨rfl,d,bb,ad,ba,al,an,ao,au,t,s,zs,A,m⟩
  .have u:tP bF l=((y l.2:Z)+1,0,l.2++[H l.1]):=by unfold tP;rw[cW (by simp),cW h4]
   rw[u];have Q:bV d.2≠H f:=λq=>(m.ref.sep f q).1 rfl;apply(Iy d.1 A m.ref.ref m.ref.Fy (by omega) m.ref.own m.aw.size Q m.ref.kind).mono;rintro u K⟨rfl,ac,E,T,hp,hh,ho,F,k,L⟩;have ax:=m.GA.lt;have o:∀n,bV ac=H n->n<z (G W)/\n≠f/\bV d.2≠H n:=λn w=>by
    rw[T]at w;exact⟨m.ref.ref.lt n w,(m.yD n<|.inl w).2.2,λq=>(m.ref.sep n q).2.1 w⟩
   have x:∀p,bV E=H p->bV d.2=H p\/z (G W)<=p:=λp q=>by
    rcases L with u|⟨n,u,w⟩
    .exact .inl<|u▸q
    .rw[u]at q;cases q;exact .inr w
   have D:jQ K ac l.1:=F.row hp<|λp k=>⟨λq=>q.elim (o p k).2.1 (o p k).2.2,(o p k).1⟩;have V:=F.size;refine⟨by rw[S],(d.1,E),bb,ad,ba,al,an,ao,au,t,s,zs,A++[(⟨bW,ac,l.1⟩:oP)],m.refs F ⟨⟨⟨ac,hh,D,T⟩,m.ref.ref.ne,λn w=>ag (m.ref.ref.lt n w) V⟩,⟨dH ho,?_,?_,by rw[af];simp;omega⟩,ho,k,by rw[aM,m.ref.abs];rfl,?_,?_⟩ ?_ x (by simp;omega)⟩
   .intro B r v;rcases am.1 r with q|q
    .have n:=m.ref.Fy.each B q v;exact⟨F.row n.1<|λp k=>⟨λo=>o.elim (m.yD p<|.inr<|.inr ⟨B,q,v,k⟩).2.2<|λo=>(m.ref.sep p o).2.2 B q v k,n.2 p k⟩,λp k=>ag (n.2 p k) V⟩
    .rw[bH.1 q];exact⟨D,λp k=>ag (o p k).1 V⟩
   .intro B r;rcases am.1 r with q|q
    .exact m.ref.Fy.shape B q
    .rw[bH.1 q];obtain⟨x0,c0,e0⟩:=bM hp;exact⟨_,_,_,e0⟩
   .intro B r;rcases am.1 r with q|q
    .exact m.ref.len B q
    .rw[bH.1 q];exact h1
   .intro p k;rcases x p k with q|q
    .refine⟨(m.ref.sep p q).1,(m.ref.sep p q).2.1,λB r v u=>?_⟩;rcases am.1 r with n|n
     .exact(m.ref.sep p q).2.2 B n v u
     .rw[bH.1 n]at u;exact(o p u).2.2 q
    .refine⟨by omega,λu=>by have:=m.ref.ref.lt p u;omega,λB r v u=>?_⟩;rcases am.1 r with n|n
     .have:=(m.ref.Fy.each B n v).2 p u;omega
     .rw[bH.1 n]at u;have:=(o p u).1;omega
   .intro p k;rcases k with q|q|⟨B,r,v,q⟩
    .exact .inl<|.inl q
    .exact(x p q).imp (λq=>.inr<|.inl q) id
    .rcases am.1 r with n|n
     .exact .inl<|.inr<|.inr ⟨B,n,v,q⟩
     .rw[bH.1 n]at q;exact .inl<|.inl<|T▸q
theorem jR.Xd(n:jR i W j db sbqq f d mem c g e lo O C N h a l b)(K:Z):cy bG 20 #[aA f,ap K] W λS w'=>S=aO (ap (QG b l.2 K).1)/\jR i w' j db sbqq f d mem c g e lo O C N h a (l.1,(QG b l.2 K).2) b:=by
 obtain⟨an,T,al,V,X,ac,ad,s,r,F,u,n⟩:=n;cases b with
 |true=>
  apply(yN d.1 u K n.ref.ref n.ref.Fy<|.inl rfl).mono;rintro S A⟨rfl,rfl⟩;exact⟨rfl,an,T,al,V,X,ac,ad,s,r,F,u,n⟩
 |false=>
  unfold QG;rcases Dc u K with⟨Q,ao,hn,hj,B,v⟩|⟨B,v⟩
  .rw[n.ref.abs]at v;simp only[v];subst hn;have E:((Q:Z)+1-1).toNat=Q:=by omega
   apply(DS d.1 u Q ao n.ref.ref n.ref.Fy B hj n.ref.own n.ref.kind).mono;rintro S A⟨rfl,P,hg,hk⟩;have x:Y (λw=>bV d.2=H w) W A:=Y.dN hg<|λ_ q=>.inl q;have t:∀k∈u.set Q AE,k.live=bW->k∈u:=λk p o=>(jF p).elim id (λq=>by rw[q]at o;cases o);refine⟨rfl,an,T,al,V,X,ac,ad,s,r,F,u.set Q AE,n.refs (x.mono<|λ_ q=>.inl<|.inr q) ⟨n.ref.ref.aw x (λq=>(n.ref.sep f q).1 rfl)<|λL D q=>(n.ref.sep L q).2.1 D,⟨dH P,λk p o=>?_,λk p=>?_,by rw[eK];exact n.ref.Fy.small⟩,P,hk,by rw[WA,n.ref.abs,E];rfl,λk p=>?_,λw m=>⟨(n.ref.sep w m).1,(n.ref.sep w m).2.1,λk p o=>(n.ref.sep w m).2.2 k (t k p o) o⟩⟩ (λw q=>.inl ?_) (λ_ q=>.inl q) (by show y (List.set _ _ _)<=N;rw[eK];exact n.num.2)⟩
   .have L:=n.ref.Fy.each k (t k p o) o;exact⟨x.row L.1<|λw m=>⟨λq=>(n.ref.sep w q).2.2 k (t k p o) o m,L.2 w m⟩,λw m=>ag (L.2 w m) x.size⟩
   .rcases jF p with q|q
    .exact n.ref.Fy.shape k q
    .rw[q];exact⟨none,0,0,rfl⟩
   .rcases jF p with q|q
    .exact n.ref.len k q
    .rw[q];exact bA _
   .rcases q with q|q|⟨k,p,o,q⟩
    .exact .inl q
    .exact .inr<|.inl q
    .exact .inr<|.inr ⟨k,t k p o,o,q⟩
  .rw[n.ref.abs]at v;simp only[v];apply(yN d.1 u K n.ref.ref n.ref.Fy<|.inr B).mono;rintro S A⟨rfl,rfl⟩;exact⟨rfl,an,T,al,V,X,ac,ad,s,r,F,u,n⟩
end
def gR(i A B:Z)(S T:ab)(L:aa):Obj:=ar #[ap i,ap A,ap B,ai S,ai T,L] 31 (0,0)
def AN(i A B:Z)(S T:ab)(L:aa):aa:=eC #[ap i,ap A,ap B,ai S,ai T,L]
section
variable{h W:I}{e db sbqq g:M}{f:PB}{mem b:Z}{d c:aa}{lo:iH}{O:cr (M×Obj)}{C N:M}{l:LC}{a:Bool}
theorem jR.jr{W:I}{k:LC}{i:Bool}(m:jR h W e db sbqq g f mem b d c lo O C N k a l i):aT W (R e 0)=H (aA db)/\aT W (R e 1)=H (aA sbqq)/\aT W (R e 2)=H (aA g)/\aT W (R e 5)=H d/\aT W (R e 6)=H c:=by
 have j:=m.box;refine⟨?_,?_,?_,?_,?_⟩<;>(rw[bN j];rfl)
theorem jR.fG{W:I}{n:LC}{k:Bool}{i:M}{j A B:Z}{S T:ab}{L:aa}(o:jR h W e db sbqq g f mem b d c lo ((i,gR j A B S T L)::O) C N n a l k):aT W (R i 0)=H (ap j)/\aT W (R i 1)=H (ap A)/\aT W (R i 2)=H (ap B)/\aT W (R i 3)=H (ai S)/\aT W (R i 4)=H (ai T)/\aT W (R i 5)=H L:=by
 have m:W.heap[i]?=H (gR j A B S T L):=o.obj (p:=(i,gR j A B S T L))<|dy ..;unfold gR at m;refine⟨?_,?_,?_,?_,?_,?_⟩<;>(rw[bN m];rfl)
def Od(a:Bool)(l:iH)(k:ab):ab×Bool×Z:=if a then(⟨#[]⟩,bF,6)else sf l k
theorem VU{j:LC}{k:Bool}(q:jR h W e db sbqq g f mem b d c lo O C N j a l k)(i:ab)(o:i.size<=140737488351232):cy bG 29 #[aA sbqq,ai i] W λp m=>p=aO (dB #[ai (Od a j.1 i).1,aL (Od a j.1 i).2.1,lE (Od a j.1 i).2.2])/\jR h m e db sbqq g f mem b d c lo O C N j a l k:=by
 apply(Xq q i o).mono;rintro p m⟨rfl,n⟩;refine⟨?_,n⟩;cases a<;>rfl
theorem Tt{W:I}{g:M}{f:PB}(q:mj W g f.1 l.1 a f.2)(i:ab)(k:y l.1<=1000000000000)(m:i.size<=140737488351232):cy bG 30 #[aA g,ai i] W λo n=>o=aO (dB #[ai (Od a l.1 i).1,aL (Od a l.1 i).2.1,ap (Od a l.1 i).2.2])/\n=W:=by
 apply(Nr f.1 i q k m).mono;rintro o p⟨rfl,j⟩;refine⟨?_,j⟩;cases a<;>rfl
theorem jR.lens{W:I}{k:LC}{i:Bool}(j:jR h W e db sbqq g f mem b d c lo O C N k a l i):y k.1<=C/\C<=1000000/\y l.2<=N:=by
 obtain⟨v,K,u,q,r,s,t,n,m,p,o,j⟩:=j;exact⟨j.len,j.mJ,j.num.2⟩
theorem Tv(ad:jR h W e db sbqq g f mem b d c lo O C N l a l a)(al an:Z)(S ao:ab)(bc:Option Addr)(bb au:M)(hz:S.size<=140737488351232):cy bG 11 #[aA e,AN 2 al an S ao<|J bc bb au] W λX w'=>X=aO (aL bW)/\jR h w' e db sbqq g f mem b d c lo O C N l a l a:=by
 obtain⟨F,B⟩:∃F,z (G W)=F:=⟨_,rfl⟩;have h1:jR h (ct W<|gR 2 al an S ao<|J bc bb au) e db sbqq g f mem b d c lo ((F,gR 2 al an S ao<|J bc bb au)::O) C N l a l a:=ad.add ((Y.refl _ W).alloc _) (by omega)<|aD _ B.symm;have t:=h1.still<|cf aB _;have k:=VU t S hz;have w:=And.intro t.jr.2.1 t.fG.2.2.2.1;have av:=ak ad.box;have ac:=ad.lens;have s:=λj(q:mj j g f.1 l.1 a f.2)=>Tt q S (by omega) hz;obtain⟨gv,gb,K,r⟩:∃gv gb K,Od a l.1 S=(gv,gb,K):=⟨_,_,_,rfl⟩;rw[r]at k;simp only[r]at s;simp only at k s;have V:=U t;unfold AN;unfold gR at k w V;clear ad h1 t r;go_in
 go_wp2_with fail
 try rw[B]
 rename_i QQ P o;refine cJ (λj=>aT j (R e 1)=H (aA sbqq)/\aT j (R F 3)=H (ai S)) 13 (by kernel_rfl) ?_;refine dA 0 ?_;iterate 6 (refine fw (v:=?_) w rfl (by kernel_rfl) jU rfl ?_ ?_;rotate_left;(focus(rintro j⟨Q,T⟩;go_simp;try rfl));simp only[Act.put,du,iy,Nat.reduceAdd])
 apply eX;refine aP (i:=6) rfl rfl (by kernel_rfl) ?_;intro KC n;go_simp;apply k.mono;rintro X W2⟨rfl,t⟩;have h3:=t.still<|cf aB W2;have x:=And.intro t.jr.2.1 t.fG.2.2.2.1;have m:=U h3;refine n _ _ (λ_=>x) ?_;try simp only[Act.put,du,iy]
 refine dA 7 ?_;iterate 6 (refine fw (v:=?_) x rfl (by kernel_rfl) jU rfl ?_ ?_;rotate_left;(focus(rintro j⟨Q,T⟩;go_simp;try rfl));simp only[Act.put,du,iy,Nat.reduceAdd])
 apply eX;refine aP (i:=13) rfl rfl (by kernel_rfl) ?_;intro KL p;go_simp;refine p _ _ yR ?_;refine dp (by kernel_rfl) ?_ _;show P _ _;apply o;have D:=s _ m.ref;have u:=And.intro m.jr.2.2.1 m.fG.2.2.2.1;clear w x k t h3 n p o V;go_wp2_with fail
 rename_i QQ P o;refine cJ (λj=>aT j (R e 2)=H (aA g)/\aT j (R F 3)=H (ai S)) 13 (by kernel_rfl) ?_;refine dA 0 ?_;iterate 6 (refine fw (v:=?_) u rfl (by kernel_rfl) jU rfl ?_ ?_;rotate_left;(focus(rintro j⟨Q,T⟩;go_simp;try rfl));simp only[Act.put,du,iy,Nat.reduceAdd])
 apply eX;refine aP (i:=6) rfl rfl (by kernel_rfl) ?_;intro KC n;go_simp;apply D.mono;rintro X W3⟨rfl,ax⟩;subst W3;refine n _ _ (λ_=>u) ?_;try simp only[Act.put,du,iy]
 refine dA 7 ?_;iterate 6 (refine fw (v:=?_) u rfl (by kernel_rfl) jU rfl ?_ ?_;rotate_left;(focus(rintro j⟨Q,T⟩;go_simp;try rfl));simp only[Act.put,du,iy,Nat.reduceAdd])
 apply eX;refine aP (i:=13) rfl rfl (by kernel_rfl) ?_;intro KL p;go_simp;refine p _ _ yR ?_;refine dp (by kernel_rfl) ?_ _;show P _ _;apply o;have E:=nJ K m.CQ;clear D u n p o;go_wp2_with fail
 apply E.mono;rintro X W4⟨rfl,A⟩;have L:=U<|m.still<|Y.aW A;clear A E m;go_wp2_with fail
 apply(qV K _).mono;rintro X W5⟨rfl,ba⟩;subst W5;go_wp2;go_ret;exact⟨rfl,L.drop<|λp j=>aJ _ j⟩
end
structure OW(n W:I)(g db m:M)(r:PB)(v:Option Addr)(mem wH:Z)(i f:aa)(lo:iH)(O:cr (M×Obj))(K:DK)(a b c d:cP)(C tb N nx x:M)(gB:Bool)(ls:dW)(w:cr oP)(l:LC)(o:Bool):Prop where
 box:W.heap[g]?=H (ar #[aA db,fp v,aA m,ap mem,ap wH,i,f] 40 (0,0))
 ref:BM (z<|G n) W m r l o w
 laid:wN W db K a b c d C tb N nx x gB ls
 yG:vt (gJ [] ls.flatten::(cF a b c d).map (ke ((tb+y ls:M):Z))) l.1
 len:y l.1<=C
 Bi:jQ W i lo
 uN:jQ W f lo
 VW:y lo<=1000000
 aw:Y aB n W
 low:(∀k,K.bj db k->z (G n)<=k)/\z (G n)<=m/\z (G n)<=g
 CU:¬K.bj db g
 GA:¬K.bj db m
 yD:∀k,JH r w k->k<z (G W)/\¬K.bj db k/\k≠g/\k≠m
 nY:∀k,bV i=H k->k<z (G W)/\¬K.bj db k/\k≠g/\k≠m/\bV r.2≠H k
 kM:∀k,bV f=H k->k<z (G W)/\¬K.bj db k/\k≠g/\k≠m/\bV r.2≠H k
 obj:∀p∈O,W.heap[p.1]?=H p.2/\¬K.bj db p.1/\p.1≠g/\p.1≠m/\¬JH r w p.1
 Yx:∀q,v=H (R q 0)->¬K.bj db q/\∃cs t fr,W.heap[q]?=H (ar cs t fr)/\t≠293
 ne:g≠m
 g0:Steps n/\Pow n/\pD n
section
variable{n W W':I}{g db m:M}{r:PB}{v:Option Addr}{mem j s u:Z}{i f:aa}{lo:iH}{O:cr (M×Obj)}{K:DK}{a b c d:cP}{C tbqq N nx x:M}{e:Bool}{lsqq:dW}{w:cr oP}{l:LC}{o:Bool}
theorem OW.still(h:OW n W g db m r v mem j i f lo O K a b c d C tbqq N nx x e lsqq w l o)(p:Y aB W W'):OW n W' g db m r v mem j i f lo O K a b c d C tbqq N nx x e lsqq w l o:={h with
 box:=(p.block g (ak h.box) id).trans h.box
 ref:=h.ref.aw p id<|λ_ _=>id
 laid:=h.laid.aw p
 Bi:=p.row h.Bi<|λt k=>⟨id,(h.nY t k).1⟩
 uN:=p.row h.uN<|λt k=>⟨id,(h.kM t k).1⟩
 aw:=h.aw.ci p
 yD:=λt k=>⟨ag (h.yD t k).1 p.size,(h.yD t k).2⟩
 nY:=λt k=>⟨ag (h.nY t k).1 p.size,(h.nY t k).2⟩
 kM:=λt k=>⟨ag (h.kM t k).1 p.size,(h.kM t k).2⟩
 obj:=λB A=>⟨(p.block _ (ak (h.obj B A).1) id).trans (h.obj B A).1,(h.obj B A).2⟩
 Yx:=λq L=>by
  obtain⟨E,B,P,D,A,F⟩:=h.Yx q L;exact⟨E,B,P,D,(p.block q (ak A) id).trans A,F⟩}
theorem OW.CQ(h:OW n W g db m r v mem j i f lo O K a b c d C tbqq N nx x e lsqq w l o):pD W:=h.g0.2.2.aw h.aw id
theorem OW.opened(A:OW n W g db m r v mem j i f lo O K a b c d C tbqq N nx x e lsqq w l o){W1 L:I}{E:M}(B:Fl W W1 db (z (G W)+2) s u K C (N+1) (fV (tbqq+y lsqq:M)<|gJ [] lsqq.flatten::cF a b c d))(ht:Y (λk=>k=g) W1 L)(hb:L.heap[g]?=H (ar #[aA db,aA<|z (G W)+2,aA E,ap s,ap u,i,f] 40 (0,0)))(hr:mj L E r.1 l.1 bF aK)(bc:z (G W1)<=E)(au:E<z (G L)):jR n L g db (z (G W)+2) E (r.1,aK) s u i f lo O C (N+1) (l.1,[]) bF (l.1,[]) bF:=by
 obtain⟨al,K',bh,a',b',c',d',ad,Q,B⟩:=B;obtain⟨e1,e2,_,_,e5,e6⟩:=B.same;subst e1;have ac:=ak A.box;have hd:=B.fq;have bd:=B.size;have bf:=ht.size;have ba:=A.aw.size;have F:∀k,k<z (G W)->¬K.bj al.aN k->¬K'.bj al.aN k:=λk p hn q=>(hd.bj k q).elim hn (λP=>by omega);have t:∀k,k<z (G W)->¬K.bj al.aN k->W1.heap[k]?=W.heap[k]?:=λk p hn=>hd.aw.block k p (λq=>q.elim hn<|λD=>by omega);have hg:¬(1=g)/\¬(2=g):=by have X:=A.g0.1.lt;have h2:=A.g0.2.1.lt;have h3:=A.low.2.2;exact⟨by omega,by omega⟩
 have T:=(t g ac A.CU).trans A.box;have s1:=A.Bi.shape;have s2:=A.uN.shape;obtain⟨⟨bb,hh,_,_⟩,_,_⟩:=A.ref.ref;have av:=ak hh;have hI:Inv L (z (G W)+2) al K' bh a' b' c' d' C ad (N+1) Q []:=by refine B.inv.rJ ht (λk D=>by have X:k=g:=D;rw[X];exact⟨by omega,F g ac A.CU,by omega⟩) (λk D=>?_) hg;have X:k=g:=D;rw[X];refine⟨_,_,_,T,by decide,.inl λbl q=>?_,λq hq=>?_⟩;rcases s1 with rfl|⟨b0,o0,c0,rfl⟩<;>rcases s2 with rfl|⟨b1,o1,c1,rfl⟩<;>simp at q;(have ao:q=al.aN\/v=H (R q 0)\/q=m:=by rcases s1 with rfl|⟨b0,o0,c0,rfl⟩<;>rcases s2 with rfl|⟨b1,o1,c1,rfl⟩<;>simpa[eq_comm]using hq);rcases ao with rfl|D|rfl;exact⟨_,_,_,B.inv.st.aN.iG,by decide⟩;obtain⟨g1,cs,bi,fr,g2,g3⟩:=A.Yx q D;exact⟨cs,bi,fr,(t q (ak g2) g1).trans g2,g3⟩;exact⟨_,_,_,(t q av A.GA).trans hh,by decide⟩
 have an:bL L (z (G W)+2) al 0:=(ht.block _ (ak B.box)<|by omega).trans B.box;have S:∀{bb:aa}{t:iH},jQ W bb t->(∀k,bV bb=H k->k<z (G W)/\¬K.bj al.aN k/\k≠g)->jQ L bb t:=λhp h=>ht.row (hd.aw.row hp<|λk p=>⟨λq=>q.elim (h k p).2.1 (λD=>by have:=(h k p).1;omega),(h k p).1⟩)<|λk p=>⟨(h k p).2.2,by have:=(h k p).1;omega⟩;have h:∀k,k<z (G W)->¬K.bj al.aN k->Ft L K' al.aN (z (G W)+2) al k/\k≠E:=λk q1 q2=>⟨⟨⟨by omega,F k q1 q2,by omega⟩,λD=>by rw[e6]at D;cases D;omega⟩,by omega⟩;have ax:∀k,K'.bj al.aN k->k<z (G W1):=B.inv.st.aN.lt;have V:vt (gJ [] Q.flatten::(cF a' b' c' d').map (ke ((ad+y Q:M):Z))) l.1:=by refine A.yG.congr<|λq=>?_;have D:=B.wI q;unfold fV at D;rw[aY,aY,B.inv.mem,B.inv.BH,(Ea A.laid.lp).2.2.1]at D;exact D
 refine⟨al,K',bh,a',b',c',d',ad,Q,[],[],hb,⟨hr,⟨⟨rfl,.inl ⟨rfl,rfl⟩⟩,by simp,by simp,by simp⟩,bK _ _ _ _,λk _ _ _ p=>(by cases p),rfl,by simp,λk p=>(by cases p)⟩,an,⟨e2,rfl,hI⟩,V,λ_=>⟨rfl,e5,by simp⟩,⟨by simp,by simp⟩,A.len,A.laid.mJ,S A.Bi<|λk p=>⟨(A.nY k p).1,(A.nY k p).2.1,(A.nY k p).2.2.1⟩,S A.uN<|λk p=>⟨(A.kM k p).1,(A.kM k p).2.1,(A.kM k p).2.2.1⟩,A.VW,(A.aw.trans hd.aw<|λk q=>.inr<|q.elim (A.low.1 k)<|λD=>by omega).trans ht<|λk D=>.inr (by have:=A.low.2.2;have:k=g:=D;omega),⟨λk q=>(hd.bj k q).elim (A.low.1 k) (λP=>by omega),by omega,by omega,A.low.2.2⟩,λk D=>by rw[e6]at D;cases D;exact⟨by omega,by omega⟩,B.inv.st.rV,(h g ac A.CU).1,⟨⟨au,λq=>by have:=ax _ q;omega,by omega⟩,λD=>by rw[e6]at D;cases D;omega⟩,λk p=>?_,λk p=>?_,λk p=>?_,λbg hp=>?_,by omega,A.g0⟩;rcases p with q|q|⟨bk,hx,_⟩;have P:=A.yD k<|.inl q;exact⟨(h k P.1 P.2.1).1,P.2.2.1,(h k P.1 P.2.1).2⟩;cases q;cases hx;have P:=A.nY k p;exact⟨(h k P.1 P.2.1).1,P.2.2.1,(h k P.1 P.2.1).2,λD=>by cases D⟩;have P:=A.kM k p;exact⟨(h k P.1 P.2.1).1,P.2.2.1,(h k P.1 P.2.1).2,λD=>by cases D⟩;obtain⟨q1,q2,q3,q4,q5⟩:=A.obj bg hp;have X:=ak q1;refine⟨(ht.block _ (by omega) q3).trans<|(t _ X q2).trans q1,(h bg.1 X q2).1,q3,(h bg.1 X q2).2,λq=>?_⟩;rcases q with q|q|⟨bk,hx,_⟩;exact q5<|.inl q;cases q;cases hx
end
section
variable{m W W':I}{e db sbqq j:M}{i:PB}{mem b:Z}{g c h d:aa}{lo f:iH}{O:cr (M×Obj)}{C N:M}{l n:LC}{k a:Bool}
def Vo(O o:cr (M×Obj))(v:aa):Prop:=(∀r∈O,r∈o)/\∀p,bV v=H p->∃q,(p,q)∈o
theorem jR.YC(x:jR m W e db sbqq j i mem b g c lo O C N n a l k)(s:Y aB W W'){v:aa}{B o D:M}{w:iU}(r:W'.ownsRow (z<|G W) B o v D w):∃p,Vo O p v/\jR m W' e db sbqq j i mem b g c lo p C N n a l k:=by
 rcases hk:bV v with _|A;exact⟨O,⟨λ_ q=>q,λA q=>by rw[hk]at q;cases q⟩,x.still s⟩;obtain⟨t,u⟩:=fD r hk;exact⟨_,⟨λv q=>aJ _ q,λt q=>by rw[hk]at q;cases q;exact⟨_,dy ..⟩⟩,x.add s (r.lt A hk).1 u⟩
theorem LW.XU{u:SR}{V:DK}{Q:cA}{F K L P:cP}{p:M}{o:dW}{s:Zs}{v:cr oP}(r:LW m W e u.aN sbqq j i mem b g c lo O u V Q F K L P C p N o s v n bF l k)(hI:Inv W sbqq u V Q F K L P C p N o (iN 1 s))(hs:tw W W' sbqq u V Q F K L P C){ac:aa}{al:iH}(T:yX W W' ac al):∃S,Vo O S ac/\jR m W' e u.aN sbqq j i mem b g c lo S C N n bF l k:=by
 obtain⟨w,hd,e1,X,hb,A⟩:=hI.reads (ak r.tN) hs;obtain⟨B,_,_⟩:=r.vu;have h':LW m W' e u.aN sbqq j i mem b g c lo O u w Q F K L P C p N o s v n bF l k:=r.Ow hd.dm (λ_ q=>q) hb ⟨B,rfl,A⟩ r.yG r.pV ⟨r.num.1,ah _⟩ r.len r.mJ;rcases hk:bV ac with _|t;exact⟨O,⟨λ_ q=>q,λt q=>by rw[hk]at q;cases q⟩,u,w,Q,F,K,L,P,p,o,s,v,h'⟩;obtain⟨x,hc⟩:=fD T hk;have D:=aI T t hk;have h1:=r.CU.lt;have h2:=r.GA.lt;have h3:=ak r.tN;refine⟨(t,ar x 68 (0,0))::O,⟨λad q=>aJ _ q,λan q=>by rw[hk]at q;cases q;exact⟨_,dy ..⟩⟩,u,w,Q,F,K,L,P,p,o,s,v,{h' with obj:=λad E=>?_}⟩;rcases az.1 E with rfl|E;exact⟨hc,⟨⟨D.2,λq=>by have:=r.vu.aN.lt t<|X t q;omega,by show t≠sbqq;omega⟩,λq=>by have:=(r.zu t q).2;omega⟩,by show t≠e;omega,by show t≠j;omega,λq=>by have:=r.ref.lt t q;omega⟩;exact h'.obj ad E
theorem TT(v:jR m W e db sbqq j i mem b g c lo O C N n a l k)(f p:ab)(o:Z):cy bG 31 #[aA sbqq,ai f,ai p,ap o] W λE W'=>∃D x u,E=aO (dB #[J D (y<|if a then []else mO n.1 f p o) x,lE<|if a then 6 else 0])/\yX W W' (J D (y<|if a then []else mO n.1 f p o) x) (if a then []else mO n.1 f p o)/\Vo O u (J D (y<|if a then []else mO n.1 f p o) x)/\jR m W' e db sbqq j i mem b g c lo u C N n a l k:=by
 obtain⟨al,T,ad,V,X,x,ac,t,s,S,Q,v⟩:=v;cases a with
 |true=>
  apply(Km f p o v.tN v.vu.1).mono;rintro E W'⟨rfl,r,w⟩;exact⟨none,0,O,rfl,bK _ _ _ _,⟨λ_ q=>q,λo q=>by cases q⟩,al,T,ad,V,X,x,ac,t,s,S,Q,v.shut r w⟩
 |false=>
  have r:=v.now;obtain⟨B,rfl,A⟩:=v.vu;apply(Qw f p o v.tN A.st B).mono;rintro E W'⟨v',rfl,w,L⟩;rw[sq A.all r]at w;obtain⟨u,K,F⟩:=v.XU A L w;obtain⟨D,x,P⟩:=aC w;subst P;exact⟨D,x,u,rfl,w,K,F⟩
theorem jR.outs(w:jR m W e db sbqq j i mem b g c lo O C N n a l k)(D:jQ W h f)(E:jQ W d f)(A:y f<=1000000)(s:∀o,bV h=H o->∃r,(o,r)∈O)(t:∀o,bV d=H o->∃r,(o,r)∈O):jR m (bZ (bZ W (R e 5) h) (R e 6) d) e db sbqq j i mem b h d f O C N n a l k:=by
 obtain⟨P,L,X,Q,S,T,V,v,u,K,F,w⟩:=w;have x:Y (λo=>o=e) W (bZ (bZ W (R e 5) h) (R e 6) d):=((Y.refl (λo=>o=e) W).setCell _ _ _<|.inl rfl).setCell _ _ _<|.inl rfl;have B:∀o,(∃r,(o,r)∈O)->Ft (bZ (bZ W (R e 5) h) (R e 6) d) L db sbqq P o/\o≠e/\o≠j/\bV i.2≠H o:=by rintro o⟨r,q⟩;have:=(w.obj (o,r) q).2;exact⟨this.1.grow x.size,this.2.1,this.2.2.1,λo=>this.2.2.2<|.inr<|.inl o⟩
 refine⟨P,L,X,Q,S,T,V,v,u,K,F,w.YN x ((aR<|aR w.box).trans rfl) (x.row D<|λo p=>?_) (x.row E<|λo p=>?_) A (λo p=>B o<|s o p)<|λo p=>B o<|t o p⟩;obtain⟨r,q⟩:=s o p;exact⟨(w.obj (o,r) q).2.2.1,(w.obj (o,r) q).2.1.lt⟩;obtain⟨r,q⟩:=t o p;exact⟨(w.obj (o,r) q).2.2.1,(w.obj (o,r) q).2.1.lt⟩
end
section
variable{m W:I}{e db sbqq j:M}{i:PB}{mem b:Z}{g c:aa}{lo:iH}{O:cr (M×Obj)}{C N:M}{l:LC}{a:Bool}
theorem QJ(cE:jR m W e db sbqq j i mem b g c lo O C N l a l a)(ac ca:Z)(X al:ab)(ce:Option Addr)(cc cb:M):cy bG 11 #[aA e,AN 3 ac ca X al<|J ce cc cb] W λcp w'=>cp=aO (aL bW)/\∃h d f,jR m w' e db sbqq j i mem b h d f O C N l a l a:=by
 obtain⟨r,bu⟩:∃r,z (G W)=r:=⟨_,rfl⟩;have h1:jR m (ct W<|gR 3 ac ca X al<|J ce cc cb) e db sbqq j i mem b g c lo ((r,gR 3 ac ca X al<|J ce cc cb)::O) C N l a l a:=cE.add ((Y.refl _ W).alloc _) (by omega)<|aD _ bu.symm;have P:=h1.still<|cf aB _;have t:=TT P X al ac;have ax:=And.intro P.jr.2.1 (And.intro P.fG.2.2.2.1 (And.intro P.fG.2.2.2.2.1 P.fG.2.1));have cT:=ak cE.box;have cx:=cE.lens;have br:y (if a then []else mO l.1 X al ac)<=1000000:=by have:=nC l.1 X al ac;split;simp;omega
 have F:=λW'(q:mj W' j i.1 l.1 a i.2)=>tS i.1 X al ac q (by omega);obtain⟨p,hR⟩:∃p,(if a then []else mO l.1 X al ac)=p:=⟨_,rfl⟩;obtain⟨gn,bf⟩:∃gn:Z,(if a then 6 else 0)=gn:=⟨_,rfl⟩;rw[hR,bf]at t;rw[hR]at br;simp only[hR,bf]at F;have ad:=U F;unfold AN;unfold gR at t ax;clear cE h1 P hR bf F;go_in
 go_wp2_with fail
 try rw[bu]
 rename_i QQ KK B;refine cJ (λo=>aT o (R e 1)=H (aA sbqq)/\aT o (R r 3)=H (ai X)/\aT o (R r 4)=H (ai al)/\aT o (R r 1)=H (ap ac)) 15 (by kernel_rfl) ?_;refine dA 0 ?_;iterate 10 (refine fw (v:=?_) ax rfl (by kernel_rfl) jU rfl ?_ ?_;rotate_left;(focus(rintro o⟨z0,z1,z2,z3⟩;go_simp;try rfl));simp only[Act.put,du,iy,Nat.reduceAdd])
 apply eX;refine aP (i:=10) rfl rfl (by kernel_rfl) ?_;intro KC A;go_simp;apply t.mono;rintro cp W2⟨cn,cm,O2,rfl,bs,bg,P⟩;have E:((r,gR 3 ac ca X al<|J ce cc cb):M×Obj)∈O2:=bg.1 _<|dy ..;have w:jR m W2 e db sbqq j i mem b g c lo ((r,gR 3 ac ca X al<|J ce cc cb)::O2) C N l a l a:=P.drop (λcM S=>by rcases az.1 S with rfl|S;exact E;exact S);have h3:=w.still<|cf aB W2;have ba:=And.intro w.jr.2.1 (And.intro w.fG.2.2.2.1 (And.intro w.fG.2.2.2.2.1 w.fG.2.1));obtain⟨an,av,u⟩:=dC bs bg h3;refine A _ _ (λ_=>ba) ?_;try simp only[Act.put,du,iy]
 refine dA 11 ?_;iterate 4 (refine fw (v:=?_) ba rfl (by kernel_rfl) jU rfl ?_ ?_;rotate_left;(focus(rintro o⟨z0,z1,z2,z3⟩;go_simp;try rfl));simp only[Act.put,du,iy,Nat.reduceAdd])
 apply eX;refine aP (i:=15) rfl rfl (by kernel_rfl) ?_;intro KL D;go_simp;refine D _ _ yR ?_;refine dp (by kernel_rfl) ?_ _;show KK _ _;apply B;have bv:=ad _ u.ref;have bp:=And.intro u.jr.2.2.1 (And.intro u.fG.2.2.2.1 (And.intro u.fG.2.2.2.2.1 u.fG.2.1));clear ax ba t bs bg E P w h3 A D B ad;go_wp2_with fail
 rename_i QQ KK B;refine cJ (λo=>aT o (R e 2)=H (aA j)/\aT o (R r 3)=H (ai X)/\aT o (R r 4)=H (ai al)/\aT o (R r 1)=H (ap ac)) 15 (by kernel_rfl) ?_;refine dA 0 ?_;iterate 10 (refine fw (v:=?_) bp rfl (by kernel_rfl) jU rfl ?_ ?_;rotate_left;(focus(rintro o⟨z0,z1,z2,z3⟩;go_simp;try rfl));simp only[Act.put,du,iy,Nat.reduceAdd])
 apply eX;refine aP (i:=10) rfl rfl (by kernel_rfl) ?_;intro KC A;go_simp;apply bv.mono;rintro cp W3⟨v3,rfl,Q,bc⟩;obtain⟨O3,bh,h3⟩:=u.YC (Y.aW bc) Q;obtain⟨cv,cu,co⟩:=aC Q;subst co;have E:((r,gR 3 ac ca X al<|J ce cc cb):M×Obj)∈O3:=bh.1 _<|dy ..;have x:jR m W3 e db sbqq j i mem b g c lo ((r,gR 3 ac ca X al<|J ce cc cb)::O3) C N l a l a:=h3.drop (λcM S=>by rcases az.1 S with rfl|S;exact E;exact S);have bb:=And.intro x.jr.2.2.1 (And.intro x.fG.2.2.2.1 (And.intro x.fG.2.2.2.2.1 x.fG.2.1));have bt:jQ W3 (J cn (y p) cm) p:=(Y.aW (S:=aB) bc).row ((cf aB W2).row (dH an)<|λK s=>⟨id,(aI an K s).2⟩)<|λK s=>⟨id,(aI an K s).2⟩;obtain⟨cj,bo,L,ao⟩:=gx bt Q bh x;refine A _ _ (λ_=>bb) ?_;try simp only[Act.put,du,iy]
 refine dA 11 ?_;iterate 4 (refine fw (v:=?_) bb rfl (by kernel_rfl) jU rfl ?_ ?_;rotate_left;(focus(rintro o⟨z0,z1,z2,z3⟩;go_simp;try rfl));simp only[Act.put,du,iy,Nat.reduceAdd])
 apply eX;refine aP (i:=15) rfl rfl (by kernel_rfl) ?_;intro KL D;go_simp;refine D _ _ yR ?_;refine dp (by kernel_rfl) ?_ _;show KK _ _;apply B;have bx:=nJ gn ao.CQ;clear bv bp bb A D B bt Q bh h3 x bc E;go_wp2_with fail
 apply bx.mono;rintro cp W4⟨rfl,bq⟩;have T:Y aB W3 W4:=Y.aW bq;have au:=U<|ao.still T;have bl:jQ W4 (J cn (y p) cm) p:=T.row cj<|λK s=>⟨id,by obtain⟨cd,q⟩:=av.2 K s;exact ak<|ao.obj<|aJ _<|L.1 _<|aJ _ q⟩;have bm:jQ W4 (J cv (y p) cu) p:=T.row (pC.Pm bo)<|λK s=>⟨id,(aI bo K s).2⟩;have bn:=ou bl bm (by omega) (by omega);have ck:=U bl;have cl:=U bm;clear bq bx T bl bm;simp only[nh]at bn;go_wp2_with fail
 apply bn.mono;rintro cp W5⟨rfl,kq,bT⟩;have V:Y aB W4 W5:=by rw[bT];exact ia _ _ _
 have h5:=au.still V;have bd:=h5.box;have y5:aT W5 (R e 5)=H g:=h5.jr.2.2.2.1;have y6:aT W5 (R e 6)=H c:=h5.jr.2.2.2.2;have yf:∀cs,W5.frozen? (R e cs)=bF:=λcs=>by simp[World.frozen?,bd]
 have bi:∀K,bV (J cn (y p) cm)=H K->∃cd,(K,cd)∈((r,gR 3 ac ca X al<|J ce cc cb)::O3):=λK s=>by obtain⟨cd,q⟩:=av.2 K s;exact⟨cd,aJ _<|L.1 _<|aJ _ q⟩
 have bk:∀K,bV (J cv (y p) cu)=H K->∃cd,(K,cd)∈((r,gR 3 ac ca X al<|J ce cc cb)::O3):=λK s=>by obtain⟨cd,q⟩:=L.2 K s;exact⟨cd,aJ _ q⟩
 have h6:=h5.outs (V.row ck (λK s=>⟨id,by
  obtain⟨cd,q⟩:=bi K s;exact ak (au.obj q)⟩)) (V.row cl (λK s=>⟨id,by
   obtain⟨cd,q⟩:=bk K s;exact ak (au.obj q)⟩)) br bi bk
 have hO:∀cM∈O,cM∈((r,gR 3 ac ca X al<|J ce cc cb)::O3):=λcM S=>aJ _<|L.1 _<|aJ _<|av.1 _<|aJ _ S;have ch:=U<|h6.drop hO;have cB:=ak bd;clear h5 h6 bd bi bk hO V bn bT;go_wp2_with fail
 apply(qV gn _).mono;rintro cp W7⟨rfl,dc⟩;subst W7;go_wp2;go_ret;exact⟨rfl,_,_,_,ch⟩
end
theorem VM{v w:Z}(u:oz v w=0):1<=v/\v<=32/\2<=w/\w<=6:=by
 unfold oz at u;split at u;cases u;rename_i q;omega
theorem KQ{u v:Z}(w:oz u v≠0):¬(1<=u/\u<=32/\2<=v/\v<=6)/\oz u v=1:=by
 unfold oz at*;split at w;rename_i q;exact⟨by omega,by rw[dw q]⟩;exact absurd rfl w
section
variable{r W W':I}{e db o:M}{m:PB}{p:Option Addr}{mem g k n:Z}{i h:aa}{lo:iH}{O:cr (M×Obj)}{K:DK}{a b c d:cP}{C tbqq N nx s:M}{f:Bool}{lsqq:dW}{t:cr oP}{l:LC}{j:Bool}
theorem JT(bt:OW r W e db o m p mem g i h lo O K a b c d C tbqq N nx s f lsqq t l j)(ce ch:Z)(ho:oz (rZ ce 34) (rZ ch 8)=0)(hN:N+1<=100000000):cy bG 10 #[.pointer<|H ⟨e,0,none⟩,.int .i64 ce,.int .i64 ch] W λao w'=>ao=.returned (.bool bW)/\∃cc w k n,jR r w' e db cc w (m.1,.slice none 0 0) k n i h lo O C (N+1) (l.1,[]) bF (l.1,[]) bF:=by
 have L:=Pg ce ch W;have T:=Cf (rZ ce 34)<|rZ ch 8;have A:=QX (rZ ce 34) (rZ ch 8) bt.laid (VM ho) hN;rw[ho]at T;have y0:aT W ⟨e,0,none⟩=H (.pointer<|H ⟨db,0,none⟩):=by rw[bN bt.box];rfl
 have ca:=ak bt.box;obtain⟨E,hM⟩:∃E,rZ ce 34=E:=⟨_,rfl⟩;obtain⟨cj,hT⟩:∃cj,rZ ch 8=cj:=⟨_,rfl⟩;rw[hM,hT]at L T A;have bv:=bt.CU;have bu:=bt.GA;have x:=U bt;clear bt ho hM hT;go_in
 go_wp2_with fail
 apply L.mono;rintro ao w1⟨rfl,co⟩;subst w1;go_wp2_with fail
 apply A.mono;rintro ao W1⟨rfl,hP⟩;have bk:=JZ W1;have v:∀X,X<z (G W)->¬K.bj db X->W1.heap[X]?=W.heap[X]?:=by obtain⟨cv,K',cu,a',b',c',d',cd,cb,hO⟩:=hP;exactλX u v=>hO.fq.aw.block X u<|λq=>q.elim v<|λao=>by omega
 have cm:z (G W)+4<=z (G W1):=by obtain⟨cv,K',cu,a',b',c',d',cd,cb,hO⟩:=hP;exact hO.size
 have ac:=(v e ca bv).trans x.box;have ad:mj W1 o m.1 l.1 j m.2:=by obtain⟨⟨cx,hh,hp,hv⟩,bT,bh⟩:=x.ref.ref;refine⟨⟨cx,(v o (ak hh) bu).trans hh,?_,hv⟩,bT,λbf hg=>by have:=bh bf hg;omega⟩;obtain⟨q1,⟨q2,q0⟩|⟨bf,ba,bs,q2,bx,hc⟩⟩:=hp;exact⟨q1,.inl ⟨q2,q0⟩⟩;(have hg:m.1=H bf:=by rw[<-hv,q2];rfl);exact⟨q1,.inr ⟨bf,ba,bs,q2,bx,λw cs u=>(cH (w:=W)<|v bf (bh bf hg) (x.yD bf<|.inl hg).2.1).trans<|hc w cs u⟩⟩
 obtain⟨HP,bb,bm⟩:=dC hP ac ad;clear A L hP v ac ad;go_wp2_with fail
 apply bk.mono;rintro ao Q⟨rfl,bg⟩;have V:Y (λ_=>False) W1 Q:=Y.aW bg;have B:=(V.block e (ak bb) id).trans bb;have bd:=U V;have cn:=V.size;clear bg bk V;go_wp2_with fail
 apply(T _).mono;rintro ao an⟨rfl,hw⟩;subst an;go_wp2_with fail
 apply(qV 0 _).mono;rintro ao an⟨rfl,hw⟩;subst an;have y1:aT Q ⟨e,1,none⟩=H (.pointer p):=by rw[bN B];rfl
 have yf:∀ck,Q.frozen? ⟨e,ck,none⟩=bF:=λck=>by simp[World.frozen?,B]
 have F:=aR (i:=1) (u:=.pointer<|H ⟨z (G W)+2,0,none⟩) B;have t3:Y (λX=>X=e) Q (bZ Q ⟨e,1,none⟩<|.pointer<|H ⟨z (G W)+2,0,none⟩):=(Y.refl (λX=>X=e) Q).setCell _ _ _<|.inl rfl;have al:=(bm.aw bd id<|λ_ _=>id).aw t3 (λao=>x.ne ao.symm)<|λbf hg ao=>(x.yD bf<|.inl hg).2.2.1 ao;have bi:=KF m.1 al;have y2:aT (bZ Q ⟨e,1,none⟩<|.pointer<|H ⟨z (G W)+2,0,none⟩) ⟨e,2,none⟩=H (.pointer<|H ⟨o,0,none⟩):=by rw[bN F];rfl
 have bc:=U F;have bq:=U t3;have cl:∀cp:I,(binOp .eql 35 (.pointer<|H ⟨z (G W)+2,0,none⟩)<|.pointer none).run bG cp=.ok (.bool bF) cp:=λ_=>rfl;clear T B F t3 al;go_wp2_with fail
 apply bi.mono;rintro ao S⟨rfl,P,o5,ax⟩;have t5:Y (λ_=>False) (bZ Q ⟨e,1,none⟩<|.pointer<|H ⟨z (G W)+2,0,none⟩) S:=by rw[ax];exact(Y.refl _ _).alloc _
 have u:=(t5.block e (ak bc) id).trans bc;have y3:aT S ⟨e,2,none⟩=H (.pointer<|H ⟨o,0,none⟩):=by rw[bN u];rfl
 have y4:aT S ⟨e,3,none⟩=H (.int .i64 mem):=by rw[bN u];rfl
 have y5:aT S ⟨e,4,none⟩=H (.int .i64 g):=by rw[bN u];rfl
 have yg:∀ck,S.frozen? ⟨e,ck,none⟩=bF:=λck=>by simp[World.frozen?,u]
 obtain⟨w,D⟩:∃w,z (G<|bZ Q ⟨e,1,none⟩<|.pointer<|H ⟨z (G W)+2,0,none⟩)=w:=⟨_,rfl⟩;have av:z (G S)=w+1:=by rw[ax,<-D];simp
 have au:w=z (G Q):=by rw[<-D,gz]
 rw[D]at P|-;obtain⟨bl,br,bn,bp,bo⟩:=jP u t5 P av au;clear bi ax u t5 P D y1 y2 yf av au;go_wp2;go_ret;refine⟨rfl,z (G W)+2,w,E,cj,?_⟩;have av:=ae bp;have au:=ae bo;have tA:Y (λX=>X=e) S (bZ (bZ (bZ S ⟨e,2,none⟩<|.pointer<|H ⟨w,0,none⟩) ⟨e,3,none⟩<|.int .i64 E) ⟨e,4,none⟩<|.int .i64 cj):=(((Y.refl (λX=>X=e) S).setCell _ _ _<|.inl rfl).setCell _ _ _<|.inl rfl).setCell _ _ _<|.inl rfl;have tB:Y (λX=>X=e) W1 (bZ (bZ (bZ S ⟨e,2,none⟩<|.pointer<|H ⟨w,0,none⟩) ⟨e,3,none⟩<|.int .i64 E) ⟨e,4,none⟩<|.int .i64 cj):=(((bd.mono (T:=λX=>X=e) cG).trans bq<|λ_ q=>.inl q).ci br).trans tA<|λ_ q=>.inl q;refine x.opened HP tB ((aR<|aR<|aR bl).trans rfl) (bn.aw tA (λao=>by omega)<|λbf hg ao=>(x.yD bf<|.inl hg).2.2.1 ao) (by omega) (by have:=tA.size;omega)
theorem PS(ad:OW r W e db o m p mem g i h lo O K a b c d C tbqq N nx s f lsqq t l j)(T V:Z)(S:oz (rZ T 34) (rZ V 8)≠0):cy bG 10 #[.pointer<|H ⟨e,0,none⟩,.int .i64 T,.int .i64 V] W λX w'=>X=.returned (.bool bW)/\OW r w' e db o m p mem g i h lo O K a b c d C tbqq N nx s f lsqq t l j/\z (G W)<=z (G w'):=by
 have u:=Pg T V W;have x:=Cf (rZ T 34)<|rZ V 8;have q:=TG (.pointer<|H ⟨db,0,none⟩) (rZ T 34) (rZ V 8) W ⟨_,rfl⟩ (KQ S).1;rw[(KQ S).2]at x;have y0:aT W ⟨e,0,none⟩=H (.pointer<|H ⟨db,0,none⟩):=by rw[bN ad.box];rfl
 obtain⟨E,hM⟩:∃E,rZ T 34=E:=⟨_,rfl⟩;obtain⟨an,hT⟩:∃an,rZ V 8=an:=⟨_,rfl⟩;rw[hM,hT]at u x q;have D:=U ad;clear ad S hM hT;go_in
 go_wp2_with fail
 apply u.mono;rintro X w1⟨rfl,al⟩;subst w1;go_wp2_with fail
 apply q.mono;rintro X W1⟨rfl,A⟩;have Q:=D.still A;have F:=nJ 1 Q.CQ;have B:=U Q;have L:=A.size;clear q u Q A D;go_wp2_with fail
 apply F.mono;rintro X W2⟨rfl,w⟩;have P:=U<|And.intro (B.still<|Y.aW w) (aE L w.size);clear w F B L;go_wp2_with fail
 apply(x _).mono;rintro X v⟨rfl,hw⟩;subst v;have ac:∀w:I,(binOp .eql 35 (.pointer none)<|.pointer none).run bG w=.ok (.bool bW) w:=λ_=>rfl;go_wp2_with fail
 apply(qV 1 _).mono;rintro X v⟨rfl,hw⟩;subst v;go_wp2;go_ret;exact⟨rfl,P⟩
end
theorem LP(f:ab×eI)(g:Fs):ij (f::g)=y f.2+ij g:=by simp[ij]
theorem GU{u:ab×eI}:∀{f:Fs},u∈f->y u.2<=ij f
 |[],q=>by simp at q
 |g::v,q=>by
  rw[LP];rcases az.1 q with rfl|q
  .omega
  .have:=GU q;omega
theorem By{v:ab}{b:eI}:∀{q:Fs},dX q v=H b->(v,b)∈q
 |[],f=>by simp[dX]at f
 |g::w,f=>by
  unfold dX at f;by_cases u:g.1=v
  .rw[dw u]at f;cases f;subst u;exact dy ..
  .rw[cW u]at f;exact aJ _<|By f
theorem RY{q g:Fs}(w:(q.map (·.1)).Nodup)(v:g.Perm q)(x:ab):dX g x=dX q x:=by
 have u:(g.map (·.1)).Nodup:=(v.map _).nodup_iff.2 w;rcases h1:dX q x with _|b;rcases h2:dX g x with _|b;rfl;have:=vX w<|v.mem_iff.1<|By h2;simp only at this;rw[h1]at this;cases this;exact vX u (f:=(x,b))<|v.mem_iff.2<|By h1
def BN(p W:I)(j:M)(O:cr (M×Obj))(C N:M):Prop:=∃db sbqq o n mem h k i lo l e,jR p W j db sbqq o n mem h k i lo O C N l e l e
theorem wN.bytes{P:I}{db:M}{K:DK}{a b c d:cP}{C tbqq N A x:M}{g:Bool}{lsqq:dW}(u:wN P db K a b c d C tbqq N A x g lsqq):∀f∈K.files,y f.bytes<=1099511627776:=λf v=>by
 have B:=tT (f:=(tbqq:Z)+1)<|λl q=>⟨u.lp.jc l q,(u.lp.one l q).2⟩;have D:=Dw<|λl q=>(u.lp.one l q).1;have E:=u.lp.sum;have L:=u.qX.total u.aN.nodup (by omega) u.count;have w:(f.name,f.bytes)∈vw K.files:=aZ.2 ⟨f,v,rfl⟩;have:=GU w;simp only at this;omega
section
variable{p W W':I}{j db sbqq o:M}{n:PB}{mem h:Z}{k i:aa}{lo:iH}{O:cr (M×Obj)}{s:SR}{K:DK}{a b c d:cP}{C tbqq N:M}{lsqq:dW}{m:cA}{t:Zs}{r:cr oP}{l:LC}{e:Bool}
theorem LW.copied(v:LW p W j db sbqq o n mem h k i lo O s K m a b c d C tbqq N lsqq t r l bW l bW){A:M}{F:DK}(hd:cK W' A F)(P:(vw F.files).Perm (vw K.files))(hm:F.eM=[])(hf:∀g,F.bj A g->z (G W)<=g)(E:Y aB W W'):∃ao nx lg f,W.heap[sbqq]?=H ao/\OW p (bZ W' (R j 0)<|aA A) j A o n (H<|R sbqq 0) mem h k i lo ((sbqq,ao)::O) F a b c d C tbqq N nx lg f lsqq r l bW:=by
 obtain⟨au,nx,lg,f,V⟩:=v.vu;have Q:=v.CU.lt;have al:=v.GA.lt;have X:=ak v.tN;have hz:=E.size;have av:=v.aw.size;have ac:=(E.block j Q id).trans v.box;have T:Y (λg=>g=j) W' (bZ W' (R j 0)<|aA A):=(Y.refl (λg=>g=j) W').setCell _ _ _<|.inl rfl;have u:∀g,g<z (G W)->¬F.bj A g:=λg w q=>by have:=hf g q;omega
 have hg:=v.lu (S:=λg=>g=j) (λg B=>by have e':g=j:=B;rw[e'];exact v.low.2.2.2);have an:=V.steps.lt;have ad:=V.pow.lt;have D:∀{v:aa}{L:iH},jQ W v L->(∀g,bV v=H g->Ft W K db sbqq s g/\g≠j/\g≠o/\bV n.2≠H g)->jQ (bZ W' (R j 0)<|aA A) v L:=λP f=>T.row (E.row P<|λg w=>⟨id,(f g w).1.lt⟩)<|λg w=>⟨(f g w).2.1,by have:=(f g w).1.lt;omega⟩;have x:∀g{Q:Prop},Ft W K db sbqq s g/\Q->g<z (G<|bZ W' (R j 0)<|aA A)/\¬F.bj A g/\Q:=λg _ q=>⟨by rw[gz];have:=q.1.lt;omega,u g q.1.lt,q.2⟩;have L:∀g ao,g≠j->W.heap[g]?=H ao->(bZ W' (R j 0)<|aA A).heap[g]?=H ao:=λg ao w f=>(T.block g (by have:=ak f;omega) w).trans<|(E.block g (ak f) id).trans f;refine⟨_,nx,lg,f,v.tN,(aR ac).trans rfl,(v.ref.aw E id<|λ_ _=>id).aw T (λB=>v.ne B.symm)<|λba hg B=>(v.yD ba hg).2.1 B,?_,v.yG,v.len,D v.Bi v.nY,D v.uN v.kM,v.VW,(v.aw.ci E).trans T<|λg B=>.inr (by have:=v.low.2.2.2;have:g=j:=B;omega),⟨λg q=>by have:=hf g q;omega,v.low.2.2⟩,u j Q,u o al,λg w=>x g<|v.yD g w,λg w=>x g<|v.nY g w,λg w=>x g<|v.kM g w,λax P=>?_,λq hq=>?_,v.ne,v.g0⟩;exact V.again (hd.aw T<|λg q B=>u j Q<|B▸q) (λf=>RY V.aN.nodup P f) (by rw[hm];exact bA _) (Steps.aw (Steps.aw V.steps E id) T hg.1) ((V.pow.aw E id).aw T hg.2) (u _ an)<|u _ ad;rcases az.1 P with rfl|P;exact⟨L sbqq _ (λB=>v.CU.ne B.symm) v.tN,u sbqq X,λB=>v.CU.ne B.symm,λB=>v.GA.ne B.symm,λq=>(v.yD sbqq q).1.ne rfl⟩;obtain⟨q1,q2,q3⟩:=v.obj ax P;exact⟨L ax.1 _ q3.1 q1,u ax.1 q2.lt,q3⟩;cases hq;exact⟨u sbqq X,_,_,_,L sbqq _ (λB=>v.CU.ne B.symm) v.tN,by decide⟩
theorem OW.back{F:M}{E:DK}{S:Obj}{P L:M}{g:Bool}(D:z (G W)<=z (G W'))(v:LW p W j db sbqq o n mem h k i lo O s K m a b c d C tbqq N lsqq t r l bW l bW)(V:W.heap[sbqq]?=H S)(f:OW p W' j F o n (H<|R sbqq 0) mem h k i lo ((sbqq,S)::O) E a b c d C tbqq N P L g lsqq r l bW):LW p W' j F sbqq o n mem h k i lo O s E m a b c d C tbqq N lsqq t r l bW l bW:=by
 have x:=f.obj (sbqq,S)<|dy ..;have ad:H S=_:=V.symm.trans v.tN;have A:bL W' sbqq s 0:=x.1.trans ad;have X:=ak f.box;obtain⟨⟨al,T,_⟩,_⟩:=f.ref.ref;refine⟨f.box,f.ref,A,⟨v.vu.1,P,L,g,f.laid⟩,f.yG,v.pV,v.num,f.len,v.mJ,f.Bi,f.uN,f.VW,f.aw,⟨f.low.1,v.low.2.1,f.low.2⟩,λw q=>⟨(v.zu w q).1,ag (v.zu w q).2 D⟩,x.2.1,⟨⟨X,f.CU,v.CU.ne⟩,v.CU.pV⟩,⟨⟨ak T,f.GA,v.GA.ne⟩,v.GA.pV⟩,λw u=>⟨⟨⟨(f.yD w u).1,(f.yD w u).2.1,(v.yD w u).1.ne⟩,(v.yD w u).1.pV⟩,(f.yD w u).2.2⟩,λw u=>⟨⟨⟨(f.nY w u).1,(f.nY w u).2.1,(v.nY w u).1.ne⟩,(v.nY w u).1.pV⟩,(f.nY w u).2.2⟩,λw u=>⟨⟨⟨(f.kM w u).1,(f.kM w u).2.1,(v.kM w u).1.ne⟩,(v.kM w u).1.pV⟩,(f.kM w u).2.2⟩,λac B=>?_,v.ne,v.g0⟩;obtain⟨Q,q2,q3⟩:=f.obj ac<|aJ _ B;exact⟨Q,⟨⟨ak Q,q2,(v.obj ac B).2.1.ne⟩,(v.obj ac B).2.1.pV⟩,q3⟩
theorem MS(ac:jR p W j db sbqq o n mem h k i lo O C N l e l e)(al an:Z)(ao au:ab)(ax:Option Addr)(av c:M):cy bG 7 #[aA j,AN 5 al an ao au<|J ax av c] W λT w'=>T=aO (aL bW)/\BN p w' j O C N:=by
 have V:=ac.still<|(Y.refl aB W).alloc<|gR 5 al an ao au<|J ax av c;have g:=Lh V;have y1:aT W (R j 1)=H (aA sbqq):=ac.jr.2.1;have ad:=ak ac.box;obtain⟨F,v⟩:∃F:Z,(if e then 6 else 0)=F:=⟨_,rfl⟩;have f:=λW'(q:mj W' o n.1 l.1 e n.2)=>zX n.1 q;rw[v]at g;simp only[v]at f;have u:=U f;unfold gR at g;unfold AN;clear ac V v f;go_in
 go_wp2_with fail
 apply g.mono;rintro T S⟨rfl,L⟩;have y2:aT S (R j 2)=H (aA o):=L.jr.2.2.1;have X:=u S L.ref;have w:=U L;clear g L u;go_wp2_with fail
 apply X.mono;rintro T W3⟨rfl,D,B⟩;have Q:=w.KE B D<|.inl rfl;have E:=nJ F Q.CQ;have x:=U Q;clear X D B Q w;go_wp2_with fail
 apply E.mono;rintro T W4⟨rfl,A⟩;have P:=U<|x.still<|Y.aW A;clear A E x;go_wp2_with fail
 apply(qV F _).mono;rintro T W5⟨rfl,hw⟩;subst W5;go_wp2;go_ret;exact⟨rfl,db,sbqq,o,n,mem,h,k,i,lo,l,bW,P⟩
theorem Qd(bq:jR p W j db sbqq o n mem h k i lo O C N l e l e)(bd bf:Z)(bo bp:ab)(bs:Option Addr)(br c:M)(hN:N+1<=100000000):cy bG 7 #[aA j,AN 6 bd bf bo bp<|J bs br c] W λbc w'=>bc=aO (aL bW)/\(BN p w' j O C N\/BN p w' j O C (N+1)):=by
 obtain⟨ob,bk⟩:∃ob,z (G W)=ob:=⟨_,rfl⟩;have h1:jR p (ct W<|gR 6 bd bf bo bp<|J bs br c) j db sbqq o n mem h k i lo ((ob,gR 6 bd bf bo bp<|J bs br c)::O) C N l e l e:=bq.add ((Y.refl _ W).alloc _) (by omega)<|aD _ bk.symm;have D:=Lh h1;have y1:aT W (R j 1)=H (aA sbqq):=bq.jr.2.1;have bt:=ak bq.box;have bn:j<ob:=by omega
 obtain⟨gn,S⟩:∃gn:Z,(if e then 6 else 0)=gn:=⟨_,rfl⟩;have v:=λW'(q:mj W' o n.1 l.1 e n.2)=>zX n.1 q;rw[S]at D;simp only[S]at v;have E:=U v;unfold gR at D;unfold AN;clear bq h1 S v;go_in
 go_wp2_with fail
 apply D.mono;rintro bc W2⟨rfl,h2⟩;have y2:aT W2 (R j 2)=H (aA o):=h2.jr.2.2.1;have hr:=E W2 h2.ref;have ad:=U h2;clear D h2 E;go_wp2_with fail
 apply hr.mono;rintro bc W3⟨rfl,au,ao⟩;have h3:=ad.KE ao au<|.inl rfl;have av:=nJ gn h3.CQ;have al:=U h3;clear hr au ao h3 ad;go_wp2_with fail
 apply av.mono;rintro bc W4⟨rfl,an⟩;have h4:=al.still<|Y.aW an;have y3:aT W4 (R j 0)=H (aA db):=h4.jr.1;obtain⟨s,K,m,a,b,c',d,tbqq,lsqq,t,r,F⟩:=h4;obtain⟨_,bv,bu,ba,B⟩:=F.vu;have L:=UR B.aN B.bytes B.aN.nodup;have A:=U F;clear an av al F B;go_wp2_with fail
 apply(qV gn _).mono;rintro bc W5⟨rfl,hw⟩;subst W5;go_wp2_with fail
 apply L.mono;rintro bc W6⟨cb,K6,rfl,P,V,T,Q,w⟩;obtain⟨bT,nx,lg,ac,X,u⟩:=A.copied P V T Q w;have g:=(w.block j (ak A.box) id).trans A.box;have y6:=cellAt g 0 rfl;have yf:W6.frozen? (R j 0)=bF:=by simp[World.frozen?,g]
 have f:=(u.obj (ob,gR 6 bd bf bo bp<|J bs br c)<|aJ _<|dy ..).1;unfold gR at f;simp only at f;have z1:=cellAt f 1 rfl;have z2:=cellAt f 2 rfl;have bh:=U X;have bi:=U (show z (G W4)<=z (G<|bZ W6 (R j 0)<|aA cb)by rw[gz];exact w.size);by_cases ho:oz (rZ bd 34) (rZ bf 8)=0;(.have x:=JT u bd bf ho hN;clear L P V T Q w u g f X ho;(go_wp2_with fail);apply x.mono;rintro bc W8⟨rfl,bm,bl,ax,bb,h8⟩;have bg:=U h8;clear h8 x;go_wp2;go_ret;exact⟨rfl,.inr ⟨cb,bm,bl,_,ax,bb,k,i,lo,_,bF,bg.drop<|λbx hp=>aJ _<|aJ _ hp⟩⟩);have x:=PS u bd bf ho;clear L P V T Q w u g f X ho;(go_wp2_with fail);apply x.mono;rintro bc W8⟨rfl,h8,ax⟩;have h9:jR p W8 j cb sbqq o n mem h k i lo _ C N l bW l bW:=⟨s,K6,m,a,b,c',d,tbqq,lsqq,t,r,OW.back (aE bi ax) A bh h8⟩;have bb:=U<|h9.drop (O':=O)<|λbx hp=>aJ _ hp;clear h8 x h9 ax;go_wp2;go_ret;exact⟨rfl,.inl ⟨cb,sbqq,o,n,mem,h,k,i,lo,l,bW,bb⟩⟩
end
section
variable{e W:I}{h db sbqq b:M}{f:PB}{mem c:Z}{g d:aa}{lo:iH}{O:cr (M×Obj)}{C N:M}{l:LC}{a:Bool}
theorem vM{l:iH}{i:uz}:(if a=bF/\fY i=0 then SE l i else l)=(if a then l else qP l i):=by
 unfold qP;cases a<;>simp
theorem Rr(cs:jR e W h db sbqq b f mem c g d lo O C N l a l a)(cM cT:Z)(bc cb:ab)(V j cd cc:M)(r s:ab)(u:Bool)(hn:0<cd)(dx:cd<=cc)(ds:cd<=1000000000000)(A:V<z (G e))(r0:aT e (R V j)=H (ai r))(r1:aT e (R V<|j+1)=H (ai s))(r2:aT e (R V<|j+2)=H (aL u))(hz:r.size<=140737488351232/\s.size<=140737488351232)(hC:C+lw [⟨r,s,u⟩]<=1000000)(hN:N+1<=100000000):cy bG 33 #[aA h,AN 4 cM cT bc cb<|bD V j cd cc] W λbd w'=>bd=aO (aL bW)/\∃bx l',jR e w' h db sbqq b bx mem c g d lo O (C+lw [⟨r,s,u⟩]) (N+1) l' a l' a:=by
 obtain⟨E,ax⟩:∃E,z (G W)=E:=⟨_,rfl⟩;have h1:jR e (ct W<|gR 4 cM cT bc cb<|bD V j cd cc) h db sbqq b f mem c g d lo ((E,gR 4 cM cT bc cb<|bD V j cd cc)::O) C N l a l a:=cs.add ((Y.refl _ W).alloc _) (by omega)<|aD _ ax.symm;have n:=h1.still<|cf aB _;have m:=TU n bc cb r s u hz hC hN;have P:∀k,Y aB e k->aT k (R V j)=H (ai r)/\aT k (R V<|j+1)=H (ai s)/\aT k (R V<|j+2)=H (aL u):=λk m=>⟨m.cell r0 id A,m.cell r1 id A,m.cell r2 id A⟩;have X:=And.intro n.jr.2.1 (And.intro n.fG.2.2.2.1 (And.intro n.fG.2.2.2.2.1 (And.intro n.fG.2.2.2.2.2 (P _ n.aw))));have dv:=ak cs.box;have cu:=cs.lens;have cx:b<z (G W):=by obtain⟨⟨cE,hh,_⟩,_⟩:=cs.ref;exact ak hh
 have cm:y (if a then []else mO l.1 bc cb 0)<=1000000:=by have:=nC l.1 bc cb 0;split;simp;omega
 have B:=λo(q:mj o b f.1 l.1 a f.2)=>tS f.1 bc cb 0 q (by omega);have D:∀o,Y aB e o->cy bG 13 #[bD V j 1 cc] o λbd w'=>∃v',bd=aO v'/\My w' (z<|G o) v' [⟨r,s,u⟩]/\Below (z<|G o) o w':=λo bn=>by refine zb [⟨r,s,u⟩] _ o (by simp) ⟨rfl,.inr ⟨V,j,cc,rfl,by show 1<=cc;omega,λec ef hj=>?_⟩⟩ (λS hk=>by cases hk;exact ag A bn.size);obtain⟨q0,q1,q2⟩:=P o bn;rcases ec with _|_|_|ec;cases hj;exact q0;cases hj;exact q1;cases hj;exact q2;simp[eO,oD]at hj
 have Q:=λo v'(q:mj o b f.1 l.1 a f.2)(j:My o E v' [⟨r,s,u⟩])=>rY f.1 q (dH j) (λS hk=>(aI j S hk).2) (by simp;omega);obtain⟨p,hR⟩:∃p,(if a then []else mO l.1 bc cb 0)=p:=⟨_,rfl⟩;obtain⟨gn,bo⟩:∃gn:Z,(if a then 6 else 0)=gn:=⟨_,rfl⟩;obtain⟨wn,bb⟩:∃wn:Z,(if a then 6 else fY [⟨r,s,u⟩])=wn:=⟨_,rfl⟩;rw[hR,bb]at m;rw[hR]at cm;simp only[hR,bo]at B;simp only[bb,vM]at Q;obtain⟨la,ao⟩:∃la,(if a then l.1 else qP l.1 [⟨r,s,u⟩])=la:=⟨_,rfl⟩;rw[ao]at m;simp only[ao]at Q;obtain⟨T,bl,bk,ch⟩:=gx B D Q P;have e1:(0:Z)<(cd:Z):=by omega
 have e2:(1:Z)<=(cc:Z):=by omega
 have cv:z (G W)=E:=ax;unfold AN;unfold gR at m X;clear cs h1 n hR bo bb ao B D Q P r0 r1 r2 A;go_in
 go_wp2_with fail
 try rw[ax]
 rename_i QQ KK w;refine cJ (λk=>aT k (R h 1)=H (aA sbqq)/\aT k (R E 3)=H (ai bc)/\aT k (R E 4)=H (ai cb)/\aT k (R E 5)=H (bD V j cd cc)/\aT k (R V j)=H (ai r)/\aT k (R V<|j+1)=H (ai s)/\aT k (R V<|j+2)=H (aL u)) 17 (by kernel_rfl) ?_;refine dA 0 ?_;iterate 12 (refine fw (v:=?_) X rfl (by kernel_rfl) jU rfl ?_ ?_;rotate_left;(focus(rintro k⟨z0,z1,z2,z3,z4,z5,z6⟩;go_simp;try rfl));simp only[Act.put,du,iy,Nat.reduceAdd])
 apply eX;refine aP (i:=12) rfl rfl (by kernel_rfl) ?_;intro KC v;go_simp;apply m.mono;rintro bd W2⟨v2,rfl,al,n⟩;obtain⟨dd,dc,cn⟩:=aC al;subst cn;have F:=n.still<|cf aB W2;have ac:=And.intro n.jr.2.1 (And.intro n.fG.2.2.2.1 (And.intro n.fG.2.2.2.2.1 (And.intro n.fG.2.2.2.2.2 (ch _ n.aw))));have bg:=U al;have t:=U F;refine v _ _ (λ_=>ac) ?_;try simp only[Act.put,du,iy]
 refine dA 13 ?_;iterate 4 (refine fw (v:=?_) ac rfl (by kernel_rfl) jU rfl ?_ ?_;rotate_left;(focus(rintro k⟨z0,z1,z2,z3,z4,z5,z6⟩;go_simp;try rfl));simp only[Act.put,du,iy,Nat.reduceAdd])
 apply eX;refine aP (i:=17) rfl rfl (by kernel_rfl) ?_;intro KL x;go_simp;refine x _ _ yR ?_;refine dp (by kernel_rfl) ?_ _;show KK _ _;apply w;have bt:=T _ t.ref;have bm:=And.intro t.jr.2.2.1 (And.intro t.fG.2.2.2.1 t.fG.2.2.2.2.1);have cB:z (G W)<z (G W2):=by have:=ak<|n.obj<|dy ..;simp only at this;omega
 clear X ac m al n F v x w T;go_wp2_with fail
 rename_i KK w;refine cJ (λk=>aT k (R h 2)=H (aA b)/\aT k (R E 3)=H (ai bc)/\aT k (R E 4)=H (ai cb)) 13 (by kernel_rfl) ?_;refine dA 0 ?_;iterate 8 (refine fw (v:=?_) bm rfl (by kernel_rfl) jU rfl ?_ ?_;rotate_left;(focus(rintro k⟨z0,z1,z2⟩;go_simp;try rfl));simp only[Act.put,du,iy,Nat.reduceAdd])
 apply eX;refine aP (i:=8) rfl rfl (by kernel_rfl) ?_;intro KC v;go_simp;apply bt.mono;rintro bd W3⟨v3,rfl,au,K⟩;obtain⟨dm,dk,co⟩:=aC au;subst co;have F:=t.still<|Y.aW K;have ad:=And.intro F.jr.2.2.1 (And.intro F.fG.2.2.2.1 F.fG.2.2.2.2.1);have dT:=K.size;obtain⟨bi,ce,bh⟩:=dC au K F;have y5:aT W3 (R E 5)=H (bD V j cd cc):=F.fG.2.2.2.2.2;refine v _ _ (λ_=>ad) ?_;try simp only[Act.put,du,iy]
 refine dA 9 ?_;iterate 4 (refine fw (v:=?_) ad rfl (by kernel_rfl) jU rfl ?_ ?_;rotate_left;(focus(rintro k⟨z0,z1,z2⟩;go_simp;try rfl));simp only[Act.put,du,iy,Nat.reduceAdd])
 apply eX;refine aP (i:=13) rfl rfl (by kernel_rfl) ?_;intro KL x;go_simp;refine x _ _ yR ?_;refine dp (by kernel_rfl) ?_ _;show KK _ _;apply w;have D:=bl _ bh.aw;clear bt bm ad v x w au K F;go_wp2_with fail
 apply D.mono;rintro bd W4⟨v4,rfl,av,L⟩;have h4:=bh.still<|Y.aW L;have ea:=L.size;have dn:z (G W2.drew)=z (G W2):=rfl;have bv:=bk W4 v4 h4.ref (eQ av<|by omega);obtain⟨ee,ed,cp⟩:=aC av;subst cp;have y2:aT W4 (R h 2)=H (aA b):=h4.jr.2.2.1;have bf:=U L;have cj:=U h4;clear av L h4 D bk bl;go_wp2_with fail
 apply bv.mono;rintro bd W5⟨rfl,⟨bx,bs,bq⟩,an⟩;have h5:=cj.KE an bs bq;have t5:Y (λS=>S=b) W4 W5:=fg an;have bT:Y (λS=>S=b) W2 W5:=(((cf (λS=>S=b) W2).ci<|Y.aW (S:=aB) ce).ci<|Y.aW (S:=aB) bf).trans t5<|λ_ q=>.inl q;have ca:Y (λS=>S=b) W3 W5:=(Y.aW (S:=λS=>S=b) bf).trans t5<|λ_ q=>.inl q;have bp:jQ W5 (J dd (y p) dc) p:=bT.row (dH bg) (λS hk=>by have hq:=aI bg S hk;simp at hq;exact⟨λbd=>by have:S=b:=bd;omega,hq.2⟩);have br:jQ W5 (J dm (y p) dk) p:=ca.row (pC.Pm bi) (λS hk=>by have hq:=aI bi S hk;exact⟨λbd=>by have:S=b:=bd;omega,hq.2⟩);have ba:=ou bp br (by omega) (by omega);simp only[nh]at ba;have ck:=U h5;clear bp br bT ca t5 h5 an bs bq bv;go_wp2_with fail
 apply ba.mono;rintro bd W6⟨rfl,kq,bu⟩;have cl:=U<|ck.still (W':=W6) (by rw[bu];exact ia _ _ _);clear ba bu;go_wp2_with fail
 apply(qV wn _).mono;rintro bd W7⟨rfl,eb⟩;subst W7;go_wp2;go_ret;exact⟨rfl,_,_,cl.drop<|λp j=>aJ _ j⟩
end
