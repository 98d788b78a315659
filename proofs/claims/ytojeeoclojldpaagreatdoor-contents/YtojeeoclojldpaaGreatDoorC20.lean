import Derived.Test.YtojeeoclojldpaaGreatDoorC17
open _root_ renaming List.length→y,Option.some→H,Array.size→z,Go.World.heap→G,Go.Value.ownBlock→bV,Go.World.cell?→aT,Go.World.setCell→bZ,Go.World.alloc→ct,Bool.false→bF,Bool.true→bW,Nat→M,Int→Z,List→cr,Go.Calls→cy,Go.Proofs.Tryz.prog→bG,Go.Value.slice→J,Go.Value.string→ai,Go.Value.bool→aL,Go.Value.pointer→fp,Go.Value.tuple→dB,Go.Value.agg→eC
namespace Go.Proofs.YtojeeoclojldpaaGreatDoor
open ChangeShapes WideShapes RowKit Proofs.Tryz
set_option maxHeartbeats 16000000
set_option linter.all false
set_option maxRecDepth 100000
variable{a f C:I}{b c g l B P:M}{d s N:aa}{e:cA}{i p:cP}{k:dW}{X:fJ}{r:jj}{x:iU}{S:bJ}
section
open Go.Shelf
attribute [local go_sem] Oper.semAt_some
def nX(v:aa):M->dW->iU
 |_,[]=>[]
 |n,p::a=>zd v n (y p)::nX v (n+y p) a
def FL(v:aa):∀(n:M)(a:dW),y (nX v n a)=y a
 |_,[]=>rfl
 |n,p::a=>by rw[nX,ay,ay,FL]
def Ce(v:aa)(p:cA):∀(n:M)(a:dW),nX v n (a++[p])=nX v n a++[zd v (n+y a.flatten)<|y p]
 |_,[]=>by simp[nX]
 |n,q::a=>by
  rw[cq,nX,Ce,nX,cq,aX,af,aV]
structure CT(W:I)(base N1:M)(v pv:aa)(ps:dW)(t:M):Prop where
 p:dV W N1 pv 319
 f:dV W (N1+1) (ap<|y ps.flatten) 3
 to:dV W (N1+2) (ap t) 3
 o:W.ownsRow base 102 1 pv (y ps) (nX v 0 ps)
 XL:∀k,bV pv=H k->k<N1\/N1+4<=k
 size:N1+4<=z (G W)
 bs:base<=N1
def JE(a:M)(b:aa)(k:M):Prop:=(a<=k/\k<a+3)\/bV b=H k
def CT.aw{T:fJ}(j:CT a b c d s k g)(e:Y T a C)(h:∀l,JE c s l->¬T l):CT C b c d s k g:=⟨j.p.aw e<|h _<|.inl ⟨by omega,by omega⟩,j.f.aw e<|h _<|.inl ⟨by omega,by omega⟩,j.to.aw e<|h _<|.inl ⟨by omega,by omega⟩,e.own j.o<|λl m=>h l<|.inr m,j.XL,aE j.size e.size,j.bs⟩
def CT.at(h:CT a b c d s k g)(n:M):CT (bZ a (R (c+2) 0)<|ap n) b c d s k n:=⟨h.p.other _ (by omega),h.f.other _ (by omega),h.to.set _,(rk a _ 0 _).own h.o (λj e l=>by have:=h.XL j e;omega),h.XL,by rw[gz];exact h.size,h.bs⟩
def CT.more{p:cA}(t:CT a b c d s k g)(u:eP a f s N)(B:g=y k.flatten+y p)(A:f.ownsRow b 102 1 N (y k+1) (nX d 0 k++[zd d (y k.flatten)<|y p])):(aT f (R c 0)=H s/\f.frozen? (R c 0)=bF)/\(aT (bZ f (R c 0) N) (R (c+1) 0)=H (ap<|y k.flatten)/\(bZ f (R c 0) N).frozen? (R (c+1) 0)=bF)/\aT (bZ f (R c 0) N) (R (c+2) 0)=H (ap g)/\CT (bZ (bZ f (R c 0) N) (R (c+1) 0)<|ap g) b c d N (k++[p]) g/\Y (JE c s) a (bZ (bZ f (R c 0) N) (R (c+1) 0)<|ap g)/\∀m,JE c N m->JE c s m\/z (G a)<=m:=by
 have h:=Y.fy u;have C:=t.size;have l:∀x,c<=x->x<c+3->¬(bV s=H x):=λx e g n=>by have:=t.XL x n;omega
 have o:=t.p.aw h (l _ (by omega)<|by omega);have r:=(t.f.aw h<|l _ (by omega)<|by omega).other (b':=c) (i:=0) N (by omega);have v:=(t.to.aw h<|l _ (by omega)<|by omega).other (b':=c) (i:=0) N (by omega);have e:∀m,bV N=H m->m<c\/c+4<=m:=by intro m j;rcases u.uc with n|⟨x,n,w⟩;exact t.XL m<|n▸j;rw[n]at j;cases j;exact .inr<|by omega
 refine⟨⟨o.cell,o.free⟩,⟨r.cell,r.free⟩,v.cell,⟨(o.set N).other _ (by omega),?_,v.other _ (by omega),?_,e,?_,t.bs⟩,?_,?_⟩;have:=r.set<|ap g;rw[B]at this|-;rw[dP,af];simpa using this;rw[af,Ce,cQ];refine(rk _ _ 0 _).own ((rk _ _ 0 _).own A ?_) ?_;intro m j n;have:=e m j;omega;intro m j n;have:=e m j;omega;rw[gz,gz];have:=h.size;omega;exact((h.mono (T:=JE c s)<|λm j=>.inl<|.inr j).setCell _ 0 _<|.inl<|.inl ⟨by omega,by omega⟩).setCell _ 0 _<|.inl<|.inl ⟨by omega,by omega⟩;rintro m(n|n);exact .inl<|.inl n;rcases u.uc with q|⟨x,q,w⟩;exact .inl<|.inr<|q▸n;rw[q]at n;cases n;exact .inr w
structure CH(w:I)(N1:M)(v:aa)(n L:M)(pre:cr (M×cA))(B:fJ)(W:I):Prop where
 ex:∃ps cur pv,CT W (z (G w)+2) N1 v pv ps (y<|ig pre)/\ig pre=ps.flatten++cur/\(∀rest,kJ n L 0 0 [] (pre.map (·.2)++rest)=ps++kJ n L (y ps) (y<|ig pre) cur rest)/\∀k,B k↔JE N1 pv k
 l:dV W (z<|G w) v 102
 n:dV W (z (G w)+1) (ap n) 3
 aw:Y aB w W
def CH.lt{h:cr (M×cA)}(n:CH a b d c g h X C):∀k,X k->z (G a)+2<=k/\k<z (G C):=by
 obtain⟨o,i,p,e,_,_,j⟩:=n.ex;intro k l;have:=e.bs;have:=e.size;rcases(j k).1 l with m|m;exact⟨by omega,by omega⟩;have:=aI e.o k m;exact⟨this.1,this.2⟩
def CH.stays{e:cr (M×cA)}{T:fJ}(p:CH a b d c g e X f)(i:Y T f C)(h:∀k,T k->¬X k/\b+3<=k):CH a b d c g e X C:=by
 obtain⟨s,j,t,o,q,r,n⟩:=p.ex;have:=o.bs;exact⟨⟨s,j,t,o.aw i<|λk l m=>(h k m).1<|(n k).2 l,q,r,n⟩,p.l.aw i (λm=>by have:=(h _ m).2;omega),p.n.aw i (λm=>by have:=(h _ m).2;omega),p.aw.trans i<|λk l=>.inr (by have:=(h k l).2;omega)⟩
def MU{gg:cA}{d:dW}(h:∀a,kJ b c 0 0 [] (k++a)=d++kJ b c (y d) g e a):((y d+1)*c/b<=g+y gg->∀a,kJ b c 0 0 [] (k++[gg]++a)=(d++[e++gg])++kJ b c (y<|d++[e++gg]) (g+y gg) [] a)/\(¬(y d+1)*c/b<=g+y gg->∀a,kJ b c 0 0 [] (k++[gg]++a)=d++kJ b c (y d) (g+y gg) (e++gg) a):=by
 constructor;intro f a;rw[aU,h,cq,cC,oU,dw f];simp;intro f a;rw[aU,h,cq,cC,oU,cW f]
def Uo:(prog.info? 102).map (λi=>(i.zero,i.size,i.bytes))=H (H aK,1,24):=by kernel_rfl
def Ql(h:kw a d e)(hs:dQ e)(hl:y e<=1000000)(v:∀k,bV d=H k->k<z (G a)):cy bG 197 #[d] a λeu w'=>∃v',eu=aO v'/\w'.ownsRow (z<|G a) 102 1 v' (y<|iz e) (nX d 0<|iz e)/\Y aB a w':=by
 obtain⟨i0,cu,dk,dm,dn⟩:=cz Uo;obtain⟨bt,o,dd⟩:=bM h;have en:=Ap d bt (y e) o dd;obtain⟨N,hN⟩:∃N,uo (y e)=N:=⟨_,rfl⟩;have fd:N<=10418:=by unfold uo at hN;omega
 have ck:0<y e->0<N:=by unfold uo at hN;omega
 have e1:Int.tdiv ((y e:Z)+96-1) 96=(N:Z):=by(have:((y e:Z)+96-1)=((y e+95:M):Z):=by omega);rw[this,<-hN];unfold uo;exact(Int.ofNat_tdiv _ _).symm
 unfold iz;rw[hN];obtain⟨HN,ee,HH,HV⟩:=gx hN ck h v;clear h v hN ck;subst dd;refine(cX (n:=3)).1 ?_;refine callsIn_of_wp_marks func197 rfl trivial ?_ rfl;simp only[ntmps197,eR,ay,cL,Nat.reduceAdd,Nat.reduceSub,dS,dR,eS,er,cC,cq]
 gi_wp2_with(first
  |(gi_at_make;go_loud(refine wpListIn_make_own _ rfl _ _ 319 rfl (z (G a)+2) 102 i0 aK 1 underlying319 cu dk dm _ _ _ N rfl rfl (by omega) (by rw[dn];omega) (by unfold maxLen;omega) (by simp) ?_;intro g ba x;have W:dV g (z<|G a) (.slice bt (y e) o) 102:=(x.block _ (by simp<;>omega)<|by simp).trans<|dV.alloc (aD _ rfl) _;have X:dV g (z (G a)+1) (.int .i64 N) 3:=(x.block _ (by simp<;>omega)<|by simp).trans (aD _<|by simp);have y0:=W.cell;have y1:=X.cell;have y2:=ak W;have y3:=ak X;have y4:z (G a)<z (G g)+1:=(by omega);have y5:z (G a)<z (G g)+1+1:=(by omega);have dT:=U W;have ea:=U X;have bh:Hid (g.ownsRow (z (G a)+2) 102 1 (bD (z (G a)+1+1) 0 0 N) 0 []):=U (by simpa using ba);have ec:=U x;clear ba x W X))
  |(refine⟨trivial,?_⟩;gi_at_call 79;refine(cX.2 (en _)).mono ?_;rintro eu w1⟨rfl,rfl⟩))
 obtain⟨W0,u⟩:∃W0,(ct (ct (ct (ct g<|ar #[bD (z (G a)+1+1) 0 0 N] 319)<|ar #[ap 0] 3)<|ar #[ap 0] 3)<|ar #[J bt (y e) o] 102)=W0:=⟨_,rfl⟩;have fx:z (G W0)=z (G g)+4:=by rw[<-u];simp
 have es:Y aB a g:=(((Y.refl aB a).alloc<|ar #[J bt (y e) o] 102).alloc<|ar #[ap N] 3).ci (Y.dN (S:=aB) ec<|by simp);have A:Y aB g W0:=by rw[<-u];exact((((Y.refl aB g).alloc _).alloc _).alloc _).alloc _
 have cT:Y aB a W0:=es.ci A;have el:dV W0 (z (G g)+3) (J bt (y e) o) 102:=by rw[<-u];exact aD _<|by simp
 have cc:kw W0 (J bt (y e) o) e:=HH.aw cT<|λk b=>⟨id,HV k b⟩;have hA0:CH a (z<|G g) (J bt (y e) o) N (y e) [] (JE (z<|G g)<|bD (z (G a)+1+1) 0 0 N) W0:=by refine⟨⟨[],[],_,⟨?_,?_,?_,?_,?_,by omega,by omega⟩,rfl,λP=>rfl,λk=>qT⟩,dT.aw A id,ea.aw A id,cT⟩;rw[<-u];exact dV.alloc (dV.alloc (dV.alloc (aD _ rfl) _) _) _;rw[<-u];exact dV.alloc (dV.alloc (aD _<|by simp) _) _;rw[<-u];exact dV.alloc (aD _<|by simp) _;exact A.own bh<|λ_ _ o=>o;intro k b;have:=(bh.lt k b).2;exact .inl this
 clear y0 y1 y4 y5;rw[u];refine nw (m:=3) (arg:=FY<|J bt (y e) o) (V:=Az) (n0:=z<|G a) (gf:=127) (lb:=#[aA<|z (G g)+3]) (l:=nz 0<|ie e) (S:=λk=>k=z (G g)+3) ?geval (enters_of func127 (by kernel_rfl) rfl) (λ_=>rfl) (vT (z<|G a) 2 el cc HV (by omega)<|by omega) trivial (by omega) (λk b=>by omega) (λj ao bu=>CH a (z<|G g) (J bt (y e) o) N (y e) j ao bu) (λ_ _ _ _=>False) _ hA0 (λk b o=>by rcases o with⟨_,o⟩|o;omega;have:=(bh.lt k o).2;omega) (λj ao bu E k b=>⟨by have:=(E.lt k b).1;omega,(E.lt k b).2⟩) ?st (λ_ _ _ _ _ _ h=>h.elim) ?body ?done ?stop;case geval=>rfl
 (case st=>intro j ao bu f T E ht c;refine E.stays ht<|λk b=>⟨(c k b).1,?_⟩;rcases(c k b).2 with o|o|o;omega;exact o.elim;omega);(case stop=>intro ev o j ao bu _ h;exact h.elim)
 case body=>
  rintro lr j⟨bd,n⟩ao bu fr cb cB L E _;obtain⟨hn,gb,b⟩:=IW hs L;have fk:0<y n:=gF.2 b.ne;have fn:bd+y n+y gb=y e:=by rw[b.all,hn];simp;omega
  obtain⟨dv,c,fb,hx,fl⟩:=cc.some (by omega);cases hx;have em:∀q∈j.map (·.2),q≠[]:=by
   obtain⟨_,bc,eu⟩:=yt _ _ _ _ _ L;exactλq hq=>CZ e q (by rw[<-eu];simp[hq])
  unfold FY zd;simp only;have K:=hn.symm;have HA:=U E;clear E L b hn;gi_wp2;refine⟨Y.refl _ _,λT bq=>?_⟩;have hA2:=HA.stays bq (λk b=>by subst b;exact⟨cb,by omega⟩);obtain⟨l,B,pv,v,hcut,s,hB⟩:=hA2.ex;rw[K]at v s;have fs:y l<=bd:=by
   have h1:=s [];rw[dJ]at h1;have h2:l=kJ N (y e) 0 0 [] (j.map (·.2)):=by rw[h1];simp[kJ]
   have h3:=Cn (ps:=l) (by rw[h2];exact Kh _ _ _ _ em);have h4:=bU y hcut;rw[K,af]at h4;omega
  have cp:y l.flatten+y B=bd:=by rw[<-K,hcut,af]
  obtain⟨px,pc,bo⟩:=aC v.o;have z0:=v.to.cell;have z1:=v.to.free;have dc:=v.at (bd+y n);have ad:Y ao T (bZ T (R (z (G g)+2) 0)<|ap ((bd+y n:M):Z)):=(Y.refl ao T).setCell _ 0 _<|.inl<|(hB _).2<|.inl ⟨by omega,by omega⟩;have cv:=hA2.l.aw ad (λo=>by have:=(HA.lt _ o).1;omega);have cE:=hA2.n.aw ad (λo=>by have:=(HA.lt _ o).1;omega);obtain⟨q,hq⟩:∃q,(y l+1)*y e/N=q:=⟨_,rfl⟩;obtain⟨dx,hp⟩:∃dx,(y l+1)*y e=dx:=⟨_,rfl⟩;have fu:dx<=1000001*1000000:=by rw[<-hp];exact Nat.mul_le_mul (by omega) hl
  have a1:((y l:Z)+1)*(y e:Z)=(dx:Z):=by rw[<-hp];exact(Int.natCast_mul _ _).symm
  have a2:Int.tdiv (dx:Z) (N:Z)=(q:Z):=by rw[<-hq,hp];exact(Int.ofNat_tdiv _ _).symm
  have fe:=ee (by omega);have bp:=MU (gg:=n) s;rw[hq]at bp;have b1:((N:Z)==0)=bF:=by simp;omega
  have b2:IntKind.i64.wrap (dx:Z)=(dx:Z):=by rw[bQ];omega
  have fv:q<=dx:=by rw[<-hq,hp];exact Nat.div_le_self _ _
  have b3:IntKind.i64.wrap (q:Z)=(q:Z):=by rw[bQ];omega
  have ei:¬((N:Z)=0):=by omega
  have ej:¬(N=0):=by omega
  obtain⟨bk,HB,bi,Q,bT,au⟩:=kG dc hB ad bq bp hcut;obtain⟨bg,ef,bv,bx,bf⟩:=jP cp K cv cE hA2;clear dc hB ad bq bp hcut K cv cE s v hq hp hA2 cp;subst bo;gi_wp2_with fail
  rw[show z (G g)+1+1=z (G g)+2 from rfl,show z (G g)+2+1=z (G g)+3 from rfl,show((bd:Z)+(y n:Z))=((bd+y n:M):Z)by push_cast;rfl];generalize ek:bZ T (R (z (G g)+2) 0) (ap ((bd+y n:M):Z))=W3 at*;clear ek;have s0:=bk.to.cell;have s1:=bk.p.cell;have s2:=bv.cell;have s3:=bx.cell;obtain⟨bc,O⟩:∃bc,bd+y n=bc:=⟨_,rfl⟩;rw[O]at s0|-;rename_i QQ KK cj;refine AP (by kernel_rfl) (by kernel_rfl) (by kernel_rfl) (λfL a h=>h) ?_;repeat(quiet_step (fail))
  refine wpQuiet_nil ?_;rintro _⟨nq,rfl⟩;show KK _ _;apply cj;clear cj;have b4:IntKind.i64.wrap ((y l:Z)+1)=(y l:Z)+1:=by rw[bQ];omega
  rw[b4,a1,b2,a2,b3];obtain⟨r,bl⟩:∃r,W3.drewN nq=r:=⟨_,rfl⟩;have p:Y aB W3 r:=by rw[<-bl];exact ia _ W3 nq
  rw[bl];have br:=bk.aw p<|λ_ _=>id;have fz:Y (λk=>ao k\/k=lr) bu r:=((Q.mono<|λk b=>.inl<|.inr b).trans bi<|λk b=>.inl<|.inl b).ci p;have ac:=bv.aw p id;have eo:=bx.aw p id;have db:Y aB a r:=(bf.aw.trans bi<|λk b=>.inr (by have:=(bf.lt k b).1;omega)).ci p;have bb:Y ao T r:=bi.ci p;have cx:lr<z (G T):=ag cB Q.size;have ff:z (G bu)<=z (G T):=Q.size;have w:=U (show∀(F:I)(pf:aa)(f:dW)(al:cA),CT F (z (G a)+2) (z<|G g) (bD dv c (y e) o) pf f (bd+y n)->ig j++n=f.flatten++al->(∀P,kJ N (y e) 0 0 [] (j.map (·.2)++[n]++P)=f++kJ N (y e) (y f) (bd+y n) al P)->Y ao r F->(∀k,JE (z<|G g) pf k->ao k\/z (G r)<=k)->Bf Az (λj ao bu=>CH a (z<|G g) (bD dv c (y e) o) N (y e) j ao bu) (λ_ _ _ _=>False) (j++[(bd,n)]) ao bu T lr .normal ⟨#[],[]⟩ F fromλF pf f al h1 h2 h3 h4 h5=>by
   have e1:ig (j++[(bd,n)])=ig j++n:=th _ _ _;have e2:y (ig<|j++[(bd,n)])=bd+y n:=by rw[e1,af,ae ef]
   have C:∀k,ao k->z (G a)+2<=k:=λk b=>(bf.lt k b).1;have t:Y ao T F:=bb.trans h4 (λk b=>.inl b);refine⟨trivial,JE (z (G g)) pf,⟨⟨f,al,pf,by rw[e2];exact h1,by rw[e1];exact h2,by rw[e2,aM];exact h3,λk=>qT⟩,ac.aw h4 (λo=>by have:=C _ o;omega),eo.aw h4 (λo=>by have:=C _ o;omega),db.trans h4 (λk b=>.inr (by have:=C k b;omega))⟩,(Q.mono (λk b=>.inl (.inr b))).trans t (λk b=>.inl (.inl b)),t.block lr cx cb,λk b=>(h5 k b).imp_right (λo=>by have:=bb.size;omega)⟩)
  clear bl s0 s1 s2 s3 a1 a2 b1 b2 b3 b4 ei ej z0 z1;have cs:y l.flatten<=bc/\y l.flatten<bc:=by have:=ae bg;omega
  by_cases cM:q<=bc
  .have eq:(q:Z)<=(bc:Z):=by omega
   have F:∀f:I,Y aB r f->CT f (z (G a)+2) (z<|G g) (bD dv c (y e) o) (J px (y l) pc) l bc:=λf ht=>O▸br.aw ht (λ_ _=>id);have eb:=U F;have ed:=U ac;obtain⟨an,hf⟩:∃an,y l.flatten=an:=⟨_,rfl⟩;have ca:=U (show∀f:I,Y aB r f->aT f (R (z<|G g) 0)=H (J px (y l) pc)/\aT f (R (z<|G a) 0)=H (bD dv c (y e) o)/\aT f (R (z (G g)+1) 0)=H (ap (an:Z))/\aT f (R (z (G g)+2) 0)=H (ap (bc:Z))fromλf ht=>⟨(F f ht).p.cell,(ac.aw ht id).cell,hf▸(F f ht).f.cell,(F f ht).to.cell⟩);rw[hf]at cs;have Hf:=U hf;have cl:=ca r.drew<|cf _ r;have b4:(an:Z)<=(bc:Z):=by omega
   have b5:(bc:Z)<=(o:Z):=by omega
   have b6:¬(o-an=0):=by omega
   have b7:(0:Z)<=(an:Z):=by omega
   have ey:¬(o=an):=by omega
   clear F ac hf;gi_wp2_with fail
   rename_i ex eg av;refine tL (λf=>aT f (R (z<|G g) 0)=H (J px (y l) pc)/\aT f (R (z<|G a) 0)=H (bD dv c (y e) o)/\aT f (R (z (G g)+1) 0)=H (ap (an:Z))/\aT f (R (z (G g)+2) 0)=H (ap (bc:Z))) 7 (by kernel_rfl) (by kernel_rfl) (λfL a h=>h) ?_;refine dA 0 ?_;iterate 5 (refine fw (v:=?_) cl rfl (by kernel_rfl) jU rfl ?_ ?_;rotate_left;(focus(rintro f⟨z0,z1,z2,z3⟩;go_simp;try rfl));simp only[Act.put,du,Nat.reduceAdd])
   apply eX;refine aP (i:=5) rfl rfl (by kernel_rfl) ?_;intro K5 cd;go_simp;have C:Y aB r (ct r<|ar #[bD dv (c+an*4) (bc-an)<|o-an] 102).drew:=((Y.refl _ r).alloc _).of_heap rfl;have t:=eb _ C;have ds:=t.size;refine cd _ _ (λ_=>ca _ C) ?_;try simp only[Act.put,du]
   refine aP (i:=6) rfl rfl (by kernel_rfl) ?_;intro K6 ce;simp only[dj,cD,cO];refine kF (.tmp 32) (.tmp 37) 319 rfl (z (G a)+2) 102 i0 aK 1 24 underlying319 cu dk dm dn rfl (by decide) (J px (y l) pc) (y l) (nX (bD dv c (y e) o) 0 l) rfl t.o (R (z<|G r) 0) 1 1 [bD dv (c+an*4) (bc-an)<|o-an] rfl rfl (pH _ _ _) (by simp[Value.oneCell']) (by omega) (by omega) (by simp at ds|-;omega) ?_;intro v6 w6 bn bs;obtain⟨x6,c6,et⟩:=aC bn;subst et;obtain⟨⟨y0,y1⟩,⟨y4,y5⟩,y6,co,cn,cm⟩:=t.more (p:=B++n) bs (by rw[af];have:=ae bg;omega) (by
    have eu:zd (bD dv c (y e) o) (y l.flatten) (y<|B++n)=bD dv (c+an*4) (bc-an) (o-an):=by
     unfold zd;simp only;rw[ae Hf,show y (B++n)=bc-an by rw[af];have:=ae bg;have:=ae Hf;omega]
    rw[eu];exact bn)
   have al:=Y.fy bs;have bm:∀bt,z (G g)<=bt->bt<z (G g)+3->¬(bV (J px (y l) pc)=H bt):=λbt h1 h2 q=>by have:=t.XL bt q;omega
   refine ce _ _ (λ_=>⟨y0,((ed.aw C id).aw al (λq=>by have:=(aI t.o _ q).1;omega)).cell,Hf▸(t.f.aw al<|bm _ (by omega)<|by omega).cell,(t.to.aw al<|bm _ (by omega)<|by omega).cell⟩) ?_;try simp only[Act.put,du]
   have ax:=w _ _ _ [] (O▸co) (by rw[ae au];simp) (bT.1 (by rw[O];exact cM)) (((Y.refl aB r).ci C|>.mono cG).trans cn<|λk b=>.inl<|(HB k).2 b)<|λk b=>(cm k b).imp (λo=>(HB k).2 o) (λo=>by have:=C.size;omega);have D:=U ax;rw[ae Hf]at y4;clear ax co cn cm t bn bs al bm C ds w;refine aP (i:=7) rfl rfl (by kernel_rfl) ?_;intro K7 ch;go_simp;refine ch _ _ (λq=>(q rfl).elim) ?_;refine dp (by kernel_rfl) ?_ _;show eg _ _;refine av _ _ ?_;clear av cd ce ch cl;gi_wp2;exact D
  .have eq:¬((q:Z)<=(bc:Z)):=by omega
   have D:=U<|w r _ l (B++n) br (by rw[ae au,aU]) (bT.2 (by rw[O];exact cM)) (Y.refl _ _)<|λk b=>.inl<|(HB k).2 b;clear w br;gi_wp2;exact D
 (case done=>intro ev ao bu F E p _ t;obtain⟨l,B,pv,v,hcut,s,hB⟩:=E.ex;rw[Aw]at hcut v s;(have c:kJ N (y e) 0 0 [] (ie e)=l:=by have:=s [];rw[Br,dJ]at this;rw[this];simp[kJ]);have n:=U c;obtain⟨px,pc,bo⟩:=aC v.o;have L:=v.p.cell;have r:bV pv≠H ev:=λq=>p<|(hB ev).2<|.inr q;obtain⟨C,w,D⟩:=dC v.o t E.aw;have K:=ak t;clear E v hcut s hB t c;subst bo;gi_wp2;have f:=gD bu ev<|.deferred none;refine⟨by simp,.inl ⟨_,_,rfl,run_takeDeferred w,?_⟩⟩;refine⟨_,gK rfl _ _ _,?_⟩;exact⟨_,rfl,by rw[ae n];exact eQ (f.own C<|λk b q=>r (by rw[<-q];exact b)) (by omega),D.trans f<|λk b=>.inr (by subst b;omega)⟩)
end
def kZ.take{ts:cP}(h:kZ a (bD b c (y ts) g) ts)(i:M)(r:i<=y ts):kZ a (bD b c i g) (ts.take i):=by
 have m:y (ts.take i)=i:=by simp;omega
 have k:=h.shape;refine⟨⟨by simp,.inr ⟨b,c,g,by rw[m],?_,λu v d=>?_⟩⟩,λs l=>h.lt s l,λt p=>h.each t<|eB p,by have:=h.small;omega⟩;rcases k with⟨j,_⟩|⟨q,f,e,j,o⟩;cases j;cases j;omega;rw[List.map_take,mz]at d;split at d;rename_i e;rw[dz,aG<|by omega]at d;cases d;exact h.cell (by omega);cases d
def kZ.drop(j:kZ a (bD b c (y i) g) i)(f:M)(s:f<=y i):kZ a (bD b (c+f) (y i-f)<|g-f) (i.drop f):=by
 have n:y (i.drop f)=y i-f:=by simp
 have l:=j.shape;refine⟨⟨by simp,.inr ⟨b,c+f,g-f,by rw[n],?_,λq v e=>?_⟩⟩,λt m=>j.lt t (by simpa[bV]using m),λu p=>j.each u<|di p,by have:=j.small;omega⟩;rcases l with⟨h,_⟩|⟨r,k,d,h,o⟩;cases h;cases h;omega;rw[List.map_drop,oH]at e;(have d:f+q<y i:=by rcases dF (f+q) (y i)with h|h;exact h;rw[dl<|by simpa using h]at e;cases e);rw[dz,aG d]at e;cases e;rw[aV];exact j.cell d
def kZ.empty(j:kZ a (bD b c l g) i)(d:M):kZ a (bD b d 0 0) []:=⟨⟨rfl,.inr ⟨b,d,0,rfl,ah _,(by intro m u e;simp at e)⟩⟩,(λk f=>j.lt k<|by simpa[bV]using f),(by intro t h;cases h),bA _⟩
structure Fq(ts:cP)(lo hi:ab)(i j:M):Prop where
 WY:qn ts lo i
 le:i<=j
 mJ:j<=y ts
 within:∀k(hk:k<y ts),i<=k->k<j->ic hi (iW ts[k].ks)=bF
 behind:∀(hj:j<y ts),ic hi (iW ts[j].ks)=bW
def Lx(K r:ab)(h:kZ a d i)(W:AK i):cy bG 174 #[d,ai K,ai r] a λQ L=>∃j F X v2 v3,Q=aO (dB #[X,v2,v3])/\Fq i K r j F/\kZ L X (i.take j)/\kZ L v2 ((i.drop j).take<|F-j)/\kZ L v3 (i.drop F)/\(∀k,bV X=H k\/bV v2=H k\/bV v3=H k->bV d=H k)/\Below (z<|G a) a L:=by
 have ao:=h.small;have C:=zt K h W;rcases h.shape with⟨rfl,rfl⟩|⟨ac,g,c,rfl,ad⟩;(.clear h W;(go_in);(go_wp2_with fail);apply C.mono;rintro Q w1⟨k,rfl,e,m⟩;obtain rfl:k=0:=Nat.le_zero.1 e.le;have P:=U e;have N:=U m;clear e m;go_wp2;(go_loopw [10] (λF wr=>F=ap 0/\wr=w1) (λ_ _=>0));(case atStart=>exact⟨rfl,rfl⟩);(case round=>obtain⟨rfl,l⟩:=hrel;subst wr;(go_wp2_with fail);(go_quiet(fail));go_wp2;(go_ret3);have b:kZ (w1.drewN nq) aK []:=⟨⟨rfl,.inl ⟨rfl,rfl⟩⟩,(by intro k e;cases e),(by intro t f;cases f),bA _⟩;exact⟨0,0,_,_,_,rfl,⟨P,ah _,ah _,λk e=>absurd e<|gG k,λE=>absurd E<|kT 0⟩,b,b,b,(by intro k e;simp[bV]at e),below_drewN N _⟩))
 .have HL:=U h;clear h W;have an:=VY;go_in
  go_wp2_with fail
  apply C.mono;rintro Q w1⟨j,rfl,e,m⟩;have v:=e.le;have P:=U e;have N:=U m;clear e m;go_wp2;go_loopw [10] (λF wr=>∃n:M,j<=n/\n<=y i/\F=ap n/\(∀k(e:k<y i),j<=k->k<n->ic r (iW i[k].ks)=bF)/\Below (z<|G a) a wr) (λF _=>y i-(intOf F).toNat)
  case atStart=>exact⟨j,ah _,v,rfl,λk _ ad ac=>absurd ad (by omega),N⟩
  case round=>
   obtain⟨n,V,B,rfl,hw,S⟩:=hrel;have f:=HL.below S;obtain⟨al,HW,l⟩:=dC f hw S;clear hw S;have e1:(j:Z)<=(n:Z):=by omega
   have e2:(n:Z)<=(y i:Z):=by omega
   have e3:(j:Z)<=(y i:Z):=by omega
   have e4:(n:Z)<=(c:Z):=by omega
   have e5:(j:Z)<=(c:Z):=by omega
   have e6:(y i:Z)<=(c:Z):=by omega
   have q:=U (show(∀(E:n<y i),ic r (iW i[n].ks)=bW)->Fq i K r j n/\kZ wr (bD ac g j c) (i.take j)/\kZ wr (bD ac (g+j) (n-j)<|c-j) ((i.drop j).take<|n-j)/\kZ wr (bD ac (g+n) (y i-n)<|c-n) (i.drop n)from by
    intro o;refine⟨⟨P,V,B,HW,o⟩,f.take j v,?_,f.drop n B⟩;have u:=f.drop j v;have D:=kZ.take (ts:=i.drop j) (by rw[ix];exact u) (n-j) (by rw[ix];omega);exact D)
   by_cases p:n<y i
   .have hp:=f.cell p;have u:=(f.each _<|aq p).first;have e7:(n:Z)<(y i:Z):=by omega
    have e8:(0:Z)<=(n:Z):=by omega
    have o:=IQ (iW i[n].ks) r;clear f;unfold bJ.ptr at hp u;cases hkl:ic r (iW i[n].ks)with
    |false=>
     rw[hkl]at o;simp only[nk]at o;have HN:=U (show∀k(e:k<y i),k=n->ic r (iW i[k].ks)=bF fromλk e Q=>by subst Q;exact hkl);clear hkl;generalize iW i[n].ks=fk at*;generalize i[n].tb=D at*;go_wp2_with fail
     apply u.mono;rintro Q T⟨rfl,O⟩;subst T;go_wp2;go_roundw;case rel=>exact⟨n+1,by omega,p,by go_num,λk e ad ac=>by rcases dF k n with au|au;exact HW k e ad au;exact HN k e (by omega),l⟩
     case measure=>simp[intOf];omega
    |true=>
     rw[hkl]at o;simp only[uf]at o;have x:=U<|q<|λ_=>hkl;clear hkl;generalize iW i[n].ks=fk at*;generalize i[n].tb=D at*;go_wp2_with fail
     apply u.mono;rintro Q T⟨rfl,O⟩;subst T;go_wp2_with fail
     go_quiet(fail)
     go_wp2;go_ret3
     obtain⟨s,t,w,A⟩:=ae x;have b:Below (z<|G wr) wr (wr.drewN nq):=below_drewN (Below.refl _ _) _;exact⟨j,n,_,_,_,rfl,s,t.below b,w.below b,A.below b,(by intro k e;simpa[bV]using e),below_drewN l _⟩
   .have u:n=y i:=by omega
    have x:=U<|q<|λE=>absurd E p;have e7:¬(n:Z)<(y i:Z):=by omega
    have hE:=f.empty g;have O:=U hE;clear f hE;have D:=U (show i.drop n=[]by rw[u,gm]);rcases dF n c with hc|hc
    .have o:¬(c-n=0):=by omega
     have d2:¬(c-j=0):=by omega
     clear u;go_wp2_with fail
     go_quiet(fail)
     go_wp2;go_ret3
     obtain⟨s,t,w,A⟩:=ae x;have b:Below (z<|G wr) wr (wr.drewN nq):=below_drewN (Below.refl _ _) _;exact⟨j,n,_,_,_,rfl,s,t.below b,w.below b,A.below b,(by intro k e;simpa[bV]using e),below_drewN l _⟩
    .have o:c=n:=by omega
     subst o;clear u;rcases dF j c with T|T
     .have d2:¬(c-j=0):=by omega
      go_wp2_with fail
      go_quiet(fail)
      go_wp2;go_ret3
      obtain⟨s,t,w,A⟩:=ae x;have b:Below (z<|G wr) wr (wr.drewN nq):=below_drewN (Below.refl _ _) _;refine⟨j,c,_,_,_,rfl,s,t.below b,w.below b,?_,(by intro k e;simpa[bV]using e),below_drewN l _⟩;rw[ae D];exact O.below b
     .have o:j=c:=by omega
      subst o;go_wp2_with fail
      go_quiet(fail)
      go_wp2;go_ret3
      obtain⟨s,t,w,A⟩:=ae x;have b:Below (z<|G wr) wr (wr.drewN nq):=below_drewN (Below.refl _ _) _;refine⟨j,j,_,_,_,rfl,s,t.below b,?_,?_,(by intro k e;simpa[bV]using e),below_drewN l _⟩
      .rw[ae D,zH];exact O.below b
      .rw[ae D];exact O.below b
def kZ.of_heap{w w':I}(j:kZ w d i)(k:w'.heap=w.heap):kZ w' d i:=by
 refine⟨?_,λq n=>by rw[k];exact j.lt q n,λt o=>(j.each t o).of_heap k,j.small⟩;obtain⟨h,g|⟨p,b,e,g,l,m⟩⟩:=j.row;exact⟨h,.inl g⟩;exact⟨h,.inr ⟨p,b,e,g,l,λn u j=>(cH (w:=w)<|by rw[k]).trans<|m n u j⟩⟩
def Vq(a:cP):Prop:=∀i(h:i+1<y a),ic (iT a[i].ks) (iW a[i+1].ks)=bW
def ly.apart(h:ly i):Vq i:=by
 intro g a;obtain⟨x,d,b⟩:=(h.pure _<|aq<|show g<y i by omega).xC;obtain⟨f,e,c⟩:=(h.pure _<|aq a).He;rw[<-b,<-c];exact h.pair (show g<y i by omega) a (by omega) d e
def Sx(h:kZ a d i)(o:Vq i):cy bG 151 #[d] a λv g=>v=aO (aL bW)/\Below (z<|G a) a g:=by
 have F:=h.small;rcases h.shape with⟨rfl,rfl⟩|⟨W,t,C,rfl,_⟩;(.clear h o;(go_in);go_wp2;(go_loopw [6] (λx wr=>x=ap 0/\wr=a) (λ_ _=>0));(case atStart=>exact⟨rfl,rfl⟩);(case round=>obtain⟨rfl,rfl⟩:=hrel;go_wp2;go_ret;exact⟨rfl,Below.refl _ _⟩))
 .have B:=U h;have A:=U o;have D:=Jg;clear h o;go_in
  go_wp2;go_loopw [6] (λx wr=>∃n:M,n<=y i/\x=ap n/\Below (z<|G a) a wr) (λx _=>y i-(intOf x).toNat)
  case atStart=>exact⟨0,bA _,rfl,Below.refl _ _⟩
  case round=>
   obtain⟨n,E,rfl,p⟩:=hrel;have b:=B.below p;have k:=U p;clear p;by_cases j:n<y i
   .rcases fT n with l|l
    .subst l;clear b;go_wp2_with fail
     go_quiet(fail)
     go_wp2;go_roundw;case rel=>exact⟨1,by omega,by go_num,below_drewN k _⟩
     case measure=>simp[intOf];omega
    .obtain⟨m,rfl⟩:∃m,n=m+1:=⟨n-1,by omega⟩;have s:=b.cell (show m<y i by omega);have f:=b.cell j;have e:∀W,W.heap=wr.heap->cy bG 176 #[i[m].ptr] W λv g=>v=aO (ai<|iT i[m].ks)/\∃q,g=W.drewN q:=λW a=>((b.each _<|aq<|show m<y i by omega).of_heap a).last;have c:∀W,W.heap=wr.heap->cy bG 175 #[i[m+1].ptr] W λv g=>v=aO (ai<|iW i[m+1].ks)/\g=W:=λW a=>((b.each _<|aq j).of_heap a).first;have r:=A m j;unfold ic at r;clear b;unfold bJ.ptr at s f e c;generalize iT i[m].ks=T at*;generalize iW i[m+1].ks=V at*;generalize i[m].tb=X at*;generalize i[m+1].tb=t2 at*;obtain⟨u,w⟩:∃u,m+1=u:=⟨_,rfl⟩;rw[w]at f j l E|-;have K:(u:Z)-1=(m:Z):=by omega
     have L:(m:Z)<(y i:Z):=by omega
     have N:(u:Z)<(y i:Z):=by omega
     have O:IntKind.i64.wrap (m:Z)=(m:Z):=by rw[bQ];omega
     have P:(0:Z)<(u:Z):=by omega
     have Q:(0:Z)<=(m:Z):=by omega
     have S:m<y i:=by omega
     clear w;go_wp2_with fail
     go_quiet(first
      |(go_at_call 176;refine Calls.quiet_of (e _ rfl))
      |(go_at_call 175;refine Calls.quiet_of_same (c _ rfl)))
     go_wp2;go_roundw;case rel=>exact⟨u+1,by omega,by go_num,below_drewN k _⟩
     case measure=>simp[intOf];omega
   .have c:n=y i:=by omega
    subst c;clear b;go_wp2;go_ret;exact⟨rfl,k⟩
def JD(w:I)(d:M)(t:bJ):Prop:=∃c b a,lR w t.tb (aA d) t.num (y<|dG t.cs) (y<|fa t.ks) (mr<|fa t.ks) c b a aK t.ks
def JD.SS(h:JD a b S):PN a S:=by
 obtain⟨e,d,c,f⟩:=h;exact⟨_,_,_,_,_,e,d,c,_,f⟩
def JD.below(i:JD a b S)(g:Below (z<|G a) a f):JD f b S:=by
 obtain⟨h,d,c,e⟩:=i;exact⟨h,d,c,e.de (g.block _ e.lt.1)<|g.block _ e.lt.2⟩
def bJ.ur(t:bJ):iU:=[aH t.num,dq<|y<|dG t.cs,dq<|y<|fa t.ks,dq<|mr<|fa t.ks]
def dh(a:cP):iU:=a.flatMap bJ.ur
def Eu(a:cP)(t:bJ):dh (a++[t])=dh a++t.ur:=by simp[dh]
def LG:(prog.info? 266).map (λi=>(i.zero,i.size,i.bytes))=H (H<|eC #[aH 0,dq 0,dq 0,dq 0],4,24):=by kernel_rfl
def CB(x c d u:aa)(t:TypeId)(f:b=z (G a)):∀j q,[x,c,d,u][j]?=H q->aT (ct a<|ar #[x,c,d,u] t) (((R b 0):Addr).add j)=H q:=by
 intro j q e;subst f;rw[dt];unfold World.cell?;rw[ft];simpa using e
def NS(w:I)(db:M)(au:aa)(b:cP)(h:kZ w au b)(F:∀ax∈b,JD w db ax)(hl:y b<=100000000):cy bG 141 #[au] w λao V=>∃T,ao=aO T/\V.ownsRow (z<|G w) 266 4 T (y b) (dh b)/\Below (z<|G w) w V:=by
 obtain⟨K,k,l,m,o⟩:=cz LG;rcases h.shape with⟨rfl,rfl⟩|⟨ba,L,ac,rfl,_⟩
 .clear h F;go_in
  go_wp2_with(first
   |(at_make;go_loud(refine lG _ rfl _ _ 184 rfl (z (G w)) 266 K (.agg #[.int .u64 0,.int .u32 0,.int .u32 0,.int .u32 0]) 4 underlying184 k l m _ _ _ 0 rfl rfl (by omega) (by rw[o];omega) (by unfold maxLen;omega) (ah _) ?_;intro W d c;have j:=U d;have i:=U c;clear d c)))
  go_loopw [3,11] (λan P wr=>P=ap 0/\wr.ownsRow (z<|G w) 266 4 an 0 []/\wr=W) (λ_ _ _=>0)
  case atStart=>exact⟨rfl,j,rfl⟩
  case round=>
   obtain⟨rfl,s,a⟩:=hrel;subst wr;obtain⟨av,X,rfl⟩:=aC s;have p:=U s;clear s;go_wp2;go_ret;exact⟨_,rfl,p,(Y.dN (S:=aB) i<|by simp).below (ah _) cG⟩
 .have HL:=U h;have HW:=U F;clear h F;go_in
  go_wp2_with(first
   |(at_make;go_loud(refine lG _ rfl _ _ 184 rfl (z (G w)) 266 K (.agg #[.int .u64 0,.int .u32 0,.int .u32 0,.int .u32 0]) 4 underlying184 k l m _ _ _ (y b) rfl rfl (by omega) (by rw[o];omega) (by unfold maxLen;omega) (ah _) ?_;intro W d c;have j:=U d;have i:=U c;clear d c)))
  go_loopw [3,11] (λan P wr=>∃n:M,n<=y b/\P=ap n/\wr.ownsRow (z<|G w) 266 4 an n (dh<|b.take n)/\Y aB w wr) (λ_ P _=>y b-(intOf P).toNat)
  case atStart=>exact⟨0,bA _,rfl,j,Y.dN (S:=aB) i<|by simp⟩
  case round=>
   obtain⟨n,hn,rfl,a,e⟩:=hrel;have q:=e.below (ah _) cG;have al:=e.size;obtain⟨av,X,s⟩:=aC a;by_cases g:n<y b
   .have hp:=(HL.below q).cell g;obtain⟨bb,N,v,O⟩:=(HW _<|aq g).below q;have r:=TR O;obtain⟨C,p,HT⟩:=dC (show dh (b.take<|n+1)=dh (b.take n)++[aH b[n].num,dq<|y<|dG b[n].cs,dq<|y<|fa b[n].ks,dq<|mr<|fa b[n].ks]by rw[aj g,Eu];rfl) a e;have E:=a.lt;clear O a e q;unfold bJ.ptr at hp;unfold Ev at r;generalize b[n].num=x0 at*;generalize y (dG b[n].cs)=x1 at*;generalize y (fa b[n].ks)=x2 at*;generalize mr (fa b[n].ks)=x3 at*;generalize b[n].tb=Q at*;subst s;go_wp2_with fail
    apply r.mono;rintro ao w1⟨rfl,f⟩;have A:=U<|(Y.aW (S:=aB) f).own p<|λ_ _ X=>X;have ad:=f.size;have x:=U f;clear f;go_wp2_with(first
     |(at_builtin;go_loud(refine bS _ rfl (.tmp 15) (.tmp 18) 184 rfl (z (G w)) 266 K (.agg #[.int .u64 0,.int .u32 0,.int .u32 0,.int .u32 0]) 4 24 underlying184 k l m o rfl (by decide) (.slice av n X) n (dh (b.take n)) rfl (aS A _) (R (z (G w1)) 0) 1 1 [.int .u64 x0,.int .u32 x1,.int .u32 x2,.int .u32 x3] rfl rfl (CB _ _ _ _ _ rfl) (by simp[Value.oneCell']) (by omega) (by omega) (by simp;omega) ?_;intro o2 w2 t u;have B:=U t;have D:=U u;clear t u)))
    go_roundw;case rel=>
     refine⟨n+1,g,by go_num,by rw[ae C];exact B,?_⟩;exact((HT.ci<|Y.aW (S:=aB) x).alloc _).trans (Y.fy D)<|λk a=>.inr (E k a).1
    case measure=>simp[intOf];omega
   .have f:n=y b:=by omega
    subst f;rw[bP]at a;have p:=U a;have r:=U q;clear a q e;go_wp2;go_ret;exact⟨_,rfl,p,r⟩
def Lf(v:aa)(w:I):(Go.method 545 105 v "From").run bG w=.ok (320,v) w:=by kernel_rfl
def Le(v:aa)(w:I):(Go.method 545 224 v "From").run bG w=.ok (324,v) w:=by kernel_rfl
def ml.xB(h:sh r b d i a)(c:b<=z (G a))(hF:∀k,r.F k->k<b):ml r b (.iface 105 d) (cg i) a:=⟨_,d,_,d,rfl,Lf d,enters_of func320 (by kernel_rfl) rfl,λg j e f=>Rt g (h.same e) f (aE c e.1) hF⟩
def ml.table(h:nE r b S.tb S.ks S.cs a)(c:b<=z (G a))(hF:∀k,r.F k->k<b):ml r b (.iface 224 S.ptr) S.all a:=⟨_,S.ptr,_,S.ptr,rfl,Le S.ptr,enters_of func324 (by kernel_rfl) rfl,λf g d e=>BX f (h.same d) e (aE c d.1) hF⟩
def Jb:(prog.info? 205).map (λi=>(i.zero,i.size,i.bytes))=H (H .nilIface,1,16):=by kernel_rfl
structure SC(w:I)(base:M)(t:bJ)(bb wL x FU:M):Prop where
 ks:t.ks=bO 0 t.cs
 num:t.num=0
 pieces:qo t.all t.cs
 mem:lR w t.tb (fp none) 0 0 0 0 bb 0 wL (bD x 0 (y<|dG t.cs) FU) t.ks
 data:eH w base (bD x 0 (y<|dG t.cs) FU) (dG t.cs)
 FW:w.ownsRow base 347 5 (bD bb 0 (y t.ks) wL) (y t.ks) (ep t.ks)
 new:base<=t.tb
def WG(w:I)(a:M)(t:bJ):Prop:=∃d b x c,SC w a t d b x c
def SC.aw{S:fJ}{w w':I}{t:bJ}(h:SC w b t c g l B)(a:Y S w w')(j:¬S t.tb)(e:¬S c)(k:¬S l):SC w' b t c g l B:=⟨h.ks,h.num,h.pieces,h.mem.de (a.block _ h.mem.lt.1 j)<|a.block _ h.mem.lt.2 e,a.own h.data (λm d=>by cases d;exact k),a.own h.FW (λm d=>by cases d;exact e),h.new⟩
def SC.other(o:SC a b S c g l B)(q:Y X a f)(m:∀p,X p->∃h T j,a.heap[p]?=H (ar h T j)/\T≠293/\T≠347/\T≠5):SC f b S c g l B:=by
 refine o.aw q (λn=>?_) (λn=>?_)<|λn=>?_;obtain⟨h,T,j,d,e,_⟩:=m _ n;exact io d o.mem.box e rfl;obtain⟨h,T,j,d,_,e,_⟩:=m _ n;obtain⟨c2,k⟩:=fD o.FW (k:=c) rfl;exact io d k e rfl;obtain⟨h,T,j,d,_,_,e⟩:=m _ n;obtain⟨c2,k⟩:=fD o.data (k:=l) rfl;exact io d k e rfl
structure NT where
 t:bJ
 bb:M
 wL:M
 x:M
 FU:M
def NT.Ok(w:I)(a:M)(p:NT):Prop:=SC w a p.t p.bb p.wL p.x p.FU
def NT.has(p:NT)(k:M):Prop:=k=p.t.tb\/k=p.bb\/k=p.x
def NT.mP(p q:NT):Prop:=∀k,p.has k->¬q.has k
def NT.Ok.lt{p:NT}(h:p.Ok a b):∀k,p.has k->b<=k/\k<z (G a):=by
 rintro k(rfl|rfl|rfl);exact⟨h.new,h.mem.lt.1⟩;exact⟨(h.FW.lt _ rfl).1,h.mem.lt.2⟩;exact eH.lt h.data _ rfl
def NT.Ok.aw{S:fJ}{w w':I}{p:NT}(h:p.Ok w b)(c:Y S w w')(a:∀k,p.has k->¬S k):p.Ok w' b:=SC.aw h c (a _<|.inl rfl) (a _<|.inr<|.inl rfl)<|a _<|.inr<|.inr rfl
def NT.Ok.base{b base':M}{p:NT}(h:p.Ok a b)(c:base'<=b):p.Ok a base':=⟨h.ks,h.num,h.pieces,h.mem,h.data.base c,eQ h.FW c,aE c h.new⟩
def NT.Ok.YB{p:NT}(h:p.Ok a b):WG a b p.t:=⟨_,_,_,_,h⟩
def uy(w:I)(a:M)(c:cP):Prop:=∃b:cr NT,b.map NT.t=c/\(∀p∈b,p.Ok w a)/\b.Pairwise NT.mP
def uy.nil(w:I)(a:M):uy w a []:=⟨[],rfl,by simp,List.Pairwise.nil⟩
def uy.each(h:uy a b i):∀t∈i,WG a b t:=by
 obtain⟨f,rfl,c,_⟩:=h;intro t e;obtain⟨p,d,rfl⟩:=aZ.1 e;exact(c p d).YB
def uy.aw{w w':I}(e:uy w b p)(g:Y aB w w'):uy w' b p:=by
 obtain⟨h,a,c,d⟩:=e;exact⟨h,a,λk e=>(c k e).aw g<|λ_ _ j=>j,d⟩
def uy.other(k:uy a b p)(l:Y X a f)(j:∀n,X n->∃c T d,a.heap[n]?=H (ar c T d)/\T≠293/\T≠347/\T≠5):uy f b p:=by
 obtain⟨m,e,g,h⟩:=k;exact⟨m,e,λo k=>SC.other (g o k) l j,h⟩
def uy.base{b base':M}(g:uy a b i)(f:base'<=b):uy a base' i:=by
 obtain⟨h,c,d,e⟩:=g;exact⟨h,c,λp g=>(d p g).base f,e⟩
def FM{a:cr NT}{q:NT}(h:a.Pairwise NT.mP)(d:∀p∈a,p.mP q):(a++[q]).Pairwise NT.mP:=by
 rw[bR];exact⟨h,by simp,λe c f b=>by rw[bH]at b;subst b;exact d e c⟩
def GH(v:aa):∀(n:M)(a:dW)(i:M)(b:i<y a),(nX v n a)[i]?=H (zd v (n+y (a.take i).flatten)<|y a[i])
 |_,[],_,b=>absurd b<|gG _
 |n,p::a,0,_=>by simp[nX]
 |n,p::a,i+1,b=>by
  rw[nX,oR,GH v (n+y p) a i<|by simpa using b];simp[aV]
def QS(i:kw a d e)(h:k.flatten=e)(g:b<y k)(c:k[b]≠[]):kw a (zd d (0+y (k.take b).flatten)<|y k[b]) k[b]:=by
 rw[cQ];refine AA (s:=(k.drop<|b+1).flatten) i ?_ c;have f:k=k.take b++k[b]::k.drop (b+1):=by rw[<-bE g,bX]
 rw[<-h];refine(bU List.flatten f).trans ?_;rw[dP,aX,aU]
def vU:(prog.info? 224).map (λi=>(i.zero,i.size,i.bytes))=H (H<|fp none,1,8):=by kernel_rfl
def Uw(l:cA):fR ⟨#[]⟩ l=l:=eV.2 (λx _=>by rw[IV];rfl)
def uU(c:aa)(a b:cP):cr (aa×cA):=(.iface 105 c,cg b)::a.map (λt=>(.iface 224 t.ptr,t.all))
def rC(d:eI)(a:Bool)(b c:cP):cA:=gS d a<|cg c::b.map bJ.all
def VK(w:I)(x:aa)(T:TypeId):(ct w<|ar #[x] T).ownsRow (z<|G w) T 1 (bD (z<|G w) 0 1 1) 1 [x]:=⟨rfl,.inr ⟨z<|G w,1,#[x],rfl,ah _,aD _ rfl,ah _,by unfold maxLen;omega,rfl,rfl⟩⟩
structure JL(W wr:I)(base:M)(o:aa)(ps:dW)(n:M)(tm:cP):Prop where
 own:wr.ownsRow base 224 1 o n (tm.map bJ.ptr)
 len:y tm=n
 all:tm.map bJ.all=ps.take n
 each:uy wr base tm
 aw:Y aB W wr
def JL.step{W wr w1 w2:I}{p o2:aa}{f:dW}{a:M}{n:Obj}(u:JL W wr b p k c i)(F:c<y k)(S:b<=z (G W))(x:∀e,bV p=H e->z (G W)<=e)(h:MC wr w1 g k[c] f l B P a)(K:w2.ownsRow b 224 1 o2 (c+1) (i.map bJ.ptr++[aA g]))(s:eP (ct w1 n) w2 p o2):∃t,JL W w2 b o2 k (c+1) t/\∀e,bV o2=H e->z (G W)<=e:=by
 have L:=u.aw.size;have N:=h.aw.size;have A:Y (λe=>bV p=H e) wr w2:=((h.aw.mono (T:=λe=>bV p=H e) cG).alloc n).trans (Y.fy s)<|λ_ d=>.inl d;have m:∀e,bV p=H e->∃f,wr.heap[e]?=H (ar f 224 (0,0)):=λe d=>fD u.own d;have r:Y (λe=>bV p=H e) w1 w2:=((Y.refl (λe=>bV p=H e) w1).alloc n).trans (Y.fy s)<|λ_ d=>.inl d;refine⟨i++[⟨g,bO 0 f,f,0⟩],⟨?_,by rw[af,u.len];rfl,?_,?_,u.aw.trans A<|λe d=>.inr<|x e d⟩,?_⟩;rw[aM];exact K;rw[aM,u.all,aj F];show _++[f.flatten]=_;rw[h.pieces.flat];obtain⟨Q,D,v,E⟩:=u.each;have w:NT.Ok w1 (z<|G wr) ⟨⟨g,bO 0 f,f,0⟩,l,B,P,a⟩:=⟨rfl,rfl,by have:=h.pieces;rw[<-this.flat]at this;exact this,h.mem,h.data,h.FW,h.new⟩;refine⟨Q++[⟨⟨g,bO 0 f,f,0⟩,l,B,P,a⟩],by rw[aM,D];rfl,λO j=>?_,FM E<|λO j e d q=>?_⟩;rcases am.1 j with j|j;exact SC.other (v O j) A (λe d=>by obtain⟨C,o⟩:=m e d;exact⟨C,_,_,o,by decide,by decide,by decide⟩);rw[bH]at j;subst j;refine SC.other (NT.Ok.base w<|by omega) r<|λe d=>?_;obtain⟨C,o⟩:=m e d;exact⟨C,_,_,(h.aw.block e (ak o) id).trans o,by decide,by decide,by decide⟩;have o:=((v O j).lt e d).2;have C:=(w.lt e q).1;omega;intro e d;rcases s.uc with j|⟨q,j,o⟩;exact x e<|j.symm.trans d;rw[j]at d;cases d;simp at o;omega
def yQ(h:kw a d e)(hs:dQ e)(o:rN 5 e)(hg:∀bq∈e,bq.Good)(hl:y e<=1000000)(hv:∀Q,bV d=H Q->Q<z (G a))(hT:Steps a):cy bG 135 #[d] a λbl N=>∃vm,∃l:cP,bl=aO vm/\N.ownsRow (z<|G a) 224 1 vm (y l) (l.map bJ.ptr)/\l.map bJ.all=iz e/\uy N (z<|G a) l/\Y aB a N:=by
 obtain⟨j0,av,bd,bf,bg⟩:=cz vU;have t:=Ql h hs hl hv;obtain⟨bq,bi,bc⟩:=bM h
 have X:=U (show∀n(x:n<y (iz e))(wr:I),Y aB a wr->∃P b j,(nX d 0<|iz e)[n]?=H (bD P b (y (iz e)[n]) j)/\cy bG 118 #[bD P b (y (iz e)[n]) j] wr λbl N=>∃i cs bk c db f,bl=aO (aA i)/\MC wr N i (iz e)[n] cs bk c db f from by
  intro n x wr D;have C:(iz e)[n]∈iz e:=aq x;have k:=Ec e _ C;have A:=QS h (vO e) x k;obtain⟨P,b,j,u,B⟩:=A.some<|gF.2 k;have p:P<z (G a):=by
   obtain⟨F,S,O,g,_⟩:=h.some (by have:=(Bh C).length_le;have:=gF.2 k;omega);subst g;unfold zd at u;cases u;exact hv _ rfl
  rw[u]at A;refine⟨P,b,j,by rw[GH d 0 (iz e) n x,u],?_⟩;obtain⟨_,⟨q,_⟩|⟨b',K,m,q,_,hc⟩⟩:=id A
  .cases q
  .cases q;have g:=Bh C;exact Dv (iz e)[n] P b j wr (λQ hk=>D.cell (hT Q hk) id hT.lt) (ag p D.size) (λi u c=>D.cell (hc i u c) id p) B (gF.2 k) (λa f=>hg a (g.subset f)) (hs.sub g) (λq d=>aE ((o.sub g).keys q d) (by omega)) (by have:=g.length_le;omega))
 have ao:y (iz e)<=1000000:=aE (xu e) hl;clear h hs o hg hl hv hT;generalize iz e=L at*;obtain⟨al,hN⟩:∃al,y L=al:=⟨_,rfl⟩;rw[hN]at t ao;have HN:=U hN;clear hN;subst bc;go_in
 go_wp2_with fail
 apply t.mono;rintro bl W3⟨pv,rfl,r,s⟩;obtain⟨px,pc,rfl⟩:=aC r;have v:=U r;have w:=U s;have E:z (G a)<=z (G W3):=s.size;clear r s t;go_wp2;go_loopw [3,9] (λo i wr=>∃n:M,n<=al/\i=ap n/\∃l,JL W3 wr (z<|G a) o L n l/\∀Q,bV o=H Q->z (G W3)<=Q) (λ_ i _=>al-(intOf i).toNat)
 case atStart=>exact⟨0,bA _,rfl,[],⟨bK _ _ _ _,rfl,rfl,uy.nil _ _,Y.refl _ _⟩,(by intro Q hk;cases hk)⟩
 case round=>
  obtain⟨n,bm,rfl,l,g,j⟩:=hrel;obtain⟨ox,oc,ho⟩:=aC g.own;by_cases k:n<al
  .obtain⟨pg,bp,ba,_,bb,_⟩:=um v (by omega);cases ba;have B:n<y L:=by rw[ae HN];exact k
   obtain⟨P,b,m,D,A⟩:=X n B wr<|w.ci g.aw;have au:aT wr (R pg n)=H (bD P b (y L[n]) m):=by
    refine g.aw.cell ?_ id bb;obtain⟨_,⟨bi,_⟩|⟨b',K,an,bi,_,hc⟩⟩:=dH v
    .cases bi
    .cases bi;simpa using hc n _ D
   have O:=U g;have u:=U j;have bo:=g.aw.size;have e8:(n:Z)<(al:Z):=by omega
   have e9:(0:Z)<=(n:Z):=by omega
   clear g j D;generalize x:L[n]=pn at*;have ac:=U x;have T:=U B;clear x;subst ho;go_wp2_with fail
   apply A.mono;rintro bl w4⟨i,cs,bk,c,db,f,rfl,p⟩;have V:=U<|p.aw.own O.own<|λ_ _ bi=>bi;have bn:=p.aw.size;have S:=U p;clear p;go_wp2_with(first
    |(at_builtin;go_loud(refine bS _ rfl (.tmp 13) (.tmp 16) 105 rfl (z (G a)) 224 j0 (.pointer none) 1 8 underlying105 av bd bf bg rfl (by decide) (.slice ox n oc) n (l.map bJ.ptr) rfl (aS V _) (R (z (G w4)) 0) 1 1 [aA i] rfl rfl (pH _ _ _) (by simp[Value.oneCell']) (by omega) (by omega) (by simp;omega) ?_;intro o2 w5 C F;have W:=U C;have ad:=U F;clear C F)))
   go_roundw;case rel=>
    have p:=ae S;rw[<-ae ac]at p;obtain⟨bh,an,ax⟩:=O.step T E u p W ad;exact⟨n+1,k,by go_num,bh,an,ax⟩
   case measure=>simp[intOf];omega
  .have p:n=al:=by omega
   subst p;have O:=U g;clear g j;subst ho;go_wp2;go_ret;have g:=ae O;refine⟨_,l,rfl,by rw[g.len];exact g.own,?_,g.each,w.ci g.aw⟩;rw[g.all,<-ae HN,bP]
def Es(n x k A:M)(l:aa)(b c:cP)(h1:∀m(N:m<y b),aT a (R x<|k+m)=H b[m].ptr)(ad:x<n/\¬r.F x)(B:∀bh∈b,nE r n bh.tb bh.ks bh.cs a)(bd:y b<=100000000)(h2:sh r n l c a)(hD:r.D a)(j:n<=z (G a))(hF:∀v,r.F v->v<n)(hl:y (df<|cg c::b.map bJ.all)<=1000000):cy bG 177 #[bD x k (y b) A,l] a λbb s=>∃vm,bb=aO (dB #[vm,.nilIface])/\s.ownsRow (z<|G a) 164 4 vm (y<|df<|cg c::b.map bJ.all) (aF<|df<|cg c::b.map bJ.all)/\r.D s/\Y r.F a s:=by
 obtain⟨i0,al,av,ax,ba⟩:=cz Jb;have p:y (uU l b c)=y b+1:=by simp[uU]
 have i:∀wr d,Y aB a wr->wr.ownsRow (z<|G a) 205 1 d (y b+1) ((uU l b c).map (·.1))->cy bG 85 #[d,ai ⟨#[]⟩] wr λbb s=>∃k f,bb=aO k/\ji r n k (df<|cg c::b.map bJ.all) f s/\r.D s/\Y r.F wr s/\(∀v,f v->z (G wr)<=v):=by
  intro wr d P u;have q:jz r n aB a wr:=P.same j cG cG;have hn:=Gy n (uU l b c) d ⟨#[]⟩ (by rw[p];exact dH u) (λv t=>⟨(u.lt v t).2,λac=>by have:=hF v ac;have:=(u.lt v t).1;omega⟩) (by omega) (by
   intro m N;cases m with
   |zero=>exact(ml.xB h2 j hF).same q
   |succ m=>
    have e:m<y b:=by rw[p]at N;omega
    have:(uU l b c)[m+1]=(.iface 224 b[m].ptr,b[m].all):=by simp[uU]
    rw[this];exact(ml.table (B _ (aq e)) j hF).same q) (r.fi hD P cG) (aE j P.size) hF
  have C:(uU l b c).map (·.2)=cg c::b.map bJ.all:=by simp[uU]
  rw[C,nT (g:=id)<|λl _=>Uw l,List.map_id]at hn;exact hn
 obtain⟨NL,E⟩:∃NL,df (cg c::b.map bJ.all)=NL:=⟨_,rfl⟩;rw[E]at i hl|-;clear E;have w:=U i;have HC:=U (show∀wr,Y aB a wr->∀m(N:m<y b),aT wr (R x<|k+m)=H b[m].ptr fromλwr P m N=>P.cell (h1 m N) id<|ag ad.1 j);clear h1 B h2 hD i;go_in
 go_wp2;go_loopw [6,14] (λd m wr=>∃o:M,o<=y b/\m=ap o/\wr.ownsRow (z<|G a) 205 1 d (o+1) (((uU l b c).take<|o+1).map (·.1))/\Y aB a wr) (λ_ m _=>y b-(intOf m).toNat)
 case atStart=>exact⟨0,bA _,rfl,VK _ _ _,(Y.refl _ _).alloc _⟩
 case round=>
  obtain⟨o,hn,rfl,d,e⟩:=hrel;obtain⟨bk,ac,u⟩:=aC d;have bc:=e.size;have au:=d.lt;by_cases O:o<y b
  .have Q:=HC wr e o O;have F:=U (show((uU l b c).take<|o+1+1).map (·.1)=((uU l b c).take<|o+1).map (·.1)++[.iface 224<|aA<|b[o].tb]from by
    rw[aj (by rw[p];omega),aM];simp[uU,bJ.ptr])
   have L:=U d;have S:=U e;clear d e;unfold bJ.ptr at Q;generalize b[o].tb=C at*;subst u;go_wp2_with(first
    |(at_builtin;go_loud(refine bS _ rfl (.tmp 18) (.tmp 21) 176 rfl (z (G a)) 205 i0 .nilIface 1 16 underlying176 al av ax ba rfl (by decide) (.slice bk (o+1) ac) (o+1) (((uU l b c).take (o+1)).map (·.1)) rfl (aS L _) (R (z (G wr)) 0) 1 1 [.iface 224 (aA C)] rfl rfl (pH _ _ _) (by simp[Value.oneCell']) (by omega) (by omega) (by simp;omega) ?_;intro V w2 f q;have D:=U f;have K:=U q;clear f q)))
   go_roundw;case rel=>
    refine⟨o+1,O,by go_num,by rw[ae F];exact D,?_⟩;exact(S.alloc _).trans (Y.fy K)<|λv t=>.inr (au v t).1
   case measure=>simp[intOf];omega
  .have an:o=y b:=by omega
   subst an;rw[cR<|by omega]at d;have ao:=w wr u6 e d;have S:=U e;clear d e;subst u;go_wp2_with fail
   apply ao.mono;rintro bb w1⟨v1,S1,rfl,L,C,q,F⟩;have X:=U<|S.mono (T:=r.F) cG|>.trans q (λ_ ac=>.inl ac);have bg:=S.size;have bf:=q.size;have K:=Mf L C (by omega);have W:=U F;clear q L C F;go_wp2_with fail
   apply K.mono;rintro bb w2⟨bi,rfl,f,D,Q⟩;obtain⟨rx,rc,rfl⟩:=aC f;have V:=U<|And.intro (eQ (base':=z<|G a) f<|by omega) (And.intro D (X.trans Q<|λv t=>t.elim (λac=>.inr (by have:=W v ac;omega)) .inl));clear f D Q K;go_wp2;go_ret2
   exact⟨_,rfl,V.1,V.2.1,V.2.2⟩
def Rs(n:M)(w:I)(v:n<=1000000000):cy bG 171 #[aK,ap n] w λt r=>∃q,t=aO q/\r.ownsRow (z<|G w) 224 1 q 0 []/\Y aB w r:=by
 obtain⟨l,j,k,s,e⟩:=cz vU;have u:¬((n:Z)<0):=by omega
 rcases fT n with g|g;(.subst g;(go_in);go_wp2;go_ret;exact⟨_,rfl,bK _ _ _ _,Y.refl _ _⟩)
 .have c:(Builtin.firstCells l.size 0 aK).run bG w.drew=.ok ([]:iU).toArray w.drew:=run_firstCells_none w.drew l.size 0 0 0;have d:∀m,(Builtin.append_ #[105,3] m #[aK,ap n]).run bG w=_:=λm=>
   Lib.run_append_grow_zeros w 105 3 m 224 l (fp none) .i64 .i64 underlying105 underlying3 j k none 0 0 [] c n g (by omega) (by omega) (by omega) (by rw[e];omega) (sA (by omega) (by rw[e];omega))
  simp only[cQ]at d;have i:n<=grownCap w n 0 224:=grownCap_ge w _ _ _;have b:=sB w n 0 224 (by unfold maxLen;omega);obtain⟨a,o⟩:∃a,a=grownCap w n 0 224:=⟨_,rfl⟩;rw[<-o]at d i b;have f:=U<|show(ct w<|ar (Builtin.zeroCells #[fp none] n++Builtin.zeroCells #[fp none] (a-n)) 224).drew.ownsRow (z<|G w) 224 1 (bD (z<|G w) 0 0 a) 0 []from jb (World.ownsRow_made w _ a (ah _) b (by simp[size_zeroCells];omega)) rfl;have p:a<=9223372036854775807:=by unfold maxLen at b;omega
  clear c o b;go_in
  go_wp2_with(at_builtin;refine Lib.wpList_append_run _ rfl _ _ _ _ rfl _ _ rfl rfl _ _ (d _) ?_)
  go_ret;exact⟨_,rfl,f,((Y.refl aB w).alloc _).of_heap rfl⟩
def qc(a:cr (aa×cP)):iU:=(a.map<|λp=>p.2.map bJ.ptr).flatten
def ma(a:cr (aa×cP)):M:=(a.map<|λp=>y p.2).sum
def Nv(a:cr (aa×cP))(p:aa×cP):qc (a++[p])=qc a++p.2.map bJ.ptr:=by simp[qc]
def Gl(a:cr (aa×cP))(p:aa×cP):ma (a++[p])=ma a+y p.2:=by simp[ma]
def AW(a:cr (aa×cP))(n:M):ma (a.take n)<=ma a:=by
 have h:=bU (λl=>(l.map (λp:aa×cP=>y p.2)).sum)<|bX n a;simp only[aM,gl]at h;unfold ma;omega
def tq(N f v:M)(a:cr (aa×cP))(w:I)(hc:∀i(k:i<y a),aT w (R N<|f+i)=H a[i].1)(hb:N<z (G w))(hr:∀i(k:i<y a),Row w 1 a[i].1 (y a[i].2)<|a[i].2.map bJ.ptr)(E:∀i(k:i<y a),∀ba,bV a[i].1=H ba->ba<z (G w))(hn:y a<=1000000)(hs:ma a<=100000000):cy bG 117 #[bD N f (y a) v] w λbi w'=>∃v',bi=aO v'/\w'.ownsRow (z<|G w) 224 1 v' (ma a) (qc a)/\Y aB w w':=by
 obtain⟨i0,B,au,av,ax⟩:=cz vU;have HC:=U (show∀wr,Y aB w wr->∀i(k:i<y a),aT wr (R N<|f+i)=H a[i].1 fromλwr ht i k=>ht.cell (hc i k) id hb);have HR:=U (show∀wr,Y aB w wr->∀i(k:i<y a),Row wr 1 a[i].1 (y a[i].2) (a[i].2.map bJ.ptr)fromλwr ht i k=>ht.row (hr i k)<|λba hk=>⟨id,E i k ba hk⟩);clear hc hr E;go_in
 go_wp2;go_loopw [3,11] (λac i wr=>∃n:M,n<=y a/\i=ap n/\ac=ap (ma (a.take n):M)/\wr=w) (λ_ i _=>y a-(intOf i).toNat)
 case atStart=>exact⟨0,bA _,rfl,rfl,rfl⟩
 case round=>
  obtain⟨n,bf,rfl,rfl,bg⟩:=hrel;subst wr;by_cases g:n<y a
  .have ad:=HC w (Y.refl _ _) n g;have p:=HR w (Y.refl _ _) n g;have q:=AW a<|n+1;have d:=U (show ma (a.take<|n+1)=ma (a.take n)+y a[n].2 by rw[aj g,Gl]);rw[ae d]at q;generalize a[n].1=bm at*;generalize a[n].2=P at*;generalize ma (a.take n)=l at*;obtain⟨O,⟨rfl,x⟩|⟨bh,j,u,rfl,al,m⟩⟩:=p
   .have b:=U x;clear O x;go_wp2;go_roundw;case rel=>exact⟨n+1,g,by go_num,by rw[ae d,ae b,jn],trivial⟩
    case measure=>simp[intOf];omega
   .clear O m;have b:¬((l:Z)+(y P:Z)<0):=by omega
    go_wp2;go_roundw;case rel=>exact⟨n+1,g,by go_num,by rw[ae d];go_num,trivial⟩
    case measure=>simp[intOf];omega
  .have o:n=y a:=by omega
   subst o;rw[bP];have A:=Rs (ma a) w (by omega);obtain⟨t,hM⟩:∃t,ma a=t:=⟨_,rfl⟩;rw[hM]at A hs|-;have Q:=U hM;clear hM;go_wp2_with fail
   apply A.mono;rintro bi w1⟨v1,rfl,C,F⟩;have S:=U C;have W:=U F;clear C F;go_wp2;go_loopw [6,27] (λo i wr=>∃n:M,n<=y a/\i=ap n/\wr.ownsRow (z<|G w) 224 1 o (ma<|a.take n) (qc<|a.take n)/\Y aB w wr) (λ_ i _=>y a-(intOf i).toNat)
   case atStart=>exact⟨0,bA _,rfl,S,W⟩
   case round=>
    obtain⟨n,bb,rfl,b,e⟩:=hrel;have an:=b.lt;have ao:=e.size;have bc:=AW a n;by_cases c:n<y a
    .have ad:=HC wr e n c;have p:=HR wr e n c;have q:=AW a<|n+1;have d:=U (show ma (a.take<|n+1)=ma (a.take n)+y a[n].2 by rw[aj c,Gl]);have s:=U (show qc (a.take<|n+1)=qc (a.take n)++a[n].2.map bJ.ptr by rw[aj c,Nv]);rw[ae d,ae Q]at q;generalize a[n].1=bm at*;generalize a[n].2=P at*;generalize qc (a.take n)=pn at*;generalize ma (a.take n)=l at*;obtain⟨bd,ac,ho⟩:=aC b;have r:=U b;have L:=U e;clear b e;subst ho;obtain⟨O,⟨rfl,x⟩|⟨bh,j,u,rfl,al,m⟩⟩:=p
     .obtain rfl:=aQ x;clear O x;have D:∀a,(Builtin.append_ #[105,105] a #[J bd l ac,aK]).run bG wr=.ok (J bd l ac) wr:=λa=>run_append_owned_none wr (z<|G w) 105 a 224 i0 1 underlying105 B (J bd l ac) l pn r;go_wp2_with(at_builtin;refine Lib.wpList_append_run _ rfl _ _ _ _ rfl _ _ rfl rfl _ _ (D _) ?_)
      go_roundw;case rel=>
       refine⟨n+1,c,by go_num,?_,L⟩;rw[ae d,ae s];simpa using ae r
      case measure=>simp[intOf];omega
     .go_wp2_with(first
       |(at_builtin;go_loud(refine bS _ rfl (.tmp 31) (.tmp 32) 105 rfl (z (G w)) 224 i0 (.pointer none) 1 8 underlying105 B au av ax rfl (by decide) (.slice bd l ac) l pn rfl r (R bh j) (y P) u (P.map bJ.ptr) rfl (by simp) (λbl bk hj=>by rw[dt];exact m bl bk hj) (by intro bk hu;obtain⟨bn,_,rfl⟩:=aZ.1 hu;rfl) (by omega) (by omega) ao ?_;intro o2 w2 D K;have V:=U D;have X:=U K;clear D K)))
      go_roundw;case rel=>
       refine⟨n+1,c,by go_num,by rw[ae d,ae s];exact V,?_⟩;exact L.trans (Y.fy X)<|λba hk=>.inr (an ba hk).1
      case measure=>simp[intOf];omega
    .have o:n=y a:=by omega
     subst o;rw[bP,ae Q]at b;obtain⟨bd,ac,ho⟩:=aC b;have r:=U b;have L:=U e;clear b e;subst ho;go_wp2;go_ret;exact⟨_,rfl,by rw[ae Q];exact r,L⟩
structure Dd(w:I)(lb lo:M)(Ls:cr (aa×cP)):Prop where
 len:y Ls=4
 cell:∀i(hi:i<y Ls),aT w (R lb<|lo+i)=H Ls[i].1
 row:∀i(hi:i<y Ls),Row w 1 Ls[i].1 (y Ls[i].2)<|Ls[i].2.map bJ.ptr
 pE:∀i(hi:i<y Ls),∀k,bV Ls[i].1=H k->k<z (G w)
 small:ma Ls<=100000000
def Dd.lt{d:cr (aa×cP)}(h:Dd a b c d):b<z (G a):=cY a (R b<|c+0)<|h.cell 0 (by have:=h.len;omega)
def sa{w:I}{lb lo:M}(a:cr (aa×cP))(h:Dd w lb lo a):cy bG 138 #[fp<|H<|R lb lo] w λj w'=>∃e,j=aO e/\w'.ownsRow (z<|G w) 224 1 e (ma a) (qc a)/\Y aB w w':=by
 have b:=tq lb lo 4 a w h.cell h.lt h.row h.pE (by have:=h.len;omega) h.small;rw[h.len]at b;clear h;go_in
 go_wp2_with fail
 apply b.mono;rintro j k⟨i,rfl,c,d⟩;have f:=U c;have g:=U d;clear c d;go_wp2;go_ret;exact⟨i,rfl,f,g⟩
def jV(a:cr (aa×cP))(n:M):Bool:=(a.drop n).all<|λp=>p.2.isEmpty
def ES{a:cr (aa×cP)}(h:b<y a):jV a b=(a[b].2.isEmpty&&jV a (b+1)):=by
 unfold jV;rw[bE h,ue]
def Cm{w:I}{lb lo:M}(n:M)(d:cr (aa×cP))(h:Dd w lb lo d)(V:n<=4):cy bG 178 #[fp<|H<|R lb lo,ap n] w λL K=>L=aO (aL<|jV d n)/\K=w:=by
 have f:=h.len;have F:=h.small;have v:=U h.cell;have x:=U h.row;clear h;rcases dF n 4 with C|C;(·(have N:(n:Z)<=4:=by omega);(have O:¬(4-n=0):=by omega);(have P:¬(4=n):=by omega);(have Q:(0:Z)<=(n:Z):=by omega);(go_in);go_wp2;(go_loopw [12] (λu wr=>∃m:M,n+m<=4/\u=ap m/\jV d n=jV d (n+m)/\wr=w) (λu _=>4-n-(intOf u).toNat));(case atStart=>exact⟨0,by omega,rfl,rfl,rfl⟩);(case round=>obtain⟨m,T,rfl,e,r⟩:=hrel;subst wr;by_cases E:m<4-n;(·(have p:n+m<y d:=by omega);have o:=v (n+m) p;have q:=x (n+m) p;have b:=ES p;rw[<-aV]at o;have HEq:=U e;clear e;generalize d[n+m].1=ad at*;generalize d[n+m].2=k at*;(have B:(m:Z)<((4-n:M):Z):=by omega);obtain⟨l,⟨rfl,t⟩|⟨X,s,A,rfl,D,g⟩⟩:=q;(.obtain rfl:=aQ t;have c:=U b;clear l t b;go_wp2;go_roundw;(case rel=>exact⟨m+1,by omega,by go_num,by rw[ae HEq,ae c];rfl,trivial⟩);case measure=>simp[intOf];omega);(.rcases fT (y k)with j|j;(.obtain rfl:=aQ j;have c:=U b;clear l b g j;go_wp2;go_roundw;(case rel=>exact⟨m+1,by omega,by go_num,by rw[ae HEq,ae c];rfl,trivial⟩);case measure=>simp[intOf];omega);(have i:k.isEmpty=bF:=by cases k with|nil=>simp at j|cons W ac=>rfl);rw[i,pT]at b;have c:=U b;clear l b g i;(have S:(0:Z)<(y k:Z):=by omega);go_wp2;go_ret;exact⟨by rw[ae HEq,ae c];rfl,rfl⟩));(have b:n+m=4:=by omega);(have a:jV d n=bW:=by rw[e,b,<-f];unfold jV;rw[gm];rfl);have c:=U a;(have B:¬(m:Z)<((4-n:M):Z):=by omega);clear a e b;go_wp2;go_ret;exact⟨by rw[ae c];rfl,rfl⟩));(·(obtain rfl:n=4:=by omega);(have a:jV d 4=bW:=by rw[<-f];unfold jV;rw[gm];rfl);rw[a];(go_in);go_wp2;(go_loopw [12] (λu wr=>u=ap 0/\wr=w) (λ_ _=>0));(case atStart=>exact⟨rfl,rfl⟩);(case round=>obtain⟨rfl,r⟩:=hrel;subst wr;go_wp2;go_ret;exact⟨rfl,rfl⟩))
def UU(h:i.Sublist p):sg i<=sg p:=by
 induction h with
 |slnil=>exact ah _
 |cons x _ a=>unfold sg at*;simp only[aY,iL];omega
 |cons_cons x _ a=>unfold sg at*;simp only[aY,iL];omega
def IP{w:I}(b c u:M){ts1 p:cP}(hi:u+1<4)(c1:aT w (R b<|c+u)=H d)(c2:aT w (R b<|c+(u+1))=H s)(K:b<z (G w))(S:kZ w d ts1)(h2:kZ w s p)(hs:AK p)(L:0<y ts1)(ba:sg p<=1000000000):cy bG 173 #[fp<|H<|R b c,ap u] w λt e=>∃ac:M,t=aO (ap ac)/\ac<y ts1/\Below (z<|G w) w e:=by
 rcases S.shape with⟨_,h0⟩|⟨b1,bg,bf,rfl,_⟩;subst h0;simp at L;have bl:=S.small;have e1:(u:Z)<4:=by omega
 have e2:(0:Z)<=(u:Z):=by omega
 obtain⟨al,an,HS,ad⟩:=gx S h2 hs c2;clear S h2 hs c2;go_in
 go_wp2;go_loopw [5,6,19] (λa le n wr=>∃ac bd k:M,ac<y ts1/\bd<=9223372036854775807/\k<=y ts1/\a=ap ac/\le=ap bd/\n=ap k/\Below (z<|G w) w wr) (λ_ _ n _=>y ts1-(intOf n).toNat)
 case atStart=>exact⟨0,9223372036854775807,0,L,ah _,bA _,rfl,rfl,rfl,Below.refl _ _⟩
 case round=>
  obtain⟨ac,bd,k,hj,hm,hk,rfl,rfl,rfl,j⟩:=hrel;have HB:=U j;by_cases a:k<y ts1
  .have f:=al.below j;have C:=an.below j;have hp:=f.cell a;have c2:aT wr (R b<|c+(u+1))=H s:=(j.cell (p:=(R b<|c+(u+1))) K).trans ad;have m:∀W,W.heap=wr.heap->cy bG 175 #[ts1[k].ptr] W λt e=>t=aO (ai<|iW ts1[k].ks)/\e=W:=λW i=>((f.each _<|aq a).of_heap i).first;have n:∀W,W.heap=wr.heap->cy bG 176 #[ts1[k].ptr] W λt e=>t=aO (ai<|iT ts1[k].ks)/\∃q,e=W.drewN q:=λW i=>((f.each _<|aq a).of_heap i).last;have hcut:∀W,W.heap=wr.heap->W.os=wr.os->W.tape=wr.tape->W.output=wr.output->cy bG 174 #[s,ai<|iW ts1[k].ks,ai<|iT ts1[k].ks] W λt e=>∃V P X,t=aO (dB #[V,P,X])/\(∃T,kZ e P T/\sg T<=1000000000)/\Below (z<|G w) w e/\aT e (R b<|c+(u+1))=H s:=by
    intro W i ao au av;apply(Lx (iW ts1[k].ks) (iT ts1[k].ks) (C.of_heap i) HS).mono;rintro t e⟨bn,bm,V,P,X,rfl,_,_,bb,_,_,g⟩;have l:Below (z<|G w) w W:=j.of_heap (by rw[i,ao,au,av]);refine⟨V,P,X,rfl,⟨_,bb,aE (UU<|(mW _ _).trans<|kC _ _) ba⟩,l.trans<|g.mono l.size,?_⟩;exact(g.cell (p:=(R b<|c+(u+1)))<|ag K l.size).trans<|(cH (w:=wr)<|by rw[i]).trans c2
   clear j f C;unfold bJ.ptr at hp m n;generalize iW ts1[k].ks=s1 at*;generalize iT ts1[k].ks=s2 at*;generalize ts1[k].tb=bh at*;obtain⟨r,N⟩:∃r,u+1=r:=⟨_,rfl⟩;rw[N]at c2 hcut hi;have e3:(u:Z)+1=(r:Z):=by omega
   have e4:(r:Z)<4:=by omega
   have e5:(0:Z)<=(r:Z):=by omega
   have e6:IntKind.i64.wrap (r:Z)=(r:Z):=by rw[bQ];omega
   have e7:r<4:=by omega
   clear N;go_wp2_with fail
   rename_i QQ KK bi;go_region_held3(λa=>aT a (R b<|c+r)=H s) (first|assumption|go_keep) (first
    |(go_at_call 175;refine(m wr.drew rfl).mono ?_;rintro t w1⟨rfl,bc⟩;subst w1;have o:aT wr.drew (R b<|c+r)=H s:=c2)
    |(go_at_call 176;refine(n wr.drew rfl).mono ?_;rintro t w1⟨rfl,q,bc⟩;subst w1;have o:aT (wr.drew.drewN q) (R b<|c+r)=H s:=c2)
    |(go_at_call 174;refine(hcut (wr.drewN (1+q)) rfl rfl rfl rfl).mono ?_;rintro t w1⟨V,P,X,rfl,O,E,o⟩;have A:=U O;have x:=U E;clear O E))
   obtain⟨T,B,ax⟩:=ae A;have F:=NU B ax;clear B A hcut m n o;generalize sg T=Q at*;go_wp2_with fail
   apply F.mono;rintro t w2⟨rfl,D⟩;have v:=U<|x.trans<|D.mono x.size;clear D F;by_cases bk:Q<bd
   .have e8:(Q:Z)<(bd:Z):=by omega
    go_wp2;go_roundw;case rel=>exact⟨k,Q,k+1,a,by omega,a,rfl,rfl,by go_num,v⟩
    case measure=>simp[intOf];omega
   .have e8:¬(Q:Z)<(bd:Z):=by omega
    go_wp2;go_roundw;case rel=>exact⟨ac,bd,k+1,hj,hm,a,rfl,rfl,by go_num,v⟩
    case measure=>simp[intOf];omega
  .have f:k=y ts1:=by omega
   subst f;clear j;go_wp2;go_ret;exact⟨ac,rfl,hj,HB⟩
section
open Go.Shelf
attribute [local go_sem] Oper.semAt_some
def bk(a:iU):M->cr (M×aa)
 |0=>[]
 |j+1=>(j,a.getD j .nilIface)::bk a j
def Wz(p:M×aa):Array aa:=#[ap p.1,p.2]
def Jy(v:aa)(x:Option Addr)(n c:M)(a:v=J x n c)(w:I):cy bG 196 #[v] w λe b=>e=aO (.func (.func 240) #[] #[aA<|z<|G w])/\b=ct w (ar #[v] 105):=by
 subst a;go_in
 go_wp2;go_ret;exact⟨rfl,rfl⟩
def OO(F bg:M)(W:dV a b d 105)(hr:Row a 1 d (y x) x)(n:∀p,bV d=H p->p<F)(ac:F<=z (G a))(ba:y x<=1000000000):Ia Wz Az F bg 240 #[aA b] (bk x<|y x) (λp=>p=b) a:=by
 intro lr bd Jx bc bf hs hD hJ w C ad hY;obtain⟨bb,au,hv⟩:=bM hr;obtain⟨HB,HR,O,HS,HJ,S,HY,P⟩:=EM W hr n hs hJ w hY C;have av:aT bf (R b 0)=H d:=hs.cell (.inl rfl) W.cell;clear W hr n hs hJ w C ad hY hD;subst hv;refine qS func240 rfl trivial ?_ rfl;simp only[ntmps240,eR,ay,cL,Nat.reduceAdd,Nat.reduceSub,dS,dR,eS,er,cC,cq];gi_wp2;gi_loopw [3] (λi wr=>∃(j:M)(f:cr (M×aa))(t:fJ),i=ap ((j:Z)-1)/\j<=y x/\bk x (y x)=f++bk x j/\bd f t wr/\(∀p,p=b->¬t p)/\jz Az F (λp=>p=b) a wr) (λi _=>(intOf i+1).toNat)
 case atStart=>exact⟨y x,[],bc,by go_num,ah _,rfl,HJ,S,HS⟩
 case round=>
  obtain⟨j,f,t,rfl,hj,m,g,i,c⟩:=hrel;have ax:aT wr (R b 0)=H (J bb (y x) au):=c.cell (.inl rfl) HB.cell;cases j with
  |zero=>
   have q:=U g;have N:=U m;clear g i c m;gi_wp2;refine vz (iP rfl _ _ _) rfl ?_;refine⟨⟨_,rfl⟩,.inl ⟨t,?_,trivial⟩⟩;have m:=ae N;rw[show bk x 0=[]from rfl,dJ]at m;rw[m];exact q
  |succ j=>
   have ej:(((j+1:M):Z)-1)=(j:Z):=by omega
   rw[ej];have r:x.getD j .nilIface=x[j]:=by rw[sF,aG hj];rfl
   have A:∃ao e,bb=H (R ao e)/\aT wr (R ao<|e+j)=H x[j]:=by
    obtain⟨h1,⟨L,h0⟩|⟨an,s,K,L,X,V⟩⟩:=ae HR
    .omega
    .cases L;exact⟨an,s,rfl,c.cell (.inr ⟨O _ rfl,id⟩)<|V j _<|aG hj⟩
   obtain⟨ao,e,E,A⟩:=A;have o:(f++[(j,x[j])])<+:bk x (y x):=⟨bk x j,by rw[m,show bk x (j+1)=(j,x.getD j .nilIface)::bk x j from rfl,r];simp⟩;have B:bk x (y x)=(f++[(j,x[j])])++bk x j:=by rw[m,show bk x (j+1)=(j,x.getD j .nilIface)::bk x j from rfl,r];simp
   have N:=U B;obtain⟨fn,al,D,body,hy,hR⟩:=HY f (j,x[j]) t wr o g trivial;unfold Wz at hy;simp only at hy;obtain⟨Q,q,T⟩:=dC hR g c;have l:=U i;clear g c i m B o hR r ej;generalize x[j]=xj at*;have e1:(j:Z)<(y x:Z):=by omega
   have e2:(0:Z)<=(j:Z):=by omega
   subst E;gi_wp2;refine⟨(λau=>(by cases au)),Q.mono ?_⟩;rintro bh W3(⟨rfl,_,B3,v,k,u⟩|⟨rfl,E⟩)
   .have L:=U v;have V:=U k;have K:=U u;clear v k u;gi_wp2;go_roundw;case rel=>
     have k:=ae V;have c:=ae T;have X:b<z (G wr):=ag (ak HB) c.1;refine⟨j,f++[(j,xj)],B3,by go_num,by omega,N,L,λp s an=>?_,?_⟩
     .rcases K p an with an|an
      .exact l p s an
      .subst s;omega
     .refine c.trans ?_;exact k.same (aE ac c.1) (λp s=>⟨by subst s;exact X,l p s⟩) (λp s a=>by have:=(P _ _ _ q p s).1;omega)
    case measure=>simp[intOf]
   .have s:=U E;clear E;gi_wp2;refine cI (iP rfl _ _ _) rfl ?_;exact⟨⟨_,rfl⟩,.inr ⟨_,s⟩⟩
end
def sR(b:eI)(a:Bool)(c:dW):(gS b a c).Sublist (eE b<|df c):=by
 unfold gS;split;exact pz _;exact ew _
def sS{ms:eI}{lowest:Bool}(c:dQ (df k))(d:∀x∈df k,x.Good)(e:y (df k)<=1000000)(g:y ms<=4):dQ (gS ms lowest k)/\rN 5 (gS ms lowest k)/\(∀x∈gS ms lowest k,x.Good)/\y (gS ms lowest k)<=1000000:=by
 have b:=sR ms lowest k;have a:=b.trans<|mf ms<|df k;exact⟨c.sub a,((Gh c).sub b).mono (by omega),λx f=>d x<|a.subset f,aE a.length_le e⟩
def GL{V:jj}{W:I}{ms:eI}{mx:Option Addr}{mc:M}(b:cA)(s:Row W 1 (J mx (y ms) mc) (y ms) (ms.map<|Value.int .u64))(d:∀k,bV (J mx (y ms) mc)=H k->k<z (G W)/\¬V.F k)(t:y ms<=4)(p:dQ b)(o:y b<=1000000):(∀(e:I)(a:M)(m:Option Addr)(j:M),Y V.F W e->e.ownsRow a 164 4 (J m (y b) j) (y b) (aF b)->cy bG 49 #[J m (y b) j,J mx (y ms) mc] e λr h=>∃g,r=aO g/\h.ownsRow (z<|G e) 164 4 g (y<|eE ms b) (aF<|eE ms b)/\Y aB e h)/\(∀(i:I)(a:M)(n:Option Addr)(l:M),i.ownsRow a 164 4 (J n (y<|eE ms b) l) (y<|eE ms b) (aF<|eE ms b)->cy bG 136 #[J n (y<|eE ms b) l] i λr h=>∃g,r=aO g/\h.ownsRow (z<|G i) 164 4 g (y<|jh<|eE ms b) (aF<|jh<|eE ms b)/\Y aB i h):=by
 constructor;intro e a m j q f;exact zo ms (dH f) p o (q.row s<|λk c=>⟨(d k c).2,(d k c).1⟩) (by omega) (λk c=>(f.lt k c).2)<|λk c=>ag (d k c).1 q.size;intro i a n l f;exact Ve (dH f) (p.sub<|mf ms b) (aE (mf ms b).length_le o)<|λk c=>(f.lt k c).2
section
open Go.Shelf
attribute [local go_sem] Oper.semAt_some
structure RB(w0:I)(vs:iU)(B:fJ)(W:I):Prop where
 row:∃v,dV W (z<|G w0) v 176/\W.ownsRow (z (G w0)+1) 205 1 v (y vs) vs/\(∀k,B k↔k=z (G w0)\/bV v=H k)
 aw:Y aB w0 W
def RB.lt(h:RB a x X C):∀k,X k->z (G a)<=k/\k<z (G C):=by
 intro k g;obtain⟨v,b,d,e⟩:=h.row;rcases(e k).1 g with c|c;subst c;exact⟨ah _,ak b⟩;have:=d.lt k c;exact⟨by omega,this.2⟩
def RB.stays{T:fJ}(j:RB a x X f)(e:Y T f C)(c:∀k,T k->¬X k/\z (G a)<=k):RB a x X C:=by
 obtain⟨v,g,i,b⟩:=j.row;exact⟨⟨v,(e.block _ (ak g)<|λh=>(c _ h).1<|(b _).2<|.inl rfl).trans g,e.own i<|λk d h=>(c k h).1<|(b k).2<|.inr d,b⟩,j.aw.trans e<|λk d=>.inr (c k d).2⟩
def RB.more{d:iU}{v c x:aa}{B:Obj}(A:RB a d X f)(r:dV f (z<|G a) v 176)(l:∀k,X k↔k=z (G a)\/bV v=H k)(w:f.ownsRow (z (G a)+1) 205 1 v (y d) d)(s:eP (ct f B) C v c)(e:C.ownsRow (z (G a)+1) 205 1 c (y d+1) (d++[x])):∃o,RB a (d++[x]) o (bZ C (R (z<|G a) 0) c)/\Y X f (bZ C (R (z<|G a) 0) c)/\(∀k,o k->X k\/z (G f)<=k):=by
 have n:∀k,bV v=H k->z (G a)+1<=k/\k<z (G f):=λk b=>w.lt k b;have h:∀k,bV c=H k->z (G a)+1<=k:=λk b=>(e.lt k b).1;have q:Y (λk=>bV v=H k) f C:=((Y.refl (λk=>bV v=H k) f).alloc B).trans (Y.dN (S:=λk=>bV v=H k) s.grown<|λk b=>.inl b)<|λk b=>.inl b;have m:dV C (z<|G a) v 176:=(q.block _ (ak r) (λj=>by have:=(n _ j).1;omega)).trans r;have g:Y X f (bZ C (R (z<|G a) 0) c):=(q.mono (T:=X)<|λk b=>.inl<|(l k).2<|.inr b).setCell _ _ _<|.inl<|(l _).2<|.inl rfl;refine⟨λk=>k=z (G a)\/bV c=H k,⟨⟨c,m.set _,?_,λk=>qT⟩,?_⟩,g,?_⟩;rw[show y (d++[x])=y d+1 by simp];exact e.kept (cV C _ _ _) (by right;intro j;have:=h _ j;omega);exact A.aw.trans g<|λk b=>.inr (A.lt k b).1;rintro k(j|j);exact .inl<|(l k).2<|.inl j;rcases s.uc with t|⟨D,t,u⟩;exact .inl<|(l k).2<|.inr<|t.symm.trans j;rw[t]at j;cases j;simp at u;exact .inr<|by omega
def Nj(t:bJ):aa:=.iface 224 t.ptr
def FE(p:aa×cP):aa:=.iface 105 p.1
end
