import Derived.Test.YtnfehfmncheoiaaGreatDoorC11
import Derived.Test.YtnfehfmncheoiaaGreatDoorC16
open _root_ renaming List.length→y,Option.some→H,Array.size→z,Go.World.heap→G,Go.Value.ownBlock→bV,Go.World.cell?→aS,Go.World.setCell→bZ,Go.World.alloc→ct,Bool.false→bE,Bool.true→bU,Nat→M,Int→X,List→cr,Go.Calls→cw,Go.Proofs.Tryz.prog→bF,Go.Value.slice→I,Go.Value.string→J,Go.Value.bool→aL,Go.Value.tuple→dA,Go.Value.agg→eD
namespace Go.Proofs.YtnfehfmncheoiaaGreatDoor
open ChangeShapes WideShapes RowKit Proofs.Tryz
set_option maxHeartbeats 16000000
set_option linter.all false
set_option maxRecDepth 100000
variable{a f:Y}{b c g:M}{d s:aa}{e:cA}{i p t u:cP}{j:DK}{m F:X}{n:SR}{r:jm}{K:iB}
section
open Go.Shelf
attribute [local go_sem] Oper.semAt_some
def xG:(prog.info? 68).map (λi=>(i.zero,i.size,i.bytes))=H (H<|eD #[J ⟨#[]⟩,J ⟨#[]⟩],2,32):=by kernel_rfl
def Xv(p:KV):∀u∈qg p,u.oneCell'=bU:=by
 intro u a;simp[qg]at a;rcases a with rfl|rfl<;>rfl
def Oa(w:Y)(p:KV)(t:TypeId):∀j u,(qg p)[j]?=H u->aS (ct w<|aq #[J p.1,J p.2] t) (((R (z<|G w) 0):Addr).add j)=H u:=by
 intro j u a;rw[du];have h:(ct w<|aq #[J p.1,J p.2] t).heap[z<|G w]?=H (aq #[J p.1,J p.2] t (0,0)):=aC _ rfl;rw[bR h,cR];simpa[qg]using a
def EF(l:iB)(p:KV):ic (l++[p])=ic l++qg p:=by simp[ic]
def PA(V:jm)(b:Y)(c:ab)(a:X)(n:M)(d:iB)(B:fI)(W:Y):Prop:=Acc V.F b [(z<|G b,J c,9),(z (G b)+1,am a,3),(z (G b)+2,aK,37),(z (G b)+3,.nilIface,50)] (z (G b)+4) 37 68 2 (z (G b)+5) n (ic d) B W
def Rc(n0:M){ll:SR}(p0 p1 p2 p3:aa×cP)(j:cr (aa×cA))(lo p:ab)(c bt:X)(h:bK a b ll F)(mx:Option Addr)(mn mc:M)(ei:ll.memory=I mx mn mc)(hn:De a b 10 [p0,p1,p2,p3])(bs:j.map (·.1)=zV ll.memory p0 p1 p2 p3)(hR:∀hj(p:hj<y j),ml r n0 j[hj].1 j[hj].2 a)(hM:r.D a)(hb:n0<=z (G a))(hF:∀F,r.F F->F<n0)(hi:∀hk∈SF bt lo (j.map (·.2)),hk.key.size<=281474976710656/\hk.val.size<=281474976710656)(ac:y (SF bt lo<|j.map (·.2))<=1000000000):cw bF 106 #[aw b,J lo,J p,am c,aI bt] a λcc w'=>∃v',cc=aO (dA #[v',.nilIface])/\w'.ownsRow (z<|G a) 68 2 v' (y<|vY p c []<|((SF bt lo<|j.map (·.2)).filter<|λcc=>!cc.del).map yV) (ic<|vY p c []<|((SF bt lo<|j.map (·.2)).filter<|λcc=>!cc.del).map yV)/\r.D w'/\Z r.F a w':=by
 obtain⟨hI,hQ⟩:∃hI,(SF bt lo<|j.map (·.2)).filter (λcc=>!cc.del)=hI:=⟨_,rfl⟩;rw[hQ];obtain⟨bf,hP⟩:∃bf,vY p c [] (hI.map yV)=bf:=⟨_,rfl⟩;rw[hP];have db:=U hQ;have hy:=U hP;clear hQ hP;have fv:y j<=1000000000:=by(have ac:y (qA p0 p1 p2 p3)+1=y j:=by have:=bS y bs;simp[zV]at this;omega);have:=hn.small;rw[<-ac];simp[qA,ma]at this|-;omega
 obtain⟨i0,jD,kb,kc,kd⟩:=cz xG;have D:Z az a (ct (ct (ct (ct (ct a<|aq #[J p] 9)<|aq #[am c] 3)<|aq #[aK] 37)<|aq #[.nilIface] 50)<|aq #[aK] 37):=(((((Z.refl az a).alloc _).alloc _).alloc _).alloc _).alloc _;have bv:z (G<|ct (ct (ct (ct (ct a<|aq #[J p] 9)<|aq #[am c] 3)<|aq #[aK] 37)<|aq #[.nilIface] 50)<|aq #[aK] 37)=z (G a)+5:=by simp
 have eo:dV (ct (ct (ct (ct (ct a<|aq #[J p] 9)<|aq #[am c] 3)<|aq #[aK] 37)<|aq #[.nilIface] 50)<|aq #[aK] 37) (z<|G a) (J p) 9:=dV.alloc (dV.alloc (dV.alloc (dV.alloc (aC _ rfl) _) _) _) _;have eq:dV (ct (ct (ct (ct (ct a<|aq #[J p] 9)<|aq #[am c] 3)<|aq #[aK] 37)<|aq #[.nilIface] 50)<|aq #[aK] 37) (z (G a)+1) (am c) 3:=dV.alloc (dV.alloc (dV.alloc (aC _<|by simp) _) _) _;have w:dV (ct (ct (ct (ct (ct a<|aq #[J p] 9)<|aq #[am c] 3)<|aq #[aK] 37)<|aq #[.nilIface] 50)<|aq #[aK] 37) (z (G a)+2) aK 37:=dV.alloc (dV.alloc (aC _<|by simp) _) _;have x:dV (ct (ct (ct (ct (ct a<|aq #[J p] 9)<|aq #[am c] 3)<|aq #[aK] 37)<|aq #[.nilIface] 50)<|aq #[aK] 37) (z (G a)+3) .nilIface 50:=dV.alloc (aC _<|by simp) _;have es:dV (ct (ct (ct (ct (ct a<|aq #[J p] 9)<|aq #[am c] 3)<|aq #[aK] 37)<|aq #[.nilIface] 50)<|aq #[aK] 37) (z (G a)+4) aK 37:=aC _ (by simp);obtain⟨W5,hS⟩:∃W5,(ct (ct (ct (ct (ct a<|aq #[J p] 9)<|aq #[am c] 3)<|aq #[aK] 37)<|aq #[.nilIface] 50)<|aq #[aK] 37)=W5:=⟨_,rfl⟩;rw[hS]at D bv eo eq w x es;have ha:=Kr p0 p1 p2 p3 ((D.block b (aj h) id).trans h) mx mn mc ei<|hn.ar D id<|λ_ _ _ _ k=>k;have eg:y (qA p0 p1 p2 p3)+1=y j:=by have:=bS y bs;simp[zV]at this;omega
 rw[eg,<-bs]at ha;have gr:∀w6 v6,w6.ownsRow (z<|G W5) 205 1 v6 (y j) (j.map (·.1))->Z az W5 w6->cw bF 164 #[v6,J lo,aI bt] w6 λcc w'=>∃v' b,cc=aO v'/\jl r n0 v' (SF bt lo<|j.map (·.2)) b w'/\r.D w'/\Z r.F a w'/\(∀F,b F->z (G a)+5<=F)/\Z r.F W5 w':=by intro w6 v6 av K;have f:Z az a w6:=D.ci K;refine(XK n0 j lo bt (dF av) (λF e=>⟨(av.lt F e).2,λhf=>by have:=hF F hf;have:=(av.lt F e).1;omega⟩) fv (λhj p=>(hR hj p).same<|f.same hb cG cG) (r.fm hM f cG) (aD hb f.size) hF).mono ?_;rintro cc w7⟨v7,S7,rfl,ef,ao,ca,ch⟩;refine⟨v7,S7,rfl,ef,ao,(f.mono (T:=r.F) cG).trans ca<|λ_ k=>.inl k,λF e=>?_,(K.mono (T:=r.F) cG).trans ca<|λ_ k=>.inl k⟩;have:=ch F e;have:=K.size;omega
 have hw:=U gr;have dk:=U<|And.intro eo (And.intro eq (And.intro w (And.intro x (And.intro es bv))));clear gr D bv eo eq w x es;obtain⟨hH,HF,ey,HH,HL,kt,HR,HD,ks⟩:=xH hi hF ac h hn bs hR hM ei;clear h hn bs hR hM ei hi ac hF eg;refine(cZ (n:=3)).1 ?_;refine callsIn_of_wp_marks func106 rfl trivial ?_ rfl;simp only[ntmps106,eT,ay,cK,Nat.reduceAdd,Nat.reduceSub,dS,dR,eU,ew,cC,cq];gi_wp2_with(refine⟨trivial,?_⟩;gi_at_call 87;refine(cZ.2<|ha).mono ?_;rintro cc w6⟨v6,rfl,av,K⟩;obtain⟨x6,c6,jK⟩:=aB av;subst jK;have hx:=U av;have hE:=U K;clear av K)
 gi_wp2_with(refine⟨trivial,?_⟩;gi_at_call 164;refine(cZ.2<|hw _ _ hx hE).mono ?_;rintro cc w7⟨v7,S7,rfl,ef,ao,ca,ch,cB⟩;obtain⟨f7,fd,rfl,gk,gv⟩:=ef;have hu:=U<|show jl r n0 (.func (.func f7) #[] fd) (SF bt lo<|j.map (·.2)) S7 w7 from⟨f7,fd,rfl,gk,gv⟩;have hq:=U ao;have hG:=U ca;have hC:=U ch;have bp:=U cB;clear ao ca ch gk gv cB)
 gi_wp2_with(refine⟨trivial,?_⟩;gi_at_call 163;refine(cZ.2<|KJ hu).mono ?_;rintro cc w8⟨v8,S8,rfl,jC,au,fx⟩;obtain⟨f8,bq,rfl,gn,O⟩:=jC;have hs:=U gn;have hA:=U O;have hp:=U au;have hD:=U fx;clear gn O au fx)
 gi_wp2_with(refine⟨trivial,?_⟩;gi_at_call 133;refine(cZ.2<|Ma f8 bq w8).mono ?_;rintro cc w9⟨rfl,lg⟩;subst w9)
 have O:=ae hA;rw[ae db]at O;have au:=ae hp;have lc:=O.own.size;have hF:∀F,r.F F->F<z (G a):=λF e=>by have:=HF F e;omega
 have jH:Z r.F a w8:=hG.ci<|Z.aT (S:=az) au;have cs:∀F,S8 F->z (G a)+5<=F:=λF e=>by rcases hD F e with k|k;exact hC F k;have:=bp.size;have:=dk.2.2.2.2.2;omega
 obtain⟨W9,cj⟩:∃W9,ct w8 (aq #[.func (.func f8) #[] bq] 174)=W9:=⟨_,rfl⟩;have bd:Z az w8 W9:=by rw[<-cj];exact(Z.refl az w8).alloc _
 have hV:dV W9 (z<|G w8) (.func (.func f8) #[] bq) 174:=by rw[<-cj];exact aC _ rfl
 have le:z (G W9)=z (G w8)+1:=by rw[<-cj];simp
 have ax:Z r.F a W9:=jH.ci bd;have hd:Z r.F W5 W9:=(bp.ci<|Z.aT (S:=az) au).ci bd;have gA:Hx r n0 f8 bq hI S8 W9:=O.same<|bd.same O.own.size (λF e=>⟨(O.own.each F e).2,λk=>k⟩) cG;have hN:r.D W9:=r.fm (r.fm hq (Z.aT (S:=az) au) cG) bd cG;have kn:z (G a)+5<=z (G w8):=by have:=bp.size;have:=dk.2.2.2.2.2;have:=au.size;omega
 have hL:PA r a p c 0 [] (λF=>F=z (G a)\/F=z (G a)+1\/F=z (G a)+2\/F=z (G a)+3\/F=z (G a)+4) W9:=by obtain⟨g,i,s,x3,t,bv⟩:=ae dk;have e:∀{b:M}{hl:aa}{t:TypeId},dV W5 b hl t->z (G a)<=b->dV W9 b hl t:=λhm bi=>(hd.block _ (aj hm) (λk=>by have:=hF _ k;omega)).trans hm;refine⟨?_,⟨aK,e t (by omega),bJ _ _ _ _,λF=>by simp[bV];omega⟩,?_,by omega,ax⟩;intro A f;simp only[aA,eI,kJ]at f;rcases f with rfl|rfl|rfl|rfl;exact e g (by simp);exact e i (by simp);exact e s (by simp);exact e x3 (by simp);intro A f;simp only[aA,eI,kJ]at f;rcases f with rfl|rfl|rfl|rfl<;>simp
 rw[cj];have hP:=ae hy;refine nA (arg:=SG) (m:=3) (V:=r) (n0:=n0) (gf:=193) (lb:=#[aw<|z<|G w8]) (l:=hI) (S:=λF=>S8 F\/F=z (G w8)) ?geval (enters_of func193 (by kernel_rfl) rfl) (λ_=>rfl) (ET 2 bq hV hs gA (by omega) (λk=>by have:=(O.own.each _ k).2;omega)) hN (by omega) ?slt (λd cn W=>PA r a p c (y d) (d.map yV) cn W/\(∀B,hI=d++B->bf=vY p c (d.map yV) (B.map yV))) (λk _ cn W=>k=.exit 0/\PA r a p c (y bf) bf cn W/\r.D W) (λF=>F=z (G a)\/F=z (G a)+1\/F=z (G a)+2\/F=z (G a)+3\/F=z (G a)+4) ⟨hL,λB jE=>by rw[<-hP,jE];rfl⟩ ?sb ?lt ?st ?xst ?body ?done ?stop;case geval=>rfl
 (case slt=>rintro F(k|k);have:=(gA.own.each F k).2;exact this;omega);(case sb=>rintro F(k|k)kq;have:=cs F k;omega;omega);(case lt=>rintro d cn W⟨h,_⟩F e;have:=h.lt F e;exact⟨by omega,this.2⟩);(case st=>rintro d cn W W' kf⟨h,f⟩ht hT;refine⟨h.stays ht<|λF e=>⟨(hT F e).1,?_⟩,f⟩;have:=ax.size;rcases(hT F e).2 with(k|k)|k|k;have:=cs F k;exact .inr (by omega);exact .inr (by omega);exact .inl k;exact .inr<|by omega);(case xst=>rintro k d cn W W' kf⟨h1,h2,h3⟩ht hT;have:=ax.size;exact⟨h1,h2.stays ht<|λF e=>⟨(hT F e).1,.inr (by have:=(hT F e).2;omega)⟩,r.fm h3 ht (λF e hf=>by have:=(hT F e).2;have:=hF F hf;omega)⟩)
 case stop=>
  rintro cM k d cn W hO⟨rfl,N,P⟩an hK;obtain⟨hl,hv,q,ad⟩:=N.row;have ck:aS W (R (z (G a)+1+1+1+1) 0)=H hl:=hv.cell;have w:=N.fix (z (G a)+2,aK,37) (by simp);have x:=N.fix (z (G a)+3,.nilIface,50) (by simp);have hY:aS W (R (z (G a)+1+1) 0)=H aK:=w.cell;have iv:W.frozen? (R (z (G a)+1+1) 0)=bE:=w.free;have ih:aS W (R (z (G a)+1+1+1) 0)=H .nilIface:=x.cell;have jA:W.frozen? (R (z (G a)+1+1+1) 0)=bE:=x.free;obtain⟨v,u,cb⟩:=aB q;obtain⟨dm,dn,HC,HV,al,bg,bl,HK⟩:=EM w x N hv q ad P hK;clear N hv q ad P hK w x;subst cb;gi_wp2;have hB:=ae bg;have N:=ae HC;have n1:cM≠z (G a)+2:=λk=>an<|(hB _).2<|.inl ⟨(z (G a)+2,aK,37),by simp,k.symm⟩;have n2:cM≠z (G a)+3:=λk=>an<|(hB _).2<|.inl ⟨(z (G a)+3,.nilIface,50),by simp,k.symm⟩;have n3:¬bV (I v (y bf) u)=H cM:=λk=>an<|(hB _).2<|.inr<|.inr k;have dx:(bZ (bZ W (R (z (G a)+2) 0)<|I v (y bf) u) (R (z (G a)+3) 0) .nilIface).heap[cM]?=H (.deferred<|H []):=by
   rw[ir _ n2,ir _ n1];exact HK
  have T:dV (bZ (bZ W (R (z (G a)+2) 0)<|I v (y bf) u) (R (z (G a)+3) 0) .nilIface) (z (G a)+2) (I v (y bf) u) 37:=(dm.set _).other _ (by omega);have V:dV (bZ (bZ W (R (z (G a)+2) 0)<|I v (y bf) u) (R (z (G a)+3) 0) .nilIface) (z (G a)+3) .nilIface 50:=(dn.other _<|by omega).set _;have ba:=gE (bZ (bZ W (R (z (G a)+2) 0)<|I v (y bf) u) (R (z (G a)+3) 0) .nilIface) cM<|.deferred none;have em:Z (λF=>F=z (G a)+2\/F=z (G a)+3) W (bZ (bZ W (R (z (G a)+2) 0)<|I v (y bf) u) (R (z (G a)+3) 0) .nilIface):=((Z.refl (λF=>F=z (G a)+2\/F=z (G a)+3) W).setCell _ 0 _<|.inl<|.inl rfl).setCell _ 0 _<|.inl<|.inr rfl;have bb:=(em.mono (T:=λF=>F=z (G a)+2\/F=z (G a)+3\/F=cM)<|λF e=>.inl<|e.elim .inl<|λk=>.inr<|.inl k).trans ba<|λF e=>.inl<|.inr<|.inr e;have bk:∀F,z (G a)<=F->¬r.F F:=λF e hf=>by have:=hF F hf;omega
  have bi:∀F,(F=z (G a)+2\/F=z (G a)+3\/F=cM)->z (G a)<=F:=by have:=ax.size;rintro F(k|k|k)<;>omega
  refine⟨by simp,.inl ⟨_,_,rfl,run_takeDeferred dx,?_⟩⟩;refine⟨_,zl rfl underlying37 _ _ (z (G a)+2) (z (G a)+3) (I v (y bf) u) .nilIface rfl rfl ?_ ?_,?_⟩
  .exact(dV.cell<|(ba.block _ (aj T)<|λk=>n1 k.symm).trans T)
  .exact(dV.cell<|(ba.block _ (aj V)<|λk=>n2 k.symm).trans V)
  .refine⟨_,rfl,?_,r.fm bl bb<|λF e=>bk F<|bi F e,N.ar.trans bb<|λF e=>.inr<|bi F e⟩;have q:=ae al;have ka:=bb.own q (λF e k=>by
    have:=(q.lt F e).1;rcases k with k|k|k
    .omega
    .omega
    .subst k;exact n3 e)
   obtain⟨h1,⟨h2,h0⟩|⟨ho,hJ,ds,h2,hm,o⟩⟩:=ka
   .exact⟨h1,.inl ⟨h2,h0⟩⟩
   .exact⟨h1,.inr ⟨ho,hJ,ds,h2,by omega,o⟩⟩
 case body=>
  rintro lr d hk cn W eg ff kl gt⟨N,hcut⟩P;obtain⟨B,o⟩:=gt;have gj:=hcut (hk::B) (by rw[<-o];simp);have ac:y d+1<=1000000000:=by
   have h1:=bS y o;have h2:=bS y db;have h3:=fj (λcc=>!cc.del)<|SF bt lo<|j.map (·.2);have A:=ae ey;simp at h1 h2;omega
  have et:hk.key.size<=281474976710656/\hk.val.size<=281474976710656:=hH hk (by
   have:hk∈(SF bt lo<|j.map (·.2)).filter (λcc=>!cc.del):=by rw[ae db,<-o];simp
   exact(cU.1 this).1)
  have gs:d.map yV++[yV hk]=(d++[hk]).map yV:=by simp
  obtain⟨HC,bl,ex,kk,dc⟩:=jR N P gj hcut o;clear N P gj hcut o;obtain⟨f,i,s,g⟩:=hk;unfold SG E.value;simp only at et;simp only;gi_wp2;refine⟨(Z.refl _ _).alloc _,λL bx=>?_⟩;have br:PA r a p c (y d) (d.map yV) cn L:=(HC.stays ((Z.refl az W).alloc<|aq #[J f,J i,aL s,aI g] 164) cG).stays bx (λF e=>by subst e;exact⟨ff,.inr (by have:=ax.size;omega)⟩);have dv:ij L (z<|G W) ⟨f,i,s,g⟩:=ij.ar (aC _ rfl) bx (by omega);obtain⟨hl,hv,q,ad⟩:=br.row;have hW:aS L (R (z<|G a) 0)=H (J p):=(br.fix (z<|G a,J p,9)<|by simp).cell;have hX:aS L (R (z (G a)+1) 0)=H (am c):=(br.fix (z (G a)+1,am c,3)<|by simp).cell;have ck:aS L (R (z (G a)+4) 0)=H hl:=hv.cell;obtain⟨v,u,cb⟩:=aB q;obtain⟨ec,ed,it,iu⟩:=dv.cells;obtain⟨ev,HV,al,bg,fb,hr⟩:=kF br hv q ad bx dv;have hc:z (G W)+1<=z (G L):=by have:=bx.size;simp at this;omega
  clear br dv hv q ad bx;subst cb;have ko:=hc;have cm:Z (λF=>cn F\/F=lr) W L:=((Z.refl (λF=>cn F\/F=lr) W).alloc<|aq #[J f,J i,aL s,aI g] 164).trans fb<|λF e=>.inl<|.inr e;have bk:∀F,z (G a)<=F->¬r.F F:=λF e hf=>by have:=hF F hf;omega
  have ce:r.D L:=r.fm (r.fm bl ((Z.refl az W).alloc _) cG) fb (λF e=>by subst e;exact bk _ (by have:=ax.size;omega));by_cases t:(!(p.toList==[])&&!ie f p)=bU
  .have Q:bf=d.map yV:=by
    rw[ae ex,aX,vY];exact dw t
   have gc:(p.toList==[])=bE:=by cases h1:(p.toList==[])<;>simp[h1]at t|-
   have ea:ie f p=bE:=by cases h2:ie f p<;>simp[h2]at t|-
   unfold ie at ea;obtain⟨dd,cT,bm⟩:=dB cm ce Q;clear cm ce Q t;gi_wp2;refine⟨cn,⟨rfl,?_,cT⟩,dd,rfl,λF e=>.inl e⟩;rw[ae bm,cV];exact ev
  .have ej:(p.toList==[])=bU\/((p.toList==[])=bE/\ie f p=bU):=by
    cases h1:(p.toList==[])<;>cases h2:ie f p<;>simp[h1,h2]at t|-
   have cu:bf=if((y d:X)+1==c)=bU then d.map yV++[yV ⟨f,i,s,g⟩]else vY p c (d.map yV++[yV ⟨f,i,s,g⟩]) (B.map yV):=by
    rw[ae ex,aX,vY,cV];exact cY t
   have co:=U cu;have bc:=aj hr;have cx:=aj HV;have bh:aS L.drew (R (z (G a)+1+1+1+1) 0)=H (I v (y d) u)/\aS L.drew (R (z<|G W) 0)=H (J f)/\aS L.drew (R (z<|G W) 1)=H (J i):=⟨ck,ec,ed⟩;have bo:=U (show∀C,Z az L C->aS C (R (z (G a)+1+1+1+1) 0)=H (I v (y d) u)/\aS C (R (z<|G W) 0)=H (J f)/\aS C (R (z<|G W) 1)=H (J i)fromλC b=>⟨b.cell bh.1 id cx,b.cell bh.2.1 id bc,b.cell bh.2.2 id bc⟩);have il:=λW=>vk f W et.1;have gi:=λW=>vk i W et.2;have hU:z (G a)+5<=z (G L):=by omega
   have dd:=U cm;have cT:=U ce;clear cm ce t cu;rcases ej with gc|⟨gc,ea⟩;case' inl=>gi_wp2_with fail
   case' inr=>unfold ie at ea;gi_wp2_with fail
   all_goals
    rename_i QQ KK fu;refine tM (λC=>aS C (R (z (G a)+1+1+1+1) 0)=H (I v (y d) u)/\aS C (R (z<|G W) 0)=H (J f)/\aS C (R (z<|G W) 1)=H (J i)) 10 (by kernel_rfl) (by kernel_rfl) (λlm a h=>h) ?_;refine cQ 0 ?_;iterate 3 (refine eE (v:=?_) bh rfl (by kernel_rfl) iO rfl ?_ ?_;rotate_left;(focus(rintro C⟨z0,z1,z2⟩;go_simp;try rfl));simp only[Act.put,cX,Nat.reduceAdd])
    apply eh;refine cQ 4 ?_;iterate 2 (refine eE (v:=?_) bh rfl (by kernel_rfl) iO rfl ?_ ?_;rotate_left;(focus(rintro C⟨z0,z1,z2⟩;go_simp;try rfl));simp only[Act.put,cX,Nat.reduceAdd])
    apply eh;refine aJ (i:=3) rfl rfl (by kernel_rfl) ?_;intro K3 fk;go_simp;apply(il _).mono;rintro cc w4⟨rfl,ge⟩;have el:Z az L w4:=(bX az L).ci<|Z.aT (S:=az) ge;refine fk _ _ (λ_=>bo w4 el) ?_;try simp only[Act.put,cX]
    refine aJ (i:=6) rfl rfl (by kernel_rfl) ?_;intro K6 fl;go_simp;apply(gi _).mono;rintro cc w5⟨rfl,gg⟩;have D:Z az L w5:=el.ci<|Z.aT (S:=az) gg;refine fl _ _ (λ_=>bo w5 D) ?_;try simp only[Act.put,cX]
    refine aJ (i:=7) rfl rfl (by kernel_rfl) ?_;intro K7 fn;go_simp;refine fn _ _ (λ_=>bo w5 D) ?_;try simp only[Act.put,cX]
    refine aJ (i:=8) rfl rfl (by kernel_rfl) ?_;intro K8 fr;go_simp;have K:=D.alloc<|aq #[J f,J i] 68;refine fr _ _ (λ_=>bo _ K) ?_;try simp only[Act.put,cX]
    have bv:=D.size;refine aJ (i:=9) rfl rfl (by kernel_rfl) ?_;intro K9 fs;simp only[dp,cD,cN];refine kE (.tmp 36) (.tmp 44) 37 rfl (z (G a)+5) 68 i0 (eD #[J ⟨#[]⟩,J ⟨#[]⟩]) 2 32 underlying37 jD kb kc kd rfl (by decide) (I v (y d) u) (y d) (ic<|d.map yV) rfl (K.own al<|λ_ _ k=>k) (R (z<|G w5) 0) 1 1 (qg<|yV ⟨f,i,s,g⟩) rfl rfl (Oa _ (yV ⟨f,i,s,g⟩) _) (Xv _) (by omega) (by omega) (by simp;omega) ?_;intro v3 w3 ek en;obtain⟨x3,c3,jI⟩:=aB ek;subst jI;have bT:Z (λF=>bV (I v (y d) u)=H F) L w3:=(K.mono (T:=λF=>bV (I v (y d) u)=H F) cG).trans (Z.dM (S:=λF=>bV (I v (y d) u)=H F) en.grown<|λF e=>.inl e)<|λF e=>.inl e;have eb:dV w3 (z (G a)+4) (I v (y d) u) 37:=(bT.block _ cx (λk=>by have:=(al.lt _ k).1;omega)).trans HV;have ee:¬bV (I v (y d) u)=H (z<|G W):=λk=>by have:=(HC.lt _<|(bg _).2<|.inr<|.inr k).2;omega
    have dT:aS w3 (R (z (G a)+1+1+1+1) 0)=H (I v (y d) u)/\aS w3 (R (z<|G W) 0)=H (J f)/\aS w3 (R (z<|G W) 1)=H (J i):=⟨eb.cell,bT.cell ec ee bc,bT.cell ed ee bc⟩;refine fs _ _ (λ_=>dT) ?_;simp only[Act.put,cX];refine aJ (i:=10) rfl rfl (by kernel_rfl) ?_;intro kv cp;have ip:=dT.1;have jB:w3.frozen? (R (z (G a)+1+1+1+1) 0)=bE:=eb.free;go_simp;refine cp _ _ wu ?_;refine cO (by kernel_rfl) ?_ _;show KK _ _;apply fu;have gb:bV (I x3 (y d+1) c3)=bV (I v (y d) u)\/∃ho,bV (I x3 (y d+1) c3)=H ho/\z (G L)<=ho:=by
     rcases en.uc with kq|⟨ho,kq,kz⟩
     .exact .inl kq
     .exact .inr ⟨ho,kq,by simp at kz;omega⟩
    obtain⟨B',q1,q2,q3⟩:=ev.more HV bg al bT gb ek;have bn:Hid (PA r a p c (y d+1) (d.map yV++[yV ⟨f,i,s,g⟩]) B'<|bZ w3 (R (z (G a)+1+1+1+1) 0)<|I x3 (y d+1) c3):=U (by unfold PA;rw[EF];exact q1);have cd:Hid (Z cn L<|bZ w3 (R (z (G a)+1+1+1+1) 0)<|I x3 (y d+1) c3):=U q2;have hz:=U q3;clear q1 q2 q3 fu fk fl fn fr fs cp bT eb dT ip jB ek en gb ee el D K ge gg bh bo;obtain⟨W7,fL⟩:∃W7,bZ w3 (R (z (G a)+1+1+1+1) 0) (I x3 (y d+1) c3)=W7:=⟨_,rfl⟩;rw[fL]at bn cd|-;clear fL;obtain⟨v7,he,cE,hg⟩:=bn.row;obtain⟨x7,c7,hh⟩:=aB cE;subst hh;have kx:aS W7 (R (z (G a)+1+1+1+1) 0)=H (I x7 (y d+1) c7):=he.cell;have ky:aS W7 (R (z (G a)+1) 0)=H (am c):=(bn.fix (z (G a)+1,am c,3)<|by simp).cell;have ao:r.D W7:=r.fm cT cd<|λF e=>bk F (HC.lt F e).1;have fz:Z (λF=>cn F\/F=lr) W W7:=dd.trans cd<|λF e=>.inl<|.inl e;have cv:W7.heap[lr]?=L.heap[lr]?:=cd.block lr (by omega) ff;have fe:∀F,B' F->cn F\/z (G W)<=F:=λF e=>(hz F e).imp_right (λk=>by omega);have A:=U<|And.intro ao (And.intro fz (And.intro cv fe));clear ao fz cv fe he cE hg hW hX ck ec ed it iu;by_cases bu:(y d:X)+1=c
    .have cl:((y d:X)+1==c)=bU:=by simpa using bu
     have Q:bf=d.map yV++[yV ⟨f,i,s,g⟩]:=by rw[ae co];exact dw cl
     have bm:=U Q;clear Q;gi_wp2;refine⟨B',⟨rfl,?_,A.1⟩,A.2.1,A.2.2.1,A.2.2.2⟩;rw[ae bm,af,cV];exact bn
    .have cl:¬((y d:X)+1==c)=bU:=by simpa using bu
     have Q:bf=vY p c (d.map yV++[yV ⟨f,i,s,g⟩]) (B.map yV):=by rw[ae co];exact cY cl
     have bm:=U Q;have la:((y d:X)+1==c)=bE:=by simpa using bu
     clear Q cl;gi_wp2;refine⟨A.1,B',⟨?_,λeu jE=>?_⟩,A.2.1,A.2.2.1,A.2.2.2⟩
     .rw[af,<-gs];exact bn
     .have jG:B=eu:=by
       have:=ae dc;rw[jE]at this;exact List.append_cancel_left this
      rw[<-jG,<-gs];exact bm
 case done=>
  rintro cM cn W hO⟨N,hcut⟩an P hK;have f:bf=hI.map yV:=by rw[hcut []<|by simp];rfl
  have N:PA r a p c (y bf) bf cn W:=by rw[f,cV];exact N
  clear f hcut;obtain⟨hl,hv,q,ad⟩:=N.row;have ck:aS W (R (z (G a)+1+1+1+1) 0)=H hl:=hv.cell;have w:=N.fix (z (G a)+2,aK,37) (by simp);have x:=N.fix (z (G a)+3,.nilIface,50) (by simp);have hY:aS W (R (z (G a)+1+1) 0)=H aK:=w.cell;have iv:W.frozen? (R (z (G a)+1+1) 0)=bE:=w.free;have ih:aS W (R (z (G a)+1+1+1) 0)=H .nilIface:=x.cell;have jA:W.frozen? (R (z (G a)+1+1+1) 0)=bE:=x.free;obtain⟨v,u,cb⟩:=aB q;obtain⟨dm,dn,HC,HV,al,bg,bl,HK⟩:=EM w x N hv q ad P hK;clear N hv q ad P hK w x;subst cb;gi_wp2;have hB:=ae bg;have N:=ae HC;have n1:cM≠z (G a)+2:=λk=>an<|(hB _).2<|.inl ⟨(z (G a)+2,aK,37),by simp,k.symm⟩;have n2:cM≠z (G a)+3:=λk=>an<|(hB _).2<|.inl ⟨(z (G a)+3,.nilIface,50),by simp,k.symm⟩;have n3:¬bV (I v (y bf) u)=H cM:=λk=>an<|(hB _).2<|.inr<|.inr k;have dx:(bZ (bZ W (R (z (G a)+2) 0)<|I v (y bf) u) (R (z (G a)+3) 0) .nilIface).heap[cM]?=H (.deferred<|H []):=by
   rw[ir _ n2,ir _ n1];exact HK
  have T:dV (bZ (bZ W (R (z (G a)+2) 0)<|I v (y bf) u) (R (z (G a)+3) 0) .nilIface) (z (G a)+2) (I v (y bf) u) 37:=(dm.set _).other _ (by omega);have V:dV (bZ (bZ W (R (z (G a)+2) 0)<|I v (y bf) u) (R (z (G a)+3) 0) .nilIface) (z (G a)+3) .nilIface 50:=(dn.other _<|by omega).set _;have ba:=gE (bZ (bZ W (R (z (G a)+2) 0)<|I v (y bf) u) (R (z (G a)+3) 0) .nilIface) cM<|.deferred none;have em:Z (λF=>F=z (G a)+2\/F=z (G a)+3) W (bZ (bZ W (R (z (G a)+2) 0)<|I v (y bf) u) (R (z (G a)+3) 0) .nilIface):=((Z.refl (λF=>F=z (G a)+2\/F=z (G a)+3) W).setCell _ 0 _<|.inl<|.inl rfl).setCell _ 0 _<|.inl<|.inr rfl;have bb:=(em.mono (T:=λF=>F=z (G a)+2\/F=z (G a)+3\/F=cM)<|λF e=>.inl<|e.elim .inl<|λk=>.inr<|.inl k).trans ba<|λF e=>.inl<|.inr<|.inr e;have bk:∀F,z (G a)<=F->¬r.F F:=λF e hf=>by have:=hF F hf;omega
  have bi:∀F,(F=z (G a)+2\/F=z (G a)+3\/F=cM)->z (G a)<=F:=by have:=ax.size;rintro F(k|k|k)<;>omega
  refine⟨by simp,.inl ⟨_,_,rfl,run_takeDeferred dx,?_⟩⟩;refine⟨_,zl rfl underlying37 _ _ (z (G a)+2) (z (G a)+3) (I v (y bf) u) .nilIface rfl rfl ?_ ?_,?_⟩
  .exact(dV.cell<|(ba.block _ (aj T)<|λk=>n1 k.symm).trans T)
  .exact(dV.cell<|(ba.block _ (aj V)<|λk=>n2 k.symm).trans V)
  .refine⟨_,rfl,?_,r.fm bl bb<|λF e=>bk F<|bi F e,N.ar.trans bb<|λF e=>.inr<|bi F e⟩;have q:=ae al;have ka:=bb.own q (λF e k=>by
    have:=(q.lt F e).1;rcases k with k|k|k
    .omega
    .omega
    .subst k;exact n3 e)
   obtain⟨h1,⟨h2,h0⟩|⟨ho,hJ,ds,h2,hm,o⟩⟩:=ka
   .exact⟨h1,.inl ⟨h2,h0⟩⟩
   .exact⟨h1,.inr ⟨ho,hJ,ds,h2,by omega,o⟩⟩
end
section
open Go.Conc.Locks
def sP(b:X)(d c:ab)(a:X)(e:dW):iB:=vY c a []<|((SF b d e).filter<|λf=>!f.del).map yV
def sr(s:SR)(m:cA)(a b c d:cP):(qB s m a b c d).map (·.2)=m::cF a b c d:=by
 simp[qB,cF,uE,nh]
def Vw(a:cP):y ((a.map bI.all).reverse).flatten=y (cf a):=by
 unfold cf;rw[rR,rR,uE,List.sum_reverse]
def ST.flat(h:ST a b n j e i p t u c):y (e::cF i p t u).flatten<=c:=by
 have f:=h.qI;have d:=Vw i;unfold cF;rw[aW,dP];simp only[af,d,aW,fK,cK];omega
def ST.UN(k:ST a b n j e i p t u c):∀x∈(e::cF i p t u).flatten,x.Good:=by
 intro x f;rw[<-sr n]at f;obtain⟨l,g,d⟩:=bz.1 f;obtain⟨r,h,rfl⟩:=aY.1 g;exact k.Kt r h x d
def yZ(w a:Y)(v:aa)(l:iB):Prop:=a.ownsRow (z<|G w) 68 2 v (y l)<|ic l
def KO(k g:ab)(d h:X)(q:bK a b n m)(f:ST a b n j e i p t u c):cw bF 106 #[aw b,J k,J g,am d,aI h] a λB o=>∃s,B=aO (dA #[s,.nilIface])/\yZ a o s (sP h k g d<|e::cF i p t u)/\(ql n.aN j).D o/\Z (ql n.aN j).F a o:=by
 obtain⟨x,w,l⟩:=bL f.mem
 have r:=Rc (z<|G a) (n.l0,i) (n.l1,p) (n.l2,t) (n.l3,u) (qB n e i p t u) k g d h q x (y e) w l (f.Ys q) (Gu n e i p t u) (λC g=>f.XC _<|ap g) f.KU (ah _) f.aN.lt (by
  rw[sr];intro A v;have:=f.UN A (WJ _ _ _ A v);exact⟨by have:=this.LF;omega,by have:=this.val;omega⟩)
  (by
   rw[sr];have:=WK h k (e::cF i p t u);have:=f.flat;have:=f.mN;omega)
 rw[sr]at r;exact r
def Ph(o l:ab)(d g:X)(r:bK a b n m)(f:ST a b n j e i p t u c):cw bF 62 #[aw b,J o,J l,am d,aI g] a λx q=>∃s,x=aO (dA #[s,.nilIface])/\yZ a q s (sP g o l d<|e::cF i p t u)/\(ql n.aN j).D q/\Z (ql n.aN j).F a q:=by
 have w:=KO o l d g r f;clear r f;go_in
 go_wp2_with fail
 apply w.mono;rintro x D⟨C,rfl,k⟩;obtain⟨B,A,rfl⟩:=aB k.1;have v:=U k;clear k;go_wp2;go_ret2
 exact⟨_,rfl,v⟩
def yZ.unlock(h:yZ a f d K)(c:b<z (G a)):yZ a (bZ f (R b 0) s) d K:=by
 unfold yZ at h|-;exact h.kept (cW f _ _ _) (by right;intro e;have:=(h.lt _ e).1;omega)
def Kk(w u:ab)(d:X)(h:bK a b n 0)(m:n.closed=bU):cw bF 32 #[aw b,J w,J u,am d] a λo l=>o=aO (dA #[aK,lE 6])/\bK l b n 0/\Z (λv=>v=b) a l:=by
 have q:=bK.cellAt h 0 rfl;have s:a.frozen? (R b 0)=bE:=h.free;have k:=h.gQ 1;have c:=ja k;rw[m]at c;simp only[jf]at c;have p:=U<|λi j=>rl (W2:=i) k ((Z.refl (λv=>v=b) a).setCell b 0 _<|.inl rfl) j;clear h k m;rw[xM]at c|-;go_enter_defers func32,ntmps32
 go_wp2_with fail
 apply(lock_free (R b 0) _ q s).mono;rintro o l⟨rfl,rfl⟩;go_wp2_with fail
 apply c.mono;rintro o i⟨rfl,j⟩;obtain⟨r,t,e⟩:=p i j;have g:=U e;clear e j c;go_wp2;refine eZ (f:=41) (args:=#[aw b]) (by simp) (by simp[go_sem]) ?_;apply(unlock_deferred (R b 0) .returning _ r t).mono;rintro o A x⟨rfl,rfl,rfl⟩;exact⟨_,kO rfl _ _ _,rfl,g⟩
def QD(V S:ab)(d:X)(h:bK a b n 0)(N:ST a b n j e i p t u c)(hc:n.closed=bE):cw bF 32 #[aw b,J V,J S,am d] a λQ x=>∃v',Q=aO (dA #[v',.nilIface])/\yZ a x v' (sP n.bB V S d<|e::cF i p t u)/\tz a x b n j e i p t u c:=by
 have C:=aj h;have c0:=bK.cellAt h 0 rfl;have f0:a.frozen? (R b 0)=bE:=h.free;have s:=kX N.aN N.rV 1;have L:=h.gQ 1;have F:z (G<|bZ a (R b 0)<|jn 1)=z (G a):=gz;generalize hW:bZ a (R b 0) (jn 1)=o at s L F;have w:=ja L;rw[hc]at w;have l:cw bF 42 #[aw b] o λQ x=>Q=aO .nilIface/\Below (z<|G o) o x:=w;have HX:=U<|λg(q:Below (z<|G o) o g)=>rm (W2:=g) L N C s q;have HG:=U (show∀g m ac W,Below (z<|G o) o g->yZ g m ac W->yZ a (bZ m (R b 0)<|jn 0) ac W fromλg m ac W q hg=>by have:yZ a m ac W:=eS hg (by have:=q.size;omega);exact this.unlock C);have HW:=U hW;clear h N s L hc hW w F;go_enter_defers func32,ntmps32
 go_wp2_with fail
 apply(lock_free (R b 0) _ c0 f0).mono;rintro Q x⟨rfl,T⟩;rw[ae HW]at T;subst x;go_wp2_with fail
 apply l.mono;rintro Q g⟨rfl,q⟩;obtain⟨r,E,k⟩:=HX g q;have D:=Ph V S d n.bB r E;have c9:=bK.cellAt r 9 rfl;have A:=U k;have O:=U<|λm ac W=>HG g m ac W q;clear r E k q l;go_wp2_with fail
 apply D.mono;rintro Q m⟨v2,rfl,v,B,K⟩;obtain⟨px,pc,rfl⟩:=aB v;obtain⟨d0,g0,hF⟩:=A m B K;have HF:=U hF;have P:=U<|O _ _ _ v;clear B K hF D v;go_wp2;refine eZ (f:=41) (args:=#[aw b]) (by simp) (by simp[go_sem]) ?_;apply(unlock_deferred (R b 0) .returning _ d0 g0).mono;rintro Q u' ad⟨rfl,rfl,rfl⟩;exact⟨_,kO rfl _ _ _,I px _ pc,rfl,P,HF⟩
def Ig(v t:ab)(h:bK a b n 0)(l:n.closed=bU):cw bF 107 #[aw b,J v,J t] a λm k=>m=aO aK/\bK k b n 0/\Z (λu=>u=b) a k:=by
 have p:=bK.cellAt h 0 rfl;have r:a.frozen? (R b 0)=bE:=h.free;have j:=h.gQ 1;have c:=ja j;rw[l]at c;simp only[jf]at c;have o:=U<|λg i=>rl (W2:=g) j ((Z.refl (λu=>u=b) a).setCell b 0 _<|.inl rfl) i;clear h j l;rw[xM]at c;go_enter_defers func107,ntmps107
 go_wp2_with fail
 apply(lock_free (R b 0) _ p r).mono;rintro m k⟨rfl,rfl⟩;go_wp2_with fail
 apply c.mono;rintro m g⟨rfl,i⟩;obtain⟨q,s,d⟩:=o g i;have e:=U d;clear d i c;go_wp2;refine eZ (f:=41) (args:=#[aw b]) (by simp) (by simp[go_sem]) ?_;apply(unlock_deferred (R b 0) .returning _ q s).mono;rintro m x w⟨rfl,rfl,rfl⟩;exact⟨_,gL rfl _ _ _,rfl,e⟩
def MQ(T Q:ab)(h:bK a b n 0)(L:ST a b n j e i p t u c)(hc:n.closed=bE):cw bF 107 #[aw b,J T,J Q] a λP w=>∃v',P=aO v'/\yZ a w v' (sP n.bB T Q 0<|e::cF i p t u)/\tz a w b n j e i p t u c:=by
 have B:=aj h;have c0:=bK.cellAt h 0 rfl;have f0:a.frozen? (R b 0)=bE:=h.free;have r:=kX L.aN L.rV 1;have K:=h.gQ 1;have E:z (G<|bZ a (R b 0)<|jn 1)=z (G a):=gz;generalize hW:bZ a (R b 0) (jn 1)=m at r K E;have v:=ja K;rw[hc]at v;have k:cw bF 42 #[aw b] m λP w=>P=aO .nilIface/\Below (z<|G m) m w:=v;have HX:=U<|λd(o:Below (z<|G m) m d)=>rm (W2:=d) K L B r o;have HG:=U (show∀d l W V,Below (z<|G m) m d->yZ d l W V->yZ a (bZ l (R b 0)<|jn 0) W V fromλd l W V o hg=>by have:yZ a l W V:=eS hg (by have:=o.size;omega);exact this.unlock B);have HW:=U hW;clear h L r K hc hW v E;go_enter_defers func107,ntmps107
 go_wp2_with fail
 apply(lock_free (R b 0) _ c0 f0).mono;rintro P w⟨rfl,S⟩;rw[ae HW]at S;subst w;go_wp2_with fail
 apply k.mono;rintro P d⟨rfl,o⟩;obtain⟨q,D,g⟩:=HX d o;have C:=KO T Q 0 n.bB q D;have c9:=bK.cellAt q 9 rfl;have x:=U g;have N:=U<|λl W V=>HG d l W V o;clear q D g o k;go_wp2_with fail
 apply C.mono;rintro P l⟨v2,rfl,s,A,F⟩;obtain⟨px,pc,rfl⟩:=aB s;obtain⟨d0,g0,hF⟩:=x l A F;have HF:=U hF;have O:=U<|N _ _ _ s;clear A F hF C s;go_wp2;refine eZ (f:=41) (args:=#[aw b]) (by simp) (by simp[go_sem]) ?_;apply(unlock_deferred (R b 0) .returning _ d0 g0).mono;rintro P u' ac⟨rfl,rfl,rfl⟩;exact⟨_,gL rfl _ _ _,I px _ pc,rfl,O,HF⟩
def FD(A:X)(w u:ab)(c:X)(h:bK a b n 0)(m:n.closed=bU):cw bF 38 #[aw b,am A,J w,J u,am c] a λo l=>o=aO (dA #[aK,lE 6])/\bK l b n 0/\Z (λv=>v=b) a l:=by
 have q:=bK.cellAt h 0 rfl;have s:a.frozen? (R b 0)=bE:=h.free;have k:=h.gQ 1;have e:=uq A k m;have p:=U<|λi j=>rl (W2:=i) k ((Z.refl (λv=>v=b) a).setCell b 0 _<|.inl rfl) j;clear h k m;rw[xM]at e|-;go_enter_defers func38,ntmps38
 go_wp2_with fail
 apply(lock_free (R b 0) _ q s).mono;rintro o l⟨rfl,rfl⟩;go_wp2_with fail
 apply e.mono;rintro o i⟨rfl,j⟩;obtain⟨r,t,d⟩:=p i j;have g:=U d;clear d j e;go_wp2;refine eZ (f:=41) (args:=#[aw b]) (by simp) (by simp[go_sem]) ?_;apply(unlock_deferred (R b 0) .returning _ r t).mono;rintro o B x⟨rfl,rfl,rfl⟩;exact⟨_,kO rfl _ _ _,rfl,g⟩
def Km(B:fR)(ac:X)(lo hi:ab)(g:X)(h:bK a b n 0)(v:ST a b n j e i p t u c)(q:FZ a j b n B)(F:n.closed=bE)(K:oW B ac=none):cw bF 38 #[aw b,am ac,J lo,J hi,am g] a λO C=>O=aO (dA #[aK,lE 5])/\tz a C b n j e i p t u c:=by
 have x:=aj h;have T:=bK.cellAt h 0 rfl;have W:a.frozen? (R b 0)=bE:=h.free;have k:=kX v.aN v.rV 1;have r:=h.gQ 1;generalize E:bZ a (R b 0) (jn 1)=D at k r;obtain⟨mb,L,N,q3⟩:=(q.ft k).ex;have d:=rB ac B r F L N;rw[K]at d;simp only at d;rw[Ow]at d|-;have S:=U<|λm(s:Below (z<|G D) D m)=>rm (W2:=m) r v x k s;have Q:=U E;clear h v k r F E q L N q3 K;go_enter_defers func38,ntmps38
 go_wp2_with fail
 apply(lock_free (R b 0) _ T W).mono;rintro O C⟨rfl,A⟩;rw[ae Q]at A;subst C;go_wp2_with fail
 apply d.mono;rintro O m⟨rfl,s⟩;obtain⟨w,o,l⟩:=S m s;obtain⟨V,g0,hF⟩:=l m o.KU<|Z.refl _ _;have P:=U hF;clear w o l s d hF;go_wp2;refine eZ (f:=41) (args:=#[aw b]) (by simp) (by simp[go_sem]) ?_;apply(unlock_deferred (R b 0) .returning _ V g0).mono;rintro O u' ad⟨rfl,rfl,rfl⟩;exact⟨_,kO rfl _ _ _,rfl,P⟩
def Kl(W:fR)(an:X)(au:M)(V S:ab)(d:X)(C:FZ a j b n W)(L:oW W an=H au)(h:bK a b n 0)(N:ST a b n j e i p t u c)(hc:n.closed=bE):cw bF 38 #[aw b,am an,J V,J S,am d] a λal O=>∃v',al=aO (dA #[v',.nilIface])/\yZ a O v' (sP au V S d<|e::cF i p t u)/\tz a O b n j e i p t u c:=by
 have x:=aj h;have c0:=bK.cellAt h 0 rfl;have f0:a.frozen? (R b 0)=bE:=h.free;have k:=kX N.aN N.rV 1;have K:=h.gQ 1;have D:z (G<|bZ a (R b 0)<|jn 1)=z (G a):=gz;generalize hW:bZ a (R b 0) (jn 1)=F at k K D;obtain⟨mb,q1,q2,q3⟩:=(C.ft k).ex;have l:=rB an W K hc q1 q2;rw[L]at l;simp only at l;have HX:=U<|λg(q:Below (z<|G F) F g)=>rm (W2:=g) K N x k q;have HG:=U (show∀g o ad ac,Below (z<|G F) F g->yZ g o ad ac->yZ a (bZ o (R b 0)<|jn 0) ad ac fromλg o ad ac q L=>by have:yZ a o ad ac:=eS L (by have:=q.size;omega);exact this.unlock x);have HW:=U hW;clear h N k K hc hW D C q1 q2 q3 L;go_enter_defers func38,ntmps38
 go_wp2_with fail
 apply(lock_free (R b 0) _ c0 f0).mono;rintro al O⟨rfl,T⟩;rw[ae HW]at T;subst O;go_wp2_with fail
 apply l.mono;rintro al g⟨rfl,q⟩;obtain⟨r,B,m⟩:=HX g q;have A:=Ph V S d au r B;have c9:=bK.cellAt r 9 rfl;have v:=U m;have P:=U<|λo ad ac=>HG g o ad ac q;clear r B m q l;go_wp2_with fail
 apply A.mono;rintro al o⟨v2,rfl,s,w,E⟩;obtain⟨px,pc,rfl⟩:=aB s;obtain⟨d0,g0,hF⟩:=v o w E;have HF:=U hF;have Q:=U<|P _ _ _ s;clear w E hF A s;go_wp2;refine eZ (f:=41) (args:=#[aw b]) (by simp) (by simp[go_sem]) ?_;apply(unlock_deferred (R b 0) .returning _ d0 g0).mono;rintro al u' ao⟨rfl,rfl,rfl⟩;exact⟨_,kO rfl _ _ _,I px _ pc,rfl,Q,HF⟩
end
section
open Go.Shelf
attribute [local go_sem] Oper.semAt_some
def Sl(a:M)(s:SR):jm:=⟨λw=>bK w a s 0,λk=>k=a,λ{_ _ _}h d c=>(d.block a (aj h)<|λe=>c _ e rfl).trans h,λ{_ _}h b=>by subst b;exact aj h⟩
def PP(p:KV):Array aa:=#[J p.1,J p.2]
def Hv(n0 cB:M)(e:M)(cb:SR)(f:iB)(V:dV a b d 37)(S:dV a c (aw e) 35)(hr:Row a 2 d (y f) (ic f))(h1:b≠e)(h2:c≠e)(h3:∀k,bV d=H k->k<z (G a)/\k≠e)(cn:e<n0)(bh:n0<=z (G a))(co:y f<=1000000000):PU PP (Sl e cb) n0 cB 108 #[aw b,aw c] (if cb.closed then []else f) (λk=>k=b\/k=c\/bV d=H k) a:=by
 intro lr cs Jx cv cx hs hD hJ bb r bm hY;obtain⟨cp,ac,hv⟩:=bL hr;have cl:aS cx (R b 0)=H d:=hs.cell (.inl<|.inl rfl) V.cell;have L:∀k,(k=b\/k=c\/bV d=H k)->k<z (G a)/\k≠e:=by rintro k(q|q|q);rw[q];exact⟨aj V,h1⟩;rw[q];exact⟨aj S,h2⟩;exact h3 k q
 obtain⟨n,HB,HR,ck,HS,HJ⟩:=kF L S hr h3 hs hJ;obtain⟨HD,bs,HY,al,ao⟩:=jR hD bb hY r bm;clear V S hr h3 hs hJ bb r bm hY hD L h1;subst hv;obtain⟨W,bd⟩:∃W,cb.closed=W:=⟨_,rfl⟩;rw[bd]at HY|-;obtain⟨cj,hl⟩:∃cj,(if W=bU then []else f)=cj:=⟨_,rfl⟩;rw[hl]at HY|-;have x:=U hl;clear hl;refine qT func108 rfl trivial ?_ rfl;simp only[ntmps108,eT,ay,cK,Nat.reduceAdd,Nat.reduceSub,dS,dR,eU,ew,cC,cq];gi_wp2;gi_loopw [8] (λi wr=>∃(s:M)(N:fI),i=am (s:X)/\s<=y f/\(W=bU->s=0)/\cs (f.take s) N wr/\bK wr e cb 0/\(∀k,(k=b\/k=c\/bV (I cp (y f) ac)=H k)->¬N k)/\jJ (Sl e cb) n0 (λk=>k=b\/k=c\/bV (I cp (y f) ac)=H k) a wr) (λi _=>y f-(intOf i).toNat)
 case atStart=>exact⟨0,cv,by go_num,bw _,λ_=>rfl,HJ,HD,bs,HS⟩
 case round=>
  obtain⟨s,N,rfl,hj,B,A,u,K,g⟩:=hrel;have F:=U K;clear K;by_cases r:s<y f
  .have e1:(s:X)<(y f:X):=by omega
   have e2:(0:X)<=(s:X):=by omega
   have hg:=nN f s r;have bf:∃ce j,cp=H (R ce j)/\aS wr (R ce<|j+s*2)=H (J f[s].1)/\aS wr (R ce<|j+s*2+1)=H (J f[s].2):=by
    obtain⟨q1,⟨q2,q0⟩|⟨ba,an,au,q2,av,hc⟩⟩:=ae HR
    .omega
    .cases q2;exact⟨ba,an,rfl,g.cell (.inl<|.inr<|.inr rfl)<|hc _ _ hg.1,g.cell (.inl<|.inr<|.inr rfl) (by rw[aV];exact hc _ _ hg.2)⟩
   obtain⟨ce,j,hx,bx,bT⟩:=bf;subst hx;have cm:aS wr (R c 0)=H (aw e):=g.cell (.inl<|.inr<|.inl rfl) HB.cell;have bl:e<z (G wr):=aj u;have cc:c<z (G wr):=ag (aj HB) g.1;have E:=U (show(f.take s++[f[s]])<+:f/\f.take s++[f[s]]=f.take (s+1)by
    rw[<-ai r];exact⟨List.take_prefix _ _,rfl⟩)
   obtain⟨t,O,bt,P⟩:=gx A u g B;clear A u g hg B;generalize f[s]=pj at*;obtain⟨C,D⟩:=pj;simp only at bx bT;have HQ:=U (show∀w,Z (λk=>k=e) (ct wr<|aq #[J C,J D] 68) w->cs (f.take s) N w/\aS w (R (z<|G wr) 0)=H (J C)/\aS w (R (z<|G wr) 1)=H (J D)/\Z (λk=>k=e) wr w fromλw i=>by
    have av:Z az wr (ct wr (aq #[J C,J D] 68)):=(Z.refl az wr).alloc _;have au:(ct wr (aq #[J C,J D] 68)).heap[z (G wr)]?=H (aq #[J C,J D] 68 (0,0)):=aC _ rfl;have an:=(i.block _ (aj au) (by omega)).trans au;refine⟨ao _ _ _ _ _ (ao _ _ _ _ _ t av cG) i (λk l=>⟨λac=>?_,.inl l⟩),by rw[bR an];rfl,by rw[bR an];rfl,(av.mono (T:=λk=>k=e) cG).trans i (λk l=>.inl l)⟩;have:=(al _ _ _ t k ac).1;omega)
   have ax:bK (ct wr<|aq #[J C,J D] 68) e cb 0:=(((Z.refl az wr).alloc<|aq #[J C,J D] 68).block e bl id).trans O;have v:=IY ax;rw[bd]at v;clear ax;cases W with
   |true=>
    have h0:s=0:=P rfl;have HZ:=U h0;clear h0;gi_wp2_with(refine⟨trivial,(λac=>(by cases ac)),?_⟩;gi_at_call 109;refine(cZ.2 v).mono ?_;rintro cu w⟨rfl,p,i⟩;obtain⟨o,k0,k1,m⟩:=HQ w i;have Q:=U o;have ad:=U p;clear o p m i)
    refine⟨λ_ h=>(by cases h),?_⟩;gi_wp2;refine cI (iQ rfl _ _ _) rfl ?_;refine⟨⟨_,rfl⟩,.inl ⟨N,?_,ad⟩⟩;rw[<-ae x];have:=ae Q;rw[ae HZ]at this;exact this
   |false=>
    have bg:f=cj:=ae x;have bi:(f.take s++[(C,D)])<+:cj:=E.1.trans (by rw[bg];exact uD _);have an:=U bi;clear bi bg;gi_wp2_with(refine⟨trivial,(λac=>(by cases ac)),?_⟩;gi_at_call 109;refine(cZ.2 v).mono ?_;rintro cu w⟨rfl,p,i⟩;obtain⟨o,k0,k1,m⟩:=HQ w i;obtain⟨fn,cd,bn,body,hy,hR⟩:=HY (f.take s) (C,D) N w an o p;unfold PP at hy;simp only at hy;have br:=U hR;have Q:=U o;have ad:=U p;have bu:=U m;clear o p m i hR)
    refine⟨(λac=>(by cases ac)),br.mono ?_⟩;rintro cu W3(⟨rfl,av,B3,ba,bc,au⟩|⟨rfl,hx⟩)
    .have bq:=U ba;obtain⟨bv,bo,bp⟩:=dB bc au av;clear ba bc au av;gi_wp2;go_roundw;case rel=>
      have g:=ae bt;have m:=ae bu;have ca:=m.size;have bk:=g.1;refine⟨s+1,B3,by go_num,r,(λac=>(by cases ac)),(by rw[<-(ae E).2];exact bq),bp,λk l ch=>?_,?_⟩
      .have:=(n k l).1;rcases bo k ch with ch|ch
       .exact F k l ch
       .omega
      .refine g.trans<|(m.same (aD bh bk) (λk l=>⟨by have:=(n k l).1;omega,(n k l).2⟩)<|λk l _=>l).trans ?_;exact bv.same (aD bh<|aD bk ca) (λk l=>⟨by have:=(n k l).1;omega,F k l⟩) (λk l a=>by have:=(al _ _ _ Q k l).1;omega)
     case measure=>simp[intOf];omega
    .have HX:=U hx;clear hx;gi_wp2;refine cI (iQ rfl _ _ _) rfl ?_;exact⟨⟨_,rfl⟩,.inr ⟨_,HX⟩⟩
  .have e1:¬(s:X)<(y f:X):=by omega
   have i:s=y f:=by omega
   obtain⟨t,O,P⟩:=dB A u B;clear A u g B;gi_wp2;refine vy (iQ rfl _ _ _) rfl ?_;refine⟨⟨_,rfl⟩,.inl ⟨⟨N,?_⟩,O⟩⟩;cases W with
   |true=>
    have h0:=P rfl;rw[<-ae x];have:=ae t;rw[h0]at this;exact this
   |false=>
    have:=ae t;rw[cS<|by omega]at this;rw[<-ae x];exact this
structure MB(w w':Y)(sb:M)(v:aa)(ps:iB)(bt bs:M):Prop where
 val:v=.func (.func 108) #[] #[aw bt,aw bs]
 row:∃u,dV w' bt u 37/\yZ w w' u ps
 ptr:dV w' bs (aw sb) 35
 ge:z (G w)<=bt/\z (G w)<=bs
def Vv(w:Y)(a:M)(s q:ab)(o:iB)(P:Y->Prop)(r:∀W,Z az w W->z (G w)<z (G W)->cw bF 107 #[aw a,J s,J q] W λu c=>∃t,u=aO t/\yZ W c t o/\W.heap[z<|G w]?=c.heap[z<|G w]?/\P c)(p:∀W D,P W->P (ct W D)):cw bF 65 #[aw a,J s,J q] w λu c=>∃C A x,u=aO C/\MB w c a C o A x/\P c:=by
 have i:Z az w (ct w<|aq #[aw a] 35):=(Z.refl az w).alloc _;have j:=r _ i (by simp);have g:dV (ct w<|aq #[aw a] 35) (z<|G w) (aw a) 35:=aC _ rfl;have k:=U g;have v:=U p;clear r p i g;go_in
 go_wp2_with fail
 apply j.mono;rintro u F⟨E,rfl,b,f,e⟩;obtain⟨B,c1,n⟩:=aB b;subst n;obtain⟨l,m,d⟩:=dB b e<|f.symm.trans k;clear b f e j;go_wp2;go_ret;refine⟨_,_,_,rfl,⟨rfl,⟨_,aC _ rfl,?_⟩,?_,?_⟩,v _ _ m⟩;have:=ae l;unfold yZ at this|-;exact eS (aR this<|aq #[I B (y o) c1] 37) (by simp);exact dV.alloc d _;have:=aj d;omega
def Fi(h e:ab)(r:bK a b n 0)(p:n.closed=bU):cw bF 65 #[aw b,J h,J e] a λq c=>∃v m l,q=aO v/\MB a c b v [] m l/\bK c b n 0/\Z (λk=>k=b) a c:=by
 have g:=aj r;refine Vv a b h e [] (λc=>bK c b n 0/\Z (λk=>k=b) a c) (λW i f=>?_)<|λW u d=>⟨(fX _<|aj d.1).trans d.1,d.2.alloc u⟩;apply(Ig h e ((i.block b g id).trans r) p).mono;rintro q c⟨rfl,o,j⟩;exact⟨_,rfl,bJ _ _ _ _,(j.block _ f<|by omega).symm,o,(i.mono (T:=λk=>k=b) cG).trans j<|λ_ c=>.inl c⟩
def Mt{K:DK}{m:cA}{a b c d:cP}{C:M}(s r:ab)(O:bK f g n 0)(A:ST f g n K m a b c d C)(F:n.closed=bE):cw bF 65 #[aw g,J s,J r] f λN p=>∃P E D,N=aO P/\MB f p g P (sP n.bB s r 0<|m::cF a b c d) E D/\tz f p g n K m a b c d C:=by
 have o:=aj O;have l:∀{f W:Y}{K:DK},cJ f n.aN K->Z az f W->gw f W n.aN g K K:=λi j=>⟨i.ar j<|λ_ _=>id,j.mono cG,λ_ q=>.inl q⟩;refine Vv f g s r _ (λp=>tz f p g n K m a b c d C) (λW j x=>?_) ?_;have i:=l A.aN j;have B:=A.ft o i rfl;apply(MQ s r ((j.block g o id).trans O) B F).mono;rintro N p⟨Q,rfl,L,t,e,u,v,w,k,h⟩;refine⟨_,rfl,L,(e.ar.block _ x ?_).symm,t,i.trans e,u,v,w,k,h⟩;rintro(q|q);have:=A.aN.lt _ q;omega;omega;rintro W L⟨t,i,u,v,w,k,h⟩;have B:Z az W (ct W L):=(Z.refl az W).alloc L;have e:=l h.aN B;exact⟨t,i.trans e,u,v,w,(B.block g (aj k) id).trans k,h.ft (aj k) e rfl⟩
end
section
open Go.Shelf
attribute [local go_sem] Oper.semAt_some
def CA(c:Y)(b:M)(e:fI)(a:X)(d:iB)(B:fI)(W:Y):Prop:=Acc e c [(z<|G c,am a,3)] (z (G c)+1) 37 68 2 b (y d) (ic d) B W
def Cf(w:Y)(b:M)(cs:SR)(lo hi:ab)(a:X)(ps:iB)(eu:Y->Prop)(F:fI)(cn:0<a)(ek:b<z (G w))(hF:∀k,F k->k<z (G w))(hA:∀W,Z az w W->z (G W)=z (G w)+2->cw bF 65 #[aw b,J lo,J hi] W λfk w'=>∃cE cx cv,fk=aO cE/\MB W w' b cE ps cx cv/\Z F W w'/\eu w')(dT:F b)(ca:∀W,eu W->bK W b cs 0)(cb:∀W W',eu W->Z (λk=>k=b\/k=z (G w)\/k=z (G w)+1) W W'->bK W' b cs 0->eu W')(ck:cs.closed=bU->ps=[])(el:y ps<=1000000000):cw bF 35 #[aw b,J lo,J hi,am a] w λfk w'=>∃v',fk=aO v'/\yZ w w' v' (ps.take a.toNat)/\eu w':=by
 obtain⟨i0,eg,eq,es,et⟩:=cz xG;have cm:(if cs.closed=bU then []else ps)=ps:=by split;rename_i h;rw[ck h];rfl
 have g:Z az w (ct (ct w<|aq #[am a] 3)<|aq #[aK] 37):=((Z.refl az w).alloc _).alloc _;have al:dV (ct (ct w<|aq #[am a] 3)<|aq #[aK] 37) (z<|G w) (am a) 3:=dV.alloc (aC _ rfl) _;have an:dV (ct (ct w<|aq #[am a] 3)<|aq #[aK] 37) (z (G w)+1) aK 37:=aC _ (by simp);have ac:z (G<|ct (ct w<|aq #[am a] 3)<|aq #[aK] 37)=z (G w)+2:=by simp
 have cd:=hA _ g ac;have e0:¬a<=0:=by omega
 obtain⟨cB,N⟩:∃cB,ps.take a.toNat=cB:=⟨_,rfl⟩;rw[N];obtain⟨ba,dc,HX,dk,bq,HF⟩:=kF N cm (And.intro g (And.intro al (And.intro an ac))) ca cb hF;clear N cm g al an ac hA ca cb ck hF;refine(cZ (n:=3)).1 ?_;refine callsIn_of_wp_marks func35 rfl trivial ?_ rfl;simp only[ntmps35,eT,ay,cK,Nat.reduceAdd,Nat.reduceSub,dS,dR,eU,ew,cC,cq];gi_wp2_with(refine⟨trivial,?_⟩;gi_at_call 65;refine(cZ.2 cd).mono ?_;rintro fk p⟨v9,cx,cv,rfl,ef,t,bT⟩;obtain⟨eo,⟨u9,ch,O⟩,ce,cl⟩:=ef;subst eo;have bo:=U ch;have cT:=U O;have bn:=U ce;have db:=U cl;have dn:=U t;have bg:=U bT;clear ch O ce cl t bT cd)
 obtain⟨ee,al,an,ac⟩:=ae HX;have t:=ae dn;have hF:=ae HF;have fx:=t.size;obtain⟨fu,fs⟩:=ae db;have en:Z F w p:=(ee.mono (T:=F) cG).trans t<|λ_ f=>.inl f;have eb:dV p (z<|G w) (am a) 3:=(t.block _ (aj al) (λf=>by have:=hF _ f;omega)).trans al;have ec:dV p (z (G w)+1) aK 37:=(t.block _ (aj an) (λf=>by have:=hF _ f;omega)).trans an;have dx:CA w (z<|G p) F a [] (λk=>k=z (G w)\/k=z (G w)+1) p:=by refine⟨λfz hp=>?_,⟨aK,ec,bJ _ _ _ _,λk=>?_⟩,λfz hp=>?_,⟨by omega,by omega⟩,en⟩;rw[bG]at hp;rw[hp];exact eb;simp[bV];omega;rw[bG]at hp;rw[hp];exact⟨ah _,by simp;omega,by simp⟩
 have O:=ae cT;have ax:∀k,bV u9=H k->z (G w)+2<=k/\k<z (G p):=λk d=>by have:=O.lt k d;rw[ac]at this;exact this
 have P:=Hv (z<|G w) 2 b cs ps bo bn (dF O) (by omega) (by omega) (λk d=>⟨(ax k d).2,by have:=(ax k d).1;omega⟩) ek (by omega) el;rw[ae dc]at P;refine BU (m:=3) (V:=Sl b cs) (n0:=z<|G w) (gf:=108) (lb:=#[aw cx,aw cv]) (l:=ps) (S:=λk=>k=cx\/k=cv\/bV u9=H k) ?geval (enters_of func108 (by kernel_rfl) rfl) (λ_=>rfl) P (dk _ bg) (by omega) ?slt (λc bf W=>CA w (z<|G p) F a c bf W/\Z (λk=>k=b\/k=z (G w)\/k=z (G w)+1) p W/\(y c:X)<a) (λf _ bf W=>f=.exit 0/\CA w (z<|G p) F a cB bf W/\Z (λk=>k=b\/k=z (G w)\/k=z (G w)+1) p W/\bK W b cs 0) (λk=>k=z (G w)\/k=z (G w)+1) ⟨dx,Z.refl _ _,by simpa using cn⟩ ?sb ?lt ?st ?xst ?body ?done ?stop;case geval=>rfl
 (case slt=>rintro k(f|f|f);rw[f];exact aj bo;rw[f];exact aj bn;exact(ax k f).2);(case sb=>rintro k(f|f|f)bm;omega;omega;have:=(ax k f).1;omega);(case lt=>rintro c bf W⟨h,_⟩k d;exact h.lt k d);(case st=>rintro c bf W W' fl⟨h,s,v⟩ht hT;refine⟨h.stays ht<|λk d=>⟨(hT k d).1,?_⟩,s.trans ht<|λk d=>?_,v⟩;rcases(hT k d).2 with f|f;left;rw[show k=b from f];exact dT;exact .inr (by omega);rcases(hT k d).2 with f|f;exact .inl<|.inl f;exact .inr f);(case xst=>rintro f c bf W W' fl⟨h1,v,x,s⟩ht hT;exact⟨h1,v.stays ht<|λk d=>⟨(hT k d).1,.inr (by have:=(hT k d).2;omega)⟩,x.trans ht<|λk d=>.inr (hT k d).2,(ht.block b (aj s) (λf=>by have:=(hT _ f).2;omega)).trans s⟩)
 case body=>
  rintro lr c fL bf W fv bu fd T⟨E,j,ei⟩i;obtain⟨xk,xv⟩:=fL;have fb:y c+1<=1000000000:=by
   have h1:=T.length_le;simp at h1;omega
  obtain⟨bp,HC,C,q⟩:=gx T E j i;clear E j i T;unfold PP;simp only;gi_wp2;refine⟨Z.refl _ _,λW2 g=>?_⟩;have ao:CA w (z<|G p) F a c bf W2:=HC.stays g (λk d=>by subst d;exact⟨bu,.inr<|by omega⟩);obtain⟨cE,hv,e,o⟩:=ao.row;have bd:=ao.fix (z<|G w,am a,3) (by simp);have cj:aS W2 (R (z (G w)+1) 0)=H cE:=hv.cell;have fr:W2.frozen? (R (z (G w)+1) 0)=bE:=hv.free;have fe:z (G w)+1<z (G W2):=aj hv;obtain⟨L,K,ad⟩:=aB e;have ed:z (G p)<=z (G W2):=by have:=C.size;have:=g.size;omega
  obtain⟨br,cM,HV,r,D,dm⟩:=kF bd ao hv e o g;clear ao hv e o g bd;subst ad;by_cases hq:(y c:X)+1=a;case' pos=>have ej:((y c:X)+1==a)=bU:=by simpa using hq
  case' neg=>have ej:((y c:X)+1==a)=bE:=by simpa using hq
  all_goals
   gi_wp2_with(first
    |(gi_at_builtin;refine dY _ rfl (.tmp 21) (.tmp 25) 37 rfl (z (G p)) 68 i0 (.agg #[.string ⟨#[]⟩,.string ⟨#[]⟩]) 2 32 underlying37 eg eq es et rfl (by decide) (.slice L (y c) K) (y c) (ic c) rfl (aR r (.cells #[.string xk,.string xv] 68)) (R (z (G W2)) 0) 1 1 (qg (xk,xv)) rfl rfl (Oa _ (xk,xv) _) (Xv _) (by omega) (by omega) (by simp;omega) ?_;intro v2 w3 s B;obtain⟨x,v,rfl⟩:=aB s;have Q:∀fn,fn<=z (G w)+1->¬bV (Value.slice L (y c) K)=H fn:=(λfn hb f=>by have:=(r.lt _ f).1;omega);have A:dV w3 (z (G w)+1) (.slice L (y c) K) 37:=(B.grown.block _ (aj (HV.alloc (.cells #[.string xk,.string xv] 68))) (λf=>Q _ (ah _) f.symm)).trans (HV.alloc _);have bb:dV w3 (z (G w)) (.int .i64 a) 3:=(B.grown.block _ (aj (br.alloc (.cells #[.string xk,.string xv] 68))) (λf=>Q _ (by omega) f.symm)).trans (br.alloc _);have ev:=A.cell;have ey:=A.free;have ex:=bb.cell;have ff:=aj A;clear A bb Q;have dd:=U s;have ds:=U B;clear s B))
   have e:=ae r;have cp:=ae ds;have em:Z (λk=>bV (I L (y c) K)=H k) W2 w3:=((Z.refl (λk=>bV (I L (y c) K)=H k) W2).alloc<|aq #[J xk,J xv] 68).trans (Z.dM (S:=λk=>bV (I L (y c) K)=H k) cp.grown<|λk d=>.inl d)<|λk d=>.inl d;have ea:bV (I x (y c+1) v)=bV (I L (y c) K)\/∃dv,bV (I x (y c+1) v)=H dv/\z (G W2)<=dv:=by
    rcases cp.uc with bm|⟨dv,bm,hg⟩
    .exact .inl bm
    .exact .inr ⟨dv,bm,by simp at hg;omega⟩
   obtain⟨B',q1,q2,q3⟩:=cM.more HV D e em ea dd;have bv:CA w (z<|G p) F a (c++[(xk,xv)]) B' (bZ w3 (R (z (G w)+1) 0)<|I x (y c+1) v):=by
    unfold CA;rw[EF,af];exact q1
   have g:=ae dm;have av:Z (λk=>bf k\/k=lr) W (bZ w3 (R (z (G w)+1) 0)<|I x (y c+1) v):=(g.mono (T:=λk=>bf k\/k=lr)<|λk d=>.inl<|.inr d).trans q2<|λk d=>.inl<|.inl d;have bt:∀k,bf k->k=z (G w)\/k=z (G w)+1\/z (G p)<=k:=λk d=>by
    rcases(D k).1 d with⟨fz,hp,f⟩|f|f
    .rw[bG]at hp;rw[hp]at f;exact .inl f.symm
    .exact .inr<|.inl f
    .exact .inr<|.inr (e.lt k f).1
   have cc:Z (λk=>k=b\/k=z (G w)\/k=z (G w)+1) p (bZ w3 (R (z (G w)+1) 0)<|I x (y c+1) v):=C.trans av (λk d=>by
    rcases d with f|f
    .rcases bt k f with bm|bm|bm
     .exact .inl<|.inr<|.inl bm
     .exact .inl<|.inr<|.inr bm
     .exact .inr bm
    .exact .inr (by omega))
   have co:∀k,(bf k\/k=lr)->k≠b:=λk d f=>by
    rcases d with bm|bm
    .rcases bt k bm with dv|dv|dv<;>omega
    .omega
   have bx:bK (bZ w3 (R (z (G w)+1) 0)<|I x (y c+1) v) b cs 0:=(Sl b cs).fm q av<|λk d f=>co k d f;have bc:(bZ w3 (R (z (G w)+1) 0)<|I x (y c+1) v).heap[lr]?=W2.heap[lr]?:=q2.block lr (by have:=g.size;omega) bu;have bs:∀k,B' k->bf k\/z (G W)<=k:=λk d=>(q3 k d).imp_right (λf=>by have:=g.size;omega)
  .exact⟨bx,B',⟨bv,cc,by simp;omega⟩,av,bc,bs⟩
  .refine⟨B',⟨rfl,?_,cc,bx⟩,av,bc,bs⟩;have au:cB=c++[(xk,xv)]:=by
    obtain⟨gb,hr⟩:=ae bp;rw[<-ae ba,<-hr,iI (by simp;omega),cS (by simp;omega)]
   rw[au];exact bv
 (case done=>rintro cu bf W bi⟨E,j,ei⟩bh i hK;(have au:cB=ps:=by rw[<-ae ba];exact cS<|by omega);(have E:CA w (z<|G p) F a cB bf W:=by rw[au];exact E);clear au;obtain⟨cE,hv,e,o⟩:=E.row;have cj:aS W (R (z (G w)+1) 0)=H cE:=hv.cell;obtain⟨L,K,ad⟩:=aB e;obtain⟨HC,r,D,q,HK,C⟩:=kF E e o i hK j;clear E hv e o i hK j;subst ad;gi_wp2;have hB:=ae D;have n3:¬bV (I L (y cB) K)=H cu:=λf=>bh<|(hB _).2<|.inr<|.inr f;have u:=gE W cu<|.deferred none;(have bk:cu≠b:=by omega);have bl:bK (W.putObj cu<|.deferred none) b cs 0:=(u.block b (aj q)<|λf=>bk f.symm).trans q;refine⟨by simp,.inl ⟨_,_,rfl,run_takeDeferred HK,?_⟩⟩;refine⟨_,gL rfl _ _ _,_,rfl,?_,bq _ _ bg (C.trans u (λk d=>by subst d;exact .inr bi)) bl⟩;have e:=ae r;exact eS (u.own e (λk d f=>by subst f;exact n3 d))<|by omega);(case stop=>rintro cu f c bf W bi⟨rfl,E,j,i⟩bh hK;obtain⟨cE,hv,e,o⟩:=E.row;have cj:aS W (R (z (G w)+1) 0)=H cE:=hv.cell;obtain⟨L,K,ad⟩:=aB e;obtain⟨HC,r,D,q,HK,C⟩:=kF E e o i hK j;clear E hv e o i hK j;subst ad;gi_wp2;have hB:=ae D;have n3:¬bV (I L (y cB) K)=H cu:=λf=>bh<|(hB _).2<|.inr<|.inr f;have u:=gE W cu<|.deferred none;(have bk:cu≠b:=by omega);have bl:bK (W.putObj cu<|.deferred none) b cs 0:=(u.block b (aj q)<|λf=>bk f.symm).trans q;refine⟨by simp,.inl ⟨_,_,rfl,run_takeDeferred HK,?_⟩⟩;refine⟨_,gL rfl _ _ _,_,rfl,?_,bq _ _ bg (C.trans u (λk d=>by subst d;exact .inr bi)) bl⟩;have e:=ae r;exact eS (u.own e (λk d f=>by subst f;exact n3 d))<|by omega)
end
def FK(w:Y)(c:M)(f e:ab)(a:X)(j:a<=0):cw bF 35 #[aw c,J f,J e,am a] w λi g=>i=aO aK/\Z az w g:=by
 have b:Z az w (ct (ct w<|aq #[am a] 3)<|aq #[aK] 37):=((Z.refl az w).alloc _).alloc _;have d:=U b;clear b;go_in
 go_wp2;go_ret;exact⟨rfl,d⟩
def CQ(j i:ab)(c:X)(u:0<c)(o:bK a b n 0)(s:n.closed=bU):cw bF 35 #[aw b,J j,J i,am c] a λr d=>∃h,r=aO h/\yZ a d h []/\bK d b n 0/\Z (λk=>k=b) a d:=by
 have g:=aj o;refine(Cf a b n j i c [] (λd=>bK d b n 0/\Z (λk=>k=b) a d) (λk=>k=b) u g (λk v=>by omega) (λW m _=>?_) rfl (λ_ o=>o.1) ?_ (λ_=>rfl)<|by simp).mono ?_;apply(Fi j i ((m.block b g id).trans o) s).mono;rintro r d⟨w,q,p,rfl,t,f,e⟩;exact⟨w,q,p,rfl,t,e,f,(m.mono (T:=λk=>k=b) cG).trans e<|λ_ l=>.inl l⟩;rintro W q⟨_,p⟩e f;refine⟨f,p.trans e ?_⟩;rintro k(l|l|l);exact .inl l;exact .inr (by omega);exact .inr (by omega);rintro r d⟨h,rfl,p,f,e⟩;exact⟨h,rfl,by simpa using p,f,e⟩
def FJ(w v:ab)(d:X)(Q:0<d)(N:bK a b n 0)(k:ST a b n j e i p t u c)(K:n.closed=bE)(F:y (sP n.bB w v 0<|e::cF i p t u)<=1000000000):cw bF 35 #[aw b,J w,J v,am d] a λO l=>∃A,O=aO A/\yZ a l A ((sP n.bB w v 0<|e::cF i p t u).take d.toNat)/\tz a l b n j e i p t u c:=by
 have f:=aj N;refine(Cf a b n w v d _ (λl=>∃g,gw a l n.aN b j g/\(∀x,g.aZ n.aN x->j.aZ n.aN x)/\g.files=j.files/\g.eO=j.eO/\bK l b n 0) (λx=>j.aZ n.aN x\/x=b) Q f ?_ (λW D _=>?_) (.inr rfl) (λ_⟨_,_,_,_,_,N⟩=>N) ?_ (λq=>by rw[K]at q;cases q) F).mono ?_;rintro x(q|q);exact k.aN.lt _ q;omega;have h:gw a W n.aN b j j:=⟨k.aN.ar D<|λ_ _=>id,D.mono cG,λ_ q=>.inl q⟩;apply(Mt (K:=j) (m:=e) (a:=i) (b:=p) (c:=t) (d:=u) (C:=c) w v ((D.block b f id).trans N) (k.ft f h rfl) K).mono;rintro O l⟨P,E,C,rfl,L,g,s,m,o,B,r,_⟩;exact⟨P,E,C,rfl,L,s.ar,g,h.trans s,B,m,o,r⟩;rintro W S⟨g,h,E,m,o,P⟩L r;have s:=h.sb k.rV f;refine⟨g,⟨h.ok.ar L ?_,h.ar.trans L ?_,h.aZ⟩,E,m,o,r⟩;rintro x q(C|C|C);subst C;exact s q;have:=k.aN.lt _<|E x q;omega;have:=k.aN.lt _<|E x q;omega;rintro x(C|C|C);exact .inl<|.inr C;exact .inr (by omega);exact .inr (by omega);rintro O l⟨A,rfl,s,g,h,B,m,o,r⟩;exact⟨A,rfl,s,g,h,m,o,B,r,k.ft f h<|by rw[m]⟩
def OG(c:ab)(a:X)(l b:iB):b<+:vY c a b l:=by
 induction l generalizing b with
 |nil=>exact uD _
 |cons p r d=>
  rw[vY];split
  .exact uD _
  .split
   .exact List.prefix_append _ _
   .exact(List.prefix_append _ _).trans<|d _
def UY(d:ab)(a:X)(i:0<a)(l b:iB)(h:(y b:X)<a):(vY d 0 b l).take a.toNat=vY d a b l:=by
 induction l generalizing b with
 |nil=>
  show b.take a.toNat=b;exact cS<|by omega
 |cons p r g=>
  rw[vY,vY];split
  .exact cS<|by omega
  .have e:((y b:X)+1==0)=bE:=by simp;omega
   rw[e];simp only[io,ke];split
   .rename_i c;have c:(y b:X)+1=a:=by simpa using c
    obtain⟨t,f⟩:=OG d 0 r<|b++[p];rw[<-f,iI (by simp;omega),cS (by simp;omega)]
   .rename_i c;have c:¬(y b:X)+1=a:=by simpa using c
    exact g _ (by simp;omega)
def QC(c:X)(d b:ab)(a:X)(h:0<a)(e:dW):(sP c d b 0 e).take a.toNat=sP c d b a e:=UY b a h _ _<|by simpa using h
