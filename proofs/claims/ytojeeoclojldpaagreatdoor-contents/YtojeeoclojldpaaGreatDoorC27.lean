import Derived.Test.YtojeeoclojldpaaGreatDoorC16
import Derived.Test.YtojeeoclojldpaaGreatDoorC23
import Derived.Test.YtojeeoclojldpaaGreatDoorC24
open _root_ renaming List.length→y,Option.some→H,Array.size→z,Go.World.heap→G,Go.Value.ownBlock→bV,Go.World.cell?→aT,Go.World.setCell→bZ,Go.World.alloc→ct,Bool.false→bF,Bool.true→bW,Nat→M,Int→Z,List→cr,Go.Calls→cy,Go.Proofs.Tryz.prog→bG,Go.Value.slice→J,Go.Value.string→ai,Go.Value.bool→aL,Go.Value.tuple→dB,Go.Value.agg→eC
namespace Go.Proofs.YtojeeoclojldpaaGreatDoor
open ChangeShapes WideShapes RowKit Proofs.Tryz
set_option maxHeartbeats 16000000
set_option linter.all false
set_option maxRecDepth 100000
variable{a f:I}{b c g:M}{d s:aa}{e:cA}{i p t u:cP}{j:DK}{m F:Z}{n:SR}{r:jj}{K:iH}
section
open Go.Shelf
attribute [local go_sem] Oper.semAt_some
def xF:(prog.info? 68).map (λi=>(i.zero,i.size,i.bytes))=H (H<|eC #[ai ⟨#[]⟩,ai ⟨#[]⟩],2,32):=by kernel_rfl
def Xl(p:KV):∀u∈qg p,u.oneCell'=bW:=by
 intro u a;simp[qg]at a;rcases a with rfl|rfl<;>rfl
def NV(w:I)(p:KV)(t:TypeId):∀j u,(qg p)[j]?=H u->aT (ct w<|ar #[ai p.1,ai p.2] t) (((R (z<|G w) 0):Addr).add j)=H u:=by
 intro j u a;rw[dt];have h:(ct w<|ar #[ai p.1,ai p.2] t).heap[z<|G w]?=H (ar #[ai p.1,ai p.2] t (0,0)):=aD _ rfl;rw[bN h,cQ];simpa[qg]using a
def EF(l:iH)(p:KV):ib (l++[p])=ib l++qg p:=by simp[ib]
def PA(V:jj)(b:I)(c:ab)(a:Z)(n:M)(d:iH)(B:fJ)(W:I):Prop:=Acc V.F b [(z<|G b,ai c,9),(z (G b)+1,ap a,3),(z (G b)+2,aK,37),(z (G b)+3,.nilIface,50)] (z (G b)+4) 37 68 2 (z (G b)+5) n (ib d) B W
def QU(n0:M){lg:SR}(p0 p1 p2 p3:aa×cP)(j:cr (aa×cA))(lo p:ab)(c bt:Z)(h:bL a b lg F)(mx:Option Addr)(mn mc:M)(eg:lg.memory=J mx mn mc)(hm:Dd a b 10 [p0,p1,p2,p3])(br:j.map (·.1)=zT lg.memory p0 p1 p2 p3)(hR:∀hi(p:hi<y j),ml r n0 j[hi].1 j[hi].2 a)(hL:r.D a)(ha:n0<=z (G a))(hF:∀F,r.F F->F<n0)(hh:∀hj∈Sv bt lo (j.map (·.2)),hj.key.size<=281474976710656/\hj.val.size<=281474976710656)(X:y (Sv bt lo<|j.map (·.2))<=1000000000):cy bG 105 #[aA b,ai lo,ai p,ap c,aH bt] a λcb w'=>∃v',cb=aO (dB #[v',.nilIface])/\w'.ownsRow (z<|G a) 68 2 v' (y<|vZ p c []<|((Sv bt lo<|j.map (·.2)).filter<|λcb=>!cb.del).map yT) (ib<|vZ p c []<|((Sv bt lo<|j.map (·.2)).filter<|λcb=>!cb.del).map yT)/\r.D w'/\Y r.F a w':=by
 obtain⟨hH,hO⟩:∃hH,(Sv bt lo<|j.map (·.2)).filter (λcb=>!cb.del)=hH:=⟨_,rfl⟩;rw[hO];obtain⟨bd,hP⟩:∃bd,vZ p c [] (hH.map yT)=bd:=⟨_,rfl⟩;rw[hP];have cT:=U hO;have hx:=U hP;clear hO hP;have fu:y j<=1000000000:=by(have X:y (qA p0 p1 p2 p3)+1=y j:=by have:=bU y br;simp[zT]at this;omega);have:=hm.small;rw[<-X];simp[qA,ma]at this|-;omega
 obtain⟨i0,jC,ka,kb,kc⟩:=cz xF;have D:Y aB a (ct (ct (ct (ct (ct a<|ar #[ai p] 9)<|ar #[ap c] 3)<|ar #[aK] 37)<|ar #[.nilIface] 50)<|ar #[aK] 37):=(((((Y.refl aB a).alloc _).alloc _).alloc _).alloc _).alloc _;have bu:z (G<|ct (ct (ct (ct (ct a<|ar #[ai p] 9)<|ar #[ap c] 3)<|ar #[aK] 37)<|ar #[.nilIface] 50)<|ar #[aK] 37)=z (G a)+5:=by simp
 have en:dV (ct (ct (ct (ct (ct a<|ar #[ai p] 9)<|ar #[ap c] 3)<|ar #[aK] 37)<|ar #[.nilIface] 50)<|ar #[aK] 37) (z<|G a) (ai p) 9:=dV.alloc (dV.alloc (dV.alloc (dV.alloc (aD _ rfl) _) _) _) _;have eo:dV (ct (ct (ct (ct (ct a<|ar #[ai p] 9)<|ar #[ap c] 3)<|ar #[aK] 37)<|ar #[.nilIface] 50)<|ar #[aK] 37) (z (G a)+1) (ap c) 3:=dV.alloc (dV.alloc (dV.alloc (aD _<|by simp) _) _) _;have w:dV (ct (ct (ct (ct (ct a<|ar #[ai p] 9)<|ar #[ap c] 3)<|ar #[aK] 37)<|ar #[.nilIface] 50)<|ar #[aK] 37) (z (G a)+2) aK 37:=dV.alloc (dV.alloc (aD _<|by simp) _) _;have x:dV (ct (ct (ct (ct (ct a<|ar #[ai p] 9)<|ar #[ap c] 3)<|ar #[aK] 37)<|ar #[.nilIface] 50)<|ar #[aK] 37) (z (G a)+3) .nilIface 50:=dV.alloc (aD _<|by simp) _;have eq:dV (ct (ct (ct (ct (ct a<|ar #[ai p] 9)<|ar #[ap c] 3)<|ar #[aK] 37)<|ar #[.nilIface] 50)<|ar #[aK] 37) (z (G a)+4) aK 37:=aD _ (by simp);obtain⟨W5,hQ⟩:∃W5,(ct (ct (ct (ct (ct a<|ar #[ai p] 9)<|ar #[ap c] 3)<|ar #[aK] 37)<|ar #[.nilIface] 50)<|ar #[aK] 37)=W5:=⟨_,rfl⟩;rw[hQ]at D bu en eo w x eq;have gA:=Kt p0 p1 p2 p3 ((D.block b (ak h) id).trans h) mx mn mc eg<|hm.aw D id<|λ_ _ _ _ k=>k;have ef:y (qA p0 p1 p2 p3)+1=y j:=by have:=bU y br;simp[zT]at this;omega
 rw[ef,<-br]at gA;have gn:∀w6 v6,w6.ownsRow (z<|G W5) 205 1 v6 (y j) (j.map (·.1))->Y aB W5 w6->cy bG 163 #[v6,ai lo,aH bt] w6 λcb w'=>∃v' b,cb=aO v'/\ji r n0 v' (Sv bt lo<|j.map (·.2)) b w'/\r.D w'/\Y r.F a w'/\(∀F,b F->z (G a)+5<=F)/\Y r.F W5 w':=by intro w6 v6 au K;have f:Y aB a w6:=D.ci K;refine(XB n0 j lo bt (dH au) (λF e=>⟨(au.lt F e).2,λhf=>by have:=hF F hf;have:=(au.lt F e).1;omega⟩) fu (λhi p=>(hR hi p).same<|f.same ha cG cG) (r.fi hL f cG) (aE ha f.size) hF).mono ?_;rintro cb w7⟨v7,S7,rfl,ee,an,bT,ce⟩;refine⟨v7,S7,rfl,ee,an,(f.mono (T:=r.F) cG).trans bT<|λ_ k=>.inl k,λF e=>?_,(K.mono (T:=r.F) cG).trans bT<|λ_ k=>.inl k⟩;have:=ce F e;have:=K.size;omega
 have hu:=U gn;have dd:=U<|And.intro en (And.intro eo (And.intro w (And.intro x (And.intro eq bu))));clear gn D bu en eo w x eq;obtain⟨hG,HF,ex,HH,HL,ks,HR,HD,kq⟩:=xG hh hF X h hm br hR hL eg;clear h hm br hR hL eg hh X hF ef;refine(cX (n:=3)).1 ?_;refine callsIn_of_wp_marks func105 rfl trivial ?_ rfl;simp only[ntmps105,eR,ay,cL,Nat.reduceAdd,Nat.reduceSub,dS,dR,eS,er,cC,cq];gi_wp2_with(refine⟨trivial,?_⟩;gi_at_call 86;refine(cX.2<|gA).mono ?_;rintro cb w6⟨v6,rfl,au,K⟩;obtain⟨x6,c6,jI⟩:=aC au;subst jI;have hw:=U au;have hD:=U K;clear au K)
 gi_wp2_with(refine⟨trivial,?_⟩;gi_at_call 163;refine(cX.2<|hu _ _ hw hD).mono ?_;rintro cb w7⟨v7,S7,rfl,ee,an,bT,ce,cx⟩;obtain⟨f7,fb,rfl,gj,gt⟩:=ee;have hs:=U<|show ji r n0 (.func (.func f7) #[] fb) (Sv bt lo<|j.map (·.2)) S7 w7 from⟨f7,fb,rfl,gj,gt⟩;have hp:=U an;have hE:=U bT;have hA:=U ce;have bo:=U cx;clear an bT ce gj gt cx)
 gi_wp2_with(refine⟨trivial,?_⟩;gi_at_call 162;refine(cX.2<|KM hs).mono ?_;rintro cb w8⟨v8,S8,rfl,jB,ao,fv⟩;obtain⟨f8,bp,rfl,gk,O⟩:=jB;have hr:=U gk;have hz:=U O;have ho:=U ao;have hC:=U fv;clear gk O ao fv)
 gi_wp2_with(refine⟨trivial,?_⟩;gi_at_call 132;refine(cX.2<|Ma f8 bp w8).mono ?_;rintro cb w9⟨rfl,le⟩;subst w9)
 have O:=ae hz;rw[ae cT]at O;have ao:=ae ho;have la:=O.own.size;have hF:∀F,r.F F->F<z (G a):=λF e=>by have:=HF F e;omega
 have jG:Y r.F a w8:=hE.ci<|Y.aW (S:=aB) ao;have cp:∀F,S8 F->z (G a)+5<=F:=λF e=>by rcases hC F e with k|k;exact hA F k;have:=bo.size;have:=dd.2.2.2.2.2;omega
 obtain⟨W9,ch⟩:∃W9,ct w8 (ar #[.func (.func f8) #[] bp] 174)=W9:=⟨_,rfl⟩;have bc:Y aB w8 W9:=by rw[<-ch];exact(Y.refl aB w8).alloc _
 have hU:dV W9 (z<|G w8) (.func (.func f8) #[] bp) 174:=by rw[<-ch];exact aD _ rfl
 have lc:z (G W9)=z (G w8)+1:=by rw[<-ch];simp
 have av:Y r.F a W9:=jG.ci bc;have hc:Y r.F W5 W9:=(bo.ci<|Y.aW (S:=aB) ao).ci bc;have gv:Hy r n0 f8 bp hH S8 W9:=O.same<|bc.same O.own.size (λF e=>⟨(O.own.each F e).2,λk=>k⟩) cG;have hM:r.D W9:=r.fi (r.fi hp (Y.aW (S:=aB) ao) cG) bc cG;have kl:z (G a)+5<=z (G w8):=by have:=bo.size;have:=dd.2.2.2.2.2;have:=ao.size;omega
 have hJ:PA r a p c 0 [] (λF=>F=z (G a)\/F=z (G a)+1\/F=z (G a)+2\/F=z (G a)+3\/F=z (G a)+4) W9:=by obtain⟨g,i,s,x3,t,bu⟩:=ae dd;have e:∀{b:M}{hk:aa}{t:TypeId},dV W5 b hk t->z (G a)<=b->dV W9 b hk t:=λhl bh=>(hc.block _ (ak hl) (λk=>by have:=hF _ k;omega)).trans hl;refine⟨?_,⟨aK,e t (by omega),bK _ _ _ _,λF=>by simp[bV];omega⟩,?_,by omega,av⟩;intro A f;simp only[az,eG,kK]at f;rcases f with rfl|rfl|rfl|rfl;exact e g (by simp);exact e i (by simp);exact e s (by simp);exact e x3 (by simp);intro A f;simp only[az,eG,kK]at f;rcases f with rfl|rfl|rfl|rfl<;>simp
 rw[ch];have hP:=ae hx;refine nw (arg:=Sw) (m:=3) (V:=r) (n0:=n0) (gf:=192) (lb:=#[aA<|z<|G w8]) (l:=hH) (S:=λF=>S8 F\/F=z (G w8)) ?geval (enters_of func192 (by kernel_rfl) rfl) (λ_=>rfl) (ET 2 bp hU hr gv (by omega) (λk=>by have:=(O.own.each _ k).2;omega)) hM (by omega) ?slt (λd cm W=>PA r a p c (y d) (d.map yT) cm W/\(∀B,hH=d++B->bd=vZ p c (d.map yT) (B.map yT))) (λk _ cm W=>k=.exit 0/\PA r a p c (y bd) bd cm W/\r.D W) (λF=>F=z (G a)\/F=z (G a)+1\/F=z (G a)+2\/F=z (G a)+3\/F=z (G a)+4) ⟨hJ,λB jD=>by rw[<-hP,jD];rfl⟩ ?sb ?lt ?st ?xst ?body ?done ?stop;case geval=>rfl
 (case slt=>rintro F(k|k);have:=(gv.own.each F k).2;exact this;omega);(case sb=>rintro F(k|k)ko;have:=cp F k;omega;omega);(case lt=>rintro d cm W⟨h,_⟩F e;have:=h.lt F e;exact⟨by omega,this.2⟩);(case st=>rintro d cm W W' kd⟨h,f⟩ht hT;refine⟨h.stays ht<|λF e=>⟨(hT F e).1,?_⟩,f⟩;have:=av.size;rcases(hT F e).2 with(k|k)|k|k;have:=cp F k;exact .inr (by omega);exact .inr (by omega);exact .inl k;exact .inr<|by omega);(case xst=>rintro k d cm W W' kd⟨h1,h2,h3⟩ht hT;have:=av.size;exact⟨h1,h2.stays ht<|λF e=>⟨(hT F e).1,.inr (by have:=(hT F e).2;omega)⟩,r.fi h3 ht (λF e hf=>by have:=(hT F e).2;have:=hF F hf;omega)⟩)
 case stop=>
  rintro cE k d cm W hN⟨rfl,N,P⟩al hK;obtain⟨hk,hv,q,ac⟩:=N.row;have cj:aT W (R (z (G a)+1+1+1+1) 0)=H hk:=hv.cell;have w:=N.fix (z (G a)+2,aK,37) (by simp);have x:=N.fix (z (G a)+3,.nilIface,50) (by simp);have hX:aT W (R (z (G a)+1+1) 0)=H aK:=w.cell;have iu:W.frozen? (R (z (G a)+1+1) 0)=bF:=w.free;have hY:aT W (R (z (G a)+1+1+1) 0)=H .nilIface:=x.cell;have iv:W.frozen? (R (z (G a)+1+1+1) 0)=bF:=x.free;obtain⟨v,u,ca⟩:=aC q;obtain⟨dk,dm,HC,HV,ad,bf,bk,HK⟩:=EM w x N hv q ac P hK;clear N hv q ac P hK w x;subst ca;gi_wp2;have hB:=ae bf;have N:=ae HC;have n1:cE≠z (G a)+2:=λk=>al<|(hB _).2<|.inl ⟨(z (G a)+2,aK,37),by simp,k.symm⟩;have n2:cE≠z (G a)+3:=λk=>al<|(hB _).2<|.inl ⟨(z (G a)+3,.nilIface,50),by simp,k.symm⟩;have n3:¬bV (J v (y bd) u)=H cE:=λk=>al<|(hB _).2<|.inr<|.inr k;have dv:(bZ (bZ W (R (z (G a)+2) 0)<|J v (y bd) u) (R (z (G a)+3) 0) .nilIface).heap[cE]?=H (.deferred<|H []):=by
   rw[iq _ n2,iq _ n1];exact HK
  have T:dV (bZ (bZ W (R (z (G a)+2) 0)<|J v (y bd) u) (R (z (G a)+3) 0) .nilIface) (z (G a)+2) (J v (y bd) u) 37:=(dk.set _).other _ (by omega);have V:dV (bZ (bZ W (R (z (G a)+2) 0)<|J v (y bd) u) (R (z (G a)+3) 0) .nilIface) (z (G a)+3) .nilIface 50:=(dm.other _<|by omega).set _;have ax:=gD (bZ (bZ W (R (z (G a)+2) 0)<|J v (y bd) u) (R (z (G a)+3) 0) .nilIface) cE<|.deferred none;have el:Y (λF=>F=z (G a)+2\/F=z (G a)+3) W (bZ (bZ W (R (z (G a)+2) 0)<|J v (y bd) u) (R (z (G a)+3) 0) .nilIface):=((Y.refl (λF=>F=z (G a)+2\/F=z (G a)+3) W).setCell _ 0 _<|.inl<|.inl rfl).setCell _ 0 _<|.inl<|.inr rfl;have ba:=(el.mono (T:=λF=>F=z (G a)+2\/F=z (G a)+3\/F=cE)<|λF e=>.inl<|e.elim .inl<|λk=>.inr<|.inl k).trans ax<|λF e=>.inl<|.inr<|.inr e;have bi:∀F,z (G a)<=F->¬r.F F:=λF e hf=>by have:=hF F hf;omega
  have bh:∀F,(F=z (G a)+2\/F=z (G a)+3\/F=cE)->z (G a)<=F:=by have:=av.size;rintro F(k|k|k)<;>omega
  refine⟨by simp,.inl ⟨_,_,rfl,run_takeDeferred dv,?_⟩⟩;refine⟨_,zj rfl underlying37 _ _ (z (G a)+2) (z (G a)+3) (J v (y bd) u) .nilIface rfl rfl ?_ ?_,?_⟩
  .exact(dV.cell<|(ax.block _ (ak T)<|λk=>n1 k.symm).trans T)
  .exact(dV.cell<|(ax.block _ (ak V)<|λk=>n2 k.symm).trans V)
  .refine⟨_,rfl,?_,r.fi bk ba<|λF e=>bi F<|bh F e,N.aw.trans ba<|λF e=>.inr<|bh F e⟩;have q:=ae ad;have jK:=ba.own q (λF e k=>by
    have:=(q.lt F e).1;rcases k with k|k|k
    .omega
    .omega
    .subst k;exact n3 e)
   obtain⟨h1,⟨h2,h0⟩|⟨hn,hI,dn,h2,hl,o⟩⟩:=jK
   .exact⟨h1,.inl ⟨h2,h0⟩⟩
   .exact⟨h1,.inr ⟨hn,hI,dn,h2,by omega,o⟩⟩
 case body=>
  rintro lr d hj cm W ef fe kk gs⟨N,hcut⟩P;obtain⟨B,o⟩:=gs;have gi:=hcut (hj::B) (by rw[<-o];simp);have X:y d+1<=1000000000:=by
   have h1:=bU y o;have h2:=bU y cT;have h3:=fh (λcb=>!cb.del)<|Sv bt lo<|j.map (·.2);have A:=ae ex;simp at h1 h2;omega
  have es:hj.key.size<=281474976710656/\hj.val.size<=281474976710656:=hG hj (by
   have:hj∈(Sv bt lo<|j.map (·.2)).filter (λcb=>!cb.del):=by rw[ae cT,<-o];simp
   exact(cS.1 this).1)
  have gr:d.map yT++[yT hj]=(d++[hj]).map yT:=by simp
  obtain⟨HC,bk,ev,kf,db⟩:=jP N P gi hcut o;clear N P gi hcut o;obtain⟨f,i,s,g⟩:=hj;unfold Sw E.value;simp only at es;simp only;gi_wp2;refine⟨(Y.refl _ _).alloc _,λL bv=>?_⟩;have bq:PA r a p c (y d) (d.map yT) cm L:=(HC.stays ((Y.refl aB W).alloc<|ar #[ai f,ai i,aL s,aH g] 164) cG).stays bv (λF e=>by subst e;exact⟨fe,.inr (by have:=av.size;omega)⟩);have ds:ii L (z<|G W) ⟨f,i,s,g⟩:=ii.aw (aD _ rfl) bv (by omega);obtain⟨hk,hv,q,ac⟩:=bq.row;have hV:aT L (R (z<|G a) 0)=H (ai p):=(bq.fix (z<|G a,ai p,9)<|by simp).cell;have hW:aT L (R (z (G a)+1) 0)=H (ap c):=(bq.fix (z (G a)+1,ap c,3)<|by simp).cell;have cj:aT L (R (z (G a)+4) 0)=H hk:=hv.cell;obtain⟨v,u,ca⟩:=aC q;obtain⟨eb,ec,ip,it⟩:=ds.cells;obtain⟨eu,HV,ad,bf,ey,hq⟩:=kG bq hv q ac bv ds;have hb:z (G W)+1<=z (G L):=by have:=bv.size;simp at this;omega
  clear bq ds hv q ac bv;subst ca;have kn:=hb;have cl:Y (λF=>cm F\/F=lr) W L:=((Y.refl (λF=>cm F\/F=lr) W).alloc<|ar #[ai f,ai i,aL s,aH g] 164).trans ey<|λF e=>.inl<|.inr e;have bi:∀F,z (G a)<=F->¬r.F F:=λF e hf=>by have:=hF F hf;omega
  have cd:r.D L:=r.fi (r.fi bk ((Y.refl aB W).alloc _) cG) ey (λF e=>by subst e;exact bi _ (by have:=av.size;omega));by_cases t:(!(p.toList==[])&&!ic f p)=bW
  .have Q:bd=d.map yT:=by
    rw[ae ev,aY,vZ];exact dw t
   have gb:(p.toList==[])=bF:=by cases h1:(p.toList==[])<;>simp[h1]at t|-
   have dT:ic f p=bF:=by cases h2:ic f p<;>simp[h2]at t|-
   unfold ic at dT;obtain⟨dc,cM,bl⟩:=dC cl cd Q;clear cl cd Q t;gi_wp2;refine⟨cm,⟨rfl,?_,cM⟩,dc,rfl,λF e=>.inl e⟩;rw[ae bl,cU];exact eu
  .have ei:(p.toList==[])=bW\/((p.toList==[])=bF/\ic f p=bW):=by
    cases h1:(p.toList==[])<;>cases h2:ic f p<;>simp[h1,h2]at t|-
   have cs:bd=if((y d:Z)+1==c)=bW then d.map yT++[yT ⟨f,i,s,g⟩]else vZ p c (d.map yT++[yT ⟨f,i,s,g⟩]) (B.map yT):=by
    rw[ae ev,aY,vZ,cU];exact cW t
   have cn:=U cs;have bb:=ak hq;have cv:=ak HV;have bg:aT L.drew (R (z (G a)+1+1+1+1) 0)=H (J v (y d) u)/\aT L.drew (R (z<|G W) 0)=H (ai f)/\aT L.drew (R (z<|G W) 1)=H (ai i):=⟨cj,eb,ec⟩;have bn:=U (show∀C,Y aB L C->aT C (R (z (G a)+1+1+1+1) 0)=H (J v (y d) u)/\aT C (R (z<|G W) 0)=H (ai f)/\aT C (R (z<|G W) 1)=H (ai i)fromλC b=>⟨b.cell bg.1 id cv,b.cell bg.2.1 id bb,b.cell bg.2.2 id bb⟩);have ih:=λW=>vp f W es.1;have gg:=λW=>vp i W es.2;have hS:z (G a)+5<=z (G L):=by omega
   have dc:=U cl;have cM:=U cd;clear cl cd t cs;rcases ei with gb|⟨gb,dT⟩;case' inl=>gi_wp2_with fail
   case' inr=>unfold ic at dT;gi_wp2_with fail
   all_goals
    rename_i QQ KK fs;refine tL (λC=>aT C (R (z (G a)+1+1+1+1) 0)=H (J v (y d) u)/\aT C (R (z<|G W) 0)=H (ai f)/\aT C (R (z<|G W) 1)=H (ai i)) 10 (by kernel_rfl) (by kernel_rfl) (λll a h=>h) ?_;refine dA 0 ?_;iterate 3 (refine fw (v:=?_) bg rfl (by kernel_rfl) jU rfl ?_ ?_;rotate_left;(focus(rintro C⟨z0,z1,z2⟩;go_simp;try rfl));simp only[Act.put,du,Nat.reduceAdd])
    apply eX;refine dA 4 ?_;iterate 2 (refine fw (v:=?_) bg rfl (by kernel_rfl) jU rfl ?_ ?_;rotate_left;(focus(rintro C⟨z0,z1,z2⟩;go_simp;try rfl));simp only[Act.put,du,Nat.reduceAdd])
    apply eX;refine aP (i:=3) rfl rfl (by kernel_rfl) ?_;intro K3 ff;go_simp;apply(ih _).mono;rintro cb w4⟨rfl,gc⟩;have ek:Y aB L w4:=(cf aB L).ci<|Y.aW (S:=aB) gc;refine ff _ _ (λ_=>bn w4 ek) ?_;try simp only[Act.put,du]
    refine aP (i:=6) rfl rfl (by kernel_rfl) ?_;intro K6 fk;go_simp;apply(gg _).mono;rintro cb w5⟨rfl,ge⟩;have D:Y aB L w5:=ek.ci<|Y.aW (S:=aB) ge;refine fk _ _ (λ_=>bn w5 D) ?_;try simp only[Act.put,du]
    refine aP (i:=7) rfl rfl (by kernel_rfl) ?_;intro K7 fl;go_simp;refine fl _ _ (λ_=>bn w5 D) ?_;try simp only[Act.put,du]
    refine aP (i:=8) rfl rfl (by kernel_rfl) ?_;intro K8 fn;go_simp;have K:=D.alloc<|ar #[ai f,ai i] 68;refine fn _ _ (λ_=>bn _ K) ?_;try simp only[Act.put,du]
    have bu:=D.size;refine aP (i:=9) rfl rfl (by kernel_rfl) ?_;intro K9 fr;simp only[dj,cD,cO];refine kF (.tmp 36) (.tmp 44) 37 rfl (z (G a)+5) 68 i0 (eC #[ai ⟨#[]⟩,ai ⟨#[]⟩]) 2 32 underlying37 jC ka kb kc rfl (by decide) (J v (y d) u) (y d) (ib<|d.map yT) rfl (K.own ad<|λ_ _ k=>k) (R (z<|G w5) 0) 1 1 (qg<|yT ⟨f,i,s,g⟩) rfl rfl (NV _ (yT ⟨f,i,s,g⟩) _) (Xl _) (by omega) (by omega) (by simp;omega) ?_;intro v3 w3 ej em;obtain⟨x3,c3,jH⟩:=aC ej;subst jH;have bx:Y (λF=>bV (J v (y d) u)=H F) L w3:=(K.mono (T:=λF=>bV (J v (y d) u)=H F) cG).trans (Y.dN (S:=λF=>bV (J v (y d) u)=H F) em.grown<|λF e=>.inl e)<|λF e=>.inl e;have ea:dV w3 (z (G a)+4) (J v (y d) u) 37:=(bx.block _ cv (λk=>by have:=(ad.lt _ k).1;omega)).trans HV;have ed:¬bV (J v (y d) u)=H (z<|G W):=λk=>by have:=(HC.lt _<|(bf _).2<|.inr<|.inr k).2;omega
    have dx:aT w3 (R (z (G a)+1+1+1+1) 0)=H (J v (y d) u)/\aT w3 (R (z<|G W) 0)=H (ai f)/\aT w3 (R (z<|G W) 1)=H (ai i):=⟨ea.cell,bx.cell eb ed bb,bx.cell ec ed bb⟩;refine fr _ _ (λ_=>dx) ?_;simp only[Act.put,du];refine aP (i:=10) rfl rfl (by kernel_rfl) ?_;intro kt co;have il:=dx.1;have jA:w3.frozen? (R (z (G a)+1+1+1+1) 0)=bF:=ea.free;go_simp;refine co _ _ yR ?_;refine dp (by kernel_rfl) ?_ _;show KK _ _;apply fs;have fL:bV (J x3 (y d+1) c3)=bV (J v (y d) u)\/∃hn,bV (J x3 (y d+1) c3)=H hn/\z (G L)<=hn:=by
     rcases em.uc with ko|⟨hn,ko,ky⟩
     .exact .inl ko
     .exact .inr ⟨hn,ko,by simp at ky;omega⟩
    obtain⟨B',q1,q2,q3⟩:=eu.more HV bf ad bx fL ej;have bm:Hid (PA r a p c (y d+1) (d.map yT++[yT ⟨f,i,s,g⟩]) B'<|bZ w3 (R (z (G a)+1+1+1+1) 0)<|J x3 (y d+1) c3):=U (by unfold PA;rw[EF];exact q1);have cc:Hid (Y cm L<|bZ w3 (R (z (G a)+1+1+1+1) 0)<|J x3 (y d+1) c3):=U q2;have hy:=U q3;clear q1 q2 q3 fs ff fk fl fn fr co bx ea dx il jA ej em fL ed ek D K gc ge bg bn;obtain⟨W7,fz⟩:∃W7,bZ w3 (R (z (G a)+1+1+1+1) 0) (J x3 (y d+1) c3)=W7:=⟨_,rfl⟩;rw[fz]at bm cc|-;clear fz;obtain⟨v7,hd,cB,he⟩:=bm.row;obtain⟨x7,c7,hg⟩:=aC cB;subst hg;have kv:aT W7 (R (z (G a)+1+1+1+1) 0)=H (J x7 (y d+1) c7):=hd.cell;have kx:aT W7 (R (z (G a)+1) 0)=H (ap c):=(bm.fix (z (G a)+1,ap c,3)<|by simp).cell;have an:r.D W7:=r.fi cM cc<|λF e=>bi F (HC.lt F e).1;have fx:Y (λF=>cm F\/F=lr) W W7:=dc.trans cc<|λF e=>.inl<|.inl e;have cu:W7.heap[lr]?=L.heap[lr]?:=cc.block lr (by omega) fe;have fd:∀F,B' F->cm F\/z (G W)<=F:=λF e=>(hy F e).imp_right (λk=>by omega);have A:=U<|And.intro an (And.intro fx (And.intro cu fd));clear an fx cu fd hd cB he hV hW cj eb ec ip it;by_cases bs:(y d:Z)+1=c
    .have ck:((y d:Z)+1==c)=bW:=by simpa using bs
     have Q:bd=d.map yT++[yT ⟨f,i,s,g⟩]:=by rw[ae cn];exact dw ck
     have bl:=U Q;clear Q;gi_wp2;refine⟨B',⟨rfl,?_,A.1⟩,A.2.1,A.2.2.1,A.2.2.2⟩;rw[ae bl,af,cU];exact bm
    .have ck:¬((y d:Z)+1==c)=bW:=by simpa using bs
     have Q:bd=vZ p c (d.map yT++[yT ⟨f,i,s,g⟩]) (B.map yT):=by rw[ae cn];exact cW ck
     have bl:=U Q;have kz:((y d:Z)+1==c)=bF:=by simpa using bs
     clear Q ck;gi_wp2;refine⟨A.1,B',⟨?_,λet jD=>?_⟩,A.2.1,A.2.2.1,A.2.2.2⟩
     .rw[af,<-gr];exact bm
     .have jE:B=et:=by
       have:=ae db;rw[jD]at this;exact List.append_cancel_left this
      rw[<-jE,<-gr];exact bl
 case done=>
  rintro cE cm W hN⟨N,hcut⟩al P hK;have f:bd=hH.map yT:=by rw[hcut []<|by simp];rfl
  have N:PA r a p c (y bd) bd cm W:=by rw[f,cU];exact N
  clear f hcut;obtain⟨hk,hv,q,ac⟩:=N.row;have cj:aT W (R (z (G a)+1+1+1+1) 0)=H hk:=hv.cell;have w:=N.fix (z (G a)+2,aK,37) (by simp);have x:=N.fix (z (G a)+3,.nilIface,50) (by simp);have hX:aT W (R (z (G a)+1+1) 0)=H aK:=w.cell;have iu:W.frozen? (R (z (G a)+1+1) 0)=bF:=w.free;have hY:aT W (R (z (G a)+1+1+1) 0)=H .nilIface:=x.cell;have iv:W.frozen? (R (z (G a)+1+1+1) 0)=bF:=x.free;obtain⟨v,u,ca⟩:=aC q;obtain⟨dk,dm,HC,HV,ad,bf,bk,HK⟩:=EM w x N hv q ac P hK;clear N hv q ac P hK w x;subst ca;gi_wp2;have hB:=ae bf;have N:=ae HC;have n1:cE≠z (G a)+2:=λk=>al<|(hB _).2<|.inl ⟨(z (G a)+2,aK,37),by simp,k.symm⟩;have n2:cE≠z (G a)+3:=λk=>al<|(hB _).2<|.inl ⟨(z (G a)+3,.nilIface,50),by simp,k.symm⟩;have n3:¬bV (J v (y bd) u)=H cE:=λk=>al<|(hB _).2<|.inr<|.inr k;have dv:(bZ (bZ W (R (z (G a)+2) 0)<|J v (y bd) u) (R (z (G a)+3) 0) .nilIface).heap[cE]?=H (.deferred<|H []):=by
   rw[iq _ n2,iq _ n1];exact HK
  have T:dV (bZ (bZ W (R (z (G a)+2) 0)<|J v (y bd) u) (R (z (G a)+3) 0) .nilIface) (z (G a)+2) (J v (y bd) u) 37:=(dk.set _).other _ (by omega);have V:dV (bZ (bZ W (R (z (G a)+2) 0)<|J v (y bd) u) (R (z (G a)+3) 0) .nilIface) (z (G a)+3) .nilIface 50:=(dm.other _<|by omega).set _;have ax:=gD (bZ (bZ W (R (z (G a)+2) 0)<|J v (y bd) u) (R (z (G a)+3) 0) .nilIface) cE<|.deferred none;have el:Y (λF=>F=z (G a)+2\/F=z (G a)+3) W (bZ (bZ W (R (z (G a)+2) 0)<|J v (y bd) u) (R (z (G a)+3) 0) .nilIface):=((Y.refl (λF=>F=z (G a)+2\/F=z (G a)+3) W).setCell _ 0 _<|.inl<|.inl rfl).setCell _ 0 _<|.inl<|.inr rfl;have ba:=(el.mono (T:=λF=>F=z (G a)+2\/F=z (G a)+3\/F=cE)<|λF e=>.inl<|e.elim .inl<|λk=>.inr<|.inl k).trans ax<|λF e=>.inl<|.inr<|.inr e;have bi:∀F,z (G a)<=F->¬r.F F:=λF e hf=>by have:=hF F hf;omega
  have bh:∀F,(F=z (G a)+2\/F=z (G a)+3\/F=cE)->z (G a)<=F:=by have:=av.size;rintro F(k|k|k)<;>omega
  refine⟨by simp,.inl ⟨_,_,rfl,run_takeDeferred dv,?_⟩⟩;refine⟨_,zj rfl underlying37 _ _ (z (G a)+2) (z (G a)+3) (J v (y bd) u) .nilIface rfl rfl ?_ ?_,?_⟩
  .exact(dV.cell<|(ax.block _ (ak T)<|λk=>n1 k.symm).trans T)
  .exact(dV.cell<|(ax.block _ (ak V)<|λk=>n2 k.symm).trans V)
  .refine⟨_,rfl,?_,r.fi bk ba<|λF e=>bi F<|bh F e,N.aw.trans ba<|λF e=>.inr<|bh F e⟩;have q:=ae ad;have jK:=ba.own q (λF e k=>by
    have:=(q.lt F e).1;rcases k with k|k|k
    .omega
    .omega
    .subst k;exact n3 e)
   obtain⟨h1,⟨h2,h0⟩|⟨hn,hI,dn,h2,hl,o⟩⟩:=jK
   .exact⟨h1,.inl ⟨h2,h0⟩⟩
   .exact⟨h1,.inr ⟨hn,hI,dn,h2,by omega,o⟩⟩
end
section
open Go.Conc.Locks
def sO(b:Z)(d c:ab)(a:Z)(e:dW):iH:=vZ c a []<|((Sv b d e).filter<|λf=>!f.del).map yT
def sr(s:SR)(m:cA)(a b c d:cP):(qB s m a b c d).map (·.2)=m::cF a b c d:=by
 simp[qB,cF,uE,mY]
def Vl(a:cP):y ((a.map bJ.all).reverse).flatten=y (cg a):=by
 unfold cg;rw[rR,rR,uE,List.sum_reverse]
def ST.flat(h:ST a b n j e i p t u c):y (e::cF i p t u).flatten<=c:=by
 have f:=h.qI;have d:=Vl i;unfold cF;rw[aX,dP];simp only[af,d,aX,fM,cL];omega
def ST.UC(k:ST a b n j e i p t u c):∀x∈(e::cF i p t u).flatten,x.Good:=by
 intro x f;rw[<-sr n]at f;obtain⟨l,g,d⟩:=bz.1 f;obtain⟨r,h,rfl⟩:=aZ.1 g;exact k.Kv r h x d
def yX(w a:I)(v:aa)(l:iH):Prop:=a.ownsRow (z<|G w) 68 2 v (y l)<|ib l
def KP(k g:ab)(d h:Z)(q:bL a b n m)(f:ST a b n j e i p t u c):cy bG 105 #[aA b,ai k,ai g,ap d,aH h] a λB o=>∃s,B=aO (dB #[s,.nilIface])/\yX a o s (sO h k g d<|e::cF i p t u)/\(ql n.aN j).D o/\Y (ql n.aN j).F a o:=by
 obtain⟨x,w,l⟩:=bM f.mem
 have r:=QU (z<|G a) (n.l0,i) (n.l1,p) (n.l2,t) (n.l3,u) (qB n e i p t u) k g d h q x (y e) w l (f.Yo q) (Gv n e i p t u) (λC g=>f.Xt _<|aq g) f.KU (ah _) f.aN.lt (by
  rw[sr];intro A v;have:=f.UC A (Wv _ _ _ A v);exact⟨by have:=this.LD;omega,by have:=this.val;omega⟩)
  (by
   rw[sr];have:=Ww h k (e::cF i p t u);have:=f.flat;have:=f.mJ;omega)
 rw[sr]at r;exact r
def Pc(o l:ab)(d g:Z)(r:bL a b n m)(f:ST a b n j e i p t u c):cy bG 61 #[aA b,ai o,ai l,ap d,aH g] a λx q=>∃s,x=aO (dB #[s,.nilIface])/\yX a q s (sO g o l d<|e::cF i p t u)/\(ql n.aN j).D q/\Y (ql n.aN j).F a q:=by
 have w:=KP o l d g r f;clear r f;go_in
 go_wp2_with fail
 apply w.mono;rintro x D⟨C,rfl,k⟩;obtain⟨B,A,rfl⟩:=aC k.1;have v:=U k;clear k;go_wp2;go_ret2
 exact⟨_,rfl,v⟩
def yX.unlock(h:yX a f d K)(c:b<z (G a)):yX a (bZ f (R b 0) s) d K:=by
 unfold yX at h|-;exact h.kept (cV f _ _ _) (by right;intro e;have:=(h.lt _ e).1;omega)
def Km(w u:ab)(d:Z)(h:bL a b n 0)(m:n.closed=bW):cy bG 31 #[aA b,ai w,ai u,ap d] a λo l=>o=aO (dB #[aK,lE 6])/\bL l b n 0/\Y (λv=>v=b) a l:=by
 have q:=bL.cellAt h 0 rfl;have s:a.frozen? (R b 0)=bF:=h.free;have k:=h.gO 1;have c:=iZ k;rw[m]at c;simp only[je]at c;have p:=U<|λi j=>rl (W2:=i) k ((Y.refl (λv=>v=b) a).setCell b 0 _<|.inl rfl) j;clear h k m;rw[xL]at c|-;go_enter_defers func31,ntmps31
 go_wp2_with fail
 apply(lock_free (R b 0) _ q s).mono;rintro o l⟨rfl,rfl⟩;go_wp2_with fail
 apply c.mono;rintro o i⟨rfl,j⟩;obtain⟨r,t,e⟩:=p i j;have g:=U e;clear e j c;go_wp2;refine eY (f:=40) (args:=#[aA b]) (by simp) (by simp[go_sem]) ?_;apply(unlock_deferred (R b 0) .returning _ r t).mono;rintro o A x⟨rfl,rfl,rfl⟩;exact⟨_,kP rfl _ _ _,rfl,g⟩
def Qw(V S:ab)(d:Z)(h:bL a b n 0)(N:ST a b n j e i p t u c)(hc:n.closed=bF):cy bG 31 #[aA b,ai V,ai S,ap d] a λQ x=>∃v',Q=aO (dB #[v',.nilIface])/\yX a x v' (sO n.bC V S d<|e::cF i p t u)/\tw a x b n j e i p t u c:=by
 have C:=ak h;have c0:=bL.cellAt h 0 rfl;have f0:a.frozen? (R b 0)=bF:=h.free;have s:=kX N.aN N.rV 1;have L:=h.gO 1;have F:z (G<|bZ a (R b 0)<|jk 1)=z (G a):=gz;generalize hW:bZ a (R b 0) (jk 1)=o at s L F;have w:=iZ L;rw[hc]at w;have l:cy bG 41 #[aA b] o λQ x=>Q=aO .nilIface/\Below (z<|G o) o x:=w;have HX:=U<|λg(q:Below (z<|G o) o g)=>rm (W2:=g) L N C s q;have HG:=U (show∀g m X W,Below (z<|G o) o g->yX g m X W->yX a (bZ m (R b 0)<|jk 0) X W fromλg m X W q hg=>by have:yX a m X W:=eQ hg (by have:=q.size;omega);exact this.unlock C);have HW:=U hW;clear h N s L hc hW w F;go_enter_defers func31,ntmps31
 go_wp2_with fail
 apply(lock_free (R b 0) _ c0 f0).mono;rintro Q x⟨rfl,T⟩;rw[ae HW]at T;subst x;go_wp2_with fail
 apply l.mono;rintro Q g⟨rfl,q⟩;obtain⟨r,E,k⟩:=HX g q;have D:=Pc V S d n.bC r E;have c9:=bL.cellAt r 9 rfl;have A:=U k;have O:=U<|λm X W=>HG g m X W q;clear r E k q l;go_wp2_with fail
 apply D.mono;rintro Q m⟨v2,rfl,v,B,K⟩;obtain⟨px,pc,rfl⟩:=aC v;obtain⟨d0,g0,hF⟩:=A m B K;have HF:=U hF;have P:=U<|O _ _ _ v;clear B K hF D v;go_wp2;refine eY (f:=40) (args:=#[aA b]) (by simp) (by simp[go_sem]) ?_;apply(unlock_deferred (R b 0) .returning _ d0 g0).mono;rintro Q u' ac⟨rfl,rfl,rfl⟩;exact⟨_,kP rfl _ _ _,J px _ pc,rfl,P,HF⟩
def Ih(v t:ab)(h:bL a b n 0)(l:n.closed=bW):cy bG 106 #[aA b,ai v,ai t] a λm k=>m=aO aK/\bL k b n 0/\Y (λu=>u=b) a k:=by
 have p:=bL.cellAt h 0 rfl;have r:a.frozen? (R b 0)=bF:=h.free;have j:=h.gO 1;have c:=iZ j;rw[l]at c;simp only[je]at c;have o:=U<|λg i=>rl (W2:=g) j ((Y.refl (λu=>u=b) a).setCell b 0 _<|.inl rfl) i;clear h j l;rw[xL]at c;go_enter_defers func106,ntmps106
 go_wp2_with fail
 apply(lock_free (R b 0) _ p r).mono;rintro m k⟨rfl,rfl⟩;go_wp2_with fail
 apply c.mono;rintro m g⟨rfl,i⟩;obtain⟨q,s,d⟩:=o g i;have e:=U d;clear d i c;go_wp2;refine eY (f:=40) (args:=#[aA b]) (by simp) (by simp[go_sem]) ?_;apply(unlock_deferred (R b 0) .returning _ q s).mono;rintro m x w⟨rfl,rfl,rfl⟩;exact⟨_,gK rfl _ _ _,rfl,e⟩
def MQ(T Q:ab)(h:bL a b n 0)(L:ST a b n j e i p t u c)(hc:n.closed=bF):cy bG 106 #[aA b,ai T,ai Q] a λP w=>∃v',P=aO v'/\yX a w v' (sO n.bC T Q 0<|e::cF i p t u)/\tw a w b n j e i p t u c:=by
 have B:=ak h;have c0:=bL.cellAt h 0 rfl;have f0:a.frozen? (R b 0)=bF:=h.free;have r:=kX L.aN L.rV 1;have K:=h.gO 1;have E:z (G<|bZ a (R b 0)<|jk 1)=z (G a):=gz;generalize X:bZ a (R b 0) (jk 1)=m at r K E;have v:=iZ K;rw[hc]at v;have k:cy bG 41 #[aA b] m λP w=>P=aO .nilIface/\Below (z<|G m) m w:=v;have HX:=U<|λd(o:Below (z<|G m) m d)=>rm (W2:=d) K L B r o;have HG:=U (show∀d l W V,Below (z<|G m) m d->yX d l W V->yX a (bZ l (R b 0)<|jk 0) W V fromλd l W V o hg=>by have:yX a l W V:=eQ hg (by have:=o.size;omega);exact this.unlock B);have HW:=U X;clear h L r K hc X v E;go_enter_defers func106,ntmps106
 go_wp2_with fail
 apply(lock_free (R b 0) _ c0 f0).mono;rintro P w⟨rfl,S⟩;rw[ae HW]at S;subst w;go_wp2_with fail
 apply k.mono;rintro P d⟨rfl,o⟩;obtain⟨q,D,g⟩:=HX d o;have C:=KP T Q 0 n.bC q D;have c9:=bL.cellAt q 9 rfl;have x:=U g;have N:=U<|λl W V=>HG d l W V o;clear q D g o k;go_wp2_with fail
 apply C.mono;rintro P l⟨v2,rfl,s,A,F⟩;obtain⟨px,pc,rfl⟩:=aC s;obtain⟨d0,g0,hF⟩:=x l A F;have HF:=U hF;have O:=U<|N _ _ _ s;clear A F hF C s;go_wp2;refine eY (f:=40) (args:=#[aA b]) (by simp) (by simp[go_sem]) ?_;apply(unlock_deferred (R b 0) .returning _ d0 g0).mono;rintro P u' ac⟨rfl,rfl,rfl⟩;exact⟨_,gK rfl _ _ _,J px _ pc,rfl,O,HF⟩
def FD(A:Z)(w u:ab)(c:Z)(h:bL a b n 0)(m:n.closed=bW):cy bG 37 #[aA b,ap A,ai w,ai u,ap c] a λo l=>o=aO (dB #[aK,lE 6])/\bL l b n 0/\Y (λv=>v=b) a l:=by
 have q:=bL.cellAt h 0 rfl;have s:a.frozen? (R b 0)=bF:=h.free;have k:=h.gO 1;have e:=uq A k m;have p:=U<|λi j=>rl (W2:=i) k ((Y.refl (λv=>v=b) a).setCell b 0 _<|.inl rfl) j;clear h k m;rw[xL]at e|-;go_enter_defers func37,ntmps37
 go_wp2_with fail
 apply(lock_free (R b 0) _ q s).mono;rintro o l⟨rfl,rfl⟩;go_wp2_with fail
 apply e.mono;rintro o i⟨rfl,j⟩;obtain⟨r,t,d⟩:=p i j;have g:=U d;clear d j e;go_wp2;refine eY (f:=40) (args:=#[aA b]) (by simp) (by simp[go_sem]) ?_;apply(unlock_deferred (R b 0) .returning _ r t).mono;rintro o B x⟨rfl,rfl,rfl⟩;exact⟨_,kP rfl _ _ _,rfl,g⟩
def Ko(B:fS)(ac:Z)(lo hi:ab)(g:Z)(h:bL a b n 0)(v:ST a b n j e i p t u c)(q:Ga a j b n B)(F:n.closed=bF)(K:oV B ac=none):cy bG 37 #[aA b,ap ac,ai lo,ai hi,ap g] a λO C=>O=aO (dB #[aK,lE 5])/\tw a C b n j e i p t u c:=by
 have x:=ak h;have T:=bL.cellAt h 0 rfl;have W:a.frozen? (R b 0)=bF:=h.free;have k:=kX v.aN v.rV 1;have r:=h.gO 1;generalize E:bZ a (R b 0) (jk 1)=D at k r;obtain⟨mb,L,N,q3⟩:=(q.fq k).ex;have d:=rB ac B r F L N;rw[K]at d;simp only at d;rw[Oo]at d|-;have S:=U<|λm(s:Below (z<|G D) D m)=>rm (W2:=m) r v x k s;have Q:=U E;clear h v k r F E q L N q3 K;go_enter_defers func37,ntmps37
 go_wp2_with fail
 apply(lock_free (R b 0) _ T W).mono;rintro O C⟨rfl,A⟩;rw[ae Q]at A;subst C;go_wp2_with fail
 apply d.mono;rintro O m⟨rfl,s⟩;obtain⟨w,o,l⟩:=S m s;obtain⟨V,X,hF⟩:=l m o.KU<|Y.refl _ _;have P:=U hF;clear w o l s d hF;go_wp2;refine eY (f:=40) (args:=#[aA b]) (by simp) (by simp[go_sem]) ?_;apply(unlock_deferred (R b 0) .returning _ V X).mono;rintro O u' ad⟨rfl,rfl,rfl⟩;exact⟨_,kP rfl _ _ _,rfl,P⟩
def Kn(W:fS)(al:Z)(ao:M)(V S:ab)(d:Z)(C:Ga a j b n W)(L:oV W al=H ao)(h:bL a b n 0)(N:ST a b n j e i p t u c)(hc:n.closed=bF):cy bG 37 #[aA b,ap al,ai V,ai S,ap d] a λad O=>∃v',ad=aO (dB #[v',.nilIface])/\yX a O v' (sO ao V S d<|e::cF i p t u)/\tw a O b n j e i p t u c:=by
 have x:=ak h;have c0:=bL.cellAt h 0 rfl;have f0:a.frozen? (R b 0)=bF:=h.free;have k:=kX N.aN N.rV 1;have K:=h.gO 1;have D:z (G<|bZ a (R b 0)<|jk 1)=z (G a):=gz;generalize hW:bZ a (R b 0) (jk 1)=F at k K D;obtain⟨mb,q1,q2,q3⟩:=(C.fq k).ex;have l:=rB al W K hc q1 q2;rw[L]at l;simp only at l;have HX:=U<|λg(q:Below (z<|G F) F g)=>rm (W2:=g) K N x k q;have HG:=U (show∀g o ac X,Below (z<|G F) F g->yX g o ac X->yX a (bZ o (R b 0)<|jk 0) ac X fromλg o ac X q L=>by have:yX a o ac X:=eQ L (by have:=q.size;omega);exact this.unlock x);have HW:=U hW;clear h N k K hc hW D C q1 q2 q3 L;go_enter_defers func37,ntmps37
 go_wp2_with fail
 apply(lock_free (R b 0) _ c0 f0).mono;rintro ad O⟨rfl,T⟩;rw[ae HW]at T;subst O;go_wp2_with fail
 apply l.mono;rintro ad g⟨rfl,q⟩;obtain⟨r,B,m⟩:=HX g q;have A:=Pc V S d ao r B;have c9:=bL.cellAt r 9 rfl;have v:=U m;have P:=U<|λo ac X=>HG g o ac X q;clear r B m q l;go_wp2_with fail
 apply A.mono;rintro ad o⟨v2,rfl,s,w,E⟩;obtain⟨px,pc,rfl⟩:=aC s;obtain⟨d0,g0,hF⟩:=v o w E;have HF:=U hF;have Q:=U<|P _ _ _ s;clear w E hF A s;go_wp2;refine eY (f:=40) (args:=#[aA b]) (by simp) (by simp[go_sem]) ?_;apply(unlock_deferred (R b 0) .returning _ d0 g0).mono;rintro ad u' an⟨rfl,rfl,rfl⟩;exact⟨_,kP rfl _ _ _,J px _ pc,rfl,Q,HF⟩
end
section
open Go.Shelf
attribute [local go_sem] Oper.semAt_some
def Sc(a:M)(s:SR):jj:=⟨λw=>bL w a s 0,λk=>k=a,λ{_ _ _}h d c=>(d.block a (ak h)<|λe=>c _ e rfl).trans h,λ{_ _}h b=>by subst b;exact ak h⟩
def PK(p:KV):Array aa:=#[ai p.1,ai p.2]
def Hw(n0 cx:M)(e:M)(ca:SR)(f:iH)(V:dV a b d 37)(S:dV a c (aA e) 35)(hr:Row a 2 d (y f) (ib f))(h1:b≠e)(h2:c≠e)(h3:∀k,bV d=H k->k<z (G a)/\k≠e)(cm:e<n0)(bg:n0<=z (G a))(cn:y f<=1000000000):PP PK (Sc e ca) n0 cx 107 #[aA b,aA c] (if ca.closed then []else f) (λk=>k=b\/k=c\/bV d=H k) a:=by
 intro lr cp Jx cu cv hs hD hJ ba r bl hY;obtain⟨co,X,hv⟩:=bM hr;have ck:aT cv (R b 0)=H d:=hs.cell (.inl<|.inl rfl) V.cell;have L:∀k,(k=b\/k=c\/bV d=H k)->k<z (G a)/\k≠e:=by rintro k(q|q|q);rw[q];exact⟨ak V,h1⟩;rw[q];exact⟨ak S,h2⟩;exact h3 k q
 obtain⟨n,HB,HR,cj,HS,HJ⟩:=kG L S hr h3 hs hJ;obtain⟨HD,br,HY,ad,an⟩:=jP hD ba hY r bl;clear V S hr h3 hs hJ ba r bl hY hD L h1;subst hv;obtain⟨W,bc⟩:∃W,ca.closed=W:=⟨_,rfl⟩;rw[bc]at HY|-;obtain⟨ch,hl⟩:∃ch,(if W=bW then []else f)=ch:=⟨_,rfl⟩;rw[hl]at HY|-;have x:=U hl;clear hl;refine qS func107 rfl trivial ?_ rfl;simp only[ntmps107,eR,ay,cL,Nat.reduceAdd,Nat.reduceSub,dS,dR,eS,er,cC,cq];gi_wp2;gi_loopw [8] (λi wr=>∃(s:M)(N:fJ),i=ap (s:Z)/\s<=y f/\(W=bW->s=0)/\cp (f.take s) N wr/\bL wr e ca 0/\(∀k,(k=b\/k=c\/bV (J co (y f) X)=H k)->¬N k)/\jz (Sc e ca) n0 (λk=>k=b\/k=c\/bV (J co (y f) X)=H k) a wr) (λi _=>y f-(intOf i).toNat)
 case atStart=>exact⟨0,cu,by go_num,bA _,λ_=>rfl,HJ,HD,br,HS⟩
 case round=>
  obtain⟨s,N,rfl,hj,B,A,u,K,g⟩:=hrel;have F:=U K;clear K;by_cases r:s<y f
  .have e1:(s:Z)<(y f:Z):=by omega
   have e2:(0:Z)<=(s:Z):=by omega
   have hg:=nM f s r;have bd:∃cd j,co=H (R cd j)/\aT wr (R cd<|j+s*2)=H (ai f[s].1)/\aT wr (R cd<|j+s*2+1)=H (ai f[s].2):=by
    obtain⟨q1,⟨q2,q0⟩|⟨ax,al,ao,q2,au,hc⟩⟩:=ae HR
    .omega
    .cases q2;exact⟨ax,al,rfl,g.cell (.inl<|.inr<|.inr rfl)<|hc _ _ hg.1,g.cell (.inl<|.inr<|.inr rfl) (by rw[aV];exact hc _ _ hg.2)⟩
   obtain⟨cd,j,hx,bv,bx⟩:=bd;subst hx;have cl:aT wr (R c 0)=H (aA e):=g.cell (.inl<|.inr<|.inl rfl) HB.cell;have bk:e<z (G wr):=ak u;have cb:c<z (G wr):=ag (ak HB) g.1;have E:=U (show(f.take s++[f[s]])<+:f/\f.take s++[f[s]]=f.take (s+1)by
    rw[<-aj r];exact⟨List.take_prefix _ _,rfl⟩)
   obtain⟨t,O,bs,P⟩:=gx A u g B;clear A u g hg B;generalize f[s]=pj at*;obtain⟨C,D⟩:=pj;simp only at bv bx;have HQ:=U (show∀w,Y (λk=>k=e) (ct wr<|ar #[ai C,ai D] 68) w->cp (f.take s) N w/\aT w (R (z<|G wr) 0)=H (ai C)/\aT w (R (z<|G wr) 1)=H (ai D)/\Y (λk=>k=e) wr w fromλw i=>by
    have au:Y aB wr (ct wr (ar #[ai C,ai D] 68)):=(Y.refl aB wr).alloc _;have ao:(ct wr (ar #[ai C,ai D] 68)).heap[z (G wr)]?=H (ar #[ai C,ai D] 68 (0,0)):=aD _ rfl;have al:=(i.block _ (ak ao) (by omega)).trans ao;refine⟨an _ _ _ _ _ (an _ _ _ _ _ t au cG) i (λk l=>⟨λX=>?_,.inl l⟩),by rw[bN al];rfl,by rw[bN al];rfl,(au.mono (T:=λk=>k=e) cG).trans i (λk l=>.inl l)⟩;have:=(ad _ _ _ t k X).1;omega)
   have av:bL (ct wr<|ar #[ai C,ai D] 68) e ca 0:=(((Y.refl aB wr).alloc<|ar #[ai C,ai D] 68).block e bk id).trans O;have v:=IY av;rw[bc]at v;clear av;cases W with
   |true=>
    have h0:s=0:=P rfl;have HZ:=U h0;clear h0;gi_wp2_with(refine⟨trivial,(λX=>(by cases X)),?_⟩;gi_at_call 108;refine(cX.2 v).mono ?_;rintro cs w⟨rfl,p,i⟩;obtain⟨o,k0,k1,m⟩:=HQ w i;have Q:=U o;have ac:=U p;clear o p m i)
    refine⟨λ_ h=>(by cases h),?_⟩;gi_wp2;refine cI (iP rfl _ _ _) rfl ?_;refine⟨⟨_,rfl⟩,.inl ⟨N,?_,ac⟩⟩;rw[<-ae x];have:=ae Q;rw[ae HZ]at this;exact this
   |false=>
    have bf:f=ch:=ae x;have bh:(f.take s++[(C,D)])<+:ch:=E.1.trans (by rw[bf];exact uD _);have al:=U bh;clear bh bf;gi_wp2_with(refine⟨trivial,(λX=>(by cases X)),?_⟩;gi_at_call 108;refine(cX.2 v).mono ?_;rintro cs w⟨rfl,p,i⟩;obtain⟨o,k0,k1,m⟩:=HQ w i;obtain⟨fn,cc,bm,body,hy,hR⟩:=HY (f.take s) (C,D) N w al o p;unfold PK at hy;simp only at hy;have bq:=U hR;have Q:=U o;have ac:=U p;have bt:=U m;clear o p m i hR)
    refine⟨(λX=>(by cases X)),bq.mono ?_⟩;rintro cs W3(⟨rfl,au,B3,ax,bb,ao⟩|⟨rfl,hx⟩)
    .have bp:=U ax;obtain⟨bu,bn,bo⟩:=dC bb ao au;clear ax bb ao au;gi_wp2;go_roundw;case rel=>
      have g:=ae bs;have m:=ae bt;have bT:=m.size;have bi:=g.1;refine⟨s+1,B3,by go_num,r,(λX=>(by cases X)),(by rw[<-(ae E).2];exact bp),bo,λk l ce=>?_,?_⟩
      .have:=(n k l).1;rcases bn k ce with ce|ce
       .exact F k l ce
       .omega
      .refine g.trans<|(m.same (aE bg bi) (λk l=>⟨by have:=(n k l).1;omega,(n k l).2⟩)<|λk l _=>l).trans ?_;exact bu.same (aE bg<|aE bi bT) (λk l=>⟨by have:=(n k l).1;omega,F k l⟩) (λk l a=>by have:=(ad _ _ _ Q k l).1;omega)
     case measure=>simp[intOf];omega
    .have HX:=U hx;clear hx;gi_wp2;refine cI (iP rfl _ _ _) rfl ?_;exact⟨⟨_,rfl⟩,.inr ⟨_,HX⟩⟩
  .have e1:¬(s:Z)<(y f:Z):=by omega
   have i:s=y f:=by omega
   obtain⟨t,O,P⟩:=dC A u B;clear A u g B;gi_wp2;refine vz (iP rfl _ _ _) rfl ?_;refine⟨⟨_,rfl⟩,.inl ⟨⟨N,?_⟩,O⟩⟩;cases W with
   |true=>
    have h0:=P rfl;rw[<-ae x];have:=ae t;rw[h0]at this;exact this
   |false=>
    have:=ae t;rw[cR<|by omega]at this;rw[<-ae x];exact this
structure MB(w w':I)(sb:M)(v:aa)(ps:iH)(bt bs:M):Prop where
 val:v=.func (.func 107) #[] #[aA bt,aA bs]
 row:∃u,dV w' bt u 37/\yX w w' u ps
 ptr:dV w' bs (aA sb) 35
 ge:z (G w)<=bt/\z (G w)<=bs
def Vk(w:I)(a:M)(s q:ab)(o:iH)(P:I->Prop)(r:∀W,Y aB w W->z (G w)<z (G W)->cy bG 106 #[aA a,ai s,ai q] W λu c=>∃t,u=aO t/\yX W c t o/\W.heap[z<|G w]?=c.heap[z<|G w]?/\P c)(p:∀W D,P W->P (ct W D)):cy bG 64 #[aA a,ai s,ai q] w λu c=>∃C A x,u=aO C/\MB w c a C o A x/\P c:=by
 have i:Y aB w (ct w<|ar #[aA a] 35):=(Y.refl aB w).alloc _;have j:=r _ i (by simp);have g:dV (ct w<|ar #[aA a] 35) (z<|G w) (aA a) 35:=aD _ rfl;have k:=U g;have v:=U p;clear r p i g;go_in
 go_wp2_with fail
 apply j.mono;rintro u F⟨E,rfl,b,f,e⟩;obtain⟨B,c1,n⟩:=aC b;subst n;obtain⟨l,m,d⟩:=dC b e<|f.symm.trans k;clear b f e j;go_wp2;go_ret;refine⟨_,_,_,rfl,⟨rfl,⟨_,aD _ rfl,?_⟩,?_,?_⟩,v _ _ m⟩;have:=ae l;unfold yX at this|-;exact eQ (aS this<|ar #[J B (y o) c1] 37) (by simp);exact dV.alloc d _;have:=ak d;omega
def Fi(h e:ab)(r:bL a b n 0)(p:n.closed=bW):cy bG 64 #[aA b,ai h,ai e] a λq c=>∃v m l,q=aO v/\MB a c b v [] m l/\bL c b n 0/\Y (λk=>k=b) a c:=by
 have g:=ak r;refine Vk a b h e [] (λc=>bL c b n 0/\Y (λk=>k=b) a c) (λW i f=>?_)<|λW u d=>⟨(fX _<|ak d.1).trans d.1,d.2.alloc u⟩;apply(Ih h e ((i.block b g id).trans r) p).mono;rintro q c⟨rfl,o,j⟩;exact⟨_,rfl,bK _ _ _ _,(j.block _ f<|by omega).symm,o,(i.mono (T:=λk=>k=b) cG).trans j<|λ_ c=>.inl c⟩
def Mt{K:DK}{m:cA}{a b c d:cP}{C:M}(s r:ab)(O:bL f g n 0)(A:ST f g n K m a b c d C)(F:n.closed=bF):cy bG 64 #[aA g,ai s,ai r] f λN p=>∃P E D,N=aO P/\MB f p g P (sO n.bC s r 0<|m::cF a b c d) E D/\tw f p g n K m a b c d C:=by
 have o:=ak O;have l:∀{f W:I}{K:DK},cK f n.aN K->Y aB f W->gw f W n.aN g K K:=λi j=>⟨i.aw j<|λ_ _=>id,j.mono cG,λ_ q=>.inl q⟩;refine Vk f g s r _ (λp=>tw f p g n K m a b c d C) (λW j x=>?_) ?_;have i:=l A.aN j;have B:=A.fq o i rfl;apply(MQ s r ((j.block g o id).trans O) B F).mono;rintro N p⟨Q,rfl,L,t,e,u,v,w,k,h⟩;refine⟨_,rfl,L,(e.aw.block _ x ?_).symm,t,i.trans e,u,v,w,k,h⟩;rintro(q|q);have:=A.aN.lt _ q;omega;omega;rintro W L⟨t,i,u,v,w,k,h⟩;have B:Y aB W (ct W L):=(Y.refl aB W).alloc L;have e:=l h.aN B;exact⟨t,i.trans e,u,v,w,(B.block g (ak k) id).trans k,h.fq (ak k) e rfl⟩
end
section
open Go.Shelf
attribute [local go_sem] Oper.semAt_some
def CA(c:I)(b:M)(e:fJ)(a:Z)(d:iH)(B:fJ)(W:I):Prop:=Acc e c [(z<|G c,ap a,3)] (z (G c)+1) 37 68 2 b (y d) (ib d) B W
def Cd(w:I)(b:M)(cp:SR)(lo hi:ab)(a:Z)(ps:iH)(et:I->Prop)(F:fJ)(cm:0<a)(ej:b<z (G w))(hF:∀k,F k->k<z (G w))(hA:∀W,Y aB w W->z (G W)=z (G w)+2->cy bG 64 #[aA b,ai lo,ai hi] W λff w'=>∃cB cv cu,ff=aO cB/\MB W w' b cB ps cv cu/\Y F W w'/\et w')(dx:F b)(bT:∀W,et W->bL W b cp 0)(ca:∀W W',et W->Y (λk=>k=b\/k=z (G w)\/k=z (G w)+1) W W'->bL W' b cp 0->et W')(cj:cp.closed=bW->ps=[])(ek:y ps<=1000000000):cy bG 34 #[aA b,ai lo,ai hi,ap a] w λff w'=>∃v',ff=aO v'/\yX w w' v' (ps.take a.toNat)/\et w':=by
 obtain⟨i0,ef,eo,eq,es⟩:=cz xF;have cl:(if cp.closed=bW then []else ps)=ps:=by split;rename_i h;rw[cj h];rfl
 have g:Y aB w (ct (ct w<|ar #[ap a] 3)<|ar #[aK] 37):=((Y.refl aB w).alloc _).alloc _;have ad:dV (ct (ct w<|ar #[ap a] 3)<|ar #[aK] 37) (z<|G w) (ap a) 3:=dV.alloc (aD _ rfl) _;have al:dV (ct (ct w<|ar #[ap a] 3)<|ar #[aK] 37) (z (G w)+1) aK 37:=aD _ (by simp);have X:z (G<|ct (ct w<|ar #[ap a] 3)<|ar #[aK] 37)=z (G w)+2:=by simp
 have cc:=hA _ g X;have e0:¬a<=0:=by omega
 obtain⟨cx,N⟩:∃cx,ps.take a.toNat=cx:=⟨_,rfl⟩;rw[N];obtain⟨ax,db,HX,dd,bp,HF⟩:=kG N cl (And.intro g (And.intro ad (And.intro al X))) bT ca hF;clear N cl g ad al X hA bT ca cj hF;refine(cX (n:=3)).1 ?_;refine callsIn_of_wp_marks func34 rfl trivial ?_ rfl;simp only[ntmps34,eR,ay,cL,Nat.reduceAdd,Nat.reduceSub,dS,dR,eS,er,cC,cq];gi_wp2_with(refine⟨trivial,?_⟩;gi_at_call 64;refine(cX.2 cc).mono ?_;rintro ff p⟨v9,cv,cu,rfl,ee,t,bx⟩;obtain⟨en,⟨u9,ce,O⟩,cd,ck⟩:=ee;subst en;have bn:=U ce;have cM:=U O;have bm:=U cd;have cT:=U ck;have dm:=U t;have bf:=U bx;clear ce O cd ck t bx cc)
 obtain⟨ed,ad,al,X⟩:=ae HX;have t:=ae dm;have hF:=ae HF;have fv:=t.size;obtain⟨fs,fr⟩:=ae cT;have em:Y F w p:=(ed.mono (T:=F) cG).trans t<|λ_ f=>.inl f;have ea:dV p (z<|G w) (ap a) 3:=(t.block _ (ak ad) (λf=>by have:=hF _ f;omega)).trans ad;have eb:dV p (z (G w)+1) aK 37:=(t.block _ (ak al) (λf=>by have:=hF _ f;omega)).trans al;have dv:CA w (z<|G p) F a [] (λk=>k=z (G w)\/k=z (G w)+1) p:=by refine⟨λfx hp=>?_,⟨aK,eb,bK _ _ _ _,λk=>?_⟩,λfx hp=>?_,⟨by omega,by omega⟩,em⟩;rw[bH]at hp;rw[hp];exact ea;simp[bV];omega;rw[bH]at hp;rw[hp];exact⟨ah _,by simp;omega,by simp⟩
 have O:=ae cM;have av:∀k,bV u9=H k->z (G w)+2<=k/\k<z (G p):=λk d=>by have:=O.lt k d;rw[X]at this;exact this
 have P:=Hw (z<|G w) 2 b cp ps bn bm (dH O) (by omega) (by omega) (λk d=>⟨(av k d).2,by have:=(av k d).1;omega⟩) ej (by omega) ek;rw[ae db]at P;refine BS (m:=3) (V:=Sc b cp) (n0:=z<|G w) (gf:=107) (lb:=#[aA cv,aA cu]) (l:=ps) (S:=λk=>k=cv\/k=cu\/bV u9=H k) ?geval (enters_of func107 (by kernel_rfl) rfl) (λ_=>rfl) P (dd _ bf) (by omega) ?slt (λc bd W=>CA w (z<|G p) F a c bd W/\Y (λk=>k=b\/k=z (G w)\/k=z (G w)+1) p W/\(y c:Z)<a) (λf _ bd W=>f=.exit 0/\CA w (z<|G p) F a cx bd W/\Y (λk=>k=b\/k=z (G w)\/k=z (G w)+1) p W/\bL W b cp 0) (λk=>k=z (G w)\/k=z (G w)+1) ⟨dv,Y.refl _ _,by simpa using cm⟩ ?sb ?lt ?st ?xst ?body ?done ?stop;case geval=>rfl
 (case slt=>rintro k(f|f|f);rw[f];exact ak bn;rw[f];exact ak bm;exact(av k f).2);(case sb=>rintro k(f|f|f)bl;omega;omega;have:=(av k f).1;omega);(case lt=>rintro c bd W⟨h,_⟩k d;exact h.lt k d);(case st=>rintro c bd W W' fk⟨h,s,v⟩ht hT;refine⟨h.stays ht<|λk d=>⟨(hT k d).1,?_⟩,s.trans ht<|λk d=>?_,v⟩;rcases(hT k d).2 with f|f;left;rw[show k=b from f];exact dx;exact .inr (by omega);rcases(hT k d).2 with f|f;exact .inl<|.inl f;exact .inr f);(case xst=>rintro f c bd W W' fk⟨h1,v,x,s⟩ht hT;exact⟨h1,v.stays ht<|λk d=>⟨(hT k d).1,.inr (by have:=(hT k d).2;omega)⟩,x.trans ht<|λk d=>.inr (hT k d).2,(ht.block b (ak s) (λf=>by have:=(hT _ f).2;omega)).trans s⟩)
 case body=>
  rintro lr c fz bd W fu bt fb T⟨E,j,eg⟩i;obtain⟨xk,xv⟩:=fz;have ey:y c+1<=1000000000:=by
   have h1:=T.length_le;simp at h1;omega
  obtain⟨bo,HC,C,q⟩:=gx T E j i;clear E j i T;unfold PK;simp only;gi_wp2;refine⟨Y.refl _ _,λW2 g=>?_⟩;have an:CA w (z<|G p) F a c bd W2:=HC.stays g (λk d=>by subst d;exact⟨bt,.inr<|by omega⟩);obtain⟨cB,hv,e,o⟩:=an.row;have bc:=an.fix (z<|G w,ap a,3) (by simp);have ch:aT W2 (R (z (G w)+1) 0)=H cB:=hv.cell;have fn:W2.frozen? (R (z (G w)+1) 0)=bF:=hv.free;have fd:z (G w)+1<z (G W2):=ak hv;obtain⟨L,K,ac⟩:=aC e;have ec:z (G p)<=z (G W2):=by have:=C.size;have:=g.size;omega
  obtain⟨bq,cE,HV,r,D,dk⟩:=kG bc an hv e o g;clear an hv e o g bc;subst ac;by_cases hq:(y c:Z)+1=a;case' pos=>have ei:((y c:Z)+1==a)=bW:=by simpa using hq
  case' neg=>have ei:((y c:Z)+1==a)=bF:=by simpa using hq
  all_goals
   gi_wp2_with(first
    |(gi_at_builtin;refine dY _ rfl (.tmp 21) (.tmp 25) 37 rfl (z (G p)) 68 i0 (.agg #[.string ⟨#[]⟩,.string ⟨#[]⟩]) 2 32 underlying37 ef eo eq es rfl (by decide) (.slice L (y c) K) (y c) (ib c) rfl (aS r (.cells #[.string xk,.string xv] 68)) (R (z (G W2)) 0) 1 1 (qg (xk,xv)) rfl rfl (NV _ (xk,xv) _) (Xl _) (by omega) (by omega) (by simp;omega) ?_;intro v2 w3 s B;obtain⟨x,v,rfl⟩:=aC s;have Q:∀fl,fl<=z (G w)+1->¬bV (Value.slice L (y c) K)=H fl:=(λfl hb f=>by have:=(r.lt _ f).1;omega);have A:dV w3 (z (G w)+1) (.slice L (y c) K) 37:=(B.grown.block _ (ak (HV.alloc (.cells #[.string xk,.string xv] 68))) (λf=>Q _ (ah _) f.symm)).trans (HV.alloc _);have ba:dV w3 (z (G w)) (.int .i64 a) 3:=(B.grown.block _ (ak (bq.alloc (.cells #[.string xk,.string xv] 68))) (λf=>Q _ (by omega) f.symm)).trans (bq.alloc _);have eu:=A.cell;have ex:=A.free;have ev:=ba.cell;have fe:=ak A;clear A ba Q;have dc:=U s;have dn:=U B;clear s B))
   have e:=ae r;have co:=ae dn;have el:Y (λk=>bV (J L (y c) K)=H k) W2 w3:=((Y.refl (λk=>bV (J L (y c) K)=H k) W2).alloc<|ar #[ai xk,ai xv] 68).trans (Y.dN (S:=λk=>bV (J L (y c) K)=H k) co.grown<|λk d=>.inl d)<|λk d=>.inl d;have dT:bV (J x (y c+1) v)=bV (J L (y c) K)\/∃ds,bV (J x (y c+1) v)=H ds/\z (G W2)<=ds:=by
    rcases co.uc with bl|⟨ds,bl,hg⟩
    .exact .inl bl
    .exact .inr ⟨ds,bl,by simp at hg;omega⟩
   obtain⟨B',q1,q2,q3⟩:=cE.more HV D e el dT dc;have bu:CA w (z<|G p) F a (c++[(xk,xv)]) B' (bZ w3 (R (z (G w)+1) 0)<|J x (y c+1) v):=by
    unfold CA;rw[EF,af];exact q1
   have g:=ae dk;have au:Y (λk=>bd k\/k=lr) W (bZ w3 (R (z (G w)+1) 0)<|J x (y c+1) v):=(g.mono (T:=λk=>bd k\/k=lr)<|λk d=>.inl<|.inr d).trans q2<|λk d=>.inl<|.inl d;have bs:∀k,bd k->k=z (G w)\/k=z (G w)+1\/z (G p)<=k:=λk d=>by
    rcases(D k).1 d with⟨fx,hp,f⟩|f|f
    .rw[bH]at hp;rw[hp]at f;exact .inl f.symm
    .exact .inr<|.inl f
    .exact .inr<|.inr (e.lt k f).1
   have cb:Y (λk=>k=b\/k=z (G w)\/k=z (G w)+1) p (bZ w3 (R (z (G w)+1) 0)<|J x (y c+1) v):=C.trans au (λk d=>by
    rcases d with f|f
    .rcases bs k f with bl|bl|bl
     .exact .inl<|.inr<|.inl bl
     .exact .inl<|.inr<|.inr bl
     .exact .inr bl
    .exact .inr (by omega))
   have cn:∀k,(bd k\/k=lr)->k≠b:=λk d f=>by
    rcases d with bl|bl
    .rcases bs k bl with ds|ds|ds<;>omega
    .omega
   have bv:bL (bZ w3 (R (z (G w)+1) 0)<|J x (y c+1) v) b cp 0:=(Sc b cp).fi q au<|λk d f=>cn k d f;have bb:(bZ w3 (R (z (G w)+1) 0)<|J x (y c+1) v).heap[lr]?=W2.heap[lr]?:=q2.block lr (by have:=g.size;omega) bt;have br:∀k,B' k->bd k\/z (G W)<=k:=λk d=>(q3 k d).imp_right (λf=>by have:=g.size;omega)
  .exact⟨bv,B',⟨bu,cb,by simp;omega⟩,au,bb,br⟩
  .refine⟨B',⟨rfl,?_,cb,bv⟩,au,bb,br⟩;have ao:cx=c++[(xk,xv)]:=by
    obtain⟨fL,hr⟩:=ae bo;rw[<-ae ax,<-hr,iI (by simp;omega),cR (by simp;omega)]
   rw[ao];exact bu
 (case done=>rintro cs bd W bh⟨E,j,eg⟩bg i hK;(have ao:cx=ps:=by rw[<-ae ax];exact cR<|by omega);(have E:CA w (z<|G p) F a cx bd W:=by rw[ao];exact E);clear ao;obtain⟨cB,hv,e,o⟩:=E.row;have ch:aT W (R (z (G w)+1) 0)=H cB:=hv.cell;obtain⟨L,K,ac⟩:=aC e;obtain⟨HC,r,D,q,HK,C⟩:=kG E e o i hK j;clear E hv e o i hK j;subst ac;gi_wp2;have hB:=ae D;have n3:¬bV (J L (y cx) K)=H cs:=λf=>bg<|(hB _).2<|.inr<|.inr f;have u:=gD W cs<|.deferred none;(have bi:cs≠b:=by omega);have bk:bL (W.putObj cs<|.deferred none) b cp 0:=(u.block b (ak q)<|λf=>bi f.symm).trans q;refine⟨by simp,.inl ⟨_,_,rfl,run_takeDeferred HK,?_⟩⟩;refine⟨_,gK rfl _ _ _,_,rfl,?_,bp _ _ bf (C.trans u (λk d=>by subst d;exact .inr bh)) bk⟩;have e:=ae r;exact eQ (u.own e (λk d f=>by subst f;exact n3 d))<|by omega);(case stop=>rintro cs f c bd W bh⟨rfl,E,j,i⟩bg hK;obtain⟨cB,hv,e,o⟩:=E.row;have ch:aT W (R (z (G w)+1) 0)=H cB:=hv.cell;obtain⟨L,K,ac⟩:=aC e;obtain⟨HC,r,D,q,HK,C⟩:=kG E e o i hK j;clear E hv e o i hK j;subst ac;gi_wp2;have hB:=ae D;have n3:¬bV (J L (y cx) K)=H cs:=λf=>bg<|(hB _).2<|.inr<|.inr f;have u:=gD W cs<|.deferred none;(have bi:cs≠b:=by omega);have bk:bL (W.putObj cs<|.deferred none) b cp 0:=(u.block b (ak q)<|λf=>bi f.symm).trans q;refine⟨by simp,.inl ⟨_,_,rfl,run_takeDeferred HK,?_⟩⟩;refine⟨_,gK rfl _ _ _,_,rfl,?_,bp _ _ bf (C.trans u (λk d=>by subst d;exact .inr bh)) bk⟩;have e:=ae r;exact eQ (u.own e (λk d f=>by subst f;exact n3 d))<|by omega)
end
def FK(w:I)(c:M)(f e:ab)(a:Z)(j:a<=0):cy bG 34 #[aA c,ai f,ai e,ap a] w λi g=>i=aO aK/\Y aB w g:=by
 have b:Y aB w (ct (ct w<|ar #[ap a] 3)<|ar #[aK] 37):=((Y.refl aB w).alloc _).alloc _;have d:=U b;clear b;go_in
 go_wp2;go_ret;exact⟨rfl,d⟩
def CO(j i:ab)(c:Z)(u:0<c)(o:bL a b n 0)(s:n.closed=bW):cy bG 34 #[aA b,ai j,ai i,ap c] a λr d=>∃h,r=aO h/\yX a d h []/\bL d b n 0/\Y (λk=>k=b) a d:=by
 have g:=ak o;refine(Cd a b n j i c [] (λd=>bL d b n 0/\Y (λk=>k=b) a d) (λk=>k=b) u g (λk v=>by omega) (λW m _=>?_) rfl (λ_ o=>o.1) ?_ (λ_=>rfl)<|by simp).mono ?_;apply(Fi j i ((m.block b g id).trans o) s).mono;rintro r d⟨w,q,p,rfl,t,f,e⟩;exact⟨w,q,p,rfl,t,e,f,(m.mono (T:=λk=>k=b) cG).trans e<|λ_ l=>.inl l⟩;rintro W q⟨_,p⟩e f;refine⟨f,p.trans e ?_⟩;rintro k(l|l|l);exact .inl l;exact .inr (by omega);exact .inr (by omega);rintro r d⟨h,rfl,p,f,e⟩;exact⟨h,rfl,by simpa using p,f,e⟩
def FJ(w v:ab)(d:Z)(Q:0<d)(N:bL a b n 0)(k:ST a b n j e i p t u c)(K:n.closed=bF)(F:y (sO n.bC w v 0<|e::cF i p t u)<=1000000000):cy bG 34 #[aA b,ai w,ai v,ap d] a λO l=>∃A,O=aO A/\yX a l A ((sO n.bC w v 0<|e::cF i p t u).take d.toNat)/\tw a l b n j e i p t u c:=by
 have f:=ak N;refine(Cd a b n w v d _ (λl=>∃g,gw a l n.aN b j g/\(∀x,g.bj n.aN x->j.bj n.aN x)/\g.files=j.files/\g.eM=j.eM/\bL l b n 0) (λx=>j.bj n.aN x\/x=b) Q f ?_ (λW D _=>?_) (.inr rfl) (λ_⟨_,_,_,_,_,N⟩=>N) ?_ (λq=>by rw[K]at q;cases q) F).mono ?_;rintro x(q|q);exact k.aN.lt _ q;omega;have h:gw a W n.aN b j j:=⟨k.aN.aw D<|λ_ _=>id,D.mono cG,λ_ q=>.inl q⟩;apply(Mt (K:=j) (m:=e) (a:=i) (b:=p) (c:=t) (d:=u) (C:=c) w v ((D.block b f id).trans N) (k.fq f h rfl) K).mono;rintro O l⟨P,E,C,rfl,L,g,s,m,o,B,r,_⟩;exact⟨P,E,C,rfl,L,s.aw,g,h.trans s,B,m,o,r⟩;rintro W S⟨g,h,E,m,o,P⟩L r;have s:=h.sb k.rV f;refine⟨g,⟨h.ok.aw L ?_,h.aw.trans L ?_,h.bj⟩,E,m,o,r⟩;rintro x q(C|C|C);subst C;exact s q;have:=k.aN.lt _<|E x q;omega;have:=k.aN.lt _<|E x q;omega;rintro x(C|C|C);exact .inl<|.inr C;exact .inr (by omega);exact .inr (by omega);rintro O l⟨A,rfl,s,g,h,B,m,o,r⟩;exact⟨A,rfl,s,g,h,m,o,B,r,k.fq f h<|by rw[m]⟩
def OA(c:ab)(a:Z)(l b:iH):b<+:vZ c a b l:=by
 induction l generalizing b with
 |nil=>exact uD _
 |cons p r d=>
  rw[vZ];split
  .exact uD _
  .split
   .exact List.prefix_append _ _
   .exact(List.prefix_append _ _).trans<|d _
def UN(d:ab)(a:Z)(i:0<a)(l b:iH)(h:(y b:Z)<a):(vZ d 0 b l).take a.toNat=vZ d a b l:=by
 induction l generalizing b with
 |nil=>
  show b.take a.toNat=b;exact cR<|by omega
 |cons p r g=>
  rw[vZ,vZ];split
  .exact cR<|by omega
  .have e:((y b:Z)+1==0)=bF:=by simp;omega
   rw[e];simp only[im,kg];split
   .rename_i c;have c:(y b:Z)+1=a:=by simpa using c
    obtain⟨t,f⟩:=OA d 0 r<|b++[p];rw[<-f,iI (by simp;omega),cR (by simp;omega)]
   .rename_i c;have c:¬(y b:Z)+1=a:=by simpa using c
    exact g _ (by simp;omega)
def Qv(c:Z)(d b:ab)(a:Z)(h:0<a)(e:dW):(sO c d b 0 e).take a.toNat=sO c d b a e:=UN b a h _ _<|by simpa using h
