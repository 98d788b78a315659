import Derived.Test.YtmnlcbeggagabaaGreatDoorC21
import Derived.Test.YtmnlcbeggagabaaGreatDoorC22
open _root_ renaming List.length→y,Option.some→H,Array.size→z,Go.World.heap→G,Go.Value.ownBlock→cz,Go.World.cell?→aS,Go.World.setCell→cA,Go.World.alloc→cG,Bool.false→bj,Bool.true→ci,Nat→M,Int→U,List→cS,Go.Calls→cD,Go.Proofs.Tryz.prog→aZ,Go.Value.slice→J,Go.Value.string→am,Go.Value.bool→aK,Go.Value.tuple→dd,Go.Value.agg→dD
namespace Go.Proofs.YtmnlcbeggagabaaGreatDoor
open ChangeShapes WideShapes RowKit Proofs.Tryz List
set_option maxHeartbeats 16000000
set_option linter.all false
set_option maxRecDepth 100000
variable{a f B:Z}{b c g:M}{d u:ab}{e:cI}{i:DK}{j p r s:cN}{k:U}{o:SR}{X:eT}{t:iL}{F:Fs}{Q:Prop}
section
open Shelf
attribute [local go_sem] Oper.semAt_some
def KT:(prog.info? 116).map (λi=>(i.zero,i.size,i.bytes))=H (H<|dD #[am ⟨#[]⟩,am ⟨#[]⟩],2,32):=by kernel_rfl
def YK(p:KV):∀u∈rS p,u.oneCell'=ci:=by
 intro u a;simp[rS]at a;rcases a with rfl|rfl<;>rfl
def Xc(w:Z)(p:KV)(t:TypeId):∀j u,(rS p)[j]?=H u->aS (cG w<|ay #[am p.1,am p.2] t) (((R (z<|G w) 0):Addr).add j)=H u:=by
 intro j u a;rw[dt];have h:(cG w<|ay #[am p.1,am p.2] t).heap[z<|G w]?=H (ay #[am p.1,am p.2] t (0,0)):=aH _ rfl;rw[bV h,dr];simpa[rS]using a
def Tw(l:kK)(p:KV):jw (l++[p])=jw l++rS p:=by simp[jw]
def PA(V:iL)(b:Z)(c:ae)(a:U)(n:M)(d:kK)(B:eT)(W:Z):Prop:=Acc V.F b [(z<|G b,am c,9),(z (G b)+1,aq a,3),(z (G b)+2,aw,102),(z (G b)+3,.nilIface,41)] (z (G b)+4) 102 116 2 (z (G b)+5) n (jw d) B W
def PZ(V:iL)(a:Z)(B:eT)(W:Z):Prop:=∃x n c q,V.Xp/\vL W q/\eG W (z (G a)+2) (J x n c) 102/\eG W (z (G a)+3) (ot q) 41/\V.D W/\I V.F a W/\B (z (G a)+2)/\B (z (G a)+3)
def PZ.stays{T:eT}(v:PZ t a X f)(c:I T f B)(g:∀k,T k->¬X k/\b<=k/\∃L,f.heap[k]?=H (.loop L))(h:∀k,T k->¬X k/\z (G a)<=k)(hF:∀k,T k->¬t.F k):PZ t a X B:=by
 obtain⟨x,b,e,q,s,⟨d,i⟩,m,n,r,p,j,l⟩:=v;refine⟨x,b,e,q,s,⟨d,(c.block _ (ar i)<|λe=>?_).trans i⟩,(c.block _ (ar m)<|λe=>(g _ e).1 j).trans m,(c.block _ (ar n)<|λe=>(g _ e).1 l).trans n,t.eQ r c hF,p.trans c<|λk u=>.inr (h k u).2,j,l⟩;obtain⟨L,o⟩:=(g _ e).2.2;rw[i]at o;cases o
def PY(n0:M)(p0 p1 p2 p3:ab×cN)(n:cS (ab×cI))(lo r:ae)(c bt:U)(h:cf a b o k)(mx:Option Addr)(mn mc:M)(ed:o.memory=J mx mn mc)(hl:Cy a b 10 [p0,p1,p2,p3])(bu:n.map (·.1)=wC o.memory p0 p1 p2 p3)(hR:∀he(r:he<y n),lI t n0 n[he].1 n[he].2 a)(hJ:t.D a)(gt:n0<=z (G a))(hF:∀k,t.F k->k<n0)(hd:∀cc∈RJ bt lo (n.map (·.2)),cc.key.size<=281474976710656/\cc.val.size<=281474976710656)(ax:y (RJ bt lo<|n.map (·.2))<=1000000000):cD aZ 115 #[aA b,am lo,am r,aq c,aE bt] a λcd w'=>(∃v',cd=aJ (dd #[v',.nilIface])/\w'.ownsRow (z<|G a) 116 2 v' (y<|vC r c []<|((RJ bt lo<|n.map (·.2)).filter<|λcd=>!cd.del).map xZ) (jw<|vC r c []<|((RJ bt lo<|n.map (·.2)).filter<|λcd=>!cd.del).map xZ)/\t.D w'/\I t.F a w')\/∃cc kc w,RX t a w' t.F cd (λeo=>dd #[J cc kc w,eo]):=by
 obtain⟨hg,hN⟩:∃hg,(RJ bt lo<|n.map (·.2)).filter (λcd=>!cd.del)=hg:=⟨_,rfl⟩;rw[hN];obtain⟨bl,hP⟩:∃bl,vC r c [] (hg.map xZ)=bl:=⟨_,rfl⟩;rw[hP];have cx:=Y hN;have hw:=Y hP;clear hN hP;have fg:y n<=1000000000:=by(have ax:y (oS p0 p1 p2 p3)+1=y n:=by have:=bQ y bu;simp[wC]at this;omega);have:=hl.small;rw[<-ax];simp[oS,lV]at this|-;omega
 obtain⟨i0,ip,jC,jD,jE⟩:=cU KT;have T:I az a (cG (cG (cG (cG (cG a<|ay #[am r] 9)<|ay #[aq c] 3)<|ay #[aw] 102)<|ay #[.nilIface] 41)<|ay #[aw] 102):=((((cK az a).alloc _).alloc _).alloc _).alloc _;have bE:z (G<|cG (cG (cG (cG (cG a<|ay #[am r] 9)<|ay #[aq c] 3)<|ay #[aw] 102)<|ay #[.nilIface] 41)<|ay #[aw] 102)=z (G a)+5:=by simp
 have ek:eG (cG (cG (cG (cG (cG a<|ay #[am r] 9)<|ay #[aq c] 3)<|ay #[aw] 102)<|ay #[.nilIface] 41)<|ay #[aw] 102) (z<|G a) (am r) 9:=eG.alloc (eG.alloc (eG.alloc (eG.alloc (aH _ rfl) _) _) _) _;have el:eG (cG (cG (cG (cG (cG a<|ay #[am r] 9)<|ay #[aq c] 3)<|ay #[aw] 102)<|ay #[.nilIface] 41)<|ay #[aw] 102) (z (G a)+1) (aq c) 3:=eG.alloc (eG.alloc (eG.alloc (aH _<|by simp) _) _) _;have u:eG (cG (cG (cG (cG (cG a<|ay #[am r] 9)<|ay #[aq c] 3)<|ay #[aw] 102)<|ay #[.nilIface] 41)<|ay #[aw] 102) (z (G a)+2) aw 102:=eG.alloc (eG.alloc (aH _<|by simp) _) _;have v:eG (cG (cG (cG (cG (cG a<|ay #[am r] 9)<|ay #[aq c] 3)<|ay #[aw] 102)<|ay #[.nilIface] 41)<|ay #[aw] 102) (z (G a)+3) .nilIface 41:=eG.alloc (aH _<|by simp) _;have em:eG (cG (cG (cG (cG (cG a<|ay #[am r] 9)<|ay #[aq c] 3)<|ay #[aw] 102)<|ay #[.nilIface] 41)<|ay #[aw] 102) (z (G a)+4) aw 102:=aH _ (by simp);obtain⟨W5,hO⟩:∃W5,(cG (cG (cG (cG (cG a<|ay #[am r] 9)<|ay #[aq c] 3)<|ay #[aw] 102)<|ay #[.nilIface] 41)<|ay #[aw] 102)=W5:=⟨_,rfl⟩;rw[hO]at T bE ek el u v em;have gs:=Dp p0 p1 p2 p3 ((T.block b (ar h) id).trans h) mx mn mc ed<|hl.ap T id<|λ_ _ _ _ w=>w;have ec:y (oS p0 p1 p2 p3)+1=y n:=by have:=bQ y bu;simp[wC]at this;omega
 rw[ec,<-bu]at gs;have gk:∀w6 v6,w6.ownsRow (z<|G W5) 168 1 v6 (y n) (n.map (·.1))->I az W5 w6->cD aZ 180 #[v6,am lo,aE bt] w6 λcd w'=>∃v' b,cd=aJ v'/\iT t n0 v' (RJ bt lo<|n.map (·.2)) b w'/\t.D w'/\I t.F a w'/\(∀k,b k->z (G a)+5<=k)/\I t.F W5 w':=by intro w6 v6 bd V;have g:I az a w6:=T.bW V;refine(Xk n0 n lo bt (dE bd) (λk e=>⟨(bd.lt k e).2,λhf=>by have:=hF k hf;have:=(bd.lt k e).1;omega⟩) fg (λhe r=>(hR he r).same<|g.same gt cC cC) (t.eQ hJ g cC) (aB gt g.size) hF).mono ?_;rintro cd w7⟨v7,S7,rfl,eb,bb,ca,cj⟩;refine⟨v7,S7,rfl,eb,bb,(g.mono (T:=t.F) cC).trans ca<|λ_ w=>.inl w,λk e=>?_,(V.mono (T:=t.F) cC).trans ca<|λ_ w=>.inl w⟩;have:=cj k e;have:=V.size;omega
 have hs:=Y gk;have cE:=Y<|And.intro ek (And.intro el (And.intro u (And.intro v (And.intro em bE))));clear gk T bE ek el u v em;obtain⟨hG,HF,es,HH,HL,kf,HR,HD,kd⟩:=wY hd hF ax h hl bu hR hJ ed;clear h hl bu hR hJ ed hd ax hF ec;refine(dS (n:=3)).1 ?_;refine callsIn_of_wp_marks func115 rfl trivial ?_ rfl;simp only[ntmps115,ga,aW,eD,Nat.reduceAdd,Nat.reduceSub,eX,eW,gd,fq,de,dl];gi_wp2_with(refine⟨trivial,?_⟩;gi_at_call 75;refine(dS.2<|gs).mono ?_;rintro cd w6⟨v6,rfl,bd,V⟩;obtain⟨x6,c6,jA⟩:=aC bd;subst jA;have hu:=Y bd;have hD:=Y V;clear bd V)
 gi_wp2_with(refine⟨trivial,?_⟩;gi_at_call 180;refine(dS.2<|hs _ _ hu hD).mono ?_;rintro cd w7⟨v7,S7,rfl,eb,bb,ca,cj,cu⟩;obtain⟨f7,eu,rfl,gb,gn⟩:=eb;have hp:=Y<|show iT t n0 (.func (.func f7) #[] eu) (RJ bt lo<|n.map (·.2)) S7 w7 from⟨f7,eu,rfl,gb,gn⟩;have hm:=Y bb;have hE:=Y ca;have hA:=Y cj;have br:=Y cu;clear bb ca cj gb gn cu)
 gi_wp2_with(refine⟨trivial,?_⟩;gi_at_call 179;refine(dS.2<|JX hp).mono ?_;rintro cd w8⟨v8,S8,rfl,il,bc,fk⟩;obtain⟨f8,bs,rfl,gc,an⟩:=il;have ho:=Y gc;have hy:=Y an;have hk:=Y bc;have hC:=Y fk;clear gc an bc fk)
 gi_wp2_with(refine⟨trivial,?_⟩;gi_at_call 178;refine(dS.2<|Lo f8 bs w8).mono ?_;rintro cd w9⟨rfl,ky⟩;subst w9)
 have an:=af hy;rw[af cx]at an;have bc:=af hk;have kv:=an.own.size;have hF:∀k,t.F k->k<z (G a):=λk e=>by have:=HF k e;omega
 have iu:I t.F a w8:=hE.bW<|I.aQ (S:=az) bc;have jI:∀k,S8 k->z (G a)+5<=k:=λk e=>by rcases hC k e with w|w;exact hA k w;have:=br.size;have:=cE.2.2.2.2.2;omega
 obtain⟨W9,ck⟩:∃W9,cG w8 (ay #[.func (.func f8) #[] bs] 240)=W9:=⟨_,rfl⟩;have bk:I az w8 W9:=by rw[<-ck];exact(cK az w8)
 have hS:eG W9 (z<|G w8) (.func (.func f8) #[] bs) 240:=by rw[<-ck];exact aH _ rfl
 have kx:z (G W9)=z (G w8)+1:=by rw[<-ck];simp
 have bf:I t.F a W9:=iu.bW bk;have gE:I t.F W5 W9:=(br.bW<|I.aQ (S:=az) bc).bW bk;have gr:Ax t n0 f8 bs hg S8 W9:=an.same<|bk.same an.own.size (λk e=>⟨(an.own.each k e).2,λw=>w⟩) cC;have hL:t.D W9:=t.eQ (t.eQ hm (I.aQ (S:=az) bc) cC) bk cC;have ka:z (G a)+5<=z (G w8):=by have:=br.size;have:=cE.2.2.2.2.2;have:=bc.size;omega
 have hI:PA t a r c 0 [] (λk=>k=z (G a)\/k=z (G a)+1\/k=z (G a)+2\/k=z (G a)+3\/k=z (G a)+4) W9:=by obtain⟨i,j,p,x3,g,bE⟩:=af cE;have e:∀{b:M}{eo:ab}{t:TypeId},eG W5 b eo t->z (G a)<=b->eG W9 b eo t:=λhi aa=>(gE.block _ (ar hi) (λw=>by have:=hF _ w;omega)).trans hi;refine⟨?_,⟨aw,e g (by omega),cO _ _ _ _,λk=>by simp[cz];omega⟩,?_,by omega,bf⟩;(grind);grind
 rw[ck];have hP:=af hw;refine wo (arg:=RK) (m:=3) (V:=t) (n0:=n0) (gf:=226) (lb:=#[aA<|z<|G w8]) (pp:=Za t hg) (ff:=Yg hg) (S:=λk=>S8 k\/k=z (G w8)) (λ_ h=>.inr<|.inr h) ?geval (enters_of func226 (by kernel_rfl) rfl) (λcc=>by cases cc<;>rfl) (Gw 2 bs hS ho gr (by omega) (λw=>by have:=(an.own.each _ w).2;omega)) hL (by omega) ?slt (λl' bo W=>∃d,l'=d.map Sum.inl/\PA t a r c (y d) (d.map xZ) bo W/\(∀D,hg=d++D->bl=vC r c (d.map xZ) (D.map xZ))) (λw _ bo W=>(w=.exit 0/\PA t a r c (y bl) bl bo W/\t.D W)\/(w=.ret/\PZ t a bo W)) (λk=>k=z (G a)\/k=z (G a)+1\/k=z (G a)+2\/k=z (G a)+3\/k=z (G a)+4) ⟨[],rfl,hI,λD hr=>by rw[<-hP,hr];rfl⟩ ?sb ?lt ?st ?xst ?body ?done ?stop;case geval=>rfl
 (case slt=>rintro k(w|w);have:=(gr.own.each k w).2;exact this;omega);(case sb=>grind);(case lt=>rintro _ bo W⟨d,rfl,h,_⟩k e;have:=h.lt k e;grind);(case st=>rintro _ bo W W' hh⟨d,rfl,h,g⟩ht hT;refine⟨d,rfl,h.stays ht<|λk e=>⟨(hT k e).1,?_⟩,g⟩;have:=bf.size;grind);(case xst=>rintro w d bo W W' hh h ht hT;have:=bf.size;have g:∀k,hh k->¬bo k/\z (G a)<=k:=λk e=>⟨(hT k e).1,by have:=(hT k e).2.1;omega⟩;(have ac:∀k,hh k->¬t.F k:=λk e hf=>by have:=(g k e).2;have:=hF k hf;omega);rcases h with⟨h1,h2,h3⟩|⟨h1,h2⟩;exact .inl ⟨h1,h2.stays ht<|λk e=>⟨(g k e).1,.inr (g k e).2⟩,t.eQ h3 ht ac⟩;exact .inr ⟨h1,h2.stays ht hT g ac⟩);(case stop=>rintro cm w d bo W hM(⟨rfl,X,L⟩|⟨rfl,hZ⟩)al hK;rotate_left;(.obtain⟨cc,kc,w,q,hX,hq,h2,h3,L,g,b2,b3⟩:=hZ;have F:=gZ W cm<|.deferred none;(have ac:∀k,z (G a)<=k->¬t.F k:=λk e hf=>by have:=hF k hf;omega);(have aa:z (G a)<=cm:=by have:=bf.size;omega);gi_wp2;refine⟨by simp,.inl ⟨_,_,rfl,run_takeDeferred hK,?_⟩⟩;refine⟨_,vg rfl underlying102 _ _ (z (G a)+2) (z (G a)+3) (J cc kc w) (ot q) rfl rfl ?_ ?_,?_⟩;exact(eG.cell<|(F.block _ (ar h2)<|λw=>al<|w▸b2).trans h2);exact(eG.cell<|(F.block _ (ar h3)<|λw=>al<|w▸b3).trans h3);refine .inr ⟨cc,kc,w,hX,q,rfl,?_,t.eQ L F (λk e=>by rw[e];exact ac _ aa),g.trans F<|λk e=>.inr<|by omega⟩;obtain⟨cb,hq⟩:=hq;exact⟨cb,(F.block _ (ar hq) (λw=>by rw[w,hK]at hq;cases hq)).trans hq⟩);obtain⟨eo,hv,l,O⟩:=X.row;have bv:aS W (R (z (G a)+1+1+1+1) 0)=H eo:=hv.cell;have u:=X.fix (z (G a)+2,aw,102) (by simp);have v:=X.fix (z (G a)+3,.nilIface,41) (by simp);have fw:aS W (R (z (G a)+1+1) 0)=H aw:=u.cell;have ge:W.frozen? (R (z (G a)+1+1) 0)=bj:=u.free;have fx:aS W (R (z (G a)+1+1+1) 0)=H .nilIface:=v.cell;have gg:W.frozen? (R (z (G a)+1+1+1) 0)=bj:=v.free;obtain⟨A,x,bh⟩:=aC l;obtain⟨cM,cT,HC,HV,aV,bm,aU,HK⟩:=Ce u v X hv l O L hK;clear X hv l O L hK u v;subst bh;gi_wp2;have hB:=af bm;have X:=af HC;have n1:cm≠z (G a)+2:=λw=>al<|(hB _).2<|.inl ⟨(z (G a)+2,aw,102),by simp,w.symm⟩;have n2:cm≠z (G a)+3:=λw=>al<|(hB _).2<|.inl ⟨(z (G a)+3,.nilIface,41),by simp,w.symm⟩;have n3:¬cz (J A (y bl) x)=H cm:=λw=>al<|(hB _).2<|.inr<|.inr w;(have dm:(cA (cA W (R (z (G a)+2) 0)<|J A (y bl) x) (R (z (G a)+3) 0) .nilIface).heap[cm]?=H (.deferred<|H []):=by rw[iI _ n2,iI _ n1];exact HK);have au:eG (cA (cA W (R (z (G a)+2) 0)<|J A (y bl) x) (R (z (G a)+3) 0) .nilIface) (z (G a)+2) (J A (y bl) x) 102:=(cM.set _).other _ (by omega);have av:eG (cA (cA W (R (z (G a)+2) 0)<|J A (y bl) x) (R (z (G a)+3) 0) .nilIface) (z (G a)+3) .nilIface 41:=(cT.other _<|by omega).set _;have F:=gZ (cA (cA W (R (z (G a)+2) 0)<|J A (y bl) x) (R (z (G a)+3) 0) .nilIface) cm<|.deferred none;have ad:I (λk=>k=z (G a)+2\/k=z (G a)+3) W (cA (cA W (R (z (G a)+2) 0)<|J A (y bl) x) (R (z (G a)+3) 0) .nilIface):=((I.refl (λk=>k=z (G a)+2\/k=z (G a)+3) W).setCell _ 0 _<|.inl<|.inl rfl).setCell _ 0 _<|.inl<|.inr rfl;have bg:=(ad.mono (T:=λk=>k=z (G a)+2\/k=z (G a)+3\/k=cm)<|λk e=>.inl<|e.elim .inl<|λw=>.inr<|.inl w).trans F<|λk e=>.inl<|.inr<|.inr e;(have ac:∀k,z (G a)<=k->¬t.F k:=λk e hf=>by have:=hF k hf;omega);(have aa:∀k,(k=z (G a)+2\/k=z (G a)+3\/k=cm)->z (G a)<=k:=by have:=bf.size;rintro k(w|w|w)<;>omega);refine⟨by simp,.inl ⟨_,_,rfl,run_takeDeferred dm,?_⟩⟩;refine⟨_,vg rfl underlying102 _ _ (z (G a)+2) (z (G a)+3) (J A (y bl) x) .nilIface rfl rfl ?_ ?_,?_⟩;exact(eG.cell<|(F.block _ (ar au)<|λw=>n1 w.symm).trans au);exact(eG.cell<|(F.block _ (ar av)<|λw=>n2 w.symm).trans av);refine .inl ⟨_,rfl,?_,t.eQ aU bg<|λk e=>ac k<|aa k e,X.ap.trans bg<|λk e=>.inr<|aa k e⟩;have l:=af aV;have jB:=bg.own l (λk e w=>by have:=(l.lt k e).1;grind);obtain⟨h1,⟨h2,h0⟩|⟨hj,hH,db,h2,hi,s⟩⟩:=jB;exact⟨h1,.inl ⟨h2,h0⟩⟩;exact⟨h1,.inr ⟨hj,hH,db,h2,by omega,s⟩⟩)
 case body=>
  rintro lr _ cc bo W ec dc⟨gj,LL,fe⟩bx⟨d,rfl,X,hcut⟩L;cases cc with
  |inr q=>
   obtain⟨hX,hq⟩:t.Xp/\vL W q:=by
    rcases bx with⟨aF,h,_⟩|⟨aF,q',h,hX,hq⟩
    .have:Sum.inr q∈aF.map (Sum.inl (β:=M)):=by rw[<-h];simp
     simp at this
    .have:=uT h rfl;cases this;exact⟨hX,hq⟩
   obtain⟨HC,aU,HQ,ch⟩:=fX X L hq fe;clear X L hq fe bx hcut;unfold RK vP;simp only;gi_wp2;refine⟨(cK _ _),λp N=>?_⟩;have K:I az W (cG W<|ay #[am ⟨#[]⟩,am ⟨#[]⟩,aK bj,aE 0] 170):=cK _ _;have Q:PA t a r c (y d) (d.map xZ) bo p:=(HC.stays K cC).stays N (λk e=>by grind);have bq:vL p q:=by
    obtain⟨cb,h⟩:=HQ;have h1:=(K.block q (ar h) id).trans h;refine⟨cb,(N.block q (ar h1)<|λw=>?_).trans h1⟩;rw[w,af ch]at h;cases h
   have ba:t.D p:=t.eQ (t.eQ aU K cC) N (λk e hf=>by have:=hF k hf;have:=bf.size;omega);obtain⟨eo,hv,l,O⟩:=Q.row;have u:=Q.fix (z (G a)+2,aw,102) (by simp);have v:=Q.fix (z (G a)+3,.nilIface,41) (by simp);have bv:aS p (R (z (G a)+1+1+1+1) 0)=H eo:=hv.cell;have fw:aS p (R (z (G a)+1+1) 0)=H aw:=u.cell;have ge:p.frozen? (R (z (G a)+1+1) 0)=bj:=u.free;have fx:aS p (R (z (G a)+1+1+1) 0)=H .nilIface:=v.cell;have gg:p.frozen? (R (z (G a)+1+1+1) 0)=bj:=v.free;obtain⟨A,x,bh⟩:=aC l;have b2:bo (z (G a)+2):=(O _).2<|.inl ⟨(z (G a)+2,aw,102),by simp,rfl⟩;have b3:bo (z (G a)+3):=(O _).2<|.inl ⟨(z (G a)+3,.nilIface,41),by simp,rfl⟩;have ad:I (λk=>k=z (G a)+2\/k=z (G a)+3) p (cA (cA p (R (z (G a)+2) 0)<|J A (y d) x) (R (z (G a)+3) 0)<|ot q):=((I.refl (λk=>k=z (G a)+2\/k=z (G a)+3) p).setCell _ 0 _<|.inl<|.inl rfl).setCell _ 0 _<|.inl<|.inr rfl;have bp:vL (cA (cA p (R (z (G a)+2) 0)<|J A (y d) x) (R (z (G a)+3) 0)<|ot q) q:=bq.ap ad (by
    rintro k(rfl|rfl)_
    .exact⟨_,102,_,u,by decide⟩
    .exact⟨_,41,_,v,by decide⟩)
   have P:=t.eQ ba ad (by rintro k(rfl|rfl)hf<;>have:=hF _ hf<;>omega);have aa:∀k,(k=z (G a)+2\/k=z (G a)+3)->z (G a)<=k:=by rintro k(w|w)<;>omega
   have bn:I t.F a (cA (cA p (R (z (G a)+2) 0)<|J A (y d) x) (R (z (G a)+3) 0)<|ot q):=Q.ap.trans ad<|λk e=>.inr<|aa k e;have bT:z (G W)+1<=z (G p):=by have:=N.size;simp_all
   have bi:I (λk=>bo k\/k=lr) W (cA (cA p (R (z (G a)+2) 0)<|J A (y d) x) (R (z (G a)+3) 0)<|ot q):=((K.mono (T:=λk=>bo k\/k=lr) cC).trans N<|λk e=>.inl<|.inr e).trans ad (by
    rintro k(rfl|rfl)
    .exact .inl<|.inl b2
    .exact .inl (.inl b3))
   have aD:(cA (cA p (R (z (G a)+2) 0)<|J A (y d) x) (R (z (G a)+3) 0)<|ot q).heap[lr]?=p.heap[lr]?:=ad.block lr (ah (Nat.lt_succ_of_lt gj) bT) (by
    rintro(rfl|rfl)
    .exact dc b2
    .exact dc b3)
   have hZ:PZ t a bo (cA (cA p (R (z (G a)+2) 0)<|J A (y d) x) (R (z (G a)+3) 0)<|ot q):=⟨A,y d,x,q,hX,bp,(u.set _).other _ (by omega),(v.other _<|by omega).set _,P,bn,b2,b3⟩;obtain⟨HZ,co,cn⟩:=dz hZ bi aD;clear Q bq ba hv l O u v ad bp P bn bi aD hZ K N;subst bh;gi_wp2;exact⟨bo,.inr ⟨rfl,HZ⟩,co,cn,λk e=>.inl e⟩
  |inl cc=>
  obtain⟨D,s⟩:∃D,(d++[cc])++D=hg:=by
   rcases bx with⟨aF,h,K,hr⟩|⟨aF,q',h,hX,hq⟩
   .refine⟨K,?_⟩;have:(d++[cc]).map Sum.inl=aF.map (Sum.inl (β:=M)):=by simpa using h
    rw[oC<|λ_ _=>wa]at this;rw[this,hr]
   .have:=uT h rfl;cases this
  have fL:=hcut (cc::D) (by rw[<-s];simp);have ax:y d+1<=1000000000:=by
   have h1:=bQ y s;have h2:=bQ y cx;have h3:=fP (λcd=>!cd.del)<|RJ bt lo<|n.map (·.2);have K:=af es;grind
  have en:cc.key.size<=281474976710656/\cc.val.size<=281474976710656:=hG cc (by
   have:cc∈(RJ bt lo<|n.map (·.2)).filter (λcd=>!cd.del):=by rw[af cx,<-s];simp
   grind)
  have it:d.map xZ++[xZ cc]=(d++[cc]).map xZ:=by simp
  obtain⟨HC,aU,er,jH,hz⟩:=jk X L fL hcut s;clear X L fL hcut s;obtain⟨g,j,B,i⟩:=cc;unfold RK E.value;simp only at en;simp only;gi_wp2;refine⟨(cK _ _),λp N=>?_⟩;have Q:PA t a r c (y d) (d.map xZ) bo p:=(HC.stays ((I.refl az W).alloc<|ay #[am g,am j,aK B,aE i] 170) cC).stays N (λk e=>by grind);have dk:iG p (z<|G W) ⟨g,j,B,i⟩:=iG.ap (aH _ rfl) N (by omega);obtain⟨eo,hv,l,O⟩:=Q.row;have hU:aS p (R (z<|G a) 0)=H (am r):=(Q.fix (z<|G a,am r,9)<|by simp).cell;have hV:aS p (R (z (G a)+1) 0)=H (aq c):=(Q.fix (z (G a)+1,aq c,3)<|by simp).cell;have bv:aS p (R (z (G a)+4) 0)=H eo:=hv.cell;obtain⟨A,x,bh⟩:=aC l;obtain⟨dx,dT,ia,ib⟩:=dk.cells;obtain⟨eq,HV,aV,bm,et,hn⟩:=kY Q hv l O N dk;have gx:z (G W)+1<=z (G p):=by have:=N.size;simp_all
  clear Q dk hv l O N;subst bh;have kb:=gx;have cl:I (λk=>bo k\/k=lr) W p:=((I.refl (λk=>bo k\/k=lr) W).alloc<|ay #[am g,am j,aK B,aE i] 170).trans et<|λk e=>.inl<|.inr e;have ac:∀k,z (G a)<=k->¬t.F k:=λk e hf=>by have:=hF k hf;omega
  have ba:t.D p:=t.eQ (t.eQ aU (cK az W) cC) et (λk e=>by grind);by_cases C:(!(r.toList==[])&&!iX g r)=ci
  .have ao:bl=d.map xZ:=by
    rw[af er,cr,vC];exact dV C
   have fs:(r.toList==[])=bj:=by cases h1:(r.toList==[])<;>simp[h1]at C|-
   have ds:iX g r=bj:=by cases h2:iX g r<;>simp[h2]at C|-
   unfold iX at ds;obtain⟨cB,cw,ce⟩:=dz cl ba ao;clear cl ba ao C;gi_wp2;refine⟨bo,.inl ⟨rfl,?_,cw⟩,cB,rfl,λk e=>.inl e⟩;rw[af ce,df];exact eq
  .have ef:(r.toList==[])=ci\/((r.toList==[])=bj/\iX g r=ci):=by
    cases h1:(r.toList==[])<;>cases h2:iX g r<;>simp[h1,h2]at C|-
   have cp:bl=if((y d:U)+1==c)=ci then d.map xZ++[xZ ⟨g,j,B,i⟩]else vC r c (d.map xZ++[xZ ⟨g,j,B,i⟩]) (D.map xZ):=by
    rw[af er,cr,vC,df];exact eI C
   have cn:=Y cp;have bi:=ar hn;have cs:=ar HV;have bn:aS p.drew (R (z (G a)+1+1+1+1) 0)=H (J A (y d) x)/\aS p.drew (R (z<|G W) 0)=H (am g)/\aS p.drew (R (z<|G W) 1)=H (am j):=⟨bv,dx,dT⟩;have bq:=Y (show∀P,I az p P->aS P (R (z (G a)+1+1+1+1) 0)=H (J A (y d) x)/\aS P (R (z<|G W) 0)=H (am g)/\aS P (R (z<|G W) 1)=H (am j)fromλP hX=>⟨hX.cell bn.1 id cs,hX.cell bn.2.1 id bi,hX.cell bn.2.2 id bi⟩);have hW:=λW=>uM g W en.1;have fz:=λW=>uM j W en.2;have hQ:z (G a)+5<=z (G p):=by omega
   have cB:=Y cl;have cw:=Y ba;clear cl ba C cp;rcases ef with fs|⟨fs,ds⟩;case' inl=>gi_wp2_with fail
   case' inr=>unfold iX at ds;gi_wp2_with fail
   all_goals
    rename_i QQ KK fd;refine tB (λP=>aS P (R (z (G a)+1+1+1+1) 0)=H (J A (y d) x)/\aS P (R (z<|G W) 0)=H (am g)/\aS P (R (z<|G W) 1)=H (am j)) 10 (by kernel_rfl) (by kernel_rfl) (λkz a h=>h) ?_;refine eR 0 ?_;iterate 3 (refine iC (v:=?_) bn rfl (by kernel_rfl) ma rfl ?_ ?_;rotate_left;(focus(rintro P⟨z0,z1,z2⟩;go_simp;try rfl));simp only[Act.put,eF,Nat.reduceAdd])
    apply ig;refine eR 4 ?_;iterate 2 (refine iC (v:=?_) bn rfl (by kernel_rfl) ma rfl ?_ ?_;rotate_left;(focus(rintro P⟨z0,z1,z2⟩;go_simp;try rfl));simp only[Act.put,eF,Nat.reduceAdd])
    apply ig;refine bC (i:=3) rfl rfl (by kernel_rfl) ?_;intro K3 ex;go_simp;apply(hW _).mono;rintro cd w4⟨rfl,fu⟩;have ei:I az p w4:=(cR az p).bW<|I.aQ (S:=az) fu;refine ex _ _ (λ_=>bq w4 ei) ?_;try simp only[Act.put,eF]
    refine bC (i:=6) rfl rfl (by kernel_rfl) ?_;intro K6 ey;go_simp;apply(fz _).mono;rintro cd w5⟨rfl,fv⟩;have T:I az p w5:=ei.bW<|I.aQ (S:=az) fv;refine ey _ _ (λ_=>bq w5 T) ?_;try simp only[Act.put,eF]
    refine bC (i:=7) rfl rfl (by kernel_rfl) ?_;intro K7 eA;go_simp;refine eA _ _ (λ_=>bq w5 T) ?_;try simp only[Act.put,eF]
    refine bC (i:=8) rfl rfl (by kernel_rfl) ?_;intro K8 eB;go_simp;have V:=T.alloc<|ay #[am g,am j] 116;refine eB _ _ (λ_=>bq _ V) ?_;try simp only[Act.put,eF]
    have bE:=T.size;refine bC (i:=9) rfl rfl (by kernel_rfl) ?_;intro K9 fb;simp only[cQ,cq,cy];refine kg (.tmp 36) (.tmp 44) 102 rfl (z (G a)+5) 116 i0 (dD #[am ⟨#[]⟩,am ⟨#[]⟩]) 2 32 underlying102 ip jC jD jE rfl (by decide) (J A (y d) x) (y d) (jw<|d.map xZ) rfl (V.own aV<|λ_ _ w=>w) (R (z<|G w5) 0) 1 1 (rS<|xZ ⟨g,j,B,i⟩) rfl rfl (Xc _ (xZ ⟨g,j,B,i⟩) _) (YK _) (by omega) (by omega) (by simp;omega) ?_;intro v3 w3 eg ej;obtain⟨x3,c3,iv⟩:=aC eg;subst iv;have bT:I (λk=>cz (J A (y d) x)=H k) p w3:=(V.mono (T:=λk=>cz (J A (y d) x)=H k) cC).trans (I.dW (S:=λk=>cz (J A (y d) x)=H k) ej.grown<|λk e=>.inl e)<|λk e=>.inl e;have dv:eG w3 (z (G a)+4) (J A (y d) x) 102:=(bT.block _ cs (λw=>by have:=(aV.lt _ w).1;omega)).trans HV;have ea:¬cz (J A (y d) x)=H (z<|G W):=λw=>by have:=(HC.lt _<|(bm _).2<|.inr<|.inr w).2;omega
    have dn:aS w3 (R (z (G a)+1+1+1+1) 0)=H (J A (y d) x)/\aS w3 (R (z<|G W) 0)=H (am g)/\aS w3 (R (z<|G W) 1)=H (am j):=⟨dv.cell,bT.cell dx ea bi,bT.cell dT ea bi⟩;refine fb _ _ (λ_=>dn) ?_;simp only[Act.put,eF];refine bC (i:=10) rfl rfl (by kernel_rfl) ?_;intro kk co;have hY:=dn.1;have ih:w3.frozen? (R (z (G a)+1+1+1+1) 0)=bj:=dv.free;go_simp;refine co _ _ Fc ?_;refine eN (by kernel_rfl) ?_ _;show KK _ _;apply fd;have fr:cz (J x3 (y d+1) c3)=cz (J A (y d) x)\/∃hj,cz (J x3 (y d+1) c3)=H hj/\z (G p)<=hj:=by
     rcases ej.uj with kl|⟨hj,kl,ks⟩
     .exact .inl kl
     .exact .inr ⟨hj,kl,by simp at ks;omega⟩
    obtain⟨B',q1,q2,q3⟩:=eq.more HV bm aV bT fr eg;have bp:Hid (PA t a r c (y d+1) (d.map xZ++[xZ ⟨g,j,B,i⟩]) B'<|cA w3 (R (z (G a)+1+1+1+1) 0)<|J x3 (y d+1) c3):=Y (by unfold PA;rw[Tw];exact q1);have ch:Hid (I bo p<|cA w3 (R (z (G a)+1+1+1+1) 0)<|J x3 (y d+1) c3):=Y q2;have hx:=Y q3;clear q1 q2 q3 fd ex ey eA eB fb co bT dv dn hY ih eg ej fr ea ei T V fu fv bn bq;obtain⟨W7,fn⟩:∃W7,cA w3 (R (z (G a)+1+1+1+1) 0) (J x3 (y d+1) c3)=W7:=⟨_,rfl⟩;rw[fn]at bp ch|-;clear fn;obtain⟨v7,ha,cv,hb⟩:=bp.row;obtain⟨x7,c7,hc⟩:=aC cv;subst hc;have kn:aS W7 (R (z (G a)+1+1+1+1) 0)=H (J x7 (y d+1) c7):=ha.cell;have ko:aS W7 (R (z (G a)+1) 0)=H (aq c):=(bp.fix (z (G a)+1,aq c,3)<|by simp).cell;have bb:t.D W7:=t.eQ cw ch<|λk e=>ac k (HC.lt k e).1;have fl:I (λk=>bo k\/k=lr) W W7:=cB.trans ch<|λk e=>.inl<|.inl e;have aD:W7.heap[lr]?=p.heap[lr]?:=ch.block lr (by omega) dc;have ev:∀k,B' k->bo k\/z (G W)<=k:=λk e=>(hx k e).imp_right (λw=>by omega);have K:=Y<|And.intro bb (And.intro fl (And.intro aD ev));clear bb fl aD ev ha cv hb hU hV bv dx dT ia ib;by_cases jK:(y d:U)+1=c
    .have gi:((y d:U)+1==c)=ci:=by grind
     have ao:bl=d.map xZ++[xZ ⟨g,j,B,i⟩]:=by rw[af cn];grind
     have ce:=Y ao;clear ao;gi_wp2;refine⟨B',.inl ⟨rfl,?_,K.1⟩,K.2.1,K.2.2.1,K.2.2.2⟩;rw[af ce,ag,df];exact bp
    .have gi:¬((y d:U)+1==c)=ci:=by grind
     have ao:bl=vC r c (d.map xZ++[xZ ⟨g,j,B,i⟩]) (D.map xZ):=by rw[af cn];grind
     have ce:=Y ao;have kt:((y d:U)+1==c)=bj:=by grind
     clear ao gi;gi_wp2;refine⟨K.1,B',⟨d++[⟨g,j,B,i⟩],by simp,?_,λjG hr=>?_⟩,K.2.1,K.2.2.1,K.2.2.2⟩
     .rw[ag,<-it];exact bp
     grind[af,append_cancel_left]
 (case done=>rintro l' cm bo W i hM⟨d,rfl,X,hcut⟩al L hK;(obtain rfl:hg=d:=by rcases i with h|⟨p,q,h⟩;exact((oC (f:=Sum.inl (β:=M))<|λ_ _=>wa).1 h).symm;(have:Sum.inr q∈d.map (Sum.inl (β:=M)):=by rw[h];simp);simp at this);(have g:bl=hg.map xZ:=by rw[hcut []<|by simp];rfl);(have X:PA t a r c (y bl) bl bo W:=by rw[g,df];exact X);clear g hcut;obtain⟨eo,hv,l,O⟩:=X.row;have bv:aS W (R (z (G a)+1+1+1+1) 0)=H eo:=hv.cell;have u:=X.fix (z (G a)+2,aw,102) (by simp);have v:=X.fix (z (G a)+3,.nilIface,41) (by simp);have fw:aS W (R (z (G a)+1+1) 0)=H aw:=u.cell;have ge:W.frozen? (R (z (G a)+1+1) 0)=bj:=u.free;have fx:aS W (R (z (G a)+1+1+1) 0)=H .nilIface:=v.cell;have gg:W.frozen? (R (z (G a)+1+1+1) 0)=bj:=v.free;obtain⟨A,x,bh⟩:=aC l;obtain⟨cM,cT,HC,HV,aV,bm,aU,HK⟩:=Ce u v X hv l O L hK;clear X hv l O L hK u v;subst bh;gi_wp2;have hB:=af bm;have X:=af HC;have n1:cm≠z (G a)+2:=λw=>al<|(hB _).2<|.inl ⟨(z (G a)+2,aw,102),by simp,w.symm⟩;have n2:cm≠z (G a)+3:=λw=>al<|(hB _).2<|.inl ⟨(z (G a)+3,.nilIface,41),by simp,w.symm⟩;have n3:¬cz (J A (y bl) x)=H cm:=λw=>al<|(hB _).2<|.inr<|.inr w;(have dm:(cA (cA W (R (z (G a)+2) 0)<|J A (y bl) x) (R (z (G a)+3) 0) .nilIface).heap[cm]?=H (.deferred<|H []):=by rw[iI _ n2,iI _ n1];exact HK);have au:eG (cA (cA W (R (z (G a)+2) 0)<|J A (y bl) x) (R (z (G a)+3) 0) .nilIface) (z (G a)+2) (J A (y bl) x) 102:=(cM.set _).other _ (by omega);have av:eG (cA (cA W (R (z (G a)+2) 0)<|J A (y bl) x) (R (z (G a)+3) 0) .nilIface) (z (G a)+3) .nilIface 41:=(cT.other _<|by omega).set _;have F:=gZ (cA (cA W (R (z (G a)+2) 0)<|J A (y bl) x) (R (z (G a)+3) 0) .nilIface) cm<|.deferred none;have ad:I (λk=>k=z (G a)+2\/k=z (G a)+3) W (cA (cA W (R (z (G a)+2) 0)<|J A (y bl) x) (R (z (G a)+3) 0) .nilIface):=((I.refl (λk=>k=z (G a)+2\/k=z (G a)+3) W).setCell _ 0 _<|.inl<|.inl rfl).setCell _ 0 _<|.inl<|.inr rfl;have bg:=(ad.mono (T:=λk=>k=z (G a)+2\/k=z (G a)+3\/k=cm)<|λk e=>.inl<|e.elim .inl<|λw=>.inr<|.inl w).trans F<|λk e=>.inl<|.inr<|.inr e;(have ac:∀k,z (G a)<=k->¬t.F k:=λk e hf=>by have:=hF k hf;omega);(have aa:∀k,(k=z (G a)+2\/k=z (G a)+3\/k=cm)->z (G a)<=k:=by have:=bf.size;rintro k(w|w|w)<;>omega);refine⟨by simp,.inl ⟨_,_,rfl,run_takeDeferred dm,?_⟩⟩;refine⟨_,vg rfl underlying102 _ _ (z (G a)+2) (z (G a)+3) (J A (y bl) x) .nilIface rfl rfl ?_ ?_,?_⟩;exact(eG.cell<|(F.block _ (ar au)<|λw=>n1 w.symm).trans au);exact(eG.cell<|(F.block _ (ar av)<|λw=>n2 w.symm).trans av);refine .inl ⟨_,rfl,?_,t.eQ aU bg<|λk e=>ac k<|aa k e,X.ap.trans bg<|λk e=>.inr<|aa k e⟩;have l:=af aV;have jB:=bg.own l (λk e w=>by have:=(l.lt k e).1;grind);obtain⟨h1,⟨h2,h0⟩|⟨hj,hH,db,h2,hi,s⟩⟩:=jB;exact⟨h1,.inl ⟨h2,h0⟩⟩;exact⟨h1,.inr ⟨hj,hH,db,h2,by omega,s⟩⟩)
end
section
open Conc.Locks
def Dn(b:U)(d c:ae)(a:U)(e:dJ):kK:=vC c a []<|((RJ b d e).filter<|λf=>!f.del).map xZ
def qw(s:SR)(m:cI)(a b c d:cN):(nU s m a b c d).map (·.2)=m::bY a b c d:=by
 simp[nU,bY,um,ng]
def UG(a:cN):y ((a.map bw.all).reverse).flatten=y (bZ a):=by
 unfold bZ;rw[rE,rE,um,List.sum_reverse]
def xw.flat{d b f h:cN}(j:xw F a c o i e d b f h g):y (e::bY d b f h).flatten<=g:=by
 have k:=j.qp;have l:=UG d;unfold bY;rw[bO,eK];grind
def xw.TW(k:xw F a b o i e j p r s c):∀x∈(e::bY j p r s).flatten,x.Good:=by
 intro x f;rw[<-qw o]at f;obtain⟨m,g,d⟩:=bB.1 f;obtain⟨l,h,rfl⟩:=bM.1 g;exact k.JI l h x d
def OW(w a:Z)(v:ab)(l:kK):Prop:=a.ownsRow (z<|G w) 116 2 v (y l)<|jw l
def SM(l g:ae)(d h:U)(v:CA Q i F)(q:cf a b o k)(f:xw F a b o i e j p r s c):cD aZ 115 #[aA b,am l,am g,aq d,aE h] a λC m=>(∃u,C=aJ (dd #[u,.nilIface])/\OW a m u (Dn h l g d<|e::bY j p r s)/\(qB Q o.aM i).D m/\I (qB Q o.aM i).F a m)\/∃x D r,RX (qB Q o.aM i) a m (qB Q o.aM i).F C (λK=>dd #[J x D r,K]):=by
 obtain⟨B,A,n⟩:=bN f.mem
 have t:=PY (z<|G a) (o.l0,j) (o.l1,p) (o.l2,r) (o.l3,s) (nU o e j p r s) l g d h q B (y e) A n (f.WY q) (xJ o e j p r s) (λL g=>f.Is v _<|ak g) f.Qg (ai _) f.aM.lt (by
  rw[qw];intro x w;have:=f.TW x (VQ _ _ _ x w);grind[E.Good.KN,E.Good.val])
  (by
   rw[qw];have:=VR h l (e::bY j p r s);have:=f.flat;have:=f.oO;omega)
 rw[qw]at t;exact t
def Vh(u t:ae)(d n:U)(w:CA Q i F)(v:cf a b o k)(g:xw F a b o i e j p r s c):cD aZ 67 #[aA b,am u,am t,aq d,aE n] a λA l=>(∃x,A=aJ (dd #[x,.nilIface])/\OW a l x (Dn n u t d<|e::bY j p r s)/\(qB Q o.aM i).D l/\I (qB Q o.aM i).F a l)\/RX (qB Q o.aM i) a l (qB Q o.aM i).F A (λK=>dd #[aw,K]):=by
 have B:=SM u t d n w v g;clear v g w;go_in
 go_wp2_with fail
 apply B.mono;rintro A N(⟨L,rfl,f⟩|⟨P,O,r,C,q,rfl,f⟩);(.obtain⟨E,D,rfl⟩:=aC f.1;have m:=Y f;clear f;go_wp2;(go_ret2);exact .inl ⟨_,rfl,m⟩);have m:=Y f;clear f;go_wp2;(go_ret2);exact .inr ⟨C,q,rfl,m⟩
def OW.unlock{l:kK}(h:OW a f d l)(c:b<z (G a)):OW a (cA f (R b 0) u) d l:=by
 unfold OW at h|-;exact h.kept (du f _ _ _) (by right;intro e;have:=(h.lt _ e).1;omega)
def Wi(v u:ae)(d:U)(h:cf a b o 0)(m:o.closed=ci):cD aZ 30 #[aA b,am v,am u,aq d] a λn l=>n=aJ (dd #[aw,pO 6])/\cf l b o 0/\I (λx=>x=b) a l:=by
 have q:=cf.cellAt h 0 rfl;have s:a.frozen? (R b 0)=bj:=h.free;have k:=h.lN 1;have c:=mi k;rw[m]at c;simp only[lk]at c;have p:=Y<|λi j=>zA (W2:=i) k (iV b a) j;clear h k m;rw[Iw]at c|-;go_enter_defers func30,ntmps30
 go_wp2_with fail
 apply(lock_free (R b 0) _ q s).mono;rintro n l⟨rfl,rfl⟩;go_wp2_with fail
 apply c.mono;rintro n i⟨rfl,j⟩;obtain⟨r,t,e⟩:=p i j;have g:=Y e;clear e j c;go_wp2;refine jp (f:=34) (args:=#[aA b]) (by simp) (by simp[go_sem]) ?_;apply(unlock_deferred (R b 0) .returning _ r t).mono;rintro n A w⟨rfl,rfl,rfl⟩;exact⟨_,uQ rfl _ _ _,rfl,g⟩
def Dm(lo hi:ae)(d:U)(hX:CA Q i F)(h:cf a b o 0)(S:xw F a b o i e j p r s c)(hc:o.closed=bj):cD aZ 30 #[aA b,am lo,am hi,aq d] a λO E=>((∃v',O=aJ (dd #[v',.nilIface])/\OW a E v' (Dn o.aT lo hi d<|e::bY j p r s))\/Q/\∃q,O=aJ (dd #[aw,ot q])/\vL E q)/\GH F a E b o i e j p r s c:=by
 have K:=ar h;have c0:=cf.cellAt h 0 rfl;have f0:a.frozen? (R b 0)=bj:=h.free;have A:=xO S.aM S.yO 1;have P:=h.lN 1;have N:z (G<|cA a (R b 0)<|lU 1)=z (G a):=gN;generalize hW:cA a (R b 0) (lU 1)=v at A P N;have D:=mi P;rw[hc]at D;have u:cD aZ 35 #[aA b] v λO E=>O=aJ .nilIface/\Below (z<|G v) v E:=D;have HX:=Y<|λl(w:Below (z<|G v) v l)=>JT (Xqq:=Q) (W2:=l) P S K A w;have HG:=Y (show∀l m al ad,Below (z<|G v) v l->OW l m al ad->OW a (cA m (R b 0)<|lU 0) al ad fromλl m al ad w X=>by have:OW a m al ad:=fM X (by have:=w.size;omega);exact this.unlock K);have HW:=Y hW;have V:=Y hX;clear h S A P hc hW D N hX;go_enter_defers func30,ntmps30
 go_wp2_with fail
 apply(lock_free (R b 0) _ c0 f0).mono;rintro O E⟨rfl,aa⟩;rw[af HW]at aa;subst E;go_wp2_with fail
 apply u.mono;rintro O l⟨rfl,w⟩;obtain⟨x,L,t⟩:=HX l w;have C:=Vh lo hi d o.aT V x L;have c9:=cf.cellAt x 9 rfl;have n:=Y t;have W:=Y<|λm al ad=>HG l m al ad w;clear x L t w u;go_wp2_with fail
 apply C.mono;rintro O m(⟨v2,rfl,B,g,k⟩|⟨hx,q,rfl,hq,g,k⟩);(.obtain⟨px,pc,rfl⟩:=aC B;obtain⟨d0,g0,hF,_⟩:=n m g k;have T:=Y hF;have X:=Y<|W _ _ _ B;clear g k hF C B;go_wp2;refine jp (f:=34) (args:=#[aA b]) (by simp) (by simp[go_sem]) ?_;apply(unlock_deferred (R b 0) .returning _ d0 g0).mono;rintro O u' ac⟨rfl,rfl,rfl⟩;exact⟨_,uQ rfl _ _ _,.inl ⟨J px _ pc,rfl,X⟩,T⟩);obtain⟨d0,g0,hF,X⟩:=n m g k;have T:=Y hF;have HQ:=Y<|X q hq;clear g k hF C hq X;go_wp2;refine jp (f:=34) (args:=#[aA b]) (by simp) (by simp[go_sem]) ?_;apply(unlock_deferred (R b 0) .returning _ d0 g0).mono;rintro O u' ac⟨rfl,rfl,rfl⟩;exact⟨_,uQ rfl _ _ _,.inr ⟨hx,q,rfl,HQ⟩,T⟩
def PB(k h:ae)(d:U)(v:cf a b o 0)(t:ST a b o i e j p r s c)(q:o.closed=bj):cD aZ 30 #[aA b,am k,am h,aq d] a λu l=>∃f,u=aJ (dd #[f,.nilIface])/\OW a l f (Dn o.aT k h d<|e::bY j p r s)/\LP a l b o i e j p r s c:=by
 refine(Dm k h d (CA.refl False i) v t q).mono ?_;rintro u l⟨⟨f,g,m⟩|g,n⟩;exact⟨f,g,m,n.Wj⟩;exact g.1.elim
end
def NR(c:ae)(a:U)(l b:kK):b<+:vC c a b l:=by
 induction l generalizing b with
 |nil=>exact List.prefix_refl _
 |cons p r d=>
  rw[vC];grind[prefix_refl,prefix_append]
def Uo(c:ae)(a:U)(i:0<a)(l b:kK)(g:(y b:U)<a):(vC c 0 b l).take a.toNat=vC c a b l:=by
 induction l generalizing b with
 |nil=>
  show b.take a.toNat=b;grind[take_of_length_le]
 |cons p r h=>
  rw[vC,vC];split
  .grind[take_of_length_le]
  .have e:((y b:U)+1==0)=bj:=by simp;omega
   rw[e];simp only[sq,nj];split
   .rename_i d;have d:(y b:U)+1=a:=by simpa using d
    obtain⟨t,f⟩:=NR c 0 r<|b++[p];rw[<-f,fU (by simp;omega),dp (by simp;omega)]
   grind
def Xu(c:U)(d b:ae)(a:U)(h:0<a)(e:dJ):(Dn c d b 0 e).take a.toNat=Dn c d b a e:=Uo b a h _ _<|by simpa using h
