import Derived.BigRegion
import Derived.Test.YtceammfgahaodaaGreatDoorC6
import Derived.Test.YtceammfgahaodaaGreatDoorC7
open _root_ renaming List.length→z,Option.some→M,Array.size→G,Go.World.heap→H,Go.Value.ownBlock→bY,Go.World.cell?→aS,Go.World.setCell→ct,Go.World.alloc→cF,Bool.false→bF,Bool.true→bX,Nat→R,Int→Y,List→cD,Go.Calls→cA,Go.undef→iE,Go.Proofs.Tryz.prog→bG,Go.Value.slice→ah,Go.Value.string→aj,Go.Value.bool→aO,Go.Value.pointer→fA,Go.Value.tuple→dE,Go.Value.agg→eB
namespace Go.Proofs.YtceammfgahaodaaGreatDoor
open ChangeShapes WideShapes RowKit Proofs.Tryz
set_option maxHeartbeats 16000000
set_option linter.all false
set_option maxRecDepth 100000
variable{a f B:I}{b c g l y P:R}{d t L:aa}{e K:cK}{j N:DK}{k:dX}{m D:Y}{n:SR}{o:eP}{X:fN}{u:jr}{v:ab}{w:E}{x:jd}{A:mU}{S:Type}
section
open Go.Shelf
attribute [local go_sem] Oper.semAt_some
def Pe(a:dX)(c:cK):dL (a++[c])=dL a++iJ (fM c):=by simp[dL]
def Qg{a:cK}(h:e.take b=K++a)(j:b<=z e){i:R}(g:i<z a):∃f:z K+i<z e,e[z K+i]=a[i]:=by
 have d:b=z K+z a:=by have:=bW z h;simp at this;omega
 refine⟨by omega,?_⟩;have c:(e.take b)[z K+i]'(by simp;omega)=(K++a)[z K+i]'(by simp;omega):=by simp only[h]
 rw[gB,ou<|by omega]at c;simpa using c
def Qd{g o r u bk s p:R}(D f n:R)(q:cK)(e:dX)(c:cK)(T:mf a g o r u bk s p (bE D f (z q) n) d t L (z e.flatten) b (dL e) (fM c) (bO 0 e))(V:Steps a)(W:D<o)(F:∀ad al,(aH q)[ad]?=M al->aS a (U D<|f+ad)=M al)(hcut:q.take b=e.flatten++c)(K:b<=z q)(k:0<z c)(hl:z q<=1000000)(h:∀A∈e,0<z A/\z (fM A)+4<=512)(C:z (fM c)+4<=512):cA bG 220 #[aA u,aA bk,aA r,aA p,aA s,aA o] a λac y=>
 ac=aP (dE #[])/\(∃l m,mf y g o r u bk s p (bE D f (z q) n) l aG m (z (e++[c]).flatten) b (dL<|e++[c]) (fM []) (bO 0<|e++[c])/\(∀x,bY l=M x->bY d=M x\/G (H a)<=x)/\(∀x,bY m=M x->bY L=M x\/G (H a)<=x))/\J (uL o p d t L) a y:=by
 have j:b=z e.flatten+z c:=by
  have:=bW z hcut;simp only[dP,af]at this;omega
 have v:z e<=z e.flatten:=by
  have:=h;clear T hcut j h;induction e with
  |nil=>simp
  |cons A e x=>
   have v:=(this A<|by simp).1;have E:=x (λP w=>this P<|by simp[w]);simp only[aC,aX,af];omega
 have E:z (dL e)<=512*z e:=by
  have:=h;clear T hcut j h v;induction e with
  |nil=>simp[dL]
  |cons A e x=>
   have v:=(this A<|by simp).2;have E:=x (λP w=>this P<|by simp[w]);rw[pt,af,gC,aC];omega
 obtain⟨i1,Q⟩:=Qg hcut K k
 obtain⟨i2,S⟩:=Qg hcut K (i:=z c-1)<|by omega
 have B:=(eG q _ i1).1
 have c1:=(eG q _ i2).1
 rw[Q]at B
 rw[S]at c1
 have hb:=kp e 0
 refine(WV D f n (z q) (z e.flatten+(z c-1)) (Ff c) (LX c) T V W ?_ ?_ (by omega) (by omega) (by omega) (by omega) (by omega) (by omega) (by omega)<|by omega).mono ?_
 .rw[Hw k];simpa using F _ _ B
 .rw[LV k];exact F _ _ c1
 .rintro ac y⟨rfl,⟨l,m,hv,hx⟩,X⟩;refine⟨rfl,⟨l,m,?_,hx⟩,X⟩;have N:z (e++[c]).flatten=b:=by rw[j];simp
  have O:bO 0 (e++[c])=bO 0 e++[⟨z<|dL e,z (fM c)+4,b-z e.flatten,Ff c,LX c⟩]:=by
   rw[CU,j,uQ,cZ];rfl
  rw[N,O,Pe];exact hv
def eQ.base{c base':R}(h:eQ a c d o)(e:base'<=c):eQ a base' d o:=eM h e
def eQ.XJ(i:eQ a b d o)(e:0<z o):∃g c h,d=bE g c (z o) h:=by
 rcases i.bytes.shape with⟨_,f⟩|⟨g,c,h,f,j⟩;rw[f]at e;simp at e;exact⟨g,c,h,f⟩
structure Gu(w:I)(lv:aa)(p:cK)(B:fN)(W:I):Prop where
 ex:∃cs cur dv pv kv,mf W (G (H w)+8) (G<|H w) (G (H w)+1) (G (H w)+2) (G (H w)+3) (G (H w)+4) (G (H w)+5) lv dv pv kv (z cs.flatten) (z p) (dL cs) (fM cur) (bO 0 cs)/\p=cs.flatten++cur/\(∀c∈cs,0<z c/\z (fM c)+4<=512)/\z (fM cur)+4<=512/\(cur=[]->p=[])/\(cs++[cur]).Pairwise gZ/\∀k,B k↔uL (G<|H w) (G (H w)+5) dv pv kv k
 fn:er W (G (H w)+6) (.func (.func 220) #[] #[aA<|G (H w)+2,aA<|G (H w)+3,aA<|G (H w)+1,aA<|G (H w)+5,aA<|G (H w)+4,aA<|G<|H w]) 1
 ay:J az w W
def Gu.lt(l:Gu a d e X B):∀k,X k->G (H a)<=k/\k<G (H B):=by
 obtain⟨i,g,j,n,m,h,_,_,_,_,_,c⟩:=l.ex;exactλk g=>⟨h.low k<|(c k).1 g,h.vt k<|(c k).1 g⟩
def Gu.stays{T:fN}(n:Gu a d e X f)(h:J T f B)(c:∀k,T k->¬X k/\G (H a)+7<=k):Gu a d e X B:=by
 obtain⟨l,b,m,v,u,t,o,p,q,r,s,i⟩:=n.ex;exact⟨⟨l,b,m,v,u,t.Yw h<|λk g j=>(c k j).1<|(i k).2 g,o,p,q,r,s,i⟩,n.fn.ay h (λj=>by have:=(c _ j).2;omega),n.ay.trans h<|λk g=>.inr (by have:=(c k g).2;omega)⟩
def PS{w W2 j w6:I}{K h g i v6:aa}{p gg cur:cK}{cs:dX}{B:fN}(e:mf j (G (H w)+8) (G<|H w) (G (H w)+1) (G (H w)+2) (G (H w)+3) (G (H w)+4) (G (H w)+5) K h g i (z cs.flatten) (z p) (dL cs) (fM cur) (bO 0 cs))(L:er j (G (H w)+6) (.func (.func 220) #[] #[aA<|G (H w)+2,aA<|G (H w)+3,aA<|G (H w)+1,aA<|G (H w)+5,aA<|G (H w)+4,aA<|G<|H w]) 1)(y:J az w j)(E:J B W2 j)(a:∀k,uL (G<|H w) (G (H w)+5) h g i k->B k\/G (H W2)<=k)(hcut:p=cs.flatten++cur)(m:∀c∈cs,0<z c/\z (fM c)+4<=512)(u:z (fM cur)+z (fM gg)+4<=512)(n:0<z gg)(x:(cs++[cur]).Pairwise gZ)(q:gZ p gg)(N:w6.ownsRow (G (H w)+8) 5 1 v6 (z (fM cur)+z (fM gg)) ((fM cur).map (Value.int .u8)++(fM gg).map (Value.int .u8)))(C:eY j w6 g v6):(aS w6 (U (G (H w)+2) 0)=M g/\w6.frozen? (U (G (H w)+2) 0)=bF)/\(aS (ct w6 (U (G (H w)+2) 0) v6) (U (G (H w)+5) 0)=M (aq<|z p)/\(ct w6 (U (G (H w)+2) 0) v6).frozen? (U (G (H w)+5) 0)=bF)/\∃D,Gu w K (p++gg) D (ct (ct w6 (U (G (H w)+2) 0) v6) (U (G (H w)+5) 0)<|aq ((z p+z gg:R):Y))/\J B W2 (ct (ct w6 (U (G (H w)+2) 0) v6) (U (G (H w)+5) 0)<|aq ((z p+z gg:R):Y))/\∀k,D k->B k\/G (H W2)<=k:=by
 have d:=J.fH C;have l:=e.p.ay d (e.kh<|by omega).2.1;have f:=e.piece (ps1:=fM<|cur++gg) d C.uq (eQ.of N (by rw[xY,af])<|by rw[xY,aQ]);have A:=f.at (z p+z gg);have v:∀k,bY g=M k->G (H w)+8<=k:=λk o=>(e.op.lt k o).1;have b:J (uL (G<|H w) (G (H w)+5) h g i) j (ct (ct w6 (U (G (H w)+2) 0) v6) (U (G (H w)+5) 0)<|aq ((z p+z gg:R):Y)):=((d.mono (T:=uL (G<|H w) (G (H w)+5) h g i)<|λk o=>.inl<|.inr<|.inr<|.inl o).setCell _ 0 _<|.inl<|.inl ⟨by omega,by omega⟩).setCell _ 0 _<|.inl<|.inl ⟨by omega,by omega⟩;refine⟨⟨l.cell,l.free⟩,⟨f.t.cell,f.t.free⟩,uL (G<|H w) (G (H w)+5) h v6 i,⟨⟨cs,cur++gg,h,v6,i,by rw[af];exact A,by rw[hcut,aW],m,by rw[xY,af];exact u,λc=>?_,?_,λk=>ru⟩,?_,?_⟩,E.trans b a,?_⟩;rw[ld]at c;rw[c.2]at n;simp at n;obtain⟨P,_,Q⟩:=bR.1 x;refine bR.2 ⟨P,by simp,λc F V O=>?_⟩;rw[bI.1 O];intro S t s r;rcases ap.1 r with r|r;exact Q c F cur (by simp) S t s r;exact q S (by rw[hcut];exact iz _<|bC.2 ⟨c,F,t⟩) s r
 .exact L.ay b (by
   rintro(⟨_,c⟩|c|c|c)
   .omega
   .have:=(e.od.lt _ c).1;omega
   .have:=v _ c;omega
   .have:=(aI e.ok _ c).1;omega)
 exact y.trans b<|λk o=>.inr<|e.low k o;rintro k(c|c|c|c);exact a k<|.inl c;exact a k<|.inr<|.inl c;rcases C.uq with r|⟨S,r,t⟩;exact a k<|.inr<|.inr<|.inl<|r▸c;rw[r]at c;cases c;exact .inr<|aF E.size t;exact a k<|.inr<|.inr<|.inr c
def En(O b f:R)(hT:Steps a)(hg:O<G (H a))(x:∀dx cx,(aH e)[dx]?=M cx->aS a (U O<|b+dx)=M cx)(dk:z e<=f)(dm:0<z e)(W:∀bn∈e,bn.Good)(hs:dS e)(c:∀O∈io e,z O<=10)(hl:z e<=1000000):cA bG 172 #[bE O b (z e) f] a λan w'=>∃dv kv r,an=aP (dE #[dv,kv])/\qH e r/\eQ w' (G<|H a) dv (dL r)/\w'.ownsRow (G<|H a) 347 5 kv (z r) (eD<|bO 0 r)/\J az a w':=by
 obtain⟨i0,ca,cm,cn,co⟩:=cL qC;have ck:=hT.lt;have dd:=AF (bE O b (z e) f) _ _ _ rfl;have hE:ku a (bE O b (z e) f) e:=⟨by rw[fS],.inr ⟨O,b,f,rfl,dk,x⟩⟩;obtain⟨HT,HC,HG,cE⟩:=gD hT x W c;clear hT x W c;refine(di (n:=3)).1 ?_;refine callsIn_of_wp_marks func172 rfl trivial ?_ rfl;simp only[ntmps172,eZ,aC,cS,Nat.reduceAdd,Nat.reduceSub,eh,dZ,fa,eE,cJ,cC];have dn:=oN (P:=bG) (w:=(cF (cF (cF (cF (cF (cF (cF a<|aw #[bE O b (z e) f] 102)<|aw #[aG] 126)<|aw #[aG] 126)<|aw #[aG] 289)<|aw #[aq 0] 3)<|aw #[aq 0] 3)<|aw #[.nilFunc] 1)) (b:=G (H a)+1+1+1+1+1+1) (u:=.nilFunc) (t:=1) (aE _<|by simp) (.func (.func 220) #[] #[aA<|G (H a)+1+1,aA<|G (H a)+1+1+1,aA<|G (H a)+1,aA<|G (H a)+1+1+1+1+1,aA<|G (H a)+1+1+1+1,aA<|G<|H a]) rfl;gi_wp2_with(refine⟨trivial,?_⟩;gi_at_call 79;refine(di.2<|dd _).mono ?_;rintro an w1⟨rfl,rfl⟩)
 clear dn;obtain⟨W0,l⟩:∃W0,(cF (cF (cF (cF (cF (cF (cF (cF a<|aw #[bE O b (z e) f] 102)<|aw #[aG] 126)<|aw #[aG] 126)<|aw #[aG] 289)<|aw #[aq 0] 3)<|aw #[aq 0] 3)<|aw #[.func (.func 220) #[] #[aA<|G (H a)+1+1,aA<|G (H a)+1+1+1,aA<|G (H a)+1,aA<|G (H a)+1+1+1+1+1,aA<|G (H a)+1+1+1+1,aA<|G<|H a]] 1)<|aw #[bE O b (z e) f] 102)=W0:=⟨_,rfl⟩;have ej:G (H W0)=G (H a)+8:=by rw[<-l];simp
 have cl:J az a W0:=by rw[<-l];exact(((((((cI az a).alloc _).alloc _).alloc _).alloc _).alloc _).alloc _).alloc _
 have db:er W0 (G (H a)+7) (bE O b (z e) f) 102:=by rw[<-l];exact aE _<|by simp
 have hA0:Gu a (bE O b (z e) f) (iq []) (uL (G<|H a) (G (H a)+5) aG aG aG) W0:=by refine⟨⟨[],[],aG,aG,aG,⟨?_,?_,?_,?_,?_,?_,eQ.nil _ _,eQ.nil _ _,bN _ _ _ _,(by simp[bY]),by omega,by omega⟩,rfl,by simp,by simp[fM],λ_=>rfl,by simp,λk=>ru⟩,?_,cl⟩;rw[<-l];exact er.alloc (er.alloc (er.alloc (er.alloc (er.alloc (er.alloc (er.alloc (aE _ rfl) _) _) _) _) _) _) _;rw[<-l];exact er.alloc (er.alloc (er.alloc (er.alloc (er.alloc (er.alloc (aE _<|by simp) _) _) _) _) _) _;rw[<-l];exact er.alloc (er.alloc (er.alloc (er.alloc (er.alloc (aE _<|by simp) _) _) _) _) _;rw[<-l];exact er.alloc (er.alloc (er.alloc (er.alloc (aE _<|by simp) _) _) _) _;rw[<-l];exact er.alloc (er.alloc (er.alloc (aE _<|by simp) _) _) _;rw[<-l];exact er.alloc (er.alloc (aE _<|by simp) _) _;rw[<-l];exact er.alloc (aE _<|by simp) _
 rw[l];refine nT (m:=3) (arg:=Gs<|bE O b (z e) f) (V:=AP) (n0:=G<|H a) (gf:=127) (lb:=#[aA<|G (H a)+7]) (l:=nV 0<|io e) (S:=λk=>k=G (H a)+7) ?geval (enters_of func127 (by kernel_rfl) rfl) (λ_=>rfl) (wh (G<|H a) 2 db (hE.ay cl<|λk c=>⟨id,(show O=k by simpa[bY]using c)▸hg⟩) (λk c=>(show O=k by simpa[bY]using c)▸hg) (by omega)<|by omega) trivial (by omega) (λk c=>by omega) (λg bo cu=>Gu a (bE O b (z e) f) (iq g) bo cu) (λ_ _ _ _=>False) _ hA0 (λk c j=>by rcases j with⟨_,j⟩|j|j|j<;>first|omega|(simp[bY]at j)) (λg bo cu B=>B.lt) ?st (λ_ _ _ _ _ _ h=>h.elim) ?body ?done ?stop;case geval=>rfl
 (case st=>intro g bo cu t T B i hT;refine B.stays i<|λk c=>⟨(hT k c).1,?_⟩;rcases(hT k c).2 with j|j|j;omega;exact j.elim;omega);(case stop=>intro bp j g bo cu _ h;exact h.elim)
 case body=>
  rintro lr g⟨cp,i⟩bo cu ei bh cd X B _;obtain⟨hn,en,c⟩:=Jq hs X;have bx:0<z i:=gJ.2 c.ne;have eg:cp+z i+z en=z e:=by rw[c.all,hn];simp;omega
  have T:=AQ hE c.all c.ne;rw[<-hn]at T;unfold Gs;unfold zt at T|-;simp only at T|-;have eb:z i<=10:=cE i (by obtain⟨_,eo,an⟩:=yI _ _ _ _ _ X;rw[<-an];simp);have bv:∀bn∈i,bn.Good:=λbn a=>HG bn (by rw[c.all];simp[a]);generalize f-cp=em at*;obtain⟨HA,HK,HN⟩:=dI B c hn;clear B X c hn;gi_wp2;refine⟨J.refl _ _,λW2 bl=>?_⟩;have hA2:=HA.stays bl (λk c=>by subst c;exact⟨bh,by omega⟩);have bi:ku W2 (bE O (b+cp*4) (z i) em) i:=T.ay hA2.ay<|λk c=>(show O=k by simpa[bY]using c)▸⟨id,hg⟩;have ch:=Em bi (λk c=>(show O=k by simpa[bY]using c)▸ag hg hA2.ay.size) bv (by omega);obtain⟨r,d,dv,pv,kv,hv,hcut,s,q,A,w,hB⟩:=hA2.ex;have dc:0<z (fM i)/\z (fM i)<=350:=by
   have h1:=Qe bv;have h2:=JH i;omega
  obtain⟨px,pc,cj⟩:=aB hv.op;obtain⟨cv,hb⟩:∃cv,z (fM i)=cv:=⟨_,rfl⟩;obtain⟨cB,ha⟩:∃cB,z (fM d)=cB:=⟨_,rfl⟩;rw[hb]at dc;rw[ha]at cj q;obtain⟨HV,HF,bf,au,HB,F⟩:=kD hv hA2.fn hA2.ay bl hB hcut;obtain⟨K,dT,bq,Hb,Ha,ed⟩:=kD s A w hb ha bi;clear hA2 bi T hv hcut s A w hB hb ha bl;subst cj;gi_wp2_with fail
  refine⟨trivial,(CallsIn.inRound lr<|di.2 ch).mono ?_⟩;rintro an E⟨b2,rfl,bk,o⟩;obtain⟨cM,N,cT,bs⟩:=bk.XJ (by rw[ae Hb];omega);rw[ae Hb]at bs;subst bs;have n:=HV.ay o;have bu:=HF.ay o id;have y5:=n.p.cell;have y9:=bu.cell;obtain⟨ao,bd,t⟩:=dI n bk o;clear n bu bk o ch;have ba:lr<G (H W2):=ag cd au.size;have ef:G (H cu)<=G (H W2):=au.size;have ce:z (iq g)=cp:=HN.symm;by_cases ea:(512:Y)<(cB:Y)+cv+4
  .have D:0<z d:=by
    rcases fY (z d)with j|j
    .obtain rfl:=aR j;have:=ae Ha;simp[fM]at this;omega
    .exact j
   have ax:=HK.all;have ad:J az a E:=bf.cw t;have v:=Qd O b f e r d ao (HT.below (ad.below (ai _) cN) ck) hg (λdx cx hj=>ad.cell (HC dx cx hj) id hg) (by rw[ax,aW,qd];exact F) (by omega) D hl K (by rw[ae Ha];exact q);clear ad ax;gi_wp2_with fail
   refine⟨trivial,(CallsIn.inRound lr<|di.2<|DX ((cB:Y)+cv) _ (by omega)<|by omega).mono ?_⟩;rintro an w4⟨rfl,ds⟩;subst w4;gi_wp2_with fail
   refine⟨trivial,(CallsIn.inRound lr<|di.2 v).mono ?_⟩;rintro an w5⟨rfl,⟨ee,ek,av,bt,cb⟩,ac⟩;have u:∀k,uL (G<|H a) (G (H a)+5) dv (ah px cB pc) kv k->bo k:=λk c=>(HB k).2 c;have bT:=HV.vt;have cc:=HV.low;have br:eQ w5 (G<|H W2) (bE cM N cv cT) (fM i):=ac.own bd (λk c j=>by have:=bT k j;have:=(bd.lt k c).1;omega);have bm:=av.size;have y6:=av.p.cell;have ec:=t.size;have w:=ae bq;have bc:=Z<|tJ br.bytes;have bg:=Z (λ(v6:aa)(w6:I)ho hw=>PS (w:=a) (w6:=w6) (v6:=v6) (p:=iq g) (cs:=r++[d]) (cur:=[]) (gg:=i) (B:=bo) (W2:=W2) av ((HF.ay t id).ay ac (by
    rintro(⟨_,j⟩|j|j|j)
    .omega
    .have:=(HV.od.lt _ j).1;omega
    .have:=(HV.op.lt _ j).1;omega
    .have:=(aI HV.ok _ j).1;omega))
    ((bf.cw t).trans ac<|λk c=>.inr<|cc k c) ((t.mono cN).trans ac<|λk c=>.inl<|u k c)
    (by
     rintro k(j|j|j|j)
     .exact .inl<|u k<|.inl j
     .rcases bt k j with an|an
      .exact .inl<|u k<|.inr<|.inl an
      .exact .inr<|by omega
     .simp[bY]at j
     .rcases cb k j with an|an
      .exact .inl<|u k<|.inr<|.inr<|.inr an
      .exact .inr (by omega))
    (by rw[ae F];simp) (by
     intro j x;rcases ap.1 x with x|x
     .exact K j x
     .rw[bI.1 x,ae Ha];exact⟨D,q⟩)
    (by rw[ae Hb];simp[fM];omega) bx (bR.2 ⟨w,by simp,λbn _ cs a=>by rw[bI.1 a];intro _ _ el hz;cases hz⟩) HK.low ho hw)
   clear av bt cb ac u bT cc br w v y5 y9;gi_wp2_with(first
    |(gi_at_builtin;refine ez _ rfl (.tmp 27) (.tmp 28) 126 rfl (G (H a)+8) 5 i0 (.int .u8 0) 1 1 underlying126 ca cm cn co rfl (by decide) _ 0 ((fM []).map (Value.int .u8)) rfl (bN _ _ _ _) (U cM N) cv cT ((fM i).map (Value.int .u8)) rfl (by rw[cV,ae Hb,rE]) bc (by intro cx hu;simp only[bz]at hu;obtain⟨cs,_,rfl⟩:=hu;rfl) (by omega) (by omega) bm ?_;intro v6 w6 y al;obtain⟨⟨y0,y1⟩,⟨y2,y3⟩,B2,hP,C,Q⟩:=bg v6 w6 (by rw[ae Hb];exact y) al;obtain⟨x6,c6,rfl⟩:=aB y;simp only[cZ]at y2 y3 hP C;rw[ce]at y2;have HP:=Z hP;have L:=Z C;have bb:=Z Q;clear y al hP C Q))
   have e1:iq (g++[(cp,i)])=iq g++i:=tF _ _ _;have e2:((cp:Y)+z i)=((z (iq g)+z i:R):Y):=by omega
   rw[e2];refine⟨trivial,B2,?_,(au.mono<|λk c=>.inl<|.inr c).trans L<|λk c=>.inl<|.inl c,L.block lr ba bh,λk c=>(bb k c).imp_right<|λj=>by omega⟩;show Gu a _ (iq<|g++[(cp,i)]) B2 _;rw[e1];exact HP
  .have u:∀k,uL (G<|H a) (G (H a)+5) dv (ah px cB pc) kv k->bo k:=λk c=>(HB k).2 c;have bm:=ao.size;have bc:=Z<|tJ bd.bytes;have bg:=Z<|λ(v6:aa)(w6:I)ho hw=>PS (w:=a) (w6:=w6) (v6:=v6) (p:=iq g) (cs:=r) (cur:=d) (gg:=i) (B:=bo) (W2:=W2) ao (HF.ay t id) (bf.cw t) (t.mono cN) (λk c=>.inl<|u k c) F K (by rw[ae Ha,ae Hb];omega) bx bq HK.low ho hw;clear u y9;gi_wp2_with fail
   refine⟨trivial,(CallsIn.inRound lr<|di.2<|DX ((cB:Y)+cv) _ (by omega)<|by omega).mono ?_⟩;rintro an w4⟨rfl,ds⟩;subst w4;gi_wp2_with(first
    |(gi_at_builtin;refine ez _ rfl (.tmp 27) (.tmp 28) 126 rfl (G (H a)+8) 5 i0 (.int .u8 0) 1 1 underlying126 ca cm cn co rfl (by decide) _ cB ((fM d).map (Value.int .u8)) rfl (by have h0:=ao.op;unfold eQ at h0;rw[ae Ha]at h0;exact h0) (U cM N) cv cT ((fM i).map (Value.int .u8)) rfl (by rw[cV,ae Hb,rE]) bc (by intro cx hu;simp only[bz]at hu;obtain⟨cs,_,rfl⟩:=hu;rfl) (by omega) (by omega) bm ?_;intro v6 w6 y al;obtain⟨⟨y0,y1⟩,⟨y2,y3⟩,B2,hP,C,Q⟩:=bg v6 w6 (by rw[ae Ha,ae Hb];exact y) al;obtain⟨x6,c6,rfl⟩:=aB y;rw[ce]at y2;have HP:=Z hP;have L:=Z C;have bb:=Z Q;clear y al hP C Q))
   have e1:iq (g++[(cp,i)])=iq g++i:=tF _ _ _;have e2:((cp:Y)+z i)=((z (iq g)+z i:R):Y):=by omega
   rw[e2];refine⟨trivial,B2,?_,(au.mono<|λk c=>.inl<|.inr c).trans L<|λk c=>.inl<|.inl c,L.block lr ba bh,λk c=>(bb k c).imp_right<|λj=>by omega⟩;show Gu a _ (iq<|g++[(cp,i)]) B2 _;rw[e1];exact HP
 (case done=>intro bp bo cu bb B L _ hK;obtain⟨r,d,dv,pv,kv,hv,hcut,s,q,A,w,hB⟩:=B.ex;rw[AM]at hcut A hv;(have D:0<z d:=by rcases fY (z d)with j|j;have:=A<|aR j;subst this;simp at dm;exact j);have v:=Qd O b f e r d hv (HT.below (B.ay.below (ai _) cN) ck) hg (λdx cx hj=>B.ay.cell (HC dx cx hj) id hg) (by rw[bP];exact hcut) (ai _) D hl s q;have u:¬uL (G<|H a) (G (H a)+5) dv pv kv bp:=λj=>L<|(hB bp).2 j;have HX:=Z (show∀E i t,mf E (G (H a)+8) (G<|H a) (G (H a)+1) (G (H a)+2) (G (H a)+3) (G (H a)+4) (G (H a)+5) (bE O b (z e) f) i aG t (z (r++[d]).flatten) (z e) (dL<|r++[d]) (fM []) (bO 0<|r++[d])->J (uL (G<|H a) (G (H a)+5) dv pv kv) cu E->(∀bn,bY i=M bn->bY dv=M bn\/G (H cu)<=bn)->(∀bn,bY t=M bn->bY kv=M bn\/G (H cu)<=bn)->(eQ E (G<|H a) i (dL<|r++[d])/\E.ownsRow (G<|H a) 347 5 t (z<|r++[d]) (eD<|bO 0<|r++[d]))/\J az a E/\E.heap[bp]?=M (.deferred<|M [])/\bY i≠M bp/\bY t≠M bp from by intro E i t n o hd c;have h1:=n.ok;rw[kp]at h1;have N:=am hK;exact⟨⟨n.od.base (by omega),eM h1<|by omega⟩,B.ay.trans o<|λk c=>.inr<|hv.low k c,(o.block bp N u).trans hK,λj=>by rcases hd bp j with an|an;exact u<|.inr<|.inl an;omega,λj=>by rcases c bp j with an|an;exact u<|.inr<|.inr<|.inr an;omega⟩);have av:=B.fn.cell;have HP:=Z<|show qH e (r++[d])from⟨by rw[hcut];simp,λj x=>by rcases ap.1 x with x|x;exact s j x;rw[bI.1 x];exact⟨D,q⟩,w⟩;clear B hcut s A w hB hv L u D;generalize r++[d]=au at*;(gi_wp2_with fail);refine⟨trivial,(di.2 v).mono ?_⟩;rintro an E⟨rfl,⟨i,t,n,Q,T⟩,o⟩;have z1:=n.d.cell;have z2:=n.k.cell;obtain⟨⟨y,C⟩,X,F,ax,ba⟩:=HX E i t n o Q T;obtain⟨x4,c4,rfl⟩:=aB y;obtain⟨x5,c5,rfl⟩:=aB C;obtain⟨ac,ad,al,ao⟩:=gD y C X F;have N:=am F;clear n o y C X F Q T av v hK;(gi_wp2_with fail);refine sE.2 ?_;(go_quiet(fail));gi_wp2;refine⟨by simp,.inl ⟨_,_,rfl,run_takeDeferred ao,?_⟩⟩;refine⟨_,kY rfl _ _ _,?_⟩;have K:=(gX (λk=>k=bp) E nq).trans (gH (E.drewN nq) bp<|.deferred none)<|λ_ h=>.inl h;exact⟨_,_,au,rfl,HP,K.own ac<|λk c j=>ax (by rw[<-j];exact c),K.own ad<|λk c j=>ba (by rw[<-j];exact c),al.trans K<|λk c=>.inr<|by omega⟩)
end
def uC(n:a.ownsRow b c g d l x)(q:0<l):∃f e,d=bE f 0 l e/\b<=f/\f<G (H a)/\l<=e:=by
 obtain⟨o,⟨_,p⟩|⟨f,e,k,h,i,j,m,_⟩⟩:=n;omega;exact⟨f,e,h,i,am j,m⟩
structure Nd(w0 w:I)(tb:R)(l:cK)(cs:dX)(bb wU db Gm:R):Prop where
 pieces:qH l cs
 mem:mh w tb (fA none) 0 0 0 0 bb 0 wU (bE db 0 (z<|dL cs) Gm) (bO 0 cs)
 data:eQ w (G<|H w0) (bE db 0 (z<|dL cs) Gm) (dL cs)
 Gq:w.ownsRow (G<|H w0) 347 5 (bE bb 0 (z<|bO 0 cs) wU) (z<|bO 0 cs) (eD<|bO 0 cs)
 new:G (H w0)<=tb
 ay:J az w0 w
def DM(t:cK)(y d l:R)(W:I)(P:Steps W)(V:y<G (H W))(Q:∀E F,(aH t)[E]?=M F->aS W (U y<|d+E)=M F)(w:z t<=l)(n:0<z t)(m:∀ad∈t,ad.Good)(hs:dS t)(i:∀y∈io t,z y<=10)(hl:z t<=1000000):cA bG 118 #[bE y d (z t) l] W λac k=>∃j c e a f b,ac=aP (aA j)/\Nd W k j t c e a f b:=by
 have x:=En y d l P V Q w n m hs i hl
 have L:=Z (show∀p s c k,qH t c->eQ k (G<|H W) p (dL c)->k.ownsRow (G<|H W) 347 5 s (z c) (eD<|bO 0 c)->J az W k->∃e a f b,s=bE e 0 (z<|bO 0 c) a/\p=bE f 0 (z<|dL c) b/\Nd W (cF k<|aw #[fA none,aL 0,dz 0,dz 0,dz 0,bE e 0 (z<|bO 0 c) a,bE f 0 (z<|dL c) b] 293) (G<|H k) t c e a f b from by
  intro p s c k o q i r;rw[<-kp c 0]at i;have g:0<z (bO 0 c):=by
   rw[kp];rcases fY (z c)with O|O
   .obtain rfl:=aR O;have:=o.flat;simp at this;rw[this]at n;simp at n
   .exact O
  have v:0<z (dL c):=by
   rw[kp]at g;have:=JI c 0 g;omega
  have S:=o.length;obtain⟨e,a,rfl,b1,b2,N⟩:=uC i g;obtain⟨f,b,rfl,d1,d2,d3⟩:=uC q v;refine⟨e,a,f,b,rfl,rfl,o,⟨aE _ rfl,?_,g,N,by rw[kp];omega⟩,q.alloc _,aU i _,r.size,r.alloc _⟩;intro E F X;obtain⟨h1,⟨B,h0⟩|⟨b',C,A,B,_,u⟩⟩:=dr<|aU i<|aw #[fA none,aL 0,dz 0,dz 0,dz 0,bE e 0 (z<|bO 0 c) a,bE f 0 (z<|dL c) b] 293
  .omega
  .cases B;exact u E F X)
 go_in
 go_wp2_with(go_at_call 172;refine x.mono ?_;rintro ac D⟨p,s,c,rfl,o,q,i,r⟩;obtain⟨e,a,f,b,rfl,rfl,hF⟩:=L p s c D o q i r;have K:=Z hF;clear o q i r hF)
 go_ret;exact⟨G<|H D,c,e,a,f,b,rfl,K⟩
def Vy(h:cU a b j)(cs:∀f∈j.files,z f.bytes<=1099511627776)(K:((vw j.files).map (·.1)).Nodup):cA bG 24 #[.pointer<|M ⟨b,0,none⟩] a λcj w'=>∃g K',cj=.returned (.pointer<|M ⟨g,0,none⟩)/\cU w' g K'/\(vw K'.files).Perm (vw j.files)/\K'.eU=[]/\(∀k,K'.bw g k->G (H a)<=k)/\J (λ_=>False) a w':=by
 have el:aS a ⟨b,0,none⟩=M (.map<|M j.nb):=by rw[bL h.iN];rfl
 have em:aS a ⟨b,3,none⟩=M (.int .i64 1099511627776):=by rw[bL h.iN];rfl
 have cn:=Cw a;obtain⟨HD,HB,HN⟩:=dI h cs K;clear h cs K;go_in
 go_wp2_with fail
 apply cn.mono;rintro cj w1⟨rfl,r,cp⟩;have ad:J (λ_=>False) a w1:=J.aV cp;have X:=(ae HD).ay ad<|λ_ _=>id;have fx:aS w1 ⟨b,0,none⟩=M (.map<|M j.nb):=by rw[bL X.iN];rfl
 obtain⟨g,bi⟩:∃g,G (H a)+2=g:=⟨_,rfl⟩;rw[bi]at r|-;obtain⟨K1,C⟩:∃K1,rN (G<|H a)=K1:=⟨_,rfl⟩;rw[C]at r;have dk:K1.eU=[]:=by rw[<-C];rfl
 have cv:K1.files=[]:=by rw[<-C];rfl
 have ba:∀k,K1.bw g k->G (H a)<=k:=by intro k o;rw[<-C,<-bi]at o;rcases o with d|d|d|d|⟨gA,hx,d⟩|⟨ha,hg,d⟩;omega;have:k=G (H a):=d;omega;have:k=G (H a)+1:=d;omega;cases d;cases hx;cases hg
 obtain⟨cb,gg,x,ce,au,eg,ec⟩:=wI X.now X r ad ba dk cv;have ff:=ad.size;clear cn cp ad X r ba dk cv C bi el em
 go_wp2_with(first
  |(at_range;refine ux _ rfl _ 70 rfl 9 125 underlying70 j.nb _ rfl (ae cb) ?_;intro w0 bb cM ey;have bv:=Z bb;have A:=Z cM;clear bb cM))
 go_frame
 obtain⟨rb,dx⟩:∃rb,G (H w1)=rb:=⟨_,rfl⟩;rw[dx]at bv|-;have gb:G (H a)<=rb:=by omega
 obtain⟨bq,ej,bu⟩:=dI ((ae x).ay (J.dR (S:=λ_=>False) (ae A)<|by simp)<|λ_ _=>id) ((ae ce).cw<|J.dR (S:=λ_=>False) (ae A)<|by simp) (show∀k,K1.bw g k->G (H a)<=k/\k≠rb fromλk o=>⟨(ae au) k o,by have:=(ae x).lt k o;omega⟩);clear x ce au A ff ey dx;go_loopw [4] (λ_ wr=>∃(fr:cD dp)(K':DK),(vw K'.files++vw fr).Perm (vw j.files)/\K'.eU=[]/\cU wr g K'/\(∀k,K'.bw g k->G (H a)<=k/\k≠rb)/\qJ wr j.nb rb (j.files.map dp.nm) (fr.map dp.nm)/\(∀f∈fr,f∈j.files)/\J (λ_=>False) a wr) (λ_ wr=>wr.rangeLeft j.nb rb)
 (case atStart=>refine⟨j.files,K1,?_,ae eg,ae bq,ae bu,ae bv,λ_ d=>d,ae ej⟩;rw[ae ec];exact nJ _)
 case round=>
  obtain⟨fr,K',hp,hm,cu,cE,dc,hL,ht⟩:=hrel;obtain⟨bT,HT,HP,br,m,HL,HM⟩:=wI dc ht hp cu cE hL hm;clear dc ht hp cu cE hL hm;go_wp2_with(first
   |(at_next;refine vN _ rfl _ rfl j.nb rb _ _ rfl (ae bT) ?_ ?_))
  .intro c;obtain rfl:fr=[]:=by simpa using c
   go_wp2;go_ret;refine⟨g,rfl,K',ae br,?_,ae HM,λk o=>((ae m) k o).1,ae HT⟩;have:=ae HP;simpa[vw]using this
  .intro gv pk pv gc n eb bc cT fb gr;obtain⟨ge,f,gf,rfl,rfl,dv,rfl⟩:=EC eb;simp only[dp.nm,po,hZ]at dv;obtain⟨rfl,rfl⟩:=dv;have bp:J (λk=>k=rb) wr n:=fy cT;have Q:J (λ_=>False) a n:=(ae HT).trans bp (λgA hx=>.inr<|by omega);have s:=(ae br).ay bp<|λk o cj=>((ae m) k o).2 cj;have cx:f∈j.files:=(ae HL) f (by simp);have cB:=(ae HD).files f cx;have l:=cB.ay Q id<|λ_ _ d=>d;have bk:=Ig (v:=f.data) (bs:=f.bytes) (w:=n.drew) (l.2.1.bytes.of_heap rfl) ((ae HB) f cx)<|λk o=>((aI l.2.1 k o).2:k<G (H n));have ev:=am l.1;have k0:aS n.drew ⟨g,0,none⟩=M (.map<|M K'.nb):=by rw[bD,bL s.iN];rfl
   have kd:aS n.drew ⟨f.pV,0,none⟩=M f.data:=by rw[bD,bL l.1];rfl
   obtain⟨fu,fs,eo⟩:=aB l.2.1;have bd:=am s.iN;obtain⟨c,B,y,ed⟩:=gD s Q bc l;clear eb bc cT fb bp Q s cB l;rw[eo]at kd bk;go_wp2_with fail
   rename_i QQ KK cm;refine cz (λe=>aS e ⟨g,0,none⟩=M (.map<|M K'.nb)/\aS e ⟨f.pV,0,none⟩=M (.slice fu (z f.bytes) fs)) 17 (by kernel_rfl) ?_;have bg:=And.intro k0 kd;refine cY 0 ?_;iterate 9 (refine xq (v:=?_) bg rfl (by kernel_rfl) (λ_ _ _ h=>h) (Or.inl ⟨by rfl,?_⟩) ?_;rotate_left;(focus(rintro e⟨z0,z1⟩;go_simp;try with_reducible rfl));try simp only[Act.put,Nat.reduceAdd,cH,dM,dH])
   apply eA;refine cY 10 ?_;iterate 5 (refine xq (v:=?_) bg rfl (by kernel_rfl) (λ_ _ _ h=>h) (Or.inl ⟨by rfl,?_⟩) ?_;rotate_left;(focus(rintro e⟨z0,z1⟩;go_simp;try with_reducible rfl));try simp only[Act.put,Nat.reduceAdd,cH,dM,dH])
   apply eA;refine aM (i:=9) rfl rfl (by kernel_rfl) ?_;intro K9 cl;go_simp;apply bk.mono;rintro cj q⟨v3,rfl,bo,bh⟩;obtain⟨x3,c3,fe⟩:=aB bo;subst fe;have O:J (λ_=>False) n q:=(cg (λ_=>False) n).cw<|J.aV (S:=λ_=>False) bh;have D:aS q ⟨g,0,none⟩=M (.map<|M K'.nb)/\aS q ⟨f.pV,0,none⟩=M (.slice fu (z f.bytes) fs):=⟨O.cell (by rw[bD]at k0;exact k0) id bd,O.cell (by rw[bD]at kd;exact kd) id ev⟩;refine cl _ _ (λ_=>D) ?_;try simp only[Act.put,cH,dM,dH]
   refine lR (i:=15) (v:=?_) rfl rfl (by kernel_rfl) (by kernel_rfl) (by kernel_rfl) (by kernel_rfl) (λ_ _ _ h=>h) (Or.inl ⟨by rfl,?_⟩) D ?_;rotate_left
   .rintro e⟨z0,z1⟩;go_simp;try with_reducible rfl
   try simp only[Act.put,cH,dM,dH]
   refine aM (i:=16) rfl rfl (by kernel_rfl) ?_;intro gj av;go_simp;have dT:=O.size;refine av _ _ (λ_=>⟨by rw[fE<|by omega];exact D.1,by rw[fE<|by omega];exact D.2⟩) ?_;try simp only[Act.put,cH,dM,dH]
   obtain⟨W4,E⟩:∃W4,cF q (.cells #[.slice x3 (z f.bytes) c3,.int .i64<|z f.bytes] 129)=W4:=⟨_,rfl⟩;rw[E];have al:J (λ_=>False) n W4:=by rw[<-E];exact O.alloc _
   have dn:W4.heap[G<|H q]?=M (.cells #[.slice x3 (z f.bytes) c3,.int .i64<|z f.bytes] 129 (0,0)):=by rw[<-E];exact aE _ rfl
   have ds:W4.ownsRow (G<|H n.drew) 5 1 (.slice x3 (z f.bytes) c3) (z f.bytes) (f.bytes.map<|Value.int .u8):=by rw[<-E];exact aU bo _
   have F:=(ae c).now.ay al id;refine aM (i:=17) rfl rfl (by kernel_rfl) ?_;intro gk ax;try simp only[cy,bU,cf]
   refine As (.tmp 24) (.tmp 25) (.tmp 37) 70 rfl 9 125 underlying70 underlying9 K'.nb _ rfl F f.name (.pointer<|M ⟨G<|H q,0,none⟩) rfl rfl ?_;intro V ac bm ea;refine ax _ _ wH ?_;refine cX (by kernel_rfl) ?_ _;show KK _ _;apply cm;have L:f.name∉K'.files.map dp.name:=by
    have hp:=(ae HP).map<|λ(gA:ab×eP)=>gA.1;have K:=hp.nodup_iff.2<|ae HN;rw[aQ,jx]at K;intro hc;refine K.2.2 f.name ?_ f.name ?_ rfl
    .simpa[vw]using hc
    .simp[vw]
   have t:=Ml L;rw[Ek t]at ac;have an:J (λk=>k=K'.nb) n V:=(al.mono (T:=λk=>k=K'.nb) cN).trans (fy bm)<|λ_ d=>.inl d;have en:g≠K'.nb:=rB (ae c).now (ae c).iN;have gn:g≠K'.sb:=rB (ae c).safe (ae c).iN;have bn:V.heap[g]?=n.heap[g]?:=an.block g bd en;have y0:aS V.drew ⟨g,0,none⟩=M (.map<|M K'.nb):=by rw[bD,bL<|bn.trans (ae c).iN];rfl
   have y1:aS V.drew ⟨g,1,none⟩=M (.map<|M K'.sb):=by rw[bD,bL<|bn.trans (ae c).iN];rfl
   have N:gI V K'.sb K'.sm:=(ae c).safe.ay an<|λcj=>(ae c).ne cj.symm;have dd:=Mk (v:=.pointer<|M ⟨G<|H q,0,none⟩) t;have bf:gI V.drew K'.nb (K'.files.map dp.nm++[(f.name,.pointer<|M ⟨G<|H q,0,none⟩)]):=ac.ay (cg (λ_=>False) V) id;have u:gI V.drew K'.sb K'.sm:=N.ay (cg (λ_=>False) V) id;obtain⟨j0,eq,eu,es,et⟩:=cL uj;clear es et;obtain⟨ek,ca,W,ei,ee⟩:=jX an dn ds ac bm;have cd:=Z u;obtain⟨fn,ef,fk,fl,cc⟩:=jX al dd t L<|And.intro dT ea;clear dd t L dT ea cm cl av ax bg D k0 kd bo bh bk F ac bm N u bn dn ds an al O E;go_wp2_with fail
   have co:=And.intro y0 (And.intro y1 bf);clear y0 y1 bf;refine cz (λe=>aS e ⟨g,0,none⟩=M (.map<|M K'.nb)/\aS e ⟨g,1,none⟩=M (.map<|M K'.sb)/\gI e K'.nb (K'.files.map dp.nm++[(f.name,.pointer<|M ⟨G<|H q,0,none⟩)])) 11 (by kernel_rfl) ?_;refine cY 0 ?_;iterate 10 (refine xq (v:=?_) co rfl (by kernel_rfl) (λ_ _ _ h=>h) (Or.inl ⟨by rfl,?_⟩) ?_;rotate_left;(focus(rintro e⟨z0,z1,z2⟩;go_simp;try rfl));simp only[Act.put,Nat.reduceAdd,cH,dM,dH,cy,bU,cf])
   apply eA;refine lR (i:=10) (v:=.pointer<|M ⟨G<|H q,0,none⟩) rfl rfl (by kernel_rfl) (by kernel_rfl) (by kernel_rfl) (by kernel_rfl) (λ_ _ _ h=>h) (Or.inl ⟨by rfl,?_⟩) co ?_
   .rintro e⟨z0,z1,z2⟩;have bl:=uc underlying70 underlying9 eq eu z2 f.name;rw[ae ef]at bl;simp only[ia]at bl;clear z0 z1 z2;go_simp;try with_reducible rfl
   simp only[Act.put,cH,dM,dH,cy,bU,cf];refine aM (i:=11) rfl rfl (by kernel_rfl) ?_;intro gi ck;try simp only[cy,bU,cf]
   refine As (.tmp 41) (.tmp 42) (.tmp 48) 70 rfl 9 125 underlying70 underlying9 K'.sb _ rfl (ae cd) f.name (.pointer<|M ⟨G<|H q,0,none⟩) rfl rfl ?_;intro w6 dm db fd;refine ck _ _ wH ?_;refine cX (by kernel_rfl) ?_ _;have ao:J (λk=>k=K'.sb) V w6:=(cg (λk=>k=K'.sb) V).trans (fy db)<|λ_ d=>.inl d;have p:J (λk=>k=K'.nb\/k=K'.sb) n w6:=((ae ek).mono (T:=λk=>k=K'.nb\/k=K'.sb)<|λ_ d=>.inl<|.inl d).trans ao<|λ_ d=>.inl<|.inr d;have P:J (λk=>k=K'.nb\/k=K'.sb) W4 w6:=((J.dR (S:=λk=>k=K'.nb\/k=K'.sb) (ae ee) (by rintro k⟨⟩;exact .inl<|.inl rfl))).trans ao<|λ_ d=>.inl<|.inr d;have w:=Z<|show G (H n)<=G (H q)/\True from⟨(ae cc).1,trivial⟩;have fz:=(ae c).lt K'.nb<|.inr<|.inl rfl;have fL:=(ae c).lt K'.sb<|.inr<|.inr<|.inl rfl;have bt:=Z<|(ae c).add (f:=⟨f.name,G<|H q,.slice x3 (z f.bytes) c3,f.bytes,z f.bytes⟩) (ae HM) p ((ae ei).ay ao<|λcj=>(ae c).ne cj) dm ⟨(P.block _ (am<|ae ca) (λd=>by have:=(ae w).1;rcases d with d|d<;>omega)).trans<|ae ca,eM (P.own (ae W) (λk o d=>by have:=((ae W).lt k o).1;have cj:G (H n.drew)=G (H n):=rfl;rcases d with d|d<;>omega))<|bB _,(ae ed).2.2⟩ (ae w).1<|λk o=>((ae W).lt k o).1;have ch:=Z ((ae B).trans p (λk d=>by
    have h1:=((ae m) K'.nb<|.inr<|.inl rfl).1;have h2:=((ae m) K'.sb<|.inr<|.inr<|.inl rfl).1;rcases d with d|d
    .exact .inr<|by omega
    .exact .inr (by omega)))
   have fv:j.nb<G (H a):=(ae HD).lt j.nb<|.inr<|.inl rfl;have bx:=Z ((ae y).kept (p.block _ (by have:=(ae B).size;omega) (λd=>by
    have h1:=((ae m) K'.nb (.inr (.inl rfl))).1;have h2:=((ae m) K'.sb (.inr (.inr (.inl rfl)))).1;rcases d with d|d<;>omega)) (p.block _ (ae y).lt (λd=>by
     have h1:=((ae m) K'.nb (.inr (.inl rfl))).2;have h2:=((ae m) K'.sb (.inr (.inr (.inl rfl)))).2;rcases d with d|d<;>omega)))
   clear dm db fd ao p P;go_wp2;go_roundw;case rel=>
    obtain⟨ex,bl⟩:=ae bt;refine⟨ge++gf,{K' with files:=K'.files++[⟨f.name,G<|H q,.slice x3 (z f.bytes) c3,f.bytes,z f.bytes⟩],sm:=K'.sm.put f.name (.pointer<|M ⟨G<|H q,0,none⟩)},?_,ae HM,ex,?_,?_,λha hg=>(ae HL) ha ?_,ae ch⟩
    .refine List.Perm.trans ?_<|ae HP;show List.Perm (vw (K'.files++[⟨f.name,G<|H q,.slice x3 (z f.bytes) c3,f.bytes,z f.bytes⟩])++vw (ge++gf)) (vw K'.files++vw (ge++f::gf));simp only[vw,aQ,aZ,fi,aW,jU];exact lE _ lj.symm
    .intro k o;have bh:=(ae w).1;have gt:=(ae B).size;have gs:=(ae y).lt;rcases bl k o with d|d|d
     .exact(ae m) k d
     .have:k=G (H q):=d;exact⟨by omega,by omega⟩
     .have:=((ae W).lt k d).1;have cj:G (H n.drew)=G (H n):=rfl;exact⟨by omega,by omega⟩
    .rw[aQ];exact ae bx
    .simp only[ap,aD]at hg|-;exact hg.imp id .inr
   case measure=>rw[(ae bx).left_eq,(ae bT).left_eq];simp
structure rq.Can(k:rq):Prop where
 size:k.size<=512
 c1:1<=k.count
 c2:k.count<=100
 f1:1<=k.first.size
 f8:k.first.size<=8
 l1:1<=k.last.size
 l8:k.last.size<=8
 le:im k.last k.first=bF
def OK:(prog.info? 347).map (λi=>(i.zero,i.size,i.bytes))=M (M<|eB #[aq 0,aq 0,aq 0,aj ⟨#[]⟩,aj ⟨#[]⟩],5,56):=by kernel_rfl
def SW(x c d u v:aa)(t:TypeId)(f:b=G (H a)):∀j q,[x,c,d,u,v][j]?=M q->aS (cF a<|aw #[x,c,d,u,v] t) (((U b 0):Addr).add j)=M q:=by
 intro j q e;subst f;rw[dB];unfold World.cell?;rw[fG];simpa using e
def SZ(a:mU)(k:rq):eD (a++[k])=eD a++[aq k.pos,aq k.size,aq k.count,aj k.first,aj k.last]:=by simp[eD,rq.cells]
def Jl(a b:ab):(Op.bytesLess a.toList b.toList||a.toList==b.toList)=!im b a:=by rw[<-PZ];simp
def WN(t:TypeId)(a b:ab):binOp .leq t (aj a) (aj b)=pure (aO<|Op.bytesLess a.toList b.toList||a.toList==b.toList):=by simp[binOp,Op.stringOp]
def Hq(s:ab)(w:I)(b:1<=s.size)(c:s.size<=8):cA bG 68 #[aj s] w λe a=>e=aP (aO bX)/\a=w:=by
 apply(rf s w<|by omega).mono;rintro e a⟨rfl,rfl⟩;exact⟨by simp[b,c],rfl⟩
def Va(k:rq)(w:I)(h:k.Can):cA bG 249 #[k.value] w λo p=>o=aP (aO bX)/\p=cF w (aw #[aq k.pos,aq k.size,aq k.count,aj k.first,aj k.last] 347):=by
 obtain⟨pos,j,b,first,a⟩:=k;have l:=h.size;have m:=h.c1;have n:=h.c2;have e:=h.f1;have f:=h.f8;have g:=h.l1;have i:=h.l8;have q:(Op.bytesLess first.toList a.toList||first.toList==a.toList)=bX:=by rw[Jl];simp only[h.le];rfl
 simp only at l m n e f g i;unfold rq.value;simp only;clear h;go_in
 go_wp2_with fail
 apply(Hq first _ e f).mono;rintro o d⟨rfl,c⟩;subst d;go_wp2_with fail
 apply(Hq a _ g i).mono;rintro o d⟨rfl,c⟩;subst d;go_wp2;go_ret;exact⟨rfl,rfl⟩
def td(a:mU):R:=(a.map rq.size).sum
def sf(a:mU):R:=(a.map rq.count).sum
def jc(a:mU):ab:=(a.getLast?.map rq.last).getD ⟨#[]⟩
structure Kg(ks:mU):Prop where
 ne:1<=z ks
 len:z ks<=100
 can:∀k∈ks,k.Can
 MF:sf ks<=100
 pos:∀n(h:n<z ks),ks[n].pos=td (ks.take n)
 ZC:∀n(h:n<z ks),im (jc<|ks.take n) ks[n].first=bX
def NC(a:mU)(k:rq):td (a++[k])=td a+k.size:=by simp[td]
def BV(a:mU)(k:rq):sf (a++[k])=sf a+k.count:=by simp[sf]
def ET(a:mU)(k:rq):jc (a++[k])=k.last:=by simp[jc]
def BU(a:mU)(n:R):sf (a.take n)<=sf a:=by
 have h:=bW (λl=>(l.map rq.count).sum)<|ci n a;simp only[aQ,gw]at h;unfold sf;omega
def KF{ks:mU}(h:∀k∈ks,k.Can):td ks<=512*z ks:=by
 induction ks with
 |nil=>simp[td]
 |cons k ks b=>
  have a:=(h k<|by simp).size;have c:=b (λj a=>h j<|by simp[a]);unfold td at*;simp only[aZ,iT,aC];omega
def rq.Can.fits{k:rq}(h:k.Can):k.Fits:=⟨by have:=h.size;omega,by have:=h.c2;omega,by have:=h.f8;omega,by have:=h.l8;omega⟩
def AG(s:ab)(b:s.size<=255):kG (eC s):=by
 intro x a;unfold eC at a;rcases aD.1 a with rfl|a;omega;exact kG.text s x a
def UX{k:rq}(h:k.Fits):kG (vr k):=(kG.le 4 _).append<|(kG.le 4 _).append<|(AG _ h.first).append<|AG _ h.last
def Jw(h:∀k∈A,k.Fits):kG (A.flatMap vr):=by
 intro x a;obtain⟨k,b,a⟩:=mF.1 a;exact UX (h k b) x a
structure Kf(w0 w:I)(rb:R)(num cut isz sum:Y)(ks:mU)(o:aa)(n:R):Prop where
 own:w.ownsRow (G<|H w0) 347 5 o n (eD<|ks.take n)
 rd:Rd w rb ((ks.drop n).flatMap vr) bF
 box:w.heap[G<|H w0]?=M (aw #[aL num,dz cut,dz isz,dz sum] 266 (0,0))
 ay:J az w0 w
 TP:G (H w0)<rb
 wJ:∀k,bY o=M k->rb<k
def DH(dc m K:R)(num:Y)(hT:Steps a)(hP:Kg A)(hb:Bytes a (bE dc m (z<|fp A) K) (fp A)):cA bG 213 #[bE dc m (z<|fp A) K,eB #[aL num,dz (td A:R),dz (z (fp A):R),dz<|mQ<|fp A]] a λE w'=>
 ∃b,E=aP (dE #[b,aO bX])/\w'.ownsRow (G<|H a) 347 5 b (z A) (eD A)/\J az a w':=by
 have t:∀k∈A,k.Fits:=λk j=>(hP.can k j).fits
 have dn:z (fp A)<=52004:=by
  have h1:=lB t;have h2:=hP.len;unfold fp;rw[af,cq];omega
 have br:0<z (fp A):=by unfold fp;rw[af,cq];omega
 have eb:td A<=51200:=by have:=KF hP.can;have:=hP.len;omega
 obtain⟨i0,bq,ck,cl,cn⟩:=cL OK
 obtain⟨bd,hL⟩:∃bd,z (fp A)=bd:=⟨_,rfl⟩
 obtain⟨bf,hS⟩:∃bf,td A=bf:=⟨_,rfl⟩
 obtain⟨co,hN⟩:∃co,z A=co:=⟨_,rfl⟩
 rw[hL]at dn br
 rw[hS]at eb
 rw[hL,hS]
 have e1:IntKind.i64.wrap (bd:Y)=bd:=by rw[bQ];omega
 have e2:IntKind.i64.wrap (bf:Y)=bf:=by rw[bQ];omega
 have cd:∀db,db.heap=(cF a<|aw #[aL num,dz bf,dz bd,dz<|mQ<|fp A] 266).heap->cA bG 188 #[bE dc m bd K] db λE w'=>E=aP (dz<|mQ<|fp A)/\w'=db:=by
  intro db b;refine sF _ (fp A) db ((hT.alloc _).of_heap b) ?_ (by omega);rw[<-hL];exact(hb.alloc _).of_heap b
 have ek:dc<G (H a):=hb.lt (by intro E;rw[E]at hL;simp at hL;omega) dc rfl
 obtain⟨HB,HT,HP,HF,HL,HS,P⟩:=wI hb hT hP t hL hS hN
 clear hb hT hP t hL hS hN
 generalize mQ (fp A)=ej at*
 go_in
 go_wp2_with fail
 go_quiet(first|(go_at_call 188;refine Calls.quiet_of_same (cd _ rfl)))
 have L:∃f,(cF a<|aw #[aL num,dz bf,dz bd,dz ej] 266).drewN nq=f/\J az a f/\f.heap[G<|H a]?=M (aw #[aL num,dz bf,dz bd,dz ej] 266 (0,0))/\Bytes f (bE dc m bd K) (fp A)/\G (H a)<G (H f):=by
  refine⟨_,rfl,(cI az a).of_heap rfl,aE _ rfl,?_,by simp⟩;have:=HB.alloc<|aw #[aL num,dz bf,dz bd,dz ej] 266;rw[ae HL]at this;exact this.of_heap rfl
 obtain⟨f,L,ch,bu,bm,cm⟩:=L
 rw[L]
 have dx:=nu bm (by intro k j;cases j;show dc<G (H f);omega)
 have cT:=Z ch
 have bi:=Z bu
 clear L ch bu bm
 go_wp2_with fail
 apply dx.mono
 rintro E w2⟨rfl,V,bc⟩
 subst bc
 have dd:=HP.ne
 have dk:=HP.len
 rw[ae P]at dd dk
 have S:fp A=le 4 (co:R)++A.flatMap vr:=by unfold fp;rw[ae P]
 have eg:=sq (G<|H f) (co:R) (A.flatMap vr) _ (S▸V) (Jw HF) (by have:=lB HF;rw[ae P]at this;omega) (by omega)<|by omega
 clear V S
 go_wp2_with fail
 apply eg.mono
 rintro E w3⟨rfl,W,ax⟩
 have cM:=Z W
 have cu:=Z ax
 have ei:=ax.size
 simp at ei
 clear W ax
 go_wp2_with(first
  |(at_make;go_loud(refine lN _ rfl _ _ 289 rfl (G (H a)) 347 i0 (.agg #[.int .i64 0,.int .i64 0,.int .i64 0,.string ⟨#[]⟩,.string ⟨#[]⟩]) 5 underlying289 bq ck cl _ _ _ co rfl rfl (by omega) (by rw[cn];omega) (by unfold maxLen;omega) (by omega) ?_;intro w4 T Q;have cB:=Z T;have ac:=Z Q;clear T Q)))
 have eu:=ac.size
 have hA0:Kf a w4 (G<|H f) num bf bd ej A (bE (G<|H w3) 0 0 co) 0:=by
  have c:J (λk=>k=G (H f)) f w3:=(cI (λk=>k=G (H f)) f).trans (fy cu)<|λ_ h=>.inl h;have b:J (λk=>k=G (H f)) f w4:=c.cw (J.dR (S:=az) ac<|by simp);refine⟨cB,cM.laid ac,(b.block _ (am bi) (by intro E;omega)).trans bi,cT.trans b (λk j=>.inr<|by omega),cm,?_⟩;intro k j;simp[bY]at j;omega
 have cp:=Z hA0
 clear hA0
 go_loopw [8,9,10,11,39] (λo p q l i wr=>∃n:R,n<=co/\i=dz n/\p=aq (td (A.take n):R)/\q=aq (sf (A.take n):R)/\l=aj (jc<|A.take n)/\Kf a wr (G<|H f) num bf bd ej A o n) (λ_ _ _ _ i _=>co-(intOf i).toNat)
 case atStart=>exact⟨0,bB _,rfl,rfl,rfl,rfl,cp⟩
 case round=>
  obtain⟨n,es,rfl,rfl,rfl,rfl,e⟩:=hrel;have s:=e.own;obtain⟨ox,oc,ho⟩:=aB s;have eo:=e.rd.lt;have ev:=e.ay.size;have av:=BU A n;have dm:=HP.MF;by_cases bt:n<co
  .have p:n<z A:=by rw[ae P];exact bt
   have g:=HP.can A[n]<|ar p;have B:=HP.pos n p;have x:=HP.ZC n p;have l:=e.rd;rw[bH p,dN]at l;have y:kG ((A.drop<|n+1).flatMap vr):=Jw<|λk j=>HF k<|dw j;have dv:z ((A.drop<|n+1).flatMap vr)<=52000:=by
    have h1:=lB (ks:=A.drop<|n+1)<|λk j=>HF k<|dw j;have h2:z (A.drop<|n+1)<=100:=by simp;rw[ae P];omega
    omega
   have C:A.take (n+1)=A.take n++[A[n]]:=ak p;have X:td (A.take n)<=51200:=by
    have h1:=KF (ks:=A.take n)<|λk j=>HP.can k<|eI j;have h2:z (A.take n)<=100:=by simp;omega
    omega
   rw[<-B]at X|-;have bl:=Z B;have F:=Z C;generalize A[n]=k at*;generalize hR:(A.drop<|n+1).flatMap vr=ao at*;have HR:=Z hR;clear hR;have u:=λdb=>Va k db g;have ds:=g.fits;obtain⟨pos,d,b,first,c⟩:=k;have f1:=g.size;have f2:=g.c2;have f3:=g.f8;have f4:=g.l8;simp only at f1 f2 f3 f4 X x;unfold vr at l;simp only[aW]at l;unfold rq.value at u;simp only at u;have a8:(Op.bytesLess first.toList (jc<|A.take n).toList||first.toList==(jc<|A.take n).toList)=bF:=by rw[Jl,x];rfl
   have ba:kG (eC c++ao):=(AG _<|by omega).append y;have bb:kG (eC first++(eC c++ao)):=(AG _<|by omega).append ba;have bs:kG (le 4 b++(eC first++(eC c++ao))):=(kG.le 4 _).append bb;have el:z (eC c)<=9:=by unfold eC;rw[aC,ic];omega
   have em:z (eC first)<=9:=by unfold eC;rw[aC,ic];omega
   have e3:IntKind.i64.wrap (d:Y)=d:=by rw[bQ];omega
   have e4:IntKind.i64.wrap (b:Y)=b:=by rw[bQ];omega
   have ed:=sq (G<|H f) (d:R) _ wr l bs (by simp only[af,cq];omega) (by omega) (by omega);obtain⟨cv,cx,bh,HA,bk⟩:=jX ba bb y e (show∀(x:Bool)(a:I),(Op.unary .not<|aO x).run bG a=.ok (aO<|!x) a fromλ_ _=>rfl);clear e s l ba bb bs y g x ds B C;subst ho;generalize jc (A.take n)=ll at*;obtain⟨cc,v⟩:∃cc,sf (A.take n)=cc:=⟨_,rfl⟩;rw[v]at av|-;have cs:=Z v;clear v;go_wp2_with fail
   apply ed.mono;rintro E w5⟨rfl,bx,bn⟩;have bc:=sq (G<|H f) (b:R) _ w5 bx cx (by simp only[af];omega) (by omega) (by omega);have ad:=Z bn;clear bx bn;go_wp2_with fail
   apply bc.mono;rintro E w6⟨rfl,bT,bo⟩;have ee:=PC (G<|H f) first w6 bT cv (by simp only[af];omega) (by omega)
   have al:=Z bo;clear bT bo;go_wp2_with fail
   apply ee.mono;rintro E w7⟨rfl,ca,bp⟩;have ef:=PC (G<|H f) c w7 ca bh (by omega) (by omega);have an:=Z bp;clear ca bp;go_wp2_with fail
   apply ef.mono;rintro E w⟨rfl,cb,O⟩;have HX:=Z (show∀o2 o,o.ownsRow (G<|H a) 347 5 o2 (n+1) (eD (A.take n)++[aq pos,aq d,aq b,aj first,aj c])->eY (cF (cF (cF w<|aw #[aq pos,aq d,aq b,aj first,aj c] 347)<|aw #[aq pos,aq d,aq b,aj first,aj c] 347)<|aw #[aq pos,aq d,aq b,aj first,aj c] 347) o (ah ox n oc) o2->Ce o (G<|H w) ⟨pos,d,b,first,c⟩/\Kf a o (G<|H f) num bf bd ej A o2 (n+1)from by
    intro o2 o r i;have e:=ae HA;have D:J (λk=>k=G (H f)) wr w:=(((fy ad).trans (fy al)<|λ_ h=>.inl h).trans (fy an)<|λ_ h=>.inl h).trans (fy O)<|λ_ h=>.inl h;have ce:=D.size;have bv:=e.own.lt;have cj:J (λk=>bY (ah ox n oc)=M k) w o:=((((J.refl (λk=>bY (ah ox n oc)=M k) w).alloc _).alloc _).alloc _).trans (J.fH i)<|λ_ h=>.inl h;have N:Ce (cF w<|aw #[aq pos,aq d,aq b,aj first,aj c] 347) (G<|H w) ⟨pos,d,b,first,c⟩:=aE _ rfl;have ec:J (λk=>bY (ah ox n oc)=M k) (cF w<|aw #[aq pos,aq d,aq b,aj first,aj c] 347) o:=(((J.refl (λk=>bY (ah ox n oc)=M k) _).alloc _).alloc _).trans (J.fH i)<|λ_ h=>.inl h;have au:=e.wJ;refine⟨N.ay ec (λE=>by have:=(bv _ E).2;omega),?_,?_,?_,?_,e.TP,?_⟩
    .rw[ae F,SZ];exact r
    .have dT:=((cb.laid<|dA w (aw #[aq pos,aq d,aq b,aj first,aj c] 347) none).laid<|dA _ (aw #[aq pos,aq d,aq b,aj first,aj c] 347) none).laid<|dA _ (aw #[aq pos,aq d,aq b,aj first,aj c] 347) none;have ea:=dT.wrote i au;rw[ae HR];exact ea
    .exact(cj.block _ (by omega) (λE=>by have:=au _ E;have:=e.TP;omega)).trans<|(D.block _ (am e.box) (λE=>by have:=e.TP;omega)).trans e.box
    .exact(e.ay.trans D<|λk j=>.inr (by have:=e.TP;omega)).trans cj<|λk j=>.inr (bv k j).1
    .intro k j;rcases i.uq with eq|⟨fb,eq,hy⟩
     .exact au k<|eq.symm.trans j
     .rw[eq]at j;cases j;simp at hy;omega)
   have ce:G (H f)<G (H w):=by
    have:=ad.size;have:=al.size;have:=an.size;have:=O.size;omega
   have cE:=Z (show w.ownsRow (G<|H a) 347 5 (ah ox n oc) n (eD<|A.take n)from by
    have e:=ae HA;have D:J (λk=>k=G (H f)) wr w:=(((fy ad).trans (fy al) (λ_ h=>.inl h)).trans (fy an) (λ_ h=>.inl h)).trans (fy O) (λ_ h=>.inl h);exact D.own e.own (λk j E=>by have:=e.wJ k j;omega))
   have en:=ae bk;clear cb O;go_wp2_with fail
   apply(u _).mono;rintro E w9⟨rfl,et⟩;subst w9;go_wp2_with(first
    |(at_builtin;go_loud(refine bV _ rfl (.tmp 62) (.tmp 64) 289 rfl (G (H a)) 347 i0 (.agg #[.int .i64 0,.int .i64 0,.int .i64 0,.string ⟨#[]⟩,.string ⟨#[]⟩]) 5 56 underlying289 bq ck cl cn rfl (by decide) (.slice ox n oc) n (eD (A.take n)) rfl (aU (aU (aU cE _) _) _) (U (G (H w)+2) 0) 1 1 [.int .i64 pos,.int .i64 d,.int .i64 b,.string first,.string c] rfl rfl (SW _ _ _ _ _ _ (by simp)) (by simp[Value.oneCell']) (by omega) (by omega) (by simp;omega) ?_;intro o2 o r i;obtain⟨N,hA10⟩:=HX o2 o r i;obtain⟨m0,m1,m2,m3,m4⟩:=N.cells;simp only at m0 m1 m2 m3 m4;obtain⟨ey,ex,rfl⟩:=aB r;have bg:=Z hA10;clear r i hA10 N)))
   go_quiet(fail)
   go_wp2;go_roundw;case rel=>
    refine⟨n+1,bt,by go_num,?_,?_,?_,?_⟩
    .rw[ae F,NC,<-ae bl];go_num
    .rw[ae F,BV,ae cs];go_num
    .rw[ae F,ET]
    .have e:=ae bg;exact⟨e.own,e.rd,e.box,e.ay.of_heap rfl,e.TP,e.wJ⟩
   case measure=>simp[intOf];omega
  .have i:n=co:=by omega
   subst i;have b:A.take n=A:=by rw[<-ae P,bP]
   have l:=e.rd;have d:A.drop n=[]:=by rw[<-ae P,gx]
   rw[d]at l;have c:=xZ l (by simp);simp only[uU,qV,nL,uv]at c;have r:=cellAt e.box 1 rfl;rw[b]at av|-;rw[ae HS];rw[ho,b]at s;have p:=Z s;have g:=Z e.ay;clear e s l d b;obtain⟨cc,v⟩:∃cc,sf A=cc:=⟨_,rfl⟩;rw[v]at dm av|-;clear v;have o:((cc:Y)<=100)=True:=by simp;omega
   subst ho;go_wp2_with fail
   apply c.mono;rintro E w5⟨rfl,u⟩;subst w5;go_wp2;go_ret2
   exact⟨_,rfl,by rw[ae P];exact p,g⟩
def zv:∀(a:dX)(p:R),td (bO p a)=z (dL a)
 |[],_=>by simp[td,bO,dL]
 |c::a,p=>by
  have h:=zv a<|p+(z (fM c)+4);unfold td at*;rw[bO,aZ,iT,h,pt,af,gC];rfl
def BW:∀(a:dX)(p:R),sf (bO p a)=z a.flatten
 |[],_=>by simp[sf,bO]
 |c::a,p=>by
  have h:=BW a<|p+(z (fM c)+4);unfold sf at*;rw[bO,aZ,iT,h,aX,af];rfl
def MI(n:R):∀(a:dX)(p:R),(bO p a).take n=bO p (a.take n):=by
 induction n with
 |zero=>intro a p;simp[bO]
 |succ n b=>
  intro a p;cases a with
  |nil=>simp[bO]
  |cons c a=>rw[bO,sg,b,sg,bO]
def qH.idx(l:qH K k)(j:K≠[])(i:∀x∈K,x.Good)(w:dS K)(v:z K<=100):Kg (bO 0 k):=by
 have a:=l.yu j i w;have r:=l.length;have d:∀a∈k,∀x∈a,x∈K:=λa c x b=>by rw[<-l.flat];exact bC.2 ⟨a,c,b⟩
 refine⟨?_,?_,?_,?_,?_,?_⟩;rw[a.len];exact a.ne;rw[a.len];omega;intro y u;obtain⟨m,q,rfl⟩:=dY u;(have c:m<z k:=by rw[<-a.len];exact q);have o:=a.Ew m q c;have b:=ar c;have t:=l.fit _ b;have h:=i _<|d _ b _<|ar o.ne;have p:=i _ (d _ b _<|ar<|show z k[m]-1<z k[m]by omega);have g:dS k[m]:=a.mr.sub<|cW b;(have s:z k[m]<=z K:=by rw[<-l.flat];exact(cW b).length_le);refine⟨by rw[o.size];exact t.2,by rw[o.count];exact o.ne,by rw[o.count];omega,by rw[o.first];exact h.UO,by rw[o.first];exact h.Me,by rw[o.last];exact p.UO,by rw[o.last];exact p.Me,?_⟩;rw[o.first,o.last];exact g.Dm o.ne<|ar _;rw[BW,l.flat];exact v;intro n f;(have c:n<z k:=by rw[<-a.len];exact f);rw[MI,zv,a.pos n f]
 .intro n f;have c:n<z k:=by rw[<-a.len];exact f
  have o:=a.Ew n f c;have h:=i _<|d _ (ar c) _<|ar o.ne;cases n with
  |zero=>
   rw[xg];show im ⟨#[]⟩ _=bX;rw[o.first];cases e:im ⟨#[]⟩ (k[0][0]'o.ne).key with
   |true=>rfl
   |false=>
    have b:=oq e<|Jp _;have:=h.UO;rw[<-b]at this;exact absurd this<|by decide
  |succ n=>
   have g:n<z (bO 0 k):=by omega
   have b:n<z k:=by omega
   rw[ak g,ET];have m:=a.Ew n g b;rw[m.last,o.first];exact(cG.1 a.Dh n (n+1) b c<|by omega) _ (ar _) _<|ar _
def mS(a:dX):eP:=dL a++fp (bO 0 a)
def XQ(h:a.ownsRow b c g d l x):∀k,bY d=M k->k<G (H a):=λk e=>(aI h k e).2
def Gn{β:Type}(K:S->β->Prop){b:S}{c:β}{a:Prop}(h:K b c->a)(k:K b c):a:=h k
def Wi{l m n o p k q a' b' c' d' e' g':aa}{t:TypeId}{c:R×R}(r:a.heap[b]?=M (aw #[l,m,n,o,p,k,q] t c)):(ct (ct (ct (ct (ct (ct a (U b 0) a') (U b 1) b') (U b 2) c') (U b 3) d') (U b 4) e') (U b 6) g').heap[b]?=M (aw #[a',b',c',d',e',k,g'] t c):=by
 have d:=aT (i:=0) (u:=a') r;have e:=aT (i:=1) (u:=b') d;have f:=aT (i:=2) (u:=c') e;have g:=aT (i:=3) (u:=d') f;have h:=aT (i:=4) (u:=e') g;have j:=aT (i:=6) (u:=g') h;rw[j];simp
def IB{e n D L:R}{Q F S m0:Y}(o:mh a b (fA none) Q F S m0 y P e d (bO 0 k))(p:J (λh=>h=l) a f)(i:rW f B c j N)(hv:vw N.files=vw j.files++[(gP g,mS k)])(hn:z N.eU=z j.eU+1)(v:B.heap[b]?=M (aw #[fA none,aL Q,dz F,dz S,dz m0,bE y P (z<|bO 0 k) e,bE l 0 D n] 293 (0,0)))(E:¬j.bw c b)(w:¬j.bw c y)(x:y≠b)(A:y≠l)(hD:z (dL k)=D)(hL:z (fp<|bO 0 k)=L)(O:b<G (H a)):∃u,cU (ct (ct (ct (ct (ct (ct B (U b 0)<|aA c) (U b 1)<|aL g) (U b 2)<|dz D) (U b 3)<|dz L) (U b 4)<|dz<|mQ<|fp<|bO 0 k) (U b 6) aG).drew c u/\J (λh=>j.bw c h\/h=b\/h=l) a (ct (ct (ct (ct (ct (ct B (U b 0)<|aA c) (U b 1)<|aL g) (U b 2)<|dz D) (U b 3)<|dz L) (U b 4)<|dz<|mQ<|fp<|bO 0 k) (U b 6) aG).drew/\(∀h,u.bw c h->j.bw c h\/G (H a)<=h)/\vw u.files=vw j.files++[(gP g,mS k)]/\z u.eU=z j.eU+1/\mh (ct (ct (ct (ct (ct (ct B (U b 0)<|aA c) (U b 1)<|aL g) (U b 2)<|dz D) (U b 3)<|dz L) (U b 4)<|dz<|mQ<|fp<|bO 0 k) (U b 6) aG).drew b (aA c) g (z<|dL k) (z<|fp<|bO 0 k) (mQ<|fp<|bO 0 k) y P e aG (bO 0 k):=by
 have t:=p.size;have q:=Wi (a':=aA c) (b':=aL g) (c':=dz D) (d':=dz L) (e':=dz<|mQ<|fp<|bO 0 k) (g':=aG) v;have C:J (λh=>h=b) B (ct (ct (ct (ct (ct (ct B (U b 0)<|aA c) (U b 1)<|aL g) (U b 2)<|dz D) (U b 3)<|dz L) (U b 4)<|dz<|mQ<|fp<|bO 0 k) (U b 6) aG):=((((((ij b B).setCell b 1 _<|.inl rfl).setCell b 2 _<|.inl rfl).setCell b 3 _<|.inl rfl).setCell b 4 _<|.inl rfl).setCell b 6 _<|.inl rfl);generalize(ct (ct (ct (ct (ct (ct B (U b 0)<|aA c) (U b 1)<|aL g) (U b 2)<|dz D) (U b 3)<|dz L) (U b 4)<|dz<|mQ<|fp<|bO 0 k) (U b 6) aG)=wf at*;have m:J (λh=>h=b) B wf.drew:=C.of_heap rfl;have r:∀h,N.bw c h->j.bw c h\/G (H a)<=h:=λh s=>(i.bw h s).elim .inl (λV=>.inr<|by omega);refine⟨N,i.ok.ay m<|λh s K=>?_,?_,r,hv,hn,?_,?_,o.ne,o.le,o.small⟩;rcases r h s with V|V;exact E<|K▸V;omega;exact((p.mono (T:=λh=>j.bw c h\/h=b\/h=l)<|λh K=>.inl<|.inr<|.inr K).trans i.ay<|λh s=>.inl<|.inl s).trans m<|λh K=>.inl<|.inr<|.inl K;rw[hD,hL];exact q;intro ac ad hj;have W:=p.cell (o.cells ac ad hj) A o.lt.2;have X:=i.ay.cell W w<|ag o.lt.2 t;exact m.cell X x<|ag o.lt.2<|aF t i.ay.size
def IC(bq:R)(hu:bq<18446744073709551616){n0 c0 s0 m0:Y}(C d:R)(k:dX)(h:mh a b (fA none) n0 c0 s0 m0 g l y (bE C 0 (z<|dL k) d) (bO 0 k))(hd:eQ a P (bE C 0 (z<|dL k) d) (dL k))(hb:P<=G (H a))(hP:Kg (bO 0 k))(cn:kG (dL k))(hT:Steps a)(ad:Pow a)(fn:z (dL k)<=100000)(A:cU a c j)(hg:ew (vw j.files) (gP bq)=none)(hn:z j.eU<=1000000000000)(bk:iy (vw j.files)+200000<=1099511627776)(cB:¬j.bw c C)(bm:¬j.bw c b)(el:¬j.bw c g)(em:g≠b)(en:g≠C):cA bG 140 #[aA b,aA c,aL bq] a λao w'=>ao=aP .nilIface/\∃K',cU w' c K'/\J (λQ=>j.bw c Q\/Q=b\/Q=C) a w'/\(∀Q,K'.bw c Q->j.bw c Q\/G (H a)<=Q)/\vw K'.files=vw j.files++[(gP bq,mS k)]/\z K'.eU=z j.eU+1/\mh w' b (aA c) bq (z<|dL k) (z<|fp<|bO 0 k) (mQ<|fp<|bO 0 k) g l y aG (bO 0 k):=by
 have p:∀Q∈bO 0 k,Q.Fits:=λQ hk=>(hP.can Q hk).fits;have fb:=hP.len;have cv:=IV (bO 0 k) g l y a h.lt.2 h.cells (by omega) p;have fr:z (fp<|bO 0 k)<=52004:=by have h1:=lB p;unfold fp;rw[af,cq];omega
 have cm:0<z (fp<|bO 0 k):=by unfold fp;rw[af,cq];omega
 have ac:kG (fp<|bO 0 k):=(kG.le 4 _).append<|Jw p;have f:=h.box;have t0:=cellAt f 0 rfl;have t5:=cellAt f 5 rfl;have t6:=cellAt f 6 rfl;obtain⟨i0,eo,eu,ev,ex⟩:=cL qC;obtain⟨D,V⟩:∃D,z (dL k)=D:=⟨_,rfl⟩;obtain⟨ax,hL⟩:∃ax,z (fp<|bO 0 k)=ax:=⟨_,rfl⟩;have e1:=sY (n:=(D:R)) (by omega) (by omega);have e2:=sY (n:=(ax:R)) (by omega) (by omega);have ca:=Z (show∀v1 o,eQ o (G<|H a) v1 (fp<|bO 0 k)->J az a o->∃E xc,v1=bE E 0 ax xc/\G (H a)<=E/\E<G (H o)/\aS o (U b 6)=M (bE C 0 D d)/\b<G (H o)/\(∀et,J az o et->cA bG 188 #[bE E 0 ax xc] et λao w'=>ao=aP (dz<|mQ<|fp<|bO 0 k)/\w'=et)from by intro v1 o ho ht;obtain⟨E,xc,rfl,a1,a2,_⟩:=uC ho cm;rw[<-hL,<-V];refine⟨E,xc,rfl,a1,a2,ht.cell t6 id<|am f,ag (am f) ht.size,λet hW=>?_⟩;have eq:=ht.cw hW;exact sF _ (fp<|bO 0 k) et (hT.below (eq.below (ai _) cN) hT.lt) (eQ.bytes<|hW.own ho<|λ_ _ cb=>cb)<|by omega);have dk:=Z h;clear h;rw[V]at t6;go_in
 go_wp2_with fail
 apply cv.mono;rintro ao o⟨v1,rfl,bh,bl⟩;obtain⟨E,xc,rfl,y0,y1,y2,y3,B⟩:=ca v1 o bh bl;have bv:=Z bh;have av:=Z bl;have m:=am f;have an:¬b=C:=λao=>by obtain⟨_,hc⟩:=fK hd (k:=C) rfl;exact iA f hc (by decide) ao
 clear bh bl t0 t5 cv;go_wp2_with fail
 rename_i QQ KK u;apply Gn KK
 .intro bp;go_region_held3(λt=>aS t (U b 6)=M (bE C 0 D d)) (first|assumption|go_keep) (first
   |(go_at_call 188;refine(B o.drew<|cg _ _).mono ?_;rintro ao w2⟨rfl,et⟩;subst w2;have eq:aS o.drew (U b 6)=M (bE C 0 D d):=y2)
   |(go_at_call 188;refine(B (cF o (.cells #[.int .u64 0,.int .u32 0,.int .u32 0,.int .u32 0] 266)).drew ((cI _ o).of_heap rfl)).mono ?_;rintro ao w2⟨rfl,et⟩;subst w2;have eq:aS (cF o (.cells #[.int .u64 0,.int .u32 0,.int .u32 0,.int .u32 0] 266)).drew (U b 6)=M (bE C 0 D d):=(by rw[bD,fE y3];exact y2)))
  all_goals exact bp
 apply u;clear u B;have K:∃F,(cF o<|aw #[aL bq,dz D,dz ax,dz<|mQ<|fp<|bO 0 k] 266).drew=F/\J az a F/\F.heap[G<|H o]?=M (aw #[aL bq,dz D,dz ax,dz<|mQ<|fp<|bO 0 k] 266 (0,0))/\eQ F (G<|H a) (bE E 0 ax xc) (fp<|bO 0 k):=⟨_,rfl,(av.alloc _).of_heap rfl,aE _ rfl,bv.alloc _⟩;obtain⟨F,K,q,bd,cs⟩:=K;rw[K];have fs:G (H a)<=G (H o):=av.size;generalize G (H o)=r at*;clear K bv av ca y2 y3;have fe:=q.size;have ek:=hT.below (q.below (ai _) cN) hT.lt;have hS:aS F.drew (U b 6)=M (bE C 0 D d):=by rw[bD];exact q.cell t6 id m
 go_wp2_with fail
 rename_i QQ KK u;refine cz (λt=>aS t (U b 6)=M (bE C 0 D d)) 10 (by kernel_rfl) ?_;refine cY 0 ?_;iterate 2 (refine eJ (v:=?_) hS rfl (by kernel_rfl) iV rfl ?_ ?_;rotate_left;(focus(intro t hX;go_simp;try rfl));simp only[Act.put,dG,Nat.reduceAdd])
 apply eA;refine cY 3 ?_;iterate 5 (refine eJ (v:=?_) hS rfl (by kernel_rfl) iV rfl ?_ ?_;rotate_left;(focus(intro t hX;go_simp;try rfl));simp only[Act.put,dG,Nat.reduceAdd])
 apply eA;refine aM (i:=2) rfl rfl (by kernel_rfl) ?_;intro K2 cc;go_simp;have hx:=XQ hd C rfl;have al:Pow F.drew:=ad.ay (q.of_heap rfl) id;apply(Bl bq hu al).mono;rintro ao W3⟨rfl,w⟩;have L:J az a W3:=(q.of_heap (c:=F.drew) rfl).cw<|J.aV (S:=az) w;have es:=w.size;have fv:G (H F)<=G (H W3):=es;have cj:aS W3 (U b 6)=M (bE C 0 D d):=L.cell t6 id m;have bf:W3.heap[r]?=M (aw #[aL bq,dz D,dz ax,dz<|mQ<|fp<|bO 0 k] 266 (0,0)):=(w.block r<|am bd).trans bd;have cu:eQ W3 (G<|H a) (bE E 0 ax xc) (fp<|bO 0 k):=(J.aV (S:=az) w).own cs<|λ_ _ cb=>cb;have cl:eQ W3 P (bE C 0 D d) (dL k):=by rw[<-V];exact L.own hd<|λ_ _ cb=>cb
 refine cc _ _ (λ_=>cj) ?_;refine aM (i:=8) rfl rfl (by kernel_rfl) ?_;intro K8 cd;simp only[cy,bU,cf];refine kL (.tmp 34) (.tmp 35) 126 rfl P 5 i0 (tP 0) 1 1 underlying126 eo eu ev ex rfl (by decide) (bE C 0 D d) D ((dL k).map<|Value.int .u8) rfl (by have h0:=cl;unfold eQ at h0;rw[V]at h0;exact h0) (U E 0) ax xc ((fp<|bO 0 k).map<|Value.int .u8) rfl (by rw[cV,hL,rE]) (tJ cu.bytes) (by intro bq hu;simp only[bz]at hu;obtain⟨ey,_,rfl⟩:=hu;rfl) (by omega) (by omega) (by omega) ?_;intro v4 w4 bi bn;have bc:eQ w4 P v4 (mS k):=eQ.of bi (by unfold mS;rw[af,V,hL]) (by unfold mS;rw[aQ]);have O:=J.fH bn;obtain⟨yb,yc,rfl,g1,g2,g3⟩:=uC bi (by omega);have N:J (λQ=>Q=C) a w4:=(L.mono (T:=λQ=>Q=C) cN).trans O (λQ hk=>by simp[bY]at hk;exact .inl hk.symm);have bb:aS w4 (U b 6)=M (bE C 0 D d):=N.cell t6 (λao=>an ao) m;have co:w4.heap[r]?=M (aw #[aL bq,dz D,dz ax,dz<|mQ<|fp<|bO 0 k] 266 (0,0)):=(O.block r (am bf) (λao=>by simp[bY]at ao;omega)).trans bf;have X:cU w4 c j:=A.ay N<|λQ hk ao=>cB<|ao▸hk;have ba:D+ax=z (mS k):=by unfold mS;rw[af,V,hL]
 have cE:¬j.bw c yb:=by intro cb;rcases bn.uq with eq|⟨ey,eq,hy⟩;simp[bY]at eq;subst eq;exact cB cb;simp[bY]at eq;subst eq;have:=A.lt _ cb;omega
 have bo:=Gy (db:=c) (K:=j) (gP bq) yb 0 yc (bs:=(mS k)) (w:=w4) X hg hn (by omega) (cn.append ac) (Bytes.cells (by rw[<-ba];exact bc.bytes)) g2 cE;rw[<-ba]at bo;obtain⟨dd,dn,au,s⟩:=gD bc O co N;clear ba cE bi bn bc O co N g1 g2 g3 cl cu bf cj w;refine cd _ _ (λ_=>bb) ?_;simp only[Act.put,dG];refine aM (i:=9) rfl rfl (by kernel_rfl) ?_;intro K9 ce;go_simp;apply bo.mono;rintro ao w5⟨rfl,K5,x,cx,cp⟩;have ck:aS w5 (U b 6)=M (bE C 0 D d):=x.ay.cell bb bm<|ag m s.size;refine ce _ _ (λ_=>ck) ?_;refine aM (i:=10) rfl rfl (by kernel_rfl) ?_;intro fk W;go_simp;refine W _ _ wH ?_;refine cX (by kernel_rfl) ?_ _;show KK _ _;apply u;clear u cc cd ce W;have e:w5.heap[b]?=M (aw #[fA none,aL n0,dz c0,dz s0,dz m0,bE g l (z<|bO 0 k) y,bE C 0 D d] 293 (0,0)):=by rw[<-V];exact(x.ay.block b (ag m s.size) bm).trans<|(s.block b m an).trans f
 have bg:w5.heap[r]?=M (aw #[aL bq,dz D,dz ax,dz<|mQ<|fp<|bO 0 k] 266 (0,0)):=(x.ay.block r (am au) (λcb=>by have:=A.lt _ cb;omega)).trans au;have hQ:(aS w5.drew (U r 0)=M (aL bq)/\aS w5.drew (U r 1)=M (dz D)/\aS w5.drew (U r 2)=M (dz ax)/\aS w5.drew (U r 3)=M (dz<|mQ<|fp<|bO 0 k)):=by simp only[bD];refine⟨?_,?_,?_,?_⟩<;>(rw[bL bg];rfl)
 obtain⟨bx,dm,br,bT,bu,ff⟩:=kD e bg x cx cp A;clear bg x cx cp A f hd hS bb ck t6 hg hn bk hT ad al ek q L bd cs bo X cn ac hP;obtain⟨cM,cT,db,dc⟩:=hQ;simp only[bD]at cM cT db dc;have dv:=cellAt e 0 rfl;have dx:=cellAt e 1 rfl;have dT:=cellAt e 2 rfl;have ea:=cellAt e 3 rfl;have eb:=cellAt e 4 rfl;have ec:=cellAt e 6 rfl;have ed:=dW (i:=0) e;have ee:=dW (i:=1) e;have ef:=dW (i:=2) e;have eg:=dW (i:=3) e;have ei:=dW (i:=4) e;have ej:=dW (i:=6) e;have fu:r≠b:=by omega
 have fd:b≠r:=by omega
 clear e;go_wp2_with fail
 rename_i fl ds ch;apply Gn ds;(.intro bp;(go_region);all_goals exact bp);refine ch _ _ ?_;have bt:=Z<|IB dk s br bT bu bx bm el em en V hL m;clear dv dx dT ea eb ec ed ee ef eg ei ej cM cT db dc bx dm br bT bu s au dd dn;go_wp2;go_ret;exact⟨rfl,bt⟩
def Ku(E:R)(hu:E<18446744073709551616)(d:dX)(W:Kg (bO 0 d))(hT:Steps a)(B:Pow a)(br:z (dL d)<=100000)(ax:¬j.bw b 1)(D:cU a b j)(hg:ew (vw j.files) (gP E)=M (mS d)):cA bG 150 #[aA b,EK E (z<|dL d) (z<|fp<|bO 0 d)<|mQ<|fp<|bO 0 d] a λbf m=>
 ∃e i c,bf=aP (dE #[aA e,.nilIface])/\mh m e (aA b) E (z<|dL d) (z<|fp<|bO 0 d) (mQ<|fp<|bO 0 d) i 0 c aG (bO 0 d)/\G (H a)<=e/\G (H a)<=i/\∃f,rW a m b j f/\f.files=j.files/\f.eU=j.eU/\∀N,f.bw b N->j.bw b N:=by
 have o:∀N∈bO 0 d,N.Fits:=λN hk=>(W.can N hk).fits
 have al:=W.len
 have bu:=W.ne
 have bt:z (fp<|bO 0 d)<=52004:=by
  have h1:=lB o;unfold fp;rw[af,cq];omega
 have y:0<z (fp<|bO 0 d):=by unfold fp;rw[af,cq];omega
 have av:=zv d 0
 have bs:z (mS d)=z (dL d)+z (fp<|bO 0 d):=by unfold mS;rw[af]
 have hcut:((mS d).drop<|z<|dL d).take (z<|fp<|bO 0 d)=fp (bO 0 d):=by unfold mS;simp
 obtain⟨cc,hF,u⟩:=jz hg
 obtain⟨O,hD⟩:∃O,z (dL d)=O:=⟨_,rfl⟩
 obtain⟨L,F⟩:∃L,z (fp<|bO 0 d)=L:=⟨_,rfl⟩
 obtain⟨bd,hc⟩:∃bd,mQ (fp<|bO 0 d)=bd:=⟨_,rfl⟩
 have e1:IntKind.i64.wrap (O:Y)=O:=by rw[bQ];omega
 have e2:IntKind.i64.wrap (L:Y)=L:=by rw[bQ];omega
 have bn:=Z (show∀g,J az a g->cA bG 154 #[aA b,aj<|gP E,aq O,aq L] g λbf m=>∃s t,bf=aP (dE #[bE s 0 L t,.nilIface])/\eQ m (G<|H g) (bE s 0 L t) (fp<|bO 0 d)/\J (j.bw b) g m/\∃f,rW a m b j f/\f.files=j.files/\f.eU=j.eU/\∀N,f.bw b N->j.bw b N from by
  intro g r;have ac:=D.ay r (λ_ _=>id);refine(Bu (gP E) cc O L ac hF (by rw[u];omega) (by rw[u];omega) (by omega)).mono ?_;rintro bf m⟨v',rfl,K,f,n,h1,h2,h3⟩;rw[u,<-hD,<-F,hcut]at K;obtain⟨s,t,rfl,a1,a2,_⟩:=uC K y;rw[F]at K|-;exact⟨s,t,rfl,K,n.ay,f,⟨n.ok,(r.mono (T:=j.bw b) cN).trans n.ay (λ_ h=>.inl h),λN hk=>.inl (h3 N hk)⟩,h1,h2,h3⟩)
 have bo:=Z (show∀w s t g(f:DK),rW a w b j f->eQ w g (bE s 0 L t) (fp<|bO 0 d)->cA bG 213 #[bE s 0 L t,eB #[aL E,dz O,dz L,dz bd]] w λbf m=>
  ∃i c,bf=aP (dE #[bE i 0 (z<|bO 0 d) c,aO bX])/\G (H w)<=i/\mh (cF m<|aw #[aA b,aL E,dz O,dz L,dz bd,bE i 0 (z<|bO 0 d) c,aG] 293) (G<|H m) (aA b) E O L bd i 0 c aG (bO 0 d)/\J az w m from by
   intro w s t g f n K;have ba:Steps w:=λN hk=>n.ay.cell (hT N hk) ax hT.lt;have ac:=eQ.bytes K;rw[<-F]at ac;have v:=DH s 0 t E ba W ac;rw[av,hD,F,hc]at v;apply v.mono;rintro bf m⟨v',rfl,ao,bx⟩;obtain⟨i,c,rfl,a1,a2,a3⟩:=uC ao (by omega);refine⟨i,c,rfl,a1,⟨aE _ rfl,?_,by omega,a3,by omega⟩,bx⟩;intro ce ch hj;obtain⟨h1,⟨h2,h0⟩|⟨b',cb,bT,h2,_,bq⟩⟩:=dr<|aU ao<|aw #[aA b,aL E,dz O,dz L,dz bd,bE i 0 (z<|bO 0 d) c,aG] 293
   .omega
   .cases h2;exact bq ce ch hj)
 have ca:∀(x:Bool)(a:I),(Op.unary .not<|aO x).run bG a=.ok (aO<|!x) a:=λ_ _=>rfl
 have HPow:=Z B
 have bh:=Z D
 unfold EK
 rw[hD,F,hc]
 clear W hT B br ax D hg o bt y av bs hcut hF u hD F hc al bu
 generalize z (bO 0 d)=cd at*
 go_in
 go_wp2_with fail
 apply(Bl E hu<|HPow.ay (cI az a) id).mono
 rintro bf w2⟨rfl,C⟩
 have p:w2.heap[G<|H a]?=M (aw #[aL E,dz O,dz L,dz bd] 266 (0,0)):=(C.block _<|by simp).trans<|aE _ rfl
 have r:J az a w2:=(cI az a).cw<|J.aV (S:=az) C
 have c0:=cellAt p 0 rfl
 have c1:=cellAt p 1 rfl
 have c2:=cellAt p 2 rfl
 have bv:=bn w2 r
 have P:=Z p
 clear p r C
 go_wp2_with fail
 apply bv.mono
 rintro bf w⟨s,t,rfl,au,bb,K3,e,ad,A,x⟩
 have an:¬j.bw b (G<|H a):=λbd=>by have:=bh.lt _ bd;omega
 have k:=(bb.block _ (am P) an).trans P
 have d0:=cellAt k 0 rfl
 have d1:=cellAt k 1 rfl
 have d2:=cellAt k 2 rfl
 have d3:=cellAt k 3 rfl
 have v:=bo w s t _ K3 e au
 obtain⟨Q,bg,bi,bm,bk⟩:=jX k e ad A x
 clear k e ad A x au bb an
 go_wp2_with fail
 apply v.mono
 rintro bf w4⟨i,c,rfl,bp,X,l⟩
 have q:=(l.block _ (am Q) id).trans Q
 have g0:=cellAt q 0 rfl
 have g1:=cellAt q 1 rfl
 have g2:=cellAt q 2 rfl
 have g3:=cellAt q 3 rfl
 have bl:=Z X
 have V:=Z l
 clear X l q
 go_wp2
 go_ret2
 have e:=ae bg
 have bc:=e.ay.size
 have l:=V.alloc<|aw #[aA b,aL E,dz O,dz L,dz bd,bE i 0 cd c,aG] 293
 refine⟨G<|H w4,i,c,rfl,bl,aF bc V.size,aF bc bp,K3,?_,bi,bm,bk⟩
 exact⟨e.ok.ay l<|λ_ _=>id,e.ay.cw l,e.bw⟩
structure bJ where
 tb:R
 ks:mU
 cs:dX
 num:R
abbrev cR:=cD bJ
variable{O:bJ}
def bJ.ptr(t:bJ):aa:=aA t.tb
def bJ.all(t:bJ):cK:=t.cs.flatten
def jf(a:mU):ab:=(a.head?.map rq.first).getD ⟨#[]⟩
def EU(h:0<z A):jc A=(A[z A-1]'(by omega)).last:=by
 unfold jc;rw[List.getLast?_eq_getElem?,aK<|by omega];rfl
def BN(h:0<z A):jf A=(A[0]'h).first:=by
 unfold jf;cases A with
 |nil=>simp at h
 |cons k r=>rfl
def Nh(w:I)(t:bJ):Prop:=∃h b cut c f g d a e,mh w t.tb h b cut c f g d a e t.ks
def Nh.first(n:Nh a O):cA bG 175 #[O.ptr] a λm j=>m=aP (aj<|jf O.ks)/\j=a:=by
 obtain⟨l,c,cut,d,i,k,e,b,h,g⟩:=n;rw[BN g.ne];exact St g
def Nh.last(m:Nh a O):cA bG 176 #[O.ptr] a λl i=>l=aP (aj<|jc O.ks)/\∃q,i=a.drewN q:=by
 obtain⟨k,c,cut,d,h,j,e,b,g,f⟩:=m;rw[EU f.ne];exact UK f
def mh.dq{w w':I}{a cut e f:Y}(h:mh w c d a cut e f g l y t A)(i:w'.heap[c]?=w.heap[c]?)(j:w'.heap[g]?=w.heap[g]?):mh w' c d a cut e f g l y t A:=⟨i.trans h.box,λm u k=>(cP (w:=w) j).trans<|h.cells m u k,h.ne,h.le,h.small⟩
def Nh.of_heap{w w':I}(n:Nh w O)(m:w'.heap=w.heap):Nh w' O:=by
 obtain⟨k,d,cut,e,i,j,g,b,h,l⟩:=n;exact⟨k,d,cut,e,i,j,g,b,h,l.dq (by rw[m])<|by rw[m]⟩
def Nh.below(m:Nh a O)(j:Below (G<|H a) a f):Nh f O:=by
 obtain⟨l,c,cut,d,i,k,e,b,g,h⟩:=m;exact⟨l,c,cut,d,i,k,e,b,g,h.dq (j.block _ h.lt.1)<|j.block _ h.lt.2⟩
structure iX(w:I)(v:aa)(ts:cD bJ):Prop where
 row:Row w 1 v (z ts) (ts.map bJ.ptr)
 lt:∀k,bY v=M k->k<G (H w)
 each:∀t∈ts,Nh w t
 small:z ts<=1000000000
def iX.below{e:cD bJ}(h:iX a d e)(b:Below (G<|H a) a f):iX f d e:=by
 refine⟨(J.aV (S:=az) b).row h.row<|λk c=>⟨id,h.lt k c⟩,λk c=>ag (h.lt k c) b.size,λt g=>(h.each t g).below b,h.small⟩
def Bb(a:cD bJ):Prop:=a.Pairwise<|λb c=>im (jc b.ks) (jc c.ks)=bX
def LK{k bk:R}{c:cD bJ}(f:ab)(h:iX a d c)(o:er a k d 105)(n:er a bk (aj f) 9)(i:R)(m:i<z c):cA bG 260 #[aq i,aA k,aA bk] a λs j=>s=aP (aO<|!im (jc c[i].ks) f)/\∃q,j=a.drewN q:=by
 obtain⟨g,⟨_,A⟩|⟨w,e,r,rfl,_,l⟩⟩:=h.row;omega;have u:aS a (U w<|e+i)=M c[i].ptr:=by refine l i _ ?_;rw[dD,aK m];rfl
 have b:∀W,W.heap=a.heap->cA bG 176 #[c[i].ptr] W λs j=>s=aP (aj<|jc c[i].ks)/\∃q,j=W.drewN q:=λW e=>((h.each _<|ar m).of_heap e).last;have c1:=o.cell;have c2:=n.cell;have t:=JC;have v:=h.small;have x:(i:Y)<(z c:Y):=by omega
 have y:(0:Y)<=(i:Y):=by omega
 unfold im;unfold bJ.ptr at u b;generalize jc c[i].ks=B at*;generalize c[i].tb=p at*;clear h o n g l;go_in
 go_wp2_with fail
 go_quiet(first|(go_at_call 176;refine Calls.quiet_of (b _ rfl)))
 go_wp2;go_ret;exact⟨rfl,nq,rfl⟩
variable{i p r:cR}
def tQ.YS(h:tQ A k):0<z A:=by rw[h.len];exact h.ne
def tQ.xO(h:tQ A k):∃x∈k.flatten,x.key=jc A:=by
 have b:=h.YS;have a:z A-1<z k:=by have:=h.len;omega
 have o:=h.Ew (z A-1) (by omega) a;have n:=o.ne;exact⟨_,bC.2 ⟨_,ar a,ar<|show z k[z A-1]-1<z k[z A-1]by omega⟩,by rw[EU b,o.last]⟩
def tQ.Hv(h:tQ A k):∃x∈k.flatten,x.key=jf A:=by
 have b:=h.YS;have a:0<z k:=by have:=h.len;omega
 have o:=h.Ew 0 (by omega) a;exact⟨_,bC.2 ⟨_,ar a,ar o.ne⟩,by rw[BN b,o.first]⟩
def tQ.Dn(h:tQ A k)(f:w∈k.flatten):im (jc A) w.key=bF:=by
 have e:=h.YS;have b:z A-1<z k:=by have:=h.len;omega
 have o:=h.Ew (z A-1) (by omega) b;obtain⟨j,c,a⟩:=bC.1 f;obtain⟨i,d,rfl⟩:=dY c;rw[EU e,o.last];rcases dK i (z A-1)with g|g;exact lQ<|cG.1 h.Dh i _ d b g w a _<|ar (by have:=o.ne;omega);(have:i=z A-1:=by have:=h.len;omega);subst this;exact dS.Dm (h.mr.sub<|cW<|ar b) o.ne a
def tQ.xW(h:tQ A k)(g:w∈k.flatten):im w.key (jf A)=bF:=by
 have f:=h.YS;have b:0<z k:=by have:=h.len;omega
 have o:=h.Ew 0 (by omega) b;obtain⟨j,c,a⟩:=bC.1 g;obtain⟨i,e,rfl⟩:=dY c;rw[BN f,o.first];rcases fY i with d|d;subst d;exact dS.xW (h.mr.sub<|cW<|ar b) o.ne a;exact lQ<|cG.1 h.Dh 0 i b e d _ (ar o.ne) w a
def cr(a:cR):cK:=(a.map bJ.all).flatten
def yO(t:bJ)(a:cR):cr (t::a)=t.all++cr a:=by simp[cr]
def eV(a b:cR):cr (a++b)=cr a++cr b:=by simp[cr]
def lA:w∈cr i↔∃t∈i,w∈t.all:=by
 unfold cr;constructor;intro h;obtain⟨d,c,b⟩:=bC.1 h;obtain⟨t,a,rfl⟩:=bz.1 c;exact⟨t,a,b⟩;rintro⟨t,a,b⟩;exact bC.2 ⟨_,bz.2 ⟨t,a,rfl⟩,b⟩
structure kR(ts:cR):Prop where
 pure:∀t∈ts,tQ t.ks t.cs
 mr:dS (cr ts)
 Dh:(ts.map bJ.all).Pairwise gZ
def kR.pair(j:kR i)(e:b<z i)(f:c<z i)(d:b<c){a:E}(g:w∈i[b].all)(h:a∈i[c].all):im w.key a.key=bX:=by
 exact cG.1 j.Dh b c (by simpa using e) (by simpa using f) d w (by simpa using g) a<|by simpa using h
def kR.AD(h:kR i):Bb i:=by
 refine cG.2<|λk l b c a=>?_;obtain⟨x,f,d⟩:=(h.pure _<|ar b).xO;obtain⟨j,g,e⟩:=(h.pure _<|ar c).xO;rw[<-d,<-e];exact h.pair b c a f g
def kR.each(h:kR i)(a:O∈i):dS O.all:=h.mr.sub<|cW<|bz.2 ⟨O,a,rfl⟩
structure qG(ts:cR)(key:ab)(k:R):Prop where
 le:k<=z ts
 low:∀i(hi:i<z ts),i<k->im (jc ts[i].ks) key=bX
 vt:∀i(hi:i<z ts),k<=i->im (jc ts[i].ks) key=bF
def kR.BK(p:kR i)(c:ab)(m:qG i c b):(((i.drop b).map bJ.all).map<|fX c).flatten=fX c (cr i):=by
 have e:cr i=cr (i.take b)++cr (i.drop b):=by rw[<-eV,ci]
 have f:fX c (cr<|i.take b)=[]:=by unfold fX;rw[gU];intro x n;obtain⟨t,l,d⟩:=lA.1 n;obtain⟨o,k,rfl⟩:=dY l;rw[gB]at d;(have a:o<b/\o<z i:=by simp at k;omega);have h:=m.low o a.2 a.1;have j:=(p.pure _<|ar a.2).Dn d;rw[xP j h];simp
 have g:∀l:dX,(l.map<|fX c).flatten=fX c l.flatten:=by
  intro l;induction l with
  |nil=>rfl
  |cons d r a=>simp only[aZ,aX,a];unfold fX;rw[je]
 rw[g,e];unfold fX at*;rw[je,f,cJ];rfl
def kR.AN(l:kR i)(h:qG i v b)(x:E)(n:x∈cr i)(d:x.key=v):∃r:b<z i,x∈i[b].all:=by
 obtain⟨t,j,c⟩:=lA.1 n;obtain⟨q,e,rfl⟩:=dY j;have f:=(l.pure _ j).Dn c;rcases kH q b with g|g|g;have:=xP f<|h.low q e g;rw[d,fD]at this;cases this;subst g;exact⟨e,c⟩;(have a:b<z i:=by omega);obtain⟨p,o,k⟩:=(l.pure _<|ar a).xO;have m:=h.vt b a<|ai _;have:=l.pair a e g o c;rw[k,d,m]at this;cases this
def kR.yK(h:kR i)(b:qG i v (z i))(d:Y):iH d (cr i) v=none:=by
 refine rC<|λx c a=>?_;obtain⟨e,_⟩:=h.AN b x c a;omega
def kR.BO(h:kR p)(f:qG p v b)(d:b<z p)(e:Y):iH e (cr p) v=iH e p[b].all v:=by
 have:=AO (cs:=p.map bJ.all) (k:=v) (i:=b) (by simpa using d) (λx g c=>by obtain⟨_,a⟩:=h.AN f x g c;exact⟨by simpa using d,by simpa using a⟩) h.Dh e;unfold cr;simpa using this
def zK(b:ab)(h:iX a t i)(W:Bb i):cA bG 223 #[t,aj b] a λS w'=>∃p:R,S=aP (aq p)/\qG i b p/\Below (G<|H a) a w':=by
 have K:Below (G<|H a) a (cF (cF a<|aw #[t] 105)<|aw #[aj b] 9):=((Below.refl _ a).alloc (ai _) _).alloc (by simp) _;have V:=h.below K;have O:=h.small
 have w:=zw (f:=260) #[aA<|G<|H a,aA<|G (H a)+1] (z i) (λg=>if e:g<z i then !im (jc i[g].ks) b else bX) (cF (cF a<|aw #[t] 105)<|aw #[aj b] 9) (enters_of func260 (by kernel_rfl) rfl) (by omega) (by
  intro ad C F v y;have u:ad<z i:=by omega
  simp only[v,u,oU]at y|-;rcases lu F with D|D
  .have m:=cG.1 W ad C u v D;cases d:im (jc i[C].ks) b with
   |false=>rfl
   |true=>have:=lP m d;rw[this]at y;cases y
  .subst D;exact y)
  (by
   intro g e ac m;have E:=V.below m;have L:er ac (G (H a)) t 105:=(m.block _ (by simp;omega)).trans (er.alloc (aE _ rfl) _);have N:er ac (G (H a)+1) (aj b) 9:=(m.block _ (by simp)).trans (aE _ (by simp));apply(LK b E L N g e).mono;rintro S W'⟨rfl,q,rfl⟩;simp only[e,oU];exact⟨trivial,below_drewN (Below.refl _ _) _⟩)
 have r:=Z w;have x:=Z K;have X:=h.row.2;clear w V K h W;have P:(t=aG/\z i=0)\/∃C c j,t=bE C c (z i) j:=by rcases X with D|⟨C,c,j,D,_⟩;exact .inl D;exact .inr ⟨C,c,j,D⟩
 clear X;have l:∀(S:Ending)(Q:I)(p:R),p<=z i->(∀g,g<p->(if e:g<z i then !im (jc i[g].ks) b else bX)=bF)->(∀g,p<=g->g<z i->(if e:g<z i then !im (jc i[g].ks) b else bX)=bX)->qG i b p:=by intro S Q p k n o;refine⟨k,λg e m=>?_,λg e m=>?_⟩;have:=n g m;simp only[e,oU]at this;simpa using this;have:=o g m e;simp only[e,oU]at this;simpa using this
 rcases P with⟨rfl,T⟩|⟨C,c,j,rfl⟩;(.obtain rfl:i=[]:=aR T;clear l T O;(go_in);(go_wp2_with(go_at_call 224;refine r.mono ?_;rintro S Q⟨p,rfl,k,n,o,s⟩;have A:=Z k;have B:=Z s;clear k n o s));go_ret;have k:=ae A;refine⟨p,rfl,⟨k,λg e=>absurd e<|gL g,λg e=>absurd e<|gL g⟩,x.trans<|B.mono x.size⟩);(go_in);(go_wp2_with(go_at_call 224;refine r.mono ?_;rintro S Q⟨p,rfl,k,n,o,s⟩;have A:=Z k;have m:=Z n;have u:=Z o;have B:=Z s;clear k n o s));go_ret;exact⟨p,rfl,l (aP .nilIface) a p A m u,x.trans<|B.mono x.size⟩
structure sC(V:jr)(n0:R)(v:aa)(ts:cR)(w:I):Prop where
 row:Row w 1 v (z ts) (ts.map bJ.ptr)
 loc:∀k,bY v=M k->k<n0/\¬V.F k
 each:∀t∈ts,nZ V n0 t.tb t.ks t.cs w
 side:kR ts
 small:z ts<=1000000000
def nZ.Tw(l:nZ u b O.tb O.ks O.cs a):Nh a O:=by
 obtain⟨j,d,cut,e,h,i,f,c,g,k,_⟩:=l.mem;exact⟨j,d,cut,e,h,i,f,c,g,k⟩
def sC.mem(h:sC u c d i a)(f:c<=G (H a)):iX a d i:=⟨h.row,λk e=>ag (h.loc k e).1 f,λt g=>(h.each t g).Tw,h.small⟩
def Row.same{V:jr}{n0:R}{S:fN}(p:Row a b d c x)(l:jL V n0 S a f)(m:∀n,bY d=M n->n<n0/\¬V.F n):Row f b d c x:=by
 obtain⟨j,h⟩:=p;refine⟨j,?_⟩;rcases h with h|⟨o,e,g,rfl,i,k⟩;exact .inl h;exact .inr ⟨o,e,g,rfl,i,λj u h=>l.cell (.inr<|m o rfl)<|k j u h⟩
def sC.same{V:jr}{n0:R}(h:sC V n0 d i a)(b:jL V n0 az a f):sC V n0 d i f:=⟨h.row.same b h.loc,h.loc,λt c=>(h.each t c).same b,h.side,h.small⟩
def sC.cell{l b c d n:R}(m:sC u l (bE b c n d) r a){i:R}(k:i<z r):aS a (U b<|c+i)=M r[i].ptr:=by
 obtain⟨_,⟨e,_⟩|⟨b',h,g,e,_,j⟩⟩:=m.row;cases e;cases e;refine j i _ ?_;rw[dD,aK k];rfl
def sC.shape(j:sC u b d p a):(d=aG/\p=[])\/∃f c e,d=bE f c (z p) e:=by
 rcases j.row.2 with⟨g,h⟩|⟨f,c,e,g,_⟩;exact .inl ⟨g,aR h⟩;exact .inr ⟨f,c,e,g⟩
def LZ(k:R)(n:ab)(h:sC u b d i a)(K:er a c d 105)(y:er a g (aq k) 3)(A:er a l (aj n) 9)(O:u.D a)(s:b<=G (H a))(hF:∀k,u.F k->k<b)(E:b<=c)(C:b<=g)(D:b<=l)(o:R)(w:k+o<z i):cA bG 323 #[aq o,aA c,aA g,aA l] a λac f=>∃v p,ac=aP (dE #[v,.nilIface])/\jm u b v (fX n i[k+o].all) p f/\u.D f/\J u.F a f/\(∀k,p k->G (H a)<=k):=by
 rcases h.shape with⟨_,h0⟩|⟨N,e,q,rfl⟩;subst h0;simp at w;have c1:=K.cell;have c2:=y.cell;have c3:=A.cell;have F:=h.cell w;have Q:=(h.loc N rfl);have al:=h.small;have r:cA bG 324 #[i[k+o].ptr,aj n] a.drew λac f=>∃v p,ac=aP v/\jm u b v (fX n i[k+o].all) p f/\u.D f/\J u.F a.drew f/\(∀k,p k->G (H a)<=k):=Cm (n0:=b) (tbqq:=i[k+o].tb) (ks:=i[k+o].ks) (cs:=i[k+o].cs) n ((h.each _<|ar w).same ⟨ai _,λ_ _=>rfl⟩) (u.fq O (cg az a) cN) s hF
 have x:=Z (show∀f,J u.F a.drew f->aS f (U c 0)=M (bE N e (z i) q)/\aS f (U g 0)=M (aq k)/\aS f (U N<|e+(k+o))=M i[k+o].ptr/\aS f (U l 0)=M (aj n)from by
  intro f j;have B:∀x,b<=x->¬u.F x:=λx c a=>by have:=hF x a;omega
  exact⟨j.cell c1 (B _ E) (am K),j.cell c2 (B _ C) (am y),j.cell F Q.2 (ag Q.1 s),j.cell c3 (B _ D) (am A)⟩)
 have hW:J u.F a a.drew:=cg _ _;generalize i[k+o]=X at*;obtain⟨t,S⟩:∃t,k+o=t:=⟨_,rfl⟩;rw[S]at F x w;have P:(k:Y)+(o:Y)=(t:Y):=by omega
 have e1:(t:Y)<(z i:Y):=by omega
 have e2:(0:Y)<=(t:Y):=by omega
 have e3:t<1000000000:=by omega
 have e4:IntKind.i64.wrap (t:Y)=(t:Y):=by rw[bQ];omega
 have e5:wrap64 (t:Y)=(t:Y):=by unfold wrap64;omega
 unfold bJ.ptr at F x r;generalize X.all=an at*;generalize X.tb=m at*;clear h K y A O hF S;go_in
 go_wp2_with fail
 go_region_held3(λa=>aS a (U c 0)=M (bE N e (z i) q)/\aS a (U g 0)=M (aq k)/\aS a (U N<|e+t)=M (aA m)/\aS a (U l 0)=M (aj n)) (first|assumption|go_keep) (first
  |(go_at_call 324;refine r.mono ?_;rintro ac w1⟨v1,S1,rfl,T,V,L,W⟩;have ad:=x w1 L;have R1:=Z T;have R2:=Z V;have R3:=Z L;have R4:=Z W;clear T V L W))
 go_wp2;go_ret2
 exact⟨v1,S1,rfl,R1,R2,hW.trans R3<|λ_ c=>.inl c,R4⟩
def UF(V:jr)(b:R)(v:aa)(j h i l:R)(q:cR)(m:ab):AY V b (((q.drop l).map bJ.all).map<|fX m)where
 f:=323
 cb:=#[aA j,aA h,aA i]
 inv:=λW=>sC V b v q W/\(er W j v 105/\er W h (aq l) 3/\er W i (aj m) 9)/\(b<=j/\b<=h/\b<=i)/\b<=G (H W)/\∀l,V.F l->l<b
 S:=λx=>x=j\/x=h\/x=i
 Tj:=enters_of func323 (by kernel_rfl) rfl
 call:=by
  rintro t s W⟨k,⟨c,d,e⟩,⟨n,o,p⟩,a,hF⟩r;have g:l+t<z q:=by simp at s;omega
  have:=LZ l m k c d e r a hF n o p t g;simpa using this
 fq:=by
  rintro W s⟨k,⟨c,d,e⟩,r,a,hF⟩g;exact⟨k.same<|g.mono cN,⟨c.same g<|.inl rfl,d.same g<|.inr<|.inl rfl,e.same g<|.inr<|.inr rfl⟩,r,aF a g.1,hF⟩
 lt:=by
  rintro W⟨_,⟨c,d,e⟩,⟨n,o,p⟩,_⟩x(rfl|rfl|rfl)
  .exact⟨n,am c⟩
  .exact⟨o,am d⟩
  .exact⟨p,am e⟩
def RY(g:ab)(h:sC u b d i a)(X:u.D a)(j:b<=G (H a))(hF:∀k,u.F k->k<b):cA bG 320 #[d,aj g] a λB o=>∃s p,B=aP s/\jm u b s (fX g<|cr i) p o/\u.D o/\J u.F a o/\(∀k,p k->G (H a)<=k):=by
 have q:Below (G<|H a) a (cF (cF a<|aw #[d] 105)<|aw #[aj g] 9):=((Below.refl _ a).alloc (ai _) _).alloc (by simp) _;have v:=zK g ((h.mem j).below q) h.side.AD;have al:=h.small;have N:=h.shape
 have V:=Z (show∀(e:I)(k:R),Below (G<|H<|cF (cF a<|aw #[d] 105)<|aw #[aj g] 9) (cF (cF a<|aw #[d] 105)<|aw #[aj g] 9) e->qG i g k->cA bG 322 #[aq ((z i-k:R):Y),.func (.func 323) #[] #[aA<|G<|H a,aA<|G<|H e,aA<|G (H a)+1]] (cF e<|aw #[aq k] 3) λB o=>∃s p,B=aP s/\jm u b s (fX g<|cr i) p o/\u.D o/\J u.F a o/\(∀k,p k->G (H a)<=k)from by
  intro e k c m;have r:=c.size;simp at r;have l:J az a (cF e<|aw #[aq k] 3):=(((J.aV (S:=az) q).cw<|J.aV (S:=az) c).alloc _);have O:er e (G<|H a) d 105:=(c.block _ (by simp;omega)).trans<|er.alloc (aE _ rfl) _;have P:er e (G (H a)+1) (aj g) 9:=(c.block _<|by simp).trans (aE _<|by simp);have L:sC u b d i (cF e<|aw #[aq k] 3):=h.same<|l.same j cN cN;have f:=Ij (UF u b d (G<|H a) (G<|H e) (G (H a)+1) k i g) (cF e<|aw #[aq k] 3) ⟨L,⟨O.alloc _,aE _ rfl,P.alloc _⟩,⟨j,by omega,by omega⟩,aF j l.size,hF⟩ (aF j l.size) hF (by simp;omega);have hl:z (((i.drop k).map bJ.all).map<|fX g)=z i-k:=by simp
  rw[hl]at f;apply f.mono;rintro B o⟨s,p,rfl,hg,hb,hS⟩;rw[h.side.BK g m]at hg;have n:=l.cw (J.aV (S:=az) hb);refine⟨s,p,rfl,hg,u.fq X n cN,n.mono cN,λao hx=>?_⟩;have an:=l.size;rcases hS ao hx with(ac|ac|ac)|ac<;>omega)
 have W:=Z (show∀e,Below (G<|H<|cF (cF a<|aw #[d] 105)<|aw #[aj g] 9) (cF (cF a<|aw #[d] 105)<|aw #[aj g] 9) e->aS e (U (G<|H a) 0)=M d/\G (H a)<G (H e)from by intro e c;have r:=c.size;simp at r;exact⟨er.cell (t:=105)<|(c.block _ (by simp;omega)).trans<|er.alloc (aE _ rfl) _,by omega⟩);clear h X hF q;rcases N with⟨rfl,rfl⟩|⟨au,Q,ad,rfl⟩;(·(go_in);(go_wp2_with fail);apply v.mono;rintro B e⟨k,rfl,m,c⟩;obtain rfl:k=0:=Nat.le_zero.1 m.le;have f:=V e 0 c m;obtain⟨y1,y2⟩:=W e c;clear m c;(go_wp2_with fail);apply f.mono;rintro B w2⟨T,K,rfl,w,x,y,A⟩;have C:=Z w;have D:=Z x;have E:=Z y;have F:=Z A;clear w x y A;go_wp2;go_ret;exact⟨T,K,rfl,C,D,E,F⟩);(go_in);(go_wp2_with fail);apply v.mono;rintro B e⟨k,rfl,m,c⟩;have L:=m.le;have f:=V e k c m;obtain⟨y1,y2⟩:=W e c;obtain⟨l,n⟩:∃l,z i-k=l:=⟨_,rfl⟩;rw[n]at f;(have O:(z i:Y)-(k:Y)=(l:Y):=by omega);(have P:l<=1000000000:=by omega);(have q6:IntKind.i64.wrap (l:Y)=(l:Y):=by rw[bQ];omega);clear m c n;(go_wp2_with fail);apply f.mono;rintro B w2⟨T,K,rfl,w,x,y,A⟩;have C:=Z w;have D:=Z x;have E:=Z y;have F:=Z A;clear w x y A;go_wp2;go_ret;exact⟨T,K,rfl,C,D,E,F⟩
def Nv(h:qG i v b)(a:qG i v c):b=c:=by
 rcases kH b c with e|e|e;have f:=a.low b (by have:=a.le;omega) e;have d:=h.vt b (by have:=a.le;omega)<|ai _;rw[f]at d;cases d;exact e;have f:=h.low c (by have:=h.le;omega) e;have d:=a.vt c (by have:=h.le;omega)<|ai _;rw[f]at d;cases d
def DR:∀{d:cR},Bb d->∀a,∃k,qG d a k
 |[],_,_=>⟨0,ai _,λi b=>absurd b<|gL i,λi b=>absurd b<|gL i⟩
 |t::d,l,a=>by
  obtain⟨h,j⟩:=bA.1 l;cases e:im (jc t.ks) a with
  |true=>
   obtain⟨k,g⟩:=DR j a;refine⟨k+1,Nat.succ_le_succ g.le,λi b c=>?_,λi b c=>?_⟩
   .cases i with
    |zero=>exact e
    |succ i=>exact g.low i (by simpa using b)<|by omega
   .cases i with
    |zero=>omega
    |succ i=>exact g.vt i (by simpa using b)<|by omega
  |false=>
   refine⟨0,bB _,λi b c=>absurd c<|gL i,λi b _=>?_⟩;cases i with
   |zero=>exact e
   |succ i=>
    have g:=h _ (ar<|show i<z d by simpa using b);cases f:im (jc<|(t::d)[i+1].ks) a with
    |false=>rfl
    |true=>
     have:im (jc t.ks) a=bX:=lP g f;rw[e]at this;cases this
def RZ(l:ab)(K:Y)(h:sC u b d p a)(hD:u.D a)(n:b<=G (H a))(hF:∀D,u.F D->D<b):cA bG 319 #[d,aj l,aL K] a λX F=>X=aP (tD<|iH K (cr p) l)/\u.D F/\J u.F a F:=by
 obtain⟨D,v⟩:=DR h.side.AD l;have r:Below (G<|H a) a (cF a<|aw #[aj ⟨#[]⟩,aj ⟨#[]⟩,aO bF,aL 0] 164):=(Below.refl _ a).alloc (ai _) _;have an:=h.small;have C:cA bG 223 #[d,aj l] (cF a<|aw #[aj ⟨#[]⟩,aj ⟨#[]⟩,aO bF,aL 0] 164) λX F=>X=aP (aq D)/\Below (G<|H a) a F/\ix F (G<|H a) zE:=by apply(zK l ((h.mem n).below r) h.side.AD).mono;rintro X F⟨j,rfl,o,e⟩;obtain rfl:D=j:=Nv v o;exact⟨rfl,r.trans<|e.mono r.size,(e.block _<|by simp).trans<|aE _ rfl⟩
 have B:∀ac,b<=ac->¬u.F ac:=λac L a=>by have:=hF ac a;omega
 obtain⟨y,O,g⟩:=dI B (λW(A:Below (G<|H a) a W)=>u.fq hD (J.aV (S:=az) A) cN)<|λW(A:Below (G<|H a) a W)=>h.same<|(J.aV (S:=az) A).same n cN cN;by_cases s:D<z p
 .rcases h.shape with⟨_,h0⟩|⟨ao,V,al,rfl⟩
  .subst h0;simp at s
  rw[h.side.BO v s K];have HC:=Z<|λW(A:Below (G<|H a) a W)=>(g W A).cell s;have q:=Z<|λW(A:Below (G<|H a) a W)=>Cn (n0:=b) (tbqq:=p[D].tb) (ks:=p[D].ks) (cs:=p[D].cs) l K ((g W A).each _<|ar s) (O W A) (aF n A.size) hF;have j:∀W,Below (G<|H a) a W->cA bG 321 #[aA<|p[D].tb,aj l,aL K] W λX F=>X=aP (tD<|iH K p[D].all l)/\u.D F/\J u.F W F:=ae q;have e1:((D:Y)==(z p:Y))=bF:=by simp;omega
  have e2:(D:Y)<(z p:Y):=by omega
  have e3:(0:Y)<=(D:Y):=by omega
  clear q h v hD hF B r g;unfold bJ.ptr at HC;generalize iH K p[D].all l=fe at*;generalize p[D].tb=ad at*;cases fe with
  |none=>
   simp only[tD,wX]at j;have q:=Z j;clear j;go_in
   go_wp2_with(first
    |(go_at_call 223;refine C.mono ?_;rintro X x⟨rfl,f,c⟩;have hc:=HC x f;have T:=q x f;have m:=Z c;have k:=Z f;clear c f)
    |(go_at_call 321;refine T.mono ?_;rintro X w2⟨rfl,t,o⟩;have e:=m.ay o (y _ n);obtain⟨z0,z1,z2,z3⟩:=e.cells;have y0:=e.free (i:=0);have y1:=e.free (i:=1);have y2:=e.free (i:=2);have y3:=e.free (i:=3);have P:=Z e;have N:=Z t;have Q:=Z o;clear e t o))
   refine cO (fZ rfl _ _ (G<|H a) zE _ _ rfl<|P.put zE) rfl ?_;have w:=jj w2 (G<|H a) zE;refine⟨rfl,u.fq N w (λac L=>by subst L;exact y _ n),((J.aV (S:=u.F) k).trans Q<|λD v=>.inl v).trans w<|λac L=>.inr<|by omega⟩
  |some ac=>
   obtain⟨xk,xv,xd,xb⟩:=ac;simp only[tD,E.value]at j;have q:=Z j;clear j;go_in
   go_wp2_with(first
    |(go_at_call 223;refine C.mono ?_;rintro X x⟨rfl,f,c⟩;have hc:=HC x f;have T:=q x f;have m:=Z c;have k:=Z f;clear c f)
    |(go_at_call 321;refine T.mono ?_;rintro X w2⟨rfl,t,o⟩;have e:=m.ay o (y _ n);obtain⟨z0,z1,z2,z3⟩:=e.cells;have y0:=e.free (i:=0);have y1:=e.free (i:=1);have y2:=e.free (i:=2);have y3:=e.free (i:=3);have P:=Z e;have N:=Z t;have Q:=Z o;clear e t o))
   refine cO (fZ rfl _ _ (G<|H a) ⟨xk,xv,xd,xb⟩ _ _ rfl<|P.put ⟨xk,xv,xd,xb⟩) rfl ?_;have w:=jj w2 (G<|H a) ⟨xk,xv,xd,xb⟩;refine⟨rfl,u.fq N w (λac L=>by subst L;exact y _ n),((J.aV (S:=u.F) k).trans Q<|λD v=>.inl v).trans w<|λac L=>.inr<|by omega⟩
 (have o:D=z p:=by have:=v.le;omega);subst o;have e:=h.side.yK v K;rw[e];rcases h.shape with⟨rfl,rfl⟩|⟨ao,V,al,rfl⟩;(.clear h v hD hF B r e s g;(go_in);(go_wp2_with(go_at_call 223;refine C.mono ?_;rintro X x⟨rfl,f,c⟩;obtain⟨z0,z1,z2,z3⟩:=c.cells;have y0:=c.free (i:=0);have y1:=c.free (i:=1);have y2:=c.free (i:=2);have y3:=c.free (i:=3);have m:=Z c;have k:=Z f;clear c f));refine cO (fZ rfl _ _ (G<|H a) zE _ _ rfl<|m.put zE) rfl ?_;have j:Below (G<|H a) a (wS x (G<|H a) zE):=k.trans ((jj x (G<|H a) zE).below k.size<|λac L=>by omega);exact⟨rfl,O _ j,J.aV j⟩);clear h v hD hF B r e s g;(go_in);(go_wp2_with(go_at_call 223;refine C.mono ?_;rintro X x⟨rfl,f,c⟩;obtain⟨z0,z1,z2,z3⟩:=c.cells;have y0:=c.free (i:=0);have y1:=c.free (i:=1);have y2:=c.free (i:=2);have y3:=c.free (i:=3);have m:=Z c;have k:=Z f;clear c f));refine cO (fZ rfl _ _ (G<|H a) zE _ _ rfl<|m.put zE) rfl ?_;have j:Below (G<|H a) a (wS x (G<|H a) zE):=k.trans ((jj x (G<|H a) zE).below k.size<|λac L=>by omega);exact⟨rfl,O _ j,J.aV j⟩
def ID{w:I}(u:bJ)(h:Nh w u)(A:sf u.ks<=1000000000):cA bG 198 #[u.ptr] w λW Q=>W=aP (aq (sf u.ks:R))/\Below (G<|H w) w Q:=by
 obtain⟨V,k,cut,q,P,r,b,i,y,f⟩:=h;obtain⟨v,a,T,num⟩:=u;simp only at A f|-;unfold bJ.ptr;simp only;have B:=cellAt f.box 5 rfl;have o:=f.lt;have D:=f.small;have x:=Z f.cells;clear f;go_in
 go_wp2;go_loopw [3,11] (λc i wr=>∃n:R,n<=z a/\i=aq n/\c=aq (sf (a.take n):R)/\Below (G<|H w) w wr) (λ_ i _=>z a-(intOf i).toNat)
 case atStart=>exact⟨0,bB _,rfl,rfl,Below.refl _ _⟩
 (case round=>obtain⟨n,X,rfl,rfl,d⟩:=hrel;have C:=BU a n;have c:=BU a<|n+1;by_cases j:n<z a;(.have e:∀c v,c<5->(rq.cells a[n])[c]?=M v->aS wr (U r<|b+n*5+c)=M v:=λc v f g=>(d.cell (p:=(U r<|b+n*5+c)) o.2).trans (by rw[aY];exact x _ _<|(iD a n c j f).trans g);rw[ak j,BV]at c;have g:=Z (show sf (a.take<|n+1)=sf (a.take n)+a[n].count by rw[ak j,BV]);generalize a[n]=ac at*;obtain⟨pos,t,m,first,s⟩:=ac;have F:=e 0 _ (by omega) rfl;have K:=e 1 _ (by omega) rfl;have L:=e 2 _ (by omega) rfl;have N:=e 3 _ (by omega) rfl;have O:=e 4 _ (by omega) rfl;clear e;simp only[ju]at F K L N O;simp only at c g;generalize sf (a.take n)=S at*;have l:=Z d;have E:=d.size;clear d;go_wp2;go_roundw;(case rel=>exact⟨n+1,j,by go_num,by rw[ae g];go_num,l.alloc E _⟩);case measure=>simp[intOf];omega);(have e:n=z a:=by omega);subst e;rw[bP];have l:=Z d;clear d;go_wp2;go_ret;exact⟨rfl,l⟩)
def lK(a:cR):R:=(a.map<|λt=>sf t.ks).sum
def If(a:cR)(t:bJ):lK (a++[t])=lK a+sf t.ks:=by simp[lK]
def Ie(a:cR)(n:R):lK (a.take n)<=lK a:=by
 have h:=bW (λl=>(l.map (λt:bJ=>sf t.ks)).sum)<|ci n a;simp only[aQ,gw]at h;unfold lK;omega
def VC(h:O∈i):sf O.ks<=lK i:=by
 induction i with
 |nil=>cases h
 |cons b r a=>
  unfold lK at*;rcases aD.1 h with rfl|h
  .simp
  .have:=a h;simp only[aZ,iT];omega
def iX.cell{b c d n:R}(l:iX a (bE b c n d) r){i:R}(k:i<z r):aS a (U b<|c+i)=M r[i].ptr:=by
 obtain⟨_,⟨e,_⟩|⟨b',h,g,e,_,j⟩⟩:=l.row;cases e;cases e;refine j i _ ?_;rw[dD,aK k];rfl
def iX.shape(h:iX a d p):(d=aG/\p=[])\/∃e b c,d=bE e b (z p) c/\z p<=c:=by
 rcases h.row.2 with⟨f,g⟩|⟨e,b,c,f,g,_⟩;exact .inl ⟨f,aR g⟩;exact .inr ⟨e,b,c,f,g⟩
def zN(h:iX a d i)(B:lK i<=1000000000):cA bG 137 #[d] a λy x=>y=aP (aq (lK i:R))/\Below (G<|H a) a x:=by
 have w:=h.small;rcases h.shape with⟨rfl,rfl⟩|⟨E,o,t,rfl,_⟩;(.clear h;(go_in);go_wp2;(go_loopw [3,8] (λs p wr=>p=aq 0/\s=aq 0/\wr=a) (λ_ _ _=>0));(case atStart=>exact⟨rfl,rfl,rfl⟩);(case round=>obtain⟨rfl,rfl,rfl⟩:=hrel;go_wp2;go_ret;exact⟨rfl,Below.refl _ _⟩));(.have r:=Z h;clear h;(go_in);go_wp2;(go_loopw [3,8] (λs p wr=>∃n:R,n<=z i/\p=aq n/\s=aq (lK (i.take n):R)/\Below (G<|H a) a wr) (λ_ p _=>z i-(intOf p).toNat));(case atStart=>exact⟨0,bB _,rfl,rfl,Below.refl _ _⟩);(case round=>obtain⟨n,C,rfl,rfl,e⟩:=hrel;have u:=Ie i n;have g:=Ie i<|n+1;by_cases c:n<z i;(.have b:=r.below e;have v:=b.cell c;rw[ak c,If]at g;have m:=Z (show lK (i.take<|n+1)=lK (i.take n)+sf i[n].ks by rw[ak c,If]);have j:=ID (w:=wr) i[n] (b.each _<|ar c) (by have:=VC<|ar c;omega);clear b;unfold bJ.ptr at v j;generalize sf i[n].ks=F at*;generalize i[n].tb=q at*;generalize lK (i.take n)=A at*;have k:=Z e;clear e;(go_wp2_with fail);apply j.mono;rintro y D⟨rfl,f⟩;have l:=Z f;clear f;go_wp2;go_roundw;(case rel=>exact⟨n+1,c,by go_num,by rw[ae m];go_num,k.trans<|l.mono k.size⟩);case measure=>simp[intOf];omega);(have b:n=z i:=by omega);subst b;rw[bP];have k:=Z e;clear e;go_wp2;go_ret;exact⟨rfl,k⟩))
section
open Go.Shelf
attribute [local go_sem] Oper.semAt_some
def oD(v:aa):R->dX->jd
 |_,[]=>[]
 |n,p::a=>zt v n (z p)::oD v (n+z p) a
def Ge(v:aa):∀(n:R)(a:dX),z (oD v n a)=z a
 |_,[]=>rfl
 |n,p::a=>by rw[oD,aC,aC,Ge]
def Ct(v:aa)(p:cK):∀(n:R)(a:dX),oD v n (a++[p])=oD v n a++[zt v (n+z a.flatten)<|z p]
 |_,[]=>by simp[oD]
 |n,q::a=>by
  rw[cC,oD,Ct,oD,cC,aX,af,aY]
structure Di(W:I)(base N1:R)(v pv:aa)(ps:dX)(t:R):Prop where
 p:er W N1 pv 319
 f:er W (N1+1) (aq<|z ps.flatten) 3
 to:er W (N1+2) (aq t) 3
 o:W.ownsRow base 102 1 pv (z ps) (oD v 0 ps)
 Ys:∀k,bY pv=M k->k<N1\/N1+4<=k
 size:N1+4<=G (H W)
 bs:base<=N1
def JY(a:R)(b:aa)(k:R):Prop:=(a<=k/\k<a+3)\/bY b=M k
def Di.ay{T:fN}(j:Di a c g d t k l)(e:J T a B)(h:∀m,JY g t m->¬T m):Di B c g d t k l:=⟨j.p.ay e<|h _<|.inl ⟨by omega,by omega⟩,j.f.ay e<|h _<|.inl ⟨by omega,by omega⟩,j.to.ay e<|h _<|.inl ⟨by omega,by omega⟩,e.own j.o<|λm n=>h m<|.inr n,j.Ys,aF j.size e.size,j.bs⟩
def Di.at(h:Di a c g d t k l)(n:R):Di (ct a (U (g+2) 0)<|aq n) c g d t k n:=⟨h.p.other _ (by omega),h.f.other _ (by omega),h.to.set _,(rH a _ 0 _).own h.o (λj e m=>by have:=h.Ys j e;omega),h.Ys,by rw[gE];exact h.size,h.bs⟩
def Di.more{p:cK}(s:Di a b c d t k g)(u:eY a f t L)(A:g=z k.flatten+z p)(y:f.ownsRow b 102 1 L (z k+1) (oD d 0 k++[zt d (z k.flatten)<|z p])):(aS f (U c 0)=M t/\f.frozen? (U c 0)=bF)/\(aS (ct f (U c 0) L) (U (c+1) 0)=M (aq<|z k.flatten)/\(ct f (U c 0) L).frozen? (U (c+1) 0)=bF)/\aS (ct f (U c 0) L) (U (c+2) 0)=M (aq g)/\Di (ct (ct f (U c 0) L) (U (c+1) 0)<|aq g) b c d L (k++[p]) g/\J (JY c t) a (ct (ct f (U c 0) L) (U (c+1) 0)<|aq g)/\∀m,JY c L m->JY c t m\/G (H a)<=m:=by
 have h:=J.fH u;have B:=s.size;have l:∀x,c<=x->x<c+3->¬(bY t=M x):=λx e g n=>by have:=s.Ys x n;omega
 have o:=s.p.ay h (l _ (by omega)<|by omega);have r:=(s.f.ay h<|l _ (by omega)<|by omega).other (b':=c) (i:=0) L (by omega);have v:=(s.to.ay h<|l _ (by omega)<|by omega).other (b':=c) (i:=0) L (by omega);have e:∀m,bY L=M m->m<c\/c+4<=m:=by intro m j;rcases u.uq with n|⟨x,n,w⟩;exact s.Ys m<|n▸j;rw[n]at j;cases j;exact .inr<|by omega
 refine⟨⟨o.cell,o.free⟩,⟨r.cell,r.free⟩,v.cell,⟨(o.set L).other _ (by omega),?_,v.other _ (by omega),?_,e,?_,s.bs⟩,?_,?_⟩;have:=r.set<|aq g;rw[A]at this|-;rw[dQ,af];simpa using this;rw[af,Ct,cZ];refine(rH _ _ 0 _).own ((rH _ _ 0 _).own y ?_) ?_;intro m j n;have:=e m j;omega;intro m j n;have:=e m j;omega;rw[gE,gE];have:=h.size;omega;exact((h.mono (T:=JY c t)<|λm j=>.inl<|.inr j).setCell _ 0 _<|.inl<|.inl ⟨by omega,by omega⟩).setCell _ 0 _<|.inl<|.inl ⟨by omega,by omega⟩;rintro m(n|n);exact .inl<|.inl n;rcases u.uq with q|⟨x,q,w⟩;exact .inl<|.inr<|q▸n;rw[q]at n;cases n;exact .inr w
structure CY(w:I)(N1:R)(v:aa)(n L:R)(pre:cD (R×cK))(B:fN)(W:I):Prop where
 ex:∃ps cur pv,Di W (G (H w)+2) N1 v pv ps (z<|iq pre)/\iq pre=ps.flatten++cur/\(∀rest,kQ n L 0 0 [] (pre.map (·.2)++rest)=ps++kQ n L (z ps) (z<|iq pre) cur rest)/\∀k,B k↔JY N1 pv k
 l:er W (G<|H w) v 102
 n:er W (G (H w)+1) (aq n) 3
 ay:J az w W
def CY.lt{h:cD (R×cK)}(o:CY a c d g l h X B):∀k,X k->G (H a)+2<=k/\k<G (H B):=by
 obtain⟨p,i,q,e,_,_,j⟩:=o.ex;intro k m;have:=e.bs;have:=e.size;rcases(j k).1 m with n|n;exact⟨by omega,by omega⟩;have:=aI e.o k n;exact⟨this.1,this.2⟩
def CY.stays{e:cD (R×cK)}{T:fN}(p:CY a b d c g e X f)(i:J T f B)(h:∀k,T k->¬X k/\b+3<=k):CY a b d c g e X B:=by
 obtain⟨s,j,t,o,q,r,n⟩:=p.ex;have:=o.bs;exact⟨⟨s,j,t,o.ay i<|λk l m=>(h k m).1<|(n k).2 l,q,r,n⟩,p.l.ay i (λm=>by have:=(h _ m).2;omega),p.n.ay i (λm=>by have:=(h _ m).2;omega),p.ay.trans i<|λk l=>.inr (by have:=(h k l).2;omega)⟩
def Nw{gg:cK}{d:dX}(h:∀a,kQ b c 0 0 [] (k++a)=d++kQ b c (z d) g e a):((z d+1)*c/b<=g+z gg->∀a,kQ b c 0 0 [] (k++[gg]++a)=(d++[e++gg])++kQ b c (z<|d++[e++gg]) (g+z gg) [] a)/\(¬(z d+1)*c/b<=g+z gg->∀a,kQ b c 0 0 [] (k++[gg]++a)=d++kQ b c (z d) (g+z gg) (e++gg) a):=by
 constructor;intro f a;rw[aW,h,cC,cJ,pC,dt f];simp;intro f a;rw[aW,h,cC,cJ,pC,dh f]
def UV:(prog.info? 102).map (λi=>(i.zero,i.size,i.bytes))=M (M aG,1,24):=by kernel_rfl
def QL(h:ku a d e)(hs:dS e)(hl:z e<=1000000)(v:∀k,bY d=M k->k<G (H a)):cA bG 197 #[d] a λet w'=>∃v',et=aP v'/\w'.ownsRow (G<|H a) 102 1 v' (z<|gR e) (oD d 0<|gR e)/\J az a w':=by
 obtain⟨i0,cs,dd,dk,dm⟩:=cL UV;obtain⟨bs,o,dc⟩:=bS h;have em:=AF d bs (z e) o dc;obtain⟨N,hN⟩:∃N,uE (z e)=N:=⟨_,rfl⟩;have fb:N<=10418:=by unfold uE at hN;omega
 have cj:0<z e->0<N:=by unfold uE at hN;omega
 have e1:Int.tdiv ((z e:Y)+96-1) 96=(N:Y):=by(have:((z e:Y)+96-1)=((z e+95:R):Y):=by omega);rw[this,<-hN];unfold uE;exact(Int.ofNat_tdiv _ _).symm
 unfold gR;rw[hN];obtain⟨HN,ed,HH,HV⟩:=gD hN cj h v;clear h v hN cj;subst dc;refine(di (n:=3)).1 ?_;refine callsIn_of_wp_marks func197 rfl trivial ?_ rfl;simp only[ntmps197,eZ,aC,cS,Nat.reduceAdd,Nat.reduceSub,eh,dZ,fa,eE,cJ,cC]
 gi_wp2_with(first
  |(gi_at_make;go_loud(refine wpListIn_make_own _ rfl _ _ 319 rfl (G (H a)+2) 102 i0 aG 1 underlying319 cs dd dk _ _ _ N rfl rfl (by omega) (by rw[dm];omega) (by unfold maxLen;omega) (by simp) ?_;intro g ax x;have T:er g (G<|H a) (.slice bs (z e) o) 102:=(x.block _ (by simp<;>omega)<|by simp).trans<|er.alloc (aE _ rfl) _;have W:er g (G (H a)+1) (.int .i64 N) 3:=(x.block _ (by simp<;>omega)<|by simp).trans (aE _<|by simp);have y0:=T.cell;have y1:=W.cell;have y2:=am T;have y3:=am W;have y4:G (H a)<G (H g)+1:=(by omega);have y5:G (H a)<G (H g)+1+1:=(by omega);have dx:=Z T;have dT:=Z W;have bg:Hid (g.ownsRow (G (H a)+2) 102 1 (bE (G (H a)+1+1) 0 0 N) 0 []):=Z (by simpa using ax);have eb:=Z x;clear ax x T W))
  |(refine⟨trivial,?_⟩;gi_at_call 79;refine(di.2 (em _)).mono ?_;rintro et w1⟨rfl,rfl⟩))
 obtain⟨W0,u⟩:∃W0,(cF (cF (cF (cF g<|aw #[bE (G (H a)+1+1) 0 0 N] 319)<|aw #[aq 0] 3)<|aw #[aq 0] 3)<|aw #[ah bs (z e) o] 102)=W0:=⟨_,rfl⟩;have fv:G (H W0)=G (H g)+4:=by rw[<-u];simp
 have eq:J az a g:=(((J.refl az a).alloc<|aw #[ah bs (z e) o] 102).alloc<|aw #[aq N] 3).cw (J.dR (S:=az) eb<|by simp);have y:J az g W0:=by rw[<-u];exact(((cI az g).alloc _).alloc _).alloc _
 have cM:J az a W0:=eq.cw y;have ek:er W0 (G (H g)+3) (ah bs (z e) o) 102:=by rw[<-u];exact aE _<|by simp
 have cb:ku W0 (ah bs (z e) o) e:=HH.ay cM<|λk b=>⟨id,HV k b⟩;have hA0:CY a (G<|H g) (ah bs (z e) o) N (z e) [] (JY (G<|H g)<|bE (G (H a)+1+1) 0 0 N) W0:=by refine⟨⟨[],[],_,⟨?_,?_,?_,?_,?_,by omega,by omega⟩,rfl,λO=>rfl,λk=>ru⟩,dx.ay y id,dT.ay y id,cM⟩;rw[<-u];exact er.alloc (er.alloc (er.alloc (aE _ rfl) _) _) _;rw[<-u];exact er.alloc (er.alloc (aE _<|by simp) _) _;rw[<-u];exact er.alloc (aE _<|by simp) _;exact y.own bg<|λ_ _ o=>o;intro k b;have:=(bg.lt k b).2;exact .inl this
 clear y0 y1 y4 y5;rw[u];refine nT (m:=3) (arg:=Gs<|ah bs (z e) o) (V:=AP) (n0:=G<|H a) (gf:=127) (lb:=#[aA<|G (H g)+3]) (l:=nV 0<|io e) (S:=λk=>k=G (H g)+3) ?geval (enters_of func127 (by kernel_rfl) rfl) (λ_=>rfl) (wh (G<|H a) 2 ek cb HV (by omega)<|by omega) trivial (by omega) (λk b=>by omega) (λj an bt=>CY a (G<|H g) (ah bs (z e) o) N (z e) j an bt) (λ_ _ _ _=>False) _ hA0 (λk b o=>by rcases o with⟨_,o⟩|o;omega;have:=(bg.lt k o).2;omega) (λj an bt D k b=>⟨by have:=(D.lt k b).1;omega,(D.lt k b).2⟩) ?st (λ_ _ _ _ _ _ h=>h.elim) ?body ?done ?stop;case geval=>rfl
 (case st=>intro j an bt f n D ht c;refine D.stays ht<|λk b=>⟨(c k b).1,?_⟩;rcases(c k b).2 with o|o|o;omega;exact o.elim;omega);(case stop=>intro eu o j an bt _ h;exact h.elim)
 case body=>
  rintro lr j⟨bc,n⟩an bt fn ca cx K D _;obtain⟨hn,fL,b⟩:=Jq hs K;have ff:0<z n:=gJ.2 b.ne;have fl:bc+z n+z fL=z e:=by rw[b.all,hn];simp;omega
  obtain⟨ds,c,ey,hx,fk⟩:=cb.some (by omega);cases hx;have el:∀q∈j.map (·.2),q≠[]:=by
   obtain⟨_,bb,et⟩:=yI _ _ _ _ _ K;exactλq hq=>Do e q (by rw[<-et];simp[hq])
  unfold Gs zt;simp only;have F:=hn.symm;have HA:=Z D;clear D K b hn;gi_wp2;refine⟨J.refl _ _,λQ bp=>?_⟩;have hA2:=HA.stays bp (λk b=>by subst b;exact⟨ca,by omega⟩);obtain⟨l,A,pv,v,hcut,s,hB⟩:=hA2.ex;rw[F]at v s;have fr:z l<=bc:=by
   have h1:=s [];rw[dO]at h1;have h2:l=kQ N (z e) 0 0 [] (j.map (·.2)):=by rw[h1];simp[kQ]
   have h3:=CD (ps:=l) (by rw[h2];exact KB _ _ _ _ el);have h4:=bW z hcut;rw[F,af]at h4;omega
  have co:z l.flatten+z A=bc:=by rw[<-F,hcut,af]
  obtain⟨px,pc,bn⟩:=aB v.o;have z0:=v.to.cell;have z1:=v.to.free;have db:=v.at (bc+z n);have ac:J an Q (ct Q (U (G (H g)+2) 0)<|aq ((bc+z n:R):Y)):=(J.refl an Q).setCell _ 0 _<|.inl<|(hB _).2<|.inl ⟨by omega,by omega⟩;have cu:=hA2.l.ay ac (λo=>by have:=(HA.lt _ o).1;omega);have cB:=hA2.n.ay ac (λo=>by have:=(HA.lt _ o).1;omega);obtain⟨q,hq⟩:∃q,(z l+1)*z e/N=q:=⟨_,rfl⟩;obtain⟨dv,hp⟩:∃dv,(z l+1)*z e=dv:=⟨_,rfl⟩;have fs:dv<=1000001*1000000:=by rw[<-hp];exact Nat.mul_le_mul (by omega) hl
  have a1:((z l:Y)+1)*(z e:Y)=(dv:Y):=by rw[<-hp];exact(Int.natCast_mul _ _).symm
  have a2:Int.tdiv (dv:Y) (N:Y)=(q:Y):=by rw[<-hq,hp];exact(Int.ofNat_tdiv _ _).symm
  have fd:=ed (by omega);have bo:=Nw (gg:=n) s;rw[hq]at bo;have b1:((N:Y)==0)=bF:=by simp;omega
  have b2:IntKind.i64.wrap (dv:Y)=(dv:Y):=by rw[bQ];omega
  have fu:q<=dv:=by rw[<-hq,hp];exact Nat.div_le_self _ _
  have b3:IntKind.i64.wrap (q:Y)=(q:Y):=by rw[bQ];omega
  have eg:¬((N:Y)=0):=by omega
  have ei:¬(N=0):=by omega
  obtain⟨bi,HB,bh,P,bx,ao⟩:=kD db hB ac bp bo hcut;obtain⟨bf,ee,bu,bv,bd⟩:=jX co F cu cB hA2;clear db hB ac bp bo hcut F cu cB s v hq hp hA2 co;subst bn;gi_wp2_with fail
  rw[show G (H g)+1+1=G (H g)+2 from rfl,show G (H g)+2+1=G (H g)+3 from rfl,show((bc:Y)+(z n:Y))=((bc+z n:R):Y)by push_cast;rfl];generalize ej:ct Q (U (G (H g)+2) 0) (aq ((bc+z n:R):Y))=W3 at*;clear ej;have s0:=bi.to.cell;have s1:=bi.p.cell;have s2:=bu.cell;have s3:=bv.cell;obtain⟨bb,L⟩:∃bb,bc+z n=bb:=⟨_,rfl⟩;rw[L]at s0|-;rename_i QQ KK ch;refine Bg (by kernel_rfl) (by kernel_rfl) (by kernel_rfl) (λfz a h=>h) ?_;repeat(quiet_step (fail))
  refine wpQuiet_nil ?_;rintro _⟨nq,rfl⟩;show KK _ _;apply ch;clear ch;have b4:IntKind.i64.wrap ((z l:Y)+1)=(z l:Y)+1:=by rw[bQ];omega
  rw[b4,a1,b2,a2,b3];obtain⟨r,bk⟩:∃r,W3.drewN nq=r:=⟨_,rfl⟩;have p:J az W3 r:=by rw[<-bk];exact gX _ W3 nq
  rw[bk];have bq:=bi.ay p<|λ_ _=>id;have fx:J (λk=>an k\/k=lr) bt r:=((P.mono<|λk b=>.inl<|.inr b).trans bh<|λk b=>.inl<|.inl b).cw p;have X:=bu.ay p id;have en:=bv.ay p id;have cT:J az a r:=(bd.ay.trans bh<|λk b=>.inr (by have:=(bd.lt k b).1;omega)).cw p;have ba:J an Q r:=bh.cw p;have cv:lr<G (H Q):=ag cx P.size;have fe:G (H bt)<=G (H Q):=P.size;have w:=Z (show∀(E:I)(pf:aa)(f:dX)(ad:cK),Di E (G (H a)+2) (G<|H g) (bE ds c (z e) o) pf f (bc+z n)->iq j++n=f.flatten++ad->(∀O,kQ N (z e) 0 0 [] (j.map (·.2)++[n]++O)=f++kQ N (z e) (z f) (bc+z n) ad O)->J an r E->(∀k,JY (G<|H g) pf k->an k\/G (H r)<=k)->Bv AP (λj an bt=>CY a (G<|H g) (bE ds c (z e) o) N (z e) j an bt) (λ_ _ _ _=>False) (j++[(bc,n)]) an bt Q lr .normal ⟨#[],[]⟩ E fromλE pf f ad h1 h2 h3 h4 h5=>by
   have e1:iq (j++[(bc,n)])=iq j++n:=tF _ _ _;have e2:z (iq<|j++[(bc,n)])=bc+z n:=by rw[e1,af,ae ee]
   have B:∀k,an k->G (H a)+2<=k:=λk b=>(bd.lt k b).1;have t:J an Q E:=ba.trans h4 (λk b=>.inl b);refine⟨trivial,JY (G (H g)) pf,⟨⟨f,ad,pf,by rw[e2];exact h1,by rw[e1];exact h2,by rw[e2,aQ];exact h3,λk=>ru⟩,X.ay h4 (λo=>by have:=B _ o;omega),en.ay h4 (λo=>by have:=B _ o;omega),cT.trans h4 (λk b=>.inr (by have:=B k b;omega))⟩,(P.mono (λk b=>.inl (.inr b))).trans t (λk b=>.inl (.inl b)),t.block lr cv ca,λk b=>(h5 k b).imp_right (λo=>by have:=ba.size;omega)⟩)
  clear bk s0 s1 s2 s3 a1 a2 b1 b2 b3 b4 eg ei z0 z1;have cp:z l.flatten<=bb/\z l.flatten<bb:=by have:=ae bf;omega
  by_cases cE:q<=bb
  .have eo:(q:Y)<=(bb:Y):=by omega
   have E:∀f:I,J az r f->Di f (G (H a)+2) (G<|H g) (bE ds c (z e) o) (ah px (z l) pc) l bb:=λf ht=>L▸bq.ay ht (λ_ _=>id);have ea:=Z E;have ec:=Z X;obtain⟨al,hf⟩:∃al,z l.flatten=al:=⟨_,rfl⟩;have bT:=Z (show∀f:I,J az r f->aS f (U (G<|H g) 0)=M (ah px (z l) pc)/\aS f (U (G<|H a) 0)=M (bE ds c (z e) o)/\aS f (U (G (H g)+1) 0)=M (aq (al:Y))/\aS f (U (G (H g)+2) 0)=M (aq (bb:Y))fromλf ht=>⟨(E f ht).p.cell,(X.ay ht id).cell,hf▸(E f ht).f.cell,(E f ht).to.cell⟩);rw[hf]at cp;have Hf:=Z hf;have ck:=bT r.drew<|cg _ r;have b4:(al:Y)<=(bb:Y):=by omega
   have b5:(bb:Y)<=(o:Y):=by omega
   have b6:¬(o-al=0):=by omega
   have b7:(0:Y)<=(al:Y):=by omega
   have ex:¬(o=al):=by omega
   clear E X hf;gi_wp2_with fail
   rename_i ev ef au;refine tZ (λf=>aS f (U (G<|H g) 0)=M (ah px (z l) pc)/\aS f (U (G<|H a) 0)=M (bE ds c (z e) o)/\aS f (U (G (H g)+1) 0)=M (aq (al:Y))/\aS f (U (G (H g)+2) 0)=M (aq (bb:Y))) 7 (by kernel_rfl) (by kernel_rfl) (λfz a h=>h) ?_;refine cY 0 ?_;iterate 5 (refine eJ (v:=?_) ck rfl (by kernel_rfl) iV rfl ?_ ?_;rotate_left;(focus(rintro f⟨z0,z1,z2,z3⟩;go_simp;try rfl));simp only[Act.put,dG,Nat.reduceAdd])
   apply eA;refine aM (i:=5) rfl rfl (by kernel_rfl) ?_;intro K5 cc;go_simp;have B:J az r (cF r<|aw #[bE ds (c+al*4) (bb-al)<|o-al] 102).drew:=(cI _ r).of_heap rfl;have t:=ea _ B;have dn:=t.size;refine cc _ _ (λ_=>bT _ B) ?_;try simp only[Act.put,dG]
   refine aM (i:=6) rfl rfl (by kernel_rfl) ?_;intro K6 cd;simp only[cy,bU,cf];refine kL (.tmp 32) (.tmp 37) 319 rfl (G (H a)+2) 102 i0 aG 1 24 underlying319 cs dd dk dm rfl (by decide) (ah px (z l) pc) (z l) (oD (bE ds c (z e) o) 0 l) rfl t.o (U (G<|H r) 0) 1 1 [bE ds (c+al*4) (bb-al)<|o-al] rfl rfl (pX _ _ _) (by simp[Value.oneCell']) (by omega) (by omega) (by simp at dn|-;omega) ?_;intro v6 w6 bm br;obtain⟨x6,c6,es⟩:=aB bm;subst es;obtain⟨⟨y0,y1⟩,⟨y4,y5⟩,y6,cn,cm,cl⟩:=t.more (p:=A++n) br (by rw[af];have:=ae bf;omega) (by
    have et:zt (bE ds c (z e) o) (z l.flatten) (z<|A++n)=bE ds (c+al*4) (bb-al) (o-al):=by
     unfold zt;simp only;rw[ae Hf,show z (A++n)=bb-al by rw[af];have:=ae bf;have:=ae Hf;omega]
    rw[et];exact bm)
   have ad:=J.fH br;have bl:∀bs,G (H g)<=bs->bs<G (H g)+3->¬(bY (ah px (z l) pc)=M bs):=λbs h1 h2 q=>by have:=t.Ys bs q;omega
   refine cd _ _ (λ_=>⟨y0,((ec.ay B id).ay ad (λq=>by have:=(aI t.o _ q).1;omega)).cell,Hf▸(t.f.ay ad<|bl _ (by omega)<|by omega).cell,(t.to.ay ad<|bl _ (by omega)<|by omega).cell⟩) ?_;try simp only[Act.put,dG]
   have av:=w _ _ _ [] (L▸cn) (by rw[ae ao];simp) (bx.1 (by rw[L];exact cE)) (((J.refl az r).cw B|>.mono cN).trans cm<|λk b=>.inl<|(HB k).2 b)<|λk b=>(cl k b).imp (λo=>(HB k).2 o) (λo=>by have:=B.size;omega);have C:=Z av;rw[ae Hf]at y4;clear av cn cm cl t bm br ad bl B dn w;refine aM (i:=7) rfl rfl (by kernel_rfl) ?_;intro K7 ce;go_simp;refine ce _ _ (λq=>(q rfl).elim) ?_;refine cX (by kernel_rfl) ?_ _;show ef _ _;refine au _ _ ?_;clear au cc cd ce ck;gi_wp2;exact C
  .have eo:¬((q:Y)<=(bb:Y)):=by omega
   have C:=Z<|w r _ l (A++n) bq (by rw[ae ao,aW]) (bx.2 (by rw[L];exact cE)) (J.refl _ _)<|λk b=>.inl<|(HB k).2 b;clear w bq;gi_wp2;exact C
 (case done=>intro eu an bt E D p _ t;obtain⟨l,A,pv,v,hcut,s,hB⟩:=D.ex;rw[AM]at hcut v s;(have c:kQ N (z e) 0 0 [] (io e)=l:=by have:=s [];rw[BH,dO]at this;rw[this];simp[kQ]);have n:=Z c;obtain⟨px,pc,bn⟩:=aB v.o;have K:=v.p.cell;have r:bY pv≠M eu:=λq=>p<|(hB eu).2<|.inr q;obtain⟨B,w,C⟩:=dI v.o t D.ay;have F:=am t;clear D v hcut s hB t c;subst bn;gi_wp2;have f:=gH bt eu<|.deferred none;refine⟨by simp,.inl ⟨_,_,rfl,run_takeDeferred w,?_⟩⟩;refine⟨_,gy rfl _ _ _,?_⟩;exact⟨_,rfl,by rw[ae n];exact eM (f.own B<|λk b q=>r (by rw[<-q];exact b)) (by omega),C.trans f<|λk b=>.inr (by subst b;omega)⟩)
end
def iX.take{ts:cR}(h:iX a (bE b c (z ts) g) ts)(i:R)(r:i<=z ts):iX a (bE b c i g) (ts.take i):=by
 have m:z (ts.take i)=i:=by simp;omega
 have k:=h.shape;refine⟨⟨by simp,.inr ⟨b,c,g,by rw[m],?_,λu v d=>?_⟩⟩,λs l=>h.lt s l,λt p=>h.each t<|eI p,by have:=h.small;omega⟩;rcases k with⟨j,_⟩|⟨q,f,e,j,o⟩;cases j;cases j;omega;rw[List.map_take,mW]at d;split at d;rename_i e;rw[dD,aK<|by omega]at d;cases d;exact h.cell (by omega);cases d
def iX.drop(j:iX a (bE b c (z i) g) i)(f:R)(s:f<=z i):iX a (bE b (c+f) (z i-f)<|g-f) (i.drop f):=by
 have n:z (i.drop f)=z i-f:=by simp
 have l:=j.shape;refine⟨⟨by simp,.inr ⟨b,c+f,g-f,by rw[n],?_,λq v e=>?_⟩⟩,λt m=>j.lt t (by simpa[bY]using m),λu p=>j.each u<|dw p,by have:=j.small;omega⟩;rcases l with⟨h,_⟩|⟨r,k,d,h,o⟩;cases h;cases h;omega;rw[List.map_drop,oX]at e;(have d:f+q<z i:=by rcases dK (f+q) (z i)with h|h;exact h;rw[dy<|by simpa using h]at e;cases e);rw[dD,aK d]at e;cases e;rw[aY];exact j.cell d
def iX.empty(j:iX a (bE b c l g) i)(d:R):iX a (bE b d 0 0) []:=⟨⟨rfl,.inr ⟨b,d,0,rfl,ai _,(by intro m u e;simp at e)⟩⟩,(λk f=>j.lt k<|by simpa[bY]using f),(by intro t h;cases h),bB _⟩
structure FI(ts:cR)(lo hi:ab)(i j:R):Prop where
 XH:qG ts lo i
 le:i<=j
 mw:j<=z ts
 within:∀k(hk:k<z ts),i<=k->k<j->im hi (jf ts[k].ks)=bF
 behind:∀(hj:j<z ts),im hi (jf ts[j].ks)=bX
def Ma(F r:ab)(h:iX a d i)(V:Bb i):cA bG 174 #[d,aj F,aj r] a λP K=>∃j E W X v3,P=aP (dE #[W,X,v3])/\FI i F r j E/\iX K W (i.take j)/\iX K X ((i.drop j).take<|E-j)/\iX K v3 (i.drop E)/\(∀k,bY W=M k\/bY X=M k\/bY v3=M k->bY d=M k)/\Below (G<|H a) a K:=by
 have ao:=h.small;have B:=zK F h V;rcases h.shape with⟨rfl,rfl⟩|⟨ac,g,c,rfl,ad⟩;(.clear h V;(go_in);(go_wp2_with fail);apply B.mono;rintro P w1⟨k,rfl,e,m⟩;obtain rfl:k=0:=Nat.le_zero.1 e.le;have O:=Z e;have L:=Z m;clear e m;go_wp2;(go_loopw [10] (λE wr=>E=aq 0/\wr=w1) (λ_ _=>0));(case atStart=>exact⟨rfl,rfl⟩);(case round=>obtain⟨rfl,l⟩:=hrel;subst wr;(go_wp2_with fail);(go_quiet(fail));go_wp2;(go_ret3);have b:iX (w1.drewN nq) aG []:=⟨⟨rfl,.inl ⟨rfl,rfl⟩⟩,(by intro k e;cases e),(by intro t f;cases f),bB _⟩;exact⟨0,0,_,_,_,rfl,⟨O,ai _,ai _,λk e=>absurd e<|gL k,λD=>absurd D<|lh 0⟩,b,b,b,(by intro k e;simp[bY]at e),below_drewN L _⟩))
 .have HL:=Z h;clear h V;have an:=WN;go_in
  go_wp2_with fail
  apply B.mono;rintro P w1⟨j,rfl,e,m⟩;have v:=e.le;have O:=Z e;have L:=Z m;clear e m;go_wp2;go_loopw [10] (λE wr=>∃n:R,j<=n/\n<=z i/\E=aq n/\(∀k(e:k<z i),j<=k->k<n->im r (jf i[k].ks)=bF)/\Below (G<|H a) a wr) (λE _=>z i-(intOf E).toNat)
  case atStart=>exact⟨j,ai _,v,rfl,λk _ ad ac=>absurd ad (by omega),L⟩
  case round=>
   obtain⟨n,T,A,rfl,hw,Q⟩:=hrel;have f:=HL.below Q;obtain⟨al,HW,l⟩:=dI f hw Q;clear hw Q;have e1:(j:Y)<=(n:Y):=by omega
   have e2:(n:Y)<=(z i:Y):=by omega
   have e3:(j:Y)<=(z i:Y):=by omega
   have e4:(n:Y)<=(c:Y):=by omega
   have e5:(j:Y)<=(c:Y):=by omega
   have e6:(z i:Y)<=(c:Y):=by omega
   have q:=Z (show(∀(D:n<z i),im r (jf i[n].ks)=bX)->FI i F r j n/\iX wr (bE ac g j c) (i.take j)/\iX wr (bE ac (g+j) (n-j)<|c-j) ((i.drop j).take<|n-j)/\iX wr (bE ac (g+n) (z i-n)<|c-n) (i.drop n)from by
    intro o;refine⟨⟨O,T,A,HW,o⟩,f.take j v,?_,f.drop n A⟩;have u:=f.drop j v;have C:=iX.take (ts:=i.drop j) (by rw[iG];exact u) (n-j) (by rw[iG];omega);exact C)
   by_cases p:n<z i
   .have hp:=f.cell p;have u:=(f.each _<|ar p).first;have e7:(n:Y)<(z i:Y):=by omega
    have e8:(0:Y)<=(n:Y):=by omega
    have o:=Jl (jf i[n].ks) r;clear f;unfold bJ.ptr at hp u;cases hkl:im r (jf i[n].ks)with
    |false=>
     rw[hkl]at o;simp only[nL]at o;have HN:=Z (show∀k(e:k<z i),k=n->im r (jf i[k].ks)=bF fromλk e P=>by subst P;exact hkl);clear hkl;generalize jf i[n].ks=fk at*;generalize i[n].tb=C at*;go_wp2_with fail
     apply u.mono;rintro P S⟨rfl,N⟩;subst S;go_wp2;go_roundw;case rel=>exact⟨n+1,by omega,p,by go_num,λk e ad ac=>by rcases dK k n with au|au;exact HW k e ad au;exact HN k e (by omega),l⟩
     case measure=>simp[intOf];omega
    |true=>
     rw[hkl]at o;simp only[uu]at o;have x:=Z<|q<|λ_=>hkl;clear hkl;generalize jf i[n].ks=fk at*;generalize i[n].tb=C at*;go_wp2_with fail
     apply u.mono;rintro P S⟨rfl,N⟩;subst S;go_wp2_with fail
     go_quiet(fail)
     go_wp2;go_ret3
     obtain⟨s,t,w,y⟩:=ae x;have b:Below (G<|H wr) wr (wr.drewN nq):=below_drewN (Below.refl _ _) _;exact⟨j,n,_,_,_,rfl,s,t.below b,w.below b,y.below b,(by intro k e;simpa[bY]using e),below_drewN l _⟩
   .have u:n=z i:=by omega
    have x:=Z<|q<|λD=>absurd D p;have e7:¬(n:Y)<(z i:Y):=by omega
    have hE:=f.empty g;have N:=Z hE;clear f hE;have C:=Z (show i.drop n=[]by rw[u,gx]);rcases dK n c with hc|hc
    .have o:¬(c-n=0):=by omega
     have d2:¬(c-j=0):=by omega
     clear u;go_wp2_with fail
     go_quiet(fail)
     go_wp2;go_ret3
     obtain⟨s,t,w,y⟩:=ae x;have b:Below (G<|H wr) wr (wr.drewN nq):=below_drewN (Below.refl _ _) _;exact⟨j,n,_,_,_,rfl,s,t.below b,w.below b,y.below b,(by intro k e;simpa[bY]using e),below_drewN l _⟩
    .have o:c=n:=by omega
     subst o;clear u;rcases dK j c with S|S
     .have d2:¬(c-j=0):=by omega
      go_wp2_with fail
      go_quiet(fail)
      go_wp2;go_ret3
      obtain⟨s,t,w,y⟩:=ae x;have b:Below (G<|H wr) wr (wr.drewN nq):=below_drewN (Below.refl _ _) _;refine⟨j,c,_,_,_,rfl,s,t.below b,w.below b,?_,(by intro k e;simpa[bY]using e),below_drewN l _⟩;rw[ae C];exact N.below b
     .have o:j=c:=by omega
      subst o;go_wp2_with fail
      go_quiet(fail)
      go_wp2;go_ret3
      obtain⟨s,t,w,y⟩:=ae x;have b:Below (G<|H wr) wr (wr.drewN nq):=below_drewN (Below.refl _ _) _;refine⟨j,j,_,_,_,rfl,s,t.below b,?_,?_,(by intro k e;simpa[bY]using e),below_drewN l _⟩
      .rw[ae C,zY];exact N.below b
      .rw[ae C];exact N.below b
def iX.of_heap{w w':I}(j:iX w d i)(k:w'.heap=w.heap):iX w' d i:=by
 refine⟨?_,λq n=>by rw[k];exact j.lt q n,λt o=>(j.each t o).of_heap k,j.small⟩;obtain⟨h,g|⟨p,b,e,g,l,m⟩⟩:=j.row;exact⟨h,.inl g⟩;exact⟨h,.inr ⟨p,b,e,g,l,λn u j=>(cP (w:=w)<|by rw[k]).trans<|m n u j⟩⟩
def Wb(a:cR):Prop:=∀i(h:i+1<z a),im (jc a[i].ks) (jf a[i+1].ks)=bX
def kR.apart(h:kR i):Wb i:=by
 intro g a;obtain⟨x,d,b⟩:=(h.pure _<|ar<|show g<z i by omega).xO;obtain⟨f,e,c⟩:=(h.pure _<|ar a).Hv;rw[<-b,<-c];exact h.pair (show g<z i by omega) a (by omega) d e
def Td(h:iX a d i)(o:Wb i):cA bG 151 #[d] a λv g=>v=aP (aO bX)/\Below (G<|H a) a g:=by
 have E:=h.small;rcases h.shape with⟨rfl,rfl⟩|⟨W,t,B,rfl,_⟩;(.clear h o;(go_in);go_wp2;(go_loopw [6] (λx wr=>x=aq 0/\wr=a) (λ_ _=>0));(case atStart=>exact⟨rfl,rfl⟩);(case round=>obtain⟨rfl,rfl⟩:=hrel;go_wp2;go_ret;exact⟨rfl,Below.refl _ _⟩))
 .have A:=Z h;have y:=Z o;have C:=JC;clear h o;go_in
  go_wp2;go_loopw [6] (λx wr=>∃n:R,n<=z i/\x=aq n/\Below (G<|H a) a wr) (λx _=>z i-(intOf x).toNat)
  case atStart=>exact⟨0,bB _,rfl,Below.refl _ _⟩
  case round=>
   obtain⟨n,D,rfl,p⟩:=hrel;have b:=A.below p;have k:=Z p;clear p;by_cases j:n<z i
   .rcases fY n with l|l
    .subst l;clear b;go_wp2_with fail
     go_quiet(fail)
     go_wp2;go_roundw;case rel=>exact⟨1,by omega,by go_num,below_drewN k _⟩
     case measure=>simp[intOf];omega
    .obtain⟨m,rfl⟩:∃m,n=m+1:=⟨n-1,by omega⟩;have s:=b.cell (show m<z i by omega);have f:=b.cell j;have e:∀W,W.heap=wr.heap->cA bG 176 #[i[m].ptr] W λv g=>v=aP (aj<|jc i[m].ks)/\∃q,g=W.drewN q:=λW a=>((b.each _<|ar<|show m<z i by omega).of_heap a).last;have c:∀W,W.heap=wr.heap->cA bG 175 #[i[m+1].ptr] W λv g=>v=aP (aj<|jf i[m+1].ks)/\g=W:=λW a=>((b.each _<|ar j).of_heap a).first;have r:=y m j;unfold im at r;clear b;unfold bJ.ptr at s f e c;generalize jc i[m].ks=S at*;generalize jf i[m+1].ks=T at*;generalize i[m].tb=V at*;generalize i[m+1].tb=X at*;obtain⟨u,w⟩:∃u,m+1=u:=⟨_,rfl⟩;rw[w]at f j l D|-;have F:(u:Y)-1=(m:Y):=by omega
     have K:(m:Y)<(z i:Y):=by omega
     have L:(u:Y)<(z i:Y):=by omega
     have N:IntKind.i64.wrap (m:Y)=(m:Y):=by rw[bQ];omega
     have O:(0:Y)<(u:Y):=by omega
     have P:(0:Y)<=(m:Y):=by omega
     have Q:m<z i:=by omega
     clear w;go_wp2_with fail
     go_quiet(first
      |(go_at_call 176;refine Calls.quiet_of (e _ rfl))
      |(go_at_call 175;refine Calls.quiet_of_same (c _ rfl)))
     go_wp2;go_roundw;case rel=>exact⟨u+1,by omega,by go_num,below_drewN k _⟩
     case measure=>simp[intOf];omega
   .have c:n=z i:=by omega
    subst c;clear b;go_wp2;go_ret;exact⟨rfl,k⟩
def JX(w:I)(d:R)(t:bJ):Prop:=∃c b a,mh w t.tb (aA d) t.num (z<|dL t.cs) (z<|fp t.ks) (mQ<|fp t.ks) c b a aG t.ks
def JX.Tw(h:JX a b O):Nh a O:=by
 obtain⟨e,d,c,f⟩:=h;exact⟨_,_,_,_,_,e,d,c,_,f⟩
def JX.below(i:JX a b O)(g:Below (G<|H a) a f):JX f b O:=by
 obtain⟨h,d,c,e⟩:=i;exact⟨h,d,c,e.dq (g.block _ e.lt.1)<|g.block _ e.lt.2⟩
def bJ.uG(t:bJ):jd:=[aL t.num,dz<|z<|dL t.cs,dz<|z<|fp t.ks,dz<|mQ<|fp t.ks]
def du(a:cR):jd:=a.flatMap bJ.uG
def EJ(a:cR)(t:bJ):du (a++[t])=du a++t.uG:=by simp[du]
def Mg:(prog.info? 266).map (λi=>(i.zero,i.size,i.bytes))=M (M<|eB #[aL 0,dz 0,dz 0,dz 0],4,24):=by kernel_rfl
def CT(x c d u:aa)(t:TypeId)(f:b=G (H a)):∀j q,[x,c,d,u][j]?=M q->aS (cF a<|aw #[x,c,d,u] t) (((U b 0):Addr).add j)=M q:=by
 intro j q e;subst f;rw[dB];unfold World.cell?;rw[fG];simpa using e
def OD(w:I)(db:R)(au:aa)(b:cR)(h:iX w au b)(E:∀ax∈b,JX w db ax)(hl:z b<=100000000):cA bG 141 #[au] w λao T=>∃Q,ao=aP Q/\T.ownsRow (G<|H w) 266 4 Q (z b) (du b)/\Below (G<|H w) w T:=by
 obtain⟨F,k,l,m,o⟩:=cL Mg;rcases h.shape with⟨rfl,rfl⟩|⟨ba,K,ac,rfl,_⟩
 .clear h E;go_in
  go_wp2_with(first
   |(at_make;go_loud(refine lN _ rfl _ _ 184 rfl (G (H w)) 266 F (.agg #[.int .u64 0,.int .u32 0,.int .u32 0,.int .u32 0]) 4 underlying184 k l m _ _ _ 0 rfl rfl (by omega) (by rw[o];omega) (by unfold maxLen;omega) (ai _) ?_;intro V d c;have j:=Z d;have i:=Z c;clear d c)))
  go_loopw [3,11] (λan O wr=>O=aq 0/\wr.ownsRow (G<|H w) 266 4 an 0 []/\wr=V) (λ_ _ _=>0)
  case atStart=>exact⟨rfl,j,rfl⟩
  case round=>
   obtain⟨rfl,s,a⟩:=hrel;subst wr;obtain⟨av,W,rfl⟩:=aB s;have p:=Z s;clear s;go_wp2;go_ret;exact⟨_,rfl,p,(J.dR (S:=az) i<|by simp).below (ai _) cN⟩
 .have X:=Z h;have HW:=Z E;clear h E;go_in
  go_wp2_with(first
   |(at_make;go_loud(refine lN _ rfl _ _ 184 rfl (G (H w)) 266 F (.agg #[.int .u64 0,.int .u32 0,.int .u32 0,.int .u32 0]) 4 underlying184 k l m _ _ _ (z b) rfl rfl (by omega) (by rw[o];omega) (by unfold maxLen;omega) (ai _) ?_;intro V d c;have j:=Z d;have i:=Z c;clear d c)))
  go_loopw [3,11] (λan O wr=>∃n:R,n<=z b/\O=aq n/\wr.ownsRow (G<|H w) 266 4 an n (du<|b.take n)/\J az w wr) (λ_ O _=>z b-(intOf O).toNat)
  case atStart=>exact⟨0,bB _,rfl,j,J.dR (S:=az) i<|by simp⟩
  case round=>
   obtain⟨n,hn,rfl,a,e⟩:=hrel;have q:=e.below (ai _) cN;have al:=e.size;obtain⟨av,W,s⟩:=aB a;by_cases g:n<z b
   .have hp:=(X.below q).cell g;obtain⟨bb,L,v,N⟩:=(HW _<|ar g).below q;have r:=Uw N;obtain⟨B,p,HT⟩:=dI (show du (b.take<|n+1)=du (b.take n)++[aL b[n].num,dz<|z<|dL b[n].cs,dz<|z<|fp b[n].ks,dz<|mQ<|fp b[n].ks]by rw[ak g,EJ];rfl) a e;have D:=a.lt;clear N a e q;unfold bJ.ptr at hp;unfold EK at r;generalize b[n].num=x0 at*;generalize z (dL b[n].cs)=x1 at*;generalize z (fp b[n].ks)=x2 at*;generalize mQ (fp b[n].ks)=x3 at*;generalize b[n].tb=P at*;subst s;go_wp2_with fail
    apply r.mono;rintro ao w1⟨rfl,f⟩;have y:=Z<|(J.aV (S:=az) f).own p<|λ_ _ W=>W;have ad:=f.size;have x:=Z f;clear f;go_wp2_with(first
     |(at_builtin;go_loud(refine bV _ rfl (.tmp 15) (.tmp 18) 184 rfl (G (H w)) 266 F (.agg #[.int .u64 0,.int .u32 0,.int .u32 0,.int .u32 0]) 4 24 underlying184 k l m o rfl (by decide) (.slice av n W) n (du (b.take n)) rfl (aU y _) (U (G (H w1)) 0) 1 1 [.int .u64 x0,.int .u32 x1,.int .u32 x2,.int .u32 x3] rfl rfl (CT _ _ _ _ _ rfl) (by simp[Value.oneCell']) (by omega) (by omega) (by simp;omega) ?_;intro o2 w2 t u;have A:=Z t;have C:=Z u;clear t u)))
    go_roundw;case rel=>
     refine⟨n+1,g,by go_num,by rw[ae B];exact A,?_⟩;exact((HT.cw<|J.aV (S:=az) x).alloc _).trans (J.fH C)<|λk a=>.inr (D k a).1
    case measure=>simp[intOf];omega
   .have f:n=z b:=by omega
    subst f;rw[bP]at a;have p:=Z a;have r:=Z q;clear a q e;go_wp2;go_ret;exact⟨_,rfl,p,r⟩
def LF(v:aa)(w:I):(Go.method 545 105 v "From").run bG w=.ok (320,v) w:=by kernel_rfl
def LD(v:aa)(w:I):(Go.method 545 224 v "From").run bG w=.ok (324,v) w:=by kernel_rfl
def mP.xN(h:sC u b d i a)(c:b<=G (H a))(hF:∀k,u.F k->k<b):mP u b (.iface 105 d) (cr i) a:=⟨_,d,_,d,rfl,LF d,enters_of func320 (by kernel_rfl) rfl,λg j e f=>RY g (h.same e) f (aF c e.1) hF⟩
def mP.table(h:nZ u b O.tb O.ks O.cs a)(c:b<=G (H a))(hF:∀k,u.F k->k<b):mP u b (.iface 224 O.ptr) O.all a:=⟨_,O.ptr,_,O.ptr,rfl,LD O.ptr,enters_of func324 (by kernel_rfl) rfl,λf g d e=>Cm f (h.same d) e (aF c d.1) hF⟩
def Jv:(prog.info? 205).map (λi=>(i.zero,i.size,i.bytes))=M (M .nilIface,1,16):=by kernel_rfl
structure Th(w:I)(base:R)(t:bJ)(bb wU x Gm:R):Prop where
 ks:t.ks=bO 0 t.cs
 num:t.num=0
 pieces:qH t.all t.cs
 mem:mh w t.tb (fA none) 0 0 0 0 bb 0 wU (bE x 0 (z<|dL t.cs) Gm) t.ks
 data:eQ w base (bE x 0 (z<|dL t.cs) Gm) (dL t.cs)
 Gq:w.ownsRow base 347 5 (bE bb 0 (z t.ks) wU) (z t.ks) (eD t.ks)
 new:base<=t.tb
def VW(w:I)(a:R)(t:bJ):Prop:=∃d b x c,Th w a t d b x c
def Th.ay{S:fN}{w w':I}(h:Th w c O g l y P)(a:J S w w')(j:¬S O.tb)(e:¬S g)(k:¬S y):Th w' c O g l y P:=⟨h.ks,h.num,h.pieces,h.mem.dq (a.block _ h.mem.lt.1 j)<|a.block _ h.mem.lt.2 e,a.own h.data (λm d=>by cases d;exact k),a.own h.Gq (λm d=>by cases d;exact e),h.new⟩
def Th.other(o:Th a b O c g l y)(q:J X a f)(m:∀p,X p->∃h T j,a.heap[p]?=M (aw h T j)/\T≠293/\T≠347/\T≠5):Th f b O c g l y:=by
 refine o.ay q (λn=>?_) (λn=>?_)<|λn=>?_;obtain⟨h,T,j,d,e,_⟩:=m _ n;exact iA d o.mem.box e rfl;obtain⟨h,T,j,d,_,e,_⟩:=m _ n;obtain⟨c2,k⟩:=fK o.Gq (k:=c) rfl;exact iA d k e rfl;obtain⟨h,T,j,d,_,_,e⟩:=m _ n;obtain⟨c2,k⟩:=fK o.data (k:=l) rfl;exact iA d k e rfl
structure NT where
 t:bJ
 bb:R
 wU:R
 x:R
 Gm:R
def NT.Ok(w:I)(a:R)(p:NT):Prop:=Th w a p.t p.bb p.wU p.x p.Gm
def NT.has(p:NT)(k:R):Prop:=k=p.t.tb\/k=p.bb\/k=p.x
def NT.np(p q:NT):Prop:=∀k,p.has k->¬q.has k
def NT.Ok.lt{p:NT}(h:p.Ok a c):∀k,p.has k->c<=k/\k<G (H a):=by
 rintro k(rfl|rfl|rfl);exact⟨h.new,h.mem.lt.1⟩;exact⟨(h.Gq.lt _ rfl).1,h.mem.lt.2⟩;exact eQ.lt h.data _ rfl
def NT.Ok.ay{S:fN}{w w':I}{p:NT}(h:p.Ok w c)(d:J S w w')(a:∀k,p.has k->¬S k):p.Ok w' c:=Th.ay h d (a _<|.inl rfl) (a _<|.inr<|.inl rfl)<|a _<|.inr<|.inr rfl
def NT.Ok.base{c base':R}{p:NT}(h:p.Ok a c)(d:base'<=c):p.Ok a base':=⟨h.ks,h.num,h.pieces,h.mem,h.data.base d,eM h.Gq d,aF d h.new⟩
def NT.Ok.Zf{p:NT}(h:p.Ok a b):VW a b p.t:=⟨_,_,_,_,h⟩
def qL(w:I)(a:R)(d:cR):Prop:=∃c:cD NT,c.map NT.t=d/\(∀p∈c,p.Ok w a)/\c.Pairwise NT.np
def qL.nil(w:I)(a:R):qL w a []:=⟨[],rfl,by simp,List.Pairwise.nil⟩
def qL.each(h:qL a c i):∀t∈i,VW a c t:=by
 obtain⟨g,rfl,d,_⟩:=h;intro t f;obtain⟨p,e,rfl⟩:=bz.1 f;exact(d p e).Zf
def qL.ay{w w':I}(g:qL w c p)(h:J az w w'):qL w' c p:=by
 obtain⟨j,a,d,e⟩:=g;exact⟨j,a,λl g=>(d l g).ay h<|λ_ _ k=>k,e⟩
def qL.other(k:qL a b p)(l:J X a f)(j:∀n,X n->∃c T d,a.heap[n]?=M (aw c T d)/\T≠293/\T≠347/\T≠5):qL f b p:=by
 obtain⟨m,e,g,h⟩:=k;exact⟨m,e,λo k=>Th.other (g o k) l j,h⟩
def qL.base{c base':R}(h:qL a c i)(g:base'<=c):qL a base' i:=by
 obtain⟨j,d,e,f⟩:=h;exact⟨j,d,λp h=>(e p h).base g,f⟩
def Gf{a:cD NT}{q:NT}(h:a.Pairwise NT.np)(d:∀p∈a,p.np q):(a++[q]).Pairwise NT.np:=by
 rw[bR];exact⟨h,by simp,λe c f b=>by rw[bI]at b;subst b;exact d e c⟩
def GY(v:aa):∀(n:R)(a:dX)(i:R)(b:i<z a),(oD v n a)[i]?=M (zt v (n+z (a.take i).flatten)<|z a[i])
 |_,[],_,b=>absurd b<|gL _
 |n,p::a,0,_=>by simp[oD]
 |n,p::a,i+1,b=>by
  rw[oD,pA,GY v (n+z p) a i<|by simpa using b];simp[aY]
def Rs(i:ku a d e)(h:k.flatten=e)(g:b<z k)(c:k[b]≠[]):ku a (zt d (0+z (k.take b).flatten)<|z k[b]) k[b]:=by
 rw[cZ];refine AQ (s:=(k.drop<|b+1).flatten) i ?_ c;have f:k=k.take b++k[b]::k.drop (b+1):=by rw[<-bH g,ci]
 rw[<-h];refine(bW List.flatten f).trans ?_;rw[dQ,aX,aW]
def wi:(prog.info? 224).map (λi=>(i.zero,i.size,i.bytes))=M (M<|fA none,1,8):=by kernel_rfl
def Mo(l:cK):fX ⟨#[]⟩ l=l:=fh.2 (λx _=>by rw[Jp];rfl)
def vk(c:aa)(a b:cR):cD (aa×cK):=(.iface 105 c,cr b)::a.map (λt=>(.iface 224 t.ptr,t.all))
def rQ(d:eP)(a:Bool)(b c:cR):cK:=gO d a<|cr c::b.map bJ.all
def Wy(w:I)(x:aa)(T:TypeId):(cF w<|aw #[x] T).ownsRow (G<|H w) T 1 (bE (G<|H w) 0 1 1) 1 [x]:=⟨rfl,.inr ⟨G<|H w,1,#[x],rfl,ai _,aE _ rfl,ai _,by unfold maxLen;omega,rfl,rfl⟩⟩
structure Ke(W wr:I)(base:R)(o:aa)(ps:dX)(n:R)(tm:cR):Prop where
 own:wr.ownsRow base 224 1 o n (tm.map bJ.ptr)
 len:z tm=n
 all:tm.map bJ.all=ps.take n
 each:qL wr base tm
 ay:J az W wr
def Ke.step{W wr w1 w2:I}{p o2:aa}{f:dX}{a:R}{n:Obj}(u:Ke W wr b p k c i)(E:c<z k)(Q:b<=G (H W))(x:∀e,bY p=M e->G (H W)<=e)(h:Nd wr w1 g k[c] f l y P a)(F:w2.ownsRow b 224 1 o2 (c+1) (i.map bJ.ptr++[aA g]))(s:eY (cF w1 n) w2 p o2):∃t,Ke W w2 b o2 k (c+1) t/\∀e,bY o2=M e->G (H W)<=e:=by
 have K:=u.ay.size;have L:=h.ay.size;have A:J (λe=>bY p=M e) wr w2:=((h.ay.mono (T:=λe=>bY p=M e) cN).alloc n).trans (J.fH s)<|λ_ d=>.inl d;have m:∀e,bY p=M e->∃f,wr.heap[e]?=M (aw f 224 (0,0)):=λe d=>fK u.own d;have r:J (λe=>bY p=M e) w1 w2:=((J.refl (λe=>bY p=M e) w1).alloc n).trans (J.fH s)<|λ_ d=>.inl d;refine⟨i++[⟨g,bO 0 f,f,0⟩],⟨?_,by rw[af,u.len];rfl,?_,?_,u.ay.trans A<|λe d=>.inr<|x e d⟩,?_⟩;rw[aQ];exact F;rw[aQ,u.all,ak E];show _++[f.flatten]=_;rw[h.pieces.flat];obtain⟨O,C,v,D⟩:=u.each;have w:NT.Ok w1 (G<|H wr) ⟨⟨g,bO 0 f,f,0⟩,l,y,P,a⟩:=⟨rfl,rfl,by have:=h.pieces;rw[<-this.flat]at this;exact this,h.mem,h.data,h.Gq,h.new⟩;refine⟨O++[⟨⟨g,bO 0 f,f,0⟩,l,y,P,a⟩],by rw[aQ,C];rfl,λN j=>?_,Gf D<|λN j e d q=>?_⟩;rcases ap.1 j with j|j;exact Th.other (v N j) A (λe d=>by obtain⟨B,o⟩:=m e d;exact⟨B,_,_,o,by decide,by decide,by decide⟩);rw[bI]at j;subst j;refine Th.other (NT.Ok.base w<|by omega) r<|λe d=>?_;obtain⟨B,o⟩:=m e d;exact⟨B,_,_,(h.ay.block e (am o) id).trans o,by decide,by decide,by decide⟩;have o:=((v N j).lt e d).2;have B:=(w.lt e q).1;omega;intro e d;rcases s.uq with j|⟨q,j,o⟩;exact x e<|j.symm.trans d;rw[j]at d;cases d;simp at o;omega
def uD(h:ku a d e)(hs:dS e)(o:rm 5 e)(hg:∀bp∈e,bp.Good)(hl:z e<=1000000)(hv:∀P,bY d=M P->P<G (H a))(hT:Steps a):cA bG 135 #[d] a λbk L=>∃vm,∃l:cR,bk=aP vm/\L.ownsRow (G<|H a) 224 1 vm (z l) (l.map bJ.ptr)/\l.map bJ.all=gR e/\qL L (G<|H a) l/\J az a L:=by
 obtain⟨j0,au,bc,bd,bf⟩:=cL wi;have t:=QL h hs hl hv;obtain⟨bp,bh,bb⟩:=bS h
 have W:=Z (show∀n(x:n<z (gR e))(wr:I),J az a wr->∃O b j,(oD d 0<|gR e)[n]?=M (bE O b (z (gR e)[n]) j)/\cA bG 118 #[bE O b (z (gR e)[n]) j] wr λbk L=>∃i cs bi c db f,bk=aP (aA i)/\Nd wr L i (gR e)[n] cs bi c db f from by
  intro n x wr C;have B:(gR e)[n]∈gR e:=ar x;have k:=Eu e _ B;have y:=Rs h (vX e) x k;obtain⟨O,b,j,u,A⟩:=y.some<|gJ.2 k;have p:O<G (H a):=by
   obtain⟨E,Q,N,g,_⟩:=h.some (by have:=(Bx B).length_le;have:=gJ.2 k;omega);subst g;unfold zt at u;cases u;exact hv _ rfl
  rw[u]at y;refine⟨O,b,j,by rw[GY d 0 (gR e) n x,u],?_⟩;obtain⟨_,⟨q,_⟩|⟨b',F,m,q,_,hc⟩⟩:=id y
  .cases q
  .cases q;have g:=Bx B;exact DM (gR e)[n] O b j wr (λP hk=>C.cell (hT P hk) id hT.lt) (ag p C.size) (λi u c=>C.cell (hc i u c) id p) A (gJ.2 k) (λa f=>hg a (g.subset f)) (hs.sub g) (λq d=>aF ((o.sub g).keys q d) (by omega)) (by have:=g.length_le;omega))
 have an:z (gR e)<=1000000:=aF (xG e) hl;clear h hs o hg hl hv hT;generalize gR e=K at*;obtain⟨ad,hN⟩:∃ad,z K=ad:=⟨_,rfl⟩;rw[hN]at t an;have HN:=Z hN;clear hN;subst bb;go_in
 go_wp2_with fail
 apply t.mono;rintro bk W3⟨pv,rfl,r,s⟩;obtain⟨px,pc,rfl⟩:=aB r;have v:=Z r;have w:=Z s;have D:G (H a)<=G (H W3):=s.size;clear r s t;go_wp2;go_loopw [3,9] (λo i wr=>∃n:R,n<=ad/\i=aq n/\∃l,Ke W3 wr (G<|H a) o K n l/\∀P,bY o=M P->G (H W3)<=P) (λ_ i _=>ad-(intOf i).toNat)
 case atStart=>exact⟨0,bB _,rfl,[],⟨bN _ _ _ _,rfl,rfl,qL.nil _ _,J.refl _ _⟩,(by intro P hk;cases hk)⟩
 case round=>
  obtain⟨n,bl,rfl,l,g,j⟩:=hrel;obtain⟨ox,oc,ho⟩:=aB g.own;by_cases k:n<ad
  .obtain⟨pg,bo,ax,_,ba,_⟩:=uC v (by omega);cases ax;have A:n<z K:=by rw[ae HN];exact k
   obtain⟨O,b,m,C,y⟩:=W n A wr<|w.cw g.ay;have ao:aS wr (U pg n)=M (bE O b (z K[n]) m):=by
    refine g.ay.cell ?_ id ba;obtain⟨_,⟨bh,_⟩|⟨b',F,al,bh,_,hc⟩⟩:=dr v
    .cases bh
    .cases bh;simpa using hc n _ C
   have N:=Z g;have u:=Z j;have bn:=g.ay.size;have e8:(n:Y)<(ad:Y):=by omega
   have e9:(0:Y)<=(n:Y):=by omega
   clear g j C;generalize x:K[n]=pn at*;have X:=Z x;have S:=Z A;clear x;subst ho;go_wp2_with fail
   apply y.mono;rintro bk w4⟨i,cs,bi,c,db,f,rfl,p⟩;have T:=Z<|p.ay.own N.own<|λ_ _ bh=>bh;have bm:=p.ay.size;have Q:=Z p;clear p;go_wp2_with(first
    |(at_builtin;go_loud(refine bV _ rfl (.tmp 13) (.tmp 16) 105 rfl (G (H a)) 224 j0 (.pointer none) 1 8 underlying105 au bc bd bf rfl (by decide) (.slice ox n oc) n (l.map bJ.ptr) rfl (aU T _) (U (G (H w4)) 0) 1 1 [aA i] rfl rfl (pX _ _ _) (by simp[Value.oneCell']) (by omega) (by omega) (by simp;omega) ?_;intro o2 w5 B E;have V:=Z B;have ac:=Z E;clear B E)))
   go_roundw;case rel=>
    have p:=ae Q;rw[<-ae X]at p;obtain⟨bg,al,av⟩:=N.step S D u p V ac;exact⟨n+1,k,by go_num,bg,al,av⟩
   case measure=>simp[intOf];omega
  .have p:n=ad:=by omega
   subst p;have N:=Z g;clear g j;subst ho;go_wp2;go_ret;have g:=ae N;refine⟨_,l,rfl,by rw[g.len];exact g.own,?_,g.each,w.cw g.ay⟩;rw[g.all,<-ae HN,bP]
def EH(n x k y:R)(l:aa)(b c:cR)(h1:∀m(L:m<z b),aS a (U x<|k+m)=M b[m].ptr)(ac:x<n/\¬u.F x)(A:∀bg∈b,nZ u n bg.tb bg.ks bg.cs a)(bc:z b<=100000000)(h2:sC u n l c a)(hD:u.D a)(j:n<=G (H a))(hF:∀v,u.F v->v<n)(hl:z (cQ<|cr c::b.map bJ.all)<=1000000):cA bG 177 #[bE x k (z b) y,l] a λba r=>∃vm,ba=aP (dE #[vm,.nilIface])/\r.ownsRow (G<|H a) 164 4 vm (z<|cQ<|cr c::b.map bJ.all) (aH<|cQ<|cr c::b.map bJ.all)/\u.D r/\J u.F a r:=by
 obtain⟨i0,ad,au,av,ax⟩:=cL Jv;have p:z (vk l b c)=z b+1:=by simp[vk]
 have i:∀wr d,J az a wr->wr.ownsRow (G<|H a) 205 1 d (z b+1) ((vk l b c).map (·.1))->cA bG 85 #[d,aj ⟨#[]⟩] wr λba r=>∃k f,ba=aP k/\jm u n k (cQ<|cr c::b.map bJ.all) f r/\u.D r/\J u.F wr r/\(∀v,f v->G (H wr)<=v):=by
  intro wr d O t;have q:jL u n az a wr:=O.same j cN cN;have hn:=Bs n (vk l b c) d ⟨#[]⟩ (by rw[p];exact dr t) (λv s=>⟨(t.lt v s).2,λX=>by have:=hF v X;have:=(t.lt v s).1;omega⟩) (by omega) (by
   intro m L;cases m with
   |zero=>exact(mP.xN h2 j hF).same q
   |succ m=>
    have e:m<z b:=by rw[p]at L;omega
    have:(vk l b c)[m+1]=(.iface 224 b[m].ptr,b[m].all):=by simp[vk]
    rw[this];exact(mP.table (A _ (ar e)) j hF).same q) (u.fq hD O cN) (aF j O.size) hF
  have B:(vk l b c).map (·.2)=cr c::b.map bJ.all:=by simp[vk]
  rw[B,mu (g:=id)<|λl _=>Mo l,xh]at hn;exact hn
 obtain⟨NL,D⟩:∃NL,cQ (cr c::b.map bJ.all)=NL:=⟨_,rfl⟩;rw[D]at i hl|-;clear D;have w:=Z i;have HC:=Z (show∀wr,J az a wr->∀m(L:m<z b),aS wr (U x<|k+m)=M b[m].ptr fromλwr O m L=>O.cell (h1 m L) id<|ag ac.1 j);clear h1 A h2 hD i;go_in
 go_wp2;go_loopw [6,14] (λd m wr=>∃o:R,o<=z b/\m=aq o/\wr.ownsRow (G<|H a) 205 1 d (o+1) (((vk l b c).take<|o+1).map (·.1))/\J az a wr) (λ_ m _=>z b-(intOf m).toNat)
 case atStart=>exact⟨0,bB _,rfl,Wy _ _ _,(cI _ _)⟩
 case round=>
  obtain⟨o,hn,rfl,d,e⟩:=hrel;obtain⟨bi,X,t⟩:=aB d;have bb:=e.size;have ao:=d.lt;by_cases N:o<z b
  .have P:=HC wr e o N;have E:=Z (show((vk l b c).take<|o+1+1).map (·.1)=((vk l b c).take<|o+1).map (·.1)++[.iface 224<|aA<|b[o].tb]from by
    rw[ak (by rw[p];omega),aQ];simp[vk,bJ.ptr])
   have K:=Z d;have Q:=Z e;clear d e;unfold bJ.ptr at P;generalize b[o].tb=B at*;subst t;go_wp2_with(first
    |(at_builtin;go_loud(refine bV _ rfl (.tmp 18) (.tmp 21) 176 rfl (G (H a)) 205 i0 .nilIface 1 16 underlying176 ad au av ax rfl (by decide) (.slice bi (o+1) X) (o+1) (((vk l b c).take (o+1)).map (·.1)) rfl (aU K _) (U (G (H wr)) 0) 1 1 [.iface 224 (aA B)] rfl rfl (pX _ _ _) (by simp[Value.oneCell']) (by omega) (by omega) (by simp;omega) ?_;intro S w2 f q;have C:=Z f;have F:=Z q;clear f q)))
   go_roundw;case rel=>
    refine⟨o+1,N,by go_num,by rw[ae E];exact C,?_⟩;exact(Q.alloc _).trans (J.fH F)<|λv s=>.inr (ao v s).1
   case measure=>simp[intOf];omega
  .have al:o=z b:=by omega
   subst al;rw[da<|by omega]at d;have an:=w wr u6 e d;have Q:=Z e;clear d e;subst t;go_wp2_with fail
   apply an.mono;rintro ba w1⟨v1,S1,rfl,K,B,q,E⟩;have W:=Z<|Q.mono (T:=u.F) cN|>.trans q (λ_ X=>.inl X);have bf:=Q.size;have bd:=q.size;have F:=CO K B (by omega);have V:=Z E;clear q K B E;go_wp2_with fail
   apply F.mono;rintro ba w2⟨bh,rfl,f,C,P⟩;obtain⟨rx,rc,rfl⟩:=aB f;have S:=Z<|And.intro (eM (base':=G<|H a) f<|by omega) (And.intro C (W.trans P<|λv s=>s.elim (λX=>.inr (by have:=V v X;omega)) .inl));clear f C P F;go_wp2;go_ret2
   exact⟨_,rfl,S.1,S.2.1,S.2.2⟩
def RX(n:R)(w:I)(v:n<=1000000000):cA bG 171 #[aG,aq n] w λt r=>∃q,t=aP q/\r.ownsRow (G<|H w) 224 1 q 0 []/\J az w r:=by
 obtain⟨l,j,k,s,e⟩:=cL wi;have u:¬((n:Y)<0):=by omega
 rcases fY n with g|g;(.subst g;(go_in);go_wp2;go_ret;exact⟨_,rfl,bN _ _ _ _,J.refl _ _⟩)
 .have c:(Builtin.firstCells l.size 0 aG).run bG w.drew=.ok ([]:jd).toArray w.drew:=run_firstCells_none w.drew l.size 0 0 0;have d:∀m,(Builtin.append_ #[105,3] m #[aG,aq n]).run bG w=_:=λm=>
   Lib.run_append_grow_zeros w 105 3 m 224 l (fA none) .i64 .i64 underlying105 underlying3 j k none 0 0 [] c n g (by omega) (by omega) (by omega) (by rw[e];omega) (sL (by omega) (by rw[e];omega))
  simp only[cZ]at d;have i:n<=grownCap w n 0 224:=grownCap_ge w _ _ _;have b:=sM w n 0 224 (by unfold maxLen;omega);obtain⟨a,o⟩:∃a,a=grownCap w n 0 224:=⟨_,rfl⟩;rw[<-o]at d i b;have f:=Z<|show(cF w<|aw (Builtin.zeroCells #[fA none] n++Builtin.zeroCells #[fA none] (a-n)) 224).drew.ownsRow (G<|H w) 224 1 (bE (G<|H w) 0 0 a) 0 []from jk (World.ownsRow_made w _ a (ai _) b (by simp[size_zeroCells];omega)) rfl;have p:a<=9223372036854775807:=by unfold maxLen at b;omega
  clear c o b;go_in
  go_wp2_with(at_builtin;refine Lib.wpList_append_run _ rfl _ _ _ _ rfl _ _ rfl rfl _ _ (d _) ?_)
  go_ret;exact⟨_,rfl,f,(cI az w).of_heap rfl⟩
def qx(a:cD (aa×cR)):jd:=(a.map<|λp=>p.2.map bJ.ptr).flatten
def mG(a:cD (aa×cR)):R:=(a.map<|λp=>z p.2).sum
def Oc(a:cD (aa×cR))(p:aa×cR):qx (a++[p])=qx a++p.2.map bJ.ptr:=by simp[qx]
def GD(a:cD (aa×cR))(p:aa×cR):mG (a++[p])=mG a+z p.2:=by simp[mG]
def Bm(a:cD (aa×cR))(n:R):mG (a.take n)<=mG a:=by
 have h:=bW (λl=>(l.map (λp:aa×cR=>z p.2)).sum)<|ci n a;simp only[aQ,gw]at h;unfold mG;omega
def tH(L f v:R)(a:cD (aa×cR))(w:I)(hc:∀i(k:i<z a),aS w (U L<|f+i)=M a[i].1)(hb:L<G (H w))(hr:∀i(k:i<z a),Row w 1 a[i].1 (z a[i].2)<|a[i].2.map bJ.ptr)(D:∀i(k:i<z a),∀ax,bY a[i].1=M ax->ax<G (H w))(hn:z a<=1000000)(hs:mG a<=100000000):cA bG 117 #[bE L f (z a) v] w λbh w'=>∃v',bh=aP v'/\w'.ownsRow (G<|H w) 224 1 v' (mG a) (qx a)/\J az w w':=by
 obtain⟨i0,A,ao,au,av⟩:=cL wi;have HC:=Z (show∀wr,J az w wr->∀i(k:i<z a),aS wr (U L<|f+i)=M a[i].1 fromλwr ht i k=>ht.cell (hc i k) id hb);have HR:=Z (show∀wr,J az w wr->∀i(k:i<z a),Row wr 1 a[i].1 (z a[i].2) (a[i].2.map bJ.ptr)fromλwr ht i k=>ht.row (hr i k)<|λax hk=>⟨id,D i k ax hk⟩);clear hc hr D;go_in
 go_wp2;go_loopw [3,11] (λX i wr=>∃n:R,n<=z a/\i=aq n/\X=aq (mG (a.take n):R)/\wr=w) (λ_ i _=>z a-(intOf i).toNat)
 case atStart=>exact⟨0,bB _,rfl,rfl,rfl⟩
 case round=>
  obtain⟨n,bd,rfl,rfl,bf⟩:=hrel;subst wr;by_cases g:n<z a
  .have ac:=HC w (J.refl _ _) n g;have p:=HR w (J.refl _ _) n g;have q:=Bm a<|n+1;have d:=Z (show mG (a.take<|n+1)=mG (a.take n)+z a[n].2 by rw[ak g,GD]);rw[ae d]at q;generalize a[n].1=bl at*;generalize a[n].2=O at*;generalize mG (a.take n)=l at*;obtain⟨N,⟨rfl,x⟩|⟨bg,j,u,rfl,ad,m⟩⟩:=p
   .have b:=Z x;clear N x;go_wp2;go_roundw;case rel=>exact⟨n+1,g,by go_num,by rw[ae d,ae b,ju],trivial⟩
    case measure=>simp[intOf];omega
   .clear N m;have b:¬((l:Y)+(z O:Y)<0):=by omega
    go_wp2;go_roundw;case rel=>exact⟨n+1,g,by go_num,by rw[ae d];go_num,trivial⟩
    case measure=>simp[intOf];omega
  .have o:n=z a:=by omega
   subst o;rw[bP];have y:=RX (mG a) w (by omega);obtain⟨t,hM⟩:∃t,mG a=t:=⟨_,rfl⟩;rw[hM]at y hs|-;have P:=Z hM;clear hM;go_wp2_with fail
   apply y.mono;rintro bh w1⟨v1,rfl,B,E⟩;have Q:=Z B;have V:=Z E;clear B E;go_wp2;go_loopw [6,27] (λo i wr=>∃n:R,n<=z a/\i=aq n/\wr.ownsRow (G<|H w) 224 1 o (mG<|a.take n) (qx<|a.take n)/\J az w wr) (λ_ i _=>z a-(intOf i).toNat)
   case atStart=>exact⟨0,bB _,rfl,Q,V⟩
   case round=>
    obtain⟨n,ba,rfl,b,e⟩:=hrel;have al:=b.lt;have an:=e.size;have bb:=Bm a n;by_cases c:n<z a
    .have ac:=HC wr e n c;have p:=HR wr e n c;have q:=Bm a<|n+1;have d:=Z (show mG (a.take<|n+1)=mG (a.take n)+z a[n].2 by rw[ak c,GD]);have s:=Z (show qx (a.take<|n+1)=qx (a.take n)++a[n].2.map bJ.ptr by rw[ak c,Oc]);rw[ae d,ae P]at q;generalize a[n].1=bl at*;generalize a[n].2=O at*;generalize qx (a.take n)=pn at*;generalize mG (a.take n)=l at*;obtain⟨bc,X,ho⟩:=aB b;have r:=Z b;have K:=Z e;clear b e;subst ho;obtain⟨N,⟨rfl,x⟩|⟨bg,j,u,rfl,ad,m⟩⟩:=p
     .obtain rfl:=aR x;clear N x;have C:∀a,(Builtin.append_ #[105,105] a #[ah bc l X,aG]).run bG wr=.ok (ah bc l X) wr:=λa=>run_append_owned_none wr (G<|H w) 105 a 224 i0 1 underlying105 A (ah bc l X) l pn r;go_wp2_with(at_builtin;refine Lib.wpList_append_run _ rfl _ _ _ _ rfl _ _ rfl rfl _ _ (C _) ?_)
      go_roundw;case rel=>
       refine⟨n+1,c,by go_num,?_,K⟩;rw[ae d,ae s];simpa using ae r
      case measure=>simp[intOf];omega
     .go_wp2_with(first
       |(at_builtin;go_loud(refine bV _ rfl (.tmp 31) (.tmp 32) 105 rfl (G (H w)) 224 i0 (.pointer none) 1 8 underlying105 A ao au av rfl (by decide) (.slice bc l X) l pn rfl r (U bg j) (z O) u (O.map bJ.ptr) rfl (by simp) (λbk bi hj=>by rw[dB];exact m bk bi hj) (by intro bi hu;obtain⟨bm,_,rfl⟩:=bz.1 hu;rfl) (by omega) (by omega) an ?_;intro o2 w2 C F;have S:=Z C;have W:=Z F;clear C F)))
      go_roundw;case rel=>
       refine⟨n+1,c,by go_num,by rw[ae d,ae s];exact S,?_⟩;exact K.trans (J.fH W)<|λax hk=>.inr (al ax hk).1
      case measure=>simp[intOf];omega
    .have o:n=z a:=by omega
     subst o;rw[bP,ae P]at b;obtain⟨bc,X,ho⟩:=aB b;have r:=Z b;have K:=Z e;clear b e;subst ho;go_wp2;go_ret;exact⟨_,rfl,by rw[ae P];exact r,K⟩
structure Du(w:I)(lb lo:R)(Ls:cD (aa×cR)):Prop where
 len:z Ls=4
 cell:∀i(hi:i<z Ls),aS w (U lb<|lo+i)=M Ls[i].1
 row:∀i(hi:i<z Ls),Row w 1 Ls[i].1 (z Ls[i].2)<|Ls[i].2.map bJ.ptr
 pV:∀i(hi:i<z Ls),∀k,bY Ls[i].1=M k->k<G (H w)
 small:mG Ls<=100000000
def Du.lt{d:cD (aa×cR)}(h:Du a c g d):c<G (H a):=dj a (U c<|g+0)<|h.cell 0 (by have:=h.len;omega)
def sw{w:I}{lb lo:R}(a:cD (aa×cR))(h:Du w lb lo a):cA bG 138 #[fA<|M<|U lb lo] w λj w'=>∃e,j=aP e/\w'.ownsRow (G<|H w) 224 1 e (mG a) (qx a)/\J az w w':=by
 have b:=tH lb lo 4 a w h.cell h.lt h.row h.pV (by have:=h.len;omega) h.small;rw[h.len]at b;clear h;go_in
 go_wp2_with fail
 apply b.mono;rintro j k⟨i,rfl,c,d⟩;have f:=Z c;have g:=Z d;clear c d;go_wp2;go_ret;exact⟨i,rfl,f,g⟩
def kg(a:cD (aa×cR))(n:R):Bool:=(a.drop n).all<|λp=>p.2.isEmpty
def Fj{a:cD (aa×cR)}(h:b<z a):kg a b=(a[b].2.isEmpty&&kg a (b+1)):=by
 unfold kg;rw[bH h,ut]
def CC{w:I}{lb lo:R}(n:R)(d:cD (aa×cR))(h:Du w lb lo d)(T:n<=4):cA bG 178 #[fA<|M<|U lb lo,aq n] w λK F=>K=aP (aO<|kg d n)/\F=w:=by
 have f:=h.len;have E:=h.small;have v:=Z h.cell;have x:=Z h.row;clear h;rcases dK n 4 with B|B;(·(have L:(n:Y)<=4:=by omega);(have N:¬(4-n=0):=by omega);(have O:¬(4=n):=by omega);(have P:(0:Y)<=(n:Y):=by omega);(go_in);go_wp2;(go_loopw [12] (λu wr=>∃m:R,n+m<=4/\u=aq m/\kg d n=kg d (n+m)/\wr=w) (λu _=>4-n-(intOf u).toNat));(case atStart=>exact⟨0,by omega,rfl,rfl,rfl⟩);(case round=>obtain⟨m,S,rfl,e,r⟩:=hrel;subst wr;by_cases D:m<4-n;(·(have p:n+m<z d:=by omega);have o:=v (n+m) p;have q:=x (n+m) p;have b:=Fj p;rw[<-aY]at o;have HEq:=Z e;clear e;generalize d[n+m].1=ac at*;generalize d[n+m].2=k at*;(have A:(m:Y)<((4-n:R):Y):=by omega);obtain⟨l,⟨rfl,t⟩|⟨W,s,y,rfl,C,g⟩⟩:=q;(.obtain rfl:=aR t;have c:=Z b;clear l t b;go_wp2;go_roundw;(case rel=>exact⟨m+1,by omega,by go_num,by rw[ae HEq,ae c];rfl,trivial⟩);case measure=>simp[intOf];omega);(.rcases fY (z k)with j|j;(.obtain rfl:=aR j;have c:=Z b;clear l b g j;go_wp2;go_roundw;(case rel=>exact⟨m+1,by omega,by go_num,by rw[ae HEq,ae c];rfl,trivial⟩);case measure=>simp[intOf];omega);(have i:k.isEmpty=bF:=by cases k with|nil=>simp at j|cons V X=>rfl);rw[i,ql]at b;have c:=Z b;clear l b g i;(have Q:(0:Y)<(z k:Y):=by omega);go_wp2;go_ret;exact⟨by rw[ae HEq,ae c];rfl,rfl⟩));(have b:n+m=4:=by omega);(have a:kg d n=bX:=by rw[e,b,<-f];unfold kg;rw[gx];rfl);have c:=Z a;(have A:¬(m:Y)<((4-n:R):Y):=by omega);clear a e b;go_wp2;go_ret;exact⟨by rw[ae c];rfl,rfl⟩));(·(obtain rfl:n=4:=by omega);(have a:kg d 4=bX:=by rw[<-f];unfold kg;rw[gx];rfl);rw[a];(go_in);go_wp2;(go_loopw [12] (λu wr=>u=aq 0/\wr=w) (λ_ _=>0));(case atStart=>exact⟨rfl,rfl⟩);(case round=>obtain⟨rfl,r⟩:=hrel;subst wr;go_wp2;go_ret;exact⟨rfl,rfl⟩))
def VB(h:i.Sublist p):lK i<=lK p:=by
 induction h with
 |slnil=>exact ai _
 |cons x _ a=>unfold lK at*;simp only[aZ,iT];omega
 |cons_cons x _ a=>unfold lK at*;simp only[aZ,iT];omega
def Jk{w:I}(b c u:R){ts1 p:cR}(hi:u+1<4)(c1:aS w (U b<|c+u)=M d)(c2:aS w (U b<|c+(u+1))=M t)(F:b<G (H w))(Q:iX w d ts1)(h2:iX w t p)(hs:Bb p)(K:0<z ts1)(ba:lK p<=1000000000):cA bG 173 #[fA<|M<|U b c,aq u] w λs e=>∃ac:R,s=aP (aq ac)/\ac<z ts1/\Below (G<|H w) w e:=by
 rcases Q.shape with⟨_,h0⟩|⟨b1,bg,bf,rfl,_⟩;subst h0;simp at K;have bl:=Q.small;have e1:(u:Y)<4:=by omega
 have e2:(0:Y)<=(u:Y):=by omega
 obtain⟨al,an,HS,ad⟩:=gD Q h2 hs c2;clear Q h2 hs c2;go_in
 go_wp2;go_loopw [5,6,19] (λa le n wr=>∃ac bd k:R,ac<z ts1/\bd<=9223372036854775807/\k<=z ts1/\a=aq ac/\le=aq bd/\n=aq k/\Below (G<|H w) w wr) (λ_ _ n _=>z ts1-(intOf n).toNat)
 case atStart=>exact⟨0,9223372036854775807,0,K,ai _,bB _,rfl,rfl,rfl,Below.refl _ _⟩
 case round=>
  obtain⟨ac,bd,k,hj,hm,hk,rfl,rfl,rfl,j⟩:=hrel;have HB:=Z j;by_cases a:k<z ts1
  .have f:=al.below j;have B:=an.below j;have hp:=f.cell a;have c2:aS wr (U b<|c+(u+1))=M t:=(j.cell (p:=(U b<|c+(u+1))) F).trans ad;have m:∀W,W.heap=wr.heap->cA bG 175 #[ts1[k].ptr] W λs e=>s=aP (aj<|jf ts1[k].ks)/\e=W:=λW i=>((f.each _<|ar a).of_heap i).first;have n:∀W,W.heap=wr.heap->cA bG 176 #[ts1[k].ptr] W λs e=>s=aP (aj<|jc ts1[k].ks)/\∃q,e=W.drewN q:=λW i=>((f.each _<|ar a).of_heap i).last;have hcut:∀W,W.heap=wr.heap->W.os=wr.os->W.tape=wr.tape->W.output=wr.output->cA bG 174 #[t,aj<|jf ts1[k].ks,aj<|jc ts1[k].ks] W λs e=>∃T O V,s=aP (dE #[T,O,V])/\(∃S,iX e O S/\lK S<=1000000000)/\Below (G<|H w) w e/\aS e (U b<|c+(u+1))=M t:=by
    intro W i ao au av;apply(Ma (jf ts1[k].ks) (jc ts1[k].ks) (B.of_heap i) HS).mono;rintro s e⟨bn,bm,T,O,V,rfl,_,_,bb,_,_,g⟩;have l:Below (G<|H w) w W:=j.of_heap (by rw[i,ao,au,av]);refine⟨T,O,V,rfl,⟨_,bb,aF (VB<|(nC _ _).trans<|kI _ _) ba⟩,l.trans<|g.mono l.size,?_⟩;exact(g.cell (p:=(U b<|c+(u+1)))<|ag F l.size).trans<|(cP (w:=wr)<|by rw[i]).trans c2
   clear j f B;unfold bJ.ptr at hp m n;generalize jf ts1[k].ks=s1 at*;generalize jc ts1[k].ks=s2 at*;generalize ts1[k].tb=bh at*;obtain⟨r,L⟩:∃r,u+1=r:=⟨_,rfl⟩;rw[L]at c2 hcut hi;have e3:(u:Y)+1=(r:Y):=by omega
   have e4:(r:Y)<4:=by omega
   have e5:(0:Y)<=(r:Y):=by omega
   have e6:IntKind.i64.wrap (r:Y)=(r:Y):=by rw[bQ];omega
   have e7:r<4:=by omega
   clear L;go_wp2_with fail
   rename_i QQ KK bi;go_region_held3(λa=>aS a (U b<|c+r)=M t) (first|assumption|go_keep) (first
    |(go_at_call 175;refine(m wr.drew rfl).mono ?_;rintro s X⟨rfl,bc⟩;subst X;have o:aS wr.drew (U b<|c+r)=M t:=c2)
    |(go_at_call 176;refine(n wr.drew rfl).mono ?_;rintro s X⟨rfl,q,bc⟩;subst X;have o:aS (wr.drew.drewN q) (U b<|c+r)=M t:=c2)
    |(go_at_call 174;refine(hcut (wr.drewN (1+q)) rfl rfl rfl rfl).mono ?_;rintro s X⟨T,O,V,rfl,N,D,o⟩;have y:=Z N;have x:=Z D;clear N D))
   obtain⟨S,A,ax⟩:=ae y;have E:=zN A ax;clear A y hcut m n o;generalize lK S=P at*;go_wp2_with fail
   apply E.mono;rintro s w2⟨rfl,C⟩;have v:=Z<|x.trans<|C.mono x.size;clear C E;by_cases bk:P<bd
   .have e8:(P:Y)<(bd:Y):=by omega
    go_wp2;go_roundw;case rel=>exact⟨k,P,k+1,a,by omega,a,rfl,rfl,by go_num,v⟩
    case measure=>simp[intOf];omega
   .have e8:¬(P:Y)<(bd:Y):=by omega
    go_wp2;go_roundw;case rel=>exact⟨ac,bd,k+1,hj,hm,a,rfl,rfl,by go_num,v⟩
    case measure=>simp[intOf];omega
  .have f:k=z ts1:=by omega
   subst f;clear j;go_wp2;go_ret;exact⟨ac,rfl,hj,HB⟩
section
open Go.Shelf
attribute [local go_sem] Oper.semAt_some
def bk(a:jd):R->cD (R×aa)
 |0=>[]
 |j+1=>(j,a.getD j .nilIface)::bk a j
def Xl(p:R×aa):Array aa:=#[aq p.1,p.2]
def JS(v:aa)(x:Option Addr)(n c:R)(a:v=ah x n c)(w:I):cA bG 196 #[v] w λe b=>e=aP (.func (.func 240) #[] #[aA<|G<|H w])/\b=cF w (aw #[v] 105):=by
 subst a;go_in
 go_wp2;go_ret;exact⟨rfl,rfl⟩
def Pu(E bf:R)(V:er a b d 105)(hr:Row a 1 d (z x) x)(n:∀p,bY d=M p->p<E)(X:E<=G (H a))(ax:z x<=1000000000):Is Xl AP E bf 240 #[aA b] (bk x<|z x) (λp=>p=b) a:=by
 intro lr bc Jx bb bd hs hD hJ w B ac hY;obtain⟨ba,ao,hv⟩:=bS hr;obtain⟨HB,HR,N,HS,HJ,Q,HY,O⟩:=Fc V hr n hs hJ w hY B;have au:aS bd (U b 0)=M d:=hs.cell (.inl rfl) V.cell;clear V hr n hs hJ w B ac hY hD;subst hv;refine rr func240 rfl trivial ?_ rfl;simp only[ntmps240,eZ,aC,cS,Nat.reduceAdd,Nat.reduceSub,eh,dZ,fa,eE,cJ,cC];gi_wp2;gi_loopw [3] (λi wr=>∃(j:R)(f:cD (R×aa))(t:fN),i=aq ((j:Y)-1)/\j<=z x/\bk x (z x)=f++bk x j/\bc f t wr/\(∀p,p=b->¬t p)/\jL AP E (λp=>p=b) a wr) (λi _=>(intOf i+1).toNat)
 case atStart=>exact⟨z x,[],bb,by go_num,ai _,rfl,HJ,Q,HS⟩
 case round=>
  obtain⟨j,f,t,rfl,hj,m,g,i,c⟩:=hrel;have av:aS wr (U b 0)=M (ah ba (z x) ao):=c.cell (.inl rfl) HB.cell;cases j with
  |zero=>
   have q:=Z g;have L:=Z m;clear g i c m;gi_wp2;refine vH (iY rfl _ _ _) rfl ?_;refine⟨⟨_,rfl⟩,.inl ⟨t,?_,trivial⟩⟩;have m:=ae L;rw[show bk x 0=[]from rfl,dO]at m;rw[m];exact q
  |succ j=>
   have ej:(((j+1:R):Y)-1)=(j:Y):=by omega
   rw[ej];have r:x.getD j .nilIface=x[j]:=by rw[sQ,aK hj];rfl
   have y:∃an e,ba=M (U an e)/\aS wr (U an<|e+j)=M x[j]:=by
    obtain⟨h1,⟨K,h0⟩|⟨al,s,F,K,W,T⟩⟩:=ae HR
    .omega
    .cases K;exact⟨al,s,rfl,c.cell (.inr ⟨N _ rfl,id⟩)<|T j _<|aK hj⟩
   obtain⟨an,e,D,y⟩:=y;have o:(f++[(j,x[j])])<+:bk x (z x):=⟨bk x j,by rw[m,show bk x (j+1)=(j,x.getD j .nilIface)::bk x j from rfl,r];simp⟩;have A:bk x (z x)=(f++[(j,x[j])])++bk x j:=by rw[m,show bk x (j+1)=(j,x.getD j .nilIface)::bk x j from rfl,r];simp
   have L:=Z A;obtain⟨fn,ad,C,body,hy,hR⟩:=HY f (j,x[j]) t wr o g trivial;unfold Xl at hy;simp only at hy;obtain⟨P,q,S⟩:=dI hR g c;have l:=Z i;clear g c i m A o hR r ej;generalize x[j]=xj at*;have e1:(j:Y)<(z x:Y):=by omega
   have e2:(0:Y)<=(j:Y):=by omega
   subst D;gi_wp2;refine⟨(λao=>(by cases ao)),P.mono ?_⟩;rintro bg W3(⟨rfl,_,B3,v,k,u⟩|⟨rfl,D⟩)
   .have K:=Z v;have T:=Z k;have F:=Z u;clear v k u;gi_wp2;go_roundw;case rel=>
     have k:=ae T;have c:=ae S;have W:b<G (H wr):=ag (am HB) c.1;refine⟨j,f++[(j,xj)],B3,by go_num,by omega,L,K,λp s al=>?_,?_⟩
     .rcases F p al with al|al
      .exact l p s al
      .subst s;omega
     .refine c.trans ?_;exact k.same (aF X c.1) (λp s=>⟨by subst s;exact W,l p s⟩) (λp s a=>by have:=(O _ _ _ q p s).1;omega)
    case measure=>simp[intOf]
   .have s:=Z D;clear D;gi_wp2;refine cO (iY rfl _ _ _) rfl ?_;exact⟨⟨_,rfl⟩,.inr ⟨_,s⟩⟩
end
def th(b:eP)(a:Bool)(c:dX):(gO b a c).Sublist (dV b<|cQ c):=by
 unfold gO;split;exact kO _;exact eF _
def tj{ms:eP}{lowest:Bool}(c:dS (cQ k))(d:∀x∈cQ k,x.Good)(e:z (cQ k)<=1000000)(g:z ms<=4):dS (gO ms lowest k)/\rm 5 (gO ms lowest k)/\(∀x∈gO ms lowest k,x.Good)/\z (gO ms lowest k)<=1000000:=by
 have b:=th ms lowest k;have a:=b.trans<|jy ms<|cQ k;exact⟨c.sub a,((yt c).sub b).mono (by omega),λx f=>d x<|a.subset f,aF a.length_le e⟩
def He{V:jr}{W:I}{ms:eP}{mx:Option Addr}{mc:R}(b:cK)(s:Row W 1 (ah mx (z ms) mc) (z ms) (ms.map<|Value.int .u64))(d:∀k,bY (ah mx (z ms) mc)=M k->k<G (H W)/\¬V.F k)(t:z ms<=4)(p:dS b)(o:z b<=1000000):(∀(e:I)(a:R)(m:Option Addr)(j:R),J V.F W e->e.ownsRow a 164 4 (ah m (z b) j) (z b) (aH b)->cA bG 49 #[ah m (z b) j,ah mx (z ms) mc] e λr h=>∃g,r=aP g/\h.ownsRow (G<|H e) 164 4 g (z<|dV ms b) (aH<|dV ms b)/\J az e h)/\(∀(i:I)(a:R)(n:Option Addr)(l:R),i.ownsRow a 164 4 (ah n (z<|dV ms b) l) (z<|dV ms b) (aH<|dV ms b)->cA bG 136 #[ah n (z<|dV ms b) l] i λr h=>∃g,r=aP g/\h.ownsRow (G<|H i) 164 4 g (z<|iw<|dV ms b) (aH<|iw<|dV ms b)/\J az i h):=by
 constructor;intro e a m j q f;exact wa ms (dr f) p o (q.row s<|λk c=>⟨(d k c).2,(d k c).1⟩) (by omega) (λk c=>(f.lt k c).2)<|λk c=>ag (d k c).1 q.size;intro i a n l f;exact MP (dr f) (p.sub<|jy ms b) (aF (jy ms b).length_le o)<|λk c=>(f.lt k c).2
section
open Go.Shelf
attribute [local go_sem] Oper.semAt_some
structure RB(w0:I)(vs:jd)(B:fN)(W:I):Prop where
 row:∃v,er W (G<|H w0) v 176/\W.ownsRow (G (H w0)+1) 205 1 v (z vs) vs/\(∀k,B k↔k=G (H w0)\/bY v=M k)
 ay:J az w0 W
def RB.lt(i:RB a x X B):∀k,X k->G (H a)<=k/\k<G (H B):=by
 intro k h;obtain⟨v,d,e,g⟩:=i.row;rcases(g k).1 h with c|c;subst c;exact⟨ai _,am d⟩;have:=e.lt k c;exact⟨by omega,this.2⟩
def RB.stays{T:fN}(j:RB a x X f)(e:J T f B)(c:∀k,T k->¬X k/\G (H a)<=k):RB a x X B:=by
 obtain⟨v,g,i,b⟩:=j.row;exact⟨⟨v,(e.block _ (am g)<|λh=>(c _ h).1<|(b _).2<|.inl rfl).trans g,e.own i<|λk d h=>(c k h).1<|(b k).2<|.inr d,b⟩,j.ay.trans e<|λk d=>.inr (c k d).2⟩
def RB.more{d:jd}{v c x:aa}{A:Obj}(y:RB a d X f)(r:er f (G<|H a) v 176)(l:∀k,X k↔k=G (H a)\/bY v=M k)(w:f.ownsRow (G (H a)+1) 205 1 v (z d) d)(s:eY (cF f A) B v c)(e:B.ownsRow (G (H a)+1) 205 1 c (z d+1) (d++[x])):∃o,RB a (d++[x]) o (ct B (U (G<|H a) 0) c)/\J X f (ct B (U (G<|H a) 0) c)/\(∀k,o k->X k\/G (H f)<=k):=by
 have n:∀k,bY v=M k->G (H a)+1<=k/\k<G (H f):=λk b=>w.lt k b;have h:∀k,bY c=M k->G (H a)+1<=k:=λk b=>(e.lt k b).1;have q:J (λk=>bY v=M k) f B:=((J.refl (λk=>bY v=M k) f).alloc A).trans (J.dR (S:=λk=>bY v=M k) s.grown<|λk b=>.inl b)<|λk b=>.inl b;have m:er B (G<|H a) v 176:=(q.block _ (am r) (λj=>by have:=(n _ j).1;omega)).trans r;have g:J X f (ct B (U (G<|H a) 0) c):=(q.mono (T:=X)<|λk b=>.inl<|(l k).2<|.inr b).setCell _ _ _<|.inl<|(l _).2<|.inl rfl;refine⟨λk=>k=G (H a)\/bY c=M k,⟨⟨c,m.set _,?_,λk=>ru⟩,?_⟩,g,?_⟩;rw[show z (d++[x])=z d+1 by simp];exact e.kept (df B _ _ _) (by right;intro j;have:=h _ j;omega);exact y.ay.trans g<|λk b=>.inr (y.lt k b).1;rintro k(j|j);exact .inl<|(l k).2<|.inl j;rcases s.uq with t|⟨C,t,u⟩;exact .inl<|(l k).2<|.inr<|t.symm.trans j;rw[t]at j;cases j;simp at u;exact .inr<|by omega
def NJ(t:bJ):aa:=.iface 224 t.ptr
def FX(p:aa×cR):aa:=.iface 105 p.1
end
def zy{c:Func}{D O:Tmp}(Q:c.results=#[.cell D 107,.tmp O])(a:Array aa)(w:I)(g:R)(e f h i:aa)(N:TypeId)(d:R×R)(r:a.getD D iE=aA g)(p:w.heap[g]?=M (aw #[e,f,h,i] N d))(j:∃x n k,e=ah x n k)(l:∃x n k,f=ah x n k)(m:∃x n k,h=ah x n k)(o:∃x n k,i=ah x n k):(results c a).run bG w=.ok (dE #[eB #[e,f,h,i],a.getD O iE]) w:=by
 obtain⟨E,y,s,rfl⟩:=j;obtain⟨F,A,t,rfl⟩:=l;obtain⟨K,B,u,rfl⟩:=m;obtain⟨L,C,v,rfl⟩:=o;have b:a[D]?.getD iE=aA g:=by simpa using r
 have q:=lO (P:=bG) w g N 107 #[ah E y s,ah F A t,ah K B u,ah L C v] d _ p underlying107 rfl (by kernel_rfl);simp[results,Q,b,asAddr,q,Result.andThen]
def Ji{e f g h a' b' c' d':aa}{t:TypeId}{c:R×R}(j:a.heap[b]?=M (aw #[e,f,g,h] t c)):(ct (ct (ct (ct a (U b 0) a') (U b 1) b') (U b 2) c') (U b 3) d').heap[b]?=M (aw #[a',b',c',d'] t c):=by
 have d:=aT (i:=3) (u:=d')<|aT (i:=2) (u:=c')<|aT (i:=1) (u:=b')<|aT (i:=0) (u:=a') j;rw[d];simp
def SM(X j g:R)(x1 y A:Option Addr)(n1 w x c1 c2 c3:R)(d:cR)(S V:cR)(ch:Row a 1 (bE X j (z d) g) (z d) (d.map bJ.ptr))(al:X<b/\¬u.F X)(cM:∀ex∈d,nZ u b ex.tb ex.ks ex.cs a)(h1:sC u b (ah x1 n1 c1) i a)(ec:Row a 1 (ah y w c2) (z S) (S.map bJ.ptr))(ed:Row a 1 (ah A x c3) (z V) (V.map bJ.ptr))(bT:∀k,bY (ah y w c2)=M k->k<b/\¬u.F k)(ca:∀k,bY (ah A x c3)=M k->k<b/\¬u.F k)(hD:u.D a)(o:b<=G (H a))(hF:∀k,u.F k->k<b)(hT:Steps a)(dm:1<b/\¬u.F 1)(bo:z d+z i+z S+z V<=1000000)(s:eP)(mx:Option Addr)(mc:R)(hm:Row a 1 (ah mx (z s) mc) (z s) (s.map<|Value.int .u64))(bl:∀k,bY (ah mx (z s) mc)=M k->k<b/\¬u.F k)(dT:z s<=4)(c:Bool)(bq:c=(S.isEmpty&&V.isEmpty))(hs:dS (cQ<|cr i::d.map bJ.all))(hg:∀fn∈cQ (cr i::d.map bJ.all),fn.Good)(hl:z (cQ<|cr i::d.map bJ.all)<=1000000):cA bG 119 #[eB #[bE X j (z d) g,ah x1 n1 c1,ah y w c2,ah A x c3],aq 0,ah mx (z s) mc] a λC L=>∃F bs B,∃e:cR,C=aP (dE #[eB #[aG,ah F bs B,ah y w c2,ah A x c3],.nilIface])/\L.ownsRow (G<|H a) 224 1 (ah F bs B) (z e) (e.map bJ.ptr)/\e.map bJ.all=gR (rQ s c d i)/\qL L (G<|H a) e/\u.D L/\J u.F a L:=by
 have hW:J az a (cF (cF a<|aw #[bE X j (z d) g,ah x1 n1 c1,ah y w c2,ah A x c3] 107)<|aw #[aG,aG,aG,aG] 107):=(cI _ a).alloc _;generalize bk:cF (cF a<|aw #[bE X j (z d) g,ah x1 n1 c1,ah y w c2,ah A x c3] 107) (aw #[aG,aG,aG,aG] 107)=bx at hW;have bi:bx.heap[G<|H a]?=M (aw #[bE X j (z d) g,ah x1 n1 c1,ah y w c2,ah A x c3] 107 (0,0)):=by rw[<-bk];exact(ga _<|by simp).trans<|aE _ rfl
 have cT:bx.heap[G (H a)+1]?=M (aw #[aG,aG,aG,aG] 107 (0,0)):=by rw[<-bk];exact aE _<|by simp
 have ax:∀t,J az a t->jL u b az a t:=λt ht=>ht.same o cN cN;have ce:∀k,b<=k->¬u.F k:=λk n cE=>by have:=hF k cE;omega
 have dx:∀t,J u.F bx t->Du t (G<|H a) 0 [(bE X j (z d) g,d),(ah x1 n1 c1,i),(ah y w c2,S),(ah A x c3,V)]:=by
  intro t ao;have K:∀cm c,Row a 1 cm (z c) (c.map bJ.ptr)->(∀k,bY cm=M k->k<b/\¬u.F k)->Row t 1 cm (z c) (c.map bJ.ptr):=λcm c hr n=>
   ao.row (hW.row hr<|λk C=>⟨id,ag (n k C).1 o⟩) (λk C=>⟨(n k C).2,ag (n k C).1<|aF o hW.size⟩)
  have hz:G (H a)<=G (H t):=aF hW.size ao.size;have cj:=(ao.block _ (am bi)<|ce _ o).trans bi;have f:∀Q cm,(#[bE X j (z d) g,ah x1 n1 c1,ah y w c2,ah A x c3]:Array aa)[Q]?=M cm->aS t (U (G<|H a)<|0+Q)=M cm:=by
   intro Q cm hv;rw[bL cj,cZ];exact hv
  refine⟨rfl,λQ O=>?_,λQ O=>?_,λQ O k n=>?_,by simp[mG];omega⟩
  .match Q,O with
   |0,_=>exact f 0 _ rfl
   |1,_=>exact f 1 _ rfl
   |2,_=>exact f 2 _ rfl
   |3,_=>exact f 3 _ rfl
  .match Q,O with
   |0,_=>exact K _ _ ch (λk C=>by cases C;exact al)
   |1,_=>exact K _ _ h1.row<|λk C=>h1.loc k C
   |2,_=>exact K _ _ ec bT
   |3,_=>exact K _ _ ed ca
  .match Q,O with
   |0,_=>cases n;exact ag al.1<|aF o hz
   |1,_=>exact ag (h1.loc k n).1<|aF o hz
   |2,_=>exact ag (bT k n).1<|aF o hz
   |3,_=>exact ag (ca k n).1<|aF o hz
 have D:∀t,J u.F bx t->cA bG 178 #[aA<|G<|H a,aq 2] t λC L=>C=aP (aO c)/\L=t:=by intro t ao;have h:=CC (w:=t) (lb:=G<|H a) (lo:=0) 2 _ (dx _ ao) (by omega);(have K:kg [(bE X j (z d) g,d),(ah x1 n1 c1,i),(ah y w c2,S),(ah A x c3,V)] 2=c:=by rw[bq];simp[kg]);rw[K]at h;exact h
 have au:∀q,cA bG 177 #[bE X j (z d) g,ah x1 n1 c1] (bx.drewN q) λC L=>∃c,C=aP (dE #[c,.nilIface])/\L.ownsRow (G<|H bx) 164 4 c (z<|cQ<|cr i::d.map bJ.all) (aH<|cQ<|cr i::d.map bJ.all)/\u.D L/\J u.F (bx.drewN q) L:=by intro q;have K:J az a (bx.drewN q):=hW.of_heap rfl;have bo:=ax _ K;refine EH b X j g (ah x1 n1 c1) d i ?_ al (λex ht=>(cM ex ht).same bo) (by omega) (h1.same bo) (u.fq hD K cN) (aF o K.size) hF hl;intro Q O;obtain⟨_,⟨cE,_⟩|⟨b',ev,cj,cE,_,hc⟩⟩:=ch.same bo (λk C=>by cases C;exact al);cases cE;cases cE;refine hc Q _ ?_;rw[dD,aK O];rfl
 have db:=He (V:=u) (W:=bx) (ms:=s) (mx:=mx) (mc:=mc) (cQ<|cr i::d.map bJ.all) (hW.row hm<|λk C=>⟨id,ag (bl k C).1 o⟩) (λk C=>⟨ag (bl k C).1<|aF o hW.size,(bl k C).2⟩) dT hs hl;have dd:∀t,J u.F bx t->Steps t:=λt ht k n=>ht.cell (hW.cell (hT k n) id hT.lt) dm.2<|ag hT.lt hW.size;have dk:dS (rQ s c d i)/\rm 5 (rQ s c d i)/\(∀fn∈rQ s c d i,fn.Good)/\z (rQ s c d i)<=1000000:=tj hs hg hl dT;obtain⟨cn,co,bt,ei,bb,cu,ad,HW,bv⟩:=xS bi cT D au db dd dk hW ce;have eq:∀e:cR,e.map bJ.all=gR (rQ s c d i)->z e<=100000000:=by intro e h;have:=bW z h;rw[cV]at this;have:=xG<|rQ s c d i;omega
 have el:=Z bk;have fk:=hW.size;have ea:rQ s c d i=if c then iw (dV s<|cQ<|cr i::d.map bJ.all)else dV s (cQ<|cr i::d.map bJ.all):=rfl;have bd:=Z ea;clear ch al cM h1 ec ed bT ca hD hF hT dm bq hg hl hs hm bl bi cT ax dx D au db dd dk hW ce bk ea;generalize cQ (cr i::d.map bJ.all)=ML at*;generalize rQ s c d i=cB at*;go_in
 go_wp2_with fail
 go_quiet(fail)
 rw[ae el];have au:=ei nq;go_wp2_with fail
 apply au.mono;rintro C W⟨et,rfl,v,an,P⟩;have l:J u.F bx W:=(gX u.F bx nq).trans P<|λ_ h=>.inl h;obtain⟨r,p,rfl⟩:=aB v;have eb:=bb.1 W _ r p l v;have ac:=Z an;have bg:=Z l;clear v an P l au;go_wp2_with fail
 apply eb.mono;rintro C w2⟨vn,rfl,bn,ck⟩;have ba:J u.F bx w2:=bg.cw ck;have dc:=u.fq ac ck cN;obtain⟨xn,eu,rfl⟩:=aB bn;have D:=bt w2 ba;have cc:=bb.2 w2 _ xn eu bn;have ee:=bg.size;obtain⟨bc,N,bu⟩:=dI dc ba bn;clear bn dc ba ck eb;cases c;(case' false=>obtain rfl:cB=dV s ML:=ae bd;clear cc bb bd;(go_wp2_with fail);apply D.mono;rintro C cl⟨rfl,es⟩;subst cl;clear D;obtain⟨bf,bh,cp⟩:=dI (eM (base':=G<|H a) bu<|by omega) N bc;clear N bc bu bg ac bt;generalize w2=w3 at*);(case' true=>obtain rfl:cB=iw (dV s ML):=ae bd;(go_wp2_with fail);apply D.mono;rintro C cl⟨rfl,es⟩;subst cl;(go_wp2_with fail);apply cc.mono;rintro C w3⟨vb,rfl,K,cj⟩;obtain⟨xn,eu,rfl⟩:=aB K;obtain⟨bf,bh,cp⟩:=dI (eM (base':=G<|H a) K (by have:=N.size;omega)) (N.cw cj)<|u.fq bc cj cN;clear K cj D cc N bc bu bg ac bt bb bd ee)
 all_goals
  have en:=uD (dr bf) ad.1 ad.2.1 ad.2.2.1 ad.2.2.2 (λk n=>(bf.lt k n).2)<|cu w3 bh;clear bf cu ad;go_wp2_with fail
  apply en.mono;rintro C W⟨et,e,rfl,v,cb,bm,P⟩;have l:J u.F bx W:=bh.cw P;have an:=u.fq cp P cN;have ff:=bh.size;obtain⟨r,p,rfl⟩:=aB v;have dn:=(l.block _ (am cn)<|bv _ o).trans cn;have ds:=(l.block _ (am co)<|bv _<|by omega).trans co;have fe:=l.size;have bm:=bm.base (base':=G<|H a) (by omega);have hC:cA bG 117 #[bE (G<|H W) 0 3 3] (cF W<|aw #[aG,ah r (z e) p,aG] 105) λC L=>∃v',C=aP v'/\L.ownsRow (G<|H a) 224 1 v' (z e) (e.map bJ.ptr)/\J az W L:=by
   have f:∀Q cm,(#[ah none 0 0,ah r (z e) p,aG]:Array aa)[Q]?=M cm->aS (cF W<|aw #[aG,ah r (z e) p,aG] 105) (U (G<|H W)<|0+Q)=M cm:=by
    intro Q cm hv;rw[bL<|aE _ rfl,cZ];exact hv
   have eo:Row (cF W<|aw #[aG,ah r (z e) p,aG] 105) 1 (ah r (z e) p) (z e) (e.map bJ.ptr):=dr<|aU v _;have h:=tH (G<|H W) 0 3 [(ah none 0 0,[]),(ah r (z e) p,e),(ah none 0 0,[])] (cF W<|aw #[aG,ah r (z e) p,aG] 105) ?_ (by simp) ?_ ?_ (by simp) (by simp[mG];exact eq e cb)
   .have e1:mG [(ah none 0 0,[]),(ah r (z e) p,e),(ah none 0 0,[])]=z e:=by simp[mG]
    have e2:qx [(ah none 0 0,[]),(ah r (z e) p,e),(ah none 0 0,[])]=e.map bJ.ptr:=by simp[qx]
    rw[e1,e2]at h;apply h.mono;rintro C L⟨v',rfl,ho,ht⟩;exact⟨v',rfl,eM ho (by simp;omega),(cI az W).cw ht⟩
   .intro Q O;match Q,O with
    |0,_=>exact f 0 _ rfl
    |1,_=>exact f 1 _ rfl
    |2,_=>exact f 2 _ rfl
   .intro Q O;match Q,O with
    |0,_=>exact⟨rfl,.inl ⟨rfl,rfl⟩⟩
    |1,_=>exact eo
    |2,_=>exact⟨rfl,.inl ⟨rfl,rfl⟩⟩
   .intro Q O k n;match Q,O with
    |0,_=>cases n
    |1,_=>have:=(aI v k n).2;simp;omega
    |2,_=>cases n
  obtain⟨ej,ac,ek,eg,cv,cx⟩:=kD bm an l cb dn ds;clear v cb bm an P l dn ds;go_wp2_with fail
  apply hC.mono;rintro C w2⟨fl,rfl,av,E⟩;obtain⟨F,B,rfl⟩:=aB av;have AI:=(E.block _ (am cv) id).trans cv;have m:=(E.block _ (am cx) id).trans cx;have p0:=cellAt AI 0 rfl;have p1:=cellAt AI 1 rfl;have p2:=cellAt AI 2 rfl;have p3:=cellAt AI 3 rfl;have f0:=dW (i:=0) AI;have f1:=dW (i:=1) AI;have q0:=cellAt m 0 rfl;have q1:=cellAt m 1 rfl;have q2:=cellAt m 2 rfl;have q3:=cellAt m 3 rfl;have g0:=dW (i:=0) m;have g1:=dW (i:=1) m;have g2:=dW (i:=2) m;have g3:=dW (i:=3) m;obtain⟨fb,N,ey⟩:=dI av E m;have cs:=Z (show∀wf,wf=ct (ct (ct (ct (ct (ct w2 (U (G<|H a) 0) aG) (U (G<|H a) 1)<|ah F (z e) B) (U (G (H a)+1) 0) aG) (U (G (H a)+1) 1)<|ah F (z e) B) (U (G (H a)+1) 2)<|ah y w c2) (U (G (H a)+1) 3) (ah A x c3)->wf.heap[G (H a)+1]?=M (aw #[aG,ah F (z e) B,ah y w c2,ah A x c3] 107 (0,0))/\wf.ownsRow (G<|H a) 224 1 (ah F (z e) B) (z e) (e.map bJ.ptr)/\qL wf (G<|H a) e/\u.D wf/\J u.F a wf from by
   rintro wf rfl;have hx:((ct (ct w2 (U (G<|H a) 0) aG) (U (G<|H a) 1)<|ah F (z e) B)).heap[G (H a)+1]?=M (aw #[aG,aG,aG,aG] 107 (0,0)):=(iC _<|by omega).trans<|(iC _<|by omega).trans m;have bp:J (λk=>k=G (H a)\/k=G (H a)+1) w2 (ct (ct (ct (ct (ct (ct w2 (U (G<|H a) 0) aG) (U (G<|H a) 1)<|ah F (z e) B) (U (G (H a)+1) 0) aG) (U (G (H a)+1) 1)<|ah F (z e) B) (U (G (H a)+1) 2)<|ah y w c2) (U (G (H a)+1) 3)<|ah A x c3):=((((((J.refl _ w2).setCell _ 0 _<|.inl<|.inl rfl).setCell _ 1 _<|.inl<|.inl rfl).setCell _ 0 _<|.inl<|.inr rfl).setCell _ 1 _<|.inl<|.inr rfl).setCell _ 2 _<|.inl<|.inr rfl).setCell _ 3 _<|.inl<|.inr rfl;have em:=Ji (a':=aG) (b':=ah F (z e) B) (c':=ah y w c2) (d':=ah A x c3) hx;generalize ct (ct (ct (ct (ct (ct w2 (U (G<|H a) 0) aG) (U (G<|H a) 1)<|ah F (z e) B) (U (G (H a)+1) 0) aG) (U (G (H a)+1) 1)<|ah F (z e) B) (U (G (H a)+1) 2)<|ah y w c2) (U (G (H a)+1) 3) (ah A x c3)=wf at*;have br:∀k,(k=G (H a)\/k=G (H a)+1)->∃ef,w2.heap[k]?=M (aw ef 107 (0,0)):=by
    rintro k(rfl|rfl)
    .exact⟨_,AI⟩
    .exact⟨_,m⟩
   refine⟨em,bp.own av<|λk n cE=>?_,?_,u.fq (u.fq ac E cN) bp<|λk n=>bv k (by rcases n with cE|cE<;>omega),?_⟩
   .obtain⟨ef,cd⟩:=br k cE;obtain⟨fd,dv⟩:=fK av n;exact iA cd dv (by decide) rfl
   .refine((ej.ay E).other bp<|λk n=>?_).base (by omega);obtain⟨ef,cd⟩:=br k n;exact⟨ef,_,_,cd,by decide,by decide,by decide⟩
   .exact(((HW.mono (T:=u.F) cN).trans ek (λ_ h=>.inl h)).cw E).trans bp (λk n=>.inr (by rcases n with cE|cE<;>omega)))
  clear av E AI m hC;go_wp2;obtain⟨r1,r2,r3,r4,r5⟩:=cs _ rfl;refine cO (zy rfl _ _ (G (H a)+1) aG (ah F (z e) B) (ah y w c2) (ah A x c3) _ _ rfl r1 ⟨_,_,_,rfl⟩ ⟨_,_,_,rfl⟩ ⟨_,_,_,rfl⟩ ⟨_,_,_,rfl⟩) rfl ?_;exact⟨F,z e,B,e,rfl,r2,eg,r3,r4,r5⟩
def nY{us ts:cR}(h:us.Sublist ts):(cr us).Sublist (cr ts):=by
 induction h with
 |slnil=>exact eF _
 |cons x _ a=>rw[yO];exact a.trans<|gl _ _
 |cons_cons x _ a=>rw[yO,yO];exact List.Sublist.append (eF _) a
def kR.sub(h:kR p)(a:i.Sublist p):kR i:=⟨λt b=>h.pure t<|a.subset b,h.mr.sub<|nY a,h.Dh.sublist<|a.map _⟩
def UE(j:iX a (bE b c (z i) g) i)(d:z i<=g)(f:l<=z i):iX a (ah (if g=l then M (U b c)else M (U b<|c+l)) (z i-l)<|g-l) (i.drop l):=by
 by_cases h:g=l;(have e:z i=l:=by omega);rw[dt h,<-e,gx,zY,show g-z i=0 by omega];exact j.empty c;rw[dh h];exact j.drop l f
def Xc{w1:I}{ta tbqq:cR}(a:R)(h:iX w1 d ta)(j:iX w1 t tbqq)(s:z ta+z tbqq<=10000000)(u:a<=G (H w1))(T:TypeId):cA bG 117 #[bE (G<|H w1) 0 2 2] ((cF w1<|aw #[d,t] T).drew) λq k=>∃g,q=aP g/\k.ownsRow a 224 1 g (z<|ta++tbqq) ((ta++tbqq).map bJ.ptr)/\J az w1 k:=by
 have c:J az w1 ((cF w1<|aw #[d,t] T).drew):=(cI _ w1).of_heap rfl;have b:∀i v,(#[d,t]:Array aa)[i]?=M v->aS ((cF w1<|aw #[d,t] T).drew) (U (G<|H w1)<|0+i)=M v:=by intro i v m;rw[bD,bL<|aE _ rfl,cZ];exact m
 have r:=tH (G<|H w1) 0 2 [(d,ta),(t,tbqq)] ((cF w1<|aw #[d,t] T).drew) ?_ (by simp) ?_ ?_ (by simp) (by simp[mG];omega);(have m:mG [(d,ta),(t,tbqq)]=z (ta++tbqq):=by simp[mG]);(have n:qx [(d,ta),(t,tbqq)]=(ta++tbqq).map bJ.ptr:=by simp[qx]);rw[m,n]at r;apply r.mono;rintro q k⟨g,rfl,o,p⟩;exact⟨g,rfl,eM o (by simp;omega),c.cw p⟩
 .intro i f;match i,f with
  |0,_=>exact b 0 _ rfl
  |1,_=>exact b 1 _ rfl
 .intro i f;match i,f with
  |0,_=>exact c.row h.row<|λl e=>⟨id,h.lt l e⟩
  |1,_=>exact c.row j.row<|λl e=>⟨id,j.lt l e⟩
 .intro i f l e;match i,f with
  |0,_=>have:=h.lt l e;simp;omega
  |1,_=>have:=j.lt l e;simp;omega
def Xb(f b g:cR)(e:R)(u:Row a 1 d (z f) (f.map bJ.ptr))(j:∀k,bY d=M k->k<G (H a))(v:Row a 1 t (z b) (b.map bJ.ptr))(l:∀k,bY t=M k->k<G (H a))(w:Row a 1 L (z g) (g.map bJ.ptr))(m:∀k,bY L=M k->k<G (H a))(C:z f+z b+z g<=10000000)(D:e<=G (H a))(T:TypeId):cA bG 117 #[bE (G<|H a) 0 3 3] (cF a<|aw #[d,t,L] T) λA q=>∃p,A=aP p/\q.ownsRow e 224 1 p (z<|f++b++g) ((f++b++g).map bJ.ptr)/\J az a q:=by
 have i:J az a (cF a<|aw #[d,t,L] T):=(cI _ a);have c:∀o s,(#[d,t,L]:Array aa)[o]?=M s->aS (cF a<|aw #[d,t,L] T) (U (G<|H a)<|0+o)=M s:=by intro o s r;rw[bL<|aE _ rfl,cZ];exact r
 have B:=tH (G<|H a) 0 3 [(d,f),(t,b),(L,g)] (cF a<|aw #[d,t,L] T) ?_ (by simp) ?_ ?_ (by simp) (by simp[mG];omega);(have r:mG [(d,f),(t,b),(L,g)]=z (f++b++g):=by simp[mG]);(have s:qx [(d,f),(t,b),(L,g)]=(f++b++g).map bJ.ptr:=by simp[qx]);rw[r,s]at B;apply B.mono;rintro A q⟨p,rfl,x,y⟩;exact⟨p,rfl,eM x (by simp;omega),i.cw y⟩
 .intro o n;match o,n with
  |0,_=>exact c 0 _ rfl
  |1,_=>exact c 1 _ rfl
  |2,_=>exact c 2 _ rfl
 .intro o n;match o,n with
  |0,_=>exact i.row u<|λk h=>⟨id,j k h⟩
  |1,_=>exact i.row v<|λk h=>⟨id,l k h⟩
  |2,_=>exact i.row w<|λk h=>⟨id,m k h⟩
 .intro o n k h;match o,n with
  |0,_=>have:=j k h;simp;omega
  |1,_=>have:=l k h;simp;omega
  |2,_=>have:=m k h;simp;omega
section
open Go.Shelf
attribute [local go_sem] Oper.semAt_some
def VG(a:cR):∀j,j<=z a->(bk (a.map bJ.ptr) j).map (λp=>Value.iface 224 p.2)=((a.take j).map NJ).reverse
 |0,_=>by simp[bk]
 |j+1,h=>by
  have b:j<z a:=h;rw[bk,aZ,VG a j (by omega),ak b,aQ,List.reverse_append];simp only[aZ,fi,tV,List.reverse_nil,cJ,jU,nj,sN];rw[sQ,dD,aK b];rfl
def pG(a b c d:aa×cR):jd:=((a.2.map NJ).reverse)++[FX b]++[FX c]++[FX d]
def Ox{w:I}{lb lo:R}(p0 p1 p2 p3:aa×cR)(h:Du w lb lo [p0,p1,p2,p3]):cA bG 134 #[fA<|M<|U lb lo] w λey w'=>∃v',ey=aP v'/\w'.ownsRow (G<|H w) 205 1 v' (z<|pG p0 p1 p2 p3) (pG p0 p1 p2 p3)/\J az w w':=by
 obtain⟨i0,bu,bv,bx,bq⟩:=cL Jv;obtain⟨v0,e⟩:=p0;obtain⟨v1,q⟩:=p1;obtain⟨v2,r⟩:=p2;obtain⟨v3,s⟩:=p3;have c0:aS w (U lb lo)=M v0:=h.cell 0 (by simp);have c1:aS w (U lb<|lo+1)=M v1:=h.cell 1 (by simp);have c2:aS w (U lb<|lo+2)=M v2:=h.cell 2 (by simp);have c3:aS w (U lb<|lo+3)=M v3:=h.cell 3 (by simp);have cl:Row w 1 v0 (z e) (e.map bJ.ptr):=h.row 0 (by simp);have dk:∀bc,bY v0=M bc->bc<G (H w):=h.pV 0 (by simp);obtain⟨x0,au,rfl⟩:=bS cl;obtain⟨x1,F,rfl⟩:∃ce ao,v1=ah ce (z q) ao:=bS (h.row 1<|by simp);obtain⟨x2,K,rfl⟩:∃ce ao,v2=ah ce (z r) ao:=bS (h.row 2<|by simp);obtain⟨x3,L,rfl⟩:∃ce ao,v3=ah ce (z s) ao:=bS (h.row 3<|by simp);have el:z e<=100000000:=by have:=h.small;simp[mG]at this;omega
 have ck:=h.lt;obtain⟨cj,ee,ef,ei,co⟩:=jX c1 c2 c3 cl dk;clear h cl dk c1 c2 c3;refine(di (n:=3)).1 ?_;refine callsIn_of_wp_marks func134 rfl trivial ?_ rfl;simp only[ntmps134,eZ,aC,cS,Nat.reduceAdd,Nat.reduceSub,eh,dZ,fa,eE,cJ,cC];gi_wp2;refine wpIn_loop_rounds 5 ?_;rw[roundsIn_succ];gi_wp2;rename_i QQ KK x;apply Gn KK;(.intro ax;refine sE.2 ?_;(go_region);all_goals exact ax);apply x;clear x;have ek:=λec=>JS (ah x0 (z e) au) x0 (z e) au rfl ec;gi_wp2_with(refine⟨trivial,?_⟩;gi_at_call 196;refine(di.2<|ek _).mono ?_;rintro ey w1⟨rfl,rfl⟩)
 have e1:G (H (cF (cF w<|aw #[aG] 176)<|aw #[ah x0 (z e) au] 105).drew)=G (H w)+2:=by simp
 obtain⟨W0,bd⟩:∃W0,(cF (cF w<|aw #[aG] 176)<|aw #[ah x0 (z e) au] 105).drew=W0:=⟨_,rfl⟩;rw[bd]at e1;have bp:J az w W0:=by rw[<-bd];exact((cI az w).alloc _).of_heap rfl
 have dm:er W0 (G (H w)+1) (ah x0 (z e) au) 105:=by rw[<-bd];exact aE (w:=cF w<|aw #[aG] 176) _<|by simp
 have dn:er W0 (G<|H w) aG 176:=by rw[<-bd];exact er.alloc (w:=cF w<|aw #[aG] 176) (aE (w:=w) _ rfl) _
 have cd:Row W0 1 (ah x0 (z e) au) (z<|e.map bJ.ptr) (e.map bJ.ptr):=by rw[cV];exact bp.row ei<|λbc P=>⟨id,co bc P⟩
 have db:RB w [] (λbc=>bc=G (H w)) W0:=⟨⟨aG,dn,bN _ _ _ _,λbc=>by simp[bY]⟩,bp⟩;rw[bd];refine nT (α:=R×aa) (arg:=Xl) (m:=3) (V:=AP) (n0:=G<|H w) (gf:=240) (lb:=#[aA<|G (H w)+1]) (l:=bk (e.map bJ.ptr)<|z<|e.map bJ.ptr) (S:=λbc=>bc=G (H w)+1) ?geval (enters_of func240 (by kernel_rfl) rfl) (λ_=>rfl) (Pu (G<|H w) 2 dm cd co bp.size (by simp;omega)) trivial bp.size ?slt (λba ed ec=>RB w (ba.map<|λem=>Value.iface 224 em.2) ed ec) (λ_ _ _ _=>False) (λbc=>bc=G (H w)) db ?sb ?lt ?st (λ_ _ _ _ _ _ h=>h.elim) ?body ?done ?stop;case geval=>rfl
 (case slt=>rintro bc ao;omega);(case sb=>rintro bc ao es;omega);(case lt=>intro ba ed ec h bc P;exact h.lt bc P);(case st=>intro ba ed ec u T h t o;refine h.stays t<|λbc P=>⟨(o bc P).1,?_⟩;rcases(o bc P).2 with ao|ao|ao;omega;exact ao.elim;omega);(case stop=>intro ch ao ba ed ec _ h;exact h.elim)
 case body=>
  intro lr ba ce ed ec bm Q bb t hC _;obtain⟨xi,W⟩:=ce;obtain⟨B,u⟩:∃B,ba.map (λem=>Value.iface 224 em.2)=B:=⟨_,rfl⟩;have T:z B<=100000000:=by
   have:=t.length_le;rw[<-u];simp only[cV,af,aC,cS]at this|-;have hb:∀(a:jd)bi,z (bk a bi)=bi:=λa bi=>by induction bi with|zero=>rfl|succ bi ih=>simp[bk,ih]
   rw[hb]at this;omega
  rw[u]at hC;obtain⟨HC,ac,al⟩:=dI hC u t;clear hC t u;obtain⟨NN,v⟩:∃NN,z B=NN:=⟨_,rfl⟩;have i:=Z v;unfold Xl;simp only;gi_wp2;refine⟨J.refl _ _,λW2 o=>?_⟩;have g:RB w B ed W2:=HC.stays o (λbc P=>by subst P;exact⟨Q,by omega⟩);obtain⟨eb,k,b,j⟩:=g.row;rw[v]at b;have av:aS W2 (U (G<|H w) 0)=M eb:=k.cell;have bf:W2.frozen? (U (G<|H w) 0)=bF:=k.free;obtain⟨ex,an,N⟩:=aB b;have E:=am k;have bl:NN<=100000000:=by omega
  obtain⟨cj,O,f,p,X⟩:=jX g k b j o;clear g k b j o T v;subst N;gi_wp2_with(first
   |(gi_at_builtin;refine ez _ rfl (.tmp 27) (.tmp 30) 176 rfl (G (H w)+1) 205 i0 .nilIface 1 16 underlying176 bu bv bx bq rfl (by decide) (.slice ex NN an) NN B rfl (aU f (.cells #[Value.iface 224 W] 205)) (U (G (H W2)) 0) 1 1 [Value.iface 224 W] rfl rfl (vD _ _ _) (Um rfl) (by omega) (by omega) (by simp;omega) ?_;intro cn w3 a d;obtain⟨bh,bg,rfl⟩:=aB a;have c:er w3 (G (H w)) (.slice ex NN an) 176:=(d.grown.block _ (am (O.alloc (.cells #[Value.iface 224 W] 205))) (λao=>by have:=(f.lt _ ao.symm).1;omega)).trans (O.alloc _);have C:=c.cell;have D:=c.free;clear c;have y:=Z a;have A:=Z d;clear a d))
  obtain⟨B',q1,q2,q3⟩:=cj.more (x:=Value.iface 224 W) O p (by rw[ae i];exact f) A (by rw[ae i];exact y);have o:=ae X;have bq:=o.size;have ad:J (λbc=>ed bc\/bc=lr) ec W2:=o.mono<|λbc P=>.inl<|.inr P;refine⟨trivial,B',?_,ad.trans q2<|λbc P=>.inl<|.inl P,q2.block lr (by omega) Q,λbc P=>?_⟩
  .show RB w ((ba++[(xi,W)]).map<|λem=>Value.iface 224 em.2) B' _;rw[aQ,ae ac];exact q1
  .rcases q3 bc P with ao|ao
   .exact .inl ao
   .exact .inr<|by omega
 case done=>
  intro ch B1 W1 ev hC bm _ hK;have dT:(bk (e.map bJ.ptr)<|z<|e.map bJ.ptr).map (λem=>Value.iface 224 em.2)=(e.map NJ).reverse:=by
   rw[cV,VG e _<|ai _,bP]
  rw[dT]at hC;obtain⟨T,W⟩:∃NN,z (e.map NJ).reverse=NN:=⟨_,rfl⟩;have dc:T<=100000000:=by rw[<-W];simpa using el
  have t:(e.map NJ).reverse++[FX (ah x1 (z q) F,q)]++[FX (ah x2 (z r) K,r)]++[FX (ah x3 (z s) L,s)]=pG (ah x0 (z e) au,e) (ah x1 (z q) F,q) (ah x2 (z r) K,r) (ah x3 (z s) L,s):=rfl;unfold FX at t;simp only at t;generalize(e.map NJ).reverse=br at hC W t;have B:=Z hC;have o:=Z hK;clear hC hK dT;clear bd dm dn cd db bp;gi_wp2;rw[roundsIn_succ];have ds:aS W1 (U lb<|lo+1)=M (ah x1 (z q) F):=B.ay.cell cj id ck;gi_wp2;rename_i QQ KK x;apply Gn KK
  .intro ax;refine sE.2 ?_;go_region
   all_goals exact ax
  apply x;clear x ds;have g:RB w br B1 W1.drew:=B.stays (cg az W1) cN;have u:W1.drew.heap[ch]?=M (.deferred<|M []):=ae o;generalize W1.drew=U1 at g u|-;clear B o;obtain⟨eb,k,b,j⟩:=g.row;rw[W]at b;have av:aS U1 (U (G<|H w) 0)=M eb:=k.cell;have bf:U1.frozen? (U (G<|H w) 0)=bF:=k.free;obtain⟨cB,cu,N⟩:=aB b;have E:=am k;obtain⟨O,f,p,B,bb,i⟩:=kD k b j g u W;clear k b j g u W;subst N;gi_wp2_with(first
   |(gi_at_builtin;refine ez _ rfl (.tmp 18) (.tmp 21) 176 rfl (G (H w)+1) 205 i0 .nilIface 1 16 underlying176 bu bv bx bq rfl (by decide) (.slice cB T cu) T br rfl (aU f (.cells #[Value.iface 105 (.slice x1 (z q) F)] 205)) (U (G (H U1)) 0) 1 1 [Value.iface 105 (.slice x1 (z q) F)] rfl rfl (vD _ _ _) (Um rfl) (by omega) (by omega) (by simp;omega) ?_;intro cn w3 a d;obtain⟨bh,bg,rfl⟩:=aB a;have c:er w3 (G (H w)) (.slice cB T cu) 176:=(d.grown.block _ (am (O.alloc (.cells #[Value.iface 105 (.slice x1 (z q) F)] 205))) (λao=>by have:=(f.lt _ ao.symm).1;omega)).trans (O.alloc _);have C:=c.cell;have D:=c.free;clear c;have y:=Z a;have A:=Z d;clear a d))
  obtain⟨B2,q1,q2,q3⟩:=B.more (x:=Value.iface 105<|ah x1 (z q) F) O p (by rw[ae i];exact f) A (by rw[ae i];exact y);have bn:¬B2 ch:=λao=>(q3 ch ao).elim bm (λes=>by have:=am bb;omega);have v:=(q2.block ch (am bb) bm).trans bb;generalize ct w3 (U (G<|H w) 0) (ah bh (T+1) bg)=W2 at q1 v|-;have X:z (br++[Value.iface 105<|ah x1 (z q) F])=T+1:=by rw[af,ae i];rfl
  generalize br++[Value.iface 105<|ah x1 (z q) F]=bs at q1 X t;have bi:=Z q1;have cp:=Z v;have cb:T+1<=100000000+1:=by omega
  clear q1 q2 q3 v O f p B bb i A y bm E dc C D;clear av bf;obtain⟨al,ad⟩:∃ce,T+1=ce:=⟨_,rfl⟩;rw[ad]at X cb;clear ad;rw[roundsIn_succ];have dv:aS W2 (U lb<|lo+2)=M (ah x2 (z r) K):=bi.ay.cell ee id ck;gi_wp2;rename_i QQ KK x;apply Gn KK
  .intro ax;refine sE.2 ?_;go_region
   all_goals exact ax
  apply x;clear x dv;have g:RB w bs B2 W2.drew:=bi.stays (cg az W2) cN;have u:W2.drew.heap[ch]?=M (.deferred<|M []):=ae cp;generalize W2.drew=U2 at g u|-;clear bi cp;obtain⟨eb,k,b,j⟩:=g.row;rw[X]at b;have av:aS U2 (U (G<|H w) 0)=M eb:=k.cell;have bf:U2.frozen? (U (G<|H w) 0)=bF:=k.free;obtain⟨cE,cv,N⟩:=aB b;have E:=am k;obtain⟨O,f,p,Q,o,i⟩:=kD k b j g u X;clear k b j g u X;subst N;gi_wp2_with(first
   |(gi_at_builtin;refine ez _ rfl (.tmp 18) (.tmp 21) 176 rfl (G (H w)+1) 205 i0 .nilIface 1 16 underlying176 bu bv bx bq rfl (by decide) (.slice cE al cv) al bs rfl (aU f (.cells #[Value.iface 105 (.slice x2 (z r) K)] 205)) (U (G (H U2)) 0) 1 1 [Value.iface 105 (.slice x2 (z r) K)] rfl rfl (vD _ _ _) (Um rfl) (by omega) (by omega) (by simp;omega) ?_;intro cn w3 a d;obtain⟨bh,bg,rfl⟩:=aB a;have c:er w3 (G (H w)) (.slice cE al cv) 176:=(d.grown.block _ (am (O.alloc (.cells #[Value.iface 105 (.slice x2 (z r) K)] 205))) (λao=>by have:=(f.lt _ ao.symm).1;omega)).trans (O.alloc _);have C:=c.cell;have D:=c.free;clear c;have y:=Z a;have A:=Z d;clear a d))
  obtain⟨B3,q1,q2,q3⟩:=Q.more (x:=Value.iface 105<|ah x2 (z r) K) O p (by rw[ae i];exact f) A (by rw[ae i];exact y);have bo:¬B3 ch:=λao=>(q3 ch ao).elim bn (λes=>by have:=am o;omega);have v:=(q2.block ch (am o) bn).trans o;generalize ct w3 (U (G<|H w) 0) (ah bh (al+1) bg)=W3 at q1 v|-;have ac:z (bs++[Value.iface 105<|ah x2 (z r) K])=al+1:=by rw[af,ae i];rfl
  generalize bs++[Value.iface 105<|ah x2 (z r) K]=bt at q1 ac t;have bl:=Z q1;have cs:=Z v;have cc:al+1<=100000000+2:=by omega
  clear q1 q2 q3 v O f p Q o i A y bn E cb C D;clear av bf;obtain⟨an,ad⟩:∃ce,al+1=ce:=⟨_,rfl⟩;rw[ad]at ac cc;clear ad;rw[roundsIn_succ];have dx:aS W3 (U lb<|lo+3)=M (ah x3 (z s) L):=bl.ay.cell ef id ck;gi_wp2;rename_i QQ KK x;apply Gn KK
  .intro ax;refine sE.2 ?_;go_region
   all_goals exact ax
  apply x;clear x dx;have g:RB w bt B3 W3.drew:=bl.stays (cg az W3) cN;have u:W3.drew.heap[ch]?=M (.deferred<|M []):=ae cs;generalize W3.drew=U3 at g u|-;clear bl cs;obtain⟨eb,k,b,j⟩:=g.row;rw[ac]at b;have av:aS U3 (U (G<|H w) 0)=M eb:=k.cell;have bf:U3.frozen? (U (G<|H w) 0)=bF:=k.free;obtain⟨cM,cx,N⟩:=aB b;have E:=am k;obtain⟨O,f,p,Q,o,i⟩:=kD k b j g u ac;clear k b j g u ac;subst N;gi_wp2_with(first
   |(gi_at_builtin;refine ez _ rfl (.tmp 18) (.tmp 21) 176 rfl (G (H w)+1) 205 i0 .nilIface 1 16 underlying176 bu bv bx bq rfl (by decide) (.slice cM an cx) an bt rfl (aU f (.cells #[Value.iface 105 (.slice x3 (z s) L)] 205)) (U (G (H U3)) 0) 1 1 [Value.iface 105 (.slice x3 (z s) L)] rfl rfl (vD _ _ _) (Um rfl) (by omega) (by omega) (by simp;omega) ?_;intro cn w3 a d;obtain⟨bh,bg,rfl⟩:=aB a;have c:er w3 (G (H w)) (.slice cM an cx) 176:=(d.grown.block _ (am (O.alloc (.cells #[Value.iface 105 (.slice x3 (z s) L)] 205))) (λao=>by have:=(f.lt _ ao.symm).1;omega)).trans (O.alloc _);have C:=c.cell;have D:=c.free;clear c;have y:=Z a;have A:=Z d;clear a d))
  obtain⟨B4,q1,q2,q3⟩:=Q.more (x:=Value.iface 105<|ah x3 (z s) L) O p (by rw[ae i];exact f) A (by rw[ae i];exact y);have cT:¬B4 ch:=λao=>(q3 ch ao).elim bo (λes=>by have:=am o;omega);have v:=(q2.block ch (am o) bo).trans o;generalize ct w3 (U (G<|H w) 0) (ah bh (an+1) bg)=W4 at q1 v|-;have ca:z (bt++[Value.iface 105<|ah x3 (z s) L])=an+1:=by rw[af,ae i];rfl
  generalize bt++[Value.iface 105<|ah x3 (z s) L]=eo at q1 ca t;have bT:=Z q1;have eg:=Z v;have dd:an+1<=100000000+3:=by omega
  clear q1 q2 q3 v O f p Q o i A y bo E cc C D;clear av bf;obtain⟨en,ad⟩:∃ce,an+1=ce:=⟨_,rfl⟩;rw[ad]at ca dd;clear ad;rw[roundsIn_succ];obtain⟨eb,k,b,j⟩:=bT.row;have av:aS W4 (U (G<|H w) 0)=M eb:=k.cell;obtain⟨eu,et,N⟩:=aB b;have f:=Z b;have p:=Z j;subst N;clear k b j;gi_wp2;have ea:=gH W4 ch<|.deferred none;refine⟨by simp,.inl ⟨_,_,rfl,run_takeDeferred eg,?_⟩⟩;refine⟨_,gy rfl _ _ _,?_⟩;have b:=ae f;have hB:=ae p;rw[t]at b hB;have hx:=ea.own b<|λbc P ao=>cT<|(hB ch).2<|.inr (by rw[<-ao];exact P);refine⟨_,rfl,?_,bT.ay.trans ea<|λbc P=>.inr (by subst P;omega)⟩;obtain⟨h1,⟨h2,h0⟩|⟨ex,eq,ej,h2,hb,cm⟩⟩:=hx
  .exact⟨h1,.inl ⟨h2,h0⟩⟩
  .exact⟨h1,.inr ⟨ex,eq,ej,h2,by omega,cm⟩⟩
end
def Du.ay{w w':I}{d:cD (aa×cR)}{S:fN}(h:Du w c g d)(j:J S w w')(l:¬S c)(m:∀i(a:i<z d),∀k,bY d[i].1=M k->¬S k):Du w' c g d:=⟨h.len,λi a=>j.cell (h.cell i a) l h.lt,λi a=>j.row (h.row i a)<|λk e=>⟨m i a k e,h.pV i a k e⟩,λi a k e=>ag (h.pV i a k e) j.size,h.small⟩
def pK{f:Addr}(n:a.ownsRow b c 1 (ah (M f) g l) g x):∀k u,x[k]?=M u->aS a (f.add k)=M u:=by
 intro k u d;obtain⟨o,⟨e,_⟩|⟨t,m,h,e,p,i,r,q,s,j⟩⟩:=n;cases e;cases e;rw[dB,bL i,cZ];rw[<-j,mW]at d;split at d;simpa using d;cases d
def xD(a:aa)(b c d e:aa×cR):jd:=.iface 102 a::pG b c d e
def Ea(r s t u:aa×cR)(h:bM a c n m)(g:Option Addr)(f e:R)(N:n.memory=ah g f e)(hl:Du a c 10 [r,s,t,u]):cA bG 86 #[aA c] a λbb w'=>∃v',bb=aP v'/\w'.ownsRow (G<|H a) 205 1 v' (z (pG r s t u)+1) (xD n.memory r s t u)/\J az a w':=by
 obtain⟨i0,ac,ad,al,an⟩:=cL Jv;have y:=bM.cellAt h 7 rfl;have p:=am h;have o:=Z<|λW(Q:J az a W)=>Ox (w:=W) (lb:=c) (lo:=10) r s t u<|hl.ay Q id<|λ_ _ _ _=>id;have K:z (pG r s t u)<=100000003/\1<=z (pG r s t u):=by have:=hl.small;simp[pG,mG]at this|-;omega
 have O:∀l∈pG r s t u,l.oneCell'=bX:=by intro l d;simp only[pG,ap,jh,bz,bI]at d;rcases d with((⟨q,_,rfl⟩|rfl)|rfl)|rfl<;>rfl
 obtain⟨ao,hn⟩:∃ao,z (pG r s t u)=ao:=⟨_,rfl⟩;rw[hn]at K;unfold xD;rw[N]at y|-;generalize bc:pG r s t u=VS at*;clear h hl N;go_in
 go_wp2_with fail
 rename_i QQ KK E;refine cz (λx=>aS x (U c 7)=M (ah g f e)) 11 (by kernel_rfl) ?_;have C:aS a.drew (U c 7)=M (ah g f e):=y;refine cY 0 ?_;iterate 5 (refine eJ (v:=?_) C rfl (by kernel_rfl) iV rfl ?_ ?_;rotate_left;(focus(intro x hX;go_simp;try rfl));simp only[Act.put,dG,Nat.reduceAdd])
 apply eA;refine cY 6 ?_;iterate 3 (refine eJ (v:=?_) C rfl (by kernel_rfl) iV rfl ?_ ?_;rotate_left;(focus(intro x hX;go_simp;try rfl));simp only[Act.put,dG,Nat.reduceAdd])
 apply eA;have w:∀(W:I)(b:R),W.heap[b]?=M (aw #[.iface 102<|ah g f e] 205 (0,0))->G (H a)<=b->W.ownsRow (G<|H a) 205 1 (bE b 0 1 1) 1 [.iface 102<|ah g f e]:=by intro W b hb d;exact⟨rfl,.inr ⟨b,1,#[.iface 102<|ah g f e],rfl,d,hb,ai _,by unfold maxLen;omega,rfl,rfl⟩⟩
 refine ua (α:=R×aa) (λT W=>J az a W/\W.heap[T.1]?=M (aw #[.iface 102<|ah g f e] 205 (0,0))/\G (H a)<=T.1/\W.ownsRow (G<|H a) 205 1 T.2 ao VS/\bY T.2≠M T.1) (λT=>{tmps:=#[aA c,iE,aG,aA c,aA c,fA<|M<|U c 7,ah g f e,.iface 102<|ah g f e,bE T.1 0 1 1,aA c,aA c,fA<|M<|U c 10,T.2,iE],defers:=[]}) #[true,true,true,true,true,true,true,true,true,true,false,false] 2 ?_ ?_;(.intro P;refine sX (i:=5) (j:=9) rfl rfl rfl rfl (by kernel_rfl) ?_ ?_;(.intro au X;go_simp;have A:J az a (cF a<|aw #[.iface 102<|ah g f e] 205).drew:=(cI az a).of_heap rfl;have F:(cF a<|aw #[.iface 102<|ah g f e] 205).drew.heap[G<|H a]?=M (aw #[.iface 102<|ah g f e] 205 (0,0)):=aE (w:=a) _ rfl;refine X _ _ (λ_=>A.cell y id p) ?_;refine aM (i:=9) rfl rfl (by kernel_rfl) ?_;intro K2 k;go_simp;apply(o _ A).mono;rintro bb S⟨v1,rfl,d,q⟩;have V:=(q.block _ (am F) id).trans F;have l:=A.cw q;refine k _ _ (λ_=>l.cell y id p) ?_;have L:=λm a=>(d.lt m a).1;simp at L;refine km (P (G<|H a,v1) S ⟨l,V,ai _,?_,?_⟩) (by kernel_rfl);rw[hn]at d;obtain⟨q1,⟨q2,q0⟩|⟨bf,cp,D,q2,qb,B⟩⟩:=d;exact⟨q1,.inl ⟨q2,q0⟩⟩;exact⟨q1,.inr ⟨bf,cp,D,q2,by simp at qb;omega,B⟩⟩;intro ax;have:=L _ ax;omega);intro au X;go_simp;apply(o _<|cg _ a).mono;rintro bb S⟨v1,rfl,d,q⟩;have l:J az a S:=(cg az a).cw q;refine X _ _ (λ_=>l.cell y id p) ?_;refine aM (i:=5) rfl rfl (by kernel_rfl) ?_;intro K2 k;go_simp;have A:=l.alloc<|aw #[.iface 102<|ah g f e] 205;refine k _ _ (λ_=>A.cell y id p) ?_;refine km (P (G<|H S,v1) _ ⟨A,aE _ rfl,l.size,?_,?_⟩) (by kernel_rfl);rw[hn]at d;exact aU d _;intro ax;have:=(d.lt _ ax).2;omega);rintro⟨b,au⟩W⟨Q,hb,L,P,bd⟩;have B:=w W b hb L;(obtain⟨av,d,rfl⟩:∃a ax,au=ah (M a) ao ax:=by rcases P.2 with⟨_,h0⟩|⟨bf,ba,D,h2,_⟩;omega;exact⟨_,_,h2⟩);refine aM (i:=10) rfl rfl (by kernel_rfl) ?_;intro K2 k;simp only[cy,bU,cf];refine kL (.tmp 8) (.tmp 12) 176 rfl (G<|H a) 205 i0 .nilIface 1 16 underlying176 ac ad al an rfl (by decide) (bE b 0 1 1) 1 [.iface 102<|ah g f e] rfl B av ao d VS rfl P.1 ?_ O (by omega) (by omega) Q.size ?_;exact pK P;intro v3 w3 q F;obtain⟨x3,c3,X⟩:=aB q;subst X;have l:J az a w3:=Q.trans (fy F.grown) (by rintro m rfl;exact .inr L);refine k _ _ (λ_=>l.cell y id p) ?_;simp only[Act.put,dG];refine aM (i:=11) rfl rfl (by kernel_rfl) ?_;intro K3 A;go_simp;refine A _ _ wH ?_;refine cX (by kernel_rfl) ?_ _;show KK _ _;apply E;have S:=Z q;have V:=Z l;clear E k A q F l B P w;go_wp2;go_ret;refine⟨_,rfl,?_,V⟩;rw[show ao+1=1+ao from vI _ _];exact S
def Fl{hR:Array aa}{lc:cD (aa×cR)}{em:aa->aa->Array aa}(dm e j:R)(V xa xd:Option Addr)(ge hN na ds nd dv:R)(bv bc:cR)(h1:sC u c (bE dm e (z i) j) i a)(hx:z i<=j)(kn:0<z i)(h2:sC u c (ah V ge hN) p a)(hD:Row a 1 (ah xa na ds) (z bv) (bv.map bJ.ptr))(hE:Row a 1 (ah xd nd dv) (z bc) (bc.map bJ.ptr))(ey:∀k,bY (ah xa na ds)=M k->k<c/\¬u.F k)(fe:∀k,bY (ah xd nd dv)=M k->k<c/\¬u.F k)(lg:u.D a)(r:c<=G (H a))(hF:∀k,u.F k->k<c)(lm:Steps a)(hr:1<c/\¬u.F 1)(mo:z i+z p+z bv+z bc<=1000000)(kk:lK p<=1000000000)(d:Bool)(hi:(b=1/\m=1/\D=3/\hR=#[ah xa na ds,bE dm e (z i) j,ah V ge hN,ah xd nd dv]/\lc=[((ah xa na ds:aa),bv),(bE dm e (z i) j,i),(ah V ge hN,p),(ah xd nd dv,bc)]/\em=(λmC ge=>#[ah xa na ds,mC,ge,ah xd nd dv])/\d=bc.isEmpty)\/(b=2/\m=2/\D=4/\hR=#[ah xa na ds,ah xd nd dv,bE dm e (z i) j,ah V ge hN]/\lc=[((ah xa na ds:aa),bv),(ah xd nd dv,bc),(bE dm e (z i) j,i),(ah V ge hN,p)]/\em=(λmC ge=>#[ah xa na ds,ah xd nd dv,mC,ge])/\d=bX))(lp:∀o(hj:o<z i),∀ws:cR,ws.Sublist p->dS (cQ<|cr ws::[i[o]].map bJ.all)/\(∀mE∈cQ (cr ws::[i[o]].map bJ.all),mE.Good)/\z (cQ<|cr ws::[i[o]].map bJ.all)<=1000000)(P:eP)(mx:Option Addr)(mc:R)(ln:Row a 1 (ah mx (z P) mc) (z P) (P.map<|Value.int .u64))(hB:∀k,bY (ah mx (z P) mc)=M k->k<c/\¬u.F k)(hz:z P<=4):cA bG 119 #[eB hR,aq m,ah mx (z P) mc] a λW s=>∃xl nl hf xm w hg,∃tm:cR,∃o,∃hj:o<z i,∃y q,W=aP (dE #[eB<|em (ah xl nl hf)<|ah xm w hg,.nilIface])/\FI p (jf i[o].ks) (jc i[o].ks) y q/\s.ownsRow (G<|H a) 224 1 (ah xl nl hf) (z<|i.take o++i.drop (o+1)) ((i.take o++i.drop (o+1)).map bJ.ptr)/\s.ownsRow (G<|H a) 224 1 (ah xm w hg) (z<|p.take y++tm++p.drop q) ((p.take y++tm++p.drop q).map bJ.ptr)/\tm.map bJ.all=gR (rQ P d [i[o]]<|(p.drop y).take<|q-y)/\qL s (G<|H a) tm/\u.D s/\J u.F a s:=by
 have hW:J az a (cF (cF a<|aw hR 107)<|aw #[aG,aG,aG,aG] 107):=(cI _ a).alloc _;generalize co:cF (cF a<|aw hR 107) (aw #[aG,aG,aG,aG] 107)=bd at hW;have bb:bd.heap[G<|H a]?=M (aw hR 107 (0,0)):=by rw[<-co];exact(ga _<|by simp).trans<|aE _ rfl
 have hk:bd.heap[G (H a)+1]?=M (aw #[aG,aG,aG,aG] 107 (0,0)):=by rw[<-co];exact aE _<|by simp
 have cB:∀k,c<=k->¬u.F k:=λk f he=>by have:=hF k he;omega
 have ff:∀l,J u.F bd l->Du l (G<|H a) 0 lc:=by
  intro l N;have av:∀dk b,Row a 1 dk (z b) (b.map bJ.ptr)->(∀k,bY dk=M k->k<c/\¬u.F k)->Row l 1 dk (z b) (b.map bJ.ptr):=λdk b mm f=>
   N.row (hW.row mm<|λk W=>⟨id,ag (f k W).1 r⟩) (λk W=>⟨(f k W).2,ag (f k W).1<|aF r hW.size⟩)
  have hQ:G (H a)<=G (H l):=aF hW.size N.size;have O:∀b dk,hR[b]?=M dk->aS l (U (G<|H a)<|0+b)=M dk:=by
   intro b dk ks;refine N.cell ?_ (cB _ r)<|am bb;rw[bL bb,cZ];exact ks
  rcases hi with⟨_,_,_,rfl,rfl,_⟩|⟨_,_,_,rfl,rfl,_⟩;all_goals
   refine⟨rfl,λb hi=>?_,λb hi=>?_,λb hi k f=>?_,by simp[mG];omega⟩
   .match b,hi with
    |0,_|1,_|2,_|3,_=>exact O _ _ rfl
   .match b,hi with
    |0,_|1,_|2,_|3,_=>first|exact av _ _ hD ey|exact av _ _ h1.row h1.loc|exact av _ _ h2.row h2.loc|exact av _ _ hE fe
   .match b,hi with
    |0,_|1,_|2,_|3,_=>first|exact ag (ey k f).1 (aF r hQ)|exact ag (h1.loc k f).1 (aF r hQ)|exact ag (h2.loc k f).1 (aF r hQ)|exact ag (fe k f).1<|aF r hQ
 have kq:∃S1 S2:I->Prop,(∀l,J u.F bd l->S1 l/\S2 l)/\(∀g,S1 g->aS g (U (G<|H a) b)=M (bE dm e (z i) j))/\∀g,S2 g->aS g (U (G<|H a)<|b+1)=M (ah V ge hN):=by refine⟨_,_,λl N=>?_,λg h=>h,λg h=>h⟩;(have O:∀b dk,hR[b]?=M dk->aS l (U (G<|H a) b)=M dk:=by intro b dk ks;refine N.cell ?_ (cB _ r)<|am bb;rw[bL bb];exact ks);rcases hi with⟨rfl,_,_,rfl,_⟩|⟨rfl,_,_,rfl,_⟩<;>exact⟨O _ _ rfl,O _ _ rfl⟩
 obtain⟨S1,S2,hO,ex,cp⟩:=kq;have fz:=hW.size;have cl:∀l,J az bd l->jL u c az a l:=λl ht=>(hW.cw ht).same r cN cN;have hP:m=(b:R)/\D=(b+2:R)/\(b=1\/b=2)/\kg lc (b+2)=d:=by rcases hi with⟨rfl,rfl,rfl,_,rfl,_,rfl⟩|⟨rfl,rfl,rfl,_,rfl,_,rfl⟩;exact⟨rfl,rfl,.inl rfl,by simp[kg]⟩;exact⟨rfl,rfl,.inr rfl,by simp[kg]⟩
 have bo:∀q,cA bG 173 #[aA<|G<|H a,aq m] (bd.drewN q) λW s=>∃o:R,W=aP (aq o)/\o<z i/\J az bd s:=by intro q;have av:=gX az bd q;have hQ:=ff _<|av.mono cN;rw[hP.1];refine(Jk (w:=(bd.drewN q)) (G<|H a) 0 b (ts1:=i) (by omega) (by rw[cZ];exact ex _ (hO _<|av.mono cN).1) (by rw[cZ];exact cp _ (hO _<|av.mono cN).2) hQ.lt ((h1.same<|cl _ av).mem<|aF r fz) ((h2.same<|cl _ av).mem<|aF r fz) h2.side.AD kn kk).mono ?_;rintro W s⟨o,rfl,hj,mm⟩;exact⟨o,rfl,hj,av.cw<|J.aV (S:=az) mm⟩
 have C:∀l,J u.F bd l->cA bG 178 #[aA<|G<|H a,aq D] l λW s=>W=aP (aO d)/\s=l:=by intro l N;have h:=CC (b+2) lc (ff l N) (by omega);rw[hP.2.2.2]at h;rw[hP.2.1];exact h
 clear hP;obtain⟨eg,gf,hU,HC,il,HW,cd,jB,bi⟩:=xS bb hk C hO bo hW cB co cl;obtain⟨H1,H2,HD,HF,HT,el,ih,HM,ej⟩:=xS h1 h2 lg hF lm hr lp ln hB;clear h1 h2 hD hE ey fe lg hF lm hr lp ln hB bb hk ff bo hW cB co cl C hO;rcases hi with⟨rfl,rfl,rfl,rfl,rfl,rfl,ee⟩|⟨rfl,rfl,rfl,rfl,rfl,rfl,ee⟩
 all_goals
  clear ee;simp only[Nat.reduceAdd]at cp;have hb:=Z ex;have cc:=Z cp;clear ex cp;go_in
  go_wp2_with fail
  go_quiet(fail)
  rw[ae jB];have bo:=il nq;go_wp2_with fail
  apply bo.mono;rintro W w1⟨o,rfl,hj,fu⟩;have kd:=hb w1 (HC w1<|fu.mono cN).1;have x:=Z fu;clear fu bo;obtain⟨j1,cv⟩:∃j1,o+1=j1:=⟨_,rfl⟩;have e1:(o:Y)+1=(j1:Y):=by omega
  have e2:(o:Y)<=(j1:Y):=by omega
  have e3:(j1:Y)<=(j:Y):=by omega
  have e4:(j1:Y)<=(z i:Y):=by omega
  have e5:(o:Y)<=(j:Y):=by omega
  have e6:¬(j=o):=by omega
  have e7:¬(j-o=0):=by omega
  have e8:IntKind.i64.wrap (j1:Y)=(j1:Y):=by rw[bQ];omega
  have e9:(0:Y)<=(o:Y):=by omega
  have me:(z i:Y)<=(j:Y):=by omega
  have mg:j1-o=1:=by omega
  have HJ:=Z cv;clear cv;have ll:S1 w1.drew:=(HC _<|(x.cw<|cg az w1).mono cN).1;go_wp2_with fail
  rename_i QQ KK ho;refine cz S1 21 (by kernel_rfl) ?_;refine cY 0 ?_;iterate 18 (refine eJ (v:=?_) ll rfl (by kernel_rfl) iV rfl ?_ ?_;rotate_left;(focus(intro g hX;have z0:=hb g hX;go_simp;try rfl));simp only[Act.put,dG,Nat.reduceAdd])
  apply eA;refine aM (i:=18) rfl rfl (by kernel_rfl) ?_;intro jC X;go_simp;have et:iX w1 (bE dm e (z i) j) i:=((H1.same<|bi w1 x).mem<|aF r<|aF fz x.size);have mn:=x.size;have K:=Xc (w1:=w1) (ta:=(i.take o)) (tbqq:=(i.drop j1)) (G<|H a) (et.take o<|by omega) (UE et hx (by have:=ae HJ;omega)) (by simp;omega) (by omega) 105;refine X _ _ (λ_=>?_) ?_
  .exact(HC _<|((x.alloc _).cw<|cg az _).mono cN).1
  refine aM (i:=19) rfl rfl (by kernel_rfl) ?_;intro jD ac;go_simp;apply K.mono;rintro W t⟨vl,rfl,cM,dd⟩;obtain⟨nl,fk⟩:∃nl,z (i.take o++i.drop j1)=nl:=⟨_,rfl⟩;rw[fk]at cM;have it:=Z fk;clear fk;obtain⟨xl,hf,rfl⟩:=aB cM;have eu:S1 t:=(HC _<|(x.cw dd).mono cN).1;refine ac _ _ (λ_=>eu) ?_;refine aM (i:=20) rfl rfl (by kernel_rfl) ?_;intro lx eb;go_simp;refine eb _ _ (λ_=>eu) ?_;refine aM (i:=21) rfl rfl (by kernel_rfl) ?_;intro mb ec;go_simp;refine ec _ _ wH ?_;refine cX (by kernel_rfl) ?_ _;show KK _ _;apply ho;generalize(if j=j1 then M ((U dm e):Addr)else M (U dm<|e+j1))=zz at*;have v:J az bd t:=x.cw dd;have L:=Z v;have gA:=Z cM;have ms:=v.size;have bm:iX t (bE dm e (z i) j) i:=((H1.same<|bi t v).mem<|by omega);have jK:iX t (ah V ge hN) p:=((H2.same<|bi t v).mem<|by omega);have kf:=cc t (HC t<|v.mono cN).2;have hp:=bm.cell hj;have cu:∀bd,bd.heap=t.heap->cA bG 175 #[i[o].ptr] bd λW s=>W=aP (aj<|jf i[o].ks)/\s=bd:=λbd hW=>((bm.each _<|ar hj).of_heap hW).first;have cx:∀bd,bd.heap=t.heap->cA bG 176 #[i[o].ptr] bd λW s=>W=aP (aj<|jc i[o].ks)/\∃q,s=bd.drewN q:=λbd hW=>((bm.each _<|ar hj).of_heap hW).last;have hw:dm<G (H t):=bm.lt dm rfl;have jH:G (H a)<G (H t):=by have:=am eg;omega
  have hcut:∀l,J az t l->cA bG 174 #[ah V ge hN,aj<|jf i[o].ks,aj<|jc i[o].ks] l λW s=>∃va vb vc,W=aP (dE #[va,vb,vc])/\(∃y q,FI p (jf i[o].ks) (jc i[o].ks) y q/\iX s va (p.take y)/\iX s vb ((p.drop y).take<|q-y)/\iX s vc (p.drop q)/\(∀k,bY va=M k\/bY vb=M k\/bY vc=M k->bY (ah V ge hN)=M k))/\J az t s/\S2 s/\aS s (U dm<|e+o)=M i[o].ptr:=by
   intro l ev;refine(Ma (jf i[o].ks) (jc i[o].ks) ((H2.same<|bi l<|v.cw ev).mem (by have:=ev.size;omega)) H2.side.AD).mono ?_;rintro W s⟨y,q,va,vb,vc,rfl,a1,a2,a3,a4,a5,hv⟩;have fs:J az t s:=ev.cw<|J.aV (S:=az) hv;exact⟨va,vb,vc,rfl,⟨y,q,a1,a2,a3,a4,a5⟩,fs,(HC s<|(v.cw fs).mono cN).2,fs.cell hp id hw⟩
  clear ho X ac eb ec K et bm jK ll eu kd cM dd v;unfold bJ.ptr at hp cu cx hcut;have ha:=Z (show∃s1 s2 al,jf i[o].ks=s1/\jc i[o].ks=s2/\i[o].tb=al from⟨_,_,_,rfl,rfl,rfl⟩);obtain⟨s1,s2,al,ch,cj,ba⟩:=ae ha;rw[ch,cj,ba]at hcut;rw[ch,ba]at cu;rw[cj,ba]at cx;rw[ba]at hp;obtain⟨hV,hY,lr⟩:=dI ch cj ba;clear ch cj ba ha;obtain⟨gj,bg,gg⟩:=dI cu cx hcut;clear cu cx hcut;have g1:IntKind.i64.wrap (2:Y)=2:=by rw[bQ];omega
  have g2:IntKind.i64.wrap (3:Y)=3:=by rw[bQ];omega
  have cn:S2 t.drew/\aS t.drew (U dm<|e+o)=M (aA al):=⟨(HC _<|(L.cw<|cg az t).mono cN).2,hp⟩;go_wp2_with fail
  rename_i Q6 K6;refine cz (λg=>S2 g/\aS g (U dm<|e+o)=M (aA al)) 19 (by kernel_rfl) ?_;refine cY 0 ?_;iterate 7 (refine eJ (v:=?_) cn rfl (by kernel_rfl) iV rfl ?_ ?_;rotate_left;(focus(intro g hX;obtain⟨bx,z1⟩:=hX;have z0:=cc g bx;go_simp;try rfl));simp only[Act.put,dG,Nat.reduceAdd])
  apply eA;refine cY 8 ?_;iterate 3 (refine eJ (v:=?_) cn rfl (by kernel_rfl) iV rfl ?_ ?_;rotate_left;(focus(intro g hX;obtain⟨bx,z1⟩:=hX;have z0:=cc g bx;go_simp;try rfl));simp only[Act.put,dG,Nat.reduceAdd])
  apply eA;refine aM (i:=7) rfl rfl (by kernel_rfl) ?_;intro K7 hn;go_simp;apply(gj t.drew rfl).mono;rintro W Q⟨rfl,kv⟩;subst Q;refine hn _ _ (λ_=>cn) ?_;refine aM (i:=11) rfl rfl (by kernel_rfl) ?_;intro ls dx;go_simp;apply(bg t.drew rfl).mono;rintro W Q⟨rfl,qq,kv⟩;subst Q;refine dx _ _ (λ_=>⟨(HC _<|((L.cw<|cg az t).cw<|gX az _ _).mono cN).2,hp⟩) ?_;refine aM (i:=12) rfl rfl (by kernel_rfl) ?_;intro lt dT;go_simp;apply(gg (t.drewN<|1+qq)<|gX _ _ _).mono;rintro W Q⟨va,vb,vc,rfl,kl,fv,bq⟩;refine dT _ _ (λ_=>bq) ?_;refine cY 13 ?_;iterate 4 (refine eJ (v:=?_) bq rfl (by kernel_rfl) iV rfl ?_ ?_;rotate_left;(focus(intro g hX;obtain⟨bx,z1⟩:=hX;have z0:=cc g bx;go_simp;try rfl));simp only[Act.put,dG,Nat.reduceAdd])
  apply eA;refine aM (i:=17) rfl rfl (by kernel_rfl) ?_;intro lv ea;go_simp;refine ea _ _ (λ_=>bq) ?_;refine aM (i:=18) rfl rfl (by kernel_rfl) ?_;intro jC X;go_simp;refine X _ _ (λ_=>bq) ?_;refine aM (i:=19) rfl rfl (by kernel_rfl) ?_;intro jD ac;go_simp;refine ac _ _ wH ?_;refine cX (by kernel_rfl) ?_ _;show K6 _ _;apply QQ;obtain⟨y,q,hl,eo,ck,eq,es⟩:=kl;clear QQ hn dx dT ea X ac bq cn kf hp gj bg gg;obtain⟨la,jE,hH⟩:=bS eo.row;obtain⟨gc,en,hI⟩:=bS ck.row;obtain⟨lb,jG,hJ⟩:=bS eq.row;generalize z (p.take y)=kx at hH;generalize z ((p.drop y).take<|q-y)=fL at hI;generalize z (p.drop q)=ky at hJ;subst hH;subst hI;subst hJ;have B:J az bd Q:=L.cw fv;have mv:=B.size;have br:((p.drop y).take<|q-y).Sublist p:=(nC _ _).trans<|kI _ _;have cm:=bi Q B;obtain⟨fr,hG,db⟩:=ih o hj _ br;have C:=λl(N:J u.F Q l)=>hU l<|(B.mono (T:=u.F) cN).trans N<|λ_ h=>.inl h;have hA:cA bG 177 #[bE dm (e+o) 1<|j-o,ah gc fL en] Q λW s=>∃a,W=aP (dE #[a,.nilIface])/\s.ownsRow (G<|H Q) 164 4 a (z<|cQ<|cr ((p.drop y).take<|q-y)::[i[o]].map bJ.all) (aH<|cQ<|cr ((p.drop y).take<|q-y)::[i[o]].map bJ.all)/\u.D s/\J u.F Q s:=by
   have hq:=H1.same cm;have kb:=H2.same cm;refine EH c dm (e+o) (j-o) (ah gc fL en) [i[o]] ((p.drop y).take<|q-y) ?_ (H1.loc dm rfl) ?_ (by simp) ⟨ck.row,λk f=>H2.loc k<|es k<|.inr<|.inl f,λmI ht=>kb.each mI<|br.subset ht,H2.side.sub br,ck.small⟩ (u.fq HD (HW.cw B) cN) (by omega) HF db
   .intro b hi;obtain rfl:b=0:=by simp at hi;omega
    exact hq.cell hj
   .intro mI ht;rw[bI]at ht;subst ht;exact hq.each _<|ar hj
  have bu:J az a Q:=HW.cw B;obtain⟨bT,gs,an,bh,ei⟩:=jX (He (V:=u) (W:=Q) (ms:=P) (mx:=mx) (mc:=mc) (cQ<|cr ((p.drop y).take<|q-y)::[i[o]].map bJ.all) (bu.row HM<|λk W=>⟨id,ag (ej k W).1 r⟩) (λk W=>⟨by have:=(ej k W).1;omega,(ej k W).2⟩) hz fr db) (show∀l,J u.F Q l->Steps l fromλl ht k f=>ht.cell ((HT.same cm el) k f) el.2 (by have:=el.1;omega)) (show dS (rQ P d [i[o]]<|(p.drop y).take<|q-y)/\rm 5 (rQ P d [i[o]]<|(p.drop y).take<|q-y)/\(∀mE∈rQ P d [i[o]] ((p.drop y).take<|q-y),mE.Good)/\z (rQ P d [i[o]]<|(p.drop y).take<|q-y)<=1000000 from tj fr hG db hz) (show rQ P d [i[o]] ((p.drop y).take<|q-y)=if d then iw (dV P<|cQ<|cr ((p.drop y).take<|q-y)::[i[o]].map bJ.all)else dV P (cQ<|cr ((p.drop y).take<|q-y)::[i[o]].map bJ.all)from rfl) C;clear C fr hG db bu;generalize jI:cQ (cr ((p.drop y).take<|q-y)::[i[o]].map bJ.all)=ML at*;clear jI;obtain⟨ce,bn⟩:∃ce,rQ P d [i[o]] ((p.drop y).take<|q-y)=ce:=⟨_,rfl⟩;rw[bn]at an bh;have gv:=Z bn;clear bn;obtain⟨hT,bg,gn,iv,dn,ip⟩:=kD hl eo eq B (fv.own gA<|λ_ _ he=>he) es;clear hl eo ck eq es B cm fv gA;go_wp2_with fail
  apply hA.mono;rintro W w1⟨kz,rfl,E,bl,F⟩;obtain⟨hL,hh,rfl⟩:=aB E;have hC:=bT.1 w1 _ hL hh F E;have bf:=Z bl;have x:=Z F;clear E bl F hA;go_wp2_with fail
  apply hC.mono;rintro W t⟨vn,rfl,cT,au⟩;have bs:J u.F Q t:=x.cw au;have hm:=u.fq bf au cN;obtain⟨xn,le,rfl⟩:=aB cT;have C:=ei t bs;have fb:=bT.2 t _ xn le cT;have hK:=x.size;obtain⟨ca,L,ek⟩:=dI hm bs cT;clear cT hm bs au hC;cases d;case' false=>
   obtain rfl:ce=dV P ML:=ae bh;clear fb bT bh;go_wp2_with fail
   apply C.mono;rintro W gb⟨rfl,kt⟩;subst gb;clear C;obtain⟨cb,bk,gi⟩:=dI (eM (base':=G<|H Q) ek<|by omega) L ca;clear L ca ek x bf ei;generalize t=w5 at*
  case' true=>
   obtain rfl:ce=iw (dV P ML):=ae bh;go_wp2_with fail
   apply C.mono;rintro W gb⟨rfl,kt⟩;subst gb;go_wp2_with fail
   apply fb.mono;rintro W w5⟨vb,rfl,fn,fx⟩;obtain⟨xn,le,rfl⟩:=aB fn;obtain⟨cb,bk,gi⟩:=dI (eM (base':=G<|H Q) fn (by have:=L.size;omega)) (L.cw fx)<|u.fq ca fx cN;clear fn fx C fb L ca ek x bf ei bT bh hK
  all_goals
   have ko:=uD (dr cb) an.1 an.2.1 an.2.2.1 an.2.2.2 (λk f=>(cb.lt k f).2)<|gs w5 bk;have ka:=an.2.2.2;clear cb gs an;go_wp2_with fail
   apply ko.mono;rintro W w4⟨kz,tm,rfl,E,cs,cE,au⟩;have F:J u.F Q w4:=bk.cw au;have bl:=u.fq gi au cN;have cE:=cE.base (base':=G<|H Q) bk.size;have E:=eM (base':=G<|H Q) E bk.size;have dd:z tm<=1000000:=by
    have h1:=bW z cs;rw[cV]at h1;rw[h1];exact aF (xG _) ka
   rw[<-ae gv]at cs;clear au;have ax:J u.F bd w4:=(iv.mono (T:=u.F) cN).trans F<|λ_ h=>.inl h;obtain⟨hL,hh,rfl⟩:=aB E;have mA:=F.size;have hs:=(ax.block _ (am eg)<|cd _ r).trans eg;have hu:=(ax.block _ (am gf)<|cd _<|by omega).trans gf;have ad:∀k,bY (ah la kx jE)=M k\/bY (ah gc fL en)=M k\/bY (ah lb ky jG)=M k->k<c/\¬u.F k:=λk f=>H2.loc k<|ip k f;have K:=Xb (p.take y) tm (p.drop q) (G<|H a) (F.row bg.row<|λk f=>⟨(ad k<|.inl f).2,bg.lt k f⟩) (λk f=>by have:=(ad k<|.inl f).1;omega) (dr E) (λk f=>(aI E k f).2) (F.row gn.row<|λk f=>⟨(ad k<|.inr<|.inr f).2,gn.lt k f⟩) (λk f=>by have:=(ad k<|.inr<|.inr f).1;omega) (by simp;omega) (by omega) 105;obtain⟨w,bp⟩:∃w,z (p.take y++tm++p.drop q)=w:=⟨_,rfl⟩;rw[bp]at K;have gt:=Z bp;have ed:=F.own dn<|λk f=>cd k (by have:=((aI dn) k f).1;omega);obtain⟨gr,iu,bf,jA,hS,hc,hd⟩:=wI ed cE bl ax cs hs hu;clear E cs cE bl F ax hs hu bp ed ad;go_wp2_with fail
   apply K.mono;rintro W w5⟨v5,rfl,fl,ao⟩;obtain⟨xm,hg,rfl⟩:=aB fl;have AI:=(ao.block _ (am hc) id).trans hc;have A:=(ao.block _ (am hd) id).trans hd;have p0:=cellAt AI 0 rfl;have f0:=dW (i:=0) AI;have q0:=cellAt A 0 rfl;have k0:=dW (i:=0) A;have p1:=cellAt AI 1 rfl;have f1:=dW (i:=1) AI;have q1:=cellAt A 1 rfl;have k1:=dW (i:=1) A;have p2:=cellAt AI 2 rfl;have f2:=dW (i:=2) AI;have q2:=cellAt A 2 rfl;have k2:=dW (i:=2) A;have p3:=cellAt AI 3 rfl;have f3:=dW (i:=3) AI;have q3:=cellAt A 3 rfl;have k3:=dW (i:=3) A;have gk:=Z (show∀(i1 i2:R)(z1 z2 u0 u1 u2 u3:aa)(wf:I),wf=ct (ct (ct (ct (ct (ct w5 (U (G<|H a) i1) z1) (U (G<|H a) i2) z2) (U (G (H a)+1) 0) u0) (U (G (H a)+1) 1) u1) (U (G (H a)+1) 2) u2) (U (G (H a)+1) 3) u3->wf.heap[G (H a)+1]?=M (aw #[u0,u1,u2,u3] 107 (0,0))/\wf.ownsRow (G<|H a) 224 1 (ah xl nl hf) nl ((i.take o++i.drop j1).map bJ.ptr)/\wf.ownsRow (G<|H a) 224 1 (ah xm w hg) w ((p.take y++tm++p.drop q).map bJ.ptr)/\qL wf (G<|H a) tm/\u.D wf/\J u.F a wf from by
    rintro i1 i2 z1 z2 u0 u1 u2 u3 wf rfl;have mp:((ct (ct w5 (U (G<|H a) i1) z1) (U (G<|H a) i2) z2)).heap[G (H a)+1]?=M (aw #[aG,aG,aG,aG] 107 (0,0)):=(iC _<|by omega).trans<|(iC _<|by omega).trans A;have dc:J (λk=>k=G (H a)\/k=G (H a)+1) w5 (ct (ct (ct (ct (ct (ct w5 (U (G<|H a) i1) z1) (U (G<|H a) i2) z2) (U (G (H a)+1) 0) u0) (U (G (H a)+1) 1) u1) (U (G (H a)+1) 2) u2) (U (G (H a)+1) 3) u3):=((((((J.refl _ w5).setCell _ _ _<|.inl<|.inl rfl).setCell _ _ _<|.inl<|.inl rfl).setCell _ 0 _<|.inl<|.inr rfl).setCell _ 1 _<|.inl<|.inr rfl).setCell _ 2 _<|.inl<|.inr rfl).setCell _ 3 _<|.inl<|.inr rfl;have kc:=Ji (a':=u0) (b':=u1) (c':=u2) (d':=u3) mp;generalize ct (ct (ct (ct (ct (ct w5 (U (G<|H a) i1) z1) (U (G<|H a) i2) z2) (U (G (H a)+1) 0) u0) (U (G (H a)+1) 1) u1) (U (G (H a)+1) 2) u2) (U (G (H a)+1) 3) u3=wf at*;have ef:∀k,(k=G (H a)\/k=G (H a)+1)->∃hM,w5.heap[k]?=M (aw hM 107 (0,0)):=by
     rintro k(rfl|rfl)
     .exact⟨_,AI⟩
     .exact⟨_,A⟩
    have bt:∀{dk n xs},w5.ownsRow (G<|H a) 224 1 dk n xs->wf.ownsRow (G<|H a) 224 1 dk n xs:=λlo=>dc.own lo (λk f he=>by
     obtain⟨hM,fd⟩:=ef k he;obtain⟨md,hy⟩:=fK lo f;exact iA fd hy (by decide) rfl)
    refine⟨kc,bt<|ao.own gr<|λ_ _ he=>he,bt fl,?_,u.fq (u.fq bf ao cN) dc<|λk f=>cd k (by rcases f with he|he<;>omega),?_⟩
    .refine((iu.ay ao).other dc<|λk f=>?_).base (by omega);obtain⟨hM,fd⟩:=ef k f;exact⟨hM,_,_,fd,by decide,by decide,by decide⟩
    .exact(((HW.mono (T:=u.F) cN).trans jA (λ_ h=>.inl h)).cw ao).trans dc (λk f=>.inr (by rcases f with he|he<;>omega)))
   clear fl ao AI A K;go_wp2;obtain⟨r1,r2,r3,r4,r5,r6⟩:=gk _ _ _ _ _ _ _ _ _ rfl;refine cO (zy rfl _ _ (G (H a)+1) _ _ _ _ _ _ rfl r1 ⟨_,_,_,rfl⟩ ⟨_,_,_,rfl⟩ ⟨_,_,_,rfl⟩ ⟨_,_,_,rfl⟩) rfl ?_;have cv:=ae HJ;subst cv;refine⟨xl,nl,hf,xm,w,hg,tm,o,hj,y,q,rfl,?_,?_,?_,hS,r4,r5,r6⟩
   .rw[ae hV,ae hY];exact hT
   .rw[ae it];exact r2
   .rw[ae gt];exact r3
def rp(V:jr)(g:R)(h:aa)(e:cK)(w:I):Prop:=∃t v f b,h=.iface t v/\(∀w,(Go.method 545 t v "Find").run bG w=.ok (f,b) w)/\Enters bG f/\∀a(d:Y)w',jL V g az w w'->V.D w'->cA bG f #[b,aj a,aL d] w' λi c=>i=aP (tD<|iH d e a)/\V.D c/\J V.F w' c
def Sw(v:aa)(w:I):(Go.method 545 105 v "Find").run bG w=.ok (319,v) w:=by kernel_rfl
def Sv(v:aa)(w:I):(Go.method 545 224 v "Find").run bG w=.ok (321,v) w:=by kernel_rfl
def Vm(v:aa)(w:I):(Go.method 545 102 v "Find").run bG w=.ok (315,v) w:=by kernel_rfl
def rp.xN(j:sC u b d i a)(c:b<=G (H a))(hF:∀k,u.F k->k<b):rp u b (.iface 105 d) (cr i) a:=⟨_,d,_,d,rfl,Sw d,enters_of func319 (by kernel_rfl) rfl,λe g l f h=>RZ e g (j.same f) h (aF c f.1) hF⟩
def rp.table(h:nZ u b O.tb O.ks O.cs a)(c:b<=G (H a))(hF:∀k,u.F k->k<b):rp u b (.iface 224 O.ptr) O.all a:=⟨_,O.ptr,_,O.ptr,rfl,Sv O.ptr,enters_of func321 (by kernel_rfl) rfl,λd f i e g=>Cn d f (h.same e) g (aF c e.1) hF⟩
def ku.same{V:jr}{n0:R}(o:ku a d e)(l:jL V n0 az a f)(m:∀i,bY d=Option.some i->i<n0/\¬V.F i):ku f d e:=by
 obtain⟨h,⟨rfl,j⟩|⟨n,b,c,rfl,g,k⟩⟩:=o;exact⟨h,.inl ⟨rfl,j⟩⟩;exact⟨h,.inr ⟨n,b,c,rfl,g,λo u j=>l.cell (.inr<|m n rfl)<|k o u j⟩⟩
def rp.list(o:ku a d e)(n:dS e)(m:z e<=1000000000000)(j:∀i,bY d=M i->i<b/\¬u.F i)(g:b<=G (H a)):rp u b (.iface 102 d) e a:=by
 refine⟨_,d,_,d,rfl,Vm d,enters_of func315 (by kernel_rfl) rfl,λh k p c l=>?_⟩;apply(AB h k (o.same c j) n m<|λi f=>ag (ag (j i f).1 g) c.1).mono;rintro r q⟨rfl,f⟩;exact⟨rfl,u.fq l (J.aV (S:=az) f) cN,J.aV f⟩
def wE(c:Y)(b:ab)(a:cD (aa×cK)):Option E:=a.findSome?<|λr=>iH c r.2 b
def WU:Option E->aa
 |some x=>.tuple #[.string x.val,.bool<|!x.del,.nilIface]
 |none=>.tuple #[.string ⟨#[]⟩,.bool bF,.nilIface]
def TM{a:cD (aa×cK)}(h:b<z a)(c:wE m v (a.take b)=none):wE m v a=(iH m a[b].2 v).or (wE m v<|a.drop<|b+1):=by
 have e:a=a.take b++a[b]::a.drop (b+1):=by rw[<-bH h,ci]
 unfold wE at*;conv=>lhs;rw[e]
 rw[wM,c,sj];cases iH m a[b].2 v<;>rfl
def Vk(w:I)(c:R)(a:ab)(d:Y)(e:¬(1<=a.size/\a.size<=8))(f:a.size<=140737488351232):cA bG 59 #[aA c,aj a,aL d] w λi g=>i=aP (dE #[aj ⟨#[]⟩,aO bF,lC 3])/\g=w:=by
 have b:=λW=>rf a W f;rw[rY e]at b;go_in
 go_wp2_with(go_at_call 68;refine(b _).mono ?_;rintro i j⟨rfl,rfl⟩)
 refine cO (mV rfl _ _ _) rfl ?_;exact⟨rfl,rfl⟩
