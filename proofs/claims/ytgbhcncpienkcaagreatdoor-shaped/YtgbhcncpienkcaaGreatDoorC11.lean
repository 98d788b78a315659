import Derived.Deep.Slices
import Derived.LaidHandle
import Derived.LaidSub
import Derived.Laws.StructEq
import Derived.Lib.LaidTab
import Derived.Test.YtgbhcncpienkcaaGreatDoorRows
import Derived.Test.YtgbhcncpienkcaaGreatDoorC9
import Derived.Test.YtgbhcncpienkcaaGreatDoorC10
open _root_ renaming List.length→y,Option.some→H,Array.size→z,Go.World.heap→G,Go.Value.ownBlock→ct,Go.World.cell?→aO,Go.World.setCell→cA,Go.World.alloc→cF,Bool.false→aY,Bool.true→bU,Nat→M,Int→Z,List→cw,Go.Calls→cD,Go.Proofs.Tryz.prog→bz,Go.Value.slice→J,Go.Value.string→aj,Go.Value.bool→aK,Go.Value.pointer→fj,Go.Value.tuple→dw,Go.Value.agg→dW
namespace Go.Proofs.YtgbhcncpienkcaaGreatDoor
open ChangeShapes WideShapes RowKit Proofs.Tryz List
set_option maxHeartbeats 16000000
set_option linter.all false
set_option maxRecDepth 100000
variable{a f C:Y}{b c g l A Q:M}{d:aa}{e L:cJ}{i o r s:cf}{j P:DK}{k:dL}{m K:Z}{n:SR}{X:fA}{x:iC}{D:Bool}{O:bA}
def Tb(next d c:M)(f:cw cf)(h:cQ a b j)(hT:Steps a)(bm:¬j.aU b 1)(h4:y f=4)(hn:next<18446744073709551616)(hl:d<next)(bx:c<18446744073709551616)(ch:y f.flatten<=1000000)(bi:∀bt∈f.flatten,bt.oD)(ao:(f.flatten.map bA.num).Nodup)(al:∀bt∈f.flatten,bt.num<next/\bt.num≠d)(hg:dX (vw j.files) gP=H (iH next d c f)):cD bz 105 #[ay b] a λL s=>
 ∃t n i v o c1 w p c2 x r c3,L=aL (dw #[dW #[aJ next,aJ d,aJ c,J t n i,J v o c1,J w p c2,J x r c3],.nilIface])/\(∀(bn:M)(bo:aa)(av:cf),[J t n i,J v o c1,J w p c2,J x r c3][bn]?=H bo->f[bn]?=H av->s.ownsRow (z<|G a) 289 4 bo (y av) (dy av))/\∃g,qI a s b j g/\g.files=j.files/\g.eJ=j.eJ/\∀k,g.aU b k->j.aU b k:=by
 obtain⟨F,l⟩:∃F,cF a (ar #[aJ 0,aJ 0,aJ 0,aD,aD,aD,aD] 202)=F:=⟨_,rfl⟩
 have C:I az a F:=by rw[<-l];exact(cK az a)
 have N:F.heap[z<|G a]?=H (ar #[aJ 0,aJ 0,aJ 0,aD,aD,aD,aD] 202 (0,0)):=by rw[<-l];exact aB _ rfl
 have ce:z (G F)=z (G a)+1:=by rw[<-l];simp
 have ad:y (iH next d c f)<=21000100/\0<y (iH next d c f):=by
  have h1:iH next d c f=iM (le 8 (next:M)++(le 8 (d:M)++(le 8 (c:M)++ql f 0))):=by
   unfold iH ql;simp
  have h2:=Ap f 0;rw[h1,gy];grind[length_append,cC]
 have bb:=U h.lt
 have B:cD bz 107 #[ay b,aj gP] F λL s=>∃bq K,L=aL (dw #[bB bq 0 (y<|iH next d c f) K,.nilIface])/\s.heap[z<|G a]?=H (ar #[aJ 0,aJ 0,aJ 0,aD,aD,aD,aD] 202 (0,0))/\(∃g,qI a s b j g/\g.files=j.files/\g.eJ=j.eJ/\∀k,g.aU b k->j.aU b k)/\z (G a)<z (G s)/\cD bz 175 #[bB bq 0 (y<|iH next d c f) K] s λL aq=>
  ∃t n i v o c1 w p c2 x r c3,L=aL (dw #[dW #[aJ next,aJ d,aJ c,J t n i,J v o c1,J w p c2,J x r c3],aK bU])/\
  (∀(bn:M)(bo:aa)(av:cf),[J t n i,J v o c1,J w p c2,J x r c3][bn]?=H bo->f[bn]?=H av->aq.ownsRow (z<|G s) 289 4 bo (y av) (dy av))/\I az s aq:=by
  apply(LU (db:=b) (K:=j) gP _ (w:=F) (h.aw C<|λ_ _=>id) hg<|by omega).mono
  rintro L s⟨v',rfl,ho,g,A,e1,e2,S⟩
  have bk:=ho
  obtain⟨q1,⟨q2,q0⟩|⟨cj,cp,bu,q2,bT,hh,cb,cc,bl⟩⟩:=bk
  .omega
  .subst q2;have bv:Steps s:=Steps.aw (Steps.aw hT C id) A.aw bm;have O:¬j.aU b (z<|G a):=λK=>by have:=h.lt _ K;omega
   refine⟨cj,cp,rfl,(A.aw.block _ (am N) O).trans N,⟨g,⟨A.ok,(C.mono (T:=j.aU b) cO).trans A.aw<|λ_ K=>.inl K,λk K=>.inl<|S k K⟩,e1,e2,S⟩,by have:=A.aw.size;omega,?_⟩;grind[Qc,eP.bytes]
 have ac:=λW=>We 10 W
 unfold gP at B
 obtain⟨SL,X⟩:∃SL,y (iH next d c f)=SL:=⟨_,rfl⟩
 rw[X]at B
 have bh:=U l
 have cd:∀a:Y,(binOp .neq 50 .nilIface .nilIface).run bz a=.ok (aK aY) a:=λ_=>rfl
 have bs:∀(bq:Bool)(a:Y),(Op.unary .not<|aK bq).run bz a=.ok (aK<|!bq) a:=λ_ _=>rfl
 clear h hT hg bi ao al C N l X ad
 go_in
 go_wp2_with fail
 rw[ae bh]
 apply B.mono
 rintro L w2⟨bq,K,rfl,W,V,an,D⟩
 have bc:=U W
 have ba:=U V
 clear W V B
 go_wp2_with fail
 apply(ac _).mono
 rintro L bp⟨rfl,hw⟩
 subst bp
 go_wp2_with fail
 apply D.mono
 rintro L w3⟨t,n,i,v,o,c1,w,p,c2,x,r,c3,rfl,m,Q⟩
 have e:=(Q.block _ an id).trans bc
 have br:=am e
 have bg:=U Q
 have bf:=U m
 have t0:=cellAt e 0 rfl
 have t1:=cellAt e 1 rfl
 have t2:=cellAt e 2 rfl
 have t3:=cellAt e 3 rfl
 have t4:=cellAt e 4 rfl
 have t5:=cellAt e 5 rfl
 have t6:=cellAt e 6 rfl
 have ca:∀ax,w3.frozen? (R (z<|G a) ax)=aY:=λax=>by simp[World.frozen?,e]
 have bd:=U e
 clear m Q e D ac
 go_wp2
 have E:=aT (i:=6) (u:=J x r c3)<|aT (i:=5) (u:=J w p c2)<|aT (i:=4) (u:=J v o c1)<|aT (i:=3) (u:=J t n i)<|aT (i:=2) (u:=aJ c)<|aT (i:=1) (u:=aJ d)<|aT (i:=0) (u:=aJ next) bd
 have au:=((((((((I.refl (λk=>k=z (G a)) w3).setCell (z<|G a) 0 (aJ next)<|.inl rfl).setCell (z<|G a) 1 (aJ d)<|.inl rfl).setCell (z<|G a) 2 (aJ c)<|.inl rfl).setCell (z<|G a) 3 (J t n i)<|.inl rfl).setCell (z<|G a) 4 (J v o c1)<|.inl rfl).setCell (z<|G a) 5 (J w p c2)<|.inl rfl).setCell (z<|G a) 6 (J x r c3)<|.inl rfl).alloc<|ar #[aJ next,aJ d,aJ c,J t n i,J v o c1,J w p c2,J x r c3] 202
 have P:=(gl (ar #[aJ next,aJ d,aJ c,J t n i,J v o c1,J w p c2,J x r c3] 202)<|am E).trans E
 refine cP (wa rfl _ _ (z<|G a) next d c _ _ _ _ _ _ rfl P ⟨_,_,_,rfl⟩ ⟨_,_,_,rfl⟩ ⟨_,_,_,rfl⟩ ⟨_,_,_,rfl⟩) rfl ?_
 refine⟨t,n,i,v,o,c1,w,p,c2,x,r,c3,rfl,?_,?_⟩
 .intro bn bo av hv hD;have hr:=bf bn bo av hv hD;exact er (au.own hr (λq b L=>by have:=(hr.lt q b).1;have:q=z (G a):=L;omega))<|by omega
 .obtain⟨g,A,e1,e2,S⟩:=ae ba;have aq:I (λk=>k=z (G a)) w2 _:=(bg.mono (T:=λk=>k=z (G a)) cO).trans au<|λ_ K=>.inl K;have O:∀k,g.aU b k->k<z (G a):=λk K=>bb k<|S k K;exact⟨g,⟨A.ok.aw aq (λk K L=>by have:=O k K;have:k=z (G a):=L;omega),A.aw.trans aq<|λk L=>.inr (by have:k=z (G a):=L;omega),A.aU⟩,e1,e2,S⟩
structure YQ(W:Y)(db sb:M)(K K2:DK)(u0 u1 u2 u3:aa)(a b c d a' b' c' d':cf):Prop where
 aH:cQ W db K2
 same:K2.files=K.files/\K2.eJ=K.eJ/\∀k,K2.aU db k->K.aU db k
 l0:Gf W K2 db sb u0 a'
 l1:Gf W K2 db sb u1 b'
 l2:Gf W K2 db sb u2 c'
 l3:Gf W K2 db sb u3 d'
 k0:kO a a'
 k1:kO b b'
 k2:kO c c'
 k3:kO d d'
 EW:((a'++b'++c'++d').map bA.tb).Nodup
def YQ.aw{u0 u1 u2 u3:aa}{r b e s k b' l m:cf}(h:YQ a c g j P u0 u1 u2 u3 r b e s k b' l m)(o:I (λq=>q=g) a C)(p:¬j.aU c g):YQ C c g j P u0 u1 u2 u3 r b e s k b' l m:=by
 have n:=h.aH.aw o<|λc e a=>p<|h.same.2.2 _<|a▸e;have d:fY a C c g P P:=⟨n,o.mono<|λ_ e=>.inl<|.inr e,λ_ e=>.inl e⟩;exact⟨n,h.same,h.l0.eW d<|λ_ _=>rfl,h.l1.eW d<|λ_ _=>rfl,h.l2.eW d<|λ_ _=>rfl,h.l3.eW d<|λ_ _=>rfl,h.k0,h.k1,h.k2,h.k3,h.EW⟩
def oD.of(h:Gb O):O.oD:=by
 refine⟨h.num,by have:=h.small;omega,?_⟩;rw[h.ks];have b:=li (ks:=bS 0 O.cs)<|λk a=>(h.idx.can k a).fits;have a:=h.idx.len;unfold fo;rw[af,cC];omega
def VP:iQ 1=⟨#[108,111,103,45,49]⟩:=by unfold iQ;rw[Rg];decide
theorem vh(i:Row a b d c x):∃l h,d=J l c h:=by
 obtain⟨k,⟨g,j⟩|⟨m,f,e,g,_⟩⟩:=i;grind
 grind
def Dr.ZD{p sbqq:M}{K C w:DK}{u0 u1 u2 u3:aa}{D:cw cf}(u:Dr a f p C w b c x [u0,u1,u2,u3] D)(P:pD D=pD [i,o,r,s])(d:C.files=K.files/\C.eJ=K.eJ/\∀v,C.aU p v->K.aU p v)(ac:sbqq<z (G a))(F:∀t∈i++o++r++s,Gb t)(hf:∀t∈i++o++r++s,dX (vw K.files) (fC t.num)=H (mR t.cs)):∃h j k l,YQ f p sbqq K w u0 u1 u2 u3 i o r s h j k l:=by
 have L:=u.DZ;obtain⟨h,j,k,l,rfl⟩:∃h j k l,D=[h,j,k,l]:=by rcases D with _|⟨m,_|⟨N,_|⟨T,_|⟨X,_|⟨v4,ad⟩⟩⟩⟩⟩<;>simp at L;grind
 simp only[pD,bZ,fW,oR,xh]at P;obtain⟨s0,s1,s2,s3⟩:=P;have Q:kO i h:=s0;have S:kO o j:=s1;have V:kO r k:=s2;have W:kO s l:=s3;have O:=u.ord;have q:kO (i++o++r++s) (h++j++k++l):=((Q.append S).append V).append W;have A:=q.YU F;have g:∀v,c<v->v<z (G f)->Aside f w p sbqq v:=λv e d=>⟨d,λr=>by have:=u.low v<|u.same.2.2 v r;omega,by omega⟩;have B:∀t∈h++j++k++l,qC f p (vw w.files) (Aside f w p sbqq) t:=λt e=>by obtain⟨N,m,E,T,X,g3,g4,_⟩:=u.wT t (by simpa using e);obtain⟨q1,q2,q3,q4,q5⟩:=A t e;refine⟨⟨N,0,m,E,g N g3 g4⟩,g t.tb T X,q1,q5,q2,q3,q4,?_⟩;obtain⟨al,hu,ad⟩:=q.mem e;rw[u.same.1,d.1,<-xD ad,<-Am ad];exact hf al hu
 have n:∀(N:M)(X:aa)(T:cf),[u0,u1,u2,u3][N]?=H X->[h,j,k,l][N]?=H T->(∀t∈T,t∈h++j++k++l)->Gf f w p sbqq X T:=λN X T m hT E=>
  ⟨da<|u.rows N X T m hT,λv c=>g v (u.own m c).1 (u.own m c).2,λt e=>B t<|E t e⟩
 refine⟨h,j,k,l,u.aH,⟨u.same.1.trans d.1,u.same.2.1.trans d.2.1,λv r=>d.2.2 v<|u.same.2.2 v r⟩,n 0 _ _ rfl rfl (λt e=>by simp[e]),n 1 _ _ rfl rfl (λt e=>by simp[e]),n 2 _ _ rfl rfl (λt e=>by simp[e]),n 3 _ _ rfl rfl (λt e=>by simp[e]),Q,S,V,W,?_⟩;have:=u.EW;grind
def Td{nx lg:M}(bc:bJ a c n m)(hs:n.aH=b)(ad:¬j.aU b c)(f:uO a b j i o r s g A Q nx lg D k):cD bz 64 #[ay c] a λB p=>B=aL .nilIface/\∃u0 u1 u2 u3,bJ p c (n.th u0 u1 u2 u3 nx lg A<|decide<|0<y j.files) m/\(∃O P S T V,YQ p b c j O u0 u1 u2 u3 i o r s P S T V)/\I (λq=>j.aU b q\/q=c) a p:=by
 subst hs;have t:=f.aH;have K:=am bc;have ax:=f.count;have ao:nx<18446744073709551616:=by have:=f.nx;have:=f.La;omega
 have av:A<18446744073709551616:=by have:=f.bn;have:=f.La;omega
 have ac:y j.files<=100000000:=by
  have x:=t.nodup;have e:=vi (l:=(vw j.files).map (·.1)) (m:=gP::iQ lg::(i++o++r++s).map (λal=>fC al.num)) x (λbd N=>by
   obtain⟨bs,w⟩:=pO N;rcases f.qF.names bd bs w with B|⟨B,_⟩|⟨al,h,B⟩
   .simp[B]
   .simp[B]
   grind)
  have e1:y ((vw j.files).map (·.1))=y j.files:=by simp[vw]
  rw[e1]at e;grind
 refine Yl a c n m nx lg A (y j.files) (λp v0 v1 v2 v3=>∃C,cQ p n.aH C/\(C.files=j.files/\C.eJ=j.eJ/\∀q,C.aU n.aH q->j.aU n.aH q)/\I (j.aU n.aH) a p/\∀(E:M)(W:aa)(X:cf),[v0,v1,v2,v3][E]?=H W->[i,o,r,s][E]?=H X->Row p 4 W (y X) (dy X)/\∀q,ct W=H q->z (G a)<=q/\q<z (G p)) (λp u0 u1 u2 u3=>∃O P S T V,YQ p n.aH c j O u0 u1 u2 u3 i o r s P S T V) (j.aU n.aH) bc t.lt ad ?_ ?_ ?_;rcases f.qF.state with e|⟨e,rfl,rfl,rfl,rfl,rfl,rfl,rfl⟩;apply(Tb nx lg A [i,o,r,s] t f.steps f.fw rfl ao f.qF.lt av (by grind) (λal h=>oD.of<|f.qF.iX al<|by simpa using h) (by simpa using f.qF.yW) (λal h=>f.qF.low al<|by simpa using h) e).mono;rintro B p⟨x0,N,c0,x1,n1,c1,x2,n2,c2,x3,n3,c3,rfl,d,C,x,e1,e2,e3⟩;exact⟨x0,N,c0,x1,n1,c1,x2,n2,c2,x3,n3,c3,rfl,⟨C,x.ok,⟨e1,e2,e3⟩,x.aw,λE W X u F=>⟨da<|d E W X u F,λq v=>(d E W X u F).lt q v⟩⟩,x.aw⟩;refine(Tc t ac f.pow (λan N=>?_) e).mono ?_;(have x:an∈(vw j.files).map (·.1):=by simpa[vw]using N);obtain⟨bs,w⟩:=pO x;rcases f.qF.names an bs w with B|⟨B,_⟩|⟨al,h,B⟩;rw[B,e]at w;cases w;rw[B,VP];simp at h;rintro B p⟨rfl,h⟩;have L:I (j.aU n.aH) a p:=h.mono cO;refine⟨none,0,0,none,0,0,none,0,0,none,0,0,rfl,⟨j,t.aw h<|λ_ _=>id,⟨rfl,rfl,λ_ r=>r⟩,L,λE W X u F=>?_⟩,L⟩;(have B:W=aD/\X=[]:=by rcases E with _|_|_|_|E<;>simp at u F<;>exact⟨u.symm,F⟩);rw[B.1,B.2];exact⟨⟨rfl,.inl ⟨rfl,rfl⟩⟩,λq v=>by cases v⟩;rintro W1 bb v0 v1 v2 v3⟨C,an,e,au,d⟩x;obtain⟨x0,c0,e0⟩:=vh (d 0 _ _ rfl rfl).1;obtain⟨x1,c1,e1⟩:=vh (d 1 _ _ rfl rfl).1;obtain⟨x2,c2,e2⟩:=vh (d 2 _ _ rfl rfl).1;obtain⟨x3,c3,e3⟩:=vh (d 3 _ _ rfl rfl).1;subst e0 e1 e2 e3;have N:I (j.aU n.aH) a bb:=au.cr x;refine(EP (db:=n.aH) (K:=C) [i,o,r,s] x0 x1 x2 x3 _ c0 _ c1 _ c2 _ c3 (an.aw x<|λ_ _=>id) (Steps.aw f.steps N f.fw) (f.pow.aw N f.mi) (λq=>f.fw<|e.2.2 _ q) (λq=>f.mi<|e.2.2 _ q) rfl (λE W ba u hm=>x.row (d E W ba u hm).1<|λq v=>⟨id,((d E W ba u hm).2 q v).2⟩) (λE W u q v=>?_) (λal h=>f.qF.iX al<|by simpa using h) (λal h=>by rw[e.1];exact f.qF.wT al<|by simpa using h) (λE ba hj hm=>?_)<|by grind).mono ?_;(have hj:∃X,[i,o,r,s][E]?=H X:=by rcases E with _|_|_|_|E;simp_all;simp_all;simp_all;simp_all;simp at u);obtain⟨X,F⟩:=hj;have hh:=(d E W X u F).2 q v;exact⟨ag hh.2 x.size,λa=>by have:=t.lt q<|e.2.2 q a;omega⟩;(grind[uO.s1,uO.s2,uO.s3]);rintro B p⟨y0,m0,d0,y1,m1,d1,y2,m2,d2,y3,m3,d3,rfl,O,Ts,hI,aq⟩;refine⟨y0,m0,d0,y1,m1,d1,y2,m2,d2,y3,m3,d3,rfl,?_,hI.aw.mono<|λq r=>.inl<|e.2.2 q r⟩;obtain⟨P,S,T,V,v⟩:=hI.ZD (sbqq:=c) (K:=j) aq e (ag K N.size) f.qF.iX f.qF.wT;grind
 rintro bb u0 u1 u2 u3⟨O,P,S,T,V,v⟩W' h;have e:=v.aw h ad;refine⟨⟨O,P,S,T,V,e⟩,?_⟩;refine(AI e.aH (by rw[v.same.1];exact ac)).mono ?_;rintro B p⟨v',ns,rfl,hp,N,L⟩;obtain⟨bd,cc,u⟩:=aA N;(have x:y ns=y j.files:=by have:=hp.length_eq;rw[v.same.1]at this;grind);rw[u,x];grind
def EM(h:Gg ((b:Z)+1) k):lh k=gQ [] k.flatten/\dM (gQ [] k.flatten)/\jQ (b+y k:M) (gQ [] k.flatten)=gQ [] k.flatten/\rq 5 (gQ [] k.flatten)/\y (gQ [] k.flatten)<=(k.map y).sum:=by
 obtain⟨c,d,e,a⟩:=XX h (y k)<|ai _;rw[aX]at c d e a;have g:(b:Z)+1+y k-1=((b+y k:M):Z):=by grind
 rw[g]at a;have f:=Hy k;rw[<-c];refine⟨rfl,d.mh,a,?_,f⟩;rcases wR k with q|⟨r,l,q⟩;rw[q];exact rq.nil _;grind[zI,yt,Hx]
def Da{s:SR}{an A B C E:cf}{ad g al nx F:M}(e:uO a b j i o r an ad g al nx F D k)(d:YQ f b c j P s.l0 s.l1 s.l2 s.l3 i o r an A B C E)(n:I (λq=>j.aU b q\/q=c) a f)(X:z (G a)<=c)(K:s.aH=b)(L:s.next=nx)(N:s.log=F)(O:s.gE=D)(m:s.aW=g+y k)(Q:s.gK=(k.map y).sum)(S:s.vU=aY)(W:kr f s.memory (gQ [] k.flatten))(t:∀ao,ct s.memory=H ao->Aside f P b c ao)(h:1<=s.mem/\s.mem<=32/\2<=s.qQ/\s.qQ<=6)(p:s.kB=bU->s.gE=bU)(w:Gk f P c s []):Inv f c s P (gQ [] k.flatten) A B C E ad g al k []:=by
 obtain⟨_,p1,p2,p3,p4⟩:=EM e.lp;subst K L N O;have x:vw P.files=vw j.files:=by rw[d.same.1]
 have v:=e.steps.lt;have u:=e.pow.lt;refine{st:=?_,qF:=?_,pr:=?_,lp:=e.lp,mem:=by rw[m];exact p2,Oa:=λac l=>?_,Xx:=p4,Ze:=p3,oU:=w,UN:=λ_ q=>(by cases q),Bq:=m,Ut:=Q,vU:=S,EW:=d.EW,nx:=e.nx,bn:=by rw[m];exact e.bn,eJ:=by rw[d.same.2.1];exact e.eJ,Mg:=h,loose:=p,VQ:=e.VQ,lV:=e.La};refine⟨W,t,d.l0,d.l1,d.l2,d.l3,d.aH,λr=>?_,⟨Steps.aw e.steps n (λr=>r.elim e.fw<|λr=>by omega),e.pow.aw n (λr=>r.elim e.mi<|λr=>by omega),⟨ag v n.size,λr=>e.fw<|d.same.2.2 _ r,by omega⟩,⟨ag u n.size,λr=>e.mi<|d.same.2.2 _ r,by omega⟩⟩,?_,e.lV,p1,?_,d.k1.side e.s1,d.k2.side e.s2,d.k3.side e.s3⟩;have:=e.aH.lt _<|d.same.2.2 _ r;omega;rw[d.k0.cg,d.k1.cg,d.k2.cg,d.k3.cg];exact e.qf;intro ac l;rcases Ff l with T|T;simp at T;obtain⟨aq,V,l⟩:=bE.1 T;exact e.lp.iX aq V ac l;rw[x];exact e.qF.D8 d.k0 d.k1 d.k2 d.k3;rw[kO.bV d.k0 d.k1 d.k2 d.k3];exact e.pr;rw[m];rcases Ff l with q|q;cases q;exact e.lp.wN ac q
def uO.aw{w w':Y}{e b m n:cf}{d:M}(h:uO w c j e b m n g l A Q d D k)(a:I az w w'):uO w' c j e b m n g l A Q d D k:={h with aH:=h.aH.aw a<|λ_ _=>id,steps:=Steps.aw h.steps a id,pow:=h.pow.aw a id}
def Vk(h:k≠[]):0<y (lM m k):=by
 rcases k with _|⟨l,r⟩;grind
 unfold lM Dv;grind[length_append,gy,cC]
structure yl(w w':Y)(db sb:M)(mem qQ:Z)(K:DK)(C N:M)(R0:ab->Option ab)(s:SR)(K':DK)(m:cJ)(a b c d:cf)(tb:M)(ls:dL):Prop where
 box:bJ w' sb s 0
 inv:Inv w' sb s K' m a b c d C tb N ls []
 uC:∀q,eY s.aW (m::bV a b c d) q=R0 q
 same:s.aH=db/\s.closed=aY/\s.mem=mem/\s.qQ=qQ/\s.ie=0/\s.lW=H (z (G w)+1)
 eW:fY w w' db sb K K'
 size:z (G w)+4<=z (G w')
 aU:∀k,K'.aU db k->K.aU db k\/z (G w)+4<=k
def Gc(w i:Y)(h c:M)(e a:Z)(K:DK)(C N:M)(g:ab->Option ab):Prop:=∃s f n j k l m d b,yl w i h c e a K C N g s f n j k l m d b/\GR s j k l
def yl.step{x v:ab->Option ab}{d:SR}{p:DK}{S V B W r s c' t:cf}{o i:M}{h:dL}(w:yl a f b c m K j g l x n P e S V B W o k)(E:bJ C c d 0)(D:Inv C c d p L r s c' t A i Q h [])(N:∀q,eY d.aW (L::bV r s c' t) q=v q)(F:d.aH=b/\d.closed=aY/\d.mem=m/\d.qQ=K/\d.ie=0/\d.lW=H (z (G a)+1))(u:fY f C b c P p):yl a C b c m K j A Q v d p L r s c' t i h:=⟨E,D,N,F,w.eW.trans u,aC w.size u.aw.size,λO B=>(u.aU O B).elim (λq=>w.aU O q)<|λq=>.inr<|aC w.size q⟩
def yl.kept{h:Y}{t:ab->Option ab}{p:DK}(v:yl a C b (z (G a)+2) m K j c g t n P e i o r s l k)(u:fY C h b (z (G a)+2) P p)(d:∀w,j.aU b w->w<z (G a)):h.heap[z (G a)+3]?=C.heap[z (G a)+3]?:=u.aw.block _ (by have:=v.size;omega) (λr=>r.elim (λr=>by
 rcases v.aU _ r with q|q
 .have:=d _ q;omega
 .omega) (λr=>by omega))
def Aw{e:Fs}(h:qC a b e X O):NR a O:=by
 obtain⟨g,d,c,f,_⟩:=h.mem;exact⟨h.num,_,_,_,_,_,_,_,_,f⟩
def SI(h d:Z)(p:uO a b j i o r s c g l A Q D k)(ho:1<=h/\h<=32/\2<=d/\d<=6)(hN:l+1<=100000000):cD bz 32 #[ay b,dW #[ap h,ap d]] a λX v=>X=aL (dw #[ay<|z (G a)+2,.nilIface])/\Gc a v b (z (G a)+2) h d j c (l+1) (eY (g+y k:M)<|gQ [] k.flatten::bV i o r s):=by
 have w:=p.aH.lt;have S:¬j.aU b (z (G a)+2):=λq=>by have:=w _ q;omega
 have bo:A<18446744073709551616:=by have:=p.nx;have:=p.La;omega
 have bc:Q<18446744073709551616:=by have:=p.qF.lt;omega
 have bn:=p.bn;have bl:=p.count;refine Yc b h d a ho (λW=>I az a W/\bJ W (z (G a)+2) (SR.fresh b h d<|z (G a)+1) 0/\jw W (z (G a)+1) []/\z (G W)=z (G a)+4) (λW=>∃u0 u1 u2 u3 N E F K L,bJ W (z (G a)+2) ((SR.fresh b h d<|z (G a)+1).th u0 u1 u2 u3 A Q g<|decide<|0<y j.files) 0/\YQ W b (z (G a)+2) j N u0 u1 u2 u3 i o r s E F K L/\I (λq=>j.aU b q\/q=z (G a)+2) a W/\jw W (z (G a)+1) []/\z (G a)+4<=z (G W)) (λW=>∃bg x E F K L,yl a W b (z (G a)+2) h d j c l (eY (g+y k:M)<|gQ [] k.flatten::bV i o r s) bg x (gQ [] k.flatten) E F K L g k) (λW=>∃bg x E F K L,yl a W b (z (G a)+2) h d j c l (eY (g+y k:M)<|gQ [] k.flatten::bV i o r s) bg x (gQ [] k.flatten) E F K L g k) (λW=>Gc a W b (z (G a)+2) h d j c (l+1)<|eY (g+y k:M)<|gQ [] k.flatten::bV i o r s) (λW h1 h2 h3 h4=>⟨h1,h2,h3,h4⟩) ?_ ?_ ?_ ?_;rintro W⟨t,hb,ax,bb⟩;apply(Td hb rfl S<|p.aw t).mono;rintro X v⟨rfl,u0,u1,u2,u3,P,⟨N,E,F,K,L,e⟩,u⟩;have B:=u.size;refine⟨rfl,⟨u0,u1,u2,u3,N,E,F,K,L,P,e,(t.mono (T:=λq=>j.aU b q\/q=z (G a)+2) cO).trans u<|λ_ q=>.inl q,ax.di (u.block _ (by omega)<|λq=>q.elim (λq=>by have:=w _ q;omega)<|λq=>by omega),by omega⟩,?_⟩;exact u.block _ (by omega)<|λq=>q.elim (λq=>by have:=w _ q;omega)<|λq=>by omega
 .rintro W⟨u0,u1,u2,u3,N,E,F,K,L,hb,e,t,ax,bb⟩;have bf:vw N.files=vw j.files:=by rw[e.same.1]
  have B:=kO.bV e.k0 e.k1 e.k2 e.k3;have ba:¬N.aU b (z (G a)+2):=λq=>S<|e.same.2.2 _ q;have au:Pow W:=p.pow.aw t<|λq=>q.elim p.mi (λq=>by have:=p.pow.lt;omega);have bk:Steps W:=Steps.aw p.steps t<|λq=>q.elim p.fw (λq=>by have:=p.steps.lt;omega);have ao:∀v,I (λq=>N.aU b q\/q=z (G a)+2) W v->v.heap[z (G a)+3]?=W.heap[z (G a)+3]?:=λv c=>c.block _ (by omega) (λq=>q.elim (λq=>by have:=w _<|e.same.2.2 _ q;omega)<|λq=>by omega);have av:∀v x,I (λq=>N.aU b q\/q=z (G a)+2) W v->(∀an,x.aU b an->N.aU b an)->jw v (z (G a)+1) []/\Aside v x b (z (G a)+2) (z (G a)+1):=λv x c hf=>⟨ax.di (c.block _ (by omega)<|λq=>q.elim (λq=>by have:=w _<|e.same.2.2 _ q;omega)<|λq=>by omega),by have:=c.size;omega,λq=>by have:=w _<|e.same.2.2 _<|hf _ q;omega,by omega⟩;have bd:Gk W N (z (G a)+2) ((SR.fresh b h d<|z (G a)+1).th u0 u1 u2 u3 A Q g<|decide<|0<y j.files) []:=⟨⟨z (G a)+1,rfl,av W N (I.refl _ W)<|λ_ q=>q⟩,by simp⟩;cases hlgd:D with
  |false=>
   have ad:=p.qF.Ie hlgd;have aq:dX (vw N.files) (iQ Q)=none:=by
    rw[bf];rcases hf:dX (vw j.files) (iQ Q)with _|bs
    .rfl
    .rcases p.qF.names _ _ hf with X|⟨_,X⟩|⟨ac,t,X⟩
     .grind[sq]
     .rw[hlgd]at X;cases X
     .exact absurd X.symm<|mZ _ _
   apply(LO hb e.aH au bc aq).mono;rintro X v⟨rfl,u⟩;have al:=e.aw (u.mono (T:=λq=>q=z (G a)+2) cO) S;have V:=t.cr u;refine⟨rfl,⟨(SR.fresh b h d<|z (G a)+1).th u0 u1 u2 u3 A Q g<|decide<|0<y j.files,N,E,F,K,L,?_⟩,ao v<|u.mono cO⟩;have n:=Da (s:=(SR.fresh b h d<|z (G a)+1).th u0 u1 u2 u3 A Q g<|decide<|0<y j.files) p al V (by omega) rfl rfl rfl hlgd.symm (by rw[ad];rfl) (by rw[ad];rfl) rfl (by rw[ad];exact⟨rfl,.inl ⟨rfl,rfl⟩⟩) (λan q=>by cases q) ho (λq=>by cases q) ⟨⟨z (G a)+1,rfl,av v N (u.mono cO)<|λ_ q=>q⟩,by simp⟩;exact⟨(u.block _ (am hb) id).trans hb,n,λq=>by rw[B,n.Bq],⟨rfl,rfl,rfl,rfl,rfl,rfl⟩,⟨al.aH,V.mono<|λ_ q=>.inl q,λan q=>.inl<|e.same.2.2 an q⟩,aC bb u.size,λan q=>.inl<|e.same.2.2 an q⟩
  |true=>
   have bh:=p.VQ hlgd;have bi:y (lM ((g:Z)+1) k)<=200000:=by
    have h1:=ue (f:=(g:Z)+1)<|λbm a=>⟨p.lp.iX bm a,(p.lp.one bm a).2⟩;have h2:=Ej<|λbm a=>(p.lp.one bm a).1;have h3:=p.lp.sum;omega
   refine(OO k hb e.aH ba au bk ⟨by have:=p.steps.lt;omega,λq=>p.fw<|e.same.2.2 _ q⟩ bc p.lp (by rw[bf];exact p.qF.log hlgd) (Vk bh) bi rfl rfl (by show g<=1000000000;have:=p.La;omega) bd).mono ?_;rintro X v⟨rfl,mv,x,P,aq,O,e1,e2,e3⟩;have ad:∀ac:bA,dX (vw x.files) (fC ac.num)=dX (vw N.files) (fC ac.num):=λac=>by rw[e1]
   have al:YQ v b (z (G a)+2) j x u0 u1 u2 u3 i o r s E F K L:=⟨O.ok,⟨e1.trans e.same.1,e2.trans e.same.2.1,λan q=>e.same.2.2 an<|e3 an q⟩,e.l0.eW O<|λac _=>ad ac,e.l1.eW O<|λac _=>ad ac,e.l2.eW O<|λac _=>ad ac,e.l3.eW O<|λac _=>ad ac,e.k0,e.k1,e.k2,e.k3,e.EW⟩;have V:I (λq=>j.aU b q\/q=z (G a)+2) a v:=t.trans O.aw<|λ_ q=>.inl<|q.imp (e.same.2.2 _) id;refine⟨rfl,⟨{((SR.fresh b h d<|z (G a)+1).th u0 u1 u2 u3 A Q g<|decide<|0<y j.files).uD mv (y k) (k.map y).sum with gE:=bU,vU:=aY,kB:=bU},x,E,F,K,L,?_⟩,ao v O.aw⟩;have n:=Da (s:={((SR.fresh b h d<|z (G a)+1).th u0 u1 u2 u3 A Q g<|decide<|0<y j.files).uD mv (y k) (k.map y).sum with gE:=bU,vU:=aY,kB:=bU}) p al V (by omega) rfl rfl rfl hlgd.symm rfl rfl rfl (by rw[<-(EM p.lp).1];exact da aq) (λan q=>by
    have h1:=aq.lt an q;exact⟨h1.2,λg=>by have:=w _ (e.same.2.2 _ (e3 an g));omega,by omega⟩) ho (λ_=>rfl) ⟨⟨z (G a)+1,rfl,av v x O.aw e3⟩,by simp⟩
   exact⟨P,n,λq=>by rw[B,n.Bq],⟨rfl,rfl,rfl,rfl,rfl,rfl⟩,⟨O.ok,V.mono<|λ_ q=>.inl q,λan q=>.inl<|e.same.2.2 an<|e3 an q⟩,aC bb O.aw.size,λan q=>.inl<|e.same.2.2 an<|e3 an q⟩
 .rintro W⟨bg,K1,E,F,K,L,C⟩;have n:=C.inv;obtain⟨es,ec,em,et,eg⟩:=C.same;subst es;have ad:y K1.files<=100000000:=by
   have al:=n.st.aH.nodup;have V:=vi (l:=(vw K1.files).map (·.1)) (m:=gP::iQ bg.log::(E++F++K++L).map (λac=>fC ac.num)) al (λan hx=>by
    obtain⟨bs,B⟩:=pO hx;rcases n.qF.names an bs B with X|⟨X,_⟩|⟨ac,t,X⟩
    .simp[X]
    .simp[X]
    grind)
   have e1:y ((vw K1.files).map (·.1))=y K1.files:=by simp[vw]
   rw[e1]at V;have:=n.DZ;grind
  refine(Qp E F K L C.box (n.st.ZX C.box) (λac t=>?_) n.st.kC.pow (by have:=n.qF.lt;have:=n.nx;have:=n.lV;omega) (by have:=n.DZ;omega) n.st.aH n.st.qZ (by have:=n.eJ;have:=n.lV;omega) ad<|λan hx=>?_).mono ?_
  .rcases aE.1 t with t|t
   .rcases aE.1 t with t|t
    .rcases aE.1 t with t|t
     .exact Aw<|n.st.l0.each ac t
     .exact Aw<|n.st.l1.each ac t
    .exact Aw<|n.st.l2.each ac t
   .exact Aw<|n.st.l3.each ac t
  .have V:an∈(vw K1.files).map (·.1):=by simpa[vw]using hx
   obtain⟨bs,B⟩:=pO V;rcases n.qF.names an bs B with X|⟨X,_⟩|al
   .exact .inl X
   .grind
   grind
  .rintro X v⟨rfl,x,O,ef,al⟩;have V:fY W v bg.aH (z (G a)+2) K1 x:=fY.of O;have P:bJ v (z (G a)+2) bg 0:=(O.aw.block _ (am C.box) n.st.qZ).trans C.box;exact⟨rfl,⟨bg,x,E,F,K,L,C.step P (n.eW (am C.box) V ef (by omega) rfl n.loose) C.uC ⟨rfl,ec,em,et,eg⟩ V⟩,C.kept V w⟩
 rintro W⟨bg,K1,E,F,K,L,C⟩;have n:=C.inv;obtain⟨es,ec,em,et,eg⟩:=C.same;subst es;apply(OA [] C.box n hN).mono;rintro X v⟨rfl,s',x,m',a2,b2,c2,d2,al,ad,B⟩;obtain⟨g1,g2,g3,g4,g5,g6⟩:=B.same;have V:=B.Bq;exact⟨rfl,⟨s',x,m',a2,b2,c2,d2,al,ad,C.step B.box B.inv (λq=>by rw[V];exact(B.uC _ (.inr rfl) q).trans<|C.uC q) ⟨g1,g2.trans ec,g3.trans em,g4.trans et,g5.trans eg.1,g6.trans eg.2⟩ B.eW,B.tid⟩,C.kept B.eW w⟩
abbrev LC:=jN×YO
abbrev PB:=Option M×aa
theorem mO.aw{S:fA}{al w':Y}{r:M}{o:Option M}{l:jN}{e:Bool}{sv:aa}(ad:mO al r o l e sv)(p:I S al w')(h1:¬S r)(h2:∀ac,o=H ac->¬S ac):mO w' r o l e sv:=by
 obtain⟨⟨v,E,hp,q⟩,k,h⟩:=ad;exact⟨⟨v,(p.block r (am E) h1).trans E,p.row hp<|λad hk=>⟨h2 ad<|q▸hk,h ad<|q▸hk⟩,q⟩,k,λac hg=>ag (h ac hg) p.size⟩
def KG(o:PB)(t:cw oo)(k:M):Prop:=o.1=H k\/ct o.2=H k\/∃x∈t,x.live=bU/\ct x.v=H k
structure Cs(n0:M)(W:Y)(r:M)(o:PB)(l:LC)(j:Bool)(t:cw oo):Prop where
 ref:mO W r o.1 l.1 j o.2
 Gj:KF W o.2 t
 own:W.ownsRow n0 77 2 o.2 (y t) (Gs t)
 kind:zX W o.2
 abs:t.map oo.abs=l.2
 len:∀x∈t,y x.l<=1000000
 sep:∀k,ct o.2=H k->k≠r/\o.1≠H k/\∀x∈t,x.live=bU->ct x.v≠H k
section
variable{n0 r:M}{W W':Y}{o:PB}{l:LC}{j L:Bool}{t:cw oo}{S:fA}
theorem Cs.re{p':Option M}{l':jN}(h:Cs n0 W r o l j t)(p:I S W W')(hr:mO W' r p' l' L o.2)(E:∀k,(ct o.2=H k\/∃x∈t,x.live=bU/\ct x.v=H k)->¬S k)(hp:p'=o.1\/∀ac,p'=H ac->z (G W)<=ac):Cs n0 W' r (p',o.2) (l',l.2) L t where
 ref:=hr
 Gj:=⟨p.row h.Gj.row<|λk f=>⟨E k<|.inl f,(h.own.lt k f).2⟩,λx hx hl=>⟨p.row (h.Gj.each x hx hl).1<|λk f=>⟨E k<|.inr ⟨x,hx,hl,f⟩,(h.Gj.each x hx hl).2 k f⟩,λac hg=>ag ((h.Gj.each x hx hl).2 ac hg) p.size⟩,h.Gj.shape,h.Gj.small⟩
 own:=p.own h.own<|λk f=>E k<|.inl f
 kind:=h.kind.aw p (λk f=>E k<|.inl f)<|λk f=>(h.own.lt k f).2
 abs:=h.abs
 len:=h.len
 sep:=λk f=>⟨(h.sep k f).1,λp=>hp.elim (λq=>(h.sep k f).2.1<|q▸p) (λq=>by have:=q k p;have:=(h.own.lt k f).2;omega),(h.sep k f).2.2⟩
theorem Cs.aw(ac:Cs n0 W r o l j t)(k:I S W W')(E:¬S r)(h:∀p,KG o t p->¬S p):Cs n0 W' r o l j t:=ac.re k (ac.ref.aw k E<|λad hg=>h ad<|.inl hg) (λp q=>h p<|.inr q)<|.inl rfl
theorem Cs.lt(h:Cs n0 W r o l j t)(k:M)(p:KG o t k):k<z (G W):=by
 rcases p with q|q|⟨x,hx,E,q⟩;exact h.ref.lt k q;exact(h.own.lt k q).2;exact(h.Gj.each x hx E).2 k q
end
def Stood(W:Y)(db sbqq:M)(s:SR)(K:DK)(m:cJ)(a b c d:cf)(C tbqq N:M)(lsqq:dL)(sn:fh):Bool->Prop
 |true=>s.closed=bU/\∃k h f,uO W db K a b c d C tbqq N k h f lsqq
 |false=>s.closed=aY/\s.aH=db/\Inv W sbqq s K m a b c d C tbqq N lsqq sn
theorem Inv.laid{k:Y}{sbqq:M}{s:SR}{K:DK}{m:cJ}{a b c d:cf}{C tbqq N:M}{lsqq:dL}{sn:fh}(h:Inv k sbqq s K m a b c d C tbqq N lsqq sn):uO k s.aH K a b c d C tbqq N s.next s.log s.gE lsqq where
 aH:=h.st.aH
 qF:=h.qF
 pr:=h.pr
 lp:=h.lp
 qf:=by
  have f:y (jQ s.aW m)<=y m:=aC (wA _ _).length_le<|eK _ _;rw[h.mem]at f;have:=h.st.qf;omega
 lV:=h.st.lV
 s1:=h.st.s1
 s2:=h.st.s2
 s3:=h.st.s3
 VQ:=h.VQ
 nx:=h.nx
 bn:=by rw[<-h.Bq];exact h.bn
 eJ:=h.eJ
 La:=h.lV
 steps:=h.st.kC.steps
 pow:=h.st.kC.pow
 fw:=h.st.kC.fw.aU
 mi:=h.st.kC.mi.aU
theorem Stood.aH{W:Y}{db sbqq:M}{s:SR}{K:DK}{m:cJ}{a b c d:cf}{C tbqq N:M}{lsqq:dL}{sn:fh}{e:Bool}(h:Stood W db sbqq s K m a b c d C tbqq N lsqq sn e):cQ W db K:=by
 cases e with
 |true=>obtain⟨_,_,_,_,h⟩:=h;exact h.aH
 |false=>obtain⟨_,rfl,h⟩:=h;exact h.st.aH
theorem uO.again{al w':Y}{db k:M}{K P:DK}{a b c d:cf}{C tbqq N nx lg:M}{f:Bool}{lsqq:dL}(h:uO al db K a b c d C tbqq N nx lg f lsqq)(hd:cQ w' k P)(E:∀ac,dX (vw P.files) ac=dX (vw K.files) ac)(hm:y P.eJ<=y K.eJ)(hs:Steps w')(hp:Pow w')(h1:¬P.aU k 1)(h2:¬P.aU k 2):uO w' k P a b c d C tbqq N nx lg f lsqq:={h with
 aH:=hd
 qF:=by
  have p:=h.qF;exact⟨λac bs q=>p.names ac bs (by rw[<-E];exact q),by rw[E];exact p.state,λq=>by rw[E];exact p.log q,p.Ie,λad ht=>by rw[E];exact p.wT ad ht,p.yW,p.low,p.lt,p.iX⟩
 eJ:=aC hm h.eJ
 steps:=hs
 pow:=hp
 fw:=h1
 mi:=h2}
structure NY(W:Y)(K:DK)(db sb:M)(s:SR)(k:M):Prop extends Aside W K db sb k where
 oU:s.lW≠H k
structure YR(W W':Y)(db sb:M)(s:SR)(K P:DK):Prop where
 ok:cQ W' db P
 aw:I (λk=>(K.aU db k\/k=sb)\/s.lW=H k) W W'
 aU:∀k,P.aU db k->K.aU db k\/z (G W)<=k
def A5(W:Y)(x:M):Prop:=∃f ac E,W.heap[x]?=H (ar f ac E)/\ac≠308/\((∀an,Value.string an∉f.toList)\/∀ad al,Value.int ad al∉f.toList)/\∀q,Value.pointer (H<|R q 0)∈f.toList->∃h p k,W.heap[q]?=H (ar h p k)/\p≠308
def Rp(s:SR)(m:cJ)(a b c d:cf)(A:Zs)(f:YO):Prop:=ub A=f/\s.ie=y A/\∀x,H x∈A->tH ((m::bV a b c d).map<|jQ (x.1:Z)) x.2
def Zc(v:aa):Prop:=∃x f c,v=J x f c
structure LW(w W:Y)(u db sb r:M)(o:PB)(mem qQ:Z)(n i:aa)(O:cw (M×Obj))(s:SR)(K:DK)(m:cJ)(a b c d:cf)(C tb N:M)(ls:dL)(A:Zs)(t:cw oo)(B:LC)(closed:Bool)(l:LC)(j:Bool):Prop where
 box:W.heap[u]?=H (ar #[ay db,ay sb,ay r,ap mem,ap qQ,n,i] 41 (0,0))
 ref:Cs (z<|G w) W r o l j t
 rU:bJ W sb s 0
 rY:Stood W db sb s K m a b c d C tb N ls (io 1 A) closed
 wY:tH (gQ [] ls.flatten::(bV a b c d).map (jQ ((tb+y ls:M):Z))) B.1
 oU:closed=aY->Rp s m a b c d A B.2
 tid:closed=aY->s.mem=mem/\s.qQ=qQ/\GR s a b c
 num:y A<=N/\y l.2<=N
 len:y B.1<=C
 lV:C<=1000000
 OC:Zc n/\Zc i
 aw:I az w W
 low:(∀k,K.aU db k->z (G w)<=k)/\z (G w)<=sb/\z (G w)<=r/\z (G w)<=u
 zO:∀k,s.lW=H k->z (G w)<=k/\k<z (G W)
 qZ:¬K.aU db sb
 DC:NY W K db sb s u
 Jw:NY W K db sb s r
 zl:∀k,KG o t k->NY W K db sb s k/\k≠u/\k≠r
 obj:∀p∈O,W.heap[p.1]?=H p.2/\NY W K db sb s p.1/\p.1≠u/\p.1≠r/\¬KG o t p.1
 ne:u≠r
 g0:Steps w/\Pow w/\qH w
section
variable{w W W':Y}{u db sbqq r x:M}{o Q:PB}{mem g mem' tab':Z}{n i out' want':aa}{O:cw (M×Obj)}{s s':SR}{K P:DK}{m m':cJ}{a b c d a' b' c' d':cf}{C C' tbqq X N N':M}{lsqq T:dL}{A zs':Zs}{t V:cw oo}{l l' B lc':LC}{j L e D:Bool}
theorem fY.dm(h:fY W W' db sbqq K P):YR W W' db sbqq s K P:=⟨h.ok,h.aw.mono<|λ_ q=>.inl<|.inl q,h.aU⟩
theorem Aside.grow{k:M}(h:Aside W K db sbqq k)(f:z (G W)<=z (G W')):Aside W' K db sbqq k:=⟨ag h.lt f,h.aU,h.ne⟩
theorem NY.grow{k:M}(h:NY W K db sbqq s k)(f:z (G W)<=z (G W')):NY W' K db sbqq s k:=⟨h.toAside.grow f,h.oU⟩
theorem NY.Qb{k:M}(h:NY W K db sbqq s k)(f:YR W W' db sbqq s K P)(p:∀k,s'.lW=H k->s.lW=H k):NY W' P db sbqq s' k:=⟨⟨ag h.lt f.aw.size,λc=>(f.aU k c).elim h.aU (λd=>by have:=h.lt;omega),h.ne⟩,λq=>h.oU<|p k q⟩
theorem NY.off{k:M}(h:NY W K db sbqq s k)(c:(K.aU db k\/k=sbqq)\/s.lW=H k):False:=c.elim (λc=>c.elim h.aU h.ne) h.oU
theorem NY.block{k:M}(q:NY W K db sbqq s k)(h:YR W W' db sbqq s K P):W'.heap[k]?=W.heap[k]?:=h.aw.block k q.lt q.off
theorem LW.vG(h:LW w W u db sbqq r o mem g n i O s K m a b c d C tbqq N lsqq A t B e l j):qH W:=h.g0.2.2.aw h.aw id
theorem LW.E3(h:LW w W u db sbqq r o mem g n i O s K m a b c d C tbqq N lsqq A t B e l j):0≠sbqq/\¬K.aU db 0:=by
 have f:0<z (G w):=dj _ _ h.g0.2.2;exact⟨by have:=h.low.2.1;omega,λc=>by have:=h.low.1 _ c;omega⟩
theorem LW.Qb(h:LW w W u db sbqq r o mem g n i O s K m a b c d C tbqq N lsqq A t B e l j)(k:YR W W' db sbqq s K P)(f:∀p,s'.lW=H p->s.lW=H p)(hb:bJ W' sbqq s' 0)(hs:Stood W' db sbqq s' P m' a' b' c' d' C' X N' T (io 1 zs') D)(hc:tH (gQ [] T.flatten::(bV a' b' c' d').map (jQ ((X+y T:M):Z))) lc'.1)(ad:D=aY->Rp s' m' a' b' c' d' zs' lc'.2)(al:D=aY->s'.mem=mem/\s'.qQ=g/\GR s' a' b' c')(hN:y zs'<=N'/\N<=N')(hC:y lc'.1<=C')(ac:C'<=1000000):LW w W' u db sbqq r o mem g n i O s' P m' a' b' c' d' C' X N' T zs' t lc' D l j where
 box:=(h.DC.block k).trans h.box
 ref:=h.ref.aw k.aw h.Jw.off<|λp E=>(h.zl p E).1.off
 rU:=hb
 rY:=hs
 wY:=hc
 oU:=ad
 tid:=al
 num:=⟨hN.1,aC h.num.2 hN.2⟩
 len:=hC
 lV:=ac
 OC:=h.OC
 aw:=h.aw.trans k.aw<|λp q=>.inr<|q.elim (λq=>q.elim (h.low.1 p) (λf=>by have:=h.low.2.1;omega))<|λf=>(h.zO p f).1
 low:=⟨λp q=>(k.aU p q).elim (h.low.1 p)<|λan=>aC h.aw.size an,h.low.2⟩
 zO:=λp q=>⟨(h.zO p<|f p q).1,ag (h.zO p<|f p q).2 k.aw.size⟩
 qZ:=λq=>(k.aU sbqq q).elim h.qZ (λan=>by have:=am h.rU;omega)
 DC:=h.DC.Qb k f
 Jw:=h.Jw.Qb k f
 zl:=λp E=>⟨(h.zl p E).1.Qb k f,(h.zl p E).2⟩
 obj:=λac p=>⟨((h.obj ac p).2.1.block k).trans (h.obj ac p).1,(h.obj ac p).2.1.Qb k f,(h.obj ac p).2.2⟩
 ne:=h.ne
 g0:=h.g0
end
theorem Hr{S:fA}{ao w':Y}{f ba:M}{v:aa}{k:iC}(ht:I S ao w')(hr:Row ao f v ba k)(hl:∀ax,ct v=H ax->ax<z (G ao))(ad:0<y k->∀x,S x->∃E bb fr,ao.heap[x]?=H (ar E bb fr)/\∃(au:M)(an:aa),k[au]?=H an/\an∉E.toList):Row w' f v ba k:=by
 obtain⟨q1,⟨p,q0⟩|⟨al,h,q,p,ac,hc⟩⟩:=hr;exact⟨q1,.inl ⟨p,q0⟩⟩;refine⟨q1,.inr ⟨al,h,q,p,ac,λav an hj=>?_⟩⟩;(have hg:¬S al:=by intro hs;(have aq:av<y k:=by grind);obtain⟨E,bb,fr,hx,au,u',hi,hu⟩:=ad (by omega) al hs;have:=hc au u' hi;rw[bL hx]at this;grind);exact ht.cell (hc av an hj) hg<|hl al (by rw[p];rfl)
theorem TT{m:cJ}{h:Array aa}(f:(∀k,Value.string k∉h.toList)\/∀ad al,Value.int ad al∉h.toList)(p:0<y (aF m)):∃(ac:M)(k:aa),(aF m)[ac]?=H k/\k∉h.toList:=by
 rcases m with _|⟨q,m⟩;simp[aF]at p;rcases f with f|f;exact⟨0,aj q.key,by simp[aF,E.cells],f _⟩;exact⟨3,aJ q.bP,by simp[aF,E.cells],f _ _⟩
theorem Sw{ts:cf}{f:Array aa}(p:∀h∈ts,h.ptr∉f.toList)(k:0<y (ts.map bA.ptr)):∃(E:M)(q:aa),(ts.map bA.ptr)[E]?=H q/\q∉f.toList:=by
 rcases ts with _|⟨h,ts⟩;simp at k;exact⟨0,h.ptr,by simp,p h<|by simp⟩
theorem On{S:fA}{aq w':Y}{tbqq:M}{dv:aa}{h cut k an:Z}{bb q f:M}{ac:aa}{p:mq}(ao:lS aq tbqq dv h cut k an bb q f ac p)(ht:I S aq w')(hS:∀x,S x->A5 aq x):lS w' tbqq dv h cut k an bb q f ac p:=by
 have ad:¬S tbqq:=λE=>by obtain⟨cs,av,fr,hx,h1,_⟩:=hS tbqq E;exact lL ao.box hx (λp=>h1 p.symm) rfl
 have hk:=ao.ne;have h3:(eI p)[3]?=H (aj (p[0]'hk).first):=by rcases p with _|⟨au,p⟩;simp at hk;simp[eI,rE.cells]
 have al:¬S bb:=λE=>by obtain⟨cs,av,fr,hx,_,E,_⟩:=hS bb E;(have h0:(eI p)[0]?=H (ap (p[0]'hk).pos):=by rcases p with _|⟨au,p⟩;simp at hk;simp[eI,rE.cells]);rcases E with E|E;(have:=ao.cells 3 _ h3;rw[bL hx]at this;grind);have:=ao.cells 0 _ h0;rw[bL hx]at this;grind
 exact ao.di (ht.block tbqq (am ao.box) ad)<|ht.block bb (dj _ _<|ao.cells 3 _ h3) al
section
variable{w W W':Y}{u db sbqq r x:M}{o Q:PB}{mem g mem' tab':Z}{n i out' want':aa}{O:cw (M×Obj)}{s s':SR}{K P:DK}{m m':cJ}{a b c d a' b' c' d':cf}{C C' tbqq X N N':M}{lsqq T:dL}{A zs':Zs}{t V:cw oo}{l l' B lc':LC}{j L e D:Bool}{S:fA}{v:aa}{ts:cf}{sn:fh}
theorem Gf.rX(ad:Gf W K db sbqq v ts)(p:I S W W')(hS:∀x,S x->A5 W x):Gf W' K db sbqq v ts where
 row:=Hr p ad.row (λao q=>(ad.loc ao q).lt) (λhj x hs=>by
  obtain⟨cs,aq,fr,hx,_,_,hp⟩:=hS x hs;exact⟨cs,aq,fr,hx,Sw (λt0 k c=>by
   obtain⟨bb,h,f,E,_⟩:=(ad.each t0 k).mem;obtain⟨al,t',an,hq,ac⟩:=hp _ c;exact lL E.box hq (λf=>ac f.symm) rfl) hj⟩)
 loc:=λao q=>(ad.loc ao q).grow p.size
 each:=λt0 k=>by
  obtain⟨⟨bb,h,f,E,hA⟩,q2,q3,q4,q5,q6,q7,q8⟩:=ad.each t0 k;exact⟨⟨bb,h,f,On E p hS,hA.grow p.size⟩,q2.grow p.size,q3,q4,q5,q6,q7,q8⟩
theorem Inv.rX(h:Inv W sbqq s K m a b c d C tbqq N lsqq sn)(f:I S W W')(hA:∀x,S x->Aside W K s.aH sbqq x)(k:∀x,S x->A5 W x)(hg:¬S 1/\¬S 2):Inv W' sbqq s K m a b c d C tbqq N lsqq sn:={h with
 st:={h.st with
  mem:=Hr f h.st.mem (λE p=>(h.st.tg E p).lt) (λhj x hs=>by
   obtain⟨cs,ad,fr,q,_,p,_⟩:=k x hs;exact⟨cs,ad,fr,q,TT p hj⟩)
  tg:=λE p=>(h.st.tg E p).grow f.size
  l0:=h.st.l0.rX f k
  l1:=h.st.l1.rX f k
  l2:=h.st.l2.rX f k
  l3:=h.st.l3.rX f k
  aH:=h.st.aH.aw f<|λE c ac=>(hA E ac).aU c
  kC:=⟨Steps.aw h.st.kC.steps f hg.1,h.st.kC.pow.aw f hg.2,h.st.kC.fw.grow f.size,h.st.kC.mi.grow f.size⟩}
 oU:=by
  obtain⟨b,h1,E,h3⟩:=h.oU.ex;refine⟨⟨b,h1,E.di (f.block b E.lt (λac=>?_)),h3.grow f.size⟩,h.oU.len⟩;obtain⟨cs,ad,fr,q,_⟩:=k b ac;obtain⟨es,p,hh,_⟩:=E;rw[hh]at q;cases q}
theorem Stood.rX(ac:Stood W db sbqq s K m a b c d C tbqq N lsqq sn e)(h:I S W W')(q:∀x,S x->Aside W K db sbqq x)(E:∀x,S x->A5 W x)(k:¬S 1/\¬S 2):Stood W' db sbqq s K m a b c d C tbqq N lsqq sn e:=by
 cases e with
 |true=>
  obtain⟨p,nx,lg,f,hL⟩:=ac;exact⟨p,nx,lg,f,{hL with aH:=hL.aH.aw h<|λE c p=>(q E p).aU c,steps:=Steps.aw hL.steps h k.1,pow:=hL.pow.aw h k.2}⟩
 |false=>
  obtain⟨p,rfl,f⟩:=ac;exact⟨p,rfl,f.rX h q E k⟩
theorem LW.still(h:LW w W u db sbqq r o mem g n i O s K m a b c d C tbqq N lsqq A t B e l j)(f:I az W W'):LW w W' u db sbqq r o mem g n i O s K m a b c d C tbqq N lsqq A t B e l j:=by
 have E:=h.rY.aH;have k:fY W W' db sbqq K K:=po E f;have p:bJ W' sbqq s 0:=(f.block sbqq (am h.rU) id).trans h.rU;exact h.Qb k.dm (λ_ q=>q) p (h.rY.rX f cO cO ⟨id,id⟩) h.wY h.oU h.tid ⟨h.num.1,ai _⟩ h.len h.lV
theorem LW.kC(h:LW w W u db sbqq r o mem g n i O s K m a b c d C tbqq N lsqq A t B e l j)(p:∀x,S x->z (G w)<=x):¬S 1/\¬S 2:=by
 have f:=h.g0.1.lt;have k:=h.g0.2.1.lt;grind
theorem Cs.G1{n0:M}(ac:Cs n0 W r o l j t)(h:x=r\/ct o.2=H x):A5 W x:=by
 rcases h with rfl|h;obtain⟨⟨v,hh,hp,hv⟩,_,_⟩:=ac.ref;have k:=hp.shape;obtain⟨sx,sc,p⟩:=aA ac.own;rw[p]at hh;refine⟨_,_,_,hh,by decide,.inl λal q=>?_,λq hq=>?_⟩;rcases k with rfl|⟨f,o0,E,rfl⟩<;>simp at q;grind
 obtain⟨ad,p⟩:=fR ac.own h;have hk:=ac.kind _ _ _ _ h p;refine⟨_,_,_,p,by decide,.inl λal q=>?_,λq hq=>?_⟩;rcases hk _ q with⟨f,k⟩|⟨a0,f,E,k⟩<;>cases k;rcases hk _ hq with⟨f,k⟩|⟨a0,f,E,k⟩<;>cases k
theorem LW.refs(h:LW w W u db sbqq r o mem g n i O s K m a b c d C tbqq N lsqq A t B e l j)(p:I (λk=>k=r\/ct o.2=H k) W W')(hr:Cs (z<|G w) W' r Q l' L V)(hB:∀k,KG Q V k->KG o t k\/z (G W)<=k)(hV:∀k,ct Q.2=H k->ct o.2=H k\/z (G W)<=k)(hN:y l'.2<=N):LW w W' u db sbqq r Q mem g n i O s K m a b c d C tbqq N lsqq A V B e l' L:=by
 have ad:=h.DC.lt;have an:=h.Jw.lt;have ac:=am h.rU;have E:∀k,ct o.2=H k->KG o t k:=λk q=>.inr<|.inl q;have f:∀k,(k=r\/ct o.2=H k)->NY W K db sbqq s k/\k≠u/\z (G w)<=k:=λk q=>by rcases q with rfl|q;exact⟨h.Jw,λao=>h.ne ao.symm,h.low.2.2.1⟩;exact⟨(h.zl k<|E k q).1,(h.zl k<|E k q).2.1,(h.ref.own.lt k q).1⟩
 refine⟨(p.block u ad<|λq=>(f u q).2.1 rfl).trans h.box,hr,(p.block sbqq ac<|λq=>(f sbqq q).1.ne rfl).trans h.rU,h.rY.rX p (λk q=>(f k q).1.toAside) (λk q=>h.ref.G1 q)<|h.kC<|λk q=>(f k q).2.2,h.wY,h.oU,h.tid,⟨h.num.1,hN⟩,h.len,h.lV,h.OC,h.aw.trans p<|λk q=>.inr (f k q).2.2,h.low,λk q=>⟨(h.zO k q).1,ag (h.zO k q).2 p.size⟩,h.qZ,h.DC.grow p.size,h.Jw.grow p.size,λk hk=>?_,λaq hp=>?_,h.ne,h.g0⟩;rcases hB k hk with q|q;exact⟨(h.zl k q).1.grow p.size,(h.zl k q).2⟩;exact⟨⟨⟨hr.lt k hk,λc=>by have:=h.rY.aH.lt k c;omega,by omega⟩,λao=>by have:=(h.zO k ao).2;omega⟩,by omega,by omega⟩;obtain⟨q1,q2,q3,q4,q5⟩:=h.obj aq hp;have al:=q2.lt;exact⟨(p.block _ al<|λq=>q.elim q4<|λq=>q5<|E _ q).trans q1,q2.grow p.size,q3,q4,λq=>(hB _ q).elim q5<|λq=>by omega⟩
theorem LW.LP{h:Option M}{E:jN}(ac:LW w W u db sbqq r o mem g n i O s K m a b c d C tbqq N lsqq A t B e l j)(hg:W.grownBy W' (H r))(hr:mO W' r h E L o.2)(f:h=o.1\/∀al,h=H al->z (G W)<=al):LW w W' u db sbqq r (h,o.2) mem g n i O s K m a b c d C tbqq N lsqq A t B e (E,l.2) L:=by
 have k:I (λp=>p=r) W W':=fm hg;refine ac.refs (k.mono<|λ_ q=>.inl<|.inl q) (ac.ref.re k hr (λp q=>(ac.zl p<|.inr q).2.2) f) (λp q=>?_) (λp q=>.inl q) ac.num.2;rcases q with q|q;rcases f with ad|ad;exact .inl<|.inl<|ad▸q;grind
 exact .inl<|.inr q
theorem LW.E6(h:LW w W u db sbqq r o mem g n i O s K m a b c d C tbqq N lsqq A t B e l j)(f:I (λk=>k=u) W W')(hb:W'.heap[u]?=H (ar #[ay db,ay sbqq,ay r,ap mem,ap g,out',want'] 41 (0,0)))(ao:Zc out'/\Zc want'):LW w W' u db sbqq r o mem g out' want' O s K m a b c d C tbqq N lsqq A t B e l j:=by
 have ac:=am h.rU;refine⟨hb,h.ref.aw f (λp=>h.ne p.symm)<|λav hg p=>(h.zl av hg).2.1 p,(f.block sbqq ac<|λp=>h.DC.ne p.symm).trans h.rU,?_,h.wY,h.oU,h.tid,h.num,h.len,h.lV,ao,h.aw.trans f<|λk p=>.inr (by have:=h.low.2.2.2;have:k=u:=p;omega),h.low,λk q=>⟨(h.zO k q).1,ag (h.zO k q).2 f.size⟩,h.qZ,h.DC.grow f.size,h.Jw.grow f.size,λk hk=>⟨(h.zl k hk).1.grow f.size,(h.zl k hk).2⟩,λau E=>⟨(f.block _ (h.obj au E).2.1.lt (h.obj au E).2.2.1).trans (h.obj au E).1,(h.obj au E).2.1.grow f.size,(h.obj au E).2.2⟩,h.ne,h.g0⟩;obtain⟨⟨_,_,_,s1⟩,_,_,_,s2⟩:=h.OC;have an:=h.ref.ref;obtain⟨⟨v,hh,_,_⟩,_,_⟩:=an;have ad:=h.rY.aH.iq;have aq:=h.rU;refine h.rY.rX f (λk p=>by have e':k=u:=p;rw[e'];exact h.DC.toAside) (λk p=>?_)<|h.kC (λk p=>by have:=h.low.2.2.2;have:k=u:=p;omega);have e':k=u:=p;subst e';refine⟨_,_,_,h.box,by decide,.inl λax q=>?_,λq hq=>?_⟩;rw[s1,s2]at q;simp at q;(have al:q=db\/q=sbqq\/q=r:=by rw[s1,s2]at hq;simpa using hq);rcases al with rfl|rfl|rfl;exact⟨_,_,_,ad,by decide⟩;exact⟨_,_,_,aq,by decide⟩;grind
theorem LW.add(h:LW w W u db sbqq r o mem g n i O s K m a b c d C tbqq N lsqq A t B e l j)(ht:I az W W'){p:M}{ac:Obj}(hk:z (G W)<=p)(E:W'.heap[p]?=H ac):LW w W' u db sbqq r o mem g n i ((p,ac)::O) s K m a b c d C tbqq N lsqq A t B e l j:=by
 have h':=h.still ht;refine{h' with obj:=λad k=>?_};rcases bH.1 k with rfl|k;have h1:=h.DC.lt;have h2:=h.Jw.lt;have h3:=am h.rU;exact⟨E,⟨⟨am E,λq=>by have:=h.rY.aH.lt p q;omega,by grind⟩,λq=>by have:=(h.zO p q).2;omega⟩,by grind,by grind,λq=>by have:=h.ref.lt p q;omega⟩;exact h'.obj ad k
end
def jh(w W:Y)(u db sbqq r:M)(o:PB)(mem g:Z)(n i:aa)(O:cw (M×Obj))(C N:M)(B:LC)(e:Bool)(l:LC)(j:Bool):Prop:=∃s K m a b c d tbqq lsqq A t,LW w W u db sbqq r o mem g n i O s K m a b c d C tbqq N lsqq A t B e l j
section
variable{w W W':Y}{u db sbqq r x:M}{o Q:PB}{mem g mem' tab':Z}{n i out' want':aa}{O:cw (M×Obj)}{C C' N N':M}{l l' B lc':LC}{j L e:Bool}
theorem jh.still(h:jh w W u db sbqq r o mem g n i O C N B e l j)(f:I az W W'):jh w W' u db sbqq r o mem g n i O C N B e l j:=by
 obtain⟨s,K,m,a,b,c,d,tbqq,lsqq,A,t,h⟩:=h;exact⟨s,K,m,a,b,c,d,tbqq,lsqq,A,t,h.still f⟩
theorem jh.LP{f:Option M}{k:jN}(p:jh w W u db sbqq r o mem g n i O C N B e l j)(q:W.grownBy W' (H r))(E:mO W' r f k L o.2)(h:f=o.1\/∀ac,f=H ac->z (G W)<=ac):jh w W' u db sbqq r (f,o.2) mem g n i O C N B e (k,l.2) L:=by
 obtain⟨s,K,m,a,b,c,d,tbqq,lsqq,A,t,p⟩:=p;exact⟨s,K,m,a,b,c,d,tbqq,lsqq,A,t,p.LP q E h⟩
theorem jh.box(h:jh w W u db sbqq r o mem g n i O C N B e l j):W.heap[u]?=H (ar #[ay db,ay sbqq,ay r,ap mem,ap g,n,i] 41 (0,0)):=by
 obtain⟨s,K,m,a,b,c,d,tbqq,lsqq,A,t,h⟩:=h;exact h.box
theorem jh.obj(h:jh w W u db sbqq r o mem g n i O C N B e l j){p:M×Obj}(f:p∈O):W.heap[p.1]?=H p.2:=by
 obtain⟨s,K,m,a,b,c,d,tbqq,lsqq,A,t,h⟩:=h;exact(h.obj p f).1
theorem jh.add(h:jh w W u db sbqq r o mem g n i O C N B e l j)(q:I az W W'){E:M}{ac:Obj}(k:z (G W)<=E)(p:W'.heap[E]?=H ac):jh w W' u db sbqq r o mem g n i ((E,ac)::O) C N B e l j:=by
 obtain⟨s,K,m,a,b,c,d,tbqq,lsqq,A,t,h⟩:=h;exact⟨s,K,m,a,b,c,d,tbqq,lsqq,A,t,h.add q k p⟩
theorem jh.drop{O':cw (M×Obj)}(h:jh w W u db sbqq r o mem g n i O C N B e l j)(k:∀p∈O',p∈O):jh w W u db sbqq r o mem g n i O' C N B e l j:=by
 obtain⟨s,K,m,a,b,c,d,tbqq,lsqq,A,t,h⟩:=h;exact⟨s,K,m,a,b,c,d,tbqq,lsqq,A,t,{h with obj:=λp f=>h.obj p (k p f)}⟩
theorem jh.ref(h:jh w W u db sbqq r o mem g n i O C N B e l j):mO W r o.1 l.1 j o.2:=by
 obtain⟨s,K,m,a,b,c,d,tbqq,lsqq,A,t,h⟩:=h;exact h.ref.ref
theorem jh.vG(h:jh w W u db sbqq r o mem g n i O C N B e l j):qH W:=by
 obtain⟨s,K,m,a,b,c,d,tbqq,lsqq,A,t,h⟩:=h;exact h.vG
theorem jh.aw(h:jh w W u db sbqq r o mem g n i O C N B e l j):I az w W:=by
 obtain⟨s,K,m,a,b,c,d,tbqq,lsqq,A,t,h⟩:=h;exact h.aw
theorem jh.XD(h:jh w W u db sbqq r o mem g n i O C N B e l j){E:M}{cs:Array aa}{fr:M×M}(hk:z (G w)<=E)(hm:∃ao,(E,ao)∈O)(hx:W.heap[E]?=H (ar cs 44 fr))(hi:∀q au,Value.int q au∉cs.toList)(hq:∀q,Value.pointer q∉cs.toList)(f:I (λac=>ac=E) W W'){O':cw (M×Obj)}(hO:∀an∈O',an∈O/\an.1≠E):jh w W' u db sbqq r o mem g n i O' C N B e l j:=by
 obtain⟨s,K,m,a,b,c,d,tbqq,lsqq,A,t,h⟩:=h;obtain⟨ao,hm⟩:=hm;obtain⟨_,hA,n1,n2,n3⟩:=h.obj (E,ao) hm;have al:=am h.rU;refine⟨s,K,m,a,b,c,d,tbqq,lsqq,A,t,(f.block u h.DC.lt<|λk=>n1 k.symm).trans h.box,h.ref.aw f (λk=>n2 k.symm)<|λaq hg k=>n3 (by have p:aq=E:=k;rw[<-p];exact hg),(f.block sbqq al<|λk=>hA.ne k.symm).trans h.rU,h.rY.rX f (λac k=>by have p:ac=E:=k;rw[p];exact hA.toAside) (λac k=>by have p:ac=E:=k;rw[p];exact⟨_,_,_,hx,by decide,.inr hi,λq ad=>absurd ad<|hq _⟩)<|h.kC (λac k=>by have p:ac=E:=k;rw[p];exact hk),h.wY,h.oU,h.tid,h.num,h.len,h.lV,h.OC,h.aw.trans f<|λac k=>.inr (by have:ac=E:=k;omega),h.low,λE q=>⟨(h.zO E q).1,ag (h.zO E q).2 f.size⟩,h.qZ,h.DC.grow f.size,h.Jw.grow f.size,λac hj=>⟨(h.zl ac hj).1.grow f.size,(h.zl ac hj).2⟩,λan hp=>?_,h.ne,h.g0⟩;obtain⟨q1,q2,q3⟩:=h.obj an (hO an hp).1;exact⟨(f.block _ q2.lt (hO an hp).2).trans q1,q2.grow f.size,q3⟩
theorem jh.mono(h:jh w W u db sbqq r o mem g n i O C N B e l j)(hC:C<=C')(q:C'<=1000000)(hN:N<=N')(E:N'<=100000000):jh w W u db sbqq r o mem g n i O C' N' B e l j:=by
 obtain⟨s,K,m,a,b,c,d,tbqq,lsqq,A,t,h⟩:=h;have hs:=h.rY;have hm:1000001*N<=1000001*N':=Nat.mul_le_mul_left _ hN;refine⟨s,K,m,a,b,c,d,tbqq,lsqq,A,t,{h with rY:=?_,num:=⟨aC h.num.1 hN,aC h.num.2 hN⟩,len:=aC h.len hC,lV:=q}⟩;cases e with
 |true=>
  obtain⟨ac,nx,lg,k,hL⟩:=hs;exact⟨ac,nx,lg,k,{hL with qf:=by have:=hL.qf;omega,lV:=q,nx:=by have:=hL.nx;omega,bn:=by have:=hL.bn;omega,eJ:=by have:=hL.eJ;omega,La:=E}⟩
 |false=>
  obtain⟨ac,k,hI⟩:=hs;exact⟨ac,k,hI.mono hC q hN E⟩
theorem jh.Gw(h:jh w W u db sbqq r o mem g n i O C N B e l j):sbqq<z (G W):=by
 obtain⟨s,K,m,a,b,c,d,tbqq,lsqq,A,t,h⟩:=h;exact am h.rU
def rV(F:DK->cf->cf->cf->cf->Prop)(w W:Y)(u db sbqq r:M)(o:PB)(mem g:Z)(n i:aa)(O:cw (M×Obj))(C N:M)(B:LC)(e:Bool)(l:LC)(j:Bool):Prop:=∃s K m a b c d tbqq lsqq A t,F K a b c d/\LW w W u db sbqq r o mem g n i O s K m a b c d C tbqq N lsqq A t B e l j
variable{F:DK->cf->cf->cf->cf->Prop}
theorem rV.ws(h:rV F w W u db sbqq r o mem g n i O C N B e l j):jh w W u db sbqq r o mem g n i O C N B e l j:=by
 obtain⟨s,K,m,a,b,c,d,tbqq,lsqq,A,t,_,h⟩:=h;exact⟨s,K,m,a,b,c,d,tbqq,lsqq,A,t,h⟩
theorem rV.up{Gqq:DK->cf->cf->cf->cf->Prop}(h:rV F w W u db sbqq r o mem g n i O C N B e l j)(f:∀K a b c d,F K a b c d->Gqq K a b c d):rV Gqq w W u db sbqq r o mem g n i O C N B e l j:=by
 obtain⟨s,K,m,a,b,c,d,tbqq,lsqq,A,t,k,h⟩:=h;exact⟨s,K,m,a,b,c,d,tbqq,lsqq,A,t,f _ _ _ _ _ k,h⟩
theorem rV.still(h:rV F w W u db sbqq r o mem g n i O C N B e l j)(f:I az W W'):rV F w W' u db sbqq r o mem g n i O C N B e l j:=by
 obtain⟨s,K,m,a,b,c,d,tbqq,lsqq,A,t,k,h⟩:=h;exact⟨s,K,m,a,b,c,d,tbqq,lsqq,A,t,k,h.still f⟩
theorem rV.add(h:rV F w W u db sbqq r o mem g n i O C N B e l j)(q:I az W W'){E:M}{ac:Obj}(k:z (G W)<=E)(p:W'.heap[E]?=H ac):rV F w W' u db sbqq r o mem g n i ((E,ac)::O) C N B e l j:=by
 obtain⟨s,K,m,a,b,c,d,tbqq,lsqq,A,t,f,h⟩:=h;exact⟨s,K,m,a,b,c,d,tbqq,lsqq,A,t,f,h.add q k p⟩
theorem rV.drop{O':cw (M×Obj)}(h:rV F w W u db sbqq r o mem g n i O C N B e l j)(k:∀p∈O',p∈O):rV F w W u db sbqq r o mem g n i O' C N B e l j:=by
 obtain⟨s,K,m,a,b,c,d,tbqq,lsqq,A,t,q,h⟩:=h;exact⟨s,K,m,a,b,c,d,tbqq,lsqq,A,t,q,{h with obj:=λp f=>h.obj p (k p f)}⟩
end
theorem sB{B:M}{n:dL}{l:jN}{t:Z}(s:PR B n)(v:tH (n.map<|jQ t) l)(m o:ab)(k:Z):sW t m o k n=nw l m o k:=by
 have r:∀w∈n.map (fT m),gN w:=λw q=>by obtain⟨A,u,rfl⟩:=bW.1 q;exact(s.row A u).sub fa
 have p:kh (n.map<|fT m):=by unfold kh;rw[jp];exact s.nR.imp λ{w A}q o m k n x=>q o (dZ.1 m).1 k (dZ.1 n).1 x
 exact Ql v (λn x q=>QY q) m o k (lP (lN r p) t)<|Rn s.row s.nR m t
theorem Hp(t:Z)(m:ab):∀(k:cw (aa×cJ)),(∀r∈k.map (·.2),gN r)->wL t m k=rk ((k.map (·.2)).map<|jQ t) m
 |[],_=>rfl
 |r::k,n=>by
  have p:=Hp t m k (λx o=>n x<|by grind);unfold wL rk at*;grind[TN]
theorem Nb{K:M}{L:SR}{t:cJ}{p q r s:cf}{l:jN}{D:Z}(v:PR K (t::bV p q r s))(w:tH ((t::bV p q r s).map<|jQ D) l)(k:ab):PJ k D (oq L t p q r s)=dw #[aj (su l k).1,aK (su l k).2.1,kN (su l k).2.2]:=by
 unfold PJ;by_cases n:1<=k.size/\k.size<=8;have u:su l k=((qt l k).1,(qt l k).2,0):=dr (by omega);rw[dz n,u,Hp _ _ _ (by rw[rf];exact v.row),rf,Ua w k];unfold seen;rcases hq:rk ((t::bV p q r s).map<|jQ D) k with _|E;rfl;(have x:E.Good:=by obtain⟨P,A,B⟩:=bE.1<|QX hq;obtain⟨o,m,rfl⟩:=bW.1 A;exact v.iX E<|bE.2 ⟨o,m,zT (v.row o m) B⟩);rcases hd:E.del with _|_;simp[Yt,hd];rfl;simp[Yt,hd,x.del hd];rfl;have u:su l k=(⟨#[]⟩,aY,3):=dz (by omega);rw[dr n,u]
theorem Ho(k v:ab)(l:jN):∀e:jN,l.foldl (fX k v) (e,bU)=(e++l.filter (λp=>!decide (p.1=k)),bU):=by
 induction l with
 |nil=>intro e;simp
 |cons p l m=>
  grind[Hj,Hi]
theorem UX(l:jN)(m v k:ab):wU l m v bU=wU l m k bU:=by
 unfold wU qh;rw[Ho,Ho];simp
theorem YA{r:dL}(n:Z)(k:uP):∀{q:cJ}{l:jN},wO q->tH (q::r) l->tH (gQ q (k.map<|ma n)::r) (Us l k):=by
 induction k with
 |nil=>intro q l _ s;exact s
 |cons m k u=>
  intro q l p s;have o:=WX p s<|ma n m;have t:wU l (ma n m).key (ma n m).val (ma n m).del=wU l m.key m.val m.del:=by
   unfold ma;grind[UX]
  rw[t]at o;exact u (wO.gQ p [ma n m]) o
section
variable{i W:Y}{j db sbqq h:M}{g:PB}{mem b:Z}{e c:aa}{O:cw (M×Obj)}{C N:M}{l d:LC}{f a:Bool}
theorem LW.now{w:SR}{K:DK}{v:cJ}{q r s t:cf}{m:M}{k:dL}{p:Zs}{o:cw oo}(u:LW i W j db sbqq h g mem b e c O w K v q r s t C m N k p o d aY l f):tH ((v::bV q r s t).map<|jQ w.aW) d.1:=by
 obtain⟨_,_,n⟩:=u.rY;rw[bZ,n.mem,n.Bq];exact u.wY
theorem LW.shut{p:Y}{L:SR}{K:DK}{X:cJ}{P Q T V:cf}{n:M}{m:dL}{w:Zs}{v:cw oo}(o:LW i W j db sbqq h g mem b e c O L K X P Q T V C n N m w v d bU l f)(B:bJ p sbqq L 0)(r:I (λu=>u=sbqq) W p):LW i p j db sbqq h g mem b e c O L K X P Q T V C n N m w v d bU l f:=by
 obtain⟨x,E,D,k,hL⟩:=o.rY;have s:fY W p db sbqq K K:=Ch hL.aH o.qZ r;have t:=o.kC (S:=λu=>u=sbqq) (λu x=>by have A:u=sbqq:=x;rw[A];exact o.low.2.1);exact o.Qb s.dm (λ_ q=>q) B ⟨x,E,D,k,{hL with aH:=s.ok,steps:=Steps.aw hL.steps r t.1,pow:=hL.pow.aw r t.2}⟩ o.wY o.oU o.tid ⟨o.num.1,ai _⟩ o.len o.lV
theorem LW.read{t:Y}{s:SR}{K:DK}{B:cJ}{v w x A:cf}{m:M}{k:dL}{r:Zs}{u:cw oo}(n:LW i W j s.aH sbqq h g mem b e c O s K B v w x A C m N k r u d aY l f)(E:Inv W sbqq s K B v w x A C m N k (io 1 r))(Q:vI W t sbqq s K B v w x A C):jh i t j s.aH sbqq h g mem b e c O C N d aY l f:=by
 obtain⟨D,P,S,T,L,o⟩:=E.reads (am n.rU) Q;obtain⟨p,_,_⟩:=n.rY;exact⟨s,D,B,v,w,x,A,m,k,r,u,n.Qb P.dm (λ_ q=>q) L ⟨p,rfl,o⟩ n.wY n.oU n.tid ⟨n.num.1,ai _⟩ n.len n.lV⟩
theorem LW.Uy{S:Y}{ac s':SR}{Q:DK}{E:cJ}{r s t u:cf}{o:M}{n:dL}{an:DK}{ax:cJ}{ao aq au av:cf}{x:M}{w:dL}{A:Zs}{ss:cw oo}{B L p:M}{m:jN}{D:Z->ab->Option ab}(T:LW i W j ac.aH sbqq h g mem b e c O ac an ax ao aq au av C x N w A ss d aY l f)(k:Gh W S sbqq ac 0 an B L (io 1 A) p D s' Q E r s t u o n)(hl:y m<=B)(hT:B<=1000000)(V:N<=L)(X:yZ m/\∀K ad,(K,ad)∈m↔D p K=H ad)(v:∀al,al∈qY (io 1 A)->∀q,D al q=eY al (ax::bV ao aq au av) q):LW i S j ac.aH sbqq h g mem b e c O s' Q E r s t u B o L n A ss (m,d.2) aY l f:=by
 obtain⟨P,_,_⟩:=T.rY;obtain⟨g1,g2,g3,g4,g5,g6⟩:=k.same;obtain⟨p1,p2,p3⟩:=T.oU rfl;obtain⟨t1,t2,_⟩:=T.tid rfl;refine T.Qb k.eW.dm (λK q=>g6▸q) k.box ⟨g2.trans P,g1,k.inv⟩ ?_ (λ_=>⟨p1,g5.trans p2,λba hx=>(p3 ba hx).congr<|λq=>?_⟩) (λ_=>⟨g3.trans t1,g4.trans t2,k.tid⟩) ⟨aC T.num.1 V,V⟩ hl hT;(have bb:gQ [] n.flatten::(bV r s t u).map (jQ ((o+y n:M):Z))=(E::bV r s t u).map (jQ p):=by rw[bZ,<-k.Bq,k.inv.mem,k.inv.Bq]);rw[bb];exact⟨X.1,λK ad=>by rw[show seen ((E::bV r s t u).map<|jQ p) K=D p K from k.uC p (.inr rfl) K];exact X.2 K ad⟩;have ht:=yH A 1 ba hx;exact(k.uC _ (.inl ht) q).trans<|v _ ht q
theorem LW.wrote{w:Y}{B:SR}{ad:DK}{av:cJ}{al an ao aq:cf}{o:M}{n:dL}{r:Zs}{A:cw oo}{p s x:M}{k:jN}{t:Z->ab->Option ab}(ba:LW i W j B.aH sbqq h g mem b e c O B ad av al an ao aq C o N n r A d aY l f)(T:nY W w sbqq B 0 ad p s (io 1 r) x t)(hl:y k<=p)(V:p<=1000000)(Q:N<=s)(X:yZ k/\∀au ax,(au,ax)∈k↔t x au=H ax)(m:∀ac,ac∈qY (io 1 r)->∀q,t ac q=eY ac (av::bV al an ao aq) q):jh i w j B.aH sbqq h g mem b e c O p s (k,d.2) aY l f:=by
 obtain⟨s',D,m',E,K,L,P,v,u,S⟩:=T;exact⟨s',D,m',E,K,L,P,v,u,r,A,ba.Uy S hl V Q X m⟩
def Zb(F:DK->cf->cf->cf->cf->Prop)(a:Bool)(k:DK)(m n o p:cf):Prop:=∃K,F K m n o p/\(k=K\/a=aY/\Uq (yi m n o p) K k)
variable{F:DK->cf->cf->cf->cf->Prop}
theorem LW.YY{p:Y}{t:SR}{K:DK}{E:cJ}{u v w x:cf}{m:M}{k:dL}{o:Zs}{L:cw oo}(n:LW i W j t.aH sbqq h g mem b e c O t K E u v w x C m N k o L d aY l f)(B:Inv W sbqq t K E u v w x C m N k (io 1 o))(hF:F K u v w x)(V:Xr W p sbqq t K E u v w x C):rV (Zb F aY) i p j t.aH sbqq h g mem b e c O C N d aY l f:=by
 obtain⟨A,T,D,P,Q,e3,S,X⟩:=V;have r:Inv p sbqq t A E u v w x C m N k (io 1 o):=B.eW (am n.rU) D (by rw[P]) (by rw[Q];grind) rfl B.loose;obtain⟨s,_,_⟩:=n.rY;exact⟨t,A,E,u,v,w,x,m,k,o,L,⟨K,hF,.inr ⟨rfl,T⟩⟩,n.Qb D.dm (λ_ q=>q) S ⟨s,rfl,r⟩ n.wY n.oU n.tid ⟨n.num.1,ai _⟩ n.len n.lV⟩
theorem ZB(p:rV F i W j db sbqq h g mem b e c O C N d a l f)(k:ab)(v:k.size<=140737488351232):cD bz 41 #[ay sbqq,aj k] W λt q=>t=aL (if a then .tuple #[aj ⟨#[]⟩,aK aY,kN 6]else .tuple #[aj (su d.1 k).1,aK (su d.1 k).2.1,kN (su d.1 k).2.2])/\rV (Zb F a) i q j db sbqq h g mem b e c O C N d a l f:=by
 obtain⟨P,K,L,A,B,D,E,o,n,x,w,hF,p⟩:=p;cases a with
 |true=>
  apply(PN k p.rU p.rY.1).mono;rintro t q⟨rfl,m,r⟩;exact⟨rfl,P,K,L,A,B,D,E,o,n,x,w,⟨K,hF,.inl rfl⟩,p.shut m r⟩
 |false=>
  have m:=p.now;obtain⟨s,rfl,r⟩:=p.rY;apply(Wt k p.rU r.st s v).mono;rintro t q⟨rfl,u⟩;refine⟨?_,p.YY r hF u⟩;rw[Nb r.all m];rfl
def Kb(a:Bool)(k:YO)(n:Z)(m:ab):ab×Bool×Z:=if a then(⟨#[]⟩,aY,6)else match Xl k n with
 |some l=>su l m
 |none=>(⟨#[]⟩,aY,5)
theorem VN(o:rV F i W j db sbqq h g mem b e c O C N d a l f)(s:Z)(k:ab)(D:k.size<=140737488351232):cD bz 48 #[ay sbqq,ap s,aj k] W λx q=>x=aL (dw #[aj (Kb a d.2 s k).1,aK (Kb a d.2 s k).2.1,kN (Kb a d.2 s k).2.2])/\rV (Zb F a) i q j db sbqq h g mem b e c O C N d a l f:=by
 obtain⟨ac,P,X,Q,S,T,V,n,m,u,L,hF,o⟩:=o;cases a with
 |true=>
  apply(Kd s k o.rU o.rY.1).mono;rintro x q⟨rfl,p,r⟩;exact⟨rfl,ac,P,X,Q,S,T,V,n,m,u,L,⟨P,hF,.inl rfl⟩,o.shut p r⟩
 |false=>
  obtain⟨E,p2,K⟩:=o.oU rfl;obtain⟨r,rfl,p⟩:=o.rY;apply(PO (io 1 u) s k o.rU p.st p.oU r D).mono;rintro x q⟨rfl,A⟩;refine⟨?_,o.YY p hF A⟩;unfold Kb;rw[<-E];rcases BA u s with⟨ad,t,_,B,v,w⟩|⟨v,w⟩
  .simp only[v,w];rw[Nb p.all<|K t<|gp B];rfl
  grind
def zi(a:Bool)(o:YO)(p:Z)(n m:ab)(k:Z):jN×Z:=if a then([],6)else match Xl o p with
 |some l=>(nw l n m k,0)
 |none=>([],5)
theorem SZ(q:jh i W j db sbqq h g mem b e c O C N d a l f)(D:Z)(m o:ab)(k:Z):cD bz 50 #[ay sbqq,ap D,aj m,aj o,ap k] W λK p=>∃v,K=aL (dw #[v,kN (zi a d.2 D m o k).2])/\zW W p v (zi a d.2 D m o k).1/\jh i p j db sbqq h g mem b e c O C N d a l f:=by
 obtain⟨an,T,al,V,X,ac,ad,t,s,w,S,q⟩:=q;cases a with
 |true=>
  apply(Gv D m o k q.rU q.rY.1).mono;rintro K p⟨rfl,n,r⟩;exact⟨_,rfl,bK _ _ _ _,an,T,al,V,X,ac,ad,t,s,w,S,q.shut n r⟩
 |false=>
  obtain⟨P,p2,Q⟩:=q.oU rfl;obtain⟨r,rfl,n⟩:=q.rY;unfold zi;rw[<-P];rcases BA w D with⟨ao,u,_,L,x,A⟩|⟨x,A⟩
  .apply(Lu (io 1 w) D u.1 m o k n.oU x q.rU n.st r).mono;rintro K p⟨v,rfl,E,B⟩;rw[sB n.all<|Q u<|gp L]at E;simp only[A];exact⟨v,rfl,E,q.read n B⟩
  .apply(Lv (io 1 w) D m o k q.rU n.st n.oU r x).mono;rintro K p⟨rfl,B⟩;simp only[A];exact⟨_,rfl,bK _ _ _ _,q.read n B⟩
theorem Fj(q:jh i W j db sbqq h g mem b e c O C N d a l f)(m n:ab)(k:Z):cD bz 47 #[ay sbqq,aj m,aj n,ap k] W λD r=>∃p,D=aL p/\zW W r p (if a=bU\/k<=0 then []else nw d.1 m n k)/\jh i r j db sbqq h g mem b e c O C N d a l f:=by
 by_cases B:k<=0;apply(GC W sbqq m n k B).mono;rintro D r⟨rfl,A⟩;exact⟨_,rfl,by rw[dz<|.inr B];exact bK _ _ _ _,q.still A⟩
 .obtain⟨X,ac,V,P,Q,S,T,t,s,L,K,q⟩:=q;cases a with
  |true=>
   apply(Dx m n k (by omega) q.rU q.rY.1).mono;rintro D r⟨p,rfl,v,o,A⟩;exact⟨p,rfl,by rw[dz<|.inl rfl];exact v,X,ac,V,P,Q,S,T,t,s,L,K,q.shut o A⟩
  |false=>
   have o:=q.now;obtain⟨w,rfl,u⟩:=q.rY;have x:y (sW X.aW m n 0<|V::bV P Q S T)<=1000000000:=by
    rw[sB u.all o];have:=mS d.1 m n 0;have:=q.len;have:=q.lV;omega
   apply(GB m n k (by omega) q.rU u.st w x).mono;rintro D r⟨p,rfl,v,E⟩;rw[Sc _ m n k (by omega),sB u.all o]at v;exact⟨p,rfl,by rw[dr<|by grind];exact v,q.read u E⟩
def rp(d:jN)(k:uP):jN:=if ga k=0 then Us d k else d
theorem IS(d:jN)(k:uP)(m:y d<=C):y (rp d k)<=C+lk k:=by
 unfold rp lk;by_cases q:ga k=0;rw[dz q,dz q];have:=FL d k;omega;grind
theorem wH{s:SR}{ac:DK}{B:cJ}{u w x A:cf}{r:M}{p:dL}{o:fh}{d:jN}(m:Inv W sbqq s ac B u w x A C r N p o)(E:tH ((B::bV u w x A).map<|jQ s.aW) d)(k:uP):(yZ (rp d k)/\∀n v,(n,v)∈rp d k↔xC o B (bV u w x A) ((s.aW:Z)+1) k (zm s.aW k) n=H v)/\∀Q,Q∈qY o->∀q,xC o B (bV u w x A) ((s.aW:Z)+1) k Q q=eY Q (B::bV u w x A) q:=by
 unfold rp xC zm;by_cases q:ga k=0;rw[dz q,dz q,dz q];obtain⟨_,hk,hv⟩:=Dk q;have T:=m.bn;have V:=m.lV;(have K:∀S∈k.map (ma<|(s.aW:Z)+1),S.Good:=λS P=>by grind[FH]);(have D:∀S∈k.map (ma<|(s.aW:Z)+1),S.bP=(s.aW:Z)+1:=λS P=>by obtain⟨X,hy,rfl⟩:=bW.1 P;rfl);refine⟨?_,λQ L n=>by rw[dz q];exact m.VA K D L n⟩;have t:=YA ((s.aW:Z)+1) k (lP m.row _) E;rcases k with _|⟨c0,k⟩;refine⟨t.1,λn v=>?_⟩;rw[t.2 n v];show _↔eY s.aW (gw o B []::bV u w x A) n=H v;rw[<-m.yE (.inr rfl) n];rfl;refine⟨t.1,λn v=>?_⟩;rw[t.2 n v];show _↔eY ((s.aW+1:M):Z) (gw o B _::bV u w x A) n=H v;rw[show((s.aW+1:M):Z)=(s.aW:Z)+1 by omega,m.VE K D n];rw[dr q,dr q,dr q];exact⟨E,λQ L n=>by rw[dr q]⟩
theorem Fi(o:jh i W j db sbqq h g mem b e c O C N d a l f)(r:aa)(m:uP)(k:Bool)(x:yp W r m)(v:∀P,ct r=H P->P<z (G W)/\P≠sbqq)(L:∀S∈m,S.key.size<=140737488351232/\S.val.size<=140737488351232)(K:y m<=1000000000)(t:C+lk m<=1000000)(A:N+1<=100000000):cD bz 20 #[ay sbqq,r,aK k] W λD s=>D=aL (kN<|if a then 6 else ga m)/\jh i s j db sbqq h g mem b e c O (C+lk m) (N+1) (if a then d.1 else rp d.1 m,d.2) a l f:=by
 obtain⟨an,T,al,V,X,ac,ad,q,p,B,Q,o⟩:=o;cases a with
 |true=>
  apply(Ae r k o.rU o.rY.1).mono;rintro D s⟨rfl,n,u⟩;exact⟨rfl,jh.mono ⟨an,T,al,V,X,ac,ad,q,p,B,Q,o.shut n u⟩ (by omega) t (by omega) A⟩
 |false=>
  have n:=o.now;obtain⟨w,rfl,u⟩:=o.rY;apply(DR (io 1 B) k o.rU u (o.tid rfl).2.2 w x v L K t A).mono;rintro D s⟨rfl,E⟩;exact⟨rfl,o.wrote E (IS d.1 m o.len) t (by omega) (wH u n m).1 (wH u n m).2⟩
theorem VM(q:jh i W j db sbqq h g mem b e c O C N d a l f)(m r n o:ab)(p:Bool)(T:n.size<=140737488351232/\o.size<=140737488351232)(A:C+lk [⟨n,o,p⟩]<=1000000)(L:N+1<=100000000):cD bz 82 #[ay sbqq,aj m,aj r,dW #[aj n,aj o,aK p]] W λQ w=>∃s,Q=aL (dw #[s,ap<|if a then 6 else ga [⟨n,o,p⟩]])/\zW W w s (if a then []else nw d.1 m r 0)/\jh i w j db sbqq h g mem b e c O (C+lk [⟨n,o,p⟩]) (N+1) (if a then d.1 else rp d.1 [⟨n,o,p⟩],d.2) a l f:=by
 obtain⟨ao,aq,an,X,ac,ad,al,v,u,P,V,q⟩:=q;have K:=q.vG;have E:=q.E3;cases a with
 |true=>
  apply(GA m r n o p q.rU q.rY.1 K E.1).mono;rintro Q w⟨s,rfl,x,k,t⟩;exact⟨s,rfl,x,jh.mono ⟨ao,aq,an,X,ac,ad,al,v,u,P,V,q.shut k t⟩ (by omega) A (by omega) L⟩
 |false=>
  have k:=q.now;obtain⟨B,rfl,t⟩:=q.rY;have D:y (sW ao.aW m r 0<|an::bV X ac ad al)<=1000000000:=by
   rw[sB t.all k];have:=mS d.1 m r 0;have:=q.len;have:=q.lV;omega
  apply(Mc (io 1 P) m r n o p q.rU t (q.tid rfl).2.2 B K E T A L D).mono;rintro Q w⟨s,rfl,x,S⟩;rw[sB t.all k]at x;exact⟨s,rfl,x,q.wrote S (IS d.1 _ q.len) A (by omega) (wH t k _).1 (wH t k _).2⟩
def Lz(a:Bool)(d:LC)(_:DK)(k m n o:cf):Prop:=a=aY->k=[]/\m=[]/\n=[]/\((∀x∈d.2,x=none)->iF o=y d.1)
theorem Ps(o:jh i W j db sbqq h g mem b e c O C N d a l f)(A:N+1<=100000000):cD bz 27 #[ay sbqq] W λac t=>ac=aL (kN<|if a then 6 else 0)/\rV (Lz a d) i t j db sbqq h g mem b e c O C (N+1) d a l f:=by
 obtain⟨al,K,ad,E,P,S,V,m,k,p,s,o⟩:=o;have B:=o.lV;cases a with
 |true=>
  apply(Dy o.rU o.rY.1).mono;rintro ac t⟨rfl,n,r⟩;obtain⟨al,K,ad,E,P,S,V,m,k,p,s,o⟩:=jh.mono ⟨al,K,ad,E,P,S,V,m,k,p,s,o.shut n r⟩ (ai _) B (Nat.le_succ N) A;exact⟨rfl,al,K,ad,E,P,S,V,m,k,p,s,(λq=>by cases q),o⟩
 |false=>
  have n:=o.now;obtain⟨u,rfl,x⟩:=o.rY;obtain⟨p1,_,_⟩:=o.oU rfl;apply(GM (io 1 p) o.rU x (o.tid rfl).2.2 u A).mono;rintro ac t⟨rfl,s',D,m',L,Q,T,X,w,v,hO,x0,x1,x2,x3⟩;refine⟨rfl,s',D,m',L,Q,T,X,w,v,p,s,(λ_=>⟨x0,x1,x2,λq=>?_⟩),o.Uy hO o.len B (Nat.le_succ N) n<|λ_ _ _=>rfl⟩;have r:=yJ p 1;rw[p1,gV.2 (λx k=>by rw[q x k];simp)]at r;rw[x3,aP r];exact Tg x.all n
theorem My(t:jh i W j db sbqq h g mem b e c O C N d a l f):cD bz 28 #[ay sbqq] W λv u=>v=aL (kN<|if a then 6 else 0)/\jh i u j db sbqq h g mem b e c O C N d bU l f:=by
 obtain⟨K,Q,ad,V,X,E,ac,n,m,P,L,t⟩:=t;cases a with
 |true=>
  apply(Xc t.rU t.rY.1).mono;rintro v u⟨rfl,x,k⟩;exact⟨rfl,K,Q,ad,V,X,E,ac,n,m,P,L,t.shut x k⟩
 |false=>
  have r:=t;obtain⟨A,rfl,k⟩:=t.rY;have B:=t.kC (S:=λQ=>Q=sbqq) (λQ v=>by have e':Q=sbqq:=v;rw[e'];exact t.low.2.1);have s:∀{v:aa}{T k:M}{m:iC},Row W k v T m->∃x T E,v=J x T E:=λq=>by
   grind[vh]
  refine(Ud t.rU A (s k.st.mem) (s k.st.l0.row) (s k.st.l1.row) (s k.st.l2.row) (s k.st.l3.row) k.st.aH k.st.qZ k.st.kC.pow (λv=>B.2 v.symm) (by have:=k.qF.lt;have:=k.nx;have:=k.lV;omega) (λq=>⟨_,k.qF.log<|k.loose q,by have:=k.OK.1;omega⟩) (by have:=k.eJ;have:=k.lV;omega)).mono ?_;rintro v u⟨rfl,D,p,hf,hm,x⟩;have o:=k.laid;have w:uO u K.aH D V X E ac C n N K.next K.log K.gE m:=o.again p.ok (λT=>by rw[hf]) hm (Steps.aw o.steps p.aw<|λq=>q.elim o.fw B.1) (o.pow.aw p.aw<|λq=>q.elim o.mi B.2) (λq=>(p.aU _ q).elim o.fw (λk=>by have:=o.steps.lt;omega))<|λq=>(p.aU _ q).elim o.mi (λk=>by have:=o.pow.lt;omega);exact⟨rfl,_,D,ad,V,X,E,ac,n,m,P,L,r.Qb p.dm (λQ q=>by cases q) x ⟨rfl,_,_,_,w⟩ r.wY (λq=>by cases q) (λq=>by cases q) ⟨r.num.1,ai _⟩ r.len r.lV⟩
def sU(a:Bool)(k:LC):Z×Z×YO:=if a then(0,6,k.2)else if 4<=y (k.2.filter Option.isSome)then(0,2,k.2)else((y k.2:Z)+1,0,k.2++[H k.1])
theorem Mx(m:jh i W j db sbqq h g mem b e c O C N d a l f)(B:N+1<=100000000):cD bz 23 #[ay sbqq] W λw x=>w=aL (dw #[ap (sU a d).1,kN (sU a d).2.1])/\jh i x j db sbqq h g mem b e c O C (N+1) (d.1,(sU a d).2.2) a l f:=by
 obtain⟨s,al,av,an,ao,aq,au,o,n,k,V,m⟩:=m;have A:=m.lV;cases a with
 |true=>
  apply(Du m.rU m.rY.1).mono;rintro w x⟨rfl,D,K⟩;exact⟨rfl,jh.mono ⟨s,al,av,an,ao,aq,au,o,n,k,V,m.shut D K⟩ (ai _) A (by omega) B⟩
 |false=>
  have Q:=m.now;obtain⟨L,T,p3⟩:=m.oU rfl;have E:=yJ k 1;rw[L]at E;have v:=Sb k;rw[L]at v;obtain⟨r,rfl,t⟩:=m.rY;by_cases P:4<=y (d.2.filter Option.isSome)
  .have w:sU aY d=(0,2,d.2):=by unfold sU;rw[dr (by simp),dz P]
   rw[w];apply(Gr (io 1 k) m.rU t.st t.oU r<|by omega).mono;rintro w x⟨rfl,p⟩;exact⟨rfl,(m.read t p).mono (ai _) A (by omega) B⟩
  .have w:sU aY d=((y d.2:Z)+1,0,d.2++[H d.1]):=by unfold sU;rw[dr (by simp),dr P]
   rw[w];obtain⟨S,u,ad,ac⟩:=t.oU.ex;refine(Gq (io 1 k) S m.rU t r (by omega) (λba hp=>by have:=vq k 1 ba hp;omega) (by have:=m.num.1;omega) u).mono ?_;rintro w x⟨rfl,D,p,K⟩;have X:io 1 k++[(s.ie+1,s.aW)]=io 1 (k++[H (s.aW,d.1)]):=by rw[zP,T,vN]
   rw[X]at p;refine⟨by rw[T,v];rfl,⟨{s with ie:=s.ie+1},al,av,an,ao,aq,au,o,n,k++[H (s.aW,d.1)],V,m.Qb (s':={s with ie:=s.ie+1}) (N':=N+1) (zs':=k++[H (s.aW,d.1)]) (lc':=(d.1,d.2++[H d.1])) ⟨p.st.aH,K.mono<|λax q=>.inl<|q.imp id (λ(w:ax=S)=>by rw[w];exact u),λ_ q=>.inl q⟩ (λ_ q=>q) D ⟨r,rfl,p.mono (ai _) A (by omega) B⟩ m.wY (λ_=>⟨by rw[OH,L],by grind,λbb hx=>?_⟩) m.tid ⟨by have:=m.num.1;simp;omega,by omega⟩ m.len A⟩⟩;grind
def OR(a:Bool)(k:YO)(n:Z):Z×YO:=if a then(6,k)else match Xl k n with
 |some _=>(0,k.set (n-1).toNat none)
 |none=>(5,k)
theorem Pr(m:jh i W j db sbqq h g mem b e c O C N d a l f)(A:Z):cD bz 25 #[ay sbqq,ap A] W λT B=>T=aL (kN (OR a d.2 A).1)/\jh i B j db sbqq h g mem b e c O C N (d.1,(OR a d.2 A).2) a l f:=by
 obtain⟨s,al,S,an,ao,aq,au,p,o,k,ss,m⟩:=m;have hT:=m.lV;cases a with
 |true=>
  apply(ED A m.rU m.rY.1).mono;rintro T B⟨rfl,K,P⟩;exact⟨rfl,s,al,S,an,ao,aq,au,p,o,k,ss,m.shut K P⟩
 |false=>
  have D:=m.now;obtain⟨Q,p2,p3⟩:=m.oU rfl;obtain⟨t,rfl,v⟩:=m.rY;unfold OR;rcases BA k A with⟨V,x,hn,hy,E,u⟩|⟨E,u⟩
  .rw[Q]at u;simp only[u];obtain⟨X,w,ad,ac⟩:=v.oU.ex;apply(Jr (io 1 k) A X x.1 m.rU v t E w).mono;rintro T B⟨rfl,mv,K,r,n,P⟩;have hj:(A-1).toNat=V:=by omega
   have e3:lX (io 1 k) A=io 1 (k.set V none):=by
    rw[<-BU k 1 V x hy,hn];grind
   rw[e3]at r n;have L:∀S,H S∈k.set V none->H S∈k:=λS D=>(jR D).elim id (λq=>by cases q);refine⟨rfl,{s with memory:=mv},al,_,an,ao,aq,au,p,o,k.set V none,ss,m.Qb (s':={s with memory:=mv}) (lc':=(d.1,d.2.set (A-1).toNat none)) ⟨r.st.aH,P.mono<|λu q=>.inl<|q.imp id (λ(T:u=X)=>by rw[T];exact w),λ_ q=>.inl q⟩ (λ_ q=>q) K ⟨t,rfl,r⟩ m.wY (λ_=>⟨by rw[Sa,Q,hj],by rw[eS];exact p2,λS D=>(p3 S<|L S D).congr<|λq=>n _ (.inl<|yH _ 1 S D) q⟩) m.tid ⟨by rw[eS];exact m.num.1,ai _⟩ m.len hT⟩
  .rw[Q]at u;simp only[u];apply(Js (io 1 k) A m.rU v.st v.oU t E).mono;rintro T B⟨rfl,n⟩;exact⟨rfl,m.read v n⟩
end
section
variable{i W:Y}{j db sbqq f:M}{d:PB}{mem c:Z}{g e:aa}{O:cw (M×Obj)}{C N:M}{l h:LC}{b a:Bool}
theorem jh.Vj(m:jh i W j db sbqq f d mem c g e O C N h a l b)(o:Z)(k:ab)(s:k.size<=140737488351232):cD bz 49 #[ay f,ap o,aj k] W λv u=>v=aL (dw #[aj (Kb b l.2 o k).1,aK (Kb b l.2 o k).2.1,ap (Kb b l.2 o k).2.2])/\u=W:=by
 obtain⟨P,K,L,B,D,E,F,p,n,A,t,m⟩:=m;refine(Jv d.1 t o k m.ref.ref m.ref.Gj (λx r=>by have:=m.ref.len x r;omega) s).mono ?_;rintro v w⟨rfl,q⟩;refine⟨?_,q⟩;unfold Kb xX;rw[<-m.ref.abs];grind[Bg]
theorem jh.Sr(p:jh i W j db sbqq f d mem c g e O C N h a l b)(t:Z)(m n:ab)(k:Z):cD bz 51 #[ay f,ap t,aj m,aj n,ap k] W λx s=>∃o,x=aL (dw #[o,ap (zi b l.2 t m n k).2])/\pu s (z<|G W) o (zi b l.2 t m n k).1/\Below (z<|G W) W s:=by
 obtain⟨T,K,S,F,L,P,Q,r,q,E,w,p⟩:=p;refine(Gz d.1 w t m n k p.ref.ref p.ref.Gj (λD v=>by have:=p.ref.len D v;omega)).mono ?_;rintro x A⟨o,rfl,B,u⟩;refine⟨o,?_,?_,u⟩;unfold zi;rw[<-p.ref.abs];grind[Bg]
 unfold zi;rw[<-p.ref.abs];grind[Bg]
theorem jh.XS(k:jh i W j db sbqq f d mem c g e O C N h a l b)(h1:y l.1<=1000000)(hN:y l.2+1<=N)(au:N<=100000000):cD bz 24 #[ay f] W λx w'=>x=aL (dw #[ap (sU b l).1,ap (sU b l).2.1])/\∃T,jh i w' j db sbqq f T mem c g e O C N h a (l.1,(sU b l).2.2) b:=by
 obtain⟨bb,ad,ba,al,an,ao,aq,s,r,V,w,k⟩:=k;cases b with
 |true=>
  apply(EE d.1 k.ref.ref).mono;rintro x F⟨rfl,rfl⟩;exact⟨rfl,d,bb,ad,ba,al,an,ao,aq,s,r,V,w,k⟩
 |false=>
  have K:=Il w;rw[k.ref.abs]at K;have Q:y w=y l.2:=by rw[<-k.ref.abs];simp
  by_cases X:4<=y (l.2.filter Option.isSome)
  .have x:sU aY l=(0,2,l.2):=by unfold sU;rw[dr (by simp),dz X]
   rw[x];apply(Ju d.1 w k.ref.ref k.ref.Gj<|by omega).mono;rintro x F⟨rfl,rfl⟩;exact⟨rfl,d,bb,ad,ba,al,an,ao,aq,s,r,V,w,k⟩
  .have x:sU aY l=((y l.2:Z)+1,0,l.2++[H l.1]):=by unfold sU;rw[dr (by simp),dr X]
   rw[x];have L:ct d.2≠H f:=λq=>(k.ref.sep f q).1 rfl;apply(Jt d.1 w k.ref.ref k.ref.Gj (by omega) k.ref.own k.aw.size L k.ref.kind).mono;rintro x F⟨rfl,ac,D,S,hp,hh,ho,E,m,av⟩;have ax:=k.Jw.lt;have u:∀n,ct ac=H n->n<z (G W)/\n≠f/\ct d.2≠H n:=λn A=>by
    rw[S]at A;exact⟨k.ref.ref.lt n A,(k.zl n<|.inl A).2.2,λq=>(k.ref.sep n q).2.1 A⟩
   have v:∀p,ct D=H p->ct d.2=H p\/z (G W)<=p:=λp q=>by
    grind
   have P:mT F ac l.1:=E.row hp<|λp m=>⟨λq=>q.elim (u p m).2.1 (u p m).2.2,(u p m).1⟩;have hz:=E.size;refine⟨by rw[Q],(d.1,D),bb,ad,ba,al,an,ao,aq,s,r,V,w++[(⟨bU,ac,l.1⟩:oo)],k.refs E ⟨⟨⟨ac,hh,P,S⟩,k.ref.ref.ne,λn A=>ag (k.ref.ref.lt n A) hz⟩,⟨da ho,?_,?_,by rw[af];simp;omega⟩,ho,m,by rw[aQ,k.ref.abs];rfl,?_,?_⟩ ?_ v (by simp;omega)⟩
   .intro B o t;rcases aE.1 o with q|q
    .have n:=k.ref.Gj.each B q t;exact⟨E.row n.1<|λp m=>⟨λo=>o.elim (k.zl p<|.inr<|.inr ⟨B,q,t,m⟩).2.2<|λo=>(k.ref.sep p o).2.2 B q t m,n.2 p m⟩,λp m=>ag (n.2 p m) hz⟩
    grind
   .intro B o;rcases aE.1 o with q|q
    .exact k.ref.Gj.shape B q
    .rw[cX.1 q];obtain⟨x0,c0,e0⟩:=bM hp;grind
   .intro B o;rcases aE.1 o with q|q
    .exact k.ref.len B q
    grind
   .intro p m;rcases v p m with q|q
    .refine⟨(k.ref.sep p q).1,(k.ref.sep p q).2.1,λB o t x=>?_⟩;rcases aE.1 o with n|n
     .exact(k.ref.sep p q).2.2 B n t x
     grind
    .refine⟨by omega,λx=>by have:=k.ref.ref.lt p x;omega,λB o t x=>?_⟩;rcases aE.1 o with n|n
     .have:=(k.ref.Gj.each B n t).2 p x;omega
     grind
   .intro p m;rcases m with q|q|⟨B,o,t,q⟩
    .exact .inl<|.inl q
    .exact(v p q).imp (λq=>.inr<|.inl q) id
    .rcases aE.1 o with n|n
     .exact .inl<|.inr<|.inr ⟨B,n,t,q⟩
     .rw[cX.1 n]at q;exact .inl<|.inl<|S▸q
theorem jh.OS(n:jh i W j db sbqq f d mem c g e O C N h a l b)(K:Z):cD bz 26 #[ay f,ap K] W λS w'=>S=aL (ap (OR b l.2 K).1)/\jh i w' j db sbqq f d mem c g e O C N h a (l.1,(OR b l.2 K).2) b:=by
 obtain⟨an,T,al,V,X,ac,ad,s,r,F,u,n⟩:=n;cases b with
 |true=>
  apply(zj d.1 u K n.ref.ref n.ref.Gj<|.inl rfl).mono;rintro S A⟨rfl,rfl⟩;exact⟨rfl,an,T,al,V,X,ac,ad,s,r,F,u,n⟩
 |false=>
  unfold OR;rcases Bg u K with⟨Q,ao,hn,hj,B,v⟩|⟨B,v⟩
  .rw[n.ref.abs]at v;simp only[v];subst hn;have E:((Q:Z)+1-1).toNat=Q:=by omega
   apply(EF d.1 u Q ao n.ref.ref n.ref.Gj B hj n.ref.own n.ref.kind).mono;rintro S A⟨rfl,P,hg,hk⟩;have x:I (λw=>ct d.2=H w) W A:=I.dJ hg<|λ_ q=>.inl q;have t:∀k∈u.set Q Bc,k.live=bU->k∈u:=λk p o=>(jR p).elim id (λq=>by rw[q]at o;cases o);refine⟨rfl,an,T,al,V,X,ac,ad,s,r,F,u.set Q Bc,n.refs (x.mono<|λ_ q=>.inl<|.inr q) ⟨n.ref.ref.aw x (λq=>(n.ref.sep f q).1 rfl)<|λL D q=>(n.ref.sep L q).2.1 D,⟨da P,λk p o=>?_,λk p=>?_,by rw[eS];exact n.ref.Gj.small⟩,P,hk,by rw[YM,n.ref.abs,E];rfl,λk p=>?_,λw m=>⟨(n.ref.sep w m).1,(n.ref.sep w m).2.1,λk p o=>(n.ref.sep w m).2.2 k (t k p o) o⟩⟩ (λw q=>.inl ?_) (λ_ q=>.inl q) (by show y (List.set _ _ _)<=N;rw[eS];exact n.num.2)⟩
   .have L:=n.ref.Gj.each k (t k p o) o;exact⟨x.row L.1<|λw m=>⟨λq=>(n.ref.sep w q).2.2 k (t k p o) o m,L.2 w m⟩,λw m=>ag (L.2 w m) x.size⟩
   .rcases jR p with q|q
    .exact n.ref.Gj.shape k q
    .rw[q];exact⟨none,0,0,rfl⟩
   .rcases jR p with q|q
    .exact n.ref.len k q
    .rw[q];exact bj _
   .rcases q with q|q|⟨k,p,o,q⟩
    .exact .inl q
    .exact .inr<|.inl q
    .exact .inr<|.inr ⟨k,t k p o,o,q⟩
  .rw[n.ref.abs]at v;simp only[v];apply(zj d.1 u K n.ref.ref n.ref.Gj<|.inr B).mono;rintro S A⟨rfl,rfl⟩;exact⟨rfl,an,T,al,V,X,ac,ad,s,r,F,u,n⟩
end
def fF(i A B:Z)(S T:ab)(L:aa):Obj:=ar #[ap i,ap A,ap B,aj S,aj T,L] 29 (0,0)
def sC(i A B:Z)(S T:ab)(L:aa):aa:=dW #[ap i,ap A,ap B,aj S,aj T,L]
section
variable{h W:Y}{e db sbqq g:M}{f:PB}{mem b:Z}{d c:aa}{O:cw (M×Obj)}{C N:M}{l:LC}{a:Bool}{F:DK->cf->cf->cf->cf->Prop}
theorem jh.fE{W:Y}{k:LC}{i:Bool}(m:jh h W e db sbqq g f mem b d c O C N k a l i):aO W (R e 0)=H (ay db)/\aO W (R e 1)=H (ay sbqq)/\aO W (R e 2)=H (ay g)/\aO W (R e 5)=H d/\aO W (R e 6)=H c:=by
 have j:=m.box;refine⟨?_,?_,?_,?_,?_⟩<;>(rw[bL j];rfl)
theorem jh.dN{W:Y}{n:LC}{k:Bool}{i:M}{j A B:Z}{S T:ab}{L:aa}(o:jh h W e db sbqq g f mem b d c ((i,fF j A B S T L)::O) C N n a l k):aO W (R i 0)=H (ap j)/\aO W (R i 1)=H (ap A)/\aO W (R i 2)=H (ap B)/\aO W (R i 3)=H (aj S)/\aO W (R i 4)=H (aj T)/\aO W (R i 5)=H L:=by
 have m:W.heap[i]?=H (fF j A B S T L):=o.obj (p:=(i,fF j A B S T L))<|ew ..;unfold fF at m;refine⟨?_,?_,?_,?_,?_,?_⟩<;>(rw[bL m];rfl)
def PK(a:Bool)(l:jN)(k:ab):ab×Bool×Z:=if a then(⟨#[]⟩,aY,6)else su l k
theorem Yj{j:LC}{k:Bool}(q:rV F h W e db sbqq g f mem b d c O C N j a l k)(i:ab)(o:i.size<=140737488351232):cD bz 41 #[ay sbqq,aj i] W λp m=>p=aL (dw #[aj (PK a j.1 i).1,aK (PK a j.1 i).2.1,kN (PK a j.1 i).2.2])/\rV (Zb F a) h m e db sbqq g f mem b d c O C N j a l k:=by
 apply(ZB q i o).mono;rintro p m⟨rfl,n⟩;refine⟨?_,n⟩;cases a<;>rfl
theorem Vi{W:Y}{g:M}{f:PB}(q:mO W g f.1 l.1 a f.2)(i:ab)(k:y l.1<=1000000000000)(m:i.size<=140737488351232):cD bz 42 #[ay g,aj i] W λo n=>o=aL (dw #[aj (PK a l.1 i).1,aK (PK a l.1 i).2.1,ap (PK a l.1 i).2.2])/\n=W:=by
 apply(OT f.1 i q k m).mono;rintro o p⟨rfl,j⟩;refine⟨?_,j⟩;cases a<;>rfl
theorem jh.lens{W:Y}{k:LC}{i:Bool}(j:jh h W e db sbqq g f mem b d c O C N k a l i):y k.1<=C/\C<=1000000/\y l.2<=N:=by
 obtain⟨v,K,u,q,r,s,t,n,m,p,o,j⟩:=j;exact⟨j.len,j.lV,j.num.2⟩
theorem Vl(al:rV F h W e db sbqq g f mem b d c O C N l a l a)(an ao:Z)(S aq:ab)(bc:Option Addr)(bb au:M)(hz:S.size<=140737488351232):cD bz 19 #[ay e,sC 2 an ao S aq<|J bc bb au] W λac w'=>ac=aL (aK bU)/\rV (Zb F a) h w' e db sbqq g f mem b d c O C N l a l a:=by
 obtain⟨K,B⟩:∃K,z (G W)=K:=⟨_,rfl⟩;have h1:rV F h (cF W<|fF 2 an ao S aq<|J bc bb au) e db sbqq g f mem b d c ((K,fF 2 an ao S aq<|J bc bb au)::O) C N l a l a:=al.add (cK _ W) (by omega)<|aB _ B.symm;have t:=h1.still<|ci az _;have k:=Yj t S hz;have w:=And.intro t.ws.fE.2.1 t.ws.dN.2.2.2.1;have av:=am al.ws.box;have ad:=al.ws.lens;have s:=λj(q:mO j g f.1 l.1 a f.2)=>Vi q S (by omega) hz;obtain⟨gv,gb,L,r⟩:∃gv gb L,PK a l.1 S=(gv,gb,L):=⟨_,_,_,rfl⟩;rw[r]at k;simp only[r]at s;simp only at k s;have X:=U t;unfold sC;unfold fF at k w X;clear al h1 t r;go_in
 go_wp2_with fail
 try rw[B]
 rename_i QQ Q o;refine cI (λj=>aO j (R e 1)=H (ay sbqq)/\aO j (R K 3)=H (aj S)) 13 (by kernel_rfl) ?_;refine cY 0 ?_;iterate 6 (refine eM (v:=?_) w rfl (by kernel_rfl) iW rfl ?_ ?_;rotate_left;(focus(rintro j⟨T,V⟩;go_simp;try rfl));simp only[Act.put,dD,gz,Nat.reduceAdd])
 apply eC;refine aM (i:=6) rfl rfl (by kernel_rfl) ?_;intro KC n;go_simp;apply k.mono;rintro ac W2⟨rfl,t⟩;have h3:=t.still<|ci az W2;have x:=And.intro t.ws.fE.2.1 t.ws.dN.2.2.2.1;have m:=U h3;refine n _ _ (λ_=>x) ?_;try simp only[Act.put,dD,gz]
 refine cY 7 ?_;iterate 6 (refine eM (v:=?_) x rfl (by kernel_rfl) iW rfl ?_ ?_;rotate_left;(focus(rintro j⟨T,V⟩;go_simp;try rfl));simp only[Act.put,dD,gz,Nat.reduceAdd])
 apply eC;refine aM (i:=13) rfl rfl (by kernel_rfl) ?_;intro KL p;go_simp;refine p _ _ wX ?_;refine cW (by kernel_rfl) ?_ _;show Q _ _;apply o;have D:=s _ m.ws.ref;have u:=And.intro m.ws.fE.2.2.1 m.ws.dN.2.2.2.1;clear w x k t h3 n p o X;go_wp2_with fail
 rename_i QQ Q o;refine cI (λj=>aO j (R e 2)=H (ay g)/\aO j (R K 3)=H (aj S)) 13 (by kernel_rfl) ?_;refine cY 0 ?_;iterate 6 (refine eM (v:=?_) u rfl (by kernel_rfl) iW rfl ?_ ?_;rotate_left;(focus(rintro j⟨T,V⟩;go_simp;try rfl));simp only[Act.put,dD,gz,Nat.reduceAdd])
 apply eC;refine aM (i:=6) rfl rfl (by kernel_rfl) ?_;intro KC n;go_simp;apply D.mono;rintro ac W3⟨rfl,ax⟩;subst W3;refine n _ _ (λ_=>u) ?_;try simp only[Act.put,dD,gz]
 refine cY 7 ?_;iterate 6 (refine eM (v:=?_) u rfl (by kernel_rfl) iW rfl ?_ ?_;rotate_left;(focus(rintro j⟨T,V⟩;go_simp;try rfl));simp only[Act.put,dD,gz,Nat.reduceAdd])
 apply eC;refine aM (i:=13) rfl rfl (by kernel_rfl) ?_;intro KL p;go_simp;refine p _ _ wX ?_;refine cW (by kernel_rfl) ?_ _;show Q _ _;apply o;have E:=jb L m.ws.vG;clear D u n p o;go_wp2_with fail
 apply E.mono;rintro ac W4⟨rfl,A⟩;have P:=U<|m.still<|I.aR A;clear A E m;go_wp2_with fail
 apply(kS L _).mono;rintro ac W5⟨rfl,ba⟩;subst W5;go_wp2;go_ret;exact⟨rfl,P.drop<|λp j=>bI _ j⟩
end
structure OW(m W:Y)(g db n:M)(u:PB)(v:Option Addr)(mem qQ:Z)(i f:aa)(O:cw (M×Obj))(K:DK)(a b c d:cf)(C tb N nx x:M)(gE:Bool)(ls:dL)(w:cw oo)(l:LC)(o:Bool):Prop where
 box:W.heap[g]?=H (ar #[ay db,fj v,ay n,ap mem,ap qQ,i,f] 41 (0,0))
 ref:Cs (z<|G m) W n u l o w
 laid:uO W db K a b c d C tb N nx x gE ls
 wY:tH (gQ [] ls.flatten::(bV a b c d).map (jQ ((tb+y ls:M):Z))) l.1
 len:y l.1<=C
 OC:Zc i/\Zc f
 aw:I az m W
 low:(∀k,K.aU db k->z (G m)<=k)/\z (G m)<=n/\z (G m)<=g
 DC:¬K.aU db g
 Jw:¬K.aU db n
 zl:∀k,KG u w k->k<z (G W)/\¬K.aU db k/\k≠g/\k≠n
 obj:∀p∈O,W.heap[p.1]?=H p.2/\¬K.aU db p.1/\p.1≠g/\p.1≠n/\¬KG u w p.1
 C8:∀q,v=H (R q 0)->¬K.aU db q/\∃cs t fr,W.heap[q]?=H (ar cs t fr)/\t≠308
 ne:g≠n
 g0:Steps m/\Pow m/\qH m
section
variable{m W W':Y}{g db n:M}{u:PB}{v:Option Addr}{mem j r s:Z}{i f:aa}{O:cw (M×Obj)}{K:DK}{a b c d:cf}{C tbqq N nx x:M}{e:Bool}{lsqq:dL}{w:cw oo}{l:LC}{o:Bool}
theorem OW.still(h:OW m W g db n u v mem j i f O K a b c d C tbqq N nx x e lsqq w l o)(k:I az W W'):OW m W' g db n u v mem j i f O K a b c d C tbqq N nx x e lsqq w l o:={h with
 box:=(k.block g (am h.box) id).trans h.box
 ref:=h.ref.aw k id<|λ_ _=>id
 laid:=h.laid.aw k
 aw:=h.aw.cr k
 zl:=λt p=>⟨ag (h.zl t p).1 k.size,(h.zl t p).2⟩
 obj:=λt p=>⟨(k.block _ (am (h.obj t p).1) id).trans (h.obj t p).1,(h.obj t p).2⟩
 C8:=λq E=>by
  obtain⟨B,t,F,A,p,D⟩:=h.C8 q E;exact⟨B,t,F,A,(k.block q (am p) id).trans p,D⟩}
theorem OW.vG(h:OW m W g db n u v mem j i f O K a b c d C tbqq N nx x e lsqq w l o):qH W:=h.g0.2.2.aw h.aw id
theorem OW.opened(t:OW m W g db n u v mem j i f O K a b c d C tbqq N nx x e lsqq w l o){W1 L:Y}{p:M}(h:Gc W W1 db (z (G W)+2) r s K C (N+1) (eY (tbqq+y lsqq:M)<|gQ [] lsqq.flatten::bV a b c d))(ht:I (λk=>k=g) W1 L)(hb:L.heap[g]?=H (ar #[ay db,ay<|z (G W)+2,ay p,ap r,ap s,i,f] 41 (0,0)))(hr:mO L p u.1 l.1 aY aD)(av:z (G W1)<=p)(ao:p<z (G L)):jh m L g db (z (G W)+2) p (u.1,aD) r s i f O C (N+1) (l.1,[]) aY (l.1,[]) aY:=by
 obtain⟨ad,K',bf,a',b',c',d',X,F,h,al⟩:=h;obtain⟨e1,e2,e3,e4,e5,e6⟩:=h.same;subst e1;have V:=am t.box;have hd:=h.eW;have ba:=h.size;have bb:=ht.size;have au:=t.aw.size;have B:∀k,k<z (G W)->¬K.aU ad.aH k->¬K'.aU ad.aH k:=λk P hn q=>(hd.aU k q).elim hn (λbd=>by omega);have D:∀k,k<z (G W)->¬K.aU ad.aH k->W1.heap[k]?=W.heap[k]?:=λk P hn=>hd.aw.block k P (λq=>q.elim hn<|λE=>by omega);have hg:¬(1=g)/\¬(2=g):=by have T:=t.g0.1.lt;have h2:=t.g0.2.1.lt;have h3:=t.low.2.2;grind
 have Q:=(D g V t.DC).trans t.box;obtain⟨⟨_,_,_,s1⟩,_,_,_,s2⟩:=t.OC;obtain⟨⟨bk,hh,_,_⟩,_,_⟩:=t.ref.ref;have ax:=am hh;have hI:Inv L (z (G W)+2) ad K' bf a' b' c' d' C X (N+1) F []:=by refine h.inv.rX ht (λk E=>by have T:k=g:=E;rw[T];exact⟨by omega,B g V t.DC,by omega⟩) (λk E=>?_) hg;have T:k=g:=E;rw[T];refine⟨_,_,_,Q,by decide,.inl λbi q=>?_,λq hq=>?_⟩;rw[s1,s2]at q;simp at q;(have an:q=ad.aH\/v=H (R q 0)\/q=n:=by rw[s1,s2]at hq;simpa[eq_comm]using hq);rcases an with rfl|E|rfl;exact⟨_,_,_,h.inv.st.aH.iq,by decide⟩;(obtain⟨g1,cs,bh,fr,g2,g3⟩:=t.C8 q E;grind);grind[OW.Jw]
 have ac:bJ L (z (G W)+2) ad 0:=(ht.block _ (am h.box)<|by omega).trans h.box;have A:∀k,k<z (G W)->¬K.aU ad.aH k->NY L K' ad.aH (z (G W)+2) ad k/\k≠p:=λk q1 q2=>⟨⟨⟨by omega,B k q1 q2,by omega⟩,λE=>by rw[e6]at E;cases E;omega⟩,by omega⟩;have aq:∀k,K'.aU ad.aH k->k<z (G W1):=h.inv.st.aH.lt;have S:tH (gQ [] F.flatten::(bV a' b' c' d').map (jQ ((X+y F:M):Z))) l.1:=by refine t.wY.congr<|λq=>?_;have E:=h.uC q;unfold eY at E;rw[bZ,bZ,h.inv.mem,h.inv.Bq,(EM t.laid.lp).2.2.1]at E;exact E
 refine⟨ad,K',bf,a',b',c',d',X,F,[],[],hb,⟨hr,⟨⟨rfl,.inl ⟨rfl,rfl⟩⟩,by simp,by simp,by simp⟩,bK _ _ _ _,λk _ _ _ P=>(by cases P),rfl,by simp,λk P=>(by cases P)⟩,ac,⟨e2,rfl,hI⟩,S,λ_=>⟨rfl,e5,by simp⟩,λ_=>⟨e3,e4,al⟩,⟨by simp,by simp⟩,t.len,t.laid.lV,t.OC,(t.aw.trans hd.aw<|λk q=>.inr<|q.elim (t.low.1 k)<|λE=>by omega).trans ht<|λk E=>.inr (by have:=t.low.2.2;have:k=g:=E;omega),⟨λk q=>(hd.aU k q).elim (t.low.1 k) (λbd=>by omega),by omega,by omega,t.low.2.2⟩,λk E=>by rw[e6]at E;grind,h.inv.st.qZ,(A g V t.DC).1,⟨⟨ao,λq=>by have:=aq _ q;omega,by omega⟩,λE=>by rw[e6]at E;cases E;omega⟩,λk P=>?_,λbc hp=>?_,by omega,t.g0⟩;rcases P with q|q|⟨bg,hx,_⟩;(have bd:=t.zl k<|.inl q;grind);cases q;cases hx;obtain⟨q1,q2,q3,q4,q5⟩:=t.obj bc hp;have T:=am q1;refine⟨(ht.block _ (by omega) q3).trans<|(D _ T q2).trans q1,(A bc.1 T q2).1,q3,(A bc.1 T q2).2,λq=>?_⟩;rcases q with q|q|⟨bg,hx,_⟩;exact q5<|.inl q;cases q;cases hx
end
section
variable{i W W':Y}{d db sbqq g:M}{f:PB}{mem b:Z}{e c out' want':aa}{O:cw (M×Obj)}{C N:M}{l j:LC}{h a:Bool}
theorem Yh(r:jh i W d db sbqq g f mem b e c O C N j a l h)(m n:ab)(k:Z):cD bz 43 #[ay sbqq,aj m,aj n,ap k] W λw W'=>∃x v,w=aL (dw #[J x (y<|if a then []else nw j.1 m n k) v,kN<|if a then 6 else 0])/\zW W W' (J x (y<|if a then []else nw j.1 m n k) v) (if a then []else nw j.1 m n k)/\jh i W' d db sbqq g f mem b e c O C N j a l h:=by
 obtain⟨S,K,Q,F,L,v,P,q,p,E,D,r⟩:=r;cases a with
 |true=>
  apply(Lt m n k r.rU r.rY.1).mono;rintro w W'⟨rfl,o,s⟩;exact⟨none,0,rfl,bK _ _ _ _,S,K,Q,F,L,v,P,q,p,E,D,r.shut o s⟩
 |false=>
  have o:=r.now;obtain⟨t,rfl,s⟩:=r.rY;apply(Sd m n k r.rU s.st t).mono;rintro w W'⟨T,rfl,u,A⟩;rw[sB s.all o]at u;obtain⟨x,v,B⟩:=aA u;subst B;exact⟨x,v,rfl,u,r.read s A⟩
theorem jh.outs(n:jh i W d db sbqq g f mem b e c O C N j a l h)(o:Zc out'/\Zc want'):jh i (cA (cA W (R d 5) out') (R d 6) want') d db sbqq g f mem b out' want' O C N j a l h:=by
 obtain⟨w,K,v,r,s,t,u,m,k,q,p,n⟩:=n;exact⟨w,K,v,r,s,t,u,m,k,q,p,n.E6 ((gW d W).setCell _ _ _<|.inl rfl) ((aT<|aT n.box).trans rfl) o⟩
end
section
variable{i W:Y}{d db sbqq g:M}{f:PB}{mem b:Z}{e c:aa}{O:cw (M×Obj)}{C N:M}{l:LC}{a:Bool}
theorem Su(cb:jh i W d db sbqq g f mem b e c O C N l a l a)(bi cc:Z)(ac bk:ab)(ck:Option Addr)(cj cd:M):cD bz 19 #[ay d,sC 3 bi cc ac bk<|J ck cj cd] W λbt w'=>bt=aL (aK bU)/\∃out' want',jh i w' d db sbqq g f mem b out' want' O C N l a l a:=by
 obtain⟨E,ba⟩:∃E,z (G W)=E:=⟨_,rfl⟩;have h1:jh i (cF W<|fF 3 bi cc ac bk<|J ck cj cd) d db sbqq g f mem b e c ((E,fF 3 bi cc ac bk<|J ck cj cd)::O) C N l a l a:=cb.add (cK _ W) (by omega)<|aB _ ba.symm;have X:=h1.still<|ci az _;have n:=Yh X ac bk bi;have K:=And.intro X.fE.2.1 (And.intro X.dN.2.2.2.1 (And.intro X.dN.2.2.2.2.1 X.dN.2.1));have ce:=am cb.box;have bT:=cb.lens;have br:y (if a then []else nw l.1 ac bk bi)<=1000000:=by have:=mS l.1 ac bk bi;grind
 have w:=λW'(q:mO W' g f.1 l.1 a f.2)=>ud f.1 ac bk bi q (by omega);obtain⟨m,hR⟩:∃m,(if a then []else nw l.1 ac bk bi)=m:=⟨_,rfl⟩;obtain⟨gn,S⟩:∃gn:Z,(if a then 6 else 0)=gn:=⟨_,rfl⟩;rw[hR,S]at n;rw[hR]at br;simp only[hR,S]at w;have F:=U w;unfold sC;unfold fF at n K;clear cb h1 X hR S w;go_in
 go_wp2_with fail
 try rw[ba]
 rename_i QQ KK t;refine cI (λk=>aO k (R d 1)=H (ay sbqq)/\aO k (R E 3)=H (aj ac)/\aO k (R E 4)=H (aj bk)/\aO k (R E 1)=H (ap bi)) 15 (by kernel_rfl) ?_;refine cY 0 ?_;iterate 10 (refine eM (v:=?_) K rfl (by kernel_rfl) iW rfl ?_ ?_;rotate_left;(focus(rintro k⟨z0,z1,z2,z3⟩;go_simp;try rfl));simp only[Act.put,dD,gz,Nat.reduceAdd])
 apply eC;refine aM (i:=10) rfl rfl (by kernel_rfl) ?_;intro KC s;go_simp;apply n.mono;rintro bt W2⟨bm,bl,rfl,av,p⟩;have h3:=p.still<|ci az W2;have L:=And.intro p.fE.2.1 (And.intro p.dN.2.2.2.1 (And.intro p.dN.2.2.2.2.1 p.dN.2.1));have x:=U av;have o:=U h3;refine s _ _ (λ_=>L) ?_;try simp only[Act.put,dD,gz]
 refine cY 11 ?_;iterate 4 (refine eM (v:=?_) L rfl (by kernel_rfl) iW rfl ?_ ?_;rotate_left;(focus(rintro k⟨z0,z1,z2,z3⟩;go_simp;try rfl));simp only[Act.put,dD,gz,Nat.reduceAdd])
 apply eC;refine aM (i:=15) rfl rfl (by kernel_rfl) ?_;intro KL u;go_simp;refine u _ _ wX ?_;refine cW (by kernel_rfl) ?_ _;show KK _ _;apply t;have bd:=F _ o.ref;have ao:=And.intro o.fE.2.2.1 (And.intro o.dN.2.2.2.1 (And.intro o.dN.2.2.2.2.1 o.dN.2.1));clear K L n av p h3 s u t F;go_wp2_with fail
 rename_i QQ KK t;refine cI (λk=>aO k (R d 2)=H (ay g)/\aO k (R E 3)=H (aj ac)/\aO k (R E 4)=H (aj bk)/\aO k (R E 1)=H (ap bi)) 15 (by kernel_rfl) ?_;refine cY 0 ?_;iterate 10 (refine eM (v:=?_) ao rfl (by kernel_rfl) iW rfl ?_ ?_;rotate_left;(focus(rintro k⟨z0,z1,z2,z3⟩;go_simp;try rfl));simp only[Act.put,dD,gz,Nat.reduceAdd])
 apply eC;refine aM (i:=10) rfl rfl (by kernel_rfl) ?_;intro KC s;go_simp;apply bd.mono;rintro bt W3⟨v3,rfl,T,A⟩;have r:=o.still<|I.aR A;obtain⟨bx,bv,bs⟩:=aA T;subst bs;have P:=And.intro r.fE.2.2.1 (And.intro r.dN.2.2.2.1 (And.intro r.dN.2.2.2.2.1 r.dN.2.1));have ax:mT W3 (J bm (y m) bl) m:=(I.aR (S:=az) A).row ((ci az W2).row (da x)<|λad B=>⟨id,(aG x ad B).2⟩)<|λad B=>⟨id,(aG x ad B).2⟩;have aq:∀ad,ct (J bm (y m) bl)=H ad->ad<z (G W3):=λad B=>ag (aG x ad B).2 (I.aR (S:=az) A).size;obtain⟨bq,an,al,bn⟩:=gH ax T r aq;refine s _ _ (λ_=>P) ?_;try simp only[Act.put,dD,gz]
 refine cY 11 ?_;iterate 4 (refine eM (v:=?_) P rfl (by kernel_rfl) iW rfl ?_ ?_;rotate_left;(focus(rintro k⟨z0,z1,z2,z3⟩;go_simp;try rfl));simp only[Act.put,dD,gz,Nat.reduceAdd])
 apply eC;refine aM (i:=15) rfl rfl (by kernel_rfl) ?_;intro KL u;go_simp;refine u _ _ wX ?_;refine cW (by kernel_rfl) ?_ _;show KK _ _;apply t;have bg:=jb gn al.vG;clear bd ao P s u t ax T r A aq;go_wp2_with fail
 apply bg.mono;rintro bt W4⟨rfl,au⟩;have D:I az W3 W4:=I.aR au;have bo:=U<|al.still D;have bb:mT W4 (J bm (y m) bl) m:=D.row bq<|λad B=>⟨id,bn ad B⟩;have bc:mT W4 (J bx (y m) bv) m:=D.row (pu.Me an)<|λad B=>⟨id,(aG an ad B).2⟩;have V:=oM bb bc (by omega) (by omega);clear au bg D bb bc;simp only[mQ]at V;go_wp2_with fail
 apply V.mono;rintro bt W5⟨rfl,kq,bh⟩;have bf:I az W4 W5:=by rw[bh];exact gD _ _ _
 have h5:=bo.still bf;have Q:=h5.box;have y5:aO W5 (R d 5)=H e:=h5.fE.2.2.2.1;have y6:aO W5 (R d 6)=H c:=h5.fE.2.2.2.2;have yf:∀bu,W5.frozen? (R d bu)=aY:=λbu=>by simp[World.frozen?,Q]
 have h6:=h5.outs (out':=J bm (y m) bl) (want':=J bx (y m) bv) ⟨⟨_,_,_,rfl⟩,_,_,_,rfl⟩;have bp:=U<|h6.drop<|λp k=>bI _ k;have ca:=am Q;clear h5 h6 Q bf V bh;go_wp2_with fail
 apply(kS gn _).mono;rintro bt W7⟨rfl,ch⟩;subst W7;go_wp2;go_ret;exact⟨rfl,_,_,bp⟩
end
theorem Ya{q u:Z}(v:oO q u=0):1<=q/\q<=32/\2<=u/\u<=6:=by
 unfold oO at v;grind
theorem Mf{q u:Z}(v:oO q u≠0):¬(1<=q/\q<=32/\2<=u/\u<=6)/\oO q u=1:=by
 unfold oO at*;grind
section
variable{r W W':Y}{e db o:M}{m:PB}{p:Option Addr}{mem g k n:Z}{i h:aa}{O:cw (M×Obj)}{K:DK}{a b c d:cf}{C tbqq N nx s:M}{f:Bool}{lsqq:dL}{t:cw oo}{l:LC}{j:Bool}
theorem KX(bs:OW r W e db o m p mem g i h O K a b c d C tbqq N nx s f lsqq t l j)(cd ce:Z)(ho:oO (sk cd 34) (sk ce 8)=0)(hN:N+1<=100000000):cD bz 11 #[.pointer<|H ⟨e,0,none⟩,.int .i64 cd,.int .i64 ce] W λan w'=>an=.returned (.bool bU)/\∃cb w k n,jh r w' e db cb w (m.1,.slice none 0 0) k n i h O C (N+1) (l.1,[]) aY (l.1,[]) aY:=by
 have L:=QN cd ce W;have T:=CP (sk cd 34)<|sk ce 8;have A:=SI (sk cd 34) (sk ce 8) bs.laid (Ya ho) hN;rw[ho]at T;have y0:aO W ⟨e,0,none⟩=H (.pointer<|H ⟨db,0,none⟩):=by rw[bL bs.box];rfl
 have bT:=am bs.box;obtain⟨E,hM⟩:∃E,sk cd 34=E:=⟨_,rfl⟩;obtain⟨ch,hT⟩:∃ch,sk ce 8=ch:=⟨_,rfl⟩;rw[hM,hT]at L T A;have bu:=bs.DC;have bt:=bs.Jw;have x:=U bs;clear bs ho hM hT;go_in
 go_wp2_with fail
 apply L.mono;rintro an w1⟨rfl,cn⟩;subst w1;go_wp2_with fail
 apply A.mono;rintro an W1⟨rfl,hP⟩;have bi:=Ld W1;have v:∀ax,ax<z (G W)->¬K.aU db ax->W1.heap[ax]?=W.heap[ax]?:=by obtain⟨cs,K',cq,a',b',c',d',cc,ca,hO,_⟩:=hP;exactλax u v=>hO.eW.aw.block ax u<|λq=>q.elim v<|λan=>by omega
 have cl:z (G W)+4<=z (G W1):=by obtain⟨cs,K',cq,a',b',c',d',cc,ca,hO,_⟩:=hP;exact hO.size
 have X:=(v e bT bu).trans x.box;have ac:mO W1 o m.1 l.1 j m.2:=by obtain⟨⟨cu,hh,hp,hv⟩,bx,bg⟩:=x.ref.ref;refine⟨⟨cu,(v o (am hh) bt).trans hh,?_,hv⟩,bx,λbd hg=>by have:=bg bd hg;omega⟩;obtain⟨q1,⟨q2,q0⟩|⟨bd,av,br,q2,bv,hc⟩⟩:=hp;exact⟨q1,.inl ⟨q2,q0⟩⟩;(have hg:m.1=H bd:=by rw[<-hv,q2];rfl);exact⟨q1,.inr ⟨bd,av,br,q2,bv,λw cp u=>(cR (w:=W)<|v bd (bg bd hg) (x.zl bd<|.inl hg).2.1).trans<|hc w cp u⟩⟩
 obtain⟨HP,ba,bl⟩:=dA hP X ac;clear A L hP v X ac;go_wp2_with fail
 apply bi.mono;rintro an Q⟨rfl,bf⟩;have V:I (λ_=>False) W1 Q:=I.aR bf;have B:=(V.block e (am ba) id).trans ba;have bc:=U V;have cm:=V.size;clear bf bi V;go_wp2_with fail
 apply(T _).mono;rintro an al⟨rfl,hw⟩;subst al;go_wp2_with fail
 apply(kS 0 _).mono;rintro an al⟨rfl,hw⟩;subst al;have y1:aO Q ⟨e,1,none⟩=H (.pointer p):=by rw[bL B];rfl
 have yf:∀cj,Q.frozen? ⟨e,cj,none⟩=aY:=λcj=>by simp[World.frozen?,B]
 have F:=aT (i:=1) (u:=.pointer<|H ⟨z (G W)+2,0,none⟩) B;have t3:I (λax=>ax=e) Q (cA Q ⟨e,1,none⟩<|.pointer<|H ⟨z (G W)+2,0,none⟩):=(gW e Q);have ad:=(bl.aw bc id<|λ_ _=>id).aw t3 (λan=>x.ne an.symm)<|λbd hg an=>(x.zl bd<|.inl hg).2.2.1 an;have bh:=LQ m.1 ad;have y2:aO (cA Q ⟨e,1,none⟩<|.pointer<|H ⟨z (G W)+2,0,none⟩) ⟨e,2,none⟩=H (.pointer<|H ⟨o,0,none⟩):=by rw[bL F];rfl
 have bb:=U F;have bp:=U t3;have ck:∀co:Y,(binOp .eql 37 (.pointer<|H ⟨z (G W)+2,0,none⟩)<|.pointer none).run bz co=.ok (.bool aY) co:=λ_=>rfl;clear T B F t3 ad;go_wp2_with fail
 apply bh.mono;rintro an S⟨rfl,P,o5,au⟩;have t5:I (λ_=>False) (cA Q ⟨e,1,none⟩<|.pointer<|H ⟨z (G W)+2,0,none⟩) S:=by rw[au];exact(cK _ _)
 have u:=(t5.block e (am bb) id).trans bb;have y3:aO S ⟨e,2,none⟩=H (.pointer<|H ⟨o,0,none⟩):=by rw[bL u];rfl
 have y4:aO S ⟨e,3,none⟩=H (.int .i64 mem):=by rw[bL u];rfl
 have y5:aO S ⟨e,4,none⟩=H (.int .i64 g):=by rw[bL u];rfl
 have yg:∀cj,S.frozen? ⟨e,cj,none⟩=aY:=λcj=>by simp[World.frozen?,u]
 obtain⟨w,D⟩:∃w,z (G<|cA Q ⟨e,1,none⟩<|.pointer<|H ⟨z (G W)+2,0,none⟩)=w:=⟨_,rfl⟩;have aq:z (G S)=w+1:=by rw[au,<-D];simp
 have ao:w=z (G Q):=by rw[<-D,gM]
 rw[D]at P|-;obtain⟨bk,bq,bm,bo,bn⟩:=je u t5 P aq ao;clear bh au u t5 P D y1 y2 yf aq ao;go_wp2;go_ret;refine⟨rfl,z (G W)+2,w,E,ch,?_⟩;have aq:=ae bo;have ao:=ae bn;have tA:I (λax=>ax=e) S (cA (cA (cA S ⟨e,2,none⟩<|.pointer<|H ⟨w,0,none⟩) ⟨e,3,none⟩<|.int .i64 E) ⟨e,4,none⟩<|.int .i64 ch):=((gW e S).setCell _ _ _<|.inl rfl).setCell _ _ _<|.inl rfl;have tB:I (λax=>ax=e) W1 (cA (cA (cA S ⟨e,2,none⟩<|.pointer<|H ⟨w,0,none⟩) ⟨e,3,none⟩<|.int .i64 E) ⟨e,4,none⟩<|.int .i64 ch):=(((bc.mono (T:=λax=>ax=e) cO).trans bp<|λ_ q=>.inl q).cr bq).trans tA<|λ_ q=>.inl q;refine x.opened HP tB ((aT<|aT<|aT bk).trans rfl) (bm.aw tA (λan=>by omega)<|λbd hg an=>(x.zl bd<|.inl hg).2.2.1 an) (by omega) (by have:=tA.size;omega)
theorem Rt(ad:OW r W e db o m p mem g i h O K a b c d C tbqq N nx s f lsqq t l j)(T V:Z)(S:oO (sk T 34) (sk V 8)≠0):cD bz 11 #[.pointer<|H ⟨e,0,none⟩,.int .i64 T,.int .i64 V] W λX w'=>X=.returned (.bool bU)/\OW r w' e db o m p mem g i h O K a b c d C tbqq N nx s f lsqq t l j/\z (G W)<=z (G w'):=by
 have u:=QN T V W;have x:=CP (sk T 34)<|sk V 8;have q:=Vx (.pointer<|H ⟨db,0,none⟩) (sk T 34) (sk V 8) W ⟨_,rfl⟩ (Mf S).1;rw[(Mf S).2]at x;have y0:aO W ⟨e,0,none⟩=H (.pointer<|H ⟨db,0,none⟩):=by rw[bL ad.box];rfl
 obtain⟨E,hM⟩:∃E,sk T 34=E:=⟨_,rfl⟩;obtain⟨an,hT⟩:∃an,sk V 8=an:=⟨_,rfl⟩;rw[hM,hT]at u x q;have D:=U ad;clear ad S hM hT;go_in
 go_wp2_with fail
 apply u.mono;rintro X w1⟨rfl,al⟩;subst w1;go_wp2_with fail
 apply q.mono;rintro X W1⟨rfl,A⟩;have Q:=D.still A;have F:=jb 1 Q.vG;have B:=U Q;have L:=A.size;clear q u Q A D;go_wp2_with fail
 apply F.mono;rintro X W2⟨rfl,w⟩;have P:=U<|And.intro (B.still<|I.aR w) (aC L w.size);clear w F B L;go_wp2_with fail
 apply(x _).mono;rintro X v⟨rfl,hw⟩;subst v;have ac:∀w:Y,(binOp .eql 37 (.pointer none)<|.pointer none).run bz w=.ok (.bool bU) w:=λ_=>rfl;go_wp2_with fail
 apply(kS 1 _).mono;rintro X v⟨rfl,hw⟩;subst v;go_wp2;go_ret;exact⟨rfl,P⟩
end
theorem Hs{w Xqq:Y}{k A:M}{v:aa}{q:iC}(B:Row w k v A q)(s:∀u,ct v=H u->Xqq.heap[u]?=w.heap[u]?):Row Xqq k v A q:=by
 obtain⟨p,r|⟨x,m,n,rfl,o,t⟩⟩:=B;exact⟨p,.inl r⟩;exact⟨p,.inr ⟨x,m,n,rfl,o,λB D r=>(cR (w:=w)<|s x rfl).trans<|t B D r⟩⟩
theorem Un.news{V o:Y}{ao:SR}{X ac ad al:cf}{w:aa}(an:Un V o (B6 ao X ac ad al) w):∃x:cw (M×Obj),(∀v∈x,z (G V)<=v.1/\o.heap[v.1]?=H v.2)/\∀k:Y,(∀v∈x,k.heap[v.1]?=H v.2)->GS k w [X,ac,ad,al]:=by
 obtain⟨n,B,hl,D⟩:=an;have L:∀m∈(w::n).filterMap ct,z (G V)<=m/\m<z (G o):=λm r=>by obtain⟨aq,s,p⟩:=oW.1 r;rcases bH.1 s with rfl|s;exact B.lt m p;obtain⟨t,A,rfl⟩:=gq.1 s;obtain⟨v,_,u⟩:=D t n[t]<|aI A;exact u.lt m p
 refine⟨((w::n).filterMap ct).filterMap<|λm=>(o.heap[m]?).map<|λK=>(m,K),λv u=>?_,λk P=>?_⟩;grind
 have r:∀m∈(w::n).filterMap ct,k.heap[m]?=o.heap[m]?/\m<z (G k):=λm r=>by obtain⟨K,p⟩:∃K,o.heap[m]?=H K:=⟨_,tK (L m r).2⟩;have h1:=P (m,K)<|oW.2 ⟨m,r,by rw[p];rfl⟩;grind
 have E:∀m,ct w=H m->k.heap[m]?=o.heap[m]?/\m<z (G k):=λm p=>r m<|oW.2 ⟨w,ew ..,p⟩;refine⟨n,Hs (da B)<|λm p=>(E m p).1,λm p=>(E m p).2,λt A=>?_⟩;have q:t<y n:=by grind
 have s:∀m,ct n[t]=H m->k.heap[m]?=o.heap[m]?/\m<z (G k):=λm p=>r m<|oW.2 ⟨n[t],bI _<|ak q,p⟩;obtain⟨v,u,S⟩:=D t n[t]<|aI q;refine⟨n[t],aI q,?_,λm p=>(s m p).2⟩;have Q:t=0\/t=1\/t=2\/t=3:=by grind
 have T:=Hs (Xqq:=k) (da S)<|λm p=>(s m p).1;rcases Q with rfl|rfl|rfl|rfl<;>(cases u;exact T)
section
variable{i W W':Y}{j db sbqq h:M}{g:PB}{mem b:Z}{d c:aa}{O:cw (M×Obj)}{C N:M}{l f:LC}{e a:Bool}{F:DK->cf->cf->cf->cf->Prop}
theorem LW.news{L:SR}{P o:DK}{K:cJ}{w x A B:cf}{m:M}{k:dL}{s:Zs}{r:cw oo}{u:cw (M×Obj)}(t:LW i W j db sbqq h g mem b d c O L P K w x A B C m N k s r f a l e)(h':LW i W' j db sbqq h g mem b d c O L o K w x A B C m N k s r f a l e)(D:∀Q,o.aU db Q->P.aU db Q)(E:∀p∈u,z (G W)<=p.1/\W'.heap[p.1]?=H p.2):LW i W' j db sbqq h g mem b d c (u++O) L o K w x A B C m N k s r f a l e:=by
 refine{h' with obj:=λp n=>?_};rcases aE.1 n with n|n;obtain⟨X,v⟩:=E p n;have S:=t.DC.lt;have T:=t.Jw.lt;have V:=am t.rU;exact⟨v,⟨⟨am v,λq=>by have:=t.rY.aH.lt p.1<|D _ q;omega,by omega⟩,λq=>by have:=(t.zO p.1 q).2;omega⟩,by omega,by omega,λq=>by have:=t.ref.lt p.1 q;omega⟩;exact h'.obj p n
def j3(F:DK->cf->cf->cf->cf->Prop)(a:Bool)(k:cw cf)(_:DK)(m n o p:cf):Prop:=(∃K,F K m n o p)/\if a then k=[]else k=[m,n,o,p]
def F7(m:cw (M×Obj))(v:aa)(n:cw cf):Prop:=∀k:Y,(∀p∈m,k.heap[p.1]?=H p.2)->GS k v n
theorem AG(n:rV F i W j db sbqq h g mem b d c O C N f a l e):cD bz 12 #[ay sbqq] W λX W'=>∃Q s o r,X=aL (dw #[J Q (y o) s,kN<|if a then 6 else 0])/\F7 r (J Q (y o) s) o/\(a=bU->Q=none/\s=0/\o=[])/\rV (j3 F a o) i W' j db sbqq h g mem b d c (r++O) C N f a l e:=by
 obtain⟨P,T,S,B,D,s,E,m,k,t,A,hF,n⟩:=n;cases a with
 |true=>
  apply(Jl n.rU n.rY.1).mono;rintro X W'⟨rfl,x,u⟩;exact⟨none,0,[],[],rfl,λp _=>⟨[],⟨rfl,.inl ⟨rfl,rfl⟩⟩,(λv q=>by cases q),λr q=>absurd q<|ft r⟩,λ_=>⟨rfl,rfl,rfl⟩,P,T,S,B,D,s,E,m,k,t,A,⟨⟨T,hF⟩,rfl⟩,n.shut x u⟩
 |false=>
  obtain⟨p,rfl,v⟩:=n.rY;apply(OE n.rU v.st p).mono;rintro X W'⟨ad,rfl,L,u,K,e1,e2,e3,x,ac⟩;have w:Inv W' sbqq P u S B D s E C m N k (io 1 t):=v.eW (am n.rU) K (by rw[e1]) (by rw[e2];grind) rfl v.loose;have h':LW i W' j P.aH sbqq h g mem b d c O P u S B D s E C m N k t A f aY l e:=n.Qb K.dm (λ_ q=>q) x ⟨p,rfl,w⟩ n.wY n.oU n.tid ⟨n.num.1,ai _⟩ n.len n.lV;obtain⟨r,n1,n2⟩:=L.news;obtain⟨us,ho,_⟩:=L;obtain⟨Q,V,hx⟩:=aA ho;subst hx;exact⟨Q,V,[B,D,s,E],r,rfl,n2,(λq=>by cases q),P,u,S,B,D,s,E,m,k,t,A,⟨⟨T,hF⟩,rfl⟩,n.news h' e3 n1⟩
theorem rV.OC{m:cw cf}{v:aa}{k:cw (M×Obj)}(o:rV F i W j db sbqq h g mem b d c (k++O) C N f a l e)(n:F7 k v m):GS W v m:=n W<|λ_ q=>o.ws.obj<|iZ _ q
theorem Ik(m:rV F i W j db sbqq h g mem b d c O C N f a l e):cD bz 18 #[ay db] W λs W'=>∃Q V:Z,s=aL (dw #[ap Q,ap V])/\rV (λK v w x A=>K.reads=0/\K.oC=0/\∃r,F r v w x A/\r.reads=Q/\r.oC=V) i W' j db sbqq h g mem b d c O C N f a l e:=by
 obtain⟨T,K,X,v,w,x,A,p,o,P,L,hF,m⟩:=m;apply(Qj m.rY.aH).mono;rintro s W'⟨rfl,n⟩;have t:fY W W' db sbqq K {K with reads:=0,oC:=0}:=⟨n.ok,n.aw.mono<|λ_ q=>.inl<|.inl q,n.aU⟩;have B:bJ W' sbqq T 0:=(n.aw.block sbqq (am m.rU) m.qZ).trans m.rU;refine⟨_,_,rfl,T,_,X,v,w,x,A,p,o,P,L,⟨rfl,rfl,K,hF,rfl,rfl⟩,m.Qb t.dm (λ_ q=>q) B ?_ m.wY m.oU m.tid ⟨m.num.1,ai _⟩ m.len m.lV⟩;have u:¬K.aU db 1/\¬K.aU db 2:=m.kC (S:=K.aU db) m.low.1;cases a with
 |true=>
  obtain⟨s,E,D,k,hL⟩:=m.rY;exact⟨s,E,D,k,{hL with aH:=n.ok,steps:=Steps.aw hL.steps n.aw u.1,pow:=hL.pow.aw n.aw u.2}⟩
 |false=>
  obtain⟨s,rfl,k⟩:=m.rY;exact⟨s,rfl,k.eW (am m.rU) t rfl (ai _) rfl k.loose⟩
end
section
variable{h W:Y}{e db sbqq f:M}{g:PB}{mem b:Z}{d c:aa}{O:cw (M×Obj)}{C N:M}{l:LC}{a:Bool}{F:DK->cf->cf->cf->cf->Prop}
theorem OY(ao:rV F h W e db sbqq f g mem b d c O C N l a l a)(L ad:Z)(S al:ab)(ba:Option Addr)(ax an:M)(hz:S.size<=140737488351232):cD bz 19 #[ay e,sC 8 L ad S al<|J ba ax an] W λac w'=>ac=aL (aK bU)/\rV (Zb F a) h w' e db sbqq f g mem b d c O C N l a l a:=by
 obtain⟨x,D⟩:∃x,z (G W)=x:=⟨_,rfl⟩;have h1:rV F h (cF W<|fF 8 L ad S al<|J ba ax an) e db sbqq f g mem b d c ((x,fF 8 L ad S al<|J ba ax an)::O) C N l a l a:=ao.add (cK _ W) (by omega)<|aB _ D.symm;have n:=h1.still<|ci az _;have k:=VN n L S hz;have u:=And.intro n.ws.fE.2.1 (And.intro n.ws.dN.2.1 n.ws.dN.2.2.2.1);have aq:=am ao.ws.box;obtain⟨gv,gb,K,r⟩:∃gv gb K,Kb a l.2 L S=(gv,gb,K):=⟨_,_,_,rfl⟩;rw[r]at k;simp only at k;have HL:=U n;have A:=U r;unfold sC;unfold fF at k u HL;clear ao h1 n r;go_in
 go_wp2_with fail
 try rw[D]
 rename_i QQ Q p;refine cI (λj=>aO j (R e 1)=H (ay sbqq)/\aO j (R x 1)=H (ap L)/\aO j (R x 3)=H (aj S)) 15 (by kernel_rfl) ?_;refine cY 0 ?_;iterate 8 (refine eM (v:=?_) u rfl (by kernel_rfl) iW rfl ?_ ?_;rotate_left;(focus(rintro j⟨T,V,X⟩;go_simp;try rfl));simp only[Act.put,dD,gz,Nat.reduceAdd])
 apply eC;refine aM (i:=8) rfl rfl (by kernel_rfl) ?_;intro KC o;go_simp;apply k.mono;rintro ac W2⟨rfl,n⟩;have h3:=n.still<|ci az W2;have w:=And.intro n.ws.fE.2.1 (And.intro n.ws.dN.2.1 n.ws.dN.2.2.2.1);have m:=U h3;refine o _ _ (λ_=>w) ?_;try simp only[Act.put,dD,gz]
 refine cY 9 ?_;iterate 6 (refine eM (v:=?_) w rfl (by kernel_rfl) iW rfl ?_ ?_;rotate_left;(focus(rintro j⟨T,V,X⟩;go_simp;try rfl));simp only[Act.put,dD,gz,Nat.reduceAdd])
 apply eC;refine aM (i:=15) rfl rfl (by kernel_rfl) ?_;intro KL q;go_simp;refine q _ _ wX ?_;refine cW (by kernel_rfl) ?_ _;show Q _ _;apply p;have t:=m.ws.Vj L S hz;rw[ae A]at t;simp only at t;have s:=And.intro m.ws.fE.2.2.1 (And.intro m.ws.dN.2.1 (m.ws.dN.2.2.2.1));clear u w k n h3 o q p HL A;go_wp2_with fail
 rename_i QQ Q p;refine cI (λj=>aO j (R e 2)=H (ay f)/\aO j (R x 1)=H (ap L)/\aO j (R x 3)=H (aj S)) 15 (by kernel_rfl) ?_;refine cY 0 ?_;iterate 8 (refine eM (v:=?_) s rfl (by kernel_rfl) iW rfl ?_ ?_;rotate_left;(focus(rintro j⟨T,V,X⟩;go_simp;try rfl));simp only[Act.put,dD,gz,Nat.reduceAdd])
 apply eC;refine aM (i:=8) rfl rfl (by kernel_rfl) ?_;intro KC o;go_simp;apply t.mono;rintro ac W3⟨rfl,au⟩;subst W3;refine o _ _ (λ_=>s) ?_;try simp only[Act.put,dD,gz]
 refine cY 9 ?_;iterate 6 (refine eM (v:=?_) s rfl (by kernel_rfl) iW rfl ?_ ?_;rotate_left;(focus(rintro j⟨T,V,X⟩;go_simp;try rfl));simp only[Act.put,dD,gz,Nat.reduceAdd])
 apply eC;refine aM (i:=15) rfl rfl (by kernel_rfl) ?_;intro KL q;go_simp;refine q _ _ wX ?_;refine cW (by kernel_rfl) ?_ _;show Q _ _;apply p;have E:=jb K m.ws.vG;clear t s o q p;go_wp2_with fail
 apply E.mono;rintro ac W4⟨rfl,B⟩;have P:=U<|m.still<|I.aR B;clear B E m;go_wp2_with fail
 apply(kS K _).mono;rintro ac W5⟨rfl,av⟩;subst W5;go_wp2;go_ret;exact⟨rfl,P.drop<|λp j=>bI _ j⟩
end
theorem Nc(f:ab×eO)(g:Fs):ij (f::g)=y f.2+ij g:=by simp[ij]
theorem Ip{u:ab×eO}:∀{f:Fs},u∈f->y u.2<=ij f
 |[],q=>by simp at q
 |g::v,q=>by
  rw[Nc];rcases bH.1 q with rfl|q
  .omega
  .have:=Ip q;omega
theorem Cd{u:ab}{b:eO}:∀{q:Fs},dX q u=H b->(u,b)∈q
 |[],f=>by simp[dX]at f
 |g::w,f=>by
  unfold dX at f;by_cases v:g.1=u
  .rw[dz v]at f;grind
  .rw[dr v]at f;exact bI _<|Cd f
theorem TO{q g:Fs}(w:(q.map (·.1)).Nodup)(v:g.Perm q)(x:ab):dX g x=dX q x:=by
 have u:(g.map (·.1)).Nodup:=(v.map _).nodup_iff.2 w;rcases h1:dX q x with _|b;rcases h2:dX g x with _|b;rfl;have:=wB w<|v.mem_iff.1<|Cd h2;grind
 exact wB u (f:=(x,b))<|v.mem_iff.2<|Cd h1
def yU(p W:Y)(j:M)(O:cw (M×Obj))(C N:M):Prop:=∃db sbqq o n mem h k i l e,jh p W j db sbqq o n mem h k i O C N l e l e
theorem uO.bytes{P:Y}{db:M}{K:DK}{a b c d:cf}{C tbqq N A x:M}{g:Bool}{lsqq:dL}(u:uO P db K a b c d C tbqq N A x g lsqq):∀f∈K.files,y f.bytes<=1099511627776:=λf v=>by
 have B:=ue (f:=(tbqq:Z)+1)<|λl q=>⟨u.lp.iX l q,(u.lp.one l q).2⟩;have D:=Ej<|λl q=>(u.lp.one l q).1;have E:=u.lp.sum;have L:=u.qF.total u.aH.nodup (by omega) u.count;have w:(f.name,f.bytes)∈vw K.files:=bW.2 ⟨f,v,rfl⟩;have:=Ip w;grind
section
variable{p W W':Y}{j db sbqq o:M}{n:PB}{mem h:Z}{k i:aa}{O:cw (M×Obj)}{s:SR}{K:DK}{a b c d:cf}{C tbqq N:M}{lsqq:dL}{m:cJ}{t:Zs}{r:cw oo}{l:LC}{e:Bool}
theorem LW.copied(v:LW p W j db sbqq o n mem h k i O s K m a b c d C tbqq N lsqq t r l bU l bU){w:M}{A:DK}(hd:cQ W' w A)(Q:(vw A.files).Perm (vw K.files))(hm:A.eJ=[])(hf:∀u,A.aU w u->z (G W)<=u)(B:I az W W'):∃ao nx lg f,W.heap[sbqq]?=H ao/\OW p (cA W' (R j 0)<|ay w) j w o n (H<|R sbqq 0) mem h k i ((sbqq,ao)::O) A a b c d C tbqq N nx lg f lsqq r l bU:=by
 obtain⟨aq,nx,lg,f,E⟩:=v.rY;have D:=v.DC.lt;have al:=v.Jw.lt;have T:=am v.rU;have hz:=B.size;have au:=v.aw.size;have ac:=(B.block j D id).trans v.box;have F:I (λu=>u=j) W' (cA W' (R j 0)<|ay w):=(gW j W');have g:∀u,u<z (G W)->¬A.aU w u:=λu X q=>by have:=hf u q;omega
 have V:=v.kC (S:=λu=>u=j) (λu x=>by have e':u=j:=x;rw[e'];exact v.low.2.2.2);have an:=E.steps.lt;have ad:=E.pow.lt;have L:∀u{Q:Prop},NY W K db sbqq s u/\Q->u<z (G<|cA W' (R j 0)<|ay w)/\¬A.aU w u/\Q:=λu _ q=>⟨by rw[gM];have:=q.1.lt;omega,g u q.1.lt,q.2⟩;have P:∀u ao,u≠j->W.heap[u]?=H ao->(cA W' (R j 0)<|ay w).heap[u]?=H ao:=λu ao X f=>(F.block u (by have:=am f;omega) X).trans<|(B.block u (am f) id).trans f;refine⟨_,nx,lg,f,v.rU,(aT ac).trans rfl,(v.ref.aw B id<|λ_ _=>id).aw F (λx=>v.ne x.symm)<|λav V x=>(v.zl av V).2.1 x,?_,v.wY,v.len,v.OC,(v.aw.cr B).trans F<|λu x=>.inr (by have:=v.low.2.2.2;have:u=j:=x;omega),⟨λu q=>by have:=hf u q;omega,v.low.2.2⟩,g j D,g o al,λu X=>L u<|v.zl u X,λax Q=>?_,λq hq=>?_,v.ne,v.g0⟩;exact E.again (hd.aw F<|λu q x=>g j D<|x▸q) (λf=>TO E.aH.nodup Q f) (by rw[hm];grind) (Steps.aw (Steps.aw E.steps B id) F V.1) ((E.pow.aw B id).aw F V.2) (g _ an)<|g _ ad;rcases bH.1 Q with rfl|Q;exact⟨P sbqq _ (λx=>v.DC.ne x.symm) v.rU,g sbqq T,λx=>v.DC.ne x.symm,λx=>v.Jw.ne x.symm,λq=>(v.zl sbqq q).1.ne rfl⟩;obtain⟨q1,q2,q3⟩:=v.obj ax Q;grind
 cases hq;exact⟨g sbqq T,_,_,_,P sbqq _ (λx=>v.DC.ne x.symm) v.rU,by decide⟩
theorem OW.back{F:M}{E:DK}{S:Obj}{P L:M}{f:Bool}(D:z (G W)<=z (G W'))(u:LW p W j db sbqq o n mem h k i O s K m a b c d C tbqq N lsqq t r l bU l bU)(V:W.heap[sbqq]?=H S)(g:OW p W' j F o n (H<|R sbqq 0) mem h k i ((sbqq,S)::O) E a b c d C tbqq N P L f lsqq r l bU):LW p W' j F sbqq o n mem h k i O s E m a b c d C tbqq N lsqq t r l bU l bU:=by
 have w:=g.obj (sbqq,S)<|ew ..;have ad:H S=_:=V.symm.trans u.rU;have x:bJ W' sbqq s 0:=w.1.trans ad;have X:=am g.box;obtain⟨⟨al,T,_⟩,_⟩:=g.ref.ref;refine⟨g.box,g.ref,x,⟨u.rY.1,P,L,f,g.laid⟩,g.wY,u.oU,(λq=>by cases q),u.num,g.len,u.lV,g.OC,g.aw,⟨g.low.1,u.low.2.1,g.low.2⟩,λA q=>⟨(u.zO A q).1,ag (u.zO A q).2 D⟩,w.2.1,⟨⟨X,g.DC,u.DC.ne⟩,u.DC.oU⟩,⟨⟨am T,g.Jw,u.Jw.ne⟩,u.Jw.oU⟩,λA v=>⟨⟨⟨(g.zl A v).1,(g.zl A v).2.1,(u.zl A v).1.ne⟩,(u.zl A v).1.oU⟩,(g.zl A v).2.2⟩,λac B=>?_,u.ne,u.g0⟩;obtain⟨Q,q2,q3⟩:=g.obj ac<|bI _ B;exact⟨Q,⟨⟨am Q,q2,(u.obj ac B).2.1.ne⟩,(u.obj ac B).2.1.oU⟩,q3⟩
theorem Oo(ac:jh p W j db sbqq o n mem h k i O C N l e l e)(al an:Z)(ao aq:ab)(av:Option Addr)(au c:M):cD bz 8 #[ay j,sC 5 al an ao aq<|J av au c] W λT w'=>T=aL (aK bU)/\yU p w' j O C N:=by
 have V:=ac.still<|(I.refl az W).alloc<|fF 5 al an ao aq<|J av au c;have g:=My V;have y1:aO W (R j 1)=H (ay sbqq):=ac.fE.2.1;have ad:=am ac.box;obtain⟨F,v⟩:∃F:Z,(if e then 6 else 0)=F:=⟨_,rfl⟩;have f:=λW'(q:mO W' o n.1 l.1 e n.2)=>Aq n.1 q;rw[v]at g;simp only[v]at f;have u:=U f;unfold fF at g;unfold sC;clear ac V v f;go_in
 go_wp2_with fail
 apply g.mono;rintro T S⟨rfl,L⟩;have y2:aO S (R j 2)=H (ay o):=L.fE.2.2.1;have X:=u S L.ref;have w:=U L;clear g L u;go_wp2_with fail
 apply X.mono;rintro T W3⟨rfl,D,B⟩;have Q:=w.LP B D<|.inl rfl;have E:=jb F Q.vG;have x:=U Q;clear X D B Q w;go_wp2_with fail
 apply E.mono;rintro T W4⟨rfl,A⟩;have P:=U<|x.still<|I.aR A;clear A E x;go_wp2_with fail
 apply(kS F _).mono;rintro T W5⟨rfl,hw⟩;subst W5;go_wp2;go_ret;exact⟨rfl,db,sbqq,o,n,mem,h,k,i,l,bU,P⟩
theorem RH(bp:jh p W j db sbqq o n mem h k i O C N l e l e)(bc bd:Z)(bn bo:ab)(br:Option Addr)(bq c:M)(hN:N+1<=100000000):cD bz 8 #[ay j,sC 6 bc bd bn bo<|J br bq c] W λbb w'=>bb=aL (aK bU)/\(yU p w' j O C N\/yU p w' j O C (N+1)):=by
 obtain⟨ob,bi⟩:∃ob,z (G W)=ob:=⟨_,rfl⟩;have h1:jh p (cF W<|fF 6 bc bd bn bo<|J br bq c) j db sbqq o n mem h k i ((ob,fF 6 bc bd bn bo<|J br bq c)::O) C N l e l e:=bp.add (cK _ W) (by omega)<|aB _ bi.symm;have D:=My h1;have y1:aO W (R j 1)=H (ay sbqq):=bp.fE.2.1;have bs:=am bp.box;have bm:j<ob:=by omega
 obtain⟨gn,S⟩:∃gn:Z,(if e then 6 else 0)=gn:=⟨_,rfl⟩;have v:=λW'(q:mO W' o n.1 l.1 e n.2)=>Aq n.1 q;rw[S]at D;simp only[S]at v;have E:=U v;unfold fF at D;unfold sC;clear bp h1 S v;go_in
 go_wp2_with fail
 apply D.mono;rintro bb W2⟨rfl,h2⟩;have y2:aO W2 (R j 2)=H (ay o):=h2.fE.2.2.1;have hr:=E W2 h2.ref;have ad:=U h2;clear D h2 E;go_wp2_with fail
 apply hr.mono;rintro bb W3⟨rfl,aq,ao⟩;have h3:=ad.LP ao aq<|.inl rfl;have au:=jb gn h3.vG;have al:=U h3;clear hr aq ao h3 ad;go_wp2_with fail
 apply au.mono;rintro bb W4⟨rfl,an⟩;have h4:=al.still<|I.aR an;have y3:aO W4 (R j 0)=H (ay db):=h4.fE.1;obtain⟨s,K,m,a,b,c',d,tbqq,lsqq,t,r,F⟩:=h4;obtain⟨_,bu,bt,ax,B⟩:=F.rY;have L:=WW B.aH B.bytes B.aH.nodup;have A:=U F;clear an au al F B;go_wp2_with fail
 apply(kS gn _).mono;rintro bb W5⟨rfl,hw⟩;subst W5;go_wp2_with fail
 apply L.mono;rintro bb W6⟨cb,K6,rfl,P,V,T,Q,w⟩;obtain⟨bx,nx,lg,ac,X,u⟩:=A.copied P V T Q w;have g:=(w.block j (am A.box) id).trans A.box;have y6:=cellAt g 0 rfl;have yf:W6.frozen? (R j 0)=aY:=by simp[World.frozen?,g]
 have f:=(u.obj (ob,fF 6 bc bd bn bo<|J br bq c)<|bI _<|ew ..).1;unfold fF at f;simp only at f;have z1:=cellAt f 1 rfl;have z2:=cellAt f 2 rfl;have bg:=U X;have bh:=U (show z (G W4)<=z (G<|cA W6 (R j 0)<|ay cb)by rw[gM];exact w.size);by_cases ho:oO (sk bc 34) (sk bd 8)=0;(.have x:=KX u bc bd ho hN;clear L P V T Q w u g f X ho;(go_wp2_with fail);apply x.mono;rintro bb W8⟨rfl,bl,bk,av,ba,h8⟩;have bf:=U h8;clear h8 x;go_wp2;go_ret;exact⟨rfl,.inr ⟨cb,bl,bk,_,av,ba,k,i,_,aY,bf.drop<|λbv hp=>bI _<|bI _ hp⟩⟩);have x:=Rt u bc bd ho;clear L P V T Q w u g f X ho;(go_wp2_with fail);apply x.mono;rintro bb W8⟨rfl,h8,av⟩;have h9:jh p W8 j cb sbqq o n mem h k i _ C N l bU l bU:=⟨s,K6,m,a,b,c',d,tbqq,lsqq,t,r,OW.back (aC bh av) A bg h8⟩;have ba:=U<|h9.drop (O':=O)<|λbv hp=>bI _ hp;clear h8 x h9 av;go_wp2;go_ret;exact⟨rfl,.inl ⟨cb,sbqq,o,n,mem,h,k,i,l,bU,ba⟩⟩
end
def vk:cw cf->M
 |[]=>0
 |t::r=>y t+(r.map wh).sum
theorem VJ{b:cw cf}{n:M}(o:n<y b):vk (b.take<|n+1)=if n=0 then y b[n]else vk (b.take n)+wh b[n]:=by
 cases b with
 |nil=>simp at o
 |cons t r=>
  cases n with
  |zero=>simp[vk]
  |succ n=>
   have m:n<y r:=by simpa using o
   rw[dr (by omega),kM,kM,ah m];simp only[vk,aQ,eR,bZ,fW,oG,Ac,bF];omega
section
variable{j W W':Y}{f db sbqq h:M}{g:PB}{mem c:Z}{e d:aa}{O:cw (M×Obj)}{C N:M}{l k:LC}{i a:Bool}{F:DK->cf->cf->cf->cf->Prop}
theorem jh.wf(n:jh j W f db sbqq h g mem c e d O C N k a l i):rV (λ_ _ _ _ _=>True) j W f db sbqq h g mem c e d O C N k a l i:=by
 obtain⟨v,K,u,q,r,s,t,m,b,p,o,n⟩:=n;exact⟨v,K,u,q,r,s,t,m,b,p,o,trivial,n⟩
theorem j3.G2{b:cw cf}{K:DK}{m n o p:cf}(r:j3 F a b K m n o p):a=aY->vk b=yi m n o p:=λq=>by
 have:=r.2;rw[q,dr<|by simp]at this;rw[this];simp[vk,yi];omega
def Fw(a:Bool)(p:M)(K:DK)(b m n o:cf):Prop:=K.reads=0/\K.oC=0/\(a=aY->p=yi b m n o)
def Fx(n:M)(K:DK)(_ _ _ _:cf):Prop:=K.reads<=n/\K.oC<=512
theorem o6{v:M}{K:DK}{r s t u:cf}(A:Zb (Fw a v) a K r s t u):Fx v K r s t u:=by
 obtain⟨w,⟨b,m,n⟩,rfl|⟨x,o⟩⟩:=A;exact⟨by omega,by omega⟩;obtain⟨B,p,q⟩:=o ⟨b,m⟩;exact⟨by rw[n x];exact p,q⟩
theorem rV.lens{b:cw cf}(o:rV (j3 F a b) j W f db sbqq h g mem c e d O C N k a l i):y b<=4/\∀v∈b,y v<=2000000:=by
 obtain⟨A,K,x,q,r,s,t,n,m,w,u,hF,o⟩:=o;cases a with
 |true=>rw[show b=[]from hF.2];simp
 |false=>
  rw[show b=[q,r,s,t]from hF.2];obtain⟨_,_,p⟩:=o.rY;have:=p.st.count;grind
theorem rV.at{m:DK->cf->cf->cf->cf->Prop}(t:rV m j W f db sbqq h g mem c e d O C N k a l i):∃K q b r s,m K q b r s:=by
 obtain⟨x,K,w,q,b,r,s,o,n,v,u,hF,t⟩:=t;grind
theorem ZA{b:cw cf}(s:y b<=4)(o:∀t∈b,y t<=2000000)(n:M):vk (b.take n)<=3000000:=by
 cases b with
 |nil=>simp[vk]
 |cons t r=>
  cases n with
  |zero=>simp[vk]
  |succ n=>
   have p:=o t (by simp);have m:∀r:cw cf,(r.map wh).sum<=y r:=λr=>by
    induction r with
    |nil=>simp
    |cons x r v=>unfold wh at*;simp;split<;>omega
   have q:=m<|r.take n;have u:y (r.take n)<=4:=by grind
   simp only[kM,vk];omega
theorem ZF{kd:Z}(bc:jh j W f db sbqq h g mem c e d O C N l a l a)(aq au:Z)(av ax:ab)(bb:Option Addr)(ba S:M)(hr:∀(F:DK->cf->cf->cf->cf->Prop)(T:cw (M×Obj))(W':Y),rV F j W' f db sbqq h g mem c e d T C N l a l a->cD bz 19 #[ay f,sC kd aq au av ax<|J bb ba S] W' λK w'=>K=aL (aK bU)/\rV (Zb F a) j w' f db sbqq h g mem c e d T C N l a l a):cD bz 7 #[ay f,sC kd aq au av ax<|J bb ba S] W λK w'=>K=aL (aK bU)/\jh j w' f db sbqq h g mem c e d O C N l a l a:=by
 obtain⟨E,A⟩:∃E,z (G W)=E:=⟨_,rfl⟩;have X:rV (λ_ _ _ _ _=>True) j (cF W<|fF kd aq au av ax<|J bb ba S) f db sbqq h g mem c e d ((E,fF kd aq au av ax<|J bb ba S)::O) C N l a l a:=(bc.add (cK _ W) (by omega)<|aB _ A.symm).wf;have u:=AG X;generalize kN (if a then 6 else 0)=ev at u;have y1:=X.ws.fE.2.1;have bg:=am bc.box;have HR:=U hr;unfold fF at u y1;unfold sC;clear bc X hr;go_in
 go_wp2_with fail
 apply u.mono;rintro K W1⟨sx,sc,m,Ns,rfl,hX,_,L⟩;obtain⟨h4,hl⟩:=L.lens;have z0:aO W1 (R f 0)=H (ay db):=L.ws.fE.1;have p:=Ik L;have HX:=U hX;clear u hX L y1;go_wp2_with fail
 apply p.mono;rintro K W2⟨r0,t0,rfl,h3⟩;have h5:=h3.up (Gqq:=Fw a<|vk m)<|λbm bn bl S bo q=>⟨q.1,q.2.1,λK=>by obtain⟨K0,q3,_⟩:=q.2.2;exact q3.G2 K⟩;have v:=HR _ _ W2 h5;have b:W2.heap[E]?=H (fF kd aq au av ax<|J bb ba S):=h3.ws.obj (p:=(E,fF kd aq au av ax<|J bb ba S))<|fV _<|ew ..;unfold fF at b;unfold sC at v;have c0:=cellAt b 0 rfl;have c1:=cellAt b 1 rfl;have c2:=cellAt b 2 rfl;have c3:=cellAt b 3 rfl;have c4:=cellAt b 4 rfl;have c5:=cellAt b 5 rfl;clear p h3 h5 z0 HR b;try rw[A]
 go_wp2_with fail
 apply v.mono;rintro K W3⟨rfl,h6⟩;have h7:=h6.up<|λbm bn bl S bo q=>o6 q;have z0:aO W3 (R f 0)=H (ay db):=h7.ws.fE.1;have p:=Ik h7;clear v h6 h7 c0 c1 c2 c3 c4 c5;go_wp2_with fail
 apply p.mono;rintro K W4⟨r1,t1,rfl,P⟩;obtain⟨_,_,_,_,_,_,_,K0,⟨f1,f2⟩,V,e2⟩:=P.at;have ad:r1<=(vk m:M):=by omega
 have al:t1<=512:=by omega
 have D:=rV.OC P HX;have HL:=U<|P.ws.drop (O':=O)<|λbp b=>fV _<|bI _ b;have HS:=U D;have HM:=U<|ZA h4 hl;have HE:=U hl;clear p P z0 D V e2 f1 f2 hl;go_wp2_with fail
 go_loopw [10,11] (λn b wr=>∃o:M,o<=y m/\b=ap o/\n=ap (vk (m.take o):M)/\wr=W4) (λ_ b _=>y m-(intOf b).toNat)
 case atStart=>exact⟨0,bj _,rfl,rfl,rfl⟩
 (case round=>obtain⟨o,hi,rfl,rfl,bh⟩:=hrel;subst wr;by_cases n:o<y m;(.obtain⟨bl,ao,hx,bf,bi,bk,hc,_⟩:=HS.at n;subst hx;have hm:=HM o;have bd:=HE _<|ak n;(have V:(o:Z)<(y m:Z):=by omega);(have B:vk (m.take<|o+1)=vk (m.take o)+if o=0 then y m[o]else if y m[o]=0 then 0 else 1:=by rw[VJ n];by_cases r:o=0;rw[dz r,dz r,show vk (m.take o)=0 by rw[r];rfl,dp];rw[dr r,dr r];unfold wh;by_cases q:m[o]=[];rw[dz q,q];rfl;grind);have s:=U B;clear B;generalize vk (m.take o)=q at*;generalize y m[o]=w at*;by_cases r:o=0;(·(have ac:((o:Z)==0)=bU:=by rw[beq_iff_eq];omega);(have t:vk (m.take<|o+1)=q+w:=by have:=ae s;rwa[dz r]at this);clear s r;(have an:IntKind.i64.wrap ((q:Z)+(w:Z))=(q:Z)+(w:Z):=by rw[bw];omega);have x:=U t;clear t;go_wp2;go_roundw;(case rel=>exact⟨o+1,n,by go_num,by rw[ae x];go_num,trivial⟩);case measure=>simp[intOf];omega);(·(have ac:((o:Z)==0)=aY:=by rw[jx];omega);(have t:vk (m.take<|o+1)=q+if w=0 then 0 else 1:=by have:=ae s;rwa[dr r]at this);clear s r;by_cases Q:w=0;(.rw[dz Q]at t;have x:=U t;(have ez:¬0<w:=by omega);clear t Q;go_wp2;go_roundw;(case rel=>exact⟨o+1,n,by go_num,by rw[ae x];go_num,trivial⟩);case measure=>simp[intOf];omega);(.rw[dr Q]at t;have x:=U t;(have ez:0<w:=by omega);(have an:IntKind.i64.wrap ((q:Z)+1)=(q:Z)+1:=by rw[bw];omega);clear t Q;go_wp2;go_roundw;(case rel=>exact⟨o+1,n,by go_num,by rw[ae x];go_num,trivial⟩);case measure=>simp[intOf];omega)));(have r:o=y m:=by omega);subst r;rw[aX];generalize vk m=q at*;(have V:¬(y m:Z)<(y m:Z):=by omega);have s:decide (r1<=(q:Z))=bU:=mw ad;have t:decide (t1<=512)=bU:=mw al;go_wp2;go_ret;exact⟨rfl,HL⟩)
end
section
variable{e W:Y}{h db sbqq c:M}{f:PB}{mem b:Z}{g d:aa}{O:cw (M×Obj)}{C N:M}{l:LC}{a:Bool}
theorem vZ{l:jN}{i:uP}:(if a=aY/\ga i=0 then Us l i else l)=(if a then l else rp l i):=by
 unfold rp;cases a<;>simp
theorem Tj(cp:jh e W h db sbqq c f mem b g d O C N l a l a)(cB cE:Z)(bb bT:ab)(T j cc ca:M)(r s:ab)(u:Bool)(hn:0<cc)(ds:cc<=ca)(dm:cc<=1000000000000)(A:T<z (G e))(r0:aO e (R T j)=H (aj r))(r1:aO e (R T<|j+1)=H (aj s))(r2:aO e (R T<|j+2)=H (aK u))(hz:r.size<=140737488351232/\s.size<=140737488351232)(hC:C+lk [⟨r,s,u⟩]<=1000000)(hN:N+1<=100000000):cD bz 46 #[ay h,sC 4 cB cE bb bT<|bB T j cc ca] W λcb w'=>cb=aL (aK bU)/\∃bu l',jh e w' h db sbqq c bu mem b g d O (C+lk [⟨r,s,u⟩]) (N+1) l' a l' a:=by
 obtain⟨E,av⟩:∃E,z (G W)=E:=⟨_,rfl⟩;have h1:jh e (cF W<|fF 4 cB cE bb bT<|bB T j cc ca) h db sbqq c f mem b g d ((E,fF 4 cB cE bb bT<|bB T j cc ca)::O) C N l a l a:=cp.add (cK _ W) (by omega)<|aB _ av.symm;have n:=h1.still<|ci az _;have m:=VM n bb bT r s u hz hC hN;have P:∀k,I az e k->aO k (R T j)=H (aj r)/\aO k (R T<|j+1)=H (aj s)/\aO k (R T<|j+2)=H (aK u):=λk m=>⟨m.cell r0 id A,m.cell r1 id A,m.cell r2 id A⟩;have X:=And.intro n.fE.2.1 (And.intro n.dN.2.2.2.1 (And.intro n.dN.2.2.2.2.1 (And.intro n.dN.2.2.2.2.2 (P _ n.aw))));have dn:=am cp.box;have cq:=cp.lens;have cu:c<z (G W):=by obtain⟨⟨cx,hh,_⟩,_⟩:=cp.ref;exact am hh
 have cl:y (if a then []else nw l.1 bb bT 0)<=1000000:=by have:=mS l.1 bb bT 0;grind
 have B:=λo(q:mO o c f.1 l.1 a f.2)=>ud f.1 bb bT 0 q (by omega);have D:∀o,I az e o->cD bz 21 #[bB T j 1 ca] o λcb w'=>∃v',cb=aL v'/\NQ w' (z<|G o) v' [⟨r,s,u⟩]/\Below (z<|G o) o w':=λo bl=>by refine zy [⟨r,s,u⟩] _ o (by simp) ⟨rfl,.inr ⟨T,j,ca,rfl,by grind,λea ed hj=>?_⟩⟩ (λV hk=>by cases hk;exact ag A bl.size);obtain⟨q0,q1,q2⟩:=P o bl;rcases ea with _|_|_|ea;cases hj;exact q0;cases hj;exact q1;cases hj;exact q2;simp[eX,oP]at hj
 have Q:=λo v'(q:mO o c f.1 l.1 a f.2)(j:NQ o E v' [⟨r,s,u⟩])=>sj f.1 q (da j) (λV hk=>(aG j V hk).2) (by simp;omega);obtain⟨p,hR⟩:∃p,(if a then []else nw l.1 bb bT 0)=p:=⟨_,rfl⟩;obtain⟨gn,bm⟩:∃gn:Z,(if a then 6 else 0)=gn:=⟨_,rfl⟩;obtain⟨wn,ba⟩:∃wn:Z,(if a then 6 else ga [⟨r,s,u⟩])=wn:=⟨_,rfl⟩;rw[hR,ba]at m;rw[hR]at cl;simp only[hR,bm]at B;simp only[ba,vZ]at Q;obtain⟨la,ao⟩:∃la,(if a then l.1 else rp l.1 [⟨r,s,u⟩])=la:=⟨_,rfl⟩;rw[ao]at m;simp only[ao]at Q;obtain⟨S,bi,bh,ce⟩:=gH B D Q P;have e1:(0:Z)<(cc:Z):=by omega
 have e2:(1:Z)<=(ca:Z):=by omega
 have cs:z (G W)=E:=av;unfold sC;unfold fF at m X;clear cp h1 n hR bm ba ao B D Q P r0 r1 r2 A;go_in
 go_wp2_with fail
 try rw[av]
 rename_i QQ KK w;refine cI (λk=>aO k (R h 1)=H (ay sbqq)/\aO k (R E 3)=H (aj bb)/\aO k (R E 4)=H (aj bT)/\aO k (R E 5)=H (bB T j cc ca)/\aO k (R T j)=H (aj r)/\aO k (R T<|j+1)=H (aj s)/\aO k (R T<|j+2)=H (aK u)) 17 (by kernel_rfl) ?_;refine cY 0 ?_;iterate 12 (refine eM (v:=?_) X rfl (by kernel_rfl) iW rfl ?_ ?_;rotate_left;(focus(rintro k⟨z0,z1,z2,z3,z4,z5,z6⟩;go_simp;try rfl));simp only[Act.put,dD,gz,Nat.reduceAdd])
 apply eC;refine aM (i:=12) rfl rfl (by kernel_rfl) ?_;intro KC v;go_simp;apply m.mono;rintro cb W2⟨v2,rfl,al,n⟩;obtain⟨cT,cM,cm⟩:=aA al;subst cm;have F:=n.still<|ci az W2;have ac:=And.intro n.fE.2.1 (And.intro n.dN.2.2.2.1 (And.intro n.dN.2.2.2.2.1 (And.intro n.dN.2.2.2.2.2 (ce _ n.aw))));have bd:=U al;have t:=U F;refine v _ _ (λ_=>ac) ?_;try simp only[Act.put,dD,gz]
 refine cY 13 ?_;iterate 4 (refine eM (v:=?_) ac rfl (by kernel_rfl) iW rfl ?_ ?_;rotate_left;(focus(rintro k⟨z0,z1,z2,z3,z4,z5,z6⟩;go_simp;try rfl));simp only[Act.put,dD,gz,Nat.reduceAdd])
 apply eC;refine aM (i:=17) rfl rfl (by kernel_rfl) ?_;intro KL x;go_simp;refine x _ _ wX ?_;refine cW (by kernel_rfl) ?_ _;show KK _ _;apply w;have br:=S _ t.ref;have bk:=And.intro t.fE.2.2.1 (And.intro t.dN.2.2.2.1 t.dN.2.2.2.2.1);have cv:z (G W)<z (G W2):=by have:=am<|n.obj<|ew ..;grind
 clear X ac m al n F v x w S;go_wp2_with fail
 rename_i KK w;refine cI (λk=>aO k (R h 2)=H (ay c)/\aO k (R E 3)=H (aj bb)/\aO k (R E 4)=H (aj bT)) 13 (by kernel_rfl) ?_;refine cY 0 ?_;iterate 8 (refine eM (v:=?_) bk rfl (by kernel_rfl) iW rfl ?_ ?_;rotate_left;(focus(rintro k⟨z0,z1,z2⟩;go_simp;try rfl));simp only[Act.put,dD,gz,Nat.reduceAdd])
 apply eC;refine aM (i:=8) rfl rfl (by kernel_rfl) ?_;intro KC v;go_simp;apply br.mono;rintro cb W3⟨v3,rfl,aq,K⟩;obtain⟨dd,dc,cn⟩:=aA aq;subst cn;have F:=t.still<|I.aR K;have ad:=And.intro F.fE.2.2.1 (And.intro F.dN.2.2.2.1 F.dN.2.2.2.2.1);have dv:=K.size;obtain⟨bg,cd,bf⟩:=dA aq K F;have y5:aO W3 (R E 5)=H (bB T j cc ca):=F.dN.2.2.2.2.2;refine v _ _ (λ_=>ad) ?_;try simp only[Act.put,dD,gz]
 refine cY 9 ?_;iterate 4 (refine eM (v:=?_) ad rfl (by kernel_rfl) iW rfl ?_ ?_;rotate_left;(focus(rintro k⟨z0,z1,z2⟩;go_simp;try rfl));simp only[Act.put,dD,gz,Nat.reduceAdd])
 apply eC;refine aM (i:=13) rfl rfl (by kernel_rfl) ?_;intro KL x;go_simp;refine x _ _ wX ?_;refine cW (by kernel_rfl) ?_ _;show KK _ _;apply w;have D:=bi _ bf.aw;clear br bk ad v x w aq K F;go_wp2_with fail
 apply D.mono;rintro cb W4⟨v4,rfl,au,L⟩;have h4:=bf.still<|I.aR L;have dx:=L.size;have dk:z (G W2.drew)=z (G W2):=rfl;have bt:=bh W4 v4 h4.ref (er au<|by omega);obtain⟨ec,eb,co⟩:=aA au;subst co;have y2:aO W4 (R h 2)=H (ay c):=h4.fE.2.2.1;have bc:=U L;have ch:=U h4;clear au L h4 D bh bi;go_wp2_with fail
 apply bt.mono;rintro cb W5⟨rfl,⟨bu,bq,bo⟩,an⟩;have h5:=ch.LP an bq bo;have t5:I (λV=>V=c) W4 W5:=fm an;have bv:I (λV=>V=c) W2 W5:=(((ci (λV=>V=c) W2).cr<|I.aR (S:=az) cd).cr<|I.aR (S:=az) bc).trans t5<|λ_ q=>.inl q;have bx:I (λV=>V=c) W3 W5:=(I.aR (S:=λV=>V=c) bc).trans t5<|λ_ q=>.inl q;have bn:mT W5 (J cT (y p) cM) p:=bv.row (da bd) (λV hk=>by have hq:=aG bd V hk;simp at hq;grind);have bp:mT W5 (J dd (y p) dc) p:=bx.row (pu.Me bg) (λV hk=>by have hq:=aG bg V hk;grind);have ax:=oM bn bp (by omega) (by omega);simp only[mQ]at ax;have cj:=U h5;clear bn bp bv bx t5 h5 an bq bo bt;go_wp2_with fail
 apply ax.mono;rintro cb W6⟨rfl,kq,bs⟩;have ck:=U<|cj.still (W':=W6) (by rw[bs];exact gD _ _ _);clear ax bs;go_wp2_with fail
 apply(kS wn _).mono;rintro cb W7⟨rfl,dT⟩;subst W7;go_wp2;go_ret;exact⟨rfl,_,_,ck.drop<|λp j=>bI _ j⟩
end
def tN(i:cw cf):M:=(i.map iF).sum
theorem IG{i:cw cf}{n:M}(k:n<y i):tN (i.take<|n+1)=tN (i.take n)+iF i[n]:=by
 rw[ah k];unfold tN;rw[aQ,eR,sL,sK]
theorem Rj(i:cw cf)(n:M):tN (i.take n)<=tN i:=by
 have k:=bX tN<|bN n i;unfold tN at*;rw[aQ,eR]at k;omega
theorem IF{i:cf}{n:M}(k:n<y i):iF (i.take<|n+1)=iF (i.take n)+kF i[n].ks:=by
 rw[ah k,Cj]
theorem Pz{k:mq}(p:Cu k):iP (fS k) (fg k)=aY:=by
 have q:=p.ne
 have n:∀o,o<y k->iP (fS<|k.take<|o+1) (fg k)=aY:=λo=>by
  induction o with
  |zero=>
   intro i;rw[ah i,wv,vA i];exact(p.can _<|ak i).le
  |succ o r=>
   intro i;have s:=r (by omega);have t:=p.F6 (o+1) i;have u:=(p.can _<|ak i).le;rw[ah i,wv];grind[kZ,JS]
 have:=n (y k-1) (by omega);rwa[Nat.sub_add_cancel q,aX]at this
theorem Xb{i:mq}(n:Cu i):1<=kF i:=by
 have k:=n.ne;cases i with
 |nil=>simp at k
 |cons o r=>
  have:=(n.can o<|by simp).c1;simp[kF];omega
structure ZV(Ts:cw cf)(mem qQ:Z)(ns:cw ab)(np:M):Prop where
 len:y Ts=4
 D7:∀i(hi:i<y Ts),(i=0->(y Ts[i]:Z)<qQ)/\(i=1\/i=2->(y Ts[i]:Z)<=qQ)
 wT:∀ts∈Ts,∀t∈ts,fC t.num∈ns/\1<=kF t.ks/\kF t.ks<=100/\iP (fS t.ks) (fg t.ks)=aY/\fg t.ks≠⟨#[]⟩
 apart:∀i(hi:i<y Ts),0<i->∀k(hk:k+1<y Ts[i]),iP (fS Ts[i][k].ks) (fg Ts[i][k+1].ks)=bU
 EW:(rZ Ts.flatten).Nodup
 G3:y ns<=y Ts.flatten+4
 small:y Ts.flatten<=2000000
 DL:tN Ts<=1000000
 G0:(np:Z)<=tN Ts+mem-1
 mm:1<=mem/\mem<=32
theorem kp.next{i:cf}(q:kp i){n:M}(k:n+1<y i):iP (fS i[n].ks) (fg i[n+1].ks)=bU:=by
 obtain⟨x,r,o⟩:=(q.pure _<|ak<|show n<y i by omega).vt;obtain⟨t,s,p⟩:=(q.pure _<|ak k).Cb;rw[<-o,<-p];exact q.pair (by omega) k (by omega) r s
section
variable{j W W':Y}{m db sbqq h:M}{g:PB}{mem a:Z}{c b:aa}{O:cw (M×Obj)}{C N:M}{l f:LC}{d e:Bool}{F:DK->cf->cf->cf->cf->Prop}
theorem LW.files{D:SR}{K:DK}{B:cJ}{r s u v:cf}{n:M}{k:dL}{A:Zs}{x:cw oo}(L:LW j W m db sbqq h g mem a c b O D K B r s u v C n N k A x f aY l d):y K.files<=y (r++s++u++v)+2:=by
 obtain⟨_,rfl,p⟩:=L.rY
 have i:=vi (l:=(vw K.files).map (·.1)) (m:=gP::iQ D.log::(r++s++u++v).map (λE=>fC E.num)) p.st.aH.nodup (λQ w=>by
  obtain⟨t,o⟩:=pO w;rcases p.qF.names Q t o with q|⟨q,_⟩|⟨E,P,q⟩
  .simp[q]
  .simp[q]
  grind)
 simpa[vw]using i
theorem LW.n5{ao:SR}{S:DK}{an:cJ}{r s u v:cf}{B:M}{A:dL}{zs:Zs}{ss:cw oo}{Q:cw ab}(T:LW j W m db sbqq h g mem a c b O ao S an r s u v C B N A zs ss f aY l d)(K:Q.Perm (S.files.map df.name)):ZV [r,s,u,v] mem a Q (y f.1):=by
 have al:=T.files;have x:=T.now;obtain⟨t1,t2,tc,t3,t4,t5⟩:=T.tid rfl;obtain⟨_,rfl,i⟩:=T.rY;have E:∀o∈[r,s,u,v],∀t∈o,qC W ao.aH (vw S.files) (Aside W S ao.aH sbqq) t/\t∈r++s++u++v:=λo k t n=>by simp only[bH,fO,mu]at k;rcases k with rfl|rfl|rfl|rfl;exact⟨i.st.l0.each t n,by simp[n]⟩;exact⟨i.st.l1.each t n,by simp[n]⟩;exact⟨i.st.l2.each t n,by simp[n]⟩;exact⟨i.st.l3.each t n,by simp[n]⟩
 have w:∀o∈[r,s,u,v],iF o=y (cg o):=λo k=>um<|λt n=>(E o k t n).1.ks;have ac:tN [r,s,u,v]=y (cg r)+y (cg s)+y (cg u)+y (cg v):=by simp[tN,w];omega
 have P:=i.st.qf;have L:=i.st.lV;have ad:=i.st.count;refine⟨rfl,λV p=>?_,λo k t n=>?_,λV p h0 au w=>?_,?_,?_,?_,?_,?_,?_⟩;grind
 obtain⟨aq,X⟩:=E o k t n;have p:=aq.idx;rw[<-aq.ks]at p;refine⟨K.mem_iff.2 ?_,Xb p,p.DL,Pz p,λq=>?_⟩;have:=CW<|i.qF.wT t X;simpa[vw]using this;have:=(Iv p).1;rw[q]at this;simp[ByteArray.size]at this;(have X:V=1\/V=2\/V=3:=by grind);rcases X with rfl|rfl|rfl;exact i.st.s1.next w;exact i.st.s2.next w;exact i.st.s3.next w;have D:=i.qF.yW;(have X:[r,s,u,v].flatten=r++s++u++v:=by simp);rw[X];unfold rZ;unfold List.Nodup at D|-;rw[jp]at D|-;exact D.imp<|λq X=>q<|sS X;have:=K.length_eq;grind
 simp;omega;omega;have D:=Vs i.all x;have X:=NI r;have h3:=i.Xx;have h4:=i.Ut;(have h5:y (an::bV r s u v).flatten=y an+(y (cg r)+y (cg s)+y (cg u)+y (cg v)):=by unfold bV;rw[bG,dB,af,af,X];grind);omega;have:=i.Mg;omega
theorem Yi{k:cw cf}(n:rV (j3 F aY k) j W m db sbqq h g mem a c b O C N f aY l d):cD bz 15 #[ay db] W λx W'=>∃v i,x=aL v/\W'.ownsRow (z<|G W) 9 1 v (y i) (strs i)/\ZV k mem a i (y f.1)/\I az W W':=by
 obtain⟨S,P,Q,A,B,D,E,q,p,L,K,hF,n⟩:=n;have r:k=[A,B,D,E]:=hF.2;subst r;have s:=n.files;obtain⟨_,rfl,o⟩:=n.rY;have:=o.st.count;apply(AI o.st.aH<|by grind).mono;rintro x W'⟨v,i,rfl,u,t,w⟩;exact⟨v,i,rfl,t,n.n5 u,w⟩
end
theorem uI:(prog.info? 44).map (λi=>(i.zero,i.size,i.bytes))=H (H<|dW #[aj ⟨#[]⟩,aj ⟨#[]⟩,aK aY],3,40):=by kernel_rfl
theorem ZL(m v:ab)(k:Bool)(w:Y):(binOp .neq 44 (dW #[aj m,aj v,aK k])<|dW #[aj m,aj v,aK k]).run bz w=.ok (aK aY) w:=by
 have i:prog.underlying 44=H (.struct<|prog.fieldsOf 44):=by kernel_rfl
 have j:prog.stoodInHeld 44=aY:=by kernel_rfl
 rw[run_neq_struct,show(10000:M)=9999+1 from rfl,run_equalIn_agg w 9999 _ _ _ i j];simp only[Program.fieldsOf,underlying44];go_simp
theorem FQ(i:uP):y (eX i)=y i*3:=by
 induction i with
 |nil=>rfl
 |cons k i j=>
  unfold eX at*;rw[dF,af,j,aS];simp only[oP,aS,dH];omega
theorem Af{P:Program}(x:Y){o:Array Oper}{k:cw Oper}{w:Oper}{A:Act}{ac:Exit->Act->Y->Prop}(u:w.guard=none)(an aq:Operand)(D:TypeId)(Q:w.op=.call {callee:=.builtin .append,args:=#[an,aq],argTypes:=#[D,D]})(B:TypeId)(v:TypeInfo)(n:aa)(V:P.underlying D=H (.slice B))(K:P.info? B=H v)(hz:v.zero=H n)(T:A.eval an=aD)(q:Addr)(p ad:M)(i:iC)(X:A.eval aq=J (H q) p ad)(L:y i=p*v.size)(m:∀al ao,i[al]?=H ao->aO x (q.add al)=H ao)(E:0<p)(s:p<=maxLen)(t:(p:Z)<=9223372036854775807)(r:p*v.bytes<=281474976710656)(au:∀j,p<=j->j<=maxLen->wpList P o ac k (A.put w.dst<|bB (z<|G x) 0 p j) (cF x.drew<|ar (i.toArray++Builtin.zeroCells n.cells (j-p)) B)):wpList P o ac (w::k) A x:=by
 refine kP u λav F=>?_;have S:=run_append_nil x D w.type B v n V K hz q p ad i L m E t r;unfold Oper.wp execOp;simp only[Q,resolve,invoke,builtin,ki,pV,jm,List.map_toArray,bZ,fW,T,X,S];exact F _ _<|au _ (grownCap_ge _ _ _ _)<|sH _ _ _ _ s
def FP(i:uP)(m:M):Array aa:=(eX i).toArray++Builtin.zeroCells #[aj ⟨#[]⟩,aj ⟨#[]⟩,aK aY] m
theorem ID(j:uP)(n:M):∀u∈(FP j n).toList,(∃s,u=aj s)\/∃m,u=aK m:=by
 intro u i;unfold FP at i;rw[ow,aE]at i;rcases i with i|i;unfold eX at i;obtain⟨o,_,k⟩:=mD.1 (by simpa using i);simp only[oP,bH,fO,mu]at k;grind
 unfold Builtin.zeroCells at i;grind
theorem Bd(i:uP)(n k:M)(u:aa)(m:(eX i)[k]?=H u):(FP i n)[k]?=H u:=by
 have j:k<y (eX i):=by grind
 unfold FP;rw[nN<|by simpa using j];simpa using m
section
variable{e W:Y}{f db sbqq g:M}{h:PB}{mem b:Z}{d c:aa}{O:cw (M×Obj)}{C N:M}{l:LC}{a:Bool}
theorem Ek(ds:jh e W f db sbqq g h mem b d c O C N l a l a)(ei ej:Z)(ek el:ab)(ao i o al:M)(j:uP)(hn:o=y j)(cn:0<o)(ev:o<=al)(dT:o<=1000000000)(cd:ao<z (G e))(bb:∀E bi,(eX j)[E]?=H bi->aO e (R ao<|i+E)=H bi)(hz:∀eB∈j,eB.key.size<=140737488351232/\eB.val.size<=140737488351232)(hC:C+lk j<=1000000)(hN:N+1<=100000000):cD bz 8 #[ay f,sC 1 ei ej ek el<|bB ao i o al] W λbh w'=>bh=aL (aK bU)/\yU e w' f O (C+lk j) (N+1):=by
 obtain⟨i0,dx,ec,ed,ef⟩:=cH uI;obtain⟨p,X⟩:∃p,z (G W)=p:=⟨_,rfl⟩;obtain⟨u,ax⟩:∃u,cF W (fF 1 ei ej ek el<|bB ao i o al)=u:=⟨_,rfl⟩;have h1:jh e u f db sbqq g h mem b d c ((p,fF 1 ei ej ek el<|bB ao i o al)::O) C N l a l a:=by rw[<-ax];exact ds.add (cK _ W) (by omega)<|aB _ X.symm
 have bo:=U ds.Gw;have bn:=U (show∀cx∈O,cx.1<p fromλcx hp=>by have:=am<|ds.obj hp;omega);have eo:=ds.lens;have ac:z (G u)=p+1:=by rw[<-ax,<-X];simp
 have ey:=ds.aw.size;have s:∀k,I az e k->∀E bi,(eX j)[E]?=H bi->aO k (R ao<|i+E)=H bi:=λk hX E bi hj=>hX.cell (bb E bi hj) id cd;have hL:∀k,I az e k->yp k (bB ao i o al) j:=λk hX=>⟨FQ j,.inr ⟨ao,i,al,by rw[hn],by omega,s k hX⟩⟩;have ez:=am ds.box;obtain⟨cE,bp,es,HL,av,an⟩:=jX h1 ax bb hL s X;have au:y (eX j)=o*3:=by rw[FQ,hn]
 have t:=U hn;have HZ:=U hz;unfold sC;have c5:aO u (R p 5)=H (bB ao i o al):=h1.dN.2.2.2.2.2;have ck:∀E bi,(eX j)[E]?=H bi->aO u (((R ao i):Addr).add E)=H bi:=λE bi hj=>by rw[du];exact s u h1.aw E bi hj
 obtain⟨dd,A,cB⟩:=dA ck ac au;clear ds h1 s hL bb hz hn ck au X ac;go_in
 unfold fF at bp
 go_wp2_with(first
  |(at_builtin;rw[ae bp];go_loud(refine Af _ rfl (.tmp 40) (.tmp 42) 27 rfl 44 i0 (.agg #[.string ⟨#[]⟩,.string ⟨#[]⟩,.bool aY]) underlying27 dx ec rfl (R ao i) o al (eX j) rfl (by rw[ed];exact cB) dd cn (by unfold maxLen;omega) (by omega) (by rw[ef];omega) ?_;intro r dv em)))
 obtain⟨m,T⟩:∃m,z (G u)=m:=⟨_,rfl⟩;have ac:=ae A;obtain⟨K,B⟩:∃K,(cF u<|ar (FP j<|r-o) 44).drew=K:=⟨_,rfl⟩;have D:I az u K:=by rw[<-B];exact(cK az u).of_heap rfl
 have S:K.heap[m]?=H (ar (FP j<|r-o) 44 (0,0)):=by rw[<-B];exact aB (w:=u) _ T.symm
 have h2:jh e K f db sbqq g h mem b d c ((m,ar (FP j<|r-o) 44 (0,0))::(p,fF 1 ei ej ek el<|bB ao i o al)::O) C N l a l a:=cE.add D (by omega) S;have br:jh e K f db sbqq g h mem b d c ((p,fF 1 ei ej ek el<|bB ao i o al)::(m,ar (FP j<|r-o) 44 (0,0))::O) C N l a l a:=h2.drop (λcx hp=>by grind);have Q:=br.still<|ci az K;have ex:=D.size;have ce:m<z (G K):=am S;have cb:yp K.drew (bB m 0 o r) j:=⟨FQ j,.inr ⟨m,0,r,by rw[ae t],by rw[<-ae t];exact dv,λE bi hj=>by rw[bY,dp,bL S];exact Bd j _ E bi hj⟩⟩;have bg:=λi=>Fi Q (bB m 0 o r) j i cb (λcv hk=>by have n:m=cv:=gY hk;have x:=ae bo;have g2:=ae an;exact⟨by rw[<-n];exact ce,by omega⟩) HZ (by rw[<-ae t];exact dT) hC hN;obtain⟨wn,bf⟩:∃wn:Z,(if a then 6 else ga j)=wn:=⟨_,rfl⟩;obtain⟨la,bc⟩:∃la,(if a then l.1 else rp l.1 j)=la:=⟨_,rfl⟩;simp only[bf,bc]at bg;have bx:=And.intro Q.fE.2.1 Q.dN.2.1;obtain⟨dm,dc,L,et⟩:=gH bf bc T B;have eg:=ae an;clear ac;have aq:(cF u<|ar ((eX j).toArray++Builtin.zeroCells #[aj ⟨#[]⟩,aj ⟨#[]⟩,aK aY] (r-o)) 44).drew=K:=B;rw[T,aq];clear D h2 br Q cb bf bc c5 B aq T S;try rw[eg]
 rename_i QQ KK bt;refine cI (λk=>aO k (R f 1)=H (ay sbqq)/\aO k (R p 1)=H (ap ei)) 10 (by kernel_rfl) ?_;refine cY 0 ?_;iterate 9 (refine eM (v:=?_) bx rfl (by kernel_rfl) iW rfl ?_ ?_;rotate_left;(focus(rintro k⟨z0,z1⟩;go_simp;try rfl));simp only[Act.put,dD,gz,Nat.reduceAdd])
 apply eC;refine aM (i:=9) rfl rfl (by kernel_rfl) ?_;intro KC bs;go_simp;apply(bg _).mono;rintro bh W3⟨rfl,h3⟩;have bT:=And.intro h3.fE.2.1 h3.dN.2.1;have bl:=U h3;refine bs _ _ (λ_=>bT) ?_;try simp only[Act.put,dD,gz]
 refine aM (i:=10) rfl rfl (by kernel_rfl) ?_;intro KL bu;go_simp;refine bu _ _ wX ?_;refine cW (by kernel_rfl) ?_ _;show KK _ _;apply bt;have y5:aO W3 (R p 5)=H (bB ao i o al):=h3.dN.2.2.2.2.2;have cp:=zy j (bB ao i o al) W3 (by rw[<-ae t];omega) (HL W3 h3.aw) (λcv hk=>by cases hk;exact ag cd h3.aw.size);clear bx bT bg bs bu bt h3;go_wp2_with fail
 apply cp.mono;rintro bh W4⟨v4,rfl,V,ba⟩;have h4:=bl.still<|I.aR ba;have eq:=ba.size;have en:m<z (G W3):=am<|bl.obj<|bI _<|ew ..;have bd:=sj h.1 h4.ref (da V) (λcv hk=>(aG V cv hk).2) (by rw[<-ae t];omega);rw[ae dm,vZ,ae dc]at bd;obtain⟨fb,eF,eb⟩:=aA V;subst eb;have y2:aO W4 (R f 2)=H (ay g):=h4.fE.2.2.1;have cM:=U h4;clear V ba h4 cp y5;go_wp2_with fail
 apply bd.mono;rintro bh W5⟨rfl,⟨eA,co,cm⟩,cc⟩;have h5:=cM.LP cc co cm;have cq:=jb wn h5.vG;have cT:=U h5;clear bd co cm cc h5 y2;go_wp2_with fail
 apply cq.mono;rintro bh W6⟨rfl,ca⟩;have h6:=cT.still<|I.aR ca;have cs:W6.heap[m]?=H (ar (FP j<|r-o) 44 (0,0)):=h6.obj (p:=(m,ar (FP j<|r-o) 44 (0,0)))<|bI _<|ew ..;have cu:aO W6 (R p 5)=H (bB ao i o al):=h6.dN.2.2.2.2.2;have ch:p≠m:=by have:=ae L;have:=ae A;omega
 have cl:p<z (G W6):=am<|h6.obj<|ew ..;obtain⟨bm,bq,dn⟩:=dA h6 cs cu;clear ca cq h6 cs cu;go_wp2_with fail
 go_loopw [10] (λi wr=>∃(F:M)(P:Array aa),F<=o/\i=ap F/\wr.heap[m]?=H (ar P 44 (0,0))/\(∀E,F*3<=E->P[E]?=(FP j<|r-o)[E]?)/\I (λcv=>cv=m) W6 wr) (λi _=>o-(intOf i).toNat)
 case atStart=>exact⟨0,_,bj _,rfl,bq,λ_ _=>rfl,I.refl _ _⟩
 (case round=>obtain⟨F,P,hi,rfl,hx,n,x⟩:=hrel;by_cases cj:F<o;(·(have bv:F<y j:=by rw[<-ae t];exact cj);obtain⟨q0,q1,q2⟩:=kX j F bv;have ad:I az e wr:=bm.aw.trans x<|λcv bh=>.inr (by have:cv=m:=bh;have:=ae L;have:=ae A;omega);have a0:=av wr ad _ _ q0;have a1:=av wr ad _ _ q1;have a2:=av wr ad _ _ q2;have b0:aO wr (R m<|F*3)=_:=(bL hx).trans<|(n _<|by omega).trans<|Bd j (r-o) _ _ q0;have b1:aO wr (R m<|F*3+1)=_:=(bL hx).trans<|(n _<|by omega).trans<|Bd j (r-o) _ _ q1;have b2:aO wr (R m<|F*3+2)=_:=(bL hx).trans<|(n _<|by omega).trans<|Bd j (r-o) _ _ q2;have y5:aO wr (R p 5)=H (bB ao i o al):=x.cell dn ch cl;(have yf:∀E,wr.frozen? (R m E)=aY:=λE=>by simp[World.frozen?,hx]);rw[<-aV]at a1 a2;have ea:=ZL j[F].key j[F].val j[F].del;generalize j[F]=eu at*;obtain⟨xk,xv,xd⟩:=eu;simp only at a0 a1 a2 b0 b1 b2 ea;(have e1:(F:Z)<(o:Z):=by omega);(have e0:(0:Z)<=(F:Z):=by omega);obtain⟨HX,bk,dk⟩:=dA hx n x;clear hx n x ad q0 q1 q2;(go_wp2_with fail);(go_quiet(fail));go_wp2;go_roundw;(case rel=>have hd:(wr.drewN nq).heap[m]?=H (ar P 44 (0,0)):=ae HX;refine⟨F+1,_,cj,by go_num,aT<|aT<|aT hd,λE hj=>?_,?_⟩;rw[jP (by omega),jP (by omega),jP<|by omega];exact bk E (by omega);exact(((dk.trans (gD (λcv=>cv=m) wr nq)<|λ_ q=>.inl q).setCell _ _ _<|.inl rfl).setCell _ _ _<|.inl rfl).setCell _ _ _<|.inl rfl);case measure=>simp[intOf];omega);(have dk:F=o:=by omega);subst dk;(have e1:¬((F:Z)<(F:Z)):=by omega);have bv:∀cx∈O,cx.1<p:=bn;have ad:=bm.XD (O':=O) (by have:=ae L;have:=ae A;omega) ⟨_,bI _<|ew ..⟩ bq (λq o al=>by rcases ID _ _ _ al with⟨_,bh⟩|⟨_,bh⟩<;>cases bh) (λq al=>by rcases ID _ _ _ al with⟨_,bh⟩|⟨_,bh⟩<;>cases bh) x<|λcx hp=>⟨bI _<|bI _ hp,by have:=bv cx hp;have:=ae L;have:=ae A;omega⟩;have bk:=U ad;clear ad hx n x bv;(go_wp2_with fail);apply(kS wn _).mono;rintro bh W9⟨rfl,ea⟩;subst W9;go_wp2;go_ret;exact⟨rfl,db,sbqq,g,_,mem,b,d,c,_,a,bk⟩)
end
def vC(k:cw cf):M:=(k.map wh).sum
theorem PQ{k:cw cf}{n:M}(m:n<y k):vC (k.take<|n+1)=vC (k.take n)+if y k[n]=0 then 0 else 1:=by
 rw[ah m];unfold vC;rw[aQ,eR,sL,sK];unfold wh;by_cases q:k[n]=[];rw[dz q,q];rfl;grind
theorem WI(k:cw cf)(n:M):vC (k.take n)<=y k:=by
 have m:∀r:cw cf,vC r<=y r:=λr=>by
  induction r with
  |nil=>exact ai _
  |cons x r o=>
   have:wh x<=1:=by unfold wh;split<;>omega
   unfold vC at*;grind
 have:=m<|k.take n;have:=ou n k;grind
section
variable{h W W':Y}{e db sbqq d:M}{g:PB}{mem a:Z}{f b:aa}{O:cw (M×Obj)}{C N:M}{l j:LC}{i c:Bool}{F:DK->cf->cf->cf->cf->Prop}
theorem Px(ca:rV (Lz aY l) h W e db sbqq d g mem a f b O C N l aY l aY):cD bz 9 #[ay e] W λcc w'=>cc=aL (aK bU)/\jh h w' e db sbqq d g mem a f b O C N l aY l aY:=by
 have x:=AG ca;have y1:aO W (R e 1)=H (ay sbqq):=ca.ws.fE.2.1;have y2:aO W (R e 2)=H (ay d):=ca.ws.fE.2.2.1;obtain⟨p,hn,aq,c1⟩:∃p,KF W g.2 p/\p.map oo.abs=l.2/\aO W (R d 1)=H g.2:=by obtain⟨v,K,u,cB,bl,ce,cu,s,r,t,p,_,k⟩:=ca;obtain⟨⟨cx,hh,_,_⟩,_,_⟩:=k.ref.ref;exact⟨p,k.ref.Gj,k.ref.abs,cellAt hh 1 rfl⟩
 have cn:=hn.small;obtain⟨px,pc,w⟩:=bM hn.row;rw[w]at c1
 have HC:=U (show∀o(hi:o<y p),∃bl m,px=H (R bl m)/\y p<=pc/\aO W (R bl<|m+o*2)=H (aK p[o].live)fromλo hi=>by
  rcases hn.row.2 with⟨_,r⟩|⟨bl,m,k,cc,X,au⟩
  .omega
  .rw[w]at cc;cases cc;exact⟨bl,m,rfl,X,au _ _ (yz p o hi).1⟩)
 have ad:=U (show(∀bi∈p,bi.live=aY)->∀bi∈l.2,bi=none fromλq bi S=>by rw[<-aq]at S;obtain⟨bk,k,rfl⟩:=bW.1 S;unfold oo.abs;rw[q bk k];rfl);have HL:=U ca.ws;have ao:=U x;clear ca hn aq w x;go_in
 go_wp2;go_loopw [3] (λiv wr=>∃ac:M,ac<=y p/\iv=ap ac/\(∀bi∈p.take ac,bi.live=aY)/\wr=W) (λiv _=>y p-(intOf iv).toNat)
 case atStart=>grind
 case round=>
  obtain⟨ac,hj,rfl,E,bh⟩:=hrel;subst wr;by_cases r:ac<y p
  .obtain⟨bl,m,S,X,hc⟩:=HC ac r;subst S;have k:=U (show p[ac].live=aY->∀bi∈p.take (ac+1),bi.live=aY fromλq bi S=>by
    rw[ah r,aE,cX]at S;grind)
   have e1:(ac:Z)<(y p:Z):=by omega
   clear E;cases P:p[ac].live with
   |true=>
    rw[P]at hc;clear P;go_wp2;go_ret;exact⟨rfl,HL⟩
   |false=>
    rw[P]at hc;have s:=U<|k P;clear P k;go_wp2;go_roundw;case rel=>exact⟨ac+1,r,by go_num,s,trivial⟩
    case measure=>simp[intOf];omega
  .have bu:ac=y p:=by omega
   subst bu;rw[aX]at E;have v:=ad E;have e1:¬(y p:Z)<(y p:Z):=by omega
   have x:=ae ao;have an:=U v;clear E v ao;go_wp2_with fail
   apply x.mono;rintro cc W1⟨sx,sc,k,Ns,rfl,hX,_,L⟩;obtain⟨h4,P⟩:=L.lens;have bd:=rV.OC L hX;obtain⟨K9,cB,bl,ce,cu,⟨K0,hz⟩,V⟩:=L.at;obtain⟨za,zb,zc,zd⟩:=hz rfl;have av:=zd an;have hT:k=[[],[],[],cu]:=by rw[za,zb,zc]at V;exact V
   have ba:tN k=y l.1:=by rw[hT,<-av];simp[tN,iF]
   have cl:vC k<=1:=by rw[hT];unfold vC wh;grind
   have cm:=L.ws.lens;have z2:aO W1 (R e 2)=H (ay d):=L.ws.fE.2.2.1;obtain⟨pv,w,qv⟩:∃pv,aO W1 (R d 0)=H pv/\∃bi ce,pv=J bi (y l.1) ce:=by
    obtain⟨⟨cx,hh,hp,_⟩,_,_⟩:=L.ws.ref;exact⟨cx,cellAt hh 0 rfl,bM hp⟩
   obtain⟨vx,vc,hv⟩:=qv;rw[hv]at w;have bo:=U<|L.ws.drop (O':=O)<|λp hp=>fV _ hp;have HS:=U bd;have HE:=U P;have al:=U ba;clear x hX L bd V hz za zb zc zd av hT P hv an ad HC HL y1 y2 c1 ba;go_wp2_with fail
   go_loopw [6,7,8] (λm cv iv wr=>∃o:M,o<=y k/\iv=ap o/\m=ap (vC (k.take o):M)/\cv=ap (tN (k.take o):M)/\wr=W1) (λ_ _ iv _=>y k-(intOf iv).toNat)
   case atStart=>exact⟨0,bj _,rfl,rfl,rfl,rfl⟩
   case round=>
    obtain⟨o,hi,rfl,rfl,rfl,bh⟩:=hrel;subst wr;by_cases r:o<y k
    .obtain⟨bl,m,S,X,bk,cp,hc,Q⟩:=HS.at r;subst S;have bc:=PQ r;have bb:=IG r;have ax:=Rj k<|o+1;have bt:=WI k o;have ch:=HE _<|ak r;rw[ae al]at ax;have e2:(o:Z)<(y k:Z):=by omega
     obtain⟨D,bn,t⟩:=dA bc bb Q;have ck:tN (k.take o)+iF k[o]<=1000000:=by omega
     have bf:=yP k[o];have bg:=λA(hk:A<y k[o])=>IF hk;have bq:=U bf;have br:=U bg;clear bc bb ax Q bf bg;generalize vC (k.take o)=K at*;generalize tN (k.take o)=cq at*;have bT:IntKind.i64.wrap ((K:Z)+1)=(K:Z)+1:=by rw[bw];omega
     by_cases hz:y k[o]=0;case' pos=>
      have B:=U (show vC (k.take<|o+1)=K by have:=ae D;rwa[dz hz]at this);have ez:¬0<y k[o]:=by omega
      clear D hz;go_wp2_with fail
      obtain⟨fr,s⟩:∃fr,K=fr:=⟨_,rfl⟩;rw[s]at B|-;clear s
     case' neg=>
      have B:=U (show vC (k.take<|o+1)=K+1 by have:=ae D;rwa[dr hz]at this);have ez:0<y k[o]:=by omega
      clear D hz;go_wp2_with fail
      obtain⟨fr,s⟩:∃fr,K+1=fr:=⟨_,rfl⟩;rw[show(K:Z)+1=((K+1:M):Z)from by omega,s];rw[s]at B;clear s
     all_goals
      clear bT bt ez;go_loopw [7,9] (λcv m wr=>∃A q:M,A<=y k[o]/\m=ap A/\cv=ap q/\q=cq+iF (k[o].take A)/\wr=W1) (λ_ m _=>y k[o]-(intOf m).toNat)
      case atStart=>exact⟨0,cq,bj _,rfl,rfl,by simp[iF],rfl⟩
      case round=>
       obtain⟨A,q,hk,rfl,rfl,hq,bh⟩:=hrel;subst wr;by_cases u:A<y k[o]
       .obtain⟨b2,T,cb,hu,cd⟩:=t.some u;cases hu;have cj:aO W1 (R b2<|T+A*4)=H (aj<|fC k[o][A].num):=Xz.cell (n:=0) t u (by omega) rfl;have au:aO W1 (R b2<|T+A*4+3)=H (ap (kF k[o][A].ks:M)):=by rw[aV];exact t.cell u (by omega) rfl
        have bx:=br A u;have bs:=bq<|A+1;have bp:=U (show q+kF k[o][A].ks=cq+iF (k[o].take<|A+1)by omega);have e3:(A:Z)<(y k[o]:Z):=by omega
        have co:IntKind.i64.wrap ((q:Z)+(kF k[o][A].ks:Z))=(q:Z)+(kF k[o][A].ks:Z):=by rw[bw];omega
        clear bx bs hq;generalize kF k[o][A].ks=cs at*;go_wp2;go_roundw;case rel=>exact⟨A+1,q+cs,u,by go_num,by go_num,ae bp,trivial⟩
        case measure=>simp[intOf];omega
       .have bv:A=y k[o]:=by omega
        subst bv;have bm:=U (show q=tN (k.take<|o+1)by rw[hq,aX];exact(ae bn).symm);clear hq;have e3:¬(y k[o]:Z)<(y k[o]:Z):=by omega
        go_wp2;go_roundw;case rel=>exact⟨o+1,r,by go_num,by rw[ae B],by rw[ae bm],trivial⟩
        case measure=>simp[intOf];omega
    .have s:o=y k:=by omega
     subst s;rw[aX,ae al];have e2:¬(y k:Z)<(y k:Z):=by omega
     have t:(vC k:Z)<=1:=by omega
     go_wp2;go_ret;exact⟨rfl,bo⟩
end
def Ga(k:cw cf):M:=(k.map y).sum
theorem Um{k:cw cf}{n:M}(m:n<y k):Ga (k.take<|n+1)=Ga (k.take n)+y k[n]:=by
 rw[ah m];unfold Ga;rw[aQ,eR,sL,sK]
theorem YL(k:cw cf)(n:M):Ga (k.take n)<=y k.flatten:=by
 have m:=bX (λl=>(l.map y).sum)<|bN n k;unfold Ga;rw[ml];simp only[aQ,eR]at m;omega
theorem Xp(k:cw cf):Ga k=y k.flatten:=by
 unfold Ga;rw[ml]
theorem WN{k:ab}(m:k≠⟨#[]⟩):k.toList.isEmpty=aY:=by
 cases q:k.toList with
 |nil=>exact absurd (FX<|q.trans<|by simp[ByteArray.toList,ByteArray.toList.loop,ByteArray.size]) m
 |cons=>rfl
section
variable{i W W':Y}{c db sbqq e:M}{h:PB}{mem a:Z}{f b:aa}{O:cw (M×Obj)}{C N:M}{l j:LC}{g d:Bool}{F:DK->cf->cf->cf->cf->Prop}
theorem rV.l9{k:cw cf}(o:rV (j3 F aY k) i W c db sbqq e h mem a f b O C N j aY l g):∃p,ZV k mem a p (y j.1):=by
 obtain⟨x,K,w,q,r,s,t,n,m,v,u,hF,o⟩:=o;rw[show k=[q,r,s,t]from hF.2];exact⟨_,o.n5<|mG _⟩
theorem jh.UB(m:jh i W c db sbqq e h mem a f b O C N j d l g):aO W (R c 3)=H (ap mem)/\aO W (R c 4)=H (ap a):=by
 have k:=m.box;refine⟨?_,?_⟩<;>(rw[bL k];rfl)
theorem jh.QM(p:jh i W c db sbqq e h mem a f b O C N j d l g):aO W (R e 2)=H (aK g)/\∃x m,aO W (R e 0)=H (J x (y l.1) m):=by
 obtain⟨⟨v,k,n,_⟩,_,_⟩:=p.ref;obtain⟨x,m,o⟩:=bM n;rw[o]at k;exact⟨cellAt k 2 rfl,x,m,cellAt k 0 rfl⟩
theorem Gt(w:jh i W c db sbqq e h mem a f b O C N l bU l bU):cD bz 6 #[ay c] W λt A=>t=aL (aK bU)/\jh i A c db sbqq e h mem a f b O C N l bU l bU:=by
 have k:=AG w.wf;have S:aO W (R c 1)=H (ay sbqq):=w.fE.2.1;have K:∀w,(binOp .eql 48 aD aD).run bz w=.ok (aK bU) w:=λ_=>rfl;simp only[ir]at k;clear w;go_in
 go_wp2_with fail
 apply k.mono;rintro t E⟨Q,P,D,B,rfl,x,m,q⟩;obtain⟨rfl,rfl,rfl⟩:=m trivial;have n:=jb 6 q.ws.vG;have r:=U q.ws;clear k x m q;go_wp2_with fail
 apply n.mono;rintro t u⟨rfl,s⟩;have o:=r.still<|I.aR s;have T:aO u (R c 2)=H (ay e):=o.fE.2.2.1;have V:=o.QM.1;have p:=U o;clear n s o r;go_wp2_with fail
 apply(kS 6 _).mono;rintro t v⟨rfl,L⟩;subst v;go_wp2;go_ret;exact⟨rfl,p.drop<|λm k=>fV _ k⟩
theorem Lq(cc:jh i W c db sbqq e h mem a f b O C N l aY l aY):cD bz 6 #[ay c] W λcT w'=>cT=aL (aK bU)/\jh i w' c db sbqq e h mem a f b O C N l aY l aY:=by
 have an:=AG cc.wf;have y1:aO W (R c 1)=H (ay sbqq):=cc.fE.2.1;simp only[gC,jk]at an;clear cc;go_in
 go_wp2_with fail
 apply an.mono;rintro cT W1⟨sx,sc,k,Ns,rfl,hX,_,h2⟩;have bk:=jb 0 h2.ws.vG;have HX:=U hX;have HL:=U h2;clear an hX h2 y1;go_wp2_with fail
 apply bk.mono;rintro cT W2⟨rfl,hb⟩;have P:=HL.still<|I.aR hb;have y0:aO W2 (R c 0)=H (ay db):=P.ws.fE.1;have y2:aO W2 (R c 2)=H (ay e):=P.ws.fE.2.2.1;have y4:=P.ws.UB.2;have y3:=P.ws.QM.1;obtain⟨ei,r⟩:=P.l9;have E:=r.len;have x:=rV.OC P HX;obtain⟨em,cM,hx,cn,p0,z0,c0,_⟩:=x.at (i:=0) (by omega);obtain⟨b',dT,bn,_,p1,z1,c1,_⟩:=x.at (i:=1) (by omega);obtain⟨eb,cE,S,_,p2,z2,c2,_⟩:=x.at (i:=2) (by omega);rw[hx]at bn S;cases bn;cases S;have l0:=(r.D7 0<|by omega).1 rfl;have l1:=(r.D7 1<|by omega).2<|.inl rfl;have l2:=(r.D7 2<|by omega).2<|.inr rfl;have au:=U<|λu(A:I az W2 u)=>Yi<|P.still A;have aq:=U P;subst hx;rw[jn]at c0;rw[E];rw[E]at cn;generalize y k[0]=n0 at c0 l0;generalize y k[1]=n1 at c1 l1;generalize y k[2]=n2 at c2 l2;have t0:¬a<=(n0:Z):=by omega
 have t1:¬a<(n1:Z):=by omega
 have t2:¬a<(n2:Z):=by omega
 clear bk hb P HL r x l0 l1 l2;go_wp2_with fail
 go_quiet(first|(go_at_call 14;refine Calls.quiet_of_same (kS 0 _)))
 have ao:I az W2 (W2.drewN nq):=gD _ _ _;have bd:=au _ ao;have av:=U ao;clear au ao;go_wp2_with fail
 clear c0 c1 c2 t0 t1 t2 y4 y3;apply bd.mono;rintro cT W3⟨nv,ns,rfl,Q,r,bh⟩;obtain⟨nx,nc,co⟩:=aA Q;subst co;have hT:I az W2 W3:=av.cr bh;have h4:=aq.still hT;have x:=rV.OC h4 HX;have bg:Xt W3 (J nx (y ns) nc) ns:=da Q;have bf:∀o,ct (J nx (y ns) nc)=H o->o<z (G W3):=λo hk=>(Q.lt o hk).2;have dm:=r.G3;have bp:=r.small;have dk:=r.DL;have dv:=r.G0;have eg:=r.mm;obtain⟨HS,HN,bx,V,bu⟩:=je x bg bf r h4;clear bd Q r bh hT h4 x bg bf aq av y0 y2;go_wp2_with fail
 go_loopw [7,8,9] (λcb cv o wr=>∃m:M,m<=y k/\o=ap m/\cb=ap (Ga (k.take m):M)/\cv=ap (tN (k.take m):M)/\I az W3 wr) (λ_ _ o _=>y k-(intOf o).toNat)
 case atStart=>exact⟨0,bj _,rfl,rfl,rfl,I.refl _ _⟩
 (case round=>obtain⟨m,hi,rfl,rfl,rfl,A⟩:=hrel;by_cases B:m<y k;(·(have e4:(m:Z)<4:=by omega);have cd:=YL k<|m+1;have has:=Um B;have cj:=Rj k<|m+1;have ba:=IG B;have bi:=yP k[m];have bl:=λo(hk:o<y k[m])=>IF hk;(have ec:Ga (k.take m)+y k[m]<=2000000/\tN (k.take m)+iF k[m]<=1000000:=by omega);obtain⟨HT,br,bs,bT,ax⟩:=je A has ba bi bl;clear A cd has cj ba bi bl;generalize Ga (k.take m)=ca at*;generalize tN (k.take m)=cq at*;(go_wp2_with fail);(go_loopw [7,8,10] (λcb cv p wr=>∃o bo q:M,o<=y k[m]/\p=ap o/\cb=ap bo/\cv=ap q/\bo=ca+o/\q=cq+iF (k[m].take o)/\I az W3 wr) (λ_ _ p _=>y k[m]-(intOf p).toNat));(case atStart=>exact⟨0,ca,cq,bj _,rfl,rfl,rfl,rfl,by simp[iF],HT⟩);(case round=>obtain⟨o,bo,q,hk,rfl,rfl,rfl,hp,hq,A⟩:=hrel;obtain⟨b1,ea,cB,dn,ej,ek,hc,p⟩:=(HS.aw A).at B;cases cB;by_cases s:o<y k[m];(.obtain⟨b2,t,dc,hu,ds⟩:=p.some s;cases hu;have f0:aO wr (R b2<|t+o*4)=H (aj<|fC k[m][o].num):=Xz.cell (n:=0) p s (by omega) rfl;(have f1:aO wr (R b2<|t+o*4+1)=H (aj<|fg k[m][o].ks):=by rw[aV];exact p.cell s (by omega) rfl);(have f2:aO wr (R b2<|t+o*4+2)=H (aj<|fS k[m][o].ks):=by rw[aV];exact p.cell s (by omega) rfl);(have f3:aO wr (R b2<|t+o*4+3)=H (ap (kF k[m][o].ks:M)):=by rw[aV];exact p.cell s (by omega) rfl);obtain⟨bb,g1,g2,g3,g4⟩:=V.wT _ (ak B) _<|ak s;have bm:=DX (w:=cF wr<|ar #[aj<|fC k[m][o].num,aj<|fg k[m][o].ks,aj<|fS k[m][o].ks,ap (kF k[m][o].ks:M)] 60) (ns:=ns) ((A.alloc _).row HN<|λo hk=>⟨id,bx o hk⟩) (by omega)<|fC k[m][o].num;have ac:=U (show q+kF k[m][o].ks=cq+iF (k[m].take<|o+1)by have:=ax o s;omega);have ce:=bT<|o+1;have ch:=ax o s;have bq:=U (λ(p:0<m)(K:M)(hj:K+1=o)=>show iP (fS (k[m][K]'(by omega)).ks) (fg k[m][o].ks)=bU from by subst hj;exact V.apart m B p K s);have bv:=U<|λ(K:M)(hj:K<y k[m])=>show aO wr (R b2<|t+K*4)=H (aj<|fC k[m][K].num)/\aO wr (R b2<|t+K*4+2)=H (aj<|fS k[m][K].ks)from⟨Xz.cell (n:=0) p hj (by omega) rfl,by rw[aV];exact p.cell hj (by omega) rfl⟩;have dd:=nh f0;have ed:=nh hc;have bt:=U bb;have D:=U<|A.alloc<|ar #[aj<|fC k[m][o].num,aj<|fg k[m][o].ks,aj<|fS k[m][o].ks,ap (kF k[m][o].ks:M)] 60;(have cu:IntKind.i64.wrap ((bo:Z)+1)=(bo:Z)+1:=by rw[bw];omega);(have cx:IntKind.i64.wrap ((q:Z)+(kF k[m][o].ks:Z))=(q:Z)+(kF k[m][o].ks:Z):=by rw[bw];omega);have HP:=U hp;(have e3:(o:Z)<(y k[m]:Z):=by omega);have T:=U g3;have s2:=WN g4;(have d1:¬(kF k[m][o].ks:Z)<1:=by omega);(have d2:¬(100:Z)<(kF k[m][o].ks:Z):=by omega);clear p bb g3 g4 ce ch hp hq A g1 g2;generalize fC k[m][o].num=dx at*;generalize fg k[m][o].ks=L at*;generalize fS k[m][o].ks=lb at*;generalize kF k[m][o].ks=cs at*;(go_wp2_with fail);apply bm.mono;rintro cT w1⟨⟨el,rfl,hr⟩,hw⟩;subst w1;have cp:el=bU:=hr.2 bt;subst cp;clear hr bm;rcases(show iP L lb=bU\/L=lb by cases q:iP L lb with|true=>exact .inl rfl|false=>exact .inr<|nC q T)with hA|hA;(case' inl=>have s1:Op.bytesLess L.toList lb.toList=bU:=hA;clear hA T;(go_wp2_with fail);clear s1);(case' inr=>subst hA;have s1:Op.bytesLess L.toList L.toList=aY:=fy _;clear T;(go_wp2_with fail);clear s1);(all_goals clear s2 d1 d2;have X:=U (show bo+1=ca+(o+1)by have:=ae HP;omega);clear HP;by_cases al:m=0;(.have x1:((0:Z)<(m:Z))=False:=eq_false (by omega);have x2:(0<m)=False:=eq_false (by omega);clear al;(go_quiet(fail));clear x1 x2;go_wp2;go_roundw;(case rel=>exact⟨o+1,bo+1,q+cs,s,by go_num,by go_num,by go_num,ae X,ae ac,D.cr<|gD _ _ _⟩);case measure=>simp[intOf];omega);(.have x1:((0:Z)<(m:Z))=True:=eq_true (by omega);have x2:(0<m)=True:=eq_true (by omega);by_cases bc:o=0;(.have z1:((0:Z)<(o:Z))=False:=eq_false (by omega);have z2:(0<o)=False:=eq_false (by omega);clear al bc;(go_quiet(fail));clear x1 x2 z1 z2;go_wp2;go_roundw;(case rel=>exact⟨o+1,bo+1,q+cs,s,by go_num,by go_num,by go_num,ae X,ae ac,D.cr<|gD _ _ _⟩);case measure=>simp[intOf];omega);(.have z1:((0:Z)<(o:Z))=True:=eq_true (by omega);have z2:(0<o)=True:=eq_true (by omega);obtain⟨K,hj⟩:∃K,K+1=o:=⟨o-1,by omega⟩;(have ck:K<y k[m]:=by omega);obtain⟨j0,j2⟩:=bv K ck;have ad:=bq (by omega) K hj;(have cl:(o:Z)-1=(K:Z):=by omega);(have cm:IntKind.i64.wrap (K:Z)=(K:Z):=by rw[bw];omega);(have ef:(K:Z)<(y k[m]:Z):=by omega);have a1:Op.bytesLess L.toList (fS k[m][K].ks).toList=aY:=ld ad;have a2:(L.toList==(fS k[m][K].ks).toList)=aY:=wl<|λq=>nT ad q.symm;(have a3:¬L.toList=(fS k[m][K].ks).toList:=λq=>by rw[q]at a2;simp at a2);clear al bc ad hj;generalize fS k[m][K].ks=lj at*;(go_quiet(fail));clear x1 x2 z1 z2 cl cm;go_wp2;go_roundw;(case rel=>exact⟨o+1,bo+1,q+cs,s,by go_num,by go_num,by go_num,ae X,ae ac,D.cr<|gD _ _ _⟩);case measure=>simp[intOf];omega))));(·(have t:o=y k[m]:=by omega);subst t;have K:=U (show bo=Ga (k.take<|m+1)by rw[hp];exact(ae br).symm);have L:=U (show q=tN (k.take<|m+1)by rw[hq,aX];exact(ae bs).symm);(have e3:¬(y k[m]:Z)<(y k[m]:Z):=by omega);have D:=U A;clear hp hq A p;go_wp2;go_roundw;(case rel=>exact⟨m+1,B,by go_num,by rw[ae K],by rw[ae L],D⟩);case measure=>simp[intOf];omega)));(·(have ax:m=y k:=by omega);subst ax;rw[aX,Xp];(have e4:¬(y k:Z)<4:=by omega);have t:=bu.still A;have v2:aO wr (R c 2)=H (ay e):=t.ws.fE.2.2.1;have v3:=t.ws.UB.1;obtain⟨vx,vc,v0⟩:=t.ws.QM.2;have al:=U<|λu(X:I az wr u)=>Ry (HS.aw<|A.cr X) (by omega) (by omega) V.EW;have ac:=U t;clear A t;generalize y k.flatten=fl at*;generalize tN k=T at*;generalize y l.1=pn at*;(have cu:IntKind.i64.wrap ((fl:Z)+4)=(fl:Z)+4:=by rw[bw];omega);(have cx:IntKind.i64.wrap ((T:Z)+mem)=(T:Z)+mem:=by rw[bw];omega);(have ba:IntKind.i64.wrap ((T:Z)+mem-1)=(T:Z)+mem-1:=by rw[bw];omega);(have k1:(y ns:Z)<=(fl:Z)+4:=by omega);(go_wp2_with fail);rename_i KK K;have tw:=al wr.drew<|ci _ _;rw[E]at tw;have hS:aO wr.drew (R c 2)=H (ay e)/\aO wr.drew (R c 3)=H (ap mem)/\aO wr.drew (R e 0)=H (J vx pn vc):=⟨v2,v3,v0⟩;refine kV (λp=>aO p (R c 2)=H (ay e)/\aO p (R c 3)=H (ap mem)/\aO p (R e 0)=H (J vx pn vc)) 28 (by kernel_rfl) ?_;refine lE 0 ?_;(iterate 1 (refine qe (v:=?_) hS rfl (by kernel_rfl) (λ_ _ _ cc=>cc) (Or.inl ⟨by rfl,?_⟩) ?_;rotate_left;(focus(rintro p⟨z0,z1,z2⟩;go_simp;try with_reducible rfl));simp only[Act.put,Nat.reduceAdd,cz,dC,dl,cy,bF,bQ]));apply qd;refine gL (i:=1) rfl rfl (by kernel_rfl) ?_;intro K1 D;go_simp;apply tw.mono;rintro cT u⟨rfl,X⟩;have s:I az wr u:=(ci az wr).cr X;have L:aO u (R c 2)=H (ay e)/\aO u (R c 3)=H (ap mem)/\aO u (R e 0)=H (J vx pn vc):=⟨s.cell v2 id<|nh v2,s.cell v3 id<|nh v3,s.cell v0 id<|nh v0⟩;have ad:=U<|ac.still s;refine D _ _ (λ_=>L) ?_;(try simp only[Act.put,cz,dC,dl,cy,bF,bQ]);clear D X tw s hS v2 v3 v0;refine lE 2 ?_;(iterate 26 (refine qe (v:=?_) L rfl (by kernel_rfl) (λ_ _ _ cc=>cc) (Or.inl ⟨by rfl,?_⟩) ?_;rotate_left;(focus(rintro p⟨z0,z1,z2⟩;go_simp;try with_reducible rfl));simp only[Act.put,Nat.reduceAdd,cz,dC,dl,cy,bF,bQ]));apply qd;refine kW (by kernel_rfl) ?_ _;show KK _ _;apply K;clear K;go_wp2;go_ret;exact⟨rfl,ad.ws.drop<|λbo hp=>fV _ hp⟩))
end
theorem Lb(k:Addr)(m:M)(w:Y):cD bz 21 #[J (H k) 0 m] w λn j=>∃i,n=aL i/\NQ j (z<|G w) i []/\Below (z<|G w) w j:=by
 go_in
 go_wp2;go_loopw [3,4] (λp o wr=>o=ap 0/\p=aD/\wr=w) (λ_ _ _=>0)
 case atStart=>grind
 (case round=>obtain⟨rfl,rfl,rfl⟩:=hrel;go_wp2;go_ret;exact⟨_,rfl,bK _ _ _ _,Below.refl _ _⟩)
section
variable{h W:Y}{e db sbqq f:M}{g:PB}{mem b:Z}{d c:aa}{O:cw (M×Obj)}{C N:M}{l:LC}{a:Bool}
theorem wK(bT:jh h W e db sbqq f g mem b d c O C N l a l a)(cc cd:Z)(ce ch:ab)(t:Addr)(bo:M)(hC:C+lk []<=1000000)(hN:N+1<=100000000):cD bz 8 #[ay e,sC 1 cc cd ce ch<|J (H t) 0 bo] W λbx w'=>bx=aL (aK bU)/\yU h w' e O (C+lk []) (N+1):=by
 obtain⟨i0,bp,br,bs,bt⟩:=cH uI;obtain⟨D,o⟩:∃D,z (G W)=D:=⟨_,rfl⟩;obtain⟨q,u⟩:∃q,cF W (fF 1 cc cd ce ch<|J (H t) 0 bo)=q:=⟨_,rfl⟩;have h1:jh h q e db sbqq f g mem b d c ((D,fF 1 cc cd ce ch<|J (H t) 0 bo)::O) C N l a l a:=by rw[<-u];exact bT.add (cK _ W) (by omega)<|aB _ o.symm
 have ca:=bT.lens;have aq:z (G q)=D+1:=by rw[<-u,<-o];simp
 have cl:=am bT.box;obtain⟨ba,F,p,bi,E⟩:=je h1 u o aq bT.Gw;unfold sC;have c5:aO q (R D 5)=H (J (H t) 0 bo):=h1.dN.2.2.2.2.2;clear bT h1 o aq;go_in
 unfold fF at F
 go_wp2_with(first
  |(at_builtin;rw[ae F];go_loud(refine bO _ rfl (.tmp 40) (.tmp 42) 27 rfl (z (G q)) 44 i0 (.agg #[.string ⟨#[]⟩,.string ⟨#[]⟩,.bool aY]) 3 40 underlying27 bp br bs bt rfl (by decide) aD 0 [] rfl (bK _ _ _ _) t 0 bo [] rfl rfl (by simp) (by simp) (by omega) (by omega) (ai _) ?_;intro v2 K j ax;obtain⟨bn,bm,rfl⟩:=aA j;have bh:=U j;have bk:=U ax;clear j ax)))
 have k:I az q K:=I.dJ bk.grown (λbu r=>by cases r);have j:K.ownsRow (z<|G q) 44 3 (J bn 0 bm) 0 []:=ae bh;have m:=(ba.still k).still<|ci az K;have cj:=k.size;have ad:yp K.drew (J bn 0 bm) []:=(ci az K).row (da j)<|λbu r=>⟨id,(aG j bu r).2⟩;have B:=λk=>Fi m (J bn 0 bm) [] k ad (λbu r=>⟨(aG j bu r).2,by have:=(aG j bu r).1;have:=ae E;have:=ae p;have:=ae bi;omega⟩) (by simp) (by simp) hC hN;obtain⟨wn,A⟩:∃wn:Z,(if a then 6 else ga [])=wn:=⟨_,rfl⟩;obtain⟨la,w⟩:∃la,(if a then l.1 else rp l.1 [])=la:=⟨_,rfl⟩;simp only[A,w]at B;have T:=And.intro m.fE.2.1 m.dN.2.1;have bl:=U A;have bg:=U w;have bv:=ae p;clear k j m ad A w c5;try rw[bv]
 rename_i QQ KK Q;refine cI (λs=>aO s (R e 1)=H (ay sbqq)/\aO s (R D 1)=H (ap cc)) 10 (by kernel_rfl) ?_;refine cY 0 ?_;iterate 9 (refine eM (v:=?_) T rfl (by kernel_rfl) iW rfl ?_ ?_;rotate_left;(focus(rintro s⟨z0,z1⟩;go_simp;try rfl));simp only[Act.put,dD,gz,Nat.reduceAdd])
 apply eC;refine aM (i:=9) rfl rfl (by kernel_rfl) ?_;intro KC P;go_simp;apply(B _).mono;rintro bx W3⟨rfl,L⟩;have V:=And.intro L.fE.2.1 L.dN.2.1;have bb:=U L;refine P _ _ (λ_=>V) ?_;try simp only[Act.put,dD,gz]
 refine aM (i:=10) rfl rfl (by kernel_rfl) ?_;intro KL S;go_simp;refine S _ _ wX ?_;refine cW (by kernel_rfl) ?_ _;show KK _ _;apply Q;have y5:aO W3 (R D 5)=H (J (H t) 0 bo):=L.dN.2.2.2.2.2;have au:=Lb t bo W3;clear T V B P S Q L;go_wp2_with fail
 apply au.mono;rintro bx W4⟨v4,rfl,n,X⟩;have h4:=bb.still<|I.aR X;have x:=sj g.1 h4.ref (da n) (λbu r=>(aG n bu r).2) (by simp;omega);rw[ae bl,vZ,ae bg]at x;obtain⟨dx,dc,bq⟩:=aA n;subst bq;have y2:aO W4 (R e 2)=H (ay f):=h4.fE.2.2.1;have bc:=U h4;clear n X h4 au y5;go_wp2_with fail
 apply x.mono;rintro bx W5⟨rfl,⟨cm,ao,an⟩,al⟩;have h5:=bc.LP al ao an;have av:=jb wn h5.vG;have bd:=U h5;clear x ao an al h5 y2;go_wp2_with fail
 apply av.mono;rintro bx W6⟨rfl,ac⟩;have bf:=U<|bd.still<|I.aR ac;clear ac av;go_wp2_with fail
 go_loopw [10] (λj wr=>j=ap 0/\wr=W6) (λ_ _=>0)
 case atStart=>grind
 (case round=>obtain⟨rfl,cb⟩:=hrel;subst wr;(go_wp2_with fail);apply(kS wn _).mono;rintro bx W9⟨rfl,ck⟩;subst W9;go_wp2;go_ret;exact⟨rfl,db,sbqq,f,_,mem,b,d,c,_,a,bf.drop<|λp j=>bI _ j⟩)
theorem El(bn:jh h W e db sbqq f g mem b d c O C N l a l a)(bq br:Z)(bs bt:ab)(hC:C+lk []<=1000000)(hN:N+1<=100000000):cD bz 8 #[ay e,sC 1 bq br bs bt aD] W λbm w'=>bm=aL (aK bU)/\yU h w' e O (C+lk []) (N+1):=by
 obtain⟨i0,bu,ca,cb,cc⟩:=cH uI;obtain⟨E,o⟩:∃E,z (G W)=E:=⟨_,rfl⟩;obtain⟨q,u⟩:∃q,cF W (fF 1 bq br bs bt aD)=q:=⟨_,rfl⟩;have h1:jh h q e db sbqq f g mem b d c ((E,fF 1 bq br bs bt aD)::O) C N l a l a:=by rw[<-u];exact bn.add (cK _ W) (by omega)<|aB _ o.symm
 have bo:=bn.lens;have aq:z (G q)=E+1:=by rw[<-u,<-o];simp
 have bT:=am bn.box;obtain⟨ax,K,p,bg,F⟩:=je h1 u o aq bn.Gw;unfold sC;have c5:aO q (R E 5)=H aD:=h1.dN.2.2.2.2.2;clear bn h1 o aq;go_in
 unfold fF at K;go_wp2_with fail
 rw[ae K];obtain⟨s,w⟩:∃s,q=s:=⟨_,rfl⟩;have k:I az q s:=by rw[<-w];exact I.refl _ _
 have j:s.ownsRow (z<|G q) 44 3 aD 0 []:=bK _ _ _ _;rw[w];clear w;have m:=(ax.still k).still<|ci az s;have bv:=k.size;have ad:yp s.drew aD []:=(ci az s).row (da j)<|λbk r=>⟨id,(aG j bk r).2⟩;have D:=λk=>Fi m aD [] k ad (λbk r=>⟨(aG j bk r).2,by have:=(aG j bk r).1;have:=ae F;have:=ae p;have:=ae bg;omega⟩) (by simp) (by simp) hC hN;obtain⟨wn,B⟩:∃wn:Z,(if a then 6 else ga [])=wn:=⟨_,rfl⟩;obtain⟨la,x⟩:∃la,(if a then l.1 else rp l.1 [])=la:=⟨_,rfl⟩;simp only[B,x]at D;have T:=And.intro m.fE.2.1 m.dN.2.1;have bh:=U B;have bf:=U x;have bl:=ae p;clear k j m ad B x c5;try rw[bl]
 rename_i QQ KK Q;refine cI (λt=>aO t (R e 1)=H (ay sbqq)/\aO t (R E 1)=H (ap bq)) 10 (by kernel_rfl) ?_;refine cY 0 ?_;iterate 9 (refine eM (v:=?_) T rfl (by kernel_rfl) iW rfl ?_ ?_;rotate_left;(focus(rintro t⟨z0,z1⟩;go_simp;try rfl));simp only[Act.put,dD,gz,Nat.reduceAdd])
 apply eC;refine aM (i:=9) rfl rfl (by kernel_rfl) ?_;intro KC P;go_simp;apply(D _).mono;rintro bm W3⟨rfl,L⟩;have V:=And.intro L.fE.2.1 L.dN.2.1;have ba:=U L;refine P _ _ (λ_=>V) ?_;try simp only[Act.put,dD,gz]
 refine aM (i:=10) rfl rfl (by kernel_rfl) ?_;intro KL S;go_simp;refine S _ _ wX ?_;refine cW (by kernel_rfl) ?_ _;show KK _ _;apply Q;have y5:aO W3 (R E 5)=H aD:=L.dN.2.2.2.2.2;have au:=zy [] aD W3 (by simp) ⟨rfl,.inl ⟨rfl,rfl⟩⟩ (λbk r=>by cases r);clear T V D P S Q L;go_wp2_with fail
 apply au.mono;rintro bm W4⟨v4,rfl,n,X⟩;have h4:=ba.still<|I.aR X;have A:=sj g.1 h4.ref (da n) (λbk r=>(aG n bk r).2) (by simp;omega);rw[ae bh,vZ,ae bf]at A;obtain⟨dx,dc,bi⟩:=aA n;subst bi;have y2:aO W4 (R e 2)=H (ay f):=h4.fE.2.2.1;have bb:=U h4;clear n X h4 au y5;go_wp2_with fail
 apply A.mono;rintro bm W5⟨rfl,⟨cd,ao,an⟩,al⟩;have h5:=bb.LP al ao an;have av:=jb wn h5.vG;have bc:=U h5;clear A ao an al h5 y2;go_wp2_with fail
 apply av.mono;rintro bm W6⟨rfl,ac⟩;have bd:=U<|bc.still<|I.aR ac;clear ac av;go_wp2_with fail
 go_loopw [10] (λj wr=>j=ap 0/\wr=W6) (λ_ _=>0)
 case atStart=>grind
 (case round=>obtain⟨rfl,bp⟩:=hrel;subst wr;(go_wp2_with fail);apply(kS wn _).mono;rintro bm W9⟨rfl,bx⟩;subst W9;go_wp2;go_ret;exact⟨rfl,db,sbqq,f,_,mem,b,d,c,_,a,bd.drop<|λp j=>bI _ j⟩)
end
section
variable{h W:Y}{f db sbqq g:M}{e:PB}{mem b:Z}{d c:aa}{O:cw (M×Obj)}{C N:M}{l:LC}{a:Bool}
theorem Dw(bg:jh h W f db sbqq g e mem b d c O C N l a l a)(A bi:Z)(S T:ab)(bp:Option Addr)(bh bn:M)(e2:A<=0)(hn:A<0->bh=0):cD bz 19 #[ay f,sC 4 A bi S T<|J bp bh bn] W λbf w'=>bf=aL (aK bU)/\jh h w' f db sbqq g e mem b d c O C N l a l a:=by
 obtain⟨w,an⟩:∃w,z (G W)=w:=⟨_,rfl⟩;have h1:jh h (cF W<|fF 4 A bi S T<|J bp bh bn) f db sbqq g e mem b d c ((w,fF 4 A bi S T<|J bp bh bn)::O) C N l a l a:=bg.add (cK _ W) (by omega)<|aB _ an.symm;have o:=h1.still<|ci az _;have k:=Fj o S T A;have D:=And.intro o.fE.2.1 (And.intro o.dN.2.2.2.1 (And.intro o.dN.2.2.2.2.1 o.dN.2.1));have bo:=am bg.box;have bd:=bg.lens;have ba:y (if a then []else nw l.1 S T A)<=1000000:=by have:=mS l.1 S T A;grind
 have t:=λW'(q:mO W' g e.1 l.1 a e.2)=>ud e.1 S T A q (by omega);have V:(if a=bU\/A<=0 then []else nw l.1 S T A)=[]:=by grind
 rw[V]at k;obtain⟨Q,hR⟩:∃Q,(if a then []else nw l.1 S T A)=Q:=⟨_,rfl⟩;obtain⟨gn,al⟩:∃gn:Z,(if a then 6 else 0)=gn:=⟨_,rfl⟩;skip
 rw[hR]at ba;simp only[hR,al]at t;have x:=U t;by_cases e1:A<0;case' pos=>obtain rfl:=hn e1
 (all_goals clear hn;unfold sC;unfold fF at k D;clear bg h1 o hR al t V;(go_in);(go_wp2_with fail);(try rw[an]);rename_i QQ KK r;refine cI (λj=>aO j (R f 1)=H (ay sbqq)/\aO j (R w 3)=H (aj S)/\aO j (R w 4)=H (aj T)/\aO j (R w 1)=H (ap A)) 11 (by kernel_rfl) ?_;refine cY 0 ?_;(iterate 10 (refine eM (v:=?_) D rfl (by kernel_rfl) iW rfl ?_ ?_;rotate_left;(focus(rintro j⟨z0,z1,z2,z3⟩;go_simp;try rfl));simp only[Act.put,dD,gz,Nat.reduceAdd]));apply eC;refine aM (i:=10) rfl rfl (by kernel_rfl) ?_;intro KC p;go_simp;apply k.mono;rintro bf W2⟨v2,rfl,K,o⟩;obtain⟨bm,bl,bb⟩:=aA K;subst bb;have u:=o.still<|ci az W2;have X:=And.intro o.fE.2.1 (And.intro o.dN.2.2.2.1 (And.intro o.dN.2.2.2.2.1 o.dN.2.1));have B:=U K;have n:=U u;refine p _ _ (λ_=>X) ?_;(try simp only[Act.put,dD,gz]);refine aM (i:=11) rfl rfl (by kernel_rfl) ?_;intro KL s;go_simp;refine s _ _ wX ?_;refine cW (by kernel_rfl) ?_ _;show KK _ _;apply r;have ao:=x _ n.ref;have ac:=And.intro n.fE.2.2.1 (And.intro n.dN.2.2.2.1 (And.intro n.dN.2.2.2.2.1 n.dN.2.1));clear D X k K o u p s r x;(go_wp2_with fail);rename_i QQ KK r;refine cI (λj=>aO j (R f 2)=H (ay g)/\aO j (R w 3)=H (aj S)/\aO j (R w 4)=H (aj T)/\aO j (R w 1)=H (ap A)) 15 (by kernel_rfl) ?_;refine cY 0 ?_;(iterate 10 (refine eM (v:=?_) ac rfl (by kernel_rfl) iW rfl ?_ ?_;rotate_left;(focus(rintro j⟨z0,z1,z2,z3⟩;go_simp;try rfl));simp only[Act.put,dD,gz,Nat.reduceAdd]));apply eC;refine aM (i:=10) rfl rfl (by kernel_rfl) ?_;intro KC p;go_simp;apply ao.mono;rintro bf W3⟨v3,rfl,L,F⟩;obtain⟨bx,bq,bc⟩:=aA L;subst bc;have u:=n.still<|I.aR F;have E:=And.intro u.fE.2.2.1 (And.intro u.dN.2.2.2.1 (And.intro u.dN.2.2.2.2.1 u.dN.2.1));have ad:mT W3 (J bm (y ([]:jN)) bl) ([]:jN):=(I.aR (S:=az) F).row ((ci az W2).row (da B)<|λk j=>⟨id,(aG B k j).2⟩)<|λk j=>⟨id,(aG B k j).2⟩;obtain⟨ax,bk,au⟩:=dA ad L u;have y1:aO W3 (R w 1)=H (ap A):=u.dN.2.1;refine p _ _ (λ_=>E) ?_;(try simp only[Act.put,dD,gz]);refine cY 11 ?_;(iterate 4 (refine eM (v:=?_) E rfl (by kernel_rfl) iW rfl ?_ ?_;rotate_left;(focus(rintro j⟨z0,z1,z2,z3⟩;go_simp;try rfl));simp only[Act.put,dD,gz,Nat.reduceAdd]));apply eC;refine aM (i:=15) rfl rfl (by kernel_rfl) ?_;intro KL s;go_simp;refine s _ _ wX ?_;refine cW (by kernel_rfl) ?_ _;show KK _ _;apply r;have P:=oM (m:=([]:jN)) ax (show mT W3 aD []from⟨rfl,.inl ⟨rfl,rfl⟩⟩) (by simp) (by simp);simp only[mQ]at P;clear ao ac E p s r ad L u F;(go_wp2_with fail);apply P.mono;rintro bf W5⟨rfl,kq,aq⟩;have av:=U<|au.still (W':=W5) (by rw[aq];exact gD _ _ _);clear P aq;go_wp2;go_ret;exact⟨rfl,av.drop<|λp j=>bI _ j⟩)
end
section
variable{h W:Y}{f db sbqq g:M}{e:PB}{mem b:Z}{d c:aa}{O:cw (M×Obj)}{C N:M}{l:LC}{a:Bool}
theorem BJ(bg:jh h W f db sbqq g e mem b d c O C N l a l a)(A bh:Z)(S T:ab)(bo:Option Addr)(bn bl:M)(hA:0<A):cD bz 19 #[ay f,sC 4 A bh S T<|J bo bn bl] W λbf w'=>bf=aL (aK bU)/\jh h w' f db sbqq g e mem b d c O C N l a l a:=by
 obtain⟨u,al⟩:∃u,z (G W)=u:=⟨_,rfl⟩;have h1:jh h (cF W<|fF 4 A bh S T<|J bo bn bl) f db sbqq g e mem b d c ((u,fF 4 A bh S T<|J bo bn bl)::O) C N l a l a:=bg.add (cK _ W) (by omega)<|aB _ al.symm;have n:=h1.still<|ci az _;have k:=Fj n S T A;have D:=And.intro n.fE.2.1 (And.intro n.dN.2.2.2.1 (And.intro n.dN.2.2.2.2.1 n.dN.2.1));have bm:=am bg.box;have bd:=bg.lens;have ba:y (if a then []else nw l.1 S T A)<=1000000:=by have:=mS l.1 S T A;grind
 have s:=λW'(q:mO W' g e.1 l.1 a e.2)=>ud e.1 S T A q (by omega);have Q:(if a=bU\/A<=0 then []else nw l.1 S T A)=(if a then []else nw l.1 S T A):=by cases a<;>simp<;>omega
 rw[Q]at k;obtain⟨w,hR⟩:∃w,(if a then []else nw l.1 S T A)=w:=⟨_,rfl⟩;obtain⟨gn,ad⟩:∃gn:Z,(if a then 6 else 0)=gn:=⟨_,rfl⟩;rw[hR]at k;rw[hR]at ba;simp only[hR,ad]at s;have x:=U s;have e1:¬(A<0):=by omega
 have e2:¬(A<=0):=by omega
 unfold sC;unfold fF at k D;clear bg h1 n hR ad s Q;go_in
 go_wp2_with fail
 try rw[al]
 rename_i QQ KK p;refine cI (λj=>aO j (R f 1)=H (ay sbqq)/\aO j (R u 3)=H (aj S)/\aO j (R u 4)=H (aj T)/\aO j (R u 1)=H (ap A)) 11 (by kernel_rfl) ?_;refine cY 0 ?_;iterate 10 (refine eM (v:=?_) D rfl (by kernel_rfl) iW rfl ?_ ?_;rotate_left;(focus(rintro j⟨z0,z1,z2,z3⟩;go_simp;try rfl));simp only[Act.put,dD,gz,Nat.reduceAdd])
 apply eC;refine aM (i:=10) rfl rfl (by kernel_rfl) ?_;intro KC o;go_simp;apply k.mono;rintro bf W2⟨v2,rfl,K,n⟩;obtain⟨bk,bi,bb⟩:=aA K;subst bb;have t:=n.still<|ci az W2;have V:=And.intro n.fE.2.1 (And.intro n.dN.2.2.2.1 (And.intro n.dN.2.2.2.2.1 n.dN.2.1));have B:=U K;have m:=U t;refine o _ _ (λ_=>V) ?_;try simp only[Act.put,dD,gz]
 refine aM (i:=11) rfl rfl (by kernel_rfl) ?_;intro KL r;go_simp;refine r _ _ wX ?_;refine cW (by kernel_rfl) ?_ _;show KK _ _;apply p;have an:=x _ m.ref;have X:=And.intro m.fE.2.2.1 (And.intro m.dN.2.2.2.1 (And.intro m.dN.2.2.2.2.1 m.dN.2.1));clear D V k K n t o r p x;go_wp2_with fail
 rename_i QQ KK p;refine cI (λj=>aO j (R f 2)=H (ay g)/\aO j (R u 3)=H (aj S)/\aO j (R u 4)=H (aj T)/\aO j (R u 1)=H (ap A)) 15 (by kernel_rfl) ?_;refine cY 0 ?_;iterate 10 (refine eM (v:=?_) X rfl (by kernel_rfl) iW rfl ?_ ?_;rotate_left;(focus(rintro j⟨z0,z1,z2,z3⟩;go_simp;try rfl));simp only[Act.put,dD,gz,Nat.reduceAdd])
 apply eC;refine aM (i:=10) rfl rfl (by kernel_rfl) ?_;intro KC o;go_simp;apply an.mono;rintro bf W3⟨v3,rfl,L,F⟩;obtain⟨bx,bp,bc⟩:=aA L;subst bc;have t:=m.still<|I.aR F;have E:=And.intro t.fE.2.2.1 (And.intro t.dN.2.2.2.1 (And.intro t.dN.2.2.2.2.1 t.dN.2.1));have ac:mT W3 (J bk (y w) bi) w:=(I.aR (S:=az) F).row ((ci az W2).row (da B)<|λk j=>⟨id,(aG B k j).2⟩)<|λk j=>⟨id,(aG B k j).2⟩;obtain⟨ax,av,aq⟩:=dA ac L t;have y1:aO W3 (R u 1)=H (ap A):=t.dN.2.1;refine o _ _ (λ_=>E) ?_;try simp only[Act.put,dD,gz]
 refine cY 11 ?_;iterate 4 (refine eM (v:=?_) E rfl (by kernel_rfl) iW rfl ?_ ?_;rotate_left;(focus(rintro j⟨z0,z1,z2,z3⟩;go_simp;try rfl));simp only[Act.put,dD,gz,Nat.reduceAdd])
 apply eC;refine aM (i:=15) rfl rfl (by kernel_rfl) ?_;intro KL r;go_simp;refine r _ _ wX ?_;refine cW (by kernel_rfl) ?_ _;show KK _ _;apply p;have P:=oM ax (pu.Me av) (by omega) (by omega);simp only[mQ]at P;clear an X E o r p ac L t F;go_wp2_with fail
 apply P.mono;rintro bf W5⟨rfl,kq,ao⟩;have au:=U<|aq.still (W':=W5) (by rw[ao];exact gD _ _ _);clear P ao;go_wp2;go_ret;exact⟨rfl,au.drop<|λp j=>bI _ j⟩
end
section
variable{g W:Y}{d db sbqq f:M}{h:PB}{mem b:Z}{e c:aa}{O:cw (M×Obj)}{C N:M}{l:LC}{a:Bool}
theorem RG(w:jh g W d db sbqq f h mem b e c O C N l a l a)(Q S:Z)(T V:ab)(ad:Option Addr)(ac X:M)(A:N+1<=100000000):cD bz 8 #[ay d,sC 7 Q S T V<|J ad ac X] W λv P=>v=aL (aK bU)/\yU g P d O C (N+1):=by
 have x:=w.still<|(I.refl az W).alloc<|fF 7 Q S T V<|J ad ac X;have i:=Mx x A;have y1:aO W (R d 1)=H (ay sbqq):=w.fE.2.1;have L:=am w.box;have B:=w.lens;obtain⟨D,o,E,j⟩:∃D o E,sU a l=(D,o,E):=⟨_,_,_,rfl⟩;rw[j]at i;simp only at i;have u:=U j;unfold fF at i;unfold sC;clear w x j;go_in
 go_wp2_with fail
 apply i.mono;rintro v F⟨rfl,r⟩;have y2:aO F (R d 2)=H (ay f):=r.fE.2.2.1;have p:=r.XS (by omega) (by omega) A;rw[ae u]at p;simp only at p;clear i r u;go_wp2_with fail
 apply p.mono;rintro v W3⟨rfl,t,s⟩;have n:=jb o s.vG;have k:=U s;clear p s;go_wp2_with fail
 apply n.mono;rintro v W4⟨rfl,m⟩;have q:=U<|k.still<|I.aR m;clear m n k;go_wp2_with fail
 apply(kS o _).mono;rintro v K⟨rfl,hw⟩;subst K;go_wp2;go_ret;exact⟨rfl,db,sbqq,f,t,mem,b,e,c,_,a,q⟩
theorem Ji(ao:jh g W d db sbqq f h mem b e c O C N l a l a)(Q ac:Z)(ad al:ab)(ax:Option Addr)(av an:M):cD bz 8 #[ay d,sC 10 Q ac ad al<|J ax av an] W λV w'=>V=aL (aK bU)/\yU g w' d O C N:=by
 obtain⟨L,F⟩:∃L,z (G W)=L:=⟨_,rfl⟩;have X:jh g (cF W<|fF 10 Q ac ad al<|J ax av an) d db sbqq f h mem b e c ((L,fF 10 Q ac ad al<|J ax av an)::O) C N l a l a:=ao.add (cK _ W) (by omega)<|aB _ F.symm;have q:=X.still<|ci az _;have j:=Pr q Q;have w:=And.intro q.fE.2.1 q.dN.2.1;have aq:=am ao.box;obtain⟨P,ns,p⟩:∃P ns,OR a l.2 Q=(P,ns):=⟨_,_,rfl⟩;rw[p]at j;simp only at j;have x:=U p;unfold sC;unfold fF at j w;clear ao X q p;go_in
 go_wp2_with fail
 try rw[F]
 rename_i QQ T n;refine cI (λk=>aO k (R d 1)=H (ay sbqq)/\aO k (R L 1)=H (ap Q)) 7 (by kernel_rfl) ?_;refine cY 0 ?_;iterate 6 (refine eM (v:=?_) w rfl (by kernel_rfl) iW rfl ?_ ?_;rotate_left;(focus(rintro k⟨z0,z1⟩;go_simp;try rfl));simp only[Act.put,dD,gz,Nat.reduceAdd])
 apply eC;refine aM (i:=6) rfl rfl (by kernel_rfl) ?_;intro KC m;go_simp;apply j.mono;rintro V W2⟨rfl,q⟩;have u:=q.still<|ci az W2;have A:=And.intro q.fE.2.1 q.dN.2.1;have s:=U u;refine m _ _ (λ_=>A) ?_;try simp only[Act.put,dD,gz]
 refine aM (i:=7) rfl rfl (by kernel_rfl) ?_;intro KL o;go_simp;refine o _ _ wX ?_;refine cW (by kernel_rfl) ?_ _;show T _ _;apply n;have r:=s.OS Q;rw[ae x]at r;simp only at r;have B:=And.intro s.fE.2.2.1 (s.dN.2.1);clear w A j q u m o n x;go_wp2_with fail
 rename_i QQ T n;refine cI (λk=>aO k (R d 2)=H (ay f)/\aO k (R L 1)=H (ap Q)) 7 (by kernel_rfl) ?_;refine cY 0 ?_;iterate 6 (refine eM (v:=?_) B rfl (by kernel_rfl) iW rfl ?_ ?_;rotate_left;(focus(rintro k⟨z0,z1⟩;go_simp;try rfl));simp only[Act.put,dD,gz,Nat.reduceAdd])
 apply eC;refine aM (i:=6) rfl rfl (by kernel_rfl) ?_;intro KC m;go_simp;apply r.mono;rintro V W3⟨rfl,u⟩;have D:=And.intro u.fE.2.2.1 u.dN.2.1;have t:=U u;refine m _ _ (λ_=>D) ?_;try simp only[Act.put,dD,gz]
 refine aM (i:=7) rfl rfl (by kernel_rfl) ?_;intro KL o;go_simp;refine o _ _ wX ?_;refine cW (by kernel_rfl) ?_ _;show T _ _;apply n;have K:=jb P t.vG;clear r B D m o n u;go_wp2_with fail
 apply K.mono;rintro V W4⟨rfl,E⟩;have S:=U<|t.still<|I.aR E;clear E K t;go_wp2_with fail
 apply(kS P _).mono;rintro V W5⟨rfl,au⟩;subst W5;go_wp2;go_ret;exact⟨rfl,db,sbqq,f,h,mem,b,e,c,_,a,S.drop<|λp j=>bI _ j⟩
theorem Jj(v:jh g W d db sbqq f h mem b e c O C N l a l a)(P Q:Z)(S T:ab)(ac:Option Addr)(X V:M)(A:N+1<=100000000):cD bz 8 #[ay d,sC 11 P Q S T<|J ac X V] W λr F=>r=aL (aK bU)/\rV (Lz a l) g F d db sbqq f h mem b e c O C (N+1) l a l a:=by
 have u:=v.still<|(I.refl az W).alloc<|fF 11 P Q S T<|J ac X V;have i:=Ps u A;have y1:aO W (R d 1)=H (ay sbqq):=v.fE.2.1;have E:=am v.box;unfold fF at i;unfold sC;clear v u;cases a with
 |false=>
  simp only[gC,jk]at i;go_in
  go_wp2_with fail
  apply i.mono;rintro r w⟨rfl,p⟩;have m:=jb 0 p.ws.vG;have j:=U p;clear i p;go_wp2_with fail
  apply m.mono;rintro r s⟨rfl,k⟩;have n:=j.still<|I.aR k;have K:aO s (R d 2)=H (ay f):=n.ws.fE.2.2.1;obtain⟨⟨ad,q,_,_⟩,_,_⟩:=n.ws.ref;have L:=cellAt q 2 rfl;have o:=U n;clear k m j n q;go_wp2_with fail
  apply(kS 0 _).mono;rintro r t⟨rfl,B⟩;subst t;go_wp2;go_ret;exact⟨rfl,o⟩
 |true=>
  simp only[ir]at i;go_in
  go_wp2_with fail
  apply i.mono;rintro r w⟨rfl,p⟩;have m:=jb 6 p.ws.vG;have j:=U p;clear i p;go_wp2_with fail
  apply m.mono;rintro r s⟨rfl,k⟩;have n:=j.still<|I.aR k;have K:aO s (R d 2)=H (ay f):=n.ws.fE.2.2.1;obtain⟨⟨ad,q,_,_⟩,_,_⟩:=n.ws.ref;have L:=cellAt q 2 rfl;have o:=U n;clear k m j n q;go_wp2_with fail
  apply(kS 6 _).mono;rintro r t⟨rfl,B⟩;subst t;go_wp2_with fail
  apply(kS 6 _).mono;rintro r x⟨rfl,D⟩;subst x;go_wp2;go_ret;exact⟨rfl,o⟩
end
section
variable{h W:Y}{e db sbqq f:M}{g:PB}{mem b:Z}{d c:aa}{O:cw (M×Obj)}{C N:M}{l:LC}{a:Bool}
theorem Se(q:jh h W e db sbqq f g mem b d c O C N l a l a)(s:Z)(j n:ab)(i:Z):y (zi a l.2 s j n i).1<=1000000:=by
 obtain⟨L,K,F,w,A,B,D,p,o,v,r,q⟩:=q;unfold zi;rw[<-q.ref.abs];cases a with
 |true=>grind
 |false=>
  rcases Bg r s with⟨E,x,_,_,k,m⟩|⟨k,m⟩
  .simp only[m];have t:=q.ref.len x (DO k).1;have u:=mS x.l j n i;grind
  grind
theorem LR(bp:jh h W e db sbqq f g mem b d c O C N l a l a)(bd bf:Z)(bc bg:ab)(bv:Option Addr)(bu br:M):cD bz 19 #[ay e,sC 9 bd bf bc bg<|J bv bu br] W λbo w'=>bo=aL (aK bU)/\jh h w' e db sbqq f g mem b d c O C N l a l a:=by
 obtain⟨t,aq⟩:∃t,z (G W)=t:=⟨_,rfl⟩;have h1:jh h (cF W<|fF 9 bd bf bc bg<|J bv bu br) e db sbqq f g mem b d c ((t,fF 9 bd bf bc bg<|J bv bu br)::O) C N l a l a:=bp.add (cK _ W) (by omega)<|aB _ aq.symm;have o:=h1.still<|ci az _;have m:=SZ o bd bc bg bf;have F:=And.intro o.fE.2.1 (And.intro o.dN.2.1 (And.intro o.dN.2.2.2.1 (And.intro o.dN.2.2.2.2.1 o.dN.2.2.1)));have bs:=am bp.box;have E:=Se bp bd bc bg bf;obtain⟨k,gn,s⟩:∃k gn,zi a l.2 bd bc bg bf=(k,gn):=⟨_,_,rfl⟩;rw[s]at m E;simp only at m E;have V:=U s;unfold sC;unfold fF at m F;clear bp h1 o s;go_in
 go_wp2_with fail
 try rw[aq]
 rename_i QQ KK q;refine cI (λj=>aO j (R e 1)=H (ay sbqq)/\aO j (R t 1)=H (ap bd)/\aO j (R t 3)=H (aj bc)/\aO j (R t 4)=H (aj bg)/\aO j (R t 2)=H (ap bf)) 17 (by kernel_rfl) ?_;refine cY 0 ?_;iterate 12 (refine eM (v:=?_) F rfl (by kernel_rfl) iW rfl ?_ ?_;rotate_left;(focus(rintro j⟨z0,z1,z2,z3,z4⟩;go_simp;try rfl));simp only[Act.put,dD,gz,Nat.reduceAdd])
 apply eC;refine aM (i:=12) rfl rfl (by kernel_rfl) ?_;intro KC p;go_simp;apply m.mono;rintro bo W2⟨v2,rfl,P,o⟩;obtain⟨bl,bk,bm⟩:=aA P;subst bm;have u:=o.still<|ci az W2;have K:=And.intro o.fE.2.1 (And.intro o.dN.2.1 (And.intro o.dN.2.2.2.1 (And.intro o.dN.2.2.2.2.1 o.dN.2.2.1)));have w:=U P;have n:=U u;refine p _ _ (λ_=>K) ?_;try simp only[Act.put,dD,gz]
 refine cY 13 ?_;iterate 4 (refine eM (v:=?_) K rfl (by kernel_rfl) iW rfl ?_ ?_;rotate_left;(focus(rintro j⟨z0,z1,z2,z3,z4⟩;go_simp;try rfl));simp only[Act.put,dD,gz,Nat.reduceAdd])
 apply eC;refine aM (i:=17) rfl rfl (by kernel_rfl) ?_;intro KL r;go_simp;refine r _ _ wX ?_;refine cW (by kernel_rfl) ?_ _;show KK _ _;apply q;have B:=n.Sr bd bc bg bf;rw[ae V]at B;simp only at B;have al:=And.intro n.fE.2.2.1 (And.intro n.dN.2.1 (And.intro n.dN.2.2.2.1 (And.intro n.dN.2.2.2.2.1 (n.dN.2.2.1))));clear F K m P o u p r q V;go_wp2_with fail
 rename_i KK q;refine cI (λj=>aO j (R e 2)=H (ay f)/\aO j (R t 1)=H (ap bd)/\aO j (R t 3)=H (aj bc)/\aO j (R t 4)=H (aj bg)/\aO j (R t 2)=H (ap bf)) 17 (by kernel_rfl) ?_;refine cY 0 ?_;iterate 12 (refine eM (v:=?_) al rfl (by kernel_rfl) iW rfl ?_ ?_;rotate_left;(focus(rintro j⟨z0,z1,z2,z3,z4⟩;go_simp;try rfl));simp only[Act.put,dD,gz,Nat.reduceAdd])
 apply eC;refine aM (i:=12) rfl rfl (by kernel_rfl) ?_;intro KC p;go_simp;apply B.mono;rintro bo W3⟨v3,rfl,Q,x⟩;obtain⟨bx,bq,bn⟩:=aA Q;subst bn;have u:=n.still<|I.aR x;have L:=And.intro u.fE.2.2.1 (And.intro u.dN.2.1 (And.intro u.dN.2.2.2.1 (And.intro u.dN.2.2.2.2.1 u.dN.2.2.1)));have ao:mT W3 (J bl (y k) bk) k:=(I.aR (S:=az) x).row ((ci az W2).row (da w)<|λT A=>⟨id,(aG w T A).2⟩)<|λT A=>⟨id,(aG w T A).2⟩;have bb:∀T,ct (J bl (y k) bk)=H T->T<z (G W3):=λT A=>ag (aG w T A).2 x.size;obtain⟨ad,ac,X⟩:=dA (And.intro ao bb) Q u;refine p _ _ (λ_=>L) ?_;try simp only[Act.put,dD,gz]
 refine cY 13 ?_;iterate 4 (refine eM (v:=?_) L rfl (by kernel_rfl) iW rfl ?_ ?_;rotate_left;(focus(rintro j⟨z0,z1,z2,z3,z4⟩;go_simp;try rfl));simp only[Act.put,dD,gz,Nat.reduceAdd])
 apply eC;refine aM (i:=17) rfl rfl (by kernel_rfl) ?_;intro KL r;go_simp;refine r _ _ wX ?_;refine cW (by kernel_rfl) ?_ _;show KK _ _;apply q;have ax:=jb gn X.vG;clear B al L p r q ao Q u x bb;go_wp2_with fail
 apply ax.mono;rintro bo W4⟨rfl,an⟩;have D:I az W3 W4:=I.aR an;have bh:=U<|X.still D;have au:mT W4 (J bl (y k) bk) k:=D.row ad.1<|λT A=>⟨id,ad.2 T A⟩;have av:mT W4 (J bx (y k) bq) k:=D.row (pu.Me ac)<|λT A=>⟨id,(aG ac T A).2⟩;have S:=oM au av (by omega) (by omega);clear an ax D au av;simp only[mQ]at S;go_wp2_with fail
 apply S.mono;rintro bo W5⟨rfl,kq,ba⟩;have bi:=U<|bh.still (W':=W5) (by rw[ba];exact gD _ _ _);clear S ba;go_wp2_with fail
 apply(kS gn _).mono;rintro bo W7⟨rfl,bt⟩;subst W7;go_wp2;go_ret;exact⟨rfl,bi.drop<|λp j=>bI _ j⟩
end
def Zr:PR 0 (bV [] [] [] []):=by
 have e:bV [] [] [] []=[[],[],[]]:=rfl;rw[e];have a:PR 0 ([]:dL):=⟨List.Pairwise.nil,by simp,by simp,by simp⟩;grind[PR.Mj]
def VZ(f:cQ a b (rK c))(i:Steps a)(g:Pow a)(d:¬(rK c).aU b 1)(e:¬(rK c).aU b 2):uO a b (rK c) [] [] [] [] 0 0 0 2 1 aY []where
 aH:=f
 qF:=by
  refine⟨λn j h=>?_,.inr ⟨rfl,rfl,rfl,rfl,rfl,rfl,rfl,rfl⟩,λh=>(by cases h),λ_=>rfl,by simp,by simp,by simp,by omega,by simp⟩;simp[rK,vw,dX]at h
 pr:=Zr
 lp:=⟨by simp,by simp,by simp,by simp,by omega,by simp⟩
 qf:=by simp[gQ,cg]
 lV:=by omega
 s1:=⟨by simp,List.Pairwise.nil,List.Pairwise.nil⟩
 s2:=⟨by simp,List.Pairwise.nil,List.Pairwise.nil⟩
 s3:=⟨by simp,List.Pairwise.nil,List.Pairwise.nil⟩
 VQ:=λh=>by cases h
 nx:=by omega
 bn:=by simp
 eJ:=by simp[rK]
 La:=by omega
 steps:=i
 pow:=g
 fw:=d
 mi:=e
def Hw(a:0<=m)(b:m<K)(c:K<=100):sk m K=m:=by
 unfold sk;have e:IntKind.u64.wrap m=m:=by rw[gZ];omega
 rw[e,Int.tmod_eq_of_lt a b];unfold wrap64;omega
def IM(j al:Z)(X:Steps a)(W:Pow a)(V:qH a):cD bz 5 #[ap j,ap al] a λT w'=>∃n,T=aL (dw #[ay n,aK bU])/\yU a w' n [] 0 1:=by
 have A:=CR a;obtain⟨E,D,HE⟩:=dA X W V;have rM:=Hv j 32 (by omega) (by omega);have rT:=Hv al 5 (by omega) (by omega);clear X W V;go_in
 go_wp2_with fail
 apply A.mono;rintro T d⟨rfl,v,s⟩;have i:=U v;have p:=U s;clear v s A;obtain⟨g,b⟩:∃g,cF (cF d<|ar #[aD,aD,aK aY] 35) (ar #[ay<|z (G a)+2,fj none,ay<|z<|G d,ap 0,ap 0,aD,aD] 41)=g:=⟨_,rfl⟩;have m:I az d g:=by rw[<-b];exact(cK az d).alloc _
 have f:I az a g:=(I.aR (S:=az) p).cr m;have O:=p.size;have x:=am i.iq;have P:z (G g)=z (G d)+2:=by rw[<-b];simp
 have u:g.heap[z (G d)+1]?=H (ar #[ay<|z (G a)+2,fj none,ay<|z<|G d,ap 0,ap 0,aD,aD] 41 (0,0)):=by rw[<-b];exact aB _<|by simp
 have t:g.heap[z<|G d]?=H (ar #[aD,aD,aK aY] 35 (0,0)):=by rw[<-b];grind[gl,aB]
 have c:∀o,(rK<|z<|G a).aU (z (G a)+2) o->z (G a)<=o/\o<z (G d):=λo q=>by refine⟨?_,i.lt o q⟩;rcases q with B|B|B|B|⟨ao,N,B⟩|⟨aq,hg,B⟩;omega;have:o=z (G a):=B;omega;have:o=z (G a)+1:=B;omega;cases B;cases N;cases hg
 have w:=i.aw m<|λ_ _=>id;have e:=VZ w (Steps.aw E f id) (D.aw f id) (λq=>by have:=(c _ q).1;have:=E.lt;omega) (λq=>by have:=(c _ q).1;have:=D.lt;omega);have r:OW a g (z (G d)+1) (z (G a)+2) (z<|G d) (none,aD) none 0 0 aD aD [] (rK<|z<|G a) [] [] [] [] 0 0 0 2 1 aY [] [] ([],[]) aY:=by refine⟨u,⟨⟨⟨_,t,⟨rfl,.inl ⟨rfl,rfl⟩⟩,rfl⟩,by simp,by simp⟩,⟨⟨rfl,.inl ⟨rfl,rfl⟩⟩,by simp,by simp,by simp⟩,bK _ _ _ _,λo _ _ _ a=>(by cases a),rfl,by simp,λo a=>(by cases a)⟩,e,WY (by simp[bV,gQ,cg,jQ,nu]),by simp,⟨⟨_,_,_,rfl⟩,_,_,_,rfl⟩,f,⟨λo q=>(c o q).1,by omega,by omega⟩,λq=>by have:=(c _ q).2;omega,λq=>by have:=(c _ q).2;omega,λo q=>(by rcases q with q|q|⟨ao,N,_⟩;cases q;cases q;cases N),by simp,λq T=>(by cases T),by omega,E,D,HE⟩
 have ho:oO (sk (1+wrap64 ((IntKind.u64.wrap j).tmod 32)) 34) (sk (2+wrap64 ((IntKind.u64.wrap al).tmod 5)) 8)=0:=by rw[Hw (by omega) (by omega) (by omega),Hw (by omega) (by omega)<|by omega];unfold oO;rw[dr<|by omega]
 have l:=KX r _ _ ho (by omega);have F:=U b;obtain⟨n,k⟩:∃n,z (G d)+1=n:=⟨_,rfl⟩;rw[k]at l;have K:=U k;clear b m f O x P u t c w e r ho k;go_wp2_with fail
 rw[ae F,ae K];apply l.mono;rintro T W4⟨rfl,Q,an,ac,ad,L⟩;have y1:aO W4 (R n 1)=H (ay Q):=L.fE.2.1;have C:=U L;clear l L;go_wp2_with fail
 go_quiet(fail)
 rename_i nq;go_wp2;go_ret2
 exact⟨_,rfl,_,_,_,_,_,_,_,_,_,_,C.still<|gD _ _ _⟩
section
variable{d W W':Y}{e db sbqq g:M}{h:PB}{mem b:Z}{f c:aa}{O:cw (M×Obj)}{C N:M}{l:LC}{a:Bool}
theorem OX(ad:jh d W e db sbqq g h mem b f c O C N l a l a)(B E:Z)(S T:ab)(o i s D:M)(j k:ab)(m:Bool)(hA:B<0)(P:0<s)(r:s<=D)(p:s<=1000000000000)(q:o<z (G d))(w:aO d (R o i)=H (aj j))(x:aO d (R o<|i+1)=H (aj k))(A:aO d (R o<|i+2)=H (aK m))(Q:j.size<=140737488351232/\k.size<=140737488351232)(K:C+lk [⟨j,k,m⟩]<=1000000)(L:N+1<=100000000):cD bz 19 #[ay e,sC 4 B E S T<|bB o i s D] W λac X=>ac=aL (aK bU)/\yU d X e O (C+lk [⟨j,k,m⟩]) (N+1):=by
 have u:=ad.still<|(I.refl az W).alloc<|fF 4 B E S T<|bB o i s D;have n:=Tj u B E S T o i s D j k m P r p q w x A Q K L;have e1:(0:Z)<(s:Z):=by omega
 unfold sC at n|-;unfold fF at n;clear ad u w x A;go_in
 go_wp2_with fail
 apply n.mono;rintro ac W2⟨rfl,t,V,v⟩;have F:=U v;clear v n;go_wp2;go_ret;exact⟨rfl,db,sbqq,g,t,mem,b,f,c,V,a,F⟩
theorem ve(i A B:Z)(S T:ab)(x:Option Addr)(r p:M)(P:Y->Prop)(q:i=3\/i=4\/i=9)(j:cD bz 19 #[ay e,sC i A B S T<|J x r p] (cF W<|fF i A B S T<|J x r p) λn k=>n=aL (aK bU)/\P k):cD bz 8 #[ay e,sC i A B S T<|J x r p] W λn k=>n=aL (aK bU)/\P k:=by
 unfold sC at j|-;unfold fF at j;rcases q with rfl|rfl|rfl;(all_goals(go_in);(go_wp2_with fail);apply j.mono;rintro n s⟨rfl,m⟩;have o:=U m;clear m j;go_wp2;go_ret;exact⟨rfl,o⟩)
theorem RI(i A B:Z)(S T:ab)(F:Option Addr)(E o:M)(m:i<1\/11<i):cD bz 8 #[ay e,sC i A B S T<|J F E o] W λp n=>p=aL (aK bU)/\I az W n:=by
 have q:¬i=1:=by omega
 have r:¬i=2:=by omega
 have s:¬i=3:=by omega
 have t:¬i=4:=by omega
 have u:¬i=5:=by omega
 have v:¬i=6:=by omega
 have w:¬i=7:=by omega
 have x:¬i=8:=by omega
 have D:¬i=9:=by omega
 have j:¬i=10:=by omega
 have k:¬i=11:=by omega
 unfold sC;clear m;go_in
 go_wp2;go_ret;exact⟨rfl,cK _ W⟩
end
def yU.mono{O:cw (M×Obj)}(r:yU a C c O g A)(s:g<=l)(k:l<=1000000)(t:A<=Q)(m:Q<=100000000):yU a C c O l Q:=by
 obtain⟨q,h,v,u,n,e,o,j,w,d,r⟩:=r;exact⟨q,h,v,u,n,e,o,j,w,d,r.mono s k t m⟩
def yU.still{j W W':Y}{O:cw (M×Obj)}(l:yU j W b O c g)(m:I az W W'):yU j W' b O c g:=by
 obtain⟨k,e,o,n,h,d,i,f,p,a,l⟩:=l;exact⟨k,e,o,n,h,d,i,f,p,a,l.still m⟩
def WV(o:IU):M:=if o.kd=1 then lk o.cs else if o.kd=4 then lk (o.cs.take 1)else 0
theorem Kr{a:uP}(q:lJ a=0):∀x∈a,1<=x.key.size:=by
 induction a with
 |nil=>simp
 |cons c a b=>
  unfold lJ at q;grind
theorem Yz(a:uP):2*lk a<=GW a:=by
 unfold lk;by_cases q:ga a=0
 .rw[dz q];have b:∀x∈a,1<=x.key.size:=by
   unfold ga at q;grind[Kr]
  clear q;induction a with
  |nil=>simp
  |cons d a c=>
   have e:=b d (by simp);have f:=c<|λx a=>b x<|bI _ a;unfold GW at*;grind
 grind
def ZJ(o:IU):2*WV o<=ZW o:=by
 unfold WV ZW;grind[Yz,Ux]
def UL(o:IU)(w:yU a f b [] c g)(hk:o.kd≠2/\o.kd≠8/\o.kd≠11)(m:Xy a o.L o.cs)(Q:o.S.size<=140737488351232)(F:∀i∈o.cs,i.key.size<=140737488351232/\i.val.size<=140737488351232)(E:y o.cs<=1000000000)(K:c+WV o<=1000000)(L:g+1<=100000000):cD bz 8 #[ay b,sC o.kd o.A o.B o.S o.T o.L] f λX v=>X=aL (aK bU)/\yU a v b [] (c+WV o) (g+1):=by
 obtain⟨db,al,rb,pb,ao,W,aq,an,av,s,w⟩:=w;obtain⟨h,A,B,S,T,au,d⟩:=o;simp only at hk m Q F E|-;obtain⟨x,i,hL⟩:=BR m;subst hL;have r:(h<1\/11<h)\/h=1\/h=3\/h=4\/h=5\/h=6\/h=7\/h=9\/h=10:=by omega
 have k:∀{j:Y}{e f:M},yU a j b [] e f->e<=c+WV ⟨h,A,B,S,T,J x (y d) i,d⟩->f<=g+1->yU a j b [] (c+WV ⟨h,A,B,S,T,J x (y d) i,d⟩) (g+1):=λq l m=>q.mono l K m L;have j:∀k,I az f (cF f<|fF k A B S T<|J x (y d) i):=λk=>(cK _ f);rcases r with r|rfl|rfl|rfl|rfl|rfl|rfl|rfl|rfl;apply(RI h A B S T x (y d) i r).mono;rintro X v⟨rfl,l⟩;exact⟨rfl,k ⟨_,_,_,_,_,_,_,_,_,_,w.still l⟩ (by omega)<|by omega⟩;have P:WV ⟨1,A,B,S,T,J x (y d) i,d⟩=lk d:=rfl;rw[P]at K|-;rcases m with⟨⟨V,⟨u,q0⟩|⟨ac,e,O,u,D,N⟩⟩,p⟩|⟨V,ad,c',u⟩;(have l:d=[]:=py.1 q0;grind[El]);(cases u;have C:=p ac rfl;by_cases t:y d=0;(have l:d=[]:=py.1 t;grind[wK]);grind[Ek]);grind[wK]
 refine ve 3 A B S T x (y d) i _ (.inl rfl)<|(Su (w.still<|j 3) A B S T x (y d) i).mono ?_;rintro X v⟨rfl,ad,l,n⟩;exact⟨rfl,k ⟨_,_,_,_,_,_,_,_,_,_,n⟩ (by omega)<|by omega⟩;by_cases hA:0<A;refine ve 4 A B S T x (y d) i _ (.inr<|.inl rfl)<|(BJ (w.still<|j 4) A B S T x (y d) i hA).mono ?_;rintro X v⟨rfl,n⟩;exact⟨rfl,k ⟨_,_,_,_,_,_,_,_,_,_,n⟩ (by omega)<|by omega⟩;by_cases t:A<0->y d=0;refine ve 4 A B S T x (y d) i _ (.inr<|.inl rfl)<|(Dw (w.still<|j 4) A B S T x (y d) i (by omega) t).mono ?_;rintro X v⟨rfl,n⟩;exact⟨rfl,k ⟨_,_,_,_,_,_,_,_,_,_,n⟩ (by omega)<|by omega⟩;obtain⟨ad,t⟩:=Classical.not_imp.1 t;rcases m with⟨⟨V,⟨u,q0⟩|⟨ac,e,O,u,D,N⟩⟩,p⟩|⟨V,_⟩;omega;cases u;have C:=p ac rfl;rcases d with _|⟨l,d⟩;simp at t;have P:WV ⟨4,A,B,S,T,bB ac e (y<|l::d) i,l::d⟩=lk [⟨l.key,l.val,l.del⟩]:=rfl;rw[P]at K|-;refine ve 4 A B S T _ (y<|l::d) i _ (.inr<|.inl rfl) ?_;exact OX (w.still<|j 4) A B S T ac e _ i l.key l.val l.del (by omega) (by simp) D (by omega) C (N 0 _ rfl) (N 1 _ rfl) (N 2 _ rfl) (F l<|by simp) K L;grind
 apply(Oo w A B S T x (y d) i).mono;grind
 apply(RH w A B S T x (y d) i L).mono;grind
 apply(RG w A B S T x (y d) i L).mono;grind
 refine ve 9 A B S T x (y d) i _ (.inr<|.inr rfl)<|(LR (w.still<|j 9) A B S T x (y d) i).mono ?_;rintro X v⟨rfl,n⟩;exact⟨rfl,k ⟨_,_,_,_,_,_,_,_,_,_,n⟩ (by omega)<|by omega⟩;apply(Ji w A B S T x (y d) i).mono;grind
def yU.aw{O:cw (M×Obj)}(k:yU a C c O g l):I az a C:=by
 obtain⟨o,h,q,p,m,e,n,j,r,d,k⟩:=k;exact k.aw
def XA(a:uP):y a<=GW a:=by
 induction a with
 |nil=>simp
 |cons c a b=>
  unfold GW at*;grind
def E9(j W:Y)(k C N:M):Prop:=∃g c i h e b f d l a,rV (Lz a l) j W k g c i h e b f d [] C N l a l a
def E9.F8(i:E9 a f b c g):∃e j,aO f (R b 2)=H (ay e)/\aO f (R e 2)=H (aK j)/\yU a f b [] c g/\(j=aY->cD bz 9 #[ay b] f λr l=>r=aL (aK bU)/\yU a l b [] c g):=by
 obtain⟨s,k,e,t,o,h,p,m,u,d,i⟩:=i;refine⟨e,d,i.ws.fE.2.2.1,i.ws.QM.1,⟨_,_,_,_,_,_,_,_,_,_,i.ws⟩,λq=>?_⟩;subst q;apply(Px i).mono;rintro r l⟨rfl,n⟩;exact⟨rfl,_,_,_,_,_,_,_,_,_,_,n⟩
def Ub(k:yU a f b [] c g)(A B:Z)(S T:ab)(x:Option Addr)(r p:M)(m:g+1<=100000000):cD bz 8 #[ay b,sC 11 A B S T<|J x r p] f λq i=>q=aL (aK bU)/\E9 a i b c (g+1):=by
 obtain⟨s,h,u,t,n,e,o,j,v,d,k⟩:=k;apply(Jj k A B S T x r p m).mono;rintro q i⟨rfl,l⟩;exact⟨rfl,_,_,_,_,_,_,_,_,_,_,l⟩
def UT(l:yU a f b [] c g):cD bz 6 #[ay b] f λm i=>m=aL (aK bU)/\yU a i b [] c g:=by
 obtain⟨p,j,r,q,n,h,o,k,s,d,l⟩:=l;cases d with
 |true=>
  apply(Gt l).mono;rintro m i⟨rfl,e⟩;exact⟨rfl,_,_,_,_,_,_,_,_,_,_,e⟩
 |false=>
  apply(Lq l).mono;rintro m i⟨rfl,e⟩;exact⟨rfl,_,_,_,_,_,_,_,_,_,_,e⟩
def p8(v:m=2\/m=8)(l:yU a f b [] c g)(A B:Z)(S T:ab)(x:Option Addr)(r p:M)(w:S.size<=140737488351232):cD bz 7 #[ay b,sC m A B S T<|J x r p] f λq j=>q=aL (aK bU)/\yU a j b [] c g:=by
 obtain⟨u,i,D,C,n,e,o,k,E,d,l⟩:=l;refine(ZF (kd:=m) l A B S T x r p<|λF s t h=>?_).mono ?_;grind[Vl,OY]
 rintro q j⟨rfl,h⟩;exact⟨rfl,_,_,_,_,_,_,_,_,_,_,h⟩
theorem RY(bh e bl:M)(b:cw IU)(Q bn:Z)(h:KE a (bB bh e (y b) bl) b)(hS:Steps a)(hP:Pow a)(hE:qH a):cD bz 3 #[bB bh e (y b) bl,ap Q,ap bn] a λS w'=>S=aL (aK bU)/\I az a w':=by
 have m:=Oy bh e bl b h;have bi:∀(x:Bool)(a:Y),(Op.unary .not<|aK x).run bz a=.ok (aK<|!x) a:=λ_ _=>rfl;by_cases A:y b+Gl b<=1048576
 .rw[mw A]at m;obtain⟨o,j,ba,aq⟩:=gH h hS hP hE;clear h hS hP hE;go_in
  go_wp2_with fail
  apply m.mono;rintro S x⟨rfl,q,t⟩;have u:I az a x:=by rw[t];exact gD _ _ _
  have ad:=IM Q bn (Steps.aw j u id) (ba.aw u id)<|aq.aw u id;have p:=U u;clear m t u;go_wp2_with fail
  apply ad.mono;rintro S w2⟨O,rfl,h2⟩;have au:=U h2;clear ad h2;go_wp2_with fail
  go_loopw [10] (λa wr=>∃(i L:M),i<=y b/\a=ap i/\yU x wr O [] L (i+1)/\2*L<=Gl (b.take i)) (λa _=>y b-(intOf a).toNat)
  case atStart=>exact⟨0,0,bj _,rfl,au,by simp⟩
  case round=>
   obtain⟨i,L,hi,rfl,N,hC⟩:=hrel;by_cases f:i<y b
   .have l:=ak f;have ac:I az a wr:=p.cr N.aw;have c:∀av u,b[i].cells[av]?=H u->aO wr (R bh<|e+i*6+av)=H u:=λav u D=>by
     have an:av<6:=by
      rcases gU av 6 with g|g
      .exact g
      .rw[lq<|by exact g]at D;cases D
     obtain⟨q1,⟨q2,q0⟩|⟨g',bk,ax,q2,E,hc⟩⟩:=o.row
     .cases q2
     .have g:=o.lt bh rfl;cases q2;rw[aV];exact ac.cell (hc _ _<|(qp b i f av an).trans D) id g
    have c0:=c 0 _ rfl;have c1:=c 1 _ rfl;have c2:=c 2 _ rfl;have c3:=c 3 _ rfl;have c4:=c 4 _ rfl;have c5:=c 5 _ rfl;rw[jn]at c0;have C:=o.Ut _ l;have k:=o.str _ l;have al:=o.F2 _ l;have bf:=KQ b i f;have bd:=Uv b<|i+1;have bc:=ZJ b[i];have B:Xy x b[i].L b[i].cs:=C.aw p;have bm:y b[i].cs<=1048576:=by
     have g:y b[i].cs<=GW b[i].cs:=by
      exact XA _
     have h2:ZW b[i]=b[i].S.size+b[i].T.size+GW b[i].cs:=rfl;omega
    obtain⟨lx,lc,X⟩:=BR C;have d:(b[i].kd≠2/\b[i].kd≠8/\b[i].kd≠11)->∀m,yU x m O [] L (i+1)->cD bz 8 #[ay O,sC b[i].kd b[i].A b[i].B b[i].S b[i].T b[i].L] m λS w'=>S=aL (aK bU)/\yU x w' O [] (L+WV b[i]) (i+1+1):=λa m t=>UL b[i] t a B k.1 al (by omega) (by omega) (by omega);have V:2*(L+WV b[i])<=Gl (b.take<|i+1):=by omega
    have T:2*L<=Gl (b.take<|i+1):=by omega
    have s:∀m,yU x m O [] L (i+1)->yU x m O [] L (i+1+1):=λm t=>t.mono (ai _) (by omega) (by omega) (by omega);have P:=U s;have bg:=k.1;have bb:i+1+1<=100000000:=by omega
    unfold sC at d;rw[X]at c5 d;generalize WV b[i]=cc at*;generalize b[i].kd=K at*;generalize b[i].A=oA at*;generalize b[i].B=oB at*;generalize b[i].S=oS at*;generalize b[i].T=oT at*;generalize y b[i].cs=ol at*;have e1:(i:Z)<(y b:Z):=by omega
    have e0:(0:Z)<=(i:Z):=by omega
    have W:=N.still<|(I.refl az wr).alloc<|fF K oA oB oS oT<|J lx ol lc;obtain⟨HL,j,ao,v,w⟩:=je N d V T W;clear N hC ac c C k al bf bd bc B X d V T s l W;by_cases F:K=12
    .subst F;have g:=UT<|ae w;unfold fF at g;clear j;go_wp2_with fail
     apply g.mono;rintro S w4⟨rfl,r⟩;have n:=U r;clear g r;go_wp2;go_roundw;case rel=>exact⟨i+1,L,f,by go_num,P _ n,v⟩
     case measure=>simp[intOf];omega
    .by_cases g:K=2\/K=8
     .have D:=p8 g (ae w) oA oB oS oT lx ol lc bg;unfold fF sC at D;clear j F;rcases g with rfl|rfl;all_goals
       go_wp2_with fail
       apply D.mono;rintro S w4⟨rfl,r⟩;have n:=U r;clear D r;go_wp2;go_roundw;case rel=>exact⟨i+1,L,f,by go_num,P _ n,v⟩
       case measure=>simp[intOf];omega
     .by_cases an:K=11
      .subst an;have D:=Ub (ae w) oA oB oS oT lx ol lc bb;unfold fF sC at D;clear j F g;go_wp2_with fail
       apply D.mono;rintro S w4⟨rfl,r⟩;obtain⟨rb,cl,r1,r2,h5,h6⟩:=r.F8;have av:=U h5;clear D r h5;cases cl with
       |true=>
        clear h6;go_wp2;go_roundw;case rel=>exact⟨i+1,L,f,by go_num,av,v⟩
        case measure=>simp[intOf];omega
       |false=>
        have E:=h6 rfl;clear h6;go_wp2_with fail
        apply E.mono;rintro S w5⟨rfl,h7⟩;have ax:=U h7;clear E h7;go_wp2;go_roundw;case rel=>exact⟨i+1,L,f,by go_num,ax,v⟩
        case measure=>simp[intOf];omega
      .have k:=j ⟨λq=>g<|.inl q,λq=>g<|.inr q,an⟩ _<|ae w;have D:¬K=2:=λq=>g<|.inl q;have k8:¬K=8:=λq=>g<|.inr q;unfold fF at k;clear j g;go_wp2_with fail
       apply k.mono;rintro S w4⟨rfl,r⟩;have n:=U r;clear k r;go_wp2;go_roundw;case rel=>exact⟨i+1,L+cc,f,by go_num,n,ao⟩
       case measure=>simp[intOf];omega
   .have e1:¬((i:Z)<(y b:Z)):=by omega
    have HT:=U<|p.cr N.aw;clear N;go_wp2;go_ret;exact⟨rfl,HT⟩
 rw[rW A]at m;clear h hS hP hE;(go_in);(go_wp2_with fail);apply m.mono;rintro S x⟨rfl,q,t⟩;have HT:=U (show I az a x by rw[t];exact gD _ _ _);clear m t;go_wp2;go_ret;exact⟨rfl,HT⟩
theorem Hn(x:Option Addr)(s:M)(b T:Z)(g:Steps a)(f:Pow a)(e:qH a):cD bz 3 #[J x 0 s,ap b,ap T] a λk j=>k=aL (aK bU)/\I az a j:=by
 have d:cD bz 4 #[J x 0 s] a λk j=>k=aL (aK bU)/\j=a:=by clear g f e;(go_in);(go_wp2_with fail);(go_loopw [4] (λi wr=>i=ap 0/\wr=a) (λ_ _=>0));(case atStart=>grind);(case round=>obtain⟨rfl,o⟩:=hrel;subst wr;go_wp2;go_ret;simp_all)
 have c:=IM b T g f e;have m:∀(x:Bool)(a:Y),(Op.unary .not<|aK x).run bz a=.ok (aK<|!x) a:=λ_ _=>rfl;clear g f e;go_in
 go_wp2_with fail
 apply d.mono;rintro k q⟨rfl,p⟩;subst q;go_wp2_with fail
 apply c.mono;rintro k r⟨t,rfl,l⟩;have n:=U l.aw;clear c l d;go_wp2_with fail
 go_loopw [10] (λi wr=>i=ap 0/\wr=r) (λ_ _=>0)
 case atStart=>grind
 (case round=>obtain⟨rfl,o⟩:=hrel;subst wr;go_wp2;go_ret;exact⟨rfl,n⟩)
def UU(i:cw IU)(b T:Z)(l:KE a d i)(o:Steps a)(n:Pow a)(m:qH a):cD bz 3 #[d,ap b,ap T] a λk j=>k=aL (aK bU)/\I az a j:=by
 have h:=l.row;obtain⟨r,⟨e,q⟩|⟨s,c,f,e,g,p⟩⟩:=h;rw[e];grind[Hn]
 grind[RY]
theorem Wu:prog.globalNamed "levels/code.steps" =H 1:=by kernel_rfl
theorem E1:prog.globalNamed "internal/strconv.uint64pow10" =H 2:=by kernel_rfl
theorem p7:prog.globalNamed "errors.errorType" =H 0:=by kernel_rfl
theorem Zh:(prog.globals[1]?).map (·.type)=H 380:=by kernel_rfl
theorem C6:(prog.globals[2]?).map (·.type)=H 402:=by kernel_rfl
theorem Zf:prog.underlying 380=H (.array 16 91):=by kernel_rfl
theorem C5:prog.underlying 402=H (.array 20 98):=by kernel_rfl
theorem j6:prog.underlying 91=H (.int .u32):=by kernel_rfl
theorem j5:prog.underlying 98=H (.int .u64):=by kernel_rfl
theorem D4:(prog.cutTypes.find? (·.1== "internal/reflectlite.rtype")).map (·.2)=H 230:=by kernel_rfl
theorem Zu:((List.range 454).filter λt=>prog.rowNamed t [101,114,114,111,114])=[50]:=by kernel_rfl
theorem UE:prog.types.size=454:=by kernel_rfl
def AO:cw (String×DataW Unit):=[("levels/code.steps",Rows.laid_levels_code_steps),("math/bits.deBruijn32tab",Rows.laid_math_bits_deBruijn32tab),("math/bits.deBruijn64tab",Rows.laid_math_bits_deBruijn64tab),("internal/strconv.uint64pow10",Rows.laid_internal_strconv_uint64pow10),("errors.errorType",Rows.laid_errors_errorType),("strconv.ErrRange",Rows.laid_strconv_ErrRange),("strconv.ErrSyntax",Rows.laid_strconv_ErrSyntax)]
theorem Yd{W:Y}(p:laidMetH bz AO W):Steps W/\Pow W/\qH W:=by
 obtain⟨c,d⟩:=laidMetH_iff.1 p;have f:=c.filter (λx=>x.1== "levels/code.steps");rw[show((AO.filter λx=>x.2.handleName?.isNone).filter λx=>x.1== "levels/code.steps")=[("levels/code.steps",Rows.laid_levels_code_steps)]by kernel_rfl]at f;have g:=c.filter (λx=>x.1== "internal/strconv.uint64pow10");rw[show((AO.filter λx=>x.2.handleName?.isNone).filter λx=>x.1== "internal/strconv.uint64pow10")=[("internal/strconv.uint64pow10",Rows.laid_internal_strconv_uint64pow10)]by kernel_rfl]at g;rw[show(AO.filter λx=>x.2.handleName?.isSome)=[("errors.errorType",Rows.laid_errors_errorType)]by kernel_rfl]at d;refine⟨?_,?_,?_⟩
 .have b:Lib.TabIs bz W "levels/code.steps" .u32 [0,498536548,997073096,651767980,1994146192,1802195444,1303535960,1342533948,3988292384,4027552580,3604390888,3412177804,2607071920,2262029012,2685067896,3183342108]:=Lib.tabIs_of_head Wu Zh Zf j6 (by kernel_rfl) (by kernel_rfl) f;intro k a;rw[World.var?_cell Wu b k];have:∀k,k<16->(([0,498536548,997073096,651767980,1994146192,1802195444,1303535960,1342533948,3988292384,4027552580,3604390888,3412177804,2607071920,2262029012,2685067896,3183342108]:eO).map λb=>Value.int .u32 b).toArray[k]?=H (.int .u32 (Yy k)):=by
   intro k a;match k,a with
   |0,_|1,_|2,_|3,_|4,_|5,_|6,_|7,_|8,_|9,_|10,_|11,_|12,_|13,_|14,_|15,_=>rfl
   |n+16,p=>grind
  exact this k a
 exact Lib.tabIs_of_head E1 C6 C5 j5 (by kernel_rfl) (by kernel_rfl) g;obtain⟨a,u,o,h,i,j,k,b⟩:=d _ (cX.2 rfl);have l:a=[101,114,114,111,114]:=(gY h).symm;subst l;obtain rfl:=gY (D4.symm.trans i);have e:o∈(List.range 454).filter λt=>prog.rowNamed t [101,114,114,111,114]:=dZ.2 ⟨nG.2 (by rw[<-UE];exact j),k⟩;rw[Zu]at e;obtain rfl:=cX.1 e;(have m:typeHandle bz 50=.pointer (H (R (7) 50)):=by kernel_rfl);rw[m]at b;unfold qH;simpa using World.var?_cell p7 b 0
theorem Nu{W:Y}{a n:M}{g:Addr}{b:iC}(h:W.cells? a g n=H b):y b=n/\∀j,j<n->aO W (g.add j)=b[j]?:=by
 unfold World.cells? at h;split at h;have f:=Lib.mapM_length h;refine⟨by simpa using f,λj e=>?_⟩;obtain⟨i,c,d⟩:=Lib.mapM_at h j j (by simp[e]);rw[d,c];cases h
theorem Lo{W:Y}{q:Addr}{e b:M}(f:0<e)(o:0<b){Q:M->iC->Prop}(x:∀i,i<e->∃c,W.cells? 0 (q.add (i*b)) b=H c/\Q i c):∃j a,q=(R j a)/\j<z (G W)/\∀i,i<e->∃c,y c=b/\(∀p,p<b->aO W (R j (a+i*b+p))=c[p]?)/\Q i c:=by
 obtain⟨c,n,_⟩:=x 0 f;obtain⟨r,l⟩:=Nu n;have k:=l 0 o;rw[Aa]at k;have s:(q.add 0).add 0=q:=rfl;rw[s]at k;obtain⟨j,a,d⟩:=q;have w:∃A,aO W ⟨j,a,d⟩=H A:=⟨c[0]'(by omega),by rw[k];grind⟩;obtain⟨A,h⟩:=w;have m:j<z (G W)/\d=none:=by unfold World.cell? at h;simp only at h;split at h;rename_i C E D B;refine⟨?_,?_⟩;(grind);simp_all;cases h
 obtain⟨m,rfl⟩:=m;refine⟨j,a,rfl,m,λi t=>?_⟩;obtain⟨c,n,v⟩:=x i t;obtain⟨r,l⟩:=Nu n;refine⟨c,r,λp u=>?_,v⟩;rw[<-l p u,Go.Deep.add_add];unfold Addr.add;by_cases g:i*b+p=0;rw[dz g,aV,g];rfl;grind
def yA(P:Program)(t:TypeId):Option (cw (TypeId×M)):=match P.underlying t with
 |some (.struct a)=>H (a.toList.map λf=>(f.type,f.offset))
 |_=>none
theorem Al{P:Program}{t:TypeId}{l:cw (TypeId×M)}(h:yA P t=H l):∃a,P.underlying t=H (.struct a)/\a.toList.map (λf=>(f.type,f.offset))=l:=by
 unfold yA at h;grind
theorem CQ{d:Type}{e:TypeId×aa->d}{P:Program}{w:Y}{b f:M}{l:M->Bool}{c:Bool}{t:TypeId}{k:iC}{x:DataW d×cw MemPlace}{q:cw (TypeId×M)}(n:yA P t=H q)(u:DataW.trod e P w b l c f t k=H x):∃(g:cw (DataW d×cw MemPlace))(r:M),x.1=.agg (g.map (·.1))/\y g=y q/\∀(p i a:M),q[p]?=H (i,a)->∃h,g[p]?=H h/\DataW.trod e P w b l c r i ((k.drop a).take (P.cellsOf i))=H h:=by
 obtain⟨s,o,rfl⟩:=Al n;obtain⟨g,r,_,rfl,_,j,v⟩:=DataW.trod_struct o u;refine⟨g,r,rfl,by simpa using j,λp i a m=>?_⟩;rw[dP,vM]at m;grind
theorem xz{a:Type}{P:Program}{e:TypeId}:∀{l:cw (DataW a)}{d:DataW a},d∈l->∀n∈d.weights P e,n∈DataW.weightsAll P e l
 |[],_,h,_,_=>by cases h
 |x::r,d,h,n,b=>by
  rw[DataW.weightsAll];rcases bH.1 h with rfl|h
  .grind
  .exact fV _ (xz h n b)
theorem zg{a:Type}{P:Program}{t e:TypeId}(d:P.underlying t=H (.slice e))(b c:cw (DataW a)):(DataW.slice b c).weights P t=(y b+y c)*P.bytesOf e::(DataW.weightsAll P e b++DataW.weightsAll P e c):=by
 rw[DataW.weights,d]
theorem CC{a:Type}{P:Program}{t:TypeId}{l:cw (TypeId×M)}(c:yA P t=H l)(b:cw (DataW a)):(DataW.agg b).weights P t=DataW.weightsEach P (l.map (·.1)) b:=by
 obtain⟨e,d,rfl⟩:=Al c;rw[DataW.weights,d];simp only[iz];rfl
theorem YV:yA bz 44=H [(9,0),(9,1),(4,2)]:=by kernel_rfl
theorem n6:yA bz 29=H [(3,0),(3,1),(3,2),(9,3),(9,4),(27,5)]:=by kernel_rfl
theorem UD:prog.underlying 27=H (.slice 44):=by kernel_rfl
theorem Zg:prog.underlying 22=H (.slice 29):=by kernel_rfl
theorem XC:prog.underlying 9=H .string:=by kernel_rfl
theorem YT:prog.underlying 4=H .bool:=by kernel_rfl
theorem Oh:prog.underlying 3=H (.int .i64):=by kernel_rfl
theorem z8:prog.cellsOf 9=1:=by kernel_rfl
theorem A1:prog.cellsOf 4=1:=by kernel_rfl
theorem E4:prog.cellsOf 3=1:=by kernel_rfl
theorem A0:prog.cellsOf 27=1:=by kernel_rfl
theorem E5:prog.cellsOf 44=3:=by kernel_rfl
theorem G4:prog.cellsOf 29=6:=by kernel_rfl
theorem E7:prog.bytesOf 44=40:=by kernel_rfl
theorem G5:prog.bytesOf 29=80:=by kernel_rfl
theorem zq(l:uP):y (eX l)=y l*3:=by
 induction l with
 |nil=>rfl
 |cons c l b=>
  have e:eX (c::l)=oP c++eX l:=rfl;rw[e,af,b,aS];have:y (oP c)=3:=rfl;omega
theorem Ax(l:cw IU):y (rI l)=y l*6:=by
 induction l with
 |nil=>rfl
 |cons c l b=>
  have e:rI (c::l)=c.cells++rI l:=rfl;rw[e,af,b,aS];have:y c.cells=6:=rfl;omega
theorem qg{b:iC}{k:M}{u:aa}(h:(b.drop k).take 1=[u]):b[k]?=H u:=by
 have c:=bX (λl=>l[0]?) h;grind
section
variable{a:Type}{enc:TypeId×aa->a}
theorem Vw{W:Y}{F:M->Bool}{c:Bool}{b:M}{d:iC}{P:DataW a×cw MemPlace}(Q:DataW.trod enc bz W 0 F c b 44 d=H P):∃h:Qz,d[0]?=H (.string h.key)/\d[1]?=H (.string h.val)/\d[2]?=H (.bool h.del)/\(∀B,(∀O∈P.1.weights bz 44,O<=B)->h.key.size<=B/\h.val.size<=B):=by
 obtain⟨q,O,D,C,f⟩:=CQ YV Q;obtain⟨K,i,n⟩:=f 0 _ _ rfl;obtain⟨L,j,o⟩:=f 1 _ _ rfl;obtain⟨N,k,p⟩:=f 2 _ _ rfl;rw[z8]at n o;rw[A1]at p;obtain⟨l,t,w,_⟩:=qa XC n;obtain⟨m,u,x,_⟩:=qa XC o;obtain⟨E,v,A⟩:=DataW.trod_bool YT p;refine⟨⟨l,m,E⟩,qg t,qg u,qg v,λB e=>?_⟩
 have g:q=[K,L,N]:=by
  match q,C,i,j,k with
  |[r,s,S],_,i,j,k=>
   grind
 rw[D,g,CC YV,w,x,A]at e;simp only[bZ,fW,DataW.weightsEach,DataW.weights,aE,bH,fO,mu]at e;have r:=e (y l.data.toList) (by simp);have s:=e (y m.data.toList) (by simp);rw[jy]at r s;simp_all
theorem SJ{W:Y}{k:M}{ad:aa}{an:DataW a×cw MemPlace}(aq:DataW.trod enc bz W 0 (λ_=>bU) bU k 27 [ad]=H an)(t:∀p∈an.1.weights bz 27,p<=140737488351232):∃h:uP,Xy W ad h/\(∀q∈h,q.key.size<=140737488351232/\q.val.size<=140737488351232)/\y h<=10000000000000:=by
 rcases Go.Deep.open_slice UD aq with⟨g,_⟩|⟨ao,b,L,al,p,F,K,g,_,hl,_,C,N,l⟩;simp only[oR,xh]at g;exact⟨[],.inl ⟨⟨rfl,.inl ⟨g,rfl⟩⟩,λau r=>by rw[g]at r;cases r⟩,by simp,by simp⟩;simp only[oR,xh]at g;simp only[ir]at C;subst g C;by_cases T:b=0;subst T;exact⟨[],.inr ⟨rfl,ao,al,rfl⟩,by simp,by simp⟩;rw[E5]at l;obtain⟨E,c,rfl,X,V⟩:=Lo (Q:=λi h=>DataW.trod enc bz W 0 (λ_=>bU) bU p 44 h=H (F i,K i)) (by omega:0<b) (by omega:0<3) (λi e=>l i (by omega));(have o:∀i,i<b->∃q:Qz,aO W (R E (c+i*3))=H (.string q.key)/\aO W (R E (c+i*3+1))=H (.string q.val)/\aO W (R E (c+i*3+2))=H (.bool q.del)/\(∀B,(∀p∈(F i).weights bz 44,p<=B)->q.key.size<=B/\q.val.size<=B):=by grind[Vw]);have D:Inhabited Qz:=⟨⟨⟨#[]⟩,⟨#[]⟩,aY⟩⟩;obtain⟨w,B⟩:=Go.Deep.choose_lt o;rw[N,zg UD,E7]at t;(have n:b<=10000000000000:=by have:=t _ (ew);grind);have v:∀i,i<b->∀p∈(F i).weights bz 44,p<=140737488351232:=λi e p c=>t p (bI _ (iZ _ (xz (bW.2 ⟨i,nG.2 e,rfl⟩) p c)));(have d:y ((List.range b).map w)=b:=by simp);refine⟨(List.range b).map w,.inl ⟨⟨by rw[zq],.inr ⟨E,c,al,by rw[d],by rw[d];exact hl,λj av f=>?_⟩⟩,λau r=>by cases r;exact X⟩,λq hc=>?_,by rw[d];exact n⟩;(have ac:j<b*3:=by have:=(iD.1 f).1;rw[zq,d]at this;exact this);(have e:j/3<b:=by omega);obtain⟨S,x,A⟩:=kX ((List.range b).map w) (j/3) (by rw[d];exact e);obtain⟨f0,O,P,_⟩:=B (j/3) e;(have m:j%3=0\/j%3=1\/j%3=2:=by omega);(have u:((List.range b).map w)[j/3]'(by rw[d];exact e)=w (j/3):=by simp);rw[u]at S x A;rcases m with m|m|m;(grind);(have s:j=j/3*3+1:=by omega);rw[s]at f|-;rw[x]at f;rw[<-aV,O,f];(have s:j=j/3*3+2:=by omega);rw[s]at f|-;rw[A]at f;rw[<-aV,P,f];obtain⟨i,e,rfl⟩:=bW.1 hc;have m:=nG.1 e;exact(B i m).2.2.2 _ (v i m)
end
section
variable{a:Type}{enc:TypeId×aa->a}
theorem Yb{al:Y}{c:M}{h:iC}{aq:DataW a×cw MemPlace}(ao:DataW.trod enc bz al 0 (λ_=>bU) bU c 29 h=H aq)(d:∀n∈aq.1.weights bz 29,n<=140737488351232):∃o:IU,(∀q,q<6->h[q]?=o.cells[q]?)/\Xy al o.L o.cs/\(o.S.size<=140737488351232/\o.T.size<=140737488351232)/\(∀an∈o.cs,an.key.size<=140737488351232/\an.val.size<=140737488351232)/\y o.cs<=10000000000000:=by
 obtain⟨K,n,hx,hl,b⟩:=CQ n6 ao;obtain⟨y0,r,B⟩:=b 0 _ _ rfl;obtain⟨y1,s,C⟩:=b 1 _ _ rfl;obtain⟨y2,t,D⟩:=b 2 _ _ rfl;obtain⟨y3,u,E⟩:=b 3 _ _ rfl;obtain⟨y4,v,F⟩:=b 4 _ _ rfl;obtain⟨y5,w,f⟩:=b 5 _ _ rfl;rw[E4]at B C D;rw[z8]at E F;rw[A0]at f;obtain⟨s0,N,T,_⟩:=xq Oh B;obtain⟨s1,O,V,_⟩:=xq Oh C;obtain⟨s2,P,W,_⟩:=xq Oh D;obtain⟨x,Q,X,_⟩:=qa XC E;obtain⟨A,S,b4,_⟩:=qa XC F;have hL:∃L,(h.drop 5).take 1=[L]:=by rcases Go.Deep.open_slice UD f with⟨e1,_⟩|⟨av,ad,ac,ax,n,au,Pl,e1,_⟩;(grind);grind
 obtain⟨L,p⟩:=hL;rw[p]at f
 have k:K=[y0,y1,y2,y3,y4,y5]:=by
  match K,hl,r,s,t,u,v,w with
  |[z0,z1,z2,l,m,z5],_,r,s,t,u,v,w=>
   grind
 rw[hx,k,CC n6,T,V,W,X,b4]at d;simp only[bZ,fW,DataW.weightsEach]at d;have l:=d (y x.data.toList) (by simp[DataW.weights]);have m:=d (y A.data.toList) (by simp[DataW.weights]);rw[jy]at l m;obtain⟨g,e,j,i⟩:=SJ f (λn b=>d n (by simp[b]));refine⟨⟨s0,s1,s2,x,A,L,g⟩,λq hj=>?_,e,⟨l,m⟩,j,i⟩;match q,hj with
 |0,_=>exact qg N
 |1,_=>exact qg O
 |2,_=>exact qg P
 |3,_=>exact qg Q
 |4,_=>exact qg S
 |5,_=>exact qg p
 |n+6,ao=>grind
theorem Mh{W:Y}{f:M}{v:aa}{D:DataW a×cw MemPlace}(al:DataW.trod enc bz W 0 (λ_=>bU) bU f 22 [v]=H D)(q:∀n∈D.1.weights bz 22,n<=140737488351232):(∃D C,v=.slice D 0 C)\/∃X,KE W v X:=by
 rcases Go.Deep.open_slice Zg al with⟨i,_⟩|⟨ao,b,F,an,n,ac,E,i,_,V,_,w,K,g⟩;grind
 simp only[oR,xh]at i;simp only[ir]at w;subst i w;by_cases h0:b=0;(grind);right;rw[G4]at g;obtain⟨ad,d,rfl,N,L⟩:=Lo (Q:=λi c=>DataW.trod enc bz W 0 (λ_=>bU) bU n 29 c=H (ac i,E i)) (by omega:0<b) (by omega:0<6) (λi e=>g i (by omega));rw[K,zg Zg,G5]at q;(have h:b<=10000000000000:=by have:=q _ (ew);grind);have P:∀i,i<b->∀n∈(ac i).weights bz 29,n<=140737488351232:=λi e n c=>q n (bI _ (iZ _ (xz (bW.2 ⟨i,nG.2 e,rfl⟩) n c)));(have k:∀i,i<b->∃o:IU,(∀j,j<6->aO W (R ad (d+i*6+j))=o.cells[j]?)/\Xy W o.L o.cs/\(o.S.size<=140737488351232/\o.T.size<=140737488351232)/\(∀C∈o.cs,C.key.size<=140737488351232/\C.val.size<=140737488351232)/\y o.cs<=10000000000000:=by grind[Yb]);have B:Inhabited IU:=⟨⟨0,0,0,⟨#[]⟩,⟨#[]⟩,aD,[]⟩⟩;obtain⟨m,O⟩:=Go.Deep.choose_lt k;(have c:y ((List.range b).map m)=b:=by simp);(have x:∀o∈(List.range b).map m,∃i,i<b/\m i=o:=λo l=>by grind);refine⟨(List.range b).map m,⟨⟨by rw[Ax],.inr ⟨ad,d,an,by rw[c],by rw[c];exact V,λj au u=>?_⟩⟩,λo l=>?_,λaq T=>by cases T;exact N,λo l=>?_,λo l=>?_,by rw[c];exact h,λo l=>?_⟩⟩;(have S:j<b*6:=by have:=(iD.1 u).1;rw[Ax,c]at this;exact this);(have e:j/6<b:=by omega);(have A:j%6<6:=by omega);have p:=qp ((List.range b).map m) (j/6) (by rw[c];exact e) (j%6) A;have t:=(O (j/6) e).1 (j%6) A;(have r:((List.range b).map m)[j/6]'(by rw[c];exact e)=m (j/6):=by simp);rw[r]at p;(have s:j/6*6+j%6=j:=by omega);rw[s]at p;rw[aV,s]at t;rw[t,<-p,u];(grind);(grind);(grind);grind
end
