import Derived.Deep.Slices
import Derived.LaidHandle
import Derived.LaidSub
import Derived.Laws.StructEq
import Derived.Lib.LaidTab
import Derived.Test.YtceammfgahaodaaGreatDoorRows
import Derived.Test.YtceammfgahaodaaGreatDoorC12
import Derived.Test.YtceammfgahaodaaGreatDoorC13
open _root_ renaming List.length→z,Option.some→M,Array.size→G,Go.World.heap→H,Go.Value.ownBlock→bY,Go.World.cell?→aS,Go.World.setCell→ct,Go.World.alloc→cF,Bool.false→bF,Bool.true→bX,Nat→R,Int→Y,List→cD,Go.Calls→cA,Go.Proofs.Tryz.prog→bG,Go.Value.slice→ah,Go.Value.string→aj,Go.Value.bool→aO,Go.Value.pointer→fA,Go.Value.tuple→dE,Go.Value.agg→eB
namespace Go.Proofs.YtceammfgahaodaaGreatDoor
open ChangeShapes WideShapes RowKit Proofs.Tryz
set_option maxHeartbeats 16000000
set_option linter.all false
set_option maxRecDepth 100000
variable{a f B:I}{b c g l y P:R}{d:aa}{e K:cK}{i p r s:cR}{j N:DK}{k:dX}{m D:Y}{n:SR}{X:fN}{x:jd}{C:Bool}{O:bJ}
def RP(next d c:R)(f:cD cR)(h:cU a b j)(hT:Steps a)(bp:¬j.bw b 1)(h4:z f=4)(hn:next<18446744073709551616)(hl:d<next)(bl:c<18446744073709551616)(bq:z f.flatten<=1000000)(ao:∀bT∈f.flatten,bT.oG)(E:(f.flatten.map bJ.num).Nodup)(D:∀bT∈f.flatten,bT.num<next/\bT.num≠d)(hg:ew (vw j.files) gY=M (iM next d c f)):cA bG 93 #[aA b] a λN s=>
 ∃t n i v o c1 w p c2 x r c3,N=aP (dE #[eB #[aL next,aL d,aL c,ah t n i,ah v o c1,ah w p c2,ah x r c3],.nilIface])/\(∀(br:R)(bs:aa)(ax:cR),[ah t n i,ah v o c1,ah w p c2,ah x r c3][br]?=M bs->f[br]?=M ax->s.ownsRow (G<|H a) 266 4 bs (z ax) (du ax))/\∃g,rW a s b j g/\g.files=j.files/\g.eU=j.eU/\∀k,g.bw b k->j.bw b k:=by
 obtain⟨K,l⟩:∃K,cF a (aw #[aL 0,aL 0,aL 0,aG,aG,aG,aG] 187)=K:=⟨_,rfl⟩
 have B:J az a K:=by rw[<-l];exact(cI az a)
 have O:K.heap[G<|H a]?=M (aw #[aL 0,aL 0,aL 0,aG,aG,aG,aG] 187 (0,0)):=by rw[<-l];exact aE _ rfl
 have cj:G (H K)=G (H a)+1:=by rw[<-l];simp
 have al:z (iM next d c f)<=21000100/\0<z (iM next d c f):=by
  have h1:iM next d c f=iJ (le 8 (next:R)++(le 8 (d:R)++(le 8 (c:R)++qu f 0))):=by
   unfold iM qu;simp
  have h2:=Al f 0;rw[h1,gC];simp only[af,cq];omega
 have bc:=Z h.lt
 have A:cA bG 96 #[aA b,aj gY] K λN s=>∃bu L,N=aP (dE #[bE bu 0 (z<|iM next d c f) L,.nilIface])/\s.heap[G<|H a]?=M (aw #[aL 0,aL 0,aL 0,aG,aG,aG,aG] 187 (0,0))/\(∃g,rW a s b j g/\g.files=j.files/\g.eU=j.eU/\∀k,g.bw b k->j.bw b k)/\G (H a)<G (H s)/\cA bG 149 #[bE bu 0 (z<|iM next d c f) L] s λN au=>
  ∃t n i v o c1 w p c2 x r c3,N=aP (dE #[eB #[aL next,aL d,aL c,ah t n i,ah v o c1,ah w p c2,ah x r c3],aO bX])/\
  (∀(br:R)(bs:aa)(ax:cR),[ah t n i,ah v o c1,ah w p c2,ah x r c3][br]?=M bs->f[br]?=M ax->au.ownsRow (G<|H s) 266 4 bs (z ax) (du ax))/\J az s au:=by
  apply(Lg (db:=b) (K:=j) gY _ (w:=K) (h.ay B<|λ_ _=>id) hg<|by omega).mono
  rintro N s⟨v',rfl,ho,g,y,e1,e2,V⟩
  have bn:=ho
  obtain⟨q1,⟨q2,q0⟩|⟨cb,cp,ca,q2,cc,hh,bm,ce,bo⟩⟩:=bn
  .omega
  .subst q2;have bk:Steps s:=Steps.ay (Steps.ay hT B id) y.ay bp;have P:¬j.bw b (G<|H a):=λL=>by have:=h.lt _ L;omega
   refine⟨cb,cp,rfl,(y.ay.block _ (am O) P).trans O,⟨g,⟨y.ok,(B.mono (T:=j.bw b) cN).trans y.ay<|λ_ L=>.inl L,λk L=>.inl<|V k L⟩,e1,e2,V⟩,by have:=y.ay.size;omega,?_⟩;exact Pc cb 0 cp next d c f bk h4 hn hl bl bq ao E D bm (ho.lt cb rfl).2<|eQ.bytes ho
 have ad:=λW=>UP 10 W
 unfold gY at A
 obtain⟨SL,ac⟩:∃SL,z (iM next d c f)=SL:=⟨_,rfl⟩
 rw[ac]at A
 have bi:=Z l
 have ch:∀a:I,(binOp .neq 50 .nilIface .nilIface).run bG a=.ok (aO bF) a:=λ_=>rfl
 have bx:∀(bu:Bool)(a:I),(Op.unary .not<|aO bu).run bG a=.ok (aO<|!bu) a:=λ_ _=>rfl
 clear h hT hg ao E D B O l ac al
 go_in
 go_wp2_with fail
 rw[ae bi]
 apply A.mono
 rintro N w2⟨bu,L,rfl,X,W,an,C⟩
 have bd:=Z X
 have bb:=Z W
 clear X W A
 go_wp2_with fail
 apply(ad _).mono
 rintro N bt⟨rfl,hw⟩
 subst bt
 go_wp2_with fail
 apply C.mono
 rintro N w3⟨t,n,i,v,o,c1,w,p,c2,x,r,c3,rfl,m,S⟩
 have e:=(S.block _ an id).trans bd
 have bv:=am e
 have bh:=Z S
 have bg:=Z m
 have t0:=cellAt e 0 rfl
 have t1:=cellAt e 1 rfl
 have t2:=cellAt e 2 rfl
 have t3:=cellAt e 3 rfl
 have t4:=cellAt e 4 rfl
 have t5:=cellAt e 5 rfl
 have t6:=cellAt e 6 rfl
 have cd:∀ba,w3.frozen? (U (G<|H a) ba)=bF:=λba=>by simp[World.frozen?,e]
 have bf:=Z e
 clear m S e C ad
 go_wp2
 have F:=aT (i:=6) (u:=ah x r c3)<|aT (i:=5) (u:=ah w p c2)<|aT (i:=4) (u:=ah v o c1)<|aT (i:=3) (u:=ah t n i)<|aT (i:=2) (u:=aL c)<|aT (i:=1) (u:=aL d)<|aT (i:=0) (u:=aL next) bf
 have av:=((((((((J.refl (λk=>k=G (H a)) w3).setCell (G<|H a) 0 (aL next)<|.inl rfl).setCell (G<|H a) 1 (aL d)<|.inl rfl).setCell (G<|H a) 2 (aL c)<|.inl rfl).setCell (G<|H a) 3 (ah t n i)<|.inl rfl).setCell (G<|H a) 4 (ah v o c1)<|.inl rfl).setCell (G<|H a) 5 (ah w p c2)<|.inl rfl).setCell (G<|H a) 6 (ah x r c3)<|.inl rfl).alloc<|aw #[aL next,aL d,aL c,ah t n i,ah v o c1,ah w p c2,ah x r c3] 187
 have Q:=(ga (aw #[aL next,aL d,aL c,ah t n i,ah v o c1,ah w p c2,ah x r c3] 187)<|am F).trans F
 refine cO (vW rfl _ _ (G<|H a) next d c _ _ _ _ _ _ rfl Q ⟨_,_,_,rfl⟩ ⟨_,_,_,rfl⟩ ⟨_,_,_,rfl⟩ ⟨_,_,_,rfl⟩) rfl ?_
 refine⟨t,n,i,v,o,c1,w,p,c2,x,r,c3,rfl,?_,?_⟩
 .intro br bs ax hv hD;have hr:=bg br bs ax hv hD;exact eM (av.own hr (λq b N=>by have:=(hr.lt q b).1;have:q=G (H a):=N;omega))<|by omega
 .obtain⟨g,y,e1,e2,V⟩:=ae bb;have au:J (λk=>k=G (H a)) w2 _:=(bh.mono (T:=λk=>k=G (H a)) cN).trans av<|λ_ L=>.inl L;have P:∀k,g.bw b k->k<G (H a):=λk L=>bc k<|V k L;exact⟨g,⟨y.ok.ay au (λk L N=>by have:=P k L;have:k=G (H a):=N;omega),y.ay.trans au<|λk N=>.inr (by have:k=G (H a):=N;omega),y.bw⟩,e1,e2,V⟩
structure Xr(W:I)(db sb:R)(K K2:DK)(u0 u1 u2 u3:aa)(a b c d a' b' c' d':cR):Prop where
 aN:cU W db K2
 same:K2.files=K.files/\K2.eU=K.eU/\∀k,K2.bw db k->K.bw db k
 l0:FL W K2 db sb u0 a'
 l1:FL W K2 db sb u1 b'
 l2:FL W K2 db sb u2 c'
 l3:FL W K2 db sb u3 d'
 k0:lq a a'
 k1:lq b b'
 k2:lq c c'
 k3:lq d d'
 Gg:((a'++b'++c'++d').map bJ.tb).Nodup
def Xr.ay{u0 u1 u2 u3:aa}{r b e s k b' l m:cR}(h:Xr a c g j N u0 u1 u2 u3 r b e s k b' l m)(o:J (λq=>q=g) a B)(p:¬j.bw c g):Xr B c g j N u0 u1 u2 u3 r b e s k b' l m:=by
 have n:=h.aN.ay o<|λc e a=>p<|h.same.2.2 _<|a▸e;have d:gq a B c g N N:=⟨n,o.mono<|λ_ e=>.inl<|.inr e,λ_ e=>.inl e⟩;exact⟨n,h.same,h.l0.fm d<|λ_ _=>rfl,h.l1.fm d<|λ_ _=>rfl,h.l2.fm d<|λ_ _=>rfl,h.l3.fm d<|λ_ _=>rfl,h.k0,h.k1,h.k2,h.k3,h.Gg⟩
def oG.of(h:FC O):O.oG:=by
 refine⟨h.num,by have:=h.small;omega,?_⟩;rw[h.ks];have b:=lB (ks:=bO 0 O.cs)<|λk a=>(h.idx.can k a).fits;have a:=h.idx.len;unfold fp;rw[af,cq];omega
def UC:iU 1=⟨#[108,111,103,45,49]⟩:=by unfold iU;rw[Qf];decide
def pH(j:Row a b d c x):∃l i,d=ah l c i:=by
 obtain⟨k,⟨e,h⟩|⟨m,g,f,e,_⟩⟩:=j;exact⟨none,0,by rw[e,h]⟩;exact⟨_,_,e⟩
def CZ.Ya{o sbqq:R}{K B w:DK}{u0 u1 u2 u3:aa}{C:cD cR}(u:CZ a f o B w b c x [u0,u1,u2,u3] C)(O:pF C=pF [i,p,r,s])(d:B.files=K.files/\B.eU=K.eU/\∀v,B.bw o v->K.bw o v)(ac:sbqq<G (H a))(E:∀t∈i++p++r++s,FC t)(hf:∀t∈i++p++r++s,ew (vw K.files) (gP t.num)=M (mS t.cs)):∃h j k l,Xr f o sbqq K w u0 u1 u2 u3 i p r s h j k l:=by
 have F:=u.DD;obtain⟨h,j,k,l,rfl⟩:∃h j k l,C=[h,j,k,l]:=by rcases C with _|⟨m,_|⟨L,_|⟨T,_|⟨W,_|⟨X,ad⟩⟩⟩⟩⟩<;>simp at F;exact⟨_,_,_,_,rfl⟩
 simp only[pF,aZ,fi,nj,sN]at O;obtain⟨s0,s1,s2,s3⟩:=O;have P:lq i h:=s0;have Q:lq p j:=s1;have S:lq r k:=s2;have V:lq s l:=s3;have N:=u.ord;have q:lq (i++p++r++s) (h++j++k++l):=((P.append Q).append S).append V;have y:=q.Xv E;have g:∀v,c<v->v<G (H f)->Aside f w o sbqq v:=λv e d=>⟨d,λr=>by have:=u.low v<|u.same.2.2 v r;omega,by omega⟩;have A:∀t∈h++j++k++l,rV f o (vw w.files) (Aside f w o sbqq) t:=λt e=>by obtain⟨L,m,D,T,W,X,g4,_⟩:=u.zr t (by simpa using e);obtain⟨q1,q2,q3,q4,q5⟩:=y t e;refine⟨⟨L,0,m,D,g L X g4⟩,g t.tb T W,q1,q5,q2,q3,q4,?_⟩;obtain⟨al,hu,ad⟩:=q.mem e;rw[u.same.1,d.1,<-xB ad,<-Ai ad];exact hf al hu
 have n:∀(L:R)(W:aa)(T:cR),[u0,u1,u2,u3][L]?=M W->[h,j,k,l][L]?=M T->(∀t∈T,t∈h++j++k++l)->FL f w o sbqq W T:=λL W T m X D=>
  ⟨dr<|u.rows L W T m X,λv c=>g v (u.own m c).1 (u.own m c).2,λt e=>A t<|D t e⟩
 refine⟨h,j,k,l,u.aN,⟨u.same.1.trans d.1,u.same.2.1.trans d.2.1,λv r=>d.2.2 v<|u.same.2.2 v r⟩,n 0 _ _ rfl rfl (λt e=>by simp[e]),n 1 _ _ rfl rfl (λt e=>by simp[e]),n 2 _ _ rfl rfl (λt e=>by simp[e]),n 3 _ _ rfl rfl (λt e=>by simp[e]),P,Q,S,V,?_⟩;have:=u.Gg;simpa using this
def RR{nx lg:R}(bf:bM a c n m)(hs:n.aN=b)(an:¬j.bw b c)(e:wW a b j i p r s g y P nx lg C k):cA bG 55 #[aA c] a λx o=>x=aP .nilIface/\∃u0 u1 u2 u3,bM o c (n.tu u0 u1 u2 u3 nx lg y<|decide<|0<z j.files) m/\(∃K L N O Q,Xr o b c j K u0 u1 u2 u3 i p r s L N O Q)/\J (λq=>j.bw b q\/q=c) a o:=by
 subst hs;have t:=e.aN;have V:=am bf;have F:=e.count;have au:nx<18446744073709551616:=by have:=e.nx;have:=e.Kp;omega
 have ba:y<18446744073709551616:=by have:=e.bn;have:=e.Kp;omega
 have al:z j.files<=100000000:=by
  have B:=t.nodup;have f:=yA (l:=(vw j.files).map (·.1)) (m:=gY::iU lg::(i++p++r++s).map (λad=>gP ad.num)) B (λbc T=>by
   obtain⟨bs,w⟩:=rU T;rcases e.rh.names bc bs w with x|⟨x,_⟩|⟨ad,h,x⟩
   .simp[x]
   .simp[x]
   .exact aJ _ (aJ _ (bz.2 ⟨ad,h,x.symm⟩)))
  have e1:z ((vw j.files).map (·.1))=z j.files:=by simp[vw]
  rw[e1]at f;simp only[aC,cV]at f;omega
 refine WM a c n m nx lg y (z j.files) (λo v0 v1 v2 v3=>∃E,cU o n.aN E/\(E.files=j.files/\E.eU=j.eU/\∀q,E.bw n.aN q->j.bw n.aN q)/\J (j.bw n.aN) a o/\∀(D:R)(X:aa)(ac:cR),[v0,v1,v2,v3][D]?=M X->[i,p,r,s][D]?=M ac->Row o 4 X (z ac) (du ac)/\∀q,bY X=M q->G (H a)<=q/\q<G (H o)) (λo u0 u1 u2 u3=>∃K L N O Q,Xr o n.aN c j K u0 u1 u2 u3 i p r s L N O Q) (j.bw n.aN) bf t.lt an ?_ ?_ ?_;rcases e.rh.state with f|⟨f,rfl,rfl,rfl,rfl,rfl,rfl,rfl⟩;apply(RP nx lg y [i,p,r,s] t e.steps e.fC rfl au e.rh.lt ba (by simpa using F) (λad h=>oG.of<|e.rh.jb ad<|by simpa using h) (by simpa using e.rh.zF) (λad h=>e.rh.low ad<|by simpa using h) f).mono;rintro x o⟨x0,T,c0,x1,W,c1,x2,n2,c2,x3,n3,c3,rfl,d,E,B,e1,e2,e3⟩;exact⟨x0,T,c0,x1,W,c1,x2,n2,c2,x3,n3,c3,rfl,⟨E,B.ok,⟨e1,e2,e3⟩,B.ay,λD X ac v S=>⟨dr<|d D X ac v S,λq u=>(d D X ac v S).lt q u⟩⟩,B.ay⟩;refine(RQ t al e.pow (λW T=>?_) f).mono ?_;(have B:W∈(vw j.files).map (·.1):=by simpa[vw]using T);obtain⟨bs,w⟩:=rU B;rcases e.rh.names W bs w with x|⟨x,_⟩|⟨ad,h,x⟩;rw[x,f]at w;cases w;rw[x,UC];simp at h;rintro x o⟨rfl,h⟩;have A:J (j.bw n.aN) a o:=h.mono cN;refine⟨none,0,0,none,0,0,none,0,0,none,0,0,rfl,⟨j,t.ay h<|λ_ _=>id,⟨rfl,rfl,λ_ r=>r⟩,A,λD X ac v S=>?_⟩,A⟩;(have x:X=aG/\ac=[]:=by rcases D with _|_|_|_|D<;>simp at v S<;>exact⟨v.symm,S⟩);rw[x.1,x.2];exact⟨⟨rfl,.inl ⟨rfl,rfl⟩⟩,λq u=>by cases u⟩;rintro W1 bd v0 v1 v2 v3⟨E,ao,f,ax,d⟩B;obtain⟨x0,c0,e0⟩:=pH (d 0 _ _ rfl rfl).1;obtain⟨x1,c1,e1⟩:=pH (d 1 _ _ rfl rfl).1;obtain⟨x2,c2,e2⟩:=pH (d 2 _ _ rfl rfl).1;obtain⟨x3,c3,e3⟩:=pH (d 3 _ _ rfl rfl).1;subst e0 e1 e2 e3;have W:J (j.bw n.aN) a bd:=ax.cw B;refine(Ev (db:=n.aN) (K:=E) [i,p,r,s] x0 x1 x2 x3 _ c0 _ c1 _ c2 _ c3 (ao.ay B<|λ_ _=>id) (Steps.ay e.steps W e.fC) (e.pow.ay W e.mJ) (λq=>e.fC<|f.2.2 _ q) (λq=>e.mJ<|f.2.2 _ q) rfl (λD X bb v T=>B.row (d D X bb v T).1<|λq u=>⟨id,((d D X bb v T).2 q u).2⟩) (λD X v q u=>?_) (λad h=>e.rh.jb ad<|by simpa using h) (λad h=>by rw[f.1];exact e.rh.zr ad<|by simpa using h) (λD bb hj T=>?_)<|by simpa using F).mono ?_;(have hj:∃ac,[i,p,r,s][D]?=M ac:=by rcases D with _|_|_|_|D;exact⟨_,rfl⟩;exact⟨_,rfl⟩;exact⟨_,rfl⟩;exact⟨_,rfl⟩;simp at v);obtain⟨ac,S⟩:=hj;have hh:=(d D X ac v S).2 q u;exact⟨ag hh.2 B.size,λa=>by have:=t.lt q<|f.2.2 q a;omega⟩;rcases D with _|_|_|_|D;omega;cases T;exact e.s1;cases T;exact e.s2;cases T;exact e.s3;simp at T;rintro x o⟨y0,m0,d0,y1,m1,d1,y2,m2,d2,y3,m3,d3,rfl,K,Ts,hI,av⟩;refine⟨y0,m0,d0,y1,m1,d1,y2,m2,d2,y3,m3,d3,rfl,?_,hI.ay.mono<|λq r=>.inl<|f.2.2 q r⟩;obtain⟨L,N,O,Q,u⟩:=hI.Ya (sbqq:=c) (K:=j) av f (ag V W.size) e.rh.jb e.rh.zr;exact⟨K,L,N,O,Q,u⟩;rintro bd u0 u1 u2 u3⟨K,L,N,O,Q,u⟩W' h;have f:=u.ay h an;refine⟨⟨K,L,N,O,Q,f⟩,?_⟩;refine(EP f.aN (by rw[u.same.1];exact al)).mono ?_;rintro x o⟨v',ns,rfl,hp,W,A⟩;obtain⟨bc,B,v⟩:=aB W;(have T:z ns=z j.files:=by have:=hp.length_eq;rw[u.same.1]at this;simpa using this);rw[v,T];exact⟨bc,B,rfl,A⟩
def Es(h:FH ((b:Y)+1) k):lz k=gQ [] k.flatten/\dS (gQ [] k.flatten)/\kr (b+z k:R) (gQ [] k.flatten)=gQ [] k.flatten/\rm 5 (gQ [] k.flatten)/\z (gQ [] k.flatten)<=(k.map z).sum:=by
 obtain⟨c,d,e,a⟩:=Ww h (z k)<|ai _;rw[bP]at c d e a;have g:(b:Y)+1+z k-1=((b+z k:R):Y):=by push_cast;omega
 rw[g]at a;have f:=GW k;rw[<-c];refine⟨rfl,d.mr,a,?_,f⟩;rcases wN k with q|⟨r,l,q⟩;rw[q];exact rm.nil _;rw[q,wO,zB];exact yp (GV r) (by simp) l
def CG{s:SR}{an y A B D:cR}{ad g al nx E:R}(e:wW a b j i p r an ad g al nx E C k)(d:Xr f b c j N s.l0 s.l1 s.l2 s.l3 i p r an y A B D)(n:J (λq=>j.bw b q\/q=c) a f)(W:G (H a)<=c)(F:s.aN=b)(K:s.next=nx)(L:s.log=E)(O:s.gF=C)(m:s.bj=g+z k)(P:s.ir=(k.map z).sum)(Q:s.vP=bF)(V:ku f s.memory (gQ [] k.flatten))(t:∀ao,bY s.memory=M ao->Aside f N b c ao)(h:1<=s.mem/\s.mem<=32/\2<=s.yu/\s.yu<=6)(o:s.kC=bX->s.gF=bX)(w:FK f N c s []):Inv f c s N (gQ [] k.flatten) y A B D ad g al k []:=by
 obtain⟨_,X,p2,p3,p4⟩:=Es e.lp;subst F K L O;have x:vw N.files=vw j.files:=by rw[d.same.1]
 have v:=e.steps.lt;have u:=e.pow.lt;refine{st:=?_,rh:=?_,pr:=?_,lp:=e.lp,mem:=by rw[m];exact p2,Ng:=λac l=>?_,WH:=p4,XC:=p3,oY:=w,TD:=λ_ q=>(by cases q),Be:=m,VE:=P,vP:=Q,Gg:=d.Gg,nx:=e.nx,bn:=by rw[m];exact e.bn,eU:=by rw[d.same.2.1];exact e.eU,Ti:=h,loose:=o,UD:=e.UD,mw:=e.Kp};refine⟨V,t,d.l0,d.l1,d.l2,d.l3,d.aN,λr=>?_,⟨Steps.ay e.steps n (λr=>r.elim e.fC<|λr=>by omega),e.pow.ay n (λr=>r.elim e.mJ<|λr=>by omega),⟨ag v n.size,λr=>e.fC<|d.same.2.2 _ r,by omega⟩,⟨ag u n.size,λr=>e.mJ<|d.same.2.2 _ r,by omega⟩⟩,?_,e.mw,X,?_,d.k1.side e.s1,d.k2.side e.s2,d.k3.side e.s3⟩;have:=e.aN.lt _<|d.same.2.2 _ r;omega;rw[d.k0.cr,d.k1.cr,d.k2.cr,d.k3.cr];exact e.qK;intro ac l;rcases EI l with S|S;simp at S;obtain⟨au,T,l⟩:=bC.1 S;exact e.lp.jb au T ac l;rw[x];exact e.rh.Zh d.k0 d.k1 d.k2 d.k3;rw[lq.bZ d.k0 d.k1 d.k2 d.k3];exact e.pr;rw[m];rcases EI l with q|q;cases q;exact e.lp.wJ ac q
def wW.ay{w w':I}{e b m n:cR}{d:R}(h:wW w c j e b m n g l y P d C k)(a:J az w w'):wW w' c j e b m n g l y P d C k:={h with aN:=h.aN.ay a<|λ_ _=>id,steps:=Steps.ay h.steps a id,pow:=h.pow.ay a id}
def TX(h:k≠[]):0<z (lY m k):=by
 rcases k with _|⟨l,r⟩;exact absurd rfl h;unfold lY Dc;simp only[af,gC,cq];omega
structure yh(w w':I)(db sb:R)(mem yu:Y)(K:DK)(C N:R)(R0:ab->Option ab)(s:SR)(K':DK)(m:cK)(a b c d:cR)(tb:R)(ls:dX):Prop where
 box:bM w' sb s 0
 inv:Inv w' sb s K' m a b c d C tb N ls []
 uA:∀q,fj s.bj (m::bZ a b c d) q=R0 q
 same:s.aN=db/\s.closed=bF/\s.mem=mem/\s.yu=yu/\s.ig=0/\s.mj=M (G (H w)+1)
 fm:gq w w' db sb K K'
 size:G (H w)+4<=G (H w')
 bw:∀k,K'.bw db k->K.bw db k\/G (H w)+4<=k
def FE(w i:I)(h c:R)(e a:Y)(K:DK)(C N:R)(g:ab->Option ab):Prop:=∃s f n j k l m d b,yh w i h c e a K C N g s f n j k l m d b
def yh.step{x v:ab->Option ab}{d:SR}{p:DK}{Q S A V r s c' t:cR}{o i:R}{h:dX}(w:yh a f b c m D j g l x n N e Q S A V o k)(E:bM B c d 0)(C:Inv B c d p K r s c' t y i P h [])(L:∀q,fj d.bj (K::bZ r s c' t) q=v q)(F:d.aN=b/\d.closed=bF/\d.mem=m/\d.yu=D/\d.ig=0/\d.mj=M (G (H a)+1))(u:gq f B b c N p):yh a B b c m D j y P v d p K r s c' t i h:=⟨E,C,L,F,w.fm.trans u,aF w.size u.ay.size,λO A=>(u.bw O A).elim (λq=>w.bw O q)<|λq=>.inr<|aF w.size q⟩
def yh.kept{h:I}{t:ab->Option ab}{o:DK}(v:yh a B b (G (H a)+2) m D j c g t n N e i p r s l k)(u:gq B h b (G (H a)+2) N o)(d:∀w,j.bw b w->w<G (H a)):h.heap[G (H a)+3]?=B.heap[G (H a)+3]?:=u.ay.block _ (by have:=v.size;omega) (λr=>r.elim (λr=>by
 rcases v.bw _ r with q|q
 .have:=d _ q;omega
 .omega) (λr=>by omega))
def Aq{e:Fs}(h:rV a b e X O):Te a O:=by
 obtain⟨g,d,c,f,_⟩:=h.mem;exact⟨h.num,_,_,_,_,_,_,_,_,f⟩
def Rx(h d:Y)(o:wW a b j i p r s c g l y P C k)(ho:1<=h/\h<=32/\2<=d/\d<=6)(hN:l+1<=100000000):cA bG 26 #[aA b,eB #[aq h,aq d]] a λO v=>O=aP (dE #[aA<|G (H a)+2,.nilIface])/\FE a v b (G (H a)+2) h d j c (l+1) (fj (g+z k:R)<|gQ [] k.flatten::bZ i p r s):=by
 have w:=o.aN.lt;have S:¬j.bw b (G (H a)+2):=λq=>by have:=w _ q;omega
 have bo:y<18446744073709551616:=by have:=o.nx;have:=o.Kp;omega
 have bc:P<18446744073709551616:=by have:=o.rh.lt;omega
 have bn:=o.bn;have bl:=o.count;refine WD b h d a ho (λW=>J az a W/\bM W (G (H a)+2) (SR.fresh b h d<|G (H a)+1) 0/\jJ W (G (H a)+1) []/\G (H W)=G (H a)+4) (λW=>∃u0 u1 u2 u3 K B D E F,bM W (G (H a)+2) ((SR.fresh b h d<|G (H a)+1).tu u0 u1 u2 u3 y P g<|decide<|0<z j.files) 0/\Xr W b (G (H a)+2) j K u0 u1 u2 u3 i p r s B D E F/\J (λq=>j.bw b q\/q=G (H a)+2) a W/\jJ W (G (H a)+1) []/\G (H a)+4<=G (H W)) (λW=>∃bg x B D E F,yh a W b (G (H a)+2) h d j c l (fj (g+z k:R)<|gQ [] k.flatten::bZ i p r s) bg x (gQ [] k.flatten) B D E F g k) (λW=>∃bg x B D E F,yh a W b (G (H a)+2) h d j c l (fj (g+z k:R)<|gQ [] k.flatten::bZ i p r s) bg x (gQ [] k.flatten) B D E F g k) (λW=>FE a W b (G (H a)+2) h d j c (l+1)<|fj (g+z k:R)<|gQ [] k.flatten::bZ i p r s) (λW h1 h2 h3 h4=>⟨h1,h2,h3,h4⟩) ?_ ?_ ?_ ?_;rintro W⟨t,hb,ax,bb⟩;apply(RR hb rfl S<|o.ay t).mono;rintro O v⟨rfl,u0,u1,u2,u3,Q,⟨K,B,D,E,F,e⟩,u⟩;have L:=u.size;refine⟨rfl,⟨u0,u1,u2,u3,K,B,D,E,F,Q,e,(t.mono (T:=λq=>j.bw b q\/q=G (H a)+2) cN).trans u<|λ_ q=>.inl q,ax.dq (u.block _ (by omega)<|λq=>q.elim (λq=>by have:=w _ q;omega)<|λq=>by omega),by omega⟩,?_⟩;exact u.block _ (by omega)<|λq=>q.elim (λq=>by have:=w _ q;omega)<|λq=>by omega
 .rintro W⟨u0,u1,u2,u3,K,B,D,E,F,hb,e,t,ax,bb⟩;have bf:vw K.files=vw j.files:=by rw[e.same.1]
  have L:=lq.bZ e.k0 e.k1 e.k2 e.k3;have ba:¬K.bw b (G (H a)+2):=λq=>S<|e.same.2.2 _ q;have au:Pow W:=o.pow.ay t<|λq=>q.elim o.mJ (λq=>by have:=o.pow.lt;omega);have bk:Steps W:=Steps.ay o.steps t<|λq=>q.elim o.fC (λq=>by have:=o.steps.lt;omega);have an:∀v,J (λq=>K.bw b q\/q=G (H a)+2) W v->v.heap[G (H a)+3]?=W.heap[G (H a)+3]?:=λv c=>c.block _ (by omega) (λq=>q.elim (λq=>by have:=w _<|e.same.2.2 _ q;omega)<|λq=>by omega);have av:∀v x,J (λq=>K.bw b q\/q=G (H a)+2) W v->(∀al,x.bw b al->K.bw b al)->jJ v (G (H a)+1) []/\Aside v x b (G (H a)+2) (G (H a)+1):=λv x c hf=>⟨ax.dq (c.block _ (by omega)<|λq=>q.elim (λq=>by have:=w _<|e.same.2.2 _ q;omega)<|λq=>by omega),by have:=c.size;omega,λq=>by have:=w _<|e.same.2.2 _<|hf _ q;omega,by omega⟩;have bd:FK W K (G (H a)+2) ((SR.fresh b h d<|G (H a)+1).tu u0 u1 u2 u3 y P g<|decide<|0<z j.files) []:=⟨⟨G (H a)+1,rfl,av W K (J.refl _ W)<|λ_ q=>q⟩,by simp⟩;cases hlgd:C with
  |false=>
   have ac:=o.rh.Hc hlgd;have ao:ew (vw K.files) (iU P)=none:=by
    rw[bf];rcases hf:ew (vw j.files) (iU P)with _|bs
    .rfl
    .rcases o.rh.names _ _ hf with O|⟨_,O⟩|⟨X,t,O⟩
     .exact absurd O<|sy P
     .rw[hlgd]at O;cases O
     .exact absurd O.symm<|mZ _ _
   apply(Lc hb e.aN au bc ao).mono;rintro O v⟨rfl,u⟩;have ad:=e.ay (u.mono (T:=λq=>q=G (H a)+2) cN) S;have V:=t.cw u;refine⟨rfl,⟨(SR.fresh b h d<|G (H a)+1).tu u0 u1 u2 u3 y P g<|decide<|0<z j.files,K,B,D,E,F,?_⟩,an v<|u.mono cN⟩;have n:=CG (s:=(SR.fresh b h d<|G (H a)+1).tu u0 u1 u2 u3 y P g<|decide<|0<z j.files) o ad V (by omega) rfl rfl rfl hlgd.symm (by rw[ac];rfl) (by rw[ac];rfl) rfl (by rw[ac];exact⟨rfl,.inl ⟨rfl,rfl⟩⟩) (λal q=>by cases q) ho (λq=>by cases q) ⟨⟨G (H a)+1,rfl,av v K (u.mono cN)<|λ_ q=>q⟩,by simp⟩;exact⟨(u.block _ (am hb) id).trans hb,n,λq=>by rw[L,n.Be],⟨rfl,rfl,rfl,rfl,rfl,rfl⟩,⟨ad.aN,V.mono<|λ_ q=>.inl q,λal q=>.inl<|e.same.2.2 al q⟩,aF bb u.size,λal q=>.inl<|e.same.2.2 al q⟩
  |true=>
   have bh:=o.UD hlgd;have bi:z (lY ((g:Y)+1) k)<=200000:=by
    have h1:=ue (f:=(g:Y)+1)<|λbm a=>⟨o.lp.jb bm a,(o.lp.one bm a).2⟩;have h2:=DO<|λbm a=>(o.lp.one bm a).1;have h3:=o.lp.sum;omega
   refine(NR k hb e.aN ba au bk ⟨by have:=o.steps.lt;omega,λq=>o.fC<|e.same.2.2 _ q⟩ bc o.lp (by rw[bf];exact o.rh.log hlgd) (TX bh) bi rfl rfl (by show g<=1000000000;have:=o.Kp;omega) bd).mono ?_;rintro O v⟨rfl,mv,x,Q,ao,N,e1,e2,e3⟩;have ac:∀X:bJ,ew (vw x.files) (gP X.num)=ew (vw K.files) (gP X.num):=λX=>by rw[e1]
   have ad:Xr v b (G (H a)+2) j x u0 u1 u2 u3 i p r s B D E F:=⟨N.ok,⟨e1.trans e.same.1,e2.trans e.same.2.1,λal q=>e.same.2.2 al<|e3 al q⟩,e.l0.fm N<|λX _=>ac X,e.l1.fm N<|λX _=>ac X,e.l2.fm N<|λX _=>ac X,e.l3.fm N<|λX _=>ac X,e.k0,e.k1,e.k2,e.k3,e.Gg⟩;have V:J (λq=>j.bw b q\/q=G (H a)+2) a v:=t.trans N.ay<|λ_ q=>.inl<|q.imp (e.same.2.2 _) id;refine⟨rfl,⟨{((SR.fresh b h d<|G (H a)+1).tu u0 u1 u2 u3 y P g<|decide<|0<z j.files).uB mv (z k) (k.map z).sum with gF:=bX,vP:=bF,kC:=bX},x,B,D,E,F,?_⟩,an v N.ay⟩;have n:=CG (s:={((SR.fresh b h d<|G (H a)+1).tu u0 u1 u2 u3 y P g<|decide<|0<z j.files).uB mv (z k) (k.map z).sum with gF:=bX,vP:=bF,kC:=bX}) o ad V (by omega) rfl rfl rfl hlgd.symm rfl rfl rfl (by rw[<-(Es o.lp).1];exact dr ao) (λal q=>by
    have h1:=ao.lt al q;exact⟨h1.2,λg=>by have:=w _ (e.same.2.2 _ (e3 al g));omega,by omega⟩) ho (λ_=>rfl) ⟨⟨G (H a)+1,rfl,av v x N.ay e3⟩,by simp⟩
   exact⟨Q,n,λq=>by rw[L,n.Be],⟨rfl,rfl,rfl,rfl,rfl,rfl⟩,⟨N.ok,V.mono<|λ_ q=>.inl q,λal q=>.inl<|e.same.2.2 al<|e3 al q⟩,aF bb N.ay.size,λal q=>.inl<|e.same.2.2 al<|e3 al q⟩
 .rintro W⟨bg,K1,B,D,E,F,A⟩;have n:=A.inv;obtain⟨es,ec,em,et,eg⟩:=A.same;subst es;have ac:z K1.files<=100000000:=by
   have ad:=n.st.aN.nodup;have L:=yA (l:=(vw K1.files).map (·.1)) (m:=gY::iU bg.log::(B++D++E++F).map (λX=>gP X.num)) ad (λal hx=>by
    obtain⟨bs,V⟩:=rU hx;rcases n.rh.names al bs V with O|⟨O,_⟩|⟨X,t,O⟩
    .simp[O]
    .simp[O]
    .exact aJ _ (aJ _ (bz.2 ⟨X,t,O.symm⟩)))
   have e1:z ((vw K1.files).map (·.1))=z K1.files:=by simp[vw]
   rw[e1]at L;have:=n.DD;simp only[aC,cV]at L;omega
  refine(Pp B D E F A.box (n.st.YC A.box) (λX t=>?_) n.st.kW.pow (by have:=n.rh.lt;have:=n.nx;have:=n.mw;omega) (by have:=n.DD;omega) n.st.aN n.st.rI (by have:=n.eU;have:=n.mw;omega) ac<|λal hx=>?_).mono ?_
  .rcases ap.1 t with t|t
   .rcases ap.1 t with t|t
    .rcases ap.1 t with t|t
     .exact Aq<|n.st.l0.each X t
     .exact Aq<|n.st.l1.each X t
    .exact Aq<|n.st.l2.each X t
   .exact Aq<|n.st.l3.each X t
  .have L:al∈(vw K1.files).map (·.1):=by simpa[vw]using hx
   obtain⟨bs,V⟩:=rU L;rcases n.rh.names al bs V with O|⟨O,_⟩|ad
   .exact .inl O
   .exact .inr<|.inl O
   .exact .inr<|.inr ad
  .rintro O v⟨rfl,x,N,ef,ad⟩;have L:gq W v bg.aN (G (H a)+2) K1 x:=gq.of N;have Q:bM v (G (H a)+2) bg 0:=(N.ay.block _ (am A.box) n.st.rI).trans A.box;exact⟨rfl,⟨bg,x,B,D,E,F,A.step Q (n.fm (am A.box) L ef (by omega) rfl n.loose) A.uA ⟨rfl,ec,em,et,eg⟩ L⟩,A.kept L w⟩
 rintro W⟨bg,K1,B,D,E,F,A⟩;have n:=A.inv;obtain⟨es,ec,em,et,eg⟩:=A.same;subst es;apply(ND [] A.box n hN).mono;rintro O v⟨rfl,s',x,m',a2,b2,c2,d2,ad,ac,L⟩;obtain⟨g1,g2,g3,g4,g5,g6⟩:=L.same;have V:=L.Be;exact⟨rfl,⟨s',x,m',a2,b2,c2,d2,ad,ac,A.step L.box L.inv (λq=>by rw[V];exact(L.uA _ (.inr rfl) q).trans<|A.uA q) ⟨g1,g2.trans ec,g3.trans em,g4.trans et,g5.trans eg.1,g6.trans eg.2⟩ L.fm⟩,A.kept L.fm w⟩
abbrev LC:=iI×Xp
abbrev PB:=Option R×aa
theorem mO.ay{S:fN}{al w':I}{o:R}{n:Option R}{l:iI}{e:Bool}{X:aa}(V:mO al o n l e X)(p:J S al w')(h1:¬S o)(h2:∀ac,n=M ac->¬S ac):mO w' o n l e X:=by
 obtain⟨⟨v,E,hp,q⟩,k,h⟩:=V;exact⟨⟨v,(p.block o (am E) h1).trans E,p.row hp<|λad V=>⟨h2 ad<|q▸V,h ad<|q▸V⟩,q⟩,k,λac hg=>ag (h ac hg) p.size⟩
def Ka(n:PB)(r:cD pu)(k:R):Prop:=n.1=M k\/bY n.2=M k\/∃x∈r,x.live=bX/\bY x.v=M k
structure Cb(n0:R)(W:I)(o:R)(n:PB)(l:LC)(i:Bool)(r:cD pu):Prop where
 ref:mO W o n.1 l.1 i n.2
 FQ:MX W n.2 r
 own:W.ownsRow n0 118 2 n.2 (z r) (FU r)
 kind:zU W n.2
 abs:r.map pu.abs=l.2
 len:∀x∈r,z x.l<=1000000
 sep:∀k,bY n.2=M k->k≠o/\n.1≠M k/\∀x∈r,x.live=bX->bY x.v≠M k
section
variable{n0 o:R}{W W':I}{n:PB}{l:LC}{i A:Bool}{r:cD pu}{S:fN}
theorem Cb.re{p':Option R}{l':iI}(p:Cb n0 W o n l i r)(E:J S W W')(hr:mO W' o p' l' A n.2)(V:∀k,(bY n.2=M k\/∃x∈r,x.live=bX/\bY x.v=M k)->¬S k)(X:p'=n.1\/∀ac,p'=M ac->G (H W)<=ac):Cb n0 W' o (p',n.2) (l',l.2) A r where
 ref:=hr
 FQ:=⟨E.row p.FQ.row<|λk h=>⟨V k<|.inl h,(p.own.lt k h).2⟩,λx hx X=>⟨E.row (p.FQ.each x hx X).1<|λk h=>⟨V k<|.inr ⟨x,hx,X,h⟩,(p.FQ.each x hx X).2 k h⟩,λac hg=>ag ((p.FQ.each x hx X).2 ac hg) E.size⟩,p.FQ.shape,p.FQ.small⟩
 own:=E.own p.own<|λk h=>V k<|.inl h
 kind:=p.kind.ay E (λk h=>V k<|.inl h)<|λk h=>(p.own.lt k h).2
 abs:=p.abs
 len:=p.len
 sep:=λk h=>⟨(p.sep k h).1,λE=>X.elim (λq=>(p.sep k h).2.1<|q▸E) (λq=>by have:=q k E;have:=(p.own.lt k h).2;omega),(p.sep k h).2.2⟩
theorem Cb.ay(X:Cb n0 W o n l i r)(k:J S W W')(E:¬S o)(h:∀p,Ka n r p->¬S p):Cb n0 W' o n l i r:=X.re k (X.ref.ay k E<|λac V=>h ac<|.inl V) (λp q=>h p<|.inr q)<|.inl rfl
theorem Cb.lt(h:Cb n0 W o n l i r)(k:R)(p:Ka n r k):k<G (H W):=by
 rcases p with q|q|⟨x,V,E,q⟩;exact h.ref.lt k q;exact(h.own.lt k q).2;exact(h.FQ.each x V E).2 k q
end
def Stood(W:I)(db sbqq:R)(s:SR)(K:DK)(m:cK)(a b c d:cR)(C tbqq N:R)(lsqq:dX)(sn:fw):Bool->Prop
 |true=>s.closed=bX/\∃p k h,wW W db K a b c d C tbqq N p k h lsqq
 |false=>s.closed=bF/\s.aN=db/\Inv W sbqq s K m a b c d C tbqq N lsqq sn
theorem Inv.laid{p:I}{sbqq:R}{s:SR}{K:DK}{m:cK}{a b c d:cR}{C tbqq N:R}{lsqq:dX}{sn:fw}(h:Inv p sbqq s K m a b c d C tbqq N lsqq sn):wW p s.aN K a b c d C tbqq N s.next s.log s.gF lsqq where
 aN:=h.st.aN
 rh:=h.rh
 pr:=h.pr
 lp:=h.lp
 qK:=by
  have k:z (kr s.bj m)<=z m:=aF (zO _ _).length_le<|fB _ _;rw[h.mem]at k;have:=h.st.qK;omega
 mw:=h.st.mw
 s1:=h.st.s1
 s2:=h.st.s2
 s3:=h.st.s3
 UD:=h.UD
 nx:=h.nx
 bn:=by rw[<-h.Be];exact h.bn
 eU:=h.eU
 Kp:=h.mw
 steps:=h.st.kW.steps
 pow:=h.st.kW.pow
 fC:=h.st.kW.fC.bw
 mJ:=h.st.kW.mJ.bw
theorem Stood.aN{W:I}{db sbqq:R}{s:SR}{K:DK}{m:cK}{a b c d:cR}{C tbqq N:R}{lsqq:dX}{sn:fw}{e:Bool}(h:Stood W db sbqq s K m a b c d C tbqq N lsqq sn e):cU W db K:=by
 cases e with
 |true=>obtain⟨_,_,_,_,h⟩:=h;exact h.aN
 |false=>obtain⟨_,rfl,h⟩:=h;exact h.st.aN
theorem wW.again{al X:I}{db p:R}{K L:DK}{a b c d:cR}{C tbqq N nx lg:R}{k:Bool}{lsqq:dX}(h:wW al db K a b c d C tbqq N nx lg k lsqq)(hd:cU X p L)(V:∀ac,ew (vw L.files) ac=ew (vw K.files) ac)(hm:z L.eU<=z K.eU)(hs:Steps X)(hp:Pow X)(h1:¬L.bw p 1)(h2:¬L.bw p 2):wW X p L a b c d C tbqq N nx lg k lsqq:={h with
 aN:=hd
 rh:=by
  have E:=h.rh;exact⟨λac bs q=>E.names ac bs (by rw[<-V];exact q),by rw[V];exact E.state,λq=>by rw[V];exact E.log q,E.Hc,λad ht=>by rw[V];exact E.zr ad ht,E.zF,E.low,E.lt,E.jb⟩
 eU:=aF hm h.eU
 steps:=hs
 pow:=hp
 fC:=h1
 mJ:=h2}
structure FJ(W:I)(K:DK)(db sb:R)(s:SR)(k:R):Prop extends Aside W K db sb k where
 oY:s.mj≠M k
structure Xs(W W':I)(db sb:R)(s:SR)(K L:DK):Prop where
 ok:cU W' db L
 ay:J (λk=>(K.bw db k\/k=sb)\/s.mj=M k) W W'
 bw:∀k,L.bw db k->K.bw db k\/G (H W)<=k
def YQ(W:I)(x:R):Prop:=∃h X V,W.heap[x]?=M (aw h X V)/\X≠293/\((∀al,Value.string al∉h.toList)\/∀ac ad,Value.int ac ad∉h.toList)/\∀q,Value.pointer (M<|U q 0)∈h.toList->∃k E p,W.heap[q]?=M (aw k E p)/\E≠293
def Qn(s:SR)(m:cK)(a b c d:cR)(w:Zs)(h:Xp):Prop:=ub w=h/\s.ig=z w/\∀x,M x∈w->vF ((m::bZ a b c d).map<|kr (x.1:Y)) x.2
structure LW(u W:I)(t db sb o:R)(n:PB)(mem yu:Y)(j g:aa)(lo:iI)(O:cD (R×Obj))(s:SR)(K:DK)(m:cK)(a b c d:cR)(C tb N:R)(ls:dX)(w:Zs)(r:cD pu)(y:LC)(closed:Bool)(l:LC)(i:Bool):Prop where
 box:W.heap[t]?=M (aw #[aA db,aA sb,aA o,aq mem,aq yu,j,g] 40 (0,0))
 ref:Cb (G<|H u) W o n l i r
 tM:bM W sb s 0
 uM:Stood W db sb s K m a b c d C tb N ls (iR 1 w) closed
 yU:vF (gQ [] ls.flatten::(bZ a b c d).map (kr ((tb+z ls:R):Y))) y.1
 oY:closed=bF->Qn s m a b c d w y.2
 num:z w<=N/\z l.2<=N
 len:z y.1<=C
 mw:C<=1000000
 By:jq W j lo
 uZ:jq W g lo
 WK:z lo<=1000000
 ay:J az u W
 low:(∀k,K.bw db k->G (H u)<=k)/\G (H u)<=sb/\G (H u)<=o/\G (H u)<=t
 zL:∀k,s.mj=M k->G (H u)<=k/\k<G (H W)
 rI:¬K.bw db sb
 Dj:FJ W K db sb s t
 GR:FJ W K db sb s o
 yR:∀k,Ka n r k->FJ W K db sb s k/\k≠t/\k≠o
 oE:∀k,bY j=M k->FJ W K db sb s k/\k≠t/\k≠o/\bY n.2≠M k
 kU:∀k,bY g=M k->FJ W K db sb s k/\k≠t/\k≠o/\bY n.2≠M k
 obj:∀p∈O,W.heap[p.1]?=M p.2/\FJ W K db sb s p.1/\p.1≠t/\p.1≠o/\¬Ka n r p.1
 ne:t≠o
 g0:Steps u/\Pow u/\pU u
section
variable{u W W':I}{t db sbqq o x:R}{n P:PB}{mem f Q T:Y}{j g F D:aa}{lo lo':iI}{O:cD (R×Obj)}{s s':SR}{K L:DK}{m m':cK}{a b c d a' b' c' d':cR}{C C' tbqq tb' N N':R}{lsqq ls':dX}{w zs':Zs}{r ss':cD pu}{l l' y lc':LC}{i A e B:Bool}
theorem gq.dm(h:gq W W' db sbqq K L):Xs W W' db sbqq s K L:=⟨h.ok,h.ay.mono<|λ_ q=>.inl<|.inl q,h.bw⟩
theorem Aside.grow{p:R}(h:Aside W K db sbqq p)(k:G (H W)<=G (H W')):Aside W' K db sbqq p:=⟨ag h.lt k,h.bw,h.ne⟩
theorem FJ.grow{p:R}(k:FJ W K db sbqq s p)(h:G (H W)<=G (H W')):FJ W' K db sbqq s p:=⟨k.toAside.grow h,k.oY⟩
theorem FJ.Pb{k:R}(h:FJ W K db sbqq s k)(p:Xs W W' db sbqq s K L)(q:∀k,s'.mj=M k->s.mj=M k):FJ W' L db sbqq s' k:=⟨⟨ag h.lt p.ay.size,λc=>(p.bw k c).elim h.bw (λd=>by have:=h.lt;omega),h.ne⟩,λE=>h.oY<|q k E⟩
theorem FJ.off{k:R}(h:FJ W K db sbqq s k)(c:(K.bw db k\/k=sbqq)\/s.mj=M k):False:=c.elim (λc=>c.elim h.bw h.ne) h.oY
theorem FJ.block{k:R}(q:FJ W K db sbqq s k)(h:Xs W W' db sbqq s K L):W'.heap[k]?=W.heap[k]?:=h.ay.block k q.lt q.off
theorem LW.wT(h:LW u W t db sbqq o n mem f j g lo O s K m a b c d C tbqq N lsqq w r y e l i):pU W:=h.g0.2.2.ay h.ay id
theorem LW.Zm(h:LW u W t db sbqq o n mem f j g lo O s K m a b c d C tbqq N lsqq w r y e l i):0≠sbqq/\¬K.bw db 0:=by
 have k:0<G (H u):=dj _ _ h.g0.2.2;exact⟨by have:=h.low.2.1;omega,λc=>by have:=h.low.1 _ c;omega⟩
theorem LW.Pb(h:LW u W t db sbqq o n mem f j g lo O s K m a b c d C tbqq N lsqq w r y e l i)(E:Xs W W' db sbqq s K L)(k:∀V,s'.mj=M V->s.mj=M V)(hb:bM W' sbqq s' 0)(hs:Stood W' db sbqq s' L m' a' b' c' d' C' tb' N' ls' (iR 1 zs') B)(hc:vF (gQ [] ls'.flatten::(bZ a' b' c' d').map (kr ((tb'+z ls':R):Y))) lc'.1)(ac:B=bF->Qn s' m' a' b' c' d' zs' lc'.2)(hN:z zs'<=N'/\N<=N')(hC:z lc'.1<=C')(X:C'<=1000000):LW u W' t db sbqq o n mem f j g lo O s' L m' a' b' c' d' C' tb' N' ls' zs' r lc' B l i where
 box:=(h.Dj.block E).trans h.box
 ref:=h.ref.ay E.ay h.GR.off<|λV p=>(h.yR V p).1.off
 tM:=hb
 uM:=hs
 yU:=hc
 oY:=ac
 num:=⟨hN.1,aF h.num.2 hN.2⟩
 len:=hC
 mw:=X
 By:=E.ay.row h.By<|λV p=>⟨(h.oE V p).1.off,(h.oE V p).1.lt⟩
 uZ:=E.ay.row h.uZ<|λV p=>⟨(h.kU V p).1.off,(h.kU V p).1.lt⟩
 WK:=h.WK
 ay:=h.ay.trans E.ay<|λV q=>.inr<|q.elim (λq=>q.elim (h.low.1 V) (λk=>by have:=h.low.2.1;omega))<|λk=>(h.zL V k).1
 low:=⟨λV q=>(E.bw V q).elim (h.low.1 V)<|λad=>aF h.ay.size ad,h.low.2⟩
 zL:=λV q=>⟨(h.zL V<|k V q).1,ag (h.zL V<|k V q).2 E.ay.size⟩
 rI:=λq=>(E.bw sbqq q).elim h.rI (λad=>by have:=am h.tM;omega)
 Dj:=h.Dj.Pb E k
 GR:=h.GR.Pb E k
 yR:=λV p=>⟨(h.yR V p).1.Pb E k,(h.yR V p).2⟩
 oE:=λV p=>⟨(h.oE V p).1.Pb E k,(h.oE V p).2⟩
 kU:=λV p=>⟨(h.kU V p).1.Pb E k,(h.kU V p).2⟩
 obj:=λX V=>⟨((h.obj X V).2.1.block E).trans (h.obj X V).1,(h.obj X V).2.1.Pb E k,(h.obj X V).2.2⟩
 ne:=h.ne
 g0:=h.g0
end
theorem GO{S:fN}{ao w':I}{h bb:R}{v:aa}{p:jd}(ht:J S ao w')(hr:Row ao h v bb p)(hl:∀ba,bY v=M ba->ba<G (H ao))(ad:0<z p->∀x,S x->∃V bc fr,ao.heap[x]?=M (aw V bc fr)/\∃(av:R)(an:aa),p[av]?=M an/\an∉V.toList):Row w' h v bb p:=by
 obtain⟨q1,⟨q,q0⟩|⟨al,k,E,q,ac,hc⟩⟩:=hr;exact⟨q1,.inl ⟨q,q0⟩⟩;refine⟨q1,.inr ⟨al,k,E,q,ac,λax an X=>?_⟩⟩;(have hg:¬S al:=by intro hs;(have au:ax<z p:=by rcases dK ax (z p)with c|c;exact c;rw[dy c]at X;cases X);obtain⟨V,bc,fr,hx,av,u',hi,hu⟩:=ad (by omega) al hs;have:=hc av u' hi;rw[bL hx]at this;exact hu<|by simpa using ny this);exact ht.cell (hc ax an X) hg<|hl al (by rw[q];rfl)
theorem SH{m:cK}{k:Array aa}(h:(∀p,Value.string p∉k.toList)\/∀ac ad,Value.int ac ad∉k.toList)(q:0<z (aH m)):∃(X:R)(p:aa),(aH m)[X]?=M p/\p∉k.toList:=by
 rcases m with _|⟨V,m⟩;simp[aH]at q;rcases h with h|h;exact⟨0,aj V.key,by simp[aH,E.cells],h _⟩;exact⟨3,aL V.bK,by simp[aH,E.cells],h _ _⟩
theorem Rm{ts:cR}{h:Array aa}(q:∀k∈ts,k.ptr∉h.toList)(p:0<z (ts.map bJ.ptr)):∃(V:R)(E:aa),(ts.map bJ.ptr)[V]?=M E/\E∉h.toList:=by
 rcases ts with _|⟨k,ts⟩;simp at p;exact⟨0,k.ptr,by simp,q k<|by simp⟩
theorem Nt{S:fN}{au w':I}{tbqq:R}{dv:aa}{k cut p an:Y}{X V h:R}{ac:aa}{q:mU}(ao:mh au tbqq dv k cut p an X V h ac q)(ht:J S au w')(hS:∀x,S x->YQ au x):mh w' tbqq dv k cut p an X V h ac q:=by
 have ad:¬S tbqq:=λE=>by obtain⟨cs,ax,fr,hx,h1,_⟩:=hS tbqq E;exact iA ao.box hx (λq=>h1 q.symm) rfl
 have hk:=ao.ne;have h3:(eD q)[3]?=M (aj (q[0]'hk).first):=by rcases q with _|⟨av,q⟩;simp at hk;simp[eD,rq.cells]
 have al:¬S X:=λE=>by obtain⟨cs,ax,fr,hx,_,E,_⟩:=hS X E;(have h0:(eD q)[0]?=M (aq (q[0]'hk).pos):=by rcases q with _|⟨av,q⟩;simp at hk;simp[eD,rq.cells]);rcases E with E|E;have:=ao.cells 3 _ h3;rw[bL hx]at this;exact E _ (by simpa using ny this);have:=ao.cells 0 _ h0;rw[bL hx]at this;exact E _ _<|by simpa using ny this
 exact ao.dq (ht.block tbqq (am ao.box) ad)<|ht.block X (dj _ _<|ao.cells 3 _ h3) al
section
variable{u W W':I}{t db sbqq o x:R}{n P:PB}{mem f Q T:Y}{j g F D:aa}{lo lo':iI}{O:cD (R×Obj)}{s s':SR}{K L:DK}{m m':cK}{a b c d a' b' c' d':cR}{C C' tbqq tb' N N':R}{lsqq ls':dX}{w zs':Zs}{r ss':cD pu}{l l' y lc':LC}{i A e B:Bool}{S:fN}{v:aa}{ts:cR}{sn:fw}
theorem FL.sd(ac:FL W K db sbqq v ts)(q:J S W W')(hS:∀x,S x->YQ W x):FL W' K db sbqq v ts where
 row:=GO q ac.row (λan E=>(ac.loc an E).lt) (λhj x hs=>by
  obtain⟨cs,ao,fr,hx,_,_,hp⟩:=hS x hs;exact⟨cs,ao,fr,hx,Rm (λt0 p c=>by
   obtain⟨bb,k,h,V,_⟩:=(ac.each t0 p).mem;obtain⟨ad,t',al,hq,X⟩:=hp _ c;exact iA V.box hq (λh=>X h.symm) rfl) hj⟩)
 loc:=λan E=>(ac.loc an E).grow q.size
 each:=λt0 p=>by
  obtain⟨⟨bb,k,h,V,X⟩,q2,q3,q4,q5,q6,q7,q8⟩:=ac.each t0 p;exact⟨⟨bb,k,h,Nt V q hS,X.grow q.size⟩,q2.grow q.size,q3,q4,q5,q6,q7,q8⟩
theorem Inv.sd(h:Inv W sbqq s K m a b c d C tbqq N lsqq sn)(k:J S W W')(hA:∀x,S x->Aside W K s.aN sbqq x)(p:∀x,S x->YQ W x)(hg:¬S 1/\¬S 2):Inv W' sbqq s K m a b c d C tbqq N lsqq sn:={h with
 st:={h.st with
  mem:=GO k h.st.mem (λV q=>(h.st.tr V q).lt) (λhj x hs=>by
   obtain⟨X,ad,fr,E,_,q,_⟩:=p x hs;exact⟨X,ad,fr,E,SH q hj⟩)
  tr:=λV q=>(h.st.tr V q).grow k.size
  l0:=h.st.l0.sd k p
  l1:=h.st.l1.sd k p
  l2:=h.st.l2.sd k p
  l3:=h.st.l3.sd k p
  aN:=h.st.aN.ay k<|λV c ac=>(hA V ac).bw c
  kW:=⟨Steps.ay h.st.kW.steps k hg.1,h.st.kW.pow.ay k hg.2,h.st.kW.fC.grow k.size,h.st.kW.mJ.grow k.size⟩}
 oY:=by
  obtain⟨b,h1,V,h3⟩:=h.oY.ex;refine⟨⟨b,h1,V.dq (k.block b V.lt (λac=>?_)),h3.grow k.size⟩,h.oY.len⟩;obtain⟨X,ad,fr,E,_⟩:=p b ac;obtain⟨es,q,hh,_⟩:=V;rw[hh]at E;cases E}
theorem Stood.sd(ac:Stood W db sbqq s K m a b c d C tbqq N lsqq sn e)(k:J S W W')(E:∀x,S x->Aside W K db sbqq x)(V:∀x,S x->YQ W x)(p:¬S 1/\¬S 2):Stood W' db sbqq s K m a b c d C tbqq N lsqq sn e:=by
 cases e with
 |true=>
  obtain⟨q,nx,X,h,hL⟩:=ac;exact⟨q,nx,X,h,{hL with aN:=hL.aN.ay k<|λV c q=>(E V q).bw c,steps:=Steps.ay hL.steps k p.1,pow:=hL.pow.ay k p.2}⟩
 |false=>
  obtain⟨q,rfl,h⟩:=ac;exact⟨q,rfl,h.sd k E V p⟩
theorem LW.still(h:LW u W t db sbqq o n mem f j g lo O s K m a b c d C tbqq N lsqq w r y e l i)(k:J az W W'):LW u W' t db sbqq o n mem f j g lo O s K m a b c d C tbqq N lsqq w r y e l i:=by
 have V:=h.uM.aN;have p:gq W W' db sbqq K K:=pq V k;have E:bM W' sbqq s 0:=(k.block sbqq (am h.tM) id).trans h.tM;exact h.Pb p.dm (λ_ q=>q) E (h.uM.sd k cN cN ⟨id,id⟩) h.yU h.oY ⟨h.num.1,ai _⟩ h.len h.mw
theorem LW.kW(k:LW u W t db sbqq o n mem f j g lo O s K m a b c d C tbqq N lsqq w r y e l i)(h:∀x,S x->G (H u)<=x):¬S 1/\¬S 2:=by
 have p:=k.g0.1.lt;have E:=k.g0.2.1.lt;exact⟨λq=>by have:=h _ q;omega,λq=>by have:=h _ q;omega⟩
theorem Cb.Zx{n0:R}(ac:Cb n0 W o n l i r)(p:x=o\/bY n.2=M x):YQ W x:=by
 rcases p with rfl|p;obtain⟨⟨v,hh,hp,hv⟩,_,_⟩:=ac.ref;have k:=hp.shape;obtain⟨sx,sc,X⟩:=aB ac.own;rw[X]at hh;refine⟨_,_,_,hh,by decide,.inl λal q=>?_,λq V=>?_⟩;rcases k with rfl|⟨h,o0,E,rfl⟩<;>simp at q;rcases k with rfl|⟨h,o0,E,rfl⟩<;>simp at V;obtain⟨ad,X⟩:=fK ac.own p;have hk:=ac.kind _ _ _ _ p X;refine⟨_,_,_,X,by decide,.inl λal q=>?_,λq V=>?_⟩;rcases hk _ q with⟨h,k⟩|⟨a0,h,E,k⟩<;>cases k;rcases hk _ V with⟨h,k⟩|⟨a0,h,E,k⟩<;>cases k
theorem LW.refs(h:LW u W t db sbqq o n mem f j g lo O s K m a b c d C tbqq N lsqq w r y e l i)(E:J (λk=>k=o\/bY n.2=M k) W W')(hr:Cb (G<|H u) W' o P l' A ss')(hB:∀k,Ka P ss' k->Ka n r k\/G (H W)<=k)(hV:∀k,bY P.2=M k->bY n.2=M k\/G (H W)<=k)(hN:z l'.2<=N):LW u W' t db sbqq o P mem f j g lo O s K m a b c d C tbqq N lsqq w ss' y e l' A:=by
 have al:=h.Dj.lt;have au:=h.GR.lt;have ad:=am h.tM;have X:∀k,bY n.2=M k->Ka n r k:=λk q=>.inr<|.inl q;have V:∀k,(k=o\/bY n.2=M k)->FJ W K db sbqq s k/\k≠t/\G (H u)<=k:=λk q=>by rcases q with rfl|q;exact⟨h.GR,λao=>h.ne ao.symm,h.low.2.2.1⟩;exact⟨(h.yR k<|X k q).1,(h.yR k<|X k q).2.1,(h.ref.own.lt k q).1⟩
 have ac:∀k,k<G (H W)->bY n.2≠M k->bY P.2≠M k:=λk p h ao=>(hV k ao).elim h (λq=>by omega);refine⟨(E.block t al<|λq=>(V t q).2.1 rfl).trans h.box,hr,(E.block sbqq ad<|λq=>(V sbqq q).1.ne rfl).trans h.tM,h.uM.sd E (λk q=>(V k q).1.toAside) (λk q=>h.ref.Zx q)<|h.kW<|λk q=>(V k q).2.2,h.yU,h.oY,⟨h.num.1,hN⟩,h.len,h.mw,E.row h.By<|λk p=>⟨λq=>q.elim (h.oE k p).2.2.1 (h.oE k p).2.2.2,(h.oE k p).1.lt⟩,E.row h.uZ<|λk p=>⟨λq=>q.elim (h.kU k p).2.2.1 (h.kU k p).2.2.2,(h.kU k p).1.lt⟩,h.WK,h.ay.trans E<|λk q=>.inr (V k q).2.2,h.low,λk q=>⟨(h.zL k q).1,ag (h.zL k q).2 E.size⟩,h.rI,h.Dj.grow E.size,h.GR.grow E.size,λk p=>?_,λk p=>⟨(h.oE k p).1.grow E.size,(h.oE k p).2.1,(h.oE k p).2.2.1,ac k (h.oE k p).1.lt (h.oE k p).2.2.2⟩,λk p=>⟨(h.kU k p).1.grow E.size,(h.kU k p).2.1,(h.kU k p).2.2.1,ac k (h.kU k p).1.lt (h.kU k p).2.2.2⟩,λav hp=>?_,h.ne,h.g0⟩;rcases hB k p with q|q;exact⟨(h.yR k q).1.grow E.size,(h.yR k q).2⟩;exact⟨⟨⟨hr.lt k p,λc=>by have:=h.uM.aN.lt k c;omega,by omega⟩,λao=>by have:=(h.zL k ao).2;omega⟩,by omega,by omega⟩;obtain⟨q1,q2,q3,q4,q5⟩:=h.obj av hp;have an:=q2.lt;exact⟨(E.block _ an<|λq=>q.elim q4<|λq=>q5<|X _ q).trans q1,q2.grow E.size,q3,q4,λq=>(hB _ q).elim q5<|λq=>by omega⟩
theorem LW.Ld{k:Option R}{V:iI}(X:LW u W t db sbqq o n mem f j g lo O s K m a b c d C tbqq N lsqq w r y e l i)(hg:W.grownBy W' (M o))(hr:mO W' o k V A n.2)(h:k=n.1\/∀ad,k=M ad->G (H W)<=ad):LW u W' t db sbqq o (k,n.2) mem f j g lo O s K m a b c d C tbqq N lsqq w r y e (V,l.2) A:=by
 have E:J (λp=>p=o) W W':=fy hg;refine X.refs (E.mono<|λ_ q=>.inl<|.inl q) (X.ref.re E hr (λp q=>(X.yR p<|.inr q).2.2) h) (λp q=>?_) (λp q=>.inl q) X.num.2;rcases q with q|q;rcases h with ac|ac;exact .inl<|.inl<|ac▸q;exact .inr<|ac p q;exact .inl<|.inr q
theorem LW.Zp(h:LW u W t db sbqq o n mem f j g lo O s K m a b c d C tbqq N lsqq w r y e l i)(p:J (λk=>k=t) W W')(hb:W'.heap[t]?=M (aw #[aA db,aA sbqq,aA o,aq Q,aq T,F,D] 40 (0,0)))(ho:jq W' F lo')(hw:jq W' D lo')(ad:z lo'<=1000000)(al:∀k,bY F=M k->FJ W' K db sbqq s k/\k≠t/\k≠o/\bY n.2≠M k)(av:∀k,bY D=M k->FJ W' K db sbqq s k/\k≠t/\k≠o/\bY n.2≠M k):LW u W' t db sbqq o n Q T F D lo' O s K m a b c d C tbqq N lsqq w r y e l i:=by
 have X:=am h.tM;refine⟨hb,h.ref.ay p (λE=>h.ne E.symm)<|λba hg E=>(h.yR ba hg).2.1 E,(p.block sbqq X<|λE=>h.Dj.ne E.symm).trans h.tM,?_,h.yU,h.oY,h.num,h.len,h.mw,ho,hw,ad,h.ay.trans p<|λk E=>.inr (by have:=h.low.2.2.2;have:k=t:=E;omega),h.low,λk q=>⟨(h.zL k q).1,ag (h.zL k q).2 p.size⟩,h.rI,h.Dj.grow p.size,h.GR.grow p.size,λk hk=>⟨(h.yR k hk).1.grow p.size,(h.yR k hk).2⟩,al,av,λax V=>⟨(p.block _ (h.obj ax V).2.1.lt (h.obj ax V).2.2.1).trans (h.obj ax V).1,(h.obj ax V).2.1.grow p.size,(h.obj ax V).2.2⟩,h.ne,h.g0⟩;have s1:=h.By.shape;have s2:=h.uZ.shape;have ao:=h.ref.ref;obtain⟨⟨v,hh,_,_⟩,_,_⟩:=ao;have ac:=h.uM.aN.iN;have au:=h.tM;refine h.uM.sd p (λk E=>by have e':k=t:=E;rw[e'];exact h.Dj.toAside) (λk E=>?_)<|h.kW (λk E=>by have:=h.low.2.2.2;have:k=t:=E;omega);have e':k=t:=E;subst e';refine⟨_,_,_,h.box,by decide,.inl λbb q=>?_,λq hq=>?_⟩;rcases s1 with rfl|⟨b0,o0,c0,rfl⟩<;>rcases s2 with rfl|⟨b1,o1,c1,rfl⟩<;>simp at q;(have an:q=db\/q=sbqq\/q=o:=by rcases s1 with rfl|⟨b0,o0,c0,rfl⟩<;>rcases s2 with rfl|⟨b1,o1,c1,rfl⟩<;>simpa using hq);rcases an with rfl|rfl|rfl;exact⟨_,_,_,ac,by decide⟩;exact⟨_,_,_,au,by decide⟩;exact⟨_,_,_,hh,by decide⟩
end
def jg(u W:I)(t db sbqq o:R)(n:PB)(mem f:Y)(j g:aa)(lo:iI)(O:cD (R×Obj))(C N:R)(y:LC)(e:Bool)(l:LC)(i:Bool):Prop:=∃s K m a b c d tbqq lsqq w r,LW u W t db sbqq o n mem f j g lo O s K m a b c d C tbqq N lsqq w r y e l i
section
variable{u W W':I}{t db sbqq o x:R}{n P:PB}{mem f Q T:Y}{j g F D:aa}{lo lo':iI}{O:cD (R×Obj)}{C C' N N':R}{l l' y lc':LC}{i A e:Bool}
theorem jg.still(h:jg u W t db sbqq o n mem f j g lo O C N y e l i)(k:J az W W'):jg u W' t db sbqq o n mem f j g lo O C N y e l i:=by
 obtain⟨s,K,m,a,b,c,d,tbqq,lsqq,w,r,h⟩:=h;exact⟨s,K,m,a,b,c,d,tbqq,lsqq,w,r,h.still k⟩
theorem jg.Ld{h:Option R}{p:iI}(q:jg u W t db sbqq o n mem f j g lo O C N y e l i)(E:W.grownBy W' (M o))(V:mO W' o h p A n.2)(k:h=n.1\/∀X,h=M X->G (H W)<=X):jg u W' t db sbqq o (h,n.2) mem f j g lo O C N y e (p,l.2) A:=by
 obtain⟨s,K,m,a,b,c,d,tbqq,lsqq,w,r,q⟩:=q;exact⟨s,K,m,a,b,c,d,tbqq,lsqq,w,r,q.Ld E V k⟩
theorem jg.box(h:jg u W t db sbqq o n mem f j g lo O C N y e l i):W.heap[t]?=M (aw #[aA db,aA sbqq,aA o,aq mem,aq f,j,g] 40 (0,0)):=by
 obtain⟨s,K,m,a,b,c,d,tbqq,lsqq,w,r,h⟩:=h;exact h.box
theorem jg.obj(h:jg u W t db sbqq o n mem f j g lo O C N y e l i){p:R×Obj}(k:p∈O):W.heap[p.1]?=M p.2:=by
 obtain⟨s,K,m,a,b,c,d,tbqq,lsqq,w,r,h⟩:=h;exact(h.obj p k).1
theorem jg.add(h:jg u W t db sbqq o n mem f j g lo O C N y e l i)(V:J az W W'){k:R}{X:Obj}(hk:G (H W)<=k)(E:W'.heap[k]?=M X):jg u W' t db sbqq o n mem f j g lo ((k,X)::O) C N y e l i:=by
 obtain⟨s,K,m,a,b,c,d,tbqq,lsqq,w,r,h⟩:=h;have h':=h.still V;refine⟨s,K,m,a,b,c,d,tbqq,lsqq,w,r,{h' with obj:=λac p=>?_}⟩;rcases aD.1 p with rfl|p;have h1:=h.Dj.lt;have h2:=h.GR.lt;have h3:=am h.tM;exact⟨E,⟨⟨am E,λq=>by have:=h.uM.aN.lt k q;omega,by show k≠sbqq;omega⟩,λq=>by have:=(h.zL k q).2;omega⟩,by show k≠t;omega,by show k≠o;omega,λq=>by have:=h.ref.lt k q;omega⟩;exact h'.obj ac p
theorem jg.drop{O':cD (R×Obj)}(h:jg u W t db sbqq o n mem f j g lo O C N y e l i)(q:∀p∈O',p∈O):jg u W t db sbqq o n mem f j g lo O' C N y e l i:=by
 obtain⟨s,K,m,a,b,c,d,tbqq,lsqq,w,r,h⟩:=h;exact⟨s,K,m,a,b,c,d,tbqq,lsqq,w,r,{h with obj:=λp k=>h.obj p (q p k)}⟩
theorem jg.ref(h:jg u W t db sbqq o n mem f j g lo O C N y e l i):mO W o n.1 l.1 i n.2:=by
 obtain⟨s,K,m,a,b,c,d,tbqq,lsqq,w,r,h⟩:=h;exact h.ref.ref
theorem jg.wT(h:jg u W t db sbqq o n mem f j g lo O C N y e l i):pU W:=by
 obtain⟨s,K,m,a,b,c,d,tbqq,lsqq,w,r,h⟩:=h;exact h.wT
theorem jg.ay(h:jg u W t db sbqq o n mem f j g lo O C N y e l i):J az u W:=by
 obtain⟨s,K,m,a,b,c,d,tbqq,lsqq,w,r,h⟩:=h;exact h.ay
theorem jg.Wh(h:jg u W t db sbqq o n mem f j g lo O C N y e l i){X:R}{cs:Array aa}{fr:R×R}(hk:G (H u)<=X)(hm:∃an,(X,an)∈O)(hx:W.heap[X]?=M (aw cs 42 fr))(hi:∀q au,Value.int q au∉cs.toList)(hq:∀q,Value.pointer q∉cs.toList)(h2:bY j≠M X)(h3:bY g≠M X)(k:J (λE=>E=X) W W'){O':cD (R×Obj)}(hO:∀al∈O',al∈O/\al.1≠X):jg u W' t db sbqq o n mem f j g lo O' C N y e l i:=by
 obtain⟨s,K,m,a,b,c,d,tbqq,lsqq,w,r,h⟩:=h;obtain⟨an,hm⟩:=hm;obtain⟨_,hA,n1,n2,n3⟩:=h.obj (X,an) hm;have ad:=am h.tM;refine⟨s,K,m,a,b,c,d,tbqq,lsqq,w,r,(k.block t h.Dj.lt<|λV=>n1 V.symm).trans h.box,h.ref.ay k (λV=>n2 V.symm)<|λao hg V=>n3 (by have e':ao=X:=V;rw[<-e'];exact hg),(k.block sbqq ad<|λV=>hA.ne V.symm).trans h.tM,h.uM.sd k (λE V=>by have e':E=X:=V;rw[e'];exact hA.toAside) (λE V=>by have e':E=X:=V;rw[e'];exact⟨_,_,_,hx,by decide,.inr hi,λq ac=>absurd ac<|hq _⟩)<|h.kW (λE V=>by have e':E=X:=V;rw[e'];exact hk),h.yU,h.oY,h.num,h.len,h.mw,k.row h.By<|λE p=>⟨λV=>h2<|V▸p,(h.oE E p).1.lt⟩,k.row h.uZ<|λE p=>⟨λV=>h3<|V▸p,(h.kU E p).1.lt⟩,h.WK,h.ay.trans k<|λE V=>.inr (by have:E=X:=V;omega),h.low,λX q=>⟨(h.zL X q).1,ag (h.zL X q).2 k.size⟩,h.rI,h.Dj.grow k.size,h.GR.grow k.size,λE p=>⟨(h.yR E p).1.grow k.size,(h.yR E p).2⟩,λE p=>⟨(h.oE E p).1.grow k.size,(h.oE E p).2⟩,λE p=>⟨(h.kU E p).1.grow k.size,(h.kU E p).2⟩,λal hp=>?_,h.ne,h.g0⟩;obtain⟨q1,q2,q3⟩:=h.obj al (hO al hp).1;exact⟨(k.block _ q2.lt (hO al hp).2).trans q1,q2.grow k.size,q3⟩
theorem jg.mono(h:jg u W t db sbqq o n mem f j g lo O C N y e l i)(X:C<=C')(q:C'<=1000000)(V:N<=N')(E:N'<=100000000):jg u W t db sbqq o n mem f j g lo O C' N' y e l i:=by
 obtain⟨s,K,m,a,b,c,d,tbqq,lsqq,w,r,h⟩:=h;have hs:=h.uM;have hm:1000001*N<=1000001*N':=Nat.mul_le_mul_left _ V;refine⟨s,K,m,a,b,c,d,tbqq,lsqq,w,r,{h with uM:=?_,num:=⟨aF h.num.1 V,aF h.num.2 V⟩,len:=aF h.len X,mw:=q}⟩;cases e with
 |true=>
  obtain⟨ac,nx,lg,k,hL⟩:=hs;exact⟨ac,nx,lg,k,{hL with qK:=by have:=hL.qK;omega,mw:=q,nx:=by have:=hL.nx;omega,bn:=by have:=hL.bn;omega,eU:=by have:=hL.eU;omega,Kp:=E}⟩
 |false=>
  obtain⟨ac,k,hI⟩:=hs;exact⟨ac,k,hI.mono X q V E⟩
theorem jg.Df(h:jg u W t db sbqq o n mem f j g lo O C N y e l i):(∀k,n.1=M k->k<G (H W))/\(∀k,bY j=M k->k<G (H W))/\(∀k,bY g=M k->k<G (H W))/\o<G (H W)/\sbqq<G (H W)/\jq W j lo/\jq W g lo/\z lo<=1000000:=by
 obtain⟨s,K,m,a,b,c,d,tbqq,lsqq,w,r,h⟩:=h;exact⟨λk q=>(h.yR k<|.inl q).1.lt,λk q=>(h.oE k q).1.lt,λk q=>(h.kU k q).1.lt,h.GR.lt,am h.tM,h.By,h.uZ,h.WK⟩
end
def MU{m b o p:cR}(i:ST a c n j e m b o p l)(f:I)(t:aa)(s:J az a f)(r:f.ownsRow (G<|H a) 205 1 t (z (pG (n.l0,m) (n.l1,b) (n.l2,o) (n.l3,p))+1) (xD n.memory (n.l0,m) (n.l1,b) (n.l2,o) (n.l3,p))):cA bG 85 #[t,aj ⟨#[]⟩] f λA u=>∃y v,A=aP y/\jm (mN n.aN j) (G<|H a) y (cQ<|e::bZ m b o p) v u/\(mN n.aN j).D u/\J (mN n.aN j).F f u/\(∀k,v k->G (H f)<=k):=by
 have hF:∀k,(mN n.aN j).F k->k<G (H a):=i.aN.lt;have d:jL (mN n.aN j) (G<|H a) az a f:=s.same (ai _) cN cN;have h:z (oO n e m b o p)=z (pG (n.l0,m) (n.l1,b) (n.l2,o) (n.l3,p))+1:=by have:=bW z<|yy n e m b o p;rw[cV]at this;rw[this];simp[xD]
 have w:=i.count;have x:=Bs (G<|H a) (oO n e m b o p) t ⟨#[]⟩ (by rw[yy,h];exact dr r) (λk f=>⟨(r.lt k f).2,λq=>by have:=hF k q;have:=(r.lt k f).1;omega⟩) (by simp only[oO,aC,af,List.length_reverse,cV,cS];omega) (λe a=>(i.Ve _<|ar a).same d) ((mN n.aN j).fq i.Jb s cN) s.size hF;rw[qY,mu (g:=id)<|λa _=>Mo a,xh]at x;exact x
def MD{an b O ao:cR}(K:fw)(h:bM a c n m)(f:Inv a c n j e an b O ao g l y k K)(hN:y+1<=100000000):cA bG 52 #[aA c] a λL A=>L=aP .nilIface/\lM a A c n m j g (y+1) K n.bj (λbb=>fj bb<|e::bZ an b O ao):=by
 obtain⟨mx,mc,dk⟩:=bS f.st.mem;have co:=Ea (n.l0,an) (n.l1,b) (n.l2,O) (n.l3,ao) h mx (z e) mc dk<|f.st.YC h;have bm:=MU f.st;have D:=f.all;have bl:=f.st.flat;have bi:=f.st.mw;have ca:z (cQ<|e::bZ an b O ao)<=1000000:=by have:=(eK<|e::bZ an b O ao).length_eq;omega
 have cp:=am h;obtain⟨mb,q1,q2,q3⟩:=f.oY.ex;have h4:=f.oY.len
 have cm:∀t,J (j.bw n.aN) a t->cA bG 50 #[aA c] t λL A=>∃d,∃x:eP,L=aP d/\x.Perm (sG K)/\A.ownsRow (G<|H t) 103 1 d (z x) (x.map<|Value.int .u64)/\J az t A:=λt ht=>
  ug (b:=mb) K ((ht.block c cp f.st.rI).trans h) q1 (q2.dq<|ht.block _ q2.lt q3.bw) h4
 have bo:∀t C ea c(x:eP),J (j.bw n.aN) a t->J az t C->x.Perm (sG K)->t.ownsRow (G<|H a) 164 4 ea (z<|cQ<|e::bZ an b O ao) (aH<|cQ<|e::bZ an b O ao)->C.ownsRow (G<|H t) 103 1 c (z x) (x.map<|Value.int .u64)->cA bG 87 #[ea,c] C λL A=>∃s,∃d:cR,L=aP (eB #[aG,aG,aG,s])/\A.ownsRow (G<|H C) 224 1 s (z d) (d.map bJ.ptr)/\d.map bJ.all=gR (iw<|dV x<|cQ<|e::bZ an b O ao)/\qL A (G<|H C) d/\J az C A:=λt C ea c x B p hp X F=>by have v:=p.own X<|λ_ _ q=>q;exact RU x (dr v) (dr F) (ph D.mr D.pM) (λd a=>D.jb d<|(eK _).mem_iff.1 a) ca (by have:=hp.length_eq;rw[oZ]at this;omega) (λq hq=>(v.lt q hq).2) (λq hq=>(F.lt q hq).2) (Steps.ay f.st.kW.steps (B.cw p) f.st.kW.fC.bw)<|ag f.st.kW.fC.lt (B.cw p).size
 have bh:∀W w s d u,XB a W c w n m j e an b O ao g l y k K s d u->cA bG 89 #[aA c,eB #[aG,aG,aG,s],aL n.bj] W λL A=>L=aP .nilIface/\lM a A c n m j g (y+1) K n.bj (λbb=>fj bb<|e::bZ an b O ao):=λW w s d u V=>by refine(DS w g n.bj (sG K) _ W _ _ _ _ [] [] [] d u V.sv h f.st f.rh f.NK.1 (by have:=f.bn;have:=f.mw;omega) (by have:=f.nx;have:=f.mw;omega) (by have:=f.eU;have:=f.mw;omega)).mono ?_;rintro L A⟨rfl,K',num,a',b',c',d',hO⟩;exact⟨rfl,_,K',[],a',b',c',d',n.bj,[],hO.box,hO.inv f.Ti f.nx (by have:=f.bn;omega) hN f.oY f.TD<|ai _,λbb ht q=>by rw[mH];exact hO.uA bb (ht.imp_right (λL=>by rw[L];exact pB _)) q,hO.fm,⟨rfl,rfl,rfl,rfl,rfl,rfl⟩,rfl⟩
 have ac:∀W w s d u,XB a W c w n m j e an b O ao g l y k K s d u->cA bG 53 #[aA c] W λL A=>L=aP .nilIface/\lM a A c n m j g (y+1) K n.bj (λbb=>fj bb<|e::bZ an b O ao):=λW w s d u V=>by obtain⟨K1,ce,E⟩:=V.Df;apply(E.safe V.sv.box).mono;rintro L A⟨rfl,K',hd,hf,hb,hI⟩;exact⟨rfl,_,K',e,an,b,O,ao,l,k,hb,hI.mono (ai _) bi (by omega) hN,λ_ _ _=>rfl,ce.trans hd,⟨rfl,rfl,rfl,rfl,rfl,rfl⟩,rfl⟩
 have bg:∀W w s d u,XB a W c w n m j e an b O ao g l y k K s d u->cA bG 88 #[fA<|M<|U c 10,aA w] W λL A=>∃ed,L=aP (aO ed)/\J az W A:=λW w s d u V=>by have cs:=f.st.count;have ec:=f.st.qK;(have hk:∀a:cR,(∀bb∈a,bb.ks=bO 0 bb.cs)->z (cr a)<=1000000->lK a<=1000000000:=λa c d=>by rw[Dq c];omega);refine JW W c w n.l0 n.l1 n.l2 n.l3 aG aG aG s an b O ao [] [] [] d (λo hX=>?_) ⟨hk an (λbb q=>(f.st.l0.each bb q).ks) (by omega),hk b (λbb q=>(f.st.l1.each bb q).ks) (by omega),hk O (λbb q=>(f.st.l2.each bb q).ks) (by omega),hk ao (λbb q=>(f.st.l3.each bb q).ks) (by omega),by simp[lK],by simp[lK],by simp[lK],V.MF⟩;have av:=V.ay hX;obtain⟨K1,ce,E⟩:=av.Df;have hb:=av.sv.box;have hl:=av.sv.lb;exact⟨⟨hb.cell rfl,hb.cell rfl,hb.cell rfl,hb.cell rfl⟩,⟨by rw[bL hl];rfl,by rw[bL hl];rfl,by rw[bL hl];rfl,by rw[bL hl];rfl⟩,⟨E.st.l0.RS (by omega),E.st.l1.RS (by omega),E.st.l2.RS (by omega),E.st.l3.RS<|by omega⟩,⟨EQ _,EQ _,EQ _,av.Yr⟩⟩
 have bc:=Z<|λ(t C r W:I)(w:R)(s:aa)(d:cR)(x:eP)(hp:x.Perm (sG K))(au:(mN n.aN j).D t)(B:J (j.bw n.aN) a t)(p:J az t C)(ba:J az C r)(g:r.ownsRow (G<|H C) 224 1 s (z d) (d.map bJ.ptr))(ax:d.map bJ.all=gR (iw<|dV x<|cQ<|e::bZ an b O ao))(c:qL r (G<|H C) d)(hW:J az r W)(hl:W.heap[w]?=M (aw #[aG,aG,aG,s] 107 (0,0)))=>Yf (k:=m) h f hp au B (p.cw ba) (eM g p.size) ax (c.base p.size) hW hl;have bu:=Z (show∀W w s d u,XB a W c w n m j e an b O ao g l y k K s d u->aS W (U c 8)=M (aq n.ir)/\aS W (U c 9)=M (aL n.bj)/\W.heap[w]?=M (aw #[aG,aG,aG,s] 107 (0,0))fromλW w s d u V=>⟨V.sv.box.cell rfl,V.sv.box.cell rfl,V.sv.lb⟩);obtain⟨ML,bf⟩:∃ML,cQ (e::bZ an b O ao)=ML:=⟨_,rfl⟩;rw[bf]at bm bo bc ca;obtain⟨cx,cE,cB,bd,bk,bt⟩:=kD bm cm bo bh ac bg;clear h f bm cm bo bh ac bg D bl bi cp q1 q2 q3 h4 bf;go_in
 go_wp2_with fail
 apply co.mono;rintro L w1⟨v1,rfl,bp,br⟩;have hf:=cx w1 v1 br bp;obtain⟨y1,e1,dm⟩:=aB bp;subst dm;have bv:=Z br;clear bp br co;go_wp2_with fail
 apply hf.mono;rintro L w2⟨v2,S2,rfl,ch,bT,bs,cb⟩;have dx:=bv.size;have dT:=bs.size;have cd:=CO ch bT (by omega);have db:=Z<|(bv.mono (T:=j.bw n.aN) cN).trans bs<|λ_ q=>.inl q;have cT:=Z cb;clear ch bT bs cb hf;go_wp2_with fail
 apply cd.mono;rintro L t⟨s,rfl,X,au,B⟩;have ad:J (j.bw n.aN) a t:=db.trans B<|λq hq=>hq.elim (λg=>.inr (by have:=cT q g;omega)) .inl;have v:t.ownsRow (G<|H a) 164 4 s (z ML) (aH ML):=eM X (by omega);obtain⟨y3,e3,dn⟩:=aB X;subst dn;have cl:=cE t ad;obtain⟨cM,bx,cv⟩:=dI v ad au;clear X v au B ad cd dx dT;go_wp2_with fail
 apply cl.mono;rintro L C⟨v4,x,rfl,hp,F,p⟩;have cj:=cB t C _ v4 x bx p hp cM F;obtain⟨y4,e4,ds⟩:=aB F;subst ds;have HP:=Z hp;have dc:=Z p;clear F p hp cl;go_wp2_with fail
 apply cj.mono;rintro L r⟨v5,d,rfl,bq,ax,cn,ba⟩;obtain⟨y5,e5,dv⟩:=aB bq;subst dv;obtain⟨W,hW⟩:∃W,cF r (aw #[aG,aG,aG,ah y5 (z d) e5] 107)=W:=⟨_,rfl⟩;have cc:W.heap[G<|H r]?=M (aw #[aG,aG,aG,ah y5 (z d) e5] 107 (0,0)):=by rw[<-hW];exact aE _ rfl
 have cu:J az r W:=by rw[<-hW];exact(cI az r)
 obtain⟨u,hC⟩:=bc t C r W (G<|H r) _ d x HP cv bx dc ba bq ax cn cu cc;obtain⟨b8,b9,ck⟩:=bu W _ _ d u hC;have HC:=Z hC;clear bq ax cn ba cj cc cu hC;by_cases eb:n.ir=0
 .have dd:decide ((n.ir:Y)=0)=bX:=nH (by omega);go_wp2_with fail
  apply(bt W _ _ d u HC).mono;rintro L W8⟨ed,rfl,cs⟩;have av:=HC.ay cs;obtain⟨c8,c9,bn⟩:=bu W8 _ _ d u av;have al:=Z av;clear av cs ck b8 b9;cases ed with
  |true=>
   go_wp2_with fail
   apply(bk W8 _ _ d u al).mono;rintro L w9⟨rfl,hP⟩;have N:=Z hP;clear hP;go_wp2;go_ret;exact⟨rfl,N⟩
  |false=>
   go_wp2_with fail
   rename_i QQ KK S;have hS:W8.drew.heap[G<|H r]?=M (aw #[aG,aG,aG,ah y5 (z d) e5] 107 (0,0))/\aS W8.drew (U c 9)=M (aL n.bj):=⟨bn,c9⟩;refine lX (λo=>o.heap[G<|H r]?=M (aw #[aG,aG,aG,ah y5 (z d) e5] 107 (0,0))/\aS o (U c 9)=M (aL n.bj)) 6 (by kernel_rfl) ?_;refine nk 0 ?_;iterate 6 (refine Bh (v:=?_) hS rfl (by kernel_rfl) iV rfl ?_ ?_;rotate_left;(focus(rintro o⟨z0,z1⟩;have x0:aS o (U (G<|H r) 0)=M aG:=(by rw[bL z0];rfl);have x1:aS o (U (G<|H r) 1)=M aG:=(by rw[bL z0];rfl);have x2:aS o (U (G<|H r) 2)=M aG:=(by rw[bL z0];rfl);have x3:aS o (U (G<|H r) 3)=M (ah y5 (z d) e5):=(by rw[bL z0];rfl);go_simp;try rfl));simp only[Act.put,dG,gp,Nat.reduceAdd])
   apply sa;refine gW (i:=6) rfl rfl (by kernel_rfl) ?_;intro K6 P;go_simp;apply(bd _ _ _ d u<|al.ay<|cg az _).mono;rintro L w9⟨rfl,hP⟩;have N:=Z hP;refine P _ _ (λO=>(by omega)) ?_;try simp only[Act.put,dG,gp]
   clear P hP hS;refine gW (i:=7) rfl rfl (by kernel_rfl) ?_;intro K7 Q;go_simp;refine Q _ _ (λO=>(by omega)) ?_;try simp only[Act.put,dG,gp]
   clear Q;refine lS (by kernel_rfl) ?_ _;show KK _ _;apply S;clear S;go_wp2;go_ret;exact⟨rfl,N⟩
 (.have dd:decide ((n.ir:Y)=0)=bF:=rY (by omega);have al:=HC;have bn:=ck;have c9:=b9;(go_wp2_with fail);rename_i QQ KK S;have hS:W.drew.heap[G<|H r]?=M (aw #[aG,aG,aG,ah y5 (z d) e5] 107 (0,0))/\aS W.drew (U c 9)=M (aL n.bj):=⟨bn,c9⟩;refine lX (λo=>o.heap[G<|H r]?=M (aw #[aG,aG,aG,ah y5 (z d) e5] 107 (0,0))/\aS o (U c 9)=M (aL n.bj)) 6 (by kernel_rfl) ?_;refine nk 0 ?_;(iterate 6 (refine Bh (v:=?_) hS rfl (by kernel_rfl) iV rfl ?_ ?_;rotate_left;(focus(rintro o⟨z0,z1⟩;have x0:aS o (U (G<|H r) 0)=M aG:=(by rw[bL z0];rfl);have x1:aS o (U (G<|H r) 1)=M aG:=(by rw[bL z0];rfl);have x2:aS o (U (G<|H r) 2)=M aG:=(by rw[bL z0];rfl);have x3:aS o (U (G<|H r) 3)=M (ah y5 (z d) e5):=(by rw[bL z0];rfl);go_simp;try rfl));simp only[Act.put,dG,gp,Nat.reduceAdd]));apply sa;refine gW (i:=6) rfl rfl (by kernel_rfl) ?_;intro K6 P;go_simp;apply(bd _ _ _ d u<|al.ay<|cg az _).mono;rintro L w9⟨rfl,hP⟩;have N:=Z hP;refine P _ _ (λO=>(by omega)) ?_;(try simp only[Act.put,dG,gp]);clear P hP hS;refine gW (i:=7) rfl rfl (by kernel_rfl) ?_;intro K7 Q;go_simp;refine Q _ _ (λO=>(by omega)) ?_;(try simp only[Act.put,dG,gp]);clear Q;refine lS (by kernel_rfl) ?_ _;show KK _ _;apply S;clear S;go_wp2;go_ret;exact⟨rfl,N⟩)
section
open Go.Conc.Locks
def Dg(h:bM a b n 0)(l:n.closed=bX):cA bG 21 #[aA b] a λm k=>m=aP (lC 6)/\bM k b n 0/\J (λu=>u=b) a k:=by
 have p:=bM.cellAt h 0 rfl;have r:a.frozen? (U b 0)=bF:=h.free;have j:=h.gK 1;have c:=iB j;rw[l]at c;simp only[iO]at c;have o:=Z<|λg i=>qn (W2:=g) j (ij b a) i;clear h j l;rw[wq]at c|-;go_enter_defers func21,ntmps21
 go_wp2_with fail
 apply(lock_free (U b 0) _ p r).mono;rintro m k⟨rfl,rfl⟩;go_wp2_with fail
 apply c.mono;rintro m g⟨rfl,i⟩;obtain⟨q,s,d⟩:=o g i;have e:=Z d;clear d i c;go_wp2;refine eR (f:=40) (args:=#[aA b]) (by simp) (by simp[go_sem]) ?_;apply(unlock_deferred (U b 0) .returning _ q s).mono;rintro m v t⟨rfl,rfl,rfl⟩;exact⟨_,gy rfl _ _ _,rfl,e⟩
def Gp(S:fw)(h:bM a b n 0)(E:Inv a b n j e i p r s c g l k S)(L:n.closed=bF)(hN:l+1<=100000000):cA bG 21 #[aA b] a λC u=>C=aP .nilIface/\lM a u b n 0 j c (l+1) S n.bj (λao=>fj ao<|e::bZ i p r s):=by
 have al:=am h;have c0:=bM.cellAt h 0 rfl;have f0:a.frozen? (U b 0)=bF:=h.free;have t:=kM E.st.aN E.st.rI 1;have y:=h.gK 1;have d:=E.fm al t rfl (ai _) rfl E.loose;generalize hW:ct a (U b 0) (jo 1)=A at t y d;have m:=iB y;rw[L]at m;have Q:cA bG 41 #[aA b] A λC u=>C=aP .nilIface/\Below (G<|H A) A u:=m;have N:∀B,J az A B->cA bG 52 #[aA b] B λC u=>C=aP .nilIface/\lM a u b n 1 j c (l+1) S n.bj (λao=>fj ao<|e::bZ i p r s):=λB v=>by have O:gq A B n.aN b j j:=⟨d.st.aN.ay v<|λ_ _=>id,v.mono cN,λ_ q=>.inl q⟩;have ac:=d.fm (am y) O rfl (ai _) rfl d.loose;have ad:bM B b n 1:=(v.block b (am y) id).trans y;apply(MD S ad ac hN).mono;rintro C u⟨rfl,s',W,m',X,b',c',d',x,w,o⟩;exact⟨rfl,s',W,m',X,b',c',d',x,w,o.box,o.inv,o.uA,(t.trans O).trans o.fm,o.same,o.Be⟩
 have T:=Z N;have HW:=Z hW;clear h E t y d L hW N m;go_enter_defers func21,ntmps21
 go_wp2_with fail
 apply(lock_free (U b 0) _ c0 f0).mono;rintro C u⟨rfl,an⟩;rw[ae HW]at an;subst u;go_wp2_with fail
 apply Q.mono;rintro C Wr⟨rfl,K⟩;have hd:=T Wr<|J.aV K;clear K Q;go_wp2_with fail
 apply hd.mono;rintro C w3⟨rfl,s',W,m',X,b',c',d',x,w,o⟩;have P:=Hz o.box;have HO:=Z o;clear o hd;go_wp2_with fail
 apply P.mono;rintro C w4⟨rfl,F⟩;obtain⟨d0,g0,D⟩:=HO.fin F;have V:=Z D;clear D F P;go_wp2;refine eR (f:=40) (args:=#[aA b]) (by simp) (by simp[go_sem]) ?_;apply(unlock_deferred (U b 0) .returning _ d0 g0).mono;rintro C u' au⟨rfl,rfl,rfl⟩;exact⟨_,gy rfl _ _ _,rfl,s',W,m',X,b',c',d',x,w,V⟩
end
section
open Go.Conc.Locks
def Inv.XV{s:SR}{w:cR}{n:fw}(h:Inv a b s j e i p r w c g l k n)(v:ku a d (gu n e []))(o:∀y,bY d=M y->Aside a j s.aN b y):Inv a b {s with memory:=d} j (gu n e []) i p r w c g l k n:=by
 have f:∀x∈gu n e [],x∈e:=λx m=>(Bk m).elim id (λq=>by cases q);have u:=yr n e [];rw[cS,ju]at u;have t:=h.st.TU (s':={s with memory:=d}) (C':=c) ⟨rfl,rfl,rfl,rfl,rfl⟩ v o (yq h.st.mr n []) (λx m=>h.st.jb x<|f x m) (by omega) h.st.mw;exact{h with st:=t,mem:=(yN h.row<|.inr<|λx m=>(h.Ng x m).2).trans h.mem,Ng:=λx m=>h.Ng x<|f x m,WH:=aF u h.WH,XC:=yp h.st.mr h.oY.len [],oY:=h.oY.fields ⟨rfl,rfl⟩}
def Eh(u:Y)(h:bM a b n 0)(l:n.closed=bX):cA bG 19 #[aA b,aq u] a λm k=>m=aP (lC 6)/\bM k b n 0/\J (λv=>v=b) a k:=by
 have p:=bM.cellAt h 0 rfl;have r:a.frozen? (U b 0)=bF:=h.free;have j:=h.gK 1;have d:=uF u j l;have o:=Z<|λg i=>qn (W2:=g) j (ij b a) i;clear h j l;rw[wq]at d|-;go_enter_defers func19,ntmps19
 go_wp2_with fail
 apply(lock_free (U b 0) _ p r).mono;rintro m k⟨rfl,rfl⟩;go_wp2_with fail
 apply d.mono;rintro m g⟨rfl,i⟩;obtain⟨q,s,c⟩:=o g i;have e:=Z c;clear c i d;go_wp2;refine eR (f:=40) (args:=#[aA b]) (by simp) (by simp[go_sem]) ?_;apply(unlock_deferred (U b 0) .returning _ q s).mono;rintro m w t⟨rfl,rfl,rfl⟩;exact⟨_,gy rfl _ _ _,rfl,e⟩
def IQ(y:fw)(W:Y)(h:bM a b n 0)(u:ST a b n j e i p r s c)(o:FK a j b n y)(D:n.closed=bF)(E:pD y W=none):cA bG 19 #[aA b,aq W] a λL A=>L=aP (lC 5)/\tL a A b n j e i p r s c:=by
 have w:=am h;have Q:=bM.cellAt h 0 rfl;have T:a.frozen? (U b 0)=bF:=h.free;have g:=kM u.aN u.rI 1;have q:=h.gK 1;generalize C:ct a (U b 0) (jo 1)=B at g q;obtain⟨mb,F,K,X⟩:=(o.fm g).ex;have d:=rP W y q D F K;have P:=Z<|λl(t:Below (G<|H B) B l)=>rJ (W2:=l) q u w g t;have O:=Z C;clear h u g q D C o F K X;rw[E]at d;simp only at d;rw[OV]at d|-;clear E;go_enter_defers func19,ntmps19
 go_wp2_with fail
 apply(lock_free (U b 0) _ Q T).mono;rintro L A⟨rfl,x⟩;rw[ae O]at x;subst A;go_wp2_with fail
 apply d.mono;rintro L l⟨rfl,t⟩;obtain⟨v,m,k⟩:=P l t;obtain⟨S,V,hF⟩:=k l m.Jb<|J.refl _ _;have N:=Z hF;clear v m k t d hF;go_wp2;refine eR (f:=40) (args:=#[aA b]) (by simp) (by simp[go_sem]) ?_;apply(unlock_deferred (U b 0) .returning _ S V).mono;rintro L u' ac⟨rfl,rfl,rfl⟩;exact⟨_,gy rfl _ _ _,rfl,N⟩
def IP{s:SR}{au cu:cR}(d:fw)(C:Y)(mb tt:R)(h:bM a b s 0)(X:Inv a b s j e p r au cu c g l k d)(hc:s.closed=bF)(hg:pD d C=M tt)(bg:s.mj=M mb):cA bG 19 #[aA b,aq C] a λbi P=>bi=aP .nilIface/\∃n,bM P b {s with memory:=n} 0/\Inv P b {s with memory:=n} j (gu (ml d C) e []) p r au cu c g l k (ml d C)/\(∀bk,(bk∈sG (ml d C)\/bk=(s.bj:Y))->∀q,fj bk (gu (ml d C) e []::bZ p r au cu) q=fj bk (e::bZ p r au cu) q)/\J (λB=>(j.bw s.aN B\/B=b)\/B=mb) a P:=by
 have cT:=am h;have c0:=bM.cellAt h 0 rfl;have f0:a.frozen? (U b 0)=bF:=h.free;have L:=kM X.st.aN X.st.rI 1;have h1:=h.gK 1;generalize hW:ct a (U b 0) (jo 1)=W1 at L h1;obtain⟨b0,q1,q2,q3⟩:=(X.oY.fm L).ex;have eb:b0=mb:=by rw[q1]at bg;exact dF bg
 subst eb;have an:=rP C d h1 hc q1 q2;rw[hg]at an;simp only at an
 have HX:=Z (λW2(hb:Below (G<|H W1) W1 W2)=>show aS W2 (U b 16)=M (.map<|M b0)/\jJ W2 b0 (Bd d)/\∀o,jJ o b0 ((Bd d).del C)->W2.grownBy o (M b0)->aS o (U b 7)=M s.memory/\(∀T,J az o T->aS T (U b 7)=M s.memory/\T.frozen? (U b 7)=bF/\cA bG 50 #[aA b] T (λbi P=>∃v',∃O:eP,bi=aP v'/\O.Perm (sG<|ml d C)/\P.ownsRow (G<|H T) 103 1 v' (z O) (O.map<|Value.int .u64)/\J az T P)/\∀v'(O:eP)D,O.Perm (sG<|ml d C)->J az T D->D.ownsRow (G<|H T) 103 1 v' (z O) (O.map<|Value.int .u64)->cA bG 49 #[s.memory,v'] D (λbi P=>∃n,bi=aP n/\P.ownsRow (G<|H D) 164 4 n (z<|gu (ml d C) e []) (aH<|gu (ml d C) e [])/\J az D P))/\∀t n,J az o t->t.ownsRow (G<|H o) 164 4 n (z<|gu (ml d C) e []) (aH<|gu (ml d C) e [])->aS t (U b 7)=M s.memory/\t.frozen? (U b 7)=bF/\∀E,E=ct t (U b 7) n->aS E (U b 0)=M (jo 1)/\E.frozen? (U b 0)=bF/\bM (ct E (U b 0)<|jo 0) b {s with memory:=n} 0/\Inv (ct E (U b 0)<|jo 0) b {s with memory:=n} j (gu (ml d C) e []) p r au cu c g l k (ml d C)/\(∀bk,(bk∈sG (ml d C)\/bk=(s.bj:Y))->∀q,fj bk (gu (ml d C) e []::bZ p r au cu) q=fj bk (e::bZ p r au cu) q)/\J (λB=>(j.bw s.aN B\/B=b)\/B=b0) a (ct E (U b 0)<|jo 0)from by
  have bt:=L.trans<|rk (sbqq:=b) L.ok hb;have bc:bM W2 b s 1:=h1.ay (J.aV (S:=az) hb) id;have bn:=X.fm cT bt rfl (ai _) rfl X.loose;obtain⟨b1,p1,p2,p3⟩:=bn.oY.ex;have cv:b1=b0:=by rw[p1]at q1;exact dF q1
  subst cv;refine⟨by rw[<-p1];exact bc.cell rfl,p2,λo w al=>?_⟩;rw[PF]at w;have bh:J (λB=>B=b1) W2 o:=fy al;have ba:=GI C d;have bu:z (ml d C)<=4:=aF ba.length_le X.oY.len;have m:=bn.qw (s':=s) p1 rfl bh w bu<|λp hp=>X.TD p<|ba.subset hp;have K:bM o b s 1:=(bh.block b (am bc)<|λau=>p3.ne au.symm).trans bc;have cj:J (λB=>(j.bw s.aN B\/B=b)\/B=b1) a o:=(bt.ay.mono<|λ_ au=>.inl<|.inl au).trans bh<|λ_ au=>.inl<|.inr au;have cd:=λ(bk:Y)(a:bk∈sG (ml d C)\/bk=(s.bj:Y))(q:ab)=>(m.yB a q).symm;refine⟨K.cell rfl,λT ao=>?_,λt n x A=>?_⟩
  .have V:bM T b s 1:=K.ay ao id;refine⟨V.cell rfl,V.free,ug (b:=b1) (ml d C) V p1 (w.dq<|ao.block _ w.lt id) bu,λv' O D hp u y=>?_⟩;have W:ku D s.memory e:=(ao.cw u).row m.st.mem<|λB hk=>⟨id,(m.st.tr B hk).lt⟩;have:=wa O W m.st.mr (by have:=m.WG;omega) (dr y) (by have:=hp.length_eq;rw[oZ]at this;omega) (λB hk=>ag (m.st.tr B hk).lt (ao.cw u).size)<|λB hk=>(aI y B hk).2;rw[zG hp]at this;exact this
  .have ac:bM t b s 1:=K.ay x id;refine⟨ac.cell rfl,ac.free,λE F=>?_⟩;subst F;have cE:gq o t s.aN b j j:=⟨m.st.aN.ay x<|λ_ _=>id,x.mono cN,λ_ au=>.inl au⟩;have V:=m.fm (am K) cE rfl (ai _) rfl m.loose;have hA6:∀B,bY n=M B->Aside t j s.aN b B:=λB hk=>by
    have h1:=aI A B hk;exact⟨h1.2,λau=>by have:=m.st.aN.lt B au;omega,λau=>by have:=am K;omega⟩
   have bf:gq t (ct t (U b 7) n) s.aN b j j:=(gq.refl V.st.aN).set V.st.rI 7 n;have cx:=V.fm (am ac) bf rfl (ai _) rfl V.loose;have db:ku (ct t (U b 7) n) n (gu (ml d C) e []):=Aj (dr A) bf hA6;have W:=cx.XV db (λB hk=>(hA6 B hk).fm bf);have ad:bM (ct t (U b 7) n) b {s with memory:=n} 1:=(aT ac).trans rfl;have cM:=kM W.st.aN W.st.rI 0;have ck:=cj.cw x;exact⟨ad.cell rfl,ad.free,ad.gK 0,W.fm (am ad) cM rfl (ai _) rfl W.loose,cd,(ck.setCell b 7 _ (.inl (.inl (.inr rfl)))).setCell b 0 _ (.inl (.inl (.inr rfl)))⟩)
 obtain⟨x7,n7,dc⟩:=bS X.st.mem;rw[dc]at HX;have HW:=Z hW;clear h X L h1 hc hW q1 q2 q3 hg bg;go_enter_defers func19,ntmps19
 go_wp2_with fail
 apply(lock_free (U b 0) _ c0 f0).mono;rintro bi P⟨rfl,dd⟩;rw[ae HW]at dd;subst P;go_wp2_with fail
 apply an.mono;rintro bi W2⟨rfl,hb⟩;obtain⟨dn,bv,cb⟩:=HX W2 hb;have cn:=Z bv;have HN:=Z cb;clear bv cb hb an;go_wp2_with(at_delete;refine Dz _ rfl _ _ 108 3 rfl 103 underlying108 underlying3 b0 (Bd d) rfl cn C rfl ?_;intro o w al;have co:=Z w;have cm:=Z al;clear w al)
 rename_i QQ KK bs;obtain⟨j7,bd,ce⟩:=HN o co cm;have N:J az o o.drew:=cg _ o;obtain⟨cB,_,bx,bT⟩:=bd o.drew N;obtain⟨cp,cs,cl⟩:=dI bT ce bd;clear bT ce bd j7 dn;refine Code.wp_mono (Q:=λbi p a=>bi=Exit.normal/\KK p a) (λbi p a h=>by obtain⟨rfl,h⟩:=h;exact h) ?_;refine cz (λbm=>aS bm (U b 7)=M (ah x7 (z e) n7)) 10 (by kernel_rfl) ?_;refine cY 0 ?_;iterate 6 (refine eJ (v:=?_) cB rfl (by kernel_rfl) (λ_ _ _ h=>by cases h.1) rfl ?_ ?_;rotate_left;(focus(rintro bm z0;go_simp;try rfl));simp only[Act.put,dG,gp,Nat.reduceAdd])
 apply eA;refine aM (i:=6) rfl rfl (by kernel_rfl) ?_;intro K6 bo;go_simp;apply bx.mono;rintro bi D⟨v5,O,rfl,cc,y,u⟩;have ca:=cp v5 O D cc u y;obtain⟨y5,d5,dk⟩:=aB y;subst dk;refine bo _ _ (λ_=>(cl D<|N.cw u).1) ?_;try simp only[Act.put,dG,gp]
 clear bo y bx cc;refine aM (i:=7) rfl rfl (by kernel_rfl) ?_;intro K7 bp;go_simp;apply ca.mono;rintro bi t⟨n,rfl,A,x⟩;have bb:J az o t:=(N.cw u).cw x;have ch:G (H o)<=G (H D):=(N.cw u).size;obtain⟨z7,g7,ax⟩:=cs t n bb<|eM A ch;obtain⟨y6,d6,dm⟩:=aB A;subst dm;refine bp _ _ (λ_=>z7) ?_;try simp only[Act.put,dG,gp]
 have bl:=Z ax;clear bp A ca ax u x bb ch N;refine aM (i:=8) rfl rfl (by kernel_rfl) ?_;intro K8 bq;go_simp;refine bq _ _ (λ_=>z7) ?_;try simp only[Act.put,dG,gp]
 clear bq;refine aM (i:=9) rfl rfl (by kernel_rfl) ?_;intro K9 br;go_simp;refine br _ _ (λ_=>z7) ?_;try simp only[Act.put,dG,gp]
 clear br;refine aM (i:=10) rfl rfl (by kernel_rfl) ?_;intro ds av;go_simp;refine av _ _ wH ?_;try simp only[Act.put,dG,gp]
 clear av;refine cX (by kernel_rfl) ?_ _;refine⟨rfl,?_⟩;obtain⟨E,F⟩:∃E,E=ct t (U b 7) (ah y6 (z<|gu (ml d C) e []) d6):=⟨_,rfl⟩;obtain⟨d0,g0,hF⟩:=bl E F;rw[<-F];have HF:=Z hF;clear hF F z7 g7;apply bs;clear bs;go_wp2;refine eR (f:=40) (args:=#[aA b]) (by simp) (by simp[go_sem]) ?_;apply(unlock_deferred (U b 0) .returning _ d0 g0).mono;rintro bi u' dv⟨rfl,rfl,rfl⟩;exact⟨_,gy rfl _ _ _,rfl,_,HF⟩
end
theorem sH{y:R}{m:dX}{l:iI}{t:Y}(r:PR y m)(u:vF (m.map<|kr t) l)(lo n:ab)(k:Y):tf t lo n k m=ng l lo n k:=by
 have p:∀v∈m.map (fX lo),gT v:=λv q=>by obtain⟨x,s,rfl⟩:=bz.1 q;exact(r.row x s).sub fg
 have o:ki (m.map<|fX lo):=by unfold ki;rw[jw];exact r.pM.imp λ{v x}q o m k n w=>q o (de.1 m).1 k (de.1 n).1 w
 exact Pm u (λm w q=>WR q) lo n k (nh (nU p o) t)<|Xh r.row r.pM lo t
theorem GM(t:Y)(m:ab):∀(k:cD (aa×cK)),(∀r∈k.map (·.2),gT r)->wE t m k=ri ((k.map (·.2)).map<|kr t) m
 |[],_=>rfl
 |r::k,p=>by
  have o:=GM t m k<|λx n=>p x (by simp at n|-;exact .inr n);unfold wE ri at*;simp only[sj,aZ];rw[SA (p r.2<|by simp),o]
theorem Mm{E:R}{F:SR}{t:cK}{p q r s:cR}{l:iI}{B:Y}(v:PR E (t::bZ p q r s))(w:vF ((t::bZ p q r s).map<|kr B) l)(k:ab):OL k B (oO F t p q r s)=dE #[aj (sB l k).1,aO (sB l k).2.1,lC (sB l k).2.2]:=by
 unfold OL;by_cases n:1<=k.size/\k.size<=8;have u:sB l k=((qA l k).1,(qA l k).2,0):=dh (by omega);rw[dt n,u,GM _ _ _ (by rw[qY];exact v.row),qY,SQ w k];unfold seen;rcases hq:ri ((t::bZ p q r s).map<|kr B) k with _|D;rfl;(have x:D.Good:=by obtain⟨K,y,A⟩:=bC.1<|PY hq;obtain⟨o,m,rfl⟩:=bz.1 y;exact v.jb D<|bC.2 ⟨o,m,ye (v.row o m) A⟩);rcases hd:D.del with _|_;simp[WU,hd];rfl;simp[WU,hd,x.del hd];rfl;have u:sB l k=(⟨#[]⟩,bF,3):=dt (by omega);rw[dh n,u]
theorem GL(n v:ab)(l:iI):∀e:iI,l.foldl (fV n v) (e,bX)=(e++l.filter (λp=>!decide (p.1=n)),bX):=by
 induction l with
 |nil=>intro e;simp
 |cons p l k=>
  intro e;obtain⟨o,q⟩:=p;rw[fU];by_cases m:o=n
  .rw[GH m,k];simp[m]
  .rw[GG m,k];simp[m]
theorem TK(l:iI)(m v k:ab):vU l m v bX=vU l m k bX:=by
 unfold vU qo;rw[GL,GL];simp
theorem Xa{r:dX}(n:Y)(m:uN):∀{q:cK}{l:iI},wV q->vF (q::r) l->vF (gQ q (m.map<|mq n)::r) (Tk l m):=by
 induction m with
 |nil=>intro q l _ s;exact s
 |cons k m u=>
  intro q l p s;have o:=Vz p s<|mq n k;have t:vU l (mq n k).key (mq n k).val (mq n k).del=vU l k.key k.val k.del:=by
   unfold mq;simp only;cases hd:k.del with
   |true=>exact TK _ _ _ _
   |false=>simp
  rw[t]at o;exact u (wV.gQ p [mq n k]) o
section
variable{i W:I}{j db sbqq h:R}{g:PB}{mem b:Y}{e c:aa}{lo:iI}{O:cD (R×Obj)}{C N:R}{l d:LC}{f a:Bool}
theorem LW.now{w:SR}{K:DK}{v:cK}{q r s t:cR}{m:R}{k:dX}{p:Zs}{o:cD pu}(u:LW i W j db sbqq h g mem b e c lo O w K v q r s t C m N k p o d bF l f):vF ((v::bZ q r s t).map<|kr w.bj) d.1:=by
 obtain⟨_,_,n⟩:=u.uM;rw[aZ,n.mem,n.Be];exact u.yU
theorem LW.shut{p:I}{E:SR}{K:DK}{T:cK}{F L P Q:cR}{n:R}{m:dX}{w:Zs}{v:cD pu}(o:LW i W j db sbqq h g mem b e c lo O E K T F L P Q C n N m w v d bX l f)(A:bM p sbqq E 0)(r:J (λu=>u=sbqq) W p):LW i p j db sbqq h g mem b e c lo O E K T F L P Q C n N m w v d bX l f:=by
 obtain⟨x,D,B,k,hL⟩:=o.uM;have s:gq W p db sbqq K K:=BS hL.aN o.rI r;have t:=o.kW (S:=λu=>u=sbqq) (λu x=>by have y:u=sbqq:=x;rw[y];exact o.low.2.1);exact o.Pb s.dm (λ_ q=>q) A ⟨x,D,B,k,{hL with aN:=s.ok,steps:=Steps.ay hL.steps r t.1,pow:=hL.pow.ay r t.2}⟩ o.yU o.oY ⟨o.num.1,ai _⟩ o.len o.mw
theorem LW.read{t:I}{s:SR}{K:DK}{A:cK}{v w x y:cR}{m:R}{k:dX}{r:Zs}{u:cD pu}(n:LW i W j s.aN sbqq h g mem b e c lo O s K A v w x y C m N k r u d bF l f)(D:Inv W sbqq s K A v w x y C m N k (iR 1 r))(L:tL W t sbqq s K A v w x y C):jg i t j s.aN sbqq h g mem b e c lo O C N d bF l f:=by
 obtain⟨B,F,P,Q,E,o⟩:=D.reads (am n.tM) L;obtain⟨p,_,_⟩:=n.uM;exact⟨s,B,A,v,w,x,y,m,k,r,u,n.Pb F.dm (λ_ q=>q) E ⟨p,rfl,o⟩ n.yU n.oY ⟨n.num.1,ai _⟩ n.len n.mw⟩
theorem LW.wrote{L:I}{ac:SR}{an:DK}{ba:cK}{ao au av ax:cR}{t:R}{r:dX}{u:Zs}{V:cD pu}{v E o:R}{m:iI}{w:Y->ab->Option ab}(X:LW i W j ac.aN sbqq h g mem b e c lo O ac an ba ao au av ax C t N r u V d bF l f)(hP:lM W L sbqq ac 0 an v E (iR 1 u) o w)(hl:z m<=v)(hT:v<=1000000)(P:N<=E)(Q:zT m/\∀D ad,(D,ad)∈m↔w o D=M ad)(p:∀al,al∈sG (iR 1 u)->∀q,w al q=fj al (ba::bZ ao au av ax) q):jg i L j ac.aN sbqq h g mem b e c lo O v E (m,d.2) bF l f:=by
 obtain⟨s',K',K,x,y,A,B,s,n,k⟩:=hP;obtain⟨F,_,_⟩:=X.uM;obtain⟨g1,g2,_,_,g5,g6⟩:=k.same;obtain⟨p1,p2,p3⟩:=X.oY rfl;refine⟨s',K',K,x,y,A,B,s,n,u,V,X.Pb k.fm.dm (λD q=>g6▸q) k.box ⟨g2.trans F,g1,k.inv⟩ ?_ (λ_=>⟨p1,g5.trans p2,λbb T=>(p3 bb T).congr<|λq=>?_⟩) ⟨aF X.num.1 P,P⟩ hl hT⟩;(have S:gQ [] n.flatten::(bZ x y A B).map (kr ((s+z n:R):Y))=(K::bZ x y A B).map (kr o):=by rw[aZ,<-k.Be,k.inv.mem,k.inv.Be]);rw[S];exact⟨Q.1,λD ad=>by rw[show seen ((K::bZ x y A B).map<|kr o) D=w o D from k.uA o (.inr rfl) D];exact Q.2 D ad⟩;have S:=yE u 1 bb T;exact(k.uA _ (.inl S) q).trans<|p _ S q
theorem XY(p:jg i W j db sbqq h g mem b e c lo O C N d a l f)(k:ab)(v:k.size<=140737488351232):cA bG 29 #[aA sbqq,aj k] W λt q=>t=aP (if a then .tuple #[aj ⟨#[]⟩,aO bF,lC 6]else .tuple #[aj (sB d.1 k).1,aO (sB d.1 k).2.1,lC (sB d.1 k).2.2])/\jg i q j db sbqq h g mem b e c lo O C N d a l f:=by
 obtain⟨F,K,E,y,A,B,D,o,n,x,w,p⟩:=p;cases a with
 |true=>
  apply(OO k p.tM p.uM.1).mono;rintro t q⟨rfl,m,r⟩;exact⟨rfl,F,K,E,y,A,B,D,o,n,x,w,p.shut m r⟩
 |false=>
  have m:=p.now;obtain⟨s,rfl,r⟩:=p.uM;apply(Vb k p.tM r.st s v).mono;rintro t q⟨rfl,u⟩;refine⟨?_,p.read r u⟩;rw[Mm r.all m];rfl
def Jz(a:Bool)(k:Xp)(n:Y)(m:ab):ab×Bool×Y:=if a then(⟨#[]⟩,bF,6)else match VM k n with
 |some l=>sB l m
 |none=>(⟨#[]⟩,bF,5)
theorem UA(o:jg i W j db sbqq h g mem b e c lo O C N d a l f)(u:Y)(k:ab)(B:k.size<=140737488351232):cA bG 35 #[aA sbqq,aq u,aj k] W λx q=>x=aP (dE #[aj (Jz a d.2 u k).1,aO (Jz a d.2 u k).2.1,lC (Jz a d.2 u k).2.2])/\jg i q j db sbqq h g mem b e c lo O C N d a l f:=by
 obtain⟨X,K,T,L,P,Q,S,n,m,w,F,o⟩:=o;cases a with
 |true=>
  apply(JB u k o.tM o.uM.1).mono;rintro x q⟨rfl,p,r⟩;exact⟨rfl,X,K,T,L,P,Q,S,n,m,w,F,o.shut p r⟩
 |false=>
  obtain⟨D,V,E⟩:=o.oY rfl;obtain⟨t,rfl,p⟩:=o.uM;apply(OP (iR 1 w) u k o.tM p.st p.oY t B).mono;rintro x q⟨rfl,y⟩;refine⟨?_,o.read p y⟩;unfold Jz;rw[<-D];rcases Bn w u with⟨ac,v,_,A,r,s⟩|⟨r,s⟩
  .simp only[r,s];rw[Mm p.all<|E v<|gz A];rfl
  .simp only[r,s];rfl
def zb(a:Bool)(n:Xp)(o:Y)(lo m:ab)(k:Y):iI×Y:=if a then([],6)else match VM n o with
 |some l=>(ng l lo m k,0)
 |none=>([],5)
theorem RM(q:jg i W j db sbqq h g mem b e c lo O C N d a l f)(B:Y)(m o:ab)(k:Y):cA bG 37 #[aA sbqq,aq B,aj m,aj o,aq k] W λE p=>∃v,E=aP (dE #[v,lC (zb a d.2 B m o k).2])/\zk W p v (zb a d.2 B m o k).1/\jg i p j db sbqq h g mem b e c lo O C N d a l f:=by
 obtain⟨ad,Q,ac,S,T,V,X,t,s,w,P,q⟩:=q;cases a with
 |true=>
  apply(FW B m o k q.tM q.uM.1).mono;rintro E p⟨rfl,n,r⟩;exact⟨_,rfl,bN _ _ _ _,ad,Q,ac,S,T,V,X,t,s,w,P,q.shut n r⟩
 |false=>
  obtain⟨K,p2,L⟩:=q.oY rfl;obtain⟨r,rfl,n⟩:=q.uM;unfold zb;rw[<-K];rcases Bn w B with⟨al,u,_,F,x,y⟩|⟨x,y⟩
  .apply(KI (iR 1 w) B u.1 m o k n.oY x q.tM n.st r).mono;rintro E p⟨v,rfl,D,A⟩;rw[sH n.all<|L u<|gz F]at D;simp only[y];exact⟨v,rfl,D,q.read n A⟩
  .apply(KJ (iR 1 w) B m o k q.tM n.st n.oY r x).mono;rintro E p⟨rfl,A⟩;simp only[y];exact⟨_,rfl,bN _ _ _ _,q.read n A⟩
theorem EM(r:jg i W j db sbqq h g mem b e c lo O C N d a l f)(m n:ab)(k:Y):cA bG 34 #[aA sbqq,aj m,aj n,aq k] W λD s=>∃p,D=aP p/\zk W s p (if a=bX\/k<=0 then []else ng d.1 m n k)/\jg i s j db sbqq h g mem b e c lo O C N d a l f:=by
 by_cases y:k<=0;apply(Gd W sbqq m n k y).mono;rintro D s⟨rfl,B⟩;exact⟨_,rfl,by rw[dt<|.inr y];exact bN _ _ _ _,r.still B⟩
 .obtain⟨V,X,T,L,P,Q,S,u,t,K,F,r⟩:=r;cases a with
  |true=>
   apply(De m n k (by omega) r.tM r.uM.1).mono;rintro D s⟨p,rfl,w,o,B⟩;exact⟨p,rfl,by rw[dt<|.inl rfl];exact w,V,X,T,L,P,Q,S,u,t,K,F,r.shut o B⟩
  |false=>
   have o:=r.now;obtain⟨x,rfl,v⟩:=r.uM;have A:z (tf V.bj m n 0<|T::bZ L P Q S)<=1000000000:=by
    rw[sH v.all o];have:=mT d.1 m n 0;have:=r.len;have:=r.mw;omega
   apply(Gc m n k (by omega) r.tM v.st x A).mono;rintro D s⟨p,rfl,w,E⟩;rw[QV _ m n k (by omega),sH v.all o]at w;exact⟨p,rfl,by rw[dh (by rintro(q|q);cases q;exact y q)];exact w,r.read v E⟩
def rl(d:iI)(k:uN):iI:=if gd k=0 then Tk d k else d
theorem Iq(d:iI)(k:uN)(m:z d<=C):z (rl d k)<=C+lD k:=by
 unfold rl lD;by_cases q:gd k=0;rw[dt q,dt q];have:=Fm d k;omega;rw[dh q,dh q];omega
theorem wA{s:SR}{ac:DK}{E:cK}{w x y A:cR}{t:R}{r:dX}{p:fw}{d:iI}(n:Inv W sbqq s ac E w x y A C t N r p)(K:vF ((E::bZ w x y A).map<|kr s.bj) d)(k:uN):(zT (rl d k)/\∀o v,(o,v)∈rl d k↔xA p E (bZ w x y A) ((s.bj:Y)+1) k (ze s.bj k) o=M v)/\∀Q,Q∈sG p->∀q,xA p E (bZ w x y A) ((s.bj:Y)+1) k Q q=fj Q (E::bZ w x y A) q:=by
 unfold rl xA ze;by_cases q:gd k=0;rw[dt q,dt q,dt q];obtain⟨_,V,hv⟩:=CR q;have T:=n.bn;have X:=n.mw;(have L:∀S∈k.map (mq<|(s.bj:Y)+1),S.Good:=λS B=>by obtain⟨m,D,rfl⟩:=bz.1 B;exact Fi (V m D) (hv m D) (by omega)<|by omega);(have F:∀S∈k.map (mq<|(s.bj:Y)+1),S.bK=(s.bj:Y)+1:=λS B=>by obtain⟨m,D,rfl⟩:=bz.1 B;rfl);refine⟨?_,λQ P o=>by rw[dt q];exact n.Un L F P o⟩;have u:=Xa ((s.bj:Y)+1) k (nh n.row _) K;rcases k with _|⟨c0,k⟩;refine⟨u.1,λo v=>?_⟩;rw[u.2 o v];show _↔fj s.bj (gu p E []::bZ w x y A) o=M v;rw[<-n.yB (.inr rfl) o];rfl;refine⟨u.1,λo v=>?_⟩;rw[u.2 o v];show _↔fj ((s.bj+1:R):Y) (gu p E _::bZ w x y A) o=M v;rw[show((s.bj+1:R):Y)=(s.bj:Y)+1 by omega,n.Uq L F o];rw[dh q,dh q,dh q];exact⟨K,λQ P o=>by rw[dh q]⟩
theorem EL(q:jg i W j db sbqq h g mem b e c lo O C N d a l f)(r:aa)(m:uN)(k:Bool)(x:ym W r m)(v:∀K,bY r=M K->K<G (H W)/\K≠sbqq)(F:∀P∈m,P.key.size<=140737488351232/\P.val.size<=140737488351232)(E:z m<=1000000000)(t:C+lD m<=1000000)(y:N+1<=100000000):cA bG 12 #[aA sbqq,r,aO k] W λB s=>B=aP (lC<|if a then 6 else gd m)/\jg i s j db sbqq h g mem b e c lo O (C+lD m) (N+1) (if a then d.1 else rl d.1 m,d.2) a l f:=by
 obtain⟨ad,Q,ac,S,T,V,X,p,o,A,L,q⟩:=q;cases a with
 |true=>
  apply(Aa r k q.tM q.uM.1).mono;rintro B s⟨rfl,n,u⟩;exact⟨rfl,jg.mono ⟨ad,Q,ac,S,T,V,X,p,o,A,L,q.shut n u⟩ (by omega) t (by omega) y⟩
 |false=>
  have n:=q.now;obtain⟨w,rfl,u⟩:=q.uM;apply(Dw (iR 1 A) k q.tM u w x v F E t y).mono;rintro B s⟨rfl,D⟩;exact⟨rfl,q.wrote D (Iq d.1 m q.len) t (by omega) (wA u n m).1 (wA u n m).2⟩
theorem Uz(q:jg i W j db sbqq h g mem b e c lo O C N d a l f)(m r n o:ab)(p:Bool)(Q:n.size<=140737488351232/\o.size<=140737488351232)(y:C+lD [⟨n,o,p⟩]<=1000000)(F:N+1<=100000000):cA bG 63 #[aA sbqq,aj m,aj r,eB #[aj n,aj o,aO p]] W λL w=>∃s,L=aP (dE #[s,aq<|if a then 6 else gd [⟨n,o,p⟩]])/\zk W w s (if a then []else ng d.1 m r 0)/\jg i w j db sbqq h g mem b e c lo O (C+lD [⟨n,o,p⟩]) (N+1) (if a then d.1 else rl d.1 [⟨n,o,p⟩],d.2) a l f:=by
 obtain⟨al,an,ad,T,V,X,ac,v,u,K,S,q⟩:=q;have E:=q.wT;have D:=q.Zm;cases a with
 |true=>
  apply(Gb m r n o p q.tM q.uM.1 E D.1).mono;rintro L w⟨s,rfl,x,k,t⟩;exact⟨s,rfl,x,jg.mono ⟨al,an,ad,T,V,X,ac,v,u,K,S,q.shut k t⟩ (by omega) y (by omega) F⟩
 |false=>
  have k:=q.now;obtain⟨A,rfl,t⟩:=q.uM;have B:z (tf al.bj m r 0<|ad::bZ T V X ac)<=1000000000:=by
   rw[sH t.all k];have:=mT d.1 m r 0;have:=q.len;have:=q.mw;omega
  apply(Ln (iR 1 K) m r n o p q.tM t A E D Q y F B).mono;rintro L w⟨s,rfl,x,P⟩;rw[sH t.all k]at x;exact⟨s,rfl,x,q.wrote P (Iq d.1 _ q.len) y (by omega) (wA t k _).1 (wA t k _).2⟩
theorem Ow(k:jg i W j db sbqq h g mem b e c lo O C N d a l f)(r:N+1<=100000000):cA bG 21 #[aA sbqq] W λu p=>u=aP (lC<|if a then 6 else 0)/\jg i p j db sbqq h g mem b e c lo O C (N+1) d a l f:=by
 obtain⟨F,K,E,y,A,B,D,o,n,t,x,k⟩:=k;have s:=k.mw;cases a with
 |true=>
  apply(Dg k.tM k.uM.1).mono;rintro u p⟨rfl,m,q⟩;exact⟨rfl,jg.mono ⟨F,K,E,y,A,B,D,o,n,t,x,k.shut m q⟩ (ai _) s (by omega) r⟩
 |false=>
  have m:=k.now;obtain⟨q,rfl,v⟩:=k.uM;apply(Gp (iR 1 t) k.tM v q r).mono;rintro u p⟨rfl,w⟩;exact⟨rfl,k.wrote w k.len s (by omega) m<|λ_ _ _=>rfl⟩
theorem LI(t:jg i W j db sbqq h g mem b e c lo O C N d a l f):cA bG 22 #[aA sbqq] W λv u=>v=aP (lC<|if a then 6 else 0)/\jg i u j db sbqq h g mem b e c lo O C N d bX l f:=by
 obtain⟨E,L,ad,Q,T,w,V,n,m,K,F,t⟩:=t;cases a with
 |true=>
  apply(VD t.tM t.uM.1).mono;rintro v u⟨rfl,y,k⟩;exact⟨rfl,E,L,ad,Q,T,w,V,n,m,K,F,t.shut y k⟩
 |false=>
  have r:=t;obtain⟨A,rfl,k⟩:=t.uM;have B:=t.kW (S:=λL=>L=sbqq) (λL v=>by have X:L=sbqq:=v;rw[X];exact t.low.2.1);have s:∀{n:aa}{P k:R}{m:jd},Row W k n P m->∃ac P w,n=ah ac P w:=λq=>by
   obtain⟨ac,w,v⟩:=pH q;exact⟨ac,_,w,v⟩
  refine(SU t.tM A (s k.st.mem) (s k.st.l0.row) (s k.st.l1.row) (s k.st.l2.row) (s k.st.l3.row) k.st.aN k.st.rI k.st.kW.pow (λv=>B.2 v.symm) (by have:=k.rh.lt;have:=k.nx;have:=k.mw;omega) (λq=>⟨_,k.rh.log<|k.loose q,by have:=k.NK.1;omega⟩) (by have:=k.eU;have:=k.mw;omega)).mono ?_;rintro v u⟨rfl,D,p,hf,hm,y⟩;have o:=k.laid;have x:wW u E.aN D Q T w V C n N E.next E.log E.gF m:=o.again p.ok (λP=>by rw[hf]) hm (Steps.ay o.steps p.ay<|λq=>q.elim o.fC B.1) (o.pow.ay p.ay<|λq=>q.elim o.mJ B.2) (λq=>(p.bw _ q).elim o.fC (λk=>by have:=o.steps.lt;omega))<|λq=>(p.bw _ q).elim o.mJ (λk=>by have:=o.pow.lt;omega);exact⟨rfl,_,D,ad,Q,T,w,V,n,m,K,F,r.Pb p.dm (λL q=>by cases q) y ⟨rfl,_,_,_,x⟩ r.yU (λq=>by cases q) ⟨r.num.1,ai _⟩ r.len r.mw⟩
def sZ(a:Bool)(k:LC):Y×Y×Xp:=if a then(0,6,k.2)else if 4<=z (k.2.filter Option.isSome)then(0,2,k.2)else((z k.2:Y)+1,0,k.2++[M k.1])
theorem LH(m:jg i W j db sbqq h g mem b e c lo O C N d a l f)(B:N+1<=100000000):cA bG 17 #[aA sbqq] W λx y=>x=aP (dE #[aq (sZ a d).1,lC (sZ a d).2.1])/\jg i y j db sbqq h g mem b e c lo O C (N+1) (d.1,(sZ a d).2.2) a l f:=by
 obtain⟨s,ac,au,ad,al,an,ao,o,n,k,S,m⟩:=m;have A:=m.mw;cases a with
 |true=>
  apply(Db m.tM m.uM.1).mono;rintro x y⟨rfl,D,F⟩;exact⟨rfl,jg.mono ⟨s,ac,au,ad,al,an,ao,o,n,k,S,m.shut D F⟩ (ai _) A (by omega) B⟩
 |false=>
  have v:=m.now;obtain⟨K,L,p3⟩:=m.oY rfl;have E:=BD k 1;rw[K]at E;have w:=QU k;rw[K]at w;obtain⟨r,rfl,t⟩:=m.uM;by_cases P:4<=z (d.2.filter Option.isSome)
  .have x:sZ bF d=(0,2,d.2):=by unfold sZ;rw[dh (by simp),dt P]
   rw[x];apply(FT (iR 1 k) m.tM t.st t.oY r<|by omega).mono;rintro x y⟨rfl,p⟩;exact⟨rfl,(m.read t p).mono (ai _) A (by omega) B⟩
  .have x:sZ bF d=((z d.2:Y)+1,0,d.2++[M d.1]):=by unfold sZ;rw[dh (by simp),dh P]
   rw[x];obtain⟨Q,u,X,V⟩:=t.oY.ex;refine(FR (iR 1 k) Q m.tM t r (by omega) (λax hp=>by have:=vp k 1 ax hp;omega) (by have:=m.num.1;omega) u).mono ?_;rintro x y⟨rfl,D,p,F⟩;have T:iR 1 k++[(s.ig+1,s.bj)]=iR 1 (k++[M (s.bj,d.1)]):=by rw[zM,L,vI]
   rw[T]at p;refine⟨by rw[L,w];rfl,⟨{s with ig:=s.ig+1},ac,au,ad,al,an,ao,o,n,k++[M (s.bj,d.1)],S,m.Pb (s':={s with ig:=s.ig+1}) (N':=N+1) (zs':=k++[M (s.bj,d.1)]) (lc':=(d.1,d.2++[M d.1])) ⟨p.st.aN,F.mono<|λav q=>.inl<|q.imp id (λ(x:av=Q)=>by rw[x];exact u),λ_ q=>.inl q⟩ (λ_ q=>q) D ⟨r,rfl,p.mono (ai _) A (by omega) B⟩ m.yU (λ_=>⟨by rw[NG,K],by show s.ig+1=_;rw[L];simp,λba hx=>?_⟩) ⟨by have:=m.num.1;simp;omega,by omega⟩ m.len A⟩⟩;rcases ap.1 hx with q|q
   .exact p3 ba q
   .have q':=bI.1 q;cases q';exact v
def NV(a:Bool)(k:Xp)(n:Y):Y×Xp:=if a then(6,k)else match VM k n with
 |some _=>(0,k.set (n-1).toNat none)
 |none=>(5,k)
theorem Ov(p:jg i W j db sbqq h g mem b e c lo O C N d a l f)(y:Y):cA bG 19 #[aA sbqq,aq y] W λQ A=>Q=aP (lC (NV a d.2 y).1)/\jg i A j db sbqq h g mem b e c lo O C N (d.1,(NV a d.2 y).2) a l f:=by
 obtain⟨s,al,P,an,ao,au,av,o,n,k,X,p⟩:=p;have hT:=p.mw;cases a with
 |true=>
  apply(Eh y p.tM p.uM.1).mono;rintro Q A⟨rfl,E,K⟩;exact⟨rfl,s,al,P,an,ao,au,av,o,n,k,X,p.shut E K⟩
 |false=>
  have B:=p.now;obtain⟨L,p2,p3⟩:=p.oY rfl;obtain⟨t,rfl,v⟩:=p.uM;unfold NV;rcases Bn k y with⟨S,x,hn,hy,D,u⟩|⟨D,u⟩
  .rw[L]at u;simp only[u];obtain⟨T,w,ad,ac⟩:=v.oY.ex;apply(IP (iR 1 k) y T x.1 p.tM v t D w).mono;rintro Q A⟨rfl,V,E,r,m,K⟩;have hj:(y-1).toNat=S:=by omega
   have e3:ml (iR 1 k) y=iR 1 (k.set S none):=by
    rw[<-BF k 1 S x hy,hn];congr 1;omega
   rw[e3]at r m;have F:∀P,M P∈k.set S none->M P∈k:=λP B=>(jQ B).elim id (λq=>by cases q);refine⟨rfl,{s with memory:=V},al,_,an,ao,au,av,o,n,k.set S none,X,p.Pb (s':={s with memory:=V}) (lc':=(d.1,d.2.set (y-1).toNat none)) ⟨r.st.aN,K.mono<|λu q=>.inl<|q.imp id (λ(Q:u=T)=>by rw[Q];exact w),λ_ q=>.inl q⟩ (λ_ q=>q) E ⟨t,rfl,r⟩ p.yU (λ_=>⟨by rw[QT,L,hj],by rw[eT];exact p2,λP B=>(p3 P<|F P B).congr<|λq=>m _ (.inl<|yE _ 1 P B) q⟩) ⟨by rw[eT];exact p.num.1,ai _⟩ p.len hT⟩
  .rw[L]at u;simp only[u];apply(IQ (iR 1 k) y p.tM v.st v.oY t D).mono;rintro Q A⟨rfl,m⟩;exact⟨rfl,p.read v m⟩
end
section
variable{i W:I}{j db sbqq f:R}{d:PB}{mem c:Y}{g e:aa}{lo:iI}{O:cD (R×Obj)}{C N:R}{l h:LC}{b a:Bool}
theorem jg.TW(m:jg i W j db sbqq f d mem c g e lo O C N h a l b)(n:Y)(k:ab)(v:k.size<=140737488351232):cA bG 36 #[aA f,aq n,aj k] W λx w=>x=aP (dE #[aj (Jz b l.2 n k).1,aO (Jz b l.2 n k).2.1,aq (Jz b l.2 n k).2.2])/\w=W:=by
 obtain⟨S,K,Q,D,E,F,L,s,q,B,r,m⟩:=m;refine(IU d.1 r n k m.ref.ref m.ref.FQ (λy u=>by have:=m.ref.len y u;omega) v).mono ?_;rintro x A⟨rfl,t⟩;refine⟨?_,t⟩;unfold Jz xV;rw[<-m.ref.abs];cases b with
 |true=>rfl
 |false=>rcases AX r n with⟨P,y,_,_,o,p⟩|⟨o,p⟩<;>(simp only[o,p];rfl)
theorem jg.Rh(r:jg i W j db sbqq f d mem c g e lo O C N h a l b)(u:Y)(m p:ab)(k:Y):cA bG 38 #[aA f,aq u,aj m,aj p,aq k] W λD x=>∃q,D=aP (dE #[q,aq (zb b l.2 u m p k).2])/\py x (G<|H W) q (zb b l.2 u m p k).1/\Below (G<|H W) W x:=by
 obtain⟨X,L,V,P,Q,S,T,w,v,K,t,r⟩:=r;refine(Ga d.1 t u m p k r.ref.ref r.ref.FQ (λB A=>by have:=r.ref.len B A;omega)).mono ?_;rintro D E⟨q,rfl,s,y⟩;refine⟨q,?_,?_,y⟩
 .unfold zb;rw[<-r.ref.abs];cases b with
  |true=>rfl
  |false=>rcases AX t u with⟨F,B,_,_,n,o⟩|⟨n,o⟩<;>(simp only[n,o];rfl)
 .unfold zb;rw[<-r.ref.abs];cases b with
  |true=>exact s
  |false=>rcases AX t u with⟨F,B,_,_,n,o⟩|⟨n,o⟩<;>(simp only[n,o]at s|-;exact s)
theorem jg.Wu(m:jg i W j db sbqq f d mem c g e lo O C N h a l b)(h1:z l.1<=1000000)(hN:z l.2+1<=N)(av:N<=100000000):cA bG 18 #[aA f] W λu w'=>u=aP (dE #[aq (sZ b l).1,aq (sZ b l).2.1])/\∃V,jg i w' j db sbqq f V mem c g e lo O C N h a (l.1,(sZ b l).2.2) b:=by
 obtain⟨bb,ad,ba,al,an,ao,au,t,s,X,y,m⟩:=m;cases b with
 |true=>
  apply(Ei d.1 m.ref.ref).mono;rintro u F⟨rfl,rfl⟩;exact⟨rfl,d,bb,ad,ba,al,an,ao,au,t,s,X,y,m⟩
 |false=>
  have L:=Hk y;rw[m.ref.abs]at L;have Q:z y=z l.2:=by rw[<-m.ref.abs];simp
  by_cases h4:4<=z (l.2.filter Option.isSome)
  .have u:sZ bF l=(0,2,l.2):=by unfold sZ;rw[dh (by simp),dt h4]
   rw[u];apply(IT d.1 y m.ref.ref m.ref.FQ<|by omega).mono;rintro u F⟨rfl,rfl⟩;exact⟨rfl,d,bb,ad,ba,al,an,ao,au,t,s,X,y,m⟩
  .have u:sZ bF l=((z l.2:Y)+1,0,l.2++[M l.1]):=by unfold sZ;rw[dh (by simp),dh h4]
   rw[u];have P:bY d.2≠M f:=λq=>(m.ref.sep f q).1 rfl;apply(IS d.1 y m.ref.ref m.ref.FQ (by omega) m.ref.own m.ay.size P m.ref.kind).mono;rintro u F⟨rfl,ac,D,S,hp,hh,ho,E,k,K⟩;have ax:=m.GR.lt;have o:∀n,bY ac=M n->n<G (H W)/\n≠f/\bY d.2≠M n:=λn w=>by
    rw[S]at w;exact⟨m.ref.ref.lt n w,(m.yR n<|.inl w).2.2,λq=>(m.ref.sep n q).2.1 w⟩
   have x:∀p,bY D=M p->bY d.2=M p\/G (H W)<=p:=λp q=>by
    rcases K with u|⟨n,u,w⟩
    .exact .inl<|u▸q
    .rw[u]at q;cases q;exact .inr w
   have B:jq F ac l.1:=E.row hp<|λp k=>⟨λq=>q.elim (o p k).2.1 (o p k).2.2,(o p k).1⟩;have T:=E.size;refine⟨by rw[Q],(d.1,D),bb,ad,ba,al,an,ao,au,t,s,X,y++[(⟨bX,ac,l.1⟩:pu)],m.refs E ⟨⟨⟨ac,hh,B,S⟩,m.ref.ref.ne,λn w=>ag (m.ref.ref.lt n w) T⟩,⟨dr ho,?_,?_,by rw[af];simp;omega⟩,ho,k,by rw[aQ,m.ref.abs];rfl,?_,?_⟩ ?_ x (by simp;omega)⟩
   .intro A r v;rcases ap.1 r with q|q
    .have n:=m.ref.FQ.each A q v;exact⟨E.row n.1<|λp k=>⟨λo=>o.elim (m.yR p<|.inr<|.inr ⟨A,q,v,k⟩).2.2<|λo=>(m.ref.sep p o).2.2 A q v k,n.2 p k⟩,λp k=>ag (n.2 p k) T⟩
    .rw[bI.1 q];exact⟨B,λp k=>ag (o p k).1 T⟩
   .intro A r;rcases ap.1 r with q|q
    .exact m.ref.FQ.shape A q
    .rw[bI.1 q];obtain⟨x0,c0,e0⟩:=bS hp;exact⟨_,_,_,e0⟩
   .intro A r;rcases ap.1 r with q|q
    .exact m.ref.len A q
    .rw[bI.1 q];exact h1
   .intro p k;rcases x p k with q|q
    .refine⟨(m.ref.sep p q).1,(m.ref.sep p q).2.1,λA r v u=>?_⟩;rcases ap.1 r with n|n
     .exact(m.ref.sep p q).2.2 A n v u
     .rw[bI.1 n]at u;exact(o p u).2.2 q
    .refine⟨by omega,λu=>by have:=m.ref.ref.lt p u;omega,λA r v u=>?_⟩;rcases ap.1 r with n|n
     .have:=(m.ref.FQ.each A n v).2 p u;omega
     .rw[bI.1 n]at u;have:=(o p u).1;omega
   .intro p k;rcases k with q|q|⟨A,r,v,q⟩
    .exact .inl<|.inl q
    .exact(x p q).imp (λq=>.inr<|.inl q) id
    .rcases ap.1 r with n|n
     .exact .inl<|.inr<|.inr ⟨A,n,v,q⟩
     .rw[bI.1 n]at q;exact .inl<|.inl<|S▸q
theorem jg.NW(n:jg i W j db sbqq f d mem c g e lo O C N h a l b)(F:Y):cA bG 20 #[aA f,aq F] W λQ w'=>Q=aP (aq (NV b l.2 F).1)/\jg i w' j db sbqq f d mem c g e lo O C N h a (l.1,(NV b l.2 F).2) b:=by
 obtain⟨al,S,ad,T,V,X,ac,s,r,E,u,n⟩:=n;cases b with
 |true=>
  apply(zc d.1 u F n.ref.ref n.ref.FQ<|.inl rfl).mono;rintro Q y⟨rfl,rfl⟩;exact⟨rfl,al,S,ad,T,V,X,ac,s,r,E,u,n⟩
 |false=>
  unfold NV;rcases AX u F with⟨P,an,hn,hj,A,v⟩|⟨A,v⟩
  .rw[n.ref.abs]at v;simp only[v];subst hn;have D:((P:Y)+1-1).toNat=P:=by omega
   apply(Ej d.1 u P an n.ref.ref n.ref.FQ A hj n.ref.own n.ref.kind).mono;rintro Q y⟨rfl,L,hg,hk⟩;have x:J (λw=>bY d.2=M w) W y:=J.dR hg<|λ_ q=>.inl q;have t:∀k∈u.set P AU,k.live=bX->k∈u:=λk p o=>(jQ p).elim id (λq=>by rw[q]at o;cases o);refine⟨rfl,al,S,ad,T,V,X,ac,s,r,E,u.set P AU,n.refs (x.mono<|λ_ q=>.inl<|.inr q) ⟨n.ref.ref.ay x (λq=>(n.ref.sep f q).1 rfl)<|λK B q=>(n.ref.sep K q).2.1 B,⟨dr L,λk p o=>?_,λk p=>?_,by rw[eT];exact n.ref.FQ.small⟩,L,hk,by rw[Xn,n.ref.abs,D];rfl,λk p=>?_,λw m=>⟨(n.ref.sep w m).1,(n.ref.sep w m).2.1,λk p o=>(n.ref.sep w m).2.2 k (t k p o) o⟩⟩ (λw q=>.inl ?_) (λ_ q=>.inl q) (by show z (List.set _ _ _)<=N;rw[eT];exact n.num.2)⟩
   .have K:=n.ref.FQ.each k (t k p o) o;exact⟨x.row K.1<|λw m=>⟨λq=>(n.ref.sep w q).2.2 k (t k p o) o m,K.2 w m⟩,λw m=>ag (K.2 w m) x.size⟩
   .rcases jQ p with q|q
    .exact n.ref.FQ.shape k q
    .rw[q];exact⟨none,0,0,rfl⟩
   .rcases jQ p with q|q
    .exact n.ref.len k q
    .rw[q];exact bB _
   .rcases q with q|q|⟨k,p,o,q⟩
    .exact .inl q
    .exact .inr<|.inl q
    .exact .inr<|.inr ⟨k,t k p o,o,q⟩
  .rw[n.ref.abs]at v;simp only[v];apply(zc d.1 u F n.ref.ref n.ref.FQ<|.inr A).mono;rintro Q y⟨rfl,rfl⟩;exact⟨rfl,al,S,ad,T,V,X,ac,s,r,E,u,n⟩
end
def fW(i A B:Y)(S T:ab)(L:aa):Obj:=aw #[aq i,aq A,aq B,aj S,aj T,L] 31 (0,0)
def wF(i A B:Y)(S T:ab)(L:aa):aa:=eB #[aq i,aq A,aq B,aj S,aj T,L]
section
variable{h W:I}{e db sbqq g:R}{f:PB}{mem b:Y}{d c:aa}{lo:iI}{O:cD (R×Obj)}{C N:R}{l:LC}{a:Bool}
theorem jg.gN{W:I}{k:LC}{i:Bool}(m:jg h W e db sbqq g f mem b d c lo O C N k a l i):aS W (U e 0)=M (aA db)/\aS W (U e 1)=M (aA sbqq)/\aS W (U e 2)=M (aA g)/\aS W (U e 5)=M d/\aS W (U e 6)=M c:=by
 have j:=m.box;refine⟨?_,?_,?_,?_,?_⟩<;>(rw[bL j];rfl)
theorem jg.dU{W:I}{n:LC}{k:Bool}{i:R}{j A B:Y}{S T:ab}{L:aa}(o:jg h W e db sbqq g f mem b d c lo ((i,fW j A B S T L)::O) C N n a l k):aS W (U i 0)=M (aq j)/\aS W (U i 1)=M (aq A)/\aS W (U i 2)=M (aq B)/\aS W (U i 3)=M (aj S)/\aS W (U i 4)=M (aj T)/\aS W (U i 5)=M L:=by
 have m:W.heap[i]?=M (fW j A B S T L):=o.obj (p:=(i,fW j A B S T L))<|dC ..;unfold fW at m;refine⟨?_,?_,?_,?_,?_,?_⟩<;>(rw[bL m];rfl)
def OM(a:Bool)(l:iI)(k:ab):ab×Bool×Y:=if a then(⟨#[]⟩,bF,6)else sB l k
theorem WI{j:LC}{k:Bool}(q:jg h W e db sbqq g f mem b d c lo O C N j a l k)(i:ab)(o:i.size<=140737488351232):cA bG 29 #[aA sbqq,aj i] W λp m=>p=aP (dE #[aj (OM a j.1 i).1,aO (OM a j.1 i).2.1,lC (OM a j.1 i).2.2])/\jg h m e db sbqq g f mem b d c lo O C N j a l k:=by
 apply(XY q i o).mono;rintro p m⟨rfl,n⟩;refine⟨?_,n⟩;cases a<;>rfl
theorem TV{W:I}{g:R}{f:PB}(q:mO W g f.1 l.1 a f.2)(i:ab)(k:z l.1<=1000000000000)(m:i.size<=140737488351232):cA bG 30 #[aA g,aj i] W λo n=>o=aP (dE #[aj (OM a l.1 i).1,aO (OM a l.1 i).2.1,aq (OM a l.1 i).2.2])/\n=W:=by
 apply(NX f.1 i q k m).mono;rintro o p⟨rfl,j⟩;refine⟨?_,j⟩;cases a<;>rfl
theorem jg.lens{W:I}{k:LC}{i:Bool}(j:jg h W e db sbqq g f mem b d c lo O C N k a l i):z k.1<=C/\C<=1000000/\z l.2<=N:=by
 obtain⟨v,K,u,q,r,s,t,n,m,p,o,j⟩:=j;exact⟨j.len,j.mw,j.num.2⟩
theorem TZ(ad:jg h W e db sbqq g f mem b d c lo O C N l a l a)(al an:Y)(S ao:ab)(bc:Option Addr)(bb au:R)(hz:S.size<=140737488351232):cA bG 11 #[aA e,wF 2 al an S ao<|ah bc bb au] W λV w'=>V=aP (aO bX)/\jg h w' e db sbqq g f mem b d c lo O C N l a l a:=by
 obtain⟨E,A⟩:∃E,G (H W)=E:=⟨_,rfl⟩;have h1:jg h (cF W<|fW 2 al an S ao<|ah bc bb au) e db sbqq g f mem b d c lo ((E,fW 2 al an S ao<|ah bc bb au)::O) C N l a l a:=ad.add (cI _ W) (by omega)<|aE _ A.symm;have t:=h1.still<|cg az _;have k:=WI t S hz;have w:=And.intro t.gN.2.1 t.dU.2.2.2.1;have av:=am ad.box;have ac:=ad.lens;have s:=λj(q:mO j g f.1 l.1 a f.2)=>TV q S (by omega) hz;obtain⟨gv,X,F,r⟩:∃gv X F,OM a l.1 S=(gv,X,F):=⟨_,_,_,rfl⟩;rw[r]at k;simp only[r]at s;simp only at k s;have T:=Z t;unfold wF;unfold fW at k w T;clear ad h1 t r;go_in
 go_wp2_with fail
 try rw[A]
 rename_i QQ L o;refine cz (λj=>aS j (U e 1)=M (aA sbqq)/\aS j (U E 3)=M (aj S)) 13 (by kernel_rfl) ?_;refine cY 0 ?_;iterate 6 (refine eJ (v:=?_) w rfl (by kernel_rfl) iV rfl ?_ ?_;rotate_left;(focus(rintro j⟨P,Q⟩;go_simp;try rfl));simp only[Act.put,dG,gp,Nat.reduceAdd])
 apply eA;refine aM (i:=6) rfl rfl (by kernel_rfl) ?_;intro KC n;go_simp;apply k.mono;rintro V W2⟨rfl,t⟩;have h3:=t.still<|cg az W2;have x:=And.intro t.gN.2.1 t.dU.2.2.2.1;have m:=Z h3;refine n _ _ (λ_=>x) ?_;try simp only[Act.put,dG,gp]
 refine cY 7 ?_;iterate 6 (refine eJ (v:=?_) x rfl (by kernel_rfl) iV rfl ?_ ?_;rotate_left;(focus(rintro j⟨P,Q⟩;go_simp;try rfl));simp only[Act.put,dG,gp,Nat.reduceAdd])
 apply eA;refine aM (i:=13) rfl rfl (by kernel_rfl) ?_;intro KL p;go_simp;refine p _ _ wH ?_;refine cX (by kernel_rfl) ?_ _;show L _ _;apply o;have B:=s _ m.ref;have u:=And.intro m.gN.2.2.1 m.dU.2.2.2.1;clear w x k t h3 n p o T;go_wp2_with fail
 rename_i QQ L o;refine cz (λj=>aS j (U e 2)=M (aA g)/\aS j (U E 3)=M (aj S)) 13 (by kernel_rfl) ?_;refine cY 0 ?_;iterate 6 (refine eJ (v:=?_) u rfl (by kernel_rfl) iV rfl ?_ ?_;rotate_left;(focus(rintro j⟨P,Q⟩;go_simp;try rfl));simp only[Act.put,dG,gp,Nat.reduceAdd])
 apply eA;refine aM (i:=6) rfl rfl (by kernel_rfl) ?_;intro KC n;go_simp;apply B.mono;rintro V W3⟨rfl,ax⟩;subst W3;refine n _ _ (λ_=>u) ?_;try simp only[Act.put,dG,gp]
 refine cY 7 ?_;iterate 6 (refine eJ (v:=?_) u rfl (by kernel_rfl) iV rfl ?_ ?_;rotate_left;(focus(rintro j⟨P,Q⟩;go_simp;try rfl));simp only[Act.put,dG,gp,Nat.reduceAdd])
 apply eA;refine aM (i:=13) rfl rfl (by kernel_rfl) ?_;intro KL p;go_simp;refine p _ _ wH ?_;refine cX (by kernel_rfl) ?_ _;show L _ _;apply o;have D:=ke F m.wT;clear B u n p o;go_wp2_with fail
 apply D.mono;rintro V W4⟨rfl,y⟩;have K:=Z<|m.still<|J.aV y;clear y D m;go_wp2_with fail
 apply(lT F _).mono;rintro V W5⟨rfl,ba⟩;subst W5;go_wp2;go_ret;exact⟨rfl,K.drop<|λp j=>aJ _ j⟩
end
structure OW(n W:I)(g db m:R)(r:PB)(v:Option Addr)(mem yu:Y)(i f:aa)(lo:iI)(O:cD (R×Obj))(K:DK)(a b c d:cR)(C tb N nx x:R)(gF:Bool)(ls:dX)(w:cD pu)(l:LC)(o:Bool):Prop where
 box:W.heap[g]?=M (aw #[aA db,fA v,aA m,aq mem,aq yu,i,f] 40 (0,0))
 ref:Cb (G<|H n) W m r l o w
 laid:wW W db K a b c d C tb N nx x gF ls
 yU:vF (gQ [] ls.flatten::(bZ a b c d).map (kr ((tb+z ls:R):Y))) l.1
 len:z l.1<=C
 By:jq W i lo
 uZ:jq W f lo
 WK:z lo<=1000000
 ay:J az n W
 low:(∀k,K.bw db k->G (H n)<=k)/\G (H n)<=m/\G (H n)<=g
 Dj:¬K.bw db g
 GR:¬K.bw db m
 yR:∀k,Ka r w k->k<G (H W)/\¬K.bw db k/\k≠g/\k≠m
 oE:∀k,bY i=M k->k<G (H W)/\¬K.bw db k/\k≠g/\k≠m/\bY r.2≠M k
 kU:∀k,bY f=M k->k<G (H W)/\¬K.bw db k/\k≠g/\k≠m/\bY r.2≠M k
 obj:∀p∈O,W.heap[p.1]?=M p.2/\¬K.bw db p.1/\p.1≠g/\p.1≠m/\¬Ka r w p.1
 Zb:∀q,v=M (U q 0)->¬K.bw db q/\∃cs t fr,W.heap[q]?=M (aw cs t fr)/\t≠293
 ne:g≠m
 g0:Steps n/\Pow n/\pU n
section
variable{n W W':I}{g db m:R}{r:PB}{v:Option Addr}{mem j s u:Y}{i f:aa}{lo:iI}{O:cD (R×Obj)}{K:DK}{a b c d:cR}{C tbqq N nx x:R}{e:Bool}{lsqq:dX}{w:cD pu}{l:LC}{o:Bool}
theorem OW.still(h:OW n W g db m r v mem j i f lo O K a b c d C tbqq N nx x e lsqq w l o)(p:J az W W'):OW n W' g db m r v mem j i f lo O K a b c d C tbqq N nx x e lsqq w l o:={h with
 box:=(p.block g (am h.box) id).trans h.box
 ref:=h.ref.ay p id<|λ_ _=>id
 laid:=h.laid.ay p
 By:=p.row h.By<|λt k=>⟨id,(h.oE t k).1⟩
 uZ:=p.row h.uZ<|λt k=>⟨id,(h.kU t k).1⟩
 ay:=h.ay.cw p
 yR:=λt k=>⟨ag (h.yR t k).1 p.size,(h.yR t k).2⟩
 oE:=λt k=>⟨ag (h.oE t k).1 p.size,(h.oE t k).2⟩
 kU:=λt k=>⟨ag (h.kU t k).1 p.size,(h.kU t k).2⟩
 obj:=λA y=>⟨(p.block _ (am (h.obj A y).1) id).trans (h.obj A y).1,(h.obj A y).2⟩
 Zb:=λq F=>by
  obtain⟨D,A,L,B,y,E⟩:=h.Zb q F;exact⟨D,A,L,B,(p.block q (am y) id).trans y,E⟩}
theorem OW.wT(h:OW n W g db m r v mem j i f lo O K a b c d C tbqq N nx x e lsqq w l o):pU W:=h.g0.2.2.ay h.ay id
theorem OW.opened(y:OW n W g db m r v mem j i f lo O K a b c d C tbqq N nx x e lsqq w l o){W1 F:I}{D:R}(A:FE W W1 db (G (H W)+2) s u K C (N+1) (fj (tbqq+z lsqq:R)<|gQ [] lsqq.flatten::bZ a b c d))(ht:J (λk=>k=g) W1 F)(hb:F.heap[g]?=M (aw #[aA db,aA<|G (H W)+2,aA D,aq s,aq u,i,f] 40 (0,0)))(hr:mO F D r.1 l.1 bF aG)(bb:G (H W1)<=D)(ao:D<G (H F)):jg n F g db (G (H W)+2) D (r.1,aG) s u i f lo O C (N+1) (l.1,[]) bF (l.1,[]) bF:=by
 obtain⟨ad,K',bg,a',b',c',d',ac,P,A⟩:=A;obtain⟨e1,e2,_,_,e5,e6⟩:=A.same;subst e1;have X:=am y.box;have hd:=A.fm;have bc:=A.size;have bd:=ht.size;have ax:=y.ay.size;have E:∀k,k<G (H W)->¬K.bw ad.aN k->¬K'.bw ad.aN k:=λk p hn q=>(hd.bw k q).elim hn (λL=>by omega);have t:∀k,k<G (H W)->¬K.bw ad.aN k->W1.heap[k]?=W.heap[k]?:=λk p hn=>hd.ay.block k p (λq=>q.elim hn<|λB=>by omega);have hg:¬(1=g)/\¬(2=g):=by have V:=y.g0.1.lt;have h2:=y.g0.2.1.lt;have h3:=y.low.2.2;exact⟨by omega,by omega⟩
 have S:=(t g X y.Dj).trans y.box;have s1:=y.By.shape;have s2:=y.uZ.shape;obtain⟨⟨ba,hh,_,_⟩,_,_⟩:=y.ref.ref;have au:=am hh;have hI:Inv F (G (H W)+2) ad K' bg a' b' c' d' C ac (N+1) P []:=by refine A.inv.sd ht (λk B=>by have V:k=g:=B;rw[V];exact⟨by omega,E g X y.Dj,by omega⟩) (λk B=>?_) hg;have V:k=g:=B;rw[V];refine⟨_,_,_,S,by decide,.inl λbk q=>?_,λq hq=>?_⟩;rcases s1 with rfl|⟨b0,o0,c0,rfl⟩<;>rcases s2 with rfl|⟨b1,o1,c1,rfl⟩<;>simp at q;(have an:q=ad.aN\/v=M (U q 0)\/q=m:=by rcases s1 with rfl|⟨b0,o0,c0,rfl⟩<;>rcases s2 with rfl|⟨b1,o1,c1,rfl⟩<;>simpa[eq_comm]using hq);rcases an with rfl|B|rfl;exact⟨_,_,_,A.inv.st.aN.iN,by decide⟩;obtain⟨g1,cs,bh,fr,g2,g3⟩:=y.Zb q B;exact⟨cs,bh,fr,(t q (am g2) g1).trans g2,g3⟩;exact⟨_,_,_,(t q au y.GR).trans hh,by decide⟩
 have al:bM F (G (H W)+2) ad 0:=(ht.block _ (am A.box)<|by omega).trans A.box;have Q:∀{ba:aa}{L:iI},jq W ba L->(∀k,bY ba=M k->k<G (H W)/\¬K.bw ad.aN k/\k≠g)->jq F ba L:=λhp h=>ht.row (hd.ay.row hp<|λk p=>⟨λq=>q.elim (h k p).2.1 (λB=>by have:=(h k p).1;omega),(h k p).1⟩)<|λk p=>⟨(h k p).2.2,by have:=(h k p).1;omega⟩;have h:∀k,k<G (H W)->¬K.bw ad.aN k->FJ F K' ad.aN (G (H W)+2) ad k/\k≠D:=λk q1 q2=>⟨⟨⟨by omega,E k q1 q2,by omega⟩,λB=>by rw[e6]at B;cases B;omega⟩,by omega⟩;have av:∀k,K'.bw ad.aN k->k<G (H W1):=A.inv.st.aN.lt;have T:vF (gQ [] P.flatten::(bZ a' b' c' d').map (kr ((ac+z P:R):Y))) l.1:=by refine y.yU.congr<|λq=>?_;have B:=A.uA q;unfold fj at B;rw[aZ,aZ,A.inv.mem,A.inv.Be,(Es y.laid.lp).2.2.1]at B;exact B
 refine⟨ad,K',bg,a',b',c',d',ac,P,[],[],hb,⟨hr,⟨⟨rfl,.inl ⟨rfl,rfl⟩⟩,by simp,by simp,by simp⟩,bN _ _ _ _,λk _ _ _ p=>(by cases p),rfl,by simp,λk p=>(by cases p)⟩,al,⟨e2,rfl,hI⟩,T,λ_=>⟨rfl,e5,by simp⟩,⟨by simp,by simp⟩,y.len,y.laid.mw,Q y.By<|λk p=>⟨(y.oE k p).1,(y.oE k p).2.1,(y.oE k p).2.2.1⟩,Q y.uZ<|λk p=>⟨(y.kU k p).1,(y.kU k p).2.1,(y.kU k p).2.2.1⟩,y.WK,(y.ay.trans hd.ay<|λk q=>.inr<|q.elim (y.low.1 k)<|λB=>by omega).trans ht<|λk B=>.inr (by have:=y.low.2.2;have:k=g:=B;omega),⟨λk q=>(hd.bw k q).elim (y.low.1 k) (λL=>by omega),by omega,by omega,y.low.2.2⟩,λk B=>by rw[e6]at B;cases B;exact⟨by omega,by omega⟩,A.inv.st.rI,(h g X y.Dj).1,⟨⟨ao,λq=>by have:=av _ q;omega,by omega⟩,λB=>by rw[e6]at B;cases B;omega⟩,λk p=>?_,λk p=>?_,λk p=>?_,λbf hp=>?_,by omega,y.g0⟩;rcases p with q|q|⟨bi,hx,_⟩;have L:=y.yR k<|.inl q;exact⟨(h k L.1 L.2.1).1,L.2.2.1,(h k L.1 L.2.1).2⟩;cases q;cases hx;have L:=y.oE k p;exact⟨(h k L.1 L.2.1).1,L.2.2.1,(h k L.1 L.2.1).2,λB=>by cases B⟩;have L:=y.kU k p;exact⟨(h k L.1 L.2.1).1,L.2.2.1,(h k L.1 L.2.1).2,λB=>by cases B⟩;obtain⟨q1,q2,q3,q4,q5⟩:=y.obj bf hp;have V:=am q1;refine⟨(ht.block _ (by omega) q3).trans<|(t _ V q2).trans q1,(h bf.1 V q2).1,q3,(h bf.1 V q2).2,λq=>?_⟩;rcases q with q|q|⟨bi,hx,_⟩;exact q5<|.inl q;cases q;cases hx
end
section
variable{m W W':I}{e db sbqq j:R}{i:PB}{mem b:Y}{g c h d:aa}{lo f:iI}{O:cD (R×Obj)}{C N:R}{l n:LC}{k a:Bool}
def VY(O o:cD (R×Obj))(v:aa):Prop:=(∀r∈O,r∈o)/\∀p,bY v=M p->∃q,(p,q)∈o
theorem jg.Zg(x:jg m W e db sbqq j i mem b g c lo O C N n a l k)(s:J az W W'){v:aa}{A o B:R}{w:jd}(r:W'.ownsRow (G<|H W) A o v B w):∃p,VY O p v/\jg m W' e db sbqq j i mem b g c lo p C N n a l k:=by
 rcases hk:bY v with _|y;exact⟨O,⟨λ_ q=>q,λy q=>by rw[hk]at q;cases q⟩,x.still s⟩;obtain⟨t,u⟩:=fK r hk;exact⟨_,⟨λv q=>aJ _ q,λt q=>by rw[hk]at q;cases q;exact⟨_,dC ..⟩⟩,x.add s (r.lt y hk).1 u⟩
theorem LW.YA{u:SR}{T:DK}{P:cK}{E F K L:cR}{p:R}{o:dX}{s:Zs}{v:cD pu}(r:LW m W e u.aN sbqq j i mem b g c lo O u T P E F K L C p N o s v n bF l k)(X:Inv W sbqq u T P E F K L C p N o (iR 1 s))(hs:tL W W' sbqq u T P E F K L C){ac:aa}{al:iI}(S:zk W W' ac al):∃Q,VY O Q ac/\jg m W' e u.aN sbqq j i mem b g c lo Q C N n bF l k:=by
 obtain⟨w,hd,e1,V,hb,y⟩:=X.reads (am r.tM) hs;obtain⟨A,_,_⟩:=r.uM;have h':LW m W' e u.aN sbqq j i mem b g c lo O u w P E F K L C p N o s v n bF l k:=r.Pb hd.dm (λ_ q=>q) hb ⟨A,rfl,y⟩ r.yU r.oY ⟨r.num.1,ai _⟩ r.len r.mw;rcases hk:bY ac with _|t;exact⟨O,⟨λ_ q=>q,λt q=>by rw[hk]at q;cases q⟩,u,w,P,E,F,K,L,p,o,s,v,h'⟩;obtain⟨x,hc⟩:=fK S hk;have B:=aI S t hk;have h1:=r.Dj.lt;have h2:=r.GR.lt;have h3:=am r.tM;refine⟨(t,aw x 68 (0,0))::O,⟨λad q=>aJ _ q,λan q=>by rw[hk]at q;cases q;exact⟨_,dC ..⟩⟩,u,w,P,E,F,K,L,p,o,s,v,{h' with obj:=λad D=>?_}⟩;rcases aD.1 D with rfl|D;exact⟨hc,⟨⟨B.2,λq=>by have:=r.uM.aN.lt t<|V t q;omega,by show t≠sbqq;omega⟩,λq=>by have:=(r.zL t q).2;omega⟩,by show t≠e;omega,by show t≠j;omega,λq=>by have:=r.ref.lt t q;omega⟩;exact h'.obj ad D
theorem Uy(v:jg m W e db sbqq j i mem b g c lo O C N n a l k)(f p:ab)(o:Y):cA bG 31 #[aA sbqq,aj f,aj p,aq o] W λD W'=>∃B x u,D=aP (dE #[ah B (z<|if a then []else ng n.1 f p o) x,lC<|if a then 6 else 0])/\zk W W' (ah B (z<|if a then []else ng n.1 f p o) x) (if a then []else ng n.1 f p o)/\VY O u (ah B (z<|if a then []else ng n.1 f p o) x)/\jg m W' e db sbqq j i mem b g c lo u C N n a l k:=by
 obtain⟨ad,S,ac,T,V,x,X,t,s,Q,P,v⟩:=v;cases a with
 |true=>
  apply(KH f p o v.tM v.uM.1).mono;rintro D W'⟨rfl,r,w⟩;exact⟨none,0,O,rfl,bN _ _ _ _,⟨λ_ q=>q,λo q=>by cases q⟩,ad,S,ac,T,V,x,X,t,s,Q,P,v.shut r w⟩
 |false=>
  have r:=v.now;obtain⟨A,rfl,y⟩:=v.uM;apply(QW f p o v.tM y.st A).mono;rintro D W'⟨v',rfl,w,K⟩;rw[sH y.all r]at w;obtain⟨u,F,E⟩:=v.YA y K w;obtain⟨B,x,L⟩:=aB w;subst L;exact⟨B,x,u,rfl,w,F,E⟩
theorem jg.outs(w:jg m W e db sbqq j i mem b g c lo O C N n a l k)(B:jq W h f)(D:jq W d f)(y:z f<=1000000)(s:∀o,bY h=M o->∃r,(o,r)∈O)(t:∀o,bY d=M o->∃r,(o,r)∈O):jg m (ct (ct W (U e 5) h) (U e 6) d) e db sbqq j i mem b h d f O C N n a l k:=by
 obtain⟨L,K,V,P,Q,S,T,v,u,F,E,w⟩:=w;have x:J (λo=>o=e) W (ct (ct W (U e 5) h) (U e 6) d):=(ij e W).setCell _ _ _<|.inl rfl;have A:∀o,(∃r,(o,r)∈O)->FJ (ct (ct W (U e 5) h) (U e 6) d) K db sbqq L o/\o≠e/\o≠j/\bY i.2≠M o:=by rintro o⟨r,q⟩;have:=(w.obj (o,r) q).2;exact⟨this.1.grow x.size,this.2.1,this.2.2.1,λo=>this.2.2.2<|.inr<|.inl o⟩
 refine⟨L,K,V,P,Q,S,T,v,u,F,E,w.Zp x ((aT<|aT w.box).trans rfl) (x.row B<|λo p=>?_) (x.row D<|λo p=>?_) y (λo p=>A o<|s o p)<|λo p=>A o<|t o p⟩;obtain⟨r,q⟩:=s o p;exact⟨(w.obj (o,r) q).2.2.1,(w.obj (o,r) q).2.1.lt⟩;obtain⟨r,q⟩:=t o p;exact⟨(w.obj (o,r) q).2.2.1,(w.obj (o,r) q).2.1.lt⟩
end
section
variable{m W:I}{e db sbqq j:R}{i:PB}{mem b:Y}{g c:aa}{lo:iI}{O:cD (R×Obj)}{C N:R}{l:LC}{a:Bool}
theorem Rk(cB:jg m W e db sbqq j i mem b g c lo O C N l a l a)(X bT:Y)(V ad:ab)(cd:Option Addr)(cb ca:R):cA bG 11 #[aA e,wF 3 X bT V ad<|ah cd cb ca] W λco w'=>co=aP (aO bX)/\∃h d f,jg m w' e db sbqq j i mem b h d f O C N l a l a:=by
 obtain⟨r,bt⟩:∃r,G (H W)=r:=⟨_,rfl⟩;have h1:jg m (cF W<|fW 3 X bT V ad<|ah cd cb ca) e db sbqq j i mem b g c lo ((r,fW 3 X bT V ad<|ah cd cb ca)::O) C N l a l a:=cB.add (cI _ W) (by omega)<|aE _ bt.symm;have L:=h1.still<|cg az _;have t:=Uy L V ad X;have av:=And.intro L.gN.2.1 (And.intro L.dU.2.2.2.1 (And.intro L.dU.2.2.2.2.1 L.dU.2.1));have cM:=am cB.box;have cv:=cB.lens;have bq:z (if a then []else ng l.1 V ad X)<=1000000:=by have:=mT l.1 V ad X;split;simp;omega
 have E:=λW'(q:mO W' j i.1 l.1 a i.2)=>ud i.1 V ad X q (by omega);obtain⟨p,hR⟩:∃p,(if a then []else ng l.1 V ad X)=p:=⟨_,rfl⟩;obtain⟨gn,bd⟩:∃gn:Y,(if a then 6 else 0)=gn:=⟨_,rfl⟩;rw[hR,bd]at t;rw[hR]at bq;simp only[hR,bd]at E;have ac:=Z E;unfold wF;unfold fW at t av;clear cB h1 L hR bd E;go_in
 go_wp2_with fail
 try rw[bt]
 rename_i QQ KK A;refine cz (λo=>aS o (U e 1)=M (aA sbqq)/\aS o (U r 3)=M (aj V)/\aS o (U r 4)=M (aj ad)/\aS o (U r 1)=M (aq X)) 15 (by kernel_rfl) ?_;refine cY 0 ?_;iterate 10 (refine eJ (v:=?_) av rfl (by kernel_rfl) iV rfl ?_ ?_;rotate_left;(focus(rintro o⟨z0,z1,z2,z3⟩;go_simp;try rfl));simp only[Act.put,dG,gp,Nat.reduceAdd])
 apply eA;refine aM (i:=10) rfl rfl (by kernel_rfl) ?_;intro KC y;go_simp;apply t.mono;rintro co W2⟨cm,cl,O2,rfl,br,bf,L⟩;have D:((r,fW 3 X bT V ad<|ah cd cb ca):R×Obj)∈O2:=bf.1 _<|dC ..;have w:jg m W2 e db sbqq j i mem b g c lo ((r,fW 3 X bT V ad<|ah cd cb ca)::O2) C N l a l a:=L.drop (λcE Q=>by rcases aD.1 Q with rfl|Q;exact D;exact Q);have h3:=w.still<|cg az W2;have ax:=And.intro w.gN.2.1 (And.intro w.dU.2.2.2.1 (And.intro w.dU.2.2.2.2.1 w.dU.2.1));obtain⟨al,au,u⟩:=dI br bf h3;refine y _ _ (λ_=>ax) ?_;try simp only[Act.put,dG,gp]
 refine cY 11 ?_;iterate 4 (refine eJ (v:=?_) ax rfl (by kernel_rfl) iV rfl ?_ ?_;rotate_left;(focus(rintro o⟨z0,z1,z2,z3⟩;go_simp;try rfl));simp only[Act.put,dG,gp,Nat.reduceAdd])
 apply eA;refine aM (i:=15) rfl rfl (by kernel_rfl) ?_;intro KL B;go_simp;refine B _ _ wH ?_;refine cX (by kernel_rfl) ?_ _;show KK _ _;apply A;have bu:=ac _ u.ref;have bo:=And.intro u.gN.2.2.1 (And.intro u.dU.2.2.2.1 (And.intro u.dU.2.2.2.2.1 u.dU.2.1));clear av ax t br bf D L w h3 y B A ac;go_wp2_with fail
 rename_i QQ KK A;refine cz (λo=>aS o (U e 2)=M (aA j)/\aS o (U r 3)=M (aj V)/\aS o (U r 4)=M (aj ad)/\aS o (U r 1)=M (aq X)) 15 (by kernel_rfl) ?_;refine cY 0 ?_;iterate 10 (refine eJ (v:=?_) bo rfl (by kernel_rfl) iV rfl ?_ ?_;rotate_left;(focus(rintro o⟨z0,z1,z2,z3⟩;go_simp;try rfl));simp only[Act.put,dG,gp,Nat.reduceAdd])
 apply eA;refine aM (i:=10) rfl rfl (by kernel_rfl) ?_;intro KC y;go_simp;apply bu.mono;rintro co W3⟨v3,rfl,P,bb⟩;obtain⟨O3,bg,h3⟩:=u.Zg (J.aV bb) P;obtain⟨cu,cs,cn⟩:=aB P;subst cn;have D:((r,fW 3 X bT V ad<|ah cd cb ca):R×Obj)∈O3:=bg.1 _<|dC ..;have x:jg m W3 e db sbqq j i mem b g c lo ((r,fW 3 X bT V ad<|ah cd cb ca)::O3) C N l a l a:=h3.drop (λcE Q=>by rcases aD.1 Q with rfl|Q;exact D;exact Q);have ba:=And.intro x.gN.2.2.1 (And.intro x.dU.2.2.2.1 (And.intro x.dU.2.2.2.2.1 x.dU.2.1));have bs:jq W3 (ah cm (z p) cl) p:=(J.aV (S:=az) bb).row ((cg az W2).row (dr al)<|λF s=>⟨id,(aI al F s).2⟩)<|λF s=>⟨id,(aI al F s).2⟩;obtain⟨ch,bn,K,an⟩:=gD bs P bg x;refine y _ _ (λ_=>ba) ?_;try simp only[Act.put,dG,gp]
 refine cY 11 ?_;iterate 4 (refine eJ (v:=?_) ba rfl (by kernel_rfl) iV rfl ?_ ?_;rotate_left;(focus(rintro o⟨z0,z1,z2,z3⟩;go_simp;try rfl));simp only[Act.put,dG,gp,Nat.reduceAdd])
 apply eA;refine aM (i:=15) rfl rfl (by kernel_rfl) ?_;intro KL B;go_simp;refine B _ _ wH ?_;refine cX (by kernel_rfl) ?_ _;show KK _ _;apply A;have bv:=ke gn an.wT;clear bu bo ba y B A bs P bg h3 x bb D;go_wp2_with fail
 apply bv.mono;rintro co W4⟨rfl,bp⟩;have S:J az W3 W4:=J.aV bp;have ao:=Z<|an.still S;have bk:jq W4 (ah cm (z p) cl) p:=S.row ch<|λF s=>⟨id,by obtain⟨cc,q⟩:=au.2 F s;exact am<|an.obj<|aJ _<|K.1 _<|aJ _ q⟩;have bl:jq W4 (ah cu (z p) cs) p:=S.row (py.Lp bn)<|λF s=>⟨id,(aI bn F s).2⟩;have bm:=nr bk bl (by omega) (by omega);have cj:=Z bk;have ck:=Z bl;clear bp bv S bk bl;simp only[mR]at bm;go_wp2_with fail
 apply bm.mono;rintro co W5⟨rfl,kq,bx⟩;have T:J az W4 W5:=by rw[bx];exact gX _ _ _
 have h5:=ao.still T;have bc:=h5.box;have y5:aS W5 (U e 5)=M g:=h5.gN.2.2.2.1;have y6:aS W5 (U e 6)=M c:=h5.gN.2.2.2.2;have yf:∀cp,W5.frozen? (U e cp)=bF:=λcp=>by simp[World.frozen?,bc]
 have bh:∀F,bY (ah cm (z p) cl)=M F->∃cc,(F,cc)∈((r,fW 3 X bT V ad<|ah cd cb ca)::O3):=λF s=>by obtain⟨cc,q⟩:=au.2 F s;exact⟨cc,aJ _<|K.1 _<|aJ _ q⟩
 have bi:∀F,bY (ah cu (z p) cs)=M F->∃cc,(F,cc)∈((r,fW 3 X bT V ad<|ah cd cb ca)::O3):=λF s=>by obtain⟨cc,q⟩:=K.2 F s;exact⟨cc,aJ _ q⟩
 have h6:=h5.outs (T.row cj (λF s=>⟨id,by
  obtain⟨cc,q⟩:=bh F s;exact am (ao.obj q)⟩)) (T.row ck (λF s=>⟨id,by
   obtain⟨cc,q⟩:=bi F s;exact am (ao.obj q)⟩)) bq bh bi
 have hO:∀cE∈O,cE∈((r,fW 3 X bT V ad<|ah cd cb ca)::O3):=λcE Q=>aJ _<|K.1 _<|aJ _<|au.1 _<|aJ _ Q;have ce:=Z<|h6.drop hO;have cx:=am bc;clear h5 h6 bc bh bi hO T bm bx;go_wp2_with fail
 apply(lT gn _).mono;rintro co W7⟨rfl,cT⟩;subst W7;go_wp2;go_ret;exact⟨rfl,_,_,_,ce⟩
end
theorem WA{v w:Y}(u:oP v w=0):1<=v/\v<=32/\2<=w/\w<=6:=by
 unfold oP at u;split at u;cases u;rename_i q;omega
theorem Lq{u v:Y}(w:oP u v≠0):¬(1<=u/\u<=32/\2<=v/\v<=6)/\oP u v=1:=by
 unfold oP at*;split at w;rename_i q;exact⟨by omega,by rw[dt q]⟩;exact absurd rfl w
section
variable{r W W':I}{e db o:R}{m:PB}{p:Option Addr}{mem g k n:Y}{i h:aa}{lo:iI}{O:cD (R×Obj)}{K:DK}{a b c d:cR}{C tbqq N nx s:R}{f:Bool}{lsqq:dX}{t:cD pu}{l:LC}{j:Bool}
theorem Km(bt:OW r W e db o m p mem g i h lo O K a b c d C tbqq N nx s f lsqq t l j)(ce ch:Y)(ho:oP (su ce 34) (su ch 8)=0)(hN:N+1<=100000000):cA bG 10 #[.pointer<|M ⟨e,0,none⟩,.int .i64 ce,.int .i64 ch] W λan w'=>an=.returned (.bool bX)/\∃cc w k n,jg r w' e db cc w (m.1,.slice none 0 0) k n i h lo O C (N+1) (l.1,[]) bF (l.1,[]) bF:=by
 have F:=PO ce ch W;have S:=Cu (su ce 34)<|su ch 8;have y:=Rx (su ce 34) (su ch 8) bt.laid (WA ho) hN;rw[ho]at S;have y0:aS W ⟨e,0,none⟩=M (.pointer<|M ⟨db,0,none⟩):=by rw[bL bt.box];rfl
 have ca:=am bt.box;obtain⟨D,hM⟩:∃D,su ce 34=D:=⟨_,rfl⟩;obtain⟨cj,hT⟩:∃cj,su ch 8=cj:=⟨_,rfl⟩;rw[hM,hT]at F S y;have bv:=bt.Dj;have bu:=bt.GR;have x:=Z bt;clear bt ho hM hT;go_in
 go_wp2_with fail
 apply F.mono;rintro an w1⟨rfl,co⟩;subst w1;go_wp2_with fail
 apply y.mono;rintro an W1⟨rfl,hP⟩;have bk:=Ks W1;have v:∀ba,ba<G (H W)->¬K.bw db ba->W1.heap[ba]?=W.heap[ba]?:=by obtain⟨cv,K',cu,a',b',c',d',cd,cb,hO⟩:=hP;exactλba u v=>hO.fm.ay.block ba u<|λq=>q.elim v<|λan=>by omega
 have cm:G (H W)+4<=G (H W1):=by obtain⟨cv,K',cu,a',b',c',d',cd,cb,hO⟩:=hP;exact hO.size
 have V:=(v e ca bv).trans x.box;have ac:mO W1 o m.1 l.1 j m.2:=by obtain⟨⟨cx,hh,hp,hv⟩,bT,bh⟩:=x.ref.ref;refine⟨⟨cx,(v o (am hh) bu).trans hh,?_,hv⟩,bT,λbf X=>by have:=bh bf X;omega⟩;obtain⟨q1,⟨q2,q0⟩|⟨bf,ax,bs,q2,bx,hc⟩⟩:=hp;exact⟨q1,.inl ⟨q2,q0⟩⟩;(have X:m.1=M bf:=by rw[<-hv,q2];rfl);exact⟨q1,.inr ⟨bf,ax,bs,q2,bx,λw cs u=>(cP (w:=W)<|v bf (bh bf X) (x.yR bf<|.inl X).2.1).trans<|hc w cs u⟩⟩
 obtain⟨HP,bb,bm⟩:=dI hP V ac;clear y F hP v V ac;go_wp2_with fail
 apply bk.mono;rintro an P⟨rfl,bg⟩;have T:J (λ_=>False) W1 P:=J.aV bg;have A:=(T.block e (am bb) id).trans bb;have bd:=Z T;have cn:=T.size;clear bg bk T;go_wp2_with fail
 apply(S _).mono;rintro an al⟨rfl,hw⟩;subst al;go_wp2_with fail
 apply(lT 0 _).mono;rintro an al⟨rfl,hw⟩;subst al;have y1:aS P ⟨e,1,none⟩=M (.pointer p):=by rw[bL A];rfl
 have yf:∀ck,P.frozen? ⟨e,ck,none⟩=bF:=λck=>by simp[World.frozen?,A]
 have E:=aT (i:=1) (u:=.pointer<|M ⟨G (H W)+2,0,none⟩) A;have t3:J (λba=>ba=e) P (ct P ⟨e,1,none⟩<|.pointer<|M ⟨G (H W)+2,0,none⟩):=(ij e P);have ad:=(bm.ay bd id<|λ_ _=>id).ay t3 (λan=>x.ne an.symm)<|λbf X an=>(x.yR bf<|.inl X).2.2.1 an;have bi:=Le m.1 ad;have y2:aS (ct P ⟨e,1,none⟩<|.pointer<|M ⟨G (H W)+2,0,none⟩) ⟨e,2,none⟩=M (.pointer<|M ⟨o,0,none⟩):=by rw[bL E];rfl
 have bc:=Z E;have bq:=Z t3;have cl:∀cp:I,(binOp .eql 35 (.pointer<|M ⟨G (H W)+2,0,none⟩)<|.pointer none).run bG cp=.ok (.bool bF) cp:=λ_=>rfl;clear S A E t3 ad;go_wp2_with fail
 apply bi.mono;rintro an Q⟨rfl,L,o5,av⟩;have t5:J (λ_=>False) (ct P ⟨e,1,none⟩<|.pointer<|M ⟨G (H W)+2,0,none⟩) Q:=by rw[av];exact(cI _ _)
 have u:=(t5.block e (am bc) id).trans bc;have y3:aS Q ⟨e,2,none⟩=M (.pointer<|M ⟨o,0,none⟩):=by rw[bL u];rfl
 have y4:aS Q ⟨e,3,none⟩=M (.int .i64 mem):=by rw[bL u];rfl
 have y5:aS Q ⟨e,4,none⟩=M (.int .i64 g):=by rw[bL u];rfl
 have yg:∀ck,Q.frozen? ⟨e,ck,none⟩=bF:=λck=>by simp[World.frozen?,u]
 obtain⟨w,B⟩:∃w,G (H<|ct P ⟨e,1,none⟩<|.pointer<|M ⟨G (H W)+2,0,none⟩)=w:=⟨_,rfl⟩;have au:G (H Q)=w+1:=by rw[av,<-B];simp
 have ao:w=G (H P):=by rw[<-B,gE]
 rw[B]at L|-;obtain⟨bl,br,bn,bp,bo⟩:=jX u t5 L au ao;clear bi av u t5 L B y1 y2 yf au ao;go_wp2;go_ret;refine⟨rfl,G (H W)+2,w,D,cj,?_⟩;have au:=ae bp;have ao:=ae bo;have tA:J (λba=>ba=e) Q (ct (ct (ct Q ⟨e,2,none⟩<|.pointer<|M ⟨w,0,none⟩) ⟨e,3,none⟩<|.int .i64 D) ⟨e,4,none⟩<|.int .i64 cj):=((ij e Q).setCell _ _ _<|.inl rfl).setCell _ _ _<|.inl rfl;have tB:J (λba=>ba=e) W1 (ct (ct (ct Q ⟨e,2,none⟩<|.pointer<|M ⟨w,0,none⟩) ⟨e,3,none⟩<|.int .i64 D) ⟨e,4,none⟩<|.int .i64 cj):=(((bd.mono (T:=λba=>ba=e) cN).trans bq<|λ_ q=>.inl q).cw br).trans tA<|λ_ q=>.inl q;refine x.opened HP tB ((aT<|aT<|aT bl).trans rfl) (bn.ay tA (λan=>by omega)<|λbf X an=>(x.yR bf<|.inl X).2.2.1 an) (by omega) (by have:=tA.size;omega)
theorem Qr(ad:OW r W e db o m p mem g i h lo O K a b c d C tbqq N nx s f lsqq t l j)(S T:Y)(Q:oP (su S 34) (su T 8)≠0):cA bG 10 #[.pointer<|M ⟨e,0,none⟩,.int .i64 S,.int .i64 T] W λV w'=>V=.returned (.bool bX)/\OW r w' e db o m p mem g i h lo O K a b c d C tbqq N nx s f lsqq t l j/\G (H W)<=G (H w'):=by
 have u:=PO S T W;have x:=Cu (su S 34)<|su T 8;have q:=Uk (.pointer<|M ⟨db,0,none⟩) (su S 34) (su T 8) W ⟨_,rfl⟩ (Lq Q).1;rw[(Lq Q).2]at x;have y0:aS W ⟨e,0,none⟩=M (.pointer<|M ⟨db,0,none⟩):=by rw[bL ad.box];rfl
 obtain⟨D,X⟩:∃D,su S 34=D:=⟨_,rfl⟩;obtain⟨an,hT⟩:∃an,su T 8=an:=⟨_,rfl⟩;rw[X,hT]at u x q;have B:=Z ad;clear ad Q X hT;go_in
 go_wp2_with fail
 apply u.mono;rintro V w1⟨rfl,al⟩;subst w1;go_wp2_with fail
 apply q.mono;rintro V W1⟨rfl,y⟩;have P:=B.still y;have E:=ke 1 P.wT;have A:=Z P;have F:=y.size;clear q u P y B;go_wp2_with fail
 apply E.mono;rintro V W2⟨rfl,w⟩;have L:=Z<|And.intro (A.still<|J.aV w) (aF F w.size);clear w E A F;go_wp2_with fail
 apply(x _).mono;rintro V v⟨rfl,hw⟩;subst v;have ac:∀w:I,(binOp .eql 35 (.pointer none)<|.pointer none).run bG w=.ok (.bool bX) w:=λ_=>rfl;go_wp2_with fail
 apply(lT 1 _).mono;rintro V v⟨rfl,hw⟩;subst v;go_wp2;go_ret;exact⟨rfl,L⟩
end
theorem Mn(f:ab×eP)(g:Fs):iy (f::g)=z f.2+iy g:=by simp[iy]
theorem Ho{u:ab×eP}:∀{f:Fs},u∈f->z u.2<=iy f
 |[],q=>by simp at q
 |g::v,q=>by
  rw[Mn];rcases aD.1 q with rfl|q
  .omega
  .have:=Ho q;omega
theorem BP{v:ab}{b:eP}:∀{q:Fs},ew q v=M b->(v,b)∈q
 |[],f=>by simp[ew]at f
 |g::w,f=>by
  unfold ew at f;by_cases u:g.1=v
  .rw[dt u]at f;cases f;subst u;exact dC ..
  .rw[dh u]at f;exact aJ _<|BP f
theorem SC{q g:Fs}(w:(q.map (·.1)).Nodup)(v:g.Perm q)(x:ab):ew g x=ew q x:=by
 have u:(g.map (·.1)).Nodup:=(v.map _).nodup_iff.2 w;rcases h1:ew q x with _|b;rcases h2:ew g x with _|b;rfl;have:=wo w<|v.mem_iff.1<|BP h2;simp only at this;rw[h1]at this;cases this;exact wo u (f:=(x,b))<|v.mem_iff.2<|BP h1
def zV(p W:I)(j:R)(O:cD (R×Obj))(C N:R):Prop:=∃db sbqq o n mem h k i lo l e,jg p W j db sbqq o n mem h k i lo O C N l e l e
theorem wW.bytes{L:I}{db:R}{K:DK}{a b c d:cR}{C tbqq N y x:R}{g:Bool}{lsqq:dX}(u:wW L db K a b c d C tbqq N y x g lsqq):∀f∈K.files,z f.bytes<=1099511627776:=λf v=>by
 have A:=ue (f:=(tbqq:Y)+1)<|λl q=>⟨u.lp.jb l q,(u.lp.one l q).2⟩;have B:=DO<|λl q=>(u.lp.one l q).1;have D:=u.lp.sum;have E:=u.rh.total u.aN.nodup (by omega) u.count;have w:(f.name,f.bytes)∈vw K.files:=bz.2 ⟨f,v,rfl⟩;have:=Ho w;simp only at this;omega
section
variable{p W W':I}{j db sbqq o:R}{n:PB}{mem h:Y}{k i:aa}{lo:iI}{O:cD (R×Obj)}{s:SR}{K:DK}{a b c d:cR}{C tbqq N:R}{lsqq:dX}{m:cK}{t:Zs}{r:cD pu}{l:LC}{e:Bool}
theorem LW.copied(v:LW p W j db sbqq o n mem h k i lo O s K m a b c d C tbqq N lsqq t r l bX l bX){y:R}{E:DK}(hd:cU W' y E)(L:(vw E.files).Perm (vw K.files))(hm:E.eU=[])(hf:∀g,E.bw y g->G (H W)<=g)(D:J az W W'):∃ao nx lg f,W.heap[sbqq]?=M ao/\OW p (ct W' (U j 0)<|aA y) j y o n (M<|U sbqq 0) mem h k i lo ((sbqq,ao)::O) E a b c d C tbqq N nx lg f lsqq r l bX:=by
 obtain⟨au,nx,lg,f,T⟩:=v.uM;have P:=v.Dj.lt;have al:=v.GR.lt;have V:=am v.tM;have hz:=D.size;have av:=v.ay.size;have ac:=(D.block j P id).trans v.box;have Q:J (λg=>g=j) W' (ct W' (U j 0)<|aA y):=(ij j W');have u:∀g,g<G (H W)->¬E.bw y g:=λg w q=>by have:=hf g q;omega
 have X:=v.kW (S:=λg=>g=j) (λg A=>by have e':g=j:=A;rw[e'];exact v.low.2.2.2);have an:=T.steps.lt;have ad:=T.pow.lt;have B:∀{v:aa}{u:iI},jq W v u->(∀g,bY v=M g->FJ W K db sbqq s g/\g≠j/\g≠o/\bY n.2≠M g)->jq (ct W' (U j 0)<|aA y) v u:=λL f=>Q.row (D.row L<|λg w=>⟨id,(f g w).1.lt⟩)<|λg w=>⟨(f g w).2.1,by have:=(f g w).1.lt;omega⟩;have x:∀g{Q:Prop},FJ W K db sbqq s g/\Q->g<G (H<|ct W' (U j 0)<|aA y)/\¬E.bw y g/\Q:=λg _ q=>⟨by rw[gE];have:=q.1.lt;omega,u g q.1.lt,q.2⟩;have F:∀g ao,g≠j->W.heap[g]?=M ao->(ct W' (U j 0)<|aA y).heap[g]?=M ao:=λg ao w f=>(Q.block g (by have:=am f;omega) w).trans<|(D.block g (am f) id).trans f;refine⟨_,nx,lg,f,v.tM,(aT ac).trans rfl,(v.ref.ay D id<|λ_ _=>id).ay Q (λA=>v.ne A.symm)<|λba X A=>(v.yR ba X).2.1 A,?_,v.yU,v.len,B v.By v.oE,B v.uZ v.kU,v.WK,(v.ay.cw D).trans Q<|λg A=>.inr (by have:=v.low.2.2.2;have:g=j:=A;omega),⟨λg q=>by have:=hf g q;omega,v.low.2.2⟩,u j P,u o al,λg w=>x g<|v.yR g w,λg w=>x g<|v.oE g w,λg w=>x g<|v.kU g w,λax L=>?_,λq hq=>?_,v.ne,v.g0⟩;exact T.again (hd.ay Q<|λg q A=>u j P<|A▸q) (λf=>SC T.aN.nodup L f) (by rw[hm];exact bB _) (Steps.ay (Steps.ay T.steps D id) Q X.1) ((T.pow.ay D id).ay Q X.2) (u _ an)<|u _ ad;rcases aD.1 L with rfl|L;exact⟨F sbqq _ (λA=>v.Dj.ne A.symm) v.tM,u sbqq V,λA=>v.Dj.ne A.symm,λA=>v.GR.ne A.symm,λq=>(v.yR sbqq q).1.ne rfl⟩;obtain⟨q1,q2,q3⟩:=v.obj ax L;exact⟨F ax.1 _ q3.1 q1,u ax.1 q2.lt,q3⟩;cases hq;exact⟨u sbqq V,_,_,_,F sbqq _ (λA=>v.Dj.ne A.symm) v.tM,by decide⟩
theorem OW.back{E:R}{D:DK}{Q:Obj}{L F:R}{g:Bool}(B:G (H W)<=G (H W'))(v:LW p W j db sbqq o n mem h k i lo O s K m a b c d C tbqq N lsqq t r l bX l bX)(T:W.heap[sbqq]?=M Q)(f:OW p W' j E o n (M<|U sbqq 0) mem h k i lo ((sbqq,Q)::O) D a b c d C tbqq N L F g lsqq r l bX):LW p W' j E sbqq o n mem h k i lo O s D m a b c d C tbqq N lsqq t r l bX l bX:=by
 have x:=f.obj (sbqq,Q)<|dC ..;have ac:M Q=_:=T.symm.trans v.tM;have y:bM W' sbqq s 0:=x.1.trans ac;have V:=am f.box;obtain⟨⟨ad,S,_⟩,_⟩:=f.ref.ref;refine⟨f.box,f.ref,y,⟨v.uM.1,L,F,g,f.laid⟩,f.yU,v.oY,v.num,f.len,v.mw,f.By,f.uZ,f.WK,f.ay,⟨f.low.1,v.low.2.1,f.low.2⟩,λw q=>⟨(v.zL w q).1,ag (v.zL w q).2 B⟩,x.2.1,⟨⟨V,f.Dj,v.Dj.ne⟩,v.Dj.oY⟩,⟨⟨am S,f.GR,v.GR.ne⟩,v.GR.oY⟩,λw u=>⟨⟨⟨(f.yR w u).1,(f.yR w u).2.1,(v.yR w u).1.ne⟩,(v.yR w u).1.oY⟩,(f.yR w u).2.2⟩,λw u=>⟨⟨⟨(f.oE w u).1,(f.oE w u).2.1,(v.oE w u).1.ne⟩,(v.oE w u).1.oY⟩,(f.oE w u).2.2⟩,λw u=>⟨⟨⟨(f.kU w u).1,(f.kU w u).2.1,(v.kU w u).1.ne⟩,(v.kU w u).1.oY⟩,(f.kU w u).2.2⟩,λX A=>?_,v.ne,v.g0⟩;obtain⟨P,q2,q3⟩:=f.obj X<|aJ _ A;exact⟨P,⟨⟨am P,q2,(v.obj X A).2.1.ne⟩,(v.obj X A).2.1.oY⟩,q3⟩
theorem Nu(X:jg p W j db sbqq o n mem h k i lo O C N l e l e)(ad al:Y)(an ao:ab)(av:Option Addr)(au c:R):cA bG 7 #[aA j,wF 5 ad al an ao<|ah av au c] W λS w'=>S=aP (aO bX)/\zV p w' j O C N:=by
 have T:=X.still<|(J.refl az W).alloc<|fW 5 ad al an ao<|ah av au c;have g:=LI T;have y1:aS W (U j 1)=M (aA sbqq):=X.gN.2.1;have ac:=am X.box;obtain⟨E,v⟩:∃E:Y,(if e then 6 else 0)=E:=⟨_,rfl⟩;have f:=λW'(q:mO W' o n.1 l.1 e n.2)=>Am n.1 q;rw[v]at g;simp only[v]at f;have u:=Z f;unfold fW at g;unfold wF;clear X T v f;go_in
 go_wp2_with fail
 apply g.mono;rintro S Q⟨rfl,F⟩;have y2:aS Q (U j 2)=M (aA o):=F.gN.2.2.1;have V:=u Q F.ref;have w:=Z F;clear g F u;go_wp2_with fail
 apply V.mono;rintro S W3⟨rfl,B,A⟩;have P:=w.Ld A B<|.inl rfl;have D:=ke E P.wT;have x:=Z P;clear V B A P w;go_wp2_with fail
 apply D.mono;rintro S W4⟨rfl,y⟩;have L:=Z<|x.still<|J.aV y;clear y D x;go_wp2_with fail
 apply(lT E _).mono;rintro S W5⟨rfl,hw⟩;subst W5;go_wp2;go_ret;exact⟨rfl,db,sbqq,o,n,mem,h,k,i,lo,l,bX,L⟩
theorem QD(bp:jg p W j db sbqq o n mem h k i lo O C N l e l e)(bc bd:Y)(bn bo:ab)(br:Option Addr)(bq c:R)(hN:N+1<=100000000):cA bG 7 #[aA j,wF 6 bc bd bn bo<|ah br bq c] W λbb w'=>bb=aP (aO bX)/\(zV p w' j O C N\/zV p w' j O C (N+1)):=by
 obtain⟨ob,bi⟩:∃ob,G (H W)=ob:=⟨_,rfl⟩;have h1:jg p (cF W<|fW 6 bc bd bn bo<|ah br bq c) j db sbqq o n mem h k i lo ((ob,fW 6 bc bd bn bo<|ah br bq c)::O) C N l e l e:=bp.add (cI _ W) (by omega)<|aE _ bi.symm;have B:=LI h1;have y1:aS W (U j 1)=M (aA sbqq):=bp.gN.2.1;have bs:=am bp.box;have bm:j<ob:=by omega
 obtain⟨gn,Q⟩:∃gn:Y,(if e then 6 else 0)=gn:=⟨_,rfl⟩;have v:=λW'(q:mO W' o n.1 l.1 e n.2)=>Am n.1 q;rw[Q]at B;simp only[Q]at v;have D:=Z v;unfold fW at B;unfold wF;clear bp h1 Q v;go_in
 go_wp2_with fail
 apply B.mono;rintro bb W2⟨rfl,h2⟩;have y2:aS W2 (U j 2)=M (aA o):=h2.gN.2.2.1;have hr:=D W2 h2.ref;have ac:=Z h2;clear B h2 D;go_wp2_with fail
 apply hr.mono;rintro bb W3⟨rfl,ao,an⟩;have h3:=ac.Ld an ao<|.inl rfl;have au:=ke gn h3.wT;have ad:=Z h3;clear hr ao an h3 ac;go_wp2_with fail
 apply au.mono;rintro bb W4⟨rfl,al⟩;have h4:=ad.still<|J.aV al;have y3:aS W4 (U j 0)=M (aA db):=h4.gN.1;obtain⟨s,K,m,a,b,c',d,tbqq,lsqq,t,r,E⟩:=h4;obtain⟨_,bu,bt,ax,A⟩:=E.uM;have F:=Vy A.aN A.bytes A.aN.nodup;have y:=Z E;clear al au ad E A;go_wp2_with fail
 apply(lT gn _).mono;rintro bb W5⟨rfl,hw⟩;subst W5;go_wp2_with fail
 apply F.mono;rintro bb W6⟨cb,K6,rfl,L,T,S,P,w⟩;obtain⟨bx,nx,lg,X,V,u⟩:=y.copied L T S P w;have g:=(w.block j (am y.box) id).trans y.box;have y6:=cellAt g 0 rfl;have yf:W6.frozen? (U j 0)=bF:=by simp[World.frozen?,g]
 have f:=(u.obj (ob,fW 6 bc bd bn bo<|ah br bq c)<|aJ _<|dC ..).1;unfold fW at f;simp only at f;have z1:=cellAt f 1 rfl;have z2:=cellAt f 2 rfl;have bg:=Z V;have bh:=Z (show G (H W4)<=G (H<|ct W6 (U j 0)<|aA cb)by rw[gE];exact w.size);by_cases ho:oP (su bc 34) (su bd 8)=0;(.have x:=Km u bc bd ho hN;clear F L T S P w u g f V ho;(go_wp2_with fail);apply x.mono;rintro bb W8⟨rfl,bl,bk,av,ba,h8⟩;have bf:=Z h8;clear h8 x;go_wp2;go_ret;exact⟨rfl,.inr ⟨cb,bl,bk,_,av,ba,k,i,lo,_,bF,bf.drop<|λbv hp=>aJ _<|aJ _ hp⟩⟩);have x:=Qr u bc bd ho;clear F L T S P w u g f V ho;(go_wp2_with fail);apply x.mono;rintro bb W8⟨rfl,h8,av⟩;have h9:jg p W8 j cb sbqq o n mem h k i lo _ C N l bX l bX:=⟨s,K6,m,a,b,c',d,tbqq,lsqq,t,r,OW.back (aF bh av) y bg h8⟩;have ba:=Z<|h9.drop (O':=O)<|λbv hp=>aJ _ hp;clear h8 x h9 av;go_wp2;go_ret;exact⟨rfl,.inl ⟨cb,sbqq,o,n,mem,h,k,i,lo,l,bX,ba⟩⟩
end
section
variable{e W:I}{h db sbqq b:R}{f:PB}{mem c:Y}{g d:aa}{lo:iI}{O:cD (R×Obj)}{C N:R}{l:LC}{a:Bool}
theorem vV{l:iI}{i:uN}:(if a=bF/\gd i=0 then Tk l i else l)=(if a then l else rl l i):=by
 unfold rl;cases a<;>simp
theorem RW(cp:jg e W h db sbqq b f mem c g d lo O C N l a l a)(cE cM:Y)(bb ca:ab)(T j cc cb:R)(r s:ab)(u:Bool)(hn:0<cc)(dv:cc<=cb)(dn:cc<=1000000000000)(y:T<G (H e))(r0:aS e (U T j)=M (aj r))(r1:aS e (U T<|j+1)=M (aj s))(r2:aS e (U T<|j+2)=M (aO u))(hz:r.size<=140737488351232/\s.size<=140737488351232)(hC:C+lD [⟨r,s,u⟩]<=1000000)(hN:N+1<=100000000):cA bG 33 #[aA h,wF 4 cE cM bb ca<|bE T j cc cb] W λbc w'=>bc=aP (aO bX)/\∃bv l',jg e w' h db sbqq b bv mem c g d lo O (C+lD [⟨r,s,u⟩]) (N+1) l' a l' a:=by
 obtain⟨D,av⟩:∃D,G (H W)=D:=⟨_,rfl⟩;have h1:jg e (cF W<|fW 4 cE cM bb ca<|bE T j cc cb) h db sbqq b f mem c g d lo ((D,fW 4 cE cM bb ca<|bE T j cc cb)::O) C N l a l a:=cp.add (cI _ W) (by omega)<|aE _ av.symm;have n:=h1.still<|cg az _;have m:=Uz n bb ca r s u hz hC hN;have L:∀k,J az e k->aS k (U T j)=M (aj r)/\aS k (U T<|j+1)=M (aj s)/\aS k (U T<|j+2)=M (aO u):=λk m=>⟨m.cell r0 id y,m.cell r1 id y,m.cell r2 id y⟩;have V:=And.intro n.gN.2.1 (And.intro n.dU.2.2.2.1 (And.intro n.dU.2.2.2.2.1 (And.intro n.dU.2.2.2.2.2 (L _ n.ay))));have ds:=am cp.box;have cs:=cp.lens;have cv:b<G (H W):=by obtain⟨⟨cB,hh,_⟩,_⟩:=cp.ref;exact am hh
 have cl:z (if a then []else ng l.1 bb ca 0)<=1000000:=by have:=mT l.1 bb ca 0;split;simp;omega
 have A:=λo(q:mO o b f.1 l.1 a f.2)=>ud f.1 bb ca 0 q (by omega);have B:∀o,J az e o->cA bG 13 #[bE T j 1 cb] o λbc w'=>∃v',bc=aP v'/\MZ w' (G<|H o) v' [⟨r,s,u⟩]/\Below (G<|H o) o w':=λo bm=>by refine zq [⟨r,s,u⟩] _ o (by simp) ⟨rfl,.inr ⟨T,j,cb,rfl,by show 1<=cb;omega,λeb ee hj=>?_⟩⟩ (λQ hk=>by cases hk;exact ag y bm.size);obtain⟨q0,q1,q2⟩:=L o bm;rcases eb with _|_|_|eb;cases hj;exact q0;cases hj;exact q1;cases hj;exact q2;simp[eX,oR]at hj
 have P:=λo v'(q:mO o b f.1 l.1 a f.2)(j:MZ o D v' [⟨r,s,u⟩])=>sr f.1 q (dr j) (λQ hk=>(aI j Q hk).2) (by simp;omega);obtain⟨p,hR⟩:∃p,(if a then []else ng l.1 bb ca 0)=p:=⟨_,rfl⟩;obtain⟨gn,bn⟩:∃gn:Y,(if a then 6 else 0)=gn:=⟨_,rfl⟩;obtain⟨wn,ba⟩:∃wn:Y,(if a then 6 else gd [⟨r,s,u⟩])=wn:=⟨_,rfl⟩;rw[hR,ba]at m;rw[hR]at cl;simp only[hR,bn]at A;simp only[ba,vV]at P;obtain⟨la,an⟩:∃la,(if a then l.1 else rl l.1 [⟨r,s,u⟩])=la:=⟨_,rfl⟩;rw[an]at m;simp only[an]at P;obtain⟨S,bk,bi,ce⟩:=gD A B P L;have e1:(0:Y)<(cc:Y):=by omega
 have e2:(1:Y)<=(cb:Y):=by omega
 have cu:G (H W)=D:=av;unfold wF;unfold fW at m V;clear cp h1 n hR bn ba an A B P L r0 r1 r2 y;go_in
 go_wp2_with fail
 try rw[av]
 rename_i QQ KK w;refine cz (λk=>aS k (U h 1)=M (aA sbqq)/\aS k (U D 3)=M (aj bb)/\aS k (U D 4)=M (aj ca)/\aS k (U D 5)=M (bE T j cc cb)/\aS k (U T j)=M (aj r)/\aS k (U T<|j+1)=M (aj s)/\aS k (U T<|j+2)=M (aO u)) 17 (by kernel_rfl) ?_;refine cY 0 ?_;iterate 12 (refine eJ (v:=?_) V rfl (by kernel_rfl) iV rfl ?_ ?_;rotate_left;(focus(rintro k⟨z0,z1,z2,z3,z4,z5,z6⟩;go_simp;try rfl));simp only[Act.put,dG,gp,Nat.reduceAdd])
 apply eA;refine aM (i:=12) rfl rfl (by kernel_rfl) ?_;intro KC v;go_simp;apply m.mono;rintro bc W2⟨v2,rfl,ad,n⟩;obtain⟨dc,cT,cm⟩:=aB ad;subst cm;have E:=n.still<|cg az W2;have X:=And.intro n.gN.2.1 (And.intro n.dU.2.2.2.1 (And.intro n.dU.2.2.2.2.1 (And.intro n.dU.2.2.2.2.2 (ce _ n.ay))));have bf:=Z ad;have t:=Z E;refine v _ _ (λ_=>X) ?_;try simp only[Act.put,dG,gp]
 refine cY 13 ?_;iterate 4 (refine eJ (v:=?_) X rfl (by kernel_rfl) iV rfl ?_ ?_;rotate_left;(focus(rintro k⟨z0,z1,z2,z3,z4,z5,z6⟩;go_simp;try rfl));simp only[Act.put,dG,gp,Nat.reduceAdd])
 apply eA;refine aM (i:=17) rfl rfl (by kernel_rfl) ?_;intro KL x;go_simp;refine x _ _ wH ?_;refine cX (by kernel_rfl) ?_ _;show KK _ _;apply w;have bs:=S _ t.ref;have bl:=And.intro t.gN.2.2.1 (And.intro t.dU.2.2.2.1 t.dU.2.2.2.2.1);have cx:G (H W)<G (H W2):=by have:=am<|n.obj<|dC ..;simp only at this;omega
 clear V X m ad n E v x w S;go_wp2_with fail
 rename_i KK w;refine cz (λk=>aS k (U h 2)=M (aA b)/\aS k (U D 3)=M (aj bb)/\aS k (U D 4)=M (aj ca)) 13 (by kernel_rfl) ?_;refine cY 0 ?_;iterate 8 (refine eJ (v:=?_) bl rfl (by kernel_rfl) iV rfl ?_ ?_;rotate_left;(focus(rintro k⟨z0,z1,z2⟩;go_simp;try rfl));simp only[Act.put,dG,gp,Nat.reduceAdd])
 apply eA;refine aM (i:=8) rfl rfl (by kernel_rfl) ?_;intro KC v;go_simp;apply bs.mono;rintro bc W3⟨v3,rfl,ao,F⟩;obtain⟨dk,dd,cn⟩:=aB ao;subst cn;have E:=t.still<|J.aV F;have ac:=And.intro E.gN.2.2.1 (And.intro E.dU.2.2.2.1 E.dU.2.2.2.2.1);have dx:=F.size;obtain⟨bh,cd,bg⟩:=dI ao F E;have y5:aS W3 (U D 5)=M (bE T j cc cb):=E.dU.2.2.2.2.2;refine v _ _ (λ_=>ac) ?_;try simp only[Act.put,dG,gp]
 refine cY 9 ?_;iterate 4 (refine eJ (v:=?_) ac rfl (by kernel_rfl) iV rfl ?_ ?_;rotate_left;(focus(rintro k⟨z0,z1,z2⟩;go_simp;try rfl));simp only[Act.put,dG,gp,Nat.reduceAdd])
 apply eA;refine aM (i:=13) rfl rfl (by kernel_rfl) ?_;intro KL x;go_simp;refine x _ _ wH ?_;refine cX (by kernel_rfl) ?_ _;show KK _ _;apply w;have B:=bk _ bg.ay;clear bs bl ac v x w ao F E;go_wp2_with fail
 apply B.mono;rintro bc W4⟨v4,rfl,au,K⟩;have h4:=bg.still<|J.aV K;have dT:=K.size;have dm:G (H W2.drew)=G (H W2):=rfl;have bu:=bi W4 v4 h4.ref (eM au<|by omega);obtain⟨ed,ec,co⟩:=aB au;subst co;have y2:aS W4 (U h 2)=M (aA b):=h4.gN.2.2.1;have bd:=Z K;have ch:=Z h4;clear au K h4 B bi bk;go_wp2_with fail
 apply bu.mono;rintro bc W5⟨rfl,⟨bv,br,bp⟩,al⟩;have h5:=ch.Ld al br bp;have t5:J (λQ=>Q=b) W4 W5:=fy al;have bx:J (λQ=>Q=b) W2 W5:=(((cg (λQ=>Q=b) W2).cw<|J.aV (S:=az) cd).cw<|J.aV (S:=az) bd).trans t5<|λ_ q=>.inl q;have bT:J (λQ=>Q=b) W3 W5:=(J.aV (S:=λQ=>Q=b) bd).trans t5<|λ_ q=>.inl q;have bo:jq W5 (ah dc (z p) cT) p:=bx.row (dr bf) (λQ hk=>by have hq:=aI bf Q hk;simp at hq;exact⟨λbc=>by have:Q=b:=bc;omega,hq.2⟩);have bq:jq W5 (ah dk (z p) dd) p:=bT.row (py.Lp bh) (λQ hk=>by have hq:=aI bh Q hk;exact⟨λbc=>by have:Q=b:=bc;omega,hq.2⟩);have ax:=nr bo bq (by omega) (by omega);simp only[mR]at ax;have cj:=Z h5;clear bo bq bx bT t5 h5 al br bp bu;go_wp2_with fail
 apply ax.mono;rintro bc W6⟨rfl,kq,bt⟩;have ck:=Z<|cj.still (W':=W6) (by rw[bt];exact gX _ _ _);clear ax bt;go_wp2_with fail
 apply(lT wn _).mono;rintro bc W7⟨rfl,ea⟩;subst W7;go_wp2;go_ret;exact⟨rfl,_,_,ck.drop<|λp j=>aJ _ j⟩
end
theorem uH:(prog.info? 42).map (λi=>(i.zero,i.size,i.bytes))=M (M<|eB #[aj ⟨#[]⟩,aj ⟨#[]⟩,aO bF],3,40):=by kernel_rfl
theorem Yg(m v:ab)(k:Bool)(w:I):(binOp .neq 42 (eB #[aj m,aj v,aO k])<|eB #[aj m,aj v,aO k]).run bG w=.ok (aO bF) w:=by
 have i:prog.underlying 42=M (.struct<|prog.fieldsOf 42):=by kernel_rfl
 have j:prog.stoodInHeld 42=bF:=by kernel_rfl
 rw[run_neq_struct,show(10000:R)=9999+1 from rfl,run_equalIn_agg w 9999 _ _ _ i j];simp only[Program.fieldsOf,underlying42];go_simp
theorem Fu(i:uN):z (eX i)=z i*3:=by
 induction i with
 |nil=>rfl
 |cons k i j=>
  unfold eX at*;rw[dN,af,j,aC];simp only[oR,aC,cS];omega
theorem Ab{P:Program}(x:I){o:Array Oper}{k:cD Oper}{w:Oper}{y:Act}{ac:Exit->Act->I->Prop}(u:w.guard=none)(an au:Operand)(B:TypeId)(L:w.op=.call {callee:=.builtin .append,args:=#[an,au],argTypes:=#[B,B]})(A:TypeId)(v:TypeInfo)(n:aa)(T:P.underlying B=M (.slice A))(F:P.info? A=M v)(X:v.zero=M n)(S:y.eval an=aG)(q:Addr)(p ad:R)(i:jd)(V:y.eval au=ah (M q) p ad)(K:z i=p*v.size)(m:∀al ao,i[al]?=M ao->aS x (q.add al)=M ao)(D:0<p)(s:p<=maxLen)(t:(p:Y)<=9223372036854775807)(r:p*v.bytes<=281474976710656)(av:∀j,p<=j->j<=maxLen->wpList P o ac k (y.put w.dst<|bE (G<|H x) 0 p j) (cF x.drew<|aw (i.toArray++Builtin.zeroCells n.cells (j-p)) A)):wpList P o ac (w::k) y x:=by
 refine kX u λax E=>?_;have Q:=run_append_nil x B w.type A v n T F X q p ad i K m D t r;unfold Oper.wp execOp;simp only[L,resolve,invoke,builtin,kj,pZ,jt,List.map_toArray,aZ,fi,S,V,Q];exact E _ _<|av _ (grownCap_ge _ _ _ _)<|sM _ _ _ _ s
def Ft(i:uN)(m:R):Array aa:=(eX i).toArray++Builtin.zeroCells #[aj ⟨#[]⟩,aj ⟨#[]⟩,aO bF] m
theorem Ic(k:uN)(r:R):∀u∈(Ft k r).toList,(∃s,u=aj s)\/∃p,u=aO p:=by
 intro u i;unfold Ft at i;rw[oC,ap]at i;rcases i with i|i;unfold eX at i;obtain⟨m,_,j⟩:=mF.1 (by simpa using i);simp only[oR,aD,eO,kS]at j;rcases j with rfl|rfl|rfl;exact .inl ⟨_,rfl⟩;exact .inl ⟨_,rfl⟩;exact .inr ⟨_,rfl⟩;unfold Builtin.zeroCells at i;obtain⟨o,_,j⟩:=Array.mem_map.1<|rG.1 i;have n:(#[aj ⟨#[]⟩,aj ⟨#[]⟩,aO bF]:Array aa).size=3:=rfl;rw[n]at j;(have m:o%3=0\/o%3=1\/o%3=2:=by omega);rcases m with q|q|q;rw[q]at j;exact .inl ⟨_,j.symm⟩;rw[q]at j;exact .inl ⟨_,j.symm⟩;rw[q]at j;exact .inr ⟨_,j.symm⟩
theorem AV(i:uN)(o j:R)(u:aa)(m:(eX i)[j]?=M u):(Ft i o)[j]?=M u:=by
 have n:j<z (eX i):=by rcases dK j (z<|eX i)with k|k;exact k;rw[dy k]at m;cases m
 unfold Ft;rw[nQ<|by simpa using n];simpa using m
section
variable{e W:I}{f db sbqq g:R}{h:PB}{mem b:Y}{d c:aa}{lo:iI}{O:cD (R×Obj)}{C N:R}{l:LC}{a:Bool}
theorem DP(dx:jg e W f db sbqq g h mem b d c lo O C N l a l a)(ej ek:Y)(el em:ab)(au i o an:R)(j:uN)(hn:o=z j)(co:0<o)(ex:o<=an)(eb:o<=1000000000)(ce:au<G (H e))(bf:∀K bl,(eX j)[K]?=M bl->aS e (U au<|i+K)=M bl)(hz:∀ff∈j,ff.key.size<=140737488351232/\ff.val.size<=140737488351232)(hC:C+lD j<=1000000)(hN:N+1<=100000000):cA bG 7 #[aA f,wF 1 ej ek el em<|bE au i o an] W λao w'=>ao=aP (aO bX)/\zV e w' f O (C+lD j) (N+1):=by
 obtain⟨i0,ea,ee,ef,eg⟩:=cL uH;obtain⟨r,ac⟩:∃r,G (H W)=r:=⟨_,rfl⟩;obtain⟨A,bc⟩:∃A,cF W (fW 1 ej ek el em<|bE au i o an)=A:=⟨_,rfl⟩;have h1:jg e A f db sbqq g h mem b d c lo ((r,fW 1 ej ek el em<|bE au i o an)::O) C N l a l a:=by rw[<-bc];exact dx.add (cI _ W) (by omega)<|aE _ ac.symm
 have ba:=dx.Df;have bp:=Z (show∀cE∈O,cE.1<r fromλcE hp=>by have:=am<|dx.obj hp;omega);have eq:=dx.lens;have ad:G (H A)=r+1:=by rw[<-bc,<-ac];simp
 have fb:=dx.ay.size;have u:∀k,J az e k->∀K bl,(eX j)[K]?=M bl->aS k (U au<|i+K)=M bl:=λk hX K bl hj=>hX.cell (bf K bl hj) id ce;have hL:∀k,J az e k->ym k (bE au i o an) j:=λk hX=>⟨Fu j,.inr ⟨au,i,an,by rw[hn],by omega,u k hX⟩⟩;have fd:=am dx.box;obtain⟨cT,bq,et,HL,bb,D,s⟩:=wI h1 bc bf hL u ba ac;have ax:z (eX j)=o*3:=by rw[Fu,hn]
 have y:=Z hn;have HZ:=Z hz;unfold wF;have c5:aS A (U r 5)=M (bE au i o an):=h1.dU.2.2.2.2.2;have cl:∀K bl,(eX j)[K]?=M bl->aS A (((U au i):Addr).add K)=M bl:=λK bl hj=>by rw[dB];exact u A h1.ay K bl hj
 obtain⟨dm,p,cM⟩:=dI cl ad ax;clear dx h1 ba u hL bf hz hn cl ax ac ad;go_in
 unfold fW at bq
 go_wp2_with(first
  |(at_builtin;rw[ae bq];go_loud(refine Ab _ rfl (.tmp 40) (.tmp 42) 29 rfl 42 i0 (.agg #[.string ⟨#[]⟩,.string ⟨#[]⟩,.bool bF]) underlying29 ea ee rfl (U au i) o an (eX j) rfl (by rw[ef];exact cM) dm co (by unfold maxLen;omega) (by omega) (by rw[eg];omega) ?_;intro t dT en)))
 obtain⟨m,V⟩:∃m,G (H A)=m:=⟨_,rfl⟩;have ad:=ae p;obtain⟨P,E⟩:∃P,(cF A<|aw (Ft j<|t-o) 42).drew=P:=⟨_,rfl⟩;have F:J az A P:=by rw[<-E];exact(cI az A).of_heap rfl
 have T:P.heap[m]?=M (aw (Ft j<|t-o) 42 (0,0)):=by rw[<-E];exact aE (w:=A) _ V.symm
 have h2:jg e P f db sbqq g h mem b d c lo ((m,aw (Ft j<|t-o) 42 (0,0))::(r,fW 1 ej ek el em<|bE au i o an)::O) C N l a l a:=cT.add F (by omega) T
 have bs:jg e P f db sbqq g h mem b d c lo ((r,fW 1 ej ek el em<|bE au i o an)::(m,aw (Ft j<|t-o) 42 (0,0))::O) C N l a l a:=h2.drop (λcE hp=>by
  simp only[aD]at hp|-;rcases hp with q|q|q
  .exact .inr<|.inl q
  .exact .inl q
  .exact .inr (.inr q))
 have S:=bs.still<|cg az P;have ey:=F.size;have ch:m<G (H P):=am T;have cc:ym P.drew (bE m 0 o t) j:=⟨Fu j,.inr ⟨m,0,t,by rw[ae y],by rw[<-ae y];exact dT,λK bl hj=>by rw[bD,cZ,bL T];exact AV j _ K bl hj⟩⟩;have bk:=λi=>EL S (bE m 0 o t) j i cc (λcB hk=>by have n:m=cB:=dF hk;have B:=D.2.2.2.2.1;have g2:=ae s;exact⟨by rw[<-n];exact ch,by omega⟩) HZ (by rw[<-ae y];exact eb) hC hN;obtain⟨wn,bi⟩:∃wn:Y,(if a then 6 else gd j)=wn:=⟨_,rfl⟩;obtain⟨la,bg⟩:∃la,(if a then l.1 else rl l.1 j)=la:=⟨_,rfl⟩;simp only[bi,bg]at bk;have bT:=And.intro S.gN.2.1 S.dU.2.1;obtain⟨ds,dk,x,eu⟩:=gD bi bg V E;have ei:=ae s;clear ad;have av:(cF A<|aw ((eX j).toArray++Builtin.zeroCells #[aj ⟨#[]⟩,aj ⟨#[]⟩,aO bF] (t-o)) 42).drew=P:=E;rw[V,av];clear F h2 bs S cc bi bg c5 E av V T;try rw[ei]
 rename_i QQ KK bu;refine cz (λk=>aS k (U f 1)=M (aA sbqq)/\aS k (U r 1)=M (aq ej)) 10 (by kernel_rfl) ?_;refine cY 0 ?_;iterate 9 (refine eJ (v:=?_) bT rfl (by kernel_rfl) iV rfl ?_ ?_;rotate_left;(focus(rintro k⟨z0,z1⟩;go_simp;try rfl));simp only[Act.put,dG,gp,Nat.reduceAdd])
 apply eA;refine aM (i:=9) rfl rfl (by kernel_rfl) ?_;intro KC bt;go_simp;apply(bk _).mono;rintro ao W3⟨rfl,h3⟩;have ca:=And.intro h3.gN.2.1 h3.dU.2.1;have bn:=Z h3;refine bt _ _ (λ_=>ca) ?_;try simp only[Act.put,dG,gp]
 refine aM (i:=10) rfl rfl (by kernel_rfl) ?_;intro KL bv;go_simp;refine bv _ _ wH ?_;refine cX (by kernel_rfl) ?_ _;show KK _ _;apply bu;have y5:aS W3 (U r 5)=M (bE au i o an):=h3.dU.2.2.2.2.2;have cs:=zq j (bE au i o an) W3 (by rw[<-ae y];omega) (HL W3 h3.ay) (λcB hk=>by cases hk;exact ag ce h3.ay.size);clear bT ca bk bt bv bu h3;go_wp2_with fail
 apply cs.mono;rintro ao W4⟨v4,rfl,X,bd⟩;have h4:=bn.still<|J.aV bd;have es:=bd.size;have eo:m<G (H W3):=am<|bn.obj<|aJ _<|dC ..;have bh:=sr h.1 h4.ref (dr X) (λcB hk=>(aI X cB hk).2) (by rw[<-ae y];omega);rw[ae ds,vV,ae dk]at bh;obtain⟨fl,fk,ed⟩:=aB X;subst ed;have y2:aS W4 (U f 2)=M (aA g):=h4.gN.2.2.1;have dc:=Z h4;clear X bd h4 cs y5;go_wp2_with fail
 apply bh.mono;rintro ao W5⟨rfl,⟨fe,cp,cn⟩,cd⟩;have h5:=dc.Ld cd cp cn;have cu:=ke wn h5.wT;have dd:=Z h5;clear bh cp cn cd h5 y2;go_wp2_with fail
 apply cu.mono;rintro ao W6⟨rfl,cb⟩;have h6:=dd.still<|J.aV cb;have cv:W6.heap[m]?=M (aw (Ft j<|t-o) 42 (0,0)):=h6.obj (p:=(m,aw (Ft j<|t-o) 42 (0,0)))<|aJ _<|dC ..;have cx:aS W6 (U r 5)=M (bE au i o an):=h6.dU.2.2.2.2.2;have cj:r≠m:=by have:=ae x;have:=ae p;omega
 have cm:r<G (H W6):=am<|h6.obj<|dC ..;obtain⟨bo,br,dv⟩:=dI h6 cv cx;clear cb cu h6 cv cx;go_wp2_with fail
 go_loopw [10] (λi wr=>∃(L:R)(Q:Array aa),L<=o/\i=aq L/\wr.heap[m]?=M (aw Q 42 (0,0))/\(∀K,L*3<=K->Q[K]?=(Ft j<|t-o)[K]?)/\J (λcB=>cB=m) W6 wr) (λi _=>o-(intOf i).toNat)
 case atStart=>exact⟨0,_,bB _,rfl,br,λ_ _=>rfl,J.refl _ _⟩
 (case round=>obtain⟨L,Q,hi,rfl,hx,n,B⟩:=hrel;by_cases ck:L<o;(·(have bx:L<z j:=by rw[<-ae y];exact ck);obtain⟨q0,q1,q2⟩:=li j L bx;have al:J az e wr:=bo.ay.trans B<|λcB ao=>.inr (by have:cB=m:=ao;have:=ae x;have:=ae p;omega);have a0:=bb wr al _ _ q0;have a1:=bb wr al _ _ q1;have a2:=bb wr al _ _ q2;have b0:aS wr (U m<|L*3)=_:=(bL hx).trans<|(n _<|by omega).trans<|AV j (t-o) _ _ q0;have b1:aS wr (U m<|L*3+1)=_:=(bL hx).trans<|(n _<|by omega).trans<|AV j (t-o) _ _ q1;have b2:aS wr (U m<|L*3+2)=_:=(bL hx).trans<|(n _<|by omega).trans<|AV j (t-o) _ _ q2;have y5:aS wr (U r 5)=M (bE au i o an):=B.cell dv cj cm;(have yf:∀K,wr.frozen? (U m K)=bF:=λK=>by simp[World.frozen?,hx]);rw[<-aY]at a1 a2;have ec:=Yg j[L].key j[L].val j[L].del;generalize j[L]=ev at*;obtain⟨xk,xv,xd⟩:=ev;simp only at a0 a1 a2 b0 b1 b2 ec;(have e1:(L:Y)<(o:Y):=by omega);(have e0:(0:Y)<=(L:Y):=by omega);obtain⟨HX,bm,dn⟩:=dI hx n B;clear hx n B al q0 q1 q2;(go_wp2_with fail);(go_quiet(fail));go_wp2;go_roundw;(case rel=>have hd:(wr.drewN nq).heap[m]?=M (aw Q 42 (0,0)):=ae HX;refine⟨L+1,_,ck,by go_num,aT<|aT<|aT hd,λK hj=>?_,?_⟩;rw[jP (by omega),jP (by omega),jP<|by omega];exact bm K (by omega);exact(((dn.trans (gX (λcB=>cB=m) wr nq)<|λ_ q=>.inl q).setCell _ _ _<|.inl rfl).setCell _ _ _<|.inl rfl).setCell _ _ _<|.inl rfl);case measure=>simp[intOf];omega);(have dn:L=o:=by omega);subst dn;(have e1:¬((L:Y)<(L:Y)):=by omega);have bx:∀cE∈O,cE.1<r:=bp;have al:=bo.Wh (O':=O) (by have:=ae x;have:=ae p;omega) ⟨_,aJ _<|dC ..⟩ br (λq o an=>by rcases Ic _ _ _ an with⟨_,ao⟩|⟨_,ao⟩<;>cases ao) (λq an=>by rcases Ic _ _ _ an with⟨_,ao⟩|⟨_,ao⟩<;>cases ao) (λao=>by have:=D.2.1 m ao;have:=ae s;have:=ae x;have:=ae p;omega) (λao=>by have:=D.2.2.1 m ao;have:=ae s;have:=ae x;have:=ae p;omega) B<|λcE hp=>⟨aJ _<|aJ _ hp,by have:=bx cE hp;have:=ae x;have:=ae p;omega⟩;have bm:=Z al;clear al hx n B bx;(go_wp2_with fail);apply(lT wn _).mono;rintro ao W9⟨rfl,ec⟩;subst W9;go_wp2;go_ret;exact⟨rfl,db,sbqq,g,_,mem,b,d,c,lo,_,a,bm⟩)
end
theorem Kq(k:Addr)(m:R)(w:I):cA bG 13 #[ah (M k) 0 m] w λn j=>∃i,n=aP i/\MZ j (G<|H w) i []/\Below (G<|H w) w j:=by
 go_in
 go_wp2;go_loopw [3,4] (λp o wr=>o=aq 0/\p=aG/\wr=w) (λ_ _ _=>0)
 case atStart=>exact⟨rfl,rfl,rfl⟩
 (case round=>obtain⟨rfl,rfl,rfl⟩:=hrel;go_wp2;go_ret;exact⟨_,rfl,bN _ _ _ _,Below.refl _ _⟩)
section
variable{h W:I}{e db sbqq f:R}{g:PB}{mem b:Y}{d c:aa}{lo:iI}{O:cD (R×Obj)}{C N:R}{l:LC}{a:Bool}
theorem wD(ca:jg h W e db sbqq f g mem b d c lo O C N l a l a)(cd ce:Y)(ch cj:ab)(u:Addr)(bp:R)(hC:C+lD []<=1000000)(hN:N+1<=100000000):cA bG 7 #[aA e,wF 1 cd ce ch cj<|ah (M u) 0 bp] W λbT w'=>bT=aP (aO bX)/\zV h w' e O (C+lD []) (N+1):=by
 obtain⟨i0,bq,bs,bt,bu⟩:=cL uH;obtain⟨D,o⟩:∃D,G (H W)=D:=⟨_,rfl⟩;obtain⟨q,w⟩:∃q,cF W (fW 1 cd ce ch cj<|ah (M u) 0 bp)=q:=⟨_,rfl⟩;have h1:jg h q e db sbqq f g mem b d c lo ((D,fW 1 cd ce ch cj<|ah (M u) 0 bp)::O) C N l a l a:=by rw[<-w];exact ca.add (cI _ W) (by omega)<|aE _ o.symm
 have cb:=ca.lens;have s:=ca.Df;have au:G (H q)=D+1:=by rw[<-w,<-o];simp
 have cm:=am ca.box;obtain⟨bb,F,p,bk,E⟩:=jX h1 w o au s;unfold wF;have c5:aS q (U D 5)=M (ah (M u) 0 bp):=h1.dU.2.2.2.2.2;clear ca h1 o au s;go_in
 unfold fW at F
 go_wp2_with(first
  |(at_builtin;rw[ae F];go_loud(refine bV _ rfl (.tmp 40) (.tmp 42) 29 rfl (G (H q)) 42 i0 (.agg #[.string ⟨#[]⟩,.string ⟨#[]⟩,.bool bF]) 3 40 underlying29 bq bs bt bu rfl (by decide) aG 0 [] rfl (bN _ _ _ _) u 0 bp [] rfl rfl (by simp) (by simp) (by omega) (by omega) (ai _) ?_;intro v2 K j ba;obtain⟨bo,bn,rfl⟩:=aB j;have bi:=Z j;have bl:=Z ba;clear j ba)))
 have k:J az q K:=J.dR bl.grown (λbv r=>by cases r);have j:K.ownsRow (G<|H q) 42 3 (ah bo 0 bn) 0 []:=ae bi;have m:=(bb.still k).still<|cg az K;have ck:=k.size;have ad:ym K.drew (ah bo 0 bn) []:=(cg az K).row (dr j)<|λbv r=>⟨id,(aI j bv r).2⟩;have B:=λk=>EL m (ah bo 0 bn) [] k ad (λbv r=>⟨(aI j bv r).2,by have:=(aI j bv r).1;have:=E.2.2.2.2.1;have:=ae p;have:=ae bk;omega⟩) (by simp) (by simp) hC hN;obtain⟨wn,A⟩:∃wn:Y,(if a then 6 else gd [])=wn:=⟨_,rfl⟩;obtain⟨la,x⟩:∃la,(if a then l.1 else rl l.1 [])=la:=⟨_,rfl⟩;simp only[A,x]at B;have T:=And.intro m.gN.2.1 m.dU.2.1;have bm:=Z A;have bh:=Z x;have bx:=ae p;clear k j m ad A x c5;try rw[bx]
 rename_i QQ KK Q;refine cz (λt=>aS t (U e 1)=M (aA sbqq)/\aS t (U D 1)=M (aq cd)) 10 (by kernel_rfl) ?_;refine cY 0 ?_;iterate 9 (refine eJ (v:=?_) T rfl (by kernel_rfl) iV rfl ?_ ?_;rotate_left;(focus(rintro t⟨z0,z1⟩;go_simp;try rfl));simp only[Act.put,dG,gp,Nat.reduceAdd])
 apply eA;refine aM (i:=9) rfl rfl (by kernel_rfl) ?_;intro KC P;go_simp;apply(B _).mono;rintro bT W3⟨rfl,L⟩;have V:=And.intro L.gN.2.1 L.dU.2.1;have bc:=Z L;refine P _ _ (λ_=>V) ?_;try simp only[Act.put,dG,gp]
 refine aM (i:=10) rfl rfl (by kernel_rfl) ?_;intro KL S;go_simp;refine S _ _ wH ?_;refine cX (by kernel_rfl) ?_ _;show KK _ _;apply Q;have y5:aS W3 (U D 5)=M (ah (M u) 0 bp):=L.dU.2.2.2.2.2;have av:=Kq u bp W3;clear T V B P S Q L;go_wp2_with fail
 apply av.mono;rintro bT W4⟨v4,rfl,n,X⟩;have h4:=bc.still<|J.aV X;have y:=sr g.1 h4.ref (dr n) (λbv r=>(aI n bv r).2) (by simp;omega);rw[ae bm,vV,ae bh]at y;obtain⟨dx,dc,br⟩:=aB n;subst br;have y2:aS W4 (U e 2)=M (aA f):=h4.gN.2.2.1;have bd:=Z h4;clear n X h4 av y5;go_wp2_with fail
 apply y.mono;rintro bT W5⟨rfl,⟨cn,ao,an⟩,al⟩;have h5:=bd.Ld al ao an;have ax:=ke wn h5.wT;have bf:=Z h5;clear y ao an al h5 y2;go_wp2_with fail
 apply ax.mono;rintro bT W6⟨rfl,ac⟩;have bg:=Z<|bf.still<|J.aV ac;clear ac ax;go_wp2_with fail
 go_loopw [10] (λj wr=>j=aq 0/\wr=W6) (λ_ _=>0)
 case atStart=>exact⟨rfl,rfl⟩
 (case round=>obtain⟨rfl,cc⟩:=hrel;subst wr;(go_wp2_with fail);apply(lT wn _).mono;rintro bT W9⟨rfl,cl⟩;subst W9;go_wp2;go_ret;exact⟨rfl,db,sbqq,f,_,mem,b,d,c,lo,_,a,bg.drop<|λp j=>aJ _ j⟩)
theorem DQ(bo:jg h W e db sbqq f g mem b d c lo O C N l a l a)(br bs:Y)(bt bu:ab)(hC:C+lD []<=1000000)(hN:N+1<=100000000):cA bG 7 #[aA e,wF 1 br bs bt bu aG] W λbn w'=>bn=aP (aO bX)/\zV h w' e O (C+lD []) (N+1):=by
 obtain⟨i0,bv,cb,cc,cd⟩:=cL uH;obtain⟨E,o⟩:∃E,G (H W)=E:=⟨_,rfl⟩;obtain⟨q,w⟩:∃q,cF W (fW 1 br bs bt bu aG)=q:=⟨_,rfl⟩;have h1:jg h q e db sbqq f g mem b d c lo ((E,fW 1 br bs bt bu aG)::O) C N l a l a:=by rw[<-w];exact bo.add (cI _ W) (by omega)<|aE _ o.symm
 have bp:=bo.lens;have s:=bo.Df;have au:G (H q)=E+1:=by rw[<-w,<-o];simp
 have ca:=am bo.box;obtain⟨ba,K,p,bh,F⟩:=jX h1 w o au s;unfold wF;have c5:aS q (U E 5)=M aG:=h1.dU.2.2.2.2.2;clear bo h1 o au s;go_in
 unfold fW at K;go_wp2_with fail
 rw[ae K];obtain⟨t,x⟩:∃t,q=t:=⟨_,rfl⟩;have k:J az q t:=by rw[<-x];exact J.refl _ _
 have j:t.ownsRow (G<|H q) 42 3 aG 0 []:=bN _ _ _ _;rw[x];clear x;have m:=(ba.still k).still<|cg az t;have bx:=k.size;have ad:ym t.drew aG []:=(cg az t).row (dr j)<|λbl r=>⟨id,(aI j bl r).2⟩;have D:=λk=>EL m aG [] k ad (λbl r=>⟨(aI j bl r).2,by have:=(aI j bl r).1;have:=F.2.2.2.2.1;have:=ae p;have:=ae bh;omega⟩) (by simp) (by simp) hC hN;obtain⟨wn,B⟩:∃wn:Y,(if a then 6 else gd [])=wn:=⟨_,rfl⟩;obtain⟨la,y⟩:∃la,(if a then l.1 else rl l.1 [])=la:=⟨_,rfl⟩;simp only[B,y]at D;have T:=And.intro m.gN.2.1 m.dU.2.1;have bi:=Z B;have bg:=Z y;have bm:=ae p;clear k j m ad B y c5;try rw[bm]
 rename_i QQ KK Q;refine cz (λu=>aS u (U e 1)=M (aA sbqq)/\aS u (U E 1)=M (aq br)) 10 (by kernel_rfl) ?_;refine cY 0 ?_;iterate 9 (refine eJ (v:=?_) T rfl (by kernel_rfl) iV rfl ?_ ?_;rotate_left;(focus(rintro u⟨z0,z1⟩;go_simp;try rfl));simp only[Act.put,dG,gp,Nat.reduceAdd])
 apply eA;refine aM (i:=9) rfl rfl (by kernel_rfl) ?_;intro KC P;go_simp;apply(D _).mono;rintro bn W3⟨rfl,L⟩;have V:=And.intro L.gN.2.1 L.dU.2.1;have bb:=Z L;refine P _ _ (λ_=>V) ?_;try simp only[Act.put,dG,gp]
 refine aM (i:=10) rfl rfl (by kernel_rfl) ?_;intro KL S;go_simp;refine S _ _ wH ?_;refine cX (by kernel_rfl) ?_ _;show KK _ _;apply Q;have y5:aS W3 (U E 5)=M aG:=L.dU.2.2.2.2.2;have av:=zq [] aG W3 (by simp) ⟨rfl,.inl ⟨rfl,rfl⟩⟩ (λbl r=>by cases r);clear T V D P S Q L;go_wp2_with fail
 apply av.mono;rintro bn W4⟨v4,rfl,n,X⟩;have h4:=bb.still<|J.aV X;have A:=sr g.1 h4.ref (dr n) (λbl r=>(aI n bl r).2) (by simp;omega);rw[ae bi,vV,ae bg]at A;obtain⟨dx,dc,bk⟩:=aB n;subst bk;have y2:aS W4 (U e 2)=M (aA f):=h4.gN.2.2.1;have bc:=Z h4;clear n X h4 av y5;go_wp2_with fail
 apply A.mono;rintro bn W5⟨rfl,⟨ce,ao,an⟩,al⟩;have h5:=bc.Ld al ao an;have ax:=ke wn h5.wT;have bd:=Z h5;clear A ao an al h5 y2;go_wp2_with fail
 apply ax.mono;rintro bn W6⟨rfl,ac⟩;have bf:=Z<|bd.still<|J.aV ac;clear ac ax;go_wp2_with fail
 go_loopw [10] (λj wr=>j=aq 0/\wr=W6) (λ_ _=>0)
 case atStart=>exact⟨rfl,rfl⟩
 (case round=>obtain⟨rfl,bq⟩:=hrel;subst wr;(go_wp2_with fail);apply(lT wn _).mono;rintro bn W9⟨rfl,bT⟩;subst W9;go_wp2;go_ret;exact⟨rfl,db,sbqq,f,_,mem,b,d,c,lo,_,a,bf.drop<|λp j=>aJ _ j⟩)
end
section
variable{h W:I}{f db sbqq g:R}{e:PB}{mem b:Y}{d c:aa}{lo:iI}{O:cD (R×Obj)}{C N:R}{l:LC}{a:Bool}
theorem Dd(bg:jg h W f db sbqq g e mem b d c lo O C N l a l a)(A bi:Y)(S T:ab)(bp:Option Addr)(bh bn:R)(e2:A<=0)(hn:A<0->bh=0):cA bG 11 #[aA f,wF 4 A bi S T<|ah bp bh bn] W λbf w'=>bf=aP (aO bX)/\jg h w' f db sbqq g e mem b d c lo O C N l a l a:=by
 obtain⟨w,al⟩:∃w,G (H W)=w:=⟨_,rfl⟩;have h1:jg h (cF W<|fW 4 A bi S T<|ah bp bh bn) f db sbqq g e mem b d c lo ((w,fW 4 A bi S T<|ah bp bh bn)::O) C N l a l a:=bg.add (cI _ W) (by omega)<|aE _ al.symm;have o:=h1.still<|cg az _;have k:=EM o S T A;have B:=And.intro o.gN.2.1 (And.intro o.dU.2.2.2.1 (And.intro o.dU.2.2.2.2.1 o.dU.2.1));have bo:=am bg.box;have bd:=bg.lens;have ba:z (if a then []else ng l.1 S T A)<=1000000:=by have:=mT l.1 S T A;split;simp;omega
 have t:=λW'(q:mO W' g e.1 l.1 a e.2)=>ud e.1 S T A q (by omega);have Q:(if a=bX\/A<=0 then []else ng l.1 S T A)=[]:=by exact dt<|.inr e2
 rw[Q]at k;obtain⟨P,hR⟩:∃P,(if a then []else ng l.1 S T A)=P:=⟨_,rfl⟩;obtain⟨gn,ad⟩:∃gn:Y,(if a then 6 else 0)=gn:=⟨_,rfl⟩;skip
 rw[hR]at ba;simp only[hR,ad]at t;have x:=Z t;by_cases e1:A<0;case' pos=>obtain rfl:=hn e1
 (all_goals clear hn;unfold wF;unfold fW at k B;clear bg h1 o hR ad t Q;(go_in);(go_wp2_with fail);(try rw[al]);rename_i QQ KK r;refine cz (λj=>aS j (U f 1)=M (aA sbqq)/\aS j (U w 3)=M (aj S)/\aS j (U w 4)=M (aj T)/\aS j (U w 1)=M (aq A)) 11 (by kernel_rfl) ?_;refine cY 0 ?_;(iterate 10 (refine eJ (v:=?_) B rfl (by kernel_rfl) iV rfl ?_ ?_;rotate_left;(focus(rintro j⟨z0,z1,z2,z3⟩;go_simp;try rfl));simp only[Act.put,dG,gp,Nat.reduceAdd]));apply eA;refine aM (i:=10) rfl rfl (by kernel_rfl) ?_;intro KC p;go_simp;apply k.mono;rintro bf W2⟨v2,rfl,F,o⟩;obtain⟨bm,bl,bb⟩:=aB F;subst bb;have u:=o.still<|cg az W2;have V:=And.intro o.gN.2.1 (And.intro o.dU.2.2.2.1 (And.intro o.dU.2.2.2.2.1 o.dU.2.1));have y:=Z F;have n:=Z u;refine p _ _ (λ_=>V) ?_;(try simp only[Act.put,dG,gp]);refine aM (i:=11) rfl rfl (by kernel_rfl) ?_;intro KL s;go_simp;refine s _ _ wH ?_;refine cX (by kernel_rfl) ?_ _;show KK _ _;apply r;have an:=x _ n.ref;have X:=And.intro n.gN.2.2.1 (And.intro n.dU.2.2.2.1 (And.intro n.dU.2.2.2.2.1 n.dU.2.1));clear B V k F o u p s r x;(go_wp2_with fail);rename_i QQ KK r;refine cz (λj=>aS j (U f 2)=M (aA g)/\aS j (U w 3)=M (aj S)/\aS j (U w 4)=M (aj T)/\aS j (U w 1)=M (aq A)) 15 (by kernel_rfl) ?_;refine cY 0 ?_;(iterate 10 (refine eJ (v:=?_) X rfl (by kernel_rfl) iV rfl ?_ ?_;rotate_left;(focus(rintro j⟨z0,z1,z2,z3⟩;go_simp;try rfl));simp only[Act.put,dG,gp,Nat.reduceAdd]));apply eA;refine aM (i:=10) rfl rfl (by kernel_rfl) ?_;intro KC p;go_simp;apply an.mono;rintro bf W3⟨v3,rfl,K,E⟩;obtain⟨bx,bq,bc⟩:=aB K;subst bc;have u:=n.still<|J.aV E;have D:=And.intro u.gN.2.2.1 (And.intro u.dU.2.2.2.1 (And.intro u.dU.2.2.2.2.1 u.dU.2.1));have ac:jq W3 (ah bm (z ([]:iI)) bl) ([]:iI):=(J.aV (S:=az) E).row ((cg az W2).row (dr y)<|λk j=>⟨id,(aI y k j).2⟩)<|λk j=>⟨id,(aI y k j).2⟩;obtain⟨ax,bk,au⟩:=dI ac K u;have y1:aS W3 (U w 1)=M (aq A):=u.dU.2.1;refine p _ _ (λ_=>D) ?_;(try simp only[Act.put,dG,gp]);refine cY 11 ?_;(iterate 4 (refine eJ (v:=?_) D rfl (by kernel_rfl) iV rfl ?_ ?_;rotate_left;(focus(rintro j⟨z0,z1,z2,z3⟩;go_simp;try rfl));simp only[Act.put,dG,gp,Nat.reduceAdd]));apply eA;refine aM (i:=15) rfl rfl (by kernel_rfl) ?_;intro KL s;go_simp;refine s _ _ wH ?_;refine cX (by kernel_rfl) ?_ _;show KK _ _;apply r;have L:=nr (m:=([]:iI)) ax (show jq W3 aG []from⟨rfl,.inl ⟨rfl,rfl⟩⟩) (by simp) (by simp);simp only[mR]at L;clear an X D p s r ac K u E;(go_wp2_with fail);apply L.mono;rintro bf W5⟨rfl,kq,ao⟩;have av:=Z<|au.still (W':=W5) (by rw[ao];exact gX _ _ _);clear L ao;go_wp2;go_ret;exact⟨rfl,av.drop<|λp j=>aJ _ j⟩)
end
section
variable{h W:I}{f db sbqq g:R}{e:PB}{mem b:Y}{d c:aa}{lo:iI}{O:cD (R×Obj)}{C N:R}{l:LC}{a:Bool}
theorem Bt(bg:jg h W f db sbqq g e mem b d c lo O C N l a l a)(A bh:Y)(S T:ab)(bo:Option Addr)(bn bl:R)(hA:0<A):cA bG 11 #[aA f,wF 4 A bh S T<|ah bo bn bl] W λbf w'=>bf=aP (aO bX)/\jg h w' f db sbqq g e mem b d c lo O C N l a l a:=by
 obtain⟨u,ad⟩:∃u,G (H W)=u:=⟨_,rfl⟩;have h1:jg h (cF W<|fW 4 A bh S T<|ah bo bn bl) f db sbqq g e mem b d c lo ((u,fW 4 A bh S T<|ah bo bn bl)::O) C N l a l a:=bg.add (cI _ W) (by omega)<|aE _ ad.symm;have n:=h1.still<|cg az _;have k:=EM n S T A;have B:=And.intro n.gN.2.1 (And.intro n.dU.2.2.2.1 (And.intro n.dU.2.2.2.2.1 n.dU.2.1));have bm:=am bg.box;have bd:=bg.lens;have ba:z (if a then []else ng l.1 S T A)<=1000000:=by have:=mT l.1 S T A;split;simp;omega
 have s:=λW'(q:mO W' g e.1 l.1 a e.2)=>ud e.1 S T A q (by omega);have P:(if a=bX\/A<=0 then []else ng l.1 S T A)=(if a then []else ng l.1 S T A):=by cases a<;>simp<;>omega
 rw[P]at k;obtain⟨w,hR⟩:∃w,(if a then []else ng l.1 S T A)=w:=⟨_,rfl⟩;obtain⟨gn,ac⟩:∃gn:Y,(if a then 6 else 0)=gn:=⟨_,rfl⟩;rw[hR]at k;rw[hR]at ba;simp only[hR,ac]at s;have x:=Z s;have e1:¬(A<0):=by omega
 have e2:¬(A<=0):=by omega
 unfold wF;unfold fW at k B;clear bg h1 n hR ac s P;go_in
 go_wp2_with fail
 try rw[ad]
 rename_i QQ KK p;refine cz (λj=>aS j (U f 1)=M (aA sbqq)/\aS j (U u 3)=M (aj S)/\aS j (U u 4)=M (aj T)/\aS j (U u 1)=M (aq A)) 11 (by kernel_rfl) ?_;refine cY 0 ?_;iterate 10 (refine eJ (v:=?_) B rfl (by kernel_rfl) iV rfl ?_ ?_;rotate_left;(focus(rintro j⟨z0,z1,z2,z3⟩;go_simp;try rfl));simp only[Act.put,dG,gp,Nat.reduceAdd])
 apply eA;refine aM (i:=10) rfl rfl (by kernel_rfl) ?_;intro KC o;go_simp;apply k.mono;rintro bf W2⟨v2,rfl,F,n⟩;obtain⟨bk,bi,bb⟩:=aB F;subst bb;have t:=n.still<|cg az W2;have Q:=And.intro n.gN.2.1 (And.intro n.dU.2.2.2.1 (And.intro n.dU.2.2.2.2.1 n.dU.2.1));have y:=Z F;have m:=Z t;refine o _ _ (λ_=>Q) ?_;try simp only[Act.put,dG,gp]
 refine aM (i:=11) rfl rfl (by kernel_rfl) ?_;intro KL r;go_simp;refine r _ _ wH ?_;refine cX (by kernel_rfl) ?_ _;show KK _ _;apply p;have al:=x _ m.ref;have V:=And.intro m.gN.2.2.1 (And.intro m.dU.2.2.2.1 (And.intro m.dU.2.2.2.2.1 m.dU.2.1));clear B Q k F n t o r p x;go_wp2_with fail
 rename_i QQ KK p;refine cz (λj=>aS j (U f 2)=M (aA g)/\aS j (U u 3)=M (aj S)/\aS j (U u 4)=M (aj T)/\aS j (U u 1)=M (aq A)) 15 (by kernel_rfl) ?_;refine cY 0 ?_;iterate 10 (refine eJ (v:=?_) V rfl (by kernel_rfl) iV rfl ?_ ?_;rotate_left;(focus(rintro j⟨z0,z1,z2,z3⟩;go_simp;try rfl));simp only[Act.put,dG,gp,Nat.reduceAdd])
 apply eA;refine aM (i:=10) rfl rfl (by kernel_rfl) ?_;intro KC o;go_simp;apply al.mono;rintro bf W3⟨v3,rfl,K,E⟩;obtain⟨bx,bp,bc⟩:=aB K;subst bc;have t:=m.still<|J.aV E;have D:=And.intro t.gN.2.2.1 (And.intro t.dU.2.2.2.1 (And.intro t.dU.2.2.2.2.1 t.dU.2.1));have X:jq W3 (ah bk (z w) bi) w:=(J.aV (S:=az) E).row ((cg az W2).row (dr y)<|λk j=>⟨id,(aI y k j).2⟩)<|λk j=>⟨id,(aI y k j).2⟩;obtain⟨ax,av,ao⟩:=dI X K t;have y1:aS W3 (U u 1)=M (aq A):=t.dU.2.1;refine o _ _ (λ_=>D) ?_;try simp only[Act.put,dG,gp]
 refine cY 11 ?_;iterate 4 (refine eJ (v:=?_) D rfl (by kernel_rfl) iV rfl ?_ ?_;rotate_left;(focus(rintro j⟨z0,z1,z2,z3⟩;go_simp;try rfl));simp only[Act.put,dG,gp,Nat.reduceAdd])
 apply eA;refine aM (i:=15) rfl rfl (by kernel_rfl) ?_;intro KL r;go_simp;refine r _ _ wH ?_;refine cX (by kernel_rfl) ?_ _;show KK _ _;apply p;have L:=nr ax (py.Lp av) (by omega) (by omega);simp only[mR]at L;clear al V D o r p X K t E;go_wp2_with fail
 apply L.mono;rintro bf W5⟨rfl,kq,an⟩;have au:=Z<|ao.still (W':=W5) (by rw[an];exact gX _ _ _);clear L an;go_wp2;go_ret;exact⟨rfl,au.drop<|λp j=>aJ _ j⟩
end
section
variable{h W:I}{e db sbqq f:R}{g:PB}{mem b:Y}{d c:aa}{lo:iI}{O:cD (R×Obj)}{C N:R}{l:LC}{a:Bool}
theorem QC(w:jg h W e db sbqq f g mem b d c lo O C N l a l a)(P Q:Y)(S T:ab)(ac:Option Addr)(X V:R)(y:N+1<=100000000):cA bG 7 #[aA e,wF 7 P Q S T<|ah ac X V] W λv L=>v=aP (aO bX)/\zV h L e O C (N+1):=by
 have x:=w.still<|(J.refl az W).alloc<|fW 7 P Q S T<|ah ac X V;have i:=LH x y;have y1:aS W (U e 1)=M (aA sbqq):=w.gN.2.1;have K:=am w.box;have A:=w.lens;obtain⟨B,o,D,j⟩:∃B o D,sZ a l=(B,o,D):=⟨_,_,_,rfl⟩;rw[j]at i;simp only at i;have u:=Z j;unfold fW at i;unfold wF;clear w x j;go_in
 go_wp2_with fail
 apply i.mono;rintro v E⟨rfl,r⟩;have y2:aS E (U e 2)=M (aA f):=r.gN.2.2.1;have p:=r.Wu (by omega) (by omega) y;rw[ae u]at p;simp only at p;clear i r u;go_wp2_with fail
 apply p.mono;rintro v W3⟨rfl,t,s⟩;have n:=ke o s.wT;have k:=Z s;clear p s;go_wp2_with fail
 apply n.mono;rintro v W4⟨rfl,m⟩;have q:=Z<|k.still<|J.aV m;clear m n k;go_wp2_with fail
 apply(lT o _).mono;rintro v F⟨rfl,hw⟩;subst F;go_wp2;go_ret;exact⟨rfl,db,sbqq,f,t,mem,b,d,c,lo,_,a,q⟩
theorem IG(ao:jg h W e db sbqq f g mem b d c lo O C N l a l a)(P ac:Y)(ad al:ab)(ba:Option Addr)(ax an:R):cA bG 7 #[aA e,wF 10 P ac ad al<|ah ba ax an] W λT w'=>T=aP (aO bX)/\zV h w' e O C N:=by
 obtain⟨K,E⟩:∃K,G (H W)=K:=⟨_,rfl⟩;have V:jg h (cF W<|fW 10 P ac ad al<|ah ba ax an) e db sbqq f g mem b d c lo ((K,fW 10 P ac ad al<|ah ba ax an)::O) C N l a l a:=ao.add (cI _ W) (by omega)<|aE _ E.symm;have q:=V.still<|cg az _;have j:=Ov q P;have w:=And.intro q.gN.2.1 q.dU.2.1;have au:=am ao.box;obtain⟨L,X,p⟩:∃L X,NV a l.2 P=(L,X):=⟨_,_,rfl⟩;rw[p]at j;simp only at j;have x:=Z p;unfold wF;unfold fW at j w;clear ao V q p;go_in
 go_wp2_with fail
 try rw[E]
 rename_i QQ S n;refine cz (λk=>aS k (U e 1)=M (aA sbqq)/\aS k (U K 1)=M (aq P)) 7 (by kernel_rfl) ?_;refine cY 0 ?_;iterate 6 (refine eJ (v:=?_) w rfl (by kernel_rfl) iV rfl ?_ ?_;rotate_left;(focus(rintro k⟨z0,z1⟩;go_simp;try rfl));simp only[Act.put,dG,gp,Nat.reduceAdd])
 apply eA;refine aM (i:=6) rfl rfl (by kernel_rfl) ?_;intro KC m;go_simp;apply j.mono;rintro T W2⟨rfl,q⟩;have u:=q.still<|cg az W2;have y:=And.intro q.gN.2.1 q.dU.2.1;have s:=Z u;refine m _ _ (λ_=>y) ?_;try simp only[Act.put,dG,gp]
 refine aM (i:=7) rfl rfl (by kernel_rfl) ?_;intro KL o;go_simp;refine o _ _ wH ?_;refine cX (by kernel_rfl) ?_ _;show S _ _;apply n;have r:=s.NW P;rw[ae x]at r;simp only at r;have A:=And.intro s.gN.2.2.1 (s.dU.2.1);clear w y j q u m o n x;go_wp2_with fail
 rename_i QQ S n;refine cz (λk=>aS k (U e 2)=M (aA f)/\aS k (U K 1)=M (aq P)) 7 (by kernel_rfl) ?_;refine cY 0 ?_;iterate 6 (refine eJ (v:=?_) A rfl (by kernel_rfl) iV rfl ?_ ?_;rotate_left;(focus(rintro k⟨z0,z1⟩;go_simp;try rfl));simp only[Act.put,dG,gp,Nat.reduceAdd])
 apply eA;refine aM (i:=6) rfl rfl (by kernel_rfl) ?_;intro KC m;go_simp;apply r.mono;rintro T W3⟨rfl,u⟩;have B:=And.intro u.gN.2.2.1 u.dU.2.1;have t:=Z u;refine m _ _ (λ_=>B) ?_;try simp only[Act.put,dG,gp]
 refine aM (i:=7) rfl rfl (by kernel_rfl) ?_;intro KL o;go_simp;refine o _ _ wH ?_;refine cX (by kernel_rfl) ?_ _;show S _ _;apply n;have F:=ke L t.wT;clear r A B m o n u;go_wp2_with fail
 apply F.mono;rintro T W4⟨rfl,D⟩;have Q:=Z<|t.still<|J.aV D;clear D F t;go_wp2_with fail
 apply(lT L _).mono;rintro T W5⟨rfl,av⟩;subst W5;go_wp2;go_ret;exact⟨rfl,db,sbqq,f,g,mem,b,d,c,lo,_,a,Q.drop<|λp j=>aJ _ j⟩
theorem IH(v:jg h W e db sbqq f g mem b d c lo O C N l a l a)(L P:Y)(S T:ab)(X:Option Addr)(V Q:R)(y:N+1<=100000000):cA bG 7 #[aA e,wF 11 L P S T<|ah X V Q] W λr E=>r=aP (aO bX)/\zV h E e O C (N+1):=by
 have u:=v.still<|(J.refl az W).alloc<|fW 11 L P S T<|ah X V Q;have i:=Ow u y;have y1:aS W (U e 1)=M (aA sbqq):=v.gN.2.1;have D:=am v.box;unfold fW at i;unfold wF;clear v u;cases a with
 |false=>
  simp only[gV,jT]at i;go_in
  go_wp2_with fail
  apply i.mono;rintro r w⟨rfl,p⟩;have m:=ke 0 p.wT;have j:=Z p;clear i p;go_wp2_with fail
  apply m.mono;rintro r s⟨rfl,k⟩;have n:=j.still<|J.aV k;have F:aS s (U e 2)=M (aA f):=n.gN.2.2.1;obtain⟨⟨ac,q,_,_⟩,_,_⟩:=n.ref;have K:=cellAt q 2 rfl;have o:=Z n;clear k m j n q;go_wp2_with fail
  apply(lT 0 _).mono;rintro r t⟨rfl,A⟩;subst t;go_wp2;go_ret;exact⟨rfl,db,sbqq,f,g,mem,b,d,c,lo,_,_,o⟩
 |true=>
  simp only[iO]at i;go_in
  go_wp2_with fail
  apply i.mono;rintro r w⟨rfl,p⟩;have m:=ke 6 p.wT;have j:=Z p;clear i p;go_wp2_with fail
  apply m.mono;rintro r s⟨rfl,k⟩;have n:=j.still<|J.aV k;have F:aS s (U e 2)=M (aA f):=n.gN.2.2.1;obtain⟨⟨ac,q,_,_⟩,_,_⟩:=n.ref;have K:=cellAt q 2 rfl;have o:=Z n;clear k m j n q;go_wp2_with fail
  apply(lT 6 _).mono;rintro r t⟨rfl,A⟩;subst t;go_wp2_with fail
  apply(lT 6 _).mono;rintro r x⟨rfl,B⟩;subst x;go_wp2;go_ret;exact⟨rfl,db,sbqq,f,g,mem,b,d,c,lo,_,_,o⟩
end
section
variable{h W:I}{e db sbqq f:R}{g:PB}{mem b:Y}{d c:aa}{lo:iI}{O:cD (R×Obj)}{C N:R}{l:LC}{a:Bool}
theorem QX(q:jg h W e db sbqq f g mem b d c lo O C N l a l a)(s:Y)(j m:ab)(i:Y):z (zb a l.2 s j m i).1<=1000000:=by
 obtain⟨F,K,E,w,y,A,B,p,o,v,r,q⟩:=q;unfold zb;rw[<-q.ref.abs];cases a with
 |true=>exact bB _
 |false=>
  rcases AX r s with⟨D,x,_,_,n,k⟩|⟨n,k⟩
  .simp only[k];have t:=q.ref.len x (Dt n).1;have u:=mT x.l j m i;show z (ng x.l j m i)<=1000000;omega
  .simp only[k];exact bB _
theorem Lf(bp:jg h W e db sbqq f g mem b d c lo O C N l a l a)(bd bf:Y)(bc bg:ab)(bv:Option Addr)(bu br:R):cA bG 11 #[aA e,wF 9 bd bf bc bg<|ah bv bu br] W λbo w'=>bo=aP (aO bX)/\jg h w' e db sbqq f g mem b d c lo O C N l a l a:=by
 obtain⟨t,ao⟩:∃t,G (H W)=t:=⟨_,rfl⟩;have h1:jg h (cF W<|fW 9 bd bf bc bg<|ah bv bu br) e db sbqq f g mem b d c lo ((t,fW 9 bd bf bc bg<|ah bv bu br)::O) C N l a l a:=bp.add (cI _ W) (by omega)<|aE _ ao.symm;have o:=h1.still<|cg az _;have m:=RM o bd bc bg bf;have E:=And.intro o.gN.2.1 (And.intro o.dU.2.1 (And.intro o.dU.2.2.2.1 (And.intro o.dU.2.2.2.2.1 o.dU.2.2.1)));have bs:=am bp.box;have D:=QX bp bd bc bg bf;obtain⟨k,gn,s⟩:∃k gn,zb a l.2 bd bc bg bf=(k,gn):=⟨_,_,rfl⟩;rw[s]at m D;simp only at m D;have T:=Z s;unfold wF;unfold fW at m E;clear bp h1 o s;go_in
 go_wp2_with fail
 try rw[ao]
 rename_i QQ KK q;refine cz (λj=>aS j (U e 1)=M (aA sbqq)/\aS j (U t 1)=M (aq bd)/\aS j (U t 3)=M (aj bc)/\aS j (U t 4)=M (aj bg)/\aS j (U t 2)=M (aq bf)) 17 (by kernel_rfl) ?_;refine cY 0 ?_;iterate 12 (refine eJ (v:=?_) E rfl (by kernel_rfl) iV rfl ?_ ?_;rotate_left;(focus(rintro j⟨z0,z1,z2,z3,z4⟩;go_simp;try rfl));simp only[Act.put,dG,gp,Nat.reduceAdd])
 apply eA;refine aM (i:=12) rfl rfl (by kernel_rfl) ?_;intro KC p;go_simp;apply m.mono;rintro bo W2⟨v2,rfl,L,o⟩;obtain⟨bl,bk,bm⟩:=aB L;subst bm;have u:=o.still<|cg az W2;have F:=And.intro o.gN.2.1 (And.intro o.dU.2.1 (And.intro o.dU.2.2.2.1 (And.intro o.dU.2.2.2.2.1 o.dU.2.2.1)));have w:=Z L;have n:=Z u;refine p _ _ (λ_=>F) ?_;try simp only[Act.put,dG,gp]
 refine cY 13 ?_;iterate 4 (refine eJ (v:=?_) F rfl (by kernel_rfl) iV rfl ?_ ?_;rotate_left;(focus(rintro j⟨z0,z1,z2,z3,z4⟩;go_simp;try rfl));simp only[Act.put,dG,gp,Nat.reduceAdd])
 apply eA;refine aM (i:=17) rfl rfl (by kernel_rfl) ?_;intro KL r;go_simp;refine r _ _ wH ?_;refine cX (by kernel_rfl) ?_ _;show KK _ _;apply q;have A:=n.Rh bd bc bg bf;rw[ae T]at A;simp only at A;have ad:=And.intro n.gN.2.2.1 (And.intro n.dU.2.1 (And.intro n.dU.2.2.2.1 (And.intro n.dU.2.2.2.2.1 (n.dU.2.2.1))));clear E F m L o u p r q T;go_wp2_with fail
 rename_i KK q;refine cz (λj=>aS j (U e 2)=M (aA f)/\aS j (U t 1)=M (aq bd)/\aS j (U t 3)=M (aj bc)/\aS j (U t 4)=M (aj bg)/\aS j (U t 2)=M (aq bf)) 17 (by kernel_rfl) ?_;refine cY 0 ?_;iterate 12 (refine eJ (v:=?_) ad rfl (by kernel_rfl) iV rfl ?_ ?_;rotate_left;(focus(rintro j⟨z0,z1,z2,z3,z4⟩;go_simp;try rfl));simp only[Act.put,dG,gp,Nat.reduceAdd])
 apply eA;refine aM (i:=12) rfl rfl (by kernel_rfl) ?_;intro KC p;go_simp;apply A.mono;rintro bo W3⟨v3,rfl,P,x⟩;obtain⟨bx,bq,bn⟩:=aB P;subst bn;have u:=n.still<|J.aV x;have K:=And.intro u.gN.2.2.1 (And.intro u.dU.2.1 (And.intro u.dU.2.2.2.1 (And.intro u.dU.2.2.2.2.1 u.dU.2.2.1)));have an:jq W3 (ah bl (z k) bk) k:=(J.aV (S:=az) x).row ((cg az W2).row (dr w)<|λS y=>⟨id,(aI w S y).2⟩)<|λS y=>⟨id,(aI w S y).2⟩;have bb:∀S,bY (ah bl (z k) bk)=M S->S<G (H W3):=λS y=>ag (aI w S y).2 x.size;obtain⟨ac,X,V⟩:=dI (And.intro an bb) P u;refine p _ _ (λ_=>K) ?_;try simp only[Act.put,dG,gp]
 refine cY 13 ?_;iterate 4 (refine eJ (v:=?_) K rfl (by kernel_rfl) iV rfl ?_ ?_;rotate_left;(focus(rintro j⟨z0,z1,z2,z3,z4⟩;go_simp;try rfl));simp only[Act.put,dG,gp,Nat.reduceAdd])
 apply eA;refine aM (i:=17) rfl rfl (by kernel_rfl) ?_;intro KL r;go_simp;refine r _ _ wH ?_;refine cX (by kernel_rfl) ?_ _;show KK _ _;apply q;have ax:=ke gn V.wT;clear A ad K p r q an P u x bb;go_wp2_with fail
 apply ax.mono;rintro bo W4⟨rfl,al⟩;have B:J az W3 W4:=J.aV al;have bh:=Z<|V.still B;have au:jq W4 (ah bl (z k) bk) k:=B.row ac.1<|λS y=>⟨id,ac.2 S y⟩;have av:jq W4 (ah bx (z k) bq) k:=B.row (py.Lp X)<|λS y=>⟨id,(aI X S y).2⟩;have Q:=nr au av (by omega) (by omega);clear al ax B au av;simp only[mR]at Q;go_wp2_with fail
 apply Q.mono;rintro bo W5⟨rfl,kq,ba⟩;have bi:=Z<|bh.still (W':=W5) (by rw[ba];exact gX _ _ _);clear Q ba;go_wp2_with fail
 apply(lT gn _).mono;rintro bo W7⟨rfl,bt⟩;subst W7;go_wp2;go_ret;exact⟨rfl,bi.drop<|λp j=>aJ _ j⟩
end
def XO:PR 0 (bZ [] [] [] []):=by
 have e:bZ [] [] [] []=[[],[],[]]:=rfl;rw[e];have a:PR 0 ([]:dX):=⟨List.Pairwise.nil,by simp,by simp,by simp⟩;exact a.xH.xH.xH
def UL(f:cU a b (rN c))(i:Steps a)(g:Pow a)(d:¬(rN c).bw b 1)(e:¬(rN c).bw b 2):wW a b (rN c) [] [] [] [] 0 0 0 2 1 bF []where
 aN:=f
 rh:=by
  refine⟨λn j h=>?_,.inr ⟨rfl,rfl,rfl,rfl,rfl,rfl,rfl,rfl⟩,λh=>(by cases h),λ_=>rfl,by simp,by simp,by simp,by omega,by simp⟩;simp[rN,vw,ew]at h
 pr:=XO
 lp:=⟨by simp,by simp,by simp,by simp,by omega,by simp⟩
 qK:=by simp[gQ,cr]
 mw:=by omega
 s1:=⟨by simp,List.Pairwise.nil,List.Pairwise.nil⟩
 s2:=⟨by simp,List.Pairwise.nil,List.Pairwise.nil⟩
 s3:=⟨by simp,List.Pairwise.nil,List.Pairwise.nil⟩
 UD:=λh=>by cases h
 nx:=by omega
 bn:=by simp
 eU:=by simp[rN]
 Kp:=by omega
 steps:=i
 pow:=g
 fC:=d
 mJ:=e
def GU(a:0<=m)(b:m<D)(c:D<=100):su m D=m:=by
 unfold su;have e:IntKind.u64.wrap m=m:=by rw[ib];omega
 rw[e,Int.tmod_eq_of_lt a b];unfold wrap64;omega
def Il(j al:Y)(W:Steps a)(V:Pow a)(T:pU a):cA bG 6 #[aq j,aq al] a λQ w'=>∃o,Q=aP (dE #[aA o,aO bX])/\zV a w' o [] 0 1:=by
 have y:=Cw a;obtain⟨D,C,HE⟩:=dI W V T;have rM:=GS j 32 (by omega) (by omega);have rT:=GS al 5 (by omega) (by omega);clear W V T;go_in
 go_wp2_with fail
 apply y.mono;rintro Q d⟨rfl,v,s⟩;have i:=Z v;have p:=Z s;clear v s y;obtain⟨g,b⟩:∃g,cF (cF d<|aw #[aG,aG,aO bF] 46) (aw #[aA<|G (H a)+2,fA none,aA<|G<|H d,aq 0,aq 0,aG,aG] 40)=g:=⟨_,rfl⟩;have m:J az d g:=by rw[<-b];exact(cI az d).alloc _
 have f:J az a g:=(J.aV (S:=az) p).cw m;have N:=p.size;have x:=am i.iN;have O:G (H g)=G (H d)+2:=by rw[<-b];simp
 have u:g.heap[G (H d)+1]?=M (aw #[aA<|G (H a)+2,fA none,aA<|G<|H d,aq 0,aq 0,aG,aG] 40 (0,0)):=by rw[<-b];exact aE _<|by simp
 have t:g.heap[G<|H d]?=M (aw #[aG,aG,aO bF] 46 (0,0)):=by rw[<-b];exact(ga _<|by simp).trans<|aE _ rfl
 have c:∀n,(rN<|G<|H a).bw (G (H a)+2) n->G (H a)<=n/\n<G (H d):=λn q=>by refine⟨?_,i.lt n q⟩;rcases q with A|A|A|A|⟨ao,L,A⟩|⟨au,hg,A⟩;omega;have:n=G (H a):=A;omega;have:n=G (H a)+1:=A;omega;cases A;cases L;cases hg
 have w:=i.ay m<|λ_ _=>id;have e:=UL w (Steps.ay D f id) (C.ay f id) (λq=>by have:=(c _ q).1;have:=D.lt;omega) (λq=>by have:=(c _ q).1;have:=C.lt;omega);have r:OW a g (G (H d)+1) (G (H a)+2) (G<|H d) (none,aG) none 0 0 aG aG [] [] (rN<|G<|H a) [] [] [] [] 0 0 0 2 1 bF [] [] ([],[]) bF:=by refine⟨u,⟨⟨⟨_,t,⟨rfl,.inl ⟨rfl,rfl⟩⟩,rfl⟩,by simp,by simp⟩,⟨⟨rfl,.inl ⟨rfl,rfl⟩⟩,by simp,by simp,by simp⟩,bN _ _ _ _,λn _ _ _ a=>(by cases a),rfl,by simp,λn a=>(by cases a)⟩,e,VA (by simp[bZ,gQ,cr,kr,nA]),by simp,⟨rfl,.inl ⟨rfl,rfl⟩⟩,⟨rfl,.inl ⟨rfl,rfl⟩⟩,by simp,f,⟨λn q=>(c n q).1,by omega,by omega⟩,λq=>by have:=(c _ q).2;omega,λq=>by have:=(c _ q).2;omega,λn q=>(by rcases q with q|q|⟨ao,L,_⟩;cases q;cases q;cases L),λn q=>(by cases q),λn q=>(by cases q),by simp,λq Q=>(by cases Q),by omega,D,C,HE⟩
 have X:oP (su (1+wrap64 ((IntKind.u64.wrap j).tmod 32)) 34) (su (2+wrap64 ((IntKind.u64.wrap al).tmod 5)) 8)=0:=by rw[GU (by omega) (by omega) (by omega),GU (by omega) (by omega)<|by omega];unfold oP;rw[dh<|by omega]
 have l:=Km r _ _ X (by omega);have E:=Z b;obtain⟨o,k⟩:∃o,G (H d)+1=o:=⟨_,rfl⟩;rw[k]at l;have F:=Z k;clear b m f N x O u t c w e r X k;go_wp2_with fail
 rw[ae E,ae F];apply l.mono;rintro Q W4⟨rfl,P,an,ac,ad,K⟩;have y1:aS W4 (U o 1)=M (aA P):=K.gN.2.1;have B:=Z K;clear l K;go_wp2_with fail
 go_quiet(fail)
 rename_i nq;go_wp2;go_ret2
 exact⟨_,rfl,_,_,_,_,_,_,_,_,_,_,_,B.still<|gX _ _ _⟩
section
variable{h W:I}{e db sbqq f:R}{g:PB}{mem b:Y}{d c:aa}{lo:iI}{O:cD (R×Obj)}{C N:R}{l:LC}{a:Bool}
theorem Ob(an:jg h W e db sbqq f g mem b d c lo O C N l a l a)(F ac:Y)(S ad:ab)(ba:Option Addr)(ax al:R)(hz:S.size<=140737488351232):cA bG 11 #[aA e,wF 8 F ac S ad<|ah ba ax al] W λX w'=>X=aP (aO bX)/\jg h w' e db sbqq f g mem b d c lo O C N l a l a:=by
 obtain⟨x,B⟩:∃x,G (H W)=x:=⟨_,rfl⟩;have h1:jg h (cF W<|fW 8 F ac S ad<|ah ba ax al) e db sbqq f g mem b d c lo ((x,fW 8 F ac S ad<|ah ba ax al)::O) C N l a l a:=an.add (cI _ W) (by omega)<|aE _ B.symm;have n:=h1.still<|cg az _;have k:=UA n F S hz;have u:=And.intro n.gN.2.1 (And.intro n.dU.2.1 n.dU.2.2.2.1);have ao:=am an.box;obtain⟨gv,gb,E,r⟩:∃gv gb E,Jz a l.2 F S=(gv,gb,E):=⟨_,_,_,rfl⟩;rw[r]at k;simp only at k;have V:=Z n;have y:=Z r;unfold wF;unfold fW at k u V;clear an h1 n r;go_in
 go_wp2_with fail
 try rw[B]
 rename_i QQ L p;refine cz (λj=>aS j (U e 1)=M (aA sbqq)/\aS j (U x 1)=M (aq F)/\aS j (U x 3)=M (aj S)) 15 (by kernel_rfl) ?_;refine cY 0 ?_;iterate 8 (refine eJ (v:=?_) u rfl (by kernel_rfl) iV rfl ?_ ?_;rotate_left;(focus(rintro j⟨P,Q,T⟩;go_simp;try rfl));simp only[Act.put,dG,gp,Nat.reduceAdd])
 apply eA;refine aM (i:=8) rfl rfl (by kernel_rfl) ?_;intro KC o;go_simp;apply k.mono;rintro X W2⟨rfl,n⟩;have h3:=n.still<|cg az W2;have w:=And.intro n.gN.2.1 (And.intro n.dU.2.1 n.dU.2.2.2.1);have m:=Z h3;refine o _ _ (λ_=>w) ?_;try simp only[Act.put,dG,gp]
 refine cY 9 ?_;iterate 6 (refine eJ (v:=?_) w rfl (by kernel_rfl) iV rfl ?_ ?_;rotate_left;(focus(rintro j⟨P,Q,T⟩;go_simp;try rfl));simp only[Act.put,dG,gp,Nat.reduceAdd])
 apply eA;refine aM (i:=15) rfl rfl (by kernel_rfl) ?_;intro KL q;go_simp;refine q _ _ wH ?_;refine cX (by kernel_rfl) ?_ _;show L _ _;apply p;have t:=m.TW F S hz;rw[ae y]at t;simp only at t;have s:=And.intro m.gN.2.2.1 (And.intro m.dU.2.1 (m.dU.2.2.2.1));clear u w k n h3 o q p V y;go_wp2_with fail
 rename_i QQ L p;refine cz (λj=>aS j (U e 2)=M (aA f)/\aS j (U x 1)=M (aq F)/\aS j (U x 3)=M (aj S)) 15 (by kernel_rfl) ?_;refine cY 0 ?_;iterate 8 (refine eJ (v:=?_) s rfl (by kernel_rfl) iV rfl ?_ ?_;rotate_left;(focus(rintro j⟨P,Q,T⟩;go_simp;try rfl));simp only[Act.put,dG,gp,Nat.reduceAdd])
 apply eA;refine aM (i:=8) rfl rfl (by kernel_rfl) ?_;intro KC o;go_simp;apply t.mono;rintro X W3⟨rfl,au⟩;subst W3;refine o _ _ (λ_=>s) ?_;try simp only[Act.put,dG,gp]
 refine cY 9 ?_;iterate 6 (refine eJ (v:=?_) s rfl (by kernel_rfl) iV rfl ?_ ?_;rotate_left;(focus(rintro j⟨P,Q,T⟩;go_simp;try rfl));simp only[Act.put,dG,gp,Nat.reduceAdd])
 apply eA;refine aM (i:=15) rfl rfl (by kernel_rfl) ?_;intro KL q;go_simp;refine q _ _ wH ?_;refine cX (by kernel_rfl) ?_ _;show L _ _;apply p;have D:=ke E m.wT;clear t s o q p;go_wp2_with fail
 apply D.mono;rintro X W4⟨rfl,A⟩;have K:=Z<|m.still<|J.aV A;clear A D m;go_wp2_with fail
 apply(lT E _).mono;rintro X W5⟨rfl,av⟩;subst W5;go_wp2;go_ret;exact⟨rfl,K.drop<|λp j=>aJ _ j⟩
end
section
variable{d W W':I}{f db sbqq g:R}{h:PB}{mem b:Y}{e c:aa}{lo:iI}{O:cD (R×Obj)}{C N:R}{l:LC}{a:Bool}
theorem Oa(ac:jg d W f db sbqq g h mem b e c lo O C N l a l a)(A D:Y)(S T:ab)(o i s B:R)(j k:ab)(m:Bool)(hA:A<0)(L:0<s)(r:s<=B)(p:s<=1000000000000)(q:o<G (H d))(w:aS d (U o i)=M (aj j))(x:aS d (U o<|i+1)=M (aj k))(y:aS d (U o<|i+2)=M (aO m))(P:j.size<=140737488351232/\k.size<=140737488351232)(F:C+lD [⟨j,k,m⟩]<=1000000)(K:N+1<=100000000):cA bG 11 #[aA f,wF 4 A D S T<|bE o i s B] W λX V=>X=aP (aO bX)/\zV d V f O (C+lD [⟨j,k,m⟩]) (N+1):=by
 have u:=ac.still<|(J.refl az W).alloc<|fW 4 A D S T<|bE o i s B;have n:=RW u A D S T o i s B j k m L r p q w x y P F K;have e1:(0:Y)<(s:Y):=by omega
 unfold wF at n|-;unfold fW at n;clear ac u w x y;go_in
 go_wp2_with fail
 apply n.mono;rintro X W2⟨rfl,t,Q,v⟩;have E:=Z v;clear v n;go_wp2;go_ret;exact⟨rfl,db,sbqq,g,t,mem,b,e,c,lo,Q,a,E⟩
theorem qX(i A B:Y)(S T:ab)(x:Option Addr)(r p:R)(P:I->Prop)(q:i=2\/i=3\/i=4\/i=8\/i=9)(j:cA bG 11 #[aA f,wF i A B S T<|ah x r p] (cF W<|fW i A B S T<|ah x r p) λn k=>n=aP (aO bX)/\P k):cA bG 7 #[aA f,wF i A B S T<|ah x r p] W λn k=>n=aP (aO bX)/\P k:=by
 unfold wF at j|-;unfold fW at j;rcases q with rfl|rfl|rfl|rfl|rfl;(all_goals(go_in);(go_wp2_with fail);apply j.mono;rintro n s⟨rfl,m⟩;have o:=Z m;clear m j;go_wp2;go_ret;exact⟨rfl,o⟩)
end
def zV.mono{W:I}{O:cD (R×Obj)}(r:zV a W c O g y)(s:g<=l)(k:l<=1000000)(t:y<=P)(m:P<=100000000):zV a W c O l P:=by
 obtain⟨q,h,w,v,n,e,o,j,u,x,d,r⟩:=r;exact⟨q,h,w,v,n,e,o,j,u,x,d,r.mono s k t m⟩
def zV.still{j W W':I}{O:cD (R×Obj)}(l:zV j W b O c g)(m:J az W W'):zV j W' b O c g:=by
 obtain⟨k,e,p,o,h,d,i,f,n,q,a,l⟩:=l;exact⟨k,e,p,o,h,d,i,f,n,q,a,l.still m⟩
def Vx(o:Gv):R:=if o.kd=1 then lD o.cs else if o.kd=4 then lD (o.cs.take 1)else 0
def JO{a:uN}(q:lU a=0):∀x∈a,1<=x.key.size:=by
 induction a with
 |nil=>simp
 |cons e a c=>
  unfold lU at q;split at q
  .cases q
  .rename_i d;split at q
   .cases q
   .intro x b;rcases aD.1 b with rfl|b
    .omega
    .exact c q x b
def Qi(a:uN):2*lD a<=Gx a:=by
 unfold lD;by_cases q:gd a=0
 .rw[dt q];have b:∀x∈a,1<=x.key.size:=by
   unfold gd at q;split at q
   .cases q
   .exact JO q
  clear q;induction a with
  |nil=>simp
  |cons d a c=>
   have e:=b d (by simp);have f:=c<|λx a=>b x<|aJ _ a;unfold Gx at*;simp only[aC,aZ,iT];omega
 rw[dh q];omega
def Ye(o:Gv):2*Vx o<=Yq o:=by
 unfold Vx Yq;split;have:=Qi o.cs;omega;split;have:=Qi<|o.cs.take 1;have:=To o.cs 1;omega;omega
def TB(w:Gv)(r:zV a f b [] c g)(hk:1<=w.kd/\w.kd<=11)(p:Wc a w.L w.cs)(E:w.S.size<=140737488351232)(F:∀k∈w.cs,k.key.size<=140737488351232/\k.val.size<=140737488351232)(u:z w.cs<=1000000000)(t:c+Vx w<=1000000)(o:g+1<=100000000):cA bG 7 #[aA b,wF w.kd w.A w.B w.S w.T w.L] f λL m=>L=aP (aO bX)/\zV a m b [] (c+Vx w) (g+1):=by
 obtain⟨db,ad,rb,pb,ao,X,au,al,lo,ax,K,r⟩:=r;obtain⟨l,A,B,S,T,av,d⟩:=w;simp only at hk p E F u|-;obtain⟨x,k,hL⟩:=BB p;subst hL;have W:l=1\/l=2\/l=3\/l=4\/l=5\/l=6\/l=7\/l=8\/l=9\/l=10\/l=11:=by omega
 have e:∀{i:I}{f h:R},zV a i b [] f h->f<=c+Vx ⟨l,A,B,S,T,ah x (z d) k,d⟩->h<=g+1->zV a i b [] (c+Vx ⟨l,A,B,S,T,ah x (z d) k,d⟩) (g+1):=λq j m=>q.mono j t m o;have j:∀a,J az f (cF f<|fW a A B S T<|ah x (z d) k):=λa=>(cI _ f);rcases W with rfl|rfl|rfl|rfl|rfl|rfl|rfl|rfl|rfl|rfl|rfl;have Q:Vx ⟨1,A,B,S,T,ah x (z d) k,d⟩=lD d:=rfl;rw[Q]at t|-;rcases p with⟨⟨O,⟨v,q0⟩|⟨V,i,P,v,D,N⟩⟩,y⟩|⟨O,ac,c',v⟩;have n:d=[]:=pz.1 q0;subst n;cases v;exact DQ r A B S T t o;cases v;have C:=y V rfl;by_cases s:z d=0;have n:d=[]:=pz.1 s;subst n;exact wD r A B S T (U V i) k t o;exact DP r A B S T V i (z d) k d rfl (by omega) D u C N F t o;subst O;cases v;exact wD r A B S T ac k t o;refine qX 2 A B S T x (z d) k _ (.inl rfl)<|(TZ (r.still<|j 2) A B S T x (z d) k E).mono ?_;rintro L m⟨rfl,h⟩;exact⟨rfl,e ⟨_,_,_,_,_,_,_,_,_,_,_,h⟩ (by omega)<|by omega⟩;refine qX 3 A B S T x (z d) k _ (.inr<|.inl rfl)<|(Rk (r.still<|j 3) A B S T x (z d) k).mono ?_;rintro L m⟨rfl,ac,n,an,h⟩;exact⟨rfl,e ⟨_,_,_,_,_,_,_,_,_,_,_,h⟩ (by omega)<|by omega⟩;by_cases hA:0<A;refine qX 4 A B S T x (z d) k _ (.inr<|.inr<|.inl rfl)<|(Bt (r.still<|j 4) A B S T x (z d) k hA).mono ?_;rintro L m⟨rfl,h⟩;exact⟨rfl,e ⟨_,_,_,_,_,_,_,_,_,_,_,h⟩ (by omega)<|by omega⟩;by_cases s:A<0->z d=0;refine qX 4 A B S T x (z d) k _ (.inr<|.inr<|.inl rfl)<|(Dd (r.still<|j 4) A B S T x (z d) k (by omega) s).mono ?_;rintro L m⟨rfl,h⟩;exact⟨rfl,e ⟨_,_,_,_,_,_,_,_,_,_,_,h⟩ (by omega)<|by omega⟩;obtain⟨ac,s⟩:=Classical.not_imp.1 s;rcases p with⟨⟨O,⟨v,q0⟩|⟨V,i,P,v,D,N⟩⟩,y⟩|⟨O,_⟩;omega;cases v;have C:=y V rfl;rcases d with _|⟨n,d⟩;simp at s;have Q:Vx ⟨4,A,B,S,T,bE V i (z<|n::d) k,n::d⟩=lD [⟨n.key,n.val,n.del⟩]:=rfl;rw[Q]at t|-;refine qX 4 A B S T _ (z<|n::d) k _ (.inr<|.inr<|.inl rfl) ?_;exact Oa (r.still<|j 4) A B S T V i _ k n.key n.val n.del (by omega) (by simp) D (by omega) C (N 0 _ rfl) (N 1 _ rfl) (N 2 _ rfl) (F n<|by simp) t o;rw[O]at s;simp at s;apply(Nu r A B S T x (z d) k).mono;rintro L m⟨rfl,h⟩;exact⟨rfl,e h (by omega)<|by omega⟩;apply(QD r A B S T x (z d) k o).mono;rintro L m⟨rfl,h|h⟩;exact⟨rfl,e h (by omega)<|by omega⟩;exact⟨rfl,e h (by omega)<|by omega⟩;apply(QC r A B S T x (z d) k o).mono;rintro L m⟨rfl,h⟩;exact⟨rfl,e h (by omega)<|by omega⟩;refine qX 8 A B S T x (z d) k _ (.inr<|.inr<|.inr<|.inl rfl)<|(Ob (r.still<|j 8) A B S T x (z d) k E).mono ?_;rintro L m⟨rfl,h⟩;exact⟨rfl,e ⟨_,_,_,_,_,_,_,_,_,_,_,h⟩ (by omega)<|by omega⟩;refine qX 9 A B S T x (z d) k _ (.inr<|.inr<|.inr<|.inr rfl)<|(Lf (r.still<|j 9) A B S T x (z d) k).mono ?_;rintro L m⟨rfl,h⟩;exact⟨rfl,e ⟨_,_,_,_,_,_,_,_,_,_,_,h⟩ (by omega)<|by omega⟩;apply(IG r A B S T x (z d) k).mono;rintro L m⟨rfl,h⟩;exact⟨rfl,e h (by omega)<|by omega⟩;apply(IH r A B S T x (z d) k o).mono;rintro L m⟨rfl,h⟩;exact⟨rfl,e h (by omega)<|by omega⟩
def zV.ay{O:cD (R×Obj)}(k:zV a B c O g l):J az a B:=by
 obtain⟨o,h,r,q,m,e,n,j,p,s,d,k⟩:=k;exact k.ay
def Wd(a:uN):z a<=Gx a:=by
 induction a with
 |nil=>simp
 |cons c a b=>
  unfold Gx at*;simp only[aC,aZ,iT];omega
def zV.outs{O:cD (R×Obj)}(n:zV a f b O c g):∃i r h j x wc,aS f (U b 5)=M (ah i r h)/\aS f (U b 6)=M (ah j x wc)/\∀e,J az f e->cA bG 8 #[ah i r h,ah j x wc] e λE v=>E=aP (aO bX)/\∃q,v=e.drewN q:=by
 obtain⟨F,u,N,L,A,k,D,w,p,P,d,n⟩:=n;obtain⟨_,B,C,_,_,s,t,K⟩:=n.Df;obtain⟨i,h,l⟩:=pH s;obtain⟨j,wc,m⟩:=pH t;refine⟨i,z p,h,j,z p,wc,by rw[n.gN.2.2.2.1,l],by rw[n.gN.2.2.2.2,m],λe o=>?_⟩;rw[<-l,<-m];apply(nr (o.row s<|λk d=>⟨id,B k d⟩) (o.row t<|λk d=>⟨id,C k d⟩) (by omega)<|by omega).mono;rintro E v⟨rfl,q,y⟩;exact⟨by simp,q,y⟩
def Oh(bf e bh:R)(b:cD Gv)(L bn mo:Y)(bm:mo<=11)(h:FD a (bE bf e (z b) bh) b)(hS:Steps a)(hP:Pow a)(hE:pU a):cA bG 4 #[bE bf e (z b) bh,aq L,aq bn,aq mo,aq 0] a λan w'=>an=aP (aO bX)/\J az a w':=by
 have j:=NB bf e bh b h;have bg:∀(x:Bool)(a:I),(Op.unary .not<|aO x).run bG a=.ok (aO<|!x) a:=λ_ _=>rfl;by_cases w:z b+FM b<=1048576;(.rw[nH w]at j;obtain⟨m,s,ba,au⟩:=gD h hS hP hE;clear h hS hP hE;(go_in);(go_wp2_with fail);apply j.mono;rintro an u⟨rfl,q,p⟩;(have r:J az a u:=by rw[p];exact gX _ _ _);have ac:=Il L bn (Steps.ay s r id) (ba.ay r id)<|au.ay r id;have n:=Z r;clear j p r;(go_wp2_with fail);apply ac.mono;rintro an w2⟨l,rfl,h2⟩;have av:=Z h2;clear ac h2;(go_wp2_with fail);(go_loopw [14] (λa wr=>∃(i E:R),i<=z b/\a=aq i/\zV u wr l [] E (i+1)/\2*E<=FM (b.take i)) (λa _=>z b-(intOf a).toNat));(case atStart=>exact⟨0,0,bB _,rfl,av,by simp⟩);(case round=>obtain⟨i,E,hi,rfl,T,hC⟩:=hrel;by_cases g:i<z b;(.have f:=ar g;have X:J az a wr:=n.cw T.ay;(have c:∀D u,b[i].cells[D]?=M u->aS wr (U bf<|e+i*6+D)=M u:=λD u y=>by(have A:D<6:=by rcases dK D 6 with t|t;exact t;rw[dy<|by exact t]at y;cases y);obtain⟨q1,⟨C,q0⟩|⟨g',Q,P,C,W,S⟩⟩:=m.row;cases C;have t:=m.lt bf rfl;cases C;rw[aY];exact X.cell (S _ _<|(qz b i g D A).trans y) id t);have c0:=c 0 _ rfl;have c1:=c 1 _ rfl;have c2:=c 2 _ rfl;have c3:=c 3 _ rfl;have c4:=c 4 _ rfl;have c5:=c 5 _ rfl;rw[ju]at c0;have B:=m.VE _ f;have k:=m.str _ f;have al:=m.Zt _ f;have bd:=Ki b i g;have bc:=Tm b<|i+1;have bb:=Ye b[i];have x:Wc u b[i].L b[i].cs:=B.ay n;(have bl:z b[i].cs<=1048576:=by(have t:z b[i].cs<=Gx b[i].cs:=by exact Wd _);have h2:Yq b[i]=b[i].S.size+b[i].T.size+Gx b[i].cs:=rfl;omega);obtain⟨lx,lc,V⟩:=BB B;have d:(1<=b[i].kd/\b[i].kd<=11)->∀j,zV u j l [] E (i+1)->cA bG 7 #[aA l,wF b[i].kd b[i].A b[i].B b[i].S b[i].T b[i].L] j λan w'=>an=aP (aO bX)/\zV u w' l [] (E+Vx b[i]) (i+1+1):=λa j p=>TB b[i] p a x k.1 al (by omega) (by omega) (by omega);(have O:2*(E+Vx b[i])<=FM (b.take<|i+1):=by omega);(have N:2*E<=FM (b.take<|i+1):=by omega);have o:∀j,zV u j l [] E (i+1)->zV u j l [] E (i+1+1):=λj p=>p.mono (ai _) (by omega) (by omega) (by omega);have K:=Z o;unfold wF at d;rw[V]at c5 d;generalize Vx b[i]=cc at*;generalize b[i].kd=kd at*;generalize b[i].A=oA at*;generalize b[i].B=oB at*;generalize b[i].S=oS at*;generalize b[i].T=oT at*;generalize z b[i].cs=ol at*;(have e1:(i:Y)<(z b:Y):=by omega);(have e0:(0:Y)<=(i:Y):=by omega);obtain⟨HL,s,ao,F⟩:=gD T d O N;clear T hC X c B k al bd bc bb x V d O N o f;by_cases bi:kd<1;(.go_wp2;go_roundw;(case rel=>exact⟨i+1,E,g,by go_num,K _<|HL.still<|cI _ wr,F⟩);case measure=>simp[intOf];omega);(.by_cases bk:mo<kd;(·(have t:¬kd=0:=by omega);go_wp2;go_roundw;(case rel=>exact⟨i+1,E,g,by go_num,K _<|HL.still<|cI _ wr,F⟩);case measure=>simp[intOf];omega);(.have k:=s ⟨by omega,by omega⟩ _<|HL.still<|(J.refl az wr).alloc<|fW kd oA oB oS oT<|ah lx ol lc;unfold fW at k;clear s;(go_wp2_with fail);apply k.mono;rintro an D⟨rfl,h4⟩;obtain⟨ox,on,oc,wx,wn,wc,y5,y6,ad⟩:=h4.outs;have y:=ad D.drew<|cg _ _;(have t:aS D.drew (U l 5)=M (ah ox on oc)/\aS D.drew (U l 6)=M (ah wx wn wc):=by rw[bD,bD];exact⟨y5,y6⟩);have ax:=Z h4;clear k h4 ad y5 y6;(go_wp2_with fail);rename_i QQ KK Q;refine cz (λA=>aS A (U l 5)=M (ah ox on oc)/\aS A (U l 6)=M (ah wx wn wc)) 9 (by kernel_rfl) ?_;refine cY 0 ?_;(iterate 8 (refine eJ (v:=?_) t rfl (by kernel_rfl) iV rfl ?_ ?_;rotate_left;(focus(rintro A⟨z0,z1⟩;go_simp;try rfl));simp only[Act.put,dG,gp,Nat.reduceAdd]));apply eA;refine aM (i:=8) rfl rfl (by kernel_rfl) ?_;intro KC P;go_simp;apply y.mono;rintro an w5⟨rfl,q5,C⟩;(have t5:J az D.drew w5:=by rw[C];exact gX _ _ _);(have W:aS w5 (U l 5)=M (ah ox on oc)/\aS w5 (U l 6)=M (ah wx wn wc):=by rw[C];exact⟨(cP (w:=D.drew) rfl).trans t.1,(cP (w:=D.drew) rfl).trans t.2⟩);refine P _ _ (λ_=>W) ?_;(try simp only[Act.put,dG,gp]);refine aM (i:=9) rfl rfl (by kernel_rfl) ?_;intro KL S;go_simp;refine S _ _ wH ?_;refine cX (by kernel_rfl) ?_ _;show KK _ _;apply Q;clear t W y C t5 P S Q;go_wp2;go_roundw;(case rel=>exact⟨i+1,E+cc,g,by go_num,ax.still<|gX _ _ _,ao⟩);case measure=>simp[intOf];omega)));(have e1:¬((i:Y)<(z b:Y)):=by omega);have HT:=Z<|n.cw T.ay;clear T;go_wp2;go_ret;exact⟨rfl,HT⟩));rw[rY w]at j;clear h hS hP hE;(go_in);(go_wp2_with fail);apply j.mono;rintro an u⟨rfl,q,p⟩;have HT:=Z (show J az a u by rw[p];exact gX _ _ _);clear j p;go_wp2;go_ret;exact⟨rfl,HT⟩
def Er(x:Option Addr)(t:R)(b T q:Y)(g:Steps a)(f:Pow a)(e:pU a):cA bG 4 #[ah x 0 t,aq b,aq T,aq q,aq 0] a λk j=>k=aP (aO bX)/\J az a j:=by
 have d:cA bG 5 #[ah x 0 t] a λk j=>k=aP (aO bX)/\j=a:=by clear g f e;(go_in);(go_wp2_with fail);(go_loopw [4] (λi wr=>i=aq 0/\wr=a) (λ_ _=>0));(case atStart=>exact⟨rfl,rfl⟩);(case round=>obtain⟨rfl,o⟩:=hrel;subst wr;go_wp2;go_ret;exact⟨rfl,rfl⟩)
 have c:=Il b T g f e;have m:∀(x:Bool)(a:I),(Op.unary .not<|aO x).run bG a=.ok (aO<|!x) a:=λ_ _=>rfl;clear g f e;go_in
 go_wp2_with fail
 apply d.mono;rintro k r⟨rfl,p⟩;subst r;go_wp2_with fail
 apply c.mono;rintro k s⟨u,rfl,l⟩;have n:=Z l.ay;clear c l d;go_wp2_with fail
 go_loopw [14] (λi wr=>i=aq 0/\wr=s) (λ_ _=>0)
 case atStart=>exact⟨rfl,rfl⟩
 (case round=>obtain⟨rfl,o⟩:=hrel;subst wr;go_wp2;go_ret;exact⟨rfl,n⟩)
def Rq(l:cD Gv)(b T e:Y)(g:e<=11)(p:FD a d l)(k:Steps a)(j:Pow a)(i:pU a):cA bG 4 #[d,aq b,aq T,aq e,aq 0] a λq o=>q=aP (aO bX)/\J az a o:=by
 have n:=p.row;obtain⟨u,⟨h,t⟩|⟨r,c,f,h,m,s⟩⟩:=n;rw[h];exact Er none 0 b T e k j i;subst h;exact Oh r c f l b T e g p k j i
def VT(c:cD Gv)(b T:Y)(h:FD a d c)(g:Steps a)(f:Pow a)(e:pU a):cA bG 3 #[d,aq b,aq T] a λo m=>o=aP (aO bX)/\J az a m:=by
 have i:=Rq c b T 11 (by omega) h g f e;have l:∃x n,d=ah x (z c) n:=pH h.row;obtain⟨x,n,rfl⟩:=l;clear h g f e;go_in
 go_wp2_with fail
 apply i.mono;rintro o p⟨rfl,j⟩;have k:=Z j;clear i j;go_wp2;go_ret;exact⟨rfl,k⟩
def VQ(x:Option Addr)(k:R)(b T:Y)(e:Steps a)(d:Pow a)(c:pU a):cA bG 3 #[ah x 0 k,aq b,aq T] a λl j=>l=aP (aO bX)/\J az a j:=by
 have f:=Er x k b T 11 e d c;clear e d c;go_in
 go_wp2_with fail
 apply f.mono;rintro l m⟨rfl,g⟩;have i:=Z g;clear f g;go_wp2;go_ret;exact⟨rfl,i⟩
theorem Vc:prog.globalNamed "levels/code.steps" =M 1:=by kernel_rfl
theorem Zk:prog.globalNamed "internal/strconv.uint64pow10" =M 2:=by kernel_rfl
theorem YG:prog.globalNamed "errors.errorType" =M 0:=by kernel_rfl
theorem XF:(prog.globals[1]?).map (·.type)=M 354:=by kernel_rfl
theorem YZ:(prog.globals[2]?).map (·.type)=M 389:=by kernel_rfl
theorem XD:prog.underlying 354=M (.array 16 96):=by kernel_rfl
theorem YY:prog.underlying 389=M (.array 20 103):=by kernel_rfl
theorem Yv:prog.underlying 96=M (.int .u32):=by kernel_rfl
theorem Yu:prog.underlying 103=M (.int .u64):=by kernel_rfl
theorem Zd:(prog.cutTypes.find? (·.1== "internal/reflectlite.rtype")).map (·.2)=M 230:=by kernel_rfl
theorem XR:((List.range 445).filter λt=>prog.rowNamed t [101,114,114,111,114])=[50]:=by kernel_rfl
theorem Tu:prog.types.size=445:=by kernel_rfl
def AE:cD (String×DataW Unit):=[("levels/code.steps",Rows.laid_levels_code_steps),("math/bits.deBruijn32tab",Rows.laid_math_bits_deBruijn32tab),("math/bits.deBruijn64tab",Rows.laid_math_bits_deBruijn64tab),("internal/strconv.uint64pow10",Rows.laid_internal_strconv_uint64pow10),("errors.errorType",Rows.laid_errors_errorType),("strconv.ErrRange",Rows.laid_strconv_ErrRange),("strconv.ErrSyntax",Rows.laid_strconv_ErrSyntax)]
theorem WE{W:I}(m:laidMetH bG AE W):Steps W/\Pow W/\pU W:=by
 obtain⟨c,d⟩:=laidMetH_iff.1 m;have f:=c.filter (λx=>x.1== "levels/code.steps");rw[show((AE.filter λx=>x.2.handleName?.isNone).filter λx=>x.1== "levels/code.steps")=[("levels/code.steps",Rows.laid_levels_code_steps)]by kernel_rfl]at f;have g:=c.filter (λx=>x.1== "internal/strconv.uint64pow10");rw[show((AE.filter λx=>x.2.handleName?.isNone).filter λx=>x.1== "internal/strconv.uint64pow10")=[("internal/strconv.uint64pow10",Rows.laid_internal_strconv_uint64pow10)]by kernel_rfl]at g;rw[show(AE.filter λx=>x.2.handleName?.isSome)=[("errors.errorType",Rows.laid_errors_errorType)]by kernel_rfl]at d;refine⟨?_,?_,?_⟩
 .have b:Lib.TabIs bG W "levels/code.steps" .u32 [0,498536548,997073096,651767980,1994146192,1802195444,1303535960,1342533948,3988292384,4027552580,3604390888,3412177804,2607071920,2262029012,2685067896,3183342108]:=Lib.tabIs_of_head Vc XF XD Yv (by kernel_rfl) (by kernel_rfl) f;intro k a;rw[World.var?_cell Vc b k];have:∀k,k<16->(([0,498536548,997073096,651767980,1994146192,1802195444,1303535960,1342533948,3988292384,4027552580,3604390888,3412177804,2607071920,2262029012,2685067896,3183342108]:eP).map λb=>Value.int .u32 b).toArray[k]?=M (.int .u32 (WZ k)):=by
   intro k a;match k,a with
   |0,_|1,_|2,_|3,_|4,_|5,_|6,_|7,_|8,_|9,_|10,_|11,_|12,_|13,_|14,_|15,_=>rfl
   |n+16,m=>exact absurd m (by omega)
  exact this k a
 exact Lib.tabIs_of_head Zk YZ YY Yu (by kernel_rfl) (by kernel_rfl) g;obtain⟨a,u,p,h,i,j,k,b⟩:=d _ (bI.2 rfl);have l:a=[101,114,114,111,114]:=(dF h).symm;subst l;obtain rfl:=dF (Zd.symm.trans i);have e:p∈(List.range 445).filter λt=>prog.rowNamed t [101,114,114,111,114]:=de.2 ⟨mD.2 (by rw[<-Tu];exact j),k⟩;rw[XR]at e;obtain rfl:=bI.1 e;(have o:typeHandle bG 50=.pointer (M (U (7) 50)):=by kernel_rfl);rw[o]at b;unfold pU;simpa using World.var?_cell YG b 0
theorem MG{W:I}{a n:R}{g:Addr}{b:jd}(h:W.cells? a g n=M b):z b=n/\∀j,j<n->aS W (g.add j)=b[j]?:=by
 unfold World.cells? at h;split at h;have f:=Lib.mapM_length h;refine⟨by simpa using f,λj e=>?_⟩;obtain⟨i,c,d⟩:=Lib.mapM_at h j j (by simp[e]);rw[d,c];cases h
theorem KE{W:I}{r:Addr}{f b:R}(h:0<f)(p:0<b){Q:R->jd->Prop}(A:∀i,i<f->∃e,W.cells? 0 (r.add (i*b)) b=M e/\Q i e):∃j a,r=(U j a)/\j<G (H W)/\∀i,i<f->∃e,z e=b/\(∀q,q<b->aS W (U j (a+i*b+q))=e[q]?)/\Q i e:=by
 obtain⟨e,n,_⟩:=A 0 h;obtain⟨t,l⟩:=MG n;have k:=l 0 p;rw[zX]at k;have u:(r.add 0).add 0=r:=rfl;rw[u]at k;obtain⟨j,a,d⟩:=r;have y:∃B,aS W ⟨j,a,d⟩=M B:=⟨e[0]'(by omega),by rw[k];exact aK (by omega)⟩;obtain⟨B,g⟩:=y
 have m:j<G (H W)/\d=none:=by
  unfold World.cell? at g;simp only at g;split at g
  .rename_i C F D s;refine⟨?_,?_⟩
   .rcases dK j (G (H W))with c|c
    .exact c
    .rw[eL c]at s;cases s
   .split at g
    .cases g
    .rename_i o;cases d with
     |none=>rfl
     |some E=>simp at o
  .cases g
 obtain⟨m,rfl⟩:=m;refine⟨j,a,rfl,m,λi v=>?_⟩;obtain⟨e,n,x⟩:=A i v;obtain⟨t,l⟩:=MG n;refine⟨e,t,λq w=>?_,x⟩;rw[<-l q w,Go.Deep.add_add];unfold Addr.add;by_cases c:i*b+q=0;rw[dt c,aY,c];rfl;rw[dh c,aY]
def yw(P:Program)(t:TypeId):Option (cD (TypeId×R)):=match P.underlying t with
 |some (.struct a)=>M (a.toList.map λf=>(f.type,f.offset))
 |_=>none
theorem Ah{P:Program}{t:TypeId}{l:cD (TypeId×R)}(h:yw P t=M l):∃a,P.underlying t=M (.struct a)/\a.toList.map (λf=>(f.type,f.offset))=l:=by
 unfold yw at h;split at h;rename_i a b;exact⟨a,b,dF h⟩;cases h
theorem Cv{d:Type}{f:TypeId×aa->d}{P:Program}{x:I}{b g:R}{q:R->Bool}{c:Bool}{w:TypeId}{o:jd}{y:DataW d×cD MemPlace}{u:cD (TypeId×R)}(s:yw P w=M u)(D:DataW.trod f P x b q c g w o=M y):∃(e:cD (DataW d×cD MemPlace))(v:R),y.1=.agg (e.map (·.1))/\z e=z u/\∀(n k a:R),u[n]?=M (k,a)->∃j,e[n]?=M j/\DataW.trod f P x b q c v k ((o.drop a).take (P.cellsOf k))=M j:=by
 obtain⟨C,t,rfl⟩:=Ah s;obtain⟨e,v,_,rfl,_,m,r⟩:=DataW.trod_struct t D;refine⟨e,v,rfl,by simpa using m,λn k a p=>?_⟩;rw[dD,qa]at p;obtain⟨B,h,A⟩:=p;cases A;have l:=r n B (by simpa using h);have i:n<z e:=by have:=(fF.1 h).1;simp at this;omega
 exact⟨e[n],aK i,by rw[l,aK i]⟩
theorem xx{a:Type}{P:Program}{e:TypeId}:∀{l:cD (DataW a)}{d:DataW a},d∈l->∀n∈d.weights P e,n∈DataW.weightsAll P e l
 |[],_,h,_,_=>by cases h
 |x::r,d,h,n,b=>by
  rw[DataW.weightsAll];rcases aD.1 h with rfl|h
  .exact iz _ b
  .exact ii _ (xx h n b)
theorem yZ{a:Type}{P:Program}{t e:TypeId}(d:P.underlying t=M (.slice e))(b c:cD (DataW a)):(DataW.slice b c).weights P t=(z b+z c)*P.bytesOf e::(DataW.weightsAll P e b++DataW.weightsAll P e c):=by
 rw[DataW.weights,d]
theorem Cj{a:Type}{P:Program}{t:TypeId}{l:cD (TypeId×R)}(c:yw P t=M l)(b:cD (DataW a)):(DataW.agg b).weights P t=DataW.weightsEach P (l.map (·.1)) b:=by
 obtain⟨e,d,rfl⟩:=Ah c;rw[DataW.weights,d];simp only[iZ];rfl
theorem Xw:yw bG 42=M [(9,0),(9,1),(4,2)]:=by kernel_rfl
theorem Yy:yw bG 31=M [(3,0),(3,1),(3,2),(9,3),(9,4),(29,5)]:=by kernel_rfl
theorem Tt:prog.underlying 29=M (.slice 42):=by kernel_rfl
theorem XE:prog.underlying 22=M (.slice 31):=by kernel_rfl
theorem Wg:prog.underlying 9=M .string:=by kernel_rfl
theorem Xu:prog.underlying 4=M .bool:=by kernel_rfl
theorem No:prog.underlying 3=M (.int .i64):=by kernel_rfl
theorem YM:prog.cellsOf 9=1:=by kernel_rfl
theorem YO:prog.cellsOf 4=1:=by kernel_rfl
theorem Zn:prog.cellsOf 3=1:=by kernel_rfl
theorem YN:prog.cellsOf 29=1:=by kernel_rfl
theorem Zo:prog.cellsOf 42=3:=by kernel_rfl
theorem Zy:prog.cellsOf 31=6:=by kernel_rfl
theorem Zq:prog.bytesOf 42=40:=by kernel_rfl
theorem Zz:prog.bytesOf 31=80:=by kernel_rfl
theorem zj(l:uN):z (eX l)=z l*3:=by
 induction l with
 |nil=>rfl
 |cons c l b=>
  have e:eX (c::l)=oR c++eX l:=rfl;rw[e,af,b,aC];have:z (oR c)=3:=rfl;omega
theorem Ar(l:cD Gv):z (rK l)=z l*6:=by
 induction l with
 |nil=>rfl
 |cons c l b=>
  have e:rK (c::l)=c.cells++rK l:=rfl;rw[e,af,b,aC];have:z c.cells=6:=rfl;omega
theorem qm{b:jd}{k:R}{u:aa}(h:(b.drop k).take 1=[u]):b[k]?=M u:=by
 have c:=bW (λl=>l[0]?) h;simpa[mW,oX]using c
section
variable{a:Type}{enc:TypeId×aa->a}
theorem Uj{W:I}{E:R->Bool}{c:Bool}{b:R}{d:jd}{O:DataW a×cD MemPlace}(P:DataW.trod enc bG W 0 E c b 42 d=M O):∃m:Py,d[0]?=M (.string m.key)/\d[1]?=M (.string m.val)/\d[2]?=M (.bool m.del)/\(∀B,(∀N∈O.1.weights bG 42,N<=B)->m.key.size<=B/\m.val.size<=B):=by
 obtain⟨s,N,C,A,i⟩:=Cv Xw P;obtain⟨F,f,p⟩:=i 0 _ _ rfl;obtain⟨K,g,q⟩:=i 1 _ _ rfl;obtain⟨L,h,r⟩:=i 2 _ _ rfl;rw[YM]at p q;rw[YO]at r;obtain⟨n,t,w,_⟩:=qj Wg p;obtain⟨o,u,x,_⟩:=qj Wg q;obtain⟨D,v,y⟩:=DataW.trod_bool Xu r;refine⟨⟨n,o,D⟩,qm t,qm u,qm v,λB e=>?_⟩
 have j:s=[F,K,L]:=by
  match s,A,f,g,h with
  |[k,l,Q],_,f,g,h=>
   simp at f g h;rw[f,g,h]
 rw[C,j,Cj Xw,w,x,y]at e;simp only[aZ,fi,DataW.weightsEach,DataW.weights,ap,aD,eO,kS]at e;have k:=e (z n.data.toList) (by simp);have l:=e (z o.data.toList) (by simp);rw[iL]at k l;exact⟨k,l⟩
theorem Ry{W:I}{m:R}{ad:aa}{an:DataW a×cD MemPlace}(au:DataW.trod enc bG W 0 (λ_=>bX) bX m 29 [ad]=M an)(t:∀q∈an.1.weights bG 29,q<=140737488351232):∃h:uN,Wc W ad h/\(∀l∈h,l.key.size<=140737488351232/\l.val.size<=140737488351232)/\z h<=10000000000000:=by
 rcases Go.Deep.open_slice Tt au with⟨k,_⟩|⟨ao,b,N,al,q,K,L,k,_,hl,_,D,O,n⟩;simp only[nj,sN]at k;exact⟨[],.inl ⟨⟨rfl,.inl ⟨k,rfl⟩⟩,λav r=>by rw[k]at r;cases r⟩,by simp,by simp⟩;simp only[nj,sN]at k;simp only[iO]at D;subst k D;by_cases V:b=0;subst V;exact⟨[],.inr ⟨rfl,ao,al,rfl⟩,by simp,by simp⟩;rw[Zo]at n;obtain⟨F,c,rfl,X,u⟩:=KE (Q:=λi h=>DataW.trod enc bG W 0 (λ_=>bX) bX q 42 h=M (K i,L i)) (by omega:0<b) (by omega:0<3) (λi e=>n i (by omega));(have p:∀i,i<b->∃l:Py,aS W (U F (c+i*3))=M (.string l.key)/\aS W (U F (c+i*3+1))=M (.string l.val)/\aS W (U F (c+i*3+2))=M (.bool l.del)/\(∀B,(∀q∈(K i).weights bG 42,q<=B)->l.key.size<=B/\l.val.size<=B):=by intro i e;obtain⟨h,s,g,v⟩:=u i e;obtain⟨l,y,A,P,S⟩:=Uj v;exact⟨l,(g 0 (by omega)).trans y,(g 1 (by omega)).trans A,(g 2 (by omega)).trans P,S⟩);have E:Inhabited Py:=⟨⟨⟨#[]⟩,⟨#[]⟩,bF⟩⟩;obtain⟨x,C⟩:=Go.Deep.choose_lt p;rw[O,yZ Tt,Zq]at t;(have o:b<=10000000000000:=by have:=t _ (dC);simp only[cV,List.length_range]at this;omega);have w:∀i,i<b->∀q∈(K i).weights bG 42,q<=140737488351232:=λi e q c=>t q (aJ _ (iz _ (xx (bz.2 ⟨i,mD.2 e,rfl⟩) q c)));(have d:z ((List.range b).map x)=b:=by simp);refine⟨(List.range b).map x,.inl ⟨⟨by rw[zj],.inr ⟨F,c,al,by rw[d],by rw[d];exact hl,λj ax f=>?_⟩⟩,λav r=>by cases r;exact X⟩,λl hc=>?_,by rw[d];exact o⟩;(have ac:j<b*3:=by have:=(fF.1 f).1;rw[zj,d]at this;exact this);(have e:j/3<b:=by omega);obtain⟨y,A,B⟩:=li ((List.range b).map x) (j/3) (by rw[d];exact e);obtain⟨P,S,T,_⟩:=C (j/3) e;(have s:j%3=0\/j%3=1\/j%3=2:=by omega);(have v:((List.range b).map x)[j/3]'(by rw[d];exact e)=x (j/3):=by simp);rw[v]at y A B;rcases s with s|s|s;(have g:j=j/3*3:=by omega);rw[g]at f|-;rw[y]at f;rw[P,f];(have g:j=j/3*3+1:=by omega);rw[g]at f|-;rw[A]at f;rw[<-aY,S,f];(have g:j=j/3*3+2:=by omega);rw[g]at f|-;rw[B]at f;rw[<-aY,T,f];obtain⟨i,e,rfl⟩:=bz.1 hc;have g:=mD.1 e;exact(C i g).2.2.2 _ (w i g)
end
section
variable{a:Type}{enc:TypeId×aa->a}
theorem WC{an:I}{c:R}{n:jd}{au:DataW a×cD MemPlace}(ad:DataW.trod enc bG an 0 (λ_=>bX) bX c 31 n=M au)(d:∀v∈au.1.weights bG 31,v<=140737488351232):∃s:Gv,(∀x,x<6->n[x]?=s.cells[x]?)/\Wc an s.L s.cs/\(s.S.size<=140737488351232/\s.T.size<=140737488351232)/\(∀ao∈s.cs,ao.key.size<=140737488351232/\ao.val.size<=140737488351232)/\z s.cs<=10000000000000:=by
 obtain⟨K,v,hx,hl,b⟩:=Cv Yy ad;obtain⟨y0,f,B⟩:=b 0 _ _ rfl;obtain⟨y1,g,C⟩:=b 1 _ _ rfl;obtain⟨y2,h,D⟩:=b 2 _ _ rfl;obtain⟨y3,i,E⟩:=b 3 _ _ rfl;obtain⟨y4,j,F⟩:=b 4 _ _ rfl;obtain⟨y5,k,l⟩:=b 5 _ _ rfl;rw[Zn]at B C D;rw[YM]at E F;rw[YN]at l;obtain⟨s0,N,T,_⟩:=xp No B;obtain⟨s1,O,V,_⟩:=xp No C;obtain⟨s2,P,W,_⟩:=xp No D;obtain⟨y,Q,X,_⟩:=qj Wg E;obtain⟨A,S,b4,_⟩:=qj Wg F;have hL:∃L,(n.drop 5).take 1=[L]:=by rcases Go.Deep.open_slice Tt l with⟨o,_⟩|⟨ax,al,ac,ba,v,av,Pl,o,_⟩;exact⟨_,o⟩;exact⟨_,o⟩
 obtain⟨L,w⟩:=hL;rw[w]at l
 have r:K=[y0,y1,y2,y3,y4,y5]:=by
  match K,hl,f,g,h,i,j,k with
  |[o,z1,z2,t,u,z5],_,f,g,h,i,j,k=>
   simp at f g h i j k;rw[f,g,h,i,j,k]
 rw[hx,r,Cj Yy,T,V,W,X,b4]at d;simp only[aZ,fi,DataW.weightsEach]at d;have t:=d (z y.data.toList) (by simp[DataW.weights]);have u:=d (z A.data.toList) (by simp[DataW.weights]);rw[iL]at t u;obtain⟨m,e,q,p⟩:=Ry l (λv b=>d v (by simp[b]));refine⟨⟨s0,s1,s2,y,A,L,m⟩,λx hj=>?_,e,⟨t,u⟩,q,p⟩;match x,hj with
 |0,_=>exact qm N
 |1,_=>exact qm O
 |2,_=>exact qm P
 |3,_=>exact qm Q
 |4,_=>exact qm S
 |5,_=>exact qm w
 |v+6,ad=>exact absurd ad (by omega)
theorem Lr{W:I}{k:R}{v:aa}{L:DataW a×cD MemPlace}(al:DataW.trod enc bG W 0 (λ_=>bX) bX k 22 [v]=M L)(u:∀r∈L.1.weights bG 22,r<=140737488351232):(∃L K,v=.slice L 0 K)\/∃os,FD W v os:=by
 rcases Go.Deep.open_slice XE al with⟨h,_⟩|⟨ao,b,O,an,r,ac,N,h,_,hl,_,D,P,l⟩;simp only[nj,sN]at h;exact .inl ⟨_,_,h⟩;simp only[nj,sN]at h;simp only[iO]at D;subst h D;by_cases S:b=0;subst S;exact .inl ⟨_,_,rfl⟩;right;rw[Zy]at l;obtain⟨ad,f,rfl,T,w⟩:=KE (Q:=λi A=>DataW.trod enc bG W 0 (λ_=>bX) bX r 31 A=M (ac i,N i)) (by omega:0<b) (by omega:0<6) (λi c=>l i (by omega));rw[P,yZ XE,Zz]at u;(have p:b<=10000000000000:=by have:=u _ (dC);simp only[cV,List.length_range]at this;omega);have y:∀i,i<b->∀r∈(ac i).weights bG 31,r<=140737488351232:=λi c r d=>u r (aJ _ (iz _ (xx (bz.2 ⟨i,mD.2 c,rfl⟩) r d)));(have q:∀i,i<b->∃o:Gv,(∀j,j<6->aS W (U ad (f+i*6+j))=o.cells[j]?)/\Wc W o.L o.cs/\(o.S.size<=140737488351232/\o.T.size<=140737488351232)/\(∀K∈o.cs,K.key.size<=140737488351232/\K.val.size<=140737488351232)/\z o.cs<=10000000000000:=by intro i c;obtain⟨A,x,t,B⟩:=w i c;obtain⟨o,C,E⟩:=WC B (y i c);exact⟨o,λj n=>(t j n).trans (C j n),E⟩);have F:Inhabited Gv:=⟨⟨0,0,0,⟨#[]⟩,⟨#[]⟩,aG,[]⟩⟩;obtain⟨s,m⟩:=Go.Deep.choose_lt q;(have e:z ((List.range b).map s)=b:=by simp);(have d:∀o∈(List.range b).map s,∃i,i<b/\s i=o:=λo g=>by obtain⟨i,c,rfl⟩:=bz.1 g;exact⟨i,mD.1 c,rfl⟩);refine⟨(List.range b).map s,⟨⟨by rw[Ar],.inr ⟨ad,f,an,by rw[e],by rw[e];exact hl,λj av n=>?_⟩⟩,λo g=>?_,λau X=>by cases X;exact T,λo g=>?_,λo g=>?_,by rw[e];exact p,λo g=>?_⟩⟩;(have V:j<b*6:=by have:=(fF.1 n).1;rw[Ar,e]at this;exact this);(have c:j/6<b:=by omega);(have E:j%6<6:=by omega);have t:=qz ((List.range b).map s) (j/6) (by rw[e];exact c) (j%6) E;have C:=(m (j/6) c).1 (j%6) E;(have x:((List.range b).map s)[j/6]'(by rw[e];exact c)=s (j/6):=by simp);rw[x]at t;(have B:j/6*6+j%6=j:=by omega);rw[B]at t;rw[aY,B]at C;rw[C,<-t,n];obtain⟨i,c,rfl⟩:=d o g;exact(m i c).2.1;obtain⟨i,c,rfl⟩:=d o g;exact(m i c).2.2.1;obtain⟨i,c,rfl⟩:=d o g;exact(m i c).2.2.2.1;obtain⟨i,c,rfl⟩:=d o g;exact(m i c).2.2.2.2
end
