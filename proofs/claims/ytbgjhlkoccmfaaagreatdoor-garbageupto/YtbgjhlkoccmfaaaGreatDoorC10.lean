import Derived.Deep.Slices
import Derived.LaidHandle
import Derived.LaidSub
import Derived.Laws.StructEq
import Derived.Lib.LaidTab
import Derived.Test.YtbgjhlkoccmfaaaGreatDoorRows
import Derived.Test.YtbgjhlkoccmfaaaGreatDoorC9
open _root_ renaming List.length→y,Option.some→M,Array.size→G,Go.World.heap→H,Go.Value.ownBlock→cN,Go.World.cell?→bA,Go.World.setCell→cP,Go.World.alloc→dw,Bool.false→bD,Bool.true→cz,Nat→R,Int→Y,List→cy,Go.Calls→cR,Go.undef→jm,Go.Proofs.Tryz.prog→bN,Go.Value.slice→am,Go.Value.string→aw,Go.Value.bool→aO,Go.Value.pointer→ee,Go.Value.tuple→de,Go.Value.agg→ef,Go.World.frozen?→iH,Go.World.ownsRow→fD,Go.Value.nilIface→ib,Go.Act.put→ig,Nat.reduceAdd→jZ,Go.RowKit.Below→gC,Bool→eN,Option.none→dE,rfl→z,Or.inl→J,Or.inr→bj
namespace Go.Proofs.YtbgjhlkoccmfaaaGreatDoor
open ChangeShapes WideShapes RowKit Proofs.Tryz List
set_option maxHeartbeats 16000000
set_option linter.all false
set_option maxRecDepth 100000
variable{a e:Z}
def Bn(w0 W:Z)(a C N:R)(e:Ending):Prop:=∃(n:Y)(wr:eN),e=aN (de #[ay n,aO wr])/\((n=0/\MJ w0 W a C N)\/(n≠0/\Qr w0 W a (20*C+44) N))
section
variable{w0 W W':Z}{a C C' N N':R}{e:Ending}
def Bn.aT(h:Bn w0 W a C N e)(m:C<=C')(g:C'<=3000000000)(k:N<=N')(j:N'<=1000000000):Bn w0 W a C' N' e:=by
 obtain⟨n,wr,rfl,⟨c,d⟩|⟨c,d⟩⟩:=h;exact⟨n,wr,z,J ⟨c,d.aT m g k j⟩⟩;exact⟨n,wr,z,bj ⟨c,d.aT U k⟩⟩
def lS{n:Y}{wr:eN}(h:MJ w0 W a C N):Bn w0 W a C N (aN<|de #[ay n,aO wr]):=by
 by_cases b:n=0;exact⟨n,wr,z,J ⟨b,h⟩⟩;exact⟨n,wr,z,bj ⟨b,h.xd⟩⟩
def Mm(h:MJ w0 W a C N)(al:Option Addr)(ad ac:R)(hN:N+1<=1000000000):cR bN 20 #[aJ a,ef #[ay 2,am al ad ac]] W λe W'=>Bn w0 W' a C (N+1) e:=by
 let⟨t,db,j3,g,ab,j6,bv,pv,L,ao,f,mb,an,h⟩:=h;have c1:=aX h.xh.g 1;have c4:=aX h.xh.g 4;have D:=az h.xh.g;have:=h.xh.cK;go_in
 go_wp21;let⟨v,l⟩:∃v,dw W (aK #[ay 2,am al ad ac] 72)=v:=⟨_,rfl⟩;have m:=h.bH (show I aC W v by rw[<-l];exact cI aC W);rw[l];clear l c1 c4 D;go_call QM m hN as e T⟨aa,rfl,n,⟨rfl,O,c⟩|⟨B,O,c⟩⟩;rotate_left;(.let⟨K,_,s,j⟩:=kL n c.xh.nV;have r:=j _<|I.bI aC _;have V:(K==0)=bD:=dV<|λe=>B<|s.1 e;clear m j n s;go_wp21;go_call r as e o⟨rfl,d⟩;have u:=ak<|c.bH<|I.p d;clear d r c h;go_wp2;(go_ret2);exact⟨K,_,z,bj ⟨dV V,_,_,_,_,_,_,_,_,_,_,_,_,u.aT (aq _)<|qU _⟩⟩);clear m n;go_wp21;go_call ow T as e o⟨rfl,d⟩;have b:=c.bH<|I.p d;have:=az b.xh.g;let⟨F,E,A⟩:=aM b.xh.f.aZ;subst A;clear d c h;go_wp21;rename_i QQ S x;have k:bA o.drew (X a 4)=M (aJ g)/\bA o.drew (X g 0)=M (am F (y L) E)/\bA o.drew (X g 1)=M (ay f)/\iH o.drew (X g 1)=bD:=⟨(aX b.xh.g 4),(aX b.xh.f.g 0),(aX b.xh.f.g 1),(cV (i:=1) b.xh.f.g)⟩;refine cX (λt=>bA t (X a 4)=M (aJ g)/\bA t (X g 0)=M (am F (y L) E)/\bA t (X g 1)=M (ay f)/\iH t (X g 1)=bD) 14 aH ?_;apply dH 0;iterate 12 (refine fW k ?_;simp only[ig,eh,fT,jZ])
 apply eS;refine aW 12 ?_;intro P p;go_simp;apply p _ _<|λ_=>k;refine aW 13 ?_;intro Q q;go_simp;apply q _ _<|λ_=>k;refine aW 14 ?_;intro K1 w;go_simp;apply w _ _ wW;refine dG aH ?_ _;show S _ _;apply x;go_wp2;go_ret2
 exact lS ⟨_,_,_,_,_,_,_,_,_,_,_,_,_,(b.Cv _).bH<|cf aC _⟩
def SX(h:MJ w0 W a C N)(bo:Option Addr)(bn bm:R)(hC:C+31<=3000000000)(hN:N+2<=900000000):cR bN 20 #[aJ a,ef #[ay 3,am bo bn bm]] W λe W'=>Bn w0 W' a (C+31) (N+1) e:=by
 let⟨Q,db,j3,v,u,j6,bv,pv,w,bk,L,mb,bt,h⟩:=h;have bf:=h.xh.cK;have c1:=aX h.xh.g 1;have bb:=az h.xh.g;go_in
 go_wp21;let⟨W1,aa⟩:∃W1,dw W (aK #[ay 3,am bo bn bm] 72)=W1:=⟨_,rfl⟩;have ad:=h.bH (show I aC W W1 by rw[<-aa];exact cI aC W);rw[aa];clear aa c1 bb;go_call Nb ad as e W2⟨bh,rfl,t,⟨rfl,X',bp,bq,br,cc,bs,o⟩|⟨ba,F2,o⟩⟩;rotate_left;(.let⟨tn,_,K,k⟩:=kL t o.xh.nV;have F:=k _<|I.bI aC _;have b0:(tn==0)=bD:=dV<|λe=>ba<|K.1 e;clear ad k t K h;go_wp21;go_call F as e W3⟨rfl,A⟩;have f:=o.bH<|I.p A;have c1:=aX f.xh.g 1;have g1:=cV (i:=1) f.xh.g;have O:=ak<|f.p<|ee dE;clear f A F o;go_wp2;(go_ret2);exact⟨tn,_,z,bj ⟨dV b0,_,_,_,_,_,_,_,_,_,_,_,_,O.aT U<|qU _⟩⟩);clear ad t h;go_wp21;go_call ow W2 as e W3⟨rfl,A⟩;have f:=o.bH<|I.p A;have c1:=aX f.xh.g 1;have c4:=aX f.xh.g 4;have g1:=cV (i:=1) f.xh.g;have m:=f.p<|ee dE;have d0:=aX m.xh.f.g 0;have d1:=aX m.xh.f.g 1;have f1:=cV (i:=1) m.xh.f.g;have c4:=aX m.xh.g 4;let⟨bx,bc,aV⟩:=aM f.xh.f.aZ;subst aV;clear f A o;go_wp21;rename_i QQ KK x;let⟨V,ab⟩:∃V,cP W3 (X a 1) (ee dE)=V:=⟨_,rfl⟩;rw[ab]at m d0 d1 f1 c4;rw[ab];clear ab c1 g1;have l:bA V.drew (X a 4)=M (aJ v)/\bA V.drew (X v 0)=M (am bx (y w) bc)/\bA V.drew (X v 1)=M (ay L)/\iH V.drew (X v 1)=bD:=⟨c4,d0,d1,f1⟩;refine cX (λQ=>bA Q (X a 4)=M (aJ v)/\bA Q (X v 0)=M (am bx (y w) bc)/\bA Q (X v 1)=M (ay L)/\iH Q (X v 1)=bD) 14 aH ?_;refine dH 0 ?_;iterate 12 (refine fW l ?_;simp only[ig,eh,fT,jZ])
 apply eS;refine aW 12 ?_;intro aD g;go_simp;refine g _ _ (λ_=>l) ?_;refine aW 13 ?_;intro aU j;go_simp;refine j _ _ (λ_=>l) ?_;refine aW 14 ?_;intro K1 an;go_simp;refine an _ _ wW ?_;refine dG aH ?_ _;show KK _ _;apply x;let⟨W5,ac⟩:∃W5,(cP V (X v 1)<|ay<|y w).drew=W5:=⟨_,rfl⟩;have p:XL X' w0 W5 a db v (ee dE) u j6 (am bx (y w) bc) pv w bk (y w) mb C N bp bq br cc bs:=ac▸(m.Cv _).bH (cf aC _);rw[ac];have e0:=aX p.xh.g 0;have e2:=aX p.xh.g 2;have e3:=aX p.xh.g 3;clear ac m c4 d0 d1 f1 l x an g j;go_wp21;rename_i QQ KK x;have av:=Tx (p.bH<|cf aC W5) hC U;have l:bA W5.drew (X a 0)=M (aJ db)/\bA W5.drew (X a 2)=M (ay u)/\bA W5.drew (X a 3)=M (ay j6):=⟨e0,e2,e3⟩;refine cX (λQ=>bA Q (X a 0)=M (aJ db)/\bA Q (X a 2)=M (ay u)/\bA Q (X a 3)=M (ay j6)) 13 aH ?_;refine dH 0 ?_;iterate 8 (refine fW l ?_;simp only[ig,eh,fT,jZ])
 apply eS;refine aW 8 ?_;intro K8 ao;go_simp;go_call av as e T⟨d,ap⟩;have P:bA T (X a 0)=M (aJ db)/\bA T (X a 2)=M (ay u)/\bA T (X a 3)=M (ay j6):=⟨aX d.g 0,aX d.g 2,aX d.g 3⟩;have c:=p.f;have HR:=ak (show∃c b,e=aN (de #[c,b])by obtain⟨S,F6,rfl,_⟩|⟨q,rfl,_⟩:=ap<;>exact⟨_,_,z⟩);obtain⟨bl,bi,rfl⟩:=ag HR;refine ao _ _ (λ_=>P) ?_;refine dH 9 ?_;iterate 3 (refine fW P ?_;simp only[ig,eh,fT,jZ])
 apply eS;refine aW 12 ?_;intro aD g;go_simp;refine g _ _ (λ_=>P) ?_;refine aW 13 ?_;intro aU j;go_simp;refine j _ _ wW ?_;refine dG aH ?_ _;show KK _ _;apply x;have HK:=ak<|And.intro c d;clear ao g j x l P av p e0 e2 e3 HR c d;obtain⟨S,F6,s,E,b⟩|⟨q,s,ax,F6,D,b⟩:=ap;(.injection s with s;injection s with s;simp only[pB,iL,rF]at s;obtain⟨rfl,rfl⟩:=s;have HL:=ak<|And.intro E b;clear E b;go_wp21;go_call ow T as e W7⟨rfl,B⟩;have n:I aC T W7:=I.p B;let⟨c,d⟩:=ag HK;let⟨E,b⟩:=ag HL;have al:XG X' w0 T a db S v (ee dE) u j6 (am bx (y w) bc) pv w bk (y w) mb (C+31) (N+1) F6:=⟨d.aT<|qU _,E,b,c⟩;have O:=al.bH n;have c1:=aX O.xh.g 1;have g1:=cV (i:=1) O.xh.g;have r:=O.p (J z)<|aJ S;have bd:∀bg:Z,(binOp .eql 36 (aJ S)<|ee dE).run bN bg=.ok (aO bD) bg:=λ_=>rfl;clear al O E b d n B HK HL;go_wp2;(go_ret2);exact lS ⟨_,_,_,_,_,_,_,_,_,_,_,_,_,r⟩);injection s with s;injection s with s;simp only[pB,iL,rF]at s;obtain⟨rfl,rfl⟩:=s;let⟨c,d⟩:=ag HK;(have t:ub T (eW q):=by let⟨c6,hc,h1⟩:=ax;exact bj<|bj ⟨q,z,c6,hc,h1⟩);let⟨tn,_,K,k⟩:=kL t d.nV;have F:=k _<|I.bI aC _;(have b0:(tn==0)=bD:=by simpa usingλe=>by have:=K.1 e;simp[eW]at this);have HL:=ak<|And.intro D b;clear k t K D b d c ax;go_wp21;go_call F as e W7⟨rfl,B⟩;have n:I aC T W7:=I.p B;let⟨c,d⟩:=ag HK;let⟨D,b⟩:=ag HL;have r:XD w0 W7 a db v (ee dE) u j6 (am bx (y w) bc) pv w bk (y w) mb (20*(C+31)+44) N F6:=⟨d.bH n,D.aA n cY,λk q=>⟨(b k q).1,gV ((b k q).2.1) n.D,(b k q).2.2⟩⟩;have:=aX r.xh.g 1;have:=cV (i:=1) r.xh.g;have:∀bg:Z,(binOp .eql 36 (ee dE)<|ee dE).run bN bg=.ok (aO cz) bg:=λ_=>rfl;have O:=ak<|r.p<|ee dE;clear r D b d n B HK HL c F;go_wp2;(go_ret2);exact⟨tn,_,z,bj ⟨dV b0,_,_,_,_,_,_,_,_,_,_,_,_,O.aT (aq _)<|qU _⟩⟩
end
def YR{w:Z}{x:Option Addr}{c:Na}{d:vW}{l:R}(h:FN w (am x (y<|c::d) l) (c::d)):∃g b,x=M (X g b)/\y (c::d)<=l/\bA w (X g b)=M (aw c.D)/\g<G (H w):=by
 obtain⟨⟨_,⟨m,e⟩|⟨g,b,i,m,f,k⟩⟩,j⟩|⟨e,_⟩:=h;simp at e;cases m;exact⟨g,b,z,f,k 0 _ z,j g z⟩;cases e
section
variable{w0 W W':Z}{a C C' N N':R}
def ZZ(h:MJ w0 W a C N)(aa:Option Addr)(g:vW)(ad:R)(T:FN w0 (am aa (y g) ad) g)(u:∀t∈g,t.D.size<=140737488351232/\t.l.size<=140737488351232)(hN:N<=1000000000):cR bN 20 #[aJ a,ef #[ay 4,am aa (y g) ad]] W λP W'=>Bn w0 W' a C N P:=by
 let⟨j4,db,K,hb,L,j6,bv,pv,vs,ao,n,mb,ap,h⟩:=h;have c1:=aX h.xh.g 1;have F:=az h.xh.g;have V:=h.xh.cK.2;have o:=T.aA h.xh.aA<|λ_ _=>id;have b:∀d c,dw W (aK #[ay 4,am aa (y g) ad] 72)=d->c.size<=140737488351232->cR bN 17 #[aJ K,aw c] d λP W'=>∃aa t ac,P=aN (de #[aw aa,aO t,ac])/\ub W' ac/\∃f,XG j4 w0 W' a db K hb (aJ K) L j6 bv pv vs ao n mb C N f:=λd c e u=>T9 (h.bH (show I aC W d by rw[<-e];exact cI aC W)) c u;have d:=ak b;clear b h;cases g;(case' nil=>let⟨c,b⟩:∃c:af,c=⟨#[97]⟩:=⟨_,rfl⟩;(have l:c.size<=140737488351232:=by rw[b];decide);(go_in);go_wp21;rw[<-b];clear b);(case' cons w g=>obtain⟨av,O,rfl,A,k,al⟩:=YR o;have l:=(u w ar).1;let⟨c,b⟩:∃c,w.D=c:=⟨_,rfl⟩;rw[b]at l k;clear b;let⟨ab,B⟩:∃ab,y (w::g)=ab:=⟨_,rfl⟩;(have e2:0<ab:=by rw[<-B];simp);have e1:(0:Y)<(ab:Y):=U;rw[B]at d A|-;clear T o B u;(go_in);go_wp21);(all_goals go_call d _ c rfl l as P W2⟨x,gs,ev,rfl,q,F2,j⟩;let⟨v,D,E,i⟩:=kL q j.xh.nV;have s:=i _<|I.bI aC _;clear D E;clear i q d c1 F;go_wp21;go_call s as P W3⟨rfl,p⟩;have e:=j.bH<|I.p p;have:=aX e.xh.g 4;have:=aX e.xh.f.g 3;have m:=OR c e.xh.f.pr U;let⟨lv,g8,r⟩:∃ac s,vD ao c=(ac,s):=⟨_,_,rfl⟩;rw[r]at m;have f:=ak<|show MJ w0 W3 a C N from⟨_,_,_,_,_,_,_,_,_,_,_,_,_,e⟩;clear e s p j r;by_cases S:v=3;(.subst S;go_wp2;(go_ret2);exact lS f);have:(v==3)=bD:=dV S;go_wp21;go_call m as P W4⟨rfl,an⟩;subst W4;clear m;by_cases Q:v=0;(.subst Q;by_cases hv:x=lv;(.subst hv;have:(!x.toList==x.toList)=bD:=ar;cases gs<;>cases g8<;>(go_wp2;go_ret2;exact lS f));(.go_wp2;(all_goals(go_ret2);exact lS f)));have:(v==0)=bD:=dV Q;go_wp2;(go_ret2);exact lS f)
def WG(h:MJ w0 W a C N)(al:Option Addr)(ad ab:R)(hN:N<=1000000000):cR bN 20 #[aJ a,ef #[ay 5,am al ad ab]] W λE W'=>Bn w0 W' a C N E:=by
 let⟨j4,P,V,T,A,j6,O,pv,vs,ac,j,mb,an,h⟩:=h;have c1:=aX h.xh.g 1;have x:=az h.xh.g;have:=h.xh.cK.2;go_in
 go_wp21;let⟨s,e⟩:∃s,dw W (aK #[ay 5,am al ad ab] 72)=s:=⟨_,rfl⟩;have l:=h.bH (show I aC W s by rw[<-e];exact cI aC W);rw[e];clear e c1 x;go_call Ty l _ _ _ as E F⟨S,D,ev,aa,rfl,o,hp,n,F2,f⟩;let⟨B,v,w,d⟩:=kL n f.xh.nV;have q:=d _<|I.bI aC _;clear v w;clear l d n h;go_wp21;go_call q as E t⟨rfl,m⟩;have i:I aC F t:=I.p m;have b:=f.bH i;have p:mE t _ _:=i.bV (dQ o)<|λk b=>⟨id,(aS o k b).2⟩;have:=aX b.xh.g 4;have:=aX b.xh.f.g 3;have g:=nh p b.xh.f.pr U U;generalize decide (aa=ac)=L at g;have k:=ak<|show MJ w0 t a C N from⟨_,_,_,_,_,_,_,_,_,_,_,_,_,b⟩;clear b p i m q f;go_wp21;go_call g as E K⟨rfl,k4,r⟩;have c:MJ w0 K a C N:=by let⟨j4,P,V,T,A,j6,O,pv,vs,ac,j,mb,an,h⟩:=ag k;exact⟨_,_,_,_,_,_,_,_,_,_,_,_,_,h.bH<|r▸gO _ _ _⟩
 clear r g k;by_cases u:B=0;(.subst u;cases L;(.go_wp2;(go_ret2);exact lS c);go_wp2;(go_ret2);exact lS c)
 .have:(B==0)=bD:=dV u;have:(B !=0)=cz:=dV u;cases S with
  |none=>
   have he:∀w:Z,(binOp .neq 55 (am dE (y aa) D) aF).run bN w=.ok (aO bD) w:=λ_=>rfl;go_wp2;go_ret2
   exact lS c
  |some Q=>
   have:∀w:Z,(binOp .neq 55 (am (M Q) (y aa) D) aF).run bN w=.ok (aO cz) w:=λ_=>rfl;go_wp2;go_ret2
   exact lS c
def SW(h:MJ w0 W a C N)(d:Y)(D:Option Addr)(b:vW)(x:R)(hk:¬d=2/\¬d=3/\¬d=4/\¬d=5)(hL:FN w0 (am D (y b) x) b)(hz:∀g9∈b,g9.D.size<=140737488351232/\g9.l.size<=140737488351232)(hr:y b<=100000000)(hC:C+8<=3000000000)(hN:N+1<=100000000):cR bN 20 #[aJ a,ef #[ay d,am D (y b) x]] W λw W'=>Bn w0 W' a (C+8) (N+1) w:=by
 let⟨r,db,K,t,bo,j6,bv,pv,vs,bL,S,mb,bT,h⟩:=h;have:=h.xh.cK;let⟨k2,k3,k4,k5⟩:=hk;have:(d==2)=bD:=dV k2;have:(d==3)=bD:=dV k3;have:(d==4)=bD:=dV k4;have:(d==5)=bD:=dV k5;let⟨bk,bt⟩:∃bk,(d==1)=bk:=⟨_,rfl⟩;have bE:=az h.xh.g;have HX:=ak h;have aD:∀k,dw W (aK #[ay d,am D (y b) x] 72)=k->cR bN 38 #[am D (y b) x] k λw A=>∃v',w=aN v'/\MS A (G<|H k) v' b/\I aC k A/\XG r w0 A a db K t (aJ K) bo j6 bv pv vs bL S mb C N bT/\A.heap[G<|H W]?=M (aK #[ay d,am D (y b) x] 72 (0,0)):=λk F=>by have aa:I aC W k:=F▸cI aC W;have Q:=HX.bH aa;have hn:k.heap[G<|H W]?=M (aK #[ay d,am D (y b) x] 72 (0,0)):=F▸aQ _ ar;go_call Tz U (hL.aA Q.xh.aA<|λ_ _=>id)as w A⟨v',rfl,ho,t⟩;have ht:I aC k A:=I.p t;exact⟨v',z,ho,ht,Q.bH ht,(ht.A _ (az hn) id).trans hn⟩
 have bi:¬bT (G<|H W)/\¬Xi a t bv pv (G<|H W):=⟨λq=>bP<|(h.da _ q).2.1,λq=>bP<|(h.xh.lt q).2⟩;clear h;go_in
 go_wp21;go_call aD _ rfl as w T⟨v2,rfl,P,bm,e,hq⟩;let⟨x2,c2,bn⟩:=aM P;subst bn;have al:=Ej (dQ P) U;have c1:=aX e.xh.g 1;have q0:=aX hq 0;have q1:=aX hq 1;have aU:∀V,I (λbr=>br=K) T.drew V->FN V (am D (y b) x) b:=λV k=>by refine hL.aA (((e.bH<|cf aC T).xh.aA).aj k<|λbr w=>bj ?_)<|λ_ _=>id;rw[show br=K from w];exact(e.da K e.lv.Cr.j).1
 have aV:=Xt (e.bH<|cf aC T) (cv:=am D (y b) x) (cs:=b) bk aU hz U hC U;have:=az e.xh.g;have bh:=az hq;have:=e.da;have:=λbr=>e.xh.lt (k:=br);clear e P bm aD aU HX;go_wp21;go_call al as w bf⟨rfl,hw⟩;subst bf;clear al;go_wp21;rename_i QQ KK j;have p:bA T.drew (X a 1)=M (aJ K)/\bA T.drew (X (G<|H W) 0)=M (ay d)/\bA T.drew (X (G<|H W) 1)=M (am D (y b) x):=⟨c1,q0,q1⟩;refine cX (λr=>bA r (X a 1)=M (aJ K)/\bA r (X (G<|H W) 0)=M (ay d)/\bA r (X (G<|H W) 1)=M (am D (y b) x)) 10 aH ?_;refine dH 0 ?_;iterate 9 (refine fW p ?_;simp only[ig,eh,fT,jZ])
 apply eS;refine aW 9 ?_;intro K9 g;go_simp;go_call aV as w V⟨ev,rfl,O,av,ad⟩;have l:V.heap[G<|H W]?=M (aK #[ay d,am D (y b) x] 72 (0,0)):=(av.A _ (by exact bh) bi.1).trans hq;have ac:bA V (X a 1)=M (aJ K)/\bA V (X (G<|H W) 0)=M (ay d)/\bA V (X (G<|H W) 1)=M (am D (y b) x):=⟨by obtain⟨_,F',h⟩|⟨_,_,F',h⟩:=ad<;>exact aX h.xh.g 1,aX l 0,aX l 1⟩;clear aV av;refine g _ _ (λ_=>ac) ?_;refine aW 10 ?_;intro bs E;go_simp;refine E _ _ wW ?_;refine dG aH ?_ _;show KK _ _;apply j;clear g E j p ac hq q0 q1 c1;obtain⟨rfl,F3,n⟩|⟨h0,an,F3,n⟩:=ad;rotate_left;(.let⟨tn,bl,ba,F⟩:=kL O n.xh.nV;have v:=F _<|I.bI aC _;have b0:(tn==0)=bD:=dV<|λw=>an<|ba.1 w;have aa:=ak<|n.aT (N':=N+1) (aq _)<|qU _;rw[h0];clear n F ba O an bl;go_wp21;go_call v as w s⟨rfl,u⟩;have m:I aC V s:=I.p u;have c:=aa.bH m;have f:=(m.A _ (az l) id).trans l;have:=aX c.xh.f.g 2;have:=cV (i:=2) c.xh.f.g;have c4:=aX c.xh.g 4;have k:=c.Gn cz;let⟨o,A⟩:∃o,cP s (X t 2) (aO cz)=o:=⟨_,rfl⟩;(have ao:t≠G (H W):=λw=>by have h1:=c.xh.f.g;rw[w,f]at h1;cases h1);(have Q:o.heap[G<|H W]?=M (aK #[ay d,am D (y b) x] 72 (0,0)):=by rw[<-A];exact((fJ s t 2<|aO cz).A _ (az f)<|λw=>ao w.symm).trans f);rw[A]at k;have q0:=aX Q 0;have q1:=aX Q 1;have k4:=aX k.xh.g 4;have B:=DZ (k.bH<|cf aC o).xh.f (am D (y b) x) b bD (hL.aA (k.bH<|cf aC o).xh.aA<|λ_ _=>id) U U (k.bH<|cf aC o).xh.aA.D;have:=az k.xh.f.g;let⟨L,bb,bc⟩:=eU (k.bH<|cf aC o) B A;clear k B f c m u v aa l Q A;go_wp21;rw[ag bc];rename_i KK j;have p:bA o.drew (X a 4)=M (aJ t)/\bA o.drew (X (G<|H W) 0)=M (ay d)/\bA o.drew (X (G<|H W) 1)=M (am D (y b) x):=⟨k4,q0,q1⟩;refine kF (λr=>bA r (X a 4)=M (aJ t)/\bA r (X (G<|H W) 0)=M (ay d)/\bA r (X (G<|H W) 1)=M (am D (y b) x)) 6 aH ?_;refine lW 0 ?_;(iterate 6 (refine zu p ?_;simp only[ig,eh,fT,jZ]));apply qi;refine gN 6 ?_;intro K9 g;go_simp;go_call bb as w W6⟨rfl,bg,bp,v',bq,ab,ax,ap⟩;have h8:=(rB h0).1;have bx:=yJ bL b;have bd:=ak<|(ag L).A ax ab ap dW;refine g _ _ (λq=>U) ?_;refine kR aH ?_ _;show KK _ _;apply j;clear ab ax ap g j;go_wp2;(go_ret2);exact⟨tn,_,z,bj ⟨dV b0,_,_,_,_,_,_,_,_,_,_,_,_,bd⟩⟩);have v:=Ji (gS b) n.xh.nV;clear O;go_wp21;go_call v as w s⟨rfl,u⟩;have m:I aC V s:=I.p u;have c:=n.bH m;have f:=(m.A _ (az l) id).trans l;clear v u n l;by_cases h0:gS b=0;(.rw[h0];have q0:=aX f 0;have q1:=aX f 1;have c4:=aX c.xh.g 4;have B:=DZ (c.bH<|cf aC s).xh.f (am D (y b) x) b bk (hL.aA (c.bH<|cf aC s).xh.aA<|λ_ _=>id) U U (c.bH<|cf aC s).xh.aA.D;have Q:=ak<|c.bH<|cf aC s;clear c f m;go_wp21;rename_i KK j;have p:bA s.drew (X a 4)=M (aJ t)/\bA s.drew (X (G<|H W) 0)=M (ay d)/\bA s.drew (X (G<|H W) 1)=M (am D (y b) x):=⟨c4,q0,q1⟩;refine kF (λr=>bA r (X a 4)=M (aJ t)/\bA r (X (G<|H W) 0)=M (ay d)/\bA r (X (G<|H W) 1)=M (am D (y b) x)) 9 aH ?_;refine lW 0 ?_;(iterate 9 (refine zu p ?_;simp only[ig,eh,fT,jZ]));apply qi;refine gN 9 ?_;intro K9 g;go_simp;go_call B as w o⟨rfl,bg,bp,v',bq,k,F,A⟩;have:=(rB h0).1;have:=yJ bL b;have L:=ak<|(ag Q).A F k A dW;apply g _ _<|λq=>U;refine kR aH ?_ _;show KK _ _;apply j;clear k F A g j;go_wp2;(go_ret2);exact lS ⟨_,_,_,_,_,_,_,_,_,_,_,_,_,L⟩);have:(gS b==0)=bD:=dV h0;clear f m;go_wp21;go_call mI _ _ as w o⟨rfl,k⟩;subst o;have:(!gS b==gS b)=bD:=ar;go_wp2;(go_ret2);exact lS ⟨_,_,_,_,_,_,_,_,_,_,_,_,_,c⟩
def l7(h:MJ w0 W a C N)(c:Y)(x:Option Addr)(b:vW)(e:R)(m:FN w0 (am x (y b) e) b)(n:∀g∈b,g.D.size<=140737488351232/\g.l.size<=140737488351232)(o:y b<=100000000)(d:C+31<=3000000000)(p:N+2<=100000000):cR bN 20 #[aJ a,ef #[ay c,am x (y b) e]] W λf W'=>Bn w0 W' a (C+31) (N+1) f:=by
 by_cases i:c=2;subst i;exact(Mm h x (y b) e U).mono<|λf W' q=>q.aT U d (aq _) U;by_cases j:c=3;subst j;exact SX h x (y b) e d U;by_cases k:c=4;subst k;exact(ZZ h x b e m n U).mono<|λf W' q=>q.aT U d (qU _) U;by_cases l:c=5;subst l;exact(WG h x (y b) e U).mono<|λf W' q=>q.aT U d (qU _) U;exact(SW h c x b e ⟨i,j,k,l⟩ m n o U U).mono<|λf W' q=>q.aT U d (aq _) U
end
section
variable{j4:cy af}{w0 W W':Z}{e db j3 i:R}{mem j6:Y}{bv n sv:ae}{o:iE}{l w:kV}{f:Y}{k r:eN}{C C' N N' L v:R}{F F' S:fB}{s:SR}{K K':DK}{m:dB}{a b c d:dI}{sn:gI}
def Mt(h:XG j4 w0 W e db j3 i sv mem j6 bv n o l f k C N F):cR bN 55 #[aJ j3] W λP W'=>∃T c aa,∃D:kV,P=aN (de #[am T (y D) c,ay aa])/\uP W W' (am T (y D) c) D/\y D<=40000000000/\∃F',XG j4 w0 W' e db j3 i sv mem j6 bv n o l f k C N F':=by
 have u:=Ty h ⟨#[]⟩ ⟨#[]⟩ 0;clear h;go_in
 go_wp21;go_call u as P E⟨gx,gc,ev,D,rfl,B,Q,t,V,j⟩;let⟨tn,_,_,g⟩:=kL t j.xh.nV;have A:=g _<|I.bI aC _;clear g t u;go_wp21;go_call A as P O⟨rfl,p⟩;have x:I aC E O:=I.p p;clear p A;go_wp2;go_ret2
 exact⟨_,_,_,_,z,x.aZ B<|λ_ _ q=>q,Q,_,j.bH x⟩
def I8{h:R}(j:cJ W' h K')(p:qp K'.fx)(g:K'.ah=[])(t:K'.l=[]):Cld [] W' h 0 0 K' [] [] [] []:=⟨j,p,(by rw[g];intro u b q;cases q),(by rw[g,t];simp),⟨bj ⟨by rw[g];rfl,z⟩,ar⟩,ar,by simp[ik],(by rw[g];intro u b q;cases q),ar⟩
def RI(h:XH w0 W e db i (ee dE) mem j6 aF aF [] [] 0 bD 0)(hd:cJ W db K)(hl:qp K.fx)(hf:K.ah=[]):cR bN 19 #[aJ e] W λan W'=>∃cs:Y,an=aN (ay cs)/\((cs=0/\MJ w0 W' e 31 1)\/(cs≠0/\Qr w0 W' e 664 1)):=by
 have c0:=aX h.g 0;have bo:=PX hd (by rw[hf];simp[vw]);have bh:=ak<|And.intro h (And.intro hl hf);clear h hd hl hf;go_in
 go_wp21;go_call bo as an W1⟨x,K1,rfl,ax,aD,bE,E,cc,ac,_,_⟩;let⟨h,hl,hf⟩:=ag bh;have T:=h.bH cc;have br:K1.ah=[]:=by rw[hf]at aD;simpa[vw]using aD
 have bt:qp K1.fx:=by rwa[ac]
 have V:=h.aA.D;have av:XL [] w0 (cP W1 (X e 0)<|aJ x) e x i (ee dE) mem j6 aF aF [] [] 0 bD 0 0 K1 [] [] [] []:=by have g:∀aU,K1.j x aU->G (H w0)<=aU/\aU<G (H<|cP W1 (X e 0)<|aJ x)/\¬Xi e i aF aF aU:=λaU q=>⟨bP<|E aU q,by rw[gJ];exact ax.lt aU q,λm9=>gV ((h.lt m9).2)<|E aU q⟩;exact⟨T.G2 x,(I8 ax bt br bE).aA (fJ W1 e 0<|aJ x)<|λcM an m9=>(g cM m9).2.2<|J an,g,λcM hx=>(by cases hx),ar⟩
 have g0:=cV (i:=0) T.g;have c0:=aX T.g 0;let⟨W5,ao⟩:∃W5,cP W1 (X e 0) (aJ x)=W5:=⟨_,rfl⟩;rw[ao]at av;have A:=ak av;have bc:=ak ao;clear av ao T ax aD bE E cc ac bo h hl hf bh br bt;go_wp21;rename_i KK bk;rw[ag bc];have e0:=aX (ag A).xh.g 0 z;have e2:=aX (ag A).xh.g 2 z;have e3:=aX (ag A).xh.g 3 z;have bL:=Tx ((ag A).bH<|cf aC W5) U U;have bl:bA W5.drew (X e 0)=M (aJ x)/\bA W5.drew (X e 2)=M (ay mem)/\bA W5.drew (X e 3)=M (ay j6):=⟨e0,e2,e3⟩;refine cX (λj4=>bA j4 (X e 0)=M (aJ x)/\bA j4 (X e 2)=M (ay mem)/\bA j4 (X e 3)=M (ay j6)) 13 aH ?_;refine dH 0 ?_;iterate 8 (refine fW bl ?_;simp only[ig,eh,fT,jZ])
 apply eS;refine aW 8 ?_;intro K8 bi;go_simp;go_call bL as an W6⟨t,bn⟩;have P:bA W6 (X e 0)=M (aJ x)/\bA W6 (X e 2)=M (ay mem)/\bA W6 (X e 3)=M (ay j6):=⟨aX t.g 0,aX t.g 2,aX t.g 3⟩;obtain⟨cB,cr,rfl⟩:∃sv g,an=aN (de #[sv,g]):=by obtain⟨cv,F6,rfl,_⟩|⟨q,rfl,_⟩:=bn<;>exact⟨_,_,z⟩
 refine bi _ _ (λ_=>P) ?_;refine dH 9 ?_;iterate 3 (refine fW P ?_;simp only[ig,eh,fT,jZ])
 apply eS;refine aW 12 ?_;intro co aa;go_simp;refine aa _ _ (λ_=>P) ?_;refine aW 13 ?_;intro cp ab;go_simp;refine ab _ _ wW ?_;refine dG aH ?_ _;show KK _ _;apply bk;have HK:=ak t;clear bi aa ab bk bl P bL A e0 e2 e3 bc t c0 g0;obtain⟨j3,F6,u,bx,g⟩|⟨q,u,cb,F6,D,g⟩:=bn;rotate_left;(.injection u with u;injection u with u;simp only[pB,iL,rF]at u;obtain⟨rfl,rfl⟩:=u;have t:=ag HK;(have bq:ub W6 (eW q):=by let⟨c6,hc,h1⟩:=cb;exact bj<|bj ⟨q,z,c6,hc,h1⟩);let⟨tn,cj,V,ad⟩:=kL bq t.nV;have ce:=ad _<|I.bI aC _;(have b0:(tn==0)=bD:=by simpa usingλan=>by have:=V.1 an;simp[eW]at this);(have b1:(tn !=0)=cz:=by simpa usingλan=>by have:=V.1 an;simp[eW]at this);have cl:∀cm:Z,(binOp .eql 36 (ee dE)<|ee dE).run bN cm=.ok (aO cz) cm:=λ_=>rfl;have HL:=ak<|And.intro D g;clear ad bq V D g t cb cj;go_wp21;go_call ce as an W7⟨rfl,B⟩;have Q:I aC W6 W7:=I.p B;let⟨D,g⟩:=ag HL;have bm:XD w0 W7 e x i (ee dE) mem j6 aF aF [] [] 0 bD 664 1 F6:=⟨((ag HK).bH Q).aT U,(D.aA Q cY).aT U,λaU q=>⟨(g aU q).1,gV ((g aU q).2.1) Q.D,(g aU q).2.2⟩⟩;have bd:=ak<|show Qr w0 W7 e 664 1 from⟨_,_,_,_,_,_,_,_,_,_,_,_,bm⟩;clear bm D g Q B HK HL ce;by_cases h9:tn=9;(.subst h9;go_wp2;go_ret;exact⟨_,z,bj ⟨cg,bd⟩⟩);have:(tn==9)=bD:=dV h9;go_wp2;go_ret;exact⟨_,z,bj ⟨cg,bd⟩⟩);injection u with u;injection u with u;simp only[pB,iL,rF]at u;obtain⟨rfl,rfl⟩:=u;have bg:XG [] w0 W6 e x j3 i (ee dE) mem j6 aF aF [] [] 0 bD 31 1 F6:=⟨(ag HK).aT U,bx,g,λcM hx=>(by cases hx),ar⟩;have:∀cm:Z,(binOp .eql 36 (aJ j3)<|ee dE).run bN cm=.ok (aO bD) cm:=λ_=>rfl;have aV:=ak bg;clear bx g HK bg;go_wp21;go_call ow W6 as an W7⟨rfl,B⟩;have bp:=Mt<|(ag aV).bH<|I.p B;clear B aV;go_wp21;go_call bp as an W8⟨gx,gc,tn,dc,rfl,bs,ck,F8,O⟩;have c4:=aX O.xh.g 4;have bT:=Oq O.xh.f (dQ bs) U;have ba:=ak O;clear O bp;go_wp21;go_call bT as an W9⟨rfl,cd⟩;have j:=(ag ba).bH cd;have al:=ak (show Qr w0 W9 e 664 1 by let⟨F9,Q⟩:=j.xd;exact⟨_,_,_,_,_,_,_,_,_,_,_,_,Q⟩);have bb:=ak j;clear j ba cd bT c4;by_cases h0:tn=0;rotate_left;(.have b0:(tn==0)=bD:=dV h0;go_wp2;go_ret;exact⟨_,z,bj ⟨cg,al⟩⟩);subst h0;by_cases ca:dc=[];rotate_left;(.have Q:decide (dc=[])=bD:=dV ca;rw[Q];go_wp2;go_ret;exact⟨_,z,bj ⟨cg,al⟩⟩);subst ca;rw[show decide (([]:kV)=[])=cz from ar];have j:=ag bb;have c1:=aX j.xh.g 1;have g1:=cV (i:=1) j.xh.g;have c4:=aX j.xh.g 4;have g4:=cV (i:=4) j.xh.g;have ch:=az j.xh.g;have p:=(j.p (J z)<|aJ j3).I9 (bj z) (cI aC _) (aq _)<|aQ (aK #[aF,ay 0,aO bD,aF] 76) z;rw[gJ,World.setCell_alloc_past _ _ _ _ (by rw[gJ];exact ch)]at p;have bf:=ak p;clear p j bb al bs ck;go_wp21;let⟨WA,ap⟩:∃WA,dw (cP (cP W9 (X e 1)<|aJ j3) (X e 4)<|aJ<|G<|H W9) (aK #[aF,ay 0,aO bD,aF] 76)=WA:=⟨_,rfl⟩;let⟨cT,hg⟩:∃cT,G (H W9)=cT:=⟨_,rfl⟩;have p:=ag bf;rw[ap,hg]at p;rw[ap];clear bf ap hg c1 g1 c4 g4 ch;go_loopw [9,10] (λg cn wr=>g=aF/\cn=ay 0/\wr=WA) (λ_ _ _=>0)
 exact⟨z,z,z⟩;obtain⟨rfl,rfl,cl⟩:=hrel;subst wr;have Q:=p;have:=aX Q.xh.g 4;have bd:=DZ Q.xh.f aF [] cz (J ⟨⟨z,J ⟨z,z⟩⟩,λaU q=>(by cases q)⟩) ar ar Q.xh.aA.D;clear Q;go_wp21;go_call bd as an WB⟨rfl,cj,cu,v',cx,ad,bq,bm⟩;have ce:=ak (p.A bq ad bm<|by simp[WE]);clear bd ad bq bm p;go_wp2;go_ret;exact⟨_,z,J ⟨z,_,_,_,_,_,_,_,_,_,_,_,_,_,ce⟩⟩
end
def NY{d:Func}{p:Tmp}(h:d.results=#[.cell p 38])(a:Array ae)(w:Z)(g:R)(x b:Y)(t:TypeId)(e:R×R)(j:a.getD p jm=aJ g)(f:w.heap[g]?=M (aK #[ay x,ay b] t e)):(results d a).run bN w=.ok (ef #[ay x,ay b]) w:=by
 have c:a[p]?.getD jm=aJ g:=dV j;have i:=kP (P:=bN) w g t 38 #[ay x,ay b] e _ f underlying38 z aH;simp[results,h,c,asAddr,i]
def Vj(a T:Y)(w:Z):cR bN 18 #[ay a,ay T] w λe b=>(∃m t,e=aN (ef #[ay m,ay t])/\1<=m/\m<=32/\2<=t/\t<=6)/\I aC w b:=by
 have:=Jy a 32 U U;have:=Jy T 5 U U;go_in
 go_wp2;refine ci (NY z _ _ (G<|H w) (1+wrap64 ((IntKind.u64.wrap a).tmod 32)) (2+wrap64 ((IntKind.u64.wrap T).tmod 5)) _ _ z<|aQ _ z) z ?_;grind[cI]
def zff(b W:Z)(e:Ending):Prop:=∃a c,e=aN (de #[aJ a,aO c])/\Qr b W a 216800000 350000
def SM(ds:Option Addr)(c:cy Xs)(bm:R)(n5 bq:Y)(g:c=[]\/∃ba b,ds=M (X ba b)/\Ur a (bX ba b (y c) bm) c)(bn:y c<=349525)(av:I aC a e)(hS:Steps a)(hP:Pow a)(hE:jO a)(T:td a):cR bN 7 #[am ds (y c) bm,ay n5,ay bq] e λaV W'=>zff a W' aV:=by
 have ao:=zO e 1099511627776 cz U;have ap:=Vj n5 bq;let⟨HS,HP,HE,O⟩:=jr hS hP hE T;have P:=ak av;clear hS hP hE T av;go_in
 go_wp21;go_call ao as aV W1⟨rfl,ad,aa⟩;have N:=ak ad;have v:=ak aa;clear ad aa ao;go_wp21;go_call ap W1 as aV i⟨⟨d,K,rfl,ho⟩,ax⟩;have w:=ak ax;have HO:=ak ho;clear ax ho ap;go_wp21;let⟨A,j⟩:∃A,dw (dw i<|aK #[aF,ay 0,aO bD,aF] 76) (aK #[aJ<|G (H e)+2,ee dE,ay d,ay K,aJ<|G<|H i] 41)=A:=⟨_,rfl⟩;have L:I aC W1 A:=by rw[<-j];exact w.t<|(cI aC i).aE _
 have aD:I aC a A:=(P.t<|I.p (S:=aC) v).t L;have bb:=P.D;have bc:=v.size;have bd:=w.D;have ac:S4 A (G (H i)+1) (G (H e)+2) (ee dE) d K (G<|H i):=by unfold S4;rw[<-j];exact aQ _ ar
 have ab:A.heap[G<|H i]?=M (aK #[aF,ay 0,aO bD,aF] 76 (0,0)):=by rw[<-j];grind[gw,aQ]
 have p:∀k,AX (G<|H i) aF aF k->k=G (H i):=λk q=>by obtain q|q|q:=q;exact q;cases q;cases q
 have V:XH a A (G (H i)+1) (G (H e)+2) (G<|H i) (ee dE) d K aF aF [] [] 0 bD 0:=⟨ac,Zv ab U,λq=>bP<|p _ q,U,ag HO,ar,aD,ag HS,ag HP,ag HE,ag O⟩;let⟨s,F⟩:∃s,G (H i)+1=s:=⟨_,rfl⟩;have D:=RI V ((ag N).aA L<|λ_ _=>id) (J z) z;rw[F]at D;rw[j,F];clear j L aD bb bc bd ac ab p V F N v w HS HP HE O;go_call D as aV W4⟨bf,rfl,W⟩;have Q:=ak W;clear W D;have t:∃ok:eN,(bf==0)=ok/\((ok=cz/\MJ a W4 s 31 1)\/(ok=bD/\Qr a W4 s 216800000 350000)):=by obtain⟨rfl,h⟩|⟨h0,h⟩:=ag Q;exact⟨cz,z,J ⟨z,h⟩⟩;exact⟨bD,dV h0,bj ⟨z,h.aT U U⟩⟩
 let⟨bp,bi,u⟩:=t;have aU:=ak u;clear u Q;go_wp21;go_loopw [10,11] (λok i wr=>∃n:R,n<=y c/\i=ay n/\((ok=aO cz/\MJ a wr s (31*n+31) (n+1))\/(ok=aO bD/\Qr a wr s 216800000 350000))) (λ_ i _=>y c-(intOf i).toNat)
 exact⟨0,bQ _,z,(ag aU).imp (λq=>⟨by rw[q.1],q.2⟩)<|λq=>⟨by rw[q.1],q.2⟩⟩;(.obtain⟨n,hn,rfl,⟨rfl,k⟩|⟨rfl,k⟩⟩:=hrel;rotate_left;(.have o:=ak k;clear k;by_cases r:n<y c;(.have e1:(n:Y)<(y c:Y):=U;go_wp2;(go_ret2);exact⟨s,_,z,o⟩);have e1:¬(n:Y)<(y c:Y):=U;go_wp2;(go_ret2);exact⟨s,_,z,o⟩);by_cases r:n<y c;(.obtain rfl|⟨ba,b,rfl,g⟩:=g;simp at r;have e1:(n:Y)<(y c:Y):=U;have o:=g.L _<|aB r;have C:ba<G (H a):=g.lt ba z;(have E:I aC a wr:=by let⟨j4,db,j3,hb,d,K,bv,pv,vs,bo,f,mb,bl,h⟩:=k;exact h.xh.aA);(have B:bA wr (X ba<|b+n*2)=M (ay c[n].kd)/\bA wr (X ba<|b+n*2+1)=M c[n].L/\y c<=bm:=by obtain⟨q1,⟨q2,q0⟩|⟨g',bk,bh,q2,an,m⟩⟩:=g.bV;cases q2;cases q2;exact⟨E.u (m _ _<|(yK c n r 0 U).trans z) id C,by rw[bJ];exact E.u (m _ _<|(yK c n r 1 U).trans z) id C,an⟩);let⟨c0,c1,an⟩:=B;let⟨lx,lc,hL⟩:=sX o.1;have al:=l7 k c[n].kd lx c[n].cs lc (by rw[<-hL];exact o.1) (λa b=>bP<|o.2.1 a b) (bP o.2.2) U U;rw[hL]at c1;generalize c[n].kd=kd at*;clear o hL k C E;go_wp21;go_call al as aV W5⟨tn,bg,rfl,l⟩;have x:=ak l;clear l al c0 c1;obtain⟨rfl,h5⟩|⟨h0,h5⟩:=ag x;(.have HG:=ak h5;clear h5 x;cases bg;(.go_wp2;go_roundw;exact⟨n+1,U,dM,J ⟨by first|rfl|simp,HG⟩⟩;simp[intOf];omega);go_wp2;go_roundw;exact⟨n+1,U,dM,bj ⟨by first|rfl|simp,(ag HG).xd.aT U U⟩⟩;simp[intOf];omega);have:(tn==0)=bD:=dV h0;clear x h0;go_wp2;go_roundw;exact⟨n+1,U,dM,bj ⟨by first|rfl|simp,h5.aT U U⟩⟩;simp[intOf];omega);have:n=y c:=U;have:¬(n:Y)<(y c:Y):=U;let⟨j4,db,j3,hb,d,K,bv,pv,vs,bo,f,mb,bl,k⟩:=k;have:=aX k.xh.g 1;have p:=Nb k;clear k g;go_wp21;go_call p as aV W5⟨ev,rfl,C,l⟩;(have x:Qr a W5 s 216800000 350000:=by obtain⟨_,X',an,bg,bh,cc,bk,h⟩|⟨_,F',h⟩:=l;have m:=h.cl;have hd:=SU m.f m.A m.n m.pF h.f.1 (bP h.f.2) m.Fi U;exact Qr.aT ⟨_,_,_,_,_,_,_,_,_,_,_,_,h.xh,⟨an,z,m.f,m.D,hd.aT (aq _) U,bP m.l⟩,h.da⟩ U U;exact Qr.aT ⟨_,_,_,_,_,_,_,_,_,_,_,_,h⟩ U U);let⟨tn,_,_,o⟩:=kL C (show jO W5 by let⟨db,hb,sv,d,K,bv,pv,vs,bo,f,mb,bl,h⟩:=x;exact h.xh.nV);have E:=o _<|I.bI aC _;clear l C o p;go_wp21;go_call E as aV W6⟨rfl,B⟩;have al:=ak (show Qr a W6 s 216800000 350000 by let⟨db,hb,sv,d,K,bv,pv,vs,bo,f,mb,bl,h⟩:=x;exact⟨_,_,_,_,_,_,_,_,_,_,_,_,h.bH<|I.p B⟩);clear B E x;go_wp2;(go_ret2);exact⟨s,_,z,al⟩)
section
variable{j5:Prop}{j4:cy af}{w0 W W':Z}{b db j3 a:R}{O:cy (R×Obj)}{C N n5 C' N':R}
theorem Z0(h:jY j5 j4 w0 W b db j3 a O C N n5)(c:af)(j:c.size<=140737488351232):cR bN 17 #[aJ j3,aw c] W λm W'=>∃x d v,m=aN (de #[aw x,aO d,v])/\ub W' v/\jY j5 j4 w0 W' b db j3 a O C N n5:=by
 let⟨n,k,e,F,o,p,l,g,h⟩:=h;go_call E4 c h.Cr h.nV h.D.1 j as m W'⟨x,d,v,rfl,i,f⟩;exact⟨x,d,v,z,i,h.A g f<|aq _⟩
theorem YU(h:jY j5 j4 w0 W b db j3 a O C N n5)(n:Y)(c:af)(j:c.size<=140737488351232):cR bN 88 #[aJ j3,ay n,aw c] W λm W'=>∃x d v,m=aN (de #[aw x,aO d,v])/\ub W' v/\jY j5 j4 w0 W' b db j3 a O C N n5:=by
 let⟨o,k,e,F,p,q,l,g,h⟩:=h;go_call UG n c h.Cr h.nV h.D.1 j as m W'⟨x,d,v,rfl,i,f⟩;exact⟨x,d,v,z,i,h.A g f<|aq _⟩
theorem J5(h:jY j5 j4 w0 W b db j3 a O C N n5)(i g:af)(c:Y):cR bN 59 #[aJ j3,aw i,aw g,ay c] W λs W'=>∃x k d,∃l:kV,s=aN (de #[am x (y l) k,d])/\uP W W' (am x (y l) k) l/\y l<=40000000000/\ub W' d/\jY j5 j4 w0 W' b db j3 a O C N n5:=by
 let⟨t,q,j,F,u,l,r,n,h⟩:=h;go_call XP i g c h.Cr h.nV h.D.1 as s W'⟨v,p,d,rfl,f,e,o,m⟩;obtain⟨x,k,rfl⟩:=aM f;exact⟨x,k,d,p,z,f,e,o,h.A n m<|aq _⟩
theorem VJ(h:jY j5 j4 w0 W b db j3 a O C N n5)(t:Y)(i g:af)(c:Y):cR bN 90 #[aJ j3,ay t,aw i,aw g,ay c] W λs W'=>∃x k d,∃l:kV,s=aN (de #[am x (y l) k,d])/\uP W W' (am x (y l) k) l/\y l<=40000000000/\ub W' d/\jY j5 j4 w0 W' b db j3 a O C N n5:=by
 let⟨u,q,j,F,v,l,r,n,h⟩:=h;go_call QY t i g c h.Cr h.nV h.D.1 as s W'⟨w,p,d,rfl,f,e,o,m⟩;obtain⟨x,k,rfl⟩:=aM f;exact⟨x,k,d,p,z,f,e,o,h.A n m<|aq _⟩
theorem He(h:jY j5 j4 w0 W b db j3 a O C N n5)(g f:af)(c:Y):cR bN 87 #[aJ j3,aw g,aw f,ay c] W λq W'=>∃x j,∃l:kV,q=aN (am x (y l) j)/\uP W W' (am x (y l) j) l/\y l<=40000000000/\jY j5 j4 w0 W' b db j3 a O C N n5:=by
 let⟨r,o,i,F,s,l,p,m,h⟩:=h;go_call Nt g f c h.Cr h.nV h.D.1 as q W'⟨v,n,rfl,e,d,k⟩;obtain⟨x,j,rfl⟩:=aM e;exact⟨x,j,n,z,e,d,h.A m k<|aq _⟩
theorem YT(h:jY j5 j4 w0 W b db j3 a O C N n5)(j i c d:af)(f:eN)(s:c.size<=140737488351232/\d.size<=140737488351232)(n:C+8<=3000000000)(o:N+1<=1000000000):cR bN 139 #[aJ j3,aw j,aw i,ef #[aw c,aw d,aO f]] W λA W'=>∃x m u,∃l:kV,A=aN (de #[am x (y l) m,ay u])/\uP W W' (am x (y l) m) l/\y l<=40000000000/\jY j5 j4 w0 W' b db j3 a O (C+8) (N+1) n5:=by
 let⟨B,v,k,F,D,l,w,r,h⟩:=h;go_call UF j i c d f h.Cr s n o h.nV h.D.1 h.D.2 (λk q=>(h.da.1 k q).2)as A W'⟨E,u,t,rfl,g,e,p⟩;obtain⟨x,m,rfl⟩:=aM g;exact⟨x,m,u,t,z,g,e,h.A r p U⟩
theorem Ss(h:jY j5 j4 w0 W b db j3 a O C N n5)(d:N+1<=1000000000):cR bN 44 #[aJ j3] W λk W'=>∃v,k=aN v/\ub W' v/\jY j5 j4 w0 W' b db j3 a O C (N+1) n5:=by
 let⟨l,i,c,F,m,n,j,f,h⟩:=h;go_call Ns h.Cr d h.nV h.D.1 h.D.2 as k W'⟨v,rfl,g,e⟩;exact⟨v,z,g,h.A f e U⟩
theorem OP(h:jY j5 j4 w0 W b db j3 a O C N n5)(k:N+1<=1000000000):cR bN 40 #[aJ j3] W λq W'=>∃p v,q=aN (de #[ay p,v])/\ub W' v/\∃f d c F g l e,y l.1<=n5/\y l.2<=N/\LG j5 j4 w0 W' b db j3 a f d c O F C (N+1) g l e:=by
 let⟨f,d,c,F,g,l,e,n,h⟩:=h;go_call KJ h.Cr k h.nV h.D.1 as q W'⟨p,v,rfl,o,m⟩;let⟨i,j⟩:=h.Aq m U;exact⟨p,v,z,o,f,d,c,i,g,l,e,n,h.cK,j⟩
theorem Sr(h:jY j5 j4 w0 W b db j3 a O C N n5)(n:Y):cR bN 42 #[aJ j3,ay n] W λj W'=>∃v,j=aN v/\ub W' v/\jY j5 j4 w0 W' b db j3 a O C N n5:=by
 let⟨k,g,c,F,l,m,i,e,h⟩:=h;go_call Nr n h.Cr h.nV h.D.1 as j W'⟨v,rfl,f,d⟩;exact⟨v,z,f,h.A e d<|aq _⟩
theorem YS(h:jY j5 j4 w0 W b db j3 a O C N n5):cR bN 33 #[aJ j3] W λm W'=>∃v c,m=aN (de #[v,c])/\ub W' c/\((c=ib/\∃d,P6 W W' d v/\y d=4)\/(v=aF/\∃t x,c=.iface t x))/\jY j5 j4 w0 W' b db j3 a O C N n5:=by
 let⟨n,k,e,F,o,p,l,g,h⟩:=h;go_call UE h.Cr h.nV h.D.1 as m W'⟨v,c,rfl,j,i,f⟩;exact⟨v,c,z,j,i,h.A g f<|aq _⟩
theorem YV(h:jY j5 j4 w0 W b db j3 a O C N n5):cR bN 21 #[aJ j3] W λj W'=>∃v,j=aN v/\ub W' v/\jY j5 j4 w0 W' b db j3 a O C N n5:=by
 let⟨k,g,c,F,l,m,i,e,h⟩:=h;go_call UH h.Cr as j W'⟨v,rfl,f,d⟩;exact⟨v,z,f,h.A e d<|aq _⟩
theorem Hc(h:jY j5 j4 w0 W b db j3 a O C N n5){cv:ae}{cs:vW}(c:eN)(i:∀V,I (λq=>q=j3) W V->FN V cv cs)(m:∀x∈cs,x.D.size<=140737488351232/\x.l.size<=140737488351232)(k:y cs<=1000000000)(e:C+8<=3000000000)(f:N+1<=1000000000):cR bN 15 #[aJ j3,cv,aO c] W λp W'=>∃v,p=aN v/\ub W' v/\jY j5 j4 w0 W' b db j3 a O (C+8) (N+1) n5:=by
 let⟨r,n,d,F,s,t,o,j,h⟩:=h;go_call Jk c h.Cr i m k e f h.nV h.D.1 h.D.2 as p W'⟨v,rfl,l,g⟩;exact⟨v,z,l,h.A j g U⟩
theorem V8(h:jY j5 j4 w0 W b db j3 a O C N n5)(n:n5<=1000000)(c:af)(i:c.size<=140737488351232):cR bN 84 #[aJ a,aw c] W λm l=>∃x f p,m=aN (de #[aw x,aO f,ay p])/\l=W:=by
 let⟨k,j,e,F,q,r,d,o,h⟩:=h;go_call RK k.1 c h.eK.eK U i as m W'⟨rfl,g⟩;cases d<;>exact⟨_,_,_,z,g⟩
theorem Yj(h:jY j5 j4 w0 W b db j3 a O C N n5)(n:Y)(c:af)(j:c.size<=140737488351232):cR bN 89 #[aJ a,ay n,aw c] W λp o=>∃x f n,p=aN (de #[aw x,aO f,ay n])/\o=W:=by
 let⟨l,k,e,F,m,r,d,q,h⟩:=h;refine(Lj l.1 m n c h.eK.eK h.eK.f (λx i=>bP<|h.eK.dL x i) j).mono ?_;rintro p W'⟨rfl,g⟩;cases d<;>exact⟨_,_,_,z,g⟩
theorem FC(h:jY j5 j4 w0 W b db j3 a O C N n5)(q:n5<=1000000)(e d:af)(c:Y):cR bN 85 #[aJ a,aw e,aw d,ay c] W λp g=>∃x j s,∃l:kV,p=aN (de #[am x (y l) j,ay s])/\qD g (G<|H W) (am x (y l) j) l/\y l<=1000000/\gC (G<|H W) W g:=by
 let⟨n,m,i,F,t,l,o,r,h⟩:=h;go_call Oe n.1 e d c h.eK.eK U as p W'⟨u,rfl,f,k⟩;obtain⟨x,j,rfl⟩:=aM f;have:=Am l.1 e d c;exact⟨x,j,_,_,z,f,aI,k⟩
theorem Vd(h:jY j5 j4 w0 W b db j3 a O C N n5)(n:Y)(e d:af)(c:Y):cR bN 91 #[aJ a,ay n,aw e,aw d,ay c] W λu k=>∃x o n,∃l:kV,u=aN (de #[am x (y l) o,ay n])/\qD k (G<|H W) (am x (y l) o) l/\y l<=1000000/\gC (G<|H W) W k:=by
 let⟨t,s,m,F,j,l,f,v,h⟩:=h;refine(IK t.1 j n e d c h.eK.eK h.eK.f<|λx r=>bP<|h.eK.dL x r).mono ?_;rintro u W'⟨w,rfl,i,p⟩;obtain⟨x,o,rfl⟩:=aM i;refine⟨x,o,_,_,z,i,?_,p⟩;cases f with
 |true=>simp
 |false=>
  cases q:MG j n with
  |none=>simp
  |some g=>
   have:=h.eK.dL g (FM q).1;have:=Am g.l e d c;simp;omega
theorem Yk(h:jY j5 j4 w0 W b db j3 a O C N n5):cR bN 45 #[aJ a] W λm f=>∃n,m=aN (ay n)/\T7 W f/\jY j5 j4 w0 f b db j3 a O C N n5:=by
 let⟨j,d,c,F,l,o,k,g,h⟩:=h;go_call Lk j.1 h.eK.eK as m W'⟨rfl,i,e⟩;exact⟨_,z,h.p (show I (λk=>k=a) W W' from gH e)<|λ_ q=>J q,_,d,c,F,l,_,cz,g,h.zbu e i<|J z⟩
theorem Cw(h:jY j5 j4 w0 W b db j3 a O C N n5)(u:n5<=1000000){v:ae}{c:vW}(m:Ce W v c)(f:∀t,cN v=M t->t<G (H W))(x:y c<=1000000000):cR bN 39 #[aJ a,v] W λs k=>∃B,s=aN (ay B)/\T7 W k/\jY j5 j4 w0 k b db j3 a O C N (n5+8)/\W.grownBy k (M a):=by
 let⟨o,j,e,F,r,n,d,w,h⟩:=h;go_call Lg o.1 h.eK.eK m f U as s W'⟨rfl,⟨p,l,i⟩,g⟩;refine⟨_,z,h.p (show I (λA=>A=a) W W' from gH g)<|λ_ q=>J q,⟨_,j,e,F,r,_,d,?_,h.zbu g l i⟩,g⟩;show y (if d=bD/\gS c=0 then WE n.1 c else n.1)<=_;split;rename_i q;have:=(rB q.2).1;have:=yJ n.1 c;omega;omega
theorem NJ{i:PB}{j e:ae}{P:fB}{l:cy ut}{u:LC}{r:eN}(h:LG j5 j4 w0 W b db j3 a i j e O P C N l u r)(d:y u.1<=n5)(S:n5<=1000000)(hN:y u.2+1<=N)(T:N<=1000000000):cR bN 41 #[aJ a] W λt L=>∃k aa,t=aN (de #[ay k,ay aa])/\T7 W L/\jY j5 j4 w0 L b db j3 a O C N n5:=by
 cases r with
 |true=>
  go_call Gz i.1 h.eK.eK as t W'⟨rfl,rfl⟩;exact⟨_,_,z,λ_ q=>q,i,j,e,P,l,u,cz,d,h⟩
 |false=>
  have:y l=y u.2:=by rw[<-h.eK.D];simp
  by_cases Q:4<=xJ l
  .go_call Li i.1 l h.eK.eK h.eK.f Q as t W'⟨rfl,rfl⟩;exact⟨_,_,z,λ_ q=>q,i,j,e,P,l,u,bD,d,h⟩
  .have w:cN i.2≠M a:=λq=>(h.eK.nY a q).1 z;go_call Lh i.1 l h.eK.eK h.eK.f U h.eK.aZ h.aA.D w h.eK.L as t W'⟨rfl,K,s,B,E,hh,D,p,c,V⟩;obtain⟨⟨v0,v,_⟩,_⟩:=h.eK.eK;have:=az v;have m:∀g,cN K=M g->g<G (H W)/\g≠a/\cN i.2≠M g:=λg n=>by
    rw[B]at n;exact⟨h.eK.eK.lt g n,(h.f g<|J n).2.2,λq=>(h.eK.nY g q).2.1 n⟩
   have o:∀k,cN s=M k->cN i.2=M k\/G (H W)<=k:=λk q=>by
    grind
   have A:mE W' K u.1:=p.bV E<|λk c=>⟨λq=>q.elim (m k c).2.1 (m k c).2.2,(m k c).1⟩;have F:=p.D;refine⟨_,_,z,h.p p<|λ_ q=>q,(i.1,s),j,e,P,l++[(⟨cz,K,u.1⟩:ut)],(u.1,(l++[(⟨cz,K,u.1⟩:ut)]).map ut.D),bD,d,h.RJ p ⟨⟨⟨K,hh,A,B⟩,h.eK.eK.ne,λg n=>au (h.eK.eK.lt g n) F⟩,⟨dQ D,?_,?_,by rw[ai];simp;omega⟩,D,c,z,?_,?_⟩ ?_ dW⟩
   .intro x f d;obtain q|q:=aP.1 f
    .have g:=h.eK.f.bZ x q d;exact⟨p.bV g.1<|λk c=>⟨λe=>e.elim (h.f k<|bj<|bj ⟨x,q,d,c⟩).2.2<|λe=>(h.eK.nY k e).2.2 x q d c,g.2 k c⟩,λk c=>au (g.2 k c) F⟩
    grind
   .intro x f;obtain q|q:=aP.1 f
    .exact h.eK.f.fR x q
    .rw[bY.1 q];let⟨x0,c0,e0⟩:=cG E;grind
   .intro x f;obtain q|q:=aP.1 f
    .exact h.eK.dL x q
    .rw[bY.1 q];exact aR d S
   .intro k c;obtain q|q:=o k c
    .refine⟨(h.eK.nY k q).1,(h.eK.nY k q).2.1,λx f d t=>?_⟩;obtain g|g:=aP.1 f
     .exact(h.eK.nY k q).2.2 x g d t
     grind
    .refine⟨U,λt=>bP<|h.eK.eK.lt k t,λx f d t=>?_⟩;obtain g|g:=aP.1 f
     .have:=(h.eK.f.bZ x g d).2 k t;omega
     grind
   .intro k c;obtain q|q|⟨x,f,d,q⟩:=c
    .exact J<|J q
    .exact(o k q).imp (λq=>bj<|J q) id
    .obtain g|g:=aP.1 f
     .exact J<|bj<|bj ⟨x,g,d,q⟩
     .rw[bY.1 g]at q;exact J<|J<|B▸q
theorem O4{c:cy ut}{n:Y}{x:ut}(h:MG c n=M x):∃j:R,n=(j:Y)+1/\j<y c:=by
 unfold MG at h;by_cases d:n<1;rw[fV d]at h;cases h;rw[fM d]at h;refine⟨(n-1).toNat,U,?_⟩;by_cases e:(n-1).toNat<y c;exact e;rw[mH U]at h;cases h
theorem Rx(h:jY j5 j4 w0 W b db j3 a O C N n5)(P:Y):cR bN 43 #[aJ a,ay P] W λx v=>∃l,x=aN (ay l)/\T7 W v/\jY j5 j4 w0 v b db j3 a O C N n5:=by
 let⟨o,n,j,Q,i,L,k,e,h⟩:=h;by_cases u:k=cz\/MG i P=dE;(.go_call IL o.1 i P h.eK.eK h.eK.f u as x W'⟨rfl,rfl⟩;exact⟨_,z,λ_ q=>q,o,n,j,Q,i,L,k,e,h⟩);let⟨A,B⟩:=not_or.1 u;obtain rfl:k=bD:=dV A;let⟨S,r⟩:=uV.1 B;obtain⟨w,rfl,E⟩:=O4 r;go_call GA o.1 i w S h.eK.eK h.eK.f r E h.eK.aZ h.eK.L as x W'⟨rfl,t,D,F⟩;have m:I (λl=>cN o.2=M l) W W':=I.eF D<|λ_ q=>J q;have g:∀c∈i.set w Db,c.f=cz->c∈i:=λc f e=>(jL f).elim id (λq=>by rw[q]at e;cases e);(have K:y i=y L.2:=by rw[<-h.eK.D];simp);refine⟨_,z,h.p m<|λ_ q=>bj q,o,n,j,Q,i.set w Db,(L.1,(i.set w Db).map ut.D),bD,e,h.RJ (m.aT<|λ_ q=>J<|bj q) ⟨h.eK.eK.aA m (λq=>(h.eK.nY a q).1 z)<|λs p q=>(h.eK.nY s q).2.1 p,⟨dQ t,λc f e=>?_,λc f=>?_,by rw[gz];exact h.eK.f.f⟩,t,F,z,λc f=>?_,λl d=>⟨(h.eK.nY l d).1,(h.eK.nY l d).2.1,λc f e=>(h.eK.nY l d).2.2 c (g c f e) e⟩⟩ (λl q=>J ?_) (by have:=h.cK;simp;omega)⟩;have s:=h.eK.f.bZ c (g c f e) e;exact⟨m.bV s.1<|λl d=>⟨λq=>(h.eK.nY l q).2.2 c (g c f e) e d,s.2 l d⟩,λl d=>au (s.2 l d) m.D⟩;obtain q|q:=jL f;exact h.eK.f.fR c q;rw[q];exact⟨dE,0,0,z⟩;obtain q|q:=jL f;exact h.eK.dL c q;rw[q];exact bQ _;obtain q|q|⟨c,f,e,q⟩:=q;exact J q;exact bj<|J q;exact bj<|bj ⟨c,g c f e,e,q⟩
end
theorem wN:(prog.info? 66).map (λi=>(i.zero,i.size,i.bytes))=M (M<|ef #[aw ⟨#[]⟩,aw ⟨#[]⟩,aO bD],3,40):=aH
theorem zab(k v:af)(d:eN)(w:Z):(binOp .neq 66 (ef #[aw k,aw v,aO d])<|ef #[aw k,aw v,aO d]).run bN w=.ok (aO bD) w:=by
 rw[run_neq_struct,show(10000:R)=9999+1 from rfl,run_equalIn_agg w 9999 _ _ _ (aH:prog.underlying 66=M (.struct<|prog.fieldsOf 66)) (aH:prog.stoodInHeld 66=bD)];simp only[Program.fieldsOf,underlying66];go_simp
theorem Ik(c:vW):y (gL c)=y c*3:=by
 induction c with
 |nil=>rfl
 |cons e c d=>
  unfold gL at*;rw[dR,ai,d,bK];simp only[oH,bK,eE];omega
theorem Cl{P:Program}(w:Z){g:Array Oper}{e:cy Oper}{p:Oper}{q:Act}{Q:Exit->Act->Z->Prop}(m:p.guard=dE)(S V:Operand)(t:TypeId)(A:p.op=.call {callee:=.builtin .append,args:=#[S,V],argTypes:=#[t,t]})(r:TypeId)(o:TypeInfo)(m9:ae)(D:P.underlying t=M (.slice r))(v:P.info? r=M o)(F:o.zero=M m9)(B:q.eval S=aF)(i:Addr)(n K:R)(c:iE)(E:q.eval V=am (M i) n K)(x:y c=n*o.size)(f:∀L T,c[L]?=M T->bA w (i.add L)=M T)(s:0<n)(k:n<=maxLen)(l:(n:Y)<=9223372036854775807)(j:n*o.bytes<=281474976710656)(h:∀d,n<=d->d<=maxLen->wpList P g Q e (q.put p.dst<|bX (G<|H w) 0 n d) (dw w.drew<|aK (c.toArray++Builtin.zeroCells m9.cells (d-n)) r)):wpList P g Q (p::e) q w:=by
 refine ly m λaa u=>?_;unfold Oper.wp execOp;simp only[A,resolve,invoke,builtin,jx,rH,kH,List.map_toArray,bO,gA,B,E,(run_append_nil w t p.type r o m9 D v F i n K c x f s l j)];exact u _ _<|h _ (grownCap_ge _ _ _ _)<|uT _ _ _ _ k
def Ih(c:vW)(m:R):Array ae:=(gL c).toArray++Builtin.zeroCells #[aw ⟨#[]⟩,aw ⟨#[]⟩,aO bD] m
theorem WH(d:vW)(m:R):∀u∈(Ih d m).toList,(∃s,u=aw s)\/∃f,u=aO f:=by
 intro u c;unfold Ih at c;rw[nF,aP]at c;obtain c|c:=c;unfold gL at c;obtain⟨g,_,e⟩:=pU.1<|dV c;simp only[oH,dy,lf,uR]at e;grind
 unfold Builtin.zeroCells at c;grind
theorem De(c:vW)(m j:R)(u:ae)(h:(gL c)[j]?=M u):(Ih c m)[j]?=M u:=by
 have d:j<y (gL c):=by grind
 unfold Ih;rw[pD<|dV d];simpa using h
section
variable{j5:Prop}{j4:cy af}{w0 W:Z}{a db j3 b:R}{O:cy (R×Obj)}{C N n5:R}
theorem Gd(h:jY j5 j4 w0 W a db j3 b O C N n5)(hM:n5<=1000000)(cl cm:Y)(cn co:af)(T c n an:R)(d:vW)(hn:n=y d)(bm:0<n)(cM:n<=an)(cB:n<=1000000000)(bh:T<G (H w0))(al:∀s ao,(gL d)[s]?=M ao->bA w0 (X T<|c+s)=M ao)(hz:∀dd∈d,dd.D.size<=140737488351232/\dd.l.size<=140737488351232)(hC:C+8<=3000000000)(hN:N+1<=1000000000):cR bN 13 #[aJ a,zb 1 cl cm cn co<|bX T c n an] W λbt w'=>∃dn,bt=aN (aO dn)/\jY j5 j4 w0 w' a db j3 b O (C+8) (N+1) (n5+8):=by
 let⟨i0,ca,ce,ch,cj⟩:=cZ wN;let⟨g,K⟩:∃g,G (H W)=g:=⟨_,rfl⟩;let⟨l,ad⟩:∃l,dw W (iN 1 cl cm cn co<|bX T c n an)=l:=⟨_,rfl⟩;have h1:jY j5 j4 w0 l a db j3 b ((g,iN 1 cl cm cn co<|bX T c n an)::O) C N n5:=by rw[<-ad];exact h.sN (cI _ W) U<|aQ _ K.symm
 have bo:j3<G (H W):=h.XZ;have av:=ak (show∀bv∈O,bv.1<g fromλbv hp=>bP<|az<|h.oD hp);have L:G (H l)=g+1:=by rw[<-ad,<-K];simp
 have cT:=h.aA.D;have j:∀j4,I aC w0 j4->∀s ao,(gL d)[s]?=M ao->bA j4 (X T<|c+s)=M ao:=λj4 hX s ao hj=>hX.u (al s ao hj) id bh;have hL:∀j4,I aC w0 j4->Ce j4 (bX T c n an) d:=λj4 hX=>⟨Ik d,bj ⟨T,c,an,by rw[hn],U,j j4 hX⟩⟩;have dc:=h.QE.1;let⟨bE,ax,cr,HL,AX,S⟩:=nT h1 ad al hL j K;have aa:y (gL d)=n*3:=by rw[Ik,hn]
 have k:=ak hn;have HZ:=ak hz;unfold zb;have c5:bA l (X g 5)=M (bX T c n an):=h1.eT.2.2.2.2.2;have bl:∀s ao,(gL d)[s]?=M ao->bA l (((X T c):Addr).add s)=M ao:=λs ao hj=>by rw[dS];exact j l h1.aA s ao hj
 let⟨bL,m,bx⟩:=eU bl L aa;clear h h1 j hL al hz hn bl aa K L;go_in
 unfold iN at ax
 go_wp2_with(first
  |(at_builtin;rw[ag ax];go_loud(refine Cl _ z (.tmp 40) (.tmp 42) 58 z 66 i0 (.agg #[.string ⟨#[]⟩,.string ⟨#[]⟩,.bool bD]) underlying58 ca ce z (X T c) n an (gL d) z (by rw[ch];exact bx) bL bm (by unfold maxLen;omega) U (by rw[cj];omega) ?_;intro i cx cp)))
 let⟨e,E⟩:∃e,G (H l)=e:=⟨_,rfl⟩;have L:=ag m;let⟨t,o⟩:∃t,(dw l<|aK (Ih d<|i-n) 66).drew=t:=⟨_,rfl⟩;have p:I aC l t:=o▸(cI aC l).df z;have B:t.heap[e]?=M (aK (Ih d<|i-n) 66 (0,0)):=o▸aQ (w:=l) _ E.symm;have h2:jY j5 j4 w0 t a db j3 b ((e,aK (Ih d<|i-n) 66 (0,0))::(g,iN 1 cl cm cn co<|bX T c n an)::O) C N n5:=bE.sN p U B;have aD:jY j5 j4 w0 t a db j3 b ((g,iN 1 cl cm cn co<|bX T c n an)::(e,aK (Ih d<|i-n) 66 (0,0))::O) C N n5:=h2.pM (λbv hp=>by grind);have A:=aD.bH<|cf aC t;have:=p.D;have ab:e<G (H t):=az B;have bf:Ce t.drew (bX e 0 n i) d:=⟨Ik d,bj ⟨e,0,i,by rw[ag k],by rwa[<-ag k],λs ao hj=>by rw[cL,ez,cE B];exact De d _ s ao hj⟩⟩
 have br:=λc=>Hc A (cv:=bX e 0 n i) (cs:=d) c (λV r=>J ⟨r.bV bf (λap hk=>by
  have f:e=ap:=iK hk;have:=bo;have:=ag S;exact⟨λbt=>by have:ap=j3:=bt;omega,f▸ab⟩),λap hk=>by
   have f:e=ap:=iK hk;rw[<-f];exact au ab r.D⟩) HZ (by rwa[<-ag k]) hC hN
 have bb:=And.intro A.jc.2.1 A.eT.2.1;let⟨v,cs⟩:Hid _/\Hid _:=⟨E,o⟩;have ck:=ag S;clear L;have V:(dw l<|aK ((gL d).toArray++Builtin.zeroCells #[aw ⟨#[]⟩,aw ⟨#[]⟩,aO bD] (i-n)) 66).drew=t:=o;rw[E,V];clear p h2 aD A bf c5 o V E B;try rw[ck]
 rename_i QQ KK aV;refine cX (λj4=>bA j4 (X a 1)=M (aJ j3)/\bA j4 (X g 1)=M (ay cl)) 10 aH ?_;refine dH 0 ?_;iterate 9 (refine fW bb ?_;simp only[ig,eh,fT,jZ])
 apply eS;refine aW 9 ?_;intro KC aU;go_simp;go_call br _ as bt W3⟨se,rfl,bg,h3⟩;have bc:=And.intro h3.jc.2.1 h3.eT.2.1;refine aU _ _ (λ_=>bc) ?_;try simp only[ig,eh,fT]
 refine aW 10 ?_;intro KL ba;go_simp;refine ba _ _ wW ?_;refine dG aH ?_ _;show KK _ _;apply aV;have y5:bA W3 (X g 5)=M (bX T c n an):=h3.eT.2.2.2.2.2;have bp:=ye d (bX T c n an) W3 (by rw[<-ag k];omega) (HL W3 h3.aA) (λap hk=>by cases hk;exact au bh h3.aA.D);clear bb bc br aU ba aV;go_wp21;go_call bp as bt W4⟨v4,rfl,F,D⟩;have h4:=h3.bH<|I.p D;have:=D.size;have:e<G (H W3):=az<|h3.oD<|iz _<|iU ..;have bn:=Cw h4 hM (dQ F) (λap hk=>(aS F ap hk).2) (by rw[<-ag k];omega);have Q:=ak<|ub.bH bg<|I.p D;let⟨dx,dk,cd⟩:=aM F;subst cd;have y2:bA W4 (X a 2)=M (aJ b):=h4.jc.2.2;clear F D bp y5 bg;go_wp21;go_call bn as bt W5⟨fn,rfl,bi,h5,bT⟩;let⟨wn,_,_,ac⟩:=kL (bi _<|ag Q) h5.nV;have bq:=ac _<|I.bI aC _;clear bn bT y2 bi Q ac;go_wp21;go_call bq as bt W6⟨rfl,bd⟩;have h6:=h5.bH<|I.p bd;have bs:W6.heap[e]?=M (aK (Ih d<|i-n) 66 (0,0)):=h6.oD (p:=(e,aK (Ih d<|i-n) 66 (0,0)))<|iz _<|iU ..;clear bd bq;go_wp21;go_loopw [10] (λc wr=>∃(u:R)(x:Array ae),u<=n/\c=ay u/\wr.heap[e]?=M (aK x 66 (0,0))/\(∀s,u*3<=s->x[s]?=(Ih d<|i-n)[s]?)/\I (λap=>ap=e) W6 wr) (λc _=>n-(intOf c).toNat)
 exact⟨0,_,bQ _,z,bs,λ_ _=>rfl,I.bI _ _⟩;obtain⟨u,x,hi,rfl,hx,f,r⟩:=hrel;by_cases cb:u<n;(·(have bk:u<y d:=by rwa[<-ag k]);let⟨q0,q1,q2⟩:=nk d u bk;have P:I aC w0 wr:=h6.aA.aj r<|λap bt=>bj (by have:ap=e:=bt;have:=ag v;have:=ag m;omega);have a0:=AX wr P _ _ q0;have a1:=AX wr P _ _ q1;have a2:=AX wr P _ _ q2;have b0:bA wr (X e<|u*3)=_:=(cE hx).trans<|(f _ U).trans<|De d (i-n) _ _ q0;have b1:bA wr (X e<|u*3+1)=_:=(cE hx).trans<|(f _ U).trans<|De d (i-n) _ _ q1;have b2:bA wr (X e<|u*3+2)=_:=(cE hx).trans<|(f _ U).trans<|De d (i-n) _ _ q2;have:bA wr (X g 5)=M (bX T c n an):=r.u (h6.eT.2.2.2.2.2:bA W6 (X g 5)=M (bX T c n an)) (gV (ag v) (ag m):g≠e) (az (h6.oD<|iU ..):g<G (H W6));(have:∀s,iH wr (X e s)=bD:=λs=>by simp[World.frozen?,hx]);rw[<-bJ]at a1 a2;have cc:=zab d[u].D d[u].l d[u].dP;generalize d[u]=cu at*;let⟨xk,xv,xd⟩:=cu;simp only at a0 a1 a2 b0 b1 b2 cc;have e1:(u:Y)<(n:Y):=U;have:(0:Y)<=(u:Y):=U;clear P q0 q1 q2;go_wp21;(go_quiet(fail));go_wp2;go_roundw;have hd:(wr.drewN nq).heap[e]?=M (aK x 66 (0,0)):=hx;refine⟨u+1,_,cb,dM,aY<|aY<|aY hd,λs hj=>?_,?_⟩;rw[kX U,kX U,kX U];exact f s U;exact(((r.aj (gO (λap=>ap=e) wr nq)<|λ_ q=>J q).aL _ _ _<|J z).aL _ _ _<|J z).aL _ _ _<|J z;simp[intOf];omega);have bk:u=n:=U;subst bk;have:¬((u:Y)<(u:Y)):=U;have P:=h6.D4 (O':=O) (gV (ag v)<|ag m) (iz _<|iU ..) bs (WH _ _) r<|λbv hp=>⟨iz _<|iz _ hp,Lw ((av:∀bv∈O,bv.1<g) bv hp) (ag v)<|ag m⟩;clear hx f r;go_wp21;go_call mI wn _ as bt W9⟨rfl,cc⟩;subst W9;go_wp2;go_ret;exact⟨_,z,P⟩
end
section
variable{j5:Prop}{j4:cy af}{w0 W:Z}{a db j3 b:R}{O:cy (R×Obj)}{C N n5:R}
theorem VO(h:jY j5 j4 w0 W a db j3 b O C N n5)(hM:n5<=1000000)(bb bc:Y)(av aV:af)(s c aU ax:R)(u v:af)(L:eN)(hn:0<aU)(bk:aU<=ax)(bi:aU<=1000000000000)(k:s<G (H w0))(r0:bA w0 (X s c)=M (aw u))(r1:bA w0 (X s<|c+1)=M (aw v))(r2:bA w0 (X s<|c+2)=M (aO L))(hz:u.size<=140737488351232/\v.size<=140737488351232)(hC:C+8<=3000000000)(hN:N+1<=1000000000):cR bN 86 #[aJ a,zb 4 bb bc av aV<|bX s c aU ax] W λaD w'=>∃bm,aD=aN (aO bm)/\jY j5 j4 w0 w' a db j3 b O (C+8) (N+1) (n5+8):=by
 let⟨l,E⟩:∃l,G (H W)=l:=⟨_,rfl⟩;have d:=(h.sN (cI _ W) U (aQ _ E.symm):jY j5 j4 w0 (dw W<|iN 4 bb bc av aV<|bX s c aU ax) a db j3 b ((l,iN 4 bb bc av aV<|bX s c aU ax)::O) C N n5).bH<|cf aC _;have j:=YT d av aV u v L hz hC hN;have p:∀j4,I aC w0 j4->bA j4 (X s c)=M (aw u)/\bA j4 (X s<|c+1)=M (aw v)/\bA j4 (X s<|c+2)=M (aO L):=λj4 d=>⟨d.u r0 id k,d.u r1 id k,d.u r2 id k⟩;have w:=And.intro d.jc.2.1 (And.intro d.eT.2.2.2.1 (And.intro d.eT.2.2.2.2.1 (And.intro d.eT.2.2.2.2.2 (p _ d.aA))));have:=h.QE.1;have:=h.QE.2;have an:∀m,I aC w0 m->cR bN 38 #[bX s c 1 ax] m λaD w'=>∃d,aD=aN d/\MS w' (G<|H m) d [⟨u,v,L⟩]/\gC (G<|H m) m w':=λm V=>by refine ye [⟨u,v,L⟩] _ m ar ⟨z,bj ⟨s,c,ax,z,aI,λbl bn hj=>?_⟩⟩ (λt D=>by cases D;exact au k V.D);let⟨q0,q1,q2⟩:=p m V;obtain _|_|_|bl:=bl;cases hj;exact q0;cases hj;exact q1;cases hj;exact q2;simp[gL,oH]at hj
 let⟨Q,AX⟩:Hid _/\Hid _:=⟨an,p⟩;have:(0:Y)<(aU:Y):=U;have:(1:Y)<=(ax:Y):=U;have:G (H W)=l:=E;unfold zb;unfold iN at j w;clear h d an p r0 r1 r2 k;go_in
 go_wp21;try rw[E]
 rename_i QQ KK g;refine cX (λj4=>bA j4 (X a 1)=M (aJ j3)/\bA j4 (X l 3)=M (aw av)/\bA j4 (X l 4)=M (aw aV)/\bA j4 (X l 5)=M (bX s c aU ax)/\bA j4 (X s c)=M (aw u)/\bA j4 (X s<|c+1)=M (aw v)/\bA j4 (X s<|c+2)=M (aO L)) 17 aH ?_;apply dH 0;iterate 12 (refine fW w ?_;simp only[ig,eh,fT,jZ])
 apply eS;refine aW 12 ?_;intro KC f;go_simp;go_call j as aD K⟨bf,bd,wn,m8,rfl,aa,hR,d⟩;have n:=d.bH<|cf aC K;have x:=And.intro d.jc.2.1 (And.intro d.eT.2.2.2.1 (And.intro d.eT.2.2.2.2.1 (And.intro d.eT.2.2.2.2.2 (ag AX _ d.aA))));have e:=ak n;apply f _ _<|λ_=>x;try simp only[ig,eh,fT]
 apply dH 13;iterate 4 (refine fW x ?_;simp only[ig,eh,fT,jZ])
 apply eS;refine aW 17 ?_;intro KL i;go_simp;apply i _ _ wW;refine dG aH ?_ _;show KK _ _;apply g;have T:=And.intro e.jc.2.2 (And.intro e.eT.2.2.2.1 e.eT.2.2.2.2.1);have:G (H W)<G (H K):=by have:=az<|d.oD<|iU ..;grind
 clear w x j d n f i g;go_wp21;rename_i KK g;refine cX (λj4=>bA j4 (X a 2)=M (aJ b)/\bA j4 (X l 3)=M (aw av)/\bA j4 (X l 4)=M (aw aV)) 13 aH ?_;apply dH 0;iterate 8 (refine fW T ?_;simp only[ig,eh,fT,jZ])
 apply eS;refine aW 8 ?_;intro KC f;go_simp;go_call(FC e hM av aV 0)as aD W3⟨bx,bg,gn,R3,rfl,ac,bh,B⟩;have n:=e.bH<|I.p B;have A:=And.intro n.jc.2.2 (And.intro n.eT.2.2.2.1 n.eT.2.2.2.2.1);have:=B.size;have:bA W3 (X l 5)=M (bX s c aU ax):=n.eT.2.2.2.2.2;apply f _ _<|λ_=>A;try simp only[ig,eh,fT]
 apply dH 9;iterate 4 (refine fW A ?_;simp only[ig,eh,fT,jZ])
 apply eS;refine aW 13 ?_;intro KL i;go_simp;apply i _ _ wW;refine dG aH ?_ _;show KK _ _;apply g;clear T A f i g;go_wp21;go_call(ag Q _ n.aA)as aD W4⟨v4,rfl,r,o⟩;have h4:=n.bH<|I.p o;have:=o.size;have:G (H K.drew)=G (H K):=rfl;have ap:=Cw h4 hM (dQ r) (λt D=>(aS r t D).2) ar;let⟨dx,dc,ba⟩:=aM r;subst ba;have:bA W4 (X a 2)=M (aJ b):=h4.jc.2.2;clear r Q;go_wp21;go_call ap as aD S⟨fn,rfl,_,h5,ab⟩;have t5:I (λt=>t=b) W4 S:=gH ab;have ad:mE S (am bf (y m8) bd) m8:=((((cf (λt=>t=b) K).t<|I.p (S:=aC) B).t<|I.p (S:=aC) o).aj t5 (λ_ q=>J q):I (λt=>t=b) K S).bV (dQ aa) (λt D=>by have V:=aS aa t D;simp at V;grind);have al:mE S (am bx (y R3) bg) R3:=((I.p (S:=λt=>t=b) o).aj t5 (λ_ q=>J q):I (λt=>t=b) W3 S).bV (qD.Ov ac) (λt D=>by have:=aS ac t D;grind);have F:=nh ad al U U;generalize decide (m8=R3)=bq at F;clear ad al t5 ab ap;go_wp21;go_call F as aD W6⟨rfl,kq,ao⟩;have P:=ak (h5.bH (W':=W6)<|ao▸gO _ _ _).Bh;clear F ao;cases bq;(.go_wp2;go_ret;exact⟨_,z,P⟩);go_wp21;go_call mI wn _ as aD V⟨rfl,bl⟩;subst V;go_wp2;go_ret;exact⟨_,z,P⟩
theorem RP(h:jY j5 j4 w0 W a db j3 b O C N n5)(t:n5<=1000000)(A B:Y)(S T:af)(g c n q:R)(e f:af)(l:eN)(K:A<0)(v:0<n)(k:n<=q)(i:n<=1000000000000)(j:g<G (H w0))(m:bA w0 (X g c)=M (aw e))(o:bA w0 (X g<|c+1)=M (aw f))(p:bA w0 (X g<|c+2)=M (aO l))(w:e.size<=140737488351232/\f.size<=140737488351232)(s:C+8<=3000000000)(u:N+1<=1000000000):cR bN 37 #[aJ a,zb 4 A B S T<|bX g c n q] W λD x=>∃E,D=aN (aO E)/\jY j5 j4 w0 x a db j3 b O (C+8) (N+1) (n5+8):=by
 have d:=VO (h.bH<|(I.bI aC W).aE<|iN 4 A B S T<|bX g c n q) t A B S T g c n q e f l v k i j m o p w s u;have:(0:Y)<(n:Y):=U;unfold zb at d|-;unfold iN at d;clear h m o p;go_in
 go_wp21;go_call d as D F⟨E,rfl,r⟩;clear d;go_wp2;go_ret;exact⟨_,z,r⟩
theorem uH(c A B:Y)(S T:af)(x:Option Addr)(n g:R)(P:Z->Prop)(j:c=2\/c=3\/c=4\/c=8\/c=9)(d:cR bN 37 #[aJ a,zb c A B S T<|am x n g] (dw W<|iN c A B S T<|am x n g) λf e=>∃r,f=aN (aO r)/\P e):cR bN 13 #[aJ a,zb c A B S T<|am x n g] W λf e=>∃r,f=aN (aO r)/\P e:=by
 unfold zb at d|-;unfold iN at d;obtain rfl|rfl|rfl|rfl|rfl:=j;(all_goals(go_in);go_wp21;go_call d as f k⟨r,rfl,i⟩;clear d;go_wp2;go_ret;exact⟨_,z,i⟩)
theorem UL(c A B:Y)(S T:af)(x:Option Addr)(n f:R)(d:c<1\/11<c):cR bN 13 #[aJ a,zb c A B S T<|am x n f] W λg e=>∃r,g=aN (aO r)/\I aC W e:=by
 have:¬c=1:=U;have:¬c=2:=U;have:¬c=3:=U;have:¬c=4:=U;have:¬c=5:=U;have:¬c=6:=U;have:¬c=7:=U;have:¬c=8:=U;have:¬c=9:=U;have:¬c=10:=U;have:¬c=11:=U;unfold zb;clear d;go_in
 go_wp2;go_ret;exact⟨_,z,cI _ W⟩
theorem UK(h:jY j5 j4 w0 W a db j3 b O C N n5)(A:n5<=1000000)(Q S:Y)(T V:af)(ac:Option Addr)(ab aa:R)(u:N+1<=1000000000):cR bN 13 #[aJ a,zb 7 Q S T V<|am ac ab aa] W λs P=>∃an,s=aN (aO an)/\jY j5 j4 w0 P a db j3 b O C (N+1) n5:=by
 have t:=h.bH<|(I.bI aC W).aE<|iN 7 Q S T V<|am ac ab aa;have d:=OP t u;have:bA W (X a 1)=M (aJ j3):=h.jc.2.1;have:=h.QE.1;unfold iN at d;unfold zb;clear h t;go_in
 go_wp21;go_call d as s r⟨D,se,rfl,i,F,p,k,ad,K,al,q,n,o,l⟩;have f:jY j5 j4 w0 r a db j3 b O C (N+1) n5:=⟨F,p,k,ad,K,al,q,n,l⟩;have:bA r (X a 2)=M (aJ b):=f.jc.2.2;have w:=NJ l n A U u;clear d l f o n;go_wp21;go_call w as s W3⟨E,gn,rfl,v,m⟩;let⟨L,_,_,c⟩:=kL (v _ i) m.nV;have j:=c _<|I.bI aC _;clear w v c i;go_wp21;go_call j as s W4⟨rfl,g⟩;have e:=ak<|m.bH<|I.p g;clear g j m;by_cases B:D=E;(.subst B;go_wp21;go_call mI L _ as s x⟨rfl,hw⟩;subst x;go_wp2;go_ret;exact⟨_,z,e⟩);go_wp2;go_ret;exact⟨_,z,e⟩
theorem KN(h:jY j5 j4 w0 W a db j3 b O C N n5)(A B:Y)(S T:af)(aa:Option Addr)(Q L:R):cR bN 13 #[aJ a,zb 10 A B S T<|am aa Q L] W λw w'=>∃ab,w=aN (aO ab)/\jY j5 j4 w0 w' a db j3 b O C N n5:=by
 let⟨s,q⟩:∃s,G (H W)=s:=⟨_,rfl⟩;have g:=(h.sN (cI _ W) U (aQ _ q.symm):jY j5 j4 w0 (dw W<|iN 10 A B S T<|am aa Q L) a db j3 b ((s,iN 10 A B S T<|am aa Q L)::O) C N n5).bH<|cf aC _;have f:=Sr g A;have l:=And.intro g.jc.2.1 g.eT.2.1;have:=h.QE.1;unfold zb;unfold iN at f l;clear h g;go_in
 go_wp21;try rw[q]
 rename_i F u d;refine cX (λj4=>bA j4 (X a 1)=M (aJ j3)/\bA j4 (X s 1)=M (ay A)) 7 aH ?_;apply dH 0;iterate 6 (refine fW l ?_;simp only[ig,eh,fT,jZ])
 apply eS;refine aW 6 ?_;intro D c;go_simp;go_call f as w v⟨se,rfl,p,g⟩;have i:=g.bH<|cf aC v;have m:=ak<|p.bH<|cf aC v;have k:=ak i;apply c _ _<|λ_=>(And.intro g.jc.2.1 g.eT.2.1);try simp only[ig,eh,fT]
 refine aW 7 ?_;intro E e;go_simp;apply e _ _ wW;refine dG aH ?_ _;show u _ _;apply d;have n:=And.intro k.jc.2.2 (k.eT.2.1);clear l f g i c e d p;go_wp21;rename_i F u d;refine cX (λj4=>bA j4 (X a 2)=M (aJ b)/\bA j4 (X s 1)=M (ay A)) 7 aH ?_;apply dH 0;iterate 6 (refine fW n ?_;simp only[ig,eh,fT,jZ])
 apply eS;refine aW 6 ?_;intro D c;go_simp;go_call(Rx k A)as w W3⟨gn,rfl,x,i⟩;apply c _ _<|λ_=>(And.intro i.jc.2.2 i.eT.2.1);try simp only[ig,eh,fT]
 refine aW 7 ?_;intro E e;go_simp;refine e _ _ wW ?_;refine dG aH ?_ _;show u _ _;apply d;let⟨V,_,_,j⟩:=kL (ag<|ak<|x _<|ag m) i.nV;have r:=j _<|I.bI aC _;clear n c e d j x m;go_wp21;go_call r as w W4⟨rfl,o⟩;have t:=ak (i.bH<|I.p o).Bh;clear o r i;go_wp21;go_call mI V _ as w K⟨rfl,P⟩;subst K;go_wp2;go_ret;exact⟨_,z,t⟩
theorem KO(h:jY j5 j4 w0 W a db j3 b O C N n5)(A B:Y)(S T:af)(E:Option Addr)(D x:R)(v:N+1<=1000000000):cR bN 13 #[aJ a,zb 11 A B S T<|am E D x] W λq w=>∃L,q=aN (aO L)/\jY j5 j4 w0 w a db j3 b O C (N+1) n5:=by
 have d:=Ss (h.bH<|(I.bI aC W).aE<|iN 11 A B S T<|am E D x) v;have:bA W (X a 1)=M (aJ j3):=h.jc.2.1;have:=h.QE.1;unfold iN at d;unfold zb;clear h;go_in
 go_wp21;go_call d as q F⟨P,rfl,i,l⟩;let⟨f,m,n,c⟩:=kL i l.nV;have j:=c _<|I.bI aC _;clear d c i m n;go_wp21;go_call j as q t⟨rfl,g⟩;have e:=l.bH<|I.p g;have:bA t (X a 2)=M (aJ b):=e.jc.2.2;let⟨p,Q⟩:=e.Q9;clear g j l;go_wp21;go_call mI f _ as q u⟨rfl,K⟩;subst u;by_cases r:f=0;(.subst r;cases p;(.go_wp2;go_ret;exact⟨_,z,e⟩);go_wp21;go_call mI 0 _ as q k⟨rfl,o⟩;subst k;go_wp2;go_ret;exact⟨_,z,e⟩);have:(f==0)=bD:=dV r;go_wp21;go_call mI f _ as q k⟨rfl,o⟩;subst k;by_cases s:f=6;(.subst s;go_wp2;go_ret;exact⟨_,z,e⟩);have:(f==6)=bD:=dV s;go_wp2;go_ret;exact⟨_,z,e⟩
theorem QZ(h:jY j5 j4 w0 W a db j3 b O C N n5)(A B:Y)(S T:af)(x:Option Addr)(u t:R):cR bN 13 #[aJ a,zb 5 A B S T<|am x u t] W λl s=>∃F,l=aN (aO F)/\jY j5 j4 w0 s a db j3 b O C N n5:=by
 have m:=h.bH<|(I.bI aC W).aE<|iN 5 A B S T<|am x u t;have d:=YV m;have:bA W (X a 1)=M (aJ j3):=h.jc.2.1;have:=h.QE.1;unfold iN at d;unfold zb;clear h m;go_in
 go_wp21;go_call d as l p⟨K,rfl,f,j⟩;have:bA p (X a 2)=M (aJ b):=j.jc.2.2;have o:=Yk j;clear d j;go_wp21;go_call o as l v⟨D,rfl,n,k⟩;let⟨r,_,_,c⟩:=kL (n _ f) k.nV;have g:=c _<|I.bI aC _;clear o n c f;go_wp21;go_call g as l w⟨rfl,e⟩;have i:=ak<|k.bH<|I.p e;clear e g k;go_wp21;go_call mI r _ as l q⟨rfl,E⟩;subst q;go_wp2;go_ret;exact⟨_,z,i⟩
end
section
variable{j5:Prop}{j4:cy af}{w0 W:Z}{a db j3 b:R}{O:cy (R×Obj)}{C N n5:R}
theorem Vm(h:jY j5 j4 w0 W a db j3 b O C N n5)(hM:n5<=1000000)(al ba:Y)(ao ap:af)(bh:Option Addr)(bg bb:R):cR bN 37 #[aJ a,zb 3 al ba ao ap<|am bh bg bb] W λaV w'=>∃bi,aV=aN (aO bi)/\jY j5 j4 w0 w' a db j3 b O C N n5:=by
 let⟨o,P⟩:∃o,G (H W)=o:=⟨_,rfl⟩;have h1:jY j5 j4 w0 (dw W<|iN 3 al ba ao ap<|am bh bg bb) a db j3 b ((o,iN 3 al ba ao ap<|am bh bg bb)::O) C N n5:=h.sN (cI _ W) U<|aQ _ P.symm;have v:=h1.bH<|cf aC _;have k:=J5 v ao ap al;have r:=And.intro v.jc.2.1 (And.intro v.eT.2.2.2.1 (And.intro v.eT.2.2.2.2.1 v.eT.2.1));have:=h.QE.1;unfold zb;unfold iN at k r;clear h h1 v;go_in
 go_wp21;try rw[P]
 rename_i QQ KK g;refine cX (λj4=>bA j4 (X a 1)=M (aJ j3)/\bA j4 (X o 3)=M (aw ao)/\bA j4 (X o 4)=M (aw ap)/\bA j4 (X o 1)=M (ay al)) 15 aH ?_;refine dH 0 ?_;iterate 10 (refine fW r ?_;simp only[ig,eh,fT,jZ])
 apply eS;refine aW 10 ?_;intro KC f;go_simp;go_call k as aV W2⟨ax,ad,se,m8,rfl,K,hR,F,d⟩;have h3:=d.bH<|cf aC W2;have s:=And.intro d.jc.2.1 (And.intro d.eT.2.2.2.1 (And.intro d.eT.2.2.2.2.1 d.eT.2.1));let⟨l,x,c⟩:=eU K (F.bH<|cf aC W2) h3;clear F;refine f _ _ (λ_=>s) ?_;try simp only[ig,eh,fT]
 refine dH 11 ?_;iterate 4 (refine fW s ?_;simp only[ig,eh,fT,jZ])
 apply eS;refine aW 15 ?_;intro KL i;go_simp;refine i _ _ wW ?_;refine dG aH ?_ _;show KK _ _;apply g;have T:=FC c hM ao ap al;have B:=And.intro c.jc.2.2 (And.intro c.eT.2.2.2.1 (And.intro c.eT.2.2.2.2.1 c.eT.2.1));clear r s k K d h3 f i g;go_wp21;rename_i QQ KK g;refine cX (λj4=>bA j4 (X a 2)=M (aJ b)/\bA j4 (X o 3)=M (aw ao)/\bA j4 (X o 4)=M (aw ap)/\bA j4 (X o 1)=M (ay al)) 15 aH ?_;refine dH 0 ?_;iterate 10 (refine fW B ?_;simp only[ig,eh,fT,jZ])
 apply eS;refine aW 10 ?_;intro KC f;go_simp;go_call T as aV W3⟨bx,bc,gn,R3,rfl,L,bd,D⟩;have t3:I aC W2.drew W3:=I.p D;have e:=c.bH t3;have t:=And.intro e.jc.2.2 (And.intro e.eT.2.2.2.1 (And.intro e.eT.2.2.2.2.1 e.eT.2.1));have aD:mE W3 (am ax (y m8) ad) m8:=t3.bV ((cf aC W2).bV (dQ l)<|λw m=>⟨id,(aS l w m).2⟩)<|λw m=>⟨id,(aS l w m).2⟩;have av:∀w,cN (am ax (y m8) ad)=M w->w<G (H W3):=λw m=>au (aS l w m).2 t3.D;have p:=ak<|ub.bH (ag x) t3;refine f _ _ (λ_=>t) ?_;try simp only[ig,eh,fT]
 refine dH 11 ?_;iterate 4 (refine fW t ?_;simp only[ig,eh,fT,jZ])
 apply eS;refine aW 15 ?_;intro KL i;go_simp;refine i _ _ wW ?_;refine dG aH ?_ _;show KK _ _;apply g;let⟨tn,_,_,q⟩:=kL (ag p) e.nV;have aa:=q _<|I.bI aC _;clear T B t f i g D t3 q x p;go_wp21;go_call aa as aV W4⟨rfl,E⟩;have n:I aC W3 W4:=I.p E;have an:=ak<|e.bH n;have Q:mE W4 (am ax (y m8) ad) m8:=n.bV aD<|λw m=>⟨id,av w m⟩;have S:mE W4 (am bx (y R3) bc) R3:=n.bV (qD.Ov L)<|λw m=>⟨id,(aS L w m).2⟩;have u:=nh Q S U U;generalize decide (m8=R3)=bq at u;clear E aa n Q S;go_wp21;go_call u as aV W5⟨rfl,kq,ab⟩;have V:I aC W4 W5:=ab▸gO _ _ _;have h5:=an.bH V;let⟨aU,ac,j⟩:=h5.g;have:bA W5 (X a 5)=M aU:=(cE j).trans z;have:bA W5 (X a 6)=M ac:=(cE j).trans z;have:∀i,iH W5 (X a i)=bD:=λi=>by simp[World.frozen?,j]
 have h6:=h5.X7 (out':=am ax (y m8) ad) (want':=am bx (y R3) bc) ⟨⟨_,_,_,z⟩,_,_,_,z⟩;have A:=ak h6.Bh;have:=az j;clear h5 h6 j V u ab;cases bq;(.go_wp2;go_ret;exact⟨_,z,A⟩);go_wp21;go_call mI tn _ as aV W7⟨rfl,bf⟩;subst W7;go_wp2;go_ret;exact⟨_,z,A⟩
theorem Oh(h:jY j5 j4 w0 W a db j3 b O C N n5)(aa ab:Y)(ad al:af)(bb:Option Addr)(ba aD:R):cR bN 37 #[aJ a,zb 9 aa ab ad al<|am bb ba aD] W λav w'=>∃bd,av=aN (aO bd)/\jY j5 j4 w0 w' a db j3 b O C N n5:=by
 let⟨k,L⟩:∃k,G (H W)=k:=⟨_,rfl⟩;have h1:jY j5 j4 w0 (dw W<|iN 9 aa ab ad al<|am bb ba aD) a db j3 b ((k,iN 9 aa ab ad al<|am bb ba aD)::O) C N n5:=h.sN (cI _ W) U<|aQ _ L.symm;have q:=h1.bH<|cf aC _;have j:=VJ q aa ad al ab;have r:=And.intro q.jc.2.1 (And.intro q.eT.2.1 (And.intro q.eT.2.2.2.1 (And.intro q.eT.2.2.2.2.1 q.eT.2.2.1)));have:=h.QE.1;unfold zb;unfold iN at j r;clear h h1 q;go_in
 go_wp21;try rw[L]
 rename_i QQ KK g;refine cX (λj4=>bA j4 (X a 1)=M (aJ j3)/\bA j4 (X k 1)=M (ay aa)/\bA j4 (X k 3)=M (aw ad)/\bA j4 (X k 4)=M (aw al)/\bA j4 (X k 2)=M (ay ab)) 17 aH ?_;refine dH 0 ?_;iterate 12 (refine fW r ?_;simp only[ig,eh,fT,jZ])
 apply eS;refine aW 12 ?_;intro KC f;go_simp;go_call j as av W2⟨ax,an,se,m8,rfl,F,hR,E,d⟩;have h3:=d.bH<|cf aC W2;have s:=And.intro d.jc.2.1 (And.intro d.eT.2.1 (And.intro d.eT.2.2.2.1 (And.intro d.eT.2.2.2.2.1 d.eT.2.2.1)));let⟨l,w,c⟩:=eU F (E.bH<|cf aC W2) h3;clear E;refine f _ _ (λ_=>s) ?_;try simp only[ig,eh,fT]
 refine dH 13 ?_;iterate 4 (refine fW s ?_;simp only[ig,eh,fT,jZ])
 apply eS;refine aW 17 ?_;intro KL i;go_simp;refine i _ _ wW ?_;refine dG aH ?_ _;show KK _ _;apply g;have S:=Vd c aa ad al ab;have A:=And.intro c.jc.2.2 (And.intro c.eT.2.1 (And.intro c.eT.2.2.2.1 (And.intro c.eT.2.2.2.2.1 (c.eT.2.2.1))));clear r s j F d h3 f i g;go_wp21;rename_i KK g;refine cX (λj4=>bA j4 (X a 2)=M (aJ b)/\bA j4 (X k 1)=M (ay aa)/\bA j4 (X k 3)=M (aw ad)/\bA j4 (X k 4)=M (aw al)/\bA j4 (X k 2)=M (ay ab)) 17 aH ?_;refine dH 0 ?_;iterate 12 (refine fW A ?_;simp only[ig,eh,fT,jZ])
 apply eS;refine aW 12 ?_;intro KC f;go_simp;go_call S as av W3⟨bx,bc,gn,R3,rfl,K,aU,B⟩;have t3:I aC W2.drew W3:=I.p B;have e:=c.bH t3;have t:=And.intro e.jc.2.2 (And.intro e.eT.2.1 (And.intro e.eT.2.2.2.1 (And.intro e.eT.2.2.2.2.1 e.eT.2.2.1)));have ap:mE W3 (am ax (y m8) an) m8:=t3.bV ((cf aC W2).bV (dQ l)<|λv m=>⟨id,(aS l v m).2⟩)<|λv m=>⟨id,(aS l v m).2⟩;have ao:∀v,cN (am ax (y m8) an)=M v->v<G (H W3):=λv m=>au (aS l v m).2 t3.D;have o:=ak<|ub.bH (ag w) t3;refine f _ _ (λ_=>t) ?_;try simp only[ig,eh,fT]
 refine dH 13 ?_;iterate 4 (refine fW t ?_;simp only[ig,eh,fT,jZ])
 apply eS;refine aW 17 ?_;intro KL i;go_simp;refine i _ _ wW ?_;refine dG aH ?_ _;show KK _ _;apply g;let⟨tn,_,_,p⟩:=kL (ag o) e.nV;have T:=p _<|I.bI aC _;clear S A t f i g B t3 p w o;go_wp21;go_call T as av W4⟨rfl,D⟩;have n:I aC W3 W4:=I.p D;have ac:=ak<|e.bH n;have P:mE W4 (am ax (y m8) an) m8:=n.bV ap<|λv m=>⟨id,ao v m⟩;have Q:mE W4 (am bx (y R3) bc) R3:=n.bV (qD.Ov K)<|λv m=>⟨id,(aS K v m).2⟩;have u:=nh P Q U U;generalize decide (m8=R3)=bq at u;clear D T n P Q;go_wp21;go_call u as av W5⟨rfl,kq,V⟩;have x:=ak (ac.bH (W':=W5)<|V▸gO _ _ _).Bh;clear u V;cases bq;(.go_wp2;go_ret;exact⟨_,z,x⟩);go_wp21;go_call mI tn _ as av W7⟨rfl,aV⟩;subst W7;go_wp2;go_ret;exact⟨_,z,x⟩
end
section
variable{j5:Prop}{j4:cy af}{w0 W:Z}{a db j3 b:R}{O:cy (R×Obj)}{C N n5:R}
theorem yY(h:jY j5 j4 w0 W a db j3 b O C N n5)(hM:n5<=1000000)(bf bg:Y)(bh bi:af)(n:Addr)(ap:R)(hC:C+8<=3000000000)(hN:N+1<=1000000000):cR bN 13 #[aJ a,zb 1 bf bg bh bi<|am (M n) 0 ap] W λaa w'=>∃bl,aa=aN (aO bl)/\jY j5 j4 w0 w' a db j3 b O (C+8) (N+1) (n5+8):=by
 let⟨i0,aD,aV,ba,bb⟩:=cZ wN;let⟨q,i⟩:∃q,G (H W)=q:=⟨_,rfl⟩;let⟨l,o⟩:∃l,dw W (iN 1 bf bg bh bi<|am (M n) 0 ap)=l:=⟨_,rfl⟩;have h1:jY j5 j4 w0 l a db j3 b ((q,iN 1 bf bg bh bi<|am (M n) 0 ap)::O) C N n5:=by rw[<-o];exact h.sN (cI _ W) U<|aQ _ i.symm
 have L:G (H l)=q+1:=by rw[<-o,<-i];simp
 have:=h.QE.1;let⟨ab,s,k,al,r⟩:=nZ h1 o i L h.XZ;unfold zb;have c5:bA l (X q 5)=M (am (M n) 0 ap):=h1.eT.2.2.2.2.2;clear h h1 i L;go_in
 unfold iN at s
 go_wp2_with(first
  |(at_builtin;rw[ag s];go_loud(refine cq _ z (.tmp 40) (.tmp 42) 58 z (G (H l)) 66 i0 (.agg #[.string ⟨#[]⟩,.string ⟨#[]⟩,.bool bD]) 3 40 underlying58 aD aV ba bb z cg aF 0 [] z (ct _ _ _ _) n 0 ap [] z z ar ar U U (aq _) ?_;intro v2 t c S;obtain⟨ax,ao,rfl⟩:=aM c;have ad:=ak c;have an:=ak S;clear c S)))
 have d:I aC l t:=I.eF an.dF (λV e=>by cases e);have c:fD t (G<|H l) 66 3 (am ax 0 ao) 0 []:=ag ad;have f:=(ab.bH d).bH<|cf aC t;have:=d.D;have D:Ce t.drew (am ax 0 ao) []:=(cf aC t).bV (dQ c)<|λV e=>⟨id,(aS c V e).2⟩;have T:=λd=>Hc f (cv:=(am ax 0 ao)) (cs:=[]) d (λi g=>J ⟨g.bV D<|λV e=>⟨λaa=>by have:V=j3:=aa;have:=(aS c V e).1;have:=ag r;have:=ag k;have:=ag al;omega,(aS c V e).2⟩,λV e=>au (aS c V e).2 g.D⟩) ar ar hC hN;have x:=And.intro f.jc.2.1 f.eT.2.1;have bc:=ag k;clear d c f D c5;try rw[bc]
 rename_i QQ KK v;refine cX (λj4=>bA j4 (X a 1)=M (aJ j3)/\bA j4 (X q 1)=M (ay bf)) 10 aH ?_;refine dH 0 ?_;iterate 9 (refine fW x ?_;simp only[ig,eh,fT,jZ])
 apply eS;refine aW 9 ?_;intro KC u;go_simp;go_call T _ as aa W3⟨se,rfl,E,h3⟩;have A:=And.intro h3.jc.2.1 h3.eT.2.1;refine u _ _ (λ_=>A) ?_;try simp only[ig,eh,fT]
 refine aW 10 ?_;intro KL w;go_simp;refine w _ _ wW ?_;refine dG aH ?_ _;show KK _ _;apply v;have y5:bA W3 (X q 5)=M (am (M n) 0 ap):=h3.eT.2.2.2.2.2;have P:=Ez (M n) ap W3;clear x A T u w v;go_wp21;go_call P as aa W4⟨v4,rfl,g,p⟩;have h4:=h3.bH<|I.p p;have K:=Cw h4 hM (dQ g) (λV e=>(aS g V e).2) ar;have j:=ak<|ub.bH E<|I.p p;let⟨dx,dc,aU⟩:=aM g;subst aU;have y2:bA W4 (X a 2)=M (aJ b):=h4.jc.2.2;clear g p P y5 E;go_wp21;go_call K as aa W5⟨fn,rfl,F,h5,av⟩;let⟨wn,_,_,m⟩:=kL (F _<|ag j) h5.nV;have Q:=m _<|I.bI aC _;clear K av y2 F j m;go_wp21;go_call Q as aa W6⟨rfl,B⟩;have ac:=ak<|h5.bH<|I.p B;clear B Q;go_wp21;go_loopw [10] (λc wr=>c=ay 0/\wr=W6) (λ_ _=>0)
 grind
 obtain⟨rfl,bd⟩:=hrel;subst wr;go_wp21;go_call mI wn _ as aa W9⟨rfl,bk⟩;subst W9;go_wp2;go_ret;exact⟨_,z,ac.Bh⟩
theorem Ge(h:jY j5 j4 w0 W a db j3 b O C N n5)(hM:n5<=1000000)(av ax:Y)(aD aU:af)(hC:C+8<=3000000000)(hN:N+1<=1000000000):cR bN 13 #[aJ a,zb 1 av ax aD aU aF] W λaa w'=>∃bf,aa=aN (aO bf)/\jY j5 j4 w0 w' a db j3 b O (C+8) (N+1) (n5+8):=by
 let⟨i0,aV,bb,bc,bd⟩:=cZ wN;let⟨q,i⟩:∃q,G (H W)=q:=⟨_,rfl⟩;let⟨l,o⟩:∃l,dw W (iN 1 av ax aD aU aF)=l:=⟨_,rfl⟩;have h1:jY j5 j4 w0 l a db j3 b ((q,iN 1 av ax aD aU aF)::O) C N n5:=by rw[<-o];exact h.sN (cI _ W) U<|aQ _ i.symm
 have L:G (H l)=q+1:=by rw[<-o,<-i];simp
 have:=h.QE.1;let⟨ab,s,k,ad,r⟩:=nZ h1 o i L h.XZ;unfold zb;have c5:bA l (X q 5)=M aF:=h1.eT.2.2.2.2.2;clear h h1 i L;go_in
 unfold iN at s;go_wp21;rw[ag s];let⟨n,A⟩:∃n,l=n:=⟨_,rfl⟩;have d:I aC l n:=A▸I.bI _ _;have c:fD n (G<|H l) 66 3 aF 0 []:=ct _ _ _ _;rw[A];have f:=(ab.bH d).bH<|cf aC n;have:=d.D;have D:Ce n.drew aF []:=(cf aC n).bV (dQ c)<|λT e=>⟨id,(aS c T e).2⟩;have S:=λd=>Hc f (cv:=aF) (cs:=[]) d (λV g=>J ⟨g.bV D<|λT e=>⟨λaa=>by have:T=j3:=aa;have:=(aS c T e).1;have:=ag r;have:=ag k;have:=ag ad;omega,(aS c T e).2⟩,λT e=>au (aS c T e).2 g.D⟩) ar ar hC hN;have w:=And.intro f.jc.2.1 f.eT.2.1;have ao:=ag k;clear d c f D c5;try rw[ao]
 rename_i QQ KK u;refine cX (λj4=>bA j4 (X a 1)=M (aJ j3)/\bA j4 (X q 1)=M (ay av)) 10 aH ?_;refine dH 0 ?_;iterate 9 (refine fW w ?_;simp only[ig,eh,fT,jZ])
 apply eS;refine aW 9 ?_;intro KC t;go_simp;go_call S _ as aa W3⟨se,rfl,E,V⟩;have x:=And.intro V.jc.2.1 V.eT.2.1;refine t _ _ (λ_=>x) ?_;try simp only[ig,eh,fT]
 refine aW 10 ?_;intro KL v;go_simp;refine v _ _ wW ?_;refine dG aH ?_ _;show KK _ _;apply u;have y5:bA W3 (X q 5)=M aF:=V.eT.2.2.2.2.2;have P:=ye [] aF W3 ar ⟨z,J ⟨z,z⟩⟩ (λT e=>by cases e);clear w x S t v u;go_wp21;go_call P as aa W4⟨v4,rfl,g,p⟩;have h4:=V.bH<|I.p p;have K:=Cw h4 hM (dQ g) (λT e=>(aS g T e).2) ar;have j:=ak<|ub.bH E<|I.p p;let⟨dx,dc,an⟩:=aM g;subst an;have y2:bA W4 (X a 2)=M (aJ b):=h4.jc.2.2;clear g p P y5 E;go_wp21;go_call K as aa W5⟨fn,rfl,F,h5,al⟩;let⟨wn,_,_,m⟩:=kL (F _<|ag j) h5.nV;have Q:=m _<|I.bI aC _;clear K al y2 F j m;go_wp21;go_call Q as aa W6⟨rfl,B⟩;have ac:=ak<|h5.bH<|I.p B;clear B Q;go_wp21;go_loopw [10] (λc wr=>c=ay 0/\wr=W6) (λ_ _=>0)
 grind
 obtain⟨rfl,ap⟩:=hrel;subst wr;go_wp21;go_call mI wn _ as aa W9⟨rfl,ba⟩;subst W9;go_wp2;go_ret;exact⟨_,z,ac.Bh⟩
end
section
variable{j5:Prop}{j4:cy af}{w0 W:Z}{a db j3 b:R}{O:cy (R×Obj)}{C N n5:R}
theorem DJ(h:jY j5 j4 w0 W a db j3 b O C N n5)(hM:n5<=1000000)(A P:Y)(S T:af)(al:Option Addr)(ad aa:R)(e2:¬A<=0):cR bN 37 #[aJ a,zb 4 A P S T<|am al ad aa] W λL w'=>∃an,L=aN (aO an)/\jY j5 j4 w0 w' a db j3 b O C N n5:=by
 let⟨j,s⟩:∃j,G (H W)=j:=⟨_,rfl⟩;have K:jY j5 j4 w0 (dw W<|iN 4 A P S T<|am al ad aa) a db j3 b ((j,iN 4 A P S T<|am al ad aa)::O) C N n5:=h.sN (cI _ W) U<|aQ _ s.symm;have d:=K.bH<|cf aC _;have i:=He d S T A;have m:=And.intro d.jc.2.1 (And.intro d.eT.2.2.2.1 (And.intro d.eT.2.2.2.2.1 d.eT.2.1));have:=h.QE.1;unfold zb;unfold iN at i m;clear h K d;have:¬A<0:=U;go_in
 go_wp21;try rw[s]
 rename_i QQ w f;refine cX (λj4=>bA j4 (X a 1)=M (aJ j3)/\bA j4 (X j 3)=M (aw S)/\bA j4 (X j 4)=M (aw T)/\bA j4 (X j 1)=M (ay A)) 11 aH ?_;refine dH 0 ?_;iterate 10 (refine fW m ?_;simp only[ig,eh,fT,jZ])
 apply eS;refine aW 10 ?_;intro Q e;go_simp;go_call i as L x⟨ax,ac,m8,rfl,o,hR,d⟩;have k:=d.bH<|cf aC x;have p:=And.intro d.jc.2.1 (And.intro d.eT.2.2.2.1 (And.intro d.eT.2.2.2.2.1 d.eT.2.1));have c:=ak k;refine e _ _ (λ_=>p) ?_;try simp only[ig,eh,fT]
 refine aW 11 ?_;intro V g;go_simp;refine g _ _ wW ?_;refine dG aH ?_ _;show w _ _;apply f;have t:=FC c hM S T A;have q:=And.intro c.jc.2.2 (And.intro c.eT.2.2.2.1 (And.intro c.eT.2.2.2.2.1 c.eT.2.1));clear m p i d k e g f;go_wp21;rename_i QQ w f;refine cX (λj4=>bA j4 (X a 2)=M (aJ b)/\bA j4 (X j 3)=M (aw S)/\bA j4 (X j 4)=M (aw T)/\bA j4 (X j 1)=M (ay A)) 15 aH ?_;refine dH 0 ?_;iterate 10 (refine fW q ?_;simp only[ig,eh,fT,jZ])
 apply eS;refine aW 10 ?_;intro Q e;go_simp;go_call t as L B⟨bx,bc,gn,R3,rfl,E,ab,r⟩;have F:I aC x.drew B:=I.p r;have k:=c.bH F;have n:=And.intro k.jc.2.2 (And.intro k.eT.2.2.2.1 (And.intro k.eT.2.2.2.2.1 k.eT.2.1));have D:mE B (am ax (y m8) ac) m8:=F.bV ((cf aC x).bV (dQ o)<|λk c=>⟨id,(aS o k c).2⟩)<|λk c=>⟨id,(aS o k c).2⟩;have:bA B (X j 1)=M (ay A):=k.eT.2.1;refine e _ _ (λ_=>n) ?_;try simp only[ig,eh,fT]
 refine dH 11 ?_;iterate 4 (refine fW n ?_;simp only[ig,eh,fT,jZ])
 apply eS;refine aW 15 ?_;intro V g;go_simp;refine g _ _ wW ?_;refine dG aH ?_ _;show w _ _;apply f;have l:=nh D (qD.Ov E) U U;clear t q n e g f r F;go_wp21;go_call l as L W5⟨rfl,kq,u⟩;have v:=ak (k.bH (W':=W5)<|u▸gO _ _ _).Bh;clear l u;go_wp2;go_ret;exact⟨_,z,v⟩
theorem Fm(h:jY j5 j4 w0 W a db j3 b O C N n5)(hM:n5<=1000000)(A V:Y)(S T:af)(al:Option Addr)(Q aa:R)(e2:A<=0)(L:A<0->Q=0):cR bN 37 #[aJ a,zb 4 A V S T<|am al Q aa] W λP w'=>∃an,P=aN (aO an)/\jY j5 j4 w0 w' a db j3 b O C N n5:=by
 let⟨j,t⟩:∃j,G (H W)=j:=⟨_,rfl⟩;have K:jY j5 j4 w0 (dw W<|iN 4 A V S T<|am al Q aa) a db j3 b ((j,iN 4 A V S T<|am al Q aa)::O) C N n5:=h.sN (cI _ W) U<|aQ _ t.symm;have d:=K.bH<|cf aC _;have i:=He d S T A;have n:=And.intro d.jc.2.1 (And.intro d.eT.2.2.2.1 (And.intro d.eT.2.2.2.2.1 d.eT.2.1));have:=h.QE.1;unfold zb;unfold iN at i n;clear h K d;by_cases e1:A<0;case' pos=>obtain rfl:=L e1
 (all_goals clear L;(go_in);go_wp21;(try rw[t]);rename_i QQ B f;refine cX (λj4=>bA j4 (X a 1)=M (aJ j3)/\bA j4 (X j 3)=M (aw S)/\bA j4 (X j 4)=M (aw T)/\bA j4 (X j 1)=M (ay A)) 11 aH ?_;refine dH 0 ?_;(iterate 10 (refine fW n ?_;simp only[ig,eh,fT,jZ]));apply eS;refine aW 10 ?_;intro KC e;go_simp;go_call i as P D⟨ax,ac,m8,rfl,p,hR,d⟩;have k:=d.bH<|cf aC D;have q:=And.intro d.jc.2.1 (And.intro d.eT.2.2.2.1 (And.intro d.eT.2.2.2.2.1 d.eT.2.1));have c:=ak k;refine e _ _ (λ_=>q) ?_;(try simp only[ig,eh,fT]);refine aW 11 ?_;intro KL g;go_simp;refine g _ _ wW ?_;refine dG aH ?_ _;show B _ _;apply f;have u:=FC c hM S T A;have r:=And.intro c.jc.2.2 (And.intro c.eT.2.2.2.1 (And.intro c.eT.2.2.2.2.1 c.eT.2.1));clear n q i d k e g f;go_wp21;rename_i QQ B f;refine cX (λj4=>bA j4 (X a 2)=M (aJ b)/\bA j4 (X j 3)=M (aw S)/\bA j4 (X j 4)=M (aw T)/\bA j4 (X j 1)=M (ay A)) 15 aH ?_;refine dH 0 ?_;(iterate 10 (refine fW r ?_;simp only[ig,eh,fT,jZ]));apply eS;refine aW 10 ?_;intro KC e;go_simp;go_call u as P w⟨bx,bc,gn,R3,rfl,ad,ab,s⟩;have F:I aC D.drew w:=I.p s;have k:=c.bH F;have o:=And.intro k.jc.2.2 (And.intro k.eT.2.2.2.1 (And.intro k.eT.2.2.2.2.1 k.eT.2.1));have E:mE w (am ax (y m8) ac) m8:=F.bV ((cf aC D).bV (dQ p)<|λk c=>⟨id,(aS p k c).2⟩)<|λk c=>⟨id,(aS p k c).2⟩;have:bA w (X j 1)=M (ay A):=k.eT.2.1;refine e _ _ (λ_=>o) ?_;(try simp only[ig,eh,fT]);refine dH 11 ?_;(iterate 4 (refine fW o ?_;simp only[ig,eh,fT,jZ]));apply eS;refine aW 15 ?_;intro KL g;go_simp;refine g _ _ wW ?_;refine dG aH ?_ _;show B _ _;apply f;have l:=nh (m:=([]:kV)) E (show mE w aF []from⟨z,J ⟨z,z⟩⟩) U ar;clear u r o e g f s F;go_wp21;go_call l as P W5⟨rfl,kq,v⟩;have x:=ak (k.bH (W':=W5)<|v▸gO _ _ _).Bh;clear l v;go_wp2;go_ret;exact⟨_,z,x⟩)
theorem Ll(h:jY j5 j4 w0 W a db j3 b O C N n5)(d:n5<=1000000)(A B:Y)(S T:af)(x:Option Addr)(n e:R)(f:A<0->n=0):cR bN 37 #[aJ a,zb 4 A B S T<|am x n e] W λi g=>∃r,i=aN (aO r)/\jY j5 j4 w0 g a db j3 b O C N n5:=by
 by_cases c:A<=0;exact Fm h d A B S T x n e c f;exact DJ h d A B S T x n e c
end
section
variable{j5:Prop}{j4:cy af}{w0 W:Z}{a db j3 b:R}{O:cy (R×Obj)}{C N n5:R}
theorem RQ(h:jY j5 j4 w0 W a db j3 b O C N n5)(A T:Y)(S aa:af)(an:Option Addr)(al ab:R)(L:S.size<=140737488351232):cR bN 37 #[aJ a,zb 8 A T S aa<|am an al ab] W λx w'=>∃ao,x=aN (aO ao)/\jY j5 j4 w0 w' a db j3 b O C N n5:=by
 let⟨o,s⟩:∃o,G (H W)=o:=⟨_,rfl⟩;have E:jY j5 j4 w0 (dw W<|iN 8 A T S aa<|am an al ab) a db j3 b ((o,iN 8 A T S aa<|am an al ab)::O) C N n5:=h.sN (cI _ W) U<|aQ _ s.symm;have c:=E.bH<|cf aC _;have g:=YU c A S L;have m:=And.intro c.jc.2.1 (And.intro c.eT.2.1 c.eT.2.2.2.1);have:=h.QE.1;unfold zb;unfold iN at g m;clear h E c;go_in
 go_wp21;try rw[s]
 rename_i QQ v e;refine cX (λj4=>bA j4 (X a 1)=M (aJ j3)/\bA j4 (X o 1)=M (ay A)/\bA j4 (X o 3)=M (aw S)) 15 aH ?_;refine dH 0 ?_;iterate 8 (refine fW m ?_;simp only[ig,eh,fT,jZ])
 apply eS;refine aW 8 ?_;intro V d;go_simp;go_call g as x w⟨P,Q,se,rfl,r,c⟩;have l:=c.bH<|cf aC w;have p:=ak<|r.bH<|cf aC w;clear r;have n:=And.intro c.jc.2.1 (And.intro c.eT.2.1 c.eT.2.2.2.1);refine d _ _ (λ_=>n) ?_;try simp only[ig,eh,fT]
 refine dH 9 ?_;iterate 6 (refine fW n ?_;simp only[ig,eh,fT,jZ])
 apply eS;refine aW 15 ?_;intro KL f;go_simp;refine f _ _ wW ?_;refine dG aH ?_ _;show v _ _;apply e;have t:=Yj l A S L;have i:=And.intro l.jc.2.2 (And.intro l.eT.2.1 (l.eT.2.2.2.1));clear m n g c d f e;go_wp21;rename_i QQ v e;refine cX (λj4=>bA j4 (X a 2)=M (aJ b)/\bA j4 (X o 1)=M (ay A)/\bA j4 (X o 3)=M (aw S)) 15 aH ?_;refine dH 0 ?_;iterate 8 (refine fW i ?_;simp only[ig,eh,fT,jZ])
 apply eS;refine aW 8 ?_;intro V d;go_simp;go_call t as x W3⟨D,B,gn,rfl,ac⟩;subst W3;refine d _ _ (λ_=>i) ?_;try simp only[ig,eh,fT]
 refine dH 9 ?_;iterate 6 (refine fW i ?_;simp only[ig,eh,fT,jZ])
 apply eS;refine aW 15 ?_;intro KL f;go_simp;refine f _ _ wW ?_;refine dG aH ?_ _;show v _ _;apply e;let⟨tn,_,_,j⟩:=kL (ag p) l.nV;have u:=j _<|I.bI aC _;clear t i d f e j p;go_wp21;go_call u as x W4⟨rfl,q⟩;have k:=ak (l.bH<|I.p q).Bh;clear q u l;by_cases F:P=D;(.subst F;by_cases K:Q=B;(.subst K;go_wp21;go_call mI tn _ as x W5⟨rfl,ad⟩;subst W5;go_wp2;go_ret;exact⟨_,z,k⟩);have:(Q==B)=bD:=dV K;go_wp2;go_ret;exact⟨_,z,k⟩);(.have:decide (P=D)=bD:=dV F;go_wp2;(all_goals go_ret;exact⟨_,z,k⟩))
theorem Yn(h:jY j5 j4 w0 W a db j3 b O C N n5)(hM:n5<=1000000)(Q T:Y)(S aa:af)(an:Option Addr)(al ab:R)(K:S.size<=140737488351232):cR bN 37 #[aJ a,zb 2 Q T S aa<|am an al ab] W λx w'=>∃ao,x=aN (aO ao)/\jY j5 j4 w0 w' a db j3 b O C N n5:=by
 let⟨u,r⟩:∃u,G (H W)=u:=⟨_,rfl⟩;have D:jY j5 j4 w0 (dw W<|iN 2 Q T S aa<|am an al ab) a db j3 b ((u,iN 2 Q T S aa<|am an al ab)::O) C N n5:=h.sN (cI _ W) U<|aQ _ r.symm;have g:=D.bH<|cf aC _;have f:=Z0 g S K;have l:=And.intro g.jc.2.1 g.eT.2.2.2.1;have:=h.QE.1;unfold zb;unfold iN at f l;clear h D g;go_in
 go_wp21;try rw[r]
 rename_i QQ v d;refine cX (λj4=>bA j4 (X a 1)=M (aJ j3)/\bA j4 (X u 3)=M (aw S)) 13 aH ?_;refine dH 0 ?_;iterate 6 (refine fW l ?_;simp only[ig,eh,fT,jZ])
 apply eS;refine aW 6 ?_;intro V c;go_simp;go_call f as x w⟨L,P,se,rfl,q,g⟩;have n:=g.bH<|cf aC w;have o:=ak<|q.bH<|cf aC w;clear q;have m:=And.intro g.jc.2.1 g.eT.2.2.2.1;refine c _ _ (λ_=>m) ?_;try simp only[ig,eh,fT]
 refine dH 7 ?_;iterate 6 (refine fW m ?_;simp only[ig,eh,fT,jZ])
 apply eS;refine aW 13 ?_;intro KL e;go_simp;refine e _ _ wW ?_;refine dG aH ?_ _;show v _ _;apply d;have s:=V8 n hM S K;have i:=And.intro n.jc.2.2 n.eT.2.2.2.1;clear l m f g c e d;go_wp21;rename_i QQ v d;refine cX (λj4=>bA j4 (X a 2)=M (aJ b)/\bA j4 (X u 3)=M (aw S)) 13 aH ?_;refine dH 0 ?_;iterate 6 (refine fW i ?_;simp only[ig,eh,fT,jZ])
 apply eS;refine aW 6 ?_;intro V c;go_simp;go_call s as x W3⟨B,A,gn,rfl,ac⟩;subst W3;refine c _ _ (λ_=>i) ?_;try simp only[ig,eh,fT]
 refine dH 7 ?_;iterate 6 (refine fW i ?_;simp only[ig,eh,fT,jZ])
 apply eS;refine aW 13 ?_;intro KL e;go_simp;refine e _ _ wW ?_;refine dG aH ?_ _;show v _ _;apply d;let⟨tn,_,_,j⟩:=kL (ag o) n.nV;have t:=j _<|I.bI aC _;clear s i c e d j o;go_wp21;go_call t as x W4⟨rfl,p⟩;have k:=ak (n.bH<|I.p p).Bh;clear p t n;by_cases E:L=B;(.subst E;by_cases F:P=A;(.subst F;go_wp21;go_call mI tn _ as x W5⟨rfl,ad⟩;subst W5;go_wp2;go_ret;exact⟨_,z,k⟩);have:(P==A)=bD:=dV F;go_wp2;go_ret;exact⟨_,z,k⟩);(.have:decide (L=B)=bD:=dV E;go_wp2;(all_goals go_ret;exact⟨_,z,k⟩))
end
section
variable{j5:Prop}{j4:cy af}{w0 W:Z}{a db j3 b:R}{O:cy (R×Obj)}{C N n5:R}
theorem Rp(h:jY j5 j4 w0 W a db j3 b O C N n5):cR bN 12 #[aJ a] W λA w'=>∃ax,A=aN (aO ax)/\jY j5 j4 w0 w' a db j3 b O C N n5:=by
 have q:=YS h;have y1:bA W (X a 1)=M (aJ j3):=h.jc.2.1;have an:=h.QE.1;clear h;go_in
 go_wp21;go_call q as A B⟨av,ev,rfl,r,V,E⟩;let⟨o,K,n,g⟩:=kL r E.nV;have m:=g _<|I.bI aC _;have t:(o=0/\∃w c d ap,av=bX w c 4 d/\4<=d/\bA B (X w c)=M ap/\(∃Q ac S,ap=am Q ac S)/\w<G (H B))\/(o≠0/\av=aF):=by obtain⟨D,Ls,⟨us,T,al,L⟩,ad⟩|⟨D,aU,Q,e1⟩:=V;obtain⟨q1,⟨P,q0⟩|⟨w,c,d,P,s,x⟩⟩:=dQ T;cases q0;have p:us[0]?=M (us[0]'U):=bF U;let⟨aD,_,hp⟩:=L 0 _ p;let⟨Q,S,A⟩:=aM hp;exact J ⟨n.2 D,w,c,d,_,P,s,x 0 _ p,⟨Q,_,S,A⟩,(T.lt w (by rw[P];rfl)).2⟩;exact bj ⟨λA=>(by have:=n.1 A;rw[e1]at this;cases this),D⟩
 have j:=ak t;have i:=ak E;clear q E V t g r K n;go_wp21;go_call m as A v⟨rfl,l⟩;have f:I aC B v:=I.p l;have k:=i.bH f;have y2:bA v (X a 2)=M (aJ b):=k.jc.2.2;let⟨u,y3⟩:=k.Q9;have y4:bA v (X a 4)=M (ay 0):=by let⟨ao,ab,F⟩:=k.g;rw[cE F];rfl
 obtain⟨rfl,w,c,d,ap,rfl,s,x,⟨Q,ac,S,rfl⟩,hg⟩|⟨p,rfl⟩:=ag j;(.have D:bA v (X w c)=M (am Q ac S):=f.u x id hg;have e:=ak k;clear k i j l m f x;have:(4:Y)<=(d:Y):=U;have:(0:Y)<=(ac:Y):=U;cases u;(.go_wp21;(go_quiet(first|(go_at_call 34;refine Calls.quiet_of_same (mI 0 _))));go_wp2;go_ret;exact⟨_,z,(ag e).bH<|gO _ _ _⟩);have L:∀aa:Z,(binOp .eql 114 (bX w c 4 d) aF).run bN aa=.ok (aO bD) aa:=λ_=>rfl;go_wp2;go_ret;exact⟨_,z,e⟩);have e:=ak k;clear k i j l m f;have:(o==0)=bD:=dV p;have:(o !=0)=cz:=dV p;cases u;(.go_wp21;(go_quiet(first|(go_at_call 34;refine Calls.quiet_of_same (mI o _))));go_wp2;go_ret;exact⟨_,z,(ag e).bH<|gO _ _ _⟩);have:∀aa:Z,(binOp .eql 114 aF aF).run bN aa=.ok (aO cz) aa:=λ_=>rfl;go_wp21;go_call mI o _ as A D⟨rfl,L⟩;subst D;go_wp2;go_ret;exact⟨_,z,e⟩
end
section
variable{j5:Prop}{j4:cy af}{w0 W:Z}{a db j3 b C N n5:R}
def zes(j5:Prop)(j4:cy af)(w0:Z)(a db j3 b C N n5:R)(e:Ending)(c:Z):Prop:=∃r,e=aN (aO r)/\jY j5 j4 w0 c a db j3 b [] (C+8) (N+1) (n5+8)
def XQ(F:Xk)(h:jY j5 j4 w0 W a db j3 b [] C N n5)(l:n5<=1000000)(hk:F.kd≠6)(i:Q3 w0 F.L F.cs)(P:F.S.size<=1048576)(w:C+8<=3000000000)(o:N+1<=1000000000):cR bN 13 #[aJ a,zb F.kd F.A F.B F.S F.T F.L] W (zes j5 j4 w0 a db j3 b C N n5):=by
 let⟨j,A,B,S,T,ab,c⟩:=F;simp only at hk i P|-;let⟨i,E,V⟩:=i;let⟨x,k,hL⟩:=sX i;subst hL;have d:∀{g:Z}{c f e:R},jY j5 j4 w0 g a db j3 b [] c f e->c<=C+8->f<=N+1->e<=n5+8->jY j5 j4 w0 g a db j3 b [] (C+8) (N+1) (n5+8):=λq i j k=>q.aT i w j o k;have g:∀d,I aC W (dw W<|iN d A B S T<|am x (y c) k):=λd=>cI _ W;have u:(j<1\/11<j)\/j=1\/j=2\/j=3\/j=4\/j=5\/j=7\/j=8\/j=9\/j=10\/j=11:=U;obtain u|rfl|rfl|rfl|rfl|rfl|rfl|rfl|rfl|rfl|rfl:=u;(.go_call UL j A B S T x (y c) k u as L m⟨r,rfl,t⟩;exact⟨r,z,d (h.bH t) U U U⟩);obtain⟨⟨K,⟨p,q0⟩|⟨Q,f,O,p,v,D⟩⟩,s⟩|⟨K,aa,c',p⟩:=i;have t:c=[]:=xq.1 q0;subst t;cases p;exact Ge h l A B S T w o;cases p;by_cases n:y c=0;have t:c=[]:=xq.1 n;subst t;exact yY h l A B S T _ k w o;exact Gd h l A B S T Q f (y c) k c z U v U (s Q z) D (λd e=>bP<|E d e) w o;subst K;cases p;exact yY h l A B S T _ k w o;refine uH 2 A B S T x (y c) k _ (J z)<|(Yn (h.bH<|g 2) l A B S T x (y c) k U).mono ?_;rintro L m⟨r,rfl,e⟩;exact⟨r,z,d e U U U⟩;refine uH 3 A B S T x (y c) k _ (bj<|J z)<|(Vm (h.bH<|g 3) l A B S T x (y c) k).mono ?_;rintro L m⟨r,rfl,e⟩;exact⟨r,z,d e U U U⟩;by_cases n:A<0->y c=0;refine uH 4 A B S T x (y c) k _ (bj<|bj<|J z)<|(Ll (h.bH<|g 4) l A B S T x (y c) k n).mono ?_;rintro L m⟨r,rfl,e⟩;exact⟨r,z,d e U U U⟩;let⟨aa,n⟩:=Classical.not_imp.1 n;obtain⟨⟨K,⟨p,q0⟩|⟨Q,f,O,p,v,D⟩⟩,s⟩|⟨K,_⟩:=i;omega;cases p;obtain _|⟨t,c⟩:=c;simp at n;refine uH 4 A B S T _ (y<|t::c) k _ (bj<|bj<|J z) ?_;exact RP (h.bH<|g 4) l A B S T Q f _ k t.D t.l t.dP U ar v U (s Q z) (D 0 _ z) (D 1 _ z) (D 2 _ z) (bP<|E t ar) w o;rw[K]at n;simp at n;(.go_call QZ h A B S T x (y c) k as L m⟨r,rfl,e⟩;exact⟨r,z,d e U U U⟩);(.go_call UK h l A B S T x (y c) k o as L m⟨r,rfl,e⟩;exact⟨r,z,d e U U U⟩);refine uH 8 A B S T x (y c) k _ (bj<|bj<|bj<|J z)<|(RQ (h.bH<|g 8) A B S T x (y c) k U).mono ?_;rintro L m⟨r,rfl,e⟩;exact⟨r,z,d e U U U⟩;refine uH 9 A B S T x (y c) k _ (bj<|bj<|bj<|bj z)<|(Oh (h.bH<|g 9) A B S T x (y c) k).mono ?_;rintro L m⟨r,rfl,e⟩;exact⟨r,z,d e U U U⟩;(.go_call KN h A B S T x (y c) k as L m⟨r,rfl,e⟩;exact⟨r,z,d e U U U⟩);go_call KO h A B S T x (y c) k o as L m⟨r,rfl,e⟩;exact⟨r,z,d e U U U⟩
end
structure Tr where
 kd:Y
 fl:Y
 nm:af
 bv:ae
 bs:eD
def Tr.bU(o:Tr):iE:=[ay o.kd,ay o.fl,aw o.nm,o.bv]
def Ct(b:cy Tr):iE:=b.flatMap Tr.bU
def ux(b:cy Tr)(i:R)(h:i<y b)(j:R)(c:j<4):(Ct b)[i*4+j]?=b[i].bU[j]?:=by
 induction b generalizing i with
 |nil=>simp at h
 |cons o b f=>
  have:Ct (o::b)=o.bU++Ct b:=rfl;have:y o.bU=4:=rfl;grind
structure ByA(w:Z)(v:ae)(bs:eD):Prop where
 S:∃x c,v=am x (y bs) c
 L:ki bs
 f:∀x c,v=am (M x) (y bs) c->bs≠[]->(∀j u,(bs.map<|Value.int .u8)[j]?=M u->bA w (x.add j)=M u)/\∃b off,x=X b off/\b<G (H w)
 l:v=am dE (y bs) 0\/∃x c,v=am (M x) (y bs) c
 o:v=am dE (y bs) 0->bs=[]
def ByA.D{w0 W:Z}{v:ae}{c:eD}{db:R}{K:DK}(h:ByA w0 v c)(m:y c<=1048576)(i:I aC w0 W)(k:∀p,K.j db p->G (H w0)<=p):ByS W db K v c:=by
 refine⟨h.S,h.L,m,λx r s f=>?_,h.l,h.o⟩;obtain⟨j,o,b,rfl,g⟩:=h.f x r s f;refine⟨λt u l=>?_,o,b,z,au g i.D,λq=>bP<|k o q⟩;have:=j t u l;rw[dS]at this|-;exact i.u this id g
def QF(b:cy Tr):R:=(b.map<|λo=>y o.bs).sum
structure B6(w:Z)(v:ae)(os:cy Tr):Prop where
 bV:Row w 4 v (y os) (Ct os)
 lt:∀k,cN v=M k->k<G (H w)
 bZ:∀o∈os,ByA w o.bv o.bs/\o.nm.size<=1048576
 L:QF os<=1048576
def XV(b:cy Tr)(i:R)(h:i<y b):QF (b.take<|i+1)=QF (b.take i)+y b[i].bs:=by
 unfold QF;rw[aG h,bz,eX];simp
def U8(b:cy Tr)(k:R):QF (b.take k)<=QF b:=by
 unfold QF;have c:=cD (λl=>(l.map (λo:Tr=>y o.bs)).sum)<|du k b;simp only[bz,eX]at c;omega
def H5{ts:dI}(h:∀t∈ts,ny t.ks):ik ts<=200*y ts:=by
 induction ts with
 |nil=>simp[ik]
 |cons t r f=>
  have:=G9<|h t ar;have b:=f (λu c=>h u<|by simp[c]);simp only[ik,bO,fq,bK]at b|-;omega
structure GD(w0 W:Z)(a db:R)(mem ua:Y)(L n:R)(K:DK):Prop where
 g:∃sv hb,S4 W a db sv mem ua hb
 S:G (H w0)<=a
 o:1<=mem/\mem<=32/\2<=ua/\ua<=6
 f:cJ W db K
 D:qp K.fx
 t:Fy K L (12100000000+n)
 l:y K.l<=100000000000+n
 da:∀k,K.j db k->G (H w0)<=k/\k≠a
 aA:I aC w0 W
 g0:Steps w0/\Pow w0/\jO w0/\td w0
section
variable{w0 W W':Z}{a db:R}{mem j6:Y}{L d n e:R}{K K':DK}
def Qr.gd{N:R}(h:Qr w0 W a L N):∃db mem j6 K,GD w0 W a db mem j6 L 0 K:=by
 let⟨db,j,k,mem,j6,l,o,p,r,b,m,F,h⟩:=h;obtain⟨K,rfl,c,f,g,i⟩:=h.dd;exact⟨db,mem,j6,K,⟨k,j,h.xh.g⟩,h.xh.S,h.xh.o,c,f,g,i,λb q=>⟨(h.da b q).1,λl=>(h.da b q).2.2<|J l⟩,h.xh.aA,h.xh.g0⟩
def GD.A{B m:R}(h:GD w0 W a db mem j6 L n K)(b:Do W W' db K K' B m):GD w0 W' a db mem j6 (L+B) (n+m) K':=by
 let⟨j,i,c⟩:=h.g;have o:=h.aA.D;refine{h with g:=⟨j,i,(b.D.aA.A a (az c)<|λq=>(h.da a q).2 rfl).trans c⟩,f:=b.D.ok,D:=b.D.fx.D h.D,t:=by have:=b.t _ _ h.t;rwa[bJ]at this,l:=gV b.l h.l,da:=λk q=>?_,aA:=h.aA.aj b.D.aA (λk q=>bj (h.da k q).1)};obtain m9|m9:=b.D.j k q;exact h.da k m9;have:=az c;exact⟨U,U⟩
def GD.bH(h:GD w0 W a db mem j6 L n K)(b:I aC W W'):GD w0 W' a db mem j6 L n K:=by
 let⟨j,i,c⟩:=h.g;exact{h with g:=⟨j,i,(b.A a (az c) id).trans c⟩,f:=h.f.aA b<|λ_ _=>id,aA:=h.aA.t b}
def Fy.D{c:R}(h:Fy K L c)(b:(vw K'.ah).Perm (vw K.ah)):Fy K' L c:=⟨λp q=>h.dq p<|b.mem_iff.1 q,by have:=b.length_eq;rw[rQ,rQ]at this;rw[this];exact h.l⟩
def M4(h:GD w0 W a db mem j6 L n K)(hm:K.l=[])(hL:L<=217848576)(hn:n<=3000):cR bN 10 #[aJ db,ef #[ay mem,ay j6]] W λl W'=>I aC w0 W'/\W'.heap[a]?=W.heap[a]?/\((∃w v ab,l=aN (de #[aJ v,ib])/\Ba False w W' db v 2200000000 1 ab/\(∀k,ab k->G (H w0)<=k/\k<G (H W')))\/∃q,l=aN (de #[ee dE,eW q])/\tB W' q):=by
 have s:Steps W:=Steps.aA h.g0.1 h.aA id;have r:Pow W:=h.g0.2.1.aA h.aA id;have p:td W:=h.g0.2.2.2.aA h.aA id id;have b:∀k,k<G (H w0)->¬K.j db k:=λk c q=>bP<|(h.da k q).1;have hz:=h.aA.D;have t:=h.t.l;have i:a<G (H W):=by let⟨sv,hb,hx⟩:=h.g;exact az hx
 have o:OpL W db K L:=⟨h.f,U,s,r,p,b _ h.g0.1.lt,b _ h.g0.2.1.lt,⟨b _ h.g0.2.2.2.lt.1,b _ h.g0.2.2.2.lt.2⟩,h.t.A,h.t.dL⟩;refine(GN (j5:=False) (j4:=K.ah.map dj.dA) (u7:=False) (m8:=λ_ _=>True) (EX:=True) (C0:=2199999969) (C:=2200000000) (N:=0) o U h.o (by rw[hm];simp;omega) U (λnx lg bt ac ad al an V T=>?_) U U U (by rw[cS];omega) False.elim (λx A _ _=>TI x A) (J h.D) False.elim).mono ?_
 .have f:y (ac++ad++al++an)<=10892428:=by
   obtain l|⟨_,l,_⟩:=V.L
   .have:=h.t.dL _ l;rw[Bz]at this;omega
   .rw[l];simp
  refine⟨?_,λaa j c=>J ?_⟩
  .have g:=H5 (ts:=ac++ad++al++an)<|λt q=>(T t q).1;rw[iJ,iJ,iJ]at g;omega
  .rw[nH]at c;cases hg:ii K.ah aa with
   |none=>rw[hg]at c;cases c
   |some g=>exact cC.2 ⟨g,(eM hg).2.1,(eM hg).1⟩
 rintro l w'(⟨rfl,x,j,aa,B,D,c1,E,c⟩|⟨q,rfl,_,hq,j,hd,u,hf,S,l1,l2,ho,O,P,Q⟩);let⟨rfl,F,_,_,_,m⟩:=c.bM;have:=c.D;have f:I (K.j x.f) W w':=c.eQ.aA.aT<|λk q=>q.elim J<|λg=>bj U;refine⟨h.aA.aj f<|λk q=>bj (h.da k q).1,f.A a i<|λq=>(h.da a q).2 z,J ⟨_,_,Bb x j<|G (H W)+2,z,J ⟨x,j,aa,B,D,c1,E,[],z,z,F,c.eQ.fx.D h.D,c.g,c.A⟩,λk q=>?_⟩⟩;obtain(q|q)|q:=q;have g:=c.eQ.ok.lt k q;obtain m9|m9:=c.j k q;exact⟨(h.da k m9).1,g⟩;exact⟨U,g⟩;have q:k=G (H W)+2:=q;omega;rw[m]at q;cases q;omega;exact⟨h.aA.aj u<|λk q=>bj (h.da k q).1,u.A a i<|λq=>(h.da a q).2 z,bj ⟨q,z,hq⟩⟩
def Z2{p:cy af}{f m c C N:R}{F:fB}(t:Ba False p W db m C N F)(b:∀k,F k->G (H w0)<=k/\k<G (H W))(o:I aC w0 W)(l:I aC W W')(u:G (H W)<=f)(s:G (H W)<=c)(j:f≠c)(h:W'.heap[f]?=M (aK #[aJ db,aJ m,aJ c,ay 0,ay 0,aF,aF] 57 (0,0)))(g:W'.heap[c]?=M (aK #[aF,aF,aO bD] 54 (0,0)))(r:Steps w0/\Pow w0/\jO w0):jY False p w0 W' f db m c [] C N 0:=by
 have:=l.D;have:=o.D;have hF:∀k,G (H W)<=k->¬F k:=λk g q=>bP<|(b k q).2;refine⟨(dE,aF),aF,aF,F,[],([],[]),bD,ar,h,⟨⟨⟨_,g,⟨z,J ⟨z,z⟩⟩,z⟩,ar,ar⟩,⟨⟨z,J ⟨z,z⟩⟩,ar,ar,ar⟩,ct _ _ _ _,λk _ _ _ i=>(by cases i),rfl,ar,λk i=>(by cases i)⟩,t.mB l cY cY ⟨id,id⟩,ar,⟨⟨_,_,_,rfl⟩,_,_,_,rfl⟩,o.t l,⟨λk q=>⟨(b k q).1,bP<|(b k q).2⟩,U,U⟩,hF _ u,hF _ s,λk q=>?_,ar,j,r⟩;obtain q|q|⟨x,v,_⟩:=q;cases q;cases q;cases v
end
def GDs(d W:Z)(e L n:R):Prop:=∃b a c K,GD d W e b a c L n K
def SI(ds ps ss:Option Addr)(os:cy Xs)(c:cy Tr)(g:cy Xk)(dc pc sc:R)(n5 dr:Y)(hd:os=[]\/∃o b,ds=M (X o b)/\Ur a (bX o b (y os) dc) os)(cb:y os<=349525)(hq:c=[]\/∃o b,ps=M (X o b)/\B6 a (bX o b (y c) pc) c)(hr:g=[]\/∃o b,ss=M (X o b)/\Tt a (bX o b (y g) sc) g)(hS:Steps a)(hP:Pow a)(hE:jO a)(bq:td a)(ca:cR bN 4 #[] a λt w'=>t=aN (aO cz)/\I aC a w'):cR bN 3 #[am ds (y os) dc,ay n5,ay dr,am ps (y c) pc,am ss (y g) sc] a λt w'=>t=aN (aO cz)/\I aC a w':=by
 have ch:∀W,I aC a W->cR bN 5 #[am ds (y os) dc] W λt w'=>Xc t/\I aC a w':=λW p=>by obtain rfl|⟨o,b,rfl,hd⟩:=hd;(.go_call Rn ds dc W as t w'⟨h1,q,rfl⟩;exact⟨h1,p.t<|gO _ _ _⟩);go_call Ro o b dc os {hd with bV:=p.bV hd.bV<|λaD hk=>⟨id,hd.lt aD hk⟩,lt:=λaD hk=>au (hd.lt aD hk) p.D,L:=λcx ho=>⟨(hd.L cx ho).1.aA p<|λ_ _=>id,(hd.L cx ho).2⟩}as t w'⟨h1,q,rfl⟩;exact⟨h1,p.t<|gO _ _ _⟩
 have cj:∀W,I aC a W->cR bN 6 #[am ss (y g) sc] W λt w'=>Xc t/\I aC a w':=λW p=>by obtain rfl|⟨o,b,rfl,hd⟩:=hr;(.go_call Ri ss sc W as t w'⟨h1,q,rfl⟩;exact⟨h1,p.t<|gO _ _ _⟩);go_call Rj o b sc g {hd with bV:=p.bV hd.bV<|λaD hk=>⟨id,hd.lt aD hk⟩,lt:=λaD hk=>au (hd.lt aD hk) p.D,L:=λcx ho=>⟨(hd.L cx ho).1.aA p<|λ_ _=>id,(hd.L cx ho).2⟩}as t w'⟨h1,q,rfl⟩;exact⟨h1,p.t<|gO _ _ _⟩
 have bL:∀W,I aC a W->cR bN 7 #[am ds (y os) dc,ay n5,ay dr] W λt W'=>∃e d,t=aN (de #[aJ e,aO d])/\GDs a W' e 216800000 0:=λW p=>by go_call SM ds os dc n5 dr hd cb p hS hP hE bq as t W'⟨e,d,rfl,h⟩;exact⟨e,d,z,h.gd⟩
 have bT:Steps a/\Pow a/\jO a:=⟨hS,hP,hE⟩;clear hS hP hE bq hd cb;go_in
 go_wp21;go_call ca as t W1⟨rfl,ck⟩;have h2:=ch W1 ck;clear ca ch ck;go_wp21;go_call h2 as t W2⟨⟨cM,rfl⟩,cl⟩;have h3:=cj W2 cl;clear h2 cj cl;go_wp21;go_call h3 as t W3⟨⟨cB,rfl⟩,ao⟩;have h4:=bL W3 ao;clear h3 bL;by_cases S:cM=cz/\cB=cz/\y c<=1000;rotate_left;(.cases cM;(.go_wp2;go_ret;exact⟨z,ao⟩);cases cB;(.go_wp2;go_ret;exact⟨z,ao⟩);(have e1:(1000:Y)<(y c:Y):=by have:¬y c<=1000:=λq=>S ⟨z,z,q⟩;omega);clear S;go_wp2;go_ret;exact⟨z,ao⟩);obtain⟨rfl,rfl,dT⟩:=S;have e1:¬(1000:Y)<(y c:Y):=U;go_wp21;go_call h4 as t W4⟨e,b4,rfl,cu⟩;clear h4 e1;go_wp21;go_loopw [16] (λiv wr=>∃i:R,i<=y c/\iv=ay i/\GDs a wr e (216800000+QF (c.take i)) (3*i)) (λiv _=>y c-(intOf iv).toNat)
 exact⟨0,bQ _,z,by simpa[QF]using cu⟩;(.obtain⟨i,hi,rfl,db,B,j6,cT,u⟩:=hrel;by_cases d:i<y c;(.obtain rfl|⟨o,b,rfl,hq⟩:=hq;simp at d;have e2:(i:Y)<(y c:Y):=U;have f:o<G (H a):=hq.lt o z;(have l:∀W,I aC a W->(bA W (X o<|b+i*4)=M (ay c[i].kd)/\bA W (X o<|b+i*4+1)=M (ay c[i].fl)/\bA W (X o<|b+i*4+2)=M (aw c[i].nm)/\bA W (X o<|b+i*4+3)=M c[i].bv)/\y c<=pc:=λW p=>by obtain⟨q1,⟨q2,q0⟩|⟨g',cp,bp,q2,bf,F⟩⟩:=hq.bV;cases q2;cases q2;refine⟨⟨p.u (F _ _<|(ux c i d 0 U).trans z) id f,?_,?_,?_⟩,bf⟩;rw[bJ];exact p.u (F _ _<|(ux c i d 1 U).trans z) id f;rw[bJ];exact p.u (F _ _<|(ux c i d 2 U).trans z) id f;rw[bJ];exact p.u (F _ _<|(ux c i d 3 U).trans z) id f);let⟨⟨c0,c1,c2,c3⟩,aa⟩:=l wr u.aA;let⟨n,N⟩:=hq.bZ _<|aB d;have C:=XV c i d;have Q:=U8 c<|i+1;have an:=hq.L;have K:y c[i].bs<=1048576:=U;have j:=n.D (db:=db) (K:=cT) K (u.bH<|cf aC wr).aA<|λaD q=>(u.da aD q).1;have s:=UR c[i].kd c[i].fl c[i].nm (u.bH<|cf aC wr).f u.D u.t U (bP u.l) (by unfold Nm;omega) j;let⟨sv,hb,r⟩:=u.g;have x0:=aX r 0;(have k:∀W' b,Do wr.drew W' db cT b (y c[i].bs) 3->GDs a W' e (216800000+QF (c.take<|i+1)) (3*(i+1)):=λW' b hs=>by have:=(u.bH<|cf aC wr).A hs;rw[C,show 216800000+(QF (c.take i)+y c[i].bs)=216800000+QF (c.take i)+y c[i].bs by omega,show 3*(i+1)=3*i+3 by omega];exact⟨_,_,_,_,this⟩);let⟨V,T,w⟩:=n.S;rw[w]at c3 s;generalize c[i].kd=kd at*;generalize c[i].fl=fl at*;generalize c[i].nm=m at*;generalize y c[i].bs=E at*;have f1:¬(1048576:Y)<(E:Y):=U;have f2:(0:Y)<=(i:Y):=U;clear u n N C Q an j r w l;go_wp21;rename_i KK O;have P:bA wr.drew (X e 0)=M (aJ db)/\bA wr.drew (X o<|b+i*4)=M (ay kd)/\bA wr.drew (X o<|b+i*4+1)=M (ay fl)/\bA wr.drew (X o<|b+i*4+2)=M (aw m)/\bA wr.drew (X o<|b+i*4+3)=M (am V E T):=⟨x0,c0,c1,c2,c3⟩;refine kF (λA=>bA A (X e 0)=M (aJ db)/\bA A (X o<|b+i*4)=M (ay kd)/\bA A (X o<|b+i*4+1)=M (ay fl)/\bA A (X o<|b+i*4+2)=M (aw m)/\bA A (X o<|b+i*4+3)=M (am V E T)) 8 aH ?_;refine lW 0 ?_;(iterate 8 (refine zu P ?_;simp only[ig,eh,fT,jZ]));apply qi;refine gN 8 ?_;intro K9 v;go_simp;go_call s as t W5⟨⟨v5,rfl⟩,K5,x⟩;have D:=ak<|k W5 K5 x;refine v _ _ (λq=>U) ?_;refine kR aH ?_ _;show KK _ _;apply O;clear x v O P s k;go_wp2;go_roundw;exact⟨i+1,d,dM,D⟩;simp[intOf];omega);(.have S:i=y c:=U;subst S;have e2:¬(y c:Y)<(y c:Y):=U;rw[cQ]at u;(have an:QF c<=1048576:=by obtain rfl|⟨o,b,rfl,hq⟩:=hq;simp[QF];exact hq.L);let⟨sv,hb,r⟩:=u.g;have x0:=aX r 0;have xf:=cV (i:=0) r;have cv:=az r;have bv:=PX u.f u.f.kg;clear hq;go_wp21;go_call bv as t W5⟨n,K5,rfl,bx,cd,bg,bE,ap,cm,_,_⟩;have k:=u;have ad:=(ap.A e cv id).trans r;have y0:=aX ad 0;have yf:=cV (i:=0) ad;have v:S4 (cP W5 (X e 0)<|aJ n) e n sv B j6 hb:=(aY ad).trans z;have hz:=k.aA.D;have eb:=ap.D;(have w:∀aD,K5.j n aD->G (H a)<=aD/\aD≠e:=λaD q=>by have:=bE aD q;exact⟨U,U⟩);have ab:GD a (cP W5 (X e 0)<|aJ n) e n B j6 (216800000+QF c) (3*y c) K5:=⟨⟨sv,hb,v⟩,k.S,k.o,bx.aA (fJ W5 e 0<|aJ n)<|λaD q t=>(w aD q).2 t,by rw[cm];exact k.D,k.t.D cd,by rw[bg];simp,w,(k.aA.t ap).aj (fJ W5 e 0<|aJ n)<|λaD t=>bj (by rw[show aD=e from t];exact k.S),k.g0⟩;let⟨W6,bd⟩:∃W6,cP W5 (X e 0) (aJ n)=W6:=⟨_,rfl⟩;rw[bd]at ab v;have cc:=M4 (ab.bH<|cf aC W6) bg (bP an) U;have t6:=ab.aA;have s0:=aX v 0;have s2:=aX v 2;have s3:=aX v 3;let⟨bl,bn,bi⟩:=eU cc bd v;clear cc bd v ab w ad bx cd bg bE ap cm k u an r x0 xf bv;go_wp21;rename_i KK O;rw[ag bn];have P:bA W6.drew (X e 0)=M (aJ n)/\bA W6.drew (X e 2)=M (ay B)/\bA W6.drew (X e 3)=M (ay j6):=⟨s0,s2,s3⟩;refine cX (λA=>bA A (X e 0)=M (aJ n)/\bA A (X e 2)=M (ay B)/\bA A (X e 3)=M (ay j6)) 13 aH ?_;refine dH 0 ?_;(iterate 8 (refine fW P ?_;simp only[ig,eh,fT,jZ]));apply eS;refine aW 8 ?_;intro K8 br;go_simp;go_call bl as t W7⟨av,cn,bt⟩;have E:S4 W7 e n sv B j6 hb:=cn.trans<|ag bi;have ac:bA W7 (X e 0)=M (aJ n)/\bA W7 (X e 2)=M (ay B)/\bA W7 (X e 3)=M (ay j6):=⟨aX E 0,aX E 2,aX E 3⟩;(obtain⟨ec,dv,rfl⟩:∃sv a,t=aN (de #[sv,a]):=by obtain⟨A,j3,ei,rfl,_⟩|⟨q,rfl,_⟩:=bt<;>exact⟨_,_,z⟩);refine br _ _ (λ_=>ac) ?_;refine dH 9 ?_;(iterate 3 (refine fW ac ?_;simp only[ig,eh,fT,jZ]));apply eS;refine aW 12 ?_;intro dd aU;go_simp;refine aU _ _ (λ_=>ac) ?_;refine aW 13 ?_;intro dk aV;go_simp;refine aV _ _ wW ?_;refine dG aH ?_ _;show KK _ _;apply O;clear br aU aV O P ac s0 s2 s3 bi bn y0 yf bl cn;obtain⟨A,j3,ei,K,m,s⟩|⟨q,K,ce⟩:=bt;rotate_left;(.injection K with K;injection K with K;simp only[pB,iL,rF]at K;obtain⟨rfl,rfl⟩:=K;(have N:ub W7 (eW q):=by let⟨c6,F,h1⟩:=ce;exact bj<|bj ⟨q,z,c6,F,h1⟩);let⟨tn,al,C,x⟩:=kL N<|bT.2.2.aA av id;have T:=x _<|I.bI aC _;(have b0:(tn==0)=bD:=by simpa usingλt=>by have:=C.1 t;simp[eW]at this);(have b1:(tn !=0)=cz:=by simpa usingλt=>by have:=C.1 t;simp[eW]at this);have:¬tn<0:=U;have ax:∀a:Z,(binOp .eql 36 (ee dE)<|ee dE).run bN a=.ok (aO cz) a:=λ_=>rfl;clear x N C ce al;go_wp21;go_call T as t W8⟨rfl,Q⟩;have V:=ak<|av.t<|I.p (S:=aC) Q;clear T Q;go_wp2;go_ret;exact⟨z,V⟩);injection K with K;injection K with K;simp only[pB,iL,rF]at K;obtain⟨rfl,rfl⟩:=K;have:∀a:Z,(binOp .eql 36 (aJ j3)<|ee dE).run bN a=.ok (aO bD) a:=λ_=>rfl;have bm:=ak<|And.intro m s;clear m s;go_wp21;go_call ow W7 as t W8⟨rfl,Q⟩;have aa:I aC W7 W8:=I.p Q;have ba:S4 W8 e n sv B j6 hb:=(aa.A e (az E) id).trans E;have x0:=aX ba 0;let⟨m,s⟩:=ag bm;let⟨W9,D⟩:∃W9,dw (dw W8<|aK #[aF,aF,aO bD] 54) (aK #[aJ n,aJ j3,aJ<|G<|H W8,ay 0,ay 0,aF,aF] 57)=W9:=⟨_,rfl⟩;(have j:jY False A a W9 (G (H W8)+1) n j3 (G<|H W8) [] 2200000000 1 0:=by rw[<-D];refine Z2 m s av (aa.t<|(cI aC W8).aE _) (bP aa.D) (bP aa.D) U ?_ ?_ bT;exact aQ _ ar;grind[gw,aQ]);have bk:=ak j;have bo:=ak D;clear j D m s bm av E Q aa ba;go_wp21;have j:=ag bk;have D:=ag bo;rw[D];let⟨wb,bh⟩:∃wb,G (H W8)+1=wb:=⟨_,rfl⟩;rw[bh]at j;(try rw[bh]);generalize G (H W8)=rb at*;clear D bk bo bh x0;(go_loopw [21] (λiv wr=>∃i:R,i<=y g/\i<=1000/\iv=ay i/\jY False A a wr wb n j3 rb [] (2200000000+8*i) (1+i) (8*i)) (λiv _=>y g-(intOf iv).toNat));exact⟨0,bQ _,bQ _,z,j⟩;(.obtain⟨i,hi,dx,rfl,hL⟩:=hrel;by_cases d:i<y g;rotate_left;(.have e3:¬(i:Y)<(y g:Y):=U;have bc:=ak hL.aA;clear hL j;go_wp2;go_ret;exact⟨z,bc⟩);have:(i:Y)<(y g:Y):=U;by_cases T:i<1000;rotate_left;(.have e4:¬(i:Y)<1000:=U;have bc:=ak hL.aA;clear hL j;go_wp2;go_ret;exact⟨z,bc⟩);have:(i:Y)<1000:=U;have:(0:Y)<=(i:Y):=U;obtain rfl|⟨o,b,rfl,hr⟩:=hr;simp at d;have f:o<G (H a):=hr.lt o z;have x:=hL.aA;(have l:(bA wr (X o<|b+i*6)=M (ay g[i].kd)/\bA wr (X o<|b+i*6+1)=M (ay g[i].A)/\bA wr (X o<|b+i*6+2)=M (ay g[i].B)/\bA wr (X o<|b+i*6+3)=M (aw g[i].S)/\bA wr (X o<|b+i*6+4)=M (aw g[i].T)/\bA wr (X o<|b+i*6+5)=M g[i].L)/\y g<=sc:=by obtain⟨q1,⟨q2,q0⟩|⟨g',cp,bp,q2,bf,F⟩⟩:=hr.bV;cases q2;cases q2;refine⟨⟨x.u (F _ _<|(mj g i d 0 U).trans z) id f,?_,?_,?_,?_,?_⟩,bf⟩;rw[bJ];exact x.u (F _ _<|(mj g i d 1 U).trans z) id f;rw[bJ];exact x.u (F _ _<|(mj g i d 2 U).trans z) id f;rw[bJ];exact x.u (F _ _<|(mj g i d 3 U).trans z) id f;rw[bJ];exact x.u (F _ _<|(mj g i d 4 U).trans z) id f;rw[bJ];exact x.u (F _ _<|(mj g i d 5 U).trans z) id f);let⟨⟨c0,c1,c2,c3,c4,c5⟩,ea⟩:=l;have al:=hr.L _<|aB d;have m:=hr.f _<|aB d;let⟨lx,lc,bs⟩:=sX al.1;generalize g[i]=cx at*;let⟨kd,ed,eg,dn,T',ek,cs⟩:=cx;simp only at c0 c1 c2 c3 c4 c5 al m bs;subst bs;(have ax:∀W,jY False A a W wb n j3 rb [] (2200000000+8*i+8) (1+i+1) (8*i+8)->jY False A a W wb n j3 rb [] (2200000000+8*(i+1)) (1+(i+1)) (8*(i+1)):=λW q=>by rwa[show 2200000000+8*(i+1)=2200000000+8*i+8 by omega,show 1+(i+1)=1+i+1 by omega,show 8*(i+1)=8*i+8 by omega]);have V:=λW(q:I aC wr W)=>Rp<|hL.bH q;have C:=λ(hk:kd≠6)W(q:I aC wr W)=>XQ ⟨kd,ed,eg,dn,T',am lx (y cs) lc,cs⟩ (hL.bH q) U hk al m.1 U U;simp only[zb]at C;have j:=ak hL;clear hL al m x f hr;by_cases co:kd=12;(.subst co;go_wp21;go_call V _ (cI aC wr)as t cr⟨ej,rfl,N⟩;have bb:=ak<|ax _<|N.aT (wZ _ _) U (wZ _ _) U<|wZ _ _;clear N V C j ax;go_wp2;go_roundw;exact⟨i+1,d,T,dM,ag bb⟩;simp[intOf];omega);have:(kd==12)=bD:=dV co;by_cases k6:kd=6;(.subst k6;go_wp2;go_roundw;exact⟨i+1,d,T,dM,(j.bH<|cI _ wr).aT U U U U U⟩;simp[intOf];omega);have:(kd==6)=bD:=dV k6;have:(kd !=6)=cz:=dV k6;have hs:=C k6 (dw wr<|aK #[ay kd,ay ed,ay eg,aw dn,aw T',am lx (y cs) lc] 60)<|cI aC wr;go_wp21;go_call hs as t cr⟨ej,rfl,N⟩;have bb:=ak<|ax _ N;clear N V C j ax hs;go_wp2;go_roundw;exact⟨i+1,d,T,dM,ag bb⟩;simp[intOf];omega)))
theorem ZD:prog.globalNamed "levels/code.steps" =M 1:=aH
theorem zeh:prog.globalNamed "internal/strconv.uint64pow10" =M 2:=aH
theorem zch:prog.globalNamed "errors.errorType" =M 0:=aH
theorem U5:(prog.globals[1]?).map (·.type)=M 389:=aH
theorem zdq:(prog.globals[2]?).map (·.type)=M 418:=aH
theorem U1:prog.underlying 389=M (.array 16 97):=aH
theorem zdm:prog.underlying 418=M (.array 20 104):=aH
theorem zbo:prog.underlying 97=M (.int .u32):=aH
theorem zbn:prog.underlying 104=M (.int .u64):=aH
theorem zdy:(prog.cutTypes.find? (·.1== "internal/reflectlite.rtype")).map (·.2)=M 256:=aH
theorem X8:((List.range 477).filter λt=>prog.rowNamed t [101,114,114,111,114])=[44]:=aH
theorem KD:prog.types.size=477:=aH
def Hk:cy (String×DataW Unit):=[("levels/code.steps",Rows.laid_levels_code_steps),("math/bits.deBruijn32tab",Rows.laid_math_bits_deBruijn32tab),("math/bits.deBruijn64tab",Rows.laid_math_bits_deBruijn64tab),("internal/strconv.uint64pow10",Rows.laid_internal_strconv_uint64pow10),("errors.errorType",Rows.laid_errors_errorType),("strconv.ErrRange",Rows.laid_strconv_ErrRange),("strconv.ErrSyntax",Rows.laid_strconv_ErrSyntax)]
theorem zef:prog.globalNamed "strconv.ErrSyntax" =M 3:=aH
theorem zeg:prog.globalNamed "strconv.ErrRange" =M 4:=aH
theorem zdo:(prog.globals[3]?).map (·.type)=M 44:=aH
theorem zdp:(prog.globals[4]?).map (·.type)=M 44:=aH
theorem zdn:∃a,prog.underlying 44=M (.interface a):=by
 have h:(match prog.underlying 44 with
  |some (.interface _)=>cz
  |_=>bD)=cz:=aH
 split at h;rename_i a e;exact⟨a,e⟩;cases h
theorem XC{P:Program}{w:Z}{e a:R}{g:R->eN}{t:TypeId}{c:iE}{ms}{b:String}{i:DataW Unit}{f:cy MemPlace}(d:P.underlying t=M (.interface ms))(h:DataW.trod (λ_=>()) P w e g bD a t c=M (.iface b i,f)):∃u v,c=[.iface u v]:=by
 cases a with
 |zero=>simp[DataW.trod]at h
 |succ n=>
  unfold DataW.trod at h;rw[d]at h;split at h<;>simp_all
theorem Pd{W:Z}{a c:String}{p:DataW Unit}{i:R}(g:prog.globalNamed a=M i)(k:(prog.globals[i]?).map (·.type)=M 44)(h:laidMet bN [(a,.iface c p)] W):∃n m,bA W (X i 0)=M (.iface n m):=by
 let⟨u,⟨s,v,o,f,A,q,d,e,b,j,_,_⟩,_⟩:=h;obtain rfl:=iK (g.symm.trans d);obtain rfl:=iK (k.symm.trans e);let⟨t,l⟩:=zdn;let⟨w,x,r⟩:=XC l j;have:=yR g b 0;rw[<-sK,r]at this;exact⟨w,x,this⟩
theorem I7{W:Z}(h:laidMetH bN Hk W):Steps W/\Pow W/\jO W/\td W:=by
 let⟨b,d⟩:=laidMetH_iff.1 h;have f:=b.filter (λx=>x.1== "levels/code.steps");rw[show((Hk.filter λx=>x.2.handleName?.isNone).filter λx=>x.1== "levels/code.steps")=[("levels/code.steps",Rows.laid_levels_code_steps)]by kernel_rfl]at f;have g:=b.filter (λx=>x.1== "internal/strconv.uint64pow10");rw[show((Hk.filter λx=>x.2.handleName?.isNone).filter λx=>x.1== "internal/strconv.uint64pow10")=[("internal/strconv.uint64pow10",Rows.laid_internal_strconv_uint64pow10)]by kernel_rfl]at g;rw[show(Hk.filter λx=>x.2.handleName?.isSome)=[("errors.errorType",Rows.laid_errors_errorType)]by kernel_rfl]at d;have i:=b.filter (λx=>x.1== "strconv.ErrSyntax");rw[show((Hk.filter λx=>x.2.handleName?.isNone).filter λx=>x.1== "strconv.ErrSyntax")=[("strconv.ErrSyntax",Rows.laid_strconv_ErrSyntax)]by kernel_rfl]at i;have j:=b.filter (λx=>x.1== "strconv.ErrRange");rw[show((Hk.filter λx=>x.2.handleName?.isNone).filter λx=>x.1== "strconv.ErrRange")=[("strconv.ErrRange",Rows.laid_strconv_ErrRange)]by kernel_rfl]at j;refine⟨?_,?_,?_,Pd zef zdo i,Pd zeg zdp j⟩
 .have c:Lib.TabIs bN W "levels/code.steps" .u32 [0,498536548,997073096,651767980,1994146192,1802195444,1303535960,1342533948,3988292384,4027552580,3604390888,3412177804,2607071920,2262029012,2685067896,3183342108]:=Lib.tabIs_of_head ZD U5 U1 zbo aH aH f;intro k a;rw[yR ZD c k];have:∀k,k<16->(([0,498536548,997073096,651767980,1994146192,1802195444,1303535960,1342533948,3988292384,4027552580,3604390888,3412177804,2607071920,2262029012,2685067896,3183342108]:eD).map λm9=>Value.int .u32 m9).toArray[k]?=M (.int .u32 (N0 k)):=by
   intro k a;match k,a with
   |0,_|1,_|2,_|3,_|4,_|5,_|6,_|7,_|8,_|9,_|10,_|11,_|12,_|13,_|14,_|15,_=>rfl
   |n+16,h=>grind
  exact this k a
 exact Lib.tabIs_of_head zeh zdq zdm zbn aH aH g;let⟨a,u,r,k,l,m,o,c⟩:=d _ (bY.2 rfl);have p:a=[101,114,114,111,114]:=(iK k).symm;subst p;obtain rfl:=iK (zdy.symm.trans l);have e:r∈(List.range 477).filter λt=>prog.rowNamed t [101,114,114,111,114]:=lQ.2 ⟨zm.2 (KD▸m),o⟩;rw[X8]at e;obtain rfl:=bY.1 e;have q:typeHandle bN 44=.pointer (M (X (7) 44)):=aH;rw[q]at c;unfold jO;simpa using yR zch c 0
theorem Qc{W:Z}{f n:R}{g:Addr}{a:iE}(h:W.cells? f g n=M a):y a=n/\∀j,j<n->bA W (g.add j)=a[j]?:=by
 unfold World.cells? at h;split at h;have e:=Lib.mapM_length h;refine⟨dV e,λj d=>?_⟩;let⟨i,b,c⟩:=Lib.mapM_at h j j (by simp[d]);rw[c,b];cases h
theorem Ya{W:Z}{q:Addr}{e b:R}(f:0<e)(o:0<b){Q:R->iE->Prop}(h:∀i,i<e->∃c,W.cells? 0 (q.add (i*b)) b=M c/\Q i c):∃j a,q=(X j a)/\j<G (H W)/\∀i,i<e->∃c,y c=b/\(∀p,p<b->bA W (X j (a+i*b+p))=c[p]?)/\Q i c:=by
 let⟨c,n,_⟩:=h 0 f;let⟨r,l⟩:=Qc n;have k:=l 0 o;rw[xW]at k;have s:(q.add 0).add 0=q:=rfl;rw[s]at k;let⟨j,a,d⟩:=q;have w:∃x,bA W ⟨j,a,d⟩=M x:=⟨c[0]'U,by rw[k];grind⟩;let⟨x,g⟩:=w;have m:j<G (H W)/\d=dE:=by unfold World.cell? at g;simp only at g;split at g;rename_i B D C A;refine⟨?_,?_⟩;(grind);simp_all;cases g
 obtain⟨m,rfl⟩:=m;refine⟨j,a,z,m,λi t=>?_⟩;let⟨c,n,v⟩:=h i t;let⟨r,l⟩:=Qc n;refine⟨c,r,λp u=>?_,v⟩;rw[<-l p u,Go.Deep.add_add];unfold Addr.add;by_cases m9:i*b+p=0;rw[fV m9,bJ,m9];rfl;grind
def yj(P:Program)(t:TypeId):Option (cy (TypeId×R)):=match P.underlying t with
 |some (.struct a)=>M (a.toList.map λf=>(f.type,f.offset))
 |_=>dE
theorem KT{P:Program}{t:TypeId}{l:cy (TypeId×R)}(h:yj P t=M l):∃a,P.underlying t=M (.struct a)/\a.toList.map (λf=>(f.type,f.offset))=l:=by
 unfold yj at h;grind
theorem wv{u7:Type}{c:TypeId×ae->u7}{P:Program}{w:Z}{k d:R}{l:R->eN}{b:eN}{t:TypeId}{i:iE}{x:DataW u7×cy MemPlace}{q:cy (TypeId×R)}(n:yj P t=M q)(h:DataW.trod c P w k l b d t i=M x):∃(e:cy (DataW u7×cy MemPlace))(r:R),x.1=.agg (e.map (·.1))/\y e=y q/\∀(p f a:R),q[p]?=M (f,a)->∃j,e[p]?=M j/\DataW.trod c P w k l b r f ((i.drop a).take (P.cellsOf f))=M j:=by
 obtain⟨s,o,rfl⟩:=KT n;obtain⟨e,r,_,rfl,_,g,u⟩:=DataW.trod_struct o h;refine⟨e,r,z,dV g,λp f a m=>?_⟩;rw[fO,rI]at m;grind
theorem Qf{u7:Type}(l r:cy (DataW u7)):Rows.uptoBulkAll (l++r)=Rows.uptoBulkAll l+Rows.uptoBulkAll r:=by
 induction l with
 |nil=>simp[Rows.uptoBulkAll]
 |cons x l a=>simp only[dt,Rows.uptoBulkAll,a];omega
theorem Qe{u7:Type}{D:R->DataW u7}{g:R->R}:∀(n:R),(∀i,i<n->g i<=Rows.uptoBulk (D i))->((List.range n).map g).sum<=Rows.uptoBulkAll ((List.range n).map D)
 |0,_=>by simp
 |n+1,h=>by
  have:=Qe n (λi a=>h i U);have:=h n U;rw[yU,bz,bz,eX,Qf];simp[Rows.uptoBulkAll];omega
theorem zbs:yj bN 66=M [(9,0),(9,1),(4,2)]:=aH
theorem zdu:yj bN 72=M [(3,0),(58,1)]:=aH
theorem zdt:yj bN 60=M [(3,0),(3,1),(3,2),(9,3),(9,4),(58,5)]:=aH
theorem zds:yj bN 33=M [(3,0),(3,1),(9,2),(31,3)]:=aH
theorem XA:prog.underlying 58=M (.slice 66):=aH
theorem zbk:prog.underlying 22=M (.slice 72):=aH
theorem zbj:prog.underlying 24=M (.slice 60):=aH
theorem zbi:prog.underlying 23=M (.slice 33):=aH
theorem zbm:prog.underlying 31=M (.slice 5):=aH
theorem Xz:prog.underlying 9=M .string:=aH
theorem Q5:prog.underlying 4=M .bool:=aH
theorem IA:prog.underlying 3=M (.int .i64):=aH
theorem zbl:prog.underlying 5=M (.int .u8):=aH
theorem zad:prog.cellsOf 9=1:=aH
theorem zcn:prog.cellsOf 4=1:=aH
theorem zae:prog.cellsOf 3=1:=aH
theorem zcm:prog.cellsOf 5=1:=aH
theorem S3:prog.cellsOf 58=1:=aH
theorem zel:prog.cellsOf 31=1:=aH
theorem zek:prog.cellsOf 66=3:=aH
theorem cDd:prog.cellsOf 72=2:=aH
theorem cOp:prog.cellsOf 60=6:=aH
theorem cSp:prog.cellsOf 33=4:=aH
theorem mC{a:iE}{k:R}{u:ae}(h:(a.drop k).take 1=[u]):a[k]?=M u:=by
 have:=cD (λl=>l[0]?) h;grind
theorem GY:∀{l:cy R}{x:R},x∈l->x<=l.sum
 |[],x,h=>by cases h
 |g9::l,x,h=>by
  rw[fq];obtain e|e:=dy.1 h
  .omega
  .have:=GY e;omega
theorem xR{α:Type}(f:α->iE)(k:R)(b:∀o,y (f o)=k):∀a:cy α,y (a.flatMap f)=y a*k
 |[]=>by simp
 |o::a=>by
  rw[dR,ai,b,xR f k b a,bK,Ci];omega
theorem PF{α:Type}(f:α->iE)(k:R)(b:∀o,y (f o)=k):∀(a:cy α)(i:R)(h:i<y a)(j:R),j<k->(a.flatMap f)[i*k+j]?=(f a[i])[j]?
 |[],i,h,j,_=>by simp at h
 |o::a,i,h,j,c=>by
  rw[dR];cases i with
  |zero=>
   rw[xW,ez,ir (by rw[b];exact c)];rfl
  |succ i=>
   rw[fP (by rw[b,Ci];omega),b,show(i+1)*k+j-k=i*k+j by rw[Ci];omega,PF f k b a i (dV h) j c];rfl
section
variable{u7:Type}{enc:TypeId×ae->u7}
abbrev sS(enc:TypeId×ae->u7)(W:Z)(a:R)(t:TypeId)(b:iE)(x:DataW u7×cy MemPlace):Prop:=DataW.trod enc bN W 0 (λ_=>cz) cz a t b=M x
theorem xG{α:Type}(T:Inhabited α)(B:α->iE)(k:R)(N:∀s,y (B s)=k)(O:0<k){ap aa:TypeId}(ht:prog.underlying ap=M (.slice aa))(he:prog.cellsOf aa=k){W:Z}(V:α->R->Prop)(one:∀ab m x,sS enc W ab aa m x->Rows.uptoBulk x.1<=1048576->∃s:α,(∀j,j<k->m[j]?=(B s)[j]?)/\V s (Rows.uptoBulk x.1)){o:R}{ac:ae}{x:DataW u7×cy MemPlace}(h:sS enc W o ap [ac] x)(L:Rows.uptoBulk x.1<=1048576):(ac=aF\/∃ad av,ac=.slice (M ad) 0 av)\/∃(l:cy α)(A b e:R)(an:R->R),ac=bX A b (y l) e/\y l<=e/\A<G (H W)/\0<y l/\(∀j al,(l.flatMap B)[j]?=M al->bA W (X A (b+j))=M al)/\(∀i(d:i<y l),V l[i] (an i))/\((List.range (y l)).map an).sum+1<=Rows.uptoBulk x.1:=by
 obtain⟨n,_⟩|⟨ad,a,e,ao,ab,D,C,n,_,hl,_,P,e2,p⟩:=Go.Deep.open_slice ht h;simp only[iL,rF]at n;exact J (J n);simp only[iL,rF]at n;simp only[mS]at P;subst n P;by_cases h0:a=0;subst h0;exact J (bj ⟨ad,ao,z⟩);right;rw[he]at p;obtain⟨A,b,rfl,hb,t⟩:=Ya (Q:=λi m=>DataW.trod enc bN W 0 (λ_=>cz) cz ab aa m=M (D i,C i)) (U:0<a) O (λi d=>p i U);have S:=Qe (D:=D) (g:=λi=>Rows.uptoBulk (D i)) a (λi _=>aq _);rw[e2]at L|-;simp only[Rows.uptoBulk]at L|-;(have w:∀i,i<a->Rows.uptoBulk (D i)<=1048576:=λi d=>by have:Rows.uptoBulk (D i)<=((List.range a).map (λi=>Rows.uptoBulk (D i))).sum:=GY (cC.2 ⟨i,zm.2 d,z⟩);omega);(have r:∀i,i<a->∃s:α,(∀j,j<k->bA W (X A (b+i*k+j))=(B s)[j]?)/\V s (Rows.uptoBulk (D i)):=λi d=>by let⟨m,Q,u,v⟩:=t i d;let⟨s,E,K⟩:=one ab m (D i,C i) v (w i d);exact⟨s,λj q=>(u j q).trans (E j q),K⟩);let⟨F,hF⟩:=Go.Deep.choose_lt r;have c:y ((List.range a).map F)=a:=ar;refine⟨(List.range a).map F,A,b,ao,λi=>Rows.uptoBulk (D i),by rw[c],by rw[c];exact hl,hb,by rw[c];omega,λj al q=>?_,λi d=>?_,by rw[c];omega⟩;(have u:j<a*k:=by have:=(iq.1 q).1;rw[xR B k N,c]at this;exact this);have d:j/k<a:=Nat.div_lt_of_lt_mul (by rw[Nat.mul_comm];exact u);have Q:j%k<k:=oh _ O;(have v:j/k*k+j%k=j:=by rw[Nat.mul_comm];exact Nat.div_add_mod j k);have K:=PF B k N ((List.range a).map F) (j/k) (by rw[c];exact d) (j%k) Q;have E:=(hF (j/k) d).1 (j%k) Q;have f:((List.range a).map F)[j/k]'(by rw[c];exact d)=F (j/k):=ar;rw[f,v]at K;rw[bJ,v]at E;rw[E,<-K,q];(have u:i<a:=by rwa[c]at d);have f:((List.range a).map F)[i]'d=F i:=ar;rw[f];exact(hF i u).2
theorem vt{B:R->R}{c:R}:∀n:R,(∀i,i<n->c<=B i)->c*n<=((List.range n).map B).sum
 |0,_=>by simp
 |n+1,h=>by
  have:=vt n (λi a=>h i U);have:=h n U;rw[yU,bz,eX,Nat.mul_succ];simp;omega
theorem YC{W:Z}{a:R}{f:iE}{F:DataW u7×cy MemPlace}(h:sS enc W a 66 f F):∃v:Na,(∀j,j<3->f[j]?=(oH v)[j]?)/\v.D.size+v.l.size+4<=Rows.uptoBulk F.1:=by
 let⟨o,K,A,x,b⟩:=wv zbs h;let⟨C,g,l⟩:=b 0 _ _ rfl;let⟨D,i,m⟩:=b 1 _ _ rfl;let⟨E,k,n⟩:=b 2 _ _ rfl;rw[zad]at l m;rw[zcn]at n;let⟨d,p,s,_⟩:=oY Xz l;let⟨e,q,t,_⟩:=oY Xz m;let⟨B,r,u⟩:=DataW.trod_bool Q5 n
 have c:o=[C,D,E]:=by
  match o,x,g,i,k with
  |[L,N,O],_,g,i,k=>grind
 refine⟨⟨d,e,B⟩,λj w=>?_,?_⟩
 .match j,w with
  |0,_=>exact mC p
  |1,_=>exact mC q
  |2,_=>exact mC r
  |K+3,h=>omega
 rw[A,c,s,t,u];simp[Rows.uptoBulk,Rows.uptoBulkAll];have:d.size=d.data.size:=rfl;have:e.size=e.data.size:=rfl;omega
theorem JE{W:Z}{b:R}{L:ae}{x:DataW u7×cy MemPlace}(h:sS enc W b 58 [L] x)(n:Rows.uptoBulk x.1<=1048576):∃l:vW,Q3 W L l:=by
 obtain(rfl|⟨q,d,rfl⟩)|⟨k,r,a,e,B,rfl,j,o,_,c,m,s⟩:=xG ⟨⟨⟨#[]⟩,⟨#[]⟩,bD⟩⟩ oH 3 (λ_=>rfl) U XA zek (λd B=>d.D.size+d.l.size+4<=B/\B<=1048576) (λi l x f g=>(YC f).imp (λd c=>⟨c.1,c.2,g⟩)) h n;exact⟨[],J ⟨⟨z,J ⟨z,z⟩⟩,λt i=>by cases i⟩,ar,ar⟩;exact⟨[],bj ⟨z,q,d,z⟩,ar,ar⟩;refine⟨k,J ⟨⟨xR oH 3 (λ_=>rfl) k,bj ⟨r,a,e,z,j,c⟩⟩,λt i=>by cases i;exact o⟩,λd f=>?_,?_⟩;obtain⟨p,g,rfl⟩:=dJ f;have:=m p g;omega;have:=vt (B:=B) (c:=4) (y k) (λp g=>bP (m p g));omega
end
section
variable{u7:Type}{enc:TypeId×ae->u7}
theorem DD{t j:TypeId}(f:prog.underlying t=M (.slice j)){W:Z}{a:R}{d:iE}{x:DataW u7×cy MemPlace}(h:sS enc W a t d x):∃L,d=[L]/\1<=Rows.uptoBulk x.1:=by
 obtain⟨b,c⟩|⟨k,g,e,m,n,D,i,b,_,_,_,_,c,_⟩:=Go.Deep.open_slice f h;exact⟨_,b,by rw[c];simp[Rows.uptoBulk]⟩;exact⟨_,b,by rw[c];simp[Rows.uptoBulk]⟩
theorem VB{W:Z}{a:R}{g:iE}{x:DataW u7×cy MemPlace}(h:sS enc W a 72 g x)(B:Rows.uptoBulk x.1<=1048576):∃u:Xs,(∀j,j<2->g[j]?=u.bU[j]?)/\Q3 W u.L u.cs/\3<=Rows.uptoBulk x.1:=by
 let⟨n,C,t,s,i⟩:=wv zdu h;let⟨w,k,m⟩:=i 0 _ _ rfl;let⟨o,l,b⟩:=i 1 _ _ rfl;rw[zae]at m;rw[S3]at b;let⟨v,p,q,_⟩:=nM IA m;let⟨L,f,A⟩:=DD XA b;rw[f]at b
 have e:n=[w,o]:=by
  match n,s,k,l with
  |[D,E],_,k,l=>grind
 have:Rows.uptoBulk o.1+2<=Rows.uptoBulk x.1:=by rw[t,e,q];simp[Rows.uptoBulk,Rows.uptoBulkAll];omega
 let⟨c,d⟩:=JE b U;refine⟨⟨v,L,c⟩,λj r=>?_,d,U⟩;match j,r with
 |0,_=>exact mC p
 |1,_=>exact mC f
 |C+2,h=>omega
theorem Sc{W:Z}{d:R}{v:ae}{x:DataW u7×cy MemPlace}(h:sS enc W d 22 [v] x)(l:Rows.uptoBulk x.1<=1048576):∃j b g,v=.slice j (y b) g/\y b<=349525/\(b=[]\/∃r a,j=M (X r a)/\Ur W (bX r a (y b) g) b):=by
 obtain(rfl|⟨j,g,rfl⟩)|⟨b,q,a,c,B,rfl,f,m,_,n,i,s⟩:=xG ⟨⟨0,aF,[]⟩⟩ Xs.bU 2 (λ_=>rfl) U zbk cDd (λp B=>Q3 W p.L p.cs/\3<=B) (λt o x e k=>VB e k) h l;exact⟨dE,[],0,z,ar,J z⟩;exact⟨M j,[],g,z,ar,J z⟩;have:=vt (c:=3) (y b) (λo e=>(i o e).2);exact⟨_,b,c,z,U,bj ⟨q,a,z,⟨xR Xs.bU 2 (λ_=>rfl) b,bj ⟨q,a,c,z,f,n⟩⟩,λj g=>by cases g;exact m,λp k=>by obtain⟨o,e,rfl⟩:=dJ k;exact(i o e).1,U⟩⟩
theorem I5{aa:Z}{b:R}{k:iE}{C:DataW u7×cy MemPlace}(h:sS enc aa b 60 k C)(hB:Rows.uptoBulk C.1<=1048576):∃s:Xk,(∀l,l<6->k[l]?=s.bU[l]?)/\(Q3 aa s.L s.cs/\s.S.size<=1048576/\s.T.size<=1048576)/\1<=Rows.uptoBulk C.1:=by
 let⟨A,ac,W,V,a⟩:=wv zdt h;let⟨y0,m,t⟩:=a 0 _ _ rfl;let⟨y1,n,u⟩:=a 1 _ _ rfl;let⟨y2,o,v⟩:=a 2 _ _ rfl;let⟨y3,p,w⟩:=a 3 _ _ rfl;let⟨y4,q,x⟩:=a 4 _ _ rfl;let⟨B,r,e⟩:=a 5 _ _ rfl;rw[zae]at t u v;rw[zad]at w x;rw[S3]at e;let⟨s0,D,N,_⟩:=nM IA t;let⟨s1,E,O,_⟩:=nM IA u;let⟨s2,F,P,_⟩:=nM IA v;let⟨c,K,Q,_⟩:=oY Xz w;let⟨d,L,S,_⟩:=oY Xz x;let⟨ab,j,h5⟩:=DD XA e;rw[j]at e
 have i:A=[y0,y1,y2,y3,y4,B]:=by
  match A,V,m,n,o,p,q,r with
  |[z0,z1,z2,z3,z4,z5],_,m,n,o,p,q,r=>grind
 have:c.size=c.data.size:=rfl;have:d.size=d.data.size:=rfl;have:Rows.uptoBulk B.1+c.size+d.size+1<=Rows.uptoBulk C.1:=by rw[W,i,N,O,P,Q,S];simp[Rows.uptoBulk,Rows.uptoBulkAll];omega
 let⟨f,g⟩:=JE e U;refine⟨⟨s0,s1,s2,c,d,ab,f⟩,λl T=>?_,⟨g,by show c.size<=_;omega,by show d.size<=_;omega⟩,U⟩;match l,T with
 |0,_=>exact mC D
 |1,_=>exact mC E
 |2,_=>exact mC F
 |3,_=>exact mC K
 |4,_=>exact mC L
 |5,_=>exact mC j
 |ac+6,h=>omega
theorem YB{W:Z}{d:R}{v:ae}{x:DataW u7×cy MemPlace}(h:sS enc W d 24 [v] x)(m:Rows.uptoBulk x.1<=1048576):∃l b j,v=.slice l (y b) j/\(b=[]\/∃r a,l=M (X r a)/\Tt W (bX r a (y b) j) b):=by
 obtain(rfl|⟨l,j,rfl⟩)|⟨b,q,a,c,B,rfl,g,n,_,p,f,s⟩:=xG ⟨⟨0,0,0,⟨#[]⟩,⟨#[]⟩,aF,[]⟩⟩ Xk.bU 6 (λ_=>rfl) U zbj cOp (λo B=>(Q3 W o.L o.cs/\o.S.size<=1048576/\o.T.size<=1048576)/\1<=B) (λt k x e i=>I5 e i) h m;exact⟨dE,[],0,z,J z⟩;exact⟨M l,[],j,z,J z⟩;have:=vt (c:=1) (y b) (λk e=>(f k e).2);exact⟨_,b,c,z,bj ⟨q,a,z,⟨xR Xk.bU 6 (λ_=>rfl) b,bj ⟨q,a,c,z,g,p⟩⟩,λl j=>by cases j;exact n,λo i=>by obtain⟨k,e,rfl⟩:=dJ i;exact(f k e).1.1,λo i=>by obtain⟨k,e,rfl⟩:=dJ i;exact(f k e).1.2,U⟩⟩
theorem SK(a:eD):a.flatMap (λn=>[Value.int .u8 n])=a.map (Value.int .u8):=by
 induction a with
 |nil=>rfl
 |cons c r b=>simp[b]
theorem Sd{W:Z}{b:R}{w:ae}{x:DataW u7×cy MemPlace}(h:sS enc W b 31 [w] x)(p:Rows.uptoBulk x.1<=1048576):∃e:eD,ByA W w e/\y e<=Rows.uptoBulk x.1:=by
 have one:∀n a(x:DataW u7×cy MemPlace),sS enc W n 5 a x->Rows.uptoBulk x.1<=1048576->∃d:Y,(∀j,j<1->a[j]?=[Value.int .u8 d][j]?)/\(0<=d/\d<256)/\1<=Rows.uptoBulk x.1:=λn a x o f=>by let⟨t,c,l,u⟩:=nM zbl o;refine⟨t,λj i=>?_,?_,?_⟩;obtain rfl:j=0:=U;rw[c];simp[Lit.wf,IntKind.min,IntKind.max,IntKind.signed,IntKind.bits]at u;omega;rw[l];simp[Rows.uptoBulk]
 obtain(rfl|⟨v,d,rfl⟩)|⟨k,A,a,m,B,rfl,s,r,C,g,f,D⟩:=xG ⟨(0:Y)⟩ (λn=>[Value.int .u8 n]) 1 (λ_=>rfl) U zbm zcm (λn B=>(0<=n/\n<256)/\1<=B) one h p;exact⟨[],⟨⟨dE,0,z⟩,by simp[ki],λx d _ q=>absurd rfl q,J rfl,λ_=>rfl⟩,ar⟩;exact⟨[],⟨⟨M v,d,z⟩,by simp[ki],λx d _ q=>absurd rfl q,bj ⟨v,d,rfl⟩,λ_=>rfl⟩,ar⟩;have:=vt (c:=1) (y k) (λt c=>(f t c).2);rw[SK]at g;refine⟨k,⟨⟨_,_,z⟩,λn o=>?_,λx d l _=>?_,bj ⟨_,_,z⟩,λl=>by cases l⟩,U⟩;obtain⟨t,c,rfl⟩:=dJ o;exact(f t c).1;cases l;exact⟨λj u i=>by rw[dS];exact g j u i,A,a,z,r⟩
theorem Sb{W:Z}{a:R}{j:iE}{x:DataW u7×cy MemPlace}(h:sS enc W a 33 j x)(hB:Rows.uptoBulk x.1<=1048576):∃p:Tr,(∀k,k<4->j[k]?=p.bU[k]?)/\(ByA W p.bv p.bs/\p.nm.size<=1048576)/\y p.bs<=Rows.uptoBulk x.1:=by
 let⟨t,aa,L,K,c⟩:=wv zds h;let⟨P,l,q⟩:=c 0 _ _ rfl;let⟨Q,m,r⟩:=c 1 _ _ rfl;let⟨S,n,s⟩:=c 2 _ _ rfl;let⟨u,o,d⟩:=c 3 _ _ rfl;rw[zae]at q r;rw[zad]at s;rw[zel]at d;let⟨N,v,B,_⟩:=nM IA q;let⟨O,w,C,_⟩:=nM IA r;let⟨b,A,D,_⟩:=oY Xz s;let⟨T,g,V⟩:=DD zbm d;rw[g]at d
 have f:t=[P,Q,S,u]:=by
  match t,K,l,m,n,o with
  |[z0,z1,z2,z3],_,l,m,n,o=>grind
 have:b.size=b.data.size:=rfl;have:Rows.uptoBulk u.1+b.size+1<=Rows.uptoBulk x.1:=by rw[L,f,B,C,D];simp[Rows.uptoBulk,Rows.uptoBulkAll];omega
 let⟨i,e,E⟩:=Sd d U;refine⟨⟨N,O,b,T,i⟩,λk F=>?_,⟨e,by show b.size<=_;omega⟩,by show y i<=_;omega⟩;match k,F with
 |0,_=>exact mC v
 |1,_=>exact mC w
 |2,_=>exact mC A
 |3,_=>exact mC g
 |aa+4,h=>omega
theorem D7{α:Type}(f:α->R){B:R->R}(a:cy α)(h:∀i(g:i<y a),f a[i]<=B i):(a.map f).sum<=((List.range (y a)).map B).sum:=by
 have b:∀n,n<=y a->((a.take n).map f).sum<=((List.range n).map B).sum:=by
  intro n;induction n with
  |zero=>simp
  |succ n c=>
   intro j;have d:=c U;have e:=h n U;rw[aG U,yU,bz,bz,eX,eX];simp only[bO,gA,fq,List.sum_nil];omega
 have:=b (y a) (aq _);rwa[cQ]at this
theorem Ox{W:Z}{d:R}{v:ae}{x:DataW u7×cy MemPlace}(h:sS enc W d 23 [v] x)(l:Rows.uptoBulk x.1<=1048576):∃i b j,v=.slice i (y b) j/\(b=[]\/∃r a,i=M (X r a)/\B6 W (bX r a (y b) j) b):=by
 obtain(rfl|⟨i,j,rfl⟩)|⟨b,q,a,c,B,rfl,f,m,_,n,g,s⟩:=xG ⟨⟨0,0,⟨#[]⟩,aF,[]⟩⟩ Tr.bU 4 (λ_=>rfl) U zbi cSp (λo B=>(ByA W o.bv o.bs/\o.nm.size<=1048576)/\y o.bs<=B) (λt p x e k=>Sb e k) h l;exact⟨dE,[],0,z,J z⟩;exact⟨M i,[],j,z,J z⟩;have:=D7 (λo:Tr=>y o.bs) b (λp e=>(g p e).2);exact⟨_,b,c,z,bj ⟨q,a,z,⟨xR Tr.bU 4 (λ_=>rfl) b,bj ⟨q,a,c,z,f,n⟩⟩,λj i=>by cases i;exact m,λo k=>by obtain⟨p,e,rfl⟩:=dJ k;exact(g p e).1,by unfold QF;omega⟩⟩
end
