import Derived.Test.YtgbhcncpienkcaaGreatDoorC5
import Derived.Test.YtgbhcncpienkcaaGreatDoorC6
open _root_ renaming List.length→y,Option.some→H,Array.size→z,Go.World.heap→G,Go.Value.ownBlock→ct,Go.World.cell?→aO,Go.World.setCell→cA,Go.World.alloc→cF,Bool.false→aY,Bool.true→bU,Nat→M,Int→Z,List→cw,Go.Calls→cD,Go.undef→ix,Go.Proofs.Tryz.prog→bz,Go.Value.slice→J,Go.Value.string→aj,Go.Value.bool→aK,Go.Value.pointer→fj,Go.Value.tuple→dw,Go.Value.agg→dW
namespace Go.Proofs.YtgbhcncpienkcaaGreatDoor
open ChangeShapes WideShapes RowKit Proofs.Tryz List
set_option maxHeartbeats 16000000
set_option linter.all false
set_option maxRecDepth 100000
variable{a f C:Y}{b c g l:M}{d u N:aa}{e:cJ}{i o r s:cf}{j P:DK}{m K:Z}{n:SR}{X:fA}{t:iY}{W:ab}{x:iC}{B:mq}{F:jN}{O:bA}
def rr(V:iY)(g:M)(P Q:Y->Prop)(h:aa)(e:cJ)(w:Y):Prop:=∃t v f b,h=.iface t v/\(∀w,(Go.method 554 t v "Find").run bz w=.ok (f,b) w)/\Enters bz f/\∀a(d:Z)w',jF V g az w w'->P w'->cD bz f #[b,aj a,aJ d] w' λi c=>i=aL (tv<|iI d e a)/\Q c/\I V.F w' c
def TJ(v:aa)(w:Y):(Go.method 554 100 v "Find").run bz w=.ok (326,v) w:=by kernel_rfl
def TI(v:aa)(w:Y):(Go.method 554 142 v "Find").run bz w=.ok (328,v) w:=by kernel_rfl
def WG(v:aa)(w:Y):(Go.method 554 97 v "Find").run bz w=.ok (322,v) w:=by kernel_rfl
def rr.xP(j:sf t b d i a)(c:b<=z (G a))(hF:∀k,t.F k->k<b):rr t b t.D t.Eb (.iface 100 d) (cg i) a:=⟨_,d,_,d,rfl,TJ d,enters_of func326 (by kernel_rfl) rfl,λe g l f h=>Tm e g (j.same f) h (aC c f.1) hF⟩
def rr.table(h:nF t b O.tb O.ks O.cs a)(c:b<=z (G a))(hF:∀k,t.F k->k<b):rr t b t.D t.Eb (.iface 142 O.ptr) O.all a:=⟨_,O.ptr,_,O.ptr,rfl,TI O.ptr,enters_of func328 (by kernel_rfl) rfl,λd f i e g=>CH d f (h.same e) g (aC c e.1) hF⟩
def kr.same{V:iY}{n0:M}(o:kr a d e)(l:jF V n0 az a f)(m:∀i,ct d=Option.some i->i<n0/\¬V.F i):kr f d e:=by
 obtain⟨h,⟨rfl,j⟩|⟨n,b,c,rfl,g,k⟩⟩:=o;exact⟨h,.inl ⟨rfl,j⟩⟩;exact⟨h,.inr ⟨n,b,c,rfl,g,λo u j=>l.cell (.inr<|m n rfl)<|k o u j⟩⟩
def rr.list{V:iY}(o:kr a d e)(n:dM e)(m:y e<=1000000000000)(j:∀i,ct d=H i->i<b/\¬V.F i)(g:b<=z (G a)):rr V b V.D V.D (.iface 97 d) e a:=by
 refine⟨_,d,_,d,rfl,WG d,enters_of func322 (by kernel_rfl) rfl,λh k p c l=>?_⟩;apply(AJ h k (o.same c j) n m<|λi f=>ag (ag (j i f).1 g) c.1).mono;rintro r q⟨rfl,f⟩;exact⟨rfl,V.fD l (I.aR (S:=az) f) cO,I.aR f⟩
def wL(c:Z)(b:ab)(a:cw (aa×cJ)):Option E:=a.findSome?<|λr=>iI c r.2 b
def Yt:Option E->aa
 |some x=>.tuple #[.string x.val,.bool<|!x.del,.nilIface]
 |none=>.tuple #[.string ⟨#[]⟩,.bool aY,.nilIface]
def UZ{a:cw (aa×cJ)}(h:b<y a)(c:wL m W (a.take b)=none):wL m W a=(iI m a[b].2 W).or (wL m W<|a.drop<|b+1):=by
 have e:a=a.take b++a[b]::a.drop (b+1):=by rw[<-aZ h,bN]
 unfold wL at*;grind
def WE(w:Y)(c:M)(a:ab)(d:Z)(e:¬(1<=a.size/\a.size<=8))(f:a.size<=140737488351232):cD bz 78 #[ay c,aj a,aJ d] w λi g=>i=aL (dw #[aj ⟨#[]⟩,aK aY,kN 3])/\g=w:=by
 have b:=λW=>rj a W f;rw[rW e]at b;go_in
 go_wp2_with(go_at_call 84;refine(b _).mono ?_;rintro i j⟨rfl,rfl⟩)
 refine cP (mU rfl _ _ _) rfl ?_;exact⟨rfl,rfl⟩
def r8{d:M->Y->Prop}(h:∀b a,d b a->d (b+1) a)(e:b<=c)(q:d b a):d c a:=by
 induction e with
 |refl=>exact q
 |step _ f=>exact h _ _ f
def WF{V:iY}(n0:M)(p0 p1 p2 p3:aa×cf)(c:cw (aa×cJ))(d:ab)(v:Z)(h:bJ a b n m)(mx:Option Addr)(mn mc:M)(bf:n.memory=J mx mn mc)(hl:DB a b 10 [p0,p1,p2,p3])(P:c.map (·.1)=xF n.memory p0 p1 p2 p3)(k:M->Y->Prop)(q:∀al(a w':Y)(cd:fA),k al a->I cd a w'->(∀m,cd m->¬V.F m)->k al w')(bd:∀al a,k al a->k (al+1) a)(hR:∀al(hi:al<y c),rr V n0 (k al) (k<|al+1) c[al].1 c[al].2 a)(hD:k 0 a)(bs:n0<=z (G a))(hF:∀m,V.F m->m<n0)(hk:1<=d.size/\d.size<=8)(bk:∀cu∈c,∀x∈cu.2,x.val.size<=281474976710656):cD bz 78 #[ay b,aj d,aJ v] a λbv w'=>bv=aL (Yt<|wL v d c)/\k (y c) w'/\I V.F a w':=by
 have Q:=λce=>rj d ce (by omega);rw[mw hk]at Q;have X:=Ew p0 p1 p2 p3 h mx mn mc bf hl;have p:y (pE p0 p1 p2 p3)+1=y c:=by have:=bX y P;simp[xF]at this;omega
 rw[<-P,p]at X;have bx:y c<=1000000000:=by have:=hl.small;rw[<-p];simp[pE,mf]at this|-;omega
 obtain⟨HR,HD,HF,bo,i,bl⟩:=jX hR hD hF bk q bd;clear h hl bf P hR hD hF p bk q bd;go_in
 go_wp2_with fail
 apply(Q _).mono;rintro bv w1⟨rfl,cn⟩;subst w1;go_wp2_with fail
 apply X.mono;rintro bv w1⟨v1,rfl,S,bi⟩;obtain⟨x1,c1,bt⟩:=aA S;subst bt;have aq:=U S;have au:=U bi;clear S bi X Q;go_wp2_with fail
 go_loopw [21] (λal wr=>∃D:M,D<=y c/\al=ap D/\k D wr/\I V.F w1 wr/\wL v d (c.take D)=none) (λal _=>y c-(intOf al).toNat)
 case atStart=>exact⟨0,bj _,rfl,i _ _ _ _ HD au cO,I.refl _ _,rfl⟩
 case round=>
  obtain⟨D,hn,rfl,e,t,g⟩:=hrel;have r:I V.F a wr:=(au.mono (T:=V.F) cO).trans t<|λ_ p=>.inl p;by_cases f:D<y c
  .obtain⟨cq,cs,cp,co,bh,hm,he,o⟩:=HR D f;have eg:∀c a,(callFunc cp c).run bz a=.ok (.enter cp c) a:=he;have u:=o d v wr (r.same bs cO<|λm hk _=>hk) e;have bg:∀m,z (G a)<=m->¬V.F m:=λm hk c=>by have:=HF m c;omega
   have W:=t.own aq<|λm hk=>bg m (aq.lt m hk).1;obtain⟨bq,hx,cm⟩:∃bq,x1=H (R bq 0)/\aO wr (R bq D)=H (.iface cq cs):=by
    rcases W.2 with⟨j,F⟩|⟨B,w,A,j,_⟩
    .omega
    .cases j;refine⟨B,rfl,?_⟩;have:=pH W D (.iface cq cs) (by rw[dP,aI f];simp[bh]);rwa[du,dp]at this
   subst hx;have bb:=UZ f g;have q:wL v d (c.take<|D+1)=iI v c[D].2 d:=by
    rw[ah f];unfold wL at g|-;rw[List.findSome?_append,g];cases h:iI v c[D].2 d<;>simp[h]
   have ad:∀x,iI v c[D].2 d=H x->x.val.size<=281474976710656:=λx hx=>bo _ (ak f) x<|lz hx;obtain⟨an,bn,N,ao,bm⟩:=je e t r bb q;have e1:(D:Z)<(y c:Z):=by omega
   clear e t r bh he o g W bg bb q;cases hfe:iI v c[D].2 d with
   |none=>
    rw[hfe]at u;unfold tv xe at u;simp only at u;have L:=U hfe;clear hfe ad;go_wp2_with fail
    apply u.mono;rintro bv C⟨rfl,l,s⟩;have K:=U l;have O:=U s;clear l s u;go_wp2;go_roundw;case rel=>
     refine⟨D+1,f,by go_num,i _ _ _ _ K (cK az C) cO,?_,?_⟩
     .exact(bn.trans O<|λ_ p=>.inl p).alloc _
     .rw[ae bm,ae L]
    case measure=>simp[intOf];omega
   |some x=>
    have bu:=ad x hfe;rw[hfe]at u;unfold tv E.value at u;simp only at u;have br:=λce=>rl x.val ce bu;have bT:∀(x:Bool)(a:Y),(Op.unary .not<|aK x).run bz a=.ok (aK<|!x) a:=λ_ _=>rfl;have L:=U hfe;clear hfe ad;go_wp2_with fail
    apply u.mono;rintro bv C⟨rfl,l,s⟩;have K:=U l;have O:=U s;clear l s u;go_wp2_with fail
    have j:ii (cF C<|ar #[aj x.key,aj x.val,aK x.del,aJ x.bP] 180) (z<|G C) x:=aB _ rfl;have A:I V.F a (cF C<|ar #[aj x.key,aj x.val,aK x.del,aJ x.bP] 180):=(N.trans O<|λ_ p=>.inl p).alloc _;have w:k (y c) (cF C<|ar #[aj x.key,aj x.val,aK x.del,aJ x.bP] 180):=r8 bl f<|i _ _ _ _ K (cK az C) cO;generalize cF C (ar #[aj x.key,aj x.val,aK x.del,aJ x.bP] 180)=W3 at j A w|-;generalize z (G C)=eb at j|-;obtain⟨ch,cj,bp,ck⟩:=j.cells;have bc:=am j;obtain⟨cc,ca,cb⟩:=dA A w j;have HA:=U (show∀F,Below (z<|G W3) W3.drew F->aO F (R eb 2)=H (aK x.del)/\k (y c) F/\I V.F a F from by
     intro F B;have ac:I az W3 F:=(ci az W3).cr (I.aR (S:=az) B);exact⟨ac.cell bp id bc,i _ _ _ _ w ac cO,A.cr ac⟩)
    clear j A w;go_region_with(first|(go_at_call 122;refine(br _).mono ?_;rintro bv F⟨rfl,B⟩;obtain⟨cl,ax,ba⟩:=HA F B;have av:=U<|And.intro ax ba;clear ax ba B))
    all_goals(go_wp2;refine cP (mU rfl _ _ _) rfl ?_;exact⟨by rw[ae ao,ae L];rfl,av.1,av.2⟩)
  .have j:D=y c:=by omega
   rw[j,aX]at g;have e:k (y c) wr:=j▸e;obtain⟨l,an,N⟩:=dA g e r;have e1:¬(D:Z)<(y c:Z):=by omega
   clear g e r t j;go_wp2;refine cP (mU rfl _ _ _) rfl ?_;exact⟨by rw[ae l];rfl,an,N⟩
structure Aside(w:Y)(K:DK)(db sb k:M):Prop where
 lt:k<z (G w)
 aU:¬K.aU db k
 ne:k≠sb
def Aside.eW(h:Aside a j c g l)(d:fY a f c g j P):Aside f P c g l:=⟨ag h.lt d.aw.size,λe=>(d.aU l e).elim h.aU (λi=>by have:=h.lt;omega),h.ne⟩
def Aside.block{w w':Y}(h:Aside w j c g l)(a:fY w w' c g j P):w'.heap[l]?=w.heap[l]?:=a.aw.block l h.lt<|λd=>d.elim h.aU h.ne
def Aside.cell{w w':Y}{c a k i:M}(h:Aside w j c a k)(g:fY w w' c a j P)(e:aO w (R k i)=H d):aO w' (R k i)=H d:=(cR (w:=w)<|h.block g).trans e
def An(n:Row a g d l x)(i:fY a f b c j P)(e:∀k,ct d=H k->Aside a j b c k):Row f g d l x:=i.aw.row n<|λk h=>⟨λm=>m.elim (e k h).aU (e k h).ne,(e k h).lt⟩
structure qC(w:Y)(db:M)(fs:Fs)(A:fA)(t:bA):Prop where
 mem:∃bb boff wZ,lS w t.tb (ay db) t.num (y<|dG t.cs) (y<|fo<|bS 0 t.cs) (ng<|fo<|bS 0 t.cs) bb boff wZ aD t.ks/\A bb
 loc:A t.tb
 ks:t.ks=bS 0 t.cs
 num:t.num<18446744073709551616
 pure:tP t.ks t.cs
 idx:Cu (bS 0 t.cs)
 small:y (dG t.cs)<=100000
 file:dX fs (fC t.num)=H (mR t.cs)
def qC.eW(h:qC a c (vw j.files) (Aside a j c g) O)(i:fY a f c g j P)(m:dX (vw P.files) (fC O.num)=dX (vw j.files) (fC O.num)):qC f c (vw P.files) (Aside f P c g) O:=by
 obtain⟨l,e,d,n,k⟩:=h.mem;exact⟨⟨l,e,d,n.di (h.loc.block i)<|k.block i,k.eW i⟩,h.loc.eW i,h.ks,h.num,h.pure,h.idx,h.small,m.trans h.file⟩
structure Qy(w:Y)(K:DK)(db sb:M):Prop where
 steps:Steps w
 pow:Pow w
 fw:Aside w K db sb 1
 mi:Aside w K db sb 2
def Qy.eW(h:Qy a j c g)(d:fY a f c g j P):Qy f P c g:=⟨λk e=>h.fw.cell d<|h.steps k e,h.pow.di<|h.mi.block d,h.fw.eW d,h.mi.eW d⟩
structure Gf(w:Y)(K:DK)(db sb:M)(v:aa)(ts:cf):Prop where
 row:Row w 1 v (y ts) (ts.map bA.ptr)
 loc:∀k,ct v=H k->Aside w K db sb k
 each:∀t∈ts,qC w db (vw K.files) (Aside w K db sb) t
def Gf.eW(k:Gf a j c g d i)(e:fY a f c g j P)(l:∀t∈i,dX (vw P.files) (fC t.num)=dX (vw j.files) (fC t.num)):Gf f P c g d i:=⟨An k.row e k.loc,λn m=>(k.loc n m).eW e,λt h=>(k.each t h).eW e<|l t h⟩
def lw(h:∀t∈i,tP t.ks t.cs):y i<=y (cg i):=by
 induction i with
 |nil=>simp
 |cons t r b=>
  obtain⟨x,a,_⟩:=(h t<|by simp).vt;have c:1<=y t.all:=List.length_pos_of_mem a;have d:=b (λu a=>h u<|by simp[a]);have e:y (cg<|t::r)=y t.all+y (cg r):=by simp[cg]
  grind
structure ST(w:Y)(sb:M)(s:SR)(K:DK)(m:cJ)(a b c d:cf)(C:M):Prop where
 mem:kr w s.memory m
 tg:∀k,ct s.memory=H k->Aside w K s.aH sb k
 l0:Gf w K s.aH sb s.l0 a
 l1:Gf w K s.aH sb s.l1 b
 l2:Gf w K s.aH sb s.l2 c
 l3:Gf w K s.aH sb s.l3 d
 aH:cQ w s.aH K
 qZ:¬K.aU s.aH sb
 kC:Qy w K s.aH sb
 qf:y m+y (cg a)+y (cg b)+y (cg c)+y (cg d)<=C
 lV:C<=1000000
 mh:dM m
 iX:∀x∈m,x.Good
 s1:kp b
 s2:kp c
 s3:kp d
def ST.len{d b f i:cf}(h:ST a c n j e d b f i g):y e<=2000000:=by have:=h.qf;have:=h.lV;omega
def ST.count{f b i k:cf}(h:ST a c n j e f b i k g):y f+y b+y i+y k<=2000000:=by
 have:=h.qf;have:=h.lV;have:=lw<|λt d=>(h.l0.each t d).pure;have:=lw h.s1.pure;have:=lw h.s2.pure;have:=lw h.s3.pure;omega
def ST.eW{m b k o:cf}(h:ST a c n j e m b k o g)(l:c<z (G a))(d:fY a f n.aH c j P)(i:vw P.files=vw j.files):ST f c n P e m b k o g where
 mem:=An h.mem d h.tg
 tg:=λk c=>(h.tg k c).eW d
 l0:=h.l0.eW d<|λ_ _=>by rw[i]
 l1:=h.l1.eW d<|λ_ _=>by rw[i]
 l2:=h.l2.eW d<|λ_ _=>by rw[i]
 l3:=h.l3.eW d<|λ_ _=>by rw[i]
 aH:=d.ok
 qZ:=λk=>(d.aU c k).elim h.qZ<|λi=>by omega
 kC:=h.kC.eW d
 qf:=h.qf
 lV:=h.lV
 mh:=h.mh
 iX:=h.iX
 s1:=h.s1
 s2:=h.s2
 s3:=h.s3
def oq(s:SR)(m:cJ)(a b c d:cf):cw (aa×cJ):=(.iface 97 s.memory,m)::(((a.map<|λt=>(LG t,t.all)).reverse)++[(BG (s.l1,b),cg b)]++[(BG (s.l2,c),cg c)]++[(BG (s.l3,d),cg d)])
def yC(s:SR)(m:cJ)(a b c d:cf):(oq s m a b c d).map (·.1)=xF s.memory (s.l0,a) (s.l1,b) (s.l2,c) (s.l3,d):=by
 simp[oq,xF,pE,qU]
def ST.ZX{k b l o:cf}(h:ST a c n j e k b l o g)(f:bJ a c n m):DB a c 10 [(n.l0,k),(n.l1,b),(n.l2,l),(n.l3,o)]:=by
 refine⟨rfl,λi d=>?_,λi d=>?_,λi d=>?_,?_⟩;(have:i=0\/i=1\/i=2\/i=3:=by grind);rcases this with rfl|rfl|rfl|rfl<;>exact f.cell rfl;(have:i=0\/i=1\/i=2\/i=3:=by grind);rcases this with rfl|rfl|rfl|rfl;exact h.l0.row;exact h.l1.row;exact h.l2.row;exact h.l3.row;(have:i=0\/i=1\/i=2\/i=3:=by grind);rcases this with rfl|rfl|rfl|rfl;exactλm d=>(h.l0.loc m d).lt;exactλm d=>(h.l1.loc m d).lt;exactλm d=>(h.l2.loc m d).lt;exactλm d=>(h.l3.loc m d).lt;have:=h.count;simp[mf];omega
def lI(a:M)(K:DK):iY:=Kk a K.files K.eJ<|K.aU a
def Jc(h:qC a b (vw j.files) (Aside a j b c) O)(e:Qy a j b c)(m:Bn t b j.files j.eJ (j.aU b)):nF t (z<|G a) O.tb O.ks O.cs a:=by
 obtain⟨l,f,d,o,k⟩:=h.mem;obtain⟨q,n,g⟩:=ju h.file;refine nF.QS b j.files j.eJ (j.aU b) (z<|G a) O.tb O.num h.num _ _ _ l f d aD O.ks O.cs q (fo<|bS 0 O.cs) a o h.pure m (λp i=>(h.idx.can p<|h.ks▸i).size) n g ?_ ⟨h.loc.lt,h.loc.aU⟩ ⟨k.lt,k.aU⟩ e.steps ⟨e.fw.lt,e.fw.aU⟩ e.pow ⟨e.mi.lt,e.mi.aU⟩;rw[g];have r:=li<|λp i=>(h.idx.can p i).fits;have:=h.small;have:=h.idx.len;unfold mR fo;rw[af,af,cC];omega
def DF(h:Gf a j b c d i)(k:Qy a j b c)(m:kp i)(l:y i<=1000000000)(hF:t.F=j.aU b)(g:i≠[]->Bn t b j.files j.eJ (j.aU b)):sf t (z<|G a) d i a:=⟨h.row,λn e=>⟨(h.loc n e).lt,by rw[hF];exact(h.loc n e).aU⟩,λo f=>Jc (h.each o f) k<|g<|List.ne_nil_of_mem f,m,l⟩
def Rc(c:cQ a b j)(d:∀k,j.aU b k->k<z (G a)):(Kk b j.files j.eJ<|j.aU b).D a:=⟨d,j,c,rfl,rfl,λ_ h=>h⟩
def ST.Pj(h:ST a b n j e i o r s c):(lI n.aH j).D a:=Rc h.aH h.aH.lt
def Uq(n:M)(K a:DK):Prop:=K.reads=0/\K.oC=0->0<=a.reads/\a.reads<=n/\a.oC<=512
def DP(b:M)(K:DK)(P:DK->Prop)(W:Y):Prop:=(∀k,K.aU b k->k<z (G W))/\∃a,P a/\cQ W b a/\a.files=K.files/\a.eJ=K.eJ/\∀k,a.aU b k->K.aU b k
def DP.fD{P:DK->Prop}{S:fA}(c:DP b j P a)(e:I S a f)(o:∀k,S k->¬j.aU b k):DP b j P f:=by
 obtain⟨i,g,h,l,m,n,d⟩:=c;exact⟨λk c=>ag (i k c) e.size,g,h,l.aw e<|λk c p=>o k p<|d k c,m,n,d⟩
def DP.up{P Q:DK->Prop}(h:DP b j P a)(g:∀c,P c->Q c):DP b j Q a:=by
 obtain⟨e,c,d,f⟩:=h;exact⟨e,c,g _ d,f⟩
def Uq.up(h:Uq b j P)(f:b<=c):Uq c j P:=λq=>by obtain⟨a,d,e⟩:=h q;grind
def ZH(a:M)(K:DK)(n k:M):iY where
 D:=DP a K<|Uq n K
 F:=K.aU a
 fD:=DP.fD
 lt:=λh a=>h.1 _ a
 Eb:=DP a K<|Uq (n+k) K
 up:=λh=>h.up<|λ_ q=>q.up<|by omega
 AX:=DP.fD
def Bn.DL(c:M)(K:DK)(r:M)(t:r<=1000000000):Bn (ZH c K r 1) c K.files K.eJ (K.aU c):=⟨rfl,λ_⟨k,a,j,l,m,n,o⟩=>⟨k,a,l,m,n,o,λ_ d x s e f g h i p=>⟨e,d,λq=>by
 obtain⟨u,v,w⟩:=j q;obtain⟨c1,c2⟩:=p;have:wrap64 (a.reads+1)=a.reads+1:=by unfold wrap64;omega
 rw[c1,this];omega,f,g,h,i⟩⟩⟩
def wh(a:cf):M:=if a=[]then 0 else 1
def vg(s:SR)(m:cJ)(a b c d:cf):cw (M×aa×cJ):=(0,.iface 97 s.memory,m)::(((a.map<|λt=>(1,LG t,t.all)).reverse)++[(wh b,BG (s.l1,b),cg b)]++[(wh c,BG (s.l2,c),cg c)]++[(wh d,BG (s.l3,d),cg d)])
def yi(a b c d:cf):M:=y a+wh b+wh c+wh d
def Sj(s:SR)(m:cJ)(a b c d:cf):(vg s m a b c d).map (·.2)=oq s m a b c d:=by
 simp[vg,oq]
def Si(s:SR)(m:cJ)(a b c d:cf):((vg s m a b c d).map (·.1)).sum=yi a b c d:=by
 have h:∀a:cf,(a.map<|λ_=>1).sum=y a:=λa=>by induction a with
  |nil=>rfl
  |cons _ _ e=>grind
 simp only[vg,yi,bZ,aQ,qU,iz,fW,oG,eR,List.sum_reverse,Ac,lD,h];omega
def JN(l:Gf a j b c d i)(e:Qy a j b c)(k:kp i)(f:y i<=1000000000)(h:g<=1000000000):sf (ZH b j g<|wh i) (z<|G a) d i a:=DF l e k f rfl (λq=>by unfold wh;rw[dr q];exact Bn.DL b j g h)
def ST.ZE(h:ST a b n j e i o r s c)(d:g<=1000000000):∀l∈vg n e i o r s,rr (lI n.aH j) (z<|G a) (DP n.aH j<|Uq g j) (DP n.aH j<|Uq (g+l.1) j) l.2.1 l.2.2 a:=by
 have hF:∀k,j.aU n.aH k->k<z (G a):=h.aH.lt;have p:=h.count;intro l f;simp only[vg,bH,aE,qT,bW,fO,mu]at f;rcases f with rfl|((⟨t,m,rfl⟩|rfl)|rfl)|rfl;exact rr.list (V:=ZH n.aH j g 0) h.mem h.mh (show y e<=1000000000000 by have:=h.len;omega) (λk a=>⟨(h.tg k a).lt,(h.tg k a).aU⟩)<|ai _;exact rr.table (Jc (h.l0.each t m) h.kC<|Bn.DL n.aH j g d) (ai _) hF;exact rr.xP (JN h.l1 h.kC h.s1 (by omega) d) (ai _) hF;exact rr.xP (JN h.l2 h.kC h.s2 (by omega) d) (ai _) hF;exact rr.xP (JN h.l3 h.kC h.s3 (by omega) d) (ai _) hF
def BB(h:kp i):∀x∈cg i,x.Good:=by
 intro x a;unfold cg at a;obtain⟨l,c,a⟩:=bE.1 a;obtain⟨t,d,rfl⟩:=bW.1 c;obtain⟨e,b,a⟩:=bE.1 a;exact(h.pure t d).iX e b x a
def UI(h:tP O.ks O.cs):∀x∈O.all,x.Good:=by
 intro x a;obtain⟨c,b,a⟩:=bE.1 a;exact h.iX c b x a
def ST.LF(h:ST a b n j e i o r s c):∀g∈oq n e i o r s,∀x∈g.2,x.Good:=by
 intro g d;simp only[oq,bH,aE,qT,bW,fO,mu]at d;rcases d with rfl|((⟨t,f,rfl⟩|rfl)|rfl)|rfl;exact h.iX;exact UI (h.l0.each t f).pure;exact BB h.s1;exact BB h.s2;exact BB h.s3
def jY(c:cQ a n.aH j)(d:¬j.aU n.aH b)(e:Z):fY a (cA a (R b 0)<|iO e) n.aH b j j:=(fY.refl c).set d 0 _
def fY.sb(h:fY a C b c j P)(d:¬j.aU b c)(g:c<z (G a)):¬P.aU b c:=λe=>(h.aU c e).elim d<|λi=>by omega
def rm{b sbqq:M}(d:cQ a b j)(c:Below (z<|G a) a f):fY a f b sbqq j j:=⟨d.aw (I.aR (S:=az) c)<|λ_ _=>id,(I.aR (S:=az) c).mono cO,λ_ e=>.inl e⟩
structure Gk(w:Y)(K:DK)(sb:M)(s:SR)(sn:fh):Prop where
 ex:∃b,s.lW=H b/\jw w b (Bo sn)/\Aside w K s.aH sb b
 len:y sn<=4
def Gk.eW{g:fh}(k:Gk a j c n g)(e:fY a f n.aH c j P):Gk f P c n g:=by
 obtain⟨b,h,i,d⟩:=k.ex;exact⟨⟨b,h,i.di<|d.block e,d.eW e⟩,k.len⟩
def Gk.fields{s s':SR}{c:fh}(h:Gk a j b s c)(g:s'.aH=s.aH/\s'.lW=s.lW):Gk a j b s' c:=by
 obtain⟨i,d,e,f⟩:=h.ex;exact⟨⟨i,g.2.trans d,e,by rw[g.1];exact f⟩,h.len⟩
theorem qC.Tq{w w':Y}{db:M}{m:Fs}{A:fA}{t:bA}(l:qC w db m A t)(o:∀r,A r->w'.heap[r]?=w.heap[r]?):qC w' db m A t:=by
 obtain⟨p,k,j,q,n⟩:=l.mem;exact⟨⟨p,k,j,q.di (o _ l.loc)<|o _ n,n⟩,l.loc,l.ks,l.num,l.pure,l.idx,l.small,l.file⟩
structure NS(t:bA):Prop where
 pure:tP t.ks t.cs
 idx:Cu (bS 0 t.cs)
 small:y (dG t.cs)<=100000
def KI(db sbqq baseqq:M)(K:DK)(k:M):Prop:=k<baseqq/\¬K.aU db k/\k≠sbqq
def XT(e:cf)(ps:cw NT)(t:bA):Prop:=t∈e\/∃p∈ps,p.t=t
def qS(w:Y)(db sbqq baseqq:M)(K:DK)(v:aa):Prop:=∀k,ct v=H k->k<z (G w)/\¬K.aU db k/\k≠sbqq/\(k<baseqq\/∃j l,w.heap[k]?=H (ar j 142 l))
theorem qS.aw{w w':Y}{db sbqq baseqq:M}{K:DK}{v:aa}(n:qS w db sbqq baseqq K v)(l:I (K.aU db) w w'):qS w' db sbqq baseqq K v:=λq m=>by
 obtain⟨j,k,o,p⟩:=n q m;exact⟨ag j l.size,k,o,p.imp id<|λ⟨m,n,r⟩=>⟨m,n,(l.block q j k).trans r⟩⟩
structure LS(w:Y)(db sb base:M)(K:DK)(e:cf)(ps:cw NT)(C:M)(g h i f:aa)(a b c d:cf):Prop where
 D:(lI db K).D w
 le:base<=z (G w)
 aU:∀k,K.aU db k->k<base
 Gw:sb<base
 steps:Steps w
 pow:Pow w
 fw:KI db sb base K 1
 mi:KI db sb base K 2
 tM:∀t∈e,qC w db (vw K.files) (KI db sb base K) t
 news:∀p∈ps,p.Ok w base/\NS p.t
 apart:ps.Pairwise NT.nk
 r0:Row w 1 g (y a) (a.map bA.ptr)
 r1:Row w 1 h (y b) (b.map bA.ptr)
 r2:Row w 1 i (y c) (c.map bA.ptr)
 r3:Row w 1 f (y d) (d.map bA.ptr)
 b0:qS w db sb base K g
 b1:qS w db sb base K h
 b2:qS w db sb base K i
 b3:qS w db sb base K f
 x0:∀t∈a,XT e ps t
 x1:∀t∈b,XT e ps t
 x2:∀t∈c,XT e ps t
 x3:∀t∈d,XT e ps t
 nodup:((a++b++c++d).map bA.tb).Nodup
 s1:kp b
 s2:kp c
 s3:kp d
 qf:y (cg a)+y (cg b)+y (cg c)+y (cg d)<=C
 lV:C<=1000000
section
variable{w w':Y}{db sbqq baseqq C:M}{K:DK}{e:cf}{ps:cw NT}{g h i f:aa}{a b c d:cf}
theorem XT.more{t:bA}(j:XT e ps t)(l:cw NT):XT e (ps++l) t:=by
 rcases j with j|⟨p,k,m⟩;exact .inl j;exact .inr ⟨p,by simp[k],m⟩
theorem LS.aw(j:LS w db sbqq baseqq K e ps C g h i f a b c d)(l:I (K.aU db) w w')(n:(lI db K).D w'):LS w' db sbqq baseqq K e ps C g h i f a b c d where
 D:=n
 le:=aC j.le l.size
 aU:=j.aU
 Gw:=j.Gw
 steps:=λm k=>l.cell (j.steps m k) j.fw.2.1<|ag j.fw.1 j.le
 pow:=j.pow.di<|l.block _ (ag j.mi.1 j.le) j.mi.2.1
 fw:=j.fw
 mi:=j.mi
 tM:=λt n=>(j.tM t n).Tq<|λm k=>l.block m (ag k.1 j.le) k.2.1
 news:=λp n=>⟨(j.news p n).1.aw l (λm k c=>by have:=((j.news p n).1.lt m k).1;have:=j.aU m c;omega),(j.news p n).2⟩
 apart:=j.apart
 r0:=l.row j.r0<|λm k=>⟨(j.b0 m k).2.1,(j.b0 m k).1⟩
 r1:=l.row j.r1<|λm k=>⟨(j.b1 m k).2.1,(j.b1 m k).1⟩
 r2:=l.row j.r2<|λm k=>⟨(j.b2 m k).2.1,(j.b2 m k).1⟩
 r3:=l.row j.r3<|λm k=>⟨(j.b3 m k).2.1,(j.b3 m k).1⟩
 b0:=j.b0.aw l
 b1:=j.b1.aw l
 b2:=j.b2.aw l
 b3:=j.b3.aw l
 x0:=j.x0
 x1:=j.x1
 x2:=j.x2
 x3:=j.x3
 nodup:=j.nodup
 s1:=j.s1
 s2:=j.s2
 s3:=j.s3
 qf:=j.qf
 lV:=j.lV
theorem LS.Zq(l:LS w db sbqq baseqq K e ps C g h i f a b c d){t:bA}(j:XT e ps t):tP t.ks t.cs:=by
 rcases j with j|⟨p,k,rfl⟩;exact(l.tM t j).pure;exact(l.news p k).2.pure
theorem LS.XG(k:LS w db sbqq baseqq K e ps C g h i f a b c d){t:bA}(j:XT e ps t):nF (lI db K) (z<|G w) t.tb t.ks t.cs w:=by
 have A:=k.le;have p:1<z (G w)/\¬(lI db K).F 1:=⟨by have:=k.fw.1;omega,k.fw.2.1⟩;rcases j with j|⟨r,B,rfl⟩;obtain⟨u,n,l,x,s⟩:=(k.tM t j).mem;obtain⟨D,v,o⟩:=ju (k.tM t j).file;refine nF.QS db K.files K.eJ (K.aU db) (z<|G w) t.tb t.num (k.tM t j).num _ _ _ u n l aD t.ks t.cs D (fo<|bS 0 t.cs) w x (k.tM t j).pure (Bn.aH _ _ _ _) (λq m=>((k.tM t j).idx.can q<|(k.tM t j).ks▸m).size) v o ?_ ⟨by have:=(k.tM t j).loc.1;omega,(k.tM t j).loc.2.1⟩ ⟨by have:=s.1;omega,s.2.1⟩ k.steps p k.pow ⟨by have:=k.mi.1;omega,k.mi.2.1⟩;rw[o];have E:=li<|λq m=>((k.tM t j).idx.can q m).fits;have:=(k.tM t j).small;have:=(k.tM t j).idx.len;unfold mR fo;rw[af,af,cC];omega;obtain⟨l,o⟩:=k.news r B;have u:=l.lt;have s:∀q,r.has q->q<z (G w)/\¬(lI db K).F q:=λq m=>⟨(u q m).2,λc=>by have:=k.aU q c;have:=(u q m).1;omega⟩;(have n:y (dG r.t.cs)<=r.GK:=by rcases l.data.2 with⟨c,_⟩|⟨E,v,x,c,_,_,D,_⟩;cases c;grind);exact nF.Zw (lI db K) (z<|G w) r.t.tb 0 0 0 0 r.bb 0 r.wZ r.x 0 r.GK r.t.ks r.t.cs w l.mem o.pure (eP.bytes l.data) n (by have:=o.small;omega) (s _<|.inl rfl) (s _<|.inr<|.inl rfl) (s _<|.inr<|.inr rfl) k.steps p
theorem LS.count(j:LS w db sbqq baseqq K e ps C g h i f a b c d):y a+y b+y c+y d<=1000000:=by
 have:=j.qf;have:=j.lV;have:=lw<|λt k=>j.Zq<|j.x0 t k;have:=lw j.s1.pure;have:=lw j.s2.pure;have:=lw j.s3.pure;omega
theorem LS.o9(j:LS w db sbqq baseqq K e ps C g h i f a b c d):sf (lI db K) (z<|G w) h b w:=⟨j.r1,λm k=>⟨(j.b1 m k).1,(j.b1 m k).2.1⟩,λt l=>j.XG<|j.x1 t l,j.s1,by have:=j.count;omega⟩
theorem LS.o8(j:LS w db sbqq baseqq K e ps C g h i f a b c d):sf (lI db K) (z<|G w) i c w:=⟨j.r2,λm k=>⟨(j.b2 m k).1,(j.b2 m k).2.1⟩,λt l=>j.XG<|j.x2 t l,j.s2,by have:=j.count;omega⟩
theorem LS.D9(j:LS w db sbqq baseqq K e ps C g h i f a b c d):sf (lI db K) (z<|G w) f d w:=⟨j.r3,λm k=>⟨(j.b3 m k).1,(j.b3 m k).2.1⟩,λt l=>j.XG<|j.x3 t l,j.s3,by have:=j.count;omega⟩
theorem um{j:cf}(n:∀t∈j,t.ks=bS 0 t.cs):iF j=y (cg j):=by
 induction j with
 |nil=>rfl
 |cons t r m=>
  have k:=m (λu j=>n u<|by simp[j]);have l:=n t (by simp);unfold iF at k|-;rw[bZ,oG,k,yS,af,l,Cn];rfl
theorem LS.ks(l:LS w db sbqq baseqq K e ps C g h i f a b c d){t:bA}(j:XT e ps t):t.ks=bS 0 t.cs:=by
 rcases j with j|⟨p,k,rfl⟩;exact(l.tM t j).ks;exact(l.news p k).1.ks
theorem Ey{l n:M}{v:aa}{o:iC}(p:Row w l v n o)(r:0<n):∃b j k,v=bB b j n k/\n<=k:=by
 rcases p.2 with⟨_,q⟩|⟨b,j,k,s,m,_⟩;omega;grind
theorem LS.nR{m:cf}{D:cJ}(v:LS w db sbqq baseqq K e ps C g h i f a b c d)(O:I (K.aU db) w w')(A:qG w' (z<|G w) m)(F:m.map bA.all=gR D)(N:dM D)(t:rq 5 D)(E:∀X∈D,X.Good):∃l:cw NT,l.map NT.t=m/\(∀p∈ps++l,p.Ok w' baseqq/\NS p.t)/\(ps++l).Pairwise NT.nk/\(∀B∈m,XT e (ps++l) B)/\(∀B∈m,z (G w)<=B.tb)/\(m.map bA.tb).Nodup:=by
 have L:=yI F A.each N t E;obtain⟨l,n,o,x⟩:=A;have s:∀p∈ps,∀u,p.has u->u<z (G w):=λp j u r=>((v.news p j).1.lt u r).2;refine⟨l,n,λp j=>?_,?_,λB k=>?_,λB k=>?_,?_⟩;rcases aE.1 j with c|c;exact⟨(v.news p c).1.aw O (λu r d=>by have:=((v.news p c).1.lt u r).1;have:=v.aU u d;omega),(v.news p c).2⟩;obtain⟨P,Q,S,T⟩:=L p.t (by rw[<-n];grind);refine⟨(o p c).base v.le,P,Q,?_⟩;have V:=(o p c).pieces.data;have W:=(o p c).pieces.length;omega;rw[bR];exact⟨v.apart,x,λp j q l u r k=>by have:=s p j u r;have:=((o q l).lt u k).1;omega⟩;rw[<-n]at k;obtain⟨p,j,rfl⟩:=bW.1 k;exact .inr ⟨p,by simp[j],rfl⟩;rw[<-n]at k;obtain⟨p,j,rfl⟩:=bW.1 k;exact(o p j).new;rw[<-n,iz];unfold List.Nodup;rw[jp];refine x.imp<|λ{p q}j k=>j p.t.tb (.inl rfl)<|.inl k
theorem XT.qP(k:LS w db sbqq baseqq K e ps C g h i f a b c d){t:bA}(j:XT e ps t):t.tb<z (G w):=by
 rcases j with j|⟨p,l,rfl⟩;have:=(k.tM t j).loc.1;have:=k.le;omega;exact((k.news p l).1.lt _<|.inl rfl).2
theorem QG{j:cf}(k:∀t∈j,tP t.ks t.cs)(l:dM (cg j))(m:(j.map bA.all).Pairwise gX):kp j:=⟨k,l,m⟩
theorem wg{j s:M}{v:aa}{o:iC}(m:w'.ownsRow (z<|G w) 142 j v s o)(r:∀k,K.aU db k->k<baseqq)(n:sbqq<baseqq)(q:baseqq<=z (G w)):qS w' db sbqq baseqq K v:=λk l=>by
 have p:=m.lt k l;grind[fR]
end
theorem TW{n:M}{a b c d:cf}(k:PR n (bV a b c d)):dM (cG<|cg b::a.map bA.all):=by
 have j:bV a b c d=[]++((a.map bA.all).reverse++[cg b])++[cg c,cg d]:=by simp[bV]
 rw[j]at k;exact(zv (ms:=[]) (lowest:=aY) (λr j=>k.row r<|by grind) (k.row _<|by simp) (bR.1 k.nR).1).1
theorem QT{u v ws:cf}{n:M}(p:kp u)(q:kp v)(o:Over (cg u) (cg v))(k:n<y u)(m:ws.Sublist v):dM (cG<|cg ws::[u[n]].map bA.all):=by
 have j:∀s∈[u[n].all,cg ws],dM s:=by intro s r;simp only[bH,fO,mu]at r;rcases r with rfl|rfl;exact p.each<|ak k;exact q.mh.sub<|nW m
 have l:kh [u[n].all,cg ws]:=Pm<|λx p j q=>o x (mM.2 ⟨_,ak k,p⟩) j<|(nW m).subset q;show dM (cG [cg ws,u[n].all]);rw[tf j l<|List.Perm.swap _ _ _];exact oZ j l
theorem LS.s9{w:Y}{db sbqq baseqq C ao:M}{K:DK}{e:cf}{ps:cw NT}{g h i f:aa}{a b c d:cf}(j:LS w db sbqq baseqq K e ps C g h i f a b c d)(W:PR ao (bV a b c d))(ha:0<y a)(o:eO)(P:Option Addr)(O:M)(hm:Row w 1 (J P (y o) O) (y o) (o.map<|Value.int .u64))(V:∀v,ct (J P (y o) O)=H v->v<z (G w)/\¬K.aU db v)(E:y o<=4):cD bz 148 #[dW #[g,h,i,f],ap 0,J P (y o) O] w λal w'=>∃Q k N,∃x:cf,∃ac,al=aL (dw #[dW #[aD,J Q k N,i,f],.nilIface])/\LS w' db sbqq baseqq K e ac C aD (J Q k N) i f [] x c d/\PR ao (bV [] x c d)/\(∀A,(A∈o\/(ao:Z)<=A)->∀v,eY A (bV [] x c d) v=eY A (bV a b c d) v)/\I (K.aU db) w w':=by
 obtain⟨b0,o0,c0,rfl,an⟩:=Ey j.r0 ha;obtain⟨x1,c1,rfl⟩:=bM j.r1;obtain⟨x2,c2,rfl⟩:=bM j.r2;obtain⟨x3,c3,rfl⟩:=bM j.r3;have B:∀ad∈cG (cg b::a.map bA.all),ad.Good:=by intro ad X;have:=(dY _).mem_iff.1 X;rw[bG,aE]at this;refine W.iX ad ?_;unfold bV;rw[dB,aE];grind[mem_flatten]
 have q:y (cG<|cg b::a.map bA.all)<=1000000:=by have S:=(dY<|cg b::a.map bA.all).length_eq;rw[bG,af]at S;have h2:(a.map bA.all).flatten=cg a:=rfl;rw[h2]at S;have:=j.qf;have:=j.lV;omega
 have F:=TW W;refine(TX b0 o0 c0 x1 x2 x3 _ _ _ c1 c2 c3 a c d j.r0 ⟨(j.b0 _ rfl).1,(j.b0 _ rfl).2.1⟩ (λA L=>j.XG<|j.x0 A L) j.o9 j.r2 j.r3 (λv p=>⟨(j.b2 v p).1,(j.b2 v p).2.1⟩) (λv p=>⟨(j.b3 v p).1,(j.b3 v p).2.1⟩) j.D (ai _) (λv p=>by have:=j.aU v p;have:=j.le;omega) (λ_ j=>j) j.steps ⟨by have:=j.fw.1;have:=j.le;omega,j.fw.2.1⟩ j.count o P O hm V E _ rfl F B q).mono ?_;rintro al w'⟨Q,k,N,x,rfl,r,l,m,T,L⟩;obtain⟨_,s,p1,p2,p3⟩:=Qa W l;obtain⟨_,t,D,_⟩:=td (ms:=o) (lowest:=c.isEmpty&&d.isEmpty) F B q E;obtain⟨qs,q0,q1,q2,q3,q4,q5⟩:=j.nR L m l s t D;have u:kp x:=Hl l m.each s t D;refine⟨Q,k,N,x,ps++qs,rfl,?_,p1,p2,L⟩;have h':=j.aw L T;refine{h' with news:=q1,apart:=q2,r0:=⟨rfl,.inl ⟨rfl,rfl⟩⟩,r1:=da r,b0:=?_,b1:=wg r j.aU j.Gw j.le,x0:=?_,x1:=q3,x2:=λA n=>(h'.x2 A n).more qs,x3:=λA n=>(h'.x3 A n).more qs,nodup:=?_,s1:=u,qf:=?_};intro v p;cases p;grind
 rw[cU,bD,aQ,iK];have hn:=j.nodup;rw[bD,aQ,iK]at hn;refine⟨q5,hn.2.1,λad X au hy al=>?_⟩;obtain⟨A,n,rfl⟩:=bW.1 X;obtain⟨aq,hu,rfl⟩:=bW.1 hy;have S:=q4 A n;(have h2:aq.tb<z (G w):=by rcases aE.1 hu with c|c;exact XT.qP j<|j.x2 aq c;exact XT.qP j<|j.x3 aq c);omega;have:=j.qf;have e0:y (cg ([]:cf))=0:=rfl;omega
theorem LS.s8{w:Y}{db sbqq baseqq C ba:M}{K:DK}{e:cf}{ps:cw NT}{g h i f:aa}{a b c d:cf}(j:LS w db sbqq baseqq K e ps C g h i f a b c d)(hp:PR ba (bV a b c d))(hb:0<y b)(s:eO)(mx:Option Addr)(mc:M)(hm:Row w 1 (J mx (y s) mc) (y s) (s.map<|Value.int .u64))(ao:∀N,ct (J mx (y s) mc)=H N->N<z (G w)/\¬K.aU db N)(S:y s<=4):cD bz 148 #[dW #[g,h,i,f],ap 1,J mx (y s) mc] w λac w'=>∃xl nl cl xm n cm,∃b' c':cf,∃au,ac=aL (dw #[dW #[g,J xl nl cl,J xm n cm,f],.nilIface])/\LS w' db sbqq baseqq K e au C g (J xl nl cl) (J xm n cm) f a b' c' d/\y b'+1=y b/\PR ba (bV a b' c' d)/\(∀t,(t∈s\/(ba:Z)<=t)->∀N,eY t (bV a b' c' d) N=eY t (bV a b c d) N)/\I (K.aU db) w w':=by
 obtain⟨b0,o0,c0,rfl,al⟩:=Ey j.r1 hb;obtain⟨x1,c1,rfl⟩:=bM j.r0;obtain⟨x2,c2,rfl⟩:=bM j.r2;obtain⟨x3,c3,rfl⟩:=bM j.r3;have an:∀l(u:l<y b)(ws:cf),ws.Sublist c->∀L∈(cg ws::[b[l]].map bA.all).flatten,L∈cg b\/L∈cg c:=by intro l u ws hw L O;simp only[bZ,fW,bG,iB,ee,aE]at O;grind[nW,mM,getElem_mem]
 have B:∀L,L∈cg b\/L∈cg c->L.Good:=λL O=>hp.iX L (by unfold bV;rw[dB,aE];grind);have o:∀l(u:l<y b)(ws:cf),ws.Sublist c->dM (cG<|cg ws::[b[l]].map bA.all)/\(∀L∈cG (cg ws::[b[l]].map bA.all),L.Good)/\y (cG<|cg ws::[b[l]].map bA.all)<=1000000:=by intro l u ws hw;refine⟨QT j.s1 j.s2 (DD (C:=(a.map bA.all).reverse) (D:=[cg d]) (by have:=hp.nR;simpa[bV]using this)) u hw,λL O=>B L<|an l u ws hw L<|(dY _).mem_iff.1 O,?_⟩;have h1:=(dY<|cg ws::[b[l]].map bA.all).length_eq;simp only[bZ,fW,bG,iB,ee,af]at h1;have h2:=(nW hw).length_le;(have F:y b[l].all<=y (cg b):=by have:=(nW (us:=[b[l]]) (ts:=b)<|vO.2<|ak u).length_le;simpa[cg]using this);have:=j.qf;have:=j.lV;grind
 refine(FK b0 o0 c0 x2 x1 x3 _ _ _ _ _ _ a d j.o9 al hb j.o8 j.r0 j.r3 (λN E=>⟨(j.b0 N E).1,(j.b0 N E).2.1⟩) (λN E=>⟨(j.b3 N E).1,(j.b3 N E).2.1⟩) j.D (ai _) (λN E=>by have:=j.aU N E;have:=j.le;omega) (λ_ j=>j) j.steps ⟨by have:=j.fw.1;have:=j.le;omega,j.fw.2.1⟩ (by have:=j.count;omega) (by rw[um<|λt W=>j.ks<|j.x2 t W];have:=j.qf;have:=j.lV;omega) _ (.inl ⟨rfl,rfl,rfl,rfl,rfl,rfl,rfl⟩) o s mx mc hm ao S).mono ?_;rintro ac w'⟨xl,nl,cl,xm,n,cm,v,l,u,P,q,rfl,hcut,T,V,m,p,ad,W⟩;obtain⟨p1,p2,p3,p0,p4,p5⟩:=PZ hp j.s1 j.s2 u hcut m;rw[lQ m]at p3 p4;obtain⟨s1,s2,s3⟩:=o l u _ ((nA _ _).trans (kG _ _):(List.take (q-P)<|List.drop P _).Sublist _);obtain⟨_,A,_,_⟩:=td (ms:=s) (lowest:=d.isEmpty) s1 s2 s3 S;obtain⟨X,q0,q1,q2,q3,q4,q5⟩:=j.nR W p m p3 A p4;have ax:=yI m p.each p3 A p4;have r:(b.take l++b.drop (l+1)).Sublist b:=by grind[TZ,append_assoc,sublist_append_right]
 have aq:(c.take P++c.drop q).Sublist c:=by grind[Yx,zr.le,append_assoc,sublist_append_right]
 refine⟨xl,nl,cl,xm,n,cm,b.take l++b.drop (l+1),c.take P++v++c.drop q,ps++X,rfl,?_,by simp;omega,p1,p2,W⟩;have h':=j.aw W ad;have x:∀t∈c.take P++v++c.drop q,t∈c\/t∈v:=by grind
 refine{h' with news:=q1,apart:=q2,r1:=da T,r2:=da V,b1:=wg T j.aU j.Gw j.le,b2:=wg V j.aU j.Gw j.le,x0:=λt k=>(h'.x0 t k).more X,x1:=λt k=>(h'.x1 t<|r.subset k).more X,x2:=?_,x3:=λt k=>(h'.x3 t k).more X,nodup:=?_,s1:=j.s1.sub r,s2:=?_,qf:=?_};intro t k;rcases x t k with ac|ac;exact(h'.x2 t ac).more X;grind
 (have hn:((a++(b.take l++b.drop (l+1))++(c.take P++c.drop q)++d).map bA.tb).Nodup:=by refine List.Nodup.sublist (List.Sublist.map _ ?_) j.nodup;grind);(have F:(a++(b.take l++b.drop (l+1))++(c.take P++v++c.drop q)++d).Perm (v++(a++(b.take l++b.drop (l+1))++(c.take P++c.drop q)++d)):=by(have Q:a++(b.take l++b.drop (l+1))++(c.take P++v++c.drop q)++d=(a++(b.take l++b.drop (l+1))++c.take P)++v++(c.drop q++d):=by grind);(have e2:v++(a++(b.take l++b.drop (l+1))++(c.take P++c.drop q)++d)=v++(a++(b.take l++b.drop (l+1))++c.take P)++(c.drop q++d):=by grind);rw[Q,e2];exact vQ _ qJ);rw[(F.map bA.tb).nodup_iff,aQ,iK];refine⟨q5,hn,λL O bb hy ac=>?_⟩;obtain⟨t,k,rfl⟩:=bW.1 O;obtain⟨av,hu,rfl⟩:=bW.1 hy;have h1:=q4 t k;(have h2:av.tb<z (G w):=by simp only[aE]at hu;rcases hu with((Q|Q|Q)|Q|Q)|Q;exact XT.qP j<|j.x0 av Q;exact XT.qP j<|j.x1 av<|fJ Q;exact XT.qP j<|j.x1 av<|dK Q;exact XT.qP j<|j.x2 av<|fJ Q;exact XT.qP j<|j.x2 av<|dK Q;exact XT.qP j<|j.x3 av Q);omega;refine QG (λt k=>?_) (p1.mh _<|by simp[bV]) p0;rcases x t k with ac|ac;exact j.s2.pure t ac;grind
 have:=j.qf;omega
theorem LS.r9{w:Y}{db sbqq baseqq C ba:M}{K:DK}{e:cf}{ps:cw NT}{g h i f:aa}{a b c d:cf}(j:LS w db sbqq baseqq K e ps C g h i f a b c d)(hp:PR ba (bV a b c d))(hc:0<y c)(s:eO)(mx:Option Addr)(mc:M)(hm:Row w 1 (J mx (y s) mc) (y s) (s.map<|Value.int .u64))(ao:∀N,ct (J mx (y s) mc)=H N->N<z (G w)/\¬K.aU db N)(S:y s<=4):cD bz 148 #[dW #[g,h,i,f],ap 2,J mx (y s) mc] w λac w'=>∃xl nl cl xm n cm,∃c' d':cf,∃au,ac=aL (dw #[dW #[g,h,J xl nl cl,J xm n cm],.nilIface])/\LS w' db sbqq baseqq K e au C g h (J xl nl cl) (J xm n cm) a b c' d'/\y c'+1=y c/\PR ba (bV a b c' d')/\(∀t,(t∈s\/(ba:Z)<=t)->∀N,eY t (bV a b c' d') N=eY t (bV a b c d) N)/\I (K.aU db) w w':=by
 obtain⟨b0,o0,c0,rfl,al⟩:=Ey j.r2 hc;obtain⟨x1,c1,rfl⟩:=bM j.r0;obtain⟨x2,c2,rfl⟩:=bM j.r1;obtain⟨x3,c3,rfl⟩:=bM j.r3;have an:∀l(u:l<y c)(ws:cf),ws.Sublist d->∀L∈(cg ws::[c[l]].map bA.all).flatten,L∈cg c\/L∈cg d:=by intro l u ws hw L O;simp only[bZ,fW,bG,iB,ee,aE]at O;grind[nW,mM,getElem_mem]
 have B:∀L,L∈cg c\/L∈cg d->L.Good:=λL O=>hp.iX L (by unfold bV;rw[dB,aE];grind);have o:∀l(u:l<y c)(ws:cf),ws.Sublist d->dM (cG<|cg ws::[c[l]].map bA.all)/\(∀L∈cG (cg ws::[c[l]].map bA.all),L.Good)/\y (cG<|cg ws::[c[l]].map bA.all)<=1000000:=by intro l u ws hw;refine⟨QT j.s2 j.s3 (DD (C:=(a.map bA.all).reverse++[cg b]) (D:=[]) (by have:=hp.nR;simpa[bV]using this)) u hw,λL O=>B L<|an l u ws hw L<|(dY _).mem_iff.1 O,?_⟩;have h1:=(dY<|cg ws::[c[l]].map bA.all).length_eq;simp only[bZ,fW,bG,iB,ee,af]at h1;have h2:=(nW hw).length_le;(have F:y c[l].all<=y (cg c):=by have:=(nW (us:=[c[l]]) (ts:=c)<|vO.2<|ak u).length_le;simpa[cg]using this);have:=j.qf;have:=j.lV;grind
 refine(FK b0 o0 c0 x3 x1 x2 _ _ _ _ _ _ a b j.o8 al hc j.D9 j.r0 j.r1 (λN E=>⟨(j.b0 N E).1,(j.b0 N E).2.1⟩) (λN E=>⟨(j.b1 N E).1,(j.b1 N E).2.1⟩) j.D (ai _) (λN E=>by have:=j.aU N E;have:=j.le;omega) (λ_ j=>j) j.steps ⟨by have:=j.fw.1;have:=j.le;omega,j.fw.2.1⟩ (by have:=j.count;omega) (by rw[um<|λt W=>j.ks<|j.x3 t W];have:=j.qf;have:=j.lV;omega) _ (.inr ⟨rfl,rfl,rfl,rfl,rfl,rfl,rfl⟩) o s mx mc hm ao S).mono ?_;rintro ac w'⟨xl,nl,cl,xm,n,cm,v,l,u,P,q,rfl,hcut,T,V,m,p,ad,W⟩;obtain⟨p1,p2,p3,p0,p4,p5⟩:=PY hp j.s2 j.s3 u hcut m;rw[lQ m]at p3 p4;obtain⟨s1,s2,s3⟩:=o l u _ ((nA _ _).trans (kG _ _):(List.take (q-P)<|List.drop P _).Sublist _);obtain⟨_,A,_,_⟩:=td (ms:=s) (lowest:=bU) s1 s2 s3 S;obtain⟨X,q0,q1,q2,q3,q4,q5⟩:=j.nR W p m p3 A p4;have ax:=yI m p.each p3 A p4;have r:(c.take l++c.drop (l+1)).Sublist c:=by grind[TZ,append_assoc,sublist_append_right]
 have aq:(d.take P++d.drop q).Sublist d:=by grind[Yx,zr.le,append_assoc,sublist_append_right]
 refine⟨xl,nl,cl,xm,n,cm,c.take l++c.drop (l+1),d.take P++v++d.drop q,ps++X,rfl,?_,by simp;omega,p1,p2,W⟩;have h':=j.aw W ad;have x:∀t∈d.take P++v++d.drop q,t∈d\/t∈v:=by grind
 refine{h' with news:=q1,apart:=q2,r2:=da T,r3:=da V,b2:=wg T j.aU j.Gw j.le,b3:=wg V j.aU j.Gw j.le,x0:=λt k=>(h'.x0 t k).more X,x1:=λt k=>(h'.x1 t k).more X,x2:=λt k=>(h'.x2 t<|r.subset k).more X,x3:=?_,nodup:=?_,s2:=j.s2.sub r,s3:=?_,qf:=?_};intro t k;rcases x t k with ac|ac;exact(h'.x3 t ac).more X;grind
 (have hn:((a++b++(c.take l++c.drop (l+1))++(d.take P++d.drop q)).map bA.tb).Nodup:=by refine List.Nodup.sublist (List.Sublist.map _ ?_) j.nodup;grind);(have F:(a++b++(c.take l++c.drop (l+1))++(d.take P++v++d.drop q)).Perm (v++(a++b++(c.take l++c.drop (l+1))++(d.take P++d.drop q))):=by(have Q:a++b++(c.take l++c.drop (l+1))++(d.take P++v++d.drop q)=(a++b++(c.take l++c.drop (l+1))++d.take P)++v++d.drop q:=by grind);(have e2:v++(a++b++(c.take l++c.drop (l+1))++(d.take P++d.drop q))=v++(a++b++(c.take l++c.drop (l+1))++d.take P)++d.drop q:=by grind);rw[Q,e2];exact vQ _ qJ);rw[(F.map bA.tb).nodup_iff,aQ,iK];refine⟨q5,hn,λL O bb hy ac=>?_⟩;obtain⟨t,k,rfl⟩:=bW.1 O;obtain⟨av,hu,rfl⟩:=bW.1 hy;have h1:=q4 t k;(have h2:av.tb<z (G w):=by simp only[aE]at hu;rcases hu with((Q|Q)|Q|Q)|Q|Q;exact XT.qP j<|j.x0 av Q;exact XT.qP j<|j.x1 av Q;exact XT.qP j<|j.x2 av<|fJ Q;exact XT.qP j<|j.x2 av<|dK Q;exact XT.qP j<|j.x3 av<|fJ Q;exact XT.qP j<|j.x3 av<|dK Q);omega;refine QG (λt k=>?_) (p1.mh _<|by simp[bV]) p0;rcases x t k with ac|ac;exact j.s3.pure t ac;grind
 have:=j.qf;omega
def NR(w:Y)(t:bA):Prop:=t.num<18446744073709551616/\∃g cut b e f c a d,lS w t.tb g t.num cut b e f c a d t.ks
def NR.aw{w w':Y}(n:NR w O)(j:I az w w'):NR w' O:=by
 obtain⟨m,l,cut,c,h,k,d,a,e,g⟩:=n;exact⟨m,l,cut,c,h,k,d,a,e,g.di (j.block _ (am g.box) id)<|j.block _ g.lt.2 id⟩
def NR.name(k:NR a O)(n:Pow a):cD bz 123 #[ay O.tb] a λj w'=>j=aL (aj<|fC O.num)/\Below (z<|G a) a w':=by
 obtain⟨l,i,cut,c,g,h,d,b,e,m⟩:=k;grind[CE]
def Fv:(prog.info? 89).map (λi=>(i.zero,i.size,i.bytes))=H (H<|dW #[],0,0):=by kernel_rfl
def QP(a b c d:aa)(e f g h:cf):qn [(a,e),(b,f),(c,g),(d,h)]=(e++f++g++h).map bA.ptr:=by simp[qn]
def RF(a b c d:aa)(e f g h:cf):mf [(a,e),(b,f),(c,g),(d,h)]=y (e++f++g++h):=by simp[mf]
def nD(T a:cf):cf:=T.filter<|λt=>!(a.any<|λu=>u.num==t.num)
def PM{T T':cf}(h:b<y T):nD (T.take<|b+1) T'=nD (T.take b) T'++(if T'.any (λu=>u.num==T[b].num)then []else [T[b]]):=by
 unfold nD;rw[ah h,lf];cases hc:T'.any (λu=>u.num==T[b].num)<;>simp[hc]
def Xn{T':cf}(t:bA):T'.any (λu=>u.num==t.num)=bU↔∃u∈T',aj (fC t.num)=aj (fC u.num):=by
 rw[oa];grind[sS]
def pL(s:SR)(T a:cf):cw ab:=(if s.gE then [iQ s.log]else [])++(nD T a).map (λt=>fC t.num)
def JC(fz cu K ge t v w x:cf){v3:aa}(h:bJ a b n m)(hl:DB a b 10 [(n.l0,fz),(n.l1,cu),(n.l2,K),(n.l3,ge)])(r0:Row a 1 d (y t) (t.map bA.ptr))(r1:Row a 1 u (y v) (v.map bA.ptr))(r2:Row a 1 N (y w) (w.map bA.ptr))(r3:Row a 1 v3 (y x) (x.map bA.ptr))(k0:∀m,ct d=H m->m<z (G a))(k1:∀m,ct u=H m->m<z (G a))(k2:∀m,ct N=H m->m<z (G a))(k3:∀m,ct v3=H m->m<z (G a))(hT:∀F∈fz++cu++K++ge,NR a F)(ch:∀F∈t++v++w++x,NR a F)(hp:Pow a)(gi:n.log<18446744073709551616)(gn:y (fz++cu++K++ge)<=10000000)(gr:y (t++v++w++x)<=10000000):cD bz 169 #[ay b,dW #[d,u,N,v3]] a λef w'=>∃v',ef=aL v'/\w'.ownsRow (z<|G a) 9 1 v' (y<|pL n (fz++cu++K++ge)<|t++v++w++x) (strs<|pL n (fz++cu++K++ge)<|t++v++w++x)/\I az a w':=by
 have hs:=@tR bz;have he:∀(fd:Bool)(a:Y),(Op.unary .not<|aK fd).run bz a=.ok (aK<|!fd) a:=λ_ _=>rfl;obtain⟨i0,el,ey,ez,eA⟩:=cH Fy;obtain⟨i1,gg,hc,hu,hv⟩:=cH Fv;obtain⟨x0,c0,rfl⟩:=bM r0;obtain⟨x1,c1,rfl⟩:=bM r1;obtain⟨x2,c2,rfl⟩:=bM r2;obtain⟨x3,c3,rfl⟩:=bM r3;have gj:=am h;have em:DB (cF a<|ar #[J x0 (y t) c0,J x1 (y v) c1,J x2 (y w) c2,J x3 (y x) c3] 102) (z<|G a) 0 [(J x0 (y t) c0,t),(J x1 (y v) c1,v),(J x2 (y w) c2,w),(J x3 (y x) c3,x)]:=by have bd:I az a (cF a<|ar #[J x0 (y t) c0,J x1 (y v) c1,J x2 (y w) c2,J x3 (y x) c3] 102):=(cK _ _);have cb:(cF a<|ar #[J x0 (y t) c0,J x1 (y v) c1,J x2 (y w) c2,J x3 (y x) c3] 102).heap[z<|G a]?=H (ar #[J x0 (y t) c0,J x1 (y v) c1,J x2 (y w) c2,J x3 (y x) c3] 102 (0,0)):=aB _ rfl;refine⟨rfl,λba hi=>?_,λba hi=>?_,λba hi=>?_,by rw[RF];omega⟩;(have:ba=0\/ba=1\/ba=2\/ba=3:=by grind);rcases this with rfl|rfl|rfl|rfl<;>(rw[bL cb];rfl);(have:ba=0\/ba=1\/ba=2\/ba=3:=by grind);rcases this with rfl|rfl|rfl|rfl;exact bd.row r0<|λm g=>⟨id,k0 m g⟩;exact bd.row r1<|λm g=>⟨id,k1 m g⟩;exact bd.row r2<|λm g=>⟨id,k2 m g⟩;exact bd.row r3<|λm g=>⟨id,k3 m g⟩;grind
 obtain⟨T,cj⟩:∃T,fz++cu++K++ge=T:=⟨_,rfl⟩;obtain⟨e,W⟩:∃e,t++v++w++x=e:=⟨_,rfl⟩;have bs:∀cd,I az a cd->cD bz 164 #[fj<|H<|R b 10] cd λef w'=>∃v',ef=aL v'/\w'.ownsRow (z<|G cd) 142 1 v' (y T) (T.map bA.ptr)/\I az cd w':=λcd o=>by have:=so (w:=cd) (lb:=b) (lo:=10) _<|hl.aw o id<|λ_ _ _ _ K=>K;rw[QP,RF,cj]at this;exact this
 have ad:∀cd,I az (cF a<|ar #[J x0 (y t) c0,J x1 (y v) c1,J x2 (y w) c2,J x3 (y x) c3] 102) cd->cD bz 164 #[ay<|z<|G a] cd λef w'=>∃v',ef=aL v'/\w'.ownsRow (z<|G cd) 142 1 v' (y e) (e.map bA.ptr)/\I az cd w':=λcd o=>by have:=so (w:=cd) (lb:=z<|G a) (lo:=0) _<|em.aw o id<|λ_ _ _ _ K=>K;rw[QP,RF,W]at this;exact this
 rw[cj]at hT gn|-;rw[W]at ch gr|-;have db:=U hT;have bT:=U ch;obtain⟨HB,HP,ff⟩:=dA h hp bs;have bm:=U ad;clear hT ch h hl r0 r1 r2 r3 k0 k1 k2 k3 em cj W hp bs ad fz cu K ge;obtain⟨WB,ei⟩:∃WB,cF a (ar #[J x0 (y t) c0,J x1 (y v) c1,J x2 (y w) c2,J x3 (y x) c3] 102)=WB:=⟨_,rfl⟩;have bg:I az a WB:=by rw[<-ei];exact(cK _ _)
 have ce:=bg.block b gj id|>.trans HB;have fL:=bJ.cellAt ce 18 rfl;have hj:=bJ.cellAt ce 17 rfl;have et:Pow WB:=HP.aw bg id;have br:=wu n.log gi et;have cc:=U bg;rw[ei]at bm;clear bg ce et;have cM:=U br;clear br;obtain⟨lg,bq⟩:∃lg,n.gE=lg:=⟨_,rfl⟩;have cE:=U (show pL n T e=(if lg then [iQ n.log]else [])++(nD T e).map (λF=>fC F.num)by rw[<-bq];rfl);rw[bq]at fL;generalize n.log=eB at*;go_in
 cases lg;(case' false=>(go_wp2_with fail);generalize bd:WB=W5;have bc:=U (show I az WB W5 by rw[<-bd];exact I.refl _ _);obtain⟨v5,l⟩:∃v5,v5=J none 0 0:=⟨_,rfl⟩;obtain⟨c,f⟩:∃c:cw ab,c=[]:=⟨_,rfl⟩;have p:=U (show W5.ownsRow (z<|G a) 9 1 v5 (y c) (strs c)by rw[l,f];exact bK _ _ _ _);have bl:=U (show pL n T e=c++(nD T e).map (λF=>fC F.num)by rw[f];exact cE);(have gk:y c<=1:=by rw[f];simp);have ea:=U l;clear bd l f);(case' true=>(go_wp2_with fail);apply cM.mono;rintro ef w2⟨rfl,ej⟩;have cb:=U<|I.aR (S:=az) ej;clear ej;(go_wp2_with(at_builtin;refine bO _ rfl (.tmp 17) (.tmp 23) 57 rfl (z<|G a) 9 i0 (aj ⟨#[]⟩) 1 16 underlying57 el ey ez eA rfl (by decide) aD 0 [] rfl (bK _ _ _ _) (R (z<|G w2) 0) 1 1 [aj<|iQ eB] rfl rfl (pt _ _ _) (by simp[Value.oneCell']) (by omega) (by omega) (by have:=cc.size;have:=cb.size;simp;omega) ?_;intro v3 W5 cn ex;obtain⟨x5,c5,l⟩:=aA cn;subst l;have p:=U cn;have ec:=U ex;clear cn ex));have bc:=U<|show I az WB W5 from((cb.alloc _).cr<|I.dJ (S:=az) ec.grown<|λm g=>by cases g);obtain⟨v5,l⟩:∃v5,v5=J x5 1 c5:=⟨_,rfl⟩;obtain⟨c,f⟩:∃c:cw ab,c=[iQ eB]:=⟨_,rfl⟩;have bd:=ae p;clear p;have p:=U (show W5.ownsRow (z<|G a) 9 1 v5 (y c) (strs c)by rw[l,f];exact bd);have bl:=U (show pL n T e=c++(nD T e).map (λF=>fC F.num)by rw[f];exact cE);(have gk:y c<=1:=by rw[f];simp);have ea:=U l;clear ec cb l f bd)
 all_goals
  have gs:=bc.size;have ht:=cc.size;apply(bm (cF W5<|.map #[] 0)<|bc.alloc _).mono;rintro ef w6⟨v6,rfl,co,bf⟩;obtain⟨x6,c6,gt⟩:=aA co;subst gt;obtain⟨dx,fs,dm,ds⟩:=gH ((ly.new W5 .string).di<|bf.block _ (by simp) id) (cc.cr<|(bc.alloc<|.map #[] 0).trans bf cO) ((((I.refl az W5).alloc<|.map #[] 0).cr bf).own p<|λ_ _ K=>K) co;clear co bf;obtain⟨C,en⟩:∃C,z (G W5)=C:=⟨_,rfl⟩;rw[en]at dx;have hd:z (G a)<=C:=by omega
  have fk:=U (show C<z (G<|cF W5<|.map #[] 0)by rw[<-en];simp);clear gs;go_wp2_with fail
  go_loopw [28] (λba wr=>∃bk:M,bk<=y e/\ba=ap bk/\ly wr C .string (λfd=>∃F∈e.take bk,fd=aj (fC F.num))/\I (λm=>m=C) w6 wr) (λba _=>y e-(intOf ba).toNat)
  case atStart=>exact⟨0,bj _,rfl,dx.congr (by simp),I.refl _ _⟩
  case round=>
   obtain⟨bk,hA,rfl,i,O⟩:=hrel;have bh:I az a wr:=fs.trans O (λm g=>.inr<|by omega);by_cases D:bk<y e
   .have B:=O.own ds (λm g K=>by have:=(ds.lt m g).1;have:=ae fk;omega);obtain⟨b6,ha,cl⟩:∃b6,x6=H (R b6 0)/\aO wr (R b6 bk)=H e[bk].ptr:=by
     rcases B.2 with⟨h2,h0⟩|⟨hk,gb,gc,h2,_⟩
     .omega
     .cases h2;refine⟨hk,rfl,?_⟩;have:=pH B bk e[bk].ptr (by rw[dP,aI D];rfl);rwa[du,dp]at this
    subst ha;have al:=(bT e[bk]<|ak D).aw bh|>.name (HP.aw bh id);have bb:=U (show∀fd,(∃F∈e.take (bk+1),fd=aj (fC F.num))↔(∃F∈e.take bk,fd=aj (fC F.num))\/fd=aj (fC e[bk].num)fromλfd=>by
     rw[ah D];grind)
    have E:=i.lt;have P:=U i;have fx:=U O;have e1:(bk:Z)<(y e:Z):=by omega
    clear i O bh B;unfold bA.ptr at cl;generalize fC e[bk].num=s at*;generalize e[bk].tb=eF at*;go_wp2_with fail
    apply al.mono;rintro ef w7⟨rfl,ck⟩;have fn:=U<|P.di<|ck.block C E;have fu:=U<|fx.cr<|I.aR (S:=az) ck;clear ck al;go_wp2_with(at_mapUpdate;refine uA _ rfl _ _ _ 299 rfl 9 89 underlying299 .string underlying9 C _ rfl fn (aj s) trivial rfl rfl ?_;intro w8 eu ek;have fq:=U eu;have fe:=U ek;clear eu ek)
    go_roundw;case rel=>exact⟨bk+1,D,by go_num,fq.congr bb,fu.trans (fm fe)<|λ_ K=>.inl K⟩
    case measure=>simp[intOf];omega
   .have an:bk=y e:=by omega
    rw[an,aX]at i;have e1:¬(bk:Z)<(y e:Z):=by omega
    have E:=i.lt;obtain⟨P,dT,bn⟩:=dA i bh<|O.own dm (λm g K=>by have:=(p.lt m g).2;omega);clear i O an;go_wp2_with fail
    apply(ff wr dT).mono;rintro ef w9⟨v9,rfl,cp,ax⟩;obtain⟨x9,c9,gv⟩:=aA cp;subst gv;obtain⟨fr,dv,dn,fv,bx,fl⟩:=jX (P.di<|ax.block C E id) cp (ax.own bn<|λ_ _ K=>K) (dT.cr ax) (show∀m,ct v5=H m->z (G a)<=m/\m<z (G wr)/\m≠C fromλm g=>⟨(p.lt m g).1,(bn.lt m g).2,by have:=(p.lt m g).2;omega⟩)<|show C<z (G wr)/\z (G wr)<=z (G w9)from⟨E,ax.size⟩;clear cp ax;go_wp2_with fail
    go_loopw [5,42] (λo ba b=>∃L:M,L<=y T/\ba=ap L/\b.ownsRow (z<|G a) 9 1 o (y<|c++(nD (T.take L) e).map (λF=>fC F.num)) (strs<|c++(nD (T.take L) e).map (λF=>fC F.num))/\eL w9 b v5 o) (λ_ ba _=>y T-(intOf ba).toNat)
    case atStart=>
     refine⟨0,bj _,rfl,?_,?_⟩
     .rw[<-ae ea];have:c++(nD (T.take 0) e).map (λF=>fC F.num)=c:=by simp[nD]
      rw[this];exact dn
     grind[ae,eL.refl]
    case round=>
     obtain⟨L,hz,rfl,ho,bi⟩:=hrel;obtain⟨ox,oc,eq⟩:=aA ho;have r:I (λm=>ct v5=H m) w9 wr:=I.dJ bi.grown<|λm g=>.inl g;have j:I az a wr:=fv.trans r<|λm g=>.inr (bx m g).1;have k:=fr.di<|r.block C (by have:=ae fl;omega)<|λK=>(bx C K).2.2 rfl;have cq:∀m,ct u5=H m->m≠C:=λm g K=>by
      grind[eL.ur,ae]
     by_cases q:L<y T
     .have B:=r.own dv (λm g K=>by have:=(dv.lt m g).1;have:=(bx m K).2.1;omega);obtain⟨b9,hb,cl⟩:∃b9,x9=H (R b9 0)/\aO wr (R b9 L)=H T[L].ptr:=by
       rcases B.2 with⟨h2,h0⟩|⟨hk,gb,gc,h2,_⟩
       .omega
       .cases h2;refine⟨hk,rfl,?_⟩;have:=pH B L T[L].ptr (by rw[dP,aI q];rfl);rwa[du,dp]at this
      subst hb;have aq:=HP.aw j id;have A:=(db T[L]<|ak q).aw j;have al:=A.name aq;have bt:=λcd(o:I az wr cd)=>(A.aw o).name<|aq.aw o id;have bb:=U<|PM (T':=e) q;have X:=Xn (T':=e) T[L];have e1:(L:Z)<(y T:Z):=by omega
      have cm:=k.lt;have hn:y (c++(nD (T.take L) e).map (λF=>fC F.num))<=20000000:=by
       have:y (nD (T.take L) e)<=y (T.take L):=eK _ _;rw[dU]at this;rw[af,cV];omega
      obtain⟨ca,HO,ed,V,hg,cT⟩:=jX k ho bi j cq bt;clear k ho bi j cq B r bt A aq;unfold bA.ptr at cl;have cB:=U (show∀cu,e.any (λb=>b.num==T[L].num)=cu->(c++(nD (T.take<|L+1) e).map (λF=>fC F.num))=(c++(nD (T.take L) e).map (λF=>fC F.num))++(if cu then []else [fC T[L].num])fromλcu hm=>by
       rw[ae bb,hm,aQ,bD];cases cu<;>rfl)
      clear bb;obtain⟨hf,hr⟩:∃hf,e.any (λb=>b.num==T[L].num)=hf:=⟨_,rfl⟩;have eg:=cB hf hr;rw[hr]at X;have cx:=U eg;clear eg hr cB;generalize gf:c++(nD (T.take L) e).map (λF=>fC F.num)=Lm at*;clear gf;have cv:=U X;clear X;generalize eo:fC T[L].num=s at*;clear eo;generalize T[L].tb=eF at*;subst eq;go_wp2_with fail
      apply al.mono;rintro ef fb⟨rfl,ac⟩;have au:I az wr fb:=I.aR ac;have bu:=ca.di<|ac.block C cm;have hq:=BE underlying299 underlying9 gg hc bu (aj s) trivial hf cv;have dc:=U<|au.own HO<|λ_ _ K=>K;have Q:=U au;clear bu au ac al;cases hf with
      |true=>
       go_wp2;go_roundw;case rel=>
        refine⟨L+1,q,by go_num,?_,?_⟩
        .rw[ae cx];simp only[ir,ee];exact aN dc _
        .have o:=(Q.alloc<|ar #[] 89);refine ed.trans ⟨⟨o.os,o.tape,o.output,o.size,λba hi _=>o.block ba hi id⟩,.inl rfl⟩
       case measure=>simp[intOf];omega
      |false=>
       go_wp2_with fail
       apply(cT (cF fb<|ar #[] 89)<|Q.alloc _).mono;rintro ef cs⟨rfl,bp⟩;have av:I az wr cs:=(Q.alloc<|ar #[] 89).cr<|I.aR (S:=az) bp;have dd:=U<|av.own HO<|λ_ _ K=>K;have bo:=U av;clear av bp;go_wp2_with(at_builtin;refine bO _ rfl (.tmp 55) (.tmp 58) 57 rfl (z<|G a) 9 i0 (aj ⟨#[]⟩) 1 16 underlying57 el ey ez eA rfl (by decide) (J ox (y Lm) oc) (y Lm) (strs Lm) rfl (aN dd<|ar #[aj s] 9) (R (z<|G cs) 0) 1 1 [aj s] rfl rfl (pt _ _ _) (by simp[Value.oneCell']) (by omega) (by omega) (by have:=V.size;have:=bo.size;simp;omega) ?_;intro hw hx ao bv;obtain⟨hy,hh,ev⟩:=aA ao;subst ev;have dk:=U ao;have eb:=U bv;clear ao bv)
       go_roundw;case rel=>
        refine⟨L+1,q,by go_num,?_,?_⟩
        .rw[ae cx];simp only[gC,jk];rw[Hh,af];exact dk
        .have o:=ae bo;have h1:eL wr cs (J ox (y Lm) oc) (J ox (y Lm) oc):=⟨⟨o.os,o.tape,o.output,o.size,λba hi _=>o.block ba hi id⟩,.inl rfl⟩;exact ed.trans<|h1.trans<|eL.alloc _ eb
       case measure=>simp[intOf];omega
     .have an:L=y T:=by omega
      rw[an,aX,<-ae bl]at ho;have e1:¬(L:Z)<(y T:Z):=by omega
      obtain⟨oy,od,es⟩:=aA ho;have HO:=U ho;have V:=U j;clear ho bi j r k cq an eq;subst es;go_wp2;go_ret;exact⟨_,rfl,HO,V⟩
theorem NT.nk.symm{p q:NT}(j:p.nk q):q.nk p:=λk h g=>j k g h
theorem Xm{ps:cw NT}(m:ps.Pairwise NT.nk){p q:NT}(k:p∈ps)(l:q∈ps)(j:p≠q):p.nk q:=by
 obtain⟨i,g,rfl⟩:=gq.1 k;obtain⟨n,h,rfl⟩:=gq.1 l;rw[cN]at m;rcases lB i n with f|f|f;grind
 grind
 exact(m n i h g f).symm
theorem Ic{w l:Y}{baseqq s f v k u g:M}{m:iC}(t:w.ownsRow baseqq s f (bB k 0 u g) v m)(r:l.heap[k]?=w.heap[k]?):l.ownsRow baseqq s f (bB k 0 u g) v m:=by
 refine⟨t.1,.inr ?_⟩;rcases t.2 with⟨n,_⟩|⟨x,j,h,n,o,p,q⟩;cases n;cases n;exact⟨k,g,h,rfl,o,r.trans p,q⟩
theorem Nj{f:dL}(g:Cu (bS 0 f))(j:y (dG f)<=100000):y (mR f)<=200000:=by
 have k:=li<|λl h=>(g.can l h).fits;have:=g.len;unfold mR fo;rw[af,af,cC];omega
structure CF(w:Y)(db sb base:M)(K:DK)(c:cf)(ps:cw NT)(T:cf)(a d:M):Prop where
 le:base<=z (G w)
 aU:∀k,K.aU db k->k<base
 Gw:sb<base
 xt:∀t∈T,XT c ps t
 nodup:(T.map bA.tb).Nodup
 apart:ps.Pairwise NT.nk
 news:∀p∈ps,p.Ok w base/\NS p.t
 inj:∀t∈c,∀u∈c,t.num=u.num->t=u
 low:∀t∈c,t.num<a
 fresh:∀n,a<=n->dX (vw K.files) (fC n)=none
 fw:KI db sb base K 1
 mi:KI db sb base K 2
 small:y T<=1000000
 nx:a<=1000000000000000
 room:d<=800000000000
 qf:ij (vw K.files)<=d
 eJ:y K.eJ<=10000000000
def Wr(db:M)(K:DK)(ps:cw NT)(k:M):Prop:=K.aU db k\/∃p∈ps,k=p.t.tb\/k=p.x
structure CM(w:Y)(db sb base:M)(K:DK)(c:cf)(ps:cw NT)(T:cf)(a d:M)(wr:Y)(b:DK)(us:cf)(i num:M):Prop where
 len:y us=i
 le:i<=y T
 same:us.map (λt=>(t.tb,t.ks,t.cs))=(T.take i).map (λt=>(t.tb,t.ks,t.cs))
 KP:∀t∈c,qC wr db (vw b.files) (KI db sb base K) t
 Rs:∀u∈us,u∈c\/∃p∈ps,p.t.tb=u.tb/\qC wr db (vw b.files) p.has u/\a<=u.num/\u.num<num
 rest:∀p∈ps,p.t∈T.drop i->p.Ok wr base
 files:∃gs:Fs,vw b.files=vw K.files++gs/\(∀g∈gs,∃u∈us,g=(fC u.num,mR u.cs)/\a<=u.num)
 qf:ij (vw b.files)<=d+i*200000
 yW:(us.map bA.num).Nodup
 qR:a<=num/\num<=a+i
 aH:cQ wr db b
 eJ:y b.eJ<=y K.eJ+i
 aw:I (Wr db K ps) w wr
 aU:∀k,b.aU db k->K.aU db k\/z (G w)<=k
 steps:Steps wr
 pow:Pow wr
section
variable{w wr w2:Y}{db sbqq baseqq:M}{K b e:DK}{c:cf}{ps:cw NT}{T us:cf}{a d i num:M}
theorem CM.start(h:CF w db sbqq baseqq K c ps T a d)(j:∀t∈c,qC w db (vw K.files) (KI db sbqq baseqq K) t)(g:cQ w db K)(k:Steps w)(f:Pow w):CM w db sbqq baseqq K c ps T a d w K [] 0 a where
 len:=rfl
 le:=bj _
 same:=by simp
 KP:=j
 Rs:=by simp
 rest:=λp f _=>(h.news p f).1
 files:=⟨[],by simp,by simp⟩
 qf:=by have:=h.qf;omega
 yW:=by simp
 qR:=⟨ai _,ai _⟩
 aH:=g
 eJ:=ai _
 aw:=I.refl _ _
 aU:=λ_ h=>.inl h
 steps:=k
 pow:=f
theorem VL(h:us.map (λt=>(t.tb,t.ks,t.cs))=(T.take i).map (λt=>(t.tb,t.ks,t.cs))):us.map bA.tb=(T.take i).map bA.tb:=by
 have:=bX (List.map Prod.fst) h;grind[map_map,Function.comp_def]
theorem UH(l:(T.map bA.tb).Nodup)(k:i<y T)(j:us.map (λt=>(t.tb,t.ks,t.cs))=(T.take i).map (λt=>(t.tb,t.ks,t.cs))):∀u∈us,u.tb≠T[i].tb:=by
 intro u n g;have f:u.tb∈(T.take i).map bA.tb:=by rw[<-VL j];grind
 rw[g]at f;obtain⟨t,m,h⟩:=bW.1 f;grind[mem_iff_getElem,length_take,pairwise_iff_getElem]
theorem Hq(f:i<y T)(h:us.map (λt=>(t.tb,t.ks,t.cs))=(T.take i).map (λt=>(t.tb,t.ks,t.cs)))(u:bA)(g:(u.tb,u.ks,u.cs)=(T[i].tb,T[i].ks,T[i].cs)):(us++[u]).map (λt=>(t.tb,t.ks,t.cs))=(T.take<|i+1).map (λt=>(t.tb,t.ks,t.cs)):=by
 rw[ah f,aQ,aQ,h];grind
theorem EV{l:cw M}{x:M}(h:l.Nodup)(f:x∉l):(l++[x]).Nodup:=by
 rw[iK];grind
theorem CM.skip(o:CF w db sbqq baseqq K c ps T a d)(hm:CM w db sbqq baseqq K c ps T a d wr b us i num)(g:i<y T)(k:T[i]∈c):CM w db sbqq baseqq K c ps T a d wr b (us++[T[i]]) (i+1) num:=by
 have f:=UH o.nodup g hm.same;obtain⟨n,j,p⟩:=hm.files;refine{hm with len:=by rw[af,hm.len];rfl,le:=g,same:=Hq g hm.same _ rfl,Rs:=?_,rest:=?_,files:=⟨n,j,λv t=>?_⟩,qf:=aC hm.qf<|Nat.add_le_add_left (kw _<|Nat.le_succ i) _,yW:=?_,qR:=⟨hm.qR.1,by have:=hm.qR.2;omega⟩,eJ:=by have:=hm.eJ;omega};intro u h;rcases aE.1 h with m|m;exact hm.Rs u m;grind
 intro r l q;refine hm.rest r l ?_;rw[<-kQ g];grind
 grind
 rw[aQ];refine EV hm.yW<|λm=>?_;obtain⟨u,h,s⟩:=bW.1 m;rcases hm.Rs u h with q|⟨r,l,_,_,q,_⟩;exact f u h (by rw[o.inj u q _ k s]);have:=o.low _ k;omega
theorem CM.wrote(B:CF w db sbqq baseqq K c ps T a d)(f:CM w db sbqq baseqq K c ps T a d wr b us i num)(F:i<y T){p:NT}(D:p∈ps)(s:p.t=T[i])(hd:cQ w2 db e)(ht:I (λk=>b.aU db k\/k=p.t.tb\/k=p.x) wr w2)(hf:∀k,e.aU db k->b.aU db k\/z (G wr)<=k)(S:vw e.files=vw b.files++[(fC num,mR p.t.cs)])(aq:y e.eJ=y b.eJ+1)(hT:lS w2 p.t.tb (ay db) num (y<|dG p.t.cs) (y<|fo<|bS 0 p.t.cs) (ng<|fo<|bS 0 p.t.cs) p.bb 0 p.wZ aD (bS 0 p.t.cs))(N:num<18446744073709551616):CM w db sbqq baseqq K c ps T a d w2 e (us++[{T[i]with num:=num}]) (i+1) (num+1):=by
 have al:=UH B.nodup F f.same;obtain⟨gs,E,W⟩:=f.files;have o:=(B.news p D).1;have ac:=o.lt;have au:=f.aw.size;have ao:=B.le
 have l:∀k,k<z (G w)->¬K.aU db k->¬p.has k->w2.heap[k]?=wr.heap[k]?:=λk h O j=>ht.block k (by omega) (λg=>by
  rcases g with g|g|g
  .rcases f.aU k g with A|A
   .exact O A
   .omega
  .exact j<|.inl g
  .exact j (.inr (.inr g)))
 have n:∀k,KI db sbqq baseqq K k->w2.heap[k]?=wr.heap[k]?:=λk h=>l k (by have:=h.1;omega) h.2.1 (λg=>by have:=(ac k g).1;have:=h.1;omega);have r:∀q∈ps,q≠p->∀k,q.has k->w2.heap[k]?=wr.heap[k]?:=λq t v k h=>by have j:=(B.news q t).1.lt k h;exact l k j.2 (λg=>by have:=B.aU k g;omega)<|λg=>Xm B.apart t D v k h g
 have u:∀n f,dX (vw b.files) n=H f->dX (vw e.files) n=H f:=λn f C=>by rw[S,jM,C];rfl
 have x:dX (vw b.files) (fC num)=none:=by
  rw[E,jM,B.fresh num f.qR.1,mz];cases g:dX gs (fC num)with
  |none=>rfl
  |some X=>
   obtain⟨V,P,Q,j⟩:=W _<|xZ g;simp only[ji]at Q;have O:=sS Q.1;rcases f.Rs V P with A|⟨q,t,_,_,_,A⟩
   .have:=B.low V A;omega
   .omega
 have ad:∀{A:fA}{an:bA},qC wr db (vw b.files) A an->(∀k,A k->w2.heap[k]?=wr.heap[k]?)->qC w2 db (vw e.files) A an:=λho h=>by have j:=ho.Tq h;exact⟨j.mem,j.loc,j.ks,j.num,j.pure,j.idx,j.small,u _ _ j.file⟩
 have m:=(B.news p D).2;have L:qC w2 db (vw e.files) p.has {T[i]with num:=num}:=by rw[<-s];refine⟨⟨p.bb,0,p.wZ,?_,.inr<|.inl rfl⟩,.inl rfl,o.ks,N,m.pure,m.idx,m.small,?_⟩;show lS w2 p.t.tb _ num _ _ _ p.bb 0 p.wZ _ p.t.ks;rw[o.ks];exact hT;show dX (vw e.files) (fC num)=H (mR p.t.cs);rw[S,jM,x];simp[dX]
 refine{len:=by rw[af,f.len];rfl,le:=F,same:=Hq F f.same _ rfl,KP:=λan h0=>ad (f.KP an h0) n,Rs:=?_,rest:=?_,files:=⟨gs++[(fC num,mR p.t.cs)],by rw[S,E,bD],λax hg=>?_⟩,qf:=?_,yW:=?_,qR:=⟨by have:=f.qR.1;omega,by have:=f.qR.2;omega⟩,aH:=hd,eJ:=by have:=f.eJ;omega,aw:=?_,aU:=?_,steps:=?_,pow:=?_};intro V P;rcases aE.1 P with g|g;(rcases f.Rs V g with A|⟨q,t,Q,ho,j,O⟩;exact .inl A;grind);rw[cX]at g;subst g;exact .inr ⟨p,D,by rw[s],L,f.qR.1,by grind⟩;intro q t O;(have v:q≠p:=λQ=>by subst Q;rw[s]at O;obtain⟨av,hj,Q⟩:=gq.1 O;rw[List.getElem_drop]at Q;(have X:i+1+av<y T:=by rw[ja]at hj;omega);have h2:=cN.1 B.nodup i (i+1+av) (by simpa using F) (by simpa using X) (by omega);grind);have j:=f.rest q t (by rw[<-kQ F];grind);have C:=r q t v;exact⟨j.ks,j.num,j.pieces,j.mem.di (C _<|.inl rfl)<|C _<|.inr<|.inl rfl,Ic j.data<|C _<|.inr<|.inr rfl,Ic j.GN<|C _<|.inr<|.inl rfl,j.new⟩;rcases aE.1 hg with g|g;(grind);rw[cX]at g;refine⟨{T[i]with num:=num},by simp,?_,f.qR.1⟩;rw[g,s];rw[S,uK];have:=Nj m.idx m.small;have:=f.qf;simp only[ij,bZ,fW,oG,Ac]at*;omega;rw[aQ];refine EV f.yW<|λg=>?_;obtain⟨V,P,Q⟩:=bW.1 g;have j:V.num=num:=Q;rcases f.Rs V P with A|⟨q,t,_,_,_,A⟩;have:=B.low V A;have:=f.qR.1;omega;omega;refine f.aw.trans ht<|λk h=>?_;rcases h with g|g|g;rcases f.aU k g with A|A;exact .inl<|.inl A;exact .inr A;exact .inl<|.inr ⟨p,D,.inl g⟩;exact .inl<|.inr ⟨p,D,.inr g⟩;intro k h;rcases hf k h with g|g;exact f.aU k g;grind
 exactλk h=>(cR (w:=wr)<|n _ B.fw).trans<|f.steps k h;exact f.pow.di<|n _ B.mi
end
section
open Conc.Locks
def Hg(l:cw M)(i:M):(l.take i).sum<=(l.take<|i+1).sum/\(l.take i).sum<=l.sum:=by
 induction l generalizing i with
 |nil=>simp
 |cons x l a=>
  grind
def Sm(w c:Y)(a:M)(s:SR)(K:DK)(m:cJ)(d e f g:cf)(C:M)(b:DK):Prop:=fY w c s.aH a K b/\b.files=K.files/\b.eJ=K.eJ/\(∀k,b.aU s.aH k->K.aU s.aH k)/\bJ c a s 0/\ST c a s b m d e f g C
def vI(w c:Y)(a:M)(s:SR)(K:DK)(m:cJ)(d e f g:cf)(C:M):Prop:=∃b,Sm w c a s K m d e f g C b
def Xr(w c:Y)(a:M)(s:SR)(K:DK)(m:cJ)(d e f g:cf)(C:M):Prop:=∃b,Uq (yi d e f g) K b/\Sm w c a s K m d e f g C b
def Zp{sbqq:M}(h:fY a f n.aH sbqq j j)(c:(lI n.aH j).D C)(m:I (lI n.aH j).F f C):∃b,fY a C n.aH sbqq j b/\b.files=j.files/\b.eJ=j.eJ/\(∀k,b.aU n.aH k->j.aU n.aH k):=by
 obtain⟨l,b,i,e,g,d⟩:=c;exact⟨b,h.trans ⟨i,m.mono<|λk c=>.inl<|.inl c,λk c=>.inl<|d k c⟩,e,g,d⟩
def PJ(a:ab)(c:Z)(b:cw (aa×cJ)):aa:=if 1<=a.size/\a.size<=8 then Yt (wL c a b)else .tuple #[aj ⟨#[]⟩,aK aY,kN 3]
def Iy(d:ab)(g:Z)(A:bJ a b n m)(f:ST a b n j e i o r s c)(Q:d.size<=140737488351232):cD bz 78 #[ay b,aj d,aJ g] a (λW v=>W=aL (PJ d g<|oq n e i o r s)/\DP n.aH j (Uq (yi i o r s) j) v/\I (lI n.aH j).F a v)/\∃C w x,PJ d g (oq n e i o r s)=dw #[C,w,x]:=by
 obtain⟨T,S,u⟩:=bM f.mem;have F:∀b,DP n.aH j (Uq b j) a:=λb=>⟨f.aH.lt,j,λq=>by omega,f.aH,rfl,rfl,λ_ q=>q⟩;unfold PJ;by_cases p:1<=d.size/\d.size<=8
 .rw[dz p];have k:=Sj n e i o r s;have L:=Si n e i o r s;have N:=f.count;have K:yi i o r s<=1000000000:=by unfold yi wh;grind
  have t:=Hg<|(vg n e i o r s).map (·.1);refine⟨(WF (V:=lI n.aH j) (z<|G a) (n.l0,i) (n.l1,o) (n.l2,r) (n.l3,s) (oq n e i o r s) d g A T (y e) S u (f.ZX A) (yC n e i o r s) (λh=>DP n.aH j<|Uq (((vg n e i o r s).map (·.1)).take h).sum j) (λh _ _ _ q=>q.fD) (λh v q=>q.up<|λ_ q=>q.up (Hg _ h).1) (λh B=>?_) (F _) (ai _) f.aH.lt p (λX O C P=>by have:=(f.LF X O C P).val;omega)).mono ?_,?_⟩
  .have l:h<y (vg n e i o r s):=by rw[<-k]at B;simpa using B
   have D:(oq n e i o r s)[h]=(vg n e i o r s)[h].2:=by simp[<-k]
   have E:(((vg n e i o r s).map (·.1)).take<|h+1).sum=(((vg n e i o r s).map (·.1)).take h).sum+(vg n e i o r s)[h].1:=by
    rw[ah (by simpa using l),eR];simp
   rw[D,E];exact f.ZE (by have:=(t h).2;omega) _<|ak l
  .grind[length_map,take_length]
  cases wL g d (oq n e i o r s)with
  |none=>exact⟨_,_,_,rfl⟩
  |some C=>exact⟨_,_,_,rfl⟩
 rw[dr p];refine⟨(WE a b d g p Q).mono ?_,_,_,_,rfl⟩;grind[I.refl]
def BI{D v W2:Y}(F:bJ v b n 1)(x:ST D b n j e i o r s c)(h:b<z (G D))(l:fY D v n.aH b j j)(C:Below (z<|G v) v W2):bJ W2 b n 1/\ST W2 b n j e i o r s c/\∀(P:DK->Prop)d,DP n.aH j P d->I (lI n.aH j).F W2 d->aO d (R b 0)=H (iO 1)/\d.frozen? (R b 0)=aY/\∃k,P k/\Sm D (cA d (R b 0)<|iO 0) b n j e i o r s c k:=by
 have a:=l.trans<|rm (sbqq:=b) l.ok C;have q:=x.eW h a rfl;have f:bJ W2 b n 1:=F.aw (I.aR (S:=az) C) id;refine⟨f,q,λP d w u=>?_⟩;have g:bJ d b n 1:=(u.block b (am f) q.qZ).trans f;obtain⟨_,k,L,K,A,E,B⟩:=w;have m:fY D d n.aH b j k:=a.trans ⟨K,u.mono<|λg f=>.inl<|.inl f,λg f=>.inl<|B g f⟩;have t:=m.sb x.qZ h;have p:=m.set t 0<|iO 0;exact⟨g.cell rfl,g.free,k,L,p,A,E,B,g.gx 0,x.eW h p<|by rw[A]⟩
def E8(h:(lI b j).D a):DP b j (λ_=>True) a:=by
 obtain⟨d,c,e⟩:=h;exact⟨d,c,trivial,e⟩
def sX{w d W2:Y}(p:bJ d b n 1)(h:ST w b n j e i o r s c)(g:b<z (G w))(f:fY w d n.aH b j j)(t:Below (z<|G d) d W2):bJ W2 b n 1/\ST W2 b n j e i o r s c/\∀a,(lI n.aH j).D a->I (lI n.aH j).F W2 a->aO a (R b 0)=H (iO 1)/\a.frozen? (R b 0)=aY/\vI w (cA a (R b 0)<|iO 0) b n j e i o r s c:=by
 obtain⟨x,k,l⟩:=BI p h g f t;refine⟨x,k,λa q u=>?_⟩;obtain⟨c1,c2,m,_,h⟩:=l _ a (E8 q) u;exact⟨c1,c2,m,h⟩
def oK{w c W2:Y}(e:bJ c b n 1)(f:I (λk=>k=b) w c)(d:Below (z<|G c) c W2):aO W2 (R b 0)=H (iO 1)/\W2.frozen? (R b 0)=aY/\bJ (cA W2 (R b 0)<|iO 0) b n 0/\I (λk=>k=b) w (cA W2 (R b 0)<|iO 0):=by
 have a:bJ W2 b n 1:=e.aw (I.aR (S:=az) d) id;exact⟨a.cell rfl,a.free,a.gx 0,(f.trans (I.aR (S:=λk=>k=b) d)<|λ_ e=>.inl e).setCell b 0 _<|.inl rfl⟩
def uL:kN 6=.iface 53 (ap 6):=rfl
def PW:kN 5=.iface 53 (ap 5):=rfl
def PN(k:ab)(h:bJ a b n 0)(m:n.closed=bU):cD bz 41 #[ay b,aj k] a λo l=>o=aL (dw #[aj ⟨#[]⟩,aK aY,kN 6])/\bJ l b n 0/\I (λv=>v=b) a l:=by
 have q:=bJ.cellAt h 0 rfl;have s:a.frozen? (R b 0)=aY:=h.free;have j:=h.gx 1;have c:=gS j;rw[m]at c;simp only[ir]at c;have p:=U<|λg i=>oK (W2:=g) j (gW b a) i;clear h j m;rw[uL]at c|-;go_enter_defers func41,ntmps41
 go_wp2_with fail
 apply(lock_free (R b 0) _ q s).mono;rintro o l⟨rfl,rfl⟩;go_wp2_with fail
 apply c.mono;rintro o g⟨rfl,i⟩;obtain⟨r,t,d⟩:=p g i;have e:=U d;clear d i c;go_wp2;refine eH (f:=36) (args:=#[ay b]) (by simp) (by simp[go_sem]) ?_;apply(unlock_deferred (R b 0) .returning _ r t).mono;rintro o w u⟨rfl,rfl,rfl⟩;exact⟨_,mU rfl _ _ _,rfl,e⟩
def Wt(d:ab)(h:bJ a b n 0)(F:ST a b n j e i o r s c)(Q:n.closed=aY)(hz:d.size<=140737488351232):cD bz 41 #[ay b,aj d] a λL C=>L=aL (PJ d n.aW<|oq n e i o r s)/\Xr a C b n j e i o r s c:=by
 have N:=am h;have W:=bJ.cellAt h 0 rfl;have f0:a.frozen? (R b 0)=aY:=h.free;have m:=jY F.aH F.qZ 1;have D:=h.gx 1;generalize P:cA a (R b 0) (iO 1)=v at m D;have q:=gS D;rw[Q]at q;have k:cD bz 37 #[ay b] v λL C=>L=aL .nilIface/\Below (z<|G v) v C:=q;have V:=U<|λw(E:Below (z<|G v) v w)=>BI (W2:=w) D F N m E;have T:=U P;clear h F m D Q P q;go_enter_defers func41,ntmps41
 go_wp2_with fail
 apply(lock_free (R b 0) _ W f0).mono;rintro L C⟨rfl,O⟩;rw[ae T]at O;subst C;go_wp2_with fail
 apply k.mono;rintro L w⟨rfl,E⟩;obtain⟨l,A,g⟩:=V w E;obtain⟨p,rx,ry,rz,t⟩:=Iy d n.aW l A hz;have c9:=bJ.cellAt l 9 rfl;rw[t]at p;have K:=U t;have u:=U g;clear l A g E k t;go_wp2_with fail
 apply p.mono;rintro L w2⟨rfl,x,B⟩;obtain⟨X,g0,hF⟩:=u _ w2 x B;have S:=U hF;clear x B hF p;go_wp2;refine eH (f:=36) (args:=#[ay b]) (by simp) (by simp[go_sem]) ?_;apply(unlock_deferred (R b 0) .returning _ X g0).mono;rintro L u' ac⟨rfl,rfl,rfl⟩;exact⟨_,mU rfl _ _ _,by rw[ae K];rfl,S⟩
def Kd(v:Z)(k:ab)(h:bJ a b n 0)(m:n.closed=bU):cD bz 48 #[ay b,ap v,aj k] a λo l=>o=aL (dw #[aj ⟨#[]⟩,aK aY,kN 6])/\bJ l b n 0/\I (λw=>w=b) a l:=by
 have q:=bJ.cellAt h 0 rfl;have s:a.frozen? (R b 0)=aY:=h.free;have j:=h.gx 1;have d:=uH v j m;have p:=U<|λg i=>oK (W2:=g) j (gW b a) i;clear h j m;rw[uL]at d|-;go_enter_defers func48,ntmps48
 go_wp2_with fail
 apply(lock_free (R b 0) _ q s).mono;rintro o l⟨rfl,rfl⟩;go_wp2_with fail
 apply d.mono;rintro o g⟨rfl,i⟩;obtain⟨r,t,c⟩:=p g i;have e:=U c;clear c i d;go_wp2;refine eH (f:=36) (args:=#[ay b]) (by simp) (by simp[go_sem]) ?_;apply(unlock_deferred (R b 0) .returning _ r t).mono;rintro o x u⟨rfl,rfl,rfl⟩;exact⟨_,mU rfl _ _ _,rfl,e⟩
def PO(L:fh)(ac:Z)(p:ab)(h:bJ a b n 0)(K:ST a b n j e i o r s c)(C:Gk a j b n L)(hc:n.closed=aY)(hz:p.size<=140737488351232):cD bz 48 #[ay b,.int .i64 ac,.string p] a λN E=>N=.returned (match pB L ac with|some ad=>PJ p ad (oq n e i o r s)|none=>.tuple #[.string ⟨#[]⟩,.bool aY,kN 5])/\Xr a E b n j e i o r s c:=by
 have T:=am h;have c0:=bJ.cellAt h 0 rfl;have f0:a.frozen? (R b 0)=aY:=h.free;have m:=jY K.aH K.qZ 1;have F:=h.gx 1;generalize hW:cA a (R b 0) (iO 1)=W1 at m F;obtain⟨mb,q1,q2,q3⟩:=(C.eW m).ex;have d:=rN ac L F hc q1 q2;have X:=U<|λt(u:Below (z<|G W1) W1 t)=>BI (W2:=t) F K T m u;have W:=U hW;clear h K m F hc hW C q1 q2 q3;cases hg:pB L ac with
 |none=>
  rw[hg]at d;simp only at d|-;rw[PW]at d|-;clear hg;go_enter_defers func48,ntmps48
  go_wp2_with fail
  apply(lock_free (R b 0) _ c0 f0).mono;rintro N E⟨rfl,x⟩;rw[ae W]at x;subst E;go_wp2_with fail
  apply d.mono;rintro N t⟨rfl,u⟩;obtain⟨l,k,g⟩:=X t u;obtain⟨Q,S,hF⟩:=g (Uq (yi i o r s) j) t ⟨k.aH.lt,j,λq=>by omega,k.aH,rfl,rfl,λ_ q=>q⟩<|I.refl _ _;have O:=U hF;clear l k g u d hF;go_wp2;refine eH (f:=36) (args:=#[ay b]) (by simp) (by simp[go_sem]) ?_;apply(unlock_deferred (R b 0) .returning _ Q S).mono;rintro N u' V⟨rfl,rfl,rfl⟩;exact⟨_,mU rfl _ _ _,rfl,O⟩
 |some ad=>
  rw[hg]at d;simp only at d|-;clear hg;go_enter_defers func48,ntmps48
  go_wp2_with fail
  apply(lock_free (R b 0) _ c0 f0).mono;rintro N E⟨rfl,x⟩;rw[ae W]at x;subst E;go_wp2_with fail
  apply d.mono;rintro N t⟨rfl,u⟩;obtain⟨l,k,g⟩:=X t u;obtain⟨v,rx,ry,rz,w⟩:=Iy p ad l k hz;rw[w]at v;have P:=U w;have A:=U g;clear l k g u d w;go_wp2_with fail
  apply v.mono;rintro N w2⟨rfl,B,D⟩;obtain⟨Q,S,hF⟩:=A _ w2 B D;have O:=U hF;clear B D hF v;go_wp2;refine eH (f:=36) (args:=#[ay b]) (by simp) (by simp[go_sem]) ?_;apply(unlock_deferred (R b 0) .returning _ Q S).mono;rintro N u' V⟨rfl,rfl,rfl⟩;exact⟨_,mU rfl _ _ _,by rw[ae P];rfl,O⟩
end
def Uj(a:Z)(b:ab)(c:dL):cJ:=nu ⟨#[]⟩<|(cG<|c.map<|fT b).filter<|λe=>decide<|e.bP<=a
def YH(c:Z)(i:ab)(b:dL):∀x∈Uj c i b,x∈b.flatten:=by
 intro x h;have d:=(wA _ _).subset h;have e:=(dY _).mem_iff.1 (dZ.1 d).1;obtain⟨l,f,a⟩:=bE.1 e;obtain⟨r,g,rfl⟩:=bW.1 f;exact bE.2 ⟨r,g,(dZ.1 a).1⟩
def YI(c:Z)(b:ab)(a:dL):y (Uj c b a)<=y a.flatten:=by
 have d:=(wA ((cG<|a.map<|fT b).filter<|λe=>decide<|e.bP<=c) ⟨#[]⟩).length_le;have f:=eK (λe:E=>decide<|e.bP<=c)<|cG<|a.map<|fT b;have g:=(dY<|a.map<|fT b).length_eq;have h:=Wv b a;unfold Uj;omega
def Wy(v:aa)(w:Y):(Go.method 554 97 v "From").run bz w=.ok (323,v) w:=by kernel_rfl
def mP.list{V:iY}(r:kr a d e)(n:dM e)(h:∀x∈e,x.bP<18446744073709551616)(m:y e<=1000000000000)(i:∀j,ct d=H j->j<b/\¬V.F j)(g:b<=z (G a))(hF:∀o,V.F o->o<b):mP V b (.iface 97 d) e a:=by
 refine⟨_,d,_,d,rfl,Wy d,enters_of func323 (by kernel_rfl) rfl,λp u c k=>?_⟩;apply(Nd V b p (r.same c i) n h m (λj f=>⟨(i j f).2,ag (ag (i j f).1 g) c.1⟩) (aC g c.1) hF).mono;rintro w v⟨q,S,rfl,l,f,s⟩;refine⟨q,S,rfl,l,V.fD k (I.aR (S:=az) f) cO,I.aR f,λo t=>?_⟩;grind
def ST.Ww(h:ST a b n j e i o r s c):∀g∈oq n e i o r s,mP (lI n.aH j) (z<|G a) g.1 g.2 a:=by
 have hF:∀k,(lI n.aH j).F k->k<z (G a):=h.aH.lt;have l:=h.count;intro g d;simp only[oq,bH,aE,qT,bW,fO,mu]at d;rcases d with rfl|((⟨t,f,rfl⟩|rfl)|rfl)|rfl;exact mP.list h.mem h.mh (λx d=>(h.iX x d).b1) (show y e<=1000000000000 by have:=h.len;omega) (λk a=>⟨(h.tg k a).lt,(h.tg k a).aU⟩) (ai _) hF;exact mP.table (Jc (h.l0.each t f) h.kC<|Bn.aH _ _ _ _) (ai _) hF<|λ_ h=>h;exact mP.xP (DF h.l1 h.kC h.s1 (by omega) rfl<|λ_=>Bn.aH _ _ _ _) (ai _) hF<|λ_ h=>h;exact mP.xP (DF h.l2 h.kC h.s2 (by omega) rfl<|λ_=>Bn.aH _ _ _ _) (ai _) hF<|λ_ h=>h;exact mP.xP (DF h.l3 h.kC h.s3 (by omega) rfl<|λ_=>Bn.aH _ _ _ _) (ai _) hF<|λ_ h=>h
section
open Shelf
attribute [local go_sem] Oper.semAt_some
def xS:(prog.info? 163).map (λi=>(i.zero,i.size,i.bytes))=H (H<|dW #[aj ⟨#[]⟩,aj ⟨#[]⟩],2,32):=by kernel_rfl
def Zv(p:KV):∀u∈qu p,u.oneCell'=bU:=by
 intro u a;simp[qu]at a;rcases a with rfl|rfl<;>rfl
def PD(w:Y)(p:KV)(t:TypeId):∀j u,(qu p)[j]?=H u->aO (cF w<|ar #[aj p.1,aj p.2] t) (((R (z<|G w) 0):Addr).add j)=H u:=by
 intro j u a;rw[du];have h:(cF w<|ar #[aj p.1,aj p.2] t).heap[z<|G w]?=H (ar #[aj p.1,aj p.2] t (0,0)):=aB _ rfl;rw[bL h,dp];simpa[qu]using a
def Ft(l:jN)(p:KV):ib (l++[p])=ib l++qu p:=by simp[ib]
def PA(V:iY)(b:Y)(c:ab)(a:Z)(n:M)(d:jN)(B:fA)(W:Y):Prop:=Acc V.F b [(z<|G b,aj c,9),(z (G b)+1,ap a,3),(z (G b)+2,aD,39),(z (G b)+3,.nilIface,50)] (z (G b)+4) 39 163 2 (z (G b)+5) n (ib d) B W
def SF(n0:M){kx:SR}(p0 p1 p2 p3:aa×cf)(j:cw (aa×cJ))(lo o:ab)(c bt:Z)(h:bJ a b kx K)(mx:Option Addr)(mn mc:M)(ea:kx.memory=J mx mn mc)(hl:DB a b 10 [p0,p1,p2,p3])(bn:j.map (·.1)=xF kx.memory p0 p1 p2 p3)(hR:∀gr(o:gr<y j),mP t n0 j[gr].1 j[gr].2 a)(hD:t.D a)(gc:n0<=z (G a))(hF:∀K,t.F K->K<n0)(gn:∀gs∈Uj bt lo (j.map (·.2)),gs.key.size<=281474976710656/\gs.val.size<=281474976710656)(X:y (Uj bt lo<|j.map (·.2))<=1000000000):cD bz 142 #[ay b,aj lo,aj o,ap c,aJ bt] a λbx w'=>∃v',bx=aL (dw #[v',.nilIface])/\w'.ownsRow (z<|G a) 163 2 v' (y<|wD o c []<|((Uj bt lo<|j.map (·.2)).filter<|λbx=>!bx.del).map yX) (ib<|wD o c []<|((Uj bt lo<|j.map (·.2)).filter<|λbx=>!bx.del).map yX)/\t.D w'/\I t.F a w':=by
 obtain⟨hu,hL⟩:∃hu,(Uj bt lo<|j.map (·.2)).filter (λbx=>!bx.del)=hu:=⟨_,rfl⟩;rw[hL];obtain⟨bb,hP⟩:∃bb,wD o c [] (hu.map yX)=bb:=⟨_,rfl⟩;rw[hP];have cv:=U hL;have hj:=U hP;clear hL hP;have eB:y j<=1000000000:=by(have X:y (pE p0 p1 p2 p3)+1=y j:=by have:=bX y bn;simp[xF]at this;omega);have:=hl.small;rw[<-X];simp[pE,mf]at this|-;omega
 obtain⟨i0,hY,iv,jA,jB⟩:=cH xS;have C:I az a (cF (cF (cF (cF (cF a<|ar #[aj o] 9)<|ar #[ap c] 3)<|ar #[aD] 39)<|ar #[.nilIface] 50)<|ar #[aD] 39):=((((cK az a).alloc _).alloc _).alloc _).alloc _;have bp:z (G<|cF (cF (cF (cF (cF a<|ar #[aj o] 9)<|ar #[ap c] 3)<|ar #[aD] 39)<|ar #[.nilIface] 50)<|ar #[aD] 39)=z (G a)+5:=by simp
 have ei:ep (cF (cF (cF (cF (cF a<|ar #[aj o] 9)<|ar #[ap c] 3)<|ar #[aD] 39)<|ar #[.nilIface] 50)<|ar #[aD] 39) (z<|G a) (aj o) 9:=ep.alloc (ep.alloc (ep.alloc (ep.alloc (aB _ rfl) _) _) _) _;have ej:ep (cF (cF (cF (cF (cF a<|ar #[aj o] 9)<|ar #[ap c] 3)<|ar #[aD] 39)<|ar #[.nilIface] 50)<|ar #[aD] 39) (z (G a)+1) (ap c) 3:=ep.alloc (ep.alloc (ep.alloc (aB _<|by simp) _) _) _;have w:ep (cF (cF (cF (cF (cF a<|ar #[aj o] 9)<|ar #[ap c] 3)<|ar #[aD] 39)<|ar #[.nilIface] 50)<|ar #[aD] 39) (z (G a)+2) aD 39:=ep.alloc (ep.alloc (aB _<|by simp) _) _;have x:ep (cF (cF (cF (cF (cF a<|ar #[aj o] 9)<|ar #[ap c] 3)<|ar #[aD] 39)<|ar #[.nilIface] 50)<|ar #[aD] 39) (z (G a)+3) .nilIface 50:=ep.alloc (aB _<|by simp) _;have ek:ep (cF (cF (cF (cF (cF a<|ar #[aj o] 9)<|ar #[ap c] 3)<|ar #[aD] 39)<|ar #[.nilIface] 50)<|ar #[aD] 39) (z (G a)+4) aD 39:=aB _ (by simp);obtain⟨W5,hC⟩:∃W5,(cF (cF (cF (cF (cF a<|ar #[aj o] 9)<|ar #[ap c] 3)<|ar #[aD] 39)<|ar #[.nilIface] 50)<|ar #[aD] 39)=W5:=⟨_,rfl⟩;rw[hC]at C bp ei ej w x ek;have gb:=Ew p0 p1 p2 p3 ((C.block b (am h) id).trans h) mx mn mc ea<|hl.aw C id<|λ_ _ _ _ s=>s;have dT:y (pE p0 p1 p2 p3)+1=y j:=by have:=bX y bn;simp[xF]at this;omega
 rw[dT,<-bn]at gb;have fv:∀w6 v6,w6.ownsRow (z<|G W5) 254 1 v6 (y j) (j.map (·.1))->I az W5 w6->cD bz 201 #[v6,aj lo,aJ bt] w6 λbx w'=>∃v' b,bx=aL v'/\jf t n0 v' (Uj bt lo<|j.map (·.2)) b w'/\t.D w'/\I t.F a w'/\(∀K,b K->z (G a)+5<=K)/\I t.F W5 w':=by intro w6 v6 aq D;have e:I az a w6:=C.cr D;refine(ZO n0 j lo bt (da aq) (λK f=>⟨(aq.lt K f).2,λhf=>by have:=hF K hf;have:=(aq.lt K f).1;omega⟩) eB (λgr o=>(hR gr o).same<|e.same gc cO cO) (t.fD hD e cO) (aC gc e.size) hF).mono ?_;rintro bx w7⟨v7,S7,rfl,dx,an,bs,cc⟩;refine⟨v7,S7,rfl,dx,an,(e.mono (T:=t.F) cO).trans bs<|λ_ s=>.inl s,λK f=>?_,(D.mono (T:=t.F) cO).trans bs<|λ_ s=>.inl s⟩;have:=cc K f;have:=D.size;omega
 have hh:=U fv;have cB:=U<|And.intro ei (And.intro ej (And.intro w (And.intro x (And.intro ek bp))));clear fv C bp ei ej w x ek;obtain⟨hs,HF,eo,HH,HL,kd,HR,HD,kc⟩:=xU gn hF X h hl bn hR hD ea;clear h hl bn hR hD ea gn X hF dT;refine(dh (n:=3)).1 ?_;refine callsIn_of_wp_marks func142 rfl trivial ?_ rfl;simp only[ntmps142,eU,aS,dH,Nat.reduceAdd,Nat.reduceSub,dR,dQ,eV,eD,cU,cL];gi_wp2_with(refine⟨trivial,?_⟩;gi_at_call 98;refine(dh.2<|gb).mono ?_;rintro bx w6⟨v6,rfl,aq,D⟩;obtain⟨x6,c6,it⟩:=aA aq;subst it;have hi:=U aq;have hq:=U D;clear aq D)
 gi_wp2_with(refine⟨trivial,?_⟩;gi_at_call 201;refine(dh.2<|hh _ _ hi hq).mono ?_;rintro bx w7⟨v7,S7,rfl,dx,an,bs,cc,cp⟩;obtain⟨f7,es,rfl,fr,fz⟩:=dx;have hg:=U<|show jf t n0 (.func (.func f7) #[] es) (Uj bt lo<|j.map (·.2)) S7 w7 from⟨f7,es,rfl,fr,fz⟩;have hc:=U an;have hr:=U bs;have ho:=U cc;have bk:=U cp;clear an bs cc fr fz cp)
 gi_wp2_with(refine⟨trivial,?_⟩;gi_at_call 200;refine(dh.2<|LZ hg).mono ?_;rintro bx w8⟨v8,S8,rfl,hX,ao,eF⟩;obtain⟨f8,bl,rfl,fs,O⟩:=hX;have he:=U fs;have hm:=U O;have ha:=U ao;have hp:=U eF;clear fs O ao eF)
 gi_wp2_with(refine⟨trivial,?_⟩;gi_at_call 158;refine(dh.2<|Nn f8 bl w8).mono ?_;rintro bx w9⟨rfl,kv⟩;subst w9)
 have O:=ae hm;rw[ae cv]at O;have ao:=ae ha;have ks:=O.own.size;have hF:∀K,t.F K->K<z (G a):=λK f=>by have:=HF K f;omega
 have il:I t.F a w8:=hr.cr<|I.aR (S:=az) ao;have jG:∀K,S8 K->z (G a)+5<=K:=λK f=>by rcases hp K f with s|s;exact ho K s;have:=bk.size;have:=cB.2.2.2.2.2;omega
 obtain⟨W9,cd⟩:∃W9,cF w8 (ar #[.func (.func f8) #[] bl] 190)=W9:=⟨_,rfl⟩;have ba:I az w8 W9:=by rw[<-cd];exact(cK az w8)
 have hG:ep W9 (z<|G w8) (.func (.func f8) #[] bl) 190:=by rw[<-cd];exact aB _ rfl
 have kt:z (G W9)=z (G w8)+1:=by rw[<-cd];simp
 have bu:I t.F a W9:=il.cr ba;have gg:I t.F W5 W9:=(bk.cr<|I.aR (S:=az) ao).cr ba;have fL:IT t n0 f8 bl hu S8 W9:=O.same<|ba.same O.own.size (λK f=>⟨(O.own.each K f).2,λs=>s⟩) cO;have hz:t.D W9:=t.fD (t.fD hc (I.aR (S:=az) ao) cO) ba cO;have ka:z (G a)+5<=z (G w8):=by have:=bk.size;have:=cB.2.2.2.2.2;have:=ao.size;omega
 have hy:PA t a o c 0 [] (λK=>K=z (G a)\/K=z (G a)+1\/K=z (G a)+2\/K=z (G a)+3\/K=z (G a)+4) W9:=by obtain⟨g,i,q,x3,e,bp⟩:=ae cB;have f:∀{b:M}{gt:aa}{t:TypeId},ep W5 b gt t->z (G a)<=b->ep W9 b gt t:=λhb bf=>(gg.block _ (am hb) (λs=>by have:=hF _ s;omega)).trans hb;refine⟨?_,⟨aD,f e (by omega),bK _ _ _ _,λK=>by simp[ct];omega⟩,?_,by omega,bu⟩;(grind);grind
 rw[cd];have hP:=ae hj;refine nQ (arg:=Uk) (m:=3) (V:=t) (n0:=n0) (gf:=220) (lb:=#[ay<|z<|G w8]) (l:=hu) (S:=λK=>S8 K\/K=z (G w8)) ?geval (enters_of func220 (by kernel_rfl) rfl) (λ_=>rfl) (FJ 2 bl hG he fL (by omega) (λs=>by have:=(O.own.each _ s).2;omega)) hz (by omega) ?slt (λd cj W=>PA t a o c (y d) (d.map yX) cj W/\(∀F,hu=d++F->bb=wD o c (d.map yX) (F.map yX))) (λs _ cj W=>s=.exit 0/\PA t a o c (y bb) bb cj W/\t.D W) (λK=>K=z (G a)\/K=z (G a)+1\/K=z (G a)+2\/K=z (G a)+3\/K=z (G a)+4) ⟨hy,λF jK=>by rw[<-hP,jK];rfl⟩ ?sb ?lt ?st ?xst ?body ?done ?stop;case geval=>rfl
 (case slt=>rintro K(s|s);have:=(fL.own.each K s).2;exact this;omega);(case sb=>grind);(case lt=>rintro d cj W⟨h,_⟩K f;have:=h.lt K f;grind);(case st=>rintro d cj W W' jD⟨h,e⟩ht hT;refine⟨h.stays ht<|λK f=>⟨(hT K f).1,?_⟩,e⟩;have:=bu.size;grind);(case xst=>rintro s d cj W W' jD⟨h1,h2,h3⟩ht hT;have:=bu.size;exact⟨h1,h2.stays ht<|λK f=>⟨(hT K f).1,.inr (by have:=(hT K f).2;omega)⟩,t.fD h3 ht (λK f hf=>by have:=(hT K f).2;have:=hF K hf;omega)⟩);(case stop=>rintro cs s d cj W hA⟨rfl,N,P⟩al hK;obtain⟨gt,hv,p,ac⟩:=N.row;have ce:aO W (R (z (G a)+1+1+1+1) 0)=H gt:=hv.cell;have w:=N.fix (z (G a)+2,aD,39) (by simp);have x:=N.fix (z (G a)+3,.nilIface,50) (by simp);have hJ:aO W (R (z (G a)+1+1) 0)=H aD:=w.cell;have hU:W.frozen? (R (z (G a)+1+1) 0)=aY:=w.free;have hM:aO W (R (z (G a)+1+1+1) 0)=H .nilIface:=x.cell;have hV:W.frozen? (R (z (G a)+1+1+1) 0)=aY:=x.free;obtain⟨v,u,bv⟩:=aA p;obtain⟨cE,cM,HC,HV,ad,bc,bg,HK⟩:=FB w x N hv p ac P hK;clear N hv p ac P hK w x;subst bv;gi_wp2;have hB:=ae bc;have N:=ae HC;have n1:cs≠z (G a)+2:=λs=>al<|(hB _).2<|.inl ⟨(z (G a)+2,aD,39),by simp,s.symm⟩;have n2:cs≠z (G a)+3:=λs=>al<|(hB _).2<|.inl ⟨(z (G a)+3,.nilIface,50),by simp,s.symm⟩;have n3:¬ct (J v (y bb) u)=H cs:=λs=>al<|(hB _).2<|.inr<|.inr s;(have dc:(cA (cA W (R (z (G a)+2) 0)<|J v (y bb) u) (R (z (G a)+3) 0) .nilIface).heap[cs]?=H (.deferred<|H []):=by rw[iw _ n2,iw _ n1];exact HK);have T:ep (cA (cA W (R (z (G a)+2) 0)<|J v (y bb) u) (R (z (G a)+3) 0) .nilIface) (z (G a)+2) (J v (y bb) u) 39:=(cE.set _).other _ (by omega);have V:ep (cA (cA W (R (z (G a)+2) 0)<|J v (y bb) u) (R (z (G a)+3) 0) .nilIface) (z (G a)+3) .nilIface 50:=(cM.other _<|by omega).set _;have au:=gG (cA (cA W (R (z (G a)+2) 0)<|J v (y bb) u) (R (z (G a)+3) 0) .nilIface) cs<|.deferred none;have ef:I (λK=>K=z (G a)+2\/K=z (G a)+3) W (cA (cA W (R (z (G a)+2) 0)<|J v (y bb) u) (R (z (G a)+3) 0) .nilIface):=((I.refl (λK=>K=z (G a)+2\/K=z (G a)+3) W).setCell _ 0 _<|.inl<|.inl rfl).setCell _ 0 _<|.inl<|.inr rfl;have av:=(ef.mono (T:=λK=>K=z (G a)+2\/K=z (G a)+3\/K=cs)<|λK f=>.inl<|f.elim .inl<|λs=>.inr<|.inl s).trans au<|λK f=>.inl<|.inr<|.inr f;(have bo:∀K,z (G a)<=K->¬t.F K:=λK f hf=>by have:=hF K hf;omega);(have bf:∀K,(K=z (G a)+2\/K=z (G a)+3\/K=cs)->z (G a)<=K:=by have:=bu.size;rintro K(s|s|s)<;>omega);refine⟨by simp,.inl ⟨_,_,rfl,run_takeDeferred dc,?_⟩⟩;refine⟨_,zH rfl underlying39 _ _ (z (G a)+2) (z (G a)+3) (J v (y bb) u) .nilIface rfl rfl ?_ ?_,?_⟩;exact(ep.cell<|(au.block _ (am T)<|λs=>n1 s.symm).trans T);exact(ep.cell<|(au.block _ (am V)<|λs=>n2 s.symm).trans V);refine⟨_,rfl,?_,t.fD bg av<|λK f=>bo K<|bf K f,N.aw.trans av<|λK f=>.inr<|bf K f⟩;have p:=ae ad;have iu:=av.own p (λK f s=>by have:=(p.lt K f).1;grind);obtain⟨h1,⟨h2,h0⟩|⟨gv,hw,cT,h2,hb,k⟩⟩:=iu;exact⟨h1,.inl ⟨h2,h0⟩⟩;exact⟨h1,.inr ⟨gv,hw,cT,h2,by omega,k⟩⟩)
 case body=>
  rintro lr d gs cj W dT hx jI fx⟨N,hcut⟩P;obtain⟨F,k⟩:=fx;have fq:=hcut (gs::F) (by rw[<-k];simp);have X:y d+1<=1000000000:=by
   have h1:=bX y k;have h2:=bX y cv;have h3:=eK (λbx=>!bx.del)<|Uj bt lo<|j.map (·.2);have A:=ae eo;grind
  have el:gs.key.size<=281474976710656/\gs.val.size<=281474976710656:=hs gs (by
   have:gs∈(Uj bt lo<|j.map (·.2)).filter (λbx=>!bx.del):=by rw[ae cv,<-k];simp
   grind)
  have ih:d.map yX++[yX gs]=(d++[gs]).map yX:=by simp
  obtain⟨HC,bg,en,jE,hn⟩:=je N P fq hcut k;clear N P fq hcut k;obtain⟨e,i,q,g⟩:=gs;unfold Uk E.value;simp only at el;simp only;gi_wp2;refine⟨(cK _ _),λL bq=>?_⟩;have bm:PA t a o c (y d) (d.map yX) cj L:=(HC.stays ((I.refl az W).alloc<|ar #[aj e,aj i,aK q,aJ g] 180) cO).stays bq (λK f=>by grind);have db:ii L (z<|G W) ⟨e,i,q,g⟩:=ii.aw (aB _ rfl) bq (by omega);obtain⟨gt,hv,p,ac⟩:=bm.row;have hH:aO L (R (z<|G a) 0)=H (aj o):=(bm.fix (z<|G a,aj o,9)<|by simp).cell;have hI:aO L (R (z (G a)+1) 0)=H (ap c):=(bm.fix (z (G a)+1,ap c,3)<|by simp).cell;have ce:aO L (R (z (G a)+4) 0)=H gt:=hv.cell;obtain⟨v,u,bv⟩:=aA p;obtain⟨dn,ds,hQ,hS⟩:=db.cells;obtain⟨em,HV,ad,bc,eq,hd⟩:=jX bm hv p ac bq db;have ge:z (G W)+1<=z (G L):=by have:=bq.size;simp_all
  clear bm db hv p ac bq;subst bv;have kb:=ge;have ch:I (λK=>cj K\/K=lr) W L:=((I.refl (λK=>cj K\/K=lr) W).alloc<|ar #[aj e,aj i,aK q,aJ g] 180).trans eq<|λK f=>.inl<|.inr f;have bo:∀K,z (G a)<=K->¬t.F K:=λK f hf=>by have:=hF K hf;omega
  have cb:t.D L:=t.fD (t.fD bg (cK az W) cO) eq (λK f=>by grind);by_cases r:(!(o.toList==[])&&!iP e o)=bU
  .have Q:bb=d.map yX:=by
    rw[ae en,bZ,wD];exact dz r
   have ff:(o.toList==[])=aY:=by cases h1:(o.toList==[])<;>simp[h1]at r|-
   have dk:iP e o=aY:=by cases h2:iP e o<;>simp[h2]at r|-
   unfold iP at dk;obtain⟨cx,cu,bT⟩:=dA ch cb Q;clear ch cb Q r;gi_wp2;refine⟨cj,⟨rfl,?_,cu⟩,cx,rfl,λK f=>.inl f⟩;rw[ae bT,cV];exact em
  .have eb:(o.toList==[])=bU\/((o.toList==[])=aY/\iP e o=bU):=by
    cases h1:(o.toList==[])<;>cases h2:iP e o<;>simp[h1,h2]at r|-
   have cm:bb=if((y d:Z)+1==c)=bU then d.map yX++[yX ⟨e,i,q,g⟩]else wD o c (d.map yX++[yX ⟨e,i,q,g⟩]) (F.map yX):=by
    rw[ae en,bZ,wD,cV];exact dr r
   have ck:=U cm;have ax:=am hd;have co:=am HV;have bd:aO L.drew (R (z (G a)+1+1+1+1) 0)=H (J v (y d) u)/\aO L.drew (R (z<|G W) 0)=H (aj e)/\aO L.drew (R (z<|G W) 1)=H (aj i):=⟨ce,dn,ds⟩;have bi:=U (show∀B,I az L B->aO B (R (z (G a)+1+1+1+1) 0)=H (J v (y d) u)/\aO B (R (z<|G W) 0)=H (aj e)/\aO B (R (z<|G W) 1)=H (aj i)fromλB b=>⟨b.cell bd.1 id co,b.cell bd.2.1 id ax,b.cell bd.2.2 id ax⟩);have hN:=λW=>rl e W el.1;have fn:=λW=>rl i W el.2;have hE:z (G a)+5<=z (G L):=by omega
   have cx:=U ch;have cu:=U cb;clear ch cb r cm;rcases eb with ff|⟨ff,dk⟩;case' inl=>gi_wp2_with fail
   case' inr=>unfold iP at dk;gi_wp2_with fail
   all_goals
    rename_i QQ KK eA;refine tZ (λB=>aO B (R (z (G a)+1+1+1+1) 0)=H (J v (y d) u)/\aO B (R (z<|G W) 0)=H (aj e)/\aO B (R (z<|G W) 1)=H (aj i)) 10 (by kernel_rfl) (by kernel_rfl) (λky a h=>h) ?_;refine cY 0 ?_;iterate 3 (refine eM (v:=?_) bd rfl (by kernel_rfl) iW rfl ?_ ?_;rotate_left;(focus(rintro B⟨z0,z1,z2⟩;go_simp;try rfl));simp only[Act.put,dD,Nat.reduceAdd])
    apply eC;refine cY 4 ?_;iterate 2 (refine eM (v:=?_) bd rfl (by kernel_rfl) iW rfl ?_ ?_;rotate_left;(focus(rintro B⟨z0,z1,z2⟩;go_simp;try rfl));simp only[Act.put,dD,Nat.reduceAdd])
    apply eC;refine aM (i:=3) rfl rfl (by kernel_rfl) ?_;intro K3 eu;go_simp;apply(hN _).mono;rintro bx w4⟨rfl,fk⟩;have ed:I az L w4:=(ci az L).cr<|I.aR (S:=az) fk;refine eu _ _ (λ_=>bi w4 ed) ?_;try simp only[Act.put,dD]
    refine aM (i:=6) rfl rfl (by kernel_rfl) ?_;intro K6 ev;go_simp;apply(fn _).mono;rintro bx w5⟨rfl,fl⟩;have C:I az L w5:=ed.cr<|I.aR (S:=az) fl;refine ev _ _ (λ_=>bi w5 C) ?_;try simp only[Act.put,dD]
    refine aM (i:=7) rfl rfl (by kernel_rfl) ?_;intro K7 ex;go_simp;refine ex _ _ (λ_=>bi w5 C) ?_;try simp only[Act.put,dD]
    refine aM (i:=8) rfl rfl (by kernel_rfl) ?_;intro K8 ey;go_simp;have D:=C.alloc<|ar #[aj e,aj i] 163;refine ey _ _ (λ_=>bi _ D) ?_;try simp only[Act.put,dD]
    have bp:=C.size;refine aM (i:=9) rfl rfl (by kernel_rfl) ?_;intro K9 ez;simp only[cy,bF,bQ];refine kH (.tmp 36) (.tmp 44) 39 rfl (z (G a)+5) 163 i0 (dW #[aj ⟨#[]⟩,aj ⟨#[]⟩]) 2 32 underlying39 hY iv jA jB rfl (by decide) (J v (y d) u) (y d) (ib<|d.map yX) rfl (D.own ad<|λ_ _ s=>s) (R (z<|G w5) 0) 1 1 (qu<|yX ⟨e,i,q,g⟩) rfl rfl (PD _ (yX ⟨e,i,q,g⟩) _) (Zv _) (by omega) (by omega) (by simp;omega) ?_;intro v3 w3 ec eg;obtain⟨x3,c3,ip⟩:=aA ec;subst ip;have br:I (λK=>ct (J v (y d) u)=H K) L w3:=(D.mono (T:=λK=>ct (J v (y d) u)=H K) cO).trans (I.dJ (S:=λK=>ct (J v (y d) u)=H K) eg.grown<|λK f=>.inl f)<|λK f=>.inl f;have dm:ep w3 (z (G a)+4) (J v (y d) u) 39:=(br.block _ co (λs=>by have:=(ad.lt _ s).1;omega)).trans HV;have dv:¬ct (J v (y d) u)=H (z<|G W):=λs=>by have:=(HC.lt _<|(bc _).2<|.inr<|.inr s).2;omega
    have dd:aO w3 (R (z (G a)+1+1+1+1) 0)=H (J v (y d) u)/\aO w3 (R (z<|G W) 0)=H (aj e)/\aO w3 (R (z<|G W) 1)=H (aj i):=⟨dm.cell,br.cell dn dv ax,br.cell ds dv ax⟩;refine ez _ _ (λ_=>dd) ?_;simp only[Act.put,dD];refine aM (i:=10) rfl rfl (by kernel_rfl) ?_;intro kf cl;have hO:=dd.1;have hW:w3.frozen? (R (z (G a)+1+1+1+1) 0)=aY:=dm.free;go_simp;refine cl _ _ wX ?_;refine cW (by kernel_rfl) ?_ _;show KK _ _;apply eA;have fe:ct (J x3 (y d+1) c3)=ct (J v (y d) u)\/∃gv,ct (J x3 (y d+1) c3)=H gv/\z (G L)<=gv:=by
     rcases eg.ur with kk|⟨gv,kk,ko⟩
     .exact .inl kk
     .exact .inr ⟨gv,kk,by simp at ko;omega⟩
    obtain⟨B',q1,q2,q3⟩:=em.more HV bc ad br fe ec;have bh:Hid (PA t a o c (y d+1) (d.map yX++[yX ⟨e,i,q,g⟩]) B'<|cA w3 (R (z (G a)+1+1+1+1) 0)<|J x3 (y d+1) c3):=U (by unfold PA;rw[Ft];exact q1);have ca:Hid (I cj L<|cA w3 (R (z (G a)+1+1+1+1) 0)<|J x3 (y d+1) c3):=U q2;have hk:=U q3;clear q1 q2 q3 eA eu ev ex ey ez cl br dm dd hO hW ec eg fe dv ed C D fk fl bd bi;obtain⟨W7,fd⟩:∃W7,cA w3 (R (z (G a)+1+1+1+1) 0) (J x3 (y d+1) c3)=W7:=⟨_,rfl⟩;rw[fd]at bh ca|-;clear fd;obtain⟨v7,gi,cq,gj⟩:=bh.row;obtain⟨x7,c7,gk⟩:=aA cq;subst gk;have kl:aO W7 (R (z (G a)+1+1+1+1) 0)=H (J x7 (y d+1) c7):=gi.cell;have kn:aO W7 (R (z (G a)+1) 0)=H (ap c):=(bh.fix (z (G a)+1,ap c,3)<|by simp).cell;have an:t.D W7:=t.fD cu ca<|λK f=>bo K (HC.lt K f).1;have fb:I (λK=>cj K\/K=lr) W W7:=cx.trans ca<|λK f=>.inl<|.inl f;have cn:W7.heap[lr]?=L.heap[lr]?:=ca.block lr (by omega) hx;have et:∀K,B' K->cj K\/z (G W)<=K:=λK f=>(hk K f).imp_right (λs=>by omega);have A:=U<|And.intro an (And.intro fb (And.intro cn et));clear an fb cn et gi cq gj hH hI ce dn ds hQ hS;by_cases jH:(y d:Z)+1=c
    .have fu:((y d:Z)+1==c)=bU:=by grind
     have Q:bb=d.map yX++[yX ⟨e,i,q,g⟩]:=by rw[ae ck];grind
     have bT:=U Q;clear Q;gi_wp2;refine⟨B',⟨rfl,?_,A.1⟩,A.2.1,A.2.2.1,A.2.2.2⟩;rw[ae bT,af,cV];exact bh
    .have fu:¬((y d:Z)+1==c)=bU:=by grind
     have Q:bb=wD o c (d.map yX++[yX ⟨e,i,q,g⟩]) (F.map yX):=by rw[ae ck];grind
     have bT:=U Q;have kq:((y d:Z)+1==c)=aY:=by grind
     clear Q fu;gi_wp2;refine⟨A.1,B',⟨?_,λjC jK=>?_⟩,A.2.1,A.2.2.1,A.2.2.2⟩
     .rw[af,<-ih];exact bh
     grind[ae,append_cancel_left]
 (case done=>rintro cs cj W hA⟨N,hcut⟩al P hK;(have e:bb=hu.map yX:=by rw[hcut []<|by simp];rfl);(have N:PA t a o c (y bb) bb cj W:=by rw[e,cV];exact N);clear e hcut;obtain⟨gt,hv,p,ac⟩:=N.row;have ce:aO W (R (z (G a)+1+1+1+1) 0)=H gt:=hv.cell;have w:=N.fix (z (G a)+2,aD,39) (by simp);have x:=N.fix (z (G a)+3,.nilIface,50) (by simp);have hJ:aO W (R (z (G a)+1+1) 0)=H aD:=w.cell;have hU:W.frozen? (R (z (G a)+1+1) 0)=aY:=w.free;have hM:aO W (R (z (G a)+1+1+1) 0)=H .nilIface:=x.cell;have hV:W.frozen? (R (z (G a)+1+1+1) 0)=aY:=x.free;obtain⟨v,u,bv⟩:=aA p;obtain⟨cE,cM,HC,HV,ad,bc,bg,HK⟩:=FB w x N hv p ac P hK;clear N hv p ac P hK w x;subst bv;gi_wp2;have hB:=ae bc;have N:=ae HC;have n1:cs≠z (G a)+2:=λs=>al<|(hB _).2<|.inl ⟨(z (G a)+2,aD,39),by simp,s.symm⟩;have n2:cs≠z (G a)+3:=λs=>al<|(hB _).2<|.inl ⟨(z (G a)+3,.nilIface,50),by simp,s.symm⟩;have n3:¬ct (J v (y bb) u)=H cs:=λs=>al<|(hB _).2<|.inr<|.inr s;(have dc:(cA (cA W (R (z (G a)+2) 0)<|J v (y bb) u) (R (z (G a)+3) 0) .nilIface).heap[cs]?=H (.deferred<|H []):=by rw[iw _ n2,iw _ n1];exact HK);have T:ep (cA (cA W (R (z (G a)+2) 0)<|J v (y bb) u) (R (z (G a)+3) 0) .nilIface) (z (G a)+2) (J v (y bb) u) 39:=(cE.set _).other _ (by omega);have V:ep (cA (cA W (R (z (G a)+2) 0)<|J v (y bb) u) (R (z (G a)+3) 0) .nilIface) (z (G a)+3) .nilIface 50:=(cM.other _<|by omega).set _;have au:=gG (cA (cA W (R (z (G a)+2) 0)<|J v (y bb) u) (R (z (G a)+3) 0) .nilIface) cs<|.deferred none;have ef:I (λK=>K=z (G a)+2\/K=z (G a)+3) W (cA (cA W (R (z (G a)+2) 0)<|J v (y bb) u) (R (z (G a)+3) 0) .nilIface):=((I.refl (λK=>K=z (G a)+2\/K=z (G a)+3) W).setCell _ 0 _<|.inl<|.inl rfl).setCell _ 0 _<|.inl<|.inr rfl;have av:=(ef.mono (T:=λK=>K=z (G a)+2\/K=z (G a)+3\/K=cs)<|λK f=>.inl<|f.elim .inl<|λs=>.inr<|.inl s).trans au<|λK f=>.inl<|.inr<|.inr f;(have bo:∀K,z (G a)<=K->¬t.F K:=λK f hf=>by have:=hF K hf;omega);(have bf:∀K,(K=z (G a)+2\/K=z (G a)+3\/K=cs)->z (G a)<=K:=by have:=bu.size;rintro K(s|s|s)<;>omega);refine⟨by simp,.inl ⟨_,_,rfl,run_takeDeferred dc,?_⟩⟩;refine⟨_,zH rfl underlying39 _ _ (z (G a)+2) (z (G a)+3) (J v (y bb) u) .nilIface rfl rfl ?_ ?_,?_⟩;exact(ep.cell<|(au.block _ (am T)<|λs=>n1 s.symm).trans T);exact(ep.cell<|(au.block _ (am V)<|λs=>n2 s.symm).trans V);refine⟨_,rfl,?_,t.fD bg av<|λK f=>bo K<|bf K f,N.aw.trans av<|λK f=>.inr<|bf K f⟩;have p:=ae ad;have iu:=av.own p (λK f s=>by have:=(p.lt K f).1;grind);obtain⟨h1,⟨h2,h0⟩|⟨gv,hw,cT,h2,hb,k⟩⟩:=iu;exact⟨h1,.inl ⟨h2,h0⟩⟩;exact⟨h1,.inr ⟨gv,hw,cT,h2,by omega,k⟩⟩)
end
section
open Conc.Locks
def sW(b:Z)(d c:ab)(a:Z)(e:dL):jN:=wD c a []<|((Uj b d e).filter<|λf=>!f.del).map yX
def rf(s:SR)(m:cJ)(a b c d:cf):(oq s m a b c d).map (·.2)=m::bV a b c d:=by
 simp[oq,bV,qU,lD]
def NI(a:cf):y ((a.map bA.all).reverse).flatten=y (cg a):=by
 unfold cg;rw[ml,ml,qU,List.sum_reverse]
def ST.flat{d b f h:cf}(i:ST a c n j e d b f h g):y (e::bV d b f h).flatten<=g:=by
 have k:=i.qf;have l:=NI d;unfold bV;rw[bG,dB];grind
def ST.WD(k:ST a b n j e i o r s c):∀x∈(e::bV i o r s).flatten,x.Good:=by
 intro x f;rw[<-rf n]at f;obtain⟨m,g,d⟩:=bE.1 f;obtain⟨l,h,rfl⟩:=bW.1 g;exact k.LF l h x d
def zW(w a:Y)(v:aa)(l:jN):Prop:=a.ownsRow (z<|G w) 163 2 v (y l)<|ib l
def Md(k g:ab)(d h:Z)(q:bJ a b n m)(f:ST a b n j e i o r s c):cD bz 142 #[ay b,aj k,aj g,ap d,aJ h] a λB p=>∃u,B=aL (dw #[u,.nilIface])/\zW a p u (sW h k g d<|e::bV i o r s)/\(lI n.aH j).D p/\I (lI n.aH j).F a p:=by
 obtain⟨x,w,l⟩:=bM f.mem
 have t:=SF (z<|G a) (n.l0,i) (n.l1,o) (n.l2,r) (n.l3,s) (oq n e i o r s) k g d h q x (y e) w l (f.ZX q) (yC n e i o r s) (λC g=>f.Ww _<|ak g) f.Pj (ai _) f.aH.lt (by
  rw[rf];intro A v;have:=f.WD A (YH _ _ _ A v);grind[E.Good.MS,E.Good.val])
  (by
   rw[rf];have:=YI h k (e::bV i o r s);have:=f.flat;have:=f.lV;omega)
 rw[rf]at t;exact t
def QI(p l:ab)(d g:Z)(t:bJ a b n m)(f:ST a b n j e i o r s c):cD bz 80 #[ay b,aj p,aj l,ap d,aJ g] a λx q=>∃u,x=aL (dw #[u,.nilIface])/\zW a q u (sW g p l d<|e::bV i o r s)/\(lI n.aH j).D q/\I (lI n.aH j).F a q:=by
 have w:=Md p l d g t f;clear t f;go_in
 go_wp2_with fail
 apply w.mono;rintro x D⟨C,rfl,k⟩;obtain⟨B,A,rfl⟩:=aA k.1;have v:=U k;clear k;go_wp2;go_ret2
 exact⟨_,rfl,v⟩
def zW.unlock(h:zW a f d F)(c:b<z (G a)):zW a (cA f (R b 0) u) d F:=by
 unfold zW at h|-;exact h.kept (de f _ _ _) (by right;intro e;have:=(h.lt _ e).1;omega)
def Lt(v u:ab)(d:Z)(h:bJ a b n 0)(m:n.closed=bU):cD bz 43 #[ay b,aj v,aj u,ap d] a λo l=>o=aL (dw #[aD,kN 6])/\bJ l b n 0/\I (λx=>x=b) a l:=by
 have q:=bJ.cellAt h 0 rfl;have s:a.frozen? (R b 0)=aY:=h.free;have k:=h.gx 1;have c:=gS k;rw[m]at c;simp only[ir]at c;have p:=U<|λi j=>oK (W2:=i) k (gW b a) j;clear h k m;rw[uL]at c|-;go_enter_defers func43,ntmps43
 go_wp2_with fail
 apply(lock_free (R b 0) _ q s).mono;rintro o l⟨rfl,rfl⟩;go_wp2_with fail
 apply c.mono;rintro o i⟨rfl,j⟩;obtain⟨r,t,e⟩:=p i j;have g:=U e;clear e j c;go_wp2;refine eH (f:=36) (args:=#[ay b]) (by simp) (by simp[go_sem]) ?_;apply(unlock_deferred (R b 0) .returning _ r t).mono;rintro o A w⟨rfl,rfl,rfl⟩;exact⟨_,jj rfl _ _ _,rfl,g⟩
def Sd(V S:ab)(d:Z)(h:bJ a b n 0)(N:ST a b n j e i o r s c)(hc:n.closed=aY):cD bz 43 #[ay b,aj V,aj S,ap d] a λQ x=>∃v',Q=aL (dw #[v',.nilIface])/\zW a x v' (sW n.aW V S d<|e::bV i o r s)/\vI a x b n j e i o r s c:=by
 have C:=am h;have c0:=bJ.cellAt h 0 rfl;have f0:a.frozen? (R b 0)=aY:=h.free;have u:=jY N.aH N.qZ 1;have L:=h.gx 1;have F:z (G<|cA a (R b 0)<|iO 1)=z (G a):=gM;generalize hW:cA a (R b 0) (iO 1)=p at u L F;have w:=gS L;rw[hc]at w;have l:cD bz 37 #[ay b] p λQ x=>Q=aL .nilIface/\Below (z<|G p) p x:=w;have HX:=U<|λg(q:Below (z<|G p) p g)=>sX (W2:=g) L N C u q;have HG:=U (show∀g m X W,Below (z<|G p) p g->zW g m X W->zW a (cA m (R b 0)<|iO 0) X W fromλg m X W q hg=>by have:zW a m X W:=er hg (by have:=q.size;omega);exact this.unlock C);have HW:=U hW;clear h N u L hc hW w F;go_enter_defers func43,ntmps43
 go_wp2_with fail
 apply(lock_free (R b 0) _ c0 f0).mono;rintro Q x⟨rfl,T⟩;rw[ae HW]at T;subst x;go_wp2_with fail
 apply l.mono;rintro Q g⟨rfl,q⟩;obtain⟨t,E,k⟩:=HX g q;have D:=QI V S d n.aW t E;have c9:=bJ.cellAt t 9 rfl;have A:=U k;have O:=U<|λm X W=>HG g m X W q;clear t E k q l;go_wp2_with fail
 apply D.mono;rintro Q m⟨v2,rfl,v,B,K⟩;obtain⟨px,pc,rfl⟩:=aA v;obtain⟨d0,g0,hF⟩:=A m B K;have HF:=U hF;have P:=U<|O _ _ _ v;clear B K hF D v;go_wp2;refine eH (f:=36) (args:=#[ay b]) (by simp) (by simp[go_sem]) ?_;apply(unlock_deferred (R b 0) .returning _ d0 g0).mono;rintro Q u' ac⟨rfl,rfl,rfl⟩;exact⟨_,jj rfl _ _ _,J px _ pc,rfl,P,HF⟩
def Jb(u t:ab)(h:bJ a b n 0)(l:n.closed=bU):cD bz 143 #[ay b,aj u,aj t] a λm k=>m=aL aD/\bJ k b n 0/\I (λw=>w=b) a k:=by
 have p:=bJ.cellAt h 0 rfl;have r:a.frozen? (R b 0)=aY:=h.free;have j:=h.gx 1;have c:=gS j;rw[l]at c;simp only[ir]at c;have o:=U<|λg i=>oK (W2:=g) j (gW b a) i;clear h j l;rw[uL]at c;go_enter_defers func143,ntmps143
 go_wp2_with fail
 apply(lock_free (R b 0) _ p r).mono;rintro m k⟨rfl,rfl⟩;go_wp2_with fail
 apply c.mono;rintro m g⟨rfl,i⟩;obtain⟨q,s,d⟩:=o g i;have e:=U d;clear d i c;go_wp2;refine eH (f:=36) (args:=#[ay b]) (by simp) (by simp[go_sem]) ?_;apply(unlock_deferred (R b 0) .returning _ q s).mono;rintro m x v⟨rfl,rfl,rfl⟩;exact⟨_,gm rfl _ _ _,rfl,e⟩
def Om(T Q:ab)(h:bJ a b n 0)(L:ST a b n j e i o r s c)(hc:n.closed=aY):cD bz 143 #[ay b,aj T,aj Q] a λP w=>∃v',P=aL v'/\zW a w v' (sW n.aW T Q 0<|e::bV i o r s)/\vI a w b n j e i o r s c:=by
 have B:=am h;have c0:=bJ.cellAt h 0 rfl;have f0:a.frozen? (R b 0)=aY:=h.free;have t:=jY L.aH L.qZ 1;have K:=h.gx 1;have E:z (G<|cA a (R b 0)<|iO 1)=z (G a):=gM;generalize X:cA a (R b 0) (iO 1)=m at t K E;have v:=gS K;rw[hc]at v;have k:cD bz 37 #[ay b] m λP w=>P=aL .nilIface/\Below (z<|G m) m w:=v;have HX:=U<|λd(p:Below (z<|G m) m d)=>sX (W2:=d) K L B t p;have HG:=U (show∀d l W V,Below (z<|G m) m d->zW d l W V->zW a (cA l (R b 0)<|iO 0) W V fromλd l W V p hg=>by have:zW a l W V:=er hg (by have:=p.size;omega);exact this.unlock B);have HW:=U X;clear h L t K hc X v E;go_enter_defers func143,ntmps143
 go_wp2_with fail
 apply(lock_free (R b 0) _ c0 f0).mono;rintro P w⟨rfl,S⟩;rw[ae HW]at S;subst w;go_wp2_with fail
 apply k.mono;rintro P d⟨rfl,p⟩;obtain⟨q,D,g⟩:=HX d p;have C:=Md T Q 0 n.aW q D;have c9:=bJ.cellAt q 9 rfl;have x:=U g;have N:=U<|λl W V=>HG d l W V p;clear q D g p k;go_wp2_with fail
 apply C.mono;rintro P l⟨v2,rfl,u,A,F⟩;obtain⟨px,pc,rfl⟩:=aA u;obtain⟨d0,g0,hF⟩:=x l A F;have HF:=U hF;have O:=U<|N _ _ _ u;clear A F hF C u;go_wp2;refine eH (f:=36) (args:=#[ay b]) (by simp) (by simp[go_sem]) ?_;apply(unlock_deferred (R b 0) .returning _ d0 g0).mono;rintro P u' ac⟨rfl,rfl,rfl⟩;exact⟨_,gm rfl _ _ _,J px _ pc,rfl,O,HF⟩
def Gv(x:Z)(v u:ab)(c:Z)(h:bJ a b n 0)(m:n.closed=bU):cD bz 50 #[ay b,ap x,aj v,aj u,ap c] a λo l=>o=aL (dw #[aD,kN 6])/\bJ l b n 0/\I (λA=>A=b) a l:=by
 have q:=bJ.cellAt h 0 rfl;have s:a.frozen? (R b 0)=aY:=h.free;have k:=h.gx 1;have e:=uH x k m;have p:=U<|λi j=>oK (W2:=i) k (gW b a) j;clear h k m;rw[uL]at e|-;go_enter_defers func50,ntmps50
 go_wp2_with fail
 apply(lock_free (R b 0) _ q s).mono;rintro o l⟨rfl,rfl⟩;go_wp2_with fail
 apply e.mono;rintro o i⟨rfl,j⟩;obtain⟨r,t,d⟩:=p i j;have g:=U d;clear d j e;go_wp2;refine eH (f:=36) (args:=#[ay b]) (by simp) (by simp[go_sem]) ?_;apply(unlock_deferred (R b 0) .returning _ r t).mono;rintro o B w⟨rfl,rfl,rfl⟩;exact⟨_,jj rfl _ _ _,rfl,g⟩
def Lv(B:fh)(ac:Z)(lo hi:ab)(g:Z)(h:bJ a b n 0)(v:ST a b n j e i o r s c)(q:Gk a j b n B)(F:n.closed=aY)(K:pB B ac=none):cD bz 50 #[ay b,ap ac,aj lo,aj hi,ap g] a λO C=>O=aL (dw #[aD,kN 5])/\vI a C b n j e i o r s c:=by
 have x:=am h;have T:=bJ.cellAt h 0 rfl;have W:a.frozen? (R b 0)=aY:=h.free;have k:=jY v.aH v.qZ 1;have t:=h.gx 1;generalize E:cA a (R b 0) (iO 1)=D at k t;obtain⟨mb,L,N,q3⟩:=(q.eW k).ex;have d:=rN ac B t F L N;rw[K]at d;simp only at d;rw[PW]at d|-;have S:=U<|λm(u:Below (z<|G D) D m)=>sX (W2:=m) t v x k u;have Q:=U E;clear h v k t F E q L N q3 K;go_enter_defers func50,ntmps50
 go_wp2_with fail
 apply(lock_free (R b 0) _ T W).mono;rintro O C⟨rfl,A⟩;rw[ae Q]at A;subst C;go_wp2_with fail
 apply d.mono;rintro O m⟨rfl,u⟩;obtain⟨w,p,l⟩:=S m u;obtain⟨V,X,hF⟩:=l m p.Pj<|I.refl _ _;have P:=U hF;clear w p l u d hF;go_wp2;refine eH (f:=36) (args:=#[ay b]) (by simp) (by simp[go_sem]) ?_;apply(unlock_deferred (R b 0) .returning _ V X).mono;rintro O u' ad⟨rfl,rfl,rfl⟩;exact⟨_,jj rfl _ _ _,rfl,P⟩
def Lu(W:fh)(al:Z)(ao:M)(V S:ab)(d:Z)(C:Gk a j b n W)(L:pB W al=H ao)(h:bJ a b n 0)(N:ST a b n j e i o r s c)(hc:n.closed=aY):cD bz 50 #[ay b,ap al,aj V,aj S,ap d] a λad O=>∃v',ad=aL (dw #[v',.nilIface])/\zW a O v' (sW ao V S d<|e::bV i o r s)/\vI a O b n j e i o r s c:=by
 have x:=am h;have c0:=bJ.cellAt h 0 rfl;have f0:a.frozen? (R b 0)=aY:=h.free;have k:=jY N.aH N.qZ 1;have K:=h.gx 1;have D:z (G<|cA a (R b 0)<|iO 1)=z (G a):=gM;generalize hW:cA a (R b 0) (iO 1)=F at k K D;obtain⟨mb,q1,q2,q3⟩:=(C.eW k).ex;have l:=rN al W K hc q1 q2;rw[L]at l;simp only at l;have HX:=U<|λg(q:Below (z<|G F) F g)=>sX (W2:=g) K N x k q;have HG:=U (show∀g p ac X,Below (z<|G F) F g->zW g p ac X->zW a (cA p (R b 0)<|iO 0) ac X fromλg p ac X q L=>by have:zW a p ac X:=er L (by have:=q.size;omega);exact this.unlock x);have HW:=U hW;clear h N k K hc hW D C q1 q2 q3 L;go_enter_defers func50,ntmps50
 go_wp2_with fail
 apply(lock_free (R b 0) _ c0 f0).mono;rintro ad O⟨rfl,T⟩;rw[ae HW]at T;subst O;go_wp2_with fail
 apply l.mono;rintro ad g⟨rfl,q⟩;obtain⟨t,B,m⟩:=HX g q;have A:=QI V S d ao t B;have c9:=bJ.cellAt t 9 rfl;have v:=U m;have P:=U<|λp ac X=>HG g p ac X q;clear t B m q l;go_wp2_with fail
 apply A.mono;rintro ad p⟨v2,rfl,u,w,E⟩;obtain⟨px,pc,rfl⟩:=aA u;obtain⟨d0,g0,hF⟩:=v p w E;have HF:=U hF;have Q:=U<|P _ _ _ u;clear w E hF A u;go_wp2;refine eH (f:=36) (args:=#[ay b]) (by simp) (by simp[go_sem]) ?_;apply(unlock_deferred (R b 0) .returning _ d0 g0).mono;rintro ad u' an⟨rfl,rfl,rfl⟩;exact⟨_,jj rfl _ _ _,J px _ pc,rfl,Q,HF⟩
end
section
open Shelf
attribute [local go_sem] Oper.semAt_some
def TS(a:M)(s:SR):iY:=⟨λw=>bJ w a s 0,λk=>k=a,λ{_ _ _}h c b=>(c.block a (am h)<|λd=>b _ d rfl).trans h,λ{_ _}h e=>by subst e;exact am h,λw=>bJ w a s 0,id,λ{_ _ _}h c b=>(c.block a (am h)<|λd=>b _ d rfl).trans h⟩
def Ro(p:KV):Array aa:=#[aj p.1,aj p.2]
def IQ(n0 cs:M)(e:M)(bv:SR)(f:jN)(av:ep a b d 39)(au:ep a c (ay e) 37)(hr:Row a 2 d (y f) (ib f))(h1:b≠e)(h2:c≠e)(h3:∀k,ct d=H k->k<z (G a)/\k≠e)(cj:e<n0)(bc:n0<=z (G a))(ck:y f<=1000000000):Rr Ro (TS e bv) n0 cs 144 #[ay b,ay c] (if bv.closed then []else f) (λk=>k=b\/k=c\/ct d=H k) a:=by
 intro lr cn Jx cp cq hs hD hJ ao q bh hY;obtain⟨cm,O,hv⟩:=bM hr;have ce:aO cq (R b 0)=H d:=hs.cell (.inl<|.inl rfl) av.cell;have E:∀k,(k=b\/k=c\/ct d=H k)->k<z (G a)/\k≠e:=by grind
 obtain⟨n,HB,HR,cd,HS,HJ⟩:=jX E au hr h3 hs hJ;obtain⟨HD,bo,HY,V,X⟩:=je hD ao hY q bh;clear av au hr h3 hs hJ ao q bh hY hD E h1;subst hv;obtain⟨cl,ax⟩:∃cl,bv.closed=cl:=⟨_,rfl⟩;rw[ax]at HY|-;obtain⟨cc,hl⟩:∃cc,(if cl=bU then []else f)=cc:=⟨_,rfl⟩;rw[hl]at HY|-;have S:=U hl;clear hl;refine ru func144 rfl trivial ?_ rfl;simp only[ntmps144,eU,aS,dH,Nat.reduceAdd,Nat.reduceSub,dR,dQ,eV,eD,cU,cL];gi_wp2;gi_loopw [8] (λi wr=>∃(r:M)(F:fA),i=ap (r:Z)/\r<=y f/\(cl=bU->r=0)/\cn (f.take r) F wr/\bJ wr e bv 0/\(∀k,(k=b\/k=c\/ct (J cm (y f) O)=H k)->¬F k)/\jF (TS e bv) n0 (λk=>k=b\/k=c\/ct (J cm (y f) O)=H k) a wr) (λi _=>y f-(intOf i).toNat)
 case atStart=>exact⟨0,cp,by go_num,bj _,λ_=>rfl,HJ,HD,bo,HS⟩
 case round=>
  obtain⟨r,F,rfl,hj,w,v,s,D,g⟩:=hrel;have C:=U D;clear D;by_cases q:r<y f
  .have e1:(r:Z)<(y f:Z):=by omega
   have e2:(0:Z)<=(r:Z):=by omega
   have hg:=og f r q;have ba:∃ca j,cm=H (R ca j)/\aO wr (R ca<|j+r*2)=H (aj f[r].1)/\aO wr (R ca<|j+r*2+1)=H (aj f[r].2):=by
    obtain⟨q1,⟨q2,q0⟩|⟨an,W,ac,q2,ad,hc⟩⟩:=ae HR
    .omega
    .cases q2;exact⟨an,W,rfl,g.cell (.inl<|.inr<|.inr rfl)<|hc _ _ hg.1,g.cell (.inl<|.inr<|.inr rfl) (by rw[aV];grind)⟩
   obtain⟨ca,j,hx,bs,bt⟩:=ba;subst hx;have ch:aO wr (R c 0)=H (ay e):=g.cell (.inl<|.inr<|.inl rfl) HB.cell;have bg:e<z (G wr):=am s;have bx:c<z (G wr):=ag (am HB) g.1;have B:=U (show(f.take r++[f[r]])<+:f/\f.take r++[f[r]]=f.take (r+1)by
    rw[<-ah q];grind)
   obtain⟨N,K,bp,Q⟩:=gH v s g w;clear v s g hg w;generalize f[r]=pj at*;obtain⟨x,A⟩:=pj;simp only at bs bt;have HQ:=U (show∀u,I (λk=>k=e) (cF wr<|ar #[aj x,aj A] 163) u->cn (f.take r) F u/\aO u (R (z<|G wr) 0)=H (aj x)/\aO u (R (z<|G wr) 1)=H (aj A)/\I (λk=>k=e) wr u fromλu i=>by
    have ad:I az wr (cF wr (ar #[aj x,aj A] 163)):=(cK az wr);have ac:(cF wr (ar #[aj x,aj A] 163)).heap[z (G wr)]?=H (ar #[aj x,aj A] 163 (0,0)):=aB _ rfl;have W:=(i.block _ (am ac) (by omega)).trans ac;refine⟨X _ _ _ _ _ (X _ _ _ _ _ N ad cO) i (λk l=>⟨λO=>?_,.inl l⟩),by rw[bL W];rfl,by rw[bL W];rfl,(ad.mono (T:=λk=>k=e) cO).trans i (λk l=>.inl l)⟩;have:=(V _ _ _ N k O).1;omega)
   have al:bJ (cF wr<|ar #[aj x,aj A] 163) e bv 0:=(((I.refl az wr).alloc<|ar #[aj x,aj A] 163).block e bg id).trans K;have t:=JV al;rw[ax]at t;clear al;cases cl with
   |true=>
    have W:r=0:=Q rfl;have HZ:=U W;clear W;gi_wp2_with(refine⟨trivial,(λO=>(by cases O)),?_⟩;gi_at_call 145;refine(dh.2 t).mono ?_;rintro co u⟨rfl,p,i⟩;obtain⟨o,k0,k1,m⟩:=HQ u i;have L:=U o;have P:=U p;clear o p m i)
    refine⟨λ_ h=>(by cases h),?_⟩;gi_wp2;refine cP (iT rfl _ _ _) rfl ?_;refine⟨⟨_,rfl⟩,.inl ⟨F,?_,P⟩⟩;rw[<-ae S];have:=ae L;rw[ae HZ]at this;exact this
   |false=>
    have bb:f=cc:=ae S;have bd:(f.take r++[(x,A)])<+:cc:=B.1.trans (by rw[bb];grind);have W:=U bd;clear bd bb;gi_wp2_with(refine⟨trivial,(λO=>(by cases O)),?_⟩;gi_at_call 145;refine(dh.2 t).mono ?_;rintro co u⟨rfl,p,i⟩;obtain⟨o,k0,k1,m⟩:=HQ u i;obtain⟨fn,bT,bi,body,hy,hR⟩:=HY (f.take r) (x,A) F u W o p;unfold Ro at hy;simp only at hy;have bn:=U hR;have L:=U o;have P:=U p;have bq:=U m;clear o p m i hR)
    refine⟨(λO=>(by cases O)),bn.mono ?_⟩;rintro co W3(⟨rfl,ad,B3,an,aq,ac⟩|⟨rfl,hx⟩)
    .have bm:=U an;obtain⟨br,bk,bl⟩:=dA aq ac ad;clear an aq ac ad;gi_wp2;go_roundw;case rel=>
      have g:=ae bp;have m:=ae bq;have bu:=m.size;have bf:=g.1;refine⟨r+1,B3,by go_num,q,(λO=>(by cases O)),(by rw[<-(ae B).2];exact bm),bl,λk l cb=>?_,?_⟩
      .have:=(n k l).1;rcases bk k cb with cb|cb
       .exact C k l cb
       .omega
      .refine g.trans<|(m.same (aC bc bf) (λk l=>⟨by have:=(n k l).1;omega,(n k l).2⟩)<|λk l _=>l).trans ?_;exact br.same (aC bc<|aC bf bu) (λk l=>⟨by have:=(n k l).1;omega,C k l⟩) (λk l a=>by have:=(V _ _ _ L k l).1;omega)
     case measure=>simp[intOf];omega
    .have HX:=U hx;clear hx;gi_wp2;refine cP (iT rfl _ _ _) rfl ?_;exact⟨⟨_,rfl⟩,.inr ⟨_,HX⟩⟩
  .have e1:¬(r:Z)<(y f:Z):=by omega
   have i:r=y f:=by omega
   obtain⟨N,K,Q⟩:=dA v s w;clear v s g w;gi_wp2;refine vL (iT rfl _ _ _) rfl ?_;refine⟨⟨_,rfl⟩,.inl ⟨⟨F,?_⟩,K⟩⟩;grind[ae,take_of_length_le]
structure NW(w w':Y)(sb:M)(v:aa)(ps:jN)(bt bs:M):Prop where
 val:v=.func (.func 144) #[] #[ay bt,ay bs]
 row:∃u,ep w' bt u 39/\zW w w' u ps
 ptr:ep w' bs (ay sb) 37
 ge:z (G w)<=bt/\z (G w)<=bs
def Xo(w:Y)(a:M)(s q:ab)(o:jN)(P:Y->Prop)(r:∀W,I az w W->z (G w)<z (G W)->cD bz 143 #[ay a,aj s,aj q] W λu c=>∃t,u=aL t/\zW W c t o/\W.heap[z<|G w]?=c.heap[z<|G w]?/\P c)(p:∀W D,P W->P (cF W D)):cD bz 83 #[ay a,aj s,aj q] w λu c=>∃C A x,u=aL C/\NW w c a C o A x/\P c:=by
 have i:I az w (cF w<|ar #[ay a] 37):=(cK az w);have j:=r _ i (by simp);have g:ep (cF w<|ar #[ay a] 37) (z<|G w) (ay a) 37:=aB _ rfl;have k:=U g;have v:=U p;clear r p i g;go_in
 go_wp2_with fail
 apply j.mono;rintro u F⟨E,rfl,b,f,e⟩;obtain⟨B,c1,n⟩:=aA b;subst n;obtain⟨l,m,d⟩:=dA b e<|f.symm.trans k;clear b f e j;go_wp2;go_ret;refine⟨_,_,_,rfl,⟨rfl,⟨_,aB _ rfl,?_⟩,?_,?_⟩,v _ _ m⟩;have:=ae l;unfold zW at this|-;exact er (aN this<|ar #[J B (y o) c1] 39) (by simp);exact ep.alloc d _;have:=am d;omega
def FZ(h e:ab)(r:bJ a b n 0)(p:n.closed=bU):cD bz 83 #[ay b,aj h,aj e] a λq c=>∃v m l,q=aL v/\NW a c b v [] m l/\bJ c b n 0/\I (λk=>k=b) a c:=by
 have g:=am r;refine Xo a b h e [] (λc=>bJ c b n 0/\I (λk=>k=b) a c) (λW i f=>?_)<|λW u d=>⟨(gl _<|am d.1).trans d.1,d.2.alloc u⟩;apply(Jb h e ((i.block b g id).trans r) p).mono;rintro q c⟨rfl,o,j⟩;exact⟨_,rfl,bK _ _ _ _,(j.block _ f<|by omega).symm,o,(i.mono (T:=λk=>k=b) cO).trans j<|λ_ c=>.inl c⟩
def NH{K:DK}{m:cJ}{a b c d:cf}{C:M}(s r:ab)(O:bJ f g n 0)(A:ST f g n K m a b c d C)(F:n.closed=aY):cD bz 83 #[ay g,aj s,aj r] f λN p=>∃P E D,N=aL P/\NW f p g P (sW n.aW s r 0<|m::bV a b c d) E D/\vI f p g n K m a b c d C:=by
 have o:=am O;have l:∀{f W:Y}{K:DK},cQ f n.aH K->I az f W->fY f W n.aH g K K:=λi j=>⟨i.aw j<|λ_ _=>id,j.mono cO,λ_ q=>.inl q⟩;refine Xo f g s r _ (λp=>vI f p g n K m a b c d C) (λW j x=>?_) ?_;have i:=l A.aH j;have B:=A.eW o i rfl;apply(Om s r ((j.block g o id).trans O) B F).mono;rintro N p⟨Q,rfl,L,t,e,u,v,w,k,h⟩;refine⟨_,rfl,L,(e.aw.block _ x ?_).symm,t,i.trans e,u,v,w,k,h⟩;rintro(q|q);have:=A.aH.lt _ q;omega;omega;rintro W L⟨t,i,u,v,w,k,h⟩;have B:I az W (cF W L):=(I.refl az W).alloc L;have e:=l h.aH B;exact⟨t,i.trans e,u,v,w,(B.block g (am k) id).trans k,h.eW (am k) e rfl⟩
end
section
open Shelf
attribute [local go_sem] Oper.semAt_some
def CA(c:Y)(b:M)(e:fA)(a:Z)(d:jN)(B:fA)(W:Y):Prop:=Acc e c [(z<|G c,ap a,3)] (z (G c)+1) 39 163 2 b (y d) (ib d) B W
def CN(w:Y)(b:M)(ch:SR)(lo hi:ab)(a:Z)(ps:jN)(em:Y->Prop)(F:fA)(et:0<a)(ec:b<z (G w))(hF:∀k,F k->k<z (G w))(hA:∀W,I az w W->z (G W)=z (G w)+2->cD bz 83 #[ay b,aj lo,aj hi] W λey w'=>∃cn cl ck,ey=aL cn/\NW W w' b cn ps cl ck/\I F W w'/\em w')(dc:F b)(br:∀W,em W->bJ W b ch 0)(bs:∀W W',em W->I (λk=>k=b\/k=z (G w)\/k=z (G w)+1) W W'->bJ W' b ch 0->em W')(ds:ch.closed=bU->ps=[])(ed:y ps<=1000000000):cD bz 47 #[ay b,aj lo,aj hi,ap a] w λey w'=>∃v',ey=aL v'/\zW w w' v' (ps.take a.toNat)/\em w':=by
 obtain⟨i0,dT,ej,ek,el⟩:=cH xS;have cc:(if ch.closed=bU then []else ps)=ps:=by grind
 have f:I az w (cF (cF w<|ar #[ap a] 3)<|ar #[aD] 39):=(cK az w).alloc _;have ad:ep (cF (cF w<|ar #[ap a] 3)<|ar #[aD] 39) (z<|G w) (ap a) 3:=ep.alloc (aB _ rfl) _;have al:ep (cF (cF w<|ar #[ap a] 3)<|ar #[aD] 39) (z (G w)+1) aD 39:=aB _ (by simp);have X:z (G<|cF (cF w<|ar #[ap a] 3)<|ar #[aD] 39)=z (G w)+2:=by simp
 have bu:=hA _ f X;have e0:¬a<=0:=by omega
 obtain⟨cm,N⟩:∃cm,ps.take a.toNat=cm:=⟨_,rfl⟩;rw[N];obtain⟨au,cs,HX,cv,bl,HF⟩:=jX N cc (And.intro f (And.intro ad (And.intro al X))) br bs hF;clear N cc f ad al X hA br bs ds hF;refine(dh (n:=3)).1 ?_;refine callsIn_of_wp_marks func47 rfl trivial ?_ rfl;simp only[ntmps47,eU,aS,dH,Nat.reduceAdd,Nat.reduceSub,dR,dQ,eV,eD,cU,cL];gi_wp2_with(refine⟨trivial,?_⟩;gi_at_call 83;refine(dh.2 bu).mono ?_;rintro ey p⟨v9,cl,ck,rfl,dx,t,bq⟩;obtain⟨ei,⟨u9,bx,O⟩,bv,ca⟩:=dx;subst ei;have bi:=U bx;have cp:=U O;have bh:=U bv;have cq:=U ca;have cB:=U t;have bc:=U bq;clear bx O bv ca t bq bu)
 obtain⟨dv,ad,al,X⟩:=ae HX;have t:=ae cB;have hF:=ae HF;have fl:=t.size;obtain⟨ff,fe⟩:=ae cq;have eg:I F w p:=(dv.mono (T:=F) cO).trans t<|λ_ g=>.inl g;have dk:ep p (z<|G w) (ap a) 3:=(t.block _ (am ad) (λg=>by have:=hF _ g;omega)).trans ad;have dm:ep p (z (G w)+1) aD 39:=(t.block _ (am al) (λg=>by have:=hF _ g;omega)).trans al;have cT:CA w (z<|G p) F a [] (λk=>k=z (G w)\/k=z (G w)+1) p:=by refine⟨λfn hp=>?_,⟨aD,dm,bK _ _ _ _,λk=>?_⟩,λfn hp=>?_,⟨by omega,by omega⟩,eg⟩;rw[cX]at hp;rw[hp];exact dk;simp[ct];omega;grind
 have O:=ae cp;have cb:∀k,ct u9=H k->z (G w)+2<=k/\k<z (G p):=λk d=>by have:=O.lt k d;rw[X]at this;exact this
 have P:=IQ (z<|G w) 2 b ch ps bi bh (da O) (by omega) (by omega) (λk d=>⟨(cb k d).2,by have:=(cb k d).1;omega⟩) ec (by omega) ed;rw[ae cs]at P;refine Cy (m:=3) (V:=TS b ch) (n0:=z<|G w) (gf:=144) (lb:=#[ay cl,ay ck]) (l:=ps) (S:=λk=>k=cl\/k=ck\/ct u9=H k) ?geval (enters_of func144 (by kernel_rfl) rfl) (λ_=>rfl) P (cv _ bc) (by omega) ?slt (λc bb W=>CA w (z<|G p) F a c bb W/\I (λk=>k=b\/k=z (G w)\/k=z (G w)+1) p W/\(y c:Z)<a) (λg _ bb W=>g=.exit 0/\CA w (z<|G p) F a cm bb W/\I (λk=>k=b\/k=z (G w)\/k=z (G w)+1) p W/\bJ W b ch 0) (λk=>k=z (G w)\/k=z (G w)+1) ⟨cT,I.refl _ _,by grind⟩ ?sb ?lt ?st ?xst ?body ?done ?stop;case geval=>rfl
 (case slt=>rintro k(g|g|g);rw[g];exact am bi;rw[g];exact am bh;grind);(case sb=>grind);(case lt=>rintro c bb W⟨h,_⟩k d;exact h.lt k d);(case st=>rintro c bb W W' eA⟨h,s,v⟩ht hT;refine⟨h.stays ht<|λk d=>⟨(hT k d).1,?_⟩,s.trans ht<|λk d=>?_,v⟩;(rcases(hT k d).2 with g|g;left;rw[show k=b from g];exact dc;grind);rcases(hT k d).2 with g|g;exact .inl<|.inl g;exact .inr g);(case xst=>rintro g c bb W W' eA⟨h1,v,x,s⟩ht hT;exact⟨h1,v.stays ht<|λk d=>⟨(hT k d).1,.inr (by have:=(hT k d).2;omega)⟩,x.trans ht<|λk d=>.inr (hT k d).2,(ht.block b (am s) (λg=>by have:=(hT _ g).2;omega)).trans s⟩)
 case body=>
  rintro lr c fq bb W fk cM eu T⟨E,j,ea⟩i;obtain⟨xk,xv⟩:=fq;have es:y c+1<=1000000000:=by
   have h1:=T.length_le;grind
  obtain⟨bk,HC,C,q⟩:=gH T E j i;clear E j i T;unfold Ro;simp only;gi_wp2;refine⟨I.refl _ _,λW2 f=>?_⟩;have an:CA w (z<|G p) F a c bb W2:=HC.stays f (λk d=>by grind);obtain⟨cn,hv,e,o⟩:=an.row;have ba:=an.fix (z<|G w,ap a,3) (by simp);have bT:aO W2 (R (z (G w)+1) 0)=H cn:=hv.cell;have fd:W2.frozen? (R (z (G w)+1) 0)=aY:=hv.free;have ev:z (G w)+1<z (G W2):=am hv;obtain⟨L,K,ac⟩:=aA e;have dn:z (G p)<=z (G W2):=by have:=C.size;have:=f.size;omega
  obtain⟨bm,co,HV,r,D,cx⟩:=jX ba an hv e o f;clear an hv e o f ba;subst ac;by_cases hq:(y c:Z)+1=a;case' pos=>have eb:((y c:Z)+1==a)=bU:=by simpa using hq
  case' neg=>have eb:((y c:Z)+1==a)=aY:=by simpa using hq
  all_goals
   gi_wp2_with(first
    |(gi_at_builtin;refine dV _ rfl (.tmp 21) (.tmp 25) 39 rfl (z (G p)) 163 i0 (.agg #[.string ⟨#[]⟩,.string ⟨#[]⟩]) 2 32 underlying39 dT ej ek el rfl (by decide) (.slice L (y c) K) (y c) (ib c) rfl (aN r (.cells #[.string xk,.string xv] 163)) (R (z (G W2)) 0) 1 1 (qu (xk,xv)) rfl rfl (PD _ (xk,xv) _) (Zv _) (by omega) (by omega) (by simp;omega) ?_;intro v2 w3 s B;obtain⟨x,v,rfl⟩:=aA s;have Q:∀eB,eB<=z (G w)+1->¬ct (Value.slice L (y c) K)=H eB:=(λeB hb g=>by have:=(r.lt _ g).1;omega);have A:ep w3 (z (G w)+1) (.slice L (y c) K) 39:=(B.grown.block _ (am (HV.alloc (.cells #[.string xk,.string xv] 163))) (λg=>Q _ (ai _) g.symm)).trans (HV.alloc _);have av:ep w3 (z (G w)) (.int .i64 a) 3:=(B.grown.block _ (am (bm.alloc (.cells #[.string xk,.string xv] 163))) (λg=>Q _ (by omega) g.symm)).trans (bm.alloc _);have en:=A.cell;have eq:=A.free;have eo:=av.cell;have ex:=am A;clear A av Q;have cu:=U s;have cE:=U B;clear s B))
   have e:=ae r;have ce:=ae cE;have ef:I (λk=>ct (J L (y c) K)=H k) W2 w3:=((I.refl (λk=>ct (J L (y c) K)=H k) W2).alloc<|ar #[aj xk,aj xv] 163).trans (I.dJ (S:=λk=>ct (J L (y c) K)=H k) ce.grown<|λk d=>.inl d)<|λk d=>.inl d;have dd:ct (J x (y c+1) v)=ct (J L (y c) K)\/∃ez,ct (J x (y c+1) v)=H ez/\z (G W2)<=ez:=by
    rcases ce.ur with eF|⟨ez,eF,hg⟩
    .exact .inl eF
    .exact .inr ⟨ez,eF,by simp at hg;omega⟩
   obtain⟨B',q1,q2,q3⟩:=co.more HV D e ef dd cu;have bo:CA w (z<|G p) F a (c++[(xk,xv)]) B' (cA w3 (R (z (G w)+1) 0)<|J x (y c+1) v):=by
    unfold CA;rw[Ft,af];exact q1
   have f:=ae cx;have aq:I (λk=>bb k\/k=lr) W (cA w3 (R (z (G w)+1) 0)<|J x (y c+1) v):=(f.mono (T:=λk=>bb k\/k=lr)<|λk d=>.inl<|.inr d).trans q2<|λk d=>.inl<|.inl d;have fb:∀k,bb k->k=z (G w)\/k=z (G w)+1\/z (G p)<=k:=λk d=>by
    rcases(D k).1 d with⟨fn,hp,g⟩|g|g
    .rw[cX]at hp;rw[hp]at g;grind
    .exact .inr<|.inl g
    .exact .inr<|.inr (e.lt k g).1
   have bt:I (λk=>k=b\/k=z (G w)\/k=z (G w)+1) p (cA w3 (R (z (G w)+1) 0)<|J x (y c+1) v):=C.trans aq (λk d=>by
    grind)
   have cd:∀k,(bb k\/k=lr)->k≠b:=λk d g=>by
    grind
   have bp:bJ (cA w3 (R (z (G w)+1) 0)<|J x (y c+1) v) b ch 0:=(TS b ch).fD q aq<|λk d g=>cd k d g;have ax:(cA w3 (R (z (G w)+1) 0)<|J x (y c+1) v).heap[lr]?=W2.heap[lr]?:=q2.block lr (by have:=f.size;omega) cM;have bn:∀k,B' k->bb k\/z (G W)<=k:=λk d=>(q3 k d).imp_right (λg=>by have:=f.size;omega)
  .exact⟨bp,B',⟨bo,bt,by simp;omega⟩,aq,ax,bn⟩
  .refine⟨B',⟨rfl,?_,bt,bp⟩,aq,ax,bn⟩;have ao:cm=c++[(xk,xv)]:=by
    obtain⟨fr,hr⟩:=ae bk;rw[<-ae au,<-hr,iJ (by simp;omega),cZ (by simp;omega)]
   rw[ao];exact bo
 (case done=>rintro cj bb W db⟨E,j,ea⟩bd i hK;(have ao:cm=ps:=by rw[<-ae au];grind[take_of_length_le]);(have E:CA w (z<|G p) F a cm bb W:=by rw[ao];exact E);clear ao;obtain⟨cn,hv,e,o⟩:=E.row;have bT:aO W (R (z (G w)+1) 0)=H cn:=hv.cell;obtain⟨L,K,ac⟩:=aA e;obtain⟨HC,r,D,q,HK,C⟩:=jX E e o i hK j;clear E hv e o i hK j;subst ac;gi_wp2;have hB:=ae D;have n3:¬ct (J L (y cm) K)=H cj:=λg=>bd<|(hB _).2<|.inr<|.inr g;have u:=gG W cj<|.deferred none;(have bf:cj≠b:=by omega);have bg:bJ (W.putObj cj<|.deferred none) b ch 0:=(u.block b (am q)<|λg=>bf g.symm).trans q;refine⟨by simp,.inl ⟨_,_,rfl,run_takeDeferred HK,?_⟩⟩;refine⟨_,gm rfl _ _ _,_,rfl,?_,bl _ _ bc (C.trans u<|λk d=>by grind) bg⟩;have e:=ae r;exact er (u.own e<|λk d g=>by simp_all)<|by omega);(case stop=>rintro cj g c bb W db⟨rfl,E,j,i⟩bd hK;obtain⟨cn,hv,e,o⟩:=E.row;have bT:aO W (R (z (G w)+1) 0)=H cn:=hv.cell;obtain⟨L,K,ac⟩:=aA e;obtain⟨HC,r,D,q,HK,C⟩:=jX E e o i hK j;clear E hv e o i hK j;subst ac;gi_wp2;have hB:=ae D;have n3:¬ct (J L (y cm) K)=H cj:=λg=>bd<|(hB _).2<|.inr<|.inr g;have u:=gG W cj<|.deferred none;(have bf:cj≠b:=by omega);have bg:bJ (W.putObj cj<|.deferred none) b ch 0:=(u.block b (am q)<|λg=>bf g.symm).trans q;refine⟨by simp,.inl ⟨_,_,rfl,run_takeDeferred HK,?_⟩⟩;refine⟨_,gm rfl _ _ _,_,rfl,?_,bl _ _ bc (C.trans u<|λk d=>by grind) bg⟩;have e:=ae r;exact er (u.own e<|λk d g=>by simp_all)<|by omega)
end
def GC(w:Y)(c:M)(f e:ab)(a:Z)(j:a<=0):cD bz 47 #[ay c,aj f,aj e,ap a] w λi g=>i=aL aD/\I az w g:=by
 have b:I az w (cF (cF w<|ar #[ap a] 3)<|ar #[aD] 39):=(cK az w).alloc _;have d:=U b;clear b;go_in
 go_wp2;go_ret;exact⟨rfl,d⟩
def Dx(i h:ab)(c:Z)(s:0<c)(m:bJ a b n 0)(q:n.closed=bU):cD bz 47 #[ay b,aj i,aj h,ap c] a λt d=>∃l,t=aL l/\zW a d l []/\bJ d b n 0/\I (λk=>k=b) a d:=by
 have e:=am m;refine(CN a b n i h c [] (λd=>bJ d b n 0/\I (λk=>k=b) a d) (λk=>k=b) s e (λk u=>by omega) (λW j _=>?_) rfl (λ_ m=>m.1) ?_ (λ_=>rfl)<|by simp).mono ?_;apply(FZ i h ((j.block b e id).trans m) q).mono;rintro t d⟨v,p,o,rfl,r,g,f⟩;exact⟨v,p,o,rfl,r,f,g,(j.mono (T:=λk=>k=b) cO).trans f<|λ_ c=>.inl c⟩;rintro W p⟨_,o⟩f g;refine⟨g,o.trans f ?_⟩;grind
 grind
def GB(w v:ab)(d:Z)(P:0<d)(L:bJ a b n 0)(k:ST a b n j e i o r s c)(E:n.closed=aY)(D:y (sW n.aW w v 0<|e::bV i o r s)<=1000000000):cD bz 47 #[ay b,aj w,aj v,ap d] a λN l=>∃A,N=aL A/\zW a l A ((sW n.aW w v 0<|e::bV i o r s).take d.toNat)/\vI a l b n j e i o r s c:=by
 have f:=am L;refine(CN a b n w v d _ (λl=>∃g,fY a l n.aH b j g/\(∀x,g.aU n.aH x->j.aU n.aH x)/\g.files=j.files/\g.eJ=j.eJ/\bJ l b n 0) (λx=>j.aU n.aH x\/x=b) P f ?_ (λW C _=>?_) (.inr rfl) (λ_⟨_,_,_,_,_,L⟩=>L) ?_ (λq=>by rw[E]at q;cases q) D).mono ?_;rintro x(q|q);exact k.aH.lt _ q;omega;have h:fY a W n.aH b j j:=⟨k.aH.aw C<|λ_ _=>id,C.mono cO,λ_ q=>.inl q⟩;apply(NH (K:=j) (m:=e) (a:=i) (b:=o) (c:=r) (d:=s) (C:=c) w v ((C.block b f id).trans L) (k.eW f h rfl) E).mono;rintro N l⟨Q,K,F,rfl,O,g,u,m,p,B,t,_⟩;exact⟨Q,K,F,rfl,O,u.aw,g,h.trans u,B,m,p,t⟩;rintro W S⟨g,h,u,m,p,O⟩K t;have F:=h.sb k.qZ f;refine⟨g,⟨h.ok.aw K ?_,h.aw.trans K ?_,h.aU⟩,u,m,p,t⟩;rintro x q(Q|Q|Q);(grind);have:=k.aH.lt _<|u x q;omega;have:=k.aH.lt _<|u x q;omega;grind
 rintro N l⟨A,rfl,u,g,h,B,m,p,t⟩;exact⟨A,rfl,u,g,h,m,p,B,t,k.eW f h<|by rw[m]⟩
def Qf(c:ab)(a:Z)(l b:jN):b<+:wD c a b l:=by
 induction l generalizing b with
 |nil=>exact List.prefix_refl _
 |cons p r d=>
  rw[wD];grind[prefix_refl,prefix_append]
def WR(c:ab)(a:Z)(i:0<a)(l b:jN)(g:(y b:Z)<a):(wD c 0 b l).take a.toNat=wD c a b l:=by
 induction l generalizing b with
 |nil=>
  show b.take a.toNat=b;grind[take_of_length_le]
 |cons p r h=>
  rw[wD,wD];split
  .grind[take_of_length_le]
  .have e:((y b:Z)+1==0)=aY:=by simp;omega
   rw[e];simp only[gC,jk];split
   .rename_i d;have d:(y b:Z)+1=a:=by simpa using d
    obtain⟨t,f⟩:=Qf c 0 r<|b++[p];rw[<-f,iJ (by simp;omega),cZ (by simp;omega)]
   grind
def Sc(c:Z)(d b:ab)(a:Z)(h:0<a)(e:dL):(sW c d b 0 e).take a.toNat=sW c d b a e:=WR b a h _ _<|by simpa using h
def l7(t:bA):aa:=dW #[aj<|fC t.num,aj<|fg t.ks,aj<|fS t.ks,ap (kF t.ks:M)]
def LJ{c:Func}{p:Tmp}(m:c.results=#[.cell p 60])(a:Array aa)(w:Y)(g:M)(e f h:ab)(i:Z)(t:TypeId)(d:M×M)(l:a.getD p ix=ay g)(j:w.heap[g]?=H (ar #[aj e,aj f,aj h,ap i] t d)):(results c a).run bz w=.ok (dW #[aj e,aj f,aj h,ap i]) w:=by
 have b:a[p]?.getD ix=ay g:=by simpa using l
 have k:=kJ (P:=bz) w g t 60 #[aj e,aj f,aj h,ap i] d _ j underlying60 rfl (by kernel_rfl);simp[results,m,b,asAddr,k]
def Ph(j:NR a O):NU a O:=by
 obtain⟨_,h,cut,c,f,g,d,b,e,i⟩:=j;exact⟨h,_,cut,c,f,g,d,b,e,i⟩
def Jf(h:NR a O)(E:Pow a)(o:2<z (G a))(hc:kF O.ks<=1000000000)(hz:(fg O.ks).size<=1000/\(fS O.ks).size<=1000):cD bz 71 #[ay O.tb] a λs w'=>s=aL (l7 O)/\I az a w':=by
 obtain⟨W,D⟩:∃W,cF a (ar #[aj ⟨#[]⟩,aj ⟨#[]⟩,aj ⟨#[]⟩,ap 0] 60)=W:=⟨_,rfl⟩;have f:I az a W:=by rw[<-D];exact cK _ _
 have c:W.heap[z<|G a]?=H (ar #[aj ⟨#[]⟩,aj ⟨#[]⟩,aj ⟨#[]⟩,ap 0] 60 (0,0)):=by rw[<-D];exact aB _ rfl
 have d:=U (show∀b,I az W b->NR b O/\Pow b/\I az a b/\b.heap[z<|G a]?=H (ar #[aj ⟨#[]⟩,aj ⟨#[]⟩,aj ⟨#[]⟩,ap 0] 60 (0,0))fromλb e=>⟨h.aw<|f.cr e,E.di<|(f.cr e).block _ o id,f.cr e,(e.block _ (am c) id).trans c⟩);have m:=λb=>rl (fg O.ks) b (by omega);have n:=λb=>rl (fS O.ks) b (by omega);clear h E o f c;go_in
 go_wp2_with fail
 apply((d W<|I.refl _ W).1.name (d W<|I.refl _ W).2.1).mono;rintro s K⟨rfl,g⟩;have x:=I.aR (S:=az) g;clear g;go_wp2_with fail
 apply(Ph (d K x).1).first.mono;rintro s t⟨rfl,ac⟩;subst t;go_wp2_with fail
 apply(m K).mono;rintro s t⟨rfl,j⟩;have A:=x.cr<|I.aR (S:=az) j;clear j x;go_wp2_with fail
 apply(Ph (d t A).1).last.mono;rintro s L⟨rfl,q,p⟩;have F:I az W L:=by rw[p];exact A.cr<|(I.refl az t).of_heap rfl
 clear p A;go_wp2_with fail
 apply(n L).mono;rintro s w4⟨rfl,k⟩;have B:=F.cr<|I.aR (S:=az) k;clear k F;go_wp2_with fail
 apply(Ai O (Ph (d w4 B).1) hc).mono;rintro s u⟨rfl,l⟩;have C:=B.cr<|I.aR (S:=az) l;have c:=(d u C).2.2.2;have f:=(d u C).2.2.1;have N:=U f;clear l B f C;have X:=cellAt c 0 rfl;have g1:=cellAt c 1 rfl;have g2:=cellAt c 2 rfl;have g3:=cellAt c 3 rfl;have P:=dE (i:=0) c;have Q:=dE (i:=1) c;have T:=dE (i:=2) c;have V:=dE (i:=3) c;obtain⟨r,e⟩:∃r,cA (cA (cA (cA u (R (z<|G a) 0)<|aj<|fC O.num) (R (z<|G a) 1)<|aj<|fg O.ks) (R (z<|G a) 2)<|aj<|fS O.ks) (R (z<|G a) 3) (ap (kF O.ks:M))=r:=⟨_,rfl⟩;have v:=U (show r.heap[z<|G a]?=H (ar #[aj<|fC O.num,aj<|fg O.ks,aj<|fS O.ks,ap (kF O.ks:M)] 60 (0,0))by rw[<-e];exact Fk c);have w:=U (show I az a r by rw[<-e];exact(ae N).trans ((((gW (z<|G a) u).setCell _ _ _<|.inl rfl).setCell _ _ _<|.inl rfl).setCell _ _ _<|.inl rfl)<|λk s=>.inr (by have e':k=z (G a):=s;omega));clear c;go_wp2;clear e X g1 g2 g3 P Q T V;refine cP (LJ rfl _ _ (z<|G a) _ _ _ _ _ _ rfl v) rfl ?_;exact⟨rfl,w⟩
def bA.BC(t:bA):iC:=[aj<|fC t.num,aj<|fg t.ks,aj<|fS t.ks,ap (kF t.ks:M)]
def lH(a:cf):iC:=a.flatMap bA.BC
def US(a:cf)(t:bA):lH (a++[t])=lH a++t.BC:=by simp[lH]
def Yp:(prog.info? 60).map (λi=>(i.zero,i.size,i.bytes))=H (H<|dW #[aj ⟨#[]⟩,aj ⟨#[]⟩,aj ⟨#[]⟩,ap 0],4,56):=by kernel_rfl
def Wj:(prog.info? 56).map (λi=>(i.zero,i.size,i.bytes))=H (H aD,1,24):=by kernel_rfl
def A4(w:Y)(t:bA):Prop:=NR w t/\kF t.ks<=1000000000/\(fg t.ks).size<=1000/\(fS t.ks).size<=1000
def zV(w:Y)(a:M)(b:cw (aa×cf))(c:iC):Prop:=∀(i:M)(u:aa),c[i]?=H u->∃p:aa×cf,b[i]?=H p/\w.ownsRow a 60 4 u (y p.2) (lH p.2)
def zV.snoc{c:cw (aa×cf)}{p:aa×cf}{u:aa}(h:zV a b c x)(g:c[y x]?=H p)(f:a.ownsRow b 60 4 u (y p.2) (lH p.2)):zV a b c (x++[u]):=λi v e=>by
 rcases lB i (y x)with d|d|d;exact h i v (by rwa[iE d]at e);grind
 grind
def XI{a:cw (aa×cf)}(h:b<y a):y a[b].2<=mf a:=by
 have:=yy a<|b+1;rw[ah h,Bz]at this;omega
def zV.aw{w w':Y}{a:cw (aa×cf)}{S:fA}(m:zV w c a x)(j:I S w w')(n:∀l,S l->∃d t e,w.heap[l]?=H (.cells d t e)/\t≠60):zV w' c a x:=λi u k=>by
 obtain⟨p,h,g⟩:=m i u k;refine⟨p,h,j.own g<|λl o q=>?_⟩;grind[xJ]
def Mz(m:cw (aa×cf))(h:DB a b c m)(hN:∀cv∈m,∀cq∈cv.2,A4 a cq)(hp:Pow a)(au:2<z (G a)):cD bz 38 #[fj<|H<|R b c] a λcs w'=>∃cu r,cs=aL cu/\w'.ownsRow (z<|G a) 56 1 cu 4 r/\y r=4/\zV w' (z<|G a) m r/\I az a w':=by
 obtain⟨i0,ad,bb,bc,bd⟩:=cH Yp;obtain⟨i1,al,av,ax,ba⟩:=cH Wj;have ch:=h.len;have bv:=h.small;have bs:=h.lt;have HC:=U h.cell;have HR:=U h.row;have Q:=U h.pS;obtain⟨HN,HP,T⟩:=dA hN hp au;clear h hN hp au;go_in
 go_wp2_with(first
  |(at_make;go_loud(refine jJ _ rfl _ _ 48 rfl (z (G a)) 56 i1 aD 1 underlying48 al av ax _ _ _ 4 rfl rfl (by omega) (by rw[ba];omega) (by unfold maxLen;omega) (ai _) ?_;intro w4 D x;have bn:=U D;have bh:=U x;clear D x)))
 go_loopw [3,12] (λck bg wr=>∃s:M,∃r:iC,s<=4/\bg=ap s/\y r=s/\wr.ownsRow (z<|G a) 56 1 ck s r/\zV wr (z<|G a) m r/\I az a wr) (λ_ bg _=>4-(intOf bg).toNat)
 case atStart=>exact⟨0,[],by omega,rfl,rfl,bn,λbg cl a=>by simp at a,I.dJ (S:=az) bh<|by simp⟩
 case round=>
  rename Y=>V
  obtain⟨s,r,hn,rfl,N,f,v,j⟩:=hrel;obtain⟨cx,bf,ho⟩:=aA f;subst ho;by_cases bt:s<4
  .have B:s<y m:=by omega
   have bu:=j.cell (HC s B) id bs;obtain⟨cb,cc,hy⟩:=bM<|HR s B;have l:=j.row (HR s B)<|λcd L=>⟨id,Q s B cd L⟩;have an:m[s]∈m:=ak B;have HT:=U<|λcq a=>(HN _ an cq a);have bl:=U<|show m[s]?=H m[s]from aI B;have bT:y m[s].2<=100000000:=aC (XI B) bv;obtain⟨d,hg⟩:∃d,m[s].2=d:=⟨_,rfl⟩;rw[hg]at hy l HT bT;have bk:=U hg;rw[hy]at bu l;clear hg;have cn:=f.lt;have HU:=U f;have bp:=U v;have W:=U j;have bx:=j.size;clear f v j;go_wp2_with(first
    |(at_make;go_loud(refine jJ _ rfl _ _ 56 rfl (z (G V)) 60 i0 (.agg #[.string ⟨#[]⟩,.string ⟨#[]⟩,.string ⟨#[]⟩,.int .i64 0]) 4 underlying56 ad bb bc _ _ _ (y d) rfl rfl (by omega) (by rw[bd];omega) (by unfold maxLen;omega) (ai _) ?_;intro w5 E A;have bo:=U E;have bi:=U A;clear E A)))
   go_loopw [6,22] (λck bg a=>∃q:M,q<=y d/\bg=ap q/\a.ownsRow (z<|G V) 60 4 ck q (lH<|d.take q)/\I az V a) (λ_ bg _=>y d-(intOf bg).toNat)
   case atStart=>exact⟨0,bj _,rfl,bo,I.dJ (S:=az) bi<|by simp⟩
   case round=>
    obtain⟨q,hm,rfl,e,g⟩:=hrel;obtain⟨P,c2,ac⟩:=aA e;have cp:=g.size;by_cases k:q<y d
    .obtain⟨ce,i,u,ca,cm,n⟩:∃ce i u,J cb (y d) cc=bB ce i (y d) u/\y d<=u/\∀j cl,(d.map bA.ptr)[j]?=H cl->aO V (R ce<|i+j)=H cl:=by
      obtain⟨_,⟨q1,q2⟩|⟨ce,i,u,q1,q2,q3⟩⟩:=l
      .omega
      grind
     cases ca;have hb:=Q s B ce (by rw[hy];rfl);have aq:=n q _ (by rw[dP,aI k];rfl);have hp:=g.cell aq id (by omega);obtain⟨C,X,hf,hl⟩:=HT _<|ak k;have hT:I az a wr:=W.cr g;have o:=Jf (C.aw hT) (HP.di<|hT.block _ T id) (ag T hT.size) X ⟨hf,hl⟩;have bq:=U (show lH (d.take<|q+1)=lH (d.take q)++[aj<|fC d[q].num,aj<|fg d[q].ks,aj<|fS d[q].ks,ap (kF d[q].ks:M)]by rw[ah k,US];rfl);unfold bA.ptr at hp;unfold l7 at o;generalize fC d[q].num=x0 at*;generalize fg d[q].ks=x1 at*;generalize fS d[q].ks=x3 at*;generalize kF d[q].ks=x4 at*;generalize d[q].tb=cj at*;obtain⟨O,K⟩:Hid _/\Hid _:=⟨U e,U g⟩;have ao:=e.lt;clear e g C X hf hl hT n aq l;subst ac;go_wp2_with fail
     apply o.mono;rintro cs w1⟨rfl,w⟩;have bm:=U<|w.own O<|λ_ _ bf=>bf;have co:=w.size;have br:=U w;clear w o;go_wp2_with(first
      |(at_builtin;go_loud(refine bO _ rfl (.tmp 26) (.tmp 29) 56 rfl (z (G V)) 60 i0 (.agg #[.string ⟨#[]⟩,.string ⟨#[]⟩,.string ⟨#[]⟩,.int .i64 0]) 4 56 underlying56 ad bb bc bd rfl (by decide) (.slice P q c2) q (lH (d.take q)) rfl (aN bm _) (R (z (G w1)) 0) 1 1 [.string x0,.string x1,.string x3,.int .i64 (x4:M)] rfl rfl (yj _ _ _ _ _ rfl) (by simp[Value.oneCell']) (by omega) (by omega) (by simp;omega) ?_;intro o2 w2 e p;have F:=U e;have t:=U p;clear e p)))
     go_roundw;case rel=>
      refine⟨q+1,k,by go_num,by rw[ae bq];exact F,?_⟩;exact((K.cr br).alloc _).trans (I.eT t)<|λcd L=>.inr (ao cd L).1
     case measure=>simp[intOf];omega
    .have o:q=y d:=by omega
     subst o;rw[aX]at e;have n:=g.own HU<|λ_ _ bf=>bf;have u:=bp.aw g<|λ_ bf=>bf.elim;obtain⟨O,C,HS,K⟩:=gH n e u g;have i:=n.lt;clear e g n u;subst ac;go_wp2_with(first
      |(at_builtin;go_loud(refine bO _ rfl (.tmp 32) (.tmp 34) 48 rfl (z (G a)) 56 i1 aD 1 24 underlying48 al av ax ba rfl (by decide) (.slice cx s bf) s r rfl (aN O _) (R (z (G wr)) 0) 1 1 [.slice P (y d) c2] rfl rfl (pt _ _ _) (by simp[Value.oneCell']) (by omega) (by omega) (by simp;omega) ?_;intro o2 w2 e p;have F:=U e;have t:=U p;clear e p)))
     go_roundw;case rel=>
      have h1:=(HS.snoc (u:=J P (y d) c2) (by rw[N];exact bl) (by rw[ae bk];exact er C bx)).aw (cK (o:=ar #[J P (y d) c2] 56) az wr)<|λ_ bf=>bf.elim;refine⟨s+1,r++[J P (y d) c2],bt,by go_num,by simp[N],F,h1.aw (I.eT t)<|λcd L=>?_,((W.cr K).alloc _).trans (I.eT t)<|λcd L=>.inr (i cd L).1⟩;obtain⟨X,w⟩:=fR (aN O<|ar #[J P (y d) c2] 56) L;grind
     case measure=>simp[intOf];omega
  .have d:s=4:=by omega
   subst d;obtain⟨O,HS,HT⟩:=dA f v j;clear f v j;go_wp2;go_ret;exact⟨_,r,rfl,O,N,HS,HT⟩
section
open Conc.Locks
def Iv(h:Cu B):1<=(fg B).size/\(fg B).size<=8:=by
 rw[vA<|ag Nat.zero_lt_one h.ne];exact⟨(h.can _<|ak _).f1,(h.can _<|ak _).f8⟩
def VX(h:Cu B):(fS B).size<=8:=by
 rw[AN<|ag Nat.zero_lt_one h.ne];exact(h.can _<|ak _).l8
def qC.XF{g:Fs}(h:qC a b g X O):A4 a O:=by
 obtain⟨f,d,c,i,_⟩:=h.mem;have e:=h.idx;rw[<-h.ks]at e;have j:=Iv e;have k:=VX e;have l:=e.DL;exact⟨⟨h.num,_,_,_,_,f,d,c,_,i⟩,by omega,by omega,by omega⟩
def Jl(h:bJ a b n 0)(l:n.closed=bU):cD bz 12 #[ay b] a λm k=>m=aL (dw #[aD,kN 6])/\bJ k b n 0/\I (λu=>u=b) a k:=by
 have p:=bJ.cellAt h 0 rfl;have r:a.frozen? (R b 0)=aY:=h.free;have j:=h.gx 1;have c:=gS j;rw[l]at c;simp only[ir]at c;have o:=U<|λg i=>oK (W2:=g) j (gW b a) i;clear h j l;rw[uL]at c|-;go_enter_defers func12,ntmps12
 go_wp2_with fail
 apply(lock_free (R b 0) _ p r).mono;rintro m k⟨rfl,rfl⟩;go_wp2_with fail
 apply c.mono;rintro m g⟨rfl,i⟩;obtain⟨q,s,d⟩:=o g i;have e:=U d;clear d i c;go_wp2;refine eH (f:=36) (args:=#[ay b]) (by simp) (by simp[go_sem]) ?_;apply(unlock_deferred (R b 0) .returning _ q s).mono;rintro m v t⟨rfl,rfl,rfl⟩;exact⟨_,jj rfl _ _ _,rfl,e⟩
def zV.set{b f i:M}{c:cw (aa×cf)}(h:zV a b c x)(g:f<b):zV (cA a (R f i) d) b c x:=λl m e=>by
 obtain⟨p,k,j⟩:=h l m e;grind[jS]
def zV.base{c base':M}{d:cw (aa×cf)}(h:zV a c d x)(f:base'<=c):zV a base' d x:=λj k e=>by
 obtain⟨p,i,g⟩:=h j k e;grind[er]
def B6(s:SR)(a b c d:cf):cw (aa×cf):=[(s.l0,a),(s.l1,b),(s.l2,c),(s.l3,d)]
def Un(w b:Y)(c:cw (aa×cf))(v:aa):Prop:=∃a,b.ownsRow (z<|G w) 56 1 v 4 a/\y a=4/\zV b (z<|G w) c a
def OE(h:bJ a b n 0)(L:ST a b n j e i o r s c)(hc:n.closed=aY):cD bz 12 #[ay b] a λP v=>∃ad,P=aL (dw #[ad,.nilIface])/\Un a v (B6 n i o r s) ad/\vI a v b n j e i o r s c:=by
 have p:=am h;have c0:=bJ.cellAt h 0 rfl;have f0:a.frozen? (R b 0)=aY:=h.free;have m:=jY L.aH L.qZ 1;have K:=h.gx 1;have F:z (G a)<=z (G<|cA a (R b 0)<|iO 1):=by simp
 generalize X:cA a (R b 0) (iO 1)=x at m K F;have q:=gS K;rw[hc]at q;have l:cD bz 37 #[ay b] x λP v=>P=aL .nilIface/\Below (z<|G x) x v:=q;have HX:=U<|λu(B:Below (z<|G x) x u)=>sX (W2:=u) K L p m B;have HW:=U X;clear h L m K hc X q;go_enter_defers func12,ntmps12
 go_wp2_with fail
 apply(lock_free (R b 0) _ c0 f0).mono;rintro P v⟨rfl,T⟩;rw[ae HW]at T;subst v;go_wp2_with fail
 apply l.mono;rintro P u⟨rfl,B⟩;obtain⟨C,d,k⟩:=HX u B
 have D:=Mz _ (d.ZX C) (λp hp ac N=>by
  simp only[bH,fO,mu]at hp;rcases hp with rfl|rfl|rfl|rfl
  .exact(d.l0.each ac N).XF
  .exact(d.l1.each ac N).XF
  .exact(d.l2.each ac N).XF
  .exact(d.l3.each ac N).XF) d.kC.pow d.kC.mi.lt
 have g:z (G a)<=z (G u):=aC F B.size;have w:=U k;have O:=U d;clear C d k B l;go_wp2_with fail
 apply D.mono;rintro P V⟨ad,us,rfl,Q,S,E,t⟩;have A:(lI n.aH j).D V:=(lI n.aH j).fD O.Pj t cO;obtain⟨d0,g0,hF⟩:=w V A<|t.mono cO;have W:Un a (cA V (R b 0)<|iO 0) (B6 n i o r s) ad:=⟨us,er (jS Q<|ag p g) g,S,(E.set<|ag p g).base g⟩;obtain⟨ao,an,hv⟩:=aA Q;have HF:=U hF;have HP:=U W;clear A t hF D Q E W;subst hv;go_wp2;refine eH (f:=36) (args:=#[ay b]) (by simp) (by simp[go_sem]) ?_;apply(unlock_deferred (R b 0) .returning _ d0 g0).mono;rintro P u' al⟨rfl,rfl,rfl⟩;exact⟨_,jj rfl _ _ _,_,rfl,HP,HF⟩
end
abbrev C3:=cw ab
def Xt(w:Y)(v:aa)(a:C3):Prop:=Row w 1 v (y a)<|a.map Value.string
def G9(b:C3)(a:ab)(e:Ending):Prop:=∃r:Bool,e=aL (aK r)/\(r=bU↔a∈b)
def DX{w:Y}{ns:C3}(h:Xt w d ns)(A:y ns<=1000000000000)(a:ab):cD bz 16 #[d,aj a] w λp u=>G9 ns a p/\u=w:=by
 obtain⟨x,E,r⟩:=bM h;subst r;have m:=U h;clear h;go_in
 go_wp2;go_loopw [5] (λi wr=>∃n:M,n<=y ns/\i=ap n/\a∉ns.take n/\wr=w) (λi _=>y ns-(intOf i).toNat)
 case atStart=>grind
 (case round=>obtain⟨n,B,rfl,b,s⟩:=hrel;subst wr;by_cases c:n<y ns;(.obtain⟨_,⟨k,t⟩|⟨D,j,o,k,t,l⟩⟩:=ae m;omega;cases k;have C:=l n _ (by rw[dP,aI c];rfl);have g:=U (show a∈ns.take (n+1)↔a∈ns.take n\/a=ns[n]by rw[ah c,aE,cX]);have f:=U<|ak c;have e:=U b;generalize ns[n]=x at*;clear b l;by_cases i:x=a;(.subst i;go_wp2;go_ret;exact⟨⟨bU,rfl,⟨λ_=>f,λ_=>rfl⟩⟩,rfl⟩);(.have v:(x.toList==a.toList)=aY:=wl i;go_wp2;go_roundw;(case rel=>exact⟨n+1,c,by go_num,λq=>(g.1 q).elim e<|λp=>i p.symm,trivial⟩);case measure=>simp[intOf];omega));(have f:n=y ns:=by omega);subst f;rw[aX]at b;have e:=U b;clear b;go_wp2;go_ret;exact⟨⟨aY,rfl,⟨λq=>(by cases q),λq=>absurd q e⟩⟩,rfl⟩)
def rZ(a:cf):C3:=a.map<|λt=>fC t.num
def Xz(w:Y)(u:aa)(a:cf):Prop:=Row w 4 u (y a)<|lH a
def XM(a:cf)(n j:M)(h:n<y a)(c:j<4):(lH a)[n*4+j]?=(bA.BC a[n])[j]?:=by
 induction a generalizing n with
 |nil=>simp at h
 |cons t r d=>
  have e:lH (t::r)=t.BC++lH r:=by simp[lH]
  have b:y t.BC=4:=rfl;rw[e];grind
def Xz.cell{b c e n:M}(s:Xz a (bB b c (y o) e) o){i:M}(k:i<y o)(l:n<4)(m:o[i].BC[n]?=H d):aO a (R b<|c+(i*4+n))=H d:=by
 obtain⟨_,⟨j,q⟩|⟨b',h,g,j,q,r⟩⟩:=s;omega;cases j;exact r _ _<|(XM o i n k l).trans m
def Xz.some(m:Xz a d i)(n:b<y i):∃k c e,d=bB k c (y i) e/\y i<=e:=by
 obtain⟨_,⟨h,j⟩|⟨l,g,f,h,j,o⟩⟩:=m;omega;grind
def GS(w:Y)(v:aa)(a:cw cf):Prop:=∃b:iC,Row w 1 v (y a) b/\(∀k,ct v=H k->k<z (G w))/\∀i(c:i<y a),∃u,b[i]?=H u/\Xz w u a[i]/\∀k,ct u=H k->k<z (G w)
def GS.aw{w w':Y}{e:cw cf}(q:GS w d e)(c:I az w w'):GS w' d e:=by
 obtain⟨o,j,g,l⟩:=q;refine⟨o,c.row j<|λk a=>⟨id,g k a⟩,λk a=>ag (g k a) c.size,λi m=>?_⟩;obtain⟨u,p,n,h⟩:=l i m;exact⟨u,p,c.row n<|λk a=>⟨id,h k a⟩,λk a=>ag (h k a) c.size⟩
def GS.at{x:Option Addr}{e:cw cf}(q:GS a (J x (y e) c) e){i:M}(m:i<y e):∃b d,x=H (R b d)/\y e<=c/\∃g h,aO a (R b<|d+i)=H (J g (y e[i]) h)/\Xz a (J g (y e[i]) h) e[i]:=by
 obtain⟨u,⟨r,⟨j,o⟩|⟨b,d,k,j,o,t⟩⟩,s,l⟩:=q;omega;cases j;obtain⟨w,v,n,_⟩:=l i m;obtain⟨g,h,rfl⟩:=bM n;grind
def Un.v{w w':Y}{l b m o:cf}(q:Un w w' (B6 n l b m o) d):GS w' d [l,b,m,o]:=by
 obtain⟨c,e,s,k⟩:=q;refine⟨c,da e,Pf e,λi r=>?_⟩;have a:i<y c:=by grind
 obtain⟨p,j,g⟩:=k i c[i]<|aI a;have h:i=0\/i=1\/i=2\/i=3:=by grind
 refine⟨c[i],aI a,?_,Pf g⟩;rcases h with rfl|rfl|rfl|rfl<;>(cases j;exact da g)
def Ye(a:cf):iC:=(rZ a).map Value.string
def VC(a:cf)(t:bA):Ye (a++[t])=Ye a++[aj<|fC t.num]:=by simp[Ye,rZ]
def EZ(a:cf):y (rZ a)=y a:=by simp[rZ]
def Ma{a:cw cf}(e:b<y a)(d:c<y a[b]):(a.take b).flatten++a[b].take (c+1)=(a.take b).flatten++a[b].take c++[a[b][c]]:=by
 rw[ah d,bD]
def XV{a:cw cf}(c:b<y a):(a.take<|b+1).flatten=(a.take b).flatten++a[b]:=by
 rw[ah c,dB,List.flatten_singleton]
def Sy{a:cw cf}(d:b<y a)(g:c<y a[b])(h:(rZ a.flatten).Nodup):fC a[b][c].num∉rZ ((a.take b).flatten++a[b].take c):=by
 have e:a.flatten=((a.take b).flatten++a[b].take c)++(a[b][c]::(a[b].drop (c+1)++(a.drop<|b+1).flatten)):=by(have f:a.flatten=(a.take b).flatten++(a[b]++(a.drop<|b+1).flatten):=by rw[<-bG,<-aZ d,<-dB,bN]);grind[drop_eq_getElem_cons,take_append_drop,append_assoc]
 rw[e]at h;unfold rZ at h|-;rw[aQ,iK]at h;grind
def XU{a:cw cf}(e:b<y a)(f:c<y a[b]):y ((a.take b).flatten++a[b].take c)<y a.flatten:=by
 have d:a.flatten=(a.take b).flatten++(a[b]++(a.drop<|b+1).flatten):=by rw[<-bG,<-aZ e,<-dB,bN]
 rw[d];grind
def Yq:(prog.info? 9).map (λi=>(i.zero,i.size,i.bytes))=H (H<|aj ⟨#[]⟩,1,16):=by kernel_rfl
def Ry{b:cw cf}(h:GS a d b)(hT:y b<=1000)(hs:y b.flatten<=100000000)(A:(rZ b.flatten).Nodup):cD bz 17 #[d] a λbc w'=>bc=aL (aK bU)/\I az a w':=by
 obtain⟨i0,x,E,F,K⟩:=cH Yq;obtain⟨bd,bb,hv⟩:∃bd bb,d=J bd (y b) bb:=by obtain⟨us,h1,_⟩:=h;exact bM h1
 subst hv;have X:=U h;have T:=U A;clear h A;go_in
 go_wp2;go_loopw [3,4] (λav L wr=>∃n:M,n<=y b/\L=ap n/\wr.ownsRow (z<|G a) 9 1 av (y (b.take n).flatten) (Ye (b.take n).flatten)/\I az a wr) (λ_ L _=>y b-(intOf L).toNat)
 case atStart=>exact⟨0,bj _,rfl,by simpa[Ye,rZ]using bK a (z<|G a) 9 1,I.refl _ _⟩
 case round=>
  rename Y=>V
  obtain⟨n,A,rfl,f,g⟩:=hrel;obtain⟨ox,oc,l⟩:=aA f;by_cases e:n<y b
  .have W:=U f;have v:=U g;have aq:=g.size;have ad:y b[n]<=100000000:=by
    grind[flatten_cons,drop_eq_getElem_cons,flatten_append,take_append_drop,length_append]
   clear f g;subst l;go_wp2;go_loopw [3,5] (λav L wr=>∃m:M,m<=y b[n]/\L=ap m/\wr.ownsRow (z<|G a) 9 1 av (y<|(b.take n).flatten++b[n].take m) (Ye<|(b.take n).flatten++b[n].take m)/\I az a wr) (λ_ L _=>y b[n]-(intOf L).toNat)
   case atStart=>exact⟨0,bj _,rfl,by rw[sJ,ee];exact W,v⟩
   case round=>
    obtain⟨m,hm,rfl,f,g⟩:=hrel;obtain⟨qx,qc,l⟩:=aA f;obtain⟨bg,N,hx,al,ax,ba,hc,i⟩:=(X.aw g).at e;subst hx;by_cases c:m<y b[n]
    .obtain⟨b2,r,O,hu,P⟩:=i.some c;cases hu;have an:aO wr (R b2<|r+m*4)=H (aj<|fC b[n][m].num):=Xz.cell (n:=0) i c (by omega) rfl;have ao:=XU e c;have S:=DX (ns:=rZ<|(b.take n).flatten++b[n].take m) (by unfold Xt;rw[EZ];exact da f) (by rw[EZ];omega)<|fC b[n][m].num;have B:=Sy e c T;have u:=U (show Ye ((b.take n).flatten++b[n].take (m+1))=Ye ((b.take n).flatten++b[n].take m)++[aj<|fC b[n][m].num]by rw[Ma e c,VC]);have s:=U (show y ((b.take n).flatten++b[n].take (m+1))=y ((b.take n).flatten++b[n].take m)+1 by rw[Ma e c,af];rfl);generalize(b.take n).flatten++b[n].take m=ac at*;generalize fC b[n][m].num=q at*;have j:=U f;have k:=U g;have Q:=g.size;have C:=f.lt;clear f g i;subst l;go_wp2_with fail
     apply S.mono;rintro bc w1⟨⟨bf,rfl,hr⟩,au⟩;subst w1;have D:bf=aY:=by
      grind
     subst D;clear hr S B;go_wp2_with(first
      |(at_builtin;go_loud(refine bO _ rfl (.tmp 33) (.tmp 42) 57 rfl (z (G a)) 9 i0 (.string ⟨#[]⟩) 1 16 underlying57 x E F K rfl (by decide) (.slice qx (y ac) qc) (y ac) (Ye ac) rfl (aN j _) (R (z (G wr)) 0) 1 1 [.string q] rfl rfl (pt _ _ _) (by simp[Value.oneCell']) (by omega) (by omega) (by simp;omega) ?_;intro o2 w2 o p;have t:=U o;have w:=U p;clear o p)))
     go_roundw;case rel=>
      refine⟨m+1,c,by go_num,by rw[ae u,ae s];exact t,?_⟩;exact((k).alloc _).trans (I.eT w)<|λb a=>.inr (C b a).1
     case measure=>simp[intOf];omega
    .have o:m=y b[n]:=by omega
     subst o;rw[aX,<-XV e]at f;have j:=U f;have k:=U g;clear f g;subst l;go_wp2;go_roundw;case rel=>exact⟨n+1,e,by go_num,j,k⟩
     case measure=>simp[intOf];omega
  .have c:n=y b:=by omega
   subst c;have v:=U g;clear f g;subst l;go_wp2;go_ret;exact⟨rfl,v⟩
