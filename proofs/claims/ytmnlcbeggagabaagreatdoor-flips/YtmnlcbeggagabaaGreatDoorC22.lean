import Derived.Test.YtmnlcbeggagabaaGreatDoorC19
import Derived.Test.YtmnlcbeggagabaaGreatDoorC20
open _root_ renaming List.length→y,Option.some→H,Array.size→z,Go.World.heap→G,Go.Value.ownBlock→cz,Go.World.cell?→aS,Go.World.setCell→cA,Go.World.alloc→cG,Bool.false→bj,Bool.true→ci,Nat→M,Int→U,List→cS,Go.Calls→cD,Go.undef→ix,Go.Proofs.Tryz.prog→aZ,Go.Value.slice→J,Go.Value.string→am,Go.Value.bool→aK,Go.Value.pointer→dF,Go.Value.tuple→dd,Go.Value.agg→dD
namespace Go.Proofs.YtmnlcbeggagabaaGreatDoor
open ChangeShapes WideShapes RowKit Proofs.Tryz List
set_option maxHeartbeats 16000000
set_option linter.all false
set_option maxRecDepth 100000
variable{a f B:Z}{b c g m:M}{d u P:ab}{e:cI}{i L:DK}{j p r s:cN}{k:U}{o:SR}{t:iL}{v:ae}{A:iF}{F:Fs}{Q:Prop}{T:bw}
def Cy.ap{w w':Z}{d:cS (ab×cN)}{S:eT}(h:Cy w c g d)(j:I S w w')(l:¬S c)(m:∀i(a:i<y d),∀k,cz d[i].1=H k->¬S k):Cy w' c g d:=⟨h.len,λi a=>j.cell (h.cell i a) l h.lt,λi a=>j.row (h.row i a)<|λk e=>⟨m i a k e,h.oM i a k e⟩,λi a k e=>ah (h.oM i a k e) j.size,h.small⟩
def oW{e:Addr}(n:a.ownsRow b c 1 (J (H e) g m) g A):∀k u,A[k]?=H u->aS a (e.add k)=H u:=by
 intro k u i;obtain⟨o,⟨d,_⟩|⟨t,l,f,d,p,h,r,q,s,j⟩⟩:=n;cases d;cases d;rw[dt,bV h,dr];rw[<-j,oD]at i;grind
def wC(a:ab)(b c d e:ab×cN):iF:=.iface 88 a::oS b c d e
def Dp(r s t u:ab×cN)(h:cf a c o k)(g:Option Addr)(f e:M)(N:o.memory=J g f e)(hl:Cy a c 10 [r,s,t,u]):cD aZ 75 #[aA c] a λaF w'=>∃v',aF=aJ v'/\w'.ownsRow (z<|G a) 168 1 v' (y (oS r s t u)+1) (wC o.memory r s t u)/\I az a w':=by
 obtain⟨i0,aa,ad,al,an⟩:=cU Io;have A:=cf.cellAt h 7 rfl;have p:=ar h;have n:=Y<|λW(Q:I az a W)=>Nh (w:=W) (lb:=c) (lo:=10) r s t u<|hl.ap Q id<|λ_ _ _ _=>id;have L:y (oS r s t u)<=100000003/\1<=y (oS r s t u):=by have:=hl.small;simp[oS,lV]at this|-;omega
 have O:∀m∈oS r s t u,m.oneCell'=ci:=by intro m d;simp only[oS,aG,qj,bM,dA]at d;rcases d with((⟨q,_,rfl⟩|rfl)|rfl)|rfl<;>rfl
 obtain⟨ao,hn⟩:∃ao,y (oS r s t u)=ao:=⟨_,rfl⟩;rw[hn]at L;unfold wC;rw[N]at A|-;generalize aU:oS r s t u=VS at*;clear h hl N;go_in
 go_wp2_with fail
 rename_i QQ KK F;refine dL (λx=>aS x (R c 7)=H (J g f e)) 11 (by kernel_rfl) ?_;have D:aS a.drew (R c 7)=H (J g f e):=A;refine eR 0 ?_;iterate 5 (refine iC (v:=?_) D rfl (by kernel_rfl) ma rfl ?_ ?_;rotate_left;(focus(intro x hX;go_simp;try rfl));simp only[Act.put,eF,Nat.reduceAdd])
 apply ig;refine eR 6 ?_;iterate 3 (refine iC (v:=?_) D rfl (by kernel_rfl) ma rfl ?_ ?_;rotate_left;(focus(intro x hX;go_simp;try rfl));simp only[Act.put,eF,Nat.reduceAdd])
 apply ig;have w:∀(W:Z)(b:M),W.heap[b]?=H (ay #[.iface 88<|J g f e] 168 (0,0))->z (G a)<=b->W.ownsRow (z<|G a) 168 1 (aY b 0 1 1) 1 [.iface 88<|J g f e]:=by intro W b hb d;exact⟨rfl,.inr ⟨b,1,#[.iface 88<|J g f e],rfl,d,hb,ai _,by unfold maxLen;omega,rfl,rfl⟩⟩
 refine tC (α:=M×ab) (λT W=>I az a W/\W.heap[T.1]?=H (ay #[.iface 88<|J g f e] 168 (0,0))/\z (G a)<=T.1/\W.ownsRow (z<|G a) 168 1 T.2 ao VS/\cz T.2≠H T.1) (λT=>{tmps:=#[aA c,ix,aw,aA c,aA c,dF<|H<|R c 7,J g f e,.iface 88<|J g f e,aY T.1 0 1 1,aA c,aA c,dF<|H<|R c 10,T.2,ix],defers:=[]}) #[true,true,true,true,true,true,true,true,true,true,false,false] 2 ?_ ?_;(.intro P;refine sy (i:=5) (j:=9) rfl rfl rfl rfl (by kernel_rfl) ?_ ?_;(.intro au X;go_simp;have B:I az a (cG a<|ay #[.iface 88<|J g f e] 168).drew:=(cK az a).of_heap rfl;have K:(cG a<|ay #[.iface 88<|J g f e] 168).drew.heap[z<|G a]?=H (ay #[.iface 88<|J g f e] 168 (0,0)):=aH (w:=a) _ rfl;refine X _ _ (λ_=>B.cell A id p) ?_;refine bC (i:=9) rfl rfl (by kernel_rfl) ?_;intro K2 l;go_simp;apply(n _ B).mono;rintro aF S⟨v1,rfl,d,q⟩;have V:=(q.block _ (ar K) id).trans K;have m:=B.bW q;refine l _ _ (λ_=>m.cell A id p) ?_;have ac:=λk a=>(d.lt k a).1;simp at ac;refine jM (P (z<|G a,v1) S ⟨m,V,ai _,?_,?_⟩) (by kernel_rfl);rw[hn]at d;obtain⟨q1,⟨q2,q0⟩|⟨ba,cp,E,q2,qb,C⟩⟩:=d;(grind);exact⟨q1,.inr ⟨ba,cp,E,q2,by grind,C⟩⟩;grind);intro au X;go_simp;apply(n _<|cR _ a).mono;rintro aF S⟨v1,rfl,d,q⟩;have m:I az a S:=(cR az a).bW q;refine X _ _ (λ_=>m.cell A id p) ?_;refine bC (i:=5) rfl rfl (by kernel_rfl) ?_;intro K2 l;go_simp;have B:=m.alloc<|ay #[.iface 88<|J g f e] 168;refine l _ _ (λ_=>B.cell A id p) ?_;refine jM (P (z<|G S,v1) _ ⟨B,aH _ rfl,m.size,?_,?_⟩) (by kernel_rfl);rw[hn]at d;exact aX d _;intro ax;have:=(d.lt _ ax).2;omega);rintro⟨b,au⟩W⟨Q,hb,ac,P,aV⟩;have C:=w W b hb ac;(obtain⟨av,d,rfl⟩:∃a ax,au=J (H a) ao ax:=by rcases P.2 with⟨_,h0⟩|⟨ba,aD,E,h2,_⟩;omega;grind);refine bC (i:=10) rfl rfl (by kernel_rfl) ?_;intro K2 l;simp only[cQ,cq,cy];refine kg (.tmp 8) (.tmp 12) 165 rfl (z<|G a) 168 i0 .nilIface 1 16 underlying165 aa ad al an rfl (by decide) (aY b 0 1 1) 1 [.iface 88<|J g f e] rfl C av ao d VS rfl P.1 ?_ O (by omega) (by omega) Q.size ?_;exact oW P;intro v3 w3 q K;obtain⟨x3,c3,X⟩:=aC q;subst X;have m:I az a w3:=Q.trans (fj K.grown) (by grind);refine l _ _ (λ_=>m.cell A id p) ?_;simp only[Act.put,eF];refine bC (i:=11) rfl rfl (by kernel_rfl) ?_;intro K3 B;go_simp;refine B _ _ Fc ?_;refine eN (by kernel_rfl) ?_ _;show KK _ _;apply F;have S:=Y q;have V:=Y m;clear F l B q K m C P w;go_wp2;go_ret;refine⟨_,rfl,?_,V⟩;rw[show ao+1=1+ao from zp _ _];exact S
def qG(V:iL)(g:M)(h:ab)(e:cI)(w:Z):Prop:=∃t v f b,h=.iface t v/\(∀w,(Go.method 526 t v "Find").run aZ w=.ok (f,b) w)/\Enters aZ f/\∀a(d:U)w',kw V g az w w'->V.D w'->cD aZ f #[b,am a,aE d] w' λi c=>OX V w' c (ir d e a) i
def Rb(v:ab)(w:Z):(Go.method 526 91 v "Find").run aZ w=.ok (299,v) w:=by kernel_rfl
def Ra(v:ab)(w:Z):(Go.method 526 189 v "Find").run aZ w=.ok (301,v) w:=by kernel_rfl
def TZ(v:ab)(w:Z):(Go.method 526 88 v "Find").run aZ w=.ok (295,v) w:=by kernel_rfl
def qG.wS(i:rB t b d j a)(c:b<=z (G a))(hF:∀k,t.F k->k<b):qG t b (.iface 91 d) (bZ j) a:=⟨_,d,_,d,rfl,Rb d,enters_of func299 (by kernel_rfl) rfl,λe g l f h=>QC e g (i.same f) h (aB c f.1) hF⟩
def qG.table(h:mV t b T.tb T.ks T.cs a)(c:b<=z (G a))(hF:∀k,t.F k->k<b):qG t b (.iface 189 T.ptr) T.all a:=⟨_,T.ptr,_,T.ptr,rfl,Ra T.ptr,enters_of func301 (by kernel_rfl) rfl,λd f i e g=>BI d f (h.same e) g (aB c e.1) hF⟩
def jU.same{V:iL}{n0:M}(o:jU a d e)(l:kw V n0 az a f)(m:∀i,cz d=Option.some i->i<n0/\¬V.F i):jU f d e:=by
 obtain⟨h,⟨rfl,j⟩|⟨n,b,c,rfl,g,k⟩⟩:=o;exact⟨h,.inl ⟨rfl,j⟩⟩;exact⟨h,.inr ⟨n,b,c,rfl,g,λo u j=>l.cell (.inr<|m n rfl)<|k o u j⟩⟩
def qG.list(p:jU a d e)(o:dK e)(n:y e<=1000000000000)(l:∀j,cz d=H j->j<b/\¬t.F j)(i:b<=z (G a)):qG t b (.iface 88 d) e a:=by
 refine⟨_,d,_,d,rfl,TZ d,enters_of func295 (by kernel_rfl) rfl,λh k q g m=>?_⟩;apply(zW h k (p.same g l) o n<|λj f=>ah (ah (l j f).1 i) g.1).mono;rintro s r⟨rfl,f⟩;have c:=t.eQ m (I.aQ (S:=az) f) cC;cases ir k e h with
 |none=>exact⟨zE,bj,.nilIface,rfl,.inl rfl,c,I.aQ f⟩
 |some x=>exact⟨x,ci,.nilIface,rfl,.inl rfl,c,I.aQ f⟩
def vO(c:U)(b:ae)(a:cS (ab×cI)):Option E:=a.findSome?<|λr=>ir c r.2 b
def VB:Option E->ab
 |some x=>.tuple #[.string x.val,.bool<|!x.del,.nilIface]
 |none=>.tuple #[.string ⟨#[]⟩,.bool bj,.nilIface]
def Sx{a:cS (ab×cI)}(h:b<y a)(c:vO k v (a.take b)=none):vO k v a=(ir k a[b].2 v).or (vO k v<|a.drop<|b+1):=by
 have e:a=a.take b++a[b]::a.drop (b+1):=by rw[<-bD h,bX]
 unfold vO at*;grind
def TX(w:Z)(c:M)(a:ae)(d:U)(e:¬(1<=a.size/\a.size<=8))(f:a.size<=140737488351232):cD aZ 40 #[aA c,am a,aE d] w λi g=>i=aJ (dd #[am ⟨#[]⟩,aK bj,pO 3])/\g=w:=by
 have b:=λW=>qA a W f;rw[decide_eq_false e]at b;go_in
 go_wp2_with(go_at_call 71;refine(b _).mono ?_;rintro i j⟨rfl,rfl⟩)
 refine cg (nJ rfl _ _ _) rfl ?_;exact⟨rfl,rfl⟩
abbrev gE(v:ab):ab:=dd #[am ⟨#[]⟩,aK bj,v]
def TY(n0:M)(p0 p1 p2 p3:ab×cN)(c:cS (ab×cI))(d:ae)(s:U)(h:cf a b o k)(mx:Option Addr)(mn mc:M)(aF:o.memory=J mx mn mc)(hl:Cy a b 10 [p0,p1,p2,p3])(N:c.map (·.1)=wC o.memory p0 p1 p2 p3)(hR:∀bo(hi:bo<y c),qG t n0 c[bo].1 c[bo].2 a)(hD:t.D a)(bl:n0<=z (G a))(hF:∀k,t.F k->k<n0)(hk:1<=d.size/\d.size<=8)(bd:∀cm∈c,∀x∈cm.2,x.val.size<=281474976710656):cD aZ 40 #[aA b,am d,aE s] a λbp w'=>(bp=aJ (VB<|vO s d c)/\t.D w'/\I t.F a w')\/RX t a w' t.F bp gE:=by
 have O:=λbx=>qA d bx (by omega);rw[vY hk]at O;have V:=Dp p0 p1 p2 p3 h mx mn mc aF hl;have l:y (oS p0 p1 p2 p3)+1=y c:=by have:=bQ y N;simp[wC]at this;omega
 rw[<-N,l]at V;have br:y c<=1000000000:=by have:=hl.small;rw[<-l];simp[oS,lV]at this|-;omega
 obtain⟨HR,HD,HF,bh⟩:=fX hR hD hF bd;clear h hl aF N hR hD hF l bd;go_in
 go_wp2_with fail
 apply(O _).mono;rintro bp w1⟨rfl,cd⟩;subst w1;go_wp2_with fail
 apply V.mono;rintro bp w1⟨v1,rfl,P,bb⟩;obtain⟨x1,c1,bm⟩:=aC P;subst bm;have ad:=Y P;have al:=Y bb;clear P bb V O;go_wp2_with fail
 go_loopw [21] (λbo wr=>∃C:M,C<=y c/\bo=aq C/\t.D wr/\I t.F w1 wr/\vO s d (c.take C)=none) (λbo _=>y c-(intOf bo).toNat)
 case atStart=>exact⟨0,bG _,rfl,t.eQ HD al cC,I.refl _ _,rfl⟩
 case round=>
  obtain⟨C,hn,rfl,i,n,e⟩:=hrel;have m:I t.F a wr:=(al.mono (T:=t.F) cC).trans n<|λ_ l=>.inl l;by_cases g:C<y c
  .obtain⟨ck,cl,cj,ce,aV,hm,X,j⟩:=HR C g;have eg:∀c a,(callFunc cj c).run aZ a=.ok (.enter cj c) a:=X;have hc:=j d s wr (m.same bl cC<|λk hk _=>hk) i;have aU:∀k,z (G a)<=k->¬t.F k:=λk hk c=>by have:=HF k c;omega
   have Q:=n.own ad<|λk hk=>aU k (ad.lt k hk).1;obtain⟨bq,hx,cc⟩:∃bq,x1=H (R bq 0)/\aS wr (R bq C)=H (.iface ck cl):=by
    rcases Q.2 with⟨f,D⟩|⟨w,u,v,f,_⟩
    .omega
    .cases f;refine⟨w,rfl,?_⟩;have:=oW Q C (.iface ck cl) (by rw[fc,aN g];simp[aV]);rwa[dt,dr]at this
   subst hx;have ax:=Sx g e;have ba:vO s d (c.take<|C+1)=ir s c[C].2 d:=by
    rw[aj g];unfold vO at e|-;rw[List.findSome?_append,e];cases h:ir s c[C].2 d<;>simp[h]
   have B:∀x,ir s c[C].2 d=H x->x.val.size<=281474976710656:=λx hx=>bh _ (ak g) x<|la hx;obtain⟨aa,bg,r,ac,bf⟩:=jk i n m ax ba;have e1:(C:U)<(y c:U):=by omega
   clear i n m aV X j e Q aU ax ba;go_wp2_with fail
   apply hc.mono;rintro bp p⟨ch,ok,ev,X,A,ao,bc⟩;obtain⟨F,L⟩:=And.intro (Y ao) (Y bc);clear ao bc hc;rcases A with A|⟨hX,rfl,rfl,q,rfl,hq⟩
   .rw[A]at X;subst X;clear A;cases hfe:ir s c[C].2 d with
    |none=>
     unfold Ek vP;simp only;have K:=Y hfe;clear hfe B;go_wp2;go_roundw;case rel=>
      refine⟨C+1,g,by go_num,t.eQ F (cK az p) cC,?_,?_⟩
      .exact(bg.trans L<|λ_ l=>.inl l).alloc _
      .rw[af bf,af K]
     case measure=>simp[intOf];omega
    |some x=>
     have bn:=B x hfe;unfold Ek E.value;simp only;have bk:=λbx=>uM x.val bx bn;have bs:∀(x:Bool)(a:Z),(Op.unary .not<|aK x).run aZ a=.ok (aK<|!x) a:=λ_ _=>rfl;have K:=Y hfe;clear hfe B;go_wp2_with fail
     have f:iG (cG p<|ay #[am x.key,am x.val,aK x.del,aE x.bJ] 170) (z<|G p) x:=aH _ rfl;have v:I t.F a (cG p<|ay #[am x.key,am x.val,aK x.del,aE x.bJ] 170):=(r.trans L<|λ_ l=>.inl l).alloc _;have u:t.D (cG p<|ay #[am x.key,am x.val,aK x.del,aE x.bJ] 170):=t.eQ F (cK az p) cC;generalize cG p (ay #[am x.key,am x.val,aK x.del,aE x.bJ] 170)=W3 at f v u|-;generalize z (G p)=eb at f|-;obtain⟨bE,bT,bi,ca⟩:=f.cells;have aD:=ar f;obtain⟨bv,bt,bu⟩:=dz v u f;have HA:=Y (show∀D,Below (z<|G W3) W3.drew D->aS D (R eb 2)=H (aK x.del)/\t.D D/\I t.F a D from by
      intro D w;have W:I az W3 D:=(cR az W3).bW (I.aQ (S:=az) w);exact⟨W.cell bi id aD,t.eQ u W cC,v.bW W⟩)
     clear f v u;go_region_with(first|(go_at_call 76;refine(bk _).mono ?_;rintro bp D⟨rfl,w⟩;obtain⟨cb,au,av⟩:=HA D w;have an:=Y<|And.intro au av;clear au av w))
     all_goals(go_wp2;refine cg (nJ rfl _ _ _) rfl ?_;exact .inl ⟨by rw[af ac,af K];rfl,an.1,an.2⟩)
   .subst X;have f:=Y hq;clear hq B;unfold E.value;simp only;go_wp2;refine cg (nJ rfl _ _ _) rfl ?_;exact .inr ⟨hX,q,rfl,f.ap (cK az p) cC,t.eQ F (cK az p) cC,(r.trans L<|λ_ l=>.inl l).alloc _⟩
  .have f:C=y c:=by omega
   rw[f,bL]at e;obtain⟨j,aa,r⟩:=dz e i m;have e1:¬(C:U)<(y c:U):=by omega
   clear e i m n f;go_wp2;refine cg (nJ rfl _ _ _) rfl ?_;exact .inl ⟨by rw[af j];rfl,aa,r⟩
structure Aside(w:Z)(K:DK)(db sb k:M):Prop where
 lt:k<z (G w)
 aO:¬K.aO db k
 ne:k≠sb
def Aside.fE(h:Aside a i c g m)(d:gq a f c g i L):Aside f L c g m:=⟨ah h.lt d.ap.size,λe=>(d.aO m e).elim h.aO (λj=>by have:=h.lt;omega),h.ne⟩
def Aside.block{w w':Z}(h:Aside w i c g m)(a:gq w w' c g i L):w'.heap[m]?=w.heap[m]?:=a.ap.block m h.lt<|λd=>d.elim h.aO h.ne
def Aside.cell{w w':Z}{c a k i:M}{e:DK}(j:Aside w L c a k)(h:gq w w' c a L e)(g:aS w (R k i)=H d):aS w' (R k i)=H d:=(da (w:=w)<|j.block h).trans g
def Dt(n:Row a g d m A)(j:gq a f b c i L)(e:∀k,cz d=H k->Aside a i b c k):Row f g d m A:=j.ap.row n<|λk h=>⟨λl=>l.elim (e k h).aO (e k h).ne,(e k h).lt⟩
structure qF(w:Z)(db:M)(fs:Fs)(A:eT)(t:bw):Prop where
 mem:∃bb boff vV,lB w t.tb (aA db) t.num (y<|dw t.cs) (y<|eO<|bI 0 t.cs) (kO<|eO<|bI 0 t.cs) bb boff vV aw t.ks/\A bb
 loc:A t.tb
 ks:t.ks=bI 0 t.cs
 num:t.num<18446744073709551616
 pure:tg t.ks t.cs
 idx:Jb (bI 0 t.cs)
 small:y (dw t.cs)<=100000
 file:dB fs (gu t.num)=H (kS t.cs)
def qF.fE{h:Fs}(j:qF a c F (Aside a i c g) T)(k:gq a f c g i L)(n:dB h (gu T.num)=dB F (gu T.num)):qF f c h (Aside f L c g) T:=by
 obtain⟨m,e,d,o,l⟩:=j.mem;exact⟨⟨m,e,d,o.di (j.loc.block k)<|l.block k,l.fE k⟩,j.loc.fE k,j.ks,j.num,j.pure,j.idx,j.small,n.trans j.file⟩
structure LZ(w:Z)(K:DK)(db sb:M):Prop where
 steps:Steps w
 pow:Pow w
 eL:Aside w K db sb 1
 lf:Aside w K db sb 2
def LZ.fE(h:LZ a i c g)(d:gq a f c g i L):LZ f L c g:=⟨λk e=>h.eL.cell d<|h.steps k e,h.pow.di<|h.lf.block d,h.eL.fE d,h.lf.fE d⟩
structure GI(fs:Fs)(w:Z)(K:DK)(db sb:M)(v:ab)(ts:cN):Prop where
 row:Row w 1 v (y ts) (ts.map bw.ptr)
 loc:∀k,cz v=H k->Aside w K db sb k
 each:∀t∈ts,qF w db fs (Aside w K db sb) t
abbrev Zf(w:Z)(K:DK):=GI (vw K.files) w K
def GI.fE{e:Fs}(l:GI F a i c g d j)(h:gq a f c g i L)(m:∀t∈j,dB e (gu t.num)=dB F (gu t.num)):GI e f L c g d j:=⟨Dt l.row h l.loc,λo n=>(l.loc o n).fE h,λt k=>(l.each t k).fE h<|m t k⟩
def kW(h:∀t∈j,tg t.ks t.cs):y j<=y (bZ j):=by
 induction j with
 |nil=>simp
 |cons t r b=>
  obtain⟨x,a,_⟩:=(h t<|by simp).wU;have c:1<=y t.all:=List.length_pos_of_mem a;have d:=b (λu a=>h u<|by simp[a]);have e:y (bZ<|t::r)=y t.all+y (bZ r):=by simp[bZ]
  grind
structure xw(fs:Fs)(w:Z)(sb:M)(s:SR)(K:DK)(m:cI)(a b c d:cN)(C:M):Prop where
 mem:jU w s.memory m
 vp:∀k,cz s.memory=H k->Aside w K s.aM sb k
 l0:GI fs w K s.aM sb s.l0 a
 l1:GI fs w K s.aM sb s.l1 b
 l2:GI fs w K s.aM sb s.l2 c
 l3:GI fs w K s.aM sb s.l3 d
 aM:cH w s.aM K
 yO:¬K.aO s.aM sb
 lL:LZ w K s.aM sb
 qp:y m+y (bZ a)+y (bZ b)+y (bZ c)+y (bZ d)<=C
 oO:C<=1000000
 mh:dK m
 iH:∀x∈m,x.Good
 s1:jV b
 s2:jV c
 s3:jV d
abbrev ST(w:Z)(a:M)(s:SR)(K:DK):=xw (vw K.files) w a s K
def xw.len{d b f j:cN}(h:xw F a c o i e d b f j g):y e<=2000000:=by have:=h.qp;have:=h.oO;omega
def xw.count{f b j k:cN}(h:xw F a c o i e f b j k g):y f+y b+y j+y k<=2000000:=by
 have:=h.qp;have:=h.oO;have:=kW<|λt d=>(h.l0.each t d).pure;have:=kW h.s1.pure;have:=kW h.s2.pure;have:=kW h.s3.pure;omega
def xw.fE{l b j m:cN}(h:xw F a c o i e l b j m g)(k:c<z (G a))(d:gq a f o.aM c i L):xw F f c o L e l b j m g where
 mem:=Dt h.mem d h.vp
 vp:=λj c=>(h.vp j c).fE d
 l0:=h.l0.fE d<|λ_ _=>rfl
 l1:=h.l1.fE d<|λ_ _=>rfl
 l2:=h.l2.fE d<|λ_ _=>rfl
 l3:=h.l3.fE d<|λ_ _=>rfl
 aM:=d.ok
 yO:=λj=>(d.aO c j).elim h.yO<|λn=>by omega
 lL:=h.lL.fE d
 qp:=h.qp
 oO:=h.oO
 mh:=h.mh
 iH:=h.iH
 s1:=h.s1
 s2:=h.s2
 s3:=h.s3
def ST.fE{k b l m:cN}(n:ST a c o i e k b l m g)(d:c<z (G a))(h:gq a f o.aM c i L)(j:vw L.files=vw i.files):ST f c o L e k b l m g:=by
 rw[ST,j];exact xw.fE n d h
def nU(s:SR)(m:cI)(a b c d:cN):cS (ab×cI):=(.iface 88 s.memory,m)::(((a.map<|λt=>(MF t,t.all)).reverse)++[(EW (s.l1,b),bZ b)]++[(EW (s.l2,c),bZ c)]++[(EW (s.l3,d),bZ d)])
def xJ(s:SR)(m:cI)(a b c d:cN):(nU s m a b c d).map (·.1)=wC s.memory (s.l0,a) (s.l1,b) (s.l2,c) (s.l3,d):=by
 simp[nU,wC,oS,um]
def xw.WY{l b m n:cN}(h:xw F a c o i e l b m n g)(j:cf a c o k):Cy a c 10 [(o.l0,l),(o.l1,b),(o.l2,m),(o.l3,n)]:=by
 refine⟨rfl,λf d=>?_,λf d=>?_,λf d=>?_,?_⟩;(have:f=0\/f=1\/f=2\/f=3:=by grind);rcases this with rfl|rfl|rfl|rfl<;>exact j.cell rfl;(have:f=0\/f=1\/f=2\/f=3:=by grind);rcases this with rfl|rfl|rfl|rfl;exact h.l0.row;exact h.l1.row;exact h.l2.row;exact h.l3.row;(have:f=0\/f=1\/f=2\/f=3:=by grind);rcases this with rfl|rfl|rfl|rfl;exactλk d=>(h.l0.loc k d).lt;exactλk d=>(h.l1.loc k d).lt;exactλk d=>(h.l2.loc k d).lt;exactλk d=>(h.l3.loc k d).lt;have:=h.count;simp[lV];omega
def CA(a:Prop)(K:DK)(c:Fs):Prop:=∀n b,dB c n=H b->∃f,mS K.files n=H f/\(f.bytes=b\/a/\iY f.bytes b)
def CA.refl(a:Prop)(K:DK):CA a K (vw K.files):=λ_ _ h=>by
 obtain⟨f,c,b⟩:=gR h;exact⟨f,c,.inl b⟩
abbrev qB(a:Prop)(b:M)(K:DK):iL:=OL a b K.files K.dM<|K.aO b
def pT(a:M)(K:DK):iL:=qB False a K
def zv(s:CA Q i F)(j:qF a b F (Aside a i b c) T)(f:LZ a i b c):mV (qB Q b i) (z<|G a) T.tb T.ks T.cs a:=by
 obtain⟨r,g,d,v,o⟩:=j.mem;obtain⟨q,u,h⟩:=s _ _ j.file;have e:y q.bytes=y (kS T.cs):=by rcases h with m|m;rw[m];exact m.2.len
 refine mV.OA Q b i.files i.dM (i.aO b) (z<|G a) T.tb T.num j.num _ _ _ r g d aw T.ks T.cs q (eO<|bI 0 T.cs) a v j.pure u e (λl p=>?_) ?_ ⟨j.loc.lt,j.loc.aO⟩ ⟨o.lt,o.aO⟩ f.steps ⟨f.eL.lt,f.eL.aO⟩ f.pow ⟨f.lf.lt,f.lf.aO⟩;have k:=zb T.cs (eO<|bI 0 T.cs) l p;rcases h with m|⟨x,m⟩;rw[m];exact .inl k;have t:iY ((q.bytes.drop<|y<|dw<|T.cs.take l).take<|y (eZ T.cs[l])+4) (gy<|eZ T.cs[l])->ui ((q.bytes.drop<|y<|dw<|T.cs.take l).take<|y (eZ T.cs[l])+4):=λa=>a.broken<|(Eh<|j.pure.iH _<|ak p).append<|jn.le 4 _;rcases m.drop (y<|dw<|T.cs.take l)with n|n;rw[n];exact .inl k;rcases n.take (y (eZ T.cs[l])+4)with n|n;rw[n];exact .inl k;exact .inr ⟨x,t (by rw[<-k];exact n)⟩;rw[e];have w:=kR<|λk a=>(j.idx.can k a).fits;have:=j.small;have:=j.idx.len;unfold kS eO;rw[ag,ag,bU];omega
def Yl(h:qF a b (vw i.files) (Aside a i b c) T)(d:LZ a i b c):mV (qB False b i) (z<|G a) T.tb T.ks T.cs a:=zv (CA.refl _ i) h d
def sL(f:CA Q i F)(h:GI F a i b c d j)(g:LZ a i b c)(l:jV j)(k:y j<=1000000000):rB (qB Q b i) (z<|G a) d j a:=⟨h.row,λn e=>⟨(h.loc n e).lt,(h.loc n e).aO⟩,λt m=>zv f (h.each t m) g,l,k⟩
def Yr(h:Zf a i b c d j)(e:LZ a i b c)(g:jV j)(f:y j<=1000000000):rB (qB False b i) (z<|G a) d j a:=sL (CA.refl _ i) h e g f
def Iy(c:cH a b i)(d:∀k,i.aO b k->k<z (G a)):(qB Q b i).D a:=⟨d,i,c,rfl,rfl,λ_ h=>h⟩
def xw.Qg(h:xw F a b o i e j p r s c):(qB Q o.aM i).D a:=Iy h.aM h.aM.lt
def ST.Qg(h:ST a b o i e j p r s c):(pT o.aM i).D a:=Iy h.aM h.aM.lt
def xw.Xf(d:CA Q i F)(h:xw F a b o i e j p r s c):∀l∈nU o e j p r s,qG (qB Q o.aM i) (z<|G a) l.1 l.2 a:=by
 have hF:∀k,(qB Q o.aM i).F k->k<z (G a):=h.aM.lt;have m:=h.count;intro l f;simp only[nU,bR,aG,qj,bM,gW,oe]at f;rcases f with rfl|((⟨t,g,rfl⟩|rfl)|rfl)|rfl;exact qG.list h.mem h.mh (show y e<=1000000000000 by have:=h.len;omega) (λk a=>⟨(h.vp k a).lt,(h.vp k a).aO⟩)<|ai _;exact qG.table (zv d (h.l0.each t g) h.lL) (ai _) hF;exact qG.wS (sL d h.l1 h.lL h.s1<|by omega) (ai _) hF;exact qG.wS (sL d h.l2 h.lL h.s2<|by omega) (ai _) hF;exact qG.wS (sL d h.l3 h.lL h.s3<|by omega) (ai _) hF
def AQ(h:jV j):∀x∈bZ j,x.Good:=by
 intro x a;unfold bZ at a;obtain⟨l,c,a⟩:=bB.1 a;obtain⟨t,d,rfl⟩:=bM.1 c;obtain⟨e,b,a⟩:=bB.1 a;exact(h.pure t d).iH e b x a
def Si(h:tg T.ks T.cs):∀x∈T.all,x.Good:=by
 intro x a;obtain⟨c,b,a⟩:=bB.1 a;exact h.iH c b x a
def xw.JI(h:xw F a b o i e j p r s c):∀g∈nU o e j p r s,∀x∈g.2,x.Good:=by
 intro g d;simp only[nU,bR,aG,qj,bM,gW,oe]at d;rcases d with rfl|((⟨t,f,rfl⟩|rfl)|rfl)|rfl;exact h.iH;exact Si (h.l0.each t f).pure;exact AQ h.s1;exact AQ h.s2;exact AQ h.s3
def xO(c:cH a o.aM i)(d:¬i.aO o.aM b)(j:U):gq a (cA a (R b 0)<|lU j) o.aM b i i:=(gq.refl c).set d 0 _
def gq.sb(h:gq a B b c i L)(d:¬i.aO b c)(g:c<z (G a)):¬L.aO b c:=λe=>(h.aO c e).elim d<|λj=>by omega
def vG{b sbqq:M}(d:cH a b i)(c:Below (z<|G a) a f):gq a f b sbqq i i:=⟨d.ap (I.aQ (S:=az) c)<|λ_ _=>id,(I.aQ (S:=az) c).mono cC,λ_ e=>.inl e⟩
structure Jf(w:Z)(K:DK)(sb:M)(s:SR)(sn:gv):Prop where
 ex:∃b,s.oo=H b/\kN w b (Vc sn)/\Aside w K s.aM sb b
 len:y sn<=4
def Jf.fE{g:gv}(k:Jf a i c o g)(e:gq a f o.aM c i L):Jf f L c o g:=by
 obtain⟨b,h,j,d⟩:=k.ex;exact⟨⟨b,h,j.di<|d.block e,d.fE e⟩,k.len⟩
def Jf.fields{s s':SR}{c:gv}(h:Jf a i b s c)(g:s'.aM=s.aM/\s'.oo=s.oo):Jf a i b s' c:=by
 obtain⟨j,d,e,f⟩:=h.ex;exact⟨⟨j,g.2.trans d,e,by rw[g.1];exact f⟩,h.len⟩
def OV(w:Z)(t:bw):Prop:=t.num<18446744073709551616/\∃g cut b e f c a d,lB w t.tb g t.num cut b e f c a d t.ks
def OV.ap{w w':Z}{t:bw}(n:OV w t)(j:I az w w'):OV w' t:=by
 obtain⟨m,l,cut,c,h,k,d,a,e,g⟩:=n;exact⟨m,l,cut,c,h,k,d,a,e,g.di (j.block _ (ar g.box) id)<|j.block _ g.lt.2 id⟩
def OV.name{t:bw}(k:OV a t)(n:Pow a):cD aZ 107 #[aA t.tb] a λj w'=>j=aJ (am<|gu t.num)/\Below (z<|G a) a w':=by
 obtain⟨l,i,cut,c,g,h,d,b,e,m⟩:=k;grind[wy]
def Ef:(prog.info? 80).map (λi=>(i.zero,i.size,i.bytes))=H (H<|dD #[],0,0):=by kernel_rfl
def Ox(a b c d:ab)(e f g h:cN):pJ [(a,e),(b,f),(c,g),(d,h)]=(e++f++g++h).map bw.ptr:=by simp[pJ]
def Pj(a b c d:ab)(e f g h:cN):lV [(a,e),(b,f),(c,g),(d,h)]=y (e++f++g++h):=by simp[lV]
def nh(T a:cN):cN:=T.filter<|λt=>!(a.any<|λu=>u.num==t.num)
def Nv{T T':cN}(h:b<y T):nh (T.take<|b+1) T'=nh (T.take b) T'++(if T'.any (λu=>u.num==T[b].num)then []else [T[b]]):=by
 unfold nh;rw[aj h,mw];cases hc:T'.any (λu=>u.num==T[b].num)<;>simp[hc]
def UF{T':cN}(t:bw):T'.any (λu=>u.num==t.num)=ci↔∃u∈T',am (gu t.num)=am (gu u.num):=by
 rw[nM];constructor;grind
 rintro⟨u,a,e⟩;refine⟨u,a,?_⟩;(have:gu t.num=gu u.num:=by simpa using e);rw[uw this];grind
def ph(s:SR)(T a:cN):cS ae:=(if s.fa then [fD s.log]else [])++(nh T a).map (λt=>gu t.num)
def Ho(fu cn K fz t v w x:cN){v3:ab}(h:cf a b o k)(hl:Cy a b 10 [(o.l0,fu),(o.l1,cn),(o.l2,K),(o.l3,fz)])(r0:Row a 1 d (y t) (t.map bw.ptr))(r1:Row a 1 u (y v) (v.map bw.ptr))(r2:Row a 1 P (y w) (w.map bw.ptr))(r3:Row a 1 v3 (y x) (x.map bw.ptr))(k0:∀k,cz d=H k->k<z (G a))(k1:∀k,cz u=H k->k<z (G a))(k2:∀k,cz P=H k->k<z (G a))(k3:∀k,cz v3=H k->k<z (G a))(hT:∀F∈fu++cn++K++fz,OV a F)(ca:∀F∈t++v++w++x,OV a F)(hp:Pow a)(gc:o.log<18446744073709551616)(gg:y (fu++cn++K++fz)<=10000000)(gi:y (t++v++w++x)<=10000000):cD aZ 177 #[aA b,dD #[d,u,P,v3]] a λea w'=>∃v',ea=aJ v'/\w'.ownsRow (z<|G a) 9 1 v' (y<|ph o (fu++cn++K++fz)<|t++v++w++x) (strs<|ph o (fu++cn++K++fz)<|t++v++w++x)/\I az a w':=by
 have hj:=@qQ aZ;have gE:∀(eA:Bool)(a:Z),(Op.unary .not<|aK eA).run aZ a=.ok (aK<|!eA) a:=λ_ _=>rfl;obtain⟨i0,eg,es,et,eu⟩:=cU Eg;obtain⟨i1,gb,gt,hm,hn⟩:=cU Ef;obtain⟨x0,c0,rfl⟩:=bN r0;obtain⟨x1,c1,rfl⟩:=bN r1;obtain⟨x2,c2,rfl⟩:=bN r2;obtain⟨x3,c3,rfl⟩:=bN r3;have ge:=ar h;have ei:Cy (cG a<|ay #[J x0 (y t) c0,J x1 (y v) c1,J x2 (y w) c2,J x3 (y x) c3] 93) (z<|G a) 0 [(J x0 (y t) c0,t),(J x1 (y v) c1,v),(J x2 (y w) c2,w),(J x3 (y x) c3,x)]:=by have aV:I az a (cG a<|ay #[J x0 (y t) c0,J x1 (y v) c1,J x2 (y w) c2,J x3 (y x) c3] 93):=(cK _ _);have bv:(cG a<|ay #[J x0 (y t) c0,J x1 (y v) c1,J x2 (y w) c2,J x3 (y x) c3] 93).heap[z<|G a]?=H (ay #[J x0 (y t) c0,J x1 (y v) c1,J x2 (y w) c2,J x3 (y x) c3] 93 (0,0)):=aH _ rfl;refine⟨rfl,λaD hi=>?_,λaD hi=>?_,λaD hi=>?_,by rw[Pj];omega⟩;(have:aD=0\/aD=1\/aD=2\/aD=3:=by grind);rcases this with rfl|rfl|rfl|rfl<;>(rw[bV bv];rfl);(have:aD=0\/aD=1\/aD=2\/aD=3:=by grind);rcases this with rfl|rfl|rfl|rfl;exact aV.row r0<|λk g=>⟨id,k0 k g⟩;exact aV.row r1<|λk g=>⟨id,k1 k g⟩;exact aV.row r2<|λk g=>⟨id,k2 k g⟩;exact aV.row r3<|λk g=>⟨id,k3 k g⟩;grind
 obtain⟨T,cb⟩:∃T,fu++cn++K++fz=T:=⟨_,rfl⟩;obtain⟨e,W⟩:∃e,t++v++w++x=e:=⟨_,rfl⟩;have bo:∀bE,I az a bE->cD aZ 106 #[dF<|H<|R b 10] bE λea w'=>∃v',ea=aJ v'/\w'.ownsRow (z<|G bE) 189 1 v' (y T) (T.map bw.ptr)/\I az bE w':=λbE n=>by have:=rQ (w:=bE) (lb:=b) (lo:=10) _<|hl.ap n id<|λ_ _ _ _ K=>K;rw[Ox,Pj,cb]at this;exact this
 have ac:∀bE,I az (cG a<|ay #[J x0 (y t) c0,J x1 (y v) c1,J x2 (y w) c2,J x3 (y x) c3] 93) bE->cD aZ 106 #[aA<|z<|G a] bE λea w'=>∃v',ea=aJ v'/\w'.ownsRow (z<|G bE) 189 1 v' (y e) (e.map bw.ptr)/\I az bE w':=λbE n=>by have:=rQ (w:=bE) (lb:=z<|G a) (lo:=0) _<|ei.ap n id<|λ_ _ _ _ K=>K;rw[Ox,Pj,W]at this;exact this
 rw[cb]at hT gg|-;rw[W]at ca gi|-;have cx:=Y hT;have bt:=Y ca;obtain⟨HB,HP,fb⟩:=dz h hp bo;have bh:=Y ac;clear hT ca h hl r0 r1 r2 r3 k0 k1 k2 k3 ei cb W hp bo ac fu cn K fz;obtain⟨WB,ec⟩:∃WB,cG a (ay #[J x0 (y t) c0,J x1 (y v) c1,J x2 (y w) c2,J x3 (y x) c3] 93)=WB:=⟨_,rfl⟩;have bb:I az a WB:=by rw[<-ec];exact(cK _ _)
 have bT:=bb.block b ge id|>.trans HB;have fv:=cf.cellAt bT 18 rfl;have hd:=cf.cellAt bT 17 rfl;have en:Pow WB:=HP.ap bb id;have bn:=tE o.log gc en;have bx:=Y bb;rw[ec]at bh;clear bb bT en;have cv:=Y bn;clear bn;obtain⟨lg,bm⟩:∃lg,o.fa=lg:=⟨_,rfl⟩;have cu:=Y (show ph o T e=(if lg then [fD o.log]else [])++(nh T e).map (λF=>gu F.num)by rw[<-bm];rfl);rw[bm]at fv;generalize o.log=ev at*;go_in
 cases lg;(case' false=>(go_wp2_with fail);generalize aV:WB=W5;have aU:=Y (show I az WB W5 by rw[<-aV];exact I.refl _ _);obtain⟨v5,m⟩:∃v5,v5=J none 0 0:=⟨_,rfl⟩;obtain⟨c,f⟩:∃c:cS ae,c=[]:=⟨_,rfl⟩;have p:=Y (show W5.ownsRow (z<|G a) 9 1 v5 (y c) (strs c)by rw[m,f];exact cO _ _ _ _);have bg:=Y (show ph o T e=c++(nh T e).map (λF=>gu F.num)by rw[f];exact cu);(have gf:y c<=1:=by rw[f];simp);have ds:=Y m;clear aV m f);(case' true=>(go_wp2_with fail);apply cv.mono;rintro ea w2⟨rfl,ed⟩;have bv:=Y<|I.aQ (S:=az) ed;clear ed;(go_wp2_with(at_builtin;refine ct _ rfl (.tmp 17) (.tmp 23) 29 rfl (z<|G a) 9 i0 (am ⟨#[]⟩) 1 16 underlying29 eg es et eu rfl (by decide) aw 0 [] rfl (cO _ _ _ _) (R (z<|G w2) 0) 1 1 [am<|fD ev] rfl rfl (qD _ _ _) (by simp[Value.oneCell']) (by omega) (by omega) (by have:=bx.size;have:=bv.size;simp;omega) ?_;intro v3 W5 ch er;obtain⟨x5,c5,m⟩:=aC ch;subst m;have p:=Y ch;have dx:=Y er;clear ch er));have aU:=Y<|show I az WB W5 from((bv.alloc _).bW<|I.dW (S:=az) dx.grown<|λk g=>by cases g);obtain⟨v5,m⟩:∃v5,v5=J x5 1 c5:=⟨_,rfl⟩;obtain⟨c,f⟩:∃c:cS ae,c=[fD ev]:=⟨_,rfl⟩;have aV:=af p;clear p;have p:=Y (show W5.ownsRow (z<|G a) 9 1 v5 (y c) (strs c)by rw[m,f];exact aV);have bg:=Y (show ph o T e=c++(nh T e).map (λF=>gu F.num)by rw[f];exact cu);(have gf:y c<=1:=by rw[f];simp);have ds:=Y m;clear dx bv m f aV)
 all_goals
  have gj:=aU.size;have hk:=bx.size;apply(bh (cG W5<|.map #[] 0)<|aU.alloc _).mono;rintro ea w6⟨v6,rfl,cj,ba⟩;obtain⟨x6,c6,gk⟩:=aC cj;subst gk;obtain⟨dm,fl,cT,dc⟩:=fX ((kZ.new W5 .string).di<|ba.block _ (by simp) id) (bx.bW<|(aU.alloc<|.map #[] 0).trans ba cC) ((((I.refl az W5).alloc<|.map #[] 0).bW ba).own p<|λ_ _ K=>K) cj;clear cj ba;obtain⟨C,ej⟩:∃C,z (G W5)=C:=⟨_,rfl⟩;rw[ej]at dm;have gx:z (G a)<=C:=by omega
  have fd:=Y (show C<z (G<|cG W5<|.map #[] 0)by rw[<-ej];simp);clear gj;go_wp2_with fail
  go_loopw [28] (λaD wr=>∃bf:M,bf<=y e/\aD=aq bf/\kZ wr C .string (λeA=>∃F∈e.take bf,eA=am (gu F.num))/\I (λk=>k=C) w6 wr) (λaD _=>y e-(intOf aD).toNat)
  case atStart=>exact⟨0,bG _,rfl,dm.congr (by simp),I.refl _ _⟩
  case round=>
   obtain⟨bf,hv,rfl,i,N⟩:=hrel;have bc:I az a wr:=fl.trans N (λk g=>.inr<|by omega);by_cases D:bf<y e
   .have B:=N.own dc (λk g K=>by have:=(dc.lt k g).1;have:=af fd;omega);obtain⟨b6,gr,cd⟩:∃b6,x6=H (R b6 0)/\aS wr (R b6 bf)=H e[bf].ptr:=by
     rcases B.2 with⟨h2,h0⟩|⟨he,fw,fx,h2,_⟩
     .omega
     .cases h2;refine⟨he,rfl,?_⟩;have:=oW B bf e[bf].ptr (by rw[fc,aN D];rfl);rwa[dt,dr]at this
    subst gr;have ad:=(bt e[bf]<|ak D).ap bc|>.name (HP.ap bc id);have aF:=Y (show∀eA,(∃F∈e.take (bf+1),eA=am (gu F.num))↔(∃F∈e.take bf,eA=am (gu F.num))\/eA=am (gu e[bf].num)fromλeA=>by
     rw[aj D];grind)
    have E:=i.lt;have O:=Y i;have fs:=Y N;have e1:(bf:U)<(y e:U):=by omega
    clear i N bc B;unfold bw.ptr at cd;generalize gu e[bf].num=s at*;generalize e[bf].tb=ex at*;go_wp2_with fail
    apply ad.mono;rintro ea w7⟨rfl,cc⟩;have ff:=Y<|O.di<|cc.block C E;have fn:=Y<|fs.bW<|I.aQ (S:=az) cc;clear cc ad;go_wp2_with(at_mapUpdate;refine tX _ rfl _ _ _ 208 rfl 9 80 underlying208 .string underlying9 C _ rfl ff (am s) trivial rfl rfl ?_;intro w8 eo ef;have fg:=Y eo;have eB:=Y ef;clear eo ef)
    go_roundw;case rel=>exact⟨bf+1,D,by go_num,fg.congr aF,fn.trans (fj eB)<|λ_ K=>.inl K⟩
    case measure=>simp[intOf];omega
   .have al:bf=y e:=by omega
    rw[al,bL]at i;have e1:¬(bf:U)<(y e:U):=by omega
    have E:=i.lt;obtain⟨O,dn,bi⟩:=dz i bc<|N.own cT (λk g K=>by have:=(p.lt k g).2;omega);clear i N al;go_wp2_with fail
    apply(fb wr dn).mono;rintro ea w9⟨v9,rfl,ck,ax⟩;obtain⟨x9,c9,gn⟩:=aC ck;subst gn;obtain⟨fk,dk,db,fr,bs,fe⟩:=kY (O.di<|ax.block C E id) ck (ax.own bi<|λ_ _ K=>K) (dn.bW ax) (show∀k,cz v5=H k->z (G a)<=k/\k<z (G wr)/\k≠C fromλk g=>⟨(p.lt k g).1,(bi.lt k g).2,by have:=(p.lt k g).2;omega⟩)<|show C<z (G wr)/\z (G wr)<=z (G w9)from⟨E,ax.size⟩;clear ck ax;go_wp2_with fail
    go_loopw [5,42] (λo aD b=>∃L:M,L<=y T/\aD=aq L/\b.ownsRow (z<|G a) 9 1 o (y<|c++(nh (T.take L) e).map (λF=>gu F.num)) (strs<|c++(nh (T.take L) e).map (λF=>gu F.num))/\eC w9 b v5 o) (λ_ aD _=>y T-(intOf aD).toNat)
    case atStart=>
     refine⟨0,bG _,rfl,?_,?_⟩
     .rw[<-af ds];have:c++(nh (T.take 0) e).map (λF=>gu F.num)=c:=by simp[nh]
      rw[this];exact db
     grind[af,eC.refl]
    case round=>
     obtain⟨L,hu,rfl,ho,bd⟩:=hrel;obtain⟨ox,oc,el⟩:=aC ho;have r:I (λk=>cz v5=H k) w9 wr:=I.dW bd.grown<|λk g=>.inl g;have j:I az a wr:=fr.trans r<|λk g=>.inr (bs k g).1;have l:=fk.di<|r.block C (by have:=af fe;omega)<|λK=>(bs C K).2.2 rfl;have cl:∀k,cz u5=H k->k≠C:=λk g K=>by
      grind[eC.uj,af]
     by_cases q:L<y T
     .have B:=r.own dk (λk g K=>by have:=(dk.lt k g).1;have:=(bs k K).2.1;omega);obtain⟨b9,gs,cd⟩:∃b9,x9=H (R b9 0)/\aS wr (R b9 L)=H T[L].ptr:=by
       rcases B.2 with⟨h2,h0⟩|⟨he,fw,fx,h2,_⟩
       .omega
       .cases h2;refine⟨he,rfl,?_⟩;have:=oW B L T[L].ptr (by rw[fc,aN q];rfl);rwa[dt,dr]at this
      subst gs;have ao:=HP.ap j id;have A:=(cx T[L]<|ak q).ap j;have ad:=A.name ao;have bp:=λbE(n:I az wr bE)=>(A.ap n).name<|ao.ap n id;have aF:=Y<|Nv (T':=e) q;have X:=UF (T':=e) T[L];have e1:(L:U)<(y T:U):=by omega
      have ce:=l.lt;have hg:y (c++(nh (T.take L) e).map (λF=>gu F.num))<=20000000:=by
       have:y (nh (T.take L) e)<=y (T.take L):=fP _ _;rw[dj]at this;rw[ag,df];omega
      obtain⟨bu,HO,dT,V,hb,cw⟩:=kY l ho bd j cl bp;clear l ho bd j cl B r bp A ao;unfold bw.ptr at cd;have cs:=Y (show∀cn,e.any (λb=>b.num==T[L].num)=cn->(c++(nh (T.take<|L+1) e).map (λF=>gu F.num))=(c++(nh (T.take L) e).map (λF=>gu F.num))++(if cn then []else [gu T[L].num])fromλcn hf=>by
       rw[af aF,hf,aR,bz];cases cn<;>rfl)
      clear aF;obtain⟨ha,hr⟩:∃ha,e.any (λb=>b.num==T[L].num)=ha:=⟨_,rfl⟩;have eb:=cs ha hr;rw[hr]at X;have cp:=Y eb;clear eb hr cs;generalize fL:c++(nh (T.take L) e).map (λF=>gu F.num)=Lm at*;clear fL;have co:=Y X;clear X;generalize ek:gu T[L].num=s at*;clear ek;generalize T[L].tb=ex at*;subst el;go_wp2_with fail
      apply ad.mono;rintro ea ey⟨rfl,aa⟩;have au:I az wr ey:=I.aQ aa;have bq:=bu.di<|aa.block C ce;have hh:=AS underlying208 underlying9 gb gt bq (am s) trivial ha co;have cB:=Y<|au.own HO<|λ_ _ K=>K;have Q:=Y au;clear bq au aa ad;cases ha with
      |true=>
       go_wp2;go_roundw;case rel=>
        refine⟨L+1,q,by go_num,?_,?_⟩
        .rw[af cp];simp only[lk,dO];exact aX cB _
        .have n:=(Q.alloc<|ay #[] 80);refine dT.trans ⟨⟨n.os,n.tape,n.output,n.size,λaD hi _=>n.block aD hi id⟩,.inl rfl⟩
       case measure=>simp[intOf];omega
      |false=>
       go_wp2_with fail
       apply(cw (cG ey<|ay #[] 80)<|Q.alloc _).mono;rintro ea cm⟨rfl,bl⟩;have av:I az wr cm:=(Q.alloc<|ay #[] 80).bW<|I.aQ (S:=az) bl;have cE:=Y<|av.own HO<|λ_ _ K=>K;have bk:=Y av;clear av bl;go_wp2_with(at_builtin;refine ct _ rfl (.tmp 55) (.tmp 58) 29 rfl (z<|G a) 9 i0 (am ⟨#[]⟩) 1 16 underlying29 eg es et eu rfl (by decide) (J ox (y Lm) oc) (y Lm) (strs Lm) rfl (aX cE<|ay #[am s] 9) (R (z<|G cm) 0) 1 1 [am s] rfl rfl (qD _ _ _) (by simp[Value.oneCell']) (by omega) (by omega) (by have:=V.size;have:=bk.size;simp;omega) ?_;intro hq hs an br;obtain⟨ht,hc,eq⟩:=aC an;subst eq;have cM:=Y an;have dv:=Y br;clear an br)
       go_roundw;case rel=>
        refine⟨L+1,q,by go_num,?_,?_⟩
        .rw[af cp];simp only[sq,nj];rw[FD,ag];exact cM
        .have n:=af bk;have h1:eC wr cm (J ox (y Lm) oc) (J ox (y Lm) oc):=⟨⟨n.os,n.tape,n.output,n.size,λaD hi _=>n.block aD hi id⟩,.inl rfl⟩;exact dT.trans<|h1.trans<|eC.alloc _ dv
       case measure=>simp[intOf];omega
     .have al:L=y T:=by omega
      rw[al,bL,<-af bg]at ho;have e1:¬(L:U)<(y T:U):=by omega
      obtain⟨oy,od,em⟩:=aC ho;have HO:=Y ho;have V:=Y j;clear ho bd j r l cl al el;subst em;go_wp2;go_ret;exact⟨_,rfl,HO,V⟩
section
open Conc.Locks
def GH(d:Fs)(w c:Z)(a:M)(s:SR)(K:DK)(m:cI)(e f g h:cN)(C:M):Prop:=∃b,gq w c s.aM a K b/\b.files=K.files/\b.dM=K.dM/\(∀k,b.aO s.aM k->K.aO s.aM k)/\cf c a s 0/\xw d c a s b m e f g h C
def LP(w c:Z)(a:M)(s:SR)(K:DK)(m:cI)(d e f g:cN)(C:M):Prop:=∃b,gq w c s.aM a K b/\b.files=K.files/\b.dM=K.dM/\(∀k,b.aO s.aM k->K.aO s.aM k)/\cf c a s 0/\ST c a s b m d e f g C
def GH.Wj(q:GH (vw i.files) a f b o i e j p r s c):LP a f b o i e j p r s c:=by
 obtain⟨g,h,d,k,l,m,n⟩:=q;refine⟨g,h,d,k,l,m,?_⟩;rw[ST,d];exact n
def SD{sbqq:M}(h:gq a f o.aM sbqq i i)(c:(qB Q o.aM i).D B)(m:I (qB Q o.aM i).F f B):∃b,gq a B o.aM sbqq i b/\b.files=i.files/\b.dM=i.dM/\(∀k,b.aO o.aM k->i.aO o.aM k):=by
 obtain⟨l,b,j,e,g,d⟩:=c;exact⟨b,h.trans ⟨j,m.mono<|λk c=>.inl<|.inl c,λk c=>.inl<|d k c⟩,e,g,d⟩
def Nu(a:ae)(c:U)(b:cS (ab×cI)):ab:=if 1<=a.size/\a.size<=8 then VB (vO c a b)else .tuple #[am ⟨#[]⟩,aK bj,pO 3]
def QY(d:ae)(g:U)(v:CA Q i F)(t:cf a b o k)(f:xw F a b o i e j p r s c)(C:d.size<=140737488351232):cD aZ 40 #[aA b,am d,aE g] a (λu l=>(u=aJ (Nu d g<|nU o e j p r s)/\(qB Q o.aM i).D l/\I (qB Q o.aM i).F a l)\/RX (qB Q o.aM i) a l (qB Q o.aM i).F u gE)/\∃x n q,Nu d g (nU o e j p r s)=dd #[x,n,q]:=by
 obtain⟨E,D,m⟩:=bN f.mem;unfold Nu;by_cases h:1<=d.size/\d.size<=8
 .rw[dV h];refine⟨TY (z<|G a) (o.l0,j) (o.l1,p) (o.l2,r) (o.l3,s) (nU o e j p r s) d g t E (y e) D m (f.WY t) (xJ o e j p r s) (λL w=>f.Xf v _<|ak w) f.Qg (ai _) f.aM.lt h (λK A x B=>by have:=(f.JI K A x B).val;omega),?_⟩;cases vO g d (nU o e j p r s)with
  |none=>exact⟨_,_,_,rfl⟩
  |some x=>exact⟨_,_,_,rfl⟩
 rw[eI h];refine⟨(TX a b d g h C).mono ?_,_,_,_,rfl⟩;rintro u l⟨rfl,rfl⟩;exact .inl ⟨rfl,f.Qg,I.refl _ _⟩
def cf.sep{b q:M}(h:cf a b o k):∀j,j=b->j=q->∃d t r,a.heap[j]?=H (ay d t r)/\t≠204:=λj c _=>c▸⟨_,_,_,h,by decide⟩
def JT{Xqq:Prop}{B v W2:Z}(L:cf v b o 1)(x:xw F B b o i e j p r s c)(h:b<z (G B))(k:gq B v o.aM b i i)(A:Below (z<|G v) v W2):cf W2 b o 1/\xw F W2 b o i e j p r s c/\∀a,(qB Xqq o.aM i).D a->I (qB Xqq o.aM i).F W2 a->aS a (R b 0)=H (lU 1)/\a.frozen? (R b 0)=bj/\GH F B (cA a (R b 0)<|lU 0) b o i e j p r s c/\∀q,vL a q->vL (cA a (R b 0)<|lU 0) q:=by
 have f:=k.trans<|vG (sbqq:=b) k.ok A;have n:=x.fE h f;have g:cf W2 b o 1:=L.ap (I.aQ (S:=az) A) id;refine⟨g,n,λa w u=>?_⟩;have d:cf a b o 1:=(u.block b (ar g) n.yO).trans g;obtain⟨C,l,D,E,K⟩:=SD f w u;have t:=l.sb x.yO h;have m:=l.set t 0<|lU 0;exact⟨d.cell rfl,d.free,⟨C,m,D,E,K,d.lN 0,x.fE h m⟩,λq f=>f.ap (iV b a) d.sep⟩
def zA{w c W2:Z}(e:cf c b o 1)(f:I (λk=>k=b) w c)(d:Below (z<|G c) c W2):aS W2 (R b 0)=H (lU 1)/\W2.frozen? (R b 0)=bj/\cf (cA W2 (R b 0)<|lU 0) b o 0/\I (λk=>k=b) w (cA W2 (R b 0)<|lU 0):=by
 have a:cf W2 b o 1:=e.ap (I.aQ (S:=az) d) id;exact⟨a.cell rfl,a.free,a.lN 0,(f.trans (I.aQ (S:=λk=>k=b) d)<|λ_ e=>.inl e).setCell b 0 _<|.inl rfl⟩
def Iw:pO 6=.iface 44 (aq 6):=rfl
def YU:pO 5=.iface 44 (aq 5):=rfl
def Xd(k:ae)(h:cf a b o 0)(m:o.closed=ci):cD aZ 17 #[aA b,am k] a λn l=>n=aJ (dd #[am ⟨#[]⟩,aK bj,pO 6])/\cf l b o 0/\I (λv=>v=b) a l:=by
 have q:=cf.cellAt h 0 rfl;have s:a.frozen? (R b 0)=bj:=h.free;have j:=h.lN 1;have c:=mi j;rw[m]at c;simp only[lk]at c;have p:=Y<|λg i=>zA (W2:=g) j (iV b a) i;clear h j m;rw[Iw]at c|-;go_enter_defers func17,ntmps17
 go_wp2_with fail
 apply(lock_free (R b 0) _ q s).mono;rintro n l⟨rfl,rfl⟩;go_wp2_with fail
 apply c.mono;rintro n g⟨rfl,i⟩;obtain⟨r,t,d⟩:=p g i;have e:=Y d;clear d i c;go_wp2;refine jp (f:=34) (args:=#[aA b]) (by simp) (by simp[go_sem]) ?_;apply(unlock_deferred (R b 0) .returning _ r t).mono;rintro n w u⟨rfl,rfl,rfl⟩;exact⟨_,nJ rfl _ _ _,rfl,e⟩
def Gm(m:ae)(hX:CA Q i F)(h:cf a b o 0)(O:xw F a b o i e j p r s c)(hc:o.closed=bj)(hz:m.size<=140737488351232):cD aZ 17 #[aA b,am m] a λK A=>(K=aJ (Nu m o.aT<|nU o e j p r s)\/Q/\∃q,K=aJ (gE<|ot q)/\vL A q)/\GH F a A b o i e j p r s c:=by
 have V:=ar h;have c0:=cf.cellAt h 0 rfl;have f0:a.frozen? (R b 0)=bj:=h.free;have v:=xO O.aM O.yO 1;have L:=h.lN 1;generalize hW:cA a (R b 0) (lU 1)=C at v L;have w:=mi L;rw[hc]at w;have t:cD aZ 35 #[aA b] C λK A=>K=aJ .nilIface/\Below (z<|G C) C A:=w;have HX:=Y<|λD(N:Below (z<|G C) C D)=>JT (Xqq:=Q) (W2:=D) L O V v N;have HW:=Y hW;have S:=Y hX;clear h O v L hc hW w hX;go_enter_defers func17,ntmps17
 go_wp2_with fail
 apply(lock_free (R b 0) _ c0 f0).mono;rintro K A⟨rfl,W⟩;rw[af HW]at W;subst A;go_wp2_with fail
 apply t.mono;rintro K D⟨rfl,N⟩;obtain⟨u,E,n⟩:=HX D N;obtain⟨k,rx,ry,rz,x⟩:=QY m o.aT S u E hz;have c9:=cf.cellAt u 9 rfl;rw[x]at k;have T:=Y x;have B:=Y n;clear u E n N t x;go_wp2_with fail
 apply k.mono;rintro K w2(⟨rfl,g,l⟩|⟨hx,q,rfl,hq,g,l⟩);(all_goals obtain⟨d0,g0,hF,d⟩:=B w2 g l);(.have P:=Y hF;clear g l hF k d;go_wp2;refine jp (f:=34) (args:=#[aA b]) (by simp) (by simp[go_sem]) ?_;apply(unlock_deferred (R b 0) .returning _ d0 g0).mono;rintro K u' X⟨rfl,rfl,rfl⟩;exact⟨_,nJ rfl _ _ _,.inl (by rw[af T];rfl),P⟩);have P:=Y hF;have HQ:=Y<|d q hq;clear g l hF k d hq;go_wp2;refine jp (f:=34) (args:=#[aA b]) (by simp) (by simp[go_sem]) ?_;apply(unlock_deferred (R b 0) .returning _ d0 g0).mono;rintro K u' X⟨rfl,rfl,rfl⟩;exact⟨_,nJ rfl _ _ _,.inr ⟨hx,q,rfl,HQ⟩,P⟩
def TO(d:ae)(q:cf a b o 0)(l:ST a b o i e j p r s c)(k:o.closed=bj)(m:d.size<=140737488351232):cD aZ 17 #[aA b,am d] a λn g=>n=aJ (Nu d o.aT<|nU o e j p r s)/\LP a g b o i e j p r s c:=by
 refine(Gm d (CA.refl False i) q l k m).mono ?_;rintro n g⟨f|f,h⟩;exact⟨f,h.Wj⟩;exact f.1.elim
end
def RJ(a:U)(b:ae)(c:dJ):cI:=mT ⟨#[]⟩<|(cL<|c.map<|fO b).filter<|λe=>decide<|e.bJ<=a
def VQ(c:U)(i:ae)(b:dJ):∀x∈RJ c i b,x∈b.flatten:=by
 intro x h;have d:=(yZ _ _).subset h;have e:=(eH _).mem_iff.1 (dY.1 d).1;obtain⟨l,f,a⟩:=bB.1 e;obtain⟨r,g,rfl⟩:=bM.1 f;exact bB.2 ⟨r,g,(dY.1 a).1⟩
def VR(c:U)(b:ae)(a:dJ):y (RJ c b a)<=y a.flatten:=by
 have d:=(yZ ((cL<|a.map<|fO b).filter<|λe=>decide<|e.bJ<=c) ⟨#[]⟩).length_le;have f:=fP (λe:E=>decide<|e.bJ<=c)<|cL<|a.map<|fO b;have g:=(eH<|a.map<|fO b).length_eq;have h:=TQ b a;unfold RJ;omega
def TR(v:ab)(w:Z):(Go.method 526 88 v "From").run aZ w=.ok (296,v) w:=by kernel_rfl
def lI.list(r:jU a d e)(n:dK e)(h:∀x∈e,x.bJ<18446744073709551616)(m:y e<=1000000000000)(i:∀j,cz d=H j->j<b/\¬t.F j)(g:b<=z (G a))(hF:∀o,t.F o->o<b):lI t b (.iface 88 d) e a:=by
 refine⟨_,d,_,d,rfl,TR d,enters_of func296 (by kernel_rfl) rfl,λp v c k=>?_⟩;apply(Ej t b p (r.same c i) n h m (λj f=>⟨(i j f).2,ah (ah (i j f).1 g) c.1⟩) (aB g c.1) hF).mono;rintro A w⟨q,S,rfl,l,f,s⟩;refine⟨q,S,rfl,l,t.eQ k (I.aQ (S:=az) f) cC,I.aQ f,λo u=>?_⟩;grind
def xw.Is(d:CA Q i F)(h:xw F a b o i e j p r s c):∀l∈nU o e j p r s,lI (qB Q o.aM i) (z<|G a) l.1 l.2 a:=by
 have hF:∀k,(qB Q o.aM i).F k->k<z (G a):=h.aM.lt;have m:=h.count;intro l f;simp only[nU,bR,aG,qj,bM,gW,oe]at f;rcases f with rfl|((⟨t,g,rfl⟩|rfl)|rfl)|rfl;exact lI.list h.mem h.mh (λx d=>(h.iH x d).b1) (show y e<=1000000000000 by have:=h.len;omega) (λk a=>⟨(h.vp k a).lt,(h.vp k a).aO⟩) (ai _) hF;exact lI.table (zv d (h.l0.each t g) h.lL) (ai _) hF;exact lI.wS (sL d h.l1 h.lL h.s1<|by omega) (ai _) hF;exact lI.wS (sL d h.l2 h.lL h.s2<|by omega) (ai _) hF;exact lI.wS (sL d h.l3 h.lL h.s3<|by omega) (ai _) hF
def ST.Is(h:ST a b o i e j p r s c):∀d∈nU o e j p r s,lI (pT o.aM i) (z<|G a) d.1 d.2 a:=xw.Is (CA.refl _ i) h
