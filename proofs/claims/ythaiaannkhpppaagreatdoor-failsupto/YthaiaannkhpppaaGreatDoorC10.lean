import Derived.Test.YthaiaannkhpppaaGreatDoorC7
open _root_ renaming List.length→y,Option.some→H,Array.size→z,Go.World.heap→G,Go.Value.ownBlock→cK,Go.World.cell?→aW,Go.World.setCell→cq,Go.World.alloc→cN,Bool.false→aX,Bool.true→ci,Nat→M,Int→X,List→cJ,Go.Calls→cY,Go.undef→iH,Go.Proofs.Tryz.prog→aZ,Go.Value.slice→I,Go.Value.string→am,Go.Value.bool→aN,Go.Value.pointer→cX,Go.Value.tuple→dq,Go.Value.agg→dC
namespace Go.Proofs.YthaiaannkhpppaaGreatDoor
open ChangeShapes WideShapes RowKit Proofs.Tryz List
set_option maxHeartbeats 16000000
set_option linter.all false
set_option maxRecDepth 100000
variable{a f A:Y}{b c g m:M}{d s L:ab}{e:cR}{i x:DK}{j:cW}{k:X}{l:dS}{n:eR}{o:SR}{r:iV}{t:ae}{w:E}{B:gW}{F:Fs}{O:bz}
def Dm.aj{w w':Y}{d:cJ (ab×cW)}{S:eV}(h:Dm w c g d)(j:Z S w w')(l:¬S c)(m:∀i(a:i<y d),∀k,cK d[i].1=H k->¬S k):Dm w' c g d:=⟨h.len,λi a=>j.cell (h.cell i a) l h.lt,λi a=>j.row (h.row i a)<|λk e=>⟨m i a k e,h.pa i a k e⟩,λi a k e=>ag (h.pa i a k e) j.size,h.small⟩
def pz{e:Addr}(n:a.ownsRow b c 1 (I (H e) g m) g B):∀k u,B[k]?=H u->aW a (e.add k)=H u:=by
 intro k u i;obtain⟨o,⟨d,_⟩|⟨t,l,f,d,p,h,r,q,s,j⟩⟩:=n;cases d;cases d;rw[dB,cg h,dE];rw[<-j,oS]at i;grind
def xQ(a:ab)(b c d e:ab×cW):gW:=.iface 87 a::pt b c d e
def Ei(r s t u:ab×cW)(h:cS a c o k)(g:Option Addr)(f e:M)(N:o.memory=I g f e)(hl:Dm a c 10 [r,s,t,u]):cY aZ 74 #[aA c] a λaF w'=>∃v',aF=aM v'/\w'.ownsRow (z<|G a) 169 1 v' (y (pt r s t u)+1) (xQ o.memory r s t u)/\Z ay a w':=by
 obtain⟨i0,aa,al,an,ao⟩:=di Ju;have A:=cS.cellAt h 7 rfl;have p:=ak h;have n:=U<|λW(Q:Z ay a W)=>OD (w:=W) (lb:=c) (lo:=10) r s t u<|hl.aj Q id<|λ_ _ _ _=>id;have L:y (pt r s t u)<=100000003/\1<=y (pt r s t u):=by have:=hl.small;simp[pt,lO]at this|-;omega
 have O:∀m∈pt r s t u,m.oneCell'=ci:=by intro m d;simp only[pt,aG,qG,bR,dp]at d;rcases d with((⟨q,_,rfl⟩|rfl)|rfl)|rfl<;>rfl
 obtain⟨ap,hn⟩:∃ap,y (pt r s t u)=ap:=⟨_,rfl⟩;rw[hn]at L;unfold xQ;rw[N]at A|-;generalize aU:pt r s t u=VS at*;clear h hl N;go_in
 go_wp2_with fail
 rename_i QQ KK F;refine dR (λx=>aW x (R c 7)=H (I g f e)) 11 (by kernel_rfl) ?_;have D:aW a.drew (R c 7)=H (I g f e):=A;refine fh 0 ?_;iterate 5 (refine iz (v:=?_) D rfl (by kernel_rfl) lk rfl ?_ ?_;rotate_left;(focus(intro x hX;go_simp;try rfl));simp only[Act.put,dW,Nat.reduceAdd])
 apply ii;refine fh 6 ?_;iterate 3 (refine iz (v:=?_) D rfl (by kernel_rfl) lk rfl ?_ ?_;rotate_left;(focus(intro x hX;go_simp;try rfl));simp only[Act.put,dW,Nat.reduceAdd])
 apply ii;have w:∀(W:Y)(b:M),W.heap[b]?=H (aw #[.iface 87<|I g f e] 169 (0,0))->z (G a)<=b->W.ownsRow (z<|G a) 169 1 (bD b 0 1 1) 1 [.iface 87<|I g f e]:=by intro W b hb d;exact⟨rfl,.inr ⟨b,1,#[.iface 87<|I g f e],rfl,d,hb,ah _,by unfold maxLen;omega,rfl,rfl⟩⟩
 refine uw (α:=M×ab) (λT W=>Z ay a W/\W.heap[T.1]?=H (aw #[.iface 87<|I g f e] 169 (0,0))/\z (G a)<=T.1/\W.ownsRow (z<|G a) 169 1 T.2 ap VS/\cK T.2≠H T.1) (λT=>{tmps:=#[aA c,iH,az,aA c,aA c,cX<|H<|R c 7,I g f e,.iface 87<|I g f e,bD T.1 0 1 1,aA c,aA c,cX<|H<|R c 10,T.2,iH],defers:=[]}) #[true,true,true,true,true,true,true,true,true,true,false,false] 2 ?_ ?_;(.intro P;refine tC (i:=5) (j:=9) rfl rfl rfl rfl (by kernel_rfl) ?_ ?_;(.intro ad hK;go_simp;have B:Z ay a (cN a<|aw #[.iface 87<|I g f e] 169).drew:=(cF ay a).of_heap rfl;have K:(cN a<|aw #[.iface 87<|I g f e] 169).drew.heap[z<|G a]?=H (aw #[.iface 87<|I g f e] 169 (0,0)):=aJ (w:=a) _ rfl;refine hK _ _ (λ_=>B.cell A id p) ?_;refine bj (i:=9) rfl rfl (by kernel_rfl) ?_;intro K2 l;go_simp;apply(n _ B).mono;rintro aF S⟨v1,rfl,d,q⟩;have V:=(q.block _ (ak K) id).trans K;have m:=B.cz q;refine l _ _ (λ_=>m.cell A id p) ?_;have ac:=λk a=>(d.lt k a).1;simp at ac;refine jW (P (z<|G a,v1) S ⟨m,V,ah _,?_,?_⟩) (by kernel_rfl);rw[hn]at d;obtain⟨q1,⟨q2,q0⟩|⟨ba,cp,E,q2,qb,C⟩⟩:=d;(grind);exact⟨q1,.inr ⟨ba,cp,E,q2,by grind,C⟩⟩;grind);intro ad hK;go_simp;apply(n _<|cZ _ a).mono;rintro aF S⟨v1,rfl,d,q⟩;have m:Z ay a S:=(cZ ay a).cz q;refine hK _ _ (λ_=>m.cell A id p) ?_;refine bj (i:=5) rfl rfl (by kernel_rfl) ?_;intro K2 l;go_simp;have B:=m.alloc<|aw #[.iface 87<|I g f e] 169;refine l _ _ (λ_=>B.cell A id p) ?_;refine jW (P (z<|G S,v1) _ ⟨B,aJ _ rfl,m.size,?_,?_⟩) (by kernel_rfl);rw[hn]at d;exact aT d _;intro ax;have:=(d.lt _ ax).2;omega);rintro⟨b,au⟩W⟨Q,hb,ad,P,aV⟩;have C:=w W b hb ad;(obtain⟨av,d,rfl⟩:∃a ax,au=I (H a) ap ax:=by rcases P.2 with⟨_,h0⟩|⟨ba,aD,E,h2,_⟩;omega;grind);refine bj (i:=10) rfl rfl (by kernel_rfl) ?_;intro K2 l;simp only[de,cD,cI];refine kp (.tmp 8) (.tmp 12) 166 rfl (z<|G a) 169 i0 .nilIface 1 16 underlying166 aa al an ao rfl (by decide) (bD b 0 1 1) 1 [.iface 87<|I g f e] rfl C av ap d VS rfl P.1 ?_ O (by omega) (by omega) Q.size ?_;exact pz P;intro v3 w3 q K;obtain⟨x3,c3,ac⟩:=aB q;subst ac;have m:Z ay a w3:=Q.trans (fA K.grown) (by grind);refine l _ _ (λ_=>m.cell A id p) ?_;simp only[Act.put,dW];refine bj (i:=11) rfl rfl (by kernel_rfl) ?_;intro K3 B;go_simp;refine B _ _ FQ ?_;refine eS (by kernel_rfl) ?_ _;show KK _ _;apply F;have S:=U q;have V:=U m;clear F l B q K m C P w;go_wp2;go_ret;refine⟨_,rfl,?_,V⟩;rw[show ap+1=1+ap from Am _ _];exact S
def qW(V:iV)(e:M)(g:ab)(d:cR)(w:Y):Prop:=∃t v f oN,g=.iface t v/\(∀w,(Go.method 541 t v "Find").run aZ w=.ok (f,oN) w)/\Enters aZ f/\∀a(c:X)w',kO V e ay w w'->V.D w'->cY aZ f #[oN,am a,aE c] w' λh b=>QH V w' b (iC c d a) h
def Te(v:ab)(w:Y):(Go.method 541 90 v "Find").run aZ w=.ok (308,v) w:=by kernel_rfl
def Td(v:ab)(w:Y):(Go.method 541 186 v "Find").run aZ w=.ok (310,v) w:=by kernel_rfl
def VZ(v:ab)(w:Y):(Go.method 541 87 v "Find").run aZ w=.ok (304,v) w:=by kernel_rfl
def qW.yj(i:sQ r b d j a)(c:b<=z (G a))(hF:∀k,r.F k->k<b):qW r b (.iface 90 d) (bZ j) a:=⟨_,d,_,d,rfl,Te d,enters_of func308 (by kernel_rfl) rfl,λe g l f h=>SA e g (i.same f) h (aC c f.1) hF⟩
def qW.table(h:nE r b O.tb O.ks O.cs a)(c:b<=z (G a))(hF:∀k,r.F k->k<b):qW r b (.iface 186 O.ptr) O.all a:=⟨_,O.ptr,_,O.ptr,rfl,Td O.ptr,enters_of func310 (by kernel_rfl) rfl,λd f i e g=>Cy d f (h.same e) g (aC c e.1) hF⟩
def kC.same{V:iV}{n0:M}(o:kC a d e)(l:kO V n0 ay a f)(m:∀i,cK d=Option.some i->i<n0/\¬V.F i):kC f d e:=by
 obtain⟨h,⟨rfl,j⟩|⟨n,b,c,rfl,g,k⟩⟩:=o;exact⟨h,.inl ⟨rfl,j⟩⟩;exact⟨h,.inr ⟨n,b,c,rfl,g,λo u j=>l.cell (.inr<|m n rfl)<|k o u j⟩⟩
def qW.list(p:kC a d e)(o:dV e)(n:y e<=1000000000000)(l:∀j,cK d=H j->j<b/\¬r.F j)(i:b<=z (G a)):qW r b (.iface 87 d) e a:=by
 refine⟨_,d,_,d,rfl,VZ d,enters_of func304 (by kernel_rfl) rfl,λh k q g m=>?_⟩;apply(AP h k (p.same g l) o n<|λj f=>ag (ag (l j f).1 i) g.1).mono;rintro t s⟨rfl,f⟩;have c:=r.eY m (Z.aR (S:=ay) f) cL;cases iC k e h with
 |none=>exact⟨zE,aX,.nilIface,rfl,.inl rfl,c,Z.aR f⟩
 |some x=>exact⟨x,ci,.nilIface,rfl,.inl rfl,c,Z.aR f⟩
def wQ(c:X)(b:ae)(a:cJ (ab×cR)):Option E:=a.findSome?<|λr=>iC c r.2 b
def Yl:Option E->ab
 |some x=>.tuple #[.string x.val,.bool<|!x.del,.nilIface]
 |none=>.tuple #[.string ⟨#[]⟩,.bool aX,.nilIface]
def Uz{a:cJ (ab×cR)}(h:b<y a)(c:wQ k t (a.take b)=none):wQ k t a=(iC k a[b].2 t).or (wQ k t<|a.drop<|b+1):=by
 have e:a=a.take b++a[b]::a.drop (b+1):=by rw[<-bG h,bV]
 unfold wQ at*;grind
def VX(w:Y)(c:M)(a:ae)(d:X)(e:¬(1<=a.size/\a.size<=8))(f:a.size<=140737488351232):cY aZ 36 #[aA c,am a,aE d] w λi g=>i=aM (dq #[am ⟨#[]⟩,aN aX,ui 3])/\g=w:=by
 have b:=λW=>qQ a W f;rw[decide_eq_false e]at b;go_in
 go_wp2_with(go_at_call 70;refine(b _).mono ?_;rintro i j⟨rfl,rfl⟩)
 refine ct (og rfl _ _ _) rfl ?_;exact⟨rfl,rfl⟩
abbrev gE(v:ab):ab:=dq #[am ⟨#[]⟩,aN aX,v]
def VY(n0:M)(p0 p1 p2 p3:ab×cW)(c:cJ (ab×cR))(d:ae)(t:X)(h:cS a b o k)(mx:Option Addr)(mn mc:M)(aD:o.memory=I mx mn mc)(hl:Dm a b 10 [p0,p1,p2,p3])(N:c.map (·.1)=xQ o.memory p0 p1 p2 p3)(hR:∀bn(hi:bn<y c),qW r n0 c[bn].1 c[bn].2 a)(hD:r.D a)(bk:n0<=z (G a))(hF:∀k,r.F k->k<n0)(hk:1<=d.size/\d.size<=8)(bc:∀ch∈c,∀x∈ch.2,x.val.size<=281474976710656):cY aZ 36 #[aA b,am d,aE t] a λbo w'=>(bo=aM (Yl<|wQ t d c)/\r.D w'/\Z r.F a w')\/Dp r a w' r.F bo gE:=by
 have O:=λbv=>qQ d bv (by omega);rw[xB hk]at O;have V:=Ei p0 p1 p2 p3 h mx mn mc aD hl;have l:y (pt p0 p1 p2 p3)+1=y c:=by have:=bS y N;simp[xQ]at this;omega
 rw[<-N,l]at V;have bp:y c<=1000000000:=by have:=hl.small;rw[<-l];simp[pt,lO]at this|-;omega
 obtain⟨HR,HD,HF,bg⟩:=fY hR hD hF bc;clear h hl aD N hR hD hF l bc;go_in
 go_wp2_with fail
 apply(O _).mono;rintro bo w1⟨rfl,cb⟩;subst w1;go_wp2_with fail
 apply V.mono;rintro bo w1⟨v1,rfl,P,ba⟩;obtain⟨x1,c1,bl⟩:=aB P;subst bl;have ad:=U P;have al:=U ba;clear P ba V O;go_wp2_with fail
 go_loopw [21] (λbn wr=>∃C:M,C<=y c/\bn=ar C/\r.D wr/\Z r.F w1 wr/\wQ t d (c.take C)=none) (λbn _=>y c-(intOf bn).toNat)
 case atStart=>exact⟨0,bP _,rfl,r.eY HD al cL,Z.refl _ _,rfl⟩
 case round=>
  obtain⟨C,hn,rfl,i,n,e⟩:=hrel;have m:Z r.F a wr:=(al.mono (T:=r.F) cL).trans n<|λ_ l=>.inl l;by_cases g:C<y c
  .obtain⟨ce,cf,cd,oN,aU,hm,he,j⟩:=HR C g;have eg:∀c a,(callFunc cd c).run aZ a=.ok (.enter cd c) a:=he;have hc:=j d t wr (m.same bk cL<|λk hk _=>hk) i;have aF:∀k,z (G a)<=k->¬r.F k:=λk hk c=>by have:=HF k c;omega
   have Q:=n.own ad<|λk hk=>aF k (ad.lt k hk).1;obtain⟨bq,hx,ca⟩:∃bq,x1=H (R bq 0)/\aW wr (R bq C)=H (.iface ce cf):=by
    rcases Q.2 with⟨f,D⟩|⟨w,u,v,f,_⟩
    .omega
    .cases f;refine⟨w,rfl,?_⟩;have:=pz Q C (.iface ce cf) (by rw[fq,aQ g];simp[aU]);rwa[dB,dE]at this
   subst hx;have av:=Uz g e;have aV:wQ t d (c.take<|C+1)=iC t c[C].2 d:=by
    rw[ai g];unfold wQ at e|-;rw[List.findSome?_append,e];cases h:iC t c[C].2 d<;>simp[h]
   have B:∀x,iC t c[C].2 d=H x->x.val.size<=281474976710656:=λx hx=>bg _ (aq g) x<|li hx;obtain⟨aa,bf,s,ac,bd⟩:=iO i n m av aV;have e1:(C:X)<(y c:X):=by omega
   clear i n m aU he j e Q aF av aV;go_wp2_with fail
   apply hc.mono;rintro bo p⟨cc,ok,ev,he,A,ao,bb⟩;obtain⟨F,L⟩:=And.intro (U ao) (U bb);clear ao bb hc;rcases A with A|⟨hX,rfl,rfl,q,rfl,hq⟩
   .rw[A]at he;subst he;clear A;cases hfe:iC t c[C].2 d with
    |none=>
     unfold Fg wo;simp only;have K:=U hfe;clear hfe B;go_wp2;go_roundw;case rel=>
      refine⟨C+1,g,by go_num,r.eY F (cF ay p) cL,?_,?_⟩
      .exact(bf.trans L<|λ_ l=>.inl l).alloc _
      .rw[J bd,J K]
     case measure=>simp[intOf];omega
    |some x=>
     have bm:=B x hfe;unfold Fg E.value;simp only;have bi:=λbv=>sY x.val bv bm;have br:∀(x:Bool)(a:Y),(Op.unary .not<|aN x).run aZ a=.ok (aN<|!x) a:=λ_ _=>rfl;have K:=U hfe;clear hfe B;go_wp2_with fail
     have f:iM (cN p<|aw #[am x.key,am x.val,aN x.del,aE x.bO] 171) (z<|G p) x:=aJ _ rfl;have v:Z r.F a (cN p<|aw #[am x.key,am x.val,aN x.del,aE x.bO] 171):=(s.trans L<|λ_ l=>.inl l).alloc _;have u:r.D (cN p<|aw #[am x.key,am x.val,aN x.del,aE x.bO] 171):=r.eY F (cF ay p) cL;generalize cN p (aw #[am x.key,am x.val,aN x.del,aE x.bO] 171)=W3 at f v u|-;generalize z (G p)=eb at f|-;obtain⟨bx,bE,bh,bL⟩:=f.cells;have ax:=ak f;obtain⟨bu,bs,bt⟩:=dz v u f;have HA:=U (show∀D,Below (z<|G W3) W3.drew D->aW D (R eb 2)=H (aN x.del)/\r.D D/\Z r.F a D from by
      intro D w;have W:Z ay W3 D:=(cZ ay W3).cz (Z.aR (S:=ay) w);exact⟨W.cell bh id ax,r.eY u W cL,v.cz W⟩)
     clear f v u;go_region_with(first|(go_at_call 75;refine(bi _).mono ?_;rintro bo D⟨rfl,w⟩;obtain⟨bT,ap,au⟩:=HA D w;have an:=U<|And.intro ap au;clear ap au w))
     all_goals(go_wp2;refine ct (og rfl _ _ _) rfl ?_;exact .inl ⟨by rw[J ac,J K];rfl,an.1,an.2⟩)
   .subst he;have f:=U hq;clear hq B;unfold E.value;simp only;go_wp2;refine ct (og rfl _ _ _) rfl ?_;exact .inr ⟨hX,q,rfl,f.aj (cF ay p) cL,r.eY F (cF ay p) cL,(s.trans L<|λ_ l=>.inl l).alloc _⟩
  .have f:C=y c:=by omega
   rw[f,bI]at e;obtain⟨j,aa,s⟩:=dz e i m;have e1:¬(C:X)<(y c:X):=by omega
   clear e i m n f;go_wp2;refine ct (og rfl _ _ _) rfl ?_;exact .inl ⟨by rw[J j];rfl,aa,s⟩
def cS.s8{s:SR}(h:cS a b s k)(c:Bool):cS (cq a (R b 20)<|aN c) b {s with jx:=c} k:=by
 have:=aH (i:=20) (u:=aN c) h;exact this
def cS.YS{s:SR}(h:cS a b s k)(c:Bool):cS (cq a (R b 21)<|aN c) b {s with iT:=c} k:=by
 have:=aH (i:=21) (u:=aN c) h;exact this
structure fJ(w w':Y)(db sb:M)(K K':DK):Prop where
 ok:cG w' db K'
 aj:Z (λk=>K.aO db k\/k=sb) w w'
 aO:∀k,K'.aO db k->K.aO db k\/z (G w)<=k
 fx:Fx K.fx K'.fx
def fJ.of{b sbqq:M}(h:pJ a f b i x):fJ a f b sbqq i x:=⟨h.ok,h.aj.mono<|λ_ c=>.inl<|.inl c,h.aO,h.fx⟩
def fJ.refl{c sbqq:M}(h:cG a c i):fJ a a c sbqq i i:=⟨h,Z.refl _ _,λ_ d=>.inl d,Fx.refl _⟩
def fJ.trans{w w' d:Y}{j a:DK}(k:fJ w w' c g i j)(l:fJ w' d c g j a):fJ w d c g i a:=⟨l.ok,k.aj.trans l.aj<|λx h=>h.elim (λe=>(k.aO x e).imp .inl id)<|λe=>.inl<|.inr e,λx h=>(l.aO x h).elim (λe=>k.aO x e)<|λe=>.inr<|aC k.aj.size e,k.fx.trans l.fx⟩
def fJ.set{d:DK}(h:fJ a f b c x d)(g:¬d.aO b c)(i:M)(v:ab):fJ a (cq f (R c i) v) b c x d:=by
 have e:Z (λk=>k=c) f (cq f (R c i) v):=(Z.refl _ f).setCell c i v<|.inl rfl;exact⟨h.ok.aj e<|λk c f=>g<|f▸c,h.aj.trans e<|λk c=>.inl<|.inr c,h.aO,h.fx⟩
def pJ.Dy(h:pJ a f b i x)(d:¬i.aO b c)(g:c<z (G a)):¬x.aO b c:=λe=>(h.aO c e).elim d<|λj=>by omega
structure FT(w w':Y)(db sb:M)(K K':DK)(full:cJ wM)(v:ab):Prop where
 nW:fJ w w' db sb K K'
 uz:(v=.nilIface/\mi full K K')\/∃l q c,l<+:full/\mi l K K'/\v=eD q/\lP w' q c/\QF K.fx c
def FT.of{b sbqq:M}{l:cJ wM}(h:zg a f b i x l d):FT a f b sbqq i x l d:=⟨fJ.of h.nW,h.uz⟩
def FT.nil{d:DK}(h:fJ a f b c i d)(k:vq i d):FT a f b c i d [] .nilIface:=⟨h,.inl ⟨rfl,k⟩⟩
def FT.seq{e:DK}{o s:cJ wM}(l:i.fx.ok)(r:fJ a f b c i x)(g:mi o i x)(k:FT f A b c x e s d):FT a A b c i e (o++s) d:=by
 refine⟨r.trans k.nW,?_⟩;rcases k.uz with⟨h,k⟩|⟨p,q,t,m,k,h,n,j⟩;exact .inl ⟨h,g.JX k⟩;exact .inr ⟨o++p,q,t,rX _|>.2 m,g.JX k,h,n,r.fx.Xh l j⟩
def FT.more{d b q:M}{K c:DK}{l m:cJ wM}(j:FT a f d b K c l (eD q)):FT a f d b K c (l++m) (eD q):=by
 refine⟨j.nW,?_⟩;rcases j.uz with⟨n,_⟩|⟨g,h,k,e,o⟩;cases n;exact .inr ⟨g,h,k,e.trans<|List.prefix_append _ _,o⟩
def su(s:SR):cJ wM:=(if s.jx then [.sy<|fa s.log]else [])++(if s.iT then [.sd]else [])
def M5(w d:Y)(a:M)(s:SR)(k:X)(K:DK)(f:Ending):Prop:=∃v e b c,f=aM v/\FT w d s.aI a K e (su s) v/\cS d a {s with jx:=b,iT:=c} k/\(v=.nilIface->b=aX/\c=aX)
def cS.same{s:SR}(h:cS a b s k):cS a b {s with jx:=s.jx,iT:=s.iT} k:=h
def AM(h:cS a b o k)(hd:cG a o.aI x)(hn:¬x.aO o.aI b)(hp:Pow a)(hl:o.log<18446744073709551616)(hf:o.jx=ci->∃bs,dh (vw x.files) (fa o.log)=H bs)(hm:y x.gT<=1000000000000):cY aZ 49 #[aA b] a λao w'=>M5 a w' b o k x ao:=by
 have D:=ak h;have N:∀bb,cG bb o.aI x->o.jx=ci->cY aZ 81 #[aA o.aI,am<|fa o.log] bb λao w'=>xz bb w' o.aI x [.sy<|fa o.log] ao:=by intro bb hW e;obtain⟨bs,l⟩:=hf e;obtain⟨bo,hF,j⟩:=jq l;exact PM (fa o.log) hW hF (by have:=pm hF;have:=hW.room;have:=hW.kK;omega)<|zN hl
 have K:∀bb a,cG bb o.aI a->y a.gT<=y x.gT->cY aZ 82 #[aA o.aI] bb λao w'=>xz bb w' o.aI a [.sd] ao:=λbb a hW b=>DV hW (by omega);obtain⟨al,F,HP,w,HB⟩:=iO N K hp hd h;have ad:=U hd.wS;have c2:=cS.cellAt h 2 rfl;have V:=cS.cellAt h 17 rfl;have W:=cS.cellAt h 20 rfl;have an:=cS.cellAt h 21 rfl;clear N K hp hd h hf;cases e:o.jx with
 |false=>
  rw[e]at W;cases hln:o.iT with
  |false=>
   rw[hln]at an;have j:su o=[]:=by unfold su;rw[e,hln];rfl
   have l:=U j;clear j;go_in
   go_wp2;go_ret;refine⟨_,x,aX,aX,rfl,?_,?_,λ_=>⟨rfl,rfl⟩⟩
   .rw[J l];exact FT.nil (fJ.refl w) ⟨rfl,rfl,rfl⟩
   have hB:=J HB;unfold cS SR.cells at hB|-;grind
  |true=>
   rw[hln]at an;have j:su o=[.sd]:=by unfold su;rw[e,hln];rfl
   have l:=U j;clear j;have r:=F a x w<|ah _;have s:=U hn;go_in
   go_wp2_with fail
   apply r.mono;rintro ao O⟨v8,Q,rfl,f⟩;have g:=f.nW;have d:=g.Dy s D;have c:cS O b o k:=HB.aj g.aj s;rcases f.uz with⟨rfl,o8⟩|⟨bn,q,bd,r1,r2,rfl,r3⟩
   .have bf:aW O (R b 21)=H (aN ci):=c.cell (by rw[<-hln];rfl);have bg:O.frozen? (R b 21)=aX:=c.free;obtain⟨P,p,n⟩:=dz ((fJ.of g).set d 21<|aN aX) (c.YS aX) o8;clear g d c r f o8;go_wp2;go_ret;refine⟨_,Q,aX,aX,rfl,⟨P,.inl ⟨rfl,by rw[J l];exact n⟩⟩,?_,λ_=>⟨rfl,rfl⟩⟩;have hB:=J p;grind
   .have HR:=U f;have p:=U c;clear g d c r f r1 r2 r3;go_wp2;go_ret;exact⟨_,Q,_,_,rfl,by rw[J l];exact FT.of<|J HR,p,λq=>by cases q⟩
 |true=>
  rw[e]at W;have hS:aW a.drew (R b 2)=H (aA o.aI)/\aW a.drew (R b 17)=H (aE o.log):=⟨c2,V⟩;go_in
  go_wp2_with fail
  rename_i QQ KK aD;refine dR (λT=>aW T (R b 2)=H (aA o.aI)/\aW T (R b 17)=H (aE o.log)) 10 (by kernel_rfl) ?_;refine fh 0 ?_;iterate 8 (refine iz (v:=?_) hS rfl (by kernel_rfl) lk rfl ?_ ?_;rotate_left;(focus(intro T hX;obtain⟨z0,z1⟩:=hX;go_simp;try rfl));simp only[Act.put,dW,Nat.reduceAdd])
  apply ii;refine bj (i:=8) rfl rfl (by kernel_rfl) ?_;intro Q av;go_simp;apply(yQ o.log hl<|HP.aj (cZ ay a) id).mono;rintro ao w1⟨rfl,aV⟩;have n:Z ay a w1:=(cZ ay a).cz<|Z.aR (S:=ay) aV;have aF:aW w1 (R b 2)=H (aA o.aI)/\aW w1 (R b 17)=H (aE o.log):=⟨n.cell c2 id D,n.cell V id D⟩;have ba:=al w1 (w.aj n<|λ_ _=>id) e;refine av _ _ (λ_=>aF) ?_;refine bj (i:=9) rfl rfl (by kernel_rfl) ?_;intro K9 ax;go_simp;apply ba.mono;rintro ao E⟨v2,K2,rfl,u⟩;have t:=u.nW;have bm:=n.size;have j:cS E b o k:=(HB.aj n id).aj t.aj hn;have aU:aW E (R b 2)=H (aA o.aI)/\aW E (R b 17)=H (aE o.log):=⟨j.cell rfl,j.cell rfl⟩;refine ax _ _ (λ_=>aU) ?_;refine bj (i:=10) rfl rfl (by kernel_rfl) ?_;intro bi L;go_simp;refine L _ _ FQ ?_;refine eS (by kernel_rfl) ?_ _;show KK _ _;apply aD;have d:=t.Dy hn (by omega);have B:fJ a w1 o.aI b x x:=⟨w.aj n<|λ_ _=>id,n.mono cL,λ_ bd=>.inl bd,Fx.refl _⟩;clear aD av ax L hS aF aU ba n aV c2 V W;rcases u.uz with⟨rfl,o2⟩|⟨bn,q,bd,r1,r2,rfl,r3⟩;rotate_left
  .have HR:=U (show FT a E o.aI b x K2 (su o) (eD q)from by
    have:=FT.more (m:=if o.iT then [.sd]else []) (FT.seq ad B (show mi [] x x from⟨rfl,rfl,rfl⟩) (FT.of u));unfold su;rw[e];exact this)
   have l:=U j;clear t j d u r1 r2 r3 B;go_wp2;go_ret;exact⟨_,K2,_,_,rfl,HR,l,λq=>by cases q⟩
  have bk:aW E (R b 20)=H (aN ci):=j.cell (by rw[<-e];rfl);have bl:E.frozen? (R b 20)=aX:=j.free;have C:=j.s8 aX;have au:fJ a (cq E (R b 20)<|aN aX) o.aI b x K2:=(B.trans<|fJ.of t).set d 20<|aN aX;have ap:aW (cq E (R b 20)<|aN aX) (R b 21)=H (aN o.iT):=C.cell rfl;have e2:=cS.cellAt C 2 rfl;have bh:y K2.gT<=y x.gT:=by
   obtain⟨K',⟨bo,_,_,_,l⟩,_,_,a7⟩:=o2;rw[a7,l];exact ah _
  obtain⟨aa,A,ac,s⟩:=fY C au o2 d;clear t j C d u B au o2;cases hln:o.iT with
  |false=>
   rw[hln]at ap;go_wp2;go_ret;refine⟨_,K2,aX,aX,rfl,⟨A,.inl ⟨rfl,?_⟩⟩,?_,λ_=>⟨rfl,rfl⟩⟩
   .unfold su;rw[e,hln];exact ac
   have hB:=J aa;grind
  |true=>
   rw[hln]at ap;have r:=F (cq E (R b 20)<|aN aX) K2 A.ok bh;go_wp2_with fail
   apply r.mono;rintro ao O⟨v8,Q,rfl,f⟩;have g:=f.nW;have d:=g.Dy s<|ag D A.aj.size;have c:cS O b _ k:=aa.aj g.aj s;have l:FT a O o.aI b x Q (su o) v8:=by
    have:=FT.seq ad A ac<|FT.of (sbqq:=b) f;unfold su;rw[e,hln];exact this
   rcases f.uz with⟨rfl,o8⟩|⟨bn,q,bd,r1,r2,rfl,r3⟩
   .have bf:aW O (R b 21)=H (aN ci):=c.cell (by rw[<-hln];rfl);have bg:O.frozen? (R b 21)=aX:=c.free;obtain⟨P,p,bc⟩:=dz (l.nW.set d 21<|aN aX) (c.YS aX) l.uz;clear g d c r f o8 l;go_wp2;go_ret;refine⟨_,Q,aX,aX,rfl,⟨P,?_⟩,?_,λ_=>⟨rfl,rfl⟩⟩
    .rcases J bc with bd|⟨bn,q,bd,_,_,ao,_⟩
     .exact .inl ⟨rfl,bd.2⟩
     .cases ao
    have hB:=J p;grind
   .have HR:=U l;have p:=U c;clear g d c r f r1 r2 r3 l;go_wp2;go_ret;exact⟨_,Q,_,_,rfl,HR,p,λq=>by cases q⟩
def wT(a:Fs)(b:cJ ae):Fs:=b.foldl xp a
def JD{m:ae}(h:m≠t):dh (xp F t) m=dh F m:=by
 induction F with
 |nil=>rfl
 |cons g r c=>
  obtain⟨b,d⟩:=g;by_cases e:b=t
  .simp only[xp,e,nk,dh];rw[dF<|λc=>h c.symm]
  .by_cases a:b=m
   .subst a;simp only[xp,dF h,dh,nk]
   .simp only[xp,dF e,dh,dF a,c]
theorem nV{a:cJ ae}(h:t∉a):dh (wT F a) t=dh F t:=by
 induction a generalizing F with
 |nil=>rfl
 |cons n r b=>
  show dh (wT (xp F n) r) t=dh F t;rw[b (λc=>h<|by simp[c]),JD<|λc=>h<|by simp[c]]
def Ey{a:cJ ae}(h:mi (a.map .rm) i x):vw x.files=wT (vw i.files) a/\y x.gT=y i.gT+y a:=by
 induction a generalizing i with
 |nil=>exact⟨by rw[h.1];rfl,by rw[h.2.2];rfl⟩
 |cons n r g=>
  obtain⟨k,⟨F,j,_,b,l,c⟩,f⟩:=h;obtain⟨d,e⟩:=g f;refine⟨?_,by rw[e,c];simp;omega⟩;rw[d,b,Uj];rfl
def En{K:DK}(aF:ab)(c:cJ ae)(h:cS a b o k)(C:cG a o.aI K)(hn:¬K.aO o.aI b)(hr:Row a 1 aF (y c) (c.map Value.string))(hv:∀ax,cK aF=H ax->ax<z (G a)/\¬K.aO o.aI ax)(n:c.Nodup)(p:∀aD∈c,∃W,dh (vw K.files) aD=H W)(hm:y K.gT+y c<=1000000000000)(ac:∀aD∈c,Nm aD):cY aZ 59 #[aA b,aF] a λal w'=>xz a w' o.aI K (c.map .rm) al:=by
 have av:=ak h;have u:=U C.wS;rcases hr with⟨f,⟨rfl,h0⟩|⟨aU,s,an,rfl,ap,hc⟩⟩;(.obtain rfl:=aL h0;have t:=U<|pJ.refl C;clear h C hn hv n p f h0;(go_in);go_wp2;(go_loopw [10] (λO wr=>O=ar 0/\wr=a) (λ_ _=>0));(case atStart=>grind);(case round=>obtain⟨rfl,d⟩:=hrel;subst wr;go_wp2;go_ret;exact⟨_,K,rfl,t,.inl ⟨rfl,rfl,rfl,rfl⟩⟩))
 .have hb:=hv aU rfl;obtain⟨HB,HC,HN,S,V,P⟩:=lf h hc hn n p<|pJ.refl C;clear h C hn hv n p f hc;go_in
  go_wp2;go_loopw [10] (λO wr=>∃(m:M)(x:DK),m<=y c/\O=ar m/\pJ a wr o.aI K x/\mi ((c.take m).map .rm) K x) (λO _=>y c-(intOf O).toNat)
  case atStart=>exact⟨0,K,bP _,rfl,P,rfl,rfl,rfl⟩
  case round=>
   obtain⟨m,x,au,rfl,l,d⟩:=hrel;by_cases g:m<y c
   .have ao:aW wr (R aU<|s+m)=H (am c[m]):=l.aj.cell (HC m _ (by rw[fq,aQ g];rfl)) hb.2 hb.1;have B:=HB.aj l.aj HN;have c2:=cS.cellAt B 2 rfl;have i:c[m]∉c.take m:=by
     intro aV;obtain⟨O,hi,Q⟩:=dY aV;have T:O<m/\O<y c:=by grind
     rw[ly]at Q;have:=(List.nodup_iff_pairwise_ne.1 S);grind[pairwise_iff_getElem]
    obtain⟨F,aa⟩:=Ey d;have D:y (c.take m)=m:=by rw[dO];omega
    obtain⟨W,A⟩:=V _<|aq g;have hg:dh (vw x.files) c[m]=H W:=by rw[F,nV i];exact A
    obtain⟨bb,hF,_⟩:=jq hg;have r:=RG c[m] l.ok hF (by omega)<|ac _<|aq g;have E:(c.take<|m+1).map wM.rm=(c.take m).map .rm++[.rm c[m]]:=by rw[ai g,aP];rfl
    have j:(c.take<|m+1).map wM.rm<+:c.map .rm:=(List.take_prefix _ _).map _;obtain⟨w,t,L,v⟩:=fY E l d j;clear l F aa B i hg hF A d E j D;generalize c[m]=ad at*;go_wp2_with fail
    apply r.mono;rintro al w1⟨v1,N,rfl,f⟩;have e:=zg.seq u t L f;rw[<-J w]at e;rcases f.uz with⟨rfl,o1⟩|⟨bc,q,aV,r1,r2,rfl,r3⟩
    .obtain⟨Q,T⟩:=And.intro (U e.nW) (U (show mi ((c.take<|m+1).map .rm) K N by rw[J w];exact mi.JX L o1));clear f o1 r e;go_wp2;go_roundw;case rel=>exact⟨m+1,N,g,by go_num,Q,T⟩
     case measure=>simp[intOf];omega
    .have T:=U (show zg a w1 o.aI K N (c.map .rm) (eD q)from⟨e.nW,by
      rcases e.uz with⟨al,_⟩|⟨l',q',c',ba,Q⟩
      .cases al
      .exact .inr ⟨l',q',c',ba.trans v,Q⟩⟩)
     clear f r1 r2 r3 r e;go_wp2;go_ret;exact⟨_,N,rfl,T⟩
   .have e:m=y c:=by omega
    subst e;rw[bI]at d;obtain⟨t,L⟩:=And.intro (U l) (U d);clear l d;go_wp2;go_ret;exact⟨_,x,rfl,t,.inl ⟨rfl,L⟩⟩
section
open Shelf
def XO(x:X)(w:Y):cY aZ 282 #[aE x] w λe a=>e=aM (aN aX)/\a=w:=by
 go_in
 go_wp2;go_ret;simp_all
def Hq(x a:X)(w:Y):cY aZ 274 #[aE x,aE a] w λe b=>e=aM (aN<|decide<|x<a)/\b=w:=by
 have h:=XO x w;go_in
 go_wp2_with(go_at_call 282;refine h.mono ?_;rintro e b⟨rfl,rfl⟩)
 go_ret;simp_all
def QW(a:b+1<y n):((n.set (b+1) n[b]).set b n[b+1]).Perm n:=by
 grind
def VD(k i:M)(n:eR)(w:a.ownsRow b 88 1 (bD k 0 (y n) i) (y n) (n.map<|Value.int .u64))(hn:y n<=12):cY aZ 268 #[bD k 0 (y n) i,ar 0,ar<|y n] a λao K=>ao=aM (dq #[])/\∃m:eR,m.Perm n/\K.ownsRow b 88 1 (bD k 0 (y m) i) (y m) (m.map<|Value.int .u64)/\Z (λs=>s=k) a K:=by
 obtain⟨L,V⟩:∃L,y n=L:=⟨_,rfl⟩;rw[V]at w hn|-;go_in
 go_wp2;go_loopw [6] (λc wr=>∃(p:M)(m:eR),c=ar p/\1<=p/\y m=L/\m.Perm n/\wr.ownsRow b 88 1 (bD k 0 L i) L (m.map<|Value.int .u64)/\Z (λs=>s=k) a wr) (λc _=>L-(intOf c).toNat)
 case atStart=>grind[Perm.refl,Z.refl]
 (case round=>obtain⟨p,m,rfl,ac,d,e,c,f⟩:=hrel;by_cases aa:p<L;(·(have Q:(p:X)<(L:X):=by omega);have j:=U<|And.intro d (And.intro e (And.intro c f));clear d e c f w;go_wp2;(go_loopw [7] (λA c=>∃(B:M)(m:eR),A=ar B/\B<=p/\y m=L/\m.Perm n/\c.ownsRow b 88 1 (bD k 0 L i) L (m.map<|Value.int .u64)/\Z (λs=>s=k) a c) (λA _=>(intOf A).toNat));(case atStart=>exact⟨p,m,rfl,ah _,j.1,j.2.1,j.2.2.1,j.2.2.2⟩);(case round=>obtain⟨B,m,rfl,ad,d,e,c,f⟩:=hrel;rcases gB B with D|D;(.subst D;have g:=U<|And.intro d (And.intro e (And.intro c f));clear d e c f;(go_wp2_with fail);(go_quiet(fail));go_wp2;go_roundw;(case rel=>exact⟨p+1,m,by go_num,by omega,g.1,g.2.1,ke g.2.2.1 rfl,g.2.2.2.of_heap rfl⟩);case measure=>simp[intOf];omega);(.obtain⟨q,rfl⟩:∃q,B=q+1:=⟨B-1,by omega⟩;obtain⟨_,⟨O,_⟩|⟨b',F,C,O,v,u⟩⟩:=dJ c;cases O;cases O;have c1:=u (q+1) (aE<|m[q+1]'(by omega)) (by rw[fq,aQ<|by omega];rfl);have P:=u q (aE<|m[q]'(by omega)) (by rw[fq,aQ<|by omega];rfl);simp only[dE]at P c1;have W:=(c.lt k rfl).2;(have l:∀A,wr.frozen? (R k A)=aX:=by intro A;obtain⟨S,r⟩:=fE c (k:=k) rfl;exact cP r);have f1:=l<|q+1;have f0:=l q;have N:=U (show∀r,(r=cq (cq wr (R k<|q+1)<|aE<|m[q]'(by omega)) (R k q) (aE<|m[q+1]'(by omega)))->∃o:eR,y o=L/\o.Perm n/\r.ownsRow b 88 1 (bD k 0 L i) L (o.map<|Value.int .u64)/\Z (λs=>s=k) a r from by rintro r rfl;refine⟨(m.set (q+1) m[q]).set q m[q+1],by simpa using d,(QW<|by omega).trans e,?_,(f.setCell _ _ _<|.inl rfl).setCell _ _ _<|.inl rfl⟩;have t:=(World.ownsRow.stored (World.ownsRow.stored c (q+1)<|aE<|m[q]'(by omega)).1 q<|aE<|m[q+1]'(by omega)).1;rw[sD,sD];exact t);have g:=U<|And.intro d (And.intro e (And.intro c f));have E:L<=i:=v;(have e2:(q:X)+1<(L:X):=by omega);(have e3:(q:X)<(L:X):=by omega);(have e4:(0:X)<(q:X)+1:=by omega);(have e5:(0:X)<=(q:X):=by omega);(have al:q+1<y m:=by omega);generalize m[q+1]=x at*;generalize m[q]'(by omega)=ap at*;clear d e c f u l;by_cases an:x<ap;(·(go_wp2_with fail);(go_quiet(first|(go_at_call 274;refine Calls.quiet_of_same (Hq _ _ _))));(go_wp2_with fail);(go_region);go_wp2;go_roundw;(case rel=>obtain⟨o,t,r,S,T⟩:=N _ rfl;exact⟨q,o,by go_num,by omega,t,r,ke S rfl,T.of_heap rfl⟩);case measure=>simp[intOf]);(·(go_wp2_with fail);(go_quiet(first|(go_at_call 274;refine Calls.quiet_of_same (Hq _ _ _))));go_wp2;go_roundw;(case rel=>exact⟨p+1,m,by go_num,by omega,g.1,g.2.1,ke g.2.2.1 rfl,g.2.2.2.of_heap rfl⟩);case measure=>simp[intOf];omega))));(have Q:¬((p:X)<(L:X)):=by omega);have j:=U<|And.intro d (And.intro e (And.intro c f));clear d e c f w;go_wp2;go_end0;exact⟨rfl,m,j.2.1,by rw[(J j).1];exact j.2.2.1,j.2.2.2⟩)
def VE(l:eR)(j:a.ownsRow b 88 1 d (y l) (l.map<|Value.int .u64))(t:y l<=12):cY aZ 268 #[d,ar 0,ar<|y l] a λv f=>v=aM (dq #[])/\∃m:eR,m.Perm l/\f.ownsRow b 88 1 d (y m) (m.map<|Value.int .u64)/\Z (λw=>cK d=H w) a f:=by
 rcases j.2 with⟨rfl,n⟩|⟨x,c,k,rfl,p,A,u,q,r,e⟩;(.obtain rfl:=aL n;(go_in);go_wp2;refine gX 1 ?_;rw[gd];go_wp2;go_end0;grind[Perm.refl,Z.refl]);apply(VD x c l j t).mono;rintro v f⟨rfl,m,g,i,o⟩;refine⟨rfl,m,g,?_,o.mono<|λw s=>.inl (by rw[s];rfl)⟩;rw[g.length_eq]at i|-;exact i
def UP(l:eR)(k:X)(c:a.ownsRow b 88 1 d (y l) (l.map<|Value.int .u64))(i:y l<=12):cY aZ 254 #[d,ar 0,ar<|y l,ar k] a λn e=>n=aM (dq #[])/\∃m:eR,m.Perm l/\e.ownsRow b 88 1 d (y m) (m.map<|Value.int .u64)/\Z (λk=>cK d=H k) a e:=by
 have h:=VE l c i;obtain⟨x,p,j⟩:=aB c;have o:(y l:X)<=12:=by omega
 subst j;clear c;go_in
 go_wp2;refine gX 1 ?_;rw[gd];go_wp2_with fail
 apply h.mono;rintro n e⟨rfl,f⟩;have g:=U f;clear f;go_wp2;refine ct (iX rfl _ _ _) rfl ?_;exact⟨rfl,g⟩
def Sv(n:M)(c:n<=4)(w:Y):cY aZ 205 #[aE n] w λe b=>(∃k,e=aM (ar k))/\b=w:=by
 have a:n=0\/n=1\/n=2\/n=3\/n=4:=by omega
 rcases a with rfl|rfl|rfl|rfl|rfl;(all_goals(go_in);go_wp2;go_ret;exact⟨⟨_,rfl⟩,rfl⟩)
def Yc(n:M)(b:n<=4)(w:Y):cY aZ 144 #[aE n] w λe a=>(∃k,e=aM (ar k))/\a=w:=by
 have h:=Sv n b w;go_in
 go_wp2_with(go_at_call 205;refine h.mono ?_;rintro e a⟨⟨k,rfl⟩,rfl⟩)
 go_wp2;go_ret;simp_all
def Rk(l:eR)(e:a.ownsRow b 88 1 d (y l) (l.map<|Value.int .u64))(m:y l<=4):cY aZ 218 #[d] a λi c=>i=aM (dq #[])/\∃o:eR,o.Perm l/\c.ownsRow b 88 1 d (y o) (o.map<|Value.int .u64)/\Z (λk=>cK d=H k) a c:=by
 have h:=λk=>UP l k e (by omega);have j:=Yc (y l) m a;obtain⟨x,q,n⟩:=aB e;subst n;clear e;go_in
 go_wp2_with fail
 apply j.mono;rintro i c⟨⟨k,rfl⟩,p⟩;subst c;go_wp2_with fail
 apply(h k).mono;rintro i c⟨rfl,f⟩;have g:=U f;clear f;go_wp2;go_end0;exact⟨rfl,g⟩
def KE{bm b:M}(u:jM){w:Y}(x:eP w bm (.map<|H b) 78)(A:oP w b u)(q:xL u n)(C:y n<=4):cY aZ 155 #[.func (.func 219) #[] #[aA bm]] w λv t=>
 ∃i,∃s:eR,v=aM i/\s.Perm n/\t.ownsRow (z<|G w) 88 1 i (y s) (s.map<|Value.int .u64)/\Z (λk=>k=bm) w t:=by
 have h:=JP u x A q<|by omega
 go_in
 go_wp2_with fail
 apply h.mono
 rintro v K⟨i,s,rfl,m,g,r⟩
 have B:=Rk s g (by have:=m.length_eq;omega)
 have c:∀k,cK i=H k->z (G w)<=k:=λk o=>(bM g k o).1
 obtain⟨F,E,p⟩:=aB g
 have a:=U<|And.intro m r
 have l:=U c
 clear m g r c
 subst p
 go_wp2_with fail
 apply B.mono
 rintro v L⟨rfl,D,d,e,f⟩
 have j:=U<|And.intro d (And.intro e f)
 clear d e f
 go_wp2
 go_ret
 exact⟨_,D,rfl,j.1.trans a.1,j.2.1,a.2.trans j.2.2<|λk o=>.inr<|l k o⟩
end
def iQ(n:X)(l:cR):eR:=le 8 n++((y l:X)::l.flatMap oq)
def pI(n:X)(l:cR):eR:=iN (le 4 (y<|iQ n l)++le 4 (mV<|iQ n l))++iQ n l
def CH(h:w.Good):y (oq w)<=35:=by
 have:=uF h;unfold Ce at this;rw[af]at this;omega
def pE{l:cR}(h:∀x∈l,x.Good):y (l.flatMap oq)<=35*y l:=by
 induction l with
 |nil=>simp
 |cons x r c=>
  have a:=CH (h x<|by simp);have d:=c (λa b=>h a<|by simp[b]);rw[dU,af,aY];omega
structure YI(w0 w:Y)(hv bv:ab)(hs bs:eR):Prop where
 head:fc w (z<|G w0) hv hs
 body:fc w (z<|G w0) bv bs
 ne:∀k,cK hv=H k->cK bv≠H k
 aj:Z ay w0 w
def YI.wrote{e c:eR}(h:YI a f d s n e)(j:eE f A d L)(m:fc A (z<|G a) L c):YI a A L s c e:=by
 have i:=Z.fH j;refine⟨m,i.own h.body<|λk b p=>h.ne k p b,λk b g=>?_,h.aj.trans i<|λk b=>.inr (h.head.lt k b).1⟩;rcases j.vp with l|⟨o,l,q⟩;exact h.ne k (l.symm.trans b) g;rw[l]at b;cases b;have:=(h.body.lt _ g).2;omega
def Oe(l:cR)(au a bi:M)(w:Y)(hT:Steps w)(hg:au<z (G w))(hc:∀cj ch,(aK l)[cj]?=H ch->aW w (R au<|a+cj)=H ch)(k:0<y l)(c:∀an∈l,an.Good)(hl:y l<=8):cY aZ 118 #[bD au a (y l) bi] w λap w'=>∃v',ap=aM v'/\fc w' (z<|G w) v' (pI (l[0]'k).bO l)/\Z ay w w':=by
 obtain⟨i0,bp,bL,bT,ca⟩:=di qi;have u:=c _<|aq k;have cf:=pE c;have bk:aW w (R au<|a+3)=H (aE (l[0]'k).bO):=by have:=hc _ _ (eI l 0 k).2.2.2;grind
 obtain⟨r,hn⟩:∃r,(l[0]'k).bO=r:=⟨_,rfl⟩;have K:=u.b0;have L:=u.b1;rw[hn]at K L bk|-;have bs:=py (baseqq:=z<|G w) (v:=az) (bs:=[]) r (w:=w) (fc.nil _ _) (ah _) (by simp) K L;have e1:IntKind.u8.wrap (y l:X)=y l:=by rw[IntKind.wrap_u8];omega
 obtain⟨HC,HG,HT⟩:=dz hc c hT;clear hc c u hn hT;go_in
 go_wp2_with fail
 apply bs.mono;rintro ap w1⟨v1,rfl,A,aa⟩;have C:Z ay w w1:=(Z.fH aa).mono (λav g=>by simp[cK]at g);have br:=uB (z<|G w) v1 ([]++le 8 r) (y l:X) w1 A C.size (by simp[cH]);have aF:=U A;have bb:=U C;clear A C aa;go_wp2_with fail
 apply br.mono;rintro ap w2⟨v2,rfl,N,ac⟩;have bd:=U<|bb.trans (Z.fH ac)<|λav g=>.inr (aF.lt av g).1;have aU:=U N;clear N ac;go_wp2;go_loopw [3,19] (λo i wr=>∃m:M,m<=y l/\i=ar m/\fc wr (z<|G w) o (le 8 r++((y l:X)::(l.take m).flatMap oq))/\Z ay w wr) (λ_ i _=>y l-(intOf i).toNat)
 case atStart=>exact⟨0,bP _,rfl,by simpa using J aU,bd⟩
 case round=>
  obtain⟨m,hm,rfl,b,d⟩:=hrel;have bx:=d.size;by_cases q:m<y l
  .have j:=HG l[m]<|aq q;have e:=eI l m q;have D:aW wr (R au<|a+m*4)=H (am l[m].key):=d.cell (HC _ _ e.1) id hg;have F:aW wr (R au<|a+m*4+1)=H (am l[m].val):=d.cell (by rw[bw];exact HC _ _ e.2.1) id hg;have O:aW wr (R au<|a+m*4+2)=H (aN l[m].del):=d.cell (by rw[bw];exact HC _ _ e.2.2.1) id hg;have P:aW wr (R au<|a+m*4+3)=H (aE l[m].bO):=d.cell (by rw[bw];exact HC _ _ e.2.2.2) id hg;have o:y (le 8 r++((y l:X)::(l.take m).flatMap oq))<=1000:=by
    have Q:=pE (l:=l.take m)<|λan hx=>HG an<|dZ hx;grind[length_append,length_cons,cH]
   have B:=U (show(le 8 r++((y l:X)::(l.take m).flatMap oq))++oq l[m]=le 8 r++((y l:X)::(l.take<|m+1).flatMap oq)from by
    rw[ai q,fG];simp)
   clear e;generalize l[m]=an at*;have f:=PW (z<|G w) u3 (le 8 r++((y l:X)::(l.take m).flatMap oq)) an (cN wr<|aw #[am an.key,am an.val,aN an.del,aE an.bO] 171) (b.alloc _) (by simp;omega) (by omega) (by have:=j.Mf;omega) (by have:=j.val;omega);generalize(le 8 r++((y l:X)::(l.take m).flatMap oq))=cd at*;have x:=b.lt;have s:=U d;clear b d j o;obtain⟨V,W,T,S⟩:=an;simp only at D F O P f;unfold E.value at f;simp only at f;go_wp2_with fail
   apply f.mono;rintro ap w3⟨v3,rfl,n,i⟩;have p:=U n;have t:=U i;clear n i;go_wp2;go_roundw;case rel=>
    refine⟨m+1,q,by go_num,by rw[<-J B];exact p,?_⟩;exact(s.alloc _).trans (Z.fH t)<|λav g=>.inr (x av g).1
   case measure=>simp[intOf];omega
  .have bq:m=y l:=by omega
   subst bq;rw[bI]at b;have bl:y (iQ r l)<=1000:=by unfold iQ;rw[af,aY,cH];omega
   have s:0<y (iQ r l):=by unfold iQ;rw[af,cH];omega
   have f:fc wr (z<|G w) u3 (iQ r l):=b;obtain⟨bg,bc,bE,_,_,_⟩:=rY f s;subst bE;obtain⟨e,j⟩:∃e,y (iQ r l)=e:=⟨_,rfl⟩;have F:=U (show pI r l=iN (le 4 (e:M)++le 4 (mV<|iQ r l))++iQ r l by rw[<-j];rfl);rw[j]at bl s;have bt:=jv (baseqq:=z<|G w) (v:=az) (bs:=[]) (e:M) (w:=wr) (fc.nil _ _) bx (by simp) (by omega) (by omega);have e2:IntKind.u32.wrap (e:X)=e:=tD (by omega) (by omega);have HO:=U f;have bf:=U d;rw[j];have p:=U j;clear b f d j;generalize iQ r l=ao at*;go_wp2_with fail
   apply bt.mono;rintro ap w3⟨v3,rfl,n,i⟩;have hA3:YI w w3 v3 (bD bg 0 e bc) ([]++le 4 (e:M)) ao:=by
    have V:Z ay wr w3:=(Z.fH i).mono (λav g=>by simp[cK]at g);have S:fc wr (z<|G w) (bD bg 0 e bc) ao:=by have:=J HO;rw[J p]at this;exact this
    refine⟨n,V.own S<|λ_ _ ck=>ck,λav g hb=>?_,bf.cz V⟩;rcases i.vp with ce|⟨cc,ce,hy⟩
    .rw[ce]at g;cases g
    .rw[ce]at g;cases g;have:=(S.lt _ hb).2;omega
   have B:∀W,Z ay w W->Steps W:=λW a=>HT.below (a.below (ah _) cL) HT.lt;have bv:=sU (bD bg 0 e bc) ao w3 (B _ hA3.aj) (fc.bytes hA3.body) (by rw[J p];omega);have t:=U hA3;have ba:=U B;clear hA3 n i B;go_wp2_with fail
   apply bv.mono;rintro ap w4⟨rfl,D⟩;subst w4;have bn:=zV ao;have bm:=Ch ao;have T:=jv (mV ao) t.head t.aj.size (by simp[cH]) bn bm;generalize mV ao=cB at*;go_wp2_with fail
   apply T.mono;rintro ap w4⟨v4,rfl,O,D⟩;have hA4:=t.wrote D O;have bu:=Eg (ba _ hA4.aj) hA4.head hA4.aj.size (by simp[cH]);have ax:=U hA4;clear O D hA4;go_wp2_with fail
   apply bu.mono;rintro ap w5⟨v5,rfl,P,ad⟩;have hA5:=ax.wrote ad P;have x:y ((([]++le 4 (e:M))++le 4 cB)++le 4 (mV<|([]++le 4 (e:M))++le 4 cB))=12:=by simp[cH]
   obtain⟨hx,bo,W⟩:=aB hA5.head;rw[x]at W;subst W;have cb:=hA5.aj.size;have o:=U hA5;have aD:=U x;clear P ad hA5 x;go_wp2_with(first
    |(at_builtin;go_loud(refine cA _ rfl (.tmp 36) (.tmp 37) 103 rfl (z (G w)) 5 i0 (.int .u8 0) 1 1 underlying103 bp bL bT ca rfl (by decide) (.slice hx 12 bo) 12 (((([]++le 4 (e:M))++le 4 cB)++le 4 (mV (([]++le 4 (e:M))++le 4 cB))).map (Value.int .u8)) rfl (by have h0:=o.head;unfold fc at h0;rw[J aD]at h0;exact h0) (R bg 0) e bc (ao.map (Value.int .u8)) rfl (by rw[dj,J p,rB]) (tX (fc.bytes o.body)) (by intro ch hu;simp only[bR]at hu;obtain⟨cc,_,rfl⟩:=hu;rfl) (by omega) (by omega) cb ?_;intro v6 w6 Q al;have aV:=U Q;have bh:=U al;clear Q al)))
   go_ret;refine⟨_,rfl,?_,o.aj.trans (Z.fH bh)<|λav g=>.inr (o.head.lt av g).1⟩;rw[J F];refine fc.of aV ?_ ?_
   .rw[af,gy,J p,af,cH,cH]
   .unfold iN;simp
def LN(L a b bf:M)(B rest:eR){w:Y}(hT:Steps w)(bi:0<y B)(hB:y B<=100000)(hR:y rest<=1000000000)(hL:bf=12+y B+y rest)(bl:bf<=b)(bu:b<=9223372036854775807)(hb:Bytes w (bD L a bf b) (iN (le 4 (y B)++le 4 (mV B))++B++rest)):cY aZ 93 #[bD L a bf b] w λaa w'=>∃bd bn,aa=aM (dq #[bD L (a+12) (y B)<|b-12,bD L bd (y rest) bn,aN ci])/\y rest<=bn/\bn<=9223372036854775807/\Bytes w (bD L (a+12) (y B)<|b-12) B/\Bytes w (bD L bd (y rest) bn) rest/\Z ay w w':=by
 have A:L<z (G w):=hb.lt (by intro aa;have:=bS y aa;grind) L rfl;have C:y (iN<|le 4 (y B)++le 4 (mV B))=12:=by simp[iN,cH]
 have i:y (iN (le 4 (y B)++le 4 (mV B))++B++rest)=bf:=by rw[af,af,C,hL]
 rw[<-i]at hb;have f:=hb.take (n:=12) (by rw[i];omega);have d:=hb.Cf (n:=12) (by rw[i];omega);rw[bA,mr (by omega),eT<|by omega]at f;rw[i,bA,List.drop_append_of_le_length (by omega),vW (by omega),cV]at d;obtain⟨c,hM⟩:∃c,bf-12=c:=⟨_,rfl⟩;obtain⟨K,hC⟩:∃K,b-12=K:=⟨_,rfl⟩;rw[hM,hC]at d;have v:y (B++rest)=c:=by rw[af];omega
 rw[<-v]at d;have m:=d.take (n:=y B) (by simp);rw[kS]at m;have x:=d.Cf (n:=y B) (by simp);rw[tr,v]at x;have bb:=xM L a b (le 4 (y B)++le 4 (mV B)) hT (by simp[cH];omega) (by simp[cH]) (by grind[cH]);have ax:y (le 4 (y B)++le 4 (mV B))=8:=by simp[cH]
 rw[ax]at bb;have r:Bytes w (bD L a 8 b) (le 4 (y B)++le 4 (mV B)):=by rw[<-C]at f;have p:=f.take (n:=8) (by omega);(have e8:(iN<|le 4 (y B)++le 4 (mV B)).take 8=le 4 (y B)++le 4 (mV B):=by unfold iN;rw[mr (by omega),eT<|by omega]);rw[e8]at p;exact p
 have ad:c-y B=y rest:=by omega
 obtain⟨e,g⟩:∃e,y B=e:=⟨_,rfl⟩;obtain⟨RL,k⟩:∃RL,y rest=RL:=⟨_,rfl⟩;obtain⟨cB,o⟩:∃cB,mV B=cB:=⟨_,rfl⟩;have t:∀W,Z ay w W->cY aZ 146 #[bD L (a+12) e K] W λaa w'=>aa=aM (dA cB)/\w'=W:=by intro W hW;have p:=hW.below (ah _) cL;rw[<-g,<-o];exact sU _ B W (hT.below p hT.lt) (m.below p (λbk q=>by cases q;exact A))<|by omega
 have al:=zV B;have an:=Ch B;rw[o]at al an;obtain⟨O,Q,V,bo⟩:=fY r t m x;rw[g,k]at ad hL;rw[g]at bi hB;rw[k]at hR;obtain⟨j,P,bh⟩:=dz g k o;have e1:(12:X)<=(bf:X):=by omega
 have e2:(bf:X)<=(b:X):=by omega
 have e3:¬(bf:X)<12:=by omega
 have e4:¬(b=12):=by omega
 have e5:¬(b-12=0):=by omega
 have e6:(12:X)<=(b:X):=by omega
 have e7:(e:X)<=(c:X):=by omega
 have e8:(e:X)<=(K:X):=by omega
 have e9:¬((c:X)<(e:X)):=by omega
 have bp:IntKind.u64.wrap (e:X)=e:=by rw[gH];omega
 have bq:IntKind.u64.wrap (c:X)=c:=by rw[gH];omega
 have br:(c:X)<=(K:X):=by omega
 have bm:∀(bx:Bool)(w:Y),(Op.unary .not<|aN bx).run aZ w=.ok (aN<|!bx) w:=λ_ _=>rfl;have bt:RL+e<=K:=by omega
 have bs:K<=9223372036854775807:=by omega
 clear hb f d r t m x hT g k o hL i v C ax;rw[J j,J P,hC];go_in
 go_wp2_with fail
 apply bb.mono;rintro aa F⟨rfl,l⟩;have aV:Z ay w F:=Z.aR l;have av:=mY (O.below l (λbk q=>by cases q;exact A)) (by intro bk q;cases q;exact ag A l.size);have S:=U aV;clear l aV;go_wp2_with fail
 apply av.mono;rintro aa w2⟨rfl,s,E⟩;have ba:Z ay F w2:=by rw[E];exact(cF _ F)
 have bv:z (G F)<z (G w2):=by rw[E];simp
 have bc:=sF (z<|G F) (e:M) (le 4<|mV B) w2 (by rw[<-J j];exact s) (kh.le 4 _) (by simp[cH]) (by omega) (by omega);have bg:=U ba;clear s E ba av;go_wp2_with fail
 apply bc.mono;rintro aa w3⟨rfl,aD,ao⟩;have u:=sF (z<|G F) cB [] w3 (by rw[<-J bh];grind) (by intro bx hx;cases hx) (by simp) al an;have ap:=U ao;clear aD ao bc;go_wp2_with fail
 apply u.mono;rintro aa N⟨rfl,aF,au⟩;have D:Z ay w N:=by have h3:Z (λbk=>bk=z (G F)) w2 N:=(fA ap).trans (fA au)<|λ_ h=>.inl h;exact(S.cz bg).trans h3<|λbk q=>.inr (by have:=S.size;omega)
 have aU:∀W,W.heap=N.heap->W.os=N.os->W.tape=N.tape->W.output=N.output->cY aZ 146 #[bD L (a+12) e K] W λaa w'=>aa=aM (dA cB)/\w'=W:=λW b c h3 d=>Q W (D.of_heap<|by rw[b,c,h3,d]);have T:=U D;clear aF au u D;by_cases ac:K=e;(·(obtain rfl:RL=0:=by omega);(obtain rfl:c=K:=by omega);subst ac;clear ad;(go_wp2_with fail);(go_quiet(first|(go_at_call 146;refine Calls.quiet_of_same (aU _ rfl rfl rfl rfl))));go_wp2;(go_ret3);refine⟨a+12,0,rfl,ah _,by omega,?_,?_,T.of_heap rfl⟩;have h:=J V;rw[J j]at h;exact h;obtain rfl:=aL P;exact .inr ⟨L,a+12,0,rfl,ah _,λbk q=>absurd q<|gq bk⟩);(have p:¬(K-e=0):=by omega);have d2:¬(K=e):=ac;(go_wp2_with fail);(go_quiet(first|(go_at_call 146;refine Calls.quiet_of_same (aU _ rfl rfl rfl rfl))));go_wp2;(go_ret3);refine⟨a+12+e,K-e,rfl,by omega,by omega,?_,?_,T.of_heap rfl⟩;have h:=J V;rw[J j]at h;exact h;grind[J]
structure YZ(w0 w:Y)(rb:M)(l:cR)(o:ab)(m:M):Prop where
 own:w.ownsRow (z<|G w0) 171 4 o m (aK<|l.take m)
 rd:Rd w rb ((l.drop m).flatMap oq) aX
 aj:Z ay w0 w
 UE:z (G w0)<=rb
 wU:∀k,cK o=H k->rb<k
def Fc(h:∀x∈e,x.Good):kh (e.flatMap oq):=by
 intro x a;obtain⟨c,b,a⟩:=lS.1 a;exact AX (h c b) x a
def DS(cf k ad:M)(l:cR)(bb:X)(w:Y)(hg:∀P∈l,P.Good)(hn:∀P∈l,P.bO=bb)(bs:0<=bb)(bt:bb<18446744073709551616)(h1:1<=y l)(h8:y l<=8)(hb:Bytes w (bD cf k (y<|iQ bb l) ad) (iQ bb l)):cY aZ 94 #[bD cf k (y<|iQ bb l) ad,aE bb] w λbL w'=>
 ∃a,bL=aM (dq #[a,aN ci])/\w'.ownsRow (z<|G w) 171 4 a (y l) (aK l)/\Z ay w w':=by
 obtain⟨i0,au,aU,aV,ba⟩:=di mZ
 have br:=pE hg
 have bq:cf<z (G w):=hb.lt (by unfold iQ;simp_all) cf rfl
 have F:=mY hb (by intro o e;cases e;exact bq)
 obtain⟨aa,hN⟩:∃aa,y l=aa:=⟨_,rfl⟩
 obtain⟨BL,al⟩:∃BL,y (iQ bb l)=BL:=⟨_,rfl⟩
 rw[al]at F|-
 have ca:∀(P:Bool)(w:Y),(Op.unary .not<|aN P).run aZ w=.ok (aN<|!P) w:=λ_ _=>rfl
 obtain⟨Q,HG,bd⟩:=dz hN hg hn
 rw[hN]at h1 h8
 clear hb hg hn al hN
 go_in
 go_wp2_with fail
 apply F.mono
 rintro bL w1⟨rfl,t,K⟩
 have aF:Z ay w w1:=by rw[K];exact(cF _ w)
 have cc:z (G w)<z (G w1):=by rw[K];simp
 have r:=Fc HG
 have bT:y (l.flatMap oq)<=280:=by rw[J Q]at br;omega
 have av:=AN (z<|G w) bb ((aa:X)::l.flatMap oq) w1 (by have h:=t;unfold iQ at h;rw[J Q]at h;exact h) (by intro P N;rcases bJ.1 N with rfl|N;omega;exact r P N) (by rw[aY];omega) bs bt
 have bm:=U aF
 clear t K aF F
 go_wp2_with fail
 apply av.mono
 rintro bL w2⟨rfl,u,B⟩
 have ao:=Yz (z<|G w) (aa:X) w2 u r (by omega) (by omega)<|by omega
 have cd:=B.size
 have bf:=U B
 clear u B av
 go_wp2_with fail
 apply ao.mono
 rintro bL w3⟨rfl,v,C⟩
 have bl:=U v
 have ce:=C.size
 have bg:=U C
 clear v C ao
 have e1:¬((aa:X)<1):=by omega
 have e2:¬((8:X)<(aa:X)):=by omega
 go_wp2_with(first
  |(at_make;go_loud(refine kr _ rfl _ _ 86 rfl (z (G w)) 171 i0 wo 4 underlying86 au aU aV _ _ _ aa rfl rfl (by omega) (by rw[ba];omega) (by unfold maxLen;omega) (by omega) ?_;intro w4 s p;have bh:=U s;have A:=U p;clear s p)))
 have cl:=A.size
 have hA0:YZ w w4 (z<|G w) l (bD (z<|G w3) 0 0 aa) 0:=by
  have a:Z (λo=>o=z (G w)) w1 w3:=(fA bf).trans (fA bg)<|λ_ h=>.inl h;have b:Z ay w w3:=bm.trans a (λo e=>.inr<|by omega);refine⟨bh,bl.laid A,b.cz (Z.ee (S:=ay) A<|by simp),ah _,?_⟩;intro o e;simp[cK]at e;omega
 have bc:=U hA0
 clear hA0
 go_loopw [8,28] (λo i wr=>∃m:M,m<=aa/\i=rD m/\YZ w wr (z<|G w) l o m) (λ_ i _=>aa-(intOf i).toNat)
 case atStart=>exact⟨0,bP _,rfl,bc⟩
 case round=>
  obtain⟨m,hm,rfl,d⟩:=hrel;have c:=d.own;obtain⟨ox,oc,ho⟩:=aB c;have ck:=d.aj.size;have cb:=d.rd.lt;have HA:=U d;by_cases ax:m<aa
  .have g:m<y l:=by rw[J Q];exact ax
   have n:=HG l[m]<|aq g;have an:=bd l[m]<|aq g;have f:=d.rd;rw[bG g,dU]at f;have q:kh ((l.drop<|m+1).flatMap oq):=Fc<|λP N=>HG P<|dQ N;have D:y ((l.drop<|m+1).flatMap oq)<=280:=by
    have L:=pE (l:=l.drop<|m+1)<|λP N=>HG P<|dQ N;grind[J]
   have ch:=CH n;have b:=GD (z<|G w) ((l.drop<|m+1).flatMap oq) wr f ((AX n).append q) (by grind) n;have bo:=U (show aK (l.take m)++aK [l[m]]=aK (l.take<|m+1)by rw[<-fW,ai g]);clear d c f q D n;generalize l[m]=P at*;obtain⟨W,xv,V,T⟩:=P;simp only at b an;subst an;unfold E.value at b;simp only at b;subst ho;go_wp2_with fail
   apply b.mono;rintro bL O⟨rfl,aD,ap⟩;have i:Z (λo=>o=z (G w)) wr O:=fA ap;have j:=aT (aT (i.own HA.own (λo e c=>by have:=HA.wU o e;omega))<|aw #[am W,am xv,aN V,aE T] 171)<|aw #[am W,am xv,aN V,aE T] 171;have cj:=i.size;obtain⟨ac,bn,bk⟩:=dz j i aD;clear aD ap j i;go_wp2_with(first
    |(at_builtin;go_loud(refine cA _ rfl (.tmp 39) (.tmp 41) 86 rfl (z (G w)) 171 i0 wo 4 48 underlying86 au aU aV ba rfl (by decide) (.slice ox m oc) m (aK (l.take m)) rfl ac (R (z (G O)+1) 0) 1 1 (aK [⟨W,xv,V,T⟩]) rfl rfl (za ⟨W,xv,V,T⟩ _ (by simp)) (BR _) (by omega) (by omega) (by simp;omega) ?_;intro o2 w6 a x;have bi:=U a;have bp:=U x;clear a x)))
   go_roundw;case rel=>
    refine⟨m+1,ax,by go_num,?_⟩;have d:=J HA;have i:=J bn;have L:=J bp;have a:=J bi;have bu:=d.own.lt;have bE:Z (λo=>cK (I ox m oc)=H o) O w6:=(((Z.refl (λo=>cK (I ox m oc)=H o) O).alloc _).alloc _).trans (Z.fH L)<|λo e=>.inl e;refine⟨by rw[<-J bo];exact a,?_,(d.aj.trans i<|λo e=>.inr<|by omega).trans bE<|λo e=>.inr (bu o e).1,d.UE,?_⟩
    .have hr:=J bk;have bv:=hr.laid<|dD O (aw #[am W,am xv,aN V,aE T] 171) none;have bx:=bv.laid<|dD _ (aw #[am W,am xv,aN V,aE T] 171) none;exact bx.wrote L d.wU
    .intro o e;rcases L.vp with bv|⟨bx,bv,hy⟩
     .exact d.wU o<|bv.symm.trans e
     .rw[bv]at e;cases e;simp at hy;omega
   case measure=>simp[intOf];omega
  .have j:m=aa:=by omega
   subst j;have g:l.take m=l:=by rw[<-J Q,bI]
   have b:l.drop m=[]:=by rw[<-J Q,gv]
   have f:=d.rd;rw[b]at f;have a:=yw f (by simp);simp only[vA,qH,nG,uP]at a;rw[ho,g]at c;have n:=U c;have i:=U d.aj;clear d c f b g;subst ho;go_wp2_with fail
   apply a.mono;rintro bL O⟨rfl,q⟩;subst O;go_wp2;go_ret2
   exact⟨_,rfl,by rw[J Q];exact n,i⟩
def jZ:X->dS->eR
 |_,[]=>[]
 |f,l::r=>pI f l++jZ (f+1) r
structure Ac(f:X)(ls:dS):Prop where
 iP:∀l∈ls,∀x∈l,x.Good
 num:∀i(hi:i<y ls),∀x∈ls[i],x.bO=f+i
 one:∀l∈ls,1<=y l/\y l<=8
 sum:(ls.map y).sum<32
 f0:0<=f
 f1:f+y ls<18446744073709551616
def CG{n:X}(h:∀x∈e,x.Good)(a:y e<=8):y (pI n e)<=400:=by
 have:=pE h;unfold pI iQ;grind[length_append,gy,cH,length_cons]
def xV{f:X}{lsqq:dS}(h:∀l∈lsqq,(∀x∈l,x.Good)/\y l<=8):y (jZ f lsqq)<=400*y lsqq:=by
 induction lsqq generalizing f with
 |nil=>simp[jZ]
 |cons l r b=>
  have a:=CG (n:=f) (h l<|by simp).1 (h l<|by simp).2;have c:=b (f:=f+1) (λx a=>h x<|by simp[a]);rw[jZ,af,aY];omega
def II(h:∀a∈l,1<=y a):y l<=(l.map y).sum:=by
 induction l with
 |nil=>simp
 |cons a r b=>
  have c:=h a (by simp);have d:=b (λx a=>h x<|by simp[a]);grind
def FP(w:Y)(b:M)(c:gW)(a:dS):Prop:=y c=y a/\∀i(d:i<y c)(e:i<y a),w.ownsRow b 171 4 c[i] (y a[i])<|aK a[i]
def SN:(prog.info? 86).map (λi=>(i.zero,i.size,i.bytes))=H (H az,1,24):=by kernel_rfl
structure Nj(w0 w:Y)(f:X)(ls:dS)(b zqq c m:M)(o:ab)(vs:gW):Prop where
 box:w.heap[z (G w0)+1]?=H (aw #[o,aN aX] 140 (0,0))
 uz:w.heap[z<|G w0]?=H (aw #[az,aN aX] 140 (0,0))
 own:w.ownsRow (z (G w0)+2) 86 1 o m vs
 o9:FP w (z (G w0)+2) vs (ls.take m)
 bytes:Bytes w0 (bD b zqq (y<|jZ (f+m)<|ls.drop m) c) (jZ (f+m)<|ls.drop m)
 cap:y (jZ (f+m)<|ls.drop m)<=c/\c<=9223372036854775807
 aj:Z ay w0 w
def FY(h:b<y l):((l.take<|b+1).map y).sum=((l.take b).map y).sum+y l[b]:=by
 rw[ai h,aP,fw];simp
def Ky(a:dS)(m:M):((a.take m).map y).sum<=(a.map y).sum:=by
 have h:=bS (λl=>(l.map y).sum)<|bV m a;grind
def Nj.step{c K w1 w2:Y}{N D L z' c' m:M}{p o2 bv:ab}{g:Obj}(q:Nj c K k l N D L m p B)(hm:m<y l)(j:Z ay K w1)(P:w1.ownsRow (z<|G K) 171 4 bv (y l[m]) (aK l[m]))(F:w2.ownsRow (z (G c)+2) 86 1 o2 (m+1) (B++[bv]))(hw:eE (cN w1 g) w2 p o2)(s:Bytes c (bD N z' (y<|jZ (k+(m+1:M))<|l.drop<|m+1) c') (jZ (k+(m+1:M))<|l.drop<|m+1))(t:y (jZ (k+(m+1:M))<|l.drop<|m+1)<=c'/\c'<=9223372036854775807):Nj c (cq w2 (R (z (G c)+1) 0) o2) k l N z' c' (m+1) o2 (B++[bv])/\aW w2 (R (z (G c)+1) 0)=H p/\w2.frozen? (R (z (G c)+1) 0)=aX:=by
 have hz:=ak q.box;have aa:=q.aj.size;have f:=bM q.own;have n:Z (λb=>cK p=H b) w1 w2:=((Z.refl (λb=>cK p=H b) w1).alloc g).trans (Z.fH hw)<|λ_ a=>.inl a;have w:Z (λb=>cK p=H b) K w2:=(j.mono (T:=λb=>cK p=H b) cL).trans n<|λ_ a=>.inl a;have o:∀b,cK p=H b->∃h,K.heap[b]?=H (aw h 86 (0,0)):=λb a=>fE q.own a;have e:w2.heap[z (G c)+1]?=H (aw #[p,aN aX] 140 (0,0)):=(w.block _ hz (λO=>by have:=(f _ O).1;omega)).trans q.box;have d:Z (λb=>b=z (G c)+1) w2 (cq w2 (R (z (G c)+1) 0) o2):=(Z.refl _ w2).setCell _ 0 _<|.inl rfl;refine⟨⟨?_,?_,?_,?_,s,t,?_⟩,by rw[cg e];rfl,cP e⟩;have:=aH (i:=0) (u:=o2) e;grind
 exact(jd _<|by omega).trans<|(w.block _ (ak q.uz) (λO=>by have:=(f _ O).1;omega)).trans q.uz;exact d.own F (λb a L=>by have:=(bM F b a).1;omega);obtain⟨v1,v2⟩:=q.o9;(have x:y B=m:=by rw[v1];simp;omega);refine⟨by grind,λr h1 h2=>?_⟩;(have A:∀(V:Y)(ad:ab)(ac:M)(C:gW),V.ownsRow (z (G c)+2) 171 4 ad ac C->Z (λb=>cK p=H b) V w2->(∀b,cK p=H b->∃h,V.heap[b]?=H (aw h 86 (0,0)))->(cq w2 (R (z (G c)+1) 0) o2).ownsRow (z (G c)+2) 171 4 ad ac C:=by intro V ad ac C W v S;have i:=v.own W (λb a L=>by grind[fE,kw]);exact d.own i (λb a L=>by have:=(bM i b a).1;omega));rcases ik r m with Q|Q;(have E:(B++[bv])[r]=B[r]'(by omega):=uN (by omega);grind);(have v:r=m:=by grind);subst v;(have E:(B++[bv])[r]=bv:=by rw[ud<|by omega];simp[x]);have C:(l.take<|r+1)[r]=l[r]:=ly;rw[E,C];refine A w1 _ _ _ (fX P<|by omega) n<|λb a=>?_;obtain⟨h,i⟩:=o b a;exact⟨h,(j.block b (ak i) id).trans i⟩;exact(q.aj.trans w<|λb a=>.inr (by have:=(f b a).1;omega)).trans d<|λb a=>.inr<|by omega
def CE{c:Func}{p u:Tmp}(j:c.results=#[.cell p 140,.tmp u])(a:Array ab)(w:Y)(g:M)(x:Option Addr)(n k:M)(e:Bool)(t:TypeId)(d:M×M)(i:a.getD p iH=aA g)(f:w.heap[g]?=H (aw #[I x n k,aN e] t d)):(results c a).run aZ w=.ok (dq #[dC #[I x n k,aN e],a.getD u iH]) w:=by
 have b:a[p]?.getD iH=aA g:=by simpa using i
 have h:=ku (P:=aZ) w g t 140 #[I x n k,aN e] d _ f underlying140 rfl (by kernel_rfl);simp[results,j,b,asAddr,h,Result.andThen]
def Bytes.back(o:Bytes f (bD b c g m) n)(j:Z ay a f)(h:b<z (G a)):Bytes a (bD b c g m) n:=by
 rcases o with⟨e,_⟩|⟨k,p,l,e,d,i⟩;cases e;cases e;exact .inr ⟨_,_,_,rfl,d,λk e=>(dt (w:=a)<|j.block _ h id).symm.trans<|i k e⟩
def Uu:ab->M
 | .slice _ n _=>n
 |_=>0
def Rl(x:Option Addr)(n c:M):Uu (I x n c)=n:=rfl
def RI(f:X)(a:dS)(m:M)(h:m<y a):jZ (f+(m:M)) (a.drop m)=iN (le 4 (y<|iQ (f+(m:M)) a[m])++le 4 (mV<|iQ (f+(m:M)) a[m]))++iQ (f+(m:M)) a[m]++jZ (f+((m+1:M):M)) (a.drop<|m+1):=by
 rw[bG h,jZ];unfold pI;grind
def Jj(aD d n:M)(hT:Steps a)(hP:Ac k l)(bm:y (jZ k l)<=n)(cf:n<=9223372036854775807)(N:aD<z (G a))(hb:Bytes a (bD aD d (y<|jZ k l) n) (jZ k l)):cY aZ 56 #[bD aD d (y<|jZ k l) n,aE k] a λbt w'=>
 ∃cM aU F,bt=aM (dq #[dC #[I cM (y l) aU,aN aX],aN ci])/\w'.ownsRow (z (G a)+2) 86 1 (I cM (y l) aU) (y l) F/\FP w' (z (G a)+2) F l/\Z ay a w':=by
 obtain⟨i0,cj,cn,co,cp⟩:=di SN
 have cB:∀(cM:Bool)(a:Y),(Op.unary .not<|aN cM).run aZ a=.ok (aN<|!cM) a:=λ_ _=>rfl
 have cx:y l<32:=Nat.lt_of_le_of_lt (II<|λj Q=>(hP.one j Q).1) hP.sum
 have dc:=hP.f0
 have dk:=hP.f1
 obtain⟨RL,ad⟩:∃RL,y (jZ k l)=RL:=⟨_,rfl⟩
 have hA0:Nj a (cN (cN a<|aw #[az,aN aX] 140)<|aw #[az,aN aX] 140) k l aD d n 0 az []:=by
  refine⟨aJ _ (by simp),(fU _<|by simp).trans<|aJ _ rfl,cO _ _ _ _,⟨rfl,λbu h1=>absurd h1<|gq bu⟩,?_,?_,(cF _ a).alloc _⟩
  .simpa using hb
  grind
 obtain⟨aV,HT,V,cc⟩:=fY hA0 hT hP ad
 rw[ad]
 clear hA0 hT hP hb bm cf ad
 go_in
 go_wp2
 go_loopw [0,7] (λbv b wr=>∃m e aF dv F,m<=y l/\bv=bD aD e (y<|jZ (k+(m:M))<|l.drop m) aF/\b=ar (((l.take m).map y).sum:M)/\Nj a wr k l aD e aF m dv F) (λbv _ _=>Uu bv)
 case atStart=>exact⟨0,d,n,_,_,bP _,by rw[<-J cc];simp,rfl,aV⟩
 case round=>
  obtain⟨m,e,aF,dv,F,hm,rfl,rfl,c⟩:=hrel;have ax:∀ac,Z ay wr ac->Steps ac:=λac hW=>HT.below ((c.aj.cz hW).below (ah _) cL) HT.lt;obtain⟨s,r,ho⟩:=aB c.own;have v:=cellAt c.box 0 rfl;have db:=cellAt c.box 1 rfl;have dn:=c.aj.size;have bs:=ak c.box;by_cases p:m<y l
  .have S:=aq p;have B:=V.iP _ S;have C:=V.num m p;have D:=V.one _ S;have E:=FY p;have bo:=Ky l<|m+1;have cm:=V.sum;have bn:=RI k l m p;have o:=c.bytes;have g:=c.cap;have av:=xV (f:=k+((m+1:M):X)) (lsqq:=l.drop<|m+1)<|λj Q=>⟨V.iP j<|dQ Q,(V.one j<|dQ Q).2⟩;have ch:y (l.drop<|m+1)<=32:=by simp;omega
   rw[bn]at o g|-;have HA:=U c;obtain⟨j,Q⟩:∃j,l[m]=j:=⟨_,rfl⟩;rw[Q]at B C D E o g|-;have bL:=U Q;obtain⟨q,hq⟩:∃q:X,k+(m:M)=q:=⟨_,rfl⟩;rw[hq]at C o g|-;have ck:0<=q:=by omega
   have cl:q<18446744073709551616:=by omega
   obtain⟨b,an⟩:∃b,jZ (k+((m+1:M):X)) (l.drop<|m+1)=b:=⟨_,rfl⟩;rw[an]at o g av|-;have ce:y (iQ q j)<=1000:=by have:=pE B;unfold iQ;rw[af,aY,cH];omega
   have L:0<y (iQ q j):=by unfold iQ;rw[af,cH];omega
   have t:y (iN (le 4 (y<|iQ q j)++le 4 (mV<|iQ q j))++iQ q j++b)=12+y (iQ q j)+y b:=by grind[length_append,gy,cH]
   have O:Bytes wr (bD aD e (y<|iN (le 4 (y<|iQ q j)++le 4 (mV<|iQ q j))++iQ q j++b) aF) (iN (le 4 (y<|iQ q j)++le 4 (mV<|iQ q j))++iQ q j++b):=o.below (c.aj.below (ah _) cL) (λaU P=>by cases P;exact N);have hcut:=LN aD e aF _ (iQ q j) b (w:=wr) (ax wr<|Z.refl _ _) L (by omega) (by omega) t g.1 g.2 O;have i:=c.own;rw[ho]at i v;have cb:=U i;obtain⟨LL,bh⟩:∃LL,y (iN (le 4 (y<|iQ q j)++le 4 (mV<|iQ q j))++iQ q j++b)=LL:=⟨_,rfl⟩;rw[bh]at hcut t|-;obtain⟨K,A⟩:∃K,y j=K:=⟨_,rfl⟩;obtain⟨BL,x⟩:∃BL,y (iQ q j)=BL:=⟨_,rfl⟩;have bf:=U<|λ(ac:Y)(hW:Z ay wr ac)(ao:Bytes ac (bD aD (e+12) BL<|aF-12) (iQ q j))=>DS aD (e+12) (aF-12) j q ac B C ck cl D.1 D.2 (by rw[x];exact ao);have T:∀ac,Z ay wr ac->Bytes ac (bD aD (e+12) BL<|aF-12) (iQ q j)->cY aZ 94 #[bD aD (e+12) BL<|aF-12,aE q] ac λbt w'=>∃a,bt=aM (dq #[a,aN ci])/\w'.ownsRow (z<|G ac) 171 4 a K (aK j)/\Z ay ac w':=by
    intro ac hW ao;have h:=bf ac hW ao;rw[x,A]at h;exact h
   have bg:=U T;have bT:=U A;rw[x]at hcut t;obtain⟨RN,al⟩:∃RN,y b=RN:=⟨_,rfl⟩;rw[al]at hcut t av;rw[A]at E D;obtain⟨S0,bi⟩:∃S0,((l.take m).map y).sum=S0:=⟨_,rfl⟩;rw[bi]at E|-;obtain⟨cd,aa,W,HQ⟩:=fY E an al hq;have cu:(0:X)<(LL:X):=by omega
   have a1:IntKind.u64.wrap (m:X)=m:=by rw[gH];omega
   have a2:IntKind.u64.wrap q=q:=by rw[gH];omega
   have a3:IntKind.i64.wrap ((S0:X)+(K:X))=(S0:X)+K:=by rw[bN];omega
   have a4:¬((32:X)<=(S0:X)+(K:X)):=by omega
   have a5:k+(m:X)=q:=hq;have he:∀(b:Addr)(n aU:M)(a:Y),(binOp .eql 103 (I (H b) n aU) az).run aZ a=.ok (aN aX) a:=λ_ _ _ _=>rfl;have ba:=U (show RN<LL by omega);clear ax c B C bo cm bn o g av ch Q hq an ce L t O bh A x T i al bi bf;subst ho;go_wp2_with fail
   apply hcut.mono;rintro bt w1⟨z',c',rfl,g1,g2,bk,bl,w⟩;have cv:aW w1 (R (z (G a)+1) 0)=H (I s m r):=w.cell v id bs;have bq:=bg w1 w<|bk.below (w.below (ah _) cL) (λaU P=>by cases P;show aD<z (G wr);omega);have bc:=U w;have bE:=U bl;clear bk bl w hcut;go_wp2_with fail
   apply bq.mono;rintro bt w2⟨bv,rfl,au,bp⟩;obtain⟨cs,cr,rfl⟩:=aB au;have f:Z ay wr w2:=bc.cz bp;have cw:aW w2 (R (z (G a)+1) 0)=H (I s m r):=f.cell v id bs;have cE:=f.size;obtain⟨bb,ca,bd⟩:=dz (f.own cb<|λ_ _ aF=>aF) (fX au bc.size) f;clear au bp f bq;go_wp2_with(first
    |(at_builtin;go_loud(refine cA _ rfl (.tmp 50) (.tmp 52) 138 rfl (z (G a)+2) 86 i0 az 1 24 underlying138 cj cn co cp rfl (by decide) (.slice s m r) m F rfl (aT bb _) (R (z (G w2)) 0) 1 1 [.slice cs K cr] rfl rfl (pN _ _ _) (by simp[Value.oneCell']) (by omega) (by omega) (by simp;omega) ?_;intro o2 w3 ap br;obtain⟨hA3,cT,dm⟩:=HA.step (z':=z') (c':=c') (w1:=w2) (w2:=w3) (o2:=o2) (bv:=.slice cs K cr) p bd (by rw[J bL];have h:=J ca;have bt:=J bT;rw[<-bt]at h;rw[bt];rw[bt]at h;exact h) ap br (by rw[J aa];have hh:=bE.back HA.aj N;rw[<-J W]at hh;exact hh) (by rw[J aa,J W];simp_all);obtain⟨ds,dr,rfl⟩:=aB ap;have bx:=U hA3;clear ap br hA3)))
   go_roundw;case rel=>exact⟨m+1,z',c',_,_,p,by rw[J aa,J W],by rw[J cd];go_num,bx⟩
   case measure=>
    simp only[Rl];exact ba
  .have i:m=y l:=by omega
   have w:l.drop m=[]:=by rw[i,gv]
   have x:l.take m=l:=by rw[i,bI]
   have D:z (G a)<z (G wr):=ak c.uz;have S:=cellAt c.uz 0 rfl;have T:=cellAt c.uz 1 rfl;have W:=cP (i:=0) c.uz;have r3:=cP (i:=1) c.uz;have f:=c.own;have b:=c.o9;have A:=c.aj;have o:=c.uz;rw[ho]at f v;rw[x]at b;rw[i]at f v;rw[w];show Code.wp _ _ _ _ _;have t:=U (show(cq (cq wr (R (z<|G a) 0)<|I s (y l) r) (R (z<|G a) 1)<|aN aX).heap[z<|G a]?=H (aw #[I s (y l) r,aN aX] 140 (0,0))/\(cq (cq wr (R (z<|G a) 0)<|I s (y l) r) (R (z<|G a) 1)<|aN aX).ownsRow (z (G a)+2) 86 1 (I s (y l) r) (y l) F/\FP (cq (cq wr (R (z<|G a) 0)<|I s (y l) r) (R (z<|G a) 1)<|aN aX) (z (G a)+2) F l/\Z ay a (cq (cq wr (R (z<|G a) 0)<|I s (y l) r) (R (z<|G a) 1)<|aN aX)from by
    have g:Z (λaU=>aU=z (G a)) wr (cq (cq wr (R (z (G a)) 0) (I s (y l) r)) (R (z (G a)) 1) (aN aX)):=(gZ (z (G a)) wr).setCell (z (G a)) 1 _ (.inl rfl);refine⟨?_,g.own f (λaU P aF=>by have:=(bM f aU P).1;omega),⟨b.1,λbu h1 B=>g.own (b.2 bu h1 B) (λaU P aF=>by have:=(bM (b.2 bu h1 B) aU P).1;omega)⟩,A.trans g (λaU P=>.inr (by omega))⟩;have B:=aH (i:=1) (u:=aN aX) (aH (i:=0) (u:=I s (y l) r) o);simpa using B)
   subst i;clear c ax f b A o w x aV V;subst ho;have C:y (jZ (k+(y l:M)) [])=0:=rfl;rw[C];go_wp2;obtain⟨E,K,L,O⟩:=J t;refine ct (CE rfl _ _ (z<|G a) s (y l) r aX _ _ rfl E) rfl ?_;exact⟨s,r,F,rfl,K,L,O⟩
def LM(q:X)(w:Y):cY aZ 56 #[az,aE q] w λp g=>
 ∃x k a,p=aM (dq #[dC #[I x (y ([]:dS)) k,aN aX],aN ci])/\g.ownsRow (z (G w)+2) 86 1 (I x (y ([]:dS)) k) (y ([]:dS)) a/\FP g (z (G w)+2) a []/\Z ay w g:=by
 obtain⟨d,a⟩:∃d,cN (cN w<|aw #[az,aN aX] 140) (aw #[az,aN aX] 140)=d:=⟨_,rfl⟩
 have b:d.heap[z<|G w]?=H (aw #[az,aN aX] 140 (0,0)):=by rw[<-a];exact(fU _<|by simp).trans<|aJ _ rfl
 have c:d.heap[z (G w)+1]?=H (aw #[az,aN aX] 140 (0,0)):=by rw[<-a];exact aJ _<|by simp
 have j:Z ay w d:=by rw[<-a];exact(cF _ w).alloc _
 have m:=cellAt b 0 rfl
 have n:=cellAt b 1 rfl
 have o:=cellAt c 0 rfl
 have c1:=cellAt c 1 rfl
 have r:∀i,d.frozen? (R (z<|G w) i)=aX:=λi=>cP b
 have f:=U b
 have k:=U j
 have l:=U a
 clear b c j a
 go_in
 go_wp2
 rw[J l]
 refine gX 1 ?_
 rw[gd]
 go_wp2
 have e:=aH (i:=1) (u:=aN aX)<|aH (i:=0) (u:=az) f
 refine ct (CE rfl _ _ (z<|G w) none 0 0 aX _ _ rfl e) rfl ?_
 exact⟨none,0,[],rfl,cO _ _ _ _,⟨rfl,λi a=>absurd a<|gq i⟩,((J k).setCell (z<|G w) 0 _<|.inr<|ah _).setCell (z<|G w) 1 _<|.inr<|ah _⟩
def zT:(prog.info? 9).map (λi=>(i.zero,i.size,i.bytes))=H (H<|am ⟨#[]⟩,1,16):=by kernel_rfl
def BF(a:cJ ae)(n:ae):strs (a++[n])=strs a++[am n]:=by simp[strs]
def EV{db:M}{K:DK}{w:Y}(h:cG w db K)(hn:y K.files<=100000000):cY aZ 52 #[aA db] w λau w'=>∃v' a,au=aM v'/\List.Perm a (K.files.map da.name)/\w'.ownsRow (z<|G w) 9 1 v' (y a) (strs a)/\Z ay w w':=by
 obtain⟨i0,V,ad,al,an⟩:=di zT;have aF:=cellAt h.ie 0 rfl;have g:=U h.now;clear h;go_in
 go_wp2_with(first
  |(at_range;refine qZ _ rfl _ 59 rfl 9 102 underlying59 K.nb _ rfl g ?_;intro w0 i A bb;have O:=U i;have u:=U A;clear i A))
 go_frame
 go_loopw [3] (λo wr=>∃(ap:cJ da)(a:cJ ae),(a++ap.map da.name).Perm (K.files.map da.name)/\wr.ownsRow (z<|G w) 9 1 o (y a) (strs a)/\cK o≠H (z<|G w)/\pH wr K.nb (z<|G w) (K.files.map da.nm) (ap.map da.nm)/\Z ay w wr) (λ_ wr=>wr.rangeLeft K.nb<|z<|G w)
 case atStart=>exact⟨K.files,[],lU _,cO _ _ _ _,(by simp[cK]),O,Z.ee u<|by simp⟩
 case round=>
  obtain⟨ap,a,hp,W,E,C,ht⟩:=hrel;have ba:y a<=100000000:=by have:=hp.length_eq;grind
  obtain⟨q,p,aa⟩:=aB W;obtain⟨t,HT,HP,Q,l⟩:=iO C ht hp W E;clear C ht hp W E;subst aa;go_wp2_with(first
   |(at_next;refine pW _ rfl _ rfl K.nb (z (G w)) _ _ rfl t ?_ ?_))
  .intro o;obtain rfl:ap=[]:=by simpa using o
   have e:=Ut a Q (by omega);go_wp2_with fail
   apply e.mono;rintro au s⟨rfl,r,c,b,f⟩;obtain⟨n,m,j⟩:=dz b f c;clear b f c e;go_wp2;go_ret;refine⟨_,r,rfl,?_,n,HT.trans m<|λk d=>.inr (Q.lt k d).1⟩;have:=J HP;simp only[gR,dM]at this;exact j.trans this
  .intro pre pk pv ao r N c B ac aU;obtain⟨bf,ax,bg,rfl,rfl,L,rfl⟩:=EJ N;simp only[da.nm,kM,ib]at L;obtain⟨rfl,rfl⟩:=L;have o:Z (λk=>k=z (G w)) wr r:=fA B;have F:=o.own Q (λk d T=>J l<|by rw[d,T]);have D:=c.lt;obtain⟨P,v,m⟩:=dz c (HT.trans o<|λx a=>.inr<|by omega) F;have aD:K.nb≠z (G w):=λau=>c.ne au.symm;have aV:K.nb<z (G w):=g.lt;clear N c B ac o F;go_wp2_with(first
    |(at_builtin;go_loud(refine cA _ rfl (.tmp 14) (.tmp 16) 132 rfl (z (G w)) 9 i0 (.string ⟨#[]⟩) 1 16 underlying132 V ad al an rfl (by decide) (.slice q (y a) p) (y a) (strs a) rfl (aT m (.cells #[.string ax.name] 9)) (R (z (G r)) 0) 1 1 [.string ax.name] rfl rfl (oZ _ _ _) (by simp[Value.oneCell']) (by omega) (by omega) (by have:=v.size;simp;omega) ?_;intro v2 w3 b j;obtain⟨bd,bc,rfl⟩:=aB b;have n:=U b;have x:=U j;clear b j)))
   have s:=U (show pH w3 K.nb (z<|G w) (K.files.map da.nm) (bf.map da.nm++bg.map da.nm)from by
    have f:=J x;have e:Z (λk=>cK (I q (y a) p)=H k) r w3:=((Z.refl (λk=>cK (I q (y a) p)=H k) r).alloc _).trans (Z.ee (S:=λk=>cK (I q (y a) p)=H k) f.grown (λk d=>.inl d)) (λk d=>.inl d);refine P.kept (e.block _ (by omega) (λT=>?_)) (e.block _ D (λT=>J l T));have:=(m.lt _ T).1;omega)
   go_roundw;case rel=>
    have f:=J x;have e:Z (λk=>cK (I q (y a) p)=H k) r w3:=((Z.refl (λk=>cK (I q (y a) p)=H k) r).alloc _).trans (Z.ee (S:=λk=>cK (I q (y a) p)=H k) f.grown<|λk d=>.inl d)<|λk d=>.inl d;refine⟨bf++bg,a++[ax.name],?_,?_,?_,?_,?_⟩
    .refine List.Perm.trans ?_ HP;rw[bA];refine qA _ ?_;grind[singleton_append,Perm.symm,perm_middle]
    .rw[BF,af];exact n
    .rcases f.vp with av|⟨bh,av,hg⟩
     .rw[av];exact l
     .rw[av];intro T;cases T;simp at hg;omega
    .rw[aP];exact s
    .exact v.trans e<|λk d=>.inr (m.lt k d).1
   case measure=>rw[(J s).left_eq,(J t).left_eq];simp
def Mw{b:Fs}(h:F.Perm b):mG F=mG b:=(h.map _).sum_nat
def Hm:∀{a:cJ da}{f:da},f∈a->y f.bytes<=fB a
 |[],f,h=>by cases h
 |g::a,f,h=>by
  have e:fB (g::a)=y g.bytes+fB a:=by simp[fB]
  rcases bJ.1 h with q|q
  .rw[q];omega
  .have:=Hm q;omega
def Wu(h:cG a b x)(N:((vw x.files).map (·.1)).Nodup):cY aZ 15 #[.pointer<|H ⟨b,0,none⟩] a λcf w'=>∃g K',cf=.returned (.pointer<|H ⟨g,0,none⟩)/\cG w' g K'/\(vw K'.files).Perm (vw x.files)/\K'.gT=[]/\(∀k,K'.aO g k->z (G a)<=k)/\Z (λ_=>False) a w'/\K'.fx=⟨x.fx.room,0,0,0,0⟩/\K'.sm=K'.files.map da.nm/\∀f∈K'.files,f.safe=y f.bytes:=by
 have co:∀f∈x.files,y f.bytes<=1099511627776:=λf c=>by have h1:=Hm c;have h2:=h.room;have h3:=h.kK;omega
 have P:=h.room;have aa:=h.kK;have ei:aW a ⟨b,0,none⟩=H (.map<|H x.nb):=by rw[cg h.ie];rfl
 have ej:aW a ⟨b,3,none⟩=H (.int .i64 x.fx.room):=by rw[cg h.ie];rfl
 have cl:=xZ a x.fx.room ⟨by omega,aa⟩;obtain⟨HD,HB,HN⟩:=dz h co N;clear h co N;go_in
 go_wp2_with fail
 apply cl.mono;rintro cf w1⟨rfl,r,cn⟩;have ao:Z (λ_=>False) a w1:=Z.aR cn;have al:=(J HD).aj ao<|λ_ _=>id;have ff:aW w1 ⟨b,0,none⟩=H (.map<|H x.nb):=by rw[cg al.ie];rfl
 obtain⟨g,bh⟩:∃g,z (G a)+2=g:=⟨_,rfl⟩;rw[bh]at r|-;obtain⟨K1,w⟩:∃K1,pC (z<|G a) x.fx.room=K1:=⟨_,rfl⟩;rw[w]at r;have cT:K1.gT=[]:=by rw[<-w];rfl
 have cr:K1.files=[]:=by rw[<-w];rfl
 have ce:=U (show K1.fx=⟨x.fx.room,0,0,0,0⟩/\K1.sm=[]by rw[<-w];exact⟨rfl,rfl⟩);have ed:=U<|And.intro P aa;clear P aa;have aU:∀k,K1.aO g k->z (G a)<=k:=by intro k o;rw[<-w,<-bh]at o;rcases o with d|d|d|d|⟨gg,hx,d⟩|⟨fu,hg,d⟩;omega;have:k=z (G a):=d;omega;have:k=z (G a)+1:=d;omega;cases d;cases hx;cases hg
 obtain⟨bT,fv,B,cc,ax,eb,bd⟩:=zo al.now al r ao aU cT cr;have ex:=ao.size;clear cl cn ao al r aU cT cr w bh ei ej
 go_wp2_with(first
  |(at_range;refine qZ _ rfl _ 59 rfl 9 102 underlying59 x.nb _ rfl (J bT) ?_;intro w0 aV cw et;have bu:=U aV;have D:=U cw;clear aV cw))
 go_frame
 obtain⟨rb,dn⟩:∃rb,z (G w1)=rb:=⟨_,rfl⟩;rw[dn]at bu|-;have fl:z (G a)<=rb:=by omega
 obtain⟨bp,ef,bt⟩:=dz ((J B).aj (Z.ee (S:=λ_=>False) (J D)<|by simp)<|λ_ _=>id) ((J cc).cz<|Z.ee (S:=λ_=>False) (J D)<|by simp) (show∀k,K1.aO g k->z (G a)<=k/\k≠rb fromλk o=>⟨(J ax) k o,by have:=(J B).lt k o;omega⟩);clear B cc ax D ex et dn;go_loopw [4] (λ_ wr=>∃(eB:cJ da)(K':DK),(vw K'.files++vw eB).Perm (vw x.files)/\K'.gT=[]/\cG wr g K'/\(∀k,K'.aO g k->z (G a)<=k/\k≠rb)/\pH wr x.nb rb (x.files.map da.nm) (eB.map da.nm)/\(∀f∈eB,f∈x.files)/\Z (λ_=>False) a wr/\K'.fx=⟨x.fx.room,0,0,0,0⟩/\K'.sm=K'.files.map da.nm/\∀f∈K'.files,f.safe=y f.bytes) (λ_ wr=>wr.rangeLeft x.nb rb)
 (case atStart=>refine⟨x.files,K1,?_,J eb,J bp,J bt,J bu,λ_ d=>d,J ef,(J ce).1,by rw[(J ce).2,J bd];rfl,by rw[J bd];simp⟩;rw[J bd];exact lU _)
 case round=>
  obtain⟨eB,K',hp,hm,cp,cv,cE,hL,ht,hx⟩:=hrel;have HX:=U hx;clear hx;obtain⟨bE,HT,HP,bq,l,HL,HM⟩:=zo cE ht hp cp cv hL hm;clear cE ht hp cp cv hL hm;go_wp2_with(first
   |(at_next;refine pW _ rfl _ rfl x.nb rb _ _ rfl (J bE) ?_ ?_))
  .intro c;obtain rfl:eB=[]:=by simpa using c
   go_wp2;go_ret;refine⟨g,rfl,K',J bq,?_,J HM,λk o=>((J l) k o).1,J HT,J HX⟩;have:=J HP;simpa[vw]using this
  .intro pre pk pv fn m dv ba cx eu gc;obtain⟨fr,f,fs,rfl,rfl,dm,rfl⟩:=EJ dv;simp only[da.nm,kM,ib]at dm;obtain⟨rfl,rfl⟩:=dm;have bo:Z (λk=>k=rb) wr m:=fA cx;have ac:Z (λ_=>False) a m:=(J HT).trans bo (λgg hx=>.inr<|by omega);have s:=(J bq).aj bo<|λk o cf=>((J l) k o).2 cf;have cs:f∈x.files:=(J HL) f (by simp);have cu:=(J HD).files f cs;have j:=cu.aj ac id<|λ_ _ d=>d;have bi:=Ip (v:=f.data) (bs:=f.bytes) (w:=m.drew) (j.2.1.bytes.of_heap rfl) ((J HB) f cs)<|λk o=>((bM j.2.1 k o).2:k<z (G m));have er:=ak j.1;have k0:aW m.drew ⟨g,0,none⟩=H (.map<|H K'.nb):=by rw[bF,cg s.ie];rfl
   have kd:aW m.drew ⟨f.pa,0,none⟩=H f.data:=by rw[bF,cg j.1];rfl
   obtain⟨fd,fb,el⟩:=aB j.2.1;have bb:=ak s.ie;obtain⟨c,E,C,dx⟩:=fY s ac ba j;clear dv ba cx eu bo ac s cu j;rw[el]at kd bi;go_wp2_with fail
   rename_i QQ KK ck;refine dR (λe=>aW e ⟨g,0,none⟩=H (.map<|H K'.nb)/\aW e ⟨f.pa,0,none⟩=H (.slice fd (y f.bytes) fb)) 17 (by kernel_rfl) ?_;have bf:=And.intro k0 kd;refine fh 0 ?_;iterate 9 (refine Ao (v:=?_) bf rfl (by kernel_rfl) (λ_ _ _ h=>h) (Or.inl ⟨by rfl,?_⟩) ?_;rotate_left;(focus(rintro e⟨z0,z1⟩;go_simp;try with_reducible rfl));try simp only[Act.put,Nat.reduceAdd,dd,eG,dX])
   apply ii;refine fh 10 ?_;iterate 5 (refine Ao (v:=?_) bf rfl (by kernel_rfl) (λ_ _ _ h=>h) (Or.inl ⟨by rfl,?_⟩) ?_;rotate_left;(focus(rintro e⟨z0,z1⟩;go_simp;try with_reducible rfl));try simp only[Act.put,Nat.reduceAdd,dd,eG,dX])
   apply ii;refine bj (i:=9) rfl rfl (by kernel_rfl) ?_;intro K9 cj;go_simp;apply bi.mono;rintro cf n⟨v3,rfl,bn,bg⟩;obtain⟨x3,c3,ew⟩:=aB bn;subst ew;have V:Z (λ_=>False) m n:=(cZ (λ_=>False) m).cz<|Z.aR (S:=λ_=>False) bg;have F:aW n ⟨g,0,none⟩=H (.map<|H K'.nb)/\aW n ⟨f.pa,0,none⟩=H (.slice fd (y f.bytes) fb):=⟨V.cell (by rw[bF]at k0;exact k0) id bb,V.cell (by rw[bF]at kd;exact kd) id er⟩;refine cj _ _ (λ_=>F) ?_;try simp only[Act.put,dd,eG,dX]
   refine lz (i:=15) (v:=?_) rfl rfl (by kernel_rfl) (by kernel_rfl) (by kernel_rfl) (by kernel_rfl) (λ_ _ _ h=>h) (Or.inl ⟨by rfl,?_⟩) F ?_;rotate_left
   .rintro e⟨z0,z1⟩;go_simp;try with_reducible rfl
   try simp only[Act.put,dd,eG,dX]
   refine bj (i:=16) rfl rfl (by kernel_rfl) ?_;intro fz aD;go_simp;have dr:=V.size;refine aD _ _ (λ_=>⟨by rw[fC<|by omega];exact F.1,by rw[fC<|by omega];exact F.2⟩) ?_;try simp only[Act.put,dd,eG,dX]
   obtain⟨W4,K⟩:∃W4,cN n (.cells #[.slice x3 (y f.bytes) c3,.int .i64<|y f.bytes] 105)=W4:=⟨_,rfl⟩;rw[K];have ap:Z (λ_=>False) m W4:=by rw[<-K];exact V.alloc _
   have dc:W4.heap[z<|G n]?=H (.cells #[.slice x3 (y f.bytes) c3,.int .i64<|y f.bytes] 105 (0,0)):=by rw[<-K];exact aJ _ rfl
   have dk:W4.ownsRow (z<|G m.drew) 5 1 (.slice x3 (y f.bytes) c3) (y f.bytes) (f.bytes.map<|Value.int .u8):=by rw[<-K];exact aT bn _
   have L:=(J c).now.aj ap id;refine bj (i:=17) rfl rfl (by kernel_rfl) ?_;intro fL aF;try simp only[de,cD,cI]
   refine AG (.tmp 24) (.tmp 25) (.tmp 37) 59 rfl 9 102 underlying59 underlying9 K'.nb _ rfl L f.name (.pointer<|H ⟨z<|G n,0,none⟩) rfl rfl ?_;intro w5 an bl ds;refine aF _ _ FQ ?_;refine eS (by kernel_rfl) ?_ _;show KK _ _;apply ck;have O:f.name∉K'.files.map da.name:=by
    have hp:=(J HP).map<|λ(gg:ae×eR)=>gg.1;have N:=hp.nodup_iff.2<|J HN;rw[aP,jm]at N;intro hc;refine N.2.2 f.name ?_ f.name ?_ rfl
    .simpa[vw]using hc
    .simp[vw]
   have t:=Mt O;rw[zK t]at an;have au:Z (λk=>k=K'.nb) m w5:=(ap.mono (T:=λk=>k=K'.nb) cL).trans (fA bl)<|λ_ d=>.inl d;have ek:g≠K'.nb:=ri (J c).now (J c).ie;have gb:g≠K'.sb:=ri (J c).safe (J c).ie;have bm:w5.heap[g]?=m.heap[g]?:=au.block g bb ek;have y0:aW w5.drew ⟨g,0,none⟩=H (.map<|H K'.nb):=by rw[bF,cg<|bm.trans (J c).ie];rfl
   have y1:aW w5.drew ⟨g,1,none⟩=H (.map<|H K'.sb):=by rw[bF,cg<|bm.trans (J c).ie];rfl
   have Q:gM w5 K'.sb K'.sm:=(J c).safe.aj au<|λcf=>(J c).ne cf.symm;have cM:=Mq (v:=.pointer<|H ⟨z<|G n,0,none⟩) t;have bc:gM w5.drew K'.nb (K'.files.map da.nm++[(f.name,.pointer<|H ⟨z<|G n,0,none⟩)]):=an.aj (cZ (λ_=>False) w5) id;have u:gM w5.drew K'.sb K'.sm:=Q.aj (cZ (λ_=>False) w5) id;obtain⟨j0,em,eq,en,eo⟩:=di yp;clear en eo;obtain⟨eg,bL,ad,ec,dT⟩:=iO au dc dk an bl;have cb:=U u;obtain⟨eA,ea,bx,ey,ca⟩:=iO ap cM t O<|And.intro dr ds;clear cM t O dr ds ck cj aD aF bf F k0 kd bn bg bi L an bl Q u bm dc dk au ap V K;go_wp2_with fail
   have cm:=And.intro y0 (And.intro y1 bc);clear y0 y1 bc;refine dR (λe=>aW e ⟨g,0,none⟩=H (.map<|H K'.nb)/\aW e ⟨g,1,none⟩=H (.map<|H K'.sb)/\gM e K'.nb (K'.files.map da.nm++[(f.name,.pointer<|H ⟨z<|G n,0,none⟩)])) 11 (by kernel_rfl) ?_;refine fh 0 ?_;iterate 10 (refine Ao (v:=?_) cm rfl (by kernel_rfl) (λ_ _ _ h=>h) (Or.inl ⟨by rfl,?_⟩) ?_;rotate_left;(focus(rintro e⟨z0,z1,z2⟩;go_simp;try rfl));simp only[Act.put,Nat.reduceAdd,dd,eG,dX,de,cD,cI])
   apply ii;refine lz (i:=10) (v:=.pointer<|H ⟨z<|G n,0,none⟩) rfl rfl (by kernel_rfl) (by kernel_rfl) (by kernel_rfl) (by kernel_rfl) (λ_ _ _ h=>h) (Or.inl ⟨by rfl,?_⟩) cm ?_
   .rintro e⟨z0,z1,z2⟩;have bk:=xO underlying59 underlying9 em eq z2 f.name;rw[J ea]at bk;simp only[oh]at bk;clear z0 z1 z2;go_simp;try with_reducible rfl
   simp only[Act.put,dd,eG,dX,de,cD,cI];refine bj (i:=11) rfl rfl (by kernel_rfl) ?_;intro fx ch;try simp only[de,cD,cI]
   refine AG (.tmp 41) (.tmp 42) (.tmp 48) 59 rfl 9 102 underlying59 underlying9 K'.sb _ rfl (J cb) f.name (.pointer<|H ⟨z<|G n,0,none⟩) rfl rfl ?_;intro w6 db cB ev;refine ch _ _ FQ ?_;refine eS (by kernel_rfl) ?_ _;have av:Z (λk=>k=K'.sb) w5 w6:=(cZ (λk=>k=K'.sb) w5).trans (fA cB)<|λ_ d=>.inl d;have p:Z (λk=>k=K'.nb\/k=K'.sb) m w6:=((J eg).mono (T:=λk=>k=K'.nb\/k=K'.sb)<|λ_ d=>.inl<|.inl d).trans av<|λ_ d=>.inl<|.inr d;have W:Z (λk=>k=K'.nb\/k=K'.sb) W4 w6:=((Z.ee (S:=λk=>k=K'.nb\/k=K'.sb) (J dT)<|by grind)).trans av<|λ_ d=>.inl<|.inr d;have A:=U<|show z (G m)<=z (G n)/\True from⟨(J ca).1,trivial⟩;have fg:=(J c).lt K'.nb<|.inr<|.inl rfl;have fk:=(J c).lt K'.sb<|.inr<|.inr<|.inl rfl;have br:=U ((J c).add (f:=⟨f.name,z<|G n,.slice x3 (y f.bytes) c3,f.bytes,y f.bytes⟩) (J HM) p ((J ec).aj av<|λcf=>(J c).ne cf) db ⟨(W.block _ (ak<|J bL) (λd=>by have:=(J A).1;rcases d with d|d<;>omega)).trans<|J bL,fX (W.own (J ad) (λk o d=>by have:=((J ad).lt k o).1;have cf:z (G m.drew)=z (G m):=rfl;rcases d with d|d<;>omega))<|bP _,(J dx).2.2⟩ (J A).1 (λk o=>((J ad).lt k o).1) (by
    have h1:=Mw<|J HP;have h2:=(J ed).1;rw[(J HX).1];show((fB (K'.files++[_]):M):X)<=x.fx.room;rw[Un]at h2|-;have h3:mG (vw<|K'.files++[⟨f.name,z<|G n,.slice x3 (y f.bytes) c3,f.bytes,y f.bytes⟩])<=mG (vw K'.files++vw (fr++f::fs)):=by
     simp[mG,vw];omega
    omega))
   have cd:=U ((J E).trans p (λk d=>by
    have h1:=((J l) K'.nb<|.inr<|.inl rfl).1;have h2:=((J l) K'.sb<|.inr<|.inr<|.inl rfl).1;rcases d with d|d
    .grind
    grind))
   have fe:x.nb<z (G a):=(J HD).lt x.nb<|.inr<|.inl rfl;have bv:=U ((J C).kept (p.block _ (by have:=(J E).size;omega) (λd=>by
    have h1:=((J l) K'.nb (.inr (.inl rfl))).1;have h2:=((J l) K'.sb (.inr (.inr (.inl rfl)))).1;rcases d with d|d<;>omega)) (p.block _ (J C).lt (λd=>by
     have h1:=((J l) K'.nb (.inr (.inl rfl))).2;have h2:=((J l) K'.sb (.inr (.inr (.inl rfl)))).2;rcases d with d|d<;>omega)))
   clear db cB ev av p W;go_wp2;go_roundw;case rel=>
    obtain⟨es,bk⟩:=J br;refine⟨fr++fs,{K' with files:=K'.files++[⟨f.name,z<|G n,.slice x3 (y f.bytes) c3,f.bytes,y f.bytes⟩],sm:=K'.sm.put f.name (.pointer<|H ⟨z<|G n,0,none⟩)},?_,J HM,es,?_,?_,λfu hg=>(J HL) fu ?_,J cd,(J HX).1,?_,λfu hg=>?_⟩
    .refine List.Perm.trans ?_<|J HP;show List.Perm (vw (K'.files++[⟨f.name,z<|G n,.slice x3 (y f.bytes) c3,f.bytes,y f.bytes⟩])++vw (fr++fs)) (vw K'.files++vw (fr++f::fs));simp only[vw,aP,cy,gR,bA,jF];exact qA _ vu.symm
    .intro k o;have bg:=(J A).1;have gf:=(J E).size;have ge:=(J C).lt;rcases bk k o with d|d|d
     .exact(J l) k d
     .have:k=z (G n):=d;grind
     .have:=((J ad).lt k d).1;have cf:z (G m.drew)=z (G m):=rfl;grind
    .rw[aP];exact J bv
    .simp only[aG,bJ]at hg|-;grind
    .show K'.sm.put f.name _=(K'.files++[_]).map da.nm;rw[(J HX).2.1,zK<|J bx,aP];rfl
    .rcases aG.1 hg with q|q
     .exact(J HX).2.2 fu q
     .rw[dp.1 q]
   case measure=>rw[(J bv).left_eq,(J bE).left_eq];simp
