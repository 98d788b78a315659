import Derived.Defers
import Derived.Laws.CopyRow
import Derived.Laws.NewBlocks
import Derived.Lib.AppendZerosOnto
import Derived.Lib.Overlaps
import Derived.Shelf.RegionOpenPlain
import Derived.Test.YtceammfgahaodaaGreatDoorC3
open _root_ renaming List.length→z,Option.some→M,Array.size→G,Go.World.heap→H,Go.Value.ownBlock→bY,Go.World.cell?→aS,Go.World.setCell→ct,Go.World.alloc→cF,Bool.false→bF,Bool.true→bX,Nat→R,Int→Y,List→cD,Go.Calls→cA,Go.Proofs.Tryz.prog→bG,Go.Value.slice→ah,Go.Value.string→aj,Go.Value.bool→aO,Go.Value.pointer→fA,Go.Value.tuple→dE,Go.Value.agg→eB
namespace Go.Proofs.YtceammfgahaodaaGreatDoor
open ChangeShapes WideShapes RowKit Proofs.Tryz
set_option maxHeartbeats 16000000
set_option linter.all false
set_option maxRecDepth 100000
variable{a f:I}{b c g l:R}{d t:aa}{e:cK}{m:Y}{o:eP}{X:fN}{u:jr}{w:E}{x:jd}{S:Type}{T:Array aa}
section
open Go.Shelf
attribute [local go_sem] Oper.semAt_some
def eM{c base' l e n:R}(r:a.ownsRow c l e d n x)(k:base'<=c):a.ownsRow base' l e d n x:=by
 obtain⟨j,h⟩:=r;refine⟨j,?_⟩;rcases h with h|⟨q,g,i,m,b,o,p⟩;exact .inl h;exact .inr ⟨q,g,i,m,aF k b,o,p⟩
def Lw(a:eP)(l:cK):z (dV a l)<=z l:=(jy a l).length_le
def ku.ay{S:fN}{w w':I}(h:ku w d e)(a:J S w w')(c:∀k,bY d=M k->¬S k/\k<G (H w)):ku w' d e:=a.row h c
def ku.some(h:ku a d e)(l:0<z e):∃g b c,d=bE g b (z e) c/\z e<=c:=by
 obtain⟨j,⟨rfl,i⟩|⟨g,b,c,rfl,f,k⟩⟩:=h;omega;exact⟨g,b,c,rfl,f⟩
def wa(c:eP)(h:ku a d e)(hs:dS e)(hl:z e<=1000000)(hm:Row a 1 t (z c) (c.map<|Value.int .u64))(gb:z c<=1000)(hv:∀k,bY d=M k->k<G (H a))(cu:∀k,bY t=M k->k<G (H a)):cA bG 49 #[d,t] a λch w'=>∃v',ch=aP v'/\w'.ownsRow (G<|H a) 164 4 v' (z<|dV c e) (aH<|dV c e)/\J az a w':=by
 obtain⟨i0,cp,cT,db,dc⟩:=cL ot;obtain⟨eu,E,cM⟩:=bS h;obtain⟨mx,mc,cv⟩:=bS hm;have ef:=AF d eu (z e) E cM;obtain⟨HH,HM,HV,ad⟩:=gD h hm hv cu;clear h hm hv cu;subst cv;subst cM;refine(di (n:=3)).1 ?_;refine callsIn_of_wp_marks func49 rfl trivial ?_ rfl;simp only[ntmps49,eZ,aC,cS,Nat.reduceAdd,Nat.reduceSub,eh,dZ,fa,eE,cJ,cC];gi_wp2_with(refine⟨trivial,?_⟩;gi_at_call 79;refine(di.2<|ef _).mono ?_;rintro ch w1⟨rfl,rfl⟩)
 obtain⟨p,K⟩:∃p,(cF (cF (cF a<|aw #[ah mx (z c) mc] 122)<|aw #[aG] 102)<|aw #[ah eu (z e) E] 102)=p:=⟨_,rfl⟩;have gc:G (H p)=G (H a)+3:=by rw[<-K];simp
 have bu:J az a p:=by rw[<-K];exact((cI az a).alloc _).alloc _
 have eb:er p (G<|H a) (ah mx (z c) mc) 122:=by rw[<-K];exact er.alloc (er.alloc (aE _ rfl) _) _
 have ed:er p (G (H a)+1) aG 102:=by rw[<-K];exact er.alloc (aE _<|by simp) _
 have ee:er p (G (H a)+2) (ah eu (z e) E) 102:=by rw[<-K];exact aE _<|by simp
 have bm:ku p (ah eu (z e) E) e:=HH.ay bu<|λk b=>⟨id,HV k b⟩;have hA0:rX p (λk=>k=G (H a)+2) (G (H a)+1) (dV c<|iq []) (λk=>k=G (H a)+1) p:=⟨⟨_,ed,bN _ _ _ _,λk=>by simp[bY]⟩,J.refl _ _⟩;rw[K];refine nT (m:=3) (arg:=Gs<|ah eu (z e) E) (V:=AP) (n0:=G<|H a) (gf:=127) (lb:=#[aA<|G (H a)+2]) (l:=nV 0<|io e) (S:=λk=>k=G (H a)+2) ?geval (enters_of func127 (by kernel_rfl) rfl) (λ_=>rfl) (wh (G<|H a) 2 ee bm HV (by omega)<|by omega) trivial (by omega) (λk b=>by omega) (λf bT bl=>rX p (λk=>k=G (H a)+2) (G (H a)+1) (dV c<|iq f) bT bl) (λ_ _ _ _=>False) (λk=>k=G (H a)+1) hA0 (λk b E=>by omega) ?lt ?st (λ_ _ _ _ _ _ h=>h.elim) ?body ?done ?stop;case geval=>rfl
 case lt=>exactλf bT bl O=>O.lt (by omega)<|by omega
 (case st=>intro f bT bl i T O ht g;refine O.stays ht<|λk b=>⟨(g k b).1,?_⟩;rcases(g k b).2 with E|E|E;exact .inl E;exact E.elim;exact .inr E);(case stop=>intro ev E f bT bl _ h;exact h.elim)
 case body=>
  rintro lr f⟨dk,r⟩bT bl ei cj es T O _;obtain⟨hn,gj,b⟩:=Jq hs T;have fs:0<z r:=gJ.2 b.ne;have fL:dk+z r+z gj=z e:=by rw[b.all,hn];simp;omega
  obtain⟨dm,D,ff,hx,fz⟩:=bm.some (by omega);cases hx;have an:=AQ bm b.all b.ne;rw[<-hn]at an;unfold Gs;unfold zt at an|-;simp only at an|-;have ck:∀k,bT k->k<G (H bl):=λk b=>(O.lt (n0:=G<|H a) (by omega) (by omega) k b).2;obtain⟨HA,HK,HP,HN⟩:=gD O b T hn;clear O T b hn;gi_wp2;refine⟨(cI _ _),λW2 cB=>?_⟩;have bt:J (λk=>k=lr) bl W2:=(cI (λk=>k=lr) bl).trans cB<|λk b=>.inl b;have hA2:=HA.stays bt (λk b=>by subst b;exact⟨cj,.inr ei⟩);have bp:er W2 (G<|H bl) (bE dm (D+dk*4) (z r)<|E-dk) 102:=(cB.block _ (by simp)<|by omega).trans<|aE _ rfl;have eo:=bp.cell;have fk:=bt.size;have ea:G (H bl)<G (H W2):=am bp;have fn:dm<G (H a):=HV dm rfl;gi_wp2;gi_loopw [15] (λb wr=>∃(n:R)(B1:fN),b=aq n/\n<=z r/\rX p (λk=>k=G (H a)+2) (G (H a)+1) (dV c (iq f)++dV c (r.take n)) B1 wr/\J bT W2 wr/\(∀k,B1 k->bT k\/G (H W2)<=k)) (λb _=>z r-(intOf b).toNat)
  case atStart=>exact⟨0,bT,rfl,bB _,by simpa[dV,kV]using hA2,J.refl _ _,λk b=>.inl b⟩
  case round=>
   obtain⟨n,B1,rfl,fu,hA1,i,F⟩:=hrel;by_cases A:n<z r
   .have ao:ku wr (bE dm (D+dk*4) (z r)<|E-dk) r:=an.ay hA1.ay<|λk b=>(show dm=k by simpa[bY]using b)▸⟨λq=>by rcases q with q|q<;>omega,by omega⟩;have bo:er wr (G<|H a) (ah mx (z c) mc) 122:=(hA1.ay.block _ (by omega)<|by omega).trans eb;have cx:Row wr 1 (ah mx (z c) mc) (z c) (c.map<|Value.int .u64):=hA1.ay.row (bu.row HM<|λk b=>⟨id,ad k b⟩) (λk b=>by have:=ad k b;exact⟨by omega,by omega⟩);have P:er wr (G<|H bl) (bE dm (D+dk*4) (z r)<|E-dk) 102:=(i.block _ ea (λq=>by have:=ck _ q;omega)).trans bp;obtain⟨lv,o,s,av⟩:=hA1.row;obtain⟨ex,ec,br⟩:=aB s;have bq:=o.cell;have cs:=o.free;have ba:=bo.cell;have bb:=P.cell;obtain⟨dx,⟨cl,dT⟩|⟨b',et,em,cl,dT,l⟩⟩:=id ao
    .omega
    cases cl;have Q:=eG r n A;have g0:=l _ _ Q.1;have g1:=l _ _ Q.2.1;have g2:=l _ _ Q.2.2.1;have g3:=l _ _ Q.2.2.2;simp only[<-aY]at g1 g2 g3;have e1:(n:Y)<(z r:Y):=by omega
    have e2:(0:Y)<=(n:Y):=by omega
    have fl:=am bo;have eg:=am o;have cE:=am P;have co:dm<G (H wr):=dj _ _ g0;have eq:z (dV c (iq f)++dV c (r.take n))+1<=2000000:=by
     have q1:=Lw c<|iq f;have q2:=Lw c<|r.take n;have q3:z (iq f)=dk:=HN.symm;have w:=sh n r;rw[af];omega
    have bs:=RD (ms:=c) HK.same A;have N:=Z (show∀(v u:I)v5,J az wr v->eY v u lv v5->u.ownsRow (G<|H p) 164 4 v5 (z (dV c (iq f)++dV c (r.take n))+1) (aH (dV c (iq f)++dV c (r.take n))++aH [r[n]])->wanted c r n A=bX->∃B1,rX p (λk=>k=G (H a)+2) (G (H a)+1) (dV c (iq f)++dV c (r.take<|n+1)) B1 (ct u (U (G (H a)+1) 0) v5)/\J bT W2 (ct u (U (G (H a)+1) 0) v5)/\(∀k,B1 k->bT k\/G (H W2)<=k)fromλv u v5 ht y x m=>by
     obtain⟨w,q1,q2,q3⟩:=hA1.more (xs:=[r[n]]) (by omega) o ht y x;rw[bs,dt m,<-aW];refine⟨w,q1,i.trans q2 F,λk b=>?_⟩;rcases q3 k b with E|E
     .exact F k E
     .exact .inr (aF i.size E))
    have bg:=Z (show∀(v:I),J az wr v->wanted c r n A=bF->rX p (λk=>k=G (H a)+2) (G (H a)+1) (dV c (iq f)++dV c (r.take<|n+1)) B1 v/\J bT W2 v fromλv ht m=>by
     rw[bs,dh (by simp[m]),dO];exact⟨hA1.stays ht cN,i.cw ht⟩)
    obtain⟨ca,cd,bc,fd,dv,bd,L,ey,fb⟩:=xS hA1 i F ao cx o s P l;clear hA1 i F cx o s av bo l Q dx bs;generalize en:dV c (iq f)++dV c (r.take n)=g at*;subst br;have dn:=Z (show 0<n->∀a d:I,J az wr a->Below (G<|H a) a d->er a (G<|H wr) (aq n) 3->ix a (G (H wr)+1) r[n]->∀dd,cA bG 80 (#[aL dd]++#[aA<|G (H wr)+1,aA<|G<|H bl,aA<|G<|H wr]) d λch y=>ch=aP (aO<|decide (r[n].bK<=dd)&&decide (dd<(r[n-1]'(by omega)).bK))/\Below (G<|H d) d y fromλh0 a d x w q1 q2 dd=>by
     apply(Lv n dd A h0 (by omega) (q2.below w (am q2)) ((w.block _ (ag cE x.size)).trans ((x.block _ cE id).trans P)) ((ao.ay x (λk b=>⟨id,(show dm=k by simpa[bY]using b)▸co⟩)).below w (λk b=>(show dm=k by simpa[bY]using b)▸ag co x.size)) ((w.block _ (am q1)).trans q1)).mono;rintro ch y⟨rfl,rfl⟩;exact⟨rfl,Below.refl _ _⟩)
    clear ao P;have ce:=Z<|show wanted c r n A=(decide (n=0)||c.any (λdd=>decide (r[n].bK<=dd)&&decide (dd<(r[n-1]'(by omega)).bK)))from rfl;generalize fr:r[n]=el at*;obtain⟨yk,yv,X,W⟩:=el;simp only at g0 g1 g2 g3;rcases fY n with h0|h0
    .subst h0;simp only[zX,ju]at g0 g1 g2 g3;have j:J az wr (cF (cF wr<|aw #[aq 0] 3)<|aw #[aj yk,aj yv,aO X,aL W] 164):=(cI _ _).alloc _;have w:=Z<|j.own L<|λ_ _ E=>E;have ac:=Z (show∀u:I,(cF (cF (cF wr<|aw #[aq 0] 3)<|aw #[aj yk,aj yv,aO X,aL W] 164)<|aw #[aj yk,aj yv,aO X,aL W] 164).grownBy u (bY<|ah ex (z g) ec)->aS u (U (G (H a)+1) 0)=M (ah ex (z g) ec)/\u.frozen? (U (G (H a)+1) 0)=bF fromλu hg=>by
      have y:er u (G (H a)+1) (ah ex (z g) ec) 102:=(hg.block _ (by have:=am bd;simp;omega) (λch=>by have:=(L.lt _ ch.symm).1;omega)).trans (er.alloc (er.alloc (er.alloc bd _) _) _);exact⟨y.cell,y.free⟩)
     have al:=Z j;clear j;gi_wp2_with fail
     refine⟨trivial,?_⟩;gi_wp2_with(first
      |(gi_at_builtin;refine ez _ rfl (.tmp 28) (.tmp 30) 102 rfl (G (H p)) 164 i0 wX 4 48 underlying102 cp cT db dc rfl (by decide) (.slice ex (z g) ec) (z g) (aH g) rfl (aU w (.cells #[.string yk,.string yv,.bool X,.int .u64 W] 164)) (U (G (H wr)+1+1) 0) 1 1 (aH [⟨yk,yv,X,W⟩]) rfl (by rw[fS];rfl) (yM ⟨yk,yv,X,W⟩ _ (by simp)) (BA _) (by omega) (by omega) (by simp;omega) ?_;intro v5 u B C;obtain⟨x5,c5,bv⟩:=aB B;subst bv;have x:=ac u C.grown;obtain⟨ej,ek⟩:=x;have bf:=Z B;have bi:=Z C;clear B C))
     refine⟨⟨1,?_⟩,by simp[intOf];omega⟩;obtain⟨B2,r1,r2,r3⟩:=N _ u _ ((al).alloc _) bi bf (by rw[ae ce];simp);exact⟨B2,rfl,by omega,r1,r2,r3⟩
    .have e0:((n:Y)==0)=bF:=by simp;omega
     obtain⟨v,w⟩:∃v,cF (cF wr<|aw #[aq n] 3) (aw #[aj yk,aj yv,aO X,aL W] 164)=v:=⟨_,rfl⟩;have j:J az wr v:=by rw[<-w];exact(cI _ _).alloc _
     have y:=JK #[aA<|G (H wr)+1,aA<|G<|H bl,aA<|G<|H wr] c _ (enters_of func80 (by kernel_rfl) rfl) (j.row dv<|λk b=>⟨id,by have:=ad k b;omega⟩) (λk b=>by have:=ad k b;have:=j.size;omega) (by omega)<|λdd _ d a=>dn h0 v d j a (by rw[<-w];exact er.alloc (aE _ rfl) _) (by rw[<-w];exact aE _<|by simp) dd;have bx:=ae ce;rw[show decide (n=0)=bF by simp;omega,yY]at bx;rw[<-bx]at y;have cm:ix v (G (H wr)+1) ⟨yk,yv,X,W⟩:=by rw[<-w];exact aE _<|by simp
     have cn:er v (G (H a)+1) (ah ex (z g) ec) 102:=(j.block _ eg id).trans bd;have gg:=j.size;obtain⟨cb,ac,al,fe⟩:=gD cm cn j w;clear cm cn j bx;cases m:wanted c r n A with
     |true=>
      rw[m]at y;have bk:=Z m;clear m;subst w;gi_wp2_with fail
      refine⟨trivial,(CallsIn.inRound lr<|di.2 y).mono ?_⟩;rintro ch w4⟨rfl,x⟩;have ax:=al.cw<|J.aV (S:=az) x;have l:=cb.below x<|am cb;have au:er w4 (G (H a)+1) (ah ex (z g) ec) 102:=(x.block _<|am ac).trans ac;obtain⟨z0,z1,z2,z3⟩:=l.cells;simp only at z0 z1 z2 z3;have z4:=au.cell;obtain⟨cc,bh,ds⟩:=dI (ax.own L<|λ_ _ E=>E) ax au;have ge:=ax.size;have fv:=am l;have fx:=am au;clear ax l au x y bq cs ba bb g0 g1 g2 g3;generalize G (H wr)+1=gi at*;gi_wp2_with(first
       |(gi_at_builtin;refine ez _ rfl (.tmp 28) (.tmp 30) 102 rfl (G (H p)) 164 i0 wX 4 48 underlying102 cp cT db dc rfl (by decide) (.slice ex (z g) ec) (z g) (aH g) rfl (aU cc (.cells #[.string yk,.string yv,.bool X,.int .u64 W] 164)) (U (G (H w4)) 0) 1 1 (aH [⟨yk,yv,X,W⟩]) rfl (by rw[fS];rfl) (yM ⟨yk,yv,X,W⟩ _ rfl) (BA _) (by omega) (by omega) (by simp;omega) ?_;intro v5 u B C;obtain⟨x5,c5,bv⟩:=aB B;subst bv;have bn:er u (G (H a)+1) (.slice ex (z g) ec) 102:=(C.grown.block _ (by simp;omega) (λch=>by have:=(cc.lt _ ch.symm).1;omega)).trans (ds.alloc _);have ej:=bn.cell;have ek:=bn.free;have bf:=Z B;have bi:=Z C;clear B C bn))
      refine⟨⟨n+1,?_⟩,by simp[intOf];omega⟩;obtain⟨B2,r1,r2,r3⟩:=N _ u _ (bh.alloc _) bi bf bk;exact⟨B2,by go_num,by omega,r1,r2,r3⟩
     |false=>
      rw[m]at y;have bk:=Z m;clear m;subst w;gi_wp2_with fail
      refine⟨trivial,(CallsIn.inRound lr<|di.2 y).mono ?_⟩;rintro ch w4⟨rfl,x⟩;have bh:=Z<|al.cw<|J.aV (S:=az) x;clear y x bq cs ba bb g0 g1 g2 g3;gi_wp2;refine⟨⟨n+1,?_⟩,by simp[intOf];omega⟩;obtain⟨r1,r2⟩:=bg _ bh bk;exact⟨B1,by go_num,by omega,r1,r2,bc⟩
   .have g:n=z r:=by omega
    have e1:((n:Y)<(z r:Y))=False:=by simp;omega
    obtain⟨ca,cd,bc⟩:=dI hA1 i F;clear hA1 i F;gi_wp2;have i:=ae cd;have hA1:=ae ca;refine⟨trivial,B1,?_,(bt.mono<|λk b=>.inl<|.inr b).trans i<|λk b=>.inl<|.inl b,i.block lr (by omega) cj,λk b=>(bc k b).imp_right<|λE=>by omega⟩;show rX p _ _ (dV c<|iq<|f++[(dk,r)]) B1 wr;rw[tF,(ae HK).Ly,show dV c r=dV c (r.take n)by rw[g,bP]];exact hA1
 (case done=>intro ev bT bl m O j _ l;obtain⟨lv,o,s,av⟩:=O.row;rw[AM]at s;obtain⟨ex,ec,br⟩:=aB s;have bq:=o.cell;obtain⟨HA,L,i,HK⟩:=gD O s av l;have n:=am l;clear O o s av l;subst br;gi_wp2;have g:=gH bl ev<|.deferred none;refine⟨by simp,.inl ⟨_,_,rfl,run_takeDeferred HK,?_⟩⟩;refine⟨_,gy rfl _ _ _,?_⟩;have hx:=g.own L<|λk b E=>j<|(i ev).2<|.inr (by rw[<-E];exact b);refine⟨_,rfl,eM hx (by omega),bu.trans (HA.ay.trans g<|λk b=>.inr (by subst b;omega))<|λk b=>.inr (by rcases b with E|E<;>omega)⟩)
end
def SI(c:cK)(x:E):fM (c++[x])=fM c++BQ x:=by simp[fM]
def xY(c d:cK):fM (c++d)=fM c++fM d:=by simp[fM]
def Qe{c:cK}(h:∀x∈c,x.Good):z (fM c)<=35*z c:=by
 induction c with
 |nil=>simp[fM]
 |cons x r d=>
  have a:=ul (h x<|by simp);have f:=d (λa b=>h a<|by simp[b]);have e:fM (x::r)=BQ x++fM r:=by simp[fM]
  rw[e,af,aC];omega
def Em(h:ku a d e)(hv:∀an,bY d=M an->an<G (H a))(hg:∀bf∈e,bf.Good)(hl:z e<=1000):cA bG 221 #[d] a λao w'=>∃v',ao=aP v'/\eQ w' (G<|H a) v' (fM e)/\J az a w':=by
 obtain⟨bf,av,al⟩:=bS h;obtain⟨HH,HV,HG⟩:=dI h hv hg;clear h hv hg;subst al;go_in
 go_wp2;go_loopw [3,8] (λc b wr=>∃l:R,l<=z e/\b=aq l/\eQ wr (G<|H a) c (fM<|e.take l)/\J az a wr) (λ_ b _=>z e-(intOf b).toNat)
 case atStart=>exact⟨0,bB _,rfl,by simpa[fM]using eQ.nil _ _,J.refl _ _⟩
 case round=>
  obtain⟨l,hi,rfl,u,x⟩:=hrel;obtain⟨L,K,t⟩:=aB u;by_cases m:l<z e
  .have i:=HG _<|ar m;obtain⟨T,⟨y,V⟩|⟨au,v,ax,y,V,A⟩⟩:=ae HH
   .omega
   cases y;have W:au<G (H a):=HV au rfl;have f:∀j u,(aH e)[j]?=M u->aS wr (U au<|v+j)=M u:=λj u a=>x.cell (A j u a) id W;have g:=eG e l m;have g0:=f _ _ g.1;have g1:=f _ _ g.2.1;have g2:=f _ _ g.2.2.1;have g3:=f _ _ g.2.2.2;simp only[<-aY]at g1 g2 g3;have bb:z (fM<|e.take l)<=35000:=by
    have:=Qe (c:=e.take l)<|λw a=>HG w<|eI a;have:=sh l e;omega
   have P:=Z (show fM (e.take<|l+1)=fM (e.take l)++BQ e[l]by rw[ak m,SI]);have bc:=x.size;have Q:=Z x;have j:bY (ah L (z<|fM<|e.take l) K)≠M (G<|H wr):=λao=>by rw[<-t]at ao;have:=(u.lt _ ao).2;omega
   have e1:(l:Y)<(z e:Y):=by omega
   have e2:(0:Y)<=(l:Y):=by omega
   have F:=Z u;clear A g f x u T;generalize fM (e.take l)=s at*;subst t;generalize e[l]=w at*;obtain⟨q,r,p,k⟩:=w;simp only at g0 g1 g2 g3;have k1:=i.Me;have k2:=i.val;have k3:=i.b0;have k4:=i.b1;simp only at k1 k2 k3 k4;clear i;have B:eQ (cF wr<|aw #[aj q,aj r,aO p,aL k] 164) (G<|H a) (ah L (z s) K) s:=aU F _;have O:=Z B;clear B;go_wp2_with fail
   go_region_held3(λe=>aS e (U (G<|H wr) 0)=M (aj q)/\aS e (U (G<|H wr) 1)=M (aj r)/\aS e (U (G<|H wr) 2)=M (aO p)/\aS e (U (G<|H wr) 3)=M (aL k)) (first|assumption|go_keep) (first
    |(go_at_call 183;refine(pJ (baseqq:=G<|H a) (v:=(.slice L (z s) K)) (bs:=s) k (w:=(cF wr<|.cells #[.string q,.string r,.bool p,.int .u64 k] 164).drew) (O.of_heap rfl) (by simp;omega) (by omega) k3 k4).mono ?_;rintro ao E⟨v1,rfl,C,b⟩;have n:bY v1≠M (G<|H wr):=b.ne j (by simp);have o:aS E (U (G<|H wr) 0)=M (.string q)/\aS E (U (G<|H wr) 1)=M (.string r)/\aS E (U (G<|H wr) 2)=M (.bool p)/\aS E (U (G<|H wr) 3)=M (.int .u64 k):=⟨b.cell (by simp) j,b.cell (by simp) j,b.cell (by simp) j,b.cell (by simp) j⟩;have bd:G (H wr)<G (H E):=(by have:=b.grown.size;simp at this;omega);have O1:=Z C;have W1:=Z b;clear C b)
    |(go_at_call 185;refine(PP (G (H a)) v1 (s++le 8 k) ⟨q,r,p,k⟩ _ ?_ (by omega) (by simp[cq];omega) (by simp only;omega) (by simp only;omega)).mono ?_;exact O1.of_heap rfl;rintro ao N⟨v2,rfl,D,c⟩;have ba:aS N (U (G (H wr)) 0)=M (.string q)/\aS N (U (G (H wr)) 1)=M (.string r)/\aS N (U (G (H wr)) 2)=M (.bool p)/\aS N (U (G (H wr)) 3)=M (.int .u64 k):=⟨c.cell o.1 n,c.cell o.2.1 n,c.cell o.2.2.1 n,c.cell o.2.2.2 n⟩;have O2:=Z D;have W2:=Z (W1.trans c);clear D c))
   go_wp2;have hW:=ae W2;have ac:J az a (cF wr<|aw #[aj q,aj r,aO p,aL k] 164):=Q.alloc _;have ad:J az a (cF wr<|aw #[aj q,aj r,aO p,aL k] 164).drew:=ac.trans (S:=az) ⟨rfl,rfl,rfl,ai _,λ_ _ _=>rfl⟩<|λ_ av=>.inl av;refine⟨⟨l+1,m,by go_num,?_,ad.trans (J.dR (S:=λan=>bY (ah L (z s) K)=M an) hW.grown<|λan X=>.inl X)<|λan X=>.inr (F.lt an X).1⟩,by simp[intOf];omega⟩;rw[ae P];have:=ae O2;rwa[aW]at this
  .have b:l=z e:=by omega
   have e1:((l:Y)<(z e:Y))=False:=by simp;omega
   subst t;rw[b,bP]at u|-;have F:=Z u;have Q:=Z x;clear u x;go_wp2;go_ret;exact⟨_,rfl,F,Q⟩
def OC(a:0<=m)(b:m<4294967296):mM (le 4 m)=m:=by
 rw[AC 4 m a];show m%4294967296=m;omega
def sq(b:R)(n:Y)(a:eP)(w:I)(k:Rd w b (le 4 n++a) bF)(c:kG a)(l:z a<=140737488350000)(g:0<=n)(h:n<4294967296):cA bG 210 #[aA b] w λj f=>j=aP (dz n)/\Rd f b a bF/\w.grownBy f (M b):=by
 have d:=mY (le 4 n) a;rw[cq]at d;have e:=Kl b bF w k ((kG.le 4 n).append c) (by simp only[af,cq];omega);have i:num (le 4 n++a) bF 4=n:=by unfold num;rw[d];exact OC g h
 rw[d,i]at e;exact e
def AA(b:R)(n:Y)(a:eP)(w:I)(k:Rd w b (le 8 n++a) bF)(c:kG a)(l:z a<=140737488350000)(g:0<=n)(h:n<18446744073709551616):cA bG 209 #[aA b] w λj f=>j=aP (aL n)/\Rd f b a bF/\w.grownBy f (M b):=by
 have d:=mY (le 8 n) a;rw[cq]at d;have e:=LM k ((kG.le 8 n).append c) (by simp only[af,cq];omega);have i:num (le 8 n++a) bF 8=n:=by unfold num;rw[d];exact CE g h
 rw[d,i]at e;exact e
def Xe(a:R)(n:Y)(w:I)(k:Rd w a (n::o) bF)(b:kG o)(l:z o<=140737488350000)(g:0<=n)(h:n<256):cA bG 215 #[aA a] w λj f=>j=aP (tP n)/\Rd f a o bF/\w.grownBy f (M a):=by
 have c:=mY [n] o;simp only[aC,cS,cZ,cC,cJ]at c;have e:=Fx k (by intro x d;rcases aD.1 d with rfl|d;exact⟨g,h⟩;exact b x d) (by simp only[aC];omega);have i:num (n::o) bF 1=n:=by unfold num;rw[c];simp[mM]
 rw[c,i]at e;exact e
def PC(b:R)(s:ab)(w:I)(i:Rd w b (eC s++o) bF)(c:kG o)(j:z o<=140737488350000)(k:s.size<=255):cA bG 248 #[aA b] w λh e=>h=aP (aj s)/\Rd e b o bF/\w.grownBy e (M b):=by
 have g:=(vQ s o).1;have f:kG (eC s++o):=by intro x a;rcases ap.1 a with a|a;unfold eC at a;rcases aD.1 a with rfl|a;omega;exact kG.text s x a;exact c x a
 have d:=DF i f (by simp only[af,eC,aC,ic];omega);rw[g]at d;simp only[vR]at d;exact d
def rA{P:Program}(w:I)(l y A c:TypeId)(e n o b g:R)(p:Addr)(d j:R)(a:Array aa)(C:TypeId)(f:jd)(x:P.underlying l=M (.slice c))(m:(P.info? c).map (·.size)=M e)(r:w.heap[n]?=M (aw a C (0,0)))(u:z f=Nat.min d b*e)(i:∀B v,f[B]?=M v->aS w (p.add B)=M v)(h:o+z f<=a.size)(q:∀v∈f,v.oneCell'=bX):(Builtin.copy_ #[l,y] A #[bE n o b g,ah (M p) d j]).run P w=.ok (goInt<|Nat.min d b) (w.setRow n (a.toList.take o++f++a.toList.drop (o+z f)).toArray):=by
 have t:=run_loadCells_list (P:=P) w p f i;have k:=run_storeCells_at P n o C f 0 a w r (by simpa using h) q;cases hq:P.info? c with
 |none=>simp[hq]at m
 |some D=>
  have s:D.size=e:=by simpa[hq]using m
  simp[Builtin.copy_,eH x,Builtin.lenOf,Builtin.firstCells,sizeOf,typeInfo,hq,s,<-u,t,k]
def Ck(w:I)(g:R)(a:Array aa):J (λk=>k=g) w (w.setRow g a):=⟨rfl,rfl,rfl,by simp,λk _ b=>so w g k a b⟩
def UQ{a d:jd}(j:x.take (b*4)=a)(k:z a=b*4)(l:c<=b)(i:z d=4)(e:(b+1)*4<=z x):(((x.take ((c+1)*4)++a.drop (c*4)++x.drop ((c+1)*4+z (a.drop<|c*4))).take (c*4)++d++(x.take ((c+1)*4)++a.drop (c*4)++x.drop ((c+1)*4+z (a.drop<|c*4))).drop (c*4+z d)).take<|(b+1)*4)=a.take (c*4)++d++a.drop (c*4):=by
 have f:z (x.take<|(c+1)*4)=c*4+4:=by rw[dP];omega
 have g:(x.take ((c+1)*4)++a.drop (c*4)++x.drop ((c+1)*4+z (a.drop<|c*4))).take (c*4)=a.take (c*4):=by rw[aW,iP (by omega),List.take_take,<-j,List.take_take];congr 1;omega
 have h:(x.take ((c+1)*4)++a.drop (c*4)++x.drop ((c+1)*4+z (a.drop<|c*4))).drop (c*4+z d)=a.drop (c*4)++x.drop ((c+1)*4+z (a.drop<|c*4)):=by rw[aW,i,<-f,sR]
 rw[g,h,<-aW,oV (by simp;omega)]
def Ul(l:cK):∀u∈aH l,u.oneCell'=bX:=by
 intro u a;induction l with
 |nil=>cases a
 |cons x r b=>
  rw[show x::r=[x]++r from rfl,fT,ap]at a;rcases a with a|a
  .exact BA x u a
  .exact b a
def Po(h:ku f d e)(Q:z e<=1000000000)(g:∀s,bY d=M s->s<G (H f)):cA bG 179 #[d] f λP w=>∃v,P=aP v/\w.ownsRow (G<|H f) 164 4 v (z e) (aH e)/\Below (G<|H f) f w:=by
 obtain⟨O,K,p,q,r⟩:=cL ot;obtain⟨t,⟨rfl,D⟩|⟨C,b,o,rfl,N,u⟩⟩:=h;(.obtain rfl:e=[]:=aR D;have F:∀f:I,(binOp .eql 102 aG aG).run bG f=.ok (aO bX) f:=λ_=>rfl;(go_in);go_wp2;go_ret;exact⟨_,rfl,bN _ _ _ _,Below.refl _ _⟩)
 .have E:C<G (H f):=g C rfl;have x:=Z u;have y:=Z t;have j:(cF f<|aw #[] 164).ownsRow (G<|H f) 164 4 (bE (G<|H f) 0 0 0) 0 []:=World.ownsRow_lit f #[] 0 (ai _) (by decide) rfl;have A:=Z j;have F:∀(f:I)a n c,(binOp .eql 102 (ah (M a) n c) aG).run bG f=.ok (aO bF) f:=λ_ _ _ _=>rfl;clear g j u t;go_in
  go_wp2_with(first
   |(at_builtin;refine bV _ rfl (.tmp 5) (.tmp 6) 102 rfl (G (H f)) 164 O wX 4 48 underlying102 K p q r rfl (by decide) _ 0 [] rfl A (U C b) (z e) o (aH e) rfl y (λS T L=>by rw[dB,fE E];exact x S T L) (Ul e) (by omega) (by omega) (by simp) ?_;intro V W i k;have l:=Z i;have m:=Z k;clear i k))
  go_ret;refine⟨_,rfl,by simpa using ae l,?_⟩;have:=m.below (B:=G<|H f) (by simp) (by rintro s⟨⟩;exact ai _);exact⟨this.os,this.tape,this.output,aF (by simp) this.size,λs b=>(this.block s b).trans<|Below.heap_alloc f _ s b⟩
def Br{P:Program}{t d e f:TypeId}(c:P.underlying t=M (.slice f))(b:P.underlying d=M (.slice f))(x a:aa)(w:I):(Builtin.append_ #[t,d] e #[x,a]).run P w=(Builtin.append_ #[t,t] e #[x,a]).run P w:=by
 cases x<;>try(simp[Builtin.append_,eH c];done)
 cases hq:P.info? f<;>simp[Builtin.append_,eH c,eH b,sizeOf,typeInfo,hq]
def nR{P:Program}(w:I){k:Array Oper}{e:cD Oper}{B:Oper}{D:Act}{ad:Exit->Act->I->Prop}(p:B.guard=none)(ao au:Operand)(ac C:TypeId)(V:B.op=.call {callee:=.builtin .append,args:=#[ao,au],argTypes:=#[ac,C]})(a:R)(u:TypeId)(y:TypeInfo)(i:aa)(b bytes:R)(x:P.underlying ac=M (.slice u))(r:P.underlying C=M (.slice u))(S:P.info? u=M y)(hz:y.zero=M i)(h:y.size=b)(o:y.bytes=bytes)(s:i.cells.size=b)(q:0<b)(F:aa)(A:R)(t:jd)(X:D.eval ao=F)(j:w.ownsRow a u b F A t)(n:Addr)(v al:R)(c:jd)(hx:D.eval au=ah (M n) v al)(T:z c=v*b)(g:∀an E,c[an]?=M E->aS w (n.add an)=M E)(K:∀E∈c,E.oneCell'=bX)(hn:A+v<=140737488355328)(d:(A+v)*bytes<=140737488355328)(f:a<=G (H w))(av:∀l m,m.ownsRow a u b l (A+v) (t++c)->eY w m F l->wpList P k ad e (D.put B.dst l) m):wpList P k ad (B::e) D w:=by
 obtain⟨l,m,W,L,N,_,O⟩:=nB (P:=P) w a ac B.type u y i b bytes x S hz h o s q F A t j n v al c T g K (by unfold maxLen;omega) d f;refine kX p λax Q=>?_;unfold Oper.wp;simp[execOp,V,resolve,invoke,builtin,X,hx,Br x r,W,Result.andThen];exact Q _ _<|av l m L<|eY.of N O
def OH(o:a.ownsRow b 164 4 d c x)(r:b<=G (H a))(C:ix a g w)(Q:c<=1000000000):cA bG 181 #[d,aq c,bE g 0 1 1] a λP F=>∃y,P=aP y/\F.ownsRow b 164 4 y (c+1) (x++aH [w])/\eY a F d y:=by
 obtain⟨v,t,l,m,n⟩:=cL ot;have A:∀B O,(aH [w])[B]?=M O->aS a (((U g 0):Addr).add B)=M O:=by intro B O s;rw[dB,bL C,cZ];simpa[aH,E.cells]using s
 have p:=Z A;have q:=Z o;clear A C;rcases o.2 with⟨rfl,rfl⟩|⟨S,k,L,rfl,_,_,N,u,_⟩;(.clear o;(go_in);(go_wp2_with(at_builtin;refine nR _ rfl (.tmp 23) (.tmp 24) 102 101 rfl b 164 v wX 4 48 underlying102 underlying101 t l m n rfl (by decide) _ 0 x rfl q (U g 0) 1 1 (aH [w]) rfl rfl p (BA w) (by omega) (by omega) r ?_;intro D K e f;have i:=Z e;have j:=Z f;clear e f));go_ret;exact⟨_,rfl,by simpa using ae i,j⟩);clear o;(have B:k<=9223372036854775807:=by unfold maxLen at u;omega);by_cases s:k=c;(.subst s;(go_in);(go_wp2_with(at_builtin;refine nR _ rfl (.tmp 23) (.tmp 24) 102 101 rfl b 164 v wX 4 48 underlying102 underlying101 t l m n rfl (by decide) _ k x rfl q (U g 0) 1 1 (aH [w]) rfl rfl p (BA w) (by omega) (by omega) r ?_;intro D K e f;have i:=Z e;have j:=Z f;clear e f));go_ret;exact⟨_,rfl,i,j⟩);(go_in);(go_wp2_with(at_builtin;refine nR _ rfl (.tmp 23) (.tmp 24) 102 101 rfl b 164 v wX 4 48 underlying102 underlying101 t l m n rfl (by decide) _ c x rfl q (U g 0) 1 1 (aH [w]) rfl rfl p (BA w) (by omega) (by omega) r ?_;intro D K e f;have i:=Z e;have j:=Z f;clear e f));go_ret;exact⟨_,rfl,i,j⟩
section
open Go.Shelf
attribute [local go_sem] Oper.semAt_some
def VK(l:cK):z (iw l)<=z l:=(kO l).length_le
def Vq(h:(aH<|e.take b)[c]?=M d):(aH e)[c]?=M d:=by
 have a:aH e=aH (e.take b)++aH (e.drop b):=by rw[<-fT,ci]
 rw[a,gm (fF.1 h).1];exact h
def YF:aa->R
 | .slice _ n _=>n
 |_=>0
def MP(h:ku a d e)(hs:dS e)(hl:z e<=1000000)(hv:∀k,bY d=M k->k<G (H a)):cA bG 136 #[d] a λcl w'=>∃v',cl=aP v'/\w'.ownsRow (G<|H a) 164 4 v' (z<|iw e) (aH<|iw e)/\J az a w':=by
 obtain⟨i0,bp,bx,bT,ca⟩:=cL ot;obtain⟨cj,t,ao⟩:=bS h;have bq:=AF d cj (z e) t ao;have HH:=Z h;have HV:=Z hv;clear h hv;subst ao;refine(di (n:=3)).1 ?_;refine callsIn_of_wp_marks func136 rfl trivial ?_ rfl;simp only[ntmps136,eZ,aC,cS,Nat.reduceAdd,Nat.reduceSub,eh,dZ,fa,eE,cJ,cC];gi_wp2_with(refine⟨trivial,?_⟩;gi_at_call 79;refine(di.2<|bq _).mono ?_;rintro cl w1⟨rfl,rfl⟩)
 obtain⟨l,r⟩:∃l,(cF (cF a<|aw #[aG] 102)<|aw #[ah cj (z e) t] 102)=l:=⟨_,rfl⟩;have cT:G (H l)=G (H a)+2:=by rw[<-r];simp
 have an:J az a l:=by rw[<-r];exact(cI az a).alloc _
 have bm:er l (G<|H a) aG 102:=by rw[<-r];exact er.alloc (aE _ rfl) _
 have bn:er l (G (H a)+1) (ah cj (z e) t) 102:=by rw[<-r];exact aE _<|by simp
 have D:ku l (ah cj (z e) t) e:=HH.ay an<|λk b=>⟨id,HV k b⟩;have hA0:rX l (λk=>k=G (H a)+1) (G<|H a) (iw<|iq []) (λk=>k=G (H a)) l:=⟨⟨_,bm,bN _ _ _ _,λk=>by simp[bY]⟩,J.refl _ _⟩;rw[r];refine nT (m:=3) (arg:=Gs<|ah cj (z e) t) (V:=AP) (n0:=G<|H a) (gf:=127) (lb:=#[aA<|G (H a)+1]) (l:=nV 0<|io e) (S:=λk=>k=G (H a)+1) ?geval (enters_of func127 (by kernel_rfl) rfl) (λ_=>rfl) (wh (G<|H a) 2 bn D HV (by omega)<|by omega) trivial (by omega) (λk b=>by omega) (λg bb ax=>rX l (λk=>k=G (H a)+1) (G<|H a) (iw<|iq g) bb ax) (λ_ _ _ _=>False) (λk=>k=G (H a)) hA0 (λk b t=>by omega) ?lt ?st (λ_ _ _ _ _ _ h=>h.elim) ?body ?done ?stop;case geval=>rfl
 case lt=>exactλg bb ax n=>n.lt (by omega)<|by omega
 (case st=>intro g bb ax o T n f c;refine n.stays f<|λk b=>⟨(c k b).1,?_⟩;rcases(c k b).2 with t|t|t;exact .inl t;exact t.elim;exact .inr t);(case stop=>intro cm t g bb ax _ h;exact h.elim)
 case body=>
  rintro lr g⟨av,s⟩bb ax bu T ce y n _;obtain⟨hn,db,b⟩:=Jq hs y;have cu:0<z s:=gJ.2 b.ne;have cB:av+z s+z db=z e:=by rw[b.all,hn];simp;omega
  obtain⟨ba,f,cn,hx,cv⟩:=D.some (by omega);cases hx;have o:=AQ D b.all b.ne;rw[<-hn]at o;unfold Gs;unfold zt at o|-;simp only at o|-;have cc:∀k,bb k->k<G (H ax):=λk b=>(n.lt (n0:=G<|H a) (by omega) (by omega) k b).2;have cs:z s<=t-av:=by omega
  generalize t-av=ck at*;obtain⟨HA,HK,HN⟩:=dI n b hn;clear n y b hn;gi_wp2;refine⟨J.refl _ _,λW2 x=>?_⟩;have hA2:=HA.stays x (λk b=>by subst b;exact⟨T,.inr bu⟩);have cp:ba<G (H a):=HV ba rfl;have ac:ku W2 (bE ba (f+av*4) (z s) ck) s:=o.ay hA2.ay<|λk b=>(show ba=k by simpa[bY]using b)▸⟨λq=>by rcases q with q|q<;>omega,by omega⟩;obtain⟨bk,⟨W,bl⟩|⟨b',ch,cb,W,bl,X⟩⟩:=id ac
  .omega
  cases W;obtain⟨lv,j,i,w⟩:=hA2.row;obtain⟨ex,ec,F⟩:=aB i;have bs:=j.cell;have cx:=j.free;have br:=am j;have co:=x.size;obtain⟨B,bc,bg,P,u⟩:=jX X hA2 x j i;have au:G (H l)<=G (H W2):=hA2.ay.size;have cd:z (iw<|iq g)+z s<=1000000:=by have:=VK<|iq g;have:=ae HN;omega
  clear X hA2 x j i w ac o bk;generalize ad:iw (iq g)=v at*;subst F;gi_wp2;gi_loop [4] (λa=>∃A:R,A<=z s/\a=bE ba (f+av*4) A ck/\ve s=ve (s.take A)) (λa=>YF a)
  case atStart=>exact⟨z s,ai _,rfl,by rw[bP]⟩
  case round=>
   obtain⟨A,hj,rfl,al⟩:=hrel;have Q:=Z al;clear al;have c:(A=0\/∃h:A-1<z s,s[A-1].del=bF)\/∃p,∃_:p<z s,A=p+1/\s[p].del=bX:=by
    cases A with
    |zero=>exact .inl<|.inl rfl
    |succ p=>
     cases O:s[p].del with
     |true=>exact .inr ⟨p,by omega,rfl,O⟩
     |false=>exact .inl<|.inr ⟨by simp;omega,by simpa using O⟩
   rcases c with c|⟨p,hp,rfl,O⟩
   .have bh:=Z<|Qw hj Q c;have bo:(A=0\/∃p,A=p+1/\aS W2 (U ba<|f+av*4+p*4+2)=M (aO bF)):=by
     rcases c with h|⟨h1,h2⟩
     .exact .inl h
     .cases A with
      |zero=>exact .inl rfl
      |succ p=>
       have N:=B _ _ (eG s p<|by omega).2.2.1;rw[<-aY]at N;simp only[sP]at h2;rw[h2]at N;exact .inr ⟨p,rfl,N⟩
    have bd:=Z (show∀i u,(aH<|s.take A)[i]?=M u->aS W2 (((U ba<|f+av*4):Addr).add i)=M u fromλi u a=>by rw[dB];exact B _ _<|Vq a);have C:=Z (show z (s.take A)=A by simp;omega);clear c;have bt:=ae C;generalize s.take A=gj at*;rcases bo with rfl|⟨p,rfl,N⟩;case' inr=>
     have e2:(0:Y)<=(p:Y):=by omega
     have e3:(p:Y)<(p:Y)+1:=by omega
     have e4:(0:Y)<(p:Y)+1:=by omega
    all_goals
     clear bt;gi_wp2_with(first
      |(gi_at_builtin;refine ez _ rfl (.tmp 25) (.tmp 26) 102 rfl (G (H l)) 164 i0 wX 4 48 underlying102 bp bx bT ca rfl (by decide) (.slice ex (z v) ec) (z v) (aH v) rfl u (U ba (f+av*4)) _ ck (aH gj) rfl (by rw[fS,ae C]) bd (Ul gj) (by omega) (by omega) au ?_;intro v5 w5 K L;obtain⟨x5,c5,bv⟩:=aB K;subst bv;have E:er w5 (G (H a)) (.slice ex (z v) ec) 102:=(L.grown.block _ br (λcl=>by have:=(u.lt _ cl.symm).1;omega)).trans P;have cE:=E.cell;have cM:=E.free;have bf:=Z K;have bi:=Z L;clear K L E))
     obtain⟨B2,r1,r2,r3⟩:=bc.more (xs:=gj) (by omega) P (J.refl _ _) bi (by rw[ae C];exact bf);refine⟨trivial,B2,?_,(bg.mono<|λk b=>.inl<|.inr b).trans r2<|λk b=>.inl<|.inl b,r2.block lr (by omega) T,λk b=>(r3 k b).imp_right<|λt=>by omega⟩;show rX l _ _ (iw<|iq<|g++[(av,s)]) B2 _;rw[tF,(ae HK).bare,ae bh,ad];exact r1
   .have N:=B _ _ (eG s p hp).2.2.1;rw[O,<-aY]at N;have C:=Z<|Q.trans<|Qx hp O;clear O;have e2:(0:Y)<=(p:Y):=by omega
    have e3:(p:Y)<(p:Y)+1:=by omega
    have e4:(0:Y)<(p:Y)+1:=by omega
    have E:(p:Y)<=(ck:Y):=by omega
    gi_wp2;exact⟨⟨p,by omega,rfl,C⟩,by simp[YF]⟩
 (case done=>intro cm bb ax s n o _ p;obtain⟨lv,j,i,w⟩:=n.row;rw[AM]at i;obtain⟨ex,ec,F⟩:=aB i;have bs:=j.cell;obtain⟨HA,u,f,HK⟩:=gD n i w p;have v:=am p;clear n j i w p;subst F;gi_wp2;have c:=gH ax cm<|.deferred none;refine⟨by simp,.inl ⟨_,_,rfl,run_takeDeferred HK,?_⟩⟩;refine⟨_,gy rfl _ _ _,?_⟩;have hx:=c.own u<|λk b t=>o<|(f cm).2<|.inr (by rw[<-t];exact b);refine⟨_,rfl,eM hx (by omega),an.trans (HA.ay.trans c<|λk b=>.inr (by subst b;omega))<|λk b=>.inr (by rcases b with t|t<;>omega)⟩)
end
section
open Go.Shelf
def za{P:Program}{b:Array Oper}{o:Oper}{e:Act}{K:Act->I->Prop}{Q:Exit->Act->I->Prop}{F:Prop}(k:o.guard=none)(p x:Operand)(g h:TypeId)(c:o.op=Op.call {callee:=Callee.builtin Builtin.copy,args:=#[p,x],argTypes:=#[g,h]})(v u:aa)(j:e.eval p=v)(n:e.eval x=u)(l:(Builtin.copy_ #[g,h] o.type #[v,u]).run P a=.ok d f)(i:K (e.put o.dst d) f):if Region.wanted o (yielded b e.tmps)=bX then Oper.wp P o e a K Q else F:=by
 have m:Region.wanted o (yielded b e.tmps)=bX:=by simp[Region.wanted,k]
 rw[dt m];unfold Oper.wp;simp[execOp,c,resolve,invoke,builtin,j,n,l,Result.andThen];exact i
def QR(w:I):(Go.sizeOf 164).run bG w=.ok 4 w:=by kernel_rfl
def qy{w:I}{f:TypeId}(d:w.heap[c]?=M (aw T f (0,0)))(e:T.toList.take (b*4)=x)(j:R)(u:aa)(o:R)(a:(x.drop o)[j]?=M u):aS w (U c<|o+j)=M u:=by
 rw[bL d];rw[oX,<-e,mW]at a;split at a;simpa using a;cases a
def Jt(f k d n i:R)(l:Array aa)(m:jd)(N:f<=k)(P:a.heap[k]?=M (aw l 164 (0,0)))(D:n+1<=d)(V:d<=9223372036854775807)(L:l.size=d*4)(p:l.toList.take (n*4)=m)(r:ix a b w)(u:b≠k)(hi:i<n)(hn:n<=1000000000)(h1:∀ac∈m,ac.oneCell'=bX):cA bG 181 #[bE k 0 n d,aq i,bE b 0 1 1] a λbf w'=>bf=aP (bE k 0 (n+1) d)/\w'.ownsRow f 164 4 (bE k 0 (n+1) d) (n+1) (m.take (i*4)++aH [w]++m.drop (i*4))/\J (λal=>al=k) a w':=by
 have y:z m=n*4:=by rw[<-p,dP,iL];omega
 have X:∀lb q,(callFunc 226 #[bE b 0 1 1,bE k ((i+1)*4) lb q]).run bG a=.ok (.value<|aO bF) a:=λlb q=>by rw[fc func226 (by kernel_rfl) (by kernel_rfl) (by kernel_rfl) (e:=Extern.SlicesOverlaps.overlaps #[101,101] #[4]) (by kernel_rfl),Lib.run_overlaps_apart a 101 4 164 underlying101 4 QR (U b 0) (U k<|(i+1)*4) 1 1 lb q u _ _ 4 (d*4) (by unfold ix at r;simp[World.shape?,r];rfl) (by simp[World.shape?,P,L];rfl) (by omega) (by unfold ix at r;simp[World.frozen?,r]) (by unfold ix at r;simp[World.frozen?,r])];rfl
 have v:(prog.info? 164).map (·.size)=M 4:=by kernel_rfl
 have x:z (m.drop<|i*4)=(n-i)*4:=by rw[iG,y];omega
 obtain⟨c,j⟩:∃c,c=(l.toList.take ((i+1)*4)++m.drop (i*4)++l.toList.drop ((i+1)*4+z (m.drop<|i*4))):=⟨_,rfl⟩;have S:z c=d*4:=by rw[j];simp only[af,dP,iG,iL]at x|-;omega
 have F:∀A s q,(Builtin.copy_ #[102,102] A #[bE k ((i+1)*4) (n-i) s,bE k (i*4) (n+1-i) q]).run bG a.drew=.ok (goInt<|Nat.min (n+1-i)<|n-i) (a.drew.setRow k c.toArray):=λA s q=>by rw[j];refine rA a.drew _ _ A 164 4 k ((i+1)*4) _ s (U k<|i*4) _ q l _ (m.drop<|i*4) underlying102 v P ?_ (λbg ac T=>by rw[dB];exact qy P p bg ac _ T) (by omega)<|λac hu=>h1 ac<|dw hu;rw[x];simp only[wZ];split<;>omega
 have t:(a.drew.setRow k c.toArray).heap[k]?=M (aw c.toArray 164 (0,0)):=tR _ _ _ _ _ _ P;obtain⟨e,g⟩:∃e,e=(c.take (i*4)++aH [w]++c.drop (i*4+z (aH [w]))):=⟨_,rfl⟩;have o:z (aH [w])=4:=rfl;have O:ix (a.drew.setRow k c.toArray) b w:=(so a.drew k b _ u).trans r;have K:∀(W:I),W.heap=(a.drew.setRow k c.toArray).heap->∀A s,(Builtin.copy_ #[102,101] A #[bE k (i*4) (n+1-i) s,bE b 0 1 1]).run bG W=.ok (goInt<|Nat.min 1<|n+1-i) (W.setRow k e.toArray):=λW B A s=>by rw[g];refine rA W _ _ A 164 4 k (i*4) _ s (U b 0) _ 1 c.toArray _ (aH [w]) underlying102 v (by rw[B];exact t) ?_ (λbg ac T=>?_) (by simp;omega)<|BA w;rw[o];simp only[wZ];split<;>omega;rw[dB,bL (show ix W b w by unfold ix;rw[B];exact O),cZ];simpa[aH,E.cells]using T
 have bd:¬((i:Y)=(n:Y)):=by omega
 have bb:IntKind.i64.wrap ((i:Y)+1)=(i:Y)+1:=by rw[bQ];omega
 have bc:IntKind.i64.wrap ((n:Y)+1)=(n:Y)+1:=by rw[bQ];omega
 have ba:((i:Y)+1).toNat=i+1:=by omega
 have ad:((n:Y)+1).toNat=n+1:=by omega
 have au:(0:Y)<=(i:Y)+1:=by omega
 have ax:i<=n:=by omega
 have av:(i:Y)<=(n:Y)+1:=by omega
 have an:¬(d=i):=by omega
 have ao:¬(d=i+1):=by omega
 have Q:prog.follows .mixedOrders=bX:=by kernel_rfl
 have C:=Z (show∀W:I,W.heap=(a.drew.setRow k c.toArray).heap->W.os=a.os->W.tape=a.tape->W.output=a.output->(W.setRow k e.toArray).ownsRow f 164 4 (bE k 0 (n+1) d) (n+1) (m.take (i*4)++aH [w]++m.drop (i*4))/\J (λal=>al=k) a (W.setRow k e.toArray)from by
  intro W B e1 e2 e3;refine⟨⟨by simp[o];omega,.inr ⟨k,d,e.toArray,rfl,N,tR _ _ _ _ _ _ (by rw[B];exact t),D,V,?_,?_⟩⟩,⟨e1,e2,e3,?_,?_⟩⟩
  .rw[g];simp[o];omega
  .rw[List.toList_toArray,g,j];exact UQ p y (by omega) rfl (by simp;omega)
  .rw[setRow_size,B,setRow_size];exact ai _
  .intro al hk q;rw[so _ _ _ _ q,B,so _ _ _ _ q];rfl)
 clear S x j g o O t y h1 p L v r u N;go_in
 go_wp2_with(simp only[X])
 go_region_law_o (refine za rfl _ _ 102 102 rfl _ _ (by simp[Act.eval,Act.put]) (by simp[Act.eval,Act.put]) (F _ _ _) ?_)
 go_wp2_with(at_builtin;refine wpList_copy_run _ rfl _ _ 102 101 rfl _ _ rfl rfl (K _ rfl _ _) ?_)
 go_ret;exact⟨rfl,C _ rfl rfl rfl rfl⟩
end
section
open Go.Shelf
attribute [local go_sem] Oper.semAt_some
section
variable{F:Fence}{n:R}{P:Program}(w:I){b:Array Oper}{rest:cD Oper}{o:Oper}{a:Act}{Q:Exit->Act->I->Prop}
theorem Da(k:o.guard=none)(h:Operand)(t:TypeId)(c:o.op=Op.range t h)(y v:TypeId)(m:P.underlying t=M (.map y v))(i:R)(p:fP)(l:a.eval h=.map (M i))(x:jJ w i p)(j:∀d,qI d i (G<|H w) p p->w.grownBy d none->G (H d)=G (H w)+1->wpListIn F n P b Q rest (a.put o.dst<|aA<|G<|H w) d):wpListIn F n P b Q (o::rest) a w:=by
 refine wY k λu f=>?_;obtain⟨d,e,q,r,s⟩:=NI m x;unfold Oper.wpIn;refine⟨?_,?_⟩;simp[Oper.about,c];rw[Oper.semAt_plain F _ _ (by rw[c];intro A g;cases g)];simp[execOp,c,l,e,Result.andThen];exact f _ _<|j d q r s
theorem DA(v:o.guard=none)(l:Operand)(e:o.op=Op.next l bF)(y r:R)(A left:fP)(ri:a.eval l=aA r)(C:qI w y r A left)(h:left=[]->wpListIn F n P b Q rest (a.put o.dst<|dE #[aO bF]) w)(i:∀f p c g,left=f++p::c->qI g y r A (f++c)->w.grownBy g (M r)->G (H g)=G (H w)->(Instr.entry<|aA r).run P g=.ok (dE #[aq p.1,p.2]) g->wpListIn F n P b Q rest (a.put o.dst<|dE #[aO bX,aq p.1,p.2]) g):wpListIn F n P b Q (o::rest) a w:=by
 refine wY v λB j=>?_;unfold Oper.wpIn;refine⟨?_,?_⟩;simp[Oper.about,e];rw[Oper.semAt_plain F _ _ (by rw[e];intro D k;cases k)];rcases Ra (P:=P) C o.type with⟨m,d⟩|⟨f,p,c,g,x,d,q,s,t,u⟩;simp[execOp,e,ri,d,Result.andThen];exact j _ _<|h m;simp[execOp,e,ri,d,Result.andThen];exact j _ _<|i f p c g x q s t u
end
def Xk(v:Y):Array aa:=#[aL v]
def xy(m:fP)(c:eP):Prop:=m.map (·.2)=c.map (Value.int .u64)
theorem Iy(n0 cM s al:R)(cj:fP)(T:eP)(w:I)(hb:er w s (.map<|M al) 108)(hm:jJ w al cj)(bo:xy cj T)(cc:al<n0)(ce:n0<=G (H w)):YR Xk AP n0 cM 131 #[aA s] (λcx=>∃cT,(cx++cT).Perm T) (λcx=>cx.Perm T) (λk=>k=s) w:=by
 intro lr cE Jx cB bq hs hD hJ bb bg bi hY;have cn:aS bq (U s 0)=M (.map<|M al):=hs.cell (.inl rfl) hb.cell;have bh:jJ bq al cj:=hm.dq<|hs.2 al<|.inl ⟨cc,id⟩;obtain⟨HB,HM,cb,HS,HJ,bu,HY,ac,ad⟩:=xS hb bh bo hs hJ bb hY bg bi;clear hb hm bo hs hJ bb bg bi hY hD bh;refine rr func131 rfl trivial ?_ rfl;simp only[ntmps131,eZ,aC,cS,Nat.reduceAdd,Nat.reduceSub,eh,dZ,fa,eE,cJ,cC]
 gi_wp2_with(first
  |(refine Da _ rfl _ 108 rfl 3 103 underlying108 al _ rfl HM ?_;intro w0 v bc cs;have W:=Z v;have p:=Z bc;clear v bc))
 have N:=HS.1;have cd:s<G (H bq):=ag (am HB) N;have O:J az bq w0:=J.dR p (by simp);have t:=ac _ _ _ HJ;gi_loopg [] (z cj) (λk wr=>∃(e:eP)(left:fP)(vl:eP)(A:fN),z left=k/\xy left vl/\(e++vl).Perm T/\qI wr al (G<|H bq) cj left/\cE e A wr/\(∀k,k=s->¬A k)/\jL AP n0 (λk=>k=s) w wr/\¬A (G<|H bq))
 (case atStart=>refine⟨[],cj,T,cB,rfl,cb,nJ _,W,ad _ _ _ _ _ HJ O cN,bu,HS.trans<|O.same (aF ce N) (λk c=>⟨by subst c;exact cd,id⟩) cN,λL=>by have:=(t _ L).2;omega⟩);(case round=>obtain⟨e,left,vl,A,bf,d,j,bd,ba,u,f,ao⟩:=hrel;have co:aS wr (U s 0)=M (.map<|M al):=f.cell (.inl rfl) HB.cell;obtain⟨E,D,X,C⟩:=gD d j bd ba;have r:=Z u;obtain⟨bv,B,bs⟩:=dI f ao bf;clear d j bd ba u f ao bf W p O t;(gi_wp2_with(first|(refine DA _ rfl _ rfl al (G<|H bq) _ _ rfl X ?_ ?_)));(.intro g;subst g;(have i:vl=[]:=by have:=ae E;unfold xy at this;simpa using this.symm);subst i;gi_wp2;refine vH (iY rfl _ _ _) rfl ?_;exact⟨⟨_,rfl⟩,.inl ⟨e,A,by simpa using ae D,C,trivial⟩⟩);(.intro m pk pv l w1 hl x y bk ck;subst hl;have d:=ae E;unfold xy at d;rw[aQ,aZ]at d;obtain⟨va,vd,rfl,bl,bn⟩:=iF.1 d.symm;obtain⟨cm,vc,rfl,hv,bm⟩:=nI.1 bn;simp only at hv;subst hv;have S:J (λk=>k=G (H bq)) wr w1:=J.dR y (λk c=>by cases c;exact .inl rfl);obtain⟨bT,i,ca⟩:=dI S x (show xy (m++l) (va++vc)from by unfold xy;rw[aQ,aQ,bl,bm]);have q:=Z<|show((e++[cm])++(va++vc)).Perm T from List.Perm.trans (by rw[aW];exact lE _<|show(cm::(va++vc)).Perm _ from lj.symm) D;have av:=ad _ _ _ _ _ C S (λk c=>by subst c;exact⟨B,.inr<|.inr N⟩);have K:=Z<|HY e cm A w1 ⟨va++vc,q⟩ av trivial;clear S x y d bl bn bm av E D X;unfold Xk at K;obtain⟨fn,cl,bp,body,hy,hR⟩:=ae K;have bt:=Z hR;clear hR K;gi_wp2;refine⟨(λL=>(by cases L)),bt.mono ?_⟩;rintro db W3(⟨rfl,_,B3,ax,g,an⟩|⟨rfl,hx⟩);(.have br:=Z ax;have bx:=Z g;have V:=Z an;clear ax g an;gi_wp2;(gi_roundg (z<|m++l));(case measure=>have:=ae bs;simp at this|-;omega);(case rel=>have g:=ae bx;have f:=ae bv;have cv:G (H wr)=G (H w1):=bk.symm;have ch:=i.lt;have cp:=i.ne;have au:∀k,A k->n0<=k:=λk c=>(ac _ _ _ C k c).1;have cu:=f.1;refine⟨e++[cm],m++l,va++vc,B3,rfl,ca,q,i.kept (g.block al (by omega) (λL=>by have:=au _ L;omega))<|g.block _ ch B,br,λk c L=>?_,?_,λL=>?_⟩;rcases V k L with L|L;exact r k c L;subst c;omega;refine(f.trans<|bT.same (by omega) (λk c=>⟨by omega,by omega⟩)<|λk c d=>by omega).trans<|g.same (by omega) (λk c=>⟨by omega,r k c⟩) (λk c d=>by have:=au k c;omega);rcases V _ L with L|L;exact B L;omega));have V:=Z hx;clear hx;gi_wp2;refine cO (iY rfl _ _ _) rfl ?_;exact⟨⟨_,rfl⟩,.inr ⟨_,V⟩⟩))
end
def lC(n:Y):aa:=if n=0 then .nilIface else .iface 55 (aq n)
def LJ{b:uN}(hp:ym a d b)(Q:∀al,bY d=M al->al<G (H a))(hr:z b<=1000000000000)(S:∀X∈b,X.key.size<=140737488351232/\X.val.size<=140737488351232):cA bG 42 #[d] a λp f=>p=aP (lC<|gd b)/\J az a f:=by
 have P:∀(X:Bool)(a:I),(Op.unary .not<|aO X).run bG a=.ok (aO<|!X) a:=λ_ _=>rfl;obtain⟨h1,⟨rfl,h0⟩|⟨L,j,ac,rfl,ad,O⟩⟩:=hp;(.obtain rfl:b=[]:=aR h0;(go_in);go_wp2;(go_loopw [11] (λT wr=>T=aq 0/\wr=a) (λ_ _=>0));(case atStart=>exact⟨rfl,rfl⟩);(case round=>obtain⟨rfl,c⟩:=hrel;subst wr;go_wp2;go_ret;exact⟨rfl,J.refl _ _⟩))
 .have F:L<G (H a):=Q L rfl;have C:=Z O;have HZ:=Z S;clear O h1 Q S;by_cases N:8<z b
  .have E:=Z (show gd b=2 by unfold gd;rw[dt N]);have e1:(8:Y)<(z b:Y):=by omega
   go_in
   go_wp2;go_ret;exact⟨by rw[ae E];rfl,J.refl _ _⟩
  .have E:=Z (show gd b=lU b by unfold gd;rw[dh N]);have e1:¬(8:Y)<(z b:Y):=by omega
   go_in
   go_wp2;go_loopw [11] (λT wr=>∃n:R,n<=z b/\T=aq n/\gd b=lU (b.drop n)/\J az a wr) (λT _=>z b-(intOf T).toNat)
   case atStart=>exact⟨0,bB _,rfl,E,J.refl _ _⟩
   case round=>
    obtain⟨n,hn,rfl,B,i⟩:=hrel;have D:=Z B;by_cases g:n<z b
    .have A:=li b n g;have s:aS wr (U L<|j+n*3)=M (aj b[n].key):=i.cell (C _ _ A.1) id F;have t:aS wr (U L<|j+n*3+1)=M (aj b[n].val):=i.cell (by rw[aY];exact C _ _ A.2.1) id F;have u:aS wr (U L<|j+n*3+2)=M (aO b[n].del):=i.cell (by rw[aY];exact C _ _ A.2.2) id F;have e:=HZ _<|ar g;have k:=Z i;clear A B i;by_cases x:b[n].key.size=0\/8<b[n].key.size
     .have q:=Z<|D.trans<|CQ g x;generalize b[n]=V at*;obtain⟨r,w,K⟩:=V;simp only at s t u x e;have l:∀W,cA bG 68 #[aj r] W λp f=>p=aP (aO bF)/\f=W:=by
       intro W;apply(rf r W e.1).mono;rintro p f⟨rfl,rfl⟩;exact⟨qt (by simp;omega),rfl⟩
      go_wp2_with fail
      apply(l _).mono;rintro p o⟨rfl,m⟩;subst o;go_wp2;go_ret;exact⟨by rw[ae q];rfl,k.alloc _⟩
     .by_cases c:b[n].del=bF/\16<b[n].val.size
      .have q:=Z<|D.trans<|CP g x c;generalize b[n]=V at*;obtain⟨r,w,K⟩:=V;simp only at s t u x c e;obtain⟨rfl,y⟩:=c;have l:∀W,cA bG 68 #[aj r] W λp f=>p=aP (aO bX)/\f=W:=by
        intro W;apply(rf r W e.1).mono;rintro p f⟨rfl,rfl⟩;exact⟨qt (by simp;omega),rfl⟩
       have v:∀W,cA bG 69 #[aj w] W λp f=>p=aP (aO bF)/\f=W:=by
        intro W;apply(xQ w W e.2).mono;rintro p f⟨rfl,rfl⟩;exact⟨qt (by simp;omega),rfl⟩
       go_wp2_with fail
       apply(l _).mono;rintro p o⟨rfl,m⟩;subst o;go_wp2_with fail
       apply(v _).mono;rintro p o⟨rfl,m⟩;subst o;go_wp2;go_ret;exact⟨by rw[ae q];rfl,k.alloc _⟩
      .have q:=Z<|D.trans<|Fv g x c;generalize b[n]=V at*;obtain⟨r,w,K⟩:=V;simp only at s t u x c e;have l:∀W,cA bG 68 #[aj r] W λp f=>p=aP (aO bX)/\f=W:=by
        intro W;apply(rf r W e.1).mono;rintro p f⟨rfl,rfl⟩;exact⟨qt (by simp;omega),rfl⟩
       cases K with
       |true=>
        clear c;go_wp2_with fail
        apply(l _).mono;rintro p o⟨rfl,m⟩;subst o;go_wp2;go_roundw;case rel=>exact⟨n+1,g,by go_num,q,k.alloc _⟩
        case measure=>simp[intOf];omega
       |false=>
        have y:w.size<=16:=by simp at c;omega
        have v:∀W,cA bG 69 #[aj w] W λp f=>p=aP (aO bX)/\f=W:=by
         intro W;apply(xQ w W e.2).mono;rintro p f⟨rfl,rfl⟩;exact⟨qt (by simp;omega),rfl⟩
        clear c;go_wp2_with fail
        apply(l _).mono;rintro p o⟨rfl,m⟩;subst o;go_wp2_with fail
        apply(v _).mono;rintro p o⟨rfl,m⟩;subst o;go_wp2;go_roundw;case rel=>exact⟨n+1,g,by go_num,q,k.alloc _⟩
        case measure=>simp[intOf];omega
    .have c:n=z b:=by omega
     have q:=Z (show gd b=0 by rw[B,c,gx];rfl);have k:=Z i;have e:¬(n:Y)<(z b:Y):=by omega
     clear B i c;go_wp2;go_ret;exact⟨by rw[ae q];rfl,k⟩
structure SR where
 aN:R
 mem:Y
 yu:Y
 closed:Bool
 memory:aa
 ir:R
 bj:R
 l0:aa
 l1:aa
 l2:aa
 l3:aa
 next:R
 ig:R
 mj:Option R
 log:R
 gF:Bool
 vP:Bool
 kC:Bool
 kB:Bool
variable{n:SR}
def SR.cells(s:SR)(k:Y):Array aa:=#[jo k,dz 0,aA s.aN,aq s.mem,aq s.yu,aO s.closed,.nilIface,s.memory,aq s.ir,aL s.bj,s.l0,s.l1,s.l2,s.l3,aL s.next,aq s.ig,.map s.mj,aL s.log,aO s.gF,aO s.vP,aO s.kC,aO s.kB]
def bM(w:I)(a:R)(s:SR)(k:Y):Prop:=w.heap[a]?=M (aw (s.cells k) 110 (0,0))
def bM.cell(h:bM a c n m){i:R}(e:(n.cells m)[i]?=M d):aS a (U c i)=M d:=by
 rw[bL h];exact e
def bM.cellAt(h:bM a b n m)(i:R)(e:(n.cells m).toList[i]?=M d):aS a (U b i)=M d:=h.cell (by rw[<-e];simp)
def bM.free{b i:R}(h:bM a b n m):a.frozen? (U b i)=bF:=dW h
def bM.ay{S:fN}{w w':I}(h:bM w c n m)(d:J S w w')(a:¬S c):bM w' c n m:=(d.block c (am h) a).trans h
def Yk(w:I)(t:aa):cA bG 47 #[.nilIface,t] w λe a=>e=aP (aO bF)/\a=w:=by
 go_in
 go_wp2;go_ret;exact⟨rfl,rfl⟩
def Hs(w:I):cA bG 67 #[.nilIface] w λe a=>e=aP .nilIface/\Below (G<|H w) w a:=by
 go_in
 go_wp2_with(go_at_call 47;refine(Yk _ _).mono ?_;rintro e b⟨rfl,rfl⟩)
 go_ret;exact⟨rfl,(Below.refl _ w).alloc (ai _) _⟩
def iB(h:bM a b n m):cA bG 41 #[aA b] a λg f=>g=aP (lC<|if n.closed then 6 else 0)/\Below (G<|H a) a f:=by
 have c5:aS a (U b 5)=M (aO n.closed):=h.cell rfl;have i:aS a (U b 6)=M .nilIface:=h.cell rfl;have e:=Hs a;cases hc:n.closed with
 |true=>
  rw[hc]at c5;clear h hc;go_in
  go_wp2;go_ret;exact⟨rfl,Below.refl _ _⟩
 |false=>
  rw[hc]at c5;clear h hc;go_in
  go_wp2_with(go_at_call 67;refine e.mono ?_;rintro g j⟨rfl,c⟩;have d:=Z c;clear c)
  go_ret;exact⟨rfl,d⟩
def AK(a:Y)(i n:R):Bool:=if i=0 then decide (a<=(n:Y))else decide (i<3)&&decide (a<(n:Y))
def rS(i f:R)(x:Option Addr)(g:R)(h:bM a b n m)(k:i<4):cA bG 102 #[aA b,aq i,ah x f g] a λj e=>j=aP (aO<|AK n.yu i f)/\e=a:=by
 have c4:aS a (U b 4)=M (aq n.yu):=h.cell rfl;generalize n.yu=d at*;clear h;have c:i=0\/i=1\/i=2\/i=3:=by omega
 rcases c with rfl|rfl|rfl|rfl;(·(go_in);go_wp2;go_ret;exact⟨rfl,rfl⟩);(·(go_in);go_wp2;go_ret;exact⟨rfl,rfl⟩);(·(go_in);go_wp2;go_ret;exact⟨rfl,rfl⟩);(go_in);go_wp2;go_ret;exact⟨rfl,rfl⟩
section
open Go.Conc.Locks
def bM.gK(h:bM a b n m)(j:Y):bM (ct a (U b 0)<|jo j) b n j:=by
 have:=aT (i:=0) (u:=jo j) h;exact this
def Js(h:bM a b n 0):cA bG 108 #[aA b] a λj d=>j=aP (aO n.closed)/\bM d b n 0/\J (λm=>m=b) a d:=by
 have g:=bM.cellAt h 0 rfl;have k:a.frozen? (U b 0)=bF:=h.free;have c:=h.gK 1;have c5:=bM.cellAt c 5 rfl;have i:=bM.cellAt c 0 rfl;have l:(ct a (U b 0)<|jo 1).frozen? (U b 0)=bF:=c.free;have e:=Z<|show bM (ct (ct a (U b 0)<|jo 1) (U b 0)<|jo 0) b n 0/\J (λm=>m=b) a (ct (ct a (U b 0)<|jo 1) (U b 0)<|jo 0)from⟨c.gK 0,(ij b a).setCell b 0 _<|.inl rfl⟩;clear h c;go_enter_defers func108,ntmps108
 go_wp2_with(go_at_call 39;refine(lock_free (U b 0) _ g k).mono ?_;rintro j d⟨rfl,rfl⟩)
 refine eR (f:=40) (args:=#[aA b]) (by simp) (by simp[go_sem]) ?_;apply(unlock_deferred (U b 0) .returning _ i l).mono;rintro j p o⟨rfl,rfl,rfl⟩;exact⟨_,gy rfl _ _ _,rfl,e⟩
end
def Uk(d:aa)(b a:Y)(w:I)(e:∃p,d=.pointer p)(h:¬(1<=b/\b<=32/\2<=a/\a<=6)):cA bG 26 #[d,eB #[aq b,aq a]] w λg f=>g=aP (dE #[fA none,lC 1])/\J az w f:=by
 obtain⟨p,rfl⟩:=e;have c:=Z<|show J az w (cF w<|aw #[aq b,aq a] 78)from(cI az w);unfold lC;simp only[Int.reduceEq,jT];by_cases i:b<1;(.clear h;(go_in);go_wp2;(go_ret2);exact⟨rfl,c⟩);by_cases j:32<b;(.clear h;(go_in);go_wp2;(go_ret2);exact⟨rfl,c⟩);by_cases k:a<2;(.clear h;(go_in);go_wp2;(go_ret2);exact⟨rfl,c⟩);have l:6<a:=by omega
 clear h;go_in
 go_wp2;go_ret2
 exact⟨rfl,c⟩
def SR.fresh(c:R)(b a:Y)(d:R):SR:=⟨c,b,a,bF,aG,0,0,aG,aG,aG,aG,0,0,M d,0,bF,bF,bF,bF⟩
def IF(a:R):Array aa:=#[.func (.func 55) #[aA a] #[],.func (.func 56) #[aA a] #[],.func (.func 57) #[aA a] #[],.func (.func 58) #[aA a] #[]]
def jJ.ZB(w:I)(o:Obj):jJ (cF (cF w o)<|.map #[] 0) (G (H w)+1) []:=by
 have h:=jJ.new<|cF w o;have e:G (H<|cF w o)=G (H w)+1:=by simp
 rw[e]at h;exact h
def WD(q:R)(e a:Y)(w:I)(V:1<=e/\e<=32/\2<=a/\a<=6)(p t u v x:I->Prop)(o:∀W,J az w W->bM W (G (H w)+2) (SR.fresh q e a<|G (H w)+1) 0->jJ W (G (H w)+1) []->G (H W)=G (H w)+4->p W)(B:∀W,p W->cA bG 55 #[aA<|G (H w)+2] W λn k=>n=aP .nilIface/\t k/\k.heap[G (H w)+3]?=W.heap[G (H w)+3]?)(C:∀W,t W->cA bG 56 #[aA<|G (H w)+2] W λn k=>n=aP .nilIface/\u k/\k.heap[G (H w)+3]?=W.heap[G (H w)+3]?)(D:∀W,u W->cA bG 57 #[aA<|G (H w)+2] W λn k=>n=aP .nilIface/\v k/\k.heap[G (H w)+3]?=W.heap[G (H w)+3]?)(E:∀W,v W->cA bG 58 #[aA<|G (H w)+2] W λn k=>n=aP .nilIface/\x k/\k.heap[G (H w)+3]?=W.heap[G (H w)+3]?):cA bG 26 #[aA q,eB #[aq e,aq a]] w λn k=>n=aP (dE #[aA<|G (H w)+2,.nilIface])/\x k:=by
 obtain⟨X,o2,o3,o4⟩:=V;have e1:¬e<1:=by omega
 have e2:¬32<e:=by omega
 have e3:¬a<2:=by omega
 have e4:¬6<a:=by omega
 have O:∀b w,(callFunc 55 b).run bG w=.ok (.enter 55 b) w:=enters_of func55 (by kernel_rfl) rfl;have P:∀b w,(callFunc 56 b).run bG w=.ok (.enter 56 b) w:=enters_of func56 (by kernel_rfl) rfl;have Q:∀b w,(callFunc 57 b).run bG w=.ok (.enter 57 b) w:=enters_of func57 (by kernel_rfl) rfl;have S:∀b w,(callFunc 58 b).run bG w=.ok (.enter 58 b) w:=enters_of func58 (by kernel_rfl) rfl;obtain⟨A,F,K,L,N⟩:=jX (show p (cF (cF (cF (cF w<|aw #[aq e,aq a] 78)<|.map #[] 0)<|aw ((SR.fresh q e a<|G (H w)+1).cells 0) 110)<|aw (IF<|G (H w)+2) 64)/\(cF (cF (cF (cF w<|aw #[aq e,aq a] 78)<|.map #[] 0)<|aw ((SR.fresh q e a<|G (H w)+1).cells 0) 110)<|aw (IF<|G (H w)+2) 64).heap[G (H w)+3]?=M (aw (IF<|G (H w)+2) 64 (0,0))from⟨o _ ((((cI az w).alloc _).alloc _).alloc _) ((ga _<|by simp).trans<|aE _<|by simp) (((jJ.ZB w _).alloc _).alloc _) (by simp),aE _<|by simp⟩) B C D E;clear X o2 o3 o4 o B C D E;have T:=@tS bG;go_in
 go_wp2;go_loopw [44] (λi wr=>∃(r:R),r<=4/\i=aq r/\((r=0/\p wr)\/(r=1/\t wr)\/(r=2/\u wr)\/(r=3/\v wr)\/(r=4/\x wr))/\wr.heap[G (H w)+3]?=M (aw (IF<|G (H w)+2) 64 (0,0))) (λi _=>4-(intOf i).toNat)
 case atStart=>exact⟨0,by omega,by go_num,.inl ⟨rfl,A.1⟩,A.2⟩
 (case round=>obtain⟨r,hj,rfl,f,j⟩:=hrel;have f0:=cellAt j 0 rfl;have f1:=cellAt j 1 rfl;have f2:=cellAt j 2 rfl;have f3:=cellAt j 3 rfl;have l:=Z j;clear j;rcases f with⟨rfl,f⟩|⟨rfl,f⟩|⟨rfl,f⟩|⟨rfl,f⟩|⟨rfl,f⟩;(.have m:=F wr f;clear f;(go_wp2_with(go_at_fn 55;refine m.mono ?_;rintro n y⟨rfl,c,d⟩;have i:=Z c;have g:=Z<|d.trans l;clear c d));go_roundw;(case rel=>exact⟨1,by omega,by go_num,.inr<|.inl ⟨rfl,i⟩,g⟩);case measure=>simp[intOf]);(.have m:=K wr f;clear f;(go_wp2_with(go_at_fn 56;refine m.mono ?_;rintro n y⟨rfl,c,d⟩;have i:=Z c;have g:=Z<|d.trans l;clear c d));go_roundw;(case rel=>exact⟨2,by omega,by go_num,.inr<|.inr<|.inl ⟨rfl,i⟩,g⟩);case measure=>simp[intOf]);(.have m:=L wr f;clear f;(go_wp2_with(go_at_fn 57;refine m.mono ?_;rintro n y⟨rfl,c,d⟩;have i:=Z c;have g:=Z<|d.trans l;clear c d));go_roundw;(case rel=>exact⟨3,by omega,by go_num,.inr<|.inr<|.inr<|.inl ⟨rfl,i⟩,g⟩);case measure=>simp[intOf]);(.have m:=N wr f;clear f;(go_wp2_with(go_at_fn 58;refine m.mono ?_;rintro n y⟨rfl,c,d⟩;have i:=Z c;have g:=Z<|d.trans l;clear c d));go_roundw;(case rel=>exact⟨4,by omega,by go_num,.inr<|.inr<|.inr<|.inr<|⟨rfl,i⟩,g⟩);case measure=>simp[intOf]);have s:=Z f;clear f;go_wp2;(go_ret2);exact⟨rfl,s⟩)
structure Acc(S:fN)(b:I)(a:cD (R×aa×TypeId))(lb:R)(e d:TypeId)(c base n:R)(xs:jd)(B:fN)(W:I):Prop where
 fix:∀p∈a,er W p.1 p.2.1 p.2.2
 row:∃v,er W lb v e/\W.ownsRow base d c v n xs/\(∀k,B k↔(∃p∈a,p.1=k)\/k=lb\/bY v=M k)
 YV:∀p∈a,G (H b)<=p.1/\p.1<base/\p.1≠lb
 YU:G (H b)<=lb/\lb<base
 ay:J S b W
section
variable{S:fN}{b W:I}{a:cD (R×aa×TypeId)}{lb:R}{e d:TypeId}{c baseqq n:R}{xs:jd}{B:fN}
theorem Acc.lt(i:Acc S b a lb e d c baseqq n xs B W):∀k,B k->G (H b)<=k/\k<G (H W):=by
 intro k o;obtain⟨v,j,l,m⟩:=i.row;have:=i.YU;rcases(m k).1 o with⟨p,h,g⟩|g|g;subst g;exact⟨(i.YV p h).1,am<|i.fix p h⟩;subst g;exact⟨by omega,am j⟩;have:=l.lt k g;exact⟨by omega,this.2⟩
theorem Acc.stays{m:I}{T:fN}(l:Acc S b a lb e d c baseqq n xs B W)(h:J T W m)(g:∀k,T k->¬B k/\(S k\/G (H b)<=k)):Acc S b a lb e d c baseqq n xs B m:=by
 obtain⟨v,p,q,f⟩:=l.row;exact⟨λr j=>(h.block _ (am<|l.fix r j)<|λo=>(g _ o).1<|(f _).2<|.inl ⟨r,j,rfl⟩).trans<|l.fix r j,⟨v,(h.block _ (am p)<|λo=>(g _ o).1<|(f _).2<|.inr<|.inl rfl).trans p,h.own q<|λk i o=>(g k o).1<|(f k).2<|.inr<|.inr i,f⟩,l.YV,l.YU,l.ay.trans h<|λk i=>(g k i).2⟩
theorem Acc.more{g:I}{A f:aa}{E:R}{s:jd}(t:Acc S b a lb e d c baseqq n xs B W)(D:er W lb A e)(l:∀k,B k↔(∃p∈a,p.1=k)\/k=lb\/bY A=M k)(O:W.ownsRow baseqq d c A n xs)(y:J (λk=>bY A=M k) W g)(u:bY f=bY A\/∃K,bY f=M K/\G (H W)<=K)(m:g.ownsRow baseqq d c f E s):∃C,Acc S b a lb e d c baseqq E s C (ct g (U lb 0) f)/\J B W (ct g (U lb 0) f)/\(∀k,C k->B k\/G (H W)<=k):=by
 have q:∀k,bY A=M k->baseqq<=k/\k<G (H W):=λk h=>O.lt k h;have r:∀k,bY f=M k->baseqq<=k:=λk h=>(m.lt k h).1;have N:=t.YU;have w:er g lb A e:=(y.block _ (am D) (λj=>by have:=(q _ j).1;omega)).trans D;have o:J B W (ct g (U lb 0) f):=(y.mono (T:=B)<|λk h=>.inl<|(l k).2<|.inr<|.inr h).setCell _ _ _<|.inl<|(l _).2<|.inr<|.inl rfl;refine⟨λk=>(∃p∈a,p.1=k)\/k=lb\/bY f=M k,⟨λp v=>?_,⟨f,w.set _,?_,λk=>ru⟩,t.YV,t.YU,?_⟩,o,?_⟩;obtain⟨P,Q,L⟩:=t.YV p v;have F:er g p.1 p.2.1 p.2.2:=(y.block _ (am<|t.fix p v) (λj=>by have:=(q _ j).1;omega)).trans<|t.fix p v;exact F.other _ L;exact m.kept (df g _ _ _) (by right;intro j;have:=r _ j;omega);exact t.ay.trans o<|λk h=>.inr (t.lt k h).1;rintro k(j|j|j);exact .inl<|(l k).2<|.inl j;exact .inl<|(l k).2<|.inr<|.inl j;rcases u with F|⟨K,F,L⟩;exact .inl<|(l k).2<|.inr<|.inr<|F.symm.trans j;rw[F]at j;cases j;exact .inr L
end
def Qp(e:S->Array aa)(V:jr)(h o j:R)(l:Array aa)(n:cD S)(m:fN)(w:I):Prop:=∀(g:R)(d:cD S->fN->I->Prop)(f:cD S->I->Prop)(B:fN)(W:I),jL V h m w W->V.D W->d [] B W->(∀k,m k->¬B k)->(∀a B W,d a B W->∀k,B k->h<=k/\k<G (H W))->(∀a B W b T,d a B W->J T W b->(∀k,T k->¬B k/\(V.F k\/G (H w)<=k))->d a B b)->(∀a x B W,(a++[x])<+:n->d a B W->V.D W->YieldAt Fence.wide (o-1) bG g (e x) W λi b=>
 (i=aP (aO bX)/\V.D b/\∃c,d (a++[x]) c b/\J B W b/\(∀k,c k->B k\/G (H W)<=k))\/(i=aP (aO bF)/\f (a++[x]) b))->
 CallsIn Fence.wide o bG j (#[.func (.yield g) #[] #[]]++l) W λi b=>(∃v,i=aP v)/\((∃c,d n c b/\V.D b)\/(∃a,f a b))
def Qp.q{d:S->Array aa}{h:Array aa}{j:cD S}(A:Qp d u c g l h j X a):Qo d u c g l h (·<+:j) (·=j) X (λw=>u.F w\/G (H a)<=w) a:=by
 intro v x m B W n o p q r s t;apply(A v x m B W n o p q r s t).mono;rintro C y⟨f,⟨k,e⟩|e⟩;exact⟨f,.inl ⟨j,k,rfl,e⟩⟩;exact⟨f,.inr e⟩
def Cg{α:Type}{c:α->Array aa}{m:R}{A:Operand}{t:Array Tmp}{b body:Code}{Q:Exit->Act->I->Prop}{a:Act}{V:jr}{n0 gf:R}{lb:Array aa}{l:cD α}{S:fN}(y:a.eval A=.func (.func gf) #[] lb)(v:Enters bG gf)(p:∀E,(c E).size=t.size)(ri:Qp c V n0 (m-1) gf lb l S f)(x:V.D f)(o:n0<=G (H f))(h:∀s,S s->s<G (H f))(u:cD α->fN->I->Prop)(r:Code->cD α->fN->I->Prop)(B:fN):Px c m A t b body Q a f V n0 (·<+:l) S (λs=>V.F s\/G (H f)<=s) u r B (∀(D:R)(B:fN)(W:I),G (H f)<=D->u l B W->¬B D->V.D W->W.heap[D]?=M (.deferred<|M [])->Q .normal {a with defers:={target:=.collected D,args:=#[]}::a.defers} W):=λw j n q i d e g=>xu (λ_ C=>.inr C) y v p ri.q x o h u r B w j n q i d (λ_ D B W k=>k▸e D B W) g
