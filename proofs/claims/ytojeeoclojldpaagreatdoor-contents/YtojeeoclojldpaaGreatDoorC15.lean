import Derived.Laws.CopyRow
import Derived.Laws.NewBlocks
import Derived.Lib.AppendZerosOnto
import Derived.Lib.Overlaps
import Derived.Shelf.RegionOpenPlain
import Derived.Test.YtojeeoclojldpaaGreatDoorC12
import Derived.Test.YtojeeoclojldpaaGreatDoorC13
open _root_ renaming List.length→y,Option.some→H,Array.size→z,Go.World.heap→G,Go.Value.ownBlock→bV,Go.World.cell?→aT,Go.World.setCell→bZ,Go.World.alloc→ct,Bool.false→bF,Bool.true→bW,Nat→M,Int→Z,List→cr,Go.Calls→cy,Go.Proofs.Tryz.prog→bG,Go.Value.slice→J,Go.Value.string→ai,Go.Value.bool→aL
namespace Go.Proofs.YtojeeoclojldpaaGreatDoor
open ChangeShapes WideShapes RowKit Proofs.Tryz
set_option maxHeartbeats 16000000
set_option linter.all false
set_option maxRecDepth 100000
variable{a f C:I}{b c g:M}{d s:aa}{e:cA}{X:fJ}{w:E}{x:iU}{V:Array aa}
section
open Go.Shelf
attribute [local go_sem] Oper.semAt_some
def RF(w:Array aa)(e:eI)(q:Z->Bool)(B:Enters bG b)(u:Row a 1 d (y e) (e.map<|Value.int .u64))(D:∀E,bV d=H E->E<z (G a))(hn:y e<=1000000000)(C:∀F∈e,∀W,Below (z<|G a) a W->cy bG b (#[aH F]++w) W λx O=>x=aO (aL<|q F)/\Below (z<|G W) W O):cy bG 128 #[d,.func (.func b) #[] w] a λx w'=>(∃E:Z,x=aO (ap E)/\decide (0<=E)=e.any q)/\Below (z<|G a) a w':=by
 have eg:∀c a,(callFunc b c).run bG a=.ok (.enter b c) a:=B;obtain⟨ad,al,t⟩:=bM u;obtain⟨L,N,K⟩:=dC u D C;clear B u D C;subst t;go_in
 go_wp2;go_loopw [8] (λi wr=>∃n:M,n<=y e/\i=ap n/\Below (z<|G a) a wr/\(e.take n).any q=bF) (λi _=>y e-(intOf i).toNat)
 case atStart=>exact⟨0,bA _,rfl,Below.refl _ _,rfl⟩
 case round=>
  obtain⟨n,ac,rfl,f,k⟩:=hrel;have o:=U f;by_cases j:n<y e
  .obtain⟨P,g,hx,V⟩:∃P g,ad=H (R P g)/\aT wr (R P<|g+n)=H (aH e[n]):=by
    obtain⟨h1,⟨A,h0⟩|⟨S,l,v,A,X,T⟩⟩:=ae L
    .omega
    .cases A;exact⟨S,l,rfl,(f.cell (p:=(R S<|l+n))<|N S rfl).trans<|T n _<|by simp[j]⟩
   subst hx;have c:=K e[n] (aq j) wr f;have Q:(n:Z)<(y e:Z):=by omega
   have e2:(0:Z)<=(n:Z):=by omega
   have p:(e.take<|n+1).any q=q e[n]:=by rw[aj j,List.any_append,k];simp
   have s:=U p;have r:=U<|aq j;clear f k p;generalize e[n]=F at*;cases hp:q F with
   |true=>
    rw[hp]at c;have l:=U<|show e.any q=bW from iY.2 ⟨F,r,hp⟩;clear hp;go_wp2_with(go_at_fn b;refine c.mono ?_;rintro x w1⟨rfl,i⟩;have m:=U i;clear i)
    go_ret;exact⟨⟨n,rfl,by rw[ae l];simp⟩,o.trans<|m.mono o.size⟩
   |false=>
    rw[hp]at c;have l:=U<|s.trans hp;clear hp;go_wp2_with(go_at_fn b;refine c.mono ?_;rintro x w1⟨rfl,i⟩;have m:=U i;clear i)
    go_roundw;case rel=>exact⟨n+1,j,by go_num,o.trans<|m.mono o.size,l⟩
    case measure=>simp[intOf];omega
  .have c:n=y e:=by omega
   have g:=U (show e.any q=bF by rw[<-k,c,bP]);have Q:((n:Z)<(y e:Z))=False:=by simp;omega
   clear f k c;go_wp2;go_ret;exact⟨⟨-1,rfl,by rw[ae g];simp⟩,o⟩
def Jq(e:Array aa)(c:eI)(t:Z->Bool)(j:Enters bG b)(g:Row a 1 d (y c) (c.map<|Value.int .u64))(m:∀s,bV d=H s->s<z (G a))(r:y c<=1000000000)(k:∀v∈c,∀W,Below (z<|G a) a W->cy bG b (#[aH v]++e) W λn q=>n=aO (aL<|t v)/\Below (z<|G W) W q):cy bG 81 #[d,.func (.func b) #[] e] a λn u=>n=aO (aL<|c.any t)/\Below (z<|G a) a u:=by
 have h:=RF e c t j g m r k;obtain⟨A,x,f⟩:=bM g;clear j g m k;subst f;go_in
 go_wp2_with(go_at_call 128;refine h.mono ?_;rintro n w⟨⟨s,rfl,l⟩,i⟩;have p:=U l;have o:=U i;clear l i)
 go_ret;rw[<-ae p];exact⟨rfl,o⟩
def KY(i:M)(r:Z)(O:i<y e)(N:0<i)(P:y e<=1000000000)(n:ii a b e[i])(o:dV a c d 102)(w:kw a d e)(l:dV a g (ap i) 3):cy bG 80 #[aH r,aA b,aA c,aA g] a λD A=>D=aO (aL<|decide (e[i].bI<=r)&&decide (r<(e[i-1]'(by omega)).bI))/\A=a:=by
 obtain⟨_,_,_,Q⟩:=n.cells;have c1:=o.cell;have c2:=l.cell;obtain⟨p,x⟩:∃p,i=p+1:=⟨i-1,by omega⟩;subst x;obtain⟨v,⟨rfl,u⟩|⟨C,f,s,rfl,j,m⟩⟩:=w;omega;have k:p<y e:=by omega
 have L:aT a (R C<|f+p*4+3)=H (aH e[p].bI):=by rw[aV];exact m _ _ (ez e p k).2.2.2
 have E:(0:Z)<=(p:Z):=by omega
 have F:(p:Z)<(y e:Z):=by omega
 have K:IntKind.i64.wrap (p:Z)=(p:Z):=by rw[bQ];omega
 have t:wrap64 (p:Z)=(p:Z):=by unfold wrap64;omega
 simp only[sE];generalize e[p].bI=S at*;generalize e[p+1].bI=B at*;clear n o l m v j;by_cases q:B<=r;(.simp only[q,nh,yJ];(go_in);go_wp2;go_ret;exact⟨rfl,rfl⟩);simp only[q,zF,pT];(go_in);go_wp2;go_ret;exact⟨rfl,rfl⟩
structure rH(W0:I)(S:fJ)(bl:M)(lst:cA)(B:fJ)(W:I):Prop where
 row:∃v,dV W bl v 102/\W.ownsRow (z<|G W0) 164 4 v (y lst) (aF lst)/\∀k,B k↔k=bl\/bV v=H k
 aw:Y (λk=>k=bl\/S k) W0 W
def rH.lt{S B:fJ}(l:rH a S b e B C){n0:M}(j:n0<=b)(m:n0<=z (G a)):∀k,B k->n0<=k/\k<z (G C):=by
 intro k i;obtain⟨v,d,g,h⟩:=l.row;rcases(h k).1 i with c|c;subst c;exact⟨j,ak d⟩;have:=g.lt k c;exact⟨by omega,this.2⟩
def rH.stays{B T:fJ}(m:rH a X b e B f)(h:Y T f C)(d:∀k,T k->¬B k/\(X k\/z (G a)<=k)):rH a X b e B C:=by
 obtain⟨v,i,l,c⟩:=m.row;exact⟨⟨v,(h.block _ (ak i)<|λj=>(d _ j).1<|(c _).2<|.inl rfl).trans i,h.own l<|λk g j=>(d k j).1<|(c k).2<|.inr g,c⟩,m.aw.trans h<|λk g=>(d k g).2.imp_left .inr⟩
def rH.more{e:I}{B:fJ}{c xs:cA}(K:rH a X b c B f)(q:b<z (G a))(F:dV f b d 102)(D:Y aB f C)(A:eP C e d s)(l:e.ownsRow (z<|G a) 164 4 s (y c+y xs) (aF c++aF xs)):∃u,rH a X b (c++xs) u (bZ e (R b 0) s)/\Y B f (bZ e (R b 0) s)/\(∀k,u k->B k\/z (G f)<=k):=by
 obtain⟨n,o,v,j⟩:=K.row;obtain rfl:n=d:=by have E:=o.symm.trans F;simpa using E
 have w:Y (λk=>bV n=H k) f e:=(D.mono cG).trans (Y.dN (S:=λk=>bV n=H k) A.grown<|λk g=>.inl g)<|λk g=>.inl g;have r:∀k,k<z (G a)->¬bV n=H k:=λk g h=>by have:=(v.lt k h).1;omega
 have t:dV e b n 102:=(w.block _ (ak o)<|r _ q).trans o;have m:Y B f (bZ e (R b 0) s):=(w.mono (T:=B)<|λk g=>.inl<|(j k).2<|.inr g).setCell _ _ _<|.inl<|(j _).2<|.inl rfl;refine⟨λk=>k=b\/bV s=H k,⟨⟨s,t.set _,?_,λk=>qT⟩,?_⟩,m,?_⟩;rw[af,fO];exact l.kept (cV e _ _ _) (by right;intro h;have:=(l.lt _ h).1;omega);refine K.aw.trans m<|λk g=>?_;rcases(j k).1 g with h|h;exact .inl<|.inl h;exact .inr (v.lt k h).1;rintro k(h|h);exact .inl<|(j k).2<|.inl h;rcases A.uc with E|⟨N,E,L⟩;exact .inl<|(j k).2<|.inr<|E.symm.trans h;rw[E]at h;cases h;have:=D.size;exact .inr<|by omega
end
section
open Go.Shelf
attribute [local go_sem] Oper.semAt_some
def eQ{b base' k c n:M}(r:a.ownsRow b k c d n x)(j:base'<=b):a.ownsRow base' k c d n x:=by
 obtain⟨i,g⟩:=r;refine⟨i,?_⟩;rcases g with g|⟨q,e,h,l,m,o,p⟩;exact .inl g;exact .inr ⟨q,e,h,l,aE j m,o,p⟩
def KZ(a:eI)(l:cA):y (eE a l)<=y l:=(mf a l).length_le
def kw.aw{S:fJ}{w w':I}(h:kw w d e)(a:Y S w w')(b:∀k,bV d=H k->¬S k/\k<z (G w)):kw w' d e:=a.row h b
def kw.some(h:kw a d e)(l:0<y e):∃g b c,d=bD g b (y e) c/\y e<=c:=by
 obtain⟨j,⟨rfl,i⟩|⟨g,b,c,rfl,f,k⟩⟩:=h;omega;exact⟨g,b,c,rfl,f⟩
def zo(c:eI)(h:kw a d e)(hs:dQ e)(hl:y e<=1000000)(hm:Row a 1 s (y c) (c.map<|Value.int .u64))(gb:y c<=1000)(hv:∀k,bV d=H k->k<z (G a))(cu:∀k,bV s=H k->k<z (G a)):cy bG 49 #[d,s] a λch w'=>∃v',ch=aO v'/\w'.ownsRow (z<|G a) 164 4 v' (y<|eE c e) (aF<|eE c e)/\Y aB a w':=by
 obtain⟨i0,cp,cT,db,dc⟩:=cz nP;obtain⟨eu,F,cM⟩:=bM h;obtain⟨mx,mc,cv⟩:=bM hm;have ef:=Ap d eu (y e) F cM;obtain⟨HH,HM,HV,ad⟩:=gx h hm hv cu;clear h hm hv cu;subst cv;subst cM;refine(cX (n:=3)).1 ?_;refine callsIn_of_wp_marks func49 rfl trivial ?_ rfl;simp only[ntmps49,eR,ay,cL,Nat.reduceAdd,Nat.reduceSub,dS,dR,eS,er,cC,cq];gi_wp2_with(refine⟨trivial,?_⟩;gi_at_call 79;refine(cX.2<|ef _).mono ?_;rintro ch w1⟨rfl,rfl⟩)
 obtain⟨p,L⟩:∃p,(ct (ct (ct a<|ar #[J mx (y c) mc] 122)<|ar #[aK] 102)<|ar #[J eu (y e) F] 102)=p:=⟨_,rfl⟩;have gc:z (G p)=z (G a)+3:=by rw[<-L];simp
 have bu:Y aB a p:=by rw[<-L];exact(((Y.refl aB a).alloc _).alloc _).alloc _
 have eb:dV p (z<|G a) (J mx (y c) mc) 122:=by rw[<-L];exact dV.alloc (dV.alloc (aD _ rfl) _) _
 have ed:dV p (z (G a)+1) aK 102:=by rw[<-L];exact dV.alloc (aD _<|by simp) _
 have ee:dV p (z (G a)+2) (J eu (y e) F) 102:=by rw[<-L];exact aD _<|by simp
 have bm:kw p (J eu (y e) F) e:=HH.aw bu<|λk b=>⟨id,HV k b⟩;have hA0:rH p (λk=>k=z (G a)+2) (z (G a)+1) (eE c<|ig []) (λk=>k=z (G a)+1) p:=⟨⟨_,ed,bK _ _ _ _,λk=>by simp[bV]⟩,Y.refl _ _⟩;rw[L];refine nw (m:=3) (arg:=FY<|J eu (y e) F) (V:=Az) (n0:=z<|G a) (gf:=127) (lb:=#[aA<|z (G a)+2]) (l:=nz 0<|ie e) (S:=λk=>k=z (G a)+2) ?geval (enters_of func127 (by kernel_rfl) rfl) (λ_=>rfl) (vT (z<|G a) 2 ee bm HV (by omega)<|by omega) trivial (by omega) (λk b=>by omega) (λf bT bl=>rH p (λk=>k=z (G a)+2) (z (G a)+1) (eE c<|ig f) bT bl) (λ_ _ _ _=>False) (λk=>k=z (G a)+1) hA0 (λk b F=>by omega) ?lt ?st (λ_ _ _ _ _ _ h=>h.elim) ?body ?done ?stop;case geval=>rfl
 case lt=>exactλf bT bl P=>P.lt (by omega)<|by omega
 (case st=>intro f bT bl i T P ht g;refine P.stays ht<|λk b=>⟨(g k b).1,?_⟩;rcases(g k b).2 with F|F|F;exact .inl F;exact F.elim;exact .inr F);(case stop=>intro ev F f bT bl _ h;exact h.elim)
 case body=>
  rintro lr f⟨dk,r⟩bT bl ei cj es W P _;obtain⟨hn,gj,b⟩:=IW hs W;have fs:0<y r:=gF.2 b.ne;have fL:dk+y r+y gj=y e:=by rw[b.all,hn];simp;omega
  obtain⟨dm,E,ff,hx,fz⟩:=bm.some (by omega);cases hx;have an:=AA bm b.all b.ne;rw[<-hn]at an;unfold FY;unfold zd at an|-;simp only at an|-;have ck:∀k,bT k->k<z (G bl):=λk b=>(P.lt (n0:=z<|G a) (by omega) (by omega) k b).2;obtain⟨HA,HK,HP,HN⟩:=gx P b W hn;clear P W b hn;gi_wp2;refine⟨(Y.refl _ _).alloc _,λW2 cB=>?_⟩;have bt:Y (λk=>k=lr) bl W2:=((Y.refl (λk=>k=lr) bl).alloc _).trans cB<|λk b=>.inl b;have hA2:=HA.stays bt (λk b=>by subst b;exact⟨cj,.inr ei⟩);have bp:dV W2 (z<|G bl) (bD dm (E+dk*4) (y r)<|F-dk) 102:=(cB.block _ (by simp)<|by omega).trans<|aD _ rfl;have eo:=bp.cell;have fk:=bt.size;have ea:z (G bl)<z (G W2):=ak bp;have fn:dm<z (G a):=HV dm rfl;gi_wp2;gi_loopw [15] (λb wr=>∃(n:M)(B1:fJ),b=ap n/\n<=y r/\rH p (λk=>k=z (G a)+2) (z (G a)+1) (eE c (ig f)++eE c (r.take n)) B1 wr/\Y bT W2 wr/\(∀k,B1 k->bT k\/z (G W2)<=k)) (λb _=>y r-(intOf b).toNat)
  case atStart=>exact⟨0,bT,rfl,bA _,by simpa[eE,kN]using hA2,Y.refl _ _,λk b=>.inl b⟩
  case round=>
   obtain⟨n,B1,rfl,fu,hA1,i,K⟩:=hrel;by_cases B:n<y r
   .have ao:kw wr (bD dm (E+dk*4) (y r)<|F-dk) r:=an.aw hA1.aw<|λk b=>(show dm=k by simpa[bV]using b)▸⟨λq=>by rcases q with q|q<;>omega,by omega⟩;have bo:dV wr (z<|G a) (J mx (y c) mc) 122:=(hA1.aw.block _ (by omega)<|by omega).trans eb;have cx:Row wr 1 (J mx (y c) mc) (y c) (c.map<|Value.int .u64):=hA1.aw.row (bu.row HM<|λk b=>⟨id,ad k b⟩) (λk b=>by have:=ad k b;exact⟨by omega,by omega⟩);have Q:dV wr (z<|G bl) (bD dm (E+dk*4) (y r)<|F-dk) 102:=(i.block _ ea (λq=>by have:=ck _ q;omega)).trans bp;obtain⟨lv,o,t,av⟩:=hA1.row;obtain⟨ex,ec,br⟩:=aC t;have bq:=o.cell;have cs:=o.free;have ba:=bo.cell;have bb:=Q.cell;obtain⟨dx,⟨cl,dT⟩|⟨b',et,em,cl,dT,l⟩⟩:=id ao
    .omega
    cases cl;have T:=ez r n B;have g0:=l _ _ T.1;have g1:=l _ _ T.2.1;have g2:=l _ _ T.2.2.1;have g3:=l _ _ T.2.2.2;simp only[<-aV]at g1 g2 g3;have e1:(n:Z)<(y r:Z):=by omega
    have e2:(0:Z)<=(n:Z):=by omega
    have fl:=ak bo;have eg:=ak o;have cE:=ak Q;have co:dm<z (G wr):=cY _ _ g0;have eq:y (eE c (ig f)++eE c (r.take n))+1<=2000000:=by
     have q1:=KZ c<|ig f;have q2:=KZ c<|r.take n;have q3:y (ig f)=dk:=HN.symm;have w:=rQ n r;rw[af];omega
    have bs:=Rc (ms:=c) HK.same B;have O:=U (show∀(v u:I)v5,Y aB wr v->eP v u lv v5->u.ownsRow (z<|G p) 164 4 v5 (y (eE c (ig f)++eE c (r.take n))+1) (aF (eE c (ig f)++eE c (r.take n))++aF [r[n]])->wanted c r n B=bW->∃B1,rH p (λk=>k=z (G a)+2) (z (G a)+1) (eE c (ig f)++eE c (r.take<|n+1)) B1 (bZ u (R (z (G a)+1) 0) v5)/\Y bT W2 (bZ u (R (z (G a)+1) 0) v5)/\(∀k,B1 k->bT k\/z (G W2)<=k)fromλv u v5 ht A x m=>by
     obtain⟨w,q1,q2,q3⟩:=hA1.more (xs:=[r[n]]) (by omega) o ht A x;rw[bs,dw m,<-aU];refine⟨w,q1,i.trans q2 K,λk b=>?_⟩;rcases q3 k b with F|F
     .exact K k F
     .exact .inr (aE i.size F))
    have bg:=U (show∀(v:I),Y aB wr v->wanted c r n B=bF->rH p (λk=>k=z (G a)+2) (z (G a)+1) (eE c (ig f)++eE c (r.take<|n+1)) B1 v/\Y bT W2 v fromλv ht m=>by
     rw[bs,cW (by simp[m]),dJ];exact⟨hA1.stays ht cG,i.ci ht⟩)
    obtain⟨ca,cd,bc,fd,dv,bd,N,ey,fb⟩:=xG hA1 i K ao cx o t Q l;clear hA1 i K cx o t av bo l T dx bs;generalize en:eE c (ig f)++eE c (r.take n)=g at*;subst br;have dn:=U (show 0<n->∀a d:I,Y aB wr a->Below (z<|G a) a d->dV a (z<|G wr) (ap n) 3->ii a (z (G wr)+1) r[n]->∀dd,cy bG 80 (#[aH dd]++#[aA<|z (G wr)+1,aA<|z<|G bl,aA<|z<|G wr]) d λch A=>ch=aO (aL<|decide (r[n].bI<=dd)&&decide (dd<(r[n-1]'(by omega)).bI))/\Below (z<|G d) d A fromλh0 a d x w q1 q2 dd=>by
     apply(KY n dd B h0 (by omega) (q2.below w (ak q2)) ((w.block _ (ag cE x.size)).trans ((x.block _ cE id).trans Q)) ((ao.aw x (λk b=>⟨id,(show dm=k by simpa[bV]using b)▸co⟩)).below w (λk b=>(show dm=k by simpa[bV]using b)▸ag co x.size)) ((w.block _ (ak q1)).trans q1)).mono;rintro ch A⟨rfl,rfl⟩;exact⟨rfl,Below.refl _ _⟩)
    clear ao Q;have ce:=U<|show wanted c r n B=(decide (n=0)||c.any (λdd=>decide (r[n].bI<=dd)&&decide (dd<(r[n-1]'(by omega)).bI)))from rfl;generalize fr:r[n]=el at*;obtain⟨yk,yv,yd,X⟩:=el;simp only at g0 g1 g2 g3;rcases fT n with h0|h0
    .subst h0;simp only[zG,jn]at g0 g1 g2 g3;have j:Y aB wr (ct (ct wr<|ar #[ap 0] 3)<|ar #[ai yk,ai yv,aL yd,aH X] 164):=((Y.refl _ _).alloc _).alloc _;have w:=U<|j.own N<|λ_ _ F=>F;have ac:=U (show∀u:I,(ct (ct (ct wr<|ar #[ap 0] 3)<|ar #[ai yk,ai yv,aL yd,aH X] 164)<|ar #[ai yk,ai yv,aL yd,aH X] 164).grownBy u (bV<|J ex (y g) ec)->aT u (R (z (G a)+1) 0)=H (J ex (y g) ec)/\u.frozen? (R (z (G a)+1) 0)=bF fromλu hg=>by
      have A:dV u (z (G a)+1) (J ex (y g) ec) 102:=(hg.block _ (by have:=ak bd;simp;omega) (λch=>by have:=(N.lt _ ch.symm).1;omega)).trans (dV.alloc (dV.alloc (dV.alloc bd _) _) _);exact⟨A.cell,A.free⟩)
     have al:=U j;clear j;gi_wp2_with fail
     refine⟨trivial,?_⟩;gi_wp2_with(first
      |(gi_at_builtin;refine dY _ rfl (.tmp 28) (.tmp 30) 102 rfl (z (G p)) 164 i0 wO 4 48 underlying102 cp cT db dc rfl (by decide) (.slice ex (y g) ec) (y g) (aF g) rfl (aS w (.cells #[.string yk,.string yv,.bool yd,.int .u64 X] 164)) (R (z (G wr)+1+1) 0) 1 1 (aF [⟨yk,yv,yd,X⟩]) rfl (by rw[fN];rfl) (yy ⟨yk,yv,yd,X⟩ _ (by simp)) (Bk _) (by omega) (by omega) (by simp;omega) ?_;intro v5 u C D;obtain⟨x5,c5,bv⟩:=aC C;subst bv;have x:=ac u D.grown;obtain⟨ej,ek⟩:=x;have bf:=U C;have bi:=U D;clear C D))
     refine⟨⟨1,?_⟩,by simp[intOf];omega⟩;obtain⟨B2,r1,r2,r3⟩:=O _ u _ ((al).alloc _) bi bf (by rw[ae ce];simp);exact⟨B2,rfl,by omega,r1,r2,r3⟩
    .have e0:((n:Z)==0)=bF:=by simp;omega
     obtain⟨v,w⟩:∃v,ct (ct wr<|ar #[ap n] 3) (ar #[ai yk,ai yv,aL yd,aH X] 164)=v:=⟨_,rfl⟩;have j:Y aB wr v:=by rw[<-w];exact((Y.refl _ _).alloc _).alloc _
     have A:=Jq #[aA<|z (G wr)+1,aA<|z<|G bl,aA<|z<|G wr] c _ (enters_of func80 (by kernel_rfl) rfl) (j.row dv<|λk b=>⟨id,by have:=ad k b;omega⟩) (λk b=>by have:=ad k b;have:=j.size;omega) (by omega)<|λdd _ d a=>dn h0 v d j a (by rw[<-w];exact dV.alloc (aD _ rfl) _) (by rw[<-w];exact aD _<|by simp) dd;have bx:=ae ce;rw[show decide (n=0)=bF by simp;omega,yK]at bx;rw[<-bx]at A;have cm:ii v (z (G wr)+1) ⟨yk,yv,yd,X⟩:=by rw[<-w];exact aD _<|by simp
     have cn:dV v (z (G a)+1) (J ex (y g) ec) 102:=(j.block _ eg id).trans bd;have gg:=j.size;obtain⟨cb,ac,al,fe⟩:=gx cm cn j w;clear cm cn j bx;cases m:wanted c r n B with
     |true=>
      rw[m]at A;have bk:=U m;clear m;subst w;gi_wp2_with fail
      refine⟨trivial,(CallsIn.inRound lr<|cX.2 A).mono ?_⟩;rintro ch w4⟨rfl,x⟩;have ax:=al.ci<|Y.aW (S:=aB) x;have l:=cb.below x<|ak cb;have au:dV w4 (z (G a)+1) (J ex (y g) ec) 102:=(x.block _<|ak ac).trans ac;obtain⟨z0,z1,z2,z3⟩:=l.cells;simp only at z0 z1 z2 z3;have z4:=au.cell;obtain⟨cc,bh,ds⟩:=dC (ax.own N<|λ_ _ F=>F) ax au;have ge:=ax.size;have fv:=ak l;have fx:=ak au;clear ax l au x A bq cs ba bb g0 g1 g2 g3;generalize z (G wr)+1=gi at*;gi_wp2_with(first
       |(gi_at_builtin;refine dY _ rfl (.tmp 28) (.tmp 30) 102 rfl (z (G p)) 164 i0 wO 4 48 underlying102 cp cT db dc rfl (by decide) (.slice ex (y g) ec) (y g) (aF g) rfl (aS cc (.cells #[.string yk,.string yv,.bool yd,.int .u64 X] 164)) (R (z (G w4)) 0) 1 1 (aF [⟨yk,yv,yd,X⟩]) rfl (by rw[fN];rfl) (yy ⟨yk,yv,yd,X⟩ _ rfl) (Bk _) (by omega) (by omega) (by simp;omega) ?_;intro v5 u C D;obtain⟨x5,c5,bv⟩:=aC C;subst bv;have bn:dV u (z (G a)+1) (.slice ex (y g) ec) 102:=(D.grown.block _ (by simp;omega) (λch=>by have:=(cc.lt _ ch.symm).1;omega)).trans (ds.alloc _);have ej:=bn.cell;have ek:=bn.free;have bf:=U C;have bi:=U D;clear C D bn))
      refine⟨⟨n+1,?_⟩,by simp[intOf];omega⟩;obtain⟨B2,r1,r2,r3⟩:=O _ u _ (bh.alloc _) bi bf bk;exact⟨B2,by go_num,by omega,r1,r2,r3⟩
     |false=>
      rw[m]at A;have bk:=U m;clear m;subst w;gi_wp2_with fail
      refine⟨trivial,(CallsIn.inRound lr<|cX.2 A).mono ?_⟩;rintro ch w4⟨rfl,x⟩;have bh:=U<|al.ci<|Y.aW (S:=aB) x;clear A x bq cs ba bb g0 g1 g2 g3;gi_wp2;refine⟨⟨n+1,?_⟩,by simp[intOf];omega⟩;obtain⟨r1,r2⟩:=bg _ bh bk;exact⟨B1,by go_num,by omega,r1,r2,bc⟩
   .have g:n=y r:=by omega
    have e1:((n:Z)<(y r:Z))=False:=by simp;omega
    obtain⟨ca,cd,bc⟩:=dC hA1 i K;clear hA1 i K;gi_wp2;have i:=ae cd;have hA1:=ae ca;refine⟨trivial,B1,?_,(bt.mono<|λk b=>.inl<|.inr b).trans i<|λk b=>.inl<|.inl b,i.block lr (by omega) cj,λk b=>(bc k b).imp_right<|λF=>by omega⟩;show rH p _ _ (eE c<|ig<|f++[(dk,r)]) B1 wr;rw[th,(ae HK).Lb,show eE c r=eE c (r.take n)by rw[g,bP]];exact hA1
 (case done=>intro ev bT bl m P j _ l;obtain⟨lv,o,t,av⟩:=P.row;rw[Aw]at t;obtain⟨ex,ec,br⟩:=aC t;have bq:=o.cell;obtain⟨HA,N,i,HK⟩:=gx P t av l;have n:=ak l;clear P o t av l;subst br;gi_wp2;have g:=gD bl ev<|.deferred none;refine⟨by simp,.inl ⟨_,_,rfl,run_takeDeferred HK,?_⟩⟩;refine⟨_,gK rfl _ _ _,?_⟩;have hx:=g.own N<|λk b F=>j<|(i ev).2<|.inr (by rw[<-F];exact b);refine⟨_,rfl,eQ hx (by omega),bu.trans (HA.aw.trans g<|λk b=>.inr (by subst b;omega))<|λk b=>.inr (by rcases b with F|F<;>omega)⟩)
end
def Sf(c:cA)(x:E):fE (c++[x])=fE c++Bz x:=by simp[fE]
def xM(c d:cA):fE (c++d)=fE c++fE d:=by simp[fE]
def Py{c:cA}(h:∀x∈c,x.Good):y (fE c)<=35*y c:=by
 induction c with
 |nil=>simp[fE]
 |cons x r d=>
  have a:=tZ (h x<|by simp);have f:=d (λa b=>h a<|by simp[b]);have e:fE (x::r)=Bz x++fE r:=by simp[fE]
  rw[e,af,ay];omega
def DV(h:kw a d e)(hv:∀an,bV d=H an->an<z (G a))(hg:∀bf∈e,bf.Good)(hl:y e<=1000):cy bG 221 #[d] a λao w'=>∃v',ao=aO v'/\eH w' (z<|G a) v' (fE e)/\Y aB a w':=by
 obtain⟨bf,av,al⟩:=bM h;obtain⟨HH,HV,HG⟩:=dC h hv hg;clear h hv hg;subst al;go_in
 go_wp2;go_loopw [3,8] (λc b wr=>∃l:M,l<=y e/\b=ap l/\eH wr (z<|G a) c (fE<|e.take l)/\Y aB a wr) (λ_ b _=>y e-(intOf b).toNat)
 case atStart=>exact⟨0,bA _,rfl,by simpa[fE]using eH.nil _ _,Y.refl _ _⟩
 case round=>
  obtain⟨l,hi,rfl,u,x⟩:=hrel;obtain⟨N,L,t⟩:=aC u;by_cases m:l<y e
  .have i:=HG _<|aq m;obtain⟨V,⟨A,W⟩|⟨au,v,ax,A,W,B⟩⟩:=ae HH
   .omega
   cases A;have X:au<z (G a):=HV au rfl;have f:∀j u,(aF e)[j]?=H u->aT wr (R au<|v+j)=H u:=λj u a=>x.cell (B j u a) id X;have g:=ez e l m;have g0:=f _ _ g.1;have g1:=f _ _ g.2.1;have g2:=f _ _ g.2.2.1;have g3:=f _ _ g.2.2.2;simp only[<-aV]at g1 g2 g3;have bb:y (fE<|e.take l)<=35000:=by
    have:=Py (c:=e.take l)<|λw a=>HG w<|eB a;have:=rQ l e;omega
   have Q:=U (show fE (e.take<|l+1)=fE (e.take l)++Bz e[l]by rw[aj m,Sf]);have bc:=x.size;have T:=U x;have j:bV (J N (y<|fE<|e.take l) L)≠H (z<|G wr):=λao=>by rw[<-t]at ao;have:=(u.lt _ ao).2;omega
   have e1:(l:Z)<(y e:Z):=by omega
   have e2:(0:Z)<=(l:Z):=by omega
   have K:=U u;clear B g f x u V;generalize fE (e.take l)=s at*;subst t;generalize e[l]=w at*;obtain⟨q,r,p,k⟩:=w;simp only at g0 g1 g2 g3;have k1:=i.LD;have k2:=i.val;have k3:=i.b0;have k4:=i.b1;simp only at k1 k2 k3 k4;clear i;have C:eH (ct wr<|ar #[ai q,ai r,aL p,aH k] 164) (z<|G a) (J N (y s) L) s:=aS K _;have P:=U C;clear C;go_wp2_with fail
   go_region_held3(λe=>aT e (R (z<|G wr) 0)=H (ai q)/\aT e (R (z<|G wr) 1)=H (ai r)/\aT e (R (z<|G wr) 2)=H (aL p)/\aT e (R (z<|G wr) 3)=H (aH k)) (first|assumption|go_keep) (first
    |(go_at_call 183;refine(pa (baseqq:=z<|G a) (v:=(.slice N (y s) L)) (bs:=s) k (w:=(ct wr<|.cells #[.string q,.string r,.bool p,.int .u64 k] 164).drew) (P.of_heap rfl) (by simp;omega) (by omega) k3 k4).mono ?_;rintro ao F⟨v1,rfl,D,b⟩;have n:bV v1≠H (z<|G wr):=b.ne j (by simp);have o:aT F (R (z<|G wr) 0)=H (.string q)/\aT F (R (z<|G wr) 1)=H (.string r)/\aT F (R (z<|G wr) 2)=H (.bool p)/\aT F (R (z<|G wr) 3)=H (.int .u64 k):=⟨b.cell (by simp) j,b.cell (by simp) j,b.cell (by simp) j,b.cell (by simp) j⟩;have bd:z (G wr)<z (G F):=(by have:=b.grown.size;simp at this;omega);have O1:=U D;have W1:=U b;clear D b)
    |(go_at_call 185;refine(Ph (z (G a)) v1 (s++le 8 k) ⟨q,r,p,k⟩ _ ?_ (by omega) (by simp[bY];omega) (by simp only;omega) (by simp only;omega)).mono ?_;exact O1.of_heap rfl;rintro ao O⟨v2,rfl,E,c⟩;have ba:aT O (R (z (G wr)) 0)=H (.string q)/\aT O (R (z (G wr)) 1)=H (.string r)/\aT O (R (z (G wr)) 2)=H (.bool p)/\aT O (R (z (G wr)) 3)=H (.int .u64 k):=⟨c.cell o.1 n,c.cell o.2.1 n,c.cell o.2.2.1 n,c.cell o.2.2.2 n⟩;have O2:=U E;have W2:=U (W1.trans c);clear E c))
   go_wp2;have hW:=ae W2;have ac:Y aB a (ct wr<|ar #[ai q,ai r,aL p,aH k] 164):=T.alloc _;have ad:Y aB a (ct wr<|ar #[ai q,ai r,aL p,aH k] 164).drew:=ac.trans (S:=aB) ⟨rfl,rfl,rfl,ah _,λ_ _ _=>rfl⟩<|λ_ av=>.inl av;refine⟨⟨l+1,m,by go_num,?_,ad.trans (Y.dN (S:=λan=>bV (J N (y s) L)=H an) hW.grown<|λan hk=>.inl hk)<|λan hk=>.inr (K.lt an hk).1⟩,by simp[intOf];omega⟩;rw[ae Q];have:=ae O2;rwa[aU]at this
  .have b:l=y e:=by omega
   have e1:((l:Z)<(y e:Z))=False:=by simp;omega
   subst t;rw[b,bP]at u|-;have K:=U u;have T:=U x;clear u x;go_wp2;go_ret;exact⟨_,rfl,K,T⟩
def qU{P:Program}(w:I)(l A B c:TypeId)(e n o b g:M)(p:Addr)(d j:M)(a:Array aa)(D:TypeId)(f:iU)(x:P.underlying l=H (.slice c))(m:(P.info? c).map (·.size)=H e)(r:w.heap[n]?=H (ar a D (0,0)))(u:y f=Nat.min d b*e)(i:∀C v,f[C]?=H v->aT w (p.add C)=H v)(h:o+y f<=a.size)(q:∀v∈f,v.oneCell'=bW):(Builtin.copy_ #[l,A] B #[bD n o b g,J (H p) d j]).run P w=.ok (goInt<|Nat.min d b) (w.setRow n (a.toList.take o++f++a.toList.drop (o+y f)).toArray):=by
 have t:=run_loadCells_list (P:=P) w p f i;have k:=run_storeCells_at P n o D f 0 a w r (by simpa using h) q;cases hq:P.info? c with
 |none=>simp[hq]at m
 |some E=>
  have s:E.size=e:=by simpa[hq]using m
  simp[Builtin.copy_,eA x,Builtin.lenOf,Builtin.firstCells,sizeOf,typeInfo,hq,s,<-u,t,k]
def BV(w:I)(g:M)(a:Array aa):Y (λk=>k=g) w (w.setRow g a):=⟨rfl,rfl,rfl,by simp,λk _ b=>rW w g k a b⟩
def Uj{a d:iU}(j:x.take (b*4)=a)(k:y a=b*4)(l:c<=b)(i:y d=4)(e:(b+1)*4<=y x):(((x.take ((c+1)*4)++a.drop (c*4)++x.drop ((c+1)*4+y (a.drop<|c*4))).take (c*4)++d++(x.take ((c+1)*4)++a.drop (c*4)++x.drop ((c+1)*4+y (a.drop<|c*4))).drop (c*4+y d)).take<|(b+1)*4)=a.take (c*4)++d++a.drop (c*4):=by
 have f:y (x.take<|(c+1)*4)=c*4+4:=by rw[dL];omega
 have g:(x.take ((c+1)*4)++a.drop (c*4)++x.drop ((c+1)*4+y (a.drop<|c*4))).take (c*4)=a.take (c*4):=by rw[aU,iI (by omega),List.take_take,<-j,List.take_take];congr 1;omega
 have h:(x.take ((c+1)*4)++a.drop (c*4)++x.drop ((c+1)*4+y (a.drop<|c*4))).drop (c*4+y d)=a.drop (c*4)++x.drop ((c+1)*4+y (a.drop<|c*4)):=by rw[aU,i,<-f,sG]
 rw[g,h,<-aU,oF (by simp;omega)]
def TH(l:cA):∀u∈aF l,u.oneCell'=bW:=by
 intro u a;induction l with
 |nil=>cases a
 |cons x r b=>
  rw[show x::r=[x]++r from rfl,fO,am]at a;rcases a with a|a
  .exact Bk x u a
  .exact b a
def OI(h:kw f d e)(S:y e<=1000000000)(g:∀s,bV d=H s->s<z (G f)):cy bG 179 #[d] f λQ w=>∃v,Q=aO v/\w.ownsRow (z<|G f) 164 4 v (y e) (aF e)/\Below (z<|G f) f w:=by
 obtain⟨P,L,p,q,r⟩:=cz nP;obtain⟨t,⟨rfl,E⟩|⟨D,b,o,rfl,O,u⟩⟩:=h;(.obtain rfl:e=[]:=aQ E;have K:∀f:I,(binOp .eql 102 aK aK).run bG f=.ok (aL bW) f:=λ_=>rfl;(go_in);go_wp2;go_ret;exact⟨_,rfl,bK _ _ _ _,Below.refl _ _⟩)
 .have F:D<z (G f):=g D rfl;have x:=U u;have A:=U t;have j:(ct f<|ar #[] 164).ownsRow (z<|G f) 164 4 (bD (z<|G f) 0 0 0) 0 []:=World.ownsRow_lit f #[] 0 (ah _) (by decide) rfl;have C:=U j;have K:∀(f:I)a n c,(binOp .eql 102 (J (H a) n c) aK).run bG f=.ok (aL bF) f:=λ_ _ _ _=>rfl;clear g j u t;go_in
  go_wp2_with(first
   |(at_builtin;refine bS _ rfl (.tmp 5) (.tmp 6) 102 rfl (z (G f)) 164 P wO 4 48 underlying102 L p q r rfl (by decide) _ 0 [] rfl C (R D b) (y e) o (aF e) rfl A (λT V N=>by rw[dt,fm F];exact x T V N) (TH e) (by omega) (by omega) (by simp) ?_;intro W X i k;have l:=U i;have m:=U k;clear i k))
  go_ret;refine⟨_,rfl,by simpa using ae l,?_⟩;have:=m.below (B:=z<|G f) (by simp) (by rintro s⟨⟩;exact ah _);exact⟨this.os,this.tape,this.output,aE (by simp) this.size,λs b=>(this.block s b).trans<|Below.heap_alloc f _ s b⟩
def Bc{P:Program}{t d e f:TypeId}(c:P.underlying t=H (.slice f))(b:P.underlying d=H (.slice f))(x a:aa)(w:I):(Builtin.append_ #[t,d] e #[x,a]).run P w=(Builtin.append_ #[t,t] e #[x,a]).run P w:=by
 cases x<;>try(simp[Builtin.append_,eA c];done)
 cases hq:P.info? f<;>simp[Builtin.append_,eA c,eA b,sizeOf,typeInfo,hq]
def nu{P:Program}(w:I){k:Array Oper}{e:cr Oper}{C:Oper}{E:Act}{ad:Exit->Act->I->Prop}(p:C.guard=none)(ao au:Operand)(ac D:TypeId)(W:C.op=.call {callee:=.builtin .append,args:=#[ao,au],argTypes:=#[ac,D]})(a:M)(u:TypeId)(A:TypeInfo)(i:aa)(b bytes:M)(x:P.underlying ac=H (.slice u))(r:P.underlying D=H (.slice u))(T:P.info? u=H A)(hz:A.zero=H i)(h:A.size=b)(o:A.bytes=bytes)(s:i.cells.size=b)(q:0<b)(K:aa)(B:M)(t:iU)(hs:E.eval ao=K)(j:w.ownsRow a u b K B t)(n:Addr)(v al:M)(c:iU)(hx:E.eval au=J (H n) v al)(V:y c=v*b)(g:∀an F,c[an]?=H F->aT w (n.add an)=H F)(L:∀F∈c,F.oneCell'=bW)(hn:B+v<=140737488355328)(d:(B+v)*bytes<=140737488355328)(f:a<=z (G w))(av:∀l m,m.ownsRow a u b l (B+v) (t++c)->eP w m K l->wpList P k ad e (E.put C.dst l) m):wpList P k ad (C::e) E w:=by
 obtain⟨l,m,X,N,O,_,Q⟩:=mV (P:=P) w a ac C.type u A i b bytes x T hz h o s q K B t j n v al c V g L (by unfold maxLen;omega) d f;refine kO p λax S=>?_;unfold Oper.wp;simp[execOp,W,resolve,invoke,builtin,hs,hx,Bc x r,X,Result.andThen];exact S _ _<|av l m N<|eP.of O Q
def NY(o:a.ownsRow b 164 4 d c x)(r:b<=z (G a))(D:ii a g w)(S:c<=1000000000):cy bG 181 #[d,ap c,bD g 0 1 1] a λQ K=>∃A,Q=aO A/\K.ownsRow b 164 4 A (c+1) (x++aF [w])/\eP a K d A:=by
 obtain⟨v,t,l,m,n⟩:=cz nP;have B:∀C P,(aF [w])[C]?=H P->aT a (((R g 0):Addr).add C)=H P:=by intro C P s;rw[dt,bN D,cQ];simpa[aF,E.cells]using s
 have p:=U B;have q:=U o;clear B D;rcases o.2 with⟨rfl,rfl⟩|⟨T,k,N,rfl,_,_,O,u,_⟩;(.clear o;(go_in);(go_wp2_with(at_builtin;refine nu _ rfl (.tmp 23) (.tmp 24) 102 101 rfl b 164 v wO 4 48 underlying102 underlying101 t l m n rfl (by decide) _ 0 x rfl q (R g 0) 1 1 (aF [w]) rfl rfl p (Bk w) (by omega) (by omega) r ?_;intro F L e f;have i:=U e;have j:=U f;clear e f));go_ret;exact⟨_,rfl,by simpa using ae i,j⟩);clear o;(have C:k<=9223372036854775807:=by unfold maxLen at u;omega);by_cases s:k=c;(.subst s;(go_in);(go_wp2_with(at_builtin;refine nu _ rfl (.tmp 23) (.tmp 24) 102 101 rfl b 164 v wO 4 48 underlying102 underlying101 t l m n rfl (by decide) _ k x rfl q (R g 0) 1 1 (aF [w]) rfl rfl p (Bk w) (by omega) (by omega) r ?_;intro F L e f;have i:=U e;have j:=U f;clear e f));go_ret;exact⟨_,rfl,i,j⟩);(go_in);(go_wp2_with(at_builtin;refine nu _ rfl (.tmp 23) (.tmp 24) 102 101 rfl b 164 v wO 4 48 underlying102 underlying101 t l m n rfl (by decide) _ c x rfl q (R g 0) 1 1 (aF [w]) rfl rfl p (Bk w) (by omega) (by omega) r ?_;intro F L e f;have i:=U e;have j:=U f;clear e f));go_ret;exact⟨_,rfl,i,j⟩
section
open Go.Shelf
attribute [local go_sem] Oper.semAt_some
def Vd(l:cA):y (jh l)<=y l:=(pz l).length_le
def UJ(h:(aF<|e.take b)[c]?=H d):(aF e)[c]?=H d:=by
 have a:aF e=aF (e.take b)++aF (e.drop b):=by rw[<-fO,bX]
 rw[a,gd (fo.1 h).1];exact h
def XZ:aa->M
 | .slice _ n _=>n
 |_=>0
def Ve(h:kw a d e)(hs:dQ e)(hl:y e<=1000000)(hv:∀k,bV d=H k->k<z (G a)):cy bG 136 #[d] a λcm w'=>∃v',cm=aO v'/\w'.ownsRow (z<|G a) 164 4 v' (y<|jh e) (aF<|jh e)/\Y aB a w':=by
 obtain⟨i0,bq,bT,ca,cb⟩:=cz nP;obtain⟨ck,t,au⟩:=bM h;have br:=Ap d ck (y e) t au;have HH:=U h;have HV:=U hv;clear h hv;subst au;refine(cX (n:=3)).1 ?_;refine callsIn_of_wp_marks func136 rfl trivial ?_ rfl;simp only[ntmps136,eR,ay,cL,Nat.reduceAdd,Nat.reduceSub,dS,dR,eS,er,cC,cq];gi_wp2_with(refine⟨trivial,?_⟩;gi_at_call 79;refine(cX.2<|br _).mono ?_;rintro cm w1⟨rfl,rfl⟩)
 obtain⟨l,r⟩:∃l,(ct (ct a<|ar #[aK] 102)<|ar #[J ck (y e) t] 102)=l:=⟨_,rfl⟩;have db:z (G l)=z (G a)+2:=by rw[<-r];simp
 have ao:Y aB a l:=by rw[<-r];exact((Y.refl aB a).alloc _).alloc _
 have bn:dV l (z<|G a) aK 102:=by rw[<-r];exact dV.alloc (aD _ rfl) _
 have bo:dV l (z (G a)+1) (J ck (y e) t) 102:=by rw[<-r];exact aD _<|by simp
 have E:kw l (J ck (y e) t) e:=HH.aw ao<|λk b=>⟨id,HV k b⟩;have hA0:rH l (λk=>k=z (G a)+1) (z<|G a) (jh<|ig []) (λk=>k=z (G a)) l:=⟨⟨_,bn,bK _ _ _ _,λk=>by simp[bV]⟩,Y.refl _ _⟩;rw[r];refine nw (m:=3) (arg:=FY<|J ck (y e) t) (V:=Az) (n0:=z<|G a) (gf:=127) (lb:=#[aA<|z (G a)+1]) (l:=nz 0<|ie e) (S:=λk=>k=z (G a)+1) ?geval (enters_of func127 (by kernel_rfl) rfl) (λ_=>rfl) (vT (z<|G a) 2 bo E HV (by omega)<|by omega) trivial (by omega) (λk b=>by omega) (λg bc ba=>rH l (λk=>k=z (G a)+1) (z<|G a) (jh<|ig g) bc ba) (λ_ _ _ _=>False) (λk=>k=z (G a)) hA0 (λk b t=>by omega) ?lt ?st (λ_ _ _ _ _ _ h=>h.elim) ?body ?done ?stop;case geval=>rfl
 case lt=>exactλg bc ba n=>n.lt (by omega)<|by omega
 (case st=>intro g bc ba o T n f c;refine n.stays f<|λk b=>⟨(c k b).1,?_⟩;rcases(c k b).2 with t|t|t;exact .inl t;exact t.elim;exact .inr t);(case stop=>intro cn t g bc ba _ h;exact h.elim)
 case body=>
  rintro lr g⟨ax,s⟩bc ba bv W ch A n _;obtain⟨hn,dc,b⟩:=IW hs A;have cv:0<y s:=gF.2 b.ne;have cE:ax+y s+y dc=y e:=by rw[b.all,hn];simp;omega
  obtain⟨bb,f,co,hx,cx⟩:=E.some (by omega);cases hx;have o:=AA E b.all b.ne;rw[<-hn]at o;unfold FY;unfold zd at o|-;simp only at o|-;have cd:∀k,bc k->k<z (G ba):=λk b=>(n.lt (n0:=z<|G a) (by omega) (by omega) k b).2;have cu:y s<=t-ax:=by omega
  generalize t-ax=cl at*;obtain⟨HA,HK,HN⟩:=dC n b hn;clear n A b hn;gi_wp2;refine⟨Y.refl _ _,λW2 x=>?_⟩;have hA2:=HA.stays x (λk b=>by subst b;exact⟨W,.inr bv⟩);have cs:bb<z (G a):=HV bb rfl;have ad:kw W2 (bD bb (f+ax*4) (y s) cl) s:=o.aw hA2.aw<|λk b=>(show bb=k by simpa[bV]using b)▸⟨λq=>by rcases q with q|q<;>omega,by omega⟩;obtain⟨bl,⟨X,bm⟩|⟨b',cj,cc,X,bm,ac⟩⟩:=id ad
  .omega
  cases X;obtain⟨lv,j,i,w⟩:=hA2.row;obtain⟨ex,ec,K⟩:=aC i;have bt:=j.cell;have cB:=j.free;have bs:=ak j;have cp:=x.size;obtain⟨C,bd,bh,Q,u⟩:=jP ac hA2 x j i;have av:z (G l)<=z (G W2):=hA2.aw.size;have ce:y (jh<|ig g)+y s<=1000000:=by have:=Vd<|ig g;have:=ae HN;omega
  clear ac hA2 x j i w ad o bl;generalize al:jh (ig g)=v at*;subst K;gi_wp2;gi_loop [4] (λa=>∃B:M,B<=y s/\a=bD bb (f+ax*4) B cl/\uO s=uO (s.take B)) (λa=>XZ a)
  case atStart=>exact⟨y s,ah _,rfl,by rw[bP]⟩
  case round=>
   obtain⟨B,hj,rfl,an⟩:=hrel;have T:=U an;clear an;have c:(B=0\/∃h:B-1<y s,s[B-1].del=bF)\/∃p,∃_:p<y s,B=p+1/\s[p].del=bW:=by
    cases B with
    |zero=>exact .inl<|.inl rfl
    |succ p=>
     cases P:s[p].del with
     |true=>exact .inr ⟨p,by omega,rfl,P⟩
     |false=>exact .inl<|.inr ⟨by simp;omega,by simpa using P⟩
   rcases c with c|⟨p,hp,rfl,P⟩
   .have bi:=U<|PX hj T c;have bp:(B=0\/∃p,B=p+1/\aT W2 (R bb<|f+ax*4+p*4+2)=H (aL bF)):=by
     rcases c with h|⟨h1,h2⟩
     .exact .inl h
     .cases B with
      |zero=>exact .inl rfl
      |succ p=>
       have O:=C _ _ (ez s p<|by omega).2.2.1;rw[<-aV]at O;simp only[sE]at h2;rw[h2]at O;exact .inr ⟨p,rfl,O⟩
    have bf:=U (show∀i u,(aF<|s.take B)[i]?=H u->aT W2 (((R bb<|f+ax*4):Addr).add i)=H u fromλi u a=>by rw[dt];exact C _ _<|UJ a);have D:=U (show y (s.take B)=B by simp;omega);clear c;have bu:=ae D;generalize s.take B=gj at*;rcases bp with rfl|⟨p,rfl,O⟩;case' inr=>
     have e2:(0:Z)<=(p:Z):=by omega
     have e3:(p:Z)<(p:Z)+1:=by omega
     have e4:(0:Z)<(p:Z)+1:=by omega
    all_goals
     clear bu;gi_wp2_with(first
      |(gi_at_builtin;refine dY _ rfl (.tmp 25) (.tmp 26) 102 rfl (z (G l)) 164 i0 wO 4 48 underlying102 bq bT ca cb rfl (by decide) (.slice ex (y v) ec) (y v) (aF v) rfl u (R bb (f+ax*4)) _ cl (aF gj) rfl (by rw[fN,ae D]) bf (TH gj) (by omega) (by omega) av ?_;intro v5 w5 L N;obtain⟨x5,c5,bx⟩:=aC L;subst bx;have F:dV w5 (z (G a)) (.slice ex (y v) ec) 102:=(N.grown.block _ bs (λcm=>by have:=(u.lt _ cm.symm).1;omega)).trans Q;have cM:=F.cell;have cT:=F.free;have bg:=U L;have bk:=U N;clear L N F))
     obtain⟨B2,r1,r2,r3⟩:=bd.more (xs:=gj) (by omega) Q (Y.refl _ _) bk (by rw[ae D];exact bg);refine⟨trivial,B2,?_,(bh.mono<|λk b=>.inl<|.inr b).trans r2<|λk b=>.inl<|.inl b,r2.block lr (by omega) W,λk b=>(r3 k b).imp_right<|λt=>by omega⟩;show rH l _ _ (jh<|ig<|g++[(ax,s)]) B2 _;rw[th,(ae HK).bare,ae bi,al];exact r1
   .have O:=C _ _ (ez s p hp).2.2.1;rw[P,<-aV]at O;have D:=U<|T.trans<|PY hp P;clear P;have e2:(0:Z)<=(p:Z):=by omega
    have e3:(p:Z)<(p:Z)+1:=by omega
    have e4:(0:Z)<(p:Z)+1:=by omega
    have F:(p:Z)<=(cl:Z):=by omega
    gi_wp2;exact⟨⟨p,by omega,rfl,D⟩,by simp[XZ]⟩
 (case done=>intro cn bc ba s n o _ p;obtain⟨lv,j,i,w⟩:=n.row;rw[Aw]at i;obtain⟨ex,ec,K⟩:=aC i;have bt:=j.cell;obtain⟨HA,u,f,HK⟩:=gx n i w p;have v:=ak p;clear n j i w p;subst K;gi_wp2;have c:=gD ba cn<|.deferred none;refine⟨by simp,.inl ⟨_,_,rfl,run_takeDeferred HK,?_⟩⟩;refine⟨_,gK rfl _ _ _,?_⟩;have hx:=c.own u<|λk b t=>o<|(f cn).2<|.inr (by rw[<-t];exact b);refine⟨_,rfl,eQ hx (by omega),ao.trans (HA.aw.trans c<|λk b=>.inr (by subst b;omega))<|λk b=>.inr (by rcases b with t|t<;>omega)⟩)
end
section
open Go.Shelf
def yM{P:Program}{b:Array Oper}{o:Oper}{e:Act}{K:Act->I->Prop}{Q:Exit->Act->I->Prop}{F:Prop}(k:o.guard=none)(p x:Operand)(g h:TypeId)(c:o.op=Op.call {callee:=Callee.builtin Builtin.copy,args:=#[p,x],argTypes:=#[g,h]})(v u:aa)(j:e.eval p=v)(n:e.eval x=u)(l:(Builtin.copy_ #[g,h] o.type #[v,u]).run P a=.ok d f)(i:K (e.put o.dst d) f):if Region.wanted o (yielded b e.tmps)=bW then Oper.wp P o e a K Q else F:=by
 have m:Region.wanted o (yielded b e.tmps)=bW:=by simp[Region.wanted,k]
 rw[dw m];unfold Oper.wp;simp[execOp,c,resolve,invoke,builtin,j,n,l,Result.andThen];exact i
def Qq(w:I):(Go.sizeOf 164).run bG w=.ok 4 w:=by kernel_rfl
def qd{w:I}{f:TypeId}(d:w.heap[c]?=H (ar V f (0,0)))(e:V.toList.take (b*4)=x)(j:M)(u:aa)(o:M)(a:(x.drop o)[j]?=H u):aT w (R c<|o+j)=H u:=by
 rw[bN d];rw[oH,<-e,mz]at a;split at a;simpa using a;cases a
def IZ(f k d n i:M)(l:Array aa)(m:iU)(O:f<=k)(Q:a.heap[k]?=H (ar l 164 (0,0)))(F:n+1<=d)(X:d<=9223372036854775807)(N:l.size=d*4)(p:l.toList.take (n*4)=m)(r:ii a b w)(u:b≠k)(hi:i<n)(hn:n<=1000000000)(h1:∀ad∈m,ad.oneCell'=bW):cy bG 181 #[bD k 0 n d,ap i,bD b 0 1 1] a λbg w'=>bg=aO (bD k 0 (n+1) d)/\w'.ownsRow f 164 4 (bD k 0 (n+1) d) (n+1) (m.take (i*4)++aF [w]++m.drop (i*4))/\Y (λan=>an=k) a w':=by
 have A:y m=n*4:=by rw[<-p,dL,iE];omega
 have ac:∀lb q,(callFunc 226 #[bD b 0 1 1,bD k ((i+1)*4) lb q]).run bG a=.ok (.value<|aL bF) a:=λlb q=>by rw[eT func226 (by kernel_rfl) (by kernel_rfl) (by kernel_rfl) (e:=Extern.SlicesOverlaps.overlaps #[101,101] #[4]) (by kernel_rfl),Lib.run_overlaps_apart a 101 4 164 underlying101 4 Qq (R b 0) (R k<|(i+1)*4) 1 1 lb q u _ _ 4 (d*4) (by unfold ii at r;simp[World.shape?,r];rfl) (by simp[World.shape?,Q,N];rfl) (by omega) (by unfold ii at r;simp[World.frozen?,r]) (by unfold ii at r;simp[World.frozen?,r])];rfl
 have v:(prog.info? 164).map (·.size)=H 4:=by kernel_rfl
 have x:y (m.drop<|i*4)=(n-i)*4:=by rw[ix,A];omega
 obtain⟨c,j⟩:∃c,c=(l.toList.take ((i+1)*4)++m.drop (i*4)++l.toList.drop ((i+1)*4+y (m.drop<|i*4))):=⟨_,rfl⟩;have T:y c=d*4:=by rw[j];simp only[af,dL,ix,iE]at x|-;omega
 have K:∀B s q,(Builtin.copy_ #[102,102] B #[bD k ((i+1)*4) (n-i) s,bD k (i*4) (n+1-i) q]).run bG a.drew=.ok (goInt<|Nat.min (n+1-i)<|n-i) (a.drew.setRow k c.toArray):=λB s q=>by rw[j];refine qU a.drew _ _ B 164 4 k ((i+1)*4) _ s (R k<|i*4) _ q l _ (m.drop<|i*4) underlying102 v Q ?_ (λbh ad V=>by rw[dt];exact qd Q p bh ad _ V) (by omega)<|λad hu=>h1 ad<|di hu;rw[x];simp only[wQ];split<;>omega
 have t:(a.drew.setRow k c.toArray).heap[k]?=H (ar c.toArray 164 (0,0)):=tE _ _ _ _ _ _ Q;obtain⟨e,g⟩:∃e,e=(c.take (i*4)++aF [w]++c.drop (i*4+y (aF [w]))):=⟨_,rfl⟩;have o:y (aF [w])=4:=rfl;have P:ii (a.drew.setRow k c.toArray) b w:=(rW a.drew k b _ u).trans r;have L:∀(W:I),W.heap=(a.drew.setRow k c.toArray).heap->∀B s,(Builtin.copy_ #[102,101] B #[bD k (i*4) (n+1-i) s,bD b 0 1 1]).run bG W=.ok (goInt<|Nat.min 1<|n+1-i) (W.setRow k e.toArray):=λW C B s=>by rw[g];refine qU W _ _ B 164 4 k (i*4) _ s (R b 0) _ 1 c.toArray _ (aF [w]) underlying102 v (by rw[C];exact t) ?_ (λbh ad V=>?_) (by simp;omega)<|Bk w;rw[o];simp only[wQ];split<;>omega;rw[dt,bN (show ii W b w by unfold ii;rw[C];exact P),cQ];simpa[aF,E.cells]using V
 have bf:¬((i:Z)=(n:Z)):=by omega
 have bc:IntKind.i64.wrap ((i:Z)+1)=(i:Z)+1:=by rw[bQ];omega
 have bd:IntKind.i64.wrap ((n:Z)+1)=(n:Z)+1:=by rw[bQ];omega
 have bb:((i:Z)+1).toNat=i+1:=by omega
 have al:((n:Z)+1).toNat=n+1:=by omega
 have av:(0:Z)<=(i:Z)+1:=by omega
 have ba:i<=n:=by omega
 have ax:(i:Z)<=(n:Z)+1:=by omega
 have ao:¬(d=i):=by omega
 have au:¬(d=i+1):=by omega
 have S:prog.follows .mixedOrders=bW:=by kernel_rfl
 have D:=U (show∀W:I,W.heap=(a.drew.setRow k c.toArray).heap->W.os=a.os->W.tape=a.tape->W.output=a.output->(W.setRow k e.toArray).ownsRow f 164 4 (bD k 0 (n+1) d) (n+1) (m.take (i*4)++aF [w]++m.drop (i*4))/\Y (λan=>an=k) a (W.setRow k e.toArray)from by
  intro W C e1 e2 e3;refine⟨⟨by simp[o];omega,.inr ⟨k,d,e.toArray,rfl,O,tE _ _ _ _ _ _ (by rw[C];exact t),F,X,?_,?_⟩⟩,⟨e1,e2,e3,?_,?_⟩⟩
  .rw[g];simp[o];omega
  .rw[List.toList_toArray,g,j];exact Uj p A (by omega) rfl (by simp;omega)
  .rw[setRow_size,C,setRow_size];exact ah _
  .intro an hk q;rw[rW _ _ _ _ q,C,rW _ _ _ _ q];rfl)
 clear T x j g o P t A h1 p N v r u O;go_in
 go_wp2_with(simp only[ac])
 go_region_law_o (refine yM rfl _ _ 102 102 rfl _ _ (by simp[Act.eval,Act.put]) (by simp[Act.eval,Act.put]) (K _ _ _) ?_)
 go_wp2_with(at_builtin;refine wpList_copy_run _ rfl _ _ 102 101 rfl _ _ rfl rfl (L _ rfl _ _) ?_)
 go_ret;exact⟨rfl,D _ rfl rfl rfl rfl⟩
end
