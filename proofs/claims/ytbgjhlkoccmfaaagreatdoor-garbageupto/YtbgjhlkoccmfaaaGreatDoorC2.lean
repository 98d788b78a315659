import Derived.Deep.LoopGhost
import Derived.LoopIn
import Derived.LoopNIn
import Derived.RangeFuncBound
import Derived.RangeFuncLeaves
import Derived.RangeFuncNested
import Derived.Shelf.AbstractIn
import Derived.Shelf.RegionOpen
import Derived.Sort.LoopGhostIn
import Derived.TacticsInMore
import Derived.Test.YtbgjhlkoccmfaaaGreatDoorC1
open _root_ renaming List.length→y,Option.some→M,Array.size→G,Go.World.heap→H,Go.Value.ownBlock→cN,Go.World.cell?→bA,Go.World.setCell→cP,Go.World.alloc→dw,Bool.false→bD,Bool.true→cz,Nat→R,Int→Y,List→cy,Go.Calls→cR,Go.Proofs.Tryz.prog→bN,Go.Value.slice→am,Go.Value.string→aw,Go.Value.bool→aO,Go.Value.pointer→ee,Go.Value.tuple→de,Go.Value.agg→ef,Go.World.frozen?→iI,Go.World.ownsRow→fE,Go.Value.nilIface→ic,Nat.reduceAdd→ke,Go.RowKit.Below→gD,Bool→eN,Option.none→dE,rfl→z,Or.inl→J,Or.inr→bu
namespace Go.Proofs.YtbgjhlkoccmfaaaGreatDoor
open ChangeShapes WideShapes RowKit Proofs.Tryz List
set_option maxHeartbeats 16000000
set_option linter.all false
set_option maxRecDepth 100000
variable{a e P:Z}{b c k n T:R}{d w:ae}{i:dB}{W:fC}{s:jv}{B:af}{O:iG}{Q:iF}{S:E}
def vz{σ:Type}(a:σ->E->eN)(IP:σ->E->σ):σ->dB->dB
 |_,[]=>[]
 |s,x::r=>if a s x then x::vz a IP (IP s x) r else vz a IP (IP s x) r
structure Dl(σ:Type)(V:jv)(n0:R)where
 f:R
 cb:Array ae
 L:σ->E->eN
 IP:σ->E->σ
 A:σ->Z->Prop
 S:R->Prop
 o:Enters bN f
 uh:∀s x w,A s w->cR bN f (#[x.t]++cb) w λe w'=>e=aN (aO<|L s x)/\A (IP s x) w'/\I S w w'
 l:∀s w w',A s w->(∀k,S k->w'.heap[k]?=w.heap[k]?)->A s w'
 lt:∀s w,A s w->∀k,S k->n0<=k/\k<G (H w)
structure nu{σ:Type}{V:jv}{n0:R}(K:Dl σ V n0)(w:Z)(xn xk f:R)(cb:Array ae)(s:σ)(l:dB)(S:fC):Prop where
 bn:fF w xn (.func (.func f) #[] cb) 288
 bk:fF w xk (.func (.func K.f) #[] K.cb) 412
 o:Enters bN f
 L:Dq V n0 f cb l S w
 A:K.A s w
 aZ:n0<=xn/\n0<=xk
 nS:∀k,S k->k≠xn/\k≠xk/\¬K.S k
 nK:∀k,K.S k->k≠xn/\k≠xk
def Bn{σ:Type}(K:Dl σ s b)(c a:R)(S:fC)(k:R):Prop:=k=c\/k=a\/S k\/K.S k
def nu.bM{σ:Type}{V:jv}{n0:R}{K:Dl σ V n0}{g:Array ae}{s:σ}{S:fC}(h:nu K a b c k g s i S)(d:la V n0 (Bn K b c S) a e):nu K e b c k g s i S:=⟨h.bn.bM d<|J z,h.bk.bM d<|bu<|J z,h.o,h.L.bM<|d.aT<|λ_ f=>bu<|bu<|J f,K.l s a e h.A<|λj f=>d.2 j<|bu<|bu<|bu<|bu f,h.aZ,h.nS,h.nK⟩
def nu.p{σ:Type}{K:Dl σ s b}{e:Array ae}{g:σ}(h:nu K a c k n e g i W):wV s b (Bn K c k W) a:=⟨h.L.aZ.D,h.L.aZ.f,by
 rintro f(rfl|rfl|d|d)
 .exact⟨h.aZ.1,az h.bn⟩
 .exact⟨h.aZ.2,az h.bk⟩
 .exact h.L.aZ.bZ f d
 .exact K.lt g a h.A f d⟩
def nu.U2{σ:Type}{K:Dl σ s b}{l:Array ae}{p:σ}{q:dB}{j:fC}(h:nu K a c k n l p i W)(o:I (λd=>W d\/s.F d) a e)(r:∀d,j d->W d\/G (H a)<=d)(t:Dq s b n l q j e):nu K e c k n l p q j:=by
 have hF:∀d,b<=d->¬s.F d:=λd g a=>bP<|h.p.f d a;refine⟨(o.A c (az h.bn) ?_).trans h.bn,(o.A k (az h.bk) ?_).trans h.bk,h.o,t,K.l p a e h.A<|λd g=>o.A d (K.lt p a h.A d g).2 ?_,h.aZ,λd g=>?_,h.nK⟩;rintro(f|f);exact(h.nS c f).1 z;exact hF c h.aZ.1 f;rintro(f|f);exact(h.nS k f).2.1 z;exact hF k h.aZ.2 f;rintro(f|f);exact(h.nS d f).2.2 g;exact hF d (K.lt p a h.A d g).1 f;obtain f|f:=r d g;exact h.nS d f;refine⟨?_,?_,?_⟩;rintro rfl;have:=az h.bn;omega;rintro rfl;have:=az h.bk;omega;intro m;have:=(K.lt p a h.A d m).2;omega
def nu.qT{σ:Type}{K:Dl σ s b}{g d f:R}{l:Array ae}{q m:σ}(h:nu K a g d f l q i W)(j:I K.S a e)(o:K.A m e):nu K e g d f l m i W:=by
 have:∀k,b<=k->¬s.F k:=λk c a=>bP<|h.p.f k a;refine⟨(j.A g (az h.bn)<|λn=>(h.nK g n).1 z).trans h.bn,(j.A d (az h.bk)<|λn=>(h.nK d n).2 z).trans h.bk,h.o,h.L.bM ?_,o,h.aZ,h.nS,h.nK⟩;refine j.bM h.L.aZ.D (λk c=>⟨(h.L.aZ.bZ k c).2,(h.nS k c).2.2⟩)<|λk c p=>?_;have:=(K.lt q a h.A k c).1;omega
def nu.nj{σ:Type}{K:Dl σ s b}{d:Array ae}{e:σ}(h:nu K a c k n d e i W)(o:Obj):nu K (dw a o) c k n d e i W:=h.qT ((I.bI _ _).aE o)<|K.l e a _ h.A<|λg f=>gy o (K.lt e a h.A g f).2
def nu.fq{σ:Type}{K:Dl σ s b}{f:Array ae}{m:σ}{T:fC}(h:nu K a c k n f m i W)(l:I T a e)(j:∀d,T d->¬Bn K c k W d/\b<=d):nu K e c k n f m i W:=h.bM<|l.bM h.L.aZ.D (λd g=>⟨(h.p.bZ d g).2,λo=>(j d o).1 g⟩) aI
def yp(w:Z)(b:R)(a:E):Z:=cP (cP (cP (cP w (X b 0)<|aw a.D) (X b 1)<|aw a.l) (X b 2)<|aO a.dP) (X b 3)<|bw a.f
def kr(w:Z)(b:R)(a:E):I (λk=>k=b) w (yp w b a):=(((iQ b w).aL b 1 _<|J z).aL b 2 _<|J z).aL b 3 _<|J z
def T3{σ:Type}(K:Dl σ s b)(e d h:R)(f:Array ae)(l:dB)(S:fC)(w:Z):Prop:=∃g c a,l=vz K.L K.IP g c/\S=Bn K e d a/\nu K w e d h f g c a
def jQ.nZ{c q:R}(h:jQ a c S):∀k,k=c->k=q->∃d t r,a.heap[k]?=M (aK d t r)/\t≠157:=λk b _=>b▸⟨_,_,_,h,cg⟩
def Se{σ:Type}(K:Dl σ s b)(cb:Array ae)(bx:σ){bt:dB}(hA:nu K a c k n cb bx bt W)(hD:s.D a):cR bN 292 #[aJ c,aJ k] a (Out s (T3 K c k n cb) (vz K.L K.IP bx bt) (Bn K c k W) a):=by
 have:∀t a,(callFunc n t).run bN a=.ok (.enter n t) a:=hA.o;have:∀t a,(callFunc K.f t).run bN a=.ok (.enter K.f t) a:=K.o;go_in
 go_wp2;go_loopg [5] (y bt+1) (λd _ wr=>∃C l' S',y l'<d/\nu K wr c k n cb C l' S'/\s.D wr/\I (λr=>Bn K c k W r\/s.F r) a wr/\vz K.L K.IP bx bt=vz K.L K.IP C l'/\(∀r,S' r->W r\/G (H a)+1<=r)/\y l'<=y bt/\jQ wr (G<|H a) ⟨⟨#[]⟩,⟨#[]⟩,bD,0⟩/\¬S' (G<|H a)/\¬K.S (G<|H a))
 have h:=hA;refine⟨bx,bt,W,U,h.nj _,s.l hD (cI aC a) cY,(cI _ _),z,λr u=>J u,aq _,aQ _ z,λp=>?_,λp=>?_⟩;have:=(h.L.aZ.bZ _ p).2;omega;have:=(K.lt _ _ h.A _ p).2;omega
 .let⟨C,l',S',aV,D,ap,aD,ax,V,ba,T,bb,bc⟩:=hrel;have:=D.bn.u;have hc:=D.L.uh ap;have Q:=ak (show∀A,I (λr=>S' r\/s.F r) wr A->I (λr=>Bn K c k W r\/s.F r) a A fromλA h=>aD.aj h (by
   rintro r(u|u)
   .obtain p|p:=V r u
    .exact J<|J<|bu<|bu<|J p
    grind
   grind))
  have:=az T;let⟨HN,P,L,ad,aa⟩:=oa bb bc D ax T;let⟨an,ac⟩:=And.intro (ak V) (ak<|And.intro aV ba);clear D ap aD ax T V bb bc aV ba;go_wp21;go_call hc as cj A⟨⟨ev,rfl,br⟩|⟨⟨f,g,e,d⟩,bv,S1,rfl,rfl,B,bl⟩,S,v⟩
  .have j:jQ A (G<|H a) ⟨⟨#[]⟩,⟨#[]⟩,bD,0⟩:=aa.aA v<|λp=>p.elim HN<|λp=>gW (L.p.f _ p) hA.p.D;let⟨bn,bo,bp,bq⟩:=j.bU;have F:=j.bS (i:=0);have N:=j.bS (i:=1);have O:=j.bS (i:=2);have ab:=j.bS (i:=3);have al:=az j;let⟨m,w,x⟩:=eU j S v;clear j S v;unfold bE yu;have o:Hid (I (λr=>r=G (H a)) A<|(yp A (G<|H a) ⟨⟨#[]⟩,⟨#[]⟩,bD,0⟩).alloc<|aK #[aw ⟨#[]⟩,aw ⟨#[]⟩,aO bD,bw 0] 223):=ak<|(kr _ _ _).aE _;have l:=ak hA.p;obtain⟨rfl,rfl⟩|⟨hX,q,rfl,hq⟩:=br
   .go_wp2;apply ci (gZ z _ _ (G<|H a) ⟨⟨#[]⟩,⟨#[]⟩,bD,0⟩ _ _ z<|(m.gL ⟨⟨#[]⟩,⟨#[]⟩,bD,0⟩).aE _) z;exact⟨J ⟨_,z,J ⟨ad.trans z,z⟩⟩,s.l w o<|λr u hf=>gW (l.f r hf) l.D,(Q _ x).aj o ar⟩
   .have HQ:=ak hq;clear hq;go_wp2;apply ci (gZ z _ _ (G<|H a) ⟨⟨#[]⟩,⟨#[]⟩,bD,0⟩ _ _ z<|(m.gL ⟨⟨#[]⟩,⟨#[]⟩,bD,0⟩).aE _) z;exact⟨J ⟨_,z,bu ⟨hX,q,z,HQ.aA o m.nZ⟩⟩,s.l w o<|λr u hf=>gW (l.f r hf) l.D,(Q _ x).aj o ar⟩
  .have:=ac.1;have:y bv<y bt:=zZ ac.2;have hA1:=L.U2 v B bl;have w:=hA1.nj<|aK #[aw f,aw g,aO e,bw d] 223;have j:jQ A (G<|H a) ⟨⟨#[]⟩,⟨#[]⟩,bD,0⟩:=aa.aA v<|λp=>p.elim HN<|λp=>gW (L.p.f _ p) hA.p.D;have:=w.bk.u;have bd:jQ (dw A<|aK #[aw f,aw g,aO e,bw d] 223) (G<|H A) ⟨f,g,e,d⟩:=aQ _ z;let⟨bn,bo,bp,bq⟩:=bd.bU;have m:=(K.uh C ⟨f,g,e,d⟩) _ w.A;have bg:=ak<|show¬K.S (G<|H A)fromλp=>bP<|(K.lt _ _ hA1.A _ p).2;have:=v.D;have bi:vz K.L K.IP C (⟨f,g,e,d⟩::bv)=if K.L C ⟨f,g,e,d⟩then⟨f,g,e,d⟩::vz K.L K.IP (K.IP C ⟨f,g,e,d⟩) bv else vz K.L K.IP (K.IP C ⟨f,g,e,d⟩) bv:=rfl;have al:=ak<|ad.trans bi;unfold E.t at m|-;simp only at m|-;go_wp21;go_call m as cj w2⟨rfl,bh,F⟩;have bm:jQ w2 (G<|H A) ⟨f,g,e,d⟩:=bd.aA F bg;have x:jQ w2 (G<|H a) ⟨⟨#[]⟩,⟨#[]⟩,bD,0⟩:=(j.aE _).aA F P;let⟨vT,bL,bT,ca⟩:=bm.bU;let⟨cc,cd,ce,ch⟩:=x.bU;have:=x.bS (i:=0);have:=x.bS (i:=1);have:=x.bS (i:=2);have:=x.bS (i:=3);let⟨ab,N,ao⟩:=eU x (w.qT F bh) F;have l:=ak hA.p;have bk:=ak N.p;have av:=ak<|s.l (s.l S (cI aC A) cY) ao<|λr u hf=>gW (bk.f r hf)<|(K.lt _ _ w.A r u).1;have aU:=ak<|((Q _ v).aE _).aj ao<|λr u=>J<|J<|bu<|bu<|bu u;cases hte:K.L C ⟨f,g,e,d⟩with
   |true=>
    have O:=ak (al.trans<|by rw[fW hte]);go_wp2;refine ci (gZ z _ _ (G<|H a) ⟨f,g,e,d⟩ _ _ z<|ab.gL ⟨f,g,e,d⟩) z ?_;have o:I (λr=>r=G (H a)) w2 (yp w2 (G<|H a) ⟨f,g,e,d⟩):=kr _ _ _;have bs:¬Bn K c k S1 (G<|H a):=by
     rintro(p|p|p|p)
     .have:=(l.bZ c<|J z).2;omega
     .have:=(l.bZ k<|bu<|J z).2;omega
     .obtain bf|bf:=B _ p
      .exact HN bf
      .omega
     .exact P p
    refine⟨bu ⟨⟨f,g,e,d⟩,_,_,O,z,λr u=>?_,K.IP C ⟨f,g,e,d⟩,bv,S1,z,z,N.fq o<|λr u=>u▸⟨bs,l.D⟩⟩,s.l av o<|λr u hf=>gW (l.f r hf) l.D,aU.aj o ar⟩;obtain p|p|p|p:=u
    .exact J<|J p
    .exact J<|bu<|J p
    .obtain p|p:=B r p
     .obtain bf|bf:=an r p
      .exact J<|bu<|bu<|J bf
      grind
     grind
    .exact J<|bu<|bu<|bu p
   |false=>
    have O:=ak (al.trans<|by rw[fN (by rw[hte];simp)]);go_wp2;go_roundg(y bv+1);case measure=>grind
    .refine⟨K.IP C ⟨f,g,e,d⟩,bv,S1,U,N,av,aU,O,λr u=>?_,U,ab,λp=>?_,P⟩
     .obtain p|p:=B r u
      .exact an r p
      grind
     .obtain bf|bf:=B _ p
      .exact HN bf
      .omega
def VB{σ:Type}(K:Dl σ s b)(c a k:R)(f:Array ae)(d:σ)(l:dB)(S:fC)(w:Z)(i:nu K w c a k f d l S):Dq s b 292 #[aJ c,aJ a] (vz K.L K.IP d l) (Bn K c a S) w:=by
 refine Dq.of (T3 K c a k f) ?_ ?_ ?_ ⟨d,l,S,z,z,i⟩;rintro l S w⟨d,g,e,rfl,rfl,h⟩;exact h.p;rintro l S w m⟨d,g,e,rfl,rfl,h⟩j;exact⟨d,g,e,z,z,h.bM j⟩;rintro l S w⟨d,g,e,rfl,rfl,h⟩j;exact Se K f d h j
def Oy{σ:Type}(K:Dl σ s b)(l:σ)(B:kA s b d i W a)(f:K.A l a)(x:∀k,W k->¬K.S k):cR bN 269 #[d,.func (.func K.f) #[] K.cb] a λC q=>∃p m,C=aN p/\kA s b p (vz K.L K.IP l i) m q/\gD (G<|H a) a q/\(∀k,m k->W k\/K.S k\/G (H a)<=k):=by
 obtain⟨w,j,rfl,A,e⟩:=B;let⟨r,u,t,v⟩:=js A e f x;go_in
 go_wp2;go_ret;have e:=ag u;have f:=ag t;have n:gD (G<|H a) a (dw (dw a<|aK #[.func (.func w) #[] j] 288)<|aK #[.func (.func K.f) #[] K.cb] 412):=((Below.refl _ a).alloc (aq _) _).alloc ar _;have o:I aC a (dw (dw a<|aK #[.func (.func w) #[] j] 288)<|aK #[.func (.func K.f) #[] K.cb] 412):=I.p n;refine⟨_,Bn K (G<|H a) (G (H a)+1) W,z,⟨292,_,z,enters_of func292 aH z,?_⟩,n,?_⟩;refine VB K (G<|H a) (G (H a)+1) w j l i W _ ⟨?_,aQ _ ar,r,e.bM<|o.bM e.aZ.D (λk c=>⟨(e.aZ.bZ k c).2,λg=>g⟩)<|λk c=>c.elim,K.l l a _ f<|λk c=>?_,⟨e.aZ.D,bP e.aZ.D⟩,λk c=>?_,λk c=>?_⟩;(grind[fF.aE,aQ]);exact o.A k (K.lt l a f k c).2<|λg=>g;have:=(e.aZ.bZ k c).2;exact⟨U,U,v k c⟩;have:=(K.lt l a f k c).2;grind
 rintro k(g|g|g|g);(grind);(grind);exact J g;grind
def Yq(V:jv)(b:R):Dl Unit V b where
 f:=270
 cb:=#[]
 L:=λ_ e=>!e.dP
 IP:=λ_ _=>()
 A:=λ_ _=>True
 S:=λ_=>False
 o:=enters_of func270 aH z
 uh:=by
  rintro _⟨d,e,xd,c⟩w _;unfold E.t;simp only;have a:∀(x:eN)(w:Z),(Op.unary .not<|aO x).run bN w=.ok (aO<|!x) w:=λ_ _=>rfl;show cR bN 270 #[ef #[aw d,aw e,aO xd,bw c]] w _;go_in
  go_wp2;go_ret;exact⟨z,trivial,(cI _ w)⟩
 l:=λ_ _ _ _ _=>trivial
 lt:=λ_ _ _ _ a=>a.elim
def Ln(l:dB)(s:Unit):vz (λ(_:Unit)e=>!e.dP) (λ_ _=>()) s l=l.filter (λe=>!e.dP):=by
 induction l generalizing s with
 |nil=>rfl
 |cons x r a=>
  unfold vz;grind
def On(p:kA s b d i W a):cR bN 230 #[d] a λg f=>∃e c,g=aN e/\kA s b e (i.filter<|λg=>!g.dP) c f/\gD (G<|H a) a f/\(∀k,c k->W k\/G (H a)<=k):=by
 have w:=Oy (Yq s b) () p trivial<|λ_ _ j=>j;have x:=Ln i ();have n:cR bN 269 #[d,.func (.func 270) #[] #[]] a λg f=>∃e c,g=aN e/\kA s b e (i.filter<|λg=>!g.dP) c f/\gD (G<|H a) a f/\(∀k,c k->W k\/G (H a)<=k):=by go_call w as g f⟨e,c,t,C,u,v⟩;refine⟨e,c,t,?_,u,λk A=>?_⟩;rwa[<-x];obtain j|j|j:=v k A;exact J j;exact j.elim;exact bu j
 obtain⟨E,B,rfl,_⟩:=p;go_in
 go_wp2_with(go_at_call 269;refine n.mono ?_;rintro g D⟨e,c,rfl,o,m,l⟩;have q:=ak o;have HB:=ak m;have r:=ak l)
 go_ret;exact⟨e,c,z,q,HB,r⟩
def atK(V:jv)(m d b:R)(n:Y):Dl af V m where
 f:=271
 cb:=#[aJ d,aJ b]
 L:=λs p=>decide (p.f<=n)&&!decide (p.D=s)
 IP:=λs p=>if p.f<=n then p.D else s
 A:=λs w=>fF w d (bw n) 104/\fF w b (aw s) 9/\m<=b/\m<=d/\d≠b
 S:=λk=>k=d\/k=b
 o:=enters_of func271 aH z
 uh:=by
  rintro s⟨r,x,xd,g⟩w⟨c,e,K,v,j⟩;unfold E.t;simp only;have C:=e.u;have F:=e.bS;have D:=c.u;have u:=az e;have q:=az c;have HB:=ak e;have a:=ak c;show cR bN 271 #[ef #[aw r,aw x,aO xd,bw g],aJ d,aJ b] w _;by_cases k:g<=n
  .have t:¬n<g:=U;by_cases i:r=s
   .subst i;simp only[k,zl,tr,Bool.and_false,mT];go_in
    go_wp2;go_ret;exact⟨z,⟨a.aE _,HB.aE _⟩,(cI _ w)⟩
   .have B:=DB i;simp only[k,i,zl,Ci,zo,Bool.and_true,mT];go_in
    go_wp2;go_ret;refine⟨z,⟨(a.dN _ j).aE _,(HB.gu _).aE _⟩,?_⟩;exact((I.bI _ w).aL b 0 _<|J<|bu z).aE _
  .have t:n<g:=U;simp only[k,Ci,zp,mA];go_in
   go_wp2;go_ret;exact⟨z,⟨a.aE _,HB.aE _⟩,(cI _ w)⟩
 l:=aI
 lt:=aI
def N9(b:Y)(l:dB)(s:af):vz (λs(e:E)=>decide (e.f<=b)&&!decide (e.D=s)) (λs e=>if e.f<=b then e.D else s) s l=sj s (l.filter<|λe=>decide<|e.f<=b):=by
 induction l generalizing s with
 |nil=>rfl
 |cons x r c=>
  unfold vz;by_cases a:x.f<=b
  .rw[xy<|by simp[a]];unfold sj;by_cases h:x.D=s
   .grind
   grind
  grind
structure Bm(V:jv)(n0:R)(ls:iG)where
 f:R
 cb:Array ae
 A:Z->Prop
 S:R->Prop
 o:Enters bN f
 uh:∀i(hi:i<y ls)w,A w->V.D w->cR bN f (#[ay i]++cb) w λe w'=>(∃v' S',e=aN (de #[v',ic])/\kA V n0 v' ls[i] S' w'/\V.D w'/\I V.F w w'/\(∀k,S' k->G (H w)<=k))\/∃u,Et V w w' V.F e<|λv=>de #[u,v]
 l:∀w w',A w->la V n0 S w w'->A w'
 lt:∀w,A w->∀k,S k->n0<=k/\k<G (H w)
structure jT{V:jv}{n0:R}{ls:iG}(O:Bm V n0 ls)(w:Z)(b c d m:R)(n:ae)(r:dB)(a:R)(S:fC):Prop where
 br:fF w b n 288
 ba:fF w c (ay a) 3
 bn:fF w d (ay<|y ls) 3
 bo:fF w m (.func (.func O.f) #[] O.cb) 457
 bV:(n=.nilFunc/\r=[]/\∀k,¬S k)\/kA V n0 n r S w
 A:O.A w
 le:a<=y ls
 D:n0<=G (H w)
 f:∀k,V.F k->k<n0
 aZ:n0<=b/\n0<=c/\n0<=d/\n0<=m
 ra:b≠c
 rn:b≠d
 ro:b≠m
 an:c≠d
 ao:c≠m
 nS:∀k,S k->k≠b/\k≠c/\k≠d/\k≠m/\¬O.S k
 nO:∀k,O.S k->k≠b/\k≠c/\k≠d/\k≠m
def pS{V:jv}{n0:R}{g8:iG}(O:Bm V n0 g8)(b c d m:R)(S:fC)(k:R):Prop:=k=b\/k=c\/k=d\/k=m\/S k\/O.S k
def C7{V:jv}{n0:R}{g8:iG}(O:Bm V n0 g8)(b c d m:R)(l:dB)(S:fC)(w:Z):Prop:=∃n r a e,l=r++(g8.drop a).flatten/\S=pS O b c d m e/\jT O w b c d m n r a e
def EN(r:dB)(g8:iG)(a:R):dB:=r++(g8.drop a).flatten
section
variable{V:jv}{n0:R}{g8:iG}{O:Bm V n0 g8}{w w':Z}{b c d m:R}{n:ae}{r:dB}{a:R}{S:fC}
def jT.p(h:jT O w b c d m n r a S):wV V n0 (pS O b c d m S) w:=⟨h.D,h.f,by
 rintro k(rfl|rfl|rfl|rfl|e|e)
 .exact⟨h.aZ.1,az h.br⟩
 .exact⟨h.aZ.2.1,az h.ba⟩
 .exact⟨h.aZ.2.2.1,az h.bn⟩
 .exact⟨h.aZ.2.2.2,az h.bo⟩
 .obtain⟨_,_,f⟩|f:=h.bV
  .grind
  .exact f.aZ.bZ k e
 .exact O.lt w h.A k e⟩
def jT.bM(h:jT O w b c d m n r a S)(e:la V n0 (pS O b c d m S) w w'):jT O w' b c d m n r a S:=⟨h.br.bM e<|J z,h.ba.bM e<|bu<|J z,h.bn.bM e<|bu<|bu<|J z,h.bo.bM e<|bu<|bu<|bu<|J z,h.bV.imp id<|λg=>g.bM<|e.aT<|λ_ f=>bu aI,O.l w w' h.A<|e.aT<|λ_ f=>bu aI,h.le,aR h.D e.1,h.f,h.aZ,h.ra,h.rn,h.ro,h.an,h.ao,h.nS,h.nO⟩
def jT.fq{T:fC}(h:jT O w b c d m n r a S)(g:I T w w')(f:∀k,T k->¬pS O b c d m S k/\(k<n0->V.F k)):jT O w' b c d m n r a S:=h.bM<|g.bM h.D (λk e=>⟨(h.p.bZ k e).2,λi=>(f k i).1 e⟩) aI
def jT.nj(h:jT O w b c d m n r a S)(o:Obj):jT O (dw w o) b c d m n r a S:=h.fq ((I.bI aC w).aE o) cY
def jT.U2{p:dB}{i:fC}(h:jT O w b c d m n r a S)(g:I (λk=>S k\/V.F k) w w')(q:∀k,i k->S k\/G (H w)<=k)(t:kA V n0 n p i w'):jT O w' b c d m n p a i:=by
 have l:=h.p;have hF:∀k,n0<=k->¬V.F k:=λk e f=>bP<|l.f k f;have o:∀k,k=b\/k=c\/k=d\/k=m->¬(S k\/V.F k):=by rintro k e(f|f);(have:=h.nS k f;grind);obtain rfl|rfl|rfl|rfl:=e;exact hF _ h.aZ.1 f;exact hF _ h.aZ.2.1 f;exact hF _ h.aZ.2.2.1 f;exact hF _ h.aZ.2.2.2 f
 refine⟨(g.A b (az h.br)<|o _<|J z).trans h.br,(g.A c (az h.ba)<|o _<|bu<|J z).trans h.ba,(g.A d (az h.bn) aI).trans h.bn,(g.A m (az h.bo) aI).trans h.bo,bu t,O.l w w' h.A<|g.bM h.D (λk e=>⟨(O.lt w h.A k e).2,?_⟩)<|λk e s=>?_,h.le,aR h.D g.D,h.f,h.aZ,h.ra,h.rn,h.ro,h.an,h.ao,λk e=>?_,h.nO⟩;rintro(f|f);exact(h.nS k f).2.2.2.2 e;exact hF k (O.lt w h.A k e).1 f;obtain f|f:=e;have:=(l.bZ k<|bu aI).1;omega;exact f;obtain f|f:=q k e;exact h.nS k f;refine⟨?_,?_,?_,?_,?_⟩;rintro rfl;have:=az h.br;omega;rintro rfl;have:=az h.ba;omega;rintro rfl;have:=az h.bn;omega;rintro rfl;have:=az h.bo;omega;intro j;have:=(O.lt w h.A k j).2;omega
def jT.t(h:jT O w b c d m n r a S)(g:I (λk=>S k\/V.F k) w w'):jT O (cP w' (X b 0) .nilFunc) b c d m .nilFunc [] a aC:=by
 have s:=h.p;have hF:∀k,n0<=k->¬V.F k:=λk e f=>bP<|s.f k f;have t:∀k,k=b\/k=c\/k=d\/k=m->¬(S k\/V.F k):=by rintro k e(f|f);(have:=h.nS k f;grind);obtain rfl|rfl|rfl|rfl:=e;exact hF _ h.aZ.1 f;exact hF _ h.aZ.2.1 f;exact hF _ h.aZ.2.2.1 f;exact hF _ h.aZ.2.2.2 f
 have o:fF w' b n 288:=(g.A b (az h.br)<|t _<|J z).trans h.br;have i:fF w' c (ay a) 3:=(g.A c (az h.ba)<|t _<|bu<|J z).trans h.ba;have j:fF w' d (ay<|y g8) 3:=(g.A d (az h.bn) aI).trans h.bn;have l:fF w' m (.func (.func O.f) #[] O.cb) 457:=(g.A m (az h.bo) aI).trans h.bo;have p:I (λk=>(S k\/V.F k)\/k=b) w (cP w' (X b 0) .nilFunc):=(g.aT (T:=λk=>(S k\/V.F k)\/k=b) aI).aL b 0 _<|J<|bu z;refine⟨o.gu _,i.dN _<|λq=>h.ra q.symm,j.dN _<|λq=>h.rn q.symm,l.dN _<|λq=>h.ro q.symm,ar,O.l w _ h.A<|p.bM h.D (λk e=>⟨(O.lt w h.A k e).2,?_⟩)<|λk e u=>?_,h.le,by rw[gK];exact aR h.D g.D,h.f,h.aZ,h.ra,h.rn,h.ro,h.an,h.ao,cY,h.nO⟩;rintro((f|f)|f);exact(h.nS k f).2.2.2.2 e;exact hF k (O.lt w h.A k e).1 f;exact(h.nO k e).1 f;obtain(f|f)|f:=e;have:=(s.bZ k<|bu aI).1;omega;exact f;have:=h.aZ.1;subst f;omega
def jT.Yz{q:ae}{o:fC}(x:a<y g8)(h:jT O w b c d m .nilFunc [] a S)(g:I V.F w w')(B:kA V n0 q g8[a] o w')(C:∀k,o k->G (H w)<=k):jT O (cP (cP w' (X b 0) q) (X c 0)<|ay<|(a:Y)+1) b c d m q g8[a] (a+1) o:=by
 have hF:∀k,n0<=k->¬V.F k:=λk e f=>bP<|h.f k f;have D:∀k,o k->k≠b/\k≠c/\k≠d/\k≠m/\¬O.S k:=λk e=>by have:=C k e;have:=az h.br;have:=az h.ba;have:=az h.bn;have:=az h.bo;exact⟨U,U,U,U,λA=>bP<|(O.lt w h.A k A).2⟩
 have v:fF w' b .nilFunc 288:=(g.A b (az h.br)<|hF _ h.aZ.1).trans h.br;have s:fF w' c (ay a) 3:=(g.A c (az h.ba)<|hF _ h.aZ.2.1).trans h.ba;have t:fF w' d (ay<|y g8) 3:=(g.A d (az h.bn)<|hF _ h.aZ.2.2.1).trans h.bn;have u:fF w' m (.func (.func O.f) #[] O.cb) 457:=(g.A m (az h.bo)<|hF _ h.aZ.2.2.2).trans h.bo;have i:O.A w':=O.l w w' h.A<|g.bM h.D (λk e=>⟨(O.lt w h.A k e).2,hF k (O.lt w h.A k e).1⟩)<|λk e _=>e;have l:I (λk=>k=b\/k=c) w' (cP (cP w' (X b 0) q) (X c 0)<|ay<|(a:Y)+1):=((I.bI (λk=>k=b\/k=c) w').aL b 0 _<|J<|J z).aL c 0 _<|J<|bu z;have f:n0<=G (H w'):=aR h.D g.D;have j:∀k,(k=b\/k=c)->k<n0->V.F k:=by rintro k(rfl|rfl)A;have:=h.aZ.1;omega;have:=h.aZ.2.1;omega
 refine⟨(v.gu _).dN _ h.ra,(s.dN _<|λp=>h.ra p.symm).gu _,(t.dN _<|λp=>h.rn p.symm).dN _<|λp=>h.an p.symm,(u.dN _<|λp=>h.ro p.symm).dN _<|λp=>h.ao p.symm,bu<|B.bM<|l.bM f (λk e=>⟨(B.aZ.bZ k e).2,?_⟩) j,O.l w' _ i<|l.bM f (λk e=>⟨(O.lt w' i k e).2,?_⟩) j,x,by rw[gK,gK];exact f,h.f,h.aZ,h.ra,h.rn,h.ro,h.an,h.ao,D,h.nO⟩;grind
 rintro(A|A);exact(h.nO k e).1 A;exact(h.nO k e).2.1 A
end
def wI{P:Program}{w:Z}{b:R}{u:ae}{t:TypeId}(h:fF w b u t)(v:ae)(d:v.oneCell'=cz):(store (X b 0) v).run P w=.ok () (cP w (X b 0) v):=by
 have a:=h.u;have c:=h.bS;rw[Dt P w _ _ _ d];simp[a,c]
abbrev zE:E:=⟨⟨#[]⟩,⟨#[]⟩,bD,0⟩
def WO{l:Bm s b O}{v:R}{h:fC}(j:wV s b (pS l c k n T W) a)(p:jT l e c k n T d i v h)(q:s.D e)(t:I (λg=>pS l c k n T W g\/s.F g) a e)(r:¬pS l c k n T h (G<|H a))(x:E)(o:Obj):s.D ((yp e (G<|H a) x).alloc o)/\I (λg=>pS l c k n T W g\/s.F g) a ((yp e (G<|H a) x).alloc o)/\jT l ((yp e (G<|H a) x).alloc o) c k n T d i v h:=by
 have f:I (λg=>g=G (H a)) e ((yp e (G<|H a) x).alloc o):=(kr _ _ _).aE o;refine⟨s.l q f<|λg m u=>gW (j.f g u) j.D,t.aj f ar,p.fq f<|λg m=>?_⟩;subst m;exact⟨r,λa=>bP j.D⟩
def Qa(bs:Bm s b O){ek:dB}{ej:R}(hA:jT bs a c k n T d ek ej W)(hD:s.D a)(et:y O<=1000000000000):cR bN 343 #[aJ c,aJ k,aJ n,aJ T] a (Out s (C7 bs c k n T) (EN ek O ej) (pS bs c k n T W) a):=by
 have:∀b a,(callFunc bs.f b).run bN a=.ok (.enter bs.f b) a:=bs.o;have:∀a,(binOp .eql 288 .nilFunc .nilFunc).run bN a=.ok (aO cz) a:=λ_=>rfl;have:∀f b a,(binOp .eql 288 (.func f #[] b) .nilFunc).run bN a=.ok (aO bD) a:=λ_ _ _=>rfl;have m:=hA.p;have B:∀g,b<=g->¬s.F g:=λg v hf=>bP<|m.f g hf;go_in
 go_wp2;go_loopg [9] (2*(y O-ej)+2) (λd _ wr=>∃aU r' x S' em,2*(y O-x)+em<d/\((aU=.nilFunc/\r'=[])\/(em=1/\kA s b aU r' S' wr))/\jT bs wr c k n T aU r' x S'/\s.D wr/\I (λg=>pS bs c k n T W g\/s.F g) a wr/\EN ek O ej=EN r' O x/\(∀g,S' g->W g\/G (H a)+1<=g)/\jQ wr (G<|H a) zE/\¬pS bs c k n T S' (G<|H a))
 have h:=hA;refine⟨d,ek,ej,W,1,U,?_,h.nj _,s.l hD (cI aC a) cY,(cI _ _),z,λg v=>J v,aQ _ z,λf=>?_⟩;(obtain⟨c1,c2,_⟩|f:=(h.nj<|aK #[aw ⟨#[]⟩,aw ⟨#[]⟩,aO bD,bw 0] 223).bV;(grind);grind);have:=(h.p.bZ _ f).2;omega
 .let⟨aU,r',x,S',em,al,cx,e,Q,ac,S,ab,r,ap⟩:=hrel;have ch:=e.br.u;have cc:=e.ba.u;have cd:=e.bn.u;have ce:=e.bo.u;have:=e.ra;have:¬k=c:=λei=>e.ra ei.symm;have bf:=ak S;have N:=ak r;have bL:=ak ab;have p:=ak ap;have bd:=ak al;have bo:=az r;have ax:=ak (show∀V,I s.F wr V->I (λg=>pS bs c k n T W g\/s.F g) a V fromλV h=>ac.aj h<|λg v=>J<|bu v);obtain⟨rfl,rfl⟩|⟨rfl,f1,A,rfl,bi,cB⟩:=cx;case' inl=>
   by_cases aD:x<y O;rotate_left
   .have bt:x=y O:=bP e.le;subst bt;let⟨dr,ds,dv,dx⟩:=r.bU;have cl:=r.bS (i:=0);have cm:=r.bS (i:=1);have cn:=r.bS (i:=2);have co:=r.bS (i:=3);have aV:=ak e;have K:=ak Q;clear e Q S r ab ap al;go_wp2;refine ci (gZ z _ _ (G<|H a) zE _ _ z<|N.gL zE) z ?_;have u:I (λg=>g=G (H a)) wr (yp wr (G<|H a) zE):=kr _ _ _;refine⟨J ⟨_,z,J ⟨?_,z⟩⟩,s.l K u<|λg v hf=>gW (m.f g hf) m.D,ac.aj u<|λg v=>bu U⟩;rw[ag bf];simp[EN]
   have cs:=bs.uh x aD wr e.A Q;have cb:EN [] O x=EN O[x] O (x+1):=by unfold EN;rw[dm aD,di,ep]
   have bg:=ak<|S.trans cb;let⟨HK,bc,bb,aV⟩:=js (show∀g,g=c\/g=k->b<=g by rintro g(rfl|rfl);exact e.aZ.1;exact e.aZ.2.1) e.br e.ba e;clear e Q S r ab ap al cb;go_wp21;go_call cs as ei V(⟨v1,S1,rfl,⟨f1,A,rfl,bi,cv⟩,aa,o,av⟩|⟨ey,hX,q,rfl,hq,aa,o⟩);rotate_left
   .have K:jQ V (G<|H a) zE:=N.aA o<|B _ m.D;let⟨dr,ds,dv,dx⟩:=K.bU;have cl:=K.bS (i:=0);have cm:=K.bS (i:=1);have cn:=K.bS (i:=2);have co:=K.bS (i:=3);let⟨bt,HQ,dd,dk⟩:=js K hq aa o;clear K hq aa o;go_wp2;refine ci (gZ z _ _ (G<|H a) zE _ _ z<|bt.gL zE) z ?_;have u:I (λg=>g=G (H a)) V (yp V (G<|H a) zE):=kr _ _ _;exact⟨J ⟨_,z,bu ⟨hX,q,z,HQ.aA u bt.nZ⟩⟩,s.l dd u<|λg v hf=>gW (m.f g hf) m.D,(ax _ dk).aj u<|λg v=>bu U⟩
   have hA1:=aV.Yz aD o ⟨f1,A,z,bi,cv⟩ av;have ad:fF V c .nilFunc 288:=(o.A c (az bc)<|B _<|HK _<|J z).trans bc;have L:fF V k (ay x) 3:=(o.A k (az bb)<|B _<|HK _<|bu z).trans bb;have cT:=wI (P:=bN) ad (.func (.func f1) #[] A) z;have cj:=L.u;have ck:=L.bS;have cr:=az ad;have cp:=az L;have ao:I (λg=>g=c\/g=k) V (cP (cP V (X c 0)<|.func (.func f1) #[] A) (X k 0)<|ay<|(x:Y)+1):=((I.bI (λg=>g=c\/g=k) V).aL c 0 _<|J<|J z).aL k 0 _<|J<|bu z;have ca:=ak<|s.l aa ao<|λg v=>B g<|HK g v;have dT:=hA1.br.u;have l:=ak (show¬pS bs c k n T S1 (G<|H a)by
    rintro(f|f|f|f|f|f)
    .exact p<|J f
    .exact p<|bu<|J f
    .exact p<|bu<|bu<|J f
    .exact p<|bu<|bu<|bu<|J f
    .have:=av _ f;omega
    .exact p (bu (bu (bu (bu (bu f))))))
   have bv:=ak<|(N.aA o<|B _ m.D).aA ao<|λf=>f.elim (λf=>p<|J f)<|λf=>p<|bu<|J f;have bT:=ak ((ax _ o).aj ao (by
    rintro g(f|f)
    .exact J<|J<|J f
    .exact J (J (bu (J f)))))
   have bh:=ak (show∀g,S1 g->W g\/G (H a)+1<=g fromλg v=>bu<|bP<|av g v);have bx:=ak<|show 2*(y O-(x+1))+1<gk from bP<|ag bd;have w:=ak hA1;have eg:=ao.D;have ed:=o.D;clear hA1 ad L ao aa o av cv aV HK bc bb N p ac bf bL bd cs ax;generalize O[x]=rr at*;go_wp21;clear cT cj ck;generalize(cP (cP V (X c 0)<|.func (.func f1) #[] A) (X k 0)<|ay<|(x:Y)+1)=el at*;generalize x+1=db at*;have ec:G (H a)<G (H el):=U;clear cr cp eg ed aD bo;clear ch cc cd ce
  case' inr=>
   have dT:=e.br.u;let⟨w,ca,bT,bg,bh⟩:=oa e Q ac S ab;have bv:=N;have l:=p;have bx:=ak<|show 2*(y O-x)+1<gk from al;clear e Q S r ab ap al cB N p ac bf bL bd ax;go_wp21;clear ch cc cd ce;generalize o:wr=el at*;clear o;generalize r'=rr at*;generalize x=db at*;generalize S'=S1 at*;have ec:=bo;clear bo
  all_goals
   have cM:Dq s b f1 A rr S1 el:=by
    obtain⟨f,_⟩|⟨f2,en,ev,_,bq⟩:=w.bV
    .cases f
    grind
   go_call cM.uh ca as ei w2⟨cu,bk,an⟩;have bm:I (λg=>pS bs c k n T W g\/s.F g) a w2:=bT.aj an (by
    rintro g(f|f)
    .obtain dc|dc:=bh g f
     .exact J<|J<|bu<|bu<|bu<|bu<|J dc
     grind
    grind)
   have t:jQ w2 (G<|H a) zE:=bv.aA an<|λf=>f.elim (λf=>l<|bu<|bu<|bu<|bu<|J f)<|B _ m.D;have bn:fF w2 c (.func (.func f1) #[] A) 288:=(an.A c (az w.br)<|λf=>f.elim (λf=>(w.nS c f).1 z)<|λf=>B _ w.aZ.1 f).trans w.br;have u:=λx:E=>(kr w2 (G<|H a) x).aE<|aK #[aw x.D,aw x.l,aO x.dP,bw x.f] 223;have bp:G (H a)≠c:=λf=>l<|J f;let⟨eo,eq,er,es⟩:=t.bU;have:=t.bS (i:=0);have:=t.bS (i:=1);have:=t.bS (i:=2);have:=t.bS (i:=3);have:=az t;clear cM;obtain⟨ex,rfl,⟨ea,rfl⟩|⟨hX,q,rfl,hq⟩⟩|⟨⟨D,F,C,j⟩,r2,S2,eb,rfl,bl,bq⟩:=cu
   .subst ea;have:=wI (P:=bN) (bn.aE<|aK #[aw ⟨#[]⟩,aw ⟨#[]⟩,aO bD,bw 0] 223) .nilFunc z;have ba:=ak<|w.t<|an.aE<|aK #[aw ⟨#[]⟩,aw ⟨#[]⟩,aO bD,bw 0] 223;unfold bE yu;go_wp2;go_roundg(2*(y O-db)+1);case measure=>exact bx
    .have br:I (λg=>g=c) w2 (cP (dw w2<|aK #[aw ⟨#[]⟩,aw ⟨#[]⟩,aO bD,bw 0] 223) (X c 0) .nilFunc):=((I.bI (λg=>g=c) w2).aE _).aL c 0 _<|J z;refine⟨.nilFunc,[],db,λ_=>False,0,U,J ⟨z,z⟩,ba,s.l bk br<|λg v=>v▸B _ w.aZ.1,bm.aj br<|λg v=>J<|J<|J v,bg,cY,t.aA br bp,?_⟩;rintro(f|f|f|f|f|f)
     .exact bp f
     .exact l<|bu<|J f
     .exact l<|bu<|bu<|J f
     .exact l<|bu<|bu<|bu<|J f
     .exact f
     .exact l<|bu<|bu<|bu<|bu<|bu f
   .have HQ:=ak hq;clear hq bn;unfold bE yu;go_wp2;refine ci (gZ z _ _ (G<|H a) zE _ _ z<|(t.gL zE).aE _) z ?_;exact⟨J ⟨_,z,bu ⟨hX,q,z,HQ.aA (u zE) t.nZ⟩⟩,s.l bk (u zE)<|λg v hf=>gW (m.f g hf) m.D,bm.aj (u zE)<|λg v=>bu U⟩
   .subst eb;have ba:=ak<|w.U2 an bl ⟨f1,A,z,bi,bq⟩;clear bq bn;unfold E.t;simp only;go_wp2;refine ci (gZ z _ _ (G<|H a) ⟨D,F,C,j⟩ _ _ z<|(t.gL ⟨D,F,C,j⟩).aE _) z ?_;have dn:¬pS bs c k n T S2 (G<|H a):=by
     rintro(f|f|f|f|f|f)
     .exact bp f
     .exact l<|bu<|J f
     .exact l<|bu<|bu<|J f
     .exact l<|bu<|bu<|bu<|J f
     .obtain dc|dc:=bl _ f
      .exact l<|bu<|bu<|bu<|bu<|J dc
      .omega
     .exact l<|bu<|bu<|bu<|bu<|bu f
    let⟨q1,q2,q3⟩:=WO m ba bk bm dn ⟨D,F,C,j⟩<|aK #[aw D,aw F,aO C,bw j] 223;refine⟨bu ⟨⟨D,F,C,j⟩,_,_,bg,z,λg v=>?_,_,r2,db,S2,z,z,q3⟩,q1,q2⟩;obtain f|f|f|f|f|f:=v
    .exact J<|J f
    .exact J<|bu<|J f
    .exact J<|bu<|bu<|J f
    .exact J<|bu<|bu<|bu<|J f
    .obtain dc|dc:=bl g f
     .obtain ei|ei:=bh g dc
      .exact J<|bu<|bu<|bu<|bu<|J ei
      grind
     grind
    .exact J<|bu<|bu<|bu<|bu<|bu f
def Ti(k:Bm s b O)(f c d e:R)(j:y O<=1000000000000)(a:ae)(r:dB)(i:R)(S:fC)(w:Z)(l:jT k w f c d e a r i S):Dq s b 343 #[aJ f,aJ c,aJ d,aJ e] (EN r O i) (pS k f c d e S) w:=by
 refine Dq.of (C7 k f c d e) ?_ ?_ ?_ ⟨a,r,i,S,z,z,l⟩;rintro n S w⟨a,r,i,g,rfl,rfl,h⟩;exact h.p;rintro n S w o⟨a,r,i,g,rfl,rfl,h⟩m;exact⟨a,r,i,g,z,z,h.bM m⟩;rintro n S w⟨a,r,i,g,rfl,rfl,h⟩m;exact Qa k h m j
def Kn(c:Bm s b O)(w:Z)(a:c.A w)(n:b<=G (H w))(hF:∀k,s.F k->k<b)(f:y O<=1000000000000):cR bN 338 #[ay<|y O,.func (.func c.f) #[] c.cb] w λp l=>∃j g,p=aN j/\kA s b j O.flatten g l/\gD (G<|H w) w l/\(∀k,g k->c.S k\/G (H w)<=k):=by
 have m:=ak a;clear a;go_in
 go_wp2;go_ret;have a:=ag m;have i:gD (G<|H w) w (dw (dw (dw (dw w<|aK #[ay<|y O] 3)<|aK #[.func (.func c.f) #[] c.cb] 457)<|aK #[ay 0] 3)<|aK #[.nilFunc] 288):=((((Below.refl _ w).alloc (aq _) _).alloc ar _).alloc dW _).alloc dW _;have o:I aC w _:=I.p i;refine⟨_,pS c (G (H w)+1+1+1) (G (H w)+1+1) (G<|H w) (G (H w)+1) aC,z,⟨343,_,z,enters_of func343 aH z,?_⟩,i,?_⟩;refine Ti c _ _ _ _ f .nilFunc [] 0 _ _ ⟨aQ _ ar,?_,?_,?_,ar,c.l w _ a<|o.bM n (λk e=>⟨(c.lt w a k e).2,λd=>d⟩) cY,bQ _,by simp;omega,hF,⟨U,U,U,U⟩,U,U,U,U,U,cY,λk e=>?_⟩;exact fF.aE (aQ _ ar) _;(grind[fF.aE,aQ]);exact fF.aE (fF.aE (aQ _ ar) _) _;have:=(c.lt w a k e).2;grind
 rintro k(d|d|d|d|d|d);(grind);(grind);(grind);(grind);exact d.elim;exact J d
structure Hd where
 v:ae
 l:dB
 fr:E
 f:eN
 t:Bool
 S:R->Prop
def Hd.bU(h:Hd):iF:=[h.v,.string h.fr.D,.string h.fr.l,.bool h.fr.dP,.int .u64 h.fr.f,.bool h.f,.bool h.t]
def fy(hs:cy Hd):iF:=hs.flatMap Hd.bU
def Hd.D(h:Hd):dB:=if h.f then h.fr::h.l else h.l
theorem oG(hs:cy Hd):y (fy hs)=y hs*7:=by
 induction hs with
 |nil=>rfl
 |cons h r c=>unfold fy at*;rw[dR,ai,c];simp[Hd.bU];omega
def sh(hs:cy Hd)(i:R)(h:i<y hs):fy hs=fy (hs.take i)++(Hd.bU hs[i]++fy (hs.drop<|i+1)):=by
 have c:hs=hs.take i++hs[i]::hs.drop (i+1):=by rw[<-dm h,du]
 conv=>lhs;rw[c]
 simp only[fy,gS,dR]
theorem uC(hs:cy Hd)(i j:R)(h:i<y hs)(d:j<7):(fy hs)[i*7+j]?=(Hd.bU hs[i])[j]?:=by
 have c:y (fy<|hs.take i)=i*7:=by rw[oG];simp;omega
 rw[sh hs i h,fQ U,c,show i*7+j-i*7=j by omega,iu (by simp[Hd.bU];omega)]
def LW(hs:cy Hd)(i:R)(h:i<y hs)(x:Hd)(e:x.v=hs[i].v):(((((((fy hs).set (i*7+1)<|.string x.fr.D).set (i*7+2)<|.string x.fr.l).set (i*7+3)<|.bool x.fr.dP).set (i*7+4)<|.int .u64 x.fr.f).set (i*7+5)<|.bool x.f).set (i*7+6)<|.bool x.t)=fy (hs.set i x):=by
 have d:y (fy<|hs.take i)=i*7:=by rw[oG];simp;omega
 have c:fy (hs.set i x)=fy (hs.take i)++(Hd.bU x++fy (hs.drop<|i+1)):=by rw[kC,fW h];simp only[fy,gS,dR]
 rw[c,sh hs i h];rw[iJ _ _ U,iJ _ _ U,iJ _ _ U,iJ _ _ U,iJ _ _ U,iJ _ _ U,d];rw[show i*7+1-i*7=1 by omega,show i*7+2-i*7=2 by omega,show i*7+3-i*7=3 by omega,show i*7+4-i*7=4 by omega,show i*7+5-i*7=5 by omega,show i*7+6-i*7=6 by omega];simp[Hd.bU,e]
def IR(hs:cy Hd)(i:R)(h:i<y hs)(x:Hd)(e:x={hs[i]with f:=x.f}):(fy hs).set (i*7+5) (.bool x.f)=fy (hs.set i x):=by
 have d:y (fy<|hs.take i)=i*7:=by rw[oG];simp;omega
 have c:fy (hs.set i x)=fy (hs.take i)++(Hd.bU x++fy (hs.drop<|i+1)):=by rw[kC,fW h];simp only[fy,gS,dR]
 rw[c,sh hs i h,iJ _ _ U,d,show i*7+5-i*7=5 by omega];rw[e];simp[Hd.bU]
structure Xe(V:jv)(n0:R)(w:Z)(h:Hd):Prop where
 L:h.t=bD->kA V n0 h.v h.l h.S w
 aZ:wV V n0 h.S w
 f:h.t=cz->h.l=[]/\h.f=bD
def Xe.bM{V:jv}{n0:R}{w w':Z}{h:Hd}(o:Xe V n0 w h)(hs:la V n0 h.S w w'):Xe V n0 w' h:=⟨λe=>(o.L e).bM hs,o.aZ.bM hs,o.f⟩
structure kO(V:jv)(n0:R)(w:Z)(b a:R)(hs:cy Hd):Prop where
 g:fF w b (bX a 0 (y hs)<|y hs) 406
 bV:w.heap[a]?=M (.cells (fy hs).toArray 408 (0,0))
 bZ:∀i(hi:i<y hs),Xe V n0 w hs[i]
 D:n0<=G (H w)
 f:∀k,V.F k->k<n0
 aZ:n0<=b/\n0<=a
 bh:b≠a
 nS:∀i(hi:i<y hs)k,hs[i].S k->k≠b/\k≠a
 S:∀i j(hi:i<y hs)(hj:j<y hs),i≠j->∀k,hs[i].S k->¬hs[j].S k
def ny(b a:R)(hs:cy Hd)(k:R):Prop:=k=b\/k=a\/∃i,∃c:i<y hs,hs[i].S k
section
variable{V:jv}{n0:R}{w w':Z}{b a:R}{hs:cy Hd}
def kO.p(h:kO V n0 w b a hs):wV V n0 (ny b a hs) w:=⟨h.D,h.f,by
 rintro k(rfl|rfl|⟨i,c,d⟩)
 .exact⟨h.aZ.1,az h.g⟩
 .exact⟨h.aZ.2,az h.bV⟩
 .exact(h.bZ i c).aZ.bZ k d⟩
def kO.bM(h:kO V n0 w b a hs)(c:la V n0 (ny b a hs) w w'):kO V n0 w' b a hs:=⟨h.g.bM c<|J z,(c.2 a<|bu<|bu<|J z).trans h.bV,λi d=>(h.bZ i d).bM<|c.aT<|λ_ e=>bu<|bu ⟨i,d,e⟩,aR h.D c.1,h.f,h.aZ,h.bh,h.nS,h.S⟩
def kO.fq{T:fC}(h:kO V n0 w b a hs)(e:I T w w')(d:∀k,T k->¬ny b a hs k/\(k<n0->V.F k)):kO V n0 w' b a hs:=h.bM<|e.bM h.D (λk c=>⟨(h.p.bZ k c).2,λf=>(d k f).1 c⟩) aI
def kO.nj(h:kO V n0 w b a hs)(o:Obj):kO V n0 (dw w o) b a hs:=h.fq ((I.bI aC w).aE o) cY
def kO.gL(h:kO V n0 w b a hs)(l:R)(j:l<y hs)(B:Hd)(v:I (λk=>(hs[l].S k\/V.F k)\/k=a) w w')(C:w'.heap[a]?=M (.cells (fy<|hs.set l B).toArray 408 (0,0)))(D:Xe V n0 w' B)(q:∀k,B.S k->hs[l].S k\/G (H w)<=k):kO V n0 w' b a (hs.set l B):=by
 have hF:∀k,n0<=k->¬V.F k:=λk c d=>bP<|h.f k d;have r:fF w' b (bX a 0 (y hs)<|y hs) 406:=by refine(v.A b (az h.g) ?_).trans h.g;rintro((d|d)|d);exact(h.nS l j b d).1 z;exact hF b h.aZ.1 d;exact h.bh d
 refine⟨by rw[gA];exact r,C,λo s=>?_,aR h.D v.D,h.f,h.aZ,h.bh,λo s k c=>?_,λn m t u i k c=>?_⟩;rw[nL];split;exact D;rename_i i;have e:o<y hs:=dV s;refine(h.bZ o e).bM<|v.bM h.D (λk c=>⟨((h.bZ o e).aZ.bZ k c).2,?_⟩)<|λk c g=>?_;rintro((d|d)|d);exact h.S l o j e i k d c;exact hF k ((h.bZ o e).aZ.bZ k c).1 d;exact(h.nS o e k c).2 d;obtain(d|d)|d:=c;have:=((h.bZ l j).aZ.bZ k d).1;omega;exact d;have:=h.aZ.2;omega;rw[nL]at c;split at c;(obtain d|d:=q k c;exact h.nS l j k d;have:=az h.g;have:=az h.bV;grind);exact h.nS o (dV s) k c;rw[nL]at c|-;have e:n<y hs:=dV t;have g:m<y hs:=dV u;split at c;rename_i x;have A:¬l=m:=U;rw[fN A];obtain d|d:=q k c;exact h.S l m j g A k d;intro c2;have:=((h.bZ m g).aZ.bZ k c2).2;omega;rename_i x;split;intro c2;obtain d|d:=q k c2;exact h.S l n j e x k d c;have:=((h.bZ n e).aZ.bZ k c).2;omega;exact h.S n m e g i k c
end
def yF{d:cy Hd}(h:a.heap[b]?=M (.cells (fy d).toArray 408 (0,0)))(i:R)(e:i<y d):(bA a (X b<|i*7+1)=M (.string d[i].fr.D)/\bA a (X b<|i*7+1+1)=M (.string d[i].fr.l)/\bA a (X b<|i*7+1+2)=M (.bool d[i].fr.dP)/\bA a (X b<|i*7+1+3)=M (.int .u64 d[i].fr.f)/\bA a (X b<|i*7+5)=M (.bool d[i].f)/\bA a (X b<|i*7+6)=M (.bool d[i].t))/\∀o,iI a (X b o)=bD:=by
 have c:∀j,j<7->bA a (X b<|i*7+j)=(Hd.bU d[i])[j]?:=λj f=>by rw[cE h];grind[uC]
 exact⟨⟨c 1 cg,by rw[bJ];exact c 2 cg,by rw[bJ];exact c 3 cg,by rw[bJ];exact c 4 cg,c 5 cg,c 6 cg⟩,λo=>cV h⟩
def Om(w:Z)(a i:R)(x:Hd):Z:=cP (cP (cP (cP (cP (cP w (X a<|i*7+1)<|.string x.fr.D) (X a<|i*7+1+1)<|.string x.fr.l) (X a<|i*7+1+2)<|.bool x.fr.dP) (X a<|i*7+1+3)<|.int .u64 x.fr.f) (X a<|i*7+5)<|.bool x.f) (X a<|i*7+6)<|.bool x.t
def Vm(w:Z)(a i:R)(x:Hd):I (λk=>k=a) w (Om w a i x):=(((((iQ a w).aL a _ _<|J z).aL a _ _<|J z).aL a _ _<|J z).aL a _ _<|J z).aL a _ _<|J z
def Yp{c:cy Hd}(h:a.heap[b]?=M (.cells (fy c).toArray 408 (0,0)))(i:R)(d:i<y c)(x:Hd)(e:x.v=c[i].v):(Om a b i x).heap[b]?=M (.cells (fy<|c.set i x).toArray 408 (0,0)):=by
 refine(aY<|aY<|aY<|aY<|aY<|aY h).trans ?_;simp only[dC];rw[<-LW c i d x e]
def PG{g:cy Hd}(o:kO s b a c k g)(j:R)(r:j<y g)(d:Hd)(D:Obj)(L:d.v=g[j].v)(A:I (λf=>g[j].S f\/s.F f) a e)(u:s.D e)(v:e.heap[k]?=M (.cells (fy g).toArray 408 (0,0)))(K:d.t=bD->kA s b d.v d.l d.S e)(h:wV s b d.S e)(l:d.t=cz->d.l=[]/\d.f=bD)(w:∀f,d.S f->g[j].S f\/G (H a)<=f)(m:d.D=g[j].D)(B:d.f=cz\/d.t=cz):s.D ((Om e k j d).alloc D)/\I (λf=>ny c k g f\/s.F f) a ((Om e k j d).alloc D)/\∃E:Hd,kO s b ((Om e k j d).alloc D) c k (g.set j E)/\E.D=g[j].D/\(E.f=cz\/E.t=cz)/\(∀f,E.S f->g[j].S f\/G (H a)<=f):=by
 have n:I (λf=>f=k) e ((Om e k j d).alloc D):=(Vm _ _ _ _).aE _;have q:I (λf=>(g[j].S f\/s.F f)\/f=k) a ((Om e k j d).alloc D):=(A.aT (T:=λf=>(g[j].S f\/s.F f)\/f=k) aI).aj n ar;have C:((Om e k j d).alloc D).heap[k]?=M (.cells (fy<|g.set j d).toArray 408 (0,0)):=by have:=Yp v j r d L;grind[gy,az]
 have x:∀f,d.S f->¬f=k:=λf p t=>by obtain N|N:=w f p;exact(o.nS j r f N).2 t;have:=az o.bV;omega
 have i:=n.bM (V:=s) (n0:=b) (S:=d.S) h.D (λf p=>⟨(h.bZ f p).2,x f p⟩)<|λf p a=>bP o.aZ.2;refine⟨s.l u n<|λf p F=>gW (o.f f F) o.aZ.2,q.aT ?_,d,o.gL j r d q C ⟨λt=>(K t).bM i,h.bM i,l⟩ w,m,B,w⟩;rintro f((t|t)|t);exact J<|J<|bu<|bu ⟨j,r,t⟩;grind
 exact J<|J<|bu<|J t
def ZP(e:cy Hd)(i:R)(u:i<y e)(h:kO s b a c k e)(hD:s.D a):cR bN 266 #[.pointer<|M<|X k<|i*7] a λal Q=>(al=.returned ic/\s.D Q/\I (λC=>ny c k e C\/s.F C) a Q/\∃ac:Hd,kO s b Q c k (e.set i ac)/\ac.D=e[i].D/\(ac.f=cz\/ac.t=cz)/\(∀C,ac.S C->e[i].S C\/G (H a)<=C))\/Et s a Q (λC=>ny c k e C\/s.F C) al (λap=>ap):=by
 have g:∀j,j<7->bA a (X k<|i*7+j)=(Hd.bU e[i])[j]?:=λj d=>by rw[cE h.bV];grind[uC]
 have B:=g 0 cg;have d:=g 5 cg;have f:=g 6 cg;have n:=h.bZ i u;clear g;have w:e.set i e[i]=e:=List.set_getElem_self u;have r:=ak w;clear w;cases hfu:e[i].f with
 |true=>
  simp only[Hd.bU,hfu]at d B;simp at d;have m:=ak hfu;clear hfu n f B;go_in
  go_wp2;go_ret;refine J ⟨z,hD,I.bI _ _,e[i],?_,z,J m,λC K=>J K⟩;rw[ag r];exact h
 |false=>
  cases hen:e[i].t with
  |true=>
   simp only[Hd.bU,hfu,hen]at d B f;simp at d f;clear n B;go_in
   go_wp2;go_ret;refine J ⟨z,hD,I.bI _ _,e[i],?_,z,bu hen,λC K=>J K⟩;rw[ag r];exact h
  |false=>
   let⟨an,cb,A,eg,v⟩:=n.L hen;simp only[Hd.bU,hfu,hen,A]at d B f;simp at d f B;let⟨m,ad,W,S⟩:=js hfu hen A<|show Enters bN an from eg;clear hfu hen n A;have hc:=v.uh hD;clear v;go_in
   go_wp21;go_call hc as al w1⟨L,x,l⟩;have o:w1.heap[k]?=M (.cells (fy e).toArray 408 (0,0)):=(l.A k (az h.bV)<|λD=>D.elim (λD=>(h.nS i u k D).2 z)<|λD=>gW (h.f k D) h.aZ.2).trans h.bV;let⟨⟨c1,c2,c3,c4,c5,c6⟩,j⟩:=yF o i u;have:=j<|i*7+1;have:=j<|i*7+1+1;have:=j<|i*7+1+2;have:=j<|i*7+1+3;have:=j<|i*7+5;have:=j<|i*7+6;have:=az o;obtain⟨ev,rfl,⟨hl,rfl⟩|⟨hX,q,rfl,hq⟩⟩|⟨⟨O,P,N,p⟩,ao,S1,hl,rfl,ab,aa⟩:=L
   .have T:=ak hl;unfold bE yu;go_wp2;go_ret;have t:=h;refine J ⟨z,PG t i u ⟨e[i].v,[],zE,bD,cz,e[i].S⟩ _ z l x o (λD=>by cases D) ((t.bZ i u).aZ.aA l) (λ_=>⟨rfl,rfl⟩) (λC K=>J K) ?_<|bu rfl⟩;unfold Hd.D;rw[ag m,ag T];rfl
   .have t:=ak hq;unfold bE yu;go_wp2;go_ret;refine bu ⟨hX,q,z,t.aA (cI aC w1) cY,s.l x (cI aC w1) cY,(l.aT ?_).aE _⟩;rintro C(D|D)
    .exact J<|J<|bu<|bu ⟨i,u,D⟩
    grind
   .let⟨T,V,F⟩:=eU hl ab aa;unfold E.t;simp only;go_wp2;go_ret;have t:=ag F;refine J ⟨z,PG h i u ⟨e[i].v,ao,⟨O,P,N,p⟩,cz,bD,S1⟩ _ z l x o (λ_=>⟨an,cb,W,S,t⟩) t.aZ (λD=>by cases D) V ?_<|J rfl⟩;unfold Hd.D;rw[ag m,ag T];rfl
def Iq:Option R->Y
 |none=>-1
 |some b=>b
def lw(a:cy Hd):iG:=a.map Hd.D
def Vj(a:cy Hd)(i:R)(e:i<y a)(x:Hd)(b:x.D=a[i].D):lw (a.set i x)=lw a:=by
 unfold lw;rw[uw,b];refine List.ext_getElem ar<|λj c d=>?_;rw[nL];grind
def zJ{a:cy Hd}(c:b<y a):nB (lw a) b=a[b].D.head?:=by
 unfold nB lw;simp[c]
theorem It{a:cy Hd}(h:k<y a){x:Hd}(g:∀d,x.S d->a[k].S d\/n<=d):∀d,ny b c (a.set k x) d->ny b c a d\/n<=d:=by
 rintro d(e|e|⟨j,i,e⟩);exact J<|J e;exact J<|bu<|J e;rw[nL]at e;split at e;obtain f|f:=g d e;exact J<|bu<|bu ⟨k,h,f⟩;exact bu f;exact J<|bu aI
theorem BZ(w:Z)(q:R):I aC w (w.drewN q):=⟨rfl,rfl,rfl,aq _,λ_ _ _=>rfl⟩
def MB(h:nB O b=M S)(a:mr O b=dE):mr O (b+1)=M b:=by
 unfold mr;rw[h,a]
def MA{f:E}(h:nB O b=M S)(a:mr O b=M c)(d:nB O c=M f):mr O (b+1)=if ahead S f then M b else M c:=by
 conv=>lhs;unfold mr
 rw[h,a];grind
def Hz{a:cy Hd}{x:Hd}(h:∀j(c:j<y a),j<b->a[j].f=cz\/a[j].t=cz)(d:x.f=cz\/x.t=cz):∀j(c:j<y (a.set b x)),j<b+1->(a.set b x)[j].f=cz\/(a.set b x)[j].t=cz:=by
 grind
def C5(V:jv)(d b c N:R)(l:dB)(S:fC)(w:Z):Prop:=∃a,l=eL (lw a)/\S=ny b c a/\y a=N/\kO V d w b c a
theorem OI(e:cy Hd)(h:kO s b a c k e)(hD:s.D a)(hn:y e<=1000000000000):cR bN 265 #[aJ c] a (Out s (C5 s b c k<|y e) (eL<|lw e) (ny c k e) a):=by
 have cb:=az h.g;have cd:=h.g.u;let⟨j,HH,HD⟩:=eU h.p h hD;go_in
 go_wp2;go_loopw [4,9] (λg ax wr=>∃(u:R)(d:cy Hd),u<=y e/\ax=.int .i64 u/\g=.int .i64 (Iq<|mr (lw e) u)/\kO s b wr c k d/\y d=y e/\lw d=lw e/\(∀bp(hj:bp<y d),bp<u->d[bp].f=cz\/d[bp].t=cz)/\s.D wr/\I (λm=>ny c k e m\/s.F m) a wr/\jQ wr (G<|H a) zE/\(∀m,ny c k d m->ny c k e m\/G (H a)+1<=m)) (λ_ ax _=>y e-(intOf ax).toNat)
 have h:=ag HH;exact⟨0,e,bQ _,z,z,h.nj _,z,z,λbp _ hj=>U,s.l HD (cI aC a) cY,(cI _ _),aQ _ z,λm r=>J r⟩
 .obtain⟨u,d,ce,rfl,rfl,x,T,F,Q,D,hT,L,hS⟩:=hrel;have bx:=x.g.u;rw[T]at bx;by_cases bn:u<y e
  .have ao:=ZP d u U x D;let⟨HA,bq,aV,HT,HE,HS⟩:=nU x F Q hT L hS;let⟨bo,p⟩:∃bo,mr (lw e) u=bo:=⟨_,rfl⟩;rw[p];have K:=ak p;go_wp21;go_call ao as cc w1(⟨rfl,an,P,aD,hA1,bL,bT,ca⟩|⟨hX,q,rfl,hq,an,P⟩);rotate_left
   .have bg:=az HE;have B:jQ w1 (G<|H a) zE:=HE.aA P (by
     rintro(v|v)
     .obtain V|V:=HS _ v
      .have:=(j.bZ _ V).2;omega
      .omega
     .have:=j.f _ v;have:=j.D;omega)
    let⟨bb,bc,bd,bf⟩:=B.bU;have bi:=B.bS (i:=0);have bk:=B.bS (i:=1);have bl:=B.bS (i:=2);have bm:=B.bS (i:=3);let⟨aU,HQ,ad,N⟩:=js B hq an P;go_wp2;apply ci (gZ z _ _ (G<|H a) zE _ _ z<|aU.gL zE) z;have o:I (λm=>m=G (H a)) w1 (yp w1 (G<|H a) zE):=kr _ _ _;refine⟨J ⟨_,z,bu ⟨hX,q,z,HQ.aA o aU.nZ⟩⟩,s.l ad o<|λm r hf=>gW (j.f m hf) j.D,(HT.aj N ?_).aj o ar⟩;rintro m(v|v)
    .obtain V|V:=HS m v
     .grind
     grind
    grind
   let⟨ad,N,t,br,al,bs⟩:=nU an P hA1 bL bT ca;go_wp2;have ab:u<y d:=U;have av:u<y (d.set u aD):=sO;let⟨⟨c1,c2,c3,c4,c5,c6⟩,ap⟩:=yF t.bV u av;rw[sK]at c1 c2 c3 c4 c5 c6;have bt:=t.g.u;rw[gA,T]at bt;have ac:lw (d.set u aD)=lw e:=(Vj d u ab aD br).trans bq;have aa:=ak ac;have ba:=ak (by rw[<-ac,zJ av,sK]:nB (lw e) u=aD.D.head?);have ch:G (H a)<G (H wr):=az HE;have bh:∀(bg:Z)(bv:Y),I aC w1 bg->Iq (mr (lw e)<|u+1)=bv->∃(i:R)(g:cy Hd),i<=y e/\Value.int .i64 ((u:Y)+1)=.int .i64 i/\Value.int .i64 bv=.int .i64 (Iq<|mr (lw e) i)/\kO s b bg c k g/\y g=y e/\lw g=lw e/\(∀bp(hj:bp<y g),bp<i->g[bp].f=cz\/g[bp].t=cz)/\s.D bg/\I (λm=>ny c k e m\/s.F m) a bg/\jQ bg (G<|H a) zE/\(∀m,ny c k g m->ny c k e m\/G (H a)+1<=m):=by
    intro bg bv B aU;refine⟨u+1,d.set u aD,bn,z,by rw[aU],t.fq B cY,by rw[gA];exact T,aa,Hz aV al,s.l ad B cY,?_,?_,?_⟩
    .refine((HT.aj N ?_).t B);rintro m(v|v)
     .obtain V|V:=HS m v
      .simp_all
      grind
     simp_all
    .refine(HE.aA N ?_).aA B<|λv=>v;rintro(v|v)
     .obtain V|V:=HS _ v
      .have:=(j.bZ _ V).2;omega
      .omega
     .have:=j.f _ v;have:=j.D;omega
    .intro m r;obtain V|V:=It ab bs m r
     .exact HS m V
     grind
   have W:=ak bh;cases hfu:aD.f with
   |false=>
    rw[hfu]at c5;have bg:aD.t=cz:=al.resolve_left (by rw[hfu];simp);have aU:=(t.bZ u av).f;rw[sK]at aU;have bv:=aU bg;have B:nB (lw e) u=dE:=by rw[ag ba];unfold Hd.D;rw[hfu,bv.1];rfl
    have HB:=ak (by unfold mr;rw[B];exact K:mr (lw e) (u+1)=bo);go_quiet(fail)
    go_wp2;go_roundw
    .grind[BZ,ag]
    .simp[intOf];omega
   |true=>
    rw[hfu]at c5;have ap:nB (lw e) u=M aD.fr:=by rw[ag ba];unfold Hd.D;rw[hfu];rfl
    cases bo with
    |none=>
     have HB:=ak<|MB ap K;simp only[Iq];go_quiet(fail)
     go_wp2;go_roundw
     .exact W _ _ (BZ _ _) (by rw[ag HB];rfl)
     .simp[intOf];omega
    |some l=>
     let⟨bE,O,C,_⟩:=wE K;have HB:=ak<|MA ap K C;have n:l<y (d.set u aD):=U;have i:(d.set u aD)[l].D.head?=M O:=by rw[<-zJ n,ag aa];exact C
     have g:(d.set u aD)[l].f=cz:=by
      obtain v|v:=Hz aV al l n U
      .exact v
      .have:=(t.bZ l n).f v;unfold Hd.D at i;rw[this.2,this.1]at i;cases i
     have A:(d.set u aD)[l].fr=O:=by
      unfold Hd.D at i;rw[g]at i;simp_all
     let⟨⟨d1,d2,d3,d4,_,_⟩,_⟩:=yF t.bV l n;rw[A]at d1 d2 d3 d4;have B:=Ep aD.fr O;have bg:=az t.bV;have aU:=az t.g;generalize aD.fr=xf at*;let⟨xk,xv,xd,xb⟩:=xf;let⟨fk,fv,fd,w⟩:=O;simp only at c1 c2 c3 c4 d1 d2 d3 d4;simp only[E.t]at B;simp only[Iq];have i1:(0:Y)<=(l:Y):=U;have i2:(l:Y)<(y e:Y):=U;have i3:l<y e:=U;have i4:¬(l:Y)<0:=U;have i5:(0:Y)<=(u:Y):=U;have i6:(u:Y)<(y e:Y):=U;cases hax:ahead ⟨xk,xv,xd,xb⟩ ⟨fk,fv,fd,w⟩;all_goals
      rw[hax]at HB B;go_region_held3(λa=>bA a (X c 0)=M (bX k 0 (y e)<|y e)/\bA a (X k<|u*7+5)=M (.bool cz)/\(bA a (X k<|u*7+1)=M (.string xk)/\bA a (X k<|u*7+1+1)=M (.string xv)/\bA a (X k<|u*7+1+2)=M (.bool xd)/\bA a (X k<|u*7+1+3)=M (.int .u64 xb))/\(bA a (X k<|l*7+1)=M (.string fk)/\bA a (X k<|l*7+1+1)=M (.string fv)/\bA a (X k<|l*7+1+2)=M (.bool fd)/\bA a (X k<|l*7+1+3)=M (.int .u64 w))) (first|assumption|go_keep) (first
       |(go_at_call 249;refine(B _).mono ?_;rintro cc w2⟨rfl,rfl⟩))
      go_wp2;go_roundw
      .refine W _ _ ?_ (by rw[ag HB];rfl);exact(((cI aC w1).aE _)).t<|BZ _ 1
      .simp[intOf];omega
  .have bt:u=y e:=U;subst bt;let⟨bo,p⟩:∃bo,mr (lw e) (y e)=bo:=⟨_,rfl⟩;rw[p];cases bo with
   |none=>
    have hm:=zT (hs:=lw e) (by rw[show y (lw e)=y e by simp[lw]];exact p);have B:=ak hm;have t:=ak D;have HT:=ak hT;have HE:=ak L;let⟨bb,bc,bd,bf⟩:=L.bU;have bi:=L.bS (i:=0);have bk:=L.bS (i:=1);have bl:=L.bS (i:=2);have bm:=L.bS (i:=3);clear hm p x D hT L hS F Q;simp only[Iq];go_wp2;refine ci (gZ z _ _ (G<|H a) zE _ _ z<|HE.gL zE) z ?_;have o:I (λm=>m=G (H a)) wr (yp wr (G<|H a) zE):=kr _ _ _;exact⟨J ⟨_,z,J ⟨B,z⟩⟩,s.l t o<|λm r hf=>gW (j.f m hf) j.D,HT.aj o ar⟩
   |some l=>
    let⟨bE,O,C,_⟩:=wE p;have hm:=zS (hs:=lw e) (by rw[(by simp[lw]:y (lw e)=y e)];exact p) C;have n:l<y d:=U;have i:d[l].D.head?=M O:=by rw[<-zJ n,F];exact C
    have g:d[l].f=cz:=by
     obtain v|v:=Q l n U
     .exact v
     .have:=(x.bZ l n).f v;unfold Hd.D at i;rw[this.2,this.1]at i;cases i
    have A:d[l].fr=O:=by
     unfold Hd.D at i;rw[g]at i;grind
    have N:d[l].t=bD:=by
     cases v:d[l].t with
     |false=>rfl
     |true=>have:=((x.bZ l n).f v).2;rw[g]at this;cases this
    let⟨⟨d1,d2,d3,d4,d5,_⟩,P⟩:=yF x.bV l n;have g5:=P<|l*7+5;rw[A]at d1 d2 d3 d4;have aa:lw (d.set l {d[l]with f:=bD})=(lw e).modify l List.tail:=by
     rw[<-F];unfold lw;rw[uw];refine List.ext_getElem ar<|λbp h1 h2=>?_;rw[nL,List.getElem_modify];split
     .rename_i cc;subst cc;simp[Hd.D,g]
     .simp
    have B:(cP wr (X k<|l*7+5)<|.bool bD).heap[k]?=M (.cells (fy<|d.set l {d[l]with f:=bD}).toArray 408 (0,0)):=by
     apply(aY x.bV).trans;simp only[dC];rw[<-IR d l n {d[l]with f:=bD} rfl]
    have K:I (λm=>m=k) wr (cP wr (X k<|l*7+5)<|.bool bD):=(iQ k wr);have W:Xe s b (cP wr (X k<|l*7+5)<|.bool bD) {d[l]with f:=bD}:=by
     have an:=x.bZ l n;have aV:=K.bM (V:=s) (n0:=b) (S:=d[l].S) x.D (λm r=>⟨(an.aZ.bZ m r).2,λv=>(x.nS l n m r).2 v⟩)<|λm r bn=>bP x.aZ.2;exact⟨λv=>(an.L N).bM aV,an.aZ.bM aV,aI⟩
    have ab:=x.gL l n {d[l]with f:=bD} ((I.bI (λm=>(d[l].S m\/s.F m)\/m=k) wr).aL k _ _ (J<|bu rfl):I (λm=>(d[l].S m\/s.F m)\/m=k) wr (cP wr (X k<|l*7+5)<|.bool bD)) B W (λm r=>J r);have aU:¬G (H a)=k:=λv=>bP<|az HH.bV;have bv:¬k=G (H a):=λv=>aU v.symm;have t:jQ (cP wr (X k<|l*7+5)<|.bool bD) (G<|H a) zE:=L.aA K aU;let⟨bb,bc,bd,bf⟩:=t.bU;have bi:=t.bS (i:=0);have bk:=t.bS (i:=1);have bl:=t.bS (i:=2);have bm:=t.bS (i:=3);have ac:∀m,ny c k (d.set l {d[l]with f:=bD}) m->ny c k e m\/G (H a)+1<=m:=by
     grind[It]
    have av:=s.l D K<|λm r hf=>gW (j.f m hf)<|j.bZ k<|bu<|J z;have al:eL (lw e)=O::eL (lw<|d.set l {d[l]with f:=bD}):=by rw[aa];exact hm
    have ad:y (d.set l {d[l]with f:=bD})=y e:=by rw[gA];exact T
    let⟨ao,aD⟩:∃ao,ao=d.set l {d[l]with f:=bD}:=⟨_,rfl⟩;rw[<-aD]at ab ac al ad;let⟨ba,ap,br,bq,bs,bg,bh⟩:=zY ab ac al ad (hT.aj K (λm r=>J<|J<|bu<|J r):I (λm=>ny c k e m\/s.F m) a (cP wr (X k<|l*7+5)<|.bool bD)) av t;have i1:(0:Y)<=(l:Y):=U;have i2:(l:Y)<(y e:Y):=U;have i3:l<y e:=U;have i4:¬(l:Y)<0:=U;rw[g]at d5;clear hm C i g A N aa B K W ab ac av al ad t x D hT L hS F Q p P aD;let⟨fk,fv,fd,w⟩:=O;simp only at d1 d2 d3 d4;simp only[Iq];go_wp2;apply ci (gZ z _ _ (G<|H a) ⟨fk,fv,fd,w⟩ _ _ z<|bh.gL ⟨fk,fv,fd,w⟩) z;have o:I (λm=>m=G (H a)) (cP wr (X k<|l*7+5)<|.bool bD) (yp (cP wr (X k<|l*7+5)<|.bool bD) (G<|H a) ⟨fk,fv,fd,w⟩):=kr _ _ _;refine⟨bu ⟨⟨fk,fv,fd,w⟩,_,_,br,z,λm r=>?_,ao,z,z,bq,ba.fq o<|λm r=>?_⟩,s.l bg o<|λm r hf=>gW (j.f m hf) j.D,bs.aj o ar⟩;rotate_left
    .subst r;refine⟨λv=>?_,λv=>bP j.D⟩;obtain V|V:=ap _ v
     .have:=(j.bZ _ V).2;omega
     .omega
    .obtain V|V:=ap m r
     .exact J V
     grind
def Sl(V:jv)(f c d:R)(b:cy Hd)(w:Z)(i:y b<=1000000000000)(a:kO V f w c d b):Dq V f 265 #[aJ c] (eL<|lw b) (ny c d b) w:=by
 refine Dq.of (C5 V f c d<|y b) ?_ ?_ ?_ ⟨b,z,z,z,a⟩;rintro l S w⟨h,rfl,rfl,_,a⟩;exact a.p;rintro l S w j⟨h,rfl,rfl,e,a⟩g;exact⟨h,z,z,e,a.bM g⟩;rintro l S w⟨h,rfl,rfl,e,a⟩g;rw[<-e];grind[OI]
def KY{P:Program}{e:Array ae}{t:TypeId}(h:a.heap[b]?=M (aK e t (0,0)))(i:e[c]?=M d)(v:ae)(j:v.oneCell'=cz):(store (X b c) v).run P a=.ok () (cP a (X b c) v):=by
 have f:bA a (X b c)=M d:=(cE h).trans i;have g:=cV (i:=c) h;rw[Dt P a _ _ _ j];simp[f,g]
def vT:Hd:=⟨.nilFunc,[],zE,bD,bD,λ_=>False⟩
def LB(g:ae×dB×fC):Hd:=⟨g.1,g.2.1,zE,bD,bD,g.2.2⟩
def wQ(a:cy (ae×dB×fC))(n:R):cy Hd:=(a.take n).map LB++List.replicate (y a-n) vT
def EP(a:cy (ae×dB×fC))(n:R)(h:n<=y a):y (wQ a n)=y a:=by unfold wQ;simp;omega
def Wd(a:cy (ae×dB×fC))(n:R)(h:n<y a):(wQ a n).set n (LB a[n])=wQ a (n+1):=by
 unfold wQ;have b:y a-n=(y a-(n+1))+1:=U;rw[b,List.replicate_succ,iJ _ _ dW];rw[aG h];have:n-y ((a.take n).map LB)=0:=by simp;omega
 rw[this];grind
def Pq(a:cy (ae×dB×fC))(n:R)(h:n<y a):(wQ a n)[n]?=M vT:=by
 unfold wQ;rw[fQ dW];grind
def IS(a:cy Hd)(i:R)(h:i<y a)(x:Hd)(c:x.fr=a[i].fr)(d:x.f=a[i].f)(e:x.t=a[i].t):(fy a).set (i*7) x.v=fy (a.set i x):=by
 have f:y (fy<|a.take i)=i*7:=by rw[oG];simp;omega
 have b:fy (a.set i x)=fy (a.take i)++(Hd.bU x++fy (a.drop<|i+1)):=by rw[kC,fW h];simp only[fy,gS,dR]
 rw[b,sh a i h,iJ _ _ U,f,xY];simp[Hd.bU,c,d,e]
def Sn(n:R):(madeCells #[.nilFunc,aw ⟨#[]⟩,aw ⟨#[]⟩,aO bD,bw 0,aO bD,aO bD]<|n*7).toList=fy (List.replicate n vT):=by
 refine wi<|λj=>?_;by_cases c:j<n*7;(have a:j/7<y (List.replicate n vT):=by simp;omega);have b:=uC (List.replicate n vT) (j/7) (j%7) a U;rw[show j/7*7+j%7=j by omega]at b;rw[b,List.getElem_replicate];have f:j%7<7:=ol _ cg;(have d:(madeCells #[.nilFunc,aw ⟨#[]⟩,aw ⟨#[]⟩,aO bD,bw 0,aO bD,aO bD]<|n*7).toList[j]?=M ((#[.nilFunc,aw ⟨#[]⟩,aw ⟨#[]⟩,aO bD,bw 0,aO bD,aO bD]:Array ae)[j%7]!):=by unfold madeCells;simp[c]);rw[d];have:j%7=0\/j%7=1\/j%7=2\/j%7=3\/j%7=4\/j%7=5\/j%7=6:=U;obtain e|e|e|e|e|e|e:=this<;>rw[e]<;>rfl;grind[getElem?_eq_none,Array.length_toList,size_madeCells,oG]
def Zo:(prog.info? 408).map (λi=>(i.zero,i.size,i.bytes))=M (M<|ef #[.nilFunc,aw ⟨#[]⟩,aw ⟨#[]⟩,aO bD,bw 0,aO bD,aO bD],7,64):=aH
def Vx(h:fE a b c k (bX n 0 T T) T Q):a.heap[n]?=M (aK Q.toArray c (0,0)):=by
 obtain⟨q,⟨e,_⟩|⟨p,i,d,e,r,m,o,l,f,g⟩⟩:=h;cases e;cases e;(have j:d.toList=Q:=by rw[<-g,fB (by rw[nH,f];grind)]);rw[m,<-j]
def VF(bc:jv)(N:R)(b:cy (ae×dB×fC))(hr:Row a 1 d (y b) (b.map (·.1)))(ax:∀m,cN d=M m->m<G (H a))(hn:y b<=40000000000)(hg:∀i(k:i<y b),kA bc N b[i].1 b[i].2.1 b[i].2.2 a)(hd:∀i bf(k:i<y b)(hj:bf<y b),i≠bf->∀m,b[i].2.2 m->¬b[bf].2.2 m)(L:N<=G (H a))(hF:∀m,bc.F m->m<N):cR bN 215 #[d] a λbh w'=>∃v' S',bh=aN v'/\kA bc N v' (eL<|b.map (·.2.1)) S' w'/\gD (G<|H a) a w'/\(∀m,S' m->(∃i,∃k:i<y b,b[i].2.2 m)\/G (H a)<=m):=by
 let⟨i0,av,aV,ba,bb⟩:=cZ Zo;let⟨bo,bg,aU⟩:=cG hr;let⟨HR,ao,HG,al,HF⟩:=oa hr ax hg hd hF;subst aU;go_in
 go_wp2_with(at_make;refine wpList_make_full _ z (.tmp 7) (.tmp 7) 406 z (G<|H a) 408 i0 (ef #[.nilFunc,aw ⟨#[]⟩,aw ⟨#[]⟩,aO bD,bw 0,aO bD,aO bD]) 7 underlying406 av aV ba _ _ _ _ (y b) z z z z (by rw[bb];omega) (by unfold maxLen;omega) (aq _) ?_;intro r ab W;have F:=Vx ab;have o:=ak F;have an:=ak W)
 have ap:=ag an;have ac:G (H a)<G (H r):=az o;have e:gD (G<|H a) a r:=(Below.refl _ a).grown ap (aq _) ar;have Q:=ak<|e.alloc e.size<|aK #[bX (G<|H a) 0 (y b)<|y b] 406;have E:(dw r<|aK #[bX (G<|H a) 0 (y b)<|y b] 406).heap[G<|H a]?=M (aK (fy<|wQ b 0).toArray 408 (0,0)):=by rw[gy _ ac,ag o];(have bh:wQ b 0=List.replicate (y b) vT:=by simp[wQ]);rw[bh,<-Sn];rfl
 have B:fF (dw r<|aK #[bX (G<|H a) 0 (y b)<|y b] 406) (G<|H r) (bX (G<|H a) 0 (y b)<|y b) 406:=aQ _ z;go_loopw [11] (λi wr=>∃n:R,n<=y b/\i=ay n/\wr.heap[G<|H a]?=M (aK (fy<|wQ b n).toArray 408 (0,0))/\fF wr (G<|H r) (bX (G<|H a) 0 (y b)<|y b) 406/\gD (G<|H a) a wr) (λi _=>y b-(intOf i).toNat)
 exact⟨0,bQ _,z,E,B,Q⟩
 .obtain⟨n,aa,rfl,f,j,e⟩:=hrel;have bi:=j.u;let⟨w,u,s⟩:=eU f j e;by_cases g:n<y b
  .let⟨bd,T,V,bl,bm⟩:=HG n g;have C:∀l c,bo=M (X l c)->bA wr (X l<|c+n)=M (.func (.func bd) #[] T):=by
    intro l c O;obtain⟨h1,⟨A,_⟩|⟨bq,ad,S,A,aD,hc⟩⟩:=ag HR
    .rw[O]at A;cases A
    .rw[O]at A;cases A;refine(e.cell (p:=(X l<|c+n))<|ao l (by rw[O];rfl)).trans<|hc n _ ?_;rw[fP,bF g];simp[V]
   let⟨l,c,O⟩:∃l c,bo=M (X l c):=by
    obtain⟨h1,⟨A,q⟩|⟨bq,ad,S,A,aD,hc⟩⟩:=ag HR
    .omega
    grind
   have bk:=C l c O;subst O;have D:(fy<|wQ b n).toArray[n*7]?=M .nilFunc:=by
    have hl:n<y (wQ b n):=EP b n aa▸g;have:=uC (wQ b n) n 0 hl cg;rw[List.getElem?_toArray];rw[mf]at this;rw[this];have q:=Pq b n g;rw[bF hl]at q;cases h0':(wQ b n)[n]with
    |mk bs br fr fu en bp=>
     rw[h0']at q;cases q;rfl
   have bn:=KY (P:=bN) f D (.func (.func bd) #[] T) z;have K:(cP wr (X (G<|H a)<|n*7)<|.func (.func bd) #[] T).heap[G<|H a]?=M (aK (fy<|wQ b<|n+1).toArray 408 (0,0)):=by
    have hl:n<y (wQ b n):=EP b n aa▸g;have q:(wQ b n)[n]=vT:=by
     have:=Pq b n g;rw[bF hl]at this;grind
    refine(aY f).trans ?_;simp only[dC];rw[<-Wd b n g,<-IS (wQ b n) n hl (LB b[n]) (by rw[q];rfl) (by rw[q];rfl) (by rw[q];rfl)];simp only[LB,V]
   let⟨x,v,t⟩:=eU K (j.dN (b':=G<|H a) (i:=n*7) (.func (.func bd) #[] T) U)<|e.setCell (p:=(X (G<|H a)<|n*7)) (aq _)<|.func (.func bd) #[] T;go_wp2;go_roundw
   .exact⟨n+1,g,dM,x,v,t⟩
   .simp[intOf];omega
  .have C:n=y b:=U;subst C;go_wp2;go_ret;have f:=ag w;have:=ag u;have e:=ag s;have x:wQ b (y b)=b.map LB:=by simp[wQ]
   rw[x]at f;have K:I aC a wr:=I.p e;have hg:=ag HG;have D:lw (b.map LB)=b.map (·.2.1):=by unfold lw;rw[iW];rfl
   refine⟨_,ny (G<|H r) (G<|H a)<|b.map LB,z,⟨265,_,z,enters_of func265 aH z,?_⟩,e,?_⟩
   .rw[<-D];refine Sl bc N (G<|H r) (G<|H a) (b.map LB) wr dW ⟨aI,f,λi k=>?_,aR L e.size,HF,⟨U,L⟩,U,λi k m q=>?_,λi bf k hj A m q=>?_⟩
    .have l:i<y b:=dV k;have c:=hg i l;have t:=K.bM (V:=bc) (n0:=N) (S:=b[i].2.2) L (λm q=>⟨(c.aZ.bZ m q).2,λv=>v⟩) cY;rw[mw];exact⟨λ_=>c.bM t,c.aZ.bM t,λv=>by cases v⟩
    .have l:i<y b:=dV k;rw[mw]at q;have:=((hg i l).aZ.bZ m q).2;grind
    .rw[mw]at q|-;exact al i bf (dV k) (dV hj) A m q
   .rintro m(v|v|⟨i,k,v⟩)
    .grind
    .grind
    .rw[mw]at v;exact J ⟨i,dV k,v⟩
def nA(V:jv)(f:R)(j:ae)(h:dB)(w:Z):Prop:=∃t v i b,j=.iface t v/\(∀w,(Go.method 577 t v "From").run bN w=.ok (i,b) w)/\Enters bN i/\∀e c,la V f aC w c->V.D c->cR bN i #[b,aw e] c λl a=>∃g d,l=aN g/\kA V f g (iY e h) d a/\V.D a/\I V.F c a/\(∀k,d k->G (H c)<=k)
def Zm:(prog.info? 288).map (λi=>(i.zero,i.size,i.bytes))=M (M .nilFunc,1,8):=aH
def El(w:Z)(v:ae)(t:TypeId):∀j u,[v][j]?=M u->bA (dw w<|aK #[v] t) (((X (G<|H w) 0):Addr).add j)=M u:=by
 intro j u a;rw[dS];simp_all
def Y0(h:d.oneCell'=cz):∀u∈[d],u.oneCell'=cz:=by
 grind
structure Dj(V:jv)(n0:R)(w0 w:Z)(lo:af)(m8:cy (ae×dB))(o:ae)(j5:cy (ae×dB×fC)):Prop where
 aZ:fE w (G<|H w0) 288 1 o (y j5) (j5.map (·.1))
 L:∀i(hi:i<y j5),kA V n0 j5[i].1 j5[i].2.1 j5[i].2.2 w
 l:j5.map (·.2.1)=(m8.take<|y j5).map (λr=>iY lo r.2)
 S:∀i j(hi:i<y j5)(hj:j<y j5),i≠j->∀k,j5[i].2.2 k->¬j5[j].2.2 k
 fq:∀i(hi:i<y j5)k,j5[i].2.2 k->G (H w0)<=k/\cN o≠M k
 f:V.D w
 aA:I V.F w0 w
def Dj.t{u:Z}{m8:cy (ae×dB)}{i:cy (ae×dB×fC)}{p:ae}(h:Dj s b a e B m8 d i)(o:y i<y m8)(hn:b<=G (H a))(hF:∀k,s.F k->k<b)(L:I s.F e P)(A:kA s b p (iY B m8[y i].2) W P)(hD:s.D P)(x:∀k,W k->G (H e)<=k){V:Obj}(Q:fo (dw P V) u d w)(O:fE u (G<|H a) 288 1 w (y i+1) (i.map (·.1)++[p])):Dj s b a u B m8 w (i++[(p,iY B m8[y i].2,W)]):=by
 have K:=h.aA.D;have F:∀k,cN d=M k->G (H a)<=k/\k<G (H e):=λk c=>h.aZ.lt k c;have C:∀k,b<=k->¬s.F k:=aI;have j:I (λk=>cN d=M k) P u:=(((I.bI (λk=>cN d=M k) P).aE V).aj (I.eF (S:=λk=>cN d=M k) Q.dF<|λk c=>J c)<|λk c=>J c);have N:I (λk=>s.F k\/cN d=M k) e u:=(L.aT (T:=λk=>s.F k\/cN d=M k) aI).aj j aI;have g:∀l(q:l<y (i++[(p,iY B m8[y i].2,W)])),(∃f:l<y i,(i++[(p,iY B m8[y i].2,W)])[l]=i[l])\/(l=y i/\(i++[(p,iY B m8[y i].2,W)])[l]=(p,iY B m8[y i].2,W)):=by grind
 have E:∀k,(k<G (H P)/\cN d≠M k)->cN w≠M k:=by rintro k⟨v,h2⟩m;obtain r|⟨ab,r,n⟩:=Q.f;(grind);rw[r]at m;cases m;simp at n;omega
 have t:∀k,W k->k<G (H P):=λk c=>(A.aZ.bZ k c).2;refine⟨aI,λl q=>?_,?_,λl aa q hj D k c=>?_,λl q k c=>?_,?_,?_⟩;obtain⟨f,m⟩|⟨_,m⟩:=g l q;(rw[m];have n:=h.L l f;refine n.bM<|N.bM (aR hn K) (λk c=>⟨(n.aZ.bZ k c).2,?_⟩)<|λk c o=>?_;rintro(r|r);exact C k (n.aZ.bZ k c).1 r;exact(h.fq l f k c).2 r;grind);rw[m];refine A.bM<|j.bM A.aZ.D (λk c=>⟨t k c,λr=>?_⟩)<|λk c o=>?_;have:=x k c;have:=(F k r).2;omega;grind
 rw[bz,h.l];simp only[bO,gB,ai,bK,eE,ez];rw[aG o,bz];rfl;obtain⟨f,m⟩|⟨ei,m⟩:=g l q<;>obtain⟨n,v⟩|⟨ej,v⟩:=g aa hj;rw[m]at c;rw[v];exact h.S l aa f n D k c;rw[m]at c;rw[v];intro r;have:=x k r;have:=((h.L l f).aZ.bZ k c).2;omega;rw[m]at c;rw[v];intro r;have:=x k c;have:=((h.L aa n).aZ.bZ k r).2;omega;omega;obtain⟨f,m⟩|⟨_,m⟩:=g l q;rw[m]at c;have:=((h.L l f).aZ.bZ k c).2;have:=L.D;exact⟨(h.fq l f k c).1,E k ⟨U,(h.fq l f k c).2⟩⟩;rw[m]at c;have:=x k c;grind
 exact s.l hD j aI;exact(h.aA.aj L<|λk c=>J c).aj j aI
def nA.bM{V:jv}{n0:R}(h:nA V n0 d i a)(m:la V n0 aC a e):nA V n0 d i e:=by
 let⟨t,v,p,b,c,f,g,j⟩:=h;exact⟨t,v,p,b,c,f,g,λn o k l=>j n o (m.aj k) l⟩
def DJ(p:R)(m8:cy (ae×dB))(lv:ae)(v:af)(hr:Row a 1 lv (y m8) (m8.map (·.1)))(ax:∀l,cN lv=M l->l<G (H a)/\¬s.F l)(hn:y m8<=40000000000)(hR:∀aa(C:aa<y m8),nA s p m8[aa].1 m8[aa].2 a)(hD:s.D a)(Q:p<=G (H a))(hF:∀l,s.F l->l<p):cR bN 148 #[lv,aw v] a λbb w'=>∃v' S',bb=aN v'/\kA s p v' (eL<|(m8.map (·.2)).map<|iY v) S' w'/\s.D w'/\I s.F a w'/\(∀l,S' l->G (H a)<=l):=by
 let⟨i0,N,T,V,W⟩:=cZ Zm;let⟨bh,ba,aU⟩:=cG hr;subst aU;go_in
 go_wp2_with(at_make;refine kg _ z _ _ 355 z (G<|H a) 288 i0 .nilFunc 1 underlying355 N T V _ _ _ (y m8) z z z (by rw[W];omega) (by unfold maxLen;omega) (aq _) ?_;intro w1 t r;have w:=ak t;have q:=ak r;clear t r)
 have ap:Dj s p a w1 v m8 (bX (G<|H a) 0 0<|y m8) []:=by have c:I s.F a w1:=I.eF q ar;exact⟨w,λaa C=>by simp at C,ar,ar,λaa C=>by simp at C,s.l hD (I.eF (S:=aC) q ar) cY,c⟩
 go_loopw [5,13] (λo aa wr=>∃(aV:R)(b:cy (ae×dB×fC)),aV<=y m8/\aa=ay aV/\y b=aV/\Dj s p a wr v m8 o b) (λ_ aa _=>y m8-(intOf aa).toNat)
 exact⟨0,[],bQ _,z,z,ap⟩
 .obtain⟨aV,b,bd,rfl,rfl,c⟩:=hrel;let⟨ox,oc,ho⟩:=aM c.aZ;by_cases n:y b<y m8
  .let⟨bk,bl,bc,bg,P,hm,he,g⟩:=hR (y b) n;have:∀b a,(callFunc bc b).run bN a=.ok (.enter bc b) a:=he;have k:la s p aC a wr:=c.aA.bM Q cY<|λl B _=>B;have hc:=g v wr k c.f;let⟨bq,d,hx⟩:∃bq d,bh=M (X bq d):=by
    obtain⟨h1,⟨A,h0⟩|⟨bi,ab,E,A,aD,hc⟩⟩:=hr
    .omega
    grind
   have:bA wr (X bq<|d+y b)=M (.iface bk bl):=by
    obtain⟨h1,⟨A,_⟩|⟨bi,ab,E,A,aD,av⟩⟩:=hr
    .rw[hx]at A;cases A
    .rw[hx]at A;cases A;have hb:=ax bq (by rw[hx];rfl);refine c.aA.u (av (y b) _ ?_) hb.2 hb.1;rw[fP,bF n];simp[P]
   subst hx;subst ho;clear g k P he;go_wp2_with(first
    |(go_at_fn bc;refine hc.mono ?_;rintro bb w2⟨v1,S1,rfl,m,K,o,f⟩;obtain⟨F,e,rfl,L,O⟩:=m;have D:=ak<|show kA s p (.func (.func F) #[] e) (iY v m8[y b].2) S1 w2 from⟨F,e,z,L,O⟩;have i:=bC (o.aZ c.aZ<|λl B hf=>gW (hF l hf)<|(c.aZ.lt l B).1)<|.cells #[.func (.func F) #[] e] 288;have al:=ak i;have ac:=ak K;have an:=ak o;have x:=ak f;have:=o.D;have bf:=c.aA.D;clear K o f O i L)
    |(at_builtin;refine cq _ z (.tmp 17) (.tmp 21) 355 z (G (H a)) 288 i0 .nilFunc 1 8 underlying355 N T V W z cg (.slice ox (y b) oc) (y b) (b.map (λ(bh:ae×dB×fC)=>bh.1)) z al (X (G (H w2)) 0) 1 1 [.func (.func F) #[] e] z z (El _ _ _) (Y0 z) U U dW ?_;intro o2 w3 j u;have ad:=ak j;have ao:=ak u;clear j u))
   go_roundw
   .refine⟨y b+1,b++[(.func (.func F) #[] e,iY v m8[y b].2,S1)],n,dM,ar,?_⟩;exact c.t n Q hF an D ac x ao ad
   .simp[intOf];omega
  .have g:y b=y m8:=U;subst ho;have A:=ak c;have:=c.aA.D;have j:Row wr 1 (am ox (y b) oc) (y b) (b.map (·.1)):=dQ c.aZ;have d:∀l,cN (am ox (y b) oc)=M l->l<G (H wr):=λl B=>(c.aZ.lt l B).2;have u:=VF s p b j d U c.L c.S U hF;have e:b.map (·.2.1)=(m8.map (·.2)).map (iY v):=by rw[c.l,g,cQ,iW];rfl
   clear c j d g;go_wp2_with(go_at_call 215;refine u.mono ?_;rintro bb w2⟨v1,S1,rfl,m,i,f⟩;have D:=ak m;have o:=ak i;have x:=ak f;clear m i f)
   go_ret;have c:=ag A;have k:I aC wr w2:=I.p<|ag o;refine⟨v1,S1,z,?_,s.l c.f k cY,c.aA.t k,λl B=>?_⟩
   .rwa[<-e]
   .obtain⟨aa,C,E⟩|E:=x l B
    .exact(c.fq aa C l E).1
    .omega
def zag(e:R)(m8:cy (ae×dB))(w:af)(C:Y)(hr:Row a 1 d (y m8) (m8.map (·.1)))(ao:∀k,cN d=M k->k<G (H a)/\¬s.F k)(hn:y m8<=40000000000)(hR:∀ac(hi:ac<y m8),nA s e m8[ac].1 m8[ac].2 a)(hD:s.D a)(j:e<=G (H a))(hF:∀k,s.F k->k<e):cR bN 231 #[d,aw w,bw C] a λA b=>∃n m,A=aN n/\kA s e n (sj ⟨#[]⟩<|(eL<|(m8.map (·.2)).map<|iY w).filter<|λA=>decide<|A.f<=C) m b/\s.D b/\I s.F a b/\(∀k,m k->G (H a)<=k):=by
 let⟨W,q⟩:∃W,dw (dw a<|aK #[bw C] 104) (aK #[aw ⟨#[]⟩] 9)=W:=⟨_,rfl⟩;have B:I aC a W:=q▸(cI _ a).aE _;have:G (H W)=G (H a)+2:=by rw[<-q];simp
 have V:=DJ e m8 d w (B.bV hr aI) aI hn (λac hi=>(hR ac hi).bM<|B.bM j cY cY) (s.l hD B cY) U hF;have t:∀k,e<=k->¬s.F k:=aI;have i:∀(b:Z)(n:ae)(m:fC),kA s e n (eL<|(m8.map (·.2)).map<|iY w) m b->I s.F W b->(∀k,m k->G (H W)<=k)->cR bN 269 #[n,.func (.func 271) #[] #[aJ<|G<|H a,aJ<|G (H a)+1]] b λA l=>∃f c,A=aN f/\kA s e f (sj ⟨#[]⟩<|(eL<|(m8.map (·.2)).map<|iY w).filter<|λA=>decide<|A.f<=C) c l/\gD (G<|H b) b l/\(∀k,c k->G (H a)<=k):=by intro b n m hg v hS;have b1:fF b (G<|H a) (bw C) 104:=(v.A _ U<|t _ j).trans (by rw[<-q];grind[fF.aE,aQ]);have b2:fF b (G (H a)+1) (aw ⟨#[]⟩) 9:=(v.A _ U<|t _ U).trans<|q▸aQ _ ar;refine(Oy (atK s e (G<|H a) (G (H a)+1) C) ⟨#[]⟩ hg ⟨b1,b2,U,j,U⟩<|λk g D=>?_).mono ?_;have:=hS k g;obtain D|D:=D<;>omega;rintro A l⟨f,c,h1,h2,h3,h4⟩;refine⟨f,c,h1,?_,h3,λk g=>?_⟩;rwa[<-N9];obtain D|(D|D)|D:=h4 k g;have:=hS k D;omega;omega;omega;grind
 let⟨K,HT,HD⟩:=eU i B<|λx(t:I s.F W x)(h:s.D x)(a:Z)(C:gD (G<|H x) x a)=>s.l h (I.p (S:=aC) C) cY;let⟨av,ad,ab⟩:=cG hr;subst q;subst ab;go_in
 go_wp2_with(first
  |(go_at_call 148;refine V.mono ?_;rintro A w2⟨v1,S1,rfl,r,N,u,O⟩;have i:=K w2 v1 S1 r u O;have E:=ak N;have p:=ak u;obtain⟨f1,al,rfl,an,ap⟩:=r)
  |(go_at_call 269;refine i.mono ?_;rintro A x⟨v2,S2,rfl,aa,Q,P⟩;have F:=ak aa;have o:=ak Q;have L:=ak P))
 go_ret;exact⟨v2,S2,z,F,HD _ p E _ o,(((HT.aT cY).aj p<|λk g=>J g)).aj (I.p (S:=s.F) o)<|λk g=>J g,L⟩
def iC(W:Z)(l:R)(o:Obj):I (λk=>k=l) W (W.putObj l o):=I.eF (grownBy_putObj' W l o) aI
def Un{α:Type}(e:α->Array ae)(V:jv)(h p l:R)(m:Array ae)(o:cy α->Z->Prop)(j:cy α->Prop)(S n:fC)(w:Z):Prop:=∀(g:R)(d:cy α->fC->Z->Prop)(f:cy α->Z->Prop)(B:fC)(W:Z),la V h S w W->V.D W->d [] B W->(∀k,S k->¬B k)->(∀a B W,d a B W->∀k,B k->h<=k/\k<G (H W))->(∀a B W b T,d a B W->I T W b->(∀k,T k->¬B k/\n k)->d a B b)->(∀a x B W,o (a++[x]) W->d a B W->V.D W->YieldAt Fence.wide (p-1) bN g (e x) W λi b=>
 (i=aN (aO cz)/\V.D b/\∃c,d (a++[x]) c b/\I B W b/\(∀k,c k->B k\/G (H W)<=k))\/(i=aN (aO bD)/\f (a++[x]) b))->
 CallsIn Fence.wide p bN l (#[.func (.yield g) #[] #[]]++m) W λi b=>(∃v,i=aN v)/\((∃k c,j k/\d k c b/\V.D b)\/(∃a,f a b))
def Qx{α:Type}(e:α->Array ae)(V:jv)(h n j:R)(l:Array ae)(m:cy α)(S:fC)(w:Z):Prop:=∀(g:R)(d:cy α->fC->Z->Prop)(f:cy α->Z->Prop)(B:fC)(W:Z),la V h S w W->V.D W->d [] B W->(∀k,S k->¬B k)->(∀a B W,d a B W->∀k,B k->h<=k/\k<G (H W))->(∀a B W b T,d a B W->I T W b->(∀k,T k->¬B k/\(S k\/V.F k\/G (H w)<=k))->d a B b)->(∀a x B W,(a++[x])<+:m->d a B W->V.D W->YieldAt Fence.wide (n-1) bN g (e x) W λi b=>
 (i=aN (aO cz)/\V.D b/\∃c,d (a++[x]) c b/\I B W b/\(∀k,c k->B k\/G (H W)<=k))\/(i=aN (aO bD)/\f (a++[x]) b))->
 CallsIn Fence.wide n bN j (#[.func (.yield g) #[] #[]]++l) W λi b=>(∃v,i=aN v)/\((∃c,d m c b/\V.D b)\/(∃a,f a b))
def Qx.q{α:Type}{a:α->Array ae}{d:Array ae}{l:cy α}{S:fC}{w:Z}(h:Qx a s c k n d l S w):Un a s c k n d (λu _=>u<+:l) (·=l) S (λt=>S t\/s.F t\/G (H w)<=t) w:=by
 intro v x e B W f g j m o q r;apply(h v x e B W f g j m o q r).mono;grind
abbrev T6{α:Type}(a:α->Array ae)(V:jv)(e m:R)(c:R)(d:Array ae)(f:cy α->Z->Prop)(b:cy α->Prop)(S:fC)(w:Z):Prop:=Un a V e m c d f b S (λk=>S k\/V.F k\/G (H w)<=k) w
def DM{α:Type}(V:jv)(g:cy α->fC->Z->Prop)(f:Code->cy α->fC->Z->Prop)(e:cy α)(B:fC)(W d:Z)(b:R):Exit->Act->Z->Prop
 | .normal,_,a=>V.D a/\∃c,g e c a/\I (λk=>B k\/k=b) W a/\a.heap[b]?=d.heap[b]?/\(∀k,c k->B k\/G (H W)<=k)
 | .ret,_,a=>∃c,f .ret e c a/\I (λk=>B k\/k=b) W a/\a.heap[b]?=d.heap[b]?/\(∀k,c k->B k\/G (H W)<=k)
 | .exit id,_,a=>∃c,f (.exit id) e c a/\I (λk=>B k\/k=b) W a/\a.heap[b]?=d.heap[b]?/\(∀k,c k->B k\/G (H W)<=k)
 | .goto _,_,_=>False
 | .panic _,_,_=>False
 | .outgrown,_,_=>False
abbrev Tu{α:Type}(h:α->Array ae)(n:R)(t:Operand)(m:Array Tmp)(c body:Code)(Q:Exit->Act->Z->Prop)(a:Act)(w:Z)(V:jv)(q:R)(s:cy α->Z->Prop)(S r:fC)(i:cy α->fC->Z->Prop)(f:Code->cy α->fC->Z->Prop)(B:fC)(o:Prop):Prop:=(i [] B w)->(∀k,S k->¬B k)->(∀b B W,i b B W->∀k,B k->q<=k/\k<G (H W))->(∀b B W e T,i b B W->I T W e->(∀k,T k->¬B k/\r k)->i b B e)->(∀l b B W e T,f l b B W->I T W e->(∀k,T k->¬B k/\G (H w)<=k/\∃L,W.heap[k]?=M (.loop L))->f l b B e)->(∀d b x B W,G (H w)<=d->¬B d->(d<G (H W)/\∃L,W.heap[d]?=M (.loop L))->s (b++[x]) W->i b B W->V.D W->c.wpIn (Fence.wide.inRound d) (n-1-1) bN (Exit.then (λp j=>I aC W j/\∀g,I (λk=>k=d) j g->body.wpIn (Fence.wide.inRound d) (n-1-1) bN (DM V i f (b++[x]) B W g d) p g) (λ_ _ _=>False)) {tmps:=(m.zip<|h x).foldl (λv(u,A)=>v.setIfInBounds u A) a.tmps,defers:=[]} W)->o->(∀(D:R)(l:Code)(b:cy α)(B:fC)(W:Z),G (H w)<=D->f l b B W->¬B D->W.heap[D]?=M (.deferred<|M [])->l.wpIn Fence.wide n bN Q {a with defers:={target:=.collected D,args:=#[]}::a.defers} W)->(Code.rangeFunc t m c body).wpIn Fence.wide n bN Q a w
def tK{α:Type}{arg:α->Array ae}{m:R}{bk:Operand}{ps:Array Tmp}{assign body:Code}{bi:Exit->Act->Z->Prop}{a:Act}{V:jv}{n0 gf:R}{lb:Array ae}{pp:cy α->Z->Prop}{ff:cy α->Prop}{S n9:fC}(hU:∀l,G (H e)<=l->n9 l)(hg:a.eval bk=.func (.func gf) #[] lb)(eg:Enters bN gf)(aU:∀bb,(arg bb).size=ps.size)(QF:Un arg V n0 (m-1) gf lb pp ff S n9 e)(hD:V.D e)(aD:n0<=G (H e))(ba:∀l,S l->l<G (H e))(bg:cy α->fC->Z->Prop)(Ix:Code->cy α->fC->Z->Prop)(ad:fC):Tu arg m bk ps assign body bi a e V n0 pp S n9 bg Ix ad (∀(bf:cy α)(bc:R)(ad:fC)(W:Z),ff bf->G (H e)<=bc->bg bf ad W->¬ad bc->V.D W->W.heap[bc]?=M (.deferred<|M [])->bi .normal {a with defers:={target:=.collected bc,args:=#[]}::a.defers} W):=by
 intro h0 bh N ac E K L O;apply wpIn_rangeFunc;intro fn av;let⟨b,f⟩:∃b:LoopState->Option Code->Loop,b=λc d=>{state:=c,pending:=d,fn,tmps:=a.tmps,params:=ps,assign,body,defers:=G (H e)}:=⟨_,rfl⟩;let⟨B,C⟩:∃B,dw (dw e<|.deferred<|M []) (.loop<|b .ready dE)=B:=⟨_,rfl⟩;have ap:B.heap[G (H e)+1]?=M (.loop<|b .ready dE):=by rw[<-C];exact aQ _ ar
 have ao:B.heap[G<|H e]?=M (.deferred<|M []):=by rw[<-C];grind[gy,aQ]
 have Q:I aC e B:=C▸(cI _ e).aE _;refine⟨G (H e)+1,[{target:=.collected<|G<|H e,args:=#[]}],B,{target:=.fn (.func gf) lb,args:=#[.func (.yield<|G (H e)+1) #[] #[]]},B,gf,#[.func (.yield<|e.heap.size+1) #[] #[]]++lb,B,?_,?_,?_,?_,(λA=>(by cases A)),?_⟩;rw[<-C,f];exact run_enterLoop_outer _ _ _ _ _;(.simp only[resolve,hg];simp[go_sem]);intro c _;trivial;(.have:=eg;unfold Enters at this;simp[invoke,go_sem,this])
 .refine(QF (G (H e)+1) (λk ad W=>∃j,(∀l,ad l↔j l\/l=G (H e)\/l=G (H e)+1)/\bg k j W/\¬j (G<|H e)/\¬j (G (H e)+1)/\W.heap[G (H e)+1]?=M (.loop<|b .ready dE)/\W.heap[G<|H e]?=M (.deferred<|M [])) (λk W=>∃A j,Ix A k j W/\¬j (G<|H e)/\¬j (G (H e)+1)/\W.heap[G (H e)+1]?=M (.loop<|b .done<|M A)/\W.heap[G<|H e]?=M (.deferred<|M [])) (λl=>ad l\/l=G (H e)\/l=G (H e)+1) B (Q.bM aD aI cY) (V.l hD Q cY) ⟨ad,λl=>tq,ac _ _ _ _ _ h0 Q cY,λA=>bP<|(N _ _ _ h0 _ A).2,λA=>bP<|(N _ _ _ h0 _ A).2,ap,ao⟩ ?_ ?_ ?_ ?_).mono ?_
  .grind
  .rintro k B' W⟨j,hB,hi,_,_,p,r⟩l u;obtain A|A|A:=(hB l).1 u
   .exact N _ _ _ hi l A
   .grind
   grind
  .rintro k B' W g T⟨j,hB,hi,n1,n2,p,r⟩c i;exact⟨j,hB,aI,n1,n2,(c.A _ (az p) aI).trans p,(c.A _ (az r) aI).trans r⟩
  .rintro k bb B' W ab⟨j,hB,hi,n1,n2,p,r⟩an;have hy:=run_yield (P:=bN) (args:=(arg bb)) p<|f▸aU bb;rw[f]at hy;refine⟨fn,_,assign,body,hy,roundIn_of_wpIn av<|wpIn_mono (K (G (H e)+1) k bb j W U n2 ⟨az p,_,p⟩ ab hi an) ?_⟩;intro bd a1 Wa D;cases bd with
   |normal=>
    let⟨aV,D⟩:=D;have aa:Wa.heap[G (H e)+1]?=M (.loop<|b .ready dE):=(aV.A _ (az p)<|λA=>A).trans p;refine⟨_,run_beginRound aa (by rw[f]),?_⟩;have ax:(Wa.putObj (G (H e)+1)<|.loop {b .ready dE with state:=.busy}).heap[G (H e)+1]?=M (.loop {b .ready dE with state:=.busy}):=World.putObj_heap_same<|az aa;apply wpIn_mono<|D _<|iC _ _ _;have F:∀(c:Option Code)(i:Z),i.heap[G (H e)+1]?=(Wa.putObj (G (H e)+1)<|.loop {b .ready dE with state:=.busy}).heap[G (H e)+1]?->(Instr.endRound (G (H e)+1) c).run bN i=.ok (aO c.isNone) (i.putObj (G (H e)+1)<|.loop<|b (if c.isNone then .ready else .done) c)/\(i.putObj (G (H e)+1)<|.loop<|b (if c.isNone then .ready else .done) c).heap[G (H e)+1]?=M (.loop<|b (if c.isNone then .ready else .done) c):=λc i h3=>by
     have:=run_endRound (P:=bN) c<|h3.trans ax;rw[f]at this|-;grind[World.putObj_heap_same,az]
    have o:∀i,I (λl=>j l\/l=G (H e)+1) W i->i.heap[G<|H e]?=M (.deferred<|M []):=λi g=>(g.A _ (az r) aI).trans r;have w:∀(n:fC),(∀l,n l->j l\/G (H W)<=l)->¬n (G<|H e)/\¬n (G (H e)+1):=aI;rintro bd a3 i q;cases bd with
    |normal=>
     let⟨c,n,t,g,x,s⟩:=q;let⟨hr,v⟩:=F dE i x;let⟨q1,q2⟩:=w n s;have d:=iC i (G (H e)+1)<|.loop<|b (if(dE:Option Code).isNone then .ready else .done) dE;refine⟨_,_,hr,.inl ⟨z,V.l c d<|λl u hf=>?_,λl=>n l\/l=G (H e)\/l=G (H e)+1,⟨n,λl=>tq,ac _ _ _ _ _ t d<|λl u=>aI,q1,q2,v,?_⟩,?_,?_⟩⟩
     .have:=V.lt hD hf;omega
     .exact(d.A _ (az<|o i g)<|λA=>U).trans<|o i g
     .refine(g.aj d ar).aT<|λl u=>.inl<|(hB l).2 ?_;grind
     grind
    |ret=>
     let⟨n,t,g,x,s⟩:=q;let⟨hr,v⟩:=F (M .ret) i x;let⟨q1,q2⟩:=w n s;have d:=iC i (G (H e)+1)<|.loop<|b (if(M Code.ret:Option Code).isNone then .ready else .done)<|M .ret;exact⟨_,_,hr,.inr ⟨z,.ret,n,E _ _ _ _ _ _ t d aI,q1,q2,v,(d.A _ (az<|o i g)<|λA=>U).trans<|o i g⟩⟩
    |exit id=>
     let⟨n,t,g,x,s⟩:=q;let⟨hr,v⟩:=F (M<|.exit id) i x;let⟨q1,q2⟩:=w n s;have d:=iC i (G (H e)+1)<|.loop<|b (if(M (Code.exit id):Option Code).isNone then .ready else .done)<|M<|.exit id;exact⟨_,_,hr,.inr ⟨z,.exit id,n,E _ _ _ _ _ _ t d aI,q1,q2,v,(d.A _ (az<|o i g)<|λA=>U).trans<|o i g⟩⟩
    |goto bl=>exact q.elim
    |panic ch=>exact q.elim
    |outgrown=>exact q.elim
   |exit id=>exact D.elim
   |goto bl=>exact D.elim
   |ret=>exact D.elim
   |panic al=>exact D.elim
   |outgrown=>exact D.elim
  .rintro bd i⟨⟨v,rfl⟩,(⟨bf,B',g,⟨j,hB,hi,n1,n2,p,r⟩,c⟩|⟨k,A,j,hi,n1,n2,p,r⟩)⟩
   .have d:=λo=>iC i (G (H e)+1) o;exact⟨dE,_,by have:=run_endLoop (P:=bN) p (by rw[f];simp);rwa[f]at this,L bf _ j _ g (aq _) aI n1 (V.l c (d _)<|λl u hf=>bP<|V.lt hD hf)<|(d _).A _ (az r) (λA=>U)|>.trans r⟩
   .have d:=λo=>iC i (G (H e)+1) o;exact⟨M A,_,by have:=run_endLoop (P:=bN) p (by rw[f];simp);rwa[f]at this,O _ A k j _ (aq _) aI n1<|(d _).A _ (az r) (λA=>U)|>.trans r⟩
def tL{α:Type}{arg:α->Array ae}{m:R}{A:Operand}{r:Array Tmp}{b body:Code}{Q:Exit->Act->Z->Prop}{a:Act}{V:jv}{n0 gf:R}{lb:Array ae}{l:cy α}{S:fC}(w:a.eval A=.func (.func gf) #[] lb)(t:Enters bN gf)(n:∀C,(arg C).size=r.size)(QF:Qx arg V n0 (m-1) gf lb l S e)(v:V.D e)(k:n0<=G (H e))(f:∀p,S p->p<G (H e))(s:cy α->fC->Z->Prop)(q:Code->cy α->fC->Z->Prop)(B:fC):Tu arg m A r b body Q a e V n0 (λx _=>x<+:l) S (λp=>S p\/V.F p\/G (H e)<=p) s q B (∀(D:R)(B:fC)(W:Z),G (H e)<=D->s l B W->¬B D->V.D W->W.heap[D]?=M (.deferred<|M [])->Q .normal {a with defers:={target:=.collected D,args:=#[]}::a.defers} W):=λu h j o g c i d=>tK aI w t n QF.q v k f s q B u h j o g c aI d
abbrev MH:E⊕R->Array ae
 | .inl x=>#[x.t,ic]
 | .inr q=>#[yu,eW q]
def upX(V:jv)(l:dB)(b:cy (E⊕R))(W:Z):Prop:=(∃a:dB,b=a.map .inl/\a<+:l)\/∃(a:dB)(q:R),b=a.map .inl++[.inr q]/\V.Xp/\tD W q
def zam(l:dB)(b:cy (E⊕R)):Prop:=b=l.map .inl\/∃(a:cy (E⊕R))(q:R),b=a++[.inr q]
section
open Shelf
def Ke(cl:R)(O:Array ae)(hb:fF a c (.func (.func k) #[] O) 288)(he:Enters bN k)(hr:Dq s b k O i W a)(bt:b<=c)(bT:¬W c):T6 MH s b cl 264 #[aJ c] (upX s i) (zam i) (λe=>W e\/e=c) a:=by
 intro lr ck Jx cj ce hs hD hJ aD bb A hY;have:∀b a,(callFunc k b).run bN a=.ok (.enter k b) a:=he;have bs:fF ce c (.func (.func k) #[] O) 288:=hb.bM hs<|.inr z;have ca:Dq s b k O i W ce:=hr.bM<|hs.aT<|λ_ f=>.inl f;have bf:=hs.1;refine th func264 z trivial ?_ z;simp only[ntmps264,gp,bK,eE,ke,Nat.reduceSub,fh,fc,gq,fH,ep,dt];gi_wp2;gi_loopg [3] (y i+1) (λd _ wr=>∃g m S' l,i=g++m/\y m<d/\Dq s b k O m S' wr/\fF wr c (.func (.func k) #[] O) 288/\s.D wr/\ck (g.map .inl) l wr/\(∀e,S' e->¬l e)/\¬l c/\¬S' c/\(∀e,S' e->W e\/G (H a)<=e)/\G (H a)<=G (H wr))
 exact⟨[],i,W,cj,z,U,ca,bs,hD,hJ,λe f=>aD e<|.inl f,aD c<|.inr z,bT,λe f=>.inl f,bf⟩;(.let⟨g,m,S',l,hl,bv,D,ba,bo,ab,B,bn,br,bq,cc⟩:=hrel;have:=ba.u;have C:=D.aZ;have bc:∀e,b<=e->¬s.F e:=λe f a=>bP<|C.f e a;have hc:=D.uh bo;have HT:=ak<|λj(a:I (λe=>S' e\/s.F e) wr j)=>A (g.map .inl) l wr j _ ab a<|λe f=>⟨λu=>f.elim (λw=>B e w u)<|λw=>bc e (bb _ _ _ ab e u).1 w,aI⟩;let⟨bk,F,bh,an,al,ao,HL,cb⟩:=Zt bq ba ab B bn br hl C;(gi_wp2_with fail);refine⟨trivial,(λu=>(by cases u)),?_⟩;refine(ew.2 hc).mono ?_;rintro ch j⟨bd,P,x⟩;obtain⟨ev,rfl,⟨bx,rfl⟩|⟨hX,q,rfl,hq⟩⟩|⟨⟨o,p,n,d⟩,cd,S1,bL,rfl,bp,r⟩:=bd;(.subst bx;let⟨t,N⟩:=And.intro (ak P) (ak<|HT j x);unfold bE yu;gi_wp2;refine⟨λ_ h=>(by cases h),?_⟩;gi_wp2;refine ci (jc z _ _ _) z ?_;refine⟨⟨_,z⟩,.inl ⟨_,l,.inl z,?_,s.l t (cI aC j) cY⟩⟩;have hl:=ag HL;rw[eu]at hl;rw[hl];exact A _ l j _ _ N (cI aC j) cY);(.have V:=A _ l j _ _ (HT j x) ((I.bI aC j).aE<|aK #[aw ⟨#[]⟩,aw ⟨#[]⟩,aO bD,bw 0] 223) cY;have Q:=s.l P ((I.bI aC j).aE<|aK #[aw ⟨#[]⟩,aw ⟨#[]⟩,aO bD,bw 0] 223) cY;let⟨fn,bg,v,body,hy,hR⟩:=hY (g.map .inl) (.inr q) l _ (.inr ⟨g,q,rfl,hX,hq.aA (cI aC j) cY⟩) V Q;unfold MH yu at hy;simp only at hy;unfold bE yu;(gi_wp2_with fail);refine⟨(λu=>(by cases u)),hR.mono ?_⟩;rintro ch W3(⟨rfl,S,B3,aa,aU,av⟩|⟨rfl,hx⟩);(.let⟨K,L⟩:=And.intro (ak S) (ak aa);gi_wp2;exact ci (jc z _ _ _) z ⟨⟨_,z⟩,.inl ⟨_,B3,.inr ⟨_,q,z⟩,L,K⟩⟩);have HX:=ak hx;gi_wp2;exact ci (jc z _ _ _) z ⟨⟨_,z⟩,.inr ⟨_,HX⟩⟩);(.subst bL;have ac:I aC j (dw j<|aK #[aw o,aw p,aO n,bw d] 223):=cI _ _;have V:=A _ l j _ _ (HT j x) ac cY;have Q:=s.l P ac cY;let⟨fn,bg,v,body,hy,hR⟩:=hY (g.map .inl) (.inl ⟨o,p,n,d⟩) l _ (.inl ⟨g++[⟨o,p,n,d⟩],ar,cd,by rw[ag HL];simp⟩) V Q;let⟨HR,ap,N,bi,bm⟩:=oa hR x bp r ac;unfold MH at hy;unfold E.t at hy|-;simp only at hy|-;(gi_wp2_with fail);refine⟨(λu=>(by cases u)),(ag HR).mono ?_⟩;rintro ch W3(⟨rfl,S,B3,aa,aU,av⟩|⟨rfl,hx⟩);(.obtain⟨K,L,bl,ad⟩:=js S aa aU av;gi_wp2;(gi_roundg (y cd+1));(case measure=>simpa using bv);have:=bb _ _ _ bh;have r:=ag bi;(have ax:∀e,S1 e->¬l e:=λe f u=>by obtain w|w:=N e f;exact an e w u;grind);have t:I l j W3:=(bm.aT (T:=l) cY).aj bl<|λe f=>.inl f;(have aV:fF j c (.func (.func k) #[] O) 288:=by refine(ap.A c (az F) ?_).trans F;rintro(u|u);exact ao u;exact bc _ bt u);have:=ap.D;have:=t.D;have:=az F;refine⟨g++[⟨o,p,n,d⟩],cd,S1,B3,by rw[ag HL];simp,U,r.bM<|t.bM r.aZ.D (λe f=>⟨(r.aZ.bZ e f).2,ax e f⟩) aI,(t.A c (az aV) al).trans aV,K,bz▸L,λe f u=>?_,λu=>?_,λu=>?_,λe f=>?_,U⟩;obtain w|w:=ad e u;(grind);have:=(r.aZ.bZ e f).2;simp at w;omega;obtain w|w:=ad c u;exact al w;simp at w;omega;obtain w|w:=N c u;exact ao w;omega;obtain w|w:=N e f;exact bk e w;grind);have HX:=ak hx;gi_wp2;exact ci (jc z _ _ _) z ⟨⟨_,z⟩,.inr ⟨_,HX⟩⟩))
end
def CY:jv:=⟨λ_=>True,λ_=>False,λ_ _ _=>trivial,λ_ h=>h.elim,False⟩
section
open Shelf
attribute [local go_sem] Oper.semAt_some
def Bz(v:ae)(n c:R):ae:=match v with
 | .slice (M ⟨d,a,none⟩) _ b=>.slice (M ⟨d,a+n*4,dE⟩) c<|b-n
 |v=>v
def IZ(v:ae)(p:R×dB):Array ae:=#[Bz v p.1<|y p.2]
def Da{q p g s:dB}(h:lG a d q)(f:q=p++g++s)(k:g≠[]):lG a (Bz d (y p)<|y g) g:=by
 have l:0<y g:=ja.2 k;obtain⟨u,⟨rfl,t⟩|⟨r,b,c,rfl,o,i⟩⟩:=h;have:=cD y f;grind;have n:=cD y f;simp at n;refine⟨by rw[ie],bu ⟨r,b+y p*4,c-y p,rfl,U,λj v m=>?_⟩⟩;have e:j<y g*4:=by rw[<-ie];grind
 have:=i (y p*4+j) v (by rw[f,ig,ig,cw,fQ (by rw[ie];omega),ie,show y p*4+j-y p*4=j by omega,iu (by rw[ie];exact e)];exact m);rwa[bJ]
def CQ(v:ae)(x:Option Addr)(n c:R)(a:v=am x n c)(w:Z):cR bN 142 #[v] w λe b=>e=aN (.func (.func 209) #[] #[ee<|M ⟨G<|H w,0,dE⟩])/\b=dw w (aK #[v] 103):=by
 subst a;go_in
 go_wp2;go_ret;simp_all
def VT(r:b<=c)(s:c<y i)(w:∀j(u:j+1<y i),b<=j->j<c->i[j+1].D=i[j].D)(v:∀h:c+1<y i,i[c+1].D≠i[c].D):∃g,i.drop b=g++i.drop (c+1)/\g≠[]/\y g=c+1-b/\ji (i.drop b)=g::ji (i.drop<|c+1):=by
 have p:i.drop b=(i.drop b).take (c+1-b)++i.drop (c+1):=by(conv=>lhs;rw[<-du (c+1-b) (i.drop b)]);rw[List.drop_drop,show b+(c+1-b)=c+1 by omega]
 have:∀t(d:t<=c)(a:b<=t),(i[t]'U).D=(i[b]'U).D:=by
  intro t;induction t with
  |zero=>grind
  |succ t f=>
   grind
 have d:y ((i.drop b).take<|c+1-b)=c+1-b:=by simp;omega
 have e:(i.drop b).take (c+1-b)≠[]:=λa=>by rw[a]at d;grind
 have a:∀x∈(i.drop b).take (c+1-b),x.D=(i[b]'U).D:=by grind[getElem_of_mem]
 refine⟨_,p,e,d,?_⟩;conv=>lhs;rw[p]
 rw[Pg _ _ ?_,Ze e<|λx n k o=>(a x n).trans (a k o).symm];rfl;intro q l t m;have:=a q<|List.mem_of_getLast? l;(have f:c+1<y i:=by grind);rw[dm f]at m;grind
def yD(T bn:R)(hb:fF a b d 103)(hr:lG a d i)(O:∀o,cN d=M o->o<T)(aU:T<=G (H a))(bl:y i<=40000000000):Qx (IZ d) CY T bn 209 #[ee<|M ⟨b,0,dE⟩] (pM 0<|ji i) (λo=>o=b) a:=by
 intro lr bm Jx bd ba hs hD hJ av n aV hY;let⟨bo,D,hv⟩:=cG hr;let⟨HB,HR,aa,HS,HJ,ac,HY,ab,B⟩:=Hp hb hr O hs hJ av hY n<|λc bd ba q(h:bm c bd ba)=>aV c bd ba (ba.drewN q) (λ_=>False) h (I.p<|below_drewN (Below.refl _ ba) q) cY;have bf:bA ba ⟨b,0,dE⟩=M d:=hs.u (J z) hb.u;subst hv;refine th func209 z trivial ?_ z;simp only[ntmps209,gp,bK,eE,ke,Nat.reduceSub,fh,fc,gq,fH,ep,dt];gi_wp2;gi_loopw [3,7] (λe d wr=>∃(k f:R)(c:cy (R×dB))(p:fC),e=ay k/\d=ay f/\k<=f/\f<=y i/\pM 0 (ji i)=c++pM k (ji<|i.drop k)/\(∀j(w:j<y i),k<=j->j<f->∃h:j+1<y i,i[j+1].D=i[j].D)/\bm c p wr/\(∀o,o=b->¬p o)/\la CY T (λo=>o=b) a wr) (λ_ d _=>y i-(intOf d).toNat)
 exact⟨0,0,[],bd,z,z,aq _,bQ _,z,λj _ _ h=>U,HJ,ac,HS⟩
 .obtain⟨k,f,c,p,rfl,rfl,ax,bk,hl,F,ap,l,g⟩:=hrel;have bg:bA wr ⟨b,0,dE⟩=M (am bo (y i) D):=g.u (J z) HB.u;let⟨HL,A,r,C⟩:=js hl F ap g;by_cases n:f<y i
  .let⟨bb,e,s,hx,N,v⟩:∃bb e s,am bo (y i) D=am (M ⟨bb,e,dE⟩) (y i) s/\y i<=s/\∀j a,(bj i)[j]?=M a->bA wr ⟨bb,e+j,dE⟩=M a:=by
    obtain⟨E,⟨t,L⟩|⟨V,x,u,t,N,K⟩⟩:=ag HR
    .omega
    .exact⟨V,x,u,t,N,λj a w=>g.u (bu ⟨aa V (by rw[t];rfl),id⟩)<|K j a w⟩
   cases hx;have e1:(f:Y)<(y i:Y):=U;have e2:(0:Y)<=(f:Y):=U;have g0:=v _ _ (fI i f n).1;by_cases hn:∃h:f+1<y i,i[f+1].D=i[f].D
   .let⟨m,x⟩:=hn;have K:=v _ _ (fI i (f+1) m).1;rw[x]at K;have u:=ak (show∀j(w:j<y i),k<=j->j<f+1->∃h:j+1<y i,i[j+1].D=i[j].D fromλj w E t=>by
     obtain Q|Q:=oo<|show j<=f by omega
     .exact A j w E Q
     grind)
    generalize i[f].D=L at*;have e3:(f:Y)+1<(y i:Y):=U;have e4:(0:Y)<=(f:Y)+1:=U;gi_wp2;refine Aw.2 ?_;go_quiet(fail)
    gi_wp2;go_roundw
    .exact⟨k,f+1,c,p,z,dM,U,U,HL,u,B _ _ _ _ r,l,C.aj ⟨aq _,λ_ _=>rfl⟩⟩
    .simp[intOf];omega
   .let⟨V,bh,bi,K,L⟩:=VT ax n (λj w E t=>(A j U E t).2)<|λh D=>hn ⟨h,D⟩;have P:(c++[(k,V)])<+:pM 0 (ji i):=⟨pM (k+y V)<|ji<|i.drop<|f+1,by rw[ag HL,L,pM];simp⟩;have aD:pM 0 (ji i)=(c++[(k,V)])++pM (f+1) (ji<|i.drop<|f+1):=by rw[ag HL,L,pM,K,show k+(f+1-k)=f+1 by omega];simp
    have e6:(k:Y)<=(f:Y)+1:=U;have e7:(f:Y)+1<=(D:Y):=U;have e8:¬(D-k=0):=U;have e9:(0:Y)<=(k:Y):=U;have e4:(0:Y)<=(f:Y)+1:=U;have al:=ak (λq=>show YieldAt Fence.wide (bn-1) bN lr #[am (M ⟨bb,e+k*4,dE⟩) (f+1-k)<|D-k] (wr.drewN q) _ from by
     have:=HY c (k,V) p (wr.drewN q) P (B _ _ _ q r) trivial;unfold IZ Bz at this;simp only[K]at this;exact this)
    obtain m|m:=iU (f+1)<|y i;case' inl=>
     have:=v _ _ (fI i (f+1) m).1;have:=DB<|λD=>hn ⟨m,D⟩;have e3:(f:Y)+1<(y i:Y):=U
    case' inr=>
     have:((f:Y)+1<(y i:Y))=False:=by simp;omega
    all_goals
     gi_wp2;refine Aw.2 ?_;go_quiet(fail)
     let⟨fn,bc,S,body,hy,hR⟩:=al nq;gi_wp2;refine⟨(λD=>(by cases D)),hR.mono ?_⟩;rintro bp W3(⟨rfl,_,B3,ao,u,an⟩|⟨rfl,hx⟩)
     .have W:=ak ao;have ad:=ak u;gi_wp2;go_roundw
      .have u:=ag ad;have g:=ag C;have:b<G (H wr):=au (az HB) g.1;refine⟨f+1,f+1,c++[(k,V)],B3,dM,dM,aq _,U,aD,λj _ E t=>U,W,λo x Q=>?_,?_⟩
       .obtain Q|Q:=an o Q
        .exact l o x Q
        .subst x;exact absurd (show G (H wr)<=_ from Q) U
       .refine g.aj<|la.aj (b:=wr.drewN nq) ⟨aq _,λ_ _=>rfl⟩ ?_;exact u.bM (aR aU g.1) (λo x=>⟨sO,l o x⟩)<|λo x a=>bP<|(ab _ _ _ r o x).1
      .simp[intOf];omega
     .have HX:=ak hx;gi_wp2;exact ci (jc z _ _ _) z ⟨⟨_,z⟩,bu ⟨_,HX⟩⟩
  .have:f=y i:=U;have m:k=y i:=by
    obtain Q|Q:=iU k<|y i
    .let⟨h,_⟩:=F (y i-1) U U U;omega
    .omega
   have e:=ak (show pM 0 (ji i)=c by rw[hl,m,li];simp[ji,pM]);have:((f:Y)<(y i:Y))=False:=by simp;omega
   gi_wp2;refine xW (jc z _ _ _) z ?_;first|refine⟨⟨_,z⟩,J ⟨⟨p,?_⟩,trivial⟩⟩|refine⟨⟨_,z⟩,J ⟨p,?_,trivial⟩⟩
   rwa[ag e]
end
