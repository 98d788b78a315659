import Derived.LoopIn
import Derived.LoopNIn
import Derived.RangeFuncBound
import Derived.RangeFuncLeaves
import Derived.RangeFuncNested
import Derived.Shelf.AbstractIn
import Derived.Shelf.RegionOpen
import Derived.Sort.LoopGhostIn
import Derived.TacticsInMore
import Derived.Test.YtmnlcbeggagabaaGreatDoorC5
open _root_ renaming List.length→y,Option.some→H,Array.size→z,Go.World.heap→G,Go.Value.ownBlock→cz,Go.World.cell?→aS,Go.World.setCell→cA,Go.World.alloc→cG,Bool.false→bj,Bool.true→ci,Nat→M,Int→U,List→cS,Go.Calls→cD,Go.Proofs.Tryz.prog→aZ,Go.Value.slice→J,Go.Value.string→am,Go.Value.bool→aK,Go.Value.agg→dD
namespace Go.Proofs.YtmnlcbeggagabaaGreatDoor
open ChangeShapes WideShapes RowKit Proofs.Tryz List
set_option maxHeartbeats 16000000
set_option linter.all false
set_option maxRecDepth 100000
variable{a f B:Z}{b c g m x:M}{d u P:ab}{e:cI}{l:dJ}{X:eT}{t:iL}{v:ae}{w:E}{A:iF}{W:Type}
def vy{d:cS Hd}(h:a.heap[b]?=H (.cells (dX d).toArray 361 (0,0)))(i:M)(e:i<y d):(aS a (R b<|i*7+1)=H (.string d[i].fr.key)/\aS a (R b<|i*7+1+1)=H (.string d[i].fr.val)/\aS a (R b<|i*7+1+2)=H (.bool d[i].fr.del)/\aS a (R b<|i*7+1+3)=H (.int .u64 d[i].fr.bJ)/\aS a (R b<|i*7+5)=H (.bool d[i].full)/\aS a (R b<|i*7+6)=H (.bool d[i].ended))/\∀o,a.frozen? (R b o)=bj:=by
 have c:∀j,j<7->aS a (R b<|i*7+j)=(Hd.cells d[i])[j]?:=λj f=>by rw[bV h];grind[rU]
 exact⟨⟨c 1 (by decide),by rw[bF];exact c 2 (by decide),by rw[bF];exact c 3 (by decide),by rw[bF];exact c 4 (by decide),c 5 (by decide),c 6<|by decide⟩,λo=>cZ h⟩
def JW(w:Z)(a i:M)(x:Hd):Z:=cA (cA (cA (cA (cA (cA w (R a<|i*7+1)<|.string x.fr.key) (R a<|i*7+1+1)<|.string x.fr.val) (R a<|i*7+1+2)<|.bool x.fr.del) (R a<|i*7+1+3)<|.int .u64 x.fr.bJ) (R a<|i*7+5)<|.bool x.full) (R a<|i*7+6)<|.bool x.ended
def PO(w:Z)(a i:M)(x:Hd):I (λk=>k=a) w (JW w a i x):=(((((iV a w).setCell a _ _<|.inl rfl).setCell a _ _<|.inl rfl).setCell a _ _<|.inl rfl).setCell a _ _<|.inl rfl).setCell a _ _<|.inl rfl
def SF{c:cS Hd}(h:a.heap[b]?=H (.cells (dX c).toArray 361 (0,0)))(i:M)(d:i<y c)(x:Hd)(e:x.v=c[i].v):(JW a b i x).heap[b]?=H (.cells (dX<|c.set i x).toArray 361 (0,0)):=by
 refine(aL<|aL<|aL<|aL<|aL<|aL h).trans ?_;simp only[cP];rw[<-Ip c i d x e]
def Lj{e:cS Hd}(p:jm t b a c g e)(l:M)(r:l<y e)(d:Hd)(D:Obj)(L:d.v=e[l].v)(A:I (λk=>e[l].S k\/t.F k) a f)(u:t.D f)(v:f.heap[g]?=H (.cells (dX e).toArray 361 (0,0)))(K:d.ended=bj->iT t b d.v d.l d.S f)(h:uh t b d.S f)(m:d.ended=ci->d.l=[]/\d.full=bj)(w:∀k,d.S k->e[l].S k\/z (G a)<=k)(n:d.rest=e[l].rest)(B:d.full=ci\/d.ended=ci):t.D ((JW f g l d).alloc D)/\I (λk=>lH c g e k\/t.F k) a ((JW f g l d).alloc D)/\∃E:Hd,jm t b ((JW f g l d).alloc D) c g (e.set l E)/\E.rest=e[l].rest/\(E.full=ci\/E.ended=ci)/\(∀k,E.S k->e[l].S k\/z (G a)<=k):=by
 have o:I (λk=>k=g) f ((JW f g l d).alloc D):=(PO _ _ _ _).alloc _;have q:I (λk=>(e[l].S k\/t.F k)\/k=g) a ((JW f g l d).alloc D):=(A.mono (T:=λk=>(e[l].S k\/t.F k)\/k=g)<|λk j=>.inl<|.inl j).trans o<|λk j=>.inl<|.inr j;have C:((JW f g l d).alloc D).heap[g]?=H (.cells (dX<|e.set l d).toArray 361 (0,0)):=by have:=SF v l r d L;grind[eU,ar]
 have x:∀k,d.S k->¬k=g:=λk j s=>by rcases w k j with N|N;exact(p.nS l r k N).2 s;have:=ar p.row;omega
 have i:=o.same (V:=t) (n0:=b) (S:=d.S) h.size (λk j=>⟨(h.each k j).2,x k j⟩) (λk j a=>by have:=p.own.2;omega);refine⟨t.eQ u o (λk j F=>by have:=p.aM k F;have:=p.own.2;omega),q.mono ?_,d,p.put l r d q C ⟨λs=>(K s).same i,h.same i,m⟩ w,n,B,w⟩;rintro k((s|s)|s);exact .inl<|.inl<|.inr<|.inr ⟨l,r,s⟩;grind
 exact .inl<|.inl<|.inr<|.inl s
def Ua(e:cS Hd)(k:M)(v:k<y e)(h:jm t b a c g e)(hD:t.D a):cD aZ 233 #[.pointer<|H<|R g<|k*7] a λav w'=>(av=.returned .nilIface/\t.D w'/\I (λK=>lH c g e K\/t.F K) a w'/\∃au:Hd,jm t b w' c g (e.set k au)/\au.rest=e[k].rest/\(au.full=ci\/au.ended=ci)/\(∀K,au.S K->e[k].S K\/z (G a)<=K))\/RX t a w' (λK=>lH c g e K\/t.F K) av (λaF=>aF):=by
 have j:∀d,d<7->aS a (R g<|k*7+d)=(Hd.cells e[k])[d]?:=λd f=>by rw[bV h.row];grind[rU]
 have F:=j 0 (by decide);have d:=j 5 (by decide);have f:=j 6 (by decide);have m:=Y h;have HD:=Y hD;have o:=h.each k v;clear h hD j;have x:e.set k e[k]=e:=List.set_getElem_self v;have s:=Y x;clear x;cases hfu:e[k].full with
 |true=>
  simp only[Hd.cells,hfu]at d F;simp at d;have l:=Y hfu;clear hfu o f F;go_in
  go_wp2;go_ret;refine .inl ⟨rfl,HD,I.refl _ _,e[k],?_,rfl,.inl l,λK T=>.inl T⟩;rw[af s];exact m
 |false=>
  cases hen:e[k].ended with
  |true=>
   simp only[Hd.cells,hfu,hen]at d F f;simp at d f;have l:=Y hfu;have L:=Y hen;clear hfu hen o F;go_in
   go_wp2;go_ret;refine .inl ⟨rfl,HD,I.refl _ _,e[k],?_,rfl,.inr L,λK T=>.inl T⟩;rw[af s];exact m
  |false=>
   obtain⟨ax,cb,C,eg,w⟩:=o.gives hen;simp only[Hd.cells,hfu,hen,C]at d F f;simp at d f F;obtain⟨l,L,an,ad⟩:=fX hfu hen C<|show Enters aZ ax from eg;clear hfu hen o C;have hc:=w.call HD;clear w;go_in
   go_wp2_with fail
   refine hc.mono ?_;rintro av w1⟨W,P,B⟩;have p:w1.heap[g]?=H (.cells (dX e).toArray 361 (0,0)):=(B.block g (ar m.row)<|λD=>D.elim (λD=>(m.nS k v g D).2 rfl) (λD=>by have:=m.aM g D;have:=m.own.2;omega)).trans m.row;obtain⟨⟨c1,c2,c3,c4,c5,c6⟩,i⟩:=vy p k v;have g1:=i<|k*7+1;have g2:=i<|k*7+1+1;have g3:=i<|k*7+1+2;have g4:=i<|k*7+1+3;have g5:=i<|k*7+5;have g6:=i<|k*7+6;have ao:=ar p;obtain⟨N,A,n⟩:=dz p P B;clear p i P B hc;rcases W with⟨ev,rfl,⟨V,rfl⟩|⟨hX,q,rfl,hq⟩⟩|⟨⟨aa,ac,X,r⟩,aD,S1,V,rfl,S,Q⟩
   .have HL:=Y V;clear V;unfold bE vP;go_wp2;go_ret;have u:=af m;refine .inl ⟨rfl,Lj u k v ⟨e[k].v,[],zE,bj,ci,e[k].S⟩ _ rfl n A N (λD=>by cases D) ((u.each k v).own.ap n) (λ_=>⟨rfl,rfl⟩) (λK T=>.inl T) ?_<|.inr rfl⟩;unfold Hd.rest;rw[af l,af HL];rfl
   .have u:=Y hq;clear hq;unfold bE vP;go_wp2;go_ret;refine .inr ⟨hX,q,rfl,u.ap (cK az w1) cC,t.eQ A (cK az w1) cC,(n.mono ?_).alloc _⟩;rintro K(D|D)
    .exact .inl<|.inl<|.inr<|.inr ⟨k,v,D⟩
    .exact .inl<|.inr D
   .obtain⟨HL,al,O⟩:=dz V S Q;clear V S Q;unfold E.value;simp only;go_wp2;go_ret;have u:=af O;refine .inl ⟨rfl,Lj m k v ⟨e[k].v,aD,⟨aa,ac,X,r⟩,ci,bj,S1⟩ _ rfl n A N (λ_=>⟨ax,cb,an,ad,u⟩) u.own (λD=>by cases D) al ?_<|.inl rfl⟩;unfold Hd.rest;rw[af l,af HL];rfl
def EC:Option M->U
 |none=>-1
 |some b=>b
def jJ(a:cS Hd):dJ:=a.map Hd.rest
def PH(a:cS Hd)(i:M)(e:i<y a)(x:Hd)(b:x.rest=a[i].rest):jJ (a.set i x)=jJ a:=by
 unfold jJ;rw[pz,b];refine List.ext_getElem (by simp)<|λj c d=>?_;rw[lQ];grind
def wF{a:cS Hd}(c:b<y a):lK (jJ a) b=a[b].rest.head?:=by
 unfold lK jJ;simp[c]
theorem EK{a:cS Hd}(h:g<y a){x:Hd}(f:∀k,x.S k->a[g].S k\/m<=k):∀k,lH b c (a.set g x) k->lH b c a k\/m<=k:=by
 rintro k(d|d|⟨j,i,d⟩);exact .inl<|.inl d;exact .inl<|.inr<|.inl d;rw[lQ]at d;split at d;rcases f k d with e|e;exact .inl<|.inr<|.inr ⟨g,h,e⟩;exact .inr e;exact .inl<|.inr<|.inr ⟨j,by simpa using i,d⟩
def vB(w:Z)(q:M):I az w (w.drewN q):=⟨rfl,rfl,rfl,ai _,λ_ _ _=>rfl⟩
def IM(h:lK l b=H w)(a:kE l b=none):kE l (b+1)=H b:=by
 unfold kE;rw[h,a]
def IL{f:E}(h:lK l b=H w)(a:kE l b=H c)(d:lK l c=H f):kE l (b+1)=if ahead w f then H b else H c:=by
 conv=>lhs;unfold kE
 rw[h,a];grind
def Eo{a:cS Hd}{x:Hd}(h:∀j(c:j<y a),j<b->a[j].full=ci\/a[j].ended=ci)(d:x.full=ci\/x.ended=ci):∀j(c:j<y (a.set b x)),j<b+1->(a.set b x)[j].full=ci\/(a.set b x)[j].ended=ci:=by
 grind
def UM(V:iL)(d b c N:M)(l:cI)(S:eT)(w:Z):Prop:=∃a,l=cL (jJ a)/\S=lH b c a/\y a=N/\jm V d w b c a
def Kp(e:cS Hd)(h:jm t b a c g e)(hD:t.D a)(hn:y e<=1000000000000):cD aZ 232 #[aA c] a (Out t (UM t b c g<|y e) (cL<|jJ e) (lH c g e) a):=by
 have bb:=h.tf;have cc:=ar h.box;have ce:=h.box.cell;obtain⟨j,HH,HD⟩:=dz bb h hD;clear h hD bb;go_in
 go_wp2;go_loopw [4,9] (λf aF wr=>∃(r:M)(d:cS Hd),r<=y e/\aF=.int .i64 r/\f=.int .i64 (EC<|kE (jJ e) r)/\jm t b wr c g d/\y d=y e/\jJ d=jJ e/\(∀bt(hj:bt<y d),bt<r->d[bt].full=ci\/d[bt].ended=ci)/\t.D wr/\I (λl=>lH c g e l\/t.F l) a wr/\iG wr (z<|G a) zE/\(∀l,lH c g d l->lH c g e l\/z (G a)+1<=l)) (λ_ aF _=>y e-(intOf aF).toNat)
 (case atStart=>have h:=af HH;exact⟨0,e,bG _,rfl,rfl,h.laid _,rfl,rfl,λbt _ hj=>by omega,t.eQ HD (cK az a) cC,(cK _ _),aH _ rfl,λl n=>.inl n⟩)
 case round=>
  obtain⟨r,d,ch,rfl,rfl,x,aa,L,P,D,hT,O,hS⟩:=hrel;have bT:=x.box.cell;rw[aa]at bT;by_cases bn:r<y e
  .have ax:=Ua d r (by omega) x D;obtain⟨HA,bu,aV,HT,HE,HS⟩:=kY x L P hT O hS;clear x D hT O hS L P;obtain⟨bo,o⟩:∃bo,kE (jJ e) r=bo:=⟨_,rfl⟩;rw[o];have V:=Y o;clear o;go_wp2_with fail
   refine ax.mono ?_;rintro cd w1(⟨rfl,N,F,aU,hA1,bp,bq,br⟩|⟨hX,q,rfl,hq,N,F⟩);rotate_left
   .have ad:=ar HE;have A:iG w1 (z<|G a) zE:=HE.ap F (by
     rintro(s|s)
     .rcases HS _ s with X|X
      .have:=(j.each _ X).2;omega
      .omega
     .have:=j.aM _ s;have:=j.size;omega)
    obtain⟨bc,bd,bf,bg⟩:=A.cells;have bi:=A.free (i:=0);have bk:=A.free (i:=1);have bl:=A.free (i:=2);have bm:=A.free (i:=3);obtain⟨Q,HQ,ao,W⟩:=fX A hq N F;clear A hq N F;go_wp2;refine cg (fp rfl _ _ (z<|G a) zE _ _ rfl<|Q.put zE) rfl ?_;have p:I (λl=>l=z (G a)) w1 (uB w1 (z<|G a) zE):=iD _ _ _;refine⟨.inl ⟨_,rfl,.inr ⟨hX,q,rfl,HQ.ap p Q.sep⟩⟩,t.eQ ao p (λl n hf=>by have:=j.aM l hf;have:=j.size;omega),(HT.trans W ?_).trans p<|λl n=>.inr<|by omega⟩;rintro l(s|s)
    .rcases HS l s with X|X
     .exact .inl<|.inl X
     .exact .inr<|by omega
    .exact .inl<|.inr s
   obtain⟨ao,W,u,bv,au,bx⟩:=kY N F hA1 bp bq br;clear N F hA1 bp bq br;go_wp2;have an:r<y d:=by omega
   have aD:r<y (d.set r aU):=by simp_all
   obtain⟨⟨c1,c2,c3,c4,c5,c6⟩,K⟩:=vy u.row r aD;rw[qa]at c1 c2 c3 c4 c5 c6;have bE:=u.box.cell;rw[gU,aa]at bE;have T:jJ (d.set r aU)=jJ e:=(PH d r an aU bv).trans bu;have bh:lK (jJ e) r=aU.rest.head?:=by rw[<-T,wF aD,qa]
   have ac:=Y T;have ba:=Y bh;clear T bh K;have cb:z (G a)<z (G wr):=ar HE;have al:∀(av:Z)(Q:U),I az w1 av->EC (kE (jJ e)<|r+1)=Q->∃(i:M)(f:cS Hd),i<=y e/\Value.int .i64 ((r:U)+1)=.int .i64 i/\Value.int .i64 Q=.int .i64 (EC<|kE (jJ e) i)/\jm t b av c g f/\y f=y e/\jJ f=jJ e/\(∀bt(hj:bt<y f),bt<i->f[bt].full=ci\/f[bt].ended=ci)/\t.D av/\I (λl=>lH c g e l\/t.F l) a av/\iG av (z<|G a) zE/\(∀l,lH c g f l->lH c g e l\/z (G a)+1<=l):=by
    intro av Q A ad;refine⟨r+1,d.set r aU,bn,rfl,by rw[ad],u.apart A cC,by rw[gU];exact aa,ac,Eo aV au,t.eQ ao A cC,?_,?_,?_⟩
    .refine((HT.trans W ?_).bW A);rintro l(s|s)
     .rcases HS l s with X|X
      .simp_all
      .exact .inr<|by omega
     simp_all
    .refine(HE.ap W ?_).ap A<|λs=>s;rintro(s|s)
     .rcases HS _ s with X|X
      .have:=(j.each _ X).2;omega
      .omega
     .have:=j.aM _ s;have:=j.size;omega
    .intro l n;rcases EK an bx l n with X|X
     .exact HS l X
     .exact .inr<|by omega
   have C:=Y al;clear al cb;cases hfu:aU.full with
   |false=>
    rw[hfu]at c5;have ad:aU.ended=ci:=au.resolve_left (by rw[hfu];simp);have av:=(u.each r aD).done;rw[qa]at av;have bs:=av ad;have Q:lK (jJ e) r=none:=by rw[af ba];unfold Hd.rest;rw[hfu,bs.1];rfl
    have A:kE (jJ e) (r+1)=bo:=by unfold kE;rw[Q];exact V
    have HB:=Y A;clear A Q bs av ad hfu;go_quiet(fail)
    go_wp2;go_roundw;case rel=>exact C _ _ (vB _ _)<|by rw[af HB]
    case measure=>simp[intOf];omega
   |true=>
    rw[hfu]at c5;have K:lK (jJ e) r=H aU.fr:=by rw[af ba];unfold Hd.rest;rw[hfu];rfl
    cases bo with
    |none=>
     have HB:=Y<|IM K V;clear K hfu;simp only[EC];go_quiet(fail)
     go_wp2;go_roundw;case rel=>exact C _ _ (vB _ _) (by rw[af HB];rfl)
     case measure=>simp[intOf];omega
    |some k=>
     obtain⟨ca,fb,B,_⟩:=tK V;have HB:=Y<|IL K V B;have m:k<y (d.set r aU):=by omega
     have i:(d.set r aU)[k].rest.head?=H fb:=by rw[<-wF m,af ac];exact B
     have f:(d.set r aU)[k].full=ci:=by
      rcases Eo aV au k m (by omega)with s|s
      .exact s
      .have:=(u.each k m).done s;unfold Hd.rest at i;rw[this.2,this.1]at i;cases i
     have w:(d.set r aU)[k].fr=fb:=by
      unfold Hd.rest at i;rw[f]at i;simp_all
     obtain⟨⟨d1,d2,d3,d4,_,_⟩,_⟩:=vy u.row k m;rw[w]at d1 d2 d3 d4;have A:=Bz aU.fr fb;have av:=ar u.row;have ad:=ar u.box;generalize aU.fr=xf at*;obtain⟨xk,xv,xd,Q⟩:=xf;obtain⟨fk,fv,fd,v⟩:=fb;simp only at c1 c2 c3 c4 d1 d2 d3 d4;simp only[E.value]at A;clear K hfu B i f w c6;simp only[EC];have i1:(0:U)<=(k:U):=by omega
     have i2:(k:U)<(y e:U):=by omega
     have i3:k<y e:=by omega
     have i4:¬(k:U)<0:=by omega
     have i5:(0:U)<=(r:U):=by omega
     have i6:(r:U)<(y e:U):=by omega
     cases hax:ahead ⟨xk,xv,xd,Q⟩ ⟨fk,fv,fd,v⟩with
     |true=>
      rw[hax]at HB A;go_region_held3(λa=>aS a (R c 0)=H (aY g 0 (y e)<|y e)/\aS a (R g<|r*7+5)=H (.bool ci)/\(aS a (R g<|r*7+1)=H (.string xk)/\aS a (R g<|r*7+1+1)=H (.string xv)/\aS a (R g<|r*7+1+2)=H (.bool xd)/\aS a (R g<|r*7+1+3)=H (.int .u64 Q))/\(aS a (R g<|k*7+1)=H (.string fk)/\aS a (R g<|k*7+1+1)=H (.string fv)/\aS a (R g<|k*7+1+2)=H (.bool fd)/\aS a (R g<|k*7+1+3)=H (.int .u64 v))) (first|assumption|go_keep) (first
       |(go_at_call 208;refine(A _).mono ?_;rintro cd w2⟨rfl,rfl⟩))
      go_wp2;go_roundw;case rel=>
       refine C _ _ ?_ (by rw[af HB];rfl);exact(((cK az w1).alloc _)).bW<|vB _ 1
      case measure=>simp[intOf];omega
     |false=>
      rw[hax]at HB A;go_region_held3(λa=>aS a (R c 0)=H (aY g 0 (y e)<|y e)/\aS a (R g<|r*7+5)=H (.bool ci)/\(aS a (R g<|r*7+1)=H (.string xk)/\aS a (R g<|r*7+1+1)=H (.string xv)/\aS a (R g<|r*7+1+2)=H (.bool xd)/\aS a (R g<|r*7+1+3)=H (.int .u64 Q))/\(aS a (R g<|k*7+1)=H (.string fk)/\aS a (R g<|k*7+1+1)=H (.string fv)/\aS a (R g<|k*7+1+2)=H (.bool fd)/\aS a (R g<|k*7+1+3)=H (.int .u64 v))) (first|assumption|go_keep) (first
       |(go_at_call 208;refine(A _).mono ?_;rintro cd w2⟨rfl,rfl⟩))
      go_wp2;go_roundw;case rel=>
       refine C _ _ ?_ (by rw[af HB];rfl);exact(((cK az w1).alloc _)).bW<|vB _ 1
      case measure=>simp[intOf];omega
  .have bu:r=y e:=by omega
   subst bu;obtain⟨bo,o⟩:∃bo,kE (jJ e) (y e)=bo:=⟨_,rfl⟩;rw[o];cases bo with
   |none=>
    have hm:=wO (hs:=jJ e) (by rw[show y (jJ e)=y e by simp[jJ]];exact o);have A:=Y hm;have u:=Y D;have HT:=Y hT;have HE:=Y O;obtain⟨bc,bd,bf,bg⟩:=O.cells;have bi:=O.free (i:=0);have bk:=O.free (i:=1);have bl:=O.free (i:=2);have bm:=O.free (i:=3);clear hm o x D hT O hS L P;simp only[EC];go_wp2;refine cg (fp rfl _ _ (z<|G a) zE _ _ rfl<|HE.put zE) rfl ?_;have p:I (λl=>l=z (G a)) wr (uB wr (z<|G a) zE):=iD _ _ _;exact⟨.inl ⟨_,rfl,.inl ⟨A,rfl⟩⟩,t.eQ u p (λl n hf=>by have:=j.aM l hf;have:=j.size;omega),HT.trans p<|λl n=>.inr<|by omega⟩
   |some k=>
    have aD:y (jJ e)=y e:=by simp[jJ]
    obtain⟨ca,fb,B,_⟩:=tK o;have hm:=wN (hs:=jJ e) (by rw[aD];exact o) B;have m:k<y d:=by omega
    have i:d[k].rest.head?=H fb:=by rw[<-wF m,L];exact B
    have f:d[k].full=ci:=by
     rcases P k m (by omega)with s|s
     .exact s
     .have:=(x.each k m).done s;unfold Hd.rest at i;rw[this.2,this.1]at i;cases i
    have w:d[k].fr=fb:=by
     unfold Hd.rest at i;rw[f]at i;grind
    have A:d[k].ended=bj:=by
     cases s:d[k].ended with
     |false=>rfl
     |true=>have:=((x.each k m).done s).2;rw[f]at this;cases this
    obtain⟨⟨d1,d2,d3,d4,d5,_⟩,K⟩:=vy x.row k m;have g5:=K<|k*7+5;rw[w]at d1 d2 d3 d4;have Q:jJ (d.set k {d[k]with full:=bj})=(jJ e).modify k List.tail:=by
     rw[<-L];unfold jJ;rw[pz];refine List.ext_getElem (by simp)<|λbt h1 h2=>?_;rw[lQ,List.getElem_modify];split
     .rename_i cd;subst cd;simp[Hd.rest,f]
     .simp
    have C:(cA wr (R g<|k*7+5)<|.bool bj).heap[g]?=H (.cells (dX<|d.set k {d[k]with full:=bj}).toArray 361 (0,0)):=by
     refine(aL x.row).trans ?_;simp only[cP];rw[<-Fe d k m {d[k]with full:=bj} rfl]
    have aV:I (λl=>(d[k].S l\/t.F l)\/l=g) wr (cA wr (R g<|k*7+5)<|.bool bj):=(I.refl (λl=>(d[k].S l\/t.F l)\/l=g) wr).setCell g _ _<|.inl<|.inr rfl;have F:I (λl=>l=g) wr (cA wr (R g<|k*7+5)<|.bool bj):=(iV g wr);have N:RP t b (cA wr (R g<|k*7+5)<|.bool bj) {d[k]with full:=bj}:=by
     have ad:=x.each k m;have aU:=F.same (V:=t) (n0:=b) (S:=d[k].S) x.size (λl n=>⟨(ad.own.each l n).2,λs=>(x.nS k m l n).2 s⟩) (λl n bn=>by have:=x.own.2;omega);exact⟨λs=>(ad.gives A).same aU,ad.own.same aU,λs=>by rw[A]at s;cases s⟩
    have T:=x.put k m {d[k]with full:=bj} aV C N (λl n=>.inl n);have ax:¬z (G a)=g:=λs=>by have:=ar HH.row;omega
    have bv:¬g=z (G a):=λs=>ax s.symm;have u:iG (cA wr (R g<|k*7+5)<|.bool bj) (z<|G a) zE:=O.ap F ax;obtain⟨bc,bd,bf,bg⟩:=u.cells;have bi:=u.free (i:=0);have bk:=u.free (i:=1);have bl:=u.free (i:=2);have bm:=u.free (i:=3);have V:∀l,lH c g (d.set k {d[k]with full:=bj}) l->lH c g e l\/z (G a)+1<=l:=by
     grind[EK]
    have au:I (λl=>lH c g e l\/t.F l) a (cA wr (R g<|k*7+5)<|.bool bj):=hT.trans F<|λl n=>.inl<|.inl<|.inr<|.inl n;have ao:=t.eQ D F (λl n hf=>by have:=j.aM l hf;have:=j.each g<|.inr<|.inl rfl;omega);have ac:cL (jJ e)=fb::cL (jJ<|d.set k {d[k]with full:=bj}):=by rw[Q];exact hm
    have W:y (d.set k {d[k]with full:=bj})=y e:=by rw[gU];exact aa
    obtain⟨al,av⟩:∃al,al=d.set k {d[k]with full:=bj}:=⟨_,rfl⟩;rw[<-av]at T V ac W;obtain⟨ba,an,br,bq,bs,bh,bp⟩:=yt T V ac W au ao u;have i1:(0:U)<=(k:U):=by omega
    have i2:(k:U)<(y e:U):=by omega
    have i3:k<y e:=by omega
    have i4:¬(k:U)<0:=by omega
    rw[f]at d5;clear hm B i f w A Q C aV F N T V au ao ac W u x D hT O hS L P o aD K av;obtain⟨fk,fv,fd,v⟩:=fb;simp only at d1 d2 d3 d4;simp only[EC];go_wp2;refine cg (fp rfl _ _ (z<|G a) ⟨fk,fv,fd,v⟩ _ _ rfl<|bp.put ⟨fk,fv,fd,v⟩) rfl ?_;have p:I (λl=>l=z (G a)) (cA wr (R g<|k*7+5)<|.bool bj) (uB (cA wr (R g<|k*7+5)<|.bool bj) (z<|G a) ⟨fk,fv,fd,v⟩):=iD _ _ _;refine⟨.inr ⟨⟨fk,fv,fd,v⟩,_,_,br,rfl,λl n=>?_,al,rfl,rfl,bq,ba.apart p<|λl n=>?_⟩,t.eQ bh p (λl n hf=>by have:=j.aM l hf;have:=j.size;omega),bs.trans p<|λl n=>.inr<|by omega⟩;rotate_left
    .subst n;refine⟨λs=>?_,λs=>by have:=j.size;omega⟩;rcases an _ s with X|X
     .have:=(j.each _ X).2;omega
     .omega
    .rcases an l n with X|X
     .exact .inl X
     .exact .inr<|by omega
def Nf(V:iL)(f c d:M)(b:cS Hd)(w:Z)(i:y b<=1000000000000)(a:jm V f w c d b):Ax V f 232 #[aA c] (cL<|jJ b) (lH c d b) w:=by
 refine Ax.of (UM V f c d<|y b) ?_ ?_ ?_ ⟨b,rfl,rfl,rfl,a⟩;rintro l S w⟨h,rfl,rfl,_,a⟩;exact a.tf;rintro l S w j⟨h,rfl,rfl,e,a⟩g;exact⟨h,rfl,rfl,e,a.same g⟩;rintro l S w⟨h,rfl,rfl,e,a⟩g;rw[<-e];exact Kp h a g<|by omega
def Hh{P:Program}{e:Array ab}{t:TypeId}(j:a.heap[b]?=H (ay e t (0,0)))(h:e[c]?=H d)(v:ab)(i:v.oneCell'=ci):(store (R b c) v).run P a=.ok () (cA a (R b c) v):=by
 have f:aS a (R b c)=H d:=(bV j).trans h;have g:=cZ (i:=c) j;rw[run_store P a _ _ _ i];simp[f,g]
def Bi:Hd:=⟨.nilFunc,[],zE,bj,bj,λ_=>False⟩
def Hu(g:ab×cI×eT):Hd:=⟨g.1,g.2.1,zE,bj,bj,g.2.2⟩
def uc(a:cS (ab×cI×eT))(n:M):cS Hd:=(a.take n).map Hu++List.replicate (y a-n) Bi
def Cd(a:cS (ab×cI×eT))(n:M)(h:n<=y a):y (uc a n)=y a:=by unfold uc;simp;omega
def QO(a:cS (ab×cI×eT))(n:M)(h:n<y a):(uc a n).set n (Hu a[n])=uc a (n+1):=by
 unfold uc;have b:y a-n=(y a-(n+1))+1:=by omega
 rw[b,List.replicate_succ,gw _ _ (by simp;omega)];rw[aj h];have:n-y ((a.take n).map Hu)=0:=by simp;omega
 rw[this];grind
def KX(a:cS (ab×cI×eT))(n:M)(h:n<y a):(uc a n)[n]?=H Bi:=by
 unfold uc;rw[eV (by simp;omega)];grind
def Ff(a:cS Hd)(i:M)(h:i<y a)(x:Hd)(c:x.fr=a[i].fr)(d:x.full=a[i].full)(e:x.ended=a[i].ended):(dX a).set (i*7) x.v=dX (a.set i x):=by
 have f:y (dX<|a.take i)=i*7:=by rw[mH];simp;omega
 have b:dX (a.set i x)=dX (a.take i)++(Hd.cells x++dX (a.drop<|i+1)):=by rw[gV,dV h];simp only[dX,fV,dI]
 rw[b,pN a i h,gw _ _ (by omega),f,zo];simp[Hd.cells,c,d,e]
def Ng(n:M):(madeCells #[.nilFunc,am ⟨#[]⟩,am ⟨#[]⟩,aK bj,aE 0,aK bj,aK bj]<|n*7).toList=dX (List.replicate n Bi):=by
 refine tA<|λj=>?_;by_cases c:j<n*7;(have a:j/7<y (List.replicate n Bi):=by simp;omega);have b:=rU (List.replicate n Bi) (j/7) (j%7) a (yC _<|by decide);rw[show j/7*7+j%7=j by omega]at b;rw[b,List.getElem_replicate];have f:j%7<7:=yC _ (by decide);(have d:(madeCells #[.nilFunc,am ⟨#[]⟩,am ⟨#[]⟩,aK bj,aE 0,aK bj,aK bj]<|n*7).toList[j]?=H ((#[.nilFunc,am ⟨#[]⟩,am ⟨#[]⟩,aK bj,aE 0,aK bj,aK bj]:Array ab)[j%7]!):=by unfold madeCells;simp[c]);rw[d];(have:j%7=0\/j%7=1\/j%7=2\/j%7=3\/j%7=4\/j%7=5\/j%7=6:=by omega);rcases this with e|e|e|e|e|e|e<;>rw[e]<;>rfl;grind[getElem?_eq_none,Array.length_toList,size_madeCells,mH]
def TF:(prog.info? 361).map (λi=>(i.zero,i.size,i.bytes))=H (H<|dD #[.nilFunc,am ⟨#[]⟩,am ⟨#[]⟩,aK bj,aE 0,aK bj,aK bj],7,64):=by kernel_rfl
def Qa(p:a.ownsRow b c g (aY m 0 x x) x A):a.heap[m]?=H (ay A.toArray c (0,0)):=by
 obtain⟨q,⟨e,_⟩|⟨o,i,d,e,r,l,n,k,f,h⟩⟩:=p;cases e;cases e;(have j:d.toList=A:=by rw[<-h,dp (by rw[kq,f];grind)]);rw[l,<-j]
def Qn(bf:iL)(V:M)(b:cS (ab×cI×eT))(hr:Row a 1 d (y b) (b.map (·.1)))(ad:∀u,cz d=H u->u<z (G a))(hn:y b<=1000000000)(hg:∀j(s:j<y b),iT bf V b[j].1 b[j].2.1 b[j].2.2 a)(hd:∀j bh(s:j<y b)(hj:bh<y b),j≠bh->∀u,b[j].2.2 u->¬b[bh].2.2 u)(T:V<=z (G a))(hF:∀u,bf.F u->u<V):cD aZ 194 #[d] a λbk w'=>∃v' S',bk=aJ v'/\iT bf V v' (cL<|b.map (·.2.1)) S' w'/\Below (z<|G a) a w'/\(∀u,S' u->(∃j,∃s:j<y b,b[j].2.2 u)\/z (G a)<=u):=by
 obtain⟨i0,aU,bb,bc,bd⟩:=cU TF;obtain⟨bo,bi,ba⟩:=bN hr;obtain⟨HR,ax,HG,au,HF⟩:=jk hr ad hg hd hF;clear hr ad hg hd hF;subst ba;go_in
 go_wp2_with(at_make;refine wpList_make_full _ rfl (.tmp 7) (.tmp 7) 359 rfl (z<|G a) 361 i0 (dD #[.nilFunc,am ⟨#[]⟩,am ⟨#[]⟩,aK bj,aE 0,aK bj,aK bj]) 7 underlying359 aU bb bc _ _ _ _ (y b) rfl rfl rfl rfl (by rw[bd];omega) (by unfold maxLen;omega) (ai _) ?_;intro B A x;have q:=Qa A;have v:=Y q;have av:=Y x;clear A x q)
 have ac:=af av;have an:z (G a)<z (G B):=ar v;have c:Below (z<|G a) a B:=(Below.refl _ a).grown ac (ai _) (by simp);have X:=Y<|c.alloc c.size<|ay #[aY (z<|G a) 0 (y b)<|y b] 359;have o:(cG B<|ay #[aY (z<|G a) 0 (y b)<|y b] 359).heap[z<|G a]?=H (ay (dX<|uc b 0).toArray 361 (0,0)):=by rw[eU _ an,af v];(have bk:uc b 0=List.replicate (y b) Bi:=by simp[uc]);rw[bk,<-Ng];rfl
 have k:eG (cG B<|ay #[aY (z<|G a) 0 (y b)<|y b] 359) (z<|G B) (aY (z<|G a) 0 (y b)<|y b) 359:=aH _ rfl;have L:=Y o;have E:=Y k;clear ac c o k;go_loopw [11] (λj wr=>∃n:M,n<=y b/\j=aq n/\wr.heap[z<|G a]?=H (ay (dX<|uc b n).toArray 361 (0,0))/\eG wr (z<|G B) (aY (z<|G a) 0 (y b)<|y b) 359/\Below (z<|G a) a wr) (λj _=>y b-(intOf j).toNat)
 case atStart=>exact⟨0,bG _,rfl,L,E,X⟩
 case round=>
  obtain⟨n,al,rfl,f,g,c⟩:=hrel;have bl:=g.cell;obtain⟨N,F,C⟩:=dz f g c;by_cases i:n<y b
  .obtain⟨bg,cb,S,aD,aF⟩:=HG n i;have l:∀t e,bo=H (R t e)->aS wr (R t<|e+n)=H (.func (.func bg) #[] cb):=by
    intro t e W;obtain⟨h1,⟨Q,_⟩|⟨bq,ao,aa,Q,aV,hc⟩⟩:=af HR
    .rw[W]at Q;cases Q
    .rw[W]at Q;cases Q;refine(c.cell (p:=(R t<|e+n))<|ax t (by rw[W];rfl)).trans<|hc n _ ?_;rw[fc,aN i];simp[S]
   obtain⟨t,e,W⟩:∃t e,bo=H (R t e):=by
    obtain⟨h1,⟨Q,w⟩|⟨bq,ao,aa,Q,aV,hc⟩⟩:=af HR
    .omega
    grind
   have bm:=l t e W;subst W;have m:(dX<|uc b n).toArray[n*7]?=H .nilFunc:=by
    have hl:n<y (uc b n):=by rw[Cd b n al];exact i
    have:=rU (uc b n) n 0 hl (by decide);rw[List.getElem?_toArray];rw[lq]at this;rw[this];have w:=KX b n i;rw[aN hl]at w;cases h0':(uc b n)[n]with
    |mk bs br fr fu en bp=>
     rw[h0']at w;cases w;rfl
   have bn:=Hh (P:=aZ) f m (.func (.func bg) #[] cb) rfl;have r:(cA wr (R (z<|G a)<|n*7)<|.func (.func bg) #[] cb).heap[z<|G a]?=H (ay (dX<|uc b<|n+1).toArray 361 (0,0)):=by
    have hl:n<y (uc b n):=by rw[Cd b n al];exact i
    have w:(uc b n)[n]=Bi:=by
     have:=KX b n i;rw[aN hl]at this;grind
    refine(aL f).trans ?_;simp only[cP];rw[<-QO b n i,<-Ff (uc b n) n hl (Hu b[n]) (by rw[w];rfl) (by rw[w];rfl) (by rw[w];rfl)];simp only[Hu,S]
   obtain⟨O,K,D⟩:=dz r (g.other (b':=z<|G a) (i:=n*7) (.func (.func bg) #[] cb)<|by omega)<|c.setCell (p:=(R (z<|G a)<|n*7)) (ai _)<|.func (.func bg) #[] cb;clear f g c m r l aD aF S;go_wp2;go_roundw;case rel=>exact⟨n+1,i,by go_num,O,K,D⟩
   case measure=>simp[intOf];omega
  .have K:n=y b:=by omega
   subst K;clear f g c;go_wp2;go_ret;have f:=af N;have g:=af F;have c:=af C;have w:uc b (y b)=b.map Hu:=by simp[uc]
   rw[w]at f;have Q:I az a wr:=I.aQ c;have hg:=af HG;have O:jJ (b.map Hu)=b.map (·.2.1):=by unfold jJ;rw[iP];rfl
   refine⟨_,lH (z<|G B) (z<|G a)<|b.map Hu,rfl,⟨232,_,rfl,enters_of func232 (by kernel_rfl) rfl,?_⟩,c,?_⟩
   .rw[<-O];refine Nf bf V (z<|G B) (z<|G a) (b.map Hu) wr (by simp;omega) ⟨by grind,f,λj s=>?_,aB T c.size,HF,⟨by omega,T⟩,by omega,λj s u m=>?_,λj bh s hj D u m=>?_⟩
    .have l:j<y b:=by simpa using s
     have e:=hg j l;have r:=Q.same (V:=bf) (n0:=V) (S:=b[j].2.2) T (λu m=>⟨(e.own.each u m).2,λt=>t⟩) cC;rw[kL];exact⟨λ_=>e.same r,e.own.same r,λt=>by cases t⟩
    .have l:j<y b:=by simpa using s
     rw[kL]at m;have:=((hg j l).own.each u m).2;grind
    .rw[kL]at m|-;exact au j bh (by simpa using s) (by simpa using hj) D u m
   .rintro u(t|t|⟨j,s,t⟩)
    .grind
    .grind
    .rw[kL]at t;exact .inl ⟨j,by simpa using s,t⟩
def lI(V:iL)(f:M)(j:ab)(h:cI)(w:Z):Prop:=∃t v i b,j=.iface t v/\(∀w,(Go.method 526 t v "From").run aZ w=.ok (i,b) w)/\Enters aZ i/\∀e c,kw V f az w c->V.D c->cD aZ i #[b,am e] c λl a=>∃g d,l=aJ g/\iT V f g (fO e h) d a/\V.D a/\I V.F c a/\(∀k,d k->z (G c)<=k)
def TD:(prog.info? 240).map (λi=>(i.zero,i.size,i.bytes))=H (H .nilFunc,1,8):=by kernel_rfl
def uN(w:Z)(v:ab)(t:TypeId):∀j u,[v][j]?=H u->aS (cG w<|ay #[v] t) (((R (z<|G w) 0):Addr).add j)=H u:=by
 intro j u a;rw[dt];simp_all
def SW(h:d.oneCell'=ci):∀u∈[d],u.oneCell'=ci:=by
 grind
structure Ay(V:iL)(n0:M)(w0 w:Z)(lo:ae)(Rqq:cS (ab×cI))(o:ab)(Gqq:cS (ab×cI×eT)):Prop where
 own:w.ownsRow (z<|G w0) 240 1 o (y Gqq) (Gqq.map (·.1))
 gives:∀i(hi:i<y Gqq),iT V n0 Gqq[i].1 Gqq[i].2.1 Gqq[i].2.2 w
 rows:Gqq.map (·.2.1)=(Rqq.take<|y Gqq).map (λr=>fO lo r.2)
 Lp:∀i j(hi:i<y Gqq)(hj:j<y Gqq),i≠j->∀k,Gqq[i].2.2 k->¬Gqq[j].2.2 k
 apart:∀i(hi:i<y Gqq)k,Gqq[i].2.2 k->z (G w0)<=k/\cz o≠H k
 aM:V.D w
 ap:I V.F w0 w
def Ay.next{A:Z}{h:cS (ab×cI)}{e:cS (ab×cI×eT)}(s:Ay t b a f v h d e)(o:y e<y h)(hn:b<=z (G a))(hF:∀k,t.F k->k<b)(N:I t.F f B)(E:iT t b P (fO v h[y e].2) X B)(hD:t.D B)(D:∀k,X k->z (G f)<=k){W:Obj}(V:eC (cG B W) A d u)(Q:A.ownsRow (z<|G a) 240 1 u (y e+1) (e.map (·.1)++[P])):Ay t b a A v h u (e++[(P,fO v h[y e].2,X)]):=by
 have L:=s.ap.size;have p:∀k,cz d=H k->z (G a)<=k/\k<z (G f):=λk c=>s.own.lt k c;have x:∀k,b<=k->¬t.F k:=λk c a=>by have:=hF k a;omega
 have j:I (λk=>cz d=H k) B A:=(((I.refl (λk=>cz d=H k) B).alloc W).trans (I.dW (S:=λk=>cz d=H k) V.grown<|λk c=>.inl c)<|λk c=>.inl c);have O:I (λk=>t.F k\/cz d=H k) f A:=(N.mono (T:=λk=>t.F k\/cz d=H k)<|λk c=>.inl<|.inl c).trans j<|λk c=>.inl<|.inr c;have i:∀l(q:l<y (e++[(P,fO v h[y e].2,X)])),(∃g:l<y e,(e++[(P,fO v h[y e].2,X)])[l]=e[l])\/(l=y e/\(e++[(P,fO v h[y e].2,X)])[l]=(P,fO v h[y e].2,X)):=by grind
 have K:∀k,(k<z (G B)/\cz d≠H k)->cz u≠H k:=by rintro k⟨C,h2⟩m;rcases V.uj with r|⟨ac,r,n⟩;(grind);rw[r]at m;cases m;simp at n;omega
 have w:∀k,X k->k<z (G B):=λk c=>(E.own.each k c).2;refine⟨by grind,λl q=>?_,?_,λl aa q hj F k c=>?_,λl q k c=>?_,?_,?_⟩;rcases i l q with⟨g,m⟩|⟨_,m⟩;(rw[m];have n:=s.gives l g;refine n.same<|O.same (aB hn L) (λk c=>⟨(n.own.each k c).2,?_⟩)<|λk c o=>?_;rintro(r|r);exact x k (n.own.each k c).1 r;exact(s.apart l g k c).2 r;grind);rw[m];refine E.same<|j.same E.own.size (λk c=>⟨w k c,λr=>?_⟩)<|λk c o=>?_;have:=D k c;have:=(p k r).2;omega;grind
 rw[aR,s.rows];simp only[cr,gQ,ag,aW,eD,dr];rw[aj o,aR];rfl;rcases i l q with⟨g,m⟩|⟨ei,m⟩<;>rcases i aa hj with⟨n,C⟩|⟨ej,C⟩;rw[m]at c;rw[C];exact s.Lp l aa g n F k c;rw[m]at c;rw[C];intro r;have:=D k r;have:=((s.gives l g).own.each k c).2;omega;rw[m]at c;rw[C];intro r;have:=D k c;have:=((s.gives aa n).own.each k r).2;omega;omega;rcases i l q with⟨g,m⟩|⟨_,m⟩;rw[m]at c;have:=((s.gives l g).own.each k c).2;have n:=N.size;exact⟨(s.apart l g k c).1,K k ⟨by omega,(s.apart l g k c).2⟩⟩;rw[m]at c;have:=D k c;grind
 exact t.eQ hD j<|λk c=>x k (by have:=(p k c).1;omega);exact(s.ap.trans N<|λk c=>.inl c).trans j<|λk c=>.inr (p k c).1
def lI.same{V:iL}{n0:M}(j:lI V n0 d e a)(l:kw V n0 az a f):lI V n0 d e f:=by
 obtain⟨t,v,o,b,c,g,h,i⟩:=j;exact⟨t,v,o,b,c,g,h,λm n j k=>i m n (l.trans j) k⟩
def AU(r:M)(c:cS (ab×cI))(lv:ab)(x:ae)(hr:Row a 1 lv (y c) (c.map (·.1)))(W:∀n,cz lv=H n->n<z (G a)/\¬t.F n)(hn:y c<=1000000000)(hR:∀F(m:F<y c),lI t r c[F].1 c[F].2 a)(hD:t.D a)(ac:r<=z (G a))(hF:∀n,t.F n->n<r):cD aZ 130 #[lv,am x] a λbi w'=>∃v' S',bi=aJ v'/\iT t r v' (cL<|(c.map (·.2)).map<|fO x) S' w'/\t.D w'/\I t.F a w'/\(∀n,S' n->z (G a)<=n):=by
 obtain⟨i0,V,ad,al,an⟩:=cU TD;obtain⟨bp,bh,bd⟩:=bN hr;obtain⟨HR,av,L,HD,HF⟩:=jk hr W hR hD hF;clear hr W hR hD hF;subst bd;go_in
 go_wp2_with(at_make;refine ki _ rfl _ _ 318 rfl (z<|G a) 240 i0 .nilFunc 1 underlying318 V ad al _ _ _ (y c) rfl rfl rfl (by rw[an];omega) (by unfold maxLen;omega) (ai _) ?_;intro w1 v u;have B:=Y v;have s:=Y u;clear v u)
 have Q:Ay t r a w1 x c (aY (z<|G a) 0 0<|y c) []:=by have d:I t.F a w1:=I.dW s (by simp);exact⟨B,λF m=>by simp at m,by simp,λF j m=>by simp at m,λF m=>by simp at m,t.eQ HD (I.dW (S:=az) s<|by simp) cC,d⟩
 have ax:=Y Q;clear Q;go_loopw [5,13] (λo F wr=>∃(bg:M)(b:cS (ab×cI×eT)),bg<=y c/\F=aq bg/\y b=bg/\Ay t r a wr x c o b) (λ_ F _=>y c-(intOf F).toNat)
 case atStart=>exact⟨0,[],bG _,rfl,rfl,ax⟩
 case round=>
  obtain⟨bg,b,bm,rfl,ba,d⟩:=hrel;obtain⟨ox,oc,ho⟩:=aC d.own;subst ba;by_cases p:y b<y c
  .obtain⟨bs,bt,bk,bo,aa,hm,he,i⟩:=L (y b) p;have eg:∀b a,(callFunc bk b).run aZ a=.ok (.enter bk b) a:=he;have l:kw t r az a wr:=d.ap.same ac cC<|λn E _=>E;have hc:=i x wr l d.aM;obtain⟨bq,e,hx⟩:∃bq e,bp=H (R bq e):=by
    obtain⟨h1,⟨D,h0⟩|⟨br,ao,N,D,bc,hc⟩⟩:=af HR
    .omega
    grind
   have bl:aS wr (R bq<|e+y b)=H (.iface bs bt):=by
    obtain⟨h1,⟨D,_⟩|⟨br,ao,N,D,bc,bb⟩⟩:=af HR
    .rw[hx]at D;cases D
    .rw[hx]at D;cases D;have hb:=av bq (by rw[hx];rfl);refine d.ap.cell (bb (y b) _ ?_) hb.2 hb.1;rw[fc,aN p];simp[aa]
   subst hx;subst ho;have K:=Y d;clear d i l aa he;go_wp2_with(first
    |(go_at_fn bk;refine hc.mono ?_;rintro bi w2⟨v1,S1,rfl,o,P,q,g⟩;obtain⟨O,f,rfl,T,X⟩:=o;have A:=Y<|show iT t r (.func (.func O) #[] f) (fO x c[y b].2) S1 w2 from⟨O,f,rfl,T,X⟩;have j:=aX (q.own K.own (λn E hf=>by have:=HF n hf;have:=(K.own.lt n E).1;omega))<|.cells #[.func (.func O) #[] f] 240;have aF:=Y j;have au:=Y P;have aU:=Y q;have C:=Y g;have bn:=q.size;have bf:=K.ap.size;clear P q g X j T)
    |(at_builtin;refine ct _ rfl (.tmp 17) (.tmp 21) 318 rfl (z (G a)) 240 i0 .nilFunc 1 8 underlying318 V ad al an rfl (by decide) (.slice ox (y b) oc) (y b) (b.map (λ(bp:ab×cI×eT)=>bp.1)) rfl aF (R (z (G w2)) 0) 1 1 [.func (.func O) #[] f] rfl rfl (uN _ _ _) (SW rfl) (by omega) (by omega) (by simp;omega) ?_;intro o2 w3 k w;have aD:=Y k;have aV:=Y w;clear k w))
   go_roundw;case rel=>
    refine⟨y b+1,b++[(.func (.func O) #[] f,fO x c[y b].2,S1)],p,by go_num,by simp,?_⟩;exact K.next p ac HF aU A au C aV aD
   case measure=>simp[intOf];omega
  .have k:y b=y c:=by omega
   subst ho;have K:=Y d;have bf:=d.ap.size;have l:Row wr 1 (J ox (y b) oc) (y b) (b.map (·.1)):=dE d.own;have i:∀n,cz (J ox (y b) oc)=H n->n<z (G wr):=λn E=>(d.own.lt n E).2;have D:=Qn t r b l i (by omega) (λF m=>d.gives F m) d.Lp (by omega) HF;have e:b.map (·.2.1)=(c.map (·.2)).map (fO x):=by rw[d.rows,k,bL,iP];rfl
   have j:=Y e;clear d l i e k;go_wp2_with(go_at_call 194;refine D.mono ?_;rintro bi w2⟨v1,S1,rfl,o,f,g⟩;have A:=Y o;have w:=Y f;have C:=Y g;clear o f g)
   go_ret;have d:=af K;have f:=af w;have q:I az wr w2:=I.aQ f;refine⟨v1,S1,rfl,?_,t.eQ d.aM q cC,d.ap.bW q,λn E=>?_⟩
   .rw[<-af j];exact A
   .rcases C n E with⟨F,m,N⟩|N
    .exact(d.apart F m n N).1
    .omega
def Xk(j:M)(b:cS (ab×cI))(K:ae)(P:U)(hr:Row a 1 d (y b) (b.map (·.1)))(g:∀k,cz d=H k->k<z (G a)/\¬t.F k)(hn:y b<=1000000000)(hR:∀an(hi:an<y b),lI t j b[an].1 b[an].2 a)(hD:t.D a)(n:j<=z (G a))(hF:∀k,t.F k->k<j):cD aZ 180 #[d,am K,aE P] a λO e=>∃r q,O=aJ r/\iT t j r (mT ⟨#[]⟩<|(cL<|(b.map (·.2)).map<|fO K).filter<|λO=>decide<|O.bJ<=P) q e/\t.D e/\I t.F a e/\(∀k,q k->z (G a)<=k):=by
 obtain⟨X,A⟩:∃X,cG (cG a<|ay #[aE P] 89) (ay #[am ⟨#[]⟩] 9)=X:=⟨_,rfl⟩;have E:I az a X:=by rw[<-A];exact(cK _ a).alloc _
 have hz:z (G X)=z (G a)+2:=by rw[<-A];simp
 have ac:=AU j b d K (E.row hr<|λk c=>⟨λN=>N,(g k c).1⟩) (λk c=>⟨by have:=(g k c).1;omega,(g k c).2⟩) hn (λan hi=>(hR an hi).same<|E.same n cC cC) (t.eQ hD E cC) (by omega) hF;have m:∀k,j<=k->¬t.F k:=λk c a=>by have:=hF k a;omega
 have i:∀(e:Z)(r:ab)(q:eT),iT t j r (cL<|(b.map (·.2)).map<|fO K) q e->I t.F X e->(∀k,q k->z (G X)<=k)->cD aZ 227 #[r,.func (.func 229) #[] #[aA<|z<|G a,aA<|z (G a)+1]] e λO p=>∃l f,O=aJ l/\iT t j l (mT ⟨#[]⟩<|(cL<|(b.map (·.2)).map<|fO K).filter<|λO=>decide<|O.bJ<=P) f p/\Below (z<|G e) e p/\(∀k,f k->z (G a)<=k):=by intro e r q hg F hS;have b1:eG e (z<|G a) (aE P) 89:=(F.block _ (by omega)<|m _ n).trans (by rw[<-A];grind[eG.alloc,aH]);have b2:eG e (z (G a)+1) (am ⟨#[]⟩) 9:=(F.block _ (by omega)<|m _<|by omega).trans (by rw[<-A];exact aH _<|by simp);refine(Ke (Zl t j (z<|G a) (z (G a)+1) P) ⟨#[]⟩ hg ⟨b1,b2,by omega,n,by omega⟩<|λk c N=>?_).mono ?_;have:=hS k c;rcases N with N|N<;>omega;rintro O p⟨l,f,h1,h2,h3,h4⟩;refine⟨l,f,h1,?_,h3,λk c=>?_⟩;rw[<-VO];exact h2;rcases h4 k c with N|(N|N)|N;have:=hS k N;omega;omega;omega;grind
 obtain⟨V,HT,HD⟩:=dz i E<|λL(b:I t.F X L)(h:t.D L)(a:Z)(P:Below (z<|G L) L a)=>t.eQ h (I.aQ (S:=az) P) cC;obtain⟨av,ao,ad⟩:=bN hr;subst A;clear i E hR hD hF m hz g hr;subst ad;go_in
 go_wp2_with(first
  |(go_at_call 130;refine ac.mono ?_;rintro O w2⟨v1,S1,rfl,C,v,o,w⟩;have i:=V w2 v1 S1 C o w;have Q:=Y v;have u:=Y o;obtain⟨f1,au,rfl,aa,al⟩:=C;clear v o w aa al)
  |(go_at_call 227;refine i.mono ?_;rintro O L⟨v2,S2,rfl,D,B,x⟩;have T:=Y D;have s:=Y B;have W:=Y x;clear D B x))
 go_ret;exact⟨v2,S2,rfl,T,HD _ u Q _ s,(((HT.mono cC).trans u<|λk c=>.inl c)).trans (I.aQ (S:=t.F) s)<|λk c=>.inl c,W⟩
def gZ(W:Z)(l:M)(o:Obj):I (λk=>k=l) W (W.putObj l o):=I.dW (grownBy_putObj' W l o)<|by grind
def UN(g:W->Array ab)(V:iL)(j q n:M)(o:Array ab)(p:cS W->Z->Prop)(m:cS W->Prop)(S f:eT)(w:Z):Prop:=∀(i:M)(e:cS W->eT->Z->Prop)(h:cS W->Z->Prop)(B:eT)(c:Z),kw V j S w c->V.D c->e [] B c->(∀k,S k->¬B k)->(∀a B c,e a B c->∀k,B k->j<=k/\k<z (G c))->(∀a B c b T,e a B c->I T c b->(∀k,T k->¬B k/\f k)->e a B b)->(∀a x B c,p (a++[x]) c->e a B c->V.D c->YieldAt Fence.wide (q-1) aZ i (g x) c λl b=>
 (l=aJ (aK ci)/\V.D b/\∃d,e (a++[x]) d b/\I B c b/\(∀k,d k->B k\/z (G c)<=k))\/(l=aJ (aK bj)/\h (a++[x]) b))->
 CallsIn Fence.wide q aZ n (#[.func (.yield i) #[] #[]]++o) c λl b=>(∃v,l=aJ v)/\((∃k d,m k/\e k d b/\V.D b)\/(∃a,h a b))
def GJ{α:Type}(e:α->Array ab)(V:iL)(h n j:M)(l:Array ab)(m:cS α)(S:eT)(w:Z):Prop:=∀(g:M)(d:cS α->eT->Z->Prop)(f:cS α->Z->Prop)(B:eT)(W:Z),kw V h S w W->V.D W->d [] B W->(∀k,S k->¬B k)->(∀a B W,d a B W->∀k,B k->h<=k/\k<z (G W))->(∀a B W b T,d a B W->I T W b->(∀k,T k->¬B k/\(S k\/V.F k\/z (G w)<=k))->d a B b)->(∀a x B W,(a++[x])<+:m->d a B W->V.D W->YieldAt Fence.wide (n-1) aZ g (e x) W λi b=>
 (i=aJ (aK ci)/\V.D b/\∃c,d (a++[x]) c b/\I B W b/\(∀k,c k->B k\/z (G W)<=k))\/(i=aJ (aK bj)/\f (a++[x]) b))->
 CallsIn Fence.wide n aZ j (#[.func (.yield g) #[] #[]]++l) W λi b=>(∃v,i=aJ v)/\((∃c,d m c b/\V.D b)\/(∃a,f a b))
def GJ.q{d:W->Array ab}{e:Array ab}{s:cS W}(A:GJ d t c g m e s X a):UN d t c g m e (λu _=>u<+:s) (·=s) X (λr=>X r\/t.F r\/z (G a)<=r) a:=by
 intro v w f B x h j k l n o q;apply(A v w f B x h j k l n o q).mono;grind
abbrev Wu{α:Type}(a:α->Array ab)(V:iL)(e m:M)(c:M)(d:Array ab)(f:cS α->Z->Prop)(b:cS α->Prop)(S:eT)(w:Z):Prop:=UN a V e m c d f b S (λk=>S k\/V.F k\/z (G w)<=k) w
def AW(V:iL)(h:cS W->eT->Z->Prop)(g:Code->cS W->eT->Z->Prop)(e:cS W)(B:eT)(f d:Z)(b:M):Exit->Act->Z->Prop
 | .normal,_,a=>V.D a/\∃c,h e c a/\I (λk=>B k\/k=b) f a/\a.heap[b]?=d.heap[b]?/\(∀k,c k->B k\/z (G f)<=k)
 | .ret,_,a=>∃c,g .ret e c a/\I (λk=>B k\/k=b) f a/\a.heap[b]?=d.heap[b]?/\(∀k,c k->B k\/z (G f)<=k)
 | .exit id,_,a=>∃c,g (.exit id) e c a/\I (λk=>B k\/k=b) f a/\a.heap[b]?=d.heap[b]?/\(∀k,c k->B k\/z (G f)<=k)
 | .goto _,_,_=>False
 | .panic _,_,_=>False
 | .outgrown,_,_=>False
abbrev UJ{α:Type}(i:α->Array ab)(o:M)(t:Operand)(n:Array Tmp)(c body:Code)(Q:Exit->Act->Z->Prop)(a:Act)(w:Z)(V:iL)(r:M)(s:cS α->Z->Prop)(S g:eT)(j:cS α->eT->Z->Prop)(f:Code->cS α->eT->Z->Prop)(B:eT)(p:Prop):Prop:=(j [] B w)->(∀k,S k->¬B k)->(∀b B W,j b B W->∀k,B k->r<=k/\k<z (G W))->(∀b B W e T,j b B W->I T W e->(∀k,T k->¬B k/\g k)->j b B e)->(∀m b B W e T,f m b B W->I T W e->(∀k,T k->¬B k/\z (G w)<=k/\∃L,W.heap[k]?=H (.loop L))->f m b B e)->(∀d b x B W,z (G w)<=d->¬B d->(d<z (G W)/\∃L,W.heap[d]?=H (.loop L))->s (b++[x]) W->j b B W->V.D W->c.wpIn (Fence.wide.inRound d) (o-1-1) aZ (Exit.then (λq l=>I az W l/\∀h,I (λk=>k=d) l h->body.wpIn (Fence.wide.inRound d) (o-1-1) aZ (AW V j f (b++[x]) B W h d) q h) (λ_ _ _=>False)) {tmps:=(n.zip<|i x).foldl (λv(u,A)=>v.setIfInBounds u A) a.tmps,defers:=[]} W)->p->(∀(D:M)(m:Code)(b:cS α)(B:eT)(W:Z),z (G w)<=D->f m b B W->¬B D->W.heap[D]?=H (.deferred<|H [])->m.wpIn Fence.wide o aZ Q {a with defers:={target:=.collected D,args:=#[]}::a.defers} W)->(Code.rangeFunc t n c body).wpIn Fence.wide o aZ Q a w
def wo{arg:W->Array ab}{m:M}{bm:Operand}{ps:Array Tmp}{assign body:Code}{bl:Exit->Act->Z->Prop}{a:Act}{V:iL}{n0 gf:M}{lb:Array ab}{pp:cS W->Z->Prop}{ff:cS W->Prop}{S O:eT}(hU:∀k,z (G f)<=k->O k)(hg:a.eval bm=.func (.func gf) #[] lb)(eg:Enters aZ gf)(bb:∀bd,(arg bd).size=ps.size)(ri:UN arg V n0 (m-1) gf lb pp ff S O f)(hD:V.D f)(ba:n0<=z (G f))(al:∀k,S k->k<z (G f))(bi:cS W->eT->Z->Prop)(Ix:Code->cS W->eT->Z->Prop)(au:eT):UJ arg m bm ps assign body bl a f V n0 pp S O bi Ix au (∀(bh:cS W)(bf:M)(au:eT)(L:Z),ff bh->z (G f)<=bf->bi bh au L->¬au bf->V.D L->L.heap[bf]?=H (.deferred<|H [])->bl .normal {a with defers:={target:=.collected bf,args:=#[]}::a.defers} L):=by
 intro h0 bk aa K B Q T ac;refine wpIn_rangeFunc ?_;intro fn aU;obtain⟨d,g⟩:∃d:LoopState->Option Code->Loop,d=λb c=>{state:=b,pending:=c,fn,tmps:=a.tmps,params:=ps,assign,body,defers:=z (G f)}:=⟨_,rfl⟩;obtain⟨C,E⟩:∃C,cG (cG f<|.deferred<|H []) (.loop<|d .ready none)=C:=⟨_,rfl⟩;have aF:C.heap[z (G f)+1]?=H (.loop<|d .ready none):=by rw[<-E];exact aH _<|by simp
 have aD:C.heap[z<|G f]?=H (.deferred<|H []):=by rw[<-E];grind[eU,aH]
 have ad:I az f C:=by rw[<-E];exact(cK _ f).alloc _
 refine⟨z (G f)+1,[{target:=.collected<|z<|G f,args:=#[]}],C,{target:=.fn (.func gf) lb,args:=#[.func (.yield<|z (G f)+1) #[] #[]]},C,gf,#[.func (.yield<|f.heap.size+1) #[] #[]]++lb,C,?_,?_,?_,?_,(λo=>(by cases o)),?_⟩;rw[<-E,g];exact run_enterLoop_outer _ _ _ _ _;(.simp only[resolve,hg];simp[go_sem]);intro b _;trivial;(.have:=eg;unfold Enters at this;simp[invoke,go_sem,this])
 .refine(ri (z (G f)+1) (λn au L=>∃l,(∀k,au k↔l k\/k=z (G f)\/k=z (G f)+1)/\bi n l L/\¬l (z<|G f)/\¬l (z (G f)+1)/\L.heap[z (G f)+1]?=H (.loop<|d .ready none)/\L.heap[z<|G f]?=H (.deferred<|H [])) (λn L=>∃o l,Ix o n l L/\¬l (z<|G f)/\¬l (z (G f)+1)/\L.heap[z (G f)+1]?=H (.loop<|d .done<|H o)/\L.heap[z<|G f]?=H (.deferred<|H [])) (λk=>au k\/k=z (G f)\/k=z (G f)+1) C (ad.same ba (λk s=>⟨al k s,λo=>o⟩) cC) (V.eQ hD ad cC) ⟨au,λk=>qH,K _ _ _ _ _ h0 ad cC,λo=>by have:=(aa _ _ _ h0 _ o).2;omega,λo=>by have:=(aa _ _ _ h0 _ o).2;omega,aF,aD⟩ ?_ ?_ ?_ ?_).mono ?_
  .grind
  .rintro n B' L⟨l,D,F,_,_,p,s⟩k b;rcases(D k).1 b with o|o|o
   .exact aa _ _ _ F k o
   .grind
   grind
  .rintro n B' L j q⟨l,D,F,n1,n2,p,s⟩i e;exact⟨l,D,K _ _ _ _ _ F i<|λk b=>⟨λo=>(e k b).1<|(D k).2<|.inl o,(e k b).2⟩,n1,n2,(i.block _ (ar p)<|λo=>(e _ o).1<|(D _).2<|.inr<|.inr rfl).trans p,(i.block _ (ar s)<|λo=>(e _ o).1<|(D _).2<|.inr<|.inl rfl).trans s⟩
  .rintro n bd B' L ao⟨l,D,F,n1,n2,p,s⟩ax;have hy:=run_yield (P:=aZ) (args:=(arg bd)) p (by rw[g];exact bb bd);rw[g]at hy;refine⟨fn,_,assign,body,hy,roundIn_of_wpIn aU<|wpIn_mono (Q (z (G f)+1) n bd l L (by omega) n2 ⟨ar p,_,p⟩ ao F ax) ?_⟩;clear hy;intro bg a1 Wa N;cases bg with
   |normal=>
    obtain⟨bc,N⟩:=N;have an:Wa.heap[z (G f)+1]?=H (.loop<|d .ready none):=(bc.block _ (ar p)<|λo=>o).trans p;refine⟨_,run_beginRound an (by rw[g]),?_⟩;have X:(Wa.putObj (z (G f)+1)<|.loop {d .ready none with state:=.busy}).heap[z (G f)+1]?=H (.loop {d .ready none with state:=.busy}):=World.putObj_heap_same<|ar an;refine wpIn_mono (N _<|gZ _ _ _) ?_;have fin:∀(e:Option Code)(j:Z),j.heap[z (G f)+1]?=(Wa.putObj (z (G f)+1)<|.loop {d .ready none with state:=.busy}).heap[z (G f)+1]?->(Instr.endRound (z (G f)+1) e).run aZ j=.ok (aK e.isNone) (j.putObj (z (G f)+1)<|.loop<|d (if e.isNone then .ready else .done) e)/\(j.putObj (z (G f)+1)<|.loop<|d (if e.isNone then .ready else .done) e).heap[z (G f)+1]?=H (.loop<|d (if e.isNone then .ready else .done) e):=λe j h3=>by
     have aV:=h3.trans X;have:=run_endRound (P:=aZ) e aV;rw[g]at this|-;grind[World.putObj_heap_same,ar]
    have t:∀j,I (λk=>l k\/k=z (G f)+1) L j->j.heap[z<|G f]?=H (.deferred<|H []):=λj i=>(i.block _ (ar s)<|λo=>o.elim n1<|λo=>by omega).trans s;have A:∀(r:eT),(∀k,r k->l k\/z (G L)<=k)->¬r (z<|G f)/\¬r (z (G f)+1):=λr b=>by
     have:=ar p;grind
    rintro bg a3 j u;cases bg with
    |normal=>
     obtain⟨e,r,w,i,q,v⟩:=u;obtain⟨hr,x⟩:=fin none j q;obtain⟨q1,q2⟩:=A r v;have c:=gZ j (z (G f)+1)<|.loop<|d (if(none:Option Code).isNone then .ready else .done) none;refine⟨_,_,hr,.inl ⟨rfl,V.eQ e c<|λk b hf=>?_,λk=>r k\/k=z (G f)\/k=z (G f)+1,⟨r,λk=>qH,K _ _ _ _ _ w c (λk b=>by grind),q1,q2,x,?_⟩,?_,?_⟩⟩
     .have:=V.lt hD hf;omega
     .exact(c.block _ (ar<|t j i)<|λo=>by omega).trans<|t j i
     .refine(i.trans c<|λk b=>.inl<|.inr b).mono<|λk b=>.inl<|(D k).2 ?_;grind
     grind
    |ret=>
     obtain⟨r,w,i,q,v⟩:=u;obtain⟨hr,x⟩:=fin (H .ret) j q;obtain⟨q1,q2⟩:=A r v;have c:=gZ j (z (G f)+1)<|.loop<|d (if(H Code.ret:Option Code).isNone then .ready else .done)<|H .ret;exact⟨_,_,hr,.inr ⟨rfl,.ret,r,B _ _ _ _ _ _ w c<|λk b=>⟨by grind,by grind,b▸⟨_,q.trans X⟩⟩,q1,q2,x,(c.block _ (ar<|t j i)<|λo=>by omega).trans<|t j i⟩⟩
    |exit id=>
     obtain⟨r,w,i,q,v⟩:=u;obtain⟨hr,x⟩:=fin (H<|.exit id) j q;obtain⟨q1,q2⟩:=A r v;have c:=gZ j (z (G f)+1)<|.loop<|d (if(H (Code.exit id):Option Code).isNone then .ready else .done)<|H<|.exit id;exact⟨_,_,hr,.inr ⟨rfl,.exit id,r,B _ _ _ _ _ _ w c<|λk b=>⟨by grind,by grind,b▸⟨_,q.trans X⟩⟩,q1,q2,x,(c.block _ (ar<|t j i)<|λo=>by omega).trans<|t j i⟩⟩
    |goto bn=>exact u.elim
    |panic ch=>exact u.elim
    |outgrown=>exact u.elim
   |exit id=>exact N.elim
   |goto bn=>exact N.elim
   |ret=>exact N.elim
   |panic av=>exact N.elim
   |outgrown=>exact N.elim
  .rintro bg j⟨⟨v,rfl⟩,(⟨bh,B',i,⟨l,D,F,n1,n2,p,s⟩,e⟩|⟨n,o,l,F,n1,n2,p,s⟩)⟩
   .have c:=λd=>gZ j (z (G f)+1) d;exact⟨none,_,by have:=run_endLoop (P:=aZ) p (by rw[g];simp);rw[g]at this;exact this,T bh _ l _ i (ai _) (K _ _ _ _ _ F (c _)<|λk b=>by grind) n1 (V.eQ e (c _) (λk b hf=>by have:=V.lt hD hf;omega))<|(c _).block _ (ar s) (λo=>by omega)|>.trans s⟩
   .have c:=λd=>gZ j (z (G f)+1) d;exact⟨H o,_,by have:=run_endLoop (P:=aZ) p (by rw[g];simp);rw[g]at this;exact this,ac _ o n l _ (ai _) (B _ _ _ _ _ _ F (c _)<|λk b=>⟨by grind,by grind,b▸⟨_,p⟩⟩) n1<|(c _).block _ (ar s) (λo=>by omega)|>.trans s⟩
def oN{α:Type}{arg:α->Array ab}{m:M}{C:Operand}{s:Array Tmp}{b body:Code}{Q:Exit->Act->Z->Prop}{a:Act}{V:iL}{n0 gf:M}{lb:Array ab}{l:cS α}{S:eT}(x:a.eval C=.func (.func gf) #[] lb)(u:Enters aZ gf)(o:∀F,(arg F).size=s.size)(ri:GJ arg V n0 (m-1) gf lb l S f)(w:V.D f)(n:n0<=z (G f))(g:∀q,S q->q<z (G f))(t:cS α->eT->Z->Prop)(r:Code->cS α->eT->Z->Prop)(B:eT):UJ arg m C s b body Q a f V n0 (λA _=>A<+:l) S (λq=>S q\/V.F q\/z (G f)<=q) t r B (∀(D:M)(B:eT)(W:Z),z (G f)<=D->t l B W->¬B D->V.D W->W.heap[D]?=H (.deferred<|H [])->Q .normal {a with defers:={target:=.collected D,args:=#[]}::a.defers} W):=λv i k p h c d e=>wo (λ_ E=>.inr<|.inr E) x u o ri.q w n g t r B v i k p h c (λ_ D B W j=>j▸d D B W) e
abbrev Xn(x:E):Array ab:=#[x.value,.nilIface]
abbrev Iter:=@GJ E Xn
abbrev RK:E⊕M->Array ab
 | .inl x=>#[x.value,.nilIface]
 | .inr q=>#[vP,ot q]
def Za(V:iL)(l:cI)(b:cS (E⊕M))(W:Z):Prop:=(∃a:cI,b=a.map .inl/\a<+:l)\/∃(a:cI)(q:M),b=a.map .inl++[.inr q]/\V.Xp/\vL W q
def Yg(l:cI)(b:cS (E⊕M)):Prop:=b=l.map .inl\/∃(a:cS (E⊕M))(q:M),b=a++[.inr q]
section
open Shelf
def Gw(cB:M)(cb:Array ab)(hb:eG a c (.func (.func g) #[] cb) 240)(he:Enters aZ g)(hr:Ax t b g cb e X a)(cc:b<=c)(cj:¬X c):Wu RK t b cB 226 #[aA c] (Za t e) (Yg e) (λk=>X k\/k=c) a:=by
 intro lr cx Jx cw cu hs hD hJ bh av bo hY;have eg:∀b a,(callFunc g b).run aZ a=.ok (.enter g b) a:=he;have bl:eG cu c (.func (.func g) #[] cb) 240:=hb.same hs<|.inr rfl;have bn:Ax t b g cb e X cu:=hr.same<|hs.mono<|λ_ f=>.inl f;have bp:=hs.1;obtain⟨br,bu,HD,HJ,aV,aU,O,HY⟩:=Ce bl bn hD hJ bh av bo hY;clear hs hD hJ bh av bo hY hb hr bl bn he;refine tN func226 rfl trivial ?_ rfl;simp only[ntmps226,ga,aW,eD,Nat.reduceAdd,Nat.reduceSub,eX,eW,gd,fq,de,dl];gi_wp2;gi_loopg [3] (y e+1) (λd _ wr=>∃i o S' n,e=i++o/\y o<d/\Ax t b g cb o S' wr/\eG wr c (.func (.func g) #[] cb) 240/\t.D wr/\cx (i.map .inl) n wr/\(∀k,S' k->¬n k)/\¬n c/\¬S' c/\(∀k,S' k->X k\/z (G a)<=k)/\z (G a)<=z (G wr))
 case atStart=>exact⟨[],e,X,cw,rfl,by omega,bu,br,HD,HJ,λk f=>aV k<|.inl f,aV c<|.inr rfl,cj,λk f=>.inl f,bp⟩
 (case round=>obtain⟨i,o,S',n,hl,cd,L,au,bf,S,F,bd,bi,ao,cn⟩:=hrel;have cl:=au.cell;have K:=L.own;(have ax:∀k,b<=k->¬t.F k:=λk f a=>by have:=K.aM k a;omega);have hc:=L.call bf;have HT:=Y<|λj(a:I (λk=>S' k\/t.F k) wr j)=>O (i.map .inl) n wr j _ S a<|λk f=>⟨λv=>f.elim (λw=>F k w v)<|λw=>ax k (aU _ _ _ S k v).1 w,f.elim (λw=>(ao k w).elim (λv=>.inl<|.inl v)<|λv=>.inr<|.inr v)<|λw=>.inr<|.inl w⟩;obtain⟨bv,ac,bs,ba,aF,bb,HL,ck⟩:=Ce ao au S F bd bi hl K;have ca:=Y ax;clear L au bf S F bd bi hl K ax ao;(gi_wp2_with fail);refine⟨trivial,(λv=>(by cases v)),?_⟩;refine(dS.2 hc).mono ?_;rintro cv j⟨bm,u,m⟩;rcases bm with⟨ev,rfl,⟨ce,rfl⟩|⟨hX,q,rfl,hq⟩⟩|⟨⟨r,s,p,d⟩,cs,S1,ch,rfl,bg,l⟩;(.subst ce;obtain⟨x,N⟩:=And.intro (Y u) (Y<|HT j m);clear u m hc;unfold bE vP;gi_wp2;refine⟨λ_ h=>(by cases h),?_⟩;gi_wp2;refine cg (ja rfl _ _ _) rfl ?_;refine⟨⟨_,rfl⟩,.inl ⟨_,n,.inl rfl,?_,t.eQ x (cK az j) cC⟩⟩;have hl:=af HL;rw[dO]at hl;rw[hl];exact O _ n j _ _ N (cK az j) cC);(.have C:=O _ n j _ _ (HT j m) ((I.refl az j).alloc<|ay #[am ⟨#[]⟩,am ⟨#[]⟩,aK bj,aE 0] 170) cC;have A:=t.eQ u ((I.refl az j).alloc<|ay #[am ⟨#[]⟩,am ⟨#[]⟩,aK bj,aE 0] 170) cC;obtain⟨fn,bq,P,body,hy,hR⟩:=HY (i.map .inl) (.inr q) n _ (.inr ⟨i,q,rfl,hX,hq.ap (cK az j) cC⟩) C A;have HR:=Y hR;clear C A hR u m hq hc;unfold RK vP at hy;simp only at hy;unfold bE vP;(gi_wp2_with fail);refine⟨(λv=>(by cases v)),(af HR).mono ?_⟩;rintro cv W3(⟨rfl,B,B3,D,V,Q⟩|⟨rfl,hx⟩);(.obtain⟨ad,al⟩:=And.intro (Y B) (Y D);clear B D V Q;gi_wp2;refine cg (ja rfl _ _ _) rfl ?_;exact⟨⟨_,rfl⟩,.inl ⟨_,B3,.inr ⟨_,q,rfl⟩,al,ad⟩⟩);have HX:=Y hx;clear hx;gi_wp2;refine cg (ja rfl _ _ _) rfl ?_;exact⟨⟨_,rfl⟩,.inr ⟨_,HX⟩⟩);(.subst ch;have W:I az j (cG j<|ay #[am r,am s,aK p,aE d] 170):=cK _ _;have C:=O _ n j _ _ (HT j m) W cC;have A:=t.eQ u W cC;obtain⟨fn,bq,P,body,hy,hR⟩:=HY (i.map .inl) (.inl ⟨r,s,p,d⟩) n _ (.inl ⟨i++[⟨r,s,p,d⟩],by simp,cs,by rw[af HL];simp⟩) C A;obtain⟨HR,bc,an,bt,bT⟩:=jk hR m bg l W;clear C A hR u m bg l hc W;unfold RK at hy;unfold E.value at hy|-;simp only at hy|-;(gi_wp2_with fail);refine⟨(λv=>(by cases v)),(af HR).mono ?_⟩;rintro cv W3(⟨rfl,B,B3,D,V,Q⟩|⟨rfl,hx⟩);(.obtain⟨ad,al,bx,aD⟩:=fX B D V Q;clear B D V Q;gi_wp2;(gi_roundg (y cs+1));(case measure=>simpa using cd);(case rel=>have x:=aU _ _ _ bs;have l:=af bt;(have aa:∀k,S1 k->¬n k:=λk f v=>by rcases an k f with w|w;exact ba k w v;have:=(x k v).2;omega);have N:I n j W3:=(bT.mono (T:=n) cC).trans bx<|λk f=>.inl f;(have bk:eG j c (.func (.func g) #[] cb) 240:=by refine(bc.block c (ar ac) ?_).trans ac;rintro(v|v);exact bb v;exact ca _ cc v);have co:=bc.size;have cp:=N.size;have cm:=ar ac;refine⟨i++[⟨r,s,p,d⟩],cs,S1,B3,by rw[af HL];simp,by omega,l.same<|N.same l.own.size (λk f=>⟨(l.own.each k f).2,aa k f⟩) (λk f av=>by have:=(x k f).1;omega),(N.block c (ar bk) aF).trans bk,ad,by rw[aR];exact al,λk f v=>?_,λv=>?_,λv=>?_,λk f=>?_,by omega⟩;rcases aD k v with w|w;exact aa k f w;have:=(l.own.each k f).2;simp at w;omega;rcases aD c v with w|w;exact aF w;simp at w;omega;rcases an c v with w|w;exact bb w;omega;rcases an k f with w|w;exact bv k w;exact .inr<|by omega));have HX:=Y hx;clear hx;gi_wp2;refine cg (ja rfl _ _ _) rfl ?_;exact⟨⟨_,rfl⟩,.inr ⟨_,HX⟩⟩))
def ND(S:¬t.Xp)(ac:M)(k:Array ab)(V:eG a c (.func (.func g) #[] k) 240)(he:Enters aZ g)(hr:Ax t b g k e X a)(o:b<=c)(r:¬X c):Iter t b ac 226 #[aA c] e (λaa=>X aa\/aa=c) a:=by
 intro lr al E B W hs O P n p s T;refine(Gw ac k V he hr o r lr (λv B W=>∃d,v=d.map .inl/\al d B W) (λv W=>∃d,E d W) B W hs O ⟨[],rfl,P⟩ n ?_ ?_ ?_).mono ?_;rintro _ B W⟨d,rfl,i⟩;exact p d B W i;rintro _ B W w j⟨d,rfl,i⟩h f;exact⟨d,rfl,s d B W w j i h f⟩;rintro _ ad B W u⟨d,rfl,i⟩m;rcases u with⟨C,A,hp⟩|⟨C,q,_,x,_⟩;(obtain⟨f,rfl⟩:∃f,ad=.inl f:=by(have:ad∈C.map (Sum.inl (β:=M)):=by rw[<-A];simp);obtain⟨f,_,i⟩:=bM.1 this;exact⟨f,i.symm⟩);obtain rfl:d++[f]=C:=(oC (f:=Sum.inl (β:=M))<|λ_ _=>wa).1 (by simpa using A);obtain⟨F,j,h,body,hy,Q⟩:=T d f B W hp i m;refine⟨F,j,h,body,hy,Q.mono ?_⟩;rintro A W3(⟨rfl,l,D,K,L,N⟩|⟨rfl,l⟩);exact .inl ⟨rfl,l,D,⟨_,by simp,K⟩,L,N⟩;exact .inr ⟨rfl,_,l⟩;exact(S x).elim;rintro A w⟨h,⟨v,j,l,⟨d,rfl,i⟩,f⟩|⟨_,d,i⟩⟩;refine⟨h,.inl ⟨j,?_,f⟩⟩;rcases l with x|⟨C,q,x⟩;rw[<-(oC (f:=Sum.inl (β:=M))<|λ_ _=>wa).1 x];exact i;(have:Sum.inr q∈d.map (Sum.inl (β:=M)):=by rw[x];simp);simp at this;exact⟨h,.inr ⟨d,i⟩⟩
end
