import Derived.Test.YtmnlcbeggagabaaGreatDoorC17
import Derived.Test.YtmnlcbeggagabaaGreatDoorC18
open _root_ renaming List.length→y,Option.some→H,Array.size→z,Go.World.heap→G,Go.Value.ownBlock→cz,Go.World.cell?→aS,Go.World.setCell→cA,Go.World.alloc→cG,Bool.false→bj,Bool.true→ci,Nat→M,Int→U,List→cS,Go.Calls→cD,Go.undef→ix,Go.Proofs.Tryz.prog→aZ,Go.Value.slice→J,Go.Value.string→am,Go.Value.bool→aK,Go.Value.tuple→dd,Go.Value.agg→dD
namespace Go.Proofs.YtmnlcbeggagabaaGreatDoor
open ChangeShapes WideShapes RowKit Proofs.Tryz List
set_option maxHeartbeats 16000000
set_option linter.all false
set_option maxRecDepth 100000
variable{a f B:Z}{b c g m:M}{d u P:ab}{e:cI}{k:U}{l:dJ}{n V:dN}{o:SR}{w:E}{A:iF}
section
open Shelf
def Vq(x:U)(w:Z):cD aZ 272 #[aE x] w λe a=>e=aJ (aK bj)/\a=w:=by
 go_in
 go_wp2;go_ret;simp_all
def Gf(x a:U)(w:Z):cD aZ 264 #[aE x,aE a] w λe b=>e=aJ (aK<|decide<|x<a)/\b=w:=by
 have h:=Vq x w;go_in
 go_wp2_with(go_at_call 272;refine h.mono ?_;rintro e b⟨rfl,rfl⟩)
 go_ret;simp_all
def Ph(a:b+1<y n):((n.set (b+1) n[b]).set b n[b+1]).Perm n:=by
 grind
def TB(k i:M)(n:dN)(w:a.ownsRow b 89 1 (aY k 0 (y n) i) (y n) (n.map<|Value.int .u64))(hn:y n<=12):cD aZ 258 #[aY k 0 (y n) i,aq 0,aq<|y n] a λan K=>an=aJ (dd #[])/\∃m:dN,m.Perm n/\K.ownsRow b 89 1 (aY k 0 (y m) i) (y m) (m.map<|Value.int .u64)/\I (λs=>s=k) a K:=by
 obtain⟨L,V⟩:∃L,y n=L:=⟨_,rfl⟩;rw[V]at w hn|-;go_in
 go_wp2;go_loopw [6] (λc wr=>∃(p:M)(m:dN),c=aq p/\1<=p/\y m=L/\m.Perm n/\wr.ownsRow b 89 1 (aY k 0 L i) L (m.map<|Value.int .u64)/\I (λs=>s=k) a wr) (λc _=>L-(intOf c).toNat)
 case atStart=>grind[Perm.refl,I.refl]
 (case round=>obtain⟨p,m,rfl,aa,d,e,c,f⟩:=hrel;by_cases X:p<L;(·(have Q:(p:U)<(L:U):=by omega);have j:=Y<|And.intro d (And.intro e (And.intro c f));clear d e c f w;go_wp2;(go_loopw [7] (λA c=>∃(B:M)(m:dN),A=aq B/\B<=p/\y m=L/\m.Perm n/\c.ownsRow b 89 1 (aY k 0 L i) L (m.map<|Value.int .u64)/\I (λs=>s=k) a c) (λA _=>(intOf A).toNat));(case atStart=>exact⟨p,m,rfl,ai _,j.1,j.2.1,j.2.2.1,j.2.2.2⟩);(case round=>obtain⟨B,m,rfl,ac,d,e,c,f⟩:=hrel;rcases gm B with D|D;(.subst D;have g:=Y<|And.intro d (And.intro e (And.intro c f));clear d e c f;(go_wp2_with fail);(go_quiet(fail));go_wp2;go_roundw;(case rel=>exact⟨p+1,m,by go_num,by omega,g.1,g.2.1,ku g.2.2.1 rfl,g.2.2.2.of_heap rfl⟩);case measure=>simp[intOf];omega);(.obtain⟨q,rfl⟩:∃q,B=q+1:=⟨B-1,by omega⟩;obtain⟨_,⟨O,_⟩|⟨b',F,C,O,v,u⟩⟩:=dE c;cases O;cases O;have c1:=u (q+1) (aE<|m[q+1]'(by omega)) (by rw[fc,aN<|by omega];rfl);have P:=u q (aE<|m[q]'(by omega)) (by rw[fc,aN<|by omega];rfl);simp only[dr]at P c1;have W:=(c.lt k rfl).2;(have l:∀A,wr.frozen? (R k A)=bj:=by intro A;obtain⟨S,r⟩:=fR c (k:=k) rfl;exact cZ r);have f1:=l<|q+1;have f0:=l q;have N:=Y (show∀r,(r=cA (cA wr (R k<|q+1)<|aE<|m[q]'(by omega)) (R k q) (aE<|m[q+1]'(by omega)))->∃o:dN,y o=L/\o.Perm n/\r.ownsRow b 89 1 (aY k 0 L i) L (o.map<|Value.int .u64)/\I (λs=>s=k) a r from by rintro r rfl;refine⟨(m.set (q+1) m[q]).set q m[q+1],by simpa using d,(Ph<|by omega).trans e,?_,(f.setCell _ _ _<|.inl rfl).setCell _ _ _<|.inl rfl⟩;have t:=(qS (qS c (q+1)<|aE<|m[q]'(by omega)).1 q<|aE<|m[q+1]'(by omega)).1;rw[pz,pz];exact t);have g:=Y<|And.intro d (And.intro e (And.intro c f));have E:L<=i:=v;(have e2:(q:U)+1<(L:U):=by omega);(have e3:(q:U)<(L:U):=by omega);(have e4:(0:U)<(q:U)+1:=by omega);(have e5:(0:U)<=(q:U):=by omega);(have ad:q+1<y m:=by omega);generalize m[q+1]=x at*;generalize m[q]'(by omega)=ao at*;clear d e c f u l;by_cases al:x<ao;(·(go_wp2_with fail);(go_quiet(first|(go_at_call 264;refine Calls.quiet_of_same (Gf _ _ _))));(go_wp2_with fail);(go_region);go_wp2;go_roundw;(case rel=>obtain⟨o,t,r,S,T⟩:=N _ rfl;exact⟨q,o,by go_num,by omega,t,r,ku S rfl,T.of_heap rfl⟩);case measure=>simp[intOf]);(·(go_wp2_with fail);(go_quiet(first|(go_at_call 264;refine Calls.quiet_of_same (Gf _ _ _))));go_wp2;go_roundw;(case rel=>exact⟨p+1,m,by go_num,by omega,g.1,g.2.1,ku g.2.2.1 rfl,g.2.2.2.of_heap rfl⟩);case measure=>simp[intOf];omega))));(have Q:¬((p:U)<(L:U)):=by omega);have j:=Y<|And.intro d (And.intro e (And.intro c f));clear d e c f w;go_wp2;go_end0;exact⟨rfl,m,j.2.1,by rw[(af j).1];exact j.2.2.1,j.2.2.2⟩)
def TC(l:dN)(j:a.ownsRow b 89 1 d (y l) (l.map<|Value.int .u64))(t:y l<=12):cD aZ 258 #[d,aq 0,aq<|y l] a λv f=>v=aJ (dd #[])/\∃m:dN,m.Perm l/\f.ownsRow b 89 1 d (y m) (m.map<|Value.int .u64)/\I (λw=>cz d=H w) a f:=by
 rcases j.2 with⟨rfl,n⟩|⟨x,c,k,rfl,p,A,u,q,r,e⟩;(.obtain rfl:=aP n;(go_in);go_wp2;refine gF 1 ?_;rw[fT];go_wp2;go_end0;grind[Perm.refl,I.refl]);apply(TB x c l j t).mono;rintro v f⟨rfl,m,g,i,o⟩;refine⟨rfl,m,g,?_,o.mono<|λw s=>.inl (by rw[s];rfl)⟩;rw[g.length_eq]at i|-;exact i
def SK(l:dN)(k:U)(c:a.ownsRow b 89 1 d (y l) (l.map<|Value.int .u64))(i:y l<=12):cD aZ 245 #[d,aq 0,aq<|y l,aq k] a λn e=>n=aJ (dd #[])/\∃m:dN,m.Perm l/\e.ownsRow b 89 1 d (y m) (m.map<|Value.int .u64)/\I (λk=>cz d=H k) a e:=by
 have h:=TC l c i;obtain⟨x,p,j⟩:=aC c;have o:(y l:U)<=12:=by omega
 subst j;clear c;go_in
 go_wp2;refine gF 1 ?_;rw[fT];go_wp2_with fail
 apply h.mono;rintro n e⟨rfl,f⟩;have g:=Y f;clear f;go_wp2;refine cg (ja rfl _ _ _) rfl ?_;exact⟨rfl,g⟩
def Qx(n:M)(c:n<=4)(w:Z):cD aZ 90 #[aE n] w λe b=>(∃k,e=aJ (aq k))/\b=w:=by
 have a:n=0\/n=1\/n=2\/n=3\/n=4:=by omega
 rcases a with rfl|rfl|rfl|rfl|rfl;(all_goals(go_in);go_wp2;go_ret;exact⟨⟨_,rfl⟩,rfl⟩)
def Vv(n:M)(b:n<=4)(w:Z):cD aZ 50 #[aE n] w λe a=>(∃k,e=aJ (aq k))/\a=w:=by
 have h:=Qx n b w;go_in
 go_wp2_with(go_at_call 90;refine h.mono ?_;rintro e a⟨⟨k,rfl⟩,rfl⟩)
 go_wp2;go_ret;simp_all
def Pv(l:dN)(e:a.ownsRow b 89 1 d (y l) (l.map<|Value.int .u64))(m:y l<=4):cD aZ 214 #[d] a λi c=>i=aJ (dd #[])/\∃o:dN,o.Perm l/\c.ownsRow b 89 1 d (y o) (o.map<|Value.int .u64)/\I (λk=>cz d=H k) a c:=by
 have h:=λk=>SK l k e (by omega);have j:=Vv (y l) m a;obtain⟨x,q,n⟩:=aC e;subst n;clear e;go_in
 go_wp2_with fail
 apply j.mono;rintro i c⟨⟨k,rfl⟩,p⟩;subst c;go_wp2_with fail
 apply(h k).mono;rintro i c⟨rfl,f⟩;have g:=Y f;clear f;go_wp2;go_end0;exact⟨rfl,g⟩
def Jz{bm b:M}(u:gz){w:Z}(x:eG w bm (.map<|H b) 79)(A:kN w b u)(q:wv u n)(C:y n<=4):cD aZ 162 #[.func (.func 215) #[] #[aA bm]] w λv t=>
 ∃i,∃s:dN,v=aJ i/\s.Perm n/\t.ownsRow (z<|G w) 89 1 i (y s) (s.map<|Value.int .u64)/\I (λk=>k=bm) w t:=by
 have h:=II u x A q<|by omega
 go_in
 go_wp2_with fail
 apply h.mono
 rintro v K⟨i,s,rfl,m,g,r⟩
 have B:=Pv s g (by have:=m.length_eq;omega)
 have c:∀k,cz i=H k->z (G w)<=k:=λk o=>(bK g k o).1
 obtain⟨F,E,p⟩:=aC g
 have a:=Y<|And.intro m r
 have l:=Y c
 clear m g r c
 subst p
 go_wp2_with fail
 apply B.mono
 rintro v L⟨rfl,D,d,e,f⟩
 have j:=Y<|And.intro d (And.intro e f)
 clear d e f
 go_wp2
 go_ret
 exact⟨_,D,rfl,j.1.trans a.1,j.2.1,a.2.trans j.2.2<|λk o=>.inr<|l k o⟩
end
section
open Shelf
abbrev gv:=cS<|M×M
def Vc(a:gv):gz:=a.map<|λp=>((p.1:U),aE (p.2:U))
def sC(a:gv):dN:=a.map<|λp=>(p.2:U)
def Va(a:gv):wv (Vc a) (sC a):=by simp[wv,Vc,sC]
def qu(a:gv):y (sC a)=y a:=by simp[sC]
def Yf(h:n.Perm V)(p:U->Bool):n.any p=V.any p:=by
 rw[vN,nM,nM];grind
def Nc(h:n.Perm V)(p:Option E)(e:E):oZ n p e=oZ V p e:=by
 cases p with
 |none=>rfl
 |some q=>unfold oZ;grind
def DP(h:n.Perm V):∀(l:cI)(p:Option E),lJ n p l=lJ V p l
 |[],_=>rfl
 |e::r,p=>by rw[lJ,lJ,Nc h,DP h r]
def DO(h:n.Perm V)(l:cI):dG n l=dG V l:=DP h l none
def Jl(v:Option M)(w:Z):cD aZ 163 #[.map v] w λe a=>e=aJ (.func (.func 215) #[] #[aA<|z<|G w])/\a=cG w (ay #[.map v] 79):=by
 go_in
 go_wp2;go_ret;simp_all
def wL{c b:M}(f:gv)(h:cf a c o k)(q:o.oo=H b)(i:kN a b (Vc f))(u:y f<=4):cD aZ 104 #[aA c] a λt r=>∃m,∃l:dN,t=aJ m/\l.Perm (sC f)/\r.ownsRow (z<|G a) 89 1 m (y l) (l.map<|Value.int .u64)/\I az a r:=by
 have s:aS a (R c 16)=H (.map<|H b):=by rw[<-q];exact h.cell rfl
 have e:=(I.refl az a).alloc<|ay #[.map<|H b] 79;have j:=Jz (bm:=z<|G a) (b:=b) (Vc f) (w:=(cG a<|ay #[.map<|H b] 79)) (aH _ rfl) (i.di<|e.block _ i.lt id) (Va f) (by rw[qu];exact u);clear h q i;go_in
 go_wp2_with fail
 apply(Jl _ _).mono;rintro t w⟨rfl,v⟩;subst w;go_wp2_with fail
 apply j.mono;rintro t C⟨m,x,rfl,n,g,p⟩;obtain⟨B,A,rfl⟩:=aC g;have d:=Y<|And.intro n (And.intro g p);clear n g p;go_wp2;go_ret;exact⟨_,x,rfl,d.1,fM d.2.1 (by simp),e.trans d.2.2<|λk a=>.inr<|by omega⟩
def AG(f:M)(ac:SR)(u:U)(v:gv)(C:ab)(Q:cI)(h:cf a f ac u)(V:ac.oo=H b)(F:kN a b (Vc v))(h4:y v<=4)(E:jU a ac.memory e)(p:∀u,cz ac.memory=H u->u<z (G a))(D:jU a C Q)(o:∀u,cz C=H u->u<z (G a))(r:dK e)(hl:y e+y Q<=1000000):cD aZ 58 #[aA f,C] a λaa X=>∃W,aa=aJ W/\X.ownsRow (z<|G a) 170 4 W (y<|dG (sC v)<|fB e Q) (aI<|dG (sC v)<|fB e Q)/\I az a X:=by
 have S:=cf.cellAt h 7 rfl;have m:=Sc E D r (by omega) p o;obtain⟨x1,n1,t⟩:=bN E;obtain⟨x2,n2,K⟩:=bN D;have HM:=Y<|λ(P:Z)(c:I az a P)=>wL (b:=b) v (h.ap c id) V (F.di<|c.block _ F.lt id) h4;rw[t]at S m;clear h V F E p D o t;subst K;go_in
 go_wp2_with fail
 apply m.mono;rintro aa P⟨v1,rfl,i,k⟩;have q:=HM P k;obtain⟨y1,d1,L⟩:=aC i;have w:=Y i;have A:=Y k;clear i k m S;subst L;go_wp2_with fail
 apply q.mono;rintro aa w2⟨v2,ms,rfl,T,d,l⟩;have c:=l.own w<|λ_ _ a=>a;have g:=yT ms (dE c) (r.fB Q) (aB (wq e Q) hl) (dE d) (by have:=T.length_eq;rw[qu]at this;omega) (λu a=>(bK c u a).2)<|λu a=>(bK d u a).2;rw[DO T]at g;obtain⟨y2,d2,N⟩:=aC d;have n:=Y<|A.bW l;clear d l c q;subst N;go_wp2_with fail
 apply g.mono;rintro aa w3⟨v3,rfl,j,s⟩;obtain⟨y3,d3,O⟩:=aC j;have x:=Y<|fM (base':=z<|G a) j n.size;have B:=Y<|n.bW s;clear j s g;subst O;go_wp2;go_ret;exact⟨_,rfl,x,B⟩
def Sp:gv->U->Option M
 |[],_=>none
 |p::r,n=>if(p.1:U)=n then H p.2 else Sp r n
def Vb(n:U):∀a:gv,(Vc a).get n=(Sp a n).map (λc:M=>aE c)
 |[]=>rfl
 |p::r=>by
  have b:=Vb n r;unfold Vc at b|-;rw[cr,gz.get,Sp];grind
end
def fY(n:U)(l:cI):dN:=le 8 n++((y l:U)::l.flatMap nP)
def mF(n:U)(l:cI):dN:=gy (le 4 (y<|fY n l)++le 4 (kO<|fY n l))++fY n l
def BS(h:w.Good):y (nP w)<=35:=by
 have:=tI h;unfold Bp at this;rw[ag]at this;omega
def nB{l:cI}(h:∀x∈l,x.Good):y (l.flatMap nP)<=35*y l:=by
 induction l with
 |nil=>simp
 |cons x r c=>
  have a:=BS (h x<|by simp);have d:=c (λa b=>h a<|by simp[b]);rw[dI,ag,aW];omega
structure VW(w0 w:Z)(hv bv:ab)(hs bs:dN):Prop where
 head:eE w (z<|G w0) hv hs
 body:eE w (z<|G w0) bv bs
 ne:∀k,cz hv=H k->cz bv≠H k
 ap:I az w0 w
def VW.wrote{c:dN}(h:VW a f d u n V)(i:eC f B d P)(l:eE B (z<|G a) P c):VW a B P u c V:=by
 have g:=I.fy i;refine⟨l,g.own h.body<|λk b o=>h.ne k o b,λk b e=>?_,h.ap.trans g<|λk b=>.inr (h.head.lt k b).1⟩;rcases i.uj with j|⟨m,j,p⟩;exact h.ne k (j.symm.trans b) e;rw[j]at b;cases b;have:=(h.body.lt _ e).2;omega
def MQ(l:cI)(au a bi:M)(w:Z)(hT:Steps w)(hg:au<z (G w))(hc:∀cl ck,(aI l)[cl]?=H ck->aS w (R au<|a+cl)=H ck)(k:0<y l)(c:∀al∈l,al.Good)(hl:y l<=8):cD aZ 126 #[aY au a (y l) bi] w λao w'=>∃v',ao=aJ v'/\eE w' (z<|G w) v' (mF (l[0]'k).bJ l)/\I az w w':=by
 obtain⟨i0,bp,bT,ca,cb⟩:=cU pL;have u:=c _<|ak k;have cj:=nB c;have bk:aS w (R au<|a+3)=H (aE (l[0]'k).bJ):=by have:=hc _ _ (eh l 0 k).2.2.2;grind
 obtain⟨r,hn⟩:∃r,(l[0]'k).bJ=r:=⟨_,rfl⟩;have K:=u.b0;have L:=u.b1;rw[hn]at K L bk|-;have bs:=oV (baseqq:=z<|G w) (v:=aw) (bs:=[]) r (w:=w) (eE.nil _ _) (ai _) (by simp) K L;have e1:IntKind.u8.wrap (y l:U)=y l:=by rw[IntKind.wrap_u8];omega
 obtain⟨HC,HG,HT⟩:=dz hc c hT;clear hc c u hn hT;go_in
 go_wp2_with fail
 apply bs.mono;rintro ao w1⟨v1,rfl,A,X⟩;have C:I az w w1:=(I.fy X).mono (λav g=>by simp[cz]at g);have br:=tD (z<|G w) v1 ([]++le 8 r) (y l:U) w1 A C.size (by simp[bU]);have aF:=Y A;have bb:=Y C;clear A C X;go_wp2_with fail
 apply br.mono;rintro ao w2⟨v2,rfl,N,aa⟩;have bd:=Y<|bb.trans (I.fy aa)<|λav g=>.inr (aF.lt av g).1;have aU:=Y N;clear N aa;go_wp2;go_loopw [3,19] (λo i wr=>∃m:M,m<=y l/\i=aq m/\eE wr (z<|G w) o (le 8 r++((y l:U)::(l.take m).flatMap nP))/\I az w wr) (λ_ i _=>y l-(intOf i).toNat)
 case atStart=>exact⟨0,bG _,rfl,by simpa using af aU,bd⟩
 case round=>
  obtain⟨m,hm,rfl,b,d⟩:=hrel;have bx:=d.size;by_cases q:m<y l
  .have j:=HG l[m]<|ak q;have e:=eh l m q;have D:aS wr (R au<|a+m*4)=H (am l[m].key):=d.cell (HC _ _ e.1) id hg;have F:aS wr (R au<|a+m*4+1)=H (am l[m].val):=d.cell (by rw[bF];exact HC _ _ e.2.1) id hg;have O:aS wr (R au<|a+m*4+2)=H (aK l[m].del):=d.cell (by rw[bF];exact HC _ _ e.2.2.1) id hg;have P:aS wr (R au<|a+m*4+3)=H (aE l[m].bJ):=d.cell (by rw[bF];exact HC _ _ e.2.2.2) id hg;have o:y (le 8 r++((y l:U)::(l.take m).flatMap nP))<=1000:=by
    have Q:=nB (l:=l.take m)<|λal hx=>HG al<|dU hx;grind[length_append,length_cons,bU]
   have B:=Y (show(le 8 r++((y l:U)::(l.take m).flatMap nP))++nP l[m]=le 8 r++((y l:U)::(l.take<|m+1).flatMap nP)from by
    rw[aj q,fV];simp)
   clear e;generalize l[m]=al at*;have f:=Ow (z<|G w) u3 (le 8 r++((y l:U)::(l.take m).flatMap nP)) al (cG wr<|ay #[am al.key,am al.val,aK al.del,aE al.bJ] 170) (b.alloc _) (by simp;omega) (by omega) (by have:=j.KN;omega) (by have:=j.val;omega);generalize(le 8 r++((y l:U)::(l.take m).flatMap nP))=ce at*;have x:=b.lt;have s:=Y d;clear b d j o;obtain⟨V,W,T,S⟩:=al;simp only at D F O P f;unfold E.value at f;simp only at f;go_wp2_with fail
   apply f.mono;rintro ao w3⟨v3,rfl,n,i⟩;have p:=Y n;have t:=Y i;clear n i;go_wp2;go_roundw;case rel=>
    refine⟨m+1,q,by go_num,by rw[<-af B];exact p,?_⟩;exact(s.alloc _).trans (I.fy t)<|λav g=>.inr (x av g).1
   case measure=>simp[intOf];omega
  .have bq:m=y l:=by omega
   subst bq;rw[bL]at b;have bl:y (fY r l)<=1000:=by unfold fY;rw[ag,aW,bU];omega
   have s:0<y (fY r l):=by unfold fY;rw[ag,bU];omega
   have f:eE wr (z<|G w) u3 (fY r l):=b;obtain⟨bg,bc,bE,_,_,_⟩:=oE f s;subst bE;obtain⟨e,j⟩:∃e,y (fY r l)=e:=⟨_,rfl⟩;have F:=Y (show mF r l=gy (le 4 (e:M)++le 4 (kO<|fY r l))++fY r l by rw[<-j];rfl);rw[j]at bl s;have bt:=jq (baseqq:=z<|G w) (v:=aw) (bs:=[]) (e:M) (w:=wr) (eE.nil _ _) bx (by simp) (by omega) (by omega);have e2:IntKind.u32.wrap (e:U)=e:=sA (by omega) (by omega);have HO:=Y f;have bf:=Y d;rw[j];have p:=Y j;clear b f d j;generalize fY r l=an at*;go_wp2_with fail
   apply bt.mono;rintro ao w3⟨v3,rfl,n,i⟩;have hA3:VW w w3 v3 (aY bg 0 e bc) ([]++le 4 (e:M)) an:=by
    have V:I az wr w3:=(I.fy i).mono (λav g=>by simp[cz]at g);have S:eE wr (z<|G w) (aY bg 0 e bc) an:=by have:=af HO;rw[af p]at this;exact this
    refine⟨n,V.own S<|λ_ _ cm=>cm,λav g hb=>?_,bf.bW V⟩;rcases i.uj with ch|⟨cd,ch,hy⟩
    .rw[ch]at g;cases g
    .rw[ch]at g;cases g;have:=(S.lt _ hb).2;omega
   have B:∀W,I az w W->Steps W:=λW a=>HT.below (a.below (ai _) cC) HT.lt;have bv:=qt (aY bg 0 e bc) an w3 (B _ hA3.ap) (eE.bytes hA3.body) (by rw[af p];omega);have t:=Y hA3;have ba:=Y B;clear hA3 n i B;go_wp2_with fail
   apply bv.mono;rintro ao w4⟨rfl,D⟩;subst w4;have bn:=vD an;have bm:=xq an;have T:=jq (kO an) t.head t.ap.size (by simp[bU]) bn bm;generalize kO an=cB at*;go_wp2_with fail
   apply T.mono;rintro ao w4⟨v4,rfl,O,D⟩;have hA4:=t.wrote D O;have bu:=Dl (ba _ hA4.ap) hA4.head hA4.ap.size (by simp[bU]);have ax:=Y hA4;clear O D hA4;go_wp2_with fail
   apply bu.mono;rintro ao w5⟨v5,rfl,P,ac⟩;have hA5:=ax.wrote ac P;have x:y ((([]++le 4 (e:M))++le 4 cB)++le 4 (kO<|([]++le 4 (e:M))++le 4 cB))=12:=by simp[bU]
   obtain⟨hx,bo,W⟩:=aC hA5.head;rw[x]at W;subst W;have cc:=hA5.ap.size;have o:=Y hA5;have aD:=Y x;clear P ac hA5 x;go_wp2_with(first
    |(at_builtin;go_loud(refine ct _ rfl (.tmp 36) (.tmp 37) 75 rfl (z (G w)) 5 i0 (.int .u8 0) 1 1 underlying75 bp bT ca cb rfl (by decide) (.slice hx 12 bo) 12 (((([]++le 4 (e:M))++le 4 cB)++le 4 (kO (([]++le 4 (e:M))++le 4 cB))).map (Value.int .u8)) rfl (by have h0:=o.head;unfold eE at h0;rw[af aD]at h0;exact h0) (R bg 0) e bc (an.map (Value.int .u8)) rfl (by rw[df,af p,qT]) (sU (eE.bytes o.body)) (by intro ck hu;simp only[bM]at hu;obtain⟨cd,_,rfl⟩:=hu;rfl) (by omega) (by omega) cc ?_;intro v6 w6 Q ad;have aV:=Y Q;have bh:=Y ad;clear Q ad)))
   go_ret;refine⟨_,rfl,?_,o.ap.trans (I.fy bh)<|λav g=>.inr (o.head.lt av g).1⟩;rw[af F];refine eE.of aV ?_ ?_
   .rw[ag,fC,af p,ag,bU,bU]
   .unfold gy;simp
def DW(N b d bf:M)(B c:dN)(O:U)(bm:0<=O)(bn:O<4294967296)(hT:Steps a)(bi:0<y B)(hB:y B<=100000)(hR:y c<=1000000000)(hL:bf=12+y B+y c)(bp:bf<=d)(bT:d<=9223372036854775807)(hb:Bytes a (aY N b bf d) (gy (le 4 (y B)++le 4 O)++B++c)):cD aZ 100 #[aY N b bf d] a λac w'=>∃bd br,ac=aJ (dd #[aY N (b+12) (y B)<|d-12,aY N bd (y c) br,aK<|kO B==O])/\y c<=br/\br<=9223372036854775807/\Bytes a (aY N (b+12) (y B)<|d-12) B/\Bytes a (aY N bd (y c) br) c/\I az a w':=by
 have C:N<z (G a):=hb.lt (by intro ac;have:=bQ y ac;grind) N rfl;have D:y (gy<|le 4 (y B)++le 4 O)=12:=by simp[gy,bU]
 have k:y (gy (le 4 (y B)++le 4 O)++B++c)=bf:=by rw[ag,ag,D,hL]
 rw[<-k]at hb;have i:=hb.take (n:=12) (by rw[k];omega);have f:=hb.Bq (n:=12) (by rw[k];omega);rw[bz,fU (by omega),dp<|by omega]at i;rw[k,bz,mf (by omega),pC (by omega),de]at f;obtain⟨e,hM⟩:∃e,bf-12=e:=⟨_,rfl⟩;obtain⟨L,hC⟩:∃L,d-12=L:=⟨_,rfl⟩;rw[hM,hC]at f;have x:y (B++c)=e:=by rw[ag];omega
 rw[<-x]at f;have p:=f.take (n:=y B) (by simp);rw[py]at p;have A:=f.Bq (n:=y B) (by simp);rw[sk,x]at A;have bb:=ww N b d (le 4 (y B)++le 4 O) hT (by simp[bU];omega) (by simp[bU]) (by grind[bU]);have ax:y (le 4 (y B)++le 4 O)=8:=by simp[bU]
 rw[ax]at bb;have t:Bytes a (aY N b 8 d) (le 4 (y B)++le 4 O):=by rw[<-D]at i;have r:=i.take (n:=8) (by omega);(have e8:(gy<|le 4 (y B)++le 4 O).take 8=le 4 (y B)++le 4 O:=by unfold gy;rw[fU (by omega),dp<|by omega]);rw[e8]at r;exact r
 have al:e-y B=y c:=by omega
 obtain⟨g,j⟩:∃g,y B=g:=⟨_,rfl⟩;obtain⟨RL,m⟩:∃RL,y c=RL:=⟨_,rfl⟩;obtain⟨cB,q⟩:∃cB,kO B=cB:=⟨_,rfl⟩;have v:∀W,I az a W->cD aZ 153 #[aY N (b+12) g L] W λac w'=>ac=aJ (dh cB)/\w'=W:=by intro W hW;have r:=hW.below (ai _) cC;rw[<-j,<-q];exact qt _ B W (hT.below r hT.lt) (p.below r (λbo s=>by cases s;exact C))<|by omega
 have bk:=vD B;have bl:=xq B;rw[q]at bk bl;obtain⟨Q,T,aa,bs⟩:=fX t v p A;rw[j,m]at al hL;rw[j]at bi hB;rw[m]at hR;obtain⟨l,S,bh⟩:=dz j m q;have e1:(12:U)<=(bf:U):=by omega
 have e2:(bf:U)<=(d:U):=by omega
 have e3:¬(bf:U)<12:=by omega
 have e4:¬(d=12):=by omega
 have e5:¬(d-12=0):=by omega
 have e6:(12:U)<=(d:U):=by omega
 have e7:(g:U)<=(e:U):=by omega
 have e8:(g:U)<=(L:U):=by omega
 have e9:¬((e:U)<(g:U)):=by omega
 have bt:IntKind.u64.wrap (g:U)=g:=by rw[fi];omega
 have bu:IntKind.u64.wrap (e:U)=e:=by rw[fi];omega
 have bv:(e:U)<=(L:U):=by omega
 have bq:∀(cb:Bool)(a:Z),(Op.unary .not<|aK cb).run aZ a=.ok (aK<|!cb) a:=λ_ _=>rfl;have bE:RL+g<=L:=by omega
 have bx:L<=9223372036854775807:=by omega
 clear hb i f t v p A hT j m q hL k x D ax;rw[af l,af S,hC,af bh];go_in
 go_wp2_with fail
 apply bb.mono;rintro ac K⟨rfl,o⟩;have aV:I az a K:=I.aQ o;have av:=mO (Q.below o (λbo s=>by cases s;exact C)) (by intro bo s;cases s;exact ah C o.size);have V:=Y aV;clear o aV;go_wp2_with fail
 apply av.mono;rintro ac w2⟨rfl,u,F⟩;have ba:I az K w2:=by rw[F];exact(cK _ K)
 have ca:z (G K)<z (G w2):=by rw[F];simp
 have bc:=rO (z<|G K) (g:M) (le 4 O) w2 (by rw[<-af l];exact u) (jn.le 4 _) (by simp[bU]) (by omega) (by omega);have bg:=Y ba;clear u F ba av;go_wp2_with fail
 apply bc.mono;rintro ac w3⟨rfl,aD,an⟩;have w:=rO (z<|G K) O [] w3 (by grind) (by intro cb hx;cases hx) (by simp) bm bn;have ao:=Y an;clear aD an bc;go_wp2_with fail
 apply w.mono;rintro ac P⟨rfl,aF,au⟩;have E:I az a P:=by have h3:I (λbo=>bo=z (G K)) w2 P:=(fj ao).trans (fj au)<|λ_ h=>.inl h;exact(V.bW bg).trans h3<|λbo s=>.inr (by have:=V.size;omega)
 have aU:∀W,W.heap=P.heap->W.os=P.os->W.tape=P.tape->W.output=P.output->cD aZ 153 #[aY N (b+12) g L] W λac w'=>ac=aJ (dh cB)/\w'=W:=λW a c h3 d=>T W (E.of_heap<|by rw[a,c,h3,d]);have X:=Y E;clear aF au w E;by_cases ad:L=g;(·(obtain rfl:RL=0:=by omega);(obtain rfl:e=L:=by omega);subst ad;clear al;(go_wp2_with fail);(go_quiet(first|(go_at_call 153;refine Calls.quiet_of_same (aU _ rfl rfl rfl rfl))));go_wp2;(go_ret3);refine⟨b+12,0,rfl,ai _,by omega,?_,?_,X.of_heap rfl⟩;have h:=af aa;rw[af l]at h;exact h;obtain rfl:=aP S;exact .inr ⟨N,b+12,0,rfl,ai _,λbo s=>absurd s<|gC bo⟩);(have r:¬(L-g=0):=by omega);have d2:¬(L=g):=ad;(go_wp2_with fail);(go_quiet(first|(go_at_call 153;refine Calls.quiet_of_same (aU _ rfl rfl rfl rfl))));go_wp2;(go_ret3);refine⟨b+12+g,L-g,rfl,by omega,by omega,?_,?_,X.of_heap rfl⟩;have h:=af aa;rw[af l]at h;exact h;grind[af]
def Kw(f b c L:M)(B a:dN){w:Z}(m:Steps w)(g:0<y B)(j:y B<=100000)(l:y a<=1000000000)(k:L=12+y B+y a)(d:L<=c)(h:c<=9223372036854775807)(n:Bytes w (aY f b L c) (gy (le 4 (y B)++le 4 (kO B))++B++a)):cD aZ 100 #[aY f b L c] w λp o=>∃e i,p=aJ (dd #[aY f (b+12) (y B)<|c-12,aY f e (y a) i,aK ci])/\y a<=i/\i<=9223372036854775807/\Bytes w (aY f (b+12) (y B)<|c-12) B/\Bytes w (aY f e (y a) i) a/\I az w o:=by
 have q:=DW f b c L B a (kO B) (vD B) (xq B) m g j l k d h n;simpa using q
def Kv(q b c L:M)(d:dN)(l:Steps a)(r:L=y d)(k:12<=y d)(A:y d<=1000000000)(o:L<=c)(s:c<=9223372036854775807)(g:ui (d.take 12))(m:Bytes a (aY q b L c) d):cD aZ 100 #[aY q b L c] a λu t=>u=aJ (dd #[aw,aw,aK bj])/\I az a t:=by
 subst r;have e:=m.take (n:=12) k;have i:=yJ q b 12 c (d.take 12) l g (by rw[dj];omega) (by omega) (by omega) e;have v:(12:U)<=(y d:U):=by omega
 have w:¬(y d:U)<12:=by omega
 have x:(12:U)<=(c:U):=by omega
 have p:∀(x:Bool)(a:Z),(Op.unary .not<|aK x).run aZ a=.ok (aK<|!x) a:=λ_ _=>rfl;clear m e l g;generalize y d=L at*;go_in
 go_wp2_with fail
 apply i.mono;rintro u B⟨rfl,f⟩;have j:=Y<|I.aQ (S:=az) f;clear f i;go_wp2;go_ret3
 exact⟨rfl,j⟩
structure Wq(w0 w:Z)(rb:M)(l:cI)(o:ab)(m:M):Prop where
 own:w.ownsRow (z<|G w0) 170 4 o m (aI<|l.take m)
 rd:Rd w rb ((l.drop m).flatMap nP) bj
 ap:I az w0 w
 SA:z (G w0)<=rb
 uO:∀k,cz o=H k->rb<k
def Af(h:∀x∈e,x.Good):jn (e.flatMap nP):=by
 intro x a;obtain⟨c,b,a⟩:=nL.1 a;exact Ae (h c b) x a
def Da(ck k ad:M)(l:cI)(bc:U)(w:Z)(hg:∀P∈l,P.Good)(hn:∀P∈l,P.bJ=bc)(bt:0<=bc)(bu:bc<18446744073709551616)(h1:1<=y l)(h8:y l<=8)(hb:Bytes w (aY ck k (y<|fY bc l) ad) (fY bc l)):cD aZ 101 #[aY ck k (y<|fY bc l) ad,aE bc] w λca w'=>
 ∃a,ca=aJ (dd #[a,aK ci])/\w'.ownsRow (z<|G w) 170 4 a (y l) (aI l)/\I az w w':=by
 obtain⟨i0,av,aV,ba,bb⟩:=cU mP
 have bs:=nB hg
 have br:ck<z (G w):=hb.lt (by unfold fY;simp_all) ck rfl
 have F:=mO hb (by intro o e;cases e;exact br)
 obtain⟨aa,hN⟩:∃aa,y l=aa:=⟨_,rfl⟩
 obtain⟨BL,al⟩:∃BL,y (fY bc l)=BL:=⟨_,rfl⟩
 rw[al]at F|-
 have cc:∀(P:Bool)(w:Z),(Op.unary .not<|aK P).run aZ w=.ok (aK<|!P) w:=λ_ _=>rfl
 obtain⟨Q,HG,bf⟩:=dz hN hg hn
 rw[hN]at h1 h8
 clear hb hg hn al hN
 go_in
 go_wp2_with fail
 apply F.mono
 rintro ca w1⟨rfl,t,K⟩
 have aU:I az w w1:=by rw[K];exact(cK _ w)
 have ce:z (G w)<z (G w1):=by rw[K];simp
 have r:=Af HG
 have cb:y (l.flatMap nP)<=280:=by rw[af Q]at bs;omega
 have ax:=zV (z<|G w) bc ((aa:U)::l.flatMap nP) w1 (by have h:=t;unfold fY at h;rw[af Q]at h;exact h) (by intro P N;rcases bR.1 N with rfl|N;omega;exact r P N) (by rw[aW];omega) bt bu
 have bn:=Y aU
 clear t K aU F
 go_wp2_with fail
 apply ax.mono
 rintro ca w2⟨rfl,u,B⟩
 have ao:=VN (z<|G w) (aa:U) w2 u r (by omega) (by omega)<|by omega
 have ch:=B.size
 have bg:=Y B
 clear u B ax
 go_wp2_with fail
 apply ao.mono
 rintro ca w3⟨rfl,v,C⟩
 have bm:=Y v
 have cj:=C.size
 have bh:=Y C
 clear v C ao
 have e1:¬((aa:U)<1):=by omega
 have e2:¬((8:U)<(aa:U)):=by omega
 go_wp2_with(first
  |(at_make;go_loud(refine ki _ rfl _ _ 87 rfl (z (G w)) 170 i0 vP 4 underlying87 av aV ba _ _ _ aa rfl rfl (by omega) (by rw[bb];omega) (by unfold maxLen;omega) (by omega) ?_;intro w4 s p;have bi:=Y s;have A:=Y p;clear s p)))
 have co:=A.size
 have hA0:Wq w w4 (z<|G w) l (aY (z<|G w3) 0 0 aa) 0:=by
  have a:I (λo=>o=z (G w)) w1 w3:=(fj bg).trans (fj bh)<|λ_ h=>.inl h;have b:I az w w3:=bn.trans a (λo e=>.inr<|by omega);refine⟨bi,bm.laid A,b.bW (I.dW (S:=az) A<|by simp),ai _,?_⟩;intro o e;simp[cz]at e;omega
 have bd:=Y hA0
 clear hA0
 go_loopw [8,28] (λo i wr=>∃m:M,m<=aa/\i=qV m/\Wq w wr (z<|G w) l o m) (λ_ i _=>aa-(intOf i).toNat)
 case atStart=>exact⟨0,bG _,rfl,bd⟩
 case round=>
  obtain⟨m,hm,rfl,d⟩:=hrel;have c:=d.own;obtain⟨ox,oc,ho⟩:=aC c;have cn:=d.ap.size;have cd:=d.rd.lt;have HA:=Y d;by_cases aD:m<aa
  .have g:m<y l:=by rw[af Q];exact aD
   have n:=HG l[m]<|ak g;have an:=bf l[m]<|ak g;have f:=d.rd;rw[bD g,dI]at f;have q:jn ((l.drop<|m+1).flatMap nP):=Af<|λP N=>HG P<|dH N;have D:y ((l.drop<|m+1).flatMap nP)<=280:=by
    have L:=nB (l:=l.drop<|m+1)<|λP N=>HG P<|dH N;grind[af]
   have cl:=BS n;have b:=FB (z<|G w) ((l.drop<|m+1).flatMap nP) wr f ((Ae n).append q) (by grind) n;have bp:=Y (show aI (l.take m)++aI [l[m]]=aI (l.take<|m+1)by rw[<-fI,aj g]);clear d c f q D n;generalize l[m]=P at*;obtain⟨W,X,V,T⟩:=P;simp only at b an;subst an;unfold E.value at b;simp only at b;subst ho;go_wp2_with fail
   apply b.mono;rintro ca O⟨rfl,aF,au⟩;have i:I (λo=>o=z (G w)) wr O:=fj au;have j:=aX (aX (i.own HA.own (λo e c=>by have:=HA.uO o e;omega))<|ay #[am W,am X,aK V,aE T] 170)<|ay #[am W,am X,aK V,aE T] 170;have cm:=i.size;obtain⟨ac,bo,bl⟩:=dz j i aF;clear aF au j i;go_wp2_with(first
    |(at_builtin;go_loud(refine ct _ rfl (.tmp 39) (.tmp 41) 87 rfl (z (G w)) 170 i0 vP 4 48 underlying87 av aV ba bb rfl (by decide) (.slice ox m oc) m (aI (l.take m)) rfl ac (R (z (G O)+1) 0) 1 1 (aI [⟨W,X,V,T⟩]) rfl rfl (xV ⟨W,X,V,T⟩ _ (by simp)) (Bb _) (by omega) (by omega) (by simp;omega) ?_;intro o2 w6 a x;have bk:=Y a;have bq:=Y x;clear a x)))
   go_roundw;case rel=>
    refine⟨m+1,aD,by go_num,?_⟩;have d:=af HA;have i:=af bo;have L:=af bq;have a:=af bk;have bv:=d.own.lt;have bT:I (λo=>cz (J ox m oc)=H o) O w6:=(((I.refl (λo=>cz (J ox m oc)=H o) O).alloc _).alloc _).trans (I.fy L)<|λo e=>.inl e;refine⟨by rw[<-af bp];exact a,?_,(d.ap.trans i<|λo e=>.inr<|by omega).trans bT<|λo e=>.inr (bv o e).1,d.SA,?_⟩
    .have hr:=af bl;have bx:=hr.laid<|dy O (ay #[am W,am X,aK V,aE T] 170) none;have bE:=bx.laid<|dy _ (ay #[am W,am X,aK V,aE T] 170) none;exact bE.wrote L d.uO
    .intro o e;rcases L.uj with bx|⟨bE,bx,hy⟩
     .exact d.uO o<|bx.symm.trans e
     .rw[bx]at e;cases e;simp at hy;omega
   case measure=>simp[intOf];omega
  .have j:m=aa:=by omega
   subst j;have g:l.take m=l:=by rw[<-af Q,bL]
   have b:l.drop m=[]:=by rw[<-af Q,fZ]
   have f:=d.rd;rw[b]at f;have a:=xp f (by simp);simp only[uq,ql,lR,tT]at a;rw[ho,g]at c;have n:=Y c;have i:=Y d.ap;clear d c f b g;subst ho;go_wp2_with fail
   apply a.mono;rintro ca O⟨rfl,q⟩;subst O;go_wp2;go_ret2
   exact⟨_,rfl,by rw[af Q];exact n,i⟩
def jg:U->dJ->dN
 |_,[]=>[]
 |f,l::r=>mF f l++jg (f+1) r
structure vI(f:U)(ls:dJ):Prop where
 iH:∀l∈ls,∀x∈l,x.Good
 num:∀i(hi:i<y ls),∀x∈ls[i],x.bJ=f+i
 one:∀l∈ls,1<=y l/\y l<=8
 sum:(ls.map y).sum<32
 f0:0<=f
 f1:f+y ls<18446744073709551616
def BR{n:U}(h:∀x∈e,x.Good)(a:y e<=8):y (mF n e)<=400:=by
 have:=nB h;unfold mF fY;grind[length_append,fC,bU,length_cons]
def oT{f:U}{lsqq:dJ}(h:∀l∈lsqq,(∀x∈l,x.Good)/\y l<=8):y (jg f lsqq)<=400*y lsqq:=by
 induction lsqq generalizing f with
 |nil=>simp[jg]
 |cons l r b=>
  have a:=BR (n:=f) (h l<|by simp).1 (h l<|by simp).2;have c:=b (f:=f+1) (λx a=>h x<|by simp[a]);rw[jg,ag,aW];omega
def yK(h:∀a∈l,1<=y a):y l<=(l.map y).sum:=by
 induction l with
 |nil=>simp
 |cons a r b=>
  have c:=h a (by simp);have d:=b (λx a=>h x<|by simp[a]);grind
def Jd(w:Z)(b:M)(c:iF)(a:dJ):Prop:=y c=y a/\∀i(d:i<y c)(e:i<y a),w.ownsRow b 170 4 c[i] (y a[i])<|aI a[i]
def QL:(prog.info? 87).map (λi=>(i.zero,i.size,i.bytes))=H (H aw,1,24):=by kernel_rfl
structure LR(tl:dN)(w0 w:Z)(f:U)(ls:dJ)(b zqq c m:M)(o:ab)(vs:iF):Prop where
 box:w.heap[z (G w0)+1]?=H (ay #[o,aK bj] 137 (0,0))
 JR:w.heap[z<|G w0]?=H (ay #[aw,aK bj] 137 (0,0))
 own:w.ownsRow (z (G w0)+2) 87 1 o m vs
 XB:Jd w (z (G w0)+2) vs (ls.take m)
 bytes:Bytes w0 (aY b zqq (y<|jg (f+m) (ls.drop m)++tl) c) (jg (f+m) (ls.drop m)++tl)
 cap:y (jg (f+m) (ls.drop m)++tl)<=c/\c<=9223372036854775807
 ap:I az w0 w
def EU(h:b<y l):((l.take<|b+1).map y).sum=((l.take b).map y).sum+y l[b]:=by
 rw[aj h,aR,iO];simp
def BJ(a:dJ)(m:M):((a.take m).map y).sum<=(a.map y).sum:=by
 have h:=bQ (λl=>(l.map y).sum)<|bX m a;grind
def LR.step{c L w1 w2:Z}{O E N z' c' m:M}{q o2 bv:ab}{g:Obj}(r:LR n c L k l O E N m q A)(hm:m<y l)(j:I az L w1)(Q:w1.ownsRow (z<|G L) 170 4 bv (y l[m]) (aI l[m]))(K:w2.ownsRow (z (G c)+2) 87 1 o2 (m+1) (A++[bv]))(hw:eC (cG w1 g) w2 q o2)(t:Bytes c (aY O z' (y<|jg (k+(m+1:M)) (l.drop<|m+1)++n) c') (jg (k+(m+1:M)) (l.drop<|m+1)++n))(v:y (jg (k+(m+1:M)) (l.drop<|m+1)++n)<=c'/\c'<=9223372036854775807):LR n c (cA w2 (R (z (G c)+1) 0) o2) k l O z' c' (m+1) o2 (A++[bv])/\aS w2 (R (z (G c)+1) 0)=H q/\w2.frozen? (R (z (G c)+1) 0)=bj:=by
 have hz:=ar r.box;have aa:=r.ap.size;have f:=bK r.own;have o:I (λb=>cz q=H b) w1 w2:=((I.refl (λb=>cz q=H b) w1).alloc g).trans (I.fy hw)<|λ_ a=>.inl a;have x:I (λb=>cz q=H b) L w2:=(j.mono (T:=λb=>cz q=H b) cC).trans o<|λ_ a=>.inl a;have p:∀b,cz q=H b->∃h,L.heap[b]?=H (ay h 87 (0,0)):=λb a=>fR r.own a;have e:w2.heap[z (G c)+1]?=H (ay #[q,aK bj] 137 (0,0)):=(x.block _ hz (λP=>by have:=(f _ P).1;omega)).trans r.box;have d:I (λb=>b=z (G c)+1) w2 (cA w2 (R (z (G c)+1) 0) o2):=(I.refl _ w2).setCell _ 0 _<|.inl rfl;refine⟨⟨?_,?_,?_,?_,t,v,?_⟩,by rw[bV e];rfl,cZ e⟩;have:=aL (i:=0) (u:=o2) e;grind
 exact(iI _<|by omega).trans<|(x.block _ (ar r.JR) (λP=>by have:=(f _ P).1;omega)).trans r.JR;exact d.own K (λb a N=>by have:=(bK K b a).1;omega);obtain⟨v1,v2⟩:=r.XB;(have B:y A=m:=by rw[v1];simp;omega);refine⟨by grind,λs h1 h2=>?_⟩;(have C:∀(V:Z)(ad:ab)(ac:M)(D:iF),V.ownsRow (z (G c)+2) 170 4 ad ac D->I (λb=>cz q=H b) V w2->(∀b,cz q=H b->∃h,V.heap[b]?=H (ay h 87 (0,0)))->(cA w2 (R (z (G c)+1) 0) o2).ownsRow (z (G c)+2) 170 4 ad ac D:=by intro V ad ac D X w W;have i:=w.own X (λb a N=>by grind[fR,ld]);exact d.own i (λb a N=>by have:=(bK i b a).1;omega));rcases gA s m with S|S;(have F:(A++[bv])[s]=A[s]'(by omega):=tR (by omega);grind);(have w:s=m:=by grind);subst w;(have F:(A++[bv])[s]=bv:=by rw[sY<|by omega];simp[B]);have D:(l.take<|s+1)[s]=l[s]:=jY;rw[F,D];refine C w1 _ _ _ (fM Q<|by omega) o<|λb a=>?_;obtain⟨h,i⟩:=p b a;exact⟨h,(j.block b (ar i) id).trans i⟩;exact(r.ap.trans x<|λb a=>.inr (by have:=(f b a).1;omega)).trans d<|λb a=>.inr<|by omega
def BP{c:Func}{p u:Tmp}(j:c.results=#[.cell p 137,.tmp u])(a:Array ab)(w:Z)(g:M)(x:Option Addr)(n k:M)(e:Bool)(t:TypeId)(d:M×M)(i:a.getD p ix=aA g)(f:w.heap[g]?=H (ay #[J x n k,aK e] t d)):(results c a).run aZ w=.ok (dd #[dD #[J x n k,aK e],a.getD u ix]) w:=by
 have b:a[p]?.getD ix=aA g:=by simpa using i
 have h:=kj (P:=aZ) w g t 137 #[J x n k,aK e] d _ f underlying137 rfl (by kernel_rfl);simp[results,j,b,asAddr,h,Result.andThen]
def Bytes.back(o:Bytes f (aY b c g m) n)(j:I az a f)(h:b<z (G a)):Bytes a (aY b c g m) n:=by
 rcases o with⟨e,_⟩|⟨k,p,l,e,d,i⟩;cases e;cases e;exact .inr ⟨_,_,_,rfl,d,λk e=>(da (w:=a)<|j.block _ h id).symm.trans<|i k e⟩
def Sq:ab->M
 | .slice _ n _=>n
 |_=>0
def Pw(x:Option Addr)(n c:M):Sq (J x n c)=n:=rfl
def PN(f:U)(a:dJ)(m:M)(h:m<y a):jg (f+(m:M)) (a.drop m)=gy (le 4 (y<|fY (f+(m:M)) a[m])++le 4 (kO<|fY (f+(m:M)) a[m]))++fY (f+(m:M)) a[m]++jg (f+((m+1:M):M)) (a.drop<|m+1):=by
 rw[bD h,jg];unfold mF;grind
structure EM(bs:dN):Prop where
 pos:0<y bs
 call:∀(w:Z)(b zqq c:M),Steps w->y bs<=c->c<=9223372036854775807->Bytes w (aY b zqq (y bs) c) bs->cD aZ 100 #[aY b zqq (y bs) c] w λe w'=>∃x1 n1 c1 x2 n2 c2,e=aJ (dd #[J x1 n1 c1,J x2 n2 c2,aK bj])/\I az w w'
def BZ{Xqq:Prop}{tl:dN}(bu:tl=[]\/Xqq/\EM tl)(dT:y tl<=1000000)(aU i t:M)(hT:Steps a)(hP:vI k l)(bp:y (jg k l++tl)<=t)(cl:t<=9223372036854775807)(x:aU<z (G a))(hb:Bytes a (aY aU i (y<|jg k l++tl) t) (jg k l++tl)):cD aZ 56 #[aY aU i (y<|jg k l++tl) t,aE k] a λbi w'=>Xqq/\bi=aJ (dd #[dD #[aw,aK bj],aK bj])/\I az a w'\/tl=[]/\∃dk X K,bi=aJ (dd #[dD #[J dk (y l) X,aK bj],aK ci])/\w'.ownsRow (z (G a)+2) 87 1 (J dk (y l) X) (y l) K/\Jd w' (z (G a)+2) K l/\I az a w':=by
 obtain⟨i0,cn,cu,cv,cw⟩:=cU QL;have db:∀(dk:Bool)(a:Z),(Op.unary .not<|aK dk).run aZ a=.ok (aK<|!dk) a:=λ_ _=>rfl;have cT:y l<32:=Nat.lt_of_le_of_lt (yK<|λs T=>(hP.one s T).1) hP.sum;have ds:=hP.f0;have dv:=hP.f1;obtain⟨RL,an⟩:∃RL,y (jg k l++tl)=RL:=⟨_,rfl⟩;have hA0:LR tl a (cG (cG a<|ay #[aw,aK bj] 137)<|ay #[aw,aK bj] 137) k l aU i t 0 aw []:=by refine⟨aH _ (by simp),(eU _<|by simp).trans<|aH _ rfl,cO _ _ _ _,⟨rfl,λba h1=>absurd h1<|gC ba⟩,?_,?_,(cK _ a).alloc _⟩;simpa using hb;grind
 obtain⟨aa,HT,HP,ch⟩:=fX hA0 hT hP an;rw[an];have bh:=Y bu;clear hA0 hT hP hb bp cl an bu;go_in
 go_wp2;go_loopw [0,7] (λbv b wr=>∃m f aV ed K,m<=y l/\bv=aY aU f (y<|jg (k+(m:M)) (l.drop m)++tl) aV/\b=aq (((l.take m).map y).sum:M)/\LR tl a wr k l aU f aV m ed K) (λbv _ _=>Sq bv)
 case atStart=>exact⟨0,i,t,_,_,bG _,by rw[<-af ch];simp,rfl,aa⟩
 case round=>
  obtain⟨m,f,aV,ed,K,hm,rfl,rfl,b⟩:=hrel;have E:∀al,I az wr al->Steps al:=λal hW=>HT.below ((b.ap.bW hW).below (ai _) cC) HT.lt;obtain⟨r,p,ho⟩:=aC b.own;have A:=cellAt b.box 0 rfl;have dn:=cellAt b.box 1 rfl;have ea:=b.ap.size;have bE:=ar b.box;by_cases v:m<y l
  .have V:=ak v;have F:=HP.iH _ V;have w:=HP.num m v;have N:=HP.one _ V;have O:=EU v;have br:=BJ l<|m+1;have cs:=HP.sum;have bq:jg (k+(m:M)) (l.drop m)++tl=gy (le 4 (y<|fY (k+(m:M)) l[m])++le 4 (kO<|fY (k+(m:M)) l[m]))++fY (k+(m:M)) l[m]++(jg (k+((m+1:M):U)) (l.drop<|m+1)++tl):=by rw[PN k l m v,bz]
   have n:=b.bytes;have e:=b.cap;have aF:y (jg (k+((m+1:M):U)) (l.drop<|m+1)++tl)<=400*y (l.drop<|m+1)+y tl:=by
    rw[ag];exact Nat.add_le_add_right (oT (f:=k+((m+1:M):U)) (lsqq:=l.drop<|m+1)<|λs T=>⟨HP.iH s<|dH T,(HP.one s<|dH T).2⟩) _
   have cm:y (l.drop<|m+1)<=32:=by simp;omega
   rw[bq]at n e|-;have HA:=Y b;obtain⟨s,T⟩:∃s,l[m]=s:=⟨_,rfl⟩;rw[T]at F w N O n e|-;have cb:=Y T;obtain⟨q,hq⟩:∃q:U,k+(m:M)=q:=⟨_,rfl⟩;rw[hq]at w n e|-;have co:0<=q:=by omega
   have cp:q<18446744073709551616:=by omega
   obtain⟨c,au⟩:∃c,jg (k+((m+1:M):U)) (l.drop<|m+1)++tl=c:=⟨_,rfl⟩;rw[au]at n e aF|-;have ck:y (fY q s)<=1000:=by have:=nB F;unfold fY;rw[ag,aW,bU];omega
   have Q:0<y (fY q s):=by unfold fY;rw[ag,bU];omega
   have o:y (gy (le 4 (y<|fY q s)++le 4 (kO<|fY q s))++fY q s++c)=12+y (fY q s)+y c:=by grind[length_append,fC,bU]
   have S:Bytes wr (aY aU f (y<|gy (le 4 (y<|fY q s)++le 4 (kO<|fY q s))++fY q s++c) aV) (gy (le 4 (y<|fY q s)++le 4 (kO<|fY q s))++fY q s++c):=n.below (b.ap.below (ai _) cC) (λX C=>by cases C;exact x);have hcut:=Kw aU f aV _ (fY q s) c (w:=wr) (E wr<|I.refl _ _) Q (by omega) (by omega) o e.1 e.2 S;have j:=b.own;rw[ho]at j A;have ce:=Y j;obtain⟨LL,bl⟩:∃LL,y (gy (le 4 (y<|fY q s)++le 4 (kO<|fY q s))++fY q s++c)=LL:=⟨_,rfl⟩;rw[bl]at hcut o|-;obtain⟨P,D⟩:∃P,y s=P:=⟨_,rfl⟩;obtain⟨BL,B⟩:∃BL,y (fY q s)=BL:=⟨_,rfl⟩;have bf:=Y<|λ(al:Z)(hW:I az wr al)(av:Bytes al (aY aU (f+12) BL<|aV-12) (fY q s))=>Da aU (f+12) (aV-12) s q al F w co cp N.1 N.2 (by rw[B];exact av);have W:∀al,I az wr al->Bytes al (aY aU (f+12) BL<|aV-12) (fY q s)->cD aZ 101 #[aY aU (f+12) BL<|aV-12,aE q] al λbi w'=>∃a,bi=aJ (dd #[a,aK ci])/\w'.ownsRow (z<|G al) 170 4 a P (aI s)/\I az al w':=by
    intro al hW av;have h:=bf al hW av;rw[B,D]at h;exact h
   have bg:=Y W;have cc:=Y D;rw[B]at hcut o;obtain⟨RN,ao⟩:∃RN,y c=RN:=⟨_,rfl⟩;rw[ao]at hcut o aF;rw[D]at O N;obtain⟨S0,bm⟩:∃S0,((l.take m).map y).sum=S0:=⟨_,rfl⟩;rw[bm]at O|-;obtain⟨cj,ad,ac,HQ⟩:=fX O au ao hq;have bk:(0:U)<(LL:U):=by omega
   have a1:IntKind.u64.wrap (m:U)=m:=by rw[fi];omega
   have a2:IntKind.u64.wrap q=q:=by rw[fi];omega
   have a3:IntKind.i64.wrap ((S0:U)+(P:U))=(S0:U)+P:=by rw[bS];omega
   have a4:¬((32:U)<=(S0:U)+(P:U)):=by omega
   have a5:k+(m:U)=q:=hq;have he:∀(b:Addr)(n X:M)(a:Z),(binOp .eql 75 (J (H b) n X) aw).run aZ a=.ok (aK bj) a:=λ_ _ _ _=>rfl;have bb:=Y (show RN<LL by omega);clear E b F w br cs bq n e aF cm T hq au ck Q o S bl D B W j ao bm bf;subst ho;go_wp2_with fail
   apply hcut.mono;rintro bi w1⟨z',c',rfl,g1,g2,bn,bo,g⟩;have cE:aS w1 (R (z (G a)+1) 0)=H (J r m p):=g.cell A id bE;have bt:=bg w1 g<|bn.below (g.below (ai _) cC) (λX C=>by cases C;show aU<z (G wr);omega);have L:=Y g;have ca:=Y bo;clear bn bo g hcut;go_wp2_with fail
   apply bt.mono;rintro bi w2⟨bv,rfl,aD,bs⟩;obtain⟨cB,cx,rfl⟩:=aC aD;have d:I az wr w2:=L.bW bs;have cM:aS w2 (R (z (G a)+1) 0)=H (J r m p):=d.cell A id bE;have dc:=d.size;obtain⟨bc,cd,bd⟩:=dz (d.own ce<|λ_ _ aV=>aV) (fM aD L.size) d;clear aD bs d bt;go_wp2_with(first
    |(at_builtin;go_loud(refine ct _ rfl (.tmp 50) (.tmp 52) 135 rfl (z (G a)+2) 87 i0 aw 1 24 underlying135 cn cu cv cw rfl (by decide) (.slice r m p) m K rfl (aX bc _) (R (z (G w2)) 0) 1 1 [.slice cB P cx] rfl rfl (pq _ _ _) (by simp[Value.oneCell']) (by omega) (by omega) (by simp;omega) ?_;intro o2 w3 ax bx;obtain⟨hA3,dm,dx⟩:=HA.step (z':=z') (c':=c') (w1:=w2) (w2:=w3) (o2:=o2) (bv:=.slice cB P cx) v bd (by rw[af cb];have h:=af cd;have bi:=af cc;rw[<-bi]at h;rw[bi];rw[bi]at h;exact h) ax bx (by rw[af ad];have hh:=ca.back HA.ap x;rw[<-af ac]at hh;exact hh) (by rw[af ad,af ac];simp_all);obtain⟨ec,eb,rfl⟩:=aC ax;have bT:=Y hA3;clear ax bx hA3)))
   go_roundw;case rel=>exact⟨m+1,z',c',_,_,v,by rw[af ad,af ac],by rw[af cj];go_num,bT⟩
   case measure=>
    simp only[Pw];exact bb
  .have D:m=y l:=by omega
   have P:l.drop m=[]:=by rw[D,fZ]
   have o:jg (k+(m:M)) (l.drop m)++tl=tl:=by rw[P];rfl
   rw[o];rcases af bh with w|⟨hX,B⟩;rotate_left
   .have hcut:=B.call wr aU f aV (E wr<|I.refl _ _) (by have:=b.cap.1;rw[o]at this;exact this) b.cap.2 (by
     have:=b.bytes;rw[o]at this;exact this.below (b.ap.below (ai _) cC) (λX C=>by cases C;exact x))
    have S:=B.pos;have F:=b.ap;have c:=b.JR;have r0:=cellAt c 0 rfl;have r1:=cellAt c 1 rfl;have r2:=cZ (i:=0) c;have r3:=cZ (i:=1) c;have bk:(0:U)<(y tl:U):=by omega
    generalize y tl=LL at*;obtain⟨W,N⟩:=And.intro (Y F) (Y c);clear E b F c o P D bh B S aa;subst ho;go_wp2_with fail
    apply hcut.mono;rintro bi w1⟨x1,n1,c1,x2,n2,c2,rfl,g⟩;have d:=(g.block _ (ar N) id).trans N;have s0:=cellAt d 0 rfl;have s1:=cellAt d 1 rfl;have s2:=cZ (i:=0) d;have s3:=cZ (i:=1) d;obtain⟨L,O⟩:=And.intro (Y g) (Y d);clear g d hcut;go_wp2;have n:I (λX=>X=z (G a)) w1 (cA (cA w1 (R (z<|G a) 0) aw) (R (z<|G a) 1)<|aK bj):=(iV (z<|G a) w1).setCell (z<|G a) 1 _<|.inl rfl;have q1:(cA (cA w1 (R (z<|G a) 0) aw) (R (z<|G a) 1)<|aK bj).heap[z<|G a]?=H (ay #[J none 0 0,aK bj] 137 (0,0)):=(aL (i:=1) (u:=aK bj)<|aL (i:=0) (u:=aw) O).trans rfl;refine cg (BP rfl _ _ (z<|G a) none 0 0 bj _ _ rfl q1) rfl ?_;exact .inl ⟨hX,rfl,(W.bW L).trans n<|λX C=>.inr<|by omega⟩
   subst w;have V:l.take m=l:=by rw[D,bL]
   have ac:z (G a)<z (G wr):=ar b.JR;have r0:=cellAt b.JR 0 rfl;have r1:=cellAt b.JR 1 rfl;have r2:=cZ (i:=0) b.JR;have r3:=cZ (i:=1) b.JR;have j:=b.own;have e:=b.XB;have F:=b.ap;have c:=b.JR;rw[ho]at j A;rw[V]at e;rw[D]at j A;clear o;show Code.wp _ _ _ _ _;have Q:=Y (show(cA (cA wr (R (z<|G a) 0)<|J r (y l) p) (R (z<|G a) 1)<|aK bj).heap[z<|G a]?=H (ay #[J r (y l) p,aK bj] 137 (0,0))/\(cA (cA wr (R (z<|G a) 0)<|J r (y l) p) (R (z<|G a) 1)<|aK bj).ownsRow (z (G a)+2) 87 1 (J r (y l) p) (y l) K/\Jd (cA (cA wr (R (z<|G a) 0)<|J r (y l) p) (R (z<|G a) 1)<|aK bj) (z (G a)+2) K l/\I az a (cA (cA wr (R (z<|G a) 0)<|J r (y l) p) (R (z<|G a) 1)<|aK bj)from by
    have n:I (λX=>X=z (G a)) wr (cA (cA wr (R (z (G a)) 0) (J r (y l) p)) (R (z (G a)) 1) (aK bj)):=(iV (z (G a)) wr).setCell (z (G a)) 1 _ (.inl rfl);refine⟨?_,n.own j (λX C aV=>by have:=(bK j X C).1;omega),⟨e.1,λba h1 d=>n.own (e.2 ba h1 d) (λX C aV=>by have:=(bK (e.2 ba h1 d) X C).1;omega)⟩,F.trans n (λX C=>.inr (by omega))⟩;have d:=aL (i:=1) (u:=aK bj) (aL (i:=0) (u:=J r (y l) p) c);simpa using d)
   subst D;clear b E j e F c P V aa HP;subst ho;have o:y ([]:dN)=0:=rfl;rw[o];go_wp2;obtain⟨q1,q2,q3,q4⟩:=af Q;refine cg (BP rfl _ _ (z<|G a) r (y l) p bj _ _ rfl q1) rfl ?_;first
    |exact .inr ⟨rfl,r,p,rfl,K,q2,q3,q4⟩
    |exact .inr ⟨rfl,r,p,K,rfl,q2,q3,q4⟩
    |exact .inr ⟨r,p,rfl,K,q2,q3,q4⟩
def Ia(h b c:M)(m:Steps a)(j:vI k l)(e:y (jg k l)<=c)(g:c<=9223372036854775807)(d:h<z (G a))(n:Bytes a (aY h b (y<|jg k l) c) (jg k l)):cD aZ 56 #[aY h b (y<|jg k l) c,aE k] a λo f=>
 ∃x c b,o=aJ (dd #[dD #[J x (y l) c,aK bj],aK ci])/\f.ownsRow (z (G a)+2) 87 1 (J x (y l) c) (y l) b/\Jd f (z (G a)+2) b l/\I az a f:=by
 have i:=BZ (Xqq:=False) (tl:=[]) (.inl rfl) (by simp) h b c m j (by simpa using e) g d<|by simpa using n
 rw[dO]at i
 exact i.mono<|λo f i=>i.elim (λc=>c.1.elim) (·.2)
def iY.append{a:dN}(i:iY n (V++a)):(∃e,n=e++a/\iY e V)\/∃f,n=V++f/\iY f a:=by
 obtain⟨p,u,v,s,h,rfl,c,d⟩:=i;rcases sZ.1 h with⟨r,rfl,b⟩|⟨r,rfl,b⟩;exact .inr ⟨r++v::s,by simp,r,u,v,s,b,rfl,c,d⟩
 .cases r with
  |nil=>
   refine .inr ⟨v::s,by simp,[],u,v,s,by simpa using b.symm,rfl,c,d⟩
  |cons g r=>
   cases b;exact .inl ⟨p++v::r,by simp,p,u,v,r,rfl,rfl,c,d⟩
def iY.kO(h:iY n V)(c:jn V):kO n≠kO V:=λe=>by
 obtain⟨p,x,d,s,rfl,rfl,a,b⟩:=h;exact a<|Ev (c x<|by simp) b e.symm
def TJ{q:U}(b:∀x∈e,x.Good)(c:y e<=8):jn (fY q e):=(jn.le 8 _).append (λx a=>by
 rcases bR.1 a with rfl|a
 .omega
 .exact Af b x a)
def EM.of{q:U}(s:∀N∈e,N.Good)(u:y e<=8)(K:y n<=1000000)(t:iY V (mF q e)):EM (V++n):=by
 have i:y (fY q e)<=1000:=by have:=nB s;unfold fY;rw[ag,aW,bU];omega
 have b:0<y (fY q e):=by unfold fY;rw[ag,bU];omega
 have d:y (gy<|le 4 (y<|fY q e)++le 4 (kO<|fY q e))=12:=by simp[gy,bU]
 have w:y V=12+y (fY q e):=by rw[t.len,mF,ag,d]
 refine⟨by rw[ag];omega,λQ B h C r k g j=>?_⟩;rcases iY.append t with⟨O,rfl,f⟩|⟨c,rfl,f⟩;have a:=f.len;rw[d]at a;refine(Kv B h C _ _ r rfl (by rw[ag];omega) (by rw[ag];omega) k g ?_ j).mono ?_;rw[bz,fU (by omega),dp<|by omega];exact f.broken<|((jn.le 4 _).append<|jn.le 4 _).append<|jn.le 4 _;rintro E A⟨rfl,p⟩;exact⟨none,0,0,none,0,0,rfl,p⟩;have a:=f.len;(have l:(kO c==kO (fY q e))=bj:=by simpa using iY.kO f (TJ s u));have m:=vD<|fY q e;have o:=xq<|fY q e;rw[<-a]at j k i b|-;clear f t w d a;generalize kO (fY q e)=x at*;(have v:y (gy (le 4 (y c)++le 4 x)++c++n)=12+y c+y n:=by rw[ag,ag];simp[gy,bU]);generalize y (gy (le 4 (y c)++le 4 x)++c++n)=L at*;refine(DW B h C L c n x m o r b (by omega) (by omega) v k g j).mono ?_;rintro E A⟨P,D,rfl,_,_,_,_,p⟩;rw[l];exact⟨_,_,_,_,_,_,rfl,p⟩
def Gr:∀{a:dJ}{f:U}{c:dN},(∀l∈a,(∀x∈l,x.Good)/\y l<=8)->y a<=1000->iY c (jg f a)->∃j e,c=jg f (a.take j)++e/\EM e
 |[],f,c,_,_,⟨s,x,k,t,m,_⟩=>by
  have:=bQ y m;simp[jg]at this
 |l::r,f,c,d,g,n=>by
  have o:=oT (f:=f+1) (lsqq:=r) (λx b=>d x<|by simp[b]);rcases iY.append n with⟨p,rfl,b⟩|⟨q,rfl,i⟩
  .exact⟨0,_,rfl,EM.of (d l<|by simp).1 (d l<|by simp).2 (by simp at g;omega) b⟩
  .obtain⟨j,e,rfl,h⟩:=Gr (λx b=>d x<|by simp[b]) (by simp at g;omega) i;exact⟨j+1,e,by simp[jg],h⟩
