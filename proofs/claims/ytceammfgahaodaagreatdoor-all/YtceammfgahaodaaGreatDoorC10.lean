import Derived.Test.YtceammfgahaodaaGreatDoorC8
import Derived.Test.YtceammfgahaodaaGreatDoorC9
open _root_ renaming List.length→z,Option.some→M,Array.size→G,Go.World.heap→H,Go.Value.ownBlock→bY,Go.World.cell?→aS,Go.World.setCell→ct,Go.World.alloc→cF,Bool.false→bF,Bool.true→bX,Nat→R,Int→Y,List→cD,Go.Calls→cA,Go.Proofs.Tryz.prog→bG,Go.Value.slice→ah,Go.Value.string→aj,Go.Value.bool→aO,Go.Value.pointer→fA,Go.Value.tuple→dE,Go.Value.agg→eB
namespace Go.Proofs.YtceammfgahaodaaGreatDoor
open ChangeShapes WideShapes RowKit Proofs.Tryz
set_option maxHeartbeats 16000000
set_option linter.all false
set_option maxRecDepth 100000
variable{a f B:I}{b c g l:R}{d t L V:aa}{e K:cK}{i p r s:cR}{j N:DK}{k:dX}{m D:Y}{n:SR}{o:eP}{u:jr}{w:E}{x:jd}{C:Bool}{F:iI}{O:bJ}{S:Type}
section
open Go.Shelf
def WF(x:Y)(w:I):cA bG 267 #[aL x] w λe a=>e=aP (aO bF)/\a=w:=by
 go_in
 go_wp2;go_ret;exact⟨by simp,rfl⟩
def Hl(x a:Y)(w:I):cA bG 235 #[aL x,aL a] w λe b=>e=aP (aO<|decide<|x<a)/\b=w:=by
 have h:=WF x w;go_in
 go_wp2_with(go_at_call 267;refine h.mono ?_;rintro e b⟨rfl,rfl⟩)
 go_ret;exact⟨by simp,rfl⟩
def QA(g:b+1<z o):((o.set (b+1) o[b]).set b o[b+1]).Perm o:=by
 have d:o=o.take b++o[b]::o[b+1]::o.drop (b+2):=by rw[<-bH (by omega),<-bH (by omega),ci]
 have a:z (o.take b)=b:=by simp;omega
 have e:(o.set (b+1) o[b]).set b o[b+1]=o.take b++o[b+1]::o[b]::o.drop (b+2):=by apply qf;intro i;rw[List.getElem?_set,List.getElem?_set];rcases kH i b with c|c|c;rw[dh (by omega),dh (by omega),gm (by omega),lW c];subst c;rw[dt rfl,dt (by simp;omega),dJ (by omega),a];simp;rcases Nat.eq_or_lt_of_le (show b+1<=i by omega)with f|f;subst f;rw[dh (by omega),dt rfl,dt (by omega),dJ (by omega),a];simp;rw[dh (by omega),dh (by omega),dJ (by omega),a];obtain⟨k,rfl⟩:∃k,i=b+2+k:=⟨i-b-2,by omega⟩;rw[show b+2+k-b=k+2 by omega];simp
 rw[e];conv=>rhs;rw[d]
 exact lE _<|List.Perm.swap _ _ _
def UR(k i:R)(n:eP)(r:a.ownsRow b 103 1 (bE k 0 (z n) i) (z n) (n.map<|Value.int .u64))(X:z n<=12):cA bG 229 #[bE k 0 (z n) i,aq 0,aq<|z n] a λao K=>ao=aP (dE #[])/\∃m:eP,m.Perm n/\K.ownsRow b 103 1 (bE k 0 (z m) i) (z m) (m.map<|Value.int .u64)/\J (λt=>t=k) a K:=by
 obtain⟨L,D⟩:∃L,z n=L:=⟨_,rfl⟩;rw[D]at r X|-;go_in
 go_wp2;go_loopw [6] (λc wr=>∃(p:R)(m:eP),c=aq p/\1<=p/\z m=L/\m.Perm n/\wr.ownsRow b 103 1 (bE k 0 L i) L (m.map<|Value.int .u64)/\J (λt=>t=k) a wr) (λc _=>L-(intOf c).toNat)
 case atStart=>exact⟨1,n,rfl,by omega,D,nJ _,r,J.refl _ _⟩
 (case round=>obtain⟨p,m,rfl,ac,d,e,c,f⟩:=hrel;by_cases W:p<L;(·(have Q:(p:Y)<(L:Y):=by omega);have j:=Z<|And.intro d (And.intro e (And.intro c f));clear d e c f r;go_wp2;(go_loopw [7] (λy c=>∃(A:R)(m:eP),y=aq A/\A<=p/\z m=L/\m.Perm n/\c.ownsRow b 103 1 (bE k 0 L i) L (m.map<|Value.int .u64)/\J (λt=>t=k) a c) (λy _=>(intOf y).toNat));(case atStart=>exact⟨p,m,rfl,ai _,j.1,j.2.1,j.2.2.1,j.2.2.2⟩);(case round=>obtain⟨A,m,rfl,ad,d,e,c,f⟩:=hrel;rcases fY A with C|C;(.subst C;have g:=Z<|And.intro d (And.intro e (And.intro c f));clear d e c f;(go_wp2_with fail);(go_quiet(fail));go_wp2;go_roundw;(case rel=>exact⟨p+1,m,by go_num,by omega,g.1,g.2.1,jk g.2.2.1 rfl,g.2.2.2.of_heap rfl⟩);case measure=>simp[intOf];omega);(.obtain⟨q,rfl⟩:∃q,A=q+1:=⟨A-1,by omega⟩;obtain⟨_,⟨O,_⟩|⟨b',F,B,O,w,v⟩⟩:=dr c;cases O;cases O;have c1:=v (q+1) (aL<|m[q+1]'(by omega)) (by rw[dD,aK<|by omega];rfl);have P:=v q (aL<|m[q]'(by omega)) (by rw[dD,aK<|by omega];rfl);simp only[cZ]at P c1;have V:=(c.lt k rfl).2;(have l:∀y,wr.frozen? (U k y)=bF:=by intro y;obtain⟨S,s⟩:=fK c (k:=k) rfl;exact dW s);have f1:=l<|q+1;have f0:=l q;have N:=Z (show∀s,(s=ct (ct wr (U k<|q+1)<|aL<|m[q]'(by omega)) (U k q) (aL<|m[q+1]'(by omega)))->∃o:eP,z o=L/\o.Perm n/\s.ownsRow b 103 1 (bE k 0 L i) L (o.map<|Value.int .u64)/\J (λt=>t=k) a s from by rintro s rfl;refine⟨(m.set (q+1) m[q]).set q m[q+1],by simpa using d,(QA<|by omega).trans e,?_,(f.setCell _ _ _<|.inl rfl).setCell _ _ _<|.inl rfl⟩;have u:=(World.ownsRow.stored (World.ownsRow.stored c (q+1)<|aL<|m[q]'(by omega)).1 q<|aL<|m[q+1]'(by omega)).1;rw[oe,oe];exact u);have g:=Z<|And.intro d (And.intro e (And.intro c f));have E:L<=i:=w;(have e2:(q:Y)+1<(L:Y):=by omega);(have e3:(q:Y)<(L:Y):=by omega);(have e4:(0:Y)<(q:Y)+1:=by omega);(have e5:(0:Y)<=(q:Y):=by omega);(have al:q+1<z m:=by omega);generalize m[q+1]=x at*;generalize m[q]'(by omega)=au at*;clear d e c f v l;by_cases an:x<au;(·(go_wp2_with fail);(go_quiet(first|(go_at_call 235;refine Calls.quiet_of_same (Hl _ _ _))));(go_wp2_with fail);(go_region);go_wp2;go_roundw;(case rel=>obtain⟨o,u,s,S,T⟩:=N _ rfl;exact⟨q,o,by go_num,by omega,u,s,jk S rfl,T.of_heap rfl⟩);case measure=>simp[intOf]);(·(go_wp2_with fail);(go_quiet(first|(go_at_call 235;refine Calls.quiet_of_same (Hl _ _ _))));go_wp2;go_roundw;(case rel=>exact⟨p+1,m,by go_num,by omega,g.1,g.2.1,jk g.2.2.1 rfl,g.2.2.2.of_heap rfl⟩);case measure=>simp[intOf];omega))));(have Q:¬((p:Y)<(L:Y)):=by omega);have j:=Z<|And.intro d (And.intro e (And.intro c f));clear d e c f r;go_wp2;go_end0;exact⟨rfl,m,j.2.1,by rw[(ae j).1];exact j.2.2.1,j.2.2.2⟩)
def US(l:eP)(e:a.ownsRow b 103 1 d (z l) (l.map<|Value.int .u64))(t:z l<=12):cA bG 229 #[d,aq 0,aq<|z l] a λv g=>v=aP (dE #[])/\∃m:eP,m.Perm l/\g.ownsRow b 103 1 d (z m) (m.map<|Value.int .u64)/\J (λw=>bY d=M w) a g:=by
 rcases e.2 with⟨rfl,n⟩|⟨x,c,k,rfl,p,y,u,q,r,f⟩;(.obtain rfl:=aR n;(go_in);go_wp2;refine my 1 ?_;rw[kw];go_wp2;go_end0;exact⟨rfl,[],nJ _,e,J.refl _ _⟩);apply(UR x c l e t).mono;rintro v g⟨rfl,m,i,j,o⟩;refine⟨rfl,m,i,?_,o.mono<|λw s=>.inl (by rw[s];rfl)⟩;rw[i.length_eq]at j|-;exact j
def Uf(l:eP)(k:Y)(c:a.ownsRow b 103 1 d (z l) (l.map<|Value.int .u64))(i:z l<=12):cA bG 190 #[d,aq 0,aq<|z l,aq k] a λn e=>n=aP (dE #[])/\∃m:eP,m.Perm l/\e.ownsRow b 103 1 d (z m) (m.map<|Value.int .u64)/\J (λk=>bY d=M k) a e:=by
 have h:=US l c i;obtain⟨x,p,j⟩:=aB c;have o:(z l:Y)<=12:=by omega
 subst j;clear c;go_in
 go_wp2;refine my 1 ?_;rw[kw];go_wp2_with fail
 apply h.mono;rintro n e⟨rfl,f⟩;have g:=Z f;clear f;go_wp2;refine cO (iY rfl _ _ _) rfl ?_;exact⟨rfl,g⟩
def RT(n:R)(c:n<=4)(w:I):cA bG 239 #[aL n] w λe b=>(∃k,e=aP (aq k))/\b=w:=by
 have a:n=0\/n=1\/n=2\/n=3\/n=4:=by omega
 rcases a with rfl|rfl|rfl|rfl|rfl;(all_goals(go_in);go_wp2;go_ret;exact⟨⟨_,rfl⟩,rfl⟩)
def WO(n:R)(b:n<=4)(w:I):cA bG 191 #[aL n] w λe a=>(∃k,e=aP (aq k))/\a=w:=by
 have h:=RT n b w;go_in
 go_wp2_with(go_at_call 239;refine h.mono ?_;rintro e a⟨⟨k,rfl⟩,rfl⟩)
 go_wp2;go_ret;exact⟨⟨_,rfl⟩,rfl⟩
def QN(l:eP)(e:a.ownsRow b 103 1 d (z l) (l.map<|Value.int .u64))(m:z l<=4):cA bG 130 #[d] a λi c=>i=aP (dE #[])/\∃o:eP,o.Perm l/\c.ownsRow b 103 1 d (z o) (o.map<|Value.int .u64)/\J (λk=>bY d=M k) a c:=by
 have h:=λk=>Uf l k e (by omega);have j:=WO (z l) m a;obtain⟨x,q,n⟩:=aB e;subst n;clear e;go_in
 go_wp2_with fail
 apply j.mono;rintro i c⟨⟨k,rfl⟩,p⟩;subst c;go_wp2_with fail
 apply(h k).mono;rintro i c⟨rfl,f⟩;have g:=Z f;clear f;go_wp2;go_end0;exact⟨rfl,g⟩
def KD{bm b:R}(u:fP){w:I}(x:er w bm (.map<|M b) 108)(y:jJ w b u)(q:xy u o)(B:z o<=4):cA bG 82 #[.func (.func 131) #[] #[aA bm]] w λv t=>
 ∃i,∃s:eP,v=aP i/\s.Perm o/\t.ownsRow (G<|H w) 103 1 i (z s) (s.map<|Value.int .u64)/\J (λk=>k=bm) w t:=by
 have h:=JM u x y q<|by omega
 go_in
 go_wp2_with fail
 apply h.mono
 rintro v F⟨i,s,rfl,m,g,r⟩
 have A:=QN s g (by have:=m.length_eq;omega)
 have c:∀k,bY i=M k->G (H w)<=k:=λk n=>(aI g k n).1
 obtain⟨E,D,p⟩:=aB g
 have a:=Z<|And.intro m r
 have l:=Z c
 clear m g r c
 subst p
 go_wp2_with fail
 apply A.mono
 rintro v K⟨rfl,C,d,e,f⟩
 have j:=Z<|And.intro d (And.intro e f)
 clear d e f
 go_wp2
 go_ret
 exact⟨_,C,rfl,j.1.trans a.1,j.2.1,a.2.trans j.2.2<|λk n=>.inr<|l k n⟩
end
section
open Go.Shelf
abbrev fw:=cD<|R×R
def Bd(a:fw):fP:=a.map<|λp=>((p.1:Y),aL (p.2:Y))
def sG(a:fw):eP:=a.map<|λp=>(p.2:Y)
def Wl(a:fw):xy (Bd a) (sG a):=by simp[xy,Bd,sG]
def oZ(a:fw):z (sG a)=z a:=by simp[sG]
def VO{c:eP}(h:o.Perm c)(p:Y->Bool):o.any p=c.any p:=by
 rw[wC,ji,ji];exact⟨λ⟨x,a,b⟩=>⟨x,h.mem_iff.1 a,b⟩,λ⟨x,a,b⟩=>⟨x,h.mem_iff.2 a,b⟩⟩
def Oo{a:eP}(h:o.Perm a)(p:Option E)(e:E):pN o p e=pN a p e:=by
 cases p with
 |none=>rfl
 |some q=>unfold pN;simp only[VO h]
def ED{a:eP}(h:o.Perm a):∀(l:cK)(p:Option E),kV o p l=kV a p l
 |[],_=>rfl
 |e::r,p=>by rw[kV,kV,Oo h,ED h r]
def zG{a:eP}(h:o.Perm a)(l:cK):dV o l=dV a l:=ED h l none
def Kn(v:Option R)(w:I):cA bG 83 #[.map v] w λe a=>e=aP (.func (.func 131) #[] #[aA<|G<|H w])/\a=cF w (aw #[.map v] 108):=by
 go_in
 go_wp2;go_ret;exact⟨rfl,rfl⟩
def ug{c b:R}(f:fw)(h:bM a c n m)(q:n.mj=M b)(i:jJ a b (Bd f))(u:z f<=4):cA bG 50 #[aA c] a λt r=>∃l,∃k:eP,t=aP l/\k.Perm (sG f)/\r.ownsRow (G<|H a) 103 1 l (z k) (k.map<|Value.int .u64)/\J az a r:=by
 have s:aS a (U c 16)=M (.map<|M b):=by rw[<-q];exact h.cell rfl
 have e:=(J.refl az a).alloc<|aw #[.map<|M b] 108;have j:=KD (bm:=G<|H a) (b:=b) (Bd f) (w:=(cF a<|aw #[.map<|M b] 108)) (aE _ rfl) (i.dq<|e.block _ i.lt id) (Wl f) (by rw[oZ];exact u);clear h q i;go_in
 go_wp2_with fail
 apply(Kn _ _).mono;rintro t w⟨rfl,v⟩;subst w;go_wp2_with fail
 apply j.mono;rintro t B⟨l,x,rfl,o,g,p⟩;obtain⟨A,y,rfl⟩:=aB g;have d:=Z<|And.intro o (And.intro g p);clear o g p;go_wp2;go_ret;exact⟨_,x,rfl,d.1,eM d.2.1 (by simp),e.trans d.2.2<|λm a=>.inr<|by omega⟩
def Bj(f:R)(ac:SR)(u:Y)(v:fw)(B:aa)(P:cK)(h:bM a f ac u)(T:ac.mj=M b)(E:jJ a b (Bd v))(h4:z v<=4)(D:ku a ac.memory e)(p:∀u,bY ac.memory=M u->u<G (H a))(C:ku a B P)(o:∀u,bY B=M u->u<G (H a))(r:dS e)(hl:z e+z P<=1000000):cA bG 72 #[aA f,B] a λX W=>∃V,X=aP V/\W.ownsRow (G<|H a) 164 4 V (z<|dV (sG v)<|fJ e P) (aH<|dV (sG v)<|fJ e P)/\J az a W:=by
 have Q:=bM.cellAt h 7 rfl;have m:=Tq D C r (by omega) p o;obtain⟨x1,n1,t⟩:=bS D;obtain⟨x2,n2,F⟩:=bS C;have HM:=Z<|λ(O:I)(c:J az a O)=>ug (b:=b) v (h.ay c id) T (E.dq<|c.block _ E.lt id) h4;rw[t]at Q m;clear h T E D p C o t;subst F;go_in
 go_wp2_with fail
 apply m.mono;rintro X O⟨v1,rfl,i,k⟩;have q:=HM O k;obtain⟨y1,d1,K⟩:=aB i;have w:=Z i;have y:=Z k;clear i k m Q;subst K;go_wp2_with fail
 apply q.mono;rintro X w2⟨v2,ms,rfl,S,d,l⟩;have c:=l.own w<|λ_ _ a=>a;have g:=wa ms (dr c) (r.fJ P) (aF (xw e P) hl) (dr d) (by have:=S.length_eq;rw[oZ]at this;omega) (λu a=>(aI c u a).2)<|λu a=>(aI d u a).2;rw[zG S]at g;obtain⟨y2,d2,L⟩:=aB d;have n:=Z<|y.cw l;clear d l c q;subst L;go_wp2_with fail
 apply g.mono;rintro X w3⟨v3,rfl,j,s⟩;obtain⟨y3,d3,N⟩:=aB j;have x:=Z<|eM (base':=G<|H a) j n.size;have A:=Z<|n.cw s;clear j s g;subst N;go_wp2;go_ret;exact⟨_,rfl,x,A⟩
def pD:fw->Y->Option R
 |[],_=>none
 |p::r,n=>if(p.1:Y)=n then M p.2 else pD r n
def PE(n:Y):∀b:fw,(Bd b).get n=(pD b n).map (λc:R=>aL c)
 |[]=>rfl
 |p::r=>by
  have a:=PE n r;unfold Bd at a|-;rw[aZ,fP.get,pD];split
  .rfl
  .exact a
def uF(j:Y)(h:bM a b n m)(f:n.closed=bX):cA bG 48 #[aA b,aq j] a λi g=>i=aP (dE #[aL 0,lC 6])/\Below (G<|H a) a g:=by
 have c:=iB h;rw[f]at c;simp only[iO]at c;have d:lC 6=.iface 55 (aq 6):=rfl;rw[d]at c|-;clear h;go_in
 go_wp2_with fail
 apply c.mono;rintro i k⟨rfl,e⟩;go_wp2;go_ret2
 exact⟨rfl,e⟩
def rP(p:Y)(g:fw)(h:bM a b n m)(v:n.closed=bF)(t:n.mj=M c)(k:jJ a c (Bd g)):cA bG 48 #[aA b,.int .i64 p] a λs q=>s=.returned (match pD g p with|some A=>.tuple #[.int .u64 (A:Y),.nilIface]|none=>.tuple #[.int .u64 0,lC 5])/\Below (G<|H a) a q:=by
 have l:=iB h;rw[v]at l;simp only[gV,jT]at l;obtain⟨B,j,o,w,x⟩:=cL PW
 have i:=Z (show∀d,Below (G<|H a) a d->aS d (U b 16)=M (.map<|M c)/\(Instr.lookup 108 (.map<|M c) (aq p) bX).run bG d=.ok (dE #[((pD g p).map (λc:R=>aL c)).getD<|aL 0,aO ((pD g p).map (λc:R=>aL c)).isSome]) d fromλd e=>by
  refine⟨?_,?_⟩
  .rw[<-t];exact(h.ay (J.aV (S:=az) e) id).cell rfl
  .rw[<-PE];exact Ws underlying108 underlying3 j o (k.dq (e.block _ k.lt)) p)
 clear h t k;have f:cA bG 41 #[aA b] a λs q=>s=aP .nilIface/\Below (G<|H a) a q:=l;have u:lC 5=.iface 55 (aq 5):=rfl;rw[u];cases hg:pD g p with
 |none=>
  rw[hg]at i;clear hg;go_in
  go_wp2_with fail
  apply f.mono;rintro s d⟨rfl,e⟩;obtain⟨y,r⟩:=i d e;simp only[Option.map_none,uP,Option.isSome_none]at r;go_wp2;go_ret2
  exact⟨rfl,e⟩
 |some A=>
  rw[hg]at i;clear hg;go_in
  go_wp2_with fail
  apply f.mono;rintro s d⟨rfl,e⟩;obtain⟨y,r⟩:=i d e;simp only[Option.map_some,ia,Option.isSome_some]at r;go_wp2;go_ret2
  exact⟨rfl,e⟩
end
structure PR(n:R)(rs:dX):Prop where
 pM:ki rs
 mr:∀r∈rs,dS r
 jb:∀x∈rs.flatten,x.Good
 low:∀x∈rs.flatten,x.bK<=n
def uk(h:w.Good):w.key≠⟨#[]⟩:=λe=>by
 have:=h.UO;rw[e]at this;simp[ByteArray.size]at this
def PR.keys(h:PR b k):∀x∈k.flatten,x.key≠⟨#[]⟩:=λx a=>uk<|h.jb x a
def Hu{a D:dX}:w∈(k++a++D).flatten↔w∈k.flatten\/w∈a.flatten\/w∈D.flatten:=by
 simp only[dQ,ap,or_assoc]
def PR.YT{C c M' D:dX}(h:PR b (C++c++D))(g:ki M')(j:∀r∈M',dS r)(a:∀x∈M'.flatten,x∈c.flatten):PR b (C++M'++D):=by
 have e:∀x,x∈(C++M'++D).flatten->x∈(C++c++D).flatten:=by intro x e;rw[Hu]at e|-;exact e.imp id<|λf=>f.imp (a x) id
 refine⟨RC h.pM g a,λr i=>?_,λx d=>h.jb x<|e x d,λx d=>h.low x<|e x d⟩;rcases ap.1 i with f|f;rcases ap.1 f with f|f;exact h.mr r (by simp[f]);exact j r f;exact h.mr r<|by simp[f]
def PR.cons(i:PR b k)(t:b<=c)(n:dS e)(m:∀x∈e,x.Good)(g:∀x∈e,(b:Y)<x.bK)(f:∀x∈e,x.bK<=c):PR c (e::k):=by
 refine⟨?_,?_,?_,?_⟩;unfold ki;rw[bA];refine⟨λr h o j p l _=>?_,i.pM⟩;have q:=i.low p<|bC.2 ⟨r,h,l⟩;have s:=g o j;omega;intro r h;rcases aD.1 h with rfl|d;exact n;exact i.mr r d;intro x a;rw[aX,ap]at a;rcases a with d|d;exact m x d;exact i.jb x d;intro x a;rw[aX,ap]at a;rcases a with d|d;exact f x d;have:=i.low x d;omega
def PR.xH(h:PR b k):PR b ([]::k):=h.cons (ai _) dS.nil (by simp) (by simp)<|by simp
def FV(a:dX)(k:ab):seen ([]::a) k=seen a k:=by
 unfold seen;rw[qD,Sx,mB]
def bZ(a b c d:cR):dX:=(a.map bJ.all).reverse++[cr b,cr c,cr d]
def Eb(a b c d:cR)(t:bJ):bZ (a++[t]) b c d=t.all::bZ a b c d:=by simp[bZ]
def ma(h:i.map bJ.all=gR e):cr i=e:=by
 unfold cr;rw[h];exact vX e
def EX(h:i.isEmpty=bX):cr i=[]:=by
 rw[List.isEmpty_iff]at h;rw[h];rfl
def PR.row(h:PR b k):∀r∈k,gT r:=λr a=>⟨h.mr r a,λe c=>h.keys e<|bC.2 ⟨r,a,c⟩⟩
def fj(t:Y)(a:dX)(k:ab):Option ab:=seen (a.map<|kr t) k
def yx{C Mqq M' D:dX}(h:Bc (Mqq.map<|kr m) (M'.map<|kr m) (D.map<|kr m))(k:ab):fj m (C++M'++D) k=fj m (C++Mqq++D) k:=by
 unfold fj;simp only[aQ];exact TL h k
def mH(t:Y)(a:dX)(k:ab):fj t ([]::a) k=fj t a k:=by
 unfold fj;rw[aZ,show kr t []=[]from rfl];exact FV _ k
def Qk(h:∀r∈k,r=[])(c:ab):ri (k.map<|kr m) c=none:=Sp (λr a=>by obtain⟨s,b,rfl⟩:=bz.1 a;rw[h s b];rfl) c
def Pa{d:cR}(j:PR b (bZ i p r s))(h:d.map bJ.all=gR (rQ o (r.isEmpty&&s.isEmpty) i p)):dS (cQ<|cr p::i.map bJ.all)/\dS (rQ o (r.isEmpty&&s.isEmpty) i p)/\PR b (bZ [] d r s)/\(∀t,(t∈o\/(b:Y)<=t)->∀k,fj t (bZ [] d r s) k=fj t (bZ i p r s) k)/\z (cr d)<=z (cr i)+z (cr p):=by
 have C:cr d=rQ o (r.isEmpty&&s.isEmpty) i p:=ma h;have a:bZ i p r s=[]++((i.map bJ.all).reverse++[cr p])++[cr r,cr s]:=by simp[bZ]
 have f:bZ [] d r s=[]++[rQ o (r.isEmpty&&s.isEmpty) i p]++[cr r,cr s]:=by simp[bZ,C]
 rw[a]at j;have w:∀n∈i.map bJ.all,gT n:=λn a=>j.row n (by simp only[cJ,ap,jh];exact .inl<|.inl a);have u:gT (cr p):=j.row _ (by simp);have v:ki ((i.map bJ.all).reverse++[cr p]):=(bR.1 j.pM).1;obtain⟨A,m,B⟩:=zn (ms:=o) (lowest:=r.isEmpty&&s.isEmpty) w u v;have g:∀x∈[rQ o (r.isEmpty&&s.isEmpty) i p].flatten,x∈((i.map bJ.all).reverse++[cr p]).flatten:=by intro x c;rw[aX,fR,dO]at c;have:=zJ _ _ _ x c;rw[aX,ap]at this;rw[dQ,ap,aX,fR,dO];rcases this with r|r;exact .inr r;refine .inl ?_;obtain⟨l,e,c⟩:=bC.1 r;exact bC.2 ⟨l,jh.2 e,c⟩
 refine⟨A,m,?_,λt y k=>?_,?_⟩;rw[f];exact j.YT (by unfold ki;simp) (by intro n a;simp only[aD,eO,kS]at a;subst a;exact m) g;rw[a,f];refine yx (B t [cr r,cr s] (y.imp_right<|λq x c=>vM (j.low x<|Hu.2<|.inr<|.inl c) q)<|λe k=>?_) k;rw[jZ]at e;exact Qk (by intro n a;simp only[aD,eO,kS]at a;rcases a with rfl|rfl;exact EX e.1;exact EX e.2) k;rw[C];have D:=(th o (r.isEmpty&&s.isEmpty)<|cr p::i.map bJ.all).length_le;have E:=(jy o<|cQ<|cr p::i.map bJ.all).length_le;have l:=(eK<|cr p::i.map bJ.all).length_eq;rw[aX,af]at l;have:(i.map bJ.all).flatten=cr i:=rfl;rw[this]at l;unfold rQ;omega
def SO(l:cD S)(j:R)(h:j<z l):l=l.take j++[l[j]]++l.drop (j+1):=by
 rw[aW,jU,kZ,ci]
def WY(l:cD S){p q:R}(h:p<=q):l=l.take p++(l.drop p).take (q-p)++l.drop q:=by
 have a:l.drop q=(l.drop p).drop (q-p):=by rw[List.drop_drop];congr 1;omega
 rw[aW,a,ci,ci]
def uo(h:((i++p).map bJ.all).Pairwise gZ):gZ (cr i) (cr p):=by
 rw[aQ,bR]at h;intro x f c g;obtain⟨s,d,a⟩:=lA.1 f;obtain⟨t,e,b⟩:=lA.1 g;exact h.2.2 _ (ie d) _ (ie e) x a c b
def LO{j c q:R}(hu:kR i)(s:kR p)(ho:Over (cr i) (cr p))(hg:∀x,x∈cr i\/x∈cr p->x.Good)(hj:j<z i)(P:FI p (jf i[j].ks) (jc i[j].ks) c q)(F:r.map bJ.all=gR (rQ o C [i[j]]<|(p.drop c).take<|q-c)):dS (rQ o C [i[j]]<|(p.drop c).take<|q-c)/\dS (cr<|p.take c++r++p.drop q)/\((p.take c++r++p.drop q).map bJ.all).Pairwise gZ/\(∀(h:Y)(ba:dX),(h∈o\/∀x,x∈cr i\/x∈cr p->x.bK<=h)->(C=bX->∀bb,ri (ba.map<|kr h) bb=none)->Bc ([cr i,cr p].map<|kr h) ([cr<|i.take j++i.drop (j+1),cr<|p.take c++r++p.drop q].map<|kr h) (ba.map<|kr h))/\Over (cr<|i.take j++i.drop (j+1)) (cr<|p.take c++r++p.drop q)/\(∀x,x∈cr (i.take j++i.drop (j+1))\/x∈cr (p.take c++r++p.drop q)->x∈cr i\/x∈cr p)/\(∀x∈cr r,x∈cr i\/x∈cr p)/\z (cr<|i.take j++i.drop (j+1))+z (cr<|p.take c++r++p.drop q)<=z (cr i)+z (cr p):=by
 have w:cr r=gO o C [cr<|(p.drop c).take<|q-c,i[j].all]:=ma F;have f:cr [i[j]]=i[j].all:=by simp[cr]
 have t:cr i=cr (i.take j)++i[j].all++cr (i.drop<|j+1):=by conv=>lhs;rw[SO i j hj,eV,eV,f]
 have u:cr p=cr (p.take c)++cr ((p.drop c).take<|q-c)++cr (p.drop q):=by conv=>lhs;rw[WY p P.le,eV,eV]
 have hP:=hu.pure i[j]<|ar hj;have ac:∀y∈cr (p.take c),∀h∈i[j].all,im y.key h.key=bX:=by intro y l h d;obtain⟨av,n,v⟩:=lA.1 l;obtain⟨au,hi,rfl⟩:=gS.1 n;(have e:au<c/\au<z p:=by rw[dP]at hi;omega);rw[gB]at v;have N:=(s.pure p[au]<|ar e.2).Dn v;have O:=P.XH.low au e.2 e.1;have B:=hP.xW d;exact OF (xP N O) B
 have ad:∀y∈i[j].all,∀h∈cr (p.drop q),im y.key h.key=bX:=by intro y l h d;obtain⟨av,n,v⟩:=lA.1 d;obtain⟨au,hi,rfl⟩:=gS.1 n;(have e:q+au<z p:=by rw[iG]at hi;omega);rw[nD]at v;(have Q:q<z p:=by omega);have N:=P.behind Q;have O:=hP.Dn l;obtain⟨x,a,ao⟩:=(s.pure p[q]<|ar Q).Hv;(have B:im h.key (jf p[q].ks)=bF:=by rcases fY au with rfl|ax;exact(s.pure p[q]<|ar Q).xW v;rw[<-ao];exact lQ<|s.pair Q e (by omega) a v);exact OF (xP O N) B
 have S:((i.take j++([i[j]]++i.drop (j+1))).map bJ.all).Pairwise gZ:=by have:=hu.Dh;rw[SO i j hj,aW]at this;exact this
 have V:((p.take c++((p.drop c).take (q-c)++p.drop q)).map bJ.all).Pairwise gZ:=by have:=s.Dh;rw[WY p P.le,aW]at this;exact this
 have K:=uo S;have L:=uo V;rw[eV]at K L;rw[f]at K;have T:=(bR.1 (by rw[aQ]at S;exact S)).2.1;have W:=(bR.1 (by rw[aQ]at V;exact V)).2.1;have A:=uo T;have X:=uo W;rw[f]at A;have al:gT (cr (i.take j)++i[j].all++cr (i.drop<|j+1)):=t▸⟨hu.mr,λw he=>uk<|hg w<|.inl he⟩;have an:gT (cr (p.take c)++cr ((p.drop c).take<|q-c)++cr (p.drop q)):=u▸⟨s.mr,λw he=>uk<|hg w<|.inr he⟩;have D:=ho;rw[t,u]at D;obtain⟨r1,r2,r3,r4,r5,r6⟩:=RA (ms:=o) (lowest:=C) al an D (λx a b g=>K x a b<|by simp[g]) (λx a b g=>K x a b<|by simp[g]) A (λx a b g=>L x a b<|by simp[g]) (λx a b g=>L x a b<|by simp[g]) X ac ad;have m:∀x∈gO o C [cr<|(p.drop c).take<|q-c,i[j].all],x∈i[j].all\/x∈cr ((p.drop c).take<|q-c):=by intro x a;have:=zJ o C _ x a;simp only[aX,fR,dO,ap]at this;exact this.symm
 have E:dS (gO o C [cr<|(p.drop c).take<|q-c,i[j].all]):=r2.mr.sub (by simp);refine⟨E,?_,?_,?_,?_,?_,?_,?_⟩;rw[eV,eV,w];exact r2.mr;rw[aQ,aQ,bR,bR];refine⟨⟨s.Dh.sublist<|(nC _ _).map _,by rw[F];exact Et E,λx a b g=>?_⟩,s.Dh.sublist<|(kI _ _).map _,λx a b g=>?_⟩;obtain⟨Q,v,rfl⟩:=bz.1 a;obtain⟨av,n,rfl⟩:=bz.1 g;exactλy l h d=>r3 y (lA.2 ⟨Q,v,l⟩) h (by rw[<-w];exact lA.2 ⟨av,n,d⟩);obtain⟨av,n,rfl⟩:=bz.1 g;rcases ap.1 a with a|a;obtain⟨Q,v,rfl⟩:=bz.1 a;exactλy l h d=>L y (lA.2 ⟨Q,v,l⟩) h<|ii _<|lA.2 ⟨av,n,d⟩;obtain⟨Q,v,rfl⟩:=bz.1 a;exactλy l h d=>r4 y (by rw[<-w];exact lA.2 ⟨Q,v,l⟩) h<|lA.2 ⟨av,n,d⟩;intro h ba d v;simp only[aZ,fi];rw[eV,eV,eV,w,t,u];exact r6 h ba (d.imp_right<|λq x a=>q x (by rw[t,u];simp only[ap]at a|-;rcases a with k|k;exact .inl<|.inl<|.inr k;exact .inr<|.inl<|.inr k)) v;rw[eV,eV,eV,w];exact r5;intro x a;rw[eV,eV,eV,w]at a;rw[t,u];simp only[ap]at a|-;rcases a with(k|k)|(k|k)|k;exact .inl<|.inl<|.inl k;exact .inl<|.inr k;exact .inr<|.inl<|.inl k;rcases m x k with k|k;exact .inl<|.inl<|.inr k;exact .inr<|.inl<|.inr k;exact .inr<|.inr k;intro x a;rw[w]at a;rw[t,u];simp only[ap];rcases m x a with k|k;exact .inl<|.inl<|.inr k;exact .inr<|.inl<|.inr k;rw[eV,eV,eV,w,t,u];have N:=(th o C [cr<|(p.drop c).take<|q-c,i[j].all]).length_le;have O:=(jy o<|cQ [cr<|(p.drop c).take<|q-c,i[j].all]).length_le;have B:=(eK [cr<|(p.drop c).take<|q-c,i[j].all]).length_eq;rw[aX,aX,fR,dO,af]at B;simp only[af];omega
def On(h:Over e K):ki [e,K]:=by
 unfold ki;simp only[bA,aD,eO,kS,forall_eq,List.Pairwise.nil,sN,false_implies,implies_true];exact h
def Dk{C D:dX}(h:ki (C++[e,K]++D)):Over e K:=by
 have a:=(bR.1 (bR.1 h).1).2.1;exact(bA.1 a).1 K<|by simp
def OZ{d:cR}{j g q:R}(h:PR b (bZ i p r s))(l:kR p)(u:kR r)(n:j<z p)(hcut:FI r (jf p[j].ks) (jc p[j].ks) g q)(f:d.map bJ.all=gR (rQ o s.isEmpty [p[j]]<|(r.drop g).take<|q-g)):PR b (bZ i (p.take j++p.drop (j+1)) (r.take g++d++r.drop q) s)/\(∀t,(t∈o\/(b:Y)<=t)->∀k,fj t (bZ i (p.take j++p.drop (j+1)) (r.take g++d++r.drop q) s) k=fj t (bZ i p r s) k)/\dS (cr d)/\((r.take g++d++r.drop q).map bJ.all).Pairwise gZ/\(∀x∈cr d,x.Good)/\z (cr<|p.take j++p.drop (j+1))+z (cr<|r.take g++d++r.drop q)<=z (cr p)+z (cr r):=by
 have a:∀x c:cR,bZ i x c s=(i.map bJ.all).reverse++[cr x,cr c]++[cr s]:=λx c=>by simp[bZ]
 rw[a]at h;have m:∀x,x∈cr p\/x∈cr r->x.Good:=λx c=>h.jb x (Hu.2<|.inr<|.inl<|by simpa using c);obtain⟨y,A,w,B,C,D,E,F⟩:=LO l u (Dk h.pM) m n hcut f;refine⟨?_,λt v k=>?_,by rw[ma f];exact y,w,λx c=>m x<|E x c,F⟩;rw[a];refine h.YT (On C) (λK e=>?_)<|λx c=>?_;simp only[aD,eO,kS]at e;rcases e with rfl|rfl;rw[eV];have:=l.mr.sub<|nY (us:=p.take j++p.drop (j+1)) (ts:=p) (by(conv=>rhs;rw[SO p j n]);rw[aW];exact(eF _).append<|gl _ _);rwa[eV]at this;exact A;have:=D x (by simpa using c);simpa using this;rw[a,a];exact yx (B t [cr s] (v.imp_right<|λq x c=>vM (h.low x<|Hu.2<|.inr<|.inl<|by simpa using c) q)<|λe k=>Qk (by intro K a;simp only[aD,eO,kS]at a;subst a;exact EX e) k) k
def OY{c:cR}{j g q:R}(h:PR b (bZ i p r s))(l:kR r)(u:kR s)(n:j<z r)(hcut:FI s (jf r[j].ks) (jc r[j].ks) g q)(e:c.map bJ.all=gR (rQ o bX [r[j]]<|(s.drop g).take<|q-g)):PR b (bZ i p (r.take j++r.drop (j+1))<|s.take g++c++s.drop q)/\(∀t,(t∈o\/(b:Y)<=t)->∀k,fj t (bZ i p (r.take j++r.drop (j+1))<|s.take g++c++s.drop q) k=fj t (bZ i p r s) k)/\dS (cr c)/\((s.take g++c++s.drop q).map bJ.all).Pairwise gZ/\(∀x∈cr c,x.Good)/\z (cr<|r.take j++r.drop (j+1))+z (cr<|s.take g++c++s.drop q)<=z (cr r)+z (cr s):=by
 have f:∀x a:cR,bZ i p x a=((i.map bJ.all).reverse++[cr p])++[cr x,cr a]++[]:=λx a=>by simp[bZ]
 rw[f]at h;have m:∀x,x∈cr r\/x∈cr s->x.Good:=λx a=>h.jb x (Hu.2<|.inr<|.inl<|by simpa using a);obtain⟨y,A,w,B,C,D,E,F⟩:=LO l u (Dk h.pM) m n hcut e;refine⟨?_,λt v k=>?_,by rw[ma e];exact y,w,λx a=>m x<|E x a,F⟩;rw[f];refine h.YT (On C) (λK d=>?_)<|λx a=>?_;simp only[aD,eO,kS]at d;rcases d with rfl|rfl;rw[eV];have:=l.mr.sub<|nY (us:=r.take j++r.drop (j+1)) (ts:=r) (by(conv=>rhs;rw[SO r j n]);rw[aW];exact(eF _).append<|gl _ _);rwa[eV]at this;exact A;have:=D x (by simpa using a);simpa using this;rw[f,f];exact yx (B t [] (v.imp_right<|λq x a=>vM (h.low x<|Hu.2<|.inr<|.inl<|by simpa using a) q)<|λd k=>yJ k) k
def yF(s:i.map bJ.all=gR e)(q:∀t∈i,VW a b t)(m:dS e)(g:rm 5 e)(p:∀x∈e,x.Good):∀t∈i,tQ t.ks t.cs/\Kg (bO 0 t.cs)/\t.ks=bO 0 t.cs/\z t.all<=100:=by
 intro t n;obtain⟨r,h,x,j,k⟩:=q t n;have l:t.all∈gR e:=by rw[<-s];exact ie n
 have o:=Rr g _ l;have c:=Bx l;have f:=Eu e _ l;have d:∀x∈t.all,x.Good:=λx e=>p x<|c.subset e;refine⟨?_,k.pieces.idx f d (m.sub c) o,k.ks,o⟩;rw[k.ks];exact k.pieces.yu f d<|m.sub c
def GJ(h:i.map bJ.all=gR e)(g:∀t∈i,VW a b t)(d:dS e)(c:rm 5 e)(f:∀x∈e,x.Good):kR i:=⟨λt j=>(yF h g d c f t j).1,by rw[ma h];exact d,by rw[h];exact Et d⟩
def JL{c:cR}(t:PR b (e::bZ i p r s))(n:c.map bJ.all=gR (iw<|dV o<|cQ<|e::bZ i p r s)):PR b (bZ [] [] [] c)/\(∀u,(u∈o\/(b:Y)<=u)->∀w,fj u (bZ [] [] [] c) w=fj u (e::bZ i p r s) w)/\z (cr c)<=z e+z (cr i)+z (cr p)+z (cr r)+z (cr s):=by
 obtain⟨A,N⟩:∃A,A=(e::((i.map bJ.all).reverse++[cr p,cr r])).reverse:=⟨_,rfl⟩;have g:e::bZ i p r s=A.reverse++[cr s]:=by rw[N,List.reverse_reverse];simp[bZ]
 have O:(cr s::A).Perm (e::bZ i p r s):=by rw[g];exact(qM (l₁:=[cr s]) (l₂:=A)).trans<|(tU A).symm.append_right _
 have F:cQ (cr s::A)=cQ (e::bZ i p r s):=tq t.mr t.pM O;have a:=t.row;rw[g]at a;have v:=t.pM;rw[g]at v;obtain⟨S,y,B⟩:=zn (A:=A) (b:=cr s) (ms:=o) (lowest:=bX) (λQ k=>a Q<|by simp[k]) (a _<|by simp) v;have K:gO o bX (cr s::A)=iw (dV o<|cQ<|e::bZ i p r s):=by unfold gO;rw[dt rfl,F]
 rw[K]at y B;have E:cr c=iw (dV o<|cQ<|e::bZ i p r s):=ma n;have j:∀x∈cr c,x∈(e::bZ i p r s).flatten:=λx f=>by rw[E]at f;exact(eK _).mem_iff.1<|(jy o _).subset<|(kO _).subset f
 have h:bZ [] [] [] c=[[],[],cr c]:=by simp[bZ,cr]
 refine⟨?_,λu P w=>?_,?_⟩;rw[h];(have l:PR b ([]++(e::bZ i p r s)++[]):=by simpa using t);have m:=l.YT (M':=[cr c]) (by unfold ki;simp) (by intro Q k;rw[bI]at k;rw[k,E];exact y) (λx f=>j x<|by simpa using f);(have d:PR b [cr c]:=by simpa using m);exact d.xH.xH;rw[h,mH,mH];have:=yx (C:=[]) (Mqq:=A.reverse++[cr s]) (M':=[iw<|dV o<|cQ<|e::bZ i p r s]) (D:=[]) (B u [] (P.imp_right<|λq x f=>vM (t.low x (by rw[g];exact f)) q)<|λ_ w=>rfl) w;rw[<-g,<-E]at this;simpa using this;rw[E];have l:=(kO<|dV o<|cQ<|e::bZ i p r s).length_le;have m:=(jy o<|cQ<|e::bZ i p r s).length_le;have d:=(eK<|e::bZ i p r s).length_eq;(have L:z ((i.map bJ.all).reverse).flatten=z (cr i):=by have:=((tU<|i.map bJ.all).flatten).length_eq;rw[this];rfl);rw[aX,af]at d;unfold bZ at d;rw[dQ,af,L]at d;simp at d;simp only[bZ]at l m|-;omega
def Vl(n0:R)(p0 p1 p2 p3:aa×cR)(c:cD (aa×cK))(d:ab)(s:Y)(h:bM a b n m)(mx:Option Addr)(mn mc:R)(bb:n.memory=ah mx mn mc)(hl:Du a b 10 [p0,p1,p2,p3])(L:c.map (·.1)=xD n.memory p0 p1 p2 p3)(hR:∀bs(hi:bs<z c),rp u n0 c[bs].1 c[bs].2 a)(hD:u.D a)(bo:n0<=G (H a))(hF:∀m,u.F m->m<n0)(X:1<=d.size/\d.size<=8)(bh:∀cp∈c,∀x∈cp.2,x.val.size<=281474976710656):cA bG 59 #[aA b,aj d,aL s] a λbt w'=>bt=aP (WU<|wE s d c)/\u.D w'/\J u.F a w':=by
 have N:=λcb=>rf d cb (by omega);rw[nH X]at N;have Q:=Ea p0 p1 p2 p3 h mx mn mc bb hl;have l:z (pG p0 p1 p2 p3)+1=z c:=by have:=bW z L;simp[xD]at this;omega
 rw[<-L,l]at Q;have bu:z c<=1000000000:=by have:=hl.small;rw[<-l];simp[pG,mG]at this|-;omega
 obtain⟨HR,HD,HF,bl⟩:=gD hR hD hF bh;clear h hl bb L hR hD hF l bh;go_in
 go_wp2_with fail
 apply(N _).mono;rintro bt w1⟨rfl,ck⟩;subst w1;go_wp2_with fail
 apply Q.mono;rintro bt w1⟨v1,rfl,O,bg⟩;obtain⟨x1,c1,bp⟩:=aB O;subst bp;have al:=Z O;have an:=Z bg;clear O bg Q N;go_wp2_with fail
 go_loopw [21] (λbs wr=>∃A:R,A<=z c/\bs=aq A/\u.D wr/\J u.F w1 wr/\wE s d (c.take A)=none) (λbs _=>z c-(intOf bs).toNat)
 case atStart=>exact⟨0,bB _,rfl,u.fq HD an cN,J.refl _ _,rfl⟩
 case round=>
  obtain⟨A,hn,rfl,j,q,e⟩:=hrel;have o:J u.F a wr:=(an.mono (T:=u.F) cN).trans q<|λ_ l=>.inl l;by_cases g:A<z c
  .obtain⟨cn,co,cm,cl,bd,hm,he,k⟩:=HR A g;have eg:∀c a,(callFunc cm c).run bG a=.ok (.enter cm c) a:=he;have r:=k d s wr (o.same bo cN<|λm X _=>X) j;have bc:∀m,G (H a)<=m->¬u.F m:=λm X c=>by have:=HF m c;omega
   have P:=q.own al<|λm X=>bc m (al.lt m X).1;obtain⟨bq,hx,cj⟩:∃bq,x1=M (U bq 0)/\aS wr (U bq A)=M (.iface cn co):=by
    rcases P.2 with⟨f,B⟩|⟨w,t,v,f,_⟩
    .omega
    .cases f;refine⟨w,rfl,?_⟩;have:=pK P A (.iface cn co) (by rw[dD,aK g];simp[bd]);rwa[dB,cZ]at this
   subst hx;have ax:=TM g e;have bf:wE s d (c.take<|A+1)=iH s c[A].2 d:=by
    rw[ak g];unfold wE at e|-;rw[wM,e];cases h:iH s c[A].2 d<;>simp[h]
   have W:∀x,iH s c[A].2 d=M x->x.val.size<=281474976710656:=λx hx=>bl _ (ar g) x<|jR hx;obtain⟨ac,bk,F,ad,bi⟩:=jX j q o ax bf;have e1:(A:Y)<(z c:Y):=by omega
   clear j q o bd he k e P bc ax bf;cases hfe:iH s c[A].2 d with
   |none=>
    rw[hfe]at r;unfold tD wX at r;simp only at r;have D:=Z hfe;clear hfe W;go_wp2_with fail
    apply r.mono;rintro bt y⟨rfl,i,p⟩;have C:=Z i;have K:=Z p;clear i p r;go_wp2;go_roundw;case rel=>
     refine⟨A+1,g,by go_num,u.fq C (cI az y) cN,?_,?_⟩
     .exact(bk.trans K<|λ_ l=>.inl l).alloc _
     .rw[ae bi,ae D]
    case measure=>simp[intOf];omega
   |some x=>
    have br:=W x hfe;rw[hfe]at r;unfold tD E.value at r;simp only at r;have bn:=λcb=>vC x.val cb br;have bv:∀(x:Bool)(a:I),(Op.unary .not<|aO x).run bG a=.ok (aO<|!x) a:=λ_ _=>rfl;have D:=Z hfe;clear hfe W;go_wp2_with fail
    apply r.mono;rintro bt y⟨rfl,i,p⟩;have C:=Z i;have K:=Z p;clear i p r;go_wp2_with fail
    have f:ix (cF y<|aw #[aj x.key,aj x.val,aO x.del,aL x.bK] 164) (G<|H y) x:=aE _ rfl;have v:J u.F a (cF y<|aw #[aj x.key,aj x.val,aO x.del,aL x.bK] 164):=(F.trans K<|λ_ l=>.inl l).alloc _;have t:u.D (cF y<|aw #[aj x.key,aj x.val,aO x.del,aL x.bK] 164):=u.fq C (cI az y) cN;generalize cF y (aw #[aj x.key,aj x.val,aO x.del,aL x.bK] 164)=W3 at f v t|-;generalize G (H y)=eb at f|-;obtain⟨cc,cd,bm,ce⟩:=f.cells;have ba:=am f;obtain⟨ca,bx,bT⟩:=dI v t f;have HA:=Z (show∀B,Below (G<|H W3) W3.drew B->aS B (U eb 2)=M (aO x.del)/\u.D B/\J u.F a B from by
     intro B w;have V:J az W3 B:=(cg az W3).cw (J.aV (S:=az) w);exact⟨V.cell bm id ba,u.fq t V cN,v.cw V⟩)
    clear f v t;go_region_with(first|(go_at_call 103;refine(bn _).mono ?_;rintro bt B⟨rfl,w⟩;obtain⟨ch,au,av⟩:=HA B w;have ao:=Z<|And.intro au av;clear au av w))
    all_goals(go_wp2;refine cO (mV rfl _ _ _) rfl ?_;exact⟨by rw[ae ad,ae D];rfl,ao.1,ao.2⟩)
  .have f:A=z c:=by omega
   rw[f,bP]at e;obtain⟨i,ac,F⟩:=dI e j o;have e1:¬(A:Y)<(z c:Y):=by omega
   clear e j o q f;go_wp2;refine cO (mV rfl _ _ _) rfl ?_;exact⟨by rw[ae i];rfl,ac,F⟩
structure Aside(w:I)(K:DK)(db sb k:R):Prop where
 lt:k<G (H w)
 bw:¬K.bw db k
 ne:k≠sb
def Aside.fm(h:Aside a j c g l)(d:gq a f c g j N):Aside f N c g l:=⟨ag h.lt d.ay.size,λe=>(d.bw l e).elim h.bw (λi=>by have:=h.lt;omega),h.ne⟩
def Aside.block{w w':I}(h:Aside w j c g l)(a:gq w w' c g j N):w'.heap[l]?=w.heap[l]?:=a.ay.block l h.lt<|λd=>d.elim h.bw h.ne
def Aside.cell{w w':I}{c a k i:R}(h:Aside w j c a k)(g:gq w w' c a j N)(e:aS w (U k i)=M d):aS w' (U k i)=M d:=(cP (w:=w)<|h.block g).trans e
def Aj(n:Row a g d l x)(i:gq a f b c j N)(e:∀k,bY d=M k->Aside a j b c k):Row f g d l x:=i.ay.row n<|λk h=>⟨λm=>m.elim (e k h).bw (e k h).ne,(e k h).lt⟩
structure rV(w:I)(db:R)(fs:Fs)(A:fN)(t:bJ):Prop where
 mem:∃bb boff wU,mh w t.tb (aA db) t.num (z<|dL t.cs) (z<|fp<|bO 0 t.cs) (mQ<|fp<|bO 0 t.cs) bb boff wU aG t.ks/\A bb
 loc:A t.tb
 ks:t.ks=bO 0 t.cs
 num:t.num<18446744073709551616
 pure:tQ t.ks t.cs
 idx:Kg (bO 0 t.cs)
 small:z (dL t.cs)<=100000
 file:ew fs (gP t.num)=M (mS t.cs)
def rV.fm(h:rV a c (vw j.files) (Aside a j c g) O)(i:gq a f c g j N)(m:ew (vw N.files) (gP O.num)=ew (vw j.files) (gP O.num)):rV f c (vw N.files) (Aside f N c g) O:=by
 obtain⟨l,e,d,n,k⟩:=h.mem;exact⟨⟨l,e,d,n.dq (h.loc.block i)<|k.block i,k.fm i⟩,h.loc.fm i,h.ks,h.num,h.pure,h.idx,h.small,m.trans h.file⟩
structure Tg(w:I)(K:DK)(db sb:R):Prop where
 steps:Steps w
 pow:Pow w
 fC:Aside w K db sb 1
 mJ:Aside w K db sb 2
def Tg.fm(h:Tg a j c g)(d:gq a f c g j N):Tg f N c g:=⟨λk e=>h.fC.cell d<|h.steps k e,h.pow.dq<|h.mJ.block d,h.fC.fm d,h.mJ.fm d⟩
structure FL(w:I)(K:DK)(db sb:R)(v:aa)(ts:cR):Prop where
 row:Row w 1 v (z ts) (ts.map bJ.ptr)
 loc:∀k,bY v=M k->Aside w K db sb k
 each:∀t∈ts,rV w db (vw K.files) (Aside w K db sb) t
def FL.fm(k:FL a j c g d i)(e:gq a f c g j N)(l:∀t∈i,ew (vw N.files) (gP t.num)=ew (vw j.files) (gP t.num)):FL f N c g d i:=⟨Aj k.row e k.loc,λn m=>(k.loc n m).fm e,λt h=>(k.each t h).fm e<|l t h⟩
def lG(h:∀t∈i,tQ t.ks t.cs):z i<=z (cr i):=by
 induction i with
 |nil=>simp
 |cons t r b=>
  obtain⟨x,a,_⟩:=(h t<|by simp).xO;have c:1<=z t.all:=vK a;have d:=b (λu a=>h u<|by simp[a]);have e:z (cr<|t::r)=z t.all+z (cr r):=by simp[cr]
  simp only[aC];omega
structure ST(w:I)(sb:R)(s:SR)(K:DK)(m:cK)(a b c d:cR)(C:R):Prop where
 mem:ku w s.memory m
 tr:∀k,bY s.memory=M k->Aside w K s.aN sb k
 l0:FL w K s.aN sb s.l0 a
 l1:FL w K s.aN sb s.l1 b
 l2:FL w K s.aN sb s.l2 c
 l3:FL w K s.aN sb s.l3 d
 aN:cU w s.aN K
 rI:¬K.bw s.aN sb
 kW:Tg w K s.aN sb
 qK:z m+z (cr a)+z (cr b)+z (cr c)+z (cr d)<=C
 mw:C<=1000000
 mr:dS m
 jb:∀x∈m,x.Good
 s1:kR b
 s2:kR c
 s3:kR d
def ST.len{d b f i:cR}(h:ST a c n j e d b f i g):z e<=2000000:=by have:=h.qK;have:=h.mw;omega
def ST.count{f b i k:cR}(h:ST a c n j e f b i k g):z f+z b+z i+z k<=2000000:=by
 have:=h.qK;have:=h.mw;have:=lG<|λt d=>(h.l0.each t d).pure;have:=lG h.s1.pure;have:=lG h.s2.pure;have:=lG h.s3.pure;omega
def ST.fm{m b k o:cR}(h:ST a c n j e m b k o g)(l:c<G (H a))(d:gq a f n.aN c j N)(i:vw N.files=vw j.files):ST f c n N e m b k o g where
 mem:=Aj h.mem d h.tr
 tr:=λk c=>(h.tr k c).fm d
 l0:=h.l0.fm d<|λ_ _=>by rw[i]
 l1:=h.l1.fm d<|λ_ _=>by rw[i]
 l2:=h.l2.fm d<|λ_ _=>by rw[i]
 l3:=h.l3.fm d<|λ_ _=>by rw[i]
 aN:=d.ok
 rI:=λk=>(d.bw c k).elim h.rI<|λi=>by omega
 kW:=h.kW.fm d
 qK:=h.qK
 mw:=h.mw
 mr:=h.mr
 jb:=h.jb
 s1:=h.s1
 s2:=h.s2
 s3:=h.s3
def oO(s:SR)(m:cK)(a b c d:cR):cD (aa×cK):=(.iface 102 s.memory,m)::(((a.map<|λt=>(NJ t,t.all)).reverse)++[(FX (s.l1,b),cr b)]++[(FX (s.l2,c),cr c)]++[(FX (s.l3,d),cr d)])
def yy(s:SR)(m:cK)(a b c d:cR):(oO s m a b c d).map (·.1)=xD s.memory (s.l0,a) (s.l1,b) (s.l2,c) (s.l3,d):=by
 simp[oO,xD,pG,uS]
def ST.YC{k b l o:cR}(h:ST a c n j e k b l o g)(d:bM a c n m):Du a c 10 [(n.l0,k),(n.l1,b),(n.l2,l),(n.l3,o)]:=by
 refine⟨rfl,λi f=>?_,λi f=>?_,λi f=>?_,?_⟩;(have:i=0\/i=1\/i=2\/i=3:=by simp at f;omega);rcases this with rfl|rfl|rfl|rfl<;>exact d.cell rfl;(have:i=0\/i=1\/i=2\/i=3:=by simp at f;omega);rcases this with rfl|rfl|rfl|rfl;exact h.l0.row;exact h.l1.row;exact h.l2.row;exact h.l3.row;(have:i=0\/i=1\/i=2\/i=3:=by simp at f;omega);rcases this with rfl|rfl|rfl|rfl;exactλm d=>(h.l0.loc m d).lt;exactλm d=>(h.l1.loc m d).lt;exactλm d=>(h.l2.loc m d).lt;exactλm d=>(h.l3.loc m d).lt;have:=h.count;simp[mG];omega
def mN(a:R)(K:DK):jr:=AT a K.files K.eU<|K.bw a
def IA(h:rV a b (vw j.files) (Aside a j b c) O)(e:Tg a j b c):nZ (AT b j.files j.eU<|j.bw b) (G<|H a) O.tb O.ks O.cs a:=by
 obtain⟨k,f,d,m,i⟩:=h.mem;obtain⟨n,l,g⟩:=jz h.file;refine nZ.PT b j.files j.eU (j.bw b) (G<|H a) O.tb O.num h.num _ _ _ k f d aG O.ks O.cs n (fp<|bO 0 O.cs) a m h.pure l g ?_ ⟨h.loc.lt,h.loc.bw⟩ ⟨i.lt,i.bw⟩ e.steps ⟨e.fC.lt,e.fC.bw⟩ e.pow ⟨e.mJ.lt,e.mJ.bw⟩;rw[g];have o:=lB<|λk a=>(h.idx.can k a).fits;have:=h.small;have:=h.idx.len;unfold mS fp;rw[af,af,cq];omega
def yG(h:FL a j b c d i)(f:Tg a j b c)(k:kR i)(g:z i<=1000000000):sC (AT b j.files j.eU<|j.bw b) (G<|H a) d i a:=⟨h.row,λm e=>⟨(h.loc m e).lt,(h.loc m e).bw⟩,λt l=>IA (h.each t l) f,k,g⟩
def Qc(c:cU a b j)(d:∀k,j.bw b k->k<G (H a)):(AT b j.files j.eU<|j.bw b).D a:=⟨d,j,c,rfl,rfl,λ_ h=>h⟩
def ST.Jb(h:ST a b n j e i p r s c):(mN n.aN j).D a:=Qc h.aN h.aN.lt
def ST.Yb(h:ST a b n j e i p r s c):∀g∈oO n e i p r s,rp (mN n.aN j) (G<|H a) g.1 g.2 a:=by
 have hF:∀k,(mN n.aN j).F k->k<G (H a):=h.aN.lt;have l:=h.count;intro g d;simp only[oO,aD,ap,jh,bz,eO,kS]at d;rcases d with rfl|((⟨t,f,rfl⟩|rfl)|rfl)|rfl;exact rp.list h.mem h.mr (show z e<=1000000000000 by have:=h.len;omega) (λk a=>⟨(h.tr k a).lt,(h.tr k a).bw⟩)<|ai _;exact rp.table (IA (h.l0.each t f) h.kW) (ai _) hF;exact rp.xN (yG h.l1 h.kW h.s1<|by omega) (ai _) hF;exact rp.xN (yG h.l2 h.kW h.s2<|by omega) (ai _) hF;exact rp.xN (yG h.l3 h.kW h.s3<|by omega) (ai _) hF
def Bo(h:kR i):∀x∈cr i,x.Good:=by
 intro x a;unfold cr at a;obtain⟨l,c,a⟩:=bC.1 a;obtain⟨t,d,rfl⟩:=bz.1 c;obtain⟨e,b,a⟩:=bC.1 a;exact(h.pure t d).jb e b x a
def Ty(h:tQ O.ks O.cs):∀x∈O.all,x.Good:=by
 intro x a;obtain⟨c,b,a⟩:=bC.1 a;exact h.jb c b x a
def ST.KT(h:ST a b n j e i p r s c):∀g∈oO n e i p r s,∀x∈g.2,x.Good:=by
 intro g d;simp only[oO,aD,ap,jh,bz,eO,kS]at d;rcases d with rfl|((⟨t,f,rfl⟩|rfl)|rfl)|rfl;exact h.jb;exact Ty (h.l0.each t f).pure;exact Bo h.s1;exact Bo h.s2;exact Bo h.s3
def kM(c:cU a n.aN j)(d:¬j.bw n.aN b)(e:Y):gq a (ct a (U b 0)<|jo e) n.aN b j j:=(gq.refl c).set d 0 _
def gq.sb(h:gq a B b c j N)(d:¬j.bw b c)(g:c<G (H a)):¬N.bw b c:=λe=>(h.bw c e).elim d<|λi=>by omega
def rk{b sbqq:R}(d:cU a b j)(c:Below (G<|H a) a f):gq a f b sbqq j j:=⟨d.ay (J.aV (S:=az) c)<|λ_ _=>id,(J.aV (S:=az) c).mono cN,λ_ e=>.inl e⟩
structure FK(w:I)(K:DK)(sb:R)(s:SR)(sn:fw):Prop where
 ex:∃b,s.mj=M b/\jJ w b (Bd sn)/\Aside w K s.aN sb b
 len:z sn<=4
def FK.fm{g:fw}(k:FK a j c n g)(e:gq a f n.aN c j N):FK f N c n g:=by
 obtain⟨b,h,i,d⟩:=k.ex;exact⟨⟨b,h,i.dq<|d.block e,d.fm e⟩,k.len⟩
def FK.fields{s s':SR}{c:fw}(h:FK a j b s c)(g:s'.aN=s.aN/\s'.mj=s.mj):FK a j b s' c:=by
 obtain⟨i,d,e,f⟩:=h.ex;exact⟨⟨i,g.2.trans d,e,by rw[g.1];exact f⟩,h.len⟩
theorem rV.Sd{w w':I}{db:R}{m:Fs}{A:fN}{t:bJ}(l:rV w db m A t)(o:∀r,A r->w'.heap[r]?=w.heap[r]?):rV w' db m A t:=by
 obtain⟨p,k,j,q,n⟩:=l.mem;exact⟨⟨p,k,j,q.dq (o _ l.loc)<|o _ n,n⟩,l.loc,l.ks,l.num,l.pure,l.idx,l.small,l.file⟩
structure Na(t:bJ):Prop where
 pure:tQ t.ks t.cs
 idx:Kg (bO 0 t.cs)
 small:z (dL t.cs)<=100000
def Kc(db sbqq baseqq:R)(K:DK)(k:R):Prop:=k<baseqq/\¬K.bw db k/\k≠sbqq
def XT(e:cR)(ps:cD NT)(t:bJ):Prop:=t∈e\/∃p∈ps,p.t=t
def qT(w:I)(db sbqq baseqq:R)(K:DK)(v:aa):Prop:=∀k,bY v=M k->k<G (H w)/\¬K.bw db k/\k≠sbqq/\(k<baseqq\/∃j l,w.heap[k]?=M (aw j 224 l))
theorem qT.ay{w w':I}{db sbqq baseqq:R}{K:DK}{v:aa}(n:qT w db sbqq baseqq K v)(l:J (K.bw db) w w'):qT w' db sbqq baseqq K v:=λq m=>by
 obtain⟨j,k,o,p⟩:=n q m;exact⟨ag j l.size,k,o,p.imp id<|λ⟨m,n,r⟩=>⟨m,n,(l.block q j k).trans r⟩⟩
structure LS(w:I)(db sb base:R)(K:DK)(e:cR)(ps:cD NT)(C:R)(g h i f:aa)(a b c d:cR):Prop where
 D:(mN db K).D w
 le:base<=G (H w)
 bw:∀k,K.bw db k->k<base
 KM:sb<base
 steps:Steps w
 pow:Pow w
 fC:Kc db sb base K 1
 mJ:Kc db sb base K 2
 vi:∀t∈e,rV w db (vw K.files) (Kc db sb base K) t
 news:∀p∈ps,p.Ok w base/\Na p.t
 apart:ps.Pairwise NT.np
 r0:Row w 1 g (z a) (a.map bJ.ptr)
 r1:Row w 1 h (z b) (b.map bJ.ptr)
 r2:Row w 1 i (z c) (c.map bJ.ptr)
 r3:Row w 1 f (z d) (d.map bJ.ptr)
 b0:qT w db sb base K g
 b1:qT w db sb base K h
 b2:qT w db sb base K i
 b3:qT w db sb base K f
 x0:∀t∈a,XT e ps t
 x1:∀t∈b,XT e ps t
 x2:∀t∈c,XT e ps t
 x3:∀t∈d,XT e ps t
 nodup:((a++b++c++d).map bJ.tb).Nodup
 s1:kR b
 s2:kR c
 s3:kR d
 qK:z (cr a)+z (cr b)+z (cr c)+z (cr d)<=C
 mw:C<=1000000
section
variable{w w':I}{db sbqq baseqq C:R}{K:DK}{e:cR}{ps:cD NT}{g h i f:aa}{a b c d:cR}
theorem XT.more{t:bJ}(j:XT e ps t)(l:cD NT):XT e (ps++l) t:=by
 rcases j with j|⟨p,k,m⟩;exact .inl j;exact .inr ⟨p,by simp[k],m⟩
theorem LS.ay(j:LS w db sbqq baseqq K e ps C g h i f a b c d)(l:J (K.bw db) w w')(n:(mN db K).D w'):LS w' db sbqq baseqq K e ps C g h i f a b c d where
 D:=n
 le:=aF j.le l.size
 bw:=j.bw
 KM:=j.KM
 steps:=λm k=>l.cell (j.steps m k) j.fC.2.1<|ag j.fC.1 j.le
 pow:=j.pow.dq<|l.block _ (ag j.mJ.1 j.le) j.mJ.2.1
 fC:=j.fC
 mJ:=j.mJ
 vi:=λt n=>(j.vi t n).Sd<|λm k=>l.block m (ag k.1 j.le) k.2.1
 news:=λp n=>⟨(j.news p n).1.ay l (λm k c=>by have:=((j.news p n).1.lt m k).1;have:=j.bw m c;omega),(j.news p n).2⟩
 apart:=j.apart
 r0:=l.row j.r0<|λm k=>⟨(j.b0 m k).2.1,(j.b0 m k).1⟩
 r1:=l.row j.r1<|λm k=>⟨(j.b1 m k).2.1,(j.b1 m k).1⟩
 r2:=l.row j.r2<|λm k=>⟨(j.b2 m k).2.1,(j.b2 m k).1⟩
 r3:=l.row j.r3<|λm k=>⟨(j.b3 m k).2.1,(j.b3 m k).1⟩
 b0:=j.b0.ay l
 b1:=j.b1.ay l
 b2:=j.b2.ay l
 b3:=j.b3.ay l
 x0:=j.x0
 x1:=j.x1
 x2:=j.x2
 x3:=j.x3
 nodup:=j.nodup
 s1:=j.s1
 s2:=j.s2
 s3:=j.s3
 qK:=j.qK
 mw:=j.mw
theorem LS.XN(l:LS w db sbqq baseqq K e ps C g h i f a b c d){t:bJ}(j:XT e ps t):tQ t.ks t.cs:=by
 rcases j with j|⟨p,k,rfl⟩;exact(l.vi t j).pure;exact(l.news p k).2.pure
theorem LS.Wj(l:LS w db sbqq baseqq K e ps C g h i f a b c d){t:bJ}(j:XT e ps t):nZ (mN db K) (G<|H w) t.tb t.ks t.cs w:=by
 have A:=l.le;have o:1<G (H w)/\¬(mN db K).F 1:=⟨by have:=l.fC.1;omega,l.fC.2.1⟩;rcases j with j|⟨p,B,rfl⟩;obtain⟨u,m,k,x,s⟩:=(l.vi t j).mem;obtain⟨y,v,n⟩:=jz (l.vi t j).file;refine nZ.PT db K.files K.eU (K.bw db) (G<|H w) t.tb t.num (l.vi t j).num _ _ _ u m k aG t.ks t.cs y (fp<|bO 0 t.cs) w x (l.vi t j).pure v n ?_ ⟨by have:=(l.vi t j).loc.1;omega,(l.vi t j).loc.2.1⟩ ⟨by have:=s.1;omega,s.2.1⟩ l.steps o l.pow ⟨by have:=l.mJ.1;omega,l.mJ.2.1⟩;rw[n];have D:=lB<|λr q=>((l.vi t j).idx.can r q).fits;have:=(l.vi t j).small;have:=(l.vi t j).idx.len;unfold mS fp;rw[af,af,cq];omega;obtain⟨k,n⟩:=l.news p B;have u:=k.lt;have s:∀r,p.has r->r<G (H w)/\¬(mN db K).F r:=λr q=>⟨(u r q).2,λc=>by have:=l.bw r c;have:=(u r q).1;omega⟩;(have m:z (dL p.t.cs)<=p.Gm:=by rcases k.data.2 with⟨c,_⟩|⟨D,v,x,c,_,_,y,_⟩;cases c;cases c;simpa using y);exact nZ.XU (mN db K) (G<|H w) p.t.tb 0 0 0 0 p.bb 0 p.wU p.x 0 p.Gm p.t.ks p.t.cs w k.mem n.pure (eQ.bytes k.data) m (by have:=n.small;omega) (s _<|.inl rfl) (s _<|.inr<|.inl rfl) (s _<|.inr<|.inr rfl) l.steps o
theorem LS.count(j:LS w db sbqq baseqq K e ps C g h i f a b c d):z a+z b+z c+z d<=1000000:=by
 have:=j.qK;have:=j.mw;have:=lG<|λt k=>j.XN<|j.x0 t k;have:=lG j.s1.pure;have:=lG j.s2.pure;have:=lG j.s3.pure;omega
theorem LS.YE(j:LS w db sbqq baseqq K e ps C g h i f a b c d):sC (mN db K) (G<|H w) h b w:=⟨j.r1,λm k=>⟨(j.b1 m k).1,(j.b1 m k).2.1⟩,λt l=>j.Wj<|j.x1 t l,j.s1,by have:=j.count;omega⟩
theorem LS.YD(j:LS w db sbqq baseqq K e ps C g h i f a b c d):sC (mN db K) (G<|H w) i c w:=⟨j.r2,λm k=>⟨(j.b2 m k).1,(j.b2 m k).2.1⟩,λt l=>j.Wj<|j.x2 t l,j.s2,by have:=j.count;omega⟩
theorem LS.Zi(j:LS w db sbqq baseqq K e ps C g h i f a b c d):sC (mN db K) (G<|H w) f d w:=⟨j.r3,λm k=>⟨(j.b3 m k).1,(j.b3 m k).2.1⟩,λt l=>j.Wj<|j.x3 t l,j.s3,by have:=j.count;omega⟩
theorem Dq{j:cR}(n:∀t∈j,t.ks=bO 0 t.cs):lK j=z (cr j):=by
 induction j with
 |nil=>rfl
 |cons t r m=>
  have k:=m (λu j=>n u<|by simp[j]);have l:=n t (by simp);unfold lK at k|-;rw[aZ,iT,k,yO,af,l,BW];rfl
theorem LS.ks(l:LS w db sbqq baseqq K e ps C g h i f a b c d){t:bJ}(j:XT e ps t):t.ks=bO 0 t.cs:=by
 rcases j with j|⟨p,k,rfl⟩;exact(l.vi t j).ks;exact(l.news p k).1.ks
theorem Ec{l n:R}{v:aa}{o:jd}(q:Row w l v n o)(s:0<n):∃b j k,v=bE b j n k/\n<=k:=by
 rcases q.2 with⟨_,r⟩|⟨b,j,k,p,m,_⟩;omega;exact⟨b,j,k,p,m⟩
theorem LS.pM{m:cR}{B:cK}(v:LS w db sbqq baseqq K e ps C g h i f a b c d)(N:J (K.bw db) w w')(y:qL w' (G<|H w) m)(E:m.map bJ.all=gR B)(L:dS B)(t:rm 5 B)(D:∀W∈B,W.Good):∃l:cD NT,l.map NT.t=m/\(∀p∈ps++l,p.Ok w' baseqq/\Na p.t)/\(ps++l).Pairwise NT.np/\(∀A∈m,XT e (ps++l) A)/\(∀A∈m,G (H w)<=A.tb)/\(m.map bJ.tb).Nodup:=by
 have F:=yF E y.each L t D;obtain⟨l,n,o,x⟩:=y;have s:∀p∈ps,∀u,p.has u->u<G (H w):=λp j u r=>((v.news p j).1.lt u r).2;refine⟨l,n,λp j=>?_,?_,λA k=>?_,λA k=>?_,?_⟩;rcases ap.1 j with c|c;exact⟨(v.news p c).1.ay N (λu r d=>by have:=((v.news p c).1.lt u r).1;have:=v.bw u d;omega),(v.news p c).2⟩;obtain⟨O,P,Q,S⟩:=F p.t (by rw[<-n];exact ie c);refine⟨(o p c).base v.le,O,P,?_⟩;have T:=(o p c).pieces.data;have V:=(o p c).pieces.length;omega;rw[bR];exact⟨v.apart,x,λp j q l u r k=>by have:=s p j u r;have:=((o q l).lt u k).1;omega⟩;rw[<-n]at k;obtain⟨p,j,rfl⟩:=bz.1 k;exact .inr ⟨p,by simp[j],rfl⟩;rw[<-n]at k;obtain⟨p,j,rfl⟩:=bz.1 k;exact(o p j).new;rw[<-n,iZ];unfold List.Nodup;rw[jw];refine x.imp<|λ{p q}j k=>j p.t.tb (.inl rfl)<|.inl k
theorem XT.qR(k:LS w db sbqq baseqq K e ps C g h i f a b c d){t:bJ}(j:XT e ps t):t.tb<G (H w):=by
 rcases j with j|⟨p,l,rfl⟩;have:=(k.vi t j).loc.1;have:=k.le;omega;exact((k.news p l).1.lt _<|.inl rfl).2
theorem PH{j:cR}(k:∀t∈j,tQ t.ks t.cs)(l:dS (cr j))(m:(j.map bJ.all).Pairwise gZ):kR j:=⟨k,l,m⟩
theorem vY{j u:R}{v:aa}{s:jd}(m:w'.ownsRow (G<|H w) 224 j v u s)(q:∀n,K.bw db n->n<baseqq)(r:sbqq<baseqq)(t:baseqq<=G (H w)):qT w' db sbqq baseqq K v:=λn l=>by
 have o:=m.lt n l;obtain⟨k,p⟩:=fK m l;exact⟨o.2,λc=>by have:=q n c;omega,by omega,.inr ⟨k,_,p⟩⟩
end
theorem SK{n:R}{a b c d:cR}(k:PR n (bZ a b c d)):dS (cQ<|cr b::a.map bJ.all):=by
 have j:bZ a b c d=[]++((a.map bJ.all).reverse++[cr b])++[cr c,cr d]:=by simp[bZ]
 rw[j]at k;exact(zn (ms:=[]) (lowest:=bF) (λr j=>k.row r (by simp only[cJ,ap,jh];exact .inl<|.inl j)) (k.row _<|by simp) (bR.1 k.pM).1).1
theorem PU{u v j:cR}{o:R}(q:kR u)(r:kR v)(p:Over (cr u) (cr v))(l:o<z u)(n:j.Sublist v):dS (cQ<|cr j::[u[o]].map bJ.all):=by
 have k:∀t∈[u[o].all,cr j],dS t:=by intro t s;simp only[aD,eO,kS]at s;rcases s with rfl|rfl;exact q.each<|ar l;exact r.mr.sub<|nY n
 have m:ki [u[o].all,cr j]:=On<|λx q k r=>p x (lA.2 ⟨_,ar l,q⟩) k<|(nY n).subset r;show dS (cQ [cr j,u[o].all]);rw[tq k m<|List.Perm.swap _ _ _];exact ph k m
theorem LS.YL{w:I}{db sbqq baseqq C an:R}{K:DK}{e:cR}{ps:cD NT}{g h i f:aa}{a b c d:cR}(j:LS w db sbqq baseqq K e ps C g h i f a b c d)(X:PR an (bZ a b c d))(ha:0<z a)(o:eP)(P:Option Addr)(O:R)(hm:Row w 1 (ah P (z o) O) (z o) (o.map<|Value.int .u64))(W:∀v,bY (ah P (z o) O)=M v->v<G (H w)/\¬K.bw db v)(D:z o<=4):cA bG 119 #[eB #[g,h,i,f],aq 0,ah P (z o) O] w λS w'=>∃Q l N,∃y:cR,∃ac,S=aP (dE #[eB #[aG,ah Q l N,i,f],.nilIface])/\LS w' db sbqq baseqq K e ac C aG (ah Q l N) i f [] y c d/\PR an (bZ [] y c d)/\(∀x,(x∈o\/(an:Y)<=x)->∀v,fj x (bZ [] y c d) v=fj x (bZ a b c d) v)/\J (K.bw db) w w':=by
 obtain⟨b0,o0,c0,rfl,al⟩:=Ec j.r0 ha;obtain⟨x1,c1,rfl⟩:=bS j.r1;obtain⟨x2,c2,rfl⟩:=bS j.r2;obtain⟨x3,c3,rfl⟩:=bS j.r3;have A:∀ad∈cQ (cr b::a.map bJ.all),ad.Good:=by intro ad L;have:=(eK _).mem_iff.1 L;rw[aX,ap]at this;refine X.jb ad ?_;unfold bZ;rw[dQ,ap];rcases this with S|S;right;simp[S];left;obtain⟨ao,hl,L⟩:=bC.1 S;exact bC.2 ⟨ao,jh.2 hl,L⟩
 have q:z (cQ<|cr b::a.map bJ.all)<=1000000:=by have T:=(eK<|cr b::a.map bJ.all).length_eq;rw[aX,af]at T;have h2:(a.map bJ.all).flatten=cr a:=rfl;rw[h2]at T;have:=j.qK;have:=j.mw;omega
 have E:=SK X;refine(SM b0 o0 c0 x1 x2 x3 _ _ _ c1 c2 c3 a c d j.r0 ⟨(j.b0 _ rfl).1,(j.b0 _ rfl).2.1⟩ (λx F=>j.Wj<|j.x0 x F) j.YE j.r2 j.r3 (λv p=>⟨(j.b2 v p).1,(j.b2 v p).2.1⟩) (λv p=>⟨(j.b3 v p).1,(j.b3 v p).2.1⟩) j.D (ai _) (λv p=>by have:=j.bw v p;have:=j.le;omega) j.steps ⟨by have:=j.fC.1;have:=j.le;omega,j.fC.2.1⟩ j.count o P O hm W D _ rfl E A q).mono ?_;rintro S w'⟨Q,l,N,y,rfl,r,m,n,V,F⟩;obtain⟨_,s,p1,p2,p3⟩:=Pa X m;obtain⟨_,t,B,_⟩:=tj (ms:=o) (lowest:=c.isEmpty&&d.isEmpty) E A q D;obtain⟨qs,q0,q1,q2,q3,q4,q5⟩:=j.pM F n m s t B;have u:kR y:=GJ m n.each s t B;refine⟨Q,l,N,y,ps++qs,rfl,?_,p1,p2,F⟩;have h':=j.ay F V;refine{h' with news:=q1,apart:=q2,r0:=⟨rfl,.inl ⟨rfl,rfl⟩⟩,r1:=dr r,b0:=?_,b1:=vY r j.bw j.KM j.le,x0:=?_,x1:=q3,x2:=λx k=>(h'.x2 x k).more qs,x3:=λx k=>(h'.x3 x k).more qs,nodup:=?_,s1:=u,qK:=?_};intro v p;cases p;intro x k;cases k;rw[cJ,aW,aQ,jx];have hn:=j.nodup;rw[aW,aQ,jx]at hn;refine⟨q5,hn.2.1,λad L au hy S=>?_⟩;obtain⟨x,k,rfl⟩:=bz.1 L;obtain⟨ao,hu,rfl⟩:=bz.1 hy;have T:=q4 x k;(have h2:ao.tb<G (H w):=by rcases ap.1 hu with c|c;exact XT.qR j<|j.x2 ao c;exact XT.qR j<|j.x3 ao c);omega;have:=j.qK;have e0:z (cr ([]:cR))=0:=rfl;omega
theorem LS.YK{w:I}{db sbqq baseqq C ax:R}{K:DK}{e:cR}{ps:cD NT}{g h i f:aa}{a b c d:cR}(k:LS w db sbqq baseqq K e ps C g h i f a b c d)(hp:PR ax (bZ a b c d))(hb:0<z b)(x:eP)(mx:Option Addr)(mc:R)(hm:Row w 1 (ah mx (z x) mc) (z x) (x.map<|Value.int .u64))(ao:∀Q,bY (ah mx (z x) mc)=M Q->Q<G (H w)/\¬K.bw db Q)(V:z x<=4):cA bG 119 #[eB #[g,h,i,f],aq 1,ah mx (z x) mc] w λp w'=>∃xl nl cl xm o cm,∃b' c':cR,∃au,p=aP (dE #[eB #[g,ah xl nl cl,ah xm o cm,f],.nilIface])/\LS w' db sbqq baseqq K e au C g (ah xl nl cl) (ah xm o cm) f a b' c' d/\z b'+1=z b/\PR ax (bZ a b' c' d)/\(∀t,(t∈x\/(ax:Y)<=t)->∀Q,fj t (bZ a b' c' d) Q=fj t (bZ a b c d) Q)/\J (K.bw db) w w':=by
 obtain⟨b0,o0,c0,rfl,al⟩:=Ec k.r1 hb;obtain⟨x1,c1,rfl⟩:=bS k.r0;obtain⟨x2,c2,rfl⟩:=bS k.r2;obtain⟨x3,c3,rfl⟩:=bS k.r3;have an:∀l(s:l<z b)(v:cR),v.Sublist c->∀P∈(cr v::[b[l]].map bJ.all).flatten,P∈cr b\/P∈cr c:=by intro l s v hw P E;simp only[aZ,fi,aX,fR,dO,ap]at E;rcases E with p|p;exact .inr<|(nY hw).subset p;exact .inl<|lA.2 ⟨_,ar s,p⟩
 have F:∀P,P∈cr b\/P∈cr c->P.Good:=λP E=>hp.jb P (by
  unfold bZ;rw[dQ,ap];right;simp only[aX,fR,dO,ap];rcases E with p|p
  .exact .inl p
  .exact .inr (.inl p))
 have r:∀l(s:l<z b)(v:cR),v.Sublist c->dS (cQ<|cr v::[b[l]].map bJ.all)/\(∀P∈cQ (cr v::[b[l]].map bJ.all),P.Good)/\z (cQ<|cr v::[b[l]].map bJ.all)<=1000000:=by intro l s v hw;refine⟨PU k.s1 k.s2 (Dk (C:=(a.map bJ.all).reverse) (D:=[cr d]) (by have:=hp.pM;simpa[bZ]using this)) s hw,λP E=>F P<|an l s v hw P<|(eK _).mem_iff.1 E,?_⟩;have h1:=(eK<|cr v::[b[l]].map bJ.all).length_eq;simp only[aZ,fi,aX,fR,dO,af]at h1;have h2:=(nY hw).length_le;(have N:z b[l].all<=z (cr b):=by have:=(nY (us:=[b[l]]) (ts:=b)<|vJ.2<|ar s).length_le;simpa[cr]using this);have:=k.qK;have:=k.mw;simp only[aZ,fi];omega
 refine(Fl b0 o0 c0 x2 x1 x3 _ _ _ _ _ _ a d k.YE al hb k.YD k.r0 k.r3 (λQ L=>⟨(k.b0 Q L).1,(k.b0 Q L).2.1⟩) (λQ L=>⟨(k.b3 Q L).1,(k.b3 Q L).2.1⟩) k.D (ai _) (λQ L=>by have:=k.bw Q L;have:=k.le;omega) k.steps ⟨by have:=k.fC.1;have:=k.le;omega,k.fC.2.1⟩ (by have:=k.count;omega) (by rw[Dq<|λt ht=>k.ks<|k.x2 t ht];have:=k.qK;have:=k.mw;omega) _ (.inl ⟨rfl,rfl,rfl,rfl,rfl,rfl,rfl⟩) r x mx mc hm ao V).mono ?_;rintro p w'⟨xl,nl,cl,xm,o,cm,y,l,s,S,q,rfl,hcut,W,X,n,u,ad,ht⟩;obtain⟨p1,p2,p3,p0,p4,p5⟩:=OZ hp k.s1 k.s2 s hcut n;rw[ma n]at p3 p4;obtain⟨s1,s2,s3⟩:=r l s _ ((nC _ _).trans (kI _ _):(List.take (q-S)<|List.drop S _).Sublist _);obtain⟨_,B,_,_⟩:=tj (ms:=x) (lowest:=d.isEmpty) s1 s2 s3 V;obtain⟨qs,q0,q1,q2,q3,q4,q5⟩:=k.pM ht u n p3 B p4;have ac:=yF n u.each p3 B p4;have m:(b.take l++b.drop (l+1)).Sublist b:=by(conv=>rhs;rw[SO b l s]);rw[aW];exact(eF _).append<|gl _ _
 have O:(c.take S++c.drop q).Sublist c:=by(conv=>rhs;rw[WY c hcut.le]);rw[aW];exact(eF _).append<|gl _ _
 refine⟨xl,nl,cl,xm,o,cm,b.take l++b.drop (l+1),c.take S++y++c.drop q,ps++qs,rfl,?_,by simp;omega,p1,p2,ht⟩;have h':=k.ay ht ad;have A:∀t∈c.take S++y++c.drop q,t∈c\/t∈y:=by intro t j;simp only[ap]at j;rcases j with(p|p)|p;exact .inl<|eI p;exact .inr p;exact .inl<|dw p
 refine{h' with news:=q1,apart:=q2,r1:=dr W,r2:=dr X,b1:=vY W k.bw k.KM k.le,b2:=vY X k.bw k.KM k.le,x0:=λt j=>(h'.x0 t j).more qs,x1:=λt j=>(h'.x1 t<|m.subset j).more qs,x2:=?_,x3:=λt j=>(h'.x3 t j).more qs,nodup:=?_,s1:=k.s1.sub m,s2:=?_,qK:=?_};intro t j;rcases A t j with p|p;exact(h'.x2 t p).more qs;exact q3 t p;(have hn:((a++(b.take l++b.drop (l+1))++(c.take S++c.drop q)++d).map bJ.tb).Nodup:=by refine sU (List.Sublist.map _ ?_) k.nodup;exact((((eF a).append m).append O).append<|eF d));(have N:(a++(b.take l++b.drop (l+1))++(c.take S++y++c.drop q)++d).Perm (y++(a++(b.take l++b.drop (l+1))++(c.take S++c.drop q)++d)):=by(have T:a++(b.take l++b.drop (l+1))++(c.take S++y++c.drop q)++d=(a++(b.take l++b.drop (l+1))++c.take S)++y++(c.drop q++d):=by simp only[aW]);(have e2:y++(a++(b.take l++b.drop (l+1))++(c.take S++c.drop q)++d)=y++(a++(b.take l++b.drop (l+1))++c.take S)++(c.drop q++d):=by simp only[aW]);rw[T,e2];exact vL _ qM);rw[(N.map bJ.tb).nodup_iff,aQ,jx];refine⟨q5,hn,λP E ba hy p=>?_⟩;obtain⟨t,j,rfl⟩:=bz.1 E;obtain⟨av,hu,rfl⟩:=bz.1 hy;have h1:=q4 t j;(have h2:av.tb<G (H w):=by simp only[ap]at hu;rcases hu with((T|T|T)|T|T)|T;exact XT.qR k<|k.x0 av T;exact XT.qR k<|k.x1 av<|eI T;exact XT.qR k<|k.x1 av<|dw T;exact XT.qR k<|k.x2 av<|eI T;exact XT.qR k<|k.x2 av<|dw T;exact XT.qR k<|k.x3 av T);omega;refine PH (λt j=>?_) (p1.mr _<|by simp[bZ]) p0;rcases A t j with p|p;exact k.s2.pure t p;exact(ac t p).1;have:=k.qK;omega
theorem LS.YJ{w:I}{db sbqq baseqq C ax:R}{K:DK}{e:cR}{ps:cD NT}{g h i f:aa}{a b c d:cR}(k:LS w db sbqq baseqq K e ps C g h i f a b c d)(hp:PR ax (bZ a b c d))(hc:0<z c)(x:eP)(mx:Option Addr)(mc:R)(hm:Row w 1 (ah mx (z x) mc) (z x) (x.map<|Value.int .u64))(ao:∀Q,bY (ah mx (z x) mc)=M Q->Q<G (H w)/\¬K.bw db Q)(V:z x<=4):cA bG 119 #[eB #[g,h,i,f],aq 2,ah mx (z x) mc] w λp w'=>∃xl nl cl xm o cm,∃c' d':cR,∃au,p=aP (dE #[eB #[g,h,ah xl nl cl,ah xm o cm],.nilIface])/\LS w' db sbqq baseqq K e au C g h (ah xl nl cl) (ah xm o cm) a b c' d'/\z c'+1=z c/\PR ax (bZ a b c' d')/\(∀t,(t∈x\/(ax:Y)<=t)->∀Q,fj t (bZ a b c' d') Q=fj t (bZ a b c d) Q)/\J (K.bw db) w w':=by
 obtain⟨b0,o0,c0,rfl,al⟩:=Ec k.r2 hc;obtain⟨x1,c1,rfl⟩:=bS k.r0;obtain⟨x2,c2,rfl⟩:=bS k.r1;obtain⟨x3,c3,rfl⟩:=bS k.r3;have an:∀l(s:l<z c)(v:cR),v.Sublist d->∀P∈(cr v::[c[l]].map bJ.all).flatten,P∈cr c\/P∈cr d:=by intro l s v hw P E;simp only[aZ,fi,aX,fR,dO,ap]at E;rcases E with p|p;exact .inr<|(nY hw).subset p;exact .inl<|lA.2 ⟨_,ar s,p⟩
 have F:∀P,P∈cr c\/P∈cr d->P.Good:=λP E=>hp.jb P (by
  unfold bZ;rw[dQ,ap];right;simp only[aX,fR,dO,ap];rcases E with p|p
  .exact .inr<|.inl p
  .exact .inr (.inr p))
 have r:∀l(s:l<z c)(v:cR),v.Sublist d->dS (cQ<|cr v::[c[l]].map bJ.all)/\(∀P∈cQ (cr v::[c[l]].map bJ.all),P.Good)/\z (cQ<|cr v::[c[l]].map bJ.all)<=1000000:=by intro l s v hw;refine⟨PU k.s2 k.s3 (Dk (C:=(a.map bJ.all).reverse++[cr b]) (D:=[]) (by have:=hp.pM;simpa[bZ]using this)) s hw,λP E=>F P<|an l s v hw P<|(eK _).mem_iff.1 E,?_⟩;have h1:=(eK<|cr v::[c[l]].map bJ.all).length_eq;simp only[aZ,fi,aX,fR,dO,af]at h1;have h2:=(nY hw).length_le;(have N:z c[l].all<=z (cr c):=by have:=(nY (us:=[c[l]]) (ts:=c)<|vJ.2<|ar s).length_le;simpa[cr]using this);have:=k.qK;have:=k.mw;simp only[aZ,fi];omega
 refine(Fl b0 o0 c0 x3 x1 x2 _ _ _ _ _ _ a b k.YD al hc k.Zi k.r0 k.r1 (λQ L=>⟨(k.b0 Q L).1,(k.b0 Q L).2.1⟩) (λQ L=>⟨(k.b1 Q L).1,(k.b1 Q L).2.1⟩) k.D (ai _) (λQ L=>by have:=k.bw Q L;have:=k.le;omega) k.steps ⟨by have:=k.fC.1;have:=k.le;omega,k.fC.2.1⟩ (by have:=k.count;omega) (by rw[Dq<|λt ht=>k.ks<|k.x3 t ht];have:=k.qK;have:=k.mw;omega) _ (.inr ⟨rfl,rfl,rfl,rfl,rfl,rfl,rfl⟩) r x mx mc hm ao V).mono ?_;rintro p w'⟨xl,nl,cl,xm,o,cm,y,l,s,S,q,rfl,hcut,W,X,n,u,ad,ht⟩;obtain⟨p1,p2,p3,p0,p4,p5⟩:=OY hp k.s2 k.s3 s hcut n;rw[ma n]at p3 p4;obtain⟨s1,s2,s3⟩:=r l s _ ((nC _ _).trans (kI _ _):(List.take (q-S)<|List.drop S _).Sublist _);obtain⟨_,B,_,_⟩:=tj (ms:=x) (lowest:=bX) s1 s2 s3 V;obtain⟨qs,q0,q1,q2,q3,q4,q5⟩:=k.pM ht u n p3 B p4;have ac:=yF n u.each p3 B p4;have m:(c.take l++c.drop (l+1)).Sublist c:=by(conv=>rhs;rw[SO c l s]);rw[aW];exact(eF _).append<|gl _ _
 have O:(d.take S++d.drop q).Sublist d:=by(conv=>rhs;rw[WY d hcut.le]);rw[aW];exact(eF _).append<|gl _ _
 refine⟨xl,nl,cl,xm,o,cm,c.take l++c.drop (l+1),d.take S++y++d.drop q,ps++qs,rfl,?_,by simp;omega,p1,p2,ht⟩;have h':=k.ay ht ad;have A:∀t∈d.take S++y++d.drop q,t∈d\/t∈y:=by intro t j;simp only[ap]at j;rcases j with(p|p)|p;exact .inl<|eI p;exact .inr p;exact .inl<|dw p
 refine{h' with news:=q1,apart:=q2,r2:=dr W,r3:=dr X,b2:=vY W k.bw k.KM k.le,b3:=vY X k.bw k.KM k.le,x0:=λt j=>(h'.x0 t j).more qs,x1:=λt j=>(h'.x1 t j).more qs,x2:=λt j=>(h'.x2 t<|m.subset j).more qs,x3:=?_,nodup:=?_,s2:=k.s2.sub m,s3:=?_,qK:=?_};intro t j;rcases A t j with p|p;exact(h'.x3 t p).more qs;exact q3 t p;(have hn:((a++b++(c.take l++c.drop (l+1))++(d.take S++d.drop q)).map bJ.tb).Nodup:=by refine sU (List.Sublist.map _ ?_) k.nodup;exact(((eF<|a++b).append m).append O));(have N:(a++b++(c.take l++c.drop (l+1))++(d.take S++y++d.drop q)).Perm (y++(a++b++(c.take l++c.drop (l+1))++(d.take S++d.drop q))):=by(have T:a++b++(c.take l++c.drop (l+1))++(d.take S++y++d.drop q)=(a++b++(c.take l++c.drop (l+1))++d.take S)++y++d.drop q:=by simp only[aW]);(have e2:y++(a++b++(c.take l++c.drop (l+1))++(d.take S++d.drop q))=y++(a++b++(c.take l++c.drop (l+1))++d.take S)++d.drop q:=by simp only[aW]);rw[T,e2];exact vL _ qM);rw[(N.map bJ.tb).nodup_iff,aQ,jx];refine⟨q5,hn,λP E ba hy p=>?_⟩;obtain⟨t,j,rfl⟩:=bz.1 E;obtain⟨av,hu,rfl⟩:=bz.1 hy;have h1:=q4 t j;(have h2:av.tb<G (H w):=by simp only[ap]at hu;rcases hu with((T|T)|T|T)|T|T;exact XT.qR k<|k.x0 av T;exact XT.qR k<|k.x1 av T;exact XT.qR k<|k.x2 av<|eI T;exact XT.qR k<|k.x2 av<|dw T;exact XT.qR k<|k.x3 av<|eI T;exact XT.qR k<|k.x3 av<|dw T);omega;refine PH (λt j=>?_) (p1.mr _<|by simp[bZ]) p0;rcases A t j with p|p;exact k.s3.pure t p;exact(ac t p).1;have:=k.qK;omega
def Te(w:I)(t:bJ):Prop:=t.num<18446744073709551616/\∃g cut b e f c a d,mh w t.tb g t.num cut b e f c a d t.ks
def Te.ay{w w':I}(n:Te w O)(j:J az w w'):Te w' O:=by
 obtain⟨m,l,cut,c,h,k,d,a,e,g⟩:=n;exact⟨m,l,cut,c,h,k,d,a,e,g.dq (j.block _ (am g.box) id)<|j.block _ g.lt.2 id⟩
def Te.name(n:Te a O)(l:Pow a):cA bG 159 #[aA O.tb] a λm w'=>m=aP (aj<|gP O.num)/\Below (G<|H a) a w':=by
 obtain⟨j,i,cut,c,g,h,d,b,e,k⟩:=n;exact Cl O.tb i O.num j cut c g h d b e O.ks k l
def EY:(prog.info? 94).map (λi=>(i.zero,i.size,i.bytes))=M (M<|eB #[],0,0):=by kernel_rfl
def PQ(a b c d:aa)(e f g h:cR):qx [(a,e),(b,f),(c,g),(d,h)]=(e++f++g++h).map bJ.ptr:=by simp[qx]
def QB(a b c d:aa)(e f g h:cR):mG [(a,e),(b,f),(c,g),(d,h)]=z (e++f++g++h):=by simp[mG]
def nF(T a:cR):cR:=T.filter<|λt=>!(a.any<|λu=>u.num==t.num)
def ON{T T':cR}(h:b<z T):nF (T.take<|b+1) T'=nF (T.take b) T'++(if T'.any (λu=>u.num==T[b].num)then []else [T[b]]):=by
 unfold nF;rw[ak h,je];cases hc:T'.any (λu=>u.num==T[b].num)<;>simp[hc]
def VP{T':cR}(t:bJ):T'.any (λu=>u.num==t.num)=bX↔∃u∈T',aj (gP t.num)=aj (gP u.num):=by
 rw[ji];constructor;rintro⟨u,a,e⟩;exact⟨u,a,by rw[eq_of_beq e]⟩;rintro⟨u,a,e⟩;refine⟨u,a,?_⟩;(have:gP t.num=gP u.num:=by simpa using e);rw[vg this];exact beq_self_eq_true _
def pP(s:SR)(T a:cR):cD ab:=(if s.gF then [iU s.log]else [])++(nF T a).map (λt=>gP t.num)
def IZ(gi cE E ej w x y A:cR)(h:bM a b n m)(hl:Du a b 10 [(n.l0,gi),(n.l1,cE),(n.l2,E),(n.l3,ej)])(r0:Row a 1 d (z w) (w.map bJ.ptr))(r1:Row a 1 t (z x) (x.map bJ.ptr))(r2:Row a 1 L (z y) (y.map bJ.ptr))(r3:Row a 1 V (z A) (A.map bJ.ptr))(k0:∀m,bY d=M m->m<G (H a))(k1:∀m,bY t=M m->m<G (H a))(k2:∀m,bY L=M m->m<G (H a))(k3:∀m,bY V=M m->m<G (H a))(hT:∀v∈gi++cE++E++ej,Te a v)(cl:∀v∈w++x++y++A,Te a v)(hp:Pow a)(gt:n.log<18446744073709551616)(ha:z (gi++cE++E++ej)<=10000000)(hb:z (w++x++y++A)<=10000000):cA bG 143 #[aA b,eB #[d,t,L,V]] a λbn w'=>∃v',bn=aP v'/\w'.ownsRow (G<|H a) 9 1 v' (z<|pP n (gi++cE++E++ej)<|w++x++y++A) (strs<|pP n (gi++cE++E++ej)<|w++x++y++A)/\J az a w':=by
 have hx:=@tS bG;have hk:∀(fs:Bool)(a:I),(Op.unary .not<|aO fs).run bG a=.ok (aO<|!fs) a:=λ_ _=>rfl;obtain⟨i0,eo,fe,ff,fk⟩:=cL EZ;obtain⟨i1,gs,hh,hz,hA⟩:=cL EY;obtain⟨x0,c0,rfl⟩:=bS r0;obtain⟨x1,c1,rfl⟩:=bS r1;obtain⟨x2,c2,rfl⟩:=bS r2;obtain⟨x3,c3,rfl⟩:=bS r3;have gv:=am h;have eq:Du (cF a<|aw #[ah x0 (z w) c0,ah x1 (z x) c1,ah x2 (z y) c2,ah x3 (z A) c3] 107) (G<|H a) 0 [(ah x0 (z w) c0,w),(ah x1 (z x) c1,x),(ah x2 (z y) c2,y),(ah x3 (z A) c3,A)]:=by have q:J az a (cF a<|aw #[ah x0 (z w) c0,ah x1 (z x) c1,ah x2 (z y) c2,ah x3 (z A) c3] 107):=(cI _ _);have cd:(cF a<|aw #[ah x0 (z w) c0,ah x1 (z x) c1,ah x2 (z y) c2,ah x3 (z A) c3] 107).heap[G<|H a]?=M (aw #[ah x0 (z w) c0,ah x1 (z x) c1,ah x2 (z y) c2,ah x3 (z A) c3] 107 (0,0)):=aE _ rfl;refine⟨rfl,λP hi=>?_,λP hi=>?_,λP hi=>?_,by rw[QB];omega⟩;(have:P=0\/P=1\/P=2\/P=3:=by simp at hi;omega);rcases this with rfl|rfl|rfl|rfl<;>(rw[bL cd];rfl);(have:P=0\/P=1\/P=2\/P=3:=by simp at hi;omega);rcases this with rfl|rfl|rfl|rfl;exact q.row r0<|λm f=>⟨id,k0 m f⟩;exact q.row r1<|λm f=>⟨id,k1 m f⟩;exact q.row r2<|λm f=>⟨id,k2 m f⟩;exact q.row r3<|λm f=>⟨id,k3 m f⟩;(have:P=0\/P=1\/P=2\/P=3:=by simp at hi;omega);rcases this with rfl|rfl|rfl|rfl;exactλm f=>ag (k0 m f) q.size;exactλm f=>ag (k1 m f) q.size;exactλm f=>ag (k2 m f) q.size;exactλm f=>ag (k3 m f) q.size
 obtain⟨T,cm⟩:∃T,gi++cE++E++ej=T:=⟨_,rfl⟩;obtain⟨e,ac⟩:∃e,w++x++y++A=e:=⟨_,rfl⟩;have bv:∀cj,J az a cj->cA bG 138 #[fA<|M<|U b 10] cj λbn w'=>∃v',bn=aP v'/\w'.ownsRow (G<|H cj) 224 1 v' (z T) (T.map bJ.ptr)/\J az cj w':=λcj j=>by have:=sw (w:=cj) (lb:=b) (lo:=10) _<|hl.ay j id<|λ_ _ _ _ E=>E;rw[PQ,QB,cm]at this;exact this
 have an:∀cj,J az (cF a<|aw #[ah x0 (z w) c0,ah x1 (z x) c1,ah x2 (z y) c2,ah x3 (z A) c3] 107) cj->cA bG 138 #[aA<|G<|H a] cj λbn w'=>∃v',bn=aP v'/\w'.ownsRow (G<|H cj) 224 1 v' (z e) (e.map bJ.ptr)/\J az cj w':=λcj j=>by have:=sw (w:=cj) (lb:=G<|H a) (lo:=0) _<|eq.ay j id<|λ_ _ _ _ E=>E;rw[PQ,QB,ac]at this;exact this
 rw[cm]at hT ha|-;rw[ac]at cl hb|-;have dn:=Z hT;have cb:=Z cl;obtain⟨HB,HP,fv⟩:=dI h hp bv;have bp:=Z an;clear hT cl h hl r0 r1 r2 r3 k0 k1 k2 k3 eq cm ac hp bv an gi cE E ej;obtain⟨WB,el⟩:∃WB,cF a (aw #[ah x0 (z w) c0,ah x1 (z x) c1,ah x2 (z y) c2,ah x3 (z A) c3] 107)=WB:=⟨_,rfl⟩;have bk:J az a WB:=by rw[<-el];exact(cI _ _)
 have ck:=bk.block b gv id|>.trans HB;have gj:=bM.cellAt ck 18 rfl;have ht:=bM.cellAt ck 17 rfl;have ex:Pow WB:=HP.ay bk id;have bu:=wg n.log gt ex;have ce:=Z bk;rw[el]at bp;clear bk ck ex;have dd:=Z bu;clear bu;obtain⟨lg,bt⟩:∃lg,n.gF=lg:=⟨_,rfl⟩;have dc:=Z (show pP n T e=(if lg then [iU n.log]else [])++(nF T e).map (λv=>gP v.num)by rw[<-bt];rfl);rw[bt]at gj;generalize n.log=fl at*;go_in
 cases lg;(case' false=>(go_wp2_with fail);generalize q:WB=W5;have bh:=Z (show J az WB W5 by rw[<-q];exact J.refl _ _);obtain⟨v5,o⟩:∃v5,v5=ah none 0 0:=⟨_,rfl⟩;obtain⟨c,g⟩:∃c:cD ab,c=[]:=⟨_,rfl⟩;have p:=Z (show W5.ownsRow (G<|H a) 9 1 v5 (z c) (strs c)by rw[o,g];exact bN _ _ _ _);have bo:=Z (show pP n T e=c++(nF T e).map (λv=>gP v.num)by rw[g];exact dc);(have gA:z c<=1:=by rw[g];simp);have ch:=Z o;clear q o g);(case' true=>(go_wp2_with fail);apply dd.mono;rintro bn w2⟨rfl,em⟩;have cd:=Z<|J.aV (S:=az) em;clear em;(go_wp2_with(at_builtin;refine bV _ rfl (.tmp 17) (.tmp 23) 192 rfl (G<|H a) 9 i0 (aj ⟨#[]⟩) 1 16 underlying192 eo fe ff fk rfl (by decide) aG 0 [] rfl (bN _ _ _ _) (U (G<|H w2) 0) 1 1 [aj<|iU fl] rfl rfl (tI _ _ _) (by simp[Value.oneCell']) (by omega) (by omega) (by have:=ce.size;have:=cd.size;simp;omega) ?_;intro V W5 cs fd;obtain⟨x5,c5,o⟩:=aB cs;subst o;have p:=Z cs;have eg:=Z fd;clear cs fd));have bh:=Z<|show J az WB W5 from((cd.alloc _).cw<|J.dR (S:=az) eg.grown<|λm f=>by cases f);obtain⟨v5,o⟩:∃v5,v5=ah x5 1 c5:=⟨_,rfl⟩;obtain⟨c,g⟩:∃c:cD ab,c=[iU fl]:=⟨_,rfl⟩;have q:=ae p;clear p;have p:=Z (show W5.ownsRow (G<|H a) 9 1 v5 (z c) (strs c)by rw[o,g];exact q);have bo:=Z (show pP n T e=c++(nF T e).map (λv=>gP v.num)by rw[g];exact dc);(have gA:z c<=1:=by rw[g];simp);have ch:=Z o;clear eg cd o g q)
 all_goals
  have hc:=bh.size;have hy:=ce.size;apply(bp (cF W5<|.map #[] 0)<|bh.alloc _).mono;rintro bn w6⟨v6,rfl,cu,bi⟩;obtain⟨x6,c6,hd⟩:=aB cu;subst hd;obtain⟨ed,gc,dT,eb⟩:=gD ((lJ.new W5 .string).dq<|bi.block _ (by simp) id) (ce.cw<|(bh.alloc<|.map #[] 0).trans bi cN) ((((J.refl az W5).alloc<|.map #[] 0).cw bi).own p<|λ_ _ E=>E) cu;clear cu bi;obtain⟨D,es⟩:∃D,G (H W5)=D:=⟨_,rfl⟩;rw[es]at ed;have hj:G (H a)<=D:=by omega
  have fx:=Z (show D<G (H<|cF W5<|.map #[] 0)by rw[<-es];simp);clear hc;go_wp2_with fail
  go_loopw [28] (λP wr=>∃bm:R,bm<=z e/\P=aq bm/\lJ wr D .string (λfs=>∃v∈e.take bm,fs=aj (gP v.num))/\J (λm=>m=D) w6 wr) (λP _=>z e-(intOf P).toNat)
  case atStart=>exact⟨0,bB _,rfl,ed.congr (by simp),J.refl _ _⟩
  case round=>
   obtain⟨bm,hG,rfl,i,O⟩:=hrel;have bl:J az a wr:=gc.trans O (λm f=>.inr<|by omega);by_cases F:bm<z e
   .have C:=O.own eb (λm f E=>by have:=(eb.lt m f).1;have:=ae fx;omega);obtain⟨b6,hf,co⟩:∃b6,x6=M (U b6 0)/\aS wr (U b6 bm)=M e[bm].ptr:=by
     rcases C.2 with⟨h2,h0⟩|⟨hn,gk,gn,h2,_⟩
     .omega
     .cases h2;refine⟨hn,rfl,?_⟩;have:=pK C bm e[bm].ptr (by rw[dD,aK F];rfl);rwa[dB,cZ]at this
    subst hf;have ao:=(cb e[bm]<|ar F).ay bl|>.name (HP.ay bl id);have bg:=Z (show∀fs,(∃v∈e.take (bm+1),fs=aj (gP v.num))↔(∃v∈e.take bm,fs=aj (gP v.num))\/fs=aj (gP e[bm].num)fromλfs=>by
     rw[ak F];simp only[ap,bI];constructor
     .rintro⟨v,j|rfl,bn⟩
      .exact .inl ⟨v,j,bn⟩
      .exact .inr bn
     .rintro(⟨v,j,bn⟩|bn)
      .exact⟨v,.inl j,bn⟩
      .exact⟨_,.inr rfl,bn⟩)
    have K:=i.lt;have Q:=Z i;have gg:=Z O;have e1:(bm:Y)<(z e:Y):=by omega
    clear i O bl C;unfold bJ.ptr at co;generalize gP e[bm].num=u at*;generalize e[bm].tb=fn at*;go_wp2_with fail
    apply ao.mono;rintro bn w7⟨rfl,cn⟩;have fz:=Z<|Q.dq<|cn.block D K;have ge:=Z<|gg.cw<|J.aV (S:=az) cn;clear cn ao;go_wp2_with(at_mapUpdate;refine uy _ rfl _ _ _ 277 rfl 9 94 underlying277 .string underlying9 D _ rfl fz (aj u) trivial rfl rfl ?_;intro w8 ey en;have fL:=Z ey;have fu:=Z en;clear ey en)
    go_roundw;case rel=>exact⟨bm+1,F,by go_num,fL.congr bg,ge.trans (fy fu)<|λ_ E=>.inl E⟩
    case measure=>simp[intOf];omega
   .have au:bm=z e:=by omega
    rw[au,bP]at i;have e1:¬(bm:Y)<(z e:Y):=by omega
    have K:=i.lt;obtain⟨Q,ee,bq⟩:=dI i bl<|O.own dT (λm f E=>by have:=(p.lt m f).2;omega);clear i O au;go_wp2_with fail
    apply(fv wr ee).mono;rintro bn w9⟨v9,rfl,cv,bc⟩;obtain⟨x9,c9,he⟩:=aB cv;subst he;obtain⟨gb,ec,ea,gf,bf,dk⟩:=kD (Q.dq<|bc.block D K id) cv (bc.own bq<|λ_ _ E=>E) (ee.cw bc) (show∀m,bY v5=M m->G (H a)<=m/\m<G (H wr)/\m≠D fromλm f=>⟨(p.lt m f).1,(bq.lt m f).2,by have:=(p.lt m f).2;omega⟩)<|show D<G (H wr)/\G (H wr)<=G (H w9)from⟨K,bc.size⟩;clear cv bc;go_wp2_with fail
    go_loopw [5,42] (λo P b=>∃N:R,N<=z T/\P=aq N/\b.ownsRow (G<|H a) 9 1 o (z<|c++(nF (T.take N) e).map (λv=>gP v.num)) (strs<|c++(nF (T.take N) e).map (λv=>gP v.num))/\eY w9 b v5 o) (λ_ P _=>z T-(intOf P).toNat)
    case atStart=>
     refine⟨0,bB _,rfl,?_,?_⟩
     .rw[<-ae ch];have:c++(nF (T.take 0) e).map (λv=>gP v.num)=c:=by simp[nF]
      rw[this];exact ea
     .rw[<-ae ch];exact eY.refl _ _
    case round=>
     obtain⟨N,hF,rfl,ho,bd⟩:=hrel;obtain⟨ox,oc,eu⟩:=aB ho;have s:J (λm=>bY v5=M m) w9 wr:=J.dR bd.grown<|λm f=>.inl f;have k:J az a wr:=gf.trans s<|λm f=>.inr (bf m f).1;have l:=gb.dq<|s.block D (by have:=ae dk;omega)<|λE=>(bf D E).2.2 rfl;have cx:∀m,bY u5=M m->m≠D:=λm f E=>by
      rcases bd.uq with ej|⟨hn,ej,hE⟩
      .exact(bf m<|ej.symm.trans f).2.2 E
      .rw[ej]at f;cases f;have:=ae dk;omega
     by_cases r:N<z T
     .have C:=s.own ec (λm f E=>by have:=(ec.lt m f).1;have:=(bf m E).2.1;omega);obtain⟨b9,hg,co⟩:∃b9,x9=M (U b9 0)/\aS wr (U b9 N)=M T[N].ptr:=by
       rcases C.2 with⟨h2,h0⟩|⟨hn,gk,gn,h2,_⟩
       .omega
       .cases h2;refine⟨hn,rfl,?_⟩;have:=pK C N T[N].ptr (by rw[dD,aK r];rfl);rwa[dB,cZ]at this
      subst hg;have ax:=HP.ay k id;have B:=(dn T[N]<|ar r).ay k;have ao:=B.name ax;have bx:=λcj(j:J az wr cj)=>(B.ay j).name<|ax.ay j id;have bg:=Z<|ON (T':=e) r;have ad:=VP (T':=e) T[N];have e1:(N:Y)<(z T:Y):=by omega
      have cp:=l.lt;have hv:z (c++(nF (T.take N) e).map (λv=>gP v.num))<=20000000:=by
       have:z (nF (T.take N) e)<=z (T.take N):=fB _ _;rw[dP]at this;rw[af,cV];omega
      obtain⟨cc,HO,ei,X,hq,dm⟩:=kD l ho bd k cx bx;clear l ho bd k cx C s bx B ax;unfold bJ.ptr at co;have db:=Z (show∀cE,e.any (λb=>b.num==T[N].num)=cE->(c++(nF (T.take<|N+1) e).map (λv=>gP v.num))=(c++(nF (T.take N) e).map (λv=>gP v.num))++(if cE then []else [gP T[N].num])fromλcE hu=>by
       rw[ae bg,hu,aQ,aW];cases cE<;>rfl)
      clear bg;obtain⟨hm,hr⟩:∃hm,e.any (λb=>b.num==T[N].num)=hm:=⟨_,rfl⟩;have ek:=db hm hr;rw[hr]at ad;have cT:=Z ek;clear ek hr db;generalize gr:c++(nF (T.take N) e).map (λv=>gP v.num)=Lm at*;clear gr;have cM:=Z ad;clear ad;generalize et:gP T[N].num=u at*;clear et;generalize T[N].tb=fn at*;subst eu;go_wp2_with fail
      apply ao.mono;rintro bn fr⟨rfl,al⟩;have ba:J az wr fr:=J.aV al;have bT:=cc.dq<|al.block D cp;have hw:=Bq underlying277 underlying9 gs hh bT (aj u) trivial hm cM;have ds:=Z<|ba.own HO<|λ_ _ E=>E;have W:=Z ba;clear bT ba al ao;cases hm with
      |true=>
       go_wp2;go_roundw;case rel=>
        refine⟨N+1,r,by go_num,?_,?_⟩
        .rw[ae cT];simp only[iO,dO];exact aU ds _
        .have j:=(W.alloc<|aw #[] 94);refine ei.trans ⟨⟨j.os,j.tape,j.output,j.size,λP hi _=>j.block P hi id⟩,.inl rfl⟩
       case measure=>simp[intOf];omega
      |false=>
       go_wp2_with fail
       apply(dm (cF fr<|aw #[] 94)<|W.alloc _).mono;rintro bn cB⟨rfl,bs⟩;have bb:J az wr cB:=(W.alloc<|aw #[] 94).cw<|J.aV (S:=az) bs;have dv:=Z<|bb.own HO<|λ_ _ E=>E;have br:=Z bb;clear bb bs;go_wp2_with(at_builtin;refine bV _ rfl (.tmp 55) (.tmp 58) 192 rfl (G<|H a) 9 i0 (aj ⟨#[]⟩) 1 16 underlying192 eo fe ff fk rfl (by decide) (ah ox (z Lm) oc) (z Lm) (strs Lm) rfl (aU dv<|aw #[aj u] 9) (U (G<|H cB) 0) 1 1 [aj u] rfl rfl (tI _ _ _) (by simp[Value.oneCell']) (by omega) (by omega) (by have:=X.size;have:=br.size;simp;omega) ?_;intro hB hC av ca;obtain⟨hD,hs,fb⟩:=aB av;subst fb;have dx:=Z av;have ef:=Z ca;clear av ca)
       go_roundw;case rel=>
        refine⟨N+1,r,by go_num,?_,?_⟩
        .rw[ae cT];simp only[gV,jT];rw[GF,af];exact dx
        .have j:=ae br;have h1:eY wr cB (ah ox (z Lm) oc) (ah ox (z Lm) oc):=⟨⟨j.os,j.tape,j.output,j.size,λP hi _=>j.block P hi id⟩,.inl rfl⟩;exact ei.trans<|h1.trans<|eY.alloc _ ef
       case measure=>simp[intOf];omega
     .have au:N=z T:=by omega
      rw[au,bP,<-ae bo]at ho;have e1:¬(N:Y)<(z T:Y):=by omega
      obtain⟨oy,od,ev⟩:=aB ho;have HO:=Z ho;have X:=Z k;clear ho bd k s l cx au eu;subst ev;go_wp2;go_ret;exact⟨_,rfl,HO,X⟩
theorem NT.np.symm{p q:NT}(j:p.np q):q.np p:=λk h g=>j k g h
theorem VN{ps:cD NT}(k:ps.Pairwise NT.np){p q:NT}(l:p∈ps)(m:q∈ps)(f:p≠q):p.np q:=by
 obtain⟨i,h,rfl⟩:=gS.1 l;obtain⟨n,j,rfl⟩:=gS.1 m;rw[cG]at k;rcases kH i n with g|g|g;exact k i n h j g;subst g;exact absurd rfl f;exact(k n i j h g).symm
theorem GZ{w l:I}{baseqq s f v k u g:R}{m:jd}(t:w.ownsRow baseqq s f (bE k 0 u g) v m)(r:l.heap[k]?=w.heap[k]?):l.ownsRow baseqq s f (bE k 0 u g) v m:=by
 refine⟨t.1,.inr ?_⟩;rcases t.2 with⟨n,_⟩|⟨x,j,h,n,o,p,q⟩;cases n;cases n;exact⟨k,g,h,rfl,o,r.trans p,q⟩
theorem Mw{f:dX}(g:Kg (bO 0 f))(j:z (dL f)<=100000):z (mS f)<=200000:=by
 have k:=lB<|λl h=>(g.can l h).fits;have:=g.len;unfold mS fp;rw[af,af,cq];omega
structure CF(w:I)(db sb base:R)(K:DK)(c:cR)(ps:cD NT)(T:cR)(a d:R):Prop where
 le:base<=G (H w)
 bw:∀k,K.bw db k->k<base
 KM:sb<base
 xt:∀t∈T,XT c ps t
 nodup:(T.map bJ.tb).Nodup
 apart:ps.Pairwise NT.np
 news:∀p∈ps,p.Ok w base/\Na p.t
 inj:∀t∈c,∀u∈c,t.num=u.num->t=u
 low:∀t∈c,t.num<a
 fresh:∀n,a<=n->ew (vw K.files) (gP n)=none
 fC:Kc db sb base K 1
 mJ:Kc db sb base K 2
 small:z T<=1000000
 nx:a<=1000000000000000
 room:d<=800000000000
 qK:iy (vw K.files)<=d
 eU:z K.eU<=10000000000
def Wr(db:R)(K:DK)(ps:cD NT)(k:R):Prop:=K.bw db k\/∃p∈ps,k=p.t.tb\/k=p.x
structure CM(w:I)(db sb base:R)(K:DK)(c:cR)(ps:cD NT)(T:cR)(a d:R)(wr:I)(b:DK)(us:cR)(i num:R):Prop where
 len:z us=i
 le:i<=z T
 same:us.map (λt=>(t.tb,t.ks,t.cs))=(T.take i).map (λt=>(t.tb,t.ks,t.cs))
 Df:∀t∈c,rV wr db (vw b.files) (Kc db sb base K) t
 Qq:∀u∈us,u∈c\/∃p∈ps,p.t.tb=u.tb/\rV wr db (vw b.files) p.has u/\a<=u.num/\u.num<num
 rest:∀p∈ps,p.t∈T.drop i->p.Ok wr base
 files:∃gs:Fs,vw b.files=vw K.files++gs/\(∀g∈gs,∃u∈us,g=(gP u.num,mS u.cs)/\a<=u.num)
 qK:iy (vw b.files)<=d+i*200000
 zF:(us.map bJ.num).Nodup
 qS:a<=num/\num<=a+i
 aN:cU wr db b
 eU:z b.eU<=z K.eU+i
 ay:J (Wr db K ps) w wr
 bw:∀k,b.bw db k->K.bw db k\/G (H w)<=k
 steps:Steps wr
 pow:Pow wr
section
variable{w wr w2:I}{db sbqq baseqq:R}{K b e:DK}{c:cR}{ps:cD NT}{T us:cR}{a d i num:R}
theorem CM.start(h:CF w db sbqq baseqq K c ps T a d)(j:∀t∈c,rV w db (vw K.files) (Kc db sbqq baseqq K) t)(g:cU w db K)(k:Steps w)(f:Pow w):CM w db sbqq baseqq K c ps T a d w K [] 0 a where
 len:=rfl
 le:=bB _
 same:=by simp
 Df:=j
 Qq:=by simp
 rest:=λp f _=>(h.news p f).1
 files:=⟨[],by simp,by simp⟩
 qK:=by have:=h.qK;omega
 zF:=by simp
 qS:=⟨ai _,ai _⟩
 aN:=g
 eU:=ai _
 ay:=J.refl _ _
 bw:=λ_ h=>.inl h
 steps:=k
 pow:=f
theorem Ux(h:us.map (λt=>(t.tb,t.ks,t.cs))=(T.take i).map (λt=>(t.tb,t.ks,t.cs))):us.map bJ.tb=(T.take i).map bJ.tb:=by
 have:=bW (List.map Prod.fst) h;simpa[iZ,nE]using this
theorem Tx(m:(T.map bJ.tb).Nodup)(k:i<z T)(r:us.map (λt=>(t.tb,t.ks,t.cs))=(T.take i).map (λt=>(t.tb,t.ks,t.cs))):∀u∈us,u.tb≠T[i].tb:=by
 intro u o q;have h:u.tb∈(T.take i).map bJ.tb:=by rw[<-Ux r];exact ie o
 rw[q]at h;obtain⟨t,n,g⟩:=bz.1 h;obtain⟨p,l,rfl⟩:=gS.1 n;have f:p<i/\p<z T:=by rw[dP]at l;omega
 rw[gB]at g;have j:=cG.1 m p i (by simpa using f.2) (by simpa using k) f.1;simp only[jY]at j;exact j g
theorem GN(f:i<z T)(h:us.map (λt=>(t.tb,t.ks,t.cs))=(T.take i).map (λt=>(t.tb,t.ks,t.cs)))(u:bJ)(g:(u.tb,u.ks,u.cs)=(T[i].tb,T[i].ks,T[i].cs)):(us++[u]).map (λt=>(t.tb,t.ks,t.cs))=(T.take<|i+1).map (λt=>(t.tb,t.ks,t.cs)):=by
 rw[ak f,aQ,aQ,h];simp only[aZ,fi,g]
theorem EB{l:cD R}{x:R}(k:l.Nodup)(h:x∉l):(l++[x]).Nodup:=by
 rw[jx];exact⟨k,by simp,λm f n g j=>by rw[bI]at g;rw[j,g]at f;exact h f⟩
theorem CM.skip(r:CF w db sbqq baseqq K c ps T a d)(hm:CM w db sbqq baseqq K c ps T a d wr b us i num)(h:i<z T)(j:T[i]∈c):CM w db sbqq baseqq K c ps T a d wr b (us++[T[i]]) (i+1) num:=by
 have g:=Tx r.nodup h hm.same;obtain⟨q,k,l⟩:=hm.files;refine{hm with len:=by rw[af,hm.len];rfl,le:=h,same:=GN h hm.same _ rfl,Qq:=?_,rest:=?_,files:=⟨q,k,λv s=>?_⟩,qK:=aF hm.qK<|Nat.add_le_add_left (kA _<|Nat.le_succ i) _,zF:=?_,qS:=⟨hm.qS.1,by have:=hm.qS.2;omega⟩,eU:=by have:=hm.eU;omega};intro u f;rcases ap.1 f with n|n;exact hm.Qq u n;rw[bI]at n;subst n;exact .inl j;intro t o m;refine hm.rest t o ?_;rw[<-kZ h];exact aJ _ m;obtain⟨u,f,p⟩:=l v s;exact⟨u,by simp[f],p⟩;rw[aQ];refine EB hm.zF<|λn=>?_;obtain⟨u,f,p⟩:=bz.1 n;rcases hm.Qq u f with m|⟨t,o,_,_,m,_⟩;exact g u f (by rw[r.inj u m _ j p]);have:=r.low _ j;omega
theorem CM.wrote(D:CF w db sbqq baseqq K c ps T a d)(f:CM w db sbqq baseqq K c ps T a d wr b us i num)(O:i<z T){p:NT}(F:p∈ps)(s:p.t=T[i])(hd:cU w2 db e)(ht:J (λk=>b.bw db k\/k=p.t.tb\/k=p.x) wr w2)(hf:∀k,e.bw db k->b.bw db k\/G (H wr)<=k)(X:vw e.files=vw b.files++[(gP num,mS p.t.cs)])(ao:z e.eU=z b.eU+1)(hT:mh w2 p.t.tb (aA db) num (z<|dL p.t.cs) (z<|fp<|bO 0 p.t.cs) (mQ<|fp<|bO 0 p.t.cs) p.bb 0 p.wU aG (bO 0 p.t.cs))(S:num<18446744073709551616):CM w db sbqq baseqq K c ps T a d w2 e (us++[{T[i]with num:=num}]) (i+1) (num+1):=by
 have Q:=Tx D.nodup O f.same;obtain⟨gs,L,N⟩:=f.files;have r:=(D.news p F).1;have ad:=r.lt;have au:=f.ay.size;have an:=D.le
 have m:∀k,k<G (H w)->¬K.bw db k->¬p.has k->w2.heap[k]?=wr.heap[k]?:=λk h A j=>ht.block k (by omega) (λg=>by
  rcases g with g|g|g
  .rcases f.bw k g with C|C
   .exact A C
   .omega
  .exact j<|.inl g
  .exact j (.inr (.inr g)))
 have o:∀k,Kc db sbqq baseqq K k->w2.heap[k]?=wr.heap[k]?:=λk h=>m k (by have:=h.1;omega) h.2.1 (λg=>by have:=(ad k g).1;have:=h.1;omega);have l:∀q∈ps,q≠p->∀k,q.has k->w2.heap[k]?=wr.heap[k]?:=λq t x k h=>by have j:=(D.news q t).1.lt k h;exact m k j.2 (λg=>by have:=D.bw k g;omega)<|λg=>VN D.apart t F x k h g
 have v:∀n f,ew (vw b.files) n=M f->ew (vw e.files) n=M f:=λn f E=>by rw[X,jN,E];rfl
 have y:ew (vw b.files) (gP num)=none:=by
  rw[L,jN,D.fresh num f.qS.1,mB];cases g:ew gs (gP num)with
  |none=>rfl
  |some A=>
   obtain⟨W,B,u,j⟩:=N _<|xX g;simp only[hZ]at u;have e2:=vg u.1;rcases f.Qq W B with C|⟨q,t,_,_,_,C⟩
   .have:=D.low W C;omega
   .omega
 have V:∀{A:fN}{al:bJ},rV wr db (vw b.files) A al->(∀k,A k->w2.heap[k]?=wr.heap[k]?)->rV w2 db (vw e.files) A al:=λho h=>by have j:=ho.Sd h;exact⟨j.mem,j.loc,j.ks,j.num,j.pure,j.idx,j.small,v _ _ j.file⟩
 have n:=(D.news p F).2;have P:rV w2 db (vw e.files) p.has {T[i]with num:=num}:=by rw[<-s];refine⟨⟨p.bb,0,p.wU,?_,.inr<|.inl rfl⟩,.inl rfl,r.ks,S,n.pure,n.idx,n.small,?_⟩;show mh w2 p.t.tb _ num _ _ _ p.bb 0 p.wU _ p.t.ks;rw[r.ks];exact hT;show ew (vw e.files) (gP num)=M (mS p.t.cs);rw[X,jN,y];simp[ew]
 refine{len:=by rw[af,f.len];rfl,le:=O,same:=GN O f.same _ rfl,Df:=λal h0=>V (f.Df al h0) o,Qq:=?_,rest:=?_,files:=⟨gs++[(gP num,mS p.t.cs)],by rw[X,L,aW],λax hg=>?_⟩,qK:=?_,zF:=?_,qS:=⟨by have:=f.qS.1;omega,by have:=f.qS.2;omega⟩,aN:=hd,eU:=by have:=f.eU;omega,ay:=?_,bw:=?_,steps:=?_,pow:=?_};intro W B;rcases ap.1 B with g|g;rcases f.Qq W g with C|⟨q,t,u,ho,j,A⟩;exact .inl C;refine .inr ⟨q,t,u,V ho<|l q t<|λe2=>?_,j,by omega⟩;rw[e2,s]at u;exact Q W g u.symm;rw[bI]at g;subst g;exact .inr ⟨p,F,by rw[s],P,f.qS.1,by show num<num+1;omega⟩;intro q t A;(have x:q≠p:=λu=>by subst u;rw[s]at A;obtain⟨av,hj,u⟩:=gS.1 A;rw[nD]at u;(have ac:i+1+av<z T:=by rw[iG]at hj;omega);have h2:=cG.1 D.nodup i (i+1+av) (by simpa using O) (by simpa using ac) (by omega);simp only[jY]at h2;exact h2<|by rw[u]);have j:=f.rest q t (by rw[<-kZ O];exact aJ _ A);have E:=l q t x;exact⟨j.ks,j.num,j.pieces,j.mem.dq (E _<|.inl rfl)<|E _<|.inr<|.inl rfl,GZ j.data<|E _<|.inr<|.inr rfl,GZ j.Gq<|E _<|.inr<|.inl rfl,j.new⟩;rcases ap.1 hg with g|g;obtain⟨W,B,u⟩:=N ax g;exact⟨W,by simp[B],u⟩;rw[bI]at g;refine⟨{T[i]with num:=num},by simp,?_,f.qS.1⟩;rw[g,s];rw[X,uJ];have:=Mw n.idx n.small;have:=f.qK;simp only[iy,aZ,fi,iT,List.sum_nil]at*;omega;rw[aQ];refine EB f.zF<|λg=>?_;obtain⟨W,B,u⟩:=bz.1 g;have j:W.num=num:=u;rcases f.Qq W B with C|⟨q,t,_,_,_,C⟩;have:=D.low W C;have:=f.qS.1;omega;omega;refine f.ay.trans ht<|λk h=>?_;rcases h with g|g|g;rcases f.bw k g with C|C;exact .inl<|.inl C;exact .inr C;exact .inl<|.inr ⟨p,F,.inl g⟩;exact .inl<|.inr ⟨p,F,.inr g⟩;intro k h;rcases hf k h with g|g;exact f.bw k g;exact .inr (by omega);exactλk h=>(cP (w:=wr)<|o _ D.fC).trans<|f.steps k h;exact f.pow.dq<|o _ D.mJ
end
section
open Go.Conc.Locks
def tL(w c:I)(a:R)(s:SR)(K:DK)(m:cK)(d e f g:cR)(C:R):Prop:=∃b,gq w c s.aN a K b/\b.files=K.files/\b.eU=K.eU/\(∀k,b.bw s.aN k->K.bw s.aN k)/\bM c a s 0/\ST c a s b m d e f g C
def TY{sbqq:R}(h:gq a f n.aN sbqq j j)(c:(mN n.aN j).D B)(m:J (mN n.aN j).F f B):∃b,gq a B n.aN sbqq j b/\b.files=j.files/\b.eU=j.eU/\(∀k,b.bw n.aN k->j.bw n.aN k):=by
 obtain⟨l,b,i,e,g,d⟩:=c;exact⟨b,h.trans ⟨i,m.mono<|λk c=>.inl<|.inl c,λk c=>.inl<|d k c⟩,e,g,d⟩
def OL(a:ab)(c:Y)(b:cD (aa×cK)):aa:=if 1<=a.size/\a.size<=8 then WU (wE c a b)else .tuple #[aj ⟨#[]⟩,aO bF,lC 3]
def Hx(d:ab)(g:Y)(t:bM a b n m)(f:ST a b n j e i p r s c)(y:d.size<=140737488351232):cA bG 59 #[aA b,aj d,aL g] a (λC l=>C=aP (OL d g<|oO n e i p r s)/\(mN n.aN j).D l/\J (mN n.aN j).F a l)/\∃x o q,OL d g (oO n e i p r s)=dE #[x,o,q]:=by
 obtain⟨B,A,k⟩:=bS f.mem;unfold OL;by_cases h:1<=d.size/\d.size<=8
 .rw[dt h];refine⟨Vl (G<|H a) (n.l0,i) (n.l1,p) (n.l2,r) (n.l3,s) (oO n e i p r s) d g t B (z e) A k (f.YC t) (yy n e i p r s) (λE u=>f.Yb _<|ar u) f.Jb (ai _) f.aN.lt h (λD v x w=>by have:=(f.KT D v x w).val;omega),?_⟩;cases wE g d (oO n e i p r s)with
  |none=>exact⟨_,_,_,rfl⟩
  |some x=>exact⟨_,_,_,rfl⟩
 rw[dh h];refine⟨(Vk a b d g h y).mono ?_,_,_,_,rfl⟩;rintro C l⟨rfl,rfl⟩;exact⟨rfl,f.Jb,J.refl _ _⟩
def rJ{A u W2:I}(E:bM u b n 1)(w:ST A b n j e i p r s c)(g:b<G (H A))(k:gq A u n.aN b j j)(y:Below (G<|H u) u W2):bM W2 b n 1/\ST W2 b n j e i p r s c/\∀h,(mN n.aN j).D h->J (mN n.aN j).F W2 h->aS h (U b 0)=M (jo 1)/\h.frozen? (U b 0)=bF/\tL A (ct h (U b 0)<|jo 0) b n j e i p r s c:=by
 have a:=k.trans<|rk (sbqq:=b) k.ok y;have o:=w.fm g a rfl;have d:bM W2 b n 1:=E.ay (J.aV (S:=az) y) id;refine⟨d,o,λh v t=>?_⟩;have f:bM h b n 1:=(t.block b (am d) o.rI).trans d;obtain⟨B,l,x,C,D⟩:=TY a v t;have q:=l.sb w.rI g;have m:=l.set q 0<|jo 0;exact⟨f.cell rfl,f.free,B,m,x,C,D,f.gK 0,w.fm g m<|by rw[x]⟩
def qn{w c W2:I}(e:bM c b n 1)(f:J (λk=>k=b) w c)(d:Below (G<|H c) c W2):aS W2 (U b 0)=M (jo 1)/\W2.frozen? (U b 0)=bF/\bM (ct W2 (U b 0)<|jo 0) b n 0/\J (λk=>k=b) w (ct W2 (U b 0)<|jo 0):=by
 have a:bM W2 b n 1:=e.ay (J.aV (S:=az) d) id;exact⟨a.cell rfl,a.free,a.gK 0,(f.trans (J.aV (S:=λk=>k=b) d)<|λ_ e=>.inl e).setCell b 0 _<|.inl rfl⟩
def wq:lC 6=.iface 55 (aq 6):=rfl
def OV:lC 5=.iface 55 (aq 5):=rfl
def OO(k:ab)(h:bM a b n 0)(m:n.closed=bX):cA bG 29 #[aA b,aj k] a λo l=>o=aP (dE #[aj ⟨#[]⟩,aO bF,lC 6])/\bM l b n 0/\J (λv=>v=b) a l:=by
 have q:=bM.cellAt h 0 rfl;have s:a.frozen? (U b 0)=bF:=h.free;have j:=h.gK 1;have c:=iB j;rw[m]at c;simp only[iO]at c;have p:=Z<|λg i=>qn (W2:=g) j (ij b a) i;clear h j m;rw[wq]at c|-;go_enter_defers func29,ntmps29
 go_wp2_with fail
 apply(lock_free (U b 0) _ q s).mono;rintro o l⟨rfl,rfl⟩;go_wp2_with fail
 apply c.mono;rintro o g⟨rfl,i⟩;obtain⟨r,t,d⟩:=p g i;have e:=Z d;clear d i c;go_wp2;refine eR (f:=40) (args:=#[aA b]) (by simp) (by simp[go_sem]) ?_;apply(unlock_deferred (U b 0) .returning _ r t).mono;rintro o w u⟨rfl,rfl,rfl⟩;exact⟨_,mV rfl _ _ _,rfl,e⟩
def Vb(d:ab)(h:bM a b n 0)(E:ST a b n j e i p r s c)(P:n.closed=bF)(hz:d.size<=140737488351232):cA bG 29 #[aA b,aj d] a λK B=>K=aP (OL d n.bj<|oO n e i p r s)/\tL a B b n j e i p r s c:=by
 have L:=am h;have V:=bM.cellAt h 0 rfl;have X:a.frozen? (U b 0)=bF:=h.free;have m:=kM E.aN E.rI 1;have C:=h.gK 1;generalize O:ct a (U b 0) (jo 1)=v at m C;have q:=iB C;rw[P]at q;have k:cA bG 41 #[aA b] v λK B=>K=aP .nilIface/\Below (G<|H v) v B:=q;have T:=Z<|λw(D:Below (G<|H v) v w)=>rJ (W2:=w) C E L m D;have S:=Z O;clear h E m C P O q;go_enter_defers func29,ntmps29
 go_wp2_with fail
 apply(lock_free (U b 0) _ V X).mono;rintro K B⟨rfl,N⟩;rw[ae S]at N;subst B;go_wp2_with fail
 apply k.mono;rintro K w⟨rfl,D⟩;obtain⟨l,y,g⟩:=T w D;obtain⟨o,rx,ry,rz,t⟩:=Hx d n.bj l y hz;have c9:=bM.cellAt l 9 rfl;rw[t]at o;have F:=Z t;have u:=Z g;clear l y g D k t;go_wp2_with fail
 apply o.mono;rintro K w2⟨rfl,x,A⟩;obtain⟨W,g0,hF⟩:=u w2 x A;have Q:=Z hF;clear x A hF o;go_wp2;refine eR (f:=40) (args:=#[aA b]) (by simp) (by simp[go_sem]) ?_;apply(unlock_deferred (U b 0) .returning _ W g0).mono;rintro K u' ac⟨rfl,rfl,rfl⟩;exact⟨_,mV rfl _ _ _,by rw[ae F];rfl,Q⟩
def JB(v:Y)(k:ab)(h:bM a b n 0)(m:n.closed=bX):cA bG 35 #[aA b,aq v,aj k] a λo l=>o=aP (dE #[aj ⟨#[]⟩,aO bF,lC 6])/\bM l b n 0/\J (λw=>w=b) a l:=by
 have q:=bM.cellAt h 0 rfl;have s:a.frozen? (U b 0)=bF:=h.free;have j:=h.gK 1;have d:=uF v j m;have p:=Z<|λg i=>qn (W2:=g) j (ij b a) i;clear h j m;rw[wq]at d|-;go_enter_defers func35,ntmps35
 go_wp2_with fail
 apply(lock_free (U b 0) _ q s).mono;rintro o l⟨rfl,rfl⟩;go_wp2_with fail
 apply d.mono;rintro o g⟨rfl,i⟩;obtain⟨r,t,c⟩:=p g i;have e:=Z c;clear c i d;go_wp2;refine eR (f:=40) (args:=#[aA b]) (by simp) (by simp[go_sem]) ?_;apply(unlock_deferred (U b 0) .returning _ r t).mono;rintro o x u⟨rfl,rfl,rfl⟩;exact⟨_,mV rfl _ _ _,rfl,e⟩
def OP(F:fw)(ac:Y)(o:ab)(h:bM a b n 0)(E:ST a b n j e i p r s c)(A:FK a j b n F)(hc:n.closed=bF)(hz:o.size<=140737488351232):cA bG 35 #[aA b,.int .i64 ac,.string o] a λK C=>K=.returned (match pD F ac with|some ad=>OL o ad (oO n e i p r s)|none=>.tuple #[.string ⟨#[]⟩,.bool bF,lC 5])/\tL a C b n j e i p r s c:=by
 have Q:=am h;have X:=bM.cellAt h 0 rfl;have f0:a.frozen? (U b 0)=bF:=h.free;have m:=kM E.aN E.rI 1;have D:=h.gK 1;generalize hW:ct a (U b 0) (jo 1)=W at m D;obtain⟨mb,q1,q2,q3⟩:=(A.fm m).ex;have d:=rP ac F D hc q1 q2;have V:=Z<|λq(t:Below (G<|H W) W q)=>rJ (W2:=q) D E Q m t;have T:=Z hW;clear h E m D hc hW A q1 q2 q3;cases hg:pD F ac with
 |none=>
  rw[hg]at d;simp only at d|-;rw[OV]at d|-;clear hg;go_enter_defers func35,ntmps35
  go_wp2_with fail
  apply(lock_free (U b 0) _ X f0).mono;rintro K C⟨rfl,w⟩;rw[ae T]at w;subst C;go_wp2_with fail
  apply d.mono;rintro K q⟨rfl,t⟩;obtain⟨l,k,g⟩:=V q t;obtain⟨O,P,hF⟩:=g q k.Jb<|J.refl _ _;have L:=Z hF;clear l k g t d hF;go_wp2;refine eR (f:=40) (args:=#[aA b]) (by simp) (by simp[go_sem]) ?_;apply(unlock_deferred (U b 0) .returning _ O P).mono;rintro K u' S⟨rfl,rfl,rfl⟩;exact⟨_,mV rfl _ _ _,rfl,L⟩
 |some ad=>
  rw[hg]at d;simp only at d|-;clear hg;go_enter_defers func35,ntmps35
  go_wp2_with fail
  apply(lock_free (U b 0) _ X f0).mono;rintro K C⟨rfl,w⟩;rw[ae T]at w;subst C;go_wp2_with fail
  apply d.mono;rintro K q⟨rfl,t⟩;obtain⟨l,k,g⟩:=V q t;obtain⟨u,rx,ry,rz,v⟩:=Hx o ad l k hz;rw[v]at u;have N:=Z v;have x:=Z g;clear l k g t d v;go_wp2_with fail
  apply u.mono;rintro K w2⟨rfl,y,B⟩;obtain⟨O,P,hF⟩:=x w2 y B;have L:=Z hF;clear y B hF u;go_wp2;refine eR (f:=40) (args:=#[aA b]) (by simp) (by simp[go_sem]) ?_;apply(unlock_deferred (U b 0) .returning _ O P).mono;rintro K u' S⟨rfl,rfl,rfl⟩;exact⟨_,mV rfl _ _ _,by rw[ae N];rfl,L⟩
end
def Tb(a:Y)(b:ab)(c:dX):cK:=nA ⟨#[]⟩<|(cQ<|c.map<|fX b).filter<|λe=>decide<|e.bK<=a
def Xi(c:Y)(i:ab)(b:dX):∀x∈Tb c i b,x∈b.flatten:=by
 intro x h;have d:=(zO _ _).subset h;have e:=(eK _).mem_iff.1 (de.1 d).1;obtain⟨l,f,a⟩:=bC.1 e;obtain⟨r,g,rfl⟩:=bz.1 f;exact bC.2 ⟨r,g,(de.1 a).1⟩
def Xj(c:Y)(b:ab)(a:dX):z (Tb c b a)<=z a.flatten:=by
 have d:=(zO ((cQ<|a.map<|fX b).filter<|λe=>decide<|e.bK<=c) ⟨#[]⟩).length_le;have f:=fB (λe:E=>decide<|e.bK<=c)<|cQ<|a.map<|fX b;have g:=(eK<|a.map<|fX b).length_eq;have h:=Vd b a;unfold Tb;omega
def Vf(v:aa)(w:I):(Go.method 545 102 v "From").run bG w=.ok (316,v) w:=by kernel_rfl
def mP.list(v:ku a d e)(r:dS e)(i:∀y∈e,y.bK<18446744073709551616)(q:z e<=1000000000000)(h:∀j,bY d=M j->j<b/\¬u.F j)(g:b<=G (H a))(hF:∀k,u.F k->k<b):mP u b (.iface 102 d) e a:=by
 refine⟨_,d,_,d,rfl,Vf d,enters_of func316 (by kernel_rfl) rfl,λs w c m=>?_⟩;apply(Mq u b s (v.same c h) r i q (λj f=>⟨(h j f).2,ag (ag (h j f).1 g) c.1⟩) (aF g c.1) hF).mono;rintro B x⟨t,S,rfl,o,f,n⟩;refine⟨t,S,rfl,o,u.fq m (J.aV (S:=az) f) cN,J.aV f,λk p=>?_⟩;rcases n k p with⟨l,A⟩|l;have:=(h k l).1;omega;exact l
def ST.Ve(h:ST a b n j e i p r s c):∀g∈oO n e i p r s,mP (mN n.aN j) (G<|H a) g.1 g.2 a:=by
 have hF:∀k,(mN n.aN j).F k->k<G (H a):=h.aN.lt;have l:=h.count;intro g d;simp only[oO,aD,ap,jh,bz,eO,kS]at d;rcases d with rfl|((⟨t,f,rfl⟩|rfl)|rfl)|rfl;exact mP.list h.mem h.mr (λx d=>(h.jb x d).b1) (show z e<=1000000000000 by have:=h.len;omega) (λk a=>⟨(h.tr k a).lt,(h.tr k a).bw⟩) (ai _) hF;exact mP.table (IA (h.l0.each t f) h.kW) (ai _) hF;exact mP.xN (yG h.l1 h.kW h.s1<|by omega) (ai _) hF;exact mP.xN (yG h.l2 h.kW h.s2<|by omega) (ai _) hF;exact mP.xN (yG h.l3 h.kW h.s3<|by omega) (ai _) hF
section
open Go.Shelf
attribute [local go_sem] Oper.semAt_some
def xR:(prog.info? 68).map (λi=>(i.zero,i.size,i.bytes))=M (M<|eB #[aj ⟨#[]⟩,aj ⟨#[]⟩],2,32):=by kernel_rfl
def XS(p:KV):∀u∈qB p,u.oneCell'=bX:=by
 intro u a;simp[qB]at a;rcases a with rfl|rfl<;>rfl
def OE(w:I)(p:KV)(t:TypeId):∀j u,(qB p)[j]?=M u->aS (cF w<|aw #[aj p.1,aj p.2] t) (((U (G<|H w) 0):Addr).add j)=M u:=by
 intro j u a;rw[dB];have h:(cF w<|aw #[aj p.1,aj p.2] t).heap[G<|H w]?=M (aw #[aj p.1,aj p.2] t (0,0)):=aE _ rfl;rw[bL h,cZ];simpa[qB]using a
def EV(l:iI)(p:KV):ik (l++[p])=ik l++qB p:=by simp[ik]
def PA(V:jr)(b:I)(c:ab)(a:Y)(n:R)(d:iI)(B:fN)(W:I):Prop:=Acc V.F b [(G<|H b,aj c,9),(G (H b)+1,aq a,3),(G (H b)+2,aG,37),(G (H b)+3,.nilIface,50)] (G (H b)+4) 37 68 2 (G (H b)+5) n (ik d) B W
def Ru(n0:R){le:SR}(p0 p1 p2 p3:aa×cR)(j:cD (aa×cK))(lo p:ab)(c bt:Y)(h:bM a b le D)(mx:Option Addr)(mn mc:R)(ef:le.memory=ah mx mn mc)(hl:Du a b 10 [p0,p1,p2,p3])(bq:j.map (·.1)=xD le.memory p0 p1 p2 p3)(hR:∀hh(p:hh<z j),mP u n0 j[hh].1 j[hh].2 a)(hJ:u.D a)(gA:n0<=G (H a))(hF:∀D,u.F D->D<n0)(hg:∀hi∈Tb bt lo (j.map (·.2)),hi.key.size<=281474976710656/\hi.val.size<=281474976710656)(V:z (Tb bt lo<|j.map (·.2))<=1000000000):cA bG 105 #[aA b,aj lo,aj p,aq c,aL bt] a λca w'=>∃v',ca=aP (dE #[v',.nilIface])/\w'.ownsRow (G<|H a) 68 2 v' (z<|wv p c []<|((Tb bt lo<|j.map (·.2)).filter<|λca=>!ca.del).map zg) (ik<|wv p c []<|((Tb bt lo<|j.map (·.2)).filter<|λca=>!ca.del).map zg)/\u.D w'/\J u.F a w':=by
 obtain⟨hG,hN⟩:∃hG,(Tb bt lo<|j.map (·.2)).filter (λca=>!ca.del)=hG:=⟨_,rfl⟩;rw[hN];obtain⟨bc,hP⟩:∃bc,wv p c [] (hG.map zg)=bc:=⟨_,rfl⟩;rw[hP];have cM:=Z hN;have hw:=Z hP;clear hN hP;have fs:z j<=1000000000:=by(have V:z (pG p0 p1 p2 p3)+1=z j:=by have:=bW z bq;simp[xD]at this;omega);have:=hl.small;rw[<-V];simp[pG,mG]at this|-;omega
 obtain⟨i0,jB,jK,ka,kb⟩:=cL xR;have C:J az a (cF (cF (cF (cF (cF a<|aw #[aj p] 9)<|aw #[aq c] 3)<|aw #[aG] 37)<|aw #[.nilIface] 50)<|aw #[aG] 37):=((((cI az a).alloc _).alloc _).alloc _).alloc _;have bs:G (H<|cF (cF (cF (cF (cF a<|aw #[aj p] 9)<|aw #[aq c] 3)<|aw #[aG] 37)<|aw #[.nilIface] 50)<|aw #[aG] 37)=G (H a)+5:=by simp
 have em:er (cF (cF (cF (cF (cF a<|aw #[aj p] 9)<|aw #[aq c] 3)<|aw #[aG] 37)<|aw #[.nilIface] 50)<|aw #[aG] 37) (G<|H a) (aj p) 9:=er.alloc (er.alloc (er.alloc (er.alloc (aE _ rfl) _) _) _) _;have en:er (cF (cF (cF (cF (cF a<|aw #[aj p] 9)<|aw #[aq c] 3)<|aw #[aG] 37)<|aw #[.nilIface] 50)<|aw #[aG] 37) (G (H a)+1) (aq c) 3:=er.alloc (er.alloc (er.alloc (aE _<|by simp) _) _) _;have w:er (cF (cF (cF (cF (cF a<|aw #[aj p] 9)<|aw #[aq c] 3)<|aw #[aG] 37)<|aw #[.nilIface] 50)<|aw #[aG] 37) (G (H a)+2) aG 37:=er.alloc (er.alloc (aE _<|by simp) _) _;have x:er (cF (cF (cF (cF (cF a<|aw #[aj p] 9)<|aw #[aq c] 3)<|aw #[aG] 37)<|aw #[.nilIface] 50)<|aw #[aG] 37) (G (H a)+3) .nilIface 50:=er.alloc (aE _<|by simp) _;have eo:er (cF (cF (cF (cF (cF a<|aw #[aj p] 9)<|aw #[aq c] 3)<|aw #[aG] 37)<|aw #[.nilIface] 50)<|aw #[aG] 37) (G (H a)+4) aG 37:=aE _ (by simp);obtain⟨W5,hO⟩:∃W5,(cF (cF (cF (cF (cF a<|aw #[aj p] 9)<|aw #[aq c] 3)<|aw #[aG] 37)<|aw #[.nilIface] 50)<|aw #[aG] 37)=W5:=⟨_,rfl⟩;rw[hO]at C bs em en w x eo;have gv:=Ea p0 p1 p2 p3 ((C.block b (am h) id).trans h) mx mn mc ef<|hl.ay C id<|λ_ _ _ _ k=>k;have ee:z (pG p0 p1 p2 p3)+1=z j:=by have:=bW z bq;simp[xD]at this;omega
 rw[ee,<-bq]at gv;have gk:∀w6 v6,w6.ownsRow (G<|H W5) 205 1 v6 (z j) (j.map (·.1))->J az W5 w6->cA bG 163 #[v6,aj lo,aL bt] w6 λca w'=>∃v' b,ca=aP v'/\jm u n0 v' (Tb bt lo<|j.map (·.2)) b w'/\u.D w'/\J u.F a w'/\(∀D,b D->G (H a)+5<=D)/\J u.F W5 w':=by intro w6 v6 ao F;have f:J az a w6:=C.cw F;refine(Yj n0 j lo bt (dr ao) (λD e=>⟨(ao.lt D e).2,λhf=>by have:=hF D hf;have:=(ao.lt D e).1;omega⟩) fs (λhh p=>(hR hh p).same<|f.same gA cN cN) (u.fq hJ f cN) (aF gA f.size) hF).mono ?_;rintro ca w7⟨v7,S7,rfl,ed,al,bx,cd⟩;refine⟨v7,S7,rfl,ed,al,(f.mono (T:=u.F) cN).trans bx<|λ_ k=>.inl k,λD e=>?_,(F.mono (T:=u.F) cN).trans bx<|λ_ k=>.inl k⟩;have:=cd D e;have:=F.size;omega
 have hs:=Z gk;have dc:=Z<|And.intro em (And.intro en (And.intro w (And.intro x (And.intro eo bs))));clear gk C bs em en w x eo;obtain⟨hE,HF,ev,HH,HL,kq,HR,HD,ko⟩:=xS hg hF V h hl bq hR hJ ef;clear h hl bq hR hJ ef hg V hF ee;refine(di (n:=3)).1 ?_;refine callsIn_of_wp_marks func105 rfl trivial ?_ rfl;simp only[ntmps105,eZ,aC,cS,Nat.reduceAdd,Nat.reduceSub,eh,dZ,fa,eE,cJ,cC];gi_wp2_with(refine⟨trivial,?_⟩;gi_at_call 86;refine(di.2<|gv).mono ?_;rintro ca w6⟨v6,rfl,ao,F⟩;obtain⟨x6,c6,jH⟩:=aB ao;subst jH;have hu:=Z ao;have hC:=Z F;clear ao F)
 gi_wp2_with(refine⟨trivial,?_⟩;gi_at_call 163;refine(di.2<|hs _ _ hu hC).mono ?_;rintro ca w7⟨v7,S7,rfl,ed,al,bx,cd,cv⟩;obtain⟨f7,ey,rfl,gi,gs⟩:=ed;have hr:=Z<|show jm u n0 (.func (.func f7) #[] ey) (Tb bt lo<|j.map (·.2)) S7 w7 from⟨f7,ey,rfl,gi,gs⟩;have ho:=Z al;have hD:=Z bx;have hz:=Z cd;have bn:=Z cv;clear al bx cd gi gs cv)
 gi_wp2_with(refine⟨trivial,?_⟩;gi_at_call 162;refine(di.2<|Lk hr).mono ?_;rintro ca w8⟨v8,S8,rfl,jA,an,fu⟩;obtain⟨f8,bo,rfl,gj,N⟩:=jA;have hq:=Z gj;have hy:=Z N;have hn:=Z an;have hA:=Z fu;clear gj N an fu)
 gi_wp2_with(refine⟨trivial,?_⟩;gi_at_call 132;refine(di.2<|Mz f8 bo w8).mono ?_;rintro ca w9⟨rfl,lc⟩;subst w9)
 have N:=ae hy;rw[ae cM]at N;have an:=ae hn;have kz:=N.own.size;have hF:∀D,u.F D->D<G (H a):=λD e=>by have:=HF D e;omega
 have jE:J u.F a w8:=hD.cw<|J.aV (S:=az) an;have co:∀D,S8 D->G (H a)+5<=D:=λD e=>by rcases hA D e with k|k;exact hz D k;have:=bn.size;have:=dc.2.2.2.2.2;omega
 obtain⟨W9,ce⟩:∃W9,cF w8 (aw #[.func (.func f8) #[] bo] 174)=W9:=⟨_,rfl⟩;have bb:J az w8 W9:=by rw[<-ce];exact(cI az w8)
 have hS:er W9 (G<|H w8) (.func (.func f8) #[] bo) 174:=by rw[<-ce];exact aE _ rfl
 have la:G (H W9)=G (H w8)+1:=by rw[<-ce];simp
 have au:J u.F a W9:=jE.cw bb;have hb:J u.F W5 W9:=(bn.cw<|J.aV (S:=az) an).cw bb;have gt:Ir u n0 f8 bo hG S8 W9:=N.same<|bb.same N.own.size (λD e=>⟨(N.own.each D e).2,λk=>k⟩) cN;have hL:u.D W9:=u.fq (u.fq ho (J.aV (S:=az) an) cN) bb cN;have kk:G (H a)+5<=G (H w8):=by have:=bn.size;have:=dc.2.2.2.2.2;have:=an.size;omega
 have hI:PA u a p c 0 [] (λD=>D=G (H a)\/D=G (H a)+1\/D=G (H a)+2\/D=G (H a)+3\/D=G (H a)+4) W9:=by obtain⟨g,i,r,x3,s,bs⟩:=ae dc;have e:∀{b:R}{hj:aa}{t:TypeId},er W5 b hj t->G (H a)<=b->er W9 b hj t:=λhk bg=>(hb.block _ (am hk) (λk=>by have:=hF _ k;omega)).trans hk;refine⟨?_,⟨aG,e s (by omega),bN _ _ _ _,λD=>by simp[bY];omega⟩,?_,by omega,au⟩;intro y f;simp only[aD,eO,kS]at f;rcases f with rfl|rfl|rfl|rfl;exact e g (by simp);exact e i (by simp);exact e r (by simp);exact e x3 (by simp);intro y f;simp only[aD,eO,kS]at f;rcases f with rfl|rfl|rfl|rfl<;>simp
 rw[ce];have hP:=ae hw;refine nT (arg:=Tc) (m:=3) (V:=u) (n0:=n0) (gf:=192) (lb:=#[aA<|G<|H w8]) (l:=hG) (S:=λD=>S8 D\/D=G (H w8)) ?geval (enters_of func192 (by kernel_rfl) rfl) (λ_=>rfl) (Fk 2 bo hS hq gt (by omega) (λk=>by have:=(N.own.each _ k).2;omega)) hL (by omega) ?slt (λd cl W=>PA u a p c (z d) (d.map zg) cl W/\(∀A,hG=d++A->bc=wv p c (d.map zg) (A.map zg))) (λk _ cl W=>k=.exit 0/\PA u a p c (z bc) bc cl W/\u.D W) (λD=>D=G (H a)\/D=G (H a)+1\/D=G (H a)+2\/D=G (H a)+3\/D=G (H a)+4) ⟨hI,λA jC=>by rw[<-hP,jC];rfl⟩ ?sb ?lt ?st ?xst ?body ?done ?stop;case geval=>rfl
 (case slt=>rintro D(k|k);have:=(gt.own.each D k).2;exact this;omega);(case sb=>rintro D(k|k)kn;have:=co D k;omega;omega);(case lt=>rintro d cl W⟨h,_⟩D e;have:=h.lt D e;exact⟨by omega,this.2⟩);(case st=>rintro d cl W W' kc⟨h,f⟩ht hT;refine⟨h.stays ht<|λD e=>⟨(hT D e).1,?_⟩,f⟩;have:=au.size;rcases(hT D e).2 with(k|k)|k|k;have:=co D k;exact .inr (by omega);exact .inr (by omega);exact .inl k;exact .inr<|by omega);(case xst=>rintro k d cl W W' kc⟨h1,h2,h3⟩ht hT;have:=au.size;exact⟨h1,h2.stays ht<|λD e=>⟨(hT D e).1,.inr (by have:=(hT D e).2;omega)⟩,u.fq h3 ht (λD e hf=>by have:=(hT D e).2;have:=hF D hf;omega)⟩)
 case stop=>
  rintro cB k d cl W hM⟨rfl,L,O⟩ad hK;obtain⟨hj,hv,q,X⟩:=L.row;have ch:aS W (U (G (H a)+1+1+1+1) 0)=M hj:=hv.cell;have w:=L.fix (G (H a)+2,aG,37) (by simp);have x:=L.fix (G (H a)+3,.nilIface,50) (by simp);have hW:aS W (U (G (H a)+1+1) 0)=M aG:=w.cell;have it:W.frozen? (U (G (H a)+1+1) 0)=bF:=w.free;have hX:aS W (U (G (H a)+1+1+1) 0)=M .nilIface:=x.cell;have iu:W.frozen? (U (G (H a)+1+1+1) 0)=bF:=x.free;obtain⟨v,t,bT⟩:=aB q;obtain⟨dd,dk,HC,HV,ac,bd,bi,HK⟩:=Fc w x L hv q X O hK;clear L hv q X O hK w x;subst bT;gi_wp2;have hB:=ae bd;have L:=ae HC;have n1:cB≠G (H a)+2:=λk=>ad<|(hB _).2<|.inl ⟨(G (H a)+2,aG,37),by simp,k.symm⟩;have n2:cB≠G (H a)+3:=λk=>ad<|(hB _).2<|.inl ⟨(G (H a)+3,.nilIface,50),by simp,k.symm⟩;have n3:¬bY (ah v (z bc) t)=M cB:=λk=>ad<|(hB _).2<|.inr<|.inr k;have ds:(ct (ct W (U (G (H a)+2) 0)<|ah v (z bc) t) (U (G (H a)+3) 0) .nilIface).heap[cB]?=M (.deferred<|M []):=by
   rw[iC _ n2,iC _ n1];exact HK
  have Q:er (ct (ct W (U (G (H a)+2) 0)<|ah v (z bc) t) (U (G (H a)+3) 0) .nilIface) (G (H a)+2) (ah v (z bc) t) 37:=(dd.set _).other _ (by omega);have T:er (ct (ct W (U (G (H a)+2) 0)<|ah v (z bc) t) (U (G (H a)+3) 0) .nilIface) (G (H a)+3) .nilIface 50:=(dk.other _<|by omega).set _;have av:=gH (ct (ct W (U (G (H a)+2) 0)<|ah v (z bc) t) (U (G (H a)+3) 0) .nilIface) cB<|.deferred none;have ek:J (λD=>D=G (H a)+2\/D=G (H a)+3) W (ct (ct W (U (G (H a)+2) 0)<|ah v (z bc) t) (U (G (H a)+3) 0) .nilIface):=((J.refl (λD=>D=G (H a)+2\/D=G (H a)+3) W).setCell _ 0 _<|.inl<|.inl rfl).setCell _ 0 _<|.inl<|.inr rfl;have ax:=(ek.mono (T:=λD=>D=G (H a)+2\/D=G (H a)+3\/D=cB)<|λD e=>.inl<|e.elim .inl<|λk=>.inr<|.inl k).trans av<|λD e=>.inl<|.inr<|.inr e;have bh:∀D,G (H a)<=D->¬u.F D:=λD e hf=>by have:=hF D hf;omega
  have bg:∀D,(D=G (H a)+2\/D=G (H a)+3\/D=cB)->G (H a)<=D:=by have:=au.size;rintro D(k|k|k)<;>omega
  refine⟨by simp,.inl ⟨_,_,rfl,run_takeDeferred ds,?_⟩⟩;refine⟨_,zA rfl underlying37 _ _ (G (H a)+2) (G (H a)+3) (ah v (z bc) t) .nilIface rfl rfl ?_ ?_,?_⟩
  .exact(er.cell<|(av.block _ (am Q)<|λk=>n1 k.symm).trans Q)
  .exact(er.cell<|(av.block _ (am T)<|λk=>n2 k.symm).trans T)
  .refine⟨_,rfl,?_,u.fq bi ax<|λD e=>bh D<|bg D e,L.ay.trans ax<|λD e=>.inr<|bg D e⟩;have q:=ae ac;have jI:=ax.own q (λD e k=>by
    have:=(q.lt D e).1;rcases k with k|k|k
    .omega
    .omega
    .subst k;exact n3 e)
   obtain⟨h1,⟨h2,h0⟩|⟨hm,hH,dm,h2,hk,o⟩⟩:=jI
   .exact⟨h1,.inl ⟨h2,h0⟩⟩
   .exact⟨h1,.inr ⟨hm,hH,dm,h2,by omega,o⟩⟩
 case body=>
  rintro lr d hi cl W ee fd kf gr⟨L,hcut⟩O;obtain⟨A,o⟩:=gr;have gg:=hcut (hi::A) (by rw[<-o];simp);have V:z d+1<=1000000000:=by
   have h1:=bW z o;have h2:=bW z cM;have h3:=fB (λca=>!ca.del)<|Tb bt lo<|j.map (·.2);have y:=ae ev;simp at h1 h2;omega
  have eq:hi.key.size<=281474976710656/\hi.val.size<=281474976710656:=hE hi (by
   have:hi∈(Tb bt lo<|j.map (·.2)).filter (λca=>!ca.del):=by rw[ae cM,<-o];simp
   exact(de.1 this).1)
  have gn:d.map zg++[zg hi]=(d++[hi]).map zg:=by simp
  obtain⟨HC,bi,eu,kd,cT⟩:=jX L O gg hcut o;clear L O gg hcut o;obtain⟨f,i,r,g⟩:=hi;unfold Tc E.value;simp only at eq;simp only;gi_wp2;refine⟨(cI _ _),λK bu=>?_⟩;have bp:PA u a p c (z d) (d.map zg) cl K:=(HC.stays ((J.refl az W).alloc<|aw #[aj f,aj i,aO r,aL g] 164) cN).stays bu (λD e=>by subst e;exact⟨fd,.inr (by have:=au.size;omega)⟩);have dn:ix K (G<|H W) ⟨f,i,r,g⟩:=ix.ay (aE _ rfl) bu (by omega);obtain⟨hj,hv,q,X⟩:=bp.row;have hU:aS K (U (G<|H a) 0)=M (aj p):=(bp.fix (G<|H a,aj p,9)<|by simp).cell;have hV:aS K (U (G (H a)+1) 0)=M (aq c):=(bp.fix (G (H a)+1,aq c,3)<|by simp).cell;have ch:aS K (U (G (H a)+4) 0)=M hj:=hv.cell;obtain⟨v,t,bT⟩:=aB q;obtain⟨ea,eb,il,ip⟩:=dn.cells;obtain⟨et,HV,ac,bd,ex,hp⟩:=kD bp hv q X bu dn;have ha:G (H W)+1<=G (H K):=by have:=bu.size;simp at this;omega
  clear bp dn hv q X bu;subst bT;have kl:=ha;have ck:J (λD=>cl D\/D=lr) W K:=((J.refl (λD=>cl D\/D=lr) W).alloc<|aw #[aj f,aj i,aO r,aL g] 164).trans ex<|λD e=>.inl<|.inr e;have bh:∀D,G (H a)<=D->¬u.F D:=λD e hf=>by have:=hF D hf;omega
  have cc:u.D K:=u.fq (u.fq bi (cI az W) cN) ex (λD e=>by subst e;exact bh _ (by have:=au.size;omega));by_cases s:(!(p.toList==[])&&!im f p)=bX
  .have P:bc=d.map zg:=by
    rw[ae eu,aZ,wv];exact dt s
   have fL:(p.toList==[])=bF:=by cases h1:(p.toList==[])<;>simp[h1]at s|-
   have dx:im f p=bF:=by cases h2:im f p<;>simp[h2]at s|-
   unfold im at dx;obtain⟨db,cE,bk⟩:=dI ck cc P;clear ck cc P s;gi_wp2;refine⟨cl,⟨rfl,?_,cE⟩,db,rfl,λD e=>.inl e⟩;rw[ae bk,cV];exact et
  .have eg:(p.toList==[])=bX\/((p.toList==[])=bF/\im f p=bX):=by
    cases h1:(p.toList==[])<;>cases h2:im f p<;>simp[h1,h2]at s|-
   have cp:bc=if((z d:Y)+1==c)=bX then d.map zg++[zg ⟨f,i,r,g⟩]else wv p c (d.map zg++[zg ⟨f,i,r,g⟩]) (A.map zg):=by
    rw[ae eu,aZ,wv,cV];exact dh s
   have cm:=Z cp;have ba:=am hp;have cu:=am HV;have bf:aS K.drew (U (G (H a)+1+1+1+1) 0)=M (ah v (z d) t)/\aS K.drew (U (G<|H W) 0)=M (aj f)/\aS K.drew (U (G<|H W) 1)=M (aj i):=⟨ch,ea,eb⟩;have bm:=Z (show∀B,J az K B->aS B (U (G (H a)+1+1+1+1) 0)=M (ah v (z d) t)/\aS B (U (G<|H W) 0)=M (aj f)/\aS B (U (G<|H W) 1)=M (aj i)fromλB b=>⟨b.cell bf.1 id cu,b.cell bf.2.1 id ba,b.cell bf.2.2 id ba⟩);have hY:=λW=>vC f W eq.1;have ge:=λW=>vC i W eq.2;have hQ:G (H a)+5<=G (H K):=by omega
   have db:=Z ck;have cE:=Z cc;clear ck cc s cp;rcases eg with fL|⟨fL,dx⟩;case' inl=>gi_wp2_with fail
   case' inr=>unfold im at dx;gi_wp2_with fail
   all_goals
    rename_i QQ KK fr;refine tZ (λB=>aS B (U (G (H a)+1+1+1+1) 0)=M (ah v (z d) t)/\aS B (U (G<|H W) 0)=M (aj f)/\aS B (U (G<|H W) 1)=M (aj i)) 10 (by kernel_rfl) (by kernel_rfl) (λlg a h=>h) ?_;refine cY 0 ?_;iterate 3 (refine eJ (v:=?_) bf rfl (by kernel_rfl) iV rfl ?_ ?_;rotate_left;(focus(rintro B⟨z0,z1,z2⟩;go_simp;try rfl));simp only[Act.put,dG,Nat.reduceAdd])
    apply eA;refine cY 4 ?_;iterate 2 (refine eJ (v:=?_) bf rfl (by kernel_rfl) iV rfl ?_ ?_;rotate_left;(focus(rintro B⟨z0,z1,z2⟩;go_simp;try rfl));simp only[Act.put,dG,Nat.reduceAdd])
    apply eA;refine aM (i:=3) rfl rfl (by kernel_rfl) ?_;intro K3 fe;go_simp;apply(hY _).mono;rintro ca w4⟨rfl,gb⟩;have ej:J az K w4:=(cg az K).cw<|J.aV (S:=az) gb;refine fe _ _ (λ_=>bm w4 ej) ?_;try simp only[Act.put,dG]
    refine aM (i:=6) rfl rfl (by kernel_rfl) ?_;intro K6 ff;go_simp;apply(ge _).mono;rintro ca w5⟨rfl,gc⟩;have C:J az K w5:=ej.cw<|J.aV (S:=az) gc;refine ff _ _ (λ_=>bm w5 C) ?_;try simp only[Act.put,dG]
    refine aM (i:=7) rfl rfl (by kernel_rfl) ?_;intro K7 fk;go_simp;refine fk _ _ (λ_=>bm w5 C) ?_;try simp only[Act.put,dG]
    refine aM (i:=8) rfl rfl (by kernel_rfl) ?_;intro K8 fl;go_simp;have F:=C.alloc<|aw #[aj f,aj i] 68;refine fl _ _ (λ_=>bm _ F) ?_;try simp only[Act.put,dG]
    have bs:=C.size;refine aM (i:=9) rfl rfl (by kernel_rfl) ?_;intro K9 fn;simp only[cy,bU,cf];refine kL (.tmp 36) (.tmp 44) 37 rfl (G (H a)+5) 68 i0 (eB #[aj ⟨#[]⟩,aj ⟨#[]⟩]) 2 32 underlying37 jB jK ka kb rfl (by decide) (ah v (z d) t) (z d) (ik<|d.map zg) rfl (F.own ac<|λ_ _ k=>k) (U (G<|H w5) 0) 1 1 (qB<|zg ⟨f,i,r,g⟩) rfl rfl (OE _ (zg ⟨f,i,r,g⟩) _) (XS _) (by omega) (by omega) (by simp;omega) ?_;intro v3 w3 ei el;obtain⟨x3,c3,jG⟩:=aB ei;subst jG;have bv:J (λD=>bY (ah v (z d) t)=M D) K w3:=(F.mono (T:=λD=>bY (ah v (z d) t)=M D) cN).trans (J.dR (S:=λD=>bY (ah v (z d) t)=M D) el.grown<|λD e=>.inl e)<|λD e=>.inl e;have dT:er w3 (G (H a)+4) (ah v (z d) t) 37:=(bv.block _ cu (λk=>by have:=(ac.lt _ k).1;omega)).trans HV;have ec:¬bY (ah v (z d) t)=M (G<|H W):=λk=>by have:=(HC.lt _<|(bd _).2<|.inr<|.inr k).2;omega
    have dv:aS w3 (U (G (H a)+1+1+1+1) 0)=M (ah v (z d) t)/\aS w3 (U (G<|H W) 0)=M (aj f)/\aS w3 (U (G<|H W) 1)=M (aj i):=⟨dT.cell,bv.cell ea ec ba,bv.cell eb ec ba⟩;refine fn _ _ (λ_=>dv) ?_;simp only[Act.put,dG];refine aM (i:=10) rfl rfl (by kernel_rfl) ?_;intro ks cn;have ih:=dv.1;have iv:w3.frozen? (U (G (H a)+1+1+1+1) 0)=bF:=dT.free;go_simp;refine cn _ _ wH ?_;refine cX (by kernel_rfl) ?_ _;show KK _ _;apply fr;have fz:bY (ah x3 (z d+1) c3)=bY (ah v (z d) t)\/∃hm,bY (ah x3 (z d+1) c3)=M hm/\G (H K)<=hm:=by
     rcases el.uq with kn|⟨hm,kn,kx⟩
     .exact .inl kn
     .exact .inr ⟨hm,kn,by simp at kx;omega⟩
    obtain⟨B',q1,q2,q3⟩:=et.more HV bd ac bv fz ei;have bl:Hid (PA u a p c (z d+1) (d.map zg++[zg ⟨f,i,r,g⟩]) B'<|ct w3 (U (G (H a)+1+1+1+1) 0)<|ah x3 (z d+1) c3):=Z (by unfold PA;rw[EV];exact q1);have cb:Hid (J cl K<|ct w3 (U (G (H a)+1+1+1+1) 0)<|ah x3 (z d+1) c3):=Z q2;have hx:=Z q3;clear q1 q2 q3 fr fe ff fk fl fn cn bv dT dv ih iv ei el fz ec ej C F gb gc bf bm;obtain⟨W7,fx⟩:∃W7,ct w3 (U (G (H a)+1+1+1+1) 0) (ah x3 (z d+1) c3)=W7:=⟨_,rfl⟩;rw[fx]at bl cb|-;clear fx;obtain⟨v7,hc,cx,hd⟩:=bl.row;obtain⟨x7,c7,he⟩:=aB cx;subst he;have kt:aS W7 (U (G (H a)+1+1+1+1) 0)=M (ah x7 (z d+1) c7):=hc.cell;have kv:aS W7 (U (G (H a)+1) 0)=M (aq c):=(bl.fix (G (H a)+1,aq c,3)<|by simp).cell;have al:u.D W7:=u.fq cE cb<|λD e=>bh D (HC.lt D e).1;have fv:J (λD=>cl D\/D=lr) W W7:=db.trans cb<|λD e=>.inl<|.inl e;have cs:W7.heap[lr]?=K.heap[lr]?:=cb.block lr (by omega) fd;have fb:∀D,B' D->cl D\/G (H W)<=D:=λD e=>(hx D e).imp_right (λk=>by omega);have y:=Z<|And.intro al (And.intro fv (And.intro cs fb));clear al fv cs fb hc cx hd hU hV ch ea eb il ip;by_cases br:(z d:Y)+1=c
    .have cj:((z d:Y)+1==c)=bX:=by simpa using br
     have P:bc=d.map zg++[zg ⟨f,i,r,g⟩]:=by rw[ae cm];exact dt cj
     have bk:=Z P;clear P;gi_wp2;refine⟨B',⟨rfl,?_,y.1⟩,y.2.1,y.2.2.1,y.2.2.2⟩;rw[ae bk,af,cV];exact bl
    .have cj:¬((z d:Y)+1==c)=bX:=by simpa using br
     have P:bc=wv p c (d.map zg++[zg ⟨f,i,r,g⟩]) (A.map zg):=by rw[ae cm];exact dh cj
     have bk:=Z P;have ky:((z d:Y)+1==c)=bF:=by simpa using br
     clear P cj;gi_wp2;refine⟨y.1,B',⟨?_,λes jC=>?_⟩,y.2.1,y.2.2.1,y.2.2.2⟩
     .rw[af,<-gn];exact bl
     .have jD:A=es:=by
       have:=ae cT;rw[jC]at this;exact List.append_cancel_left this
      rw[<-jD,<-gn];exact bk
 case done=>
  rintro cB cl W hM⟨L,hcut⟩ad O hK;have f:bc=hG.map zg:=by rw[hcut []<|by simp];rfl
  have L:PA u a p c (z bc) bc cl W:=by rw[f,cV];exact L
  clear f hcut;obtain⟨hj,hv,q,X⟩:=L.row;have ch:aS W (U (G (H a)+1+1+1+1) 0)=M hj:=hv.cell;have w:=L.fix (G (H a)+2,aG,37) (by simp);have x:=L.fix (G (H a)+3,.nilIface,50) (by simp);have hW:aS W (U (G (H a)+1+1) 0)=M aG:=w.cell;have it:W.frozen? (U (G (H a)+1+1) 0)=bF:=w.free;have hX:aS W (U (G (H a)+1+1+1) 0)=M .nilIface:=x.cell;have iu:W.frozen? (U (G (H a)+1+1+1) 0)=bF:=x.free;obtain⟨v,t,bT⟩:=aB q;obtain⟨dd,dk,HC,HV,ac,bd,bi,HK⟩:=Fc w x L hv q X O hK;clear L hv q X O hK w x;subst bT;gi_wp2;have hB:=ae bd;have L:=ae HC;have n1:cB≠G (H a)+2:=λk=>ad<|(hB _).2<|.inl ⟨(G (H a)+2,aG,37),by simp,k.symm⟩;have n2:cB≠G (H a)+3:=λk=>ad<|(hB _).2<|.inl ⟨(G (H a)+3,.nilIface,50),by simp,k.symm⟩;have n3:¬bY (ah v (z bc) t)=M cB:=λk=>ad<|(hB _).2<|.inr<|.inr k;have ds:(ct (ct W (U (G (H a)+2) 0)<|ah v (z bc) t) (U (G (H a)+3) 0) .nilIface).heap[cB]?=M (.deferred<|M []):=by
   rw[iC _ n2,iC _ n1];exact HK
  have Q:er (ct (ct W (U (G (H a)+2) 0)<|ah v (z bc) t) (U (G (H a)+3) 0) .nilIface) (G (H a)+2) (ah v (z bc) t) 37:=(dd.set _).other _ (by omega);have T:er (ct (ct W (U (G (H a)+2) 0)<|ah v (z bc) t) (U (G (H a)+3) 0) .nilIface) (G (H a)+3) .nilIface 50:=(dk.other _<|by omega).set _;have av:=gH (ct (ct W (U (G (H a)+2) 0)<|ah v (z bc) t) (U (G (H a)+3) 0) .nilIface) cB<|.deferred none;have ek:J (λD=>D=G (H a)+2\/D=G (H a)+3) W (ct (ct W (U (G (H a)+2) 0)<|ah v (z bc) t) (U (G (H a)+3) 0) .nilIface):=((J.refl (λD=>D=G (H a)+2\/D=G (H a)+3) W).setCell _ 0 _<|.inl<|.inl rfl).setCell _ 0 _<|.inl<|.inr rfl;have ax:=(ek.mono (T:=λD=>D=G (H a)+2\/D=G (H a)+3\/D=cB)<|λD e=>.inl<|e.elim .inl<|λk=>.inr<|.inl k).trans av<|λD e=>.inl<|.inr<|.inr e;have bh:∀D,G (H a)<=D->¬u.F D:=λD e hf=>by have:=hF D hf;omega
  have bg:∀D,(D=G (H a)+2\/D=G (H a)+3\/D=cB)->G (H a)<=D:=by have:=au.size;rintro D(k|k|k)<;>omega
  refine⟨by simp,.inl ⟨_,_,rfl,run_takeDeferred ds,?_⟩⟩;refine⟨_,zA rfl underlying37 _ _ (G (H a)+2) (G (H a)+3) (ah v (z bc) t) .nilIface rfl rfl ?_ ?_,?_⟩
  .exact(er.cell<|(av.block _ (am Q)<|λk=>n1 k.symm).trans Q)
  .exact(er.cell<|(av.block _ (am T)<|λk=>n2 k.symm).trans T)
  .refine⟨_,rfl,?_,u.fq bi ax<|λD e=>bh D<|bg D e,L.ay.trans ax<|λD e=>.inr<|bg D e⟩;have q:=ae ac;have jI:=ax.own q (λD e k=>by
    have:=(q.lt D e).1;rcases k with k|k|k
    .omega
    .omega
    .subst k;exact n3 e)
   obtain⟨h1,⟨h2,h0⟩|⟨hm,hH,dm,h2,hk,o⟩⟩:=jI
   .exact⟨h1,.inl ⟨h2,h0⟩⟩
   .exact⟨h1,.inr ⟨hm,hH,dm,h2,by omega,o⟩⟩
end
section
open Go.Conc.Locks
def tf(b:Y)(d c:ab)(a:Y)(e:dX):iI:=wv c a []<|((Tb b d e).filter<|λf=>!f.del).map zg
def qY(s:SR)(m:cK)(a b c d:cR):(oO s m a b c d).map (·.2)=m::bZ a b c d:=by
 simp[oO,bZ,uS,nE]
def VU(a:cR):z ((a.map bJ.all).reverse).flatten=z (cr a):=by
 unfold cr;rw[si,si,uS,List.sum_reverse]
def ST.flat{d b h i:cR}(k:ST a c n j e d b h i g):z (e::bZ d b h i).flatten<=g:=by
 have l:=k.qK;have f:=VU d;unfold bZ;rw[aX,dQ];simp only[af,f,aX,fR,cS];omega
def ST.Vj(k:ST a b n j e i p r s c):∀x∈(e::bZ i p r s).flatten,x.Good:=by
 intro x f;rw[<-qY n]at f;obtain⟨m,g,d⟩:=bC.1 f;obtain⟨l,h,rfl⟩:=bz.1 g;exact k.KT l h x d
def zk(w a:I)(v:aa)(l:iI):Prop:=a.ownsRow (G<|H w) 68 2 v (z l)<|ik l
def Lo(k g:ab)(d h:Y)(q:bM a b n m)(f:ST a b n j e i p r s c):cA bG 105 #[aA b,aj k,aj g,aq d,aL h] a λA o=>∃u,A=aP (dE #[u,.nilIface])/\zk a o u (tf h k g d<|e::bZ i p r s)/\(mN n.aN j).D o/\J (mN n.aN j).F a o:=by
 obtain⟨x,w,l⟩:=bS f.mem
 have t:=Ru (G<|H a) (n.l0,i) (n.l1,p) (n.l2,r) (n.l3,s) (oO n e i p r s) k g d h q x (z e) w l (f.YC q) (yy n e i p r s) (λB g=>f.Ve _<|ar g) f.Jb (ai _) f.aN.lt (by
  rw[qY];intro y v;have:=f.Vj y (Xi _ _ _ y v);exact⟨by have:=this.Me;omega,by have:=this.val;omega⟩)
  (by
   rw[qY];have:=Xj h k (e::bZ i p r s);have:=f.flat;have:=f.mw;omega)
 rw[qY]at t;exact t
def PJ(o l:ab)(d g:Y)(t:bM a b n m)(f:ST a b n j e i p r s c):cA bG 61 #[aA b,aj o,aj l,aq d,aL g] a λx q=>∃u,x=aP (dE #[u,.nilIface])/\zk a q u (tf g o l d<|e::bZ i p r s)/\(mN n.aN j).D q/\J (mN n.aN j).F a q:=by
 have w:=Lo o l d g t f;clear t f;go_in
 go_wp2_with fail
 apply w.mono;rintro x C⟨B,rfl,k⟩;obtain⟨A,y,rfl⟩:=aB k.1;have v:=Z k;clear k;go_wp2;go_ret2
 exact⟨_,rfl,v⟩
def zk.unlock(h:zk a f d F)(c:b<G (H a)):zk a (ct f (U b 0) t) d F:=by
 unfold zk at h|-;exact h.kept (df f _ _ _) (by right;intro e;have:=(h.lt _ e).1;omega)
def KH(v u:ab)(d:Y)(h:bM a b n 0)(m:n.closed=bX):cA bG 31 #[aA b,aj v,aj u,aq d] a λo l=>o=aP (dE #[aG,lC 6])/\bM l b n 0/\J (λx=>x=b) a l:=by
 have q:=bM.cellAt h 0 rfl;have s:a.frozen? (U b 0)=bF:=h.free;have k:=h.gK 1;have c:=iB k;rw[m]at c;simp only[iO]at c;have p:=Z<|λi j=>qn (W2:=i) k (ij b a) j;clear h k m;rw[wq]at c|-;go_enter_defers func31,ntmps31
 go_wp2_with fail
 apply(lock_free (U b 0) _ q s).mono;rintro o l⟨rfl,rfl⟩;go_wp2_with fail
 apply c.mono;rintro o i⟨rfl,j⟩;obtain⟨r,t,e⟩:=p i j;have g:=Z e;clear e j c;go_wp2;refine eR (f:=40) (args:=#[aA b]) (by simp) (by simp[go_sem]) ?_;apply(unlock_deferred (U b 0) .returning _ r t).mono;rintro o y w⟨rfl,rfl,rfl⟩;exact⟨_,kY rfl _ _ _,rfl,g⟩
def QW(T Q:ab)(d:Y)(h:bM a b n 0)(L:ST a b n j e i p r s c)(hc:n.closed=bF):cA bG 31 #[aA b,aj T,aj Q,aq d] a λP x=>∃v',P=aP (dE #[v',.nilIface])/\zk a x v' (tf n.bj T Q d<|e::bZ i p r s)/\tL a x b n j e i p r s c:=by
 have B:=am h;have c0:=bM.cellAt h 0 rfl;have f0:a.frozen? (U b 0)=bF:=h.free;have u:=kM L.aN L.rI 1;have K:=h.gK 1;have E:G (H<|ct a (U b 0)<|jo 1)=G (H a):=gE;generalize X:ct a (U b 0) (jo 1)=o at u K E;have w:=iB K;rw[hc]at w;have l:cA bG 41 #[aA b] o λP x=>P=aP .nilIface/\Below (G<|H o) o x:=w;have HX:=Z<|λg(q:Below (G<|H o) o g)=>rJ (W2:=g) K L B u q;have HG:=Z (show∀g m W V,Below (G<|H o) o g->zk g m W V->zk a (ct m (U b 0)<|jo 0) W V fromλg m W V q hg=>by have:zk a m W V:=eM hg (by have:=q.size;omega);exact this.unlock B);have HW:=Z X;clear h L u K hc X w E;go_enter_defers func31,ntmps31
 go_wp2_with fail
 apply(lock_free (U b 0) _ c0 f0).mono;rintro P x⟨rfl,S⟩;rw[ae HW]at S;subst x;go_wp2_with fail
 apply l.mono;rintro P g⟨rfl,q⟩;obtain⟨t,D,k⟩:=HX g q;have C:=PJ T Q d n.bj t D;have c9:=bM.cellAt t 9 rfl;have y:=Z k;have N:=Z<|λm W V=>HG g m W V q;clear t D k q l;go_wp2_with fail
 apply C.mono;rintro P m⟨v2,rfl,v,A,F⟩;obtain⟨px,pc,rfl⟩:=aB v;obtain⟨d0,g0,hF⟩:=y m A F;have HF:=Z hF;have O:=Z<|N _ _ _ v;clear A F hF C v;go_wp2;refine eR (f:=40) (args:=#[aA b]) (by simp) (by simp[go_sem]) ?_;apply(unlock_deferred (U b 0) .returning _ d0 g0).mono;rintro P u' ac⟨rfl,rfl,rfl⟩;exact⟨_,kY rfl _ _ _,ah px _ pc,rfl,O,HF⟩
def Iz(u t:ab)(h:bM a b n 0)(l:n.closed=bX):cA bG 106 #[aA b,aj u,aj t] a λm k=>m=aP aG/\bM k b n 0/\J (λw=>w=b) a k:=by
 have p:=bM.cellAt h 0 rfl;have r:a.frozen? (U b 0)=bF:=h.free;have j:=h.gK 1;have c:=iB j;rw[l]at c;simp only[iO]at c;have o:=Z<|λg i=>qn (W2:=g) j (ij b a) i;clear h j l;rw[wq]at c;go_enter_defers func106,ntmps106
 go_wp2_with fail
 apply(lock_free (U b 0) _ p r).mono;rintro m k⟨rfl,rfl⟩;go_wp2_with fail
 apply c.mono;rintro m g⟨rfl,i⟩;obtain⟨q,s,d⟩:=o g i;have e:=Z d;clear d i c;go_wp2;refine eR (f:=40) (args:=#[aA b]) (by simp) (by simp[go_sem]) ?_;apply(unlock_deferred (U b 0) .returning _ q s).mono;rintro m x v⟨rfl,rfl,rfl⟩;exact⟨_,gy rfl _ _ _,rfl,e⟩
def Ns(S P:ab)(h:bM a b n 0)(K:ST a b n j e i p r s c)(X:n.closed=bF):cA bG 106 #[aA b,aj S,aj P] a λO w=>∃v',O=aP v'/\zk a w v' (tf n.bj S P 0<|e::bZ i p r s)/\tL a w b n j e i p r s c:=by
 have A:=am h;have c0:=bM.cellAt h 0 rfl;have f0:a.frozen? (U b 0)=bF:=h.free;have t:=kM K.aN K.rI 1;have F:=h.gK 1;have D:G (H<|ct a (U b 0)<|jo 1)=G (H a):=gE;generalize W:ct a (U b 0) (jo 1)=m at t F D;have v:=iB F;rw[X]at v;have k:cA bG 41 #[aA b] m λO w=>O=aP .nilIface/\Below (G<|H m) m w:=v;have HX:=Z<|λd(o:Below (G<|H m) m d)=>rJ (W2:=d) F K A t o;have HG:=Z (show∀d l V T,Below (G<|H m) m d->zk d l V T->zk a (ct l (U b 0)<|jo 0) V T fromλd l V T o hg=>by have:zk a l V T:=eM hg (by have:=o.size;omega);exact this.unlock A);have HW:=Z W;clear h K t F X W v D;go_enter_defers func106,ntmps106
 go_wp2_with fail
 apply(lock_free (U b 0) _ c0 f0).mono;rintro O w⟨rfl,Q⟩;rw[ae HW]at Q;subst w;go_wp2_with fail
 apply k.mono;rintro O d⟨rfl,o⟩;obtain⟨q,C,g⟩:=HX d o;have B:=Lo S P 0 n.bj q C;have c9:=bM.cellAt q 9 rfl;have x:=Z g;have L:=Z<|λl V T=>HG d l V T o;clear q C g o k;go_wp2_with fail
 apply B.mono;rintro O l⟨v2,rfl,u,y,E⟩;obtain⟨px,pc,rfl⟩:=aB u;obtain⟨d0,g0,hF⟩:=x l y E;have HF:=Z hF;have N:=Z<|L _ _ _ u;clear y E hF B u;go_wp2;refine eR (f:=40) (args:=#[aA b]) (by simp) (by simp[go_sem]) ?_;apply(unlock_deferred (U b 0) .returning _ d0 g0).mono;rintro O u' ac⟨rfl,rfl,rfl⟩;exact⟨_,gy rfl _ _ _,ah px _ pc,rfl,N,HF⟩
def FW(x:Y)(v u:ab)(c:Y)(h:bM a b n 0)(m:n.closed=bX):cA bG 37 #[aA b,aq x,aj v,aj u,aq c] a λo l=>o=aP (dE #[aG,lC 6])/\bM l b n 0/\J (λy=>y=b) a l:=by
 have q:=bM.cellAt h 0 rfl;have s:a.frozen? (U b 0)=bF:=h.free;have k:=h.gK 1;have e:=uF x k m;have p:=Z<|λi j=>qn (W2:=i) k (ij b a) j;clear h k m;rw[wq]at e|-;go_enter_defers func37,ntmps37
 go_wp2_with fail
 apply(lock_free (U b 0) _ q s).mono;rintro o l⟨rfl,rfl⟩;go_wp2_with fail
 apply e.mono;rintro o i⟨rfl,j⟩;obtain⟨r,t,d⟩:=p i j;have g:=Z d;clear d j e;go_wp2;refine eR (f:=40) (args:=#[aA b]) (by simp) (by simp[go_sem]) ?_;apply(unlock_deferred (U b 0) .returning _ r t).mono;rintro o A w⟨rfl,rfl,rfl⟩;exact⟨_,kY rfl _ _ _,rfl,g⟩
def KJ(A:fw)(ac:Y)(lo X:ab)(g:Y)(h:bM a b n 0)(v:ST a b n j e i p r s c)(q:FK a j b n A)(E:n.closed=bF)(F:pD A ac=none):cA bG 37 #[aA b,aq ac,aj lo,aj X,aq g] a λN B=>N=aP (dE #[aG,lC 5])/\tL a B b n j e i p r s c:=by
 have x:=am h;have S:=bM.cellAt h 0 rfl;have V:a.frozen? (U b 0)=bF:=h.free;have k:=kM v.aN v.rI 1;have t:=h.gK 1;generalize D:ct a (U b 0) (jo 1)=C at k t;obtain⟨mb,K,L,q3⟩:=(q.fm k).ex;have d:=rP ac A t E K L;rw[F]at d;simp only at d;rw[OV]at d|-;have Q:=Z<|λm(u:Below (G<|H C) C m)=>rJ (W2:=m) t v x k u;have P:=Z D;clear h v k t E D q K L q3 F;go_enter_defers func37,ntmps37
 go_wp2_with fail
 apply(lock_free (U b 0) _ S V).mono;rintro N B⟨rfl,y⟩;rw[ae P]at y;subst B;go_wp2_with fail
 apply d.mono;rintro N m⟨rfl,u⟩;obtain⟨w,o,l⟩:=Q m u;obtain⟨T,W,hF⟩:=l m o.Jb<|J.refl _ _;have O:=Z hF;clear w o l u d hF;go_wp2;refine eR (f:=40) (args:=#[aA b]) (by simp) (by simp[go_sem]) ?_;apply(unlock_deferred (U b 0) .returning _ T W).mono;rintro N u' ad⟨rfl,rfl,rfl⟩;exact⟨_,kY rfl _ _ _,rfl,O⟩
def KI(V:fw)(ad:Y)(an:R)(T Q:ab)(d:Y)(B:FK a j b n V)(K:pD V ad=M an)(h:bM a b n 0)(L:ST a b n j e i p r s c)(hc:n.closed=bF):cA bG 37 #[aA b,aq ad,aj T,aj Q,aq d] a λac N=>∃v',ac=aP (dE #[v',.nilIface])/\zk a N v' (tf an T Q d<|e::bZ i p r s)/\tL a N b n j e i p r s c:=by
 have x:=am h;have c0:=bM.cellAt h 0 rfl;have f0:a.frozen? (U b 0)=bF:=h.free;have k:=kM L.aN L.rI 1;have F:=h.gK 1;have C:G (H<|ct a (U b 0)<|jo 1)=G (H a):=gE;generalize hW:ct a (U b 0) (jo 1)=E at k F C;obtain⟨mb,q1,q2,q3⟩:=(B.fm k).ex;have l:=rP ad V F hc q1 q2;rw[K]at l;simp only at l;have HX:=Z<|λg(q:Below (G<|H E) E g)=>rJ (W2:=g) F L x k q;have HG:=Z (show∀g o X W,Below (G<|H E) E g->zk g o X W->zk a (ct o (U b 0)<|jo 0) X W fromλg o X W q K=>by have:zk a o X W:=eM K (by have:=q.size;omega);exact this.unlock x);have HW:=Z hW;clear h L k F hc hW C B q1 q2 q3 K;go_enter_defers func37,ntmps37
 go_wp2_with fail
 apply(lock_free (U b 0) _ c0 f0).mono;rintro ac N⟨rfl,S⟩;rw[ae HW]at S;subst N;go_wp2_with fail
 apply l.mono;rintro ac g⟨rfl,q⟩;obtain⟨t,A,m⟩:=HX g q;have y:=PJ T Q d an t A;have c9:=bM.cellAt t 9 rfl;have v:=Z m;have O:=Z<|λo X W=>HG g o X W q;clear t A m q l;go_wp2_with fail
 apply y.mono;rintro ac o⟨v2,rfl,u,w,D⟩;obtain⟨px,pc,rfl⟩:=aB u;obtain⟨d0,g0,hF⟩:=v o w D;have HF:=Z hF;have P:=Z<|O _ _ _ u;clear w D hF y u;go_wp2;refine eR (f:=40) (args:=#[aA b]) (by simp) (by simp[go_sem]) ?_;apply(unlock_deferred (U b 0) .returning _ d0 g0).mono;rintro ac u' al⟨rfl,rfl,rfl⟩;exact⟨_,kY rfl _ _ _,ah px _ pc,rfl,P,HF⟩
end
section
open Go.Shelf
attribute [local go_sem] Oper.semAt_some
def SG(a:R)(s:SR):jr:=⟨λw=>bM w a s 0,λk=>k=a,λ{_ _ _}h d c=>(d.block a (am h)<|λe=>c _ e rfl).trans h,λ{_ _}h b=>by subst b;exact am h⟩
def Qm(p:KV):Array aa:=#[aj p.1,aj p.2]
def Ip(n0 cv:R)(e:R)(bT:SR)(f:iI)(S:er a b d 37)(Q:er a c (aA e) 35)(hr:Row a 2 d (z f) (ik f))(h1:b≠e)(h2:c≠e)(h3:∀k,bY d=M k->k<G (H a)/\k≠e)(cl:e<n0)(bf:n0<=G (H a))(cm:z f<=1000000000):Qp Qm (SG e bT) n0 cv 107 #[aA b,aA c] (if bT.closed then []else f) (λk=>k=b\/k=c\/bY d=M k) a:=by
 intro lr co Jx cs cu hs hD hJ ax r bk hY;obtain⟨cn,W,hv⟩:=bS hr;have cj:aS cu (U b 0)=M d:=hs.cell (.inl<|.inl rfl) S.cell;have K:∀k,(k=b\/k=c\/bY d=M k)->k<G (H a)/\k≠e:=by rintro k(q|q|q);rw[q];exact⟨am S,h1⟩;rw[q];exact⟨am Q,h2⟩;exact h3 k q
 obtain⟨n,HB,HR,ch,HS,HJ⟩:=kD K Q hr h3 hs hJ;obtain⟨HD,bq,HY,ac,al⟩:=jX hD ax hY r bk;clear S Q hr h3 hs hJ ax r bk hY hD K h1;subst hv;obtain⟨V,bb⟩:∃V,bT.closed=V:=⟨_,rfl⟩;rw[bb]at HY|-;obtain⟨ce,hl⟩:∃ce,(if V=bX then []else f)=ce:=⟨_,rfl⟩;rw[hl]at HY|-;have x:=Z hl;clear hl;refine rr func107 rfl trivial ?_ rfl;simp only[ntmps107,eZ,aC,cS,Nat.reduceAdd,Nat.reduceSub,eh,dZ,fa,eE,cJ,cC];gi_wp2;gi_loopw [8] (λi wr=>∃(s:R)(L:fN),i=aq (s:Y)/\s<=z f/\(V=bX->s=0)/\co (f.take s) L wr/\bM wr e bT 0/\(∀k,(k=b\/k=c\/bY (ah cn (z f) W)=M k)->¬L k)/\jL (SG e bT) n0 (λk=>k=b\/k=c\/bY (ah cn (z f) W)=M k) a wr) (λi _=>z f-(intOf i).toNat)
 case atStart=>exact⟨0,cs,by go_num,bB _,λ_=>rfl,HJ,HD,bq,HS⟩
 case round=>
  obtain⟨s,L,rfl,hj,A,y,u,F,g⟩:=hrel;have E:=Z F;clear F;by_cases r:s<z f
  .have e1:(s:Y)<(z f:Y):=by omega
   have e2:(0:Y)<=(s:Y):=by omega
   have hg:=oo f s r;have bc:∃cc j,cn=M (U cc j)/\aS wr (U cc<|j+s*2)=M (aj f[s].1)/\aS wr (U cc<|j+s*2+1)=M (aj f[s].2):=by
    obtain⟨q1,⟨q2,q0⟩|⟨av,ad,an,q2,ao,hc⟩⟩:=ae HR
    .omega
    .cases q2;exact⟨av,ad,rfl,g.cell (.inl<|.inr<|.inr rfl)<|hc _ _ hg.1,g.cell (.inl<|.inr<|.inr rfl) (by rw[aY];exact hc _ _ hg.2)⟩
   obtain⟨cc,j,hx,bu,bv⟩:=bc;subst hx;have ck:aS wr (U c 0)=M (aA e):=g.cell (.inl<|.inr<|.inl rfl) HB.cell;have bi:e<G (H wr):=am u;have ca:c<G (H wr):=ag (am HB) g.1;have D:=Z (show(f.take s++[f[s]])<+:f/\f.take s++[f[s]]=f.take (s+1)by
    rw[<-ak r];exact⟨List.take_prefix _ _,rfl⟩)
   obtain⟨t,N,br,O⟩:=gD y u g A;clear y u g hg A;generalize f[s]=pj at*;obtain⟨B,C⟩:=pj;simp only at bu bv;have HQ:=Z (show∀w,J (λk=>k=e) (cF wr<|aw #[aj B,aj C] 68) w->co (f.take s) L w/\aS w (U (G<|H wr) 0)=M (aj B)/\aS w (U (G<|H wr) 1)=M (aj C)/\J (λk=>k=e) wr w fromλw i=>by
    have ao:J az wr (cF wr (aw #[aj B,aj C] 68)):=(cI az wr);have an:(cF wr (aw #[aj B,aj C] 68)).heap[G (H wr)]?=M (aw #[aj B,aj C] 68 (0,0)):=aE _ rfl;have ad:=(i.block _ (am an) (by omega)).trans an;refine⟨al _ _ _ _ _ (al _ _ _ _ _ t ao cN) i (λk l=>⟨λW=>?_,.inl l⟩),by rw[bL ad];rfl,by rw[bL ad];rfl,(ao.mono (T:=λk=>k=e) cN).trans i (λk l=>.inl l)⟩;have:=(ac _ _ _ t k W).1;omega)
   have au:bM (cF wr<|aw #[aj B,aj C] 68) e bT 0:=(((J.refl az wr).alloc<|aw #[aj B,aj C] 68).block e bi id).trans N;have v:=Js au;rw[bb]at v;clear au;cases V with
   |true=>
    have h0:s=0:=O rfl;have HZ:=Z h0;clear h0;gi_wp2_with(refine⟨trivial,(λW=>(by cases W)),?_⟩;gi_at_call 108;refine(di.2 v).mono ?_;rintro cp w⟨rfl,p,i⟩;obtain⟨o,k0,k1,m⟩:=HQ w i;have P:=Z o;have X:=Z p;clear o p m i)
    refine⟨λ_ h=>(by cases h),?_⟩;gi_wp2;refine cO (iY rfl _ _ _) rfl ?_;refine⟨⟨_,rfl⟩,.inl ⟨L,?_,X⟩⟩;rw[<-ae x];have:=ae P;rw[ae HZ]at this;exact this
   |false=>
    have bd:f=ce:=ae x;have bg:(f.take s++[(B,C)])<+:ce:=D.1.trans (by rw[bd];exact uR _);have ad:=Z bg;clear bg bd;gi_wp2_with(refine⟨trivial,(λW=>(by cases W)),?_⟩;gi_at_call 108;refine(di.2 v).mono ?_;rintro cp w⟨rfl,p,i⟩;obtain⟨o,k0,k1,m⟩:=HQ w i;obtain⟨fn,cb,bl,body,hy,hR⟩:=HY (f.take s) (B,C) L w ad o p;unfold Qm at hy;simp only at hy;have bp:=Z hR;have P:=Z o;have X:=Z p;have bs:=Z m;clear o p m i hR)
    refine⟨(λW=>(by cases W)),bp.mono ?_⟩;rintro cp W3(⟨rfl,ao,B3,av,ba,an⟩|⟨rfl,hx⟩)
    .have bo:=Z av;obtain⟨bt,bm,bn⟩:=dI ba an ao;clear av ba an ao;gi_wp2;go_roundw;case rel=>
      have g:=ae br;have m:=ae bs;have bx:=m.size;have bh:=g.1;refine⟨s+1,B3,by go_num,r,(λW=>(by cases W)),(by rw[<-(ae D).2];exact bo),bn,λk l cd=>?_,?_⟩
      .have:=(n k l).1;rcases bm k cd with cd|cd
       .exact E k l cd
       .omega
      .refine g.trans<|(m.same (aF bf bh) (λk l=>⟨by have:=(n k l).1;omega,(n k l).2⟩)<|λk l _=>l).trans ?_;exact bt.same (aF bf<|aF bh bx) (λk l=>⟨by have:=(n k l).1;omega,E k l⟩) (λk l a=>by have:=(ac _ _ _ P k l).1;omega)
     case measure=>simp[intOf];omega
    .have HX:=Z hx;clear hx;gi_wp2;refine cO (iY rfl _ _ _) rfl ?_;exact⟨⟨_,rfl⟩,.inr ⟨_,HX⟩⟩
  .have e1:¬(s:Y)<(z f:Y):=by omega
   have i:s=z f:=by omega
   obtain⟨t,N,O⟩:=dI y u A;clear y u g A;gi_wp2;refine vH (iY rfl _ _ _) rfl ?_;refine⟨⟨_,rfl⟩,.inl ⟨⟨L,?_⟩,N⟩⟩;cases V with
   |true=>
    have h0:=O rfl;rw[<-ae x];have:=ae t;rw[h0]at this;exact this
   |false=>
    have:=ae t;rw[da<|by omega]at this;rw[<-ae x];exact this
structure Nc(w w':I)(sb:R)(v:aa)(ps:iI)(bt bs:R):Prop where
 val:v=.func (.func 107) #[] #[aA bt,aA bs]
 row:∃u,er w' bt u 37/\zk w w' u ps
 ptr:er w' bs (aA sb) 35
 ge:G (H w)<=bt/\G (H w)<=bs
def VR(w:I)(a:R)(s q:ab)(o:iI)(P:I->Prop)(r:∀W,J az w W->G (H w)<G (H W)->cA bG 106 #[aA a,aj s,aj q] W λu c=>∃t,u=aP t/\zk W c t o/\W.heap[G<|H w]?=c.heap[G<|H w]?/\P c)(p:∀W C,P W->P (cF W C)):cA bG 64 #[aA a,aj s,aj q] w λu c=>∃B y x,u=aP B/\Nc w c a B o y x/\P c:=by
 have i:J az w (cF w<|aw #[aA a] 35):=(cI az w);have j:=r _ i (by simp);have g:er (cF w<|aw #[aA a] 35) (G<|H w) (aA a) 35:=aE _ rfl;have k:=Z g;have v:=Z p;clear r p i g;go_in
 go_wp2_with fail
 apply j.mono;rintro u E⟨D,rfl,b,f,e⟩;obtain⟨A,c1,n⟩:=aB b;subst n;obtain⟨l,m,d⟩:=dI b e<|f.symm.trans k;clear b f e j;go_wp2;go_ret;refine⟨_,_,_,rfl,⟨rfl,⟨_,aE _ rfl,?_⟩,?_,?_⟩,v _ _ m⟩;have:=ae l;unfold zk at this|-;exact eM (aU this<|aw #[ah A (z o) c1] 37) (by simp);exact er.alloc d _;have:=am d;omega
def FB(h e:ab)(r:bM a b n 0)(p:n.closed=bX):cA bG 64 #[aA b,aj h,aj e] a λq c=>∃v m l,q=aP v/\Nc a c b v [] m l/\bM c b n 0/\J (λk=>k=b) a c:=by
 have g:=am r;refine VR a b h e [] (λc=>bM c b n 0/\J (λk=>k=b) a c) (λW i f=>?_)<|λW u d=>⟨(ga _<|am d.1).trans d.1,d.2.alloc u⟩;apply(Iz h e ((i.block b g id).trans r) p).mono;rintro q c⟨rfl,o,j⟩;exact⟨_,rfl,bN _ _ _ _,(j.block _ f<|by omega).symm,o,(i.mono (T:=λk=>k=b) cN).trans j<|λ_ c=>.inl c⟩
def MT{K:DK}{m:cK}{a b c d:cR}{C:R}(s r:ab)(N:bM f g n 0)(y:ST f g n K m a b c d C)(E:n.closed=bF):cA bG 64 #[aA g,aj s,aj r] f λL p=>∃O D B,L=aP O/\Nc f p g O (tf n.bj s r 0<|m::bZ a b c d) D B/\tL f p g n K m a b c d C:=by
 have o:=am N;have l:∀{f W:I}{K:DK},cU f n.aN K->J az f W->gq f W n.aN g K K:=λi j=>⟨i.ay j<|λ_ _=>id,j.mono cN,λ_ q=>.inl q⟩;refine VR f g s r _ (λp=>tL f p g n K m a b c d C) (λW j x=>?_) ?_;have i:=l y.aN j;have A:=y.fm o i rfl;apply(Ns s r ((j.block g o id).trans N) A E).mono;rintro L p⟨P,rfl,F,t,e,u,v,w,k,h⟩;refine⟨_,rfl,F,(e.ay.block _ x ?_).symm,t,i.trans e,u,v,w,k,h⟩;rintro(q|q);have:=y.aN.lt _ q;omega;omega;rintro W F⟨t,i,u,v,w,k,h⟩;have A:J az W (cF W F):=(J.refl az W).alloc F;have e:=l h.aN A;exact⟨t,i.trans e,u,v,w,(A.block g (am k) id).trans k,h.fm (am k) e rfl⟩
end
section
open Go.Shelf
attribute [local go_sem] Oper.semAt_some
def CA(c:I)(b:R)(e:fN)(a:Y)(d:iI)(B:fN)(W:I):Prop:=Acc e c [(G<|H c,aq a,3)] (G (H c)+1) 37 68 2 b (z d) (ik d) B W
def Cs(w:I)(b:R)(cp:SR)(lo hi:ab)(a:Y)(ps:iI)(et:I->Prop)(E:fN)(cm:0<a)(ej:b<G (H w))(hF:∀k,E k->k<G (H w))(hA:∀W,J az w W->G (H W)=G (H w)+2->cA bG 64 #[aA b,aj lo,aj hi] W λff w'=>∃cB cv cu,ff=aP cB/\Nc W w' b cB ps cv cu/\J E W w'/\et w')(dx:E b)(bT:∀W,et W->bM W b cp 0)(ca:∀W W',et W->J (λk=>k=b\/k=G (H w)\/k=G (H w)+1) W W'->bM W' b cp 0->et W')(cj:cp.closed=bX->ps=[])(ek:z ps<=1000000000):cA bG 34 #[aA b,aj lo,aj hi,aq a] w λff w'=>∃v',ff=aP v'/\zk w w' v' (ps.take a.toNat)/\et w':=by
 obtain⟨i0,ef,eo,eq,es⟩:=cL xR;have cl:(if cp.closed=bX then []else ps)=ps:=by split;rename_i h;rw[cj h];rfl
 have g:J az w (cF (cF w<|aw #[aq a] 3)<|aw #[aG] 37):=(cI az w).alloc _;have ad:er (cF (cF w<|aw #[aq a] 3)<|aw #[aG] 37) (G<|H w) (aq a) 3:=er.alloc (aE _ rfl) _;have al:er (cF (cF w<|aw #[aq a] 3)<|aw #[aG] 37) (G (H w)+1) aG 37:=aE _ (by simp);have T:G (H<|cF (cF w<|aw #[aq a] 3)<|aw #[aG] 37)=G (H w)+2:=by simp
 have cc:=hA _ g T;have e0:¬a<=0:=by omega
 obtain⟨cx,L⟩:∃cx,ps.take a.toNat=cx:=⟨_,rfl⟩;rw[L];obtain⟨ax,db,HX,dd,bp,HF⟩:=kD L cl (And.intro g (And.intro ad (And.intro al T))) bT ca hF;clear L cl g ad al T hA bT ca cj hF;refine(di (n:=3)).1 ?_;refine callsIn_of_wp_marks func34 rfl trivial ?_ rfl;simp only[ntmps34,eZ,aC,cS,Nat.reduceAdd,Nat.reduceSub,eh,dZ,fa,eE,cJ,cC];gi_wp2_with(refine⟨trivial,?_⟩;gi_at_call 64;refine(di.2 cc).mono ?_;rintro ff p⟨v9,cv,cu,rfl,ee,t,bx⟩;obtain⟨en,⟨u9,ce,N⟩,cd,ck⟩:=ee;subst en;have bn:=Z ce;have cM:=Z N;have bm:=Z cd;have cT:=Z ck;have dm:=Z t;have bf:=Z bx;clear ce N cd ck t bx cc)
 obtain⟨ed,ad,al,T⟩:=ae HX;have t:=ae dm;have hF:=ae HF;have fv:=t.size;obtain⟨fs,fr⟩:=ae cT;have em:J E w p:=(ed.mono (T:=E) cN).trans t<|λ_ f=>.inl f;have ea:er p (G<|H w) (aq a) 3:=(t.block _ (am ad) (λf=>by have:=hF _ f;omega)).trans ad;have eb:er p (G (H w)+1) aG 37:=(t.block _ (am al) (λf=>by have:=hF _ f;omega)).trans al;have dv:CA w (G<|H p) E a [] (λk=>k=G (H w)\/k=G (H w)+1) p:=by refine⟨λfx hp=>?_,⟨aG,eb,bN _ _ _ _,λk=>?_⟩,λfx hp=>?_,⟨by omega,by omega⟩,em⟩;rw[bI]at hp;rw[hp];exact ea;simp[bY];omega;rw[bI]at hp;rw[hp];exact⟨ai _,by simp;omega,by simp⟩
 have N:=ae cM;have av:∀k,bY u9=M k->G (H w)+2<=k/\k<G (H p):=λk d=>by have:=N.lt k d;rw[T]at this;exact this
 have O:=Ip (G<|H w) 2 b cp ps bn bm (dr N) (by omega) (by omega) (λk d=>⟨(av k d).2,by have:=(av k d).1;omega⟩) ej (by omega) ek;rw[ae db]at O;refine Cg (m:=3) (V:=SG b cp) (n0:=G<|H w) (gf:=107) (lb:=#[aA cv,aA cu]) (l:=ps) (S:=λk=>k=cv\/k=cu\/bY u9=M k) ?geval (enters_of func107 (by kernel_rfl) rfl) (λ_=>rfl) O (dd _ bf) (by omega) ?slt (λc bd W=>CA w (G<|H p) E a c bd W/\J (λk=>k=b\/k=G (H w)\/k=G (H w)+1) p W/\(z c:Y)<a) (λf _ bd W=>f=.exit 0/\CA w (G<|H p) E a cx bd W/\J (λk=>k=b\/k=G (H w)\/k=G (H w)+1) p W/\bM W b cp 0) (λk=>k=G (H w)\/k=G (H w)+1) ⟨dv,J.refl _ _,by simpa using cm⟩ ?sb ?lt ?st ?xst ?body ?done ?stop;case geval=>rfl
 (case slt=>rintro k(f|f|f);rw[f];exact am bn;rw[f];exact am bm;exact(av k f).2);(case sb=>rintro k(f|f|f)bl;omega;omega;have:=(av k f).1;omega);(case lt=>rintro c bd W⟨h,_⟩k d;exact h.lt k d);(case st=>rintro c bd W W' fk⟨h,s,v⟩ht hT;refine⟨h.stays ht<|λk d=>⟨(hT k d).1,?_⟩,s.trans ht<|λk d=>?_,v⟩;rcases(hT k d).2 with f|f;left;rw[show k=b from f];exact dx;exact .inr (by omega);rcases(hT k d).2 with f|f;exact .inl<|.inl f;exact .inr f);(case xst=>rintro f c bd W W' fk⟨h1,v,x,s⟩ht hT;exact⟨h1,v.stays ht<|λk d=>⟨(hT k d).1,.inr (by have:=(hT k d).2;omega)⟩,x.trans ht<|λk d=>.inr (hT k d).2,(ht.block b (am s) (λf=>by have:=(hT _ f).2;omega)).trans s⟩)
 case body=>
  rintro lr c fz bd W fu bt fb Q⟨D,j,eg⟩i;obtain⟨xk,xv⟩:=fz;have ey:z c+1<=1000000000:=by
   have h1:=Q.length_le;simp at h1;omega
  obtain⟨bo,HC,B,q⟩:=gD Q D j i;clear D j i Q;unfold Qm;simp only;gi_wp2;refine⟨J.refl _ _,λW2 g=>?_⟩;have an:CA w (G<|H p) E a c bd W2:=HC.stays g (λk d=>by subst d;exact⟨bt,.inr<|by omega⟩);obtain⟨cB,X,e,o⟩:=an.row;have bc:=an.fix (G<|H w,aq a,3) (by simp);have ch:aS W2 (U (G (H w)+1) 0)=M cB:=X.cell;have fn:W2.frozen? (U (G (H w)+1) 0)=bF:=X.free;have fd:G (H w)+1<G (H W2):=am X;obtain⟨K,F,ac⟩:=aB e;have ec:G (H p)<=G (H W2):=by have:=B.size;have:=g.size;omega
  obtain⟨bq,cE,HV,r,C,dk⟩:=kD bc an X e o g;clear an X e o g bc;subst ac;by_cases hq:(z c:Y)+1=a;case' pos=>have ei:((z c:Y)+1==a)=bX:=by simpa using hq
  case' neg=>have ei:((z c:Y)+1==a)=bF:=by simpa using hq
  all_goals
   gi_wp2_with(first
    |(gi_at_builtin;refine ez _ rfl (.tmp 21) (.tmp 25) 37 rfl (G (H p)) 68 i0 (.agg #[.string ⟨#[]⟩,.string ⟨#[]⟩]) 2 32 underlying37 ef eo eq es rfl (by decide) (.slice K (z c) F) (z c) (ik c) rfl (aU r (.cells #[.string xk,.string xv] 68)) (U (G (H W2)) 0) 1 1 (qB (xk,xv)) rfl rfl (OE _ (xk,xv) _) (XS _) (by omega) (by omega) (by simp;omega) ?_;intro v2 w3 s A;obtain⟨x,v,rfl⟩:=aB s;have P:∀fl,fl<=G (H w)+1->¬bY (Value.slice K (z c) F)=M fl:=(λfl hb f=>by have:=(r.lt _ f).1;omega);have y:er w3 (G (H w)+1) (.slice K (z c) F) 37:=(A.grown.block _ (am (HV.alloc (.cells #[.string xk,.string xv] 68))) (λf=>P _ (ai _) f.symm)).trans (HV.alloc _);have ba:er w3 (G (H w)) (.int .i64 a) 3:=(A.grown.block _ (am (bq.alloc (.cells #[.string xk,.string xv] 68))) (λf=>P _ (by omega) f.symm)).trans (bq.alloc _);have eu:=y.cell;have ex:=y.free;have ev:=ba.cell;have fe:=am y;clear y ba P;have dc:=Z s;have dn:=Z A;clear s A))
   have e:=ae r;have co:=ae dn;have el:J (λk=>bY (ah K (z c) F)=M k) W2 w3:=((J.refl (λk=>bY (ah K (z c) F)=M k) W2).alloc<|aw #[aj xk,aj xv] 68).trans (J.dR (S:=λk=>bY (ah K (z c) F)=M k) co.grown<|λk d=>.inl d)<|λk d=>.inl d;have dT:bY (ah x (z c+1) v)=bY (ah K (z c) F)\/∃ds,bY (ah x (z c+1) v)=M ds/\G (H W2)<=ds:=by
    rcases co.uq with bl|⟨ds,bl,hg⟩
    .exact .inl bl
    .exact .inr ⟨ds,bl,by simp at hg;omega⟩
   obtain⟨B',q1,q2,q3⟩:=cE.more HV C e el dT dc;have bu:CA w (G<|H p) E a (c++[(xk,xv)]) B' (ct w3 (U (G (H w)+1) 0)<|ah x (z c+1) v):=by
    unfold CA;rw[EV,af];exact q1
   have g:=ae dk;have au:J (λk=>bd k\/k=lr) W (ct w3 (U (G (H w)+1) 0)<|ah x (z c+1) v):=(g.mono (T:=λk=>bd k\/k=lr)<|λk d=>.inl<|.inr d).trans q2<|λk d=>.inl<|.inl d;have bs:∀k,bd k->k=G (H w)\/k=G (H w)+1\/G (H p)<=k:=λk d=>by
    rcases(C k).1 d with⟨fx,hp,f⟩|f|f
    .rw[bI]at hp;rw[hp]at f;exact .inl f.symm
    .exact .inr<|.inl f
    .exact .inr<|.inr (e.lt k f).1
   have cb:J (λk=>k=b\/k=G (H w)\/k=G (H w)+1) p (ct w3 (U (G (H w)+1) 0)<|ah x (z c+1) v):=B.trans au (λk d=>by
    rcases d with f|f
    .rcases bs k f with bl|bl|bl
     .exact .inl<|.inr<|.inl bl
     .exact .inl<|.inr<|.inr bl
     .exact .inr bl
    .exact .inr (by omega))
   have cn:∀k,(bd k\/k=lr)->k≠b:=λk d f=>by
    rcases d with bl|bl
    .rcases bs k bl with ds|ds|ds<;>omega
    .omega
   have bv:bM (ct w3 (U (G (H w)+1) 0)<|ah x (z c+1) v) b cp 0:=(SG b cp).fq q au<|λk d f=>cn k d f;have bb:(ct w3 (U (G (H w)+1) 0)<|ah x (z c+1) v).heap[lr]?=W2.heap[lr]?:=q2.block lr (by have:=g.size;omega) bt;have br:∀k,B' k->bd k\/G (H W)<=k:=λk d=>(q3 k d).imp_right (λf=>by have:=g.size;omega)
  .exact⟨bv,B',⟨bu,cb,by simp;omega⟩,au,bb,br⟩
  .refine⟨B',⟨rfl,?_,cb,bv⟩,au,bb,br⟩;have ao:cx=c++[(xk,xv)]:=by
    obtain⟨fL,hr⟩:=ae bo;rw[<-ae ax,<-hr,iP (by simp;omega),da (by simp;omega)]
   rw[ao];exact bu
 (case done=>rintro cs bd W bh⟨D,j,eg⟩bg i hK;(have ao:cx=ps:=by rw[<-ae ax];exact da<|by omega);(have D:CA w (G<|H p) E a cx bd W:=by rw[ao];exact D);clear ao;obtain⟨cB,X,e,o⟩:=D.row;have ch:aS W (U (G (H w)+1) 0)=M cB:=X.cell;obtain⟨K,F,ac⟩:=aB e;obtain⟨HC,r,C,q,HK,B⟩:=kD D e o i hK j;clear D X e o i hK j;subst ac;gi_wp2;have hB:=ae C;have n3:¬bY (ah K (z cx) F)=M cs:=λf=>bg<|(hB _).2<|.inr<|.inr f;have u:=gH W cs<|.deferred none;(have bi:cs≠b:=by omega);have bk:bM (W.putObj cs<|.deferred none) b cp 0:=(u.block b (am q)<|λf=>bi f.symm).trans q;refine⟨by simp,.inl ⟨_,_,rfl,run_takeDeferred HK,?_⟩⟩;refine⟨_,gy rfl _ _ _,_,rfl,?_,bp _ _ bf (B.trans u (λk d=>by subst d;exact .inr bh)) bk⟩;have e:=ae r;exact eM (u.own e (λk d f=>by subst f;exact n3 d))<|by omega);(case stop=>rintro cs f c bd W bh⟨rfl,D,j,i⟩bg hK;obtain⟨cB,X,e,o⟩:=D.row;have ch:aS W (U (G (H w)+1) 0)=M cB:=X.cell;obtain⟨K,F,ac⟩:=aB e;obtain⟨HC,r,C,q,HK,B⟩:=kD D e o i hK j;clear D X e o i hK j;subst ac;gi_wp2;have hB:=ae C;have n3:¬bY (ah K (z cx) F)=M cs:=λf=>bg<|(hB _).2<|.inr<|.inr f;have u:=gH W cs<|.deferred none;(have bi:cs≠b:=by omega);have bk:bM (W.putObj cs<|.deferred none) b cp 0:=(u.block b (am q)<|λf=>bi f.symm).trans q;refine⟨by simp,.inl ⟨_,_,rfl,run_takeDeferred HK,?_⟩⟩;refine⟨_,gy rfl _ _ _,_,rfl,?_,bp _ _ bf (B.trans u (λk d=>by subst d;exact .inr bh)) bk⟩;have e:=ae r;exact eM (u.own e (λk d f=>by subst f;exact n3 d))<|by omega)
end
def Gd(w:I)(c:R)(f e:ab)(a:Y)(j:a<=0):cA bG 34 #[aA c,aj f,aj e,aq a] w λi g=>i=aP aG/\J az w g:=by
 have b:J az w (cF (cF w<|aw #[aq a] 3)<|aw #[aG] 37):=(cI az w).alloc _;have d:=Z b;clear b;go_in
 go_wp2;go_ret;exact⟨rfl,d⟩
def De(j i:ab)(c:Y)(u:0<c)(o:bM a b n 0)(s:n.closed=bX):cA bG 34 #[aA b,aj j,aj i,aq c] a λr d=>∃h,r=aP h/\zk a d h []/\bM d b n 0/\J (λk=>k=b) a d:=by
 have g:=am o;refine(Cs a b n j i c [] (λd=>bM d b n 0/\J (λk=>k=b) a d) (λk=>k=b) u g (λk v=>by omega) (λW m _=>?_) rfl (λ_ o=>o.1) ?_ (λ_=>rfl)<|by simp).mono ?_;apply(FB j i ((m.block b g id).trans o) s).mono;rintro r d⟨w,q,p,rfl,t,f,e⟩;exact⟨w,q,p,rfl,t,e,f,(m.mono (T:=λk=>k=b) cN).trans e<|λ_ l=>.inl l⟩;rintro W q⟨_,p⟩e f;refine⟨f,p.trans e ?_⟩;rintro k(l|l|l);exact .inl l;exact .inr (by omega);exact .inr (by omega);rintro r d⟨h,rfl,p,f,e⟩;exact⟨h,rfl,by simpa using p,f,e⟩
def Gc(w v:ab)(d:Y)(P:0<d)(L:bM a b n 0)(k:ST a b n j e i p r s c)(F:n.closed=bF)(E:z (tf n.bj w v 0<|e::bZ i p r s)<=1000000000):cA bG 34 #[aA b,aj w,aj v,aq d] a λN l=>∃y,N=aP y/\zk a l y ((tf n.bj w v 0<|e::bZ i p r s).take d.toNat)/\tL a l b n j e i p r s c:=by
 have f:=am L;refine(Cs a b n w v d _ (λl=>∃g,gq a l n.aN b j g/\(∀x,g.bw n.aN x->j.bw n.aN x)/\g.files=j.files/\g.eU=j.eU/\bM l b n 0) (λx=>j.bw n.aN x\/x=b) P f ?_ (λW C _=>?_) (.inr rfl) (λ_⟨_,_,_,_,_,L⟩=>L) ?_ (λq=>by rw[F]at q;cases q) E).mono ?_;rintro x(q|q);exact k.aN.lt _ q;omega;have h:gq a W n.aN b j j:=⟨k.aN.ay C<|λ_ _=>id,C.mono cN,λ_ q=>.inl q⟩;apply(MT (K:=j) (m:=e) (a:=i) (b:=p) (c:=r) (d:=s) (C:=c) w v ((C.block b f id).trans L) (k.fm f h rfl) F).mono;rintro N l⟨O,D,B,rfl,K,g,u,m,o,A,t,_⟩;exact⟨O,D,B,rfl,K,u.ay,g,h.trans u,A,m,o,t⟩;rintro W Q⟨g,h,D,m,o,O⟩K t;have u:=h.sb k.rI f;refine⟨g,⟨h.ok.ay K ?_,h.ay.trans K ?_,h.bw⟩,D,m,o,t⟩;rintro x q(B|B|B);subst B;exact u q;have:=k.aN.lt _<|D x q;omega;have:=k.aN.lt _<|D x q;omega;rintro x(B|B|B);exact .inl<|.inr B;exact .inr (by omega);exact .inr (by omega);rintro N l⟨y,rfl,u,g,h,A,m,o,t⟩;exact⟨y,rfl,u,g,h,m,o,A,t,k.fm f h<|by rw[m]⟩
def Pf(c:ab)(a:Y)(l b:iI):b<+:wv c a b l:=by
 induction l generalizing b with
 |nil=>exact uR _
 |cons p r d=>
  rw[wv];split
  .exact uR _
  .split
   .exact List.prefix_append _ _
   .exact(List.prefix_append _ _).trans<|d _
def Vu(d:ab)(a:Y)(i:0<a)(l b:iI)(h:(z b:Y)<a):(wv d 0 b l).take a.toNat=wv d a b l:=by
 induction l generalizing b with
 |nil=>
  show b.take a.toNat=b;exact da<|by omega
 |cons p r g=>
  rw[wv,wv];split
  .exact da<|by omega
  .have e:((z b:Y)+1==0)=bF:=by simp;omega
   rw[e];simp only[gV,jT];split
   .rename_i c;have c:(z b:Y)+1=a:=by simpa using c
    obtain⟨t,f⟩:=Pf d 0 r<|b++[p];rw[<-f,iP (by simp;omega),da (by simp;omega)]
   .rename_i c;have c:¬(z b:Y)+1=a:=by simpa using c
    exact g _ (by simp;omega)
def QV(c:Y)(d b:ab)(a:Y)(h:0<a)(e:dX):(tf c d b 0 e).take a.toNat=tf c d b a e:=Vu b a h _ _<|by simpa using h
