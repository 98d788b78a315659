import Derived.Test.YtojeeoclojldpaaGreatDoorC17
import Derived.Test.YtojeeoclojldpaaGreatDoorC18
import Derived.Test.YtojeeoclojldpaaGreatDoorC19
open _root_ renaming List.length→y,Option.some→H,Array.size→z,Go.World.heap→G,Go.Value.ownBlock→bV,Go.World.cell?→aT,Go.World.setCell→bZ,Go.World.alloc→ct,Bool.false→bF,Bool.true→bW,Nat→M,Int→Z,List→cr,Go.Calls→cy,Go.undef→iB,Go.Proofs.Tryz.prog→bG,Go.Value.slice→J,Go.Value.string→ai,Go.Value.bool→aL,Go.Value.tuple→dB,Go.Value.agg→eC
namespace Go.Proofs.YtojeeoclojldpaaGreatDoor
open ChangeShapes WideShapes RowKit Proofs.Tryz
set_option maxHeartbeats 16000000
set_option linter.all false
set_option maxRecDepth 100000
variable{a f C:I}{b c g l:M}{d s N:aa}{e:cA}{k:dW}{m:Z}{n:SR}{o:eI}{w:E}{x:iU}
section
open Go.Shelf
def VQ(x:Z)(w:I):cy bG 267 #[aH x] w λe a=>e=aO (aL bF)/\a=w:=by
 go_in
 go_wp2;go_ret;exact⟨by simp,rfl⟩
def GR(x a:Z)(w:I):cy bG 235 #[aH x,aH a] w λe b=>e=aO (aL<|decide<|x<a)/\b=w:=by
 have h:=VQ x w;go_in
 go_wp2_with(go_at_call 267;refine h.mono ?_;rintro e b⟨rfl,rfl⟩)
 go_ret;exact⟨by simp,rfl⟩
def Qb(g:b+1<y o):((o.set (b+1) o[b]).set b o[b+1]).Perm o:=by
 have d:o=o.take b++o[b]::o[b+1]::o.drop (b+2):=by rw[<-bE (by omega),<-bE (by omega),bX]
 have a:y (o.take b)=b:=by simp;omega
 have e:(o.set (b+1) o[b]).set b o[b+1]=o.take b++o[b+1]::o[b]::o.drop (b+2):=by apply pO;intro i;rw[List.getElem?_set,List.getElem?_set];rcases kB i b with c|c|c;rw[cW (by omega),cW (by omega),gd (by omega),lN c];subst c;rw[dw rfl,dw (by simp;omega),dE (by omega),a];simp;rcases Nat.eq_or_lt_of_le (show b+1<=i by omega)with f|f;subst f;rw[cW (by omega),dw rfl,dw (by omega),dE (by omega),a];simp;rw[cW (by omega),cW (by omega),dE (by omega),a];obtain⟨k,rfl⟩:∃k,i=b+2+k:=⟨i-b-2,by omega⟩;rw[show b+2+k-b=k+2 by omega];simp
 rw[e];conv=>rhs;rw[d]
 exact lz _<|List.Perm.swap _ _ _
def Uk(k i:M)(n:eI)(r:a.ownsRow b 103 1 (bD k 0 (y n) i) (y n) (n.map<|Value.int .u64))(hn:y n<=12):cy bG 229 #[bD k 0 (y n) i,ap 0,ap<|y n] a λao N=>ao=aO (dB #[])/\∃m:eI,m.Perm n/\N.ownsRow b 103 1 (bD k 0 (y m) i) (y m) (m.map<|Value.int .u64)/\Y (λt=>t=k) a N:=by
 obtain⟨L,E⟩:∃L,y n=L:=⟨_,rfl⟩;rw[E]at r hn|-;go_in
 go_wp2;go_loopw [6] (λc wr=>∃(p:M)(m:eI),c=ap p/\1<=p/\y m=L/\m.Perm n/\wr.ownsRow b 103 1 (bD k 0 L i) L (m.map<|Value.int .u64)/\Y (λt=>t=k) a wr) (λc _=>L-(intOf c).toNat)
 case atStart=>exact⟨1,n,rfl,by omega,E,nj _,r,Y.refl _ _⟩
 (case round=>obtain⟨p,m,rfl,ac,d,e,c,f⟩:=hrel;by_cases X:p<L;(·(have S:(p:Z)<(L:Z):=by omega);have j:=U<|And.intro d (And.intro e (And.intro c f));clear d e c f r;go_wp2;(go_loopw [7] (λA c=>∃(B:M)(m:eI),A=ap B/\B<=p/\y m=L/\m.Perm n/\c.ownsRow b 103 1 (bD k 0 L i) L (m.map<|Value.int .u64)/\Y (λt=>t=k) a c) (λA _=>(intOf A).toNat));(case atStart=>exact⟨p,m,rfl,ah _,j.1,j.2.1,j.2.2.1,j.2.2.2⟩);(case round=>obtain⟨B,m,rfl,ad,d,e,c,f⟩:=hrel;rcases fT B with D|D;(.subst D;have g:=U<|And.intro d (And.intro e (And.intro c f));clear d e c f;(go_wp2_with fail);(go_quiet(fail));go_wp2;go_roundw;(case rel=>exact⟨p+1,m,by go_num,by omega,g.1,g.2.1,jb g.2.2.1 rfl,g.2.2.2.of_heap rfl⟩);case measure=>simp[intOf];omega);(.obtain⟨q,rfl⟩:∃q,B=q+1:=⟨B-1,by omega⟩;obtain⟨_,⟨P,_⟩|⟨b',K,C,P,w,v⟩⟩:=dH c;cases P;cases P;have c1:=v (q+1) (aH<|m[q+1]'(by omega)) (by rw[dz,aG<|by omega];rfl);have Q:=v q (aH<|m[q]'(by omega)) (by rw[dz,aG<|by omega];rfl);simp only[cQ]at Q c1;have W:=(c.lt k rfl).2;(have l:∀A,wr.frozen? (R k A)=bF:=by intro A;obtain⟨T,s⟩:=fD c (k:=k) rfl;exact dK s);have f1:=l<|q+1;have f0:=l q;have O:=U (show∀s,(s=bZ (bZ wr (R k<|q+1)<|aH<|m[q]'(by omega)) (R k q) (aH<|m[q+1]'(by omega)))->∃o:eI,y o=L/\o.Perm n/\s.ownsRow b 103 1 (bD k 0 L i) L (o.map<|Value.int .u64)/\Y (λt=>t=k) a s from by rintro s rfl;refine⟨(m.set (q+1) m[q]).set q m[q+1],by simpa using d,(Qb<|by omega).trans e,?_,(f.setCell _ _ _<|.inl rfl).setCell _ _ _<|.inl rfl⟩;have u:=(World.ownsRow.stored (World.ownsRow.stored c (q+1)<|aH<|m[q]'(by omega)).1 q<|aH<|m[q+1]'(by omega)).1;rw[nH,nH];exact u);have g:=U<|And.intro d (And.intro e (And.intro c f));have F:L<=i:=w;(have e2:(q:Z)+1<(L:Z):=by omega);(have e3:(q:Z)<(L:Z):=by omega);(have e4:(0:Z)<(q:Z)+1:=by omega);(have e5:(0:Z)<=(q:Z):=by omega);(have al:q+1<y m:=by omega);generalize m[q+1]=x at*;generalize m[q]'(by omega)=au at*;clear d e c f v l;by_cases an:x<au;(·(go_wp2_with fail);(go_quiet(first|(go_at_call 235;refine Calls.quiet_of_same (GR _ _ _))));(go_wp2_with fail);(go_region);go_wp2;go_roundw;(case rel=>obtain⟨o,u,s,T,V⟩:=O _ rfl;exact⟨q,o,by go_num,by omega,u,s,jb T rfl,V.of_heap rfl⟩);case measure=>simp[intOf]);(·(go_wp2_with fail);(go_quiet(first|(go_at_call 235;refine Calls.quiet_of_same (GR _ _ _))));go_wp2;go_roundw;(case rel=>exact⟨p+1,m,by go_num,by omega,g.1,g.2.1,jb g.2.2.1 rfl,g.2.2.2.of_heap rfl⟩);case measure=>simp[intOf];omega))));(have S:¬((p:Z)<(L:Z)):=by omega);have j:=U<|And.intro d (And.intro e (And.intro c f));clear d e c f r;go_wp2;go_end0;exact⟨rfl,m,j.2.1,by rw[(ae j).1];exact j.2.2.1,j.2.2.2⟩)
def Ul(l:eI)(e:a.ownsRow b 103 1 d (y l) (l.map<|Value.int .u64))(t:y l<=12):cy bG 229 #[d,ap 0,ap<|y l] a λv g=>v=aO (dB #[])/\∃m:eI,m.Perm l/\g.ownsRow b 103 1 d (y m) (m.map<|Value.int .u64)/\Y (λw=>bV d=H w) a g:=by
 rcases e.2 with⟨rfl,n⟩|⟨x,c,k,rfl,p,A,u,q,r,f⟩;(.obtain rfl:=aQ n;(go_in);go_wp2;refine ld 1 ?_;rw[gX];go_wp2;go_end0;exact⟨rfl,[],nj _,e,Y.refl _ _⟩);apply(Uk x c l e t).mono;rintro v g⟨rfl,m,i,j,o⟩;refine⟨rfl,m,i,?_,o.mono<|λw s=>.inl (by rw[s];rfl)⟩;rw[i.length_eq]at j|-;exact j
def TB(l:eI)(k:Z)(c:a.ownsRow b 103 1 d (y l) (l.map<|Value.int .u64))(i:y l<=12):cy bG 190 #[d,ap 0,ap<|y l,ap k] a λn e=>n=aO (dB #[])/\∃m:eI,m.Perm l/\e.ownsRow b 103 1 d (y m) (m.map<|Value.int .u64)/\Y (λk=>bV d=H k) a e:=by
 have h:=Ul l c i;obtain⟨x,p,j⟩:=aC c;have o:(y l:Z)<=12:=by omega
 subst j;clear c;go_in
 go_wp2;refine ld 1 ?_;rw[gX];go_wp2_with fail
 apply h.mono;rintro n e⟨rfl,f⟩;have g:=U f;clear f;go_wp2;refine cI (iP rfl _ _ _) rfl ?_;exact⟨rfl,g⟩
def Rp(n:M)(c:n<=4)(w:I):cy bG 239 #[aH n] w λe b=>(∃k,e=aO (ap k))/\b=w:=by
 have a:n=0\/n=1\/n=2\/n=3\/n=4:=by omega
 rcases a with rfl|rfl|rfl|rfl|rfl;(all_goals(go_in);go_wp2;go_ret;exact⟨⟨_,rfl⟩,rfl⟩)
def VZ(n:M)(b:n<=4)(w:I):cy bG 191 #[aH n] w λe a=>(∃k,e=aO (ap k))/\a=w:=by
 have h:=Rp n b w;go_in
 go_wp2_with(go_at_call 239;refine h.mono ?_;rintro e a⟨⟨k,rfl⟩,rfl⟩)
 go_wp2;go_ret;exact⟨⟨_,rfl⟩,rfl⟩
def Qn(l:eI)(e:a.ownsRow b 103 1 d (y l) (l.map<|Value.int .u64))(m:y l<=4):cy bG 130 #[d] a λi c=>i=aO (dB #[])/\∃o:eI,o.Perm l/\c.ownsRow b 103 1 d (y o) (o.map<|Value.int .u64)/\Y (λk=>bV d=H k) a c:=by
 have h:=λk=>TB l k e (by omega);have j:=VZ (y l) m a;obtain⟨x,q,n⟩:=aC e;subst n;clear e;go_in
 go_wp2_with fail
 apply j.mono;rintro i c⟨⟨k,rfl⟩,p⟩;subst c;go_wp2_with fail
 apply(h k).mono;rintro i c⟨rfl,f⟩;have g:=U f;clear f;go_wp2;go_end0;exact⟨rfl,g⟩
def Ki{bm b:M}(u:fI){w:I}(x:dV w bm (.map<|H b) 108)(A:ju w b u)(q:wY u o)(C:y o<=4):cy bG 82 #[.func (.func 131) #[] #[aA bm]] w λv t=>
 ∃i,∃s:eI,v=aO i/\s.Perm o/\t.ownsRow (z<|G w) 103 1 i (y s) (s.map<|Value.int .u64)/\Y (λk=>k=bm) w t:=by
 have h:=Jr u x A q<|by omega
 go_in
 go_wp2_with fail
 apply h.mono
 rintro v K⟨i,s,rfl,m,g,r⟩
 have B:=Qn s g (by have:=m.length_eq;omega)
 have c:∀k,bV i=H k->z (G w)<=k:=λk n=>(aI g k n).1
 obtain⟨F,E,p⟩:=aC g
 have a:=U<|And.intro m r
 have l:=U c
 clear m g r c
 subst p
 go_wp2_with fail
 apply B.mono
 rintro v L⟨rfl,D,d,e,f⟩
 have j:=U<|And.intro d (And.intro e f)
 clear d e f
 go_wp2
 go_ret
 exact⟨_,D,rfl,j.1.trans a.1,j.2.1,a.2.trans j.2.2<|λk n=>.inr<|l k n⟩
end
section
open Go.Shelf
abbrev fS:=cr<|M×M
def AM(a:fS):fI:=a.map<|λp=>((p.1:Z),aH (p.2:Z))
def so(a:fS):eI:=a.map<|λp=>(p.2:Z)
def VA(a:fS):wY (AM a) (so a):=by simp[wY,AM,so]
def oI(a:fS):y (so a)=y a:=by simp[so]
def Vi{c:eI}(h:o.Perm c)(p:Z->Bool):o.any p=c.any p:=by
 rw[wl,iY,iY];exact⟨λ⟨x,a,b⟩=>⟨x,h.mem_iff.1 a,b⟩,λ⟨x,a,b⟩=>⟨x,h.mem_iff.2 a,b⟩⟩
def NF{a:eI}(h:o.Perm a)(p:Option E)(e:E):po o p e=po a p e:=by
 cases p with
 |none=>rfl
 |some q=>unfold po;simp only[Vi h]
def En{a:eI}(h:o.Perm a):∀(l:cA)(p:Option E),kN o p l=kN a p l
 |[],_=>rfl
 |e::r,p=>by rw[kN,kN,NF h,En h r]
def Em{a:eI}(h:o.Perm a)(l:cA):eE o l=eE a l:=En h l none
def JU(v:Option M)(w:I):cy bG 83 #[.map v] w λe a=>e=aO (.func (.func 131) #[] #[aA<|z<|G w])/\a=ct w (ar #[.map v] 108):=by
 go_in
 go_wp2;go_ret;exact⟨rfl,rfl⟩
def rA{c b:M}(f:fS)(h:bL a c n m)(q:n.lT=H b)(i:ju a b (AM f))(u:y f<=4):cy bG 50 #[aA c] a λt r=>∃l,∃k:eI,t=aO l/\k.Perm (so f)/\r.ownsRow (z<|G a) 103 1 l (y k) (k.map<|Value.int .u64)/\Y aB a r:=by
 have s:aT a (R c 16)=H (.map<|H b):=by rw[<-q];exact h.cell rfl
 have e:=(Y.refl aB a).alloc<|ar #[.map<|H b] 108;have j:=Ki (bm:=z<|G a) (b:=b) (AM f) (w:=(ct a<|ar #[.map<|H b] 108)) (aD _ rfl) (i.de<|e.block _ i.lt id) (VA f) (by rw[oI];exact u);clear h q i;go_in
 go_wp2_with fail
 apply(JU _ _).mono;rintro t w⟨rfl,v⟩;subst w;go_wp2_with fail
 apply j.mono;rintro t C⟨l,x,rfl,o,g,p⟩;obtain⟨B,A,rfl⟩:=aC g;have d:=U<|And.intro o (And.intro g p);clear o g p;go_wp2;go_ret;exact⟨_,x,rfl,d.1,eQ d.2.1 (by simp),e.trans d.2.2<|λm a=>.inr<|by omega⟩
def AT(f:M)(ad:SR)(u:Z)(v:fS)(C:aa)(Q:cA)(h:bL a f ad u)(V:ad.lT=H b)(F:ju a b (AM v))(h4:y v<=4)(E:kw a ad.memory e)(p:∀u,bV ad.memory=H u->u<z (G a))(D:kw a C Q)(o:∀u,bV C=H u->u<z (G a))(r:dQ e)(hl:y e+y Q<=1000000):cy bG 72 #[aA f,C] a λac X=>∃W,ac=aO W/\X.ownsRow (z<|G a) 164 4 W (y<|eE (so v)<|fB e Q) (aF<|eE (so v)<|fB e Q)/\Y aB a X:=by
 have S:=bL.cellAt h 7 rfl;have m:=SM E D r (by omega) p o;obtain⟨x1,n1,t⟩:=bM E;obtain⟨x2,n2,K⟩:=bM D;have HM:=U<|λ(P:I)(c:Y aB a P)=>rA (b:=b) v (h.aw c id) V (F.de<|c.block _ F.lt id) h4;rw[t]at S m;clear h V F E p D o t;subst K;go_in
 go_wp2_with fail
 apply m.mono;rintro ac P⟨v1,rfl,i,k⟩;have q:=HM P k;obtain⟨y1,d1,L⟩:=aC i;have w:=U i;have A:=U k;clear i k m S;subst L;go_wp2_with fail
 apply q.mono;rintro ac w2⟨v2,ms,rfl,T,d,l⟩;have c:=l.own w<|λ_ _ a=>a;have g:=zo ms (dH c) (r.fB Q) (aE (wW e Q) hl) (dH d) (by have:=T.length_eq;rw[oI]at this;omega) (λu a=>(aI c u a).2)<|λu a=>(aI d u a).2;rw[Em T]at g;obtain⟨y2,d2,N⟩:=aC d;have n:=U<|A.ci l;clear d l c q;subst N;go_wp2_with fail
 apply g.mono;rintro ac w3⟨v3,rfl,j,s⟩;obtain⟨y3,d3,O⟩:=aC j;have x:=U<|eQ (base':=z<|G a) j n.size;have B:=U<|n.ci s;clear j s g;subst O;go_wp2;go_ret;exact⟨_,rfl,x,B⟩
def oV:fS->Z->Option M
 |[],_=>none
 |p::r,n=>if(p.1:Z)=n then H p.2 else oV r n
def OX(n:Z):∀b:fS,(AM b).get n=(oV b n).map (λc:M=>aH c)
 |[]=>rfl
 |p::r=>by
  have a:=OX n r;unfold AM at a|-;rw[aY,fI.get,oV];split
  .rfl
  .exact a
def uq(j:Z)(h:bL a b n m)(f:n.closed=bW):cy bG 48 #[aA b,ap j] a λi g=>i=aO (dB #[aH 0,lE 6])/\Below (z<|G a) a g:=by
 have c:=iZ h;rw[f]at c;simp only[je]at c;have d:lE 6=.iface 55 (ap 6):=rfl;rw[d]at c|-;clear h;go_in
 go_wp2_with fail
 apply c.mono;rintro i k⟨rfl,e⟩;go_wp2;go_ret2
 exact⟨rfl,e⟩
def rB(p:Z)(g:fS)(h:bL a b n m)(v:n.closed=bF)(t:n.lT=H c)(k:ju a c (AM g)):cy bG 48 #[aA b,.int .i64 p] a λs q=>s=.returned (match oV g p with|some B=>.tuple #[.int .u64 (B:Z),.nilIface]|none=>.tuple #[.int .u64 0,lE 5])/\Below (z<|G a) a q:=by
 have l:=iZ h;rw[v]at l;simp only[im,kg]at l;obtain⟨C,j,o,w,x⟩:=cz Pq
 have i:=U (show∀d,Below (z<|G a) a d->aT d (R b 16)=H (.map<|H c)/\(Instr.lookup 108 (.map<|H c) (ap p) bW).run bG d=.ok (dB #[((oV g p).map (λc:M=>aH c)).getD<|aH 0,aL ((oV g p).map (λc:M=>aH c)).isSome]) d fromλd e=>by
  refine⟨?_,?_⟩
  .rw[<-t];exact(h.aw (Y.aW (S:=aB) e) id).cell rfl
  .rw[<-OX];exact VG underlying108 underlying3 j o (k.de (e.block _ k.lt)) p)
 clear h t k;have f:cy bG 41 #[aA b] a λs q=>s=aO .nilIface/\Below (z<|G a) a q:=l;have u:lE 5=.iface 55 (ap 5):=rfl;rw[u];cases hg:oV g p with
 |none=>
  rw[hg]at i;clear hg;go_in
  go_wp2_with fail
  apply f.mono;rintro s d⟨rfl,e⟩;obtain⟨A,r⟩:=i d e;simp only[Option.map_none,uB,Option.isSome_none]at r;go_wp2;go_ret2
  exact⟨rfl,e⟩
 |some B=>
  rw[hg]at i;clear hg;go_in
  go_wp2_with fail
  apply f.mono;rintro s d⟨rfl,e⟩;obtain⟨A,r⟩:=i d e;simp only[Option.map_some,gU,Option.isSome_some]at r;go_wp2;go_ret2
  exact⟨rfl,e⟩
end
def iD(n:Z)(l:cA):eI:=le 8 n++((y l:Z)::l.flatMap nL)
def CL(n:Z)(l:cA):eI:=iC (le 4 (y<|iD n l)++le 4 (mr<|iD n l))++iD n l
def Cc(h:w.Good):y (nL w)<=35:=by
 have:=tZ h;unfold Bz at this;rw[af]at this;omega
def pu{l:cA}(h:∀x∈l,x.Good):y (l.flatMap nL)<=35*y l:=by
 induction l with
 |nil=>simp
 |cons x r c=>
  have a:=Cc (h x<|by simp);have d:=c (λa b=>h a<|by simp[b]);rw[dI,af,ay];omega
structure WC(w0 w:I)(hv bv:aa)(hs bs:eI):Prop where
 head:eH w (z<|G w0) hv hs
 body:eH w (z<|G w0) bv bs
 ne:∀k,bV hv=H k->bV bv≠H k
 aw:Y aB w0 w
def WC.wrote{e c:eI}(h:WC a f d s o e)(j:eP f C d N)(m:eH C (z<|G a) N c):WC a C N s c e:=by
 have i:=Y.fy j;refine⟨m,i.own h.body<|λk b p=>h.ne k p b,λk b g=>?_,h.aw.trans i<|λk b=>.inr (h.head.lt k b).1⟩;rcases j.uc with l|⟨n,l,q⟩;exact h.ne k (l.symm.trans b) g;rw[l]at b;cases b;have:=(h.body.lt _ g).2;omega
def Nt(l:cA)(av a bo:M)(w:I)(hT:Steps w)(hg:av<z (G w))(hc:∀cu cs,(aF l)[cu]?=H cs->aT w (R av<|a+cu)=H cs)(k:0<y l)(c:∀an∈l,an.Good)(hl:y l<=8):cy bG 123 #[bD av a (y l) bo] w λau w'=>∃v',au=aO v'/\eH w' (z<|G w) v' (CL (l[0]'k).bI l)/\Y aB w w':=by
 obtain⟨i0,bu,ch,cj,ck⟩:=cz qh;have u:=c _<|aq k;have cp:=pu c;have bp:aT w (R av<|a+3)=H (aH (l[0]'k).bI):=by have:=hc _ _ (ez l 0 k).2.2.2;simpa using this
 obtain⟨r,hn⟩:∃r,(l[0]'k).bI=r:=⟨_,rfl⟩;have K:=u.b0;have L:=u.b1;rw[hn]at K L bp|-;have bT:=pa (baseqq:=z<|G w) (v:=aK) (bs:=[]) r (w:=w) (eH.nil _ _) (ah _) (by simp) K L;have e1:IntKind.u8.wrap (y l:Z)=y l:=by rw[IntKind.wrap_u8];omega
 obtain⟨HC,HG,HT⟩:=dC hc c hT;clear hc c u hn hT;go_in
 go_wp2_with fail
 apply bT.mono;rintro au w1⟨v1,rfl,A,X⟩;have C:Y aB w w1:=(Y.fy X).mono (λax g=>by simp[bV]at g);have bx:=tU (z<|G w) v1 ([]++le 8 r) (y l:Z) w1 A C.size (by simp[bY]);have bd:=U A;have bk:=U C;clear A C X;go_wp2_with fail
 apply bx.mono;rintro au w2⟨v2,rfl,N,ac⟩;have bl:=U<|bk.trans (Y.fy ac)<|λax g=>.inr (bd.lt ax g).1;have bf:=U N;clear N ac;go_wp2;go_loopw [3,19] (λo i wr=>∃m:M,m<=y l/\i=ap m/\eH wr (z<|G w) o (le 8 r++((y l:Z)::(l.take m).flatMap nL))/\Y aB w wr) (λ_ i _=>y l-(intOf i).toNat)
 case atStart=>exact⟨0,bA _,rfl,by simpa using ae bf,bl⟩
 case round=>
  obtain⟨m,hm,rfl,b,d⟩:=hrel;have cd:=d.size;by_cases q:m<y l
  .have j:=HG l[m]<|aq q;have e:=ez l m q;have D:aT wr (R av<|a+m*4)=H (ai l[m].key):=d.cell (HC _ _ e.1) id hg;have F:aT wr (R av<|a+m*4+1)=H (ai l[m].val):=d.cell (by rw[aV];exact HC _ _ e.2.1) id hg;have O:aT wr (R av<|a+m*4+2)=H (aL l[m].del):=d.cell (by rw[aV];exact HC _ _ e.2.2.1) id hg;have P:aT wr (R av<|a+m*4+3)=H (aH l[m].bI):=d.cell (by rw[aV];exact HC _ _ e.2.2.2) id hg;have o:y (le 8 r++((y l:Z)::(l.take m).flatMap nL))<=1000:=by
    have Q:=pu (l:=l.take m)<|λan hx=>HG an<|eB hx;have S:y (l.take m)<=8:=by simp;omega
    rw[af,ay,bY];omega
   have B:=U (show(le 8 r++((y l:Z)::(l.take m).flatMap nL))++nL l[m]=le 8 r++((y l:Z)::(l.take<|m+1).flatMap nL)from by
    rw[aj q,fZ];simp)
   clear e;generalize l[m]=an at*;have f:=Ph (z<|G w) u3 (le 8 r++((y l:Z)::(l.take m).flatMap nL)) an (ct wr<|ar #[ai an.key,ai an.val,aL an.del,aH an.bI] 164) (b.alloc _) (by simp;omega) (by omega) (by have:=j.LD;omega) (by have:=j.val;omega);generalize(le 8 r++((y l:Z)::(l.take m).flatMap nL))=cn at*;have x:=b.lt;have s:=U d;clear b d j o;obtain⟨W,xv,V,T⟩:=an;simp only at D F O P f;unfold E.value at f;simp only at f;go_wp2_with fail
   apply f.mono;rintro au w3⟨v3,rfl,n,i⟩;have p:=U n;have t:=U i;clear n i;go_wp2;go_roundw;case rel=>
    refine⟨m+1,q,by go_num,by rw[<-ae B];exact p,?_⟩;exact(s.alloc _).trans (Y.fy t)<|λax g=>.inr (x ax g).1
   case measure=>simp[intOf];omega
  .have bv:m=y l:=by omega
   subst bv;rw[bP]at b;have bq:y (iD r l)<=1000:=by unfold iD;rw[af,ay,bY];omega
   have s:0<y (iD r l):=by unfold iD;rw[af,bY];omega
   have f:eH wr (z<|G w) u3 (iD r l):=b;obtain⟨bg,bc,ce,_,_,_⟩:=um f s;subst ce;obtain⟨e,j⟩:∃e,y (iD r l)=e:=⟨_,rfl⟩;have F:=U (show CL r l=iC (le 4 (e:M)++le 4 (mr<|iD r l))++iD r l by rw[<-j];rfl);rw[j]at bq s;have ca:=jv (baseqq:=z<|G w) (v:=aK) (bs:=[]) (e:M) (w:=wr) (eH.nil _ _) cd (by simp) (by omega) (by omega);have e2:IntKind.u32.wrap (e:Z)=e:=sL (by omega) (by omega);have HO:=U f;have bm:=U d;rw[j];have p:=U j;clear b f d j;generalize iD r l=ao at*;go_wp2_with fail
   apply ca.mono;rintro au w3⟨v3,rfl,n,i⟩;have hA3:WC w w3 v3 (bD bg 0 e bc) ([]++le 4 (e:M)) ao:=by
    have V:Y aB wr w3:=(Y.fy i).mono (λax g=>by simp[bV]at g);have S:eH wr (z<|G w) (bD bg 0 e bc) ao:=by have:=ae HO;rw[ae p]at this;exact this
    refine⟨n,V.own S<|λ_ _ cv=>cv,λax g hb=>?_,bm.ci V⟩;rcases i.uc with co|⟨cm,co,hy⟩
    .rw[co]at g;cases g
    .rw[co]at g;cases g;have:=(S.lt _ hb).2;omega
   have B:∀W,Y aB w W->Steps W:=λW a=>HT.below (a.below (ah _) cG) HT.lt;have cc:=sk (bD bg 0 e bc) ao w3 (B _ hA3.aw) (eH.bytes hA3.body) (by rw[ae p];omega);have t:=U hA3;have bi:=U B;clear hA3 n i B;go_wp2_with fail
   apply cc.mono;rintro au w4⟨rfl,D⟩;subst w4;have bs:=zx ao;have br:=BC ao;have T:=jv (mr ao) t.head t.aw.size (by simp[bY]) bs br;generalize mr ao=cB at*;go_wp2_with fail
   apply T.mono;rintro au w4⟨v4,rfl,O,D⟩;have hA4:=t.wrote D O;have cb:=DF (bi _ hA4.aw) hA4.head hA4.aw.size (by simp[bY]);have ba:=U hA4;clear O D hA4;go_wp2_with fail
   apply cb.mono;rintro au w5⟨v5,rfl,P,ad⟩;have hA5:=ba.wrote ad P;have x:y ((([]++le 4 (e:M))++le 4 cB)++le 4 (mr<|([]++le 4 (e:M))++le 4 cB))=12:=by simp[bY]
   obtain⟨hx,bt,W⟩:=aC hA5.head;rw[x]at W;subst W;have cl:=hA5.aw.size;have o:=U hA5;have bb:=U x;clear P ad hA5 x;go_wp2_with(first
    |(at_builtin;go_loud(refine bS _ rfl (.tmp 36) (.tmp 37) 126 rfl (z (G w)) 5 i0 (.int .u8 0) 1 1 underlying126 bu ch cj ck rfl (by decide) (.slice hx 12 bt) 12 (((([]++le 4 (e:M))++le 4 cB)++le 4 (mr (([]++le 4 (e:M))++le 4 cB))).map (Value.int .u8)) rfl (by have h0:=o.head;unfold eH at h0;rw[ae bb]at h0;exact h0) (R bg 0) e bc (ao.map (Value.int .u8)) rfl (by rw[cU,ae p,rf]) (tu (eH.bytes o.body)) (by intro cs hu;simp only[aZ]at hu;obtain⟨cm,_,rfl⟩:=hu;rfl) (by omega) (by omega) cl ?_;intro v6 w6 Q al;have bh:=U Q;have bn:=U al;clear Q al)))
   go_ret;refine⟨_,rfl,?_,o.aw.trans (Y.fy bn)<|λax g=>.inr (o.head.lt ax g).1⟩;rw[ae F];refine eH.of bh ?_ ?_
   .rw[af,gu,ae p,af,bY,bY]
   .unfold iC;simp
def Ll(P a c bm:M)(B b:eI){w:I}(hT:Steps w)(bq:0<y B)(hB:y B<=100000)(hR:y b<=1000000000)(hL:bm=12+y B+y b)(bs:bm<=c)(cc:c<=9223372036854775807)(hb:Bytes w (bD P a bm c) (iC (le 4 (y B)++le 4 (mr B))++B++b)):cy bG 156 #[bD P a bm c] w λal w'=>∃bl bu,al=aO (dB #[bD P (a+12) (y B)<|c-12,bD P bl (y b) bu,aL bW])/\y b<=bu/\bu<=9223372036854775807/\Bytes w (bD P (a+12) (y B)<|c-12) B/\Bytes w (bD P bl (y b) bu) b/\Y aB w w':=by
 have E:P<z (G w):=hb.lt (by intro al;have:=bU y al;simp[iC,bY]at this) P rfl;have F:y (iC<|le 4 (y B)++le 4 (mr B))=12:=by simp[iC,bY]
 have k:y (iC (le 4 (y B)++le 4 (mr B))++B++b)=bm:=by rw[af,af,F,hL]
 rw[<-k]at hb;have f:=hb.take (n:=12) (by rw[k];omega);have e:=hb.BA (n:=12) (by rw[k];omega);rw[aU,iI (by omega),cR<|by omega]at f;rw[k,aU,List.drop_append_of_le_length (by omega),pQ (by omega),cC]at e;obtain⟨d,hM⟩:∃d,bm-12=d:=⟨_,rfl⟩;obtain⟨O,hC⟩:∃O,c-12=O:=⟨_,rfl⟩;rw[hM,hC]at e;have A:y (B++b)=d:=by rw[af];omega
 rw[<-A]at e;have o:=e.take (n:=y B) (by simp);rw[pM]at o;have D:=e.BA (n:=y B) (by simp);rw[sG,A]at D
 have bi:=wZ P a c (le 4 (y B)++le 4 (mr B)) hT (by simp[bY];omega) (by simp[bY]) (by
  have:y (le 4 (y B)++le 4 (mr B))+4=12:=by simp[bY]
  rw[this];exact f)
 have bc:y (le 4 (y B)++le 4 (mr B))=8:=by simp[bY]
 rw[bc]at bi;have s:Bytes w (bD P a 8 c) (le 4 (y B)++le 4 (mr B)):=by rw[<-F]at f;have q:=f.take (n:=8) (by omega);(have e8:(iC<|le 4 (y B)++le 4 (mr B)).take 8=le 4 (y B)++le 4 (mr B):=by unfold iC;rw[iI (by omega),cR<|by omega]);rw[e8]at q;exact q
 have C:d-y B=y b:=by omega
 obtain⟨g,j⟩:∃g,y B=g:=⟨_,rfl⟩;obtain⟨RL,l⟩:∃RL,y b=RL:=⟨_,rfl⟩;obtain⟨cB,p⟩:∃cB,mr B=cB:=⟨_,rfl⟩;have v:∀W,Y aB w W->cy bG 188 #[bD P (a+12) g O] W λal w'=>al=aO (dq cB)/\w'=W:=by intro W hW;have q:=hW.below (ah _) cG;rw[<-j,<-p];exact sk _ B W (hT.below q hT.lt) (o.below q (λbr r=>by cases r;exact E))<|by omega
 have ao:=zx B;have au:=BC B;rw[p]at ao au;obtain⟨S,V,ad,bo⟩:=gx s v o D;rw[j,l]at C hL;rw[j]at bq hB;rw[l]at hR;obtain⟨i,T,bp⟩:=dC j l p;have e1:(12:Z)<=(bm:Z):=by omega
 have e2:(bm:Z)<=(c:Z):=by omega
 have e3:¬(bm:Z)<12:=by omega
 have e4:¬(c=12):=by omega
 have e5:¬(c-12=0):=by omega
 have e6:(12:Z)<=(c:Z):=by omega
 have e7:(g:Z)<=(d:Z):=by omega
 have e8:(g:Z)<=(O:Z):=by omega
 have e9:¬((d:Z)<(g:Z)):=by omega
 have bv:IntKind.u64.wrap (g:Z)=g:=by rw[gV];omega
 have bx:IntKind.u64.wrap (d:Z)=d:=by rw[gV];omega
 have bT:(d:Z)<=(O:Z):=by omega
 have bt:∀(ce:Bool)(w:I),(Op.unary .not<|aL ce).run bG w=.ok (aL<|!ce) w:=λ_ _=>rfl;have cb:RL+g<=O:=by omega
 have ca:O<=9223372036854775807:=by omega
 clear hb f e s v o D hT j l p hL k A F bc;rw[ae i,ae T,hC];go_in
 go_wp2_with fail
 apply bi.mono;rintro al N⟨rfl,m⟩;have bg:Y aB w N:=Y.aW m;have bb:=mR (S.below m (λbr r=>by cases r;exact E)) (by intro br r;cases r;exact ag E m.size);have X:=U bg;clear m bg;go_wp2_with fail
 apply bb.mono;rintro al w2⟨rfl,t,L⟩;have bh:Y aB N w2:=by rw[L];exact(Y.refl _ N).alloc _
 have cd:z (G N)<z (G w2):=by rw[L];simp
 have bk:=rX (z<|G N) (g:M) (le 4<|mr B) w2 (by rw[<-ae i];exact t) (kA.le 4 _) (by simp[bY]) (by omega) (by omega);have bn:=U bh;clear t L bh bb;go_wp2_with fail
 apply bk.mono;rintro al w3⟨rfl,u,av⟩;have x:=rX (z<|G N) cB [] w3 (by rw[<-ae bp];simpa using u) (by intro ce hx;cases hx) (by simp) ao au;have ax:=U av;clear u av bk;go_wp2_with fail
 apply x.mono;rintro al Q⟨rfl,bd,ba⟩;have K:Y aB w Q:=by have h3:Y (λbr=>br=z (G N)) w2 Q:=(fg ax).trans (fg ba)<|λ_ h=>.inl h;exact(X.ci bn).trans h3<|λbr r=>.inr (by have:=X.size;omega)
 have bf:∀W,W.heap=Q.heap->W.os=Q.os->W.tape=Q.tape->W.output=Q.output->cy bG 188 #[bD P (a+12) g O] W λal w'=>al=aO (dq cB)/\w'=W:=λW b c h3 d=>V W (K.of_heap<|by rw[b,c,h3,d]);have ac:=U K;clear bd ba x K;by_cases an:O=g;(·(obtain rfl:RL=0:=by omega);(obtain rfl:d=O:=by omega);subst an;clear C;(go_wp2_with fail);(go_quiet(first|(go_at_call 188;refine Calls.quiet_of_same (bf _ rfl rfl rfl rfl))));go_wp2;(go_ret3);refine⟨a+12,0,rfl,ah _,by omega,?_,?_,ac.of_heap rfl⟩;have h:=ae ad;rw[ae i]at h;exact h;obtain rfl:=aQ T;exact .inr ⟨P,a+12,0,rfl,ah _,λbr r=>absurd r<|gG br⟩);(have q:¬(O-g=0):=by omega);have d2:¬(O=g):=an;(go_wp2_with fail);(go_quiet(first|(go_at_call 188;refine Calls.quiet_of_same (bf _ rfl rfl rfl rfl))));go_wp2;(go_ret3);refine⟨a+12+g,O-g,rfl,by omega,by omega,?_,?_,ac.of_heap rfl⟩;have h:=ae ad;rw[ae i]at h;exact h;have h:=ae bo;rw[ae i,C]at h;exact h
structure WR(w0 w:I)(rb:M)(l:cA)(o:aa)(m:M):Prop where
 own:w.ownsRow (z<|G w0) 164 4 o m (aF<|l.take m)
 rd:Rd w rb ((l.drop m).flatMap nL) bF
 aw:Y aB w0 w
 Tm:z (G w0)<=rb
 wy:∀k,bV o=H k->rb<k
def EL(h:∀x∈e,x.Good):kA (e.flatMap nL):=by
 intro x a;obtain⟨c,b,a⟩:=lZ.1 a;exact Ar (h c b) x a
def Dt(cs k al:M)(l:cA)(bi:Z)(w:I)(hg:∀Q∈l,Q.Good)(hn:∀Q∈l,Q.bI=bi)(cb:0<=bi)(cc:bi<18446744073709551616)(h1:1<=y l)(h8:y l<=8)(hb:Bytes w (bD cs k (y<|iD bi l) al) (iD bi l)):cy bG 157 #[bD cs k (y<|iD bi l) al,aH bi] w λbk w'=>
 ∃a,bk=aO (dB #[a,aL bW])/\w'.ownsRow (z<|G w) 164 4 a (y l) (aF l)/\Y aB w w':=by
 obtain⟨i0,ax,bf,bg,bh⟩:=cz nP
 have ca:=pu hg
 have bT:cs<z (G w):=hb.lt (by unfold iD;intro bk;have:=bU y bk;simp[bY]at this) cs rfl
 have K:=mR hb (by intro o e;cases e;exact bT)
 obtain⟨ac,hN⟩:∃ac,y l=ac:=⟨_,rfl⟩
 obtain⟨BL,an⟩:∃BL,y (iD bi l)=BL:=⟨_,rfl⟩
 rw[an]at K|-
 have cl:∀(Q:Bool)(w:I),(Op.unary .not<|aL Q).run bG w=.ok (aL<|!Q) w:=λ_ _=>rfl
 obtain⟨B,HG,bm⟩:=dC hN hg hn
 rw[hN]at h1 h8
 clear hb hg hn an hN
 go_in
 go_wp2_with fail
 apply K.mono
 rintro bk w1⟨rfl,t,L⟩
 have bd:Y aB w w1:=by rw[L];exact(Y.refl _ w).alloc _
 have cn:z (G w)<z (G w1):=by rw[L];simp
 have r:=EL HG
 have ck:y (l.flatMap nL)<=280:=by rw[ae B]at ca;omega
 have ba:=Ak (z<|G w) bi ((ac:Z)::l.flatMap nL) w1 (by have h:=t;unfold iD at h;rw[ae B]at h;exact h) (by intro Q O;rcases az.1 O with rfl|O;omega;exact r Q O) (by rw[ay];omega) cb cc
 have bt:=U bd
 clear t L bd K
 go_wp2_with fail
 apply ba.mono
 rintro bk w2⟨rfl,u,C⟩
 have au:=Wq (z<|G w) (ac:Z) w2 u r (by omega) (by omega)<|by omega
 have co:=C.size
 have bn:=U C
 clear u C ba
 go_wp2_with fail
 apply au.mono
 rintro bk w3⟨rfl,v,D⟩
 have bs:=U v
 have cp:=D.size
 have bo:=U D
 clear v D au
 have e1:¬((ac:Z)<1):=by omega
 have e2:¬((8:Z)<(ac:Z)):=by omega
 go_wp2_with(first
  |(at_make;go_loud(refine lG _ rfl _ _ 101 rfl (z (G w)) 164 i0 wO 4 underlying101 ax bf bg _ _ _ ac rfl rfl (by omega) (by rw[bh];omega) (by unfold maxLen;omega) (by omega) ?_;intro w4 s p;have bp:=U s;have A:=U p;clear s p)))
 have cB:=A.size
 have hA0:WR w w4 (z<|G w) l (bD (z<|G w3) 0 0 ac) 0:=by
  have a:Y (λo=>o=z (G w)) w1 w3:=(fg bn).trans (fg bo)<|λ_ h=>.inl h;have b:Y aB w w3:=bt.trans a (λo e=>.inr<|by omega);refine⟨bp,bs.laid A,b.ci (Y.dN (S:=aB) A<|by simp),ah _,?_⟩;intro o e;simp[bV]at e;omega
 have bl:=U hA0
 clear hA0
 go_loopw [8,28] (λo i wr=>∃m:M,m<=ac/\i=tC m/\WR w wr (z<|G w) l o m) (λ_ i _=>ac-(intOf i).toNat)
 case atStart=>exact⟨0,bA _,rfl,bl⟩
 case round=>
  obtain⟨m,hm,rfl,d⟩:=hrel;have c:=d.own;obtain⟨ox,oc,ho⟩:=aC c;have cx:=d.aw.size;have cm:=d.rd.lt;have HA:=U d;by_cases bb:m<ac
  .have g:m<y l:=by rw[ae B];exact bb
   have n:=HG l[m]<|aq g;have ao:=bm l[m]<|aq g;have f:=d.rd;rw[bE g,dI]at f;have q:kA ((l.drop<|m+1).flatMap nL):=EL<|λQ O=>HG Q<|di O;have F:y ((l.drop<|m+1).flatMap nL)<=280:=by
    have N:=pu (l:=l.drop<|m+1)<|λQ O=>HG Q<|di O;have h3:y (l.drop<|m+1)<=8:=by simp;rw[ae B];omega
    omega
   have cu:=Cc n;have b:=Gk (z<|G w) ((l.drop<|m+1).flatMap nL) wr f ((Ar n).append q) (by simp only[af];omega) n;have bv:=U (show aF (l.take m)++aF [l[m]]=aF (l.take<|m+1)by rw[<-fO,aj g]);clear d c f q F n;generalize l[m]=Q at*;obtain⟨W,X,V,T⟩:=Q;simp only at b ao;subst ao;unfold E.value at b;simp only at b;subst ho;go_wp2_with fail
   apply b.mono;rintro bk P⟨rfl,bc,av⟩;have i:Y (λo=>o=z (G w)) wr P:=fg av;have j:=aS (aS (i.own HA.own (λo e c=>by have:=HA.wy o e;omega))<|ar #[ai W,ai X,aL V,aH T] 164)<|ar #[ai W,ai X,aL V,aH T] 164;have cv:=i.size;obtain⟨ad,bu,br⟩:=dC j i bc;clear bc av j i;go_wp2_with(first
    |(at_builtin;go_loud(refine bS _ rfl (.tmp 39) (.tmp 41) 101 rfl (z (G w)) 164 i0 wO 4 48 underlying101 ax bf bg bh rfl (by decide) (.slice ox m oc) m (aF (l.take m)) rfl ad (R (z (G P)+1) 0) 1 1 (aF [⟨W,X,V,T⟩]) rfl rfl (yy ⟨W,X,V,T⟩ _ (by simp)) (Bk _) (by omega) (by omega) (by simp;omega) ?_;intro o2 w6 a x;have bq:=U a;have bx:=U x;clear a x)))
   go_roundw;case rel=>
    refine⟨m+1,bb,by go_num,?_⟩;have d:=ae HA;have i:=ae bu;have N:=ae bx;have a:=ae bq;have cd:=d.own.lt;have cj:Y (λo=>bV (J ox m oc)=H o) P w6:=(((Y.refl (λo=>bV (J ox m oc)=H o) P).alloc _).alloc _).trans (Y.fy N)<|λo e=>.inl e;refine⟨by rw[<-ae bv];exact a,?_,(d.aw.trans i<|λo e=>.inr<|by omega).trans cj<|λo e=>.inr (cd o e).1,d.Tm,?_⟩
    .have hr:=ae br;have ce:=hr.laid<|dr P (ar #[ai W,ai X,aL V,aH T] 164) none;have ch:=ce.laid<|dr _ (ar #[ai W,ai X,aL V,aH T] 164) none;exact ch.wrote N d.wy
    .intro o e;rcases N.uc with ce|⟨ch,ce,hy⟩
     .exact d.wy o<|ce.symm.trans e
     .rw[ce]at e;cases e;simp at hy;omega
   case measure=>simp[intOf];omega
  .have j:m=ac:=by omega
   subst j;have g:l.take m=l:=by rw[<-ae B,bP]
   have b:l.drop m=[]:=by rw[<-ae B,gm]
   have f:=d.rd;rw[b]at f;have a:=xN f (by simp);simp only[uG,qF,nk,ug]at a;rw[ho,g]at c;have n:=U c;have i:=U d.aw;clear d c f b g;subst ho;go_wp2_with fail
   apply a.mono;rintro bk P⟨rfl,q⟩;subst P;go_wp2;go_ret2
   exact⟨_,rfl,by rw[ae B];exact n,i⟩
def lO:Z->dW->eI
 |_,[]=>[]
 |f,l::r=>CL f l++lO (f+1) r
structure Fp(f:Z)(ls:dW):Prop where
 jc:∀l∈ls,∀x∈l,x.Good
 num:∀i(hi:i<y ls),∀x∈ls[i],x.bI=f+i
 one:∀l∈ls,1<=y l/\y l<=8
 sum:(ls.map y).sum<32
 f0:0<=f
 f1:f+y ls<18446744073709551616
def Cb{n:Z}(h:∀x∈e,x.Good)(a:y e<=8):y (CL n e)<=400:=by
 have:=pu h;unfold CL iD;simp only[af,gu,bY,ay];omega
def tT{f:Z}{lsqq:dW}(h:∀l∈lsqq,(∀x∈l,x.Good)/\y l<=8):y (lO f lsqq)<=400*y lsqq:=by
 induction lsqq generalizing f with
 |nil=>simp[lO]
 |cons l r b=>
  have a:=Cb (n:=f) (h l<|by simp).1 (h l<|by simp).2;have c:=b (f:=f+1) (λx a=>h x<|by simp[a]);rw[lO,af,ay];omega
def Dw(h:∀l∈k,1<=y l):y k<=(k.map y).sum:=by
 induction k with
 |nil=>simp
 |cons l r b=>
  have a:=h l (by simp);have c:=b (λx a=>h x<|by simp[a]);simp only[ay,aY,iL];omega
def OT(w:I)(b:M)(c:iU)(a:dW):Prop:=y c=y a/\∀i(d:i<y c)(e:i<y a),w.ownsRow b 164 4 c[i] (y a[i])<|aF a[i]
def RE:(prog.info? 101).map (λi=>(i.zero,i.size,i.bytes))=H (H aK,1,24):=by kernel_rfl
structure Mx(w0 w:I)(f:Z)(ls:dW)(b zqq c m:M)(o:aa)(vs:iU):Prop where
 box:w.heap[z (G w0)+1]?=H (ar #[o,aL bF] 199 (0,0))
 KB:w.heap[z<|G w0]?=H (ar #[aK,aL bF] 199 (0,0))
 own:w.ownsRow (z (G w0)+2) 101 1 o m vs
 XM:OT w (z (G w0)+2) vs (ls.take m)
 bytes:Bytes w0 (bD b zqq (y<|lO (f+m)<|ls.drop m) c) (lO (f+m)<|ls.drop m)
 cap:y (lO (f+m)<|ls.drop m)<=c/\c<=9223372036854775807
 aw:Y aB w0 w
def Fx(h:b<y k):((k.take<|b+1).map y).sum=((k.take b).map y).sum+y k[b]:=by
 rw[aj h,aM,gl];simp
def Kc(a:dW)(m:M):((a.take m).map y).sum<=(a.map y).sum:=by
 have h:=bU (λl=>(l.map y).sum)<|bX m a;simp only[aM,gl]at h;omega
def Mx.step{c O w1 w2:I}{W N P z' c' g:M}{v o2 bv:aa}{n:Obj}(w:Mx c O m k W N P g v x)(hm:g<y k)(p:Y aB O w1)(hb:w1.ownsRow (z<|G O) 164 4 bv (y k[g]) (aF k[g]))(Q:w2.ownsRow (z (G c)+2) 101 1 o2 (g+1) (x++[bv]))(hw:eP (ct w1 n) w2 v o2)(D:Bytes c (bD W z' (y<|lO (m+(g+1:M))<|k.drop<|g+1) c') (lO (m+(g+1:M))<|k.drop<|g+1))(E:y (lO (m+(g+1:M))<|k.drop<|g+1)<=c'/\c'<=9223372036854775807):Mx c (bZ w2 (R (z (G c)+1) 0) o2) m k W z' c' (g+1) o2 (x++[bv])/\aT w2 (R (z (G c)+1) 0)=H v/\w2.frozen? (R (z (G c)+1) 0)=bF:=by
 have hz:=ak w.box;have ad:=w.aw.size;have i:=aI w.own;have q:Y (λb=>bV v=H b) w1 w2:=((Y.refl (λb=>bV v=H b) w1).alloc n).trans (Y.fy hw)<|λ_ a=>.inl a;have A:Y (λb=>bV v=H b) O w2:=(p.mono (T:=λb=>bV v=H b) cG).trans q<|λ_ a=>.inl a;have f:∀b,bV v=H b->∃j,O.heap[b]?=H (ar j 101 (0,0)):=λb a=>fD w.own a;have h:w2.heap[z (G c)+1]?=H (ar #[v,aL bF] 199 (0,0)):=(A.block _ hz (λac=>by have:=(i _ ac).1;omega)).trans w.box;have d:Y (λb=>b=z (G c)+1) w2 (bZ w2 (R (z (G c)+1) 0) o2):=(Y.refl _ w2).setCell _ 0 _<|.inl rfl;refine⟨⟨?_,?_,?_,?_,D,E,?_⟩,by rw[bN h];rfl,dK h⟩;have:=aR (i:=0) (u:=o2) h;simpa using this;exact(iq _<|by omega).trans<|(A.block _ (ak w.KB) (λac=>by have:=(i _ ac).1;omega)).trans w.KB;exact d.own Q (λb a P=>by have:=(aI Q b a).1;omega);obtain⟨v1,v2⟩:=w.XM;(have s:y x=g:=by rw[v1];simp;omega);refine⟨by simp[s];omega,λl h1 h2=>?_⟩;(have t:∀(V:I)(an:aa)(al:M)(L:iU),V.ownsRow (z (G c)+2) 164 4 an al L->Y (λb=>bV v=H b) V w2->(∀b,bV v=H b->∃j,V.heap[b]?=H (ar j 101 (0,0)))->(bZ w2 (R (z (G c)+1) 0) o2).ownsRow (z (G c)+2) 164 4 an al L:=by intro V an al L S F K;have r:=F.own S (λb a P=>by obtain⟨j,e⟩:=K b P;obtain⟨X,o⟩:=fD S a;exact io e o (by decide) rfl);exact d.own r (λb a P=>by have:=(aI r b a).1;omega));rcases dF l g with hi|hi;have B:(x++[bv])[l]=x[l]'(by omega):=oo (by omega);(have C:(k.take<|g+1)[l]=(k.take g)[l]'(by simp;omega):=by rw[gq,gq]);rw[B,C];exact t O _ _ _ (v2 l (by omega) (by simp;omega)) A f;(have o:l=g:=by simp at h2;omega);subst o;(have B:(x++[bv])[l]=bv:=by rw[nQ<|by omega];simp[s]);have C:(k.take<|l+1)[l]=k[l]:=gq;rw[B,C];refine t w1 _ _ _ (eQ hb<|by omega) q<|λb a=>?_;obtain⟨j,e⟩:=f b a;exact⟨j,(p.block b (ak e) id).trans e⟩;exact(w.aw.trans A<|λb a=>.inr (by have:=(i b a).1;omega)).trans d<|λb a=>.inr<|by omega
def Kz{c:Func}{p u:Tmp}(j:c.results=#[.cell p 199,.tmp u])(a:Array aa)(w:I)(g:M)(x:Option Addr)(n k:M)(e:Bool)(t:TypeId)(d:M×M)(i:a.getD p iB=aA g)(f:w.heap[g]?=H (ar #[J x n k,aL e] t d)):(results c a).run bG w=.ok (dB #[eC #[J x n k,aL e],a.getD u iB]) w:=by
 have b:a[p]?.getD iB=aA g:=by simpa using i
 have h:=mL (P:=bG) w g t 199 #[J x n k,aL e] d _ f underlying199 rfl (by kernel_rfl);simp[results,j,b,asAddr,h,Result.andThen]
def Bytes.back(n:Bytes f (bD b c g l) o)(j:Y aB a f)(h:b<z (G a)):Bytes a (bD b c g l) o:=by
 rcases n with⟨e,_⟩|⟨k,p,m,e,d,i⟩;cases e;cases e;exact .inr ⟨_,_,_,rfl,d,λk e=>(cH (w:=a)<|j.block _ h id).symm.trans<|i k e⟩
def Td:aa->M
 | .slice _ n _=>n
 |_=>0
def Qo(x:Option Addr)(n c:M):Td (J x n c)=n:=rfl
def QI(f:Z)(a:dW)(m:M)(h:m<y a):lO (f+(m:M)) (a.drop m)=iC (le 4 (y<|iD (f+(m:M)) a[m])++le 4 (mr<|iD (f+(m:M)) a[m]))++iD (f+(m:M)) a[m]++lO (f+((m+1:M):M)) (a.drop<|m+1):=by
 rw[bE h,lO];unfold CL;have:f+(m:M)+1=f+((m+1:M):Z):=by omega
 rw[this]
def IN(bd d n:M)(hT:Steps a)(hP:Fp m k)(P:y (lO m k)<=n)(bs:n<=9223372036854775807)(N:bd<z (G a))(hb:Bytes a (bD bd d (y<|lO m k) n) (lO m k)):cy bG 98 #[bD bd d (y<|lO m k) n,aH m] a λcc w'=>
 ∃dx bc F,cc=aO (dB #[eC #[J dx (y k) bc,aL bF],aL bW])/\w'.ownsRow (z (G a)+2) 101 1 (J dx (y k) bc) (y k) F/\OT w' (z (G a)+2) F k/\Y aB a w':=by
 obtain⟨i0,cu,cE,cM,cT⟩:=cz RE
 have ds:∀(dx:Bool)(a:I),(Op.unary .not<|aL dx).run bG a=.ok (aL<|!dx) a:=λ_ _=>rfl
 have dn:y k<32:=Nat.lt_of_le_of_lt (Dw<|λl S=>(hP.one l S).1) hP.sum
 have eb:=hP.f0
 have ec:=hP.f1
 obtain⟨RL,al⟩:∃RL,y (lO m k)=RL:=⟨_,rfl⟩
 have hA0:Mx a (ct (ct a<|ar #[aK,aL bF] 199)<|ar #[aK,aL bF] 199) m k bd d n 0 aK []:=by
  refine⟨aD _ (by simp),(fX _<|by simp).trans<|aD _ rfl,bK _ _ _ _,⟨rfl,λcd h1=>absurd h1<|gG cd⟩,?_,?_,((Y.refl _ a).alloc _).alloc _⟩
  .simpa using hb
  .simpa using⟨P,bs⟩
 obtain⟨bg,HT,W,cn⟩:=gx hA0 hT hP al
 rw[al]
 clear hA0 hT hP hb P bs al
 go_in
 go_wp2
 go_loopw [0,7] (λbv b wr=>∃j e bf ei F,j<=y k/\bv=bD bd e (y<|lO (m+(j:M))<|k.drop j) bf/\b=ap (((k.take j).map y).sum:M)/\Mx a wr m k bd e bf j ei F) (λbv _ _=>Td bv)
 case atStart=>exact⟨0,d,n,_,_,bA _,by rw[<-ae cn];simp,rfl,bg⟩
 case round=>
  obtain⟨j,e,bf,ei,F,hm,rfl,rfl,c⟩:=hrel;have bb:∀ad,Y aB wr ad->Steps ad:=λad hW=>HT.below ((c.aw.ci hW).below (ah _) cG) HT.lt;obtain⟨s,r,ho⟩:=aC c.own;have v:=cellAt c.box 0 rfl;have ea:=cellAt c.box 1 rfl;have ee:=c.aw.size;have cb:=ak c.box;by_cases p:j<y k
  .have T:=aq p;have B:=W.jc _ T;have C:=W.num j p;have D:=W.one _ T;have E:=Fx p;have bu:=Kc k<|j+1;have cB:=W.sum;have bt:=QI m k j p;have o:=c.bytes;have g:=c.cap;have ba:=tT (f:=m+((j+1:M):Z)) (lsqq:=k.drop<|j+1)<|λl S=>⟨W.jc l<|di S,(W.one l<|di S).2⟩;have cs:y (k.drop<|j+1)<=32:=by simp;omega
   rw[bt]at o g|-;have HA:=U c;obtain⟨l,S⟩:∃l,k[j]=l:=⟨_,rfl⟩;rw[S]at B C D E o g|-;have cj:=U S;obtain⟨q,hq⟩:∃q:Z,m+(j:M)=q:=⟨_,rfl⟩;rw[hq]at C o g|-;have cv:0<=q:=by omega
   have cx:q<18446744073709551616:=by omega
   obtain⟨b,ao⟩:∃b,lO (m+((j+1:M):Z)) (k.drop<|j+1)=b:=⟨_,rfl⟩;rw[ao]at o g ba|-;have cp:y (iD q l)<=1000:=by have:=pu B;unfold iD;rw[af,ay,bY];omega
   have L:0<y (iD q l):=by unfold iD;rw[af,bY];omega
   have t:y (iC (le 4 (y<|iD q l)++le 4 (mr<|iD q l))++iD q l++b)=12+y (iD q l)+y b:=by simp only[af,gu,bY]
   have O:Bytes wr (bD bd e (y<|iC (le 4 (y<|iD q l)++le 4 (mr<|iD q l))++iD q l++b) bf) (iC (le 4 (y<|iD q l)++le 4 (mr<|iD q l))++iD q l++b):=o.below (c.aw.below (ah _) cG) (λbc Q=>by cases Q;exact N);have hcut:=Ll bd e bf _ (iD q l) b (w:=wr) (bb wr<|Y.refl _ _) L (by omega) (by omega) t g.1 g.2 O;have i:=c.own;rw[ho]at i v;have cm:=U i;obtain⟨LL,bo⟩:∃LL,y (iC (le 4 (y<|iD q l)++le 4 (mr<|iD q l))++iD q l++b)=LL:=⟨_,rfl⟩;rw[bo]at hcut t|-;obtain⟨K,A⟩:∃K,y l=K:=⟨_,rfl⟩;obtain⟨BL,x⟩:∃BL,y (iD q l)=BL:=⟨_,rfl⟩;have bm:=U<|λ(ad:I)(hW:Y aB wr ad)(au:Bytes ad (bD bd (e+12) BL<|bf-12) (iD q l))=>Dt bd (e+12) (bf-12) l q ad B C cv cx D.1 D.2 (by rw[x];exact au);have V:∀ad,Y aB wr ad->Bytes ad (bD bd (e+12) BL<|bf-12) (iD q l)->cy bG 157 #[bD bd (e+12) BL<|bf-12,aH q] ad λcc w'=>∃a,cc=aO (dB #[a,aL bW])/\w'.ownsRow (z<|G ad) 164 4 a K (aF l)/\Y aB ad w':=by
    intro ad hW au;have h:=bm ad hW au;rw[x,A]at h;exact h
   have bn:=U V;have ck:=U A;rw[x]at hcut t;obtain⟨RN,an⟩:∃RN,y b=RN:=⟨_,rfl⟩;rw[an]at hcut t ba;rw[A]at E D;obtain⟨S0,bp⟩:∃S0,((k.take j).map y).sum=S0:=⟨_,rfl⟩;rw[bp]at E|-;obtain⟨co,ac,X,HQ⟩:=gx E ao an hq;have dd:(0:Z)<(LL:Z):=by omega
   have a1:IntKind.u64.wrap (j:Z)=j:=by rw[gV];omega
   have a2:IntKind.u64.wrap q=q:=by rw[gV];omega
   have a3:IntKind.i64.wrap ((S0:Z)+(K:Z))=(S0:Z)+K:=by rw[bQ];omega
   have a4:¬((32:Z)<=(S0:Z)+(K:Z)):=by omega
   have a5:m+(j:Z)=q:=hq;have he:∀(b:Addr)(n bc:M)(a:I),(binOp .eql 126 (J (H b) n bc) aK).run bG a=.ok (aL bF) a:=λ_ _ _ _=>rfl;have bh:=U (show RN<LL by omega);clear bb c B C bu cB bt o g ba cs S hq ao cp L t O bo A x V i an bp bm;subst ho;go_wp2_with fail
   apply hcut.mono;rintro cc w1⟨z',c',rfl,g1,g2,bq,br,w⟩;have dk:aT w1 (R (z (G a)+1) 0)=H (J s j r):=w.cell v id cb;have bT:=bn w1 w<|bq.below (w.below (ah _) cG) (λbc Q=>by cases Q;show bd<z (G wr);omega);have bk:=U w;have ch:=U br;clear bq br w hcut;go_wp2_with fail
   apply bT.mono;rintro cc w2⟨bv,rfl,ax,bx⟩;obtain⟨dc,db,rfl⟩:=aC ax;have f:Y aB wr w2:=bk.ci bx;have dm:aT w2 (R (z (G a)+1) 0)=H (J s j r):=f.cell v id cb;have dv:=f.size;obtain⟨bi,cl,bl⟩:=dC (f.own cm<|λ_ _ bf=>bf) (eQ ax bk.size) f;clear ax bx f bT;go_wp2_with(first
    |(at_builtin;go_loud(refine bS _ rfl (.tmp 50) (.tmp 52) 197 rfl (z (G a)+2) 101 i0 aK 1 24 underlying197 cu cE cM cT rfl (by decide) (.slice s j r) j F rfl (aS bi _) (R (z (G w2)) 0) 1 1 [.slice dc K db] rfl rfl (pH _ _ _) (by simp[Value.oneCell']) (by omega) (by omega) (by simp;omega) ?_;intro o2 w3 av ca;obtain⟨hA3,dT,ed⟩:=HA.step (z':=z') (c':=c') (w1:=w2) (w2:=w3) (o2:=o2) (bv:=.slice dc K db) p bl (by rw[ae cj];have h:=ae cl;have cc:=ae ck;rw[<-cc]at h;rw[cc];rw[cc]at h;exact h) av ca (by rw[ae ac];have hh:=ch.back HA.aw N;rw[<-ae X]at hh;exact hh) (by rw[ae ac,ae X];exact⟨g1,g2⟩);obtain⟨eg,ef,rfl⟩:=aC av;have ce:=U hA3;clear av ca hA3)))
   go_roundw;case rel=>exact⟨j+1,z',c',_,_,p,by rw[ae ac,ae X],by rw[ae co];go_num,ce⟩
   case measure=>
    simp only[Qo];exact bh
  .have i:j=y k:=by omega
   have w:k.drop j=[]:=by rw[i,gm]
   have x:k.take j=k:=by rw[i,bP]
   have D:z (G a)<z (G wr):=ak c.KB;have T:=cellAt c.KB 0 rfl;have V:=cellAt c.KB 1 rfl;have X:=dK (i:=0) c.KB;have r3:=dK (i:=1) c.KB;have f:=c.own;have b:=c.XM;have A:=c.aw;have o:=c.KB;rw[ho]at f v;rw[x]at b;rw[i]at f v;rw[w];show Code.wp _ _ _ _ _;have t:=U (show(bZ (bZ wr (R (z<|G a) 0)<|J s (y k) r) (R (z<|G a) 1)<|aL bF).heap[z<|G a]?=H (ar #[J s (y k) r,aL bF] 199 (0,0))/\(bZ (bZ wr (R (z<|G a) 0)<|J s (y k) r) (R (z<|G a) 1)<|aL bF).ownsRow (z (G a)+2) 101 1 (J s (y k) r) (y k) F/\OT (bZ (bZ wr (R (z<|G a) 0)<|J s (y k) r) (R (z<|G a) 1)<|aL bF) (z (G a)+2) F k/\Y aB a (bZ (bZ wr (R (z<|G a) 0)<|J s (y k) r) (R (z<|G a) 1)<|aL bF)from by
    have g:Y (λbc=>bc=z (G a)) wr (bZ (bZ wr (R (z (G a)) 0) (J s (y k) r)) (R (z (G a)) 1) (aL bF)):=((Y.refl (λbc=>bc=z (G a)) wr).setCell (z (G a)) 0 _ (.inl rfl)).setCell (z (G a)) 1 _ (.inl rfl);refine⟨?_,g.own f (λbc Q bf=>by have:=(aI f bc Q).1;omega),⟨b.1,λcd h1 B=>g.own (b.2 cd h1 B) (λbc Q bf=>by have:=(aI (b.2 cd h1 B) bc Q).1;omega)⟩,A.trans g (λbc Q=>.inr (by omega))⟩;have B:=aR (i:=1) (u:=aL bF) (aR (i:=0) (u:=J s (y k) r) o);simpa using B)
   subst i;clear c bb f b A o w x bg W;subst ho;have C:y (lO (m+(y k:M)) [])=0:=rfl;rw[C];go_wp2;obtain⟨E,K,L,O⟩:=ae t;refine cI (Kz rfl _ _ (z<|G a) s (y k) r bF _ _ rfl E) rfl ?_;exact⟨s,r,F,rfl,K,L,O⟩
