import Derived.Test.YtophdnlmpfmeiaaGreatDoorC14
namespace Go.Proofs.YtophdnlmpfmeiaaGreatDoor
open ChangeShapes WideShapes RowKit Proofs.Tryz
set_option maxHeartbeats 16000000
set_option linter.all false
set_option maxRecDepth 100000
def fG.xS{c:List E}(h:fG c)(b:0<c.length){x:E}(e:x∈c):ep (c[c.length-1]'(by omega)).key x.key=false:=by
 obtain⟨i,a,rfl⟩:=dj e;rcases lm (show i<=c.length-1 by omega)with d|d
 ·exact fV (bG.1 h i (c.length-1) a (by omega) d)
 ·subst d;exact eT _
def kA.sX{V:gz}{n o:Nat}{e:List fW}{c:List (List E)}{w:J}(h:kA V n o e c w):e.Pairwise (λq r=>ep q.last r.last=true):=by
 refine bG.2 (λi m j k d=>?_);have a:i<c.length:=by have:=h.len;omega
 have b:m<c.length:=by have:=h.len;omega
 have f:=h.yU i j a;have g:=h.yU m k b;rw[f.last,g.last];have l:=(fU.1 h.li).2;have:=bG.1 l i m a b d;have s:=f.ne;have u:=g.ne;exact this _ (au (by omega)) _ (au (by omega))
def kA.wi{V:gz}{v w:Nat}{g:List fW}{a:List (List E)}{y:J}(q:kA V v w g a y)(c:aa)(k:Nat)(r:∀i(j:i<g.length),i<k->ep g[i].last c=true):((a.drop k).map (eX c)).flatten=eX c a.flatten:=by
 have m:a.flatten=(a.take k).flatten++(a.drop k).flatten:=by rw[<-dl,bF]
 have n:eX c (a.take k).flatten=[]:=by
  unfold eX;rw[gF];intro A u;obtain⟨z,s,f⟩:=bH.1 u;obtain⟨i,j,rfl⟩:=dj s;rw[fi]at f;have b:i<k/\i<a.length:=by simp at j;omega
  have d:i<g.length:=by have:=q.len;omega
  have x:=q.yU i d b.2;have e:fG a[i]:=q.li.sub (cu (au b.2));have h:=r i d b.1;rw[x.last]at h;have l:=e.xS x.ne f;rw[sZ l h];simp
 have o:∀l:List (List E),(l.map (eX c)).flatten=eX c l.flatten:=by
  intro l;induction l with
  |nil=>rfl
  |cons d e b=>simp only[aY,aT,b];unfold eX;rw[iT]
 rw[o,m];unfold eX at*;rw[iT,n,cL]
def zY(V:gz)(i R bt bg j k:Nat)(Q:List fW)(l:List (List E))(x:aa)(w:J)(ac:kA V i R Q l w)(ht:dY w bt (.pointer (some ⟨R,0,none⟩)) 199)(hg:dY w bg (.int .i64 k) 3)(L:dY w j (.string x) 9)(hn:i<=j)(hD:V.D w)(P:i<=w.heap.size)(hF:∀k,V.F k->k<i)(m:Nat)(hi:k+m<Q.length)(hc:k+m<l.length):Calls prog 294 #[.int .i64 m,.pointer (some ⟨bt,0,none⟩),.pointer (some ⟨bg,0,none⟩),.pointer (some ⟨j,0,none⟩)] w λao S=>∃v' X,ao=.returned (.tuple #[v',.nilIface])/\gy V i v' (eX x l[k+m]) X S/\V.D S/\I V.F w S/\(∀k,X k->w.heap.size<=k):=by
 have c1:=ht.cell;have c2:=hg.cell;have c3:=L.cell;have r:=Dt V i R Q l w ac hD P hF (k+m) hi hc;have c:=au hc;have g:fG l[k+m]:=ac.li.sub (cu c);have O:=ac.small _ c;have f:k+m<1000000000:=by
  obtain⟨_,_,_,_,_,_,_,_,_,v,_⟩:=ac.mem;have:=v.small;omega
 have G:=ak L;have N:¬V.F j:=λH=>by have:=hF j H;omega
 have W:=Z g;have U:=Z hF;clear ht hg L ac hD c hF g hi;have t:IntKind.i64.wrap ((k:Int)+(m:Int))=((k+m:Nat):Int):=by rw[bu];omega
 have h:wrap64 ((k:Int)+(m:Int))=((k+m:Nat):Int):=by unfold wrap64;omega
 obtain⟨an,v⟩:∃an,k+m=an:=⟨_,rfl⟩;simp only[v]at r O W t h f|-;have ad:(k:Int)+(m:Int)=(an:Int):=by omega
 generalize l[an]=T at*;clear v t h;go_enter func294,ntmps294
 go_wp2_with(first
  |(go_at_call 292;refine r.mono ?_;rintro ao y⟨v1,rfl,a,n,b⟩;have ax:y.cell? ⟨j,0,none⟩=some (.string x):=b.cell c3 N G;have o:nT y v1 T:=cW a;have e:=a.lt;have al:=b.size;have K:=En V i v1 T x y o (Y W) (by omega) (λk u=>⟨λH=>by have:=(Y U) k H;have:=(e k u).1;omega,(e k u).2⟩) (by omega) (Y U);have A:=Z n;have F:=Z b;have C:=Z e;clear a n b o e)
  |(go_at_call 282;refine K.mono ?_;rintro ao w2⟨v2,S2,rfl,q,d,p⟩;have B:=Z q;have z:=Z d;have D:=Z p;clear q d p))
 go_ret2
 have d:=Y z;have b:=Y F;have s:I (λ_=>False) y w2:=I.aR d;refine⟨v2,S2,rfl,Y B,V.dF (Y A) s (λ_ T=>T.elim),b.trans s (λ_ T=>T.elim),λk' u=>?_⟩;rcases(Y D) k' u with ba|ba
 ·exact((Y C) k' ba.1).1
 ·omega
def Ky(V:gz)(a r e c d m:Nat)(n:List fW)(g:List (List E))(o:aa)(s:n.length=g.length):vG V a ((g.drop m).map (eX o))where
 f:=294
 cb:=#[.pointer (some ⟨e,0,none⟩),.pointer (some ⟨c,0,none⟩),.pointer (some ⟨d,0,none⟩)]
 inv:=λW=>kA V a r n g W/\(dY W e (.pointer (some ⟨r,0,none⟩)) 199/\dY W c (.int .i64 m) 3/\dY W d (.string o) 9)/\(a<=e/\a<=c/\a<=d)/\a<=W.heap.size/\∀m,V.F m->m<a
 S:=λx=>x=e\/x=c\/x=d
 Kj:=enters_of func294 (by kernel_rfl) rfl
 call:=by
  rintro v u W⟨l,⟨h,i,j⟩,⟨_,_,q⟩,b,hF⟩t;have k:m+v<g.length:=by simp at u;omega
  have:=zY V a r e c d m n g o W l h i j q t b hF v (by omega) k;simpa using this
 dF:=by
  rintro W u⟨l,⟨h,i,j⟩,t,b,hF⟩k;exact⟨l.same (k.mono (λ_ c=>c.elim)),⟨h.same k (.inl rfl),i.same k (.inr (.inl rfl)),j.same k (.inr (.inr rfl))⟩,t,aB b k.1,hF⟩
 lt:=by
  rintro W⟨_,⟨h,i,j⟩,⟨k,t,q⟩,_⟩x(rfl|rfl|rfl)
  ·exact⟨k,ak h⟩
  ·exact⟨t,ak i⟩
  ·exact⟨q,ak j⟩
def wO(V:gz)(t c:Nat)(e:List fW)(A:List (List E))(g:aa)(w:J)(an:kA V t c e A w)(hD:V.D w)(m:t<=w.heap.size)(hF:∀k,V.F k->k<t):Calls prog 290 #[.pointer (some ⟨c,0,none⟩),.string g] w λal i=>∃z u,al=.returned z/\gy V t z (eX g A.flatten) u i/\V.D i/\I V.F w i/\(∀k,u k->w.heap.size<=k):=by
 have j:Below w.heap.size w ((w.alloc (.cells #[.pointer (some ⟨c,0,none⟩)] 199)).alloc (.cells #[.string g] 9)):=((Below.refl _ w).alloc (ai _) _).alloc (by simp) _;obtain⟨dv,n,cut,y,ac,H,d,bJ,N,F,bb,ao⟩:=an.mem;have f:=F.lt;have T:=uU _ c dv n cut y ac H d bJ N e g (F.below j f.1 f.2) an.sX;have s:=an.len;have ba:=F.small;have HX:=Z (show∀(b:J)(k:Nat),Below ((w.alloc (.cells #[.pointer (some ⟨c,0,none⟩)] 199)).alloc (.cells #[.string g] 9)).heap.size ((w.alloc (.cells #[.pointer (some ⟨c,0,none⟩)] 199)).alloc (.cells #[.string g] 9)) b->k<=e.length->(∀d(f:d<e.length),d<k->ep e[d].last g=true)->∀W,W.heap=(b.alloc (.cells #[.int .i64 k] 3)).heap->I (λ_=>False) (b.alloc (.cells #[.int .i64 k] 3)) W->Calls prog 288 #[.int .i64 ((e.length-k:Nat):Int),.func (.func 294) #[] #[.pointer (some ⟨w.heap.size,0,none⟩),.pointer (some ⟨b.heap.size,0,none⟩),.pointer (some ⟨w.heap.size+1,0,none⟩)]] W λal i=>∃z u,al=.returned z/\gy V t z (eX g A.flatten) u i/\V.D i/\I V.F w i/\(∀k,u k->w.heap.size<=k)/\Below W.heap.size W i from by
  intro b k a hk R W v P;have x:=a.size;simp at x;have h:I (λ_=>False) w W:=(((I.aR (S:=λ_=>False) j).trans (I.aR (S:=λ_=>False) a) (λ_ o=>o.elim)).alloc _).trans P (λ_ o=>o.elim);have U:dY b w.heap.size (.pointer (some ⟨c,0,none⟩)) 199:=(a.block _ (by simp;omega)).trans (dY.alloc (az _ rfl) _);have X:dY b (w.heap.size+1) (.string g) 9:=(a.block _ (by simp)).trans (az _ (by simp));have y1:dY W w.heap.size (.pointer (some ⟨c,0,none⟩)) 199:=by rw[dY,v];exact U.alloc _
  have y2:dY W (w.heap.size+1) (.string g) 9:=by rw[dY,v];exact X.alloc _
  have y3:dY W b.heap.size (.int .i64 k) 3:=by rw[dY,v];exact az _ rfl
  have O:kA V t c e A W:=an.same (h.same m (λ_ o=>o.elim) (λ_ o=>o.elim));have C:=Bh V t _ (Ky V t c w.heap.size b.heap.size (w.heap.size+1) k e A g s) W ⟨O,⟨y1,y3,y2⟩,⟨m,by omega,by omega⟩,aB m h.size,hF⟩ (aB m h.size) hF (by simp;omega);have hl:((A.drop k).map (eX g)).length=e.length-k:=by simp;omega
  rw[hl]at C;refine C.mono ?_;rintro al i⟨z,u,rfl,hg,hb,hS⟩;rw[an.wi g k R]at hg;have G:I (λ_=>False) W i:=I.aR hb;have q:=h.trans G (λ_ o=>o.elim);refine⟨z,u,rfl,hg,V.dF hD q (λ_ o=>o.elim),q.mono (λ_ o=>o.elim),λbf hx=>?_,hb⟩;have bd:=h.size;rcases hS bf hx with(o|o|o)|o
  ·omega
  ·omega
  ·omega
  ·omega)
 have l:∀W,Below w.heap.size w W->W.cell? ⟨c,5,none⟩=some (.slice (some ⟨H,d,none⟩) e.length bJ):=λW a=>by rw[aj (F.below a f.1 f.2).box];rfl
 have L:=Z l;have HB:=Z j;have bc:=f.1;clear an F hD hF l j f s;go_enter func290,ntmps290
 go_wp2_with(go_at_call 291;refine T.mono ?_;rintro al b⟨k,rfl,hk,D,Q,a⟩;have r:Below w.heap.size w b:=(Y HB).trans (a.mono (Y HB).size);have l:=(Y L) b r;have x:=a.size;have x1:b.cell? ⟨w.heap.size,0,none⟩=some (.pointer (some ⟨c,0,none⟩)):=dY.cell ((a.block _ (by simp;omega)).trans (dY.alloc (az _ rfl) _));have B:=Z ((Y HX) b k a hk D);clear D Q a r)
 simp at x;have q1:w.heap.size<b.heap.size:=by omega
 have q2:c<b.heap.size:=by omega
 obtain⟨ad,hd⟩:∃ad,e.length-k=ad:=⟨_,rfl⟩;rw[hd]at B;have q3:(e.length:Int)-(k:Int)=(ad:Int):=by omega
 have q4:ad<=1000000000:=by omega
 have q6:IntKind.i64.wrap (ad:Int)=(ad:Int):=by rw[bu];omega
 clear hd;go_region_held3(λX=>X.cell? ⟨w.heap.size,0,none⟩=some (.pointer (some ⟨c,0,none⟩))/\X.cell? ⟨c,5,none⟩=some (.slice (some ⟨H,d,none⟩) e.length bJ)/\X.cell? ⟨b.heap.size,0,none⟩=some (.int .i64 k)) (first|assumption|go_keep) (first
  |(go_at_call 288;refine((Y B) ((b.alloc (.cells #[.int .i64 k] 3)).drew) rfl ⟨rfl,rfl,rfl,ai _,λ_ _ _=>rfl⟩).mono ?_;rintro al w2⟨v2,S2,rfl,r1,r2,r3,r4,K⟩;have R1:=Z r1;have R2:=Z r2;have R3:=Z r3;have R4:=Z r4;have ax:w2.cell? ⟨w.heap.size,0,none⟩=some (.pointer (some ⟨c,0,none⟩))/\w2.cell? ⟨c,5,none⟩=some (.slice (some ⟨H,d,none⟩) e.length bJ)/\w2.cell? ⟨b.heap.size,0,none⟩=some (.int .i64 k):=⟨(K.cell (p:=⟨w.heap.size,0,none⟩) (by simp;omega)).trans (by rw[aQ,lR _ _ _ q1];exact x1),(K.cell (p:=⟨c,5,none⟩) (by simp;omega)).trans (by rw[aQ,lR _ _ _ q2];exact l),(K.cell (p:=⟨b.heap.size,0,none⟩) (by simp)).trans (by simp)⟩;clear r1 r2 r3 r4 K))
 go_wp2;go_ret;exact⟨v2,S2,rfl,Y R1,Y R2,Y R3,Y R4⟩
structure uy(ks:List fW)(key:aa)(k:Nat):Prop where
 le:k<=ks.length
 low:∀i(hi:i<ks.length),i<k->ep ks[i].last key=true
 tT:∀i(hi:i<ks.length),k<=i->ep ks[i].last key=false
def Ij{g:List fW}(o:g.Pairwise (λn h=>ep n.last h.last=true))(b:aa):∃m,uy g b m:=by
 induction g with
 |nil=>exact⟨0,ai _,λi a=>by simp at a,λi a=>by simp at a⟩
 |cons h r l=>
  obtain⟨j,k⟩:=bL.1 o;cases c:ep h.last b with
  |true=>
   obtain⟨m,f⟩:=l k;refine⟨m+1,by have:=f.le;simp;omega,λi a e=>?_,λi a e=>?_⟩
   ·cases i with
    |zero=>exact c
    |succ i=>exact f.low i (by simpa using a) (by omega)
   ·cases i with
    |zero=>omega
    |succ i=>exact f.tT i (by simpa using a) (by omega)
  |false=>
   refine⟨0,aU _,λi a e=>by omega,λi a _=>?_⟩;cases i with
   |zero=>exact c
   |succ i=>
    have f:i<r.length:=by simpa using a
    have:=j r[i] (au f);show ep r[i].last b=false;cases d:ep r[i].last b with
    |false=>rfl
    |true=>have:=iR this d;rw[c]at this;cases this
def uy.eq{f:List fW}{b:aa}{k a:Nat}(h:uy f b k)(c:uy f b a):k=a:=by
 rcases jj k a with e|e|e
 ·have g:=c.low k (by have:=c.le;omega) e;have d:=h.tT k (by have:=c.le;omega) (ai _);rw[g]at d;cases d
 ·exact e
 ·have g:=h.low a (by have:=h.le;omega) e;have d:=c.tT a (by have:=h.le;omega) (ai _);rw[g]at d;cases d
def kA.vz{V:gz}{v w:Nat}{h:List fW}{a:List (List E)}{A:J}(p:kA V v w h a A){g:aa}{k:Nat}(r:uy h g k)(x:E)(u:x∈a.flatten)(f:x.key=g):∃i:k<a.length,x∈a[k]:=by
 obtain⟨B,i,b⟩:=bH.1 u;obtain⟨n,j,rfl⟩:=dj i;have c:n<h.length:=by have:=p.len;omega
 have y:=p.yU n c j;have m:fG a[n]:=p.li.sub (cu i);have l:=m.xS y.ne b;rcases jj n k with o|o|o
 ·have:=r.low n c o;rw[y.last]at this;have:=sZ l this;rw[f,eT]at this;cases this
 ·subst o;exact⟨j,b⟩
 ·have e:k<h.length:=by omega
  have d:k<a.length:=by omega
  have s:=p.yU k e d;have q:=r.tT k e (ai _);rw[s.last]at q;have t:=(fU.1 p.li).2;have z:=s.ne;have:=bG.1 t k n d j o _ (au (show a[k].length-1<a[k].length by omega)) x b;rw[f,q]at this;cases this
def kA.tL{V:gz}{r s:Nat}{e:List fW}{f:List (List E)}{w:J}(l:kA V r s e f w){b:aa}{k:Nat}(o:uy e b k)(p:∀(v:k<e.length),ep b e[k].first=true):fD f.flatten b=none:=by
 refine gd.2 (λx q a=>?_);obtain⟨j,h⟩:=l.vz o x q a;have d:k<e.length:=by have:=l.len;omega
 have u:=l.yU k d j;have c:=p d;rw[u.first]at c;have g:fG f[k]:=l.li.sub (cu (au j));obtain⟨t,n,rfl⟩:=dj h;rcases de t with m|m
 ·subst m;rw[a,eT]at c;cases c
 ·have:=bG.1 g 0 t u.ne n m;rw[a]at this;rw[fV this]at c;cases c
def kA.wl{V:gz}{l m:Nat}{g:List fW}{b:List (List E)}{w:J}(h:kA V l m g b w){a:aa}{k:Nat}(j:uy g a k)(f:k<b.length):fD b.flatten a=fD b[k] a:=by
 refine qT h.li (h.li.sub (cu (au f))) (λx e=>⟨λc=>?_,λc=>bH.2 ⟨_,au f,c⟩⟩);obtain⟨_,d⟩:=h.vz j x c e;exact d
def NC(t:TypeId)(a b:aa):binOp .gtr t (.string a) (.string b)=pure (.bool !(Op.bytesLess a.toList b.toList||a.toList==b.toList)):=by simp[binOp,Op.stringOp]
def Hj(a b:aa):(!(Op.bytesLess a.toList b.toList||a.toList==b.toList))=ep b a:=by
 show(!(ep a b||a.toList==b.toList))=ep b a;cases h1:ep a b with
 |true=>rw[fV h1];rfl
 |false=>
  cases h2:(a.toList==b.toList)with
  |true=>
   have:a=b:=Cy (by simpa using h2);rw[this,eT];rfl
  |false=>
   cases h3:ep b a with
   |true=>rfl
   |false=>rw[lk h1 h3]at h2;simp at h2
def wP(V:gz)(n0 tb:Nat)(q:List fW)(cs:List (List E))(k:aa)(w:J)(bc:kA V n0 tb q cs w)(hD:V.D w)(u:n0<=w.heap.size)(hF:∀v,V.F v->v<n0):Calls prog 287 #[.pointer (some ⟨tb,0,none⟩),.string k] w λbd w'=>bd=.returned (pm (fD cs.flatten k))/\V.D w'/\I V.F w w':=by
 obtain⟨v,m⟩:=Ij bc.sX k;have r:Below w.heap.size w (w.alloc (.cells #[.string ⟨#[]⟩,.string ⟨#[]⟩,.bool false,.int .u64 0] 177)):=(Below.refl _ w).alloc (ai _) _;obtain⟨dv,O,cut,ba,bo,bl,y,bJ,bn,Q,bt,bp⟩:=bc.mem;have t:=Q.lt;have g:=bc.len;have bs:=Q.small;have N:Calls prog 291 #[.pointer (some ⟨tb,0,none⟩),.string k] (w.alloc (.cells #[.string ⟨#[]⟩,.string ⟨#[]⟩,.bool false,.int .u64 0] 177)) λbd w'=>bd=.returned (.int .i64 v)/\Below w.heap.size w w'/\fX w' w.heap.size zE:=by
  refine(uU _ tb dv O cut ba bo bl y bJ bn q k (Q.below r t.1 t.2) bc.sX).mono ?_;rintro bd w'⟨e,rfl,f,o,p,c⟩;obtain rfl:v=e:=m.eq ⟨f,o,p⟩;exact⟨rfl,r.trans (c.mono r.size),(c.block _ (by simp)).trans (az _ rfl)⟩
 have l:∀bb,Below w.heap.size w bb->bb.cell? ⟨tb,5,none⟩=some (.slice (some ⟨bl,y,none⟩) q.length bJ):=λbb G=>by rw[aj (Q.below G t.1 t.2).box];rfl
 have D:=Z l;have L:∀bf,n0<=bf->¬V.F bf:=λbf R a=>by have:=hF bf a;omega
 have F:=Z L;have W:=Z (λbb(G:Below w.heap.size w bb)=>V.dF hD (I.aR (S:=λ_=>False) G) (λ_ P=>P.elim));have bq:=NC;by_cases K:v<q.length
 ·have s:∀bb,Below w.heap.size w bb->bb.cell? ⟨bl,y+v*5+3,none⟩=some (.string q[v].first):=λbb G=>by rw[aP];exact(Q.below G t.1 t.2).cells _ _ (fC q v 3 K (by decide))
  have T:=Z s;have e1:((v:Int)==(q.length:Int))=false:=by simp;omega
  have e2:(v:Int)<(q.length:Int):=by omega
  have e3:(0:Int)<=(v:Int):=by omega
  have bh:=Hj q[v].first k;cases hfk:ep k q[v].first with
  |true=>
   rw[hfk]at bh;have d:=bc.tL m (λ_=>hfk);rw[d];have HL:=Z g;clear bc Q m hD hF L r l s g d hfk;generalize q[v].first=fk at*;go_enter func287,ntmps287
   go_wp2_with(go_at_call 291;refine N.mono ?_;rintro bd h⟨rfl,b,a⟩;have l:=(Y D) h b;have s:=(Y T) h b;obtain⟨z0,z1,z2,z3⟩:=a.cells;have y0:=a.free (i:=0);have y1:=a.free (i:=1);have y2:=a.free (i:=2);have y3:=a.free (i:=3);have n:=Z a;have j:=Z b;clear a b)
   refine bO (ez rfl _ _ w.heap.size zE _ _ rfl ((Y n).put zE)) rfl ?_;have A:Below w.heap.size w (qK h w.heap.size zE):=(Y j).trans ((gq h w.heap.size zE).below (Y j).size (λbf R=>by omega));exact⟨rfl,(Y W) _ A,I.aR A⟩
  |false=>
   rw[hfk]at bh;have H:v<cs.length:=by omega
   rw[bc.wl m H];have bi:fG cs[v]:=bc.li.sub (cu (au H));have br:=bc.small _ (au H);have bg:=Z (λbb(G:Below w.heap.size w bb)=>Dt V n0 tb q cs bb (bc.same ((I.aR (S:=λ_=>False) G).same u (λ_ P=>P.elim) (λ_ P=>P.elim))) ((Y W) bb G) (aB u G.size) hF v K H);have bk:=Z bi;have HL:=Z g;clear bc Q m hD hF L r l s g hfk bi;generalize q[v].first=fk at*;generalize cs[v]=P at*;have f:=(λv(w2 h:J)(a:w2.ownsRow h.heap.size 177 4 v P.length (aF P))=>vi v P k w2 (cW a) (Y bk) (by omega) (λc b=>(a.lt c b).2));generalize fD P k=fe at*;cases fe with
   |none=>
    simp only[pm,tQ]at f;have ad:=Z f;clear f;go_enter func287,ntmps287
    go_wp2_with(first
     |(go_at_call 291;refine N.mono ?_;rintro bd h⟨rfl,b,a⟩;have l:=(Y D) h b;have s:=(Y T) h b;have ax:=(Y bg) h b;have n:=Z a;have j:=Z b;clear a b)
     |(go_at_call 292;refine ax.mono ?_;rintro bd w2⟨v2,rfl,e,z,p⟩;have ao:=(Y ad) v2 w2 h e;have X:=Z ((Y n).ay p ((Y F) _ u));have U:=Z z;have al:=Z p;clear e z p)
     |(go_at_call 281;refine ao.mono ?_;rintro bd w3⟨rfl,o⟩;have c:=(Y X).ay (I.aR (S:=λ_=>False) o) (λP=>P);obtain⟨z0,z1,z2,z3⟩:=c.cells;have y0:=c.free (i:=0);have y1:=c.free (i:=1);have y2:=c.free (i:=2);have y3:=c.free (i:=3);have ac:=Z c;have x:=Z o;clear c o))
    refine bO (ez rfl _ _ w.heap.size zE _ _ rfl ((Y ac).put zE)) rfl ?_;have C:I V.F w w3:=((I.aR (S:=V.F) (Y j)).trans (Y al) (λv m=>.inl m)).trans (I.aR (S:=V.F) (Y x)) (λv m=>.inl m);have B:=gq w3 w.heap.size zE;have an:=V.dF (Y U) (I.aR (S:=λ_=>False) (Y x)) (λ_ P=>P.elim);refine⟨rfl,V.dF an B (λbf R=>by subst R;exact(Y F) _ u),C.trans B (λbf R=>.inr (by omega))⟩
   |some bf=>
    obtain⟨xk,xv,xd,xb⟩:=bf;simp only[pm,E.value]at f;have ad:=Z f;clear f;go_enter func287,ntmps287
    go_wp2_with(first
     |(go_at_call 291;refine N.mono ?_;rintro bd h⟨rfl,b,a⟩;have l:=(Y D) h b;have s:=(Y T) h b;have ax:=(Y bg) h b;have n:=Z a;have j:=Z b;clear a b)
     |(go_at_call 292;refine ax.mono ?_;rintro bd w2⟨v2,rfl,e,z,p⟩;have ao:=(Y ad) v2 w2 h e;have X:=Z ((Y n).ay p ((Y F) _ u));have U:=Z z;have al:=Z p;clear e z p)
     |(go_at_call 281;refine ao.mono ?_;rintro bd w3⟨rfl,o⟩;have c:=(Y X).ay (I.aR (S:=λ_=>False) o) (λP=>P);obtain⟨z0,z1,z2,z3⟩:=c.cells;have y0:=c.free (i:=0);have y1:=c.free (i:=1);have y2:=c.free (i:=2);have y3:=c.free (i:=3);have ac:=Z c;have x:=Z o;clear c o))
    refine bO (ez rfl _ _ w.heap.size ⟨xk,xv,xd,xb⟩ _ _ rfl ((Y ac).put ⟨xk,xv,xd,xb⟩)) rfl ?_;have C:I V.F w w3:=((I.aR (S:=V.F) (Y j)).trans (Y al) (λv m=>.inl m)).trans (I.aR (S:=V.F) (Y x)) (λv m=>.inl m);have B:=gq w3 w.heap.size ⟨xk,xv,xd,xb⟩;have an:=V.dF (Y U) (I.aR (S:=λ_=>False) (Y x)) (λ_ P=>P.elim);refine⟨rfl,V.dF an B (λbf R=>by subst R;exact(Y F) _ u),C.trans B (λbf R=>.inr (by omega))⟩
 ·have c:v=q.length:=by have:=m.le;omega
  have d:=bc.tL m (λa=>absurd a K);rw[d];have e1:((v:Int)==(q.length:Int))=true:=by simp;omega
  subst c;have HL:=Z g;clear bc Q m hD hF L r l g d K;go_enter func287,ntmps287
  go_wp2_with(go_at_call 291;refine N.mono ?_;rintro bd h⟨rfl,b,a⟩;have l:=(Y D) h b;obtain⟨z0,z1,z2,z3⟩:=a.cells;have y0:=a.free (i:=0);have y1:=a.free (i:=1);have y2:=a.free (i:=2);have y3:=a.free (i:=3);have n:=Z a;have j:=Z b;clear a b)
  refine bO (ez rfl _ _ w.heap.size zE _ _ rfl ((Y n).put zE)) rfl ?_;have A:Below w.heap.size w (qK h w.heap.size zE):=(Y j).trans ((gq h w.heap.size zE).below (Y j).size (λbf R=>by omega));exact⟨rfl,(Y W) _ A,I.aR A⟩
def Gb{n:Int}(a:0<=n)(b:n<4294967296):jb (le 4 n)=n:=by
 rw[vn 4 n a];show n%4294967296=n;omega
def oa(b:Nat)(n:Int)(a:List Int)(w:J)(p:Rd w b (le 4 n++a) false)(c:iq a)(q:a.length<=140737488350000)(g:0<=n)(h:n<4294967296):Calls prog 179 #[.pointer (some ⟨b,0,none⟩)] w λo f=>o=.returned (.int .u32 n)/\Rd f b a false/\w.grownBy f (some b):=by
 have d:=jI (le 4 n) a;rw[bw]at d;have e:=uJ b (le 4 n++a) false w p ((iq.le 4 n).append c) (by simp only[ag,bw];omega);have l:num (le 4 n++a) false 4=n:=by unfold num;rw[d];exact Gb g h
 rw[d,l]at e;exact e
def vh(b:Nat)(n:Int)(a:List Int)(w:J)(q:Rd w b (le 8 n++a) false)(c:iq a)(r:a.length<=140737488350000)(g:0<=n)(h:n<18446744073709551616):Calls prog 178 #[.pointer (some ⟨b,0,none⟩)] w λp f=>p=.returned (.int .u64 n)/\Rd f b a false/\w.grownBy f (some b):=by
 have d:=jI (le 8 n) a;rw[bw]at d;have e:=DQ b (le 8 n++a) false w q ((iq.le 8 n).append c) (by simp only[ag,bw];omega);have o:num (le 8 n++a) false 8=n:=by unfold num;rw[d];exact xp g h
 rw[d,o]at e;exact e
def NR(b:Nat)(n:Int)(a:List Int)(w:J)(m:Rd w b (n::a) false)(c:iq a)(o:a.length<=140737488350000)(h:0<=n)(i:n<256):Calls prog 186 #[.pointer (some ⟨b,0,none⟩)] w λk g=>k=.returned (.int .u8 n)/\Rd g b a false/\w.grownBy g (some b):=by
 have d:=jI [n] a;simp only[aE,cH,cw,dI,cL]at d;have f:=zK b (n::a) false w m (by intro x e;rcases aD.1 e with rfl|e;exact⟨h,i⟩;exact c x e) (by simp only[aE];omega);have j:num (n::a) false 1=n:=by unfold num;rw[d];simp[jb]
 rw[d,j]at f;exact f
def GS(c:Nat)(s:aa)(a:List Int)(w:J)(j:Rd w c (cV s++a) false)(d:iq a)(k:a.length<=140737488350000)(l:s.size<=255):Calls prog 215 #[.pointer (some ⟨c,0,none⟩)] w λi f=>i=.returned (.string s)/\Rd f c a false/\w.grownBy f (some c):=by
 have h:=(rr s a).1;have g:iq (cV s++a):=by
  intro x b;rcases aw.1 b with b|b
  ·unfold cV at b;rcases aD.1 b with rfl|b
   ·omega
   ·exact iq.text s x b
  ·exact d x b
 have e:=yn c (cV s++a) false w j g (by simp only[ag,cV,aE,fa];omega);rw[h]at e;simp only[ru]at e;exact e
end Go.Proofs.YtophdnlmpfmeiaaGreatDoor
