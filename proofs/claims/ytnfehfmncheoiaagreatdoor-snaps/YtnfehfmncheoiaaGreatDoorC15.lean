import Derived.Test.YtnfehfmncheoiaaGreatDoorC10
open _root_ renaming List.length→y,Option.some→H,Array.size→z,Go.World.heap→G,Go.Value.ownBlock→bV,Go.World.cell?→aS,Go.World.setCell→bZ,Go.World.alloc→ct,Bool.false→bE,Bool.true→bU,Nat→M,Int→X,List→cr,Go.Calls→cw,Go.Proofs.Tryz.prog→bF,Go.Value.slice→I,Go.Value.bool→aL,Go.Value.tuple→dA,Go.Value.agg→eD
namespace Go.Proofs.YtnfehfmncheoiaaGreatDoor
open ChangeShapes WideShapes RowKit Proofs.Tryz
set_option maxHeartbeats 16000000
set_option linter.all false
set_option maxRecDepth 100000
variable{a:Y}{b c:M}{d:aa}{K:iB}{V:Array aa}
def tV(a:cr oP):M:=y<|a.filter<|λx=>x.live
def Ey(a:cr oP)(x:oP):tV (a++[x])=tV a+(if x.live then 1 else 0):=by
 unfold tV;rw[iW,af];cases h:x.live<;>simp[h]
def Ez(a:cr oP):tV a<=y a:=fj _ _
def Tl(a:cr oP)(x:oP):FB (a++[x])=FB a++[aL x.live,x.v]:=by
 induction a with
 |nil=>rfl
 |cons c r b=>simp only[cq,FB,b]
def DR(f:Option M)(h:mj a b f K bU d):cw bF 19 #[aw b] a λi g=>i=aO (dA #[am 0,am 6])/\g=a:=by
 obtain⟨⟨v,c,_,_⟩,_,_⟩:=h;have e:=cellAt c 2 rfl;clear c;go_in
 go_wp2;go_ret2
 exact⟨rfl,rfl⟩
def Iz(E:Option M)(c:cr oP)(h:mj a b E K bE d)(o:Mw a d c)(P:4<=tV c):cw bF 19 #[aw b] a λN F=>N=aO (dA #[am 0,am 2])/\F=a:=by
 obtain⟨⟨T,n,_,_⟩,_,_⟩:=h;have u:=cellAt n 1 rfl;have v:=cellAt n 2 rfl;have B:=o.small;have A:=Ez c;rcases o.row.2 with⟨_,O⟩|⟨L,g,t,rfl,x,i⟩;omega;have s:=U (show∀l(e:l<y c),aS a (R L<|g+l*2)=H (aL c[l].live)fromλl e=>i _ _ (zS c l e).1);clear n o i;go_in
 go_wp2;go_loopw [4,5] (λe l wr=>∃j:M,j<=y c/\l=am j/\e=am (tV (c.take j):M)/\wr=a) (λ_ l _=>y c-(intOf l).toNat)
 case atStart=>exact⟨0,bw _,rfl,rfl,rfl⟩
 case round=>
  obtain⟨j,Q,rfl,rfl,D⟩:=hrel;subst wr;by_cases f:j<y c
  .have r:=s j f;have e:=Ey (c.take j) c[j];rw[<-ai f]at e;have p:=Ez<|c.take j;have m:y (c.take j)<=y c:=by rw[dK];omega
   have w:(j:X)<(y c:X):=by omega
   have k:=U e;clear e m;generalize tV (c.take j)=q at*;have S:q<=1000000000:=by rw[dK]at p;omega
   have C:IntKind.i64.wrap ((q:X)+1)=(q:X)+1:=by rw[bO];omega
   clear p;cases hl:c[j].live with
   |true=>
    rw[hl]at r k;go_wp2;go_roundw;case rel=>exact⟨j+1,f,by go_num,by rw[ae k];simp,trivial⟩
    case measure=>simp[intOf];omega
   |false=>
    rw[hl]at r k;go_wp2;go_roundw;case rel=>exact⟨j+1,f,by go_num,by rw[ae k];simp,trivial⟩
    case measure=>simp[intOf];omega
  .have e:j=y c:=by omega
   subst e;rw[bN]at*;have k:(4:X)<=(tV c:X):=by omega
   go_wp2;go_ret2
   exact⟨rfl,rfl⟩
def Ux:(prog.info? 118).map (λi=>(i.zero,i.size,i.bytes))=H (H<|eD #[aL bE,aK],2,32):=by kernel_rfl
def Gc(f:∀x∈V.toList,XQ x)(e:0<V.size)(c:d∈(Builtin.zeroCells V b).toList):XQ d:=by
 unfold Builtin.zeroCells at c;obtain⟨i,_,g⟩:=Array.mem_map.1<|rj.1 c;have a:i%V.size<V.size:=Nat.mod_lt _ e;rw[Array.getElem!_eq_getD,Array.getD_eq_getD_getElem?,nT a,gW]at g;rw[<-g];exact f _<|rj.2<|tL a
def Bm{P:Program}{au:Oper}{bc:Act}{bi:Act->Y->Prop}{bm:Exit->Act->Y->Prop}(bl bd:Operand)(av:TypeId)(ao:au.op=Op.call {callee:=Callee.builtin Builtin.append,args:=#[bl,bd],argTypes:=#[av,av]})(c:M)(S:TypeId)(ac:TypeInfo)(k:aa)(d bytes:M)(ht:P.underlying av=H (.slice S))(V:P.info? S=H ac)(hz:ac.zero=H k)(m:ac.size=d)(L:ac.bytes=bytes)(w:k.cells.size=d)(t:0<d)(bb:aa)(ad:M)(D:iV)(hs:bc.eval bl=bb)(j:a.ownsRow c S d bb ad D)(B:Addr)(Q ax:M)(b:iV)(hx:bc.eval bd=I (H B) Q ax)(N:y b=Q*d)(f:∀ba u,b[ba]?=H u->aS a (B.add ba)=H u)(h1:∀u∈b,u.oneCell'=bU)(hn:ad+Q<=140737488355328)(e:(ad+Q)*bytes<=140737488355328)(o:c<=z (G a))(hm:0<Q)(kz:∀u∈k.cells.toList,XQ u)(kn:∀u∈b,XQ u)(ko:zG a bb)(hK:∀x A,A.ownsRow c S d x (ad+Q) (D++b)->eR a A bb x->zG A x->bi (bc.put au.dst x) A):Oper.wp P au bc a bi bm:=by
 obtain⟨x,A,W,h2,h3,_,h5⟩:=mY (P:=P) a c av au.type S ac k d bytes ht V hz m L w t bb ad D j B Q ax b N f h1 (by unfold maxLen;omega) e o;have r:zG A x:=by subst m;subst L;rcases j.2 with⟨rfl,rfl⟩|⟨al,n,i,rfl,bf,T,bh,bg,an,v⟩;have g:=run_append_nil (P:=P) a av au.type S ac k ht V hz B Q ax b N f hm (by omega) (by have l:=e;simp only[cR]at l;omega);rw[W]at g;injection g with F K;intro bk i t' fr r C u h;subst F K;cases r;have p:=(fw a.drew _).symm.trans C;cases p;rw[nW,ak]at h;rcases h with h|h;exact kn u (by simpa using h);exact Gc kz (by rw[w];exact t) h;by_cases l:ad+Q<=n;(have s:ad*ac.size+y b<=i.size:=by rw[N,an,<-wS];exact kg _ l);have g:=run_append_room (P:=P) a av au.type S ac ht V al ad n i T B Q ax b N f h1 l s;rw[W]at g;injection g with F K;intro bk E t' fr r C u h;subst F K;cases r;rw[tF a al i _ S _ T]at C;cases C;have FN:∀bd∈i.toList,XQ bd:=ko al i _ _ rfl T;rcases ak.1 h with q|q;rcases ak.1 q with q|q;exact FN u<|eC q;exact kn u q;exact FN u<|dl q;have s:∀ba u,D[ba]?=H u->aS a (((R al 0):Addr).add ba)=H u:=j.cells (g:=al) rfl;have g:=run_append_grow (P:=P) a av au.type S ac k ht V hz (R al 0) ad n D j.1 s B Q ax b N f (by omega) (by omega)<|sA (by omega) e;rw[W]at g;injection g with F K;intro bk E t' fr r C u h;subst F K;cases r;have p:=(fw a.drew _).symm.trans C;cases p;rw[nW,ak,nW,ak]at h;rcases h with(h|h)|h;(have O:u∈D:=by simpa using h);rw[<-v]at O;exact ko al i _ _ rfl T u<|eC O;exact kn u (by simpa using h);exact Gc kz (by rw[w];exact t) h
 unfold Oper.wp;simp[execOp,ao,resolve,invoke,builtin,hs,hx,W,Result.andThen];exact hK x A h2 (eR.of h3 h5) r
def Iy(pb:Option M)(f:cr oP)(h:mj a b pb K bE d)(hn:Mw a d f)(h4:tV f<4)(ho:a.ownsRow c 118 2 d (y f) (FB f))(S:c<=z (G a))(bk:bV d≠H b)(bi:zG a d):cw bF 19 #[aw b] a λN w'=>N=aO (dA #[am<|(y f:X)+1,am 0])/\∃br g,bV br=pb/\jk a br K/\w'.heap[b]?=H (aq #[br,g,aL bE] 46 (0,0))/\w'.ownsRow c 118 2 g (y<|f++[(⟨bU,br,K⟩:oP)]) (FB<|f++[(⟨bU,br,K⟩:oP)])/\Z (λL=>L=b\/bV d=H L) a w'/\zG w' g/\(bV g=bV d\/∃bq,bV g=H bq/\z (G a)<=bq):=by
 obtain⟨i0,bx,cd,ce,ch⟩:=cz Ux;obtain⟨⟨br,hh,hp,bn⟩,_,_⟩:=h;have bd:=cellAt hh 0 rfl;have bf:=cellAt hh 1 rfl;have co:=cellAt hh 2 rfl;have ad:b<z (G a):=aj hh;have cs:=hn.small;obtain⟨o,n,m,cb⟩:∃x a bu,br=I x a bu:=by rcases hp.shape with N|⟨bp,e,P,N⟩;exact⟨_,_,_,N⟩;exact⟨_,_,_,N⟩
 obtain⟨A,x,al⟩:=aB ho
 have HC:=U (show∀bp e P,d=bC bp e (y f) P->∀au(i:au<y f),aS a (R bp<|e+au*2)=H (aL f[au].live)fromλbp e P N au i=>by
  rcases hn.row.2 with⟨q,_⟩|⟨b',bo,av,q,ca,bg⟩
  .rw[q]at N;cases N
  .rw[q]at N;cases N;exact bg _ _ (zS f au i).1)
 have bt:=U (show 0<y f->∃bp e,A=H (R bp e)fromλhp=>by
  rcases hn.row.2 with⟨_,q⟩|⟨b',bo,av,q,ca,bg⟩
  .omega
  .rw[q]at al;cases al;exact⟨_,_,rfl⟩)
 obtain⟨HH,HO,HP,HN,HK,bs⟩:=kF hh ho (And.intro bn hp) bk bi (show∀L,bV d=H L->L<z (G a)fromλL V=>(ho.lt L V).2);clear hh hp bn hn ho bk bi;subst cb al;go_in
 go_wp2;go_loopw [4,5] (λbu au wr=>∃B:M,B<=y f/\au=am B/\bu=am (tV (f.take B):M)/\wr=a) (λ_ au _=>y f-(intOf au).toNat)
 case atStart=>exact⟨0,bw _,rfl,rfl,rfl⟩
 case round=>
  obtain⟨B,hj,rfl,rfl,cu⟩:=hrel;subst wr;by_cases u:B<y f
  .obtain⟨bp,e,j⟩:=bt (by omega);have p:=HC bp e x (by rw[j]) B u;subst j;have i:=Ey (f.take B) f[B];rw[<-ai u]at i;have l:=Ez<|f.take B;have r:(B:X)<(y f:X):=by omega
   have k:=U i;clear i;generalize tV (f.take B)=q at*;have t:q<=1000000000:=by rw[dK]at l;omega
   have s:IntKind.i64.wrap ((q:X)+1)=(q:X)+1:=by rw[bO];omega
   clear l;cases hl:f[B].live with
   |true=>
    rw[hl]at p k;go_wp2;go_roundw;case rel=>exact⟨B+1,u,by go_num,by rw[ae k];simp,trivial⟩
    case measure=>simp[intOf];omega
   |false=>
    rw[hl]at p k;go_wp2;go_roundw;case rel=>exact⟨B+1,u,by go_num,by rw[ae k];simp,trivial⟩
    case measure=>simp[intOf];omega
  .have bT:B=y f:=by omega
   subst bT;rw[bN]at*;have cn:¬((4:X)<=(tV f:X)):=by omega
   go_wp2_with fail
   rename_i QQ KK bb;have bc:aS a.drew (R b 1)=H (I A (y f) x)/\aS a.drew (R b 0)=H (I o n m):=⟨bf,bd⟩;refine cg (λO=>aS O (R b 1)=H (I A (y f) x)/\aS O (R b 0)=H (I o n m)) 14 (by kernel_rfl) ?_;refine cQ 0 ?_;iterate 10 (refine eE (v:=?_) bc rfl (by kernel_rfl) iO rfl ?_ ?_;rotate_left;(focus(rintro O⟨z0,z1⟩;go_simp;try rfl));simp only[Act.put,cX,gB,Nat.reduceAdd])
   apply eh;refine aJ (i:=10) rfl rfl (by kernel_rfl) ?_;intro K1 ax;go_simp;obtain⟨W1,s⟩:∃W1,(ct a<|aq #[aL bU,I o n m] 118).drew=W1:=⟨_,rfl⟩;have i:Z az a W1:=by rw[<-s];exact((Z.refl az a).alloc _).of_heap rfl
   have bl:∀B cj,[aL bU,I o n m][B]?=H cj->aS W1 (((R (z<|G a) 0):Addr).add B)=H cj:=by rw[<-s];exact Hr a [aL bU,I o n m] _
   have bm:=i.own HO<|λ_ _ q=>q;have bv:c<=z (G W1):=aD S i.size;have cv:=i.size;rw[s];refine ax _ _ (λ_=>⟨i.cell bf id ad,i.cell bd id ad⟩) ?_;try simp only[Act.put,cX,gB]
   clear ax s;refine aJ (i:=11) rfl rfl (by kernel_rfl) ?_;intro K2 ba;try simp only[dp,cD,cN]
   refine Bm (.tmp 35) (.tmp 41) 44 rfl c 118 i0 (eD #[aL bE,aK]) 2 32 underlying44 bx cd ce ch rfl (by decide) (I A (y f) x) (y f) (FB f) rfl bm (R (z<|G a) 0) 1 1 [aL bU,I o n m] rfl rfl bl (by simp[Value.oneCell']) (by omega) (by omega) bv (by omega) (by intro cj hu;simp[Value.cells]at hu;rcases hu with rfl|rfl;exact .inl ⟨_,rfl⟩;exact .inr ⟨_,_,_,rfl⟩) (by intro cj hu;simp at hu;rcases hu with rfl|rfl;exact .inl ⟨_,rfl⟩;exact .inr ⟨_,_,_,rfl⟩) (HK.ar i (λ_ _=>id) bs) ?_;intro g p v w bh;have an:=Z.fy w;have k:p.heap[b]?=H (aq #[I o n m,I A (y f) x,aL bE] 46 (0,0)):=(an.block b (by omega) HN).trans<|(i.block b ad id).trans HH;have r:aS p (R b 1)=H (I A (y f) x)/\aS p (R b 0)=H (I o n m):=⟨by rw[bR k];rfl,by rw[bR k];rfl⟩;have cp:=dJ (i:=1) k;have l:bV g≠H b:=λq=>by
    rcases w.uc with N|⟨bq,N,hg⟩
    .exact HN<|N▸q
    .rw[N]at q;cases q;omega
   have t:(bZ p (R b 1) g).heap[b]?=H (aq #[I o n m,g,aL bE] 46 (0,0)):=(aQ k).trans rfl;have W:zG (bZ p (R b 1) g) g:=bh.ar (rk p b 1 g) (λL V bu=>l (by rw[V];exact bS H bu))<|λL V=>(v.lt L V).2;have ac:=(rk p b 1 g).own v<|λL V bu=>l (by rw[V];exact bS H bu);have ao:Z (λL=>L=b\/bV (I A (y f) x)=H L) a (bZ p (R b 1) g):=((i.mono (T:=λL=>L=b\/bV (I A (y f) x)=H L) cG).trans an<|λ_ q=>.inl<|.inr q).trans (rk p b 1 g)<|λ_ q=>.inl<|.inl q;have F:bV g=bV (I A (y f) x)\/∃bq,bV g=H bq/\z (G a)<=bq:=w.uc.imp id<|λ⟨bq,N,hg⟩=>⟨bq,N,by omega⟩;obtain⟨x2,c2,cc⟩:=aB v;subst cc;obtain⟨W3,Q⟩:∃W3,bZ p (R b 1) (I x2 (y f+1) c2)=W3:=⟨_,rfl⟩;rw[Q]at t ac ao W;have k1:=cellAt t 1 rfl;have j:=U<|And.intro t (And.intro ac (And.intro ao (And.intro W F)));refine ba _ _ (λ_=>r) ?_;try simp only[Act.put,cX,gB]
   clear ba v w bh an k l t ac ao W F bc i bl bm;refine aJ (i:=12) rfl rfl (by kernel_rfl) ?_;intro ck C;go_simp;refine C _ _ (λ_=>r) ?_;try simp only[Act.put,cX,gB]
   clear C;refine aJ (i:=13) rfl rfl (by kernel_rfl) ?_;intro cl D;go_simp;refine D _ _ (λ_=>r) ?_;try simp only[Act.put,cX,gB]
   clear D;refine aJ (i:=14) rfl rfl (by kernel_rfl) ?_;intro cm E;go_simp;try rw[Q]
   refine E _ _ wu ?_;try simp only[Act.put,cX,gB]
   clear E Q r;refine cO (by kernel_rfl) ?_ _;show KK _ _;apply bb;clear bb;go_wp2;go_ret2
   refine⟨by simp,I o n m,_,HP.1,HP.2,j.1,?_,j.2.2⟩;rw[Tl,af];exact j.2.1
