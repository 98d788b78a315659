import Derived.Test.YtojeeoclojldpaaGreatDoorC7
import Derived.Test.YtojeeoclojldpaaGreatDoorC14
import Derived.Test.YtojeeoclojldpaaGreatDoorC15
open _root_ renaming List.length→y,Option.some→H,Array.size→z,Go.World.heap→G,Go.Value.ownBlock→bV,Go.World.cell?→aT,Go.World.setCell→bZ,Go.World.alloc→ct,Bool.false→bF,Bool.true→bW,Nat→M,Int→Z,List→cr,Go.Calls→cy,Go.Proofs.Tryz.prog→bG,Go.Value.slice→J,Go.Value.bool→aL,Go.Value.tuple→dB,Go.Value.agg→eC
namespace Go.Proofs.YtojeeoclojldpaaGreatDoor
open ChangeShapes WideShapes RowKit Proofs.Tryz
set_option maxHeartbeats 16000000
set_option linter.all false
set_option maxRecDepth 100000
variable{a f C:I}{b c:M}{d:aa}{o:eI}{X:fJ}{K:iH}{V:Array aa}
section
open Go.Shelf
attribute [local go_sem] Oper.semAt_some
def Pq:(prog.info? 103).map (λi=>(i.zero,i.size,i.bytes))=H (H<|aH 0,1,8):=by kernel_rfl
structure Mu(w:I)(bm:M)(pre:eI)(B:fJ)(W:I):Prop where
 ex:∃pv,dV W (z<|G w) pv 122/\W.ownsRow (z (G w)+1) 103 1 pv (y pre) (pre.map<|Value.int .u64)/\∀k,B k↔k=z (G w)\/bV pv=H k
 aw:Y (λk=>k=bm) w W
def Mu.lt(i:Mu a b o X C):∀k,X k->z (G a)<=k/\k<z (G C):=by
 obtain⟨j,c,d,e⟩:=i.ex;intro k g;rcases(e k).1 g with rfl|h;exact⟨ah _,ak c⟩;have:=aI d k h;omega
def Mu.stays{T:fJ}(m:Mu a b o X f)(g:Y T f C)(d:∀k,T k->¬X k/\(k=b\/z (G a)<=k)):Mu a b o X C:=by
 obtain⟨l,i,j,c⟩:=m.ex;exact⟨⟨l,i.aw g<|λh=>(d _ h).1<|(c _).2<|.inl rfl,g.own j<|λk e h=>(d k h).1<|(c k).2<|.inr e,c⟩,m.aw.trans g<|λk e=>(d k e).2⟩
def FZ(bi:fI)(hb:dV a b (.map<|H c) 108)(hm:ju a c bi)(bb:wY bi o)(hl:y o<=1000000):cy bG 189 #[aK,.func (.func 131) #[] #[aA b]] a λbt w'=>
 ∃c,∃ao:eI,bt=aO c/\ao.Perm o/\w'.ownsRow (z<|G a) 103 1 c (y ao) (ao.map<|Value.int .u64)/\Y (λk=>k=b) a w':=by
 obtain⟨i0,ax,bc,bd,bf⟩:=cz Pq
 have bl:=ak hb
 have W:=hm.lt
 refine(cX (n:=3)).1 ?_
 refine callsIn_of_wp_marks func189 rfl trivial ?_ rfl
 simp only[ntmps189,eR,ay,cL,Nat.reduceAdd,Nat.reduceSub,dS,dR,eS,er,cC,cq]
 gi_wp2
 obtain⟨D,r⟩:∃D,ct a (ar #[aK] 122)=D:=⟨_,rfl⟩
 have bo:z (G D)=z (G a)+1:=by rw[<-r];simp
 have B:Y aB a D:=by rw[<-r];exact(Y.refl aB a).alloc _
 have hA0:Mu a b [] (λk=>k=z (G a)) D:=⟨⟨aK,by rw[<-r];exact aD _ rfl,bK _ _ _ _,λk=>by simp[bV]⟩,B.mono cG⟩
 rw[r]
 refine wV (m:=3) (arg:=Wy) (V:=Az) (n0:=z<|G a) (gf:=131) (lb:=#[aA b]) (pp:=λao=>∃bs,(ao++bs).Perm o) (ff:=λao=>ao.Perm o) (S:=λk=>k=b) (λ_ h=>.inr<|.inr h) ?geval (enters_of func131 (by kernel_rfl) rfl) (λ_=>rfl) (Ig (z<|G a) 2 b c bi o D (hb.aw B id) (hm.de<|B.block _ W id) bb W<|by omega) trivial (by omega) (λk e=>by omega) (λd L an=>Mu a b d L an) (λ_ _ _ _=>False) _ hA0 (λk e s=>by omega) (λd L an j=>j.lt) ?st (λ_ _ _ _ _ _ h=>h.elim) ?body ?done ?stop
 case geval=>rfl
 case st=>
  intro d L an i br j g f;refine j.stays g<|λk e=>⟨(f k e).1,?_⟩;rcases(f k e).2 with s|s|s
  .exact .inl s
  .exact s.elim
  .exact .inr<|by omega
 case stop=>
  intro bh s d L an _ h;exact h.elim
 case body=>
  rintro lr d bg L an bm T ac⟨bs,u⟩j _;have bn:y d+1<=1000000:=by have:=u.length_eq;simp at this;omega
  unfold Wy;simp only;have HA:=U j;clear j u;gi_wp2;refine⟨Y.refl _ _,λE g=>?_⟩;have hA2:=HA.stays g (λk e=>by subst e;exact⟨T,.inr<|by omega⟩);obtain⟨pv,C,w,Q⟩:=hA2.ex;obtain⟨K,F,x⟩:=aC w;have z0:=C.cell;have bp:=ak C;have X:lr<z (G E):=ag ac g.size;have bk:=g.size;obtain⟨HV,P,N,au,av⟩:=jP C w Q g hA2.aw;clear C w Q g hA2;subst x;have HX:=U (show∀(l:aa)(p:I),p.ownsRow (z (G a)+1) 103 1 l (y d+1) (d.map (Value.int .u64)++[aH bg])->eP (ct E<|ar #[aH bg] 103) p (J K (y d) F) l->(aT p (R (z<|G a) 0)=H (J K (y d) F)/\p.frozen? (R (z<|G a) 0)=bF)/\Bf Az (λd L an=>Mu a b d L an) (λ_ _ _ _=>False) (d++[bg]) L an E lr .normal ⟨#[],[]⟩ (bZ p (R (z<|G a) 0) l)fromλl p f i=>by
   have ad:=(Y.refl aB E).alloc<|ar #[aH bg] 103;have al:=Y.fy i;have ba:¬(bV (J K (y d) F)=H (z<|G a)):=λs=>by have:=(P.lt _ s).1;omega
   have v:dV p (z<|G a) (J K (y d) F) 122:=(HV.aw ad id).aw al ba;have A:Y L E (bZ p (R (z<|G a) 0) l):=((ad.mono (T:=L) cG).trans (al.mono (T:=L)<|λk e=>.inl<|(N k).2<|.inr e)<|λk e=>.inl e).setCell _ 0 _<|.inl<|(N _).2<|.inl rfl;refine⟨⟨v.cell,v.free⟩,trivial,λk=>k=z (G a)\/bV l=H k,⟨⟨l,v.set l,?_,λk=>qT⟩,av.trans A<|λk e=>.inr (by rcases(N k).1 e with s|s;omega;have:=(P.lt _ s).1;omega)⟩,(au.mono<|λk e=>.inl<|.inr e).trans A<|λk e=>.inl<|.inl e,A.block lr X T,λk e=>?_⟩
   .rw[af,aM];exact(rk _ _ 0 _).own f (λk e s=>by have:=(aI f k e).1;omega)
   .rcases e with s|s
    .exact .inl<|(N k).2<|.inl s
    .rcases i.uc with q|⟨bq,q,hy⟩
     .exact .inl<|(N k).2<|.inr<|q▸s
     .rw[q]at s;cases s;exact .inr (by simp at hy;omega))
  gi_wp2_with(first
   |(gi_at_builtin;refine dY _ rfl (.tmp 8) (.tmp 10) 122 rfl (z (G a)+1) 103 i0 (.int .u64 0) 1 8 underlying122 ax bc bd bf rfl (by decide) (.slice K (y d) F) (y d) (d.map (Value.int .u64)) rfl (aS P _) (R (z (G E)) 0) 1 1 [.int .u64 bg] rfl rfl (pH _ _ _) (by simp[Value.oneCell']) (by omega) (by omega) (by simp;omega) ?_;intro l p f i;obtain⟨⟨y0,y1⟩,t⟩:=HX l p f i;obtain⟨x6,c6,rfl⟩:=aC f;have O:=U t;clear f i t))
  exact O
 case done=>
  intro ao bh L an f A j l _ t;obtain⟨pv,C,w,Q⟩:=j.ex;obtain⟨K,F,x⟩:=aC w;have z0:=C.cell;have p:bV pv≠H bh:=λq=>l<|(Q bh).2<|.inr q;obtain⟨P,u,v,i⟩:=gx w t j.aw f;have E:=ak t;clear j C w Q t f;subst x;gi_wp2;have g:=gD an bh<|.deferred none;refine⟨by simp,.inl ⟨_,_,rfl,run_takeDeferred u,?_⟩⟩;refine⟨_,gK rfl _ _ _,?_⟩;exact⟨_,ao,rfl,i,eQ (g.own P<|λk e q=>p (by rw[<-q];exact e)) (by omega),v.trans g<|λk e=>.inr (by subst e;omega)⟩
def Jr(m:fI)(n:dV a b (.map<|H c) 108)(q:ju a c m)(f:wY m o)(p:y o<=1000000):cy bG 129 #[.func (.func 131) #[] #[aA b]] a λr k=>
 ∃g,∃l:eI,r=aO g/\l.Perm o/\k.ownsRow (z<|G a) 103 1 g (y l) (l.map<|Value.int .u64)/\Y (λd=>d=b) a k:=by
 have h:=FZ m n q f p
 go_in
 go_wp2_with fail
 apply h.mono
 rintro r u⟨g,l,rfl,i,e,j⟩
 obtain⟨t,s,rfl⟩:=aC e
 have d:=U<|And.intro i (And.intro e j)
 clear i e j
 go_wp2
 go_ret
 exact⟨_,l,rfl,d.1,d.2.1,d.2.2⟩
end
def tV(a:cr oP):M:=y<|a.filter<|λx=>x.live
def Ey(a:cr oP)(x:oP):tV (a++[x])=tV a+(if x.live then 1 else 0):=by
 unfold tV;rw[iV,af];cases h:x.live<;>simp[h]
def Ez(a:cr oP):tV a<=y a:=fh _ _
def Tc(a:cr oP)(x:oP):FB (a++[x])=FB a++[aL x.live,x.v]:=by
 induction a with
 |nil=>rfl
 |cons c r b=>simp only[cq,FB,b]
def DR(f:Option M)(h:mj a b f K bW d):cy bG 18 #[aA b] a λi g=>i=aO (dB #[ap 0,ap 6])/\g=a:=by
 obtain⟨⟨v,c,_,_⟩,_,_⟩:=h;have e:=cellAt c 2 rfl;clear c;go_in
 go_wp2;go_ret2
 exact⟨rfl,rfl⟩
def Iz(E:Option M)(c:cr oP)(h:mj a b E K bF d)(o:Mw a d c)(P:4<=tV c):cy bG 18 #[aA b] a λN F=>N=aO (dB #[ap 0,ap 2])/\F=a:=by
 obtain⟨⟨T,n,_,_⟩,_,_⟩:=h;have u:=cellAt n 1 rfl;have v:=cellAt n 2 rfl;have B:=o.small;have A:=Ez c;rcases o.row.2 with⟨_,O⟩|⟨L,g,t,rfl,x,i⟩;omega;have s:=U (show∀l(e:l<y c),aT a (R L<|g+l*2)=H (aL c[l].live)fromλl e=>i _ _ (zQ c l e).1);clear n o i;go_in
 go_wp2;go_loopw [4,5] (λe l wr=>∃j:M,j<=y c/\l=ap j/\e=ap (tV (c.take j):M)/\wr=a) (λ_ l _=>y c-(intOf l).toNat)
 case atStart=>exact⟨0,bA _,rfl,rfl,rfl⟩
 case round=>
  obtain⟨j,Q,rfl,rfl,D⟩:=hrel;subst wr;by_cases f:j<y c
  .have r:=s j f;have e:=Ey (c.take j) c[j];rw[<-aj f]at e;have p:=Ez<|c.take j;have m:y (c.take j)<=y c:=by rw[dL];omega
   have w:(j:Z)<(y c:Z):=by omega
   have k:=U e;clear e m;generalize tV (c.take j)=q at*;have S:q<=1000000000:=by rw[dL]at p;omega
   have C:IntKind.i64.wrap ((q:Z)+1)=(q:Z)+1:=by rw[bQ];omega
   clear p;cases hl:c[j].live with
   |true=>
    rw[hl]at r k;go_wp2;go_roundw;case rel=>exact⟨j+1,f,by go_num,by rw[ae k];simp,trivial⟩
    case measure=>simp[intOf];omega
   |false=>
    rw[hl]at r k;go_wp2;go_roundw;case rel=>exact⟨j+1,f,by go_num,by rw[ae k];simp,trivial⟩
    case measure=>simp[intOf];omega
  .have e:j=y c:=by omega
   subst e;rw[bP]at*;have k:(4:Z)<=(tV c:Z):=by omega
   go_wp2;go_ret2
   exact⟨rfl,rfl⟩
def Um:(prog.info? 118).map (λi=>(i.zero,i.size,i.bytes))=H (H<|eC #[aL bF,aK],2,32):=by kernel_rfl
def Gd(f:∀x∈V.toList,XH x)(e:0<V.size)(c:d∈(Builtin.zeroCells V b).toList):XH d:=by
 unfold Builtin.zeroCells at c;obtain⟨i,_,g⟩:=Array.mem_map.1<|rj.1 c;have a:i%V.size<V.size:=Nat.mod_lt _ e;rw[Array.getElem!_eq_getD,Array.getD_eq_getD_getElem?,nR a,gU]at g;rw[<-g];exact f _<|rj.2<|tK a
def Bj{P:Program}{au:Oper}{bc:Act}{bi:Act->I->Prop}{bm:Exit->Act->I->Prop}(bl bd:Operand)(av:TypeId)(ao:au.op=Op.call {callee:=Callee.builtin Builtin.append,args:=#[bl,bd],argTypes:=#[av,av]})(c:M)(S:TypeId)(ac:TypeInfo)(k:aa)(d bytes:M)(X:P.underlying av=H (.slice S))(V:P.info? S=H ac)(hz:ac.zero=H k)(m:ac.size=d)(L:ac.bytes=bytes)(w:k.cells.size=d)(t:0<d)(bb:aa)(ad:M)(D:iU)(hs:bc.eval bl=bb)(j:a.ownsRow c S d bb ad D)(B:Addr)(Q ax:M)(b:iU)(hx:bc.eval bd=J (H B) Q ax)(N:y b=Q*d)(f:∀ba u,b[ba]?=H u->aT a (B.add ba)=H u)(h1:∀u∈b,u.oneCell'=bW)(hn:ad+Q<=140737488355328)(e:(ad+Q)*bytes<=140737488355328)(o:c<=z (G a))(hm:0<Q)(kz:∀u∈k.cells.toList,XH u)(kn:∀u∈b,XH u)(ko:zD a bb)(hK:∀x A,A.ownsRow c S d x (ad+Q) (D++b)->eP a A bb x->zD A x->bi (bc.put au.dst x) A):Oper.wp P au bc a bi bm:=by
 obtain⟨x,A,W,h2,h3,_,h5⟩:=mV (P:=P) a c av au.type S ac k d bytes X V hz m L w t bb ad D j B Q ax b N f h1 (by unfold maxLen;omega) e o;have r:zD A x:=by subst m;subst L;rcases j.2 with⟨rfl,rfl⟩|⟨al,n,i,rfl,bf,T,bh,bg,an,v⟩;have g:=run_append_nil (P:=P) a av au.type S ac k X V hz B Q ax b N f hm (by omega) (by have l:=e;simp only[cQ]at l;omega);rw[W]at g;injection g with F K;intro bk i t' fr r C u h;subst F K;cases r;have p:=(ft a.drew _).symm.trans C;cases p;rw[nV,am]at h;rcases h with h|h;exact kn u (by simpa using h);exact Gd kz (by rw[w];exact t) h;by_cases l:ad+Q<=n;(have s:ad*ac.size+y b<=i.size:=by rw[N,an,<-wR];exact kh _ l);have g:=run_append_room (P:=P) a av au.type S ac X V al ad n i T B Q ax b N f h1 l s;rw[W]at g;injection g with F K;intro bk E t' fr r C u h;subst F K;cases r;rw[tE a al i _ S _ T]at C;cases C;have FN:∀bd∈i.toList,XH bd:=ko al i _ _ rfl T;rcases am.1 h with q|q;rcases am.1 q with q|q;exact FN u<|eB q;exact kn u q;exact FN u<|di q;have s:∀ba u,D[ba]?=H u->aT a (((R al 0):Addr).add ba)=H u:=j.cells (g:=al) rfl;have g:=run_append_grow (P:=P) a av au.type S ac k X V hz (R al 0) ad n D j.1 s B Q ax b N f (by omega) (by omega)<|sA (by omega) e;rw[W]at g;injection g with F K;intro bk E t' fr r C u h;subst F K;cases r;have p:=(ft a.drew _).symm.trans C;cases p;rw[nV,am,nV,am]at h;rcases h with(h|h)|h;(have O:u∈D:=by simpa using h);rw[<-v]at O;exact ko al i _ _ rfl T u<|eB O;exact kn u (by simpa using h);exact Gd kz (by rw[w];exact t) h
 unfold Oper.wp;simp[execOp,ao,resolve,invoke,builtin,hs,hx,W,Result.andThen];exact hK x A h2 (eP.of h3 h5) r
def Iy(pb:Option M)(f:cr oP)(h:mj a b pb K bF d)(hn:Mw a d f)(h4:tV f<4)(ho:a.ownsRow c 118 2 d (y f) (FB f))(S:c<=z (G a))(bi:bV d≠H b)(bh:zD a d):cy bG 18 #[aA b] a λN w'=>N=aO (dB #[ap<|(y f:Z)+1,ap 0])/\∃bq g,bV bq=pb/\jQ a bq K/\w'.heap[b]?=H (ar #[bq,g,aL bF] 46 (0,0))/\w'.ownsRow c 118 2 g (y<|f++[(⟨bW,bq,K⟩:oP)]) (FB<|f++[(⟨bW,bq,K⟩:oP)])/\Y (λL=>L=b\/bV d=H L) a w'/\zD w' g/\(bV g=bV d\/∃bp,bV g=H bp/\z (G a)<=bp):=by
 obtain⟨i0,bv,cc,cd,ce⟩:=cz Um;obtain⟨⟨bq,hh,hp,bm⟩,_,_⟩:=h;have bc:=cellAt hh 0 rfl;have bd:=cellAt hh 1 rfl;have cn:=cellAt hh 2 rfl;have ac:b<z (G a):=ak hh;have cp:=hn.small;obtain⟨o,n,m,ca⟩:∃x a bt,bq=J x a bt:=by rcases hp.shape with N|⟨bo,e,P,N⟩;exact⟨_,_,_,N⟩;exact⟨_,_,_,N⟩
 obtain⟨A,x,ad⟩:=aC ho
 have HC:=U (show∀bo e P,d=bD bo e (y f) P->∀ao(i:ao<y f),aT a (R bo<|e+ao*2)=H (aL f[ao].live)fromλbo e P N ao i=>by
  rcases hn.row.2 with⟨q,_⟩|⟨b',bn,au,q,bT,bf⟩
  .rw[q]at N;cases N
  .rw[q]at N;cases N;exact bf _ _ (zQ f ao i).1)
 have bs:=U (show 0<y f->∃bo e,A=H (R bo e)fromλhp=>by
  rcases hn.row.2 with⟨_,q⟩|⟨b',bn,au,q,bT,bf⟩
  .omega
  .rw[q]at ad;cases ad;exact⟨_,_,rfl⟩)
 obtain⟨HH,HO,HP,HN,HK,br⟩:=kG hh ho (And.intro bm hp) bi bh (show∀L,bV d=H L->L<z (G a)fromλL V=>(ho.lt L V).2);clear hh hp bm hn ho bi bh;subst ca ad;go_in
 go_wp2;go_loopw [4,5] (λbt ao wr=>∃B:M,B<=y f/\ao=ap B/\bt=ap (tV (f.take B):M)/\wr=a) (λ_ ao _=>y f-(intOf ao).toNat)
 case atStart=>exact⟨0,bA _,rfl,rfl,rfl⟩
 case round=>
  obtain⟨B,hj,rfl,rfl,cs⟩:=hrel;subst wr;by_cases u:B<y f
  .obtain⟨bo,e,j⟩:=bs (by omega);have p:=HC bo e x (by rw[j]) B u;subst j;have i:=Ey (f.take B) f[B];rw[<-aj u]at i;have l:=Ez<|f.take B;have r:(B:Z)<(y f:Z):=by omega
   have k:=U i;clear i;generalize tV (f.take B)=q at*;have t:q<=1000000000:=by rw[dL]at l;omega
   have s:IntKind.i64.wrap ((q:Z)+1)=(q:Z)+1:=by rw[bQ];omega
   clear l;cases hl:f[B].live with
   |true=>
    rw[hl]at p k;go_wp2;go_roundw;case rel=>exact⟨B+1,u,by go_num,by rw[ae k];simp,trivial⟩
    case measure=>simp[intOf];omega
   |false=>
    rw[hl]at p k;go_wp2;go_roundw;case rel=>exact⟨B+1,u,by go_num,by rw[ae k];simp,trivial⟩
    case measure=>simp[intOf];omega
  .have bx:B=y f:=by omega
   subst bx;rw[bP]at*;have cm:¬((4:Z)<=(tV f:Z)):=by omega
   go_wp2_with fail
   rename_i QQ KK ba;have bb:aT a.drew (R b 1)=H (J A (y f) x)/\aT a.drew (R b 0)=H (J o n m):=⟨bd,bc⟩;refine cJ (λO=>aT O (R b 1)=H (J A (y f) x)/\aT O (R b 0)=H (J o n m)) 14 (by kernel_rfl) ?_;refine dA 0 ?_;iterate 10 (refine fw (v:=?_) bb rfl (by kernel_rfl) jU rfl ?_ ?_;rotate_left;(focus(rintro O⟨z0,z1⟩;go_simp;try rfl));simp only[Act.put,du,iy,Nat.reduceAdd])
   apply eX;refine aP (i:=10) rfl rfl (by kernel_rfl) ?_;intro K1 av;go_simp;obtain⟨W1,s⟩:∃W1,(ct a<|ar #[aL bW,J o n m] 118).drew=W1:=⟨_,rfl⟩;have i:Y aB a W1:=by rw[<-s];exact((Y.refl aB a).alloc _).of_heap rfl
   have bk:∀B ch,[aL bW,J o n m][B]?=H ch->aT W1 (((R (z<|G a) 0):Addr).add B)=H ch:=by rw[<-s];exact Hs a [aL bW,J o n m] _
   have bl:=i.own HO<|λ_ _ q=>q;have bu:c<=z (G W1):=aE S i.size;have cu:=i.size;rw[s];refine av _ _ (λ_=>⟨i.cell bd id ac,i.cell bc id ac⟩) ?_;try simp only[Act.put,du,iy]
   clear av s;refine aP (i:=11) rfl rfl (by kernel_rfl) ?_;intro K2 ax;try simp only[dj,cD,cO]
   refine Bj (.tmp 35) (.tmp 41) 44 rfl c 118 i0 (eC #[aL bF,aK]) 2 32 underlying44 bv cc cd ce rfl (by decide) (J A (y f) x) (y f) (FB f) rfl bl (R (z<|G a) 0) 1 1 [aL bW,J o n m] rfl rfl bk (by simp[Value.oneCell']) (by omega) (by omega) bu (by omega) (by intro ch hu;simp[Value.cells]at hu;rcases hu with rfl|rfl;exact .inl ⟨_,rfl⟩;exact .inr ⟨_,_,_,rfl⟩) (by intro ch hu;simp at hu;rcases hu with rfl|rfl;exact .inl ⟨_,rfl⟩;exact .inr ⟨_,_,_,rfl⟩) (HK.aw i (λ_ _=>id) br) ?_;intro g p v w bg;have al:=Y.fy w;have k:p.heap[b]?=H (ar #[J o n m,J A (y f) x,aL bF] 46 (0,0)):=(al.block b (by omega) HN).trans<|(i.block b ac id).trans HH;have r:aT p (R b 1)=H (J A (y f) x)/\aT p (R b 0)=H (J o n m):=⟨by rw[bN k];rfl,by rw[bN k];rfl⟩;have co:=dK (i:=1) k;have l:bV g≠H b:=λq=>by
    rcases w.uc with N|⟨bp,N,hg⟩
    .exact HN<|N▸q
    .rw[N]at q;cases q;omega
   have t:(bZ p (R b 1) g).heap[b]?=H (ar #[J o n m,g,aL bF] 46 (0,0)):=(aR k).trans rfl;have W:zD (bZ p (R b 1) g) g:=bg.aw (rk p b 1 g) (λL V bt=>l (by rw[V];exact bU H bt))<|λL V=>(v.lt L V).2;have X:=(rk p b 1 g).own v<|λL V bt=>l (by rw[V];exact bU H bt);have an:Y (λL=>L=b\/bV (J A (y f) x)=H L) a (bZ p (R b 1) g):=((i.mono (T:=λL=>L=b\/bV (J A (y f) x)=H L) cG).trans al<|λ_ q=>.inl<|.inr q).trans (rk p b 1 g)<|λ_ q=>.inl<|.inl q;have F:bV g=bV (J A (y f) x)\/∃bp,bV g=H bp/\z (G a)<=bp:=w.uc.imp id<|λ⟨bp,N,hg⟩=>⟨bp,N,by omega⟩;obtain⟨x2,c2,cb⟩:=aC v;subst cb;obtain⟨W3,Q⟩:∃W3,bZ p (R b 1) (J x2 (y f+1) c2)=W3:=⟨_,rfl⟩;rw[Q]at t X an W;have k1:=cellAt t 1 rfl;have j:=U<|And.intro t (And.intro X (And.intro an (And.intro W F)));refine ax _ _ (λ_=>r) ?_;try simp only[Act.put,du,iy]
   clear ax v w bg al k l t X an W F bb i bk bl;refine aP (i:=12) rfl rfl (by kernel_rfl) ?_;intro cj C;go_simp;refine C _ _ (λ_=>r) ?_;try simp only[Act.put,du,iy]
   clear C;refine aP (i:=13) rfl rfl (by kernel_rfl) ?_;intro ck D;go_simp;refine D _ _ (λ_=>r) ?_;try simp only[Act.put,du,iy]
   clear D;refine aP (i:=14) rfl rfl (by kernel_rfl) ?_;intro cl E;go_simp;try rw[Q]
   refine E _ _ yR ?_;try simp only[Act.put,du,iy]
   clear E Q r;refine dp (by kernel_rfl) ?_ _;show KK _ _;apply ba;clear ba;go_wp2;go_ret2
   refine⟨by simp,J o n m,_,HP.1,HP.2,j.1,?_,j.2.2⟩;rw[Tc,af];exact j.2.1
