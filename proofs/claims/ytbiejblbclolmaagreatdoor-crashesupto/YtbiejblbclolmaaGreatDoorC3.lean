import Derived.Carry
import Derived.Laws.OwnMore
import Derived.Test.YtbiejblbclolmaaGreatDoorC2
open _root_ renaming List.length→y,Option.some→H,Array.size→z,Go.World.heap→G,Go.Value.ownBlock→cI,Go.World.cell?→aW,Go.World.setCell→cH,Go.World.alloc→dd,Bool.false→bw,Bool.true→cf,Nat→M,Int→U,List→ci,Go.Calls→cY,Go.undef→iM,Go.Proofs.Tryz.prog→bA,Go.Value.slice→I,Go.Value.string→am,Go.Value.bool→aM,Go.Value.pointer→dC,Go.Value.tuple→dA,Go.Value.agg→dL
namespace Go.Proofs.YtbiejblbclolmaaGreatDoor
open ChangeShapes WideShapes RowKit Proofs.Tryz List
set_option maxHeartbeats 16000000
set_option linter.all false
set_option maxRecDepth 100000
variable{a f A:Y}{b c i l F:M}{d t:ab}{e:cU}{g:DK}{m:dX}{n:eF}{r:ae}{s:ja}{B:ix}{O:aX}{P:ci aX}{S:Bool}
structure rV where
 pos:M
 size:M
 count:M
 first:ae
 last:ae
abbrev mM:=ci rV
def rV.value(k:rV):ab:=dL #[aq k.pos,aq k.size,aq k.count,am k.first,am k.last]
def rV.cells(k:rV):ix:=[aq k.pos,aq k.size,aq k.count,am k.first,am k.last]
structure rV.Of(k:rV)(c:cU):Prop where
 ne:0<y c
 size:k.size=y (fU c)+4
 count:k.count=y c
 first:k.first=(c[0]'ne).key
 last:k.last=(c[y c-1]'(by omega)).key
def AO(w:Y)(b:M)(k:rV):Prop:=w.heap[b]?=H (ay #[aq k.pos,aq k.size,aq k.count,am k.first,am k.last] 320 (0,0))
def AO.cells{k:rV}(h:AO a b k):aW a (R b 0)=H (aq k.pos)/\aW a (R b 1)=H (aq k.size)/\aW a (R b 2)=H (aq k.count)/\aW a (R b 3)=H (am k.first)/\aW a (R b 4)=H (am k.last):=by
 refine⟨?_,?_,?_,?_,?_⟩<;>rw[ct h]<;>rfl
def AO.aj{w w':Y}{b:M}{k:rV}{S:fh}(h:AO w b k)(c:Z S w w')(a:¬S b):AO w' b k:=(c.block b (ak h) a).trans h
def zG(x:E)(t:TypeId)(c:b=z (G a)):∀j u,(aI [x])[j]?=H u->aW (dd a<|ay #[am x.key,am x.val,aM x.del,aG x.bQ] t) (((R b 0):Addr).add j)=H u:=by
 grind[xG]
def Rd.wrote{rest:eF}(i:Rd a b rest S)(g:eJ a f d t)(j:∀k,cI d=H k->b<k):Rd f b rest S:=by
 obtain⟨u,e,h,c⟩:=i;refine⟨u,(g.grown.block b (ak e)<|by grind).trans e,h.grown g.grown ?_,c⟩;cases hu:cI u with
 |none=>exact .inr rfl
 |some k=>
  grind
structure Yk(w0 w:Y)(rb:M)(k:rV)(c:cU)(o:ab)(n:M):Prop where
 own:w.ownsRow (z<|G w0) 171 4 o n (aI<|c.take n)
 rd:Rd w rb (fU<|c.drop n) bw
 box:AO w (z<|G w0) k
 R8:Below (z<|G w0) w0 w
 C6:z (G w0)<rb
 ne:cI o≠H rb/\cI o≠H (z<|G w0)
 xO:∀k,cI o=H k->rb<k
def Ff(aU c l:M)(u:rV)(hT:Steps a)(j:u.Of e)(hg:∀cd∈e,cd.Good)(hs:eh e)(cN:y e<=1000)(bd:u.size<=l)(L:Bytes a (bI aU c u.size l) (gS<|fU e)):cY bA 320 #[bI aU c u.size l,u.value] a λaa N=>
 ∃v',aa=aN (dA #[v',aM cf])/\N.ownsRow (z<|G a) 171 4 v' (y e) (aI e)/\Below (z<|G a) a N:=by
 have cM:=El hg
 obtain⟨i0,bs,ca,cb,cc⟩:=dl nz
 obtain⟨pos,f,aV,first,b⟩:=u
 have bu:=j.ne
 have t:f=y (fU e)+4:=j.size
 have bt:aV=y e:=j.count
 have bi:=X<|show first=(e[0]'bu).key from j.first
 have bk:=X<|show b=(e[y e-1]'(by omega)).key from j.last
 clear j
 subst bt
 simp only at L bd
 unfold rV.value
 simp only
 have bo:Below (z<|G a) a (dd a<|ay #[aq pos,aq f,aq<|y e,am first,am b] 320):=(Below.refl _ a).alloc (ag _) _
 have cp:aU<z (G a):=L.lt (by unfold gS;intro h;have:=bS y h;simp[cg]at this) aU rfl
 have bT:cY bA 122 #[bI aU c f l] (dd a<|ay #[aq pos,aq f,aq<|y e,am first,am b] 320) λaa N=>
  aa=aN (dA #[bI aU c (y<|fU e) l,aM cf])/\Below (z<|G<|dd a<|ay #[aq pos,aq f,aq<|y e,am first,am b] 320) (dd a<|ay #[aq pos,aq f,aq<|y e,am first,am b] 320) N:=by
   rw[t]at L bd|-;exact uS aU c l (fU e) (hT.alloc _) bd (by omega)<|L.alloc _
 have au:Bytes a (bI aU c (y<|fU e) l) (fU e):=by
  have d:Bytes a (bI aU c (y<|gS<|fU e) l) (gS<|fU e):=by rw[t]at L;unfold gS at*;rw[af,cg];exact L
  have:=d.take (n:=y<|fU e) (by simp[gS]);unfold gS at this;rwa[ld]at this
 have cB:∀(cd:Bool)(a:Y),(Op.unary .not<|aM cd).run bA a=.ok (aM<|!cd) a:=λ_ _=>rfl
 obtain⟨ad,HG,HS,HB,ch⟩:=iY au hg hs bo t
 clear L hT au hg hs bo t
 go_in
 go_wp2_with(first
  |(go_at_call 122;refine bT.mono ?_;rintro aa w⟨rfl,bb⟩;have V:AO w (z<|G a) ⟨pos,f,y e,first,b⟩:=(bb.block _<|by simp).trans<|aK _ rfl;obtain⟨k0,k1,k2,k3,k4⟩:=V.cells;simp only at k0 k1 k2 k3 k4;have o:Below (z<|G a) a w:=HB.trans (bb.mono<|by simp);have cx:=ak V;have bv:=lV (ad.below o (by intro u j;cases j;exact cp)) (by intro u j;cases j;grind);have O:=X V;have aF:=X o;clear bb V o)
  |(go_at_call 123;refine bv.mono ?_;rintro aa w2⟨rfl,av,cu⟩;subst cu;have bm:=X av;clear av)
  |(at_make;refine kG _ rfl _ _ 73 rfl (z (G a)) 171 i0 xg 4 underlying73 bs ca cb _ _ _ (y e) rfl rfl (by omega) (by rw[cc];omega) (by unfold maxLen;omega) (by simp;omega) ?_;intro w3 ap A;have r:Z aw w w3:=(cO aw w).cz (Z.ep (S:=aw) A (by simp));have bp:=O.aj r (λe=>e);obtain⟨m0,m1,m2,m3,m4⟩:=bp.cells;simp only at m0 m1 m2 m3 m4;have bn:=X r;clear bp r;have x:=X ap;have ac:=X A;clear ap A))
 have bc:=J ac
 have cv:=bc.size
 simp at cv
 have cs:z (G<|dd w<|ay #[bI aU c (y<|fU e) l,aM bw] 317)=z (G w)+1:=by simp
 have r:=J bn
 have hA0:Yk a w3 (z<|G w) ⟨pos,f,y e,first,b⟩ e (bI (z (G w)+1) 0 0<|y e) 0:=by
  have g:=J x;rw[cs]at g;refine⟨g,?_,O.aj r<|λe=>e,aF.trans<|(r.below (ag _) cJ).mono aF.size,by omega,⟨?_,?_⟩,?_⟩
  .exact bm.laid bc
  .simp[cI]
  .have:=ak O;simp[cI];omega
  .intro u j;simp[cI]at j;omega
 have bh:=X hA0
 clear hA0 bc r
 go_loopw [9,35] (λo i wr=>∃n:M,n<=y e/\i=aq n/\Yk a wr (z<|G w) ⟨pos,f,y e,first,b⟩ e o n) (λ_ i _=>y e-(intOf i).toNat)
 case atStart=>exact⟨0,bK _,rfl,bh⟩
 case round=>
  obtain⟨n,cS,rfl,k⟩:=hrel;have g:=k.own;obtain⟨ox,F,ho⟩:=aC g;have dc:=k.R8.size;have al:=k.box.cells;simp only at al;obtain⟨q0,q1,q2,q3,q4⟩:=al;have cE:=k.rd.lt;have HA:=X k;by_cases P:n<y e
  .have v:=HG e[n]<|ar P;have q:=k.rd;rw[UK e n P]at q;have B:kr (fU<|e.drop<|n+1):=NO<|λcd b=>HG cd<|gD b;have bf:y (fU<|e.drop<|n+1)<=35*1000:=by
    have h1:=El (c:=e.drop<|n+1)<|λcd b=>HG cd<|gD b;grind
   have C:=BQ v;have p:=vf v;have bg:y (oK e[n])<=35:=by unfold Dq at p;rw[af]at p;omega
   have d:=Nn q ((kr.le 8 _).append<|C.append B) (by grind[length_append,cg]);have Q:=mT (le 8 e[n].bQ)<|oK e[n]++fU (e.drop<|n+1);rw[cg]at Q;have ao:num (le 8 e[n].bQ++(oK e[n]++fU (e.drop<|n+1))) bw 8=e[n].bQ:=by unfold num;rw[Q];exact Ef v.b0 v.b1
   rw[Q,ao]at d;simp only at d;have m:=λW(a:Rd W (z<|G w) (oK e[n]++fU (e.drop<|n+1)) bw)=>It (z<|G w) (fU<|e.drop<|n+1) W a (C.append B) (by grind) v;have cn:Hid (aI (e.take n)++aI [e[n]]=aI (e.take<|n+1)):=by rw[<-fY,ah P];exact X rfl
   clear k g q B bf C p bg Q ao v;generalize e[n]=cd at*;obtain⟨xk,xv,xd,xb⟩:=cd;simp only at d m;unfold E.value at m;simp only at m;subst ho;go_wp2_with(first
    |(go_at_call 124;refine d.mono ?_;rintro aa w4⟨rfl,bx,bq⟩;have ck:=X bx;have ce:=X bq;clear bx bq)
    |(go_at_call 138;refine(m w4 ck).mono ?_;rintro aa K⟨rfl,bE,br⟩;have s:Z (λu=>u=z (G w)) wr K:=(fo ce).trans (fo br)<|λu j=>.inl j;have D:=aT (aT (s.own HA.own<|λu j e=>HA.ne.1 (by rw[<-e];exact j))<|.cells #[.string xk,.string xv,.bool xd,.int .u64 xb] 171)<|.cells #[.string xk,.string xv,.bool xd,.int .u64 xb] 171;have db:=s.size;have bl:=X D;have cm:=X s;have cl:=X bE;clear bE br D s)
    |(at_builtin;refine cC _ rfl (.tmp 48) (.tmp 50) 73 rfl (z (G a)) 171 i0 xg 4 48 underlying73 bs ca cb cc rfl (by decide) (.slice ox n F) n (aI (e.take n)) rfl bl (R (z (G K)+1) 0) 1 1 (aI [⟨xk,xv,xd,xb⟩]) rfl rfl (zG ⟨xk,xv,xd,xb⟩ _ (by simp)) (Dd _) (by omega) (by omega) (by simp;omega) ?_;intro o2 w6 i ax;have cj:=X i;have co:=X ax;clear i ax))
   go_roundw;case rel=>
    refine⟨n+1,P,by go_num,?_⟩;have k:=J HA;have s:=J cm;have T:=J co;have i:=J cj;have cT:=k.own.lt;have bL:Z (λu=>cI (I ox n F)=H u) K w6:=(((Z.refl (λu=>cI (I ox n F)=H u) K).alloc _).alloc _).trans (Z.ep (S:=λu=>cI (I ox n F)=H u) T.grown<|λu j=>.inl j)<|λu j=>.inl j;have an:∀u,u<z (G K)->cI (I ox n F)≠H u->cI o2≠H u:=by
     intro u j hn aa;rcases T.vQ with cw|⟨ba,cw,hg⟩
     .grind
     .rw[cw]at aa;cases aa;simp at hg;omega
    refine⟨?_,?_,?_,?_,k.C6,⟨an _ (by omega) k.ne.1,an _ (by omega) k.ne.2⟩,?_⟩
    .rw[<-J cn];exact i
    .have hr:=J cl;have cq:=hr.laid<|dP K (ay #[am xk,am xv,aM xd,aG xb] 171) none;have cr:=cq.laid<|dP _ (ay #[am xk,am xv,aM xd,aG xb] 171) none;exact cr.wrote T k.xO
    .exact(k.box.aj s<|by omega).aj bL<|λe=>k.ne.2 e
    .refine(k.R8.trans<|s.below k.R8.size<|by grind).trans<|bL.below (by omega)<|by grind
    .intro u j;rcases T.vQ with cw|⟨ba,cw,hg⟩
     .exact k.xO u<|cw.symm.trans j
     .rw[cw]at j;cases j;simp at hg;omega
   case measure=>simp[intOf];omega
  .have cj:n=y e:=by omega
   subst cj;have q:=k.rd;rw[gz]at q;have ce:∀W,W.heap=wr.heap->cY bA 127 #[aD<|z<|G w] W λaa N=>aa=aN (aM cf)/\N=W:=by
    intro W D;have:=yY (q.of_heap D) (by simp[fU]);simpa[fU]using this
   have hE:kJ wr (I ox (y e) F) e:=by
    have h1:=dR g;rw[ho,aY]at h1;exact h1
   have bq:∀aU,cI (I ox (y e) F)=H aU->aU<z (G wr):=λaU L=>by rw[<-ho]at L;exact(g.lt aU L).2
   have p:∀W,W.heap=wr.heap->cY bA 306 #[I ox (y e) F] W λaa N=>aa=aN (aM cf)/\Below (z<|G W) W N:=by
    intro W D;refine Pn (I ox (y e) F) W ?_ HS (by omega) (by grind);obtain⟨h1,⟨h2,h0⟩|⟨ba,br,T,h2,bl,bL⟩⟩:=hE
    .grind
    .exact⟨h1,.inr ⟨ba,br,T,h2,bl,λj u b=>(dy (w:=wr)<|by rw[D]).trans<|bL j u b⟩⟩
   obtain⟨bE,⟨an,co⟩|⟨ba,d,cm,an,bg,C⟩⟩:=hE
   .omega
   have ao:=(eQ e 0 bu).1;have ax:=(eQ e (y e-1)<|by omega).1;have f0:aW wr (R ba<|d+0*4)=H (am e[0].key):=C _ _ ao;have fL:aW wr (R ba<|d+(y e-1)*4)=H (am e[y e-1].key):=C _ _ ax;rw[<-J bi]at f0;rw[<-J bk]at fL;cases an;subst ho;clear k g q bE bg C ao ax;rw[AX,kL]at f0;have m:Below (z<|G a) a wr:=HA.R8;have B:∀W,Below (z<|G wr) wr W->∃v',Ending.returned (dA #[bI ba d (y e) F,aM cf])=aN (dA #[v',aM cf])/\W.ownsRow (z<|G a) 171 4 v' (y e) (aI e)/\Below (z<|G a) a W:=by
    intro W D;have k:=J HA;have h1:=k.own;rw[aY]at h1;refine⟨_,rfl,?_,m.trans<|D.mono m.size⟩;exact(Z.aQ (S:=aw) D).own h1<|λ_ _ e=>e
   have Q:=X B;have bf:=bq ba rfl;have v:z (G a)<z (G wr):=ak HA.box;clear B m ch bi bk O aF ad bm x ac bn bh HA HG HS HB bT bv bq;obtain⟨s,hp⟩:∃s,y e-1=s:=⟨_,rfl⟩;have e1:(y e:U)-1=(s:U):=by omega
   have e2:(s:U)<(y e:U):=by omega
   have e3:(0:U)<=(s:U):=by omega
   have e4:s<y e:=by omega
   have e5:¬((y e:U)<(y e:U)):=by omega
   have e6:s<=1000:=by omega
   have e9:IntKind.i64.wrap (s:U)=(s:U):=by rw[bP];omega
   have cn:wrap64 (s:U)=(s:U):=by unfold wrap64;omega
   rw[hp]at fL;have ck:∀W,W.heap=wr.heap->cY bA 306 #[bI ba d (y e) F] W λaa N=>aa=aN (aM cf)/\Below (z<|G W) W N:=p;clear p hp;go_wp2_with fail
   go_region_held3(λc=>aW c (R ba d)=H (am first)/\aW c (R ba<|d+s*4)=H (am b)/\aW c (R (z<|G a) 3)=H (am first)/\aW c (R (z<|G a) 4)=H (am b)) (first|assumption|go_keep) (first
    |(go_at_call 127;refine(ce wr.drew rfl).mono ?_;rintro aa w4⟨rfl,cl⟩;subst cl)
    |(go_at_call 306;refine(ck wr.drew rfl).mono ?_;rintro aa K⟨rfl,i⟩;have a0:aW K (R ba d)=H (.string first):=(i.cell (p:=(R ba d)) bf).trans f0;have a1:aW K (R ba (d+s*4))=H (.string b):=(i.cell (p:=(R ba (d+s*4))) bf).trans fL;have a2:aW K (R (z (G a)) 3)=H (.string first):=(i.cell (p:=(R (z (G a)) 3)) v).trans q3;have a3:aW K (R (z (G a)) 4)=H (.string b):=(i.cell (p:=(R (z (G a)) 4)) v).trans q4;have bx:=X i;clear i))
   go_wp2;go_ret2
   have i:=J bx;exact Q _ ⟨i.os,i.tape,i.output,i.size,i.block⟩
variable{C:mM}
def eS(l:mM):ix:=l.flatMap rV.cells
theorem Dz(l:mM):y (eS l)=y l*5:=by
 induction l with
 |nil=>rfl
 |cons e r a=>unfold eS at*;rw[dY,af,a];simp[rV.cells];omega
def iL(l:mM)(n j:M)(h:n<y l)(b:j<5):(eS l)[n*5+j]?=(rV.cells l[n])[j]?:=by
 have e:eS l=eS (l.take n)++(rV.cells l[n]++eS (l.drop<|n+1)):=by(have a:l=l.take n++l[n]::l.drop (n+1):=by rw[<-bJ h,bO]);(conv=>lhs;rw[a]);simp only[eS,fJ,dY]
 grind[Dz,getElem?_append_right,getElem?_append_left]
structure lZ(w:Y)(tb:M)(dv:ab)(number cut isize sum:U)(bb boff ya:M)(dav:ab)(ks:mM):Prop where
 box:w.heap[tb]?=H (ay #[dv,aG number,dI cut,dI isize,dI sum,bI bb boff (y ks) ya,dav] 247 (0,0))
 cells:∀j u,(eS ks)[j]?=H u->aW w (R bb<|boff+j)=H u
 ne:0<y ks
 le:y ks<=ya
 small:y ks<=1000000000
def Uv{e cut g j:U}(h:lZ a b d e cut g j c i l t C):cY bA 131 #[aD b] a λn m=>n=aN (am (C[0]'h.ne).first)/\m=a:=by
 have k:=cellAt h.box 5 rfl;have f:=h.ne;have o:aW a (R c<|i+3)=H (am (C[0]'f).first):=h.cells _ _ (iL C 0 3 f<|by decide);have p:(0:U)<(y C:U):=by omega
 generalize(C[0]'f).first=s at*;clear h;go_in
 go_wp2;go_ret;simp_all
def WK{e cut f g:U}(h:lZ a b d e cut f g c i l t C):cY bA 130 #[aD b] a λr o=>r=aN (am (C[y C-1]'(by have:=h.ne;omega)).last)/\∃q,o=a.drewN q:=by
 have k:=cellAt h.box 5 rfl;have m:=h.ne;have n:=h.small;obtain⟨p,j⟩:∃p,y C-1=p:=⟨_,rfl⟩;have x:aW a (R c<|i+p*5+4)=H (am (C[y C-1]'(by omega)).last):=by subst j;rw[bD];exact h.cells _ _<|iL C (y C-1) 4 (by omega)<|by decide
 have s:(y C:U)-1=(p:U):=by omega
 have u:(p:U)<(y C:U):=by omega
 have v:(0:U)<=(p:U):=by omega
 have w:p<y C:=by omega
 generalize(C[y C-1]'(by omega)).last=A at*;clear h j;go_in
 go_wp2;go_quiet(fail)
 go_wp2;go_ret;exact⟨rfl,nq,rfl⟩
def PQ(m:M){bk:M}{e cut f k:U}(g:ae)(h:lZ a b d e cut f k c i l t C)(o:eX a m (aD b) 179)(n:eX a bk (am g) 9)(j:M)(s:j<y C):cY bA 318 #[aq j,aD m,aD bk] a λv u=>v=aN (aM<|!jj C[j].last g)/\∃q,u=a.drewN q:=by
 have p:=cellAt h.box 5 rfl;have A:aW a (R c<|i+j*5+4)=H (am C[j].last):=by rw[bD];exact h.cells _ _<|iL C j 4 s<|by decide
 have c1:=o.cell;have c2:=n.cell;have r:=KL;have w:(j:U)<(y C:U):=by omega
 have x:(0:U)<=(j:U):=by omega
 unfold jj;generalize C[j].last=B at*;clear h o n;go_in
 go_wp2;go_quiet(fail)
 go_wp2;go_ret;exact⟨rfl,nq,rfl⟩
def lZ.below{e cut g h:U}{B:M}(j:lZ a b d e cut g h c i l t C)(k:Below B a f)(m:b<B)(n:c<B):lZ f b d e cut g h c i l t C:=⟨(k.block b m).trans j.box,λq u o=>(k.cell (p:=(R c<|i+q)) n).trans<|j.cells q u o,j.ne,j.le,j.small⟩
def lZ.lt{e cut g h:U}(j:lZ a c d e cut g h i l F t C):c<z (G a)/\i<z (G a):=⟨ak j.box,cF a (R i<|l+(0*5+0))<|j.cells _ _<|iL C 0 0 j.ne<|by decide⟩
def Bv{f cut n D:U}(e:ae)(h:lZ a b d f cut n D c i l t C)(hs:C.Pairwise (λT an=>jj T.last an.last=cf)):cY bA 314 #[aD b,am e] a λV w'=>∃E:M,V=aN (aq E)/\E<=y C/\(∀j(g:j<y C),j<E->jj C[j].last e=cf)/\(∀j(g:j<y C),E<=j->jj C[j].last e=bw)/\Below (z<|G a) a w':=by
 have o:=h.lt;have w:Below (z<|G a) a (dd (dd a<|ay #[aD b] 179)<|ay #[am e] 9):=((Below.refl _ a).alloc (ag _) _).alloc (by simp) _;have r:=h.below w o.1 o.2;have ac:=cellAt r.box 5 rfl
 have p:=Ar #[aD<|z<|G a,aD<|z (G a)+1] (y C) (λj=>if g:j<y C then !jj C[j].last e else cf) (dd (dd a<|ay #[aD b] 179)<|ay #[am e] 9) (enters_of func318 (by kernel_rfl) rfl) (by have:=h.small;omega) (by
  intro T an aa B W;have v:T<y C:=by omega
  simp only[B,v,AU]at W|-;grind[Nat.lt_or_eq_of_le,pairwise_iff_getElem,la])
  (by
   intro j g al k;have u:=r.below k (by simp;omega) (by simp;omega);have x:eX al (z (G a)) (aD b) 179:=(k.block _ (by simp;omega)).trans (eX.alloc (aK _ rfl) _);have A:eX al (z (G a)+1) (am e) 9:=(k.block _ (by simp)).trans (aK _ (by simp));apply(PQ (z (G a)) e u x A j g).mono;rintro V W'⟨rfl,q,rfl⟩;simp only[g,AU];exact⟨trivial,below_drewN (Below.refl _ _) _⟩)
 have s:=X p;have HB:=X w;have ad:=r.lt.1;clear p r w h hs;go_in
 go_wp2_with(go_at_call 204;refine s.mono ?_;rintro V w1⟨E,rfl,F,K,L,N⟩;have O:=X F;have P:=X K;have Q:=X L;have S:=X N;clear F K L N)
 go_ret;refine⟨E,rfl,O,λj g m=>?_,λj g m=>?_,HB.trans<|S.mono HB.size⟩;have:=P j m;grind
 have:=Q j m g;grind
structure nT(V:ja)(n0 tb:M)(ks:mM)(cs:dX)(w:Y):Prop where
 mem:∃dv number cut isize sum bb boff ya dav,lZ w tb dv number cut isize sum bb boff ya dav ks/\(tb<n0/\¬V.F tb)/\(bb<n0/\¬V.F bb)
 len:y ks=y cs
 FT:∀i(hi:i<y ks)(hc:i<y cs),ks[i].Of cs[i]
 jf:∀c∈cs,∀x∈c,x.Good
 mJ:eh cs.flatten
 GW:cs.Pairwise ii
 small:∀c∈cs,y c<=1000
 bytes:∀i(hi:i<y ks)(hc:i<y cs)W,kS V n0 aw w W->V.D W->cY bA 319 #[aD tb,ks[i].value] W λe W'=>
  (∃b off cap,e=aN (dA #[bI b off ks[i].size cap,.nilIface])/\ks[i].size<=cap/\Bytes W' (bI b off ks[i].size cap) (gS<|fU cs[i])/\V.D W'/\Z V.F W W')\/EA V W W' V.F e (λv=>dA #[az,v])
 steps:Steps w
 Bi:1<n0/\¬V.F 1
def lZ.same{V:ja}{n0:M}{S:fh}{e cut g h:U}(j:lZ a b d e cut g h c i l t C)(k:kS V n0 S a f)(m:b<n0/\¬V.F b)(n:c<n0/\¬V.F c):lZ f b d e cut g h c i l t C:=⟨(k.2 b<|.inl m).trans j.box,λp u o=>k.cell (.inr n)<|j.cells p u o,j.ne,j.le,j.small⟩
def Steps.same{V:ja}{n0:M}{S:fh}(h:Steps a)(d:kS V n0 S a f)(b:1<n0/\¬V.F 1):Steps f:=λk c=>d.cell (.inr b)<|h k c
def nT.same{V:ja}{n0 d:M}(h:nT V n0 d C m a)(j:kS V n0 aw a f):nT V n0 d C m f:=by
 obtain⟨p,c,cut,e,k,o,g,b,i,u,l,n⟩:=h.mem;exact⟨⟨p,c,cut,e,k,o,g,b,i,u.same j l n,l,n⟩,h.len,h.FT,h.jf,h.mJ,h.GW,h.small,λv t s W r q=>h.bytes v t s W (j.trans r) q,h.steps.same j h.Bi,h.Bi⟩
def MF(h:nT s b c C m a)(hD:s.D a)(hn:b<=z (G a))(hF:∀an,s.F an->an<b)(n:M)(B:n<y C)(hc:n<y m):cY bA 315 #[aD c,aq n] a λbf P=>(∃O,bf=aN (dA #[O,.nilIface])/\P.ownsRow (z<|G a) 171 4 O (y m[n]) (aI m[n])/\s.D P/\Z s.F a P)\/EA s a P s.F bf (λbq=>dA #[az,bq]):=by
 obtain⟨dv,al,cut,bc,bo,V,i,ad,bk,E,bn,bl⟩:=h.mem;have bm:=cellAt E.box 5 rfl;have g0:aW a (R V<|i+n*5)=H (aq C[n].pos):=E.cells _ _ (iL C n 0 B<|by decide);have g1:aW a (R V<|i+n*5+1)=H (aq C[n].size):=by rw[bD];exact E.cells _ _<|iL C n 1 B<|by decide
 have g2:aW a (R V<|i+n*5+2)=H (aq C[n].count):=by rw[bD];exact E.cells _ _<|iL C n 2 B<|by decide
 have g3:aW a (R V<|i+n*5+3)=H (am C[n].first):=by rw[bD];exact E.cells _ _<|iL C n 3 B<|by decide
 have g4:aW a (R V<|i+n*5+4)=H (am C[n].last):=by rw[bD];exact E.cells _ _<|iL C n 4 B<|by decide
 have e2:(n:U)<(y C:U):=by omega
 have e3:(0:U)<=(n:U):=by omega
 have p:=ar hc;have W:=h.FT n B hc;have A:=h.jf _ p;have t:=h.small _ p;have aa:eh m[n]:=h.mJ.sub<|dw p;have r:=h.bytes n B hc;have L:=h.steps;have u:=h.Bi;have bh:∀(x:Bool)(a:Y),(Op.unary .not<|aM x).run bA a=.ok (aM<|!x) a:=λ_ _=>rfl;have ba:∀an,b<=an->¬s.F an:=(by grind);obtain⟨pos,e,d,first,f,aV⟩:∃pos e d first f,C[n]=⟨pos,e,d,first,f⟩:=⟨_,_,_,_,_,rfl⟩
 rw[aV]at g0 g1 g2 g3 g4 W r;simp only at g0 g1 g2 g3 g4;unfold rV.value at r;simp only at r;have o:Z aw a (dd a<|ay #[aq pos,aq e,aq d,am first,am f] 320):=(cO _ _);have aF:=r _ (o.same hn cJ cJ)<|s.fc hD o cJ;have bg:=(E.lt).2;have au:=X (show∀k,Z s.F (dd a<|ay #[aq pos,aq e,aq d,am first,am f] 320) k->Steps k fromλk ht=>(L.same (S:=aw) (o.same (V:=s) hn cJ cJ) u).same (S:=aw) (ht.same (V:=s) (by simp;omega) cJ<|λan hk _=>hk) u);have HX:=X (show∀k bd g l,Z s.F (dd a<|ay #[aq pos,aq e,aq d,am first,am f] 320) k->e<=l->Bytes k (bI bd g e l) (gS<|fU m[n])->cY bA 320 #[bI bd g e l,dL #[aq pos,aq e,aq d,am first,am f]] k λbf P=>∃O,bf=aN (dA #[O,aM cf])/\P.ownsRow (z<|G k) 171 4 O (y m[n]) (aI m[n])/\Below (z<|G k) k P from by intro k bd g l ht D hB;exact Ff bd g l ⟨pos,e,d,first,f⟩ (au k ht) W A aa t D hB);have Q:=X ba;go_in
 go_wp2_with fail
 refine aF.mono ?_;rintro bf k(⟨bd,g,l,rfl,D,hB,x,j⟩|⟨hX,q,rfl,hq,x,j⟩);rotate_left;(.have w:=X<|(o.mono (T:=s.F) cJ).trans j<|λan hk=>.inl hk;have N:AO k (z<|G a) ⟨pos,e,d,first,f⟩:=AO.aj (aK _ rfl) j<|Q _ hn;obtain⟨k0,k1,k2,k3,k4⟩:=N.cells;simp only at k0 k1 k2 k3 k4;obtain⟨av,HQ,v⟩:=dF hX hq x;go_wp2;(go_ret2);exact .inr ⟨av,q,rfl,HQ,v,w⟩);have N:AO k (z<|G a) ⟨pos,e,d,first,f⟩:=AO.aj (aK _ rfl) j<|Q _ hn;obtain⟨k0,k1,k2,k3,k4⟩:=N.cells;simp only at k0 k1 k2 k3 k4;have hz:=j.size;simp at hz;have w:=X<|(o.mono (T:=s.F) cJ).trans j<|λan hk=>.inl hk;have bb:=HX k bd g l j D hB;obtain⟨v,bi⟩:=And.intro (X x) (X j);go_wp2_with(go_at_call 320;refine bb.mono ?_;rintro bf w3⟨O,rfl,F,aU⟩;have ap:=X F;have ao:=X aU)
 go_ret2
 have ac:Z aw k w3:=Z.aQ ao;refine .inl ⟨O,rfl,?_,s.fc v ac cJ,w.cz ac⟩;obtain⟨h1,⟨h2,h0⟩|⟨bp,cp,ax,h2,hb,K⟩⟩:=J ap;exact⟨h1,.inl ⟨h2,h0⟩⟩;exact⟨h1,.inr ⟨bp,cp,ax,h2,by omega,K⟩⟩
def nT.BK(h:nT s b c C m a):C.Pairwise (λo p=>jj o.last p.last=cf):=by
 refine cV.2<|λl n j k f=>?_;have d:l<y m:=by have:=h.len;omega
 have e:n<y m:=by have:=h.len;omega
 have g:=h.FT l j d;have i:=h.FT n k e;rw[g.last,i.last];have:=cV.1 h.GW l n d e f;have q:=g.ne;have r:=i.ne;exact this _ (by simp) _<|by simp
def nT.Dm(p:nT s b c C m a)(e:ae)(k:M)(q:∀i(t:i<y C),i<k->jj C[i].last e=cf):((m.drop k).map<|gm e).flatten=gm e m.flatten:=by
 have n:m.flatten=(m.take k).flatten++(m.drop k).flatten:=by rw[<-dW,bO]
 have w:gm e (m.take k).flatten=[]:=by unfold gm;rw[ie];intro A u;obtain⟨x,r,h⟩:=bC.1 u;obtain⟨i,t,rfl⟩:=eC r;rw[kA]at h;(have d:i<k/\i<y m:=by grind);(have f:i<y C:=by have:=p.len;omega);have v:=p.FT i f d.2;have g:eh m[i]:=p.mJ.sub<|dw<|ar d.2;have j:=q i f d.1;rw[v.last]at j;have l:=g.EN v.ne h;rw[yQ l j];simp
 have o:∀l:dX,(l.map<|gm e).flatten=gm e l.flatten:=by
  intro l;induction l with
  |nil=>rfl
  |cons f r d=>simp only[bR,bW,d];unfold gm;rw[li]
 rw[o,n];grind
theorem Ho(bt:M)(k:M)(K:ae)(h:nT s b c C m a)(ht:eX a bt (aD c) 179)(hg:eX a i (aq k) 3)(W:eX a F (am K) 9)(hn:b<=F)(hD:s.D a)(ao:b<=z (G a))(hF:∀k,s.F k->k<b)(D:M)(hi:k+D<y C)(hc:k+D<y m):cY bA 317 #[aq D,aD bt,aD i,aD F] a λap w'=>(∃v' S',ap=aN (dA #[v',.nilIface])/\jp s b v' (gm K m[k+D]) S' w'/\s.D w'/\Z s.F a w'/\(∀k,S' k->z (G a)<=k))\/∃ba,EA s a w' s.F ap (λaU=>dA #[ba,aU]):=by
 have c1:=ht.cell;have c2:=hg.cell;have c3:=W.cell;have S:=MF h hD ao hF (k+D) hi hc;have f:=ar hc;have u:eh m[k+D]:=h.mJ.sub<|dw f;have an:=h.small _ f;have t:k+D<1000000000:=by grind[nT.mem,lZ.small]
 have P:=ak W;have Q:¬s.F F:=(by grind);obtain⟨HL,HS,N,HF⟩:=gw W u (show∀ax∈m[k+D],ax.bQ<18446744073709551616 fromλax hx=>(h.jf _ f ax hx).b1) hF;clear ht hg W h hD f hF u hi;have V:IntKind.i64.wrap ((k:U)+(D:U))=((k+D:M):U):=by rw[bP];omega
 have v:wrap64 ((k:U)+(D:U))=((k+D:M):U):=by unfold wrap64;omega
 obtain⟨av,hm⟩:∃av,k+D=av:=⟨_,rfl⟩;simp only[hm]at S an HS N V v t|-;have au:(k:U)+(D:U)=(av:U):=by omega
 generalize m[av]=aV at*;clear hm V v;go_in
 go_wp2_with fail
 refine S.mono ?_;rintro ap L(⟨v1,rfl,e,j,d⟩|⟨hX,q,rfl,hq,j,d⟩);(.have al:aW L (R F 0)=H (am K):=d.cell c3 Q P;have O:kJ L v1 aV:=dR e;have r:=e.lt;have T:=d.size;have B:=Gy s b K O HS N (by omega) (λk E=>⟨λa=>by have:=HF k a;have:=(r k E).1;omega,(r k E).2⟩) (by omega) HF;obtain⟨x,A,ac⟩:=dF j d r;clear e j d O r;(go_wp2_with(go_at_call 305;refine B.mono ?_;rintro ap w2⟨v2,S2,rfl,p,n,o⟩;have aa:=X p;have w:=X n;have ad:=X o;clear p n o));(go_ret2);have g:Z aw L w2:=Z.aQ w;refine .inl ⟨v2,S2,rfl,aa,s.fc x g cJ,A.cz g,λk' E=>?_⟩;rcases ad k' E with aF|aF;exact(ac k' aF.1).1;omega);have al:aW L (R F 0)=H (am K):=d.cell c3 Q P;have T:=d.size;have B:=Gy s b K (v:=az) (l:=[]) (w:=L) ⟨rfl,.inl ⟨rfl,rfl⟩⟩ .nil (λax hx=>by cases hx) (by simp) (λk E=>by cases E) (by omega) HF;obtain⟨x,A,r⟩:=dF j d hq;clear j d hq;(go_wp2_with fail);refine B.mono ?_;rintro ap w2⟨v2,S2,rfl,p,n,o⟩;have w:=X n;clear p n o;go_wp2;(go_ret2);have g:Z aw L w2:=Z.aQ w;exact .inr ⟨v2,hX,q,rfl,r.aj g cJ,s.fc x g cJ,A.cz g⟩
def VG(V:ja)(b a h e g k:M)(q:mM)(i:dX)(r:ae)(o:y q=y i):Ad V b ((i.drop k).map<|gm r)where
 f:=317
 cb:=#[aD h,aD e,aD g]
 inv:=λW=>nT V b a q i W/\(eX W h (aD a) 179/\eX W e (aq k) 3/\eX W g (am r) 9)/\(b<=h/\b<=e/\b<=g)/\b<=z (G W)/\∀k,V.F k->k<b
 S:=λx=>x=h\/x=e\/x=g
 Vq:=enters_of func317 (by kernel_rfl) rfl
 call:=by
  rintro u t w⟨n,⟨j,l,m⟩,p,d,hF⟩s;have c:k+u<y i:=by grind
  rw[kX,ql];grind[Ho]
 fc:=by
  rintro W s⟨n,⟨j,l,m⟩,p,d,hF⟩c;exact⟨n.same<|c.mono cJ,⟨j.same c<|.inl rfl,l.same c<|.inr<|.inl rfl,m.same c<|.inr<|.inr rfl⟩,p,aB d c.1,hF⟩
 lt:=by
  grind
def DP{n0 tbqq:M}{ks:mM}{cs:dX}(f:ae)(h:nT s n0 tbqq ks cs a)(hD:s.D a)(u:n0<=z (G a))(hF:∀k,s.F k->k<n0):cY bA 313 #[aD tbqq,am f] a λad i=>∃w r,ad=aN w/\jp s n0 w (gm f cs.flatten) r i/\s.D i/\Z s.F a i/\(∀k,r k->z (G a)<=k):=by
 have j:Below (z<|G a) a (dd (dd a<|ay #[aD tbqq] 179)<|ay #[am f] 9):=((Below.refl _ a).alloc (ag _) _).alloc (by simp) _;obtain⟨dv,E,cut,aa,aU,K,g,d,an,C,av,ao⟩:=h.mem;have e:=C.lt;have Q:=Bv f (C.below j e.1 e.2) h.BK;have q:=h.len;have au:=C.small
 have HX:=X (show∀(c:Y)(k:M),Below (z<|G<|dd (dd a<|ay #[aD tbqq] 179)<|ay #[am f] 9) (dd (dd a<|ay #[aD tbqq] 179)<|ay #[am f] 9) c->k<=y ks->(∀d(e:d<y ks),d<k->jj ks[d].last f=cf)->∀W,W.heap=(dd c<|ay #[aq k] 3).heap->Z aw (dd c<|ay #[aq k] 3) W->cY bA 311 #[aq ((y ks-k:M):U),.func (.func 317) #[] #[aD<|z<|G a,aD<|z<|G c,aD<|z (G a)+1]] W λad i=>∃w r,ad=aN w/\jp s n0 w (gm f cs.flatten) r i/\s.D i/\Z s.F a i/\(∀k,r k->z (G a)<=k)/\Below (z<|G W) W i from by
  intro c k b hk P W t N;have v:=b.size;simp at v;have m:Z aw a W:=(((Z.aQ (S:=aw) j).cz<|Z.aQ (S:=aw) b).alloc _).cz N;have T:eX c (z<|G a) (aD tbqq) 179:=(b.block _ (by simp;omega)).trans<|eX.alloc (aK _ rfl) _;have V:eX c (z (G a)+1) (am f) 9:=(b.block _<|by simp).trans (aK _<|by simp);have y1:eX W (z<|G a) (aD tbqq) 179:=by rw[eX,t];exact T.alloc _
  have y2:eX W (z (G a)+1) (am f) 9:=by rw[eX,t];exact V.alloc _
  have y3:eX W (z<|G c) (aq k) 3:=by rw[eX,t];exact aK _ rfl
  have L:nT s n0 tbqq ks cs W:=h.same<|m.same u cJ cJ;have A:=JC (VG s n0 tbqq (z<|G a) (z<|G c) (z (G a)+1) k ks cs f q) W ⟨L,⟨y1,y3,y2⟩,⟨u,by omega,by omega⟩,aB u m.size,hF⟩ (by grind) hF (by simp;omega);have hl:y ((cs.drop k).map<|gm f)=y ks-k:=by simp;omega
  rw[hl]at A;apply A.mono;rintro ad i⟨w,r,rfl,hg,hb,hS⟩;rw[h.Dm f k P]at hg;have D:Z aw W i:=Z.aQ hb;have n:=m.cz D;refine⟨w,r,rfl,hg,s.fc hD n cJ,n.mono cJ,λaV hx=>?_,hb⟩;have aF:=m.size;rcases hS aV hx with(al|al|al)|al
  .omega
  .omega
  .omega
  .omega)
 have l:∀W,Below (z<|G a) a W->aW W (R tbqq 5)=H (bI K g (y ks) d):=λW b=>by rw[ct (C.below b e.1 e.2).box];rfl
 have F:=X l;have HB:=X j;have ax:=e.1;clear h C hD hF l j e q;go_in
 go_wp2_with(go_at_call 314;refine Q.mono ?_;rintro ad c⟨k,rfl,hk,B,O,b⟩;have o:Below (z<|G a) a c:=HB.trans<|b.mono HB.size;have l:=F c o;have v:=b.size;have x1:aW c (R (z<|G a) 0)=H (aD tbqq):=eX.cell<|(b.block _ (by simp;omega)).trans<|eX.alloc (aK _ rfl) _;have x:=X<|HX c k b hk B;clear B O b o)
 simp at v;have q1:z (G a)<z (G c):=by omega
 have q2:tbqq<z (G c):=by omega
 obtain⟨ac,hd⟩:∃ac,y ks-k=ac:=⟨_,rfl⟩;rw[hd]at x;have q3:(y ks:U)-(k:U)=(ac:U):=by omega
 have q4:ac<=1000000000:=by omega
 have q6:IntKind.i64.wrap (ac:U)=(ac:U):=by rw[bP];omega
 clear hd
 go_region_held3(λb=>aW b (R (z<|G a) 0)=H (aD tbqq)/\aW b (R tbqq 5)=H (bI K g (y ks) d)/\aW b (R (z<|G c) 0)=H (aq k)) (first|assumption|go_keep) (first
  |(go_at_call 311;refine(x ((dd c (.cells #[.int .i64 k] 3)).drew) rfl ⟨rfl,rfl,rfl,ag _,λ_ _ _=>rfl⟩).mono ?_;rintro ad w2⟨v2,S2,rfl,r1,r2,r3,r4,r5⟩;have R1:=X r1;have R2:=X r2;have R3:=X r3;have R4:=X r4;have ap:aW w2 (R (z (G a)) 0)=H (aD tbqq)/\aW w2 (R tbqq 5)=H (bI K g (y ks) d)/\aW w2 (R (z (G c)) 0)=H (.int .i64 k):=⟨(r5.cell (p:=(R (z (G a)) 0)) (by simp;omega)).trans (by rw[bF,qg _ _ _ q1];exact x1),(r5.cell (p:=(R tbqq 5)) (by simp;omega)).trans (by rw[bF,qg _ _ _ q2];exact l),(r5.cell (p:=(R (z (G c)) 0)) (by simp)).trans (by simp)⟩))
 go_wp2;go_ret;exact⟨v2,S2,rfl,R1,R2,R3,R4⟩
structure AN(ks:mM)(key:ae)(k:M):Prop where
 le:k<=y ks
 low:∀i(hi:i<y ks),i<k->jj ks[i].last key=cf
 wz:∀i(hi:i<y ks),k<=i->jj ks[i].last key=bw
def SG(l:C.Pairwise (λj f=>jj j.last f.last=cf))(d:ae):∃k,AN C d k:=by
 induction C with
 |nil=>exact⟨0,ag _,λi a=>by simp at a,λi a=>by simp at a⟩
 |cons f r h=>
  obtain⟨m,g⟩:=bz.1 l;cases c:jj f.last d with
  |true=>
   obtain⟨k,e⟩:=h g;refine⟨k+1,by have:=e.le;simp;omega,λi a b=>?_,λi a b=>?_⟩
   .cases i with
    |zero=>exact c
    |succ i=>exact e.low i (by simpa using a)<|by omega
   .cases i with
    |zero=>omega
    |succ i=>exact e.wz i (by simpa using a)<|by omega
  |false=>
   refine⟨0,bK _,λi a b=>by omega,λi a _=>?_⟩;grind[getElem_mem,la]
def AN.eq(h:AN C r b)(a:AN C r c):b=c:=by
 rcases nJ b c with e|e|e;have f:=a.low b (by have:=a.le;omega) e;have d:=h.wz b (by have:=a.le;omega)<|ag _;rw[f]at d;cases d;exact e;have f:=h.low c (by have:=h.le;omega) e;have d:=a.wz c (by have:=h.le;omega)<|ag _;rw[f]at d;cases d
def nT.BW(o:nT s b c C m a)(t:AN C r i)(x:E)(w:x∈m.flatten)(h:x.key=r):∃j:i<y m,x∈m[i]:=by
 obtain⟨D,j,g⟩:=bC.1 w;obtain⟨n,q,rfl⟩:=eC j;have d:n<y C:=by have:=o.len;omega
 have A:=o.FT n d q;have l:eh m[n]:=o.mJ.sub<|dw j;have k:=l.EN A.ne g;rcases nJ n i with v|v|v;have:=t.low n d v;rw[A.last]at this;have:=yQ k this;rw[h,fT]at this;cases this;grind
 (have f:i<y C:=by omega);(have e:i<y m:=by omega);have u:=o.FT i f e;have p:=t.wz i f<|ag _;rw[u.last]at p;have B:=u.ne;have:=cV.1 o.GW i n e q v _ (ar<|show y m[i]-1<y m[i]by omega) x g;rw[h,p]at this;cases this
def nT.zC(k:nT s b c C m a)(l:AN C r i)(n:∀(t:i<y C),jj r C[i].first=cf)(q:U):iI q m.flatten r=none:=by
 refine rQ<|λx o e=>?_;obtain⟨h,g⟩:=k.BW l x o e;have d:i<y C:=by have:=k.len;omega
 have p:=k.FT i d h;have j:=n d;have f:eh m[i]:=k.mJ.sub<|dw<|ar h;rw[p.first,<-e,f.yW p.ne g]at j;cases j
def nT.Do(j:nT s b c C m a)(g:AN C r i)(f:i<y m)(e:U):iI e m.flatten r=iI e m[i] r:=BX f (λx h d=>j.BW g x h d) j.GW e
def Sn(V:ja)(w c:Y)(d:Option E)(e:Ending):Prop:=∃(a:E)(ok:Bool)(b:ab),e=aN (dA #[a.value,aM ok,b])/\(dA #[a.value,aM ok,b]=Gz d\/V.Xp/\a=zE/\ok=bw/\∃q,b=fj q/\AS c q)/\V.D c/\Z V.F w c
def Zu(t:TypeId)(a b:ae):binOp .gtr t (am a) (am b)=pure (aM !(Op.bytesLess a.toList b.toList||a.toList==b.toList)):=by simp[binOp,Op.stringOp]
def RY(a b:ae):(!(Op.bytesLess a.toList b.toList||a.toList==b.toList))=jj b a:=by
 show(!(jj a b||a.toList==b.toList))=jj b a;grind[lH,GU,fT,nN]
def DQ{n0 tbqq:M}{ks:mM}{cs:dX}(d:ae)(K:U)(h:nT s n0 tbqq ks cs a)(hD:s.D a)(n:n0<=z (G a))(hF:∀o,s.F o->o<n0):cY bA 310 #[aD tbqq,am d,aG K] a λaU w'=>Sn s a w' (iI K cs.flatten d) aU:=by
 obtain⟨o,r⟩:=SG h.BK d;have T:Below (z<|G a) a (dd a<|ay #[am ⟨#[]⟩,am ⟨#[]⟩,aM bw,aG 0] 171):=(Below.refl _ a).alloc (ag _) _;obtain⟨dv,aV,cut,bk,bt,bm,F,x,bn,hm,bs,bo⟩:=h.mem;have l:=hm.lt;have t:=h.len;have br:=hm.small;have ac:cY bA 314 #[aD tbqq,am d] (dd a<|ay #[am ⟨#[]⟩,am ⟨#[]⟩,aM bw,aG 0] 171) λaU w'=>aU=aN (aq o)/\Below (z<|G a) a w'/\jb w' (z<|G a) zE:=by apply(Bv d (hm.below T l.1 l.2) h.BK).mono;rintro aU w'⟨m,rfl,u,v,C,k⟩;obtain rfl:o=m:=r.eq ⟨u,v,C⟩;exact⟨rfl,T.trans<|k.mono T.size,(k.block _<|by simp).trans<|aK _ rfl⟩
 have B:∀al,Below (z<|G a) a al->aW al (R tbqq 5)=H (bI bm F (y ks) x):=λal A=>by rw[ct (hm.below A l.1 l.2).box];rfl
 have L:=X B;have bg:∀ba,n0<=ba->¬s.F ba:=(by grind);have w:=X bg;have O:=X<|λal(A:Below (z<|G a) a al)=>s.fc hD (Z.aQ (S:=aw) A) cJ;have bp:=Zu;by_cases W:o<y ks
 .have V:∀al,Below (z<|G a) a al->aW al (R bm<|F+o*5+3)=H (am ks[o].first):=λal A=>by rw[bD];exact(hm.below A l.1 l.2).cells _ _<|iL ks o 3 W<|by decide
  have ao:=X V;have e1:((o:U)==(y ks:U))=bw:=by simp;omega
  have e2:(o:U)<(y ks:U):=by omega
  have e3:(0:U)<=(o:U):=by omega
  have ax:=RY ks[o].first d;cases hfk:jj d ks[o].first with
  |true=>
   rw[hfk]at ax;have f:=h.zC r (λ_=>hfk) K;rw[f];have HL:=X t;generalize ks[o].first=fk at*;go_in
   go_wp2_with(go_at_call 314;refine ac.mono ?_;rintro aU g⟨rfl,c,b⟩;have B:=L g c;have V:=ao g c;obtain⟨z0,z1,z2,z3⟩:=b.cells;have y0:=b.free (i:=0);have y1:=b.free (i:=1);have y2:=b.free (i:=2);have y3:=b.free (i:=3);have j:=X b;have e:=X c)
   refine cy (fV rfl _ _ (z<|G a) zE _ _ rfl<|j.put zE) rfl ?_;have p:Below (z<|G a) a (yC g (z<|G a) zE):=e.trans ((jc g (z<|G a) zE).below e.size<|λba hx=>by omega);exact⟨zE,bw,.nilIface,rfl,.inl rfl,O _ p,Z.aQ p⟩
  |false=>
   rw[hfk]at ax;have D:o<y cs:=by omega
   rw[h.Do r D K];have bi:eh cs[o]:=h.mJ.sub<|dw<|ar D;have bq:=h.small _<|ar D;obtain⟨bc,bd,HL⟩:=dF (λal(A:Below (z<|G a) a al)=>MF (h.same<|(Z.aQ (S:=aw) A).same n cJ cJ) (O al A) (aB n A.size) hF o W D) bi t;generalize ks[o].first=fk at*;generalize cs[o]=bl at*;have av:=(λv(w2 g:Y)(a:w2.ownsRow (z<|G g) 171 4 v (y bl) (aI bl))=>BH d K (dR a) bd (by omega)<|λc b=>(a.lt c b).2);have ap:=X av;go_in
   go_wp2_with(go_at_call 314;refine ac.mono ?_;rintro aU g⟨rfl,c,b⟩;have B:=L g c;have V:=ao g c;have bh:=bc g c;have j:=X b;have e:=X c)
   refine bh.mono ?_;rintro aU w2(⟨v2,rfl,aa,Q,u⟩|⟨hX,q,rfl,hq,Q,u⟩)
   .have C:=ap v2 w2 g aa;obtain⟨v,N,P⟩:=dF (j.aj u<|w _ n) Q u;obtain⟨ad,ok,hy⟩:∃(ad:E)(ok:Bool),Gz (iI K bl d)=dA #[ad.value,aM ok,.nilIface]:=by
     cases iI K bl d with
     |none=>exact⟨zE,bw,rfl⟩
     |some ba=>exact⟨ba,cf,rfl⟩
    rw[hy]at C;have HY:=X hy;obtain⟨xk,xv,xd,xb⟩:=ad;unfold E.value at C;simp only at C;go_wp2_with(go_at_call 304;refine C.mono ?_;rintro aU w3⟨rfl,au⟩;have k:=v.aj (Z.aQ (S:=aw) au)<|λbl=>bl;obtain⟨z0,z1,z2,z3⟩:=k.cells;have y0:=k.free (i:=0);have y1:=k.free (i:=1);have y2:=k.free (i:=2);have y3:=k.free (i:=3);have bb:=X k;have an:=X au)
    refine cy (fV rfl _ _ (z<|G a) ⟨xk,xv,xd,xb⟩ _ _ rfl<|bb.put ⟨xk,xv,xd,xb⟩) rfl ?_;have aF:Z s.F a w3:=((Z.aQ (S:=s.F) e).trans P<|λo r=>.inl r).trans (Z.aQ (S:=s.F) an)<|λo r=>.inl r;have m:=jc w3 (z<|G a) ⟨xk,xv,xd,xb⟩;have bf:=s.fc N (Z.aQ (S:=aw) an) cJ;exact⟨⟨xk,xv,xd,xb⟩,ok,.nilIface,rfl,.inl HY.symm,s.fc bf m (λba hx=>by subst hx;exact w _ n),aF.trans m<|by simp⟩
   .have k:=j.aj u<|w _ n;obtain⟨z0,z1,z2,z3⟩:=k.cells;have y0:=k.free (i:=0);have y1:=k.free (i:=1);have y2:=k.free (i:=2);have y3:=k.free (i:=3);obtain⟨v,N,P,C⟩:=gw k Q u hq;go_wp2;refine cy (fV rfl _ _ (z<|G a) zE _ _ rfl<|v.put zE) rfl ?_;have m:=jc w2 (z<|G a) zE;exact⟨zE,bw,fj q,rfl,.inr ⟨hX,rfl,rfl,q,rfl,C.aj m v.sep⟩,s.fc N m (λba hx=>by subst hx;exact w _ n),((Z.aQ (S:=s.F) e).trans P<|λo r=>.inl r).trans m<|by simp⟩
 (have k:o=y ks:=by have:=r.le;omega);have f:=h.zC r (λa=>absurd a W) K;rw[f];(have e1:((o:U)==(y ks:U))=cf:=by simp;omega);subst k;have HL:=X t;(go_in);(go_wp2_with(go_at_call 314;refine ac.mono ?_;rintro aU g⟨rfl,c,b⟩;have B:=L g c;obtain⟨z0,z1,z2,z3⟩:=b.cells;have y0:=b.free (i:=0);have y1:=b.free (i:=1);have y2:=b.free (i:=2);have y3:=b.free (i:=3);have j:=X b;have e:=X c));refine cy (fV rfl _ _ (z<|G a) zE _ _ rfl<|j.put zE) rfl ?_;have p:Below (z<|G a) a (yC g (z<|G a) zE):=e.trans ((jc g (z<|G a) zE).below e.size<|λba hx=>by omega);exact⟨zE,bw,.nilIface,rfl,.inl rfl,O _ p,Z.aQ p⟩
def Ju{K:DK}{D:ci Mv}{c os:ci aX}(E:bY a b K)(j:∀S,Z S a f)(i:He f A b K.nb K.sb K.mv K.fx (c.map aX.nm) (y K.eP+1) (K.eP.map (·.1)++[d]) t)(x:uA f (d,D))(v:∀B,cI d=H B->z (G a)<=B)(o:∀g∈c++os,∃h∈K.files++K.nh,g.jM=h.jM/\g.data=h.data/\g.bytes=h.bytes/\g.safe=h.safe)(u:c.Pairwise js)(w:eV c<=eV K.files)(k:∀h∈os,∀g∈c,js g h)(l:os.Pairwise js):qQ a A b K {K with mv:=t,files:=c,eP:=K.eP++[(d,D)],nh:=os}:=by
 have q:bY f b K:=E.aj (j aw)<|λ_ _=>id;have F:∀g∈c++os,mi f g:=λg e=>by obtain⟨h,p,m,n,r,s⟩:=o g e;have:=q.all p;unfold mi at*;rw[m,n,r,s];exact this
 refine⟨q.named i x (by grind) u w (by grind) k l,?_,?_,Fx.refl _⟩
 .exact(j _).trans i.aj (by
   rintro r(rfl|rfl|C)
   .exact .inl<|.inl rfl
   .exact .inl<|.inr<|.inl rfl
   .exact .inl (.inr (.inr (.inr (.inl C)))))
 refine i.aL (j aw).size v<|λg e B C=>.inl ?_;obtain⟨h,p,m,n,_⟩:=o g e;exact .inr<|by grind
def Ir(a:ci aX)(n:ae):eV (jg a n)<=eV a:=by
 induction a with
 |nil=>exact ag _
 |cons f r b=>by_cases h:f.name=n<;>simp[jg,eV,h]at b|-<;>omega
theorem CG(a:ci aX)(f:aX):eV (mL a f)<=eV (jg a f.name)+y f.bytes:=by
 induction a with
 |nil=>simp[mL,jg,eV]
 |cons g r b=>by_cases h:g.name=f.name<;>simp[mL,jg,eV,h]at b|-<;>omega
def CH(h:dV P r=H O):eV (jg P r)+y O.bytes=eV P:=by
 induction P with
 |nil=>cases h
 |cons g b a=>
  by_cases e:g.name=r
  .simp[dV,e]at h;subst h;simp[jg,eV,e];omega
  .simp[dV,e]at h;have:=a h;simp[jg,eV,e]at this|-;omega
def Zh{K:DK}(c:ae)(t:bY a b K)(m:eU.get (K.files.map aX.nm) c=none)(p:dV K.files c=none)(A:y K.eP<=1000000000000):∃W:Y,W=dd (dd a<|ay #[az,aq 0] 88) (ay #[am c,aD<|z<|G a] 132)/\cY bA 147 #[aD b,bI (z (G a)+1) 0 1 1] W λe r=>e=aN (dA #[])/\∃s,qQ a r b K s/\xH (.cr c) K s:=by
 refine⟨_,rfl,?_⟩;have g:=(t.alloc<|ay #[az,aq 0] 88).alloc<|ay #[am c,aD<|z<|G a] 132;have i:(dd a<|ay #[az,aq 0] 88).heap[z<|G a]?=H (ay #[az,aq 0] 88 (0,0)):=iE _ _;have f:=(Below.heap_alloc (dd a<|ay #[az,aq 0] 88) (ay #[am c,aD<|z<|G a] 132) (z<|G a)<|by simp).trans i;have q:(dd (dd a<|ay #[az,aq 0] 88)<|ay #[am c,aD<|z<|G a] 132).heap[z (G a)+1]?=H (ay #[am c,aD<|z<|G a] 132 (0,0)):=by have:=iE (dd a<|ay #[az,aq 0] 88)<|ay #[am c,aD<|z<|G a] 132;simp_all
 generalize v:(dd (dd a<|ay #[az,aq 0] 88)<|ay #[am c,aD<|z<|G a] 132)=W at*;have j:∀S,Z S a W:=λS=>by rw[<-v];exact(cO S a).alloc _
 have k:uA W (bI (z (G a)+1) 0 1 1,[(c,H<|z<|G a)]):=by refine⟨show Row _ _ _ _ _ from⟨rfl,.inr ⟨z (G a)+1,0,1,rfl,ag _,λx B w=>?_⟩⟩,by simp,λu e=>?_⟩;rw[dM,ct q];simpa[sj,zq,jr]using w;cases e;grind
 apply(Ge (K.files.map aX.nm) [(c,H<|z<|G a)] g.gG g.now k.1 (by simp) g.steps A).mono;rintro e r⟨rfl,l,o⟩;refine⟨rfl,{K with mv:=l,files:=K.files++[aX.mk c (z<|G a) az [] 0],eP:=K.eP++[(bI (z (G a)+1) 0 1 1,[(c,H<|z<|G a)])]},?_,_,_,rfl,rfl,rfl,p⟩;have h:He W r b K.nb K.sb K.mv K.fx ((K.files++[aX.mk c (z<|G a) az [] 0]).map aX.nm) (y K.eP+1) (K.eP.map (·.1)++[bI (z (G a)+1) 0 1 1]) l:=by rw[xu]at o;simp only[IZ,BR m]at o;simpa[aX.nm]using o
 refine⟨g.named h k ?_ ?_ (by simp[eV]) g.qa ?_ g.EF,?_,?_,Fx.refl _⟩;intro n d;rcases aA.1 d with d|d;exact g.files n d;(obtain rfl:n=⟨c,z<|G a,az,[],0⟩:=by simpa using d);exact⟨f,fg.nil _ _,by intro D w;simp at w,by simp,by simp,by simp⟩;refine aZ.2 ⟨t.apart,by simp,λB w C x=>?_⟩;(obtain rfl:C=⟨c,z<|G a,az,[],0⟩:=by simpa using x);refine⟨λe=>?_,λu _ e=>by cases e⟩;have:=ak (t.files B w).1;grind
 intro w m n d;rcases aA.1 d with d|d;exact g.wD w m n d;(obtain rfl:n=⟨c,z<|G a,az,[],0⟩:=by simpa using d);refine⟨λe=>?_,λu e=>by cases e⟩;have:=ak (t.qa w m).1;grind
 .exact(j _).trans h.aj (by
   rintro D(rfl|rfl|e)
   .exact .inl<|.inl rfl
   .exact .inl<|.inr<|.inl rfl
   .exact .inl (.inr (.inr (.inr (.inl e)))))
 (.refine h.aL (j aw).size (λu e=>by cases e;grind)<|λn d u e=>?_;rcases aA.1 d with d|d;rcases aA.1 d with d|d;exact .inl (.inr<|by grind);rotate_left;exact .inl (.inr<|by grind);(obtain rfl:n=⟨c,z<|G a,az,[],0⟩:=by simpa using d);rcases e with e|e;(grind);cases e)
def Jy{K:DK}(c:ae)(h:bY a b K)(g:dV K.files c=none)(L:y K.eP<=1000000000000)(n:Nm c):cY bA 116 #[aD b,am c] a λC N=>ye a N b K [.cr c] C:=by
 obtain⟨P,F,o,_,_⟩:=dl yT;have i:=λ(e:Y)p(k:bY e b {K with fx:=p})=>yu underlying60 underlying9 F o k.now c;simp only[tH g,Option.getD_none]at i;have m:=GD h;have w:=X<|λ(e:Y)p(k:bY e b {K with fx:=p})=>Zh c k (tH g) g L;have x:=X i;clear h g i;go_in
 go_wp2_with fail
 apply m.mono;rintro C e⟨O,p,rfl,d,s,t,l⟩;cases O
 .have E:=cellAt d.ok.gG 0 rfl;have i:=x e p d.ok;obtain⟨W,D,f⟩:=w e p d.ok;have j:=X d;have A:=X f;clear d s t l f m;go_wp2_with(first
   |(go_at_call 147;subst D;refine Ai (by simpa using J A) ?_;rintro C Q⟨rfl,B,q,r⟩;have u:=X q;have v:=X r;clear q r))
  go_ret;exact⟨_,B,rfl,(J j).trans u,.inl ⟨rfl,jT.pre ⟨rfl,rfl,rfl⟩<|jT.one<|J v⟩⟩
 have HB:=X<|l rfl;have j:=X d;clear d s t l m;go_wp2;go_ret;exact⟨_,_,rfl,zO.bad ((J j).still<|cO _ _) ⟨rfl,rfl,rfl⟩ (sF.new _ _ n)<|.inl ⟨rfl,J HB⟩⟩
def qJ{b:ae}(a:r≠b):dV (jg P r) b=dV P b:=by
 induction P with
 |nil=>rfl
 |cons f d c=>
  by_cases h:f.name=r
  .have:¬f.name=b:=(by grind);simp[jg,dV,h,a]
  .rw[jg,dt h];by_cases e:f.name=b
   .rw[dV,di e,dV,di e]
   .rw[dV,dt e,dV,dt e,c]
def Zg(c:ae)(h:bY a b g)(e:dV g.files c=H O)(p:y g.eP<=1000000000000):cY bA 147 #[aD b,bI (z<|G a) 0 1 1] (dd a<|ay #[am c,dC none] 132) λk n=>k=aN (dA #[])/\∃l,qQ a n b g l/\xH (.rm c) g l:=by
 have j:(dd a<|ay #[am c,dC none] 132).heap[z<|G a]?=H (ay #[am c,dC none] 132 (0,0)):=iE _ _;have m:∀S,Z S a (dd a<|ay #[am c,dC none] 132):=λS=>(cO S a);generalize dd a (ay #[am c,dC none] 132)=W at*;have i:bY W b g:=h.aj (m aw)<|λ_ _=>id;have d:uA W (bI (z<|G a) 0 1 1,[(c,none)]):=by refine⟨show Row _ _ _ _ _ from⟨rfl,.inr ⟨z<|G a,0,1,rfl,ag _,λt u o=>?_⟩⟩,by simp,λs k=>?_⟩;rw[dM,ct j];simpa[sj,zq,jr]using o;cases k;grind
 apply(Ge (g.files.map aX.nm) [(c,none)] i.gG i.now d.1 (by simp) i.steps p).mono;rintro k n⟨rfl,r,f⟩;rw[xu]at f;simp only[IZ,<-Cd]at f;exact⟨rfl,_,Ju h m f d (λs k=>by cases k;grind) (os:=g.nh++[O]) (λc a=>⟨c,(aA.1 a).elim (λq=>DK.Uk<|(lR _ _).subset q)<|λq=>(aA.1 q).elim DK.E9 (λq=>by rw[cL.1 q];exact DK.Uk (dq e).2.1),rfl,rfl,rfl,rfl⟩) (h.apart.sublist<|lR _ _) (Ir _ _) (λi b c a=>(aA.1 b).elim (λq=>h.wD i q c<|(lR _ _).subset a) (λq=>by rw[cL.1 q];exact(uw h.apart e c a).symm))<|aZ.2 ⟨h.EF,pN _ _,λi b c a=>by rw[cL.1 a];exact(h.wD i b O (dq e).2.1).symm⟩,O,_,e,rfl,rfl,rfl⟩
def Tk{K:DK}(c:ae)(h:bY a b K)(k:dV K.files c=H O)(A:y K.eP<=1000000000000)(g:Nm c):cY bA 91 #[aD b,am c] a λs C=>ye a C b K [.rm c] s:=by
 have x:=zD c h g;have o:=X<|λ(j:Y)t(d:bY j b {K with fx:=t})=>Zg c d k A;have n:=X k;go_in
 go_wp2_with fail
 apply x.mono;rintro s j⟨t,f,E,⟨D,d,rfl⟩|⟨d,_⟩|⟨w,q,rfl,B⟩⟩
 .have i:=o j t f.ok;have e:=X f;have p:=X i;go_wp2_with(first
   |(go_at_call 147;refine Ai (J p) ?_;rintro s F⟨rfl,r,u,v⟩;have l:=X u;have m:=X v))
  go_ret;exact⟨_,r,rfl,(J e).trans l,.inl ⟨rfl,jT.pre ⟨rfl,rfl,rfl⟩<|jT.one<|J m⟩⟩
 rw[J n]at d;cases d;obtain⟨e,i,HB⟩:=dF f B w;go_wp2;go_ret;exact⟨_,_,rfl,zO.bad e ⟨rfl,rfl,rfl⟩ (J i)<|.inl ⟨rfl,J HB⟩⟩
def Zf(d c:ae){F:aX}(l:bY a b g)(i:dV g.files d=H F)(j:d≠c)(A:y g.eP<=1000000000000):cY bA 147 #[aD b,bI (z<|G a) 0 2 2] (dd a<|ay #[am c,aD F.jM,am d,dC none] 132) λn w=>n=aN (dA #[])/\∃s,qQ a w b g s/\xH (.rn d c) g s:=by
 have r:(dd a<|ay #[am c,aD F.jM,am d,dC none] 132).heap[z<|G a]?=H (ay #[am c,aD F.jM,am d,dC none] 132 (0,0)):=iE _ _;have v:∀S,Z S a (dd a<|ay #[am c,aD F.jM,am d,dC none] 132):=λS=>(cO S a);generalize dd a (ay #[am c,aD F.jM,am d,dC none] 132)=W at*;have p:bY W b g:=l.aj (v aw)<|λ_ _=>id;have k:uA W (bI (z<|G a) 0 2 2,[(c,H F.jM),(d,none)]):=by refine⟨show Row _ _ _ _ _ from⟨rfl,.inr ⟨z<|G a,0,2,rfl,ag _,λq t f=>?_⟩⟩,by simp,λC n=>?_⟩;rw[dM,ct r];simpa[sj,zq,jr]using f;cases n;grind
 apply(Ge (g.files.map aX.nm) [(c,H F.jM),(d,none)] p.gG p.now k.1 (by simp) p.steps A).mono;rintro n w⟨rfl,B,u⟩;have x:kP (g.files.map aX.nm) [(c,H F.jM),(d,none)]=(mL (jg g.files d) {F with name:=c}).map aX.nm:=by rw[<-Jv (f:={F with name:=c}) (λn=>j n.symm),Cd,Bu];rfl
 rw[x]at u;refine⟨rfl,_,Ju l v u k (os:=g.nh++(dV g.files c).toList) (λC n=>by cases n;grind) (λm e=>?_) ?_ ?_ (λo h m e=>?_) ?_,F,_,i,rfl,rfl,rfl⟩;rcases aA.1 e with e|e;(rcases wo e with rfl|e;exact⟨F,DK.Uk (dq i).2.1,rfl,rfl,rfl,rfl⟩;grind[DK.Uk,lR]);rcases aA.1 e with e|e;(grind);exact⟨m,DK.Uk (dq<|Option.mem_toList.1 e).2.1,rfl,rfl,rfl,rfl⟩;refine FI ((l.apart.sublist<|lR _ _).sublist<|lR _ _)<|λo f=>?_;have:=uw l.apart i o<|(lR _ _).subset f;exact this;have f:=CG (jg g.files d) {F with name:=c};have q:=Ir (jg g.files d) c;have t:=CH i;grind
 have q:=(dq i).2.1;have f:m={F with name:=c}\/m∈jg (jg g.files d) c:=wo e;rcases aA.1 h with h|h;rcases f with rfl|f;exact l.wD o h F q;exact l.wD o h m<|(lR _ _).subset<|(lR _ _).subset f;(have t:dV (jg g.files d) c=H o:=by rw[qJ j];grind);rcases f with rfl|f;exact uw l.apart i o (dq t).2.1;exact(uw (l.apart.sublist<|lR _ _) t m f).symm;refine aZ.2 ⟨l.EF,?_,λo h m e=>(l.wD o h m (dq<|Option.mem_toList.1 e).2.1).symm⟩;cases dV g.files c<;>simp
def Tj{K:DK}(c d:ae)(h:bY a b K)(n:dV K.files c=H O)(f:c≠d)(E:y K.eP<=1000000000000)(j:Nm c):cY bA 224 #[aD b,am c,am d] a λw L=>ye a L b K [.rn c d] w:=by
 have D:=zD c h j;have t:=X<|λ(l:Y)x(e:bY l b {K with fx:=x})=>Zf c d e n f E;have m:=X n;have o:(!c.toList==d.toList)=cf:=by simp[Ay f]
 go_in
 go_wp2_with fail
 apply D.mono;rintro w l⟨x,i,N,⟨p,e,rfl⟩|⟨e,_⟩|⟨C,q,rfl,F⟩⟩
 .have hF:p=O:=by rw[J m]at e;cases e;rfl
  subst hF;have k:=t l x i.ok;have g:=X i;have u:=X k;go_wp2_with(first
   |(go_at_call 147;refine Ai (J u) ?_;rintro w P⟨rfl,v,A,B⟩;have r:=X A;have s:=X B))
  go_ret;exact⟨_,v,rfl,(J g).trans r,.inl ⟨rfl,jT.pre ⟨rfl,rfl,rfl⟩<|jT.one<|J s⟩⟩
 rw[J m]at e;cases e;obtain⟨g,k,HB⟩:=dF i F C;go_wp2;go_ret;exact⟨_,_,rfl,zO.bad g ⟨rfl,rfl,rfl⟩ (J k)<|.inl ⟨rfl,J HB⟩⟩
def bY.A5{K:DK}{D:eU}(h:bY a b K)(m:Z (λk=>k=K.sb) a f)(p:gv f K.sb D):qQ a (cH f (R b 2) az) b K {K with mv:=az,eP:=[],sm:=D}:=by
 have i:b≠K.sb:=h.safe.tag h.gG;have o:iW f b K.nb K.sb K.mv K.fx:=(m.block b (ak h.gG) i).trans h.gG;have g:Z (λk=>k=b\/k=K.sb) a (cH f (R b 2) az):=(m.mono<|λx e=>.inl<|.inr e).setCell b 2 _<|.inl<|.inl rfl;have d:∀j∈K.files++K.nh,mi (cH f (R b 2) az) j:=by intro j c;have hF:=h.all c;refine hF.aj g ?_ ?_;rintro(e|e);exact iQ hF.1 h.gG (by decide) e;exact h.safe.tag hF.1 e;intro k e;obtain⟨n,l⟩:=eT hF.2.1 e;rintro(e|e);exact iQ l h.gG (by decide) e;exact h.safe.tag l e
 refine⟨⟨?_,?_,?_,h.ne,cK _ _ _ _,by simp,λj c=>d j<|DK.Uk c,h.apart,h.tu,h.room,h.jV,λj c=>d j<|DK.E9 c,h.wD,h.EF⟩,?_,?_,Fx.refl _⟩;unfold iW;rw[aJ o];rfl;refine h.now.aj g ?_;rintro(e|e);exact h.now.tag h.gG e.symm;exact h.ne e;exact p.kept (dS f b 2 _)<|by grind
 .exact g.mono (by
   rintro x(rfl|rfl)
   .exact .inl<|.inl rfl
   .exact .inl (.inr (.inr (.inl rfl))))
 rintro k(e|e|e|e|⟨x,l,_⟩|e);exact .inl<|.inl e;exact .inl<|.inr<|.inl e;exact .inl<|.inr<|.inr<|.inl e;cases e;cases l;exact .inl<|.inr<|.inr<|.inr<|.inr<|.inr e
def Fj(K:bY a b g)(hn:y g.eP<=1000000000000):cY bA 105 #[aD b] a λA t=>ye a t b g [.sd] A:=by
 have hf:=GD K;go_in
 go_wp2_with fail
 apply hf.mono;rintro A T⟨aF,aU,rfl,j,Q,hz,hb⟩;cases aF;(case true=>have HB:=X<|hb rfl;have l:=X j;clear j Q hz hb hf;go_wp2;go_ret;exact⟨_,_,rfl,zO.bad ((J l).still<|cO _ _) ⟨rfl,rfl,rfl⟩ (sF.new _ _ (by unfold Nm;decide))<|.inl ⟨rfl,J HB⟩⟩);have h:=j.ok;have B:=X j;have L:b≠g.sb:=h.safe.tag h.gG;have r:∀wr,Z (λu=>u=g.sb) T wr->aW wr (R b 1)=H (.map<|H g.sb)/\aW wr (R b 2)=H g.mv/\wr.frozen? (R b 2)=bw:=by intro wr f;have j:iW wr b g.nb g.sb g.mv aU:=(f.block b (ak h.gG) L).trans h.gG;exact⟨by rw[ct j];rfl,by rw[ct j];rfl,cQ j⟩
 have v:=X r;have an:=(r T<|Z.refl _ _).2.1;have i:=X<|λ(t:Y)(D:eU)(f:Z (λu=>u=g.sb) T t)(k:gv t g.sb D)=>(J B).trans<|h.A5 f k;have s:∀(wr:Y)(n:M)(c:n<y g.eP)(D:eU),Z (λu=>u=g.sb) T wr->gv wr g.sb D->cY bA 20 #[.map<|H g.sb,g.eP[n].1] wr λA t=>A=aN (dA #[])/\gv t g.sb (kP D g.eP[n].2)/\wr.grownBy t (H g.sb):=by intro wr n c D f k;have l:=(h.each g.eP[n]<|ar c).aj f (λu A w=>by obtain⟨F,C,q⟩:=(h.each g.eP[n]<|ar c).2.2 u A;exact h.safe.tag q w);exact Df D g.eP[n].2 k l.1 (by have:=l.2.1;omega)
 obtain⟨p,d,e,x⟩:=gw s h.steps h.safe<|λu=>h.Bh (k:=u);simp only[Hid]at d e x i;generalize ap:g.mv=mv at*;rcases d.2 with⟨rfl,K⟩|⟨ax,ad,F,rfl,_,hg,av,_,r,S⟩;(.have l:g.eP=[]:=aS K;have m:=X i;have o:=X e;go_wp2;(go_loopw [15] (λac wr=>ac=aq 0/\wr=T) (λ_ _=>0));(case atStart=>grind);(case round=>obtain⟨rfl,rfl⟩:=hrel;have N:=(v wr<|Z.refl _ _).2.2;go_wp2;go_ret;exact⟨_,_,rfl,zO.ok (m wr g.sm (Z.refl _ _) o) ⟨rfl,by rw[l];rfl,rfl⟩⟩))
 .have q:∀n(c:n<y g.eP)wr,Z (λu=>u=g.sb) T wr->aW wr (R ax n)=H g.eP[n].1:=by
   intro n c wr f;refine f.cell ?_ (x ax rfl).1<|ak hg;have:=World.ownsRow.cellAt d n (by omega);rw[this];simp[c]
  have l:=X q;have m:=X i;have o:=X e;go_wp2;go_loopw [15] (λac wr=>∃n:M,n<=y g.eP/\ac=aq n/\Z (λu=>u=g.sb) T wr/\gv wr g.sb (((g.eP.take n).map (·.2)).foldl kP g.sm)) (λac _=>y g.eP-(intOf ac).toNat)
  case atStart=>exact⟨0,bK _,rfl,Z.refl _ _,o⟩
  case round=>
   obtain⟨n,au,rfl,f,k⟩:=hrel;obtain⟨D,W⟩:∃D,((g.eP.take n).map (·.2)).foldl kP g.sm=D:=⟨_,rfl⟩;rw[W]at k;have w:=X W;obtain⟨al,aa,N⟩:=v wr f;have V:=X f;have HM:=X k;by_cases c:n<y g.eP
   .have ao:=l n c wr f;have HS:=X<|p wr n c D f k;go_wp2_with(first
     |(go_at_call 20;refine HS.mono ?_;rintro A w2⟨rfl,P,O⟩;have E:=X P;have C:=X O))
    go_roundw;case rel=>exact⟨n+1,by omega,by go_num,V.trans (fo C)<|λx A=>.inl A,by rw[ah c,aE,gd,J w];exact E⟩
    case measure=>simp[intOf];omega
   .clear f k;have C:n=y g.eP:=by omega
    subst C;go_wp2;go_ret;exact⟨_,_,rfl,zO.ok (m wr D V HM) ⟨rfl,by rw[<-J w,aY],rfl⟩⟩
section
open ChangeMaps (setBlock)
def pZ(w:Y)(g r:M)(m left:eU):Prop:=∃d c b seen e,w.heap[g]?=H (.map d c)/\Fits d.toList m/\MapKept.Stamped d c/\w.heap[r]?=H (.mapIter (H g) b seen e)/\(∀x∈d.toList,x.born<b)/\b<=e/\b<=c/\Fits (leftOf d seen).toList left
theorem pZ.ne{w:Y}{c r:M}{m left:eU}(h:pZ w c r m left):r≠c:=by
 obtain⟨d,b,_,_,_,e,_,_,g,_⟩:=h;grind
theorem pZ.lt{w:Y}{b r:M}{m left:eU}(h:pZ w b r m left):r<z (G w):=by
 obtain⟨e,c,_,_,_,_,_,_,d,_⟩:=h;exact ak d
theorem pZ.kept{w d:Y}{e r:M}{q left:eU}(s:pZ w e r q left)(n:d.heap[e]?=w.heap[e]?)(p:d.heap[r]?=w.heap[r]?):pZ d e r q left:=by
 obtain⟨h,b,c,seen,g,i,j,k,l,m⟩:=s;exact⟨h,b,c,seen,g,n.trans i,j,k,p.trans l,m⟩
theorem Fits.split{d:ci MapEntry}{m:eU}{c b:ci MapEntry}{f:MapEntry}(h:Fits d m)(k:d=c++f::b):∃a p e,m=a++p::e/\Fits c a/\f.key=am p.1/\f.val=p.2/\Fits b e:=by
 subst k;unfold Fits at h;rw[aE,bR]at h;obtain⟨a,n,rfl,g,i⟩:=iO.1 h.symm;obtain⟨p,e,rfl,l,j⟩:=nW.1 i;exact⟨a,p,e,rfl,g.symm,(by grind),(by grind),j.symm⟩
theorem Fits.append{b c:ci MapEntry}{m n:eU}(h:Fits b m)(k:Fits c n):Fits (b++c) (m++n):=by
 unfold Fits at*;rw[aE,aE,h,k]
theorem Jg{c:Array MapEntry}{seen:Array M}{e d:ci MapEntry}{f:MapEntry}(k:(c.toList.map (·.born)).Nodup)(h:(leftOf c seen).toList=e++f::d):(leftOf c<|seen.push f.born).toList=e++d:=by
 have g:(leftOf c<|seen.push f.born).toList=(leftOf c seen).toList.filter (λx=>!(x.born==f.born)):=by simp only[leftOf,Array.toList_filter,List.filter_filter];grind
 have b:((leftOf c seen).toList.map (·.born)).Nodup:=by(have:(leftOf c seen).toList.Sublist c.toList:=by simp[leftOf]);grind
 rw[g,h];rw[h]at b;simp only[aE,bR]at b;obtain⟨_,i,j⟩:=kw.1 b;grind[nodup_cons,filter_cons_of_neg,filter_eq_self]
theorem Pw{P:Program}{w:Y}{mt j g f:M}{m:eU}(k:P.underlying mt=H (.map j g))(l:gv w f m):∃d,(Instr.range mt<|.map<|H f).run P w=.ok (aD<|z<|G w) d/\pZ d f (z<|G w) m m/\w.grownBy d none/\z (G d)=z (G w)+1:=by
 obtain⟨c,b,e,h,i⟩:=l;refine⟨_,run_range_map w mt j g f c b k e,⟨c,b,b,#[],b,((pD w _).2 f<|ak e).trans e,h,i,(pD w _).1,i.1,ag _,ag _,?_⟩,dP w _ none,by simp⟩;have:leftOf c #[]=c:=by simp[leftOf]
 rw[this];exact h
theorem SY{P:Program}{w:Y}{t r:M}{ac left:eU}(aa:pZ w t r ac left)(K:TypeId):(left=[]/\(Instr.next (aD r) bw K).run P w=.ok (dA #[aM bw]) w)\/∃l F e m,left=l++F::e/\(Instr.next (aD r) bw K).run P w=.ok (dA #[aM cf,am F.1,F.2]) m/\pZ m t r ac (l++e)/\w.grownBy m (H r)/\z (G m)=z (G w)/\(Instr.entry<|aD r).run P m=.ok (dA #[am F.1,F.2]) m:=by
 have C:=aa.ne;obtain⟨j,b,c,seen,L,N,hf,D,O,i,E,q,B⟩:=aa;rcases run_next_at (P:=P) w K r t c L seen j b O N i E with⟨h0,d⟩|⟨x,W,v,f,d⟩;refine .inl ⟨?_,d⟩;(have:(leftOf j seen).toList=[]:=by grind);rw[this]at B;simpa[Fits]using B;obtain⟨l,e,s⟩:=tW W;obtain⟨a,F,ad,rfl,T,u,S,V⟩:=B.split s;(have g:v.heap=w.heap:=by rcases f with rfl|rfl<;>rfl);(have p:v.heap[r]?=H (.mapIter (H t) c seen L):=by rw[g];exact O);have h:(setBlock v r<|.mapIter (H t) c (seen.push x.born) b).heap[r]?=H (.mapIter (H t) c (seen.push x.born) b):=(iN p).1;have k:∀d,d≠r->(setBlock v r<|.mapIter (H t) c (seen.push x.born) b).heap[d]?=w.heap[d]?:=λd u=>((iN p).2 d u).trans (by rw[g]);have n:=(k t<|λx=>C x.symm).trans N;(have A:x∈j.toList:=by(have:(leftOf j seen).toList.Sublist j.toList:=by simp[leftOf]);grind);refine .inr ⟨a,F,ad,_,rfl,by rw[<-u,<-S];exact d,⟨j,b,c,_,b,n,hf,D,h,i,q,q,by rw[Jg D.2.1 s];exact T.append V⟩,⟨?_,?_,?_,?_,(by grind)⟩,?_,?_⟩;rcases f with rfl|rfl<;>rfl;rcases f with rfl|rfl<;>rfl;rcases f with rfl|rfl<;>rfl;simp[setBlock,g];simp[setBlock,g];rw[<-u,<-S];exact run_entry_at _ r t c seen j b x h n A D.2.1
section
variable{P:Program}(w:Y){ops:Array Oper}{rest:ci Oper}{o:Oper}{a:Act}{Q:Exit->Act->Y->Prop}
theorem rL(j:o.guard=none)(g:Operand)(t:TypeId)(e:o.op=Op.range t g)(v s:TypeId)(l:P.underlying t=H (.map v s))(h:M)(m:eU)(k:a.eval g=.map (H h))(u:gv w h m)(i:∀b,pZ b h (z<|G w) m m->w.grownBy b none->z (G b)=z (G w)+1->wpList P ops Q rest (a.put o.dst<|aD<|z<|G w) b):wpList P ops Q (o::rest) a w:=by
 refine lK j λr d=>?_;obtain⟨b,c,n,p,q⟩:=Pw l u;unfold Oper.wp;simp[execOp,e,k,c,Result.andThen];exact d _ _<|i b n p q
theorem sZ(m:o.guard=none)(k:Operand)(i:o.op=Op.next k bw)(n r:M)(q left:eU)(sK:a.eval k=aD r)(t:pZ w n r q left)(d:left=[]->wpList P ops Q rest (a.put o.dst<|dA #[aM bw]) w)(j:∀e p c g,left=e++p::c->pZ g n r q (e++c)->w.grownBy g (H r)->z (G g)=z (G w)->(Instr.entry<|aD r).run P g=.ok (dA #[am p.1,p.2]) g->wpList P ops Q rest (a.put o.dst<|dA #[aM cf,am p.1,p.2]) g):wpList P ops Q (o::rest) a w:=by
 refine lK m λs h=>?_;unfold Oper.wp;rcases SY (P:=P) t o.type with⟨l,b⟩|⟨e,p,c,g,B,b,u,v,x,A⟩;simp[execOp,i,sK,b,Result.andThen];exact h _ _<|d l;simp[execOp,i,sK,b,Result.andThen];exact h _ _<|by grind
end
end
def MI{m:eU}(h:eU.get m r=H d):eU.put m r d=m:=by
 induction m with
 |nil=>cases h
 |cons p b a=>
  by_cases e:p.1=r
  .simp[eU.get,e]at h;simp[eU.put,e,<-h];rw[<-e]
  .simp[eU.get,e]at h;simp[eU.put,e,a h]
def bY.X6{K:DK}{F F':aX}(j:bY a b K)(N:dV K.files F'.name=H F)(C:F'.jM=F.jM)(r:Z (λk=>k=F.jM\/cI F.data=H k) a f)(hF:mi f F')(E:∀k,cI F'.data=H k->cI F.data=H k\/z (G a)<=k)(S:eV (mL K.files F')<=4611686018427387904):qQ a f b K {K with files:=mL K.files F'}:=by
 obtain⟨_,c,A⟩:=dq N;have d:=j.files F c;have u:∀{k O:M}{q:Array ab}{D:M×M},a.heap[k]?=H (ay q O D)->O≠88->O≠5->¬(k=F.jM\/cI F.data=H k):=by rintro k O q D Q P T(e|e);exact iQ Q d.1 P e;obtain⟨h,l⟩:=eT d.2.1 e;grind
 have g:∀{O:M}{P:eU},gv a O P->¬(O=F.jM\/cI F.data=H O):=by rintro O P q(e|e);exact q.tag d.1 e.symm;obtain⟨h,l⟩:=eT d.2.1 e;exact q.tag l rfl
 have i:∀t∈jg K.files F'.name,t∈K.files:=λt n=>(lR _ _).subset n;have p:=uw j.apart N;refine⟨⟨?_,?_,j.safe.aj r<|g j.safe,j.ne,?_,?_,?_,?_,j.tu,S,j.jV,?_,?_,j.EF⟩,?_,?_,Fx.refl _⟩;exact(r.block b (ak j.gG)<|u j.gG (by decide)<|by decide).trans j.gG;show gv f K.nb ((mL K.files F').map aX.nm);rw[Bu,C,MI A];exact j.now.aj r<|g j.now;refine r.own j.steps<|λk e=>?_;obtain⟨h,l⟩:=eT j.steps e;grind
 intro B o;refine(j.each B o).aj r<|λk e=>?_;obtain⟨h,D,l⟩:=(j.each B o).2.2 k e;grind
 intro B o;rcases wo o with rfl|o;exact hF;have s:=j.files B<|i B o;refine s.aj r ?_ ?_;rintro(e|e);exact(p B o).1 e.symm;obtain⟨h,l⟩:=eT d.2.1 e;exact iQ s.1 l (by decide) rfl;intro k x;rintro(e|e);obtain⟨h,l⟩:=eT s.2.1 x;exact iQ l d.1 (by decide) e;exact(p B o).2 k e x;refine FI (j.apart.sublist<|lR _ _)<|λt n=>⟨by rw[C];exact(p t n).1,λk e v=>?_⟩;rcases E k e with w|w;exact(p t n).2 k w v;have:=(bN (j.files t<|i t n).2.1 k v).2;omega;intro B o;have s:=j.qa B o;have q:=j.wD B o F c;refine s.aj r ?_ ?_;rintro(e|e);exact q.1 e.symm;obtain⟨h,l⟩:=eT d.2.1 e;exact iQ s.1 l (by decide) rfl;intro k x;rintro(e|e);obtain⟨h,l⟩:=eT s.2.1 x;exact iQ l d.1 (by decide) e;exact q.2 k e x;intro t q L m;rcases wo m with rfl|m;refine⟨by rw[C];exact(j.wD t q F c).1,λk e v=>?_⟩;rcases E k e with w|w;exact(j.wD t q F c).2 k w v;have:=(bN (j.qa t q).2.1 k v).2;omega;exact j.wD t q L<|i L m
 .exact r.mono (by
   rintro B(rfl|e)
   .exact .inl<|.inr<|.inr<|.inr<|.inr<|.inr ⟨F,DK.Uk c,.inl rfl⟩
   .exact .inl (.inr (.inr (.inr (.inr (.inr ⟨F,DK.Uk c,.inr e⟩))))))
 (.rintro k(e|e|e|e|e|⟨L,m,e⟩);exact .inl<|.inl e;exact .inl<|.inr<|.inl e;exact .inl<|.inr<|.inr<|.inl e;exact .inl<|.inr<|.inr<|.inr<|.inl e;exact .inl<|.inr<|.inr<|.inr<|.inr<|.inl e;(.rcases aA.1 m with m|m;rotate_left;exact .inl<|.inr<|.inr<|.inr<|.inr<|.inr ⟨L,DK.E9 m,e⟩;rcases wo m with rfl|m;rcases e with e|e;exact .inl<|.inr<|.inr<|.inr<|.inr<|.inr ⟨F,DK.Uk c,.inl<|C.symm.trans e⟩;rcases E k e with e|e;exact .inl<|.inr<|.inr<|.inr<|.inr<|.inr ⟨F,DK.Uk c,.inr e⟩;exact .inr e;exact .inl<|.inr<|.inr<|.inr<|.inr<|.inr ⟨L,DK.Uk<|i L m,e⟩))
def fg.shape(h:fg a b d n):∃x c,d=I x (y n) c:=aC h
def bY.T1{K:DK}{F:aX}(h:bY a b K)(e:dV K.files r=H F):qQ a (cH a (R F.jM 1)<|aq<|y F.bytes) b K {K with files:=mL K.files {F with safe:=y F.bytes}}:=by
 obtain⟨d,c,g⟩:=dq e;have hF:=h.files F c;have f:cI F.data≠H F.jM:=FP hF.2.1 hF.1 (by decide);refine h.X6 (F:=F) (F':={F with safe:=y F.bytes}) (by rw[show({F with safe:=y F.bytes}:aX).name=F.name from rfl,d];exact e) rfl ((Z.refl _ a).setCell F.jM 1 _<|.inl<|.inl rfl) ⟨?_,?_,hF.2.2.1,by simp,by simp,hF.2.2.2.2.2⟩ (λm k=>.inl k) ?_;show(cH a (R F.jM 1)<|aq<|y F.bytes).heap[F.jM]?=_;rw[aJ hF.1];rfl;exact World.ownsRow.kept hF.2.1 (dS a F.jM 1 _)<|.inr f;have i:=CG K.files {F with safe:=y F.bytes};have j:=CH e;rw[<-d]at j;have l:=h.room;simp only at i;omega
theorem Rw(c:ae)(h:bY a b g)(m:dV g.files c=H O)(A:y O.bytes<=140737488351232)(k:Nm c):cY bA 104 #[aD b,am c] a λx v=>ye a v b g [.sy c] x:=by
 have r:=zD c h k;have l:=X m;go_in
 go_wp2_with fail
 apply r.mono;rintro x w⟨D,f,B,⟨e,d,rfl⟩|⟨d,_⟩|⟨o,q,rfl,t⟩⟩;(·(have hF:e=O:=by rw[J l]at d;cases d;rfl);subst hF;have hF:=f.ok.files e (dq d).2.1;have j:=cellAt hF.1 0 rfl;have p:=cellAt hF.1 1 rfl;have s:w.frozen? (R e.jM 1)=bw:=cQ hF.1;obtain⟨E,C,u⟩:=fg.shape hF.2.1;rw[u]at j;have n:=X<|f.ok.T1 d;have i:=X f;go_wp2;go_ret;exact⟨_,_,rfl,(J i).trans n,.inl ⟨rfl,jT.pre ⟨rfl,rfl,rfl⟩<|jT.one ⟨e,l,rfl,rfl,rfl⟩⟩⟩);rw[m]at d;cases d;obtain⟨i,j,HB⟩:=dF f t o;go_wp2;go_ret;exact⟨_,_,rfl,zO.bad i ⟨rfl,rfl,rfl⟩ (J j)<|.inl ⟨rfl,J HB⟩⟩
def V4(w b:Y)(c:M)(K:DK)(a:ae)(e:Ending):Prop:=∃f,qQ w b c K {K with fx:=f}/\((∃F,dV K.files a=H F/\e=aN (dA #[aq<|y F.bytes,.nilIface]))\/(dV K.files a=none/\∃q,e=aN (dA #[aq 0,fj q])/\sF b q 10)\/(0<K.fx.bd/\∃q,e=aN (dA #[aq 0,fj q])/\sF b q 8))
def Ry(c:ae)(h:bY a b g)(l:Nm c):cY bA 82 #[aD b,am c] a λv u=>V4 a u b g c v:=by
 have p:=zD c h l;have s:=h.room;have w:=h.jV;go_in
 go_wp2_with fail
 apply p.mono;rintro v A⟨n,f,x,⟨F,e,rfl⟩|⟨e,q,rfl,m⟩|⟨o,q,rfl,m⟩⟩;(.have hF:=f.ok.files F (dq e).2.1;have k:=cellAt hF.1 0 rfl;obtain⟨C,B,t⟩:=fg.shape hF.2.1;rw[t]at k;(have r:y F.bytes<=140737488351232:=by have:=hF.2.2.2.2.2;omega);have d:=X f;have i:=X e;go_wp2;(go_ret2);exact⟨n,d,.inl ⟨F,i,rfl⟩⟩);(.obtain⟨d,j,i⟩:=dF f m e;go_wp2;(go_ret2);exact⟨n,d,.inr<|.inl ⟨i,q,rfl,j⟩⟩);obtain⟨d,j,HB⟩:=dF f m o;go_wp2;(go_ret2);exact⟨n,d,.inr<|.inr ⟨HB,q,rfl,j⟩⟩
def pZ.left_eq{m left:eU}(l:pZ a b c m left):a.rangeLeft b c=y left:=by
 obtain⟨k,d,e,seen,j,g,_,_,h,_,_,_,i⟩:=l;simp only[World.rangeLeft,g,h];have:=bS y i;grind
def BB{b a:eU}{p:ae×ab}(h:P.map aX.nm=b++p::a):∃A f C,P=A++f::C/\b=A.map aX.nm/\p=f.nm/\a=C.map aX.nm:=by
 obtain⟨A,D,rfl,c,d⟩:=iO.1 h;grind[map_eq_cons_iff]
def JD{db:M}{K:DK}(b:ae){F:aX}(bp d C:M)(c:eF){w0:Y}(h0:bY w0 db K)(n:dV K.files b=H F)(bg:EH K.fx\/eV K.files+y c<=1000000000)(bs:y c<=1099511627776)(bc:kr c)(aF:∀bm ad,(c.map<|Value.int .u8)[bm]?=H ad->aW w0 (R bp<|d+bm)=H ad)(m:bp<z (G w0))(ax:bp≠db)(k:Nm b):cY bA 117 #[aD db,am b,bI bp d (y c) C] w0 λac w'=>ye w0 w' db K [.ap b c] ac:=by
 obtain⟨i0,hi,bi,bk,bl⟩:=dl qG;have hf:=zD b h0 k;have bL:=h0.jV;have w:=X n;have ao:=X aF;go_in
 go_wp2_with fail
 apply hf.mono;rintro ac al⟨l,AQ,W,⟨F',D,rfl⟩|⟨D,_⟩|⟨hb,q,rfl,hq⟩⟩;rotate_left;rw[n]at D;cases D;(.obtain⟨t,a,HB⟩:=dF AQ hq hb;go_wp2;go_ret;exact⟨_,_,rfl,zO.bad t ⟨rfl,rfl,rfl⟩ (J a)<|.inl ⟨rfl,J HB⟩⟩);obtain rfl:F=F':=by rw[n]at D;cases D;rfl
 obtain⟨k,O,bq⟩:=dq n;subst k;have h:=AQ.ok;have aV:l.room=K.fx.room:=AQ.fx.room;have br:eV K.files<=4611686018427387904:=h.room;have bx:=CH n;have bt:=cellAt h.gG 0 rfl;obtain⟨t,B,HB⟩:=dF (λ(wr:Y)(V:Z aw al wr)=>h.aj V<|λ_ _=>id) h.now<|λ(wr:Y)(V:Z aw al wr)bm ad(hj:(c.map<|Value.int .u8)[bm]?=H ad)=>V.cell (W.cell (J ao bm ad hj) (λac=>ax ac) m) id<|ai m W.size;have u:=X AQ
 go_wp2_with(first
  |(at_range;refine rL _ rfl _ 60 rfl 9 85 underlying60 K.nb _ rfl B ?_;intro w0 N ba bT;have w:=X N;have A:=X ba))
 go_frame
 go_loopw [9] (λad wr=>∃(bo:ci aX)(used:M),(∀l∈bo,l∈K.files)/\ad=aq used/\used+eV bo=eV K.files/\pZ wr K.nb (z<|G al) (K.files.map aX.nm) (bo.map aX.nm)/\Z aw al wr) (λ_ wr=>wr.rangeLeft K.nb<|z<|G al)
 case atStart=>exact⟨K.files,0,λ_ h=>h,rfl,by simp,w,Z.ep A<|by simp⟩
 case round=>
  obtain⟨bo,used,hL,rfl,o,bb,V⟩:=hrel;obtain⟨x,s,bn,HL⟩:=gw bb V o hL;go_wp2_with(first
   |(at_next;refine sZ _ rfl _ rfl K.nb (z (G al)) _ _ rfl x ?_ ?_))
  .intro bd;obtain rfl:bo=[]:=by simpa using bd
   have bh:used=eV K.files:=by simpa[eV]using o
   have j:=t wr s;have hF:=j.files F O;have aU:=cellAt j.gG 3 rfl;have E:=cellAt hF.1 0 rfl;simp only at aU;have ew:IntKind.i64.wrap (l.room-(used:U))=l.room-used:=by rw[bP];omega
   by_cases bE:(eV K.files:U)+y c<=l.room
   .have bf:cI F.data≠H F.jM:=FP hF.2.1 hF.1 (by decide);have e:∀g i,i.ownsRow 0 5 1 g (y F.bytes+y c) (F.bytes.map (Value.int .u8)++c.map (Value.int .u8))->eJ wr i F.data g->aW i (R F.jM 0)=H F.data/\i.frozen? (R F.jM 0)=bw/\∃b,qQ al (cH i (R F.jM 0) g) db {K with fx:=l} b/\xH (.ap F.name c) {K with fx:=l} b:=by
     intro g i Q r;have a:i.heap[F.jM]?=H (ay #[F.data,aq F.safe] 88 (0,0)):=(r.grown.block F.jM (ak hF.1)<|λac=>bf ac.symm).trans hF.1;have P:cI g≠H F.jM:=FP Q a (by decide);refine⟨by rw[ct a];rfl,cQ a,_,(t al<|Z.refl _ _).X6 (F:=F) (F':={F with data:=g,bytes:=F.bytes++c}) n rfl ?_ ⟨?_,?_,hF.2.2.1.append bc,hF.2.2.2.1,by have:=hF.2.2.2.2.1;simp;omega,by simp;omega⟩ ?_ ?_,F,g,n,rfl,rfl,rfl⟩
     .exact((s.mono (T:=λan=>an=F.jM\/cI F.data=H an) cJ).trans (Z.ep (S:=λan=>cI F.data=H an) r.grown<|λan ac=>.inl ac)<|by grind).setCell F.jM 0 g<|.inl<|.inl rfl
     .show(cH i (R F.jM 0) g).heap[F.jM]?=_;rw[aJ a];rfl
     .exact fg.of (World.ownsRow.kept Q (dS i F.jM 0 g)<|.inr P) (by simp)<|by simp
     .intro an ac;rcases r.vQ with e'|⟨av,e',bv⟩
      .grind
      .have:av=an:=by
        have e2:cI g=H an:=ac;rw[e']at e2;simpa using e2
       exact .inr (by have:=s.size;omega)
     grind[CG,length_append]
    have v:=X e;have HO:=X hF.2.1;obtain⟨cc,cb,p⟩:=fg.shape hF.2.1;have L:¬((l.room-used:U)<y c):=by omega
    generalize F.data=fd at*;subst p;have ap:=X<|HB wr s;go_wp2_with(first
     |(at_builtin;go_loud(refine cC _ rfl (.tmp 54) (.tmp 55) 86 rfl 0 5 i0 (.int .u8 0) 1 1 underlying86 hi bi bk bl rfl (by decide) _ (y F.bytes) (F.bytes.map (Value.int .u8)) rfl HO (R bp d) (y c) C (c.map (Value.int .u8)) rfl (by simp) (λbm ad hj=>by rw[dJ];exact ap bm ad hj) (by intro ad hu;simp only[bH]at hu;obtain⟨ca,_,rfl⟩:=hu;rfl) (by omega) (by omega) (bK _) ?_;intro v2 i f aa;obtain⟨bu,aV,e⟩:=v v2 i f aa;obtain⟨x2,c2,rfl⟩:=aC f;have au:=X e)))
    go_ret;obtain⟨K2,h2,h3⟩:=J au;exact⟨_,K2,rfl,(J u).trans h2,.inl ⟨rfl,jT.pre ⟨rfl,rfl,rfl⟩<|jT.one h3⟩⟩
   .have L:(l.room-used:U)<y c:=by omega
    have a:=X (show EH K.fx from bg.elim id<|λq=>.inr<|by omega);go_wp2;go_ret;exact⟨_,_,rfl,zO.bad ((J u).still<|(J s).alloc _) ⟨rfl,rfl,rfl⟩ (sF.new _ _ k)<|.inr ⟨rfl,J a⟩⟩
  .intro bf pk pv P Q v e r aU au;obtain⟨aa,l,an,rfl,rfl,L,rfl⟩:=BB v;simp only[aX.nm,jr,io]at L;obtain⟨rfl,rfl⟩:=L;have i:l∈K.files:=HL l (by simp);have f:Z aw al Q:=s.trans (fo r) (by grind);have j:=t Q f;have hF:=j.files l i;have E:=cellAt hF.1 0 rfl;obtain⟨cc,cb,p⟩:=fg.shape hF.2.1;rw[p]at E;have bd:eV (aa++l::an)=eV (aa++an)+y l.bytes:=by simp[eV];omega
   obtain⟨ap,a,g⟩:=dF (show(λav=>av∈K.files)=(λav=>av∈K.files)from rfl) e f;go_wp2;go_roundw;case rel=>exact⟨aa++an,used+y l.bytes,λav n=>HL av (by grind),by go_num,by omega,by simpa using J a,g⟩
   case measure=>rw[(J a).left_eq,(J x).left_eq];simp
def Bytes.cells(l:Bytes a (bI b c (y n) i) n):∀j u,(n.map<|Value.int .u8)[j]?=H u->aW a (R b<|c+j)=H u:=by
 rcases l with⟨h,_⟩|⟨k,e,d,h,_,m⟩;cases h;grind
def JB{v:ab}{bs:eF}{w:Y}(h:Bytes w v bs)(Q:y bs<=1099511627776)(g:∀q,cI v=H q->q<z (G w)):cY bA 50 #[v] w λP t=>∃s,P=aN s/\fg t (z<|G w) s bs/\Below (z<|G w) w t:=by
 obtain⟨L,E,m,o,p⟩:=dl qG;rcases h.shape with⟨rfl,rfl⟩|⟨A,e,l,rfl,K⟩;(.have D:∀w:Y,(binOp .eql 86 az az).run bA w=.ok (aM cf) w:=λ_=>rfl;(go_in);go_wp2;go_ret;exact⟨_,rfl,fg.nil _ _,Below.refl _ _⟩)
 .have C:A<z (G w):=g A rfl;have u:=X h.cells;have i:(dd w<|ay #[] 5).ownsRow (z<|G w) 5 1 (bI (z<|G w) 0 0 0) 0 []:=World.ownsRow_lit w #[] 0 (ag _) (by decide) rfl;have x:=X i;have D:∀(w:Y)a n c,(binOp .eql 86 (I (H a) n c) az).run bA w=.ok (aM bw) w:=λ_ _ _ _=>rfl;clear h g i;go_in
  go_wp2_with(first
   |(at_builtin;refine cC _ rfl (.tmp 5) (.tmp 6) 86 rfl (z (G w)) 5 L (.int .u8 0) 1 1 underlying86 E m o p rfl (by decide) _ 0 [] rfl x (R A e) (y bs) l (bs.map (Value.int .u8)) rfl (by simp) (λS O F=>by rw[dJ,fE C];exact u S O F) (by intro O r;simp only[bH]at r;obtain⟨N,_,rfl⟩:=r;rfl) (by omega) (by omega) (by simp) ?_;intro V W b d;have j:=X b;have k:=X d;clear b d))
  go_ret;refine⟨_,rfl,fg.of j (by simp) (by simp),?_⟩;have:=k.below (B:=z<|G w) (by simp) (by rintro q⟨⟩;grind);exact⟨this.os,this.tape,this.output,aB (by simp) this.size,λq b=>(this.block q b).trans<|Below.heap_alloc w _ q b⟩
def bY.Sf{K:DK}(h:bY a b K)(r m:U):qQ a (cH (cH a (R b 6)<|aq r) (R b 7)<|aq m) b K {K with fx:={K.fx with reads:=r,Nd:=m}}:=by
 have d:Z (λk=>k=b) a (cH (cH a (R b 6)<|aq r) (R b 7)<|aq m):=(iT b a).setCell b 7 _<|.inl rfl;have c:iW (cH a (R b 6)<|aq r) b K.nb K.sb K.mv {K.fx with reads:=r}:=by unfold iW;rw[aJ h.gG];rfl
 exact h.p6 (by unfold iW;rw[aJ c];rfl) d ⟨id,rfl,id,rfl⟩
def RM(o:a.ownsRow b i l d F B)(m:c<=b):a.ownsRow c i l d F B:=by
 obtain⟨h,k|⟨n,e,f,j,g,r⟩⟩:=o;exact⟨h,.inl k⟩;exact⟨h,.inr ⟨n,e,f,j,aB m g,r⟩⟩
def Z0(w c:Y)(b:M)(K:DK)(e:eF)(f:Ending):Prop:=∃a,qQ w c b K a/\qc K a/\(∀k,a.aL b k->K.aL b k)/\((∃d,f=aN (dA #[d,.nilIface])/\fg c (z<|G w) d e)\/(0<K.fx.bd/\∃q,f=aN (dA #[az,fj q])/\sF c q 8))
def CV(d:ae)(s A:M)(h:bY a b g)(hg:dV g.files d=H O)(ha:s<=y O.bytes)(hn:A<=1099511627776)(av:Nm d):cY bA 83 #[aD b,am d,aq s,aq A] a λj w'=>Z0 a w' b g ((O.bytes.drop s).take A) j:=by
 have hl:y O.bytes<=1099511627776:=h.len (dq hg).2.1;have bd:=cellAt h.gG 6 rfl;have bi:=cQ (i:=6) h.gG;have f:∀C,aW (cH a (R b 6)<|aq C) (R b 7)=H (aq g.fx.Nd)/\(cH a (R b 6)<|aq C).frozen? (R b 7)=bw:=by intro C;(have S:iW (cH a (R b 6)<|aq C) b g.nb g.sb g.mv {g.fx with reads:=C}:=by unfold iW;rw[aJ h.gG];rfl);exact⟨by rw[ct S];rfl,cQ S⟩
 have bf:=λC=>(f C).1;have bk:=λC=>(f C).2;have HF:=X<|λC bn=>zD d (h.Sf C bn).ok av;have r:=X<|λC bn=>h.Sf C bn;obtain⟨u,hk,bc,W⟩:∃u,u=min A (y O.bytes-s)/\s+u<=y O.bytes/\(O.bytes.drop s).take u=(O.bytes.drop s).take A:=⟨min A<|y O.bytes-s,rfl,by omega,by rw[List.take_eq_take_iff];simp⟩;obtain⟨o,F⟩:∃o,(O.bytes.drop s).take A=o:=⟨_,rfl⟩;rw[F]at W|-;have v:=X W;have ap:y o<=1099511627776:=by rw[<-F];simp;omega
 have au:g.fx.Nd<A\/¬g.fx.Nd<A:=by omega
 rcases au with hm|hm
 all_goals
  go_in
  go_wp2_with fail
  apply(HF _ _).mono;rintro j w1⟨bo,hd,ht,⟨B,f,rfl⟩|⟨f,_⟩|⟨N,q,rfl,hq⟩⟩;case inr.inl=>
   rw[show dV g.files d=H O from hg]at f;cases f
  case inr.inr=>
   have HQ:=X hq;have HB:=X N;have HD:=X<|(r _ _).trans hd;go_wp2;go_ret2
   exact⟨_,HD,⟨rfl,rfl,rfl⟩,λ_ j=>j,.inr ⟨HB,q,rfl,HQ⟩⟩
  have an:B=O:=by rw[show dV g.files d=H O from hg]at f;cases f;rfl
  subst an;have hF:=hd.ok.files B (dq hg).2.1;have Q:=cellAt hF.1 0 rfl;have x:=hF.2.1;have K:=fg.bytes x;have T:=(r _ _).trans hd;have aF:=T.aj.size;have e:=X (λ(aU:ab)(N:Bytes w1 aU o)(ho:∀aa,cI aU=H aa->cI B.data=H aa)=>
   show cY bA 50 #[aU] w1 λj w'=>∃v',j=aN v'/\fg w' (z<|G a) v' o/\∃c,qQ a w' b g c/\qc g c/\∀u,c.aL b u->g.aL b u from(JB N ap<|λu j=>(bN x u<|ho u j).2).mono (by
    rintro j w'⟨v',rfl,ax,P⟩;exact⟨v',rfl,RM ax aF,_,T.still (Z.aQ P),⟨rfl,rfl,rfl⟩,λ_ j=>j⟩))
  have L:=(show _ from x).2;rcases L with⟨n,E⟩|⟨ba,p,aV,n,_,_,bm,bh,_,_⟩
  .have t:B.bytes=[]:=aS E;have ao:s=0:=by rw[t]at ha;simpa using ha
   have w:o=[]:=by rw[<-J v,t];simp
   subst ao;rw[n]at Q;have Ez:=X (e az (by rw[w];grind)<|λaa j=>by cases j);rcases gH A with V|V
   .subst V;go_wp2_with(first
     |(go_at_call 50;refine(J Ez).mono ?_;rintro j w2⟨v2,rfl,m,D,l⟩;have k:=X m;have c:=X l))
    go_ret2
    exact⟨D,(J c).1,(J c).2.1,(J c).2.2,.inl ⟨_,rfl,k⟩⟩
   .go_wp2_with(first
     |(go_at_call 50;refine(J Ez).mono ?_;rintro j w2⟨v2,rfl,m,D,l⟩;have k:=X m;have c:=X l))
    go_ret2
    exact⟨D,(J c).1,(J c).2.1,(J c).2.2,.inl ⟨_,rfl,k⟩⟩
  .have al:Bytes w1 (bI ba s u<|p-s) o:=by
    rw[n]at K;have f:=K.Dr ha;rw[dM]at f;have h2:=Bytes.take (bs:=B.bytes.drop s) (by simpa using f) (n:=u) (by simp;omega);rw[J v]at h2;exact h2
   have w:s=p->Bytes w1 (bI ba 0 u 0) o:=by
    intro j;obtain rfl:u=0:=by omega
    rw[show o=[]by rw[<-J v];simp];exact .inr<|by simp
   have Ez:=X<|λ(aU:ab)(N:Bytes w1 aU o)(ho:∀aa,cI aU=H aa->H ba=H aa)=>e aU N (λaa j=>by rw[n];exact ho aa j);have ad:=X al;have ac:=X w;rw[n]at Q;have bb:s<=p:=by omega
   by_cases bg:s=p;all_goals
    by_cases bl:A<=y B.bytes-s;all_goals
     go_wp2_with fail
     refine(J Ez _ ?_<|λaa j=>by exact j).mono ?_
     .have f:=J ad;have E:=J ac;first
       |((have j:u=A:=by omega);rw[j]at E;exact E<|by omega)
       |((have j:u=0:=by omega);rw[j]at E;grind)
       |((have j:u=A:=by omega);rw[j]at f;exact f)
       |(grind)
     rintro j w2⟨v2,rfl,m,D,l⟩;have k:=X m;have c:=X l;go_wp2;go_ret2
     exact⟨D,(J c).1,(J c).2.1,(J c).2.2,.inl ⟨_,rfl,k⟩⟩
def mB(b:M)(r:U)(a:Bool):DK:=⟨b,b+1,az,⟨r,0,0,0,0,a⟩,[],[],[],[]⟩
def Jc(w:Y):gv (dd w<|.map #[] 0) (z<|G w) []:=⟨#[],0,iE _ _,rfl,qS 0⟩
def yF(w:Y)(r:U)(b:Bool)(g:0<=r/\r<=1099511627776):cY bA 5 #[aq r] w λi c=>i=aN (aD<|z (G w)+2)/\bY c (z (G w)+2) (mB (z<|G w) r b)/\Below (z<|G w) w c:=by
 have e:=@rW bA;have a:bY (dd (dd (dd w<|.map #[] 0)<|.map #[] 0)<|ay #[.map<|H<|z<|G w,.map<|H<|z (G w)+1,az,aq r,aq 0,aq 0,aq 0,aq 0] 63) (z (G w)+2) (mB (z<|G w) r b):=by refine⟨?_,((Jc w).alloc _).alloc _,?_,by simp[mB],cK _ _ _ _,by simp[mB],by simp[mB],by simp[mB],by simp[mB,Cv.ok],by simp[mB,eV],g,by simp[mB],by simp[mB],by simp[mB]⟩;have:=iE (dd (dd w<|.map #[] 0)<|.map #[] 0)<|ay #[.map<|H<|z<|G w,.map<|H<|z (G w)+1,az,aq r,aq 0,aq 0,aq 0,aq 0] 63;simpa[iW,mB]using this;have:=(Jc<|dd w<|.map #[] 0).alloc<|ay #[.map<|H<|z<|G w,.map<|H<|z (G w)+1,az,aq r,aq 0,aq 0,aq 0,aq 0] 63;simpa[mB]using this
 have d:=X a;clear a;go_in
 go_wp2;go_ret;exact⟨rfl,d,((((Below.refl _ w).alloc (ag _) _).alloc (by simp) _).alloc (by simp;omega) _)⟩
section
open ChangeMaps (setBlock)
abbrev oG:=ci<|U×ab
def sE(b:ci MapEntry)(m:oG):Prop:=b.map (λe=>(e.key,e.val))=m.map (λp=>(aq p.1,p.2))
theorem sE.nil:sE [] []:=rfl
def pz(w:Y)(d:M)(m:oG):Prop:=∃c b,w.heap[d]?=H (.map c b)/\sE c.toList m/\MapKept.Stamped c b
theorem pz.kept{w g:Y}{h:M}{m:oG}{c:Option M}(n:pz w h m)(k:w.grownBy g c)(d:H h≠c):pz g h m:=by
 obtain⟨i,b,e,j,l⟩:=n;exact⟨i,b,(k.block h (ak e) d).trans e,j,l⟩
theorem pz.alloc{w:Y}{b:M}{m:oG}(h:pz w b m)(o:Obj):pz (dd w o) b m:=h.kept (dP w o none)<|by simp
theorem pz.lt{w:Y}{b:M}{m:oG}(h:pz w b m):b<z (G w):=by
 obtain⟨_,_,c,_⟩:=h;exact ak c
section
variable{P:Program}(w:Y){ops:Array Oper}{rest:ci Oper}{o:Oper}{a:Act}{Q:Exit->Act->Y->Prop}
end
def qO(w:Y)(f r:M)(m left:oG):Prop:=∃d c b seen e,w.heap[f]?=H (.map d c)/\sE d.toList m/\MapKept.Stamped d c/\w.heap[r]?=H (.mapIter (H f) b seen e)/\(∀x∈d.toList,x.born<b)/\b<=e/\b<=c/\sE (leftOf d seen).toList left
theorem qO.ne{w:Y}{c r:M}{m left:oG}(h:qO w c r m left):r≠c:=by
 obtain⟨d,b,_,_,_,e,_,_,g,_⟩:=h;grind
theorem qO.lt{w:Y}{b r:M}{m left:oG}(h:qO w b r m left):r<z (G w):=by
 obtain⟨e,c,_,_,_,_,_,_,d,_⟩:=h;exact ak d
theorem qO.kept{w d:Y}{e r:M}{q left:oG}(s:qO w e r q left)(n:d.heap[e]?=w.heap[e]?)(p:d.heap[r]?=w.heap[r]?):qO d e r q left:=by
 obtain⟨h,b,c,seen,g,i,j,k,l,m⟩:=s;exact⟨h,b,c,seen,g,n.trans i,j,k,p.trans l,m⟩
theorem sE.split{d:ci MapEntry}{m:oG}{c b:ci MapEntry}{f:MapEntry}(h:sE d m)(k:d=c++f::b):∃a p e,m=a++p::e/\sE c a/\f.key=aq p.1/\f.val=p.2/\sE b e:=by
 subst k;unfold sE at h;rw[aE,bR]at h;obtain⟨a,n,rfl,g,i⟩:=iO.1 h.symm;obtain⟨p,e,rfl,l,j⟩:=nW.1 i;exact⟨a,p,e,rfl,g.symm,(by grind),(by grind),j.symm⟩
theorem sE.append{b c:ci MapEntry}{m n:oG}(h:sE b m)(k:sE c n):sE (b++c) (m++n):=by
 unfold sE at*;rw[aE,aE,h,k]
theorem Px{P:Program}{w:Y}{mt j g f:M}{m:oG}(k:P.underlying mt=H (.map j g))(l:pz w f m):∃d,(Instr.range mt<|.map<|H f).run P w=.ok (aD<|z<|G w) d/\qO d f (z<|G w) m m/\w.grownBy d none/\z (G d)=z (G w)+1:=by
 obtain⟨c,b,e,h,i⟩:=l;refine⟨_,run_range_map w mt j g f c b k e,⟨c,b,b,#[],b,((pD w _).2 f<|ak e).trans e,h,i,(pD w _).1,i.1,ag _,ag _,?_⟩,dP w _ none,by simp⟩;have:leftOf c #[]=c:=by simp[leftOf]
 rw[this];exact h
theorem SZ{P:Program}{w:Y}{t r:M}{ac left:oG}(aa:qO w t r ac left)(K:TypeId):(left=[]/\(Instr.next (aD r) bw K).run P w=.ok (dA #[aM bw]) w)\/∃l F e m,left=l++F::e/\(Instr.next (aD r) bw K).run P w=.ok (dA #[aM cf,aq F.1,F.2]) m/\qO m t r ac (l++e)/\w.grownBy m (H r)/\z (G m)=z (G w)/\(Instr.entry<|aD r).run P m=.ok (dA #[aq F.1,F.2]) m:=by
 have C:=aa.ne;obtain⟨j,b,c,seen,L,N,hf,D,O,i,E,q,B⟩:=aa;rcases run_next_at (P:=P) w K r t c L seen j b O N i E with⟨h0,d⟩|⟨x,W,v,f,d⟩;refine .inl ⟨?_,d⟩;(have:(leftOf j seen).toList=[]:=by grind);rw[this]at B;simpa[sE]using B;obtain⟨l,e,s⟩:=tW W;obtain⟨a,F,ad,rfl,T,u,S,V⟩:=B.split s;(have g:v.heap=w.heap:=by rcases f with rfl|rfl<;>rfl);(have p:v.heap[r]?=H (.mapIter (H t) c seen L):=by rw[g];exact O);have h:(setBlock v r<|.mapIter (H t) c (seen.push x.born) b).heap[r]?=H (.mapIter (H t) c (seen.push x.born) b):=(iN p).1;have k:∀d,d≠r->(setBlock v r<|.mapIter (H t) c (seen.push x.born) b).heap[d]?=w.heap[d]?:=λd u=>((iN p).2 d u).trans (by rw[g]);have n:=(k t<|λx=>C x.symm).trans N;(have A:x∈j.toList:=by(have:(leftOf j seen).toList.Sublist j.toList:=by simp[leftOf]);grind);refine .inr ⟨a,F,ad,_,rfl,by rw[<-u,<-S];exact d,⟨j,b,c,_,b,n,hf,D,h,i,q,q,by rw[Jg D.2.1 s];exact T.append V⟩,⟨?_,?_,?_,?_,(by grind)⟩,?_,?_⟩;rcases f with rfl|rfl<;>rfl;rcases f with rfl|rfl<;>rfl;rcases f with rfl|rfl<;>rfl;simp[setBlock,g];simp[setBlock,g];rw[<-u,<-S];exact run_entry_at _ r t c seen j b x h n A D.2.1
section
variable{P:Program}(w:Y){ops:Array Oper}{rest:ci Oper}{o:Oper}{a:Act}{Q:Exit->Act->Y->Prop}
end
theorem pz.new(w:Y):pz (dd w<|.map #[] 0) (z<|G w) []:=by
 refine⟨#[],0,?_,sE.nil,qS 0⟩;show(w.heap.push _)[z<|G w]?=_;simp
theorem pz.dG{w w':Y}{b:M}{m:oG}(h:pz w b m)(g:w'.heap[b]?=w.heap[b]?):pz w' b m:=by
 obtain⟨d,c,e,f⟩:=h;exact⟨d,c,g.trans e,f⟩
end
def wW:∀{m:eU}{k:ae},m.get k=none->m.put k d=m++[(k,d)]
 |[],k,_=>rfl
 |p::r,k,h=>by
  unfold eU.get at h;by_cases e:p.1=k
  .rw[di e]at h;cases h
  .rw[dt e]at h;unfold eU.put;rw[dt e,wW h];rfl
def NS{v:ab}:∀{m:eU}{k:ae},m.get k=none->eU.get (m++[(k,v)]) k=H v
 |[],k,_=>by simp[eU.get]
 |p::r,k,h=>by
  unfold eU.get at h;by_cases e:p.1=k
  .rw[di e]at h;cases h
  .rw[dt e]at h;show eU.get (p::(r++[(k,v)])) k=H v;unfold eU.get;rw[dt e];exact NS h
def Eh(h:r∉P.map aX.name):eU.get (P.map aX.nm) r=none:=by
 induction P with
 |nil=>rfl
 |cons f P a=>
  rw[bR,bM,not_or]at h;rw[bR];unfold eU.get;rw[dt<|λe=>h.1 e.symm];exact a h.2
def rP{m:eU}{e:Array ab}{t:TypeId}{g:M×M}(k:gv a b m)(d:a.heap[c]?=H (ay e t g)):c≠b:=by
 rintro rfl;obtain⟨j,i,h,_⟩:=k;rw[h]at d;cases d
def bY.add{K:DK}{f:aX}{j:eU}(m:bY a b K)(C:K.eP=[])(h:K.nh=[])(r:Z (λk=>k=K.nb\/k=K.sb) a A)(n:gv A K.nb (K.files.map aX.nm++[f.nm]))(i:gv A K.sb j)(B:mi A f)(x:z (G a)<=f.jM)(u:∀k,cI f.data=H k->z (G a)<=k)(v:eV (K.files++[f])<=4611686018427387904):bY A b {K with files:=K.files++[f],sm:=j}/\∀k,DK.aL b {K with files:=K.files++[f],sm:=j} k->K.aL b k\/k=f.jM\/cI f.data=H k:=by
 have e:∀{k:M}{b:Array ab}{t:TypeId}{c:M×M},a.heap[k]?=H (ay b t c)->¬(k=K.nb\/k=K.sb):=λg l=>l.elim (rP m.now g)<|rP m.safe g;refine⟨⟨?_,?_,i,m.ne,?_,?_,?_,?_,m.tu,v,m.jV,by rw[h];simp,by rw[h];simp,by rw[h];simp⟩,?_⟩;exact(r.block b (ak m.gG)<|e m.gG).trans m.gG;rw[aE];exact n;exact r.own m.steps (λk g l=>by obtain⟨o,t⟩:=eT m.steps g;grind);grind
 intro s c;rcases aA.1 c with c|c;have d:=m.files s c;exact d.aj r (e d.1) (λk g l=>by obtain⟨o,t⟩:=eT d.2.1 g;grind);grind
 show(K.files++[f]).Pairwise js;rw[aZ];refine⟨m.apart,pN _ _,λs c w p=>?_⟩;obtain rfl:=cL.1 p;have d:=m.files s c;refine⟨λD=>by have:=ak d.1;omega,λk g q=>?_⟩;have:=(bN d.2.1 k g).2;have:=u k q;omega;rintro k(l|l|l|l|⟨q,p,l⟩|⟨s,c,l⟩);exact .inl<|.inl l;exact .inl<|.inr<|.inl l;exact .inl<|.inr<|.inr<|.inl l;exact .inl<|.inr<|.inr<|.inr<|.inl l;(grind);rcases aA.1 c with c|c;rcases aA.1 c with c|c;exact .inl (.inr<|by grind);(grind);grind
def By{P:Program}{r:Oper}{h:Act}{K:Act->Y->Prop}{Q:Exit->Act->Y->Prop}(i A j:Operand)(x:TypeId)(g:r.op=Op.mapUpdate x i A j)(v B:TypeId)(o:P.underlying x=H (.map v B))(m:P.underlying v=H .string)(k:M)(w:eU)(n:h.eval i=.map (H k))(C:gv a k w)(b:ae)(c:ab)(q:h.eval A=am b)(p:h.eval j=c)(l:∀d,gv d k (w.put b c)->a.grownBy d (H k)->z (G d)=z (G a)->K (h.put r.dst iM) d):Oper.wp P r h a K Q:=by
 obtain⟨d,e,s,t,u⟩:=DR o m C b c;unfold Oper.wp;simp[execOp,g,n,q,p,e,Result.andThen];exact l d s t u
def X3(w c:Y)(b:M)(K:DK)(t:U):Prop:=∃x a,(0<=x/\x<=9223372036854775807)/\(0<=a/\a<=9223372036854775807)/\(t<=0->a=0)/\bY c b {K with fx:={K.fx with wt:=x,bd:=a}}/\Z (λk=>k=b) w c
def GF{K:DK}(p t:U)(h:bY a b K)(l:p<=9223372036854775807)(m:t<=9223372036854775807):cY bA 7 #[aD b,aq p,aq t] a λf B=>f=aN (dA #[])/\X3 a B b K t:=by
 have c4:a.frozen? (R b 4)=bw:=cQ h.gG;have c5:a.frozen? (R b 5)=bw:=cQ h.gG;have C:=cellAt h.gG 4 rfl;have D:=cellAt h.gG 5 rfl;have r:∀x,(cH a (R b 4)<|aq x).frozen? (R b 5)=bw/\aW (cH a (R b 4)<|aq x) (R b 5)=H (aq K.fx.bd):=λx=>by(have:iW (cH a (R b 4)<|aq x) b K.nb K.sb K.mv {K.fx with wt:=x}:=by unfold iW;rw[aJ h.gG];rfl);exact⟨cQ this,by rw[ct this];rfl⟩
 have u:=λx=>(r x).1;have v:=λx=>(r x).2;have fin:∀x c,(0<=x/\x<=9223372036854775807)->(0<=c/\c<=9223372036854775807)->bY (cH (cH a (R b 4)<|aq x) (R b 5)<|aq c) b {K with fx:={K.fx with wt:=x,bd:=c}}/\Z (λo=>o=b) a (cH (cH a (R b 4)<|aq x) (R b 5)<|aq c):=λx c n A=>by(have g:iW (cH a (R b 4)<|aq x) b K.nb K.sb K.mv {K.fx with wt:=x}:=by unfold iW;rw[aJ h.gG];rfl);(have i:iW (cH (cH a (R b 4)<|aq x) (R b 5)<|aq c) b K.nb K.sb K.mv {K.fx with wt:=x,bd:=c}:=by unfold iW;rw[aJ g];rfl);have e:Z (λo=>o=b) a (cH (cH a (R b 4)<|aq x) (R b 5)<|aq c):=(iT b a).setCell b 5 _<|.inl rfl;have F:Fx K.fx {K.fx with wt:=x,bd:=c}\/True:=.inr trivial;refine⟨⟨i,h.now.aj e<|λf=>h.now.tag h.gG f.symm,h.safe.aj e<|λf=>h.safe.tag h.gG f.symm,h.ne,e.own h.steps<|λo f=>(h.Bh f).2.2,?_,?_,h.apart,⟨n,A⟩,h.room,h.jV,?_,h.wD,h.EF⟩,e⟩;intro x n;refine(h.each x n).aj e<|λo f=>?_;obtain⟨j,E,k⟩:=(h.each x n).2.2 o f;exact iQ k h.gG (by decide);intro w s;have hF:=h.files w s;refine hF.aj e (iQ hF.1 h.gG<|by decide)<|λo f=>?_;obtain⟨j,k⟩:=eT hF.2.1 f;exact iQ k h.gG (by decide);intro w s;have hF:=h.qa w s;refine hF.aj e (iQ hF.1 h.gG<|by decide)<|λo f=>?_;obtain⟨j,k⟩:=eT hF.2.1 f;exact iQ k h.gG<|by decide
 have d:=X fin;clear h r fin;by_cases g:0<=p<;>by_cases i:0<=t;(·(go_in);go_wp2;go_end0;exact⟨rfl,p,t,⟨g,l⟩,⟨i,m⟩,λq=>by omega,J d p t ⟨g,l⟩ ⟨i,m⟩⟩);(·(go_in);go_wp2;go_end0;exact⟨rfl,p,0,⟨g,l⟩,by omega,λq=>rfl,J d p 0 ⟨g,l⟩<|by omega⟩);(·(go_in);go_wp2;go_end0;exact⟨rfl,0,t,by omega,⟨i,m⟩,λq=>by omega,J d 0 t (by omega) ⟨i,m⟩⟩);(go_in);go_wp2;go_end0;exact⟨rfl,0,0,by omega,by omega,λq=>rfl,J d 0 0 (by omega)<|by omega⟩
