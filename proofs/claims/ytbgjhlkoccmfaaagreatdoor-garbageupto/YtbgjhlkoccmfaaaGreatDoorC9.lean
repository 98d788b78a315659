import Derived.Test.YtbgjhlkoccmfaaaGreatDoorC8
open _root_ renaming List.length→y,Option.some→M,Array.size→G,Go.World.heap→H,Go.Value.ownBlock→cN,Go.World.cell?→bA,Go.World.setCell→cP,Go.World.alloc→dw,Bool.false→bD,Bool.true→cz,Nat→R,Int→Y,List→cy,Go.Calls→cR,Go.undef→jm,Go.Proofs.Tryz.prog→bN,Go.Value.slice→am,Go.Value.string→aw,Go.Value.bool→aO,Go.Value.pointer→ee,Go.Value.tuple→de,Go.Value.agg→ef,Go.World.frozen?→iH,Go.World.ownsRow→fD,Go.Value.nilIface→ib,Go.Act.put→ig,Nat.reduceAdd→jZ,Go.RowKit.Below→gC,Bool→eN,Option.none→dE,rfl→z,Or.inl→J,Or.inr→bj
namespace Go.Proofs.YtbgjhlkoccmfaaaGreatDoor
open ChangeShapes WideShapes RowKit Proofs.Tryz List
set_option maxHeartbeats 16000000
set_option linter.all false
set_option maxRecDepth 100000
variable{a e P:Z}{b c k n T:R}{d:ae}{f x:DK}{l v C F:dI}{m:eD}{o:SR}{W:fB}{r:Y}{B:af}{K:Prop}{N:Fs}{O:iF}{S:E}{V:eN}
def FV(a:R)(b:dI):ae->Prop:=λx=>x=aw fj\/x=aw (gW a)\/∃t∈b,x=aw (jf t.cK)
def rj{P:Program}{s:Oper}{f:Act}{K:Act->Z->Prop}{Q:Exit->Act->Z->Prop}(i x j:Operand)(w:TypeId)(e:s.op=Op.insert w i x j)(v A:TypeId)(p:P.underlying w=M (.map v A))(l:TypeDesc)(n:P.underlying v=M l)(k:R)(g:ae->Prop)(o:f.eval i=.map (M k))(h:mK a k l g)(b:ae)(d:MapKept.IsKey l b)(r:f.eval x=b)(q:f.eval j=ef #[])(m:∀w',mK w' k l (λx=>g x\/x=b)->a.grownBy w' (M k)->K (f.put s.dst jm) w'):Oper.wp P s f a K Q:=by
 let⟨w',c,t,u,_⟩:=BE p n h b d;unfold Oper.wp;simp[execOp,e,o,r,q,c,Result.andThen];exact m w' t u
def wq(a:R)(b:dI)(x:af):eN:=decide (x=fj)||decide (x=gW a)||b.any (λt=>decide<|x=jf t.cK)
def Xx(a:R)(b:dI)(x:af):wq a b x=cz↔FV a b (aw x):=by
 unfold wq FV;simp[or_assoc]
def IQ(bv bx ao bE:dI)(h:cU a b o r)(hl:Fw a b 10 [(o.l0,bv),(o.l1,bx),(o.l2,ao),(o.l3,bE)])(hT:∀et∈bv++bx++ao++bE,MZ a et)(hp:Pow a)(cr:o.l<18446744073709551616)(cv:y (bv++bx++ao++bE)<=20000000000)(co:cJ a o.f f)(ec:y f.ah<=20000000000)(hE:td a)(hn:∀x∈f.ah.map dj.dA,x.size<=2000000):cR bN 76 #[aJ b] a λap w'=>∃v',ap=aN v'/\∃k:cy af,(∀x∈k,x∈f.ah.map dj.dA/\wq o.l (bv++bx++ao++bE) x=bD)/\y k<=y f.ah/\fD w' (G<|H a) 9 1 v' (y k) (strs k)/\I aC a w':=by
 let⟨i0,cp,dd,dk,dn⟩:=cZ BT;let⟨u0,cB,dc,el,em⟩:=cZ Hn;have ei:=@tC bN;have ds:∀(x:eN)(a:Z),(Op.unary .not<|aO x).run bN a=.ok (aO<|!x) a:=λ_ _=>rfl;have bh:∀W,I aC a W->cR bN 69 #[bw o.l] W λap w'=>ap=aN (aw<|gW o.l)/\gC (G<|H W) W w':=λW E=>AM o.l cr<|hp.aA E id;have al:∀W,I aC a W->cR bN 127 #[ee<|M<|X b 10] W λap w'=>∃v',ap=aN v'/\fD w' (G<|H W) 235 1 v' (y<|bv++bx++ao++bE) ((bv++bx++ao++bE).map cH.D)/\I aC W w':=λW E=>by have e:Fw W b 10 [(o.l0,bv),(o.l1,bx),(o.l2,ao),(o.l3,bE)]:=⟨hl.dL,λD F=>E.u (hl.u D F) id hl.lt,λD F=>E.bV (hl.bV D F)<|λq a=>⟨id,hl.l D F q a⟩,λD F q a=>au (hl.l D F q a) E.D,hl.f⟩;have:=uz _ e;rwa[TR,UD]at this
 have cs:∀W,I aC a W->cR bN 22 #[aJ o.f] W λap w'=>∃v' k,ap=aN v'/\List.Perm k (f.ah.map dj.dA)/\fD w' (G<|H W) 9 1 v' (y k) (strs k)/\I aC W w':=λW E=>CJ (db:=o.f) (K:=f) (w:=W) (co.aA E<|λ_ _=>id) U;have br:=az h;have c2:=cU.bW h 2 z;have ch:=cU.bW h 17 z;let⟨T,cn⟩:∃T,bv++bx++ao++bE=T:=⟨_,rfl⟩;rw[cn]at hT al cv|-;let⟨HH,aV,HP,HN,K,Dl,bT⟩:=zX h hT hp hn bh al cs;generalize o.l=d at*;generalize o.f=dr at*;go_in
 go_wp21;rename_i QQ KK cl;refine cX (λj4=>bA j4 (X b 17)=M (bw d)) 11 aH ?_;have g:∀W,I aC a W->bA W (X b 17)=M (bw d):=λW E=>E.u ch id br;have ax:I aC a a.drew:=cf _ a;have av:=g _ ax;have ek:G (H a.drew)=G (H a):=rfl;refine mW (i:=1) (v:=?_) z z aH aH aH aH (λ_ _ _ h=>h) (J ⟨by rfl,?_⟩) av ?_;rotate_left;(.rintro j4 z0;go_simp;try with_reducible rfl);simp only[ig,eh,fT];refine dH 3 ?_;iterate 4 (refine fW av ?_;simp only[ig,eh,fT,jZ])
 apply eS;refine mW (i:=8) (v:=?_) z z aH aH aH aH (λ_ _ _ h=>h) (J ⟨by rfl,?_⟩) av ?_;rotate_left;(.rintro j4 z0;go_simp;try with_reducible rfl);simp only[ig,eh,fT];refine wl (α:=R) (λl W=>I aC a W/\G (H a)<=l/\mK W l .string (λx=>x=aw ⟨#[115,116,97,116,101]⟩\/x=aw (gW d))) (λl=>{tmps:=#[aJ b,jm,aF,jm,jm,jm,jm,jm,jm,jm,jm,.map<|M l,ef #[],aJ b,aJ b,ee<|M<|X b 17,bw d,aw<|gW d,ef #[],jm,jm,jm,jm,jm,jm,jm,jm,jm,jm,jm,jm,jm,jm,jm,jm,jm,jm,jm,jm,jm,jm,jm,jm,jm,jm,jm,jm,jm,jm,jm,jm,jm,jm,jm,jm,jm,jm,jm,jm,jm,jm,jm],defers:=[]}) #[true,true,true,true,true,true,true,true,true,true,false,false] 2 ?_ ?_;(.intro L;refine wl (α:=R) (λl W=>I aC a W/\G (H a)<=l/\mK W l .string aC) (λl=>{tmps:=#[aJ b,jm,aF,jm,jm,jm,jm,jm,jm,jm,jm,.map<|M l,ef #[],aJ b,aJ b,ee<|M<|X b 17,bw d,aw<|gW d,ef #[],jm,jm,jm,jm,jm,jm,jm,jm,jm,jm,jm,jm,jm,jm,jm,jm,jm,jm,jm,jm,jm,jm,jm,jm,jm,jm,jm,jm,jm,jm,jm,jm,jm,jm,jm,jm,jm,jm,jm,jm,jm,jm,jm],defers:=[]}) #[cz,cz,bD,cz,cz,cz,cz,cz,cz,bD,bD,bD] 4 ?_ ?_;(.intro w;refine vi (i:=0) (j:=7) z z z z aH ?_ ?_;(.intro f B;go_simp;have t:=(mK.lX a .string).dU (w':=(dw a<|.map #[] 0).drew) z;have u:I aC a (dw a<|.map #[] 0).drew:=(cI aC a).df z;refine B _ _ (λ_=>g _ u) ?_;generalize(dw a<|.map #[] 0).drew=W1 at*;refine vi (i:=2) (j:=7) z z z z aH ?_ ?_;(.intro V n;(try simp only[dl,cF,cO]);refine rj (.tmp 11) (.const<|aw ⟨#[115,116,97,116,101]⟩) (.tmp 12) 247 z 9 95 underlying247 .string underlying9 (G<|H a) _ z t (aw ⟨#[115,116,97,116,101]⟩) trivial z z ?_;intro P m p;have e:I aC a P:=u.aj (gH p) ar;refine n _ _ (λ_=>g _ e) ?_;refine aW 7 ?_;intro K3 ab;go_simp;go_call K _ e as ap C⟨rfl,s⟩;have i:I aC a C:=e.t<|I.p (S:=aC) s;have Q:=m.dU<|s.block _ m.lt;refine ab _ _ (λ_=>g _ i) ?_;refine aW 9 ?_;intro K4 ac;(try simp only[dl,cF,cO]);refine rj (.tmp 11) (.tmp 17) (.tmp 18) 247 z 9 95 underlying247 .string underlying9 (G<|H a) _ z Q (aw<|gW d) trivial z z ?_;intro w7 ad N;have O:I aC a w7:=i.aj (gH N) ar;exact ac _ _ (λ_=>g _ O)<|lB (L (G<|H a) _ aI) aH);intro V n;go_simp;go_call K _ u as ap C⟨rfl,s⟩;have i:I aC a C:=u.t<|I.p (S:=aC) s;have Q:=t.dU<|s.block _ t.lt;exact n _ _ (λ_=>g _ i)<|lB (w (G<|H a) _ ⟨i,aq _,Q⟩) aH);intro f B;go_simp;go_call K _ ax as ap C⟨rfl,s⟩;have i:I aC a C:=ax.t<|I.p (S:=aC) s;refine B _ _ (λ_=>g _ i) ?_;refine aW 0 ?_;intro V n;go_simp;have t:=i.aE<|.map #[] 0;exact n _ _ (λ_=>g _ t)<|lB (w (G<|H C) _ ⟨t,i.D,mK.lX C .string⟩) aH);rintro l W⟨A,bi,c⟩;refine vi (i:=2) (j:=9) z z z z aH ?_ ?_;intro f B;(try simp only[dl,cF,cO]);refine rj (.tmp 11) (.const<|aw ⟨#[115,116,97,116,101]⟩) (.tmp 12) 247 z 9 95 underlying247 .string underlying9 l _ z c (aw ⟨#[115,116,97,116,101]⟩) trivial z z ?_;intro P m p;have e:I aC a P:=A.aj (gH p) aI;refine B _ _ (λ_=>g _ e) ?_;refine aW 9 ?_;intro V n;(try simp only[dl,cF,cO]);refine rj (.tmp 11) (.tmp 17) (.tmp 18) 247 z 9 95 underlying247 .string underlying9 l _ z m (aw<|gW d) trivial z z ?_;intro C u t;have s:I aC a C:=e.aj (gH t) aI;exact n _ _ (λ_=>g _ s)<|lB (L l _ aI) aH;intro f B;(try simp only[dl,cF,cO]);refine rj (.tmp 11) (.tmp 17) (.tmp 18) 247 z 9 95 underlying247 .string underlying9 l _ z c (aw<|gW d) trivial z z ?_;intro P m p;have e:I aC a P:=A.aj (gH p) aI;refine B _ _ (λ_=>g _ e) ?_;refine aW 2 ?_;intro V n;(try simp only[dl,cF,cO]);refine rj (.tmp 11) (.const<|aw ⟨#[115,116,97,116,101]⟩) (.tmp 12) 247 z 9 95 underlying247 .string underlying9 l _ z m (aw ⟨#[115,116,97,116,101]⟩) trivial z z ?_;intro C u t;have s:I aC a C:=e.aj (gH t) aI;exact n _ _ (λ_=>g _ s)<|lB (L l _ ⟨s,bi,u.yL<|λx=>aI⟩) aH);rintro l W⟨A,bi,c⟩;refine mW (i:=10) (v:=?_) z z aH aH aH aH (λ_ _ _ h=>h) (J ⟨by rfl,?_⟩) (g _ A) ?_;rotate_left;(.rintro j4 z0;go_simp;try with_reducible rfl);simp only[ig,eh,fT];refine aW 11 ?_;intro dx bf;go_simp;refine bf _ _ wW ?_;refine dG aH ?_ _;show KK _ _;apply cl;have bk:=c.lt;have bb:=ak c;go_wp21;go_call Dl W A as ap C⟨v6,rfl,bo,i⟩;obtain⟨x6,c6,cM⟩:=aM bo;subst cM;obtain⟨cc,ce,ba,ca⟩:=jr (bb.dU<|i.A _ bk id) (A.t i) bo U;have Q:=i.D;go_wp21;go_loopw [25] (λD wr=>∃aa:R,aa<=y T/\D=ay aa/\mK wr l .string (FV d<|T.take aa)/\I (λr=>r=l) C wr) (λD _=>y T-(intOf D).toNat)
 exact⟨0,bQ _,z,cc.yL (λx=>by unfold FV fj;simp),I.bI _ _⟩
 .obtain⟨aa,hn,rfl,c,e⟩:=hrel;have B:I aC a wr:=ce.aj e aI;by_cases t:aa<y T
  .have L:=e.aZ ba (λr f ao=>by have:=(ba.lt r f).1;have:=ag ca;have:r=l:=ao;omega);let⟨P,ad,bg⟩:∃P,x6=M (X P 0)/\bA wr (X P aa)=M T[aa].D:=by
    obtain⟨h2,h0⟩|⟨eb,cj,ck,h2,_⟩:=L.2
    .omega
    .cases h2;refine⟨eb,z,?_⟩;have:=ri L aa T[aa].D (by rw[fO,bF t];rfl);rwa[dS,ez]at this
   subst ad;have ab:=(aV T[aa]<|aB t).aA B|>.dA (HP.aA B id);have N:=ak (show∀x,FV d (T.take<|aa+1) x↔FV d (T.take aa) x\/x=aw (jf T[aa].cK)fromλx=>by
    unfold FV;rw[aG t];grind)
   have u:=c.lt;have e1:(aa:Y)<(y T:Y):=U;unfold cH.D at bg;generalize jf T[aa].cK=p at*;generalize T[aa].tb=j8 at*;go_wp21;go_call ab as ap w7⟨rfl,m⟩;have s:=ak<|c.dU<|m.block l u;have O:=ak<|e.t<|I.p (S:=aC) m;go_wp2_with(at_mapUpdate;refine wG _ z _ _ _ 247 z 9 95 underlying247 .string underlying9 l _ z s (aw p) trivial z z ?_;intro w8 ac V;have w:=ak ac;have n:=ak V)
   go_roundw
   .exact⟨aa+1,t,dM,w.yL N,O.aj (gH n)<|λ_ ao=>J ao⟩
   .simp[intOf];omega
  .have bl:aa=y T:=U;rw[bl,cQ]at c;have e1:¬(aa:Y)<(y T:Y):=U;have u:=c.lt;have ea:bA wr (X b 2)=M (aJ dr):=B.u c2 id br;go_wp2_with fail
   apply(bT wr B).mono;rintro ap w9⟨v9,k,rfl,P,bp,V⟩;obtain⟨x9,c9,cT⟩:=aM bp;subst cT;have ej:y k<=20000000000:=zY P.length_eq;let⟨cd,cb,bc⟩:=eU (c.dU<|V.A l u id) bp<|B.t V;have bL:=ak (show∀x∈k,∀W,I aC a W->cR bN 129 #[aw x] W λap w'=>zct W w' ap fromλx hx W E=>H8 x (HN x<|P.mem_iff.1 hx) (HP.aA E id)<|hE.aA E id id);have cu:=au u V.D;have en:=aR B.D V.D;go_wp21;go_loopw [6,40] (λo D b=>∃(O:R)(s:cy af),O<=y k/\D=ay O/\y s<=O/\Hid (∀x∈s,x∈k/\wq d T x=bD)/\fD b (G<|H a) 9 1 o (y s) (strs s)/\fm w9 b aF o) (λ_ D _=>y k-(intOf D).toNat)
   .exact⟨0,[],bQ _,z,aq _,ak ar,ct _ _ _ _,fm.bI _ _⟩
   .obtain⟨O,s,hm,rfl,cm,HSub,ho,N⟩:=hrel;let⟨ox,oc,bq⟩:=aM ho;have e:I aC w9 wr:=I.eF N.dF (λr f=>by cases f);by_cases m:O<y k
    .have L:=e.aZ cb<|λ_ _ ao=>ao;let⟨b9,db,bg⟩:∃b9,x9=M (X b9 0)/\bA wr (X b9 O)=M (aw k[O]):=by
      obtain⟨h2,h0⟩|⟨eb,cj,ck,h2,_⟩:=L.2
      .omega
      .cases h2;refine⟨eb,z,?_⟩;have:=ri L O (aw k[O]) (by simp[strs,m]);rwa[dS,ez]at this
     subst db;have cx:=cd.dU<|e.A l cu id;let⟨dv,hr⟩:∃dv,wq d T k[O]=dv:=⟨_,rfl⟩;have eg:=DG underlying247 underlying9 cB dc cx (aw k[O]) trivial dv<|hr▸Xx d T k[O];have ed:y s<=12000000000+20000000000:=U;have aU:=ak<|aB m;have ac:=bL k[O]<|aB m;have e2:(O:Y)<(y k:Y):=U;have an:=bc.t e;have eo:=e.D;generalize k[O]=p at*;subst bq;cases dv with
     |true=>
      go_wp2;go_roundw
      .refine⟨O+1,s,m,dM,U,HSub,bC ho _,?_⟩
       .have n:=(I.bI aC wr).aE<|aK #[] 95;exact N.aj ⟨⟨n.os,n.l,n.f,n.D,λD F _=>n.A D F id⟩,J z⟩
      .simp[intOf];omega
     |false=>
      have bn:=ac (dw wr<|aK #[] 95)<|an.aE _;go_wp21;apply bn.mono;rintro ap aD⟨ob,rfl,ad⟩;have w:I aC wr aD:=((I.bI aC wr).aE<|aK #[] 95).t ad;have ab:=ak<|w.aZ ho<|λ_ _ ao=>ao;clear ad bn ac;cases ob
      .go_wp2;go_roundw;case rel=>
        refine⟨O+1,s,m,dM,U,HSub,ab,?_⟩;have n:=w;exact N.aj ⟨⟨n.os,n.l,n.f,n.D,λD F _=>n.A D F id⟩,J z⟩
       case measure=>simp[intOf];omega
      go_wp2_with(at_builtin;refine cq _ z (.tmp 56) (.tmp 58) 81 z (G<|H a) 9 i0 (aw ⟨#[]⟩) 1 16 underlying81 cp dd dk dn z cg (am ox (y s) oc) (y s) (strs s) z (bC ab<|aK #[aw p] 9) (X (G<|H aD) 0) 1 1 [aw p] z z (pN _ _ _) (by simp[Value.oneCell']) U U (by have:=an.D;have:=w.D;simp;omega) ?_;intro eq er bm bt;obtain⟨es,dT,bs⟩:=aM bm;subst bs;have bd:=ak bt)
      go_roundw;case rel=>
       refine⟨O+1,s++[p],m,dM,ai▸wY cm,ak<|λx hx=>?_,?_,?_⟩
       .obtain q|q:=aP.1 hx
        .exact ag HSub x q
        .rw[bY.1 q];exact⟨ag aU,hr⟩
       .rwa[Dz,ai]
       .have n:=w;have h1:fm wr aD (am ox (y s) oc) (am ox (y s) oc):=⟨⟨n.os,n.l,n.f,n.D,λD F _=>n.A D F id⟩,J z⟩;exact N.aj<|h1.aj<|fm.aE _ bd
      case measure=>simp[intOf];omega
    .have bl:O=y k:=U;have e2:¬(O:Y)<(y k:Y):=U;obtain⟨oy,od,n⟩:=aM ho;have w:=ak<|bc.t e;clear N e bq;subst n;go_wp2;go_ret;exact⟨_,z,s,λx hx=>⟨dV<|P.mem_iff.1 (ag HSub x hx).1,(ag HSub x hx).2⟩,by have:=P.length_eq;rw[cS]at this;omega,ho,w⟩
def T5(s:SR)(K:DK)(T:dI)(a:cy af):Prop:=(∀x∈a,x∈K.ah.map dj.dA/\wq s.l T x=bD)/\y a<=y K.ah
def zay(w b:Z)(c:R)(s:SR)(K:DK)(T:dI)(e:Ending):Prop:=∃a,T5 s K T a/\wT w b s.f K (a.map .rm) e
def WO(u v i w:dI)(h:cU a b o r)(V:Fw a b 10 [(o.l0,u),(o.l1,v),(o.l2,i),(o.l3,w)])(T:∀ad∈u++v++i++w,MZ a ad)(W:Pow a)(l:o.l<18446744073709551616)(p:y (u++v++i++w)<=20000000000)(c:cJ a o.f f)(s:¬f.j o.f b)(F:y f.l+y f.ah<=1000000000000)(k:y f.ah<=20000000000)(S:td a)(K:∀D∈f.ah.map dj.dA,Nm D)(n:qp f.fx\/∀D∈f.ah.map dj.dA,wq o.l (u++v++i++w) D=cz):cR bN 30 #[aJ b] a λP C=>zay a C b o f (u++v++i++w) P:=by
 have E:=IQ u v i w h V T W l p c k S (λD a=>by have:=K D a;unfold Nm at this;omega)
 have N:∀ab B d,I aC a ab->T5 o f (u++v++i++w) d->fD ab (G<|H a) 9 1 B (y d) (strs d)->cR bN 75 #[aJ b,B] ab λP C=>∃aa,P=aN aa/\zay a C b o f (u++v++i++w) (aN aa):=by
  intro ab B d A x L;apply(Gy (K:=f) B d ((A.A b (az h) id).trans h) (c.aA A<|λ_ _=>id) s (dQ L) (λj q=>⟨(L.lt j q).2,λa=>gV (c.lt j a)<|(L.lt j q).1⟩) (λq=>n.elim id (λm9=>by
   cases d with
   |nil=>exact absurd z q
   |cons D al=>
    have g:=x.1 D ar;rw[m9 D g.1]at g;exact absurd g.2 ar)) (bP x.2) (λn q=>K n (x.1 n q).1)).mono
  rintro P C⟨aa,K',rfl,m⟩;exact⟨aa,z,d,x,aa,K',z,⟨m.D.ok,(A.aT (T:=f.j o.f) cY).aj m.D.aA<|λ_ q=>J q,λq i=>(m.D.j q i).imp id<|aR A.D,m.D.fx⟩,m.d⟩
 clear h V T W c K F k p l s S n;generalize u++v++i++w=ac at*;go_in
 go_wp21;go_call E as P w1⟨v1,rfl,d,g,j,e,t⟩;have Q:=N w1 v1 d t ⟨g,j⟩ e;let⟨x1,c1,O⟩:=aM e;subst O;clear g j e t;go_wp21;go_call Q as P w2⟨v2,rfl,hK⟩;clear Q;go_wp2;go_ret;show zay _ _ _ _ _ _ (aN v2);exact hK
def RpM(w c:Z)(b:R)(K:DK)(e:Ending):Prop:=∃a,pR w c b K a/\wR K a/\(∀k,a.j b k->K.j b k)/\(e=aN ib\/0<K.fx.bd/\∃q,e=aN (eW q)/\rC c q 8)
def Oa(h:cU a b o r)(g:cJ a o.f f)(L:Pow a)(A:o.l<18446744073709551616)(K:fo (vw f.ah) (gW o.l)=dE):cR bN 29 #[aJ b] a λu C=>RpM a C o.f f u:=by
 have d:=AM o.l A L;have:=cU.bW h 17 z
 have p:∀W,I aC a W->bA W (X b 2)=M (aJ o.f)/\pR a W o.f f f/\cR bN 70 #[aJ o.f,aw<|gW o.l] W λu C=>RnP W C o.f f u:=λW v=>
  ⟨cU.u ((v.A b (az h) id).trans h) z,(pR.bI g).bH v,Jv (db:=o.f) (K:=f) (gW o.l) (w:=W) (g.aA v<|λ_ _=>id) K<|wK A⟩
 clear h g L K A;generalize gW o.l=t at*;go_in
 go_wp21;go_call d as u N⟨rfl,m⟩;have s:I aC a N:=I.p m;let⟨S,w,B⟩:=p N s;clear p s m d;go_wp21;go_call B as u D⟨F,q,Q,e,j,i,rfl,l,O⟩;have c:bA D (X q 1)=M (ay Q):=by let⟨t,l,_⟩:=l;exact aX l 1
 have k:=ak<|And.intro (w.aj e) (And.intro j i);obtain rfl|⟨rfl,n⟩:=O;(.have x:=Ub q 10 D c;clear l c e j i B;go_wp21;go_call x as u E⟨rfl,P⟩;subst E;go_wp2;go_ret;exact⟨F,k.1,k.2.1,k.2.2,J z⟩);have x:=CQ q 8 10 cg D c;have v:=ak<|And.intro n l;clear l c e j i B n;go_wp21;go_call x as u E⟨rfl,P⟩;subst E;go_wp2;go_ret;exact⟨F,k.1,k.2.1,k.2.2,bj ⟨v.1,q,z,v.2⟩⟩
def SR.yp(s:SR)(a:ae)(j n:R):SR:={s with L:=a,o:=n,S:=(s.S+j) %18446744073709551616}
def Ot(s:SR)(a:s.L=aF)(b:s.o=0)(c:s.S<18446744073709551616):s.yp aF 0 0=s:=by
 cases s;simp_all[SR.yp]
def Nq{g8:iF}(j:R):((g8.take j).map y).sum<=(g8.map y).sum:=by
 grind[take_append_drop]
def oC(a:iF):dB:=a.foldl (λm l=>kS [] m l) []
def GK(a:iF)(l:dB):oC (a++[l])=kS [] (oC a) l:=by simp[oC]
def ZI(a:iF):∀m,gF m->gF (a.foldl (λm l=>kS [] m l) m):=by
 induction a with
 |nil=>grind
 |cons l r b=>grind[Az]
def DM(a:iF):gF (oC a):=ZI a [] gF.kj
def ZK(a:iF):∀m:dB,y (a.foldl (λm l=>kS [] m l) m)<=y m+(a.map y).sum:=by
 induction a with
 |nil=>intro m;simp
 |cons l r b=>
  grind[AB]
def Jz(a:iF):y (oC a)<=(a.map y).sum:=by
 have:=ZK a [];simpa[oC]using this
def ZJ(b:iF):∀m:dB,∀x∈b.foldl (λm l=>kS [] m l) m,x∈m\/x∈b.flatten:=by
 induction b with
 |nil=>intro m x a;exact J a
 |cons l r c=>
  intro m x a;rw[yV]at a;rw[di,aP];obtain q|q:=c _ x a
  .exact(AA q).imp id J
  .exact bj<|bj q
def Vr(h:S∈oC O):S∈O.flatten:=(ZJ O [] S h).elim (λq=>by cases q) id
def Vq(a:iF):sk 5 (oC a):=by
 obtain q|⟨r,l,q⟩:=zg a;rw[q];exact sk.kj _;rw[q,zh,GK];exact Ay (DM r) ar l
def S9(s:SR)(K:DK)(m8:iF->eN->Prop)(e:Prop):Prop:=∀a,fo (vw K.ah) (gW s.l)=M a->∀(b:Z)(x:Option Addr)(d:R),Steps b->Bytes b (am x (y a) d) a->(x≠dE->y a<=d/\d<=9223372036854775807)->(x=dE->a=[])->(∀k,cN (am x (y a) d)=M k->k<G (H b))->ki a->y a<=10000000000000->cR bN 72 #[am x (y a) d,bw (s.A:Y)] b λf c=>P9 b c (s.A:Y) m8 e f
def S9.aT{K:DK}{m8 e:iF->eN->Prop}{d a:Prop}(h:S9 o K m8 d)(O:∀c t,m8 c t->e c t)(N:d->a):S9 o K e a:=λP L w V W g j k m n p r=>(h P L w V W g j k m n p r).mono λac w'⟨V,ab,aa,t,ok,s,u,v,x⟩=>⟨V,ab,aa,t,ok,s,u,λq=>N<|v q,λq=>let⟨c,Q,A,B,C,D,E⟩:=x q;⟨c,Q,A,B,C,D,O c t E⟩⟩
def RpH(w c:Z)(d:R)(s:SR)(e:Y)(K:DK)(m8:iF->eN->Prop)(g:Prop)(h:Ending):Prop:=(h=aN ib/\∃b mw f a,Iw (s.A:Y) b/\m8 b mw/\cU c d {s.yp f (y b) (b.map y).sum with i:=cz,mw:=mw,k:=cz} e/\fD c (G<|H w) 223 4 f (y<|oC b) (bu<|oC b)/\gh w c s.f d K a/\wR K a/\(∀e,a.j s.f e->K.j s.f e))\/∃a,gh w c s.f d K a/\wR K a/\(∀e,a.j s.f e->K.j s.f e)/\(g\/0<K.fx.bd)/\∃q,h=aN (eW q)/\tB c q
def RH{w:Z}{K:DK}{m8:iF->eN->Prop}{EX:Prop}(h:cU w b o r)(hR:S9 o K m8 EX)(v:cJ w o.f K)(ap:¬K.j o.f b)(hp:Pow w)(hT:Steps w)(br:1≠b/\¬K.j o.f 1)(hl:o.l<18446744073709551616)(s:fo (vw K.ah) (gW o.l)≠dE)(hm:o.L=aF)(bE:o.o=0)(ds:o.S<18446744073709551616)(ea:MP w K b o []):cR bN 29 #[aJ b] w λal l=>RpH w l b o r K m8 EX al:=by
 have dT:=az h;have ao:=AM o.l hl hp;have ec:=cU.bW h 17 z;have:IntKind.u64.wrap ((o.S:Y)+1)=(o.A:Y):=by rw[dY];unfold SR.A;omega
 let⟨rb,N⟩:∃rb,fo (vw K.ah) (gW o.l)=M rb:=uV.1 s;have cm:∀cu,I aC w cu->bA cu (X b 2)=M (aJ o.f)/\cR bN 70 #[aJ o.f,aw<|gW o.l] cu λal l=>(∃L aa,al=aN (de #[am L (y rb) aa,ib])/\(cR bN 72 #[am L (y rb) aa,bw (o.A:Y)] l λal e=>∃(L:Option Addr)(g r:R)(mw ok:eN),al=aN (de #[ef #[am L g r,aO mw],aO ok])/\I aC l e/\(ok=bD->EX)/\(ok=cz->∃a D,g=y a/\fD e (G (H l)+2) 102 1 (am L (y a) r) (y a) D/\Iv e (G (H l)+2) D a/\Iw (o.A:Y) a/\m8 a mw))/\G (H w)<=G (H l)/\cU l b o r/\∃t,gh w l o.f b K t/\wR K t/\∀r,t.j o.f r->K.j o.f r)\/∃q,al=aN (de #[aF,eW q])/\RpH w l b o r K m8 EX (aN<|eW q)/\bA l (X q 1)=M (ay 8):=λcu d=>by have f:cU cu b o r:=(d.A b dT id).trans h;refine⟨f.u z,?_⟩;go_call TO (db:=o.f) (K:=K) (gW o.l) (bs:=rb) (w:=cu) (v.aA d<|λ_ _=>id) N (wK hl)as al l⟨t,V,e1,e3,⟨v',rfl,E⟩|⟨av,q,rfl,c⟩⟩;rotate_left;exact bj ⟨q,z,bj ⟨t,(nj (j3:=b) v d).aj<|gh.of V,e1,e3,bj av,q,z,8,c,cg⟩,by let⟨cs,c,_⟩:=c;exact aX c 1⟩;left;have bd:=(nj (j3:=b) v d).aj<|gh.of V;have ad:cU l b o r:=(V.aA.A b (az f) ap).trans f;have ac:Steps l:=λq c=>V.aA.u (d.u (hT q c) id<|cA _ _<|hT q c) br.2<|au (cA _ _<|hT q c) d.D;have bi:G (H w)<=G (H l):=aR d.D V.aA.D;let⟨bk,hF,k⟩:=yG N;have S:=v.ah bk (eM hF).2.1;have ab:ki rb:=k▸S.2.2.1;(have n:y rb<=10000000000000:=by rw[<-k];have:=v.dL (eM hF).2.1;omega);let⟨L,aa,hv⟩:=aM E;subst hv;refine⟨L,aa,z,hR rb N l L aa ac (fy.bB E) ?_ ?_ (λr hk=>(E.lt r hk).2) ab n,bi,ad,t,bd,e1,e3⟩;intro hx;obtain⟨q1,⟨q2,q0⟩|⟨B,cp,O,q2,ax,hh,x,C,i⟩⟩:=E;injection q2 with q3;exact absurd q3 hx;cases q2;exact⟨x,by unfold maxLen at C;omega⟩;intro hx;obtain⟨q1,⟨q2,q0⟩|⟨B,cp,O,q2,ax,hh,x,C,i⟩⟩:=E;exact bG<|dV q0;cases q2;cases hx
 let⟨HH,cM,em,HM⟩:=jr h cm N<|And.intro hm bE;have bT:=λcu=>tT (gW o.l) cu;have cj:=wK hl;clear h v hp hT br s cm N hm bE hl hR;generalize gW o.l=cs at*;go_in
 go_wp21;go_call ao as al w1⟨rfl,bv⟩;have bl:I aC w w1:=I.p bv;let⟨k2,hr⟩:=cM w1 bl;have:=bl.D;clear bl bv ao;go_wp21;go_call hr as al w2(⟨rx,rc,rfl,bf,eo,bb,ba⟩|⟨q,rfl,hP,cl⟩);rotate_left;(.have c:=CQ q 8 10 cg w2 cl;clear hr cl;go_wp21;go_call c as al W⟨rfl,hw⟩;subst W;clear c;go_wp2;go_ret;show RpH _ _ _ _ _ _ _ _ (aN<|eW q);exact hP);have q9:=cU.bW bb 9 z;have ab:=Zh 10 w2;let⟨bo,bp,dc⟩:=eU bb ba (show∃t,MP w2 t b o []from by let⟨t,V,_⟩:=ba;exact⟨t,ea.eQ V⟩);clear bb ba hr k2 ec;go_wp21;go_call ab as al ej⟨rfl,hw⟩;subst ej;go_wp21;go_call bf as al W⟨x3,n3,c3,mw,ok,rfl,P,aV,bh⟩;cases ok;(.have C:=ak<|aV z;let⟨t,d,c,n⟩:=ag bp;let⟨e,m⟩:∃e,dw W (aK #[am x3 n3 c3,aO mw] 172)=e:=⟨_,rfl⟩;have A:I aC w2 e:=m▸P.aE _;have i:=ak<|d.aj<|nj (j3:=b) d.ok A;have k:=ak<|And.intro c n;clear d A P bh aV c n bf;go_wp21;go_call bT e as al g⟨rfl,f⟩;have x:tB g (G<|H e):=f▸tB.lX e cj;have p:I aC e g:=f▸cI _ _;have E:=ak<|show RpH w g b o r K m8 EX (aN<|eW<|G<|H e)from bj ⟨t,(ag i).aj<|nj (j3:=b) (ag i).ok p,k.1,k.2,J<|ag C,_,z,x⟩;clear x p f;go_wp2;go_ret;exact ag E);obtain⟨a,D,dx,bg,bc,aU,dr⟩:=bh rfl;subst dx;have:=aU.L;clear bh aV;let⟨e,m⟩:∃e,dw W (aK #[am x3 (y a) c3,aO<|mw] 172)=e:=⟨_,rfl⟩;have A:I aC w2 e:=m▸P.aE _;have Q:I aC W e:=m▸(cI aC W);have:=P.D;have cn:G (H e)=G (H W)+1:=by rw[<-m];simp
 have F:e.heap[G<|H W]?=M (aK #[am x3 (y a) c3,aO<|mw] 172 (0,0)):=m▸aQ _ z;have bx:cU e b o r:=(A.A b (az bo) id).trans bo;have bq:Row e 1 (am x3 (y a) c3) (y a) D:=dQ<|Q.aZ bg<|λ_ _ aa=>aa;have bt:∀j(b:j<y D)(c:j<y a),fD e (G (H w2)+2) 223 4 D[j] (y a[j]) (bu a[j]):=λj b c=>Q.aZ (bc.2 j b c)<|λ_ _ aa=>aa;have an:∀B,cN (am x3 (y a) c3)=M B->G (H w2)+2<=B/\B<G (H W):=λB s=>bg.lt B s;have:=aX F 0;let⟨dk,cB,dd,cv,cx,el,aD,cT,dn⟩:=Hp bc.1 bq bt an F bx A cn m;clear bg bc P Q F bx bq bt an A cn bf ab q9 m;go_wp2;rw[ag dn];go_loopw [47] (λbn wr=>∃(j:R)(mv:ae),j<=y a/\bn=ay j/\cU wr b (o.yp mv j ((a.take j).map y).sum) r/\fD wr (G<|H w) 223 4 mv (y<|oC<|a.take j) (bu<|oC<|a.take j)/\I (λr=>r=b) e wr) (λbn _=>y a-(intOf bn).toNat)
 have al:=Ot o HM.1 HM.2 ds;refine⟨0,aF,bQ _,dM,?_,ct _ _ _ _,I.bI _ _⟩;show cU e b (o.yp aF 0 0) r;rwa[al]
 .obtain⟨j,mv,hj,rfl,c,f,i⟩:=hrel;have:=ag cT;have:=i.D;let⟨nb,ac⟩:∃nb,(o.S+j) %18446744073709551616=nb:=⟨_,rfl⟩;obtain⟨C,n⟩:=og<|((a.take j).map y).sum;have bk:=Nq (g8:=a) j;have cb:y a<=(a.map y).sum:=QX<|λl hl=>(aU.pI l hl).1;have:y a<=31:=U;have ca:y (a.take j).flatten=C:=by rw[<-n,uk]
  have bi:=Jz<|a.take j;rw[n]at bi;rw[n]at bk;obtain⟨mx,mc,cd⟩:=aM f;have ed:=cU.bW c 7 z;have eg:bA wr (X b 8)=M (ay C):=n▸c.u z;have ei:bA wr (X b 9)=M (bw nb):=ac▸c.u z;by_cases L:j<y a
  .have e1:(j:Y)<(y a:Y):=U;have:(0:Y)<=(j:Y):=U;have cc:j<y D:=ag dk▸L;have ad:=dd j cc L;have bm:∀B,cN D[j]=M B->G (H w2)+2<=B/\B<G (H e):=λB s=>ad.lt B s;have cp:=i.aZ ad<|λB s aa=>bP<|(bm B s).1;have bL:∃b a,x3=M (X b a)/\bA wr (X b<|a+j)=M D[j]:=by
    obtain⟨q1,⟨q2,q0⟩|⟨B,E,ek,q2,en,hc⟩⟩:=ag cB
    .omega
    .cases q2;have:=cv B z;exact⟨B,E,z,i.u (hc j _<|bF cc) U U⟩
   obtain⟨b3,o3,eb,bL⟩:=bL;subst eb;have bd:((a.take<|j+1).map y).sum=C+y a[j]:=by rw[aG L,bz,eX,n];simp
   have O:=Nq (g8:=a)<|j+1;rw[bd]at O;have ck:kS [] (oC<|a.take j) a[j]=oC (a.take<|j+1):=by rw[aG L,GK]
   let⟨Kx,co⟩:=ag dc;obtain⟨mb,m1,m2,m3⟩:=co.ex;have m4:kO wr mb (Dm []):=m2.dU<|((i.A mb (gV aD.D m3.lt) m3.ne).trans<|aD.A mb m3.lt id);have ax:=Dv b (o.yp mv j ((a.take j).map y).sum) r [] D[j] a[j] c m1 m4 ar (dQ f) (λB s=>(f.lt B s).2) (dQ cp) (λB s=>bP<|(bm B s).2) (DM _) U;have cr:cR bN 74 #[aJ b,D[j]] wr λal l=>∃v',al=aN v'/\fD l (G<|H wr) 223 4 v' (y<|oC<|a.take<|j+1) (bu<|oC<|a.take<|j+1)/\I aC wr l:=ck▸ax;clear ax m1 m2 m3 m4 co;obtain⟨xj,es,av⟩:=aM ad;obtain⟨ln,dv⟩:=og<|y a[j];rw[dv]at av bd O;generalize D[j]=vj at*;have:IntKind.i64.wrap ((C:Y)+(ln:Y))=(C:Y)+(ln:Y):=by rw[bR];omega
   obtain⟨k,ch⟩:∃k,(o.S+(j+1)) %18446744073709551616=k:=⟨_,rfl⟩;have:IntKind.u64.wrap ((nb:Y)+1)=(k:Y):=by rw[dY];omega
   have HF:=ak (show∀g d,I aC wr g->fD g (G<|H wr) 223 4 d (y<|oC<|a.take<|j+1) (bu<|oC<|a.take<|j+1)->(bA g (X b 7)=M mv/\bA g (X b 8)=M (ay C)/\bA g (X b 9)=M (bw nb)/\∀bn,iH g (X b bn)=bD)/\cU (cP (cP (cP g (X b 7) d) (X b 8)<|ay<|(C:Y)+ln) (X b 9)<|bw (k:Y)) b (o.yp d (j+1) ((a.take<|j+1).map y).sum) r/\fD (cP (cP (cP g (X b 7) d) (X b 8)<|ay<|(C:Y)+ln) (X b 9)<|bw (k:Y)) (G<|H w) 223 4 d (y<|oC<|a.take<|j+1) (bu<|oC<|a.take<|j+1)/\I (λr=>r=b) e (cP (cP (cP g (X b 7) d) (X b 8)<|ay<|(C:Y)+ln) (X b 9)<|bw (k:Y))fromλg d p x=>by
    have E:cU g b (o.yp mv j ((a.take j).map y).sum) r:=(p.A b (az c) id).trans c;have S:I (λr=>r=b) g (cP (cP (cP g (X b 7) d) (X b 8)<|ay<|(C:Y)+ln) (X b 9)<|bw (k:Y)):=((iP b g).aL b 8 _<|J z).aL b 9 _<|J z;refine⟨⟨E.u z,n▸E.u z,ac▸E.u z,λbn=>E.bS⟩,?_,?_,(i.t p).aj S<|λ_ aa=>J aa⟩
    .have hx:=aY (i:=9) (u:=bw (k:Y))<|aY (i:=8) (u:=ay<|(C:Y)+ln)<|aY (i:=7) (u:=d) E;have e9:(k:Y)=(((o.S+(j+1)) %18446744073709551616:R):Y):=by rw[ch]
     have e8:((C:Y)+ln)=((((a.take<|j+1).map y).sum:R):Y):=by rw[bd];grind
     rw[e9,e8]at hx|-;exact hx.trans z
    .exact fh (S.aZ x (λB s aa=>gV ((x.lt B s).1) (az c))) U)
   clear c f i ad bm cp O ck bi ca bk cb ac n;subst cd;subst av;go_wp2_with fail
   apply cr.mono;rintro al g⟨d,rfl,x,p⟩;obtain⟨er,eq,ce⟩:=aM x;let⟨⟨y7,y8,y9,fz⟩,hF⟩:=HF g d p x;clear p x cr;subst ce;go_wp2;go_roundw
   .exact⟨j+1,_,L,dM,hF.1,hF.2.1,hF.2.2⟩
   .simp[intOf];omega
  .have:¬(j:Y)<(y a:Y):=U;have d:j=y a:=U;have k:=(i.A _ U U).trans cx;have:=aX k 1;have:∀bn,iH wr (X b bn)=bD:=λbn=>c.bS;have:=cU.bW c 18 z;have:=cU.bW c 19 z;have:=cU.bW c 20 z;have:=az k;have:=az c;have:G (H W)≠b:=U;let⟨E,ad,av,O⟩:=jr c f i d;clear c f i k d bk cb ca bi ac n ed eg ei cd;go_wp21;rename_i KK x;apply PU KK
   .intro bd;go_region
    all_goals exact bd
   apply x;clear x;go_wp2;go_ret;have d:=ag O;subst d;have c:=ag E;have f:=ag ad;rw[cQ]at c f;let⟨t,V,e3,e5⟩:=ag bp;have S:I (λr=>r=b) wr ((cP (cP (cP wr (X b 18)<|aO cz) (X b 19)<|aO<|mw) (X b 20)<|aO cz).drew):=(((iP b wr).aL b 19 _<|J z).aL b 20 _<|J z).aj (cf _ _)<|λ_ aa=>J aa;have ax:=((aD.aT (T:=λr=>r=b) cY).aj av<|λ_ aa=>J aa).aj S<|λ_ aa=>J aa;refine J ⟨z,a,mw,mv,t,aU,dr,?_,S.aZ f<|λB s aa=>bP<|(f.lt B s).1,V.aj<|Kg V.ok (λq=>ap<|e5 _ q) ax,e3,e5⟩;have hx:=aY (i:=20) (u:=aO cz)<|aY (i:=19) (u:=aO<|mw)<|aY (i:=18) (u:=aO cz) c;exact Eq.trans (show _=_ from hx) z
structure B8(fs:Fs)(W:Z)(db sb:R)(e:DK)(u0 u1 u2 u3:ae)(a b c d:dI):Prop where
 f:cJ W db e
 l0:Ep fs W e db sb u0 a
 l1:Ep fs W e db sb u1 b
 l2:Ep fs W e db sb u2 c
 l3:Ep fs W e db sb u3 d
 i:((a++b++c++d).map cH.tb).Nodup
 s1:lZ b
 s2:lZ c
 s3:lZ d
structure Xj(db:R)(K e:DK):Prop where
 l:wR K e
 fx:Fx K.fx e.fx
 j:∀k,e.j db k->K.j db k
def Xj.bI(db:R)(K:DK):Xj db K K:=⟨⟨rfl,rfl,rfl⟩,Fx.bI _,λ_ h=>h⟩
def Xj.aj{db:R}{K m e:DK}(h:Xj db K m)(k:Xj db m e):Xj db K e:=⟨h.l.aj k.l,h.fx.aj k.fx,λq c=>h.j q<|k.j q c⟩
section
variable{fs:Fs}{W W':Z}{db j3:R}{K m e r:DK}{u0 u1 u2 u3:ae}{a b c d:dI}
def B8.eQ(h:B8 fs W db j3 e u0 u1 u2 u3 a b c d)(f:gh W W' db j3 e r):B8 fs W' db j3 r u0 u1 u2 u3 a b c d:=⟨f.ok,h.l0.eQ f,h.l1.eQ f,h.l2.eQ f,h.l3.eQ f,h.i,h.s1,h.s2,h.s3⟩
def B8.aA(h:B8 fs W db j3 e u0 u1 u2 u3 a b c d)(g:I (λq=>q=j3) W W')(j:¬e.j db j3):B8 fs W' db j3 e u0 u1 u2 u3 a b c d:=h.eQ ⟨h.f.aA g<|λn c k=>j<|k▸c,g.aT<|λ_ c=>J<|bj c,λ_ c=>J c,Fx.bI _⟩
def AI{w:Z}{f n:R}{v:ae}{k:iE}(h:Row w f v n k):∃x c,v=am x n c:=by
 obtain⟨o,⟨j,l⟩|⟨p,i,g,j,_⟩⟩:=h;grind
 grind
def Fe.t{L W:Z}{gb P:R}{mv:iE}{o:cy (cy Mk)}{p:cy dI}(h:Fe L W db m e gb P mv [u0,u1,u2,u3] p)(n:RT m o p 4 0)(hM:y o=4)(aa:j3<G (H L)):∃a b c d,B8 (vw m.ah) W db j3 e u0 u1 u2 u3 a b c d/\o=[a.map po,b.map po,c.map po,d.map po]/\∀t∈a++b++c++d,FI (vw m.ah) t:=by
 have A:=h.S;obtain⟨F,C,D,E,rfl⟩:∃s u v w,p=[s,u,v,w]:=by obtain _|⟨v0,_|⟨v1,_|⟨v2,_|⟨v3,_|⟨v4,ab⟩⟩⟩⟩⟩:=p<;>simp at A;grind
 obtain⟨m0,m1,m2,m3,rfl⟩:∃s u v w,o=[s,u,v,w]:=by obtain _|⟨v0,_|⟨v1,_|⟨v2,_|⟨v3,_|⟨v4,ab⟩⟩⟩⟩⟩:=o<;>simp at hM;grind
 have O:=h.o;have i:∀q,P<q->q<G (H W)->Aside W e db j3 q:=λq g f=>⟨f,λc=>bP<|h.da q<|h.bM.2.2 q c,U⟩;have g:∀t∈F++C++D++E,qE W db (vw m.ah) (Aside W e db j3) (ja (vw m.ah) t)/\Q0 m t/\ny t.ks:=λt f=>by let⟨N,⟨⟨j,x⟩,Q,q2⟩,T,V,g3,g4,_⟩:=h.Fi t<|dV f;exact⟨⟨⟨N,0,j,x,i N g3 g4⟩,i t.tb T V,q2,Q,z⟩,n.fi t<|dV f,Q⟩
 have l:∀f:dI,(f.map<|ja<|vw m.ah).map po=f.map po:=λf=>by rw[iV];rfl
 have k:∀(N:R)(Q:ae)(T:dI),[u0,u1,u2,u3][N]?=M Q->[F,C,D,E][N]?=M T->(∀t∈T,t∈F++C++D++E)->Ep (vw m.ah) W e db j3 Q (T.map<|ja<|vw m.ah):=λN Q T j V x=>
  ⟨by rw[GB,cS];exact dQ<|h.l N Q T j V,λq k=>i q (h.aZ j k).1 (h.aZ j k).2,λt f=>by
   obtain⟨S,B,rfl⟩:=cC.1 f;exact(g S (x S B)).1⟩
 refine⟨F.map<|ja<|vw m.ah,C.map<|ja<|vw m.ah,D.map<|ja<|vw m.ah,E.map<|ja<|vw m.ah,⟨h.f,k 0 _ _ z z (λt f=>by simp[f]),k 1 _ _ rfl rfl (λt f=>by simp[f]),k 2 _ _ rfl rfl (λt f=>by simp[f]),k 3 _ _ rfl rfl (λt f=>by simp[f]),?_,?_,?_,?_⟩,?_,?_⟩;have:=h.i;simpa[ja,kK]using this;exact pW (λt f=>(g t<|by simp[f]).2.2)<|n.ap 1 C U U rfl;exact pW (λt f=>(g t<|by simp[f]).2.2)<|n.ap 2 D U U rfl;exact pW (λt f=>(g t<|by simp[f]).2.2)<|n.ap 3 E U U rfl;rw[l,l,l,l,n.da 0 F m0 U rfl rfl,n.da 1 C m1 U rfl rfl,n.da 2 D m2 U rfl rfl,n.da 3 E m3 U rfl rfl];intro t f;rw[<-bz,<-bz,<-bz]at f;obtain⟨S,B,rfl⟩:=cC.1 f;let⟨Q,j,N⟩:=(g S B).2.1;exact⟨Q.bB,by show fo (vw m.ah) (jf S.cK)=_;rw[nH,j];rfl,N⟩
end
structure LdF(K:DK)(nx lg bt:R)(a b c d:dI):Prop where
 f:nx<18446744073709551616/\lg<18446744073709551616/\bt<18446744073709551616
 L:fo (vw K.ah) fj=M (mi nx lg bt [a,b,c,d])\/(fo (vw K.ah) fj=dE/\a++b++c++d=[]/\nx=2/\lg=1/\bt=0)
 fi:∀t∈a++b++c++d,FI (vw K.ah) t
structure OpL(w:Z)(db:R)(K:DK)(L:R):Prop where
 f:cJ w db K
 l:y K.ah<=20000000000
 o:Steps w
 x:Pow w
 S:td w
 i:¬K.j db 1
 n:¬K.j db 2
 D:¬K.j db 3/\¬K.j db 4
 A:Xl (vw K.ah)
 dL:∀bs,fo (vw K.ah) fj=M bs->y bs<=L
def ErL(w:Z)(db:R)(K:DK):Prop:=fo (vw K.ah) fj≠dE\/0<K.fx.bd\/∃W,∃f∈K.ah.map dj.dA,I (K.j db) w W/\¬Tw W f
def Nh(fs:cy dj):(vw fs).map (·.1)=fs.map dj.dA:=by unfold vw;rw[iV];rfl
def Xl.dq{K:DK}(h:Xl (vw K.ah)):∀x∈K.ah.map dj.dA,Nm x:=λx f=>by
 rw[<-Nh]at f;let⟨g,i⟩:=ru f;exact h x g i
def YW{S:Z}{j3:R}{aU:Y}{s:SR}{K:DK}{bc:R}(h:cU S j3 s aU)(x:¬K.j s.f j3)(i:OpL S s.f K bc)(ba:bc<=400000000000):cR bN 28 #[aJ j3] S λu j=>(u=aN ib/\∃n l k u0 u1 u2 u3,cU j j3 (s.yB u0 u1 u2 u3 n l k<|decide<|0<y K.ah) aU/\(∃e a b c d,B8 (vw K.ah) j s.f j3 e u0 u1 u2 u3 a b c d/\Xj s.f K e/\LdF K n l k a b c d)/\I (λq=>K.j s.f q\/q=j3) S j)\/ErL S s.f K/\∃q,u=aN (eW q)/\tB j q/\(∃e,cJ j s.f e/\Xj s.f K e)/\I (λq=>K.j s.f q\/q=j3) S j:=by
 have v:=i.f;refine J7 S j3 s aU (y K.ah) (λn l k j v0 v1 v2 v3=>∃m B,cJ j s.f m/\Xj s.f K m/\I (K.j s.f) S j/\LdG S j K n l k [v0,v1,v2,v3] B) (λn l k j u0 u1 u2 u3=>∃e a b c d,B8 (vw K.ah) j s.f j3 e u0 u1 u2 u3 a b c d/\Xj s.f K e/\LdF K n l k a b c d) (λj=>∃e,cJ j s.f e/\Xj s.f K e) (K.j s.f) h v.lt x ?_ ?_ ?_ ?_;rintro W W'⟨e,h1,h2⟩P;exact⟨e,h1.aA P<|λq c u=>x<|h2.j _<|u▸c,h2⟩;(.go_call YX v i.l i.o i.x i.S i.i i.n i.D (λx g=>i.A.dq x.dA<|ui g) (λs t=>aR (i.dL s t) U)as u j⟨m,f,p,g,⟨n,l,k,x0,C,T,x1,D,c1,x2,E,c2,x3,F,c3,B,rfl,o⟩|⟨A,q,rfl,w⟩⟩;exact J ⟨n,l,k,x0,C,T,x1,D,c1,x2,E,c2,x3,F,c3,z,⟨m,B,f.ok,⟨p,f.fx,g⟩,f.aA,o⟩,f.aA⟩;exact bj ⟨A,q,z,w,f.aA,m,f.ok,p,f.fx,g⟩);rintro n l k W1 W v0 v1 v2 v3⟨m,B,ac,f,aD,o⟩p;have ab:=o.dL;(obtain⟨C,D,E,F,rfl⟩:∃f g i j,B=[f,g,i,j]:=by obtain _|⟨v0,_|⟨v1,_|⟨v2,_|⟨v3,_|⟨L,V⟩⟩⟩⟩⟩:=B<;>simp at ab;grind);have g:=o.l;let⟨x0,T,e0⟩:=AI<|dQ<|g 0 _ _ rfl rfl;let⟨x1,c1,e1⟩:=AI<|dQ<|g 1 _ _ rfl rfl;let⟨x2,c2,e2⟩:=AI<|dQ<|g 2 _ _ rfl rfl;let⟨x3,c3,e3⟩:=AI<|dQ<|g 3 _ _ rfl rfl;subst e0 e1 e2 e3;have A:I (K.j s.f) S W:=aD.t p;(have N:y (C++D++E++F)<=20000000000:=by obtain u|⟨_,u,_⟩:=o.L;have h1:=i.dL _ u;have h2:=E7 n l k [C,D,E,F];simp only[di,jz,eu,ai]at h2|-;omega;cases u;simp);simp only[ai]at N;(have an:∀(Q:R)(aa:ae),[am x0 (y C) T,am x1 (y D) c1,am x2 (y E) c2,am x3 (y F) c3][Q]?=M aa->∃aV,[C,D,E,F][Q]?=M aV:=λQ aa t=>by obtain _|_|_|_|Q:=Q;exact⟨_,z⟩;exact⟨_,z⟩;exact⟨_,z⟩;exact⟨_,z⟩;simp at t);refine(GO (db:=s.f) (K:=m) [C,D,E,F] x0 x1 x2 x3 _ T _ c1 _ c2 _ c3 (ac.aA p<|λ_ _=>id) (Steps.aA i.o A i.i) (i.x.aA A i.n) (λq=>i.i<|f.j _ q) (λq=>i.n<|f.j _ q) z (λQ aa bb t O=>p.bV (dQ<|g Q aa bb t O)<|λq w=>⟨id,((g Q aa bb t O).lt q w).2⟩) (λQ aa t q w=>?_) o.ok<|λbb O=>?_).mono ?_;let⟨aV,hD⟩:=an Q aa t;have L:=(g Q aa aV t hD).lt q w;exact⟨au L.2 p.D,λg=>bP<|v.lt q<|f.j q g⟩;simp only[dy,lf,uR]at O;obtain rfl|rfl|rfl|rfl:=O<;>omega;rintro u j(⟨y0,m0,d0,y1,m1,d1,y2,m2,d2,y3,m3,d3,rfl,e,Ts,L,hR⟩|⟨⟨aV,hD,av⟩,q,rfl,w,P,e,ad,⟨ax,al⟩,ao⟩);let⟨a,b,c,d,hQ,V,hF⟩:=L.t (j3:=j3) hR rfl<|au (az h) A.D;rw[f.l.1]at hQ hF;refine⟨y0,m0,d0,y1,m1,d1,y2,m2,d2,y3,m3,d3,_,z,J ⟨z,e,a,b,c,d,hQ,f.aj ⟨L.bM.2.1.1,L.bM.2.1.2,L.bM.2.2⟩,o.f,?_,hF⟩,L.aA.aT<|λaU c=>J<|f.j aU c⟩;rw[V]at o;obtain u|⟨e1,e2,e3⟩:=o.L;exact J (by rw[DC];exact u);refine bj ⟨e1,?_,e3⟩;simp only[iL,List.map_eq_nil_iff,rF]at e2;obtain⟨rfl,rfl,rfl,rfl⟩:=e2;rfl;have ap:I (K.j s.f) W j:=P.aT<|λaU c=>J<|f.j aU c;refine⟨dE,0,0,dE,0,0,dE,0,0,dE,0,0,_,z,bj ⟨?_,q,z,w,e,ad,f.aj ⟨ax,al,ao⟩⟩,ap⟩;refine J<|λu=>?_;obtain V|⟨_,V,_⟩:=o.L;rw[u]at V;cases V;cases V;simp at hD;exact av hD;rintro n l k W u0 u1 u2 u3⟨e,a,b,c,d,hQ,p,hF⟩W' P;have g:=hQ.aA P (λq=>x (p.j _ q):¬e.j s.f j3);refine⟨⟨e,a,b,c,d,g,p,hF⟩,?_⟩;(have f:y e.ah=y K.ah:=by have:=cD y p.l.1;simpa[vw]using this);refine(CJ g.f (by rw[f];have:=i.l;omega)).mono ?_;rintro u j⟨F,E,rfl,D,C,A⟩;let⟨L,c,t⟩:=aM C;have:=D.length_eq;rw[cS,f]at this;exact⟨L,c,by rw[t,this],A⟩
def QP(a:R)(b:dI):wq a b fj=cz:=by simp[wq]
def Nj(a:R)(b:dI):wq a b (gW a)=cz:=by simp[wq]
def Xw{t:cH}(h:t∈l):wq b l (jf t.cK)=cz:=by
 unfold wq;rw[yX,nL];exact bj ⟨t,h,ar⟩
def TJ{j4:Prop}{es:dB}(s:SR)(K:DK)(k:j4->∀j,fo (vw K.ah) (gW s.l)=M j->Xe (s.A:Y) es j):S9 s K (λp _=>j4->p=[es]) (¬j4):=by
 intro j d w A B r e t u l i c;cases A with
 |none=>
  obtain rfl:=u rfl;obtain⟨b,_⟩|⟨o,a,f,b,_⟩:=e
  .rw[b];go_call OT (s.A:Y) w as E x⟨A,C,v,rfl,m,g,n⟩;exact⟨A,_,C,bD,cz,z,n,(λq=>by cases q),λ_=>⟨[],v,rfl,m,g,⟨ar,ar,ar,ar⟩,λq=>by have:=(k q _ d).qo.1;cases this⟩⟩
  .cases b
 |some D=>
  have g:=t ar;obtain⟨b,_⟩|⟨o,a,f,b,_⟩:=id e
  .cases b
  .injection b with m v n;subst n;rw[m]at e l|-;exact OU o a B (λq=>k q _ d) r i c g.1 g.2 (l o z) e
def TI(s:SR)(K:DK):S9 s K (λ_ _=>True) True:=(TJ (es:=[]) s K False.elim).aT (λ_ _ _=>trivial) λ_=>trivial
def LdF.pF{a b d g:dI}(h:LdF f c k n a b d g):Xb (vw f.ah) a b d g:=⟨h.L.imp (λe=>⟨c,k,n,h.f,e⟩)<|λe=>⟨e.1,e.2.1⟩,h.fi⟩
def CB{t:cH}(h:qE a b N W t):MZ a t:=by
 let⟨f,d,c,e,_⟩:=h.D;exact⟨h.cK,_,_,_,_,_,_,_,_,e⟩
def Pj{j4:cy af}{s:SR}{d:DK}{aa:dB}{ab ac:dI}(e:B8 (vw d.ah) a s.f b d s.l0 s.l1 s.l2 s.l3 C F ab ac)(hm:lF a s.L aa)(N:∀ad,cN s.L=M ad->Aside a d s.f b ad)(W:gF aa)(t:sk 5 aa)(w:∀al∈aa,al.Good)(O:y aa<=s.o)(u:s.o<=31)(V:MP a d b s [])(D:MW a d s.f b)(Q:¬d.j s.f b)(g:s.t<18446744073709551616/\s.l<18446744073709551616/\s.S<18446744073709551616)(m:1<=s.D/\s.D<=32/\2<=s.ua/\s.ua<=6)(P:y d.l+y d.ah<=20000000000+2*T)(E:s.v<=T)(j:Xl (vw d.ah))(h:QC (vw d.ah) j4 s.Xh (C++F++ab++ac))(q:K->Xb (vw d.ah) C F ab ac)(p:y aa+ik C+ik F+ik ab+ik ac<=c)(r:c<=3000000000)(hN:T<=1000000000)(hX:y j4<=12500000000):Inv K j4 a b s d aa C F ab ac c T []where
 st:=⟨hm,N,e.l0,e.l1,e.l2,e.l3,e.f,Q,D,p,r,W,w,e.s1,e.s2,e.s3⟩
 k:=t
 x:=O
 L:=u
 f:=V
 i:=e.i
 nx:=g.1
 lg:=g.2.1
 bt:=g.2.2
 o:=m
 l:=P
 S:=⟨E,ar⟩
 A:=j
 n:=h
 pF:=q
 v:=hN
 B:=hX
def J9{a:cy af}(h:QC N a dE l)(d:Option R):QC N a d l:=λn c b=>(h n c b).imp id<|.imp id<|λq=>q.elim (λ⟨_,e,_⟩=>by cases e) bj
def OpX(u7:Prop)(m8:iF->eN->Prop)(K:DK)(s:SR)(b:DK)(m:dB)(T:dI):Prop:=u7->T=[]/\s.l=1/\s.t=2/\s.x=decide (0<y K.ah)/\wR K b/\((fo (vw K.ah) (gW 1)=dE/\m=[]/\s.o=0/\s.S=0/\s.i=bD/\s.mw=bD/\s.k=bD)\/∃a mw,m8 a mw/\fo (vw K.ah) (gW 1)≠dE/\Iw 1 a/\m=oC a/\s.o=(a.map y).sum/\s.S=y a/\s.i=cz/\s.mw=mw/\s.k=cz)
structure Opd(j5:Prop)(j4:cy af)(u7:Prop)(m8:iF->eN->Prop)(w W:Z)(db sb:R)(mem ua:Y)(K:DK)(C N:R)(s:SR)(K1:DK)(m:dB)(a b c d:dI):Prop where
 g:cU W sb s 0
 A:Inv j5 j4 W sb s K1 m a b c d C N []
 bM:s.f=db/\s.d=bD/\s.D=mem/\s.ua=ua/\s.v=0/\s.n=M (G (H w)+1)
 eQ:gh w W db sb K K1
 D:G (H w)+4<=G (H W)
 j:∀k,K1.j db k->K.j db k\/G (H w)+4<=k
 f:OpX u7 m8 K s K1 m (a++b++c++d)
def zcv(f:Prop)(e:cy af)(u7:Prop)(m8:iF->eN->Prop)(w W:Z)(c d:R)(a g:Y)(K:DK)(C N:R):Prop:=∃s b m h i j k,Opd f e u7 m8 w W c d a g K C N s b m h i j k
def ErO(w:Z)(b:R)(K:DK)(a:Prop):Prop:=(∃W,I aC w W/\ErL W b K)\/a\/Jc K.fx
def OpF(w d:Z)(a:R)(K:DK)(C:R)(f:Prop)(q:R):Prop:=ErO w a K f/\tB d q/\∃b,cJ d a b/\I (K.j a) w d/\(∀k,b.j a k->K.j a k\/G (H w)<=k)/\Fx K.fx b.fx/\∃c e,mr (c++e) K b/\MT c 0/\y c<=y K.ah/\MT e (20*C+44)
def td.lt{w:Z}(h:td w):3<G (H w)/\4<G (H w):=by
 let⟨⟨g,d,a⟩,⟨i,e,c⟩⟩:=h;exact⟨cA _ _ a,cA _ _ c⟩
def V9(a:cy af)(h:y a<=13000000000):MT (a.map .rm) 0:=by
 have c:((a.map tY.rm).map Mr).sum=0:=by
  clear h;induction a with
  |nil=>rfl
  |cons n a b=>simpa[Mr]using b
 refine⟨by rw[cS];exact h,λn d=>?_,?_,λx f e=>?_,U,ZE a⟩;simp at d
 .have:((a.map tY.rm).map Dn).sum=0:=by
   clear c;induction a with
   |nil=>rfl
   |cons n a b=>simpa[Dn]using b (by simp at h;omega)
  omega
 simp at e
def Inv.ah{g:Prop}{e:cy af}{w w':Z}{K a:DK}{x:dB}{p q:dI}{m:gI}(h:Inv g e w b o K x v C p q c k m)(d:b<G (H w))(j:gh w w' o.f b K a)(s:y a.l+y a.ah<=20000000000+2*k)(t:Xl (vw a.ah))(r:QC (vw a.ah) e o.Xh (v++C++p++q))(u:g->Xb (vw a.ah) v C p q):Inv g e w' b o a x (v.map<|ja<|vw a.ah) (C.map<|ja<|vw a.ah) (p.map<|ja<|vw a.ah) (q.map<|ja<|vw a.ah) c k m:={h with st:=(sC.eQ h.st d j).Ao _,f:=h.f.eQ j,i:=by have:=h.i;simpa[ja,kK]using this,l:=s,A:=t,n:=r.Ao _,pF:=λB=>(u B).Ao _}
def GN{j5:Prop}{j4:cy af}{u7:Prop}{m8:iF->eN->Prop}{EX:Prop}{mem j6:Y}{K:DK}{bL C0 C N:R}(hL:OpL a b K bL)(bq:bL<=400000000000)(ho:1<=mem/\mem<=32/\2<=j6/\j6<=6)(ca:y K.l+y K.ah<=20000000000+2*N)(bT:y K.ah<=13000000000)(hB:∀nx P bt Q V O aa,LdF K nx P bt Q V O aa->(∀al∈Q++V++O++aa,ny al.ks/\al.cK<18446744073709551616)->ik Q+ik V+ik O+ik aa<=C0/\QC (vw K.ah) j4 dE (Q++V++O++aa))(hC:C0+31<=C)(bk:C<=3000000000)(hN:N+1<=1000000000)(hX:y j4<=12500000000)(hH:u7->fo (vw K.ah) fj=dE/\∀bp∈K.ah.map dj.dA,bp=gW 1)(br:∀bh l,l.ah=K.ah->(u7->bh.l=1/\bh.S=0)->S9 bh l m8 EX)(aU:qp K.fx\/u7)(bl:u7->1<=mem/\∀n mw,m8 n mw->Iw 1 n->(((n.map y).sum:R):Y)<mem):cR bN 10 #[aJ b,ef #[ay mem,ay j6]] a λan e=>(an=aN (de #[aJ<|G (H a)+2,ib])/\zcv j5 j4 u7 m8 a e b (G (H a)+2) mem j6 K C (N+1))\/∃q,an=aN (de #[ee dE,eW q])/\OpF a e b K C EX q:=by
 have s:=hL.f.lt;have ba:¬K.j b (G (H a)+2):=λq=>bP<|s _ q;have ad:∀{e:Z},I (λq=>K.j b q\/q=G (H a)+2) a e->I (K.j b) a e:=λh=>h.aT<|λab q=>q.elim J<|λbi=>bj U;refine I6 b mem j6 a ho (λW=>I aC a W/\cU W (G (H a)+2) (SR.wB b mem j6<|G (H a)+1) 0/\kO W (G (H a)+1) []/\G (H W)=G (H a)+4) (λW=>∃nx P bt u0 u1 u2 u3 l Q V O aa,cU W (G (H a)+2) ((SR.wB b mem j6<|G (H a)+1).yB u0 u1 u2 u3 nx P bt<|decide<|0<y K.ah) 0/\B8 (vw K.ah) W b (G (H a)+2) l u0 u1 u2 u3 Q V O aa/\Xj b K l/\LdF K nx P bt Q V O aa/\I (λq=>K.j b q\/q=G (H a)+2) a W/\kO W (G (H a)+1) []/\G (H a)+4<=G (H W)) (λW=>∃bh K1 bv Q V O aa,Opd j5 j4 u7 m8 a W b (G (H a)+2) mem j6 K C N bh K1 bv Q V O aa/\wR K K1) (λW=>∃bh K1 bv Q V O aa,Opd j5 j4 u7 m8 a W b (G (H a)+2) mem j6 K C N bh K1 bv Q V O aa/\∃bo,mr bo K K1/\MT bo 0/\y bo<=y K.ah) (λW=>zcv j5 j4 u7 m8 a W b (G (H a)+2) mem j6 K C<|N+1) (λW q=>OpF a W b K C EX q) aI ?_ ?_ ?_ ?_;(.rintro W⟨B,hb,bf,t⟩;go_call YW hb ba ((λB=>{hL with f:=hL.f.aA B<|λ_ _=>id,o:=Steps.aA hL.o B id,x:=hL.x.aA B id,S:=hL.S.aA B id id}:∀{W:Z},I aC a W->OpL W b K bL) B) bq as an e(⟨rfl,nx,P,bt,u0,u1,u2,u3,bc,⟨l,Q,V,O,aa,w,d,F⟩,g⟩|⟨hx,q,rfl,w,⟨l,m,d⟩,g⟩);have p:=g.D;refine J ⟨z,⟨nx,P,bt,u0,u1,u2,u3,l,Q,V,O,aa,bc,w,d,F,(B.aT (T:=λq=>K.j b q\/q=G (H a)+2) cY).aj g<|λ_ q=>J q,bf.dU<|g.A _ U<|λq=>q.elim (λq=>bP<|s _ q)<|λq=>U,U⟩,?_⟩;exact g.A _ U<|λq=>q.elim (λq=>bP<|s _ q)<|λq=>U;exact bj ⟨q,z,J ⟨W,B,hx⟩,w,l,m,ad<|(B.aT (T:=λq=>K.j b q\/q=G (H a)+2) cY).aj g<|λ_ q=>J q,λab O=>J<|d.j ab O,d.fx,[],[],d.l,by constructor<;>simp[Dq],ar,by constructor<;>simp[Dq]⟩);(.rintro W⟨nx,P,bt,u0,u1,u2,u3,l,Q,V,O,aa,hb,w,d,F,B,bf,t⟩;(have aD:vw l.ah=vw K.ah:=by rw[d.l.1]);have p:¬l.j b (G (H a)+2):=λq=>ba<|d.j _ q;have aV:Pow W:=hL.x.aA B<|λq=>q.elim hL.n<|λq=>bP hL.x.lt;have D:∀e,I (λq=>l.j b q\/q=G (H a)+2) W e->e.heap[G (H a)+3]?=W.heap[G (H a)+3]?:=λe c=>c.A _ U<|λq=>q.elim (λq=>bP<|s _<|d.j _ q)<|λq=>U;have bd:∀e u,I (λq=>l.j b q\/q=G (H a)+2) W e->(∀ab,u.j b ab->l.j b ab)->kO e (G (H a)+1) []/\Aside e u b (G (H a)+2) (G (H a)+1):=λe u c F=>⟨bf.dU<|c.A _ U<|λq=>q.elim (λq=>bP<|s _<|d.j _ q)<|λq=>U,bP c.D,λq=>bP<|s _<|d.j _<|F _ q,U⟩;have ao:gh a W b (G (H a)+2) K l:=⟨w.f,B.aT<|λ_ q=>J q,λab q=>J<|d.j ab q,d.fx⟩;(have bn:∀al∈Q++V++O++aa,ny al.ks/\al.cK<18446744073709551616:=λal av=>by(have:qE W b (vw K.ah) (Aside W l b<|G (H a)+2) al:=by simp only[aP]at av;obtain((q|q)|q)|q:=av;exact w.l0.bZ al q;exact w.l1.bZ al q;exact w.l2.bZ al q;exact w.l3.bZ al q);exact⟨this.jV,this.cK⟩);let⟨bx,E⟩:=hB nx P bt Q V O aa F bn;have bm:∀e u,gh a e b (G (H a)+2) K u->MW e u b (G (H a)+2):=λe u A=>MW.eQ ⟨hL.o,hL.x,⟨hL.o.lt,hL.i,bP hL.o.lt⟩,⟨hL.x.lt,hL.n,bP hL.x.lt⟩⟩ A;(have ap:u7->Q++V++O++aa=[]/\nx=2/\P=1/\bt=0:=λm9=>by obtain an|⟨_,an⟩:=F.L;rw[(hH m9).1]at an;cases an;exact an);by_cases L:fo (vw l.ah) (gW P)=dE;(.go_call Oa hb w.f aV F.f.2.1 L as an e⟨K3,av,g,m,rfl|⟨bs,q,rfl,bg⟩⟩;rotate_left;have j:=ao.aj<|gh.of (j3:=G (H a)+2) av;exact bj ⟨q,z,bj<|bj<|bj<|d.fx.p hL.f.L bs,⟨8,bg,cg⟩,K3,j.ok,ad j.aA,j.j,j.fx,[],[],d.l.aj g,by constructor<;>simp[Dq],ar,by constructor<;>simp[Dq]⟩;have ax:gh W e b (G (H a)+2) l K3:=gh.of av;have j:=ao.aj ax;have ac:=w.eQ ax;(have r:vw K3.ah=vw K.ah:=by rw[g.1,aD]);rw[<-r]at ac E;refine J ⟨z,⟨(SR.wB b mem j6<|G (H a)+1).yB u0 u1 u2 u3 nx P bt<|decide<|0<y K.ah,K3,[],Q,V,O,aa,⟨(av.aA.A _ (az hb) p).trans hb,?_,⟨z,z,z,z,z,z⟩,j,aR t av.aA.D,λab q=>J<|d.j ab<|m ab q,λm9=>?_⟩,d.l.aj g⟩,D e ax.aA⟩;exact Pj ac ⟨z,J ⟨z,z⟩⟩ (λab q=>by cases q) gF.kj (sk.kj _) ar (aq _) (by show 0<=31;omega) ⟨⟨G (H a)+1,z,bd e K3 ax.aA m⟩,ar⟩ (bm _ _ j) (λq=>p<|m _ q) F.f ho (by rw[g.2.2,d.l.2.2,g.1,d.l.1];omega) (bQ _) (r▸hL.A) (by exact E) (λ_=>r▸F.pF) dW bk U hX;let⟨h1,h2,rfl,h4⟩:=ap m9;exact⟨h1,z,h2,z,d.l.aj g,J ⟨aD▸L,z,z,h4,z,z,z⟩⟩);(.refine(RH (m8:=m8) (EX:=EX) hb (br _ l d.l.1<|λm9=>⟨(ap m9).2.2.1,(ap m9).2.2.2⟩) w.f p aV (Steps.aA hL.o B (λq=>q.elim hL.i<|λq=>bP hL.o.lt):Steps W) ⟨bP hL.o.lt,λq=>hL.i<|d.j _ q⟩ F.f.2.1 L z z F.f.2.2 (⟨⟨G (H a)+1,z,bd W l (I.bI _ W)<|λ_ q=>q⟩,ar⟩:MP W l (G (H a)+2) ((SR.wB b mem j6<|G (H a)+1).yB u0 u1 u2 u3 nx P bt<|decide<|0<y K.ah) [])).mono ?_;rintro an e(⟨rfl,n,mw,mv,K3,v,ax,bc,av,A,g,m⟩|⟨K3,A,g,m,hex,q,rfl,bg⟩);rotate_left;have j:=ao.aj A;exact bj ⟨q,z,hex.elim (λm9=>bj<|J m9)<|λm9=>bj<|bj<|bj<|d.fx.p hL.f.L m9,bg,K3,j.ok,ad j.aA,j.j,j.fx,[],[],d.l.aj g,by constructor<;>simp[Dq],ar,by constructor<;>simp[Dq]⟩;have j:=ao.aj A;have ac:=w.eQ A;(have r:vw K3.ah=vw K.ah:=by rw[g.1,aD]);rw[<-r]at ac E;have bE:=v.L;have bs:=Jz n;refine J ⟨z,⟨{((SR.wB b mem j6<|G (H a)+1).yB u0 u1 u2 u3 nx P bt<|decide<|0<y K.ah).yp mv (y n) (n.map y).sum with i:=cz,mw:=mw,k:=cz},K3,oC n,Q,V,O,aa,⟨bc,?_,⟨rfl,rfl,rfl,rfl,rfl,rfl⟩,j,aR t A.aA.D,λab q=>J<|d.j ab<|m ab q,λm9=>?_⟩,d.l.aj g⟩,D e A.aA⟩;refine Pj ac (dQ av) (λab q=>?_) (DM n) (Vq n) (λbp hx=>?_) bs (by show(n.map y).sum<=31;omega) ⟨⟨G (H a)+1,z,bd e K3 A.aA m⟩,ar⟩ (bm _ _ j) (λq=>p<|m _ q) ⟨F.f.1,F.f.2.1,oh _ cg⟩ ho (by rw[g.2.2,d.l.2.2,g.1,d.l.1];omega) (bQ _) (r▸hL.A) (J9 E _) (λ_=>r▸F.pF) U bk U hX;have h1:=av.lt ab q;exact⟨h1.2,λbi=>bP<|s _<|d.j _<|m ab bi,by show ab≠G (H a)+2;omega⟩;let⟨bo,hl,hx⟩:=dO.1<|Vr hx;exact v.S bo hl bp hx;let⟨h1,h2,h3,h4⟩:=ap m9;subst h3 h4;refine⟨h1,z,h2,z,d.l.aj g,bj ⟨n,mw,ax,aD▸L,v,z,z,?_,z,z,z⟩⟩;show(0+y n) %18446744073709551616=y n;have:y n<=(n.map y).sum:=QX<|λbo hl=>(v.pI bo hl).1;omega))
 .rintro W⟨bh,K1,bv,Q,V,O,aa,c,g⟩;let⟨rfl,ec,em,et,eg,bb⟩:=c.bM;have m:=c.A;have t:=c.D;have r:y K1.ah=y K.ah:=by rw[g.1]
  have bd:y (Q++V++O++aa)<=3000000000:=by
   have h1:=m.st.FX;have h2:=m.st.v;have:=je<|λal B=>(m.st.l0.bZ al B).p;have:=je m.st.s1.p;have:=je m.st.s2.p;have:=je m.st.s3.p;simp only[ai];omega
  have av:∀al∈Q++V++O++aa,MZ W al:=λal q=>by
   simp only[aP]at q;obtain((q|q)|q)|q:=q
   .exact CB<|m.st.l0.bZ al q
   .exact CB<|m.st.l1.bZ al q
   .exact CB<|m.st.l2.bZ al q
   .exact CB<|m.st.l3.bZ al q
  refine(WO Q V O aa c.g (m.st.lvm c.g) av m.st.t.x m.lg U m.st.f m.st.l (by rw[g.2.2,r];omega) (r▸hL.l) (hL.S.aA c.eQ.aA (λq=>q.elim hL.D.1<|λq=>bP hL.S.lt.1) (λq=>q.elim hL.D.2<|λq=>bP hL.S.lt.2):td W) m.A.dq<|aU.imp c.eQ.fx.D<|λm9 bp hx=>?_).mono ?_
  .rw[g.1]at hx;rw[(hH m9).2 bp hx,<-(c.f m9).2.1];exact Nj _ _
  rintro an e⟨ns,ac,cb,u,rfl,hr⟩;have A:gh W e bh.f (G (H a)+2) K1 u:=gh.of hr.D;have j:=c.eQ.aj A;have aD:y ns<=y K.ah:=r▸ac.2;have D:e.heap[G (H a)+3]?=W.heap[G (H a)+3]?:=A.aA.A _ U<|λq=>q.elim (λq=>(c.j _ q).elim (λbi=>bP<|s _ bi)<|λbi=>U)<|λq=>U;have E:MT (ns.map .rm) 0:=V9 ns U;obtain⟨rfl,p⟩|⟨bo,q,cc,hp,p,rfl,w,hc⟩:=hr.d
  .let⟨g1,g2⟩:=GM p;have ax:∀ao,wq bh.l (Q++V++O++aa) ao=cz->fo (vw u.ah) ao=fo (vw K1.ah) ao:=λao q=>by
    rw[g1];exact vI (λm9=>by have:=(ac.1 ao m9).2;rw[q]at this;cases this)
   have L:∀ao a,fo (vw u.ah) ao=M a->fo (vw K1.ah) ao=M a:=λao a q=>by
    rw[g1]at q;exact(BX m.st.f.kg q).2
   have ap:=m.ah (az c.g) A (by rw[Sa p,g.2.2,r];omega) (λao a q=>m.A ao a<|L ao a q) (λao a q=>m.n ao a<|L ao a q) (λbi=>by
    let⟨t1,t2⟩:=m.pF bi;refine⟨?_,λal q=>?_⟩
    .rw[ax _<|QP _ _];exact t1
    .rw[ax _ (Xw q)];exact t2 al q)
   refine J ⟨z,⟨bh,u,bv,_,_,_,_,⟨(hr.D.aA.A _ (az c.g) m.st.l).trans c.g,ap,⟨z,ec,em,et,eg,bb⟩,j,aR t A.aA.D,λab q=>(A.j ab q).elim (c.j ab)<|λbi=>bj<|aR t bi,λm9=>?_⟩,ns.map .rm,p.pa g,E,by rw[cS];exact aD⟩,D⟩;let⟨z1,z2,z3,z4,z5,z6⟩:=c.f m9;have aV:ns=[]:=by
    cases ns with
    |nil=>rfl
    |cons bp bg=>
     have h1:=ac.1 bp ar;rw[g.1]at h1;rw[(hH m9).2 bp h1.1,<-z2,Nj]at h1;exact absurd h1.2 ar
   subst aV;simp only[gB]at z1;obtain⟨⟨⟨rfl,rfl⟩,rfl⟩,rfl⟩:=z1;exact⟨z,z2,z3,z4,z5.aj (p:wR K1 u),z6⟩
  .have L:y bo<=y K.ah:=by have:=hp.length_le;rw[cS]at this;omega
   exact bj ⟨q,z,bj<|bj<|c.eQ.fx.Y8 hL.f.L hc.Y8,⟨cc,w,hc.pI⟩,u,j.ok,ad j.aA,j.j,j.fx,bo,[],by rw[eu];exact p.pa g,E.pa hp,L,by constructor<;>simp[Dq]⟩
 rintro W⟨bh,K1,bv,Q,V,O,aa,c,l1,E,L,ac⟩;let⟨rfl,ec,em,et,eg,bb⟩:=c.bM;have t:=c.D;refine(Rm [] c.g c.A hN<|aU.imp c.eQ.fx.D<|λm9=>?_).mono ?_;let⟨z1,_,_,_,_,z6⟩:=c.f m9;simp only[gB]at z1;obtain⟨⟨⟨rfl,rfl⟩,rfl⟩,rfl⟩:=z1;have g:=bl m9;have p:2<=bh.ua:=c.A.o.2.2.1;refine⟨?_,by simp[qd];omega,by simp[qd];omega,by simp[qd];omega,by simp[qd]⟩;rw[em];obtain⟨_,_,an,_⟩|⟨n,mw,hr,_,v,_,an,_⟩:=z6;rw[an];have:=g.1;simp;omega;rw[an];exact g.2 n mw hr v;rintro an e⟨cb,rfl,⟨rfl,s',u,m',a',b',c',d',m,r⟩|⟨ao,u,hs⟩⟩;let⟨q1,q2,q3,q4,q5,q6⟩:=m.bM;(have p:u7->TD bh Q V O aa:=λm9=>by let⟨z1,_,_,_,_,z6⟩:=c.f m9;simp only[gB]at z1;obtain⟨⟨⟨rfl,rfl⟩,rfl⟩,rfl⟩:=z1;have g:=bl m9;have:2<=bh.ua:=c.A.o.2.2.1;refine⟨?_,by simp[qd];omega,by simp[qd];omega,by simp[qd];omega,by simp[qd]⟩;rw[em];obtain⟨_,_,an,_⟩|⟨n,mw,hr,_,v,_,an,_⟩:=z6;rw[an];have:=g.1;simp;omega;rw[an];exact g.2 n mw hr v);refine J ⟨z,⟨s',u,m',a',b',c',d',m.g,m.A,⟨q1,q2.trans ec,q3.trans em,q4.trans et,q5.trans eg,q6.trans bb⟩,(c.eQ.aj m.eQ),aR t m.eQ.aA.D,λab q=>(m.eQ.j ab q).elim (c.j ab)<|λbi=>bj<|aR t bi,λm9=>?_⟩,?_⟩;obtain⟨rfl,rfl,rfl,e4⟩:=r<|p m9;rw[e4];exact c.f m9;exact m.eQ.aA.A _ U<|λq=>q.elim (λq=>(c.j _ q).elim (λbi=>bP<|s _ bi)<|λbi=>U)<|λq=>U;obtain⟨q,rfl,w⟩:=hs.f;let⟨l2,o2,p⟩:=hs.lM;have j:=c.eQ.aj hs.eQ;exact bj ⟨q,z,bj<|bj<|J<|c.eQ.fx.t ao,w,u,j.ok,ad j.aA,j.j,j.fx,l1,l2,E.EZ o2,L,ac,p⟩
structure Fy(K:DK)(L n5:R):Prop where
 dq:∀p∈vw K.ah,Nm p.1/\((p.1=fj\/p.1=kE)->y p.2<=L)
 l:y K.ah<=n5
def vC{f p:af×eD}(h:p∈pq N f):p=f\/p∈N:=by
 induction N with
 |nil=>left;simpa[pq]using h
 |cons g r a=>
  by_cases e:g.1=f.1
  .simp only[pq,fV e,dy]at h|-;grind
  .simp only[pq,fM e,dy]at h|-;grind
def CH{p:af×eD}(h:p∈si N B):p∈N:=by
 unfold si at h;induction N with
 |nil=>exact h
 |cons g r a=>grind[si]
def PC(a:Fs)(f:af×eD):y (pq a f)<=y a+1:=by
 induction a with
 |nil=>simp[pq]
 |cons g r b=>
  by_cases e:g.1=f.1
  .simp[pq,fV e]
  .simp[pq,fM e];omega
def CV(a:Fs)(n:af):y (si a n)<=y a:=by
 have:=(Ia a n).length_le;simpa using this
def yF{a:cy dj}{F:dj}(h:ii a B=M F):(B,F.bB)∈vw a:=Ab (by rw[nH,h];rfl)
def E3{s:tY}(h:Qt s f x)(v:∀n,s=.cr n->Nm n)(w:∀t l,s=.rn t l->t=kE/\l=fj)(m:Fy f b c):Fy x (b+Dn s) (c+Mr s):=by
 have e:∀p∈vw f.ah,Nm p.1/\((p.1=fj\/p.1=kE)->y p.2<=b+Dn s):=λp d=>⟨(m.dq p d).1,λq=>bP<|(m.dq p d).2 q⟩;have C:=m.l;cases s with
 |cr n=>
  let⟨B,l,a,j,k,u⟩:=h;refine⟨λp d=>?_,by rw[a];simp[Mr];omega⟩;rw[a,show vw (f.ah++[(⟨n,B,aF,[],0⟩:dj)])=vw f.ah++[(n,[])]by simp[vw]]at d;obtain q|q:=aP.1 d
  .exact e p q
  .rw[bY.1 q];exact⟨v n z,λ_=>bQ _⟩
 |ap n o=>
  let⟨F,t,i,a,j,k⟩:=h;have hF:=yF i;have g:=(eM i).1;refine⟨λp d=>?_,?_⟩
  .rw[a,qj]at d;obtain q|q:=vC d
   .rw[q];have:=m.dq _ hF;refine⟨by show Nm F.dA;rw[g];exact this.1,λm9=>?_⟩;have u:n=fj\/n=kE:=g▸m9;have B:y F.bB<=b:=this.2 u;show y (F.bB++o)<=b+Dn (.ap n o);rw[ai,Dn,fV u];omega
   .exact e p q
  .rw[a,xE (j5:={F with A:=t,bB:=F.bB++o}) i g];omega
 |sy n=>
  let⟨F,i,a,j,k⟩:=h;have hF:=yF i;have g:=(eM i).1;refine⟨λp d=>?_,?_⟩
  .rw[a,qj]at d;obtain q|q:=vC d
   .rw[q];exact e (F.dA,F.bB)<|g▸hF
   .exact e p q
  .rw[a,xE (j5:={F with D:=y F.bB}) i g];omega
 |rn t l=>
  let⟨F,m9,i,a,j,k⟩:=h;obtain⟨rfl,rfl⟩:=w t l rfl;have hF:=yF i;refine⟨λp d=>?_,?_⟩
  .rw[a,qj,vp]at d;obtain q|q:=vC d
   .rw[q];exact⟨tO,λ_=>by have:y F.bB<=b:=(m.dq _ hF).2<|bj z;show y F.bB<=_;omega⟩
   .exact e p<|CH q
  .have:=PC (si (vw f.ah) kE) (fj,F.bB);have r:=CV (vw f.ah) kE;rw[<-rQ x.ah,a,qj,vp];rw[rQ]at r;show y (pq (si (vw f.ah) kE) (fj,F.bB))<=c+1;omega
 |rm n=>
  let⟨F,m9,i,a,j,k⟩:=h;refine⟨λp d=>?_,?_⟩
  .rw[a,vp]at d;exact e p<|CH d
  .have r:=CV (vw f.ah) n;rw[<-rQ x.ah,a,vp];rw[rQ]at r;omega
 |sd=>
  let⟨a,j,k⟩:=h;exact⟨a▸e,by rw[a];omega⟩
def I4{l:cy tY}:∀{K b:DK}{L e:R},mr l K b->(∀n,.cr n∈l->Nm n)->(∀x a,.rn x a∈l->x=kE/\a=fj)->Fy K L e->Fy b (L+(l.map Dn).sum) (e+(l.map Mr).sum):=by
 induction l with
 |nil=>
  intro K b L e h _ _ d;let⟨c,_,f⟩:=h;exact⟨by rw[c];simpa using d.dq,c▸d.l⟩
 |cons o l j=>
  intro K b L e h f g d;let⟨k,c,i⟩:=h;have:=j i (λn q=>f n<|by simp[q]) (λx a q=>g x a<|by simp[q])<|E3 c (λn q=>f n<|by simp[q]) (λx a q=>g x a<|by simp[q]) d;rw[bO,fq,bO,fq];exact⟨λp a=>⟨(this.dq p a).1,λq=>by have:=(this.dq p a).2 q;omega⟩,by have:=this.l;omega⟩
structure DkC(K:DK)(c:eN)(A L n5:R):Prop where
 dq:∀p∈vw K.ah,Nm p.1/\(p.1=fj->y p.2<=max L A)/\(p.1=kE->y p.2<=if c then A else L)
 l:y K.ah<=n5
def E0{u:tY}(h:Qt u f x)(P:∀n,u=.cr n->Nm n)(Q:∀C o,u=.rn C o->C=kE/\o=fj)(O:Z5 V u)(i:DkC f V b c k):DkC x (R8 V u) (b+Dn u) c (k+Mr u):=by
 have S:=i.l;cases u with
 |cr n=>
  let⟨N,o,a,j,l,K⟩:=h;refine⟨λp e=>?_,by rw[a];simp[Mr];omega⟩;rw[a,show vw (f.ah++[(⟨n,N,aF,[],0⟩:dj)])=vw f.ah++[(n,[])]by simp[vw]]at e;obtain q|q:=aP.1 e
  .let⟨s,t,m⟩:=i.dq p q;refine⟨s,λm9=>by have:=t m9;simp only[Dn];omega,λm9=>?_⟩;have B:n≠kE:=λL=>by
    let⟨T,E⟩:=ru<|cC.2 ⟨p,q,rfl⟩;rw[m9,<-L,nH,K]at E;cases E
   have:=m m9;simpa[R8,B,Dn]using this
  .rw[bY.1 q];exact⟨P n z,λ_=>bQ _,λ_=>bQ _⟩
 |ap n r=>
  let⟨F,C,g,a,j,l⟩:=h;let⟨E,K⟩:=O;have hF:=yF g;have d:=(eM g).1;refine⟨λp e=>?_,?_⟩
  .rw[a,qj]at e;obtain q|q:=vC e
   .rw[q];let⟨s,t,m⟩:=i.dq _ hF;refine⟨by show Nm F.dA;rwa[d],λm9=>absurd (d.symm.trans m9) E,λm9=>?_⟩;have B:n=kE:=d.symm.trans m9;have w:=m B;have N:=K B;subst N;show y (F.bB++r)<=b+Dn (.ap n r);rw[ai,Dn,fV<|bj B];have T:y F.bB<=b:=dV w;omega
   .let⟨s,t,m⟩:=i.dq p q;refine⟨s,λm9=>bP<|t m9,λm9=>?_⟩;have:=m m9;show y p.2<=if V then b+Dn (.ap n r)else c;cases V<;>simp at this|-<;>omega
  .rw[a,xE (j5:={F with A:=C,bB:=F.bB++r}) g d];omega
 |sy n=>
  let⟨F,g,a,j,l⟩:=h;have hF:=yF g;have d:=(eM g).1;refine⟨λp e=>?_,?_⟩
  .rw[a,qj]at e;obtain q|q:=vC e
   .rw[q];exact i.dq (F.dA,F.bB)<|d▸hF
   .exact i.dq p q
  .rw[a,xE (j5:={F with D:=y F.bB}) g d];omega
 |rn C o=>
  let⟨F,m9,g,a,j,l⟩:=h;obtain⟨rfl,rfl⟩:=Q C o rfl;have hF:=yF g;refine⟨λp e=>?_,?_⟩
  .rw[a,qj,vp]at e;obtain q|q:=vC e
   .rw[q];have w:y F.bB<=if V then b else c:=(i.dq _ hF).2.2 z;refine⟨tO,λ_=>?_,λL=>absurd (show fj=kE from L) cg⟩;show y F.bB<=max c (b+0);cases V<;>simp at w|-<;>omega
   .exact i.dq p<|CH q
  .have:=PC (si (vw f.ah) kE) (fj,F.bB);have v:=CV (vw f.ah) kE;rw[<-rQ x.ah,a,qj,vp];rw[rQ]at v;show y (pq (si (vw f.ah) kE) (fj,F.bB))<=k+1;omega
 |rm n=>
  let⟨F,m9,g,a,j,l⟩:=h;refine⟨λp e=>?_,?_⟩
  .rw[a,vp]at e;exact i.dq p<|CH e
  .have v:=CV (vw f.ah) n;rw[<-rQ x.ah,a,vp];rw[rQ]at v;omega
 |sd=>
  let⟨a,j,l⟩:=h;exact⟨a▸i.dq,by rw[a];omega⟩
def I3{l:cy tY}:∀{K b:DK}{f:eN}{A L n5:R},mr l K b->(∀n,.cr n∈l->Nm n)->(∀x a,.rn x a∈l->x=kE/\a=fj)->Dq f l->DkC K f A L n5->∃e,DkC b e (A+(l.map Dn).sum) L (n5+(l.map Mr).sum):=by
 induction l with
 |nil=>
  intro K b f A L n5 h _ _ _ d;let⟨c,_,g⟩:=h;exact⟨f,by rw[c];simpa using d.dq,c▸d.l⟩
 |cons r l o=>
  intro K b f A L n5 h j k i d;let⟨p,c,m⟩:=h;let⟨e,g⟩:=o m (λn q=>j n<|by simp[q]) (λx a q=>k x a<|by simp[q]) i.2<|E0 c (λn q=>j n<|by simp[q]) (λx a q=>k x a<|by simp[q]) i.1 d;rw[bO,fq,bO,fq,<-bJ,<-bJ];exact⟨e,g⟩
def Fy.lM{l:cy tY}(e:Fy f b c)(h:mr l f x)(d:MT l k):Fy x (max b k) (c+4000000000):=by
 let⟨m,g⟩:=I3 h d.nm d.rn d.f (A:=0) (L:=b) (n5:=c) ⟨λp a=>⟨(e.dq p a).1,λi=>bP<|(e.dq p a).2<|J i,λi=>dV<|(e.dq p a).2<|bj i⟩,e.l⟩;have n:=d.ap;have o:=d.L;refine⟨λp a=>⟨(g.dq p a).1,λq=>?_⟩,bP g.l⟩;let⟨_,i,j⟩:=g.dq p a;obtain q|q:=q;have:=i q;omega;have:=j q;cases m<;>simp at this<;>omega
def Fy.aT{K:DK}{a:R}(h:Fy K c k)(e:c<=n)(g:k<=a):Fy K n a:=⟨λp d=>⟨(h.dq p d).1,λq=>bP<|(h.dq p d).2 q⟩,bP h.l⟩
def Fy.A(h:Fy f c k):Xl (vw f.ah):=λn b a=>(h.dq _<|Ab a).1
def Fy.dL{K:DK}(h:Fy K c k):∀bs,fo (vw K.ah) fj=M bs->y bs<=c:=λbs a=>(h.dq _<|Ab a).2<|J rfl
def WY{K:DK}(e:af)(al:Addr)(x:R)(f:eD)(h0:cJ a b K)(hx:ii K.ah e=dE->qp K.fx)(ba:qp K.fx\/ft K.ah+y f<=1000000000)(bl:y f<=1099511627776)(aD:ki f)(ao:∀w,I (λV=>V=b) a w->∀bk aa,(f.map<|Value.int .u8)[bk]?=M aa->bA w (al.add bk)=M aa)(m:Nm e):cR bN 25 #[aJ b,aw e,am (M al) (y f) x] a λW w'=>wT a w' b K [.ap e f] W:=by
 obtain⟨i0,hi,bc,bd,bf⟩:=cZ pL;have hf:=tu e h0 m;have:=h0.v;go_in
 go_wp2_with fail
 apply hf.mono;rintro W w⟨n,vS,bb,⟨F,s,rfl⟩|⟨h1,q,rfl,hq⟩|⟨hb,q,rfl,hq⟩⟩;rotate_left;(.obtain⟨o,HQ,HB⟩:=eU vS hq<|hx h1;go_wp2;go_ret;exact⟨_,_,z,vT.A o ⟨z,z,z⟩ (ag HQ)<|bj ⟨bj<|J z,ag HB⟩⟩);(.obtain⟨o,HQ,HB⟩:=eU vS hq hb;go_wp2;go_ret;exact⟨_,_,z,vT.A o ⟨z,z,z⟩ (ag HQ)<|J ⟨z,ag HB⟩⟩);obtain⟨m,L,bi⟩:=eM s;subst m;have h:=vS.ok;have av:n.d=K.fx.d:=vS.fx.d;have:ft K.ah<=4611686018427387904:=h.d;have:=sU s;have:=aX h.S 0;obtain⟨o,v,HB⟩:=eU (λ(wr:Z)(l:I aC w wr)=>h.aA l<|λ_ _=>id) h.l<|λ(wr:Z)(l:I aC w wr)bk aa(a:(f.map<|Value.int .u8)[bk]?=M aa)=>ao wr (bb.t l) bk aa a;have:=ak s
 go_wp2_with(first
  |(at_range;refine oJ _ z _ 86 z 9 90 underlying86 K.nb _ z v ?_;intro a E ax bp;have ad:=ak E;have u:=ak ax))
 go_frame
 go_loopw [9] (λaa wr=>∃(bg:cy dj)(c:R),(∀n∈bg,n∈K.ah)/\aa=ay c/\c+ft bg=ft K.ah/\qf wr K.nb (G<|H w) (K.ah.map dj.nm) (bg.map dj.nm)/\I aC w wr) (λ_ wr=>wr.rangeLeft K.nb<|G<|H w)
 case atStart=>exact⟨K.ah,0,λ_ h=>h,rfl,ar,ad,I.eF u ar⟩
 case round=>
  obtain⟨bg,c,hL,rfl,P,D,l⟩:=hrel;go_wp2_with(first
   |(at_next;refine oq _ z _ z K.nb (G (H w)) _ _ z D ?_ ?_))
  .intro aU;obtain rfl:bg=[]:=dV aU;have:c=ft K.ah:=by simpa[ft]using P
   have C:=o wr l;have hF:=C.ah F L;have ap:=aX C.S 3;have B:=aX hF.1 0;simp only at ap;have:IntKind.i64.wrap (n.d-(c:Y))=n.d-c:=by rw[bR];omega
   by_cases bo:(ft K.ah:Y)+y f<=n.d
   .have aV:cN F.A≠M F.l:=ud hF.2.1 hF.1 cg;have g:∀j k,fD k 0 5 1 j (y F.bB+y f) (F.bB.map (Value.int .u8)++f.map (Value.int .u8))->fm wr k F.A j->bA k (X F.l 0)=M F.A/\iH k (X F.l 0)=bD/\∃a,pR w (cP k (X F.l 0) j) b {K with fx:=n} a/\Qt (.ap F.dA f) {K with fx:=n} a:=by
     intro j k O r;have d:k.heap[F.l]?=M (aK #[F.A,ay F.D] 93 (0,0)):=(r.dF.block F.l (az hF.1)<|λW=>aV W.symm).trans hF.1;have N:cN j≠M F.l:=ud O d cg;refine⟨by rw[cE d];rfl,cV d,_,(o w<|I.bI _ _).t (F:=F) (F':={F with A:=j,bB:=F.bB++f}) s rfl ?_ ⟨?_,?_,hF.2.2.1.jN aD,hF.2.2.2.1,by have:=hF.2.2.2.2.1;simp;omega,by simp;omega⟩ ?_ ?_,F,j,s,z,z,z⟩
     .exact((l.aT (T:=λV=>V=F.l\/cN F.A=M V) cY).aj (I.eF (S:=λV=>cN F.A=M V) r.dF<|λV W=>J W) aI).aL F.l 0 j<|J<|J z
     .show(cP k (X F.l 0) j).heap[F.l]?=_;rw[aY d];rfl
     .exact fy.of (qG O (eG k F.l 0 j)<|bj N) ar ar
     .intro V W;obtain e'|⟨an,e',bn⟩:=r.f
      .grind
      .have:an=V:=by
        have e2:cN j=M V:=W;rw[e']at e2;simpa using e2
       exact bj<|bP l.D
     grind[uF,length_append]
    have t:=ak g;have HO:=ak hF.2.1;obtain⟨br,bq,p⟩:=fy.fR hF.2.1;have bh:¬((n.d-c:Y)<y f):=U;generalize F.A=fd at*;subst p;have ab:=ak<|HB wr l;go_wp2_with(first
     |(at_builtin;go_loud(refine cq _ z (.tmp 54) (.tmp 55) 31 z 0 5 i0 (.int .u8 0) 1 1 underlying31 hi bc bd bf z cg _ (y F.bB) (F.bB.map (Value.int .u8)) z HO al (y f) x (f.map (Value.int .u8)) z ar ab (by intro aa hu;simp only[cC]at hu;obtain⟨g9,_,rfl⟩:=hu;rfl) U U (bQ _) ?_;intro v2 k i Q;obtain⟨bm,av,g⟩:=t v2 k i Q;obtain⟨x2,c2,rfl⟩:=aM i;have ac:=ak g)))
    go_ret;obtain⟨K2,h2,h3⟩:=ag ac;exact⟨_,K2,z,vS.aj h2,J ⟨z,mr.pa ⟨z,z,z⟩<|mr.pI h3⟩⟩
   .have:(n.d-c:Y)<y f:=U;go_wp2;go_ret;exact⟨_,_,z,vT.A (vS.bH<|l.aE _) ⟨z,z,z⟩ (rC.lX _ _ m)<|bj ⟨J z,ag<|ak<|show qp K.fx from ba.elim id<|λq=>bj U⟩⟩
  .intro aU pk pv C N r g k ap ac;obtain⟨O,n,Q,rfl,rfl,t,rfl⟩:=zN r;simp only[dj.nm,lk,js]at t;obtain⟨rfl,rfl⟩:=t;have i:I aC w N:=l.aj (gH k) aI;have hF:=(o N i).ah n (hL n ar:n∈K.ah);have B:=aX hF.1 0;let⟨br,bq,p⟩:=fy.fR hF.2.1;rw[p]at B;have:ft (O++n::Q)=ft (O++Q)+y n.bB:=by simp[ft];omega
   let⟨ab,d,j⟩:=eU (show(λan=>an∈K.ah)=(λan=>an∈K.ah)from rfl) g i;go_wp2;go_roundw
   .exact⟨O++Q,c+y n.bB,λan s=>hL an aI,dM,U,dV<|ag d,j⟩
   .rw[(ag d).oN,D.oN];simp
def append_nil{K:DK}(d:af)(V:cJ a b K)(hx:ii K.ah d=dE->qp K.fx)(Q:qp K.fx)(e:Nm d):cR bN 25 #[aJ b,aw d,aF] a λac w'=>wT a w' b K [.ap d []] ac:=by
 obtain⟨i0,hi,aD,aU,aV⟩:=cZ pL;have:=V.v;go_in
 go_wp2_with fail
 apply(tu d V e).mono;rintro ac x⟨f,vS,ax,⟨F,i,rfl⟩|⟨h1,q,rfl,N⟩|⟨hb,q,rfl,N⟩⟩;rotate_left;(.obtain⟨g,C,HB⟩:=eU vS N<|hx h1;go_wp2;go_ret;exact⟨_,_,z,vT.A g ⟨z,z,z⟩ (ag C)<|bj ⟨bj<|J z,ag HB⟩⟩);(.obtain⟨g,C,HB⟩:=eU vS N hb;go_wp2;go_ret;exact⟨_,_,z,vT.A g ⟨z,z,z⟩ (ag C)<|J ⟨z,ag HB⟩⟩);obtain⟨e,u,ab⟩:=eM i;subst e;have h:=vS.ok;have:f.d=K.fx.d:=vS.fx.d;have:ft K.ah<=4611686018427387904:=h.d;have:=sU i;have:=aX h.S 0;obtain⟨g,o⟩:=And.intro (ak<|λ(wr:Z)(k:I aC x wr)=>h.aA k<|λ_ _=>id) (ak h.l);have:=ak i
 go_wp2_with(first
  |(at_range;apply oJ _ z _ 86 z 9 90 underlying86 K.nb _ z o;intro a t E ap;have B:=ak t;have n:=ak E))
 go_frame
 go_loopw [9] (λu wr=>∃(S:cy dj)(c:R),(∀f∈S,f∈K.ah)/\u=ay c/\c+ft S=ft K.ah/\qf wr K.nb (G<|H x) (K.ah.map dj.nm) (S.map dj.nm)/\I aC x wr) (λ_ wr=>wr.rangeLeft K.nb<|G<|H x)
 case atStart=>exact⟨K.ah,0,λ_ h=>h,rfl,ar,B,I.eF n ar⟩
 case round=>
  obtain⟨S,c,W,rfl,v,s,k⟩:=hrel;go_wp2_with(first
   |(at_next;refine oq _ z _ z K.nb (G (H x)) _ _ z s ?_ ?_))
  .intro D;obtain rfl:S=[]:=dV D;have:c=ft K.ah:=by simpa[ft]using v
   have m:=g wr k;have hF:=m.ah F u;have w:=aX m.S 3;have p:=aX hF.1 0;simp only at w;have:IntKind.i64.wrap (f.d-(c:Y))=f.d-c:=by rw[bR];omega
   by_cases ad:(ft K.ah:Y)<=f.d
   .have L:cN F.A≠M F.l:=ud hF.2.1 hF.1 cg;have r:∃a,pR x (cP wr (X F.l 0) F.A) b {K with fx:=f} a/\Qt (.ap F.dA []) {K with fx:=f} a:=by
     refine⟨_,(g x<|I.bI _ _).t (F:=F) (F':={F with A:=F.A,bB:=F.bB++[]}) i rfl ?_ ⟨?_,?_,dV hF.2.2.1,hF.2.2.2.1,dV hF.2.2.2.2.1,dV hF.2.2.2.2.2⟩ (λal ac=>J ac) ?_,F,F.A,i,rfl,rfl,rfl⟩
     .exact(k.aT (T:=λal=>al=F.l\/cN F.A=M al) cY).aL F.l 0 F.A<|J<|J z
     .show(cP wr (X F.l 0) F.A).heap[F.l]?=_;rw[aY hF.1];rfl
     .rw[eu];exact fy.of (qG hF.2.1 (eG wr F.l 0 F.A)<|bj L) ar ar
     .apply aR<|uF K.ah {F with A:=F.A,bB:=F.bB++[]};have O:=sU i;show ft (mJ K.ah F.dA)+y (F.bB++[])<=_;rw[eu];omega
    have HO:=ak hF.2.1;obtain⟨bc,bb,j⟩:=fy.fR hF.2.1;have aa:¬((f.d-c:Y)<0):=U;have:iH wr (X F.l 0)=bD:=cV hF.1;generalize F.A=fd at*;subst j;go_wp2_with(at_builtin;apply Lib.wpList_append_run _ z _ _ _ _ z _ _ z z _ _<|(λa=>ze (P:=bN) wr 0 31 a 5 i0 1 underlying31 hi _ _ _<|ag HO) _)
    go_ret;obtain⟨K2,h2,O⟩:=r;exact⟨_,K2,z,vS.aj h2,J ⟨z,mr.pa ⟨z,z,z⟩<|mr.pI O⟩⟩
   .have:(f.d-c:Y)<0:=U;go_wp2;go_ret;exact⟨_,_,z,vT.A (vS.bH<|k.aE _) ⟨z,z,z⟩ (rC.lX _ _ e)<|bj ⟨J z,Q⟩⟩
  .intro ba pk pv aa w1 O r L av ao;obtain⟨ad,f,al,rfl,rfl,hp,rfl⟩:=zN O;simp only[dj.nm,lk,js]at hp;obtain⟨rfl,rfl⟩:=hp;have w:I aC x w1:=k.aj (gH L) aI;have hF:=(g w1 w).ah f (W f ar:f∈K.ah);have p:=aX hF.1 0;let⟨bc,bb,j⟩:=fy.fR hF.2.1;rw[j]at p;have:ft (ad++f::al)=ft (ad++al)+y f.bB:=by simp[ft];omega
   let⟨an,m,D⟩:=eU (show(λa=>a∈K.ah)=(λa=>a∈K.ah)from rfl) r w;go_wp2;go_roundw
   .exact⟨ad++al,c+y f.bB,λa i=>W a aI,dM,U,dV<|ag m,D⟩
   .rw[(ag m).oN,s.oN];simp
def ZL(g:af)(F:dj)(j:R)(h:cJ a b f)(w:ii f.ah g=M F)(hr:y F.bB<=1099511627776)(O:0<y F.bB)(hb:j<18446744073709551616):cR bN 26 #[aJ b,aw g,bw j] a λL w'=>(∃ac,L=aN ac)/\∃r m,y r=y F.bB/\pR a w' b f m/\m.ah=pm f.ah {F with bB:=r}/\m.l=f.l:=by
 let⟨o,l,k⟩:=eM w;have hF:=h.ah F l;let⟨P,Q,p,T,g2,V⟩:=vu hF.2.1 O;let⟨v,C⟩:∃v,y F.bB=v:=⟨_,rfl⟩;let⟨u,A⟩:∃u,j% (8*v)=u:=⟨_,rfl⟩;have B:u<8*v:=A▸oh _ U;let⟨i,N⟩:∃i,u/8=i:=⟨_,rfl⟩;have n:i<y F.bB:=U;let⟨K,D⟩:∃K,u%8=K:=⟨_,rfl⟩;have t:=h.l;have c0:=aX h.S 0;have S:=aX hF.1 0;rw[p,C]at S;have c:=hF.2.1;rw[p]at c;have hx:bA a (X P i)=M (sA F.bB[i]):=by rw[World.ownsRow.cellAt c i U];simp[n]
 have W:iH a (X P i)=bD:=World.ownsRow.frozenAt c i;have aa:=hF.2.2.1 F.bB[i]<|aB n;let⟨i0,x,E,_,_⟩:=cZ rp;have s:=qZ underlying86 underlying9 x E t g;rw[k]at s;simp only[ld,lk]at s
 have q:=ak (show∀e,(0<=e/\e<256)->∃r m,y r=y F.bB/\pR a (cP a (X P i)<|sA e) b f m/\m.ah=pm f.ah {F with bB:=r}/\m.l=f.l fromλe hy=>by
  have d:y (F.bB.set i e)=y F.bB:=gz;refine⟨F.bB.set i e,_,d,h.t (F:=F) (F':={F with bB:=F.bB.set i e}) (by rw[show({F with bB:=F.bB.set i e}:dj).dA=F.dA from rfl,o];exact w) z ((I.bI _ a).aL P i _<|J<|bj (by rw[p];rfl)) ⟨?_,?_,?_,hF.2.2.2.1,by show F.D<=_;rw[d];exact hF.2.2.2.2.1,by show y (F.bB.set i e)<=_;rw[d];exact hF.2.2.2.2.2⟩ (λu L=>J L) ?_,z,z⟩
  .exact(kU _<|λL=>ud hF.2.1 hF.1 cg<|p▸cD M L.symm).trans hF.1
  .have:=tD c i<|sA e;unfold fy;rw[p,gz,uv];exact this.1
  .intro m9 hz;obtain ab|rfl:=jL hz
   .exact hF.2.2.1 m9 ab
   .exact hy
  .apply aR (uF f.ah {F with bB:=F.bB.set i e});have:=h.d;have:=sU w;show ft (mJ f.ah F.dA)+y (F.bB.set i e)<=_;rw[d,o];omega)
 clear t hF c k o l w h p T V;generalize F.bB[i]=ad at*;rw[C]at hr O n;clear C;have:IntKind.u64.wrap (8*(v:Y))=((8*v:R):Y):=by rw[dY];omega
 have:IntKind.i64.wrap (8*(v:Y))=((8*v:R):Y):=by rw[bR];omega
 have:(j:Y) % (8*(v:Y))=(u:Y):=by rw[<-A];simp
 have:(u:Y).tdiv 8=(i:Y):=by rw[<-N];simp
 have:IntKind.u64.wrap (i:Y)=(i:Y):=by rw[dY];omega
 have er:(u:Y).tmod 8=(K:Y):=by rw[ve U];exact(U:(u:Y) %8=(K:Y))
 have:K<8:=U;have:(i:Y)<(v:Y):=U;have:(0:Y)<=(i:Y):=U;clear A N D B;go_in
 go_wp2;go_end0;refine⟨⟨_,z⟩,q _ ?_⟩;have:=bounds_u8<|wf_bits .xor .u8 ad<|2^K%256;omega
def M5(c:af)(l:R)(h:cJ a b f)(m:∀F,ii f.ah c=M F->F.bB=[]):cR bN 26 #[aJ b,aw c,bw l] a λs r=>(∃v,s=aN v)/\r=a:=by
 have j:=h.l;have:=aX h.S 0;let⟨t,n,p,_,_⟩:=cZ rp;have d:=qZ underlying86 underlying9 n p j c;cases hF:ii f.ah c with
 |none=>
  rw[AQ hF]at d;simp only[sP]at d;clear j h m hF;go_in
  go_wp2;go_end0;exact⟨⟨_,z⟩,z⟩
 |some F=>
  let⟨o,g,e⟩:=eM hF;have i:=h.ah F g;have q:=aX i.1 0;let⟨x,u,k⟩:=fy.fR i.2.1;rw[k,(m F hF)]at q;rw[e]at d;simp only[ld,lk]at d;clear j h m hF i e o g k;go_in
  go_wp2;go_end0;exact⟨⟨_,z⟩,z⟩
structure Do(w W:Z)(db:R)(K K':DK)(B n:R):Prop where
 D:pR w W db K K'
 t:∀L n5,Fy K L n5->Fy K' (L+B) (n5+n)
 l:y K'.l<=y K.l+n
def Do.aj{w W V:Z}{db:R}{K d a:DK}{e:R}(h:Do w W db K d c k)(g:Do W V db d a n e):Do w V db K a (c+n) (k+e):=⟨h.D.aj g.D,λL i q=>by have:=g.t _ _<|h.t L i q;rwa[bJ,bJ]at this,gV h.l g.l⟩
def Do.aT{w W:Z}{db:R}{K a:DK}{d:R}(h:Do w W db K a c k)(g:c<=n)(j:k<=d):Do w W db K a n d:=⟨h.D,λL e q=>(h.t L e q).aT U U,bP h.l⟩
def Do.bI{w:Z}{db:R}{K:DK}(h:cJ w db K):Do w w db K K 0 0:=⟨pR.bI h,λ_ _ q=>q,aq _⟩
def Do.bH(h:Do a e b f x c k)(d:I aC e P):Do a P b f x c k:=⟨h.D.bH d,h.t,h.l⟩
def Do.A{w W:Z}{db:R}{K a:DK}(h:Do w W db K a c k)(e:n<G (H w))(d:¬K.j db n):W.heap[n]?=w.heap[n]?:=h.D.aA.A n e d
def Do.p(h:Do a e b f x c k)(g:n<G (H a))(d:¬f.j b n):n<G (H e)/\¬x.j b n:=⟨au g h.D.aA.D,λi=>(h.D.j n i).elim d<|λq=>U⟩
def FD{o:tY}(h:vT a e b f x [o] d)(t:∀r,o=.cr r->Nm r)(u:∀n k,o≠ .rn n k):Do a e b f x (Dn o) 1:=by
 have j:∀l,l<+:[o]->mr l f x->Do a e b f x (Dn o) 1:=λl p g=>by have m:∀n,n∈l->n=o:=λn i=>bY.1<|p.subset i;have c:=p.length_le;(have s:(l.map Dn).sum<=Dn o:=by obtain _|⟨v,_|⟨A,B⟩⟩:=l;simp;rw[m v ar];simp;simp at c);refine⟨h.D,λL w q=>?_,by have:=AK g;simp at c;omega⟩;have:=I4 g (λr i=>t r (m _ i).symm) (λn k i=>absurd (m _ i).symm<|u n k) q;exact this.aT U (by have:=Mo l;simp at c;omega)
 obtain⟨_,g⟩|⟨l,_,_,i,g,_⟩:=h.d;exact j _ (sQ _) g;exact j l i g
def ZM(c:af)(d:R)(h:cJ a b f)(l:d<18446744073709551616):cR bN 26 #[aJ b,aw c,bw d] a λj o=>(∃B,j=aN B)/\∃i,Do a o b f i 0 0:=by
 by_cases q:∃F,ii f.ah c=M F/\F.bB≠[];(.let⟨F,e,m⟩:=q;have g:=(eM e).2.1;go_call ZL c F d h e (h.dL g) (iZ.2 m) l as j o⟨n,p,i,v,u,s,w⟩;refine⟨n,i,u,λL x k=>⟨λA t=>?_,?_⟩,w▸aq _⟩;rw[s,qj]at t;obtain j|j:=vC t;rw[j];have r:=k.dq (F.dA,F.bB)<|(eM e).1▸yF e;exact⟨r.1,λm9=>by show y p<=L;rw[v];exact r.2 m9⟩;exact k.dq A j;rw[s,xE (j5:={F with bB:=p}) e (eM e).1];exact k.l)
 .refine(M5 c d h (λF hF=>by
   cases l:F.bB with
   |nil=>rfl
   |cons x r=>exact absurd ⟨F,hF,by rw[l];simp⟩ q)).mono ?_
  rintro j o⟨n,rfl⟩;exact⟨n,f,Do.bI h⟩
structure ByS(w:Z)(db:R)(K:DK)(v:ae)(bs:eD):Prop where
 S:∃x c,v=am x (y bs) c
 L:ki bs
 dL:y bs<=1048576
 f:∀x c,v=am (M x) (y bs) c->bs≠[]->(∀j u,(bs.map<|Value.int .u8)[j]?=M u->bA w (x.add j)=M u)/\∃b off,x=X b off/\b<G (H w)/\¬K.j db b
 l:v=am dE (y bs) 0\/∃x c,v=am (M x) (y bs) c
 o:v=am dE (y bs) 0->bs=[]
def ByS.aA{w W:Z}{db:R}{K e:DK}{bs:eD}{S:fB}(h:ByS w db K d bs)(m:I S w W)(o:∀k,S k->K.j db k\/G (H w)<=k)(p:∀k,e.j db k->K.j db k\/G (H w)<=k):ByS W db e d bs:=by
 refine{h with f:=λx s t c=>?_};obtain⟨n,b,a,rfl,g,j⟩:=h.f x s t c;refine⟨λu v r=>?_,b,a,z,au g m.D,λq=>(p b q).elim j<|λm9=>U⟩;have:=n u v r;rw[dS]at this|-;exact m.u this (λq=>(o b q).elim j<|λm9=>U) g
def To(c:af)(h:cJ a b f)(k:qp f.fx)(e:ByS a b f d m)(j:Nm c):cR bN 25 #[aJ b,aw c,d] a λl r=>∃u g,l=aN u/\Do a r b f g (y m) 1:=by
 obtain l|⟨x,B,l⟩:=e.l;(.have i:=e.o l;subst i;subst l;go_call append_nil c h (λ_=>k) k j as l r⟨u,g,rfl,o⟩;exact⟨u,g,z,(FD o (λE q=>by cases q)<|λx s q=>by cases q).aT (by simp[Dn])<|aq _⟩);subst l;refine(WY c x B m h (λ_=>k) (J k) (bP e.dL) e.L (λW A D u n=>?_) j).mono ?_;by_cases i:m=[];rw[i]at n;simp at n;obtain⟨t,C,p,rfl,v,w⟩:=e.f x B rfl i;have:=t D u n;rw[dS]at this|-;exact A.u this (λq=>w (by rw[show C=b from q];exact J z)) v;rintro l r⟨u,g,rfl,o⟩;refine⟨u,g,z,(FD o (λE q=>by cases q)<|λx s q=>by cases q).aT ?_<|aq _⟩;have:=e.dL;simp only[Dn];split<;>omega
def MO(w W:Z)(e:R)(K:DK)(g:ae)(h:eD)(b a:Y)(c:af)(f:R)(d:DK)(B n:R):Prop:=Do w W e K d B n/\W.heap[f]?=M (aK #[ay b,ay a,aw c,g] 33 (0,0))/\¬d.j e f/\ByS W e d g h/\qp d.fx
def MO.go{g:Y}{i:DK}{p:R}(h:MO a e b f d m r g B c x k n)(l:Do e P b x i T p):MO a P b f d m r g B c i (k+T) (n+p):=by
 let⟨s,j,o,t,u⟩:=h;exact⟨s.aj l,(l.A (az j) o).trans j,(l.p (az j) o).2,t.aA l.D.aA (λ_ q=>J q) l.D.j,l.D.fx.D u⟩
def MO.bH{g:Y}(h:MO a e b f d m r g B c x k n)(i:I aC e P):MO a P b f d m r g B c x k n:=by
 let⟨l,j,o,p,s⟩:=h;exact⟨l.bH i,(i.A _ (az j) id).trans j,o,p.aA i cY<|λ_ q=>J q,s⟩
def UR(i g:Y)(j:af)(h:cJ a b f)(hx:qp f.fx)(hB:Fy f c k)(hM:k<=800000000000)(bL:y f.l<=900000000000)(bp:Nm j)(hb:ByS a b f d m):cR bN 8 #[aJ b,ef #[ay i,ay g,aw j,d]] a λE w'=>(∃cj,E=aN cj)/\∃K',Do a w' b f K' (y m) 3:=by
 let⟨bx,bs,bl⟩:=hb.S;let⟨W1,av⟩:∃W1,dw a (aK #[ay i,ay g,aw j,d] 33)=W1:=⟨_,rfl⟩;have bf:I aC a W1:=av▸cI aC a;have bk:MO a W1 b f d m i g j (G<|H a) f 0 0:=⟨(Do.bI h).bH bf,av▸aQ _ z,λq=>bP<|h.lt _ q,hb.aA bf cY<|λ_ q=>J q,hx⟩;have ca:y f.ah<=k:=hB.l;have bn:=CJ (w:=W1) (bk.1.D.ok) U;have aa:∀ab t ao ac e,MO a ab b f d m i g j (G<|H a) t ao ac->ac<=10->Nm e->cR bN 23 #[aJ b,aw e] ab λE w'=>∃bg S,E=aN bg/\MO a w' b f d m i g j (G<|H a) S ao (ac+1):=λab t ao ac e A hn hq=>by refine(Ju e A.1.D.ok (λ_=>A.2.2.2.2) (bP A.1.l) hq).mono ?_;rintro E w'⟨bg,S,rfl,hr⟩;exact⟨bg,S,z,A.go<|FD hr (λac q=>by cases q)<|λcc x q=>by cases q⟩
 have W:∀ab t ao ac e,MO a ab b f d m i g j (G<|H a) t ao ac->ac<=10->Nm e->cR bN 24 #[aJ b,aw e] ab λE w'=>∃bg S,E=aN bg/\MO a w' b f d m i g j (G<|H a) S ao (ac+1):=λab t ao ac e A hn hq=>by refine(Eg e A.1.D.ok (λ_=>A.2.2.2.2) (bP A.1.l) hq).mono ?_;rintro E w'⟨bg,S,rfl,hr⟩;exact⟨bg,S,z,A.go<|FD hr (λac q=>by cases q;exact hq)<|λcc x q=>by cases q⟩
 have V:∀ab t ao ac e,MO a ab b f d m i g j (G<|H a) t ao ac->Nm e->cR bN 25 #[aJ b,aw e,d] ab λE w'=>∃bg S,E=aN bg/\Do a w' b f S (ao+y m) (ac+1):=λab t ao ac e A hq=>by go_call To e A.1.D.ok A.2.2.2.2 A.2.2.2.1 hq as E w'⟨bg,S,rfl,hr⟩;exact⟨bg,S,z,A.1.aj hr⟩
 have bb:∀ab t ao ac e ap,MO a ab b f d m i g j (G<|H a) t ao ac->ap<18446744073709551616->cR bN 26 #[aJ b,aw e,bw (ap:R)] ab λE w'=>∃bg S,E=aN bg/\MO a w' b f d m i g j (G<|H a) S ao ac:=λab t ao ac e ap A bo=>by go_call ZM e ap A.1.D.ok bo as E w'⟨⟨bg,rfl⟩,S,hr⟩;exact⟨bg,S,z,A.go hr⟩
 have ax:∀cc∈f.ah.map dj.dA,Nm cc:=hB.A.dq;have l:∀ab t ao ac,MO a ab b f d m i g j (G<|H a) t ao ac->bA ab (X (G<|H a) 0)=M (ay i)/\bA ab (X (G<|H a) 1)=M (ay g)/\bA ab (X (G<|H a) 2)=M (aw j)/\bA ab (X (G<|H a) 3)=M d:=λab t ao ac A=>⟨aX A.2.1 0,aX A.2.1 1,aX A.2.1 2,aX A.2.1 3⟩;have T:∀ab t ao ac u,MO a ab b f d m i g j (G<|H a) t ao ac->u<y m->∃bi o,bx=M (X bi o)/\bA ab (X bi<|o+u)=M (sA<|m[u]?.getD 0)/\0<=m[u]?.getD 0/\m[u]?.getD 0<256:=λab t ao ac u A hj=>by(have bo:m≠[]:=λq=>by rw[q]at hj;simp at hj);have ap:=A.2.2.2.1;obtain E|⟨cc,cb,E⟩:=ap.l;exact absurd (ap.o E) bo;obtain⟨h1,bi,o,rfl,_,_⟩:=ap.f cc cb E bo;rw[bl]at E;injection E with e1 e2 e3;(have hg:(m.map<|Value.int .u8)[u]?=M (sA<|m[u]?.getD 0):=by simp[hj]);have:=h1 u _ hg;rw[dS]at this;have h5:=ap.L (m[u]?.getD 0) (by simp[hj]);exact⟨bi,o,e1,this,h5.1,h5.2⟩
 have bt:=hb.dL;subst bl;have br:=ak av;have r:=ak bp;have bh:=ak ax;clear av bp ax h hx hB hb bL bf;go_in
 go_wp21;rw[ag br];go_call bn as E w2⟨v2,ns,rfl,bd,bc,bq⟩;let⟨x2,c2,bT⟩:=aM bc;subst bT;have w:=bk.bH bq;let⟨k0,k1,k2,k3⟩:=l w2 _ _ _ w;have ce:y ns<=900000000000:=by have:=bd.length_eq;rw[cS]at this;omega
 have al:∀cb,cb<y ns->∃bi o e,x2=M (X bi o)/\bA w2 (X bi<|o+cb)=M (aw e)/\Nm e:=λcb hi=>by obtain⟨q1,⟨q2,q0⟩|⟨ch,ap,bo,q2,cd,hc⟩⟩:=dQ bc;omega;cases q2;exact⟨ch,ap,ns[cb],z,hc cb _ (by simp[strs,hi]),ag bh _<|bd.mem_iff.1<|aB hi⟩
 have aU:=ak al;clear al bn bq bc bd;have ba:(0<y ns/\0<=g)\/y ns=0\/(0<y ns/\g<0):=U;obtain⟨bm,bv⟩|bm|⟨bm,bv⟩:=ba;(case' inl=>have r1:=yW g (show(y ns:Y)≠0 by omega);have r2:=Int.emod_lt_of_pos g (show(0:Y)<y ns by omega);obtain⟨bi,o,e,ap,bo,hq⟩:=aU (g%y ns).toNat U;subst ap;have e1:(0:Y)<(y ns:Y):=U;have e5:¬(y ns:Y)=0:=U;have D:=ak hq;clear hq);(case' inr.inl=>have e1:¬(0:Y)<(y ns:Y):=U;have D:=r);(case' inr.inr=>have e1:(0:Y)<(y ns:Y):=U;have e2:¬(0:Y)<=g:=U;have D:=r);(all_goals have bE:i=1\/i=2\/i=3\/(¬i=1/\¬i=2/\¬i=3):=U;obtain rfl|rfl|rfl|⟨g1,g2,g3⟩:=bE);all_goals try(have d1:decide (i=1)=bD:=(dV g1);have d2:decide (i=2)=bD:=(dV g2);have d3:decide (i=3)=bD:=(dV g3))
 all_goals(go_wp21)
 (.go_call aa w2 f _ _ _ w U (by first|exact ag D|exact ag r)as E w3⟨u3,F,rfl,n⟩;have B:=ak n;clear n;go_wp2;go_end0;exact⟨⟨_,z⟩,F,(ag B).1.aT U U⟩);(.go_call aa w2 f _ _ _ w U (by first|exact ag D|exact ag r)as E w3⟨u3,F,rfl,n⟩;have B:=ak n;clear n;go_wp21;go_call W w3 F _ _ _ B U (by first|exact ag D|exact ag r)as E O⟨u4,K4,rfl,p⟩;let⟨_,_,_,k3⟩:=l O _ _ _ p;have P:=ak p;clear p;go_wp21;go_call V O K4 _ _ _ P (by first|exact ag D|exact ag r)as E w5⟨u5,K5,rfl,v⟩;have Q:=ak v;clear v;go_wp2;go_end0;exact⟨⟨_,z⟩,K5,(ag Q).aT U U⟩);(·(go_loopw [6] (λiv wr=>∃(u:R)(t:DK),iv=ay u/\u<=y m/\MO a wr b f (am bx (y m) bs) m 3 g j (G<|H a) t 0 0) (λiv _=>y m-(intOf iv).toNat));exact⟨0,f,dM,bQ _,w⟩;(case round=>obtain⟨u,t,rfl,hj,s⟩:=hrel;obtain⟨_,_,_,k3⟩:=l wr _ _ _ s;by_cases L:u<y m;(.obtain⟨bi,o,ad,K,N,an⟩:=T wr t 0 0 u s L;subst ad;let⟨x,hy⟩:=lK N;rw[hy]at K an;clear hy N;have f1:(u:Y)<(y m:Y):=U;have f2:(0:Y)<=(u:Y):=U;(have f3:IntKind.u64.wrap (u:Y)=(u:Y):=by rw[dY];omega);(have f4:IntKind.u64.wrap ((u:Y)*31)=(u:Y)*31:=by rw[dY];omega);(have f5:IntKind.u64.wrap (x:Y)=(x:Y):=by rw[dY];omega);(have f6:IntKind.u64.wrap ((u:Y)*31+(x:Y))=(u:Y)*31+(x:Y):=by rw[dY];omega);have C:=bb wr t 0 0 j (u*31+x) s U;rw[show((u*31+x:R):Y)=(u:Y)*31+(x:Y)by omega]at C;have aD:=ak C;clear C;clear s;go_wp21;go_call ag aD as E w3⟨u3,F,rfl,n⟩;have B:=ak n;clear n;go_wp2;go_roundw;exact⟨u+1,F,dM,L,ag B⟩;simp[intOf];omega);have f1:¬(u:Y)<(y m:Y):=U;have aV:=ak s;clear s;go_wp2;go_end0;exact⟨⟨_,z⟩,t,(ag aV).1.aT U U⟩));(.go_call W w2 f _ _ _ w U (by first|exact ag D|exact ag r)as E O⟨u4,K4,rfl,p⟩;let⟨_,_,_,k3⟩:=l O _ _ _ p;have P:=ak p;clear p;go_wp21;go_call V O K4 _ _ _ P (by first|exact ag D|exact ag r)as E w5⟨u5,K5,rfl,v⟩;have Q:=ak v;clear v;go_wp2;go_end0;exact⟨⟨_,z⟩,K5,(ag Q).aT U U⟩);(.go_call aa w2 f _ _ _ w U (by first|exact ag D|exact ag r)as E w3⟨u3,F,rfl,n⟩;have B:=ak n;clear n;go_wp2;go_end0;exact⟨⟨_,z⟩,F,(ag B).1.aT U U⟩);(.go_call aa w2 f _ _ _ w U (by first|exact ag D|exact ag r)as E w3⟨u3,F,rfl,n⟩;have B:=ak n;clear n;go_wp21;go_call W w3 F _ _ _ B U (by first|exact ag D|exact ag r)as E O⟨u4,K4,rfl,p⟩;obtain⟨_,_,_,k3⟩:=l O _ _ _ p;have P:=ak p;clear p;(go_wp2_with fail);apply(V O K4 _ _ _ P (by first|exact ag D|exact ag r)).mono;rintro E w5⟨u5,K5,rfl,v⟩;have Q:=ak v;clear v;go_wp2;go_end0;exact⟨⟨_,z⟩,K5,(ag Q).aT U U⟩);(·(go_loopw [6] (λiv wr=>∃(u:R)(t:DK),iv=ay u/\u<=y m/\MO a wr b f (am bx (y m) bs) m 3 g j (G<|H a) t 0 0) (λiv _=>y m-(intOf iv).toNat));(case atStart=>exact⟨0,f,dM,bQ _,w⟩);(case round=>obtain⟨u,t,rfl,hj,s⟩:=hrel;obtain⟨_,_,_,k3⟩:=l wr _ _ _ s;by_cases L:u<y m;(.obtain⟨bi,o,ad,K,N,an⟩:=T wr t 0 0 u s L;subst ad;let⟨x,hy⟩:=lK N;rw[hy]at K an;clear hy N;have f1:(u:Y)<(y m:Y):=U;have f2:(0:Y)<=(u:Y):=U;(have f3:IntKind.u64.wrap (u:Y)=(u:Y):=by rw[dY];omega);(have f4:IntKind.u64.wrap ((u:Y)*31)=(u:Y)*31:=by rw[dY];omega);(have f5:IntKind.u64.wrap (x:Y)=(x:Y):=by rw[dY];omega);(have f6:IntKind.u64.wrap ((u:Y)*31+(x:Y))=(u:Y)*31+(x:Y):=by rw[dY];omega);have C:=bb wr t 0 0 j (u*31+x) s U;rw[show((u*31+x:R):Y)=(u:Y)*31+(x:Y)by omega]at C;have aD:=ak C;clear C;clear s;go_wp21;go_call ag aD as E w3⟨u3,F,rfl,n⟩;have B:=ak n;clear n;go_wp2;go_roundw;exact⟨u+1,F,dM,L,ag B⟩;simp[intOf];omega);have f1:¬(u:Y)<(y m:Y):=U;have aV:=ak s;clear s;go_wp2;go_end0;exact⟨⟨_,z⟩,t,(ag aV).1.aT U U⟩));(.apply(W w2 f _ _ _ w U (by first|exact ag D|exact ag r)).mono;rintro E O⟨u4,K4,rfl,p⟩;obtain⟨_,_,_,k3⟩:=l O _ _ _ p;have P:=ak p;clear p;(go_wp2_with fail);apply(V O K4 _ _ _ P (by first|exact ag D|exact ag r)).mono;rintro E w5⟨u5,K5,rfl,v⟩;have Q:=ak v;clear v;go_wp2;go_end0;exact⟨⟨_,z⟩,K5,(ag Q).aT U U⟩);(.apply(aa w2 f _ _ _ w U (by first|exact ag D|exact ag r)).mono;rintro E w3⟨u3,F,rfl,n⟩;go_wp2;go_end0;exact⟨⟨_,z⟩,F,n.1.aT U U⟩);(.apply(aa w2 f _ _ _ w U (by first|exact ag D|exact ag r)).mono;rintro E w3⟨u3,F,rfl,n⟩;(go_wp2_with fail);apply(W w3 F _ _ _ n U (by first|exact ag D|exact ag r)).mono;rintro E O⟨u4,K4,rfl,p⟩;obtain⟨_,_,_,k3⟩:=l O _ _ _ p;(go_wp2_with fail);apply(V O K4 _ _ _ p (by first|exact ag D|exact ag r)).mono;rintro E w5⟨u5,K5,rfl,v⟩;go_wp2;go_end0;exact⟨⟨_,z⟩,K5,v.aT U U⟩);(·(go_loopw [6] (λiv wr=>∃(u:R)(t:DK),iv=ay u/\u<=y m/\MO a wr b f (am bx (y m) bs) m 3 g j (G<|H a) t 0 0) (λiv _=>y m-(intOf iv).toNat));(case atStart=>exact⟨0,f,dM,bQ _,w⟩);(case round=>obtain⟨u,t,rfl,hj,s⟩:=hrel;obtain⟨_,_,_,k3⟩:=l wr _ _ _ s;by_cases L:u<y m;(.obtain⟨bi,o,ad,K,N,an⟩:=T wr t 0 0 u s L;subst ad;let⟨x,hy⟩:=lK N;rw[hy]at K an;clear hy N;have f1:(u:Y)<(y m:Y):=U;have:(0:Y)<=(u:Y):=U;(have:IntKind.u64.wrap (u:Y)=(u:Y):=by rw[dY];omega);(have:IntKind.u64.wrap ((u:Y)*31)=(u:Y)*31:=by rw[dY];omega);(have:IntKind.u64.wrap (x:Y)=(x:Y):=by rw[dY];omega);(have:IntKind.u64.wrap ((u:Y)*31+(x:Y))=(u:Y)*31+(x:Y):=by rw[dY];omega);have C:=bb wr t 0 0 e (u*31+x) s U;rw[show((u*31+x:R):Y)=(u:Y)*31+(x:Y)by omega]at C;clear s;go_wp21;go_call C as E w3⟨u3,F,rfl,n⟩;go_wp2;go_roundw;exact⟨u+1,F,dM,L,n⟩;simp[intOf];omega);have:¬(u:Y)<(y m:Y):=U;go_wp2;go_end0;exact⟨⟨_,z⟩,t,s.1.aT U U⟩));go_call W w2 f _ _ _ w U (by first|exact ag D|exact ag r)as E O⟨u4,K4,rfl,p⟩;let⟨_,_,_,k3⟩:=l O _ _ _ p;go_wp21;go_call V O K4 _ _ _ p (by first|exact ag D|exact ag r)as E w5⟨u5,K5,rfl,v⟩;go_wp2;go_end0;exact⟨⟨_,z⟩,K5,v.aT U U⟩
def Yu{j:R}(h:fD a b c 1 (bX k 0 n T) n (m.map<|Value.int .u8))(s:j<=y m):fD a b c 1 (bX k 0 j T) (y<|m.take j) ((m.take j).map<|Value.int .u8):=by
 obtain⟨p,⟨l,_⟩|⟨v,i,d,o,q,r,t,e,f,g⟩⟩:=h;cases l;cases o;have u:y m=n:=dV p;refine⟨ar,bj ⟨k,T,d,by rw[dX,yT s],q,r,by rw[dX];omega,e,f,?_⟩⟩;rw[List.map_take,<-g,zl,dX];congr 1;omega
def WI{K:DK}{ac:dj}{n:R}(h:cJ a b K)(hf:K.ah=[ac])(hs:K.sm=[(ac.dA,lk<|M ac.l)])(hm:K.l=[])(hn:ac.D=n/\n<=y ac.bB)(aa:0<y ac.bB):cR bN 16 #[aJ b,bw 0,bw 0] a λf w'=>f=aN (de #[])/\∃C bT,pR a w' b K C/\C.ah=[⟨ac.dA,ac.l,bT,ac.bB.take n,n⟩]/\C.l=[]:=by
 have hl:y ac.bB<=1099511627776:=h.dL (by rw[hf];simp);have aU:=h.o;rw[hm]at aU;obtain⟨mx,mc,bs⟩:=aM aU;have cr:=@tC bN;have e:=h.S;rw[bs]at e;have c0:=aX e 0;have c1:=aX e 1;have c2:=aX e 2;have c4:=aX e 4;have c5:=aX e 5;have f0:=cV (i:=0) e;have f2:=cV (i:=2) e;have f4:=cV (i:=4) e;have f5:=cV (i:=5) e;have al:=ak h.D;have HD:=ak h;have cn:=az e;have hF:=h.ah ac (by rw[hf];simp);have bl:b≠K.sb:=h.D.pZ e;obtain⟨s,m⟩:=og<|dw (cP (cP (cP (cP a (X b 0)<|.map<|M<|G<|H a) (X b 2) aF) (X b 4)<|ay 0) (X b 5)<|ay 0)<|.map #[] 0;have L:I (λk=>k=b) a s:=by rw[<-m];exact((((fJ a b 0 _).aL b 2 _<|J z).aL b 4 _<|J z).aL b 5 _<|J z).aE _
 have cv:G (H s)=G (H a)+1:=by rw[<-m];simp
 have P:lU s b (G<|H a) K.sb aF {K.fx with wt:=0,bd:=0}:=by unfold lU;rw[<-m];exact(gw _ dW).trans<|(aY<|aY<|aY<|aY e).trans z
 have A:iO s (G<|H a) []:=⟨#[],0,by rw[<-m];exact aQ _ ar,z,sE 0⟩;have ab:iO s K.sb K.sm:=h.D.aA L<|λf=>bl f.symm;have j:ac.l≠b/\cN ac.A≠M b:=⟨lj hF.1 e cg,ud hF.2.1 e cg⟩;have bh:sw s ac:=hF.aA L j.1<|λk f c=>j.2 (by rw[f];grind);clear h aU e hF;go_in
 go_wp2_with fail
 refine iW 1 ?_;rw[im];have cj:=ak m;obtain⟨bb,B,ad,ca,ch⟩:=nZ P A ab bh L;clear P A ab bh L m al
 go_wp2_with(first
  |(at_range;rw[ag cj];refine oJ _ z _ 86 z 9 90 underlying86 K.sb _ z ad ?_;intro w0 S bn cs;have cb:=ak S;have bf:=ak bn;clear S bn))
 obtain⟨ao,c,ck,d,cl⟩:=ac;simp only at*;obtain⟨rfl,W⟩:=hn;obtain⟨F,q2,q3⟩:=ag ca;simp only at F q2 q3;have i:I aC s w0:=I.eF bf ar;have a1:=(i.A c (az F) id).trans F;obtain⟨g,u,cp,_,_,co⟩:=vu q2 aa;subst cp;have cT:=(i.A b (az<|ag bb) id).trans<|ag bb;refine iW 2 ?_;rw[im]
 go_wp2_with(first
  |(at_next;refine oq _ z _ z K.sb (G (H s)) _ _ z cb ?_ ?_))
 intro aV pk pv bx w2 o V bo cu bm;obtain⟨rfl,rfl,rfl,rfl⟩:aV=[]/\pk=ao/\pv=lk (M c)/\bx=[]:=by obtain _|⟨bT,aV⟩:=aV;simp at o;exact⟨z,o.1.1.symm,o.1.2.symm,o.2⟩;simp at o
 simp only[lk]at bm;have p:I (λk=>k=G (H a)+1) w0 w2:=gH bo;have cm:c<G (H s):=az F;have a2:=(p.A c (bP i.D) (λf=>by have D:c=G (H a)+1:=f;omega)).trans a1;have an:=(p.A b (bP i.D) (λf=>by have D:b=G (H a)+1:=f;omega)).trans cT;have y0:=aX a2 0;have y1:=aX a2 1;have z0:=cV (i:=0) a2;have z1:=cV (i:=1) a2;have x0:=aX an 0;have v1:IntKind.i64.wrap ((y d:Y)-(n:Y))=(y d:Y)-n:=by rw[bR];omega
 have v2:IntKind.i64.wrap ((y d:Y)-(n:Y)+1)=(y d:Y)-n+1:=by rw[bR];omega
 have v3:IntKind.u64.wrap ((y d:Y)-(n:Y)+1)=(y d:Y)-n+1:=by rw[dY];omega
 have v4:((y d:Y)-(n:Y)+1==0)=bD:=by rw[nD];omega
 have v5:(0:Y).tmod ((y d:Y)-(n:Y)+1)=0:=Int.zero_tmod _;go_wp2_with fail
 go_quiet(fail)
 rename_i nq;have v6:IntKind.i64.wrap ((n:Y)+0)=(n:Y):=by rw[bR];omega
 have v7:(0:Y)<=(n:Y):=U;have v8:(n:Y)<=(u:Y):=U;go_wp2_with fail
 rename_i KK bk;obtain⟨n9,hU⟩:=og<|w2.drewN nq;have tU:I aC w2 n9:=by rw[<-hU];exact gO _ _ _
 have bg:=(tU.A c (az a2) id).trans a2;rw[hU];have w:bA n9.drew (X c 0)=M (bX g 0 (y d) u)/\bA n9.drew (X c 1)=M (ay n)/\iH n9.drew (X c 0)=bD:=⟨aX bg 0,aX bg 1,cV (i:=0) bg⟩;refine cX (λj4=>bA j4 (X c 0)=M (bX g 0 (y d) u)/\bA j4 (X c 1)=M (ay n)/\iH j4 (X c 0)=bD) 14 aH ?_;refine dH 0 ?_;iterate 11 (refine fW w ?_;simp only[ig,eh,fT,jZ])
 refine vf (v:=bX g 0 n u) w z aH wO z ?_ ?_;(.rintro j4⟨z0,z1,z2⟩;(have x:(Instr.sliceAt 31 (bX g 0 (y d) u) dE (M<|ay n) dE).run bN j4=.ok (bX g 0 n u) j4:=by go_simp);show(execOp _ _).run _ _=_;(have v9:IntKind.i64.wrap (n:Y)=(n:Y):=by rw[bR];omega);simp[execOp,Act.eval,v9,x,Result.andThen]);simp only[ig,eh,fT,jZ];apply eS;refine aW 12 ?_;intro dd N;go_simp;refine N _ _ (λ_=>w) ?_;try simp only[ig,eh,fT]
 clear N;refine aW 13 ?_;intro dk O;go_simp;refine O _ _ (λ_=>w) ?_;try simp only[ig,eh,fT]
 clear O;refine aW 14 ?_;intro K1 bi;go_simp;refine bi _ _ wW ?_;try simp only[ig,eh,fT]
 clear bi w;refine dG aH ?_ _;show KK _ _;apply bk;clear bk;obtain⟨bL,hV⟩:=og<|(cP n9 (X c 0)<|bX g 0 n u).drew;have tV:I (λk=>k=c) n9 bL:=by rw[<-hV];exact((fJ n9 c 0 _)).t<|cf aC _
 have ba:bL.heap[c]?=M (aK #[bX g 0 n u,ay n] 93 (0,0)):=by rw[<-hV];exact(aY bg).trans z
 rw[hV];have cM:G (H w2)=G (H a)+2:=U;have aD:c≠b:=j.1;have cB:=tU.D;have t:bL.heap[b]?=M (aK #[.map<|M<|G<|H a,.map<|M K.sb,aF,ay K.fx.d,ay 0,ay 0,ay K.fx.L,ay K.fx.f] 89 (0,0)):=(tV.A b U<|λf=>aD<|Eq.symm f).trans<|(tU.A b U id).trans an;have mN:∀bv x,iO (bL.setCell (X c bv) x) (G<|H a) []:=λbv x=>by have m0:=(ag B).aA i id;have m2:=m0.aA p (λf=>by have D:G (H a)=G (H a)+1:=f;omega);have m3:=(m2.aA tU id).aA tV (λf=>by have D:G (H a)=c:=f;exact(ag B).pZ F D.symm);exact m3.aA (fJ bL c bv x) (λf=>by have D:G (H a)=c:=f;exact(ag B).pZ F D.symm)
 have y0:=aX ba 0;have y1:=aX ba 1;have z1:=cV (i:=1) ba;have x0:=aX t 0;have ce:=ak mN;clear mN
 go_wp2_with(first
  |(at_mapUpdate;go_loud(refine zr _ z _ _ _ 86 z 9 90 underlying86 underlying9 (G (H a)) [] z (ce 1 (ay n)) pk _ z z ?_;intro w5 br bp;have cd:=ak br;have cc:=ak bp;clear br bp)))
 have tS:I (λk=>k=c) bL (bL.setCell (X c 1)<|ay n):=fJ bL c 1 _;have t5:I (λk=>k=G (H a)) (bL.setCell (X c 1)<|ay n) w5:=gH cc;have r:I (λk=>k=c\/k=G (H a)) w2 w5:=(((tU.aT (T:=λk=>k=c\/k=G (H a)) cY).aj tV<|λ_ q=>J<|J q).aj tS<|λ_ q=>J<|J q).aj t5<|λ_ q=>J<|bj q;have ax:c≠K.sb:=ad.pZ F;have E:G (H a)≠K.sb:=λf=>bP<|(ag HD).D.lt;have bt:c≠G (H a):=B.pZ F;have bq:K.sb<G (H a):=(ag HD).D.lt;have g5:qf w5 K.sb (G (H a)+1) [(pk,lk<|M c)] []:=V.qR (r.A _ U<|λq=>q.elim (λf=>ax f.symm)<|λf=>E f.symm)<|r.A _ U<|λq=>q.elim (λf=>U)<|λf=>U;have HG:=ak g5;have cx:=r.D;have bE:I (λk=>k=b\/k=c) a w5:=((((ch.aT (T:=λk=>k=b\/k=c)<|λ_ q=>J<|J q).t i).aj p<|λk f=>bj (by have D:k=G (H a)+1:=f;omega))).aj r<|λk q=>q.elim (λf=>J<|bj f)<|λf=>bj U
 have Q:∃C bT,pR a w5 b K C/\C.ah=[⟨pk,c,bT,d.take n,n⟩]/\C.l=[]:=by
  have hH:=ag HD;have ap:(⟨pk,c,bX g 0 (y d) u,d,n⟩:dj)∈K.ah:=by rw[hf];simp
  have av:=hH.ah _ ap;have dn:g≠c:=λf=>ud av.2.1 av.1 cg (by show M g=M c;rw[f]);have db:g<G (H s):=(q2.lt g z).2;have dc:g<G (H a):=(av.2.1.lt g z).2;have tt:I (λk=>k=c\/k=G (H a)\/k=G (H a)+1) s w5:=((i.aT (T:=λk=>k=c\/k=G (H a)\/k=G (H a)+1) cY).aj p<|λ_ q=>J<|bj<|bj q).aj r<|λ_ q=>J<|q.elim J<|λq=>bj<|J q;refine⟨{K with nb:=G<|H a,mv:=aF,ah:=[⟨pk,c,bX g 0 n u,d.take n,n⟩],l:=[],qN:=[],fx:={K.fx with wt:=0,bd:=0}},bX g 0 n u,⟨⟨?_,cd,?_,E,ct _ _ _ _,ar,?_,ar,⟨ar,ar⟩,?_,hH.v,ar,ar,.nil⟩,?_,?_,⟨λ_=>⟨ar,ar⟩,rfl,λ_=>rfl,rfl⟩⟩,rfl,rfl⟩
  .exact(t5.A b (by rw[gJ];exact az t) (λf=>by have D:b=G (H a):=f;omega)).trans<|(tS.A b (az t)<|λf=>aD<|Eq.symm f).trans t
  .have:=ad.aA tt (λq=>by obtain f|f|f:=q;exact ax f.symm;exact E f.symm;omega);exact this
  .intro ds x;simp at x;subst x;refine⟨?_,?_,λbT hx=>q3.1 bT<|ix hx,ar,by simp;omega,by simp;omega⟩
   .exact(t5.A c (by rw[gJ];exact az ba)<|λf=>bt f).trans<|(aY ba).trans z
   .have ho:=tt.aZ q2 (λk hk q=>by
     have dr:g=k:=by simpa[cN]using hk
     obtain f|f|f:=q<;>omega)
    exact Yu ho W
  .have h1:=hH.d;rw[hf]at h1;simp[ft]at h1|-;omega
  .exact bE.aT (λk q=>J (by
    obtain rfl|rfl:=q
    .exact J z
    .exact bj (bj (bj (bj (bj ⟨_,gX _ ap,J z⟩))))))
  .rintro k(f|f|f|f|⟨g9,hy,_⟩|⟨ds,x,f⟩)
   .exact J<|J f
   .exact bj (by have D:k=G (H a):=f;omega)
   .exact J<|bj<|bj<|J f
   .cases f
   .cases hy
   .simp at x;subst x;refine J<|bj<|bj<|bj<|bj<|bj ⟨_,gX _ ap,?_⟩;obtain f|f:=f
    .exact J f
    .exact bj<|by simpa[cN]using f
 have bc:=ak Q;clear Q bE cx g5 bq bt E ax r t5 tS y0 y1 z1 x0 t cB aD cM ba tV hV bg tU hU v1 v2 v3 v4 v5 v6 v7 v8 a2 an p cm bm V bo cu o a1 cT i F q2 q3 z0 j c0 c1 c2 c4 c5 f0 f2 f4 f5 cr bs cn bl hm hs hf co aa hl W cv cs;rw[im]
 go_wp2_with(first
  |(at_next;refine oq _ z _ z K.sb (G (H a)+1) _ _ z HG ?_ ?_))
 go_end0;obtain⟨C,bT,h1,x,h3⟩:=ag bc;exact⟨z,C,h1,⟨bT,x⟩,h3⟩
def WR:Na:=⟨⟨#[107]⟩,⟨#[118]⟩,bD⟩
def zac:Na:=⟨⟨#[108]⟩,⟨#[119]⟩,bD⟩
def Fq:E:=qe 1 WR
def JY:Fq.Good:=by
 constructor<;>simp[Fq,qe,WR,ByteArray.size]
def TZ{W:Z}{j3:R}(c:Na)(t:TypeId)(f:j3<G (H W)):∀W',I (λk=>k=j3) (dw W<|aK #[aw c.D,aw c.l,aO c.dP] t) W'->FN W' (bX (G<|H W) 0 1 1) [c]:=by
 intro W' g;have b:=jo W<|aK #[aw c.D,aw c.l,aO c.dP] t;have h:=az b;have a:W'.heap[G<|H W]?=_:=(g.A (G<|H W) h U).trans b;refine J ⟨⟨z,bj ⟨G<|H W,0,1,z,aq _,λj u d=>?_⟩⟩,λk e=>by cases e;exact az a⟩;rw[ez,cE a];simpa[gL,oH]using d
def T2(f:Ff):Prop:=f.bd=0/\f.d=1099511627776/\f.l=bD
def T2.no{f:Ff}(h:T2 f):¬Jc f:=by
 let⟨b,c,a⟩:=h;rintro((q|q)|q);rw[a]at q;cases q;omega;omega
def T2.fx{f g:Ff}(h:T2 f)(k:Fx f g):T2 g:=⟨k.bd h.1,k.d.trans h.2.1,k.l.trans h.2.2⟩
structure Xm(w W:Z)(db sb:R)(s:SR)(K:DK)(m:dB)(C N:R):Prop where
 g:cU W sb s 0
 A:Inv False [gW 1] W sb s K m [] [] [] [] C N []
 f:s.d=bD/\s.f=db/\s.D=4
 da:(∀k,K.j db k->G (H w)<=k)/\G (H w)<=sb
 aA:I aC w W
 qt:T2 K.fx
 g0:jO w
section
variable{w W W':Z}{db j3:R}{s:SR}{K:DK}{m:dB}{C N:R}
def Xm.bH(h:Xm w W db j3 s K m C N)(a:I aC W W'):Xm w W' db j3 s K m C N:=by
 have b:gh W W' s.f j3 K K:=nj h.A.st.f a;exact{h with g:=(a.A j3 (az h.g) id).trans h.g,A:=h.A.eQ (az h.g) b rfl (aq _) rfl,aA:=h.aA.t a}
def OM(h:Xm w W db j3 s K m C N)(hC:C<=100)(hN:N<=100)(n:Na){E:ae}(b:eN)(u:gS [n]=0)(hz:n.D.size<=100/\n.l.size<=100)(hc:∀W',I (λe=>e=j3) W W'->FN W' E [n])(v:ft K.ah<=999999000/\s.o<=2/\s.mw=bD/\(s.i=cz->ii K.ah (gW s.l)≠dE)/\(s.i=bD->ii K.ah (gW s.l)=dE)/\(s.k=cz->s.i=cz)):cR bN 15 #[aJ j3,E,aO b] W λO W'=>O=aN ib/\∃l d j c f a,Xm w W' db j3 l d (kS [] m [qe (s.A:Y) n]) (C+1) (N+1)/\((s.i=bD->c=cz)/\(s.i=cz->c=s.x))/\l={s.p j 1 c with k:=f,x:=a}/\(if b then f=bD/\a=bD/\mr (qB s (Yo s [qe (s.A:Y) n])++oZ (s.p j 1 c)) K d else f=cz/\a=c/\mr (qB s<|Yo s [qe (s.A:Y) n]) K d):=by
 let⟨c1,rfl,c3⟩:=h.f;let⟨x1,x2,L,x4,x5,x6⟩:=v;have r:vK [n]=1:=by unfold vK;rw[fV u];rfl
 have T:∀a,I (λe=>K.j s.f e\/e=j3) W a->jO a:=λa p=>h.g0.aA (h.aA.aj p<|λe q=>bj<|q.elim (h.da.1 e)<|λO=>bP h.da.2) id;refine(Bp [] b h.g h.A c1 hc (λaa v=>by rw[bY.1 v];omega) ar U U T<|bj ⟨x1,by rw[c3];simp;omega,L,x4,x5,x6⟩).mono ?_;rintro O W'(⟨rfl,l,d,m',A,B,D,F,i,p⟩|⟨_,_,V⟩);let⟨P,Q,S,g4,g5,g6⟩:=i.bM;let⟨j,c,f,a,q1,q2,q3,q4,q5⟩:=p u ar (by rw[c3];simp;omega) L;(have g:A++B++D++F=[]:=by have:y (A++B++D++F)=0:=q4;exact bG this);simp only[gB]at g;obtain⟨⟨⟨rfl,rfl⟩,rfl⟩,rfl⟩:=g;have t:=i.eQ;have o:=i.A;rw[r]at o;rw[q3]at o;refine⟨by rw[u];rfl,l,d,j,c,f,a,⟨i.g,o,⟨Q.trans c1,P,S.trans c3⟩,⟨λe q=>(t.j e q).elim (h.da.1 e)<|aR h.aA.D,h.da.2⟩,h.aA.aj t.aA<|λe q=>bj<|q.elim (h.da.1 e)<|λO=>bP h.da.2,h.qt.fx t.fx,h.g0⟩,q1,q2,q5⟩;exact(h.qt.no V).elim
end
def YF{w W:Z}{db:R}{K:DK}(c:Pow w)(a:¬K.j db 2)(d:I (K.j db) w W):Tw W (gW 1):=⟨1,cz,U,λV b=>Sh U<|(c.aA d a).aA b id⟩
def G5{s:SR}{K:DK}(b:s.l=1/\s.S=0)(e:fo (vw K.ah) (gW 1)=M (zi 1 [Fq])):S9 s K (λc _=>c=[[Fq]]) False:=have d:(s.A:Y)=1:=(by unfold SR.A;rw[b.2];rfl);(TJ (j4:=True) s K λ_ f a=>by
 rw[b.1,e]at a;rw[d];exact⟨(iK a).symm,λx b=>by rw[bY.1 b];exact⟨JY,z⟩,ar,U,U⟩).aT (λ_ _ h=>h trivial) λh=>h trivial
def Oy{w W:Z}{db:R}{K:DK}(hd:cJ W db K)(o:I aC w W)(b:∀k,K.j db k->G (H w)<=k)(O:Steps w)(u:Pow w)(T:jO w)(i:td w)(B:T2 K.fx)(hm:K.l=[])(x:K.ah=[]\/vw K.ah=[(gW 1,zi 1 [Fq])]):cR bN 10 #[aJ db,ef #[ay 4,ay 2]] W λe W'=>∃s F m,e=aN (de #[aJ<|G (H W)+2,ib])/\Xm w W' db (G (H W)+2) s F m 31 1/\OpX True (λr _=>r=[[Fq]]) K s F m []:=by
 have hz:=o.D;have c:∀k,k<G (H w)->¬K.j db k:=λk a q=>bP<|b k q;have f:∀E p,fo (vw K.ah) E=M p->E=gW 1:=λE p a=>by obtain e|e:=x;rw[e]at a;cases a;rw[e]at a;simp only[fo]at a;split at a;rename_i q;exact q.symm;cases a
 have g:fo (vw K.ah) fj=dE:=by
  cases q:fo (vw K.ah) fj with
  |none=>rfl
  |some p=>exact absurd (f _ _ q).symm<|rY 1
 have h:∀j∈K.ah.map dj.dA,j=gW 1:=λj d=>by rw[<-Nh]at d;let⟨p,a⟩:=ru d;exact f j p a
 have aa:y K.ah<=1:=by obtain e|e:=x;rw[e];simp;have:=cD y e;simp[vw]at this;omega
 have l:Pow W:=u.aA o id;have t:OpL W db K 0:=⟨hd,U,Steps.aA O o id,l,i.aA o id id,c _ O.lt,c _ u.lt,⟨c _ i.lt.1,c _ i.lt.2⟩,λE p a=>f E p a▸wK U,λd b=>by rw[g]at b;cases b⟩;refine(GN (j5:=False) (j4:=[gW 1]) (u7:=True) (m8:=λr _=>r=[[Fq]]) (EX:=False) (mem:=4) (j6:=2) (C0:=0) (C:=31) (N:=0) t U U (by rw[hm];simp;omega) U (λnx lg bt ad p al an hl hi=>?_) U U U ar (λ_=>⟨g,h⟩) (λs K2 L Q=>?_) (bj trivial)<|λ_=>⟨U,λr mw e _=>by rw[e];simp⟩).mono ?_;obtain e|⟨_,e,_⟩:=hl.L;rw[g]at e;cases e;simp only[gB]at e;obtain⟨⟨⟨rfl,rfl⟩,rfl⟩,rfl⟩:=e;exact⟨by simp[ik],λE p a=>J (by rw[f E p a];simp)⟩;obtain e|e:=x;intro j d;rw[L,e]at d;cases d;exact G5 (Q trivial) (by rw[L,e];simp[fo]);rintro e w'(⟨rfl,s,P,m,a1,b1,c1,d1,d⟩|⟨q,rfl,v,_⟩);let⟨rfl,A,D,_,_,S⟩:=d.bM;have:=d.D;have n:=(d.f trivial).1;have V:=d.f;simp only[gB]at n;obtain⟨⟨⟨rfl,rfl⟩,rfl⟩,rfl⟩:=n;have j:I (K.j s.f) W w':=d.eQ.aA.aT<|λk q=>q.elim J<|λg=>bj U;exact⟨s,P,m,z,⟨d.g,d.A,⟨A,z,D⟩,⟨λk q=>(d.j k q).elim (b k)<|λg=>U,U⟩,o.aj j<|λk q=>bj<|b k q,B.fx d.eQ.fx,T⟩,V⟩;exfalso;obtain⟨ac,S,j|j|⟨V,ab,A,D,n⟩⟩|j|j:=v;exact j g;have:=B.1;omega;rw[h ab A]at n;exact n<|YF (l.aA S id) (c _ u.lt) D;exact j;exact B.no j
def VA{K b:DK}{n:af}{d:eD}(h:mr [.cr n,.ap n d,.sy n,.sd] K b)(v:K.ah=[])(A:K.sm=[])(x:K.l=[]):∃l B,b.ah=[⟨n,l,B,d,y d⟩]/\b.sm=[(n,lk<|M l)]/\b.l=[]:=by
 let⟨E,⟨l,P,f,g,o,_⟩,F,⟨Q,B,c,a,i,p⟩,L,⟨D,e,c1,c2,c3⟩,O,⟨q,j,r⟩,t,k,u⟩:=h;rw[v]at f;rw[f]at c a;simp[ii]at c;subst c;simp[pm]at a;rw[a]at e c1;simp[ii]at e;subst e;simp[pm]at c1;simp only[js]at g i c2 j k;refine⟨l,B,by rw[t,q,c1],?_,by rw[u,r]⟩;rw[k.1,j.1,c2.1,c3,i.1,p,g.1,o,A,x];rfl
def Yz{K a:DK}{o:af}{b f:eD}{q:R}{x:ae}(h:mr [.ap o f] K a)(n:K.ah=[⟨o,q,x,b,y b⟩]):∃p,a.ah=[⟨o,q,p,b++f,y b⟩]/\a.sm=K.sm/\a.l=K.l:=by
 let⟨r,⟨F,l,c,d,e,i⟩,j,g,k⟩:=h;rw[n]at c d;simp[ii]at c;subst c;simp[pm]at d;simp only[js]at e g;exact⟨l,by rw[j,d],by rw[g.1,e.1],by rw[k,i]⟩
section
variable{w W W':Z}{db j3:R}{s:SR}{K:DK}{m:dB}{C N:R}
def MF:eD:=zi 1 [Fq]
structure Fr0(s:SR)(K:DK):Prop where
 zdz:s.l=1/\s.S=0/\s.o=0
 flg:s.i=bD/\s.mw=bD/\s.k=bD
 dk:K.ah=[]/\K.sm=[]/\K.l=[]
structure Fr1(s:SR)(K:DK)(b2:eD):Prop where
 zdz:s.l=1/\s.o<=2
 flg:s.i=cz/\s.mw=bD
 dk:∃g x,K.ah=[⟨gW 1,g,x,MF++b2,y MF⟩]/\K.sm=[(gW 1,lk<|M g)]/\K.l=[]
def r8:y MF<=400:=zJ (by simp;exact JY) ar
def YO(h:Xm w W db j3 s K m C N)(hF:Fr0 s K)(u:C<=100)(x:N<=100){cv:ae}(B:∀W',I (λV=>V=j3) W W'->FN W' cv [WR]):cR bN 15 #[aJ j3,cv,aO cz] W λS W'=>S=aN ib/\∃b c F,Xm w W' db j3 b c F (C+1) (N+1)/\Fr1 b c []/\b.o<=1:=by
 let⟨⟨l,n,n3⟩,⟨e,j,t⟩,d,o,p⟩:=hF;refine(OM h u x WR cz z cg B ⟨by rw[d];decide,U,j,λq=>(by rw[e]at q;cases q),λ_=>by rw[d];rfl,λq=>(by rw[t]at q;cases q)⟩).mono ?_;rintro S W'⟨rfl,b,c,L,ln,lb,E,v,⟨f,_⟩,a,D,k,g⟩;obtain rfl:=f e;have A:(s.A:Y)=1:=by unfold SR.A;rw[n];rfl
 have i:Yo s [qe (s.A:Y) WR]=MF:=by unfold Yo;rw[A,n];rfl
 rw[i]at g;have r:qB s MF++oZ (s.p L 1 cz)=[.cr<|gW 1,.ap (gW 1) MF,.sy<|gW 1,.sd]:=by simp[qB,Aj,oZ,SR.p,e,l]
 rw[r]at g;let⟨T,aa,O,P,Q⟩:=VA g d o p;refine⟨z,b,c,_,v,⟨⟨?_,?_⟩,⟨?_,?_⟩,T,aa,by rw[O,eu],P,Q⟩,by rw[a];show s.o+1<=1;omega⟩;rw[a];exact l;rw[a];show s.o+1<=2;omega;rw[a];rfl;rw[a];exact j
def VI(h:Xm w W db j3 s K m C N)(hF:Fr1 s K [])(x:s.o<=1)(p:C<=100)(t:N<=100){cv:ae}(v:∀W',I (λT=>T=j3) W W'->FN W' cv [zac]):cR bN 15 #[aJ j3,cv,aO bD] W λQ W'=>Q=aN ib/\∃d a D k,Xm w W' db j3 d a D (C+1) (N+1)/\Fr1 d a k:=by
 let⟨⟨f,E⟩,⟨e,g⟩,S,aa,b,l,n⟩:=hF;rw[eu]at b;have u:=r8;refine(OM h p t zac bD z cg v ⟨by rw[b];simp[ft];omega,E,g,λ_=>by rw[b,f];simp[ii],λq=>(by rw[e]at q;cases q),λ_=>e⟩).mono ?_;rintro Q W'⟨rfl,d,a,mv,ln,V,B,r,_,c,A,i,j⟩;have o:∀b,qB s b=[.ap (gW 1) b]:=λb=>by simp[qB,Aj,e,f]
 rw[o]at j;let⟨P,F,L,O⟩:=Yz j b;refine⟨z,d,a,_,_,r,⟨?_,?_⟩,⟨?_,?_⟩,S,P,F,L.trans l,O.trans n⟩;rw[c];exact f;rw[c];show s.o+1<=2;omega;rw[c];rfl;rw[c];exact g
def YP{c:eD}(h:Xm w W db j3 s K m C N)(hF:Fr1 s K c):cR bN 16 #[aJ db,bw 0,bw 0] W λj W'=>j=aN (de #[])/\∃a,cJ W' db a/\I aC w W'/\(∀k,a.j db k->G (H w)<=k)/\T2 a.fx/\a.l=[]/\vw a.ah=[(gW 1,MF)]:=by
 let⟨_,_,o,x,d,e,f⟩:=hF;let⟨_,rfl,_⟩:=h.f;refine(WI (n:=y MF) h.A.st.f d e f ⟨z,ar⟩ (by simp[MF,zi,ij,dh];omega)).mono ?_;rintro j W'⟨rfl,a,l,b,g,i⟩;exact⟨z,a,b.ok,h.aA.aj b.aA<|λk q=>bj<|h.da.1 k q,λk q=>(b.j k q).elim (h.da.1 k)<|λm9=>aR h.aA.D m9,h.qt.fx b.fx,i,by rw[g];simp[vw]⟩
def Y9(h:Xm w W db j3 s K (oC [[Fq]]) C N)(a:s.S=1):cR bN 17 #[aJ j3,aw ⟨#[107]⟩] W λe W'=>e=aN (de #[aw ⟨#[118]⟩,aO cz,ib])/\I aC w W':=by
 let⟨b,rfl,_⟩:=h.f;go_call Pu ⟨#[107]⟩ h.g h.A.st b cg as e W'⟨rfl|⟨q,_⟩,f,c,_⟩;refine⟨?_,h.aA.aj c.aA<|λk q=>bj<|q.elim (h.da.1 k)<|λe=>bP h.da.2⟩;(have d:oC [[Fq]]=[Fq]:=by rfl);rw[a,d];rfl;exact absurd z q
end
def VL(hS:Steps a)(hP:Pow a)(hE:jO a)(t:td a):cR bN 4 #[] a λo w'=>o=aN (aO cz)/\I aC a w':=by
 have W:=zO a 1099511627776 bD U;go_in
 go_wp21;go_call W as o W1⟨rfl,O,C⟩;have t1:I aC a W1:=I.p C;have Q:∀aD,(vz (G<|H a) 1099511627776 bD).j (G (H a)+2) aD->G (H a)<=aD:=λaD q=>by obtain an|an|an|an|⟨ba,hx,an⟩|⟨aV,hg,an⟩:=q;omega;have:aD=G (H a):=an;omega;have:aD=G (H a)+1:=an;omega;cases an;cases hx;cases hg
 have b:=Oy O t1 Q hS hP hE t ⟨z,z,z⟩ z<|J z;clear W O C t1 Q;go_wp21;go_call b as o W2⟨s2,K2,m2,rfl,i,A⟩;let⟨_,x1,_,_,⟨y1,y2,y3⟩,x5⟩:=A trivial;have u:Fr0 s2 K2:=by obtain⟨_,_,z2,z3,z4,z5,z6⟩|⟨_,_,_,m9,_⟩:=x5;exact⟨⟨x1,z3,z2⟩,⟨z4,z5,z6⟩,y1,cD (·.1) y2,y3⟩;exact absurd z m9
 let⟨j3,n⟩:∃j3,G (H W1)+2=j3:=⟨_,rfl⟩;rw[n]at i;rw[n];have:∀a:Z,(binOp .eql 36 (aJ j3)<|ee dE).run bN a=.ok (aO bD) a:=λ_=>rfl;clear A x1 y1 y2 y3 x5 b n;go_wp21;go_call ow W2 as o W3⟨rfl,D⟩;have j:=i.bH<|show I aC W2 W3 from I.p D;have ad:=YO (j.bH<|cI aC W3) u U U (cv:=bX (G<|H W3) 0 1 1)<|TZ WR 66<|az j.g;clear D i u j;go_wp21;go_call ad as o W4⟨rfl,s4,K4,m4,k,v,L⟩;have al:=VI (k.bH<|cI aC W4) v L U U (cv:=bX (G<|H W4) 0 1 1)<|TZ zac 66<|az k.g;clear ad k v L;go_wp21;go_call al as o W5⟨rfl,s5,K5,m5,b5,x,w⟩;have N:=YP x w;clear al x w;go_wp21;go_call N as o W6⟨rfl,K6,P,ab,f,aa,V,ac⟩;have b:=Oy P ab f hS hP hE t aa V<|bj ac;clear N P ab f aa V;go_wp21;go_call b as o W7⟨s7,K7,m7,rfl,l,B⟩;let⟨_,_,_,_,_,x5⟩:=B trivial;have av:m7=oC [[Fq]]/\s7.S=1:=by obtain⟨m9,_⟩|⟨g8,mw,rfl,_,_,z1,_,z2,_⟩:=x5;rw[ac]at m9;simp[fo]at m9;exact⟨z1,z2⟩
 obtain⟨rfl,E⟩:=av;let⟨ax,m⟩:∃s7,G (H W6)+2=s7:=⟨_,rfl⟩;rw[m]at l;rw[m];have:∀a:Z,(binOp .eql 36 (aJ ax)<|ee dE).run bN a=.ok (aO bD) a:=λ_=>rfl;have e:=λb(a:I aC W7 b)=>Y9 (l.bH a) E;clear l B x5 b m E;go_wp21;go_call ow W7 as o W8⟨rfl,F⟩;have r:=ak<|show I aC W7 W8 from I.p F;clear F;go_wp21;go_call ow W8 as o W9⟨rfl,K⟩;have s:=ak<|show I aC W7 W9 from(ag r).t<|I.p K;clear K;go_wp21;go_call ow W9 as o ao⟨rfl,c⟩;have T:=e ao<|(ag s).t<|I.p c;clear c e r s;go_wp21;go_call T as o ap⟨rfl,g⟩;clear T;go_wp21;go_call ow ap as o aU⟨rfl,d⟩;have p:=ak<|g.t<|I.p (S:=aC) d;clear d g;go_wp2;go_ret;exact⟨z,p⟩
def Zm:(prog.info? 204).map (λi=>(i.zero,i.size,i.bytes))=M (M<|ef #[aO bD,aF],2,32):=aH
def Lh(pb:Option R){bL:kV}(g:cy ut)(h:tX a b pb bL bD d)(hn:Qu a d g)(h4:xJ g<4)(ho:fD a c 204 2 d (y g) (IH g))(O:c<=G (H a))(aU:cN d≠M b)(aD:yP a d):cR bN 41 #[aJ b] a λac w'=>ac=aN (de #[ay<|(y g:Y)+1,ay 0])/\∃bx f,cN bx=pb/\mE a bx bL/\w'.heap[b]?=M (aK #[bx,f,aO bD] 54 (0,0))/\fD w' c 204 2 f (y<|g++[(⟨cz,bx,bL⟩:ut)]) (IH<|g++[(⟨cz,bx,bL⟩:ut)])/\I (λK=>K=b\/cN d=M K) a w'/\yP w' f/\(cN f=cN d\/∃bg,cN f=M bg/\G (H a)<=bg):=by
 let⟨i0,bm,bs,bt,bv⟩:=cZ Zm;let⟨⟨bx,hh,hp,bb⟩,_,_⟩:=h;have ap:=aX hh 0;have av:=aX hh 1;have:=aX hh 2;have V:b<G (H a):=az hh;have:=hn.f;let⟨o,n,m,bq⟩:∃x a bE,bx=am x a bE:=by obtain ac|⟨bf,e,L,ac⟩:=hp.fR;(grind);grind
 let⟨A,x,bp⟩:=aM ho
 have HC:=ak (show∀bf e L,d=bX bf e (y g) L->∀bd(b:bd<y g),bA a (X bf<|e+bd*2)=M (aO g[bd].f)fromλbf e L ac bd b=>by
  obtain⟨q,_⟩|⟨b',bc,ab,q,bo,bl⟩:=hn.bV.2
  .rw[q]at ac;cases ac
  grind[Cu])
 have bi:=ak (show 0<y g->∃bf e,A=M (X bf e)fromλhp=>by
  obtain⟨_,q⟩|⟨b',bc,ab,q,bo,bl⟩:=hn.bV.2
  .omega
  grind)
 let⟨HH,HO,HP,HN,HK,bh⟩:=nT hh ho (And.intro bb hp) aU aD (show∀K,cN d=M K->K<G (H a)fromλK P=>(ho.lt K P).2);clear hh hp bb hn ho aU aD;subst bq bp;go_in
 go_wp2;go_loopw [4,5] (λbE bd wr=>∃B:R,B<=y g/\bd=ay B/\bE=ay (xJ (g.take B):R)/\wr=a) (λ_ bd _=>y g-(intOf bd).toNat)
 exact⟨0,bQ _,z,z,z⟩
 .obtain⟨B,hj,rfl,rfl,cd⟩:=hrel;subst wr;by_cases u:B<y g
  .let⟨bf,e,j⟩:=bi U;have l:=HC bf e x (by rw[j]) B u;subst j;have i:=Hg (g.take B) g[B];rw[<-aG u]at i;have k:=Hh<|g.take B;have:(B:Y)<(y g:Y):=U;generalize xJ (g.take B)=q at*;have:q<=1000000000:=by rw[dX]at k;omega
   have:IntKind.i64.wrap ((q:Y)+1)=(q:Y)+1:=by rw[bR];omega
   clear k;cases hl:g[B].f with
   |true=>
    rw[hl]at l i;go_wp2;go_roundw
    .exact⟨B+1,u,dM,by rw[i];simp,trivial⟩
    .simp[intOf];omega
   |false=>
    rw[hl]at l i;go_wp2;go_roundw
    .exact⟨B+1,u,dM,by rw[i];simp,trivial⟩
    .simp[intOf];omega
  .have bn:B=y g:=U;subst bn;rw[cQ]at*;have:¬((4:Y)<=(xJ g:Y)):=U;go_wp21;rename_i QQ KK an;have ao:bA a.drew (X b 1)=M (am A (y g) x)/\bA a.drew (X b 0)=M (am o n m):=⟨av,ap⟩;refine cX (λj4=>bA j4 (X b 1)=M (am A (y g) x)/\bA j4 (X b 0)=M (am o n m)) 14 aH ?_;refine dH 0 ?_;iterate 10 (refine fW ao ?_;simp only[ig,eh,fT,jZ])
   apply eS;refine aW 10 ?_;intro K1 ad;go_simp;let⟨W1,s⟩:∃W1,(dw a<|aK #[aO cz,am o n m] 204).drew=W1:=⟨_,rfl⟩;have i:I aC a W1:=s▸(cI aC a).df z;have aV:∀B bT,[aO cz,am o n m][B]?=M bT->bA W1 (((X (G<|H a) 0):Addr).add B)=M bT:=s▸Kp a [aO cz,am o n m] _;have ba:=i.aZ HO<|λ_ _ q=>q;have bk:c<=G (H W1):=aR O i.D;have:=i.D;rw[s];refine ad _ _ (λ_=>⟨i.u av id V,i.u ap id V⟩) ?_;try simp only[ig,eh,fT]
   clear ad s;refine aW 11 ?_;intro K2 al;try simp only[dl,cF,cO]
   refine xF (.tmp 35) (.tmp 41) 52 z c 204 i0 (ef #[aO bD,aF]) 2 32 underlying52 bm bs bt bv z cg (am A (y g) x) (y g) (IH g) z ba (X (G<|H a) 0) 1 1 [aO cz,am o n m] z z aV (by simp[Value.oneCell']) U U bk U (by intro bT hu;simp[Value.cells]at hu;obtain rfl|rfl:=hu;exact J ⟨_,z⟩;exact bj ⟨_,_,_,z⟩) (by intro bT hu;simp at hu;obtain rfl|rfl:=hu;exact J ⟨_,z⟩;exact bj ⟨_,_,_,z⟩) (HK.aA i (λ_ _=>id) bh) ?_;intro f p v w ax;have W:=I.fU w;have k:p.heap[b]?=M (aK #[am o n m,am A (y g) x,aO bD] 54 (0,0)):=(W.A b U HN).trans<|(i.A b V id).trans HH;have r:bA p (X b 1)=M (am A (y g) x)/\bA p (X b 0)=M (am o n m):=⟨by rw[cE k];rfl,by rw[cE k];rfl⟩;have:=cV (i:=1) k;have l:cN f≠M b:=λq=>by
    obtain ac|⟨bg,ac,hg⟩:=w.f
    .exact HN<|ac▸q
    grind
   have t:(cP p (X b 1) f).heap[b]?=M (aK #[am o n m,f,aO bD] 54 (0,0)):=(aY k).trans z;have Q:yP (cP p (X b 1) f) f:=ax.aA (fJ p b 1 f) (λK P bE=>l (by rw[P];grind))<|λK P=>(v.lt K P).2;have S:=(fJ p b 1 f).aZ v<|λK P bE=>l (by rw[P];grind);have aa:I (λK=>K=b\/cN (am A (y g) x)=M K) a (cP p (X b 1) f):=((i.aT (T:=λK=>K=b\/cN (am A (y g) x)=M K) cY).aj W<|λ_ q=>J<|bj q).aj (fJ p b 1 f)<|λ_ q=>J<|J q;have F:cN f=cN (am A (y g) x)\/∃bg,cN f=M bg/\G (H a)<=bg:=w.f.imp id<|λ⟨bg,ac,hg⟩=>⟨bg,ac,U⟩;let⟨x2,c2,br⟩:=aM v;subst br;let⟨W3,N⟩:∃W3,cP p (X b 1) (am x2 (y g+1) c2)=W3:=⟨_,rfl⟩;rw[N]at t S aa Q;have:=aX t 1;have j:=ak<|And.intro t (And.intro S (And.intro aa (And.intro Q F)));refine al _ _ (λ_=>r) ?_;try simp only[ig,eh,fT]
   clear al v w ax W k l t S aa Q F ao i aV ba;refine aW 12 ?_;intro ca C;go_simp;refine C _ _ (λ_=>r) ?_;try simp only[ig,eh,fT]
   clear C;refine aW 13 ?_;intro cb D;go_simp;refine D _ _ (λ_=>r) ?_;try simp only[ig,eh,fT]
   clear D;refine aW 14 ?_;intro cc E;go_simp;try rw[N]
   refine E _ _ wW ?_;try simp only[ig,eh,fT]
   clear E N r;refine dG aH ?_ _;show KK _ _;apply an;clear an;go_wp2;go_ret2
   refine⟨ar,am o n m,_,HP.1,HP.2,j.1,?_,j.2.2⟩;rw[XY,ai];exact j.2.1
abbrev Sns:=cy<|Option kV
def ut.D(x:ut):Option kV:=if x.f then M x.l else dE
abbrev LC:=kV×Sns
abbrev PB:=Option R×ae
theorem tX.aA{S:fB}{w w':Z}{c:R}{a:Option R}{l:kV}{g:eN}{u:ae}(h:tX w c a l g u)(o:I S w w')(D:¬S c)(E:∀A,a=M A->¬S A):tX w' c a l g u:=by
 let⟨⟨V,q,P,p⟩,k,j⟩:=h;exact⟨⟨V,(o.A c (az q) D).trans q,o.bV P<|λQ t=>⟨E Q<|p▸t,j Q<|p▸t⟩,p⟩,k,λA L=>au (j A L) o.D⟩
def Xd(a:PB)(e:cy ut)(k:R):Prop:=a.1=M k\/cN a.2=M k\/∃x∈e,x.f=cz/\cN x.v=M k
structure Fv(n0:R)(W:Z)(c:R)(a:PB)(l:LC)(d:eN)(e:cy ut):Prop where
 eK:tX W c a.1 l.1 d a.2
 f:Qu W a.2 e
 aZ:fD W n0 204 2 a.2 (y e) (IH e)
 L:yP W a.2
 D:e.map ut.D=l.2
 dL:∀x∈e,y x.l<=1000000
 nY:∀k,cN a.2=M k->k≠c/\a.1≠M k/\∀x∈e,x.f=cz->cN x.v≠M k
section
variable{n0 c:R}{W W':Z}{a:PB}{l:LC}{d r:eN}{e:cy ut}{S:fB}
theorem Fv.re{t:Option R}{s:kV}(h:Fv n0 W c a l d e)(g:I S W W')(p:tX W' c t s r a.2)(j:∀k,(cN a.2=M k\/∃x∈e,x.f=cz/\cN x.v=M k)->¬S k)(o:t=a.1\/∀u,t=M u->G (H W)<=u):Fv n0 W' c (t,a.2) (s,l.2) r e where
 eK:=p
 f:=⟨g.bV h.f.bV<|λk b=>⟨j k<|J b,(h.aZ.lt k b).2⟩,λx p o=>⟨g.bV (h.f.bZ x p o).1<|λk b=>⟨j k<|bj ⟨x,p,o,b⟩,(h.f.bZ x p o).2 k b⟩,λu w=>au ((h.f.bZ x p o).2 u w) g.D⟩,h.f.fR,h.f.f⟩
 aZ:=g.aZ h.aZ<|λk b=>j k<|J b
 L:=h.L.aA g (λk b=>j k<|J b)<|λk b=>(h.aZ.lt k b).2
 D:=h.D
 dL:=h.dL
 nY:=λk b=>⟨(h.nY k b).1,λg=>o.elim (λq=>(h.nY k b).2.1<|q▸g)<|λq=>gV (q k g)<|(h.aZ.lt k b).2,(h.nY k b).2.2⟩
theorem Fv.aA(h:Fv n0 W c a l d e)(j:I S W W')(o:¬S c)(g:∀k,Xd a e k->¬S k):Fv n0 W' c a l d e:=h.re j (h.eK.aA j o<|λt p=>g t<|J p) (λk q=>g k<|bj q)<|J z
theorem Fv.lt(h:Fv n0 W c a l d e)(k:R)(g:Xd a e k):k<G (H W):=by
 obtain q|q|⟨x,o,j,q⟩:=g;exact h.eK.lt k q;exact(h.aZ.lt k q).2;exact(h.f.bZ x o j).2 k q
end
def IsS(g:ae):Prop:=∃x f b,g=am x f b
structure LG(j5:Prop)(j4:cy af)(w0 W:Z)(n db sb c:R)(a:PB)(m i:ae)(O:cy (R×Obj))(F:fB)(C N:R)(e:cy ut)(l:LC)(d:eN):Prop where
 g:W.heap[n]?=M (aK #[aJ db,aJ sb,aJ c,ay 0,ay 0,m,i] 57 (0,0))
 eK:Fv (G<|H w0) W c a l d e
 Cr:Ba j5 j4 W db sb C N F
 cK:y l.2<=N
 S:IsS m/\IsS i
 aA:I aC w0 W
 da:(∀k,F k->G (H w0)<=k/\k<G (H W))/\G (H w0)<=c/\G (H w0)<=n
 o:¬F n
 L:¬F c
 f:∀k,Xd a e k->¬F k/\k≠n/\k≠c
 oD:∀p∈O,W.heap[p.1]?=M p.2/\¬F p.1/\p.1≠n/\p.1≠c/\¬Xd a e p.1
 ne:n≠c
 g0:Steps w0/\Pow w0/\jO w0
section
variable{j5:Prop}{j4:cy af}{w0 W W':Z}{n db j3 c x:R}{a v:PB}{m i out' want':ae}{O:cy (R×Obj)}{F S:fB}{C C' N N':R}{e B:cy ut}{l s:LC}{d r:eN}
theorem LG.nV(h:LG j5 j4 w0 W n db j3 c a m i O F C N e l d):jO W:=h.g0.2.2.aA h.aA id
theorem LG.D(h:LG j5 j4 w0 W n db j3 c a m i O F C N e l d):j3≠0/\¬F 0:=by
 have:0<G (H w0):=cA _ _ h.g0.2.2;have:=(h.da.1 j3 h.Cr.j).1;exact⟨U,λb=>bP<|(h.da.1 _ b).1⟩
theorem Ba.lt(h:Ba j5 j4 W db j3 C N F):∀k,F k->k<G (H W):=by
 obtain⟨D,K,V,L,b,P,Q,E,rfl,t,g,A,o,j⟩|⟨D,f,rfl,g⟩:=h;rintro k((q|q)|q);exact j.st.f.lt k q;rw[q];exact az o;let⟨b,u,_,p⟩:=j.f.ex;rw[u]at q;cases q;exact p.lt;rintro k q;rw[q];exact az g.g
theorem LG.Aq(h:LG j5 j4 w0 W n db j3 c a m i O F C N e l d)(D:FO j5 j4 W W' db j3 C' N' F)(A:N<=N'):∃F',LG j5 j4 w0 W' n db j3 c a m i O F' C' N' e l d:=by
 let⟨F',o,g,p⟩:=D;have b:∀k,k<G (H W)->¬F k->W'.heap[k]?=W.heap[k]?/\¬F' k:=λk b f=>⟨g.A k b f,λm9=>(p k m9).elim f<|λq=>U⟩;have t:=b n (az h.g) h.o;have L:=b c (by obtain⟨⟨V,E,_⟩,_⟩:=h.eK.eK;exact az E) h.L;refine⟨F',t.1.trans h.g,h.eK.aA g h.L<|λk q=>(h.f k q).1,o,aR h.cK A,h.S,h.aA.aj g<|λk q=>bj (h.da.1 k q).1,⟨λk q=>⟨?_,o.lt k q⟩,h.da.2⟩,t.2,L.2,λk q=>⟨(b k (h.eK.lt k q) (h.f k q).1).2,(h.f k q).2⟩,λw K=>?_,h.ne,h.g0⟩;exact(p k q).elim (λm9=>(h.da.1 k m9).1)<|λm9=>bP h.aA.D;let⟨j,u,P,Q,T⟩:=h.oD w K;(have f:w.1<G (H W):=by by_cases q:w.1<G (H W);exact q;rw[jF U]at j;cases j);exact⟨(b w.1 f u).1.trans j,(b w.1 f u).2,P,Q,T⟩
end
def zcu(W:Z)(x:R):Prop:=∃g t h,W.heap[x]?=M (aK g t h)/\t≠157
section
variable{j5:Prop}{j4:cy af}{w0 W W':Z}{d db j3 e x:R}{f m:PB}{c a out' want':ae}{O:cy (R×Obj)}{F S:fB}{C C' N N':R}{i n:cy ut}{l o:LC}{b k:eN}
theorem Ba.zbp(h:Ba j5 j4 W db j3 C N F)(r:I S W W')(hF:∀x,S x->¬F x)(u:∀x,S x->zcu W x)(v:∀w K,cJ W db K->cU W j3 w 0->∀x,S x->QJ W x)(E:¬S 1/\¬S 2):Ba j5 j4 W' db j3 C N F:=by
 obtain⟨w,K,ac,Q,T,P,aa,L,rfl,j,s,t,A,B⟩|⟨w,ab,rfl,s⟩:=h;have p:=v w K (j▸B.st.f) A;exact J ⟨w,K,ac,Q,T,P,aa,L,z,j,s,t,A.aA r<|λm9=>hF j3 m9<|J<|bj z,B.mB r (λx g=>⟨(p x g).lt,λm9=>hF x g<|J<|J m9,λm9=>hF x g<|J<|bj m9⟩) p E⟩;refine bj ⟨w,ab,z,s.A r (λm9=>hF j3 m9 z)<|λq P p=>p.aA r<|λm9=>?_⟩;let⟨D,p,_⟩:=p;let⟨V,ad,fr,g,t⟩:=u q m9;rw[p]at g;cases g;exact t z
theorem LG.t(h:LG j5 j4 w0 W d db j3 e f c a O F C N i l b)(g:∀x,S x->G (H w0)<=x):¬S 1/\¬S 2:=by
 have:=h.g0.1.lt;have:=h.g0.2.1.lt;exact⟨λm9=>bP<|g _ m9,λm9=>bP<|g _ m9⟩
theorem LG.bH(h:LG j5 j4 w0 W d db j3 e f c a O F C N i l b)(j:I aC W W'):LG j5 j4 w0 W' d db j3 e f c a O F C N i l b:=by
 have:=j.D;refine{h with g:=(j.A _ (az h.g) id).trans h.g,eK:=h.eK.aA j id<|λ_ _=>id,Cr:=h.Cr.mB j cY cY ⟨id,id⟩,aA:=h.aA.t j,da:=⟨λv q=>⟨(h.da.1 v q).1,bP<|(h.da.1 v q).2⟩,h.da.2⟩,oD:=λu s=>?_};let⟨r,t⟩:=h.oD u s;have p:u.1<G (H W):=by by_cases q:u.1<G (H W);exact q;rw[jF U]at r;cases r
 exact⟨(j.A _ p id).trans r,t⟩
theorem LG.wbO(h:LG j5 j4 w0 W d db j3 e f c a O F C N i l b):zcu W d/\∀D K,cJ W db K->cU W j3 D 0->QJ W d:=by
 refine⟨⟨_,_,_,h.g,cg⟩,λD K t s=>⟨_,_,_,h.g,⟨cg,cg⟩,J λE q=>?_,λq p=>?_⟩⟩;let⟨⟨A,v,c1,g⟩,B,w,c2,j⟩:=h.S;rw[g,j]at q;simp at q;let⟨⟨A,v,c1,g⟩,B,w,c2,j⟩:=h.S;rw[g,j]at p;simp at p;obtain⟨⟨L,u,_⟩,_⟩:=h.eK.eK;obtain r|r|r:=p;rw[r];exact⟨_,_,_,t.S,cg⟩;rw[r];exact⟨_,_,_,s,cg⟩;rw[r];exact⟨_,_,_,u,cg⟩
theorem LG.zem(h:LG j5 j4 w0 W d db j3 e f c a O F C N i l b)(p:I (λr=>r=d) W W')(A:W'.heap[d]?=M (aK #[aJ db,aJ j3,aJ e,ay 0,ay 0,out',want'] 57 (0,0)))(t:IsS out'/\IsS want'):LG j5 j4 w0 W' d db j3 e f out' want' O F C N i l b:=by
 have T:=p.D;have v:=h.wbO;refine{h with g:=A,S:=t,eK:=h.eK.aA p (λj=>h.ne j.symm)<|λr q j=>(h.f r q).2.1 j,Cr:=h.Cr.zbp p (λx j=>by rw[show x=d from j];exact h.o) (λx j=>by rw[show x=d from j];exact v.1) (λV Q L P x j=>by rw[show x=d from j];exact v.2 V Q L P)<|h.t (λx j=>by rw[show x=d from j];exact h.da.2.2),aA:=h.aA.aj p<|λr j=>bj (by rw[show r=d from j];exact h.da.2.2),da:=⟨λr q=>⟨(h.da.1 r q).1,bP<|(h.da.1 r q).2⟩,h.da.2⟩,oD:=λK B=>?_};let⟨u,D,w,E⟩:=h.oD K B;have s:K.1<G (H W):=by by_cases q:K.1<G (H W);exact q;rw[jF U]at u;cases u
 exact⟨(p.A _ s w).trans u,D,w,E⟩
theorem LG.pM{g:cy (R×Obj)}(h:LG j5 j4 w0 W d db j3 e f c a O F C N i l b)(q:∀p∈g,p∈O):LG j5 j4 w0 W d db j3 e f c a g F C N i l b:={h with oD:=λp j=>h.oD p (q p j)}
theorem LG.sN(h:LG j5 j4 w0 W d db j3 e f c a O F C N i l b)(s:I aC W W'){g:R}{t:Obj}(u:G (H W)<=g)(q:W'.heap[g]?=M t):LG j5 j4 w0 W' d db j3 e f c a ((g,t)::O) F C N i l b:=by
 have h':=h.bH s;refine{h' with oD:=λv r=>?_};obtain j|j:=dy.1 r;rw[j];obtain⟨⟨w,p,_⟩,_⟩:=h.eK.eK;have:=az h.g;have:=az p;exact⟨q,λm9=>bP<|(h.da.1 g m9).2,U,U,λm9=>bP<|h.eK.lt g m9⟩;exact h'.oD v j
end
section
variable{j5:Prop}{j4:cy af}{w0 W W':Z}{m db j3 a x:R}{d f:PB}{e c out' want':ae}{O:cy (R×Obj)}{F S:fB}{C C' N N':R}{n k:cy ut}{l o:LC}{i b:eN}
theorem Fv.R5{A:R}(h:Fv A W a d l i n)(j:x=a\/cN d.2=M x):QJ W x:=by
 obtain rfl|j:=j;let⟨⟨L,t,v,w⟩,_,_⟩:=h.eK;have p:=v.fR;let⟨E,D,r⟩:=aM h.aZ;rw[r]at t;refine⟨_,_,_,t,⟨cg,cg⟩,J λK q=>?_,λq u=>?_⟩;obtain rfl|⟨g,B,s,rfl⟩:=p<;>simp at q;grind
 let⟨w,r⟩:=fZ h.aZ j;have t:=h.L _ _ _ _ j r;refine⟨_,_,_,r,⟨cg,cg⟩,J λK q=>?_,λq u=>?_⟩;obtain⟨g,p⟩|⟨v,g,s,p⟩:=t _ q<;>cases p;obtain⟨g,p⟩|⟨v,g,s,p⟩:=t _ u<;>cases p
theorem LG.RJ(h:LG j5 j4 w0 W m db j3 a d e c O F C N n l i)(s:I (λp=>p=a\/cN d.2=M p) W W')(P:Fv (G<|H w0) W' a f o b k)(w:∀p,Xd f k p->Xd d n p\/G (H W)<=p)(E:y o.2<=N):LG j5 j4 w0 W' m db j3 a f e c O F C N k o b:=by
 have:=s.D;obtain⟨⟨aa,K,_⟩,_⟩:=h.eK.eK;have D:=az h.g;have:=az K;have u:¬(m=a\/cN d.2=M m):=λj=>j.elim h.ne<|λj=>(h.f m<|bj<|J j).2.1 z;have r:∀p,(p=a\/cN d.2=M p)->G (H w0)<=p:=λp j=>j.elim (λj=>j▸h.da.2.1)<|λj=>(h.eK.aZ.lt p j).1;refine{h with g:=(s.A _ D u).trans h.g,eK:=P,Cr:=h.Cr.mB s (λx j=>j.elim (λj=>j▸h.L)<|λj=>(h.f x<|bj<|J j).1) (λx j=>h.eK.R5 j)<|h.t r,cK:=E,aA:=h.aA.aj s<|λp j=>bj<|r p j,da:=⟨λp q=>⟨(h.da.1 p q).1,bP<|(h.da.1 p q).2⟩,h.da.2⟩,f:=λp q=>?_,oD:=λV L=>?_};obtain j|j:=w p q;exact h.f p j;exact⟨λm9=>bP<|(h.da.1 p m9).2,U,U⟩;let⟨v,Q,T,A,B⟩:=h.oD V L;(have t:V.1<G (H W):=by by_cases q:V.1<G (H W);exact q;rw[jF U]at v;cases v);exact⟨(s.A _ t<|λj=>j.elim A<|λj=>B<|bj<|J j).trans v,Q,T,A,λm9=>(w _ m9).elim B<|λq=>U⟩
theorem LG.zbu{j:Option R}{t:kV}(h:LG j5 j4 w0 W m db j3 a d e c O F C N n l i)(v:W.grownBy W' (M a))(w:tX W' a j t b d.2)(g:j=d.1\/∀A,j=M A->G (H W)<=A):LG j5 j4 w0 W' m db j3 a (j,d.2) e c O F C N n (t,l.2) b:=by
 have s:I (λr=>r=a) W W':=gH v;refine h.RJ (s.aT<|λr p=>J<|J p) (h.eK.re s w (λr q p=>?_) g) (λr q=>?_) h.cK;have u:r=a:=p;exact(h.f r<|bj q).2.2 u;obtain q|q:=q;obtain p|p:=g;exact J<|J<|p▸q;exact bj<|p r q;exact J<|bj q
end
def Zq:(prog.info? 123).map (λi=>(i.zero,i.size,i.bytes))=M (M aF,1,24):=aH
def AX(a:R)(bv d:ae):fB:=λk=>k=a\/cN bv=M k\/cN d=M k
structure HB(n0:R)(W:Z)(a:R)(bv d:ae)(c:iE)(l:kV)(b:Y)(e:eN):Prop where
 g:W.heap[a]?=M (aK #[bv,ay b,aO e,d] 76 (0,0))
 aZ:fD W n0 123 1 bv (y c) c
 L:yP W bv
 pr:mE W d l
 f:∀k,cN d=M k->n0<=k/\k<G (H W)/\k≠a/\cN bv≠M k
 S:cN bv≠M a
 L9:n0<=a
section
variable{n0 a:R}{W W':Z}{bv d:ae}{c:iE}{l:kV}{b:Y}{e:eN}{S:fB}
def HB.lt(h:HB n0 W a bv d c l b e){k:R}(g:AX a bv d k):n0<=k/\k<G (H W):=by
 obtain rfl|q|q:=g;exact⟨h.L9,az h.g⟩;exact h.aZ.lt k q;exact⟨(h.f k q).1,(h.f k q).2.1⟩
def HB.aA(h:HB n0 W a bv d c l b e)(j:I S W W')(m:∀k,AX a bv d k->¬S k):HB n0 W' a bv d c l b e where
 g:=(j.A a (az h.g)<|m a<|J z).trans h.g
 aZ:=j.aZ h.aZ<|λk q=>m k<|bj<|J q
 L:=h.L.aA j (λk q=>m k<|bj<|J q)<|λk q=>(h.aZ.lt k q).2
 pr:=j.bV h.pr<|λk q=>⟨m k<|bj<|bj q,(h.f k q).2.1⟩
 f:=λk q=>⟨(h.f k q).1,au (h.f k q).2.1 j.D,(h.f k q).2.2⟩
 S:=h.S
 L9:=h.L9
def HB.R5(h:HB n0 W a bv d c l b e){r:R}(i:r=a\/cN bv=M r):QJ W r:=by
 obtain rfl|i:=i;let⟨s,p,j⟩:=aM h.aZ;have m:=h.g;have f:=h.pr.fR;rw[j]at m;refine⟨_,_,_,m,⟨cg,cg⟩,J λu q=>?_,λq n=>?_⟩;obtain rfl|⟨g,o,k,rfl⟩:=f<;>simp at q;grind
 let⟨p,m⟩:=fZ h.aZ i;have f:=h.L _ _ _ _ i m;refine⟨_,_,_,m,⟨cg,cg⟩,J λu q=>?_,λq n=>?_⟩;obtain⟨g,j⟩|⟨o,g,k,j⟩:=f _ q<;>cases j;obtain⟨g,j⟩|⟨o,g,k,j⟩:=f _ n<;>cases j
def HB.D{n:Y}{i:eN}(h:HB n0 W a bv d c l b e)(j:I (λk=>k=a) W W')(m:W'.heap[a]?=M (aK #[bv,ay n,aO i,d] 76 (0,0))):HB n0 W' a bv d c l n i where
 g:=m
 aZ:=j.aZ h.aZ<|λk q o=>h.S (by rw[q];grind)
 L:=h.L.aA j (λk q o=>h.S (by rw[q];grind))<|λk q=>(h.aZ.lt k q).2
 pr:=j.bV h.pr<|λk q=>⟨(h.f k q).2.2.1,(h.f k q).2.1⟩
 f:=λk q=>⟨(h.f k q).1,au (h.f k q).2.1 j.D,(h.f k q).2.2⟩
 S:=h.S
 L9:=h.L9
def Zv(h:W.heap[a]?=M (aK #[aF,ay 0,aO bD,aF] 76 (0,0)))(f:n0<=a):HB n0 W a aF aF [] [] 0 bD:=⟨h,ct _ _ _ _,λk _ _ _ g=>(by cases g),⟨rfl,J ⟨rfl,rfl⟩⟩,λk q=>(by cases q),λq=>(by cases q),f⟩
end
def DZ{n0 a:R}{W:Z}{bv d:ae}{c:iE}{l:kV}{b:Y}{e:eN}(h:HB n0 W a bv d c l b e)(cv:ae)(r:vW)(sf:eN)(bh:FN W cv r)(hr:y l+y r<=1000000000)(hB:y c<=1000000000)(cc:n0<=G (H W)):cR bN 57 #[aJ a,cv,aO sf] W λN W'=>N=aN (de #[])/\∃o j ce n,HB n0 W' a o j (c++[ce]) (WE l r) n e/\I (λk=>k=a\/cN bv=M k) W W'/\∀k,AX a o j k->AX a bv d k\/G (H W)<=k:=by
 have bs:=Tz U bh;go_in
 go_wp21;go_call bs as N u⟨v1,rfl,C,bc⟩;have D:I aC W u:=I.p bc;let⟨O,c1,bt⟩:=aM C;subst bt;have f:=h.aA D<|λ_ _=>id;have:=aX f.g 0;have bk:a<G (H u):=az f.g;have:=D.D;let⟨i0,bl,bE,aD,aU⟩:=cZ Zq;have aa:=f.S;have ab:=f.g
 go_wp2_with(first
  |(at_builtin;go_loud(refine Bq _ z (.tmp 13) (.tmp 15) 74 z n0 123 i0 aF 1 24 underlying74 bl bE aD aU z cg bv (y c) c z (bC f.aZ (aK #[am O (y r) c1] 123)) (X (G (H u)) 0) 1 1 [am O (y r) c1] z z (pN _ _ _) (by simp[Value.oneCell']) U U dW U (by intro ch hu;simp[Value.cells]at hu;subst hu;exact bj ⟨_,_,_,z⟩) (by intro ch hu;simp at hu;subst hu;exact bj ⟨_,_,_,z⟩) (f.L.aA (cI aC u) (λ_ _=>id) (λk q=>(f.aZ.lt k q).2)) ?_;intro o W3 al ax bm;let⟨t,c3,bx⟩:=aM al;subst bx;have av:=I.fU ax;have g:=(av.A a dW aa).trans (((cI aC u).A a bk id).trans ab);have:=aX g 0;have k1:=aX g 1;have k3:=aX g 3;have:=cV (i:=0) g;have f1:=cV (i:=1) g;have f3:=cV (i:=3) g;have P:=ak al;have Q:=ak ax;have aV:=ak bm;have ba:=ak av)))
 let⟨p,s⟩:∃p,cP W3 (X a 0) (am t (y c+1) c3)=p:=⟨_,rfl⟩;have ad:cN (am t (y c+1) c3)≠M a:=λq=>by obtain N|⟨cb,N,hg⟩:=Q.f;(grind);rw[q]at N;cases N;simp at hg;omega
 have v:I (λk=>k=a\/cN bv=M k) u p:=by rw[<-s];exact(((cI aC u).aT (T:=λk=>k=a\/cN bv=M k) cY).aj ba aI).aj (fJ W3 a 0 _) ar
 have an:fD p n0 123 1 (am t (y c+1) c3) (y c+1) (c++[am O (y r) c1]):=by rw[<-s];exact(fJ W3 a 0 _).aZ P aI
 have bn:yP p (am t (y c+1) c3):=by rw[<-s];exact aV.aA (fJ W3 a 0 _) aI<|λk f=>(P.lt k f).2
 have ac:p.heap[a]?=M (aK #[am t (y c+1) c3,ay b,aO e,d] 76 (0,0)):=by rw[<-s];exact(aY g).trans z
 have A:∀k,cN (am t (y c+1) c3)=M k->cN bv=M k\/G (H u)<k:=λk q=>by obtain N|⟨cb,N,hg⟩:=Q.f;(grind);rw[q]at N;cases N;simp at hg;grind
 have B:∀k,cN (am O (y r) c1)=M k->G (H W)<=k/\k<G (H u):=λk q=>C.lt k q;have:a<G (H W):=az h.g;have ca:∀k,cN bv=M k->k<G (H W):=λk q=>(h.aZ.lt k q).2;have bp:mE p d l:=v.bV f.pr<|λk q=>⟨λbb=>bb.elim (f.f k q).2.2.1 (f.f k q).2.2.2,(f.f k q).2.1⟩;have bg:Ce p (am O (y r) c1) r:=v.bV (dQ C)<|λk q=>⟨λbb=>zY<|(B k q).1,(B k q).2⟩;have bL:=v.D;have bi:=ZX r bp (λcb q=>au (f.f cb q).2.1 bL) bg aI U;rw[s];go_call bi as N W5⟨j,rfl,ao,bo,cd,bd⟩;have E:I aC p W5:=I.p bd;let⟨px,pn,pc,br⟩:∃x n bb,j=am x n bb:=by obtain N|⟨K,w,F,N⟩:=ao.fR<;>exact⟨_,_,_,N⟩
 have m:=(E.A a U id).trans ac;have:=aX m 1;have:=aX m 3;have:=cV (i:=1) m;have:=cV (i:=3) m;have x:∀w K,w.heap[a]?=M (aK #[am t (y c+1) c3,ay K,aO e,j] 76 (0,0))->I (λk=>k=a) W5 w->∃o j ce n,HB n0 w a o j (c++[ce]) (WE l r) n e/\I (λk=>k=a\/cN bv=M k) W w/\∀k,AX a o j k->AX a bv d k\/G (H W)<=k:=λw K bf F=>by have L:I (λk=>k=a) p w:=(E.aT (T:=λk=>k=a) cY).aj F<|λ_ q=>J q;have bT:I (λk=>k=a\/cN bv=M k) W w:=((D.aT (T:=λk=>k=a\/cN bv=M k) cY).aj v<|λ_ q=>J q).aj L ar;have:=E.D;have:=F.D;have ap:∀k,cN j=M k->cN d=M k\/G (H p)<=k:=aI;have V:∀k,cN (am t (y c+1) c3)=M k->k<G (H p):=λk q=>(an.lt k q).2;(have bq:∀k,cN j=M k->n0<=k/\k<G (H w)/\k≠a/\cN (am t (y c+1) c3)≠M k:=λk q=>by have:=bo k q;obtain q|q:=ap k q;have h1:=h.f k q;exact⟨h1.1,U,h1.2.2.1,λbb=>(A k bb).elim h1.2.2.2<|λbb=>U⟩;grind);refine⟨am t (y c+1) c3,j,am O (y r) c1,K,⟨bf,ai▸L.aZ an aI,bn.aA L aI V,F.bV ao aI,bq,ad,h.L9⟩,bT,λk q=>?_⟩;obtain q|q|q:=q;exact J<|J q;exact(A k q).elim (λq=>J<|bj<|J q) aI;exact(ap k q).elim (λq=>J<|bj<|bj q) aI
 subst br;cases sf;(.go_wp2;go_end0;exact⟨z,x _ b ((aY m).trans z)<|fJ _ _ _ _⟩);go_wp2;go_end0;exact⟨z,x _ _ ((aY<|aY m).trans z)<|(fJ _ _ _ _).aj (fJ _ _ _ _)<|λ_ q=>J q⟩
def Oq{n0 a:R}{W:Z}{v:ae}{i:kV}(h:HB n0 W a aF aF [] [] 0 bD)(m:mE W v i)(j:y i<=1000000000000):cR bN 56 #[aJ a,v] W λo W'=>o=aN (aO<|decide<|i=[])/\I aC W W':=by
 let⟨x,u,s,n⟩:∃x u s,v=am x u s:=by obtain o|⟨q,f,k,o⟩:=m.fR<;>exact⟨_,_,_,o⟩
 subst n;have:=aX h.g 0;have:=aX h.g 1;have g:=nh m (show mE W aF []from⟨z,J ⟨z,z⟩⟩) j ar;generalize decide (i=[])=p at g|-;clear h m;go_in
 go_wp2;go_loopw [5,6] (λf i wr=>f=aF/\((i=ay 0/\wr=W)\/(i=ay 1/\p=bD/\∃t,wr=W.drewN t))) (λ_ i _=>2-(intOf i).toNat)
 exact⟨z,J ⟨z,z⟩⟩;obtain⟨rfl,⟨rfl,rfl⟩|⟨rfl,rfl,t,rfl⟩⟩:=hrel;(.cases p;(.go_wp21;go_call g as o q⟨rfl,r,f⟩;subst f;go_wp2;go_roundw;exact⟨z,bj ⟨dM,by first|rfl|trivial,_,z⟩⟩;simp[intOf]);go_wp21;go_call g as o q⟨rfl,r,f⟩;have k:I aC wr q:=f▸gO _ _ _;clear f;go_wp2;go_ret;exact⟨z,k⟩);go_wp2;go_ret;exact⟨z,gO _ _ _⟩
def Xi(d c:R)(bv e:ae):fB:=λk=>k=d\/AX c bv e k
def S4(W:Z)(d db:R)(sv:ae)(mem j6:Y)(c:R):Prop:=W.heap[d]?=M (aK #[aJ db,sv,ay mem,ay j6,aJ c] 41 (0,0))
structure XH(w0 W:Z)(d db c:R)(sv:ae)(mem ua:Y)(bv e:ae)(m:iE)(l:kV)(a:Y)(n:eN)(N:R):Prop where
 g:S4 W d db sv mem ua c
 f:HB (G<|H w0) W c bv e m l a n
 L:¬AX c bv e d
 S:G (H w0)<=d
 o:1<=mem/\mem<=32/\2<=ua/\ua<=6
 cK:y m<=N/\y l<=8*N
 aA:I aC w0 W
 g0:Steps w0/\Pow w0/\jO w0/\td w0
section
variable{w0 W W':Z}{d db j3 c:R}{mem j6:Y}{bv e sv:ae}{m:iE}{l s:kV}{a:Y}{n r:eN}{N N':R}{F S:fB}
def XH.lt(h:XH w0 W d db c sv mem j6 bv e m l a n N){k:R}(g:Xi d c bv e k):G (H w0)<=k/\k<G (H W):=by
 obtain rfl|q:=g;exact⟨h.S,az h.g⟩;exact h.f.lt q
def XH.D(h:XH w0 W d db c sv mem j6 bv e m l a n N)(b:I F W W')(hF:∀k,F k->G (H w0)<=k/\¬Xi d c bv e k):XH w0 W' d db c sv mem j6 bv e m l a n N:={h with
 g:=(b.A d (az h.g)<|λq=>(hF _ q).2<|J z).trans h.g
 f:=h.f.aA b<|λk i q=>(hF _ q).2<|bj i
 aA:=h.aA.aj b (λk q=>bj (hF k q).1)}
def XH.bH(h:XH w0 W d db c sv mem j6 bv e m l a n N)(b:I aC W W'):XH w0 W' d db c sv mem j6 bv e m l a n N:=h.D b cY
def XH.nV(h:XH w0 W d db c sv mem j6 bv e m l a n N):jO W:=h.g0.2.2.1.aA h.aA id
def XH.aT(h:XH w0 W d db c sv mem j6 bv e m l a n N)(g:N<=N'):XH w0 W d db c sv mem j6 bv e m l a n N':={h with cK:=bP h.cK}
def XH.A{i j:ae}{k:iE}{b:Y}(h:XH w0 W d db c sv mem j6 bv e m l a n N)(p:I (λo=>o=c\/cN bv=M o) W W')(u:HB (G<|H w0) W' c i j k s b r)(w:∀o,AX c i j o->AX c bv e o\/G (H W)<=o)(t:y k<=N'/\y s<=8*N'):XH w0 W' d db c sv mem j6 i j k s b r N':=by
 have x:=az h.g
 exact{h with
  g:=(p.A d x<|λq=>h.L<|q.elim J<|λq=>bj<|J q).trans h.g
  f:=u
  L:=λq=>(w d q).elim h.L<|λq=>U
  cK:=t
  aA:=h.aA.aj p (λo q=>bj (h.f.lt (q.elim J (λq=>bj (J q)))).1)}
def XH.aL{b:R}{j:ae}(h:XH w0 W d db c sv mem j6 bv e m l a n N){i:R}{u:ae}(k:S4 (cP W (X d i) u) d b j mem j6 c):XH w0 (cP W (X d i) u) d b c j mem j6 bv e m l a n N:={h with
 g:=k
 f:=h.f.aA (fJ W d i u)<|λt q o=>h.L (by have p:t=d:=o;exact p▸q)
 aA:=h.aA.aj (fJ W d i u) (λt o=>bj (by rw[show t=d from o];exact h.S))}
def XH.p(h:XH w0 W d db c sv mem j6 bv e m l a n N)(u:ae):XH w0 (cP W (X d 1) u) d db c u mem j6 bv e m l a n N:=h.aL<|(aY h.g).trans rfl
def XH.G2(h:XH w0 W d db c sv mem j6 bv e m l a n N)(b:R):XH w0 (cP W (X d 0)<|aJ b) d b c sv mem j6 bv e m l a n N:=h.aL<|(aY h.g).trans rfl
def XH.Cv(h:XH w0 W d db c sv mem j6 bv e m l a n N)(b:Y):XH w0 (cP W (X c 1)<|ay b) d db c sv mem j6 bv e m l b n N:=h.A ((fJ W c 1<|ay b).aT ar) (h.f.D (fJ W c 1<|ay b)<|(aY h.f.g).trans z) (λ_ q=>J q) h.cK
def XH.Gn(h:XH w0 W d db c sv mem j6 bv e m l a n N)(b:eN):XH w0 (cP W (X c 2)<|aO b) d db c sv mem j6 bv e m l a b N:=h.A ((fJ W c 2<|aO b).aT ar) (h.f.D (fJ W c 2<|aO b)<|(aY h.f.g).trans z) (λ_ q=>J q) h.cK
def XH.R5{k:Array ae}{o:R×R}(h:XH w0 W d db c sv mem j6 bv e m l a n N)(g:W.heap[db]?=M (aK k 89 o))(f:sv=ee dE\/∃j3 j p,sv=aJ j3/\W.heap[j3]?=M (aK j 110 p)):QJ W d:=by
 refine⟨_,_,_,h.g,⟨cg,cg⟩,J λw q=>?_,λq i=>?_⟩;obtain rfl|⟨j3,_,_,rfl,_⟩:=f<;>simp at q;obtain rfl|⟨j3,t,u,rfl,f⟩:=f;have b:q=db\/q=c:=dV i;obtain rfl|rfl:=b;exact⟨_,_,_,g,cg⟩;exact⟨_,_,_,h.f.g,cg⟩;have b:q=db\/q=j3\/q=c:=dV i;obtain rfl|rfl|rfl:=b;exact⟨_,_,_,g,cg⟩;exact⟨_,_,_,f,cg⟩;exact⟨_,_,_,h.f.g,cg⟩
end
def Lv(j4:cy af)(W:Z)(db j3 C N:R)(F:fB):Prop:=∃b K k g h i j f,F=Bb b K j3/\b.f=db/\b.d=bD/\qp K.fx/\cU W j3 b 0/\Inv True j4 W j3 b K k g h i j C N f
def Dd(W:Z)(db L:R)(F:fB):Prop:=∃K,F=K.j db/\cJ W db K/\qp K.fx/\Fy K L 12100000000/\y K.l<=100000000000
def C7(j4:cy af):Prop:=∀x∈j4,∃b:R,x=gW b
structure XG(j4:cy af)(w0 W:Z)(d db sb c:R)(sv:ae)(mem ua:Y)(bv e:ae)(m:iE)(l:kV)(a:Y)(n:eN)(C N:R)(F:fB):Prop where
 xh:XH w0 W d db c sv mem ua bv e m l a n N
 lv:Lv j4 W db sb C N F
 da:∀k,F k->G (H w0)<=k/\k<G (H W)/\¬Xi d c bv e k
 f:C7 j4/\y j4<=N
structure XD(w0 W:Z)(d db c:R)(sv:ae)(mem ua:Y)(bv e:ae)(m:iE)(l:kV)(a:Y)(n:eN)(L N:R)(F:fB):Prop where
 xh:XH w0 W d db c sv mem ua bv e m l a n N
 dd:Dd W db L F
 da:∀k,F k->G (H w0)<=k/\k<G (H W)/\¬Xi d c bv e k
def MJ(w0 W:Z)(d C N:R):Prop:=∃j4 db j3 c mem j6 bv e m l a n F,XG j4 w0 W d db j3 c (aJ j3) mem j6 bv e m l a n C N F
def Qr(w0 W:Z)(d L N:R):Prop:=∃db c sv mem j6 bv e m l a n F,XD w0 W d db c sv mem j6 bv e m l a n L N F
section
variable{j4:cy af}{w0 W W':Z}{d db j3 c:R}{mem j6:Y}{bv e sv:ae}{m:iE}{l s:kV}{a:Y}{n r:eN}{C C' N N' L v:R}{F F' S:fB}
def Lv.Cr(h:Lv j4 W db j3 C N F):Ba True j4 W db j3 C N F:=J h
def Lv.mB(h:Lv j4 W db j3 C N F)(i:I S W W')(hF:∀x,S x->¬F x)(g:∀x,S x->QJ W x)(q:¬S 1/\¬S 2):Lv j4 W' db j3 C N F:=by
 obtain⟨E,K,D,u,w,A,B,t,rfl,b,j,k,o,p⟩:=h;exact⟨E,K,D,u,w,A,B,t,z,b,j,k,o.aA i<|λm9=>hF j3 m9<|J<|bj z,p.mB i (λx f=>⟨(g x f).lt,λm9=>hF x f<|J<|J m9,λm9=>hF x f<|J<|bj m9⟩) g q⟩
def XH.t(h:XH w0 W d db c sv mem j6 bv e m l a n N)(b:∀x,S x->G (H w0)<=x):¬S 1/\¬S 2:=by
 have:=h.g0.1.lt;have:=h.g0.2.1.lt;exact⟨λm9=>bP<|b _ m9,λm9=>bP<|b _ m9⟩
def XG.bH(h:XG j4 w0 W d db j3 c sv mem j6 bv e m l a n C N F)(b:I aC W W'):XG j4 w0 W' d db j3 c sv mem j6 bv e m l a n C N F:=⟨h.xh.bH b,h.lv.mB b cY cY ⟨id,id⟩,λk q=>⟨(h.da k q).1,gV ((h.da k q).2.1) b.D,(h.da k q).2.2⟩,h.f⟩
def XG.A{f g:ae}{i:iE}{b:Y}(h:XG j4 w0 W d db j3 c sv mem j6 bv e m l a n C N F)(o:I (λk=>k=c\/cN bv=M k) W W')(u:HB (G<|H w0) W' c f g i s b r)(p:∀k,AX c f g k->AX c bv e k\/G (H W)<=k)(t:y i<=N/\y s<=8*N):XG j4 w0 W' d db j3 c sv mem j6 f g i s b r C N F:=by
 have j:∀k,(k=c\/cN bv=M k)->AX c bv e k:=λk q=>q.elim J<|λq=>bj<|J q;have:=o.D;refine⟨h.xh.A o u p t,h.lv.mB o (λx q m9=>(h.da x m9).2.2<|bj<|j x q) (λx q=>h.xh.f.R5 q)<|h.xh.t<|λx q=>(h.xh.f.lt<|j x q).1,λk q=>⟨(h.da k q).1,bP<|(h.da k q).2.1,λm9=>?_⟩,h.f⟩;obtain m9|m9:=m9;exact(h.da k q).2.2<|J m9;exact(p k m9).elim (λm9=>(h.da k q).2.2<|bj m9)<|λm9=>bP<|(h.da k q).2.1
def XG.Cv(h:XG j4 w0 W d db j3 c sv mem j6 bv e m l a n C N F)(b:Y):XG j4 w0 (cP W (X c 1)<|ay b) d db j3 c sv mem j6 bv e m l b n C N F:=h.A ((fJ W c 1<|ay b).aT ar) (h.xh.f.D (fJ W c 1<|ay b)<|(aY h.xh.f.g).trans z) (λ_ q=>J q) h.xh.cK
def XG.Gn(h:XG j4 w0 W d db j3 c sv mem j6 bv e m l a n C N F)(b:eN):XG j4 w0 (cP W (X c 2)<|aO b) d db j3 c sv mem j6 bv e m l a b C N F:=h.A ((fJ W c 2<|aO b).aT ar) (h.xh.f.D (fJ W c 2<|aO b)<|(aY h.xh.f.g).trans z) (λ_ q=>J q) h.xh.cK
def XG.R5(h:XG j4 w0 W d db j3 c sv mem j6 bv e m l a n C N F)(g:sv=ee dE\/sv=aJ j3):QJ W d:=by
 obtain⟨t,K,q,j,k,o,p,i,_,rfl,_,_,b,f⟩:=h.lv;exact h.xh.R5 f.st.f.S<|g.imp id<|λi=>⟨j3,_,_,i,b⟩
def XG.t(h:XG j4 w0 W d db j3 c sv mem j6 bv e m l a n C N F)(f:sv=ee dE\/sv=aJ j3)(i:R)(u:ae):Lv j4 (cP W (X d i) u) db j3 C N F/\∀k,F k->G (H w0)<=k/\k<G (H<|cP W (X d i) u)/\¬Xi d c bv e k:=⟨h.lv.mB (fJ W d i u) (λk b m9=>(h.da k m9).2.2<|J b) (λk b=>by rw[show k=d from b];exact h.R5 f)<|h.xh.t (λk b=>by rw[show k=d from b];exact h.xh.S),λk q=>⟨(h.da k q).1,by rw[gJ];exact(h.da k q).2.1,(h.da k q).2.2⟩⟩
def XG.p(h:XG j4 w0 W d db j3 c sv mem j6 bv e m l a n C N F)(b:sv=ee dE\/sv=aJ j3)(u:ae):XG j4 w0 (cP W (X d 1) u) d db j3 c u mem j6 bv e m l a n C N F:=⟨h.xh.p u,(h.t b 1 u).1,(h.t b 1 u).2,h.f⟩
def XG.I9(h:XG j4 w0 W d db j3 c sv mem j6 bv e m l a n C N F)(u:sv=ee dE\/sv=aJ j3){b:R}(w:I aC W W')(D:G (H W)<=b)(t:W'.heap[b]?=M (aK #[aF,ay 0,aO bD,aF] 76 (0,0))):XG j4 w0 (cP W' (X d 4)<|aJ b) d db j3 b sv mem j6 aF aF [] [] 0 bD C N F:=by
 have o:=h.bH w;let⟨A,p⟩:=o.t u 4<|aJ b;have x:=az h.xh.g;have j:b≠d:=U;have E:=h.xh.aA.D;have i:∀k,AX b aF aF k->k=b:=λk q=>by obtain q|q|q:=q;exact q;cases q;cases q
 refine⟨{o.xh with g:=(aY o.xh.g).trans rfl,f:=Zv (((fJ W' d 4<|aJ b).A b (az t) j).trans t) U,L:=λq=>j (i _ q).symm,cK:=ar,aA:=o.xh.aA.aj (fJ W' d 4<|aJ b) (λk B=>bj (by rw[show k=d from B];exact h.xh.S))},A,λk q=>⟨(p k q).1,(p k q).2.1,λm9=>?_⟩,h.f⟩;obtain m9|m9:=m9;exact(p k q).2.2<|J m9;have:=(h.da k q).2.1;rw[i k m9]at this;omega
def Dd.aA(h:Dd W db L F)(k:I S W W')(hF:∀x,S x->¬F x):Dd W' db L F:=by
 obtain⟨K,rfl,g,j⟩:=h;exact⟨K,z,g.aA k<|λp q o=>hF p o q,j⟩
def Dd.aT(h:Dd W db L F)(q:L<=v):Dd W db v F:=by
 let⟨K,g,j,k,o,p⟩:=h;exact⟨K,g,j,k,o.aT q<|aq _,p⟩
def XD.bH(h:XD w0 W d db c sv mem j6 bv e m l a n L N F)(b:I aC W W'):XD w0 W' d db c sv mem j6 bv e m l a n L N F:=⟨h.xh.bH b,h.dd.aA b cY,λk q=>⟨(h.da k q).1,gV ((h.da k q).2.1) b.D,(h.da k q).2.2⟩⟩
def XD.A{f g:ae}{i:iE}{b:Y}(h:XD w0 W d db c sv mem j6 bv e m l a n L N F)(j:I (λk=>k=c\/cN bv=M k) W W')(t:HB (G<|H w0) W' c f g i s b r)(o:∀k,AX c f g k->AX c bv e k\/G (H W)<=k)(p:y i<=N/\y s<=8*N):XD w0 W' d db c sv mem j6 f g i s b r L N F:=by
 have:=j.D;refine⟨h.xh.A j t o p,h.dd.aA j<|λx q m9=>(h.da x m9).2.2<|bj<|(λk q=>q.elim J (λq=>bj<|J q):∀k,(k=c\/cN bv=M k)->AX c bv e k) x q,λk q=>⟨(h.da k q).1,bP<|(h.da k q).2.1,λm9=>?_⟩⟩;obtain m9|m9:=m9;exact(h.da k q).2.2<|J m9;exact(o k m9).elim (λm9=>(h.da k q).2.2<|bj m9)<|λm9=>bP<|(h.da k q).2.1
def XD.Gn(h:XD w0 W d db c sv mem j6 bv e m l a n L N F)(b:eN):XD w0 (cP W (X c 2)<|aO b) d db c sv mem j6 bv e m l a b L N F:=h.A ((fJ W c 2<|aO b).aT ar) (h.xh.f.D (fJ W c 2<|aO b)<|(aY h.xh.f.g).trans z) (λ_ q=>J q) h.xh.cK
def XD.p(h:XD w0 W d db c sv mem j6 bv e m l a n L N F)(u:ae):XD w0 (cP W (X d 1) u) d db c u mem j6 bv e m l a n L N F:=⟨h.xh.p u,h.dd.aA (fJ W d 1 u)<|λx b m9=>(h.da x m9).2.2<|J b,λk q=>⟨(h.da k q).1,by rw[gJ];exact(h.da k q).2.1,(h.da k q).2.2⟩⟩
def XD.aT(h:XD w0 W d db c sv mem j6 bv e m l a n L N F)(g:L<=v)(j:N<=N'):XD w0 W d db c sv mem j6 bv e m l a n v N' F:=⟨h.xh.aT j,h.dd.aT g,h.da⟩
def Qr.aT(h:Qr w0 W d L N)(g:L<=v)(j:N<=N'):Qr w0 W d v N':=by
 let⟨db,c,sv,mem,j6,bv,e,m,l,a,n,F,h⟩:=h;exact⟨db,c,sv,mem,j6,bv,e,m,l,a,n,F,h.aT g j⟩
def MJ.aT(h:MJ w0 W d C N)(A:C<=C')(g:C'<=3000000000)(o:N<=N')(j:N'<=1000000000):MJ w0 W d C' N':=by
 let⟨j4,db,j3,c,mem,j6,bv,e,m,l,a,n,F,h⟩:=h;let⟨Q,K,P,D,b,E,O,B,p,k,q,t,u,x⟩:=h.lv;exact⟨j4,db,j3,c,mem,j6,bv,e,m,l,a,n,F,h.xh.aT o,⟨Q,K,P,D,b,E,O,B,p,k,q,t,u,x.aT A g o j⟩,h.da,h.f.1,bP h.f.2⟩
end
def Bz(j h g:R)(a b c d:dI):y (mi j h g [a,b,c,d])=20*y (a++b++c++d)+44:=by
 unfold mi;rw[iA];simp only[ai,dh,bO,gA,di,jz,eE,tR];omega
section
variable{j5:Prop}{j4:cy af}{w0 W W':Z}{n db j3 f:R}{mem j6:Y}{bv i sv:ae}{r:iE}{l x:kV}{e:Y}{o v:eN}{C C' N N' L w:R}{F F' S:fB}{s:SR}{K K':DK}{m:dB}{a b c d:dI}{sn:gI}
def Inv.Fi(h:Inv j5 j4 W j3 s K m a b c d C N sn):y (a++b++c++d)<=C:=by
 have:=je<|λt g=>(h.st.l0.bZ t g).p;have:=je h.st.s1.p;have:=je h.st.s2.p;have:=je h.st.s3.p;have:=h.st.FX;simp only[ai];omega
def SU{A:Option R}(t:cJ W db K)(k:Xl (vw K.ah))(p:QC (vw K.ah) j4 A (a++b++c++d))(E:Xb (vw K.ah) a b c d)(D:C7 j4)(T:y j4<=1000000000)(Q:y (a++b++c++d)<=C)(B:C<=3000000000):Fy K (20*C+44) 4000000002:=by
 refine⟨λaa u=>?_,?_⟩;let⟨O,j⟩:=ru<|cC.2 ⟨aa,u,rfl⟩;refine⟨k _ _ j,λq=>?_⟩;have g:=SN t.kg u;obtain q|q:=q;rw[q]at g;obtain⟨V,A,P,_,h⟩|⟨h,_⟩:=E.1;rw[h]at g;rw[<-iK g,Bz];omega;rw[h]at g;cases g;exfalso;rw[q]at g;obtain h|h|⟨l,_,h⟩|⟨V,_,h⟩:=p _ _ g;let⟨P,h⟩:=D _ h;exact yA P h.symm;exact absurd h cg;exact yA l h.symm;exact Bx _ h.symm;have:=p.dL t;omega
def Inv.t(h:Inv True j4 W j3 s K m a b c d C N sn)(g:C7 j4)(j:y j4<=N):Fy K (20*C+44) 4000000002:=SU h.st.f h.A h.n (h.pF trivial) g (bP h.v) h.Fi h.st.v
def Inv.dd(h:Inv True j4 W j3 s K m a b c d C N sn)(k:qp K.fx)(j:C7 j4)(g:y j4<=N):Dd W s.f (20*C+44) (K.j s.f):=⟨K,z,h.st.f,k,(h.t j g).aT (aq _) U,gV h.l h.v⟩
def XG.xd(h:XG j4 w0 W n db j3 f sv mem j6 bv i r l e o C N F):∃F',XD w0 W n db f sv mem j6 bv i r l e o (20*C+44) N F':=by
 obtain⟨s,K,m,a,b,c,d,sn,rfl,rfl,k,g,t,j⟩:=h.lv;exact⟨_,h.xh,j.dd g h.f.1 h.f.2,λk q=>h.da k<|J<|J q⟩
def MJ.xd(h:MJ w0 W n C N):Qr w0 W n (20*C+44) N:=by
 let⟨j4,db,j3,f,mem,j6,bv,i,r,l,e,o,F,h⟩:=h;let⟨F',g⟩:=h.xd;exact⟨db,f,_,mem,j6,bv,i,r,l,e,o,F',g⟩
def Xr.dd{B:R}(h:Fy K (20*C+44) 4000000002)(A:y K.l<=22000000000)(t:qp K.fx)(q:Fx K.fx K'.fx)(k:cJ W' db K')(p:Xr K K' B)(u:B<=20*C+44):Dd W' db (20*C+44) (K'.j db):=by
 let⟨l,g,j⟩:=p;have:=AK g;have:=j.dL;exact⟨K',z,k,q.D t,(h.lM g j).aT U U,U⟩
def XG.Aq(h:XG j4 w0 W n db j3 f sv mem j6 bv i r l e o C N F)(j:I F W W')(hF:∀k,F' k->F k\/G (H W)<=k)(g:∀k,F' k->k<G (H W')):XH w0 W' n db f sv mem j6 bv i r l e o N/\∀k,F' k->G (H w0)<=k/\k<G (H W')/\¬Xi n f bv i k:=by
 refine⟨h.xh.D j<|λk q=>⟨(h.da k q).1,(h.da k q).2.2⟩,λk q=>?_⟩;have:=h.xh.aA.D;obtain m9|m9:=hF k q;exact⟨(h.da k m9).1,g k q,(h.da k m9).2.2⟩;exact⟨U,g k q,λj=>bP<|(h.xh.lt j).2⟩
def Lv.lt(h:Lv j4 W db j3 C N F):∀k,F k->k<G (H W):=h.Cr.lt
def XG.eW(h:XG j4 w0 W n db j3 f sv mem j6 bv i r l e o C N F):j3≠0/\¬F 0:=by
 have:0<G (H w0):=cA _ _ h.xh.g0.2.2.1;have:=(h.da j3 h.lv.Cr.j).1;exact⟨U,λc=>bP<|(h.da _ c).1⟩
def XG.D(h:XG j4 w0 W n db j3 f sv mem j6 bv i r l e o C N F)(g:Lv j4 W' db j3 C' N' F')(q:I F W W')(hF:∀t,F' t->F t\/G (H W)<=t)(p:N<=N'):XG j4 w0 W' n db j3 f sv mem j6 bv i r l e o C' N' F':=by
 let⟨j,k⟩:=h.Aq q hF g.lt;exact⟨j.aT p,g,k,h.f.1,bP h.f.2⟩
def gh.lv{g:SR}{E:dB}{u A B D:dI}{j:gI}(p:s.f=db)(k:gh W W' s.f j3 K K')(Q:qp K.fx)(f:cU W' j3 g 0)(P:g.d=bD)(O:Inv True j4 W' j3 g K' E u A B D C' N' j)(q:g.f=s.f/\g.n=s.n):∃F',Lv j4 W' db j3 C' N' F'/\I (Bb s K j3) W W'/\∀t,F' t->Bb s K j3 t\/G (H W)<=t:=by
 refine⟨_,⟨g,K',E,u,A,B,D,j,z,q.1.trans p,P,k.fx.D Q,f,O⟩,k.aA.aT<|λt h=>J<|J h,λt h=>?_⟩;unfold Bb at h|-;rw[q.1,q.2]at h;obtain(h|h)|h:=h;exact(k.j t h).imp (λm9=>J<|J m9) id;exact J<|J<|bj h;exact J<|bj h
def T9(h:XG j4 w0 W n db j3 f sv mem j6 bv i r l e o C N F)(g:af)(P:g.size<=140737488351232):cR bN 17 #[aJ j3,aw g] W λab W'=>∃aa j q,ab=aN (de #[aw aa,aO j,q])/\ub W' q/\∃F',XG j4 w0 W' n db j3 f sv mem j6 bv i r l e o C N F':=by
 have t:=h;obtain⟨s,K,m,a,b,c,d,sn,rfl,k,p,u,A,B⟩:=h.lv;go_call Pw g A B p P as ab w'⟨aa,j,q,rfl,O,K',E,_,f,D⟩;let⟨F',Q,T,V⟩:=gh.lv k E u f p D ⟨rfl,rfl⟩;exact⟨aa,j,q,z,O,F',t.D Q T V<|aq _⟩
def Ty(h:XG j4 w0 W n db j3 f sv mem j6 bv i r l e o C N F)(A u:af)(g:Y):cR bN 59 #[aJ j3,aw A,aw u,ay g] W λaa W'=>∃B c k,∃q:kV,aa=aN (de #[am B (y q) c,k])/\uP W W' (am B (y q) c) q/\y q<=40000000000/\ub W' k/\∃F',XG j4 w0 W' n db j3 f sv mem j6 bv i r l e o C N F':=by
 have D:=h;obtain⟨s,K,m,a,b,c,d,sn,rfl,p,t,E,O,P⟩:=h.lv;go_call Jo A u g O P t as aa w'⟨ab,q,k,rfl,j,V,hv,K',T,_,f,Q⟩;obtain⟨B,c,rfl⟩:=aM j;let⟨F',q1,q2,q3⟩:=gh.lv p T E f t Q ⟨rfl,rfl⟩;exact⟨B,c,k,q,z,j,V,hv,F',D.D q1 q2 q3<|aq _⟩
def QB.xd{j:R}{E:ae}(h:XG j4 w0 W n s.f j3 f sv mem j6 bv i r l e o C N (Bb s K j3))(B:qp K.fx)(g:Inv True j4 W j3 s K m a b c d C N sn)(hF:QB W W' j3 s K K' j E)(hM:j<=C')(V:C<=C'):ub W' E/\E≠ib/\∃F',XD w0 W' n s.f f sv mem j6 bv i r l e o (20*C'+44) N F':=by
 obtain⟨s',q0,D,c,rfl,u,O,P,Q,T,A⟩:=hF.ex;let⟨k,t⟩:=h.Aq (F':=K'.j s.f) (hF.eQ.aA.aT<|λg u=>J<|J u) (λg q=>(hF.eQ.j g q).imp (λm9=>J<|J m9) id) hF.eQ.ok.lt;exact⟨bj<|bj ⟨D,z,c,u,A⟩,by simp[eW],_,k,Xr.dd (C:=C') ((g.t h.f.1 h.f.2).aT U<|aq _) (gV g.l g.v) B hF.eQ.fx hF.eQ.ok hF.lM U,t⟩
def QM(h:XG j4 w0 W n db j3 f sv mem j6 bv i r l e o C N F)(O:N+1<=1000000000):cR bN 44 #[aJ j3] W λaa W'=>∃u,aa=aN u/\ub W' u/\((u=ib/\∃F',XG j4 w0 W' n db j3 f sv mem j6 bv i r l e o C (N+1) F')\/(u≠ib/\∃F',XD w0 W' n db f sv mem j6 bv i r l e o (20*C+44) N F')):=by
 have A:=h;have P:=h.xh.nV;let⟨_,t⟩:=h.eW;obtain⟨s,K,m,a,b,c,d,sn,rfl,rfl,B,q,E,D⟩:=h.lv;go_call Bj sn E D B O (λV j=>P.aA j<|λm9=>t<|J m9) q as aa w'(⟨rfl,s',K',m',a',b',c',d',g⟩|⟨u,K',rfl,hF⟩);let⟨Q,T,_,_,_,V⟩:=g.bM;let⟨F',j,k,p⟩:=gh.lv rfl g.eQ q g.g (T.trans B) g.A ⟨Q,V⟩;exact⟨_,z,J z,J ⟨z,F',A.D j k p U⟩⟩;let⟨j,k,p⟩:=QB.xd A q D hF (aq _)<|aq _;exact⟨u,z,j,bj ⟨k,p⟩⟩
def Xt(h:XG j4 w0 W n db j3 f sv mem j6 bv i r l e o C N F){cv:ae}{cs:vW}(g:eN)(hc:∀V,I (λab=>ab=j3) W V->FN V cv cs)(hz:∀ac∈cs,ac.D.size<=140737488351232/\ac.l.size<=140737488351232)(hr:y cs<=1000000000)(hC:C+8<=3000000000)(Q:N+1<=1000000000):cR bN 15 #[aJ j3,cv,aO g] W λT W'=>∃D,T=aN D/\ub W' D/\I F W W'/\((D=ue (gS cs)/\∃F',XG j4 w0 W' n db j3 f sv mem j6 bv i r l e o (C+8) (N+1) F')\/(gS cs=0/\D≠ib/\∃F',XD w0 W' n db f sv mem j6 bv i r l e o (20*(C+8)+44) N F')):=by
 have E:=h;have hg:=h.xh.nV;let⟨_,B⟩:=h.eW;have aa:vK cs<=8:=by unfold vK;split;rename_i q;exact(rB q).1;omega
 obtain⟨s,K,m,a,b,c,d,sn,rfl,rfl,O,u,h3,P⟩:=h.lv;go_call Bp sn g h3 P O hc hz hr U Q (λV j=>hg.aA j<|λm9=>B<|J m9) (J u)as T w'(⟨rfl,s',K',m',a',b',c',d',k,_⟩|⟨A,⟨D,K',rfl,hF⟩,_⟩);let⟨q1,q2,_,_,_,q6⟩:=k.bM;let⟨F',p,j,t⟩:=gh.lv rfl k.eQ u k.g (q2.trans O) (k.A.aT U hC (aq _) Q) ⟨q1,q6⟩;refine⟨_,z,?_,j,J ⟨z,F',E.D p j t U⟩⟩;have:=Dg cs;by_cases q:gS cs=0;rw[q];exact J z;exact bj<|J ⟨gS cs,U,this.2,z⟩;let⟨p,j,t⟩:=QB.xd (C':=C+8) E u P hF U U;exact⟨D,z,p,hF.eQ.aA.aT<|λab T=>J<|J T,bj ⟨A,j,t⟩⟩
end
structure Cld(j4:cy af)(W:Z)(db C N:R)(K:DK)(a b c d:dI):Prop where
 f:cJ W db K
 D:qp K.fx
 A:Xl (vw K.ah)
 l:y K.l+y K.ah<=20000000000+2*N
 pF:Xb (vw K.ah) a b c d
 jV:∀t∈a++b++c++d,ny t.ks/\t.cK<18446744073709551616
 za:ik a+ik b+ik c+ik d<=C
 n:QC (vw K.ah) j4 dE (a++b++c++d)
 Fi:y (a++b++c++d)<=C
structure XL(j4:cy af)(w0 W:Z)(o db i:R)(sv:ae)(mem ua:Y)(bv r:ae)(w:iE)(l:kV)(e:Y)(v:eN)(C N:R)(K:DK)(a b c d:dI):Prop where
 xh:XH w0 W o db i sv mem ua bv r w l e v N
 cl:Cld j4 W db C N K a b c d
 da:∀k,K.j db k->G (H w0)<=k/\k<G (H W)/\¬Xi o i bv r k
 f:C7 j4/\y j4<=N+1
section
variable{j4:cy af}{w0 W W':Z}{o db j3 i:R}{mem j6:Y}{bv r sv:ae}{w:iE}{l O:kV}{e:Y}{v x:eN}{C C' N N' L E:R}{F F' S:fB}{s:SR}{K K':DK}{m:dB}{a b c d:dI}{sn:gI}
def Cld.aA(h:Cld j4 W db C N K a b c d)(g:I S W W')(hF:∀j,S j->¬K.j db j):Cld j4 W' db C N K a b c d:={h with f:=h.f.aA g (λn q k=>hF n k q)}
def XL.bH(h:XL j4 w0 W o db i sv mem j6 bv r w l e v C N K a b c d)(f:I aC W W'):XL j4 w0 W' o db i sv mem j6 bv r w l e v C N K a b c d:=⟨h.xh.bH f,h.cl.aA f cY,λk q=>⟨(h.da k q).1,gV ((h.da k q).2.1) f.D,(h.da k q).2.2⟩,h.f⟩
def XL.p(h:XL j4 w0 W o db i sv mem j6 bv r w l e v C N K a b c d)(u:ae):XL j4 w0 (cP W (X o 1) u) o db i u mem j6 bv r w l e v C N K a b c d:=⟨h.xh.p u,h.cl.aA (fJ W o 1 u)<|λg f m9=>(h.da g m9).2.2<|J f,λk q=>⟨(h.da k q).1,by rw[gJ];exact(h.da k q).2.1,(h.da k q).2.2⟩,h.f⟩
def XL.Cv(h:XL j4 w0 W o db i sv mem j6 bv r w l e v C N K a b c d)(n:Y):XL j4 w0 (cP W (X i 1)<|ay n) o db i sv mem j6 bv r w l n v C N K a b c d:=⟨h.xh.Cv n,h.cl.aA (fJ W i 1<|ay n)<|λg f m9=>(h.da g m9).2.2<|bj<|J f,λk q=>⟨(h.da k q).1,by rw[gJ];exact(h.da k q).2.1,(h.da k q).2.2⟩,h.f⟩
def Nb(h:XG j4 w0 W o db j3 i sv mem j6 bv r w l e v C N F):cR bN 21 #[aJ j3] W λt W'=>∃A,t=aN A/\ub W' A/\((A=ib/\∃X' K a b c d,XL X' w0 W' o db i sv mem j6 bv r w l e v C N K a b c d)\/(A≠ib/\∃F',XD w0 W' o db i sv mem j6 bv r w l e v (20*C+44) N F')):=by
 have k:=h;obtain⟨s,K,m,a,b,c,d,sn,rfl,rfl,h1,D,h3,f⟩:=h.lv;have g:∀{A:ae}{f aa:R}{k:iE},Row W f A aa k->∃ab aa c,A=am ab aa c:=λj=>by let⟨ab,c,t⟩:=cG j;exact⟨ab,_,c,t⟩
 have:=f.l;have:=f.v;go_call Kn h3 h1 (g f.st.D) (g f.st.l0.bV) (g f.st.l1.bV) (g f.st.l2.bV) (g f.st.l3.bV) f.st.f f.st.l f.st.t.x (λt=>f.st.t.n.ne t.symm) f.lg (λ_ _=>D) U as t w'⟨A,K',lb,ln,rfl,j,i,_⟩;let⟨T,V⟩:=k.Aq (F':=K'.j s.f) (j.D.aA.aT<|λf t=>J<|J t) (λf q=>(j.D.j f q).imp (λm9=>J<|J m9) id) j.D.ok.lt;obtain⟨rfl,Q⟩|⟨lp,q,cc,hp,Q,rfl,hq,hc⟩:=j.d;let⟨p,v2⟩:=Yy (sQ _) Q;(have:y K'.ah=y K.ah:=by simpa[vw]using cD y p);refine⟨_,z,J z,J ⟨z,gW s.l::j4,K',a,b,c,d,T,⟨j.D.ok,j.D.fx.D D,p▸f.A,U,p▸f.pF trivial,λu q=>?_,bP f.st.za,?_,f.Fi⟩,V,?_,by have:=k.f.2;simp;omega⟩⟩;simp only[aP]at q;obtain((q|q)|q)|q:=q;exact⟨(f.st.l0.bZ u q).jV,(f.st.l0.bZ u q).cK⟩;exact⟨(f.st.l1.bZ u q).jV,(f.st.l1.bZ u q).cK⟩;exact⟨(f.st.l2.bZ u q).jV,(f.st.l2.bZ u q).cK⟩;exact⟨(f.st.l3.bZ u q).jV,(f.st.l3.bZ u q).cK⟩;rw[p];intro aa bs P;obtain q|q|⟨lg,n,q2⟩|q:=f.n aa bs P;exact J<|iz _ q;exact bj<|J q;refine J ?_;unfold SR.Xh at n;split at n;cases n;rw[q2];exact iU ..;cases n;exact bj<|bj<|bj q;intro ab n;obtain q|q:=dy.1 n;exact⟨s.l,q⟩;exact k.f.1 ab q;exact⟨_,z,bj<|bj ⟨q,z,cc,hq,hc.pI⟩,bj ⟨by simp[eW],_,T,Xr.dd (f.t k.f.1 k.f.2) U D j.D.fx j.D.ok ⟨lp,Q,KU (B:=0) hp⟩ U,V⟩⟩
def Tx(h:XL j4 w0 W o db i sv mem j6 bv r w l e v C N K a b c d)(hC:C+31<=3000000000)(hN:N+1<=900000000):cR bN 10 #[aJ db,ef #[ay mem,ay j6]] W λD W'=>XH w0 W' o db i sv mem j6 bv r w l e v N/\((∃j3 F,D=aN (de #[aJ j3,ib])/\Lv j4 W' db j3 (C+31) (N+1) F/\∀k,F k->G (H w0)<=k/\k<G (H W')/\¬Xi o i bv r k)\/∃q,D=aN (de #[ee dE,eW q])/\tB W' q/\∃F,Dd W' db (20*(C+31)+44) F/\∀k,F k->G (H w0)<=k/\k<G (H W')/\¬Xi o i bv r k):=by
 have f:=h.cl;have hX:=h.f;have g:=SU f.f f.A f.n f.pF hX.1 U f.Fi U;have an:Steps W:=Steps.aA h.xh.g0.1 h.xh.aA id;have al:Pow W:=h.xh.g0.2.1.aA h.xh.aA id;have ac:td W:=h.xh.g0.2.2.2.aA h.xh.aA id id;have p:∀k,k<G (H w0)->¬K.j db k:=λk hk q=>bP<|(h.da k q).1;have hz:=h.xh.aA.D;have hL:OpL W db K (20*C+44):=⟨f.f,bP g.l,an,al,ac,p _ h.xh.g0.1.lt,p _ h.xh.g0.2.1.lt,⟨p _ h.xh.g0.2.2.2.lt.1,p _ h.xh.g0.2.2.2.lt.2⟩,f.A,g.dL⟩;refine(GN (j5:=True) (j4:=j4) (u7:=False) (m8:=λ_ _=>True) (EX:=True) (C0:=C) (C:=C+31) (N:=N) hL U h.xh.o f.l (bP g.l) (λnx lg bt P Q T V hl hi=>?_) (aq _) hC U U False.elim (λs K2 _ _=>TI s K2) (J f.D) False.elim).mono ?_;have j:fo (vw K.ah) fj=M (mi nx lg bt [P,Q,T,V])\/fo (vw K.ah) fj=dE/\P++Q++T++V=[]:=hl.L.imp id<|λq=>⟨q.1,q.2.1⟩;have ht:=f.Fi;(have u:y (P++Q++T++V)<=C:=by obtain D|⟨_,D⟩:=j;have:=g.dL _ D;rw[Bz]at this;omega;rw[D];simp);have hk:=XI f.pF j f.jV hi U U;refine⟨?_,λaa A n=>?_⟩;rw[<-hk.za (λt q=>⟨(f.jV t q).1,f.pF.2 t q⟩) (λt q=>⟨(hi t q).1,hl.fi t q⟩)];exact f.za;obtain q|q|⟨_,q,_⟩|⟨t,q1,q2⟩:=f.n aa A n;exact J q;exact bj<|J q;cases q;let⟨ab,B,D⟩:=hk.cK t q1;exact bj<|bj<|bj ⟨ab,B,D▸q2⟩;rintro D w'(⟨rfl,s,u,m,a1,b1,c1,d1,t⟩|⟨q,rfl,_,hq,u,hd,ht,hf,ad,l1,l2,ho,A,ao,B⟩);let⟨rfl,ec,_,_,_,aa⟩:=t.bM;have:=t.D;have ab:I (K.j s.f) W w':=t.eQ.aA.aT<|λk q=>q.elim J<|λp=>bj U;refine⟨h.xh.D ab<|λk q=>⟨(h.da k q).1,(h.da k q).2.2⟩,J ⟨_,Bb s u<|G (H W)+2,z,⟨s,u,m,a1,b1,c1,d1,[],z,z,ec,t.eQ.fx.D f.D,t.g,t.A⟩,λk q=>?_⟩⟩;have n:∀k,G (H W)<=k->k<G (H w')->G (H w0)<=k/\k<G (H w')/\¬Xi o i bv r k:=λk g f=>⟨U,f,λp=>bP<|(h.xh.lt p).2⟩;obtain(q|q)|q:=q;have j:=t.eQ.ok.lt k q;obtain m9|m9:=t.j k q;exact⟨(h.da k m9).1,j,(h.da k m9).2.2⟩;exact n k U j;rw[q];exact n _ U U;rw[aa]at q;cases q;exact n _ U U;refine⟨h.xh.D ht<|λk q=>⟨(h.da k q).1,(h.da k q).2.2⟩,bj ⟨q,z,hq,u.j db,?_,λk q=>?_⟩⟩;let⟨K2,n,o2⟩:=nQ ho;have g1:=g.lM n A;have g2:=g1.lM o2 B;have:=AK n;have:=AK o2;have:=A.dL;have:=B.dL;have:=f.l;exact⟨u,z,hd,ad.D f.D,g2.aT U U,U⟩;have j:=hd.lt k q;obtain m9|m9:=hf k q;exact⟨(h.da k m9).1,j,(h.da k m9).2.2⟩;exact⟨U,j,λp=>bP<|(h.xh.lt p).2⟩
end
def iN(g A B:Y)(S T:af)(L:ae):Obj:=aK #[ay g,ay A,ay B,aw S,aw T,L] 60 (0,0)
def zb(g A B:Y)(S T:af)(L:ae):ae:=ef #[ay g,ay A,ay B,aw S,aw T,L]
def Jd(j5:Prop)(j4:cy af)(w0 W:Z)(d db j3 e:R)(f:PB)(b a:ae)(O:cy (R×Obj))(C N:R)(l:LC)(c:eN):Prop:=∃F g,LG j5 j4 w0 W d db j3 e f b a O F C N g l c
theorem ub.bH{W W':Z}{i:ae}(h:ub W i)(m:I aC W W'):ub W' i:=by
 obtain g|g|⟨q,g,n,k,j⟩:=h;exact J g;exact bj<|J g;exact bj<|bj ⟨q,g,n,k.aA m id,j⟩
section
variable{j5:Prop}{j4:cy af}{w0 W W':Z}{d db j3 e:R}{f:PB}{b a:ae}{O:cy (R×Obj)}{C N C' N':R}{l:LC}{c:eN}
theorem Jd.g(h:Jd j5 j4 w0 W d db j3 e f b a O C N l c):W.heap[d]?=M (aK #[aJ db,aJ j3,aJ e,ay 0,ay 0,b,a] 57 (0,0)):=by
 let⟨F,g,h⟩:=h;exact h.g
theorem Jd.oD(h:Jd j5 j4 w0 W d db j3 e f b a O C N l c){p:R×Obj}(g:p∈O):W.heap[p.1]?=M p.2:=by
 let⟨F,i,h⟩:=h;exact(h.oD p g).1
theorem Jd.eK(h:Jd j5 j4 w0 W d db j3 e f b a O C N l c):tX W e f.1 l.1 c f.2:=by
 let⟨F,g,h⟩:=h;exact h.eK.eK
theorem Jd.nV(h:Jd j5 j4 w0 W d db j3 e f b a O C N l c):jO W:=by
 let⟨F,g,h⟩:=h;exact h.nV
theorem Jd.bH(h:Jd j5 j4 w0 W d db j3 e f b a O C N l c)(g:I aC W W'):Jd j5 j4 w0 W' d db j3 e f b a O C N l c:=by
 let⟨F,i,h⟩:=h;exact⟨F,i,h.bH g⟩
theorem Jd.sN(h:Jd j5 j4 w0 W d db j3 e f b a O C N l c)(j:I aC W W'){k:R}{o:Obj}(g:G (H W)<=k)(i:W'.heap[k]?=M o):Jd j5 j4 w0 W' d db j3 e f b a ((k,o)::O) C N l c:=by
 let⟨F,m,h⟩:=h;exact⟨F,m,h.sN j g i⟩
theorem Jd.pM{g:cy (R×Obj)}(h:Jd j5 j4 w0 W d db j3 e f b a O C N l c)(i:∀p∈g,p∈O):Jd j5 j4 w0 W d db j3 e f b a g C N l c:=by
 let⟨F,j,h⟩:=h;exact⟨F,j,h.pM i⟩
theorem Jd.jc(h:Jd j5 j4 w0 W d db j3 e f b a O C N l c):bA W (X d 0)=M (aJ db)/\bA W (X d 1)=M (aJ j3)/\bA W (X d 2)=M (aJ e)/\bA W (X d 5)=M b/\bA W (X d 6)=M a:=by
 have g:=h.g;refine⟨?_,?_,?_,?_,?_⟩<;>(rw[cE g];rfl)
theorem Jd.eT{g:R}{i A B:Y}{S T:af}{L:ae}(h:Jd j5 j4 w0 W d db j3 e f b a ((g,iN i A B S T L)::O) C N l c):bA W (X g 0)=M (ay i)/\bA W (X g 1)=M (ay A)/\bA W (X g 2)=M (ay B)/\bA W (X g 3)=M (aw S)/\bA W (X g 4)=M (aw T)/\bA W (X g 5)=M L:=by
 have j:W.heap[g]?=M (iN i A B S T L):=h.oD (p:=(g,iN i A B S T L))<|iU ..;unfold iN at j;refine⟨?_,?_,?_,?_,?_,?_⟩<;>(rw[cE j];rfl)
end
def jY(j5:Prop)(j4:cy af)(w0 W:Z)(a db j3 b:R)(O:cy (R×Obj))(C N n5:R):Prop:=∃f d c F g l e,y l.1<=n5/\LG j5 j4 w0 W a db j3 b f d c O F C N g l e
def T7(W W':Z):Prop:=∀c,ub W c->ub W' c
theorem T7.of{W W':Z}{S:fB}(g:I S W W')(d:∀x,S x->QJ W x):T7 W W':=λj h=>by
 obtain e|e|⟨q,e,i,f,c⟩:=h;exact J e;exact bj<|J e;exact bj<|bj ⟨q,e,i,f.mB g d,c⟩
section
variable{j5:Prop}{j4:cy af}{w0 W W':Z}{a db j3 b:R}{O:cy (R×Obj)}{C N n5 C' N':R}
theorem jY.bH(h:jY j5 j4 w0 W a db j3 b O C N n5)(g:I aC W W'):jY j5 j4 w0 W' a db j3 b O C N n5:=by
 let⟨i,d,c,F,j,l,e,f,h⟩:=h;exact⟨i,d,c,F,j,l,e,f,h.bH g⟩
theorem jY.sN(h:jY j5 j4 w0 W a db j3 b O C N n5)(k:I aC W W'){l:R}{o:Obj}(g:G (H W)<=l)(j:W'.heap[l]?=M o):jY j5 j4 w0 W' a db j3 b ((l,o)::O) C N n5:=by
 let⟨m,d,c,F,n,p,e,i,h⟩:=h;exact⟨m,d,c,F,n,p,e,i,h.sN k g j⟩
theorem jY.pM{f:cy (R×Obj)}(h:jY j5 j4 w0 W a db j3 b O C N n5)(i:∀p∈f,p∈O):jY j5 j4 w0 W a db j3 b f C N n5:=by
 let⟨j,d,c,F,k,l,e,g,h⟩:=h;exact⟨j,d,c,F,k,l,e,g,h.pM i⟩
theorem jY.Bh{p:R×Obj}(h:jY j5 j4 w0 W a db j3 b (p::O) C N n5):jY j5 j4 w0 W a db j3 b O C N n5:=h.pM<|λ_ c=>iz _ c
theorem jY.oD(h:jY j5 j4 w0 W a db j3 b O C N n5){p:R×Obj}(d:p∈O):W.heap[p.1]?=M p.2:=by
 let⟨i,e,c,F,j,l,f,g,h⟩:=h;exact(h.oD p d).1
theorem jY.nV(h:jY j5 j4 w0 W a db j3 b O C N n5):jO W:=by
 let⟨g,d,c,F,i,l,e,f,h⟩:=h;exact h.nV
theorem jY.aA(h:jY j5 j4 w0 W a db j3 b O C N n5):I aC w0 W:=by
 let⟨j,d,c,F,k,l,e,g,h⟩:=h;exact h.aA
theorem jY.g(h:jY j5 j4 w0 W a db j3 b O C N n5):∃d c,W.heap[a]?=M (aK #[aJ db,aJ j3,aJ b,ay 0,ay 0,d,c] 57 (0,0)):=by
 let⟨g,d,c,F,i,l,e,f,h⟩:=h;exact⟨d,c,h.g⟩
theorem jY.QE(h:jY j5 j4 w0 W a db j3 b O C N n5):a<G (H W)/\b<G (H W):=by
 let⟨i,e,c,F,j,l,f,g,h⟩:=h;obtain⟨⟨v,d,_⟩,_⟩:=h.eK.eK;exact⟨az h.g,az d⟩
theorem jY.XZ(h:jY j5 j4 w0 W a db j3 b O C N n5):j3<G (H W):=by
 let⟨g,d,c,F,i,l,e,f,h⟩:=h;exact(h.da.1 j3 h.Cr.j).2
theorem jY.jc(h:jY j5 j4 w0 W a db j3 b O C N n5):bA W (X a 0)=M (aJ db)/\bA W (X a 1)=M (aJ j3)/\bA W (X a 2)=M (aJ b):=by
 let⟨e,c,d⟩:=h.g;refine⟨?_,?_,?_⟩<;>(rw[cE d];rfl)
theorem jY.Q9(h:jY j5 j4 w0 W a db j3 b O C N n5):∃c,bA W (X b 2)=M (aO c):=by
 let⟨i,f,d,F,j,l,c,g,h⟩:=h;obtain⟨⟨v,e,_⟩,_⟩:=h.eK.eK;exact⟨c,aX e 2⟩
theorem jY.eT{c:R}{d A B:Y}{S T:af}{L:ae}(h:jY j5 j4 w0 W a db j3 b ((c,iN d A B S T L)::O) C N n5):bA W (X c 0)=M (ay d)/\bA W (X c 1)=M (ay A)/\bA W (X c 2)=M (ay B)/\bA W (X c 3)=M (aw S)/\bA W (X c 4)=M (aw T)/\bA W (X c 5)=M L:=by
 have e:W.heap[c]?=M (iN d A B S T L):=h.oD (p:=(c,iN d A B S T L))<|iU ..;unfold iN at e;refine⟨?_,?_,?_,?_,?_,?_⟩<;>(rw[cE e];rfl)
theorem jY.X7{out' want':ae}(h:jY j5 j4 w0 W a db j3 b O C N n5)(f:IsS out'/\IsS want'):jY j5 j4 w0 (cP (cP W (X a 5) out') (X a 6) want') a db j3 b O C N n5:=by
 let⟨i,g,d,F,j,l,c,e,h⟩:=h;exact⟨i,out',want',F,j,l,c,e,h.zem ((iP a W).aL _ _ _<|J z) ((aY<|aY h.g).trans z) f⟩
theorem jY.D4{O':cy (R×Obj)}{k:R}{ac:Obj}{d:Array ae}(h:jY j5 j4 w0 W a db j3 b O C N n5)(r:G (H w0)<=k)(F:(k,ac)∈O)(E:W.heap[k]?=M (aK d 66 (0,0)))(o:∀T∈d.toList,(∃ad,T=aw ad)\/∃aa,T=aO aa)(c:I (λx=>x=k) W W')(D:∀p∈O',p∈O/\p.1≠k):jY j5 j4 w0 W' a db j3 b O' C N n5:=by
 let⟨P,l,i,V,S,ab,n,K,h⟩:=h;let⟨o1,s,t,u,v⟩:=h.oD _ F;simp only at s t u v;have hz:=c.D;have f:∀x,(x=k)->QJ W x:=λx e=>by rw[e];refine⟨_,_,_,E,⟨cg,cg⟩,bj λq al w=>?_,λq w=>?_⟩;obtain⟨_,e⟩|⟨_,e⟩:=o _ w<;>cases e;obtain⟨_,e⟩|⟨_,e⟩:=o _ w<;>cases e
 refine⟨P,l,i,V,S,ab,n,K,{h with g:=(c.A _ (az h.g)<|λe=>t e.symm).trans h.g,eK:=h.eK.aA c (λe=>u e.symm)<|λx q e=>v (by rw[<-show x=k from e];exact q),Cr:=h.Cr.mB c (λx e=>by rw[show x=k from e];exact s) f<|h.t (λx e=>by rw[show x=k from e];exact r),aA:=h.aA.aj c<|λx e=>bj (by rw[show x=k from e];exact r),da:=⟨λx q=>⟨(h.da.1 x q).1,bP<|(h.da.1 x q).2⟩,h.da.2⟩,oD:=λp L=>?_}⟩;let⟨A,B⟩:=D p L;let⟨m,Q⟩:=h.oD p A;have j:p.1<G (H W):=by by_cases q:p.1<G (H W);exact q;rw[jF U]at m;cases m
 exact⟨(c.A _ j B).trans m,Q⟩
theorem jY.aT{C' N' k:R}(h:jY j5 j4 w0 W a db j3 b O C N n5)(p:C<=C')(d:C'<=3000000000)(m:N<=N')(e:N'<=1000000000)(r:n5<=k):jY j5 j4 w0 W a db j3 b O C' N' k:=by
 let⟨t,g,c,F,u,l,j,s,h⟩:=h;have n:FO j5 j4 W W db j3 C N F:=⟨F,h.Cr,I.bI _ _,λc q=>J q⟩;let⟨F',o⟩:=h.Aq (n.aT p d m e) m;exact⟨t,g,c,F',u,l,j,aR s r,o⟩
theorem LG.A{F:fB}{f:PB}{d c:ae}{g:cy ut}{n:LC}{e:eN}(h:LG j5 j4 w0 W a db j3 b f d c O F C N g n e)(m:y n.1<=n5)(l:FO j5 j4 W W' db j3 C' N' F)(k:N<=N'):jY j5 j4 w0 W' a db j3 b O C' N' n5:=by
 let⟨i,j⟩:=h.Aq l k;exact⟨f,d,c,i,g,n,e,m,j⟩
theorem LG.p{F S:fB}{f:PB}{d c:ae}{j:cy ut}{l:LC}{e:eN}(h:LG j5 j4 w0 W a db j3 b f d c O F C N j l e)(i:I S W W')(g:∀x,S x->x=b\/cN f.2=M x):T7 W W':=T7.of i<|λx q=>h.eK.R5<|g x q
end
