import Derived.Deep.CutBlock
import Derived.Deep.DeepCutAuto
import Derived.Test.YtbiejblbclolmaaGreatDoorC11
open _root_ renaming List.length→y,Option.some→H,Array.size→z,Go.World.heap→G,Go.Value.ownBlock→cI,Go.World.cell?→aW,Go.World.setCell→cH,Go.World.alloc→dd,Bool.false→bw,Bool.true→cf,Nat→M,Int→U,List→ci,Go.Calls→cY,Go.undef→iM,Go.Proofs.Tryz.prog→bA,Go.Value.slice→I,Go.Value.string→am,Go.Value.bool→aM,Go.Value.pointer→dC,Go.Value.tuple→dA,Go.Value.agg→dL
namespace Go.Proofs.YtbiejblbclolmaaGreatDoor
open ChangeShapes WideShapes RowKit Proofs.Tryz List
set_option maxHeartbeats 16000000
set_option linter.all false
set_option maxRecDepth 100000
variable{a f A:Y}{b c i l F V:M}{d t L:ab}{e:cU}{g x:DK}{j p u v:cP}{k:U}{m:dX}{n:eF}{o:fh}{W:SR}{B:ix}{D:Fs}{Q:bB}{S:Bool}
def bB.pG(t:bB):bB:={t with tb:=0}
def kh(b a:cP):Prop:=a.map bB.pG=b.map bB.pG
def kh.lens(h:kh j p):y p=y j:=by
 have:=bS y h;grind
theorem kh.nil(h:kh [] j):j=[]:=List.length_eq_zero_iff.1 h.lens
def kh.append(h:kh j p)(k:kh u v):kh (j++u) (p++v):=by
 unfold kh at*;rw[aE,aE,h,k]
def kh.map{α:Type}(h:kh j p)(f:bB->α)(a:∀t,f t.pG=f t):p.map f=j.map f:=by
 have e:∀l:cP,l.map f=(l.map bB.pG).map f:=λl=>by rw[ee];simp_all
 rw[e p,e j];exact bS _ h
def kh.mem(h:kh j p)(a:Q∈p):∃u∈j,u.pG=Q.pG:=by
 have:Q.pG∈p.map bB.pG:=oU a;rw[h]at this;grind
def kh.symm(h:kh j p):kh p j:=Eq.symm h
theorem wi{u:bB}(h:u.pG=Q.pG):u.num=Q.num:=(bS bB.num h:u.pG.num=Q.pG.num)
def Bl{u:bB}(h:u.pG=Q.pG):u.cs=Q.cs:=(bS bB.cs h:u.pG.cs=Q.pG.cs)
def RD{u:bB}(h:u.pG=Q.pG):u.ks=Q.ks:=(bS bB.ks h:u.pG.ks=Q.pG.ks)
def kh.all(h:kh j p):p.map bB.all=j.map bB.all:=h.map _<|λ_=>rfl
def kh.cA(h:kh j p):cA p=cA j:=by unfold Go.Proofs.YtbiejblbclolmaaGreatDoor.cA;rw[h.all]
def kh.bV{j a b c k d l e:cP}(f:kh j a)(g:kh b c)(h:kh k d)(i:kh l e):bV a c d e=bV j b k l:=by
 unfold Go.Proofs.YtbiejblbclolmaaGreatDoor.bV;rw[f.all,g.cA,h.cA,i.cA]
theorem kh.sM(h:kh j p):sM p=sM j:=by
 unfold Go.Proofs.YtbiejblbclolmaaGreatDoor.sM;have:p.map vK=j.map vK:=h.map _<|λ_=>rfl;rw[h.lens,List.flatMap_def,List.flatMap_def,this]
def kh.side(h:kh j p)(a:jn j):jn p:=by
 refine⟨λt b=>?_,?_,?_⟩;obtain⟨u,c,e⟩:=h.mem b;rw[<-RD e,<-Bl e];exact a.pure u c;rw[h.cA];exact a.mJ;rw[h.all];exact a.GW
def kh.j4(k:kh j p)(g:∀t∈j,Cj t):∀t∈p,Cj t:=λt h=>by
 obtain⟨u,i,f⟩:=k.mem h;obtain⟨a,b,c,d,e⟩:=g u i;rw[RD f,Bl f]at a b;rw[Bl f]at c d;rw[wi f]at e;exact⟨a,b,c,d,e⟩
def Hm.TR{f g k l:cP}(h:Hm D b c i j p u v S m)(s:kh j f)(t:kh p g)(w:kh u k)(x:kh v l):Hm D b c i f g k l S m:=by
 have a:kh (j++p++u++v) (f++g++k++l):=((s.append t).append w).append x;refine⟨λL r A=>?_,?_,h.log,h.um,λB d=>?_,?_,λB d=>?_,h.lt,a.j4 h.jf⟩;rcases h.names L r A with q|q|⟨B,d,q⟩;exact .inl q;(grind);obtain⟨o,e,n⟩:=a.symm.mem d;grind[wi]
 rcases h.state with q|⟨q,C,E,F,K,N⟩;(refine .inl<|q.trans ?_;unfold fS;grind[kh.sM]);grind[kh.nil]
 obtain⟨o,e,n⟩:=a.mem d;rw[<-wi n,<-Bl n];exact h.pm o e;rw[a.map bB.num<|λ_=>rfl];exact h.oY;obtain⟨o,e,n⟩:=a.mem d;rw[<-wi n];exact h.low o e
def Bf{ts:cP}(h:∀t∈ts,Cj t):y ts<=y (cA ts):=lB<|λt a=>(h t a).pure
def Eu(w:Y)(d c:M)(e:ix)(t:bB):Prop:=∃b a,lZ w t.tb (aD d) t.num (y<|dU t.cs) (y<|fP<|bX 0 t.cs) (lJ<|fP<|bX 0 t.cs) b 0 a az t.ks/\c<t.tb/\t.tb<z (G w)/\c<b/\b<z (G w)/\∀(j:M)(v:ab),e[j]?=H v->cI v≠H t.tb/\cI v≠H b
structure Ew(w0 wr:Y)(db:M)(K K1:DK)(gb lb:M)(mv vs:ix)(Ts:ci cP):Prop where
 Wv:wr.heap[gb]?=H (ay mv.toArray 108 (0,0))
 box:wr.heap[lb]?=H (ay vs.toArray 78 (0,0))
 Am:y vs=4
 CI:y Ts=4
 rows:∀(j:M)(v:ab)(T:cP),vs[j]?=H v->Ts[j]?=H T->wr.ownsRow (lb+1) 179 1 v (y T) (T.map bB.ptr)
 ne:∀(j j':M)(v v':ab)(q:M),j≠j'->vs[j]?=H v->vs[j']?=H v'->cI v=H q->cI v'≠H q
 aH:bY wr db K1
 same:K1.files=K.files/\(qc K K1/\Fx K.fx K1.fx)/\∀k,K1.aL db k->K.aL db k
 pm:∀t∈Ts.flatten,Eu wr db lb vs t
 DY:(Ts.flatten.map bB.tb).Nodup
 aj:Z (K.aL db) w0 wr
 low:∀k,K.aL db k->k<z (G w0)
 ord:z (G w0)<=gb/\gb<lb/\lb<z (G wr)
def BU{t:bB}:∀{a:ci cP}{i:M},a[i]?=H j->List.Perm (a.set i<|j++[t]).flatten (t::a.flatten)
 |[],i,h=>by simp at h
 |Uqq::a,0,h=>by
  simp_all
 |Uqq::a,i+1,h=>by
  rw[vU]at h;rw[ez,bW,bW];exact((nC Uqq<|BU h).trans rf)
def Ew.row{n wr:Y}{h:DK}{f:ix}{a:ci cP}(k:Ew n wr b g h c i B f a){j:M}(m:f[j]?=H d):∃T,a[j]?=H T/\wr.ownsRow (i+1) 179 1 d (y T) (T.map bB.ptr):=by
 have l:j<4:=by rw[<-k.Am];grind
 have e:a[j]?=H (a[j]'(by rw[k.CI];exact l)):=aR _;exact⟨_,e,k.rows j d _ m e⟩
def Ew.own{m wr:Y}{a:ix}{e:ci cP}(n:Ew m wr c g x l F B a e)(k:a[V]?=H d){q:M}(h:cI d=H q):F<q/\q<z (G wr):=by
 obtain⟨D,_,j⟩:=n.row k;have:=bN j q h;omega
def Ew.cell{e wr:Y}{a:ix}{d:ci cP}(h:Ew e wr c g x l V B a d)(j:M):aW wr (R V j)=a[j]?:=by
 rw[ct h.box];simp
def Ew.M7{e wr:Y}{d:ix}{a:ci cP}(h:Ew e wr b g x c i B d a)(j:M):aW wr (R c j)=B[j]?:=by
 rw[ct h.Wv];simp
def Eu.aj{S:fh}{w w':Y}(p:Eu w c l B Q)(d:Z S w w')(q:∀o,S o->o<=l):Eu w' c l B Q:=by
 obtain⟨h,a,n,j,e,k,g,m⟩:=p;refine⟨h,a,n.dG (d.block _ e<|by grind) (d.block _ g<|by grind),j,ai e d.size,k,ai g d.size,m⟩
def Ew.move{r wr m:Y}{d:DK}{p:ix}{n:ci cP}(h:Ew r wr b g x c i B p n)(e:Z o wr m)(u:∀k,o k->g.aL b k\/c<k/\k<i)(t:bY m b d)(f:d.files=x.files/\(qc x d/\Fx x.fx d.fx)/\∀k,d.aL b k->x.aL b k):Ew r m b g d c i B p n:=by
 have l:=h.low;have a:=h.ord;have j:∀k,o k->k<c\/c<k/\k<i:=(by grind);refine⟨?_,?_,h.Am,h.CI,?_,h.ne,t,⟨f.1.trans h.same.1,⟨h.same.2.1.1.trans f.2.1.1,h.same.2.1.2.trans f.2.1.2⟩,λk s=>h.same.2.2 k<|f.2.2 k s⟩,?_,h.DY,?_,l,?_⟩;exact(e.block c (ak h.Wv)<|by grind).trans h.Wv;exact(e.block i (ak h.box)<|by grind).trans h.box;exactλi v T a c=>e.own (h.rows i v T a c) (λq f s=>by have:=h.own a f;have:=j _ s;omega);exactλt a=>(h.pm t a).aj e (by grind);exact h.aj.trans e (by grind);exact⟨a.1,a.2.1,ai a.2.2 e.size⟩
def Ew.still{f wr h:Y}{e:ix}{a:ci cP}(j:Ew f wr b g x c i B e a)(d:Z aw wr h):Ew f h b g x c i B e a:=j.move d cJ (j.aH.aj d<|λ_ _=>id) ⟨rfl,⟨⟨rfl,rfl,rfl⟩,Fx.refl _⟩,λ_ k=>k⟩
def Ew.put{w0 wr o:Y}{v:ix}{N:ci cP}{T:cP}(m:Ew w0 wr c g x i l B v N)(C:v[F]?=H d)(hT:N[F]?=H T)(W:eJ wr o d t)(ho:o.ownsRow (l+1) 179 1 t (y<|T++[Q]) ((T++[Q]).map bB.ptr))(al:Eu wr c l v Q)(L:Q.tb∉N.flatten.map bB.tb):Ew w0 (cH o (R l F) t) c g x i l B (v.set F t) (N.set F<|T++[Q]):=by
 have s:Z (λO=>cI d=H O) wr o:=Z.fN W;have V:=λq=>m.own (q:=q) C;have ad:=m.ord;have w:=m.low;have K:o.heap[l]?=H (ay v.toArray 78 (0,0)):=(s.block l (ak m.box)<|by grind).trans m.box;have h:Z (λO=>O=l) o (cH o (R l F) t):=(iT l o);have S:∀q,cI t=H q->l<q/\q<z (G o):=λq k=>by have:=bN ho q k;omega
 have P:∀q,q<z (G wr)->(∀(aa:M)(u:ab),v[aa]?=H u->cI u≠H q)->cI t≠H q:=λq k a E=>by grind[eJ.vQ]
 have A:∀u,Eu wr c l v u->Eu (cH o (R l F) t) c l (v.set F t) u:=by rintro u⟨r,e,hm,h1,h2,h3,h4,h5⟩;have j:lZ o u.tb (aD c) u.num (y<|dU u.cs) (y<|fP<|bX 0 u.cs) (lJ<|fP<|bX 0 u.cs) r 0 e az u.ks:=hm.dG (s.block _ h2<|by grind) (s.block _ h4<|by grind);have g2:=ai h2 s.size;have g4:=ai h4 s.size;refine⟨r,e,j.dG (h.block _ g2<|by omega) (h.block _ g4<|by omega),h1,by rw[im];exact g2,h3,by rw[im];exact g4,?_⟩;grind
 have n:=BU (t:=Q) hT;refine⟨?_,?_,by rw[iJ];exact m.Am,by rw[iJ];exact m.CI,?_,?_,?_,m.same,?_,?_,?_,w,?_⟩;exact(h.block i (by grind)<|by omega).trans<|(s.block i (ak m.Wv)<|by grind).trans m.Wv;rw[aJ K];simp;intro aa u r a e;by_cases E:F=aa;subst E;rw[iC]at a e;rw[C]at a;rw[hT]at e;cases a;cases e;exact h.own ho (by grind);rw[gF E]at a e;have j:=s.own (m.rows aa u r a e)<|λq k D=>m.ne aa F u d q (Ne.symm E) a C k D;exact h.own j (λq k E=>by have:=m.own a k;omega);intro aa i' u u' q r a j k;by_cases E:F=aa;subst E;rw[gF r]at j;rw[iC,C]at a;cases a;intro e;change cI t=H q at k;rcases W.vQ with D|⟨ac,D,hy⟩;exact m.ne _ _ _ _ q r C j (D.symm.trans k) e;rw[D]at k;cases k;have:=m.own j e;omega;rw[gF E]at a;by_cases e':F=i';subst e';rw[iC,C]at j;cases j;intro e;change cI t=H q at e;rcases W.vQ with D|⟨ac,D,hy⟩;exact m.ne _ _ _ _ q r a C k<|D.symm.trans e;rw[D]at e;cases e;have:=m.own a k;omega;rw[gF e']at j;exact m.ne _ _ _ _ q r a j k;exact(m.aH.aj s (λO D E=>by have:=V _ E;have:=w O<|m.same.2.2 O D;omega)).aj h (λO D E=>by have:=w O<|m.same.2.2 O D;omega);intro u a;rcases bM.1 (n.mem_iff.1 a)with rfl|a;(grind);exact A u<|m.pm u a;rw[(n.map bB.tb).nodup_iff,bR,gQ];exact⟨L,m.DY⟩;exact(m.aj.trans s<|by grind).trans h (by grind);grind[im,Nat.lt_of_lt_of_le,Z.size]
def pQ(a:ci cP):ci cP:=a.map<|List.map bB.pG
def pP{a:ci cP}(h:a[b]?=H j):(pQ a)[b]?=H (j.map bB.pG):=by simp[pQ,h]
def Ew.TS{q wr:Y}{k:ix}{e:ci cP}(m:Ew q wr c g x i l B k e)(h:k[F]?=H d)(f:e[F]?=H j)(n:y j<=1000000000):jh wr d j where
 row:=dR<|m.rows F d j h f
 lt:=λd a=>(m.own h a).2
 each:=λt p=>by
  obtain⟨r,a,o,_⟩:=m.pm t<|bC.2 ⟨j,eR f,p⟩;exact⟨_,_,_,_,_,_,_,_,_,o⟩
 small:=n
def FR{db:M}{K:DK}(w:ci cP)(x0 x1 x2 x3:Option Addr)(n0 c0 n1 c1 n2 c2 n3 c3:M)(bi:bY a db K)(u:Steps a)(bq:Pow a)(dv:¬K.aL db 1)(ds:¬K.aL db 2)(h4:y w=4)(ax:∀(aa:M)(bc:ab)(s:cP),[I x0 n0 c0,I x1 n1 c1,I x2 n2 c2,I x3 n3 c3][aa]?=H bc->w[aa]?=H s->Row a 4 bc (y s) (dH s))(cd:∀(aa:M)(bc:ab),[I x0 n0 c0,I x1 n1 c1,I x2 n2 c2,I x3 n3 c3][aa]?=H bc->∀k,cI bc=H k->k<z (G a)/\¬K.aL db k)(o:∀ea∈w.flatten,Cj ea)(hf:∀ea∈w.flatten,cX (vw K.files) (fG ea.num)=H (pu ea.cs))(aU:∀(aa:M)(s:cP),0<aa->w[aa]?=H s->jn s)(dx:y w.flatten<=1000000):cY bA 38 #[aD db,dL #[I x0 n0 c0,I x1 n1 c1,I x2 n2 c2,I x3 n3 c3]] a λbv w'=>
 (∃y0 m0 c y1 m1 d y2 m2 e y3 m3 f,bv=aN (dA #[dL #[I y0 m0 c,I y1 m1 d,I y2 m2 e,I y3 m3 f],.nilIface])/\∃b Ts,Ew a w' db K b (z<|G a) (z (G a)+2) [I x0 n0 c0,I x1 n1 c1,I x2 n2 c2,I x3 n3 c3] [I y0 m0 c,I y1 m1 d,I y2 m2 e,I y3 m3 f] Ts/\pQ Ts=pQ w)\/0<K.fx.bd/\∃q,bv=aN (dA #[dL #[az,az,az,az],fj q])/\AS w' q/\Z (K.aL db) a w'/\∃b,bY w' db b/\(qc K b/\Fx K.fx b.fx)/\∀k,b.aL db k->K.aL db k:=by
 have cp:=X bi.tu
 obtain⟨i0,ey,fb,fd,fe⟩:=dl xB
 have fl:∀(ff:Bool)(a:Y),(Op.unary .not<|aM ff).run bA a=.ok (aM<|!ff) a:=λ_ _=>rfl
 obtain⟨mv,ch⟩:∃mv:ix,mv=[I x0 n0 c0,I x1 n1 c1,I x2 n2 c2,I x3 n3 c3]:=⟨_,rfl⟩
 rw[<-ch]at ax cd|-
 obtain⟨W1,C⟩:∃W1,dd (dd (dd a<|ay mv.toArray 108)<|ay #[az,az,az,az] 78) (ay #[az,az,az,az] 78)=W1:=⟨_,rfl⟩
 have bL:Z aw a W1:=by rw[<-C];exact((cO aw a).alloc _).alloc _
 have cx:W1.heap[z (G a)+1]?=H (ay #[az,az,az,az] 78 (0,0)):=by rw[<-C];exact(gq _<|by simp).trans<|aK _<|by simp
 have hA0:Ew a W1 db K K (z<|G a) (z (G a)+2) mv [az,az,az,az] [[],[],[],[]]:=by
  refine⟨?_,?_,rfl,rfl,?_,?_,bi.aj bL<|λ_ _=>id,⟨rfl,⟨⟨rfl,rfl,rfl⟩,Fx.refl _⟩,λ_ x=>x⟩,by simp,by simp,bL.mono cJ,bi.lt,?_⟩
  .rw[<-C];grind[gq,aK]
  .rw[<-C];exact aK _<|by simp
  .intro aa bc bm p u;have bv:bc=az/\bm=[]:=by
    rcases aa with _|_|_|_|aa<;>simp at p u<;>exact⟨p.symm,u⟩
   rw[bv.1,bv.2];grind[World.ownsRow_nil]
  .intro aa b bc c q _ p _ W;have bv:bc=az:=by
    rcases aa with _|_|_|_|aa<;>simp at p<;>exact p.symm
   rw[bv]at W;cases W
  .refine⟨ag _,by omega,?_⟩;rw[<-C];simp
 obtain⟨co,ej,HT,HP,cr,cq,ei,HF⟩:=Gw hA0 cx u bq ax cd o hf
 obtain⟨bx,H4,en,ef,eq,cv,ev⟩:=zX aU h4 dx ch C dv ds
 clear bi u bq ax cd o hf aU h4 dx ch bL cx hA0 C dv ds
 go_in
 go_wp2_with fail
 rw[J eq]
 have e2:z (G a)+1+1=z (G a)+2:=rfl
 rw[e2]
 obtain⟨r,cc⟩:∃r,z (G a)+2=r:=⟨_,rfl⟩
 rw[cc]at co|-
 have dn:∀(i:M)(s:cP),w[i]?=H s->y s<=1000000:=λi s V=>by
  have O:=J en;have h2:y s<=y w.flatten:=qn<|dw<|eR V;omega
 have ed:=X dn
 have bf:=X cc
 clear dn e2 cc
 go_loopw [12] (λb wr=>∃(i:M)(K1:DK)(vs:ix)(Ts:ci cP),i<=4/\b=aq i/\Ew a wr db K K1 (z<|G a) r mv vs Ts/\oE (pQ w) (pQ Ts) i 0/\wr.heap[z (G a)+1]?=H (ay #[az,az,az,az] 78 (0,0))) (λb _=>4-(intOf b).toNat)
 case atStart=>exact⟨0,_,_,_,bK _,rfl,co,oE.start<|pQ w,ej⟩
 case round=>
  obtain⟨i,K1,vs,Ts,hi,rfl,B,bg,f⟩:=hrel;by_cases P:i<4
  .have ac:=X f;clear f;have dk:i<y w:=by rw[J H4];exact P
   obtain⟨s,V⟩:∃s,w[i]?=H s:=⟨_,aR dk⟩;have bo:i<y mv:=by rw[J ef];exact P
   obtain⟨bc,p⟩:∃bc,mv[i]?=H bc:=⟨_,aR bo⟩;have ck:=cr i bc s p V;obtain⟨ff,x,eB⟩:∃ff x,bc=I ff (y s) x:=by
    obtain⟨q1,⟨q2,q0⟩|⟨fv,bu,cw,q2,_⟩⟩:=ck
    .grind
    grind
   subst eB;have eA:=ed i s V;have hc:=(B.M7 i).trans p;have e1:(i:U)<4:=by omega
   have e0:(0:U)<=(i:U):=by omega
   obtain⟨HA,el,HM,HV,em⟩:=iY B bg V p ck;clear B bg V p ck dk bo;go_wp2_with fail
   go_loopw [19] (λc b=>∃(k:M)(K1:DK)(vs:ix)(Ts:ci cP),k<=y s/\c=aq k/\Ew a b db K K1 (z<|G a) r mv vs Ts/\oE (pQ w) (pQ Ts) i k/\b.heap[z (G a)+1]?=H (ay #[az,az,az,az] 78 (0,0))) (λc _=>y s-(intOf c).toNat)
   case atStart=>exact⟨0,_,_,_,bK _,rfl,HA,el,ac⟩
   case round=>
    obtain⟨k,K2,S,t,hk,rfl,hA2,j,av⟩:=hrel;have d:=X av;clear av;by_cases ao:k<y s
    .have V:=J HM;have ap:s[k]∈w.flatten:=bC.2 ⟨s,eR V,ar ao⟩;have o:=ei _ ap;have cT:=HF _ ap;have bs:=hA2.aj.row em<|λq W=>⟨(cq i _ HV q W).2,(cq i _ HV q W).1⟩;obtain⟨fr,c,hx,an⟩:∃fr c,ff=H (R fr c)/\∀aa cn,(s[k].xy)[aa]?=H cn->aW wr (R fr<|c+(k*4+aa))=H cn:=by
      obtain⟨q1,⟨q2,q0⟩|⟨fv,bu,cw,q2,bd,E⟩⟩:=bs
      .omega
      .cases q2;refine⟨fv,bu,rfl,λaa cn hu=>E _ _ ?_⟩;have hj:aa<4:=by
        rcases iy aa 4 with x|x
        .exact x
        .rw[qV<|by simpa[bB.xy]using x]at hu;cases hu
       rw[Jb s k aa ao hj];exact hu
     subst hx;have cN:=an 0 _ rfl;have cS:=an 1 _ rfl;have ca:=an 2 _ rfl;have cb:=an 3 _ rfl;have bh:i<y t:=by rw[hA2.CI];exact P
     obtain⟨bm,u⟩:∃bm,t[i]?=H bm:=⟨_,aR bh⟩;have bT:y bm=k:=by
      have O:=j.now _<|pP V;rw[pP u]at O;have h2:=bS y<|gP O;grind
     have v:bm.map bB.pG=(s.map bB.pG).take k:=by
      have O:=j.now _<|pP V;rw[pP u]at O;simp_all
     have bl:i<y S:=by rw[hA2.Am];exact P
     obtain⟨bc,p⟩:∃bc,S[i]?=H bc:=⟨_,aR bl⟩;have l:=hA2.rows i bc bm p u;rw[bT]at l;obtain⟨ox,oc,cj⟩:=aC l;subst cj;have br:=j.one<|pP V;have dT:(s.map bB.pG).take (k+1)=(s.map bB.pG).take k++[s[k].pG]:=by
      rw[ah<|by simp_all];simp
     have hA3:=hA2.still<|(Z.refl aw wr).alloc<|ay #[aG s[k].num,dI<|y<|dU s[k].cs,dI<|y<|fP<|bX 0 s[k].cs,dI<|lJ<|fP<|bX 0 s[k].cs] 178;rw[o.ks]at ca cb;generalize s[k]=ea at*;have m:=LX ea.num o.num ea.cs o.idx (Steps.aj HT hA3.aj cv) (Pow.aj HP hA3.aj ev) o.small (λx=>cv<|hA2.same.2.2 _ x) hA3.aH (by rw[hA2.same.1];exact cT);unfold Gj at m;have bk:=o.num;have dm:=o.ks;obtain⟨A,g,fn,ad,cs⟩:=iY hA2 hA3 l p u;obtain⟨cu,bE,eo,F,ec⟩:=iY bT v dT br dm;have e4:(k:U)<(y s:U):=by omega
     have e5:(0:U)<=(k:U):=by omega
     have k0:aW wr (R r i)=H (I ox k oc):=(hA2.cell i).trans p;have e6:c+(k*4+0)=c+k*4:=by omega
     have e7:c+(k*4+1)=c+k*4+1:=by omega
     have e8:c+(k*4+2)=c+k*4+2:=by omega
     have e9:c+(k*4+3)=c+k*4+3:=by omega
     rw[e6]at cN;rw[e7]at cS;rw[e8]at ca;rw[e9]at cb;clear hA2 hA3 l p u bT v dT br dm o cT bs an V ap bh bl j e6 e7 e8 e9;obtain⟨fu,tk,n,tn⟩:=ea;simp only at cN cS ca cb m bk;generalize cB:y (dU n)=tl at*;generalize cE:y (fP<|bX 0 n)=ti at*;generalize cM:lJ (fP<|bX 0 n)=tc at*;obtain⟨er,es,et⟩:=dF cB cE cM;clear cB cE cM;have ce:=A.ord;have bn:=X (show z (G wr)<z (G<|dd wr<|ay #[aG tn,dI tl,dI ti,dI tc] 178)by simp);go_wp2_with fail
     apply m.mono;rintro bv T⟨K3,hd,aV,N,⟨e,fk,L,rfl,al,dc,df⟩|⟨hX,q,rfl,W⟩⟩;rotate_left
     .have cm:=hd.aj;have bd:=X (show bY T db K3/\(qc K K3/\Fx K.fx K3.fx)/\∀k,K3.aL db k->K.aL db k from⟨hd.ok,⟨g.same.2.1.1.trans aV,g.same.2.1.2.trans hd.fx⟩,λk x=>g.same.2.2 k<|N k x⟩);have hX:=g.same.2.1.2.pos cp hX;have ba:=J bn;have b:=(cm.block _ (by have:=ak d;omega) (λx=>by have:=g.low _<|g.same.2.2 _ x;omega)).trans<|(gq _<|ak d).trans d;have t0:=cellAt b 0 rfl;have t1:=cellAt b 1 rfl;have t2:=cellAt b 2 rfl;have t3:=cellAt b 3 rfl;have ex:∀i,T.frozen? (R (z (G a)+1) i)=bw:=λi=>by simp[World.frozen?,b]
      obtain⟨HQ,dr,E⟩:=dF W (g.aj.trans cm<|λk hk=>.inl<|g.same.2.2 k hk) b;clear W cm b m k0 ba hd aV N;go_wp2;have aF:=aJ (i:=3) (u:=az)<|aJ (i:=2) (u:=az)<|aJ (i:=1) (u:=az)<|aJ (i:=0) (u:=az) E;have Q:=((((Z.refl (λk=>k=z (G a)+1) T).setCell (z (G a)+1) 0 az<|.inl rfl).setCell (z (G a)+1) 1 az<|.inl rfl).setCell (z (G a)+1) 2 az<|.inl rfl).setCell (z (G a)+1) 3 az<|.inl rfl;refine cy (ru rfl _ _ (z (G a)+1) _ _ _ _ _ _ rfl aF ⟨_,_,_,rfl⟩ ⟨_,_,_,rfl⟩ ⟨_,_,_,rfl⟩ ⟨_,_,_,rfl⟩) rfl ?_;exact .inr ⟨hX,q,rfl,HQ.aj Q<|λk hk _=>hk▸⟨_,78,_,E,by decide⟩,dr.trans Q (by simp),K3,bd.1.aj Q (λk x bv=>by have:=g.low k<|bd.2.2 k x;have:k=z (G a)+1:=bv;omega),bd.2.1,bd.2.2⟩
     have hA4:=g.move hd.aj (λq W=>.inl<|g.same.2.2 q W) hd.ok ⟨aV.1,⟨aV,hd.fx⟩,N⟩;have ba:=J bn;have fs:r<z (G wr):=ce.2.2;have b:=(hd.aj.block _ (by have:=ak d;omega) (λx=>by have:=g.low _<|g.same.2.2 _ x;omega)).trans<|(gq _<|ak d).trans d;have bt:Eu T db r S ⟨e,tk,n,tn⟩:=by
      refine⟨fk,L,?_,by show r<e;omega,ak al.box,by omega,?_,λaa cn hu=>⟨λx=>?_,λx=>?_⟩⟩
      .show lZ T e (aD db) tn (y<|dU n) (y<|fP<|bX 0 n) (lJ<|fP<|bX 0 n) fk 0 L az tk;rw[J er,J es,J et,J ec];exact al
      .have E:0<y (eS<|bX 0 n):=by
        have:=al.ne;rcases W:bX 0 n with _|⟨q,fx⟩
        .rw[W]at this;simp at this
        .simp[eS,rV.cells]
       have:=al.cells 0 _<|aR E;exact cF T _ this
      .have O:=(A.own hu x).2;have h2:z (G wr)<=e:=by omega
       simp only at O;omega
      .have O:=(A.own hu x).2;omega
     have bp:e∉t.flatten.map bB.tb:=λx=>by
      obtain⟨cn,hu,bv⟩:=bH.1 x;obtain⟨_,_,_,_,h2,_⟩:=A.pm cn hu;omega
     have D:=hA4.rows i _ bm ad cs;rw[J cu]at D;have k1:aW T (R r i)=H (I ox k oc):=(hA4.cell i).trans ad;have cl:r<z (G T):=hA4.ord.2.2;have eu:=X (show∀v5 w5,w5.ownsRow (r+1) 179 1 v5 (k+1) (bm.map bB.ptr++[aD e])->eJ (dd T<|ay #[aD e] 179) w5 (I ox k oc) v5->Ew a (cH w5 (R r i) v5) db K K3 (z<|G a) r mv (S.set i v5) (t.set i<|bm++[⟨e,tk,n,tn⟩])/\(cH w5 (R r i) v5).heap[z (G a)+1]?=H (ay #[az,az,az,az] 78 (0,0))/\aW w5 (R r i)=H (I ox k oc)/\w5.frozen? (R r i)=bw from by
      intro v5 w5 au bb;have E:Z aw T (dd T<|ay #[aD e] 179):=(cO aw T);have hA5:=hA4.still E;have cm:=Z.fN bb;have dr:cI (I ox k oc)≠H r:=λx=>by have:=(hA4.own ad x).1;omega
      have ew:=(cm.block r (ai cl E.size) dr).trans hA5.box;refine⟨hA5.put ad cs bb ?_ (bt.aj E cJ) bp,?_,?_,by simp[World.frozen?,ew]⟩
      .rw[af,J cu,aE];exact au
      .have bd:=ak b;exact(km v5 (by have:=J bf;omega)).trans<|(cm.block _ (ai bd E.size) (λx=>by have:=(hA4.own ad x).1;have:=J bf;omega)).trans<|(E.block _ bd id).trans b
      .exact cm.cell (E.cell k1 id cl) dr (ai cl E.size))
     have eg:=X D;clear al dc df hd aV N hA4 bt bp D m k0 ba b;go_wp2_with(first
      |(at_builtin;go_loud(refine cC _ rfl (.tmp 36) (.tmp 38) 76 rfl (r+1) 179 i0 (.pointer none) 1 8 underlying76 ey fb fd fe rfl (by decide) (.slice ox k oc) k (bm.map bB.ptr) rfl (aT eg _) (R (z (G T)) 0) 1 1 [aD e] rfl rfl (pM _ _ _) (by simp[Value.oneCell']) (by omega) (by omega) (by simp;omega) ?_;intro v5 w5 au bb;obtain⟨hA5,y2,y0,y1⟩:=eu v5 w5 au bb;obtain⟨x5,c5,rfl⟩:=aC au;have eb:=X hA5;have ek:=X y2;clear au bb hA5 y2)))
     go_roundw;case rel=>
      refine⟨k+1,K3,_,_,ao,by go_num,eb,?_,ek⟩;have O:=J F;have h2:pQ (t.set i<|bm++[⟨e,tk,n,tn⟩])=(pQ t).set i ((s.map bB.pG).take<|k+1):=by
       unfold pQ;rw[sY,aE,J bE,J eo];rfl
      rw[h2];exact O
     case measure=>simp[intOf];omega
    .have E:k=y s:=by omega
     subst E;have bh:i<y t:=by rw[hA2.CI];exact P
     obtain⟨bm,u⟩:∃bm,t[i]?=H bm:=⟨_,aR bh⟩;have bl:i<y S:=by rw[hA2.Am];exact P
     obtain⟨bc,p⟩:∃bc,S[i]?=H bc:=⟨_,aR bl⟩;have v:kh s bm:=by
      have O:=j.now _<|pP HM;rw[pP u]at O;have h2:=gP O;rw[dN<|by simp]at h2;exact h2
     have c:=hA2.TS p u (by rw[v.lens];omega);have l:=hA2.rows i bc bm p u;obtain⟨ox,oc,cj⟩:=aC l;subst cj;have k0:aW wr (R r i)=H (I ox (y bm) oc):=(hA2.cell i).trans p;have b:=(show oE (pQ w) (pQ t) i (y<|s.map bB.pG)by rw[bU];exact j).yO (pP HM) (by unfold pQ;rw[bU];exact H4);have e4:¬((y s:U)<(y s:U)):=by omega
     have A:=X hA2;have F:=X b;by_cases m:i=0
     .subst m;clear hA2 j c l u p b;go_wp2;go_roundw;case rel=>exact⟨1,_,_,_,by omega,by go_num,A,F,d⟩
      case measure=>simp[intOf]
     .have g:=Vd c (v.side<|bx i s (by omega) HM).apart;have e6:(0:U)<(i:U):=by omega
      clear hA2 j c l u p b;go_wp2_with fail
      apply g.mono;rintro bv L⟨rfl,e⟩;have n:=X<|A.still<|Z.aQ e;have D:=X<|(e.block _<|ak d).trans d;clear e g;go_wp2;go_roundw;case rel=>exact⟨i+1,_,_,_,by omega,by go_num,n,F,D⟩
      case measure=>simp[intOf];omega
  .have j:i=4:=by omega
   subst j;have v:=bg.all (by unfold pQ;rw[bU];exact H4) (by unfold pQ;rw[bU];exact B.CI);have b:=B.Am;obtain⟨l,m,n,t,rfl⟩:∃l m n t,vs=[l,m,n,t]:=by
    rcases vs with _|⟨l,_|⟨m,_|⟨n,_|⟨t,_|⟨v4,fx⟩⟩⟩⟩⟩<;>simp at b;grind
   obtain⟨c,ad,L⟩:=B.row (j:=0) rfl;obtain⟨d,al,N⟩:=B.row (j:=1) rfl;obtain⟨e,an,S⟩:=B.row (j:=2) rfl;obtain⟨g,ao,T⟩:=B.row (j:=3) rfl;obtain⟨A,y0,rfl⟩:=aC L;obtain⟨D,y1,rfl⟩:=aC N;obtain⟨E,y2,rfl⟩:=aC S;obtain⟨F,y3,rfl⟩:=aC T;have r0:=cellAt B.box 0 rfl;have r1:=cellAt B.box 1 rfl;have r2:=cellAt B.box 2 rfl;have r3:=cellAt B.box 3 rfl;have t0:=cellAt f 0 rfl;have t1:=cellAt f 1 rfl;have t2:=cellAt f 2 rfl;have t3:=cellAt f 3 rfl;have ex:∀i,wr.frozen? (R (z (G a)+1) i)=bw:=λi=>by simp[World.frozen?,f]
   obtain⟨HA,bE,ac⟩:=dF B v f;have e5:¬((4:U)<4):=by omega
   clear B bg L N S T v f b;go_wp2;have aF:=aJ (i:=3) (u:=I F (y g) y3)<|aJ (i:=2) (u:=I E (y e) y2)<|aJ (i:=1) (u:=I D (y d) y1)<|aJ (i:=0) (u:=I A (y c) y0) ac;have Q:=((((Z.refl (λk=>k=z (G a)+1) wr).setCell (z (G a)+1) 0 (I A (y c) y0)<|.inl rfl).setCell (z (G a)+1) 1 (I D (y d) y1)<|.inl rfl).setCell (z (G a)+1) 2 (I E (y e) y2)<|.inl rfl).setCell (z (G a)+1) 3 (I F (y g) y3)<|.inl rfl;refine cy (ru rfl _ _ (z (G a)+1) _ _ _ _ _ _ rfl aF ⟨_,_,_,rfl⟩ ⟨_,_,_,rfl⟩ ⟨_,_,_,rfl⟩ ⟨_,_,_,rfl⟩) rfl ?_;refine .inl ⟨A,y c,y0,D,y d,y1,E,y e,y2,F,y g,y3,rfl,K1,Ts,?_,bE⟩;rw[J bf];have hd:=HA.aH.aj Q (λk x bv=>by have:=HA.low k<|HA.same.2.2 k x;have:k=z (G a)+1:=bv;omega);exact HA.move Q (λk bv=>.inr (by have:k=z (G a)+1:=bv;have:=J bf;omega)) hd ⟨rfl,⟨⟨rfl,rfl,rfl⟩,Fx.refl _⟩,λ_ x=>x⟩
def SR.xz(s:SR)(u0 u1 u2 u3:ab)(next log a:M)(b:Bool):SR:={s with l0:=u0,l1:=u1,l2:=u2,l3:=u3,next:=next,log:=log,aP:=a,gK:=b}
def Zl{c:Prop}(bl:Y)(a:M)(s:SR)(bn:U)(next i b nf:M)(ds cw:Y->ab->ab->ab->ab->Prop)(E:Y->Prop)(r:fh)(h:cW bl a s bn)(bL:∀q,r q->q<z (G bl))(bT:¬r a)(hE:∀bm W',E bm->Z (λq=>q=a) bm W'->E W')(hL:cY bA 37 #[aD s.aH] bl λax j=>(∃B u t C w c1 D x c2 F A c3,ax=aN (dA #[dL #[aG next,aG i,aG b,I B u t,I C w c1,I D x c2,I F A c3],.nilIface])/\ds j (I B u t) (I C w c1) (I D x c2) (I F A c3)/\Z r bl j)\/c/\∃q,ax=aN (dA #[dL #[aG 0,aG 0,aG 0,az,az,az,az],fj q])/\AS j q/\Z r bl j/\E j)(hO:∀W1 bm v0 v1 v2 v3,ds W1 v0 v1 v2 v3->Z aw W1 bm->cY bA 38 #[aD s.aH,dL #[v0,v1,v2,v3]] bm λax j=>∃B u t C w c1 D x c2 F A c3 ev,ax=aN (dA #[dL #[I B u t,I C w c1,I D x c2,I F A c3],ev])/\((ev=.nilIface/\cw j (I B u t) (I C w c1) (I D x c2) (I F A c3))\/(c/\∃q,ev=fj q/\AS j q/\E j))/\Z r bm j)(hS:∀bm u0 u1 u2 u3,cw bm u0 u1 u2 u3->∀W',Z (λq=>q=a) bm W'->cw W' u0 u1 u2 u3/\cY bA 39 #[aD s.aH] W' λax j=>∃dx al,ax=aN (I dx nf al)/\Z aw W' j):cY bA 16 #[aD a] bl λax j=>(ax=aN .nilIface/\∃u0 u1 u2 u3,cW j a (s.xz u0 u1 u2 u3 next i b<|decide<|0<nf) bn/\cw j u0 u1 u2 u3/\Z (λq=>r q\/q=a) bl j)\/c/\∃q,ax=aN (fj q)/\AS j q/\E j/\Z (λq=>r q\/q=a) bl j:=by
 have cp:=ak h;have k2:=cW.cellAt h 2 rfl;obtain⟨HH,HF,HO,HS,HE⟩:=iY h bL hO hS hE;go_in
 go_wp2_with fail
 apply hL.mono;rintro ax d(⟨B,u,t,C,w,c1,D,x,c2,F,A,c3,rfl,bf,K⟩|⟨hX,q,rfl,hq,K,cj⟩);rotate_left;(.obtain⟨HQ,bt,bq⟩:=dF hq K cj;go_wp2;go_ret;exact .inr ⟨hX,q,rfl,HQ.aj (cO aw d) cJ,HE _ _ bq<|(cO aw d).mono cJ,(bt.mono<|by grind).alloc _⟩);obtain⟨g,P⟩:∃g,dd d (ay #[aG next,aG i,aG b,I B u t,I C w c1,I D x c2,I F A c3] 110)=g:=⟨_,rfl⟩;have L:Z aw d g:=by rw[<-P];exact(cO aw d)
 have f:g.heap[z<|G d]?=H (ay #[aG next,aG i,aG b,I B u t,I C w c1,I D x c2,I F A c3] 110 (0,0)):=by rw[<-P];exact aK _ rfl
 have au:Z r bl g:=K.cz L;have Q:cW g a s bn:=(au.block a cp bT).trans HH;have dk:=K.size;obtain⟨bv,ba,br,bu,O,p⟩:=lw P L bf au Q f;clear bf K au Q f P L hL;go_wp2_with fail
 rw[J bv];rename_i KK cb;have Q:=J O;have f:=J p;have ce:aW g.drew (R a 2)=H (aD s.aH)/\aW g.drew (R (z<|G d) 3)=H (I B u t)/\aW g.drew (R (z<|G d) 4)=H (I C w c1)/\aW g.drew (R (z<|G d) 5)=H (I D x c2)/\aW g.drew (R (z<|G d) 6)=H (I F A c3):=⟨Q.cell rfl,by show aW g _=_;rw[ct f];rfl,by show aW g _=_;rw[ct f];rfl,by show aW g _=_;rw[ct f];rfl,by show aW g _=_;rw[ct f];rfl⟩;have bs:=X (show∀c:Y,(∀q,q=a\/q=z (G d)->c.heap[q]?=g.heap[q]?)->aW c (R a 2)=H (aD s.aH)/\aW c (R (z<|G d) 3)=H (I B u t)/\aW c (R (z<|G d) 4)=H (I C w c1)/\aW c (R (z<|G d) 5)=H (I D x c2)/\aW c (R (z<|G d) 6)=H (I F A c3)fromλc hX=>by have hb:cW c a s bn:=(hX a<|.inl rfl).trans O;have hs:=(hX _<|.inr rfl).trans p;exact⟨hb.cell rfl,by rw[ct hs];rfl,by rw[ct hs];rfl,by rw[ct hs];rfl,by rw[ct hs];rfl⟩);refine eH (λ(c:Y)=>aW c (R a 2)=H (aD s.aH)/\aW c (R (z<|G d) 3)=H (I B u t)/\aW c (R (z<|G d) 4)=H (I C w c1)/\aW c (R (z<|G d) 5)=H (I D x c2)/\aW c (R (z<|G d) 6)=H (I F A c3)) 14 (by kernel_rfl) ?_;refine fw 0 ?_;iterate 7 (refine iS (v:=?_) ce rfl (by kernel_rfl) lQ rfl ?_ ?_;rotate_left;(focus(rintro c⟨z2,y3,y4,y5,y6⟩;go_simp;try rfl));simp only[Act.put,ig,Nat.reduceAdd])
 apply iG;refine bG (i:=7) rfl rfl (by kernel_rfl) ?_;intro K7 ca;go_simp;apply(HO d g.drew _ _ _ _ br<|ba.cz<|dh aw g).mono;rintro ax S⟨z0,l0,d0,z1,l1,d1,z2,l2,d2,z3,l3,d3,ev,rfl,cl,cq⟩;have N:Z r g S:=(dh r g).trans cq<|λ_ al=>.inl al;have cu:=ak p
 have o:∀q,q=a\/q=z (G d)->S.heap[q]?=g.heap[q]?:=λq hq=>N.block q (by have:=ak O;rcases hq with al|al<;>omega) (λal=>by
  rcases hq with dv|dv
  .grind
  .have:=HF q al;omega)
 have bg:=bs S o;refine ca _ _ (λ_=>bg) ?_;refine fw 8 ?_;iterate 5 (refine iS (v:=?_) bg rfl (by kernel_rfl) lQ rfl ?_ ?_;rotate_left;(focus(rintro c⟨z2,y3,y4,y5,y6⟩;go_simp;try rfl));simp only[Act.put,ig,Nat.reduceAdd])
 apply iG;refine bG (i:=13) rfl rfl (by kernel_rfl) ?_;intro cx bb;have m:cW S a s bn:=(o a<|.inl rfl).trans O;have fz:∀bo,S.frozen? (R a bo)=bw:=λbo=>m.free;have cN:=cW.cellAt m 10 rfl;have cS:=cW.cellAt m 11 rfl;have cT:=cW.cellAt m 12 rfl;have db:=cW.cellAt m 13 rfl;go_simp;obtain⟨l,an⟩:∃l,cH (cH (cH (cH S (R a 10)<|I z0 l0 d0) (R a 11)<|I z1 l1 d1) (R a 12)<|I z2 l2 d2) (R a 13) (I z3 l3 d3)=l:=⟨_,rfl⟩;have n:cW l a {s with l0:=I z0 l0 d0,l1:=I z1 l1 d1,l2:=I z2 l2 d2,l3:=I z3 l3 d3} bn:=by rw[<-an];exact(aJ<|aJ<|aJ<|aJ m).trans rfl
 have k:Z (λq=>q=a) S l:=by rw[<-an];exact(((iT a S).setCell a 11 _<|.inl rfl).setCell a 12 _<|.inl rfl).setCell a 13 _<|.inl rfl
 have e:l.heap[z<|G d]?=H (ay #[aG next,aG i,aG b,I B u t,I C w c1,I D x c2,I F A c3] 110 (0,0)):=(k.block _ (by have:=N.size;omega)<|by omega).trans<|(o _<|.inr rfl).trans p;rw[an];have cd:aW l (R a 2)=H (aD s.aH)/\aW l (R (z<|G d) 3)=H (I B u t)/\aW l (R (z<|G d) 4)=H (I C w c1)/\aW l (R (z<|G d) 5)=H (I D x c2)/\aW l (R (z<|G d) 6)=H (I F A c3):=⟨n.cell rfl,by rw[ct e];rfl,by rw[ct e];rfl,by rw[ct e];rfl,by rw[ct e];rfl⟩;refine bb _ _ (λ_=>cd) ?_;refine bG (i:=14) rfl rfl (by kernel_rfl) ?_;intro cB bc;go_simp;refine bc _ _ IY ?_;refine fm (by kernel_rfl) ?_ _;show KK _ _;apply cb;have s0:=cellAt e 0 rfl;have s1:=cellAt e 1 rfl;have s2:=cellAt e 2 rfl;have v9:=cW.cellAt n 9 rfl;have dn:=cW.cellAt n 14 rfl;have dr:=cW.cellAt n 17 rfl;have cM:∀bo,l.frozen? (R a bo)=bw:=λbo=>n.free;have cv:z (G d)≠a:=by omega
 have df:=ak n;have dc:=ak e;have ac:Z (λq=>r q\/q=a) bl l:=((bu.mono (T:=λq=>r q\/q=a)<|by grind).trans N<|by grind).trans k (by simp);rcases cl with⟨rfl,cc⟩|⟨hX,q,rfl,hq,ck⟩;rotate_left;(.obtain⟨HQ,ad,bq⟩:=dF (hq.aj k m.sep) ac<|HE _ _ ck k;go_wp2;go_ret;exact .inr ⟨hX,q,rfl,HQ,bq,ad⟩);obtain⟨aV,bp,V,ad⟩:=gw (HS S _ _ _ _ cc) n k ac;go_wp2_with fail
 rename_i bE bd;apply Oj bE;(.intro bq;(go_region);all_goals exact bq);refine bd _ _ ?_;obtain⟨W6,ao⟩:∃W6,(cH (cH (cH l (R a 14)<|aG next) (R a 17)<|aG i) (R a 9)<|aG b).drew=W6:=⟨_,rfl⟩;have aa:Z (λq=>q=a) l W6:=by rw[<-ao];exact(((iT a l).setCell a 17 _<|.inl rfl).setCell a 9 _<|.inl rfl).trans (dh (λq=>q=a) _)<|λ_ al=>.inl al
 have bh:cW W6 a (s.xz (I z0 l0 d0) (I z1 l1 d1) (I z2 l2 d2) (I z3 l3 d3) next i b s.gK) bn:=by rw[<-ao];exact Eq.trans (show _=_ from aJ<|aJ<|aJ bp) rfl
 have cn:=aV W6<|V.trans aa<|λ_ al=>.inl al;have r2:=cW.cellAt bh 2 rfl;have cm:=cn.2;obtain⟨aF,W,bx⟩:=dF bh aa ao;rw[J bx];go_wp2_with fail
 apply cm.mono;rintro ax w7⟨x7,c7,rfl,av⟩;have ap:cW w7 a (s.xz (I z0 l0 d0) (I z1 l1 d1) (I z2 l2 d2) (I z3 l3 d3) next i b s.gK) bn:=(av.block a (ak aF) id).trans aF;have dm:=cW.cellAt ap 21 rfl;have cE:w7.frozen? (R a 21)=bw:=ap.free;have bk:Z (λq=>q=a) w7 (cH w7 (R a 21)<|aM<|decide<|0<nf):=(iT a w7);have ch:cW (cH w7 (R a 21)<|aM<|decide<|0<nf) a (s.xz (I z0 l0 d0) (I z1 l1 d1) (I z2 l2 d2) (I z3 l3 d3) next i b<|decide<|0<nf) bn:=(aJ ap).trans rfl;have bi:=((V.trans W<|λ_ al=>.inl al).cz av).trans bk<|λ_ al=>.inl al;have co:=(aV _ bi).1;have cr:Z (λq=>r q\/q=a) bl (cH w7 (R a 21)<|aM<|decide<|0<nf):=((ad.trans W<|by simp).cz av).trans bk (by simp);have aU:=X<|And.intro ch (And.intro co cr);have cs:decide ((0:U)<(nf:U))=decide (0<nf):=by simp
 go_wp2;go_ret;exact .inl ⟨rfl,I z0 l0 d0,I z1 l1 d1,I z2 l2 d2,I z3 l3 d3,aU⟩
structure Vg(fs:Fs)(W:Y)(db sb:M)(f:DK)(u0 u1 u2 u3:ab)(a b c d a' b' c' d':cP):Prop where
 aH:bY W db f
 l0:DE fs W f db sb u0 a'
 l1:DE fs W f db sb u1 b'
 l2:DE fs W f db sb u2 c'
 l3:DE fs W f db sb u3 d'
 k0:kh a a'
 k1:kh b b'
 k2:kh c c'
 k3:kh d d'
 DY:((a'++b'++c'++d').map bB.tb).Nodup
structure YA(db:M)(K f:DK):Prop where
 pC:qc K f
 fx:Fx K.fx f.fx
 aL:∀k,f.aL db k->K.aL db k
theorem YA.trans{db:M}{K i f:DK}(h:YA db K i)(k:YA db i f):YA db K f:=⟨h.pC.trans k.pC,h.fx.trans k.fx,λq c=>h.aL q<|k.aL q c⟩
section
variable{fs fs':Fs}{W j:Y}{db sbqq:M}{K i f l:DK}{u0 u1 u2 u3:ab}{a b c d a' b' c' d':cP}
theorem Vg.TR(h:Vg fs W db sbqq f u0 u1 u2 u3 a b c d a' b' c' d'):kh (a++b++c++d) (a'++b'++c'++d'):=((h.k0.append h.k1).append h.k2).append h.k3
theorem Vg.fa(k:Vg fs W db sbqq f u0 u1 u2 u3 a b c d a' b' c' d')(h:fO W j db sbqq f l)(m:∀t∈a++b++c++d,cX fs' (fG t.num)=cX fs (fG t.num)):Vg fs' j db sbqq l u0 u1 u2 u3 a b c d a' b' c' d':=by
 have n:∀t∈a'++b'++c'++d',cX fs' (fG t.num)=cX fs (fG t.num):=λt o=>by obtain⟨u,p,q⟩:=k.TR.mem o;rw[<-wi q];exact m u p
 exact⟨h.ok,k.l0.fa h (by grind),k.l1.fa h (by grind),k.l2.fa h (by grind),k.l3.fa h (by grind),k.k0,k.k1,k.k2,k.k3,k.DY⟩
theorem Vg.aj(k:Vg fs W db sbqq f u0 u1 u2 u3 a b c d a' b' c' d')(h:Z (λq=>q=sbqq) W j)(m:¬f.aL db sbqq):Vg fs j db sbqq f u0 u1 u2 u3 a b c d a' b' c' d':=k.fa ⟨k.aH.aj h (by grind),h.mono (by simp),λ_ c=>.inl c,Fx.refl _⟩<|λ_ _=>rfl
theorem oZ.of{t:bB}(h:Cj t):t.oZ:=by
 refine⟨h.num,by have:=h.small;omega,?_⟩;rw[h.ks];have m:=ov (ks:=bX 0 t.cs)<|λn k=>(h.idx.can n k).fits;have k:=h.idx.len;unfold fP;rw[af,cg];omega
theorem wk{w:Y}{h p:M}{v:ab}{o:ix}(q:Row w h v p o):∃x c,v=I x p c:=by
 obtain⟨s,⟨n,r⟩|⟨t,m,k,n,_⟩⟩:=q;grind
 grind
theorem Ew.E6{x W:Y}{gb S:M}{mv:ix}{q:ci cP}(p:Ew x W db i f gb S mv [u0,u1,u2,u3] q)(F:pQ q=pQ [a,b,c,d])(aa:sbqq<z (G x))(s:∀t∈a++b++c++d,Cj t)(hf:∀t∈a++b++c++d,cX fs (fG t.num)=H (pu t.cs)):∃a' b' c' d',Vg fs W db sbqq f u0 u1 u2 u3 a b c d a' b' c' d':=by
 have v:=p.CI;obtain⟨a',b',c',d',rfl⟩:∃a' b' c' d',q=[a',b',c',d']:=by rcases q with _|⟨k,_|⟨u,_|⟨A,_|⟨T,_|⟨V,ac⟩⟩⟩⟩⟩<;>simp at v;grind
 simp only[pQ,bR,iz,ni,vR]at F;obtain⟨s0,s1,s2,s3⟩:=F;have L:kh a a':=s0;have O:kh b b':=s1;have P:kh c c':=s2;have Q:kh d d':=s3;have E:=p.ord;have n:kh (a++b++c++d) (a'++b'++c'++d'):=((L.append O).append P).append Q;have o:=n.j4 s;have h:∀r,S<r->r<z (G W)->Aside W f db sbqq r:=λr m k=>⟨k,λc=>by have:=p.low r<|p.same.2.2 r c;omega,by omega⟩;have D:∀t∈a'++b'++c'++d',sD W db fs (Aside W f db sbqq) t:=λt u=>by obtain⟨A,k,B,T,V,g3,g4,_⟩:=p.pm t (by simpa using u);obtain⟨q1,q2,q3,q4,q5⟩:=o t u;refine⟨⟨A,0,k,B,h A g3 g4⟩,h t.tb T V,q1,q5,q2,q3,q4,?_⟩;obtain⟨ad,hu,ac⟩:=n.mem u;rw[<-wi ac,<-Bl ac];exact hf ad hu
 have m:∀(u:M)(A:ab)(T:cP),[u0,u1,u2,u3][u]?=H A->[a',b',c',d'][u]?=H T->(∀t∈T,t∈a'++b'++c'++d')->DE fs W f db sbqq A T:=λu A T k V B=>
  ⟨dR<|p.rows u A T k V,λr m=>h r (p.own k m).1 (p.own k m).2,(by grind)⟩
 refine⟨a',b',c',d',p.aH,m 0 _ _ rfl rfl (by grind),m 1 _ _ rfl rfl (by grind),m 2 _ _ rfl rfl (by grind),m 3 _ _ rfl rfl (by grind),L,O,P,Q,?_⟩;have:=p.DY;grind
end
structure re(w:Y)(db:M)(mem kK:U)(K:DK)(C N:M)(g:RS)(nx lg tb:M)(a b c d:cP)(dO:Bool)(ls:dX):Prop where
 aH:bY w db K
 qP:P7 (vw K.files) mem kK C N g nx lg tb a b c d dO ls
 jV:C<=1000000
 xW:N<=100000000
 eP:∀ns,List.Perm ns (K.files.map aX.name)->y K.eP+y (lP lg (a++b++c++d) ns)<=9000000+2*N
 steps:Steps w
 pow:Pow w
 fR:¬K.aL db 1
 mz:¬K.aL db 2
section
variable{w w':Y}{db:M}{mem tabqq:U}{K:DK}{C N:M}{g:RS}{nx lg tbqq:M}{a b c d:cP}{e:Bool}{lsqq:dX}
theorem re.aj(h:re w db mem tabqq K C N g nx lg tbqq a b c d e lsqq)(k:Z aw w w'):re w' db mem tabqq K C N g nx lg tbqq a b c d e lsqq:={h with aH:=h.aH.aj k<|λ_ _=>id,steps:=Steps.aj h.steps k id,pow:=h.pow.aj k id}
theorem yp(fs:ci aX):(vw fs).map (·.1)=fs.map aX.name:=by unfold vw;rw[ee];rfl
theorem re.files(h:re w db mem tabqq K C N g nx lg tbqq a b c d e lsqq):y K.files<=4000000:=by
 have:=h.qP.rD.BY.len h.aH.nodup;simpa[vw]using this
theorem re.count(h:re w db mem tabqq K C N g nx lg tbqq a b c d e lsqq):y (a++b++c++d)<=1000000:=by
 have p:=h.qP.rD.jf;have k:=Bf (ts:=a) (by grind);have m:=Bf (ts:=b) (by grind);have n:=Bf (ts:=c) (by grind);have o:=Bf (ts:=d) (by grind);have:=h.qP.sI;have:=h.jV;grind
theorem re.oY(v:re w db mem tabqq K C N g nx lg tbqq a b c d e lsqq)(r:cX (vw K.files) dE=none):∀W,Pow W->∀t∈K.files.map aX.name,ZW W t:=by
 intro W s t p;rw[<-yp]at p;obtain⟨o,h⟩:=su p;have k:=v.qP.rD.first r t o;rcases v.qP.rD.names t o h with m|m|⟨u,q,m|m⟩;rw[m,r]at h;cases h;exact⟨0,bw,by omega,λj _=>by rw[m];exact FW j⟩;exact⟨u,cf,k u h<|.inl m,λj n=>by rw[m];exact FU q<|s.aj n id⟩;exact⟨u,cf,k u h<|.inr m,λj n=>by rw[m];exact FX q<|s.aj n id⟩
theorem TP{sbqq:M}{aV:U}{L:SR}(ba:cW w sbqq L aV)(hs:L.aH=db)(E:¬K.aL db sbqq)(m:re w db mem tabqq K C N g nx lg tbqq a b c d e lsqq):cY bA 16 #[aD sbqq] w λQ w'=>(Q=aN .nilIface/\∃u0 u1 u2 u3,cW w' sbqq (L.xz u0 u1 u2 u3 nx lg tbqq<|decide<|0<y K.files) aV/\(∃f a' b' c' d',Vg (vw K.files) w' db sbqq f u0 u1 u2 u3 a b c d a' b' c' d'/\YA db K f)/\Z (λq=>K.aL db q\/q=sbqq) w w')\/0<K.fx.bd/\∃q,Q=aN (fj q)/\AS w' q/\(∃f,bY w' db f/\YA db K f)/\Z (λq=>K.aL db q\/q=sbqq) w w':=by
 subst hs;have p:=m.aH;have s:=m.qP.rD;have F:=ak ba;have aU:=m.count;have ao:nx<18446744073709551616:=by have:=m.qP.nx;have:=m.xW;omega
 have av:tbqq<18446744073709551616:=by have:=m.qP.bn;have:=m.xW;omega
 have T:y K.files<=100000000:=by have:=m.files;omega
 refine Zl w sbqq L aV nx lg tbqq (y K.files) (λw' v0 v1 v2 v3=>∃i,bY w' L.aH i/\YA L.aH K i/\Z (K.aL L.aH) w w'/\∀(x:M)(P:ab)(O:cP),[v0,v1,v2,v3][x]?=H P->[a,b,c,d][x]?=H O->Row w' 4 P (y O) (dH O)/\∀q,cI P=H q->z (G w)<=q/\q<z (G w')) (λw' u0 u1 u2 u3=>∃f a' b' c' d',Vg (vw K.files) w' L.aH sbqq f u0 u1 u2 u3 a b c d a' b' c' d'/\YA L.aH K f) (λw'=>∃f,bY w' L.aH f/\YA L.aH K f) (K.aL L.aH) ba p.lt E ?_ ?_ ?_ ?_;rintro W j⟨f,t,k⟩r;exact⟨f,t.aj r<|λq c Q=>E<|k.aL _<|Q▸c,k⟩;rcases s.state with t|⟨t,rfl,rfl,rfl,rfl,rfl,rfl,rfl⟩;apply(TN nx lg tbqq [a,b,c,d] p m.steps m.fR rfl ao s.lt av (by grind) (λaF r=>oZ.of<|s.jf aF<|by simpa using r) (by simpa using s.oY) (λaF r=>s.low aF<|by simpa using r) t).mono;rintro Q w'(⟨x0,S,V,x1,n1,c1,x2,n2,c2,x3,n3,c3,rfl,h,i,k,u,v⟩|⟨i,k,u,v,B,q,rfl,n⟩);exact .inl ⟨x0,S,V,x1,n1,c1,x2,n2,c2,x3,n3,c3,rfl,⟨i,k.ok,⟨u,k.fx,v⟩,k.aj,λx P O o A=>⟨dR<|h x P O o A,λq n=>(h x P O o A).lt q n⟩⟩,k.aj⟩;exact .inr ⟨B,q,rfl,n,k.aj,i,k.ok,u,k.fx,v⟩;refine(TO p T m.pow m.mz (m.oY t) t).mono ?_;rintro Q w'⟨i,k,u,v,rfl|⟨B,q,rfl,n⟩⟩;refine .inl ⟨none,0,0,none,0,0,none,0,0,none,0,0,rfl,⟨i,k.ok,⟨u,k.fx,v⟩,k.aj,λx P O o A=>?_⟩,k.aj⟩;(have Q:P=az/\O=[]:=by rcases x with _|_|_|_|x<;>simp at o A<;>exact⟨o.symm,A⟩);rw[Q.1,Q.2];exact⟨⟨rfl,.inl ⟨rfl,rfl⟩⟩,λq n=>by cases n⟩;exact .inr ⟨B,q,rfl,n,k.aj,i,k.ok,u,k.fx,v⟩;(.rintro W1 W v0 v1 v2 v3⟨i,aa,k,au,h⟩t;obtain⟨x0,V,e0⟩:=wk (h 0 _ _ rfl rfl).1;obtain⟨x1,c1,u⟩:=wk (h 1 _ _ rfl rfl).1;obtain⟨x2,c2,e2⟩:=wk (h 2 _ _ rfl rfl).1;obtain⟨x3,c3,v⟩:=wk (h 3 _ _ rfl rfl).1;subst e0 u e2 v;have B:Z (K.aL L.aH) w W:=au.cz t;refine(FR (db:=L.aH) (K:=i) [a,b,c,d] x0 x1 x2 x3 _ V _ c1 _ c2 _ c3 (aa.aj t<|λ_ _=>id) (Steps.aj m.steps B m.fR) (m.pow.aj B m.mz) (λq=>m.fR<|k.aL _ q) (λq=>m.mz<|k.aL _ q) rfl (λx P bb o D=>t.row (h x P bb o D).1<|by grind) (λx P o q n=>?_) (λaF r=>s.jf aF<|by simpa using r) (λaF r=>by rw[k.pC.1];exact s.pm aF<|by simpa using r) (λx bb hj D=>?_)<|by grind).mono ?_;(have hj:∃O,[a,b,c,d][x]?=H O:=by rcases x with _|_|_|_|x;simp_all;simp_all;simp_all;simp_all;simp at o);obtain⟨O,A⟩:=hj;have S:=(h x P O o A).2 q n;exact⟨ai S.2 t.size,λh=>by have:=p.lt q<|k.aL q h;omega⟩;(have S:=m.qP.s1;have g2:=m.qP.s2;have g3:=m.qP.s3;grind);(.rintro Q w'(⟨y0,m0,d0,y1,m1,d1,y2,m2,d2,y3,m3,d3,rfl,f,Ts,S,ap⟩|⟨hx,q,rfl,n,ax,f,ac,⟨al,an⟩,ad⟩);rotate_left;exact⟨none,0,0,none,0,0,none,0,0,none,0,0,_,rfl,.inr ⟨k.fx.pos p.tu hx,q,rfl,n,f,ac,k.trans ⟨al,an,ad⟩⟩,ax.mono<|λq c=>.inl<|k.aL q c⟩;refine⟨y0,m0,d0,y1,m1,d1,y2,m2,d2,y3,m3,d3,_,rfl,.inl ⟨rfl,?_⟩,S.aj.mono<|λq c=>.inl<|k.aL q c⟩;obtain⟨a',b',c',d',n⟩:=S.E6 (sbqq:=sbqq) (fs:=vw K.files) ap (ai F B.size) s.jf s.pm;exact⟨f,a',b',c',d',n,k.trans ⟨S.same.2.1.1,S.same.2.1.2,S.same.2.2⟩⟩));rintro W u0 u1 u2 u3⟨f,a',b',c',d',n,D⟩j r;have k:=n.aj r<|λc=>E<|D.aL _ c;refine⟨⟨f,a',b',c',d',k,D⟩,?_⟩;refine(Gn k.aH (by rw[D.pC.1];exact T)).mono ?_;rintro Q w'⟨v',ns,rfl,S,B,aa⟩;obtain⟨ac,cc,o⟩:=aC B;(have t:y ns=y K.files:=by have:=S.length_eq;rw[D.pC.1]at this;grind);rw[o,t];grind
end
theorem MP{tbqq:M}{lsqq:dX}(r:wE ((tbqq:U)+1) lsqq):lq lsqq=gT [] lsqq.flatten/\eh (gT [] lsqq.flatten)/\kq (tbqq+y lsqq:M) (gT [] lsqq.flatten)=gT [] lsqq.flatten/\rH 5 (gT [] lsqq.flatten)/\y (gT [] lsqq.flatten)<=(lsqq.map y).sum:=by
 obtain⟨h,k,m,g⟩:=YV r (y lsqq)<|ag _;rw[aY]at h k m g;have p:(tbqq:U)+1+y lsqq-1=((tbqq+y lsqq:M):U):=by grind
 rw[p]at g;have o:=IS lsqq;rw[<-h];refine⟨rfl,k.mJ,g,?_,o⟩;rcases xU lsqq with q|⟨t,l,q⟩;rw[q];exact rH.nil _;grind[Av,CA,IQ]
theorem VC{g:eF}(h:yr g=bw):g=[]:=by
 cases g with
 |nil=>rfl
 |cons _ _=>cases h
theorem An(lg:M)(g:cP):nL lg g dE=cf:=by simp[nL]
theorem Be(lg:M)(g:cP):nL lg g (dj lg)=cf:=by simp[nL]
theorem EX{lg:M}{g:cP}{t:bB}(h:t∈g):nL lg g (fG t.num)=cf:=by
 unfold nL;rw[Bool.or_eq_true,rj];grind
theorem St{lg:M}{k g:cP}(o:kh k g):nL lg g=nL lg k:=by
 funext x;unfold nL;congr 1;have m:=o.map (λt=>decide<|x=fG t.num)<|λ_=>rfl;have h:∀l:cP,l.any (λt=>decide<|x=fG t.num)=(l.map<|λt=>decide<|x=fG t.num).any id:=(by simp);rw[h,h,m]
theorem TV{lg:M}{h g:cP}(k:kh h g)(j:ci ae):lP lg g j=lP lg h j:=by
 unfold lP;rw[St k]
section
variable{fs:Fs}{nx lg tbqq:M}{a b c d a' b' c' d':cP}{e:Bool}{lsqq:dX}{j:ci ae}{mem tabqq:U}{C N:M}{n:RS}
theorem mO.del(h:mO fs nx lg tbqq a b c d e lsqq)(g:(fs.map (·.1)).Nodup)(B:∀m∈j,nL lg (a++b++c++d) m=bw):mO (ve fs j) nx lg tbqq a b c d e lsqq:=by
 have o:∀m,nL lg (a++b++c++d) m=cf->cX (ve fs j) m=cX fs m:=λm q=>mW (by grind);have r:=o _<|An lg<|a++b++c++d;have p:=o _<|Be lg<|a++b++c++d;refine{h with names:=λm k q=>h.names m k (rE g q).2,BY:=?_,first:=λq m k A x=>h.first (by rw[<-r];exact q) m k A (rE g x).2,Dg:=λq=>by rw[p];exact h.Dg q,state:=by rw[r];exact h.state,log:=λq=>by rw[p];exact h.log q,pm:=λD t=>by rw[o _<|EX t];exact h.pm D t};obtain⟨L,u,v⟩:=h.BY;exact⟨L,u,λA k q=>v A k (rE g q).2⟩
theorem mO.rD(h:mO fs nx lg tbqq a b c d e lsqq)(p:∀o k,cX fs o=H k->nL lg (a++b++c++d) o=cf):Hm fs nx lg tbqq a b c d e lsqq where
 names:=λo k q=>by
  have:=p o k q;rw[LR]at this;rcases this with m|m|⟨t,r,m⟩
  .grind
  .simp only[Value.string.injEq]at m;refine .inr<|.inl ⟨m,?_⟩;cases g:e with
   |true=>rfl
   |false=>
    have:=h.Dg g;rw[<-m,q]at this;cases this
  grind
 state:=h.state
 log:=h.log
 um:=h.um
 pm:=h.pm
 oY:=h.oY
 low:=h.low
 lt:=h.lt
 jf:=h.jf
end
section
variable{K K':DK}{lg tbqq nx j0:M}{a b c d:cP}{e:Bool}{lsqq:dX}{l:ci nU}{j:ci ae}
theorem uG.Y0(B:uG K lg (a++b++c++d))(E:yf K lg tbqq lsqq j0)(D:mO (vw K.files) nx lg tbqq a b c d e lsqq)(t:∀u∈j,nL lg (a++b++c++d) u=bw)(o:l<+:j.map .rm)(g:jT l K K')(x:(fF K').Nodup):uG K' lg (a++b++c++d)/\yf K' lg tbqq lsqq j0/\mO (vw K'.files) nx lg tbqq a b c d e lsqq:=by
 have L:∀u∈j,¬pY (a++b++c++d) u/\u≠dj lg:=λu q=>by have p:=t u q;refine⟨?_,λA=>by rw[A,Be]at p;cases p⟩;rintro(A|⟨O,F,A⟩);rw[A,An]at p;cases p;grind[EX]
 have m:∀v∈l,ZV lg (a++b++c++d) v/\(0<j0->v≠ .cr (dj lg))/\v≠ .sy (dj lg):=λv q=>by obtain⟨F,A,rfl⟩:=bH.1<|o.subset q;exact⟨L F A,λ_ p=>(by cases p),λp=>(by cases p)⟩
 have r:((vw K.files).map (·.1)).Nodup:=by unfold vw;rw[ee];exact B.Gm.names
 have k:∀{h:ci nU}{i:DK},h<+:j.map .rm->jT h K i->mO (vw i.files) nx lg tbqq a b c d e lsqq:=λ{h i}o g=>by(have A:h=(j.take<|y h).map .rm:=by obtain⟨O,F⟩:=o;rw[vy,<-F,ld]);rw[A]at g;rw[(FQ g).1];exact D.del r<|by grind
 exact⟨uG.ops (λv q=>(m v q).1) B g x<|λh i p t r=>(k (p.trans o) t).tu r,yf.ops (T:=a++b++c++d) m E B.Gm g x,k o g⟩
theorem uG.start(q:K.sm=K.files.map aX.nm)(r:K.eP=[])(t:(fF K).Nodup)(u:(K.files.map aX.name).Nodup)(h:mO (vw K.files) nx lg tbqq a b c d e lsqq)(p:∀F∈K.files,F.safe=y F.bytes):uG K lg (a++b++c++d)/\yf K lg tbqq lsqq (y lsqq):=by
 have o:qN K:=qN.start q r u t;have v:∀m,m<=y K.eP->iX K m=K.files.map aX.nm:=λm g=>by grind[qN.now]
 refine⟨⟨o,λm g=>by rw[v m g];exact Vo.YO<|h.tu o,λB _ F hF=>p F (dq hF).2.1⟩,⟨ag _,λ_ m g=>by rw[v m g];rfl,λ_ F hF=>?_⟩⟩;rw[aY,p F (dq hF).2.1]
 have k:e=cf:=by
  cases k:e with
  |true=>rfl
  |false=>
   have:=h.Dg k;rw[kQ,hF]at this;cases this
 obtain⟨A,_,x⟩:=h.log k;rw[kQ,hF]at x;rw[gP x,zJ,af];omega
theorem uG.TR{T k:cP}(m:uG K lg T)(p:kh T k):uG K lg k:=by
 have g:∀h,pY k h->pY T h:=by rintro h(q|⟨t,r,q⟩);exact .inl q;obtain⟨u,g,v⟩:=p.mem r;exact .inr ⟨u,g,by rw[q];have o:u.pG.num=t.pG.num:=(by rw[v]);exact bS fG<|show t.num=u.num from o.symm⟩
 exact⟨m.Gm,λo k=>{m.G5 o k with I6:=λh q=>(m.G5 o k).I6 h (g h q)},λh q=>m.J5 h<|g h q⟩
end
structure H7(w w':Y)(db sb:M)(mem kK:U)(K:DK)(C N:M)(R0:RS)(Hqq:Prop)(Q:RS->Prop)(s:SR)(K':DK)(m:cU)(a b c d:cP)(tb:M)(ls:dX):Prop where
 box:cW w' sb s 0
 inv:Inv w' sb s K' m a b c d C tb N ls []
 tid:GY s a b c
 rl:∀q,eM s.aP (m::bV a b c d) q=R0 q
 same:s.aH=db/\s.closed=bw/\s.mem=mem/\s.kK=kK/\s.zY=0/\s.mP=H (z (G w)+1)
 fa:fO w w' db sb K K'
 size:z (G w)+4<=z (G w')
 aL:∀k,K'.aL db k->K.aL db k\/z (G w)+4<=k
 cq:Hqq->CQ K' s a b c d tb ls Q
 nil:K.files=[]->K'.files=[]/\s.pj=bw
def Hc(w w':Y)(db sbqq:M)(mem tabqq:U)(K:DK)(C N:M)(h:RS)(g:Prop)(Q:RS->Prop):Prop:=∃s K' m a b c d tbqq lsqq,H7 w w' db sbqq mem tabqq K C N h g Q s K' m a b c d tbqq lsqq
def Z1(w w':Y)(db:M)(mem tabqq:U)(K:DK)(C N:M)(g:Prop)(Q:RS->Prop)(q:M):Prop:=∃K' c,bY w' db K'/\(g->CP K' mem tabqq C N Q)/\Z (K.aL db) w w'/\(∀k,K'.aL db k->K.aL db k\/z (G w)<=k)/\Fx K.fx K'.fx/\sF w' q c/\Sm K.fx c
structure Y9(w W:Y)(db sb:M)(mem kK:U)(K:DK)(nx lg tb:M)(dO:Bool)(ls:dX)(a b c d:cP)(s:SR)(K':DK)(a' b' c' d':cP):Prop where
 box:cW W sb s 0
 PT:Vg (vw K.files) W db sb K' s.l0 s.l1 s.l2 s.l3 a b c d a' b' c' d'
 pC:qc K K'
 fa:fO w W db sb K K'
 aL:∀k,K'.aL db k->K.aL db k\/z (G w)+4<=k
 same:s.aH=db/\s.closed=bw/\s.mem=mem/\s.kK=kK/\s.zY=0/\s.mP=H (z (G w)+1)
 oY:s.next=nx/\s.log=lg/\s.dO=dO/\s.aP=tb+y ls/\s.eG=(ls.map y).sum/\(s.pj=bw->dO=cf->cX (vw K.files) (dj lg)=H (kO ((tb:U)+1) ls))
 lo:s.iU=cf->s.dO=cf
 ol:s.dO=cf->s.iU=cf/\s.gK=cf
 nt:K.files=[]->s.pj=bw
 mem:kJ W s.memory (gT [] ls.flatten)
 tg:∀k,cI s.memory=H k->Aside W K' db sb k
 AP:OL W K' sb s []
 size:z (G w)+4<=z (G W)
section
variable{w W w':Y}{db sbqq:M}{mem tabqq:U}{K i f:DK}{C N:M}{n:RS}{nx lg tbqq:M}{a b c d a' b' c' d':cP}{e:Bool}{lsqq:dX}{s:SR}
theorem Bw{w:Y}{db:M}{fs:Fs}{A:fh}{t:bB}(m:sD w db fs A t):Sk w t:=by
 obtain⟨o,h,g,k,_⟩:=m.mem;exact⟨m.num,_,_,_,_,_,_,_,_,k⟩
theorem U2{fs:Fs}{sbqq:M}{k:U}(m:DE fs W K db sbqq s.l0 a)(o:DE fs W K db sbqq s.l1 b)(p:DE fs W K db sbqq s.l2 c)(q:DE fs W K db sbqq s.l3 d)(t:y (a++b++c++d)<=1000000)(r:cW W sbqq s k):Ey W sbqq 10 [(s.l0,a),(s.l1,b),(s.l2,c),(s.l3,d)]:=by
 refine⟨rfl,λh g=>?_,λh g=>?_,λh g=>?_,?_⟩;(have:h=0\/h=1\/h=2\/h=3:=by grind);rcases this with rfl|rfl|rfl|rfl<;>exact r.cell rfl;grind[DE.row]
 (have:h=0\/h=1\/h=2\/h=3:=by grind);rcases this with rfl|rfl|rfl|rfl;exactλk g=>(m.loc k g).lt;exactλk g=>(o.loc k g).lt;exactλk g=>(p.loc k g).lt;exactλk g=>(q.loc k g).lt;simp only[af]at t;simp[mq];omega
theorem Qt(g:re w db mem tabqq K C N n nx lg tbqq a b c d e lsqq)(k:Y9 w W db sbqq mem tabqq K nx lg tbqq e lsqq a b c d s i a' b' c' d')(aa:sbqq=z (G w)+2)(p:1<=mem/\mem<=32/\2<=tabqq/\tabqq<=6)(o:fO W w' db sbqq i f)(hb:cW w' sbqq s 0)(L:Hm (vw f.files) nx lg tbqq a b c d e lsqq)(A:y f.eP<=9000000+2*N)(x:cX (vw f.files) (dj lg)=cX (vw K.files) (dj lg)):Inv w' sbqq s f (gT [] lsqq.flatten) a' b' c' d' C tbqq N lsqq []/\GY s a' b' c'/\∀q,eM s.aP (gT [] lsqq.flatten::bV a' b' c' d') q=n q:=by
 obtain⟨_,p1,T,p3,p4⟩:=MP g.qP.lp;obtain⟨V,e2,e3,e4,e5,e6⟩:=k.same;obtain⟨O,P,Q,t,S,n6⟩:=k.oY;have h:=k.PT.fa (fs':=vw f.files) o<|λt m=>(L.pm t m).trans (g.qP.rD.pm t m).symm;have F:=g.steps.lt;have D:=g.pow.lt;have v:=k.fa.trans o;subst V e3 e4;have m:=kh.bV h.k0 h.k1 h.k2 h.k3;have E:Aside w K s.aH sbqq 1:=⟨F,g.fR,by omega⟩;have B:Aside w K s.aH sbqq 2:=⟨D,g.mz,by omega⟩;refine⟨{st:=?_,rD:=?_,pr:=?_,lp:=g.qP.lp,mem:=by rw[t];exact T,Vp:=λac r=>?_,n9:=p4,I5:=p3,AP:=k.AP.fa o,Yy:=λ_ q=>(by cases q),DA:=t,Ot:=S,pj:=by rw[P,Q,x];exact n6,DY:=h.DY,nx:=by rw[O];exact g.qP.nx,bn:=by rw[t];exact g.qP.bn,eP:=A,DX:=p,loose:=k.lo,jV:=g.xW},⟨by rw[S];exact g.qP.tid.1,?_⟩,λq=>?_⟩;refine⟨Bm k.mem o k.tg,λal q=>(k.tg al q).fa o,h.l0,h.l1,h.l2,h.l3,o.ok,λq=>?_,?_,?_,g.jV,p1,?_,h.k1.side g.qP.s1,h.k2.side g.qP.s2,h.k3.side g.qP.s3⟩;rcases o.aL _ q with ad|ad;rcases k.aL _ ad with u|u;have:=g.aH.lt _ u;omega;omega;have:=ak k.box;omega;exact Rq.fa ⟨g.steps,g.pow,E,B⟩ v;rw[h.k0.cA,h.k1.cA,h.k2.cA,h.k3.cA];exact g.qP.sI;intro ac r;rcases Gh r with u|u;simp at u;obtain⟨l,hl,r⟩:=bC.1 u;exact g.qP.lp.jf l hl ac r;rw[O,P,Q];exact L.TR h.k0 h.k1 h.k2 h.k3;rw[m];exact g.qP.pr;rw[t];rcases Gh r with q|q;cases q;exact g.qP.lp.xO ac q;obtain⟨u,t2,t3⟩:=g.qP.tid.2;rw[Lv,h.k0.lens,h.k1.lens,h.k2.lens];grind
 rw[m,t,<-g.qP.rl q,eM,bR,T]
theorem re.cp{j0:M}{Q:RS->Prop}(g:re w db mem tabqq K C N n nx lg tbqq a b c d e lsqq)(k:uG i lg (a++b++c++d))(u:yf i lg tbqq lsqq j0)(r:mO (vw i.files) nx lg tbqq a b c d e lsqq)(v:y i.eP<=1000000000000)(t:∀m,j0<=m->m<=y lsqq->Q (pO tbqq a b c d lsqq m)):CP i mem tabqq C N Q:=by
 refine⟨⟨k.Gm,v⟩,(k.Vr u r g.qP.lp).mono<|λfs q=>?_⟩;obtain⟨x,m,o,h,p⟩:=q;exact⟨_,MG p h g.qP.pr g.qP.lp g.qP.sI g.qP.s1 g.qP.s2 g.qP.s3 g.qP.nx g.qP.bn g.qP.tid,t m o h⟩
theorem Dc{j0:M}{Q:RS->Prop}{Hqq:Prop}(h:re w db mem tabqq K C N n nx lg tbqq a b c d e lsqq)(hC:Hqq->uG K lg (a++b++c++d))(hS:Hqq->yf K lg tbqq lsqq j0)(hQ:∀bh,j0<=bh->bh<=y lsqq->Q (pO tbqq a b c d lsqq bh))(ho:1<=mem/\mem<=32/\2<=tabqq/\tabqq<=6):cY bA 8 #[aD db,dL #[aq mem,aq tabqq]] w λbb w'=>(bb=aN (dA #[aD<|z (G w)+2,.nilIface])/\Hc w w' db (z (G w)+2) mem tabqq K C N n Hqq Q)\/∃q,bb=aN (dA #[dC none,fj q])/\Z1 w w' db mem tabqq K C N Hqq Q q:=by
 have v:=h.aH.lt;have P:=h.qP.rD;have aV:y K.eP<=1000000000000:=by have:=h.eP _<|jx _;have:=h.xW;omega
 have al:Hqq->CP K mem tabqq C N Q:=λk=>h.cp (hC k) (hS k) P aV hQ;have D:¬K.aL db (z (G w)+2):=(by grind);have bm:nx<18446744073709551616:=by have:=h.qP.nx;have:=h.xW;omega
 have an:lg<18446744073709551616:=by have:=P.lt;omega
 have bi:=h.qP.bn;have bg:=h.count;have bk:=h.files;have V:∀{w':Y},Z (λq=>K.aL db q\/q=z (G w)+2) w w'->Z (K.aL db) w w':=λh=>h.mono (by grind);refine YZ db mem tabqq w ho (λW=>Z aw w W/\cW W (z (G w)+2) (SR.fresh db mem tabqq<|z (G w)+1) 0/\pz W (z (G w)+1) []/\z (G W)=z (G w)+4) (λW=>∃u0 u1 u2 u3 f a' b' c' d',cW W (z (G w)+2) ((SR.fresh db mem tabqq<|z (G w)+1).xz u0 u1 u2 u3 nx lg tbqq<|decide<|0<y K.files) 0/\Vg (vw K.files) W db (z (G w)+2) f u0 u1 u2 u3 a b c d a' b' c' d'/\YA db K f/\Z (λq=>K.aL db q\/q=z (G w)+2) w W/\pz W (z (G w)+1) []/\z (G w)+4<=z (G W)) (λW=>∃s i a' b' c' d',Y9 w W db (z (G w)+2) mem tabqq K nx lg tbqq e lsqq a b c d s i a' b' c' d') (λW=>Hc w W db (z (G w)+2) mem tabqq K C N n Hqq Q) (λW=>Hc w W db (z (G w)+2) mem tabqq K C N n Hqq Q) (λW q=>Z1 w W db mem tabqq K C N Hqq Q q) (by grind) ?_ ?_ ?_ ?_;rintro W⟨m,hb,au,aU⟩;apply(TP hb rfl D<|h.aj m).mono;rintro bb w'(⟨rfl,u0,u1,u2,u3,t,⟨f,a',b',c',d',B,o⟩,g⟩|⟨A,q,rfl,B,⟨f,u,o⟩,g⟩);have x:=g.size;refine .inl ⟨rfl,⟨u0,u1,u2,u3,f,a',b',c',d',t,B,o,(m.mono (T:=λq=>K.aL db q\/q=z (G w)+2) cJ).trans g<|λ_ q=>.inl q,au.dG (g.block _ (by omega)<|λq=>q.elim (λq=>by have:=v _ q;omega)<|λq=>by omega),by omega⟩,?_⟩;exact g.block _ (by omega) (λq=>q.elim (λq=>by have:=v _ q;omega)<|λq=>by omega);exact .inr ⟨q,rfl,f,8,u,λk=>(al k).pC o.pC,V<|(m.mono (T:=λq=>K.aL db q\/q=z (G w)+2) cJ).trans g<|λ_ q=>.inl q,λF c=>.inl<|o.aL F c,o.fx,B,.inl ⟨rfl,A⟩⟩
 .rintro W⟨u0,u1,u2,u3,f,a',b',c',d',hb,B,o,m,au,aU⟩;have aa:vw f.files=vw K.files:=by rw[o.pC.1]
  have E:¬f.aL db (z (G w)+2):=λq=>D<|o.aL _ q;have ad:Pow W:=h.pow.aj m<|λq=>q.elim h.mz (λq=>by have:=h.pow.lt;omega);have bc:Steps W:=Steps.aj h.steps m (λq=>q.elim h.fR<|by simp);have ac:∀w',Z (λq=>f.aL db q\/q=z (G w)+2) W w'->w'.heap[z (G w)+3]?=W.heap[z (G w)+3]?:=λw' h'=>h'.block _ (by omega) (λq=>q.elim (λq=>by have:=v _<|o.aL _ q;omega)<|λq=>by omega);have ap:∀w' K',Z (λq=>f.aL db q\/q=z (G w)+2) W w'->(∀F,K'.aL db F->f.aL db F)->pz w' (z (G w)+1) []/\Aside w' K' db (z (G w)+2) (z (G w)+1):=λw' K' h' g=>⟨au.dG (h'.block _ (by omega)<|λq=>q.elim (λq=>by have:=v _<|o.aL _ q;omega)<|λq=>by omega),by have:=h'.size;omega,λq=>by have:=v _<|o.aL _<|g _ q;omega,by omega⟩;have ba:OL W f (z (G w)+2) ((SR.fresh db mem tabqq<|z (G w)+1).xz u0 u1 u2 u3 nx lg tbqq<|decide<|0<y K.files) []:=⟨⟨z (G w)+1,rfl,ap W f (Z.refl _ W)<|λ_ q=>q⟩,by simp⟩;have O:fO w W db (z (G w)+2) K f:=⟨B.aH,(by grind),λF q=>.inl<|o.aL F q,o.fx⟩;cases hlgd:e with
  |false=>
   have ao:=P.um hlgd;have av:cX (vw f.files) (dj lg)=none:=by rw[aa];exact P.Dg hlgd
   apply(MC hb B.aH ad an av).mono;rintro bb w'⟨L,g,x,u,rfl|⟨A,q,rfl,aF⟩⟩;rotate_left
   .have p:=O.trans<|fO.of (sbqq:=z (G w)+2) g;exact .inr ⟨q,rfl,L,8,p.ok,λk=>(al k).pC<|o.pC.trans x,V p.aj,p.aL,p.fx,aF,.inl ⟨rfl,o.fx.pos h.aH.tu A⟩⟩
   have S:fO W w' db (z (G w)+2) f L:=fO.of g;have p:=O.trans S;have ax:=B.fa (fs':=vw K.files) S<|λ_ _=>rfl;refine .inl ⟨rfl,⟨(SR.fresh db mem tabqq<|z (G w)+1).xz u0 u1 u2 u3 nx lg tbqq<|decide<|0<y K.files,L,a',b',c',d',?_⟩,ac w' S.aj⟩;exact⟨(g.aj.block _ (ak hb) E).trans hb,ax,o.pC.trans x,p,λF q=>.inl<|o.aL F<|u F q,⟨rfl,rfl,rfl,rfl,rfl,rfl⟩,⟨rfl,rfl,rfl,by rw[ao];rfl,by rw[ao];rfl,λ_ q=>(by cases q)⟩,λq=>(by cases q),λq=>(by cases q),λ_=>rfl,by rw[ao];exact⟨rfl,.inl ⟨rfl,rfl⟩⟩,λF q=>(by cases q),⟨⟨z (G w)+1,rfl,ap w' L S.aj u⟩,by simp⟩,aB aU g.aj.size⟩
  |true=>
   obtain⟨jk,ao,g⟩:=P.log hlgd;have bd:yr jk=bw->cf=cf->cX (vw K.files) (dj lg)=H (kO ((tbqq:U)+1) lsqq):=λq _=>by rw[g,zJ,VC q,dz]
   have av:decide (0<y K.files)=cf:=by
    cases k:K.files with
    |nil=>rw[k]at g;cases g
    |cons _ _=>simp
   refine(PH lsqq jk hb ao B.aH E ad bc ⟨by have:=h.steps.lt;omega,λq=>h.fR<|o.aL _ q⟩ an h.qP.lp (by rw[aa];exact g) rfl rfl (by show tbqq<=1000000000;have:=h.xW;omega) ba).mono ?_;rintro bb w'(⟨rfl,mv,L,t,S,r,x,u⟩|⟨L,r,x,A,q,rfl,aF⟩);rotate_left
   .have p:=O.trans r;exact .inr ⟨q,rfl,L,8,p.ok,λk=>(al k).pC<|o.pC.trans x,V p.aj,p.aL,p.fx,aF,.inl ⟨rfl,o.fx.pos h.aH.tu A⟩⟩
   have p:=O.trans r;have ax:=B.fa (fs':=vw K.files) r<|λ_ _=>rfl;refine .inl ⟨rfl,⟨{((SR.fresh db mem tabqq<|z (G w)+1).xz u0 u1 u2 u3 nx lg tbqq<|decide<|0<y K.files).wX mv (y lsqq) (lsqq.map y).sum with dO:=cf,pj:=yr jk,iU:=cf},L,a',b',c',d',?_⟩,ac w' r.aj⟩;exact⟨t,ax,o.pC.trans x,p,λF q=>.inl<|o.aL F<|u F q,⟨rfl,rfl,rfl,rfl,rfl,rfl⟩,⟨rfl,rfl,rfl,rfl,rfl,bd⟩,λ_=>rfl,λ_=>⟨rfl,av⟩,(by grind),by rw[<-(MP h.qP.lp).1];exact dR S,λF q=>by
    have h1:=S.lt F q;exact⟨h1.2,λbf=>by have:=v _ (o.aL _ (u F bf));omega,by omega⟩,⟨⟨z (G w)+1,rfl,ap w' L r.aj u⟩,by simp⟩,aB aU r.aj.size⟩
 .rintro W⟨s,i,a',b',c',d',g⟩;have bd:=g;obtain⟨es,ec,em,et,eg⟩:=g.same;subst es;have O:=g.PT.TR;have aa:vw i.files=vw K.files:=by rw[g.pC.1]
  have hn:∀aF∈i.files.map aX.name,aF=dE\/Cm aF:=λaF E=>by
   rw[g.pC.1,<-yp]at E;obtain⟨bs,u⟩:=su E;exact P.names aF bs u
  have ac:((vw K.files).map (·.1)).Nodup:=h.aH.nodup;have bl:y (a'++b'++c'++d')=y (a++b++c++d):=O.lens;have x:¬i.aL s.aH (z (G w)+2):=λq=>by
   rcases g.aL _ q with bf|bf
   .exact D bf
   .omega
  have av:y i.eP<=9000000+2*N:=by
   have h1:=h.eP _<|jx _;rw[g.pC.2.2];omega
  have ax:=h.xW;refine(UU a' b' c' d' g.box (U2 g.PT.l0 g.PT.l1 g.PT.l2 g.PT.l3 (by omega) g.box) (λbc m=>?_) (h.pow.aj g.fa.aj<|λq=>q.elim h.mz (λq=>by have:=h.pow.lt;omega)) (by rw[g.oY.2.1];exact an) (by omega) g.PT.aH x (by rw[g.pC.1];omega) (by rw[g.pC.1];omega) hn).mono ?_
  .rcases aA.1 m with m|m
   .rcases aA.1 m with m|m
    .rcases aA.1 m with m|m
     .exact Bw<|g.PT.l0.each bc m
     .exact Bw<|g.PT.l1.each bc m
    .exact Bw<|g.PT.l2.each bc m
   .exact Bw<|g.PT.l3.each bc m
  .rintro bb w'⟨j,E,bo,f,rfl,hr⟩;rw[TV O,g.oY.2.1]at hr;rw[g.pC.1]at E;have r:fO W w' s.aH (z (G w)+2) i f:=fO.of hr.pa;have p:=g.fa.trans r;have hu:∀ba∈lP lg (a++b++c++d) j,nL lg (a++b++c++d) ba=bw:=λba q=>by
    have:=(eK.1 q).2;grind
   rcases hr.wG with⟨rfl,u⟩|⟨l,q,c',hp,u,rfl,B,hc⟩
   .obtain⟨g1,g2⟩:=FQ u;rw[aa]at g1;have ad:Hm (vw f.files) nx lg tbqq a b c d e lsqq:=by
     rw[g1];refine(P.del ac hu).rD<|λba bs q=>?_;obtain⟨z1,z2⟩:=rE ac q;cases yqq:nL lg (a++b++c++d) ba with
     |true=>rfl
     |false=>
      refine absurd (eK.2 ⟨E.mem_iff.2 ?_,by rw[yqq];rfl⟩) z1;rw[<-yp];exact bH.2 ⟨_,oD z2,rfl⟩
    have t:cW w' (z (G w)+2) s 0:=(hr.pa.aj.block _ (ak g.box) x).trans g.box;have ap:∀F,f.aL s.aH F->K.aL s.aH F\/z (G w)+4<=F:=λF q=>(r.aL F q).elim (g.aL F)<|λbf=>.inr<|aB g.size bf;obtain⟨i1,i2,i3⟩:=Qt h g rfl ho r t ad (by rw[g2,g.pC.2.2];exact h.eP j E) (by rw[g1,mW (λq=>by have:=hu _ q;rw[Be]at this;cases this)]);have ao:Hqq->CQ f s a' b' c' d' tbqq lsqq Q:=λk=>by
     obtain⟨c1,c2,_⟩:=(hC k).Y0 (hS k) P hu (gy _) (u.pre g.pC) r.ok.fF;refine⟨j0,⟨by rw[g.oY.2.1];exact c1.TR O,by rw[g.oY.2.1];exact c2,λL S=>?_,λL S=>?_⟩,λbh L S=>?_⟩
     .rw[(g.ol S).1]at L;cases L
     .rw[(g.ol S).2]at L;cases L
     .have:=hQ bh L S;unfold pO at*;rw[kh.bV g.PT.k0 g.PT.k1 g.PT.k2 g.PT.k3];exact this
    refine .inl ⟨rfl,⟨s,f,_,a',b',c',d',tbqq,lsqq,t,i1,i2,i3,⟨rfl,ec,em,et,eg⟩,p,aB g.size r.aj.size,ap,ao,λq=>⟨?_,g.nt q⟩⟩,?_⟩
    .rw[q]at g1;have e0:ve (vw ([]:ci aX)) (lP lg (a++b++c++d) j)=[]:=by
      generalize lP lg (a++b++c++d) j=bn;induction bn with
      |nil=>rfl
      |cons aF bn ih=>exact ih
     rw[e0]at g1;exact List.map_eq_nil_iff.1 g1
    refine r.aj.block _ (by have:=g.size;omega) (λc=>c.elim (λc=>?_)<|λc=>by omega);rcases g.aL _ c with q|q
    .have:=v _ q;omega
    .omega
   .refine .inr ⟨q,rfl,f,c',p.ok,λk=>?_,V p.aj,p.aL,p.fx,B,g.fa.fx.Yz h.aH.tu hc⟩;obtain⟨c1,c2,c3⟩:=(hC k).Y0 (hS k) P hu hp (u.pre g.pC) r.ok.fF;refine h.cp c1 c2 c3 ?_ hQ;have L:=zo u;have S:=hp.length_le;have q3:=h.eP j E;have q4:=h.xW;rw[g.pC.2.2]at L;rw[bU]at S;omega
 rintro W⟨s,i,E,a',b',c',d',x,u,g⟩;obtain⟨es,ec,em,et,eg⟩:=g.same;subst es;apply(Mg [] g.box g.inv g.tid).mono;rintro bb w'⟨rfl,m⟩;have r:=pK (sbqq:=z (G w)+2) g.inv.st.aH m;have t:cW w' (z (G w)+2) s 0:=(m.block _ (ak g.box) id).trans g.box;exact⟨rfl,⟨s,i,E,a',b',c',d',x,u,t,g.inv.fa (ak g.box) r rfl (ag _) rfl g.inv.loose,g.tid,g.rl,⟨rfl,ec,em,et,eg⟩,g.fa.trans r,aB g.size m.size,g.aL,g.cq,g.nil⟩,m.block _ (by have:=g.size;omega) id⟩
end
def DJ{P:Program}{d:Array Oper}{Q:Exit->Act->Y->Prop}{e:Region.Mode}{S:Y->Prop}{i m:M}{o:Oper}{c:Array Bool}{j:Act}(l:d[i]?=H o)(n:Region.wanted o (yielded d j.tmps)=cf)(k:Region.ready e d c=[i])(q:∀K:Act->Y->Prop,(∀g f,(i<m->S f)->nD P e d Q S m b (c.setIfInBounds i cf) g f->K g f)->Oper.wp P o j a K Q):nD P e d Q S m (b+1) c j a:=by
 refine⟨(by grind),λp h=>?_⟩;rw[k]at h;obtain rfl:p=i:=by simpa using h
 unfold wpOp;grind
def AF(a c:ci cP)(j:M):Prop:=∀i,i<j->y (a.getD i [])=y (c.getD i [])/\ku (a.getD i [])=ku (c.getD i [])
def AF.nx{a d:ci cP}(h:AF a d c)(f:y (a.getD c [])=y (d.getD c []))(g:ku (a.getD c [])=ku (d.getD c [])):AF a d (c+1):=λi e=>by
 rcases vr.1 e with q|rfl;exact h i q;grind
def Lr(ad:Y)(c o:M)(p0 p1 p2 p3 q0 q1 q2 q3:ab)(x C D E K L N O:cP)(e:∀W,Z aw ad W->(aW W (R c 10)=H p0/\aW W (R c 11)=H p1/\aW W (R c 12)=H p2/\aW W (R c 13)=H p3)/\(aW W (R o 0)=H q0/\aW W (R o 1)=H q1/\aW W (R o 2)=H q2/\aW W (R o 3)=H q3)/\(jh W p0 x/\jh W p1 C/\jh W p2 D/\jh W p3 E)/\(jh W q0 K/\jh W q1 L/\jh W q2 N/\jh W q3 O))(hc:ku x<=1000000000/\ku C<=1000000000/\ku D<=1000000000/\ku E<=1000000000/\ku K<=1000000000/\ku L<=1000000000/\ku N<=1000000000/\ku O<=1000000000):cY bA 165 #[dC<|H<|R c 10,aD o] ad λax w'=>∃aV,ax=aN (aM aV)/\(aV=cf->AF [x,C,D,E] [K,L,N,O] 4)/\Z aw ad w':=by
 have one:∀(k j:M)(p q:ab)(g b:cP),(∀W,Z aw ad W->(aW W (R c k)=H p/\aW W (R o j)=H q)/\jh W p g/\jh W q b)->ku g<=1000000000->ku b<=1000000000->∃(ac:Y->Prop)(ao f:Option Addr)(al an:M)(A B:cP),(∀W,Z aw ad W->ac W/\jh W (I ao (y A) al) A/\jh W (I f (y B) an) B)/\(∀a,ac a->aW a (R c k)=H (I ao (y A) al)/\aW a (R o j)=H (I f (y B) an))/\ku A<=1000000000/\ku B<=1000000000/\A=g/\B=b:=by intro k j p q g b h aU aF;obtain⟨_,s,t⟩:=h ad<|Z.refl _ ad;obtain⟨ao,al,rfl⟩:=bZ s.row;obtain⟨f,an,rfl⟩:=bZ t.row;exact⟨_,ao,f,al,an,g,b,h,λa h=>h,aU,aF,rfl,rfl⟩
 have F:∀j,j<4->∃(ac:Y->Prop)(ao f:Option Addr)(al an:M)(A B:cP),(∀W,Z aw ad W->ac W/\jh W (I ao (y A) al) A/\jh W (I f (y B) an) B)/\(∀a,ac a->aW a (R c<|10+j)=H (I ao (y A) al)/\aW a (R o j)=H (I f (y B) an))/\ku A<=1000000000/\ku B<=1000000000/\A=[x,C,D,E].getD j []/\B=[K,L,N,O].getD j []:=by obtain⟨g,i,k,l,m0,m1,m2,m3⟩:=hc;intro j hj;rcases(show j=0\/j=1\/j=2\/j=3 by omega)with rfl|rfl|rfl|rfl;exact one 10 0 _ _ _ _ (λW d=>⟨⟨(e W d).1.1,(e W d).2.1.1⟩,(e W d).2.2.1.1,(e W d).2.2.2.1⟩) g m0;exact one 11 1 _ _ _ _ (λW d=>⟨⟨(e W d).1.2.1,(e W d).2.1.2.1⟩,(e W d).2.2.1.2.1,(e W d).2.2.2.2.1⟩) i m1;exact one 12 2 _ _ _ _ (λW d=>⟨⟨(e W d).1.2.2.1,(e W d).2.1.2.2.1⟩,(e W d).2.2.1.2.2.1,(e W d).2.2.2.2.2.1⟩) k m2;exact one 13 3 _ _ _ _ (λW d=>⟨⟨(e W d).1.2.2.2,(e W d).2.1.2.2.2⟩,(e W d).2.2.1.2.2.2,(e W d).2.2.2.2.2.2⟩) l m3
 have HP:=X F;clear e hc one F;generalize [x,C,D,E]=As at HP|-;generalize [K,L,N,O]=Bs at HP|-;go_in
 go_wp2;go_loopw [6] (λav wr=>∃j:M,j<=4/\av=aq j/\AF As Bs j/\Z aw ad wr) (λav _=>4-(intOf av).toNat)
 case atStart=>exact⟨0,by omega,by go_num,λav a=>(by omega),Z.refl _ _⟩
 (case round=>obtain⟨j,hj,rfl,m,ht⟩:=hrel;by_cases h4:j<4;(.obtain⟨ac,ao,f,al,an,A,B,d,hX,aU,aF,eA,eB⟩:=HP j h4;have ap:=X<|show y A=y B->ku A=ku B->AF As Bs (j+1)fromλa c=>m.nx (by rw[<-eA,<-eB];exact a) (by rw[<-eA,<-eB];exact c);clear m eA eB;have t:=ht.cz<|dh aw wr;obtain⟨k,hL,_⟩:=d wr.drew t;have p:=AB hL aU;have HQ:=X<|λW(a:Z aw ad W)=>And.intro (d W a).1 (AB (d W a).2.2 aF);have HT:=X t;clear ht t d hL;rcases(show j=0\/j=1\/j=2\/j=3 by omega)with rfl|rfl|rfl|rfl;(all_goals simp only[Nat.reduceAdd]at hX;have w:=X hX;clear hX;by_cases l:y A=y B;(.have el:((y A:U)!=(y B:U))=bw:=(by grind);have u:=X l;clear l;obtain⟨eb,ec⟩:∃eb,((ku A:U)!=(ku B:U))=eb:=⟨_,rfl⟩;(go_wp2_with fail);rename_i QQ KK i;refine je ac 28 (by kernel_rfl) ?_;refine ki 0 ?_;(iterate 19 (refine ud (v:=?_) k rfl (by kernel_rfl) (λ_ _ _ h=>h) (Or.inl ⟨by rfl,?_⟩) ?_;rotate_left;(focus(intro a n;obtain⟨z0,z1⟩:=w a n;go_simp;try with_reducible rfl));simp only[Act.put,Nat.reduceAdd,cZ,eN,ez,da,cD,cG]));apply oe;refine ki 20 ?_;(iterate 5 (refine ud (v:=?_) k rfl (by kernel_rfl) (λ_ _ _ h=>h) (Or.inl ⟨by rfl,?_⟩) ?_;rotate_left;(focus(intro a n;obtain⟨z0,z1⟩:=w a n;go_simp;try with_reducible rfl));simp only[Act.put,Nat.reduceAdd,cZ,eN,ez,da,cD,cG]));apply oe;refine DJ (i:=19) rfl (by rfl) (by kernel_rfl) ?_;intro K1 P;go_simp;apply p.mono;rintro ax W1⟨rfl,T⟩;have r:=HT.cz<|Z.aQ (S:=aw) T;obtain⟨S,aa⟩:=HQ W1 r;have au:=X r;refine P _ _ (λ_=>S) ?_;(try simp only[Act.put,cZ,eN,ez,da,cD,cG]);clear P T r p k S;refine DJ (i:=25) rfl (by rfl) (by kernel_rfl) ?_;intro K2 Q;go_simp;apply aa.mono;rintro ax W2⟨rfl,V⟩;have s:=au.cz<|Z.aQ (S:=aw) V;have k:=(HQ W2 s).1;have g:=X s;refine Q _ _ (λ_=>k) ?_;(try simp only[Act.put,cZ,eN,ez,da,cD,cG]);clear Q V s aa;refine ki 26 ?_;(iterate 2 (refine ud (v:=?_) k rfl (by kernel_rfl) (λ_ _ _ h=>h) (Or.inl ⟨by rfl,?_⟩) ?_;rotate_left;(focus(intro a n;obtain⟨z0,z1⟩:=w a n;go_simp;try with_reducible rfl));simp only[Act.put,Nat.reduceAdd,cZ,eN,ez,da,cD,cG]));apply oe;refine jo (by kernel_rfl) ?_ _;show KK _ _;apply i;clear i k;cases eb;(.have HN:=X<|ap u (by have:=bne_eq_false_iff_eq.1 ec;omega);go_wp2;go_roundw;(case rel=>first|exact⟨1,by omega,by go_num,HN,g⟩|exact⟨2,by omega,by go_num,HN,g⟩|exact⟨3,by omega,by go_num,HN,g⟩|exact⟨4,by omega,by go_num,HN,g⟩);case measure=>simp[intOf]);go_wp2;go_ret;exact⟨bw,rfl,(λq=>by cases q),g⟩);(.have el:((y A:U)!=(y B:U))=cf:=Ah.2 (by omega);clear l;(go_wp2_with fail);rename_i QQ KK i;refine je ac 28 (by kernel_rfl) ?_;refine ki 0 ?_;(iterate 14 (refine ud (v:=?_) k rfl (by kernel_rfl) (λ_ _ _ h=>h) (Or.inl ⟨by rfl,?_⟩) ?_;rotate_left;(focus(intro a n;obtain⟨z0,z1⟩:=w a n;go_simp;try with_reducible rfl));simp only[Act.put,Nat.reduceAdd,cZ,eN,ez,da,cD,cG]));apply oe;refine ki 14 ?_;(iterate 13 (refine ud (v:=iM) k rfl (by kernel_rfl) (λ_ _ _ h=>h) (Or.inr ⟨by rfl,rfl⟩) ?_;simp only[Act.put,Nat.reduceAdd,cZ,eN,ez,da,cD,cG]));apply oe;refine ki 27 ?_;(iterate 1 (refine ud (v:=?_) k rfl (by kernel_rfl) (λ_ _ _ h=>h) (Or.inl ⟨by rfl,?_⟩) ?_;rotate_left;(focus(intro a n;obtain⟨z0,z1⟩:=w a n;go_simp;try with_reducible rfl));simp only[Act.put,Nat.reduceAdd,cZ,eN,ez,da,cD,cG]));apply oe;refine jo (by kernel_rfl) ?_ _;show KK _ _;apply i;clear i k p;go_wp2;go_ret;exact⟨bw,rfl,(λq=>by cases q),HT⟩)));(obtain rfl:j=4:=by omega);have HT:=X ht;have g:=X m;clear ht m;go_wp2;go_ret;exact⟨cf,rfl,(λ_=>g),HT⟩)
def MA{o:Func}{u:Tmp}(x:o.results=#[.cell u 78])(a:Array ab)(w:Y)(q:M)(k l m n:Option Addr)(g h i j c d e f:M)(v:TypeId)(p:M×M)(t:a.getD u iM=aD q)(r:w.heap[q]?=H (ay #[I k g c,I l h d,I m i e,I n j f] v p)):(results o a).run bA w=.ok (dL #[I k g c,I l h d,I m i e,I n j f]) w:=by
 have b:a[u]?.getD iM=aD q:=by simpa using t
 have s:=kH (P:=bA) w q v 78 #[I k g c,I l h d,I m i e,I n j f] p _ r underlying78 rfl (by kernel_rfl);simp[results,x,b,asAddr,s]
def TW(n:eF)(h:kJ a d e)(hm:Row a 1 t (y n) (n.map<|Value.int .u64))(N:eh e)(hg:∀bc∈e,bc.Good)(hl:y e<=1000000)(h4:y n<=4)(hv:∀k,cI d=H k->k<z (G a))(A:∀k,cI t=H k->k<z (G a))(hT:Steps a)(ac:1<z (G a)):cY bA 164 #[d,t] a λP w'=>∃v3,∃g:cP,P=aN (dL #[az,az,az,v3])/\w'.ownsRow (z<|G a) 179 1 v3 (y g) (g.map bB.ptr)/\g.map bB.all=gJ (ij<|dZ n e)/\qR w' (z<|G a) g/\Z aw a w':=by
 have l:Z aw a (dd a<|ay #[az,az,az,az] 78):=(cO aw a);have ad:(dd a<|ay #[az,az,az,az] 78).heap[z<|G a]?=H (ay #[az,az,az,az] 78 (0,0)):=aK _ rfl;have C:z (G<|dd a<|ay #[az,az,az,az] 78)=z (G a)+1:=by simp
 have au:=Ax n (l.row h<|λk f=>⟨id,hv k f⟩) N hl (l.row hm<|λk f=>⟨id,A k f⟩) (by omega) (λk f=>ai (hv k f) l.size)<|λk f=>ai (A k f) l.size;obtain⟨x1,n1,aV⟩:=bZ h;obtain⟨x2,n2,ba⟩:=bZ hm;obtain⟨V,Q,T⟩:=dF l ad hT;subst aV ba;go_in
 go_wp2_with fail
 apply au.mono;rintro P w2⟨v2,rfl,r,D⟩;have an:=OF (dR r) (N.sub<|jy n e) (aB (jy n e).length_le hl)<|λk f=>(r.lt k f).2;obtain⟨y2,d2,rfl⟩:=aC r;have W:=X<|V.cz D;have u:=X<|(D.block _ (by rw[C];omega) id).trans Q;go_wp2_with fail
 apply an.mono;rintro P w3⟨v3,rfl,s,E⟩;have j:=(kF<|dZ n e).trans<|jy n e;have w:=X<|W.cz E;have av:=vI (dR s) (N.sub j) (((zk N).sub<|kF _).mono<|by omega) (λbc a=>hg bc<|j.subset a) (aB j.length_le hl) (λk f=>(s.lt k f).2)<|λk f=>w.cell (T k f) id ac;obtain⟨y3,d3,rfl⟩:=aC s;have o:=X<|(E.block _ (ak u) id).trans u;go_wp2_with fail
 apply av.mono;rintro P w4⟨v4,g,rfl,B,aF,ao,F⟩;have c:=(F.block _ (ak o) id).trans o;have bb:z (G a)+1<=z (G w3):=by have:=ak o;omega
 have aa:=X<|w.cz F;obtain⟨O,L,rfl⟩:=aC B;have K:=X<|And.intro B (And.intro aF ao);have g0:=cellAt c 0 rfl;have g1:=cellAt c 1 rfl;have g2:=cellAt c 2 rfl;have g3:=cellAt c 3 rfl;have f0:=cQ (i:=0) c;have f1:=cQ (i:=1) c;have f2:=cQ (i:=2) c;have f3:=cQ (i:=3) c;obtain⟨p,x⟩:∃p,cH (cH (cH (cH w4 (R (z<|G a) 0) az) (R (z<|G a) 1) az) (R (z<|G a) 2) az) (R (z<|G a) 3) (I O (y g) L)=p:=⟨_,rfl⟩;have al:p.heap[z<|G a]?=H (ay #[az,az,az,I O (y g) L] 78 (0,0)):=by rw[<-x];exact Gk c
 have m:Z (λq=>q=z (G a)) w4 p:=by rw[<-x];exact(((iT (z<|G a) w4).setCell _ _ _<|.inl rfl).setCell _ _ _<|.inl rfl).setCell _ _ _<|.inl rfl
 have aU:Z aw a p:=aa.trans m<|λk P=>.inr (by have e':k=z (G a):=P;omega);have ax:p.ownsRow (z<|G a) 179 1 (I O (y g) L) (y g) (g.map bB.ptr):=gl (m.own K.1 (λk f c=>by have c':k=z (G a):=c;have:=(K.1.lt k f).1;omega)) (by omega);have ap:qR p (z<|G a) g:=(K.2.2.other m (λk P=>by have e':k=z (G a):=P;rw[e'];grind)).base (by omega);have S:=X al;have v:=X<|And.intro ax (And.intro K.2.1 (And.intro ap aU));go_wp2;refine cy (MA rfl _ _ (z<|G a) none none none O 0 0 0 (y g) 0 0 0 L _ _ rfl S) rfl ?_;exact⟨_,g,rfl,v⟩
def jn.nil:jn []:=⟨by simp,eh.nil,by simp⟩
def Wh(h:sD a b D o Q):OW a Q:=by
 obtain⟨f,d,c,e,_⟩:=h.mem;exact⟨_,_,_,_,_,_,_,_,_,e⟩
def Wn(h:Yn a b Q):OW a Q:=by
 obtain⟨e,c,x,d,h⟩:=h;exact⟨_,_,_,_,_,_,_,_,_,h.mem⟩
def DE.TS(h:DE D a g c i d j)(f:y j<=1000000000):jh a d j:=⟨h.row,λl e=>(h.loc l e).lt,λt k=>Wh<|h.each t k,f⟩
def Gp(w:Y):jh w az []:=⟨⟨rfl,.inl ⟨rfl,rfl⟩⟩,λk a=>(by cases a),by simp,by simp⟩
def LS.least{P S:ab}{T o:cP}(s:LS a b c i g j [] l d t L P p u v T)(C:Z (g.aL b) a f)(N:(nR b g).D f)(x:qR f (z<|G a) o)(q:o.map bB.all=gJ e)(B:eh e)(k:rH 5 e)(w:∀aa∈e,aa.Good)(A:f.ownsRow (z<|G a) 179 1 S (y o) (o.map bB.ptr))(K:y e<=l):∃r,LS f b c i g j r l az az az S [] [] [] o:=by
 have h':=s.aj C N;obtain⟨r,V,D,E,F,W,O⟩:=s.pW C x q B k w;rw[du]at D E F;have m:=lX q;have h:Row f 1 az (y ([]:cP)) (([]:cP).map bB.ptr):=⟨rfl,.inl ⟨rfl,rfl⟩⟩;refine⟨r,{h' with news:=D,apart:=E,r0:=h,r1:=h,r2:=h,r3:=dR A,b0:=λQ n=>(by cases n),b1:=λQ n=>(by cases n),b2:=λQ n=>(by cases n),b3:=wZ A s.aL s.Mj s.le,x0:=by simp,x1:=by simp,x2:=by simp,x3:=F,nodup:=by simpa using O,s1:=jn.nil,s2:=jn.nil,s3:=Iz q x.each B k w,sI:=?_}⟩;rw[m];simpa[cA]using K
theorem SH:∀(a:dX)(d:M)(c:cU),d+y a.flatten=b->(∀j∈a,j≠[])->y (jO 1 b 0 d c a)<=1:=by
 intro a;induction a with
 |nil=>intro _ _ _ _;simp[jO]
 |cons j a l=>
  intro d c e h;rw[bW,af]at e;rw[oo];split
  .rename_i m;have i:a=[]:=by
    cases a with
    |nil=>rfl
    |cons f g=>
     have k:=gN.2 (h f<|by simp);rw[bW,af]at e;grind
   rw[i];simp[jO]
  grind
def Tr{l:cU}(h:y l<=96):y (gJ l)<=1:=by
 by_cases c:l=[];have:=uX l;rw[c]at this|-;grind
 have b:=xq c;(have a:sJ (y l)=1:=by unfold sJ at*;omega);unfold gJ;rw[a];grind[SH,oN,BM]
structure s8(w W:Y)(sb lb:M)(s:SR)(k:U)(K:DK)(m:cU)(a b c d:cP)(C tb N:M)(ls:dX)(sn:gL)(v3:ab)(tm:cP)(qs:ci NT):Prop where
 sv:SV w sb s k lb K (a++b++c++d) C s.aP (tB sn) (λt=>eM t<|m::bV a b c d) W az az az v3 [] [] [] tm qs
 nh:∃K',fO w W s.aH sb K K'/\qc K K'/\Inv W sb s K' m a b c d C tb N ls sn
 I8:jh W v3 tm
 Oq:ku tm<=1000000000
 len:ku tm=y (ij<|dZ (tB sn)<|de<|m::bV a b c d)
def s8.aj{K:Y}{ac b ad al:cP}{q aa:M}{N:gL}{L:ci NT}(o:s8 a A c l W k g e ac b ad al V q aa m N d j L)(h:Z aw A K):s8 a K c l W k g e ac b ad al V q aa m N d j L:=by
 obtain⟨O,hd,C,v⟩:=o.nh;have t:=pK (sbqq:=c) v.st.aH h;refine⟨⟨o.sv.ls.aj (h.mono cJ)<|(nR W.aH g).fc o.sv.ls.D h cJ,(h.block l (ak o.sv.lb) id).trans o.sv.lb,o.sv.pr,o.sv.rl,(h.block c (ak o.sv.box) id).trans o.sv.box,o.sv.aj.cz h,o.sv.fst⟩,⟨O,hd.trans t,C,v.fa (ak o.sv.box) t rfl (ag _) rfl v.loose⟩,⟨h.row o.I8.row<|λk w=>⟨id,o.I8.lt k w⟩,λk w=>ai (o.I8.lt k w) h.size,λan D=>?_,o.I8.small⟩,o.Oq,o.len⟩;obtain⟨Q,p,cut,r,E,P,s,n,u,B⟩:=o.I8.each an D;exact⟨Q,p,cut,r,E,P,s,n,u,B.dG (h.block _ B.lt.1 id)<|h.block _ B.lt.2 id⟩
def F6{T:Y}{k:U}{B b C D:cP}{ax:M}{u:gL}(aF:cW a c W k)(p:Inv a c W g e B b C D F V ax m u)(hp:n.Perm (tB u))(aa:(nR W.aH g).D f)(P:Z (g.aL W.aH) a f)(al:Z aw f A)(ho:A.ownsRow (z<|G f) 179 1 d (y j) (j.map bB.ptr))(r:j.map bB.all=gJ (ij<|dZ n<|de<|e::bV B b C D))(hn:qR A (z<|G f) j)(hW:Z aw A T)(hl:T.heap[i]?=H (ay #[az,az,az,d] 78 (0,0))):∃qs,s8 a T c i W k g e B b C D F V ax m u d j qs:=by
 rw[Gc hp]at r;have w:=ak aF;have h:=p.all;obtain⟨p1,p2,p3⟩:=Li h r;have s:eh (de<|e::bV B b C D):=pH h.mJ h.pW;have t:=(kF<|dZ (tB u)<|de<|e::bV B b C D).trans<|jy (tB u)<|de<|e::bV B b C D;have ad:∀x∈de (e::bV B b C D),x.Good:=λx a=>h.jf x<|(fi _).mem_iff.1 a;have an:rH 5 (ij<|dZ (tB u)<|de<|e::bV B b C D):=((zk s).sub<|kF _).mono (by rw[rk];have:=p.AP.len;omega);have K:=lX r;have ap:=p.st.sI;have S:=p.st.jV;have Q:Z aw f T:=al.cz hW;have o:Z (g.aL W.aH) a T:=P.cz Q;have E:(nR W.aH g).D T:=(nR W.aH g).fc aa Q cJ;have L:qR T (z<|G f) j:=hn.aj hW;have v:T.ownsRow (z<|G f) 179 1 d (y j) (j.map bB.ptr):=hW.own ho<|λ_ _ q=>q;have ac:=p.st.L1 (C':=F) w p.DY (by omega) S;have N:=P.size;obtain⟨qs,x⟩:=ac.least o E (L.base N) r (s.sub t) an (by grind) (gl v N) (by rw[<-K];omega);obtain⟨K',hd,e1,e2,e3⟩:=PJ (sbqq:=c) (fO.refl p.st.aH) E o;have hb:cW T c W k:=(o.block c w p.st.xM).trans aF;refine⟨qs,⟨x,hl,p1,p2,hb,o,λq=>?_⟩,⟨K',hd,e2.2,p.fa w hd (by rw[e1]) (by rw[e2.1];grind) rfl p.loose⟩,⟨dR v,λk hk=>(v.lt k hk).2,λau O=>Wn<|L.each au O,?_⟩,?_,?_⟩;(have ao:y j=y (gJ<|ij<|dZ (tB u)<|de<|e::bV B b C D):=by rw[<-r];simp);have av:=p.E4;(have h5:y (de<|e::bV B b C D)=y e:=by have hq:=bS y q;simp only[af,dB]at hq;have e0:B=[]:=(by grind);have e1:b=[]:=(by grind);have e2:C=[]:=(by grind);have e3:D=[]:=(by grind);rw[(fi _).length_eq,e0,e1,e2,e3];simp[bV,cA]);have h6:=t.length_le;have h7:=Tr (l:=ij<|dZ (tB u)<|de<|e::bV B b C D) (by omega);grind
 have:=lB x.s3.pure;omega;rw[Cg<|λau O=>x.ks<|x.x3 au O];omega;rw[Cg<|λau O=>x.ks<|x.x3 au O,K]
def OJ{l b m n:cP}(j:ST a c W x e l b m n i)(f:Y)(r:ab)(p:Z aw a f)(o:f.ownsRow (z<|G a) 169 1 r (y (po (W.l0,l) (W.l1,b) (W.l2,m) (W.l3,n))+1) (yx W.memory (W.l0,l) (W.l1,b) (W.l2,m) (W.l3,n))):cY bA 163 #[r,am ⟨#[]⟩] f λA s=>∃w t,A=aN w/\jp (nR W.aH x) (z<|G a) w (de<|e::bV l b m n) t s/\(nR W.aH x).D s/\Z (nR W.aH x).F f s/\(∀k,t k->z (G f)<=k):=by
 have hF:∀k,(nR W.aH x).F k->k<z (G a):=j.aH.lt;have d:kS (nR W.aH x) (z<|G a) aw a f:=p.same (ag _) cJ cJ;have h:y (oQ W e l b m n)=y (po (W.l0,l) (W.l1,b) (W.l2,m) (W.l3,n))+1:=by have:=bS y<|zm W e l b m n;rw[bU]at this;rw[this];simp[yx]
 have u:=j.count;have v:=CU (z<|G a) (oQ W e l b m n) r ⟨#[]⟩ (by rw[zm,h];exact dR o) (λk f=>⟨(o.lt k f).2,λq=>by have:=hF k q;have:=(o.lt k f).1;omega⟩) (by simp only[oQ,aO,af,List.length_reverse,bU,dB];omega) (λe a=>(j.KM _<|ar a).same d) ((nR W.aH x).fc j.TC p cJ) p.size hF;rw[rp,oV (g:=id)<|λl _=>NX l,yj]at v;exact v
def Yu(w o:Y)(b:M)(s:SR)(p:U)(K:DK)(C N:M)(n:gL)(k:M)(f:U->ae->Option ae):Prop:=∃l e m g h i j c a,JH w o b s p K C N n k f l e m g h i j c a/\CQ e l g h i j c a (λd=>d=f k)
def Q1(w e:Y)(a:M)(s:SR)(k:U)(K:DK)(C N:M)(f:gL)(d:M)(Q:RS->Prop)(c:U->RS)(v:ab):Prop:=(v=.nilIface/\Yu w e a s k K C N f d c)\/Z3 w e a s k K C N Q (c d) (aN v)
def map_nil(h:j.map bB.all=([]:cP).map bB.all):j=[]:=by simpa using h
def On{N b L O:cP}(K:gL)(h:cW a c W k)(d:Inv a c W g e N b L O l F V m K)(hT:GY W N b L){ds:RS->Prop}(D:CQ g W N b L O F m ds)(hN:V+1<=100000000)(cT:EH g.fx):cY bA 101 #[aD c] a λac x=>∃au,ac=aN au/\Q1 a x c W k g l (V+1) K W.aP ds (λad=>eM ad<|e::bV N b L O) au:=by
 obtain⟨mx,mc,cM⟩:=bZ d.st.mem;have db:=FB (W.l0,N) (W.l1,b) (W.l2,L) (W.l3,O) h mx (y e) mc cM<|d.st.Q9 h;have bq:=OJ d.st;have Q:=d.all;have cu:=d.st.flat;have bL:=d.st.jV;have bl:y (de<|e::bV N b L O)<=1000000:=by have:=(fi<|e::bV N b L O).length_eq;omega
 have bv:=ak h;obtain⟨mb,q1,q2,q3⟩:=d.AP.ex;have h4:=d.AP.len
 have cE:∀j,Z (g.aL W.aH) a j->cY bA 90 #[aD c] j λac x=>∃e,∃w:eF,ac=aN e/\w.Perm (tB K)/\x.ownsRow (z<|G j) 74 1 e (y w) (w.map<|Value.int .u64)/\Z aw j x:=λj ht=>
  yH (b:=mb) K ((ht.block c bv d.st.xM).trans h) q1 (q2.dG<|ht.block _ q2.lt q3.aL) h4
 have bs:∀j B au c(w:eF),Z (g.aL W.aH) a j->Z aw j B->w.Perm (tB K)->j.ownsRow (z<|G a) 171 4 au (y<|de<|e::bV N b L O) (aI<|de<|e::bV N b L O)->B.ownsRow (z<|G j) 74 1 c (y w) (w.map<|Value.int .u64)->cY bA 164 #[au,c] B λac x=>∃n,∃f:cP,ac=aN (dL #[az,az,az,n])/\x.ownsRow (z<|G B) 179 1 n (y f) (f.map bB.ptr)/\f.map bB.all=gJ (ij<|dZ w<|de<|e::bV N b L O)/\qR x (z<|G B) f/\Z aw B x:=λj B au c w t o hp ao aa=>by have C:=o.own ao<|λ_ _ q=>q;exact TW w (dR C) (dR aa) (pH Q.mJ Q.pW) (λx a=>Q.jf x<|(fi _).mem_iff.1 a) bl (by have:=hp.length_eq;rw[rk]at this;omega) (λq D=>(C.lt q D).2) (λq D=>(aa.lt q D).2) (Steps.aj d.st.kI.steps (t.cz o) d.st.kI.fR.aL)<|ai d.st.kI.fR.lt (t.cz o).size
 have bp:∀A u n f p,s8 a A c u W k g e N b L O l F V m K n f p->cY bA 98 #[aD c,dL #[az,az,az,n],aG W.aP] A λac x=>∃au,ac=aN au/\Q1 a x c W k g l (V+1) K W.aP ds (λad=>eM ad<|e::bV N b L O) au:=λA u n f p S=>by refine(Ft u l W.aP (tB K) _ A _ _ _ _ [] [] [] f p S.sv h d.st d.rD d.L6.1 (by have:=d.bn;have:=d.jV;omega) (by have:=d.nx;have:=d.jV;omega) (by have:=d.eP;have:=d.jV;omega) cT).mono ?_;rintro ac x(⟨rfl,K',num,a',b',c',d',hO,⟨e0,e1,e2,e3⟩,al⟩|⟨au,K',rfl,hs,hI⟩);rotate_left;refine⟨au,rfl,.inr ⟨au,K',rfl,hs,D.o7 d hT hs.fa.ok.fF (by have:=d.bn;omega) (ag _)<|hI.imp id<|λ⟨num,a',b',c',d',ns,l2,dv,⟨e0,e1,e2,_⟩,al⟩=>⟨num,a',b',c',d',ns,l2,dv,?_,al⟩⟩⟩;rw[map_nil e0,map_nil e1,map_nil e2];have:=d.DX.2.2.1;show(0:U)<W.kK/\(0:U)<=W.kK/\(0:U)<=W.kK;omega;have e0:=map_nil e0;have e1:=map_nil e1;have e2:=map_nil e2;refine⟨_,rfl,.inl ⟨rfl,_,K',[],a',b',c',d',W.aP,[],⟨hO.box,hO.inv d.DX d.nx (by have:=d.bn;omega) hN d.AP d.Yy<|ag _,λad ht q=>by rw[lk];exact hO.rl ad (by grind) q,hO.fa,⟨rfl,rfl,rfl,rfl,rfl,rfl⟩,rfl,by have:=d.DX.1;show((0:M):U)<W.mem;omega,?_⟩,D.late d hO.fa.ok.fF (by have:=d.bn;omega) al<|λq=>hO.rl _ (.inr<|sa _) q⟩⟩;rw[e0,e1,e2];have:=d.DX.2.2.1;show(0:U)<W.kK/\(0:U)<=W.kK/\(0:U)<=W.kK;omega
 have aV:∀A u n f p,AF [N,b,L,O] [[],[],[],f] 4->s8 a A c u W k g e N b L O l F V m K n f p->cY bA 62 #[aD c] A λac x=>∃au,ac=aN au/\Q1 a x c W k g l (V+1) K W.aP ds (λad=>eM ad<|e::bV N b L O) au:=λA u n f p bn S=>by obtain⟨K1,an,bT,s⟩:=S.nh;have al:=D.pC bT (s':=W) rfl;apply(s.safe S.sv.box).mono;rintro ac x(⟨rfl,K',hd,hb,hI,ho⟩|⟨au,K',rfl,hs,hf,dc,hp,ho⟩);rotate_left;obtain⟨q,L,rfl,q3,q4⟩:=hs.err;refine⟨_,rfl,.inr ⟨_,K',rfl,⟨an.trans hs.fa,hs.box,q,L,rfl,q3,an.fx.Yz d.st.aH.tu q4⟩,(al.L4 s hT hp ho hf hs.fa.ok.fF).mono (ag _) (by omega)<|λ_ q=>.inl q⟩⟩;exact⟨_,rfl,.inl ⟨rfl,_,K',e,N,b,L,O,F,m,⟨hb,hI.mono (ag _) bL (by omega) hN,λ_ _ _=>rfl,an.trans hd,⟨rfl,rfl,rfl,rfl,rfl,rfl⟩,rfl,hT⟩,al.sf s ho (xe (gy _) ho).1 hd.ok.fF⟩⟩
 have bo:∀A u n f p,s8 a A c u W k g e N b L O l F V m K n f p->cY bA 165 #[dC<|H<|R c 10,aD u] A λac x=>∃dx,ac=aN (aM dx)/\(dx=cf->AF [N,b,L,O] [[],[],[],f] 4)/\Z aw A x:=λA u n f p S=>by have bT:=d.st.count;have dc:=d.st.sI;(have hk:∀a:cP,(∀ad∈a,ad.ks=bX 0 ad.cs)->y (cA a)<=1000000->ku a<=1000000000:=λa c d=>by rw[Cg c];omega);refine Lr A c u W.l0 W.l1 W.l2 W.l3 az az az n N b L O [] [] [] f (λr hX=>?_) ⟨hk N (λad q=>(d.st.l0.each ad q).ks) (by omega),hk b (λad q=>(d.st.l1.each ad q).ks) (by omega),hk L (λad q=>(d.st.l2.each ad q).ks) (by omega),hk O (λad q=>(d.st.l3.each ad q).ks) (by omega),by simp[ku],by simp[ku],by simp[ku],S.Oq⟩;have al:=S.aj hX;obtain⟨K1,an,_,s⟩:=al.nh;have hb:=al.sv.box;have hl:=al.sv.lb;exact⟨⟨hb.cell rfl,hb.cell rfl,hb.cell rfl,hb.cell rfl⟩,⟨by rw[ct hl];rfl,by rw[ct hl];rfl,by rw[ct hl];rfl,by rw[ct hl];rfl⟩,⟨s.st.l0.TS (by omega),s.st.l1.TS (by omega),s.st.l2.TS (by omega),s.st.l3.TS<|by omega⟩,⟨Gp _,Gp _,Gp _,al.I8⟩⟩
 have ap:=X<|λ(j B v A:Y)(u:M)(n:ab)(f:cP)(w:eF)(hp:w.Perm (tB K))(P:(nR W.aH g).D j)(t:Z (g.aL W.aH) a j)(o:Z aw j B)(ba:Z aw B v)(ho:v.ownsRow (z<|G B) 179 1 n (y f) (f.map bB.ptr))(aU:f.map bB.all=gJ (ij<|dZ w<|de<|e::bV N b L O))(c:qR v (z<|G B) f)(hW:Z aw v A)(hl:A.heap[u]?=H (ay #[az,az,az,n] 78 (0,0)))=>F6 (k:=k) h d hp P t (o.cz ba) (gl ho o.size) aU (c.base o.size) hW hl;have cr:=D;have bc:=X (show∀j q3,(nR W.aH g).Xp->AS j q3->(nR W.aH g).D j->Z (g.aL W.aH) a j->Q1 a j c W k g l (V+1) K W.aP ds (λad=>eM ad<|e::bV N b L O) (fj q3)fromλj q3 hX D hD ht=>by obtain⟨K',hd,e1,e2,e3⟩:=PJ (sbqq:=c) (fO.refl d.st.aH) hD ht;exact .inr ⟨_,K',rfl,⟨hd,⟨W,(ht.block c bv d.st.xM).trans h,rfl,rfl⟩,q3,8,rfl,D,.inl ⟨rfl,hX⟩⟩,((d.cp hT cr).pC e2.2).mono (ag _) (by omega)<|λ_ q=>.inl q⟩);have bd:=X (show∀A u n f p,s8 a A c u W k g e N b L O l F V m K n f p->aW A (R c 8)=H (aq W.eG)/\aW A (R c 9)=H (aG W.aP)/\A.heap[u]?=H (ay #[az,az,az,n] 78 (0,0))fromλA u n f p S=>⟨S.sv.box.cell rfl,S.sv.box.cell rfl,S.sv.lb⟩);obtain⟨ML,bm⟩:∃ML,de (e::bV N b L O)=ML:=⟨_,rfl⟩;rw[bm]at bq bs ap bl;obtain⟨cb,cd,cc,bf,aF,bb⟩:=lw bq cE bs bp aV bo;go_in
 go_wp2_with fail
 apply db.mono;rintro ac w1⟨v1,rfl,bt,bx⟩;have hf:=cb w1 v1 bx bt;obtain⟨y1,e1,dk⟩:=aC bt;subst dk;have bh:=X bx;go_wp2_with fail
 apply hf.mono;rintro ac w2⟨v2,S2,rfl,cv,cj,bE,cn⟩;have ea:=bh.size;have eb:=bE.size;have cq:=En cv cj (by omega);have bi:=X<|(bh.mono (T:=g.aL W.aH) cJ).trans bE<|λ_ q=>.inl q;have bg:=X cn;go_wp2_with fail
 apply cq.mono;rintro ac j(⟨n,rfl,ao,P,t⟩|⟨cp,q3,rfl,cS,P,t⟩);rotate_left;(.have E:Z (g.aL W.aH) a j:=bi.trans t<|λq D=>D.elim (λdv=>.inr (by have:=bg q dv;omega)) .inl;have HP:=X<|bc j q3 cp cS P E;go_wp2;go_ret;exact⟨_,rfl,HP⟩);have E:Z (g.aL W.aH) a j:=bi.trans t<|λq D=>D.elim (λdv=>.inr (by have:=bg q dv;omega)) .inl;have C:j.ownsRow (z<|G a) 171 4 n (y ML) (aI ML):=gl ao (by omega);obtain⟨y3,e3,dm⟩:=aC ao;subst dm;have cB:=cd j E;obtain⟨ce,bk,ca⟩:=dF C E P;go_wp2_with fail
 apply cB.mono;rintro ac B⟨v4,w,rfl,hp,aa,o⟩;have cw:=cc j B _ v4 w bk o hp ce aa;obtain⟨y4,e4,dn⟩:=aC aa;subst dn;have HP:=X hp;have ch:=X o;go_wp2_with fail
 apply cw.mono;rintro ac v⟨v5,f,rfl,bu,aU,cN,ba⟩;obtain⟨y5,e5,dr⟩:=aC bu;subst dr;obtain⟨A,hW⟩:∃A,dd v (ay #[az,az,az,I y5 (y f) e5] 78)=A:=⟨_,rfl⟩;have co:A.heap[z<|G v]?=H (ay #[az,az,az,I y5 (y f) e5] 78 (0,0)):=by rw[<-hW];exact aK _ rfl
 have df:Z aw v A:=by rw[<-hW];exact(cO aw v)
 obtain⟨p,hC⟩:=ap j B v A (z<|G v) _ f w HP ca bk ch ba bu aU cN df co;obtain⟨b8,b9,cx⟩:=bd A _ _ f p hC;have HC:=X hC;by_cases dT:W.eG=0;(case' pos=>have cs:decide ((W.eG:U)=0)=cf:=decide_eq_true (by omega);(go_wp2_with fail);apply(bb A _ _ f p HC).mono;rintro ac W8⟨dx,rfl,bn,dc⟩;have bT:=X bn;have al:=HC.aj dc;obtain⟨c8,c9,br⟩:=bd W8 _ _ f p al;have av:=X al;cases dx;rotate_left;(go_wp2_with fail);apply(aF W8 _ _ f p (bT trivial) av).mono;rintro ac w9⟨v9,rfl,hP⟩;have ax:=X hP;go_wp2;go_ret;exact⟨_,rfl,ax⟩);(case' neg=>have cs:decide ((W.eG:U)=0)=bw:=(by grind);obtain⟨W8,rfl⟩:∃W8,W8=A:=⟨_,rfl⟩;have av:=HC;have br:=cx;have c9:=b9);(all_goals(go_wp2_with fail);rename_i QQ KK cm;have hS:W8.drew.heap[z<|G v]?=H (ay #[az,az,az,I y5 (y f) e5] 78 (0,0))/\aW W8.drew (R c 9)=H (aG W.aP):=⟨br,c9⟩;refine je (λr=>r.heap[z<|G v]?=H (ay #[az,az,az,I y5 (y f) e5] 78 (0,0))/\aW r (R c 9)=H (aG W.aP)) 6 rfl ?_;refine ki 0 ?_;(iterate 6 (refine uc (v:=?_) hS rfl (by kernel_rfl) lQ rfl ?_ ?_;rotate_left;(focus(rintro r⟨z0,z1⟩;have x0:aW r (R (z<|G v) 0)=H az:=(by rw[ct z0];rfl);have x1:aW r (R (z<|G v) 1)=H az:=(by rw[ct z0];rfl);have x2:aW r (R (z<|G v) 2)=H az:=(by rw[ct z0];rfl);have x3:aW r (R (z<|G v) 3)=H (I y5 (y f) e5):=(by rw[ct z0];rfl);go_simp;try rfl));simp only[Act.put,ig,rA,Nat.reduceAdd]));apply oe;refine fD (i:=6) rfl rfl (by kernel_rfl) ?_;intro K6 ck;go_simp;apply(bf _ _ _ f p<|av.aj<|dh aw _).mono;rintro ac w9⟨v9,rfl,hP⟩;have ax:=X hP;refine ck _ _ (λL=>(by omega)) ?_;refine fD (i:=7) rfl rfl (by kernel_rfl) ?_;intro K7 cl;go_simp;refine cl _ _ (λL=>(by omega)) ?_;refine jo rfl ?_ _;show KK _ _;apply cm;go_wp2;go_ret;exact⟨_,rfl,ax⟩)
section
open Conc.Locks
def Ib(sn:gL)(h:cW a b W 0)(F:Inv a b W g e j p u v c i l m sn)(hT:GY W j p u){bd:RS->Prop}(A:CQ g W j p u v i m bd)(K:W.closed=bw)(hN:l+1<=100000000)(hE:∀bg,Z (λbh=>g.aL W.aH bh\/bh=b) a bg->oF bg)(aV:EH g.fx):cY bA 55 #[aD b] a λE C=>(E=aN .nilIface/\Yu a C b W 0 g c (l+1) sn W.aP (λbf=>eM bf<|e::bV j p u v))\/Y7 a C b W g c (l+1) bd (eM W.aP<|e::bV j p u v) E:=by
 have ad:=ak h;have c0:=cW.cellAt h 0 rfl;have f0:a.frozen? (R b 0)=bw:=h.free;have t:=zw F.st.aH F.st.xM 1;have D:=h.qx 1;have n:=F.fa ad t rfl (ag _) rfl F.loose;generalize hW:cH a (R b 0) (nE 1)=S at t D n;have x:=uU D;rw[K]at x;have an:cY bA 32 #[aD b] S λE C=>E=aN .nilIface/\Below (z<|G S) S C:=x;have aa:∀T,Z aw S T->cY bA 101 #[aD b] T λE C=>∃ax,E=aN ax/\Q1 a C b W 1 g c (l+1) sn W.aP bd (λbf=>eM bf<|e::bV j p u v) ax:=λT N=>by have L:fO S T W.aH b g g:=⟨n.st.aH.aj N<|λ_ _=>id,N.mono cJ,λ_ q=>.inl q,Fx.refl _⟩;have ap:=n.fa (ak D) L rfl (ag _) rfl n.loose;have au:cW T b W 1:=(N.block b (ak D) id).trans D;apply(On sn au ap hT A hN aV).mono;rintro E C⟨ax,rfl,hz⟩;refine⟨ax,rfl,?_⟩;rcases hz with⟨rfl,s',k,m',a',b',c',d',P,O,o,B⟩|⟨v',k,E,hs,hr⟩;exact .inl ⟨rfl,s',k,m',a',b',c',d',P,O,⟨o.box,o.inv,o.rl,(t.trans L).trans o.fa,o.same,o.DA,o.tid⟩,B⟩;obtain⟨q,cc,e2,A,Q⟩:=hs.err;exact .inr ⟨v',k,E,⟨(t.trans L).trans hs.fa,hs.box,q,cc,e2,A,Q⟩,hr⟩
 have ac:=λw3 w4 k q q1 u(c:fO a w3 W.aH b g k)e A Q d D=>Vf.fin (w:=a) (w3:=w3) (w4:=w4) (sbqq:=b) (q:=q) (q1:=q1) (s:=W) (K:=g) (K':=k) (c:=u) F.st.xM ad K c e A Q d D;obtain⟨ao,HW,av,HE,aF⟩:=iY aa hW ac hE F.st.xM;clear h F hT A t D n K hW aa x ac hE;go_enter_defers func55,ntmps55
 go_wp2_with fail
 apply(lock_free (R b 0) _ c0 f0).mono;rintro E C⟨rfl,ba⟩;rw[J HW]at ba;subst C;go_wp2_with fail
 apply an.mono;rintro E Wr⟨rfl,V⟩;have hd:=ao Wr<|Z.aQ V;clear V an;go_wp2_with fail
 apply hd.mono;rintro E w3⟨v3,rfl,bb⟩;rcases bb with⟨rfl,s',k,m',a',b',c',d',P,O,o,B⟩|⟨v',k,e3,d,al⟩;(.have L:=X B;have w:=Jq o.box;have T:=X o;clear o hd B;(go_wp2_with fail);apply w.mono;rintro E w4⟨rfl,s⟩;obtain⟨d0,g0,r⟩:=T.fin s;have N:=X r;clear r s w;go_wp2;refine lL (f:=31) (args:=#[aD b]) (by simp) (by simp[go_sem]) ?_;apply(unlock_deferred (R b 0) .returning _ d0 g0).mono;rintro E u' bc⟨rfl,rfl,rfl⟩;exact⟨_,kT rfl _ _ _,.inl ⟨rfl,s',k,m',a',b',c',d',P,O,N,L⟩⟩);obtain⟨q,cc,rfl,A,Q⟩:=d.err;cases e3;obtain⟨s',L,e1,e2⟩:=d.box;have T:¬k.aL W.aH b:=λg=>(d.fa.aL b g).elim aF (λg=>by omega);have w:=Jr L A<|HE _ (d.fa.set T 6<|fj q).aj;obtain⟨ap,HQ,au,aU,ax⟩:=iY d.fa A Q d.box al;clear d A Q al L e1 e2 T hd;(go_wp2_with fail);apply w.mono;rintro E w4⟨q1,rfl,N,s⟩;obtain⟨d0,g0,r⟩:=av w3 w4 k q q1 cc ap aU HQ au s N;have HP:=X<|And.intro r ax;clear r s N w;go_wp2;refine lL (f:=31) (args:=#[aD b]) (by simp) (by simp[go_sem]) ?_;apply(unlock_deferred (R b 0) .returning _ d0 g0).mono;rintro E u' bc⟨rfl,rfl,rfl⟩;refine⟨_,kT rfl _ _ _,?_⟩;exact .inr ⟨fj q1,k,rfl,HP.1,HP.2⟩
end
structure j3(W:Y)(K:DK)(db sb:M)(s:SR)(k:M):Prop extends Aside W K db sb k where
 AP:s.mP≠H k
structure ZZ(W f:Y)(db sb:M)(s:SR)(K K':DK):Prop where
 ok:bY f db K'
 aj:Z (λk=>(K.aL db k\/k=sb)\/s.mP=H k) W f
 aL:∀k,K'.aL db k->K.aL db k\/z (G W)<=k
 fx:Fx K.fx K'.fx
def H6(W:Y)(x:M):Prop:=∃h w u,W.heap[x]?=H (ay h w u)/\w≠247/\((∀D,Value.string D∉h.toList)\/∀A B,Value.int A B∉h.toList)/\∀q,Value.pointer (H<|R q 0)∈h.toList->∃k t r,W.heap[q]?=H (ay k t r)/\t≠247
section
variable{w0 W f:Y}{db sbqq x:M}{mem tabqq:U}{Cl g:fh}{s s':SR}{K K':DK}{m o:cU}{a b c d a' b' c' d':cP}{C C' tbqq j N N':M}{lsqq i:dX}{l n:jt}{S:fh}{v:ab}{ts:cP}{p:gL}{e z':Prop}{Q Q':jt->Prop}
theorem fO.dm(h:fO W f db sbqq K K'):ZZ W f db sbqq s K K':=⟨h.ok,h.aj.mono (by grind),h.aL,h.fx⟩
theorem Aside.grow{q:M}(h:Aside W K db sbqq q)(k:z (G W)<=z (G f)):Aside f K db sbqq q:=⟨ai h.lt k,h.aL,h.ne⟩
theorem j3.grow{q:M}(k:j3 W K db sbqq s q)(h:z (G W)<=z (G f)):j3 f K db sbqq s q:=⟨k.toAside.grow h,k.AP⟩
theorem j3.pa{k:M}(h:j3 W K db sbqq s k)(q:ZZ W f db sbqq s K K')(r:∀k,s'.mP=H k->s.mP=H k):j3 f K' db sbqq s' k:=⟨⟨ai h.lt q.aj.size,λc=>(q.aL k c).elim h.aL (λd=>by have:=h.lt;omega),h.ne⟩,λt=>h.AP<|r k t⟩
theorem j3.off{k:M}(h:j3 W K db sbqq s k)(c:(K.aL db k\/k=sbqq)\/s.mP=H k):False:=c.elim (λc=>c.elim h.aL h.ne) h.AP
end
theorem IH{S:fh}{P F:Y}{h an:M}{v:ab}{q:ix}(ht:Z S P F)(hr:Row P h v an q)(hl:∀al,cI v=H al->al<z (G P))(A:0<y q->∀x,S x->∃u ao B,P.heap[x]?=H (ay u ao B)/\∃(ac:M)(O:ab),q[ac]?=H O/\O∉u.toList):Row F h v an q:=by
 obtain⟨E,⟨r,q0⟩|⟨L,k,t,r,w,D⟩⟩:=hr;exact⟨E,.inl ⟨r,q0⟩⟩;refine⟨E,.inr ⟨L,k,t,r,w,λad O hj=>?_⟩⟩;(have T:¬S L:=by intro hs;(have aa:ad<y q:=by grind);obtain⟨u,ao,B,hx,ac,u',V,hu⟩:=A (by omega) L hs;have:=D ac u' V;rw[ct hx]at this;grind);exact ht.cell (D ad O hj) T<|hl L (by rw[r];rfl)
theorem UI{m:cU}{k:Array ab}(h:(∀u,Value.string u∉k.toList)\/∀w A,Value.int w A∉k.toList)(q:0<y (aI m)):∃(t:M)(u:ab),(aI m)[t]?=H u/\u∉k.toList:=by
 rcases m with _|⟨r,m⟩;simp[aI]at q;rcases h with h|h;exact⟨0,am r.key,by simp[aI,E.cells],h _⟩;exact⟨3,aG r.bQ,by simp[aI,E.cells],h _ _⟩
theorem To{ts:cP}{h:Array ab}(q:∀t∈ts,t.ptr∉h.toList)(k:0<y (ts.map bB.ptr)):∃(r:M)(u:ab),(ts.map bB.ptr)[r]?=H u/\u∉h.toList:=by
 rcases ts with _|⟨t,ts⟩;simp at k;exact⟨0,t.ptr,by simp,q t<|by simp⟩
theorem Pf{S:fh}{aa w':Y}{tbqq:M}{P:ab}{k cut q E:U}{w t h:M}{A:ab}{r:mM}(O:lZ aa tbqq P k cut q E w t h A r)(ht:Z S aa w')(V:∀x,S x->H6 aa x):lZ w' tbqq P k cut q E w t h A r:=by
 have B:¬S tbqq:=λu=>by obtain⟨cs,ad,fr,L,h1,_⟩:=V tbqq u;exact iQ O.box L (λr=>h1 r.symm) rfl
 have F:=O.ne;have T:(eS r)[3]?=H (am (r[0]'F).first):=by rcases r with _|⟨ac,r⟩;simp at F;simp[eS,rV.cells]
 have D:¬S w:=λu=>by obtain⟨cs,ad,fr,L,_,u,_⟩:=V w u;(have h0:(eS r)[0]?=H (aq (r[0]'F).pos):=by rcases r with _|⟨ac,r⟩;simp at F;simp[eS,rV.cells]);rcases u with u|u;(have:=O.cells 3 _ T;rw[ct L]at this;grind);have:=O.cells 0 _ h0;rw[ct L]at this;grind
 exact O.dG (ht.block tbqq (ak O.box) B)<|ht.block w (cF _ _<|O.cells 3 _ T) D
def Rm(h:Cv):Prop:=h.any=cf/\h.room=1099511627776
theorem Rm.o6{h:Cv}(k:Rm h):EH h:=.inl k.1
theorem Fx.T6{h k:Cv}(a:Fx h k)(q:Rm h):Rm k:=⟨a.any.trans q.1,a.room.trans q.2⟩
def OM(h:RS)(l:jt):Prop:=zc l/\∀k v,(k,v)∈l↔h k=H v
def SQ(Q:jt->Prop):RS->Prop:=λh=>∃l,OM h l/\Q l
section
variable{w0 W f:Y}{db sbqq x:M}{mem tabqq:U}{Cl g:fh}{s s':SR}{K K':DK}{m o:cU}{a b c d a' b' c' d':cP}{C C' tbqq j N N':M}{lsqq i:dX}{l n:jt}{S:fh}{v:ab}{ts:cP}{p:gL}{e z':Prop}{Q Q':jt->Prop}
theorem DE.CC{D:Fs}(E:DE D W K db sbqq v ts)(r:Z S W f)(F:∀x,S x->H6 W x):DE D f K db sbqq v ts where
 row:=IH r E.row (λaa t=>(E.loc aa t).lt) (λV x hs=>by
  obtain⟨L,ac,P,hx,_,_,hp⟩:=F x hs;exact⟨L,ac,P,hx,To (λA q c=>by
   obtain⟨B,k,h,u,_⟩:=(E.each A q).mem;obtain⟨O,t',T,hq,w⟩:=hp _ c;exact iQ u.box hq (λh=>w h.symm) rfl) V⟩)
 loc:=λaa t=>(E.loc aa t).grow r.size
 each:=λA q=>by
  obtain⟨⟨B,k,h,u,w⟩,L,O,P,T,V,q7,q8⟩:=E.each A q;exact⟨⟨B,k,h,Pf u r F,w.grow r.size⟩,L.grow r.size,O,P,T,V,q7,q8⟩
theorem Inv.CC(h:Inv W sbqq s K m a b c d C tbqq N lsqq p)(k:Z S W f)(L:∀x,S x->Aside W K s.aH sbqq x)(q:∀x,S x->H6 W x)(B:¬S 1/\¬S 2):Inv f sbqq s K m a b c d C tbqq N lsqq p:={h with
 st:={h.st with
  mem:=IH k h.st.mem (λu r=>(h.st.tg u r).lt) (λE x F=>by
   obtain⟨w,P,A,t,_,r,_⟩:=q x F;exact⟨w,P,A,t,UI r E⟩)
  tg:=λu r=>(h.st.tg u r).grow k.size
  l0:=h.st.l0.CC k q
  l1:=h.st.l1.CC k q
  l2:=h.st.l2.CC k q
  l3:=h.st.l3.CC k q
  aH:=h.st.aH.aj k<|λu c D=>(L u D).aL c
  kI:=⟨Steps.aj h.st.kI.steps k B.1,h.st.kI.pow.aj k B.2,h.st.kI.fR.grow k.size,h.st.kI.mz.grow k.size⟩}
 AP:=by
  obtain⟨b,E,u,F⟩:=h.AP.ex;refine⟨⟨b,E,u.dG (k.block b u.lt (λD=>?_)),F.grow k.size⟩,h.AP.len⟩;obtain⟨w,P,A,t,_⟩:=q b D;obtain⟨T,r,O,_⟩:=u;rw[O]at t;cases t}
structure CW(w0 W:Y)(db sb:M)(mem kK:U)(Cl:fh)(s:SR)(K:DK)(m:cU)(a b c d:cP)(C tb N:M)(ls:dX)(l:jt)(e:Prop)(Q:jt->Prop):Prop where
 EC:cW W sb s 0
 Ct:s.closed=bw/\s.aH=db/\s.mem=mem/\s.kK=kK
 inv:Inv W sb s K m a b c d C tb N ls []
 tid:GY s a b c
 Cf:Cr ((m::bV a b c d).map<|kq s.aP) l
 len:y l<=C
 aj:Z aw w0 W
 low:(∀k,K.aL db k->z (G w0)<=k)/\z (G w0)<=sb
 Gl:∀k,s.mP=H k->z (G w0)<=k/\k<z (G W)
 cl:∀k,Cl k->j3 W K db sb s k/\z (G w0)<=k
 g0:Steps w0/\Pow w0/\oF w0
 rm:Rm K.fx
 qt:e->K.fx.bd=0
 cq:CQ K s a b c d tb ls (SQ Q)
def tK(w0 W:Y)(db sbqq:M)(mem tabqq:U)(Cl:fh)(C N:M)(l:jt)(e:Prop)(Q:jt->Prop):Prop:=∃s K m a b c d tbqq lsqq,CW w0 W db sbqq mem tabqq Cl s K m a b c d C tbqq N lsqq l e Q
def xI(w0:Y)(Cl:fh):fh:=λk=>z (G w0)<=k/\¬Cl k
theorem CW.Dp(h:CW w0 W db sbqq mem tabqq Cl s K m a b c d C tbqq N lsqq l e Q):oF W:=h.g0.2.2.aj h.aj id
theorem CW.kI(h:CW w0 W db sbqq mem tabqq Cl s K m a b c d C tbqq N lsqq l e Q)(r:∀x,S x->z (G w0)<=x):¬S 1/\¬S 2:=by
 have k:=h.g0.1.lt;have q:=h.g0.2.1.lt;grind
theorem CW.Qf(h:CW w0 W db sbqq mem tabqq Cl s K m a b c d C tbqq N lsqq l e Q)(k:ZZ W f db sbqq s K K'):Z (xI w0 Cl) W f:=k.aj.mono<|λr q=>.inl ⟨q.elim (λq=>q.elim (h.low.1 r) (λt=>by have:=h.low.2;omega))<|λt=>(h.Gl r t).1,λc=>(h.cl r c).1.off q⟩
theorem CW.pa(r:CW w0 W db sbqq mem tabqq Cl s K m a b c d C tbqq N lsqq l e Q)(t:ZZ W f db sbqq s K K')(h:∀k,s'.mP=H k->s.mP=H k)(A:cW f sbqq s' 0)(u:s'.closed=bw/\s'.aH=db/\s'.mem=mem/\s'.kK=tabqq)(w:Inv f sbqq s' K' o a' b' c' d' C' j N' i [])(F:GY s' a' b' c')(B:Cr ((o::bV a' b' c' d').map<|kq s'.aP) n)(D:y n<=C')(E:CQ K' s' a' b' c' d' j i (SQ Q')):CW w0 f db sbqq mem tabqq Cl s' K' o a' b' c' d' C' j N' i n e Q' where
 EC:=A
 Ct:=u
 inv:=w
 tid:=F
 Cf:=B
 len:=D
 aj:=r.aj.trans t.aj<|λk q=>.inr<|q.elim (λq=>q.elim (r.low.1 k) (λh=>by have:=r.low.2;omega))<|λh=>(r.Gl k h).1
 low:=⟨λk q=>(t.aL k q).elim (r.low.1 k)<|λh=>aB r.aj.size h,r.low.2⟩
 Gl:=λk q=>⟨(r.Gl k<|h k q).1,ai (r.Gl k<|h k q).2 t.aj.size⟩
 cl:=λk q=>⟨(r.cl k q).1.pa t h,(r.cl k q).2⟩
 g0:=r.g0
 rm:=t.fx.T6 r.rm
 qt:=λq=>t.fx.bd<|r.qt q
 cq:=E
theorem CW.iV(h:CW w0 W db sbqq mem tabqq Cl s K m a b c d C tbqq N lsqq l e Q)(t:Z S W f)(r:∀x,S x->Cl x/\H6 W x)(w:∀k,g k->Cl k\/z (G W)<=k/\k<z (G f)):CW w0 f db sbqq mem tabqq g s K m a b c d C tbqq N lsqq l e Q where
 EC:=(t.block sbqq (ak h.EC)<|λq=>(h.cl sbqq (r sbqq q).1).1.ne rfl).trans h.EC
 Ct:=h.Ct
 inv:=by
  have u:=h.Ct.2.1;subst u;exact h.inv.CC t (λx q=>(h.cl x (r x q).1).1.toAside) (λx q=>(r x q).2)<|h.kI<|λx q=>(h.cl x (r x q).1).2
 tid:=h.tid
 Cf:=h.Cf
 len:=h.len
 aj:=h.aj.trans t<|λk q=>.inr (h.cl k (r k q).1).2
 low:=h.low
 Gl:=λk q=>⟨(h.Gl k q).1,ai (h.Gl k q).2 t.size⟩
 cl:=λk q=>by
  have A:∀k,K.aL db k->k<z (G W):=by
   have u:=h.Ct.2.1;subst u;exact h.inv.st.aH.lt
  rcases w k q with q|q
  .exact⟨(h.cl k q).1.grow t.size,(h.cl k q).2⟩
  .exact⟨⟨⟨q.2,(by grind),λu=>by have:=ak h.EC;omega⟩,λu=>by have:=(h.Gl k u).2;omega⟩,aB h.aj.size q.1⟩
 g0:=h.g0
 rm:=h.rm
 qt:=h.qt
 cq:=h.cq
theorem tK.iV(h:tK w0 W db sbqq mem tabqq Cl C N l e Q)(t:Z S W f)(r:∀x,S x->Cl x/\H6 W x)(q:∀k,g k->Cl k\/z (G W)<=k/\k<z (G f)):tK w0 f db sbqq mem tabqq g C N l e Q:=by
 obtain⟨s,K,m,a,b,c,d,tbqq,lsqq,h⟩:=h;exact⟨s,K,m,a,b,c,d,tbqq,lsqq,h.iV t r q⟩
theorem tK.still(k:tK w0 W db sbqq mem tabqq Cl C N l e Q)(h:Z aw W f):tK w0 f db sbqq mem tabqq Cl C N l e Q:=k.iV h cJ<|λ_ q=>.inl q
theorem tK.Dp(h:tK w0 W db sbqq mem tabqq Cl C N l e Q):oF W:=by
 obtain⟨s,K,m,a,b,c,d,tbqq,lsqq,h⟩:=h;exact h.Dp
theorem tK.aj(h:tK w0 W db sbqq mem tabqq Cl C N l e Q):Z aw w0 W:=by
 obtain⟨s,K,m,a,b,c,d,tbqq,lsqq,h⟩:=h;exact h.aj
theorem tK.mono(h:tK w0 W db sbqq mem tabqq Cl C N l e Q)(r:C<=C')(k:C'<=1000000)(t:N<=N')(q:N'<=100000000):tK w0 W db sbqq mem tabqq Cl C' N' l e Q:=by
 obtain⟨s,K,m,a,b,c,d,tbqq,lsqq,h⟩:=h;exact⟨s,K,m,a,b,c,d,tbqq,lsqq,{h with inv:=h.inv.mono r k t q,len:=aB h.len r}⟩
theorem tK.O8(h:tK w0 W db sbqq mem tabqq Cl C N l e Q)(t:∀l,Q l->Q' l):tK w0 W db sbqq mem tabqq Cl C N l e Q':=by
 obtain⟨s,K,m,a,b,c,d,tbqq,lsqq,h⟩:=h;exact⟨s,K,m,a,b,c,d,tbqq,lsqq,{h with cq:=h.cq.mono (λk⟨n,q,r⟩=>⟨n,q,t n r⟩)}⟩
theorem tK.quiet(h:tK w0 W db sbqq mem tabqq Cl C N l e Q)(k:z'->e):tK w0 W db sbqq mem tabqq Cl C N l z' Q:=by
 obtain⟨s,K,m,a,b,c,d,tbqq,lsqq,h⟩:=h;exact⟨s,K,m,a,b,c,d,tbqq,lsqq,{h with qt:=λq=>h.qt (k q)}⟩
end
def DK.lU(K:DK)(f:Cv):DK:={K with fx:=f}
section
variable{W e:Y}{db sbqq:M}{s:SR}{K:DK}{m:cU}{a b c d:cP}{C tbqq N:M}{lsqq:dX}{f:Cv}{fs:Fs}{v:ab}{ts:cP}{g:gL}
theorem Aside.lU{k:M}(h:Aside W K db sbqq k)(i:Z (λk=>k=db) W e):Aside e (K.lU f) db sbqq k:=⟨ai h.lt i.size,h.aL,h.ne⟩
theorem Aside.Dj{k:M}(i:Aside W K db sbqq k)(h:Z (λk=>k=db) W e):e.heap[k]?=W.heap[k]?:=h.block k i.lt<|λj=>i.aL<|.inl j
theorem Mn{h o:M}{l:ix}(q:Row W h v o l)(i:∀k,cI v=H k->Aside W K db sbqq k)(n:Z (λk=>k=db) W e):Row e h v o l:=n.row q<|λk j=>⟨λp=>(i k j).aL<|.inl p,(i k j).lt⟩
theorem DE.lU(o:DE fs W K db sbqq v ts)(i:Z (λr=>r=db) W e):DE fs e (K.lU f) db sbqq v ts where
 row:=Mn o.row o.loc i
 loc:=λr h=>(o.loc r h).lU i
 each:=λD k=>by
  obtain⟨⟨p,j,h,q,l⟩,n,t,u,w,x,A,B⟩:=o.each D k;exact⟨⟨p,j,h,q.dG (n.Dj i)<|l.Dj i,l.lU i⟩,n.lU i,t,u,w,x,A,B⟩
theorem Inv.lU(h:Inv W sbqq s K m a b c d C tbqq N lsqq g)(o:bY e s.aH (K.lU f))(i:Z (λq=>q=s.aH) W e):Inv e sbqq s (K.lU f) m a b c d C tbqq N lsqq g:={st:={mem:=Mn h.st.mem h.st.tg i,tg:=λq p=>(h.st.tg q p).lU i,l0:=h.st.l0.lU i,l1:=h.st.l1.lU i,l2:=h.st.l2.lU i,l3:=h.st.l3.lU i,aH:=o,xM:=h.st.xM,kI:=⟨Steps.aj h.st.kI.steps i<|λk=>h.st.kI.fR.aL<|.inl k,h.st.kI.pow.aj i<|λk=>h.st.kI.mz.aL<|.inl k,h.st.kI.fR.lU i,h.st.kI.mz.lU i⟩,sI:=h.st.sI,jV:=h.st.jV,mJ:=h.st.mJ,jf:=h.st.jf,s1:=h.st.s1,s2:=h.st.s2,s3:=h.st.s3},rD:=h.rD,pr:=h.pr,lp:=h.lp,mem:=h.mem,Vp:=h.Vp,n9:=h.n9,I5:=h.I5,AP:=(by obtain⟨b,l,n,j⟩:=h.AP.ex;exact⟨⟨b,l,n.dG<|j.Dj i,j.lU i⟩,h.AP.len⟩),Yy:=h.Yy,DA:=h.DA,Ot:=h.Ot,pj:=h.pj,DY:=h.DY,nx:=h.nx,bn:=h.bn,eP:=h.eP,DX:=h.DX,loose:=h.loose,jV:=h.jV}
theorem bY.lU(h:bY W db K)(o:f.room=K.fx.room/\f.wt=K.fx.wt/\f.bd=K.fx.bd/\f.reads=K.fx.reads/\f.Nd=K.fx.Nd):bY W db (K.lU f):=by
 obtain⟨i,j,k,l,n⟩:=o;refine{h with gG:=?_,tu:=?_,jV:=?_};show iW W db K.nb K.sb K.mv f;unfold iW;rw[i,j,k,l,n];exact h.gG;show f.ok;unfold Cv.ok;rw[j,k];exact h.tu;show 0<=f.room/\f.room<=_;rw[i];exact h.jV
end
theorem SW{D:M}{j:dX}{l:jt}{v:U}(u:PR D j)(x:Cr (j.map<|kq v) l)(h k:ae)(f:U):Mi v h k f j=Rj l h k f:=by
 have t:∀A∈j.map (gm h),gV A:=λA q=>by obtain⟨s,w,rfl⟩:=bH.1 q;exact(u.row s w).sub eY
 have r:jX (j.map<|gm h):=by unfold jX;rw[gW];exact u.pW.imp λ{A s}q x h f j B=>q x (eK.1 h).1 f (eK.1 j).1 B
 exact Rc x (λj B q=>Zt q) h k f (mZ (oq t r) v)<|ZM u.row u.pW h v
theorem ID(t:U)(h:ae):∀(f:ci (ab×cU)),(∀r∈f.map (·.2),gV r)->xL t h f=sK ((f.map (·.2)).map<|kq t) h
 |[],_=>rfl
 |r::f,k=>by
  have j:=ID t h f (by grind);unfold xL sK at*;grind[UC]
theorem NV{B:M}{s:SR}{m:cU}{a b c d:cP}{l:jt}{x:U}(r:PR B (m::bV a b c d))(t:Cr ((m::bV a b c d).map<|kq x) l)(k:ae):Qz k x (oQ s m a b c d)=dA #[am (zL l k).1,aM (zL l k).2.1,xF (zL l k).2.2]:=by
 unfold Qz;by_cases h:1<=k.size/\k.size<=8;have q:zL l k=((ot l k).1,(ot l k).2,0):=dt (by omega);rw[di h,q,ID _ _ _ (by rw[rp];exact r.row),rp,UR t k];unfold seen;rcases hq:sK ((m::bV a b c d).map<|kq x) k with _|A;rfl;(have u:A.Good:=by obtain⟨D,v,w⟩:=bC.1<|RX hq;obtain⟨j,f,rfl⟩:=bH.1 v;exact r.jf A<|bC.2 ⟨j,f,AL (r.row j f) w⟩);rcases hd:A.del with _|_;simp[Zw,hd];rfl;simp[Zw,hd,u.del hd];rfl;have q:zL l k=(⟨#[]⟩,bw,3):=di (by omega);rw[dt h,q]
theorem IB(k v:ae)(l:jt):∀f:jt,l.foldl (fH k v) (f,cf)=(f++l.filter (λh=>!decide (h.1=k)),cf):=by
 induction l with
 |nil=>intro f;simp
 |cons h l j=>
  grind[Iw,Iv]
theorem VL(l:jt)(k v f:ae):uh l k v cf=uh l k f cf:=by
 unfold uh oP;rw[IB,IB];simp
theorem ZE{q:dX}(h:U)(f:oR):∀{m:cU}{l:jt},wH m->Cr (m::q) l->Cr (gT m (f.map<|kV h)::q) (xZ l f):=by
 induction f with
 |nil=>intro m l _ r;exact r
 |cons c f u=>
  intro m l k r;have j:=XQ k r<|kV h c;have t:uh l (kV h c).key (kV h c).val (kV h c).del=uh l c.key c.val c.del:=by
   unfold kV;grind[VL]
  rw[t]at j;exact u (wH.gT k [kV h c]) j
def ng(h:jt)(f:oR):jt:=if fZ f=0 then xZ h f else h
section
variable{w0 W i:Y}{db sbqq:M}{mem tabqq:U}{Cl n:fh}{s:SR}{K K':DK}{m:cU}{a b c d:cP}{C C' tbqq N N':M}{lsqq:dX}{l o:jt}{e z':Prop}{Q Q':jt->Prop}{nx lg:M}{g:Bool}{p:U}{cl:Bool}
theorem JF(h:jt)(f:oR)(j:y h<=C):y (ng h f)<=C+ly f:=by
 unfold ng ly;by_cases q:fZ f=0;rw[di q,di q];have:=AE h f;omega;grind
theorem GX{s:SR}{K:DK}{m:cU}{a b c d:cP}{tbqq:M}{lsqq:dX}{j:gL}{t:jt}(h:Inv W sbqq s K m a b c d C tbqq N lsqq j)(w:Cr ((m::bV a b c d).map<|kq s.aP) t)(f:oR):(zc (ng t f)/\∀k v,(k,v)∈ng t f↔wh j m (bV a b c d) ((s.aP:U)+1) f (xN s.aP f) k=H v)/\∀D,D∈tB j->∀q,wh j m (bV a b c d) ((s.aP:U)+1) f D q=eM D (m::bV a b c d) q:=by
 unfold ng wh xN;by_cases q:fZ f=0;rw[di q,di q,di q];obtain⟨_,P,S⟩:=vg q;have E:=h.bn;have L:=h.jV;(have x:∀B∈f.map (kV<|(s.aP:U)+1),B.Good:=λB A=>by grind[GG]);(have u:∀B∈f.map (kV<|(s.aP:U)+1),B.bQ=(s.aP:U)+1:=λB A=>by obtain⟨O,T,rfl⟩:=bH.1 A;rfl);refine⟨?_,λD F k=>by rw[di q];exact h.Wl x u F k⟩;have r:=ZE ((s.aP:U)+1) f (mZ h.row _) w;rcases f with _|⟨p,f⟩;refine⟨r.1,λk v=>?_⟩;rw[r.2 k v];show _↔eM s.aP (gh j m []::bV a b c d) k=H v;rw[<-h.zp (.inr rfl) k];rfl;refine⟨r.1,λk v=>?_⟩;rw[r.2 k v];show _↔eM ((s.aP+1:M):U) (gh j m _::bV a b c d) k=H v;rw[show((s.aP+1:M):U)=(s.aP:U)+1 by omega,h.Wo x u k];rw[dt q,dt q,dt q];exact⟨w,(by grind)⟩
theorem CW.read(h:CW w0 W s.aH sbqq mem tabqq Cl s K m a b c d C tbqq N lsqq l e Q)(t:Sj W i sbqq s K m a b c d C):Z (xI w0 Cl) W i/\tK w0 i s.aH sbqq mem tabqq Cl C N l e Q:=by
 obtain⟨K',f,k,j,u,r,_⟩:=t;exact⟨h.Qf f.dm,s,K',m,a,b,c,d,tbqq,lsqq,h.pa f.dm (λ_ q=>q) r h.Ct (h.inv.fa (ak h.EC) f (by rw[k]) (by rw[j.1];grind) rfl h.inv.loose) h.tid h.Cf h.len<|h.cq.pC j.2 rfl⟩
theorem CW.wrote{C' N' v:M}{o:jt}{x:U->ae->Option ae}{w:SR}{B:cU}{k r t u:cP}{j:M}{h:dX}(P:CW w0 W s.aH sbqq mem tabqq Cl s K m a b c d C tbqq N lsqq l e Q)(f:JH W i sbqq s 0 K C' N' [] v x w K' B k r t u j h)(hq:CQ K' w k r t u j h (SQ Q'))(hl:y o<=C')(A:OM (x v) o):Z (xI w0 Cl) W i/\tK w0 i s.aH sbqq mem tabqq Cl C' N' o e Q':=by
 obtain⟨D,E,F,L,g5,O⟩:=f.same;obtain⟨S,h2,T,V⟩:=P.Ct;refine⟨P.Qf f.fa.dm,w,K',B,k,r,t,u,j,h,P.pa f.fa.dm (λaa q=>O▸q) f.box ⟨E.trans S,D,F.trans T,L.trans V⟩ f.inv f.tid ⟨A.1,λaa ac=>?_⟩ hl hq⟩;rw[A.2 aa ac,<-f.rl v (.inr rfl) aa,f.DA];rfl
structure DF(w0 W:Y)(db:M)(Cl:fh)(K:DK)(e:Prop):Prop where
 aH:bY W db K
 aj:Z aw w0 W
 low:∀k,K.aL db k->z (G w0)<=k
 cl:∀k,Cl k->¬K.aL db k/\z (G w0)<=k/\k<z (G W)
 g0:Steps w0/\Pow w0/\oF w0
 rm:Rm K.fx
 qt:e->K.fx.bd=0
theorem DF.iV{S:fh}(h:DF w0 W db Cl K e)(f:Z S W i)(r:∀x,S x->z (G w0)<=x/\¬K.aL db x)(j:∀k,n k->Cl k\/z (G W)<=k/\k<z (G i)):DF w0 i db n K e:=by
 refine{h with aH:=h.aH.aj f (by grind),aj:=h.aj.trans f (by grind),cl:=λk q=>?_};rcases j k q with q|q;exact⟨(h.cl k q).1,(h.cl k q).2.1,ai (h.cl k q).2.2 f.size⟩;exact⟨λc=>by have:=h.aH.lt k c;omega,aB h.aj.size q.1,q.2⟩
theorem DF.Qf{S:fh}(h:DF w0 W db Cl K e)(f:∀x,S x->Cl x):∀x,S x->z (G w0)<=x/\¬K.aL db x:=λx q=>⟨(h.cl x<|f x q).2.1,(h.cl x<|f x q).1⟩
structure CD(w0 W:Y)(db:M)(mem kK:U)(Cl:fh)(K:DK)(C N:M)(e:Prop)(Q:jt->Prop):Prop where
 df:DF w0 W db Cl K e
 jV:C<=1000000
 xW:N<=100000000
 cp:CP K mem kK C N (SQ Q)
def Cs(w0 W:Y)(db:M)(mem tabqq:U)(Cl:fh)(C N:M)(e:Prop)(Q:jt->Prop):Prop:=∃K,CD w0 W db mem tabqq Cl K C N e Q
structure CE(w0 W:Y)(db:M)(mem kK:U)(Cl:fh)(K:DK)(C N:M)(l:jt)(e:Prop):Prop where
 df:DF w0 W db Cl K e
 jV:C<=1000000
 xW:N<=100000000
 eP:K.eP=[]
 qP:∃Rqq,Ig (vw K.files) mem kK C N Rqq/\OM Rqq l
def J2(w0 W:Y)(db:M)(mem tabqq:U)(Cl:fh)(C N:M)(l:jt)(e:Prop):Prop:=∃K,CE w0 W db mem tabqq Cl K C N l e
structure CL(w0 W:Y)(db:M)(mem kK:U)(Cl:fh)(K:DK)(C N:M)(l:jt)(e:Prop)(Q:jt->Prop):Prop where
 df:DF w0 W db Cl K e
 laid:∃Rqq nx lg tb a b c d dO ls j0,re W db mem kK K C N Rqq nx lg tb a b c d dO ls/\OM Rqq l/\uG K lg (a++b++c++d)/\yf K lg tb ls j0/\∀j,j0<=j->j<=y ls->SQ Q (pO tb a b c d ls j)
def Vn(w0 W:Y)(db:M)(mem tabqq:U)(Cl:fh)(C N:M)(l:jt)(e:Prop)(Q:jt->Prop):Prop:=∃K,CL w0 W db mem tabqq Cl K C N l e Q
theorem Cs.iV{S:fh}(h:Cs w0 W db mem tabqq Cl C N e Q)(q:Z S W i)(j:∀x,S x->Cl x)(f:∀k,n k->Cl k\/z (G W)<=k/\k<z (G i)):Cs w0 i db mem tabqq n C N e Q:=by
 obtain⟨K,h⟩:=h;exact⟨K,{h with df:=h.df.iV q (h.df.Qf j) f}⟩
theorem Cs.still(h:Cs w0 W db mem tabqq Cl C N e Q)(f:Z aw W i):Cs w0 i db mem tabqq Cl C N e Q:=h.iV f cJ<|λ_ q=>.inl q
theorem Cs.Dp(h:Cs w0 W db mem tabqq Cl C N e Q):oF W:=by
 obtain⟨K,h⟩:=h;exact h.df.g0.2.2.aj h.df.aj id
theorem Cs.mono(h:Cs w0 W db mem tabqq Cl C N e Q)(u:C<=C')(j:C'<=1000000)(v:N<=N')(k:N'<=100000000)(w:∀l,Q l->Q' l):Cs w0 W db mem tabqq Cl C' N' e Q':=by
 obtain⟨K,h⟩:=h;exact⟨K,{h with jV:=j,xW:=k,cp:=h.cp.mono u v (λq⟨o,r,t⟩=>⟨o,r,w o t⟩)}⟩
theorem Cs.gG(k:Cs w0 W db mem tabqq Cl C N e Q):∃h j,W.heap[db]?=H (ay h 63 j):=by
 obtain⟨K,k⟩:=k;exact⟨_,_,k.df.aH.gG⟩
theorem J2.iV{S:fh}(h:J2 w0 W db mem tabqq Cl C N l e)(q:Z S W i)(j:∀x,S x->Cl x)(f:∀k,n k->Cl k\/z (G W)<=k/\k<z (G i)):J2 w0 i db mem tabqq n C N l e:=by
 obtain⟨K,h⟩:=h;exact⟨K,{h with df:=h.df.iV q (h.df.Qf j) f}⟩
theorem Vn.iV{S:fh}(h:Vn w0 W db mem tabqq Cl C N l e Q)(f:Z S W i)(k:∀x,S x->Cl x)(t:∀r,n r->Cl r\/z (G W)<=r/\r<z (G i)):Vn w0 i db mem tabqq n C N l e Q:=by
 obtain⟨K,h⟩:=h;have u:=h.df.g0.1.lt;have v:=h.df.g0.2.1.lt;have w:∀x,S x->z (G w0)<=x:=λx q=>(h.df.cl x<|k x q).2.1;obtain⟨j,nx,lg,tbqq,a,b,c,d,g,lsqq,B,hL,A⟩:=h.laid;exact⟨K,h.df.iV f (h.df.Qf k) t,j,nx,lg,tbqq,a,b,c,d,g,lsqq,B,{hL with aH:=hL.aH.aj f<|λr q u=>(h.df.cl r<|k r u).1 q,steps:=Steps.aj hL.steps f (by grind),pow:=hL.pow.aj f (by grind)},A⟩
theorem Vn.still(h:Vn w0 W db mem tabqq Cl C N l e Q)(f:Z aw W i):Vn w0 i db mem tabqq Cl C N l e Q:=h.iV f cJ<|λ_ q=>.inl q
theorem F4(h:tK w0 W db sbqq mem tabqq Cl C N l e Q)(f:ae)(u:f.size<=140737488351232):cY bA 15 #[aD sbqq,am f] W λj i=>(j=aN (dA #[am (zL l f).1,aM (zL l f).2.1,xF (zL l f).2.2])\/¬e/\∃q,j=aN (gE<|fj q)/\sF i q 8)/\Z (xI w0 Cl) W i/\tK w0 i db sbqq mem tabqq Cl C N l e Q:=by
 obtain⟨s,K,m,a,b,c,d,tbqq,lsqq,h⟩:=h;have j:=h.Ct.2.1;subst j;apply(NU f h.EC h.inv.st h.Ct.1 u).mono;rintro j i⟨k,t⟩;refine⟨?_,h.read t⟩;rcases k with rfl|⟨v,q,rfl,r⟩;left;rw[NV h.inv.all h.Cf];exact .inr ⟨λf=>by have:=h.qt f;omega,q,rfl,r⟩
theorem Sb(h:tK w0 W db sbqq mem tabqq Cl C N l e Q)(k j:ae)(f:U):cY bA 51 #[aD sbqq,am k,am j,aq f] W λt i=>((∃r,t=aN (dA #[r,.nilIface])/\Vi W i r (Rj l k j f))\/¬e/\∃q,t=aN (dA #[az,fj q])/\sF i q 8)/\Z (xI w0 Cl) W i/\tK w0 i db sbqq mem tabqq Cl C N l e Q:=by
 obtain⟨s,K,m,a,b,c,d,tbqq,lsqq,h⟩:=h;have t:=h.Ct.2.1;subst t;apply(SU k j f h.EC h.inv.st h.Ct.1).mono;rintro t i⟨u,x⟩;refine⟨?_,h.read x⟩;rcases u with⟨r,rfl,v⟩|⟨A,q,rfl,w⟩;rw[SW h.inv.all h.Cf]at v;grind
 exact .inr ⟨λf=>by have:=h.qt f;omega,q,rfl,w⟩
theorem Xl{f:Cv}{c:U}(h:Sm f c):c=8\/c=9:=h.imp (λq=>q.1)<|λq=>q.1
theorem CW.Zx{C' N':M}{P:RS->Prop}(h:CW w0 W s.aH sbqq mem tabqq Cl s K m a b c d C tbqq N lsqq l e Q)(f:fO W i s.aH sbqq K K')(v:CP K' s.mem s.kK C' N' P)(u:∀j,P j->SQ Q' j)(r:C'<=1000000)(t:N'<=100000000):Z (xI w0 Cl) W i/\Cs w0 i s.aH mem tabqq (λk=>Cl k\/k=sbqq) C' N' e Q':=by
 refine⟨h.Qf f.dm,K',⟨f.ok,?_,λk q=>(f.aL k q).elim (h.low.1 k)<|λw=>aB h.aj.size w,λk q=>?_,h.g0,f.fx.T6 h.rm,λq=>f.fx.bd<|h.qt q⟩,r,t,by rw[<-h.Ct.2.2.1,<-h.Ct.2.2.2];exact v.mono (ag _) (ag _) u⟩;exact h.aj.trans f.aj<|λk q=>.inr<|q.elim (h.low.1 k) (λr=>by have:=h.low.2;omega);rcases q with q|rfl;have:=(h.cl k q).1.pa (s':=s) f.dm<|λ_ q=>q;exact⟨this.aL,(h.cl k q).2,this.lt⟩;exact⟨λq=>(f.aL k q).elim h.inv.st.xM (λw=>by have:=ak h.EC;omega),h.low.2,ai (ak h.EC) f.aj.size⟩
def P6(W:Y)(sbqq:M):Prop:=∃f h,W.heap[sbqq]?=H (ay f 80 h)
theorem tK.cd(h:tK w0 W db sbqq mem tabqq Cl C N l e Q):Cs w0 W db mem tabqq (λk=>Cl k\/k=sbqq) C N e Q/\P6 W sbqq:=by
 obtain⟨s,K,m,a,b,c,d,tbqq,lsqq,h⟩:=h;have f:=h.Ct.2.1;subst f;exact⟨(h.Zx (fO.refl h.inv.st.aH) (h.inv.cp h.tid h.cq) (λ_ q=>q) h.inv.st.jV h.inv.jV).2,_,_,h.EC⟩
theorem CW.Y4{C' N':M}{D:ab}{P:RS->Prop}(F:CW w0 W s.aH sbqq mem tabqq Cl s K m a b c d C tbqq N lsqq l e Q)(hF:I3 W i sbqq s K K' D)(x:CP K' s.mem s.kK C' N' P)(w:∀f,P f->SQ Q' f)(u:C'<=1000000)(v:N'<=100000000):∃q c,D=fj q/\sF i q c/\(c=8\/c=9)/\Z (xI w0 Cl) W i/\P6 i sbqq/\Cs w0 i s.aH mem tabqq (λB=>Cl B\/B=sbqq) C' N' e Q':=by
 obtain⟨V,T,A,c,E,k,r,L,O,S,t⟩:=hF.ex;obtain⟨h,j⟩:=F.Zx hF.fa x w u v;exact⟨A,c,E,k,Xl t,h,⟨_,_,r⟩,j⟩
theorem CW.N3(h:CW w0 W db sbqq mem tabqq Cl s K m a b c d C tbqq N lsqq l e Q):∀f,Z (λk=>K.aL db k\/k=sbqq) W f->oF f:=λf j=>h.g0.2.2.aj (h.aj.trans j<|λk q=>.inr<|q.elim (h.low.1 k) (λr=>by have:=h.low.2;omega)) id
theorem XC(j:tK w0 W db sbqq mem tabqq Cl C N l e Q)(F:ab)(f:oR)(h:Bool)(w:Hh w0 F f)(hz:∀x∈f,x.key.size<=140737488351232/\x.val.size<=140737488351232)(A:y f<=1000000000)(L:C+ly f<=1000000)(O:N+1<=100000000):cY bA 14 #[aD sbqq,F,aM h] W λE i=>∃u,E=aN u/\Z (xI w0 Cl) W i/\((u=xF (fZ f)/\tK w0 i db sbqq mem tabqq Cl (C+ly f) (N+1) (ng l f) e (λx=>(fZ f=0->h=bw)/\Q x\/fZ f=0/\x=ng l f))\/fZ f=0/\∃q c,u=fj q/\sF i q c/\(c=8\/c=9)/\P6 i sbqq/\Cs w0 i db mem tabqq (λP=>Cl P\/P=sbqq) (C+ly f) (N+1) e (λx=>Q x\/x=ng l f)):=by
 obtain⟨s,K,m,a,b,c,d,tbqq,lsqq,j⟩:=j;have E:=j.Ct.2.1;subst E;apply(ET [] h j.EC j.inv j.tid j.cq j.Ct.1 (λf v=>w.aj (j.aj.trans v<|λP E=>.inr (by have:=j.low.2;have:P=sbqq:=E;omega))<|λ_ _=>id) hz A L O j.N3<|.inl j.rm.o6).mono;have k:=(GX j.inv j.Cf f).1;rintro E i(⟨rfl,s',K',m',a',b',c',d',ac,aa,V,v⟩|⟨h0,ad,K',rfl,hF,A⟩)
 .obtain⟨S,T⟩:=j.wrote (Q':=λx=>(fZ f=0->h=bw)/\Q x\/fZ f=0/\x=ng l f) V (v.1.mono (λt q=>by
   rcases q with⟨B,o,r,D⟩|⟨B,r⟩
   .exact⟨o,r,.inl ⟨B,D⟩⟩
   .exact⟨ng l f,by rw[r];exact k,.inr ⟨B,rfl⟩⟩)) (JF l f j.len) k
  grind
 .obtain⟨q,B,rfl,S,T,g3,g4,g5⟩:=j.Y4 hF A (Q':=λx=>Q x\/x=ng l f) (λt q=>by
   rcases q with⟨o,r,D⟩|r
   .exact⟨o,r,.inl D⟩
   .exact⟨ng l f,by rw[r];exact k,.inr rfl⟩) L O
  grind
theorem QT(h:tK w0 W db sbqq mem tabqq Cl C N l e Q)(t:N+1<=100000000):cY bA 55 #[aD sbqq] W λu i=>∃j,u=aN j/\Z (xI w0 Cl) W i/\((j=.nilIface/\tK w0 i db sbqq mem tabqq Cl C (N+1) l e (λx=>x=l))\/∃q c,j=fj q/\sF i q c/\(c=8\/c=9)/\P6 i sbqq/\Cs w0 i db mem tabqq (λO=>Cl O\/O=sbqq) C (N+1) e (λx=>Q x\/x=l)):=by
 obtain⟨s,K,m,a,b,c,d,tbqq,lsqq,h⟩:=h;have u:=h.Ct.2.1;subst u;have k:OM (eM s.aP<|m::bV a b c d) l:=h.Cf;apply(Ib [] h.EC h.inv h.tid h.cq h.Ct.1 t h.N3 h.rm.o6).mono;rintro u i(⟨rfl,s',K',m',P,S,T,d',L,E,A,B⟩|⟨aa,K',rfl,hF,D⟩);obtain⟨v,w⟩:=h.wrote (Q':=λx=>x=l) A (B.mono<|λf q=>⟨l,by rw[q];exact k,rfl⟩) h.len k;grind
 .obtain⟨q,V,rfl,v,w,g3,g4,g5⟩:=h.Y4 hF D (Q':=λx=>Q x\/x=l) (λf q=>by
   rcases q with⟨o,r,F⟩|r
   .exact⟨o,r,.inl F⟩
   .exact⟨l,by rw[r];exact k,.inr rfl⟩) h.inv.st.jV t
  grind
theorem Hm.none(w:Hm (vw K.files) nx lg tbqq a b c d g lsqq){q:ci ae}(t:List.Perm q (K.files.map aX.name)):lP lg (a++b++c++d) q=[]:=by
 unfold lP;rw[ie];intro x v;have h:=t.mem_iff.1 v;rw[<-yp]at h;obtain⟨r,j⟩:=su h;have:nL lg (a++b++c++d) x=cf:=by rcases w.names x r j with k|⟨k,_⟩|⟨A,u,k⟩;rw[k];exact An _ _;rw[k];exact Be _ _;rw[k];exact EX u
 rw[this];simp
theorem XF(j:tK w0 W db sbqq mem tabqq Cl C N l e Q):cY bA 28 #[aD sbqq] W λu i=>∃w,u=aN w/\Z (xI w0 Cl) W i/\P6 i sbqq/\((w=.nilIface/\Vn w0 i db mem tabqq (λk=>Cl k\/k=sbqq) C N l e (λac=>ac=l))\/∃q c,w=fj q/\sF i q c/\(c=8\/c=9)/\Cs w0 i db mem tabqq (λk=>Cl k\/k=sbqq) C N e Q):=by
 obtain⟨s,K,m,a,b,c,d,tbqq,lsqq,j⟩:=j;have u:=j.Ct.2.1;subst u;have f:=j.inv;have D:=j.kI (S:=λk=>k=sbqq) (λk u=>by have T:k=sbqq:=u;rw[T];exact j.low.2);have t:∀{aa:ab}{h f:M}{j:ix},Row W f aa h j->∃ac h c,aa=I ac h c:=λq=>by grind[wk]
 refine(UT j.EC j.Ct.1 (t f.st.mem) (t f.st.l0.row) (t f.st.l1.row) (t f.st.l2.row) (t f.st.l3.row) f.st.aH f.st.xM f.st.kI.pow (λu=>D.2 u.symm) (by have:=f.rD.lt;have:=f.nx;have:=f.jV;omega) (λq=>(f.rD.log<|f.loose q).elim<|λ_ F=>⟨_,F.2⟩) (by have:=f.eP;have:=f.jV;omega)).mono ?_;rintro u i⟨aa,K',lb,ln,rfl,O,B,_⟩;have A:(s.eG:U)<s.mem/\Lv s.kK a b c:=j.tid;have h:=O.pa;rcases O.wG with⟨rfl,r⟩|⟨l0,q,p,L,r,rfl,hq,V⟩;obtain⟨v,g2⟩:=xe (gy _) r;obtain⟨j0,q1,q2⟩:=id j.cq;obtain⟨c1,c2,_⟩:=q1.X9 f r v h.ok.fF;obtain⟨E,K2,P⟩:=j.Zx h (j.cq.L4 f A (gy _) r v h.ok.fF) (λ_ q=>q) f.st.jV f.jV;(have x:Hm (vw K'.files) s.next s.log tbqq a b c d s.dO lsqq:=by rw[v];exact f.rD);(have hf:DF w0 i s.aH (λk=>Cl k\/k=sbqq) K' e:=by refine⟨h.ok,j.aj.trans h.aj<|λk q=>.inr<|q.elim (j.low.1 k) (λu=>by have:=j.low.2;omega),λk q=>(h.aL k q).elim (j.low.1 k)<|λF=>aB j.aj.size F,λk q=>?_,j.g0,h.fx.T6 j.rm,λq=>h.fx.bd<|j.qt q⟩;rcases q with q|rfl;have:=(j.cl k q).1.pa (s':=s) h.dm<|λ_ q=>q;exact⟨this.aL,(j.cl k q).2,this.lt⟩;exact⟨λq=>(h.aL k q).elim f.st.xM (λF=>by have:=ak j.EC;omega),j.low.2,ak B⟩);refine⟨_,rfl,E,⟨_,_,B⟩,.inl ⟨rfl,K',hf,_,s.next,s.log,tbqq,a,b,c,d,s.dO,lsqq,y lsqq,⟨h.ok,?_,f.st.jV,f.jV,λns hn=>?_,?_,?_,?_,?_⟩,j.Cf,c1,c2,λad z1 z2=>⟨l,?_,rfl⟩⟩⟩;rw[v,<-j.Ct.2.2.1,<-j.Ct.2.2.2];exact f.L9 A f.left;(rw[x.none hn];have:=f.eP;grind);exact Steps.aj f.st.kI.steps h.aj<|λq=>q.elim f.st.kI.fR.aL D.1;exact f.st.kI.pow.aj h.aj<|λq=>q.elim f.st.kI.mz.aL D.2;exactλq=>(h.aL _ q).elim f.st.kI.fR.aL (λF=>by have:=f.st.kI.steps.lt;omega);exactλq=>(h.aL _ q).elim f.st.kI.mz.aL (λF=>by have:=f.st.kI.pow.lt;omega);rw[show ad=y lsqq by omega,f.j8];exact j.Cf;obtain⟨E,P⟩:=j.Zx h (j.cq.L4 f A L r (xe L r).1 h.ok.fF) (λ_ q=>q) f.st.jV f.jV;exact⟨_,rfl,E,⟨_,_,B⟩,.inr ⟨q,p,rfl,hq,Xl V,P⟩⟩
theorem Lk(j:Vn w0 W db mem tabqq Cl C N l e Q)(E:y l<=C)(ho:1<=mem/\mem<=32/\2<=tabqq/\tabqq<=6):cY bA 8 #[aD db,dL #[aq mem,aq tabqq]] W λaa i=>∃P B,aa=aN (dA #[P,B])/\Z (xI w0 Cl) W i/\((P=aD (z (G W)+2)/\B=.nilIface/\z (G W)+4<=z (G i)/\tK w0 i db (z (G W)+2) mem tabqq Cl C N l e Q)\/∃q c,P=dC none/\B=fj q/\sF i q c/\(¬e/\c=8)/\Cs w0 i db mem tabqq Cl C N e Q):=by
 obtain⟨K,j⟩:=j;obtain⟨A,nx,lg,tbqq,a,b,c,d,g,lsqq,j0,h,hs,hC,hS,hQ⟩:=j.laid;have D:re W db mem tabqq (K.lU {K.fx with any:=bw}) C N A nx lg tbqq a b c d g lsqq:=⟨h.aH.lU ⟨rfl,rfl,rfl,rfl,rfl⟩,h.qP,h.jV,h.xW,h.eP,h.steps,h.pow,h.fR,h.mz⟩;have u:qc K (K.lU {K.fx with any:=bw}):=⟨rfl,rfl,rfl⟩;have ac:=j.df.aj.size;have v:∀k,(K.aL db k\/k=z (G W)+2)->xI w0 Cl k\/z (G W)<=k:=λk q=>q.elim (λq=>.inl ⟨j.df.low k q,λc=>(j.df.cl k c).1 q⟩) (by grind);apply(Dc (Hqq:=True) D (λ_=>hC.pC u) (λ_=>hS.pC u) hQ ho).mono;rintro aa i(⟨rfl,s,K',m',S,T,V,d',x,w,f⟩|⟨q,rfl,K',p,hd,hr,O,hf,hx,hq,hc⟩);obtain⟨e1,e2,e3,e4,e5,e6⟩:=f.same;have L:=f.size;have F:Rm {K'.fx with any:=cf}:=⟨rfl,f.fa.fx.room.trans j.df.rm.2⟩;have r:Inv i (z (G W)+2) s (K'.lU {K'.fx with any:=cf}) m' S T V d' C x N w []:=f.inv.lU (f.inv.st.aH.lU ⟨rfl,rfl,rfl,rfl,rfl⟩)<|Z.refl _ _;refine⟨_,_,rfl,f.fa.aj.mono v,.inl ⟨rfl,rfl,L,s,K'.lU {K'.fx with any:=cf},m',S,T,V,d',x,w,f.box,⟨e2,e1,e3,e4⟩,r,f.tid,?_,E,?_,⟨λk q=>(f.aL k q).elim (j.df.low k) (λq=>by omega),by omega⟩,λk q=>?_,λk q=>?_,j.df.g0,F,λq=>f.fa.fx.bd<|j.df.qt q,(f.cq trivial).pC ⟨rfl,rfl,rfl⟩ rfl⟩⟩;refine⟨hs.1,λk ad=>?_⟩;rw[hs.2 k ad,<-f.rl k];rfl;exact j.df.aj.trans f.fa.aj (λk q=>.inr<|q.elim (j.df.low k)<|λaa=>by omega);(rw[e6]at q;grind);have t:=j.df.cl k q;refine⟨⟨⟨by omega,λc=>(f.aL k c).elim t.1 (λc=>by omega),by omega⟩,λc=>?_⟩,t.2.1⟩;rw[e6]at c;grind
 refine⟨_,_,rfl,O.mono<|λk q=>v k<|.inl q,.inr ⟨q,p,rfl,rfl,hq,?_,K'.lU {K'.fx with any:=cf},⟨hd.lU ⟨rfl,rfl,rfl,rfl,rfl⟩,j.df.aj.trans O<|λk q=>.inr<|j.df.low k q,λk q=>(hf k q).elim (j.df.low k) (by grind),λk q=>?_,j.df.g0,⟨rfl,hx.room.trans j.df.rm.2⟩,λq=>hx.bd<|j.df.qt q⟩,h.jV,h.xW,(hr trivial).pC ⟨rfl,rfl,rfl⟩⟩⟩;rcases hc with⟨F,r⟩|⟨F,r⟩;exact⟨λf=>by have r:0<K.fx.bd:=r;have:=j.df.qt f;omega,F⟩;have L:=j.df.rm.2;rcases r with r|r;cases r;have r:K.fx.room<1000000000:=r;omega;have t:=j.df.cl k q;exact⟨λc=>(hf k c).elim t.1 (λf=>by omega),t.2.1,ai t.2.2 O.size⟩
theorem Jp{j h:Fs}(r:(j.map (·.1)).Nodup)(q:h.Perm j)(t:ae):cX h t=cX j t:=by
 have k:(h.map (·.1)).Nodup:=(q.map _).nodup_iff.2 r;rcases h1:cX j t with _|b;rcases h2:cX h t with _|b;rfl;have:=GC r<|q.mem_iff.1<|oD h2;grind
 exact GC k (f:=(t,b))<|q.mem_iff.2<|oD h1
theorem mO.again{t j:Fs}(h:mO t nx lg tbqq a b c d g lsqq)(f:∀r,cX j r=cX t r):mO j nx lg tbqq a b c d g lsqq:=by
 obtain⟨L,u,k⟩:=h.BY;exact{h with names:=λr k q=>h.names r k (by rw[<-f];exact q),BY:=⟨L,u,(by grind)⟩,first:=λq r k m v=>h.first (by rw[<-f];exact q) r k m (by rw[<-f];exact v),Dg:=λq=>by rw[f];exact h.Dg q,state:=by rw[f];exact h.state,log:=λq=>by rw[f];exact h.log q,pm:=λx w=>by rw[f];exact h.pm x w}
theorem ZI(h:J2 w0 W db mem tabqq Cl C N l e):cY bA 21 #[aD db] W λF i=>∃v,F=aN (aD v)/\Z aw W i/\Vn w0 i v mem tabqq Cl C N l True (λan=>an=l):=by
 obtain⟨K,h⟩:=h;have r:=h.df.aH.nodup;apply(XP h.df.aH r).mono;rintro F i⟨v,K',rfl,k,V,A,S,u,D,w,x⟩;obtain⟨f,⟨nx,lg,tbqq,a,b,c,d,g,lsqq,hr⟩,B⟩:=h.qP;have hz:=u.size;have ad:=h.df.aj.size;have ac:=h.df.g0.1.lt;have aa:=h.df.g0.2.1.lt;have j:P7 (vw K'.files) mem tabqq C N f nx lg tbqq a b c d g lsqq:={hr with rD:=hr.rD.again (λh=>Jp r V h)};have t:(K'.files.map aX.name).Nodup:=by rw[<-yp];exact k.nodup
 obtain⟨c1,c2⟩:=uG.start w.1 A k.fF t j.rD x;refine⟨v,rfl,u,K',⟨k,h.df.aj.cz u,(by grind),λL q=>⟨λc=>?_,(h.df.cl L q).2.1,by have:=(h.df.cl L q).2.2;omega⟩,h.df.g0,by rw[D];exact h.df.rm,λ_=>by rw[D]⟩,f,nx,lg,tbqq,a,b,c,d,g,lsqq,y lsqq,⟨k,j,h.jV,h.xW,λE T=>?_,Steps.aj (Steps.aj h.df.g0.1 h.df.aj id) u id,(h.df.g0.2.1.aj h.df.aj id).aj u id,(by grind),(by grind)⟩,B,c1,c2,λal z1 z2=>⟨l,?_,rfl⟩⟩;have:=S L c;have:=(h.df.cl L q).2.2;omega;have h1:y (lP lg (a++b++c++d) E)<=y E:=eW _ _;have O:=T.length_eq;have P:=j.rD.BY.len k.nodup;rw[bU]at O;rw[vw,bU]at P;rw[A,dB];omega;(have F:pO tbqq a b c d lsqq al=f:=by funext q;rw[show al=y lsqq by omega,<-hr.rl q,pO,aY]);rw[F];exact B
end
theorem WY:(prog.info? 138).map (λi=>(i.zero,i.size,i.bytes))=H (H az,1,24):=by kernel_rfl
def Ez(a:M)(bv c:ab)(b:ix):fh:=λk=>k=a\/cI bv=H k\/cI c=H k\/∃v∈b,cI v=H k
structure HB(n0:M)(W:Y)(a:M)(bv c:ab)(b:ix)(B:ci oR)(l:jt)(safe:U)(d:Bool):Prop where
 box:W.heap[a]?=H (ay #[bv,aq safe,aM d,c] 35 (0,0))
 own:W.ownsRow n0 138 1 bv (y b) b
 kind:Il W bv
 len:y b=y B
 each:∀(i:M)v cs,b[i]?=H v->B[i]?=H cs->Ik W v cs
 sV:∀v∈b,∀k,cI v=H k->n0<=k/\k<z (G W)/\k≠a/\cI bv≠H k
 pr:sC W c l
 MM:∀k,cI c=H k->n0<=k/\k<z (G W)/\k≠a/\cI bv≠H k
 sum:B.foldl xZ []=l
 F7:cI bv≠H a
section
variable{n0 a:M}{W e:Y}{bv c:ab}{b:ix}{B:ci oR}{l:jt}{safe:U}{d:Bool}{S:fh}
theorem HB.lt(h:HB n0 W a bv c b B l safe d){k:M}(g:Ez a bv c b k):k<z (G W):=by
 rcases g with rfl|q|q|⟨v,i,q⟩;exact ak h.box;exact(h.own.lt k q).2;exact(h.MM k q).2.1;exact(h.sV v i k q).2.1
theorem HB.aj(h:HB n0 W a bv c b B l safe d)(g:Z S W e)(m:∀k,Ez a bv c b k->¬S k):HB n0 e a bv c b B l safe d where
 box:=(g.block a (ak h.box)<|m a<|.inl rfl).trans h.box
 own:=g.own h.own<|λk q=>m k<|.inr<|.inl q
 kind:=h.kind.aj g (λk q=>m k<|.inr<|.inl q)<|λk q=>(h.own.lt k q).2
 len:=h.len
 each:=λi v n j o=>g.row (h.each i v n j o)<|λk q=>⟨m k (.inr<|by grind),(h.sV v (eR j) k q).2.1⟩
 sV:=λv j k q=>⟨(h.sV v j k q).1,ai (h.sV v j k q).2.1 g.size,(h.sV v j k q).2.2⟩
 pr:=g.row h.pr<|λk q=>⟨m k<|.inr<|.inr<|.inl q,(h.MM k q).2.1⟩
 MM:=λk q=>⟨(h.MM k q).1,ai (h.MM k q).2.1 g.size,(h.MM k q).2.2⟩
 sum:=h.sum
 F7:=h.F7
theorem HB.I7(k:HB n0 W a bv c b B l safe d){r:M}(h:r=a\/cI bv=H r):H6 W r:=by
 rcases h with rfl|h;obtain⟨s,p,i⟩:=aC k.own;have m:=k.box;have f:=k.pr.shape;rw[i]at m;refine⟨_,_,_,m,by decide,.inl λu q=>?_,λq n=>?_⟩;rcases f with rfl|⟨g,o,j,rfl⟩<;>simp at q;grind
 obtain⟨p,m⟩:=eT k.own h;have f:=k.kind _ _ _ _ h m;refine⟨_,_,_,m,by decide,.inl λu q=>?_,λq n=>?_⟩;rcases f _ q with⟨g,i⟩|⟨o,g,j,i⟩<;>cases i;rcases f _ n with⟨g,i⟩|⟨o,g,j,i⟩<;>cases i
end
theorem Dl{n0 a:M}{W:Y}{bv c:ab}{b:ix}{B:ci oR}{l:jt}{safe:U}{d:Bool}(h:HB n0 W a bv c b B l safe d)(cv:ab)(o:oR)(sf:Bool)(cb:Hh W cv o)(hr:y l+y o<=1000000000)(hB:y B<=1000000000)(cB:n0<=z (G W)):cY bA 24 #[aD a,cv,aM sf] W λaa e=>aa=aN (dA #[])/\∃p g ac,HB n0 e a p g (b++[ac]) (B++[o]) (xZ l o) (if sf then((y B+1:M):U)else safe) d/\Z (λk=>k=a\/cI bv=H k) W e/\∀k,Ez a p g (b++[ac]) k->Ez a bv c b k\/z (G W)<=k:=by
 have cn:=Ru (by omega) cb;have u:=X h;go_in
 go_wp2_with fail
 apply cn.mono;rintro aa x⟨v1,rfl,bf,bL⟩;have O:Z aw W x:=Z.aQ bL;obtain⟨x1,c1,co⟩:=aC bf;subst co;have L:=u.aj O<|λ_ _=>id;have cx:=cellAt L.box 0 rfl;have cd:a<z (G x):=ak L.box;have cs:=O.size;have V:y b=y B:=u.len;obtain⟨i0,N,cq,bo,bp⟩:=dl WY;obtain⟨an,bx,i⟩:=dF bf O L;have aF:=i.F7;have aV:=i.box
 go_wp2_with(first
  |(at_builtin;go_loud(refine Ak _ rfl (.tmp 13) (.tmp 15) 32 rfl n0 138 i0 az 1 24 underlying32 N cq bo bp rfl (by decide) bv (y b) b rfl (aT i.own (ay #[I x1 (y o) c1] 138)) (R (z (G x)) 0) 1 1 [I x1 (y o) c1] rfl rfl (pM _ _ _) (by simp[Value.oneCell']) (by omega) (by omega) (by simp;omega) (by omega) (by intro cS hu;simp[Value.cells]at hu;subst hu;exact .inr ⟨_,_,_,rfl⟩) (by intro cS hu;simp at hu;subst hu;exact .inr ⟨_,_,_,rfl⟩) (i.kind.aj (cO aw x) (λ_ _=>id) (λk q=>(i.own.lt k q).2)) ?_;intro p W3 bg bn ce;obtain⟨v,c3,cp⟩:=aC bg;subst cp;have bm:=Z.fN bn;have f:=(bm.block a (by simp;omega) aF).trans (((cO aw x).block a cd id).trans aV);have k0:=cellAt f 0 rfl;have k1:=cellAt f 1 rfl;have k3:=cellAt f 3 rfl;have f0:=cQ (i:=0) f;have f1:=cQ (i:=1) f;have f3:=cQ (i:=3) f;have ao:=X bg;have av:=X bn;have bt:=X ce;have bE:=X bm)))
 obtain⟨s,r⟩:∃s,cH W3 (R a 0) (I v (y B+1) c3)=s:=⟨_,rfl⟩;rw[<-V]at r;have bd:cI (I v (y b+1) c3)≠H a:=λq=>by rcases av.vQ with aa|⟨cw,aa,hg⟩;(grind);rw[q]at aa;cases aa;simp at hg;omega
 have A:Z (λk=>k=a\/cI bv=H k) x s:=by rw[<-r];exact(((cO aw x).mono (T:=λk=>k=a\/cI bv=H k) cJ).trans bE<|by grind).trans (fy W3 a 0 _)<|by simp
 have ck:s.ownsRow n0 138 1 (I v (y b+1) c3) (y b+1) (b++[I x1 (y o) c1]):=by rw[<-r];exact(fy W3 a 0 _).own ao<|by grind
 have ch:Il s (I v (y b+1) c3):=by rw[<-r];exact bt.aj (fy W3 a 0 _) (by grind)<|λk f=>(ao.lt k f).2
 have ba:s.heap[a]?=H (ay #[I v (y b+1) c3,aq safe,aM d,c] 35 (0,0)):=by rw[<-r];exact(aJ f).trans rfl
 have bl:∀k,cI (I v (y b+1) c3)=H k->cI bv=H k\/z (G x)<k:=λk q=>by rcases av.vQ with aa|⟨cw,aa,hg⟩;(grind);rw[q]at aa;cases aa;simp at hg;grind
 have t:∀k,cI (I x1 (y o) c1)=H k->z (G W)<=k/\k<z (G x):=λk q=>an.lt k q;have hW:a<z (G W):=ak u.box;have aU:∀k,cI bv=H k->k<z (G W):=λk q=>(u.own.lt k q).2;have bh:sC s c l:=A.row i.pr<|λk q=>⟨λw=>w.elim (i.MM k q).2.2.1 (i.MM k q).2.2.2,(i.MM k q).2.1⟩;have bb:Ik s (I x1 (y o) c1) o:=A.row (dR an)<|λk q=>⟨λw=>by have:=(t k q).1;grind,(t k q).2⟩;have cr:=A.size;have cc:=Xx o bh (λcw q=>ai (i.MM cw q).2.1 cr) bb (by grind) (by omega);rw[<-V,r];have n:=X t;obtain⟨ap,bu,ad,au,cu,bs⟩:=lw ck ch ba A bh bb;have HSub:=X bl;have al:=X aU;apply cc.mono;rintro aa W5⟨g,rfl,bi,cj,cE,bT⟩;have P:Z aw s W5:=Z.aQ bT;obtain⟨px,pn,pc,cm⟩:∃x n w,g=I x n w:=by rcases bi.shape with aa|⟨F,j,C,aa⟩<;>exact⟨_,_,_,aa⟩
 have m:=(P.block a (by omega) id).trans ad;have k1:=cellAt m 1 rfl;have k3:=cellAt m 3 rfl;have f1:=cQ (i:=1) m;have f3:=cQ (i:=3) m;have bc:∀F f,F.heap[a]?=H (ay #[I v (y b+1) c3,aq f,aM d,g] 35 (0,0))->Z (λk=>k=a) W5 F->∃p g ac,HB n0 F a p g (b++[ac]) (B++[o]) (xZ l o) f d/\Z (λk=>k=a\/cI bv=H k) W F/\∀k,Ez a p g (b++[ac]) k->Ez a bv c b k\/z (G W)<=k:=λF f ca Q=>by have C:Z (λk=>k=a) s F:=(P.mono (T:=λk=>k=a) cJ).trans Q<|λ_ q=>.inl q;have bq:Z (λk=>k=a\/cI bv=H k) W F:=((bx.mono (T:=λk=>k=a\/cI bv=H k) cJ).trans au<|λ_ q=>.inl q).trans C (by simp);have cM:=P.size;have cN:=Q.size;have bk:∀k,cI g=H k->cI c=H k\/z (G s)<=k:=(by grind);have ax:∀k,cI (I v (y b+1) c3)=H k->k<z (G s):=λk q=>(ap.lt k q).2;(have cl:∀k,cI g=H k->n0<=k/\k<z (G F)/\k≠a/\cI (I v (y b+1) c3)≠H k:=λk q=>by have:=cj k q;rcases bk k q with q|q;have K:=u.MM k q;exact⟨K.1,by omega,K.2.2.1,λw=>(HSub k w).elim K.2.2.2<|λw=>by omega⟩;grind);refine⟨I v (y b+1) c3,g,I x1 (y o) c1,⟨ca,by rw[af];exact C.own ap (by grind),bu.aj C (by grind) ax,by simp[V],λbr ac w j hc=>?_,λac j k q=>?_,Q.row bi (by grind),cl,by rw[gd,u.sum];rfl,bd⟩,bq,λk q=>?_⟩;by_cases hi:br<y b;rw[ic hi]at j;rw[ic<|by omega]at hc;exact bq.row (u.each br ac w j hc)<|λk q=>⟨λw=>by have:=(u.sV ac (eR j) k q).2.2;grind,(u.sV ac (eR j) k q).2.1⟩;rw[fp<|by omega]at j hc;(have N:br-y b=0:=by grind);rw[N]at j;rw[show br-y B=0 by omega]at hc;simp at j hc;subst j hc;exact C.row bs<|λk q=>⟨λw=>by have:=(n k q).1;have:k=a:=w;omega,by have:=(n k q).2;omega⟩;rcases aA.1 j with j|j;have K:=u.sV ac j k q;exact⟨K.1,by omega,K.2.2.1,λw=>(HSub k w).elim K.2.2.2<|λw=>by omega⟩;simp at j;subst j;have K:=n k q;exact⟨by omega,by omega,by omega,λw=>(HSub k w).elim (λw=>by have:=al k w;omega)<|λw=>by omega⟩;rcases q with q|q|q|⟨ac,j,q⟩;exact .inl<|.inl q;exact(HSub k q).elim (λq=>.inl<|.inr<|.inl q) (by grind);exact(bk k q).elim (λq=>.inl<|.inr<|.inr<|.inl q) (by grind);rcases aA.1 j with j|j;exact .inl (.inr<|by grind);simp at j;subst j;exact .inr (n k q).1
 have E:=X bc;have D:=X m;subst cm;cases sf;(.go_wp2;go_end0;exact⟨rfl,E _ safe ((aJ D).trans rfl)<|fy _ _ _ _⟩);go_wp2;go_end0;exact⟨rfl,E _ _ ((aJ<|aJ D).trans rfl)<|(fy _ _ _ _).trans (fy _ _ _ _)<|λ_ q=>.inl q⟩
structure Hi where
 w:Y
 E:fh
def Vs(E:fh)(xb a:M)(bv e:ab)(f:ix):fh:=λk=>k=xb\/Ez a bv e f k\/E k
def J1(E:fh)(xb a:M)(bv e:ab)(f:ix)(sv:ab):fh:=λk=>Vs E xb a bv e f k\/sv=aD k
def Rp(W:Y)(xb db:M)(sv:ab)(mem tabqq:U)(a:M):Prop:=W.heap[xb]?=H (ay #[aD db,sv,aq mem,aq tabqq,aD a] 38 (0,0))
def V7(W:Y)(db:M):Prop:=∃b h,W.heap[db]?=H (ay b 63 h)
def Vt(W:Y)(sbqq:M):Prop:=∃b h,W.heap[sbqq]?=H (ay b 80 h)
structure XH(Xqq:Hi)(w0 W:Y)(xb db a:M)(sv:ab)(mem kK:U)(bv e:ab)(f:ix)(B:ci oR)(l:jt)(safe:U)(g:Bool)(N:M):Prop where
 box:Rp W xb db sv mem kK a
 lu:HB (z<|G w0) W a bv e f B l safe g
 J4:¬Ez a bv e f xb
 DX:1<=mem/\mem<=32/\2<=kK/\kK<=6
 num:y B<=N/\(B.map y).sum<=1000000+8*N
 ext:∀k,Xqq.E k->(∃o,Xqq.w.heap[k]?=H o)/\W.heap[k]?=Xqq.w.heap[k]?/\k≠xb/\¬Ez a bv e f k
section
variable{Xqq:Hi}{w0 W j:Y}{xb db r sbqq a:M}{mem tabqq:U}{bv e sv:ab}{f:ix}{B:ci oR}{l m p:jt}{safe:U}{g n:Bool}{C C' N N':M}{d z':Prop}{c:U}{cl:Bool}{Q Q':jt->Prop}
theorem XH.J0(i:XH Xqq w0 W xb db a sv mem tabqq bv e f B l safe g N){k:M}(q:Xqq.E k):k<z (G W):=by
 obtain⟨⟨o,h⟩,b,_⟩:=i.ext k q;rw[h]at b;exact ak b
theorem XH.pa{Cl:fh}(h:XH Xqq w0 W xb db a sv mem tabqq bv e f B l safe g N)(i:Z (xI w0 Cl) W j)(b:∀k,Vs Xqq.E xb a bv e f k->Cl k)(t:N<=N'):XH Xqq w0 j xb db a sv mem tabqq bv e f B l safe g N':=⟨(i.block xb (ak h.box)<|λq=>q.2<|b _<|.inl rfl).trans h.box,h.lu.aj i<|λk o q=>q.2<|b _<|.inr<|.inl o,h.J4,h.DX,by have:=h.num;omega,λk q=>⟨(h.ext k q).1,(i.block k (h.J0 q)<|λs=>s.2<|b k<|.inr<|.inr q).trans (h.ext k q).2.1,(h.ext k q).2.2⟩⟩
theorem XH.still(h:XH Xqq w0 W xb db a sv mem tabqq bv e f B l safe g N)(b:Z aw W j):XH Xqq w0 j xb db a sv mem tabqq bv e f B l safe g N:=h.pa (Cl:=λ_=>True) (b.mono cJ) (λ_ _=>trivial)<|ag _
theorem XH.mono(h:XH Xqq w0 W xb db a sv mem tabqq bv e f B l safe g N)(k:N<=N'):XH Xqq w0 W xb db a sv mem tabqq bv e f B l safe g N':={h with num:=by have:=h.num;omega}
theorem XH.zW{h i:ab}{k:ix}{t:ci oR}{b:U}(s:XH Xqq w0 W xb db a sv mem tabqq bv e f B l safe g N)(w:Z (λo=>o=a\/cI bv=H o) W j)(A:HB (z<|G w0) j a h i k t p b n)(v:∀o,Ez a h i k o->Ez a bv e f o\/z (G W)<=o)(x:y t<=N/\(t.map y).sum<=1000000+8*N):XH Xqq w0 j xb db a sv mem tabqq h i k t p b n N:=by
 have D:=ak s.box;exact⟨(w.block xb D<|λq=>s.J4<|q.elim .inl<|λq=>.inr<|.inl q).trans s.box,A,λq=>(v xb q).elim s.J4 (λq=>by omega),s.DX,x,λo q=>⟨(s.ext o q).1,(w.block o (s.J0 q)<|λu=>(s.ext o q).2.2.2<|u.elim .inl<|λu=>.inr<|.inl u).trans (s.ext o q).2.1,(s.ext o q).2.2.1,λu=>(v o u).elim (s.ext o q).2.2.2 (λu=>by have:=s.J0 q;omega)⟩⟩
theorem XH.setCell{r:M}{b:ab}(h:XH Xqq w0 W xb db a sv mem tabqq bv e f B l safe g N){i:M}{u:ab}(k:Rp (cH W (R xb i) u) xb r b mem tabqq a):XH Xqq w0 (cH W (R xb i) u) xb r a b mem tabqq bv e f B l safe g N:=⟨k,h.lu.aj (fy W xb i u)<|λo q t=>h.J4 (by have s:o=xb:=t;exact s▸q),h.J4,h.DX,h.num,λo q=>⟨(h.ext o q).1,((fy W xb i u).block o (h.J0 q)<|λv=>(h.ext o q).2.2.1 v).trans (h.ext o q).2.1,(h.ext o q).2.2⟩⟩
theorem XH.sg(h:XH Xqq w0 W xb db a sv mem tabqq bv e f B l safe g N)(u:ab):XH Xqq w0 (cH W (R xb 1) u) xb db a u mem tabqq bv e f B l safe g N:=h.setCell<|(aJ h.box).trans rfl
theorem XH.YN(h:XH Xqq w0 W xb db a sv mem tabqq bv e f B l safe g N)(b:M):XH Xqq w0 (cH W (R xb 0)<|aD b) xb b a sv mem tabqq bv e f B l safe g N:=h.setCell<|(aJ h.box).trans rfl
theorem XH.I7(o:XH Xqq w0 W xb db a sv mem tabqq bv e f B l safe g N)(i:V7 W db)(h:sv=dC none\/∃sbqq,sv=aD sbqq/\Vt W sbqq):H6 W xb:=by
 refine⟨_,_,_,o.box,by decide,.inl λw q=>?_,λq k=>?_⟩;rcases h with rfl|⟨sbqq,rfl,_⟩<;>simp at q;obtain⟨s,t,i⟩:=i;rcases h with rfl|⟨sbqq,rfl,u,v,h⟩;(have b:q=db\/q=a:=by simpa using k);rcases b with rfl|rfl;(grind);exact⟨_,_,_,o.lu.box,by decide⟩;(have b:q=db\/q=sbqq\/q=a:=by simpa using k);rcases b with rfl|rfl|rfl;(grind);(grind);exact⟨_,_,_,o.lu.box,by decide⟩
theorem HB.B7{o:M}{u:U}(h:HB o W a bv e f B l safe g)(i:Z (λk=>k=a) W j)(s:j.heap[a]?=H (ay #[bv,aq u,aM n,e] 35 (0,0))):HB o j a bv e f B l u n where
 box:=s
 own:=i.own h.own<|λk q w=>h.F7 (by rw[q];grind)
 kind:=h.kind.aj i (λk q w=>h.F7 (by rw[q];grind))<|λk q=>(h.own.lt k q).2
 len:=h.len
 each:=λx v s b t=>i.row (h.each x v s b t)<|λk q=>⟨(h.sV v (eR b) k q).2.2.1,(h.sV v (eR b) k q).2.1⟩
 sV:=λv b k q=>⟨(h.sV v b k q).1,ai (h.sV v b k q).2.1 i.size,(h.sV v b k q).2.2⟩
 pr:=i.row h.pr<|λk q=>⟨(h.MM k q).2.2.1,(h.MM k q).2.1⟩
 MM:=λk q=>⟨(h.MM k q).1,ai (h.MM k q).2.1 i.size,(h.MM k q).2.2⟩
 sum:=h.sum
 F7:=h.F7
theorem XH.Bk(h:XH Xqq w0 W xb db a sv mem tabqq bv e f B l safe g N)(b:U):XH Xqq w0 (cH W (R a 1)<|aq b) xb db a sv mem tabqq bv e f B l b g N:=h.zW ((fy W a 1<|aq b).mono<|by simp) (h.lu.B7 (fy W a 1<|aq b)<|(aJ h.lu.box).trans rfl) (λ_ q=>.inl q) h.num
theorem Vs.grow{b h:ab}{i:ix}(o:HB (z<|G w0) j a b h i B l safe g)(s:∀k,Ez a b h i k->Ez a bv e f k\/z (G W)<=k):∀k,Vs Xqq.E xb a b h i k->Vs Xqq.E xb a bv e f k\/z (G W)<=k/\k<z (G j):=λk q=>by
 rcases q with q|q|q;exact .inl<|.inl q;exact(s k q).elim (λq=>.inl<|.inr<|.inl q)<|λc=>.inr ⟨c,o.lt q⟩;exact .inl<|.inr<|.inr q
def AR(C:M)(B:ci oR)(safe:U):jt->Prop:=λx=>y x<=C/\∃b:M,safe<=b/\b<=y B/\x=(B.take b).foldl xZ []
theorem AR.mono{x:jt}(k:AR C B safe x)(h:C<=C'):AR C' B safe x:=⟨aB k.1 h,k.2⟩
theorem AR.sle{x:jt}(h:AR C B safe x):safe<=y B:=by
 obtain⟨_,k,b,i,_⟩:=h;omega
theorem HB.Q5{i:M}(k:HB i W a bv e f B l safe g)(b:y l<=C){s:U}(h:s<=y B):AR C B s l:=⟨b,y B,h,ag _,by rw[aY,k.sum]⟩
theorem AR.snoc{x:jt}{b:oR}(s:AR C B safe x)(q:C<=C'):AR C' (B++[b]) safe x:=by
 obtain⟨h,t,i,k,o⟩:=s;exact⟨aB h q,t,i,by rw[af];omega,by rw[dK k];exact o⟩
theorem HB.M1{k:M}{b:oR}(o:HB k W a bv e f B l safe g)(h:y (xZ l b)<=C){s:U}(i:s<=(y B+1:M)):AR C (B++[b]) s (xZ l b):=⟨h,y B+1,i,by simp,by rw[dN (by simp),gd,o.sum];rfl⟩
structure XS(Xqq:Hi)(w0 W:Y)(xb db sb a:M)(mem kK:U)(bv e:ab)(f:ix)(B:ci oR)(l m:jt)(safe:U)(C N:M)(d:Prop)(Q:jt->Prop):Prop where
 xh:XH Xqq w0 W xb db a (aD sb) mem kK bv e f B l safe bw N
 cw:tK w0 W db sb mem kK (Vs Xqq.E xb a bv e f) C N m d Q
def Ac(Xqq:Hi)(w0 W:Y)(xb:M)(mem tabqq:U)(C N:M)(d:Prop):Prop:=∃db sbqq a bv e f B l safe,XS Xqq w0 W xb db sbqq a mem tabqq bv e f B l l safe C N d<|AR C B safe
structure XD(Xqq:Hi)(w0 W:Y)(xb db a:M)(sv:ab)(mem kK:U)(bv e:ab)(f:ix)(B:ci oR)(l:jt)(safe:U)(g:Bool)(C N:M)(d:Prop)(Q:jt->Prop):Prop where
 xh:XH Xqq w0 W xb db a sv mem kK bv e f B l safe g N
 cd:Cs w0 W db mem kK (J1 Xqq.E xb a bv e f sv) C N d Q
 j5:sv=dC none\/∃sb,sv=aD sb/\Vt W sb
theorem XS.pa(k:XS Xqq w0 W xb db sbqq a mem tabqq bv e f B l m safe C N d Q)(i:Z (xI w0<|Vs Xqq.E xb a bv e f) W j)(h:tK w0 j db sbqq mem tabqq (Vs Xqq.E xb a bv e f) C' N' p z' Q')(b:N<=N'):XS Xqq w0 j xb db sbqq a mem tabqq bv e f B l p safe C' N' z' Q':=⟨k.xh.pa i (λ_ q=>q) b,h⟩
theorem XS.still(h:XS Xqq w0 W xb db sbqq a mem tabqq bv e f B l m safe C N d Q)(b:Z aw W j):XS Xqq w0 j xb db sbqq a mem tabqq bv e f B l m safe C N d Q:=⟨h.xh.still b,h.cw.still b⟩
theorem XS.Dp(h:XS Xqq w0 W xb db sbqq a mem tabqq bv e f B l m safe C N d Q):oF W:=h.cw.Dp
theorem XS.mono(t:XS Xqq w0 W xb db sbqq a mem tabqq bv e f B l m safe C N d Q)(q:C<=C')(h:C'<=1000000)(o:N<=N')(k:N'<=100000000)(s:∀x,Q x->Q' x):XS Xqq w0 W xb db sbqq a mem tabqq bv e f B l m safe C' N' d Q':=⟨t.xh.mono o,(t.cw.mono q h o k).O8 s⟩
theorem XS.zW{h i:ab}{k:ix}{o:ci oR}{b:U}(w:XS Xqq w0 W xb db sbqq a mem tabqq bv e f B l m safe C N d Q)(v:Z (λs=>s=a\/cI bv=H s) W j)(t:HB (z<|G w0) j a h i k o p b bw)(u:∀s,Ez a h i k s->Ez a bv e f s\/z (G W)<=s)(x:y o<=N/\(o.map y).sum<=1000000+8*N):XS Xqq w0 j xb db sbqq a mem tabqq h i k o p m b C N d Q:=⟨w.xh.zW v t u x,w.cw.iV v (λs q=>⟨.inr<|.inl<|q.elim .inl<|λq=>.inr<|.inl q,w.xh.lu.I7 q⟩)<|Vs.grow t u⟩
theorem XS.Bk(h:XS Xqq w0 W xb db sbqq a mem tabqq bv e f B l m safe C N d Q)(b:U):XS Xqq w0 (cH W (R a 1)<|aq b) xb db sbqq a mem tabqq bv e f B l m b C N d Q:=h.zW ((fy W a 1<|aq b).mono<|by simp) (h.xh.lu.B7 (fy W a 1<|aq b)<|(aJ h.xh.lu.box).trans rfl) (λ_ q=>.inl q) h.xh.num
theorem XD.still(k:XD Xqq w0 W xb db a sv mem tabqq bv e f B l safe g C N d Q)(b:Z aw W j):XD Xqq w0 j xb db a sv mem tabqq bv e f B l safe g C N d Q:=⟨k.xh.still b,k.cd.still b,k.j5.imp id<|λ⟨sbqq,o,h,i,q⟩=>⟨sbqq,o,h,i,(b.block sbqq (ak q) id).trans q⟩⟩
theorem XD.zW{h i:ab}{k:ix}{o:ci oR}{b:U}(v:XD Xqq w0 W xb db a sv mem tabqq bv e f B l safe g C N d Q)(t:Z (λs=>s=a\/cI bv=H s) W j)(w:HB (z<|G w0) j a h i k o p b n)(x:∀s,Ez a h i k s->Ez a bv e f s\/z (G W)<=s)(K:y o<=N/\(o.map y).sum<=1000000+8*N):XD Xqq w0 j xb db a sv mem tabqq h i k o p b n C N d Q:=by
 refine⟨v.xh.zW t w x K,v.cd.iV t (λs q=>.inl<|.inr<|.inl<|q.elim .inl<|λq=>.inr<|.inl q)<|λs q=>q.elim (λq=>(Vs.grow (Xqq:=Xqq) (xb:=xb) w x s q).imp .inl id)<|λE=>.inl<|.inr E,v.j5.imp id<|λ⟨sbqq,E,A,F,q⟩=>⟨sbqq,E,A,F,(t.block sbqq (ak q)<|λu=>?_).trans q⟩⟩;rcases u with u|u;rw[u,v.xh.lu.box]at q;cases q;obtain⟨D,L⟩:=eT v.xh.lu.own u;rw[L]at q;cases q
theorem XD.VM(h:XD Xqq w0 W xb db a sv mem tabqq bv e f B l safe g C N d Q)(b:Bool):XD Xqq w0 (cH W (R a 2)<|aM b) xb db a sv mem tabqq bv e f B l safe b C N d Q:=h.zW ((fy W a 2<|aM b).mono<|by simp) (h.xh.lu.B7 (fy W a 2<|aM b)<|(aJ h.xh.lu.box).trans rfl) (λ_ q=>.inl q) h.xh.num
theorem XD.mono(q:XD Xqq w0 W xb db a sv mem tabqq bv e f B l safe g C N d Q)(s:C<=C')(h:C'<=1000000)(o:N<=N')(k:N'<=100000000)(t:∀x,Q x->Q' x):XD Xqq w0 W xb db a sv mem tabqq bv e f B l safe g C' N' d Q':=⟨q.xh.mono o,q.cd.mono s h o k t,q.j5⟩
structure XL(Xqq:Hi)(w0 W:Y)(xb db a:M)(sv:ab)(mem kK:U)(bv e:ab)(f:ix)(B:ci oR)(l:jt)(safe:U)(C N:M)(d:Prop)(Q:jt->Prop):Prop where
 xh:XH Xqq w0 W xb db a sv mem kK bv e f B l safe bw N
 cl:Vn w0 W db mem kK (Vs Xqq.E xb a bv e f) C N l d Q
theorem XL.still(h:XL Xqq w0 W xb db a sv mem tabqq bv e f B l safe C N d Q)(b:Z aw W j):XL Xqq w0 j xb db a sv mem tabqq bv e f B l safe C N d Q:=⟨h.xh.still b,h.cl.still b⟩
theorem XL.Bk(h:XL Xqq w0 W xb db a sv mem tabqq bv e f B l safe C N d Q)(b:U):XL Xqq w0 (cH W (R a 1)<|aq b) xb db a sv mem tabqq bv e f B l b C N d Q:=⟨h.xh.Bk b,h.cl.iV (fy W a 1<|aq b) (λk q=>.inr<|.inl<|.inl q)<|λk q=>.inl q⟩
theorem XL.sg(h:XL Xqq w0 W xb db a sv mem tabqq bv e f B l safe C N d Q)(u:ab):XL Xqq w0 (cH W (R xb 1) u) xb db a u mem tabqq bv e f B l safe C N d Q:=⟨h.xh.sg u,h.cl.iV (fy W xb 1 u) (λk q=>.inl q)<|λk q=>.inl q⟩
theorem tK.gG{k:fh}(i:tK w0 W db sbqq mem tabqq k C N l d Q):V7 W db:=by
 obtain⟨v,K,u,q,s,c,t,h,b,i⟩:=i;have o:=i.Ct.2.1;subst o;exact⟨_,_,i.inv.st.aH.gG⟩
theorem tK.Z9{i:fh}(k:tK w0 W db sbqq mem tabqq i C N l d Q):Vt W sbqq:=by
 obtain⟨u,K,t,o,q,c,s,h,b,k⟩:=k;exact⟨_,_,k.EC⟩
theorem tK.jV{o:fh}(i:tK w0 W db sbqq mem tabqq o C N l d Q):C<=1000000/\y l<=C/\∃x,Q x:=by
 obtain⟨D,K,A,v,b,c,w,k,h,i⟩:=i;obtain⟨u,q,s⟩:=i.cq;obtain⟨x,_,t⟩:=s (y h) q.RA.le<|ag _;exact⟨i.inv.st.jV,i.len,x,t⟩
theorem Cs.jV{i:fh}(h:Cs w0 W db mem tabqq i C N d Q):C<=1000000/\Z aw w0 W:=by
 obtain⟨K,h⟩:=h;exact⟨h.jV,h.df.aj⟩
theorem XS.xd(i:XS Xqq w0 W xb db sbqq a mem tabqq bv e f B l m safe C N d Q):XD Xqq w0 W xb db a (aD sbqq) mem tabqq bv e f B l safe bw C N d Q:=by
 obtain⟨b,h⟩:=i.cw.cd;exact⟨i.xh,b.iV (Z.refl aw W) cJ (λk q=>.inl<|q.imp id<|by grind),.inr ⟨sbqq,rfl,h⟩⟩
end
section
variable{Xqq:Hi}{w0 W b:Y}{xb:M}{mem tabqq:U}{C C' N N':M}{a:Prop}{kd:U}{e:Ending}
def G8(Xqq:Hi)(w0 W:Y)(xb:M)(mem tabqq:U)(C N:M):Prop:=∃f g j d i k B l c h a,XD Xqq w0 W xb f g j mem tabqq d i k B l c h C N a<|AR C B c
def Cq(Xqq:Hi)(w0 W:Y)(xb:M)(mem tabqq:U)(C N:M)(a:Prop)(kd:U)(e:Ending):Prop:=∃n:U,e=aN (dA #[aq n,aM bw])/\((n=0/\Ac Xqq w0 W xb mem tabqq C N a)\/(n=8/\(kd=4\/kd=5)/\Ac Xqq w0 W xb mem tabqq C N a)\/((n=8\/n=9)/\¬(kd=4\/kd=5)/\G8 Xqq w0 W xb mem tabqq C N))
theorem Lb(h:Ac Xqq w0 W xb mem tabqq C N a)(al:Option Addr)(aF av:M)(O:N+1<=100000000):cY bA 25 #[aD xb,dL #[aq 2,I al aF av]] W λe b=>Cq Xqq w0 b xb mem tabqq C (N+1) a 2 e:=by
 obtain⟨db,l,g,bv,pv,vs,au,ax,d,h⟩:=h;have hB:=h.xh.num;have c1:=cellAt h.xh.box 1 rfl;have c4:=cellAt h.xh.box 4 rfl;have ac:=ak h.xh.box;have HX:=X h;go_in
 go_wp2_with fail
 obtain⟨E,u⟩:∃E,dd W (ay #[aq 2,I al aF av] 98)=E:=⟨_,rfl⟩;have f:=HX.still (show Z aw W E by rw[<-u];exact cO aw W);rw[u];apply(QT f.cw O).mono;obtain⟨k,x,xx,ad⟩:=f.cw.jV;have V:=ad.sle;rintro e F⟨ap,rfl,B,⟨rfl,S⟩|⟨q,c2,rfl,hq,j,A,T⟩⟩;rotate_left;(.have w:XD Xqq w0 F xb db g (aD l) mem tabqq bv pv vs au ax d bw C (N+1) a (AR C au d):=⟨f.xh.pa B (λ_ q=>q) (by omega),(T.iV (Z.refl aw F) cJ<|λc q=>.inl<|q.imp id<|by grind).mono (ag _) k (ag _) O<|λal q=>q.elim id (λe=>by rw[e];exact f.xh.lu.Q5 x V),.inr ⟨l,rfl,A⟩⟩;have aa:=wb hq w.cd.Dp;have HF:=X<|And.intro w j;(have b0:(c2==0)=bw:=by rcases j with rfl|rfl<;>rfl);(go_wp2_with fail);apply aa.mono;rintro e r⟨rfl,o⟩;have p:=X<|And.intro (HF.1.still<|Z.aQ o) HF.2;go_wp2;(go_ret2);exact⟨c2,rfl,.inr<|.inr ⟨p.2,by omega,_,_,_,_,_,_,_,_,_,_,_,p.1⟩⟩);have P:=f.pa B S (by omega);have D:=X P;go_wp2_with fail
 apply(nj F).mono;rintro e r⟨rfl,o⟩;have c:=D.still<|Z.aQ o;have c4:=cellAt c.xh.box 4 rfl;have ac:=ak c.xh.box;have d0:=cellAt c.xh.lu.box 0 rfl;have d1:=cellAt c.xh.lu.box 1 rfl;have f1:=cQ (i:=1) c.xh.lu.box;obtain⟨bx,bc,Q⟩:=aC c.xh.lu.own;subst Q;have m:=X c;go_wp2_with fail
 rename_i QQ KK L;have n:aW r.drew (R xb 4)=H (aD g)/\aW r.drew (R g 0)=H (I bx (y vs) bc)/\aW r.drew (R g 1)=H (aq d)/\r.drew.frozen? (R g 1)=bw:=⟨c4,d0,d1,f1⟩;refine eH (λXqq=>aW Xqq (R xb 4)=H (aD g)/\aW Xqq (R g 0)=H (I bx (y vs) bc)/\aW Xqq (R g 1)=H (aq d)/\Xqq.frozen? (R g 1)=bw) 14 (by kernel_rfl) ?_;refine fw 0 ?_;iterate 12 (refine iS (v:=?_) n rfl (by kernel_rfl) lQ rfl ?_ ?_;rotate_left;(focus(rintro Xqq⟨z0,z1,z2,z3⟩;go_simp;try rfl));simp only[Act.put,ig,rA,Nat.reduceAdd])
 apply iG;refine bG (i:=12) rfl rfl (by kernel_rfl) ?_;intro an s;go_simp;refine s _ _ (λ_=>n) ?_;refine bG (i:=13) rfl rfl (by kernel_rfl) ?_;intro ao t;go_simp;refine t _ _ (λ_=>n) ?_;refine bG (i:=14) rfl rfl (by kernel_rfl) ?_;intro K1 K;go_simp;refine K _ _ IY ?_;refine fm (by kernel_rfl) ?_ _;show KK _ _;apply L;go_wp2;go_ret2
 exact⟨0,rfl,.inl ⟨rfl,_,_,_,_,_,_,_,_,_,((m.Bk _).mono (ag _) k (ag _) O (λal e=>by have e:al=ax:=e;rw[e];exact m.xh.lu.Q5 x (by rw[m.xh.lu.len];grind))).still<|dh aw _⟩⟩
theorem QO(h:Ac Xqq w0 W xb mem tabqq C N a)(O:Option Addr)(cj ch:M)(hN:N+1<=100000000):cY bA 25 #[aD xb,dL #[aq 3,I O cj ch]] W λe b=>Cq Xqq w0 b xb mem tabqq C (N+1) a 3 e:=by
 obtain⟨A,L,l,bv,pv,g,bf,ao,k,h⟩:=h;have hB:=h.xh.num;have c1:=cellAt h.xh.box 1 rfl;have cc:=ak h.xh.box;have HX:=X h;go_in
 go_wp2_with fail
 obtain⟨W1,au⟩:∃W1,dd W (ay #[aq 3,I O cj ch] 98)=W1:=⟨_,rfl⟩;have D:=HX.still (show Z aw W W1 by rw[<-au];exact cO aw W);rw[au];obtain⟨w,al,xx,bE⟩:=D.cw.jV;have cb:=bE.sle;apply(XF D.cw).mono;rintro e W2⟨bT,rfl,ba,br,⟨rfl,bq⟩|⟨q,c2,rfl,hq,o,aF⟩⟩;rotate_left;(.have bo:XH Xqq w0 W2 xb A l (aD L) mem tabqq bv pv g bf ao k bw N:=D.xh.pa ba (λ_ q=>q)<|ag _;have an:=wb hq aF.Dp;have HF:=X<|And.intro bo o;have bg:=X aF;(have b0:(c2==0)=bw:=by rcases o with rfl|rfl<;>rfl);(go_wp2_with fail);apply an.mono;rintro e W3⟨rfl,ac⟩;have bb:Z aw W2 W3:=Z.aQ ac;have f:=HF.1.still bb;have aa:=(J bg).still bb;have c1:=cellAt f.box 1 rfl;have g1:=cQ (i:=1) f.box;have m:=(f.sg<|dC none).mono (N':=N+1) (by omega);have aU:Cs w0 (cH W3 (R xb 1)<|dC none) A mem tabqq (J1 Xqq.E xb l bv pv g<|dC none) C (N+1) a (AR C bf k):=(aa.iV (fy W3 xb 1<|dC none) (λbd q=>.inl<|.inl q)<|λbd q=>.inl<|q.elim .inl<|λe=>by cases e).mono (ag _) w (by omega) hN<|λ_ q=>q;have x:=X<|And.intro m aU;go_wp2;(go_ret2);exact⟨c2,rfl,.inr<|.inr ⟨HF.2,by omega,_,_,_,_,_,_,_,_,_,_,_,⟨x.1,x.2,.inl rfl⟩⟩⟩);have bn:XL Xqq w0 W2 xb A l (aD L) mem tabqq bv pv g bf ao k C N a (λO=>O=ao):=⟨D.xh.pa ba (λ_ q=>q)<|ag _,bq.iV (Z.refl aw W2) cJ<|by grind⟩;have bh:=X bn;go_wp2_with fail
 apply(nj W2).mono;rintro e W3⟨rfl,ac⟩;have f:=bh.still<|Z.aQ ac;have c1:=cellAt f.xh.box 1 rfl;have c4:=cellAt f.xh.box 4 rfl;have g1:=cQ (i:=1) f.xh.box;have m:=f.sg<|dC none;have d0:=cellAt m.xh.lu.box 0 rfl;have d1:=cellAt m.xh.lu.box 1 rfl;have f1:=cQ (i:=1) m.xh.lu.box;have c4:=cellAt m.xh.box 4 rfl;obtain⟨bx,bc,bp⟩:=aC f.xh.lu.own;subst bp;have ap:=X m;go_wp2_with fail
 rename_i QQ KK T;obtain⟨Q,av⟩:∃Q,cH W3 (R xb 1) (dC none)=Q:=⟨_,rfl⟩;rw[av]at ap d0 d1 f1 c4;rw[av];have t:aW Q.drew (R xb 4)=H (aD l)/\aW Q.drew (R l 0)=H (I bx (y g) bc)/\aW Q.drew (R l 1)=H (aq k)/\Q.drew.frozen? (R l 1)=bw:=⟨c4,d0,d1,f1⟩;refine eH (λXqq=>aW Xqq (R xb 4)=H (aD l)/\aW Xqq (R l 0)=H (I bx (y g) bc)/\aW Xqq (R l 1)=H (aq k)/\Xqq.frozen? (R l 1)=bw) 14 (by kernel_rfl) ?_;refine fw 0 ?_;iterate 12 (refine iS (v:=?_) t rfl (by kernel_rfl) lQ rfl ?_ ?_;rotate_left;(focus(rintro Xqq⟨z0,z1,z2,z3⟩;go_simp;try rfl));simp only[Act.put,ig,rA,Nat.reduceAdd])
 apply iG;refine bG (i:=12) rfl rfl (by kernel_rfl) ?_;intro bi r;go_simp;refine r _ _ (λ_=>t) ?_;refine bG (i:=13) rfl rfl (by kernel_rfl) ?_;intro bk s;go_simp;refine s _ _ (λ_=>t) ?_;refine bG (i:=14) rfl rfl (by kernel_rfl) ?_;intro K1 bl;go_simp;refine bl _ _ IY ?_;refine fm (by kernel_rfl) ?_ _;show KK _ _;apply T;obtain⟨p,ax⟩:∃p,(cH Q (R l 1)<|aq<|y g).drew=p:=⟨_,rfl⟩;have E:XL Xqq w0 p xb A l (dC none) mem tabqq (I bx (y g) bc) pv g bf ao (y g) C N a (λO=>O=ao):=by rw[<-ax];exact(ap.Bk _).still<|dh aw _
 rw[ax];have e0:=cellAt E.xh.box 0 rfl;have e2:=cellAt E.xh.box 2 rfl;have e3:=cellAt E.xh.box 3 rfl;have P:=X E;go_wp2_with fail
 rename_i QQ KK T;have bs:=Lk (P.still<|dh aw p).cl al P.xh.DX;have t:aW p.drew (R xb 0)=H (aD A)/\aW p.drew (R xb 2)=H (aq mem)/\aW p.drew (R xb 3)=H (aq tabqq):=⟨e0,e2,e3⟩;refine eH (λXqq=>aW Xqq (R xb 0)=H (aD A)/\aW Xqq (R xb 2)=H (aq mem)/\aW Xqq (R xb 3)=H (aq tabqq)) 13 (by kernel_rfl) ?_;refine fw 0 ?_;iterate 8 (refine iS (v:=?_) t rfl (by kernel_rfl) lQ rfl ?_ ?_;rotate_left;(focus(rintro Xqq⟨z0,z1,z2⟩;go_simp;try rfl));simp only[Act.put,ig,rA,Nat.reduceAdd])
 apply iG;refine bG (i:=8) rfl rfl (by kernel_rfl) ?_;intro K8 bm;go_simp;apply bs.mono;rintro e K⟨ce,ca,rfl,bu,j⟩;have n:=(P.still<|dh aw p).xh.pa bu (λ_ q=>q)<|ag _;have V:aW K (R xb 0)=H (aD A)/\aW K (R xb 2)=H (aq mem)/\aW K (R xb 3)=H (aq tabqq):=⟨cellAt n.box 0 rfl,cellAt n.box 2 rfl,cellAt n.box 3 rfl⟩;refine bm _ _ (λ_=>V) ?_;refine fw 9 ?_;iterate 3 (refine iS (v:=?_) V rfl (by kernel_rfl) lQ rfl ?_ ?_;rotate_left;(focus(rintro Xqq⟨z0,z1,z2⟩;go_simp;try rfl));simp only[Act.put,ig,rA,Nat.reduceAdd])
 apply iG;refine bG (i:=12) rfl rfl (by kernel_rfl) ?_;intro bi r;go_simp;refine r _ _ (λ_=>V) ?_;refine bG (i:=13) rfl rfl (by kernel_rfl) ?_;intro bk s;go_simp;refine s _ _ IY ?_;refine fm (by kernel_rfl) ?_ _;show KK _ _;apply T;rcases j with⟨rfl,rfl,cd,j⟩|⟨q,c6,rfl,rfl,bt,o,j⟩;(.have bb:=X<|show XS Xqq w0 (cH K (R xb 1)<|aD<|z (G p.drew)+2) xb A (z (G p.drew)+2) l mem tabqq (I bx (y g) bc) pv g bf ao ao (y g) C N a (λO=>O=ao)from⟨n.sg _,j.iV (fy K xb 1 _) (λbd q=>⟨.inl q,by have q':bd=xb:=q;rw[q'];exact n.I7 j.gG<|.inl rfl⟩)<|λbd q=>.inl q⟩;have d:=X<|And.intro n j;obtain⟨x,aU⟩:∃x,z (G p.drew)+2=x:=⟨_,rfl⟩;rw[aU]at bb d|-;(go_wp2_with fail);apply(nj K).mono;rintro e S⟨rfl,ad⟩;have u:Z aw K S:=Z.aQ ad;have c:=d.1.still u;have F:=d.2.still u;have c1:=cellAt c.box 1 rfl;have g1:=cQ (i:=1) c.box;have aa:XS Xqq w0 (cH S (R xb 1)<|aD x) xb A x l mem tabqq (I bx (y g) bc) pv g bf ao ao (y g) C N a (λO=>O=ao):=⟨c.sg _,F.iV (fy S xb 1 _) (λbd q=>⟨.inl q,by have q':bd=xb:=q;rw[q'];exact c.I7 F.gG<|.inl rfl⟩)<|λbd q=>.inl q⟩;have aV:∀bL:Y,(binOp .eql 36 (aD x)<|dC none).run bA bL=.ok (aM bw) bL:=λ_=>rfl;have B:=X<|aa.mono (Q':=AR C bf<|y g) (ag _) w (N':=N+1) (by omega) hN (λO e=>by have e:O=ao:=e;rw[e];exact aa.xh.lu.Q5 al (by rw[aa.xh.lu.len];grind));go_wp2;(go_ret2);exact⟨0,rfl,.inl ⟨rfl,_,_,_,_,_,_,_,_,_,B⟩⟩);have an:=wb bt j.Dp;have d:=X<|And.intro n j;have x:=o.2;subst x;have b1:(!((8:U)!=0))=bw:=rfl;(go_wp2_with fail);apply an.mono;rintro e S⟨rfl,ad⟩;have u:Z aw K S:=Z.aQ ad;have c:=d.1.still u;have F:=d.2.still u;have c1:=cellAt c.box 1 rfl;have g1:=cQ (i:=1) c.box;have aV:∀bL:Y,(binOp .eql 36 (dC none)<|dC none).run bA bL=.ok (aM cf) bL:=λ_=>rfl;have B:=X<|And.intro ((c.sg<|dC none).mono (N':=N+1)<|by omega) ((F.iV (fy S xb 1<|dC none) (λbd q=>.inl q) (λbd q=>.inl<|Or.elim q id<|λe=>by cases e):Cs w0 (cH S (R xb 1)<|dC none) A mem tabqq (J1 Xqq.E xb l (I bx (y g) bc) pv g<|dC none) C N a (λO=>O=ao)).mono (Q':=AR C bf<|y g) (ag _) w (by omega) hN (λO e=>by have e:O=ao:=e;rw[e];exact c.lu.Q5 al (by rw[c.lu.len];grind)));go_wp2;(go_ret2);exact⟨8,rfl,.inr<|.inr ⟨.inl rfl,by omega,_,_,_,_,_,_,_,_,_,_,_,⟨B.1,B.2,.inl rfl⟩⟩⟩
end
section
variable{Xqq:Hi}{w0 W:Y}{xb:M}{mem tabqq:U}{C N:M}{a:Prop}
theorem OD(l:jt):Rj l ⟨#[]⟩ ⟨#[]⟩ 0=l:=by
 have h:∀(l b:jt),l.foldl (mY ⟨#[]⟩ ⟨#[]⟩ 0) b=b++l:=by
  intro l;induction l with
  |nil=>simp
  |cons p l e=>
   intro b;rw[iK,e];have d:Gt ⟨#[]⟩ ⟨#[]⟩ 0 (y b) p=cf:=by
    have c:ByteArray.toList ⟨#[]⟩=[]:=by
     simp_all
    unfold Gt NW;rw[c];cases p.1.toList<;>simp[Op.bytesLess]
   unfold mY;rw[di d];simp
 exact h l []
theorem WC{w:Y}{x:Option Addr}{c:LH}{d:oR}{k:M}(m:Hh w (I x (y<|c::d) k) (c::d)):∃g b,x=H (R g b)/\y (c::d)<=k/\aW w (R g b)=H (am c.key)/\g<z (G w):=by
 rcases m with⟨⟨_,⟨l,e⟩|⟨g,b,h,l,f,j⟩⟩,i⟩|⟨e,_⟩;simp at e;cases l;exact⟨g,b,rfl,f,j 0 _ rfl,i g rfl⟩;cases e
theorem XA(h:Ac Xqq w0 W xb mem tabqq C N a)(aU:Option Addr)(p:oR)(av:M)(hL:Hh w0 (I aU (y p) av) p)(L:∀O∈p,O.key.size<=140737488351232/\O.val.size<=140737488351232):cY bA 25 #[aD xb,dL #[aq 4,I aU (y p) av]] W λv n=>Cq Xqq w0 n xb mem tabqq C N a 4 v:=by
 obtain⟨S,i,A,Q,T,V,aa,s,e,h⟩:=h;have c1:=cellAt h.xh.box 1 rfl;have K:=ak h.xh.box;have ap:y s<=C/\C<=1000000:=by obtain⟨ao,ad,ba,al,aV,av,bb,ac,P,w⟩:=h.cw;exact⟨w.len,w.inv.st.jV⟩
 have D:=hL.aj h.cw.aj<|λ_ _=>id;have HX:=X h;clear h;have c:∀P b,dd W (ay #[aq 4,I aU (y p) av] 98)=P->b.size<=140737488351232->cY bA 15 #[aD i,am b] P λv n=>(v=aN (dA #[am (zL s b).1,aM (zL s b).2.1,xF (zL s b).2.2])\/∃q,v=aN (gE<|fj q)/\sF n q 8)/\XS Xqq w0 n xb S i A mem tabqq Q T V aa s s e C N a (AR C aa e):=λP b ac L=>by have w:=HX.still (show Z aw W P by rw[<-ac];exact cO aw W);apply(F4 w.cw b L).mono;rintro v u⟨h1,al,ad⟩;exact⟨h1.imp id<|λq=>q.2,w.pa al ad<|ag _⟩
 have k:=X c;clear c;have r:∀b,b.size<=140737488351232->∀u,XS Xqq w0 u xb S i A mem tabqq Q T V aa s s e C N a (AR C aa e)->∃au ao x,zL s b=(au,ao,x)/\(cY bA 13 #[xF x] u λv n=>v=aN (aq x)/\XS Xqq w0 n xb S i A mem tabqq Q T V aa s s e C N a (AR C aa e))/\(x=3\/x=0/\ot s b=(au,ao)):=λb L u f=>by have g:∀x,cY bA 13 #[xF x] u λv n=>v=aN (aq x)/\XS Xqq w0 n xb S i A mem tabqq Q T V aa s s e C N a (AR C aa e):=λx=>(Is x f.Dp).mono (by rintro v n⟨rfl,A⟩;exact⟨rfl,f.still<|Z.aQ A⟩);by_cases w:b.size=0\/8<b.size;exact⟨⟨#[]⟩,bw,3,di w,g 3,.inl rfl⟩;exact⟨(ot s b).1,(ot s b).2,0,dt w,g 0,.inr ⟨rfl,rfl⟩⟩
 have l:=X r;clear r;cases p;(case' nil=>obtain⟨b,c⟩:∃b:ae,b=⟨#[97]⟩:=⟨_,rfl⟩;(have o:b.size<=140737488351232:=by rw[c];decide);(go_in);(go_wp2_with fail);rw[<-c];clear c);(case' cons c0 p=>obtain⟨aV,ac,rfl,P,w,ad⟩:=WC D;have o:=(L c0<|by simp).1;obtain⟨b,c⟩:∃b,c0.key=b:=⟨_,rfl⟩;rw[c]at o w;clear c;obtain⟨x,hn⟩:∃x,y (c0::p)=x:=⟨_,rfl⟩;(have e2:0<x:=by rw[<-hn];simp);(have e1:(0:U)<(x:U):=by omega);rw[hn]at k P|-;clear hL D hn L;(go_in);go_wp2_with fail);(all_goals apply(k _ b rfl o).mono;rintro v u⟨rfl|⟨q,rfl,hq⟩,f⟩;rotate_left;(.have g:=wb hq f.Dp;have B:=X f;clear f hq k l HX c1 K;unfold gE;(go_wp2_with fail);apply g.mono;rintro v W3⟨rfl,E⟩;have d:=B.still<|Z.aQ E;have c4:=cellAt d.xh.box 4 rfl;have d3:=cellAt d.xh.lu.box 3 rfl;have j:=Nl b d.xh.lu.pr (by omega);have m:=X d;clear d g E B;(go_wp2_with fail);apply j.mono;rintro v W4⟨rfl,an⟩;subst W4;clear j;go_wp2;(go_ret2);exact⟨8,rfl,.inr<|.inl ⟨rfl,.inl rfl,_,_,_,_,_,_,_,_,_,m⟩⟩);obtain⟨au,ao,ba,hg,g,hm⟩:=l b o u f;rw[hg];simp only;obtain⟨t,HM⟩:=And.intro (X g) (X hm);clear f g hg k l HX c1 K hm;(go_wp2_with fail);apply t.mono;rintro v W3⟨rfl,d⟩;have c4:=cellAt d.xh.box 4 rfl;have d3:=cellAt d.xh.lu.box 3 rfl;have j:=Nl b d.xh.lu.pr (by omega);rcases J HM with rfl|⟨rfl,F⟩;(.have m:=X d;clear d HM t j;go_wp2;(go_ret2);exact⟨0,rfl,.inl ⟨rfl,_,_,_,_,_,_,_,_,_,m⟩⟩);rw[F]at j;have m:=X d;clear d HM t F;(have aF:(!au.toList==au.toList)=bw:=by simp);(have ax:(!ao==ao)=bw:=by cases ao<;>rfl);(go_wp2_with fail);apply j.mono;rintro v W4⟨rfl,an⟩;subst W4;clear j;go_wp2;(go_ret2);exact⟨0,rfl,.inl ⟨rfl,_,_,_,_,_,_,_,_,_,m⟩⟩)
theorem UO(h:Ac Xqq w0 W xb mem tabqq C N a)(ao:Option Addr)(an ad:M):cY bA 25 #[aD xb,dL #[aq 5,I ao an ad]] W λO W'=>Cq Xqq w0 W' xb mem tabqq C N a 5 O:=by
 obtain⟨T,o,V,S,pv,vs,ac,D,d,h⟩:=h;have c1:=cellAt h.xh.box 1 rfl;have L:=ak h.xh.box;have aa:y D<=C/\C<=1000000:=by obtain⟨aU,ap,aF,au,av,ad,ax,Q,A,x⟩:=h.cw;exact⟨x.len,x.inv.st.jV⟩
 have HX:=X h;clear h;go_in
 go_wp2_with fail
 obtain⟨E,t⟩:∃E,dd W (ay #[aq 5,I ao an ad] 98)=E:=⟨_,rfl⟩;have f:=HX.still (show Z aw W E by rw[<-t];exact cO aw W);rw[t];clear t c1 L;apply(Sb f.cw _ _ _).mono;rintro O P⟨⟨v2,rfl,u⟩|⟨_,q,rfl,hq⟩,k,n⟩;rotate_left;(.have e:=f.pa k n<|ag _;have A:=wb hq e.Dp;have m:=X e;clear e f hq k n;(go_wp2_with fail);apply A.mono;rintro O B⟨rfl,i⟩;have b:=m.still<|Z.aQ i;have c4:=cellAt b.xh.box 4 rfl;have d3:=cellAt b.xh.lu.box 3 rfl;have j:sC B az []:=⟨rfl,.inl ⟨rfl,rfl⟩⟩;have c:=vE j b.xh.lu.pr (by simp) (by omega);obtain⟨Q,x⟩:∃Q,decide (([]:jt)=D)=Q:=⟨_,rfl⟩;rw[x]at c;have r:=X b;clear b j A i m x;(go_wp2_with fail);apply c.mono;rintro O F⟨rfl,k4,l⟩;have g:XS Xqq w0 F xb T o V mem tabqq S pv vs ac D D d C N a (AR C ac d):=r.still (by rw[l];exact jl _ _ _);have s:=X g;clear g l c;go_wp2;(go_ret2);exact⟨8,rfl,.inr<|.inl ⟨rfl,.inr rfl,_,_,_,_,_,_,_,_,_,s⟩⟩);have e:=f.pa k n<|ag _;have al:=k.size;obtain⟨gx,gc,K⟩:=aC u;subst K;obtain⟨m,w,p⟩:=dF e u<|show Rj D ⟨#[]⟩ ⟨#[]⟩ 0=D from OD D;clear k n f e u;go_wp2_with fail
 apply(nj P).mono;rintro O B⟨rfl,i⟩;have v:Z aw P B:=Z.aQ i;have b:=m.still v;have j:sC B _ _:=v.row (dR w)<|λk b=>⟨id,(w.lt k b).2⟩;have c4:=cellAt b.xh.box 4 rfl;have d3:=cellAt b.xh.lu.box 3 rfl;have c:=vE j b.xh.lu.pr (by rw[J p];omega) (by omega);rw[J p]at c;rw[J p];simp only[uJ]at c;have r:=X b;clear b j v i;go_wp2_with fail
 apply c.mono;rintro O F⟨rfl,k4,l⟩;have g:XS Xqq w0 F xb T o V mem tabqq S pv vs ac D D d C N a (AR C ac d):=r.still (by rw[l];exact jl _ _ _);have s:=X g;clear g l c;go_wp2;go_ret2
 exact⟨0,rfl,.inl ⟨rfl,_,_,_,_,_,_,_,_,_,s⟩⟩
end
section
variable{Xqq:Hi}{w0 W:Y}{xb:M}{mem tabqq:U}{C N:M}{a:Prop}
theorem QN(h:Ac Xqq w0 W xb mem tabqq C N a)(g:U)(x:Option Addr)(b:oR)(Q:M)(hk:¬g=2/\¬g=3/\¬g=4/\¬g=5)(hL:Hh w0 (I x (y b) Q) b)(hz:∀bc∈b,bc.key.size<=140737488351232/\bc.val.size<=140737488351232)(hr:y b<=100000000)(hC:C+ly b<=1000000)(hN:N+1<=100000000):cY bA 25 #[aD xb,dL #[aq g,I x (y b) Q]] W λaa W'=>Cq Xqq w0 W' xb mem tabqq (C+ly b) (N+1) a g aa:=by
 obtain⟨db,d,l,bv,pv,vs,ap,ac,c,h⟩:=h;obtain⟨ch,aF,xx,cc⟩:=h.cw.jV;have cn:=cc.sle;have T:=JF ac b aF;have ce:=h.xh.num;obtain⟨k2,k3,k4,k5⟩:=hk;have b2:(g==2)=bw:=by simpa using k2
 have b3:(g==3)=bw:=by simpa using k3
 have b4:(g==4)=bw:=by simpa using k4
 have b5:(g==5)=bw:=by simpa using k5
 obtain⟨bk,cl⟩:∃bk,(g==1)=bk:=⟨_,rfl⟩;have cb:=ak h.xh.box;have HX:=X h;have HL:=X hL;have bL:∀E,dd W (ay #[aq g,I x (y b) Q] 98)=E->cY bA 54 #[I x (y b) Q] E λaa w'=>∃v',aa=aN v'/\OO w' (z<|G E) v' b/\Z aw E w'/\XS Xqq w0 w' xb db d l mem tabqq bv pv vs ap ac ac c C N a (AR C ap c)/\w'.heap[z<|G W]?=H (ay #[aq g,I x (y b) Q] 98 (0,0))/\tK w0 w' db d mem tabqq (λcp=>Vs Xqq.E xb l bv pv vs cp\/cp=z (G W)) C N ac a (AR C ap c):=λE ao=>by(have ax:Z aw W E:=by rw[<-ao];exact cO aw W);have au:=HX.still ax;(have hn:E.heap[z<|G W]?=H (ay #[aq g,I x (y b) Q] 98 (0,0)):=by rw[<-ao];exact aK _<|by simp);apply(Ru (by omega)<|(HL.aj au.cw.aj<|λ_ _=>id)).mono;rintro aa w'⟨v',rfl,ho,l⟩;have ht:Z aw E w':=Z.aQ l;have aV:=(ht.block _ (ak hn) id).trans hn;exact⟨v',rfl,ho,ht,au.still ht,aV,HX.cw.iV (ax.cz ht) cJ<|by grind⟩
 have bf:=X bL;go_in
 go_wp2_with fail
 apply(bf _ rfl).mono;rintro aa W2⟨v2,rfl,an,co,al,hq,bu⟩;obtain⟨x2,c2,bT⟩:=aC an;subst bT;have bt:=UV (dR an) (by omega);have c1:=cellAt al.xh.box 1 rfl;have q0:=cellAt hq 0 rfl;have q1:=cellAt hq 1 rfl;have ca:=λXqq(F:Z aw W2 Xqq)=>XC (bu.still F) (I x (y b) Q) b bk HL hz (by omega) hC hN;have cb:=ak al.xh.box;have br:=ak hq;obtain⟨bi,cj,HQ,bh⟩:=gw al an hq ca;go_wp2_with fail
 apply bt.mono;rintro aa bn⟨rfl,hw⟩;subst bn;go_wp2_with fail
 rename_i QQ KK w;have A:aW W2.drew (R xb 1)=H (aD d)/\aW W2.drew (R (z<|G W) 0)=H (aq g)/\aW W2.drew (R (z<|G W) 1)=H (I x (y b) Q):=⟨c1,q0,q1⟩;refine eH (λXqq=>aW Xqq (R xb 1)=H (aD d)/\aW Xqq (R (z<|G W) 0)=H (aq g)/\aW Xqq (R (z<|G W) 1)=H (I x (y b) Q)) 10 (by kernel_rfl) ?_;refine fw 0 ?_;iterate 9 (refine iS (v:=?_) A rfl (by kernel_rfl) lQ rfl ?_ ?_;rotate_left;(focus(rintro Xqq⟨z0,z1,z2⟩;go_simp;try rfl));simp only[Act.put,ig,rA,Nat.reduceAdd])
 apply iG;refine bG (i:=9) rfl rfl (by kernel_rfl) ?_;intro K9 u;go_simp;apply(bh W2.drew<|dh aw W2).mono;rintro aa t⟨ev,rfl,bb,B⟩;have o:XH Xqq w0 t xb db l (aD d) mem tabqq bv pv vs ap ac c bw (N+1):=(bi.still<|dh aw W2).xh.pa bb (λ_ q=>.inl q) (by omega);have O:t.heap[z<|G W]?=H (ay #[aq g,I x (y b) Q] 98 (0,0)):=(bb.block _ (by exact br)<|λq=>q.2<|.inr rfl).trans HQ;have bq:aW t (R xb 1)=H (aD d)/\aW t (R (z<|G W) 0)=H (aq g)/\aW t (R (z<|G W) 1)=H (I x (y b) Q):=⟨cellAt o.box 1 rfl,cellAt O 0 rfl,cellAt O 1 rfl⟩;refine u _ _ (λ_=>bq) ?_;refine bG (i:=10) rfl rfl (by kernel_rfl) ?_;intro ck av;go_simp;refine av _ _ IY ?_;refine fm (by kernel_rfl) ?_ _;show KK _ _;apply w;rcases B with⟨rfl,B⟩|⟨s,q,c3,rfl,aU,V,ba,B⟩;rotate_left;(.have ax:XD Xqq w0 t xb db l (aD d) mem tabqq bv pv vs ap ac c bw (C+ly b) (N+1) a (λx=>AR C ap c x\/x=ng ac b):=⟨o,B.iV (Z.refl aw t) cJ (λcp q=>.inl<|q.elim (λq=>.inl<|.inl q)<|by grind),.inr ⟨d,rfl,ba⟩⟩;have P:=wb aU ax.cd.Dp;(have b0:(c3==0)=bw:=by rcases V with rfl|rfl<;>rfl);have au:=X ax;have m:=X O;have HC:=X V;rw[s];(go_wp2_with fail);apply P.mono;rintro aa r⟨rfl,K⟩;have p:Z aw t r:=Z.aQ K;have e:=au.still p;have k:=(p.block _ (ak m) id).trans<|J m;have d2:=cellAt e.xh.lu.box 2 rfl;have f2:=cQ (i:=2) e.xh.lu.box;have c4:=cellAt e.xh.box 4 rfl;have f:=e.VM cf;obtain⟨n,E⟩:∃n,cH r (R l 2) (aM cf)=n:=⟨_,rfl⟩;(have aV:l≠z (G W):=λaa=>by have h1:=e.xh.lu.box;rw[aa,k]at h1;cases h1);(have ao:n.heap[z<|G W]?=H (ay #[aq g,I x (y b) Q] 98 (0,0)):=by rw[<-E];exact((fy r l 2<|aM cf).block _ (ak k)<|λaa=>aV aa.symm).trans k);rw[E]at f;have q0:=cellAt ao 0 rfl;have q1:=cellAt ao 1 rfl;have k4:=cellAt f.xh.box 4 rfl;have S:ng ac b=xZ ac b:=di s;have e2:ly b=y b:=di s;have L:=λXqq(F:Z aw n Xqq)=>Dl (f.still F).xh.lu (I x (y b) Q) b bw (HL.aj (f.still F).cd.jV.2<|λ_ _=>id) (by omega) (by omega) (f.still F).cd.jV.2.size;obtain⟨D,ad,bg⟩:=dF f L E;have cm:=ak f.xh.lu.box;clear f L k e p K P au m ao E;(go_wp2_with fail);rw[J bg];rename_i KK w;have A:aW n.drew (R xb 4)=H (aD l)/\aW n.drew (R (z<|G W) 0)=H (aq g)/\aW n.drew (R (z<|G W) 1)=H (I x (y b) Q):=⟨k4,q0,q1⟩;refine je (λXqq=>aW Xqq (R xb 4)=H (aD l)/\aW Xqq (R (z<|G W) 0)=H (aq g)/\aW Xqq (R (z<|G W) 1)=H (I x (y b) Q)) 6 (by kernel_rfl) ?_;refine ki 0 ?_;(iterate 6 (refine uc (v:=?_) A rfl (by kernel_rfl) lQ rfl ?_ ?_;rotate_left;(focus(rintro Xqq⟨z0,z1,z2⟩;go_simp;try rfl));simp only[Act.put,ig,rA,Nat.reduceAdd]));apply oe;refine fD (i:=6) rfl rfl (by kernel_rfl) ?_;intro K9 u;go_simp;apply(ad n.drew<|dh aw n).mono;rintro aa W6⟨rfl,bo,cd,v',bp,bE,bx⟩;have bs:=(D.still<|dh aw n).zW bE bp bx (by have:=(vg s).1;simp;omega);have bm:=X bs;have bd:=X D.xh.lu;refine u _ _ (λq=>by omega) ?_;refine jo (by kernel_rfl) ?_ _;show KK _ _;apply w;go_wp2;(go_ret2);refine⟨c3,rfl,.inr<|.inr ⟨HC,(by grind),_,_,_,_,_,_,_,_,_,_,_,bm.mono (ag _) hC (ag _) hN<|λx q=>?_⟩⟩;rcases q with q|q;exact q.snoc (by omega);rw[q,S];exact bd.M1 (by rw[<-S];exact T)<|by grind);have o:XS Xqq w0 t xb db d l mem tabqq bv pv vs ap ac (ng ac b) c (C+ly b) (N+1) a (λx=>(fZ b=0->bk=bw)/\AR C ap c x\/fZ b=0/\x=ng ac b):=⟨o,B.iV (Z.refl aw t) cJ<|by grind⟩;have P:=Is (fZ b) o.Dp;obtain⟨bl,m⟩:=And.intro (X o) (X O);go_wp2_with fail
 apply P.mono;rintro aa r⟨rfl,K⟩;have p:Z aw t r:=Z.aQ K;have e:=bl.still p;have k:=(p.block _ (ak m) id).trans<|J m;by_cases s:fZ b=0
 .rw[s];have q0:=cellAt k 0 rfl;have q1:=cellAt k 1 rfl;have c4:=cellAt e.xh.box 4 rfl;have S:ng ac b=xZ ac b:=di s;have e2:ly b=y b:=di s;have L:=λXqq(F:Z aw r Xqq)=>Dl (e.still F).xh.lu (I x (y b) Q) b bk (HL.aj (e.still F).cw.aj<|λ_ _=>id) (by omega) (by omega) (e.still F).cw.aj.size;obtain⟨j,ad⟩:=And.intro (X e) (X L);go_wp2_with fail
  rename_i KK w;have A:aW r.drew (R xb 4)=H (aD l)/\aW r.drew (R (z<|G W) 0)=H (aq g)/\aW r.drew (R (z<|G W) 1)=H (I x (y b) Q):=⟨c4,q0,q1⟩;refine je (λXqq=>aW Xqq (R xb 4)=H (aD l)/\aW Xqq (R (z<|G W) 0)=H (aq g)/\aW Xqq (R (z<|G W) 1)=H (I x (y b) Q)) 9 (by kernel_rfl) ?_;refine ki 0 ?_;iterate 9 (refine uc (v:=?_) A rfl (by kernel_rfl) lQ rfl ?_ ?_;rotate_left;(focus(rintro Xqq⟨z0,z1,z2⟩;go_simp;try rfl));simp only[Act.put,ig,rA,Nat.reduceAdd])
  apply oe;refine fD (i:=9) rfl rfl (by kernel_rfl) ?_;intro K9 u;go_simp;apply(ad r.drew<|dh aw r).mono;rintro aa n⟨rfl,bo,cd,v',E,au,ao⟩;have f:=(j.still<|dh aw r).zW au E ao (by have:=(vg s).1;simp;omega);have f:=f.mono (Q':=AR (C+ly b) (ap++[b])<|if bk=cf then((y ap+1:M):U)else c) (ag _) hC (ag _) hN (λx q=>by
   rcases q with⟨q1,q2⟩|⟨_,q2⟩
   .rw[q1 s];exact q2.snoc<|by omega
   .rw[q2,S];refine j.xh.lu.M1 (by rw[<-S];exact T) ?_;grind)
  rw[S]at f;have D:=X f;refine u _ _ (λq=>by omega) ?_;refine jo (by kernel_rfl) ?_ _;show KK _ _;apply w;go_wp2;go_ret2
  exact⟨0,rfl,.inl ⟨rfl,_,_,_,_,_,_,_,_,_,D⟩⟩
 .have b0:(fZ b==0)=bw:=by simpa using s
  have j:=X e;go_wp2_with fail
  apply(Zb _ _).mono;rintro aa n⟨rfl,E⟩;subst n;have S:ng ac b=ac:=dt s;rw[S]at j;have j:=X ((J j).mono (Q':=AR (C+ly b) ap c) (ag _) hC (ag _) hN (λx q=>by
   rcases q with⟨_,q2⟩|⟨q1,_⟩
   .exact q2.mono<|by omega
   grind))
  have ao:(!fZ b==fZ b)=bw:=by simp
  go_wp2;go_ret2
  exact⟨0,rfl,.inl ⟨rfl,_,_,_,_,_,_,_,_,_,j⟩⟩
end
section
variable{Xqq:Hi}{w0 W b:Y}{xb:M}{mem tabqq:U}{C C' N N':M}{a:Prop}{kd:U}{e:Ending}
theorem Ac.mono(s:Ac Xqq w0 W xb mem tabqq C N a)(j:C<=C')(g:C'<=1000000)(m:N<=N')(h:N'<=100000000):Ac Xqq w0 W xb mem tabqq C' N' a:=by
 obtain⟨l,d,n,k,o,r,B,t,c,q⟩:=s;exact⟨l,d,n,k,o,r,B,t,c,q.mono j g m h<|λx q=>q.mono j⟩
theorem G8.mono(t:G8 Xqq w0 W xb mem tabqq C N)(h:C<=C')(d:C'<=1000000)(l:N<=N')(g:N'<=100000000):G8 Xqq w0 W xb mem tabqq C' N':=by
 obtain⟨k,m,r,j,o,s,B,u,c,n,a,q⟩:=t;exact⟨k,m,r,j,o,s,B,u,c,n,a,q.mono h d l g<|λx q=>q.mono h⟩
theorem Cq.mono(m:Cq Xqq w0 W xb mem tabqq C N a kd e)(k:C<=C')(c:C'<=1000000)(l:N<=N')(d:N'<=100000000):Cq Xqq w0 W xb mem tabqq C' N' a kd e:=by
 obtain⟨n,rfl,⟨g,h⟩|⟨g,h,j⟩|⟨g,h,j⟩⟩:=m;exact⟨n,rfl,.inl ⟨g,h.mono k c l d⟩⟩;exact⟨n,rfl,.inr<|.inl ⟨g,h,j.mono k c l d⟩⟩;exact⟨n,rfl,.inr<|.inr ⟨g,h,j.mono k c l d⟩⟩
theorem XB(i:Ac Xqq w0 W xb mem tabqq C N a)(kd:U)(x:Option Addr)(c:oR)(h:M)(n:Hh w0 (I x (y c) h) c)(o:∀f∈c,f.key.size<=140737488351232/\f.val.size<=140737488351232)(p:y c<=100000000)(g:C+ly c<=1000000)(d:N+1<=100000000):cY bA 25 #[aD xb,dL #[aq kd,I x (y c) h]] W λe b=>Cq Xqq w0 b xb mem tabqq (C+ly c) (N+1) a kd e:=by
 by_cases j:kd=2;subst j;exact(Lb i x (y c) h d).mono<|λe b q=>q.mono (by omega) g (ag _) d;by_cases k:kd=3;subst k;exact(QO i x (y c) h d).mono<|λe b q=>q.mono (by omega) g (ag _) d;by_cases l:kd=4;subst l;exact(XA i x c h n o).mono<|λe b q=>q.mono (by omega) g (Nat.le_succ _) d;by_cases m:kd=5;subst m;exact(UO i x (y c) h).mono<|λe b q=>q.mono (by omega) g (Nat.le_succ _) d;grind[QN]
end
theorem E7(c:oR):y c<=LM c:=by
 induction c with
 |nil=>simp
 |cons f c d=>
  unfold LM at*;simp;omega
theorem Mz{j:Func}{q:Tmp}(r:j.results=#[.cell q 29])(c:Array ab)(w:Y)(m:M)(x d:U)(t:TypeId)(k:M×M)(p:c.getD q iM=aD m)(n:w.heap[m]?=H (ay #[aq x,aq d] t k)):(results j c).run bA w=.ok (dL #[aq x,aq d]) w:=by
 have i:c[q]?.getD iM=aD m:=by simpa using p
 have o:=kH (P:=bA) w m t 29 #[aq x,aq d] k _ n underlying29 rfl (by kernel_rfl);simp[results,r,i,asAddr,o]
theorem Tg(c T:U)(w:Y):cY bA 6 #[aq c,aq T] w λi d=>(∃m t,i=aN (dL #[aq m,aq t])/\1<=m/\m<=32/\2<=t/\t<=6)/\Z aw w d:=by
 have j:=IP c 32 (by omega) (by omega);have k:=IP T 5 (by omega) (by omega);go_in
 go_wp2;refine cy (Mz rfl _ _ (z<|G w) (1+wrap64 ((IntKind.u64.wrap c).tmod 32)) (2+wrap64 ((IntKind.u64.wrap T).tmod 5)) _ _ rfl<|aK _ rfl) rfl ?_;grind[cO]
section
variable{Xqq:Hi}{w0 W b:Y}{xb db e:M}{mem tabqq:U}{Cl:fh}{C N:M}{l:jt}{Q:jt->Prop}
theorem Lg{c:M}(D:tK w0 W db c mem tabqq Cl C N l True Q):cY bA 22 #[aD c] W λw b=>∃u,w=aN (dA #[u,aq 0])/\Vi W b u l/\Z (xI w0 Cl) W b/\tK w0 b db c mem tabqq Cl C N l True Q:=by
 have j:=Sb D ⟨#[]⟩ ⟨#[]⟩ 0;rw[OD]at j;go_in
 go_wp2_with fail
 apply j.mono;rintro w t⟨⟨F,rfl,i⟩|⟨E,_⟩,s,p⟩;rotate_left;grind
 obtain⟨A,x,r⟩:=aC i;subst r;obtain⟨m,n,k⟩:=dF i s p;go_wp2_with fail
 apply(nj t).mono;rintro w v⟨rfl,o⟩;have d:Z aw t v:=Z.aQ o;go_wp2;go_ret2
 exact⟨_,rfl,d.own m<|λ_ _ q=>q,n.cz d,k.still d⟩
end
theorem Jl:∀(B:ci oR)(l:jt),y (B.foldl xZ l)<=y l+(B.map y).sum
 |[],l=>by simp
 |c::B,l=>by
  have d:=Jl B<|xZ l c;have i:=AE l c;simp;omega
theorem SA(B:ci oR)(k:M):((B.take k).map y).sum<=(B.map y).sum:=by
 grind[take_append_drop]
theorem Fl:∀{B:ci oR}{c:oR},c∈B->y c<=(B.map y).sum
 |[],c,j=>by cases j
 |d::B,c,j=>by
  rcases bM.1 j with i|i
  .rw[i];simp
  .have:=Fl i;grind
section
variable{n0 e:M}{W b:Y}{bv h:ab}{a:ix}{B:ci oR}{l f:jt}{safe:U}{g:Bool}
theorem HB.bQ(j:HB n0 W e bv h a B l safe g){k:M}(p:k<y B):∃v m c,a[k]?=H v/\bv=bI m 0 (y a) c/\y a<=c/\aW W (R m k)=H v/\Ik W v B[k]/\∀q,cI v=H q->q<z (G W):=by
 have r:=j.len;obtain⟨v,i⟩:∃v,a[k]?=H v:=⟨_,aR<|by omega⟩;obtain⟨m,c,o,_,_,d⟩:=uk j.own (by omega);refine⟨v,m,c,i,o,d,?_,j.each k _ _ i (by simp),λq n=>(j.sV v (eR i) q n).2.1⟩;have:=(dR j.own).2;grind
theorem PN{ba:ab}(bn:HB n0 W e bv h a B l safe g)(hv:sC W ba f)(av:∀q,cI ba=H q->q<z (G W))(bd:y f<=1000000000)(hB:y B<=1000000000)(bk:(B.map y).sum<=1000000000)(hn:∃t:M,safe<=t/\t<=y B/\f=(B.take t).foldl xZ []):cY bA 23 #[aD e,ba] W λr b=>r=aN (aM cf)/\Z aw W b:=by
 obtain⟨F,t,E,aF⟩:∃F t E,ba=I F t E:=by rcases hv.shape with r|⟨bm,o,d,r⟩<;>exact⟨_,_,_,r⟩
 subst aF;obtain⟨aV,bf,bg,bh⟩:=hn;have bl:=bn.len;obtain⟨HH,HV,aa⟩:=dF bn hv av;go_in
 go_wp2;go_loopw [5,6] (λp i wr=>∃k:M,k<=aV/\i=aq k/\sC wr p ((B.take k).foldl xZ [])/\(∀q,cI p=H q->q<z (G wr))/\Z aw W wr) (λ_ i _=>aV+1-(intOf i).toNat)
 case atStart=>exact⟨0,bK _,by go_num,⟨rfl,.inl ⟨rfl,rfl⟩⟩,λq r=>(by cases r),Z.refl _ _⟩
 case round=>
  obtain⟨k,hk,rfl,hp,ap,ht⟩:=hrel;have s:=HH.aj ht<|λ_ _=>id;have d0:=cellAt s.box 0 rfl;have d1:=cellAt s.box 1 rfl;obtain⟨bx,bc,al⟩:=aC s.own;subst al;have an:=Jl (B.take k) [];have bb:=SA B k;simp only[dB]at an;have ax:sC wr (I F t E) f:=ht.row HV<|λq hq=>⟨id,aa q hq⟩;have m:=vE ax hp (by omega) (by omega);obtain⟨px,pn,pc,au⟩:∃F t E,u5=I F t E:=by
   rcases hp.shape with r|⟨bm,o,d,r⟩<;>exact⟨_,_,_,r⟩
  subst au;have f1:(k:U)<=(y a:U):=by omega
  obtain⟨P,ad⟩:∃P,decide (f=(B.take k).foldl xZ [])=P:=⟨_,rfl⟩;rw[ad]at m;have ao:P=bw\/(k:U)<safe->k<aV:=λac=>by
   grind[Nat.lt_or_ge,decide_eq_false_iff_not,J]
  have j:=X (show k<aV->∀p,Z aw wr p->∃D ac d,bx=H (R ac 0)/\bc=d/\y a<=d/\aW p (R ac k)=H D/\(∃F t E,D=I F t E)/\aW p (R e 0)=H (I bx (y a) bc)/\cY bA 53 #[I px pn pc,D] p λr u=>∃F t E,r=aN (I F t E)/\sC u (I F t E) ((B.take<|k+1).foldl xZ [])/\(∀q,cI (I F t E)=H q->q<z (G u))/\Z aw p u fromλi p c=>by
   have n:=s.aj c<|λ_ _=>id;obtain⟨D,ac,d,e0,L,O,e3,S,e5⟩:=n.bQ (k:=k) (by omega);cases L;refine⟨D,ac,_,rfl,rfl,O,e3,?_,cellAt n.box 0 rfl,?_⟩
   .obtain⟨y1,y2,y3⟩:=bZ S;grind
   .have aU:=Fl (ar (l:=B) (n:=k)<|by omega);apply(Xx B[k] (c.row hp<|by grind) (λq hq=>ai (ap q hq) c.size) S e5<|by omega).mono;rintro r u⟨p',rfl,h1,h2,_,h4⟩;obtain⟨y1,y2,y3,T⟩:∃F t E,p'=I F t E:=by
     rcases h1.shape with r|⟨bm,o,d,r⟩<;>exact⟨_,_,_,r⟩
    grind[Z.aQ,take_succ_eq_append_getElem])
  have HT:=X ht;have K:=X ao;by_cases bi:safe<=(k:U)
  .cases P with
   |true=>
    go_wp2_with fail
    apply m.mono;rintro r p⟨rfl,q1,n⟩;have c:Z aw wr p:=by rw[n];exact jl _ _ _
    have u:=X<|HT.cz c;clear n c m;go_wp2;go_ret;exact⟨rfl,u⟩
   |false=>
    have i:=K<|.inl rfl;have f2:(k:U)<(y a:U):=by omega
    have f0:(0:U)<=(k:U):=by omega
    go_wp2_with fail
    apply m.mono;rintro r p⟨rfl,q1,n⟩;have c:Z aw wr p:=by rw[n];exact jl _ _ _
    obtain⟨D,ac,d,L,O,e3,S,⟨y1,y2,y3,T⟩,e5,v⟩:=j i p c;subst L O T;have u:=X<|HT.cz c;clear n c m d0 d1;go_wp2_with fail
    apply v.mono;rintro r w2⟨z1,z2,z3,rfl,x,w,A⟩;have V:=X<|And.intro x (And.intro w (u.cz A));go_wp2;go_roundw;case rel=>exact⟨k+1,i,by go_num,V⟩
    case measure=>simp[intOf];omega
  .have i:=K (.inr<|by omega);have f2:(k:U)<(y a:U):=by omega
   have f0:(0:U)<=(k:U):=by omega
   obtain⟨D,ac,d,L,O,e3,S,⟨y1,y2,y3,T⟩,e5,v⟩:=j i wr<|Z.refl _ _;subst L O T;go_wp2_with fail
   apply v.mono;rintro r w2⟨z1,z2,z3,rfl,x,w,A⟩;have V:=X<|And.intro x (And.intro w (HT.cz A));go_wp2;go_roundw;case rel=>exact⟨k+1,i,by go_num,V⟩
   case measure=>simp[intOf];omega
end
theorem Hw:(prog.info? 56).map (λi=>(i.zero,i.size,i.bytes))=H (H<|dL #[am ⟨#[]⟩,am ⟨#[]⟩,aM bw],3,40):=by kernel_rfl
def TJ(p:KV):LH:=⟨p.1,p.2,bw⟩
theorem IC{k v:ae}:∀(l h:jt),(∀p∈l,jj p.1 k=cf)->l.foldl (fH k v) (h,bw)=(h++l,bw)
 |[],h,_=>by simp
 |p::l,h,m=>by
  have i:=m p (by simp);have j:¬p.1=k:=λh=>by rw[h]at i;simp[fT]at i
  rw[iK,show fH k v (h,bw) p=(h++[p],bw)from Iy i j,IC l _<|by grind];simp
theorem SS{k v:ae}{l:jt}(h:∀p∈l,jj p.1 k=cf):uh l k v bw=l++[(k,v)]:=by
 unfold uh oP;rw[IC l [] h];simp
theorem KZ:∀(l h:jt),zc (h++l)->xZ h (l.map TJ)=h++l
 |[],h,_=>by simp[xZ]
 |p::l,h,k=>by
  have i:∀q∈h,jj q.1 p.1=cf:=λq j=>(aZ.1 k).2.2 q j p (by simp);have j:xZ h ((p::l).map TJ)=xZ (uh h p.1 p.2 bw) (l.map TJ):=rfl;rw[j,SS i,KZ l (h++[p])<|by simpa using k];simp
theorem Xb{W:Y}{i b:M}(j:W.heap[b]?=H (ay #[az,aq 0,aM bw,az] 35 (0,0))):HB i W b az az [] [] [] 0 bw:=⟨j,cK _ _ _ _,λk _ _ _ h=>(by cases h),rfl,by simp,by simp,⟨rfl,.inl ⟨rfl,rfl⟩⟩,λk q=>(by cases q),rfl,λq=>by cases q⟩
section
variable{Xqq:Hi}{w0 W f:Y}{xb db sbqq b:M}{mem tabqq:U}{bv d sv:ab}{e:ix}{B:ci oR}{l a:jt}{safe:U}{g:Bool}{C N:M}{c:Prop}{Q:jt->Prop}
theorem XH.Zc{p:fh}(o:XH Xqq w0 W xb db b (aD sbqq) mem tabqq bv d e B l safe g N)(s:tK w0 W db sbqq mem tabqq p C N a c Q)(h:p xb)(A:∀k,Xqq.E k->p k)(w:Z aw W f){n:M}(K:z (G W)<=n)(t:f.heap[n]?=H (ay #[az,aq 0,aM bw,az] 35 (0,0))):XS Xqq w0 (cH f (R xb 4)<|aD n) xb db sbqq n mem tabqq az az [] [] [] a 0 C N c Q:=by
 have x:=o.still w;have L:=ak o.box;have r:=x.box;have i:=fy f xb 4<|aD n;have u:n≠xb:=by omega
 have j:Z (λk=>k=xb) W (cH f (R xb 4)<|aD n):=(w.mono (T:=λk=>k=xb) cJ).trans i<|λ_ q=>.inl q;have D:n<z (G<|cH f (R xb 4)<|aD n):=by rw[im];exact ak t
 refine⟨⟨(aJ r).trans rfl,Xb<|(i.block n (ak t)<|λv=>u v).trans t,?_,o.DX,by simp,λk q=>⟨(o.ext k q).1,(j.block k (o.J0 q)<|λv=>(o.ext k q).2.2.1 v).trans (o.ext k q).2.1,(o.ext k q).2.2.1,?_⟩⟩,s.iV j (λk q=>?_)<|λk q=>?_⟩;rintro(q|q|q|⟨F,m,q⟩);omega;cases q;cases q;cases m;have E:=o.J0 q;rintro(q|q|q|⟨F,m,q⟩);omega;cases q;cases q;cases m;have v:k=xb:=q;subst v;exact⟨h,o.I7 s.gG<|.inr ⟨sbqq,rfl,s.Z9⟩⟩;rcases q with q|(q|q|q|⟨F,m,q⟩)|q;rw[q];exact .inl h;(grind);cases q;cases q;cases m;grind
structure XE(Xqq:Hi)(w0 W:Y)(xb db b:M)(sv:ab)(mem kK:U)(bv d:ab)(e:ix)(B:ci oR)(l a:jt)(safe:U)(g:Bool)(C N:M)(c:Prop):Prop where
 xh:XH Xqq w0 W xb db b sv mem kK bv d e B l safe g N
 ce:J2 w0 W db mem kK (J1 Xqq.E xb b bv d e sv) C N a c
 j5:sv=dC none\/∃sb,sv=aD sb/\Vt W sb
theorem FG(h:XE Xqq w0 W xb db b sv mem tabqq bv d e B l a safe g C N c)(hn:AR C B safe a)(hN:N+1<=100000000):cY bA 10 #[aD xb] W λp f=>p=aN (aq 0)/\Ac Xqq w0 f xb mem tabqq C (N+1) True:=by
 have em:=h.xh.num;have c0:=cellAt h.xh.box 0 rfl;have bt:=ZI h.ce;have bx:=hn.1;have HX:=X h;have HN:=X hn;go_in
 go_wp2_with fail
 apply bt.mono;rintro p W1⟨A,rfl,aU,br⟩;have O:=HX.xh.still aU;have cc:sv=dC none\/∃sbqq,sv=aD sbqq/\Vt W1 sbqq:=HX.j5.imp id<|λ⟨sbqq,p,D,E,q⟩=>⟨sbqq,p,D,E,(aU.block sbqq (ak q) id).trans q⟩;have c0:=cellAt O.box 0 rfl;have g0:=cQ (i:=0) O.box;obtain⟨u,F⟩:∃u,cH W1 (R xb 0) (aD A)=u:=⟨_,rfl⟩;have cl:XH Xqq w0 u xb A b sv mem tabqq bv d e B l safe g N:=by rw[<-F];exact O.YN A
 have bs:Vn w0 u A mem tabqq (J1 Xqq.E xb b bv d e sv) C N a True (λcs=>cs=a):=by rw[<-F];exact br.iV (fy W1 xb 0<|aD A) (λco q=>.inl<|.inl q)<|λco q=>.inl q
 have cd:sv=dC none\/∃sbqq,sv=aD sbqq/\Vt u sbqq:=cc.imp id<|λ⟨sbqq,p,D,E,q⟩=>⟨sbqq,p,D,E,by rw[<-F];refine((fy W1 xb 0<|aD A).block sbqq (ak q)<|λcv=>?_).trans q;have i:sbqq=xb:=cv;have r:=O.box;unfold Rp at r;rw[<-i,q]at r;cases r⟩;obtain⟨t,cw,cE,cM⟩:=gw cl bs cd F;clear O cc cl bs cd br aU bt HX F;go_wp2_with fail
 rename_i KK dc;rw[J cM];have e0:=cellAt t.box 0 rfl;have e2:=cellAt t.box 2 rfl;have e3:=cellAt t.box 3 rfl;have dx:=Lk (cw.still<|dh aw u) bx t.DX;have df:aW u.drew (R xb 0)=H (aD A)/\aW u.drew (R xb 2)=H (aq mem)/\aW u.drew (R xb 3)=H (aq tabqq):=⟨e0,e2,e3⟩;refine eH (λXqq=>aW Xqq (R xb 0)=H (aD A)/\aW Xqq (R xb 2)=H (aq mem)/\aW Xqq (R xb 3)=H (aq tabqq)) 13 (by kernel_rfl) ?_;refine fw 0 ?_;iterate 8 (refine iS (v:=?_) df rfl (by kernel_rfl) lQ rfl ?_ ?_;rotate_left;(focus(rintro Xqq⟨z0,z1,z2⟩;go_simp;try rfl));simp only[Act.put,ig,rA,Nat.reduceAdd])
 apply iG;refine bG (i:=8) rfl rfl (by kernel_rfl) ?_;intro K8 cT;go_simp;apply dx.mono;rintro p W6⟨ev,er,rfl,ck,S⟩;have ac:=(t.still<|dh aw u).pa ck (λ_ q=>.inl q)<|ag _;have av:aW W6 (R xb 0)=H (aD A)/\aW W6 (R xb 2)=H (aq mem)/\aW W6 (R xb 3)=H (aq tabqq):=⟨cellAt ac.box 0 rfl,cellAt ac.box 2 rfl,cellAt ac.box 3 rfl⟩;refine cT _ _ (λ_=>av) ?_;refine fw 9 ?_;iterate 3 (refine iS (v:=?_) av rfl (by kernel_rfl) lQ rfl ?_ ?_;rotate_left;(focus(rintro Xqq⟨z0,z1,z2⟩;go_simp;try rfl));simp only[Act.put,ig,rA,Nat.reduceAdd])
 apply iG;refine bG (i:=12) rfl rfl (by kernel_rfl) ?_;intro en bo;go_simp;refine bo _ _ (λ_=>av) ?_;refine bG (i:=13) rfl rfl (by kernel_rfl) ?_;intro eo bp;go_simp;refine bp _ _ IY ?_;refine fm (by kernel_rfl) ?_ _;show KK _ _;apply dc;rcases S with⟨rfl,rfl,et,S⟩|⟨q,c6,_,_,_,es,_⟩;rotate_left;grind
 have dT:sv=dC none\/∃sbqq,sv=aD sbqq/\Vt W6 sbqq:=cE.imp id<|λ⟨sbqq,p,D,E,q⟩=>⟨sbqq,p,D,E,(ck.block sbqq (ak q)<|λcv=>cv.2<|.inr p).trans q⟩;obtain⟨sbqq,eb⟩:∃sbqq,z (G u.drew)+2=sbqq:=⟨_,rfl⟩;rw[eb]at S|-;have el:∀w:Y,(binOp .eql 36 (aD sbqq)<|dC none).run bA w=.ok (aM bw) w:=λ_=>rfl;obtain⟨bk,ba,bf⟩:=dF ac S dT;go_wp2_with fail
 apply(nj W6).mono;rintro p W7⟨rfl,bq⟩;have V:Z aw W6 W7:=Z.aQ bq;have bu:=Lg<|ba.still V;have bl:=X<|bk.still V;have bg:=X (show sv=dC none\/∃sbqq,sv=aD sbqq/\Vt W7 sbqq from bf.imp id<|λ⟨sbqq,p,D,E,q⟩=>⟨sbqq,p,D,E,(V.block sbqq (ak q) id).trans q⟩);clear V bq bk ba bf;go_wp2_with fail
 apply bu.mono;rintro p W8⟨v8,rfl,K,aa,T⟩;have ad:=bl.pa aa (λ_ q=>.inl q)<|ag _;have ce:sv=dC none\/∃sbqq,sv=aD sbqq/\Vt W8 sbqq:=bg.imp id<|λ⟨sbqq,p,D,E,q⟩=>⟨sbqq,p,D,E,(aa.block sbqq (ak q)<|λcv=>cv.2<|.inr p).trans q⟩;have ek:y a<=C/\C<=1000000:=by obtain⟨eB,ew,eA,ex,cr,ej,ey,cq,cp,hc⟩:=T;exact⟨hc.len,hc.inv.st.jV⟩
 have cj:zc a:=by obtain⟨eB,ew,eA,ex,cr,ej,ey,cq,cp,hc⟩:=T;exact hc.Cf.1
 obtain⟨gx,gc,dr⟩:=aC K;subst dr;have c4:=cellAt ad.box 4 rfl;have ca:=PN ad.lu (dR K) (λq r=>(K.lt q r).2) (by omega) (by omega) (by omega) HN.2;obtain⟨au,bb,bh,ap,bi⟩:=iY ad T ce K cj;have ei:=aa.size;clear ad T ce K cj aa bl bg bu;go_wp2_with fail
 apply ca.mono;rintro p w⟨rfl,L⟩;have m:=au.still L;have ax:=bb.still L;have ch:sv=dC none\/∃sbqq,sv=aD sbqq/\Vt w sbqq:=bh.imp id<|λ⟨sbqq,p,D,E,q⟩=>⟨sbqq,p,D,E,(L.block sbqq (ak q) id).trans q⟩;have c1:=cellAt m.box 1 rfl;have g1:=cQ (i:=1) m.box;have c4:=cellAt m.box 4 rfl;have g4:=cQ (i:=4) m.box;have cm:=ak m.box;have ao:XH Xqq w0 (cH w (R xb 1)<|aD sbqq) xb A b (aD sbqq) mem tabqq bv d e B l safe g N:=m.sg _;have al:tK w0 (cH w (R xb 1)<|aD sbqq) A sbqq mem tabqq (J1 Xqq.E xb b bv d e sv) C N a True (λcs=>cs=a):=ax.iV (fy w xb 1<|aD sbqq) (λco q=>by have q':co=xb:=q;rw[q'];exact⟨.inl<|.inl rfl,m.I7 ax.gG ch⟩)<|λco q=>.inl q;have n:=ao.Zc al (.inl<|.inl rfl) (λco q=>.inl<|.inr<|.inr q) (cO aw _) (ag _)<|aK (ay #[az,aq 0,aM bw,az] 35) rfl;rw[im,World.setCell_alloc_past _ _ _ _ (by rw[im];exact cm)]at n;have bc:=X (show∀Xqq:Y,Z (λco=>co=xb) w Xqq->sC Xqq (I gx (y a) gc) a/\∀q,cI (I gx (y a) gc)=H q->q<z (G w)fromλXqq hX=>by have j:=L.own ap<|λ_ _ q=>q;refine⟨hX.row (dR j)<|λq r=>⟨λp=>?_,(j.lt q r).2⟩,λq r=>(j.lt q r).2⟩;have e':q=xb:=p;have:=(ap.lt q r).1;have an:=ak au.box;obtain⟨o,k⟩:=eT j r;have i:=m.box;unfold Rp at i;rw[<-e',k]at i;cases i);have bm:=X n;clear ca ao al m ax ch n au bb bh ap L;go_wp2_with fail
 obtain⟨x,P⟩:∃x,dd (cH (cH w (R xb 1)<|aD sbqq) (R xb 4)<|aD<|z<|G w) (ay #[az,aq 0,aM bw,az] 35)=x:=⟨_,rfl⟩;have aV:Z (λco=>co=xb) w x:=by rw[<-P];exact(((iT xb w).setCell xb 4 _<|.inl rfl)).alloc _
 obtain⟨bT,cb⟩:=bc x aV;have cn:=aV.size;obtain⟨cv,hg⟩:∃cv,z (G w)=cv:=⟨_,rfl⟩;have n:=J bm;rw[P,hg]at n;rw[P];obtain⟨cN,cB,bd⟩:=dF n bT (show∀q,cI (I gx (y a) gc)=H q->q<z (G x)fromλq r=>ai (cb q r) cn);obtain⟨i0,ds,ed,ef,eg⟩:=dl Hw;clear bm n bT cb aV cn P hg bc c1 g1 c4 g4 cm ei;go_loopw [9,10] (λo cu wr=>∃s:M,s<=y a/\cu=aq s/\wr.ownsRow (z<|G x) 56 3 o s (gU<|(a.take s).map TJ)/\Below (z<|G x) x wr) (λ_ cu _=>y a-(intOf cu).toNat)
 case atStart=>exact⟨0,bK _,by go_num,cK _ _ _ _,Below.refl _ _⟩
 (case round=>obtain⟨s,hn,rfl,j,k⟩:=hrel;have ec:z (G x)<=z (G wr):=k.size;by_cases bL:s<y a;(.have bn:=qD a s bL;(have dm:∃cr i,gx=H (R cr i)/\y a<=gc/\aW wr (R cr<|i+s*2)=H (am a[s].1)/\aW wr (R cr<|i+s*2+1)=H (am a[s].2):=by have hp:=J cB;obtain⟨_,⟨p,h0⟩|⟨cr,i,dn,p,dk,hc⟩⟩:=hp;omega;cases p;exact⟨cr,i,rfl,dk,(k.cell<|bd cr rfl).trans<|hc _ _ bn.1,(k.cell<|bd cr rfl).trans (by rw[bD];grind)⟩);obtain⟨cr,i,cS,dv,ea,eq⟩:=dm;subst cS;obtain⟨cs,ej,aF⟩:=aC j;subst aF;have HS:=X (show gU ((a.take<|s+1).map TJ)=gU ((a.take s).map TJ)++[am a[s].1,am a[s].2,aM bw]by unfold gU;rw[ah bL,aE,fJ];simp[sA,TJ]);have HO:=X j;have HB:=X k;(have f1:(s:U)<(y a:U):=by omega);(have f0:(0:U)<=(s:U):=by omega);clear j k bn;generalize a[s].1=kk at*;generalize a[s].2=vv at*;go_wp2;(go_region_law (refine uT rfl (.tmp 77) (.tmp 89) 57 rfl (z<|G x) 56 i0 (dL #[am ⟨#[]⟩,am ⟨#[]⟩,aM bw]) 3 40 underlying57 ds ed ef eg rfl (by decide) (I cs s ej) s (gU<|(a.take s).map TJ) (by simp[Act.eval]) (kj (aT HO<|ay #[am kk,am vv,aM bw] 56) rfl) (R (z<|G wr) 0) 1 1 [am kk,am vv,aM bw] (by simp[Act.eval]) rfl (GO _ _ _ _ _) (by simp[Value.oneCell']) (by omega) (by omega) (by simp;omega) ?_;intro v2 w2 o an;obtain⟨x2,c2,rfl⟩:=aC o;have bE:=X o;have cx:=X an;clear o an));go_wp2;(all_goals go_roundw;(case rel=>exact⟨s+1,by omega,by go_num,by rw[J HS];exact bE,mQ HB ec cx (ay #[am kk,am vv,aM bw] 56) rfl<|λj i=>(bN HO j i).1⟩);case measure=>simp[intOf];omega));(have dv:s=y a:=by omega);subst dv;rw[aY]at j;(have e1:¬(y a:U)<(y a:U):=by omega);have an:Z aw x wr:=Z.aQ k;have i:=cN.still an;have c4:=cellAt i.xh.box 4 rfl;obtain⟨cs,ej,aF⟩:=aC j;subst aF;(have dm:(y (a.map TJ):M)=y a:=by simp);have bE:Hh wr (I cs (y a) ej) (a.map TJ):=.inl ⟨by unfold Ik;rw[dm];exact dR j,λco q=>(j.lt co q).2⟩;have dn:=Dl i.xh.lu (I cs (y a) ej) (a.map TJ) cf bE (by simp;omega) (by simp) i.cw.aj.size;obtain⟨o,cx⟩:=And.intro (X i) (X dn);(go_wp2_with fail);apply cx.mono;rintro p WB⟨rfl,eq,eu,v',bn,an,ea⟩;rw[KZ a [] bi,du]at bn;have dk:=(o.mono (Q':=AR C ([]++[a.map TJ]) 1) (ag _) o.cw.jV.1 (N':=N+1) (by omega) hN (λcs p=>by have p:cs=a:=p;rw[p];exact⟨bx,1,sa _,by simp,by show a=xZ [] (a.map TJ);rw[KZ a [] bi,du]⟩)).zW an bn ea (by simp;omega);have cS:=X dk;go_wp2;go_ret;exact⟨rfl,_,_,_,_,_,_,_,_,_,cS⟩)
end
theorem Ob(c:M)(n:ae):∀L:ci aX,cX (L.map<|vL c) n=(dV L n).map (λf=>f.bytes.take<|QV c f.bytes f.safe)
 |[]=>rfl
 |f::L=>by
  by_cases e:f.name=n
  .rw[bR,cX,dV,di e,di<|show(vL c f).1=n from e];rfl
  .rw[bR,cX,dV,dt e,dt<|show¬(vL c f).1=n from e];exact Ob c n L
theorem WE{K:DK}{L:ci aX}{D:eU}{c:M}{g:Fs}(e:Af K L D)(w:(fF K).Nodup)(s:g.Perm (L.map<|vL c)):Rr K D c g:=by
 have r:((L.map<|vL c).map (·.1)).Nodup:=by rw[ee];exact e.nodup
 have j:∀n,D.get n=(dV L n).map (λF=>jr<|H F.jM):=λn=>by
  rw[<-e.nm];cases h:dV L n with
  |none=>exact tH h
  |some F=>exact(dq h).2.2
 have k:∀f∈L,gk f∈LI K:=λf o=>by obtain⟨v,p,d,u,i,m⟩:=e.has f o;exact bH.2 ⟨v,p,by unfold gk;rw[d,i,m]⟩
 intro n t;rw[Jp r s n,Ob];constructor
 .intro h;cases q:dV L n with
  |none=>rw[q]at h;cases h
  |some f=>
   rw[q]at h;exact⟨f.jM,f.bytes,f.safe,by rw[j,q];rfl,k f (dq q).2.1,(gP h).symm⟩
 .rintro⟨p,x,u,d,o,rfl⟩;rw[j]at d;cases q:dV L n with
  |none=>rw[q]at d;cases d
  |some f=>
   rw[q]at d;have m:=QF<|gP d;have i:=k f (dq q).2.1;unfold gk at i;rw[m]at i;grind[Zd]
section
variable{w0 W a:Y}{db sbqq:M}{mem tabqq:U}{Cl:fh}{C N:M}{l:jt}{b:Prop}{Q:jt->Prop}
theorem Ow(h:Cs w0 W db mem tabqq Cl C N b Q)(d c:M)(f:d<18446744073709551616)(j:c<18446744073709551616):cY bA 9 #[aD db,aG d,aG c] W λv a=>v=aN (dA #[])/\Z (xI w0 Cl) W a/\∃l,Q l/\J2 w0 a db mem tabqq Cl C N l True:=by
 obtain⟨K,h⟩:=h;have i:=h.df.aH;have k:d% (y K.eP+1)<=y K.eP:=Nat.le_of_lt_succ (wK d<|by omega);obtain⟨c1,c2⟩:=h.cp.2 _ k;obtain⟨L,m,_⟩:=h.cp.1.1.link i k c1;apply(XK d c f j i h.cp.1.2 m).mono;rintro v a⟨rfl,o,e,r,p,n⟩;obtain⟨g,t,l,u,s⟩:=c2 c _<|WE m i.fF r;have w:=h.df.aj.size;refine⟨rfl,e.aj.mono<|λk q=>.inl ⟨h.df.low k q,λc=>(h.df.cl k c).1 q⟩,l,s,o,⟨e.ok,h.df.aj.trans e.aj<|λk q=>.inr<|h.df.low k q,λk q=>(e.aL k q).elim (h.df.low k) (λc=>by omega),λk q=>⟨λc=>(e.aL k c).elim (h.df.cl k q).1 (λc=>by have:=(h.df.cl k q).2.2;omega),(h.df.cl k q).2.1,ai (h.df.cl k q).2.2 e.aj.size⟩,h.df.g0,by rw[n];exact h.df.rm,λ_=>by rw[n]⟩,h.jV,h.xW,p,g,t,u⟩
theorem DF.lU{K:DK}{f:Cv}(h:DF w0 W db Cl K b)(e:bY a db (K.lU f))(d:Z (λk=>k=db) W a)(c:(f.room,f.any)=(K.fx.room,K.fx.any)):DF w0 a db Cl (K.lU f) False:={aH:=e,aj:=h.aj.trans d<|λk g=>.inr (by have i:k=db:=g;have:=h.low db<|.inl rfl;omega),low:=h.low,cl:=λk q=>⟨(h.cl k q).1,(h.cl k q).2.1,ai (h.cl k q).2.2 d.size⟩,g0:=h.g0,rm:=⟨(dD c).2.trans h.rm.1,(dD c).1.trans h.rm.2⟩,qt:=λq=>q.elim}
theorem ZJ(h:Cs w0 W db mem tabqq Cl C N b Q)(x t:U)(i:x<=9223372036854775807)(g:t<=9223372036854775807):cY bA 7 #[aD db,aq x,aq t] W λe a=>e=aN (dA #[])/\Z (λk=>k=db) W a/\Z (xI w0 Cl) W a/\Cs w0 a db mem tabqq Cl C N False Q:=by
 obtain⟨K,h⟩:=h;have f:=h.df.low db<|.inl rfl;apply(GF x t h.df.aH i g).mono;rintro e a⟨rfl,u,v,m,n,o,d,c⟩;exact⟨rfl,c,c.mono<|λk e=>.inl ⟨by have j:k=db:=e;omega,λq=>(h.df.cl k q).1<|.inl e⟩,K.lU _,h.df.lU d c rfl,h.jV,h.xW,h.cp.pC ⟨rfl,rfl,rfl⟩⟩
theorem ZH(h:Vn w0 W db mem tabqq Cl C N l b Q)(E D:U)(w:E<=9223372036854775807)(v:D<=9223372036854775807):cY bA 7 #[aD db,aq E,aq D] W λj a=>j=aN (dA #[])/\Z (λm=>m=db) W a/\Z (xI w0 Cl) W a/\Vn w0 a db mem tabqq Cl C N l False Q:=by
 obtain⟨K,h⟩:=h;have t:=h.df.low db<|.inl rfl;have r:=h.df.g0.1.lt;have s:=h.df.g0.2.1.lt;apply(GF E D h.df.aH w v).mono;rintro j a⟨rfl,aa,ac,T,V,hz,k,e⟩;obtain⟨i,B,A,g,F,L,O,P,c,f,x,d,u,n,p,o⟩:=h.laid;refine⟨rfl,e,e.mono<|λm j=>.inl ⟨by have S:m=db:=j;omega,λq=>(h.df.cl m q).1<|.inl j⟩,K.lU _,h.df.lU k e rfl,i,B,A,g,F,L,O,P,c,f,x,⟨k,d.qP,d.jV,d.xW,d.eP,?_,?_,d.fR,d.mz⟩,u,n.pC ⟨rfl,rfl,rfl⟩,p.pC ⟨rfl,rfl,rfl⟩,o⟩;exact Steps.aj d.steps e (by omega);exact d.pow.aj e<|by omega
theorem Zz(h:tK w0 W db sbqq mem tabqq Cl C N l b Q)(x t:U)(o:x<=9223372036854775807)(n:t<=9223372036854775807):cY bA 7 #[aD db,aq x,aq t] W λe a=>e=aN (dA #[])/\Z (xI w0 Cl) W a/\tK w0 a db sbqq mem tabqq Cl C N l (t<=0) Q:=by
 obtain⟨s,K,E,r,u,v,w,f,d,h⟩:=h;have e:=h.Ct.2.1;subst e;have m:=h.low.1 s.aH<|.inl rfl;have i:∀k,Cl k->k≠s.aH:=λk q e=>(h.cl k q).1.aL<|.inl e;apply(GF x t h.inv.st.aH o n).mono;rintro e a⟨rfl,F,L,B,D,p,j,c⟩;have g:sbqq≠s.aH:=λe=>h.inv.st.xM<|.inl e;exact⟨rfl,c.mono<|λk e=>.inl ⟨by have A:k=s.aH:=e;omega,λq=>i k q e⟩,s,K.lU {K.fx with wt:=F,bd:=L},E,r,u,v,w,f,d,⟨(c.block sbqq (ak h.EC) g).trans h.EC,h.Ct,h.inv.lU j c,h.tid,h.Cf,h.len,h.aj.trans c (by grind),h.low,λk q=>⟨(h.Gl k q).1,ai (h.Gl k q).2 c.size⟩,λk q=>⟨⟨⟨ai (h.cl k q).1.lt c.size,(h.cl k q).1.aL,(h.cl k q).1.ne⟩,(h.cl k q).1.AP⟩,(h.cl k q).2⟩,h.g0,h.rm,λq=>p q,h.cq.pC ⟨rfl,rfl,rfl⟩ rfl⟩⟩
end
theorem D5:PR 0 (bV [] [] [] []):=by
 have a:bV [] [] [] []=[[],[],[]]:=rfl;rw[a];have b:PR 0 ([]:dX):=⟨List.Pairwise.nil,by simp,by simp,by simp⟩;grind[PR.MT]
theorem Fq:jn []:=⟨by simp,List.Pairwise.nil,List.Pairwise.nil⟩
theorem RH{mem tabqq:U}(b:1<=mem/\mem<=32/\2<=tabqq/\tabqq<=6):P7 [] mem tabqq 0 0 (λ_=>none) 2 1 0 [] [] [] [] bw []where
 rD:=by
  refine⟨λn a h=>?_,⟨[],by simp,λm a h=>?_⟩,λ_ n a m h=>?_,λ_=>rfl,.inr ⟨rfl,rfl,rfl,rfl,rfl,rfl,rfl,rfl⟩,λh=>(by cases h),λ_=>rfl,by simp,by simp,by simp,by omega,by simp⟩
  .simp[cX]at h
  .simp[cX]at h
  .simp[cX]at h
 pr:=D5
 lp:=⟨by simp,by simp,by simp,by simp,by omega,by simp⟩
 sI:=by simp[gT,cA]
 s1:=Fq
 s2:=Fq
 s3:=Fq
 nx:=by omega
 bn:=by simp
 tid:=⟨by simp;omega,by simp[Lv];omega⟩
 rl:=λq=>by
  have:seen (gT [] ([]:dX).flatten::(bV [] [] [] []).map (kq ((0+y ([]:dX):M):U))) q=none:=by
   rfl
  exact this
theorem PY{f:Cv}{c:U}(h:Sm f c)(b:f.bd=0)(d:f.room=1099511627776)(a:f.any=bw):False:=by
 rcases h with⟨_,q⟩|⟨_,q|q⟩;omega;rw[a]at q;cases q;omega
def UZ:LH:=⟨⟨#[107]⟩,⟨#[118]⟩,bw⟩
def XX:LH:=⟨⟨#[108]⟩,⟨#[119]⟩,bw⟩
theorem RT{W:Y}{sbqq:M}(c:LH)(t:TypeId)(g:sbqq<z (G W)):∀e,Z (λk=>k=sbqq) (dd W<|ay #[am c.key,am c.val,aM c.del] t) e->Hh e (bI (z<|G W) 0 1 1) [c]:=by
 intro e h;have b:=iE W<|ay #[am c.key,am c.val,aM c.del] t;have i:=ak b;have a:e.heap[z<|G W]?=_:=(h.block (z<|G W) i<|by omega).trans b;refine .inl ⟨⟨rfl,.inr ⟨z<|G W,0,1,rfl,ag _,λj u d=>?_⟩⟩,λk f=>by cases f;exact ak a⟩;rw[dM,ct a];simpa[gU,sA]using d
structure Liv(w W:Y)(db sb n:M)(l:jt)(Q:jt->Prop)(s:SR)(K:DK)(m:cU)(a b c d:cP)(tb:M)(ls:dX):Prop where
 EC:cW W sb s 0
 inv:Inv W sb s K m a b c d n tb n ls []
 tid:GY s a b c
 Ct:s.closed=bw/\s.aH=db/\s.mem=4/\s.kK=2
 low:(∀k,K.aL db k->z (G w)<=k)/\z (G w)<=sb
 aj:Z aw w W
 qt:K.fx.bd=0/\K.fx.room=1099511627776/\K.fx.any=bw
 g0:Steps w/\Pow w/\oF w
 cq:CQ K s a b c d tb ls (SQ Q)
 Z7:s.eG<=n/\s.pj=bw/\eV K.files<=400*n
 Cf:Cr ((m::bV a b c d).map<|kq s.aP) l
def Ii(w W:Y)(db sbqq n:M)(l:jt)(Q:jt->Prop):Prop:=∃s K m c d f g b a,Liv w W db sbqq n l Q s K m c d f g b a
section
variable{w W e:Y}{db sbqq n:M}{l:jt}{Q:jt->Prop}
theorem Ii.still(h:Ii w W db sbqq n l Q)(c:Z aw W e):Ii w e db sbqq n l Q:=by
 obtain⟨s,K,m,f,g,i,j,b,a,h⟩:=h;have d:fO W e s.aH sbqq K K:=pK h.inv.st.aH c;exact⟨s,K,m,f,g,i,j,b,a,{h with EC:=(c.block sbqq (ak h.EC) id).trans h.EC,inv:=h.inv.fa (ak h.EC) d rfl (ag _) rfl h.inv.loose,aj:=h.aj.cz c}⟩
theorem Ii.lt(h:Ii w W db sbqq n l Q):sbqq<z (G W):=by
 obtain⟨s,K,m,d,b,g,i,c,a,h⟩:=h;exact ak h.EC
theorem Jd(h:Ii w W db sbqq n l Q)(t:ab)(a:oR)(b:Bool)(T:y a=1)(j:fZ a=0)(hz:∀B∈a,B.key.size<=140737488351232/\B.val.size<=140737488351232)(hc:∀e,Z (λk=>k=sbqq) W e->Hh e t a)(hn:n<=2):cY bA 14 #[aD sbqq,t,aM b] W λC e=>C=aN .nilIface/\Ii w e db sbqq (n+1) (xZ l a) (λB=>(b=bw/\Q B)\/B=xZ l a):=by
 obtain⟨al,ac,av,an,ao,ap,au,A,v,h⟩:=h;have f:ly a=1:=by unfold ly;rw[di j];exact T
 obtain⟨c1,c2,c3,c4⟩:=h.Ct;subst c2;obtain⟨m1,m2,m3⟩:=h.Z7;have V:∀a,Z (λk=>ac.aL al.aH k\/k=sbqq) W a->oF a:=λa i=>h.g0.2.2.aj (h.aj.trans i<|λk q=>.inr<|q.elim (h.low.1 k) (λC=>by have:=h.low.2;omega)) id;have c:=(GX h.inv h.Cf a).1;have m:ng l a=xZ l a:=di j;rw[m]at c;apply(ET [] b h.EC h.inv h.tid h.cq c1 hc hz (by omega) (by omega) (by omega) V<|by grind).mono;rintro C e(⟨rfl,s',s,m',E,F,K,L,r,o,d,i⟩|⟨_,aa,s,rfl,hF,_⟩);obtain⟨N,O,P,S,g5,g6⟩:=d.same;have u:=d.inv;have hL:=i.2 m2 (by rw[f,c3];omega);rw[f]at u hL;have g:=d.fa;refine⟨by rw[j];rfl,s',s,m',E,F,K,L,r,o,d.box,u,d.tid,⟨O.trans c1,N,P.trans c3,S.trans c4⟩,⟨λk q=>(g.aL k q).elim (h.low.1 k)<|λad=>aB h.aj.size ad,h.low.2⟩,h.aj.trans g.aj<|λk q=>.inr<|q.elim (h.low.1 k) (λC=>by have:=h.low.2;omega),⟨g.fx.bd h.qt.1,g.fx.room.trans h.qt.2.1,g.fx.any.trans h.qt.2.2⟩,h.g0,i.1.mono<|λD q=>?_,(by grind),⟨c.1,λk aa=>?_⟩⟩;rcases q with⟨x,l',p,q3⟩|⟨x,p⟩;exact⟨l',p,.inl ⟨x j,q3⟩⟩;exact⟨xZ l a,by rw[p];exact c,.inr rfl⟩;rw[c.2 k aa,<-d.rl _ (.inr rfl) k,d.DA];rfl;obtain⟨_,_,_,_,_,_,_,_,_,_,g⟩:=hF.ex;exact(PY g h.qt.1 h.qt.2.1 h.qt.2.2).elim
theorem Ii.cd(h:Ii w W db sbqq n l Q)(d:n<=100):Cs w W db 4 2 (λ_=>False) n n True Q:=by
 obtain⟨s,K,m,f,g,i,j,c,b,h⟩:=h;obtain⟨c1,c2,c3,c4⟩:=h.Ct;subst c2;have a:=h.inv.cp h.tid h.cq;rw[c3,c4]at a;exact⟨K.lU {K.fx with any:=cf},⟨h.inv.st.aH.lU ⟨rfl,rfl,rfl,rfl,rfl⟩,h.aj,h.low.1,λk q=>q.elim,h.g0,⟨rfl,h.qt.2.1⟩,λ_=>h.qt.1⟩,by omega,by omega,a.pC ⟨rfl,rfl,rfl⟩⟩
end
def Hi.one(W:Y)(k:M):Hi:=⟨W,λx=>x=k⟩
def Hi.no(W:Y):Hi:=⟨W,λ_=>False⟩
def py(i:ci EQ):M:=(i.map<|λo=>ly o.cs).sum
theorem QZ(i:ci EQ)(j:M)(k:j<y i):py (i.take<|j+1)=py (i.take j)+ly i[j].cs:=by
 unfold py;rw[ah k,aE,ga];simp
theorem XN(i:ci EQ)(k:M):py (i.take k)<=py i:=by
 unfold py;grind[take_append_drop]
theorem QI(n:U)(i:n=0\/n=8\/n=9)(w:Y):cY bA 26 #[aq n] w λk j=>k=aN (aM<|!(n==0))/\j=w:=by
 rcases i with rfl|rfl|rfl;(·(go_in);go_wp2;go_ret;simp_all);(·(go_in);go_wp2;go_ret;simp_all);(go_in);go_wp2;go_ret;simp_all
section
variable{Xqq:Hi}{w0 w1 W f:Y}{xb db sbqq c b:M}{mem tabqq:U}{bv d sv:ab}{e:ix}{B:ci oR}{l g:jt}{safe:U}{h:Bool}{C C' N N':M}{a:Prop}{n:U}
theorem Ac.add(i:Ac (.no w1) w0 W xb mem tabqq C N a)(j:Z aw W f)(s:z (G W)<=b)(o:b<z (G f)):Ac (.one f b) w0 f xb mem tabqq C N a:=by
 obtain⟨db,sbqq,c,bv,d,e,B,l,safe,i⟩:=i;have m:=i.still j;refine⟨db,sbqq,c,bv,d,e,B,l,safe,{m.xh with ext:=λp q=>?_},i.cw.iV j cJ<|λp q=>?_⟩;have k:p=b:=q;subst k;refine⟨⟨_,uD o⟩,rfl,λr=>?_,λr=>?_⟩;have:=ak i.xh.box;omega;have:=i.xh.lu.lt r;omega;rcases q with q|q|q;exact .inl<|.inl q;exact .inl<|.inr<|.inl q;have k:p=b:=q;grind
theorem Ac.quiet{i:Prop}(j:Ac Xqq w0 W xb mem tabqq C N a)(k:i->a):Ac Xqq w0 W xb mem tabqq C N i:=by
 obtain⟨db,sbqq,c,bv,d,e,B,l,safe,j⟩:=j;exact⟨db,sbqq,c,bv,d,e,B,l,safe,j.xh,j.cw.quiet k⟩
structure H8(w1 w0 W:Y)(b:M):Prop where
 jM:W.heap[b]?=w1.heap[b]?
 aj:Z aw w0 W
theorem Ac.kept(i:Ac (.one w1 b) w0 W xb mem tabqq C N a):H8 w1 w0 W b:=by
 obtain⟨db,sbqq,c,bv,d,e,B,l,safe,i⟩:=i;exact⟨(i.xh.ext b rfl).2.1,i.cw.aj⟩
theorem G8.kept(i:G8 (.one w1 b) w0 W xb mem tabqq C N):H8 w1 w0 W b:=by
 obtain⟨db,c,sv,bv,d,e,B,l,safe,h,a,i⟩:=i;exact⟨(i.xh.ext b rfl).2.1,i.cd.jV.2⟩
theorem Vt.ne(s:Vt W sbqq)(o:V7 W db):sbqq≠db:=λq=>by
 obtain⟨p,r,i⟩:=s;obtain⟨j,k,m⟩:=o;rw[q,m]at i;cases i
theorem YE{Q:jt->Prop}(k:XD Xqq w0 W xb db c sv mem tabqq bv d e B l safe h C N a Q)(x v:U)(u:x<=9223372036854775807)(t:v<=9223372036854775807):cY bA 7 #[aD db,aq x,aq v] W λj f=>j=aN (dA #[])/\XD Xqq w0 f xb db c sv mem tabqq bv d e B l safe h C N False Q:=by
 apply(ZJ k.cd x v u t).mono;rintro j f⟨rfl,s,p,r⟩;refine⟨rfl,k.xh.pa p (λ_ q=>.inl q)<|ag _,r,k.j5.imp id<|λ⟨sbqq,j,q⟩=>⟨sbqq,j,?_⟩⟩;have i:=q.ne k.cd.gG;obtain⟨m,o,q⟩:=q;exact⟨m,o,(s.block sbqq (ak q) i).trans q⟩
theorem LJ{Q:jt->Prop}(r:XD Xqq w0 W xb db c sv mem tabqq bv d e B l safe h C N a Q)(j i:M)(k:j<18446744073709551616)(m:i<18446744073709551616):cY bA 9 #[aD db,aG j,aG i] W λo f=>o=aN (dA #[])/\∃g,Q g/\XE Xqq w0 f xb db c sv mem tabqq bv d e B l g safe h C N True:=by
 apply(Ow r.cd j i k m).mono;rintro o f⟨rfl,p,g,t,s⟩;refine⟨rfl,g,t,r.xh.pa p (λ_ q=>.inl q)<|ag _,s,r.j5.imp id<|λ⟨sbqq,o,i,j,q⟩=>⟨sbqq,o,i,j,(p.block sbqq (ak q)<|λk=>k.2<|.inr o).trans q⟩⟩
theorem XE.no(i:XE Xqq w0 W xb db c sv mem tabqq bv d e B l g safe h C N a):XE (.no w1) w0 W xb db c sv mem tabqq bv d e B l g safe h C N a:=⟨{i.xh with ext:=λk q=>q.elim},i.ce.iV (Z.refl aw W) cJ<|λk q=>.inl<|q.imp (λq=>q.imp id<|λq=>q.imp id<|λq=>q.elim) id,i.j5⟩
end
def VR(m:ab)(j:U)(k i:M)(zS:U):Array ab:=#[m,aq j,aG k,aG i,aM cf,aq zS]
section
variable{Xqq:Hi}{w0 w1 W g:Y}{xb db sbqq c a:M}{mem tabqq:U}{bv e sv:ab}{f:ix}{B:ci oR}{l d:jt}{safe:U}{h:Bool}{C N:M}{b:Prop}
theorem Ta(ce:Ac (.no w1) w0 W xb mem tabqq C N True)(ds:Option Addr)(i:ci EQ)(dc:M)(k zS:U)(u j:M)(ax:u<18446744073709551616)(br:j<18446744073709551616)(s:i=[]\/∃bc m,ds=H (R bc m)/\zd w0 (bI bc m (y i) dc) i)(ha:k<=9223372036854775807)(bL:zS<=9223372036854775807)(cc:y i+ER i<=1048576)(hC:C+py i<=1000000)(hN:N+y i+1<=100000000):cY bA 12 #[aD xb,dL<|VR (I ds (y i) dc) k u j zS,aM bw] W λbd g=>bd=aN (aq 0)/\Ac (.no w1) w0 g xb mem tabqq (C+py i) (N+y i+1) True:=by
 obtain⟨w,E⟩:∃w,dd W (ay (VR (I ds (y i) dc) k u j zS) 48)=w:=⟨_,rfl⟩;have aV:Z aw W w:=by rw[<-E];exact cO aw W
 have r:w.heap[z<|G W]?=H (ay (VR (I ds (y i) dc) k u j zS) 48 (0,0)):=by rw[<-E];exact aK _ rfl
 obtain⟨a,S⟩:∃a,z (G W)=a:=⟨_,rfl⟩;have an:=ce.add aV (AZ S) (by rw[<-S];exact ak r);rw[S]at r;have r0:=cellAt r 0 rfl;have r1:=cellAt r 1 rfl;have r4:=cellAt r 4 rfl;have r5:=cellAt r 5 rfl;obtain⟨ac,bg,A,bf⟩:=gw an E r s;clear ce E aV an r s;unfold VR at*;go_in
 go_upto_if 15 with fail
 rw[J bg];go_cut [] (λwx=>Ac (.one w a) w0 wx xb mem tabqq C N False)
 (case first=>by_cases h0:0<=k;(.obtain⟨db,sbqq,c,bv,e,f,B,l,safe,o⟩:=J ac;have c0:=cellAt o.xh.box 0 rfl;have O:=λt(i:t<=9223372036854775807)=>Zz (o.still<|dh aw w).cw k t ha i;have HX:=X o;have L:aW w.drew (R xb 0)=H (aD db)/\aW w.drew (R a 1)=H (aq k):=⟨c0,r1⟩;by_cases h1:zS<=0;(all_goals(go_wp2_with fail);refine je (λXqq=>aW Xqq (R xb 0)=H (aD db)/\aW Xqq (R a 1)=H (aq k)) 7 (by kernel_rfl) ?_;refine ki 0 ?_;(iterate 7 (refine uc (v:=?_) L rfl (by kernel_rfl) lQ rfl ?_ ?_;rotate_left;(focus(rintro Xqq⟨z0,z1⟩;go_simp;try rfl));simp only[Act.put,ig,rA,Nat.reduceAdd]));apply oe;refine fD (i:=7) rfl rfl (by kernel_rfl) ?_;intro K7 K;go_simp;refine(O _<|by omega).mono ?_;rintro bd W2⟨rfl,bq,bk⟩;have n:=(HX.still<|dh aw w).pa bq bk<|ag _;refine K _ _ (λq=>by omega) ?_;refine jo (by kernel_rfl) ?_ _;have D:=X n;go_wp2;(go_meet);case rel=>exact Ac.quiet ⟨_,_,_,_,_,_,_,_,_,D⟩<|λq=>q.elim));(.go_wp2;(go_meet);case rel=>exact(J ac).quiet<|λq=>q.elim))
 case rest=>
  have HC:=X hcut;go_upto_block 0 with fail
  go_cut [] (λwx=>G8 (.one w a) w0 wx xb mem tabqq (C+py i)<|N+y i)
  case first=>
   go_wp2_with fail
   go_loopg [8] (y i) (λbc cd wr=>∃t:M,t<=y i/\bc=y i-t/\cd=aq t/\Ac (.one w a) w0 wr xb mem tabqq (C+py (i.take t)) (N+t) False)
   case atStart=>exact⟨0,bK _,by omega,by go_num,by simpa[py]using J HC⟩
   case round=>
    obtain⟨t,hn,rfl,rfl,o⟩:=hrel;have x:=o.kept;have r0:=cellAt (x.jM.trans A) 0 rfl;by_cases p:t<y i
    .rcases J bf with q|⟨bc,m,bm,s⟩
     .subst q;simp at p
     .subst bm;have e1:(t:U)<(y i:U):=by omega
      have e0:(0:U)<=(t:U):=by omega
      have F:=ar p;have bs:=s.S6 _ F;have ap:=s.Ot _ F;have bE:=QZ i t p;have bx:=XN i<|t+1;have ca:=LK i t p;have bT:=Vu i<|t+1;have bu:=E7 i[t].cs;have cb:Q2 i[t]=LM i[t].cs:=rfl;have aU:bc<z (G w0):=s.lt bc rfl;have Q:y i<=dc:=by
       obtain⟨q1,⟨T,q0⟩|⟨g',bb,ad,T,Q,hc⟩⟩:=s.row
       .cases T
       .cases T;exact Q
      obtain⟨lx,d,hL⟩:=zu ap;have au:=λXqq(o:H8 w w0 Xqq a)=>(show aW Xqq (R bc<|m+t*2)=H (aq i[t].kd)/\aW Xqq (R bc<|m+t*2+1)=H (I lx (y i[t].cs) d)/\aW Xqq (R a 0)=H (I (H<|R bc m) (y i) dc)from by
       obtain⟨q1,⟨T,q0⟩|⟨g',bb,ad,T,Q,hc⟩⟩:=s.row
       .cases T
       .cases T;exact⟨o.aj.cell (hc _ _ ((tf i t p 0 (by omega)).trans rfl)) id aU,by rw[bD,<-hL];exact o.aj.cell (hc _ _ ((tf i t p 1 (by omega)).trans rfl)) id aU,cellAt (o.jM.trans A) 0 rfl⟩)
      have av:=XB o i[t].kd lx i[t].cs d (by rw[<-hL];exact ap) bs (by omega) (by omega) (by omega);have aF:C+py (i.take t)+ly i[t].cs=C+py (i.take<|t+1):=by omega
      rw[aF]at av;have ao:C+py (i.take<|t+1)<=C+py i:=by omega
      obtain⟨c0,c1,_⟩:=au wr x;generalize i[t].kd=kd at*;generalize y i[t].cs=cl at*;have Ez:=X au;have aa:=X ao;go_wp2_with fail
      apply av.mono;rintro bd W2⟨bt,rfl,hP⟩;have hm:bt=0\/bt=8\/bt=9:=by rcases hP with⟨q,_⟩|⟨q,_⟩|⟨q,_⟩<;>omega
      have P:=QI bt hm W2;rcases hP with⟨rfl,n⟩|⟨rfl,hk,n⟩|⟨al,hk,n⟩
      .have D:=X n;go_wp2_with fail
       apply P.mono;rintro bd V⟨rfl,ba⟩;subst V;go_wp2;go_roundg(y i-(t+1));case measure=>omega
       case rel=>exact⟨t+1,p,rfl,by go_num,D⟩
      .obtain⟨c0,c1,r0⟩:=Ez W2 n.kept;have bn:(kd==4)=cf\/(kd==4)=bw/\(kd==5)=cf:=by rcases hk with rfl|rfl<;>simp
       have D:=X n;rcases bn with k4|⟨k4,k5⟩;all_goals
        go_wp2_with fail
        apply P.mono;rintro bd V⟨rfl,ba⟩;subst V;go_wp2;go_roundg(y i-(t+1));case measure=>omega
        case rel=>exact⟨t+1,p,rfl,by go_num,D⟩
      .have k4:(kd==4)=bw:=by simp;omega
       have k5:(kd==5)=bw:=by simp;omega
       have m0:(bt==0)=bw:=by rcases al with rfl|rfl<;>rfl
       have m1:(bt !=0)=cf:=by rcases al with rfl|rfl<;>rfl
       have m2:¬bt=0:=by omega
       obtain⟨c0,c1,r0⟩:=Ez W2 n.kept;obtain⟨db,c,sv,bv,e,f,B,l,safe,h,b,n⟩:=n.mono (C':=C+py i) (N':=N+y i) aa hC (by omega) (by omega);have d0:=cellAt n.xh.box 0 rfl;have O:=YE n 0 0 (by omega) (by omega);go_wp2_with fail
       apply P.mono;rintro bd V⟨rfl,ba⟩;subst V;go_wp2_with fail
       apply O.mono;rintro bd V⟨rfl,bi⟩;have bh:=X bi;go_wp2;go_meet
       case rel=>exact⟨_,_,_,_,_,_,_,_,_,_,_,bh⟩
    .have bo:t=y i:=by omega
     subst bo;rw[aY]at o;obtain⟨db,sbqq,c,bv,e,f,B,l,safe,o⟩:=o;have HX:=X o;have e1:¬(y i:U)<(y i:U):=by omega
     go_wp2;go_meet
     case rel=>exact⟨_,_,_,_,_,_,_,_,_,_,_,HX.xd⟩
  case rest=>
   obtain⟨db,c,sv,bv,e,f,B,l,safe,h,b,o⟩:=hcut;have x:wc.heap[a]?=w.heap[a]?:=(o.xh.ext a rfl).2.1;have r4:=cellAt (x.trans A) 4 rfl;have r2:=cellAt (x.trans A) 2 rfl;have r3:=cellAt (x.trans A) 3 rfl;have d0:=cellAt o.xh.box 0 rfl;have bl:=LJ (o.still<|dh aw wc) u j ax br;have L:aW wc.drew (R xb 0)=H (aD db)/\aW wc.drew (R a 2)=H (aG u)/\aW wc.drew (R a 3)=H (aG j):=⟨d0,r2,r3⟩;go_wp2_with fail
   refine je (λXqq=>aW Xqq (R xb 0)=H (aD db)/\aW Xqq (R a 2)=H (aG u)/\aW Xqq (R a 3)=H (aG j)) 8 (by kernel_rfl) ?_;refine ki 0 ?_;iterate 8 (refine uc (v:=?_) L rfl (by kernel_rfl) lQ rfl ?_ ?_;rotate_left;(focus(rintro Xqq⟨z0,z1,z2⟩;go_simp;try rfl));simp only[Act.put,ig,rA,Nat.reduceAdd])
   apply oe;refine fD (i:=8) rfl rfl (by kernel_rfl) ?_;intro K7 K;go_simp;apply bl.mono;rintro bd W2⟨rfl,d,hq,hE⟩;have bp:=FG (hE.no (w1:=w1)) hq (by omega);refine K _ _ (λq=>by omega) ?_;refine jo (by kernel_rfl) ?_ _;go_wp2_with fail
   apply bp.mono;rintro bd W5⟨rfl,hP⟩;have HP:=X hP;go_wp2;go_ret;exact⟨rfl,HP⟩
end
