import Derived.Test.YtojeeoclojldpaaGreatDoorC28
import Derived.Test.YtojeeoclojldpaaGreatDoorC29
open _root_ renaming List.length→y,Option.some→H,Array.size→z,Go.World.heap→G,Go.Value.ownBlock→bV,Go.World.cell?→aT,Go.World.setCell→bZ,Go.World.alloc→ct,Bool.false→bF,Bool.true→bW,Nat→M,Int→Z,List→cr,Go.Calls→cy,Go.Proofs.Tryz.prog→bG,Go.Value.slice→J,Go.Value.string→ai,Go.Value.bool→aL,Go.Value.tuple→dB,Go.Value.agg→eC
namespace Go.Proofs.YtojeeoclojldpaaGreatDoor
open ChangeShapes WideShapes RowKit Proofs.Tryz
set_option maxHeartbeats 16000000
set_option linter.all false
set_option maxRecDepth 100000
variable{a f:I}{b c g l B P:M}{d s:aa}{e:cA}{i p t u:cP}{j O:DK}{k:dW}{m:Z}{n:SR}{X:fJ}{x:iU}{D:Bool}{S:bJ}{V:Array aa}
def bJ.pX(t:bJ):bJ:={t with tb:=0}
def kY(b a:cP):Prop:=a.map bJ.pX=b.map bJ.pX
def kY.length(h:kY i p):y p=y i:=by
 have:=bU y h;simpa using this
def kY.nil(h:kY [] i):i=[]:=oQ.1 h.length
def kY.append(h:kY i p)(k:kY t u):kY (i++t) (p++u):=by
 unfold kY at*;rw[aM,aM,h,k]
def kY.map{α:Type}(h:kY i p)(f:bJ->α)(a:∀t,f t.pX=f t):p.map f=i.map f:=by
 have e:∀l:cP,l.map f=(l.map bJ.pX).map f:=λl=>by rw[iQ];exact nT<|λt _=>(a t).symm
 rw[e p,e i];exact bU _ h
def kY.mem(h:kY i p){t:bJ}(a:t∈p):∃u∈i,u.pX=t.pX:=by
 have:t.pX∈p.map bJ.pX:=gY a;rw[h]at this;obtain⟨u,b,e⟩:=aZ.1 this;exact⟨u,b,e⟩
def kY.symm(h:kY i p):kY p i:=Eq.symm h
def xg{u:bJ}(h:u.pX=S.pX):u.num=S.num:=(bU bJ.num h:u.pX.num=S.pX.num)
def zS{u:bJ}(h:u.pX=S.pX):u.cs=S.cs:=(bU bJ.cs h:u.pX.cs=S.pX.cs)
def Pd{u:bJ}(h:u.pX=S.pX):u.ks=S.ks:=(bU bJ.ks h:u.pX.ks=S.pX.ks)
def kY.all(h:kY i p):p.map bJ.all=i.map bJ.all:=h.map _<|λ_=>rfl
def kY.cg(h:kY i p):cg p=cg i:=by unfold Go.Proofs.YtojeeoclojldpaaGreatDoor.cg;rw[h.all]
def kY.cF{g a h b:cP}(c:kY i p)(d:kY t u)(e:kY g a)(f:kY h b):cF p u a b=cF i t g h:=by
 unfold Go.Proofs.YtojeeoclojldpaaGreatDoor.cF;rw[c.all,d.cg,e.cg,f.cg]
def kY.oC(h:kY i p):oC p=oC i:=by
 unfold Go.Proofs.YtojeeoclojldpaaGreatDoor.oC;have:p.map uw=i.map uw:=h.map _<|λ_=>rfl;rw[h.length,List.flatMap_def,List.flatMap_def,this]
def kY.side(h:kY i p)(a:ly i):ly p:=by
 refine⟨λt b=>?_,?_,?_⟩;obtain⟨u,c,e⟩:=h.mem b;rw[<-Pd e,<-zS e];exact a.pure u c;rw[h.cg];exact a.mq;rw[h.all];exact a.CS
def kY.WK(k:kY i p)(g:∀t∈i,Fj t):∀t∈p,Fj t:=λt h=>by
 obtain⟨u,j,f⟩:=k.mem h;obtain⟨a,b,c,d,e⟩:=g u j;rw[Pd f,zS f]at a b;rw[zS f]at c d;rw[xg f]at e;exact⟨a,b,c,d,e⟩
def SF.YE{w:Fs}{f j l m:cP}(h:SF w b c g i p t u D k)(n:kY i f)(o:kY p j)(r:kY t l)(s:kY u m):SF w b c g f j l m D k:=by
 have a:kY (i++p++t++u) (f++j++l++m):=((n.append o).append r).append s;refine⟨λO A K=>?_,?_,h.log,h.GJ,λN d=>?_,?_,λN d=>?_,h.lt,a.WK h.jc⟩;rcases h.names O A K with q|q|⟨N,d,q⟩;exact .inl q;exact .inr<|.inl q;obtain⟨x,e,v⟩:=a.symm.mem d;exact .inr<|.inr ⟨x,e,by rw[xg v];exact q⟩;rcases h.state with q|⟨q,B,C,E,F,L⟩;refine .inl<|q.trans ?_;unfold iF;simp only[aY,eW,n.oC,o.oC,r.oC,s.oC];subst B C E F;exact .inr ⟨q,n.nil,o.nil,r.nil,s.nil,L⟩;obtain⟨x,e,v⟩:=a.mem d;rw[<-xg v,<-zS v];exact h.zc x e;rw[a.map bJ.num<|λ_=>rfl];exact h.zn;obtain⟨x,e,v⟩:=a.mem d;rw[<-xg v];exact h.low x e
structure wN(w:I)(db:M)(K:DK)(a b c d:cP)(C tb N nx lg:M)(gB:Bool)(ls:dW):Prop where
 aN:cK w db K
 qX:SF (vw K.files) nx lg tb a b c d gB ls
 pr:PR tb (cF a b c d)
 lp:Fp ((tb:Z)+1) ls
 qI:y (gJ [] ls.flatten)+y (cg a)+y (cg b)+y (cg c)+y (cg d)<=C
 mJ:C<=1000000
 s1:ly b
 s2:ly c
 s3:ly d
 TX:gB=bW->ls≠[]
 nx:nx<=2+1000001*N
 bn:tb+y ls<=N
 eM:y K.eM<=1000001+2*N
 JW:N<=100000000
 steps:Steps w
 pow:Pow w
 fC:¬K.bj db 1
 me:¬K.bj db 2
def zN{ts:cP}(h:∀t∈ts,Fj t):y ts<=y (cg ts):=lK<|λt a=>(h t a).pure
def wN.count(h:wN a b j i p t u c g l B P D k):y (i++p++t++u)<=1000000:=by
 have e:=h.qX.jc;have m:=zN (ts:=i) (λf d=>e f<|by simp[d]);have n:=zN (ts:=p) (λf d=>e f<|by simp[d]);have o:=zN (ts:=t) (λf d=>e f<|by simp[d]);have q:=zN (ts:=u) (λf d=>e f<|by simp[d]);have:=h.qI;have:=h.mJ;simp only[af];omega
def CG(w:I)(d c:M)(e:iU)(t:bJ):Prop:=∃b a,lR w t.tb (aA d) t.num (y<|dG t.cs) (y<|fa<|bO 0 t.cs) (mr<|fa<|bO 0 t.cs) b 0 a aK t.ks/\c<t.tb/\t.tb<z (G w)/\c<b/\b<z (G w)/\∀(j:M)(v:aa),e[j]?=H v->bV v≠H t.tb/\bV v≠H b
structure CI(w0 wr:I)(db:M)(K K1:DK)(gb lb:M)(mv vs:iU)(Ts:cr cP):Prop where
 Rk:wr.heap[gb]?=H (ar mv.toArray 185 (0,0))
 box:wr.heap[lb]?=H (ar vs.toArray 107 (0,0))
 za:y vs=4
 Dm:y Ts=4
 rows:∀(j:M)(v:aa)(T:cP),vs[j]?=H v->Ts[j]?=H T->wr.ownsRow (lb+1) 224 1 v (y T) (T.map bJ.ptr)
 ne:∀(j j':M)(v v':aa)(q:M),j≠j'->vs[j]?=H v->vs[j']?=H v'->bV v=H q->bV v'≠H q
 aN:cK wr db K1
 same:K1.files=K.files/\K1.eM=K.eM/\∀k,K1.bj db k->K.bj db k
 zc:∀t∈Ts.flatten,CG wr db lb vs t
 GK:(Ts.flatten.map bJ.tb).Nodup
 aw:Y (K.bj db) w0 wr
 low:∀k,K.bj db k->k<z (G w0)
 ord:z (G w0)<=gb/\gb<lb/\lb<z (G wr)
def Av{t:bJ}:∀{a:cr cP}{b:M},a[b]?=H i->List.Perm (a.set b<|i++[t]).flatten (t::a.flatten)
 |[],b,h=>by simp at h
 |Uqq::a,0,h=>by
  simp at h;subst h;rw[gy,aX,aX,aU];exact kV
 |Uqq::a,b+1,h=>by
  rw[oR]at h;rw[fU,aX,aX];exact((lz Uqq<|Av h).trans kV)
def CI.row{o wr:I}{k:DK}{f:iU}{a:cr cP}(m:CI o wr b O k c g x f a){j:M}(e:f[j]?=H d):∃T,a[j]?=H T/\wr.ownsRow (g+1) 224 1 d (y T) (T.map bJ.ptr):=by
 have n:j<4:=by rw[<-m.za];rcases dF j (y f)with l|l;exact l;rw[dl l]at e;cases e
 have h:a[j]?=H (a[j]'(by rw[m.Dm];exact n)):=aG _;exact⟨_,h,m.rows j d _ e h⟩
def CI.own{n wr:I}{a:iU}{e:cr cP}(o:CI n wr b j O c g x a e)(m:a[l]?=H d){q:M}(h:bV d=H q):g<q/\q<z (G wr):=by
 obtain⟨D,_,k⟩:=o.row m;have:=aI k q h;omega
def CI.cell{e wr:I}{a:iU}{d:cr cP}(k:CI e wr b j O c g x a d)(h:M):aT wr (R g h)=a[h]?:=by
 rw[bN k.box];simp
def CI.XV{e wr:I}{d:iU}{a:cr cP}(h:CI e wr b j O c g x d a)(f:M):aT wr (R c f)=x[f]?:=by
 rw[bN h.Rk];simp
def CG.aw{S:fJ}{w w':I}{t:bJ}(k:CG w b c x t)(d:Y S w w')(h:∀p,S p->p<=c):CG w' b c x t:=by
 obtain⟨j,a,o,l,e,m,g,n⟩:=k;refine⟨j,a,o.de (d.block _ e (λk=>by have:=h _ k;omega))<|d.block _ g (λk=>by have:=h _ k;omega),l,ag e d.size,m,ag g d.size,n⟩
def CI.move{s wr n:I}{i:DK}{r:iU}{o:cr cP}(h:CI s wr b j O c g x r o)(f:Y X wr n)(p:∀k,X k->j.bj b k\/c<k/\k<g)(t:cK n b i)(m:i.files=O.files/\i.eM=O.eM/\∀k,i.bj b k->O.bj b k):CI s n b j i c g x r o:=by
 have l:=h.low;have a:=h.ord;have d:∀k,X k->k<c\/c<k/\k<g:=λk a=>(p k a).imp (λe=>by have:=l k e;omega) id;refine⟨?_,?_,h.za,h.Dm,?_,h.ne,t,⟨m.1.trans h.same.1,m.2.1.trans h.same.2.1,λk e=>h.same.2.2 k<|m.2.2 k e⟩,?_,h.GK,?_,l,?_⟩;exact(f.block c (ak h.Rk) (λe=>by have:=d _ e;omega)).trans h.Rk;exact(f.block g (ak h.box) (λe=>by have:=d _ e;omega)).trans h.box;exactλk v T a c=>f.own (h.rows k v T a c) (λq g e=>by have:=h.own a g;have:=d _ e;omega);exactλt a=>(h.zc t a).aw f (λk e=>by have:=d _ e;omega);exact h.aw.trans f (λk e=>(p k e).imp id<|λe=>by omega);exact⟨a.1,a.2.1,ag a.2.2 f.size⟩
def CI.still{f wr h:I}{e:iU}{a:cr cP}(i:CI f wr b j O c g x e a)(d:Y aB wr h):CI f h b j O c g x e a:=i.move d cG (i.aN.aw d<|λ_ _=>id) ⟨rfl,rfl,λ_ k=>k⟩
def CI.put{w0 wr B:I}{F:iU}{Ts:cr cP}{T:cP}(n:CI w0 wr b j O c g x F Ts)(w:F[l]?=H d)(hT:Ts[l]?=H T)(hw:eP wr B d s)(ho:B.ownsRow (g+1) 224 1 s (y<|T++[S]) ((T++[S]).map bJ.ptr))(W:CG wr b g F S)(V:S.tb∉Ts.flatten.map bJ.tb):CI w0 (bZ B (R g l) s) b j O c g x (F.set l s) (Ts.set l<|T++[S]):=by
 have v:Y (λP=>bV d=H P) wr B:=Y.fy hw;have D:=λq=>n.own (q:=q) w;have r:=n.ord;have K:=n.low;have Q:B.heap[g]?=H (ar F.toArray 107 (0,0)):=(v.block g (ak n.box) (λm=>by have:=D _ m;omega)).trans n.box;have i:Y (λP=>P=g) B (bZ B (R g l) s):=(Y.refl (λP=>P=g) B).setCell _ _ _<|.inl rfl;have L:∀q,bV s=H q->g<q/\q<z (G B):=λq e=>by have:=aI ho q e;omega
 have o:∀q,q<z (G wr)->(∀(N:M)(A:aa),F[N]?=H A->bV A≠H q)->bV s≠H q:=λq e h m=>by rcases hw.uc with E|⟨X,E,hy⟩;exact h l d w<|E.symm.trans m;rw[E]at m;cases m;omega
 have u:∀A,CG wr b g F A->CG (bZ B (R g l) s) b g (F.set l s) A:=by rintro A⟨bb,h,hm,h1,h2,h3,h4,k⟩;have ac:lR B A.tb (aA b) A.num (y<|dG A.cs) (y<|fa<|bO 0 A.cs) (mr<|fa<|bO 0 A.cs) bb 0 h aK A.ks:=hm.de (v.block _ h2<|λm=>(k l d w).1 m)<|v.block _ h4<|λm=>(k l d w).2 m;have g2:=ag h2 v.size;have g4:=ag h4 v.size;refine⟨bb,h,ac.de (i.block _ g2<|by omega) (i.block _ g4<|by omega),h1,by rw[gz];exact g2,h3,by rw[gz];exact g4,?_⟩;intro N ad C;by_cases m:l=N;subst m;rw[gH,w]at C;cases C;exact⟨o _ h2<|λN A a=>(k N A a).1,o _ h4<|λN A a=>(k N A a).2⟩;rw[fF m]at C;exact k N ad C
 have t:=Av (t:=S) hT;refine⟨?_,?_,by rw[eK];exact n.za,by rw[eK];exact n.Dm,?_,?_,?_,n.same,?_,?_,?_,K,?_⟩;exact(i.block c (ag (ak n.Rk) v.size)<|by omega).trans<|(v.block c (ak n.Rk) (λm=>by have:=D _ m;omega)).trans n.Rk;rw[aR Q];simp;intro N A C a h;by_cases m:l=N;subst m;rw[gH]at a h;rw[w]at a;rw[hT]at h;cases a;cases h;exact i.own ho (λq e m=>by have:=L q e;omega);rw[fF m]at a h;have k:=v.own (n.rows N A C a h)<|λq e E=>n.ne N l A d q (Ne.symm m) a w e E;exact i.own k (λq e m=>by have:=n.own a e;omega);intro N i' A u' q C a k e;by_cases m:l=N;subst m;rw[fF C]at k;rw[gH,w]at a;cases a;intro h;change bV s=H q at e;rcases hw.uc with E|⟨X,E,hy⟩;exact n.ne _ _ _ _ q C w k (E.symm.trans e) h;rw[E]at e;cases e;have:=n.own k h;omega;rw[fF m]at a;by_cases e':l=i';subst e';rw[gH,w]at k;cases k;intro h;change bV s=H q at h;rcases hw.uc with E|⟨X,E,hy⟩;exact n.ne _ _ _ _ q C a w e<|E.symm.trans h;rw[E]at h;cases h;have:=n.own a e;omega;rw[fF e']at k;exact n.ne _ _ _ _ q C a k e;exact(n.aN.aw v (λP E m=>by have:=D _ m;have:=K P<|n.same.2.2 P E;omega)).aw i (λP E m=>by have:=K P<|n.same.2.2 P E;omega);intro A a;rcases az.1 (t.mem_iff.1 a)with rfl|a;exact u _ W;exact u A<|n.zc A a;rw[(t.map bJ.tb).nodup_iff,aY,kI];exact⟨V,n.GK⟩;exact(n.aw.trans v<|λP m=>.inr (by have:=D _ m;omega)).trans i<|λP m=>.inr (by have:P=g:=m;omega);exact⟨r.1,r.2.1,by rw[gz];exact ag r.2.2 v.size⟩
def Steps.aw{S:fJ}{w w':I}(h:Steps w)(c:Y S w w')(a:¬S 1):Steps w':=λk b=>c.cell (h k b) a h.lt
def oX(a:cr cP):cr cP:=a.map<|List.map bJ.pX
def oW{a:cr cP}(h:a[b]?=H i):(oX a)[b]?=H (i.map bJ.pX):=by simp[oX,h]
def CI.YF{q wr:I}{k:iU}{e:cr cP}(m:CI q wr b j O c g x k e)(h:k[l]?=H d)(f:e[l]?=H i)(n:y i<=1000000000):kZ wr d i where
 row:=dH<|m.rows l d i h f
 lt:=λd a=>(m.own h a).2
 each:=λt p=>by
  obtain⟨r,a,o,_⟩:=m.zc t<|bz.2 ⟨i,gp f,p⟩;exact⟨_,_,_,_,_,_,_,_,_,o⟩
 small:=n
def Ed{db:M}{K:DK}(u:cr cP)(x0 x1 x2 x3:Option Addr)(n0 c0 n1 c1 n2 c2 n3 c3:M)(bT:cK a db K)(s:Steps a)(bm:Pow a)(ed:¬K.bj db 1)(ec:¬K.bj db 2)(h4:y u=4)(an:∀(S:M)(av:aa)(o:cP),[J x0 n0 c0,J x1 n1 c1,J x2 n2 c2,J x3 n3 c3][S]?=H av->u[S]?=H o->Row a 4 av (y o) (dh o))(cb:∀(S:M)(av:aa),[J x0 n0 c0,J x1 n1 c1,J x2 n2 c2,J x3 n3 c3][S]?=H av->∀k,bV av=H k->k<z (G a)/\¬K.bj db k)(l:∀ej∈u.flatten,Fj ej)(hf:∀ej∈u.flatten,dX (vw K.files) (gI ej.num)=H (mu ej.cs))(ao:∀(S:M)(o:cP),0<S->u[S]?=H o->ly o)(ee:y u.flatten<=1000000):cy bG 94 #[aA db,eC #[J x0 n0 c0,J x1 n1 c1,J x2 n2 c2,J x3 n3 c3]] a λcl w'=>
 ∃y0 m0 b y1 m1 c y2 m2 d y3 m3 e,cl=aO (dB #[eC #[J y0 m0 b,J y1 m1 c,J y2 m2 d,J y3 m3 e],.nilIface])/\∃f Ts,CI a w' db K f (z<|G a) (z (G a)+2) [J x0 n0 c0,J x1 n1 c1,J x2 n2 c2,J x3 n3 c3] [J y0 m0 b,J y1 m1 c,J y2 m2 d,J y3 m3 e] Ts/\oX Ts=oX u:=by
 obtain⟨i0,fr,fv,fx,fz⟩:=cz vU
 have gc:∀(fL:Bool)(a:I),(Op.unary .not<|aL fL).run bG a=.ok (aL<|!fL) a:=λ_ _=>rfl
 obtain⟨mv,cd⟩:∃mv:iU,mv=[J x0 n0 c0,J x1 n1 c1,J x2 n2 c2,J x3 n3 c3]:=⟨_,rfl⟩
 rw[<-cd]at an cb|-
 obtain⟨W1,x⟩:∃W1,ct (ct (ct a<|ar mv.toArray 185)<|ar #[aK,aK,aK,aK] 107) (ar #[aK,aK,aK,aK] 107)=W1:=⟨_,rfl⟩
 have bt:Y aB a W1:=by rw[<-x];exact(((Y.refl aB a).alloc _).alloc _).alloc _
 have cB:W1.heap[z (G a)+1]?=H (ar #[aK,aK,aK,aK] 107 (0,0)):=by rw[<-x];exact(fX _<|by simp).trans<|aD _<|by simp
 have hA0:CI a W1 db K K (z<|G a) (z (G a)+2) mv [aK,aK,aK,aK] [[],[],[],[]]:=by
  refine⟨?_,?_,rfl,rfl,?_,?_,bT.aw bt<|λ_ _=>id,⟨rfl,rfl,λ_ P=>P⟩,by simp,by simp,bt.mono cG,bT.lt,?_⟩
  .rw[<-x];exact(fX _ (by simp;omega)).trans<|(fX _<|by simp).trans<|aD _ rfl
  .rw[<-x];exact aD _<|by simp
  .intro S av bg m s;have cl:av=aK/\bg=[]:=by
    rcases S with _|_|_|_|S<;>simp at m s<;>exact⟨m.symm,s⟩
   rw[cl.1,cl.2];exact bK _ _ _ _
  .intro S b av c q _ m _ hq;have cl:av=aK:=by
    rcases S with _|_|_|_|S<;>simp at m<;>exact m.symm
   rw[cl]at hq;cases hq
  .refine⟨ah _,by omega,?_⟩;rw[<-x];simp
 obtain⟨cm,es,HT,HP,co,cn,eq,HF⟩:=EM hA0 cB s bm an cb l hf
 obtain⟨br,H4,ex,en,fb,cv,fl⟩:=ww ao h4 ee cd x ed ec
 clear bT s bm an cb l hf ao h4 ee cd bt cB hA0 x ed ec
 go_in
 go_wp2_with fail
 rw[ae fb]
 have e2:z (G a)+1+1=z (G a)+2:=rfl
 rw[e2]
 obtain⟨n,ca⟩:∃n,z (G a)+2=n:=⟨_,rfl⟩
 rw[ca]at cm|-
 have ea:∀(i:M)(o:cP),u[i]?=H o->y o<=1000000:=λi o Q=>by
  have F:=ae ex;have h2:y o<=y u.flatten:=pR<|cN<|gp Q;omega
 have em:=U ea
 have ba:=U ca
 clear ea e2 ca
 go_loopw [12] (λb wr=>∃(i:M)(K1:DK)(vs:iU)(Ts:cr cP),i<=4/\b=ap i/\CI a wr db K K1 (z<|G a) n mv vs Ts/\nF (oX u) (oX Ts) i 0/\wr.heap[z (G a)+1]?=H (ar #[aK,aK,aK,aK] 107 (0,0))) (λb _=>4-(intOf b).toNat)
 case atStart=>exact⟨0,_,_,_,bA _,rfl,cm,nF.start<|oX u,es⟩
 case round=>
  obtain⟨i,K1,vs,Ts,hi,rfl,w,bb,d⟩:=hrel;by_cases N:i<4
  .have T:=U d;clear d;have dv:i<y u:=by rw[ae H4];exact N
   obtain⟨o,Q⟩:∃o,u[i]?=H o:=⟨_,aG dv⟩;have bk:i<y mv:=by rw[ae en];exact N
   obtain⟨av,m⟩:∃av,mv[i]?=H av:=⟨_,aG bk⟩;have ch:=co i av o m Q;obtain⟨fL,P,fu⟩:∃fL P,av=J fL (y o) P:=by
    obtain⟨q1,⟨q2,q0⟩|⟨gj,bq,cx,q2,_⟩⟩:=ch
    .exact⟨none,0,by rw[q2,q0]⟩
    .exact⟨_,_,q2⟩
   subst fu;have fs:=em i o Q;have hc:=(w.XV i).trans m;have e1:(i:Z)<4:=by omega
   have e0:(0:Z)<=(i:Z):=by omega
   obtain⟨HA,eu,HM,HV,ev⟩:=jP w bb Q m ch;clear w bb Q m ch dv bk;go_wp2_with fail
   go_loopw [19] (λc b=>∃(k:M)(K1:DK)(vs:iU)(Ts:cr cP),k<=y o/\c=ap k/\CI a b db K K1 (z<|G a) n mv vs Ts/\nF (oX u) (oX Ts) i k/\b.heap[z (G a)+1]?=H (ar #[aK,aK,aK,aK] 107 (0,0))) (λc _=>y o-(intOf c).toNat)
   case atStart=>exact⟨0,_,_,_,bA _,rfl,HA,eu,T⟩
   case round=>
    obtain⟨k,K2,O,p,hk,rfl,hA2,f,al⟩:=hrel;have e:=U al;clear al;by_cases L:k<y o
    .have Q:=ae HM;have ac:o[k]∈u.flatten:=bz.2 ⟨o,gp Q,aq L⟩;have l:=eq _ ac;have dm:=HF _ ac;have bo:=hA2.aw.row ev<|λq hq=>⟨(cn i _ HV q hq).2,(cn i _ HV q hq).1⟩;obtain⟨gf,b,hx,X⟩:∃gf b,fL=H (R gf b)/\∀S ei,(o[k].ur)[S]?=H ei->aT wr (R gf<|b+(k*4+S))=H ei:=by
      obtain⟨q1,⟨q2,q0⟩|⟨gj,bq,cx,q2,bi,C⟩⟩:=bo
      .omega
      .cases q2;refine⟨gj,bq,rfl,λS ei hu=>C _ _ ?_⟩;have hj:S<4:=by
        rcases dF S 4 with P|P
        .exact P
        .rw[dl<|by simpa[bJ.ur]using P]at hu;cases hu
       rw[GO o k S L hj];exact hu
     subst hx;have dc:=X 0 _ rfl;have dd:=X 1 _ rfl;have bv:=X 2 _ rfl;have bx:=X 3 _ rfl;have bc:i<y p:=by rw[hA2.Dm];exact N
     obtain⟨bg,s⟩:∃bg,p[i]?=H bg:=⟨_,aG bc⟩;have bu:y bg=k:=by
      have F:=f.now _<|oW Q;rw[oW s]at F;have h2:=bU y<|dD F;simp at h2;omega
     have t:bg.map bJ.pX=(o.map bJ.pX).take k:=by
      have F:=f.now _<|oW Q;rw[oW s]at F;exact dD F
     have bf:i<y O:=by rw[hA2.za];exact N
     obtain⟨av,m⟩:∃av,O[i]?=H av:=⟨_,aG bf⟩;have g:=hA2.rows i av bg m s;rw[bu]at g;obtain⟨ox,oc,ce⟩:=aC g;subst ce;have bn:=f.one<|oW Q;have eg:(o.map bJ.pX).take (k+1)=(o.map bJ.pX).take k++[o[k].pX]:=by
      rw[aj<|by simpa using L];simp
     have hA3:=hA2.still<|(Y.refl aB wr).alloc<|ar #[aH o[k].num,dq<|y<|dG o[k].cs,dq<|y<|fa<|bO 0 o[k].cs,dq<|mr<|fa<|bO 0 o[k].cs] 266;rw[l.ks]at bv bx;generalize o[k]=ej at*;have r:=Kb ej.num l.num ej.cs l.idx (Steps.aw HT hA3.aw cv) (Pow.aw HP hA3.aw fl) l.small (λP=>cv<|hA2.same.2.2 _ P) hA3.aN (by rw[hA2.same.1];exact dm);unfold Ev at r;have bd:=l.num;have dx:=l.ks;obtain⟨v,ax,ge,V,cs⟩:=jP hA2 hA3 g m s;obtain⟨cu,bs,ey,D,el⟩:=jP bu t eg bn dx;have e4:(k:Z)<(y o:Z):=by omega
     have e5:(0:Z)<=(k:Z):=by omega
     have k0:aT wr (R n i)=H (J ox k oc):=(hA2.cell i).trans m;have e6:b+(k*4+0)=b+k*4:=by omega
     have e7:b+(k*4+1)=b+k*4+1:=by omega
     have e8:b+(k*4+2)=b+k*4+2:=by omega
     have e9:b+(k*4+3)=b+k*4+3:=by omega
     rw[e6]at dc;rw[e7]at dd;rw[e8]at bv;rw[e9]at bx;clear hA2 hA3 g m s bu t eg bn dx l dm bo X Q ac bc bf f e6 e7 e8 e9;obtain⟨gi,tk,j,tn⟩:=ej;simp only at dc dd bv bx r bd;generalize cE:y (dG j)=tl at*;generalize cM:y (fa<|bO 0 j)=ti at*;generalize cT:mr (fa<|bO 0 j)=tc at*;obtain⟨fd,fe,ff⟩:=dC cE cM cT;clear cE cM cT;have cc:=v.ord;have cp:=U (show z (G wr)<z (G<|ct wr<|ar #[aH tn,dq tl,dq ti,dq tc] 266)by simp);go_wp2_with fail
     apply r.mono;rintro cl w3⟨c,gb,E,rfl,W,dn,ds,K3,hd,dk,dT,bh⟩;have hA4:=ax.move hd.aw (λq hq=>.inl<|ax.same.2.2 q hq) hd.ok ⟨dk,dT,bh⟩;have ef:=ae cp;have gg:n<z (G wr):=cc.2.2;have B:=(hd.aw.block _ (by have:=ak e;omega) (λP=>by have:=ax.low _<|ax.same.2.2 _ P;omega)).trans<|(fX _<|ak e).trans e;have bp:CG w3 db n O ⟨c,tk,j,tn⟩:=by
      refine⟨gb,E,?_,by show n<c;omega,ak W.box,by omega,?_,λS ei hu=>⟨λP=>?_,λP=>?_⟩⟩
      .show lR w3 c (aA db) tn (y<|dG j) (y<|fa<|bO 0 j) (mr<|fa<|bO 0 j) gb 0 E aK tk;rw[ae fd,ae fe,ae ff,ae el];exact W
      .have C:0<y (ep<|bO 0 j):=by
        have:=W.ne;rcases hq:bO 0 j with _|⟨q,gk⟩
        .rw[hq]at this;simp at this
        .simp[ep,qR.cells]
       have:=W.cells 0 _<|aG C;exact cY w3 _ this
      .have F:=(v.own hu P).2;have h2:z (G wr)<=c:=by omega
       simp only at F;omega
      .have F:=(v.own hu P).2;omega
     have bl:c∉p.flatten.map bJ.tb:=λP=>by
      obtain⟨ei,hu,cl⟩:=aZ.1 P;obtain⟨_,_,_,_,h2,_⟩:=v.zc ei hu;omega
     have A:=hA4.rows i _ bg V cs;rw[ae cu]at A;have k1:aT w3 (R n i)=H (J ox k oc):=(hA4.cell i).trans V;have cj:n<z (G w3):=hA4.ord.2.2;have fk:=U (show∀v5 w5,w5.ownsRow (n+1) 224 1 v5 (k+1) (bg.map bJ.ptr++[aA c])->eP (ct w3<|ar #[aA c] 224) w5 (J ox k oc) v5->CI a (bZ w5 (R n i) v5) db K K3 (z<|G a) n mv (O.set i v5) (p.set i<|bg++[⟨c,tk,j,tn⟩])/\(bZ w5 (R n i) v5).heap[z (G a)+1]?=H (ar #[aK,aK,aK,aK] 107 (0,0))/\aT w5 (R n i)=H (J ox k oc)/\w5.frozen? (R n i)=bF from by
      intro v5 w5 ad au;have C:Y aB w3 (ct w3<|ar #[aA c] 224):=(Y.refl aB w3).alloc _;have hA5:=hA4.still C;have ck:=Y.fy au;have eb:bV (J ox k oc)≠H n:=λP=>by have:=(hA4.own V P).1;omega
      have fn:=(ck.block n (ag cj C.size) eb).trans hA5.box;refine⟨hA5.put V cs au ?_ (bp.aw C cG) bl,?_,?_,by simp[World.frozen?,fn]⟩
      .rw[af,ae cu,aM];exact ad
      .have bi:=ak B;exact(iq v5 (by have:=ae ba;omega)).trans<|(ck.block _ (ag bi C.size) (λP=>by have:=(hA4.own V P).1;have:=ae ba;omega)).trans<|(C.block _ bi id).trans B
      .exact ck.cell (C.cell k1 id cj) eb (ag cj C.size))
     have eo:=U A;clear W dn ds hd dk dT bh hA4 bp bl A r k0 ef B;go_wp2_with(first
      |(at_builtin;go_loud(refine bS _ rfl (.tmp 36) (.tmp 38) 105 rfl (n+1) 224 i0 (.pointer none) 1 8 underlying105 fr fv fx fz rfl (by decide) (.slice ox k oc) k (bg.map bJ.ptr) rfl (aS eo _) (R (z (G w3)) 0) 1 1 [aA c] rfl rfl (tr _ _ _) (by simp[Value.oneCell']) (by omega) (by omega) (by simp;omega) ?_;intro v5 w5 ad au;obtain⟨hA5,y2,y0,y1⟩:=fk v5 w5 ad au;obtain⟨x5,c5,rfl⟩:=aC ad;have ek:=U hA5;have et:=U y2;clear ad au hA5 y2)))
     go_roundw;case rel=>
      refine⟨k+1,K3,_,_,L,by go_num,ek,?_,et⟩;have F:=ae D;have h2:oX (p.set i<|bg++[⟨c,tk,j,tn⟩])=(oX p).set i ((o.map bJ.pX).take<|k+1):=by
       unfold oX;rw[nH,aM,ae bs,ae ey];rfl
      rw[h2];exact F
     case measure=>simp[intOf];omega
    .have E:k=y o:=by omega
     subst E;have bc:i<y p:=by rw[hA2.Dm];exact N
     obtain⟨bg,s⟩:∃bg,p[i]?=H bg:=⟨_,aG bc⟩;have bf:i<y O:=by rw[hA2.za];exact N
     obtain⟨av,m⟩:∃av,O[i]?=H av:=⟨_,aG bf⟩;have t:kY o bg:=by
      have F:=f.now _<|oW HM;rw[oW s]at F;have h2:=dD F;rw[cR<|by simp]at h2;exact h2
     have c:=hA2.YF m s (by rw[t.length];omega);have g:=hA2.rows i av bg m s;obtain⟨ox,oc,ce⟩:=aC g;subst ce;have k0:aT wr (R n i)=H (J ox (y bg) oc):=(hA2.cell i).trans m;have b:=(show nF (oX u) (oX p) i (y<|o.map bJ.pX)by rw[cU];exact f).xB (oW HM) (by unfold oX;rw[cU];exact H4);have e4:¬((y o:Z)<(y o:Z)):=by omega
     have v:=U hA2;have D:=U b;by_cases A:i=0
     .subst A;clear hA2 f c g s m b;go_wp2;go_roundw;case rel=>exact⟨1,_,_,_,by omega,by go_num,v,D,e⟩
      case measure=>simp[intOf]
     .have r:=Sx c (t.side<|br i o (by omega) HM).apart;have e6:(0:Z)<(i:Z):=by omega
      clear hA2 f c g s m b;go_wp2_with fail
      apply r.mono;rintro cl V⟨rfl,j⟩;have B:=U<|v.still<|Y.aW j;have C:=U<|(j.block _<|ak e).trans e;clear j r;go_wp2;go_roundw;case rel=>exact⟨i+1,_,_,_,by omega,by go_num,B,D,C⟩
      case measure=>simp[intOf];omega
  .have r:i=4:=by omega
   subst r;have t:=bb.all (by unfold oX;rw[cU];exact H4) (by unfold oX;rw[cU];exact w.Dm);have e:=w.za;obtain⟨v,A,B,C,rfl⟩:∃v A B C,vs=[v,A,B,C]:=by
    rcases vs with _|⟨v,_|⟨A,_|⟨B,_|⟨C,_|⟨v4,gk⟩⟩⟩⟩⟩<;>simp at e;exact⟨_,_,_,_,rfl⟩
   obtain⟨f,ac,V⟩:=w.row (j:=0) rfl;obtain⟨g,ad,W⟩:=w.row (j:=1) rfl;obtain⟨j,al,X⟩:=w.row (j:=2) rfl;obtain⟨p,au,o3⟩:=w.row (j:=3) rfl;obtain⟨D,y0,rfl⟩:=aC V;obtain⟨E,y1,rfl⟩:=aC W;obtain⟨L,y2,rfl⟩:=aC X;obtain⟨O,y3,rfl⟩:=aC o3;have r0:=cellAt w.box 0 rfl;have r1:=cellAt w.box 1 rfl;have r2:=cellAt w.box 2 rfl;have r3:=cellAt w.box 3 rfl;have t0:=cellAt d 0 rfl;have t1:=cellAt d 1 rfl;have t2:=cellAt d 2 rfl;have t3:=cellAt d 3 rfl;have ax:∀i,wr.frozen? (R (z (G a)+1) i)=bF:=λi=>by simp[World.frozen?,d]
   obtain⟨HA,bs,T⟩:=dC w t d;have e5:¬((4:Z)<4):=by omega
   clear w bb V W X o3 t d e;go_wp2;have b:=aR (i:=3) (u:=J O (y p) y3)<|aR (i:=2) (u:=J L (y j) y2)<|aR (i:=1) (u:=J E (y g) y1)<|aR (i:=0) (u:=J D (y f) y0) T;have c:=((((Y.refl (λk=>k=z (G a)+1) wr).setCell (z (G a)+1) 0 (J D (y f) y0)<|.inl rfl).setCell (z (G a)+1) 1 (J E (y g) y1)<|.inl rfl).setCell (z (G a)+1) 2 (J L (y j) y2)<|.inl rfl).setCell (z (G a)+1) 3 (J O (y p) y3)<|.inl rfl;refine cI (zi rfl _ _ (z (G a)+1) _ _ _ _ _ _ rfl b ⟨_,_,_,rfl⟩ ⟨_,_,_,rfl⟩ ⟨_,_,_,rfl⟩ ⟨_,_,_,rfl⟩) rfl ?_;refine⟨D,y f,y0,E,y g,y1,L,y j,y2,O,y p,y3,rfl,K1,Ts,?_,bs⟩;rw[ae ba];have hd:=HA.aN.aw c (λk P cl=>by have:=HA.low k<|HA.same.2.2 k P;have:k=z (G a)+1:=cl;omega);exact HA.move c (λk cl=>.inr (by have:k=z (G a)+1:=cl;have:=ae ba;omega)) hd ⟨rfl,rfl,λ_ P=>P⟩
def Rm(next d c:M)(f:cr cP)(h:cK a b j)(hT:Steps a)(bq:¬j.bj b 1)(h4:y f=4)(hn:next<18446744073709551616)(hl:d<next)(bm:c<18446744073709551616)(br:y f.flatten<=1000000)(au:∀ca∈f.flatten,ca.oa)(F:(f.flatten.map bJ.num).Nodup)(E:∀ca∈f.flatten,ca.num<next/\ca.num≠d)(hg:dX (vw j.files) gP=H (iF next d c f)):cy bG 93 #[aA b] a λO s=>
 ∃t n i v o c1 w p c2 x r c3,O=aO (dB #[eC #[aH next,aH d,aH c,J t n i,J v o c1,J w p c2,J x r c3],.nilIface])/\(∀(bs:M)(bt:aa)(ba:cP),[J t n i,J v o c1,J w p c2,J x r c3][bs]?=H bt->f[bs]?=H ba->s.ownsRow (z<|G a) 266 4 bt (y ba) (dh ba))/\∃g,rG a s b j g/\g.files=j.files/\g.eM=j.eM/\∀k,g.bj b k->j.bj b k:=by
 obtain⟨L,l⟩:∃L,ct a (ar #[aH 0,aH 0,aH 0,aK,aK,aK,aK] 187)=L:=⟨_,rfl⟩
 have C:Y aB a L:=by rw[<-l];exact(Y.refl aB a).alloc _
 have P:L.heap[z<|G a]?=H (ar #[aH 0,aH 0,aH 0,aK,aK,aK,aK] 187 (0,0)):=by rw[<-l];exact aD _ rfl
 have ck:z (G L)=z (G a)+1:=by rw[<-l];simp
 have an:y (iF next d c f)<=21000100/\0<y (iF next d c f):=by
  have h1:iF next d c f=iC (le 8 (next:M)++(le 8 (d:M)++(le 8 (c:M)++pZ f 0))):=by
   unfold iF pZ;simp
  have h2:=zW f 0;rw[h1,gu];simp only[af,bY];omega
 have bd:=U h.lt
 have B:cy bG 96 #[aA b,ai gP] L λO s=>∃bv N,O=aO (dB #[bD bv 0 (y<|iF next d c f) N,.nilIface])/\s.heap[z<|G a]?=H (ar #[aH 0,aH 0,aH 0,aK,aK,aK,aK] 187 (0,0))/\(∃g,rG a s b j g/\g.files=j.files/\g.eM=j.eM/\∀k,g.bj b k->j.bj b k)/\z (G a)<z (G s)/\cy bG 149 #[bD bv 0 (y<|iF next d c f) N] s λO av=>
  ∃t n i v o c1 w p c2 x r c3,O=aO (dB #[eC #[aH next,aH d,aH c,J t n i,J v o c1,J w p c2,J x r c3],aL bW])/\
  (∀(bs:M)(bt:aa)(ba:cP),[J t n i,J v o c1,J w p c2,J x r c3][bs]?=H bt->f[bs]?=H ba->av.ownsRow (z<|G s) 266 4 bt (y ba) (dh ba))/\Y aB s av:=by
  apply(KG (db:=b) (K:=j) gP _ (w:=L) (h.aw C<|λ_ _=>id) hg<|by omega).mono
  rintro O s⟨v',rfl,ho,g,A,e1,e2,W⟩
  have bo:=ho
  obtain⟨q1,⟨q2,q0⟩|⟨cc,cp,cb,q2,cd,hh,bn,ch,bp⟩⟩:=bo
  .omega
  .subst q2;have bl:Steps s:=Steps.aw (Steps.aw hT C id) A.aw bq;have Q:¬j.bj b (z<|G a):=λN=>by have:=h.lt _ N;omega
   refine⟨cc,cp,rfl,(A.aw.block _ (ak P) Q).trans P,⟨g,⟨A.ok,(C.mono (T:=j.bj b) cG).trans A.aw<|λ_ N=>.inl N,λk N=>.inl<|W k N⟩,e1,e2,W⟩,by have:=A.aw.size;omega,?_⟩;exact Ox cc 0 cp next d c f bl h4 hn hl bm br au F E bn (ho.lt cc rfl).2<|eH.bytes ho
 have al:=λW=>Ui 10 W
 unfold gP at B
 obtain⟨SL,ad⟩:∃SL,y (iF next d c f)=SL:=⟨_,rfl⟩
 rw[ad]at B
 have bk:=U l
 have cj:∀a:I,(binOp .neq 50 .nilIface .nilIface).run bG a=.ok (aL bF) a:=λ_=>rfl
 have bT:∀(bv:Bool)(a:I),(Op.unary .not<|aL bv).run bG a=.ok (aL<|!bv) a:=λ_ _=>rfl
 clear h hT hg au F E C P l ad an
 go_in
 go_wp2_with fail
 rw[ae bk]
 apply B.mono
 rintro O w2⟨bv,N,rfl,ac,X,ao,D⟩
 have bf:=U ac
 have bc:=U X
 clear ac X B
 go_wp2_with fail
 apply(al _).mono
 rintro O bu⟨rfl,hw⟩
 subst bu
 go_wp2_with fail
 apply D.mono
 rintro O w3⟨t,n,i,v,o,c1,w,p,c2,x,r,c3,rfl,m,V⟩
 have e:=(V.block _ ao id).trans bf
 have bx:=ak e
 have bi:=U V
 have bh:=U m
 have t0:=cellAt e 0 rfl
 have t1:=cellAt e 1 rfl
 have t2:=cellAt e 2 rfl
 have t3:=cellAt e 3 rfl
 have t4:=cellAt e 4 rfl
 have t5:=cellAt e 5 rfl
 have t6:=cellAt e 6 rfl
 have ce:∀bb,w3.frozen? (R (z<|G a) bb)=bF:=λbb=>by simp[World.frozen?,e]
 have bg:=U e
 clear m V e D al
 go_wp2
 have K:=aR (i:=6) (u:=J x r c3)<|aR (i:=5) (u:=J w p c2)<|aR (i:=4) (u:=J v o c1)<|aR (i:=3) (u:=J t n i)<|aR (i:=2) (u:=aH c)<|aR (i:=1) (u:=aH d)<|aR (i:=0) (u:=aH next) bg
 have ax:=((((((((Y.refl (λk=>k=z (G a)) w3).setCell (z<|G a) 0 (aH next)<|.inl rfl).setCell (z<|G a) 1 (aH d)<|.inl rfl).setCell (z<|G a) 2 (aH c)<|.inl rfl).setCell (z<|G a) 3 (J t n i)<|.inl rfl).setCell (z<|G a) 4 (J v o c1)<|.inl rfl).setCell (z<|G a) 5 (J w p c2)<|.inl rfl).setCell (z<|G a) 6 (J x r c3)<|.inl rfl).alloc<|ar #[aH next,aH d,aH c,J t n i,J v o c1,J w p c2,J x r c3] 187
 have S:=(fX (ar #[aH next,aH d,aH c,J t n i,J v o c1,J w p c2,J x r c3] 187)<|ak K).trans K
 refine cI (vN rfl _ _ (z<|G a) next d c _ _ _ _ _ _ rfl S ⟨_,_,_,rfl⟩ ⟨_,_,_,rfl⟩ ⟨_,_,_,rfl⟩ ⟨_,_,_,rfl⟩) rfl ?_
 refine⟨t,n,i,v,o,c1,w,p,c2,x,r,c3,rfl,?_,?_⟩
 .intro bs bt ba hv hD;have hr:=bh bs bt ba hv hD;exact eQ (ax.own hr (λq b O=>by have:=(hr.lt q b).1;have:q=z (G a):=O;omega))<|by omega
 .obtain⟨g,A,e1,e2,W⟩:=ae bc;have av:Y (λk=>k=z (G a)) w2 _:=(bi.mono (T:=λk=>k=z (G a)) cG).trans ax<|λ_ N=>.inl N;have Q:∀k,g.bj b k->k<z (G a):=λk N=>bd k<|W k N;exact⟨g,⟨A.ok.aw av (λk N O=>by have:=Q k N;have:k=z (G a):=O;omega),A.aw.trans av<|λk O=>.inr (by have:k=z (G a):=O;omega),A.bj⟩,e1,e2,W⟩
def ju.Fc{k:fI}(n:ju a b k)(o:Y (λc=>c=b) a f)(j:aT a (R c g)=H d):aT f (R c g)=H d:=by
 obtain⟨p,e,m,_⟩:=n;have i:c≠b:=by intro l;rw[l]at j;simp[World.cell?,m]at j
 have h:c<z (G a):=by rcases dF c (z<|G a)with l|l;exact l;simp[World.cell?,eD l]at j
 exact o.cell j i h
def ju.Ss{i:fI}(k:ju a b i)(l:Y (λc=>c=b) a f){t:TypeId}{d:M×M}(h:a.heap[c]?=H (ar V t d)):f.heap[c]?=H (ar V t d):=by
 obtain⟨n,e,j,_⟩:=k;have g:c≠b:=by intro m;rw[m,j]at h;cases h
 exact(l.block c (ak h) g).trans h
def ju.Pe{k:fI}(n:ju a b k)(o:Y (λr=>r=b) a f)(q:Row a c d g x):Row f c d g x:=by
 obtain⟨j,⟨rfl,l⟩|⟨p,e,h,rfl,i,m⟩⟩:=q;exact⟨j,.inl ⟨rfl,l⟩⟩;exact⟨j,.inr ⟨p,e,h,rfl,i,λq u l=>n.Fc o<|m q u l⟩⟩
def Aside.qa(h:Aside a j b c g)(d:Y X a f):Aside f j b c g:=⟨ag h.lt d.size,h.bj,h.ne⟩
def Pow.qa{d:fI}(h:Pow a)(i:ju a b d)(j:Y (λm=>m=b) a f):Pow f:=by
 refine h.aw j<|λk=>?_;obtain⟨l,c,g,_⟩:=i;unfold Pow Lib.TabIs World.var? at h;rw[DY]at h;simp only[qE]at h;have e:2=b:=k;rw[e,g]at h;simp at h
def Hz.qa{q:fI}(r:Hz a j b c d i)(n:ju a g q)(k:Y (λu=>u=g) a f):Hz f j b c d i:=by
 refine⟨n.Pe k r.row,λu t=>(r.loc u t).qa k,λv o=>?_⟩;have h:=r.each v o;obtain⟨p,l,e,m,s⟩:=h.mem;exact⟨⟨p,l,e,⟨n.Ss k m.box,λr u o=>n.Fc k<|m.cells r u o,m.ne,m.le,m.small⟩,s.qa k⟩,h.loc.qa k,h.ks,h.num,h.pure,h.idx,h.small,h.file⟩
def ST.qa{o:fI}(h:ST a b n j e i p t u g)(k:ju a c o)(r:Aside a j n.aN b c)(d:Y (λm=>m=c) a f):ST f b n j e i p t u g where
 mem:=k.Pe d h.mem
 sV:=λm l=>(h.sV m l).qa d
 l0:=h.l0.qa k d
 l1:=h.l1.qa k d
 l2:=h.l2.qa k d
 l3:=h.l3.qa k d
 aN:=h.aN.aw d<|λm t k=>r.bj (by have q:m=c:=k;rw[<-q];exact t)
 rV:=h.rV
 lu:=⟨λm l=>k.Fc d<|h.lu.steps m l,h.lu.pow.qa k d,h.lu.fC.qa d,h.lu.me.qa d⟩
 qI:=h.qI
 mJ:=h.mJ
 mq:=h.mq
 jc:=h.jc
 s1:=h.s1
 s2:=h.s2
 s3:=h.s3
def Inv.qa{s s':SR}{V m:fS}(h:Inv a b s j e i p t u g l B k V)(W:s.lT=H c)(d:s'={s with gZ:=s'.gZ})(A:Y (λX=>X=c) a f)(S:ju f c (AM m))(Q:y m<=4)(P:∀ac∈m,ac.2<=s.bC):Inv f b s' j e i p t u g l B k m:=by
 obtain⟨v,C,T,D⟩:=h.pV.ex;have O:v=c:=by rw[C]at W;exact dD W
 subst O;have r:=(h.st.qa T D A).fields (s':=s') (by rw[d];exact⟨rfl,rfl,rfl,rfl,rfl⟩) (by rw[d]);have w:s'.next=s.next:=by rw[d]
 have E:s'.log=s.log:=by rw[d]
 have q:s'.gB=s.gB:=by rw[d]
 have n:s'.bC=s.bC:=by rw[d]
 have F:s'.iS=s.iS:=by rw[d]
 have K:s'.vG=s.vG:=by rw[d]
 have L:s'.mem=s.mem:=by rw[d]
 have N:s'.wH=s.wH:=by rw[d]
 have x:s'.aN=s.aN/\s'.lT=s.lT:=by rw[d];exact⟨rfl,rfl⟩
 have o:s'.km=s.km:=by rw[d]
 exact⟨r,by rw[w,E,q];exact h.qX,h.pr,h.lp,by rw[n];exact h.mem,by rw[n];exact h.MF,h.VT,h.WT,⟨⟨v,x.2.trans C,S,by rw[x.1];exact D.qa A⟩,Q⟩,by rw[n];exact P,by rw[n];exact h.BH,by rw[F];exact h.UX,by rw[K];exact h.vG,h.GK,by rw[w];exact h.nx,by rw[n];exact h.bn,h.eM,by rw[L,N];exact h.TE,by rw[q,o];exact h.loose,by rw[q];exact h.TX,h.mJ⟩
def VB{sn:fS}{n:M}(h:∀p∈sn,p.1<n)(t:M):(AM sn).put (n:Z) (aH (t:Z))=AM (sn++[(n,t)]):=by
 induction sn with
 |nil=>rfl
 |cons p r c=>
  have b:=h p (by simp);have a:=c (λq b=>h q<|by simp[b]);unfold AM at a|-;rw[aY,cq,aY,fI.put,cW (by simp only;omega),a]
def lU:fS->Z->fS
 |[],_=>[]
 |p::r,n=>if(p.1:Z)=n then r else p::lU r n
def OY(n:Z):∀b:fS,(AM b).del n=AM (lU b n)
 |[]=>rfl
 |p::r=>by
  have a:=OY n r;unfold AM at a|-;rw[aY,fI.del,lU];split
  .rfl
  .rw[a];rfl
def Gq(n:Z):∀a:fS,(lU a n).Sublist a
 |[]=>ew _
 |p::r=>by
  rw[lU];split
  .exact pN _ _
  .exact(Gq n r).cons_cons _
abbrev Zs:=cr<|Option<|M×iH
abbrev WD:=cr<|Option iH
def iN:M->Zs->fS
 |_,[]=>[]
 |n,H x::r=>(n,x.1)::iN (n+1) r
 |n,none::r=>iN (n+1) r
def tQ(a:Zs):WD:=a.map<|Option.map Prod.snd
def oP.abs(x:oP):Option iH:=if x.live then H x.l else none
def zv(x:M×iH):∀(b:Zs)(n:M),iN n (b++[H x])=iN n b++[(n+y b,x.1)]
 |[],n=>rfl
 |some a::r,n=>by
  have e:n+y (H a::r)=n+1+y r:=by rw[ay];omega
  rw[cq,iN,iN,zv x r<|n+1,e,cq]
 |none::r,n=>by
  have e:n+y (none::r:Zs)=n+1+y r:=by rw[ay];omega
  rw[cq,iN,iN,zv x r<|n+1,e]
def uV:∀(a:Zs)(n:M)(p:M×M),p∈iN n a->n<=p.1/\p.1<n+y a
 |[],n,p,h=>by cases h
 |some b::r,n,p,h=>by
  rw[ay];rcases az.1 h with rfl|h
  .exact⟨ah _,by show n<_;omega⟩
  .have:=uV r (n+1) p h;omega
 |none::r,n,p,h=>by
  have:=uV r (n+1) p h;rw[ay];omega
def ze:∀{a:fS},(∀p∈a,(p.1:Z)≠m)->oV a m=none
 |[],_=>rfl
 |p::r,h=>by
  rw[oV,cW<|h p<|by simp];exact ze<|λq b=>h q<|by simp[b]
def Bo:∀(b:Zs)(n j:M),oV (iN n b) ((n+j:M):Z)=match b[j]? with|some (H x)=>H x.1|_=>none
 |[],n,j=>rfl
 |some x::r,n,0=>by rw[iN,oV,dw (by simp only;omega)];rfl
 |some x::r,n,j+1=>by
  have a:=Bo r (n+1) j;rw[iN,oV,cW (by simp only;omega),show n+(j+1)=n+1+j by omega,a];rfl
 |none::r,n,0=>by
  rw[iN,ze (λp a=>by have:=uV r (n+1) p a;omega)];rfl
 |none::r,n,j+1=>by
  have a:=Bo r (n+1) j;rw[iN,show n+(j+1)=n+1+j by omega,a];rfl
def Bp:∀(c:Zs)(n j:M)(x:M×iH),c[j]?=H (H x)->lU (iN n c) ((n+j:M):Z)=iN n (c.set j none)
 |[],n,j,x,h=>by cases h
 |none::r,n,0,x,h=>by cases h
 |some b::r,n,0,x,h=>by rw[iN,lU,dw (by simp only;omega)];rfl
 |some b::r,n,j+1,x,h=>by
  have a:=Bp r (n+1) j x h;rw[iN,lU,cW (by simp only;omega),show n+(j+1)=n+1+j by omega,a];rfl
 |none::r,n,j+1,x,h=>by
  have a:=Bp r (n+1) j x h;rw[iN,show n+(j+1)=n+1+j by omega,a];rfl
def Bn:∀(a:Zs)(n:M),y (iN n a)=y ((tQ a).filter Option.isSome)
 |[],n=>rfl
 |some c::r,n=>by
  have b:=Bn r<|n+1;rw[iN,ay,b];rfl
 |none::r,n=>Bn r<|n+1
def yo:∀(a:Zs)(n:M)(x:M×iH),H x∈a->(x.1:Z)∈so (iN n a)
 |[],n,x,h=>by cases h
 |some b::r,n,x,h=>by
  rcases az.1 h with e|h
  .cases e;exact dy ..
  .exact aJ _<|yo r (n+1) x h
 |none::r,n,x,h=>by
  rcases az.1 h with e|h
  .cases e
  .exact yo r (n+1) x h
def GQ:∀(b:cr oP),tV b=y ((b.map oP.abs).filter Option.isSome)
 |[]=>rfl
 |x::r=>by
  have a:=GQ r;unfold tV at*;cases hl:x.live with
  |true=>simp[oP.abs,hl,a]
  |false=>simp[oP.abs,hl,a]
def Vg(a:WD)(n:Z):Option iH:=if n<1 then none else match a[(n-1).toNat]? with
 |some x=>x
 |none=>none
def AX(b:Zs)(n:Z):(∃(j:M)(a:M×iH),n=(j:Z)+1/\b[j]?=H (H a)/\oV (iN 1 b) n=H a.1/\Vg (tQ b) n=H a.2)\/(oV (iN 1 b) n=none/\Vg (tQ b) n=none):=by
 by_cases c:n<1;refine .inr ⟨ze λp d=>?_,by unfold Vg;rw[dw c]⟩;have:=uV b 1 p d;omega;obtain⟨j,rfl⟩:∃j:M,n=(j:Z)+1:=⟨(n-1).toNat,by omega⟩;(have e:((j:Z)+1-1).toNat=j:=by omega);have d:=Bo b 1 j;rw[show((1+j:M):Z)=(j:Z)+1 by omega]at d;(have f:(tQ b)[j]?=b[j]?.map (Option.map Prod.snd):=by unfold tQ;rw[dz]);unfold Vg;rw[cW c,e,d,f];rcases hz:b[j]? with _|_|a;exact .inr ⟨rfl,rfl⟩;exact .inr ⟨rfl,rfl⟩;exact .inl ⟨j,a,rfl,hz,rfl,rfl⟩
def Dc(a:cr oP)(n:Z):(∃(j:M)(x:oP),n=(j:Z)+1/\j<y a/\JC a n=H x/\Vg (a.map oP.abs) n=H x.l)\/(JC a n=none/\Vg (a.map oP.abs) n=none):=by
 by_cases b:n<1;exact .inr ⟨by unfold JC;rw[dw b],by unfold Vg;rw[dw b]⟩
 .obtain⟨j,rfl⟩:∃j:M,n=(j:Z)+1:=⟨(n-1).toNat,by omega⟩;have d:((j:Z)+1-1).toNat=j:=by omega
  unfold JC Vg;rw[cW b,cW b,d,dz];rcases hs:a[j]? with _|x
  .exact .inr ⟨rfl,rfl⟩
  .have c:j<y a:=(fo.1 hs).1;cases hl:x.live with
   |true=>exact .inl ⟨j,x,rfl,c,by simp[hl],by simp[oP.abs,hl]⟩
   |false=>exact .inr ⟨by simp[hl],by simp[oP.abs,hl]⟩
def Qu(a:Zs):y (tQ a)=y a:=by simp[tQ]
def Qt(a:Zs)(j:M):tQ (a.set j none)=(tQ a).set j none:=by simp[tQ,nH]
def Ng(a:Zs)(x:M×iH):tQ (a++[H x])=tQ a++[H x.2]:=by simp[tQ]
def WA(a:cr oP)(j:M):(a.set j AE).map oP.abs=(a.map oP.abs).set j none:=by rw[nH];rfl
