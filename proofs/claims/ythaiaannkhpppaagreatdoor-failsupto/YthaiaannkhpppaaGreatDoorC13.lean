import Derived.Test.YthaiaannkhpppaaGreatDoorC11
import Derived.Test.YthaiaannkhpppaaGreatDoorC12
open _root_ renaming List.length→y,Option.some→H,Array.size→z,Go.World.heap→G,Go.Value.ownBlock→cK,Go.World.cell?→aW,Go.World.setCell→cq,Go.World.alloc→cN,Bool.false→aX,Bool.true→ci,Nat→M,Int→X,List→cJ,Go.Calls→cY,Go.undef→iH,Go.Proofs.Tryz.prog→aZ,Go.Value.slice→I,Go.Value.string→am,Go.Value.bool→aN,Go.Value.pointer→cX,Go.Value.tuple→dq,Go.Value.agg→dC
namespace Go.Proofs.YthaiaannkhpppaaGreatDoor
open ChangeShapes WideShapes RowKit Proofs.Tryz List
set_option maxHeartbeats 16000000
set_option linter.all false
set_option maxRecDepth 100000
variable{a f A:Y}{b c g m D S:M}{d s L:ab}{e K:cR}{i x:DK}{j W u v:cW}{k:X}{l:dS}{n:eR}{o:SR}{p:eV}{t:ae}{w:E}{B:gW}{F:Fs}{O:bz}{P:Bool}{Q:Prop}
structure Bl(t:bz):Prop where
 ks:t.ks=bW 0 t.cs
 pure:uj t.ks t.cs
 idx:Kg (bW 0 t.cs)
 small:y (dK t.cs)<=100000
 num:t.num<18446744073709551616
structure FU(fs:Fs)(nx lg tb:M)(a b c d:cW)(ez:Bool)(ls:dS):Prop where
 names:∀n bs,dh fs n=H bs->n=eh\/(n=fa lg/\ez=ci)\/∃t∈a++b++c++d,n=fQ t.num
 state:dh fs eh=H (fT nx lg tb [a,b,c,d])\/(dh fs eh=none/\a=[]/\b=[]/\c=[]/\d=[]/\nx=2/\lg=1/\tb=0)
 log:ez=ci->dh fs (fa lg)=H (jZ ((tb:X)+1) ls)
 vJ:ez=aX->ls=[]
 oK:∀t∈a++b++c++d,dh fs (fQ t.num)=H (nC t.cs)
 qf:((a++b++c++d).map bz.num).Nodup
 low:∀t∈a++b++c++d,t.num<nx/\t.num≠lg
 lt:lg<nx
 iP:∀t∈a++b++c++d,Bl t
def BT:∀{l m:cJ ae},l.Nodup->(∀x∈l,x∈m)->y l<=y m
 |[],_,_,_=>bP _
 |x::l,m,b,c=>by
  rw[iD]at b;obtain⟨m1,m2,rfl⟩:=tu (c x<|by simp);have d:∀a∈l,a∈m1++m2:=λa e=>by
   have:=c a (by simp[e]);grind
  have f:=BT b.2 d;grind
def pF(h:t∈F.map (·.1)):∃b,dh F t=H b:=by
 induction F with
 |nil=>simp at h
 |cons f r a=>
  unfold dh;by_cases e:f.1=t
  .simp_all
  grind
def LG(h:dh F t=H n):t∈F.map (·.1):=bR.2 ⟨_,nU h,rfl⟩
theorem JC(h:t∉F.map (·.1)):dh F t=none:=by
 cases c:dh F t with
 |none=>rfl
 |some b=>exact absurd (LG c) h
def wH(a:(F.map (·.1)).Nodup){f:ae×eR}(h:f∈F):dh F f.1=H f.2:=by
 induction F with
 |nil=>cases h
 |cons g r b=>
  rw[cy,iD]at a;unfold dh;grind
def OY(a:Fs)(n:ae):((xp a n).map (·.1)).Sublist (a.map (·.1)):=by
 induction a with
 |nil=>exact pT _
 |cons f r b=>
  unfold xp;grind
theorem Tk(a:(F.map (·.1)).Nodup)(n:ae):dh (xp F n) n=none:=by
 induction F with
 |nil=>rfl
 |cons f r b=>
  rw[cy,iD]at a;unfold xp;by_cases e:f.1=n
  .rw[dH e];grind[JC]
  .rw[dF e];unfold dh;rw[dF e];exact b a.2
def OX(c:(F.map (·.1)).Nodup){a:cJ ae}(h:t∈a):dh (wT F a) t=none:=by
 induction a generalizing F with
 |nil=>cases h
 |cons m r d=>
  have b:((xp F m).map (·.1)).Nodup:=c.sublist<|OY F m;show dh (wT (xp F m) r) t=none;by_cases e:t∈r
  .exact d b e
  grind[nV,Tk]
def qR(b:(F.map (·.1)).Nodup){a:cJ ae}(h:dh (wT F a) t=H n):t∉a/\dh F t=H n:=by
 by_cases c:t∈a;rw[OX b c]at h;cases h;grind[nV]
def Hw(s:ae)(a S:M):∀{b:Fs},(b.map (·.1)).Nodup->(∀f∈b,f.1≠s->y f.2<=a)->(∀f∈b,f.1=s->y f.2<=S)->mG b<=y b*a+S
 |[],_,_,_=>by simp[mG]
 |f::r,i,c,d=>by
  rw[cy,iD]at i;have j:mG (f::r)=y f.2+mG r:=by simp[mG]
  rw[j,aY,xC,Nat.one_mul];by_cases m:f.1=s
  .have k:mG r<=y r*a:=by
    have:∀{b:Fs},(∀f∈b,y f.2<=a)->mG b<=y b*a:=by
     intro b;induction b with
     |nil=>intro _;simp[mG]
     |cons g q l=>
      intro h;have j:mG (g::q)=y g.2+mG q:=by simp[mG]
      have e:=l (λf a=>h f<|by simp[a]);have n:=h g (by simp);rw[j,aY,xC,Nat.one_mul];omega
    grind
   have e:=d f (by simp) m;omega
  .have k:=Hw s a S i.2 (λg b=>c g<|by simp[b]) (λg b=>d g<|by simp[b]);have e:=c f (by simp) m;omega
def Re(c b a:X)(d e f g:cW):y (fT c b a [d,e,f,g])=44+20*y (d++e++f++g):=by
 unfold fT;rw[gy];simp only[cy,gR,bK,iK,dM,af,pG,cH];omega
def FU.total(h:FU F b c g j W u v P l)(d:(F.map (·.1)).Nodup)(o:y (jZ ((g:X)+1) l)<=200000)(s:y (j++W++u++v)<=1000000):mG F<=201000000000:=by
 have p:y F<=y (j++W++u++v)+2:=by
  have:=BT (m:=eh::fa c::(j++W++u++v).map (λt=>fQ t.num)) d (λx i=>by
   obtain⟨a,k⟩:=pF i;rcases h.names x a k with e|⟨e,_⟩|⟨t,f,e⟩
   .rw[e];simp
   .rw[e];simp
   grind)
  grind
 have q:=Hw eh 200000 21000000 d (λj i c=>by
  have a:=wH d i;rcases h.names _ _ a with e|⟨e,k⟩|⟨t,f,e⟩
  .grind
  .have:=h.log k;rw[<-e,a]at this;rw[gY this];exact o
  .have:=h.oK t f;rw[<-e,a]at this;rw[gY this];exact Wc (h.iP t f).idx (h.iP t f).small) (λj i n=>by
  have a:=wH d i;rw[n]at a;rcases h.state with e|⟨e,_⟩
  .rw[a]at e;rw[gY e,Re];omega
  grind)
 have r:y F*200000<=1000002*200000:=rC _ (by omega);omega
def cG.nodup(k:cG a b i):((vw i.files).map (·.1)).Nodup:=by
 obtain⟨e,c,_,h,j⟩:=k.now;have f:e.toList.map (·.key)=(i.files.map da.nm).map (λp=>am p.1):=by have:=bS (List.map Prod.fst) h;grind[map_map,Function.comp_def]
 have d:=j.2.2;rw[f]at d;have g:(vw i.files).map (·.1)=(i.files.map da.nm).map (·.1):=by simp[vw,da.nm,gG,nu]
 rw[g];rw[gG]at d|-;grind
theorem SQ{c:dS}(j:∀f∈c,∀x∈f,x.Good):kh (dK c):=by
 induction c with
 |nil=>intro x g;simp[dK]at g
 |cons f r h=>
  rw[oY];exact((Ml<|j f<|by simp).append<|kh.le 4 _).append<|h<|λg c=>j g<|by simp[c]
theorem XV{w:Y}(g h j l:Option Addr)(f c1 c2 c3:M)(m n o p:cW)(x:Row w 1 (I g (y m) f) (y m) (m.map bz.ptr))(A:Row w 1 (I h (y n) c1) (y n) (n.map bz.ptr))(B:Row w 1 (I j (y o) c2) (y o) (o.map bz.ptr))(C:Row w 1 (I l (y p) c3) (y p) (p.map bz.ptr))(s:∀k,cK (I g (y m) f)=H k->k<z (G w))(t:∀k,cK (I h (y n) c1)=H k->k<z (G w))(u:∀k,cK (I j (y o) c2)=H k->k<z (G w))(v:∀k,cK (I l (y p) c3)=H k->k<z (G w))(D:y (m++n++o++p)<=10000000):Dm (cN w<|aw #[I g (y m) f,I h (y n) c1,I j (y o) c2,I l (y p) c3] 92) (z<|G w) 0 [(I g (y m) f,m),(I h (y n) c1,n),(I j (y o) c2,o),(I l (y p) c3,p)]:=by
 have c:Z ay w (cN w<|aw #[I g (y m) f,I h (y n) c1,I j (y o) c2,I l (y p) c3] 92):=(cF _ _);have q:(cN w<|aw #[I g (y m) f,I h (y n) c1,I j (y o) c2,I l (y p) c3] 92).heap[z<|G w]?=H (aw #[I g (y m) f,I h (y n) c1,I j (y o) c2,I l (y p) c3] 92 (0,0)):=aJ _ rfl;refine⟨rfl,λi r=>?_,λi r=>?_,λi r=>?_,by rw[QY];omega⟩;(have:i=0\/i=1\/i=2\/i=3:=by grind);rcases this with rfl|rfl|rfl|rfl<;>(rw[cg q];rfl);(have:i=0\/i=1\/i=2\/i=3:=by grind);rcases this with rfl|rfl|rfl|rfl;exact c.row x<|λk f=>⟨id,s k f⟩;exact c.row A<|λk f=>⟨id,t k f⟩;exact c.row B<|λk f=>⟨id,u k f⟩;exact c.row C<|λk f=>⟨id,v k f⟩;grind
def yC(nx0 c:M)(n:ae):Prop:=n=iR\/∃m,nx0<=m/\m<c/\n=fQ m
def QD(nx0 c:M)(l:cJ wM):Prop:=∀o∈l,(∃n,yC nx0 c n/\o=.cr n)\/(∃n f,yC nx0 c n/\o=.ap n f)\/∃n,yC nx0 c n/\o=.sy n
theorem QD.JX{nx0 tp:M}{l m:cJ wM}(h:QD nx0 tp l)(k:QD nx0 tp m):QD nx0 tp (l++m):=λo c=>(aG.1 c).elim (h o)<|k o
theorem Ql{nx0 c:M}{l m:cJ wM}(h:l<+:m)(k:QD nx0 c m):QD nx0 c l:=λo f=>k o<|h.subset f
theorem PI{nx0 f u:M}{h:dS}(k:nx0<=u)(j:u<f):QD nx0 f (Cu u h):=by
 have c:yC nx0 f (fQ u):=.inr ⟨u,k,j,rfl⟩;intro o g;simp only[Cu,bJ,gu,mO]at g;rcases g with rfl|rfl|rfl;exact .inl ⟨_,c,rfl⟩;exact .inr<|.inl ⟨_,_,c,rfl⟩;exact .inr<|.inr ⟨_,c,rfl⟩
theorem Qg{nx0 f:M}{us:cW}(j:∀u∈us,u.num<f):QD nx0 f (Hi nx0 us):=by
 intro o c;obtain⟨u,h,c⟩:=lS.1 c;by_cases g:nx0<=u.num;rw[dH g]at c;exact PI g (j u h) o c;rw[dF g]at c;cases c
section
variable{w wr w2:Y}{db sbqq baseqq:M}{K d e:DK}{b:cW}{ps:cJ NT}{T us:cW}{nx0 a i num:M}
theorem CM.free(o:CF w db sbqq baseqq K b ps T nx0 a)(h:CM w db sbqq baseqq K b ps T nx0 a wr d us i num):dh (vw d.files) (fQ num)=none:=by
 obtain⟨j,f,g⟩:=h.files;rw[f,gh,o.fresh num h.lX.1,jk];cases c:dh j (fQ num)with
 |none=>rfl
 |some t=>
  obtain⟨u,k,n,l⟩:=g _<|nU c;simp only[ib]at n;have r:=pX n.1;rcases h.Nq u k with m|⟨q,s,_,_,_,m⟩
  .have:=o.low u m;omega
  .omega
theorem CM.Qh(h:CF w db sbqq baseqq K b ps T nx0 a)(c:CM w db sbqq baseqq K b ps T nx0 a wr d us i num):∀u∈us,u.num<nx0+y T:=by
 intro u f;have:=c.lX;have:=h.nx;have:=h.small;have:=c.le;rcases c.Nq u f with g|⟨p,_,_,_,_,g⟩;have:=h.low u g;omega;omega
structure N5(w w':Y)(db:M)(K K':DK)(ps:cJ NT)(nx0 tp q:M):Prop where
 ok:cG w' db K'
 aj:Z (Wr db K ps) w w'
 aO:∀k,K'.aO db k->K.aO db k\/z (G w)<=k
 fx:Fx K.fx K'.fx
 ops:∃l,QD nx0 tp l/\mi l K K'
 err:∃c,lP w' q c/\QF K.fx c
theorem CM.write(o:CF w db sbqq baseqq K b ps T nx0 a)(c:CM w db sbqq baseqq K b ps T nx0 a wr d us i num)(S:i<y T){p:NT}(r:p∈ps)(k:p.t=T[i]):cY aZ 167 #[aA<|T[i].tb,aA db,aE num] wr λac D=>∃V s,ac=aM V/\((V=.nilIface/\∃C,CM w db sbqq baseqq K b ps T nx0 a D s C (i+1)<|num+1)\/∃q,V=eD q/\N5 w D db K s ps nx0 (nx0+y T) q):=by
 have f:=c.rest p r (by rw[k,<-kI S];grind);have j:=(o.news p r).2;have u:num<18446744073709551616:=by have:=c.lX.2;have:=o.nx;have:=o.small;omega
 have l:d.fx.room<1000000000:=by rw[c.fx.room];exact o.room
 have B:=(o.news p r).1.lt;have h:∀m,p.has m->¬d.aO db m:=λm t n=>by rcases c.aO m n with E|E;have:=o.aO m E;have:=(B m t).1;omega;grind
 have x:p.bb≠p.t.tb:=by obtain⟨v,Q⟩:=fE f.Gp (k:=p.bb) rfl;exact kw Q f.mem.box<|by decide
 have A:p.bb≠p.x:=by obtain⟨v,Q⟩:=fE f.Gp (k:=p.bb) rfl;obtain⟨F,aa⟩:=fE f.data (k:=p.x) rfl;grind
 have g:=f.mem;rw[f.ks]at g;rw[<-k];refine(IG num u p.x p.Gl p.t.cs g f.data (by have:=o.le;have:=c.aj.size;omega) j.idx (SQ j.pure.iP) c.steps c.pow j.small c.aI (c.free o) (by have:=c.gT;have:=o.gT;have:=o.small;omega) l (h _<|.inr<|.inr rfl) (h _<|.inl rfl) (h _<|.inr<|.inl rfl) x A).mono ?_;rintro ac D⟨V,s,rfl,L,N,O,P,⟨rfl,W,h6⟩|⟨ad,q,n,r1,r2,rfl,r3,r4⟩⟩;exact⟨_,s,rfl,.inl ⟨rfl,_,c.wrote o S r k L N O W P h6 u⟩⟩;refine⟨_,s,rfl,.inr ⟨q,rfl,L,?_,?_,c.fx.trans P,⟨_,(Qg<|c.Qh o).JX<|Ql r1<|PI c.lX.1 (by have:=c.lX.2;omega),mi.JX c.ops r2⟩,n,r3,c.fx.Xh o.wS r4⟩⟩;refine c.aj.trans N<|λm t=>?_;rcases t with n|n|n;rcases c.aO m n with E|E;exact .inl<|.inl E;exact .inr E;exact .inl<|.inr ⟨p,r,.inl n⟩;exact .inl<|.inr ⟨p,r,.inr n⟩;intro m t;rcases O m t with n|n;exact c.aO m n;exact .inr<|aC c.aj.size n
end
def SR.settled(s:SR)(a b c d:ab)(n num:M):SR:={s with memory:=az,fm:=0,aS:=n,l0:=a,l1:=b,l2:=c,l3:=d,next:=num+1,log:=num,ez:=aX,xe:=aX,jx:=aX,iT:=aX}
def Zq{h:cW}(i:j.map (λt=>(t.tb,t.ks,t.cs))=(W++u++v++h).map (λt=>(t.tb,t.ks,t.cs))):∃a b c d,j=a++b++c++d/\a.map (λt=>(t.tb,t.ks,t.cs))=W.map (λt=>(t.tb,t.ks,t.cs))/\b.map (λt=>(t.tb,t.ks,t.cs))=u.map (λt=>(t.tb,t.ks,t.cs))/\c.map (λt=>(t.tb,t.ks,t.cs))=v.map (λt=>(t.tb,t.ks,t.cs))/\d.map (λt=>(t.tb,t.ks,t.cs))=h.map (λt=>(t.tb,t.ks,t.cs)):=by
 rw[aP,aP,aP]at i;obtain⟨x,d,rfl,e,k⟩:=iJ.1 i;obtain⟨g,c,rfl,f,l⟩:=iJ.1 e;obtain⟨a,b,rfl,m,n⟩:=iJ.1 f;grind
def iB(h:j.map (λt=>(t.tb,t.ks,t.cs))=W.map (λt=>(t.tb,t.ks,t.cs))):j.map bz.ptr=W.map bz.ptr/\y j=y W/\j.map bz.all=W.map bz.all/\bZ j=bZ W:=by
 have a:=bS (List.map (λp:M×mq×dS=>cX<|H<|R p.1 0)) h;have d:=bS y h;have b:=bS (List.map (λp:M×mq×dS=>p.2.2.flatten)) h;simp only[gG,nu]at a b;have c:j.map bz.all=W.map bz.all:=b;refine⟨a,by simpa using d,c,?_⟩;unfold bZ;rw[c]
def TZ(a:eR):cJ wM:=[.cr iR,.ap iR a,.sy iR]++[.rn iR eh]
def QI(w l:Y)(a:M)(s:SR)(k:X)(b o p:M)(K:DK)(m:cJ NT)(x A B C:ab)(q r u v j:cW):Prop:=∃(n wr:Y)(i c:DK)(h d e f g:cW)(num:M),Z ay w n/\CM n s.aI a b K j m (q++r++u++v) s.next p wr i h (y<|q++r++u++v) num/\h=d++e++f++g/\d.map (λt=>(t.tb,t.ks,t.cs))=q.map (λt=>(t.tb,t.ks,t.cs))/\e.map (λt=>(t.tb,t.ks,t.cs))=r.map (λt=>(t.tb,t.ks,t.cs))/\f.map (λt=>(t.tb,t.ks,t.cs))=u.map (λt=>(t.tb,t.ks,t.cs))/\g.map (λt=>(t.tb,t.ks,t.cs))=v.map (λt=>(t.tb,t.ks,t.cs))/\cS l a (s.settled x A B C o num) k/\cG l s.aI c/\vw c.files=wT (oG (vw i.files) (eh,fT ((num:X)+1) num o [d,e,f,g])) (ny s j h)/\((oG (vw i.files) (eh,fT ((num:X)+1) num o [d,e,f,g])).map (·.1)).Nodup/\y c.gT=y (ny s j h)/\(∀k,k<z (G w)->¬K.aO s.aI k->k≠a->l.heap[k]?=wr.heap[k]?)/\Z (λk=>Wr s.aI K m k\/k=a) w l/\(∀k,c.aO s.aI k->K.aO s.aI k\/z (G w)<=k)/\Fx K.fx c.fx/\mi (TZ (fT ((num:X)+1) num o [d,e,f,g])++(.sd::(ny s j h).map .rm)) i c
structure J4(w w':Y)(sb:M)(s:SR)(k:X)(K K':DK)(ps:cJ NT)(v:ab):Prop where
 ok:cG w' s.aI K'
 aj:Z (λk=>Wr s.aI K ps k\/k=sb) w w'
 aO:∀k,K'.aO s.aI k->K.aO s.aI k\/z (G w)<=k
 fx:Fx K.fx K'.fx
 box:∃s',cS w' sb s' k/\s'.closed=s.closed/\s'.aI=s.aI
 err:∃q c,v=eD q/\lP w' q c/\QF K.fx c
def N3(w:Y)(b:M)(s:SR)(a u l:M)(K m:DK)(r:cJ NT)(n o p q i:cW):Prop:=∃(k wr:Y)(h:DK)(g c d e f:cW)(num:M)(j:cJ wM),Z ay w k/\CM k s.aI b a K i r (n++o++p++q) s.next l wr h g (y<|n++o++p++q) num/\g=c++d++e++f/\c.map (λt=>(t.tb,t.ks,t.cs))=n.map (λt=>(t.tb,t.ks,t.cs))/\d.map (λt=>(t.tb,t.ks,t.cs))=o.map (λt=>(t.tb,t.ks,t.cs))/\e.map (λt=>(t.tb,t.ks,t.cs))=p.map (λt=>(t.tb,t.ks,t.cs))/\f.map (λt=>(t.tb,t.ks,t.cs))=q.map (λt=>(t.tb,t.ks,t.cs))/\j<+: .sd::(ny s i g).map .rm/\mi (TZ (fT ((num:X)+1) num u [c,d,e,f])++j) h m
def E8(w g:Y)(b:M)(s:SR)(q:X)(a t e:M)(K:DK)(d:cJ NT)(l m n o:ab)(h i j k f:cW)(p:Ending):Prop:=(p=aM .nilIface/\QI w g b s q a t e K d l m n o h i j k f)\/∃v c,p=aM v/\J4 w g b s q K c d v/\((∃r,QD s.next (s.next+y (h++i++j++k)) r/\mi r K c)\/N3 w b s a t e K c d h i j k f)
def Zn{nx0 tp:M}{l:cJ wM}(j:l<+:Cz n):QD nx0 tp l\/∃f,l=TZ n++f/\f<+:[.sd]:=by
 have b:yC nx0 tp iR:=.inl rfl;have h:QD nx0 tp [.cr iR,.ap iR n,.sy iR]:=by intro o e;simp only[bJ,gu,mO]at e;rcases e with rfl|rfl|rfl;exact .inl ⟨_,b,rfl⟩;exact .inr<|.inl ⟨_,_,b,rfl⟩;exact .inr<|.inr ⟨_,b,rfl⟩
 obtain⟨m,d⟩:=j;have i:=bS y d;have a:l=(Cz n).take (y l):=by rw[<-d,kS]
 have g:y (Cz n)=5:=rfl;rw[af,g]at i;by_cases c:y l<=3;refine .inl<|Ql ?_ h;rw[a];have e:(Cz n).take 3=[.cr iR,.ap iR n,.sy iR]:=rfl;rw[<-e];exact List.take_prefix_take_left c;(have:y l=4\/y l=5:=by omega);rcases this with c|c;rw[c]at a;exact .inr ⟨[],a,List.nil_prefix⟩;rw[c]at a;exact .inr ⟨[.sd],a,qF _⟩
def DW(m:mi (TZ n) i x)(b:dh (vw i.files) iR=none):vw x.files=oG (vw i.files) (eh,n):=by
 obtain⟨d,h,k,⟨F,j,e,f,_,_⟩,g,_,_⟩:=vI (l:=[.cr iR,.ap iR n,.sy iR]) m;obtain⟨c,_⟩:=Dx h b;have a:dh (vw d.files) iR=H n:=by rw[c,gh,b];simp[dh]
 have hF:F.bytes=n:=by rw[sM,e]at a;simpa using a
 rw[g,f,xK,Uj,c,Tl n b];simp only[hF]
def Zo{a:cJ ae}(l:mi (TZ n++(.sd::a.map .rm)) i x)(h:dh (vw i.files) iR=none):vw x.files=wT (oG (vw i.files) (eh,n)) a/\y x.gT=y a:=by
 obtain⟨j,f,k,⟨b,_,c⟩,g⟩:=vI l;obtain⟨d,e⟩:=Ey g;rw[d,b,DW f h,e,c];exact⟨rfl,by simp⟩
def MN{s:SR}(e sp aU B0:M)(ps:cJ NT)(v0 v1 v2 v3:ab)(bp bq al br a0 b0 c0 d0:cW)(h:cS a b s k)(hL:LS a s.aI b e i (a0++b0++c0++d0) ps sp v0 v1 v2 v3 bp bq al br)(hF:∀bu,Z ay a bu->CF bu s.aI b e i (a0++b0++c0++d0) ps (bp++bq++al++br) s.next B0)(lm:Dm a b 10 [(s.l0,a0),(s.l1,b0),(s.l2,c0),(s.l3,d0)])(rb:cG a s.aI i)(hw:¬i.aO s.aI b)(ss:aU<1000000000000000)(pg:s.log<18446744073709551616)(sb:y (a0++b0++c0++d0)<=1000000)(dv:∀aU gr,dh (vw i.files) aU=H gr->aU≠iR)(bs:∃x aU al,s.memory=I x aU al)(ll:∀bv,bv=s.l0\/bv=s.l1\/bv=s.l2\/bv=s.l3->∀k,cK bv=H k->Kd s.aI b e i k)(dm:∀us,(ny s (a0++b0++c0++d0) us).Nodup/\∀aU∈ny s (a0++b0++c0++d0) us,aU≠eh/\(∃gr,dh (vw i.files) aU=H gr)/\Nm aU):cY aZ 105 #[aA b,dC #[v0,v1,v2,v3],aE aU] a λcf w'=>E8 a w' b s k e aU B0 i ps v0 v1 v2 v3 bp bq al br (a0++b0++c0++d0) cf:=by
 obtain⟨x0,o,rfl⟩:=bY hL.r0;obtain⟨x1,p,rfl⟩:=bY hL.r1;obtain⟨x2,r,rfl⟩:=bY hL.r2;obtain⟨x3,t,rfl⟩:=bY hL.r3;have ra:=hL.count;have le:y (bp++bq++al++br)<=1000000:=by grind
 have hk:=XV x0 x1 x2 x3 o p r t bp bq al br hL.r0 hL.r1 hL.r2 hL.r3 (λk d=>(hL.b0 k d).1) (λk d=>(hL.b1 k d).1) (λk d=>(hL.b2 k d).1) (λk d=>(hL.b3 k d).1) (by omega);obtain⟨WB,en⟩:∃WB,cN a (aw #[I x0 (y bp) o,I x1 (y bq) p,I x2 (y al) r,I x3 (y br) t] 92)=WB:=⟨_,rfl⟩;rw[en]at hk;obtain⟨bL,mE⟩:∃bL,bp++bq++al++br=bL:=⟨_,rfl⟩;have db:=sJ _ hk;rw[PY,QY,mE]at db;have hC:Z ay a WB:=by rw[<-en];exact(cF _ _)
 have jE:WB.heap[z<|G a]?=H (aw #[I x0 (y bp) o,I x1 (y bq) p,I x2 (y al) r,I x3 (y br) t] 92 (0,0)):=by rw[<-en];exact aJ _ rfl
 have lc:=(hC.block b (ak h) id).trans h;have rR:=cS.cellAt lc 14 rfl;rw[mE]at hF le;obtain⟨HH,g,HF,no,hH,bx,cm,ei,nb⟩:=yr h hL hF hC jE mE lm ll dm;obtain⟨sl,sf,sd,bs⟩:=bs;have ne:=U bs;clear h hL hF hk hC jE lc mE lm ll dm bs;go_in
 go_wp2_with fail
 apply db.mono;rintro cf w1⟨sn,rfl,hn,hA⟩;obtain⟨xT,sr,pv⟩:=aB hn;subst pv;have V:Z ay a w1:=no.cz hA;have he:=HF w1 V;have jI:=rb.aj V<|λ_ _=>id;have jH:=CM.start he (λbi h0=>(g.xY bi h0).Gg<|λk d=>V.block k (by have:=d.1;have:=g.le;omega) id) jI (λk d=>V.cell (g.steps k d) id (by have:=g.fS.1;have:=g.le;omega))<|g.pow.aj V id;obtain⟨hW,an,W,mU,aV,ck,nq⟩:=zo hn V he jH ((V.block b (ak HH) id).trans HH) ((hA.block (z<|G a) (ak hH) id).trans hH) (show z (G a)+1=z (G WB)by rw[<-en];simp);clear hn hA V he jH db jI rb;go_wp2_with fail
 go_loopw [7,22] (λbh gi wr=>∃(eg num:M)(L:DK)(us:cW),gi=ar eg/\bh=aE num/\CM w1 s.aI b e i (a0++b0++c0++d0) ps bL s.next B0 wr L us eg num) (λ_ gi _=>y bL-(intOf gi).toNat)
 case atStart=>exact⟨0,s.next,i,[],rfl,rfl,mU⟩
 case round=>
  obtain⟨eg,num,L,us,rfl,rfl,n⟩:=hrel;have rT:=g.le;have rt:=g.KL;have cd:∀k,z (G a)<=k->¬Wr s.aI i ps k:=by
   rintro k d(al|⟨ch,hp,al|al⟩)
   .have:=g.aO k al;omega
   .have:=((g.news ch hp).1.lt k<|.inl al).2;omega
   .have:=((g.news ch hp).1.lt k<|.inr<|.inr al).2;omega
  have ht:¬Wr s.aI i ps b:=by
   rintro(al|⟨ch,hp,al|al⟩)
   .exact hw al
   .have:=((g.news ch hp).1.lt b<|.inl al).1;omega
   .have:=((g.news ch hp).1.lt b<|.inr<|.inr al).1;omega
  have sc:=J nq;have bd:=(n.aj.block b (ak aV) ht).trans aV;by_cases dr:eg<y bL
  .have f:=n.aj.own hW<|λk d=>cd k (by have:=(hW.lt k d).1;omega);obtain⟨C,K,D⟩:∃C,xT=H (R C 0)/\aW wr (R C eg)=H bL[eg].ptr:=by
    rcases f.2 with⟨h2,h0⟩|⟨F,c,nA,h2,_⟩
    .omega
    .cases h2;refine⟨F,rfl,?_⟩;have:=pz f eg bL[eg].ptr (by rw[fq,aQ dr];rfl);rwa[dB,dE]at this
   subst K;unfold bz.ptr at D;have e1:(eg:X)<(y bL:X):=by omega
   rcases W.xt bL[eg] (aq dr)with h0|⟨ch,hp,j⟩
   .obtain⟨hE,ax,v,hm,_⟩:=(n.zn bL[eg] h0).mem;have c:=Cs _ hm;have HM:=U<|n.skip W dr h0;clear n f bd hm h0 cd;generalize bL[eg].tb=A at*;go_wp2_with fail
    apply c.mono;rintro cf w2⟨rfl,E⟩;subst w2;clear c;go_wp2;go_roundw;case rel=>exact⟨eg+1,num,L,_,by go_num,rfl,HM⟩
    case measure=>simp[intOf];omega
   .have Q:=n.rest ch hp (by rw[j,<-kI dr];grind);have m:=DE Q.mem;rw[j]at m;have u:=n.write W dr hp j;have ln:num+1<9223372036854775807:=by have:=n.lX.2;have:=W.nx;have:=W.small;omega
    have c2:=cS.cellAt bd 2 rfl;clear n f bd Q cd j hp;generalize bL[eg].tb=A at*;go_wp2_with fail
    apply m.mono;rintro cf w2⟨rfl,E⟩;subst w2;clear m;go_wp2_with fail
    apply u.mono;rintro cf w2⟨v2,K2,rfl,⟨rfl,N,w⟩|⟨q,rfl,c⟩⟩;rotate_left
    .have HR:=U<|show E8 a w2 b s k e aU B0 i ps (I x0 (y bp) o) (I x1 (y bq) p) (I x2 (y al) r) (I x3 (y br) t) bp bq al br (a0++b0++c0++d0) (aM<|eD q)from .inr ⟨_,K2,rfl,⟨c.ok,(an.mono (T:=λk=>Wr s.aI i ps k\/k=b) cL).trans c.aj<|λ_ q=>.inl<|.inl q,λk d=>(c.aO k d).imp id<|λal=>aC an.size al,c.fx,⟨s,(c.aj.block b (ak aV) ht).trans aV,rfl,rfl⟩,q,by obtain⟨al,h1,h2⟩:=c.err;exact⟨al,rfl,h1,h2⟩⟩,.inl (by rw[J bx];exact c.ops)⟩;clear c u;go_wp2;go_ret;exact HR
    have B:=U w;clear w u;go_wp2;go_roundw;case rel=>exact⟨eg+1,num+1,K2,N,by go_num,by go_num,B⟩
    case measure=>simp[intOf];omega
  .have pe:eg=y bL:=by have:=n.le;omega
   rw[pe]at n;have ks:us.map (λbi=>(bi.tb,bi.ks,bi.cs))=(bp++bq++al++br).map (λbi=>(bi.tb,bi.ks,bi.cs)):=by rw[n.same,bI,J bx]
   obtain⟨u,w,B,C,ad,nK,ob,oi,on⟩:=Zq ks;obtain⟨gs,gt,nO,nS⟩:=iB nK;obtain⟨gx,gE,oc,od⟩:=iB ob;obtain⟨ha,hb,oj,om⟩:=iB oi;obtain⟨hc,hd,op,os⟩:=iB on;have hl:∀bv,qE a s.aI b e i bv->∀k,cK bv=H k->¬Wr s.aI i ps k:=by
    rintro bv hv k d(q|⟨ch,hp,q|q⟩)
    .exact(hv k d).2.1 q
    .have Q:=(g.news ch hp).1;rcases(hv k d).2.2.2 with F|⟨fv,lx,F⟩
     .have:=(Q.lt k<|.inl q).1;omega
     .exact kw F Q.mem.box (by decide) q
    .have Q:=(g.news ch hp).1;rcases(hv k d).2.2.2 with F|⟨fv,lx,F⟩
     .have:=(Q.lt k<|.inr<|.inr q).1;omega
     .obtain⟨nA,pf⟩:=fE Q.data (k:=ch.x) rfl;grind
   have bt:Z (Wr s.aI i ps) a wr:=(an.mono (T:=Wr s.aI i ps) cL).trans n.aj<|λ_ q=>.inl q;have N:∀bv(ts c:cW),qE a s.aI b e i bv->Row a 1 bv (y ts) (ts.map bz.ptr)->c.map bz.ptr=ts.map bz.ptr->y c=y ts->Row wr 1 bv (y c) (c.map bz.ptr):=λbv ts c hv lr e1 e2=>by
    rw[e1,e2];exact bt.row lr<|λk d=>⟨hl bv hv k d,(hv k d).1⟩
   have kn:∀ce∈us,JY wr s.aI ce:=λce hu=>by
    have fv:∀{V:eV},rV wr s.aI (vw L.files) V ce->JY wr s.aI ce:=λho=>by
     obtain⟨hE,ax,v,hm,_⟩:=ho.mem;refine⟨hE,ax,v,?_⟩;rw[<-ho.ks]at hm;exact hm
    rcases n.Nq ce hu with q|⟨ch,_,_,q,_⟩
    .exact fv<|n.zn ce q
    .exact fv q
   have eo:∀bu,Z ay wr bu->∀ce∈us,JY bu s.aI ce:=λbu hz ce hu=>by
    obtain⟨hE,ax,v,hm⟩:=kn ce hu;exact⟨hE,ax,v,hm.dw (hz.block _ (ak hm.box) id)<|hz.block _ hm.lt.2 id⟩
   have ds:∀bv(ts:cW),(∀bi∈ts,bi∈us)->y ts<=1000000->(∀k,cK bv=H k->k<z (G wr))->Row wr 1 bv (y ts) (ts.map bz.ptr)->∀bu,Z ay wr bu->cY aZ 168 #[bv] bu λcf w'=>∃a,cf=aM a/\w'.ownsRow (z<|G bu) 185 4 a (y ts) (dy ts)/\Below (z<|G bu) bu w':=λbv ts fv b d lr bu hz=>by
    refine OJ bu s.aI bv ts ⟨hz.row lr<|λk cf=>⟨id,d k cf⟩,λk cf=>ag (d k cf) hz.size,λbi h=>(eo bu hz bi<|fv bi h).Uo,by omega⟩ (λbi h=>eo bu hz bi<|fv bi h)<|by omega
   have st:=bt.size;have fL:=ds _ u (λbi h=>by rw[ad];simp[h]) (by omega) (λk d=>by have:=(g.b0 k d).1;omega)<|N _ bp u g.b0 g.r0 gs gt;have gb:=ds _ w (λbi h=>by rw[ad];simp[h]) (by omega) (λk d=>by have:=(g.b1 k d).1;omega)<|N _ bq w g.b1 g.r1 gx gE;have gc:=ds _ B (λbi h=>by rw[ad];simp[h]) (by omega) (λk d=>by have:=(g.b2 k d).1;omega)<|N _ al B g.b2 g.r2 ha hb;have ge:=ds _ C (λbi h=>by rw[ad];simp[h]) (by omega) (λk d=>by have:=(g.b3 k d).1;omega)<|N _ br C g.b3 g.r3 hc hd;obtain⟨hY,hZ,ih,il⟩:=fY (N _ bp u g.b0 g.r0 gs gt) (N _ bq w g.b1 g.r1 gx gE) (N _ al B g.b2 g.r2 ha hb)<|N _ br C g.b3 g.r3 hc hd;have au:=(n.aj.block (z<|G a) (ak ck)<|cd _<|ah _).trans ck;have bT:=cellAt au 0 rfl;have ca:=cellAt au 1 rfl;have cb:=cellAt au 2 rfl;have cc:=cellAt au 3 rfl;have rr:=ak au;have ln:num+1<9223372036854775807:=by have:=n.lX.2;have:=W.nx;have:=W.small;omega
   have pw:IntKind.u64.wrap ((num:X)+1)=(num:X)+1:=by rw[gH];omega
   have e1:¬(eg:X)<(y bL:X):=by omega
   obtain⟨HM,hS,hT,hU,hV,ff,bo⟩:=zo n fL gb gc ge bd bt;obtain⟨bl,hI,HEq,rz,rx,ry⟩:=lf ad au (And.intro nK (And.intro ob (And.intro oi on))) cd eo hl;clear n ds fL gb gc ge bd bt ad au nK ob oi on gs gt nO nS gx gE oc od ha hb oj om hc hd op os N kn eo hl cd ks ht;go_wp2_with fail
   obtain⟨c,lt⟩:∃c,z (G wr)=c:=⟨_,rfl⟩;obtain⟨W0,kv⟩:∃W0,cN wr (aw #[aE<|(num:X)+1,aE num,aE aU,az,az,az,az] 127)=W0:=⟨_,rfl⟩;have gf:W0.heap[c]?=H (aw #[aE<|(num:X)+1,aE num,aE aU,az,az,az,az] 127 (0,0)):=by rw[<-kv];exact aJ _ lt.symm
   have gg:Z ay wr W0:=by rw[<-kv];exact(cF _ _)
   have av:=U gf;have fk:=U gg;clear gf gg;have rc:∀bu,(Instr.index 92 (dC #[I x0 (y bp) o,I x1 (y bq) p,I x2 (y al) r,I x3 (y br) t])<|ar 0).run aZ bu=.ok (I x0 (y bp) o) bu:=λ_=>by kernel_rfl
   have rm:∀bu,(Instr.index 92 (dC #[I x0 (y bp) o,I x1 (y bq) p,I x2 (y al) r,I x3 (y br) t])<|ar 1).run aZ bu=.ok (I x1 (y bq) p) bu:=λ_=>by kernel_rfl
   have rn:∀bu,(Instr.index 92 (dC #[I x0 (y bp) o,I x1 (y bq) p,I x2 (y al) r,I x3 (y br) t])<|ar 2).run aZ bu=.ok (I x2 (y al) r) bu:=λ_=>by kernel_rfl
   have ro:∀bu,(Instr.index 92 (dC #[I x0 (y bp) o,I x1 (y bq) p,I x2 (y al) r,I x3 (y br) t])<|ar 3).run aZ bu=.ok (I x3 (y br) t) bu:=λ_=>by kernel_rfl
   refine gX 5 ?_;rw[gd];go_wp2_with fail
   apply(hS W0 fk).mono;rintro cf w2⟨m0,rfl,ev,ap⟩;obtain⟨y0,z0,pi⟩:=aB ev;subst pi;have E:Z ay W0 w2:=Z.aR ap;have m:=(E.block c (ak av) id).trans av;have g0:=cellAt m 3 rfl;have f0:=cP (i:=3) m;have D:(cq w2 (R c 3)<|I y0 (y u) z0).heap[c]?=H (aw #[aE<|(num:X)+1,aE num,aE aU,(I y0 (y u) z0),az,az,az] 127 (0,0)):=(aH m).trans rfl;have j:Z (λk=>k=c) W0 (cq w2 (R c 3)<|I y0 (y u) z0):=(E.mono (T:=λk=>k=c) cL).setCell _ _ _<|.inl rfl;obtain⟨W1,kx⟩:∃W1,cq w2 (R c 3) (I y0 (y u) z0)=W1:=⟨_,rfl⟩;rw[kx]at D j;obtain⟨ba,fl,co⟩:=dz D (fk.trans j<|λk d=>.inr<|by omega) (show W1.ownsRow (z<|G W0) 185 4 (I y0 (y u) z0) (y u) (dy u)by rw[<-kx];exact ev.kept (dN _ _ _ _)<|.inr (λq=>by have:=(ev.lt _ q).1;have:=ak av;omega));clear D j E m ap ev;go_wp2_with fail
   rw[gd];go_wp2_with fail
   apply(hT W1 fl).mono;rintro cf w2⟨m1,rfl,ew,ap⟩;obtain⟨y1,z1,pk⟩:=aB ew;subst pk;have E:Z ay W1 w2:=Z.aR ap;have m:=(E.block c (ak ba) id).trans ba;have g1:=cellAt m 4 rfl;have f1:=cP (i:=4) m;have D:(cq w2 (R c 4)<|I y1 (y w) z1).heap[c]?=H (aw #[aE<|(num:X)+1,aE num,aE aU,(I y0 (y u) z0),(I y1 (y w) z1),az,az] 127 (0,0)):=(aH m).trans rfl;have j:Z (λk=>k=c) W1 (cq w2 (R c 4)<|I y1 (y w) z1):=(E.mono (T:=λk=>k=c) cL).setCell _ _ _<|.inl rfl;obtain⟨W2,ky⟩:∃W2,cq w2 (R c 4) (I y1 (y w) z1)=W2:=⟨_,rfl⟩;rw[ky]at D j;obtain⟨bm,fn,cu,cp⟩:=fY D (fl.trans j<|λk d=>.inr<|by omega) (show W2.ownsRow (z<|G W1) 185 4 (I y1 (y w) z1) (y w) (dy w)by rw[<-ky];exact ew.kept (dN _ _ _ _)<|.inr (λq=>by have:=(ew.lt _ q).1;have:=ak ba;omega))<|j.own co (λk d q=>by have:=(co.lt k d).1;have:=ak av;omega);clear D j E m ap ew;go_wp2_with fail
   rw[gd];go_wp2_with fail
   apply(hU W2 fn).mono;rintro cf w2⟨m2,rfl,ex,ap⟩;obtain⟨y2,z2,pn⟩:=aB ex;subst pn;have E:Z ay W2 w2:=Z.aR ap;have m:=(E.block c (ak bm) id).trans bm;have g2:=cellAt m 5 rfl;have f2:=cP (i:=5) m;have D:(cq w2 (R c 5)<|I y2 (y B) z2).heap[c]?=H (aw #[aE<|(num:X)+1,aE num,aE aU,(I y0 (y u) z0),(I y1 (y w) z1),(I y2 (y B) z2),az] 127 (0,0)):=(aH m).trans rfl;have j:Z (λk=>k=c) W2 (cq w2 (R c 5)<|I y2 (y B) z2):=(E.mono (T:=λk=>k=c) cL).setCell _ _ _<|.inl rfl;obtain⟨W3,kz⟩:∃W3,cq w2 (R c 5) (I y2 (y B) z2)=W3:=⟨_,rfl⟩;rw[kz]at D j;obtain⟨cM,fr,cx,cr,cv⟩:=iO D (fn.trans j<|λk d=>.inr<|by omega) (show W3.ownsRow (z<|G W2) 185 4 (I y2 (y B) z2) (y B) (dy B)by rw[<-kz];exact ex.kept (dN _ _ _ _)<|.inr (λq=>by have:=(ex.lt _ q).1;have:=ak bm;omega)) (j.own cp (λk d q=>by have:=(cp.lt k d).1;have:=ak av;omega))<|j.own cu (λk d q=>by have:=(cu.lt k d).1;have:=ak ba;omega);clear D j E m ap ex;go_wp2_with fail
   rw[gd];go_wp2_with fail
   apply(hV W3 fr).mono;rintro cf w2⟨m3,rfl,ey,ap⟩;obtain⟨y3,z3,pp⟩:=aB ey;subst pp;have E:Z ay W3 w2:=Z.aR ap;have m:=(E.block c (ak cM) id).trans cM;have g3:=cellAt m 6 rfl;have f3:=cP (i:=6) m;have D:(cq w2 (R c 6)<|I y3 (y C) z3).heap[c]?=H (aw #[aE<|(num:X)+1,aE num,aE aU,(I y0 (y u) z0),(I y1 (y w) z1),(I y2 (y B) z2),(I y3 (y C) z3)] 127 (0,0)):=(aH m).trans rfl;have j:Z (λk=>k=c) W3 (cq w2 (R c 6)<|I y3 (y C) z3):=(E.mono (T:=λk=>k=c) cL).setCell _ _ _<|.inl rfl;obtain⟨W4,lb⟩:∃W4,cq w2 (R c 6) (I y3 (y C) z3)=W4:=⟨_,rfl⟩;rw[lb]at D j;obtain⟨cT,T,cE,cs,cw,cB⟩:=lf D (fr.trans j<|λk d=>.inr<|by omega) (show W4.ownsRow (z<|G W3) 185 4 (I y3 (y C) z3) (y C) (dy C)by rw[<-lb];exact ey.kept (dN _ _ _ _)<|.inr (λq=>by have:=(ey.lt _ q).1;have:=ak cM;omega)) (j.own cr (λk d q=>by have:=(cr.lt k d).1;have:=ak av;omega)) (j.own cv (λk d q=>by have:=(cv.lt k d).1;have:=ak ba;omega))<|j.own cx (λk d q=>by have:=(cx.lt k d).1;have:=ak bm;omega);clear D j E m ap ey;go_wp2_with fail
   rw[gd];go_wp2_with fail
   have dc:cS W4 b s k:=(T.block b (ak ff) id).trans ff;have ko:∀f:Y,f.heap=W4.heap->(λ(f:Y)=>aW f (R b 2)=H (aA s.aI)/\aW f (R c 0)=H (aE<|(num:X)+1)/\aW f (R c 1)=H (aE num)/\aW f (R c 2)=H (aE aU)/\aW f (R c 3)=H (I y0 (y u) z0)/\aW f (R c 4)=H (I y1 (y w) z1)/\aW f (R c 5)=H (I y2 (y B) z2)/\aW f (R c 6)=H (I y3 (y C) z3)) f:=by
    intro f fv;have h1:f.heap[b]?=W4.heap[b]?:=by rw[fv]
    have h2:f.heap[c]?=W4.heap[c]?:=by rw[fv]
    have lx:cS f b s k:=h1.trans dc;have pf:=h2.trans cT;refine⟨lx.cell rfl,?_,?_,?_,?_,?_,?_,?_⟩<;>(rw[cg pf];rfl)
   have fx:=ko W4.drew rfl;have cl:=U dc;clear ko dc;have eB:dh (vw L.files) iR=none:=by
    obtain⟨qv,hj,fv⟩:=HM.files;rw[hj,gh];cases q:dh (vw i.files) iR with
    |some gr=>exact absurd rfl<|dv _ _ q
    |none=>
     rw[jk];cases q2:dh qv iR with
     |none=>rfl
     |some gr=>
      obtain⟨ce,_,cf,_⟩:=fv _<|nU q2;simp only[ib]at cf;exact absurd cf.1.symm<|qJ _
   have gj:=U eB;clear eB;have lv:cY aZ 169 #[aA s.aI,dC #[aE<|(num:X)+1,aE num,aE aU,I y0 (y u) z0,I y1 (y w) z1,I y2 (y B) z2,I y3 (y C) z3]] W4.drew λcf w'=>xz W4.drew w' s.aI L (Cz<|fT ((num:X)+1) num aU [u,w,B,C]) cf:=by
    have n:=J HM;have ad:=J bl;have lx:Z ay wr W4.drew:=T.of_heap rfl;have Q:∀ce∈us,ce.oH:=λce hu=>by
     have hx:∀{V:eV},rV wr s.aI (vw L.files) V ce->ce.oH:=λho=>by
      refine⟨ho.num,by have:=ho.small;omega,?_⟩;have h1:=mF<|λk d=>(ho.idx.can k d).fits;have h2:=ho.idx.len;rw[ho.ks];unfold fI;rw[af,cH];omega
     rcases n.Nq ce hu with q|⟨ch,_,_,q,_⟩
     .exact hx<|n.zn ce q
     .exact hx q
    have pf:y u+y w+y B+y C<=1000000:=by
     have:=n.len;rw[ad]at this;simp only[af]at this;omega
    have eB:=J gj;have fv:L.fx.room<1000000000:=by rw[n.fx.room];exact W.room
    refine UB s.aI L ((num:X)+1) num aU y0 y1 y2 y3 z0 z1 z2 z3 u w B C (λk d=>lx.cell (n.steps k d) id n.steps.lt) (dJ cs) (dJ cw) (dJ cB) (dJ cE) (λk d=>(cs.lt k d).2) (λk d=>(cw.lt k d).2) (λk d=>(cB.lt k d).2) (λk d=>(cE.lt k d).2) (λbi h=>Q bi (by rw[ad];simp[h])) (λbi h=>Q bi (by rw[ad];simp[h])) (λbi h=>Q bi (by rw[ad];simp[h])) (λbi h=>Q bi (by rw[ad];simp[h])) (by omega) (by omega) (by omega) pf (n.aI.aj lx<|λ_ _=>id) eB (by have:=n.gT;have:=W.gT;omega) fv
   have nm:=U lv;clear lv;rename_i QQ KK kk;refine dR (λ(f:Y)=>aW f (R b 2)=H (aA s.aI)/\aW f (R c 0)=H (aE<|(num:X)+1)/\aW f (R c 1)=H (aE num)/\aW f (R c 2)=H (aE aU)/\aW f (R c 3)=H (I y0 (y u) z0)/\aW f (R c 4)=H (I y1 (y w) z1)/\aW f (R c 5)=H (I y2 (y B) z2)/\aW f (R c 6)=H (I y3 (y C) z3)) 6 (by kernel_rfl) ?_;refine fh 0 ?_;iterate 5 (refine iz (v:=?_) fx rfl (by kernel_rfl) lk rfl ?_ ?_;rotate_left;(focus(rintro f⟨s2,q0,q1,q2,q3,q4,q5,q6⟩;go_simp;try rfl));simp only[Act.put,dW,Nat.reduceAdd])
   apply ii;refine bj (i:=5) rfl rfl (by kernel_rfl) ?_;intro K5 kd;go_simp;apply nm.mono;rintro cf w5⟨v5,bE,rfl,hq⟩;have eq:=hq.nW;have lg:∀k,L.aO s.aI k->k<c:=λk d=>by have:=HM.aI.lt k d;omega
   have hy:¬L.aO s.aI b:=λq=>by
    rcases HM.aO b q with F|F
    .exact hw F
    .have:=ak aV;omega
   have hh:cS w5 b s k:=(eq.aj.block b (ak cl) hy).trans cl;have O:w5.heap[c]?=_:=(eq.aj.block c (ak cT) (λq=>by have:=lg _ q;omega)).trans cT;obtain⟨cj,fg,K,nl,ip⟩:=iO hh O eq hq.uz hy;refine kd _ _ (λ_=>⟨hh.cell rfl,(by rw[cg O];rfl),(by rw[cg O];rfl),(by rw[cg O];rfl),(by rw[cg O];rfl),(by rw[cg O];rfl),(by rw[cg O];rfl),(by rw[cg O];rfl)⟩) ?_;clear kd eq hq hh O lg hy;try simp only[Act.put,dW]
   refine bj (i:=6) rfl rfl (by kernel_rfl) ?_;intro K6 kf;go_simp;refine kf _ _ (λq=>(q rfl).elim) ?_;refine eS (by kernel_rfl) ?_ _;show KK _ _;apply kk;clear kk kf fx;rcases J nl with⟨rfl,o5⟩|⟨l5,q5,c5,r1,r2,rfl,r3,r4⟩;rotate_left
   .have lx:=an.size;have P:Z (L.aO s.aI) wr w5:=(T.mono (T:=L.aO s.aI) cL).trans ((cZ (L.aO s.aI) W4).trans K.aj<|λ_ q=>.inl q)<|λ_ q=>.inl q;have hR:∀x,L.aO s.aI x->(Wr s.aI i ps x\/x=b)\/z (G a)<=x:=λx hx=>by
     rcases HM.aO x hx with F|F
     .exact .inl<|.inl<|.inl F
     .exact .inr<|by omega
    have fv:J4 a w5 b s k i bE ps (eD q5):=⟨K.ok,(bo.mono (T:=λk=>Wr s.aI i ps k\/k=b)<|λ_ q=>.inl<|.inl q).trans P hR,λk' bf=>by
     rcases K.aO k' bf with F|F
     .exact(HM.aO k' F).imp id<|λal=>by omega
     .have:=T.size;have:=bo.size;simp at F;exact .inr (by omega),HM.fx.trans K.fx,⟨s,cj,rfl,rfl⟩,q5,c5,rfl,r3,HM.fx.Xh W.wS r4⟩
    have HR:=U (show E8 a w5 b s k e aU B0 i ps (I x0 (y bp) o) (I x1 (y bq) p) (I x2 (y al) r) (I x3 (y br) t) bp bq al br (a0++b0++c0++d0) (aM<|eD q5)from .inr ⟨_,bE,rfl,fv,by
     rcases Zn (nx0:=s.next) (tp:=s.next+y bL) r1 with F|⟨l2,cf,F⟩
     .exact .inl ⟨_,by rw[J bx];exact(Qg<|HM.Qh W).JX F,mi.JX HM.ops r2⟩
     .refine .inr ⟨w1,wr,L,us,u,w,B,C,num,l2,an,by rw[J bx];exact HM,bl,HEq.1,HEq.2.1,HEq.2.2.1,HEq.2.2.2,F.trans ?_,by rw[<-cf];exact r2⟩;exact⟨_,rfl⟩⟩)
    clear fv P hR r1 r2 r3 r4;go_wp2;go_ret;have hR:=J HR;first
    |exact hR
    |(rw[bA,bA]at hR;exact hR)
   have hD:vw bE.files=oG (vw L.files) (eh,fT ((num:X)+1) num aU [u,w,B,C])/\bE.gT=[]:=by
    obtain⟨K1,h1,K2,⟨a1,_,a3⟩,b1,_,b3⟩:=vI (l:=TZ<|fT ((num:X)+1) num aU [u,w,B,C]) o5;exact⟨by rw[b1,a1];exact DW h1 gj,b3.trans a3⟩
   have iu:=U hD.1;have nd:=U hD.2;have hX:=U o5;clear hD o5;have n:=J HM;have mb:z (G a)<z (G w1):=ak ck;have rv:=n.aj.size;have P:Z (L.aO s.aI) wr w5:=(T.mono (T:=L.aO s.aI) cL).trans ((cZ (L.aO s.aI) W4).trans K.aj<|λ_ q=>.inl q)<|λ_ q=>.inl q;have eA:∀k,k<z (G w1)->¬i.aO s.aI k->¬L.aO s.aI k:=λk h1 h2 q=>(n.aO k q).elim h2 (λF=>by omega);have dn:∀k,k<z (G w1)->¬i.aO s.aI k->w5.heap[k]?=wr.heap[k]?:=λk h1 h2=>P.block k (by omega)<|eA k h1 h2;have pd:=g.le;have lp:∀ch∈ps,∀k,ch.has k->k<z (G w1)/\¬i.aO s.aI k:=λch hp k d=>by
    have h1:=(g.news ch hp).1.lt k d;exact⟨by omega,λq=>by have:=g.aO k q;omega⟩
   have lo:∀k,Kd s.aI b e i k->k<z (G w1)/\¬i.aO s.aI k:=λk d=>⟨by have:=d.1;omega,d.2.1⟩;have hg:∀{V:eV}{ce:bz},rV wr s.aI (vw L.files) V ce->(∀k,V k->k<z (G w1)/\¬i.aO s.aI k)->QC w5 ce:=λho fv=>by
    obtain⟨hE,ax,v,hm,lx⟩:=(ho.Gg<|λk d=>dn k (fv k d).1 (fv k d).2).mem;exact⟨ho.num,_,_,_,_,hE,ax,v,_,hm⟩
   have hf:∀bi∈a0++b0++c0++d0,QC w5 bi:=λbi h0=>hg (n.zn bi h0) lo;have kl:∀ce∈u++w++B++C,QC w5 ce:=λce hu=>by
    rw[<-J bl]at hu;rcases n.Nq ce hu with q|⟨ch,hp,_,q,_⟩
    .exact hf ce q
    .exact hg q<|lp ch hp
   have fu:Dm w5 b 10 [(s.l0,a0),(s.l1,b0),(s.l2,c0),(s.l3,d0)]:=by
    refine cm.aj (S:=λk=>Wr s.aI i ps k\/L.aO s.aI k) ((bo.mono (T:=λk=>Wr s.aI i ps k\/L.aO s.aI k)<|λ_ q=>.inl<|.inl q).trans P<|λ_ q=>.inl<|.inr q) ?_ ?_
    .rintro(q|q)
     .rcases q with F|⟨ch,hp,F|F⟩
      .exact hw F
      .have:=((g.news ch hp).1.lt b<|.inl F).1;omega
      .have:=((g.news ch hp).1.lt b<|.inr<|.inr F).1;omega
     .exact ip q
    .intro gi lx k' bf q;have fv:Kd s.aI b e i k':=by
      have:gi=0\/gi=1\/gi=2\/gi=3:=by simp at lx;omega
      rcases this with rfl|rfl|rfl|rfl
      .exact ei _ (.inl rfl) k' bf
      .exact ei _ (.inr<|.inl rfl) k' bf
      .exact ei _ (.inr<|.inr<|.inl rfl) k' bf
      .exact ei _ (.inr<|.inr<|.inr rfl) k' bf
     rcases q with F|F
     .rcases F with F|⟨ch,hp,F|F⟩
      .simp_all
      .have:=((g.news ch hp).1.lt k'<|.inl F).1;have:=fv.1;omega
      .have:=((g.news ch hp).1.lt k'<|.inr<|.inr F).1;have:=fv.1;omega
     simp_all
   have ao:∀bv(ts:cW),qE a s.aI b e i bv->Row wr 1 bv (y ts) (ts.map bz.ptr)->Row w5 1 bv (y ts) (ts.map bz.ptr)/\∀k,cK bv=H k->k<z (G w5):=λbv ts hv lr=>
    ⟨P.row lr<|λk d=>⟨eA k (by have:=(hv k d).1;omega) (hv k d).2.1,by have:=(hv k d).1;omega⟩,λk d=>by have:=(hv k d).1;have:=P.size;omega⟩
   have q0:=ao _ u g.b0 hY;have q1:=ao _ w g.b1 hZ;have q2:=ao _ B g.b2 ih;have q3:=ao _ C g.b3 il;have rs:y (u++w++B++C)<=1000000:=by rw[<-J bl,n.len];exact le
   have ea:Pow w5:=n.pow.dw<|dn _ (by have:=g.ml.1;omega) g.ml.2.1;have dT:=IZ a0 b0 c0 d0 u w B C cj fu q0.1 q1.1 q2.1 q3.1 q0.2 q1.2 q2.2 q3.2 hf kl ea pg (by omega) (by omega);have aF:=(dn (z<|G a) mb (λq=>by have:=g.aO _ q;omega)).trans hI;have bT:=cellAt aF 0 rfl;have ca:=cellAt aF 1 rfl;have cb:=cellAt aF 2 rfl;have cc:=cellAt aF 3 rfl;rw[<-J bl]at dT;obtain⟨nc,bb,fe,nf⟩:=fY dn P aF eA;clear n eA dn hg hf kl fu ao q0 q1 q2 q3 ea aF P lp lo;go_wp2_with fail
   apply dT.mono;rintro cf w6⟨v6,rfl,fb,ef⟩;obtain⟨ns,dx⟩:∃ns,ny s (a0++b0++c0++d0) us=ns:=⟨_,rfl⟩;rw[dx]at fb;obtain⟨x6,c6,pr⟩:=aB fb;subst pr;have A:cS w6 b s k:=(ef.block b (ak cj) id).trans cj;have ec:w6.heap[c]?=_:=(ef.block c (ak fg) id).trans fg;have bc:w6.heap[z<|G a]?=_:=(ef.block (z<|G a) (ak fe) id).trans fe;obtain⟨mo,mn,er⟩:=bY (cm.row 0<|by simp);obtain⟨ms,mp,es⟩:=bY (cm.row 1<|by simp);obtain⟨mx,mv,et⟩:=bY (cm.row 2<|by simp);obtain⟨mC,mA,eu⟩:=bY (cm.row 3<|by simp);simp only[cI,cD]at er es et eu;obtain⟨hN,hO,hP,hQ⟩:=fY er es et eu;have k7:aW w6 (R b 7)=H (I sl sf sd):=by rw[<-J ne];exact A.cell rfl
   have k8:=cS.cellAt A 8 rfl;have k9:=cS.cellAt A 9 rfl;have mc:aW w6 (R b 10)=H (I mo (y a0) mn):=by rw[<-er];exact A.cell rfl
   have md:aW w6 (R b 11)=H (I ms (y b0) mp):=by rw[<-es];exact A.cell rfl
   have me:aW w6 (R b 12)=H (I mx (y c0) mv):=by rw[<-et];exact A.cell rfl
   have mg:aW w6 (R b 13)=H (I mC (y d0) mA):=by rw[<-eu];exact A.cell rfl
   have mm:=cS.cellAt A 14 rfl;have qk:=cS.cellAt A 17 rfl;have qq:=cS.cellAt A 18 rfl;have qr:=cS.cellAt A 19 rfl;have qs:=cS.cellAt A 20 rfl;have qt:=cS.cellAt A 21 rfl;have fz:∀gi,w6.frozen? (R b gi)=aX:=λgi=>A.free;have f7:=fz 7;have f8:=fz 8;have f9:=fz 9;have iv:=fz 10;have jA:=fz 11;have jB:=fz 12;have jC:=fz 13;have jD:=fz 14;have ox:=fz 15;have oy:=fz 16;have oL:=fz 17;have pb:=fz 18;have pc:=fz 19;have bT:=cellAt bc 0 rfl;have ca:=cellAt bc 1 rfl;have cb:=cellAt bc 2 rfl;have cc:=cellAt bc 3 rfl;have t0:=cellAt ec 0 rfl;have t1:=cellAt ec 1 rfl;have n1:z (G a)≠b:=by omega
   have n2:c≠b:=by omega
   have n3:b≠z (G a):=by omega
   have n4:b≠c:=by omega
   obtain⟨mI,ej,nn,cn⟩:=fY A fb ef dx;clear A ec bc fb ef fz er es et eu dT dx;go_wp2_with fail
   rename_i rM nv fs;obtain⟨W7,ek⟩:∃W7,cq (cq (cq w6 (R b 7) az) (R b 8)<|ar 0) (R b 9) (aE aU)=W7:=⟨_,rfl⟩;have aa:cS W7 b {s with memory:=az,fm:=0,aS:=aU} k:=by rw[<-ek];exact(aH<|aH<|aH mI).trans rfl
   have bg:Z (λk=>k=b) w6 W7:=by rw[<-ek];exact((gZ b w6).setCell _ _ _<|.inl rfl).setCell _ _ _<|.inl rfl
   have bT:aW W7 (R (z<|G a) 0)=H (I x0 (y bp) o):=bg.cell bT n1<|rl bT;have ca:aW W7 (R (z<|G a) 1)=H (I x1 (y bq) p):=bg.cell ca n1<|rl ca;have cb:aW W7 (R (z<|G a) 2)=H (I x2 (y al) r):=bg.cell cb n1<|rl cb;have cc:aW W7 (R (z<|G a) 3)=H (I x3 (y br) t):=bg.cell cc n1<|rl cc;have t0:aW W7 (R c 0)=H (aE<|(num:X)+1):=bg.cell t0 n2<|rl t0;have t1:aW W7 (R c 1)=H (aE num):=bg.cell t1 n2<|rl t1;have mc:aW W7 (R b 10)=H (I mo (y a0) mn):=by rw[<-J hN];exact aa.cell rfl
   have md:aW W7 (R b 11)=H (I ms (y b0) mp):=by rw[<-J hO];exact aa.cell rfl
   have me:aW W7 (R b 12)=H (I mx (y c0) mv):=by rw[<-J hP];exact aa.cell rfl
   have mg:aW W7 (R b 13)=H (I mC (y d0) mA):=by rw[<-J hQ];exact aa.cell rfl
   have mm:=cS.cellAt aa 14 rfl;have iv:W7.frozen? (R b 10)=aX:=aa.free;have jA:W7.frozen? (R b 11)=aX:=aa.free;have jB:W7.frozen? (R b 12)=aX:=aa.free;have jC:W7.frozen? (R b 13)=aX:=aa.free;have jD:W7.frozen? (R b 14)=aX:=aa.free;have mK:=U aa;have gk:=U bg;rw[ek];clear ek aa bg;apply Gm nv
   .intro fv;go_region
    all_goals exact fv
   refine fs _ _ ?_;clear fs;obtain⟨W8,el⟩:∃W8,(cq (cq (cq (cq (cq W7 (R b 10)<|I x0 (y bp) o) (R b 11)<|I x1 (y bq) p) (R b 12)<|I x2 (y al) r) (R b 13)<|I x3 (y br) t) (R b 14)<|aE<|(num:X)+1).drew=W8:=⟨_,rfl⟩;have ac:cS W8 b {s with memory:=az,fm:=0,aS:=aU,l0:=I x0 (y bp) o,l1:=I x1 (y bq) p,l2:=I x2 (y al) r,l3:=I x3 (y br) t,next:=num+1} k:=by
    rw[<-el];exact(aH<|aH<|aH<|aH<|aH mK).trans rfl
   have hB:Z (λk=>k=b) W7 W8:=by
    rw[<-el];exact(((((gZ b W7).setCell _ _ _<|.inl rfl).setCell _ _ _<|.inl rfl).setCell _ _ _<|.inl rfl).setCell _ _ _<|.inl rfl).cz<|cZ ay _
   have t1:aW W8 (R c 1)=H (aE num):=hB.cell t1 n2<|rl t1;have qk:=cS.cellAt ac 17 rfl;have qq:=cS.cellAt ac 18 rfl;have qr:=cS.cellAt ac 19 rfl;have qs:=cS.cellAt ac 20 rfl;have qt:=cS.cellAt ac 21 rfl;have ox:W8.frozen? (R b 17)=aX:=ac.free;have oy:W8.frozen? (R b 18)=aX:=ac.free;have oL:W8.frozen? (R b 19)=aX:=ac.free;have pb:W8.frozen? (R b 20)=aX:=ac.free;have pc:W8.frozen? (R b 21)=aX:=ac.free;have mN:=U ac;have gn:=U hB;rw[el];clear el ac hB mc md me mg mm k7 k8 k9 f7 f8 f9 iv jA jB jC jD bT ca cb cc t0;go_wp2_with fail
   obtain⟨W9,em⟩:∃W9,cq (cq (cq (cq (cq W8 (R b 17)<|aE num) (R b 18)<|aN aX) (R b 19)<|aN aX) (R b 20)<|aN aX) (R b 21) (aN aX)=W9:=⟨_,rfl⟩;have hi:cS W9 b (s.settled (I x0 (y bp) o) (I x1 (y bq) p) (I x2 (y al) r) (I x3 (y br) t) aU num) k:=by
    rw[<-em];exact(aH<|aH<|aH<|aH<|aH mN).trans rfl
   have fd:Z (λk=>k=b) W8 W9:=by
    rw[<-em];exact((((gZ b W8).setCell _ _ _<|.inl rfl).setCell _ _ _<|.inl rfl).setCell _ _ _<|.inl rfl).setCell _ _ _<|.inl rfl
   have ed:Z (λk=>k=b) w5 W9:=((nn.mono (T:=λk=>k=b) cL).trans (gk.trans (gn.trans fd<|λ_ q=>.inl q)<|λ_ q=>.inl q)<|λ_ q=>.inl q);rw[em];have dv:=J cn;have dk:=nb us;rw[dv]at dk;have eb:¬bE.aO s.aI b:=λq=>by
    rcases K.aO b q with F|F
    .exact ip F
    .have:=ak cl;simp at F;omega
   have jK:cG W9 s.aI bE:=K.ok.aj ed (λk d q=>by rw[q]at d;exact eb d);have ls:=En (I x6 (y ns) c6) ns hi jK eb (dJ<|((gk.trans (gn.trans fd<|λ_ q=>.inl q)<|λ_ q=>.inl q)).own ej (λk d q=>by have:=(ej.lt k d).1;have:=ak cj;omega)) (λeg a=>⟨ag (ej.lt eg a).2<|((gk.trans (gn.trans fd<|λ_ q=>.inl q)<|λ_ q=>.inl q)).size,λq=>by have h1:=(ej.lt eg a).1;have h2:=K.ok.lt eg q;omega⟩) dk.1 (λbh fv=>by
    obtain⟨pf,⟨gr,lx⟩,_⟩:=dk.2 bh fv;obtain⟨qv,hj,_⟩:=HM.files;refine⟨gr,?_⟩;rw[J iu,mh,dF (λq=>pf q.symm),hj,gh,lx];rfl) (by
    rw[J nd];have:y ns<=1+y (a0++b0++c0++d0):=by
     rw[<-dv];unfold ny;rw[af,dj];have h1:y (mT (a0++b0++c0++d0) us)<=y (a0++b0++c0++d0):=ep _ _;split<;>simp<;>simp at h1<;>omega
    grind) (λbh fv=>(dk.2 bh fv).2.2)
   have hG:=U hi;have bn:=U ed;clear hi fd ed jK dk dv em;apply ls.mono;rintro cf w'⟨v8,K8,rfl,hr⟩;have bk:=U hr.nW;have hs:=hr.uz;clear hr ls;have kb:∀k,k<z (G a)->¬i.aO s.aI k->k≠b->w'.heap[k]?=wr.heap[k]?:=by
    intro k' h1 h2 h3;have g1:w5.heap[k']?=wr.heap[k']?:=nc k' (by omega) h2;have g2:W9.heap[k']?=w5.heap[k']?:=bn.block k' (by have:=bb.size;omega) h3;refine(bk.aj.block k' (by have:=bb.size;have:=bn.size;omega)<|λq=>?_).trans<|g2.trans g1;rcases K.aO k' q with F|F
    .exact nf k' (by omega) h2 F
    .have:=T.size;simp at F;omega
   have kt:Z (λk=>Wr s.aI i ps k\/k=b) a w':=by
    have qb:=bb.size;have px:=T.size;have hR:∀x,L.aO s.aI x->(Wr s.aI i ps x\/x=b)\/z (G a)<=x:=λx hx=>by
     rcases HM.aO x hx with F|F
     .exact .inl<|.inl<|.inl F
     grind
    refine(((bo.mono (T:=λk=>Wr s.aI i ps k\/k=b)<|λ_ q=>.inl<|.inl q).trans bb hR).trans bn<|λ_ q=>.inl<|.inr q).trans bk.aj<|λx hx=>?_;rcases K.aO x hx with F|F
    .exact hR x F
    .simp at F;grind
   have ka:∀k,K8.aO s.aI k->i.aO s.aI k\/z (G a)<=k:=by
    intro k' bf;have qb:=bb.size;have px:=T.size;have fv:=bn.size;rcases bk.aO k' bf with F|F
    .rcases K.aO k' F with F|F
     .rcases HM.aO k' F with F|F
      .exact .inl F
      grind
     .simp at F;grind
    grind
   have jG:cS w' b (s.settled (I x0 (y bp) o) (I x1 (y bq) p) (I x2 (y al) r) (I x3 (y br) t) aU num) k:=(bk.aj.block b (ak hG) eb).trans hG;have kc:Fx i.fx K8.fx:=(HM.fx.trans K.fx).trans bk.fx;obtain⟨na,it,hK,hJ,hM⟩:=iO kb kt ka jG kc;clear kb kt ka jG kc;rcases hs with⟨rfl,o8⟩|⟨l8,q8,c8,r1,r2,rfl,r3,r4⟩
   .have aD:mi (TZ (fT ((num:X)+1) num aU [u,w,B,C])++(.sd::ns.map .rm)) L K8:=by
     have:=mi.JX hX o8;rwa[show Cz (fT ((num:X)+1) num aU [u,w,B,C])++ns.map wM.rm=TZ (fT ((num:X)+1) num aU [u,w,B,C])++(.sd::ns.map .rm)from rfl]at this
    obtain⟨e1,e2⟩:=Zo aD gj;have fv:=U<|show QI a w' b s k e aU B0 i ps (I x0 (y bp) o) (I x1 (y bq) p) (I x2 (y al) r) (I x3 (y br) t) bp bq al br (a0++b0++c0++d0)from⟨w1,wr,L,K8,us,u,w,B,C,num,an,by rw[J bx];exact HM,bl,HEq.1,HEq.2.1,HEq.2.2.1,HEq.2.2.2,hJ,bk.ok,by rw[J cn];exact e1,by rw[<-J iu];exact K.ok.nodup,by rw[J cn];exact e2,na,it,hK,hM,by rw[J cn];exact aD⟩;clear aD e1 e2 o8;go_wp2;go_ret;exact .inl ⟨rfl,fv⟩
   .have aD:mi (TZ (fT ((num:X)+1) num aU [u,w,B,C])++(.sd::l8)) L K8:=by
     have:=mi.JX hX r2;rwa[show Cz (fT ((num:X)+1) num aU [u,w,B,C])++l8=TZ (fT ((num:X)+1) num aU [u,w,B,C])++(.sd::l8)from rfl]at this
    have HR:=U<|show E8 a w' b s k e aU B0 i ps (I x0 (y bp) o) (I x1 (y bq) p) (I x2 (y al) r) (I x3 (y br) t) bp bq al br (a0++b0++c0++d0) (aM<|eD q8)from .inr ⟨_,K8,rfl,⟨bk.ok,it,hK,hM,⟨_,hJ,rfl,rfl⟩,q8,c8,rfl,r3,(HM.fx.trans K.fx).Xh W.wS r4⟩,.inr ⟨w1,wr,L,us,u,w,B,C,num,_,an,by rw[J bx];exact HM,bl,HEq.1,HEq.2.1,HEq.2.2.1,HEq.2.2.2,by rw[J cn];exact ng.2 ⟨rfl,r1⟩,aD⟩⟩;clear aD r1 r2 r3 r4;go_wp2;go_ret;exact HR
theorem AO{u v:M}(h:fa u=fa v):u=v:=by
 have:=sO h;rw[sX,sX,tv]at this;rw[<-rk u,this,rk]
theorem OV{fs:Fs}{g:ae×eR}{x:ae}(h:x∈(oG fs g).map (·.1)):x=g.1\/x∈fs.map (·.1):=by
 induction fs with
 |nil=>left;simpa[oG]using h
 |cons k r i=>
  by_cases j:k.1=g.1
  .simp only[oG,dH j,cy,bJ]at h|-;rcases h with h|h
   .exact .inl h
   .exact .inr<|.inr h
  .simp only[oG,dF j,cy,bJ]at h|-;rcases h with h|h
   .exact .inr<|.inl h
   .exact(i h).imp id .inr
theorem OU{fs:Fs}{j:ae×eR}(h:(fs.map (·.1)).Nodup):((oG fs j).map (·.1)).Nodup:=by
 induction fs with
 |nil=>simp[oG]
 |cons k r i=>
  rw[cy,iD]at h;by_cases g:k.1=j.1
  .simp only[oG,dH g,cy,iD];rw[<-g];exact h
  .simp only[oG,dF g,cy,iD];exact⟨λq=>(OV q).elim g h.1,i h.2⟩
def FN(n:ae):Prop:=n=iR\/∃m,m<18446744073709551616/\(n=fQ m\/n=fa m)
def Np(n:M)(fs:Fs):Prop:=∃L:cJ ae,y L<=n/\∀m g,dh fs m=H g->m∈L
theorem Np.len{n:M}{fs:Fs}(o:Np n fs)(j:(fs.map (·.1)).Nodup):y fs<=n:=by
 obtain⟨L,p,i⟩:=o;have:=BT (m:=L) j (λx k=>by obtain⟨h,g⟩:=pF k;exact i x h g);rw[dj]at this;omega
theorem FU.Kj{fs:Fs}{nx f tbqq:M}{a b c d:cW}{e:Bool}{lsqq:dS}(k:FU fs nx f tbqq a b c d e lsqq)(i:y (a++b++c++d)<=1000000):Np 1000002 fs:=by
 refine⟨eh::fa f::(a++b++c++d).map (λt=>fQ t.num),by simp at i|-;omega,λm h q=>?_⟩;rcases k.names m h q with g|⟨g,_⟩|⟨t,j,g⟩;simp[g];simp[g];rw[g];exact du _<|du _<|bR.2 ⟨t,j,rfl⟩
theorem Np.Yi{n nx tp:M}{fs fs':Fs}(p:Np n fs)(i:∀m g,dh fs' m=H g->yC nx tp m\/dh fs m=H g):Np (n+1+(tp-nx)) fs':=by
 obtain⟨L,r,j⟩:=p;refine⟨L++iR::(List.range<|tp-nx).map (λs=>fQ<|nx+s),by simp;omega,λm g q=>?_⟩;rcases i m g q with(h|⟨t,k,o,h⟩)|h;simp[h];refine aG.2<|.inr<|du _<|bR.2 ⟨t-nx,jY.2 (by omega),?_⟩;rw[h];congr 1;omega;exact aG.2<|.inl<|j m g h
theorem Np.mono{n g:M}{fs:Fs}(j:Np n fs)(o:n<=g):Np g fs:=by
 obtain⟨L,m,h⟩:=j;exact⟨L,by omega,h⟩
theorem Np.one{n:M}{fs fs':Fs}{x:ae}(o:Np n fs)(i:∀m g,dh fs' m=H g->m=x\/∃b,dh fs m=H b):Np (n+1) fs':=by
 obtain⟨L,p,j⟩:=o;refine⟨x::L,by simp;omega,λm g q=>?_⟩;rcases i m g q with h|⟨b,h⟩;simp[h];exact du _<|j m b h
structure sh(fs:Fs)(nx f tb:M)(a b c d:cW)(ez:Bool)(ls:dS):Prop where
 names:∀n bs,dh fs n=H bs->n=eh\/FN n
 Kj:Np 4000000 fs
 first:dh fs eh=none->∀n bs m,dh fs n=H bs->n=fQ m\/n=fa m->m<=2
 Ge:ez=aX->dh fs (fa f)=none
 state:dh fs eh=H (fT nx f tb [a,b,c,d])\/(dh fs eh=none/\a=[]/\b=[]/\c=[]/\d=[]/\nx=2/\f=1/\tb=0)
 log:ez=ci->dh fs (fa f)=H (jZ ((tb:X)+1) ls)
 vJ:ez=aX->ls=[]
 oK:∀t∈a++b++c++d,dh fs (fQ t.num)=H (nC t.cs)
 qf:((a++b++c++d).map bz.num).Nodup
 low:∀t∈a++b++c++d,t.num<nx/\t.num≠f
 lt:f<nx
 iP:∀t∈a++b++c++d,Bl t
section
variable{fs:Fs}{K K':DK}{nx f tbqq tp:M}{a b c d:cW}{e:Bool}{lsqq:dS}{l:cJ wM}
theorem FU.left(i:FU fs nx f tbqq a b c d e lsqq)(s:nx<=18446744073709551616)(m:y (a++b++c++d)<=1000000):sh fs nx f tbqq a b c d e lsqq where
 Kj:=(i.Kj m).mono<|by omega
 names:=λr j q=>by
  rcases i.names r j q with h|⟨h,_⟩|⟨t,k,h⟩
  .exact .inl h
  .exact .inr<|.inr ⟨f,by have:=i.lt;omega,.inr h⟩
  .exact .inr<|.inr ⟨t.num,by have:=(i.low t k).1;omega,.inl h⟩
 first:=λq r j p o n=>by
  rcases i.state with h|⟨_,rfl,rfl,rfl,rfl,rfl,rfl,rfl⟩
  .rw[h]at q;cases q
  .rcases i.names r j o with h|⟨h,_⟩|⟨t,k,_⟩
   .rcases n with c|c
    .exact absurd (c.symm.trans h)<|oo p
    .exact absurd (c.symm.trans h)<|kL p
   .rcases n with c|c
    .exact absurd (c.symm.trans h)<|iA p 1
    .have:=AO<|c.symm.trans h;omega
   .simp at k
 Ge:=λq=>by
  cases g:dh fs (fa f)with
  |none=>rfl
  |some j=>
   rcases i.names _ _ g with h|⟨_,h⟩|⟨t,k,h⟩
   .exact absurd h<|kL f
   .rw[q]at h;cases h
   .exact absurd h.symm<|iA _ _
 state:=i.state
 log:=i.log
 vJ:=i.vJ
 oK:=i.oK
 qf:=i.qf
 low:=i.low
 lt:=i.lt
 iP:=i.iP
theorem UW(u:QD nx tp l):∀{K:DK},mi l K K'->(∀n,¬yC nx tp n->dh (vw K'.files) n=dh (vw K.files) n)/\∀n j,dh (vw K'.files) n=H j->yC nx tp n\/dh (vw K.files) n=H j:=by
 induction l with
 |nil=>intro K L;rw[L.1];exact⟨λ_ _=>rfl,λ_ _ q=>.inr q⟩
 |cons C l B=>
  rintro K⟨s,o,w⟩;obtain⟨x,A⟩:=B (λC g=>u C<|du _ g) w;have r:∃m,yC nx tp m/\∀n,n≠m->dh (vw s.files) n=dh (vw K.files) n:=by
   rcases u C (by simp)with⟨m,g,rfl⟩|⟨m,j,g,rfl⟩|⟨m,g,rfl⟩
   .obtain⟨E,D,i,_⟩:=o;refine⟨m,g,λn h=>?_⟩;have:vw s.files=vw K.files++[(m,[])]:=by rw[i];simp[vw]
    rw[this,gh];have p:¬m=n:=λq=>h q.symm;simp[dh,p]
   .obtain⟨F,p,k,i,_⟩:=o;refine⟨m,g,λn h=>?_⟩;rw[i,xK,mh,dF<|λq=>h (by rw[<-q];exact(je k).1)]
   .obtain⟨F,k,i,_⟩:=o;refine⟨m,g,λn h=>?_⟩;rw[i,xK,mh,dF<|λq=>h (by rw[<-q];exact(je k).1)]
  obtain⟨m,g,t⟩:=r;refine⟨λn h=>(x n h).trans<|t n<|λv=>h<|v▸g,λn j q=>?_⟩;by_cases v:n=m
  .exact .inl<|v▸g
  .exact(A n j q).imp id (λE=>by rw[<-t n v];exact E)
theorem sh.Yi(h:sh (vw K.files) nx f tbqq a b c d e lsqq)(v:QD nx tp l)(w:mi l K K')(D:tp<=18446744073709551616)(u:dh (vw K.files) eh=none->tp<=3)(E:Np 2000000 (vw K.files))(C:tp<=nx+1000000):sh (vw K'.files) nx f tbqq a b c d e lsqq:=by
 obtain⟨k,n⟩:=UW v w;have B:¬yC nx tp eh:=by rintro(g|⟨m,_,_,g⟩);exact we g;exact oo m g.symm
 have j:¬yC nx tp (fa f):=by rintro(g|⟨m,_,_,g⟩);exact wz _ g;exact iA _ _ g.symm
 have p:dh (vw K'.files) eh=dh (vw K.files) eh:=k _ B;refine{h with Kj:=(E.Yi n).mono (by omega),names:=λs i q=>?_,first:=λq s i m A o=>?_,Ge:=λq=>by rw[k _ j];exact h.Ge q,state:=by rw[p];exact h.state,log:=λq=>by rw[k _ j];exact h.log q,oK:=λF r=>?_};rcases n s i q with(g|⟨m,_,L,g⟩)|g;exact .inr<|.inl g;exact .inr<|.inr ⟨m,by omega,.inl g⟩;exact h.names s i g;rw[p]at q;rcases n s i A with(g|⟨N,t,L,g⟩)|g;rcases o with c|c;exact absurd (c.symm.trans g)<|qJ m;exact absurd (c.symm.trans g)<|wz m;rcases o with c|c;have:=pX<|c.symm.trans g;have:=u q;omega;exact absurd (g.symm.trans c)<|iA _ _;exact h.first q s i m g o;rw[k];exact h.oK F r;rintro(g|⟨m,t,_,g⟩);exact qJ _ g;have:=pX g;have:=(h.low F r).1;omega
theorem OI{i:eR}{h:cJ ae}(r:l<+: .sd::h.map .rm)(v:mi (TZ i++l) K K')(p:dh (vw K.files) iR=none):∃w,vw K'.files=wT (oG (vw K.files) (eh,i)) (h.take w):=by
 obtain⟨t,o,k⟩:=vI v;have j:=DW o p;cases l with
 |nil=>exact⟨0,by rw[k.1,j];rfl⟩
 |cons A l=>
  obtain⟨rfl,g⟩:=ng.1 r;obtain⟨u,⟨n,_,_⟩,m⟩:=k;refine⟨y l,?_⟩;have q:l=(h.take<|y l).map .rm:=by
   obtain⟨B,s⟩:=g;rw[uM,<-s,kS]
  rw[q]at m;rw[(Ey m).1,n,j]
end
def UC(h:j.map (λO=>(O.tb,O.ks,O.cs))=W.map (λO=>(O.tb,O.ks,O.cs)))(b:O∈j):∃u∈W,O.tb=u.tb/\O.ks=u.ks/\O.cs=u.cs:=by
 have a:(O.tb,O.ks,O.cs)∈W.map (λO=>(O.tb,O.ks,O.cs)):=by rw[<-h];grind
 grind
def sV(h:j.map (λt=>(t.tb,t.ks,t.cs))=W.map (λt=>(t.tb,t.ks,t.cs)))(a:ji W):ji j:=by
 refine⟨λt d=>?_,by rw[(iB h).2.2.2];exact a.mj,by rw[(iB h).2.2.1];exact a.Du⟩;obtain⟨u,e,_,b,c⟩:=UC h d;rw[b,c];exact a.pure u e
def GR{e f g h:cW}(a:j.map (λt=>(t.tb,t.ks,t.cs))=e.map (λt=>(t.tb,t.ks,t.cs)))(b:W.map (λt=>(t.tb,t.ks,t.cs))=f.map (λt=>(t.tb,t.ks,t.cs)))(c:u.map (λt=>(t.tb,t.ks,t.cs))=g.map (λt=>(t.tb,t.ks,t.cs)))(d:v.map (λt=>(t.tb,t.ks,t.cs))=h.map (λt=>(t.tb,t.ks,t.cs))):bU j W u v=bU e f g h:=by
 unfold bU;rw[(iB a).2.2.1,(iB b).2.2.2,(iB c).2.2.2,(iB d).2.2.2]
def o7(e f g h a b c d:cW):Prop:=a.map bz.all=e.map bz.all/\b.map bz.all=f.map bz.all/\c.map bz.all=g.map bz.all/\d.map bz.all=h.map bz.all
structure YJ(w w':Y)(sb:M)(s:SR)(k:X)(n C:M)(K:DK)(v0 v1 v2 v3:ab)(a b c d:cW)(K':DK)(num:M)(a' b' c' d':cW):Prop where
 box:cS w' sb (s.settled v0 v1 v2 v3 n num) k
 st:ST w' sb (s.settled v0 v1 v2 v3 n num) K' [] a' b' c' d' C
 qD:FU (vw K'.files) (num+1) num n a' b' c' d' aX []
 fx:Fx K.fx K'.fx
 ops:∃ns:cJ ae,mi (Hi s.next (a'++b'++c'++d')++(TZ (fT ((num:X)+1) num n [a',b',c',d'])++(.sd::ns.map .rm))) K K'
 rows:bU a' b' c' d'=bU a b c d
 Hj:((a'++b'++c'++d').map bz.tb).Nodup
 gT:y K'.gT<=1000001
 num:s.next<=num/\num<=s.next+1000000
 aO:∀k,K'.aO s.aI k->K.aO s.aI k\/z (G w)<=k
 al:o7 a b c d a' b' c' d'
structure I7(fs:Fs)(s:SR)(n num:M)(a b c d a' b' c' d':cW):Prop where
 qD:sh fs (num+1) num n a' b' c' d' aX []
 rows:bU a' b' c' d'=bU a b c d
 num:s.next<=num/\num<=s.next+1000000
 al:o7 a b c d a' b' c' d'
 s1:ji b'
 s2:ji c'
 s3:ji d'
def N4(w i:Y)(a:M)(s:SR)(k:X)(D F:M)(K:DK)(j:cJ NT)(p q r t:ab)(u v A B l m n o:cW)(h:M)(g:dS)(C:Ending):Prop:=(C=aM .nilIface/\∃b num c d e f,YJ w i a s k D F K p q r t u v A B b num c d e f/\Z (λk=>Wr s.aI K j k\/k=a) w i)\/∃E b,C=aM E/\J4 w i a s k K b j E/\(sh (vw b.files) s.next s.log h l m n o s.ez g\/∃num c d e f,I7 (vw b.files) s D num u v A B c d e f)
def Pt(e cM bT bd:M)(ps:cJ NT)(v0 v1 v2 v3:ab)(bx bE bv bL r s v w:cW)(bc:dS)(dn:cS a b o k)(d:LS a o.aI b e i (r++s++v++w) ps cM v0 v1 v2 v3 bx bE bv bL)(ch:Dm a b 10 [(o.l0,r),(o.l1,s),(o.l2,v),(o.l3,w)])(hd:cG a o.aI i)(br:¬i.aO o.aI b)(C:FU (vw i.files) o.next o.log bd r s v w o.ez bc)(dk:y (jZ ((bd:X)+1) bc)<=200000)(hn:bT<1000000000000000)(db:o.next<=900000000000000)(ck:y i.gT<=10000000000)(an:y (r++s++v++w)<=1000000)(bm:∃x bT bv,o.memory=I x bT bv)(cf:∀ap,ap=o.l0\/ap=o.l1\/ap=o.l2\/ap=o.l3->∀k,cK ap=H k->Kd o.aI b e i k)(cp:i.fx.room<1000000000)(bh:dh (vw i.files) eh=none->y (bx++bE++bv++bL)<=1):cY aZ 105 #[aA b,dC #[v0,v1,v2,v3],aE bT] a λf w'=>N4 a w' b o k bT cM i ps v0 v1 v2 v3 bx bE bv bL r s v w bd bc f:=by
 have W:=d.count;have K:∀t∈r++s++v++w,t.num<o.next:=λt c=>(C.low t c).1;have bl:∀t∈r++s++v++w,∀u∈r++s++v++w,t.num=u.num->t=u:=by intro t c u D f;obtain⟨dr,S,rfl⟩:=gO.1 c;obtain⟨cB,hj,rfl⟩:=gO.1 D;have hn:=cU.1 C.qf;grind
 have al:∀p,o.next<=p->dh (vw i.files) (fQ p)=none:=by
  intro p B;cases q:dh (vw i.files) (fQ p)with
  |none=>rfl
  |some n=>
   rcases C.names _ _ q with f|⟨f,_⟩|⟨t,c,f⟩
   .grind[oo]
   .grind[iA]
   grind[pX]
 have ca:∀W,Z ay a W->CF W o.aI b e i (r++s++v++w) ps (bx++bE++bv++bL) o.next 201000000000:=λW c=>{le:=aC d.le c.size,aO:=d.aO,KL:=d.KL,xt:=λt f=>(by simp only[aG]at f;rcases f with((q|q)|q)|q<;>first|exact d.x0 t q|exact d.x1 t q|exact d.x2 t q|exact d.x3 t q),nodup:=d.nodup,apart:=d.apart,news:=λav O=>⟨(d.news av O).1.aj c<|λ_ _ q=>q,(d.news av O).2⟩,inj:=bl,low:=K,fresh:=al,fS:=d.fS,ml:=d.ml,small:=by grind,nx:=by omega,room:=cp,wS:=hd.wS,gT:=ck}
 have E:∀m,(ny o (r++s++v++w) m).Nodup/\∀p∈ny o (r++s++v++w) m,p≠eh/\(∃n,dh (vw i.files) p=H n)/\Nm p:=by
  intro m;have S:(mT (r++s++v++w) m).Sublist (r++s++v++w):=eW;have bn:((mT (r++s++v++w) m).map<|λt=>fQ t.num).Nodup:=by
   have j:((mT (r++s++v++w) m).map bz.num).Nodup:=C.qf.sublist<|S.map _;unfold List.Nodup at j|-;rw[ki]at j|-;grind[pX]
  have V:∀p∈(mT (r++s++v++w) m).map (λt=>fQ t.num),p≠eh/\(∃n,dh (vw i.files) p=H n)/\Nm p:=by
   intro p B;obtain⟨t,c,rfl⟩:=bR.1 B;exact⟨oo _,⟨_,C.oK t<|S.subset c⟩,EH (by have:=(C.low t<|S.subset c).1;omega)⟩
  unfold ny;cases aU:o.ez with
  |false=>
   rw[dF (by simp),cV];grind
  |true=>
   rw[dH rfl];refine⟨?_,λp B=>?_⟩
   .rw[jF,iD];grind[iA]
   .rcases aG.1 B with q|q
    .rw[dp]at q;rw[q];exact⟨kL _,⟨_,C.log aU⟩,zN (by have:=C.lt;omega)⟩
    .exact V p q
 refine(MN e cM bT 201000000000 ps v0 v1 v2 v3 bx bE bv bL r s v w dn d ca ch hd br hn (by have:=C.lt;omega) an (λp n B f=>?_) bm cf E).mono ?_;rcases C.names _ _ B with q|⟨q,_⟩|⟨t,_,q⟩;exact we<|q.symm.trans f;(grind[wz]);grind[qJ]
 have ba:o.next<=18446744073709551616:=by omega
 rintro f w'(⟨rfl,w1,wr,KR,K8,m,a',b',c',d',num,bt,A,h,ea,eb,ec,ed,cb,cc,bb,bo,cj,aF,ao,aD,cd,bq⟩|⟨ap,K',rfl,hE,⟨ds,hl,ho⟩|⟨w1,wr,KR,m,a',b',c',d',num,l2,bt,A,h,ea,eb,ec,ed,co,cn⟩⟩);rotate_left
 .exact .inr ⟨ap,K',rfl,hE,.inl ((C.left ba an).Yi hl ho (by simp only[af]at W|-;omega) (λq=>by
   have j:=bh q;rcases C.state with f|⟨_,_,_,_,_,f,_⟩
   .rw[f]at q;cases q
   .omega) ((C.Kj an).mono (by omega)) (by simp only[af]at W|-;omega))⟩
 .refine .inr ⟨ap,K',rfl,hE,.inr ⟨num,a',b',c',d',?_⟩⟩;have aV:num<=o.next+1000000:=by have:=A.lX.2;simp only[af]at W this;omega
  obtain⟨gs,aa,ac⟩:=A.files;have cm:dh (vw KR.files) iR=none:=by
   cases q:dh (vw KR.files) iR with
   |none=>rfl
   |some n=>
    rw[aa,gh]at q;cases q1:dh (vw i.files) iR with
    |some bu=>
     rcases C.names _ _ q1 with f|⟨f,_⟩|⟨t,_,f⟩
     .exact absurd f.symm we
     .exact absurd f.symm<|wz _
     .exact absurd f.symm<|qJ _
    |none=>
     rw[q1,jk]at q;obtain⟨u,_,f,_⟩:=ac _<|nU q;simp only[ib]at f;exact absurd f.1.symm<|qJ _
  obtain⟨cB,hj⟩:=OI co cn cm;have bn:((oG (vw KR.files) (eh,fT ((num:X)+1) num bT [a',b',c',d'])).map (·.1)).Nodup:=OU A.aI.nodup;have ce:=E m;have S:∀u∈m,dh (vw KR.files) (fQ u.num)=H (nC u.cs)/\Bl u/\u.num<num:=λu D=>by
   rcases A.Nq u D with q|⟨av,O,_,q,_,q2⟩
   .have:=A.zn u q;exact⟨this.file,⟨this.ks,this.pure,this.idx,this.small,this.num⟩,by have:=K u q;have:=A.lX.1;omega⟩
   .exact⟨q.file,⟨q.ks,q.pure,q.idx,q.small,q.num⟩,q2⟩
  have bp:∀u∈m,fQ u.num∉(ny o (r++s++v++w) m).take cB:=λu D q=>by
   have q:=dZ q;unfold ny at q;rcases aG.1 q with P|P
   .grind[mem_singleton,iA]
   .obtain⟨t,c,f⟩:=bR.1 P;have e2:=pX f;unfold mT at c;rw[dL]at c;have:m.any (λu=>u.num==t.num)=ci:=ol.2 ⟨u,D,by rw[e2];grind⟩;rw[this]at c;simp at c
  have V:∀p n,dh (vw K'.files) p=H n->p=eh\/dh (vw KR.files) p=H n:=λp n B=>by
   rw[hj]at B;obtain⟨_,L⟩:=qR bn B;rw[mh]at L;by_cases q:eh=p
   .exact .inl q.symm
   .rw[dF q]at L;exact .inr L
  have au:∀p n,dh (vw KR.files) p=H n->p=eh\/(p=fa o.log)\/∃u,u<num/\p=fQ u:=λp n B=>by
   rw[aa,gh]at B;cases P:dh (vw i.files) p with
   |none=>
    rw[P,jk]at B;obtain⟨u,D,f,_⟩:=ac _<|nU B;simp only[ib]at f;exact .inr<|.inr ⟨u.num,(S u D).2.2,f.1⟩
   |some bg=>
    rcases C.names _ _ P with f|⟨f,_⟩|⟨t,c,f⟩
    .exact .inl f
    .exact .inr<|.inl f
    .exact .inr<|.inr ⟨t.num,by have:=K t c;have:=A.lX.1;omega,f⟩
  have cw:o.log<num:=by have:=C.lt;have:=A.lX.1;omega
  have bs:dh (vw K'.files) eh=H (fT ((num:X)+1) num bT [a',b',c',d']):=by
   rw[hj,nV<|λq=>(ce.2 _<|dZ q).1 rfl,mh,dH rfl]
  have bf:Np 4000000 (vw K'.files):=by
   refine(((C.Kj an).Yi (nx:=o.next) (tp:=o.next+1000000) (fs':=vw KR.files)<|λp n q=>?_).one (x:=eh) (fs':=vw K'.files)<|λp n q=>(V p n q).imp id<|λP=>⟨_,P⟩).mono (by omega);rw[aa,gh]at q;cases P:dh (vw i.files) p with
   |none=>
    rw[P,jk]at q;obtain⟨u,D,f,_⟩:=ac _<|nU q;simp only[ib]at f;refine .inl<|.inr ⟨u.num,?_,?_,f.1⟩
    .rcases A.Nq u D with bu|⟨av,O,_,bu,z1,z2⟩
     .have j:dh (vw i.files) p=H (nC u.cs):=by rw[f.1];exact C.oK u bu
      rw[P]at j;cases j
     .exact z1
    .have:=(S u D).2.2;omega
   |some bg=>
    rw[P,Option.some_or]at q;exact .inr q
  refine⟨⟨?_,bf,λq=>?_,λ_=>?_,.inl (by rw[bs];rfl),λq=>(by cases q),λ_=>rfl,λt c=>?_,by rw[<-h];exact A.qf,λt c=>?_,by omega,λt c=>?_⟩,GR ea eb ec ed,⟨A.lX.1,aV⟩,⟨(iB ea).2.2.1,(iB eb).2.2.1,(iB ec).2.2.1,(iB ed).2.2.1⟩,sV eb d.s1,sV ec d.s2,sV ed d.s3⟩
  .intro p n B;rcases V p n B with f|f
   .exact .inl f
   .rcases au p n f with f|f|⟨u,j,f⟩
    .exact .inl f
    .exact .inr<|.inr ⟨o.log,by omega,.inr f⟩
    .exact .inr<|.inr ⟨u,by omega,.inl f⟩
  .rw[bs]at q;cases q
  .cases q:dh (vw K'.files) (fa num)with
   |none=>rfl
   |some n=>
    rcases V _ n q with f|f
    .exact absurd f<|kL _
    .rcases au _ n f with f|f|⟨u,_,f⟩
     .exact absurd f<|kL _
     .have:=AO f;omega
     .exact absurd f.symm<|iA _ _
  .rw[<-h]at c;rw[hj,nV<|bp t c,mh,dF<|λq=>oo _ q.symm];exact(S t c).1
  .rw[<-h]at c;have:=(S t c).2.2;omega
  .rw[<-h]at c;exact(S t c).2.1
 have dm:=bt.size;have cT:=d.le;have cx:=d.KL;have cl:∀ap,qE a o.aI b e i ap->∀k,cK ap=H k->¬(Wr o.aI i ps k\/k=b):=by rintro ap hv k l(q|q);(rcases q with q|⟨av,O,q|q⟩;exact(hv k l).2.1 q;have S:=(d.news av O).1;rcases(hv k l).2.2.2 with P|⟨V,fr,P⟩;have:=(S.lt k<|.inl q).1;omega;exact kw P S.mem.box (by decide) q;have S:=(d.news av O).1;rcases(hv k l).2.2.2 with P|⟨V,fr,P⟩;have:=(S.lt k<|.inr<|.inr q).1;omega;obtain⟨au,hc⟩:=fE S.data (k:=av.x) rfl;grind);exact(hv k l).2.2.1 q
 have Q:∀k,k<z (G a)->¬i.aO o.aI k->k≠b->Aside w' K8 o.aI b k:=λk j L S=>
  ⟨ag j ao.size,λq=>(aD k q).elim L (λP=>by omega),S⟩
 have g:∀k,Kd o.aI b e i k->k<z (G a)/\¬i.aO o.aI k/\k≠b:=λk l=>⟨by have:=l.1;omega,l.2.1,l.2.2⟩;have dc:∀av∈ps,∀k,av.has k->k<z (G a)/\¬i.aO o.aI k/\k≠b:=λav O k l=>by have j:=(d.news av O).1.lt k l;exact⟨j.2,λq=>by have:=d.aO k q;omega,by omega⟩
 have N:∀u∈m,fQ u.num∉ny o (r++s++v++w) m:=by intro u D q;unfold ny at q;rcases aG.1 q with P|P;(grind[mem_singleton,iA]);obtain⟨t,c,f⟩:=bR.1 P;have e2:=pX f;unfold mT at c;rw[dL]at c;have:m.any (λu=>u.num==t.num)=ci:=ol.2 ⟨u,D,by rw[e2];grind⟩;rw[this]at c;simp at c
 have bi:∀p,p∉ny o (r++s++v++w) m->p≠eh->dh (vw K8.files) p=dh (vw KR.files) p:=λp j L=>by rw[bb,nV j,mh,dF<|λq=>L q.symm]
 have ax:∀u∈m,∃cE:M->Prop,rV wr o.aI (vw KR.files) cE u/\(∀k,cE k->k<z (G a)/\¬i.aO o.aI k/\k≠b)/\u.num<num:=λu D=>by rcases A.Nq u D with q|⟨av,O,_,q,_,q2⟩;exact⟨_,A.zn u q,g,by have:=K u q;have:=A.lX.1;omega⟩;grind
 have hO:∀u∈m,rV w' o.aI (vw K8.files) (Aside w' K8 o.aI b) u:=λu D=>by obtain⟨cE,ho,V,_⟩:=ax u D;have j:=ho.Gg (w':=w')<|λk l=>aF k (V k l).1 (V k l).2.1 (V k l).2.2;obtain⟨au,bf,S,B,ha⟩:=j.mem;refine⟨⟨au,bf,S,B,Q au (V au ha).1 (V au ha).2.1 (V au ha).2.2⟩,Q _ (V _ j.loc).1 (V _ j.loc).2.1 (V _ j.loc).2.2,j.ks,j.num,j.pure,j.idx,j.small,?_⟩;rw[bi _ (N u D)<|oo _];exact j.file
 have aV:num<=o.next+1000000:=by have:=A.lX.2;grind
 have F:∀ap(f d:cW),qE a o.aI b e i ap->Row a 1 ap (y f) (f.map bz.ptr)->d.map (λt=>(t.tb,t.ks,t.cs))=f.map (λt=>(t.tb,t.ks,t.cs))->(∀t∈d,t∈m)->M6 w' K8 o.aI b ap d:=λap f d hv hr he S=>by obtain⟨V,e2,_,_⟩:=iB he;refine⟨?_,λk l=>Q k (hv k l).1 (hv k l).2.1 (hv k l).2.2.1,λt c=>hO t<|S t c⟩;rw[V,e2];exact ao.row hr<|λk l=>⟨cl ap hv k l,(hv k l).1⟩
 have bk:∀k,Kd o.aI b e i k->w'.heap[k]?=a.heap[k]?:=λk l=>ao.block k (by have:=l.1;omega) (by
  rintro(q|q)
  .rcases q with q|⟨av,O,q|q⟩
   .exact l.2.1 q
   .have:=((d.news av O).1.lt k<|.inl q).1;have:=l.1;omega
   .have:=((d.news av O).1.lt k<|.inr<|.inr q).1;have:=l.1;omega
  grind)
 have cr:∀t∈a',t∈m:=λt c=>by rw[h];simp[c]
 have cs:∀t∈b',t∈m:=λt c=>by rw[h];simp[c]
 have cu:∀t∈c',t∈m:=λt c=>by rw[h];simp[c]
 have cv:∀t∈d',t∈m:=λt c=>by rw[h];simp[c]
 have ad:=A.same;rw[bI]at ad;refine .inl ⟨rfl,K8,num,a',b',c',d',⟨cb,?_,?_,cd,⟨_,by rw[<-h];exact mi.JX A.ops bq⟩,GR ea eb ec ed,?_,?_,⟨A.lX.1,aV⟩,aD,(iB ea).2.2.1,(iB eb).2.2.1,(iB ec).2.2.1,(iB ed).2.2.1⟩,ao⟩;exact{mem:=⟨rfl,.inl ⟨rfl,rfl⟩⟩,sI:=λk l=>(by cases l),l0:=F v0 bx a' d.b0 d.r0 ea cr,l1:=F v1 bE b' d.b1 d.r1 eb cs,l2:=F v2 bv c' d.b2 d.r2 ec cu,l3:=F v3 bL d' d.b3 d.r3 ed cv,aI:=cc,wR:=λq=>(aD b q).elim br (λP=>by omega),kA:=⟨λcB hj=>(dt (w:=a)<|bk _ d.fS).trans<|d.steps cB hj,d.pow.dw<|bk _ d.ml,Q _ (g _ d.fS).1 (g _ d.fS).2.1 (g _ d.fS).2.2,Q _ (g _ d.ml).1 (g _ d.ml).2.1 (g _ d.ml).2.2⟩,rE:=(by rw[(iB ea).2.2.2,(iB eb).2.2.2,(iB ec).2.2.2,(iB ed).2.2.2];have:=d.rE;grind),kK:=d.kK,mj:=dV.nil,iP:=by simp,s1:=sV eb d.s1,s2:=sV ec d.s2,s3:=sV ed d.s3}
 .have S:∀t∈a'++b'++c'++d',t.num<num:=λt c=>by
   rw[<-h]at c;grind
  refine{names:=?_,state:=.inl ?_,log:=λq=>(by cases q),vJ:=λ_=>rfl,oK:=?_,qf:=by rw[<-h];exact A.qf,low:=λt c=>⟨by have:=S t c;omega,by have:=S t c;omega⟩,lt:=by omega,iP:=?_}
  .intro p n B;rw[bb]at B;obtain⟨j,L⟩:=qR bo B;rw[mh]at L;by_cases q:eh=p
   .grind
   rw[dF q]at L;obtain⟨gs,aa,ac⟩:=A.files;rw[aa,gh]at L;cases P:dh (vw i.files) p with
   |none=>
    rw[P,jk]at L;obtain⟨u,D,f,_⟩:=ac _<|nU L;grind
   |some bg=>
    rcases C.names _ _ P with f|⟨f,aU⟩|⟨t,c,f⟩
    .grind
    .refine absurd ?_ j;unfold ny;rw[aU,dH rfl,f];simp
    .by_cases V:m.any (λu=>u.num==t.num)=ci
     .grind
     .refine absurd ?_ j;unfold ny;rw[f];refine aG.2<|.inr<|bR.2 ⟨t,?_,rfl⟩;unfold mT;rw[dL];grind
  .rw[bb,nV<|λq=>((E m).2 _ q).1 rfl,mh,dH rfl];rfl
  .intro t c;rw[<-h]at c;exact(hO t c).file
  .intro t c;rw[<-h]at c;have:=hO t c;exact⟨this.ks,this.pure,this.idx,this.small,this.num⟩
 rw[<-h,Vm (T:=bx++bE++bv++bL) (i:=y<|bx++bE++bv++bL) (by rw[bI];exact ad),bI];exact d.nodup;rw[cj];unfold ny;rw[af,dj];have j:y (mT (r++s++v++w) m)<=y (r++s++v++w):=ep _ _;grind
def sZ(h:Aside a i b c g):Kd b c (z<|G a) i g:=⟨h.lt,h.aO,h.ne⟩
def rV.Nx{B:eV}(h:rV a b F p O)(e:∀k,p k->B k):rV a b F B O:=by
 obtain⟨f,d,c,i,g⟩:=h.mem;exact⟨⟨f,d,c,i,e _ g⟩,e _ h.loc,h.ks,h.num,h.pure,h.idx,h.small,h.file⟩
def ST.r7{C C':M}(h:ST a b o i e j W u v C)(l:b<z (G a))(f:((j++W++u++v).map bz.tb).Nodup)(m:y (bZ j)+y (bZ W)+y (bZ u)+y (bZ v)<=C')(g:C'<=1000000):LS a o.aI b (z<|G a) i (j++W++u++v) [] C' o.l0 o.l1 o.l2 o.l3 j W u v where
 D:=h.Sb
 wS:=h.aI.wS
 le:=ah _
 aO:=h.aI.lt
 KL:=l
 steps:=h.kA.steps
 pow:=h.kA.pow
 fS:=sZ h.kA.fS
 ml:=sZ h.kA.ml
 xY:=λt d=>by
  simp only[aG]at d;rcases d with((q|q)|q)|q
  .exact(h.l0.each t q).Nx<|λ_=>sZ
  .exact(h.l1.each t q).Nx<|λ_=>sZ
  .exact(h.l2.each t q).Nx<|λ_=>sZ
  .exact(h.l3.each t q).Nx<|λ_=>sZ
 news:=by simp
 apart:=List.Pairwise.nil
 r0:=h.l0.row
 r1:=h.l1.row
 r2:=h.l2.row
 r3:=h.l3.row
 b0:=λk c=>⟨(h.l0.loc k c).lt,(h.l0.loc k c).aO,(h.l0.loc k c).ne,.inl (h.l0.loc k c).lt⟩
 b1:=λk c=>⟨(h.l1.loc k c).lt,(h.l1.loc k c).aO,(h.l1.loc k c).ne,.inl (h.l1.loc k c).lt⟩
 b2:=λk c=>⟨(h.l2.loc k c).lt,(h.l2.loc k c).aO,(h.l2.loc k c).ne,.inl (h.l2.loc k c).lt⟩
 b3:=λk c=>⟨(h.l3.loc k c).lt,(h.l3.loc k c).aO,(h.l3.loc k c).ne,.inl (h.l3.loc k c).lt⟩
 x0:=λt d=>.inl<|by simp[d]
 x1:=λt d=>.inl<|by simp[d]
 x2:=λt d=>.inl<|by simp[d]
 x3:=λt d=>.inl<|by simp[d]
 nodup:=f
 s1:=h.s1
 s2:=h.s2
 s3:=h.s3
 rE:=m
 kK:=g
def LS.ZY{B l:ab}{r:cW}{p:NT}(h:LS a b c g i j [] m d s L B W u v r)(A:Z ay a f)(x:p.Ok f (z<|G a))(o:Nl p.t)(w:f.ownsRow (z<|G a) 186 1 l (y<|W++[p.t]) ((W++[p.t]).map bz.ptr))(E:y (bZ W)+y (bZ u)+y (bZ v)+y (bZ r)+y p.t.all<=m):LS f b c g i j [p] m l s L B (W++[p.t]) u v r:=by
 have h':=h.aj (A.mono cL)<|(nD b i).eY h.D A cL;refine{h' with news:=?_,apart:=by simp,r0:=dJ w,b0:=wl w h.aO h.KL h.le,x0:=?_,x1:=λt q=>(h.x1 t q).more [p],x2:=λt q=>(h.x2 t q).more [p],x3:=λt q=>(h.x3 t q).more [p],nodup:=?_,rE:=?_};intro q e;rw[dp]at e;subst e;exact⟨x.base h.le,o⟩;intro t q;rcases aG.1 q with q|q;exact(h.x0 t q).more [p];rw[dp]at q;exact .inr ⟨p,by simp,q.symm⟩;(have e:(W++[p.t]++u++v++r).Perm (p.t::(W++u++v++r)):=by simp_all);rw[(e.map bz.tb).nodup_iff,cy,iD];refine⟨λq=>?_,h.nodup⟩;obtain⟨t,k,F⟩:=bR.1 q;have C:=x.new;(have D:t.tb<z (G a):=by simp only[aG]at k;rcases k with((n|n)|n)|n;exact XT.qC h<|h.x0 t n;exact XT.qC h<|h.x1 t n;exact XT.qC h<|h.x2 t n;exact XT.qC h<|h.x3 t n);omega;rw[fR];(have:bZ [p.t]=p.t.all:=by simp[bZ]);rw[this,af];omega
def VR(i:No a f b e l c g m D)(h:e≠[])(j:∀x∈e,x.Good)(k:dV e)(n:y e<=100):NT.Ok f (z<|G a) ⟨⟨b,bW 0 l,l,0⟩,c,g,m,D⟩/\Nl ⟨b,bW 0 l,l,0⟩/\bz.all ⟨b,bW 0 l,l,0⟩=e:=by
 have d:l.flatten=e:=i.pieces.flat;refine⟨⟨rfl,rfl,by show qo l.flatten l;rw[d];exact i.pieces,i.mem,i.data,i.Gp,i.new⟩,⟨i.pieces.kG h j k,i.pieces.idx h j k n,?_⟩,d⟩;have o:=i.pieces.data;have p:=i.pieces.length;grind
def LS.Zu{t:cJ NT}{w:ab}{C:cW}(h:LS a b c g i j t m d s L w W u v C):∃k,LS a b c g k j t m d s L w W u v C/\cG a b k/\vq i k/\(∀n,k.aO b n->i.aO b n)/\Fx i.fx k.fx:=by
 obtain⟨A,k,p,r,o,x⟩:=h.D;have f:∀n,Kd b c g i n->Kd b c g k n:=λn l=>⟨l.1,λq=>l.2.1<|o n q,l.2.2⟩;have e:∀p,qE a b c g i p->qE a b c g k p:=λp f n l=>⟨(f n l).1,λq=>(f n l).2.1<|o n q,(f n l).2.2⟩;refine⟨k,{h with D:=JF p p.lt,wS:=p.wS,aO:=λn l=>h.aO n<|o n l,fS:=f _ h.fS,ml:=f _ h.ml,xY:=λE B=>?_,b0:=e _ h.b0,b1:=e _ h.b1,b2:=e _ h.b2,b3:=e _ h.b3},p,r,o,x⟩;rw[r.1];exact(h.xY E B).Nx f
def LS.other{K:cJ NT}{N:ab}{aa:cW}(h:LS a b c g x j K m d s L N W u v aa)(o:Z p a f)(C:∀k,p k->g<=k/\∃t w,a.heap[k]?=H (aw t 92 w)):LS f b c g x j K m d s L N W u v aa:=by
 have hF:∀k,p k->¬(nD b x).F k:=λk e q=>by have:=h.aO k q;have:=(C k e).1;omega
 have r:∀k,Kd b c g x k->¬p k:=λk e q=>by have:=e.1;have:=(C k q).1;omega
 have l:∀B,qE a b c g x B->∀k,cK B=H k->¬p k:=λB A k e q=>by obtain⟨S,t,w,q2⟩:=C k q;rcases(A k e).2.2.2 with Q|⟨E,O,Q⟩;omega;grind
 have n:∀B,qE a b c g x B->qE f b c g x B:=λB A k e=>by obtain⟨E,O,Q,S⟩:=A k e;exact⟨ag E o.size,O,Q,S.imp id<|λ⟨t,w,a⟩=>⟨t,w,(o.block k E<|l B A k e).trans a⟩⟩
 refine{h with D:=(nD b x).eY h.D o hF,le:=aC h.le o.size,steps:=λad V=>o.cell (h.steps ad V) (r _ h.fS)<|ag h.fS.1 h.le,pow:=h.pow.dw<|o.block _ (ag h.ml.1 h.le)<|r _ h.ml,xY:=λal P=>(h.xY al P).Gg<|λk e=>o.block k (ag e.1 h.le)<|r k e,news:=λac F=>⟨?_,(h.news ac F).2⟩,r0:=o.row h.r0<|λk e=>⟨l _ h.b0 k e,(h.b0 k e).1⟩,r1:=o.row h.r1<|λk e=>⟨l _ h.b1 k e,(h.b1 k e).1⟩,r2:=o.row h.r2<|λk e=>⟨l _ h.b2 k e,(h.b2 k e).1⟩,r3:=o.row h.r3<|λk e=>⟨l _ h.b3 k e,(h.b3 k e).1⟩,b0:=n _ h.b0,b1:=n _ h.b1,b2:=n _ h.b2,b3:=n _ h.b3};exact TV.other (h.news ac F).1 o<|λk e=>by grind
structure SV(w:Y)(sb:M)(s:SR)(k:X)(lb:M)(K:DK)(T0:cW)(C n:M)(ms:eR)(R0:X->ae->Option ae)(wr:Y)(v0 v1 v2 v3:ab)(a b c d:cW)(ps:cJ NT):Prop where
 ls:LS wr s.aI sb (z<|G w) K T0 ps C v0 v1 v2 v3 a b c d
 lb:wr.heap[lb]?=H (aw #[v0,v1,v2,v3] 92 (0,0))
 pr:PR n (bU a b c d)
 sG:∀t,(t∈ms\/(n:X)<=t)->∀q,eQ t (bU a b c d) q=R0 t q
 box:cS wr sb s k
 aj:Z (K.aO s.aI) w wr
 fst:T0=[]->y a+y b+y c+y d<=1
def Kb(w:Y)(a:M)(s:SR)(o:X)(d:M)(K:DK)(c:cW)(C p:M)(e:eR)(b:X->ae->Option ae)(wr:Y):Prop:=∃g h i j k l m n f,SV w a s o d K c C p e b wr g h i j k l m n f
def rN(w:Y)(a i:M):M:=match aW w (R a i)with
 |some (.slice _ n _)=>n
 |_=>0
def AQ{x:Option Addr}{c:M}(h:aW a (R b g)=H (I x m c)):rN a b g=m:=by
 unfold rN;rw[h]
def SV.put{N wr d:Y}{B:X->ae->Option ae}{E F K L u0 u1 u2 u3:ab}{aa b ac ad r s t u:cW}{ps l:cJ NT}(v:SV N c o k g i j m D n B wr E F K L aa b ac ad ps)(P:z (G N)<=g)(x:¬i.aO o.aI c)(O:LS d o.aI c (z<|G N) i j l m u0 u1 u2 u3 r s t u)(Q:PR D (bU r s t u))(V:∀A,(A∈n\/(D:X)<=A)->∀q,eQ A (bU r s t u) q=eQ A (bU aa b ac ad) q)(e:Z (i.aO o.aI) wr d)(hz:j=[]->False):d.heap[g]?=H (aw #[E,F,K,L] 92 (0,0))/\SV N c o k g i j m D n B (cq (cq (cq (cq d (R g 0) u0) (R g 1) u1) (R g 2) u2) (R g 3) u3) u0 u1 u2 u3 r s t u l:=by
 have w:¬i.aO o.aI g:=λq=>by have:=v.ls.aO g q;omega
 have h:=(e.block g (ak v.lb) w).trans v.lb;have a:Z (λq=>q=g) d (cq (cq (cq (cq d (R g 0) u0) (R g 1) u1) (R g 2) u2) (R g 3) u3):=(((gZ g d).setCell _ _ _<|.inl rfl).setCell _ _ _<|.inl rfl).setCell _ _ _<|.inl rfl;have W:c<z (G N):=v.ls.KL;refine⟨h,O.other a (λq S=>by grind),ET h,Q,λA e q=>(V A e q).trans<|v.sG A e q,?_,?_,?_⟩;have C:=(e.block c (ak v.box) x).trans v.box;exact(a.block c (ak C)<|λq=>by omega).trans C;exact(v.aj.trans e<|λ_ q=>.inl q).trans a (λq S=>.inr<|by omega);exactλq=>(hz q).elim
def Ng.aO{g:gz}(k:Ng a i c o g)(e:Z (i.aO o.aI) a A):Ng A i c o g:=by
 obtain⟨b,h,j,d⟩:=k.ex;exact⟨⟨b,h,j.dw<|e.block _ d.lt d.aO,ag d.lt e.size,d.aO,d.ne⟩,k.len⟩
def LS.ZF{w wr:Y}{l:cJ NT}{o e:ab}{r:cW}(p:LS wr b c g i j l m d s L o W u v r)(h:Z ay wr w)(a:w.ownsRow (z<|G wr) 88 1 e (y n) (n.map<|Value.int .u64)):LS w b c g i j l m d s L o W u v r/\Row w 1 e (y n) (n.map<|Value.int .u64)/\∀k,cK e=H k->k<z (G w)/\¬i.aO b k:=⟨p.aj (h.mono cL)<|(nD b i).eY p.D h cL,dJ a,λk f=>⟨(bM a k f).2,λq=>by have:=p.aO k q;have:=p.le;have:=(bM a k f).1;omega⟩⟩
structure Ka(w w':Y)(sb:M)(s:SR)(k:X)(n C:M)(K:DK)(ms:eR)(R0:X->ae->Option ae)(v0 v1 v2 v3:ab)(K':DK)(num:M)(a' b' c' d':cW):Prop where
 box:cS w' sb (s.settled v0 v1 v2 v3 n num) k
 st:ST w' sb (s.settled v0 v1 v2 v3 n num) K' [] a' b' c' d' C
 qD:FU (vw K'.files) (num+1) num n a' b' c' d' aX []
 pr:PR n (bU a' b' c' d')
 sG:∀t,(t∈ms\/(n:X)<=t)->∀q,eQ t (bU a' b' c' d') q=R0 t q
 Hj:((a'++b'++c'++d').map bz.tb).Nodup
 gT:y K'.gT<=1000001
 num:s.next<=num/\num<=s.next+1000000
 fj:fJ w w' s.aI sb K K'
def PE(a:X)(b c d:cW):Prop:=(y b:X)<a/\(y c:X)<=a/\(y d:X)<=a
def D6(a:X)(b i:M)(w:Y):Prop:=∀j,j<i->nz a j (rN w b j)=aX
def D6.tid{n o p F:Option Addr}{e f K q:cW}(w:D6 k b 4 a)(d:a.heap[b]?=H (aw #[I n (y j) g,I o (y W) m,I p (y u) D,I F c S] 92 (0,0)))(A:o7 j W u K v e f q):PE k v e f:=by
 have h:=w 0 (by omega);have i:=w 1 (by omega);have l:=w 2 (by omega);rw[AQ (x:=n) (c:=g)<|(cg d).trans rfl]at h;rw[AQ (x:=o) (c:=m)<|(cg d).trans rfl]at i;rw[AQ (x:=p) (c:=D)<|(cg d).trans rfl]at l;obtain⟨r,s,t,_⟩:=A;have B:=bS y r;have C:=bS y s;have E:=bS y t;simp only[dj]at B C E;simp[nz]at h i l;unfold PE;omega
def PR.mono(h:PR c l)(d:c<=g):PR g l:=⟨h.pB,h.mj,h.iP,λx a=>by have:=h.low x a;omega⟩
structure TR(w w':Y)(sb:M)(s:SR)(k:X)(K K':DK)(v:ab):Prop where
 fj:fJ w w' s.aI sb K K'
 box:∃s',cS w' sb s' k/\s'.closed=s.closed/\s'.aI=s.aI
 err:∃q c,v=eD q/\lP w' q c/\QF K.fx c
def PF(s:SR)(b:M)(c d e f:cW)(a:dS)(g:Fs):Prop:=∃h,sh g s.next s.log b c d e f h a
structure YO(s:SR)(n C:M)(ms:eR)(R0:X->ae->Option ae)(fs:Fs)(num:M)(a' b' c' d':cW):Prop where
 qD:sh fs (num+1) num n a' b' c' d' aX []
 pr:PR n (bU a' b' c' d')
 sG:∀t,(t∈ms\/(n:X)<=t)->∀q,eQ t (bU a' b' c' d') q=R0 t q
 num:s.next<=num/\num<=s.next+1000000
 s1:ji b'
 s2:ji c'
 s3:ji d'
 rE:y (bZ a')+y (bZ b')+y (bZ c')+y (bZ d')<=C
def Eb(lb:M)(ba aD:M)(ms:eR)(S:X->ae->Option ae)(wr:Y)(L N O P:ab)(bb b V bc:cW)(ps:cJ NT)(B:SV a c o k lb i (j++W++u++v) ba aD ms S wr L N O P bb b V bc ps)(h0:cS a c o k)(d:ST a c o i e j W u v g)(hI:FU (vw i.files) o.next o.log m j W u v o.ez l)(ap:y (jZ ((m:X)+1) l)<=200000)(hn:aD<1000000000000000)(ao:o.next<=900000000000000)(an:y i.gT<=10000000000)(au:i.fx.room<1000000000):cY aZ 105 #[aA c,dC #[L,N,O,P],aE aD] wr λax D=>(ax=aM .nilIface/\∃n num r s t w,Ka a D c o k aD ba i ms S L N O P n num r s t w/\o7 bb b V bc r s t w)\/∃aV n,ax=aM aV/\TR a D c o k i n aV/\(PF o m j W u v l (vw n.files)\/∃num r s t w,YO o aD ba ms S (vw n.files) num r s t w/\o7 bb b V bc r s t w):=by
 obtain⟨Q,ac,ad,⟨e1,_,e2⟩,F,K⟩:=B.ls.Zu;have aF:=d.count;have av:y (j++W++u++v)<=1000000:=by have x:=d.rE;have h2:=d.kK;have:=jz<|λaU A=>(d.l0.each aU A).pure;have:=jz d.s1.pure;have:=jz d.s2.pure;have:=jz d.s3.pure;grind
 have al:Dm wr c 10 [(o.l0,j),(o.l1,W),(o.l2,u),(o.l3,v)]:=by refine(d.E3 h0).aj B.aj d.wR<|λx hi f h=>?_;(have:x=0\/x=1\/x=2\/x=3:=by grind);rcases this with rfl|rfl|rfl|rfl;exact(d.l0.loc f h).aO;exact(d.l1.loc f h).aO;exact(d.l2.loc f h).aO;exact(d.l3.loc f h).aO
 have bf:=B.ls.KL;refine(Pt (z<|G a) ba aD m ps L N O P bb b V bc j W u v l B.box ac al ad (λq=>d.wR<|F c q) (by rw[e1];exact hI) ap hn ao (by rw[e2];exact an) av ?_ ?_ (by rw[K.room];exact au) ?_).mono ?_;obtain⟨x,V,ax⟩:=bY d.mem;grind
 have x:∀f,Aside a i o.aI c f->Kd o.aI c (z<|G a) Q f:=λf q=>⟨q.lt,λbd=>q.aO<|F f bd,q.ne⟩;rintro aV(rfl|rfl|rfl|rfl)f h;exact x _<|d.l0.loc f h;exact x _<|d.l1.loc f h;exact x _<|d.l2.loc f h;exact x _<|d.l3.loc f h;intro q;rw[e1]at q;rcases hI.state with ax|⟨_,rfl,rfl,rfl,rfl,_⟩;rw[ax]at q;cases q;have x:=B.fst rfl;simp only[af];omega;have hz:=B.aj.size
 have hT:∀{D:Y},Z (λk=>Wr o.aI Q ps k\/k=c) wr D->Z (λf=>i.aO o.aI f\/f=c) a D:=λA=>(B.aj.mono (T:=λf=>i.aO o.aI f\/f=c)<|λ_ q=>.inl<|.inl q).trans A (λf q=>by
  rcases q with(q|⟨bg,x,q⟩)|q
  .exact .inl<|.inl<|F _ q
  .refine .inr ?_;rcases q with q|q
   .exact((B.ls.news bg x).1.lt f<|.inl q).1
   .exact((B.ls.news bg x).1.lt f<|.inr<|.inr q).1
  .exact .inl (.inr q))
 have E:∀{n:DK},(∀k,n.aO o.aI k->Q.aO o.aI k\/z (G wr)<=k)->∀k,n.aO o.aI k->i.aO o.aI k\/z (G a)<=k:=λc f q=>(c f q).imp (F f) (λbd=>by omega);rintro ax D(⟨rfl,n,num,r,s,t,w,p,A⟩|⟨aV,n,rfl,C,aa⟩);exact .inl ⟨rfl,n,num,r,s,t,w,⟨p.box,p.st,p.qD,by rw[p.rows];exact B.pr,λaU A q=>by rw[p.rows];exact B.sG aU A q,p.Hj,p.gT,p.num,⟨p.st.aI,hT A,E p.aO,K.trans p.fx⟩⟩,p.al⟩;obtain⟨q,V,r1,r2,r3⟩:=C.err;refine .inr ⟨aV,n,rfl,⟨⟨C.ok,hT C.aj,E C.aO,K.trans C.fx⟩,C.box,q,V,r1,r2,K.Xh B.ls.wS r3⟩,aa.imp (λbd=>⟨_,bd⟩) ?_⟩;rintro⟨num,r,s,t,w,x⟩;refine⟨num,r,s,t,w,⟨x.qD,by rw[x.rows];exact B.pr,λaU A q=>by rw[x.rows];exact B.sG aU A q,x.num,x.s1,x.s2,x.s3,?_⟩,x.al⟩;have:=B.ls.rE;obtain⟨q0,q1,q2,q3⟩:=x.al;unfold bZ at this|-;rw[q0,q1,q2,q3];exact this
def Kb.step{aV wr:Y}{S:gz}{R0:X->ae->Option ae}(hS:Kb aV b o k c i j g m (rf S) R0 wr)(av:z (G aV)<=c)(ax:¬i.aO o.aI b)(ac:Ng aV i b o S)(aU:2<=o.kG)(ad:M)(hi:ad<4):∃(v w x A:Option Addr)(n0 n1 n2 n3 B C D E:M)(bd:Option Addr)(an ao:M)(bc:Bool),wr.heap[c]?=H (aw #[I v n0 B,I w n1 C,I x n2 D,I A n3 E] 92 (0,0))/\(#[I v n0 B,I w n1 C,I x n2 D,I A n3 E]:Array ab)[ad]?=H (I bd an ao)/\(cY aZ 61 #[aA b,ar (ad:M),I bd an ao] wr λN w2=>N=aM (aN bc)/\w2=wr)/\(bc=ci->∀(e:Y)(xm:Option Addr)(V:M)(r:eR),Z ay wr e->e.ownsRow (z<|G wr) 88 1 (I xm (y r) V) (y r) (r.map<|Value.int .u64)->r.Perm (rf S)->cY aZ 104 #[dC #[I v n0 B,I w n1 C,I x n2 D,I A n3 E],ar (ad:M),I xm (y r) V] e λN w2=>(∃(r0 r1 r2 r3:Option Addr)(m0 m1 m2 m3 t0 t1 t2 t3:M),N=aM (dq #[dC #[I r0 m0 t0,I r1 m1 t1,I r2 m2 t2,I r3 m3 t3],.nilIface])/\w2.heap[c]?=H (aw #[I v n0 B,I w n1 C,I x n2 D,I A n3 E] 92 (0,0))/\Kb aV b o k c i j g m (rf S) R0 (cq (cq (cq (cq w2 (R c 0)<|I r0 m0 t0) (R c 1)<|I r1 m1 t1) (R c 2)<|I r2 m2 t2) (R c 3)<|I r3 m3 t3)/\rN (cq (cq (cq (cq w2 (R c 0)<|I r0 m0 t0) (R c 1)<|I r1 m1 t1) (R c 2)<|I r2 m2 t2) (R c 3)<|I r3 m3 t3) c ad<rN wr c ad/\∀al,al<ad->rN (cq (cq (cq (cq w2 (R c 0)<|I r0 m0 t0) (R c 1)<|I r1 m1 t1) (R c 2)<|I r2 m2 t2) (R c 3)<|I r3 m3 t3) c al=rN wr c al)\/Dp (nD o.aI i) e w2 (i.aO o.aI) N bL/\w2.heap[c]?=H (aw #[I v n0 B,I w n1 C,I x n2 D,I A n3 E] 92 (0,0)))/\bc=nz o.kG ad (rN wr c ad)/\∀au,Z ay wr au->cY aZ 97 #[aA b] au λN w2=>∃W,∃r:eR,N=aM W/\r.Perm (rf S)/\w2.ownsRow (z<|G wr) 88 1 W (y r) (r.map<|Value.int .u64)/\Z ay wr w2:=by
 obtain⟨v0,v1,W,v3,ba,aD,aF,bb,ps,a⟩:=hS;obtain⟨v,B,rfl⟩:=bY a.ls.r0;obtain⟨w,C,rfl⟩:=bY a.ls.r1;obtain⟨x,D,rfl⟩:=bY a.ls.r2;obtain⟨A,E,rfl⟩:=bY a.ls.r3;have Q:∀au,Z ay wr au->cY aZ 97 #[aA b] au λN w2=>∃W,∃r:eR,N=aM W/\r.Perm (rf S)/\w2.ownsRow (z<|G wr) 88 1 W (y r) (r.map<|Value.int .u64)/\Z ay wr w2:=λau hW=>by obtain⟨mb,m1,m2,m3⟩:=(ac.aO a.aj).ex;apply(ya (b:=mb) S ((hW.block b (ak a.box) id).trans a.box) m1 (m2.dw<|hW.block _ m3.lt id) ac.len).mono;rintro N w2⟨W,r,rfl,l1,l2,l3⟩;exact⟨W,r,rfl,l1,fX l2 hW.size,hW.cz l3⟩
 have h4:∀r:eR,r.Perm (rf S)->y r<=4:=λr u=>by have:=u.length_eq;rw[qK]at this;have:=ac.len;omega
 have fin:=λ(e w2:Y)(r:eR)(u0 u1 u2 u3:ab)(c d c' h:cW)(p:cJ NT)(s:Z ay wr e)(u:r.Perm (rf S))(t:LS w2 o.aI b (z<|G aV) i j p g u0 u1 u2 u3 c d c' h)(l:PR m (bU c d c' h))(n:∀ap,(ap∈r\/(m:X)<=ap)->∀q,eQ ap (bU c d c' h) q=eQ ap (bU ba aD aF bb) q)(f:Z (i.aO o.aI) e w2)(w:j=[]->False)=>a.put av ax t l (λap v=>n ap<|v.imp_left<|λq=>u.mem_iff.2 q) ((s.mono (T:=i.aO o.aI) cL).trans f<|λ_ q=>.inl q) w;have K:∀(e w2:Y)(N:Ending),Z ay wr e->Dp (nD o.aI i) e w2 (i.aO o.aI) N bL->w2.heap[c]?=wr.heap[c]?:=λe w2 N s O=>by obtain⟨_,_,_,_,_,f⟩:=O;exact(f.block c (ag (ak a.lb) s.size) (λq=>by have:=a.ls.aO c q;omega)).trans<|s.block c (ak a.lb) id
 have d:∀{au:Y}{u0 u1 u2 u3:ab}(al:M)(r:Option Addr)(m ap:M),au.heap[c]?=H (aw #[u0,u1,u2,u3] 92 (0,0))->#[u0,u1,u2,u3][al]?=H (I r m ap)->rN au c al=m:=λal r m ap a b=>AQ (x:=r) (c:=ap)<|(cg a).trans b;rcases(show ad=0\/ad=1\/ad=2\/ad=3 by omega)with rfl|rfl|rfl|rfl;(.refine⟨v,w,x,A,_,_,_,_,B,C,D,E,v,y ba,B,_,a.lb,rfl,rO 0 (y ba) v B a.box (by omega),λP e xm V r s ho u=>?_,by rw[d 0 _ _ _ a.lb rfl],Q⟩;(have h:0<y ba:=by unfold nz at P;grind);have F:=a.ls.ZF s ho;apply(F.1.C1 a.pr h r xm V F.2.1 F.2.2<|h4 r u).mono;rintro N w2(⟨x',n',c',tm,p,rfl,t,l,n,f⟩|O);rotate_left;exact .inr ⟨O,(K e w2 N s O).trans a.lb⟩;obtain⟨x1,L⟩:=fin e w2 r _ _ _ _ _ _ _ _ p s u t l n f (λq=>by have f1:=a.fst q;simp[nz]at P;omega);exact .inl ⟨_,_,_,_,_,_,_,_,_,_,_,_,rfl,x1,⟨_,_,_,_,_,_,_,_,p,L⟩,by rw[d 0 _ _ _ L.lb rfl,d 0 _ _ _ a.lb rfl];omega,λal hj=>by omega⟩);(.refine⟨v,w,x,A,_,_,_,_,B,C,D,E,w,y aD,C,_,a.lb,rfl,rO 1 (y aD) w C a.box (by omega),λP e xm V r s ho u=>?_,by rw[d 1 _ _ _ a.lb rfl],Q⟩;(have h:0<y aD:=by unfold nz at P;grind);have F:=a.ls.ZF s ho;apply(F.1.B9 a.pr h r xm V F.2.1 F.2.2<|h4 r u).mono;rintro N w2(⟨xl,nl,cl,x',n',c',b2,c2,p,rfl,t,aa,l,n,f⟩|O);rotate_left;exact .inr ⟨O,(K e w2 N s O).trans a.lb⟩;obtain⟨x1,L⟩:=fin e w2 r _ _ _ _ _ _ _ _ p s u t l n f (λq=>by have f1:=a.fst q;simp[nz]at P;omega);obtain⟨_,_,N⟩:=bY t.r1;cases N;exact .inl ⟨_,_,_,_,_,_,_,_,_,_,_,_,rfl,x1,⟨_,_,_,_,_,_,_,_,p,L⟩,by rw[d 1 _ _ _ L.lb rfl,d 1 _ _ _ a.lb rfl];omega,λal hj=>by obtain rfl:al=0:=(by omega);rw[d 0 _ _ _ L.lb rfl,d 0 _ _ _ a.lb rfl]⟩);(.refine⟨v,w,x,A,_,_,_,_,B,C,D,E,x,y aF,D,_,a.lb,rfl,rO 2 (y aF) x D a.box (by omega),λP e xm V r s ho u=>?_,by rw[d 2 _ _ _ a.lb rfl],Q⟩;(have h:0<y aF:=by unfold nz at P;grind);have F:=a.ls.ZF s ho;apply(F.1.B8 a.pr h r xm V F.2.1 F.2.2<|h4 r u).mono;rintro N w2(⟨xl,nl,cl,x',n',c',c2,d2,p,rfl,t,aa,l,n,f⟩|O);rotate_left;exact .inr ⟨O,(K e w2 N s O).trans a.lb⟩;obtain⟨x1,L⟩:=fin e w2 r _ _ _ _ _ _ _ _ p s u t l n f (λq=>by have f1:=a.fst q;simp[nz]at P;omega);obtain⟨_,_,N⟩:=bY t.r2;cases N;exact .inl ⟨_,_,_,_,_,_,_,_,_,_,_,_,rfl,x1,⟨_,_,_,_,_,_,_,_,p,L⟩,by rw[d 2 _ _ _ L.lb rfl,d 2 _ _ _ a.lb rfl];omega,λal hj=>by rcases(show al=0\/al=1 by omega)with rfl|rfl;(rw[d 0 _ _ _ L.lb rfl,d 0 _ _ _ a.lb rfl]);(rw[d 1 _ _ _ L.lb rfl,d 1 _ _ _ a.lb rfl])⟩);refine⟨v,w,x,A,_,_,_,_,B,C,D,E,A,y bb,E,_,a.lb,rfl,rO 3 (y bb) A E a.box (by omega),λP=>?_,by rw[d 3 _ _ _ a.lb rfl],Q⟩;simp[nz]at P
structure Inv(w:Y)(sb:M)(s:SR)(K:DK)(m:cR)(a b c d:cW)(C tb N:M)(ls:dS)(sn:gz):Prop where
 st:ST w sb s K m a b c d C
 qD:FU (vw K.files) s.next s.log tb a b c d s.ez ls
 pr:PR tb (bU a b c d)
 lp:Ac ((tb:X)+1) ls
 mem:jT s.aS m=ia [] ls.flatten
 Ua:∀x∈m,(tb:X)<x.bO/\x.bO<=s.aS
 XU:y m<=(ls.map y).sum
 l7:qV 5 m
 Ae:Ng w K sb s sn
 Xg:∀p∈sn,p.2<=s.aS
 Di:s.aS=tb+y ls
 MP:s.fm=(ls.map y).sum
 xe:s.xe=aX
 Hj:((a++b++c++d).map bz.tb).Nodup
 nx:s.next<=2+1000001*N
 bn:s.aS<=N
 gT:y K.gT<=9000000+2*N
 CJ:1<=s.mem/\s.mem<=32/\2<=s.kG/\s.kG<=6
 loose:s.jx=ci->s.ez=ci
 kK:N<=100000000
def ST.Wl(h:ST a b o i e j W u v c)(k:b<z (G a))(d:fJ a f o.aI b i x)(g:∀n,dh (vw x.files) (fQ n)=dh (vw i.files) (fQ n)):ST f b o x e j W u v c where
 mem:=Av h.mem d h.sI
 sI:=λg b=>(h.sI g b).fj d
 l0:=h.l0.fj d<|λ_ _=>g _
 l1:=h.l1.fj d<|λ_ _=>g _
 l2:=h.l2.fj d<|λ_ _=>g _
 l3:=h.l3.fj d<|λ_ _=>g _
 aI:=d.ok
 wR:=λu=>(d.aO b u).elim h.wR<|λg=>by omega
 kA:=h.kA.fj d
 rE:=h.rE
 kK:=h.kK
 mj:=h.mj
 iP:=h.iP
 s1:=h.s1
 s2:=h.s2
 s3:=h.s3
def ST.YU{d:SR}{C C':M}(h:ST a b o i e j W u v C)(t:d.aI=o.aI/\d.l0=o.l0/\d.l1=o.l1/\d.l2=o.l2/\d.l3=o.l3)(p:kC a d.memory K)(f:∀s,cK d.memory=H s->Aside a i o.aI b s)(q:dV K)(n:∀x∈K,x.Good)(w:y K+C<=C'+y e)(r:C'<=1000000):ST a b d i K j W u v C':=by
 obtain⟨c,g,k,l,m⟩:=t;refine{mem:=p,sI:=by rw[c];exact f,l0:=by rw[c,g];exact h.l0,l1:=by rw[c,k];exact h.l1,l2:=by rw[c,l];exact h.l2,l3:=by rw[c,m];exact h.l3,aI:=by rw[c];exact h.aI,wR:=by rw[c];exact h.wR,kA:=by rw[c];exact h.kA,rE:=by have:=h.rE;omega,kK:=r,mj:=q,iP:=n,s1:=h.s1,s2:=h.s2,s3:=h.s3}
def ST.fields{s s':SR}(h:ST a b s i e j W u v c)(f:s'.aI=s.aI/\s'.l0=s.l0/\s'.l1=s.l1/\s'.l2=s.l2/\s'.l3=s.l3)(d:s'.memory=s.memory):ST a b s' i e j W u v c:=h.YU f (by rw[d];exact h.mem) (by rw[d];exact h.sI) h.mj h.iP (by omega) h.kK
def RH(f:X)(a:dS)(l:cR):jZ f (a++[l])=jZ f a++pI (f+y a) l:=by
 induction a generalizing f with
 |nil=>simp[jZ]
 |cons x r b=>
  rw[df,jZ,b,jZ,bA,aY];grind
def Ac.snoc(h:Ac k l)(j:∀x∈e,x.Good)(f:∀x∈e,x.bO=k+y l)(d:1<=y e/\y e<=8)(b:(l.map y).sum+y e<32)(g:k+y l+1<18446744073709551616):Ac k (l++[e])where
 iP:=λx a=>by
  rcases aG.1 a with c|c
  .exact h.iP x c
  grind
 num:=λi b x a=>by
  by_cases c:i<y l
  .rw[uN c]at a;exact h.num i c x a
  grind
 one:=λx a=>by
  rcases aG.1 a with c|c
  .exact h.one x c
  grind
 sum:=by rw[aP,fw];simpa using b
 f0:=h.f0
 f1:=by rw[af];grind
def uZ(l m n:cR):ia l (m++n)=ia (ia l m) n:=by
 unfold ia;rw[gK]
def EQ{l m:cR}(h:w∈ia l m):w∈l\/w∈m:=by
 induction m generalizing l with
 |nil=>exact .inl h
 |cons e r a=>
  rcases a (l:=tK l e) h with c|c
  .grind[yN]
  grind
def Ac.wU(h:Ac ((b:X)+1) l):∀x∈l.flatten,(b:X)<x.bO/\x.bO<=(b+y l:M):=by
 intro x e;obtain⟨f,d,a⟩:=bC.1 e;obtain⟨i,c,rfl⟩:=gO.1 d;have:=h.num i c x a;grind
def Inv.ZG{d:gz}(h:Inv a b o i e j W u v c g m l d):y e<=31:=by
 have f:=h.XU;have k:=h.lp.sum;omega
def Inv.row{k:cW}{f:gz}(h:Inv a b o i e W u v k c g m l f):gJ e:=⟨h.st.mj,λn d=>uE<|h.st.iP n d⟩
def Inv.all{j b k n:cW}{f:gz}(h:Inv a c o i e j b k n g m D l f):PR o.aS (e::bU j b k n):=h.pr.cons (by have:=h.Di;omega) h.st.mj h.st.iP (λx d=>(h.Ua x d).1)<|λx d=>(h.Ua x d).2
def gV(b:gz)(m a:cR):cR:=dI (rf b)<|fM m a
def Inv.Xw{n:gz}(h:Inv a b o i e j W u v c g m l n):y (jZ ((g:X)+1) l)<=200000/\y l<=31:=by
 have p:=xV (f:=(g:X)+1)<|λk d=>⟨h.lp.iP k d,(h.lp.one k d).2⟩;have q:=II<|λk d=>(h.lp.one k d).1;have r:=h.lp.sum;grind
def Inv.FW{f:gz}(h:Inv a b o i e j W u v c g m l f):y (j++W++u++v)<=1000000:=by
 have d:=h.st.rE;have k:=h.st.kK;have:=jz<|λt d=>(h.st.l0.each t d).pure;have:=jz h.st.s1.pure;have:=jz h.st.s2.pure;have:=jz h.st.s3.pure;grind
def Ka.inv{h:gz}{w:X->ae->Option ae}{t:ab}{num:M}(l:Ka a f c o k g m i (rf h) w d s L t x num j W u v)(e:1<=o.mem/\o.mem<=32/\2<=o.kG/\o.kG<=6)(C:o.next<=2+1000001*D)(B:g<=D+1)(A:D+1<=100000000)(r:Ng a i c o h)(p:∀E∈h,E.2<=o.aS)(n:o.aS<=g):Inv f c (o.settled d s L t g num) x [] j W u v m g (D+1) [] h where
 st:=l.st
 qD:=l.qD
 pr:=l.pr
 lp:=⟨by simp,by simp,by simp,by simp,by omega,by simp;omega⟩
 mem:=rfl
 Ua:=by simp
 XU:=by simp
 l7:=qV.nil _
 Ae:=(r.fj l.fj).fields ⟨rfl,rfl⟩
 Xg:=λE e=>aC (p E e) n
 Di:=rfl
 MP:=rfl
 xe:=rfl
 Hj:=l.Hj
 nx:=by have:=l.num;show num+1<=_;omega
 bn:=B
 gT:=by have:=l.gT;omega
 CJ:=e
 loose:=λq=>(by cases q)
 kK:=A
section
variable{w:Y}{sbqq:M}{s:SR}{K:DK}{m e:cR}{a b c d:cW}{C tbqq N:M}{lsqq:dS}{f:gz}
theorem vC(f:gz)(m e:cR):(gV f m e).Sublist (fM m e):=jn _ _
theorem yH(f:gz)(m e:cR):y (gV f m e)<=y m+y e:=aC (vC f m e).length_le<|xI m e
theorem GA{x:E}(h:x∈gV f m e):x∈m\/x∈e:=yh<|(vC f m e).subset h
theorem Bz(h:dV m)(f:gz)(e:cR):dV (gV f m e):=(h.fM e).sub<|vC f m e
theorem By(h:dV m)(g:y f<=4)(e:cR):qV 5 (gV f m e):=(yI<|h.fM e).mono (by rw[qK];omega)
theorem Gz(l:gJ m){g:X}(k:∀x∈m,x.bO<=g)(j:∀h∈e,h.key≠⟨#[]⟩)(i:∀h∈e,h.bO=g+1)(f:gz):jT (g+1) (gV f m e)=ia (jT g m) e:=by
 have:=xP (rest:=[]) (ms:=rf f) l (by simp) j i k (by simp);unfold gV;grind
theorem Inv.CK(h:Inv w sbqq s K m a b c d C tbqq N lsqq f)(i:∀x∈e,x.Good)(j:∀x∈e,x.bO=(s.aS:X)+1):(∀x∈gV f m e,x.Good)/\(∀x∈gV f m e,(tbqq:X)<x.bO/\x.bO<=(s.aS:X)+1)/\jT ((s.aS:X)+1) (gV f m e)=ia (ia [] lsqq.flatten) e:=by
 have k:=h.Di;refine⟨λx g=>(GA g).elim (h.st.iP x)<|i x,λx g=>?_,?_⟩;rcases GA g with q|q;have:=h.Ua x q;omega;grind
 rw[Gz h.row (λx g=>(h.Ua x g).2) (λl k=>uE<|i l k) j f,h.mem]
theorem Inv.Vb(l:Inv w sbqq s K m a b c d C tbqq N lsqq f)(k:∀x∈e,x.Good)(i:∀x∈e,x.bO=(s.aS:X)+1){t:X}(g:t∈rf f)(q:ae):eQ t (gV f m e::bU a b c d) q=eQ t (m::bU a b c d) q:=by
 have h:t<=s.aS:=by unfold rf at g;obtain⟨p,j,rfl⟩:=bR.1 g;exact_mod_cast l.Xg p j
 unfold eQ;rw[show gV f m e=dI (rf f) (fM m e)from rfl,Eh l.row (λn j=>uE<|k n j) i g h]
theorem Inv.Ve(h:Inv w sbqq s K m a b c d C tbqq N lsqq f)(k:∀x∈e,x.Good)(i:∀x∈e,x.bO=(s.aS:X)+1)(q:ae):eQ ((s.aS:X)+1) (gV f m e::bU a b c d) q=seen (ia (jT s.aS m) e::(bU a b c d).map (jT s.aS)) q:=by
 unfold eQ;rw[show gV f m e=dI (rf f) (fM m e)from rfl,xP h.row h.pr.row (λn j=>uE<|k n j) i (λx g=>(h.Ua x g).2) (λr l x g=>by have o:=h.pr.low x<|bC.2 ⟨r,l,g⟩;have:=h.Di;omega)]
end
def YK(w k:Y)(a:M)(s:SR)(q:X)(r C:M)(K:DK)(j:eR)(i:X->ae->Option ae)(h:M)(t u x A:cW)(g:dS)(p:Ending):Prop:=(p=aM .nilIface/\∃l m n o b num c d e f,Ka w k a s q r C K j i l m n o b num c d e f/\PE s.kG c d e)\/∃v b,p=aM v/\TR w k a s q K b v/\(PF s h t u x A g (vw b.files)\/∃num c d e f,YO s r C j i (vw b.files) num c d e f/\PE s.kG c d e)
def NP(mv:ab)(ej cB:M)(h:cS a b o k)(n:ST a b o i e j W u v c)(cs:((j++W++u++v).map bz.tb).Nodup)(gi:PR g (bU j W u v))(hw:kC a mv K)(fs:∀k,cK mv=H k->k<z (G a))(fL:dV K)(gs:qV 5 K)(fv:∀hN∈K,hN.Good)(hx:y K<=100)(fr:∀hN∈K,(g:X)<hN.bO)(fl:∀hN∈K,hN.bO<=cB)(gn:g<=cB)(jE:y (bZ j)+y (bZ W)+y (bZ u)+y (bZ v)+y K<=ej)(hm:ej<=1000000)(gk:2<=o.kG)(hI:FU (vw i.files) o.next o.log g j W u v o.ez l)(hC:y (jZ ((g:X)+1) l)<=200000)(il:cB<1000000000000000)(hA:o.next<=900000000000000)(hy:y i.gT<=10000000000)(sn:gz)(gj:Ng a i b o sn)(hD:i.fx.room<1000000000):cY aZ 62 #[aA b,mv,aE cB] a λgx w'=>YK a w' b o k cB ej i (rf sn) (λha=>eQ ha<|K::bU j W u v) g j W u v l gx:=by
 have ef:=ak h;have bt:=n.r7 (C':=ej) ef cs (by omega) hm;have co:=λd wr v0 v1 v2 v3 a1 b1 c1 d1 b a=>Eb d ej cB (rf sn) (λha=>eQ ha<|K::bU j W u v) wr v0 v1 v2 v3 a1 b1 c1 d1 b a h n hI hC il hA hy hD;have eo:=U (show∀K',vq i K'->PF o g j W u v l (vw K'.files)fromλK' a=>by rw[a.1];exact⟨_,hI.left (by omega) (by have h1:=n.rE;have h2:=n.kK;have:=jz<|λha b=>(n.l0.each ha b).pure;have:=jz n.s1.pure;have:=jz n.s2.pure;have:=jz n.s3.pure;simp only[af];omega)⟩);obtain⟨y0,z0,dx⟩:=bY n.l0.row;obtain⟨y1,z1,dT⟩:=bY n.l1.row;obtain⟨y2,z2,ea⟩:=bY n.l2.row;obtain⟨y3,z3,eb⟩:=bY n.l3.row;have it:aW a (R b 10)=H (I y0 (y j) z0):=by rw[<-dx];exact h.cell rfl
 have iu:aW a (R b 11)=H (I y1 (y W) z1):=by rw[<-dT];exact h.cell rfl
 have iv:aW a (R b 12)=H (I y2 (y u) z2):=by rw[<-ea];exact h.cell rfl
 have jA:aW a (R b 13)=H (I y3 (y v) z3):=by rw[<-eb];exact h.cell rfl
 rw[dx,dT,ea,eb]at bt;obtain⟨O,ds⟩:∃O,cN a (aw #[I y0 (y j) z0,I y1 (y W) z1,I y2 (y u) z2,I y3 (y v) z3] 92)=O:=⟨_,rfl⟩;have bl:Z ay a O:=by rw[<-ds];exact(cF _ _)
 have ey:O.heap[z<|G a]?=H (aw #[I y0 (y j) z0,I y1 (y W) z1,I y2 (y u) z2,I y3 (y v) z3] 92 (0,0)):=by rw[<-ds];exact aJ _ rfl
 have cj:=bt.aj (bl.mono cL)<|(nD o.aI i).eY bt.D bl cL;have eu:cS O b o k:=(bl.block b ef id).trans h;have bk:=n.aI.lt;have cw:=n.wR;obtain⟨mx,mc,gb⟩:=bY hw;obtain⟨es,HM,hh,dk,dc,eq,aa,x,el⟩:=yr n hw fs fL fv gi co cj ey;obtain⟨dn,bo,HH,hg,hc,cc,cT,hZ,hi⟩:=yr bl eu h fr fl cw bk gb gj;have hR:z (G O)=z (G a)+1:=by rw[<-ds];simp
 clear h n cs gi hw fs fL fv fr fl hI co bt cj ey bl eu cw bk dx dT ea eb gj;subst gb;obtain⟨R0,bu⟩:∃R0:X->ae->Option ae,(λha=>eQ ha<|K::bU j W u v)=R0:=⟨_,rfl⟩;obtain⟨d,hv⟩:∃d,z (G a)=d:=⟨_,rfl⟩;have fn:z (G a)<=d:=by omega
 have er:=U bu;have Q:=J aa;rw[bu]at Q;clear aa;have aa:=U Q;rw[bu];clear Q bu;have cb:=U hv;by_cases hU:y K=0;(case' pos=>(have cp:¬(0:X)<(y K:X):=by omega);have m:K=[]:=aL hU;have P:=U<|show Kb a b o k d i (j++W++u++v) ej cB (rf sn) R0 O from⟨_,_,_,_,j,W,u,v,[],x,by rw[<-J cb];exact el,eq.mono gn,λha _ q=>by rw[<-J er,m];grind[lW],bo,dn.mono cL,λq=>by simp at q;obtain⟨rfl,rfl,rfl,rfl⟩:=q;simp⟩;clear m;(go_in);(go_wp2_with fail);obtain⟨W7,S⟩:∃W7,O=W7:=⟨_,rfl⟩;rw[S];rw[S]at P;clear S)
 case' neg=>
  have cp:(0:X)<(y K:X):=by omega
  obtain⟨mg,mo,gc,fx,al⟩:∃gt V,mx=H (R gt V)/\y K<=mc/\∀av hW,(aK K)[av]?=H hW->aW a (R gt<|V+av)=H hW:=by
   obtain⟨_,⟨q1,q2⟩|⟨gt,V,ih,q1,q2,q3⟩⟩:=J HM
   .grind
   grind
  subst gc;have hz:K≠[]:=λq=>hU (by rw[q];rfl);have ec:mg<z (G a):=hh mg rfl;have bm:Z ay a O.drew:=dn.cz<|cZ ay O;have cr:=DU K mg mo mc O.drew (λav hj=>bm.cell (es.kA.steps av hj) id es.kA.fS.lt) (by have:=bm.size;omega) (λav hW hj=>bm.cell (al av hW hj) id ec) fx (by omega) dc dk (λq hq=>aC (gs.keys q hq)<|by omega) (by omega);clear al;go_in
  go_wp2_with fail
  rename_i QQ KK bd hB;have hS:O.drew.heap[d]?=H (aw #[I y0 (y j) z0,I y1 (y W) z1,I y2 (y u) z2,I y3 (y v) z3] 92 (0,0)):=by rw[<-J cb];exact el
  refine dR (λ(w:Y)=>w.heap[d]?=H (aw #[I y0 (y j) z0,I y1 (y W) z1,I y2 (y u) z2,I y3 (y v) z3] 92 (0,0))) 8 (by kernel_rfl) ?_;refine fh 0 ?_;iterate 3 (refine iz (v:=?_) hS rfl (by kernel_rfl) lk rfl ?_ ?_;rotate_left;(focus(intro w hX;have x0:aW w (R d 0)=H (I y0 (y j) z0):=(by rw[cg hX];rfl);go_simp;try rfl));simp only[Act.put,dW,Nat.reduceAdd])
  apply ii;refine bj (i:=3) rfl rfl (by kernel_rfl) ?_;intro K3 aV;go_simp;apply cr.mono;rintro gx r⟨m,t,hO,ac,xb,ad,rfl,hf⟩;obtain⟨gf,ge,bg⟩:=VR hf hz dc dk hx;have ap:=(hf.aj.block d (ak hS) id).trans hS;refine aV _ _ (λ_=>ap) ?_;clear aV cr;try simp only[Act.put,dW]
  refine bj (i:=4) rfl rfl (by kernel_rfl) ?_;intro K4 ba;go_simp;have eg:Z ay r (cN r<|aw #[aA m] 186):=(cF _ _);have eB:=(eg.block d (ak ap) id).trans ap;refine ba _ _ (λ_=>eB) ?_;clear ba;try simp only[Act.put,dW]
  refine bj (i:=5) rfl rfl (by kernel_rfl) ?_;intro K5 bb;go_simp;obtain⟨W5,bf⟩:∃W5,cN (cN r<|aw #[aA m] 186) (aw #[I y0 (y j) z0,bD (z<|G r) 0 1 1] 90)=W5:=⟨_,rfl⟩;have bT:Z ay r W5:=by rw[<-bf];exact eg.alloc _
  have bv:=(bT.block d (ak ap) id).trans ap;have cl:W5.heap[z<|G r]?=H (aw #[aA m] 186 (0,0)):=by rw[<-bf];grind[fU,aJ]
  have bh:W5.heap[z (G r)+1]?=H (aw #[I y0 (y j) z0,bD (z<|G r) 0 1 1] 90 (0,0)):=by rw[<-bf];exact aJ _<|by simp
  rw[bf];refine bb _ _ (λ_=>bv) ?_;clear bb bf;try simp only[Act.put,dW]
  refine bj (i:=6) rfl rfl (by kernel_rfl) ?_;intro K6 ao;go_simp;have L:Z ay O W5:=((cZ ay O).cz hf.aj).cz bT;have cn:=tW (z (G r)+1) 0 2 [((I y0 (y j) z0:ab),j),(bD (z<|G r) 0 1 1,[⟨m,bW 0 t,t,0⟩])] W5 (by
   intro s ht;have:s=0\/s=1:=by grind
   rcases this with rfl|rfl<;>(rw[cg bh];rfl)) (ak bh) (by
    intro s ht;have:s=0\/s=1:=by grind
    rcases this with rfl|rfl
    .exact L.row x.r0<|λk a=>⟨id,(x.b0 k a).1⟩
    .refine⟨rfl,.inr ⟨z (G r),0,1,rfl,ah _,λav hW hj=>?_⟩⟩;rw[cg cl,dE];simpa[bz.ptr]using hj) (by
    intro s ht;have:s=0\/s=1:=by grind
    rcases this with rfl|rfl
    .exactλk a=>ag (x.b0 k a).1 L.size
    .exactλk a=>by cases a;grind) (by simp) (by have:=x.count;simp[lO];omega)
  apply cn.mono;rintro gx w6⟨v6,rfl,bL,ca⟩;have au:=(ca.block d (ak bv) id).trans bv;have cf:lO [((I y0 (y j) z0:ab),j),(bD (z<|G r) 0 1 1,[⟨m,bW 0 t,t,0⟩])]=y (j++[(⟨m,bW 0 t,t,0⟩:bz)]):=by simp[lO]
  have ce:qd [((I y0 (y j) z0:ab),j),(bD (z<|G r) 0 1 1,[⟨m,bW 0 t,t,0⟩])]=(j++[(⟨m,bW 0 t,t,0⟩:bz)]).map bz.ptr:=by simp[qd]
  rw[cf,ce]at bL;obtain⟨x6,c6,hF⟩:=aB bL;subst hF;refine ao _ _ (λ_=>au) ?_;clear ao cn;try simp only[Act.put,dW]
  refine bj (i:=7) rfl rfl (by kernel_rfl) ?_;intro K7 E;go_simp;refine E _ _ (λ_=>au) ?_;clear E;try simp only[Act.put,dW]
  refine bj (i:=8) rfl rfl (by kernel_rfl) ?_;intro K8 F;have x0:=cellAt au 0 rfl;have hL:=cP (i:=0) au;go_simp;have N:Z ay O w6:=L.cz ca;have cx:Z ay r w6:=bT.cz ca;have cu:NT.Ok w6 (z<|G O) ⟨⟨m,bW 0 t,t,0⟩,hO,ac,xb,ad⟩:=NT.Ok.aj gf cx<|λ_ _ q=>q;have ex:=x.ZY (p:=⟨⟨m,bW 0 t,t,0⟩,hO,ac,xb,ad⟩) N cu ge (fX bL L.size) (by
   grind)
  have D:Z (λq=>q=d) w6 (cq w6 (R d 0)<|I x6 (y<|j++[(⟨m,bW 0 t,t,0⟩:bz)]) c6):=(gZ d w6);have ch:=ex.other D (λq hq=>by grind);have cv:PR cB (bU (j++[(⟨m,bW 0 t,t,0⟩:bz)]) W u v):=by
   rw[Ej,bg];exact eq.cons gn dk dc hg hc
  have P:=U<|show Kb a b o k d i (j++W++u++v) ej cB (rf sn) R0 (cq w6 (R d 0)<|I x6 (y<|j++[(⟨m,bW 0 t,t,0⟩:bz)]) c6)from⟨_,_,_,_,_,W,u,v,_,ch,(aH au).trans rfl,cv,λha _ q=>by rw[Ej,bg,<-J er],(D.block b (ag (ak bo) N.size)<|λq=>by omega).trans<|(N.block b (ak bo) id).trans bo,((dn.cz N).mono (T:=i.aO o.aI) cL).trans D (λq hq=>.inr<|by omega),λq=>by simp at q;obtain⟨rfl,rfl,rfl,rfl⟩:=q;simp⟩;refine F _ _ (λq=>(q rfl).elim) ?_;refine eS (by kernel_rfl) ?_ _;show KK _ _;apply bd;clear bd F ch ex cv D cu cx N au bL ca cl bh bv bT eB eg ap gf ge bg hf hS x0 hL L cf ce;have cd:y (j++[(⟨m,bW 0 t,t,0⟩:bz)])=y j+1:=by simp
  rw[cd]at P;obtain⟨W7,S⟩:∃W7,cq w6 (R d 0) (I x6 (y j+1) c6)=W7:=⟨_,rfl⟩;rw[S];rw[S]at P;clear S cd;go_wp2_with fail
 all_goals
  clear cp;go_loopw [25] (λf wr=>∃(s:M)(hb:X),s<=4/\hb=s/\f=ar hb/\Kb a b o k d i (j++W++u++v) ej cB (rf sn) R0 wr/\D6 o.kG d s wr) (λf _=>4-(intOf f).toNat)
  case atStart=>exact⟨0,0,by omega,rfl,rfl,P,λav hj=>absurd hj<|gq av⟩
  case round=>
   obtain⟨s,hb,ht,hI,rfl,dr,ck⟩:=hrel;have aD:=U ck;clear ck;by_cases h4:s<4
   .have P:=U dr;have dm:=U<|λ(wr:Y)(h:Kb a b o k d i (j++W++u++v) ej cB (rf sn) R0 wr)=>h.step fn cc hi gk s h4;obtain⟨me,fu⟩:∃me:Y->M,∀m,me m=rN m d s:=⟨_,λ_=>rfl⟩;have em:=U fu;clear dr fu;obtain⟨LL,bs⟩:∃LL:Y->Prop,LL=D6 o.kG d s:=⟨_,rfl⟩;have bq:=U (show∀m,LL m->nz o.kG s (rN m d s)=aX->D6 o.kG d (s+1) m fromλm h1 h2 av hj=>by
     rw[bs]at h1;rcases uK.1 hj with q|q
     .exact h1 av q
     .rw[q];exact h2)
    have he:=U (show∀m a,LL m->(∀av,av<s->rN a d av=rN m d av)->LL a fromλm a h1 h2=>by
     rw[bs]at h1|-;exactλav hj=>by rw[h2 av hj];exact h1 av hj)
    rw[<-bs]at aD;clear bs;rcases(show(s=0/\hb=0)\/(s=1/\hb=1)\/(s=2/\hb=2)\/(s=3/\hb=3)by omega)with⟨rfl,rfl⟩|⟨rfl,rfl⟩|⟨rfl,rfl⟩|⟨rfl,rfl⟩;all_goals
     clear hI;go_wp2_with fail
     go_loopw [9] (λ_ wr=>Kb a b o k d i (j++W++u++v) ej cB (rf sn) R0 wr/\LL wr) (λ_ wr=>me wr)
     case atStart=>exact⟨P,aD⟩
     case round=>
      obtain⟨hrel,eA⟩:=hrel;have HR:=U hrel;have cE:=U (show cS wr b o k/\Z (i.aO o.aI) a wr from by obtain⟨_,_,_,_,_,_,_,_,_,fd⟩:=hrel;exact⟨fd.box,fd.aj⟩);have aF:=U eA;obtain⟨p0,p1,p2,p3,n0,n1,n2,n3,q0,q1,q2,q3,hN,jB,jC,jD,A,hT,B,dv,fk,fz⟩:=dm wr hrel;have bp:=U fk;cases gY hT;have g0:=cellAt A 0 rfl;have g1:=cellAt A 1 rfl;have g2:=cellAt A 2 rfl;have g3:=cellAt A 3 rfl;have en:=U fz;have br:=U A;clear fz A hT hrel eA fk;cases jD
      .clear dv en br;go_wp2_with fail
       apply B.mono;rintro gx r⟨rfl,hH⟩;subst r;clear B g0 g1 g2 g3;go_wp2;go_roundw;case rel=>first|exact⟨1,1,by omega,rfl,rfl,HR,bq _ aF bp.symm⟩|exact⟨2,2,by omega,rfl,rfl,HR,bq _ aF bp.symm⟩|exact⟨3,3,by omega,rfl,rfl,HR,bq _ aF bp.symm⟩|exact⟨4,4,by omega,rfl,rfl,HR,bq _ aF bp.symm⟩
       case measure=>simp[intOf]
      .have cM:=U<|dv rfl;clear dv;go_wp2_with fail
       apply B.mono;rintro gx r⟨rfl,hH⟩;subst r;clear B;go_wp2_with fail
       rename_i QQ KK bd;have hS:wr.drew.heap[d]?=H (aw #[I p0 n0 q0,I p1 n1 q1,I p2 n2 q2,I p3 n3 q3] 92 (0,0)):=J br;refine jj (λ(w:Y)=>w.heap[d]?=H (aw #[I p0 n0 q0,I p1 n1 q1,I p2 n2 q2,I p3 n3 q3] 92 (0,0))) 6 (by kernel_rfl) ?_;refine kF 0 ?_;iterate 3 (refine uS (v:=?_) hS rfl (by kernel_rfl) lk rfl ?_ ?_;rotate_left;(focus(intro w hX;have x0:aW w (R d 0)=H (I p0 n0 q0):=(by rw[cg hX];rfl);have x1:aW w (R d 1)=H (I p1 n1 q1):=(by rw[cg hX];rfl);have x2:aW w (R d 2)=H (I p2 n2 q2):=(by rw[cg hX];rfl);have x3:aW w (R d 3)=H (I p3 n3 q3):=(by rw[cg hX];rfl);go_simp;try rfl));simp only[Act.put,dW,Nat.reduceAdd])
       apply oC;refine fy (i:=3) rfl rfl (by kernel_rfl) ?_;intro K3 aV;go_simp;apply(en wr.drew<|cZ _ _).mono;rintro gx wm⟨vm,lm,rfl,gg,ed,bn⟩;obtain⟨hM,hl,hG⟩:=aB ed;subst hG;have bi:=cM wm hM hl lm bn ed gg;have fb:wm.heap[d]?=H (aw #[I p0 n0 q0,I p1 n1 q1,I p2 n2 q2,I p3 n3 q3] 92 (0,0)):=(bn.block d (ak br) id).trans br;refine aV _ _ (λ_=>fb) ?_;try simp only[Act.put,dW]
       refine fy (i:=4) rfl rfl (by kernel_rfl) ?_;intro K4 ba;go_simp;apply bi.mono;rintro gx r an;obtain⟨r0,r1,r2,r3,m0,m1,m2,m3,t0,t1,t2,t3,gE,rfl,f,an⟩:∃(r0 r1 r2 r3:Option Addr)(m0 m1 m2 m3 t0 t1 t2 t3:M)(gE:ab),gx=aM (dq #[dC #[I r0 m0 t0,I r1 m1 t1,I r2 m2 t2,I r3 m3 t3],gE])/\r.heap[d]?=H (aw #[I p0 n0 q0,I p1 n1 q1,I p2 n2 q2,I p3 n3 q3] 92 (0,0))/\((gE=.nilIface/\Kb a b o k d i (j++W++u++v) ej cB (rf sn) R0 (cq (cq (cq (cq r (R d 0)<|I r0 m0 t0) (R d 1)<|I r1 m1 t1) (R d 2)<|I r2 m2 t2) (R d 3)<|I r3 m3 t3)/\rN (cq (cq (cq (cq r (R d 0)<|I r0 m0 t0) (R d 1)<|I r1 m1 t1) (R d 2)<|I r2 m2 t2) (R d 3)<|I r3 m3 t3) d _<rN wr d _/\∀av,av<_->rN (cq (cq (cq (cq r (R d 0)<|I r0 m0 t0) (R d 1)<|I r1 m1 t1) (R d 2)<|I r2 m2 t2) (R d 3)<|I r3 m3 t3) d av=rN wr d av)\/∃q,gE=eD q/\YK a (cq (cq (cq (cq r (R d 0)<|I r0 m0 t0) (R d 1)<|I r1 m1 t1) (R d 2)<|I r2 m2 t2) (R d 3)<|I r3 m3 t3) b o k cB ej i (rf sn) R0 g j W u v l (aM<|eD q)):=by
        rcases an with⟨r0,r1,r2,r3,m0,m1,m2,m3,t0,t1,t2,t3,rfl,f,bx,C,bE⟩|⟨⟨hX,q,rfl,hq,ho,gr⟩,f⟩
        .exact⟨r0,r1,r2,r3,m0,m1,m2,m3,t0,t1,t2,t3,_,rfl,f,.inl ⟨rfl,bx,C,bE⟩⟩
        .refine⟨none,none,none,none,0,0,0,0,0,0,0,0,eD q,rfl,f,.inr ⟨q,rfl,?_⟩⟩;have D:Z (λq=>q=d) r (cq (cq (cq (cq r (R d 0) az) (R d 1) az) (R d 2) az) (R d 3) az):=(((gZ d r).setCell _ _ _<|.inl rfl).setCell _ _ _<|.inl rfl).setCell _ _ _<|.inl rfl;have hu:¬i.aO o.aI d:=λgt=>by have:=cT d gt;omega
         have hn:=(nD o.aI i).eY ho D (λj g=>by rw[g];exact hu);obtain⟨_,K3,ew,hp,hs,hJ⟩:=hn;have ip:b<z (G a):=ef;have fg:=(bn.block b (ak cE.1) id).trans cE.1;have ff:=(gr.block b (ak fg) cc).trans fg;have hr:=(D.block b (ak ff)<|λgt=>by omega).trans ff;have hE:Z (i.aO o.aI) a r:=(cE.2.cz bn).trans gr<|λ_ gt=>.inl gt;refine .inr ⟨_,K3,rfl,⟨⟨ew,(hE.mono (T:=λj=>i.aO o.aI j\/j=b)<|λ_ gt=>.inl<|.inl gt).trans D (λj g=>.inr<|by omega),λj g=>.inl<|hs j g,hJ⟩,⟨o,hr,rfl,rfl⟩,q,8,rfl,hq.aj D (λj g _=>by rw[g];exact⟨_,92,_,f,by decide⟩),.inl ⟨rfl,hX⟩⟩,.inl<|eo K3 hp⟩
       have g0:=cellAt f 0 rfl;have f0:=cP (i:=0) f;have g1:=cellAt f 1 rfl;have f1:=cP (i:=1) f;have g2:=cellAt f 2 rfl;have f2:=cP (i:=2) f;have g3:=cellAt f 3 rfl;have f3:=cP (i:=3) f;have aU:=U an;clear an;refine ba _ _ (λ_=>f) ?_;try simp only[Act.put,dW]
       refine fy (i:=5) rfl rfl (by kernel_rfl) ?_;intro K5 bb;go_simp;refine bb _ _ (λ_=>f) ?_;try simp only[Act.put,dW]
       clear aV ba bb;apply Gm KK
       .intro ei;refine DI (i:=6) (j:=7) rfl rfl rfl rfl (by kernel_rfl) ?_ ?_
        .intro K6 ao;go_simp;refine ao _ _ (λu=>(by omega)) ?_;try simp only[Act.put,dW]
         refine DI (i:=7) (j:=8) rfl rfl rfl rfl (by kernel_rfl) ?_ ?_
         .intro K7 E;go_simp;refine E _ _ (λu=>(by omega)) ?_;try simp only[Act.put,dW]
          refine fy (i:=8) rfl rfl (by kernel_rfl) ?_;intro K8 F;go_simp;refine F _ _ (λu=>(by omega)) ?_;try simp only[Act.put,dW]
          refine fy (i:=9) rfl rfl (by kernel_rfl) ?_;intro K9 bc;go_simp;refine bc _ _ (λu=>(by omega)) ?_;try simp only[Act.put,dW]
          refine ju (by kernel_rfl) ?_ _;exact ei
         .intro K8 F;go_simp;refine F _ _ (λu=>(by omega)) ?_;try simp only[Act.put,dW]
          refine fy (i:=7) rfl rfl (by kernel_rfl) ?_;intro K7 E;go_simp;refine E _ _ (λu=>(by omega)) ?_;try simp only[Act.put,dW]
          refine fy (i:=9) rfl rfl (by kernel_rfl) ?_;intro K9 bc;go_simp;refine bc _ _ (λu=>(by omega)) ?_;try simp only[Act.put,dW]
          refine ju (by kernel_rfl) ?_ _;exact ei
        .intro K7 E;go_simp;refine E _ _ (λu=>(by omega)) ?_;try simp only[Act.put,dW]
         refine fy (i:=6) rfl rfl (by kernel_rfl) ?_;intro K6 ao;go_simp;refine ao _ _ (λu=>(by omega)) ?_;try simp only[Act.put,dW]
         refine fy (i:=8) rfl rfl (by kernel_rfl) ?_;intro K8 F;go_simp;refine F _ _ (λu=>(by omega)) ?_;try simp only[Act.put,dW]
         refine fy (i:=9) rfl rfl (by kernel_rfl) ?_;intro K9 bc;go_simp;refine bc _ _ (λu=>(by omega)) ?_;try simp only[Act.put,dW]
         refine ju (by kernel_rfl) ?_ _;exact ei
       apply bd;clear bd hS fb ed bn gg f bi;rcases J aU with⟨rfl,bx,C,bE⟩|⟨q,rfl,cm⟩
       .obtain⟨hk,db,hd⟩:=dz bx C bE;clear bx C bE aU;go_wp2;go_roundw;case rel=>exact⟨hk,he _ _ aF hd⟩
        case measure=>
         rw[J em,J em];exact db
       .have ek:=U cm;clear cm aU;go_wp2;go_ret;exact ek
   .obtain⟨rfl,rfl⟩:s=4/\hb=4:=by omega
    clear hI;obtain⟨v0,v1,v2,v3,a1,b1,c1,d1,hK,hV⟩:=dr;obtain⟨p0,q0,rfl⟩:=bY hV.ls.r0;obtain⟨p1,q1,rfl⟩:=bY hV.ls.r1;obtain⟨p2,q2,rfl⟩:=bY hV.ls.r2;obtain⟨p3,q3,rfl⟩:=bY hV.ls.r3;have g0:=cellAt hV.lb 0 rfl;have g1:=cellAt hV.lb 1 rfl;have g2:=cellAt hV.lb 2 rfl;have g3:=cellAt hV.lb 3 rfl;have et:=U<|λa' b' c' d'(q:o7 a1 b1 c1 d1 a' b' c' d')=>(J aD).tid hV.lb q;have ax:=U<|aa d wr _ _ _ _ a1 b1 c1 d1 hK hV;clear hV;go_wp2_with fail
    apply ax.mono;rintro gx r(⟨rfl,K',num,a',b',c',d',hQ,fe⟩|⟨hY,K',rfl,hP,ev⟩)
    .have HP:=U<|show YK a r b o k cB ej i (rf sn) R0 g j W u v l (aM .nilIface)from .inl ⟨rfl,_,_,_,_,K',num,a',b',c',d',hQ,et _ _ _ _ fe⟩;clear hQ fe ax;go_wp2;go_ret;exact HP
    .have HP:=U<|show YK a r b o k cB ej i (rf sn) R0 g j W u v l (aM hY)from .inr ⟨hY,K',rfl,hP,ev.imp id<|λ⟨num,a',b',c',d',h1,h2⟩=>⟨num,a',b',c',d',h1,et _ _ _ _ h2⟩⟩;clear hP ev ax;go_wp2;go_ret;exact HP
def SR.CK(s:SR)(c:ab)(a:M)(b:Bool):SR:={s with memory:=c,fm:=s.fm+a,aS:=s.aS+1,ez:=ci,jx:=ci,iT:=b}
def Qd{o:wM}{l:cJ wM}(h:l<+:[o])(b:mi l i x):vq i x\/∃a,Gs o i a/\vq a x:=by
 cases l with
 |nil=>exact .inl b
 |cons d l=>
  obtain⟨rfl,c⟩:=ng.1 h;obtain rfl:=List.prefix_nil.1 c;exact .inr b
def ZA{l:cJ wM}(m:l<+:[.cr t])(j:mi l i x):vq i x\/Gs (.cr t) i x:=by
 rcases Qd m j with h|⟨k,⟨h,a,b,c,d⟩,e,f,g⟩;exact .inl h;exact .inr ⟨h,a,e.trans b,f.trans c,g.trans d⟩
def ZB{l:cJ wM}(m:l<+:[.ap t n])(h:mi l i x):vq i x\/Gs (.ap t n) i x:=by
 rcases Qd m h with k|⟨j,⟨F,o,a,b,c,d⟩,e,f,g⟩;exact .inl k;exact .inr ⟨F,o,a,e.trans b,f.trans c,g.trans d⟩
def Inv.left{d:gz}(h:Inv a b o i e j W u v c g m l d):sh (vw i.files) o.next o.log g j W u v o.ez l:=h.qD.left (by have:=h.nx;have:=h.kK;omega) h.FW
def Inv.Kj{d:gz}(h:Inv a b o i e j W u v c g m l d):Np 1000002 (vw i.files):=h.qD.Kj h.FW
def sh.UG{a:Fs}{e:dS}(h:sh F b c g j W u v P l)(p:c<18446744073709551616)(s:Np 1000002 F)(d:∀n,dh a n=if fa c=n then H (jZ ((g:X)+1) e)else dh F n):sh a b c g j W u v ci e:=by
 have o:dh a eh=dh F eh:=by rw[d,dF<|kL _]
 refine{h with Kj:=(s.one (x:=fa c) (λt f q=>by rw[d]at q;by_cases i:fa c=t;exact .inl i.symm;rw[dF i]at q;exact .inr ⟨_,q⟩)).mono (by omega),names:=λn f q=>?_,first:=λq n f t k m=>?_,Ge:=λq=>(by cases q),state:=by rw[o];exact h.state,log:=λ_=>by rw[d,dH rfl],vJ:=λq=>(by cases q),oK:=λA r=>by rw[d,dF<|λq=>iA _ _ q.symm];exact h.oK A r};rw[d]at q;by_cases i:fa c=n;exact .inr<|.inr ⟨c,p,.inr i.symm⟩;rw[dF i]at q;exact h.names n f q;rw[o]at q;rw[d]at k;by_cases i:fa c=n;rcases m with u|u;exact absurd (u.symm.trans i.symm)<|iA _ _;have:=AO<|i.trans u;rcases h.state with w|⟨_,_,_,_,_,_,w,_⟩;rw[w]at q;cases q;omega;rw[dF i]at k;exact h.first q n f t k m
def Yg(h:∀x∈e,x.Good)(c:y e<=8):kh (pI k e):=by
 have a:kh (iQ k e):=by unfold iQ;refine(kh.le 8 _).append ?_;intro x b;rcases bJ.1 b with q|q;rw[q];constructor<;>omega;exact Fc h x q
 unfold pI iN;exact((((kh.le 4 _).append<|kh.le 4 _).append<|kh.le 4 _)).append a
def Fv(s:SR):cJ wM:=if s.ez then []else [.cr<|fa s.log]
def Eo(s:SR)(a:eR):cJ wM:=Fv s++[.ap (fa s.log) a]
def j3(w f:Y)(b:M)(s:SR)(o:X)(K:DK)(p:cR)(j k l m:cW)(C c N:M)(a:dS)(i:gz)(e:cR)(n:Ending):Prop:=(n=aM .nilIface/\∃h g d,cS f b (s.CK h (y e) g) o/\Inv f b (s.CK h (y e) g) d (gV i p e) j k l m (C+y e) c (N+1) (a++[e]) i/\fJ w f s.aI b K d/\mi (Eo s<|pI ((c:X)+1+y a) e) K d/\(s.ez=aX->g=ci))\/∃v d,n=aM v/\TR w f b s o K d v/\(PF s c j k l m a (vw d.files)\/PF s c j k l m (a++[e]) (vw d.files))
def Lg{s:SR}{hk:cW}(sn:gz)(h:cS a b s k)(f:Inv a b s x e j W u hk c g m l sn)(hf:kC a d K)(eA:∀k,cK d=H k->Aside a x s.aI b k)(bL:0<y K)(h8:y K<=8)(hg:∀fr∈K,fr.Good)(he:∀fr∈K,fr.bO=(s.aS:X)+1)(hr:s.fm+y K<32)(hC:c+y K<=1000000)(hN:m+1<=100000000)(hu:x.fx.room<1000000000\/fB x.files<=999999000):cY aZ 73 #[aA b,d] a λbs w'=>j3 a w' b s k x e j W u hk c g m l sn K bs:=by
 have dk:=f.st;have aU:=ak h;have p:s.log<18446744073709551616:=by have:=f.qD.lt;have:=f.nx;have:=f.kK;omega
 have cl:=yQ s.log p dk.kA.pow;obtain⟨eb,eo,fs,gj,bg,au⟩:∃bc w B,d=bD bc w (y K) B/\y K<=B/\∀ds fn,(aK K)[ds]?=H fn->aW a (R bc<|w+ds)=H fn:=by obtain⟨_,⟨q1,q2⟩|⟨bc,w,B,q1,q4,q3⟩⟩:=hf;omega;grind
 have cs:=U bg;clear bg;subst gj;have ap:=eA eb rfl;obtain⟨mx,mc,gn⟩:=bY dk.mem;have ge:=cS.cellAt h 17 rfl;obtain⟨o,HH,HE,HG,HB,ea,cv⟩:=zo f h au hg he cl gn;clear f dk h hf eA au hg he cl;obtain⟨lg,dc⟩:∃lg,s.ez=lg:=⟨_,rfl⟩;have hi:∀(fr:Bool)(a:Y),(Op.unary .not<|aN fr).run aZ a=.ok (aN<|!fr) a:=λ_ _=>rfl;go_in
 go_wp2_with fail
 apply ea.mono;rintro bs w1⟨rfl,ew⟩;have cb:Z ay a w1:=Z.aR ew;have ey:fJ a w1 s.aI b x x:=⟨o.st.aI.aj cb<|λ_ _=>id,cb.mono cL,λ_ q=>.inl q,Fx.refl _⟩;have t:cS w1 b s k:=(cb.block b aU id).trans HH;have gt:aW w1 (R b 18)=H (aN lg):=by rw[<-dc];exact t.cell rfl
 have k2:=cS.cellAt t 2 rfl;have gx:=cS.cellAt t 21 rfl;have gf:w1.frozen? (R b 18)=aX:=t.free;have gg:w1.frozen? (R b 21)=aX:=t.free;obtain⟨D,bt,F⟩:=dz t ey dc;clear ew cb t ey dc ge;cases lg
 case' true=>
  go_wp2_with fail
  obtain⟨V,L⟩:∃V,w1=V:=⟨_,rfl⟩;obtain⟨ln,ax⟩:∃ln,s.iT=ln:=⟨_,rfl⟩;have HX:=U (show∃n F3,fJ a V s.aI b x n/\ld n.files (fa s.log)=H F3/\F3.bytes=jZ ((g:X)+1) l/\y n.gT<=y x.gT+1/\(∀q N,oG (vw n.files) (fa s.log,N)=q->∀Q,dh q Q=if fa s.log=Q then H N else dh (vw x.files) Q)/\fB n.files=fB x.files/\(mi (Fv s) x n/\(s.ez=aX->ln=ci))/\cS V b {s with ez:=ci,iT:=ln} k from by
   obtain⟨F3,q1,q2⟩:=jq<|o.qD.log F;refine⟨x,F3,by rw[<-L];exact bt,q1,q2,by omega,λq N bs Q=>by rw[<-bs,mh],rfl,⟨by unfold Fv;rw[J F];exact⟨rfl,rfl,rfl⟩,λq=>by rw[J F]at q;cases q⟩,?_⟩;rw[<-L,<-ax];have:=J D;have bs:s={s with ez:=ci,iT:=s.iT}:=by rw[<-J F]
   rw[<-bs];exact this)
  rw[L];clear L ax
 case' false=>
  have B:dh (vw x.files) (fa s.log)=none:=by
   cases q:dh (vw x.files) (fa s.log)with
   |none=>rfl
   |some N=>
    rcases o.qD.names _ _ q with bs|⟨_,bs⟩|⟨hD,_,bs⟩
    .grind[kL]
    .rw[J F]at bs;cases bs
    .exact absurd bs.symm<|iA _ _
  have cM:=Ik (fa s.log) bt.ok (wF B) (by have:=o.gT;have:=o.kK;omega)<|zN p;go_wp2_with fail
  apply cM.mono;rintro bs w2⟨v2,n,rfl,aF⟩;rcases aF.uz with⟨rfl,o2⟩|⟨l2,q2,c2,r1,r2,rfl,r3,r4⟩;rotate_left
  .have ca:¬x.aO s.aI b:=o.st.wR;have hE:TR a w2 b s k x n (eD q2):=⟨bt.trans<|fJ.of aF.nW,⟨s,(aF.nW.aj.block b (ak D) ca).trans D,rfl,rfl⟩,q2,c2,rfl,r3,r4⟩;have HR:=U (show j3 a w2 b s k x e j W u hk c g m l sn K (aM<|eD q2)from .inr ⟨_,n,rfl,hE,.inl (by
    rcases ZA r1 r2 with bc|⟨bc,fk,a1,_⟩
    .exact⟨_,by rw[bc.1];exact o.left⟩
    .refine⟨ci,o.left.UG p o.Kj<|λQ=>?_⟩;rw[a1,o.qD.vJ F,show vw (x.files++[⟨fa s.log,bc,az,[],0⟩])=vw x.files++[(fa s.log,[])]by simp[vw],gh];by_cases cd:fa s.log=Q
     .rw[dH cd,<-cd,B];simp[dh,jZ]
     .rw[dF cd];cases dh (vw x.files) Q<;>simp[dh,cd])⟩)
   clear aF r1 r2 r3 r4 hE cM B;go_wp2;go_ret;exact HR
  have bE:=aF.nW;obtain⟨hl,⟨g2,y2,f1,f2,f3⟩,f4,f5,f6⟩:=o2;have eB:n.files=x.files++[⟨fa s.log,g2,az,[],0⟩]:=f4.trans f1;have ff:=f5.trans f2;have fd:=f6.trans f3;clear f1 f2 f3 f4 f5 f6 aF;have ca:¬x.aO s.aI b:=o.st.wR;have w:cS w2 b s k:=(bE.aj.block b (ak D) ca).trans D;have co:¬n.aO s.aI b:=bE.Dy ca<|ak D;have gt:aW w2 (R b 18)=H (aN aX):=by rw[<-J F];exact w.cell rfl
  have k2:=cS.cellAt w 2 rfl;have gx:=cS.cellAt w 21 rfl;have gf:w2.frozen? (R b 18)=aX:=w.free;have gg:w2.frozen? (R b 21)=aX:=w.free;obtain⟨dT,fv,cu,ec,ch,aa⟩:=lf w bE eB fd co B;have gb:=U ff;clear w bE eB fd ff co cM B;go_wp2_with fail
  obtain⟨V,L⟩:∃V,cq (cq w2 (R b 18)<|aN ci) (R b 21) (aN ci)=V:=⟨_,rfl⟩;obtain⟨ln,ax⟩:∃ln,ci=ln:=⟨_,rfl⟩;have HX:=U (show∃n F3,fJ a V s.aI b x n/\ld n.files (fa s.log)=H F3/\F3.bytes=jZ ((g:X)+1) l/\y n.gT<=y x.gT+1/\(∀q N,oG (vw n.files) (fa s.log,N)=q->∀Q,dh q Q=if fa s.log=Q then H N else dh (vw x.files) Q)/\fB n.files=fB x.files/\(mi (Fv s) x n/\(s.ez=aX->ln=ci))/\cS V b {s with ez:=ci,iT:=ln} k from by
   have gk:l=[]:=o.qD.vJ F;have fk:vw n.files=vw x.files++[(fa s.log,[])]:=by rw[J cu];simp[vw]
   have cd:dh (vw n.files) (fa s.log)=H []:=by rw[fk,gh,J aa];simp[dh]
   obtain⟨F3,q1,q2⟩:=jq cd;refine⟨n,F3,?_,q1,by rw[q2,gk];rfl,by rw[J ec];simp,λq N bs Q=>?_,by rw[J cu];simp[fB],⟨by unfold Fv;rw[J F];exact mi.one ⟨_,_,cu,gb,ec⟩,λ_=>ax.symm⟩,?_⟩
   .rw[<-L];exact((bt.trans<|fJ.of fv).set ch _ _).set ch _ _
   .rw[<-bs,fk,Hz [] N aa,gh];by_cases bc:fa s.log=Q
    .rw[dH bc,<-bc,J aa];simp[dh]
    .rw[dF bc];cases dh (vw x.files) Q<;>simp[dh,bc]
   .rw[<-L,<-ax];exact(aH (aH dT)).trans rfl)
  rw[L];clear L ax
 all_goals
  obtain⟨n,F3,av,el,cj,cm,bh,bq,bl,cB⟩:=J HX;have ba:=U bl;clear bl;have cp:¬n.aO s.aI b:=av.sb o.st.wR aU;have bp:=o.st.Wl aU av (λQ=>by
   have:=bh _ F3.bytes rfl (fQ Q);rw[dF (λq=>iA _ _ q.symm)]at this;rw[<-this];grind[je,sM,yW])
  have bd:=ap.fj av;have bf:∀ds fn,(aK K)[ds]?=H fn->aW V (R eb<|eo+ds)=H fn:=λds fn hj=>ap.cell av<|HE ds fn hj;have bm:=Oe K eb eo fs V.drew (λds hj=>bp.kA.steps ds hj) bd.lt bf bL HG h8;have ek:(K[0]'bL).bO=(g:X)+1+y l:=by
   have h1:=HB _<|aq bL;have h2:=o.Di;rw[h1,h2];grind
  rw[ek]at bm;have k2:=cS.cellAt cB 2 rfl;obtain⟨aV,bu,ce,ed,cf,cx⟩:=lf av el cj cm bh bq;obtain⟨dv,hb,ei,eg,ha,gE⟩:=lf cB bp cp bm bf bd;clear av el cj cm bh bq cB bp cp bm ek bf bd;rename_i QQ KK er;have es:aW V.drew (R b 2)=H (aA s.aI):=k2;refine dR (λ(ej:Y)=>aW ej (R b 2)=H (aA s.aI)) 8 (by kernel_rfl) ?_;refine fh 0 ?_;iterate 6 (refine iz (v:=?_) es rfl (by kernel_rfl) lk rfl ?_ ?_;rotate_left;(focus(intro ej hX;go_simp;try rfl));simp only[Act.put,dW,Nat.reduceAdd])
  apply ii;refine bj (i:=6) rfl rfl (by kernel_rfl) ?_;intro K6 em;go_simp;apply eg.mono;rintro bs w4⟨v4,rfl,bk,dm⟩;have C:Z ay V w4:=(cZ ay V).cz dm;have et:aW w4 (R b 2)=H (aA s.aI):=C.cell k2 id<|rl k2;refine em _ _ (λ_=>et) ?_;clear em;try simp only[Act.put,dW]
  obtain⟨N,ad⟩:∃N,pI ((g:X)+1+y l) K=N:=⟨_,rfl⟩;rw[ad]at bk;have ex:y N<=400:=by rw[<-ad];exact CG HG h8
  have cE:0<y N:=by rw[<-ad];unfold pI;rw[af,gy];omega
  obtain⟨vb,vc,gr,cr,br,_⟩:=rY bk cE;subst gr;have ev:=Ir (db:=s.aI) (K:=n) (fa s.log) vb 0 vc N (w0:=w4) (aV.ok.aj C<|λ_ _=>id) bu (by rw[aV.fx.room,J cx];omega) (by omega) (by rw[<-ad];exact Yg HG h8) (λds fn hj=>by
   have:=pz bk ds fn hj;rwa[dB]at this) br (λbs=>by have h1:=aV.ok.lt s.aI (.inl rfl);have h2:z (G V.drew)=z (G V):=rfl;omega) (zN p)
  refine bj (i:=7) rfl rfl (by kernel_rfl) ?_;intro K7 en;go_simp;apply ev.mono;rintro bs w5⟨v5,S,rfl,bT⟩;have al:=bT.nW;have bv:cS w4 b {s with ez:=ci,iT:=ln} k:=(C.block b (ak dv) id).trans dv;have ac:cS w5 b {s with ez:=ci,iT:=ln} k:=(al.aj.block b (ak bv) ei).trans bv;refine en _ _ (λ_=>ac.cell rfl) ?_;clear en ev;try simp only[Act.put,dW]
  refine bj (i:=8) rfl rfl (by kernel_rfl) ?_;intro K8 eq;go_simp;refine eq _ _ (λq=>(q rfl).elim) ?_;refine eS (by kernel_rfl) ?_ _;show KK _ _;apply er;clear er eq es et;have P:fJ a w5 s.aI b x S:=aV.trans ⟨al.ok,(C.mono (T:=λk=>n.aO s.aI k\/k=b) cL).trans al.aj<|λ_ q=>.inl<|.inl q,λk q=>(al.aO k q).imp id<|λbc=>aC C.size bc,al.fx⟩;have dr:∀Q,dh (vw n.files) Q=if fa s.log=Q then H (jZ ((g:X)+1) l)else dh (vw x.files) Q:=λQ=>by
   have h1:=cf _ (jZ ((g:X)+1) l) rfl Q;rw[<-h1];have h2:dh (vw n.files) (fa s.log)=H (jZ ((g:X)+1) l):=by rw[sM,J bu,Option.map_some,J ce]
   rw[yW h2]
  have ao:∀{S:DK},Gs (.ap (fa s.log) N) n S->∀Q,dh (vw S.files) Q=if fa s.log=Q then H (jZ ((g:X)+1)<|l++[K])else dh (vw x.files) Q:=λ{S}hs Q=>by
   obtain⟨F5,x5,f0,f1,_,_⟩:=hs;obtain rfl:F3=F5:=by rw[J bu]at f0;cases f0;rfl
   have fl:vw S.files=oG (vw n.files) (fa s.log,jZ ((g:X)+1)<|l++[K]):=by
    rw[f1,xK,RH,ad,<-J ce];show oG _ (F3.name,_)=_;rw[(je<|J bu).1]
   rw[fl];exact cf _ _ rfl Q
  rcases bT.uz with⟨rfl,o5⟩|⟨l5,q5,c5,r1,r2,rfl,r3,r4⟩;rotate_left
  .have hE:TR a w5 b s k x S (eD q5):=⟨P,⟨_,ac,rfl,rfl⟩,q5,c5,rfl,r3,aV.fx.Xh o.st.aI.wS r4⟩;have HR:=U (show j3 a w5 b s k x e j W u hk c g m l sn K (aM<|eD q5)from .inr ⟨_,S,rfl,hE,by
    rcases ZB r1 r2 with bc|bc
    .exact .inl ⟨ci,o.left.UG p o.Kj (λQ=>by rw[bc.1];exact dr Q)⟩
    .exact .inr ⟨ci,o.left.UG p o.Kj (ao bc)⟩⟩)
   clear bT r1 r2 r3 r4 hE P dr ao al bv ac bk dm C ex cE cr br;go_wp2;go_ret;exact HR
  have fb:=ao (show Gs (.ap (fa s.log) N) n S from by
   obtain⟨gc,⟨F5,x5,f0,f1,f2,f3⟩,f4,f5,f6⟩:=o5;exact⟨F5,x5,f0,f4.trans f1,f5.trans f2,f6.trans f3⟩)
  have fe:S.gT=n.gT:=by
   obtain⟨gc,⟨F5,x5,f0,f1,f2,f3⟩,f4,f5,f6⟩:=o5;exact f6.trans f3
  have ef:=U<|show mi (Eo s<|pI ((g:X)+1+y l) K) x S/\(s.ez=aX->ln=ci)from⟨by rw[ad];exact mi.JX ba.1 o5,ba.2⟩;clear bT o5 dr ao;have bo:¬S.aO s.aI b:=P.sb o.st.wR aU;have an:=fb;have hA:=cS.cellAt ac 20 rfl;have hm:w5.frozen? (R b 20)=aX:=ac.free;obtain⟨W6,eu⟩:∃W6,cq w5 (R b 20) (aN ci)=W6:=⟨_,rfl⟩;have bx:cS W6 b {s with ez:=ci,iT:=ln,jx:=ci} k:=by rw[<-eu];exact(aH ac).trans rfl
  have A:fJ a W6 s.aI b x S:=by rw[<-eu];exact P.set bo _ _
  have E:=o.st.Wl aU A (λQ=>by rw[an,dF<|λq=>iA _ _ q.symm]);have ck:=ap.fj A;have bi:=E.mem;rw[J cv]at bi;obtain⟨mb,m1,m2,m3⟩:=(o.Ae.fj A).ex;have cc:=Bx b {s with ez:=ci,iT:=ln,jx:=ci} k sn (bD eb eo (y K) fs) K bx m1 m2 o.Ae.len E.mem (λk a=>(E.sI k a).lt) ⟨fV K,.inr ⟨eb,eo,fs,rfl,cs,λds fn hj=>ap.cell A<|HE ds fn hj⟩⟩ (λk a=>by cases a;exact ck.lt) E.mj (by have:=o.ZG;omega);have cc:cY aZ 58 #[aA b,bD eb eo (y K) fs] W6 λbs w'=>∃a,bs=aM a/\w'.ownsRow (z<|G W6) 171 4 a (y<|gV sn e K) (aK<|gV sn e K)/\Z ay W6 w':=cc;have k7:aW W6 (R b 7)=H (I mx (y e) mc):=by rw[<-J cv];exact bx.cell rfl
  obtain⟨r,dx,fx,hc,bb,fz⟩:=lf an bx A E bo fe;clear P fb an bv ac al fe bk dm C bx A E ck bi bo ad ex cE cr br;go_wp2_with fail
  apply cc.mono;rintro bs w7⟨v7,rfl,aD,dn⟩;obtain⟨x7,c7,gs⟩:=aB aD;subst gs;have O:cS w7 b {s with ez:=ci,iT:=ln,jx:=ci} k:=(dn.block b (ak dx) id).trans dx;have k7:aW w7 (R b 7)=H (I mx (y e) mc):=by rw[<-J cv];exact O.cell rfl
  have k8:=cS.cellAt O 8 rfl;have k9:=cS.cellAt O 9 rfl;have f7:w7.frozen? (R b 7)=aX:=O.free;have f8:w7.frozen? (R b 8)=aX:=O.free;have f9:w7.frozen? (R b 9)=aX:=O.free;have ho:s.aS<=m:=o.bn;have hw:IntKind.i64.wrap ((s.fm:X)+(y K:X))=(s.fm:X)+(y K:X):=by rw[bN];omega
  have hy:IntKind.u64.wrap ((s.aS:X)+1)=(s.aS:X)+1:=by rw[gH];omega
  obtain⟨fu,fL,cw⟩:=dz O aD dn;clear O aD dn cc;go_wp2;go_ret;have f:=J o;have A:=J fx;have hh:=yH sn e K;obtain⟨n1,n2,n3⟩:=f.CK HG HB;have cT:fJ a (cq (cq (cq w7 (R b 7)<|I x7 (y<|gV sn e K) c7) (R b 8)<|ar<|(s.fm:X)+(y K:X)) (R b 9)<|aE<|(s.aS:X)+1) s.aI b x S:=by
   have h1:fJ a w7 s.aI b x S:=A.trans ⟨A.ok.aj cw<|λ_ _=>id,cw.mono cL,λ_ q=>.inl q,Fx.refl _⟩;exact((h1.set bb _ _).set bb _ _).set bb _ _
  have fg:=f.st.Wl aU cT (λQ=>by rw[(J r),dF<|λq=>iA _ _ q.symm]);have aD:=J fL;have hd:=cw.size;have hz:z (G a)<=z (G W6):=A.aj.size;have cn:∀q,cK (I x7 (y<|gV sn e K) c7)=H q->z (G W6)<=q/\q<z (G w7):=λq hq=>aD.lt q hq;have hp:=A.ok.lt;refine .inl ⟨rfl,I x7 (y<|gV sn e K) c7,ln,S,?_,?_,cT,(J ef).1,(J ef).2⟩
  .exact(aH<|aH<|aH fu).trans rfl
  .refine{st:=?_,qD:=?_,pr:=f.pr,lp:=?_,mem:=?_,Ua:=?_,XU:=?_,l7:=By f.st.mj f.Ae.len K,Ae:=(f.Ae.fj cT).fields ⟨rfl,rfl⟩,Xg:=λhB ht=>(by have:=f.Xg hB ht;show hB.2<=s.aS+1;omega),Di:=?_,MP:=?_,xe:=f.xe,Hj:=f.Hj,nx:=?_,bn:=?_,gT:=?_,CJ:=f.CJ,loose:=λ_=>rfl,kK:=hN}
   .refine fg.YU (C':=c+y K) ⟨rfl,rfl,rfl,rfl,rfl⟩ ?_ ?_ (Bz f.st.mj sn K) n1 (by omega) hC
    .show Row _ 4 (I x7 (y<|gV sn e K) c7) _ _;refine dJ ((((aD.kept (dN _ _ _ _) ?_).kept (dN _ _ _ _) ?_).kept (dN _ _ _ _) ?_))<;>exact .inr (λq=>by have:=(cn b q).1;omega)
    .intro q hq;have h1:=cn q hq;refine⟨?_,λbc=>?_,by omega⟩
     .simp_all
     grind
   .refine{names:=λQ N hn=>?_,state:=?_,log:=λ_=>?_,vJ:=λq=>(by cases q),oK:=λhD hv=>?_,qf:=f.qD.qf,low:=f.qD.low,lt:=f.qD.lt,iP:=f.qD.iP}
    .rw[J r]at hn;by_cases bc:fa s.log=Q
     .exact .inr<|.inl ⟨bc.symm,rfl⟩
     .rw[dF bc]at hn;rcases f.qD.names _ _ hn with q|⟨q,_⟩|q
      .exact .inl q
      .exact absurd q.symm bc
      grind
    .rw[J r,dF<|kL _];exact f.qD.state
    .rw[J r];show(if fa s.log=fa s.log then _ else _)=_;rw[dH rfl]
    .rw[J r,dF<|λq=>iA _ _ q.symm];exact f.qD.oK hD hv
   .have gi:=f.Di;refine f.lp.snoc HG (λfr hx=>?_) ⟨bL,h8⟩ ?_ ?_
    .rw[(J HB) fr hx,gi];grind
    .have:=f.MP;omega
    grind
   .show jT ((s.aS+1:M):X) (gV sn e K)=_;rw[eH,bK,iK,dM,uZ,<-n3];grind
   .intro fr hx;have:=n2 fr hx;show _/\fr.bO<=((s.aS+1:M):X);grind
   .rw[aP,fw];have:=f.XU;grind
   .show s.aS+1=g+y (l++[K]);have:=f.Di;rw[af];grind
   .show s.fm+y K=_;rw[aP,fw,f.MP];simp
   .show s.next<=_;have:=f.nx;omega
   .show s.aS+1<=m+1;omega
   .have h1:=f.gT;have h2:=J fz;have h3:=J ed;rw[h2];omega
abbrev RS:=ae->Option ae
structure YL(fs:Fs)(mem kG:X)(C N:M)(Rqq:ae->Option ae)(nx lg tb:M)(a b c d:cW)(ez:Bool)(ls:dS):Prop where
 qD:sh fs nx lg tb a b c d ez ls
 pr:PR tb (bU a b c d)
 lp:Ac ((tb:X)+1) ls
 rE:y (ia [] ls.flatten)+y (bZ a)+y (bZ b)+y (bZ c)+y (bZ d)<=C
 s1:ji b
 s2:ji c
 s3:ji d
 nx:nx<=2+1000001*N
 bn:tb+y ls<=N
 tid:(((ls.map y).sum:M):X)<mem/\PE kG a b c
 sG:∀q,seen (ia [] ls.flatten::(bU a b c d).map (jT ((tb+y ls:M):X))) q=Rqq q
def xy(fs:Fs)(j h:X)(C N:M)(i:ae->Option ae):Prop:=∃l k tbqq a b c d g lsqq,YL fs j h C N i l k tbqq a b c d g lsqq
section
variable{fs:Fs}{w:Y}{sbqq:M}{s:SR}{K:DK}{m:cR}{a b c d:cW}{C tbqq N:M}{lsqq:dS}{f:gz}{e:cR}
theorem xy.mono{l g:X}{C' N':M}{j:ae->Option ae}(h:xy fs l g C N j)(r:C<=C')(n:N<=N'):xy fs l g C' N' j:=by
 obtain⟨nx,o,tbqq,a,b,c,d,q,lsqq,h⟩:=h;exact⟨nx,o,tbqq,a,b,c,d,q,lsqq,{h with rE:=by have:=h.rE;omega,nx:=by have:=h.nx;have:1000001*N<=1000001*N':=Nat.mul_le_mul_left _ n;omega,bn:=by have:=h.bn;omega}⟩
theorem Inv.z8{g:Bool}(h:Inv w sbqq s K m a b c d C tbqq N lsqq f)(k:(s.fm:X)<s.mem/\PE s.kG a b c)(j:sh fs s.next s.log tbqq a b c d g lsqq):YL fs s.mem s.kG C N (eQ s.aS<|m::bU a b c d) s.next s.log tbqq a b c d g lsqq:=by
 refine⟨j,h.pr,h.lp,?_,h.st.s1,h.st.s2,h.st.s3,h.nx,by rw[<-h.Di];exact h.bn,by rw[<-h.MP];exact k,λq=>?_⟩;have i:y (jT s.aS m)<=y m:=aC (wG _ _).length_le<|ep _ _;rw[h.mem]at i;have:=h.st.rE;omega;rw[<-h.Di,<-h.mem];rfl
theorem Inv.Xz(i:Inv w sbqq s K m a b c d C tbqq N lsqq f)(h:(s.fm:X)<s.mem/\PE s.kG a b c)(g:PF s tbqq a b c d lsqq fs):xy fs s.mem s.kG C N (eQ s.aS<|m::bU a b c d):=by
 obtain⟨j,g⟩:=g;exact⟨_,_,_,_,_,_,_,_,_,i.z8 h g⟩
theorem Inv.oN(h:Inv w sbqq s K m a b c d C tbqq N lsqq f)(g:(s.fm:X)<s.mem/\PE s.kG a b c):xy (vw K.files) s.mem s.kG C N (eQ s.aS<|m::bU a b c d):=h.Xz g ⟨_,h.left⟩
theorem Inv.F8(h:Inv w sbqq s K m a b c d C tbqq N lsqq f)(B:PE s.kG a b c)(p:∀x∈e,x.Good)(o:∀x∈e,x.bO=(s.aS:X)+1)(l:0<y e)(A:y e<=8)(E:(s.fm:X)+(y e:X)<s.mem)(k:PF s tbqq a b c d (lsqq++[e]) fs):xy fs s.mem s.kG (C+y e) (N+1) (eQ ((s.aS:X)+1)<|gV f m e::bU a b c d):=by
 obtain⟨P,k⟩:=k;obtain⟨S,T,t⟩:=h.CK p o;have g:=h.Di;have i:=h.MP;have L:=h.CJ;have r:=h.kK;have D:=h.bn;have F:=h.nx;have n:ia [] (lsqq++[e]).flatten=ia (ia [] lsqq.flatten) e:=by rw[eH,uZ];simp
 have u:((tbqq+y (lsqq++[e]):M):X)=(s.aS:X)+1:=by rw[g];simp;omega
 have j:((lsqq++[e]).map y).sum=s.fm+y e:=by rw[i];simp
 refine⟨s.next,s.log,tbqq,a,b,c,d,P,lsqq++[e],k,h.pr,h.lp.snoc p (λx O=>by rw[o x O,g];omega) ⟨l,A⟩ (by rw[<-i];omega) (by omega),?_,h.st.s1,h.st.s2,h.st.s3,by omega,by simp;omega,⟨by rw[j];omega,B⟩,λq=>?_⟩;have v:y (jT ((s.aS:X)+1)<|gV f m e)<=y (gV f m e):=aC (wG _ _).length_le<|ep _ _;have Q:=yH f m e;rw[t]at v;rw[n];have:=h.st.rE;omega;rw[u,n,<-t];rfl
theorem YO.oN{n num:M}{u:eR}{k:X->ae->Option ae}{g i j l:cW}(h:YO s n C u k fs num g i j l)(o:PE s.kG g i j)(x:1<=s.mem)(t:s.next<=2+1000001*N)(p:n<=N+1)(v:N<=1000000000000000):xy fs s.mem s.kG C (N+1) (k n):=by
 have r:=h.num;refine⟨num+1,num,n,g,i,j,l,aX,[],h.qD,h.pr,⟨by simp,by simp,by simp,by simp,by omega,by simp;omega⟩,by have:=h.rE;simpa[ia]using this,h.s1,h.s2,h.s3,by omega,by simpa using p,⟨by simp;omega,o⟩,λq=>?_⟩;rw[<-h.sG n (.inr<|Int.le_refl _) q,<-lW];rfl
end
def Inv.mono{K:DK}{q b r s:cW}{C C' d N N':M}{m:gz}(h:Inv a c o K e q b r s C d N l m)(t:C<=C')(g:C'<=1000000)(n:N<=N')(j:N'<=100000000):Inv a c o K e q b r s C' d N' l m:={h with st:={h.st with rE:=by have:=h.st.rE;omega,kK:=g},nx:=by have:=h.nx;have:1000001*N<=1000001*N':=Nat.mul_le_mul_left _ n;omega,bn:=by have:=h.bn;omega,gT:=by have:=h.gT;omega,kK:=j}
def Inv.fj{s s':SR}{F b K L:cW}{u:gz}(h:Inv a c s i e F b K L g m D l u)(n:c<z (G a))(r:fJ a f s.aI c i x)(t:vw x.files=vw i.files)(N:y x.gT<=y i.gT)(d:s'={s with jx:=s'.jx,iT:=s'.iT,closed:=s'.closed})(k:s'.jx=ci->s.ez=ci):Inv f c s' x e F b K L g m D l u:=by
 have o:=(h.st.fj n r t).fields (s':=s') (by rw[d];grind) (by rw[d]);have p:s'.next=s.next:=by rw[d]
 have v:s'.log=s.log:=by rw[d]
 have q:s'.ez=s.ez:=by rw[d]
 have j:s'.aS=s.aS:=by rw[d]
 have w:s'.fm=s.fm:=by rw[d]
 have A:s'.xe=s.xe:=by rw[d]
 have B:s'.mem=s.mem:=by rw[d]
 have C:s'.kG=s.kG:=by rw[d]
 have E:s'.aI=s.aI/\s'.ow=s.ow:=by rw[d];grind
 exact⟨o,by rw[t,p,v,q];exact h.qD,h.pr,h.lp,by rw[j];exact h.mem,by rw[j];exact h.Ua,h.XU,h.l7,(h.Ae.fj r).fields E,by rw[j];exact h.Xg,by rw[j];exact h.Di,by rw[w];exact h.MP,by rw[A];exact h.xe,h.Hj,by rw[p];exact h.nx,by rw[j];exact h.bn,by have:=h.gT;omega,by rw[B,C];exact h.CJ,by rw[q];exact k,h.kK⟩
def Ja{l:cJ wM}(t:l<+:su o)(e:mi l i x):vw x.files=vw i.files/\y x.gT<=y i.gT:=by
 have f:∀l:cJ wM,(∀k∈l,(∃s,k=.sy s)\/k=.sd)->∀i,mi l i x->vw x.files=vw i.files/\y x.gT<=y i.gT:=by
  intro l;induction l with
  |nil=>
   rintro _ i⟨c,_,a⟩;rw[c,a];exact⟨rfl,ah _⟩
  |cons k l r=>
   rintro j i⟨m,c,d⟩;obtain⟨h,b⟩:=r (λx a=>j x<|du _ a) m d;rcases j k kT with⟨s,rfl⟩|rfl
   .obtain⟨F,a,n,_,p⟩:=c;have d:dh (vw i.files) s=H F.bytes:=by rw[sM,a];rfl
    refine⟨?_,by rw[<-p];exact b⟩;rw[h,n,xK];simp only[(je a).1];rw[yW d]
   .obtain⟨a,_,n⟩:=c;refine⟨by rw[h,a],?_⟩;rw[n]at b;simp at b;rw[b];simp
 refine f l (λk e=>?_) i e;have:=t.subset e;unfold su at this;simp only[aG]at this;rcases this with q|q;by_cases g:o.jx=ci;rw[dH g]at q;exact .inl ⟨_,dp.1 q⟩;rw[dF g]at q;cases q;by_cases g:o.iT=ci;rw[dH g]at q;exact .inr<|dp.1 q;rw[dF g]at q;cases q
def M3(w e:Y)(a:M)(s:SR)(k:X)(K:DK)(m:cR)(h i j l:cW)(C d N:M)(c:dS)(f:gz)(g:Ending):Prop:=(g=aM .nilIface/\∃b,fJ w e s.aI a K b/\cS e a {s with jx:=aX,iT:=aX} k/\Inv e a {s with jx:=aX,iT:=aX} b m h i j l C d N c f/\mi (su s) K b)\/∃v b,g=aM v/\TR w e a s k K b v/\vw b.files=vw K.files
def Inv.safe{k:X}{E b u K:cW}{s:gz}(h:Inv a c o i e E b u K g m D l s)(r:cS a c o k):cY aZ 49 #[aA c] a λL t=>M3 a t c o k i e E b u K g m D l s L:=by
 refine(AM r h.st.aI h.st.wR h.st.kA.pow (by have:=h.qD.lt;have:=h.nx;have:=h.kK;omega) (λq=>⟨_,h.qD.log<|h.loose q⟩) (by have:=h.gT;have:=h.kK;omega)).mono ?_;rintro L t⟨Q,p,N,O,rfl,n,d,A⟩;rcases n.uz with⟨rfl,j⟩|⟨P,q,u,B,j,rfl,C,x⟩;obtain⟨rfl,rfl⟩:=A rfl;obtain⟨v,w⟩:=Ja (qF _) j;exact .inl ⟨rfl,p,n.nW,d,h.fj (ak r) n.nW v w rfl<|λq=>(by cases q),j⟩;exact .inr ⟨_,p,rfl,⟨n.nW,⟨_,d,rfl,rfl⟩,q,u,rfl,C,x⟩,(Ja B j).1⟩
theorem Fm{c:Ki}(a:1<=c.key.size/\c.key.size<=8)(f:c.del=aX->c.val.size<=16)(b:0<=k)(d:k<18446744073709551616):(jS k c).Good:=by
 refine⟨a.1,a.2,?_,?_,b,d⟩
 .unfold jS;cases q:c.del with
  |true=>simp[ByteArray.size]
  |false=>grind
 intro q;have e:c.del=ci:=q;simp[jS,e]
def FJ(s:SR)(a b c:cW):Prop:=(s.fm:X)<s.mem/\PE s.kG a b c
structure FO(w w':Y)(sb:M)(s:SR)(k:X)(K:DK)(C N:M)(sn:gz)(nb:M)(R0:X->ae->Option ae)(s':SR)(K':DK)(m':cR)(a' b' c' d':cW)(tb':M)(ls':dS):Prop where
 box:cS w' sb s' k
 inv:Inv w' sb s' K' m' a' b' c' d' C tb' N ls' sn
 sG:∀t,(t∈rf sn\/t=(nb:X))->∀q,eQ t (m'::bU a' b' c' d') q=R0 t q
 fj:fJ w w' s.aI sb K K'
 same:s'.aI=s.aI/\s'.closed=s.closed/\s'.mem=s.mem/\s'.kG=s.kG/\s'.Hv=s.Hv/\s'.ow=s.ow
 Di:s'.aS=nb
 tid:FJ s' a' b' c'
def j7(w n:Y)(a:M)(s:SR)(o:X)(K:DK)(C N:M)(m:gz)(k:M)(e:X->ae->Option ae):Prop:=∃l d j f g h i c b,FO w n a s o K C N m k e l d j f g h i c b
def TX(s:SR)(K:DK)(b:Bool)(c:M)(a:dS)(d:cR)(o p q r:cW)(g:SR)(i:DK)(h:M)(f:dS)(k l m n:cW):Prop:=0<y d->(s.fm:X)+(y d:X)<s.mem->(h=c/\f=a++[d]/\k=o/\l=p/\m=q/\n=r)/\(g.ez=ci/\g.log=s.log/\g.next=s.next)/\∃j e,mi (Eo s<|pI ((c:X)+1+y a) d) K e/\(s.ez=aX->j=ci)/\(b=aX->i=e)/\(b=ci->mi ([.sy<|fa s.log]++if j then [.sd]else []) e i)
abbrev PX:=SR->DK->M->dS->cW->cW->cW->cW->Prop
def TY(w o:Y)(b:M)(s:SR)(p:X)(K:DK)(C N:M)(n:gz)(m:M)(k:X->ae->Option ae)(d:PX):Prop:=∃j e l f g h i c a,FO w o b s p K C N n m k j e l f g h i c a/\d j e c a f g h i
def fJ.cz{w d w':Y}(h:fJ d w' c g i x)(a:Z ay w d):fJ w w' c g i x:=⟨h.ok,(a.mono (T:=λk=>i.aO c k\/k=g) cL).trans h.aj<|λ_ q=>.inl q,λk q=>(h.aO k q).imp id<|λe=>aC a.size e,h.fx⟩
def TY.aj{w n w':Y}{K:DK}{l:gz}{j:X->ae->Option ae}{a:PX}(h:TY n w' c o k K g m l D j a)(t:Z ay w n):TY w w' c o k K g m l D j a:=by
 obtain⟨s',p,v,q,b',r,s,e,d,h,u⟩:=h;exact⟨s',p,v,q,b',r,s,e,d,⟨h.box,h.inv,h.sG,h.fj.cz t,h.same,h.Di,h.tid⟩,u⟩
def TR.aj{w e w':Y}{K a:DK}(h:TR e w' c o k K a d)(g:Z ay w e):TR w w' c o k K a d:=⟨h.fj.cz g,h.box,h.err⟩
def L4(w e:Y)(a:M)(s:SR)(k:X)(K:DK)(C N:M)(c d:RS)(f:Ending):Prop:=∃v b,f=aM v/\TR w e a s k K b v/\(xy (vw b.files) s.mem s.kG C N c\/xy (vw b.files) s.mem s.kG C N d)
def TW(w f:Y)(a:M)(s:SR)(k:X)(K:DK)(C N:M)(g:gz)(e:M)(b:RS)(d:X->RS)(c:PX)(v:ab):Prop:=(v=.nilIface/\TY w f a s k K C N g e d c)\/L4 w f a s k K C N b (d e) (aM v)
def TW.aj{w n w':Y}{K:DK}{l:gz}{a:RS}{h:X->RS}{e:PX}(r:TW n w' c o k K g m l D a h e d)(j:Z ay w n):TW w w' c o k K g m l D a h e d:=r.imp (λq=>⟨q.1,q.2.aj j⟩)<|λ⟨d,p,t,s,r⟩=>⟨d,p,t,s.aj j,r⟩
def Inv.BU{d:gz}(n:Inv a b o i e j W u v c g m l d)(f:k∈rf d\/k=(o.aS:X))(q:ae):eQ k (e::bU j W u v) q=eQ k (gV d e []::bU j W u v) q:=by
 unfold eQ;rw[show gV d e []=dI (rf d) e from rfl,IP n.row<|f.imp_right (λp x h=>by rw[p];exact(n.Ua x h).2)]
def tM(n:M)(a:cR):M:=if y a=0 then n else n+1
def Xu(t:gz){S:oa}(D:Bool)(h:cS a b o k)(hV:Inv a b o x e j W u v c g m l t)(hT:FJ o j W u)(hc:Do a d S)(h8:y S<=8)(hk:∀aF∈S,1<=aF.key.size/\aF.key.size<=8)(hv:∀aF∈S,aF.del=aX->aF.val.size<=16)(ca:∀aF∈S,aF.val.size<=140737488351232)(hC:c+y S<=1000000)(hN:m+1<=100000000)(bL:x.fx.room<1000000000\/fB x.files<=999999000/\(o.fm:X)+(y S:X)<o.mem):cY aZ 34 #[aA b,d,aN D] a λbk w'=>∃ce,bk=aM ce/\TW a w' b o k x (c+y S) (m+1) t (tM o.aS<|S.map<|jS<|(o.aS:X)+1) (eQ o.aS<|e::bU j W u v) (λaD=>eQ aD<|gV t e (S.map<|jS<|(o.aS:X)+1)::bU j W u v) (TX o x D g l (S.map<|jS<|(o.aS:X)+1) j W u v) ce:=by
 have bT:=ak h;have cE:=hV.bn;have T:=Wh ((o.aS:X)+1) hc (by omega)<|λaF hx=>⟨by have:=(hk aF hx).2;omega,ca aF hx⟩;obtain⟨n,al⟩:∃n,S.map (jS<|(o.aS:X)+1)=n:=⟨_,rfl⟩;rw[al]at T|-;have bn:y n=y S:=by rw[<-al];simp
 have an:∀aF∈n,aF.Good:=λaF hx=>by rw[<-al]at hx;grind[Fm]
 have bd:∀aF∈n,aF.bO=(o.aS:X)+1:=λaF hx=>by rw[<-al]at hx;obtain⟨f,p,rfl⟩:=bR.1 hx;rfl
 obtain⟨ds,dr,cm⟩:=yP hc;subst cm;rw[<-bn]at T hC h8 bL|-;have k9:=cS.cellAt h 9 rfl;have dn:IntKind.u64.wrap ((o.aS:X)+1)=(o.aS:X)+1:=by rw[gH];omega
 obtain⟨HH,HV,HG,bh,E⟩:=iO h hV an bd hT;have db:y S=y n:=bn.symm;clear h hV an bd hc hk hv ca al bn hT;go_in
 go_wp2_with fail
 apply T.mono;rintro bk K⟨v1,rfl,ba,av⟩;obtain⟨x1,c1,cr⟩:=aB ba;subst cr;have bm:fJ a K o.aI b x x:=⟨HV.st.aI.aj av<|λ_ _=>id,av.mono cL,λ_ q=>.inl q,Fx.refl _⟩;have bu:cS K b o k:=(av.block b bT id).trans HH;have br:Inv K b o x e j W u v c g m l t:=HV.fj bT bm rfl (ah _) rfl HV.loose;have hA1:∀q,cK (I x1 (y n) c1)=H q->Aside K x o.aI b q:=λq hq=>by have f:=ba.lt q hq;exact⟨f.2,λcd=>by have:=HV.st.aI.lt q cd;omega,by omega⟩
 obtain⟨bp,ac,w,s,bo,cv⟩:=lf ba av bu br hA1 bm;clear ba av bu br hA1 bm T HV HH;by_cases hz:y n=0
 .have f:n=[]:=aL hz;have co:¬(0:X)<(y n:X):=by omega
  cases D with
  |true=>
   have Q:=s.safe w;go_wp2_with fail
   apply Q.mono;rintro bk w2(⟨rfl,K2,N,L,F,r⟩|⟨v2,K2,rfl,P,p⟩)
   .have V:=U<|show TW K w2 b o k x (c+y n) (m+1) t (tM o.aS n) (eQ o.aS<|e::bU j W u v) (λaD=>eQ aD<|gV t e n::bU j W u v) (TX o x ci g l n j W u v) .nilIface from .inl ⟨rfl,_,K2,e,j,W,u,v,g,l,⟨L,F.mono (by omega) hC (by omega) hN,λaD ht q=>by rw[f]at ht|-;exact F.BU ht q,N,⟨rfl,rfl,rfl,rfl,rfl,rfl⟩,by rw[f];rfl,E⟩,λq=>by omega⟩;clear N r L F Q;go_wp2;go_ret;exact⟨_,rfl,V.aj ac⟩
   .obtain⟨q2,c2,rfl,r3,r4⟩:=P.err;have V:=U<|show TW K w2 b o k x (c+y n) (m+1) t (tM o.aS n) (eQ o.aS<|e::bU j W u v) (λaD=>eQ aD<|gV t e n::bU j W u v) (TX o x ci g l n j W u v) (eD q2)from .inr ⟨_,K2,rfl,P,.inl (by rw[p];exact(s.oN E).mono (by omega)<|by omega)⟩;clear P p r3 r4 Q;go_wp2;go_ret;exact⟨_,rfl,V.aj ac⟩
  |false=>
   have V:=U<|show TW K K b o k x (c+y n) (m+1) t (tM o.aS n) (eQ o.aS<|e::bU j W u v) (λaD=>eQ aD<|gV t e n::bU j W u v) (TX o x aX g l n j W u v) .nilIface from .inl ⟨rfl,o,x,e,j,W,u,v,g,l,⟨w,s.mono (by omega) hC (by omega) hN,λaD ht q=>by rw[f]at ht|-;exact s.BU ht q,fJ.refl s.st.aI,⟨rfl,rfl,rfl,rfl,rfl,rfl⟩,by rw[f];rfl,E⟩,λq=>by omega⟩;go_wp2;go_ret;exact⟨_,rfl,V.aj ac⟩
 .have co:(0:X)<(y n:X):=by omega
  have k8:=cS.cellAt w 8 rfl;have k3:=cS.cellAt w 3 rfl;have cc:aW K (R b 19)=H (aN aX):=by rw[<-(J s).xe];exact w.cell rfl
  have k7:∃mx mc,o.memory=I mx (y e) mc:=by
   obtain⟨aF,u,bk⟩:=bY s.st.mem;grind
  obtain⟨mx,mc,bE⟩:=k7;have k7:aW K (R b 7)=H (I mx (y e) mc):=by rw[<-bE];exact w.cell rfl
  have k9:=cS.cellAt w 9 rfl;have cT:o.fm<32:=by rw[(J s).MP];exact s.lp.sum
  have dm:IntKind.i64.wrap ((o.fm:X)+(y n:X))=(o.fm:X)+(y n:X):=by rw[bN];omega
  clear bE;by_cases cn:o.mem<=(o.fm:X)+(y n:X)
  .go_wp2_with fail
   go_quiet(fail)
   go_wp2_with fail
   obtain⟨f,hU⟩:∃f,K.drewN nq=f:=⟨_,rfl⟩;have A:Z ay K f:=by rw[<-hU];exact iY _ _ _
   have O:fJ K f o.aI b x x:=⟨s.st.aI.aj A<|λ_ _=>id,A.mono cL,λ_ q=>.inl q,Fx.refl _⟩;have C:cS f b o k:=(A.block b (ak w) id).trans w;have r:Inv f b o x e j W u v c g m l t:=s.fj (ak w) O rfl (ah _) rfl s.loose;have ad:∀q,cK (I x1 (y n) c1)=H q->Aside f x o.aI b q:=λq hq=>(bo q hq).fj O;have ap:=A.own bp<|λ_ _ q=>q;have aa:=U<|ac.cz A;rw[hU];clear hU;have dc:=r.ZG;have B:tM o.aS n=o.aS+1:=by unfold tM;rw[dF hz]
   have bx:fJ f f.drew o.aI b x x:=tY r.st.aI<|below_drewN (Below.refl _ f) 1;obtain⟨mb,m1,m2,m3⟩:=(r.Ae.fj bx).ex;have bg:=Bx b o k t (I x1 (y n) c1) n (by exact C) m1 m2 r.Ae.len (by exact r.st.mem) (λq hq=>(r.st.sI q hq).lt) (dJ<|by exact ap) (λq hq=>(ad q hq).lt) r.st.mj (by omega);have cb:cY aZ 58 #[aA b,I x1 (y n) c1] f.drew λbk w'=>∃a,bk=aM a/\w'.ownsRow (z<|G f) 171 4 a (y<|gV t e n) (aK<|gV t e n)/\Z ay f.drew w':=bg;clear bg m1 m2 m3 bx;have bf:∀w6 v6,w6.ownsRow (z<|G f) 171 4 v6 (y<|gV t e n) (aK<|gV t e n)->Z ay f.drew w6->cY aZ 62 #[aA b,v6,aE<|(o.aS:X)+1] w6 λbk w'=>∃ce,bk=aM ce/\TW w6 w' b o k x (c+y n) (m+1) t (tM o.aS n) (eQ o.aS<|e::bU j W u v) (λaD=>eQ aD<|gV t e n::bU j W u v) (TX o x D g l n j W u v) ce:=λw6 v6 ao ax=>by
    have au:Z ay f w6:=(cZ ay f).cz ax;have bv:fJ f w6 o.aI b x x:=⟨r.st.aI.aj au<|λ_ _=>id,au.mono cL,λ_ q=>.inl q,Fx.refl _⟩;have p:=r.fj (ak C) bv rfl (ah _) rfl r.loose;have cl:cS w6 b o k:=(au.block b (ak C) id).trans C;have dk:=yH t e n;obtain⟨n1,n2,n3⟩:=p.CK HG bh;have cM:=p.Di;have cp:=NP v6 (c+y n) (o.aS+1) cl p.st p.Hj p.pr (dJ ao) (λq hq=>(ao.lt q hq).2) (Bz p.st.mj t n) (By p.st.mj p.Ae.len n) n1 (by omega) (λaF hx=>(n2 aF hx).1) (λaF hx=>by have:=(n2 aF hx).2;grind) (by omega) (by have:=p.st.rE;omega) hC p.CJ.2.2.1 p.qD p.Xw.1 (by omega) (by have:=p.nx;have:=p.kK;omega) (by have:=p.gT;have:=p.kK;omega) t p.Ae (by omega);apply cp.mono;rintro bk w'(⟨rfl,v0,v1,v2,v3,K',num,a',b',c',d',hO,bl⟩|⟨ce,K',rfl,hs,hI⟩)
    .exact⟨_,rfl,.inl ⟨rfl,_,K',[],a',b',c',d',o.aS+1,[],⟨hO.box,hO.inv p.CJ p.nx (by omega) hN p.Ae p.Xg (by omega),λaD ht q=>by rw[lW];exact hO.sG aD (ht.imp_right (λbk=>by rw[bk,B];grind)) q,hO.fj,⟨rfl,rfl,rfl,rfl,rfl,rfl⟩,B.symm,by have:=p.CJ.1;show((0:M):X)<o.mem;omega,bl⟩,λ_ q=>by omega⟩⟩
    .refine⟨_,rfl,.inr ⟨_,K',rfl,hs,?_⟩⟩;rcases hI with cd|⟨num,a',b',c',d',cd,bl⟩
     .exact .inl<|(p.Xz E cd).mono (by omega)<|by omega
     .right;rw[B];exact cd.oN bl p.CJ.1 p.nx (by omega)<|by omega
   have cu:=cS.cellAt C 9 rfl;obtain⟨ch,bq,aU,cw⟩:=fY cb bf r C;clear cb bf r C ad ap O A k7 k8 k9 k3 cc;rename_i KK bt;have aV:aW f.drew (R b 9)=H (aE o.aS):=cu;refine jj (λ(bi:Y)=>aW bi (R b 9)=H (aE o.aS)) 9 (by kernel_rfl) ?_;refine kF 0 ?_;iterate 3 (refine uS (v:=?_) aV rfl (by kernel_rfl) lk rfl ?_ ?_;rotate_left;(focus(rintro bi z9;go_simp;try rfl));simp only[Act.put,dW,Nat.reduceAdd])
   apply oC;refine kF 4 ?_;iterate 5 (refine uS (v:=?_) aV rfl (by kernel_rfl) lk rfl ?_ ?_;rotate_left;(focus(rintro bi z9;go_simp;try rfl));simp only[Act.put,dW,Nat.reduceAdd])
   apply oC;refine fy (i:=3) rfl rfl (by kernel_rfl) ?_;intro K6 bs;go_simp;apply ch.mono;rintro bk w6⟨v6,rfl,ao,ax⟩;obtain⟨x6,c6,cs⟩:=aB ao;subst cs;have ck:aW w6 (R b 9)=H (aE o.aS):=ax.cell aV id<|rl aV;refine bs _ _ (λ_=>ck) ?_;clear bs;try simp only[Act.put,dW]
   refine fy (i:=9) rfl rfl (by kernel_rfl) ?_;intro cx bb;go_simp;apply(bq w6 _ ao ax).mono;rintro bk w7⟨v7,rfl,cj⟩;have cf:=U cj;refine bb _ _ (λq=>by omega) ?_;clear bb;try simp only[Act.put,dW]
   refine fy (i:=10) rfl rfl (by kernel_rfl) ?_;intro cB bc;go_simp;refine bc _ _ (λq=>by omega) ?_;refine ju (by kernel_rfl) ?_ _;show KK _ _;apply bt;clear bt bc;go_wp2;go_ret;exact⟨_,rfl,cf.aj<|(aa.cz<|cZ ay f).cz ax⟩
  .go_wp2_with fail
   go_quiet(fail)
   go_wp2_with fail
   obtain⟨f,hU⟩:∃f,K.drewN nq=f:=⟨_,rfl⟩;have A:Z ay K f:=by rw[<-hU];exact iY _ _ _
   have O:fJ K f o.aI b x x:=⟨s.st.aI.aj A<|λ_ _=>id,A.mono cL,λ_ q=>.inl q,Fx.refl _⟩;have C:cS f b o k:=(A.block b (ak w) id).trans w;have r:Inv f b o x e j W u v c g m l t:=s.fj (ak w) O rfl (ah _) rfl s.loose;have ad:∀q,cK (I x1 (y n) c1)=H q->Aside f x o.aI b q:=λq hq=>(bo q hq).fj O;have ap:=A.own bp<|λ_ _ q=>q;have aa:=U<|ac.cz A;rw[hU];clear hU;have ao:=Lg t C r (dJ ap) ad (by omega) h8 HG bh (by have:=r.CJ;omega) hC hN<|bL.imp id<|λq=>q.1;have aU:=U r;have B:tM o.aS n=o.aS+1:=by unfold tM;rw[dF hz]
   clear r C ad ap O A k7 k8 k9 k3 cc;apply ao.mono;rintro bk w2(⟨rfl,bx,bq,K2,L,F,N,au,p⟩|⟨v2,K2,rfl,P,bb⟩)
   .cases D with
    |true=>
     have Q:=F.safe L;obtain⟨aV,bv,bt,bs⟩:=fY N au p F;clear ao L F N au p;go_wp2_with fail
     apply Q.mono;rintro bk w3(⟨rfl,K3,bf,bc,bi,bl⟩|⟨v3,K3,rfl,ax,bg⟩)
     .have V:=U<|show TW f w3 b o k x (c+y n) (m+1) t (tM o.aS n) (eQ o.aS<|e::bU j W u v) (λaD=>eQ aD<|gV t e n::bU j W u v) (TX o x ci g l n j W u v) .nilIface from .inl ⟨rfl,_,K3,_,j,W,u,v,g,_,⟨bc,bi,λ_ _ _=>rfl,aV.trans bf,⟨rfl,rfl,rfl,rfl,rfl,rfl⟩,by rw[B];rfl,by show((o.fm+y n:M):X)<o.mem;omega,E.2⟩,λ_ _=>⟨⟨rfl,rfl,rfl,rfl,rfl,rfl⟩,⟨rfl,rfl,rfl⟩,bq,K2,bv,bt,λq=>(by cases q),λ_=>bl⟩⟩;clear bf bl bc bi Q;go_wp2;go_ret;exact⟨_,rfl,V.aj aa⟩
     .obtain⟨q3,c3,rfl,r3,r4⟩:=ax.err;have V:=U (show TW f w3 b o k x (c+y n) (m+1) t (tM o.aS n) (eQ o.aS<|e::bU j W u v) (λaD=>eQ aD<|gV t e n::bU j W u v) (TX o x ci g l n j W u v) (eD q3)from .inr ⟨_,K3,rfl,⟨aV.trans ax.fj,ax.box,q3,c3,rfl,r3,aV.fx.Xh aU.st.aI.wS r4⟩,.inr (by
       rw[bg,B];exact bs.oN ⟨by show((o.fm+y n:M):X)<o.mem;omega,E.2⟩)⟩)
      clear ax bg r3 r4 Q;go_wp2;go_ret;exact⟨_,rfl,V.aj aa⟩
    |false=>
     have V:=U<|show TW f w2 b o k x (c+y n) (m+1) t (tM o.aS n) (eQ o.aS<|e::bU j W u v) (λaD=>eQ aD<|gV t e n::bU j W u v) (TX o x aX g l n j W u v) .nilIface from .inl ⟨rfl,_,K2,_,j,W,u,v,g,_,⟨L,F,λ_ _ _=>rfl,N,⟨rfl,rfl,rfl,rfl,rfl,rfl⟩,by rw[B];rfl,by show((o.fm+y n:M):X)<o.mem;omega,E.2⟩,λ_ _=>⟨⟨rfl,rfl,rfl,rfl,rfl,rfl⟩,⟨rfl,rfl,rfl⟩,bq,K2,au,p,λ_=>rfl,λq=>(by cases q)⟩⟩;clear ao L F N au p;go_wp2;go_ret;exact⟨_,rfl,V.aj aa⟩
   .obtain⟨q2,c2,rfl,r3,r4⟩:=P.err;have V:=U (show TW f w2 b o k x (c+y n) (m+1) t (tM o.aS n) (eQ o.aS<|e::bU j W u v) (λaD=>eQ aD<|gV t e n::bU j W u v) (TX o x D g l n j W u v) (eD q2)from .inr ⟨_,K2,rfl,P,(by
     rcases bb with cd|cd
     .exact .inl<|(aU.Xz E cd).mono (by omega)<|by omega
     .right;rw[B];exact aU.F8 E.2 HG bh (by omega) h8 (by omega) cd)⟩)
    clear P bb r3 r4 ao;go_wp2;go_ret;exact⟨_,rfl,V.aj aa⟩
section
open Conc.Locks
theorem JQ{a:oa}(h:mJ a=0):(∀x∈a,1<=x.key.size/\x.key.size<=8)/\∀x∈a,x.del=aX->x.val.size<=16:=by
 induction a with
 |nil=>simp
 |cons c r b=>
  unfold mJ at h;grind
def uG{a:oa}(h:ga a=0):y a<=8/\(∀x∈a,1<=x.key.size/\x.key.size<=8)/\∀x∈a,x.del=aX->x.val.size<=16:=by
 unfold ga at h;grind[JQ]
def If(h:cS a b o k):cY aZ 33 #[aA b,.nilIface] a λf e=>f=aM .nilIface/\Below (z<|G<|cq a (R b 6) .nilIface) (cq a (R b 6) .nilIface) e:=by
 have g:=cS.cellAt h 6 rfl;have i:a.frozen? (R b 6)=aX:=h.free;have d:=Hx<|cq a (R b 6) .nilIface;clear h;go_in
 go_wp2_with fail
 apply d.mono;rintro f e⟨rfl,c⟩;have HB:=U c;clear c d;go_wp2;go_ret;exact⟨rfl,HB⟩
def kX(a:oa):M:=if ga a=0 then y a else 0
def vK(n:M)(a:oa):M:=if ga a=0 then tM n (a.map<|jS<|(n:X)+1)else n
def xN(c:gz)(m:cR)(a:dS)(n:X)(b:oa)(t:X):ae->Option ae:=if ga b=0 then eQ t (gV c m (b.map<|jS n)::a)else eQ t (m::a)
def FO.fin{w n d:Y}{sbqq:M}{s:SR}{K:DK}{C:gz}{B:X->ae->Option ae}{K':DK}(h:FO w n sbqq s 1 K b g C m B o K' e j W u v D l)(p:Below (z<|G<|cq n (R sbqq 6) .nilIface) (cq n (R sbqq 6) .nilIface) d):aW d (R sbqq 0)=H (jN 1)/\d.frozen? (R sbqq 0)=aX/\FO w (cq d (R sbqq 0)<|jN 0) sbqq s 0 K b g C m B o K' e j W u v D l:=by
 have i:¬K'.aO s.aI sbqq:=by have:=h.inv.st.wR;rw[h.same.1]at this;exact this
 have A:=ak h.box;have r:cS (cq n (R sbqq 6) .nilIface) sbqq o 1:=(aH h.box).trans rfl;have a:cS d sbqq o 1:=r.aj (Z.aR (S:=ay) p) id;have f:=h.fj.set i 6 .nilIface;have t:=(f.trans<|tY (sbqq:=sbqq) f.ok p).set i 0<|jN 0;have k:=(fJ.refl h.inv.st.aI (sbqq:=sbqq)).set h.inv.st.wR 6 .nilIface;have x:fJ n (cq d (R sbqq 0)<|jN 0) o.aI sbqq K' K':=(k.trans<|tY (sbqq:=sbqq) k.ok p).set h.inv.st.wR 0<|jN 0;exact⟨a.cell rfl,a.free,a.lB 0,h.inv.fj A x rfl (ah _) rfl h.inv.loose,h.sG,t,h.same,h.Di,h.tid⟩
structure j6(w w':Y)(sb:M)(s:SR)(K K':DK)(v:ab):Prop where
 fj:fJ w w' s.aI sb K K'
 ex:∃s' q0 q1 c,v=eD q1/\lP w' q1 c/\lQ w' sb s' 0 q0/\lP w' q0 c/\s'.closed=aX/\s'.aI=s.aI/\QF K.fx c
def TR.fin{w w3 w4:Y}{sbqq q q1:M}{s:SR}{K K':DK}{c:X}(l:¬K.aO s.aI sbqq)(u:sbqq<z (G w))(j:s.closed=aX)(x:fJ w w3 s.aI sbqq K K')(v:∃h,cS w3 sbqq h 1/\h.closed=s.closed/\h.aI=s.aI)(o:lP w3 q c)(t:QF K.fx c)(n:Below (z<|G<|cq w3 (R sbqq 6)<|eD q) (cq w3 (R sbqq 6)<|eD q) w4)(m:lP w4 q1 c):aW w4 (R sbqq 0)=H (jN 1)/\w4.frozen? (R sbqq 0)=aX/\j6 w (cq w4 (R sbqq 0)<|jN 0) sbqq s K K' (eD q1):=by
 obtain⟨h,b,p,r⟩:=v;have f:¬K'.aO s.aI sbqq:=λg=>(x.aO sbqq g).elim l (λg=>by omega);have i:=b.fail q;have g:Z ay (cq w3 (R sbqq 6)<|eD q) w4:=Z.aR n;have a:=i.aj g id;have d:=x.set f 6<|eD q;have k:=(d.trans<|tY (sbqq:=sbqq) d.ok n).set f 0<|jN 0;have e:lP w4 q c:=(o.aj (gZ sbqq w3)<|o.qg (sbqq:=sbqq) b).aj g id;exact⟨a.cellAt 0 rfl,a.free,k,h,q,q1,c,rfl,m.aj (gZ sbqq w4)<|m.qg (sbqq:=sbqq) a,a.lB 0,e.aj (gZ sbqq w4)<|e.qg (sbqq:=sbqq) a,p.trans j,r,t⟩
def J9(w e:Y)(a:M)(s:SR)(K:DK)(C N:M)(c d:RS)(f:Ending):Prop:=∃v b,f=aM v/\j6 w e a s K b v/\(xy (vw b.files) s.mem s.kG C N c\/xy (vw b.files) s.mem s.kG C N d)
def DF(sn:gz){k:oa}(p:Bool)(h:cS a b o 0)(hV:Inv a b o i e j W u v c g m l sn)(hT:FJ o j W u)(av:o.closed=aX)(hc:∀bq,Z (λbp=>bp=b) a bq->Do bq d k)(hz:∀br∈k,br.key.size<=140737488351232/\br.val.size<=140737488351232)(hr:y k<=1000000000)(hC:c+kX k<=1000000)(hN:m+1<=100000000)(hE:∀bq,Z (λbp=>i.aO o.aI bp\/bp=b) a bq->kB bq)(bn:i.fx.room<1000000000\/fB i.files<=999999000/\(o.fm:X)+(y k:X)<o.mem):cY aZ 12 #[aA b,d,aN p] a λK F=>(K=aM (ui<|ga k)/\TY a F b o 0 i (c+kX k) (m+1) sn (vK o.aS k) (xN sn e (bU j W u v) ((o.aS:X)+1) k) (λs' r t s a' b' c' d'=>ga k=0->TX o i p g l (k.map<|jS<|(o.aS:X)+1) j W u v s' r t s a' b' c' d'))\/(ga k=0/\J9 a F b o i (c+kX k) (m+1) (eQ o.aS<|e::bU j W u v) (xN sn e (bU j W u v) ((o.aS:X)+1) k<|vK o.aS k) K):=by
 have ax:=ak h;have c0:=cS.cellAt h 0 rfl;have f0:a.frozen? (R b 0)=aX:=h.free;have E:=yR hV.st.aI hV.st.wR 1;have h1:=h.lB 1;have D:=hV.fj ax E rfl (ah _) rfl hV.loose;have aD:Z (λbp=>bp=b) a (cq a (R b 0)<|jN 1):=(gZ b a);have S:Do (cq a (R b 0)<|jN 1) d k:=hc _ aD;generalize hW:cq a (R b 0) (jN 1)=W1 at E h1 D aD S;have ad:=uA h1;rw[av]at ad;have ao:cY aZ 31 #[aA b] W1 λK F=>K=aM .nilIface/\Below (z<|G W1) W1 F:=ad;have w:∀Wr,Z ay W1 Wr->cY aZ 32 #[d] Wr λK F=>K=aM (ui<|ga k)/\Z ay Wr F:=λWr a=>Vo (S.aj a<|λ_ _=>id) (by omega) hz;have V:ga k=0->∀C,Z ay W1 C->cY aZ 34 #[aA b,d,aN p] C λK F=>∃aU,K=aM aU/\TW a F b o 1 i (c+kX k) (m+1) sn (vK o.aS k) (eQ o.aS<|e::bU j W u v) (xN sn e (bU j W u v) ((o.aS:X)+1) k) (λs' r t s a' b' c' d'=>ga k=0->TX o i p g l (k.map<|jS<|(o.aS:X)+1) j W u v s' r t s a' b' c' d') aU:=λx C n=>by obtain⟨q1,q2,q3⟩:=uG x;have T:fJ W1 C o.aI b i i:=⟨D.st.aI.aj n<|λ_ _=>id,n.mono cL,λ_ q=>.inl q,Fx.refl _⟩;have N:=D.fj (ak h1) T rfl (ah _) rfl D.loose;have O:cS C b o 1:=(n.block b (ak h1) id).trans h1;(have A:kX k=y k:=by unfold kX;rw[dH x]);(have aa:xN sn e (bU j W u v) ((o.aS:X)+1) k=λbs=>eQ bs (gV sn e (k.map<|jS<|(o.aS:X)+1)::bU j W u v):=by funext bs;unfold xN;rw[dH x]);(have P:vK o.aS k=tM o.aS (k.map<|jS<|(o.aS:X)+1):=by unfold vK;rw[dH x]);rw[A,aa,P];refine(Xu sn p O N hT (S.aj n<|λ_ _=>id) q1 q2 q3 (λbr hx=>(hz br hx).2) (by rw[<-A];exact hC) hN bn).mono ?_;rintro K F⟨aU,rfl,hz⟩;refine⟨aU,rfl,?_⟩;rcases hz with⟨rfl,s',r,m',a',b',c',d',t,s,L,hx⟩|⟨v',r,K,hs,hr⟩;exact .inl ⟨rfl,s',r,m',a',b',c',d',t,s,⟨L.box,L.inv,L.sG,(E.trans T).trans L.fj,L.same,L.Di,L.tid⟩,λ_=>hx⟩;obtain⟨q,cc,e2,hq,hf⟩:=hs.err;exact .inr ⟨v',r,K,⟨(E.trans T).trans hs.fj,hs.box,q,cc,e2,hq,hf⟩,hr⟩
 have ac:ga k≠0->∀C,Z ay W1 C->aW C (R b 0)=H (jN 1)/\C.frozen? (R b 0)=aX/\TY a (cq C (R b 0)<|jN 0) b o 0 i (c+kX k) (m+1) sn (vK o.aS k) (xN sn e (bU j W u v) ((o.aS:X)+1) k) (λs' r t s a' b' c' d'=>ga k=0->TX o i p g l (k.map<|jS<|(o.aS:X)+1) j W u v s' r t s a' b' c' d'):=λx C n=>by have T:fJ W1 C o.aI b i i:=⟨D.st.aI.aj n<|λ_ _=>id,n.mono cL,λ_ q=>.inl q,Fx.refl _⟩;have O:cS C b o 1:=(n.block b (ak h1) id).trans h1;have A:=(E.trans T).set hV.st.wR 0<|jN 0;refine⟨O.cell rfl,O.free,o,i,e,j,W,u,v,g,l,⟨O.lB 0,(hV.fj ax A rfl (ah _) rfl hV.loose).mono (by omega) hC (by omega) hN,λbs _ q=>by unfold xN;rw[dF x],A,⟨rfl,rfl,rfl,rfl,rfl,rfl⟩,by unfold vK;rw[dF x],hT⟩,λq=>absurd q x⟩
 obtain⟨cx,cc,bm⟩:=yP S;subst bm;have aV:=λw3 w4 r q q1 u(c:fJ a w3 o.aI b i r)hx hq hf d h1=>TR.fin (w:=a) (w3:=w3) (w4:=w4) (sbqq:=b) (q:=q) (q1:=q1) (s:=o) (K:=i) (K':=r) (c:=u) hV.st.wR ax av c hx hq hf d h1;obtain⟨ap,au,HW,al,bh,HE⟩:=lf V ac hW w aV hE;have bk:=U hV.st.wR;clear h hV hT E h1 D av hW V ac hc S aD hz ad w aV hE;by_cases x:ga k=0;(.have V:=ap x;have H0:=U x;(have an:ui (ga k)=.nilIface:=by rw[x];rfl);rw[an]at al|-;clear ap au x;(go_enter_defers func12,ntmps12);(go_wp2_with fail);apply(lock_free (R b 0) _ c0 f0).mono;rintro K F⟨rfl,aF⟩;rw[J HW]at aF;subst F;(go_wp2_with fail);apply ao.mono;rintro K Wr⟨rfl,Q⟩;have B:Z ay W1 Wr:=Z.aR Q;have w:=al Wr B;clear Q ao;(go_wp2_with fail);apply w.mono;rintro K w2⟨rfl,n⟩;have hd:=V w2<|B.cz n;clear V w n B;(go_wp2_with fail);apply hd.mono;rintro K w3⟨v3,rfl,bo⟩;rcases bo with⟨rfl,s',r,m',a',b',c',d',t,s,L,hx⟩|⟨v',r,e3,A,bb⟩;(.have aa:=If L.box;have HO:=U L;have ba:=U hx;clear L hd hx;(go_wp2_with fail);apply aa.mono;rintro K w4⟨rfl,P⟩;obtain⟨d0,g0,N⟩:=HO.fin P;have aU:=U N;clear N P aa;go_wp2;refine gN (f:=30) (args:=#[aA b]) (by simp) (by simp[go_sem]) ?_;apply(unlock_deferred (R b 0) .returning _ d0 g0).mono;rintro K u' bd⟨rfl,rfl,rfl⟩;exact⟨_,iw rfl _ _ _,.inl ⟨rfl,s',r,m',a',b',c',d',t,s,aU,ba⟩⟩);obtain⟨q,cc,rfl,hq,hf⟩:=A.err;cases e3;obtain⟨s',aU,e1,e2⟩:=A.box;have bc:¬r.aO o.aI b:=λg=>(A.fj.aO b g).elim bk (λg=>by omega);have aa:=Ig aU hq<|HE _ (A.fj.set bc 6<|eD q).aj;obtain⟨bf,HQ,bg,bl,bi⟩:=iO A.fj hq hf A.box bb;clear A hq hf bb aU e1 e2 bc hd;(go_wp2_with fail);apply aa.mono;rintro K w4⟨q1,rfl,ba,P⟩;obtain⟨d0,g0,N⟩:=bh w3 w4 r q q1 cc bf bl HQ bg P ba;have HP:=U<|And.intro N bi;clear N P ba aa;go_wp2;refine gN (f:=30) (args:=#[aA b]) (by simp) (by simp[go_sem]) ?_;apply(unlock_deferred (R b 0) .returning _ d0 g0).mono;rintro K u' bd⟨rfl,rfl,rfl⟩;refine⟨_,iw rfl _ _ _,?_⟩;exact .inr ⟨H0,eD q1,r,rfl,HP.1,HP.2⟩);have ac:=au x;obtain⟨P,N⟩:∃P,ga k=P:=⟨_,rfl⟩;(have an:ui (ga k)=.iface 50 (ar P):=by unfold ui;rw[dF x,N]);rw[an]at al|-;clear ap au x N an;(go_enter_defers func12,ntmps12);(go_wp2_with fail);apply(lock_free (R b 0) _ c0 f0).mono;rintro K F⟨rfl,aF⟩;rw[J HW]at aF;subst F;(go_wp2_with fail);apply ao.mono;rintro K Wr⟨rfl,Q⟩;have B:Z ay W1 Wr:=Z.aR Q;have w:=al Wr B;clear Q ao;(go_wp2_with fail);apply w.mono;rintro K w2⟨rfl,n⟩;obtain⟨d0,g0,A⟩:=ac w2<|B.cz n;have HP:=U A;clear ac w n B A;go_wp2;refine gN (f:=30) (args:=#[aA b]) (by simp) (by simp[go_sem]) ?_;apply(unlock_deferred (R b 0) .returning _ d0 g0).mono;rintro K u' bd⟨rfl,rfl,rfl⟩;exact⟨_,iw rfl _ _ _,.inl ⟨rfl,HP⟩⟩
end
def bz.pZ(t:bz):bz:={t with tb:=0}
def js(b a:cW):Prop:=a.map bz.pZ=b.map bz.pZ
def js.lens(h:js j W):y W=y j:=by
 have:=bS y h;grind
theorem js.nil(h:js [] j):j=[]:=List.length_eq_zero_iff.1 h.lens
def js.append(h:js j W)(k:js u v):js (j++u) (W++v):=by
 unfold js at*;rw[aP,aP,h,k]
def js.map{α:Type}(h:js j W)(f:bz->α)(a:∀t,f t.pZ=f t):W.map f=j.map f:=by
 have e:∀l:cW,l.map f=(l.map bz.pZ).map f:=λl=>by rw[gG];simp_all
 rw[e W,e j];exact bS _ h
def js.mem(h:js j W)(a:O∈W):∃u∈j,u.pZ=O.pZ:=by
 have:O.pZ∈W.map bz.pZ:=oA a;rw[h]at this;grind
def js.symm(h:js j W):js W j:=Eq.symm h
theorem rI{u:bz}(h:u.pZ=O.pZ):u.num=O.num:=(bS bz.num h:u.pZ.num=O.pZ.num)
def yK{u:bz}(h:u.pZ=O.pZ):u.cs=O.cs:=(bS bz.cs h:u.pZ.cs=O.pZ.cs)
def PQ{u:bz}(h:u.pZ=O.pZ):u.ks=O.ks:=(bS bz.ks h:u.pZ.ks=O.pZ.ks)
def js.all(h:js j W):W.map bz.all=j.map bz.all:=h.map _<|λ_=>rfl
def js.bZ(h:js j W):bZ W=bZ j:=by unfold Go.Proofs.YthaiaannkhpppaaGreatDoor.bZ;rw[h.all]
def js.bU{j a b c k d l e:cW}(f:js j a)(g:js b c)(h:js k d)(i:js l e):bU a c d e=bU j b k l:=by
 unfold Go.Proofs.YthaiaannkhpppaaGreatDoor.bU;rw[f.all,g.bZ,h.bZ,i.bZ]
theorem js.rP(h:js j W):rP W=rP j:=by
 unfold Go.Proofs.YthaiaannkhpppaaGreatDoor.rP;have:W.map vg=j.map vg:=h.map _<|λ_=>rfl;rw[h.lens,List.flatMap_def,List.flatMap_def,this]
def js.side(h:js j W)(a:ji j):ji W:=by
 refine⟨λt b=>?_,?_,?_⟩;obtain⟨u,c,e⟩:=h.mem b;rw[<-PQ e,<-yK e];exact a.pure u c;rw[h.bZ];exact a.mj;rw[h.all];exact a.Du
def js.Us(k:js j W)(g:∀t∈j,Bl t):∀t∈W,Bl t:=λt h=>by
 obtain⟨u,i,f⟩:=k.mem h;obtain⟨a,b,c,d,e⟩:=g u i;rw[PQ f,yK f]at a b;rw[yK f]at c d;rw[rI f]at e;exact⟨a,b,c,d,e⟩
def FU.Vq{f i k m:cW}(h:FU F b c g j W u v P l)(r:js j f)(s:js W i)(t:js u k)(w:js v m):FU F b c g f i k m P l:=by
 have a:js (j++W++u++v) (f++i++k++m):=((r.append s).append t).append w;refine⟨λK p x=>?_,?_,h.log,h.vJ,λA d=>?_,?_,λA d=>?_,h.lt,a.Us h.iP⟩;rcases h.names K p x with q|q|⟨A,d,q⟩;exact .inl q;(grind);obtain⟨o,e,n⟩:=a.symm.mem d;grind[rI]
 rcases h.state with q|⟨q,B,C,D,E,L⟩;(refine .inl<|q.trans ?_;unfold fT;grind[js.rP]);grind[js.nil]
 obtain⟨o,e,n⟩:=a.mem d;rw[<-rI n,<-yK n];exact h.oK o e;rw[a.map bz.num<|λ_=>rfl];exact h.qf;obtain⟨o,e,n⟩:=a.mem d;rw[<-rI n];exact h.low o e
structure Zc(fs:Fs)(w:Y)(db:M)(K:DK)(a b c d:cW)(C tb N nx lg:M)(ez:Bool)(ls:dS):Prop where
 aI:cG w db K
 qD:FU fs nx lg tb a b c d ez ls
 pr:PR tb (bU a b c d)
 lp:Ac ((tb:X)+1) ls
 rE:y (ia [] ls.flatten)+y (bZ a)+y (bZ b)+y (bZ c)+y (bZ d)<=C
 kK:C<=1000000
 s1:ji b
 s2:ji c
 s3:ji d
 N6:ez=ci->ls≠[]
 nx:nx<=2+1000001*N
 bn:tb+y ls<=N
 gT:y K.gT<=1000001+2*N
 zF:N<=100000000
 steps:Steps w
 pow:Pow w
 fS:¬K.aO db 1
 ml:¬K.aO db 2
def rG{ts:cW}(h:∀t∈ts,Bl t):y ts<=y (bZ ts):=jz<|λt a=>(h t a).pure
def Zc.count{g b h j:cW}{C e N nx m:M}(k:Zc F a c i g b h j C e N nx m P l):y (g++b++h++j)<=1000000:=by
 have f:=k.qD.iP;have n:=rG (ts:=g) (λt d=>f t<|by simp[d]);have o:=rG (ts:=b) (λt d=>f t<|by simp[d]);have p:=rG (ts:=h) (λt d=>f t<|by simp[d]);have q:=rG (ts:=j) (λt d=>f t<|by simp[d]);have:=k.rE;have:=k.kK;grind
def Dj(w:Y)(d c:M)(e:gW)(t:bz):Prop:=∃b a,lH w t.tb (aA d) t.num (y<|dK t.cs) (y<|fI<|bW 0 t.cs) (mV<|fI<|bW 0 t.cs) b 0 a az t.ks/\c<t.tb/\t.tb<z (G w)/\c<b/\b<z (G w)/\∀(j:M)(v:ab),e[j]?=H v->cK v≠H t.tb/\cK v≠H b
structure Dl(w0 wr:Y)(db:M)(K K1:DK)(gb lb:M)(mv vs:gW)(Ts:cJ cW):Prop where
 Sl:wr.heap[gb]?=H (aw mv.toArray 125 (0,0))
 box:wr.heap[lb]?=H (aw vs.toArray 92 (0,0))
 zC:y vs=4
 FW:y Ts=4
 rows:∀(j:M)(v:ab)(T:cW),vs[j]?=H v->Ts[j]?=H T->wr.ownsRow (lb+1) 186 1 v (y T) (T.map bz.ptr)
 ne:∀(j j':M)(v v':ab)(q:M),j≠j'->vs[j]?=H v->vs[j']?=H v'->cK v=H q->cK v'≠H q
 aI:cG wr db K1
 same:K1.files=K.files/\(vq K K1/\Fx K.fx K1.fx)/\∀k,K1.aO db k->K.aO db k
 oK:∀t∈Ts.flatten,Dj wr db lb vs t
 Hj:(Ts.flatten.map bz.tb).Nodup
 aj:Z (K.aO db) w0 wr
 low:∀k,K.aO db k->k<z (G w0)
 ord:z (G w0)<=gb/\gb<lb/\lb<z (G wr)
def Ba{t:bz}:∀{a:cJ cW}{i:M},a[i]?=H j->List.Perm (a.set i<|j++[t]).flatten (t::a.flatten)
 |[],i,h=>by simp at h
 |Uqq::a,0,h=>by
  simp_all
 |Uqq::a,i+1,h=>by
  rw[vz]at h;rw[dX,bK,bK];exact((qA Uqq<|Ba h).trans vu)
def Dl.row{n wr:Y}{h:DK}{f:gW}{a:cJ cW}(k:Dl n wr b i h c g B f a){j:M}(m:f[j]?=H d):∃T,a[j]?=H T/\wr.ownsRow (g+1) 186 1 d (y T) (T.map bz.ptr):=by
 have l:j<4:=by rw[<-k.zC];grind
 have e:a[j]?=H (a[j]'(by rw[k.FW];exact l)):=aQ _;exact⟨_,e,k.rows j d _ m e⟩
def Dl.own{n wr:Y}{e:DK}{a:gW}{h:cJ cW}(o:Dl n wr c x e g m B a h)(l:a[D]?=H d){q:M}(j:cK d=H q):m<q/\q<z (G wr):=by
 obtain⟨p,_,k⟩:=o.row l;have:=bM k q j;omega
def Dl.cell{h wr:Y}{d:DK}{a:gW}{e:cJ cW}(k:Dl h wr c x d g m B a e)(j:M):aW wr (R m j)=a[j]?:=by
 rw[cg k.box];simp
def Dl.A5{e wr:Y}{d:gW}{a:cJ cW}(h:Dl e wr b i x c g B d a)(j:M):aW wr (R c j)=B[j]?:=by
 rw[cg h.Sl];simp
def Dj.aj{S:eV}{w w':Y}(l:Dj w c g B O)(d:Z S w w')(j:∀q,S q->q<=g):Dj w' c g B O:=by
 obtain⟨k,a,p,m,e,n,h,o⟩:=l;refine⟨k,a,p.dw (d.block _ e (λl=>by have:=j _ l;omega))<|d.block _ h (λl=>by have:=j _ l;omega),m,ag e d.size,n,ag h d.size,o⟩
def Dl.move{t wr n:Y}{f:DK}{s:gW}{o:cJ cW}(h:Dl t wr b i x c g B s o)(j:Z p wr n)(r:∀k,p k->i.aO b k\/c<k/\k<g)(u:cG n b f)(m:f.files=x.files/\(vq x f/\Fx x.fx f.fx)/\∀k,f.aO b k->x.aO b k):Dl t n b i f c g B s o:=by
 have l:=h.low;have a:=h.ord;have d:∀k,p k->k<c\/c<k/\k<g:=λk a=>(r k a).imp (λe=>by have:=l k e;omega) id;refine⟨?_,?_,h.zC,h.FW,?_,h.ne,u,⟨m.1.trans h.same.1,⟨h.same.2.1.1.trans m.2.1.1,h.same.2.1.2.trans m.2.1.2⟩,λk e=>h.same.2.2 k<|m.2.2 k e⟩,?_,h.Hj,?_,l,?_⟩;exact(j.block c (ak h.Sl) (λe=>by have:=d _ e;omega)).trans h.Sl;exact(j.block g (ak h.box) (λe=>by have:=d _ e;omega)).trans h.box;exactλk v T a c=>j.own (h.rows k v T a c) (λq g e=>by have:=h.own a g;have:=d _ e;omega);exactλc a=>(h.oK c a).aj j (λk e=>by have:=d _ e;omega);exact h.aj.trans j (λk e=>(r k e).imp id<|λe=>by omega);exact⟨a.1,a.2.1,ag a.2.2 j.size⟩
def Dl.still{f wr h:Y}{e:gW}{a:cJ cW}(j:Dl f wr b i x c g B e a)(d:Z ay wr h):Dl f h b i x c g B e a:=j.move d cL (j.aI.aj d<|λ_ _=>id) ⟨rfl,⟨⟨rfl,rfl,rfl⟩,Fx.refl _⟩,λ_ k=>k⟩
def Dl.put{w0 wr r:Y}{C:gW}{S:cJ cW}{T:cW}(l:Dl w0 wr c i x g m B C S)(v:C[D]?=H d)(hT:S[D]?=H T)(W:eE wr r d s)(ho:r.ownsRow (m+1) 186 1 s (y<|T++[O]) ((T++[O]).map bz.ptr))(al:Dj wr c m C O)(Q:O.tb∉S.flatten.map bz.tb):Dl w0 (cq r (R m D) s) c i x g m B (C.set D s) (S.set D<|T++[O]):=by
 have t:Z (λN=>cK d=H N) wr r:=Z.fH W;have w:=λq=>l.own (q:=q) v;have ad:=l.ord;have E:=l.low;have P:r.heap[m]?=H (aw C.toArray 92 (0,0)):=(t.block m (ak l.box) (λn=>by have:=w _ n;omega)).trans l.box;have j:Z (λN=>N=m) r (cq r (R m D) s):=(gZ m r);have F:∀q,cK s=H q->m<q/\q<z (G r):=λq e=>by have:=bM ho q e;omega
 have V:∀q,q<z (G wr)->(∀(aa:M)(A:ab),C[aa]?=H A->cK A≠H q)->cK s≠H q:=λq e a n=>by grind[eE.vp]
 have K:∀A,Dj wr c m C A->Dj (cq r (R m D) s) c m (C.set D s) A:=by rintro A⟨u,h,hm,h1,h2,h3,h4,h5⟩;have k:lH r A.tb (aA c) A.num (y<|dK A.cs) (y<|fI<|bW 0 A.cs) (mV<|fI<|bW 0 A.cs) u 0 h az A.ks:=hm.dw (t.block _ h2<|λn=>(h5 D d v).1 n)<|t.block _ h4<|λn=>(h5 D d v).2 n;have g2:=ag h2 t.size;have g4:=ag h4 t.size;refine⟨u,h,k.dw (j.block _ g2<|by omega) (j.block _ g4<|by omega),h1,by rw[gP];exact g2,h3,by rw[gP];exact g4,?_⟩;grind
 have o:=Ba (t:=O) hT;refine⟨?_,?_,by rw[iE];exact l.zC,by rw[iE];exact l.FW,?_,?_,?_,l.same,?_,?_,?_,E,?_⟩;exact(j.block g (ag (ak l.Sl) t.size)<|by omega).trans<|(t.block g (ak l.Sl) (λn=>by have:=w _ n;omega)).trans l.Sl;rw[aH P];simp;intro aa A u a h;by_cases n:D=aa;subst n;rw[iq]at a h;rw[v]at a;rw[hT]at h;cases a;cases h;exact j.own ho (λq e n=>by have:=F q e;omega);rw[gw n]at a h;have k:=t.own (l.rows aa A u a h)<|λq e L=>l.ne aa D A d q (Ne.symm n) a v e L;exact j.own k (λq e n=>by have:=l.own a e;omega);intro aa i' A u' q u a k e;by_cases n:D=aa;subst n;rw[gw u]at k;rw[iq,v]at a;cases a;intro h;change cK s=H q at e;rcases W.vp with L|⟨ac,L,hy⟩;exact l.ne _ _ _ _ q u v k (L.symm.trans e) h;rw[L]at e;cases e;have:=l.own k h;omega;rw[gw n]at a;by_cases e':D=i';subst e';rw[iq,v]at k;cases k;intro h;change cK s=H q at h;rcases W.vp with L|⟨ac,L,hy⟩;exact l.ne _ _ _ _ q u a v e<|L.symm.trans h;rw[L]at h;cases h;have:=l.own a e;omega;rw[gw e']at k;exact l.ne _ _ _ _ q u a k e;exact(l.aI.aj t (λN L n=>by have:=w _ n;have:=E N<|l.same.2.2 N L;omega)).aj j (λN L n=>by have:=E N<|l.same.2.2 N L;omega);intro A a;rcases bJ.1 (o.mem_iff.1 a)with rfl|a;(grind);exact K A<|l.oK A a;rw[(o.map bz.tb).nodup_iff,cy,iD];exact⟨Q,l.Hj⟩;exact(l.aj.trans t<|λN n=>.inr (by have:=w _ n;omega)).trans j<|λN n=>.inr (by have:N=m:=n;omega);grind[gP,Nat.lt_of_lt_of_le,Z.size]
section
open Shelf
attribute [local go_sem] Oper.semAt_some
def BC(n:X)(c:kB a):cY aZ 11 #[ui n] a λe b=>e=aM (ar n)/\Below (z<|G a) a b:=by
 unfold ui;grind[mQ,NB]
end
def kB.aj{S:eV}{w w':Y}(h:kB w)(c:Z S w w')(a:¬S 0):kB w':=by
 unfold kB at*;exact c.cell h a<|cC _ _ h
def Inv.reads{p:gz}(w:Inv a b o i e j W u v c g m l p)(h:b<z (G a))(t:Ni a f b o i e j W u v c):∃d,fJ a f o.aI b i d/\d.files=i.files/\(∀x,d.aO o.aI x->i.aO o.aI x)/\cS f b o 0/\Inv f b o d e j W u v c g m l p:=by
 obtain⟨d,n,k,q,r,s,_⟩:=t;exact⟨d,n,k,r,s,w.fj h n (by rw[k]) (by rw[q.1];grind) rfl w.loose⟩
def oX{b sbqq:M}(d:cG a b i)(c:Z ay a f):fJ a f b sbqq i i:=⟨d.aj c<|λ_ _=>id,c.mono cL,λ_ q=>.inl q,Fx.refl _⟩
def Tw(e:cG a b i)(g:¬i.aO b c)(d:Z (λk=>k=c) a f):fJ a f b c i i:=⟨e.aj d<|λ_ q h=>g<|h▸q,d.mono<|λ_ q=>.inl<|.inr q,λ_ q=>.inl q,Fx.refl _⟩
def Steps.aj{S:eV}{w w':Y}(h:Steps w)(d:Z S w w')(a:¬S 1):Steps w':=λk c=>d.cell (h k c) a h.lt
def pq(a:cJ cW):cJ cW:=a.map<|List.map bz.pZ
def po{a:cJ cW}(h:a[b]?=H j):(pq a)[b]?=H (j.map bz.pZ):=by simp[pq,h]
def Dl.St{q wr:Y}{k:gW}{e:cJ cW}(l:Dl q wr c i x g m B k e)(h:k[D]?=H d)(f:e[D]?=H j)(n:y j<=1000000000):iW wr d j where
 row:=dJ<|l.rows D d j h f
 lt:=λd a=>(l.own h a).2
 each:=λt p=>by
  obtain⟨r,a,o,_⟩:=l.oK t<|bC.2 ⟨j,eK f,p⟩;exact⟨_,_,_,_,_,_,_,_,_,o⟩
 small:=n
def Ez{db:M}{K:DK}(w:cJ cW)(x0 x1 x2 x3:Option Addr)(n0 c0 n1 c1 n2 c2 n3 c3:M)(bh:cG a db K)(u:Steps a)(bp:Pow a)(dT:¬K.aO db 1)(dx:¬K.aO db 2)(h4:y w=4)(ax:∀(aa:M)(bb:ab)(s:cW),[I x0 n0 c0,I x1 n1 c1,I x2 n2 c2,I x3 n3 c3][aa]?=H bb->w[aa]?=H s->Row a 4 bb (y s) (dy s))(cc:∀(aa:M)(bb:ab),[I x0 n0 c0,I x1 n1 c1,I x2 n2 c2,I x3 n3 c3][aa]?=H bb->∀k,cK bb=H k->k<z (G a)/\¬K.aO db k)(o:∀ec∈w.flatten,Bl ec)(hf:∀ec∈w.flatten,dh (vw K.files) (fQ ec.num)=H (nC ec.cs))(aF:∀(aa:M)(s:cW),0<aa->w[aa]?=H s->ji s)(ea:y w.flatten<=1000000):cY aZ 51 #[aA db,dC #[I x0 n0 c0,I x1 n1 c1,I x2 n2 c2,I x3 n3 c3]] a λbu w'=>
 (∃y0 m0 c y1 m1 d y2 m2 e y3 m3 f,bu=aM (dq #[dC #[I y0 m0 c,I y1 m1 d,I y2 m2 e,I y3 m3 f],.nilIface])/\∃b Ts,Dl a w' db K b (z<|G a) (z (G a)+2) [I x0 n0 c0,I x1 n1 c1,I x2 n2 c2,I x3 n3 c3] [I y0 m0 c,I y1 m1 d,I y2 m2 e,I y3 m3 f] Ts/\pq Ts=pq w)\/0<K.fx.bd/\∃q,bu=aM (dq #[dC #[az,az,az,az],eD q])/\Af w' q/\Z (K.aO db) a w'/\∃b,cG w' db b/\(vq K b/\Fx K.fx b.fx)/\∀k,b.aO db k->K.aO db k:=by
 have cn:=U bh.wS
 obtain⟨i0,eB,fe,ff,fg⟩:=di wC
 have fn:∀(fk:Bool)(a:Y),(Op.unary .not<|aN fk).run aZ a=.ok (aN<|!fk) a:=λ_ _=>rfl
 obtain⟨mv,ce⟩:∃mv:gW,mv=[I x0 n0 c0,I x1 n1 c1,I x2 n2 c2,I x3 n3 c3]:=⟨_,rfl⟩
 rw[<-ce]at ax cc|-
 obtain⟨W1,C⟩:∃W1,cN (cN (cN a<|aw mv.toArray 125)<|aw #[az,az,az,az] 92) (aw #[az,az,az,az] 92)=W1:=⟨_,rfl⟩
 have bE:Z ay a W1:=by rw[<-C];exact((cF ay a).alloc _).alloc _
 have cw:W1.heap[z (G a)+1]?=H (aw #[az,az,az,az] 92 (0,0)):=by rw[<-C];exact(fU _<|by simp).trans<|aJ _<|by simp
 have hA0:Dl a W1 db K K (z<|G a) (z (G a)+2) mv [az,az,az,az] [[],[],[],[]]:=by
  refine⟨?_,?_,rfl,rfl,?_,?_,bh.aj bE<|λ_ _=>id,⟨rfl,⟨⟨rfl,rfl,rfl⟩,Fx.refl _⟩,λ_ x=>x⟩,by simp,by simp,bE.mono cL,bh.lt,?_⟩
  .rw[<-C];grind[fU,aJ]
  .rw[<-C];exact aJ _<|by simp
  .intro aa bb bl p u;have bu:bb=az/\bl=[]:=by
    rcases aa with _|_|_|_|aa<;>simp at p u<;>exact⟨p.symm,u⟩
   rw[bu.1,bu.2];grind[World.ownsRow_nil]
  .intro aa b bb c q _ p _ W;have bu:bb=az:=by
    rcases aa with _|_|_|_|aa<;>simp at p<;>exact p.symm
   rw[bu]at W;cases W
  .refine⟨ah _,by omega,?_⟩;rw[<-C];simp
 obtain⟨cm,el,HT,HP,cp,co,ek,HF⟩:=CV hA0 cw u bp ax cc o hf
 obtain⟨bv,H4,eq,ei,es,cu,ex⟩:=zo aF h4 ea ce C dT dx
 clear bh u bp ax cc o hf aF h4 ea ce bE cw hA0 C dT dx
 go_in
 go_wp2_with fail
 rw[J es]
 have e2:z (G a)+1+1=z (G a)+2:=rfl
 rw[e2]
 obtain⟨r,cb⟩:∃r,z (G a)+2=r:=⟨_,rfl⟩
 rw[cb]at cm|-
 have ds:∀(i:M)(s:cW),w[i]?=H s->y s<=1000000:=λi s V=>by
  have O:=J eq;have h2:y s<=y w.flatten:=pU<|dl<|eK V;omega
 have eg:=U ds
 have bd:=U cb
 clear ds e2 cb
 go_loopw [12] (λb wr=>∃(i:M)(K1:DK)(vs:gW)(Ts:cJ cW),i<=4/\b=ar i/\Dl a wr db K K1 (z<|G a) r mv vs Ts/\nZ (pq w) (pq Ts) i 0/\wr.heap[z (G a)+1]?=H (aw #[az,az,az,az] 92 (0,0))) (λb _=>4-(intOf b).toNat)
 case atStart=>exact⟨0,_,_,_,bP _,rfl,cm,nZ.start<|pq w,el⟩
 case round=>
  obtain⟨i,K1,vs,Ts,hi,rfl,B,bf,f⟩:=hrel;by_cases P:i<4
  .have ac:=U f;clear f;have dn:i<y w:=by rw[J H4];exact P
   obtain⟨s,V⟩:∃s,w[i]?=H s:=⟨_,aQ dn⟩;have bn:i<y mv:=by rw[J ei];exact P
   obtain⟨bb,p⟩:∃bb,mv[i]?=H bb:=⟨_,aQ bn⟩;have ch:=cp i bb s p V;obtain⟨fk,x,fd⟩:∃fk x,bb=I fk (y s) x:=by
    obtain⟨q1,⟨q2,q0⟩|⟨fx,bt,cv,q2,_⟩⟩:=ch
    .grind
    grind
   subst fd;have fb:=eg i s V;have hc:=(B.A5 i).trans p;have e1:(i:X)<4:=by omega
   have e0:(0:X)<=(i:X):=by omega
   obtain⟨HA,en,HM,HV,eo⟩:=iO B bf V p ch;clear B bf V p ch dn bn;go_wp2_with fail
   go_loopw [19] (λc b=>∃(k:M)(K1:DK)(vs:gW)(Ts:cJ cW),k<=y s/\c=ar k/\Dl a b db K K1 (z<|G a) r mv vs Ts/\nZ (pq w) (pq Ts) i k/\b.heap[z (G a)+1]?=H (aw #[az,az,az,az] 92 (0,0))) (λc _=>y s-(intOf c).toNat)
   case atStart=>exact⟨0,_,_,_,bP _,rfl,HA,en,ac⟩
   case round=>
    obtain⟨k,K2,S,t,hk,rfl,hA2,j,av⟩:=hrel;have d:=U av;clear av;by_cases ao:k<y s
    .have V:=J HM;have ap:s[k]∈w.flatten:=bC.2 ⟨s,eK V,aq ao⟩;have o:=ek _ ap;have dc:=HF _ ap;have br:=hA2.aj.row eo<|λq W=>⟨(co i _ HV q W).2,(co i _ HV q W).1⟩;obtain⟨fs,c,hx,an⟩:∃fs c,fk=H (R fs c)/\∀aa cl,(s[k].wy)[aa]?=H cl->aW wr (R fs<|c+(k*4+aa))=H cl:=by
      obtain⟨q1,⟨q2,q0⟩|⟨fx,bt,cv,q2,bc,E⟩⟩:=br
      .omega
      .cases q2;refine⟨fx,bt,rfl,λaa cl hu=>E _ _ ?_⟩;have hj:aa<4:=by
        rcases ik aa 4 with x|x
        .exact x
        .rw[qz<|by simpa[bz.wy]using x]at hu;cases hu
       rw[Ho s k aa ao hj];exact hu
     subst hx;have cM:=an 0 _ rfl;have cT:=an 1 _ rfl;have bT:=an 2 _ rfl;have ca:=an 3 _ rfl;have bg:i<y t:=by rw[hA2.FW];exact P
     obtain⟨bl,u⟩:∃bl,t[i]?=H bl:=⟨_,aQ bg⟩;have bL:y bl=k:=by
      have O:=j.now _<|po V;rw[po u]at O;have h2:=bS y<|gY O;simp at h2;omega
     have v:bl.map bz.pZ=(s.map bz.pZ).take k:=by
      have O:=j.now _<|po V;rw[po u]at O;simp_all
     have bk:i<y S:=by rw[hA2.zC];exact P
     obtain⟨bb,p⟩:∃bb,S[i]?=H bb:=⟨_,aQ bk⟩;have l:=hA2.rows i bb bl p u;rw[bL]at l;obtain⟨ox,oc,cf⟩:=aB l;subst cf;have bq:=j.one<|po V;have eb:(s.map bz.pZ).take (k+1)=(s.map bz.pZ).take k++[s[k].pZ]:=by
      rw[ai<|by simp_all];simp
     have hA3:=hA2.still<|(Z.refl ay wr).alloc<|aw #[aE s[k].num,dA<|y<|dK s[k].cs,dA<|y<|fI<|bW 0 s[k].cs,dA<|mV<|fI<|bW 0 s[k].cs] 185;rw[o.ks]at bT ca;generalize s[k]=ec at*;have m:=Kw ec.num o.num ec.cs o.idx (Steps.aj HT hA3.aj cu) (Pow.aj HP hA3.aj ex) o.small (λx=>cu<|hA2.same.2.2 _ x) hA3.aI (by rw[hA2.same.1];exact dc);unfold ES at m;have bi:=o.num;have dr:=o.ks;obtain⟨A,g,fr,ad,cr⟩:=iO hA2 hA3 l p u;obtain⟨cs,bx,er,F,ef⟩:=iO bL v eb bq dr;have e4:(k:X)<(y s:X):=by omega
     have e5:(0:X)<=(k:X):=by omega
     have k0:aW wr (R r i)=H (I ox k oc):=(hA2.cell i).trans p;have e6:c+(k*4+0)=c+k*4:=by omega
     have e7:c+(k*4+1)=c+k*4+1:=by omega
     have e8:c+(k*4+2)=c+k*4+2:=by omega
     have e9:c+(k*4+3)=c+k*4+3:=by omega
     rw[e6]at cM;rw[e7]at cT;rw[e8]at bT;rw[e9]at ca;clear hA2 hA3 l p u bL v eb bq dr o dc br an V ap bg bk j e6 e7 e8 e9;obtain⟨fv,tk,n,tn⟩:=ec;simp only at cM cT bT ca m bi;generalize cx:y (dK n)=tl at*;generalize cB:y (fI<|bW 0 n)=ti at*;generalize cE:mV (fI<|bW 0 n)=tc at*;obtain⟨et,eu,ev⟩:=dz cx cB cE;clear cx cB cE;have cd:=A.ord;have bm:=U (show z (G wr)<z (G<|cN wr<|aw #[aE tn,dA tl,dA ti,dA tc] 185)by simp);go_wp2_with fail
     apply m.mono;rintro bu T⟨K3,hd,aU,N,⟨e,fl,L,rfl,al,dk,dm⟩|⟨hX,q,rfl,W⟩⟩;rotate_left
     .have ck:=hd.aj;have bc:=U (show cG T db K3/\(vq K K3/\Fx K.fx K3.fx)/\∀k,K3.aO db k->K.aO db k from⟨hd.ok,⟨g.same.2.1.1.trans aU,g.same.2.1.2.trans hd.fx⟩,λk x=>g.same.2.2 k<|N k x⟩);have hX:=g.same.2.1.2.pos cn hX;have aV:=J bm;have b:=(ck.block _ (by have:=ak d;omega) (λx=>by have:=g.low _<|g.same.2.2 _ x;omega)).trans<|(fU _<|ak d).trans d;have t0:=cellAt b 0 rfl;have t1:=cellAt b 1 rfl;have t2:=cellAt b 2 rfl;have t3:=cellAt b 3 rfl;have eA:∀i,T.frozen? (R (z (G a)+1) i)=aX:=λi=>by simp[World.frozen?,b]
      obtain⟨HQ,dv,E⟩:=dz W (g.aj.trans ck<|λk hk=>.inl<|g.same.2.2 k hk) b;clear W ck b m k0 aV hd aU N;go_wp2;have aD:=aH (i:=3) (u:=az)<|aH (i:=2) (u:=az)<|aH (i:=1) (u:=az)<|aH (i:=0) (u:=az) E;have Q:=((((Z.refl (λk=>k=z (G a)+1) T).setCell (z (G a)+1) 0 az<|.inl rfl).setCell (z (G a)+1) 1 az<|.inl rfl).setCell (z (G a)+1) 2 az<|.inl rfl).setCell (z (G a)+1) 3 az<|.inl rfl;refine ct (qN rfl _ _ (z (G a)+1) _ _ _ _ _ _ rfl aD ⟨_,_,_,rfl⟩ ⟨_,_,_,rfl⟩ ⟨_,_,_,rfl⟩ ⟨_,_,_,rfl⟩) rfl ?_;exact .inr ⟨hX,q,rfl,HQ.aj Q<|λk hk _=>hk▸⟨_,92,_,E,by decide⟩,dv.trans Q<|λk hk=>.inr (by have:k=z (G a)+1:=hk;omega),K3,bc.1.aj Q (λk x bu=>by have:=g.low k<|bc.2.2 k x;have:k=z (G a)+1:=bu;omega),bc.2.1,bc.2.2⟩
     have hA4:=g.move hd.aj (λq W=>.inl<|g.same.2.2 q W) hd.ok ⟨aU.1,⟨aU,hd.fx⟩,N⟩;have aV:=J bm;have fu:r<z (G wr):=cd.2.2;have b:=(hd.aj.block _ (by have:=ak d;omega) (λx=>by have:=g.low _<|g.same.2.2 _ x;omega)).trans<|(fU _<|ak d).trans d;have bs:Dj T db r S ⟨e,tk,n,tn⟩:=by
      refine⟨fl,L,?_,by show r<e;omega,ak al.box,by omega,?_,λaa cl hu=>⟨λx=>?_,λx=>?_⟩⟩
      .show lH T e (aA db) tn (y<|dK n) (y<|fI<|bW 0 n) (mV<|fI<|bW 0 n) fl 0 L az tk;rw[J et,J eu,J ev,J ef];exact al
      .have E:0<y (eO<|bW 0 n):=by
        have:=al.ne;rcases W:bW 0 n with _|⟨q,fz⟩
        .rw[W]at this;simp at this
        .simp[eO,rp.cells]
       have:=al.cells 0 _<|aQ E;exact cC T _ this
      .have O:=(A.own hu x).2;have h2:z (G wr)<=e:=by omega
       simp only at O;omega
      .have O:=(A.own hu x).2;omega
     have bo:e∉t.flatten.map bz.tb:=λx=>by
      obtain⟨cl,hu,bu⟩:=bR.1 x;obtain⟨_,_,_,_,h2,_⟩:=A.oK cl hu;omega
     have D:=hA4.rows i _ bl ad cr;rw[J cs]at D;have k1:aW T (R r i)=H (I ox k oc):=(hA4.cell i).trans ad;have cj:r<z (G T):=hA4.ord.2.2;have ew:=U (show∀v5 w5,w5.ownsRow (r+1) 186 1 v5 (k+1) (bl.map bz.ptr++[aA e])->eE (cN T<|aw #[aA e] 186) w5 (I ox k oc) v5->Dl a (cq w5 (R r i) v5) db K K3 (z<|G a) r mv (S.set i v5) (t.set i<|bl++[⟨e,tk,n,tn⟩])/\(cq w5 (R r i) v5).heap[z (G a)+1]?=H (aw #[az,az,az,az] 92 (0,0))/\aW w5 (R r i)=H (I ox k oc)/\w5.frozen? (R r i)=aX from by
      intro v5 w5 au ba;have E:Z ay T (cN T<|aw #[aA e] 186):=(cF ay T);have hA5:=hA4.still E;have ck:=Z.fH ba;have dv:cK (I ox k oc)≠H r:=λx=>by have:=(hA4.own ad x).1;omega
      have ey:=(ck.block r (ag cj E.size) dv).trans hA5.box;refine⟨hA5.put ad cr ba ?_ (bs.aj E cL) bo,?_,?_,by simp[World.frozen?,ey]⟩
      .rw[af,J cs,aP];exact au
      .have bc:=ak b;exact(jd v5 (by have:=J bd;omega)).trans<|(ck.block _ (ag bc E.size) (λx=>by have:=(hA4.own ad x).1;have:=J bd;omega)).trans<|(E.block _ bc id).trans b
      .exact ck.cell (E.cell k1 id cj) dv (ag cj E.size))
     have ej:=U D;clear al dk dm hd aU N hA4 bs bo D m k0 aV b;go_wp2_with(first
      |(at_builtin;go_loud(refine cA _ rfl (.tmp 36) (.tmp 38) 90 rfl (r+1) 186 i0 (.pointer none) 1 8 underlying90 eB fe ff fg rfl (by decide) (.slice ox k oc) k (bl.map bz.ptr) rfl (aT ej _) (R (z (G T)) 0) 1 1 [aA e] rfl rfl (oZ _ _ _) (by simp[Value.oneCell']) (by omega) (by omega) (by simp;omega) ?_;intro v5 w5 au ba;obtain⟨hA5,y2,y0,y1⟩:=ew v5 w5 au ba;obtain⟨x5,c5,rfl⟩:=aB au;have ed:=U hA5;have em:=U y2;clear au ba hA5 y2)))
     go_roundw;case rel=>
      refine⟨k+1,K3,_,_,ao,by go_num,ed,?_,em⟩;have O:=J F;have h2:pq (t.set i<|bl++[⟨e,tk,n,tn⟩])=(pq t).set i ((s.map bz.pZ).take<|k+1):=by
       unfold pq;rw[sD,aP,J bx,J er];rfl
      rw[h2];exact O
     case measure=>simp[intOf];omega
    .have E:k=y s:=by omega
     subst E;have bg:i<y t:=by rw[hA2.FW];exact P
     obtain⟨bl,u⟩:∃bl,t[i]?=H bl:=⟨_,aQ bg⟩;have bk:i<y S:=by rw[hA2.zC];exact P
     obtain⟨bb,p⟩:∃bb,S[i]?=H bb:=⟨_,aQ bk⟩;have v:js s bl:=by
      have O:=j.now _<|po HM;rw[po u]at O;have h2:=gY O;rw[eT<|by simp]at h2;exact h2
     have c:=hA2.St p u (by rw[v.lens];omega);have l:=hA2.rows i bb bl p u;obtain⟨ox,oc,cf⟩:=aB l;subst cf;have k0:aW wr (R r i)=H (I ox (y bl) oc):=(hA2.cell i).trans p;have b:=(show nZ (pq w) (pq t) i (y<|s.map bz.pZ)by rw[dj];exact j).yj (po HM) (by unfold pq;rw[dj];exact H4);have e4:¬((y s:X)<(y s:X)):=by omega
     have A:=U hA2;have F:=U b;by_cases m:i=0
     .subst m;clear hA2 j c l u p b;go_wp2;go_roundw;case rel=>exact⟨1,_,_,_,by omega,by go_num,A,F,d⟩
      case measure=>simp[intOf]
     .have g:=TQ c (v.side<|bv i s (by omega) HM).apart;have e6:(0:X)<(i:X):=by omega
      clear hA2 j c l u p b;go_wp2_with fail
      apply g.mono;rintro bu L⟨rfl,e⟩;have n:=U<|A.still<|Z.aR e;have D:=U<|(e.block _<|ak d).trans d;clear e g;go_wp2;go_roundw;case rel=>exact⟨i+1,_,_,_,by omega,by go_num,n,F,D⟩
      case measure=>simp[intOf];omega
  .have j:i=4:=by omega
   subst j;have v:=bf.all (by unfold pq;rw[dj];exact H4) (by unfold pq;rw[dj];exact B.FW);have b:=B.zC;obtain⟨l,m,n,t,rfl⟩:∃l m n t,vs=[l,m,n,t]:=by
    rcases vs with _|⟨l,_|⟨m,_|⟨n,_|⟨t,_|⟨v4,fz⟩⟩⟩⟩⟩<;>simp at b;grind
   obtain⟨c,ad,L⟩:=B.row (j:=0) rfl;obtain⟨d,al,N⟩:=B.row (j:=1) rfl;obtain⟨e,an,S⟩:=B.row (j:=2) rfl;obtain⟨g,ao,T⟩:=B.row (j:=3) rfl;obtain⟨A,y0,rfl⟩:=aB L;obtain⟨D,y1,rfl⟩:=aB N;obtain⟨E,y2,rfl⟩:=aB S;obtain⟨F,y3,rfl⟩:=aB T;have r0:=cellAt B.box 0 rfl;have r1:=cellAt B.box 1 rfl;have r2:=cellAt B.box 2 rfl;have r3:=cellAt B.box 3 rfl;have t0:=cellAt f 0 rfl;have t1:=cellAt f 1 rfl;have t2:=cellAt f 2 rfl;have t3:=cellAt f 3 rfl;have eA:∀i,wr.frozen? (R (z (G a)+1) i)=aX:=λi=>by simp[World.frozen?,f]
   obtain⟨HA,bx,ac⟩:=dz B v f;have e5:¬((4:X)<4):=by omega
   clear B bf L N S T v f b;go_wp2;have aD:=aH (i:=3) (u:=I F (y g) y3)<|aH (i:=2) (u:=I E (y e) y2)<|aH (i:=1) (u:=I D (y d) y1)<|aH (i:=0) (u:=I A (y c) y0) ac;have Q:=((((Z.refl (λk=>k=z (G a)+1) wr).setCell (z (G a)+1) 0 (I A (y c) y0)<|.inl rfl).setCell (z (G a)+1) 1 (I D (y d) y1)<|.inl rfl).setCell (z (G a)+1) 2 (I E (y e) y2)<|.inl rfl).setCell (z (G a)+1) 3 (I F (y g) y3)<|.inl rfl;refine ct (qN rfl _ _ (z (G a)+1) _ _ _ _ _ _ rfl aD ⟨_,_,_,rfl⟩ ⟨_,_,_,rfl⟩ ⟨_,_,_,rfl⟩ ⟨_,_,_,rfl⟩) rfl ?_;refine .inl ⟨A,y c,y0,D,y d,y1,E,y e,y2,F,y g,y3,rfl,K1,Ts,?_,bx⟩;rw[J bd];have hd:=HA.aI.aj Q (λk x bu=>by have:=HA.low k<|HA.same.2.2 k x;have:k=z (G a)+1:=bu;omega);exact HA.move Q (λk bu=>.inr (by have:k=z (G a)+1:=bu;have:=J bd;omega)) hd ⟨rfl,⟨⟨rfl,rfl,rfl⟩,Fx.refl _⟩,λ_ x=>x⟩
def DL(a:M)(b:cW):ab->Prop:=λx=>x=am eh\/x=am (fa a)\/∃t∈b,x=am (fQ t.num)
def pA{P:Program}{r:Oper}{f:Act}{K:Act->Y->Prop}{Q:Exit->Act->Y->Prop}(h x i:Operand)(v:TypeId)(e:r.op=Op.insert v h x i)(u w:TypeId)(o:P.underlying v=H (.map u w))(k:TypeDesc)(m:P.underlying u=H k)(j:M)(g:ab->Prop)(n:f.eval h=.map (H j))(A:lh a j k g)(b:ab)(d:MapKept.IsKey k b)(q:f.eval x=b)(p:f.eval i=dC #[])(l:∀w',lh w' j k (λx=>g x\/x=b)->a.grownBy w' (H j)->K (f.put r.dst iH) w'):Oper.wp P r f a K Q:=by
 obtain⟨w',c,s,t,_⟩:=zJ o m A b d;unfold Oper.wp;simp[execOp,e,n,q,p,c,Result.andThen];exact l w' s t
def nw(a:M)(b:cW)(x:ae):Bool:=decide (x=eh)||decide (x=fa a)||b.any (λt=>decide<|x=fQ t.num)
def Ks(a:M)(b:cW)(x:ae):nw a b x=ci↔DL a b (am x):=by
 unfold nw DL;simp[or_assoc]
def lC(a:M)(c:cW)(b:cJ ae):cJ ae:=b.filter<|λx=>!nw a c x
def OG{log:M}{ts:cW}{a:cJ ae}(h:b<y a):lC log ts (a.take<|b+1)=lC log ts (a.take b)++(if nw log ts a[b]then []else [a[b]]):=by
 unfold lC;rw[ai h,kU];cases hc:nw log ts a[b]<;>simp[hc]
def FN.own(h:FN t)(d:Pow a):cY aZ 101 #[am t] a λe w'=>e=aM (aN ci)/\Z ay a w':=by
 rcases h with rfl|⟨m,c,rfl|rfl⟩;exact Zz a;exact UT<|EB c d;exact UT<|EE c d
def Gf(ck cl aD cm:cW)(h:cS a b o k)(hl:Dm a b 10 [(o.l0,ck),(o.l1,cl),(o.l2,aD),(o.l3,cm)])(hT:∀ey∈ck++cl++aD++cm,QC a ey)(hp:Pow a)(dc:o.log<18446744073709551616)(dm:y (ck++cl++aD++cm)<=10000000)(cb:cG a o.aI i)(cT:y i.files<=100000000)(hn:∀ac∈i.files.map da.name,ac=eh\/FN ac):cY aZ 60 #[aA b] a λu w'=>∃v',u=aM v'/\∃f,List.Perm f (i.files.map da.name)/\w'.ownsRow (z<|G a) 9 1 v' (y<|lC o.log (ck++cl++aD++cm) f) (strs<|lC o.log (ck++cl++aD++cm) f)/\Z ay a w':=by
 obtain⟨i0,db,dT,ea,eb⟩:=di zT;obtain⟨u0,dn,dx,er,es⟩:=di Fb;have en:=@rq aZ;have ed:∀(ac:Bool)(a:Y),(Op.unary .not<|aN ac).run aZ a=.ok (aN<|!ac) a:=λ_ _=>rfl;have aU:∀W,Z ay a W->cY aZ 53 #[aE o.log] W λu w'=>u=aM (am<|fa o.log)/\Below (z<|G W) W w':=λW F=>yQ o.log dc<|hp.aj F id;have V:∀W,Z ay a W->cY aZ 99 #[cX<|H<|R b 10] W λu w'=>∃v',u=aM v'/\w'.ownsRow (z<|G W) 186 1 v' (y<|ck++cl++aD++cm) ((ck++cl++aD++cm).map bz.ptr)/\Z ay W w':=λW F=>by have l:Dm W b 10 [(o.l0,ck),(o.l1,cl),(o.l2,aD),(o.l3,cm)]:=⟨hl.len,λx hi=>F.cell (hl.cell x hi) id hl.lt,λx hi=>F.row (hl.row x hi)<|λq a=>⟨id,hl.pa x hi q a⟩,λx hi q a=>ag (hl.pa x hi q a) F.size,hl.small⟩;have:=sJ _ l;rw[PY,QY]at this;exact this
 have cc:∀W,Z ay a W->cY aZ 52 #[aA o.aI] W λu w'=>∃v' f,u=aM v'/\List.Perm f (i.files.map da.name)/\w'.ownsRow (z<|G W) 9 1 v' (y f) (strs f)/\Z ay W w':=λW F=>EV (db:=o.aI) (K:=i) (w:=W) (cb.aj F<|λ_ _=>id) cT;have ch:=ak h;have c2:=cS.cellAt h 2 rfl;have cx:=cS.cellAt h 17 rfl;obtain⟨T,bT⟩:∃T,ck++cl++aD++cm=T:=⟨_,rfl⟩;rw[bT]at hT V dm|-;obtain⟨HH,bo,HP,HN,D,bu,co⟩:=zo h hT hp hn aU V cc;clear h hT hp hn aU V cc hl cb bT;generalize o.log=c at*;generalize o.aI=ec at*;go_in
 go_wp2_with fail
 rename_i QQ KK bL;refine dR (λE=>aW E (R b 17)=H (aE c)) 11 (by kernel_rfl) ?_;have bg:∀W,Z ay a W->aW W (R b 17)=H (aE c):=λW F=>F.cell cx id ch;have bl:Z ay a a.drew:=cZ _ a;have al:=bg _ bl;have eq:z (G a.drew)=z (G a):=rfl;have m:=U bg;have bv:=U bl;clear bg bl;refine lz (i:=1) (v:=?_) rfl rfl (by kernel_rfl) (by kernel_rfl) (by kernel_rfl) (by kernel_rfl) (λ_ _ _ h=>h) (Or.inl ⟨by rfl,?_⟩) al ?_;rotate_left;(.rintro E z0;go_simp;try with_reducible rfl);simp only[Act.put,dW,iS];refine fh 3 ?_;iterate 4 (refine iz (v:=?_) al rfl (by kernel_rfl) lk rfl ?_ ?_;rotate_left;(focus(rintro E z0;go_simp;try rfl));simp only[Act.put,dW,iS,Nat.reduceAdd])
 apply ii;refine lz (i:=8) (v:=?_) rfl rfl (by kernel_rfl) (by kernel_rfl) (by kernel_rfl) (by kernel_rfl) (λ_ _ _ h=>h) (Or.inl ⟨by rfl,?_⟩) al ?_;rotate_left;(.rintro E z0;go_simp;try with_reducible rfl);simp only[Act.put,dW,iS];refine uw (α:=M) (λe W=>Z ay a W/\z (G a)<=e/\lh W e .string (λac=>ac=am ⟨#[115,116,97,116,101]⟩\/ac=am (fa c))) (λe=>{tmps:=#[aA b,iH,az,iH,iH,iH,iH,iH,iH,iH,iH,.map<|H e,dC #[],aA b,aA b,cX<|H<|R b 17,aE c,am<|fa c,dC #[],iH,iH,iH,iH,iH,iH,iH,iH,iH,iH,iH,iH,iH,iH,iH,iH,iH,iH,iH,iH,iH,iH,iH,iH,iH,iH,iH,iH,iH,iH,iH,iH,iH,iH,iH,iH,iH,iH,iH,iH,iH,iH,iH],defers:=[]}) #[true,true,true,true,true,true,true,true,true,true,false,false] 2 ?_ ?_;(.intro O;refine uw (α:=M) (λe W=>Z ay a W/\z (G a)<=e/\lh W e .string ay) (λe=>{tmps:=#[aA b,iH,az,iH,iH,iH,iH,iH,iH,iH,iH,.map<|H e,dC #[],aA b,aA b,cX<|H<|R b 17,aE c,am<|fa c,dC #[],iH,iH,iH,iH,iH,iH,iH,iH,iH,iH,iH,iH,iH,iH,iH,iH,iH,iH,iH,iH,iH,iH,iH,iH,iH,iH,iH,iH,iH,iH,iH,iH,iH,iH,iH,iH,iH,iH,iH,iH,iH,iH,iH],defers:=[]}) #[ci,ci,aX,ci,ci,ci,ci,ci,ci,aX,aX,aX] 4 ?_ ?_;(.intro L;refine tC (i:=0) (j:=7) rfl rfl rfl rfl (by kernel_rfl) ?_ ?_;(.intro i N;go_simp;have w:=(lh.new a .string).dw (w':=(cN a<|.map #[] 0).drew) rfl;have C:Z ay a (cN a<|.map #[] 0).drew:=(cF ay a).of_heap rfl;refine N _ _ (λ_=>m _ C) ?_;(try simp only[Act.put,dW,iS]);generalize(cN a<|.map #[] 0).drew=W1 at*;refine tC (i:=2) (j:=7) rfl rfl rfl rfl (by kernel_rfl) ?_ ?_;(.intro K2 r;(try simp only[de,cD,cI]);refine pA (.tmp 11) (.const<|am ⟨#[115,116,97,116,101]⟩) (.tmp 12) 205 rfl 9 79 underlying205 .string underlying9 (z<|G a) _ rfl w (am ⟨#[115,116,97,116,101]⟩) trivial rfl rfl ?_;intro w5 p s;have l:Z ay a w5:=C.trans (fA s)<|λk u=>.inr (by have:k=z (G a):=u;omega);refine r _ _ (λ_=>m _ l) ?_;(try simp only[Act.put,dW,iS]);refine bj (i:=7) rfl rfl (by kernel_rfl) ?_;intro K3 aa;go_simp;apply(D _ l).mono;rintro u B⟨rfl,t⟩;have g:Z ay a B:=l.cz<|Z.aR (S:=ay) t;have ao:=p.dw<|t.block _ p.lt;refine aa _ _ (λ_=>m _ g) ?_;(try simp only[Act.put,dW,iS]);refine bj (i:=9) rfl rfl (by kernel_rfl) ?_;intro K4 ad;(try simp only[de,cD,cI]);refine pA (.tmp 11) (.tmp 17) (.tmp 18) 205 rfl 9 79 underlying205 .string underlying9 (z<|G a) _ rfl ao (am<|fa c) trivial rfl rfl ?_;intro w7 Q P;have K:Z ay a w7:=g.trans (fA P)<|λk u=>.inr (by have:k=z (G a):=u;omega);refine ad _ _ (λ_=>m _ K) ?_;exact jW (O (z<|G a) _ ⟨K,ah _,Q.congr<|λac=>by simp⟩)<|by kernel_rfl);intro K2 r;go_simp;apply(D _ C).mono;rintro u B⟨rfl,t⟩;have g:Z ay a B:=C.cz<|Z.aR (S:=ay) t;have ao:=w.dw<|t.block _ w.lt;refine r _ _ (λ_=>m _ g) ?_;(try simp only[Act.put,dW,iS]);exact jW (L (z<|G a) _ ⟨g,ah _,ao⟩)<|by kernel_rfl);intro i N;go_simp;apply(D _ bv).mono;rintro u B⟨rfl,t⟩;have g:Z ay a B:=bv.cz<|Z.aR (S:=ay) t;refine N _ _ (λ_=>m _ g) ?_;(try simp only[Act.put,dW,iS]);refine bj (i:=0) rfl rfl (by kernel_rfl) ?_;intro K2 r;go_simp;have w:=g.alloc<|.map #[] 0;refine r _ _ (λ_=>m _ w) ?_;(try simp only[Act.put,dW,iS]);exact jW (L (z<|G B) _ ⟨w,g.size,lh.new B .string⟩)<|by kernel_rfl);rintro e W⟨A,bh,d⟩;refine tC (i:=2) (j:=9) rfl rfl rfl rfl (by kernel_rfl) ?_ ?_;intro i N;(try simp only[de,cD,cI]);refine pA (.tmp 11) (.const<|am ⟨#[115,116,97,116,101]⟩) (.tmp 12) 205 rfl 9 79 underlying205 .string underlying9 e _ rfl d (am ⟨#[115,116,97,116,101]⟩) trivial rfl rfl ?_;intro w5 p s;have l:Z ay a w5:=A.trans (fA s)<|λk u=>.inr (by have:k=e:=u;omega);refine N _ _ (λ_=>m _ l) ?_;(try simp only[Act.put,dW,iS]);refine bj (i:=9) rfl rfl (by kernel_rfl) ?_;intro K2 r;(try simp only[de,cD,cI]);refine pA (.tmp 11) (.tmp 17) (.tmp 18) 205 rfl 9 79 underlying205 .string underlying9 e _ rfl p (am<|fa c) trivial rfl rfl ?_;intro B C w;have t:Z ay a B:=l.trans (fA w)<|λk u=>.inr (by have:k=e:=u;omega);refine r _ _ (λ_=>m _ t) ?_;exact jW (O e _ ⟨t,bh,C.congr<|λac=>by simp⟩) (by kernel_rfl);intro i N;(try simp only[de,cD,cI]);refine pA (.tmp 11) (.tmp 17) (.tmp 18) 205 rfl 9 79 underlying205 .string underlying9 e _ rfl d (am<|fa c) trivial rfl rfl ?_;intro w5 p s;have l:Z ay a w5:=A.trans (fA s)<|λk u=>.inr (by have:k=e:=u;omega);refine N _ _ (λ_=>m _ l) ?_;(try simp only[Act.put,dW,iS]);refine bj (i:=2) rfl rfl (by kernel_rfl) ?_;intro K2 r;(try simp only[de,cD,cI]);refine pA (.tmp 11) (.const<|am ⟨#[115,116,97,116,101]⟩) (.tmp 12) 205 rfl 9 79 underlying205 .string underlying9 e _ rfl p (am ⟨#[115,116,97,116,101]⟩) trivial rfl rfl ?_;intro B C w;have t:Z ay a B:=l.trans (fA w)<|λk u=>.inr (by have:k=e:=u;omega);refine r _ _ (λ_=>m _ t) ?_;exact jW (O e _ ⟨t,bh,C.congr<|λac=>by grind⟩)<|by kernel_rfl);rintro e W⟨A,bh,d⟩;refine lz (i:=10) (v:=?_) rfl rfl (by kernel_rfl) (by kernel_rfl) (by kernel_rfl) (by kernel_rfl) (λ_ _ _ h=>h) (Or.inl ⟨by rfl,?_⟩) (m _ A) ?_;rotate_left;(.rintro E z0;go_simp;try with_reducible rfl);simp only[Act.put,dW,iS];refine bj (i:=11) rfl rfl (by kernel_rfl) ?_;intro eg aF;go_simp;refine aF _ _ FQ ?_;refine eS (by kernel_rfl) ?_ _;show KK _ _;apply bL;have aV:=d.lt;have n:=U d;have bt:=U A;clear d A aF bL al;go_wp2_with fail
 apply(bu W bt).mono;rintro u B⟨v6,rfl,bi,g⟩;obtain⟨x6,c6,dr⟩:=aB bi;subst dr;obtain⟨cu,cw,br,cp⟩:=fY (n.dw<|g.block _ aV id) (bt.cz g) bi<|show e<z (G W)from aV;have ao:=g.size;clear bi g n;go_wp2_with fail
 go_loopw [25] (λx wr=>∃au:M,au<=y T/\x=ar au/\lh wr e .string (DL c<|T.take au)/\Z (λk=>k=e) B wr) (λx _=>y T-(intOf x).toNat)
 case atStart=>exact⟨0,bP _,rfl,cu.congr (λac=>by unfold DL eh;simp),Z.refl _ _⟩
 case round=>
  obtain⟨au,hn,rfl,d,l⟩:=hrel;have aa:Z ay a wr:=cw.trans l<|λk g=>.inr (by have:k=e:=g;omega);by_cases s:au<y T
  .have r:=l.own br (λk g aD=>by have:=(br.lt k g).1;have:=J cp;have:k=e:=aD;omega);obtain⟨b6,ap,ca⟩:∃b6,x6=H (R b6 0)/\aW wr (R b6 au)=H T[au].ptr:=by
    rcases r.2 with⟨h2,h0⟩|⟨ek,cB,cE,h2,_⟩
    .omega
    .cases h2;refine⟨ek,rfl,?_⟩;have:=pz r au T[au].ptr (by rw[fq,aQ s];rfl);rwa[dB,dE]at this
   subst ap;have K:=(bo T[au]<|aq s).aj aa|>.name (HP.aj aa id);have Q:=U (show∀ac,DL c (T.take<|au+1) ac↔DL c (T.take au) ac\/ac=am (fQ T[au].num)fromλac=>by
    unfold DL;rw[ai s];grind)
   have t:=d.lt;have n:=U d;have ad:=U l;have e1:(au:X)<(y T:X):=by omega
   clear d l aa r;unfold bz.ptr at ca;generalize fQ T[au].num=w at*;generalize T[au].tb=av at*;go_wp2_with fail
   apply K.mono;rintro u w7⟨rfl,p⟩;have O:=U<|n.dw<|p.block e t;have an:=U<|ad.cz<|Z.aR (S:=ay) p;clear p K;go_wp2_with(at_mapUpdate;refine uR _ rfl _ _ _ 205 rfl 9 79 underlying205 .string underlying9 e _ rfl O (am w) trivial rfl rfl ?_;intro w8 L C;have P:=U L;have N:=U C;clear L C)
   go_roundw;case rel=>exact⟨au+1,s,by go_num,P.congr Q,an.trans (fA N)<|λ_ aD=>.inl aD⟩
   case measure=>simp[intOf];omega
  .have K:au=y T:=by omega
   rw[K,bI]at d;have e1:¬(au:X)<(y T:X):=by omega
   have t:=d.lt;have ej:aW wr (R b 2)=H (aA ec):=aa.cell c2 id ch;have n:=U d;have bd:=U aa;clear d l K;go_wp2_with fail
   apply(co wr bd).mono;rintro u w9⟨v9,f,rfl,an,bk,Q⟩;obtain⟨x9,c9,ds⟩:=aB bk;subst ds;have eo:y f<=100000000:=by have:=an.length_eq;grind
   obtain⟨cv,cr,bs⟩:=dz (n.dw<|Q.block e t id) bk<|bd.cz Q;have cn:=U (show∀ac∈f,nw c T ac=aX->∀W,Z ay a W->cY aZ 101 #[am ac] W λu w'=>u=aM (aN ci)/\Z ay W w' fromλac L p W F=>by
    rcases HN ac (an.mem_iff.1 L)with u|u
    .rw[u]at p;simp[nw]at p
    .exact u.own (HP.aj F id))
   have cs:=U an;have dk:=ag t Q.size;have et:=aC bd.size Q.size;clear bk Q an;go_wp2_with fail
   go_loopw [6,40] (λo x b=>∃C:M,C<=y f/\x=ar C/\b.ownsRow (z<|G a) 9 1 o (y<|lC c T<|f.take C) (strs<|lC c T<|f.take C)/\eE w9 b az o) (λ_ x _=>y f-(intOf x).toNat)
   case atStart=>exact⟨0,bP _,rfl,cO _ _ _ _,eE.refl _ _⟩
   case round=>
    obtain⟨C,hm,rfl,ho,ap⟩:=hrel;obtain⟨ox,oc,ce⟩:=aB ho;have l:Z ay w9 wr:=Z.ee ap.grown (λk g=>by cases g);by_cases p:C<y f
    .have r:=l.own cr<|λ_ _ aD=>aD;obtain⟨b9,dv,ca⟩:∃b9,x9=H (R b9 0)/\aW wr (R b9 C)=H (am f[C]):=by
      rcases r.2 with⟨h2,h0⟩|⟨ek,cB,cE,h2,_⟩
      .omega
      .cases h2;refine⟨ek,rfl,?_⟩;have:=pz r C (am f[C]) (by simp[strs,p]);rwa[dB,dE]at this
     subst dv;have cf:=cv.dw<|l.block e dk id;obtain⟨ef,hr⟩:∃ef,nw c T f[C]=ef:=⟨_,rfl⟩;have bf:=OG (log:=c) (ts:=T) p;rw[hr]at bf;have em:=BH underlying205 underlying9 dn dx cf (am f[C]) trivial ef (by rw[<-hr];exact Ks c T f[C]);have el:y (lC c T<|f.take C)<=20000000+100000000:=by
      have h1:y (lC c T<|f.take C)<=y (f.take C):=ep _ _;rw[dO]at h1;omega
     have N:=cn f[C]<|aq p;have e2:(C:X)<(y f:X):=by omega
     have bb:=bs.cz l;have eu:=l.size;obtain⟨HO,bE,ax,bn,ad⟩:=iO ho ap bb bf l;clear l r cf ho ap bb bf;generalize cM:lC c T (f.take C)=Lm at*;clear cM;generalize f[C]=w at*;subst ce;cases ef with
     |true=>
      clear N;go_wp2;go_roundw;case rel=>
       refine⟨C+1,p,by go_num,?_,?_⟩
       .rw[J bn];simp only[nk,dM];exact aT HO _
       .have O:=(Z.refl ay wr).alloc<|aw #[] 79;exact bE.trans ⟨⟨O.os,O.tape,O.output,O.size,λx hi _=>O.block x hi id⟩,.inl rfl⟩
      case measure=>simp[intOf];omega
     |false=>
      have cd:=N hr (cN wr<|aw #[] 79)<|ax.alloc _;clear N hr;go_wp2_with fail
      apply cd.mono;rintro u bm⟨rfl,ba⟩;have P:Z ay wr bm:=((Z.refl ay wr).alloc<|aw #[] 79).cz ba;have bp:=U<|P.own HO<|λ_ _ aD=>aD;have av:=U P;clear ba P cd;go_wp2_with(at_builtin;refine cA _ rfl (.tmp 56) (.tmp 58) 132 rfl (z<|G a) 9 i0 (am ⟨#[]⟩) 1 16 underlying132 db dT ea eb rfl (by decide) (I ox (y Lm) oc) (y Lm) (strs Lm) rfl (aT bp<|aw #[am w] 9) (R (z<|G bm) 0) 1 1 [am w] rfl rfl (oZ _ _ _) (by simp[Value.oneCell']) (by omega) (by omega) (by have:=ax.size;have:=av.size;simp;omega) ?_;intro ev ew L bc;obtain⟨ex,ei,cj⟩:=aB L;subst cj;have bq:=U L;have bx:=U bc;clear L bc)
      go_roundw;case rel=>
       refine⟨C+1,p,by go_num,?_,?_⟩
       .rw[J bn];simp only[tw,ru];rw[BF,af];exact bq
       .have O:=J av;have h1:eE wr bm (I ox (y Lm) oc) (I ox (y Lm) oc):=⟨⟨O.os,O.tape,O.output,O.size,λx hi _=>O.block x hi id⟩,.inl rfl⟩;exact bE.trans<|h1.trans<|eE.alloc _ bx
      case measure=>simp[intOf];omega
    .have K:C=y f:=by omega
     rw[K,bI]at ho;have e2:¬(C:X)<(y f:X):=by omega
     obtain⟨O,N,L⟩:=aB ho;have HO:=U ho;have ad:=U<|bs.cz l;clear ho ap l K ce;subst L;go_wp2;go_ret;exact⟨_,rfl,f,cs,HO,ad⟩
def SR.wA(s:SR)(u0 u1 u2 u3:ab)(next log a:M)(b:Bool):SR:={s with l0:=u0,l1:=u1,l2:=u2,l3:=u3,next:=next,log:=log,aS:=a,iT:=b}
def XY(cb:Y)(a:M)(s:SR)(cd:X)(next l b nf:M)(dv cT:Y->ab->ab->ab->ab->Prop)(E:Y->Prop)(t:eV)(h:cS cb a s cd)(br:∀q,t q->q<z (G cb))(cs:¬t a)(hE:∀cc W',E cc->Z (λq=>q=a) cc W'->E W')(hL:cY aZ 50 #[aA s.aI] cb λbh m=>(∃F A w K B c1 L C c2 N D c3,bh=aM (dq #[dC #[aE next,aE l,aE b,I F A w,I K B c1,I L C c2,I N D c3],.nilIface])/\dv m (I F A w) (I K B c1) (I L C c2) (I N D c3)/\Z t cb m)\/Q/\∃q,bh=aM (dq #[dC #[aE 0,aE 0,aE 0,az,az,az,az],eD q])/\Af m q/\Z t cb m/\E m)(hO:∀W1 cc v0 v1 v2 v3,dv W1 v0 v1 v2 v3->Z ay W1 cc->cY aZ 51 #[aA s.aI,dC #[v0,v1,v2,v3]] cc λbh m=>∃F A w K B c1 L C c2 N D c3 ev,bh=aM (dq #[dC #[I F A w,I K B c1,I L C c2,I N D c3],ev])/\((ev=.nilIface/\cT m (I F A w) (I K B c1) (I L C c2) (I N D c3))\/(Q/\∃q,ev=eD q/\Af m q/\E m))/\Z t cc m)(hS:∀cc u0 u1 u2 u3,cT cc u0 u1 u2 u3->∀W',Z (λq=>q=a) cc W'->cT W' u0 u1 u2 u3/\cY aZ 52 #[aA s.aI] W' λbh m=>∃dT u,bh=aM (I dT nf u)/\Z ay W' m):cY aZ 24 #[aA a] cb λbh m=>(bh=aM .nilIface/\∃u0 u1 u2 u3,cS m a (s.wA u0 u1 u2 u3 next l b<|decide<|0<nf) cd/\cT m u0 u1 u2 u3/\Z (λq=>t q\/q=a) cb m)\/Q/\∃q,bh=aM (eD q)/\Af m q/\E m/\Z (λq=>t q\/q=a) cb m:=by
 have cv:=ak h;have k2:=cS.cellAt h 2 rfl;obtain⟨HH,HF,HO,HS,HE⟩:=iO h br hO hS hE;clear h br hO hS hE;go_in
 go_wp2_with fail
 apply hL.mono;rintro bh d(⟨F,A,w,K,B,c1,L,C,c2,N,D,c3,rfl,bs,x⟩|⟨hX,q,rfl,hq,x,bv⟩);rotate_left;(.obtain⟨HQ,cl,ch⟩:=dz hq x bv;clear hq x hL bv;go_wp2;go_ret;exact .inr ⟨hX,q,rfl,HQ.aj (cF ay d) cL,HE _ _ ch<|(cF ay d).mono cL,(cl.mono<|λ_ u=>.inl<|.inl u).alloc _⟩);obtain⟨i,al⟩:∃i,cN d (aw #[aE next,aE l,aE b,I F A w,I K B c1,I L C c2,I N D c3] 127)=i:=⟨_,rfl⟩;have W:Z ay d i:=by rw[<-al];exact(cF ay d)
 have e:i.heap[z<|G d]?=H (aw #[aE next,aE l,aE b,I F A w,I K B c1,I L C c2,I N D c3] 127 (0,0)):=by rw[<-al];exact aJ _ rfl
 have bd:Z t cb i:=x.cz W;have V:cS i a s cd:=(bd.block a cv cs).trans HH;have dr:=x.size;obtain⟨cn,bm,cj,cm,ac,p⟩:=lf al W bs bd V e;clear bs x bd V e al W hL;go_wp2_with fail
 rw[J cn];rename_i KK aV;have V:=J ac;have e:=J p;have bb:aW i.drew (R a 2)=H (aA s.aI)/\aW i.drew (R (z<|G d) 3)=H (I F A w)/\aW i.drew (R (z<|G d) 4)=H (I K B c1)/\aW i.drew (R (z<|G d) 5)=H (I L C c2)/\aW i.drew (R (z<|G d) 6)=H (I N D c3):=⟨V.cell rfl,by show aW i _=_;rw[cg e];rfl,by show aW i _=_;rw[cg e];rfl,by show aW i _=_;rw[cg e];rfl,by show aW i _=_;rw[cg e];rfl⟩;clear V e;have ck:=U (show∀Q:Y,(∀q,q=a\/q=z (G d)->Q.heap[q]?=i.heap[q]?)->aW Q (R a 2)=H (aA s.aI)/\aW Q (R (z<|G d) 3)=H (I F A w)/\aW Q (R (z<|G d) 4)=H (I K B c1)/\aW Q (R (z<|G d) 5)=H (I L C c2)/\aW Q (R (z<|G d) 6)=H (I N D c3)fromλQ hX=>by have hb:cS Q a s cd:=(hX a<|.inl rfl).trans ac;have hs:=(hX _<|.inr rfl).trans p;exact⟨hb.cell rfl,by rw[cg hs];rfl,by rw[cg hs];rfl,by rw[cg hs];rfl,by rw[cg hs];rfl⟩);refine dR (λ(Q:Y)=>aW Q (R a 2)=H (aA s.aI)/\aW Q (R (z<|G d) 3)=H (I F A w)/\aW Q (R (z<|G d) 4)=H (I K B c1)/\aW Q (R (z<|G d) 5)=H (I L C c2)/\aW Q (R (z<|G d) 6)=H (I N D c3)) 14 (by kernel_rfl) ?_;refine fh 0 ?_;iterate 7 (refine iz (v:=?_) bb rfl (by kernel_rfl) lk rfl ?_ ?_;rotate_left;(focus(rintro Q⟨z2,y3,y4,y5,y6⟩;go_simp;try rfl));simp only[Act.put,dW,Nat.reduceAdd])
 apply ii;refine bj (i:=7) rfl rfl (by kernel_rfl) ?_;intro K7 aU;go_simp;apply(HO d i.drew _ _ _ _ cj<|bm.cz<|cZ ay i).mono;rintro bh w3⟨z0,l0,d0,z1,l1,d1,z2,l2,d2,z3,l3,d3,ev,rfl,cu,bf⟩;have n:Z t i w3:=(cZ t i).trans bf<|λ_ u=>.inl u;have cE:=ak p
 have f:∀q,q=a\/q=z (G d)->w3.heap[q]?=i.heap[q]?:=λq hq=>n.block q (by have:=ak ac;rcases hq with u|u<;>omega) (λu=>by
  rcases hq with dx|dx
  .grind
  .have:=HF q u;omega)
 have ad:=ck w3 f;refine aU _ _ (λ_=>ad) ?_;try simp only[Act.put,dW]
 refine fh 8 ?_;iterate 5 (refine iz (v:=?_) ad rfl (by kernel_rfl) lk rfl ?_ ?_;rotate_left;(focus(rintro Q⟨z2,y3,y4,y5,y6⟩;go_simp;try rfl));simp only[Act.put,dW,Nat.reduceAdd])
 apply ii;refine bj (i:=13) rfl rfl (by kernel_rfl) ?_;intro db O;have j:cS w3 a s cd:=(f a<|.inl rfl).trans ac;have fz:∀ce,w3.frozen? (R a ce)=aX:=λce=>j.free;have bn:=cS.cellAt j 10 rfl;have bo:=cS.cellAt j 11 rfl;have bp:=cS.cellAt j 12 rfl;have bq:=cS.cellAt j 13 rfl;go_simp;obtain⟨o,S⟩:∃o,cq (cq (cq (cq w3 (R a 10)<|I z0 l0 d0) (R a 11)<|I z1 l1 d1) (R a 12)<|I z2 l2 d2) (R a 13) (I z3 l3 d3)=o:=⟨_,rfl⟩;have k:cS o a {s with l0:=I z0 l0 d0,l1:=I z1 l1 d1,l2:=I z2 l2 d2,l3:=I z3 l3 d3} cd:=by rw[<-S];exact(aH<|aH<|aH<|aH j).trans rfl
 have g:Z (λq=>q=a) w3 o:=by rw[<-S];exact(((gZ a w3).setCell a 11 _<|.inl rfl).setCell a 12 _<|.inl rfl).setCell a 13 _<|.inl rfl
 have c:o.heap[z<|G d]?=H (aw #[aE next,aE l,aE b,I F A w,I K B c1,I L C c2,I N D c3] 127 (0,0)):=(g.block _ (by have:=n.size;omega)<|by omega).trans<|(f _<|.inr rfl).trans p;rw[S];have ba:aW o (R a 2)=H (aA s.aI)/\aW o (R (z<|G d) 3)=H (I F A w)/\aW o (R (z<|G d) 4)=H (I K B c1)/\aW o (R (z<|G d) 5)=H (I L C c2)/\aW o (R (z<|G d) 6)=H (I N D c3):=⟨k.cell rfl,by rw[cg c];rfl,by rw[cg c];rfl,by rw[cg c];rfl,by rw[cg c];rfl⟩;refine O _ _ (λ_=>ba) ?_;try simp only[Act.put,dW]
 refine bj (i:=14) rfl rfl (by kernel_rfl) ?_;intro dc P;go_simp;refine P _ _ FQ ?_;refine eS (by kernel_rfl) ?_ _;show KK _ _;apply aV;have s0:=cellAt c 0 rfl;have s1:=cellAt c 1 rfl;have s2:=cellAt c 2 rfl;have v9:=cS.cellAt k 9 rfl;have cw:=cS.cellAt k 14 rfl;have cx:=cS.cellAt k 17 rfl;have cr:∀ce,o.frozen? (R a ce)=aX:=λce=>k.free;have cM:z (G d)≠a:=by omega
 have dn:=ak k;have dm:=ak c;have r:Z (λq=>t q\/q=a) cb o:=((cm.mono (T:=λq=>t q\/q=a)<|λ_ u=>.inl<|.inl u).trans n<|λ_ u=>.inl<|.inl u).trans g<|λ_ u=>.inl<|.inr u;rcases cu with⟨rfl,bt⟩|⟨hX,q,rfl,hq,bx⟩;rotate_left;(.obtain⟨HQ,aF,ch⟩:=dz (hq.aj g j.sep) r<|HE _ _ bx g;clear aV aU O P ba ad bb j k g c fz bn bo bp bq f n bf S r k2 hq bx;go_wp2;go_ret;exact .inr ⟨hX,q,rfl,HQ,ch,aF⟩);obtain⟨bl,cf,au,aF⟩:=fY (HS w3 _ _ _ _ bt) k g r;clear aV aU O P ba ad bb j k g c fz bn bo bp bq f n bf bt S r k2;go_wp2_with fail
 rename_i cp ax;apply Gm cp;(.intro ch;(go_region);all_goals exact ch);refine ax _ _ ?_;clear ax;obtain⟨W6,an⟩:∃W6,(cq (cq (cq o (R a 14)<|aE next) (R a 17)<|aE l) (R a 9)<|aE b).drew=W6:=⟨_,rfl⟩;have aa:Z (λq=>q=a) o W6:=by rw[<-an];exact(((gZ a o).setCell a 17 _<|.inl rfl).setCell a 9 _<|.inl rfl).trans (cZ (λq=>q=a) _)<|λ_ u=>.inl u
 have bc:cS W6 a (s.wA (I z0 l0 d0) (I z1 l1 d1) (I z2 l2 d2) (I z3 l3 d3) next l b s.iT) cd:=by rw[<-an];exact Eq.trans (show _=_ from aH<|aH<|aH cf) rfl
 have bL:=bl W6<|au.trans aa<|λ_ u=>.inl u;have r2:=cS.cellAt bc 2 rfl;have bE:=bL.2;obtain⟨bi,av,co⟩:=dz bc aa an;clear bc aa an bL s0 s1 s2 v9 cw cx cr;rw[J co];go_wp2_with fail
 apply bE.mono;rintro bh w7⟨x7,c7,rfl,ap⟩;have ao:cS w7 a (s.wA (I z0 l0 d0) (I z1 l1 d1) (I z2 l2 d2) (I z3 l3 d3) next l b s.iT) cd:=(ap.block a (ak bi) id).trans bi;have ds:=cS.cellAt ao 21 rfl;have dk:w7.frozen? (R a 21)=aX:=ao.free;have bg:Z (λq=>q=a) w7 (cq w7 (R a 21)<|aN<|decide<|0<nf):=(gZ a w7);have bu:cS (cq w7 (R a 21)<|aN<|decide<|0<nf) a (s.wA (I z0 l0 d0) (I z1 l1 d1) (I z2 l2 d2) (I z3 l3 d3) next l b<|decide<|0<nf) cd:=(aH ao).trans rfl;have aD:=((au.trans av<|λ_ u=>.inl u).cz ap).trans bg<|λ_ u=>.inl u;have bT:=(bl _ aD).1;have ca:Z (λq=>t q\/q=a) cb (cq w7 (R a 21)<|aN<|decide<|0<nf):=((aF.trans av<|λ_ u=>.inl<|.inr u).cz ap).trans bg<|λ_ u=>.inl<|.inr u;have bk:=U<|And.intro bu (And.intro bT ca);have cB:decide ((0:X)<(nf:X))=decide (0<nf):=by simp
 clear ao bg bu aD bT ca ap bE;go_wp2;go_ret;exact .inl ⟨rfl,I z0 l0 d0,I z1 l1 d1,I z2 l2 d2,I z3 l3 d3,bk⟩
def M4(w c:Y)(b:M)(K:DK)(e:Ending):Prop:=∃a,pJ w c b K a/\vq K a/\(∀k,a.aO b k->K.aO b k)/\(e=aM .nilIface\/0<K.fx.bd/\∃q,e=aM (eD q)/\lP c q 8)
def Le(h:cS a b o k)(f:cG a o.aI i)(N:Pow a)(B:o.log<18446744073709551616)(L:dh (vw i.files) (fa o.log)=none):cY aZ 25 #[aA b] a λw D=>M4 a D o.aI i w:=by
 have d:=yQ o.log B N;have S:=cS.cellAt h 17 rfl
 have s:∀W,Z ay a W->aW W (R b 2)=H (aA o.aI)/\pJ a W o.aI i i/\cY aZ 54 #[aA o.aI,am<|fa o.log] W λw D=>L0 W D o.aI i w:=λW x=>
  ⟨cS.cell ((x.block b (ak h) id).trans h) rfl,(pJ.refl f).still x,GX (db:=o.aI) (K:=i) (fa o.log) (w:=W) (f.aj x<|λ_ _=>id) L<|zN B⟩
 clear h f N L B;generalize fa o.log=u at*;go_in
 go_wp2_with fail
 apply d.mono;rintro w O⟨rfl,n⟩;have t:Z ay a O:=Z.aR n;obtain⟨V,r,C⟩:=s O t;have v:=U r;clear s t n d r;go_wp2_with fail
 apply C.mono;rintro w E⟨K,q,T,e,j,g,rfl,m,P⟩;have c:aW E (R q 1)=H (ar T):=by obtain⟨u,m,_⟩:=m;exact cellAt m 1 rfl
 have l:=U<|And.intro (v.trans e) (And.intro j g);rcases P with rfl|⟨rfl,p⟩;(.have A:=Qk q 10 E c;clear m c e j g C;(go_wp2_with fail);apply A.mono;rintro w F⟨rfl,Q⟩;subst F;go_wp2;go_ret;exact⟨K,l.1,l.2.1,l.2.2,.inl rfl⟩);have A:=AV q 8 10 (by decide) E c;have x:=U<|And.intro p m;clear m c e j g C p;(go_wp2_with fail);apply A.mono;rintro w F⟨rfl,Q⟩;subst F;go_wp2;go_ret;exact⟨K,l.1,l.2.1,l.2.2,.inr ⟨x.1,q,rfl,x.2⟩⟩
