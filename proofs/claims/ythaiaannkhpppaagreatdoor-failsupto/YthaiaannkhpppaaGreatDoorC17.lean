import Derived.Deep.CutBlock
import Derived.Deep.DeepCutAuto
import Derived.Deep.Slices
import Derived.LaidHandle
import Derived.LaidSub
import Derived.Lib.LaidTab
import Derived.Test.YthaiaannkhpppaaGreatDoorRows
import Derived.Test.YthaiaannkhpppaaGreatDoorC15
open _root_ renaming List.length→y,Option.some→H,Array.size→z,Go.World.heap→G,Go.Value.ownBlock→cK,Go.World.cell?→aW,Go.World.setCell→cq,Go.World.alloc→cN,Bool.false→aX,Bool.true→ci,Nat→M,Int→X,List→cJ,Go.Calls→cY,Go.undef→iH,Go.Proofs.Tryz.prog→aZ,Go.Value.slice→I,Go.Value.string→am,Go.Value.bool→aN,Go.Value.pointer→cX,Go.Value.tuple→dq,Go.Value.agg→dC
namespace Go.Proofs.YthaiaannkhpppaaGreatDoor
open ChangeShapes WideShapes RowKit Proofs.Tryz List
set_option maxHeartbeats 16000000
set_option linter.all false
set_option maxRecDepth 100000
variable{a f:Y}{b c g m:M}{d:ab}{k N:X}{Q:Prop}
theorem Rr{E:M}{k:dS}{l:kD}{w:X}(v:PR E k)(A:wN (k.map<|jT w) l)(h r:ae)(f:X):KJ w h r f k=Py l h r f:=by
 have u:∀B∈k.map (fZ h),gJ B:=λB q=>by obtain⟨s,x,rfl⟩:=bR.1 q;exact(v.row s x).sub eW
 have t:jU (k.map<|fZ h):=by unfold jU;rw[ki];exact v.pB.imp λ{B s}q x h f k D=>q x (dL.1 h).1 f (dL.1 k).1 D
 exact Ps A (λk D q=>Yh q) h r f (mM (nP u t) w)<|YB v.row v.pB h w
theorem GP(t:X)(h:ae):∀(f:cJ (ab×cR)),(∀r∈f.map (·.2),gJ r)->wQ t h f=sa ((f.map (·.2)).map<|jT t) h
 |[],_=>rfl
 |r::f,k=>by
  have u:=GP t h f (λx q=>k x<|by grind);unfold wQ sa at*;grind[Ti]
theorem Mu{D:M}{s:SR}{m:cR}{a b c d:cW}{l:kD}{A:X}(t:PR D (m::bU a b c d))(u:wN ((m::bU a b c d).map<|jT A) l)(k:ae):OS k A (oz s m a b c d)=dq #[am (AY l k).1,aN (AY l k).2.1,ui (AY l k).2.2]:=by
 unfold OS;by_cases h:1<=k.size/\k.size<=8;have r:AY l k=((oO l k).1,(oO l k).2,0):=dF (by omega);rw[dH h,r,GP _ _ _ (by rw[qL];exact t.row),qL,TD u k];unfold seen;rcases hq:sa ((m::bU a b c d).map<|jT A) k with _|B;rfl;(have v:B.Good:=by obtain⟨E,w,x⟩:=bC.1<|Qn hq;obtain⟨q,f,rfl⟩:=bR.1 w;exact t.iP B<|bC.2 ⟨q,f,Aa (t.row q f) x⟩);rcases hd:B.del with _|_;simp[Yl,hd];rfl;simp[Yl,hd,v.del hd];rfl;have r:AY l k=(⟨#[]⟩,aX,3):=dH (by omega);rw[dF h,r]
theorem GN(k v:ae)(l:kD):∀f:kD,l.foldl (fN k v) (f,ci)=(f++l.filter (λh=>!decide (h.1=k)),ci):=by
 induction l with
 |nil=>intro f;simp
 |cons h l q=>
  grind[GI,GH]
theorem Ux(l:kD)(k v f:ae):ug l k v ci=ug l k f ci:=by
 unfold ug oM;rw[GN,GN];simp
theorem Ys{r:dS}(h:X)(f:oa):∀{m:cR}{l:kD},xx m->wN (m::r) l->wN (ia m (f.map<|jS h)::r) (yx l f):=by
 induction f with
 |nil=>intro m l _ t;exact t
 |cons c f v=>
  intro m l q t;have k:=Wv q t<|jS h c;have u:ug l (jS h c).key (jS h c).val (jS h c).del=ug l c.key c.val c.del:=by
   unfold jS;grind[Ux]
  rw[u]at k;exact v (xx.ia q [jS h c]) k
def ph(h:kD)(f:oa):kD:=if ga f=0 then yx h f else h
section
variable{w0 W j:Y}{db sbqq:M}{mem e:X}{Cl n:eV}{s:SR}{K K':DK}{m:cR}{a b c d:cW}{C C' tbqq N N':M}{lsqq:dS}{l l':kD}{g z':Prop}{nx o:M}{i:Bool}{p:X}{cl:Bool}
theorem It(h:kD)(f:oa)(k:y h<=C):y (ph h f)<=C+kX f:=by
 unfold ph kX;by_cases q:ga f=0;rw[dH q,dH q];have:=zU h f;omega;grind
theorem FI{s:SR}{K:DK}{m:cR}{a b c d:cW}{tbqq:M}{lsqq:dS}{r:gz}{u:kD}(h:Inv W sbqq s K m a b c d C tbqq N lsqq r)(x:wN ((m::bU a b c d).map<|jT s.aS) u)(f:oa):(xw (ph u f)/\∀k v,(k,v)∈ph u f↔xN r m (bU a b c d) ((s.aS:X)+1) f (vK s.aS f) k=H v)/\∀E,E∈rf r->∀q,xN r m (bU a b c d) ((s.aS:X)+1) f E q=eQ E (m::bU a b c d) q:=by
 unfold ph xN vK;by_cases q:ga f=0;rw[dH q,dH q,dH q];obtain⟨_,Q,S⟩:=uG q;have L:=h.bn;have O:=h.kK;(have A:∀F∈f.map (jS<|(s.aS:X)+1),F.Good:=λF D=>by grind[Fm]);(have w:∀F∈f.map (jS<|(s.aS:X)+1),F.bO=(s.aS:X)+1:=λF D=>by obtain⟨P,T,rfl⟩:=bR.1 D;rfl);refine⟨?_,λE B k=>by rw[dH q];exact h.Vb A w B k⟩;have t:=Ys ((s.aS:X)+1) f (mM h.row _) x;rcases f with _|⟨p,f⟩;refine⟨t.1,λk v=>?_⟩;rw[t.2 k v];show _↔eQ s.aS (gV r m []::bU a b c d) k=H v;rw[<-h.BU (.inr rfl) k];rfl;refine⟨t.1,λk v=>?_⟩;rw[t.2 k v];show _↔eQ ((s.aS+1:M):X) (gV r m _::bU a b c d) k=H v;rw[show((s.aS+1:M):X)=(s.aS:X)+1 by omega,h.Ve A w k];rw[dF q,dF q,dF q];exact⟨x,λE B k=>by rw[dF q]⟩
def QB(f:RS)(l:kD):Prop:=xw l/\∀k v,(k,v)∈l↔f k=H v
theorem CW.read(h:CW w0 W s.aI sbqq mem e Cl s K m a b c d C tbqq N lsqq l g)(t:Ni W j sbqq s K m a b c d C):Z (sP w0 Cl) W j/\uc w0 j s.aI sbqq mem e Cl C N l g:=by
 obtain⟨K',k,u,v,r,f⟩:=h.inv.reads (ak h.GG) t;exact⟨h.ZH k.dm,s,K',m,a,b,c,d,tbqq,lsqq,h.nW k.dm (λ_ q=>q) r h.yA f h.tid h.Bi h.len⟩
theorem CW.wrote{C' N' k:M}{l':kD}{u:X->ae->Option ae}(Q:CW w0 W s.aI sbqq mem e Cl s K m a b c d C tbqq N lsqq l g)(hP:j7 W j sbqq s 0 K C' N' [] k u)(hl:y l'<=C')(v:xw l'/\∀t w,(t,w)∈l'↔u k t=H w):Z (sP w0 Cl) W j/\uc w0 j s.aI sbqq mem e Cl C' N' l' g:=by
 obtain⟨s',K',m',x,A,B,D,r,h,f⟩:=hP;obtain⟨E,F,L,O,g5,P⟩:=f.same;obtain⟨S,h2,T,V⟩:=Q.yA;refine⟨Q.ZH f.fj.dm,s',K',m',x,A,B,D,r,h,Q.nW f.fj.dm (λt q=>P▸q) f.box ⟨F.trans S,E,L.trans T,O.trans V⟩ f.inv f.tid ⟨v.1,λt w=>?_⟩ hl⟩;rw[v.2 t w,<-f.sG k (.inr rfl) t,f.Di];rfl
structure CD(w0 W:Y)(db:M)(mem kG:X)(Cl:eV)(K:DK)(C N:M)(l:kD)(g:Prop):Prop where
 aI:cG W db K
 oN:∃Rqq,xy (vw K.files) mem kG C N Rqq/\QB Rqq l
 kK:C<=1000000
 zF:N<=100000000
 len:y l<=C
 aj:Z ay w0 W
 low:∀k,K.aO db k->z (G w0)<=k
 cl:∀k,Cl k->¬K.aO db k/\z (G w0)<=k/\k<z (G W)
 g0:Steps w0/\Pow w0/\kB w0
 rm:K.fx.room<1000000000
 qt:g->K.fx.bd=0
def Br(w0 W:Y)(db:M)(mem e:X)(Cl:eV)(C N:M)(l:kD)(g:Prop):Prop:=∃K,CD w0 W db mem e Cl K C N l g
theorem CD.ij{S:eV}(h:CD w0 W db mem e Cl K C N l g)(f:Z S W j)(r:∀x,S x->z (G w0)<=x/\¬K.aO db x)(t:∀k,n k->Cl k\/z (G W)<=k/\k<z (G j)):CD w0 j db mem e n K C N l g:=by
 refine{h with aI:=h.aI.aj f<|λk q u=>(r k u).2 q,aj:=h.aj.trans f<|λk q=>.inr (r k q).1,cl:=λk q=>?_};rcases t k q with q|q;exact⟨(h.cl k q).1,(h.cl k q).2.1,ag (h.cl k q).2.2 f.size⟩;exact⟨λc=>by have:=h.aI.lt k c;omega,aC h.aj.size q.1,q.2⟩
theorem Br.ij{S:eV}(h:Br w0 W db mem e Cl C N l g)(t:Z S W j)(f:∀x,S x->Cl x)(r:∀k,n k->Cl k\/z (G W)<=k/\k<z (G j)):Br w0 j db mem e n C N l g:=by
 obtain⟨K,h⟩:=h;exact⟨K,h.ij t (λx q=>⟨(h.cl x<|f x q).2.1,(h.cl x<|f x q).1⟩) r⟩
theorem Br.still(h:Br w0 W db mem e Cl C N l g)(f:Z ay W j):Br w0 j db mem e Cl C N l g:=h.ij f cL<|λ_ q=>.inl q
theorem Br.sN(h:Br w0 W db mem e Cl C N l g):kB W:=by
 obtain⟨K,h⟩:=h;exact h.g0.2.2.aj h.aj id
theorem Br.aj(h:Br w0 W db mem e Cl C N l g):Z ay w0 W:=by
 obtain⟨K,h⟩:=h;exact h.aj
theorem Br.mono(h:Br w0 W db mem e Cl C N l g)(v:C<=C')(t:C'<=1000000)(D:N<=N')(u:N'<=100000000)(E:z'->g):Br w0 W db mem e Cl C' N' l z':=by
 obtain⟨K,h⟩:=h;obtain⟨r,w,A⟩:=h.oN;exact⟨K,{h with oN:=⟨r,w.mono v D,A⟩,kK:=t,zF:=u,len:=aC h.len v,qt:=λq=>h.qt (E q)}⟩
theorem Br.ie(q:Br w0 W db mem e Cl C N l g):∃h k,W.heap[db]?=H (aw h 62 k):=by
 obtain⟨K,q⟩:=q;exact⟨_,_,q.aI.ie⟩
structure KW(w0 W:Y)(db sb:M)(Cl:eV)(K:DK)(c:X)(cl:Bool):Prop where
 box:∃s q,lQ W sb s 0 q/\lP W q c/\s.closed=cl
 low:z (G w0)<=sb
 FH:¬K.aO db sb/\¬Cl sb
def Gw(w0 W:Y)(db sbqq:M)(mem e:X)(Cl:eV)(C N:M)(l:kD)(c:X)(cl:Bool):Prop:=∃K,CD w0 W db mem e Cl K C N l False/\KW w0 W db sbqq Cl K c cl
theorem Gw.cd(h:Gw w0 W db sbqq mem e Cl C N l p cl):Br w0 W db mem e Cl C N l False:=by
 obtain⟨K,h,_⟩:=h;exact⟨K,h⟩
theorem Gw.ij{S:eV}{p:X}{cl:Bool}(u:Gw w0 W db sbqq mem e Cl C N l p cl)(t:Z S W j)(h:∀x,S x->Cl x/\∃A E B,W.heap[x]?=H (aw A E B)/\E≠201)(v:∀k,n k->Cl k\/z (G W)<=k/\k<z (G j)):Gw w0 j db sbqq mem e n C N l p cl:=by
 obtain⟨K,u,f⟩:=u;obtain⟨s,q,w,D,F⟩:=f.box;refine⟨K,u.ij t (λx q=>⟨(u.cl x (h x q).1).2.1,(u.cl x (h x q).1).1⟩) v,⟨s,q,w.aj t<|λr=>f.FH.2 (h _ r).1,D.Qc t<|λk r=>(h k r).2,F⟩,f.low,f.FH.1,λr=>?_⟩;rcases v _ r with r|r;exact f.FH.2 r;have:=ak w;omega
theorem Gw.still{p:X}{cl:Bool}(h:Gw w0 W db sbqq mem e Cl C N l p cl)(f:Z ay W j):Gw w0 j db sbqq mem e Cl C N l p cl:=h.ij f cL<|λ_ q=>.inl q
theorem Gw.sN{p:X}{cl:Bool}(h:Gw w0 W db sbqq mem e Cl C N l p cl):kB W:=h.cd.sN
structure CL(w0 W:Y)(db:M)(mem kG:X)(Cl:eV)(K:DK)(C N:M)(l:kD)(g:Prop):Prop extends CD w0 W db mem kG Cl K C N l g where
 laid:∃Rqq nx o tb a b c d ez ls,ub W db mem kG K C N Rqq nx o tb a b c d ez ls/\QB Rqq l
def PH(w0 W:Y)(db:M)(mem e:X)(Cl:eV)(C N:M)(l:kD)(g:Prop):Prop:=∃K,CL w0 W db mem e Cl K C N l g
theorem PH.cd(h:PH w0 W db mem e Cl C N l g):Br w0 W db mem e Cl C N l g:=by
 obtain⟨K,h⟩:=h;exact⟨K,h.toCD⟩
theorem PH.ij{S:eV}(h:PH w0 W db mem e Cl C N l g)(r:Z S W j)(u:∀x,S x->Cl x)(v:∀k,n k->Cl k\/z (G W)<=k/\k<z (G j)):PH w0 j db mem e n C N l g:=by
 obtain⟨K,h⟩:=h;have w:=h.g0.1.lt;have A:=h.g0.2.1.lt;have f:∀x,S x->z (G w0)<=x:=λx q=>(h.cl x<|u x q).2.1;obtain⟨t,nx,o,tbqq,a,b,c,d,i,lsqq,hL,B⟩:=h.laid;exact⟨K,h.toCD.ij r (λx q=>⟨f x q,(h.cl x<|u x q).1⟩) v,t,nx,o,tbqq,a,b,c,d,i,lsqq,{hL with aI:=hL.aI.aj r<|λk q w=>(h.cl k<|u k w).1 q,steps:=Steps.aj hL.steps r (λq=>by have:=f _ q;omega),pow:=hL.pow.aj r (λq=>by have:=f _ q;omega)},B⟩
theorem PH.still(h:PH w0 W db mem e Cl C N l g)(f:Z ay W j):PH w0 j db mem e Cl C N l g:=h.ij f cL<|λ_ q=>.inl q
theorem ZO(h:uc w0 W db sbqq mem e Cl C N l g)(f:ae)(v:f.size<=140737488351232):cY aZ 14 #[aA sbqq,am f] W λk j=>(k=aM (dq #[am (AY l f).1,aN (AY l f).2.1,ui (AY l f).2.2])\/¬g/\∃q,k=aM (gE<|eD q)/\lP j q 8)/\Z (sP w0 Cl) W j/\uc w0 j db sbqq mem e Cl C N l g:=by
 obtain⟨s,K,m,a,b,c,d,tbqq,lsqq,h⟩:=h;have k:=h.yA.2.1;subst k;apply(Mr f h.GG h.inv.st h.yA.1 v).mono;rintro k j⟨r,u⟩;refine⟨?_,h.read u⟩;rcases r with rfl|⟨w,q,rfl,t⟩;left;rw[Mu h.inv.all h.Bi];exact .inr ⟨λf=>by have:=h.qt f;omega,q,rfl,t⟩
theorem Qs(h:uc w0 W db sbqq mem e Cl C N l g)(t r:ae)(f:X):cY aZ 38 #[aA sbqq,am t,am r,ar f] W λu j=>((∃k,u=aM (dq #[k,.nilIface])/\TU W j k (Py l t r f))\/¬g/\∃q,u=aM (dq #[az,eD q])/\lP j q 8)/\Z (sP w0 Cl) W j/\uc w0 j db sbqq mem e Cl C N l g:=by
 obtain⟨s,K,m,a,b,c,d,tbqq,lsqq,h⟩:=h;have u:=h.yA.2.1;subst u;apply(Rq t r f h.GG h.inv.st h.yA.1).mono;rintro u j⟨w,A⟩;refine⟨?_,h.read A⟩;rcases w with⟨k,rfl,v⟩|⟨B,q,rfl,x⟩;rw[Rr h.inv.all h.Bi]at v;exact .inl ⟨k,rfl,v⟩;exact .inr ⟨λf=>by have:=h.qt f;omega,q,rfl,x⟩
theorem VV{f:Iw}{c:X}(h:QF f c):c=8\/c=9:=h.imp (λq=>q.1)<|λq=>q.1
theorem CW.B5{C' N':M}{K':DK}{f:RS}(k:CW w0 W s.aI sbqq mem e Cl s K m a b c d C tbqq N lsqq l g)(h:fJ W j s.aI sbqq K K')(w:xy (vw K'.files) s.mem s.kG C' N' f)(x:QB f l')(v:y l'<=C')(t:C'<=1000000)(u:N'<=100000000):Z (sP w0 Cl) W j/\CD w0 j s.aI mem e Cl K' C' N' l' g:=by
 refine⟨k.ZH h.dm,h.ok,⟨f,by rw[<-k.yA.2.2.1,<-k.yA.2.2.2];exact w,x⟩,t,u,v,?_,λr q=>(h.aO r q).elim (k.low.1 r)<|λA=>aC k.aj.size A,λr q=>?_,k.g0,by rw[h.fx.room];exact k.rm,λq=>h.fx.bd<|k.qt q⟩;exact k.aj.trans h.aj<|λr q=>.inr<|q.elim (k.low.1 r) (λf=>by have:=k.low.2;omega);have:=(k.cl r q).1.nW (s':=s) h.dm<|λ_ q=>q;exact⟨this.aO,(k.cl r q).2,this.lt⟩
theorem CW.G6{C' N':M}{K':DK}{f:RS}{P:ab}(h:CW w0 W s.aI sbqq mem e Cl s K m a b c d C tbqq N lsqq l g)(hF:j6 W j sbqq s K K' P)(D:xy (vw K'.files) s.mem s.kG C' N' f)(E:QB f l')(B:y l'<=C')(x:C'<=1000000)(A:N'<=100000000):∃q c,P=eD q/\lP j q c/\(c=8\/c=9)/\Z (sP w0 Cl) W j/\Gw w0 j s.aI sbqq mem e Cl C' N' l' c aX:=by
 obtain⟨O,F,L,c,Q,r,t,u,v,S,w⟩:=hF.ex;obtain⟨k,g2⟩:=h.B5 hF.fj D E B x A;exact⟨L,c,Q,r,VV w,k,K',{g2 with qt:=λq=>q.elim},⟨O,F,t,u,v⟩,h.low.2,λq=>(hF.fj.aO sbqq q).elim h.inv.st.wR (λx=>by have:=ak h.GG;omega),λq=>(h.cl sbqq q).1.ne rfl⟩
theorem CW.Yn(h:CW w0 W db sbqq mem e Cl s K m a b c d C tbqq N lsqq l g):∀f,Z (λk=>K.aO db k\/k=sbqq) W f->kB f:=λf r=>h.g0.2.2.aj (h.aj.trans r<|λk q=>.inr<|q.elim (h.low.1 k) (λt=>by have:=h.low.2;omega)) id
theorem Wo(h:uc w0 W db sbqq mem e Cl C N l g)(P:ab)(f:oa)(k:Bool)(F:Do w0 P f)(hz:∀aa∈f,aa.key.size<=140737488351232/\aa.val.size<=140737488351232)(r:y f<=1000000000)(D:C+kX f<=1000000)(E:N+1<=100000000):cY aZ 12 #[aA sbqq,P,aN k] W λx j=>Z (sP w0 Cl) W j/\((x=aM (ui<|ga f)/\uc w0 j db sbqq mem e Cl (C+kX f) (N+1) (ph l f) g)\/ga f=0/\∃q c,x=aM (eD q)/\lP j q c/\(c=8\/c=9)/\(Gw w0 j db sbqq mem e Cl (C+kX f) (N+1) l c aX\/Gw w0 j db sbqq mem e Cl (C+kX f) (N+1) (ph l f) c aX)):=by
 obtain⟨s,K,m,a,b,c,d,tbqq,lsqq,h⟩:=h;have x:=h.yA.2.1;subst x;apply(DF [] k h.GG h.inv h.tid h.yA.1 (λf t=>F.aj (h.aj.trans t<|λu x=>.inr (by have:=h.low.2;have:u=sbqq:=x;omega))<|λ_ _=>id) hz r D E h.Yn<|.inl h.rm).mono;have v:=(FI h.inv h.Bi f).1;rintro x j(⟨rfl,s',K',m',S,T,V,d',O,L,hO,_⟩|⟨Q,ac,K',rfl,hF,r⟩);obtain⟨t,u⟩:=h.wrote ⟨s',K',m',S,T,V,d',O,L,hO⟩ (It l f h.len) v;exact⟨t,.inl ⟨rfl,u⟩⟩;rcases r with r|r;obtain⟨q,w,rfl,t,u,A,B⟩:=h.G6 hF r (l':=l) h.Bi (by have:=h.len;omega) D E;exact⟨A,.inr ⟨Q,q,w,rfl,t,u,.inl B⟩⟩;obtain⟨q,w,rfl,t,u,A,B⟩:=h.G6 hF r (l':=ph l f) v (It l f h.len) D E;exact⟨A,.inr ⟨Q,q,w,rfl,t,u,.inr B⟩⟩
theorem Pk(h:uc w0 W db sbqq mem e Cl C N l g)(v:N+1<=100000000):cY aZ 42 #[aA sbqq] W λu j=>Z (sP w0 Cl) W j/\((u=aM .nilIface/\uc w0 j db sbqq mem e Cl C (N+1) l g)\/∃q c,u=aM (eD q)/\lP j q c/\(c=8\/c=9)/\Gw w0 j db sbqq mem e Cl C (N+1) l c aX):=by
 obtain⟨s,K,m,a,b,c,d,tbqq,lsqq,h⟩:=h;have u:=h.yA.2.1;subst u;apply(Gn [] h.GG h.inv h.tid h.yA.1 v h.Yn h.rm).mono;rintro u j(⟨rfl,Q,K',P,w,x,A,D,t,r,L,_⟩|⟨S,K',rfl,hF,O⟩);obtain⟨f,k⟩:=h.wrote ⟨Q,K',P,w,x,A,D,t,r,L⟩ h.len h.Bi;exact⟨f,.inl ⟨rfl,k⟩⟩;obtain⟨q,B,rfl,f,k,E,F⟩:=h.G6 hF (O.elim id id) (l':=l) h.Bi h.len h.inv.st.kK v;exact⟨E,.inr ⟨q,B,rfl,f,k,F⟩⟩
theorem FU.none(A:FU (vw K.files) nx o tbqq a b c d i lsqq){r:cJ ae}(u:List.Perm r (K.files.map da.name)):lC o (a++b++c++d) r=[]:=by
 unfold lC;rw[gS];intro x w;have h:=u.mem_iff.1 w;rw[<-Aq]at h;obtain⟨t,k⟩:=pF h;have:nw o (a++b++c++d) x=ci:=by rcases A.names x t k with q|⟨q,_⟩|⟨B,v,q⟩;rw[q];exact DJ _ _;rw[q];exact Kr _ _;rw[q];exact Kq v
 rw[this];simp
theorem MI(h:uc w0 W db sbqq mem e Cl C N l g):cY aZ 23 #[aA sbqq] W λt j=>Z (sP w0 Cl) W j/\(∃Q V,j.heap[sbqq]?=H (aw Q 94 V))/\((t=aM .nilIface/\PH w0 j db mem e (λk=>Cl k\/k=sbqq) C N l g)\/∃q c,t=aM (eD q)/\lP j q c/\(c=8\/c=9)/\Br w0 j db mem e (λk=>Cl k\/k=sbqq) C N l g):=by
 obtain⟨s,K,m,a,b,c,d,tbqq,lsqq,h⟩:=h;have t:=h.yA.2.1;subst t;have f:=h.inv;have L:=h.kA (S:=λk=>k=sbqq) (λk t=>by have T:k=sbqq:=t;rw[T];exact h.low.2);have x:∀{aa:ab}{h f:M}{k:gW},Row W f aa h k->∃r h c,aa=I r h c:=λq=>by grind[vG]
 refine(TF h.GG h.yA.1 (x f.st.mem) (x f.st.l0.row) (x f.st.l1.row) (x f.st.l2.row) (x f.st.l3.row) f.st.aI f.st.wR f.st.kA.pow (λt=>L.2 t.symm) (by have:=f.qD.lt;have:=f.nx;have:=f.kK;omega) (λq=>⟨_,f.qD.log<|f.loose q⟩) (by have:=f.gT;have:=f.kK;omega)).mono ?_;rintro t j⟨aa,K',lb,ln,rfl,B,F,_⟩;have P:(s.fm:X)<s.mem/\PE s.kG a b c:=h.tid;have w:∀D,D<+:su s->mi D K K'->Z (sP w0 Cl) W j/\CD w0 j s.aI mem e (λk=>Cl k\/k=sbqq) K' C N l g:=λD O r=>by obtain⟨A,g2⟩:=Ja O r;obtain⟨v,k2⟩:=h.B5 B.nW (by rw[A];exact f.oN P) h.Bi h.len f.st.kK f.kK;refine⟨v,{k2 with cl:=λk q=>q.elim (k2.cl k) (λt=>?_)}⟩;rw[t];exact⟨λq=>(B.nW.aO sbqq q).elim f.st.wR (λac=>by have:=ak h.GG;omega),h.low.2,ak F⟩
 rcases B.uz with⟨rfl,r⟩|⟨D,q,p,O,r,rfl,hq,hc⟩;obtain⟨v,k2⟩:=w _ (qF _) r;obtain⟨A,g2⟩:=Ja (qF _) r;have u:=B.nW;refine⟨v,⟨_,_,F⟩,.inl ⟨rfl,K',k2,_,s.next,s.log,tbqq,a,b,c,d,s.ez,lsqq,⟨u.ok,?_,f.st.kK,f.kK,λns hn=>?_,?_,?_,?_,?_⟩,h.Bi⟩⟩;rw[A,<-h.yA.2.2.1,<-h.yA.2.2.2];exact f.z8 P f.left;(have E:FU (vw K'.files) s.next s.log tbqq a b c d s.ez lsqq:=by rw[A];exact f.qD);rw[E.none hn];have:=f.gT;simp;omega;exact Steps.aj f.st.kA.steps u.aj<|λq=>q.elim f.st.kA.fS.aO L.1;exact f.st.kA.pow.aj u.aj<|λq=>q.elim f.st.kA.ml.aO L.2;exactλq=>(u.aO _ q).elim f.st.kA.fS.aO (λac=>by have:=f.st.kA.steps.lt;omega);exactλq=>(u.aO _ q).elim f.st.kA.ml.aO (λac=>by have:=f.st.kA.pow.lt;omega);obtain⟨v,k2⟩:=w _ O r;exact⟨v,⟨_,_,F⟩,.inr ⟨q,p,rfl,hq,VV hc,K',k2⟩⟩
theorem Qx(h:PH w0 W db mem e Cl C N l g)(ho:1<=mem/\mem<=32/\2<=e/\e<=6):cY aZ 10 #[aA db,dC #[ar mem,ar e]] W λE j=>Z (sP w0 Cl) W j/\((E=aM (dq #[aA<|z (G W)+2,.nilIface])/\z (G W)+4<=z (G j)/\uc w0 j db (z (G W)+2) mem e Cl C N l g)\/∃q c,E=aM (dq #[cX none,eD q])/\lP j q c/\(c=9\/¬g/\c=8)/\Br w0 j db mem e Cl C N l g):=by
 obtain⟨K,h⟩:=h;obtain⟨u,nx,o,tbqq,a,b,c,d,i,lsqq,hL,w⟩:=h.laid;have x:=h.aj.size;have t:∀k,(K.aO db k\/k=z (G W)+2)->sP w0 Cl k\/z (G W)<=k:=λk q=>q.elim (λq=>.inl ⟨h.low k q,λc=>(h.cl k c).1 q⟩) (λE=>.inr<|by omega);apply(BQ hL ho).mono;rintro E j(⟨rfl,s,K',m',P,Q,S,T,D,B,f⟩|⟨q,rfl,K',p,hd,hr,A,L,O,hq,hc⟩);obtain⟨V,e2,e3,e4,e5,F⟩:=f.same;have v:=f.size;refine⟨f.fj.aj.mono t,.inl ⟨rfl,v,s,K',m',P,Q,S,T,D,B,f.box,⟨e2,V,e3,e4⟩,f.inv,f.tid,?_,h.len,?_,⟨λk q=>(f.aO k q).elim (h.low k) (λq=>by omega),by omega⟩,λk q=>?_,λk q=>?_,h.g0,by rw[f.fj.fx.room];exact h.rm,λq=>f.fj.fx.bd<|h.qt q⟩⟩;refine⟨w.1,λk aa=>?_⟩;rw[w.2 k aa,<-f.sG k];rfl;exact h.aj.trans f.fj.aj (λk q=>.inr<|q.elim (h.low k)<|λE=>by omega);rw[F]at q;cases q;omega;have r:=h.cl k q;refine⟨⟨⟨by omega,λc=>(f.aO k c).elim r.1 (λc=>by omega),by omega⟩,λc=>?_⟩,r.2.1⟩;rw[F]at c;cases c;omega;refine⟨A.mono<|λk q=>t k<|.inl q,.inr ⟨q,p,rfl,hq,?_,K',hd,⟨u,hr,w⟩,h.kK,h.zF,h.len,h.aj.trans A<|λk q=>.inr<|h.low k q,λk q=>(L k q).elim (h.low k)<|λF=>aC x F,λk q=>?_,h.g0,by rw[O.room];exact h.rm,λq=>O.bd<|h.qt q⟩⟩;rcases hc with⟨v,V⟩|⟨v,V⟩;exact .inr ⟨λF=>by have:=h.qt F;omega,v⟩;exact .inl v;have r:=h.cl k q;exact⟨λc=>(L k c).elim r.1 (λF=>by omega),r.2.1,ag r.2.2 A.size⟩
theorem Tj{k h:Fs}(t:(k.map (·.1)).Nodup)(r:h.Perm k)(u:ae):dh h u=dh k u:=by
 have q:(h.map (·.1)).Nodup:=(r.map _).nodup_iff.2 t;rcases h1:dh k u with _|b;rcases h2:dh h u with _|b;rfl;have:=wH t<|r.mem_iff.1<|nU h2;grind
 exact wH q (f:=(u,b))<|r.mem_iff.2<|nU h1
theorem sh.again{u r:Fs}(h:sh u nx o tbqq a b c d i lsqq)(f:∀t,dh r t=dh u t):sh r nx o tbqq a b c d i lsqq:=by
 obtain⟨L,v,w⟩:=h.Kj;exact{h with names:=λt k q=>h.names t k (by rw[<-f];exact q),Kj:=⟨L,v,λm k q=>w m k (by rw[<-f];exact q)⟩,first:=λq t k m x=>h.first (by rw[<-f];exact q) t k m (by rw[<-f];exact x),Ge:=λq=>by rw[f];exact h.Ge q,state:=by rw[f];exact h.state,log:=λq=>by rw[f];exact h.log q,oK:=λB A=>by rw[f];exact h.oK B A}
theorem Yx(h:Br w0 W db mem e Cl C N l g):cY aZ 15 #[aA db] W λV j=>∃u,V=aM (aA u)/\Z ay W j/\PH w0 j u mem e Cl C N l True:=by
 obtain⟨K,h⟩:=h;have r:=h.aI.nodup;apply(Wu h.aI r).mono;rintro V j⟨u,K',rfl,w,P,L,v,t,B,_,_⟩;obtain⟨f,⟨nx,o,tbqq,a,b,c,d,i,lsqq,hr⟩,A⟩:=h.oN;have hz:=t.size;have T:=h.aj.size;have S:=h.g0.1.lt;have Q:=h.g0.2.1.lt;have k:YL (vw K'.files) mem e C N f nx o tbqq a b c d i lsqq:={hr with qD:=hr.qD.again (λh=>Tj r P h)};refine⟨u,rfl,t,K',⟨w,⟨f,⟨nx,o,tbqq,a,b,c,d,i,lsqq,k⟩,A⟩,h.kK,h.zF,h.len,h.aj.cz t,λx q=>by have:=v x q;omega,λx q=>⟨λc=>?_,(h.cl x q).2.1,by have:=(h.cl x q).2.2;omega⟩,h.g0,by rw[B];exact h.rm,λ_=>by rw[B]⟩,f,nx,o,tbqq,a,b,c,d,i,lsqq,⟨w,k,h.kK,h.zF,λD O=>?_,Steps.aj (Steps.aj h.g0.1 h.aj id) t id,(h.g0.2.1.aj h.aj id).aj t id,λq=>by have:=v _ q;omega,λq=>by have:=v _ q;omega⟩,A⟩;have:=v x c;have:=(h.cl x q).2.2;omega;have h1:y (lC o (a++b++c++d) D)<=y D:=ep _ _;have E:=O.length_eq;have F:=k.qD.Kj.len w.nodup;rw[dj]at E;rw[vw,dj]at F;rw[L,dG];omega
end
theorem VI:(prog.info? 112).map (λi=>(i.zero,i.size,i.bytes))=H (H az,1,24):=by kernel_rfl
def Cq(a:M)(bv c:ab)(b:gW):eV:=λk=>k=a\/cK bv=H k\/cK c=H k\/∃v∈b,cK v=H k
structure HB(n0:M)(W:Y)(a:M)(bv c:ab)(b:gW)(B:cJ oa)(l:kD)(safe:X)(d:Bool):Prop where
 box:W.heap[a]?=H (aw #[bv,ar safe,aN d,c] 35 (0,0))
 own:W.ownsRow n0 112 1 bv (y b) b
 kind:Gx W bv
 len:y b=y B
 each:∀(i:M)v cs,b[i]?=H v->B[i]?=H cs->Gv W v cs
 sA:∀v∈b,∀k,cK v=H k->n0<=k/\k<z (G W)/\k≠a/\cK bv≠H k
 pr:rU W c l
 Ln:∀k,cK c=H k->n0<=k/\k<z (G W)/\k≠a/\cK bv≠H k
 sum:B.foldl yx []=l
 ZQ:cK bv≠H a
section
variable{n0 a:M}{W e:Y}{bv c:ab}{b:gW}{B:cJ oa}{l:kD}{safe:X}{d:Bool}{S:eV}
theorem HB.lt(h:HB n0 W a bv c b B l safe d){k:M}(g:Cq a bv c b k):k<z (G W):=by
 rcases g with rfl|q|q|⟨v,i,q⟩;exact ak h.box;exact(h.own.lt k q).2;exact(h.Ln k q).2.1;exact(h.sA v i k q).2.1
theorem HB.aj(h:HB n0 W a bv c b B l safe d)(g:Z S W e)(m:∀k,Cq a bv c b k->¬S k):HB n0 e a bv c b B l safe d where
 box:=(g.block a (ak h.box)<|m a<|.inl rfl).trans h.box
 own:=g.own h.own<|λk q=>m k<|.inr<|.inl q
 kind:=h.kind.aj g (λk q=>m k<|.inr<|.inl q)<|λk q=>(h.own.lt k q).2
 len:=h.len
 each:=λi v n j o=>g.row (h.each i v n j o)<|λk q=>⟨m k<|.inr<|.inr<|.inr ⟨v,eK j,q⟩,(h.sA v (eK j) k q).2.1⟩
 sA:=λv j k q=>⟨(h.sA v j k q).1,ag (h.sA v j k q).2.1 g.size,(h.sA v j k q).2.2⟩
 pr:=g.row h.pr<|λk q=>⟨m k<|.inr<|.inr<|.inl q,(h.Ln k q).2.1⟩
 Ln:=λk q=>⟨(h.Ln k q).1,ag (h.Ln k q).2.1 g.size,(h.Ln k q).2.2⟩
 sum:=h.sum
 ZQ:=h.ZQ
theorem HB.Qc(n:HB n0 W a bv c b B l safe d){k:M}(h:k=a\/cK bv=H k):YM W k:=by
 rcases h with rfl|h;obtain⟨s,r,m⟩:=aB n.own;have o:=n.box;have g:=n.pr.shape;rw[m]at o;refine⟨_,_,_,o,by decide,.inl λu q=>?_,λq j=>?_⟩;rcases g with rfl|⟨f,p,i,rfl⟩<;>simp at q;rcases g with rfl|⟨f,p,i,rfl⟩<;>simp at j;obtain⟨r,o⟩:=fE n.own h;have g:=n.kind _ _ _ _ h o;refine⟨_,_,_,o,by decide,.inl λu q=>?_,λq j=>?_⟩;rcases g _ q with⟨f,m⟩|⟨p,f,i,m⟩<;>cases m;rcases g _ j with⟨f,m⟩|⟨p,f,i,m⟩<;>cases m
end
theorem BY{n0 a:M}{W:Y}{bv c:ab}{b:gW}{B:cJ oa}{l:kD}{safe:X}{d:Bool}(h:HB n0 W a bv c b B l safe d)(cv:ab)(t:oa)(sf:Bool)(br:Do W cv t)(hr:y l+y t<=1000000000)(hB:y B<=1000000000)(cB:n0<=z (G W)):cY aZ 18 #[aA a,cv,aN sf] W λD e=>D=aM (dq #[])/\∃u i bg,HB n0 e a u i (b++[bg]) (B++[t]) (yx l t) (if sf then((y B+1:M):X)else safe) d/\Z (λk=>k=a\/cK bv=H k) W e/\∀k,Cq a u i (b++[bg]) k->Cq a bv c b k\/z (G W)<=k:=by
 have ca:=PJ (by omega) br;have A:=U h;clear h br;go_in
 go_wp2_with fail
 apply ca.mono;rintro D E⟨v1,rfl,aF,bp⟩;have K:Z ay W E:=Z.aR bp;obtain⟨x1,c1,cp⟩:=aB aF;subst cp;have F:=A.aj K<|λ_ _=>id;have cm:=cellAt F.box 0 rfl;have cn:a<z (G E):=ak F.box;have cw:=K.size;have bd:y b=y B:=A.len;obtain⟨i0,ax,cs,cc,cd⟩:=di VI;obtain⟨bl,ck,j⟩:=dz aF K F;clear aF K F ca bp;have ac:=j.ZQ;have ad:=j.box
 go_wp2_with(first
  |(at_builtin;go_loud(refine zA _ rfl (.tmp 13) (.tmp 15) 32 rfl n0 112 i0 az 1 24 underlying32 ax cs cc cd rfl (by decide) bv (y b) b rfl (aT j.own (aw #[I x1 (y t) c1] 112)) (R (z (G E)) 0) 1 1 [I x1 (y t) c1] rfl rfl (oZ _ _ _) (by simp[Value.oneCell']) (by omega) (by omega) (by simp;omega) (by omega) (by intro cT hu;simp[Value.cells]at hu;subst hu;exact .inr ⟨_,_,_,rfl⟩) (by intro cT hu;simp at hu;subst hu;exact .inr ⟨_,_,_,rfl⟩) (j.kind.aj (cF ay E) (λ_ _=>id) (λk q=>(j.own.lt k q).2)) ?_;intro u W3 aU bf bt;obtain⟨C,c3,cr⟩:=aB aU;subst cr;have bb:=Z.fH bf;have f:=(bb.block a (by simp;omega) ac).trans (((cF ay E).block a cn id).trans ad);have k0:=cellAt f 0 rfl;have k1:=cellAt f 1 rfl;have k3:=cellAt f 3 rfl;have f0:=cP (i:=0) f;have f1:=cP (i:=1) f;have f3:=cP (i:=3) f;have ap:=U aU;have au:=U bf;have bk:=U bt;have bo:=U bb;clear aU bf bt bb)))
 obtain⟨v,r⟩:∃v,cq W3 (R a 0) (I C (y B+1) c3)=v:=⟨_,rfl⟩;rw[<-bd]at r;have n:cK (I C (y b+1) c3)≠H a:=λq=>by rcases au.vp with D|⟨cu,D,hg⟩;exact ac<|D▸q;rw[q]at D;cases D;simp at hg;omega
 have x:Z (λk=>k=a\/cK bv=H k) E v:=by rw[<-r];exact(((cF ay E).mono (T:=λk=>k=a\/cK bv=H k) cL).trans bo<|λ_ q=>.inl<|.inr q).trans (eZ W3 a 0 _)<|λ_ q=>.inl<|.inl q
 have bx:v.ownsRow n0 112 1 (I C (y b+1) c3) (y b+1) (b++[I x1 (y t) c1]):=by rw[<-r];exact(eZ W3 a 0 _).own ap<|λk hk p=>n (by rw[hk];grind)
 have bu:Gx v (I C (y b+1) c3):=by rw[<-r];exact bk.aj (eZ W3 a 0 _) (λk hk p=>n (by rw[hk];grind))<|λk hk=>(ap.lt k hk).2
 have al:v.heap[a]?=H (aw #[I C (y b+1) c3,ar safe,aN d,c] 35 (0,0)):=by rw[<-r];exact(aH f).trans rfl
 have ao:∀k,cK (I C (y b+1) c3)=H k->cK bv=H k\/z (G E)<k:=λk q=>by rcases au.vp with D|⟨cu,D,hg⟩;exact .inl<|D▸q;rw[q]at D;cases D;simp at hg;exact .inr<|by omega
 have o:∀k,cK (I x1 (y t) c1)=H k->z (G W)<=k/\k<z (G E):=λk q=>bl.lt k q;have hW:a<z (G W):=ak A.box;have w:∀k,cK bv=H k->k<z (G W):=λk q=>(A.own.lt k q).2;have aV:rU v c l:=x.row j.pr<|λk q=>⟨λp=>p.elim (j.Ln k q).2.2.1 (j.Ln k q).2.2.2,(j.Ln k q).2.1⟩;have av:Gv v (I x1 (y t) c1) t:=x.row (dJ bl)<|λk q=>⟨λp=>by have:=(o k q).1;exact p.elim (λp=>by omega) (λp=>by have:=w k p;omega),(o k q).2⟩;have cb:=x.size;have bs:=Wj t aV (λcu q=>ag (j.Ln cu q).2.1 cb) av (λcu q=>ag (o cu q).2 cb) (by omega);rw[<-bd,r];have s:=U o;obtain⟨bm,cj,bh,bn,cx,ch⟩:=lf bx bu al x aV av;have HSub:=U ao;have bi:=U w;clear r k0 k1 k3 f0 f1 f3 f ad bx bu al x aV av ao w o cm ap au bk bo;apply bs.mono;rintro D W5⟨i,rfl,ba,aD,bE,bq⟩;have L:Z ay v W5:=Z.aR bq;obtain⟨px,pn,pc,co⟩:∃x n p,i=I x n p:=by rcases ba.shape with D|⟨Q,g,N,D⟩<;>exact⟨_,_,_,D⟩
 have m:=(L.block a (by omega) id).trans bh;have k1:=cellAt m 1 rfl;have k3:=cellAt m 3 rfl;have f1:=cP (i:=1) m;have f3:=cP (i:=3) m;have an:∀Q f,Q.heap[a]?=H (aw #[I C (y b+1) c3,ar f,aN d,i] 35 (0,0))->Z (λk=>k=a) W5 Q->∃u i bg,HB n0 Q a u i (b++[bg]) (B++[t]) (yx l t) f d/\Z (λk=>k=a\/cK bv=H k) W Q/\∀k,Cq a u i (b++[bg]) k->Cq a bv c b k\/z (G W)<=k:=λQ f cl bc=>by have N:Z (λk=>k=a) v Q:=(L.mono (T:=λk=>k=a) cL).trans bc<|λ_ q=>.inl q;have ce:Z (λk=>k=a\/cK bv=H k) W Q:=((ck.mono (T:=λk=>k=a\/cK bv=H k) cL).trans bn<|λ_ q=>.inl q).trans N<|λ_ q=>.inl<|.inl q;have cE:=L.size;have cM:=bc.size;have bL:∀k,cK i=H k->cK c=H k\/z (G v)<=k:=λk q=>bE.elim (λD=>.inl<|D▸q)<|λD=>.inr<|D k q;have aa:∀k,cK (I C (y b+1) c3)=H k->k<z (G v):=λk q=>(bm.lt k q).2;(have bT:∀k,cK i=H k->n0<=k/\k<z (G Q)/\k≠a/\cK (I C (y b+1) c3)≠H k:=λk q=>by have:=aD k q;rcases bL k q with q|q;have V:=A.Ln k q;exact⟨V.1,by omega,V.2.2.1,λp=>(HSub k p).elim V.2.2.2<|λp=>by omega⟩;exact⟨by omega,by omega,by omega,λp=>by have:=aa k p;omega⟩);refine⟨I C (y b+1) c3,i,I x1 (y t) c1,⟨cl,by rw[af];exact N.own bm<|λk q p=>n (by rw[q];grind),cj.aj N (λk q p=>n (by rw[q];grind)) aa,by simp[bd],λcf bg p g hc=>?_,λbg g k q=>?_,bc.row ba<|λk q=>⟨λp=>(bT k q).2.2.1 p,aD k q⟩,bT,by rw[gK,A.sum];rfl,n⟩,ce,λk q=>?_⟩;by_cases hi:cf<y b;rw[gp hi]at g;rw[gp<|by omega]at hc;exact ce.row (A.each cf bg p g hc)<|λk q=>⟨λp=>by have:=(A.sA bg (eK g) k q).2.2;exact p.elim this.1 this.2,(A.sA bg (eK g) k q).2.1⟩;rw[eU<|by omega]at g hc;(have ax:cf-y b=0:=by rcases h0:cf-y b with _|db;rfl;rw[h0]at g;simp at g);rw[ax]at g;rw[show cf-y B=0 by omega]at hc;simp at g hc;subst g hc;exact N.row ch<|λk q=>⟨λp=>by have:=(s k q).1;have:k=a:=p;omega,by have:=(s k q).2;omega⟩;rcases aG.1 g with g|g;have V:=A.sA bg g k q;exact⟨V.1,by omega,V.2.2.1,λp=>(HSub k p).elim V.2.2.2<|λp=>by omega⟩;simp at g;subst g;have V:=s k q;exact⟨by omega,by omega,by omega,λp=>(HSub k p).elim (λp=>by have:=bi k p;omega)<|λp=>by omega⟩;rcases q with q|q|q|⟨bg,g,q⟩;exact .inl<|.inl q;exact(HSub k q).elim (λq=>.inl<|.inr<|.inl q) (λq=>.inr<|by omega);exact(bL k q).elim (λq=>.inl<|.inr<|.inr<|.inl q) (λq=>.inr<|by omega);rcases aG.1 g with g|g;exact .inl<|.inr<|.inr<|.inr ⟨bg,g,q⟩;simp at g;subst g;exact .inr (s k q).1
 have P:=U an;have O:=U m;clear an ba aD bE bq L bs m;subst co;cases sf;(.go_wp2;go_end0;exact⟨rfl,P _ safe ((aH O).trans rfl)<|eZ _ _ _ _⟩);go_wp2;go_end0;exact⟨rfl,P _ _ ((aH<|aH O).trans rfl)<|(eZ _ _ _ _).trans (eZ _ _ _ _)<|λ_ q=>.inl q⟩
structure zd where
 w:Y
 E:eV
def Ns(E:eV)(e d:M)(bv f:ab)(g:gW):eV:=λk=>k=e\/Cq d bv f g k\/E k
def C8(E:eV)(e d:M)(bv f:ab)(g:gW)(sv:ab):eV:=λk=>Ns E e d bv f g k\/sv=aA k
def PD(W:Y)(e db:M)(sv:ab)(mem a:X)(d:M):Prop:=W.heap[e]?=H (aw #[aA db,sv,ar mem,ar a,aA d] 38 (0,0))
def I8(W:Y)(db:M):Prop:=∃b h,W.heap[db]?=H (aw b 62 h)
def WZ(W:Y)(sbqq:M):Prop:=∃b h,W.heap[sbqq]?=H (aw b 94 h)
structure XH(Xqq:zd)(w0 W:Y)(e db d:M)(sv:ab)(mem kG:X)(bv f:ab)(g:gW)(B:cJ oa)(l:kD)(safe:X)(n:Bool)(N:M):Prop where
 box:PD W e db sv mem kG d
 jh:HB (z<|G w0) W d bv f g B l safe n
 j9:¬Cq d bv f g e
 CJ:1<=mem/\mem<=32/\2<=kG/\kG<=6
 num:y B<=N/\(B.map y).sum<=1000000+8*N
 ext:∀k,Xqq.E k->(∃o,Xqq.w.heap[k]?=H o)/\W.heap[k]?=Xqq.w.heap[k]?/\k≠e/\¬Cq d bv f g k
section
variable{Xqq:zd}{w0 W m:Y}{e db s sbqq d:M}{mem a:X}{bv f sv:ab}{g:gW}{B:cJ oa}{l p l':kD}{safe:X}{n r:Bool}{C C' N N':M}{j z':Prop}{c:X}{cl:Bool}
theorem XH.ZN(i:XH Xqq w0 W e db d sv mem a bv f g B l safe n N){k:M}(q:Xqq.E k):k<z (G W):=by
 obtain⟨⟨o,h⟩,b,_⟩:=i.ext k q;rw[h]at b;exact ak b
theorem XH.nW{Cl:eV}(h:XH Xqq w0 W e db d sv mem a bv f g B l safe n N)(i:Z (sP w0 Cl) W m)(b:∀k,Ns Xqq.E e d bv f g k->Cl k)(u:N<=N'):XH Xqq w0 m e db d sv mem a bv f g B l safe n N':=⟨(i.block e (ak h.box)<|λq=>q.2<|b _<|.inl rfl).trans h.box,h.jh.aj i<|λk o q=>q.2<|b _<|.inr<|.inl o,h.j9,h.CJ,by have:=h.num;omega,λk q=>⟨(h.ext k q).1,(i.block k (h.ZN q)<|λt=>t.2<|b k<|.inr<|.inr q).trans (h.ext k q).2.1,(h.ext k q).2.2⟩⟩
theorem XH.still(h:XH Xqq w0 W e db d sv mem a bv f g B l safe n N)(b:Z ay W m):XH Xqq w0 m e db d sv mem a bv f g B l safe n N:=h.nW (Cl:=λ_=>True) (b.mono cL) (λ_ _=>trivial)<|ah _
theorem XH.mono(h:XH Xqq w0 W e db d sv mem a bv f g B l safe n N)(o:N<=N'):XH Xqq w0 W e db d sv mem a bv f g B l safe n N':={h with num:=by have:=h.num;omega}
theorem XH.yq{h i:ab}{k:gW}{u:cJ oa}{b:X}(t:XH Xqq w0 W e db d sv mem a bv f g B l safe n N)(x:Z (λo=>o=d\/cK bv=H o) W m)(D:HB (z<|G w0) m d h i k u l' b r)(w:∀o,Cq d h i k o->Cq d bv f g o\/z (G W)<=o)(A:y u<=N/\(u.map y).sum<=1000000+8*N):XH Xqq w0 m e db d sv mem a h i k u l' b r N:=by
 have E:=ak t.box;exact⟨(x.block e E<|λq=>t.j9<|q.elim .inl<|λq=>.inr<|.inl q).trans t.box,D,λq=>(w e q).elim t.j9 (λq=>by omega),t.CJ,A,λo q=>⟨(t.ext o q).1,(x.block o (t.ZN q)<|λv=>(t.ext o q).2.2.2<|v.elim .inl<|λv=>.inr<|.inl v).trans (t.ext o q).2.1,(t.ext o q).2.2.1,λv=>(w o v).elim (t.ext o q).2.2.2 (λv=>by have:=t.ZN q;omega)⟩⟩
theorem XH.setCell{s:M}{b:ab}(h:XH Xqq w0 W e db d sv mem a bv f g B l safe n N){i:M}{u:ab}(k:PD (cq W (R e i) u) e s b mem a d):XH Xqq w0 (cq W (R e i) u) e s d b mem a bv f g B l safe n N:=⟨k,h.jh.aj (eZ W e i u)<|λo q v=>h.j9 (by have t:o=e:=v;exact t▸q),h.j9,h.CJ,h.num,λo q=>⟨(h.ext o q).1,((eZ W e i u).block o (h.ZN q)<|λw=>(h.ext o q).2.2.1 w).trans (h.ext o q).2.1,(h.ext o q).2.2⟩⟩
theorem XH.rH(h:XH Xqq w0 W e db d sv mem a bv f g B l safe n N)(u:ab):XH Xqq w0 (cq W (R e 1) u) e db d u mem a bv f g B l safe n N:=h.setCell<|(aH h.box).trans rfl
theorem XH.Xt(h:XH Xqq w0 W e db d sv mem a bv f g B l safe n N)(b:M):XH Xqq w0 (cq W (R e 0)<|aA b) e b d sv mem a bv f g B l safe n N:=h.setCell<|(aH h.box).trans rfl
theorem XH.Qc(t:XH Xqq w0 W e db d sv mem a bv f g B l safe n N)(h:I8 W db)(i:sv=cX none\/∃sbqq,sv=aA sbqq/\WZ W sbqq):YM W e:=by
 refine⟨_,_,_,t.box,by decide,.inl λA q=>?_,λq o=>?_⟩;rcases i with rfl|⟨sbqq,rfl,_⟩<;>simp at q;obtain⟨u,v,h⟩:=h;rcases i with rfl|⟨sbqq,rfl,w,x,i⟩;(have b:q=db\/q=d:=by simpa using o);rcases b with rfl|rfl;exact⟨_,_,_,h,by decide⟩;exact⟨_,_,_,t.jh.box,by decide⟩;(have b:q=db\/q=sbqq\/q=d:=by simpa using o);rcases b with rfl|rfl|rfl;exact⟨_,_,_,h,by decide⟩;exact⟨_,_,_,i,by decide⟩;exact⟨_,_,_,t.jh.box,by decide⟩
theorem YM.nf{o:M}(q:YM W o)(k:∀b h,W.heap[o]?≠H (aw b 201 h)):∃b t h,W.heap[o]?=H (aw b t h)/\t≠201:=by
 obtain⟨b,t,h,i,_⟩:=q;exact⟨b,t,h,i,λq=>k b h<|q▸i⟩
theorem XH.nf(t:XH Xqq w0 W e db d sv mem a bv f g B l safe n N){q:M}(b:q=d\/cK bv=H q):∃h u k,W.heap[q]?=H (aw h u k)/\u≠201:=by
 rcases b with rfl|b;exact⟨_,_,_,t.jh.box,by decide⟩;obtain⟨i,o⟩:=fE t.jh.own b;exact⟨_,_,_,o,by decide⟩
theorem HB.Xq{o:M}{w:X}(h:HB o W d bv f g B l safe n)(i:Z (λk=>k=d) W m)(t:m.heap[d]?=H (aw #[bv,ar w,aN r,f] 35 (0,0))):HB o m d bv f g B l w r where
 box:=t
 own:=i.own h.own<|λk q x=>h.ZQ (by rw[q];grind)
 kind:=h.kind.aj i (λk q x=>h.ZQ (by rw[q];grind))<|λk q=>(h.own.lt k q).2
 len:=h.len
 each:=λA v t b u=>i.row (h.each A v t b u)<|λk q=>⟨(h.sA v (eK b) k q).2.2.1,(h.sA v (eK b) k q).2.1⟩
 sA:=λv b k q=>⟨(h.sA v b k q).1,ag (h.sA v b k q).2.1 i.size,(h.sA v b k q).2.2⟩
 pr:=i.row h.pr<|λk q=>⟨(h.Ln k q).2.2.1,(h.Ln k q).2.1⟩
 Ln:=λk q=>⟨(h.Ln k q).1,ag (h.Ln k q).2.1 i.size,(h.Ln k q).2.2⟩
 sum:=h.sum
 ZQ:=h.ZQ
theorem XH.pY(h:XH Xqq w0 W e db d sv mem a bv f g B l safe n N)(b:X):XH Xqq w0 (cq W (R d 1)<|ar b) e db d sv mem a bv f g B l b n N:=h.yq ((eZ W d 1<|ar b).mono<|λ_ q=>.inl<|.inl q) (h.jh.Xq (eZ W d 1<|ar b)<|(aH h.jh.box).trans rfl) (λ_ q=>.inl q) h.num
theorem XH.KI(h:XH Xqq w0 W e db d sv mem a bv f g B l safe n N)(b:Bool):XH Xqq w0 (cq W (R d 2)<|aN b) e db d sv mem a bv f g B l safe b N:=h.yq ((eZ W d 2<|aN b).mono<|λ_ q=>.inl<|.inl q) (h.jh.Xq (eZ W d 2<|aN b)<|(aH h.jh.box).trans rfl) (λ_ q=>.inl q) h.num
theorem Ns.grow{b h:ab}{i:gW}(o:HB (z<|G w0) m d b h i B l safe n)(t:∀k,Cq d b h i k->Cq d bv f g k\/z (G W)<=k):∀k,Ns Xqq.E e d b h i k->Ns Xqq.E e d bv f g k\/z (G W)<=k/\k<z (G m):=λk q=>by
 rcases q with q|q|q;exact .inl<|.inl q;exact(t k q).elim (λq=>.inl<|.inr<|.inl q)<|λc=>.inr ⟨c,o.lt q⟩;exact .inl<|.inr<|.inr q
structure XS(Xqq:zd)(w0 W:Y)(e db sb d:M)(mem kG:X)(bv f:ab)(g:gW)(B:cJ oa)(l p:kD)(safe:X)(C N:M)(j:Prop):Prop where
 xh:XH Xqq w0 W e db d (aA sb) mem kG bv f g B l safe aX N
 cw:uc w0 W db sb mem kG (Ns Xqq.E e d bv f g) C N p j
def xu(Xqq:zd)(w0 W:Y)(e:M)(mem a:X)(C N:M)(j:Prop):Prop:=∃db sbqq d bv f g B l safe,XS Xqq w0 W e db sbqq d mem a bv f g B l l safe C N j
structure XF(Xqq:zd)(w0 W:Y)(e db sb d:M)(mem kG:X)(bv f:ab)(g:gW)(B:cJ oa)(l p:kD)(safe:X)(n:Bool)(C N:M)(c:X):Prop where
 xh:XH Xqq w0 W e db d (aA sb) mem kG bv f g B l safe n N
 cf:Gw w0 W db sb mem kG (Ns Xqq.E e d bv f g) C N p c aX
structure XD(Xqq:zd)(w0 W:Y)(e db d:M)(sv:ab)(mem kG:X)(bv f:ab)(g:gW)(B:cJ oa)(l p:kD)(safe:X)(n:Bool)(C N:M)(j:Prop):Prop where
 xh:XH Xqq w0 W e db d sv mem kG bv f g B l safe n N
 cd:Br w0 W db mem kG (C8 Xqq.E e d bv f g sv) C N p j
 l9:sv=cX none\/∃sb,sv=aA sb/\WZ W sb
theorem XS.nW(o:XS Xqq w0 W e db sbqq d mem a bv f g B l p safe C N j)(i:Z (sP w0<|Ns Xqq.E e d bv f g) W m)(h:uc w0 m db sbqq mem a (Ns Xqq.E e d bv f g) C' N' l' z')(b:N<=N'):XS Xqq w0 m e db sbqq d mem a bv f g B l l' safe C' N' z':=⟨o.xh.nW i (λ_ q=>q) b,h⟩
theorem XS.still(h:XS Xqq w0 W e db sbqq d mem a bv f g B l p safe C N j)(b:Z ay W m):XS Xqq w0 m e db sbqq d mem a bv f g B l p safe C N j:=⟨h.xh.still b,h.cw.still b⟩
theorem XS.sN(h:XS Xqq w0 W e db sbqq d mem a bv f g B l p safe C N j):kB W:=h.cw.sN
theorem XS.mono(u:XS Xqq w0 W e db sbqq d mem a bv f g B l p safe C N j)(t:C<=C')(h:C'<=1000000)(q:N<=N')(o:N'<=100000000):XS Xqq w0 W e db sbqq d mem a bv f g B l p safe C' N' j:=⟨u.xh.mono q,u.cw.mono t h q o⟩
theorem XS.yq{h i:ab}{k:gW}{o:cJ oa}{b:X}(x:XS Xqq w0 W e db sbqq d mem a bv f g B l p safe C N j)(w:Z (λt=>t=d\/cK bv=H t) W m)(u:HB (z<|G w0) m d h i k o l' b aX)(v:∀t,Cq d h i k t->Cq d bv f g t\/z (G W)<=t)(A:y o<=N/\(o.map y).sum<=1000000+8*N):XS Xqq w0 m e db sbqq d mem a h i k o l' p b C N j:=⟨x.xh.yq w u v A,x.cw.ij w (λt q=>⟨.inr<|.inl<|q.elim .inl<|λq=>.inr<|.inl q,x.xh.jh.Qc q⟩)<|Ns.grow u v⟩
theorem XS.pY(h:XS Xqq w0 W e db sbqq d mem a bv f g B l p safe C N j)(b:X):XS Xqq w0 (cq W (R d 1)<|ar b) e db sbqq d mem a bv f g B l p b C N j:=h.yq ((eZ W d 1<|ar b).mono<|λ_ q=>.inl<|.inl q) (h.xh.jh.Xq (eZ W d 1<|ar b)<|(aH h.xh.jh.box).trans rfl) (λ_ q=>.inl q) h.xh.num
theorem XF.still(h:XF Xqq w0 W e db sbqq d mem a bv f g B l p safe n C N c)(b:Z ay W m):XF Xqq w0 m e db sbqq d mem a bv f g B l p safe n C N c:=⟨h.xh.still b,h.cf.still b⟩
theorem XF.yq{h i:ab}{k:gW}{o:cJ oa}{b:X}(x:XF Xqq w0 W e db sbqq d mem a bv f g B l p safe n C N c)(w:Z (λt=>t=d\/cK bv=H t) W m)(u:HB (z<|G w0) m d h i k o l' b r)(v:∀t,Cq d h i k t->Cq d bv f g t\/z (G W)<=t)(A:y o<=N/\(o.map y).sum<=1000000+8*N):XF Xqq w0 m e db sbqq d mem a h i k o l' p b r C N c:=⟨x.xh.yq w u v A,x.cf.ij w (λt q=>⟨.inr<|.inl<|q.elim .inl<|λq=>.inr<|.inl q,x.xh.nf q⟩)<|Ns.grow u v⟩
theorem XF.KI(h:XF Xqq w0 W e db sbqq d mem a bv f g B l p safe n C N c)(b:Bool):XF Xqq w0 (cq W (R d 2)<|aN b) e db sbqq d mem a bv f g B l p safe b C N c:=h.yq ((eZ W d 2<|aN b).mono<|λ_ q=>.inl<|.inl q) (h.xh.jh.Xq (eZ W d 2<|aN b)<|(aH h.xh.jh.box).trans rfl) (λ_ q=>.inl q) h.xh.num
theorem XD.still(k:XD Xqq w0 W e db d sv mem a bv f g B l p safe n C N j)(b:Z ay W m):XD Xqq w0 m e db d sv mem a bv f g B l p safe n C N j:=⟨k.xh.still b,k.cd.still b,k.l9.imp id<|λ⟨sbqq,o,h,i,q⟩=>⟨sbqq,o,h,i,(b.block sbqq (ak q) id).trans q⟩⟩
theorem XD.pY(h:XD Xqq w0 W e db d sv mem a bv f g B l p safe n C N j)(i:X):XD Xqq w0 (cq W (R d 1)<|ar i) e db d sv mem a bv f g B l p i n C N j:=by
 have b:=eZ W d 1<|ar i;refine⟨h.xh.pY i,h.cd.ij b (λw q=>.inl<|.inr<|.inl<|.inl q)<|λw q=>.inl q,h.l9.imp id<|λ⟨sbqq,u,k,o,q⟩=>⟨sbqq,u,k,o,(b.block sbqq (ak q)<|λv=>?_).trans q⟩⟩;have t:sbqq=d:=v;rw[t,h.xh.jh.box]at q;cases q
structure XL(Xqq:zd)(w0 W:Y)(e db d:M)(sv:ab)(mem kG:X)(bv f:ab)(g:gW)(B:cJ oa)(l:kD)(safe:X)(C N:M)(j:Prop):Prop where
 xh:XH Xqq w0 W e db d sv mem kG bv f g B l safe aX N
 cl:PH w0 W db mem kG (Ns Xqq.E e d bv f g) C N l j
theorem XL.still(h:XL Xqq w0 W e db d sv mem a bv f g B l safe C N j)(b:Z ay W m):XL Xqq w0 m e db d sv mem a bv f g B l safe C N j:=⟨h.xh.still b,h.cl.still b⟩
theorem XL.pY(h:XL Xqq w0 W e db d sv mem a bv f g B l safe C N j)(b:X):XL Xqq w0 (cq W (R d 1)<|ar b) e db d sv mem a bv f g B l b C N j:=⟨h.xh.pY b,h.cl.ij (eZ W d 1<|ar b) (λk q=>.inr<|.inl<|.inl q)<|λk q=>.inl q⟩
theorem XL.rH(h:XL Xqq w0 W e db d sv mem a bv f g B l safe C N j)(u:ab):XL Xqq w0 (cq W (R e 1) u) e db d u mem a bv f g B l safe C N j:=⟨h.xh.rH u,h.cl.ij (eZ W e 1 u) (λk q=>.inl q)<|λk q=>.inl q⟩
theorem uc.ie{k:eV}(i:uc w0 W db sbqq mem a k C N l j):I8 W db:=by
 obtain⟨w,K,v,q,t,c,u,h,b,i⟩:=i;have o:=i.yA.2.1;subst o;exact⟨_,_,i.inv.st.aI.ie⟩
theorem uc.L6{i:eV}(k:uc w0 W db sbqq mem a i C N l j):WZ W sbqq:=by
 obtain⟨v,K,u,o,q,c,t,h,b,k⟩:=k;exact⟨_,_,k.GG⟩
theorem uc.kK{k:eV}(o:uc w0 W db sbqq mem a k C N l j):C<=1000000:=by
 obtain⟨v,K,u,q,b,c,t,i,h,o⟩:=o;exact o.inv.st.kK
theorem Br.kK{h:eV}(i:Br w0 W db mem a h C N l j):C<=1000000:=by
 obtain⟨K,i⟩:=i;exact i.kK
theorem WC{b:eV}(x:PH w0 W db mem a b C N l j)(u:1<=mem/\mem<=32/\2<=a/\a<=6):cY aZ 10 #[aA db,dC #[ar mem,ar a]] W λw m=>∃sv h,w=aM (dq #[sv,h])/\Z (sP w0 b) W m/\((sv=aA (z (G W)+2)/\h=.nilIface/\z (G W)+4<=z (G m)/\uc w0 m db (z (G W)+2) mem a b C N l j)\/∃q c,sv=cX none/\h=eD q/\lP m q c/\(c=8\/c=9)/\Br w0 m db mem a b C N l j):=by
 apply(Qx x u).mono;rintro w m⟨k,⟨rfl,o,i⟩|⟨q,c,rfl,v,t,i⟩⟩;exact⟨_,_,rfl,k,.inl ⟨rfl,rfl,o,i⟩⟩;exact⟨_,_,rfl,k,.inr ⟨q,c,rfl,rfl,v,t.elim .inr<|λq=>.inl q.2,i⟩⟩
theorem TI{b:eV}(A:PH w0 W db mem a b C N l True)(v:1<=mem/\mem<=32/\2<=a/\a<=6):cY aZ 10 #[aA db,dC #[ar mem,ar a]] W λx m=>∃sv h,x=aM (dq #[sv,h])/\Z (sP w0 b) W m/\((sv=aA (z (G W)+2)/\h=.nilIface/\z (G W)+4<=z (G m)/\uc w0 m db (z (G W)+2) mem a b C N l True)\/∃q,sv=cX none/\h=eD q/\lP m q 9/\Br w0 m db mem a b C N l True):=by
 apply(Qx A v).mono;rintro x m⟨k,⟨rfl,o,i⟩|⟨q,c,rfl,w,t,i⟩⟩;exact⟨_,_,rfl,k,.inl ⟨rfl,rfl,o,i⟩⟩;rcases t with rfl|⟨u,_⟩;exact⟨_,_,rfl,k,.inr ⟨q,rfl,rfl,w,i⟩⟩;exact absurd trivial u
end
section
variable{Xqq:zd}{w0 W d:Y}{b:M}{mem a:X}{C C' N N':M}{c:Prop}{kd:X}{e:Ending}
def D5(B:cJ oa)(l g:kD)(i:Bool):Prop:=g=l\/i=ci/\∃f h,B=f++[h]/\g=f.foldl yx []
def o6(Xqq:zd)(w0 W:Y)(b:M)(mem a:X)(C N:M)(p:X):Prop:=∃k g l j m n B o h f i,XF Xqq w0 W b k g l mem a j m n B o h f i C N p/\D5 B o h i
def Uc(Xqq:zd)(w0 W:Y)(b:M)(m:ab)(mem a:X)(C N:M):Prop:=∃j k i l n B o g f h,XD Xqq w0 W b j k m mem a i l n B o g f h C N False/\D5 B o g h
def Bq(Xqq:zd)(w0 W:Y)(b:M)(mem a:X)(C N:M)(c:Prop)(kd:X)(e:Ending):Prop:=∃n:X,e=aM (dq #[ar n,aN aX])/\((n=0/\xu Xqq w0 W b mem a C N c)\/(n=8/\(kd=4\/kd=5)/\xu Xqq w0 W b mem a C N c)\/((n=8\/n=9)/\¬(kd=4\/kd=5)/\(o6 Xqq w0 W b mem a C N n\/Uc Xqq w0 W b (cX none) mem a C N)))
theorem JJ(h:xu Xqq w0 W b mem a C N c)(ao:Option Addr)(an ad:M)(hN:N+1<=100000000):cY aZ 20 #[aA b,dC #[ar 2,I ao an ad]] W λe d=>Bq Xqq w0 d b mem a C (N+1) c 2 e:=by
 obtain⟨db,L,n,bv,pv,V,ap,al,l,h⟩:=h;have hB:=h.xh.num;have c1:=cellAt h.xh.box 1 rfl;have c4:=cellAt h.xh.box 4 rfl;have K:=ak h.xh.box;have HX:=U h;clear h;go_in
 go_wp2_with fail
 obtain⟨S,s⟩:∃S,cN W (aw #[ar 2,I ao an ad] 72)=S:=⟨_,rfl⟩;have g:=HX.still (show Z ay W S by rw[<-s];exact cF ay W);rw[s];clear s c1 c4 K;apply(Pk g.cw hN).mono;rintro e W2⟨o,⟨rfl,D⟩|⟨q,c2,rfl,hq,k,E⟩⟩;rotate_left;(.have t:XF Xqq w0 W2 b db L n mem a bv pv V ap al al l aX C (N+1) c2:=⟨g.xh.nW o (λ_ q=>q) (by omega),E⟩;have F:=rF hq t.cf.sN;have O:=U<|And.intro t k;(have b0:(c2==0)=aX:=by rcases k with rfl|rfl<;>rfl);clear t hq o E g k;(go_wp2_with fail);apply F.mono;rintro e w⟨rfl,j⟩;have u:=U<|And.intro (O.1.still<|Z.aR j) O.2;clear j F O;go_wp2;(go_ret2);exact⟨c2,rfl,.inr<|.inr ⟨u.2,by omega,.inl ⟨_,_,_,_,_,_,_,_,_,_,_,u.1,.inl rfl⟩⟩⟩);have B:=g.nW o D (by omega);have P:=U B;clear o D g B;go_wp2_with fail
 apply(mQ W2).mono;rintro e w⟨rfl,j⟩;have f:=P.still<|Z.aR j;have c4:=cellAt f.xh.box 4 rfl;have K:=ak f.xh.box;have d0:=cellAt f.xh.jh.box 0 rfl;have d1:=cellAt f.xh.jh.box 1 rfl;have f1:=cP (i:=1) f.xh.jh.box;obtain⟨bx,bc,T⟩:=aB f.xh.jh.own;subst T;have Q:=U f;clear j f;go_wp2_with fail
 rename_i QQ KK A;have m:aW w.drew (R b 4)=H (aA n)/\aW w.drew (R n 0)=H (I bx (y V) bc)/\aW w.drew (R n 1)=H (ar l)/\w.drew.frozen? (R n 1)=aX:=⟨c4,d0,d1,f1⟩;refine dR (λXqq=>aW Xqq (R b 4)=H (aA n)/\aW Xqq (R n 0)=H (I bx (y V) bc)/\aW Xqq (R n 1)=H (ar l)/\Xqq.frozen? (R n 1)=aX) 14 (by kernel_rfl) ?_;refine fh 0 ?_;iterate 12 (refine iz (v:=?_) m rfl (by kernel_rfl) lk rfl ?_ ?_;rotate_left;(focus(rintro Xqq⟨z0,z1,z2,z3⟩;go_simp;try rfl));simp only[Act.put,dW,iS,Nat.reduceAdd])
 apply ii;refine bj (i:=12) rfl rfl (by kernel_rfl) ?_;intro aa p;go_simp;refine p _ _ (λ_=>m) ?_;try simp only[Act.put,dW,iS]
 clear p;refine bj (i:=13) rfl rfl (by kernel_rfl) ?_;intro ac r;go_simp;refine r _ _ (λ_=>m) ?_;try simp only[Act.put,dW,iS]
 clear r;refine bj (i:=14) rfl rfl (by kernel_rfl) ?_;intro K1 x;go_simp;refine x _ _ FQ ?_;try simp only[Act.put,dW,iS]
 clear x m;refine eS (by kernel_rfl) ?_ _;show KK _ _;apply A;clear A;go_wp2;go_ret2
 exact⟨0,rfl,.inl ⟨rfl,_,_,_,_,_,_,_,_,_,(Q.pY _).still<|cZ ay _⟩⟩
theorem Pf(h:xu Xqq w0 W b mem a C N c)(bT:Option Addr)(bL bE:M)(hN:N+1<=100000000):cY aZ 20 #[aA b,dC #[ar 3,I bT bL bE]] W λe d=>Bq Xqq w0 d b mem a C (N+1) c 3 e:=by
 obtain⟨Q,ac,t,bv,pv,s,br,bi,x,h⟩:=h;have hB:=h.xh.num;have c1:=cellAt h.xh.box 1 rfl;have bp:=ak h.xh.box;have HX:=U h;clear h;go_in
 go_wp2_with fail
 obtain⟨W1,al⟩:∃W1,cN W (aw #[ar 3,I bT bL bE] 72)=W1:=⟨_,rfl⟩;have D:=HX.still (show Z ay W W1 by rw[<-al];exact cF ay W);rw[al];clear al c1 bp;apply(MI D.cw).mono;rintro e W2⟨V,O,⟨rfl,bb⟩|⟨q,c2,rfl,hq,j,ap⟩⟩;rotate_left;(.have ba:XH Xqq w0 W2 b Q t (aA ac) mem a bv pv s br bi x aX N:=D.xh.nW V (λ_ q=>q)<|ah _;have P:=rF hq ap.sN;have HF:=U<|And.intro ba j;have bk:=U ap;(have b0:(c2==0)=aX:=by rcases j with rfl|rfl<;>rfl);clear ba hq V ap D j O;(go_wp2_with fail);apply P.mono;rintro e W3⟨rfl,F⟩;have au:Z ay W2 W3:=Z.aR F;have g:=HF.1.still au;have L:=(J bk).still au;have c1:=cellAt g.box 1 rfl;have g1:=cP (i:=1) g.box;have m:=(g.rH<|cX none).mono (N':=N+1) (by omega);have aa:Br w0 (cq W3 (R b 1)<|cX none) Q mem a (C8 Xqq.E b t bv pv s<|cX none) C (N+1) bi False:=(L.ij (eZ W3 b 1<|cX none) (λbh q=>.inl<|.inl q)<|λbh q=>.inl<|q.elim .inl<|λe=>by cases e).mono (ah _) L.kK (by omega) hN<|λq=>q.elim;have ax:=U<|And.intro m aa;clear g L m aa au F P;go_wp2;(go_ret2);exact⟨c2,rfl,.inr<|.inr ⟨HF.2,by omega,.inr ⟨_,_,_,_,_,_,_,_,_,_,⟨ax.1,ax.2,.inl rfl⟩,.inl rfl⟩⟩⟩);have aV:XL Xqq w0 W2 b Q t (aA ac) mem a bv pv s br bi x C N c:=⟨D.xh.nW V (λ_ q=>q)<|ah _,bb.ij (Z.refl ay W2) cL<|λbh q=>.inl<|.inl q⟩;have bl:=U aV;clear V bb D aV O;go_wp2_with fail
 apply(mQ W2).mono;rintro e W3⟨rfl,F⟩;have g:=bl.still<|Z.aR F;have c1:=cellAt g.xh.box 1 rfl;have c4:=cellAt g.xh.box 4 rfl;have g1:=cP (i:=1) g.xh.box;have m:=g.rH<|cX none;have d0:=cellAt m.xh.jh.box 0 rfl;have d1:=cellAt m.xh.jh.box 1 rfl;have f1:=cP (i:=1) m.xh.jh.box;have c4:=cellAt m.xh.box 4 rfl;obtain⟨bx,bc,bo⟩:=aB g.xh.jh.own;subst bo;have aD:=U m;clear F g m;go_wp2_with fail
 rename_i QQ KK B;obtain⟨W4,an⟩:∃W4,cq W3 (R b 1) (cX none)=W4:=⟨_,rfl⟩;rw[an]at aD d0 d1 f1 c4;rw[an];have u:aW W4.drew (R b 4)=H (aA t)/\aW W4.drew (R t 0)=H (I bx (y s) bc)/\aW W4.drew (R t 1)=H (ar x)/\W4.drew.frozen? (R t 1)=aX:=⟨c4,d0,d1,f1⟩;refine dR (λXqq=>aW Xqq (R b 4)=H (aA t)/\aW Xqq (R t 0)=H (I bx (y s) bc)/\aW Xqq (R t 1)=H (ar x)/\Xqq.frozen? (R t 1)=aX) 14 (by kernel_rfl) ?_;refine fh 0 ?_;iterate 12 (refine iz (v:=?_) u rfl (by kernel_rfl) lk rfl ?_ ?_;rotate_left;(focus(rintro Xqq⟨z0,z1,z2,z3⟩;go_simp;try rfl));simp only[Act.put,dW,iS,Nat.reduceAdd])
 apply ii;refine bj (i:=12) rfl rfl (by kernel_rfl) ?_;intro bm o;go_simp;refine o _ _ (λ_=>u) ?_;try simp only[Act.put,dW,iS]
 clear o;refine bj (i:=13) rfl rfl (by kernel_rfl) ?_;intro bn p;go_simp;refine p _ _ (λ_=>u) ?_;try simp only[Act.put,dW,iS]
 clear p;refine bj (i:=14) rfl rfl (by kernel_rfl) ?_;intro K1 aF;go_simp;refine aF _ _ FQ ?_;try simp only[Act.put,dW,iS]
 clear aF u;refine eS (by kernel_rfl) ?_ _;show KK _ _;apply B;clear B;obtain⟨A,ao⟩:∃A,(cq W4 (R t 1)<|ar<|y s).drew=A:=⟨_,rfl⟩;have E:XL Xqq w0 A b Q t (cX none) mem a (I bx (y s) bc) pv s br bi (y s) C N c:=by rw[<-ao];exact(aD.pY _).still<|cZ ay _
 rw[ao];have e0:=cellAt E.xh.box 0 rfl;have e2:=cellAt E.xh.box 2 rfl;have e3:=cellAt E.xh.box 3 rfl;have ad:=U E;clear E ao an c1 c4 g1 d0 d1 f1;go_wp2_with fail
 rename_i QQ KK B;have bf:=WC (ad.still<|cZ ay A).cl ad.xh.CJ;have u:aW A.drew (R b 0)=H (aA Q)/\aW A.drew (R b 2)=H (ar mem)/\aW A.drew (R b 3)=H (ar a):=⟨e0,e2,e3⟩;refine dR (λXqq=>aW Xqq (R b 0)=H (aA Q)/\aW Xqq (R b 2)=H (ar mem)/\aW Xqq (R b 3)=H (ar a)) 13 (by kernel_rfl) ?_;refine fh 0 ?_;iterate 8 (refine iz (v:=?_) u rfl (by kernel_rfl) lk rfl ?_ ?_;rotate_left;(focus(rintro Xqq⟨z0,z1,z2⟩;go_simp;try rfl));simp only[Act.put,dW,iS,Nat.reduceAdd])
 apply ii;refine bj (i:=8) rfl rfl (by kernel_rfl) ?_;intro K8 aU;go_simp;apply bf.mono;rintro e W6⟨bu,bt,rfl,av,k⟩;have n:=(ad.still<|cZ ay A).xh.nW av (λ_ q=>q)<|ah _;have T:aW W6 (R b 0)=H (aA Q)/\aW W6 (R b 2)=H (ar mem)/\aW W6 (R b 3)=H (ar a):=⟨cellAt n.box 0 rfl,cellAt n.box 2 rfl,cellAt n.box 3 rfl⟩;refine aU _ _ (λ_=>T) ?_;try simp only[Act.put,dW,iS]
 clear aU bf;refine fh 9 ?_;iterate 3 (refine iz (v:=?_) T rfl (by kernel_rfl) lk rfl ?_ ?_;rotate_left;(focus(rintro Xqq⟨z0,z1,z2⟩;go_simp;try rfl));simp only[Act.put,dW,iS,Nat.reduceAdd])
 apply ii;refine bj (i:=12) rfl rfl (by kernel_rfl) ?_;intro bm o;go_simp;refine o _ _ (λ_=>T) ?_;try simp only[Act.put,dW,iS]
 clear o;refine bj (i:=13) rfl rfl (by kernel_rfl) ?_;intro bn p;go_simp;refine p _ _ FQ ?_;try simp only[Act.put,dW,iS]
 clear p T u;refine eS (by kernel_rfl) ?_ _;show KK _ _;apply B;clear B;rcases k with⟨rfl,rfl,bq,k⟩|⟨q,c6,rfl,rfl,bg,j,k⟩;(.have au:=U<|show XS Xqq w0 (cq W6 (R b 1)<|aA<|z (G A.drew)+2) b Q (z (G A.drew)+2) t mem a (I bx (y s) bc) pv s br bi bi (y s) C N c from⟨n.rH _,k.ij (eZ W6 b 1 _) (λbh q=>⟨.inl q,by have q':bh=b:=q;rw[q'];exact n.Qc k.ie<|.inl rfl⟩)<|λbh q=>.inl q⟩;have f:=U<|And.intro n k;obtain⟨L,aa⟩:∃L,z (G A.drew)+2=L:=⟨_,rfl⟩;rw[aa]at au f|-;clear n av k e0 e2 e3 bq aa;(go_wp2_with fail);apply(mQ W6).mono;rintro e W7⟨rfl,K⟩;have w:Z ay W6 W7:=Z.aR K;have l:=f.1.still w;have r:=f.2.still w;have c1:=cellAt l.box 1 rfl;have g1:=cP (i:=1) l.box;have ax:XS Xqq w0 (cq W7 (R b 1)<|aA L) b Q L t mem a (I bx (y s) bc) pv s br bi bi (y s) C N c:=⟨l.rH _,r.ij (eZ W7 b 1 _) (λbh q=>⟨.inl q,by have q':bh=b:=q;rw[q'];exact l.Qc r.ie<|.inl rfl⟩)<|λbh q=>.inl q⟩;have bd:∀bs:Y,(binOp .eql 36 (aA L)<|cX none).run aZ bs=.ok (aN aX) bs:=λ_=>rfl;have S:=U<|ax.mono (ah _) r.kK (N':=N+1) (by omega) hN;clear ax w l r K au f;go_wp2;(go_ret2);exact⟨0,rfl,.inl ⟨rfl,_,_,_,_,_,_,_,_,_,S⟩⟩);have P:=rF bg k.sN;have f:=U<|And.intro n k;have L:=U j;(have b1:(!(c6 !=0))=aX:=by rcases j with rfl|rfl<;>rfl);clear n av k e0 e2 e3 bg j;(go_wp2_with fail);apply P.mono;rintro e W7⟨rfl,K⟩;have w:Z ay W6 W7:=Z.aR K;have l:=f.1.still w;have r:=f.2.still w;have c1:=cellAt l.box 1 rfl;have g1:=cP (i:=1) l.box;have bd:∀bs:Y,(binOp .eql 36 (cX none)<|cX none).run aZ bs=.ok (aN ci) bs:=λ_=>rfl;have S:=U<|And.intro ((l.rH<|cX none).mono (N':=N+1)<|by omega) ((r.ij (eZ W7 b 1<|cX none) (λbh q=>.inl q) (λbh q=>.inl<|Or.elim q id<|λe=>by cases e):Br w0 (cq W7 (R b 1)<|cX none) Q mem a (C8 Xqq.E b t (I bx (y s) bc) pv s<|cX none) C N bi c).mono (ah _) r.kK (by omega) hN<|λ(q:False)=>q.elim);clear l r w K P f;go_wp2;(go_ret2);exact⟨c6,rfl,.inr<|.inr ⟨L,by omega,.inr ⟨_,_,_,_,_,_,_,_,_,_,⟨S.1,S.2,.inl rfl⟩,.inl rfl⟩⟩⟩
end
section
variable{Xqq:zd}{w0 W:Y}{c:M}{mem a:X}{C N:M}{b:Prop}
theorem MX(l:kD):Py l ⟨#[]⟩ ⟨#[]⟩ 0=l:=by
 have h:∀(l d:kD),l.foldl (mL ⟨#[]⟩ ⟨#[]⟩ 0) d=d++l:=by
  intro l;induction l with
  |nil=>simp
  |cons p l g=>
   intro d;rw[iF,g];have f:Fa ⟨#[]⟩ ⟨#[]⟩ 0 (y d) p=ci:=by
    have e:ByteArray.toList ⟨#[]⟩=[]:=by
     simp[ByteArray.toList,ByteArray.toList.loop,ByteArray.size]
    unfold Fa Nr;rw[e];cases p.1.toList<;>simp[Op.bytesLess]
   unfold mL;rw[dH f];simp
 exact h l []
theorem Vp{w:Y}{x:Option Addr}{e:Ki}{f:oa}{m:M}(o:Do w (I x (y<|e::f) m) (e::f)):∃i d,x=H (R i d)/\y (e::f)<=m/\aW w (R i d)=H (am e.key)/\i<z (G w):=by
 rcases o with⟨⟨_,⟨n,g⟩|⟨i,d,j,n,h,l⟩⟩,k⟩|⟨g,_⟩;simp at g;cases n;exact⟨i,d,rfl,h,l 0 _ rfl,k i rfl⟩;cases g
theorem Wm(h:xu Xqq w0 W c mem a C N b)(aF:Option Addr)(s:oa)(av:M)(hL:Do w0 (I aF (y s) av) s)(P:∀Q∈s,Q.key.size<=140737488351232/\Q.val.size<=140737488351232):cY aZ 20 #[aA c,dC #[ar 4,I aF (y s) av]] W λx p=>Bq Xqq w0 p c mem a C N b 4 x:=by
 obtain⟨V,j,D,T,pv,vs,au,u,m,h⟩:=h;have c1:=cellAt h.xh.box 1 rfl;have O:=ak h.xh.box;have ao:y u<=C/\C<=1000000:=by obtain⟨an,ac,aV,ad,aU,av,ba,aa,S,A⟩:=h.cw;exact⟨A.len,A.inv.st.kK⟩
 have F:=hL.aj h.cw.aj<|λ_ _=>id;have HX:=U h;clear h;have e:∀S d,cN W (aw #[ar 4,I aF (y s) av] 72)=S->d.size<=140737488351232->cY aZ 14 #[aA j,am d] S λx p=>(x=aM (dq #[am (AY u d).1,aN (AY u d).2.1,ui (AY u d).2.2])\/∃q,x=aM (gE<|eD q)/\lP p q 8)/\XS Xqq w0 p c V j D mem a T pv vs au u u m C N b:=λS d aa P=>by have A:=HX.still (show Z ay W S by rw[<-aa];exact cF ay W);apply(ZO A.cw d P).mono;rintro x w⟨h1,ad,ac⟩;exact⟨h1.imp id<|λq=>q.2,A.nW ad ac<|ah _⟩
 have l:=U e;clear e;have t:∀d,d.size<=140737488351232->∀w,XS Xqq w0 w c V j D mem a T pv vs au u u m C N b->∃ap an B,AY u d=(ap,an,B)/\(cY aZ 11 #[ui B] w λx p=>x=aM (ar B)/\XS Xqq w0 p c V j D mem a T pv vs au u u m C N b)/\(B=3\/B=0/\oO u d=(ap,an)):=λd P w g=>by have i:∀B,cY aZ 11 #[ui B] w λx p=>x=aM (ar B)/\XS Xqq w0 p c V j D mem a T pv vs au u u m C N b:=λB=>(BC B g.sN).mono (by rintro x p⟨rfl,D⟩;exact⟨rfl,g.still<|Z.aR D⟩);by_cases A:d.size=0\/8<d.size;exact⟨⟨#[]⟩,aX,3,dH A,i 3,.inl rfl⟩;exact⟨(oO u d).1,(oO u d).2,0,dF A,i 0,.inr ⟨rfl,rfl⟩⟩
 have n:=U t;clear t;cases s;(case' nil=>obtain⟨d,e⟩:∃d:ae,d=⟨#[97]⟩:=⟨_,rfl⟩;(have r:d.size<=140737488351232:=by rw[e];decide);(go_in);(go_wp2_with fail);rw[<-e];clear e);(case' cons c0 s=>obtain⟨aU,aa,rfl,S,A,ac⟩:=Vp F;have r:=(P c0<|by simp).1;obtain⟨d,e⟩:∃d,c0.key=d:=⟨_,rfl⟩;rw[e]at r A;clear e;obtain⟨B,hn⟩:∃B,y (c0::s)=B:=⟨_,rfl⟩;(have e2:0<B:=by rw[<-hn];simp);(have e1:(0:X)<(B:X):=by omega);rw[hn]at l S|-;clear hL F hn P;(go_in);go_wp2_with fail);(all_goals apply(l _ d rfl r).mono;rintro x w⟨rfl|⟨q,rfl,hq⟩,g⟩;rotate_left;(.have i:=rF hq g.sN;have E:=U g;clear g hq l n HX c1 O;unfold gE;(go_wp2_with fail);apply i.mono;rintro x W3⟨rfl,K⟩;have f:=E.still<|Z.aR K;have c4:=cellAt f.xh.box 4 rfl;have d3:=cellAt f.xh.jh.box 3 rfl;have k:=LJ d f.xh.jh.pr (by omega);have o:=U f;clear f i K E;(go_wp2_with fail);apply k.mono;rintro x W4⟨rfl,al⟩;subst W4;clear k;go_wp2;(go_ret2);exact⟨8,rfl,.inr<|.inl ⟨rfl,.inl rfl,_,_,_,_,_,_,_,_,_,o⟩⟩);obtain⟨ap,an,aV,hg,i,hm⟩:=n d r w g;rw[hg];simp only;obtain⟨v,HM⟩:=And.intro (U i) (U hm);clear g i hg l n HX c1 O hm;(go_wp2_with fail);apply v.mono;rintro x W3⟨rfl,f⟩;have c4:=cellAt f.xh.box 4 rfl;have d3:=cellAt f.xh.jh.box 3 rfl;have k:=LJ d f.xh.jh.pr (by omega);rcases J HM with rfl|⟨rfl,L⟩;(.have o:=U f;clear f HM v k;go_wp2;(go_ret2);exact⟨0,rfl,.inl ⟨rfl,_,_,_,_,_,_,_,_,_,o⟩⟩);rw[L]at k;have o:=U f;clear f HM v L;(have aD:(!ap.toList==ap.toList)=aX:=by simp);(have ax:(!an==an)=aX:=by cases an<;>rfl);(go_wp2_with fail);apply k.mono;rintro x W4⟨rfl,al⟩;subst W4;clear k;go_wp2;(go_ret2);exact⟨0,rfl,.inl ⟨rfl,_,_,_,_,_,_,_,_,_,o⟩⟩)
theorem Ty(h:xu Xqq w0 W c mem a C N b)(ao:Option Addr)(an ac:M):cY aZ 20 #[aA c,dC #[ar 5,I ao an ac]] W λQ W'=>Bq Xqq w0 W' c mem a C N b 5 Q:=by
 obtain⟨db,r,hb,V,pv,vs,al,F,p,h⟩:=h;have c1:=cellAt h.xh.box 1 rfl;have P:=ak h.xh.box;have aa:y F<=C/\C<=1000000:=by obtain⟨aF,ap,aD,au,av,ac,ax,T,D,B⟩:=h.cw;exact⟨B.len,B.inv.st.kK⟩
 have HX:=U h;clear h;go_in
 go_wp2_with fail
 obtain⟨K,v⟩:∃K,cN W (aw #[ar 5,I ao an ac] 72)=K:=⟨_,rfl⟩;have g:=HX.still (show Z ay W K by rw[<-v];exact cF ay W);rw[v];clear v c1 P;apply(Qs g.cw _ _ _).mono;rintro Q S⟨⟨v2,rfl,w⟩|⟨_,q,rfl,hq⟩,l,o⟩;rotate_left;(.have f:=g.nW l o<|ah _;have D:=rF hq f.sN;have n:=U f;clear f g hq l o;(go_wp2_with fail);apply D.mono;rintro Q E⟨rfl,j⟩;have d:=n.still<|Z.aR j;have c4:=cellAt d.xh.box 4 rfl;have d3:=cellAt d.xh.jh.box 3 rfl;have k:rU E az []:=⟨rfl,.inl ⟨rfl,rfl⟩⟩;have e:=uU k d.xh.jh.pr (by simp) (by omega);obtain⟨T,B⟩:∃T,decide (([]:kD)=F)=T:=⟨_,rfl⟩;rw[B]at e;have t:=U d;clear d k D j n B;(go_wp2_with fail);apply e.mono;rintro Q L⟨rfl,k4,m⟩;have i:XS Xqq w0 L c db r hb mem a V pv vs al F F p C N b:=t.still (by rw[m];exact iY _ _ _);have u:=U i;clear i m e;go_wp2;(go_ret2);exact⟨8,rfl,.inr<|.inl ⟨rfl,.inr rfl,_,_,_,_,_,_,_,_,_,u⟩⟩);have f:=g.nW l o<|ah _;have ad:=l.size;obtain⟨gx,gc,O⟩:=aB w;subst O;obtain⟨n,A,s⟩:=dz f w<|show Py F ⟨#[]⟩ ⟨#[]⟩ 0=F from MX F;clear l o g f w;go_wp2_with fail
 apply(mQ S).mono;rintro Q E⟨rfl,j⟩;have x:Z ay S E:=Z.aR j;have d:=n.still x;have k:rU E _ _:=x.row (dJ A)<|λe d=>⟨id,(A.lt e d).2⟩;have c4:=cellAt d.xh.box 4 rfl;have d3:=cellAt d.xh.jh.box 3 rfl;have e:=uU k d.xh.jh.pr (by rw[J s];omega) (by omega);rw[J s]at e;rw[J s];simp only[ul]at e;have t:=U d;clear d k x j;go_wp2_with fail
 apply e.mono;rintro Q L⟨rfl,k4,m⟩;have i:XS Xqq w0 L c db r hb mem a V pv vs al F F p C N b:=t.still (by rw[m];exact iY _ _ _);have u:=U i;clear i m e;go_wp2;go_ret2
 exact⟨0,rfl,.inl ⟨rfl,_,_,_,_,_,_,_,_,_,u⟩⟩
end
section
variable{Xqq:zd}{w0 W:Y}{b:M}{mem a:X}{C N:M}{c:Prop}
theorem Tz{l d:M}{i:eV}{u:kD}(E:uc w0 W l d mem a i C N u c)(k:ab)(e:oa)(f:Bool)(n:Do w0 k e)(A:∀D∈e,D.key.size<=140737488351232/\D.val.size<=140737488351232)(x:y e<=1000000000)(v:C+kX e<=1000000)(w:N+1<=100000000):cY aZ 12 #[aA d,k,aN f] W λB g=>∃m,B=aM m/\Z (sP w0 i) W g/\((m=ui (ga e)/\uc w0 g l d mem a i (C+kX e) (N+1) (ph u e) c)\/ga e=0/\∃q j,m=eD q/\lP g q j/\(j=8\/j=9)/\∃p,(p=u\/p=ph u e)/\Gw w0 g l d mem a i (C+kX e) (N+1) p j aX):=by
 apply(Wo E k e f n A x v w).mono;rintro B g⟨o,⟨rfl,h⟩|⟨r,q,j,rfl,t,s,h|h⟩⟩;exact⟨_,rfl,o,.inl ⟨rfl,h⟩⟩;exact⟨_,rfl,o,.inr ⟨r,q,j,rfl,t,s,_,.inl rfl,h⟩⟩;exact⟨_,rfl,o,.inr ⟨r,q,j,rfl,t,s,_,.inr rfl,h⟩⟩
theorem Pe(h:xu Xqq w0 W b mem a C N c)(j:X)(ao:Option Addr)(d:oa)(S:M)(hk:¬j=2/\¬j=3/\¬j=4/\¬j=5)(hL:Do w0 (I ao (y d) S) d)(hz:∀bs∈d,bs.key.size<=140737488351232/\bs.val.size<=140737488351232)(hr:y d<=100000000)(hC:C+kX d<=1000000)(hN:N+1<=100000000):cY aZ 20 #[aA b,dC #[ar j,I ao (y d) S]] W λan W'=>Bq Xqq w0 W' b mem a (C+kX d) (N+1) c j an:=by
 obtain⟨db,f,t,bv,pv,vs,cd,ba,u,h⟩:=h;have ce:y ba<=C:=by obtain⟨bo,aU,bn,bf,bg,S,bi,aF,T,hc⟩:=h.cw;exact hc.len
 have cf:=h.xh.num;obtain⟨k2,k3,k4,k5⟩:=hk;have b2:(j==2)=aX:=by simpa using k2
 have b3:(j==3)=aX:=by simpa using k3
 have b4:(j==4)=aX:=by simpa using k4
 have b5:(j==5)=aX:=by simpa using k5
 clear k2 k3 k4 k5;obtain⟨bk,cl⟩:∃bk,(j==1)=bk:=⟨_,rfl⟩;have aV:=ak h.xh.box;have HX:=U h;have HL:=U hL;clear h hL;have bq:∀T,cN W (aw #[ar j,I ao (y d) S] 72)=T->cY aZ 41 #[I ao (y d) S] T λan w'=>∃v',an=aM v'/\Nk w' (z<|G T) v' d/\Z ay T w'/\XS Xqq w0 w' b db f t mem a bv pv vs cd ba ba u C N c/\w'.heap[z<|G W]?=H (aw #[ar j,I ao (y d) S] 72 (0,0))/\uc w0 w' db f mem a (λch=>Ns Xqq.E b t bv pv vs ch\/ch=z (G W)) C N ba c:=λT aF=>by(have bg:Z ay W T:=by rw[<-aF];exact cF ay W);have aU:=HX.still bg;(have hn:T.heap[z<|G W]?=H (aw #[ar j,I ao (y d) S] 72 (0,0)):=by rw[<-aF];exact aJ _<|by simp);apply(PJ (by omega)<|(HL.aj aU.cw.aj<|λ_ _=>id)).mono;rintro an w'⟨v',rfl,ho,t⟩;have ht:Z ay T w':=Z.aR t;have bf:=(ht.block _ (ak hn) id).trans hn;exact⟨v',rfl,ho,ht,aU.still ht,bf,HX.cw.ij (bg.cz ht) cL<|λch q=>q.imp id<|λan=>⟨by omega,by rw[an];exact ak bf⟩⟩
 have bc:=U bq;clear bq;go_in
 go_wp2_with fail
 apply(bc _ rfl).mono;rintro an W2⟨v2,rfl,ad,ca,aa,hq,bm⟩;obtain⟨x2,c2,cb⟩:=aB ad;subst cb;have bl:=TJ (dJ ad) (by omega);have c1:=cellAt aa.xh.box 1 rfl;have q0:=cellAt hq 0 rfl;have q1:=cellAt hq 1 rfl;have br:=λXqq(V:Z ay W2 Xqq)=>Tz (bm.still V) (I ao (y d) S) d bk HL hz (by omega) hC hN;have aV:=ak aa.xh.box;have aD:=ak hq;obtain⟨ax,bb,HQ,av⟩:=fY aa ad hq br;clear aa ad ca bc HX hq bm br;go_wp2_with fail
 apply bl.mono;rintro an bE⟨rfl,hw⟩;subst bE;clear bl;go_wp2_with fail
 rename_i QQ KK k;have n:aW W2.drew (R b 1)=H (aA f)/\aW W2.drew (R (z<|G W) 0)=H (ar j)/\aW W2.drew (R (z<|G W) 1)=H (I ao (y d) S):=⟨c1,q0,q1⟩;refine dR (λXqq=>aW Xqq (R b 1)=H (aA f)/\aW Xqq (R (z<|G W) 0)=H (ar j)/\aW Xqq (R (z<|G W) 1)=H (I ao (y d) S)) 10 (by kernel_rfl) ?_;refine fh 0 ?_;iterate 9 (refine iz (v:=?_) n rfl (by kernel_rfl) lk rfl ?_ ?_;rotate_left;(focus(rintro Xqq⟨z0,z1,z2⟩;go_simp;try rfl));simp only[Act.put,dW,iS,Nat.reduceAdd])
 apply ii;refine bj (i:=9) rfl rfl (by kernel_rfl) ?_;intro K9 m;go_simp;apply(av W2.drew<|cZ ay W2).mono;rintro an K⟨ev,rfl,al,s⟩;have o:XH Xqq w0 K b db t (aA f) mem a bv pv vs cd ba u aX (N+1):=(ax.still<|cZ ay W2).xh.nW al (λ_ q=>.inl q) (by omega);have x:K.heap[z<|G W]?=H (aw #[ar j,I ao (y d) S] 72 (0,0)):=(al.block _ (by exact aD)<|λq=>q.2<|.inr rfl).trans HQ;have bh:aW K (R b 1)=H (aA f)/\aW K (R (z<|G W) 0)=H (ar j)/\aW K (R (z<|G W) 1)=H (I ao (y d) S):=⟨cellAt o.box 1 rfl,cellAt x 0 rfl,cellAt x 1 rfl⟩;refine m _ _ (λ_=>bh) ?_;try simp only[Act.put,dW,iS]
 clear m;refine bj (i:=10) rfl rfl (by kernel_rfl) ?_;intro cj ap;go_simp;refine ap _ _ FQ ?_;try simp only[Act.put,dW,iS]
 clear ap bh n;refine eS (by kernel_rfl) ?_ _;show KK _ _;apply k;rcases s with⟨rfl,s⟩|⟨B,q,c3,rfl,au,O,l',ac,s⟩;rotate_left;(.have aF:XF Xqq w0 K b db f t mem a bv pv vs cd ba l' u aX (C+kX d) (N+1) c3:=⟨o,s.ij (Z.refl ay K) cL<|λch q=>.inl<|.inl q⟩;have Q:=rF au aF.cf.sN;(have b0:(c3==0)=aX:=by rcases O with rfl|rfl<;>rfl);have bf:=U aF;have r:=U x;have HC:=U<|And.intro O ac;clear k o x al s av ax HQ bb c1 q0 q1 aD aV aF au O ac;rw[B];(go_wp2_with fail);apply Q.mono;rintro an A⟨rfl,L⟩;have p:Z ay K A:=Z.aR L;have e:=bf.still p;have l:=(p.block _ (ak r) id).trans<|J r;have d2:=cellAt e.xh.jh.box 2 rfl;have f2:=cP (i:=2) e.xh.jh.box;have c4:=cellAt e.xh.box 4 rfl;have g:=e.KI ci;obtain⟨w,T⟩:∃w,cq A (R t 2) (aN ci)=w:=⟨_,rfl⟩;(have bn:t≠z (G W):=λan=>by have h1:=e.xh.jh.box;rw[an,l]at h1;cases h1);(have aU:w.heap[z<|G W]?=H (aw #[ar j,I ao (y d) S] 72 (0,0)):=by rw[<-T];exact((eZ A t 2<|aN ci).block _ (ak l)<|λan=>bn an.symm).trans l);rw[T]at g;have q0:=cellAt aU 0 rfl;have q1:=cellAt aU 1 rfl;have k4:=cellAt g.xh.box 4 rfl;have e1:ph ba d=yx ba d:=dH B;have e2:kX d=y d:=dH B;have P:=λXqq(V:Z ay w Xqq)=>BY (g.still V).xh.jh (I ao (y d) S) d aX (HL.aj (g.still V).cf.cd.aj<|λ_ _=>id) (by omega) (by omega) (g.still V).cf.cd.aj.size;obtain⟨F,D,bu⟩:=dz g P T;have cm:=ak g.xh.jh.box;clear g P l e p L Q bf r aU T;(go_wp2_with fail);rw[J bu];rename_i KK k;have n:aW w.drew (R b 4)=H (aA t)/\aW w.drew (R (z<|G W) 0)=H (ar j)/\aW w.drew (R (z<|G W) 1)=H (I ao (y d) S):=⟨k4,q0,q1⟩;refine jj (λXqq=>aW Xqq (R b 4)=H (aA t)/\aW Xqq (R (z<|G W) 0)=H (ar j)/\aW Xqq (R (z<|G W) 1)=H (I ao (y d) S)) 6 (by kernel_rfl) ?_;refine kF 0 ?_;(iterate 6 (refine uS (v:=?_) n rfl (by kernel_rfl) lk rfl ?_ ?_;rotate_left;(focus(rintro Xqq⟨z0,z1,z2⟩;go_simp;try rfl));simp only[Act.put,dW,iS,Nat.reduceAdd]));apply oC;refine fy (i:=6) rfl rfl (by kernel_rfl) ?_;intro K9 m;go_simp;apply(D w.drew<|cZ ay w).mono;rintro an W6⟨rfl,bL,cc,v',bg,bp,bo⟩;have bi:=(F.still<|cZ ay w).yq bp bg bo (by have:=(uG B).1;simp;omega);have bx:=U bi;have bt:=U F.xh.jh.sum;clear bg bp bo bi F D;refine m _ _ (λq=>by omega) ?_;(try simp only[Act.put,dW,iS]);clear m n;refine ju (by kernel_rfl) ?_ _;show KK _ _;apply k;clear k;go_wp2;(go_ret2);obtain⟨bT,ac⟩:=J HC;refine⟨c3,rfl,.inr<|.inr ⟨bT,λq=>by rcases q with q|q<;>subst q<;>simp at b4 b5,.inl ⟨_,_,_,_,_,_,_,_,_,_,_,bx,?_⟩⟩⟩;rcases ac with ck|ck;exact .inr ⟨rfl,cd,d,rfl,by rw[ck,J bt]⟩;exact .inl<|ck.trans e1);have o:XS Xqq w0 K b db f t mem a bv pv vs cd ba (ph ba d) u (C+kX d) (N+1) c:=⟨o,s.ij (Z.refl ay K) cL<|λch q=>.inl<|.inl q⟩;have Q:=BC (ga d) o.sN;obtain⟨bd,r⟩:=And.intro (U o) (U x);clear k o x al s av ax HQ bb c1 q0 q1 aD aV;go_wp2_with fail
 apply Q.mono;rintro an A⟨rfl,L⟩;have p:Z ay K A:=Z.aR L;have e:=bd.still p;have l:=(p.block _ (ak r) id).trans<|J r;clear Q L bd r;by_cases B:ga d=0;(.rw[B];have q0:=cellAt l 0 rfl;have q1:=cellAt l 1 rfl;have c4:=cellAt e.xh.box 4 rfl;have e1:ph ba d=yx ba d:=dH B;have e2:kX d=y d:=dH B;have P:=λXqq(V:Z ay A Xqq)=>BY (e.still V).xh.jh (I ao (y d) S) d bk (HL.aj (e.still V).cw.aj<|λ_ _=>id) (by omega) (by omega) (e.still V).cw.aj.size;obtain⟨E,D⟩:=And.intro (U e) (U P);clear e P l p;(go_wp2_with fail);rename_i KK k;have n:aW A.drew (R b 4)=H (aA t)/\aW A.drew (R (z<|G W) 0)=H (ar j)/\aW A.drew (R (z<|G W) 1)=H (I ao (y d) S):=⟨c4,q0,q1⟩;refine jj (λXqq=>aW Xqq (R b 4)=H (aA t)/\aW Xqq (R (z<|G W) 0)=H (ar j)/\aW Xqq (R (z<|G W) 1)=H (I ao (y d) S)) 9 (by kernel_rfl) ?_;refine kF 0 ?_;(iterate 9 (refine uS (v:=?_) n rfl (by kernel_rfl) lk rfl ?_ ?_;rotate_left;(focus(rintro Xqq⟨z0,z1,z2⟩;go_simp;try rfl));simp only[Act.put,dW,iS,Nat.reduceAdd]));apply oC;refine fy (i:=9) rfl rfl (by kernel_rfl) ?_;intro K9 m;go_simp;apply(D A.drew<|cZ ay A).mono;rintro an w⟨rfl,bL,cc,v',T,aU,aF⟩;have g:=(E.still<|cZ ay A).yq aU T aF (by have:=(uG B).1;simp;omega);rw[e1]at g;have F:=U g;clear T aU aF g E D;refine m _ _ (λq=>by omega) ?_;(try simp only[Act.put,dW,iS]);clear m n;refine ju (by kernel_rfl) ?_ _;show KK _ _;apply k;clear k;go_wp2;(go_ret2);exact⟨0,rfl,.inl ⟨rfl,_,_,_,_,_,_,_,_,_,F⟩⟩);(have b0:(ga d==0)=aX:=by simpa using B);have E:=U e;clear e l p;(go_wp2_with fail);apply(XM _ _).mono;rintro an w⟨rfl,T⟩;subst w;have e1:ph ba d=ba:=dF B;rw[e1]at E;(have aF:(!ga d==ga d)=aX:=by simp);clear B;go_wp2;(go_ret2);exact⟨0,rfl,.inl ⟨rfl,_,_,_,_,_,_,_,_,_,E⟩⟩
end
section
variable{Xqq:zd}{w0 W b:Y}{db sbqq:M}{mem a:X}{Cl:eV}{C N:M}{l:kD}{c:X}
theorem kB.lt{w:Y}(h:kB w):0<z (G w):=cC _ _ h
structure FR(w0 W:Y)(db sb:M)(mem kG:X)(Cl:eV)(C N:M)(l:kD)(c:X)(s:SR)(q:M):Prop where
 box:lQ W sb s 0 q
 err:lP W q c
 yA:s.closed=aX
 sN:kB W
 ne:sb≠0
 nx:∀b q',QG W b sb s q c q'->Z (sP w0 Cl) W b/\lP b q' c/\Gw w0 b db sb mem kG Cl C N l c aX
theorem Gw.run(n:Gw w0 W db sbqq mem a Cl C N l c aX):∃s q,FR w0 W db sbqq mem a Cl C N l c s q:=by
 have r:=n.sN;obtain⟨K,n,h⟩:=n;obtain⟨s,q,d,t,v⟩:=h.box;have p:=n.g0.2.2.lt;have o:=h.low;refine⟨s,q,d,t,v,r,by omega,λb w hF=>⟨hF.aj.mono<|λo p=>.inl ⟨by have k:o=sbqq:=p;omega,λu=>h.FH.2 (by have k:o=sbqq:=p;rw[<-k];exact u)⟩,hF.err,K,n.ij hF.aj (λo p=>by have k:o=sbqq:=p;rw[k];exact⟨h.low,h.FH.1⟩)<|λo u=>.inl u,⟨s,q,hF.box,hF.zn,v⟩,h.low,h.FH⟩⟩
end
structure SK(Xqq:zd)(w0 W:Y)(e db sb d:M)(mem kG:X)(bv f:ab)(g:gW)(B:cJ oa)(l i:kD)(safe:X)(j:Bool)(C N:M)(c:X)(m:cJ M):Prop where
 xf:XF Xqq w0 W e db sb d mem kG bv f g B l i safe j C N c
 fs:∀q∈m,lP W q c
section
variable{Xqq:zd}{w0 W b:Y}{e db sbqq d:M}{mem a:X}{bv f:ab}{g:gW}{B:cJ oa}{l i:kD}{safe:X}{j:Bool}{C N:M}{c:X}{m:cJ M}
theorem SK.step(v:SK Xqq w0 W e db sbqq d mem a bv f g B l i safe j C N c m):∃s q,lQ W sbqq s 0 q/\lP W q c/\s.closed=aX/\kB W/\sbqq≠0/\∀b k,QG W b sbqq s q c k->SK Xqq w0 b e db sbqq d mem a bv f g B l i safe j C N c (k::m):=by
 obtain⟨s,q,h⟩:=v.xf.cf.run;refine⟨s,q,h.box,h.err,h.yA,h.sN,h.ne,λb k hF=>?_⟩;obtain⟨r,t,u⟩:=h.nx b k hF;refine⟨⟨v.xf.xh.nW r (λ_ q=>q)<|ah _,u⟩,λw n=>?_⟩;rcases bJ.1 n with o|o;rw[o];exact t;exact(v.fs w o).Qc hF.aj (λk o=>by have p:k=sbqq:=o;rw[p];exact⟨_,_,_,h.box,by decide⟩)
theorem SK.still(n:SK Xqq w0 W e db sbqq d mem a bv f g B l i safe j C N c m)(h:Z ay W b):SK Xqq w0 b e db sbqq d mem a bv f g B l i safe j C N c m:=⟨n.xf.still h,λq k=>(n.fs q k).aj h id⟩
structure XG(Xqq:zd)(w0 W:Y)(e db sb d:M)(mem kG:X)(bv f:ab)(g:gW)(B:cJ oa)(l i:kD)(safe:X)(j:Bool)(C N:M):Prop where
 xd:XD Xqq w0 W e db d (aA sb) mem kG bv f g B l i safe j C N False
 FH:¬Ns Xqq.E e d bv f g sb
 box:∃s q,lQ W sb s 0 q/\s.closed=ci
structure SC(Xqq:zd)(w0 W:Y)(e db sb d:M)(mem kG:X)(bv f:ab)(g:gW)(B:cJ oa)(l i:kD)(safe:X)(j:Bool)(C N:M)(c:X)(m:cJ M):Prop where
 xd:XD Xqq w0 W e db d (aA sb) mem kG bv f g B l i safe j C N False
 fs:∀q∈m,lP W q c
 FH:¬Ns Xqq.E e d bv f g sb
theorem SC.still(k:SC Xqq w0 W e db sbqq d mem a bv f g B l i safe j C N c m)(h:Z ay W b):SC Xqq w0 b e db sbqq d mem a bv f g B l i safe j C N c m:=⟨k.xd.still h,λq n=>(k.fs q n).aj h id,k.FH⟩
theorem SC.QT(h:SC Xqq w0 W e db sbqq d mem a bv f g B l i safe j C N c m){q:M}(k:q∈m):cY aZ 11 #[eD q] W λn b=>n=aM (ar c)/\SC Xqq w0 b e db sbqq d mem a bv f g B l i safe j C N c m/\Z ay W b:=by
 apply(rF (h.fs q k) h.xd.cd.sN).mono;rintro n b⟨rfl,d⟩;exact⟨rfl,h.still<|Z.aR d,Z.aR d⟩
theorem CD.C7{Cl:eV}{K:DK}{n:Prop}{k:M}(h:CD w0 W db mem a Cl K C N l n)(o:¬K.aO db k/\z (G w0)<=k/\k<z (G W)):CD w0 W db mem a (λx=>Cl x\/x=k) K C N l n:={h with cl:=λx q=>q.elim (h.cl x) (λp=>by rw[p];exact o)}
theorem SK.shut{S:SR}{q:M}(E:SK Xqq w0 W e db sbqq d mem a bv f g B l i safe j C N c m)(r:Z (λk=>k=sbqq) W b)(t:∃x P D,W.heap[sbqq]?=H (aw x P D)/\P≠201)(u:lQ b sbqq S 0 q)(L:lP b q c):SC Xqq w0 b e db sbqq d mem a bv f g B l i safe j C N c (q::m):=by
 obtain⟨Q,F,h⟩:=E.xf.cf;have K:=h.low;have s:Z (sP w0<|Ns Xqq.E e d bv f g) W b:=r.mono<|λk w=>.inl ⟨by have n:k=sbqq:=w;omega,λv=>h.FH.2 (by have n:k=sbqq:=w;rw[<-n];exact v)⟩;have h3:=(F.ij r (λk w=>by have n:k=sbqq:=w;rw[n];exact⟨h.low,h.FH.1⟩)<|λk v=>.inl v).C7 (k:=sbqq) ⟨h.FH.1,h.low,ak u⟩;refine⟨⟨E.xf.xh.nW s (λ_ q=>q)<|ah _,⟨Q,{h3 with cl:=λk v=>h3.cl k (Or.imp id (λo=>by cases o;rfl) v)}⟩,.inr ⟨sbqq,rfl,_,_,u⟩⟩,λO p=>?_,h.FH.2⟩;rcases bJ.1 p with o|o;rw[o];exact L;exact(E.fs O o).Qc r (λk o=>by have A:k=sbqq:=o;rw[A];exact t)
theorem SC.again{D:SR}{q:M}(h:SC Xqq w0 W e db sbqq d mem a bv f g B l i safe j C N c m)(x:lQ W sbqq D 0 q)(o:Z (λk=>k=sbqq) W b)(s:lQ b sbqq D 0 q):SC Xqq w0 b e db sbqq d mem a bv f g B l i safe j C N c m:=by
 obtain⟨K,t⟩:=h.xd.cd;have u:=t.cl sbqq<|.inr rfl;exact⟨⟨⟨(o.block e (ak h.xd.xh.box)<|λp=>h.FH<|.inl<|Eq.symm p).trans h.xd.xh.box,h.xd.xh.jh.aj o<|λk w p=>h.FH<|.inr<|.inl (by have n:k=sbqq:=p;rw[<-n];exact w),h.xd.xh.j9,h.xd.xh.CJ,h.xd.xh.num,λk q=>⟨(h.xd.xh.ext k q).1,(o.block k (h.xd.xh.ZN q)<|λp=>h.FH<|.inr<|.inr (by have n:k=sbqq:=p;rw[<-n];exact q)).trans (h.xd.xh.ext k q).2.1,(h.xd.xh.ext k q).2.2⟩⟩,⟨K,t.ij o (λk E=>by have v:k=sbqq:=E;rw[v];exact⟨u.2.1,u.1⟩)<|λk F=>.inl F⟩,.inr ⟨sbqq,rfl,_,_,s⟩⟩,λA r=>(h.fs A r).Qc o (λk p=>by have n:k=sbqq:=p;rw[n];exact⟨_,_,_,x,by decide⟩),h.FH⟩
theorem QZ(h:XF Xqq w0 W e db sbqq d mem a bv f g B l i safe j C N c):cY aZ 22 #[aA e,ar c] W λav b=>av=aM (aN ci)/\XG Xqq w0 b e db sbqq d mem a bv f g B l i safe j C N:=by
 have c1:=cellAt h.xh.box 1 rfl;have k:SK Xqq w0 W e db sbqq d mem a bv f g B l i safe j C N c []:=⟨h,by simp⟩;obtain⟨cj,q,n,o,p,r,s,t⟩:=k.step;have hg:=Yk ⟨#[97]⟩ n p o r s;have HX:=U t;clear h k n o p r s t;go_in
 go_wp2_with fail
 apply hg.mono;rintro av W1⟨q1,rfl,hF⟩;have k:=HX W1 q1 hF;have c1:=cellAt k.xf.xh.box 1 rfl;obtain⟨s1,r1,n,o,p,r,s,t⟩:=k.step;have bp:=QJ az aX n p o r s;have bg:=U t;clear k n o p r s t HX hF hg;go_wp2_with fail
 apply bp.mono;rintro av W2⟨q2,rfl,hF⟩;have k:=bg W2 q2 hF;have c1:=cellAt k.xf.xh.box 1 rfl;obtain⟨s2,r2,n,o,p,r,s,t⟩:=k.step;have bq:=UA ⟨#[]⟩ ⟨#[]⟩ 1 n p o r s;have bh:=U t;clear k n o p r s t bg hF bp;go_wp2_with fail
 apply bq.mono;rintro av W3⟨q3,rfl,hF⟩;have k:=bh W3 q3 hF;have c1:=cellAt k.xf.xh.box 1 rfl;obtain⟨s3,r3,n,o,p,r,s,t⟩:=k.step;have br:=IL n p o r s;have bi:=U t;clear k n o p r s t bh hF bq;go_wp2_with fail
 apply br.mono;rintro av W4⟨q4,rfl,hF⟩;have k:=bi W4 q4 hF;have c1:=cellAt k.xf.xh.box 1 rfl;obtain⟨s4,r4,n,o,p,r,s,t⟩:=k.step;have bs:=Rn n p o r s;have bk:=U t;clear k n o p r s t bi hF br;go_wp2_with fail
 apply bs.mono;rintro av W5⟨q5,rfl,hF⟩;have k:=bk W5 q5 hF;have c1:=cellAt k.xf.xh.box 1 rfl;obtain⟨s5,r5,n,o,p,r,s,t⟩:=k.step;have bt:=IX ⟨#[]⟩ ⟨#[]⟩ 3 (by omega) n p o r s;have bl:=U t;clear k n o p r s t bk hF bs;go_wp2_with fail
 apply bt.mono;rintro av W6⟨rfl,q6,hF⟩;have k:=bl W6 q6 hF;have c1:=cellAt k.xf.xh.box 1 rfl;obtain⟨s6,r6,hR⟩:=k.xf.cf.run;have bu:=TG hR.box hR.yA hR.err;have bf:=U k;have aF:=U hR.box;clear k bl hF bt hR;go_wp2_with fail
 apply bu.mono;rintro av W7⟨rfl,bE,w,bL⟩;have hC:=bf.shut bL ⟨_,_,_,aF,by decide⟩ w bE;have c1:=cellAt hC.xd.xh.box 1 rfl;have bx:=Io w rfl;have bb:=U hC;have aU:=U w;clear hC bf bu bE w bL aF;go_wp2_with fail
 apply bx.mono;rintro av W8⟨rfl,ax,bT⟩;have bm:=bb.again aU bT ax;have bc:=U bm;have aV:=U ax;clear bm bb aU bx ax bT;go_wp2_with fail
 have ch:(c==c)=ci:=by simp
 apply(bc.QT (q:=q1)<|by simp).mono;rintro av W9⟨rfl,bn,bo⟩;have bd:=U bn;have ba:=U<|(J aV).aj bo id;clear bn bc bo aV;go_wp2_with fail
 apply(bd.QT (q:=q2)<|by simp).mono;rintro av ca⟨rfl,T,al⟩;have K:=U T;have x:=U<|(J ba).aj al id;clear T bd al ba;go_wp2_with fail
 apply(K.QT (q:=q3)<|by simp).mono;rintro av cb⟨rfl,V,an⟩;have L:=U V;have A:=U<|(J x).aj an id;clear V K an x;go_wp2_with fail
 apply(L.QT (q:=q4)<|by simp).mono;rintro av cc⟨rfl,aa,ao⟩;have O:=U aa;have D:=U<|(J A).aj ao id;clear aa L ao A;go_wp2_with fail
 apply(O.QT (q:=q5)<|by simp).mono;rintro av cd⟨rfl,ac,ap⟩;have P:=U ac;have E:=U<|(J D).aj ap id;clear ac O ap D;go_wp2_with fail
 apply(P.QT (q:=r6)<|by simp).mono;rintro av ce⟨rfl,ad,au⟩;have u:=U ad;have F:=U<|(J E).aj au id;clear ad P au E;go_wp2_with fail
 apply(BC 6 u.xd.cd.sN).mono;rintro av cf⟨rfl,v⟩;have Q:=U<|u.still<|Z.aR v;have aD:=U<|(J F).aj (Z.aR (S:=ay) v) id;clear v u F;go_wp2;go_ret;exact⟨rfl,Q.xd,Q.FH,_,_,aD,rfl⟩
end
section
variable{Xqq:zd}{w0 W d:Y}{c:M}{mem a:X}{C C' N N':M}{b:Prop}{kd:X}{e:Ending}
theorem xu.mono(v:xu Xqq w0 W c mem a C N b)(o:C<=C')(j:C'<=1000000)(r:N<=N')(l:N'<=100000000):xu Xqq w0 W c mem a C' N' b:=by
 obtain⟨n,h,s,m,t,u,B,w,g,q⟩:=v;exact⟨n,h,s,m,t,u,B,w,g,q.mono o j r l⟩
theorem o6.mono{O:X}(Q:o6 Xqq w0 W c mem a C N O)(n:C<=C')(l:C'<=1000000)(o:N<=N')(m:N'<=100000000):o6 Xqq w0 W c mem a C' N' O:=by
 obtain⟨s,h,w,r,K,L,B,V,D,g,E,q,A⟩:=Q;obtain⟨P,h1,t⟩:=q.cf;obtain⟨j,u,v⟩:=h1.oN;exact⟨s,h,w,r,K,L,B,V,D,g,E,⟨q.xh.mono o,P,{h1 with oN:=⟨j,u.mono n o,v⟩,kK:=l,zF:=m,len:=aC h1.len n},t⟩,A⟩
theorem Uc.mono{m:ab}(D:Uc Xqq w0 W c m mem a C N)(r:C<=C')(h:C'<=1000000)(l:N<=N')(j:N'<=100000000):Uc Xqq w0 W c m mem a C' N':=by
 obtain⟨o,s,n,w,A,B,E,u,g,v,q,t⟩:=D;exact⟨o,s,n,w,A,B,E,u,g,v,⟨q.xh.mono l,q.cd.mono r h l j id,q.l9⟩,t⟩
theorem Bq.mono(s:Bq Xqq w0 W c mem a C N b kd e)(m:C<=C')(g:C'<=1000000)(n:N<=N')(h:N'<=100000000):Bq Xqq w0 W c mem a C' N' b kd e:=by
 obtain⟨r,rfl,⟨j,l⟩|⟨j,l,o⟩|⟨j,l,o⟩⟩:=s;exact⟨r,rfl,.inl ⟨j,l.mono m g n h⟩⟩;exact⟨r,rfl,.inr<|.inl ⟨j,l,o.mono m g n h⟩⟩;exact⟨r,rfl,.inr<|.inr ⟨j,l,o.imp (λq=>q.mono m g n h)<|λq=>q.mono m g n h⟩⟩
theorem Wn(k:xu Xqq w0 W c mem a C N b)(kd:X)(x:Option Addr)(f:oa)(j:M)(p:Do w0 (I x (y f) j) f)(r:∀i∈f,i.key.size<=140737488351232/\i.val.size<=140737488351232)(s:y f<=100000000)(h:C+kX f<=1000000)(g:N+1<=100000000):cY aZ 20 #[aA c,dC #[ar kd,I x (y f) j]] W λe d=>Bq Xqq w0 d c mem a (C+kX f) (N+1) b kd e:=by
 by_cases l:kd=2;subst l;exact(JJ k x (y f) j g).mono<|λe d q=>q.mono (by omega) h (ah _) g;by_cases m:kd=3;subst m;exact(Pf k x (y f) j g).mono<|λe d q=>q.mono (by omega) h (ah _) g;by_cases n:kd=4;subst n;exact(Wm k x f j p r).mono<|λe d q=>q.mono (by omega) h (Nat.le_succ _) g;by_cases o:kd=5;subst o;exact(Ty k x (y f) j).mono<|λe d q=>q.mono (by omega) h (Nat.le_succ _) g;exact Pe k kd x f j ⟨l,m,n,o⟩ p r s h g
end
theorem ZK(f:oa):y f<=Kl f:=by
 induction f with
 |nil=>simp
 |cons h f g=>
  unfold Kl at*;simp;omega
theorem Lb{m:Func}{s:Tmp}(u:m.results=#[.cell s 29])(c:Array ab)(w:Y)(o:M)(x d:X)(t:TypeId)(n:M×M)(r:c.getD s iH=aA o)(p:w.heap[o]?=H (aw #[ar x,ar d] t n)):(results m c).run aZ w=.ok (dC #[ar x,ar d]) w:=by
 have k:c[s]?.getD iH=aA o:=by simpa using r
 have q:=ku (P:=aZ) w o t 29 #[ar x,ar d] n _ p underlying29 rfl (by kernel_rfl);simp[results,u,k,asAddr,q]
theorem RC(c T:X)(w:Y):cY aZ 6 #[ar c,ar T] w λk d=>(∃m t,k=aM (dC #[ar m,ar t])/\1<=m/\m<=32/\2<=t/\t<=6)/\Z ay w d:=by
 have n:=GY c 32 (by omega) (by omega);have o:=GY T 5 (by omega) (by omega);go_in
 go_wp2;refine ct (Lb rfl _ _ (z<|G w) (1+wrap64 ((IntKind.u64.wrap c).tmod 32)) (2+wrap64 ((IntKind.u64.wrap T).tmod 5)) _ _ rfl<|aJ _ rfl) rfl ?_;exact⟨⟨_,_,rfl,by omega,by omega,by omega,by omega⟩,cF ay w⟩
section
variable{Xqq:zd}{w0 W e:Y}{j db f:M}{mem a:X}{Cl:eV}{C N:M}{l:kD}
theorem JM{c:M}(E:uc w0 W db c mem a Cl C N l True):cY aZ 16 #[aA c] W λA e=>∃w,A=aM (dq #[w,ar 0])/\TU W e w l/\Z (sP w0 Cl) W e/\uc w0 e db c mem a Cl C N l True:=by
 have k:=Qs E ⟨#[]⟩ ⟨#[]⟩ 0;rw[MX]at k;clear E;go_in
 go_wp2_with fail
 apply k.mono;rintro A v⟨⟨L,rfl,d⟩|⟨D,_⟩,o,n⟩;rotate_left;exact absurd trivial D;obtain⟨K,F,u⟩:=aB d;subst u;obtain⟨r,s,p⟩:=dz d o n;clear d o n k;go_wp2_with fail
 apply(mQ v).mono;rintro A x⟨rfl,t⟩;have m:Z ay v x:=Z.aR t;go_wp2;go_ret2
 exact⟨_,rfl,m.own r<|λ_ _ q=>q,s.cz m,p.still m⟩
end
theorem Ia:∀(B:cJ oa)(l:kD),y (B.foldl yx l)<=y l+(B.map y).sum
 |[],l=>by simp
 |c::B,l=>by
  have d:=Ia B<|yx l c;have k:=zU l c;simp;omega
theorem QX(B:cJ oa)(k:M):((B.take k).map y).sum<=(B.map y).sum:=by
 have c:(B.map y).sum=((B.take k).map y).sum+((B.drop k).map y).sum:=by rw[<-fw,<-aP,bV]
 omega
theorem DX:∀{B:cJ oa}{c:oa},c∈B->y c<=(B.map y).sum
 |[],c,m=>by cases m
 |d::B,c,m=>by
  rcases bJ.1 m with k|k
  .rw[k];simp
  .have:=DX k;simp;omega
section
variable{n0 f:M}{W e:Y}{bv i:ab}{b:gW}{B:cJ oa}{l g:kD}{safe:X}{h:Bool}
theorem HB.bO(p:HB n0 W f bv i b B l safe h){k:M}(t:k<y B):∃v r c,b[k]?=H v/\bv=bD r 0 (y b) c/\y b<=c/\aW W (R r k)=H v/\Gv W v B[k]/\∀q,cK v=H q->q<z (G W):=by
 have A:=p.len;obtain⟨v,d⟩:∃v,b[k]?=H v:=⟨_,aQ<|by omega⟩;obtain⟨r,c,w,_,_,m⟩:=rY p.own (by omega);refine⟨v,r,c,d,w,m,?_,p.each k _ _ d<|aQ t,λq u=>(p.sA v (eK d) q u).2.1⟩;have:=(dJ p.own).2;rcases this with⟨q,D⟩|⟨x,n,o,q,_,s⟩;omega;rw[w]at q;cases q;have:=s k _ d;simpa using this
theorem Oj{aF:ab}(aU:HB n0 W f bv i b B l safe h)(hv:rU W aF g)(ac:∀q,cK aF=H q->q<z (G W))(ba:y g<=1000000000)(hB:y B<=1000000000)(bh:(B.map y).sum<=1000000000)(hn:∃E:M,safe<=E/\E<=y B/\g=(B.take E).foldl yx []):cY aZ 17 #[aA f,aF] W λA e=>A=aM (aN ci)/\Z ay W e:=by
 obtain⟨Q,E,P,av⟩:∃Q E P,aF=I Q E P:=by rcases hv.shape with A|⟨bk,w,d,A⟩<;>exact⟨_,_,_,A⟩
 subst av;obtain⟨ax,bd,bf,aa⟩:=hn;have bi:=aU.len;obtain⟨HH,HV,an⟩:=dz aU hv ac;have al:=U aa;clear aU hv ac aa;go_in
 go_wp2;go_loopw [5,6] (λp c wr=>∃n:M,n<=ax/\c=ar n/\rU wr p ((B.take n).foldl yx [])/\(∀q,cK p=H q->q<z (G wr))/\Z ay W wr) (λ_ c _=>ax+1-(intOf c).toNat)
 case atStart=>exact⟨0,bP _,by go_num,⟨rfl,.inl ⟨rfl,rfl⟩⟩,λq A=>(by cases A),Z.refl _ _⟩
 case round=>
  obtain⟨n,hk,rfl,hp,L,ht⟩:=hrel;have r:=HH.aj ht<|λ_ _=>id;have d0:=cellAt r.box 0 rfl;have d1:=cellAt r.box 1 rfl;obtain⟨bx,bc,ao⟩:=aB r.own;subst ao;have ap:=Ia (B.take n) [];have aV:=QX B n;simp only[dG]at ap;have ad:rU wr (I Q E P) g:=ht.row HV<|λq hq=>⟨id,an q hq⟩;have m:=uU ad hp (by omega) (by omega);obtain⟨px,pn,pc,au⟩:∃Q E P,u5=I Q E P:=by
   rcases hp.shape with A|⟨bk,w,d,A⟩<;>exact⟨_,_,_,A⟩
  subst au;have f1:(n:X)<=(y b:X):=by omega
  obtain⟨bb,K⟩:∃bb,decide (g=(B.take n).foldl yx [])=bb:=⟨_,rfl⟩;rw[K]at m;have D:bb=aX\/(n:X)<safe->n<ax:=λS=>by
   rcases ik n ax with q|q
   .exact q
   .have D:n=ax:=by omega
    rcases S with S|S
    .rw[<-K,decide_eq_false_iff_not,D]at S;exact absurd (J al) S
    .omega
  have o:=U (show n<ax->∀x,Z ay wr x->∃O S d,bx=H (R S 0)/\bc=d/\y b<=d/\aW x (R S n)=H O/\(∃Q E P,O=I Q E P)/\aW x (R f 0)=H (I bx (y b) bc)/\cY aZ 40 #[I px pn pc,O] x λA F=>∃Q E P,A=aM (I Q E P)/\rU F (I Q E P) ((B.take<|n+1).foldl yx [])/\(∀q,cK (I Q E P)=H q->q<z (G F))/\Z ay x F fromλk x c=>by
   have v:=r.aj c<|λ_ _=>id;obtain⟨O,S,d,e0,V,e2,e3,e4,e5⟩:=v.bO (k:=n) (by omega);cases V;refine⟨O,S,_,rfl,rfl,e2,e3,?_,cellAt v.box 0 rfl,?_⟩
   .obtain⟨y1,y2,y3⟩:=bY e4;exact⟨_,_,_,y3⟩
   .have aD:=DX (aq (l:=B) (n:=n)<|by omega);apply(Wj B[n] (c.row hp<|λq hq=>⟨id,L q hq⟩) (λq hq=>ag (L q hq) c.size) e4 e5<|by omega).mono;rintro A F⟨p',rfl,h1,h2,_,h4⟩;obtain⟨y1,y2,y3,hy⟩:∃Q E P,p'=I Q E P:=by
     rcases h1.shape with A|⟨bk,w,d,A⟩<;>exact⟨_,_,_,A⟩
    subst hy;refine⟨_,_,_,rfl,?_,h2,Z.aR h4⟩;rw[ai (by omega),gK];exact h1)
  have HT:=U ht;have T:=U D;clear r ad hp L ht K D HH;by_cases bg:safe<=(n:X)
  .cases bb with
   |true=>
    go_wp2_with fail
    apply m.mono;rintro A x⟨rfl,q1,v⟩;have c:Z ay wr x:=by rw[v];exact iY _ _ _
    have F:=U<|HT.cz c;clear v c m;go_wp2;go_ret;exact⟨rfl,F⟩
   |false=>
    have k:=T<|.inl rfl;have f2:(n:X)<(y b:X):=by omega
    have f0:(0:X)<=(n:X):=by omega
    go_wp2_with fail
    apply m.mono;rintro A x⟨rfl,q1,v⟩;have c:Z ay wr x:=by rw[v];exact iY _ _ _
    obtain⟨O,S,d,V,e2,e3,e4,⟨y1,y2,y3,hy⟩,e5,p⟩:=o k x c;subst V e2 hy;have F:=U<|HT.cz c;clear v c m d0 d1;go_wp2_with fail
    apply p.mono;rintro A w2⟨z1,z2,z3,rfl,t,s,u⟩;have HF:=U<|And.intro t (And.intro s (F.cz u));clear t s u p;go_wp2;go_roundw;case rel=>exact⟨n+1,k,by go_num,HF⟩
    case measure=>simp[intOf];omega
  .have k:=T (.inr<|by omega);have f2:(n:X)<(y b:X):=by omega
   have f0:(0:X)<=(n:X):=by omega
   obtain⟨O,S,d,V,e2,e3,e4,⟨y1,y2,y3,hy⟩,e5,p⟩:=o k wr<|Z.refl _ _;subst V e2 hy;clear m;go_wp2_with fail
   apply p.mono;rintro A w2⟨z1,z2,z3,rfl,t,s,u⟩;have HF:=U<|And.intro t (And.intro s (HT.cz u));clear t s u p;go_wp2;go_roundw;case rel=>exact⟨n+1,k,by go_num,HF⟩
   case measure=>simp[intOf];omega
end
theorem Gh:(prog.info? 54).map (λj=>(j.zero,j.size,j.bytes))=H (H<|dC #[am ⟨#[]⟩,am ⟨#[]⟩,aN aX],3,40):=by kernel_rfl
def Vh(p:KV):Ki:=⟨p.1,p.2,aX⟩
theorem GO{m v:ae}:∀(l j:kD),(∀p∈l,ja p.1 m=ci)->l.foldl (fN m v) (j,aX)=(j++l,aX)
 |[],j,_=>by simp
 |p::l,j,r=>by
  have k:=r p (by simp);have n:¬p.1=m:=λj=>by rw[j]at k;simp[fO]at k
  rw[iF,show fN m v (j,aX) p=(j++[p],aX)from GJ k n,GO l _<|λq o=>r q<|du _ o];simp
theorem Rp{k v:ae}{l:kD}(j:∀p∈l,ja p.1 k=ci):ug l k v aX=l++[(k,v)]:=by
 unfold ug oM;rw[GO l [] j];simp
theorem Qr:∀(l j:kD),xw (j++l)->yx j (l.map Vh)=j++l
 |[],j,_=>by simp[yx]
 |p::l,j,n=>by
  have k:∀q∈j,ja q.1 p.1=ci:=λq m=>(bQ.1 n).2.2 q m p (by simp);have m:yx j ((p::l).map Vh)=yx (ug j p.1 p.2 aX) (l.map Vh):=rfl;rw[m,Rp k,Qr l (j++[p])<|by simpa using n];simp
theorem VL{W:Y}{k d:M}(m:W.heap[d]?=H (aw #[az,ar 0,aN aX,az] 35 (0,0))):HB k W d az az [] [] [] 0 aX:=⟨m,cO _ _ _ _,λn _ _ _ j=>(by cases j),rfl,by simp,by simp,⟨rfl,.inl ⟨rfl,rfl⟩⟩,λn q=>(by cases q),rfl,λq=>by cases q⟩
section
variable{Xqq:zd}{w0 W e:Y}{b db sbqq d:M}{mem a:X}{bv g sv:ab}{h:gW}{B:cJ oa}{l c:kD}{safe:X}{i:Bool}{C N:M}{f:Prop}
theorem XH.XN{s:eV}(r:XH Xqq w0 W b db d (aA sbqq) mem a bv g h B l safe i N)(v:uc w0 W db sbqq mem a s C N c f)(j:s b)(t:∀k,Xqq.E k->s k)(E:Z ay W e){p:M}(O:z (G W)<=p)(x:e.heap[p]?=H (aw #[az,ar 0,aN aX,az] 35 (0,0))):XS Xqq w0 (cq e (R b 4)<|aA p) b db sbqq p mem a az az [] [] [] c 0 C N f:=by
 have F:=r.still E;have P:=ak r.box;have u:=F.box;have m:=eZ e b 4<|aA p;have A:p≠b:=by omega
 have n:Z (λk=>k=b) W (cq e (R b 4)<|aA p):=(E.mono (T:=λk=>k=b) cL).trans m<|λ_ q=>.inl q;have w:p<z (G<|cq e (R b 4)<|aA p):=by rw[gP];exact ak x
 refine⟨⟨(aH u).trans rfl,VL<|(m.block p (ak x)<|λD=>A D).trans x,?_,r.CJ,by simp,λk q=>⟨(r.ext k q).1,(n.block k (r.ZN q)<|λD=>(r.ext k q).2.2.1 D).trans (r.ext k q).2.1,(r.ext k q).2.2.1,?_⟩⟩,v.ij n (λk q=>?_)<|λk q=>?_⟩;rintro(q|q|q|⟨L,o,q⟩);omega;cases q;cases q;cases o;have K:=r.ZN q;rintro(q|q|q|⟨L,o,q⟩);omega;cases q;cases q;cases o;have D:k=b:=q;subst D;exact⟨j,r.Qc v.ie<|.inr ⟨sbqq,rfl,v.L6⟩⟩;rcases q with q|(q|q|q|⟨L,o,q⟩)|q;rw[q];exact .inl j;exact .inr ⟨by omega,by rw[q];exact w⟩;cases q;cases q;cases o;exact .inl<|t k q
def I6(Xqq:zd)(w0 W:Y)(b:M)(mem a:X)(C N:M)(j:Ending):Prop:=(j=aM (ar 0)/\xu Xqq w0 W b mem a C N True)\/j=aM (ar 2)/\Z ay w0 W
theorem tI(en:XD Xqq w0 W b db d sv mem a bv g h B l c safe i C N f)(hn:∃s:M,safe<=s/\s<=y B/\c=(B.take s).foldl yx [])(hN:N+1<=100000000):cY aZ 7 #[aA b] W λx e=>I6 Xqq w0 e b mem a C (N+1) x:=by
 have eq:=en.xh.num;have c0:=cellAt en.xh.box 0 rfl;have cc:=Yx en.cd;have HX:=U en;have HN:=U hn;clear en hn;go_in
 go_wp2_with fail
 apply cc.mono;rintro x W1⟨F,rfl,bd,ca⟩;have T:=HX.xh.still bd;have co:=(HX.still bd).l9;have c0:=cellAt T.box 0 rfl;have g0:=cP (i:=0) T.box;obtain⟨A,K⟩:∃A,cq W1 (R b 0) (aA F)=A:=⟨_,rfl⟩;have cB:XH Xqq w0 A b F d sv mem a bv g h B l safe i N:=by rw[<-K];exact T.Xt F
 have cb:PH w0 A F mem a (C8 Xqq.E b d bv g h sv) C N c True:=by rw[<-K];exact ca.ij (eZ W1 b 0<|aA F) (λcT q=>.inl<|.inl q)<|λcT q=>.inl q
 have cp:sv=cX none\/∃sbqq,sv=aA sbqq/\WZ A sbqq:=co.imp id<|λ⟨sbqq,x,V,fr,q⟩=>⟨sbqq,x,V,fr,by rw[<-K];refine((eZ W1 b 0<|aA F).block sbqq (ak q)<|λdr=>?_).trans q;have j:sbqq=b:=dr;have u:=T.box;unfold PD at u;rw[<-j,q]at u;cases u⟩;obtain⟨t,bg,bn,br⟩:=fY cB cb cp K;clear T co cB cb cp ca bd cc HX K;go_wp2_with fail
 rename_i KK bE;rw[J br];clear c0 g0 br;have e0:=cellAt t.box 0 rfl;have e2:=cellAt t.box 2 rfl;have e3:=cellAt t.box 3 rfl;have cj:=TI (bg.still<|cZ ay A) t.CJ;have bL:aW A.drew (R b 0)=H (aA F)/\aW A.drew (R b 2)=H (ar mem)/\aW A.drew (R b 3)=H (ar a):=⟨e0,e2,e3⟩;refine dR (λXqq=>aW Xqq (R b 0)=H (aA F)/\aW Xqq (R b 2)=H (ar mem)/\aW Xqq (R b 3)=H (ar a)) 13 (by kernel_rfl) ?_;refine fh 0 ?_;iterate 8 (refine iz (v:=?_) bL rfl (by kernel_rfl) lk rfl ?_ ?_;rotate_left;(focus(rintro Xqq⟨z0,z1,z2⟩;go_simp;try rfl));simp only[Act.put,dW,iS,Nat.reduceAdd])
 apply ii;refine bj (i:=8) rfl rfl (by kernel_rfl) ?_;intro K8 bx;go_simp;apply cj.mono;rintro x W6⟨ey,ew,rfl,al,n⟩;have w:=(t.still<|cZ ay A).nW al (λ_ q=>.inl q)<|ah _;have aa:aW W6 (R b 0)=H (aA F)/\aW W6 (R b 2)=H (ar mem)/\aW W6 (R b 3)=H (ar a):=⟨cellAt w.box 0 rfl,cellAt w.box 2 rfl,cellAt w.box 3 rfl⟩;refine bx _ _ (λ_=>aa) ?_;try simp only[Act.put,dW,iS]
 clear bx cj;refine fh 9 ?_;iterate 3 (refine iz (v:=?_) aa rfl (by kernel_rfl) lk rfl ?_ ?_;rotate_left;(focus(rintro Xqq⟨z0,z1,z2⟩;go_simp;try rfl));simp only[Act.put,dW,iS,Nat.reduceAdd])
 apply ii;refine bj (i:=12) rfl rfl (by kernel_rfl) ?_;intro et au;go_simp;refine au _ _ (λ_=>aa) ?_;try simp only[Act.put,dW,iS]
 clear au;refine bj (i:=13) rfl rfl (by kernel_rfl) ?_;intro eu av;go_simp;refine av _ _ FQ ?_;try simp only[Act.put,dW,iS]
 clear av aa bL;refine eS (by kernel_rfl) ?_ _;show KK _ _;apply bE;clear bE e0 e2 e3;rcases n with⟨rfl,rfl,ek,n⟩|⟨q,rfl,rfl,cn,n⟩;rotate_left;(.have j:=rF cn n.sN;have m:=U n.aj;have ch:∀er:Y,(binOp .eql 36 (cX none)<|cX none).run aZ er=.ok (aN ci) er:=λ_=>rfl;clear cn n al w;(go_wp2_with fail);apply j.mono;rintro x W7⟨rfl,L⟩;have k:=U<|m.cz<|Z.aR (S:=ay) L;clear L j;go_wp2;go_ret;exact .inr ⟨rfl,k⟩);have cr:sv=cX none\/∃sbqq,sv=aA sbqq/\WZ W6 sbqq:=bn.imp id<|λ⟨sbqq,x,V,fr,q⟩=>⟨sbqq,x,V,fr,(al.block sbqq (ak q)<|λdr=>dr.2<|.inr x).trans q⟩;obtain⟨sbqq,cw⟩:∃sbqq,z (G A.drew)+2=sbqq:=⟨_,rfl⟩;rw[cw]at n|-;have ch:∀er:Y,(binOp .eql 36 (aA sbqq)<|cX none).run aZ er=.ok (aN aX) er:=λ_=>rfl;obtain⟨bs,bh,bo⟩:=dz w n cr;clear w n cr al ek cw t bg bn;go_wp2_with fail
 apply(mQ W6).mono;rintro x W7⟨rfl,L⟩;have an:Z ay W6 W7:=Z.aR L;have cd:=JM<|bh.still an;have bt:=U<|bs.still an;have bp:=U (show sv=cX none\/∃sbqq,sv=aA sbqq/\WZ W7 sbqq from bo.imp id<|λ⟨sbqq,x,V,fr,q⟩=>⟨sbqq,x,V,fr,(an.block sbqq (ak q) id).trans q⟩);clear an L bs bh bo;go_wp2_with fail
 apply cd.mono;rintro x W8⟨v8,rfl,O,ao,ad⟩;have ap:=bt.nW ao (λ_ q=>.inl q)<|ah _;have cs:sv=cX none\/∃sbqq,sv=aA sbqq/\WZ W8 sbqq:=bp.imp id<|λ⟨sbqq,x,V,fr,q⟩=>⟨sbqq,x,V,fr,(ao.block sbqq (ak q)<|λdr=>dr.2<|.inr x).trans q⟩;have eo:y c<=C/\C<=1000000:=by obtain⟨fe,eA,fd,eB,dm,em,fb,dk,dc,hc⟩:=ad;exact⟨hc.len,hc.inv.st.kK⟩
 have cx:xw c:=by obtain⟨fe,eA,fd,eB,dm,em,fb,dk,dc,hc⟩:=ad;exact hc.Bi.1
 obtain⟨gx,gc,eb⟩:=aB O;subst eb;have c4:=cellAt ap.box 4 rfl;have cl:=Oj ap.jh (dJ O) (λq u=>(O.lt q u).2) (by omega) (by omega) (by omega) HN;obtain⟨aV,bi,bq,aU,dv⟩:=iO ap ad cs O cx;have el:=ao.size;clear ap ad cs O cx ao bt bp cd;go_wp2_with fail
 apply cl.mono;rintro x D⟨rfl,P⟩;have o:=aV.still P;have bb:=bi.still P;have cu:sv=cX none\/∃sbqq,sv=aA sbqq/\WZ D sbqq:=bq.imp id<|λ⟨sbqq,x,V,fr,q⟩=>⟨sbqq,x,V,fr,(P.block sbqq (ak q) id).trans q⟩;have c1:=cellAt o.box 1 rfl;have g1:=cP (i:=1) o.box;have c4:=cellAt o.box 4 rfl;have g4:=cP (i:=4) o.box;have cE:=ak o.box;have aF:XH Xqq w0 (cq D (R b 1)<|aA sbqq) b F d (aA sbqq) mem a bv g h B l safe i N:=o.rH _;have ax:uc w0 (cq D (R b 1)<|aA sbqq) F sbqq mem a (C8 Xqq.E b d bv g h sv) C N c True:=bb.ij (eZ D b 1<|aA sbqq) (λcT q=>by have q':cT=b:=q;rw[q'];exact⟨.inl<|.inl rfl,o.Qc bb.ie cu⟩)<|λcT q=>.inl q;have p:=aF.XN ax (.inl<|.inl rfl) (λcT q=>.inl<|.inr<|.inr q) (cF ay _) (ah _)<|aJ (aw #[az,ar 0,aN aX,az] 35) rfl;rw[gP,World.setCell_alloc_past _ _ _ _ (by rw[gP];exact cE)]at p;have bl:=U (show∀Xqq:Y,Z (λcT=>cT=b) D Xqq->rU Xqq (I gx (y c) gc) c/\∀q,cK (I gx (y c) gc)=H q->q<z (G D)fromλXqq hX=>by have k:=P.own aU<|λ_ _ q=>q;refine⟨hX.row (dJ k)<|λq u=>⟨λx=>?_,(k.lt q u).2⟩,λq u=>(k.lt q u).2⟩;have Q:q=b:=x;have:=(aU.lt q u).1;have aD:=ak aV.box;obtain⟨r,m⟩:=fE k u;have j:=o.box;unfold PD at j;rw[<-Q,m]at j;cases j);have bu:=U p;clear cl aF ax o bb cu p aV bi bq aU P;go_wp2_with fail
 obtain⟨E,ac⟩:∃E,cN (cq (cq D (R b 1)<|aA sbqq) (R b 4)<|aA<|z<|G D) (aw #[az,ar 0,aN aX,az] 35)=E:=⟨_,rfl⟩;have bf:Z (λcT=>cT=b) D E:=by rw[<-ac];exact(((gZ b D).setCell b 4 _<|.inl rfl)).alloc _
 obtain⟨ck,cm⟩:=bl E bf;have cM:=bf.size;obtain⟨dr,hg⟩:∃dr,z (G D)=dr:=⟨_,rfl⟩;have p:=J bu;rw[ac,hg]at p;rw[ac];obtain⟨dx,ds,bm⟩:=dz p ck (show∀q,cK (I gx (y c) gc)=H q->q<z (G E)fromλq u=>ag (cm q u) cM);obtain⟨i0,ec,eg,ei,ej⟩:=di Gh;clear bu p ck cm bf cM ac hg bl c1 g1 c4 g4 cE el;go_loopw [9,10] (λo dn wr=>∃s:M,s<=y c/\dn=ar s/\wr.ownsRow (z<|G E) 54 3 o s (gI<|(c.take s).map Vh)/\Below (z<|G E) E wr) (λ_ dn _=>y c-(intOf dn).toNat)
 case atStart=>exact⟨0,bP _,by go_num,cO _ _ _ _,Below.refl _ _⟩
 (case round=>obtain⟨s,hn,rfl,k,m⟩:=hrel;have ef:z (G E)<=z (G wr):=m.size;by_cases cf:s<y c;(.have aD:=qh c s cf;(have cv:∃dm j,gx=H (R dm j)/\y c<=gc/\aW wr (R dm<|j+s*2)=H (am c[s].1)/\aW wr (R dm<|j+s*2+1)=H (am c[s].2):=by have hp:=J ds;obtain⟨_,⟨x,h0⟩|⟨dm,j,dT,x,ce,hc⟩⟩:=hp;omega;cases x;exact⟨dm,j,rfl,ce,(m.cell<|bm dm rfl).trans<|hc _ _ aD.1,(m.cell<|bm dm rfl).trans (by rw[bw];exact hc _ _ aD.2)⟩);obtain⟨dm,j,bT,ea,ed,ev⟩:=cv;subst bT;obtain⟨es,em,bc⟩:=aB k;subst bc;have HS:=U (show gI ((c.take<|s+1).map Vh)=gI ((c.take s).map Vh)++[am c[s].1,am c[s].2,aN aX]by unfold gI;rw[ai cf,aP,fG];simp[rS,Vh]);have HO:=U k;have HB:=U m;(have f1:(s:X)<(y c:X):=by omega);(have f0:(0:X)<=(s:X):=by omega);clear k m aD;generalize c[s].1=kk at*;generalize c[s].2=vv at*;go_wp2;(go_region_law (refine uy rfl (.tmp 77) (.tmp 89) 55 rfl (z<|G E) 54 i0 (dC #[am ⟨#[]⟩,am ⟨#[]⟩,aN aX]) 3 40 underlying55 ec eg ei ej rfl (by decide) (I es s em) s (gI<|(c.take s).map Vh) (by simp[Act.eval]) (ke (aT HO<|aw #[am kk,am vv,aN aX] 54) rfl) (R (z<|G wr) 0) 1 1 [am kk,am vv,aN aX] (by simp[Act.eval]) rfl (FA _ _ _ _ _) (by simp[Value.oneCell']) (by omega) (by omega) (by simp;omega) ?_;intro v2 w2 r Q;obtain⟨x2,c2,rfl⟩:=aB r;have ba:=U r;have bk:=U Q;clear r Q));go_wp2;(all_goals go_roundw;(case rel=>exact⟨s+1,by omega,by go_num,by rw[J HS];exact ba,mu HB ef bk (aw #[am kk,am vv,aN aX] 54) rfl<|λk j=>(bM HO k j).1⟩);case measure=>simp[intOf];omega));(have ed:s=y c:=by omega);subst ed;rw[bI]at k;(have e1:¬(y c:X)<(y c:X):=by omega);have Q:Z ay E wr:=Z.aR m;have r:=dx.still Q;have c4:=cellAt r.xh.box 4 rfl;obtain⟨es,em,bc⟩:=aB k;subst bc;(have ea:(y (c.map Vh):M)=y c:=by simp);have aD:Do wr (I es (y c) em) (c.map Vh):=.inl ⟨by unfold Gv;rw[ea];exact dJ k,λcT q=>(k.lt cT q).2⟩;have ce:=BY r.xh.jh (I es (y c) em) (c.map Vh) ci aD (by simp;omega) (by simp) r.cw.aj.size;obtain⟨j,bk⟩:=And.intro (U r) (U ce);clear r ce k m Q aD;(go_wp2_with fail);apply bk.mono;rintro x WB⟨rfl,ev,ex,v',ba,Q,cv⟩;rw[Qr c [] dv,cV]at ba;have bT:=(j.mono (ah _) j.cw.kK (N':=N+1) (by omega) hN).yq Q ba cv (by simp;omega);have dT:=U bT;clear bT ba Q cv bk j;go_wp2;go_ret;exact .inl ⟨rfl,_,_,_,_,_,_,_,_,_,dT⟩)
end
def DK.qO(K:DK)(f:Iw):DK:={K with fx:=f}
section
variable{Xqq:zd}{w0 W g:Y}{db sbqq p h:M}{mem e:X}{Cl:eV}{s:SR}{K:DK}{m:cR}{a b c d:cW}{C tbqq N:M}{lsqq:dS}{l j:kD}{i:Prop}{f:Iw}{fs:Fs}{v:ab}{ts:cW}{t:gz}{bv n sv:ab}{o:gW}{B:cJ oa}{safe:X}{k:Bool}{r:X}
theorem Aside.qO{q:M}(u:Aside W K db sbqq q)(w:Z (λq=>q=db) W g):Aside g (K.qO f) db sbqq q:=⟨ag u.lt w.size,u.aO,u.ne⟩
theorem Aside.Gg{q:M}(w:Aside W K db sbqq q)(u:Z (λq=>q=db) W g):g.heap[q]?=W.heap[q]?:=u.block q w.lt<|λA=>w.aO<|.inl A
theorem KP{q E:M}{A:gW}(L:Row W q v E A)(w:∀u,cK v=H u->Aside W K db sbqq u)(D:Z (λu=>u=db) W g):Row g q v E A:=D.row L<|λu x=>⟨λF=>(w u x).aO<|.inl F,(w u x).lt⟩
theorem Dn.qO(E:Dn fs W K db sbqq v ts)(u:Z (λO=>O=db) W g):Dn fs g (K.qO f) db sbqq v ts where
 row:=KP E.row E.loc u
 loc:=λO q=>(E.loc O q).qO u
 each:=λt0 x=>by
  obtain⟨⟨F,w,q,L,A⟩,D,P,Q,S,T,V,q8⟩:=E.each t0 x;exact⟨⟨F,w,q,L.dw (D.Gg u)<|A.Gg u,A.qO u⟩,D.qO u,P,Q,S,T,V,q8⟩
theorem Inv.qO(q:Inv W sbqq s K m a b c d C tbqq N lsqq t)(E:cG g s.aI (K.qO f))(u:Z (λL=>L=s.aI) W g):Inv g sbqq s (K.qO f) m a b c d C tbqq N lsqq t:={st:={mem:=KP q.st.mem q.st.sI u,sI:=λL F=>(q.st.sI L F).qO u,l0:=q.st.l0.qO u,l1:=q.st.l1.qO u,l2:=q.st.l2.qO u,l3:=q.st.l3.qO u,aI:=E,wR:=q.st.wR,kA:=⟨Steps.aj q.st.kA.steps u<|λx=>q.st.kA.fS.aO<|.inl x,q.st.kA.pow.aj u<|λx=>q.st.kA.ml.aO<|.inl x,q.st.kA.fS.qO u,q.st.kA.ml.qO u⟩,rE:=q.st.rE,kK:=q.st.kK,mj:=q.st.mj,iP:=q.st.iP,s1:=q.st.s1,s2:=q.st.s2,s3:=q.st.s3},qD:=q.qD,pr:=q.pr,lp:=q.lp,mem:=q.mem,Ua:=q.Ua,XU:=q.XU,l7:=q.l7,Ae:=(by obtain⟨b,A,D,w⟩:=q.Ae.ex;exact⟨⟨b,A,D.dw<|w.Gg u,w.qO u⟩,q.Ae.len⟩),Xg:=q.Xg,Di:=q.Di,MP:=q.MP,xe:=q.xe,Hj:=q.Hj,nx:=q.nx,bn:=q.bn,gT:=q.gT,CJ:=q.CJ,loose:=q.loose,kK:=q.kK}
theorem Qt(u:uc w0 W db sbqq mem e Cl C N l i)(V E:X)(S:V<=9223372036854775807)(Q:E<=9223372036854775807):cY aZ 19 #[aA db,ar V,ar E] W λx g=>x=aM (dq #[])/\Z (sP w0 Cl) W g/\uc w0 g db sbqq mem e Cl C N l (E<=0):=by
 obtain⟨s,K,m,a,b,c,d,tbqq,lsqq,u⟩:=u;have x:=u.yA.2.1;subst x;have P:=u.low.1 s.aI<|.inl rfl;have L:∀w,Cl w->w≠s.aI:=λw q x=>(u.cl w q).1.aO<|.inl x;apply(Fl V E u.inv.st.aI S Q).mono;rintro x g⟨rfl,aa,v,hu,hv,T,O,A⟩;have D:sbqq≠s.aI:=λx=>u.inv.st.wR<|.inl x;refine⟨rfl,A.mono<|λw x=>.inl ⟨by have F:w=s.aI:=x;omega,λq=>L w q x⟩,s,K.qO {K.fx with wt:=aa,bd:=v},m,a,b,c,d,tbqq,lsqq,⟨(A.block sbqq (ak u.GG) D).trans u.GG,u.yA,u.inv.qO O A,u.tid,u.Bi,u.len,u.aj.trans A<|λw x=>.inr (by have F:w=s.aI:=x;omega),u.low,λw q=>⟨(u.EU w q).1,ag (u.EU w q).2 A.size⟩,λw q=>⟨⟨⟨ag (u.cl w q).1.lt A.size,(u.cl w q).1.aO,(u.cl w q).1.ne⟩,(u.cl w q).1.Ae⟩,(u.cl w q).2⟩,u.g0,u.rm,λq=>T q⟩⟩
theorem CD.qO(u:CD w0 W db mem e Cl K C N l i)(A:cG g db (K.qO f))(x:Z (λw=>w=db) W g)(D:f.room=K.fx.room):CD w0 g db mem e Cl (K.qO f) C N l False:={aI:=A,oN:=u.oN,kK:=u.kK,zF:=u.zF,len:=u.len,aj:=u.aj.trans x<|λw E=>.inr (by have F:w=db:=E;have:=u.low db<|.inl rfl;omega),low:=u.low,cl:=λw q=>⟨(u.cl w q).1,(u.cl w q).2.1,ag (u.cl w q).2.2 x.size⟩,g0:=u.g0,rm:=(by show f.room<_;rw[D];exact u.rm),qt:=λq=>q.elim}
theorem Yw(w:Br w0 W db mem e Cl C N l i)(P O:X)(L:P<=9223372036854775807)(F:O<=9223372036854775807):cY aZ 19 #[aA db,ar P,ar O] W λx g=>x=aM (dq #[])/\Z (λA=>A=db) W g/\Z (sP w0 Cl) W g/\Br w0 g db mem e Cl C N l False:=by
 obtain⟨K,w⟩:=w;have E:=w.low db<|.inl rfl;apply(Fl P O w.aI L F).mono;rintro x g⟨rfl,aa,v,S,T,V,D,u⟩;exact⟨rfl,u,u.mono<|λA x=>.inl ⟨by have Q:A=db:=x;omega,λq=>(w.cl A q).1<|.inl x⟩,K.qO _,w.qO D u rfl⟩
theorem Yv{D:Bool}(A:Gw w0 W db sbqq mem e Cl C N l r D)(T S:X)(Q:T<=9223372036854775807)(P:S<=9223372036854775807):cY aZ 19 #[aA db,ar T,ar S] W λu g=>u=aM (dq #[])/\Z (sP w0 Cl) W g/\Gw w0 g db sbqq mem e Cl C N l r D:=by
 obtain⟨K,A,x⟩:=A;have F:=A.low db<|.inl rfl;apply(Fl T S A.aI Q P).mono;rintro u g⟨rfl,aa,v,V,hv,hz,L,w⟩;obtain⟨s,q,h,O,u⟩:=x.box;exact⟨rfl,w.mono<|λF u=>.inl ⟨by have E:F=db:=u;omega,λq=>(A.cl F q).1<|.inl u⟩,K.qO _,A.qO L w rfl,⟨s,q,h.aj w<|λu=>x.FH.1<|.inl u,O.Qc w (λF u=>by have E:F=db:=u;rw[E];exact⟨_,_,_,A.aI.ie,by decide⟩),u⟩,x.low,x.FH⟩
theorem WZ.ne(L:WZ W sbqq)(A:I8 W db):sbqq≠db:=λE=>by
 obtain⟨D,F,q⟩:=L;obtain⟨u,w,x⟩:=A;rw[E,x]at q;cases q
theorem Iy(A:XD Xqq w0 W p db h sv mem e bv n o B l j safe k C N i)(S Q:X)(P:S<=9223372036854775807)(O:Q<=9223372036854775807):cY aZ 19 #[aA db,ar S,ar Q] W λx g=>x=aM (dq #[])/\Z (λT=>T=db) W g/\XD Xqq w0 g p db h sv mem e bv n o B l j safe k C N False:=by
 apply(Yw A.cd S Q P O).mono;rintro x g⟨rfl,w,F,L⟩;refine⟨rfl,w,A.xh.nW F (λ_ q=>.inl q)<|ah _,L,A.l9.imp id<|λ⟨sbqq,x,q⟩=>⟨sbqq,x,?_⟩⟩;have u:=q.ne A.cd.ie;obtain⟨D,E,q⟩:=q;exact⟨D,E,(w.block sbqq (ak q) u).trans q⟩
theorem Xi(x:XG Xqq w0 W p db sbqq h mem e bv n o B l j safe k C N)(O L:X)(F:O<=9223372036854775807)(E:L<=9223372036854775807):cY aZ 19 #[aA db,ar O,ar L] W λw g=>w=aM (dq #[])/\XG Xqq w0 g p db sbqq h mem e bv n o B l j safe k C N:=by
 apply(Iy x.xd O L F E).mono;rintro w g⟨rfl,D,A⟩;obtain⟨s,q,h,w⟩:=x.box;have u:sbqq≠db:=WZ.ne ⟨_,_,h⟩ x.xd.cd.ie;exact⟨rfl,A,x.FH,s,q,h.aj D u,w⟩
theorem Ue(x:XG Xqq w0 W p db sbqq h mem e bv n o B l j safe k C N):cY aZ 23 #[aA sbqq] W λw g=>w=aM (ui 6)/\XG Xqq w0 g p db sbqq h mem e bv n o B l j safe k C N:=by
 obtain⟨s,q,h,w⟩:=x.box;apply(Io h w).mono;rintro E g⟨rfl,u,D⟩;have A:SC Xqq w0 W p db sbqq _ mem e bv n o B l j safe k C N 0 []:=⟨x.xd,by simp,x.FH⟩;have:=A.again h D u;exact⟨rfl,this.xd,x.FH,s,q,u,w⟩
end
def zd.one(W:Y)(k:M):zd:=⟨W,λx=>x=k⟩
def zd.no(W:Y):zd:=⟨W,λ_=>False⟩
def nX(k:cJ DC):M:=(k.map<|λo=>kX o.cs).sum
theorem Pp(k:cJ DC)(m:M)(o:m<y k):nX (k.take<|m+1)=nX (k.take m)+kX k[m].cs:=by
 unfold nX;rw[ai o,aP,fw];simp
theorem Ws(k:cJ DC)(m:M):nX (k.take m)<=nX k:=by
 unfold nX;grind[take_append_drop]
theorem OZ(n:X)(k:n=0\/n=8\/n=9)(w:Y):cY aZ 21 #[ar n] w λo m=>o=aM (aN<|!(n==0))/\m=w:=by
 rcases k with rfl|rfl|rfl;(·(go_in);go_wp2;go_ret;exact⟨rfl,rfl⟩);(·(go_in);go_wp2;go_ret;exact⟨rfl,rfl⟩);(go_in);go_wp2;go_ret;exact⟨rfl,rfl⟩
section
variable{Xqq:zd}{w0 w1 W i:Y}{b db sbqq c j:M}{mem a:X}{bv d sv:ab}{e:gW}{B:cJ oa}{l g:kD}{safe:X}{f:Bool}{C C' N N':M}{h:Prop}{n:X}
theorem xu.add(k:xu (.no w1) w0 W b mem a C N h)(m:Z ay W i)(u:z (G W)<=j)(r:j<z (G i)):xu (.one i j) w0 i b mem a C N h:=by
 obtain⟨db,sbqq,c,bv,d,e,B,l,safe,k⟩:=k;have p:=k.still m;refine⟨db,sbqq,c,bv,d,e,B,l,safe,{p.xh with ext:=λs q=>?_},k.cw.ij m cL<|λs q=>?_⟩;have o:s=j:=q;subst o;refine⟨⟨_,uf r⟩,rfl,λt=>?_,λt=>?_⟩;have:=ak k.xh.box;omega;have:=k.xh.jh.lt t;omega;rcases q with q|q|q;exact .inl<|.inl q;exact .inl<|.inr<|.inl q;have o:s=j:=q;exact .inr<|by omega
theorem xu.no(k:xu Xqq w0 W b mem a C N h):xu (.no w1) w0 W b mem a C N h:=by
 obtain⟨db,sbqq,c,bv,d,e,B,l,safe,k⟩:=k;exact⟨db,sbqq,c,bv,d,e,B,l,safe,{k.xh with ext:=λm q=>q.elim},k.cw.ij (Z.refl ay W) cL<|λm q=>.inl<|q.imp id<|λq=>q.imp id<|λq=>q.elim⟩
theorem xu.quiet{k:Prop}(m:xu Xqq w0 W b mem a C N h)(o:k->h):xu Xqq w0 W b mem a C N k:=by
 obtain⟨db,sbqq,c,bv,d,e,B,l,safe,m⟩:=m;exact⟨db,sbqq,c,bv,d,e,B,l,safe,m.xh,m.cw.quiet o⟩
structure YP(w1 w0 W:Y)(j:M):Prop where
 pa:W.heap[j]?=w1.heap[j]?
 aj:Z ay w0 W
theorem xu.kept(k:xu (.one w1 j) w0 W b mem a C N h):YP w1 w0 W j:=by
 obtain⟨db,sbqq,c,bv,d,e,B,l,safe,k⟩:=k;exact⟨(k.xh.ext j rfl).2.1,k.cw.aj⟩
theorem o6.kept(k:o6 (.one w1 j) w0 W b mem a C N n):YP w1 w0 W j:=by
 obtain⟨db,sbqq,c,bv,d,e,B,l,g,safe,f,k,_⟩:=k;exact⟨(k.xh.ext j rfl).2.1,k.cf.cd.aj⟩
theorem Uc.kept(k:Uc (.one w1 j) w0 W b sv mem a C N):YP w1 w0 W j:=by
 obtain⟨db,c,bv,d,e,B,l,g,safe,f,k,_⟩:=k;exact⟨(k.xh.ext j rfl).2.1,k.cd.aj⟩
def LV(Xqq:zd)(w0 W:Y)(b db sbqq c:M)(mem a:X)(bv d:ab)(e:gW)(B:cJ oa)(l g:kD)(safe:X)(f:Bool)(C N:M):Prop:=(g=l/\f=aX/\XS Xqq w0 W b db sbqq c mem a bv d e B l l safe C N False)\/XG Xqq w0 W b db sbqq c mem a bv d e B l g safe f C N
def N0(Xqq:zd)(w0 W:Y)(b:M)(mem a:X)(C N:M):Prop:=∃db sbqq c bv d e B l g safe f,LV Xqq w0 W b db sbqq c mem a bv d e B l g safe f C N/\D5 B l g f
def N2(Xqq:zd)(w0 W:Y)(b:M)(mem a:X)(C N:M):Prop:=N0 Xqq w0 W b mem a C N\/Uc Xqq w0 W b (cX none) mem a C N
theorem LV.xh(k:LV Xqq w0 W b db sbqq c mem a bv d e B l g safe f C N):XH Xqq w0 W b db c (aA sbqq) mem a bv d e B l safe f N:=by
 rcases k with⟨_,rfl,k⟩|k;exact k.xh;exact k.xd.xh
theorem XW(k:LV Xqq w0 W b db sbqq c mem a bv d e B l g safe f C N):cY aZ 19 #[aA db,ar 0,ar 0] W λm i=>m=aM (dq #[])/\LV Xqq w0 i b db sbqq c mem a bv d e B l g safe f C N:=by
 rcases k with⟨o,p,k⟩|k;apply(Qt k.cw 0 0 (by omega)<|by omega).mono;rintro m i⟨rfl,s,r⟩;exact⟨rfl,.inl ⟨o,p,k.xh.nW s (λ_ q=>q)<|ah _,r.quiet<|λq=>q.elim⟩⟩;apply(Xi k 0 0 (by omega)<|by omega).mono;rintro m i⟨rfl,k⟩;exact⟨rfl,.inr k⟩
theorem Vn(k:LV Xqq w0 W b db sbqq c mem a bv d e B l g safe f C N):cY aZ 23 #[aA sbqq] W λm i=>∃v,m=aM v/\XD Xqq w0 i b db c (aA sbqq) mem a bv d e B l g safe f C N False:=by
 rcases k with⟨rfl,rfl,k⟩|k;apply(MI k.cw).mono;rintro m i⟨r,p,⟨rfl,o⟩|⟨q,t,rfl,_,_,o⟩⟩;exact⟨_,rfl,k.xh.nW r (λ_ q=>q)<|ah _,o.cd.ij (Z.refl ay i) cL<|λs q=>.inl<|Or.imp id (λm=>by cases m;rfl) q,.inr ⟨sbqq,rfl,p⟩⟩;exact⟨_,rfl,k.xh.nW r (λ_ q=>q)<|ah _,o.ij (Z.refl ay i) cL<|λs q=>.inl<|Or.imp id (λm=>by cases m;rfl) q,.inr ⟨sbqq,rfl,p⟩⟩;apply(Ue k).mono;rintro m i⟨rfl,k⟩;exact⟨_,rfl,k.xd⟩
theorem Xj{o:X}(r:XF Xqq w0 W b db sbqq c mem a bv d e B l g safe f C N o):cY aZ 19 #[aA db,ar 0,ar 0] W λp i=>p=aM (dq #[])/\XF Xqq w0 i b db sbqq c mem a bv d e B l g safe f C N o:=by
 apply(Yv r.cf 0 0 (by omega)<|by omega).mono;rintro p i⟨rfl,m,k⟩;exact⟨rfl,r.xh.nW m (λ_ q=>q)<|ah _,k⟩
theorem Uc.no(k:XD Xqq w0 W b db c sv mem a bv d e B l g safe f C N h):XD (.no w1) w0 W b db c sv mem a bv d e B l g safe f C N h:=⟨{k.xh with ext:=λm q=>q.elim},k.cd.ij (Z.refl ay W) cL<|λm q=>.inl<|q.imp (λq=>q.imp id<|λq=>q.imp id<|λq=>q.elim) id,k.l9⟩
theorem D5.found(p:D5 B l g f)(m:B.foldl yx []=l):∃n:M,((y B:X)-(if f then 1 else 0))<=n/\n<=y B/\g=(B.take n).foldl yx []:=by
 rcases p with rfl|⟨rfl,k,o,rfl,rfl⟩;refine⟨y B,?_,ah _,by rw[bI,m]⟩;cases f<;>simp<;>omega;refine⟨y k,?_,by simp,by simp⟩;simp
end
def UD(o:ab)(m n k zl:X):Array ab:=#[o,ar m,aE n,aE k,aN aX,ar zl]
section
variable{Xqq:zd}{w0 w1 W i:Y}{e db sbqq b d:M}{mem a:X}{bv g sv:ab}{c:gW}{B:cJ oa}{l h:kD}{safe:X}{f:Bool}{C N:M}{j:Prop}
def I5(Xqq:zd)(w0 W:Y)(e:M)(mem a:X)(C N:M)(k:Ending):Prop:=(k=aM (ar 0)/\xu Xqq w0 W e mem a C N True)\/k=aM (ar 2)/\Z ay w0 W
theorem Rv(ea:xu (.no w1) w0 W e mem a C N True)(ds:Option Addr)(o:cJ DC)(dc:M)(p bn V zl:X)(ap:o=[]\/∃co u,ds=H (R co u)/\yB w0 (bD co u (y o) dc) o)(ha:p<=9223372036854775807)(dx:zl<=9223372036854775807)(dT:y o+DD o<=1048576)(hC:C+nX o<=1000000)(hN:N+y o+1<=100000000):cY aZ 9 #[aA e,dC<|UD (I ds (y o) dc) p bn V zl,aN ci] W λbi i=>I5 (.no w1) w0 i e mem a (C+nX o) (N+y o+1) bi:=by
 obtain⟨W1,bg⟩:∃W1,cN W (aw (UD (I ds (y o) dc) p bn V zl) 42)=W1:=⟨_,rfl⟩;have ck:Z ay W W1:=by rw[<-bg];exact cF ay W
 have ao:W1.heap[z<|G W]?=H (aw (UD (I ds (y o) dc) p bn V zl) 42 (0,0)):=by rw[<-bg];exact aJ _ rfl
 obtain⟨d,bu⟩:∃d,z (G W)=d:=⟨_,rfl⟩;have ce:=ea.add ck (Al bu) (by rw[<-bu];exact ak ao);rw[bu]at ao;have r0:=cellAt ao 0 rfl;have r1:=cellAt ao 1 rfl;have r4:=cellAt ao 4 rfl;have r5:=cellAt ao 5 rfl;obtain⟨bd,bm,aF,bT⟩:=fY ce bg ao ap;clear ea bg ck ce ao ap;unfold UD at*;go_in
 go_upto_if 15 with fail
 rw[J bm];go_cut [] (λwx=>xu (.one W1 d) w0 wx e mem a C N False)
 (case first=>by_cases h0:0<=p;(.obtain⟨db,sbqq,b,bv,g,c,B,l,safe,D⟩:=J bd;have c0:=cellAt D.xh.box 0 rfl;have t:=λm(k:m<=9223372036854775807)=>Qt (D.still<|cZ ay W1).cw p m ha k;have HX:=U D;clear D bd bT aF bm;have w:aW W1.drew (R e 0)=H (aA db)/\aW W1.drew (R d 1)=H (ar p):=⟨c0,r1⟩;by_cases h1:zl<=0;(all_goals(go_wp2_with fail);refine jj (λXqq=>aW Xqq (R e 0)=H (aA db)/\aW Xqq (R d 1)=H (ar p)) 7 (by kernel_rfl) ?_;refine kF 0 ?_;(iterate 7 (refine uS (v:=?_) w rfl (by kernel_rfl) lk rfl ?_ ?_;rotate_left;(focus(rintro Xqq⟨z0,z1⟩;go_simp;try rfl));simp only[Act.put,dW,iS,Nat.reduceAdd]));apply oC;refine fy (i:=7) rfl rfl (by kernel_rfl) ?_;intro K7 cd;go_simp;refine(t _<|by omega).mono ?_;rintro bi W2⟨rfl,cl,cf⟩;have k:=(HX.still<|cZ ay W1).nW cl cf<|ah _;refine cd _ _ (λq=>by omega) ?_;(try simp only[Act.put,dW,iS]);clear cd;refine ju (by kernel_rfl) ?_ _;have L:=U k;clear k cl cf t w;go_wp2;(go_meet);case rel=>exact xu.quiet ⟨_,_,_,_,_,_,_,_,_,L⟩<|λq=>q.elim));(.go_wp2;(go_meet);case rel=>exact(J bd).quiet<|λq=>q.elim))
 case rest=>
  have HC:=U hcut;clear hcut bd bm r0 r1 r4 r5;go_upto_block 0 with fail
  go_cut [] (λwx=>N2 (.one W1 d) w0 wx e mem a (C+nX o)<|N+y o)
  case first=>
   go_wp2_with fail
   go_loopg [8] (y o) (λco bL wr=>∃K:M,K<=y o/\co=y o-K/\bL=ar K/\xu (.one W1 d) w0 wr e mem a (C+nX (o.take K)) (N+K) False)
   case atStart=>exact⟨0,bP _,by omega,by go_num,by simpa[nX]using J HC⟩
   case round=>
    obtain⟨K,hn,rfl,rfl,D⟩:=hrel;have F:=D.kept;have r0:=cellAt (F.pa.trans aF) 0 rfl;by_cases an:K<y o
    .rcases J bT with q|⟨co,u,cw,ap⟩
     .subst q;simp at an
     .subst cw;have e1:(K:X)<(y o:X):=by omega
      have e0:(0:X)<=(K:X):=by omega
      have bb:=aq an;have cm:=ap.F2 _ bb;have bq:=ap.MP _ bb;have cT:=Pp o K an;have cM:=Ws o<|K+1;have dm:=Kk o K an;have dk:=Uf o<|K+1;have cB:=ZK o[K].cs;have dn:D8 o[K]=Kl o[K].cs:=rfl;have bs:co<z (G w0):=ap.lt co rfl;have bt:y o<=dc:=by
       obtain⟨q1,⟨q2,q0⟩|⟨g',cn,cc,q2,bt,hc⟩⟩:=ap.row
       .cases q2
       .cases q2;exact bt
      obtain⟨lx,h,hL⟩:=yP bq;have br:=λXqq(D:YP W1 w0 Xqq d)=>(show aW Xqq (R co<|u+K*2)=H (ar o[K].kd)/\aW Xqq (R co<|u+K*2+1)=H (I lx (y o[K].cs) h)/\aW Xqq (R d 0)=H (I (H<|R co u) (y o) dc)from by
       obtain⟨q1,⟨q2,q0⟩|⟨g',cn,cc,q2,bt,hc⟩⟩:=ap.row
       .cases q2
       .cases q2;exact⟨D.aj.cell (hc _ _ ((sH o K an 0 (by omega)).trans rfl)) id bs,by rw[bw,<-hL];exact D.aj.cell (hc _ _ ((sH o K an 1 (by omega)).trans rfl)) id bs,cellAt (D.pa.trans aF) 0 rfl⟩)
      have ax:=Wn D o[K].kd lx o[K].cs h (by rw[<-hL];exact bq) cm (by omega) (by omega) (by omega);have bl:C+nX (o.take K)+kX o[K].cs=C+nX (o.take<|K+1):=by omega
      rw[bl]at ax;have bk:C+nX (o.take<|K+1)<=C+nX o:=by omega
      obtain⟨c0,c1,_⟩:=br wr F;generalize o[K].kd=kd at*;generalize y o[K].cs=eb at*;have Cq:=U br;have bh:=U bk;clear br bk bl cT cM dm dk cB dn bb cm bq hL D bs F;go_wp2_with fail
      apply ax.mono;rintro bi W2⟨dv,rfl,r⟩;have hm:dv=0\/dv=8\/dv=9:=by rcases r with⟨q,_⟩|⟨q,_⟩|⟨q,_⟩<;>omega
      have ad:=OZ dv hm W2;rcases r with⟨rfl,k⟩|⟨rfl,hk,k⟩|⟨bf,hk,k⟩
      .have L:=U k;clear k ax c0 c1 hm;go_wp2_with fail
       apply ad.mono;rintro bi E⟨rfl,bx⟩;subst E;clear ad;go_wp2;go_roundg(y o-(K+1));case measure=>omega
       case rel=>exact⟨K+1,an,rfl,by go_num,L⟩
      .obtain⟨c0,c1,r0⟩:=Cq W2 k.kept;have cx:(kd==4)=ci\/(kd==4)=aX/\(kd==5)=ci:=by rcases hk with rfl|rfl<;>simp
       have L:=U k;clear k ax hm hk;rcases cx with k4|⟨k4,k5⟩;all_goals
        go_wp2_with fail
        apply ad.mono;rintro bi E⟨rfl,bx⟩;subst E;clear ad;go_wp2;go_roundg(y o-(K+1));case measure=>omega
        case rel=>exact⟨K+1,an,rfl,by go_num,L⟩
      .have k4:(kd==4)=aX:=by simp;omega
       have k5:(kd==5)=aX:=by simp;omega
       have m0:(dv==0)=aX:=by rcases bf with rfl|rfl<;>rfl
       have m1:(dv !=0)=ci:=by rcases bf with rfl|rfl<;>rfl
       have m2:¬dv=0:=by omega
       rcases k with k|k
       .obtain⟨c0,c1,r0⟩:=Cq W2 k.kept;obtain⟨db,sbqq,b,bv,g,c,B,l,dr,safe,f,k,A⟩:=k.mono (C':=C+nX o) (N':=N+y o) bh hC (by omega) (by omega);have d0:=cellAt k.xh.box 0 rfl;have bc:∀p:Y,(binOp .neq 36 (aA sbqq)<|cX none).run aZ p=.ok (aN ci) p:=λ_=>rfl;have t:=Xj k;obtain⟨L,x⟩:=And.intro (U k) (U A);clear k A ax hm hk bf;go_wp2_with fail
        apply ad.mono;rintro bi E⟨rfl,bx⟩;subst E;clear ad;go_wp2_with fail
        apply t.mono;rintro bi E⟨rfl,m⟩;have d1:=cellAt m.xh.box 1 rfl;have cj:=QZ m;clear m t L c0 c1 r0 d0;go_wp2_with fail
        apply cj.mono;rintro bi W4⟨rfl,n⟩;have cp:=U n;clear n cj;go_wp2;go_meet
        case rel=>exact .inl ⟨_,_,_,_,_,_,_,_,_,_,_,.inr cp,x⟩
       .obtain⟨c0,c1,r0⟩:=Cq W2 k.kept;obtain⟨db,b,bv,g,c,B,l,dr,safe,f,k,A⟩:=k.mono (C':=C+nX o) (N':=N+y o) bh hC (by omega) (by omega);have d0:=cellAt k.xh.box 0 rfl;have bc:∀p:Y,(binOp .neq 36 (cX none)<|cX none).run aZ p=.ok (aN aX) p:=λ_=>rfl;have t:=Iy k 0 0 (by omega) (by omega);obtain⟨L,x⟩:=And.intro (U k) (U A);clear k A ax hm hk bf;go_wp2_with fail
        apply ad.mono;rintro bi E⟨rfl,bx⟩;subst E;clear ad;go_wp2_with fail
        apply t.mono;rintro bi E⟨rfl,_,m⟩;have d1:=cellAt m.xh.box 1 rfl;have O:=U m;clear m t L c0 c1 r0 d0;go_wp2;go_meet
        case rel=>exact .inr ⟨_,_,_,_,_,_,_,_,_,_,O,x⟩
    .have cE:K=y o:=by omega
     subst cE;rw[bI]at D;obtain⟨db,sbqq,b,bv,g,c,B,l,safe,D⟩:=D;have HX:=U D;have e1:¬(y o:X)<(y o:X):=by omega
     clear D F;go_wp2;go_meet
     case rel=>exact .inl ⟨_,_,_,_,_,_,_,_,_,_,_,.inl ⟨rfl,rfl,HX⟩,.inl rfl⟩
  case rest=>
   rcases hcut with⟨db,sbqq,b,bv,g,c,B,l,h,safe,f,hL,A⟩|⟨db,b,bv,g,c,B,l,h,safe,f,D,A⟩
   .have bE:=hL.xh;have F:wc.heap[d]?=W1.heap[d]?:=(bE.ext d rfl).2.1;have r4:=cellAt (F.trans aF) 4 rfl;have d0:=cellAt bE.box 0 rfl;have t:=XW hL;have x:=U A;clear bE F A hL;go_wp2_with fail
    apply t.mono;rintro bi W2⟨rfl,bo⟩;have d1:=cellAt bo.xh.box 1 rfl;have ch:=Vn bo;have bc:∀p:Y,(binOp .neq 36 (aA sbqq)<|cX none).run aZ p=.ok (aN ci) p:=λ_=>rfl;clear bo t d0;go_wp2_with fail
    apply ch.mono;rintro bi E⟨v3,rfl,m⟩;clear ch d1;obtain⟨cb,ca,bp⟩:=aB m.xh.jh.own;subst bp;have aD:=U m.xh.jh.len;have c4:=cellAt m.xh.box 4 rfl;have d0:=cellAt m.xh.jh.box 0 rfl;have au:=cellAt m.xh.jh.box 1 rfl;have f1:=cP (i:=1) m.xh.jh.box;have O:=U m;clear m;go_wp2_with fail
    rename_i KK aV;have w:aW E.drew (R e 4)=H (aA b)/\aW E.drew (R b 0)=H (I cb (y c) ca)/\aW E.drew (R b 1)=H (ar safe)/\E.drew.frozen? (R b 1)=aX:=⟨c4,d0,au,f1⟩;refine dR (λXqq=>aW Xqq (R e 4)=H (aA b)/\aW Xqq (R b 0)=H (I cb (y c) ca)/\aW Xqq (R b 1)=H (ar safe)/\Xqq.frozen? (R b 1)=aX) 14 (by kernel_rfl) ?_;refine fh 0 ?_;iterate 12 (refine iz (v:=?_) w rfl (by kernel_rfl) lk rfl ?_ ?_;rotate_left;(focus(rintro Xqq⟨z0,z1,z2,z3⟩;go_simp;try rfl));simp only[Act.put,dW,iS,Nat.reduceAdd])
    apply ii;refine bj (i:=12) rfl rfl (by kernel_rfl) ?_;intro cr aa;go_simp;refine aa _ _ (λ_=>w) ?_;try simp only[Act.put,dW,iS]
    clear aa;refine bj (i:=13) rfl rfl (by kernel_rfl) ?_;intro cs ac;go_simp;refine ac _ _ (λ_=>w) ?_;try simp only[Act.put,dW,iS]
    clear ac;refine bj (i:=14) rfl rfl (by kernel_rfl) ?_;intro K1 aU;go_simp;refine aU _ _ FQ ?_;try simp only[Act.put,dW,iS]
    clear aU w;refine eS (by kernel_rfl) ?_ _;show KK _ _;apply aV;clear aV;obtain⟨W4,P⟩:∃W4,(cq E (R b 1)<|ar<|y c).drew=W4:=⟨_,rfl⟩;have n:=((J O).pY (y c:X)).still<|cZ ay _;rw[P]at n;rw[P];have c4:=cellAt n.xh.box 4 rfl;have d2:=cellAt n.xh.jh.box 2 rfl;have au:=cellAt n.xh.jh.box 1 rfl;have f1:=cP (i:=1) n.xh.jh.box;have av:=n.xh.jh.sum;obtain⟨K,Q,S,T⟩:=(J x).found av;have al:=J aD;cases f with
    |false=>
     have s:=tI (Uc.no (w1:=w1) n) ⟨K,by simp at Q;omega,S,T⟩ (by omega);clear n O P f1 au Q S T av x al;go_wp2_with fail
     apply s.mono;rintro bi W5 r;rcases r with⟨rfl,r⟩|⟨rfl,r⟩
     .have HP:=U r;clear r s;go_wp2;go_ret;exact .inl ⟨rfl,HP⟩
     .have HP:=U r;clear r s;go_wp2;go_ret;exact .inr ⟨rfl,HP⟩
    |true=>
     have ba:=n.pY<|(y c:X)-1;have s:=tI (Uc.no (w1:=w1) ba) ⟨K,by simp at Q;omega,S,T⟩ (by omega);have cv:y c<=100000000:=by have:=n.xh.num;omega
     have cu:IntKind.i64.wrap ((y c:X)-1)=(y c:X)-1:=by rw[bN];omega
     clear n O P Q S T av x ba al;go_wp2_with fail
     apply s.mono;rintro bi W5 r;rcases r with⟨rfl,r⟩|⟨rfl,r⟩
     .have HP:=U r;clear r s;go_wp2;go_ret;exact .inl ⟨rfl,HP⟩
     .have HP:=U r;clear r s;go_wp2;go_ret;exact .inr ⟨rfl,HP⟩
   .have F:wc.heap[d]?=W1.heap[d]?:=(D.xh.ext d rfl).2.1;have r4:=cellAt (F.trans aF) 4 rfl;have d0:=cellAt D.xh.box 0 rfl;have t:=Iy D 0 0 (by omega) (by omega);have x:=U A;clear F A D;go_wp2_with fail
    apply t.mono;rintro bi E⟨rfl,_,m⟩;have d1:=cellAt m.xh.box 1 rfl;have bc:∀p:Y,(binOp .neq 36 (cX none)<|cX none).run aZ p=.ok (aN aX) p:=λ_=>rfl;clear t d0;obtain⟨cb,ca,bp⟩:=aB m.xh.jh.own;subst bp;have aD:=U m.xh.jh.len;have c4:=cellAt m.xh.box 4 rfl;have d0:=cellAt m.xh.jh.box 0 rfl;have au:=cellAt m.xh.jh.box 1 rfl;have f1:=cP (i:=1) m.xh.jh.box;have O:=U m;clear m;go_wp2_with fail
    rename_i KK aV;have w:aW E.drew (R e 4)=H (aA b)/\aW E.drew (R b 0)=H (I cb (y c) ca)/\aW E.drew (R b 1)=H (ar safe)/\E.drew.frozen? (R b 1)=aX:=⟨c4,d0,au,f1⟩;refine dR (λXqq=>aW Xqq (R e 4)=H (aA b)/\aW Xqq (R b 0)=H (I cb (y c) ca)/\aW Xqq (R b 1)=H (ar safe)/\Xqq.frozen? (R b 1)=aX) 14 (by kernel_rfl) ?_;refine fh 0 ?_;iterate 12 (refine iz (v:=?_) w rfl (by kernel_rfl) lk rfl ?_ ?_;rotate_left;(focus(rintro Xqq⟨z0,z1,z2,z3⟩;go_simp;try rfl));simp only[Act.put,dW,iS,Nat.reduceAdd])
    apply ii;refine bj (i:=12) rfl rfl (by kernel_rfl) ?_;intro cr aa;go_simp;refine aa _ _ (λ_=>w) ?_;try simp only[Act.put,dW,iS]
    clear aa;refine bj (i:=13) rfl rfl (by kernel_rfl) ?_;intro cs ac;go_simp;refine ac _ _ (λ_=>w) ?_;try simp only[Act.put,dW,iS]
    clear ac;refine bj (i:=14) rfl rfl (by kernel_rfl) ?_;intro K1 aU;go_simp;refine aU _ _ FQ ?_;try simp only[Act.put,dW,iS]
    clear aU w;refine eS (by kernel_rfl) ?_ _;show KK _ _;apply aV;clear aV;obtain⟨W4,P⟩:∃W4,(cq E (R b 1)<|ar<|y c).drew=W4:=⟨_,rfl⟩;have n:=((J O).pY (y c:X)).still<|cZ ay _;rw[P]at n;rw[P];have c4:=cellAt n.xh.box 4 rfl;have d2:=cellAt n.xh.jh.box 2 rfl;have au:=cellAt n.xh.jh.box 1 rfl;have f1:=cP (i:=1) n.xh.jh.box;have av:=n.xh.jh.sum;obtain⟨K,Q,S,T⟩:=(J x).found av;have al:=J aD;cases f with
    |false=>
     have s:=tI (Uc.no (w1:=w1) n) ⟨K,by simp at Q;omega,S,T⟩ (by omega);clear n O P f1 au Q S T av x al;go_wp2_with fail
     apply s.mono;rintro bi W5 r;rcases r with⟨rfl,r⟩|⟨rfl,r⟩
     .have HP:=U r;clear r s;go_wp2;go_ret;exact .inl ⟨rfl,HP⟩
     .have HP:=U r;clear r s;go_wp2;go_ret;exact .inr ⟨rfl,HP⟩
    |true=>
     have ba:=n.pY<|(y c:X)-1;have s:=tI (Uc.no (w1:=w1) ba) ⟨K,by simp at Q;omega,S,T⟩ (by omega);have cv:y c<=100000000:=by have:=n.xh.num;omega
     have cu:IntKind.i64.wrap ((y c:X)-1)=(y c:X)-1:=by rw[bN];omega
     clear n O P Q S T av x ba al;go_wp2_with fail
     apply s.mono;rintro bi W5 r;rcases r with⟨rfl,r⟩|⟨rfl,r⟩
     .have HP:=U r;clear r s;go_wp2;go_ret;exact .inl ⟨rfl,HP⟩
     .have HP:=U r;clear r s;go_wp2;go_ret;exact .inr ⟨rfl,HP⟩
end
def zW:Ki:=⟨⟨#[107]⟩,⟨#[118]⟩,aX⟩
def Yy:Ki:=⟨⟨#[108]⟩,⟨#[119]⟩,aX⟩
def qS:cR:=[jS 1 zW]
theorem UI(n:X)(l:cR):0<y (pI n l):=by
 simp[pI,iN,le]
structure ua(w W:Y)(db sb:M)(s:SR)(K:DK)(m:cR)(a b c d:cW)(C tb N:M)(ls:dS):Prop where
 GG:cS W sb s 0
 inv:Inv W sb s K m a b c d C tb N ls []
 tid:FJ s a b c
 yA:s.closed=aX/\s.aI=db/\s.mem=4
 low:(∀k,K.aO db k->z (G w)<=k)/\z (G w)<=sb
 aj:Z ay w W
 qt:K.fx.bd=0/\K.fx.room=1099511627776
 sN:kB w
section
variable{w W e:Y}{db sbqq:M}{s:SR}{K:DK}{m:cR}{a b c d:cW}{C tbqq N:M}{lsqq:dS}
theorem ua.still(r:ua w W db sbqq s K m a b c d C tbqq N lsqq)(i:Z ay W e):ua w e db sbqq s K m a b c d C tbqq N lsqq:=by
 obtain⟨g,h,j,k,l,n,o,p⟩:=r;have q:fJ W e s.aI sbqq K K:=oX h.st.aI i;exact⟨(i.block sbqq (ak g) id).trans g,h.fj (ak g) q rfl (ah _) rfl h.loose,j,k,l,n.cz i,o,p⟩
theorem ua.nW{s':SR}{o:DK}{v:cR}{p r t u:cW}{i n N' E:M}{h:dS}{x:X->ae->Option ae}(j:ua w W db sbqq s K m a b c d C tbqq N lsqq)(g:FO W e sbqq s 0 K n N' [] E x s' o v p r t u i h):ua w e db sbqq s' o v p r t u n i N' h:=by
 obtain⟨A,B,D,_⟩:=g.same;obtain⟨c1,c2,c3⟩:=j.yA;subst c2;have l:=g.fj;exact⟨g.box,g.inv,g.tid,⟨B.trans c1,A,D.trans c3⟩,⟨λk q=>(l.aO k q).elim (j.low.1 k)<|λF=>aC j.aj.size F,j.low.2⟩,j.aj.trans l.aj<|λk q=>.inr<|q.elim (j.low.1 k) (λL=>by have:=j.low.2;omega),⟨l.fx.bd j.qt.1,l.fx.room.trans j.qt.2⟩,j.sN⟩
end
def J3(l:kD):Prop:=wN (ia [] [qS].flatten::(bU [] [] [] []).map (jT ((0+1:M):X))) l
section
variable{w W:Y}{db sbqq:M}{s:SR}{K:DK}{m:cR}{a b c d:cW}{C tbqq N:M}{lsqq:dS}{f:ab}
theorem ua.Yn(h:ua w W db sbqq s K m a b c d C tbqq N lsqq):∀g,Z (λk=>K.aO s.aI k\/k=sbqq) W g->kB g:=λg i=>by
 have j:=h.yA.2.1;subst j;exact h.sN.aj (h.aj.trans i<|λk q=>.inr<|q.elim (h.low.1 k) (λj=>by have:=h.low.2;omega)) id
theorem ua.write(u:ua w W db sbqq s K m a b c d C tbqq N lsqq)(h:oa)(g:Bool)(E:y h=1)(B:ga h=0)(Q:∀T∈h,T.key.size<=140737488351232/\T.val.size<=140737488351232)(O:∀e,Z (λaa=>aa=sbqq) W e->Do e f h)(V:C+1<=1000000)(F:N+1<=100000000)(P:s.fm<=2)(t:fB K.files<=999999000):cY aZ 12 #[aA sbqq,f,aN g] W λS e=>S=aM .nilIface/\∃k l x n o p r j i,ua w e db sbqq k l x n o p r (C+1) j (N+1) i/\TX s K g tbqq lsqq (h.map<|jS<|(s.aS:X)+1) a b c d k l j i n o p r/\k.aS=vK s.aS h/\∀q,eQ k.aS (x::bU n o p r) q=xN [] m (bU a b c d) ((s.aS:X)+1) h (vK s.aS h) q:=by
 have A:kX h=1:=by unfold kX;rw[dH B];exact E
 apply(DF [] g u.GG u.inv u.tid u.yA.1 O Q (by omega) (by omega) F u.Yn<|.inr ⟨t,by rw[u.yA.2.2];omega⟩).mono;rintro S e(⟨rfl,k,l,x,n,o,p,r,j,i,v,L⟩|⟨_,ac,l,rfl,hF,_⟩);have D:=u.nW v;rw[A]at D;exact⟨by rw[B];rfl,k,l,x,n,o,p,r,j,i,D,L B,v.Di,λq=>by rw[v.Di];exact v.sG _ (.inr rfl) q⟩;obtain⟨_,_,_,_,_,_,_,_,_,_,D⟩:=hF.ex;exact(Ou D u.qt.1 u.qt.2).elim
end
theorem Ya{w W:Y}{db sbqq:M}{s:SR}{K:DK}{m:cR}{a b c d:cW}{C tbqq N:M}{lsqq:dS}{f:ab}(aa:ua w W db sbqq s K m a b c d C tbqq N lsqq)(k:K.files=[]/\K.sm=[]/\K.gT=[])(hC:C+1<=1000000)(hN:N+1<=100000000)(hc:∀e,Z (λS=>S=sbqq) W e->Do e f [zW]):cY aZ 12 #[aA sbqq,f,aN ci] W λan e=>an=aM .nilIface/\∃h i n V ac,ua w e db sbqq h i n [] [] [] [] (C+1) 0 (N+1) [qS]/\(h.ez=ci/\h.log=1/\h.aS=1)/\(i.files=[⟨fa 1,V,ac,pI 1 qS,y<|pI 1 qS⟩]/\i.sm=[(fa 1,kM<|H V)]/\i.gT=[])/\J3 (yx [] [zW]):=by
 obtain⟨rfl,rfl,rfl,rfl,rfl,rfl,rfl,P,i2,Q,i4⟩:=SH aa.inv k.1;have O:ga [zW]=0:=rfl;apply(aa.write [zW] ci rfl O (λac g=>by rw[dp.1 g];exact⟨show(1:M)<=140737488351232 by omega,show(1:M)<=140737488351232 by omega⟩) hc hC hN (by omega) (by rw[k.1];simp[fB])).mono;rintro an e⟨rfl,h,i,n,a',b',c',d',al,ad,u,hX,L,g⟩;have x:=hX (by simp) (by rw[i4,aa.yA.2.2];simp);obtain⟨⟨rfl,o,rfl,rfl,rfl,rfl⟩,⟨l1,T,l3⟩,ln,K2,v,D,_,hs⟩:=x;have t:[zW].map (jS<|(s.aS:X)+1)=qS:=by rw[Q];rfl
 rw[t]at o v;rw[cV]at o;subst o;obtain rfl:=D P;have r:pI (((0:M):X)+1+(y ([]:dS):X)) qS=pI 1 qS:=rfl;rw[r]at v;obtain⟨V,ac,E,F,f3⟩:=RX (v.JX<|hs rfl) P k.1 k.2.1 k.2.2;rw[i2]at E F T;have l:vK s.aS [zW]=1:=by unfold vK;rw[dH O,Q];rfl
 rw[l]at L g;refine⟨rfl,h,i,n,V,ac,u,⟨l1,T,L⟩,⟨E,F,f3⟩,?_⟩;have B:wN ((([]:cR)::bU [] [] [] []).map<|jT (s.aS:X)) []:=by refine⟨List.Pairwise.nil,λS ao=>⟨λq=>(by cases q),λq=>?_⟩⟩;cases q
 have A:=(FI aa.inv B [zW]).1;have p:ph [] [zW]=yx [] [zW]:=rfl;rw[p]at A;have j:wN ((n::bU [] [] [] []).map<|jT (h.aS:X)) (yx [] [zW]):=⟨A.1,λS ao=>by rw[A.2 S ao,l,<-g S];rfl⟩;rw[cy,u.inv.mem,u.inv.Di]at j;exact j
theorem XZ{w W:Y}{db sbqq:M}{s:SR}{K:DK}{m:cR}{E C N:M}{ad f:ab}(A:ua w W db sbqq s K m [] [] [] [] C 0 N [qS])(r:s.ez=ci/\s.log=1/\s.aS=1)(k:K.files=[⟨fa 1,E,ad,pI 1 qS,y<|pI 1 qS⟩]/\K.sm=[(fa 1,kM<|H E)]/\K.gT=[])(P:C+1<=1000000)(Q:N+1<=100000000)(hc:∀e,Z (λL=>L=sbqq) W e->Do e f [Yy]):cY aZ 12 #[aA sbqq,f,aN aX] W λD e=>D=aM .nilIface/\∃g u v,cG e db g/\Z ay w e/\(∀L,g.aO db L->z (G w)<=L)/\g.files=[⟨fa 1,E,u,pI 1 qS++v,y<|pI 1 qS⟩]/\g.sm=[(fa 1,kM<|H E)]/\g.gT=[]/\y (pI 1 qS++v)<=1000000000/\(g.fx.bd=0/\g.fx.room=1099511627776)/\Ac (((0:M):X)+1) [qS]:=by
 have hk:ga [Yy]=0:=rfl;have q:s.fm=1:=by have:=A.inv.MP;simpa[qS]using this
 have t:=A.inv.lp;have o:=A.inv.Xw.1;have l:jZ (((0:M):X)+1) [qS]=pI 1 qS:=by simp[jZ]
 rw[l]at o;apply(A.write [Yy] aX rfl hk (λad g=>by rw[dp.1 g];exact⟨show(1:M)<=140737488351232 by omega,show(1:M)<=140737488351232 by omega⟩) hc P Q (by omega) (by rw[k.1];simp[fB];omega)).mono;rintro D e⟨rfl,s',g,m',a',b',c',d',ac,aa,h,T,hb,B⟩;have n:=T (by simp) (by rw[q,A.yA.2.2];simp);obtain⟨⟨rfl,rfl,rfl,rfl,rfl,rfl⟩,⟨l1,l2,l3⟩,ln,K2,S,_,hs,_⟩:=n;obtain rfl:=hs rfl;obtain⟨u,x,F,O⟩:=UV S r.1 k.1 (by rw[r.2.1]);have i:=h.inv.qD.log l1;rw[l2,r.2.1,x]at i;have V:=h.inv.Xw.1;have j:=h.inv.st.aI;rw[h.yA.2.1]at j;refine⟨rfl,g,u,_,j,h.aj,h.low.1,x,F.trans k.2.1,O.trans k.2.2,?_,h.qt,t⟩;have p:∀(F:da),F.name=fa 1->dh (vw [F]) (fa 1)=H F.bytes:=λF D=>by simp[vw,dh,D]
 rw[p _ rfl]at i;have:=gY i;simp only at this;rw[this];omega
theorem Ss{w W e:Y}{db:M}{K h:DK}{F:ab}{A:M}{x:eR}(l:Steps w/\Pow w/\kB w)(u:Z ay w W)(j:∀k,K.aO db k->z (G w)<=k)(n:pJ W e db K h)(t:h.files=[⟨fa 1,A,F,(pI 1 qS++x).take<|y<|pI 1 qS,y<|pI 1 qS⟩])(D:h.gT=[])(p:Ac (((0:M):X)+1) [qS]):Z ay w e/\(∀k,h.aO db k->z (G w)<=k)/\ub e db 4 2 h 8 1 (seen<|ia [] [qS].flatten::(bU [] [] [] []).map (jT ((0+1:M):X))) 2 1 0 [] [] [] [] ci [qS]:=by
 have i:Z ay w e:=u.trans n.aj<|λk q=>.inr<|j k q;have g:∀k,h.aO db k->z (G w)<=k:=λk q=>(n.aO k q).elim (j k)<|λA=>aC u.size A;have o:vw h.files=[(fa 1,jZ 1 [qS])]:=by rw[t];simp[vw,jZ]
 refine⟨i,g,n.ok,by rw[o];exact Xy ⟨by simp[qS],by omega⟩ p (by simp[qS])<|λ_=>rfl,by omega,by omega,λv E=>?_,Steps.aj l.1 i id,l.2.1.aj i id,λq=>by have:=g _ q;have:=l.1.lt;omega,λq=>by have:=g _ q;have:=l.2.1.lt;omega⟩;have B:y (lC 1 ([]++[]++[]++[]) v)<=y v:=ep _ _;have r:=E.length_eq;rw[t]at r;rw[D];simp at r B|-;omega
theorem Qi{W:Y}{sbqq:M}(c:Ki)(t:TypeId)(k:sbqq<z (G W)):∀e,Z (λo=>o=sbqq) (cN W<|aw #[am c.key,am c.val,aN c.del] t) e->Do e (bD (z<|G W) 0 1 1) [c]:=by
 intro e l;have h:=ix W<|aw #[am c.key,am c.val,aN c.del] t;have n:=ak h;have g:e.heap[z<|G W]?=_:=(l.block (z<|G W) n (λi=>by have p:z (G W)=sbqq:=i;omega)).trans h;refine .inl ⟨⟨rfl,.inr ⟨z<|G W,0,1,rfl,ah _,λq u i=>?_⟩⟩,λo j=>by cases j;exact ak g⟩;rw[dE,cg g];simpa[gI,rS]using i
def Sr(hS:Steps a)(hP:Pow a)(hE:kB a):cY aZ 4 #[] a λn w'=>n=aM (aN ci)/\Z ay a w':=by
 have bi:=xZ a 1099511627776 (by omega);obtain⟨HS,HP,HE⟩:=dz hS hP hE;clear hS hP hE;go_in
 go_wp2_with fail
 apply bi.mono;rintro n W1⟨rfl,aU,ap⟩;have t1:Z ay a W1:=Z.aR ap;have p:∀k,(pC (z<|G a) 1099511627776).aO (z (G a)+2) k->z (G a)<=k:=λk q=>by rcases q with m|m|m|m|⟨cm,hx,m⟩|⟨ce,hg,m⟩;omega;have:k=z (G a):=m;omega;have:k=z (G a)+1:=m;omega;cases m;cases hx;cases hg
 have ao:ub W1 (z (G a)+2) 4 2 (pC (z<|G a) 1099511627776) 0 0 (λ_=>none) 2 1 0 [] [] [] [] aX []:=⟨aU,PV (by omega),by omega,by omega,λns m=>by
  have h2:ns=[]:=by simpa[pC]using m
  subst h2;simp[pC,lC],Steps.aj HS t1 id,HP.aj t1 id,λq=>by have:=p _ q;have:=HS.lt;omega,λq=>by have:=p _ q;have:=HP.lt;omega⟩
 have j:=BQ ao (by omega);have g:=U t1;have A:=U p;clear bi aU ap t1 p ao;go_wp2_with fail
 apply j.mono;rintro n W2(⟨rfl,s2,K2,m2,a2,b2,c2,d2,ca,bT,d⟩|⟨q,rfl,K',c',_,_,_,_,_,_,D⟩);rotate_left;exact(Ou D rfl rfl).elim;obtain⟨c,F⟩:∃c,z (G W1)+2=c:=⟨_,rfl⟩;rw[F]at d;rw[F];have t:K2.files=[]/\K2.sm=[]/\K2.gT=[]:=by obtain⟨ns,hp,m⟩:=d.ops;(have h2:ns=[]:=by simpa[pC]using hp);subst h2;exact⟨m.1,m.2.1,m.2.2⟩
 have al:ua a W2 (z (G a)+2) c s2 K2 m2 a2 b2 c2 d2 0 ca 0 bT:=⟨d.box,d.inv,d.tid,⟨d.same.2.1,d.same.1,d.same.2.2.1⟩,⟨λk q=>(d.aO k q).elim (A k) (λce=>by have:=g.size;omega),by have:=g.size;omega⟩,g.trans d.fj.aj<|λk q=>.inr<|q.elim (A k) (λn=>by have:=g.size;omega),⟨d.fj.fx.bd rfl,d.fj.fx.room⟩,HE⟩;have cb:∀a:Y,(binOp .eql 36 (aA c)<|cX none).run aZ a=.ok (aN aX) a:=λ_=>rfl;have O:=U al;have L:=U t;clear d j al t;go_wp2_with fail
 apply(mQ W2).mono;rintro n W3⟨rfl,au⟩;have B:=O.still<|show Z ay W2 W3 from Z.aR au;clear au;have bo:=Ya (B.still<|cF ay W3) L (by omega) (by omega)<|Qi zW 54<|ak B.GG;clear B O L F A g;go_wp2_with fail
 apply bo.mono;rintro n W4⟨rfl,s4,K4,m4,ce,cm,C,bd,ad,hC⟩;have bp:=XZ (C.still<|cF ay W4) bd ad (by omega) (by omega)<|Qi Yy 54<|ak C.GG;have HC:=U hC;clear C bd ad hC bo;go_wp2_with fail
 apply bp.mono;rintro n W5⟨rfl,K5,x5,cl,aV,bm,v,ba,bl,bg,av,bk,bf⟩;have aF:=TB aV ba bl bg ⟨rfl,by simp⟩ av (by have:=UI 1 qS;simp only[af];omega);obtain⟨br,P,bq,Q⟩:=fY bm v bf bk;clear aV ba bl bg av bp bm v bf bk;go_wp2_with fail
 apply aF.mono;rintro n W6⟨rfl,K6,x6,o,bb,bh⟩;obtain⟨bn,w,an⟩:=Ss ⟨HS,HP,HE⟩ br P o bb bh bq;have j:=BQ an (by omega);have l:=U<|And.intro (o.fx.bd Q.1) (o.fx.room.trans Q.2);obtain⟨i,e⟩:=And.intro (U bn) (U w);clear aF o bb bh an bn w;go_wp2_with fail
 apply j.mono;rintro n W7(⟨rfl,t7,K7,m7,a7,b7,c7,d7,cj,ch,b⟩|⟨q,rfl,K',c',_,_,_,_,_,_,D⟩);rotate_left;exact(Ou D l.1 l.2).elim;obtain⟨K,E⟩:∃K,z (G W6)+2=K:=⟨_,rfl⟩;rw[E]at b;rw[E];have cc:∀a:Y,(binOp .eql 36 (aA K)<|cX none).run aZ a=.ok (aN aX) a:=λ_=>rfl;have W:=U<|show Z ay a W7 from i.trans b.fj.aj<|λk q=>.inr<|q.elim (e k) (λn=>by have:=i.size;omega);have f:=U<|show(∀k,K7.aO (z (G a)+2) k->z (G a)<=k)/\z (G a)<=K from⟨λk q=>(b.aO k q).elim (e k) (λce=>by have:=i.size;omega),by have:=i.size;omega⟩;have u:∀m,Z ay W7 m->cY aZ 14 #[aA K,am ⟨#[107]⟩] m λn w'=>n=aM (dq #[am ⟨#[118]⟩,aN ci,.nilIface])/\Z ay a w':=λm hX=>by have hd:=oX (sbqq:=K) b.inv.st.aI hX;have hI:=b.inv.fj (ak b.box) hd rfl (ah _) rfl b.inv.loose;have bu:cS m K t7 0:=(hX.block _ (ak b.box) id).trans b.box;(have bL:AY (yx [] [zW]) ⟨#[107]⟩=(⟨#[118]⟩,ci,0):=by simp[AY,yx,ug,oM,zW,oO,ByteArray.size]);have bv:wN ((m7::bU a7 b7 c7 d7).map<|jT t7.aS) (yx [] [zW]):=⟨(J HC).1,λk ck=>by rw[(J HC).2 k ck];exact Iff.of_eq<|bS (·=H ck) (b.sG k).symm⟩;have bE:=b.same.1;apply(Mr ⟨#[107]⟩ bu hI.st b.same.2.1<|show(1:M)<=140737488351232 by omega).mono;rintro n w'⟨h1,K8,bx,_⟩;have cf:K7.fx.bd=0:=b.fj.fx.bd l.1;rcases h1 with rfl|⟨hb,_⟩;refine⟨?_,(W.cz hX).trans bx.aj<|λk q=>.inr<|q.elim (λq=>f.1 k (by rw[bE]at q;exact q)) (λn=>by have:=f.2;omega)⟩;rw[Mu hI.all bv,bL];rfl;omega
 have N:=U u;clear u b j E W f e i l;go_wp2_with fail
 apply(mQ W7).mono;rintro n W8⟨rfl,ax⟩;have aa:=U<|show Z ay W7 W8 from Z.aR ax;clear ax;go_wp2_with fail
 apply(mQ W8).mono;rintro n W9⟨rfl,aD⟩;have ac:=U<|show Z ay W7 W9 from aa.cz<|Z.aR aD;clear aD aa;go_wp2_with fail
 apply(mQ W9).mono;rintro n bs⟨rfl,r⟩;have bc:=N bs<|ac.cz<|Z.aR r;clear r ac N;go_wp2_with fail
 apply bc.mono;rintro n bt⟨rfl,x⟩;have T:=U x;clear x bc;go_wp2_with fail
 apply(mQ bt).mono;rintro n cd⟨rfl,s⟩;have V:=U<|T.cz<|Z.aR (S:=ay) s;clear s;go_wp2;go_ret;exact⟨rfl,V⟩
structure Gt where
 ds:ab
 os:cJ DC
 after:X
 dir:X
 tail:X
 C2:Bool
 zl:X
def Gt.cells(r:Gt):gW:=[r.ds,ar r.after,aE r.dir,aE r.tail,aN r.C2,ar r.zl]
def tJ(a:cJ Gt):gW:=a.flatMap Gt.cells
def AB(a:cJ Gt)(i:M)(h:i<y a)(j:M)(d:j<6):(tJ a)[i*6+j]?=a[i].cells[j]?:=by
 induction a generalizing i with
 |nil=>simp at h
 |cons o a c=>
  have e:tJ (o::a)=o.cells++tJ a:=rfl;have b:y o.cells=6:=rfl;rw[e];rcases i with _|i
  .rw[gp<|by omega];simp
  .rw[eU (by omega),b,show(i+1)*6+j-6=i*6+j by omega];exact c i<|by simpa using h
structure j4(w:Y)(r:Gt):Prop where
 ds:∃x c,r.ds=I x (y r.os) c/\(r.os=[]\/∃g off,x=H (R g off)/\yB w (bD g off (y r.os) c) r.os)
 num:r.after<=9223372036854775807/\r.zl<=9223372036854775807
structure D4(w:Y)(v:ab)(rs:cJ Gt):Prop where
 row:Row w 6 v (y rs) (tJ rs)
 lt:∀k,cK v=H k->k<z (G w)
 each:∀r∈rs,j4 w r
def sB(a:cJ Gt):M:=(a.map<|λr=>nX r.os).sum
def xg(a:cJ Gt):M:=(a.map<|λr=>y r.os+1).sum
def Pq(a:cJ Gt)(i:M)(h:i<y a):sB (a.take<|i+1)=sB (a.take i)+nX a[i].os:=by
 unfold sB;rw[ai h,aP,fw];simp
def Wt(a:cJ Gt)(k:M):sB (a.take k)<=sB a:=by
 unfold sB;grind[take_append_drop]
def Su(a:cJ Gt)(i:M)(h:i<y a):xg (a.take<|i+1)=xg (a.take i)+(y a[i].os+1):=by
 unfold xg;rw[ai h,aP,fw];simp
def Yd(a:cJ Gt)(k:M):xg (a.take k)<=xg a:=by
 unfold xg;grind[take_append_drop]
def yB.aj{w w':Y}{e:cJ DC}(h:yB w d e)(c:Z ay w w'):yB w' d e:=⟨c.row h.row<|λk a=>⟨id,h.lt k a⟩,λo g=>(h.MP o g).aj c<|λ_ _=>id,λk a=>ag (h.lt k a) c.size,h.F2,h.len,h.lens⟩
def NM{x:Option Addr}{e:cJ DC}(d:e=[]\/∃h c,x=H (R h c)/\yB a (bD h c (y e) b) e)(j:Z ay a f):cY aZ 8 #[I x (y e) b] f λi g=>i=aM (aN<|decide<|y e+DD e<=1048576)/\Z ay f g:=by
 rcases d with rfl|⟨h,c,rfl,d⟩;apply(NJ x b f).mono;rintro i g⟨rfl,rfl⟩;exact⟨rfl,Z.refl _ _⟩;apply(NK h c b e<|d.aj j).mono;rintro i g⟨rfl,q,rfl⟩;exact⟨rfl,iY _ _ _⟩
def Zf{a w1 W:Y}(e:PD W b c (cX none) k N g)(j:W.heap[g]?=H (aw #[az,ar 0,aN aX,az] 35 (0,0))){r:X}(t:r<1000000000)(s:cG W c (pC m r))(u:Z ay a W)(d:∀f,(pC m r).aO c f->z (G a)<=f/\f≠b/\f≠g)(i:z (G a)<=b/\z (G a)<=g/\b≠g)(l:1<=k/\k<=32/\2<=N/\N<=6)(p:Steps a)(o:Pow a)(n:kB a):XD (.no w1) a W b c g (cX none) k N az az [] [] [] [] 0 aX 0 0 False:=by
 refine⟨⟨e,VL j,?_,l,by simp,λf q=>q.elim⟩,⟨pC m r,s,⟨λ_=>none,⟨_,_,_,_,_,_,_,_,_,PV l⟩,List.Pairwise.nil,λf v=>by simp⟩,by omega,by omega,by simp,u,λf q=>(d f q).1,λf q=>?_,⟨p,o,n⟩,t,λq=>q.elim⟩,.inl rfl⟩;rintro(q|q|q|⟨v,h,q⟩);exact i.2.2 q;cases q;cases q;cases h;rcases q with(rfl|(rfl|q|q|⟨v,h,q⟩)|q)|q;exact⟨λf=>(d _ f).2.1 rfl,i.1,ak e⟩;exact⟨λf=>(d _ f).2.2 rfl,i.2.1,ak j⟩;cases q;cases q;cases h;exact q.elim;cases q
def xu.YW{d:zd}(i:xu d a f b k N c g Q):Z ay a f:=by
 obtain⟨l,h,m,j,n,o,B,p,e,i⟩:=i;exact i.cw.aj
def Fj(rx:Option Addr)(b:cJ Gt)(rc:M)(av co f:X)(m:b=[]\/∃bT j,rx=H (R bT j)/\D4 a (bD bT j (y b) rc) b)(hC:sB b<=900000)(hN:xg b<=90000000)(hS:Steps a)(i:Pow a)(hE:kB a):cY aZ 3 #[I rx (y b) rc,ar av,ar co,ar f] a λao w'=>ao=aM (aN ci)/\Z ay a w':=by
 have K:=Sr hS i hE;have rR:0<=wrap64 ((IntKind.u64.wrap f).tmod 100000)/\wrap64 ((IntKind.u64.wrap f).tmod 100000)<100000:=by(have c:(0:X)<=IntKind.u64.wrap f:=by rw[gH];omega);have d:=Int.tmod_nonneg 100000 c;have g:(IntKind.u64.wrap f).tmod 100000<100000:=Int.tmod_lt_of_pos _ (by omega);(have k:wrap64 ((IntKind.u64.wrap f).tmod 100000)=(IntKind.u64.wrap f).tmod 100000:=by unfold wrap64;omega);omega
 obtain⟨HS,HP,HE,bv⟩:=fY hS i hE m;clear hS i hE m;by_cases ck:1048576<y b;(·(have e1:(1048576:X)<(y b:X):=by omega);(go_in);(go_wp2_with fail);apply K.mono;rintro ao D⟨rfl,w⟩;have C:=U w;clear w K;go_wp2;go_ret;exact⟨rfl,C⟩);have e1:¬((1048576:X)<(y b:X)):=by omega
 obtain⟨rm,bk⟩:∃rm,wrap64 ((IntKind.u64.wrap f).tmod 100000)=rm:=⟨_,rfl⟩;rw[bk]at rR;go_in
 go_wp2_with fail
 apply K.mono;rintro ao D⟨rfl,w⟩;have C:=U w;clear w K;have bi:=RC av co;go_wp2_with fail
 rw[bk];refine(xZ D (3000+rm)<|by omega).mono ?_;rintro ao W2⟨rfl,bd,aU⟩;have B:=U bd;have Q:=U aU;clear bd aU;go_wp2_with fail
 apply(bi W2).mono;rintro ao W3⟨⟨n,e,rfl,ho⟩,bm⟩;have V:=U bm;have HO:=U ho;clear bm ho bi;go_wp2_with fail
 obtain⟨W4,t⟩:∃W4,cN (cN W3<|aw #[az,ar 0,aN aX,az] 35) (aw #[aA<|z (G D)+2,cX none,ar n,ar e,aA<|z<|G W3] 38)=W4:=⟨_,rfl⟩;have an:Z ay W2 W4:=by rw[<-t];exact V.cz<|(cF ay W3).alloc _
 have bt:Z ay a W4:=(C.cz<|Z.aR (S:=ay) Q).cz an;have cf:=C.size;have ch:=Q.size;have cj:=V.size;have bh:=ak B.ie;have ba:PD W4 (z (G W3)+1) (z (G D)+2) (cX none) n e (z<|G W3):=by unfold PD;rw[<-t];exact aJ _<|by simp
 have aV:W4.heap[z<|G W3]?=H (aw #[az,ar 0,aN aX,az] 35 (0,0)):=by rw[<-t];grind[fU,aJ]
 have bf:∀bo,(pC (z<|G D)<|3000+rm).aO (z (G D)+2) bo->z (G D)<=bo/\bo<z (G W2):=λbo q=>by refine⟨?_,B.lt bo q⟩;rcases q with c|c|c|c|⟨x,g,c⟩|⟨bT,d,c⟩;omega;have:bo=z (G D):=c;omega;have:bo=z (G D)+1:=c;omega;cases c;cases g;cases d
 have aD:=Zf (w1:=a) ba aV (by omega) (B.aj an<|λ_ _=>id) bt (λbo q=>by have:=bf bo q;omega) (by omega) HO HS HP HE;obtain⟨xb,al⟩:∃xb,z (G W3)+1=xb:=⟨_,rfl⟩;have ad:=tI aD ⟨0,by simp,by simp,rfl⟩ (by omega);rw[al]at ad;rw[t,al];clear t an bt cf ch cj bh ba aV bf aD al B Q V;apply ad.mono;rintro ao W5 i;obtain⟨A,rfl,bn⟩:∃A:X,ao=aM (ar A)/\((A=0/\xu (.no a) a W5 xb n e 0 1 True)\/A=2/\Z ay a W5):=by rcases i with⟨rfl,i⟩|⟨rfl,i⟩;exact⟨0,rfl,.inl ⟨rfl,i⟩⟩;exact⟨2,rfl,.inr ⟨rfl,i⟩⟩
 have bL:=U bn;clear i ad bn;go_wp2_with fail
 go_loopw [11,12] (λc cl wr=>∃(o:M)(A:X),o<=y b/\cl=ar o/\c=ar A/\((A=0/\xu (.no a) a wr xb n e (sB<|b.take o) (1+xg (b.take o)) True)\/A=2/\Z ay a wr)) (λ_ cl _=>y b-(intOf cl).toNat)
 case atStart=>exact⟨0,A,bP _,by go_num,rfl,bL⟩
 (case round=>obtain⟨o,A,hn,rfl,rfl,i⟩:=hrel;rcases i with⟨rfl,hX⟩|⟨rfl,hT⟩;rotate_left;(.have HT:=U hT;clear hT;by_cases l:o<y b;(·(have f1:(o:X)<(y b:X):=by omega);go_wp2;go_ret;exact⟨rfl,HT⟩);(have f1:¬(o:X)<(y b:X):=by omega);go_wp2;go_ret;exact⟨rfl,HT⟩);(.by_cases l:o<y b;(.rcases J bv with q|⟨bT,j,ce,m⟩;subst q;simp at l;(.subst ce;(have f1:(o:X)<(y b:X):=by omega);(have f0:(0:X)<=(o:X):=by omega);have cb:bT<z (G a):=m.lt bT rfl;have L:=(xu.YW hX);(have aa:y b<=rc:=by obtain⟨q1,⟨q2,q0⟩|⟨g',bp,ax,q2,aa,hc⟩⟩:=m.row;cases q2;cases q2;exact aa);(have d:∀aF(hj:aF<6),aW wr (R bT<|j+o*6+aF)=b[o].cells[aF]?:=λaF hj=>by obtain⟨q1,⟨q2,q0⟩|⟨g',bp,ax,q2,aa,hc⟩⟩:=m.row;cases q2;cases q2;have F:aF<y b[o].cells:=hj;rw[aQ F,bw];exact L.cell (hc _ _<|(AB b o l aF hj).trans<|aQ F) id cb);have cc:=m.each _<|aq l;obtain⟨⟨dx,dc,ca,u⟩,P⟩:=cc;have bc:=Pq b o l;have bb:=Wt b<|o+1;have O:=Su b o l;have bg:=Yd b<|o+1;have k0:=d 0 (by omega);have k1:=d 1 (by omega);have k2:=d 2 (by omega);have k3:=d 3 (by omega);have k4:=d 4 (by omega);have k5:=d 5 (by omega);generalize b[o]=rd at*;obtain⟨cn,c,p,r,k,bq,N⟩:=rd;simp only[Gt.cells]at*;subst ca;simp at k0 k1 k2 k3 k4 k5;have bl:=λf(b:Z ay a f)=>NM u b;have s:=λf(hX:xu (.no a) a f xb n e (sB<|b.take o) (1+xg (b.take o)) True)(hw:y c+DD c<=1048576)=>Rv hX dx c dc p r k N u P.1 P.2 hw (by omega) (by omega);obtain⟨W6,E⟩:∃W6,cN wr (aw #[I dx (y c) dc,ar p,aE r,aE k,aN bq,ar N] 42)=W6:=⟨_,rfl⟩;(have t6:Z ay wr W6:=by rw[<-E];exact cF ay wr);(have ac:W6.heap[z<|G wr]?=H (aw #[I dx (y c) dc,ar p,aE r,aE k,aN bq,ar N] 42 (0,0)):=by rw[<-E];exact aJ _ rfl);have v:=bl W6<|L.cz t6;have p0:=cellAt ac 0 rfl;obtain⟨HX,T,W,ap,bx,au⟩:=lf hX ac t6 s E L;have bu:=U<|And.intro bc (And.intro bb (And.intro O bg));clear hX ac t6 s E L bl d bc bb O bg u;(go_wp2_with fail);rw[J bx];apply v.mono;rintro ao W7⟨rfl,x⟩;have g:=(x.block _ (ak T) id).trans<|J T;by_cases hw:y c+DD c<=1048576;rotate_left;(·(have hd:decide (y c+DD c<=1048576)=aX:=by simpa using hw);rw[hd];have F:=U<|(au.cz W).cz x;clear g x v hd hw;go_wp2;go_ret;exact⟨rfl,F⟩);(·(have hd:decide (y c+DD c<=1048576)=ci:=by simpa using hw);rw[hd];have q4:=cellAt g 4 rfl;have f4:=cP (i:=4) g;obtain⟨W8,F⟩:∃W8,cq W7 (R (z<|G wr) 4) (aN aX)=W8:=⟨_,rfl⟩;(have cd:W8.heap[z<|G wr]?=H (aw #[I dx (y c) dc,ar p,aE r,aE k,aN aX,ar N] 42 (0,0)):=by rw[<-F];exact(aH g).trans rfl);(have t8:Z ay wr W8:=by rw[<-F];exact(W.cz x).trans (eZ W7 (z<|G wr) 4 _)<|λbo ao=>.inr (by have e':bo=z (G wr):=ao;omega));(have aF:xu (.no a) a W8 xb n e (sB<|b.take o) (1+xg (b.take o)) True:=by obtain⟨db,bs,hb,cm,pv,vs,cp,cr,br,h⟩:=J HX;exact⟨db,bs,hb,cm,pv,vs,cp,cr,br,h.still t8⟩);have s:=ap W8 aF hw;have z0:=cellAt g 0 rfl;have z1:=cellAt g 1 rfl;have z2:=cellAt g 2 rfl;have z3:=cellAt g 3 rfl;have z5:=cellAt g 5 rfl;have bE:=U F;clear g x v hd cd t8 aF F ap HX T W au p0 k0 k1 k2 k3 k4 k5;unfold UD at s;(go_wp2_with fail);rw[J bE];apply s.mono;rintro ao W9 i;(obtain⟨v9,rfl,h9⟩:∃v9:X,ao=aM (ar v9)/\((v9=0/\xu (.no a) a W9 xb n e (sB (b.take o)+nX c) (1+xg (b.take o)+y c+1) True)\/v9=2/\Z ay a W9):=by rcases i with⟨rfl,i⟩|⟨rfl,i⟩;exact⟨0,rfl,.inl ⟨rfl,i⟩⟩;exact⟨2,rfl,.inr ⟨rfl,i⟩⟩);have H9:=U h9;clear i h9 s z0 z1 z2 z3 z5 q4 f4;go_wp2;go_roundw;(case rel=>refine⟨o+1,v9,l,by go_num,rfl,(J H9).imp (λq=>⟨q.1,?_⟩) id⟩;obtain⟨g1,_,g3,_⟩:=J bu;rw[g1,g3,show 1+(xg (b.take o)+(y c+1))=1+xg (b.take o)+y c+1 by omega];exact q.2);case measure=>simp[intOf];omega)));(have f1:¬(o:X)<(y b:X):=by omega);have HT:=U<|xu.YW hX;clear hX;go_wp2;go_ret;exact⟨rfl,HT⟩))
theorem VO:prog.globalNamed "levels/code.steps" =H 1:=by kernel_rfl
theorem G5:prog.globalNamed "internal/strconv.uint64pow10" =H 2:=by kernel_rfl
theorem A9:prog.globalNamed "errors.errorType" =H 0:=by kernel_rfl
theorem Zl:(prog.globals[1]?).map (·.type)=H 344:=by kernel_rfl
theorem F4:(prog.globals[2]?).map (·.type)=H 377:=by kernel_rfl
theorem Zh:prog.underlying 344=H (.array 16 81):=by kernel_rfl
theorem F1:prog.underlying 377=H (.array 20 88):=by kernel_rfl
theorem p8:prog.underlying 81=H (.int .u32):=by kernel_rfl
theorem p7:prog.underlying 88=H (.int .u64):=by kernel_rfl
theorem F7:(prog.cutTypes.find? (·.1== "internal/reflectlite.rtype")).map (·.2)=H 214:=by kernel_rfl
theorem ZC:((List.range 441).filter λt=>prog.rowNamed t [101,114,114,111,114])=[47]:=by kernel_rfl
theorem Um:prog.types.size=441:=by kernel_rfl
def LZ:cJ (String×DataW Unit):=[("levels/code.steps",Rows.laid_levels_code_steps),("math/bits.deBruijn32tab",Rows.laid_math_bits_deBruijn32tab),("math/bits.deBruijn64tab",Rows.laid_math_bits_deBruijn64tab),("internal/strconv.uint64pow10",Rows.laid_internal_strconv_uint64pow10),("errors.errorType",Rows.laid_errors_errorType),("strconv.ErrRange",Rows.laid_strconv_ErrRange),("strconv.ErrSyntax",Rows.laid_strconv_ErrSyntax)]
theorem XK{W:Y}(p:laidMetH aZ LZ W):Steps W/\Pow W/\kB W:=by
 obtain⟨c,d⟩:=laidMetH_iff.1 p;have f:=c.filter (λx=>x.1== "levels/code.steps");rw[show((LZ.filter λx=>x.2.handleName?.isNone).filter λx=>x.1== "levels/code.steps")=[("levels/code.steps",Rows.laid_levels_code_steps)]by kernel_rfl]at f;have g:=c.filter (λx=>x.1== "internal/strconv.uint64pow10");rw[show((LZ.filter λx=>x.2.handleName?.isNone).filter λx=>x.1== "internal/strconv.uint64pow10")=[("internal/strconv.uint64pow10",Rows.laid_internal_strconv_uint64pow10)]by kernel_rfl]at g;rw[show(LZ.filter λx=>x.2.handleName?.isSome)=[("errors.errorType",Rows.laid_errors_errorType)]by kernel_rfl]at d;refine⟨?_,?_,?_⟩
 .have b:Lib.TabIs aZ W "levels/code.steps" .u32 [0,498536548,997073096,651767980,1994146192,1802195444,1303535960,1342533948,3988292384,4027552580,3604390888,3412177804,2607071920,2262029012,2685067896,3183342108]:=Lib.tabIs_of_head VO Zl Zh p8 (by kernel_rfl) (by kernel_rfl) f;intro k a;rw[World.var?_cell VO b k];have:∀k,k<16->(([0,498536548,997073096,651767980,1994146192,1802195444,1303535960,1342533948,3988292384,4027552580,3604390888,3412177804,2607071920,2262029012,2685067896,3183342108]:eR).map λb=>Value.int .u32 b).toArray[k]?=H (.int .u32 (Yr k)):=by
   intro k a;match k,a with
   |0,_|1,_|2,_|3,_|4,_|5,_|6,_|7,_|8,_|9,_|10,_|11,_|12,_|13,_|14,_|15,_=>rfl
   |n+16,p=>grind
  exact this k a
 exact Lib.tabIs_of_head G5 F4 F1 p7 (by kernel_rfl) (by kernel_rfl) g;obtain⟨a,u,o,h,i,j,k,b⟩:=d _ (dp.2 rfl);have l:a=[101,114,114,111,114]:=(gY h).symm;subst l;obtain rfl:=gY (F7.symm.trans i);have e:o∈(List.range 441).filter λt=>prog.rowNamed t [101,114,114,111,114]:=dL.2 ⟨jY.2 (by rw[<-Um];exact j),k⟩;rw[ZC]at e;obtain rfl:=dp.1 e;(have m:typeHandle aZ 47=.pointer (H (R (7) 47)):=by kernel_rfl);rw[m]at b;unfold kB;simpa using World.var?_cell A9 b 0
theorem MR{W:Y}{a n:M}{g:Addr}{b:gW}(h:W.cells? a g n=H b):y b=n/\∀j,j<n->aW W (g.add j)=b[j]?:=by
 unfold World.cells? at h;split at h;have f:=Lib.mapM_length h;refine⟨by simpa using f,λj e=>?_⟩;obtain⟨i,c,d⟩:=Lib.mapM_at h j j (by simp[e]);rw[d,c];cases h
theorem Ea{W:Y}{q:Addr}{e b:M}(f:0<e)(o:0<b){Q:M->gW->Prop}(x:∀i,i<e->∃c,W.cells? 0 (q.add (i*b)) b=H c/\Q i c):∃j a,q=(R j a)/\j<z (G W)/\∀i,i<e->∃c,y c=b/\(∀p,p<b->aW W (R j (a+i*b+p))=c[p]?)/\Q i c:=by
 obtain⟨c,n,_⟩:=x 0 f;obtain⟨r,l⟩:=MR n;have k:=l 0 o;rw[Ai]at k;have s:(q.add 0).add 0=q:=rfl;rw[s]at k;obtain⟨j,a,d⟩:=q;have w:∃A,aW W ⟨j,a,d⟩=H A:=⟨c[0]'(by omega),by rw[k];grind⟩;obtain⟨A,h⟩:=w;have m:j<z (G W)/\d=none:=by unfold World.cell? at h;simp only at h;split at h;rename_i C E D B;refine⟨?_,?_⟩;(grind);simp_all;cases h
 obtain⟨m,rfl⟩:=m;refine⟨j,a,rfl,m,λi t=>?_⟩;obtain⟨c,n,v⟩:=x i t;obtain⟨r,l⟩:=MR n;refine⟨c,r,λp u=>?_,v⟩;rw[<-l p u,Go.Deep.add_add];unfold Addr.add;by_cases g:i*b+p=0;rw[dH g,bw,g];rfl;grind
def wg(P:Program)(t:TypeId):Option (cJ (TypeId×M)):=match P.underlying t with
 |some (.struct a)=>H (a.toList.map λf=>(f.type,f.offset))
 |_=>none
theorem Au{P:Program}{t:TypeId}{l:cJ (TypeId×M)}(h:wg P t=H l):∃a,P.underlying t=H (.struct a)/\a.toList.map (λf=>(f.type,f.offset))=l:=by
 unfold wg at h;grind
theorem xX{d:Type}{e:TypeId×ab->d}{P:Program}{w:Y}{b f:M}{l:M->Bool}{c:Bool}{t:TypeId}{k:gW}{x:DataW d×cJ MemPlace}{q:cJ (TypeId×M)}(n:wg P t=H q)(u:DataW.trod e P w b l c f t k=H x):∃(g:cJ (DataW d×cJ MemPlace))(r:M),x.1=.agg (g.map (·.1))/\y g=y q/\∀(p i a:M),q[p]?=H (i,a)->∃h,g[p]?=H h/\DataW.trod e P w b l c r i ((k.drop a).take (P.cellsOf i))=H h:=by
 obtain⟨s,o,rfl⟩:=Au n;obtain⟨g,r,_,rfl,_,j,v⟩:=DataW.trod_struct o u;refine⟨g,r,rfl,by simpa using j,λp i a m=>?_⟩;rw[fq,pP]at m;grind
theorem ux{a:Type}{P:Program}{e:TypeId}:∀{l:cJ (DataW a)}{d:DataW a},d∈l->∀n∈d.weights P e,n∈DataW.weightsAll P e l
 |[],_,h,_,_=>by cases h
 |x::r,d,h,n,b=>by
  rw[DataW.weightsAll];rcases bJ.1 h with rfl|h
  .grind
  .exact kY _ (ux h n b)
theorem uT{a:Type}{P:Program}{t e:TypeId}(d:P.underlying t=H (.slice e))(b c:cJ (DataW a)):(DataW.slice b c).weights P t=(y b+y c)*P.bytesOf e::(DataW.weightsAll P e b++DataW.weightsAll P e c):=by
 rw[DataW.weights,d]
theorem xJ{a:Type}{P:Program}{t:TypeId}{l:cJ (TypeId×M)}(c:wg P t=H l)(b:cJ (DataW a)):(DataW.agg b).weights P t=DataW.weightsEach P (l.map (·.1)) b:=by
 obtain⟨e,d,rfl⟩:=Au c;rw[DataW.weights,d];simp only[gG];rfl
theorem MT{a:Type}(l r:cJ (DataW a)):Rows.uptoBulkAll (l++r)=Rows.uptoBulkAll l+Rows.uptoBulkAll r:=by
 induction l with
 |nil=>simp[Rows.uptoBulkAll]
 |cons x l b=>simp only[df,Rows.uptoBulkAll,b];omega
theorem FC{a:Type}{D:M->DataW a}{g:M->M}:∀(n:M),(∀i,i<n->g i<=Rows.uptoBulk (D i))->((List.range n).map g).sum<=Rows.uptoBulkAll ((List.range n).map D)
 |0,_=>by simp
 |n+1,h=>by
  have c:=FC n (λi b=>h i (by omega));have b:=h n (by omega);rw[List.range_succ,aP,aP,fw,MT];simp[Rows.uptoBulkAll];omega
theorem zX{a:Type}{D:M->DataW a}{g:M->M}(n:M)(b:cJ (DataW a))(h:∀i,i<n->g i<=Rows.uptoBulk (D i)):((List.range n).map g).sum<=Rows.uptoBulk (.slice ((List.range n).map D) b):=by
 have:=FC n h;simp only[Rows.uptoBulk];omega
theorem YR:wg aZ 54=H [(9,0),(9,1),(4,2)]:=by kernel_rfl
theorem r9:wg aZ 72=H [(3,0),(55,1)]:=by kernel_rfl
theorem Uk:prog.underlying 55=H (.slice 54):=by kernel_rfl
theorem Zj:prog.underlying 40=H (.slice 72):=by kernel_rfl
theorem p6:prog.underlying 9=H .string:=by kernel_rfl
theorem Ul:prog.underlying 4=H .bool:=by kernel_rfl
theorem YQ:prog.underlying 27=H (.int .u64):=by kernel_rfl
theorem IE:prog.underlying 3=H (.int .i64):=by kernel_rfl
theorem G8:prog.cellsOf 9=1:=by kernel_rfl
theorem YY:prog.cellsOf 4=1:=by kernel_rfl
theorem C4:prog.cellsOf 3=1:=by kernel_rfl
theorem C5:prog.cellsOf 55=1:=by kernel_rfl
theorem H5:prog.cellsOf 54=3:=by kernel_rfl
theorem L8:prog.cellsOf 72=2:=by kernel_rfl
theorem H6:prog.bytesOf 54=40:=by kernel_rfl
theorem L9:prog.bytesOf 72=32:=by kernel_rfl
theorem zq(l:oa):y (gI l)=y l*3:=by
 induction l with
 |nil=>rfl
 |cons c l b=>
  have e:gI (c::l)=rS c++gI l:=rfl;rw[e,af,b,aY];have:y (rS c)=3:=rfl;omega
theorem AE(l:cJ DC):y (rJ l)=y l*2:=by
 induction l with
 |nil=>rfl
 |cons c l b=>
  have e:rJ (c::l)=c.cells++rJ l:=rfl;rw[e,af,b,aY];have:y c.cells=2:=rfl;omega
theorem nL{b:gW}{k:M}{u:ab}(h:(b.drop k).take 1=[u]):b[k]?=H u:=by
 have c:=bS (λl=>l[0]?) h;grind
theorem KA:∀n:M,((List.range n).map (λ_=>4)).sum=4*n
 |0=>rfl
 |n+1=>by
  rw[List.range_succ,aP,fw,KA n];show 4*n+4=_;omega
section
variable{a:Type}{enc:TypeId×ab->a}
theorem UY{W:Y}{F:M->Bool}{c:Bool}{b:M}{e:gW}{K:DataW a×cJ MemPlace}(Q:DataW.trod enc aZ W 0 F c b 54 e=H K):∃k:Ki,e[0]?=H (.string k.key)/\e[1]?=H (.string k.val)/\e[2]?=H (.bool k.del)/\(∀B,(∀P∈K.1.weights aZ 54,P<=B)->k.key.size<=B/\k.val.size<=B)/\4<=Rows.uptoBulk K.1:=by
 obtain⟨u,P,l,D,g⟩:=xX YR Q;obtain⟨L,m,r⟩:=g 0 _ _ rfl;obtain⟨N,n,s⟩:=g 1 _ _ rfl;obtain⟨O,o,t⟩:=g 2 _ _ rfl;rw[G8]at r s;rw[YY]at t;obtain⟨p,x,h,_⟩:=DataW.trod_string p6 r;obtain⟨q,A,i,_⟩:=DataW.trod_string p6 s;obtain⟨E,C,j⟩:=DataW.trod_bool Ul t
 have d:u=[L,N,O]:=by
  match u,D,m,n,o with
  |[v,w,S],_,m,n,o=>
   grind
 refine⟨⟨p,q,E⟩,nL x,nL A,nL C,λB f=>?_,by rw[l,d,h,i,j];simp[Rows.uptoBulk,Rows.uptoBulkAll];omega⟩;rw[l,d,xJ YR,h,i,j]at f;simp only[cy,gR,DataW.weightsEach,DataW.weights,aG,bJ,gu,mO]at f;have v:=f (y p.data.toList) (by simp);have w:=f (y q.data.toList) (by simp);rw[lR]at v w;simp_all
theorem RY{W:Y}{n:M}{al:ab}{ad:DataW a×cJ MemPlace}(ao:DataW.trod enc aZ W 0 (λ_=>ci) ci n 55 [al]=H ad)(B:∀r∈ad.1.weights aZ 55,r<=140737488351232):∃f:oa,Do W al f/\(∀m∈f,m.key.size<=140737488351232/\m.val.size<=140737488351232)/\y f<=10000000000000/\4*y f+1<=Rows.uptoBulk ad.1:=by
 rcases Go.Deep.open_slice Uk ao with⟨l,T⟩|⟨an,b,S,ac,r,F,P,l,_,hl,_,L,w,o⟩;simp only[mP,vr]at l;exact⟨[],.inl ⟨⟨rfl,.inl ⟨l,rfl⟩⟩,λap v=>by rw[l]at v;cases v⟩,by simp,by simp,by rw[T];simp[Rows.uptoBulk]⟩;simp only[mP,vr]at l;simp only[nk]at L;subst l L;by_cases h0:b=0;subst h0;exact⟨[],.inr ⟨rfl,an,ac,rfl⟩,by simp,by simp,by rw[w];simp[Rows.uptoBulk]⟩;rw[H5]at o;obtain⟨O,c,rfl,hb,C⟩:=Ea (Q:=λi f=>DataW.trod enc aZ W 0 (λ_=>ci) ci r 54 f=H (F i,P i)) (by omega:0<b) (by omega:0<3) (λi e=>o i (by omega));(have q:∀i,i<b->∃m:Ki,aW W (R O (c+i*3))=H (.string m.key)/\aW W (R O (c+i*3+1))=H (.string m.val)/\aW W (R O (c+i*3+2))=H (.bool m.del)/\(∀B,(∀r∈(F i).weights aZ 54,r<=B)->m.key.size<=B/\m.val.size<=B)/\4<=Rows.uptoBulk (F i):=by intro i e;obtain⟨f,aa,h,x⟩:=C i e;obtain⟨m,A,s,t,D,V⟩:=UY x;exact⟨m,(by have:=h 0 (by omega);rw[kH]at this;exact this.trans A),(h 1 (by omega)).trans s,(h 2 (by omega)).trans t,D,V⟩);have N:Inhabited Ki:=⟨⟨⟨#[]⟩,⟨#[]⟩,aX⟩⟩;obtain⟨K,u⟩:=Go.Deep.choose_lt q;rw[w,uT Uk,H6]at B;(have p:b<=10000000000000:=by have:=B _ (kT);grind);have E:∀i,i<b->∀r∈(F i).weights aZ 54,r<=140737488351232:=λi e r c=>B r (du _ (jb _ (ux (bR.2 ⟨i,jY.2 e,rfl⟩) r c)));(have d:y ((List.range b).map K)=b:=by simp);refine⟨(List.range b).map K,.inl ⟨⟨by rw[zq],.inr ⟨O,c,ac,by rw[d],by rw[d];exact hl,λk au j=>?_⟩⟩,λap v=>by cases v;exact hb⟩,λm hc=>?_,by rw[d];exact p,?_⟩;(have aa:k<b*3:=by have:=(jy.1 j).1;rw[zq,d]at this;exact this);(have e:k/3<b:=by omega);obtain⟨A,s,t⟩:=lE ((List.range b).map K) (k/3) (by rw[d];exact e);obtain⟨f0,V,f2,_,_⟩:=u (k/3) e;(have h:k%3=0\/k%3=1\/k%3=2:=by omega);(have D:((List.range b).map K)[k/3]'(by rw[d];exact e)=K (k/3):=by simp);rw[D]at A s t;rcases h with h|h|h;(grind);(have x:k=k/3*3+1:=by omega);rw[x]at j|-;rw[s]at j;rw[<-bw,V,j];(have x:k=k/3*3+2:=by omega);rw[x]at j|-;rw[t]at j;rw[<-bw,f2,j];obtain⟨i,e,rfl⟩:=bR.1 hc;have h:=jY.1 e;exact(u i h).2.2.2.1 _ (E i h);have h:=zX (g:=λ_=>4) b ((List.range (ac-b)).map λk=>F (b+k)) (λi e=>(u i e).2.2.2.2);have D:=KA b;have x:=FC (g:=λ_=>4) b (λi e=>(u i e).2.2.2.2);rw[w,d];simp only[Rows.uptoBulk];omega
end
theorem r8:wg aZ 42=H [(40,0),(3,1),(27,2),(27,3),(4,4),(3,5)]:=by kernel_rfl
theorem Zi:prog.underlying 22=H (.slice 42):=by kernel_rfl
theorem L7:prog.cellsOf 42=6:=by kernel_rfl
theorem C3:prog.cellsOf 27=1:=by kernel_rfl
theorem G9:prog.cellsOf 40=1:=by kernel_rfl
section
variable{a:Type}{enc:TypeId×ab->a}
theorem XI{W:Y}{c:M}{g:gW}{x:DataW a×cJ MemPlace}(S:DataW.trod enc aZ W 0 (λ_=>ci) ci c 72 g=H x)(h:∀n∈x.1.weights aZ 72,n<=140737488351232):∃o:DC,(∀p,p<2->g[p]?=o.cells[p]?)/\Do W o.L o.cs/\(∀Q∈o.cs,Q.key.size<=140737488351232/\Q.val.size<=140737488351232)/\y o.cs<=10000000000000/\4*y o.cs+1<=Rows.uptoBulk x.1:=by
 obtain⟨t,n,m,K,l⟩:=xX r9 S;obtain⟨P,q,s⟩:=l 0 _ _ rfl;obtain⟨u,r,f⟩:=l 1 _ _ rfl;rw[C4]at s;rw[C5]at f;obtain⟨O,v,w,_⟩:=pV IE s;have C:∃L,(g.drop 1).take 1=[L]:=by rcases Go.Deep.open_slice Uk f with⟨B,_⟩|⟨aa,N,A,ac,n,V,T,B,_⟩;(grind);grind
 obtain⟨L,k⟩:=C;rw[k]at f
 have e:t=[P,u]:=by
  match t,K,q,r with
  |[A,B],_,q,r=>
   grind
 have D:Rows.uptoBulk u.1<=Rows.uptoBulk x.1:=by rw[m,e];simp[Rows.uptoBulk,Rows.uptoBulkAll];omega
 rw[m,e,xJ r9,w]at h;simp only[cy,gR,DataW.weightsEach]at h;obtain⟨b,d,j,i,E⟩:=RY f (λn e=>h n (by simp[e]));refine⟨⟨O,L,b⟩,λp F=>?_,d,j,i,by show 4*y b+1<=_;omega⟩;match p,F with
 |0,_=>exact nL v
 |1,_=>exact nL k
 |n+2,S=>grind
theorem Lq{W:Y}{f:M}{aa:ab}{E:DataW a×cJ MemPlace}(ad:DataW.trod enc aZ W 0 (λ_=>ci) ci f 40 [aa]=H E)(p:∀n∈E.1.weights aZ 40,n<=140737488351232):(∃E F,aa=.slice E 0 F)\/∃D,yB W aa D/\(D.map (λo=>4*y o.cs+1)).sum<=Rows.uptoBulk E.1:=by
 rcases Go.Deep.open_slice Zj ad with⟨i,_⟩|⟨an,b,N,al,n,K,L,i,_,hl,_,x,s,g⟩;grind
 simp only[mP,vr]at i;simp only[nk]at x;subst i x;by_cases h0:b=0;(grind);right;rw[L8]at g;obtain⟨ac,d,rfl,P,O⟩:=Ea (Q:=λi c=>DataW.trod enc aZ W 0 (λ_=>ci) ci n 72 c=H (K i,L i)) (by omega:0<b) (by omega:0<2) (λi e=>g i (by omega));rw[s,uT Zj,L9]at p;(have h:b<=10000000000000:=by have:=p _ (kT);grind);have S:∀i,i<b->∀n∈(K i).weights aZ 72,n<=140737488351232:=λi e n c=>p n (du _ (jb _ (ux (bR.2 ⟨i,jY.2 e,rfl⟩) n c)));(have k:∀i,i<b->∃o:DC,(∀j,j<2->aW W (R ac (d+i*2+j))=o.cells[j]?)/\Do W o.L o.cs/\(∀F∈o.cs,F.key.size<=140737488351232/\F.val.size<=140737488351232)/\y o.cs<=10000000000000/\4*y o.cs+1<=Rows.uptoBulk (K i):=by grind[XI]);have C:Inhabited DC:=⟨⟨0,az,[]⟩⟩;obtain⟨l,v⟩:=Go.Deep.choose_lt k;(have c:y ((List.range b).map l)=b:=by simp);(have A:∀o∈(List.range b).map l,∃i,i<b/\l i=o:=λo r=>by grind);refine⟨(List.range b).map l,⟨⟨by rw[AE],.inr ⟨ac,d,al,by rw[c],by rw[c];exact hl,λj ap w=>?_⟩⟩,λo r=>?_,λao V=>by cases V;exact P,λo r=>?_,by rw[c];exact h,λo r=>?_⟩,?_⟩;(have T:j<b*2:=by have:=(jy.1 w).1;rw[AE,c]at this;exact this);(have e:j/2<b:=by omega);(have B:j%2<2:=by omega);have m:=sH ((List.range b).map l) (j/2) (by rw[c];exact e) (j%2) B;have u:=(v (j/2) e).1 (j%2) B;(have q:((List.range b).map l)[j/2]'(by rw[c];exact e)=l (j/2):=by simp);rw[q]at m;(have t:j/2*2+j%2=j:=by omega);rw[t]at m;rw[bw,t]at u;rw[u,<-m,w];(grind);(grind);(grind);rw[gG,s];exact zX b _ (λi e=>(v i e).2.2.2.2)
theorem Oq{an:Y}{g:M}{k:gW}{aa:DataW a×cJ MemPlace}(ap:DataW.trod enc aZ an 0 (λ_=>ci) ci g 42 k=H aa)(q:∀u∈aa.1.weights aZ 42,u<=140737488351232):∃al:Gt,(∀l,l<6->k[l]?=al.cells[l]?)/\j4 an al/\(al.os.map (λau=>4*y au.cs+1)).sum+1<=Rows.uptoBulk aa.1:=by
 obtain⟨W,u,x,hl,d⟩:=xX r8 ap;obtain⟨y0,A,p⟩:=d 0 _ _ rfl;obtain⟨y1,B,P⟩:=d 1 _ _ rfl;obtain⟨y2,C,Q⟩:=d 2 _ _ rfl;obtain⟨y3,D,S⟩:=d 3 _ _ rfl;obtain⟨y4,E,T⟩:=d 4 _ _ rfl;obtain⟨y5,F,V⟩:=d 5 _ _ rfl;rw[C4]at P V;rw[C3]at Q S;rw[YY]at T;rw[G9]at p;obtain⟨n,a1,b1,w1⟩:=pV IE P;obtain⟨r,a2,b2,w2⟩:=pV YQ Q;obtain⟨s,a3,b3,w3⟩:=pV YQ S;obtain⟨t,a4,b4⟩:=DataW.trod_bool Ul T;obtain⟨o,a5,b5,w5⟩:=pV IE V;have hL:∃L,(k.drop 0).take 1=[L]:=by rcases Go.Deep.open_slice Zj p with⟨c,_⟩|⟨av,m,f,ax,u,ao,K,c,_⟩;(grind);grind
 obtain⟨L,v⟩:=hL;rw[v]at p
 have j:W=[y0,y1,y2,y3,y4,y5]:=by
  match W,hl,A,B,C,D,E,F with
  |[c,m,K,z3,z4,z5],_,A,B,C,D,E,F=>
   grind
 have ac:Rows.uptoBulk y0.1+1<=Rows.uptoBulk aa.1:=by rw[x,j];simp[Rows.uptoBulk,Rows.uptoBulkAll]<;>omega
 rw[x,j,xJ r8]at q;simp only[cy,gR,DataW.weightsEach]at q;have h:n<=9223372036854775807:=by simp[Lit.wf,IntKind.min,IntKind.max,IntKind.signed,IntKind.bits]at w1;omega
 have i:o<=9223372036854775807:=by simp[Lit.wf,IntKind.min,IntKind.max,IntKind.signed,IntKind.bits]at w5;omega
 have b:∀(e:cJ DC)(l:M),l<6->k[l]?=(⟨L,e,n,r,s,t,o⟩:Gt).cells[l]?:=λe l c=>by
  match l,c with
  |0,_=>exact nL v
  |1,_=>exact nL a1
  |2,_=>exact nL a2
  |3,_=>exact nL a3
  |4,_=>exact nL a4
  |5,_=>exact nL a5
  |u+6,ap=>omega
 rcases Lq p (λu b=>q u (by simp[b]))with⟨O,N,rfl⟩|⟨e,w,ad⟩;refine⟨⟨.slice O 0 N,[],n,r,s,t,o⟩,b [],⟨⟨O,N,rfl,.inl rfl⟩,h,i⟩,?_⟩;simp;omega;refine⟨⟨L,e,n,r,s,t,o⟩,b e,⟨?_,h,i⟩,by show(e.map _).sum+1<=_;omega⟩;rcases w.row with⟨q1,⟨m,K⟩|⟨ao,c,f,m,_⟩⟩;exact⟨none,0,by show L=_;rw[m,K],.inl (aL K)⟩;exact⟨H (R ao c),f,m,.inr ⟨ao,c,rfl,by rw[<-m];exact w⟩⟩
theorem AA(l:cJ Gt):y (tJ l)=y l*6:=by
 induction l with
 |nil=>rfl
 |cons c l b=>
  have e:tJ (c::l)=c.cells++tJ l:=rfl;rw[e,af,b,aY];have:y c.cells=6:=rfl;omega
theorem Lr{W:Y}{f:M}{v:ab}{K:DataW a×cJ MemPlace}(al:DataW.trod enc aZ W 0 (λ_=>ci) ci f 22 [v]=H K)(C:∀n∈K.1.weights aZ 22,n<=140737488351232):(∃K ad,v=.slice K 0 ad)\/∃F,D4 W v F/\(F.map (λr=>(r.os.map (λaa=>4*y aa.cs+1)).sum+1)).sum<=Rows.uptoBulk K.1:=by
 rcases Go.Deep.open_slice Zi al with⟨m,_⟩|⟨ao,b,O,an,n,L,N,m,_,hl,_,D,w,g⟩;grind
 simp only[mP,vr]at m;simp only[nk]at D;subst m D;by_cases h0:b=0;(grind);right;rw[L7]at g;obtain⟨ac,e,rfl,S,p⟩:=Ea (Q:=λi u=>DataW.trod enc aZ W 0 (λ_=>ci) ci n 42 u=H (L i,N i)) (by omega:0<b) (by omega:0<6) (λi c=>g i (by omega));rw[w,uT Zi]at C;have t:∀i,i<b->∀n∈(L i).weights aZ 42,n<=140737488351232:=λi c n d=>C n (du _ (jb _ (ux (bR.2 ⟨i,jY.2 c,rfl⟩) n d)));(have k:∀i,i<b->∃r:Gt,(∀j,j<6->aW W (R ac (e+i*6+j))=r.cells[j]?)/\j4 W r/\(r.os.map (λaa=>4*y aa.cs+1)).sum+1<=Rows.uptoBulk (L i):=by intro i c;obtain⟨u,T,o,q⟩:=p i c;obtain⟨r,x,B,P⟩:=Oq q (t i c);exact⟨r,λj h=>(o j h).trans (x j h),B,P⟩);have E:Inhabited Gt:=⟨⟨az,[],0,0,0,aX,0⟩⟩;obtain⟨A,s⟩:=Go.Deep.choose_lt k;(have d:y ((List.range b).map A)=b:=by simp);refine⟨(List.range b).map A,⟨⟨by rw[AA],.inr ⟨ac,e,an,by rw[d],by rw[d];exact hl,λj au h=>?_⟩⟩,λap V=>by cases V;exact S,λr l=>?_⟩,?_⟩;(have P:j<b*6:=by have:=(jy.1 h).1;rw[AA,d]at this;exact this);(have c:j/6<b:=by omega);(have l:j%6<6:=by omega);have o:=AB ((List.range b).map A) (j/6) (by rw[d];exact c) (j%6) l;have B:=(s (j/6) c).1 (j%6) l;(have q:((List.range b).map A)[j/6]'(by rw[d];exact c)=A (j/6):=by simp);rw[q]at o;(have x:j/6*6+j%6=j:=by omega);rw[x]at o;rw[bw,x]at B;rw[B,<-o,h];obtain⟨i,c,rfl⟩:=bR.1 l;exact(s i (jY.1 c)).2.1;rw[gG,w];exact zX b _ (λi c=>(s i c).2.2)
end
theorem Wq(b:oa):kX b<=y b:=by
 unfold kX;split<;>omega
theorem Fw:∀(b:cJ DC),4*nX b+y b<=(b.map (λo=>4*y o.cs+1)).sum
 |[]=>by simp[nX]
 |o::b=>by
  have c:=Fw b;have d:=Wq o.cs;simp[nX]at c|-;omega
theorem Fy:∀(b:cJ Gt),4*sB b+xg b<=(b.map (λr=>(r.os.map (λo=>4*y o.cs+1)).sum+1)).sum
 |[]=>by simp[sB,xg]
 |r::b=>by
  have c:=Fy b;have d:=Fw r.os;simp[sB,xg]at c|-;omega
