import Derived.Test.YtojeeoclojldpaaGreatDoorC26
open _root_ renaming List.length→y,Option.some→H,Array.size→z,Go.World.heap→G,Go.Value.ownBlock→bV,Go.World.cell?→aT,Go.World.setCell→bZ,Go.World.alloc→ct,Bool.false→bF,Bool.true→bW,Nat→M,Int→Z,List→cr,Go.Calls→cy,Go.Proofs.Tryz.prog→bG,Go.Value.slice→J,Go.Value.bool→aL,Go.Value.agg→eC
namespace Go.Proofs.YtojeeoclojldpaaGreatDoor
open ChangeShapes WideShapes RowKit Proofs.Tryz
set_option maxHeartbeats 16000000
set_option linter.all false
set_option maxRecDepth 100000
variable{a f C:I}{b c g l B:M}{d s N:aa}{e L:cA}{i p t u:cP}{j O:DK}{k:dW}{m:Z}{n:SR}{o:eI}{X:fJ}{w:E}{S:bJ}
def Tl(h:i.map (λS=>(S.tb,S.ks,S.cs))=p.map (λS=>(S.tb,S.ks,S.cs)))(b:S∈i):∃u∈p,S.tb=u.tb/\S.ks=u.ks/\S.cs=u.cs:=by
 have a:(S.tb,S.ks,S.cs)∈p.map (λS=>(S.tb,S.ks,S.cs)):=by rw[<-h];exact aZ.2 ⟨S,b,rfl⟩
 obtain⟨u,c,e⟩:=aZ.1 a;simp only[gT]at e;exact⟨u,c,e.1.symm,e.2.1.symm,e.2.2.symm⟩
def Ba(h:i.map (λt=>(t.tb,t.ks,t.cs))=p.map (λt=>(t.tb,t.ks,t.cs)))(a:ly p):ly i:=by
 refine⟨λt d=>?_,by rw[(lh h).2.2.2];exact a.mq,by rw[(lh h).2.2.1];exact a.CS⟩;obtain⟨u,e,_,b,c⟩:=Tl h d;rw[b,c];exact a.pure u e
def Qx{f g h j:cP}(b:i.map (λa=>(a.tb,a.ks,a.cs))=f.map (λa=>(a.tb,a.ks,a.cs)))(c:p.map (λa=>(a.tb,a.ks,a.cs))=g.map (λa=>(a.tb,a.ks,a.cs)))(d:t.map (λa=>(a.tb,a.ks,a.cs))=h.map (λa=>(a.tb,a.ks,a.cs)))(e:u.map (λa=>(a.tb,a.ks,a.cs))=j.map (λa=>(a.tb,a.ks,a.cs))):cF i p t u=cF f g h j:=by
 unfold cF;rw[(lh b).2.2.1,(lh c).2.2.2,(lh d).2.2.2,(lh e).2.2.2]
structure WE(w w':I)(sb:M)(s:SR)(k:Z)(n C:M)(K:DK)(v0 v1 v2 v3:aa)(a b c d:cP)(K':DK)(num:M)(a' b' c' d':cP):Prop where
 box:bL w' sb (s.settled v0 v1 v2 v3 n num) k
 st:ST w' sb (s.settled v0 v1 v2 v3 n num) K' [] a' b' c' d' C
 qX:SF (vw K'.files) (num+1) num n a' b' c' d' bF []
 rows:cF a' b' c' d'=cF a b c d
 GK:((a'++b'++c'++d').map bJ.tb).Nodup
 eM:y K'.eM<=1000001
 num:s.next<=num/\num<=s.next+1000000
 bj:∀k,K'.bj s.aN k->K.bj s.aN k\/z (G w)<=k
def OH(d cx cn bm:M)(ps:cr NT)(v0 v1 v2 v3:aa)(bo bp bn bq l o p r:cP)(bl:dW)(db:bL a b n m)(c:LS a n.aN b d j (l++o++p++r) ps cx v0 v1 v2 v3 bo bp bn bq)(bx:Dd a b 10 [(n.l0,l),(n.l1,o),(n.l2,p),(n.l3,r)])(hd:cK a n.aN j)(bi:¬j.bj n.aN b)(O:SF (vw j.files) n.next n.log bm l o p r n.gB bl)(ce:y (lO ((bm:Z)+1) bl)<=200000)(hn:cn<1000000000000000)(cM:n.next<=900000000000000)(ca:y j.eM<=10000000000)(bh:y (l++o++p++r)<=1000000)(bf:∃dc cn bn,n.memory=J dc cn bn)(bv:∀av,av=n.l0\/av=n.l1\/av=n.l2\/av=n.l3->∀m,bV av=H m->JJ n.aN b d j m):cy bG 89 #[aA b,eC #[v0,v1,v2,v3],aH cn] a λs Q=>s=aO .nilIface/\∃K' num a' b' c' d',WE a Q b n m cn cx j v0 v1 v2 v3 bo bp bn bq K' num a' b' c' d'/\Y (λm=>Wr n.aN j ps m\/m=b) a Q:=by
 have co:=c.count;have E:∀t∈l++o++p++r,t.num<n.next:=λt e=>(O.low t e).1;have bk:=O.total hd.nodup ce bh;have bd:∀t∈l++o++p++r,∀w∈l++o++p++r,t.num=w.num->t=w:=by intro t e w A s;obtain⟨cu,K,rfl⟩:=gL.1 e;obtain⟨cs,hj,rfl⟩:=gL.1 A;have hn:=cw.1 O.zn;rcases kB cu cs with q|q|q;have:=hn cu cs (by simpa using K) (by simpa using hj) q;simp only[jS]at this;exact absurd s this;subst q;rfl;have:=hn cs cu (by simpa using hj) (by simpa using K) q;simp only[jS]at this;exact absurd s.symm this
 have W:∀N,n.next<=N->dX (vw j.files) (gI N)=none:=by
  intro N F;cases q:dX (vw j.files) (gI N)with
  |none=>rfl
  |some bs=>
   rcases O.names _ _ q with s|⟨s,_⟩|⟨t,e,s⟩
   .exact absurd s<|vK _
   .exact absurd s<|mF _ _
   .have:=uQ s;have:=E t e;omega
 have br:∀g,Y aB a g->CF g n.aN b d j (l++o++p++r) ps (bo++bp++bn++bq) n.next 201000000000:=λg e=>{le:=aE c.le e.size,bj:=c.bj,ME:=c.ME,xt:=λt f=>(by simp only[am]at f;rcases f with((q|q)|q)|q<;>first|exact c.x0 t q|exact c.x1 t q|exact c.x2 t q|exact c.x3 t q),nodup:=c.nodup,apart:=c.apart,news:=λau x=>⟨(c.news au x).1.aw e<|λ_ _ q=>q,(c.news au x).2⟩,inj:=bd,low:=E,fresh:=W,fC:=c.fC,me:=c.me,small:=by simp only[af];omega,nx:=by omega,room:=by omega,qI:=bk,eM:=ca}
 have D:∀k,(pt n (l++o++p++r) k).Nodup/\∀N∈pt n (l++o++p++r) k,N≠gP/\∃bs,dX (vw j.files) N=H bs:=by
  intro k;have V:(mZ (l++o++p++r) k).Sublist (l++o++p++r):=eU;have ax:((mZ (l++o++p++r) k).map<|λt=>gI t.num).Nodup:=by
   have h:((mZ (l++o++p++r) k).map bJ.num).Nodup:=O.zn.sublist<|V.map _;unfold List.Nodup at h|-;rw[jp]at h|-;exact h.imp<|λa s=>a<|uQ s
  have K:∀N∈(mZ (l++o++p++r) k).map (λt=>gI t.num),N≠gP/\∃bs,dX (vw j.files) N=H bs:=by
   intro N F;obtain⟨t,e,rfl⟩:=aZ.1 F;exact⟨vK _,_,O.zc t<|V.subset e⟩
  unfold pt;cases an:n.gB with
  |false=>
   rw[cW (by simp),cC];exact⟨ax,K⟩
  |true=>
   rw[dw rfl];refine⟨?_,λN F=>?_⟩
   .rw[jM,kI];refine⟨λq=>?_,ax⟩;obtain⟨t,_,s⟩:=aZ.1 q;exact mF _ _ s
   .rcases am.1 F with q|q
    .rw[bH]at q;rw[q];exact⟨sd _,_,O.log an⟩
    .exact K N q
 refine(Me d cx cn 201000000000 ps v0 v1 v2 v3 bo bp bn bq l o p r db c br bx hd bi hn (by have:=O.lt;omega) bh (λN bs F s=>?_) bf bv D).mono ?_;rcases O.names _ _ F with q|⟨q,_⟩|⟨t,_,q⟩;exact Ip<|q.symm.trans s;exact NP _<|q.symm.trans s;exact Du _<|q.symm.trans s;rintro s Q⟨rfl,w1,wr,KR,K8,k,a',b',c',d',num,ch,hM,i,ea,eb,ec,ed,bt,bu,ao,bg,bT,al,X,ad⟩;have cT:=ch.size;have cE:=c.le;have cp:=c.ME;have cb:∀av,qD a n.aN b d j av->∀m,bV av=H m->¬(Wr n.aN j ps m\/m=b):=by rintro av P m g(q|q);rcases q with q|⟨au,x,q|q⟩;exact(P m g).2.1 q;have K:=(c.news au x).1;rcases(P m g).2.2.2 with ac|⟨V,fr,ac⟩;have:=(K.lt m<|.inl q).1;omega;exact io ac K.mem.box (by decide) q;have K:=(c.news au x).1;rcases(P m g).2.2.2 with ac|⟨V,fr,ac⟩;have:=(K.lt m<|.inr<|.inr q).1;omega;obtain⟨ax,hc⟩:=fD K.data (k:=au.x) rfl;exact io ac hc (by decide) q;exact(P m g).2.2.1 q
 have B:∀m,m<z (G a)->¬j.bj n.aN m->m≠b->Aside Q K8 n.aN b m:=λm h S h3=>
  ⟨ag h X.size,λq=>(ad m q).elim S (λac=>by omega),h3⟩
 have f:∀m,JJ n.aN b d j m->m<z (G a)/\¬j.bj n.aN m/\m≠b:=λm g=>⟨by have:=g.1;omega,g.2.1,g.2.2⟩;have cd:∀au∈ps,∀m,au.has m->m<z (G a)/\¬j.bj n.aN m/\m≠b:=λau x m g=>by have h:=(c.news au x).1.lt m g;exact⟨h.2,λq=>by have:=c.bj m q;omega,by omega⟩
 have v:∀w∈k,gI w.num∉pt n (l++o++p++r) k:=by intro w A q;unfold pt at q;rcases am.1 q with ac|ac;split at ac;rw[bH]at ac;exact mF _ _ ac;cases ac;obtain⟨t,e,s⟩:=aZ.1 ac;have e2:=uQ s;unfold mZ at e;rw[cS]at e;have:k.any (λw=>w.num==t.num)=bW:=iY.2 ⟨w,A,by rw[e2];exact beq_self_eq_true _⟩;rw[this]at e;simp at e
 have ba:∀N,N∉pt n (l++o++p++r) k->N≠gP->dX (vw K8.files) N=dX (vw KR.files) N:=λN h S=>by rw[ao,tj h,vg,cW<|λq=>S q.symm]
 have C:∀w∈k,∃cv:M->Prop,rO wr n.aN (vw KR.files) cv w/\(∀m,cv m->m<z (G a)/\¬j.bj n.aN m/\m≠b)/\w.num<num:=λw A=>by rcases hM.PQ w A with q|⟨au,x,_,q,_,K⟩;exact⟨_,hM.FN w q,f,by have:=E w q;have:=hM.qC.1;omega⟩;exact⟨_,q,cd au x,K⟩
 have hO:∀w∈k,rO Q n.aN (vw K8.files) (Aside Q K8 n.aN b) w:=λw A=>by obtain⟨cv,ho,V,_⟩:=C w A;have h:=ho.Ry (w':=Q)<|λm g=>al m (V m g).1 (V m g).2.1 (V m g).2.2;obtain⟨bb,ax,K,F,ha⟩:=h.mem;refine⟨⟨bb,ax,K,F,B bb (V bb ha).1 (V bb ha).2.1 (V bb ha).2.2⟩,B _ (V _ h.loc).1 (V _ h.loc).2.1 (V _ h.loc).2.2,h.ks,h.num,h.pure,h.idx,h.small,?_⟩;rw[ba _ (v w A)<|vK _];exact h.file
 have cc:num<=n.next+1000000:=by have:=hM.qC.2;simp only[af]at this;omega
 have u:∀av(f c:cP),qD a n.aN b d j av->Row a 1 av (y f) (f.map bJ.ptr)->c.map (λt=>(t.tb,t.ks,t.cs))=f.map (λt=>(t.tb,t.ks,t.cs))->(∀t∈c,t∈k)->Hz Q K8 n.aN b av c:=λav f c P hr he K=>by obtain⟨V,e2,_,_⟩:=lh he;refine⟨?_,λm g=>B m (P m g).1 (P m g).2.1 (P m g).2.2.1,λt e=>hO t<|K t e⟩;rw[V,e2];exact X.row hr<|λm g=>⟨cb av P m g,(P m g).1⟩
 have bc:∀m,JJ n.aN b d j m->Q.heap[m]?=a.heap[m]?:=λm g=>X.block m (by have:=g.1;omega) (by
  rintro(q|q)
  .rcases q with q|⟨au,x,q|q⟩
   .exact g.2.1 q
   .have:=((c.news au x).1.lt m<|.inl q).1;have:=g.1;omega
   .have:=((c.news au x).1.lt m<|.inr<|.inr q).1;have:=g.1;omega
  .exact g.2.2 q)
 have cj:∀t∈a',t∈k:=λt e=>by rw[i];simp[e]
 have ck:∀t∈b',t∈k:=λt e=>by rw[i];simp[e]
 have cl:∀t∈c',t∈k:=λt e=>by rw[i];simp[e]
 have cm:∀t∈d',t∈k:=λt e=>by rw[i];simp[e]
 have L:=hM.same;rw[bP]at L;refine⟨rfl,K8,num,a',b',c',d',⟨bt,?_,?_,Qx ea eb ec ed,?_,?_,⟨hM.qC.1,cc⟩,ad⟩,X⟩;exact{mem:=⟨rfl,.inl ⟨rfl,rfl⟩⟩,sV:=λm g=>(by cases g),l0:=u v0 bo a' c.b0 c.r0 ea cj,l1:=u v1 bp b' c.b1 c.r1 eb ck,l2:=u v2 bn c' c.b2 c.r2 ec cl,l3:=u v3 bq d' c.b3 c.r3 ed cm,aN:=bu,rV:=λq=>(ad b q).elim bi (λac=>by omega),lu:=⟨λcs hj=>(cH (w:=a)<|bc _ c.fC).trans<|c.steps cs hj,c.pow.de<|bc _ c.me,B _ (f _ c.fC).1 (f _ c.fC).2.1 (f _ c.fC).2.2,B _ (f _ c.me).1 (f _ c.me).2.1 (f _ c.me).2.2⟩,qI:=(by rw[(lh ea).2.2.2,(lh eb).2.2.2,(lh ec).2.2.2,(lh ed).2.2.2];have:=c.qI;simp only[cL];omega),mJ:=c.mJ,mq:=dQ.nil,jc:=by simp,s1:=Ba eb c.s1,s2:=Ba ec c.s2,s3:=Ba ed c.s3}
 .have K:∀t∈a'++b'++c'++d',t.num<num:=λt e=>by
   rw[<-i]at e;obtain⟨_,_,_,h3⟩:=C t e;exact h3
  refine{names:=?_,state:=.inl ?_,log:=λq=>(by cases q),GJ:=λ_=>rfl,zc:=?_,zn:=by rw[<-i];exact hM.zn,low:=λt e=>⟨by have:=K t e;omega,by have:=K t e;omega⟩,lt:=by omega,jc:=?_}
  .intro N bs F;rw[ao]at F;obtain⟨h,S⟩:=Oj bg F;rw[vg]at S;by_cases q:gP=N
   .exact .inl q.symm
   rw[cW q]at S;obtain⟨gs,ax,bb⟩:=hM.files;rw[ax,jw]at S;cases ac:dX (vw j.files) N with
   |none=>
    rw[ac,lX]at S;obtain⟨w,A,s,_⟩:=bb _<|xK S;simp only[gT]at s;exact .inr<|.inr ⟨w,by rw[<-i];exact A,s.1⟩
   |some cB=>
    rcases O.names _ _ ac with s|⟨s,an⟩|⟨t,e,s⟩
    .exact absurd s.symm q
    .refine absurd ?_ h;unfold pt;rw[an,dw rfl,s];simp
    .by_cases V:k.any (λw=>w.num==t.num)=bW
     .obtain⟨w,A,e2⟩:=iY.1 V;exact .inr<|.inr ⟨w,by rw[<-i];exact A,by rw[s,eq_of_beq e2]⟩
     .refine absurd ?_ h;unfold pt;rw[s];refine am.2<|.inr<|aZ.2 ⟨t,?_,rfl⟩;unfold mZ;rw[cS];exact⟨e,by simpa using V⟩
  .rw[ao,tj<|λq=>((D k).2 _ q).1 rfl,vg,dw rfl];rfl
  .intro t e;rw[<-i]at e;exact(hO t e).file
  .intro t e;rw[<-i]at e;have:=hO t e;exact⟨this.ks,this.pure,this.idx,this.small,this.num⟩
 rw[<-i,TS (T:=bo++bp++bn++bq) (i:=y<|bo++bp++bn++bq) (by rw[bP];exact L),bP];exact c.nodup;rw[bT];unfold pt;rw[af,cU];have h:y (mZ (l++o++p++r) k)<=y (l++o++p++r):=fh _ _;split;simp only[ay,cL];omega;simp only[cL];omega
def sw(h:Aside a j b c g):JJ b c (z<|G a) j g:=⟨h.lt,h.bj,h.ne⟩
def rO.MJ{f:Fs}{B:fJ}(h:rO a b f X S)(e:∀k,X k->B k):rO a b f B S:=by
 obtain⟨g,d,c,j,i⟩:=h.mem;exact⟨⟨g,d,c,j,e _ i⟩,e _ h.loc,h.ks,h.num,h.pure,h.idx,h.small,h.file⟩
def ST.Yu{C C':M}(h:ST a b n j e i p t u C)(m:b<z (G a))(f:((i++p++t++u).map bJ.tb).Nodup)(o:y (cg i)+y (cg p)+y (cg t)+y (cg u)<=C')(l:C'<=1000000):LS a n.aN b (z<|G a) j (i++p++t++u) [] C' n.l0 n.l1 n.l2 n.l3 i p t u where
 D:=h.KU
 le:=ah _
 bj:=h.aN.lt
 ME:=m
 steps:=h.lu.steps
 pow:=h.lu.pow
 fC:=sw h.lu.fC
 me:=sw h.lu.me
 uT:=λg d=>by
  simp only[am]at d;rcases d with((q|q)|q)|q
  .exact(h.l0.each g q).MJ<|λ_=>sw
  .exact(h.l1.each g q).MJ<|λ_=>sw
  .exact(h.l2.each g q).MJ<|λ_=>sw
  .exact(h.l3.each g q).MJ<|λ_=>sw
 news:=by simp
 apart:=List.Pairwise.nil
 r0:=h.l0.row
 r1:=h.l1.row
 r2:=h.l2.row
 r3:=h.l3.row
 b0:=λk c=>⟨(h.l0.loc k c).lt,(h.l0.loc k c).bj,(h.l0.loc k c).ne,.inl (h.l0.loc k c).lt⟩
 b1:=λk c=>⟨(h.l1.loc k c).lt,(h.l1.loc k c).bj,(h.l1.loc k c).ne,.inl (h.l1.loc k c).lt⟩
 b2:=λk c=>⟨(h.l2.loc k c).lt,(h.l2.loc k c).bj,(h.l2.loc k c).ne,.inl (h.l2.loc k c).lt⟩
 b3:=λk c=>⟨(h.l3.loc k c).lt,(h.l3.loc k c).bj,(h.l3.loc k c).ne,.inl (h.l3.loc k c).lt⟩
 x0:=λg d=>.inl<|by simp[d]
 x1:=λg d=>.inl<|by simp[d]
 x2:=λg d=>.inl<|by simp[d]
 x3:=λg d=>.inl<|by simp[d]
 nodup:=f
 s1:=h.s1
 s2:=h.s2
 s3:=h.s3
 qI:=o
 mJ:=l
def LS.XF{C n:aa}{o r:cP}{p:NT}(h:LS a b c g j i [] l d s N C t u o r)(B:Y aB a f)(A:p.Ok f (z<|G a))(w:Mz p.t)(x:f.ownsRow (z<|G a) 224 1 n (y<|t++[p.t]) ((t++[p.t]).map bJ.ptr))(K:y (cg t)+y (cg u)+y (cg o)+y (cg r)+y p.t.all<=l):LS f b c g j i [p] l n s N C (t++[p.t]) u o r:=by
 have h':=h.aw (B.mono cG)<|(ql b j).fi h.D B cG;refine{h' with news:=?_,apart:=by simp,r0:=dH x,b0:=yi x h.bj h.ME h.le,x0:=?_,x1:=λk q=>(h.x1 k q).more [p],x2:=λk q=>(h.x2 k q).more [p],x3:=λk q=>(h.x3 k q).more [p],nodup:=?_,qI:=?_};intro q e;rw[bH]at e;subst e;exact⟨A.base h.le,w⟩;intro k q;rcases am.1 q with q|q;exact(h.x0 k q).more [p];rw[bH]at q;exact .inr ⟨p,by simp,q.symm⟩;(have e:(t++[p.t]++u++o++r).Perm (p.t::(t++u++o++r)):=by(have v:t++[p.t]++u++o++r=t++p.t::(u++o++r):=by simp);(have D:t++u++o++r=t++(u++o++r):=by simp only[aU]);rw[v,D];exact kV);rw[(e.map bJ.tb).nodup_iff,aY,kI];refine⟨λq=>?_,h.nodup⟩;obtain⟨k,m,L⟩:=aZ.1 q;have E:=A.new;(have F:k.tb<z (G a):=by simp only[am]at m;rcases m with((v|v)|v)|v;exact XT.qz h<|h.x0 k v;exact XT.qz h<|h.x1 k v;exact XT.qz h<|h.x2 k v;exact XT.qz h<|h.x3 k v);omega;rw[eL];(have:cg [p.t]=p.t.all:=by simp[cg]);rw[this,af];omega
def Uz(i:MC a f b e k c g l B)(h:e≠[])(j:∀x∈e,x.Good)(m:dQ e)(n:y e<=100):NT.Ok f (z<|G a) ⟨⟨b,bO 0 k,k,0⟩,c,g,l,B⟩/\Mz ⟨b,bO 0 k,k,0⟩/\bJ.all ⟨b,bO 0 k,k,0⟩=e:=by
 have d:k.flatten=e:=i.pieces.flat;refine⟨⟨rfl,rfl,by show qo k.flatten k;rw[d];exact i.pieces,i.mem,i.data,i.FW,i.new⟩,⟨i.pieces.wH h j m,i.pieces.idx h j m n,?_⟩,d⟩;have o:=i.pieces.data;have p:=i.pieces.length;show y (dG k)<=100000;omega
def LS.Xe{w:cr NT}{x:aa}{E:cP}(h:LS a b c g j i w l d s N x p t u E):∃k,LS a b c g k i w l d s N x p t u E/\cK a b k/\k.files=j.files/\k.eM=j.eM/\∀n,k.bj b n->j.bj b n:=by
 obtain⟨B,k,r,v,A,o⟩:=h.D;have f:∀n,JJ b c g j n->JJ b c g k n:=λn m=>⟨m.1,λq=>m.2.1<|o n q,m.2.2⟩;have e:∀v,qD a b c g j v->qD a b c g k v:=λv f n m=>⟨(f n m).1,λq=>(f n m).2.1<|o n q,(f n m).2.2⟩;refine⟨k,{h with D:=Pw r r.lt,bj:=λn m=>h.bj n<|o n m,fC:=f _ h.fC,me:=f _ h.me,uT:=λF C=>?_,b0:=e _ h.b0,b1:=e _ h.b1,b2:=e _ h.b2,b3:=e _ h.b3},r,v,A,o⟩;rw[v];exact(h.uT F C).MJ f
def LS.other{K:cr NT}{L:aa}{W ac:cP}(h:LS a b c g j p K l d s N L t u W ac)(o:Y X a f)(x:∀k,X k->g<=k/\∃v w,a.heap[k]?=H (ar v 107 w)):LS f b c g j p K l d s N L t u W ac:=by
 have hF:∀k,X k->¬(ql b j).F k:=λk e q=>by have:=h.bj k q;have:=(x k e).1;omega
 have r:∀k,JJ b c g j k->¬X k:=λk e q=>by have:=e.1;have:=(x k q).1;omega
 have m:∀B,qD a b c g j B->∀k,bV B=H k->¬X k:=λB A k e q=>by obtain⟨S,v,w,C⟩:=x k q;rcases(A k e).2.2.2 with Q|⟨E,O,Q⟩;omega;exact io Q C (by decide) rfl
 have n:∀B,qD a b c g j B->qD f b c g j B:=λB A k e=>by obtain⟨E,O,Q,S⟩:=A k e;exact⟨ag E o.size,O,Q,S.imp id<|λ⟨v,w,a⟩=>⟨v,w,(o.block k E<|m B A k e).trans a⟩⟩
 refine{h with D:=(ql b j).fi h.D o hF,le:=aE h.le o.size,steps:=λal V=>o.cell (h.steps al V) (r _ h.fC)<|ag h.fC.1 h.le,pow:=h.pow.de<|o.block _ (ag h.me.1 h.le)<|r _ h.me,uT:=λan P=>(h.uT an P).Ry<|λk e=>o.block k (ag e.1 h.le)<|r k e,news:=λad F=>⟨?_,(h.news ad F).2⟩,r0:=o.row h.r0<|λk e=>⟨m _ h.b0 k e,(h.b0 k e).1⟩,r1:=o.row h.r1<|λk e=>⟨m _ h.b1 k e,(h.b1 k e).1⟩,r2:=o.row h.r2<|λk e=>⟨m _ h.b2 k e,(h.b2 k e).1⟩,r3:=o.row h.r3<|λk e=>⟨m _ h.b3 k e,(h.b3 k e).1⟩,b0:=n _ h.b0,b1:=n _ h.b1,b2:=n _ h.b2,b3:=n _ h.b3};exact SC.other (h.news ad F).1 o (λk e=>by obtain⟨_,v,w,C⟩:=x k e;exact⟨v,_,w,C,by decide,by decide,by decide⟩)
structure SV(w:I)(sb:M)(s:SR)(k:Z)(lb:M)(K:DK)(T0:cP)(C n:M)(ms:eI)(R0:Z->ab->Option ab)(wr:I)(v0 v1 v2 v3:aa)(a b c d:cP)(ps:cr NT):Prop where
 ls:LS wr s.aN sb (z<|G w) K T0 ps C v0 v1 v2 v3 a b c d
 lb:wr.heap[lb]?=H (ar #[v0,v1,v2,v3] 107 (0,0))
 pr:PR n (cF a b c d)
 wI:∀t,(t∈ms\/(n:Z)<=t)->∀q,fV t (cF a b c d) q=R0 t q
 box:bL wr sb s k
 aw:Y (K.bj s.aN) w wr
def JG(w:I)(a:M)(s:SR)(o:Z)(d:M)(K:DK)(c:cP)(C p:M)(e:eI)(b:Z->ab->Option ab)(wr:I):Prop:=∃g h i j k l m n f,SV w a s o d K c C p e b wr g h i j k l m n f
def wv(w:I)(a i:M):M:=match aT w (R a i)with
 |some (.slice _ n _)=>n
 |_=>0
def uW{x:Option Addr}(h:aT a (R b c)=H (J x g l)):wv a b c=g:=by
 unfold wv;rw[h]
def SV.put{D wr w2:I}{u:Z->ab->Option ab}{x A B C u0 u1 u2 u3:aa}{O P Q S a' b' c' d':cP}{N ps':cr NT}(h:SV D b n m c j i g l o u wr x A B C O P Q S N)(k:z (G D)<=c)(s:¬j.bj n.aN b)(E:LS w2 n.aN b (z<|G D) j i ps' g u0 u1 u2 u3 a' b' c' d')(F:PR l (cF a' b' c' d'))(K:∀t,(t∈o\/(l:Z)<=t)->∀q,fV t (cF a' b' c' d') q=fV t (cF O P Q S) q)(e:Y (j.bj n.aN) wr w2):w2.heap[c]?=H (ar #[x,A,B,C] 107 (0,0))/\SV D b n m c j i g l o u (bZ (bZ (bZ (bZ w2 (R c 0) u0) (R c 1) u1) (R c 2) u2) (R c 3) u3) u0 u1 u2 u3 a' b' c' d' ps':=by
 have r:¬j.bj n.aN c:=λq=>by have:=h.ls.bj c q;omega
 have a:=(e.block c (ak h.lb) r).trans h.lb;have d:Y (λq=>q=c) w2 (bZ (bZ (bZ (bZ w2 (R c 0) u0) (R c 1) u1) (R c 2) u2) (R c 3) u3):=((((Y.refl (λq=>q=c) w2).setCell _ _ _<|.inl rfl).setCell _ _ _<|.inl rfl).setCell _ _ _<|.inl rfl).setCell _ _ _<|.inl rfl;have L:b<z (G D):=h.ls.ME;refine⟨a,E.other d (λq w=>by subst w;exact⟨k,_,_,a⟩),NJ a,F,λt e q=>(K t e q).trans<|h.wI t e q,?_,?_⟩;have v:=(e.block b (ak h.box) s).trans h.box;exact(d.block b (ak v)<|λq=>by omega).trans v;exact(h.aw.trans e<|λ_ q=>.inl q).trans d<|λq w=>.inr<|by omega
def Ga.bj{e:fS}(i:Ga a j b n e)(d:Y (j.bj n.aN) a C):Ga C j b n e:=by
 obtain⟨k,g,h,c⟩:=i.ex;exact⟨⟨k,g,h.de<|d.block _ c.lt c.bj,ag c.lt d.size,c.bj,c.ne⟩,i.len⟩
def LS.CP{w wr:I}{m:cr NT}{n e:aa}{v:cP}(r:LS wr b c g j i m l d s N n p t u v)(h:Y aB wr w)(a:w.ownsRow (z<|G wr) 103 1 e (y o) (o.map<|Value.int .u64)):LS w b c g j i m l d s N n p t u v/\Row w 1 e (y o) (o.map<|Value.int .u64)/\∀k,bV e=H k->k<z (G w)/\¬j.bj b k:=⟨r.aw (h.mono cG)<|(ql b j).fi r.D h cG,dH a,λk f=>⟨(aI a k f).2,λq=>by have:=r.bj k q;have:=r.le;have:=(aI a k f).1;omega⟩⟩
structure JF(w w':I)(sb:M)(s:SR)(k:Z)(n C:M)(K:DK)(ms:eI)(R0:Z->ab->Option ab)(v0 v1 v2 v3:aa)(K':DK)(num:M)(a' b' c' d':cP):Prop where
 box:bL w' sb (s.settled v0 v1 v2 v3 n num) k
 st:ST w' sb (s.settled v0 v1 v2 v3 n num) K' [] a' b' c' d' C
 qX:SF (vw K'.files) (num+1) num n a' b' c' d' bF []
 pr:PR n (cF a' b' c' d')
 wI:∀t,(t∈ms\/(n:Z)<=t)->∀q,fV t (cF a' b' c' d') q=R0 t q
 GK:((a'++b'++c'++d').map bJ.tb).Nodup
 eM:y K'.eM<=1000001
 num:s.next<=num/\num<=s.next+1000000
 fq:gw w w' s.aN sb K K'
def PR.mono(h:PR b k)(d:b<=c):PR c k:=⟨h.sQ,h.mq,h.jc,λx a=>by have:=h.low x a;omega⟩
def Nd(lb:M)(ao ac:M)(ms:eI)(W:Z->ab->Option ab)(wr:I)(w x A B:aa)(ax ba ad bb:cP)(ps:cr NT)(r:SV a b n m lb j (i++p++t++u) ao ac ms W wr w x A B ax ba ad bb ps)(h0:bL a b n m)(d:ST a b n j e i p t u c)(hI:SF (vw j.files) n.next n.log g i p t u n.gB k)(S:y (lO ((g:Z)+1) k)<=200000)(hn:ac<1000000000000000)(Q:n.next<=900000000000000)(P:y j.eM<=10000000000):cy bG 89 #[aA b,eC #[w,x,A,B],aH ac] wr λal w'=>al=aO .nilIface/\∃C num D E F K,JF a w' b n m ac ao j ms W w x A B C num D E F K:=by
 obtain⟨K1,L,N,e1,e2,s⟩:=r.ls.Xe;have X:=d.count;have V:y (i++p++t++u)<=1000000:=by have v:=d.qI;have h2:=d.mJ;have:=lK<|λav o=>(d.l0.each av o).pure;have:=lK d.s1.pure;have:=lK d.s2.pure;have:=lK d.s3.pure;simp only[af];omega
 have O:Dd wr b 10 [(n.l0,i),(n.l1,p),(n.l2,t),(n.l3,u)]:=by refine(d.Yo h0).aw r.aw d.rV<|λv hi f h=>?_;(have:v=0\/v=1\/v=2\/v=3:=by simp at hi;omega);rcases this with rfl|rfl|rfl|rfl;exact(d.l0.loc f h).bj;exact(d.l1.loc f h).bj;exact(d.l2.loc f h).bj;exact(d.l3.loc f h).bj
 have au:=r.ls.ME;refine(OH (z<|G a) ao ac g ps w x A B ax ba ad bb i p t u k r.box L O N (λq=>d.rV<|s b q) (by rw[e1];exact hI) S hn Q (by rw[e2];exact P) V ?_ ?_).mono ?_;obtain⟨v,ad,al⟩:=bM d.mem;exact⟨v,_,ad,al⟩;have v:∀f,Aside a j n.aN b f->JJ n.aN b (z<|G a) K1 f:=λf q=>⟨q.lt,λan=>q.bj<|s f an,q.ne⟩;rintro bc(rfl|rfl|rfl|rfl)f h;exact v _<|d.l0.loc f h;exact v _<|d.l1.loc f h;exact v _<|d.l2.loc f h;exact v _<|d.l3.loc f h;rintro al w'⟨rfl,C,num,D,E,F,K,l,o⟩;have hz:=r.aw.size;refine⟨rfl,C,num,D,E,F,K,l.box,l.st,l.qX,by rw[l.rows];exact r.pr,λav o q=>by rw[l.rows];exact r.wI av o q,l.GK,l.eM,l.num,l.st.aN,?_,?_⟩;refine(r.aw.mono (T:=λf=>j.bj n.aN f\/f=b)<|λ_ q=>.inl<|.inl q).trans o<|λf q=>?_;rcases q with(q|⟨bc,v,q⟩)|q;exact .inl<|.inl<|s f q;refine .inr ?_;rcases q with q|q;exact((r.ls.news bc v).1.lt f<|.inl q).1;exact((r.ls.news bc v).1.lt f<|.inr<|.inr q).1;exact .inl<|.inr q;intro f q;rcases l.bj f q with an|an;exact .inl<|s f an;exact .inr<|by omega
def DA(mv:aa){cv:cP}(fk ej:M)(h:bL a b n m)(bg:ST a b n j e i t u cv c)(fb:((i++t++u++cv).map bJ.tb).Nodup)(hn:PR g (cF i t u cv))(hA:kw a mv L)(hd:∀m,bV mv=H m->m<z (G a))(hg:dQ L)(hr:rN 5 L)(he:∀gc∈L,gc.Good)(hB:y L<=100)(hc:∀gc∈L,(g:Z)<gc.bI)(hb:∀gc∈L,gc.bI<=ej)(hq:g<=ej)(hU:y (cg i)+y (cg t)+y (cg u)+y (cg cv)+y L<=fk)(hy:fk<=1000000)(hN:2<=n.wH)(hL:SF (vw j.files) n.next n.log g i t u cv n.gB k)(hG:y (lO ((g:Z)+1) k)<=200000)(hV:ej<1000000000000000)(hE:n.next<=900000000000000)(hC:y j.eM<=10000000000)(W:fS)(hp:Ga a j b n W):cy bG 71 #[aA b,mv,aH ej] a λch w'=>ch=aO .nilIface/\∃v0 v1 v2 v3 K' num a' b' c' d',JF a w' b n m ej fk j (so W) (λdT=>fV dT<|L::cF i t u cv) v0 v1 v2 v3 K' num a' b' c' d':=by
 have ho:=ak h;have eb:=bg.Yu (C':=fk) ho fb (by omega) hy;have ev:=λr wr v0 v1 v2 v3 a1 b1 c1 d1 b a=>Nd r fk ej (so W) (λdT=>fV dT<|L::cF i t u cv) wr v0 v1 v2 v3 a1 b1 c1 d1 b a h bg hL hG hV hE hC;obtain⟨y0,z0,fu⟩:=bM bg.l0.row;obtain⟨y1,z1,fv⟩:=bM bg.l1.row;obtain⟨y2,z2,P⟩:=bM bg.l2.row;obtain⟨y3,z3,fx⟩:=bM bg.l3.row;have hY:aT a (R b 10)=H (J y0 (y i) z0):=by rw[<-fu];exact h.cell rfl
 have ih:aT a (R b 11)=H (J y1 (y t) z1):=by rw[<-fv];exact h.cell rfl
 have il:aT a (R b 12)=H (J y2 (y u) z2):=by rw[<-P];exact h.cell rfl
 have ip:aT a (R b 13)=H (J y3 (y cv) z3):=by rw[<-fx];exact h.cell rfl
 rw[fu,fv,P,fx]at eb;obtain⟨WL,fs⟩:∃WL,ct a (ar #[J y0 (y i) z0,J y1 (y t) z1,J y2 (y u) z2,J y3 (y cv) z3] 107)=WL:=⟨_,rfl⟩;have dn:Y aB a WL:=by rw[<-fs];exact(Y.refl _ _).alloc _
 have gA:WL.heap[z<|G a]?=H (ar #[J y0 (y i) z0,J y1 (y t) z1,J y2 (y u) z2,J y3 (y cv) z3] 107 (0,0)):=by rw[<-fs];exact aD _ rfl
 have es:=eb.aw (dn.mono cG)<|(ql n.aN j).fi eb.D dn cG;have gt:bL WL b n m:=(dn.block b ho id).trans h;have dm:=bg.aN.lt;have fe:=bg.rV;obtain⟨mx,mc,hh⟩:=bM hA;obtain⟨gn,HM,hv,fn,fl,gj,cj,bh,gi⟩:=xG bg hA hd hg he hn ev es gA;obtain⟨fr,ea,HH,hu,ht,cE,hs,hQ,bi⟩:=xG dn gt h hc hb fe dm hh hp;have hM:z (G WL)=z (G a)+1:=by rw[<-fs];simp
 clear h bg fb hn hA hd hg he hc hb hL ev eb es gA dn gt fe dm fu fv P fx hp;subst hh;obtain⟨R0,ec⟩:∃R0:Z->ab->Option ab,(λdT=>fV dT<|L::cF i t u cv)=R0:=⟨_,rfl⟩;obtain⟨r,hz⟩:∃r,z (G a)=r:=⟨_,rfl⟩;have cn:z (G a)<=r:=by omega
 have gk:=U ec;have bu:=ae cj;rw[ec]at bu;clear cj;have cj:=U bu;rw[ec];clear bu ec;have el:=U hz;by_cases hI:y L=0;(case' pos=>(have ex:¬(0:Z)<(y L:Z):=by omega);have w:L=[]:=aQ hI;have an:=U<|show JG a b n m r j (i++t++u++cv) fk ej (so W) R0 WL from⟨_,_,_,_,i,t,u,cv,[],bh,by rw[<-ae el];exact gi,gj.mono hq,λdT _ q=>by rw[<-ae gk,w];exact(sN dT _ q).symm,ea,fr.mono cG⟩;clear w;(go_in);(go_wp2_with fail);obtain⟨W7,bx⟩:∃W7,WL=W7:=⟨_,rfl⟩;rw[bx];rw[bx]at an;clear bx)
 case' neg=>
  have ex:(0:Z)<(y L:Z):=by omega
  obtain⟨mg,mo,hk,hf,co⟩:∃hi bk,mx=H (R hi bk)/\y L<=mc/\∀ge hP,(aF L)[ge]?=H hP->aT a (R hi<|bk+ge)=H hP:=by
   obtain⟨_,⟨q1,q2⟩|⟨hi,bk,hR,q1,q2,q3⟩⟩:=ae HM
   .exact absurd q2 hI
   .cases q1;exact⟨hi,bk,rfl,q2,q3⟩
  subst hk;have hD:L≠[]:=λq=>hI (by rw[q];rfl);have fz:mg<z (G a):=hv mg rfl;have ds:Y aB a WL.drew:=fr.ci<|cf aB WL;have ey:=Dv L mg mo mc WL.drew (λge hj=>ds.cell (gn.lu.steps ge hj) id gn.lu.fC.lt) (by have:=ds.size;omega) (λge hP hj=>ds.cell (co ge hP hj) id fz) hf (by omega) fl fn (λq d=>aE (hr.keys q d)<|by omega) (by omega);clear co;go_in
  go_wp2_with fail
  rename_i QQ KK ax hF;have hS:WL.drew.heap[r]?=H (ar #[J y0 (y i) z0,J y1 (y t) z1,J y2 (y u) z2,J y3 (y cv) z3] 107 (0,0)):=by rw[<-ae el];exact gi
  refine cJ (λ(s:I)=>s.heap[r]?=H (ar #[J y0 (y i) z0,J y1 (y t) z1,J y2 (y u) z2,J y3 (y cv) z3] 107 (0,0))) 8 (by kernel_rfl) ?_;refine dA 0 ?_;iterate 3 (refine fw (v:=?_) hS rfl (by kernel_rfl) jU rfl ?_ ?_;rotate_left;(focus(intro s hX;have x0:aT s (R r 0)=H (J y0 (y i) z0):=(by rw[bN hX];rfl);go_simp;try rfl));simp only[Act.put,du,Nat.reduceAdd])
  apply eX;refine aP (i:=3) rfl rfl (by kernel_rfl) ?_;intro K3 ao;go_simp;apply ey.mono;rintro ch o⟨w,cs,hK,ck,xb,cl,rfl,K⟩;obtain⟨hm,hl,cm⟩:=Uz K hD fl fn hB;have cp:=(K.aw.block r (ak hS) id).trans hS;refine ao _ _ (λ_=>cp) ?_;clear ao ey;try simp only[Act.put,du]
  refine aP (i:=4) rfl rfl (by kernel_rfl) ?_;intro K4 au;go_simp;have gb:Y aB o (ct o<|ar #[aA w] 224):=(Y.refl _ _).alloc _;have ha:=(gb.block r (ak cp) id).trans cp;refine au _ _ (λ_=>ha) ?_;clear au;try simp only[Act.put,du]
  refine aP (i:=5) rfl rfl (by kernel_rfl) ?_;intro K5 av;go_simp;obtain⟨W5,db⟩:∃W5,ct (ct o<|ar #[aA w] 224) (ar #[J y0 (y i) z0,bD (z<|G o) 0 1 1] 105)=W5:=⟨_,rfl⟩;have ef:Y aB o W5:=by rw[<-db];exact gb.alloc _
  have ed:=(ef.block r (ak cp) id).trans cp;have dc:W5.heap[z<|G o]?=H (ar #[aA w] 224 (0,0)):=by rw[<-db];exact(fX _<|by simp).trans<|aD _ rfl
  have dd:W5.heap[z (G o)+1]?=H (ar #[J y0 (y i) z0,bD (z<|G o) 0 1 1] 105 (0,0)):=by rw[<-db];exact aD _<|by simp
  rw[db];refine av _ _ (λ_=>ed) ?_;clear av db;try simp only[Act.put,du]
  refine aP (i:=6) rfl rfl (by kernel_rfl) ?_;intro K6 O;go_simp;have br:Y aB WL W5:=((cf aB WL).ci K.aw).ci ef;have et:=tq (z (G o)+1) 0 2 [((J y0 (y i) z0:aa),i),(bD (z<|G o) 0 1 1,[⟨w,bO 0 cs,cs,0⟩])] W5 (by
   intro N hi;have:N=0\/N=1:=by simp at hi;omega
   rcases this with rfl|rfl<;>(rw[bN dd];rfl)) (ak dd) (by
    intro N hi;have:N=0\/N=1:=by simp at hi;omega
    rcases this with rfl|rfl
    .exact br.row bh.r0<|λm a=>⟨id,(bh.b0 m a).1⟩
    .refine⟨rfl,.inr ⟨z (G o),0,1,rfl,ah _,λge hP hj=>?_⟩⟩;rw[bN dc,cQ];simpa[bJ.ptr]using hj) (by
    intro N hi;have:N=0\/N=1:=by simp at hi;omega
    rcases this with rfl|rfl
    .exactλm a=>ag (bh.b0 m a).1 br.size
    .exactλm a=>by cases a;exact ak dc) (by simp) (by have:=bh.count;simp[ma];omega)
  apply et.mono;rintro ch w6⟨v6,rfl,ee,eg⟩;have bv:=(eg.block r (ak ed) id).trans ed;have eo:ma [((J y0 (y i) z0:aa),i),(bD (z<|G o) 0 1 1,[⟨w,bO 0 cs,cs,0⟩])]=y (i++[(⟨w,bO 0 cs,cs,0⟩:bJ)]):=by simp[ma]
  have en:qc [((J y0 (y i) z0:aa),i),(bD (z<|G o) 0 1 1,[⟨w,bO 0 cs,cs,0⟩])]=(i++[(⟨w,bO 0 cs,cs,0⟩:bJ)]).map bJ.ptr:=by simp[qc]
  rw[eo,en]at ee;obtain⟨x6,c6,hH⟩:=aC ee;subst hH;refine O _ _ (λ_=>bv) ?_;clear O et;try simp only[Act.put,du]
  refine aP (i:=7) rfl rfl (by kernel_rfl) ?_;intro K7 A;go_simp;refine A _ _ (λ_=>bv) ?_;clear A;try simp only[Act.put,du]
  refine aP (i:=8) rfl rfl (by kernel_rfl) ?_;intro K8 B;have x0:=cellAt bv 0 rfl;have hJ:=dK (i:=0) bv;go_simp;have bs:Y aB WL w6:=br.ci eg;have ff:Y aB o w6:=ef.ci eg;have fd:NT.Ok w6 (z<|G WL) ⟨⟨w,bO 0 cs,cs,0⟩,hK,ck,xb,cl⟩:=NT.Ok.aw hm ff<|λ_ _ q=>q;have gv:=bh.XF (p:=⟨⟨w,bO 0 cs,cs,0⟩,hK,ck,xb,cl⟩) bs fd hl (eQ ee br.size) (by
   show _+y (bJ.all ⟨w,bO 0 cs,cs,0⟩)<=fk;rw[cm];exact hU)
  have ei:Y (λq=>q=r) w6 (bZ w6 (R r 0)<|J x6 (y<|i++[(⟨w,bO 0 cs,cs,0⟩:bJ)]) c6):=(Y.refl (λq=>q=r) w6).setCell _ _ _<|.inl rfl;have eq:=gv.other ei (λq d=>by subst d;exact⟨cn,_,_,bv⟩);have F:PR ej (cF (i++[(⟨w,bO 0 cs,cs,0⟩:bJ)]) t u cv):=by
   rw[DI,cm];exact gj.cons hq fn fl hu ht
  have an:=U<|show JG a b n m r j (i++t++u++cv) fk ej (so W) R0 (bZ w6 (R r 0)<|J x6 (y<|i++[(⟨w,bO 0 cs,cs,0⟩:bJ)]) c6)from⟨_,_,_,_,_,t,u,cv,_,eq,(aR bv).trans rfl,F,λdT _ q=>by rw[DI,cm,<-ae gk],(ei.block b (ag (ak ea) bs.size)<|λq=>by omega).trans<|(bs.block b (ak ea) id).trans ea,((fr.ci bs).mono (T:=j.bj n.aN) cG).trans ei<|λq d=>.inr<|by omega⟩;refine B _ _ (λq=>(q rfl).elim) ?_;refine dp (by kernel_rfl) ?_ _;show KK _ _;apply ax;clear ax B eq gv F ei fd ff bs bv ee eg dc dd ed ef ha gb cp hm hl cm K hS x0 hJ br eo en;have em:y (i++[(⟨w,bO 0 cs,cs,0⟩:bJ)])=y i+1:=by simp
  rw[em]at an;obtain⟨W7,bx⟩:∃W7,bZ w6 (R r 0) (J x6 (y i+1) c6)=W7:=⟨_,rfl⟩;rw[bx];rw[bx]at an;clear bx em;go_wp2_with fail
 (all_goals clear ex;refine ld 5 ?_;rw[gX];(go_wp2_with fail);(go_loopw [9] (λ_ wr=>JG a b n m r j (i++t++u++cv) fk ej (so W) R0 wr) (λ_ wr=>wv wr r 0));(case atStart=>exact an);(case round=>obtain⟨v0,v1,v2,v3,a1,b1,c1,d1,ce,l⟩:=hrel;obtain⟨p0,q0,ca⟩:=bM l.ls.r0;obtain⟨p1,q1,cb⟩:=bM l.ls.r1;obtain⟨p2,q2,cc⟩:=bM l.ls.r2;obtain⟨p3,q3,cd⟩:=bM l.ls.r3;subst ca cb cc cd;have g0:=cellAt l.lb 0 rfl;have g1:=cellAt l.lb 1 rfl;have g2:=cellAt l.lb 2 rfl;have g3:=cellAt l.lb 3 rfl;have f:=rE 0 (y a1) p0 q0 l.box (by omega);by_cases K:ve n.wH 0 (y a1)=bW;(.rw[K]at f;(have bq:0<y a1:=by unfold ve at K;simp at K;omega);have gf:=U<|λ(o:I)(mv:aa)(bf:eI)(w:Y aB wr o)(L:o.ownsRow (z<|G wr) 103 1 mv (y bf) (bf.map<|Value.int .u64))(hp:bf.Perm (so W))=>l.ls.CP w L;have bn:=λ(o:I)(gc:Option Addr)(bg:M)(bf:eI)(w:Y aB wr o)(L:o.ownsRow (z<|G wr) 103 1 (J gc (y bf) bg) (y bf) (bf.map<|Value.int .u64))(hp:bf.Perm (so W))=>(l.ls.CP w L).1.Yf l.pr bq bf gc bg (l.ls.CP w L).2.1 (l.ls.CP w L).2.2 (by have:=hp.length_eq;rw[oI]at this;have:=bi.len;omega);have ac:=U bn;(have bp:∀bh,Y aB wr bh->cy bG 50 #[aA b] bh λch o=>∃v2,∃bf:eI,ch=aO v2/\bf.Perm (so W)/\o.ownsRow (z<|G wr) 103 1 v2 (y bf) (bf.map<|Value.int .u64)/\Y aB wr o:=λbh hW=>by obtain⟨mb,m1,m2,m3⟩:=(bi.bj l.aw).ex;apply(rA (b:=mb) W ((hW.block b (ak l.box) id).trans l.box) m1 (m2.de<|hW.block _ m3.lt id) bi.len).mono;rintro ch o⟨v2,bf,rfl,l1,l2,l3⟩;exact⟨v2,bf,rfl,l1,eQ l2 hW.size,hW.ci l3⟩);obtain⟨cB,ad,gg⟩:=dC bp l.lb (show∀q,j.bj n.aN q->q<z (G a)from l.ls.bj);have X:=λo u0 u1 u2 u3 a2 b2 c2 d2 V hl hp hs w=>l.put (w2:=o) (u0:=u0) (u1:=u1) (u2:=u2) (u3:=u3) (a':=a2) (b':=b2) (c':=c2) (d':=d2) (ps':=V) cn cE hl hp hs w;have bl:=U X;have bo:=uW g0;have cx:=U bo;clear l X bo K bn bp;(go_wp2_with fail);apply f.mono;rintro ch o⟨rfl,cu⟩;subst o;clear f;(go_wp2_with fail);rename_i QQ KK ax;have hS:wr.drew.heap[r]?=H (ar #[J p0 (y a1) q0,J p1 (y b1) q1,J p2 (y c1) q2,J p3 (y d1) q3] 107 (0,0)):=ae ad;refine oq (λ(s:I)=>s.heap[r]?=H (ar #[J p0 (y a1) q0,J p1 (y b1) q1,J p2 (y c1) q2,J p3 (y d1) q3] 107 (0,0))) 6 (by kernel_rfl) ?_;refine uL 0 ?_;(iterate 3 (refine AR (v:=?_) hS rfl (by kernel_rfl) jU rfl ?_ ?_;rotate_left;(focus(intro s hX;have x0:aT s (R r 0)=H (J p0 (y a1) q0):=(by rw[bN hX];rfl);have x1:aT s (R r 1)=H (J p1 (y b1) q1):=(by rw[bN hX];rfl);have x2:aT s (R r 2)=H (J p2 (y c1) q2):=(by rw[bN hX];rfl);have x3:aT s (R r 3)=H (J p3 (y d1) q3):=(by rw[bN hX];rfl);go_simp;try rfl));simp only[Act.put,du,Nat.reduceAdd]));apply AQ;refine dM (i:=3) rfl rfl (by kernel_rfl) ?_;intro K3 ao;go_simp;apply(cB wr.drew<|cf _ _).mono;rintro ch wm⟨vm,lm,rfl,bc,bb,S⟩;obtain⟨dx,cT,dv⟩:=aC bb;subst dv;have D:=ac wm dx cT lm S bb bc;have bm:wm.heap[r]?=H (ar #[J p0 (y a1) q0,J p1 (y b1) q1,J p2 (y c1) q2,J p3 (y d1) q3] 107 (0,0)):=(S.block r (ak ad) id).trans ad;refine ao _ _ (λ_=>bm) ?_;(try simp only[Act.put,du]);refine dM (i:=4) rfl rfl (by kernel_rfl) ?_;intro K4 au;go_simp;apply D.mono;rintro ch o⟨xm,bt,gs,tm,V,rfl,P,F,x,Q⟩;have Q:=(S.mono (T:=j.bj n.aN) cG).trans Q<|λ_ q=>.inl q;have x:=λdT(w:dT∈so W\/(ej:Z)<=dT)=>x dT<|w.imp_left<|λq=>bc.mem_iff.2 q;obtain⟨d,ba⟩:=bl o _ _ _ _ _ _ _ _ V P F x Q;have g0:=cellAt d 0 rfl;have r0:=dK (i:=0) d;have g1:=cellAt d 1 rfl;have r1:=dK (i:=1) d;have g2:=cellAt d 2 rfl;have r2:=dK (i:=2) d;have g3:=cellAt d 3 rfl;have r3:=dK (i:=3) d;(have E:wv (bZ (bZ (bZ (bZ o (R r 0) aK) (R r 1)<|J xm bt gs) (R r 2)<|J p2 (y c1) q2) (R r 3)<|J p3 (y d1) q3) r 0<wv wr r 0:=by have dk:=cellAt ba.lb 0 rfl;rw[ae cx,uW dk];omega);have cM:=U ba;have al:=U E;clear ba E;refine au _ _ (λ_=>d) ?_;(try simp only[Act.put,du]);refine dM (i:=5) rfl rfl (by kernel_rfl) ?_;intro K5 av;go_simp;refine av _ _ (λ_=>d) ?_;(try simp only[Act.put,du]);clear ao au av;apply CR KK;(.intro bd;refine qH (i:=6) (j:=7) rfl rfl rfl rfl (by kernel_rfl) ?_ ?_;(.intro K6 O;go_simp;refine O _ _ (λu=>(by omega)) ?_;(try simp only[Act.put,du]);refine qH (i:=7) (j:=8) rfl rfl rfl rfl (by kernel_rfl) ?_ ?_;(.intro K7 A;go_simp;refine A _ _ (λu=>(by omega)) ?_;(try simp only[Act.put,du]);refine dM (i:=8) rfl rfl (by kernel_rfl) ?_;intro K8 B;go_simp;refine B _ _ (λu=>(by omega)) ?_;(try simp only[Act.put,du]);refine dM (i:=9) rfl rfl (by kernel_rfl) ?_;intro K9 C;go_simp;refine C _ _ (λu=>(by omega)) ?_;(try simp only[Act.put,du]);refine ki (by kernel_rfl) ?_ _;exact bd);intro K8 B;go_simp;refine B _ _ (λu=>(by omega)) ?_;(try simp only[Act.put,du]);refine dM (i:=7) rfl rfl (by kernel_rfl) ?_;intro K7 A;go_simp;refine A _ _ (λu=>(by omega)) ?_;(try simp only[Act.put,du]);refine dM (i:=9) rfl rfl (by kernel_rfl) ?_;intro K9 C;go_simp;refine C _ _ (λu=>(by omega)) ?_;(try simp only[Act.put,du]);refine ki (by kernel_rfl) ?_ _;exact bd);intro K7 A;go_simp;refine A _ _ (λu=>(by omega)) ?_;(try simp only[Act.put,du]);refine dM (i:=6) rfl rfl (by kernel_rfl) ?_;intro K6 O;go_simp;refine O _ _ (λu=>(by omega)) ?_;(try simp only[Act.put,du]);refine dM (i:=8) rfl rfl (by kernel_rfl) ?_;intro K8 B;go_simp;refine B _ _ (λu=>(by omega)) ?_;(try simp only[Act.put,du]);refine dM (i:=9) rfl rfl (by kernel_rfl) ?_;intro K9 C;go_simp;refine C _ _ (λu=>(by omega)) ?_;(try simp only[Act.put,du]);refine ki (by kernel_rfl) ?_ _;exact bd);apply ax;clear ax hS bm bb S bc d P F x Q D;go_wp2;go_roundw;(case rel=>exact⟨_,_,_,_,_,_,_,_,V,cM⟩);case measure=>exact al);(.rw[uK]at K;rw[K]at f;have an:=U<|show JG a b n m r j (i++t++u++cv) fk ej (so W) R0 wr from⟨_,_,_,_,_,_,_,_,ce,l⟩;clear l K;(go_wp2_with fail);apply f.mono;rintro ch o⟨rfl,cu⟩;subst o;clear f g0 g1 g2 g3;(go_wp2_with fail);rw[gX];(go_wp2_with fail);(go_loopw [9] (λ_ wr=>JG a b n m r j (i++t++u++cv) fk ej (so W) R0 wr) (λ_ wr=>wv wr r 1));(case atStart=>exact an);(case round=>obtain⟨v0,v1,v2,v3,a1,b1,c1,d1,ce,l⟩:=hrel;obtain⟨p0,q0,ca⟩:=bM l.ls.r0;obtain⟨p1,q1,cb⟩:=bM l.ls.r1;obtain⟨p2,q2,cc⟩:=bM l.ls.r2;obtain⟨p3,q3,cd⟩:=bM l.ls.r3;subst ca cb cc cd;have g0:=cellAt l.lb 0 rfl;have g1:=cellAt l.lb 1 rfl;have g2:=cellAt l.lb 2 rfl;have g3:=cellAt l.lb 3 rfl;have f:=rE 1 (y b1) p1 q1 l.box (by omega);by_cases K:ve n.wH 1 (y b1)=bW;(.rw[K]at f;(have bq:0<y b1:=by unfold ve at K;simp at K;omega);have gf:=U<|λ(o:I)(mv:aa)(bf:eI)(w:Y aB wr o)(L:o.ownsRow (z<|G wr) 103 1 mv (y bf) (bf.map<|Value.int .u64))(hp:bf.Perm (so W))=>l.ls.CP w L;have bn:=λ(o:I)(gc:Option Addr)(bg:M)(bf:eI)(w:Y aB wr o)(L:o.ownsRow (z<|G wr) 103 1 (J gc (y bf) bg) (y bf) (bf.map<|Value.int .u64))(hp:bf.Perm (so W))=>(l.ls.CP w L).1.Ye l.pr bq bf gc bg (l.ls.CP w L).2.1 (l.ls.CP w L).2.2 (by have:=hp.length_eq;rw[oI]at this;have:=bi.len;omega);have ac:=U bn;(have bp:∀bh,Y aB wr bh->cy bG 50 #[aA b] bh λch o=>∃v2,∃bf:eI,ch=aO v2/\bf.Perm (so W)/\o.ownsRow (z<|G wr) 103 1 v2 (y bf) (bf.map<|Value.int .u64)/\Y aB wr o:=λbh hW=>by obtain⟨mb,m1,m2,m3⟩:=(bi.bj l.aw).ex;apply(rA (b:=mb) W ((hW.block b (ak l.box) id).trans l.box) m1 (m2.de<|hW.block _ m3.lt id) bi.len).mono;rintro ch o⟨v2,bf,rfl,l1,l2,l3⟩;exact⟨v2,bf,rfl,l1,eQ l2 hW.size,hW.ci l3⟩);obtain⟨cB,ad,gg⟩:=dC bp l.lb (show∀q,j.bj n.aN q->q<z (G a)from l.ls.bj);have X:=λo u0 u1 u2 u3 a2 b2 c2 d2 V hl hp hs w=>l.put (w2:=o) (u0:=u0) (u1:=u1) (u2:=u2) (u3:=u3) (a':=a2) (b':=b2) (c':=c2) (d':=d2) (ps':=V) cn cE hl hp hs w;have bl:=U X;have bo:=uW g1;have cx:=U bo;clear l X bo K bn bp;(go_wp2_with fail);apply f.mono;rintro ch o⟨rfl,cu⟩;subst o;clear f;(go_wp2_with fail);rename_i QQ KK ax;have hS:wr.drew.heap[r]?=H (ar #[J p0 (y a1) q0,J p1 (y b1) q1,J p2 (y c1) q2,J p3 (y d1) q3] 107 (0,0)):=ae ad;refine oq (λ(s:I)=>s.heap[r]?=H (ar #[J p0 (y a1) q0,J p1 (y b1) q1,J p2 (y c1) q2,J p3 (y d1) q3] 107 (0,0))) 6 (by kernel_rfl) ?_;refine uL 0 ?_;(iterate 3 (refine AR (v:=?_) hS rfl (by kernel_rfl) jU rfl ?_ ?_;rotate_left;(focus(intro s hX;have x0:aT s (R r 0)=H (J p0 (y a1) q0):=(by rw[bN hX];rfl);have x1:aT s (R r 1)=H (J p1 (y b1) q1):=(by rw[bN hX];rfl);have x2:aT s (R r 2)=H (J p2 (y c1) q2):=(by rw[bN hX];rfl);have x3:aT s (R r 3)=H (J p3 (y d1) q3):=(by rw[bN hX];rfl);go_simp;try rfl));simp only[Act.put,du,Nat.reduceAdd]));apply AQ;refine dM (i:=3) rfl rfl (by kernel_rfl) ?_;intro K3 ao;go_simp;apply(cB wr.drew<|cf _ _).mono;rintro ch wm⟨vm,lm,rfl,bc,bb,S⟩;obtain⟨dx,cT,dv⟩:=aC bb;subst dv;have D:=ac wm dx cT lm S bb bc;have bm:wm.heap[r]?=H (ar #[J p0 (y a1) q0,J p1 (y b1) q1,J p2 (y c1) q2,J p3 (y d1) q3] 107 (0,0)):=(S.block r (ak ad) id).trans ad;refine ao _ _ (λ_=>bm) ?_;(try simp only[Act.put,du]);refine dM (i:=4) rfl rfl (by kernel_rfl) ?_;intro K4 au;go_simp;apply D.mono;rintro ch o⟨xl,nl,hx,xm,bt,gs,hw,gr,V,rfl,P,bT,F,x,Q⟩;(have fL:nl=y hw:=by obtain⟨_,_,ch⟩:=bM P.r1;cases ch;rfl);have Q:=(S.mono (T:=j.bj n.aN) cG).trans Q<|λ_ q=>.inl q;have x:=λdT(w:dT∈so W\/(ej:Z)<=dT)=>x dT<|w.imp_left<|λq=>bc.mem_iff.2 q;obtain⟨d,ba⟩:=bl o _ _ _ _ _ _ _ _ V P F x Q;have g0:=cellAt d 0 rfl;have r0:=dK (i:=0) d;have g1:=cellAt d 1 rfl;have r1:=dK (i:=1) d;have g2:=cellAt d 2 rfl;have r2:=dK (i:=2) d;have g3:=cellAt d 3 rfl;have r3:=dK (i:=3) d;(have E:wv (bZ (bZ (bZ (bZ o (R r 0)<|J p0 (y a1) q0) (R r 1)<|J xl nl hx) (R r 2)<|J xm bt gs) (R r 3)<|J p3 (y d1) q3) r 1<wv wr r 1:=by have dk:=cellAt ba.lb 1 rfl;rw[ae cx,uW dk];omega);have cM:=U ba;have al:=U E;clear ba E fL bT;refine au _ _ (λ_=>d) ?_;(try simp only[Act.put,du]);refine dM (i:=5) rfl rfl (by kernel_rfl) ?_;intro K5 av;go_simp;refine av _ _ (λ_=>d) ?_;(try simp only[Act.put,du]);clear ao au av;apply CR KK;(.intro bd;refine qH (i:=6) (j:=7) rfl rfl rfl rfl (by kernel_rfl) ?_ ?_;(.intro K6 O;go_simp;refine O _ _ (λu=>(by omega)) ?_;(try simp only[Act.put,du]);refine qH (i:=7) (j:=8) rfl rfl rfl rfl (by kernel_rfl) ?_ ?_;(.intro K7 A;go_simp;refine A _ _ (λu=>(by omega)) ?_;(try simp only[Act.put,du]);refine dM (i:=8) rfl rfl (by kernel_rfl) ?_;intro K8 B;go_simp;refine B _ _ (λu=>(by omega)) ?_;(try simp only[Act.put,du]);refine dM (i:=9) rfl rfl (by kernel_rfl) ?_;intro K9 C;go_simp;refine C _ _ (λu=>(by omega)) ?_;(try simp only[Act.put,du]);refine ki (by kernel_rfl) ?_ _;exact bd);intro K8 B;go_simp;refine B _ _ (λu=>(by omega)) ?_;(try simp only[Act.put,du]);refine dM (i:=7) rfl rfl (by kernel_rfl) ?_;intro K7 A;go_simp;refine A _ _ (λu=>(by omega)) ?_;(try simp only[Act.put,du]);refine dM (i:=9) rfl rfl (by kernel_rfl) ?_;intro K9 C;go_simp;refine C _ _ (λu=>(by omega)) ?_;(try simp only[Act.put,du]);refine ki (by kernel_rfl) ?_ _;exact bd);intro K7 A;go_simp;refine A _ _ (λu=>(by omega)) ?_;(try simp only[Act.put,du]);refine dM (i:=6) rfl rfl (by kernel_rfl) ?_;intro K6 O;go_simp;refine O _ _ (λu=>(by omega)) ?_;(try simp only[Act.put,du]);refine dM (i:=8) rfl rfl (by kernel_rfl) ?_;intro K8 B;go_simp;refine B _ _ (λu=>(by omega)) ?_;(try simp only[Act.put,du]);refine dM (i:=9) rfl rfl (by kernel_rfl) ?_;intro K9 C;go_simp;refine C _ _ (λu=>(by omega)) ?_;(try simp only[Act.put,du]);refine ki (by kernel_rfl) ?_ _;exact bd);apply ax;clear ax hS bm bb S bc d P F x Q D;go_wp2;go_roundw;(case rel=>exact⟨_,_,_,_,_,_,_,_,V,cM⟩);case measure=>exact al);(.rw[uK]at K;rw[K]at f;have an:=U<|show JG a b n m r j (i++t++u++cv) fk ej (so W) R0 wr from⟨_,_,_,_,_,_,_,_,ce,l⟩;clear l K;(go_wp2_with fail);apply f.mono;rintro ch o⟨rfl,cu⟩;subst o;clear f g0 g1 g2 g3;(go_wp2_with fail);rw[gX];(go_wp2_with fail);(go_loopw [9] (λ_ wr=>JG a b n m r j (i++t++u++cv) fk ej (so W) R0 wr) (λ_ wr=>wv wr r 2));(case atStart=>exact an);(case round=>obtain⟨v0,v1,v2,v3,a1,b1,c1,d1,ce,l⟩:=hrel;obtain⟨p0,q0,ca⟩:=bM l.ls.r0;obtain⟨p1,q1,cb⟩:=bM l.ls.r1;obtain⟨p2,q2,cc⟩:=bM l.ls.r2;obtain⟨p3,q3,cd⟩:=bM l.ls.r3;subst ca cb cc cd;have g0:=cellAt l.lb 0 rfl;have g1:=cellAt l.lb 1 rfl;have g2:=cellAt l.lb 2 rfl;have g3:=cellAt l.lb 3 rfl;have f:=rE 2 (y c1) p2 q2 l.box (by omega);by_cases K:ve n.wH 2 (y c1)=bW;(.rw[K]at f;(have bq:0<y c1:=by unfold ve at K;simp at K;omega);have gf:=U<|λ(o:I)(mv:aa)(bf:eI)(w:Y aB wr o)(L:o.ownsRow (z<|G wr) 103 1 mv (y bf) (bf.map<|Value.int .u64))(hp:bf.Perm (so W))=>l.ls.CP w L;have bn:=λ(o:I)(gc:Option Addr)(bg:M)(bf:eI)(w:Y aB wr o)(L:o.ownsRow (z<|G wr) 103 1 (J gc (y bf) bg) (y bf) (bf.map<|Value.int .u64))(hp:bf.Perm (so W))=>(l.ls.CP w L).1.Yd l.pr bq bf gc bg (l.ls.CP w L).2.1 (l.ls.CP w L).2.2 (by have:=hp.length_eq;rw[oI]at this;have:=bi.len;omega);have ac:=U bn;(have bp:∀bh,Y aB wr bh->cy bG 50 #[aA b] bh λch o=>∃v2,∃bf:eI,ch=aO v2/\bf.Perm (so W)/\o.ownsRow (z<|G wr) 103 1 v2 (y bf) (bf.map<|Value.int .u64)/\Y aB wr o:=λbh hW=>by obtain⟨mb,m1,m2,m3⟩:=(bi.bj l.aw).ex;apply(rA (b:=mb) W ((hW.block b (ak l.box) id).trans l.box) m1 (m2.de<|hW.block _ m3.lt id) bi.len).mono;rintro ch o⟨v2,bf,rfl,l1,l2,l3⟩;exact⟨v2,bf,rfl,l1,eQ l2 hW.size,hW.ci l3⟩);obtain⟨cB,ad,gg⟩:=dC bp l.lb (show∀q,j.bj n.aN q->q<z (G a)from l.ls.bj);have X:=λo u0 u1 u2 u3 a2 b2 c2 d2 V hl hp hs w=>l.put (w2:=o) (u0:=u0) (u1:=u1) (u2:=u2) (u3:=u3) (a':=a2) (b':=b2) (c':=c2) (d':=d2) (ps':=V) cn cE hl hp hs w;have bl:=U X;have bo:=uW g2;have cx:=U bo;clear l X bo K bn bp;(go_wp2_with fail);apply f.mono;rintro ch o⟨rfl,cu⟩;subst o;clear f;(go_wp2_with fail);rename_i QQ KK ax;have hS:wr.drew.heap[r]?=H (ar #[J p0 (y a1) q0,J p1 (y b1) q1,J p2 (y c1) q2,J p3 (y d1) q3] 107 (0,0)):=ae ad;refine oq (λ(s:I)=>s.heap[r]?=H (ar #[J p0 (y a1) q0,J p1 (y b1) q1,J p2 (y c1) q2,J p3 (y d1) q3] 107 (0,0))) 6 (by kernel_rfl) ?_;refine uL 0 ?_;(iterate 3 (refine AR (v:=?_) hS rfl (by kernel_rfl) jU rfl ?_ ?_;rotate_left;(focus(intro s hX;have x0:aT s (R r 0)=H (J p0 (y a1) q0):=(by rw[bN hX];rfl);have x1:aT s (R r 1)=H (J p1 (y b1) q1):=(by rw[bN hX];rfl);have x2:aT s (R r 2)=H (J p2 (y c1) q2):=(by rw[bN hX];rfl);have x3:aT s (R r 3)=H (J p3 (y d1) q3):=(by rw[bN hX];rfl);go_simp;try rfl));simp only[Act.put,du,Nat.reduceAdd]));apply AQ;refine dM (i:=3) rfl rfl (by kernel_rfl) ?_;intro K3 ao;go_simp;apply(cB wr.drew<|cf _ _).mono;rintro ch wm⟨vm,lm,rfl,bc,bb,S⟩;obtain⟨dx,cT,dv⟩:=aC bb;subst dv;have D:=ac wm dx cT lm S bb bc;have bm:wm.heap[r]?=H (ar #[J p0 (y a1) q0,J p1 (y b1) q1,J p2 (y c1) q2,J p3 (y d1) q3] 107 (0,0)):=(S.block r (ak ad) id).trans ad;refine ao _ _ (λ_=>bm) ?_;(try simp only[Act.put,du]);refine dM (i:=4) rfl rfl (by kernel_rfl) ?_;intro K4 au;go_simp;apply D.mono;rintro ch o⟨xl,nl,hx,xm,bt,gs,gr,hT,V,rfl,P,bT,F,x,Q⟩;(have fL:nl=y gr:=by obtain⟨_,_,ch⟩:=bM P.r2;cases ch;rfl);have Q:=(S.mono (T:=j.bj n.aN) cG).trans Q<|λ_ q=>.inl q;have x:=λdT(w:dT∈so W\/(ej:Z)<=dT)=>x dT<|w.imp_left<|λq=>bc.mem_iff.2 q;obtain⟨d,ba⟩:=bl o _ _ _ _ _ _ _ _ V P F x Q;have g0:=cellAt d 0 rfl;have r0:=dK (i:=0) d;have g1:=cellAt d 1 rfl;have r1:=dK (i:=1) d;have g2:=cellAt d 2 rfl;have r2:=dK (i:=2) d;have g3:=cellAt d 3 rfl;have r3:=dK (i:=3) d;(have E:wv (bZ (bZ (bZ (bZ o (R r 0)<|J p0 (y a1) q0) (R r 1)<|J p1 (y b1) q1) (R r 2)<|J xl nl hx) (R r 3)<|J xm bt gs) r 2<wv wr r 2:=by have dk:=cellAt ba.lb 2 rfl;rw[ae cx,uW dk];omega);have cM:=U ba;have al:=U E;clear ba E fL bT;refine au _ _ (λ_=>d) ?_;(try simp only[Act.put,du]);refine dM (i:=5) rfl rfl (by kernel_rfl) ?_;intro K5 av;go_simp;refine av _ _ (λ_=>d) ?_;(try simp only[Act.put,du]);clear ao au av;apply CR KK;(.intro bd;refine qH (i:=6) (j:=7) rfl rfl rfl rfl (by kernel_rfl) ?_ ?_;(.intro K6 O;go_simp;refine O _ _ (λu=>(by omega)) ?_;(try simp only[Act.put,du]);refine qH (i:=7) (j:=8) rfl rfl rfl rfl (by kernel_rfl) ?_ ?_;(.intro K7 A;go_simp;refine A _ _ (λu=>(by omega)) ?_;(try simp only[Act.put,du]);refine dM (i:=8) rfl rfl (by kernel_rfl) ?_;intro K8 B;go_simp;refine B _ _ (λu=>(by omega)) ?_;(try simp only[Act.put,du]);refine dM (i:=9) rfl rfl (by kernel_rfl) ?_;intro K9 C;go_simp;refine C _ _ (λu=>(by omega)) ?_;(try simp only[Act.put,du]);refine ki (by kernel_rfl) ?_ _;exact bd);intro K8 B;go_simp;refine B _ _ (λu=>(by omega)) ?_;(try simp only[Act.put,du]);refine dM (i:=7) rfl rfl (by kernel_rfl) ?_;intro K7 A;go_simp;refine A _ _ (λu=>(by omega)) ?_;(try simp only[Act.put,du]);refine dM (i:=9) rfl rfl (by kernel_rfl) ?_;intro K9 C;go_simp;refine C _ _ (λu=>(by omega)) ?_;(try simp only[Act.put,du]);refine ki (by kernel_rfl) ?_ _;exact bd);intro K7 A;go_simp;refine A _ _ (λu=>(by omega)) ?_;(try simp only[Act.put,du]);refine dM (i:=6) rfl rfl (by kernel_rfl) ?_;intro K6 O;go_simp;refine O _ _ (λu=>(by omega)) ?_;(try simp only[Act.put,du]);refine dM (i:=8) rfl rfl (by kernel_rfl) ?_;intro K8 B;go_simp;refine B _ _ (λu=>(by omega)) ?_;(try simp only[Act.put,du]);refine dM (i:=9) rfl rfl (by kernel_rfl) ?_;intro K9 C;go_simp;refine C _ _ (λu=>(by omega)) ?_;(try simp only[Act.put,du]);refine ki (by kernel_rfl) ?_ _;exact bd);apply ax;clear ax hS bm bb S bc d P F x Q D;go_wp2;go_roundw;(case rel=>exact⟨_,_,_,_,_,_,_,_,V,cM⟩);case measure=>exact al);(.rw[uK]at K;rw[K]at f;have an:=U<|show JG a b n m r j (i++t++u++cv) fk ej (so W) R0 wr from⟨_,_,_,_,_,_,_,_,ce,l⟩;clear l K;(go_wp2_with fail);apply f.mono;rintro ch o⟨rfl,cu⟩;subst o;clear f g0 g1 g2 g3;(go_wp2_with fail);rw[gX];(go_wp2_with fail);(go_loopw [9] (λ_ wr=>JG a b n m r j (i++t++u++cv) fk ej (so W) R0 wr) (λ_ wr=>wv wr r 3));(case atStart=>exact an);(case round=>obtain⟨v0,v1,v2,v3,a1,b1,c1,d1,ce,l⟩:=hrel;obtain⟨p0,q0,ca⟩:=bM l.ls.r0;obtain⟨p1,q1,cb⟩:=bM l.ls.r1;obtain⟨p2,q2,cc⟩:=bM l.ls.r2;obtain⟨p3,q3,cd⟩:=bM l.ls.r3;subst ca cb cc cd;have g0:=cellAt l.lb 0 rfl;have g1:=cellAt l.lb 1 rfl;have g2:=cellAt l.lb 2 rfl;have g3:=cellAt l.lb 3 rfl;have f:=rE 3 (y d1) p3 q3 l.box (by omega);(have K:ve n.wH 3 (y d1)=bF:=by simp[ve]);rw[K]at f;have eu:=cj r wr _ _ _ _ a1 b1 c1 d1 ce l;have ek:=U eu;clear l K eu;(go_wp2_with fail);apply f.mono;rintro ch o⟨rfl,cu⟩;subst o;clear f;(go_wp2_with fail);rw[gX];(go_wp2_with fail);apply ek.mono;rintro ch o⟨rfl,K',num,a',b',c',d',hO⟩;have HO:=U hO;clear hO ek;go_wp2;go_ret;exact⟨rfl,_,_,_,_,K',num,a',b',c',d',HO⟩))))))))
structure Inv(w:I)(sb:M)(s:SR)(K:DK)(m:cA)(a b c d:cP)(C tb N:M)(ls:dW)(sn:fS):Prop where
 st:ST w sb s K m a b c d C
 qX:SF (vw K.files) s.next s.log tb a b c d s.gB ls
 pr:PR tb (cF a b c d)
 lp:Fp ((tb:Z)+1) ls
 mem:ke s.bC m=gJ [] ls.flatten
 MF:∀x∈m,(tb:Z)<x.bI/\x.bI<=s.bC
 VT:y m<=(ls.map y).sum
 WT:rN 5 m
 pV:Ga w K sb s sn
 Vr:∀p∈sn,p.2<=s.bC
 BH:s.bC=tb+y ls
 UX:s.iS=(ls.map y).sum
 vG:s.vG=bF
 GK:((a++b++c++d).map bJ.tb).Nodup
 nx:s.next<=2+1000001*N
 bn:s.bC<=N
 eM:y K.eM<=1000001+2*N
 TE:1<=s.mem/\s.mem<=32/\2<=s.wH/\s.wH<=6
 loose:s.km=bW->s.gB=bW
 TX:s.gB=bW->ls≠[]
 mJ:N<=100000000
def ST.UM(h:ST a b n j e i p t u c)(k:b<z (G a))(d:gw a f n.aN b j O)(g:∀l,dX (vw O.files) (gI l)=dX (vw j.files) (gI l)):ST f b n O e i p t u c where
 mem:=zU h.mem d h.sV
 sV:=λg b=>(h.sV g b).fq d
 l0:=h.l0.fq d<|λ_ _=>g _
 l1:=h.l1.fq d<|λ_ _=>g _
 l2:=h.l2.fq d<|λ_ _=>g _
 l3:=h.l3.fq d<|λ_ _=>g _
 aN:=d.ok
 rV:=λt=>(d.bj b t).elim h.rV<|λg=>by omega
 lu:=h.lu.fq d
 qI:=h.qI
 mJ:=h.mJ
 mq:=h.mq
 jc:=h.jc
 s1:=h.s1
 s2:=h.s2
 s3:=h.s3
def ST.Tr{s s':SR}{C C':M}(h:ST a b s j e i p t u C)(v:s'.aN=s.aN/\s'.l0=s.l0/\s'.l1=s.l1/\s'.l2=s.l2/\s'.l3=s.l3)(n:kw a s'.memory L)(d:∀r,bV s'.memory=H r->Aside a j s.aN b r)(o:dQ L)(m:∀x∈L,x.Good)(w:y L+C<=C'+y e)(q:C'<=1000000):ST a b s' j L i p t u C':=by
 obtain⟨c,f,g,k,l⟩:=v;refine{mem:=n,sV:=by rw[c];exact d,l0:=by rw[c,f];exact h.l0,l1:=by rw[c,g];exact h.l1,l2:=by rw[c,k];exact h.l2,l3:=by rw[c,l];exact h.l3,aN:=by rw[c];exact h.aN,rV:=by rw[c];exact h.rV,lu:=by rw[c];exact h.lu,qI:=by have:=h.qI;omega,mJ:=q,mq:=o,jc:=m,s1:=h.s1,s2:=h.s2,s3:=h.s3}
def ST.fields{s s':SR}(h:ST a b s j e i p t u c)(f:s'.aN=s.aN/\s'.l0=s.l0/\s'.l1=s.l1/\s'.l2=s.l2/\s'.l3=s.l3)(d:s'.memory=s.memory):ST a b s' j e i p t u c:=h.Tr f (by rw[d];exact h.mem) (by rw[d];exact h.sV) h.mq h.jc (by omega) h.mJ
def QH(f:Z)(a:dW)(l:cA):lO f (a++[l])=lO f a++CL (f+y a) l:=by
 induction a generalizing f with
 |nil=>simp[lO]
 |cons x r b=>
  rw[cq,lO,b,lO,aU,ay];congr 3;push_cast
  omega
def Fp.snoc(h:Fp m k)(g:∀x∈e,x.Good)(f:∀x∈e,x.bI=m+y k)(d:1<=y e/\y e<=8)(i:(k.map y).sum+y e<32)(n:m+y k+1<18446744073709551616):Fp m (k++[e])where
 jc:=λx a=>by
  rcases am.1 a with c|c
  .exact h.jc x c
  .rw[bH]at c;rw[c];exact g
 num:=λj b x a=>by
  by_cases c:j<y k
  .rw[oo c]at a;exact h.num j c x a
  .have l:j=y k:=by rw[af]at b;simp at b;omega
   subst l;rw[nQ<|ah _]at a;simp at a;exact f x a
 one:=λx a=>by
  rcases am.1 a with c|c
  .exact h.one x c
  .rw[bH]at c;rw[c];exact d
 sum:=by rw[aM,gl];simpa using i
 f0:=h.f0
 f1:=by rw[af];push_cast;simp;omega
def yO(l m n:cA):gJ l (m++n)=gJ (gJ l m) n:=by
 unfold gJ;rw[iJ]
def Et{l m:cA}(h:w∈gJ l m):w∈l\/w∈m:=by
 induction m generalizing l with
 |nil=>exact .inl h
 |cons e r a=>
  rcases a (l:=sP l e) h with c|c
  .rcases yn.1 c with g|g
   .rw[g];exact .inr<|by simp
   .exact .inl g.1
  .exact .inr<|by simp[c]
def Fp.wy(h:Fp ((b:Z)+1) k):∀x∈k.flatten,(b:Z)<x.bI/\x.bI<=(b+y k:M):=by
 intro x e;obtain⟨l,d,a⟩:=bz.1 e;obtain⟨i,c,rfl⟩:=gL.1 d;have:=h.num i c x a;push_cast
 omega
def Inv.VR{d:fS}(h:Inv a b n j e i p t u c g l k d):y e<=31:=by
 have f:=h.VT;have m:=h.lp.sum;omega
def Inv.row{m:cP}{f:fS}(h:Inv a b n O e p t u m c g l k f):gM e:=⟨h.st.mq,λo d=>tY<|h.st.jc o d⟩
def Inv.all{f:fS}(h:Inv a b n j e i p t u c g l k f):PR n.bC (e::cF i p t u):=h.pr.cons (by have:=h.BH;omega) h.st.mq h.st.jc (λx d=>(h.MF x d).1)<|λx d=>(h.MF x d).2
def gh(b:fS)(m a:cA):cA:=eE (so b)<|fB m a
def Inv.QA{o:fS}(h:Inv a b n j e i p t u c g l k o):y (lO ((g:Z)+1) k)<=200000/\y k<=31:=by
 have q:=tT (f:=(g:Z)+1)<|λm d=>⟨h.lp.jc m d,(h.lp.one m d).2⟩;have r:=Dw<|λm d=>(h.lp.one m d).1;have s:=h.lp.sum;exact⟨by omega,by omega⟩
def Inv.Dm{f:fS}(h:Inv a b n j e i p t u c g l k f):y (i++p++t++u)<=1000000:=by
 have d:=h.st.qI;have m:=h.st.mJ;have:=lK<|λm d=>(h.st.l0.each m d).pure;have:=lK h.st.s1.pure;have:=lK h.st.s2.pure;have:=lK h.st.s3.pure;simp only[af];omega
def JF.inv{h:fS}{x:Z->ab->Option ab}{w:aa}{num:M}(k:JF a f b n m c g j (so h) x d s N w O num i p t u)(e:1<=n.mem/\n.mem<=32/\2<=n.wH/\n.wH<=6)(C:n.next<=2+1000001*l)(B:c<=l+1)(A:l+1<=100000000)(v:Ga a j b n h)(r:∀D∈h,D.2<=n.bC)(o:n.bC<=c):Inv f b (n.settled d s N w c num) O [] i p t u g c (l+1) [] h where
 st:=k.st
 qX:=k.qX
 pr:=k.pr
 lp:=⟨by simp,by simp,by simp,by simp,by omega,by simp;omega⟩
 mem:=rfl
 MF:=by simp
 VT:=by simp
 WT:=rN.nil _
 pV:=(v.fq k.fq).fields ⟨rfl,rfl⟩
 Vr:=λD e=>aE (r D e) o
 BH:=rfl
 UX:=rfl
 vG:=rfl
 GK:=k.GK
 nx:=by have:=k.num;show num+1<=_;omega
 bn:=B
 eM:=by have:=k.eM;omega
 TE:=e
 loose:=λq=>(by cases q)
 TX:=λq=>(by cases q)
 mJ:=A
section
variable{w:I}{sbqq:M}{s:SR}{K:DK}{m e:cA}{a b c d:cP}{C tbqq N:M}{lsqq:dW}{sn:fS}
theorem uM(sn:fS)(m e:cA):(gh sn m e).Sublist (fB m e):=mf _ _
theorem ya(sn:fS)(m e:cA):y (gh sn m e)<=y m+y e:=aE (uM sn m e).length_le<|wW m e
theorem AU{x:E}(h:x∈gh sn m e):x∈m\/x∈e:=xz<|(uM sn m e).subset h
theorem xZ(h:dQ m)(sn:fS)(e:cA):dQ (gh sn m e):=(h.fB e).sub<|uM sn m e
theorem xY(h:dQ m)(f:y sn<=4)(e:cA):rN 5 (gh sn m e):=(Gh<|h.fB e).mono (by rw[oI];omega)
theorem Gg(k:gM m){f:Z}(j:∀x∈m,x.bI<=f)(i:∀g∈e,g.key≠⟨#[]⟩)(h:∀g∈e,g.bI=f+1)(sn:fS):ke (f+1) (gh sn m e)=gJ (ke f m) e:=by
 have:=xh (rest:=[]) (ms:=so sn) k (by simp) i h j (by simp);unfold gh;simpa using this
theorem Inv.Ei(h:Inv w sbqq s K m a b c d C tbqq N lsqq sn)(i:∀x∈e,x.Good)(g:∀x∈e,x.bI=(s.bC:Z)+1):(∀x∈gh sn m e,x.Good)/\(∀x∈gh sn m e,(tbqq:Z)<x.bI/\x.bI<=(s.bC:Z)+1)/\ke ((s.bC:Z)+1) (gh sn m e)=gJ (gJ [] lsqq.flatten) e:=by
 have j:=h.BH;refine⟨λx f=>(AU f).elim (h.st.jc x)<|i x,λx f=>?_,?_⟩;rcases AU f with q|q;have:=h.MF x q;omega;have:=g x q;omega;rw[Gg h.row (λx f=>(h.MF x f).2) (λk j=>tY<|i k j) g sn,h.mem]
theorem Inv.TJ(k:Inv w sbqq s K m a b c d C tbqq N lsqq sn)(j:∀x∈e,x.Good)(h:∀x∈e,x.bI=(s.bC:Z)+1){t:Z}(f:t∈so sn)(q:ab):fV t (gh sn m e::cF a b c d) q=fV t (m::cF a b c d) q:=by
 have g:t<=s.bC:=by unfold so at f;obtain⟨p,i,rfl⟩:=aZ.1 f;exact_mod_cast k.Vr p i
 unfold fV;rw[show gh sn m e=eE (so sn) (fB m e)from rfl,DH k.row (λl i=>tY<|j l i) h f g]
theorem Inv.TL(h:Inv w sbqq s K m a b c d C tbqq N lsqq sn)(j:∀x∈e,x.Good)(g:∀x∈e,x.bI=(s.bC:Z)+1)(q:ab):fV ((s.bC:Z)+1) (gh sn m e::cF a b c d) q=seen (gJ (ke s.bC m) e::(cF a b c d).map (ke s.bC)) q:=by
 unfold fV;rw[show gh sn m e=eE (so sn) (fB m e)from rfl,xh h.row h.pr.row (λl i=>tY<|j l i) g (λx f=>(h.MF x f).2) (λr k x f=>by have n:=h.pr.low x<|bz.2 ⟨r,k,f⟩;have:=h.BH;omega)]
end
def SR.Ei(s:SR)(c:aa)(a:M)(b:Bool):SR:={s with memory:=c,iS:=s.iS+a,bC:=s.bC+1,gB:=bW,km:=bW,kj:=b}
def Wc(h:∀x∈e,x.Good)(c:y e<=8):kA (CL m e):=by
 have a:kA (iD m e):=by unfold iD;refine(kA.le 8 _).append ?_;intro x b;rcases az.1 b with q|q;rw[q];constructor<;>omega;exact EL h x q
 unfold CL iC;exact((((kA.le 4 _).append<|kA.le 4 _).append<|kA.le 4 _)).append a
def Ns{s:SR}{hF:cP}(sn:fS)(h:bL a b s m)(f:Inv a b s j e p t u hF c g l k sn)(ho:kw a d L)(fd:∀m,bV d=H m->Aside a j s.aN b m)(bu:0<y L)(h8:y L<=8)(hp:∀fx∈L,fx.Good)(hm:∀fx∈L,fx.bI=(s.bC:Z)+1)(hv:s.iS+y L<32)(hC:c+y L<=1000000)(hN:l+1<=100000000):cy bG 73 #[aA b,d] a λbq w'=>bq=aO .nilIface/\∃mv K K',bL w' b (s.Ei mv (y L) K) m/\Inv w' b (s.Ei mv (y L) K) K' (gh sn e L) p t u hF (c+y L) g (l+1) (k++[L]) sn/\gw a w' s.aN b j K':=by
 have dd:=f.st;have an:=ak h;have dc:s.log<18446744073709551616:=by have:=f.qX.lt;have:=f.nx;have:=f.mJ;omega
 have ch:=vS s.log dc dd.lu.pow;obtain⟨eb,eo,fz,gv,bd,X⟩:∃cc r N,d=bD cc r (y L) N/\y L<=N/\∀dn fv,(aF L)[dn]?=H fv->aT a (R cc<|r+dn)=H fv:=by obtain⟨_,⟨q1,q2⟩|⟨cc,r,N,q1,q4,P⟩⟩:=ho;omega;exact⟨cc,r,N,q1,q4,P⟩
 have cs:=U bd;clear bd;subst gv;have W:=fd eb rfl;obtain⟨mx,mc,hb⟩:=bM dd.mem;have gj:=bL.cellAt h 17 rfl;obtain⟨x,HH,HE,HG,HB,ed,cu⟩:=ww f h X hp hm ch hb;clear f dd h ho fd X hp hm ch;obtain⟨lg,cT⟩:∃lg,s.gB=lg:=⟨_,rfl⟩;have hs:∀(fx:Bool)(a:I),(Op.unary .not<|aL fx).run bG a=.ok (aL<|!fx) a:=λ_ _=>rfl;go_in
 go_wp2_with fail
 apply ed.mono;rintro bq w1⟨rfl,ev⟩;have bx:Y aB a w1:=Y.aW ev;have fb:gw a w1 s.aN b j j:=⟨x.st.aN.aw bx<|λ_ _=>id,bx.mono cG,λ_ q=>.inl q⟩;have o:bL w1 b s m:=(bx.block b an id).trans HH;have he:aT w1 (R b 18)=H (aL lg):=by rw[<-cT];exact o.cell rfl
 have k2:=bL.cellAt o 2 rfl;have hf:=bL.cellAt o 21 rfl;have gk:w1.frozen? (R b 18)=bF:=o.free;have gn:w1.frozen? (R b 21)=bF:=o.free;obtain⟨S,cp,ao⟩:=dC o fb cT;clear ev bx o fb cT gj;cases lg
 case' true=>
  go_wp2_with fail
  obtain⟨V,D⟩:∃V,w1=V:=⟨_,rfl⟩;obtain⟨K,bh⟩:∃K,s.kj=K:=⟨_,rfl⟩;have HX:=U (show∃A Q,gw a V s.aN b j A/\qM A.files (iM s.log)=H Q/\Q.bytes=lO ((g:Z)+1) k/\y A.eM<=y j.eM+1/\(∀q F,td (vw A.files) (iM s.log,F)=q->∀bp,dX q bp=if iM s.log=bp then H F else dX (vw j.files) bp)/\ij (vw A.files)=ij (vw j.files)/\bL V b {s with gB:=bW,kj:=K} m from by
   obtain⟨Q,q1,q2⟩:=js<|x.qX.log ao;refine⟨j,Q,by rw[<-D];exact cp,q1,q2,by omega,λq F bq bp=>by rw[<-bq,vg],rfl,?_⟩;rw[<-D,<-bh];have:=ae S;have bq:s={s with gB:=bW,kj:=s.kj}:=by rw[<-ae ao]
   rw[<-bq];exact this)
  rw[D];clear D bh
 case' false=>
  have P:dX (vw j.files) (iM s.log)=none:=by
   cases q:dX (vw j.files) (iM s.log)with
   |none=>rfl
   |some F=>
    rcases x.qX.names _ _ q with bq|⟨_,bq⟩|⟨hH,_,bq⟩
    .exact absurd bq<|sd _
    .rw[ae ao]at bq;cases bq
    .exact absurd bq.symm<|mF _ _
  have ey:=Cv (iM s.log) cp.ok (Bt<|vW P) (by have:=x.eM;have:=x.mJ;omega);go_wp2_with fail
  apply ey.mono;rintro bq w2⟨rfl,A,bt,fe,fk⟩;have fn:¬j.bj s.aN b:=x.st.rV;have r:bL w2 b s m:=(bt.aw.block b (ak S) fn).trans S;have cl:¬A.bj s.aN b:=bt.Af fn<|ak S;have he:aT w2 (R b 18)=H (aL bF):=by rw[<-ae ao];exact r.cell rfl
  have k2:=bL.cellAt r 2 rfl;have hf:=bL.cellAt r 21 rfl;have gk:w2.frozen? (R b 18)=bF:=r.free;have gn:w2.frozen? (R b 21)=bF:=r.free;obtain⟨dx,gb,ge,gf,cb,N⟩:=kG r bt fe fk cl P;clear r bt fe fk cl ey P;go_wp2_with fail
  obtain⟨V,D⟩:∃V,bZ (bZ w2 (R b 18)<|aL bW) (R b 21) (aL bW)=V:=⟨_,rfl⟩;obtain⟨K,bh⟩:∃K,bW=K:=⟨_,rfl⟩;have HX:=U (show∃A Q,gw a V s.aN b j A/\qM A.files (iM s.log)=H Q/\Q.bytes=lO ((g:Z)+1) k/\y A.eM<=y j.eM+1/\(∀q F,td (vw A.files) (iM s.log,F)=q->∀bp,dX q bp=if iM s.log=bp then H F else dX (vw j.files) bp)/\ij (vw A.files)=ij (vw j.files)/\bL V b {s with gB:=bW,kj:=K} m from by
   have gA:k=[]:=x.qX.GJ ao;have dm:vw A.files=vw j.files++[(iM s.log,[])]:=by rw[ae ge];simp[vw]
   have bg:dX (vw A.files) (iM s.log)=H []:=by rw[dm,jw,ae N];simp[dX]
   obtain⟨Q,q1,q2⟩:=js bg;refine⟨A,Q,?_,q1,by rw[q2,gA];rfl,by rw[ae gf];omega,λq F bq bp=>?_,by rw[dm,uv];simp[ij],?_⟩
   .rw[<-D];exact((cp.trans<|gw.of gb).set cb _ _).set cb _ _
   .rw[<-bq,dm,GZ [] F N,jw];by_cases cc:iM s.log=bp
    .rw[dw cc,<-cc,ae N];simp[dX]
    .rw[cW cc];cases dX (vw j.files) bp<;>simp[dX,cc]
   .rw[<-D,<-bh];exact(aR (aR dx)).trans rfl)
  rw[D];clear D bh
 all_goals
  obtain⟨A,Q,ad,br,cd,cj,bf,bo,cB⟩:=ae HX;have cm:¬A.bj s.aN b:=ad.sb x.st.rV an;have bm:=x.st.UM an ad (λbp=>by
   have:=bf _ Q.bytes rfl<|gI bp;rw[cW<|λq=>mF _ _ q.symm]at this;rw[<-this];obtain⟨hw,ha,_⟩:=kH br;have bg:dX (vw A.files) (iM s.log)=H Q.bytes:=by rw[Ji,br];rfl
   rw[Bv bg])
  have bb:=W.fq ad;have bc:∀dn fv,(aF L)[dn]?=H fv->aT V (R eb<|eo+dn)=H fv:=λdn fv hj=>W.cell ad<|HE dn fv hj;have bk:=Nt L eb eo fz V.drew (λdn hj=>bm.lu.steps dn hj) bb.lt bc bu HG h8;have ej:(L[0]'bu).bI=(g:Z)+1+y k:=by
   have h1:=HB _<|aq bu;have h2:=x.BH;rw[h1,h2];push_cast
   omega
  rw[ej]at bk;have k2:=bL.cellAt cB 2 rfl;obtain⟨dT,ea,ca,ee,ec,cx⟩:=kG ad br cd cj bf bo;obtain⟨ds,hi,eg,ef,hh,hg⟩:=kG cB bm cm bk bc bb;clear ad br cd cj bf bo cB bm cm bk ej bc bb;rename_i QQ KK en;have eq:aT V.drew (R b 2)=H (aA s.aN):=k2;refine cJ (λ(ei:I)=>aT ei (R b 2)=H (aA s.aN)) 8 (by kernel_rfl) ?_;refine dA 0 ?_;iterate 6 (refine fw (v:=?_) eq rfl (by kernel_rfl) jU rfl ?_ ?_;rotate_left;(focus(intro ei hX;go_simp;try rfl));simp only[Act.put,du,Nat.reduceAdd])
  apply eX;refine aP (i:=6) rfl rfl (by kernel_rfl) ?_;intro K6 ek;go_simp;apply ef.mono;rintro bq w4⟨v4,rfl,bv,fs⟩;have C:Y aB V w4:=(cf aB V).ci fs;have es:aT w4 (R b 2)=H (aA s.aN):=C.cell k2 id<|qZ k2;refine ek _ _ (λ_=>es) ?_;clear ek;try simp only[Act.put,du]
  obtain⟨F,ac⟩:∃F,CL ((g:Z)+1+y k) L=F:=⟨_,rfl⟩;rw[ac]at bv;have gr:y F<=400:=by rw[<-ac];exact Cb HG h8
  have ex:0<y F:=by rw[<-ac];unfold CL;rw[af,gu];omega
  obtain⟨vb,vc,hc,fu,cn,_⟩:=um bv ex;subst hc;have eu:=Hu (db:=s.aN) (K:=A) (iM s.log) Q vb 0 vc F (w:=w4) (dT.ok.aw C<|λ_ _=>id) ea (by
   rw[JV,ae cx];have:=x.qX.total x.st.aN.nodup x.QA.1 x.Dm;omega) (by rw[<-ac];exact Wc HG h8) (λdn fv hj=>by
    have:=ph bv dn fv hj;rwa[dt]at this) cn (by rw[ae ca];have:=x.QA.1;omega)
  refine aP (i:=7) rfl rfl (by kernel_rfl) ?_;intro K7 el;go_simp;apply eu.mono;rintro bq w5⟨rfl,K5,ba,⟨x5,ff⟩,fl⟩;have cE:bL w4 b {s with gB:=bW,kj:=K} m:=(C.block b (ak ds) id).trans ds;have av:bL w5 b {s with gB:=bW,kj:=K} m:=(ba.aw.block b (ak cE) eg).trans cE;refine el _ _ (λ_=>av.cell rfl) ?_;clear el eu;try simp only[Act.put,du]
  refine aP (i:=8) rfl rfl (by kernel_rfl) ?_;intro K8 em;go_simp;refine em _ _ (λq=>(q rfl).elim) ?_;refine dp (by kernel_rfl) ?_ _;show KK _ _;apply en;clear en em eq es;have ax:gw a w5 s.aN b j K5:=dT.trans ⟨ba.ok,(C.mono (T:=λm=>A.bj s.aN m\/m=b) cG).trans ba.aw<|λ_ q=>.inl<|.inl q,λm q=>(ba.bj m q).imp id<|λcc=>aE C.size cc⟩;have bl:¬K5.bj s.aN b:=ax.sb x.st.rV an;have co:vw K5.files=td (vw A.files) (iM s.log,lO ((g:Z)+1)<|k++[L]):=by
   rw[ff,Dl,QH,ac,<-ae ca];show td _ (Q.name,_)=_;rw[(kH<|ae ea).1]
  have O:∀bp,dX (vw K5.files) bp=if iM s.log=bp then H (lO ((g:Z)+1)<|k++[L])else dX (vw j.files) bp:=λbp=>by rw[co];exact ec _ _ rfl bp
  have hE:=bL.cellAt av 20 rfl;have ht:w5.frozen? (R b 20)=bF:=av.free;obtain⟨W6,et⟩:∃W6,bZ w5 (R b 20) (aL bW)=W6:=⟨_,rfl⟩;have bs:bL W6 b {s with gB:=bW,kj:=K,km:=bW} m:=by rw[<-et];exact(aR av).trans rfl
  have w:gw a W6 s.aN b j K5:=by rw[<-et];exact ax.set bl _ _
  have B:=x.st.UM an w (λbp=>by rw[O,cW<|λq=>mF _ _ q.symm]);have ce:=W.fq w;have bi:=B.mem;rw[ae cu]at bi;obtain⟨mb,m1,m2,m3⟩:=(x.pV.fq w).ex;have bT:=AT b {s with gB:=bW,kj:=K,km:=bW} m sn (bD eb eo (y L) fz) L bs m1 m2 x.pV.len B.mem (λm a=>(B.sV m a).lt) ⟨fN L,.inr ⟨eb,eo,fz,rfl,cs,λdn fv hj=>W.cell w<|HE dn fv hj⟩⟩ (λm a=>by cases a;exact ce.lt) B.mq (by have:=x.VR;omega);have bT:cy bG 72 #[aA b,bD eb eo (y L) fz] W6 λbq w'=>∃a,bq=aO a/\w'.ownsRow (z<|G W6) 164 4 a (y<|gh sn e L) (aF<|gh sn e L)/\Y aB W6 w':=bT;have k7:aT W6 (R b 7)=H (J mx (y e) mc):=by rw[<-ae cu];exact bs.cell rfl
  obtain⟨n,dv,gc,hk,au,gg⟩:=kG O bs w B bl fl;clear ax co O cE av ba ff fl bv fs C bs w B ce bi bl ac gr ex fu cn;go_wp2_with fail
  apply bT.mono;rintro bq w7⟨v7,rfl,al,dk⟩;obtain⟨x7,c7,hd⟩:=aC al;subst hd;have E:bL w7 b {s with gB:=bW,kj:=K,km:=bW} m:=(dk.block b (ak dv) id).trans dv;have k7:aT w7 (R b 7)=H (J mx (y e) mc):=by rw[<-ae cu];exact E.cell rfl
  have k8:=bL.cellAt E 8 rfl;have k9:=bL.cellAt E 9 rfl;have f7:w7.frozen? (R b 7)=bF:=E.free;have f8:w7.frozen? (R b 8)=bF:=E.free;have f9:w7.frozen? (R b 9)=bF:=E.free;have hu:s.bC<=l:=x.bn;have hA:IntKind.i64.wrap ((s.iS:Z)+(y L:Z))=(s.iS:Z)+(y L:Z):=by rw[bQ];omega
  have hB:IntKind.u64.wrap ((s.bC:Z)+1)=(s.bC:Z)+1:=by rw[gV];omega
  obtain⟨fL,gi,cv⟩:=dC E al dk;clear E al dk bT;go_wp2;go_ret;have f:=ae x;have w:=ae gc;have hr:=ya sn e L;obtain⟨n1,n2,n3⟩:=f.Ei HG HB;have cM:gw a (bZ (bZ (bZ w7 (R b 7)<|J x7 (y<|gh sn e L) c7) (R b 8)<|ap<|(s.iS:Z)+(y L:Z)) (R b 9)<|aH<|(s.bC:Z)+1) s.aN b j K5:=by
   have h1:gw a w7 s.aN b j K5:=w.trans ⟨w.ok.aw cv<|λ_ _=>id,cv.mono cG,λ_ q=>.inl q⟩;exact((h1.set au _ _).set au _ _).set au _ _
  have fr:=f.st.UM an cM (λbp=>by rw[(ae n),cW<|λq=>mF _ _ q.symm]);have al:=ae gi;have hl:=cv.size;have hD:z (G a)<=z (G W6):=w.aw.size;have ck:∀q,bV (J x7 (y<|gh sn e L) c7)=H q->z (G W6)<=q/\q<z (G w7):=λq hq=>al.lt q hq;have gt:=w.ok.lt;refine⟨rfl,J x7 (y<|gh sn e L) c7,K,K5,?_,?_,cM⟩
  .exact(aR<|aR<|aR fL).trans rfl
  .refine{st:=?_,qX:=?_,pr:=f.pr,lp:=?_,mem:=?_,MF:=?_,VT:=?_,WT:=xY f.st.mq f.pV.len L,pV:=(f.pV.fq cM).fields ⟨rfl,rfl⟩,Vr:=λhG hy=>(by have:=f.Vr hG hy;show hG.2<=s.bC+1;omega),BH:=?_,UX:=?_,vG:=f.vG,GK:=f.GK,nx:=?_,bn:=?_,eM:=?_,TE:=f.TE,loose:=λ_=>rfl,TX:=λ_=>(by simp),mJ:=hN}
   .refine fr.Tr (C':=c+y L) ⟨rfl,rfl,rfl,rfl,rfl⟩ ?_ ?_ (xZ f.st.mq sn L) n1 (by omega) hC
    .show Row _ 4 (J x7 (y<|gh sn e L) c7) _ _;refine dH ((((al.kept (cV _ _ _ _) ?_).kept (cV _ _ _ _) ?_).kept (cV _ _ _ _) ?_))<;>exact .inr (λq=>by have:=(ck b q).1;omega)
    .intro q hq;have h1:=ck q hq;refine⟨?_,λcc=>?_,by omega⟩
     .simp only[gz];exact h1.2
     .have:=gt q cc;omega
   .refine{names:=λbp F hn=>?_,state:=?_,log:=λ_=>?_,GJ:=λq=>(by cases q),zc:=λhH hz=>?_,zn:=f.qX.zn,low:=f.qX.low,lt:=f.qX.lt,jc:=f.qX.jc}
    .rw[ae n]at hn;by_cases cc:iM s.log=bp
     .exact .inr<|.inl ⟨cc.symm,rfl⟩
     .rw[cW cc]at hn;rcases f.qX.names _ _ hn with q|⟨q,_⟩|q
      .exact .inl q
      .exact absurd q.symm cc
      .exact .inr<|.inr q
    .rw[ae n,cW<|sd _];exact f.qX.state
    .rw[ae n];show(if iM s.log=iM s.log then _ else _)=_;rw[dw rfl]
    .rw[ae n,cW<|λq=>mF _ _ q.symm];exact f.qX.zc hH hz
   .have gs:=f.BH;refine f.lp.snoc HG (λfx hx=>?_) ⟨bu,h8⟩ ?_ ?_
    .rw[(ae HB) fx hx,gs];push_cast;omega
    .have:=f.UX;omega
    .have:=f.bn;have:=f.mJ;omega
   .show ke ((s.bC+1:M):Z) (gh sn e L)=_;rw[dP,aX,fM,dJ,yO,<-n3];push_cast
    rfl
   .intro fx hx;have:=n2 fx hx;show _/\fx.bI<=((s.bC+1:M):Z);push_cast
    exact this
   .rw[aM,gl];have:=f.VT;simp;omega
   .show s.bC+1=g+y (k++[L]);have:=f.BH;rw[af];simp only[ay,cL];omega
   .show s.iS+y L=_;rw[aM,gl,f.UX];simp
   .show s.next<=_;have:=f.nx;omega
   .show s.bC+1<=l+1;omega
   .have h1:=f.eM;have h2:=ae gg;have h3:=ae ee;rw[h2];omega
