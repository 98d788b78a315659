import Derived.Test.YtmnlcbeggagabaaGreatDoorC25
open _root_ renaming List.length→y,Option.some→H,Array.size→z,Go.World.heap→G,Go.Value.ownBlock→cz,Go.World.cell?→aS,Go.World.setCell→cA,Go.World.alloc→cG,Bool.false→bj,Bool.true→ci,Nat→M,Int→U,List→cS,Go.Calls→cD,Go.Proofs.Tryz.prog→aZ,Go.Value.slice→J,Go.Value.string→am,Go.Value.bool→aK,Go.Value.tuple→dd,Go.Value.agg→dD
namespace Go.Proofs.YtmnlcbeggagabaaGreatDoor
open ChangeShapes WideShapes RowKit Proofs.Tryz List
set_option maxHeartbeats 16000000
set_option linter.all false
set_option maxRecDepth 100000
variable{a f:Z}{b c g m x O:M}{d u P:ab}{e N:cI}{i L:DK}{j p r s:cN}{k:U}{l:dJ}{n:dN}{o:SR}{X:eT}{w:E}{A:iF}{F:Fs}{K:Bool}{T:bw}{W:Type}
structure Inv(w:Z)(sb:M)(s:SR)(K:DK)(m:cI)(a b c d:cN)(C tb N:M)(ls:dJ)(sn:gv):Prop where
 st:ST w sb s K m a b c d C
 oa:RV (vw K.files) s.next s.log tb a b c d s.fa ls
 pr:PR tb (bY a b c d)
 lp:vI ((tb:U)+1) ls
 mem:jO s.aT m=gp [] ls.flatten
 RS:∀x∈m,(tb:U)<x.bJ/\x.bJ<=s.aT
 Xv:y m<=(ls.map y).sum
 XA:qE 5 m
 BK:Jf w K sb s sn
 UZ:∀p∈sn,p.2<=s.aT
 Bw:s.aT=tb+y ls
 Rz:s.fS=(ls.map y).sum
 vT:s.vT=bj
 Fb:((a++b++c++d).map bw.tb).Nodup
 nx:s.next<=2+1000001*N
 bn:s.aT<=N
 dM:y K.dM<=1000001+2*N
 zh:1<=s.mem/\s.mem<=32/\2<=s.nN/\s.nN<=6
 loose:s.iQ=ci->s.fa=ci
 Qt:s.fa=ci->ls≠[]
 oO:N<=100000000
def ST.Uj(h:ST a b o i e j p r s c)(k:b<z (G a))(d:gq a f o.aM b i L)(g:∀n,dB (vw L.files) (gu n)=dB (vw i.files) (gu n)):ST f b o L e j p r s c where
 mem:=Dt h.mem d h.vp
 vp:=λg b=>(h.vp g b).fE d
 l0:=h.l0.fE d<|λ_ _=>g _
 l1:=h.l1.fE d<|λ_ _=>g _
 l2:=h.l2.fE d<|λ_ _=>g _
 l3:=h.l3.fE d<|λ_ _=>g _
 aM:=d.ok
 yO:=λr=>(d.aO b r).elim h.yO<|λg=>by omega
 lL:=h.lL.fE d
 qp:=h.qp
 oO:=h.oO
 mh:=h.mh
 iH:=h.iH
 s1:=h.s1
 s2:=h.s2
 s3:=h.s3
def ST.Wm{d:SR}{C C':M}(h:ST a b o i e j p r s C)(w:d.aM=o.aM/\d.l0=o.l0/\d.l1=o.l1/\d.l2=o.l2/\d.l3=o.l3)(q:jU a d.memory N)(f:∀v,cz d.memory=H v->Aside a i o.aM b v)(t:dK N)(n:∀A∈N,A.Good)(x:y N+C<=C'+y e)(u:C'<=1000000):ST a b d i N j p r s C':=by
 obtain⟨c,g,k,l,m⟩:=w;refine{mem:=q,vp:=by rw[c];exact f,l0:=by rw[c,g];exact h.l0,l1:=by rw[c,k];exact h.l1,l2:=by rw[c,l];exact h.l2,l3:=by rw[c,m];exact h.l3,aM:=by rw[c];exact h.aM,yO:=by rw[c];exact h.yO,lL:=by rw[c];exact h.lL,qp:=by have:=h.qp;omega,oO:=u,mh:=t,iH:=n,s1:=h.s1,s2:=h.s2,s3:=h.s3}
def ST.fields{d s':SR}(h:ST a b d i e j p r s c)(g:s'.aM=d.aM/\s'.l0=d.l0/\s'.l1=d.l1/\s'.l2=d.l2/\s'.l3=d.l3)(f:s'.memory=d.memory):ST a b s' i e j p r s c:=h.Wm g (by rw[f];exact h.mem) (by rw[f];exact h.vp) h.mh h.iH (by omega) h.oO
def PM(f:U)(a:dJ)(l:cI):jg f (a++[l])=jg f a++mF (f+y a) l:=by
 induction a generalizing f with
 |nil=>simp[jg]
 |cons x r b=>
  rw[dl,jg,b,jg,bz,aW];grind
def vI.snoc(h:vI k l)(j:∀x∈e,x.Good)(f:∀x∈e,x.bJ=k+y l)(d:1<=y e/\y e<=8)(b:(l.map y).sum+y e<32)(g:k+y l+1<18446744073709551616):vI k (l++[e])where
 iH:=λx a=>by
  rcases aG.1 a with c|c
  .exact h.iH x c
  grind
 num:=λi b x a=>by
  by_cases c:i<y l
  .rw[tR c]at a;exact h.num i c x a
  grind
 one:=λx a=>by
  rcases aG.1 a with c|c
  .exact h.one x c
  grind
 sum:=by rw[aR,iO];simpa using b
 f0:=h.f0
 f1:=by rw[ag];grind
def yq(l m n:cI):gp l (m++n)=gp (gp l m) n:=by
 unfold gp;rw[fK]
def sK{l m:cI}(h:w∈gp l m):w∈l\/w∈m:=by
 induction m generalizing l with
 |nil=>exact .inl h
 |cons e r a=>
  rcases a (l:=sF l e) h with c|c
  .grind[xL]
  grind
def vI.uO(h:vI ((b:U)+1) l):∀x∈l.flatten,(b:U)<x.bJ/\x.bJ<=(b+y l:M):=by
 intro x e;obtain⟨f,d,a⟩:=bB.1 e;obtain⟨i,c,rfl⟩:=gM.1 d;have:=h.num i c x a;grind
def Inv.WW{d:gv}(h:Inv a b o i e j p r s c g m l d):y e<=31:=by
 have f:=h.Xv;have k:=h.lp.sum;omega
def Inv.row{k:cN}{f:gv}(h:Inv a b o i e p r s k c g m l f):gJ e:=⟨h.st.mh,λn d=>tH<|h.st.iH n d⟩
def Inv.all{k b n p:cN}{f:gv}(h:Inv a c o i e k b n p g m x l f):PR o.aT (e::bY k b n p):=h.pr.cons (by have:=h.Bw;omega) h.st.mh h.st.iH (λj d=>(h.RS j d).1)<|λj d=>(h.RS j d).2
def im(b:gv)(m a:cI):cI:=dG (sC b)<|fB m a
def Inv.JJ{n:gv}(h:Inv a b o i e j p r s c g m l n):y (jg ((g:U)+1) l)<=200000/\y l<=31:=by
 have q:=oT (f:=(g:U)+1)<|λk d=>⟨h.lp.iH k d,(h.lp.one k d).2⟩;have t:=yK<|λk d=>(h.lp.one k d).1;have u:=h.lp.sum;grind
def Inv.CT{f:gv}(h:Inv a b o i e j p r s c g m l f):y (j++p++r++s)<=1000000:=by
 have d:=h.st.qp;have k:=h.st.oO;have:=kW<|λt d=>(h.st.l0.each t d).pure;have:=kW h.st.s1.pure;have:=kW h.st.s2.pure;have:=kW h.st.s3.pure;grind
def IV.inv{h:gv}{A:U->ae->Option ae}{w:ab}{num:M}(l:IV a f c o k g m i (sC h) A d u P w L num j p r s)(e:1<=o.mem/\o.mem<=32/\2<=o.nN/\o.nN<=6)(D:o.next<=2+1000001*x)(C:g<=x+1)(B:x+1<=100000000)(v:Jf a i c o h)(t:∀E∈h,E.2<=o.aT)(n:o.aT<=g):Inv f c (o.settled d u P w g num) L [] j p r s m g (x+1) [] h where
 st:=l.st
 oa:=l.oa
 pr:=l.pr
 lp:=⟨by simp,by simp,by simp,by simp,by omega,by simp;omega⟩
 mem:=rfl
 RS:=by simp
 Xv:=by simp
 XA:=qE.nil _
 BK:=(v.fE l.fE).fields ⟨rfl,rfl⟩
 UZ:=λE e=>aB (t E e) n
 Bw:=rfl
 Rz:=rfl
 vT:=rfl
 Fb:=l.Fb
 nx:=by have:=l.num;show num+1<=_;omega
 bn:=C
 dM:=by have:=l.dM;omega
 zh:=e
 loose:=λq=>(by cases q)
 Qt:=λq=>(by cases q)
 oO:=B
section
variable{w:Z}{sbqq:M}{s:SR}{K:DK}{m e:cI}{a b c d:cN}{C tbqq N:M}{lsqq:dJ}{f:gv}
theorem ut(f:gv)(m e:cI):(im f m e).Sublist (fB m e):=jh _ _
theorem AJ(f:gv)(m e:cI):y (im f m e)<=y m+y e:=aB (ut f m e).length_le<|wq m e
theorem Fx{x:E}(h:x∈im f m e):x∈m\/x∈e:=wP<|(ut f m e).subset h
theorem AI(h:dK m)(f:gv)(e:cI):dK (im f m e):=(h.fB e).sub<|ut f m e
theorem AH(h:dK m)(g:y f<=4)(e:cI):qE 5 (im f m e):=(xG<|h.fB e).mono (by rw[qu];omega)
theorem Fw(l:gJ m){g:U}(k:∀x∈m,x.bJ<=g)(j:∀h∈e,h.key≠⟨#[]⟩)(i:∀h∈e,h.bJ=g+1)(f:gv):jO (g+1) (im f m e)=gp (jO g m) e:=by
 have:=wB (rest:=[]) (ms:=sC f) l (by simp) j i k (by simp);unfold im;grind
theorem Inv.zN(h:Inv w sbqq s K m a b c d C tbqq N lsqq f)(i:∀x∈e,x.Good)(j:∀x∈e,x.bJ=(s.aT:U)+1):(∀x∈im f m e,x.Good)/\(∀x∈im f m e,(tbqq:U)<x.bJ/\x.bJ<=(s.aT:U)+1)/\jO ((s.aT:U)+1) (im f m e)=gp (gp [] lsqq.flatten) e:=by
 have k:=h.Bw;refine⟨λx g=>(Fx g).elim (h.st.iH x)<|i x,λx g=>?_,?_⟩;rcases Fx g with q|q;have:=h.RS x q;omega;grind
 rw[Fw h.row (λx g=>(h.RS x g).2) (λl k=>tH<|i l k) j f,h.mem]
theorem Inv.SX(l:Inv w sbqq s K m a b c d C tbqq N lsqq f)(k:∀x∈e,x.Good)(i:∀x∈e,x.bJ=(s.aT:U)+1){t:U}(g:t∈sC f)(q:ae):ft t (im f m e::bY a b c d) q=ft t (m::bY a b c d) q:=by
 have h:t<=s.aT:=by unfold sC at g;obtain⟨p,j,rfl⟩:=bM.1 g;exact_mod_cast l.UZ p j
 unfold ft;rw[show im f m e=dG (sC f) (fB m e)from rfl,Do l.row (λn j=>tH<|k n j) i g h]
theorem Inv.Ta(h:Inv w sbqq s K m a b c d C tbqq N lsqq f)(k:∀x∈e,x.Good)(i:∀x∈e,x.bJ=(s.aT:U)+1)(q:ae):ft ((s.aT:U)+1) (im f m e::bY a b c d) q=seen (gp (jO s.aT m) e::(bY a b c d).map (jO s.aT)) q:=by
 unfold ft;rw[show im f m e=dG (sC f) (fB m e)from rfl,wB h.row h.pr.row (λn j=>tH<|k n j) i (λx g=>(h.RS x g).2) (λr l x g=>by have o:=h.pr.low x<|bB.2 ⟨r,l,g⟩;have:=h.Bw;omega)]
end
def SR.zN(s:SR)(c:ab)(a:M)(b:Bool):SR:={s with memory:=c,fS:=s.fS+a,aT:=s.aT+1,fa:=ci,iQ:=ci,iW:=b}
def Vy(h:∀x∈e,x.Good)(c:y e<=8):jn (mF k e):=by
 have a:jn (fY k e):=by unfold fY;refine(jn.le 8 _).append ?_;intro x b;rcases bR.1 b with q|q;rw[q];constructor<;>omega;exact Af h x q
 unfold mF gy;exact((((jn.le 4 _).append<|jn.le 4 _).append<|jn.le 4 _)).append a
def Xs(s:SR)(K a:DK)(c:Bool):Prop:=(s.fa=ci->a=K)/\(s.fa=bj->c=ci/\∃g b,a.files=K.files++[⟨fD s.log,g,aw,[],0⟩]/\a.sm=K.sm/\a.dM=K.dM++[(b,[(fD s.log,H g)])])
def UI(s:SR)(K b:DK)(d:Bool)(c:dN):Prop:=∃a F x,Xs s K a d/\mS a.files (fD s.log)=H F/\b.files=mB a.files {F with data:=x,bytes:=F.bytes++c}/\b.dM=a.dM/\b.sm=a.sm
def BQ{s:SR}{hy:cN}(sn:gv)(h:cf a b s k)(f:Inv a b s L e j p r hy c g m l sn)(hg:jU a d N)(eA:∀k,cz d=H k->Aside a L s.aM b k)(bo:0<y N)(h8:y N<=8)(hh:∀fr∈N,fr.Good)(hf:∀fr∈N,fr.bJ=(s.aT:U)+1)(hp:s.fS+y N<32)(hC:c+y N<=1000000)(hN:m+1<=100000000):cD aZ 74 #[aA b,d] a λbk w'=>bk=aJ .nilIface/\∃mv C K',cf w' b (s.zN mv (y N) C) k/\Inv w' b (s.zN mv (y N) C) K' (im sn e N) j p r hy (c+y N) g (m+1) (l++[N]) sn/\gq a w' s.aM b L K'/\UI s L K' C (mF ((g:U)+1+y l) N):=by
 have cE:=f.st;have ao:=ar h;have cx:s.log<18446744073709551616:=by have:=f.oa.lt;have:=f.nx;have:=f.oO;omega
 have bx:=tE s.log cx cE.lL.pow;obtain⟨eb,eo,fs,gj,aV,ac⟩:∃co u O,d=aY co u (y N) O/\y N<=O/\∀dc fn,(aI N)[dc]?=H fn->aS a (R co<|u+dc)=H fn:=by obtain⟨_,⟨q1,q2⟩|⟨co,u,O,q1,q4,S⟩⟩:=hg;omega;grind
 have ch:=Y aV;clear aV;subst gj;have aa:=eA eb rfl;obtain⟨mx,mc,gn⟩:=bN cE.mem;have gc:=cf.cellAt h 17 rfl;obtain⟨x,HH,HE,HG,HB,dT,ck⟩:=yt f h ac hh hf bx gn;clear f cE h hg eA ac hh hf bx;obtain⟨lg,cw⟩:∃lg,s.fa=lg:=⟨_,rfl⟩;have hk:∀(fr:Bool)(a:Z),(Op.unary .not<|aK fr).run aZ a=.ok (aK<|!fr) a:=λ_ _=>rfl;go_in
 go_wp2_with fail
 apply dT.mono;rintro bk w1⟨rfl,eu⟩;have bq:I az a w1:=I.aQ eu;have ey:gq a w1 s.aM b L L:=⟨x.st.aM.ap bq<|λ_ _=>id,bq.mono cC,λ_ q=>.inl q⟩;have t:cf w1 b s k:=(bq.block b ao id).trans HH;have gx:aS w1 (R b 18)=H (aK lg):=by rw[<-cw];exact t.cell rfl
 have k2:=cf.cellAt t 2 rfl;have gE:=cf.cellAt t 21 rfl;have ge:w1.frozen? (R b 18)=bj:=t.free;have gf:w1.frozen? (R b 21)=bj:=t.free;obtain⟨W,ce,K⟩:=dz t ey cw;clear eu bq t ey cw gc;cases lg
 case' true=>
  go_wp2_with fail
  obtain⟨X,D⟩:∃X,w1=X:=⟨_,rfl⟩;obtain⟨C,al⟩:∃C,s.iW=C:=⟨_,rfl⟩;have HX:=Y (show∃n V,gq a X s.aM b L n/\mS n.files (fD s.log)=H V/\V.bytes=jg ((g:U)+1) l/\y n.dM<=y L.dM+1/\(∀q F,sN (vw n.files) (fD s.log,F)=q->∀bi,dB q bi=if fD s.log=bi then H F else dB (vw L.files) bi)/\ii (vw n.files)=ii (vw L.files)/\Xs s L n C/\cf X b {s with fa:=ci,iW:=C} k from by
   obtain⟨V,q1,q2⟩:=gR<|x.oa.log K;refine⟨L,V,by rw[<-D];exact ce,q1,q2,by omega,λq F bk bi=>by rw[<-bk,sa],rfl,⟨λ_=>rfl,λq=>by rw[af K]at q;cases q⟩,?_⟩;rw[<-D,<-al];have:=af W;have bk:s={s with fa:=ci,iW:=s.iW}:=by rw[<-af K]
   rw[<-bk];exact this)
  rw[D];clear D al
 case' false=>
  have S:dB (vw L.files) (fD s.log)=none:=by
   cases q:dB (vw L.files) (fD s.log)with
   |none=>rfl
   |some F=>
    rcases x.oa.names _ _ q with bk|⟨_,bk⟩|⟨hA,_,bk⟩
    .grind[nQ]
    .rw[af K]at bk;cases bk
    .exact absurd bk.symm<|lC _ _
  have ex:=Aq (fD s.log) ce.ok (Bj<|vz S) (by have:=x.dM;have:=x.oO;omega);go_wp2_with fail
  apply ex.mono;rintro bk w2⟨rfl,n,bm,eB,fe,fd⟩;have ff:¬L.aO s.aM b:=x.st.yO;have u:cf w2 b s k:=(bm.ap.block b (ar W) ff).trans W;have ca:¬n.aO s.aM b:=bm.zO ff<|ar W;have gx:aS w2 (R b 18)=H (aK bj):=by rw[<-af K];exact u.cell rfl
  have k2:=cf.cellAt u 2 rfl;have gE:=cf.cellAt u 21 rfl;have ge:w2.frozen? (R b 18)=bj:=u.free;have gf:w2.frozen? (R b 21)=bj:=u.free;obtain⟨dn,fv,dv,ea,bt,O⟩:=kY u bm eB fd ca S;have gb:=Y fe;clear u bm eB fd fe ca ex S;go_wp2_with fail
  obtain⟨X,D⟩:∃X,cA (cA w2 (R b 18)<|aK ci) (R b 21) (aK ci)=X:=⟨_,rfl⟩;obtain⟨C,al⟩:∃C,ci=C:=⟨_,rfl⟩;have HX:=Y (show∃n V,gq a X s.aM b L n/\mS n.files (fD s.log)=H V/\V.bytes=jg ((g:U)+1) l/\y n.dM<=y L.dM+1/\(∀q F,sN (vw n.files) (fD s.log,F)=q->∀bi,dB q bi=if fD s.log=bi then H F else dB (vw L.files) bi)/\ii (vw n.files)=ii (vw L.files)/\Xs s L n C/\cf X b {s with fa:=ci,iW:=C} k from by
   have gk:l=[]:=x.oa.DJ K;have cT:vw n.files=vw L.files++[(fD s.log,[])]:=by rw[af dv];simp[vw]
   have fb:dB (vw n.files) (fD s.log)=H []:=by rw[cT,jr,af O];simp[dB]
   obtain⟨V,q1,q2⟩:=gR fb;refine⟨n,V,?_,q1,by rw[q2,gk];rfl,by rw[af ea];simp,λq F bk bi=>?_,by rw[cT,ud];simp[ii],⟨λq=>(by rw[af K]at q;cases q),λ_=>⟨al.symm,_,_,dv,gb,ea⟩⟩,?_⟩
   .rw[<-D];exact((ce.trans<|gq.of fv).set bt _ _).set bt _ _
   .rw[<-bk,cT,Gq [] F O,jr];by_cases co:fD s.log=bi
    .rw[dV co,<-co,af O];simp[dB]
    .rw[eI co];cases dB (vw L.files) bi<;>simp[dB,co]
   .rw[<-D,<-al];exact(aL (aL dn)).trans rfl)
  rw[D];clear D al
 all_goals
  obtain⟨n,V,ad,ej,bu,bE,ba,bh,bc,cp⟩:=af HX;have cl:=Y bc;clear bc;have cb:¬n.aO s.aM b:=ad.sb x.st.yO ao;have bg:=x.st.Uj ao ad (λbi=>by
   have:=ba _ V.bytes rfl (gu bi);rw[eI (λq=>lC _ _ q.symm)]at this;rw[<-this];grind[iS,rV,Bl])
  have aF:=aa.fE ad;have aU:∀dc fn,(aI N)[dc]?=H fn->aS X (R eb<|eo+dc)=H fn:=λdc fn hj=>aa.cell ad<|HE dc fn hj;have bd:=MQ N eb eo fs X.drew (λdc hj=>bg.lL.steps dc hj) aF.lt aU bo HG h8;have ei:(N[0]'bo).bJ=(g:U)+1+y l:=by
   have h1:=HB _<|ak bo;have h2:=x.Bw;rw[h1,h2];grind
  rw[ei]at bd;have k2:=cf.cellAt cp 2 rfl;obtain⟨ds,cj,bs,ec,dx,cn⟩:=kY ad ej bu bE ba bh;obtain⟨dk,hc,ef,ed,hb,ha⟩:=kY cp bg cb bd aU aF;clear ad ej bu bE ba bh cp bg cb bd ei aU aF;rename_i QQ KK en;have eq:aS X.drew (R b 2)=H (aA s.aM):=k2;refine dL (λ(eg:Z)=>aS eg (R b 2)=H (aA s.aM)) 8 (by kernel_rfl) ?_;refine eR 0 ?_;iterate 6 (refine iC (v:=?_) eq rfl (by kernel_rfl) ma rfl ?_ ?_;rotate_left;(focus(intro eg hX;go_simp;try rfl));simp only[Act.put,eF,Nat.reduceAdd])
  apply ig;refine bC (i:=6) rfl rfl (by kernel_rfl) ?_;intro K6 ek;go_simp;apply ed.mono;rintro bk w4⟨v4,rfl,bp,fk⟩;have B:I az X w4:=(cR az X).bW fk;have er:aS w4 (R b 2)=H (aA s.aM):=B.cell k2 id<|qP k2;refine ek _ _ (λ_=>er) ?_;clear ek;try simp only[Act.put,eF]
  obtain⟨F,P⟩:∃F,mF ((g:U)+1+y l) N=F:=⟨_,rfl⟩;rw[P]at bp;have gg:y F<=400:=by rw[<-P];exact BR HG h8
  have ev:0<y F:=by rw[<-P];unfold mF;rw[ag,fC];omega
  obtain⟨vb,vc,gs,fl,cc,_⟩:=oE bp ev;subst gs;have et:=EE (db:=s.aM) (K:=n) (fD s.log) V vb 0 vc F (w:=w4) (ds.ok.ap B<|λ_ _=>id) cj (by
   rw[Jm,af cn];have:=x.oa.total x.st.aM.nodup x.JJ.1 x.CT;omega) (by rw[<-P];exact Vy HG h8) (λdc fn hj=>by
    have:=oW bp dc fn hj;rwa[dt]at this) cc (by rw[af bs];have:=x.JJ.1;omega)
  refine bC (i:=7) rfl rfl (by kernel_rfl) ?_;intro K7 el;go_simp;apply et.mono;rintro bk w5⟨rfl,K5,aD,⟨x5,cv⟩,cB,gr⟩;have fL:=Y<|show UI s L K5 C (mF ((g:U)+1+y l) N)from⟨n,V,x5,cl,cj,by rw[P];exact cv,cB,gr⟩;have cs:cf w4 b {s with fa:=ci,iW:=C} k:=(B.block b (ar dk) id).trans dk;have av:cf w5 b {s with fa:=ci,iW:=C} k:=(aD.ap.block b (ar cs) ef).trans cs;refine el _ _ (λ_=>av.cell rfl) ?_;clear el et;try simp only[Act.put,eF]
  refine bC (i:=8) rfl rfl (by kernel_rfl) ?_;intro K8 em;go_simp;refine em _ _ (λq=>(q rfl).elim) ?_;refine eN (by kernel_rfl) ?_ _;show KK _ _;apply en;clear en em eq er;have ax:gq a w5 s.aM b L K5:=ds.trans ⟨aD.ok,(B.mono (T:=λk=>n.aO s.aM k\/k=b) cC).trans aD.ap<|λ_ q=>.inl<|.inl q,λk q=>(aD.aO k q).imp id<|λco=>aB B.size co⟩;have bf:¬K5.aO s.aM b:=ax.sb x.st.yO ao;have cd:vw K5.files=sN (vw n.files) (fD s.log,jg ((g:U)+1)<|l++[N]):=by
   rw[cv,AK,PM,P,<-af bs];show sN _ (V.name,_)=_;rw[(iS<|af cj).1]
  have Q:∀bi,dB (vw K5.files) bi=if fD s.log=bi then H (jg ((g:U)+1)<|l++[N])else dB (vw L.files) bi:=λbi=>by rw[cd];exact dx _ _ rfl bi
  have hw:=cf.cellAt av 20 rfl;have hl:w5.frozen? (R b 20)=bj:=av.free;obtain⟨W6,es⟩:∃W6,cA w5 (R b 20) (aK ci)=W6:=⟨_,rfl⟩;have bl:cf W6 b {s with fa:=ci,iW:=C,iQ:=ci} k:=by rw[<-es];exact(aL av).trans rfl
  have w:gq a W6 s.aM b L K5:=by rw[<-es];exact ax.set bf _ _
  have A:=x.st.Uj ao w (λbi=>by rw[Q,eI<|λq=>lC _ _ q.symm]);have bv:=aa.fE w;have bb:=A.mem;rw[af ck]at bb;obtain⟨mb,m1,m2,m3⟩:=(x.BK.fE w).ex;have br:=AG b {s with fa:=ci,iW:=C,iQ:=ci} k sn (aY eb eo (y N) fs) N bl m1 m2 x.BK.len A.mem (λk a=>(A.vp k a).lt) ⟨fH N,.inr ⟨eb,eo,fs,rfl,ch,λdc fn hj=>aa.cell w<|HE dc fn hj⟩⟩ (λk a=>by cases a;exact bv.lt) A.mh (by have:=x.WW;omega);have br:cD aZ 58 #[aA b,aY eb eo (y N) fs] W6 λbk w'=>∃a,bk=aJ a/\w'.ownsRow (z<|G W6) 170 4 a (y<|im sn e N) (aI<|im sn e N)/\I az W6 w':=br;have k7:aS W6 (R b 7)=H (J mx (y e) mc):=by rw[<-af ck];exact bl.cell rfl
  obtain⟨o,dm,fw,hd,au,fx⟩:=kY Q bl w A bf cB;clear ax cd Q cs av aD cv cB bp fk B bl w A bv bb bf P gg ev fl cc;go_wp2_with fail
  apply br.mono;rintro bk w7⟨v7,rfl,an,cM⟩;obtain⟨x7,c7,gt⟩:=aC an;subst gt;have E:cf w7 b {s with fa:=ci,iW:=C,iQ:=ci} k:=(cM.block b (ar dm) id).trans dm;have k7:aS w7 (R b 7)=H (J mx (y e) mc):=by rw[<-af ck];exact E.cell rfl
  have k8:=cf.cellAt E 8 rfl;have k9:=cf.cellAt E 9 rfl;have f7:w7.frozen? (R b 7)=bj:=E.free;have f8:w7.frozen? (R b 8)=bj:=E.free;have f9:w7.frozen? (R b 9)=bj:=E.free;have hm:s.aT<=m:=x.bn;have hs:IntKind.i64.wrap ((s.fS:U)+(y N:U))=(s.fS:U)+(y N:U):=by rw[bS];omega
  have hu:IntKind.u64.wrap ((s.aT:U)+1)=(s.aT:U)+1:=by rw[fi];omega
  obtain⟨fu,fz,cm⟩:=dz E an cM;clear E an cM br;go_wp2;go_ret;have f:=af x;have w:=af fw;have hi:=AJ sn e N;obtain⟨n1,n2,n3⟩:=f.zN HG HB;have cu:gq a (cA (cA (cA w7 (R b 7)<|J x7 (y<|im sn e N) c7) (R b 8)<|aq<|(s.fS:U)+(y N:U)) (R b 9)<|aE<|(s.aT:U)+1) s.aM b L K5:=by
   have h1:gq a w7 s.aM b L K5:=w.trans ⟨w.ok.ap cm<|λ_ _=>id,cm.mono cC,λ_ q=>.inl q⟩;exact((h1.set au _ _).set au _ _).set au _ _
  have fg:=f.st.Uj ao cu (λbi=>by rw[(af o),eI<|λq=>lC _ _ q.symm]);have an:=af fz;have he:=cm.size;have hv:z (G a)<=z (G W6):=w.ap.size;have bT:∀q,cz (J x7 (y<|im sn e N) c7)=H q->z (G W6)<=q/\q<z (G w7):=λq hq=>an.lt q hq;have ho:=w.ok.lt;refine⟨rfl,J x7 (y<|im sn e N) c7,C,K5,?_,?_,cu,fL⟩
  .exact(aL<|aL<|aL fu).trans rfl
  .refine{st:=?_,oa:=?_,pr:=f.pr,lp:=?_,mem:=?_,RS:=?_,Xv:=?_,XA:=AH f.st.mh f.BK.len N,BK:=(f.BK.fE cu).fields ⟨rfl,rfl⟩,UZ:=λhz hr=>(by have:=f.UZ hz hr;show hz.2<=s.aT+1;omega),Bw:=?_,Rz:=?_,vT:=f.vT,Fb:=f.Fb,nx:=?_,bn:=?_,dM:=?_,zh:=f.zh,loose:=λ_=>rfl,Qt:=λ_=>(by simp),oO:=hN}
   .refine fg.Wm (C':=c+y N) ⟨rfl,rfl,rfl,rfl,rfl⟩ ?_ ?_ (AI f.st.mh sn N) n1 (by omega) hC
    .show Row _ 4 (J x7 (y<|im sn e N) c7) _ _;refine dE ((((an.kept (du _ _ _ _) ?_).kept (du _ _ _ _) ?_).kept (du _ _ _ _) ?_))<;>exact .inr (λq=>by have:=(bT b q).1;omega)
    .intro q hq;have h1:=bT q hq;refine⟨?_,λco=>?_,by omega⟩
     .simp_all
     grind
   .refine{names:=λbi F hn=>?_,state:=?_,log:=λ_=>?_,DJ:=λq=>(by cases q),xY:=λhA ht=>?_,yS:=f.oa.yS,low:=f.oa.low,lt:=f.oa.lt,iH:=f.oa.iH}
    .rw[af o]at hn;by_cases co:fD s.log=bi
     .exact .inr<|.inl ⟨co.symm,rfl⟩
     .rw[eI co]at hn;rcases f.oa.names _ _ hn with q|⟨q,_⟩|q
      .exact .inl q
      .exact absurd q.symm co
      grind
    .rw[af o,eI<|nQ _];exact f.oa.state
    .rw[af o];show(if fD s.log=fD s.log then _ else _)=_;rw[dV rfl]
    .rw[af o,eI<|λq=>lC _ _ q.symm];exact f.oa.xY hA ht
   .have gi:=f.Bw;refine f.lp.snoc HG (λfr hx=>?_) ⟨bo,h8⟩ ?_ ?_
    .rw[(af HB) fr hx,gi];grind
    .have:=f.Rz;omega
    grind
   .show jO ((s.aT+1:M):U) (im sn e N)=_;rw[eK,bO,iA,dO,yq,<-n3];grind
   .intro fr hx;have:=n2 fr hx;show _/\fr.bJ<=((s.aT+1:M):U);grind
   .rw[aR,iO];have:=f.Xv;grind
   .show s.aT+1=g+y (l++[N]);have:=f.Bw;rw[ag];grind
   .show s.fS+y N=_;rw[aR,iO,f.Rz];simp
   .show s.next<=_;have:=f.nx;omega
   .show s.aT+1<=m+1;omega
   .have h1:=f.dM;have h2:=af fx;have h3:=af ec;rw[h2];omega
def WK(q:gv)(S:cf a b o k)(K:Inv a b o i e j p r s c g m l q)(O:jU a d N)(t:∀k,cz d=H k->Aside a i o.aM b k)(v:0<y N)(D:y N<=8)(P:∀Q∈N,Q.Good)(L:∀Q∈N,Q.bJ=(o.aT:U)+1)(u:o.fS+y N<32)(E:c+y N<=1000000)(F:m+1<=100000000):cD aZ 74 #[aA b,d] a λx w=>x=aJ .nilIface/\∃n h f,cf w b (o.zN n (y N) h) k/\Inv w b (o.zN n (y N) h) f (im q e N) j p r s (c+y N) g (m+1) (l++[N]) q/\gq a w o.aM b i f:=(BQ q S K O t v D P L u E F).mono<|λ_ _⟨x,n,h,f,A,B,C,_⟩=>⟨x,n,h,f,A,B,C⟩
def bw.pG(t:bw):bw:={t with tb:=0}
def jF(b a:cN):Prop:=a.map bw.pG=b.map bw.pG
def jF.lens(h:jF j p):y p=y j:=by
 have:=bQ y h;grind
theorem jF.nil(h:jF [] j):j=[]:=List.length_eq_zero_iff.1 h.lens
def jF.append(h:jF j p)(k:jF r s):jF (j++r) (p++s):=by
 unfold jF at*;rw[aR,aR,h,k]
def jF.map(h:jF j p)(f:bw->W)(a:∀t,f t.pG=f t):p.map f=j.map f:=by
 have e:∀l:cN,l.map f=(l.map bw.pG).map f:=λl=>by rw[iP];simp_all
 rw[e p,e j];exact bQ _ h
def jF.mem(h:jF j p)(a:T∈p):∃u∈j,u.pG=T.pG:=by
 have:T.pG∈p.map bw.pG:=nV a;rw[h]at this;grind
def jF.symm(h:jF j p):jF p j:=Eq.symm h
theorem wA{u:bw}(h:u.pG=T.pG):u.num=T.num:=(bQ bw.num h:u.pG.num=T.pG.num)
def zC{u:bw}(h:u.pG=T.pG):u.cs=T.cs:=(bQ bw.cs h:u.pG.cs=T.pG.cs)
def Ot{u:bw}(h:u.pG=T.pG):u.ks=T.ks:=(bQ bw.ks h:u.pG.ks=T.pG.ks)
def jF.all(h:jF j p):p.map bw.all=j.map bw.all:=h.map _<|λ_=>rfl
def jF.bZ(h:jF j p):bZ p=bZ j:=by unfold Go.Proofs.YtmnlcbeggagabaaGreatDoor.bZ;rw[h.all]
def jF.bY{j a b c k d l e:cN}(f:jF j a)(g:jF b c)(h:jF k d)(i:jF l e):bY a c d e=bY j b k l:=by
 unfold Go.Proofs.YtmnlcbeggagabaaGreatDoor.bY;rw[f.all,g.bZ,h.bZ,i.bZ]
theorem jF.ru(h:jF j p):ru p=ru j:=by
 unfold Go.Proofs.YtmnlcbeggagabaaGreatDoor.ru;have:p.map ue=j.map ue:=h.map _<|λ_=>rfl;rw[h.lens,List.flatMap_def,List.flatMap_def,this]
def jF.side(h:jF j p)(a:jV j):jV p:=by
 refine⟨λt b=>?_,?_,?_⟩;obtain⟨u,c,e⟩:=h.mem b;rw[<-Ot e,<-zC e];exact a.pure u c;rw[h.bZ];exact a.mh;rw[h.all];exact a.Cw
def jF.Wd(k:jF j p)(g:∀t∈j,EH t):∀t∈p,EH t:=λt h=>by
 obtain⟨u,i,f⟩:=k.mem h;obtain⟨a,b,c,d,e⟩:=g u i;rw[Ot f,zC f]at a b;rw[zC f]at c d;rw[wA f]at e;exact⟨a,b,c,d,e⟩
def RV.YP{f i k m:cN}(h:RV F b c g j p r s K l)(t:jF j f)(v:jF p i)(w:jF r k)(x:jF s m):RV F b c g f i k m K l:=by
 have a:jF (j++p++r++s) (f++i++k++m):=((t.append v).append w).append x;refine⟨λN o A=>?_,?_,h.log,h.DJ,λB d=>?_,?_,λB d=>?_,h.lt,a.Wd h.iH⟩;rcases h.names N o A with q|q|⟨B,d,q⟩;exact .inl q;(grind);obtain⟨u,e,n⟩:=a.symm.mem d;grind[wA]
 rcases h.state with q|⟨q,C,D,E,L,O⟩;(refine .inl<|q.trans ?_;unfold iq;grind[jF.ru]);grind[jF.nil]
 obtain⟨u,e,n⟩:=a.mem d;rw[<-wA n,<-zC n];exact h.xY u e;rw[a.map bw.num<|λ_=>rfl];exact h.yS;obtain⟨u,e,n⟩:=a.mem d;rw[<-wA n];exact h.low u e
structure rK(fs:Fs)(w:Z)(db:M)(K:DK)(a b c d:cN)(C tb N nx lg:M)(fa:Bool)(ls:dJ):Prop where
 aM:cH w db K
 oa:RV fs nx lg tb a b c d fa ls
 pr:PR tb (bY a b c d)
 lp:vI ((tb:U)+1) ls
 qp:y (gp [] ls.flatten)+y (bZ a)+y (bZ b)+y (bZ c)+y (bZ d)<=C
 oO:C<=1000000
 s1:jV b
 s2:jV c
 s3:jV d
 Qt:fa=ci->ls≠[]
 nx:nx<=2+1000001*N
 bn:tb+y ls<=N
 dM:y K.dM<=1000001+2*N
 AM:N<=100000000
 steps:Steps w
 pow:Pow w
 eL:¬K.aO db 1
 lf:¬K.aO db 2
abbrev xz(w:Z)(a:M)(K:DK):=rK (vw K.files) w a K
def zu{ts:cN}(h:∀t∈ts,EH t):y ts<=y (bZ ts):=kW<|λt a=>(h t a).pure
def rK.count{f b h j:cN}{n:M}(k:rK F a c i f b h j g m x O n K l):y (f++b++h++j)<=1000000:=by
 have e:=k.oa.iH;have o:=zu (ts:=f) (λt d=>e t<|by simp[d]);have p:=zu (ts:=b) (λt d=>e t<|by simp[d]);have q:=zu (ts:=h) (λt d=>e t<|by simp[d]);have r:=zu (ts:=j) (λt d=>e t<|by simp[d]);have:=k.qp;have:=k.oO;grind
def Cp(w:Z)(d c:M)(e:iF)(t:bw):Prop:=∃b a,lB w t.tb (aA d) t.num (y<|dw t.cs) (y<|eO<|bI 0 t.cs) (kO<|eO<|bI 0 t.cs) b 0 a aw t.ks/\c<t.tb/\t.tb<z (G w)/\c<b/\b<z (G w)/\∀(j:M)(v:ab),e[j]?=H v->cz v≠H t.tb/\cz v≠H b
structure Cr(w0 wr:Z)(db:M)(K K1:DK)(gb lb:M)(mv vs:iF)(Ts:cS cN):Prop where
 Qp:wr.heap[gb]?=H (ay mv.toArray 124 (0,0))
 box:wr.heap[lb]?=H (ay vs.toArray 93 (0,0))
 yI:y vs=4
 CT:y Ts=4
 rows:∀(j:M)(v:ab)(T:cN),vs[j]?=H v->Ts[j]?=H T->wr.ownsRow (lb+1) 189 1 v (y T) (T.map bw.ptr)
 ne:∀(j j':M)(v v':ab)(q:M),j≠j'->vs[j]?=H v->vs[j']?=H v'->cz v=H q->cz v'≠H q
 aM:cH wr db K1
 same:K1.files=K.files/\K1.dM=K.dM/\∀k,K1.aO db k->K.aO db k
 xY:∀t∈Ts.flatten,Cp wr db lb vs t
 Fb:(Ts.flatten.map bw.tb).Nodup
 ap:I (K.aO db) w0 wr
 low:∀k,K.aO db k->k<z (G w0)
 ord:z (G w0)<=gb/\gb<lb/\lb<z (G wr)
def Ai{t:bw}:∀{a:cS cN}{i:M},a[i]?=H j->List.Perm (a.set i<|j++[t]).flatten (t::a.flatten)
 |[],i,h=>by simp at h
 |Uqq::a,0,h=>by
  simp_all
 |Uqq::a,i+1,h=>by
  rw[uo]at h;rw[dQ,bO,bO];exact((qd Uqq<|Ai h).trans ul)
def Cr.row{m wr:Z}{f:iF}{a:cS cN}(h:Cr m wr b i L c g A f a){j:M}(l:f[j]?=H d):∃T,a[j]?=H T/\wr.ownsRow (g+1) 189 1 d (y T) (T.map bw.ptr):=by
 have k:j<4:=by rw[<-h.yI];grind
 have e:a[j]?=H (a[j]'(by rw[h.CT];exact k)):=aN _;exact⟨_,e,h.rows j d _ l e⟩
def Cr.own{n wr:Z}{e:DK}{a:iF}{h:cS cN}(o:Cr n wr c L e g m A a h)(l:a[x]?=H d){q:M}(j:cz d=H q):m<q/\q<z (G wr):=by
 obtain⟨D,_,k⟩:=o.row l;have:=bK k q j;omega
def Cr.cell{h wr:Z}{d:DK}{a:iF}{e:cS cN}(k:Cr h wr c L d g m A a e)(j:M):aS wr (R m j)=a[j]?:=by
 rw[bV k.box];simp
def Cr.XQ{e wr:Z}{d:iF}{a:cS cN}(h:Cr e wr b i L c g A d a)(j:M):aS wr (R c j)=A[j]?:=by
 rw[bV h.Qp];simp
def Cp.ap{S:eT}{w w':Z}{t:bw}(l:Cp w c g A t)(d:I S w w')(j:∀q,S q->q<=g):Cp w' c g A t:=by
 obtain⟨k,a,p,m,e,n,h,o⟩:=l;refine⟨k,a,p.di (d.block _ e (λl=>by have:=j _ l;omega))<|d.block _ h (λl=>by have:=j _ l;omega),m,ah e d.size,n,ah h d.size,o⟩
def Cr.move{s wr n:Z}{j:DK}{r:iF}{o:cS cN}(h:Cr s wr b i L c g A r o)(f:I X wr n)(p:∀k,X k->i.aO b k\/c<k/\k<g)(t:cH n b j)(m:j.files=L.files/\j.dM=L.dM/\∀k,j.aO b k->L.aO b k):Cr s n b i j c g A r o:=by
 have l:=h.low;have a:=h.ord;have d:∀k,X k->k<c\/c<k/\k<g:=λk a=>(p k a).imp (λe=>by have:=l k e;omega) id;refine⟨?_,?_,h.yI,h.CT,?_,h.ne,t,⟨m.1.trans h.same.1,m.2.1.trans h.same.2.1,λk e=>h.same.2.2 k<|m.2.2 k e⟩,?_,h.Fb,?_,l,?_⟩;exact(f.block c (ar h.Qp) (λe=>by have:=d _ e;omega)).trans h.Qp;exact(f.block g (ar h.box) (λe=>by have:=d _ e;omega)).trans h.box;exactλk v T a c=>f.own (h.rows k v T a c) (λq g e=>by have:=h.own a g;have:=d _ e;omega);exactλt a=>(h.xY t a).ap f (λk e=>by have:=d _ e;omega);exact h.ap.trans f (λk e=>(p k e).imp id<|λe=>by omega);exact⟨a.1,a.2.1,ah a.2.2 f.size⟩
def Cr.still{f wr h:Z}{e:iF}{a:cS cN}(j:Cr f wr b i L c g A e a)(d:I az wr h):Cr f h b i L c g A e a:=j.move d cC (j.aM.ap d<|λ_ _=>id) ⟨rfl,rfl,λ_ k=>k⟩
def Cr.put{w0 wr r:Z}{C:iF}{Q:cS cN}{T:cN}{X:bw}(l:Cr w0 wr c i L g m A C Q)(v:C[x]?=H d)(hT:Q[x]?=H T)(V:eC wr r d u)(ho:r.ownsRow (m+1) 189 1 u (y<|T++[X]) ((T++[X]).map bw.ptr))(ad:Cp wr c m C X)(P:X.tb∉Q.flatten.map bw.tb):Cr w0 (cA r (R m x) u) c i L g m A (C.set x u) (Q.set x<|T++[X]):=by
 have s:I (λN=>cz d=H N) wr r:=I.fy V;have w:=λq=>l.own (q:=q) v;have ac:=l.ord;have D:=l.low;have O:r.heap[m]?=H (ay C.toArray 93 (0,0)):=(s.block m (ar l.box) (λn=>by have:=w _ n;omega)).trans l.box;have j:I (λN=>N=m) r (cA r (R m x) u):=(iV m r);have E:∀q,cz u=H q->m<q/\q<z (G r):=λq e=>by have:=bK ho q e;omega
 have S:∀q,q<z (G wr)->(∀(W:M)(B:ab),C[W]?=H B->cz B≠H q)->cz u≠H q:=λq e a n=>by grind[eC.uj]
 have F:∀B,Cp wr c m C B->Cp (cA r (R m x) u) c m (C.set x u) B:=by rintro B⟨t,h,hm,h1,h2,h3,h4,h5⟩;have k:lB r B.tb (aA c) B.num (y<|dw B.cs) (y<|eO<|bI 0 B.cs) (kO<|eO<|bI 0 B.cs) t 0 h aw B.ks:=hm.di (s.block _ h2<|λn=>(h5 x d v).1 n)<|s.block _ h4<|λn=>(h5 x d v).2 n;have g2:=ah h2 s.size;have g4:=ah h4 s.size;refine⟨t,h,k.di (j.block _ g2<|by omega) (j.block _ g4<|by omega),h1,by rw[gN];exact g2,h3,by rw[gN];exact g4,?_⟩;grind
 have o:=Ai (t:=X) hT;refine⟨?_,?_,by rw[gU];exact l.yI,by rw[gU];exact l.CT,?_,?_,?_,l.same,?_,?_,?_,D,?_⟩;exact(j.block g (ah (ar l.Qp) s.size)<|by omega).trans<|(s.block g (ar l.Qp) (λn=>by have:=w _ n;omega)).trans l.Qp;rw[aL O];simp;intro W B t a h;by_cases n:x=W;subst n;rw[ij]at a h;rw[v]at a;rw[hT]at h;cases a;cases h;exact j.own ho (λq e n=>by have:=E q e;omega);rw[gh n]at a h;have k:=s.own (l.rows W B t a h)<|λq e K=>l.ne W x B d q (Ne.symm n) a v e K;exact j.own k (λq e n=>by have:=l.own a e;omega);intro W i' B u' q t a k e;by_cases n:x=W;subst n;rw[gh t]at k;rw[ij,v]at a;cases a;intro h;change cz u=H q at e;rcases V.uj with K|⟨aa,K,hy⟩;exact l.ne _ _ _ _ q t v k (K.symm.trans e) h;rw[K]at e;cases e;have:=l.own k h;omega;rw[gh n]at a;by_cases e':x=i';subst e';rw[ij,v]at k;cases k;intro h;change cz u=H q at h;rcases V.uj with K|⟨aa,K,hy⟩;exact l.ne _ _ _ _ q t a v e<|K.symm.trans h;rw[K]at h;cases h;have:=l.own a e;omega;rw[gh e']at k;exact l.ne _ _ _ _ q t a k e;exact(l.aM.ap s (λN K n=>by have:=w _ n;have:=D N<|l.same.2.2 N K;omega)).ap j (λN K n=>by have:=D N<|l.same.2.2 N K;omega);intro B a;rcases bR.1 (o.mem_iff.1 a)with rfl|a;(grind);exact F B<|l.xY B a;rw[(o.map bw.tb).nodup_iff,cr,km];exact⟨P,l.Fb⟩;exact(l.ap.trans s<|λN n=>.inr (by have:=w _ n;omega)).trans j<|λN n=>.inr (by have:N=m:=n;omega);grind[gN,Nat.lt_of_lt_of_le,I.size]
def Steps.ap{S:eT}{w w':Z}(h:Steps w)(d:I S w w')(a:¬S 1):Steps w':=λk c=>d.cell (h k c) a h.lt
def oR(a:cS cN):cS cN:=a.map<|List.map bw.pG
def oQ{a:cS cN}(h:a[b]?=H j):(oR a)[b]?=H (j.map bw.pG):=by simp[oR,h]
def Cr.Qw{q wr:Z}{k:iF}{e:cS cN}(l:Cr q wr c i L g m A k e)(h:k[x]?=H d)(f:e[x]?=H j)(n:y j<=1000000000):iK wr d j where
 row:=dE<|l.rows x d j h f
 lt:=λd a=>(l.own h a).2
 each:=λt p=>by
  obtain⟨r,a,o,_⟩:=l.xY t<|bB.2 ⟨j,ew f,p⟩;exact⟨_,_,_,_,_,_,_,_,_,o⟩
 small:=n
def DF{db:M}{K:DK}(w:cS cN)(x0 x1 x2 x3:Option Addr)(n0 c0 n1 c1 n2 c2 n3 c3:M)(bT:cH a db K)(u:Steps a)(bn:Pow a)(eg:¬K.aO db 1)(ef:¬K.aO db 2)(h4:y w=4)(au:∀(T:M)(aV:ab)(r:cN),[J x0 n0 c0,J x1 n1 c1,J x2 n2 c2,J x3 n3 c3][T]?=H aV->w[T]?=H r->Row a 4 aV (y r) (dq r))(cb:∀(T:M)(aV:ab),[J x0 n0 c0,J x1 n1 c1,J x2 n2 c2,J x3 n3 c3][T]?=H aV->∀k,cz aV=H k->k<z (G a)/\¬K.aO db k)(n:∀el∈w.flatten,EH el){Xqq:Prop}(hf:∀el∈w.flatten,∃ek,dB (vw K.files) (gu el.num)=H ek/\(ek=kS el.cs\/Xqq/\iY ek (kS el.cs)))(ax:∀(T:M)(r:cN),0<T->w[T]?=H r->jV r)(ei:y w.flatten<=1000000):cD aZ 52 #[aA db,dD #[J x0 n0 c0,J x1 n1 c1,J x2 n2 c2,J x3 n3 c3]] a λcm w'=>
 (∃y0 m0 b y1 m1 c y2 m2 d y3 m3 e,cm=aJ (dd #[dD #[J y0 m0 b,J y1 m1 c,J y2 m2 d,J y3 m3 e],.nilIface])/\∃f Ts,Cr a w' db K f (z<|G a) (z (G a)+2) [J x0 n0 c0,J x1 n1 c1,J x2 n2 c2,J x3 n3 c3] [J y0 m0 b,J y1 m1 c,J y2 m2 d,J y3 m3 e] Ts/\oR Ts=oR w)\/Xqq/\∃q,cm=aJ (dd #[dD #[aw,aw,aw,aw],ot q])/\vL w' q/\I (K.aO db) a w':=by
 obtain⟨i0,fn,fu,fv,fw⟩:=cU vt
 have fL:∀(fx:Bool)(a:Z),(Op.unary .not<|aK fx).run aZ a=.ok (aK<|!fx) a:=λ_ _=>rfl
 obtain⟨mv,cd⟩:∃mv:iF,mv=[J x0 n0 c0,J x1 n1 c1,J x2 n2 c2,J x3 n3 c3]:=⟨_,rfl⟩
 rw[<-cd]at au cb|-
 obtain⟨W1,B⟩:∃W1,cG (cG (cG a<|ay mv.toArray 124)<|ay #[aw,aw,aw,aw] 93) (ay #[aw,aw,aw,aw] 93)=W1:=⟨_,rfl⟩
 have bu:I az a W1:=by rw[<-B];exact((cK az a).alloc _).alloc _
 have cB:W1.heap[z (G a)+1]?=H (ay #[aw,aw,aw,aw] 93 (0,0)):=by rw[<-B];exact(eU _<|by simp).trans<|aH _<|by simp
 have hA0:Cr a W1 db K K (z<|G a) (z (G a)+2) mv [aw,aw,aw,aw] [[],[],[],[]]:=by
  refine⟨?_,?_,rfl,rfl,?_,?_,bT.ap bu<|λ_ _=>id,⟨rfl,rfl,λ_ L=>L⟩,by simp,by simp,bu.mono cC,bT.lt,?_⟩
  .rw[<-B];grind[eU,aH]
  .rw[<-B];exact aH _<|by simp
  .intro T aV bg o u;have cm:aV=aw/\bg=[]:=by
    rcases T with _|_|_|_|T<;>simp at o u<;>exact⟨o.symm,u⟩
   rw[cm.1,cm.2];grind[World.ownsRow_nil]
  .intro T b aV c q _ o _ S;have cm:aV=aw:=by
    rcases T with _|_|_|_|T<;>simp at o<;>exact o.symm
   rw[cm]at S;cases S
  .refine⟨ai _,by omega,?_⟩;rw[<-B];simp
 obtain⟨co,et,HT,HP,cs,cp,es,HF⟩:=Ce hA0 cB u bn au cb n hf
 obtain⟨bs,H4,ey,eq,eB,cw,fg⟩:=yt ax h4 ei cd B eg ef
 clear bT u bn au cb n hf ax h4 ei cd bu cB hA0 B eg ef
 go_in
 go_wp2_with fail
 rw[af eB]
 have e2:z (G a)+1+1=z (G a)+2:=rfl
 rw[e2]
 obtain⟨p,ca⟩:∃p,z (G a)+2=p:=⟨_,rfl⟩
 rw[ca]at co|-
 have ec:∀(i:M)(r:cN),w[i]?=H r->y r<=1000000:=λi r Q=>by
  have N:=af ey;have h2:y r<=y w.flatten:=pE<|cV<|ew Q;omega
 have eo:=Y ec
 have ba:=Y ca
 clear ec e2 ca
 go_loopw [12] (λb wr=>∃(i:M)(K1:DK)(vs:iF)(Ts:cS cN),i<=4/\b=aq i/\Cr a wr db K K1 (z<|G a) p mv vs Ts/\nH (oR w) (oR Ts) i 0/\wr.heap[z (G a)+1]?=H (ay #[aw,aw,aw,aw] 93 (0,0))) (λb _=>4-(intOf b).toNat)
 case atStart=>exact⟨0,_,_,_,bG _,rfl,co,nH.start<|oR w,et⟩
 case round=>
  obtain⟨i,K1,vs,Ts,hi,rfl,A,bb,f⟩:=hrel;by_cases O:i<4
  .have W:=Y f;clear f;have dT:i<y w:=by rw[af H4];exact O
   obtain⟨r,Q⟩:∃r,w[i]?=H r:=⟨_,aN dT⟩;have bl:i<y mv:=by rw[af eq];exact O
   obtain⟨aV,o⟩:∃aV,mv[i]?=H aV:=⟨_,aN bl⟩;have ch:=cs i aV r o Q;obtain⟨fx,L,fs⟩:∃fx L,aV=J fx (y r) L:=by
    obtain⟨q1,⟨q2,q0⟩|⟨gg,br,cx,q2,_⟩⟩:=ch
    .grind
    grind
   subst fs;have fr:=eo i r Q;have hc:=(A.XQ i).trans o;have e1:(i:U)<4:=by omega
   have e0:(0:U)<=(i:U):=by omega
   obtain⟨HA,ev,HM,HV,ex⟩:=jk A bb Q o ch;clear A bb Q o ch dT bl;go_wp2_with fail
   go_loopw [19] (λc b=>∃(k:M)(K1:DK)(vs:iF)(Ts:cS cN),k<=y r/\c=aq k/\Cr a b db K K1 (z<|G a) p mv vs Ts/\nH (oR w) (oR Ts) i k/\b.heap[z (G a)+1]?=H (ay #[aw,aw,aw,aw] 93 (0,0))) (λc _=>y r-(intOf c).toNat)
   case atStart=>exact⟨0,_,_,_,bG _,rfl,HA,ev,W⟩
   case round=>
    obtain⟨k,K2,P,s,hk,rfl,hA2,g,ao⟩:=hrel;have d:=Y ao;clear ao;by_cases ad:k<y r
    .have Q:=af HM;have al:r[k]∈w.flatten:=bB.2 ⟨r,ew Q,ak ad⟩;have n:=es _ al;obtain⟨ek,ds,dc⟩:=HF _ al;have bp:=hA2.ap.row ex<|λq S=>⟨(cp i _ HV q S).2,(cp i _ HV q S).1⟩;obtain⟨gc,c,hx,ac⟩:∃gc c,fx=H (R gc c)/\∀T cn,(r[k].vq)[T]?=H cn->aS wr (R gc<|c+(k*4+T))=H cn:=by
      obtain⟨q1,⟨q2,q0⟩|⟨gg,br,cx,q2,bk,D⟩⟩:=bp
      .omega
      .cases q2;refine⟨gg,br,rfl,λT cn hu=>D _ _ ?_⟩;have hj:T<4:=by
        rcases gA T 4 with L|L
        .exact L
        .rw[qc<|by simpa[bw.vq]using L]at hu;cases hu
       rw[Gc r k T ad hj];exact hu
     subst hx;have dk:=ac 0 _ rfl;have dm:=ac 1 _ rfl;have bx:=ac 2 _ rfl;have bE:=ac 3 _ rfl;have bc:i<y s:=by rw[hA2.CT];exact O
     obtain⟨bg,u⟩:∃bg,s[i]?=H bg:=⟨_,aN bc⟩;have bv:y bg=k:=by
      have N:=g.now _<|oQ Q;rw[oQ u]at N;have h2:=bQ y<|gT N;simp at h2;omega
     have v:bg.map bw.pG=(r.map bw.pG).take k:=by
      have N:=g.now _<|oQ Q;rw[oQ u]at N;simp_all
     have bf:i<y P:=by rw[hA2.yI];exact O
     obtain⟨aV,o⟩:∃aV,P[i]?=H aV:=⟨_,aN bf⟩;have j:=hA2.rows i aV bg o u;rw[bv]at j;obtain⟨ox,oc,ce⟩:=aC j;subst ce;have bo:=g.one<|oQ Q;have ej:(r.map bw.pG).take (k+1)=(r.map bw.pG).take k++[r[k].pG]:=by
      rw[aj<|by simp_all];simp
     have hA3:=hA2.still<|(I.refl az wr).alloc<|ay #[aE r[k].num,dh<|y<|dw r[k].cs,dh<|y<|eO<|bI 0 r[k].cs,dh<|kO<|eO<|bI 0 r[k].cs] 188;rw[n.ks]at bx bE;generalize r[k]=el at*;have l:=Jq el.num n.num el.cs n.idx (Steps.ap HT hA3.ap cw) (Pow.ap HP hA3.ap fg) n.small (λL=>cw<|hA2.same.2.2 _ L) hA3.aM (by rw[hA2.same.1];exact ds) dc;unfold DV at l;have bd:=n.num;have ea:=n.ks;obtain⟨x,t,gb,X,cu⟩:=jk hA2 hA3 j o u;obtain⟨cv,bt,eA,E,en⟩:=jk bv v ej bo ea;have e4:(k:U)<(y r:U):=by omega
     have e5:(0:U)<=(k:U):=by omega
     have k0:aS wr (R p i)=H (J ox k oc):=(hA2.cell i).trans o;have e6:c+(k*4+0)=c+k*4:=by omega
     have e7:c+(k*4+1)=c+k*4+1:=by omega
     have e8:c+(k*4+2)=c+k*4+2:=by omega
     have e9:c+(k*4+3)=c+k*4+3:=by omega
     rw[e6]at dk;rw[e7]at dm;rw[e8]at bx;rw[e9]at bE;clear hA2 hA3 j o u bv v ej bo ea n ds dc bp ac Q al bc bf g e6 e7 e8 e9;obtain⟨gf,tk,m,tn⟩:=el;simp only at dk dm bx bE l bd;generalize cE:y (dw m)=tl at*;generalize cM:y (eO<|bI 0 m)=ti at*;generalize cT:kO (eO<|bI 0 m)=tc at*;obtain⟨fb,fd,fe⟩:=dz cE cM cT;clear cE cM cT;have cc:=x.ord;have bh:=Y (show z (G wr)<z (G<|cG wr<|ay #[aE tn,dh tl,dh ti,dh tc] 188)by simp);go_wp2_with fail
     apply l.mono;rintro cm V(⟨e,fz,F,rfl,aa,dv,dx,K3,hd,dn,eb,bi⟩|⟨hX,q,rfl,S,ck⟩);rotate_left
     .have aD:=af bh;have b:=(ck.block _ (by have:=ar d;omega) (λL=>by have:=t.low _<|t.same.2.2 _ L;omega)).trans<|(eU _<|ar d).trans d;have t0:=cellAt b 0 rfl;have t1:=cellAt b 1 rfl;have t2:=cellAt b 2 rfl;have t3:=cellAt b 3 rfl;have fl:∀i,V.frozen? (R (z (G a)+1) i)=bj:=λi=>by simp[World.frozen?,b]
      obtain⟨HQ,bk,D⟩:=dz S (t.ap.trans ck<|λk hk=>.inl<|t.same.2.2 k hk) b;clear S ck b l k0 aD;go_wp2;have av:=aL (i:=3) (u:=aw)<|aL (i:=2) (u:=aw)<|aL (i:=1) (u:=aw)<|aL (i:=0) (u:=aw) D;have aF:=((((I.refl (λk=>k=z (G a)+1) V).setCell (z (G a)+1) 0 aw<|.inl rfl).setCell (z (G a)+1) 1 aw<|.inl rfl).setCell (z (G a)+1) 2 aw<|.inl rfl).setCell (z (G a)+1) 3 aw<|.inl rfl;refine cg (sE rfl _ _ (z (G a)+1) _ _ _ _ _ _ rfl av ⟨_,_,_,rfl⟩ ⟨_,_,_,rfl⟩ ⟨_,_,_,rfl⟩ ⟨_,_,_,rfl⟩) rfl ?_;exact .inr ⟨hX,q,rfl,HQ.ap aF<|λk hk _=>hk▸⟨_,93,_,D,by decide⟩,bk.trans aF<|λk hk=>.inr (by have:k=z (G a)+1:=hk;omega)⟩
     have hA4:=t.move hd.ap (λq S=>.inl<|t.same.2.2 q S) hd.ok ⟨dn,eb,bi⟩;have aD:=af bh;have ge:p<z (G wr):=cc.2.2;have b:=(hd.ap.block _ (by have:=ar d;omega) (λL=>by have:=t.low _<|t.same.2.2 _ L;omega)).trans<|(eU _<|ar d).trans d;have bq:Cp V db p P ⟨e,tk,m,tn⟩:=by
      refine⟨fz,F,?_,by show p<e;omega,ar aa.box,by omega,?_,λT cn hu=>⟨λL=>?_,λL=>?_⟩⟩
      .show lB V e (aA db) tn (y<|dw m) (y<|eO<|bI 0 m) (kO<|eO<|bI 0 m) fz 0 F aw tk;rw[af fb,af fd,af fe,af en];exact aa
      .have D:0<y (ez<|bI 0 m):=by
        have:=aa.ne;rcases S:bI 0 m with _|⟨q,gi⟩
        .rw[S]at this;simp at this
        .simp[ez,pV.cells]
       have:=aa.cells 0 _<|aN D;exact cW V _ this
      .have N:=(x.own hu L).2;have h2:z (G wr)<=e:=by omega
       simp only at N;omega
      .have N:=(x.own hu L).2;omega
     have bm:e∉s.flatten.map bw.tb:=λL=>by
      obtain⟨cn,hu,cm⟩:=bM.1 L;obtain⟨_,_,_,_,h2,_⟩:=x.xY cn hu;omega
     have C:=hA4.rows i _ bg X cu;rw[af cv]at C;have k1:aS V (R p i)=H (J ox k oc):=(hA4.cell i).trans X;have cj:p<z (G V):=hA4.ord.2.2;have ff:=Y (show∀v5 w5,w5.ownsRow (p+1) 189 1 v5 (k+1) (bg.map bw.ptr++[aA e])->eC (cG V<|ay #[aA e] 189) w5 (J ox k oc) v5->Cr a (cA w5 (R p i) v5) db K K3 (z<|G a) p mv (P.set i v5) (s.set i<|bg++[⟨e,tk,m,tn⟩])/\(cA w5 (R p i) v5).heap[z (G a)+1]?=H (ay #[aw,aw,aw,aw] 93 (0,0))/\aS w5 (R p i)=H (J ox k oc)/\w5.frozen? (R p i)=bj from by
      intro v5 w5 an aU;have D:I az V (cG V<|ay #[aA e] 189):=(cK az V);have hA5:=hA4.still D;have cl:=I.fy aU;have ed:cz (J ox k oc)≠H p:=λL=>by have:=(hA4.own X L).1;omega
      have fk:=(cl.block p (ah cj D.size) ed).trans hA5.box;refine⟨hA5.put X cu aU ?_ (bq.ap D cC) bm,?_,?_,by simp[World.frozen?,fk]⟩
      .rw[ag,af cv,aR];exact an
      .have bk:=ar b;exact(iI v5 (by have:=af ba;omega)).trans<|(cl.block _ (ah bk D.size) (λL=>by have:=(hA4.own X L).1;have:=af ba;omega)).trans<|(D.block _ bk id).trans b
      .exact cl.cell (D.cell k1 id cj) ed (ah cj D.size))
     have er:=Y C;clear aa dv dx hd dn eb bi hA4 bq bm C l k0 aD b;go_wp2_with(first
      |(at_builtin;go_loud(refine ct _ rfl (.tmp 36) (.tmp 38) 91 rfl (p+1) 189 i0 (.pointer none) 1 8 underlying91 fn fu fv fw rfl (by decide) (.slice ox k oc) k (bg.map bw.ptr) rfl (aX er _) (R (z (G V)) 0) 1 1 [aA e] rfl rfl (qD _ _ _) (by simp[Value.oneCell']) (by omega) (by omega) (by simp;omega) ?_;intro v5 w5 an aU;obtain⟨hA5,y2,y0,y1⟩:=ff v5 w5 an aU;obtain⟨x5,c5,rfl⟩:=aC an;have em:=Y hA5;have eu:=Y y2;clear an aU hA5 y2)))
     go_roundw;case rel=>
      refine⟨k+1,K3,_,_,ad,by go_num,em,?_,eu⟩;have N:=af E;have h2:oR (s.set i<|bg++[⟨e,tk,m,tn⟩])=(oR s).set i ((r.map bw.pG).take<|k+1):=by
       unfold oR;rw[pz,aR,af bt,af eA];rfl
      rw[h2];exact N
     case measure=>simp[intOf];omega
    .have D:k=y r:=by omega
     subst D;have bc:i<y s:=by rw[hA2.CT];exact O
     obtain⟨bg,u⟩:∃bg,s[i]?=H bg:=⟨_,aN bc⟩;have bf:i<y P:=by rw[hA2.yI];exact O
     obtain⟨aV,o⟩:∃aV,P[i]?=H aV:=⟨_,aN bf⟩;have v:jF r bg:=by
      have N:=g.now _<|oQ HM;rw[oQ u]at N;have h2:=gT N;rw[dp<|by simp]at h2;exact h2
     have c:=hA2.Qw o u (by rw[v.lens];omega);have j:=hA2.rows i aV bg o u;obtain⟨ox,oc,ce⟩:=aC j;subst ce;have k0:aS wr (R p i)=H (J ox (y bg) oc):=(hA2.cell i).trans o;have b:=(show nH (oR w) (oR s) i (y<|r.map bw.pG)by rw[df];exact g).wS (oQ HM) (by unfold oR;rw[df];exact H4);have e4:¬((y r:U)<(y r:U)):=by omega
     have x:=Y hA2;have E:=Y b;by_cases m:i=0
     .subst m;clear hA2 g c j u o b;go_wp2;go_roundw;case rel=>exact⟨1,_,_,_,by omega,by go_num,x,E,d⟩
      case measure=>simp[intOf]
     .have l:=GF c (v.side<|bs i r (by omega) HM).apart;have e6:(0:U)<(i:U):=by omega
      clear hA2 g c j u o b;go_wp2_with fail
      apply l.mono;rintro cm F⟨rfl,e⟩;have t:=Y<|x.still<|I.aQ e;have C:=Y<|(e.block _<|ar d).trans d;clear e l;go_wp2;go_roundw;case rel=>exact⟨i+1,_,_,_,by omega,by go_num,t,E,C⟩
      case measure=>simp[intOf];omega
  .have j:i=4:=by omega
   subst j;have v:=bb.all (by unfold oR;rw[df];exact H4) (by unfold oR;rw[df];exact A.CT);have b:=A.yI;obtain⟨l,m,s,t,rfl⟩:∃l m s t,vs=[l,m,s,t]:=by
    rcases vs with _|⟨l,_|⟨m,_|⟨s,_|⟨t,_|⟨v4,gi⟩⟩⟩⟩⟩<;>simp at b;grind
   obtain⟨c,aa,F⟩:=A.row (j:=0) rfl;obtain⟨d,ac,P⟩:=A.row (j:=1) rfl;obtain⟨e,ad,V⟩:=A.row (j:=2) rfl;obtain⟨g,al,X⟩:=A.row (j:=3) rfl;obtain⟨x,y0,rfl⟩:=aC F;obtain⟨C,y1,rfl⟩:=aC P;obtain⟨D,y2,rfl⟩:=aC V;obtain⟨E,y3,rfl⟩:=aC X;have r0:=cellAt A.box 0 rfl;have r1:=cellAt A.box 1 rfl;have r2:=cellAt A.box 2 rfl;have r3:=cellAt A.box 3 rfl;have t0:=cellAt f 0 rfl;have t1:=cellAt f 1 rfl;have t2:=cellAt f 2 rfl;have t3:=cellAt f 3 rfl;have fl:∀i,wr.frozen? (R (z (G a)+1) i)=bj:=λi=>by simp[World.frozen?,f]
   obtain⟨HA,bt,W⟩:=dz A v f;have e5:¬((4:U)<4):=by omega
   clear A bb F P V X v f b;go_wp2;have av:=aL (i:=3) (u:=J E (y g) y3)<|aL (i:=2) (u:=J D (y e) y2)<|aL (i:=1) (u:=J C (y d) y1)<|aL (i:=0) (u:=J x (y c) y0) W;have aF:=((((I.refl (λk=>k=z (G a)+1) wr).setCell (z (G a)+1) 0 (J x (y c) y0)<|.inl rfl).setCell (z (G a)+1) 1 (J C (y d) y1)<|.inl rfl).setCell (z (G a)+1) 2 (J D (y e) y2)<|.inl rfl).setCell (z (G a)+1) 3 (J E (y g) y3)<|.inl rfl;refine cg (sE rfl _ _ (z (G a)+1) _ _ _ _ _ _ rfl av ⟨_,_,_,rfl⟩ ⟨_,_,_,rfl⟩ ⟨_,_,_,rfl⟩ ⟨_,_,_,rfl⟩) rfl ?_;refine .inl ⟨x,y c,y0,C,y d,y1,D,y e,y2,E,y g,y3,rfl,K1,Ts,?_,bt⟩;rw[af ba];have hd:=HA.aM.ap aF (λk L cm=>by have:=HA.low k<|HA.same.2.2 k L;have:k=z (G a)+1:=cm;omega);exact HA.move aF (λk cm=>.inr (by have:k=z (G a)+1:=cm;have:=af ba;omega)) hd ⟨rfl,rfl,λ_ L=>L⟩
def Qr(next d c:M)(f:cS cN)(h:cH a b i)(hT:Steps a)(bh:¬i.aO b 1)(h4:y f=4)(hn:next<18446744073709551616)(hl:d<next)(bs:c<18446744073709551616)(ca:y f.flatten<=1000000)(bd:∀bp∈f.flatten,bp.nZ)(an:(f.flatten.map bw.num).Nodup)(ad:∀bp∈f.flatten,bp.num<next/\bp.num≠d)(hg:dB (vw i.files) fm=H (iq next d c f)):cD aZ 51 #[aA b] a λL s=>
 ∃t n j v o c1 w p c2 x r c3,L=aJ (dd #[dD #[aE next,aE d,aE c,J t n j,J v o c1,J w p c2,J x r c3],.nilIface])/\(∀(bi:M)(bk:ab)(av:cN),[J t n j,J v o c1,J w p c2,J x r c3][bi]?=H bk->f[bi]?=H av->s.ownsRow (z<|G a) 188 4 bk (y av) (dq av))/\∃g,oA a s b i g/\g.files=i.files/\g.dM=i.dM/\∀k,g.aO b k->i.aO b k:=by
 obtain⟨F,l⟩:∃F,cG a (ay #[aE 0,aE 0,aE 0,aw,aw,aw,aw] 126)=F:=⟨_,rfl⟩
 have C:I az a F:=by rw[<-l];exact(cK az a)
 have N:F.heap[z<|G a]?=H (ay #[aE 0,aE 0,aE 0,aw,aw,aw,aw] 126 (0,0)):=by rw[<-l];exact aH _ rfl
 have bT:z (G F)=z (G a)+1:=by rw[<-l];simp
 have ac:y (iq next d c f)<=21000100/\0<y (iq next d c f):=by
  have h1:iq next d c f=gy (le 8 (next:M)++(le 8 (d:M)++(le 8 (c:M)++pI f 0))):=by
   unfold iq pI;simp
  have h2:=zF f 0;rw[h1,fC];grind[length_append,bU]
 have aF:=Y h.lt
 have B:cD aZ 54 #[aA b,am fm] F λL s=>∃bm K,L=aJ (dd #[aY bm 0 (y<|iq next d c f) K,.nilIface])/\s.heap[z<|G a]?=H (ay #[aE 0,aE 0,aE 0,aw,aw,aw,aw] 126 (0,0))/\(∃g,oA a s b i g/\g.files=i.files/\g.dM=i.dM/\∀k,g.aO b k->i.aO b k)/\z (G a)<z (G s)/\cD aZ 92 #[aY bm 0 (y<|iq next d c f) K] s λL ao=>
  ∃t n j v o c1 w p c2 x r c3,L=aJ (dd #[dD #[aE next,aE d,aE c,J t n j,J v o c1,J w p c2,J x r c3],aK ci])/\
  (∀(bi:M)(bk:ab)(av:cN),[J t n j,J v o c1,J w p c2,J x r c3][bi]?=H bk->f[bi]?=H av->ao.ownsRow (z<|G s) 188 4 bk (y av) (dq av))/\I az s ao:=by
  apply(zG (db:=b) (K:=i) fm _ (w:=F) (h.ap C<|λ_ _=>id) hg<|by omega).mono
  rintro L s⟨v',rfl,ho,g,A,e1,e2,S⟩
  have bf:=ho
  obtain⟨q1,⟨q2,q0⟩|⟨cb,cp,bq,q2,bt,hh,bv,bx,bg⟩⟩:=bf
  .omega
  .subst q2;have br:Steps s:=Steps.ap (Steps.ap hT C id) A.ap bh;have O:¬i.aO b (z<|G a):=λK=>by have:=h.lt _ K;omega
   refine⟨cb,cp,rfl,(A.ap.block _ (ar N) O).trans N,⟨g,⟨A.ok,(C.mono (T:=i.aO b) cC).trans A.ap<|λ_ K=>.inl K,λk K=>.inl<|S k K⟩,e1,e2,S⟩,by have:=A.ap.size;omega,?_⟩;grind[NM,eE.bytes]
 have aa:=λW=>Ik 10 W
 unfold fm at B
 obtain⟨SL,X⟩:∃SL,y (iq next d c f)=SL:=⟨_,rfl⟩
 rw[X]at B
 have bc:=Y l
 have bE:∀a:Z,(binOp .neq 41 .nilIface .nilIface).run aZ a=.ok (aK bj) a:=λ_=>rfl
 have bo:∀(bm:Bool)(a:Z),(Op.unary .not<|aK bm).run aZ a=.ok (aK<|!bm) a:=λ_ _=>rfl
 clear h hT hg bd an ad C N l X ac
 go_in
 go_wp2_with fail
 rw[af bc]
 apply B.mono
 rintro L w2⟨bm,K,rfl,W,V,al,D⟩
 have aU:=Y W
 have aD:=Y V
 clear W V B
 go_wp2_with fail
 apply(aa _).mono
 rintro L bl⟨rfl,hw⟩
 subst bl
 go_wp2_with fail
 apply D.mono
 rintro L w3⟨t,n,j,v,o,c1,w,p,c2,x,r,c3,rfl,m,Q⟩
 have e:=(Q.block _ al id).trans aU
 have bn:=ar e
 have bb:=Y Q
 have ba:=Y m
 have t0:=cellAt e 0 rfl
 have t1:=cellAt e 1 rfl
 have t2:=cellAt e 2 rfl
 have t3:=cellAt e 3 rfl
 have t4:=cellAt e 4 rfl
 have t5:=cellAt e 5 rfl
 have t6:=cellAt e 6 rfl
 have bu:∀ax,w3.frozen? (R (z<|G a) ax)=bj:=λax=>by simp[World.frozen?,e]
 have aV:=Y e
 clear m Q e D aa
 go_wp2
 have E:=aL (i:=6) (u:=J x r c3)<|aL (i:=5) (u:=J w p c2)<|aL (i:=4) (u:=J v o c1)<|aL (i:=3) (u:=J t n j)<|aL (i:=2) (u:=aE c)<|aL (i:=1) (u:=aE d)<|aL (i:=0) (u:=aE next) aV
 have au:=((((((((I.refl (λk=>k=z (G a)) w3).setCell (z<|G a) 0 (aE next)<|.inl rfl).setCell (z<|G a) 1 (aE d)<|.inl rfl).setCell (z<|G a) 2 (aE c)<|.inl rfl).setCell (z<|G a) 3 (J t n j)<|.inl rfl).setCell (z<|G a) 4 (J v o c1)<|.inl rfl).setCell (z<|G a) 5 (J w p c2)<|.inl rfl).setCell (z<|G a) 6 (J x r c3)<|.inl rfl).alloc<|ay #[aE next,aE d,aE c,J t n j,J v o c1,J w p c2,J x r c3] 126
 have P:=(eU (ay #[aE next,aE d,aE c,J t n j,J v o c1,J w p c2,J x r c3] 126)<|ar E).trans E
 refine cg (qx rfl _ _ (z<|G a) next d c _ _ _ _ _ _ rfl P ⟨_,_,_,rfl⟩ ⟨_,_,_,rfl⟩ ⟨_,_,_,rfl⟩ ⟨_,_,_,rfl⟩) rfl ?_
 refine⟨t,n,j,v,o,c1,w,p,c2,x,r,c3,rfl,?_,?_⟩
 .intro bi bk av hv hD;have hr:=ba bi bk av hv hD;exact fM (au.own hr (λq b L=>by have:=(hr.lt q b).1;have:q=z (G a):=L;omega))<|by omega
 .obtain⟨g,A,e1,e2,S⟩:=af aD;have ao:I (λk=>k=z (G a)) w2 _:=(bb.mono (T:=λk=>k=z (G a)) cC).trans au<|λ_ K=>.inl K;have O:∀k,g.aO b k->k<z (G a):=λk K=>aF k<|S k K;exact⟨g,⟨A.ok.ap ao (λk K L=>by have:=O k K;have:k=z (G a):=L;omega),A.ap.trans ao<|λk L=>.inr (by have:k=z (G a):=L;omega),A.aO⟩,e1,e2,S⟩
abbrev YF:ab:=dD #[aE 0,aE 0,aE 0,aw,aw,aw,aw]
def EG(w:Z)(g:M):Prop:=w.heap[g]?=H (ay #[aE 0,aE 0,aE 0,aw,aw,aw,aw] 126 (0,0))
def EG.facts(h:EG a b):(aS a (R b 0)=H (aE 0)/\aS a (R b 1)=H (aE 0)/\aS a (R b 2)=H (aE 0)/\aS a (R b 3)=H aw/\aS a (R b 4)=H aw/\aS a (R b 5)=H aw/\aS a (R b 6)=H aw)/\∀i,a.frozen? (R b i)=bj:=⟨⟨cellAt h 0 rfl,cellAt h 1 rfl,cellAt h 2 rfl,cellAt h 3 rfl,cellAt h 4 rfl,cellAt h 5 rfl,cellAt h 6 rfl⟩,λ_=>cZ h⟩
def XN(w:Z)(g:M):Z:=cA (cA (cA (cA (cA (cA (cA w (R g 0)<|aE 0) (R g 1)<|aE 0) (R g 2)<|aE 0) (R g 3) aw) (R g 4) aw) (R g 5) aw) (R g 6) aw
def AX(w:Z)(g:M):I (λk=>k=g) w (XN w g):=((((((iV g w).setCell g 1 _<|.inl rfl).setCell g 2 _<|.inl rfl).setCell g 3 _<|.inl rfl).setCell g 4 _<|.inl rfl).setCell g 5 _<|.inl rfl).setCell g 6 _<|.inl rfl
def EG.put(h:EG a c):EG (XN a c) c:=(aL<|aL<|aL<|aL<|aL<|aL<|aL h).trans rfl
def NK(q b c:M)(d:dN)(m:Steps a)(h:ui d)(k:y d<=c)(s:y d<=1000000000)(f:Bytes a (aY q b (y d) c) d):cD aZ 92 #[aY q b (y d) c] a λu t=>u=aJ (dd #[YF,aK bj])/\Below (z<|G a) a t:=by
 have g:Below (z<|G a) a (cG a<|ay #[aE 0,aE 0,aE 0,aw,aw,aw,aw] 126):=(Below.refl _ a).alloc (ai _) _;have i:=yJ q b (y d) c d (m.alloc<|ay #[aE 0,aE 0,aE 0,aw,aw,aw,aw] 126) h rfl k s<|f.alloc _;have n:∀(x:Bool)(a:Z),(Op.unary .not<|aK x).run aZ a=.ok (aK<|!x) a:=λ_ _=>rfl;have HB:=Y g;clear m h f g;go_in
 go_wp2_with fail
 refine i.mono ?_;rintro u o⟨rfl,e⟩;have l:EG o (z<|G a):=(e.block _<|by simp).trans<|aH _ rfl;obtain⟨⟨v,c1,c2,c3,c4,c5,w⟩,r⟩:=l.facts;obtain⟨j,p⟩:=And.intro (Y e) (Y l);clear e l i;go_wp2;refine cg (qx rfl _ _ (z<|G a) 0 0 0 _ _ _ _ _ _ rfl p.put ⟨_,_,_,rfl⟩ ⟨_,_,_,rfl⟩ ⟨_,_,_,rfl⟩ ⟨_,_,_,rfl⟩) rfl ?_;have f:=HB.trans<|j.mono HB.size;exact⟨rfl,f.trans<|(AX o<|z<|G a).below f.size<|λx b=>by omega⟩
def Tl(h:cH a b i)(hT:Steps a)(an:¬i.aO b 1)(hg:dB (vw i.files) fm=H n)(hb:ui n)(hl:y n<=100000000):cD aZ 51 #[aA b] a λL c=>∃q,L=aJ (dd #[YF,ot q])/\vL c q/\I (i.aO b) a c:=by
 obtain⟨s,d⟩:∃s,cG a (ay #[aE 0,aE 0,aE 0,aw,aw,aw,aw] 126)=s:=⟨_,rfl⟩;have e:I az a s:=by rw[<-d];exact(cK az a)
 have m:EG s (z<|G a):=by rw[<-d];exact aH _ rfl
 have al:¬i.aO b (z<|G a):=λX=>by have:=h.lt _ X;omega
 have p:cD aZ 54 #[aA b,am fm] s λL c=>∃au X,L=aJ (dd #[aY au 0 (y n) X,.nilIface])/\EG c (z<|G a)/\I (i.aO b) a c/\cD aZ 92 #[aY au 0 (y n) X] c λL d=>L=aJ (dd #[YF,aK bj])/\Below (z<|G c) c d:=by apply(zG (db:=b) (K:=i) fm _ (w:=s) (h.ap e<|λ_ _=>id) hg<|by omega).mono;rintro L c⟨v',rfl,ho,K',hd,e1,e2,e3⟩;(have D:0<y n:=by obtain⟨ba,bb,rfl,h4,_⟩:=hb;simp;omega);obtain⟨aF,cp,rfl,a1,a2,a3⟩:=oE ho D;have aa:Steps c:=Steps.ap (Steps.ap hT e id) hd.ap an;exact⟨aF,cp,rfl,(hd.ap.block _ (ar m) al).trans m,(e.mono (T:=i.aO b) cC).trans hd.ap<|λ_ X=>.inl X,NK aF 0 cp n aa hb a3 (by omega)<|eE.bytes ho⟩
 have C:=λW=>Ik 10 W;unfold fm at p;have aD:∀a:Z,(binOp .neq 41 .nilIface .nilIface).run aZ a=.ok (aK bj) a:=λ_=>rfl;have av:∀(au:Bool)(a:Z),(Op.unary .not<|aK au).run aZ a=.ok (aK<|!au) a:=λ_ _=>rfl;have W:=Y d;have ac:=h.lt;clear h hT hg hb e m d ac;generalize y n=aV at*;go_in
 go_wp2_with fail
 rw[af W];apply p.mono;rintro L w2⟨au,X,rfl,x,F,g⟩;obtain⟨u,Q⟩:=And.intro (Y x) (Y F);clear x F p;go_wp2_with fail
 apply(C _).mono;rintro L ao⟨rfl,hw⟩;subst ao;go_wp2_with fail
 apply g.mono;rintro L N⟨rfl,o⟩;have A:EG N (z<|G a):=(o.block _<|ar u).trans u;have V:=Y<|Q.bW<|I.aQ (S:=az) o;have v:=Y A;clear o A g C;go_wp2_with fail
 obtain⟨t,j⟩:∃t,cG N (ay #[aE 0,aE 0,aE 0,aw,aw,aw,aw] 126)=t:=⟨_,rfl⟩;rw[j];have ad:=ar v;have r:I az N t:=by rw[<-j];exact cK _ _
 have l:EG t (z<|G a):=(r.block _ ad id).trans v;refine(tJ _ _).mono ?_;rintro L K⟨rfl,f⟩;have B:I az N K:=by rw[f];exact r.alloc _
 have E:vL K (z<|G t):=by rw[f];exact vL.new _ _
 have k:EG K (z<|G a):=by rw[f];exact(eU _<|ar l).trans l
 clear f r l j;obtain⟨⟨c0,c1,c2,c3,c4,c5,c6⟩,ax⟩:=k.facts;obtain⟨O,P,w⟩:=dz B E k;clear B E k;go_wp2;refine cg (qx rfl _ _ (z<|G a) 0 0 0 _ _ _ _ _ _ rfl w.put ⟨_,_,_,rfl⟩ ⟨_,_,_,rfl⟩ ⟨_,_,_,rfl⟩ ⟨_,_,_,rfl⟩) rfl ?_;refine⟨z<|G t,rfl,?_,(V.bW O).trans (AX K<|z<|G a)<|λaU hk=>.inr<|by omega⟩;exact P.ap (AX K<|z<|G a)<|λaU hk _=>hk▸⟨_,126,_,w,by decide⟩
