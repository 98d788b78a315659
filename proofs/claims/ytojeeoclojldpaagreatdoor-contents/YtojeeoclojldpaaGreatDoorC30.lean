import Derived.Test.YtojeeoclojldpaaGreatDoorC27
import Derived.Test.YtojeeoclojldpaaGreatDoorC29
open _root_ renaming List.length→y,Option.some→H,Array.size→z,Go.World.heap→G,Go.Value.ownBlock→bV,Go.World.cell?→aT,Go.World.setCell→bZ,Go.World.alloc→ct,Bool.false→bF,Bool.true→bW,Nat→M,Int→Z,Go.Calls→cy,Go.undef→iB,Go.Proofs.Tryz.prog→bG,Go.Value.slice→J,Go.Value.string→ai,Go.Value.bool→aL,Go.Value.tuple→dB,Go.Value.agg→eC
namespace Go.Proofs.YtojeeoclojldpaaGreatDoor
open ChangeShapes WideShapes RowKit Proofs.Tryz
set_option maxHeartbeats 16000000
set_option linter.all false
set_option maxRecDepth 100000
variable{a f C:I}{b c g l B P:M}{d:aa}{e:cA}{i p t u:cP}{j O:DK}{k:dW}{m:Z}{n:SR}
def Inv.mono{s v:cP}{d:M}{q:fS}(h:Inv a b n j e t u s v c l P k q)(w:c<=g)(m:g<=1000000)(r:P<=d)(o:d<=100000000):Inv a b n j e t u s v g l d k q:={h with st:={h.st with qI:=by have:=h.st.qI;omega,mJ:=m},nx:=by have:=h.nx;have:1000001*P<=1000001*d:=Nat.mul_le_mul_left _ r;omega,bn:=by have:=h.bn;omega,eM:=by have:=h.eM;omega,mJ:=o}
def Inv.fq{s s':SR}{A:fS}(h:Inv a b s j e i p t u c g l k A)(q:b<z (G a))(w:gw a f s.aN b j O)(x:vw O.files=vw j.files)(L:y O.eM<=y j.eM)(d:s'={s with km:=s'.km,kj:=s'.kj,closed:=s'.closed})(o:s'.km=bW->s.gB=bW):Inv f b s' O e i p t u c g l k A:=by
 have r:=(h.st.fq q w x).fields (s':=s') (by rw[d];exact⟨rfl,rfl,rfl,rfl,rfl⟩) (by rw[d]);have v:s'.next=s.next:=by rw[d]
 have B:s'.log=s.log:=by rw[d]
 have n:s'.gB=s.gB:=by rw[d]
 have m:s'.bC=s.bC:=by rw[d]
 have C:s'.iS=s.iS:=by rw[d]
 have D:s'.vG=s.vG:=by rw[d]
 have E:s'.mem=s.mem:=by rw[d]
 have F:s'.wH=s.wH:=by rw[d]
 have K:s'.aN=s.aN/\s'.lT=s.lT:=by rw[d];exact⟨rfl,rfl⟩
 exact⟨r,by rw[x,v,B,n];exact h.qX,h.pr,h.lp,by rw[m];exact h.mem,by rw[m];exact h.MF,h.VT,h.WT,(h.pV.fq w).fields K,by rw[m];exact h.Vr,by rw[m];exact h.BH,by rw[C];exact h.UX,by rw[D];exact h.vG,h.GK,by rw[v];exact h.nx,by rw[m];exact h.bn,by have:=h.eM;omega,by rw[E,F];exact h.TE,by rw[n];exact o,by rw[n];exact h.TX,h.mJ⟩
def Inv.safe{s:SR}{x:fS}(h:Inv a b s j e i p t u c g l k x)(r:bL a b s m):cy bG 53 #[aA b] a λB n=>B=aO .nilIface/\∃d,gw a n s.aN b j d/\vw d.files=vw j.files/\bL n b {s with km:=bF,kj:=bF} m/\Inv n b {s with km:=bF,kj:=bF} d e i p t u c g l k x:=by
 refine(Aj r h.st.aN h.st.rV h.st.lu.pow (by have:=h.qX.lt;have:=h.nx;have:=h.mJ;omega) (λq=>⟨_,h.qX.log<|h.loose q,by have:=h.QA.1;omega⟩) (by have:=h.eM;have:=h.mJ;omega)).mono ?_;rintro B n⟨rfl,d,v,w,A,o⟩;exact⟨rfl,d,v,w,o,h.fq (ak r) v w A rfl<|λq=>(by cases q)⟩
def ER{c:OS}(a:1<=c.key.size/\c.key.size<=8)(e:c.del=bF->c.val.size<=16)(b:0<=m)(d:m<18446744073709551616):(lV m c).Good:=by
 refine⟨a.1,a.2,?_,?_,b,d⟩
 .unfold lV;cases q:c.del with
  |true=>simp[ByteArray.size]
  |false=>simpa[q]using e q
 intro q;have f:c.del=bW:=q;simp[lV,f]
structure MD(w w':I)(sb:M)(s:SR)(k:Z)(K:DK)(C N:M)(sn:fS)(nb:M)(R0:Z->ab->Option ab)(s':SR)(K':DK)(m':cA)(a' b' c' d':cP)(tb':M)(ls':dW):Prop where
 box:bL w' sb s' k
 inv:Inv w' sb s' K' m' a' b' c' d' C tb' N ls' sn
 wI:∀t,(t∈so sn\/t=(nb:Z))->∀q,fV t (m'::cF a' b' c' d') q=R0 t q
 fq:gw w w' s.aN sb K K'
 same:s'.aN=s.aN/\s'.closed=s.closed/\s'.mem=s.mem/\s'.wH=s.wH/\s'.gZ=s.gZ/\s'.lT=s.lT
 BH:s'.bC=nb
def nG(w n:I)(a:M)(s:SR)(o:Z)(K:DK)(C N:M)(m:fS)(k:M)(e:Z->ab->Option ab):Prop:=∃l d j f g h i c b,MD w n a s o K C N m k e l d j f g h i c b
def nG.aw{x p w':I}{o:fS}{e:Z->ab->Option ab}(h:nG p w' b n m j c g o l e)(k:Y aB x p):nG x w' b n m j c g o l e:=by
 obtain⟨w,r,v,s,b',t,u,d,a,h⟩:=h;exact⟨w,r,v,s,b',t,u,d,a,h.box,h.inv,h.wI,⟨h.fq.ok,(k.mono (T:=λm=>j.bj n.aN m\/m=b) cG).trans h.fq.aw<|λ_ q=>.inl q,λm q=>(h.fq.bj m q).imp id<|λA=>aE k.size A⟩,h.same,h.BH⟩
def Inv.yl{d:fS}(o:Inv a b n j e i p t u c g l k d)(f:m∈so d\/m=(n.bC:Z))(q:ab):fV m (e::cF i p t u) q=fV m (gh d e []::cF i p t u) q:=by
 unfold fV;rw[show gh d e []=eE (so d) e from rfl,Is o.row<|f.imp_right (λr x h=>by rw[r];exact(o.MF x h).2)]
def wu(n:M)(a:cA):M:=if y a=0 then n else n+1
def VF{bq:cP}(B:fS){O:uz}(ao:Bool)(h:bL a b n m)(hV:Inv a b n j e p t u bq c g l k B)(hc:xV a d O)(cb:∀m,bV d=H m->m<z (G a))(h8:y O<=8)(hk:∀au∈O,1<=au.key.size/\au.key.size<=8)(hv:∀au∈O,au.del=bF->au.val.size<=16)(cj:∀au∈O,au.val.size<=140737488351232)(hC:c+y O<=1000000)(hN:l+1<=100000000):cy bG 44 #[aA b,d,aL ao] a λbk w'=>bk=aO .nilIface/\nG a w' b n m j (c+y O) (l+1) B (wu n.bC<|O.map<|lV<|(n.bC:Z)+1) (λbo=>fV bo<|gh B e (O.map<|lV<|(n.bC:Z)+1)::cF p t u bq):=by
 have ch:=ak h;have dn:=hV.bn;have N:=LY ((n.bC:Z)+1) hc cb (by omega)<|λau P=>⟨by have:=(hk au P).2;omega,cj au P⟩;obtain⟨o,S⟩:∃o,O.map (lV<|(n.bC:Z)+1)=o:=⟨_,rfl⟩;rw[S]at N|-;have bn:y o=y O:=by rw[<-S];simp
 have T:∀au∈o,au.Good:=λau P=>by rw[<-S]at P;obtain⟨bp,hy,rfl⟩:=aZ.1 P;exact ER (hk bp hy) (hv bp hy) (by omega)<|by omega
 have bf:∀au∈o,au.bI=(n.bC:Z)+1:=λau P=>by rw[<-S]at P;obtain⟨bp,hy,rfl⟩:=aZ.1 P;rfl
 obtain⟨ee,ed,cv⟩:=bM hc;subst cv;rw[<-bn]at N hC h8|-;have k9:=bL.cellAt h 9 rfl;have ec:IntKind.u64.wrap ((n.bC:Z)+1)=(n.bC:Z)+1:=by rw[gV];omega
 obtain⟨HH,HV,HG,bs⟩:=gx h hV T bf;have dx:y O=y o:=bn.symm;clear h hV T bf hc cb hk hv cj S bn;go_in
 go_wp2_with fail
 apply N.mono;rintro bk L⟨v1,rfl,bb,al⟩;obtain⟨x1,c1,cM⟩:=aC bb;subst cM;have bm:gw a L n.aN b j j:=⟨HV.st.aN.aw al<|λ_ _=>id,al.mono cG,λ_ q=>.inl q⟩;have ca:bL L b n m:=(al.block b ch id).trans HH;have bv:Inv L b n j e p t u bq c g l k B:=HV.fq ch bm rfl (ah _) rfl HV.loose;have hA1:∀q,bV (J x1 (y o) c1)=H q->Aside L j n.aN b q:=λq X=>by have f:=bb.lt q X;exact⟨f.2,λg=>by have:=HV.st.aN.lt q g;omega,by omega⟩
 obtain⟨bt,av,x,w,br,dc⟩:=kG bb al ca bv hA1 bm;clear bb al ca bv hA1 bm N HV HH;by_cases hz:y o=0
 .have f:o=[]:=aQ hz;have cB:¬(0:Z)<(y o:Z):=by omega
  cases ao with
  |true=>
   have ac:=w.safe x;go_wp2_with fail
   apply ac.mono;rintro bk w2⟨rfl,K2,F,r,E,D⟩;have HP:=U<|show nG L w2 b n m j (c+y o) (l+1) B (wu n.bC o) (λbo=>fV bo<|gh B e o::cF p t u bq)from⟨_,K2,e,p,t,u,bq,g,k,E,D.mono (by omega) hC (by omega) hN,λbo ht q=>by rw[f]at ht|-;exact D.yl ht q,F,⟨rfl,rfl,rfl,rfl,rfl,rfl⟩,by rw[f];rfl⟩;clear F r E D ac;go_wp2;go_ret;exact⟨rfl,HP.aw av⟩
  |false=>
   have HP:=U<|show nG L L b n m j (c+y o) (l+1) B (wu n.bC o) (λbo=>fV bo<|gh B e o::cF p t u bq)from⟨n,j,e,p,t,u,bq,g,k,x,w.mono (by omega) hC (by omega) hN,λbo ht q=>by rw[f]at ht|-;exact w.yl ht q,gw.refl w.st.aN,⟨rfl,rfl,rfl,rfl,rfl,rfl⟩,by rw[f];rfl⟩;go_wp2;go_ret;exact⟨rfl,HP.aw av⟩
 .have cB:(0:Z)<(y o:Z):=by omega
  have k8:=bL.cellAt x 8 rfl;have k3:=bL.cellAt x 3 rfl;have cl:aT L (R b 19)=H (aL bF):=by rw[<-(ae w).vG];exact x.cell rfl
  have k7:∃mx mc,n.memory=J mx (y e) mc:=by
   obtain⟨au,u,bk⟩:=bM w.st.mem;exact⟨au,u,bk⟩
  obtain⟨mx,mc,ce⟩:=k7;have k7:aT L (R b 7)=H (J mx (y e) mc):=by rw[<-ce];exact x.cell rfl
  have k9:=bL.cellAt x 9 rfl;have dv:n.iS<32:=by rw[(ae w).UX];exact w.lp.sum
  have eb:IntKind.i64.wrap ((n.iS:Z)+(y o:Z))=(n.iS:Z)+(y o:Z):=by rw[bQ];omega
  clear ce;by_cases cx:n.mem<=(n.iS:Z)+(y o:Z)
  .go_wp2_with fail
   go_quiet(fail)
   go_wp2_with fail
   obtain⟨f,hU⟩:∃f,L.drewN nq=f:=⟨_,rfl⟩;have A:Y aB L f:=by rw[<-hU];exact ia _ _ _
   have K:gw L f n.aN b j j:=⟨w.st.aN.aw A<|λ_ _=>id,A.mono cG,λ_ q=>.inl q⟩;have C:bL f b n m:=(A.block b (ak x) id).trans x;have s:Inv f b n j e p t u bq c g l k B:=w.fq (ak x) K rfl (ah _) rfl w.loose;have Q:∀q,bV (J x1 (y o) c1)=H q->Aside f j n.aN b q:=λq X=>(br q X).fq K;have W:=A.own bt<|λ_ _ q=>q;have ax:=U<|av.ci A;rw[hU];clear hU;have dT:=s.VR;have bg:wu n.bC o=n.bC+1:=by unfold wu;rw[cW hz]
   have cd:gw f f.drew n.aN b j j:=qO s.st.aN<|below_drewN (Below.refl _ f) 1;obtain⟨mb,m1,m2,m3⟩:=(s.pV.fq cd).ex;have bi:=AT b n m B (J x1 (y o) c1) o (by exact C) m1 m2 s.pV.len (by exact s.st.mem) (λq X=>(s.st.sV q X).lt) (dH<|by exact W) (λq X=>(Q q X).lt) s.st.mq (by omega);have ck:cy bG 72 #[aA b,J x1 (y o) c1] f.drew λbk w'=>∃a,bk=aO a/\w'.ownsRow (z<|G f) 164 4 a (y<|gh B e o) (aF<|gh B e o)/\Y aB f.drew w':=bi;clear bi m1 m2 m3 cd;have bh:∀w6 v6,w6.ownsRow (z<|G f) 164 4 v6 (y<|gh B e o) (aF<|gh B e o)->Y aB f.drew w6->cy bG 71 #[aA b,v6,aH<|(n.bC:Z)+1] w6 λbk w'=>bk=aO .nilIface/\nG w6 w' b n m j (c+y o) (l+1) B (wu n.bC o) (λbo=>fV bo<|gh B e o::cF p t u bq):=λw6 v6 V an=>by
    have ad:Y aB f w6:=(cf aB f).ci an;have cc:gw f w6 n.aN b j j:=⟨s.st.aN.aw ad<|λ_ _=>id,ad.mono cG,λ_ q=>.inl q⟩;have r:=s.fq (ak C) cc rfl (ah _) rfl s.loose;have cu:bL w6 b n m:=(ad.block b (ak C) id).trans C;have ea:=ya B e o;obtain⟨n1,n2,n3⟩:=r.Ei HG bs;have ds:=r.BH;have cE:=DA v6 (c+y o) (n.bC+1) cu r.st r.GK r.pr (dH V) (λq X=>(V.lt q X).2) (xZ r.st.mq B o) (xY r.st.mq r.pV.len o) n1 (by omega) (λau P=>(n2 au P).1) (λau P=>by have:=(n2 au P).2;push_cast;exact this) (by omega) (by have:=r.st.qI;omega) hC r.TE.2.2.1 r.qX r.QA.1 (by omega) (by have:=r.nx;have:=r.mJ;omega) (by have:=r.eM;have:=r.mJ;omega) B r.pV;apply cE.mono;rintro bk w'⟨rfl,v0,v1,v2,v3,K',num,a',b',c',d',hO⟩;exact⟨rfl,_,K',[],a',b',c',d',n.bC+1,[],hO.box,hO.inv r.TE r.nx (by omega) hN r.pV r.Vr (by omega),λbo ht q=>by rw[sN];exact hO.wI bo (ht.imp_right (λbk=>by rw[bk,bg];push_cast;omega)) q,hO.fq,⟨rfl,rfl,rfl,rfl,rfl,rfl⟩,bg.symm⟩
   have db:=bL.cellAt C 9 rfl;obtain⟨co,bu,cm,dd⟩:=gx ck bh s C;clear ck bh s C Q W K A k7 k8 k9 k3 cl;rename_i KK bT;have ba:aT f.drew (R b 9)=H (aH n.bC):=db;refine oq (λ(bl:I)=>aT bl (R b 9)=H (aH n.bC)) 9 (by kernel_rfl) ?_;refine uL 0 ?_;iterate 3 (refine AR (v:=?_) ba rfl (by kernel_rfl) jU rfl ?_ ?_;rotate_left;(focus(rintro bl z9;go_simp;try rfl));simp only[Act.put,du,Nat.reduceAdd])
   apply AQ;refine uL 4 ?_;iterate 5 (refine AR (v:=?_) ba rfl (by kernel_rfl) jU rfl ?_ ?_;rotate_left;(focus(rintro bl z9;go_simp;try rfl));simp only[Act.put,du,Nat.reduceAdd])
   apply AQ;refine dM (i:=3) rfl rfl (by kernel_rfl) ?_;intro K6 bx;go_simp;apply co.mono;rintro bk w6⟨v6,rfl,V,an⟩;obtain⟨x6,c6,cT⟩:=aC V;subst cT;have cs:aT w6 (R b 9)=H (aH n.bC):=an.cell ba id<|qZ ba;refine bx _ _ (λ_=>cs) ?_;clear bx;try simp only[Act.put,du]
   refine dM (i:=9) rfl rfl (by kernel_rfl) ?_;intro dk bc;go_simp;apply(bu w6 _ V an).mono;rintro bk w7⟨rfl,cp⟩;have cn:=U cp;refine bc _ _ (λq=>by omega) ?_;clear bc;try simp only[Act.put,du]
   refine dM (i:=10) rfl rfl (by kernel_rfl) ?_;intro dm bd;go_simp;refine bd _ _ (λq=>by omega) ?_;refine ki (by kernel_rfl) ?_ _;show KK _ _;apply bT;clear bT bd;go_wp2;go_ret;exact⟨rfl,cn.aw<|(ax.ci<|cf aB f).ci an⟩
  .go_wp2_with fail
   go_quiet(fail)
   go_wp2_with fail
   obtain⟨f,hU⟩:∃f,L.drewN nq=f:=⟨_,rfl⟩;have A:Y aB L f:=by rw[<-hU];exact ia _ _ _
   have K:gw L f n.aN b j j:=⟨w.st.aN.aw A<|λ_ _=>id,A.mono cG,λ_ q=>.inl q⟩;have C:bL f b n m:=(A.block b (ak x) id).trans x;have s:Inv f b n j e p t u bq c g l k B:=w.fq (ak x) K rfl (ah _) rfl w.loose;have Q:∀q,bV (J x1 (y o) c1)=H q->Aside f j n.aN b q:=λq X=>(br q X).fq K;have W:=A.own bt<|λ_ _ q=>q;have ax:=U<|av.ci A;rw[hU];clear hU;have r:=Ns B C s (dH W) Q (by omega) h8 HG bs (by have:=s.TE;omega) hC hN;have cm:=U s;clear s C Q W K A k7 k8 k9 k3 cl;apply r.mono;rintro bk w2⟨rfl,bg,bd,K2,E,D,F⟩;cases ao with
   |true=>
    have ac:=D.safe E;have ba:=U F;clear r E D F;go_wp2_with fail
    apply ac.mono;rintro bk w3⟨rfl,K3,ad,bc,V,an⟩;have HP:=U<|show nG f w3 b n m j (c+y o) (l+1) B (wu n.bC o) (λbo=>fV bo<|gh B e o::cF p t u bq)from⟨_,K3,_,p,t,u,bq,g,_,V,an,λ_ _ _=>rfl,ba.trans ad,⟨rfl,rfl,rfl,rfl,rfl,rfl⟩,by unfold wu;rw[cW hz];rfl⟩;clear ad bc V an ac;go_wp2;go_ret;exact⟨rfl,HP.aw ax⟩
   |false=>
    have HP:=U<|show nG f w2 b n m j (c+y o) (l+1) B (wu n.bC o) (λbo=>fV bo<|gh B e o::cF p t u bq)from⟨_,K2,_,p,t,u,bq,g,_,E,D,λ_ _ _=>rfl,F,⟨rfl,rfl,rfl,rfl,rfl,rfl⟩,by unfold wu;rw[cW hz];rfl⟩;clear r E D F;go_wp2;go_ret;exact⟨rfl,HP.aw ax⟩
section
open Go.Conc.Locks
def Js{a:uz}(h:lL a=0):(∀x∈a,1<=x.key.size/\x.key.size<=8)/\∀x∈a,x.del=bF->x.val.size<=16:=by
 induction a with
 |nil=>simp
 |cons j r f=>
  unfold lL at h;split at h
  .cases h
  .rename_i k;split at h
   .cases h
   .rename_i d;obtain⟨g,i⟩:=f h;constructor
    .intro x c;rcases az.1 c with e|e
     .rw[e];omega
     .exact g x e
    .intro x c b;rcases az.1 c with e|e
     .rw[e]at b|-;have:¬16<j.val.size:=λg=>d ⟨b,g⟩;omega
     .exact i x e b
def Cy{a:uz}(h:fY a=0):y a<=8/\(∀x∈a,1<=x.key.size/\x.key.size<=8)/\∀x∈a,x.del=bF->x.val.size<=16:=by
 unfold fY at h;split at h;cases h;rename_i b;exact⟨by omega,Js h⟩
def Se(h:bL a b n m):cy bG 43 #[aA b,.nilIface] a λg e=>g=aO .nilIface/\Below (z<|G<|bZ a (R b 6) .nilIface) (bZ a (R b 6) .nilIface) e:=by
 have i:=bL.cellAt h 6 rfl;have j:a.frozen? (R b 6)=bF:=h.free;have d:=GY<|bZ a (R b 6) .nilIface;clear h;go_in
 go_wp2_with fail
 apply d.mono;rintro g e⟨rfl,c⟩;have f:=U c;clear c d;go_wp2;go_ret;exact⟨rfl,f⟩
def zK(r:aa)(g:Bool)(h:bL a b n 0)(m:n.closed=bW):cy bG 12 #[aA b,r,aL g] a λo l=>o=aO (lE 6)/\bL l b n 0/\Y (λv=>v=b) a l:=by
 have q:=bL.cellAt h 0 rfl;have t:a.frozen? (R b 0)=bF:=h.free;have k:=h.gO 1;have c:=iZ k;rw[m]at c;simp only[je]at c;have p:=U<|λi j=>rl (W2:=i) k ((Y.refl (λv=>v=b) a).setCell b 0 _<|.inl rfl) j;clear h k m;rw[xL]at c|-;go_enter_defers func12,ntmps12
 go_wp2_with fail
 apply(lock_free (R b 0) _ q t).mono;rintro o l⟨rfl,rfl⟩;go_wp2_with fail
 apply c.mono;rintro o i⟨rfl,j⟩;obtain⟨s,u,d⟩:=p i j;have e:=U d;clear d j c;go_wp2;refine eY (f:=40) (args:=#[aA b]) (by simp) (by simp[go_sem]) ?_;apply(unlock_deferred (R b 0) .returning _ s u).mono;rintro o x w⟨rfl,rfl,rfl⟩;exact⟨_,gK rfl _ _ _,rfl,e⟩
def lw(a:uz):M:=if fY a=0 then y a else 0
def yP(n:M)(a:uz):M:=if fY a=0 then wu n (a.map<|lV<|(n:Z)+1)else n
def xe(c:fS)(m:cA)(a:dW)(n:Z)(b:uz)(t:Z):ab->Option ab:=if fY b=0 then fV t (gh c m (b.map<|lV n)::a)else fV t (m::a)
def MD.fin{E:fS}{D:Z->ab->Option ab}{r:SR}(h:MD a f b n 1 j c g E l D r O e i p t u B k)(s:Below (z<|G<|bZ f (R b 6) .nilIface) (bZ f (R b 6) .nilIface) C):aT C (R b 0)=H (jk 1)/\C.frozen? (R b 0)=bF/\MD a (bZ C (R b 0)<|jk 0) b n 0 j c g E l D r O e i p t u B k:=by
 have o:¬O.bj n.aN b:=by have:=h.inv.st.rV;rw[h.same.1]at this;exact this
 have A:=ak h.box;have v:bL (bZ f (R b 6) .nilIface) b r 1:=(aR h.box).trans rfl;have d:bL C b r 1:=v.aw (Y.aW (S:=aB) s) id;have m:=h.fq.set o 6 .nilIface;have w:=(m.trans<|qO (sbqq:=b) m.ok s).set o 0<|jk 0;have q:=(gw.refl h.inv.st.aN (sbqq:=b)).set h.inv.st.rV 6 .nilIface;have x:gw f (bZ C (R b 0)<|jk 0) r.aN b O O:=(q.trans<|qO (sbqq:=b) q.ok s).set h.inv.st.rV 0<|jk 0;exact⟨d.cell rfl,d.free,d.gO 0,h.inv.fq A x rfl (ah _) rfl h.inv.loose,h.wI,w,h.same,h.BH⟩
def Dg(T:fS){o:uz}(P:Bool)(h:bL a b n 0)(hV:Inv a b n j e i p t u c g l k T)(bf:n.closed=bF)(hc:xV a d o)(ac:∀O,bV d=H O->O<z (G a)/\O≠b)(hz:∀bm∈o,bm.key.size<=140737488351232/\bm.val.size<=140737488351232)(hr:y o<=1000000000)(hC:c+lw o<=1000000)(hN:l+1<=100000000):cy bG 12 #[aA b,d,aL P] a λan C=>an=aO (lE<|fY o)/\nG a C b n 0 j (c+lw o) (l+1) T (yP n.bC o) (xe T e (cF i p t u) ((n.bC:Z)+1) o):=by
 have bh:=ak h;have c0:=bL.cellAt h 0 rfl;have f0:a.frozen? (R b 0)=bF:=h.free;have F:=kX hV.st.aN hV.st.rV 1;have h1:=h.gO 1;have A:=hV.fq bh F rfl (ah _) rfl hV.loose;have av:Y (λO=>O=b) a (bZ a (R b 0)<|jk 1):=(Y.refl (λO=>O=b) a).setCell b 0 _<|.inl rfl;have X:xV (bZ a (R b 0)<|jk 1) d o:=av.row hc<|λO B=>⟨(ac O B).2,(ac O B).1⟩;have r:∀O,bV d=H O->O<z (G<|bZ a (R b 0)<|jk 1):=λO B=>by rw[gz];exact(ac O B).1
 generalize hW:bZ a (R b 0) (jk 1)=Q at F h1 A av X r;have N:=iZ h1;rw[bf]at N;have al:cy bG 41 #[aA b] Q λan C=>an=aO .nilIface/\Below (z<|G Q) Q C:=N;have s:∀Wr,Y aB Q Wr->cy bG 42 #[d] Wr λan C=>an=aO (lE<|fY o)/\Y aB Wr C:=λWr a=>Li (a.row X<|λO B=>⟨id,r O B⟩) (λO B=>ag (r O B) a.size) (by omega) hz;have K:fY o=0->∀x,Y aB Q x->cy bG 44 #[aA b,d,aL P] x λan C=>an=aO .nilIface/\nG a C b n 1 j (c+lw o) (l+1) T (yP n.bC o) (xe T e (cF i p t u) ((n.bC:Z)+1) o):=λw x m=>by obtain⟨q1,q2,q3⟩:=Cy w;have ad:gw Q x n.aN b j j:=⟨A.st.aN.aw m<|λ_ _=>id,m.mono cG,λ_ q=>.inl q⟩;have bd:=A.fq (ak h1) ad rfl (ah _) rfl A.loose;have D:bL x b n 1:=(m.block b (ak h1) id).trans h1;(have bc:lw o=y o:=by unfold lw;rw[dw w]);(have bi:xe T e (cF i p t u) ((n.bC:Z)+1) o=λbn=>fV bn (gh T e (o.map<|lV<|(n.bC:Z)+1)::cF i p t u):=by funext bn;unfold xe;rw[dw w]);(have bg:yP n.bC o=wu n.bC (o.map<|lV<|(n.bC:Z)+1):=by unfold yP;rw[dw w]);rw[bc,bi,bg];refine(VF T P D bd (m.row X<|λO B=>⟨id,r O B⟩) (λO B=>ag (r O B) m.size) q1 q2 q3 (λbm hx=>(hz bm hx).2) (by rw[<-bc];exact hC) hN).mono ?_;rintro an C⟨rfl,s',K',m',a',b',c',d',bb,ba,S⟩;exact⟨rfl,s',K',m',a',b',c',d',bb,ba,S.box,S.inv,S.wI,(F.trans ad).trans S.fq,S.same,S.BH⟩
 have L:fY o≠0->∀x,Y aB Q x->aT x (R b 0)=H (jk 1)/\x.frozen? (R b 0)=bF/\nG a (bZ x (R b 0)<|jk 0) b n 0 j (c+lw o) (l+1) T (yP n.bC o) (xe T e (cF i p t u) ((n.bC:Z)+1) o):=λw x m=>by have ad:gw Q x n.aN b j j:=⟨A.st.aN.aw m<|λ_ _=>id,m.mono cG,λ_ q=>.inl q⟩;have D:bL x b n 1:=(m.block b (ak h1) id).trans h1;have bc:=(F.trans ad).set hV.st.rV 0<|jk 0;refine⟨D.cell rfl,D.free,n,j,e,i,p,t,u,g,k,D.gO 0,(hV.fq bh bc rfl (ah _) rfl hV.loose).mono (by omega) hC (by omega) hN,λbn _ q=>by unfold xe;rw[cW w],bc,⟨rfl,rfl,rfl,rfl,rfl,rfl⟩,by unfold yP;rw[cW w]⟩
 obtain⟨cx,cc,bk⟩:=bM hc;subst bk;obtain⟨ao,au,HW,V⟩:=gx K L hW s;clear h hV F h1 A bf hW K L hc ac X r av hz N s;by_cases w:fY o=0;(.have K:=ao w;(have W:lE (fY o)=.nilIface:=by rw[w];rfl);rw[W]at V|-;clear ao au w;(go_enter_defers func12,ntmps12);(go_wp2_with fail);apply(lock_free (R b 0) _ c0 f0).mono;rintro an C⟨rfl,ax⟩;rw[ae HW]at ax;subst C;(go_wp2_with fail);apply al.mono;rintro an Wr⟨rfl,E⟩;have v:Y aB Q Wr:=Y.aW E;have s:=V Wr v;clear E al;(go_wp2_with fail);apply s.mono;rintro an w2⟨rfl,m⟩;have hd:=K w2<|v.ci m;clear K s m v;(go_wp2_with fail);apply hd.mono;rintro an w3⟨rfl,s',K',m',a',b',c',d',bb,ba,S⟩;have bg:=Se S.box;have HO:=U S;clear S hd;(go_wp2_with fail);apply bg.mono;rintro an w4⟨rfl,bd⟩;obtain⟨d0,g0,bc⟩:=HO.fin bd;have bi:=U bc;clear bc bd bg;go_wp2;refine eY (f:=40) (args:=#[aA b]) (by simp) (by simp[go_sem]) ?_;apply(unlock_deferred (R b 0) .returning _ d0 g0).mono;rintro an u' bl⟨rfl,rfl,rfl⟩;exact⟨_,gK rfl _ _ _,rfl,s',K',m',a',b',c',d',bb,ba,bi⟩);have L:=au w;obtain⟨bc,hn⟩:∃bc,fY o=bc:=⟨_,rfl⟩;(have W:lE (fY o)=.iface 55 (ap bc):=by unfold lE;rw[cW w,hn]);rw[W]at V|-;clear ao au w hn W;(go_enter_defers func12,ntmps12);(go_wp2_with fail);apply(lock_free (R b 0) _ c0 f0).mono;rintro an C⟨rfl,ax⟩;rw[ae HW]at ax;subst C;(go_wp2_with fail);apply al.mono;rintro an Wr⟨rfl,E⟩;have v:Y aB Q Wr:=Y.aW E;have s:=V Wr v;clear E al;(go_wp2_with fail);apply s.mono;rintro an w2⟨rfl,m⟩;obtain⟨d0,g0,hP⟩:=L w2<|v.ci m;have HP:=U hP;clear L s m v hP;go_wp2;refine eY (f:=40) (args:=#[aA b]) (by simp) (by simp[go_sem]) ?_;apply(unlock_deferred (R b 0) .returning _ d0 g0).mono;rintro an u' bl⟨rfl,rfl,rfl⟩;exact⟨_,gK rfl _ _ _,rfl,HP⟩
end
section
open Go.Shelf
attribute [local go_sem] Oper.semAt_some
def nJ(n:Z)(b:pD a):cy bG 15 #[lE n] a λe c=>e=aO (ap n)/\Below (z<|G a) a c:=by
 unfold lE;split;rename_i h;subst h;exact JZ a;exact MP n b
def Wp(w:I)(c:OS):xV (ct w<|ar #[ai c.key,ai c.val,aL c.del] 42) (bD (z<|G w) 0 1 1) [c]:=by
 have h:(ct w<|ar #[ai c.key,ai c.val,aL c.del] 42).heap[z<|G w]?=H (ar #[ai c.key,ai c.val,aL c.del] 42 (0,0)):=aD _ rfl;refine⟨rfl,.inr ⟨z<|G w,0,1,rfl,ah _,λj u a=>?_⟩⟩;rw[bN h,cQ];simpa[eO,oD]using a
def LA(b:I)(a:M)(c:iH)(B:fJ)(W:I):Prop:=Acc (λk=>k=a) b [] (z<|G b) 37 68 2 (z (G b)+1) (y c) (ib c) B W
def GG(an:I)(a:M)(fl:SR)(lo hi:ab)(E:iH)(L N:ab)(K:Bool)(et:Z)(fn:I->Prop)(dm:SR->I->Prop)(F0:fJ)(fk:a<z (G an))(hF:∀k,F0 k->k<z (G an))(hA:∀W,Y aB an W->z (G W)=z (G an)+1->cy bG 64 #[aA a,ai lo,ai hi] W λbg Q=>∃eo bt bs,bg=aO eo/\MB W Q a eo E bt bs/\Y F0 W Q/\fn Q)(hW:∀s W cB,fn s->Y aB s W->xV W (bD cB 0 1 1) [⟨L,N,K⟩]->cB<z (G W)->cB≠a->cy bG 12 #[aA a,bD cB 0 1 1,aL bF] W λbg Q=>bg=aO (lE et)/\∃d,bL Q a d 0/\d.closed=fl.closed/\Y F0 W Q/\dm d Q)(hQ:∀d W W',dm d W->Y (λk=>k=a) W W'->bL W' a d 0->dm d W')(hE:∀d W,dm d W->pD W)(cn:fl.closed=bW->E=[])(ei:y E<=1000000000):cy bG 63 #[aA a,ai lo,ai hi,eC #[ai L,ai N,aL K]] an λbg Q=>∃v' d,bg=aO (dB #[v',ap et])/\yX an Q v' E/\dm d Q:=by
 obtain⟨i0,ed,el,em,en⟩:=cz xF;have cp:∀d:SR,d.closed=fl.closed->(if d.closed=bW then []else E)=E:=by intro d bg;split;rename_i h;rw[bg]at h;rw[cn h];rfl
 have X:Y aB an (ct an<|ar #[ai L,ai N,aL K] 42):=(Y.refl aB an).alloc _;have bf:(ct an<|ar #[ai L,ai N,aL K] 42).heap[z<|G an]?=H (ar #[ai L,ai N,aL K] 42 (0,0)):=aD _ rfl;have x:z (G<|ct an<|ar #[ai L,ai N,aL K] 42)=z (G an)+1:=by simp
 have cc:=hA _ X x;obtain⟨dd,HX,HW,HQ,HE,HF⟩:=kG cp (And.intro X (And.intro bf x)) hW hQ hE hF;clear cp X bf x hA hW hQ hE cn hF;refine(cX (n:=3)).1 ?_;refine callsIn_of_wp_marks func63 rfl trivial ?_ rfl;simp only[ntmps63,eR,ay,cL,Nat.reduceAdd,Nat.reduceSub,dS,dR,eS,er,cC,cq];gi_wp2_with(refine⟨trivial,?_⟩;gi_at_call 64;refine(cX.2 cc).mono ?_;rintro bg p⟨v2,bt,bs,rfl,ec,e,bx⟩;obtain⟨ek,⟨u2,ck,u⟩,ch,co⟩:=ec;subst ek;have ac:=(e.block _ (ak HX.2.1) (λj=>by have:=HF _ j;omega)).trans HX.2.1;have k0:aT p (R (z<|G an) 0)=H (ai L):=(by rw[bN ac];rfl);have k1:aT p (R (z<|G an) 1)=H (ai N):=(by rw[bN ac];rfl);have k2:aT p (R (z<|G an) 2)=H (aL K):=(by rw[bN ac];rfl);have bk:=U ck;have cT:=U u;have bi:=U ch;have db:=U co;have bm:=U e;have dk:=U bx;clear ck u ch co e bx cc ac)
 gi_wp2_with(refine⟨trivial,?_⟩;gi_at_call 12;refine(cX.2<|HW p (ct p<|ar #[ai L,ai N,aL K] 42) (z<|G p) dk ((Y.refl aB p).alloc _) (Wp p ⟨L,N,K⟩) (by simp) (by have:=bm.size;have:=HX.2.2;omega)).mono ?_;rintro bg f⟨rfl,d,cd,cm,cu,bT⟩;have eg:∃ev eq,lE et=ev/\ev=eq:=⟨_,_,rfl,rfl⟩;have bh:=U cd;have cM:=U cm;have bo:=U cu;have bl:=U bT;clear cd cm cu bT k0 k1 k2 eg)
 obtain⟨X,bf,x⟩:=ae HX;have e:=ae bm;have hF:=ae HF;have fe:=e.size;have ef:=bo.size;simp at ef;obtain⟨fb,ey⟩:=ae db;have au:bt<z (G p)/\bs<z (G p):=⟨ak bk,ak bi⟩;have cs:Y F0 p f:=((Y.refl F0 p).alloc<|ar #[ai L,ai N,aL K] 42).trans bo<|λ_ j=>.inl j;have bc:∀k,z (G an)<=k->¬F0 k:=λk c j=>by have:=hF k j;omega
 have u:=ae cT;have v:∀k,bV u2=H k->z (G an)+1<=k/\k<z (G p):=λk c=>by have:=u.lt k c;rw[x]at this;exact this
 obtain⟨F,T⟩:∃F,ct f (ar #[aK] 37)=F:=⟨_,rfl⟩;have B:Y aB f F:=by rw[<-T];exact(Y.refl aB f).alloc _
 have eb:dV F (z<|G f) aK 37:=by rw[<-T];exact aD _ rfl
 have ff:z (G F)=z (G f)+1:=by rw[<-T];simp
 have A:Y F0 p F:=cs.ci B;have cl:dV F bt u2 37:=(A.block _ au.1<|bc _<|by omega).trans bk;have cj:dV F bs (aA a) 35:=(A.block _ au.2<|bc _<|by omega).trans bi;have ee:=dH<|A.own u<|λk c j=>bc k (by have:=(v k c).1;omega) j;have ea:bL F a d 0:=(B.block a (ak bh) id).trans bh;have dv:LA f a [] (λk=>k=z (G f)) F:=by refine⟨λp a=>by simp at a,⟨aK,eb,bK _ _ _ _,λk=>by simp[bV]⟩,λp a=>by simp at a,⟨ah _,by omega⟩,B.mono cG⟩
 have w:=Hw (z<|G f) 2 a d E cl cj ee (by omega) (by omega) (λk c=>⟨by have:=(v k c).2;omega,by have:=(v k c).1;omega⟩) (by omega) (by omega) ei;rw[(ae dd) d<|ae cM]at w;rw[T];refine BS (m:=3) (V:=Sc a d) (n0:=z<|G f) (gf:=107) (lb:=#[aA bt,aA bs]) (l:=E) (S:=λk=>k=bt\/k=bs\/bV u2=H k) ?geval (enters_of func107 (by kernel_rfl) rfl) (λ_=>rfl) w ea (by omega) ?slt (λb cx W=>LA f a b cx W) (λ_ _ _ _=>False) (λk=>k=z (G f)) dv ?sb ?lt ?st (λ_ _ _ _ _ _ h=>h.elim) ?body ?done ?stop;case geval=>rfl
 (case slt=>rintro k(j|j|j);omega;omega;have:=(v k j).2;omega);(case sb=>rintro k(j|j|j)dn;omega;omega;have:=(v k j).2;omega);(case lt=>intro b cx W h k c;exact h.lt k c);(case st=>intro b cx W W' fr h o n;refine h.stays o<|λk c=>⟨(n k c).1,?_⟩;rcases(n k c).2 with j|j;exact .inl j;exact .inr<|by omega);(case stop=>intro cE j b cx W _ h;exact h.elim)
 case body=>
  intro lr b ev cx W fd bp ej av hC t;obtain⟨xk,xv⟩:=ev;have dT:y b+1<=1000000000:=by
   have h1:=av.length_le;simp at h1;omega
  have HC:=U hC;have q:=U t;clear hC t av;unfold PK;simp only;gi_wp2;refine⟨Y.refl _ _,λs e=>?_⟩;have ba:LA f a b cx s:=HC.stays e (λk c=>by subst c;exact⟨bp,.inr<|by omega⟩);obtain⟨eo,hv,g,C⟩:=ba.row;have bb:aT s (R (z<|G f) 0)=H eo:=hv.cell;have ex:s.frozen? (R (z<|G f) 0)=bF:=hv.free;have ao:z (G f)<z (G s):=ak hv;obtain⟨P,O,bd⟩:=aC g;obtain⟨bv,HV,r,ax⟩:=gx ba hv g C;have bn:=U e;clear ba hv g C e;subst bd;gi_wp2_with(first
   |(gi_at_builtin;refine dY _ rfl (.tmp 26) (.tmp 30) 37 rfl (z (G f)+1) 68 i0 (.agg #[.string ⟨#[]⟩,.string ⟨#[]⟩]) 2 32 underlying37 ed el em en rfl (by decide) (.slice P (y b) O) (y b) (ib b) rfl (aS r (.cells #[.string xk,.string xv] 68)) (R (z (G s)) 0) 1 1 (qg (xk,xv)) rfl rfl (NV _ (xk,xv) _) (Xl _) (by omega) (by omega) (by simp;omega) ?_;intro v2 w3 n D;obtain⟨al,ad,rfl⟩:=aC n;have o:dV w3 (z (G f)) (.slice P (y b) O) 37:=(D.grown.block _ (ak (HV.alloc (.cells #[.string xk,.string xv] 68))) (λj=>by have:=(r.lt _ j.symm).1;omega)).trans (HV.alloc _);have ds:=o.cell;have dx:=o.free;have es:=ak o;clear o;have ca:=U n;have cb:=U D;clear n D))
  have g:=ae r;have bu:=ae cb;have dc:Y (λk=>bV (J P (y b) O)=H k) s w3:=((Y.refl (λk=>bV (J P (y b) O)=H k) s).alloc<|ar #[ai xk,ai xv] 68).trans (Y.dN (S:=λk=>bV (J P (y b) O)=H k) bu.grown<|λk c=>.inl c)<|λk c=>.inl c;have cv:bV (J al (y b+1) ad)=bV (J P (y b) O)\/∃eu,bV (J al (y b+1) ad)=H eu/\z (G s)<=eu:=by
   rcases bu.uc with dn|⟨eu,dn,hg⟩
   .exact .inl dn
   .exact .inr ⟨eu,dn,by simp at hg;omega⟩
  obtain⟨B',q1,q2,q3⟩:=bv.more HV ax g dc cv ca;have ce:LA f a (b++[(xk,xv)]) B' (bZ w3 (R (z<|G f) 0)<|J al (y b+1) ad):=by
   unfold LA;rw[EF,af];exact q1
  have e:=ae bn;have bq:Y (λk=>cx k\/k=lr) W (bZ w3 (R (z<|G f) 0)<|J al (y b+1) ad):=(e.mono (T:=λk=>cx k\/k=lr)<|λk c=>.inl<|.inr c).trans q2<|λk c=>.inl<|.inl c;have br:∀k,(cx k\/k=lr)->k≠a:=λk c j=>by
   rcases c with dn|dn
   .have:=(HC.lt k dn).1;omega
   .omega
  exact⟨(Sc a d).fi q bq<|λk c j=>br k c j,B',ce,bq,q2.block lr (by have:=e.size;omega) bp,λk c=>(q3 k c).imp_right (λj=>by have:=e.size;omega)⟩
 (case done=>intro cE cx W es hC ds t hK;obtain⟨eo,hv,g,C⟩:=hC.row;have bb:aT W (R (z<|G f) 0)=H eo:=hv.cell;have ao:=ak hv;obtain⟨P,O,bd⟩:=aC g;obtain⟨HC,r,ax,q,HK⟩:=jP hC g C t hK;clear hC hv g C t hK;subst bd;have ca:dm d W:=HQ d f W bl HC.aw q;have bn:pD W.drew:=show pD W from HE d W ca;have cv:=nJ et bn;have cb:aT W.drew (R (z<|G f) 0)=H (J P (y E) O):=bb;clear ca bn;(gi_wp2_with fail);rename_i QQ KK bv;refine wpIn_mono (Q:=Exit.then KK (λ_ _ _=>False)) ?_ (by intro bg a1 W1 hh;cases bg<;>first|exact hh|exact hh.elim);refine AO (λba=>aT ba (R (z<|G f) 0)=H (J P (y E) O)) 4 (by kernel_rfl) (by kernel_rfl) (λeu an h=>h) ?_;refine dA 0 ?_;(iterate 2 (refine fw (v:=?_) cb rfl (by kernel_rfl) jU rfl ?_ ?_;rotate_left;(focus(intro ba hX;go_simp;try rfl));simp only[Act.put,du,Nat.reduceAdd]));apply eX;refine aP (i:=2) rfl rfl (by kernel_rfl) ?_;intro K2 bp;go_simp;apply cv.mono;rintro bg w5⟨rfl,ce⟩;have n:Y aB W w5:=(cf aB W).ci<|Y.aW (S:=aB) ce;have D:=n.cell bb id ao;refine bp _ _ (λ_=>D) ?_;(try simp only[Act.put,du]);refine aP (i:=3) rfl rfl (by kernel_rfl) ?_;intro K3 bq;go_simp;refine bq _ _ (λ_=>D) ?_;(try simp only[Act.put,du]);refine aP (i:=4) rfl rfl (by kernel_rfl) ?_;intro K4 br;go_simp;refine br _ _ yR ?_;refine dp (by kernel_rfl) ?_ _;show KK _ _;apply bv;have o:bL w5 a d 0:=(n.block a (ak q) id).trans q;have bu:w5.heap[cE]?=H (.deferred<|H []):=(n.block cE (ak HK) id).trans HK;obtain⟨al,dc,av⟩:=dC o bu n;clear bv bp bq br o bu n D cb cv ce;gi_wp2;have hB:=ae ax;have n3:¬bV (J P (y E) O)=H cE:=λj=>ds<|(hB _).2<|.inr<|.inr j;have ad:=gD w5 cE<|.deferred none;(have dx:cE≠a:=by omega);have dT:bL (w5.putObj cE<|.deferred none) a d 0:=(ad.block a (ak al)<|λj=>dx j.symm).trans al;have ej:Y (λk=>k=a) f (w5.putObj cE<|.deferred none):=(HC.aw.ci av).trans ad (λk c=>by subst c;exact .inr<|by omega);refine⟨by simp,.inl ⟨_,_,rfl,run_takeDeferred dc,?_⟩⟩;refine⟨_,kP rfl _ _ _,_,d,rfl,?_,HQ d f _ bl ej dT⟩;have g:=av.own r<|λ_ _ j=>j;exact eQ (ad.own g (λk c j=>by subst j;exact n3 c))<|by omega)
end
def pD.aw{S:fJ}{w w':I}(h:pD w)(b:Y S w w')(a:¬S 0):pD w':=by
 unfold pD at*;exact b.cell h a<|cY _ _ h
def Inv.reads{q:fS}(x:Inv a b n j e i p t u c g l k q)(h:b<z (G a))(w:tw a f b n j e i p t u c):∃d,gw a f n.aN b j d/\d.files=j.files/\(∀A,d.bj n.aN A->j.bj n.aN A)/\bL f b n 0/\Inv f b n d e i p t u c g l k q:=by
 obtain⟨d,o,m,r,s,v,_⟩:=w;exact⟨d,o,m,s,v,x.fq h o (by rw[m]) (by rw[r];exact ah _) rfl x.loose⟩
def qN{b sbqq:M}(d:cK a b j)(c:Y aB a f):gw a f b sbqq j j:=⟨d.aw c<|λ_ _=>id,c.mono cG,λ_ q=>.inl q⟩
def BB(e:cK a b j)(g:¬j.bj b c)(d:Y (λk=>k=c) a f):gw a f b c j j:=⟨e.aw d<|λ_ q h=>g<|h▸q,d.mono<|λ_ q=>.inl<|.inr q,λ_ q=>.inl q⟩
def FI(o m r s:ab)(q:Bool)(B:bL a b n 0)(u:n.closed=bW)(w:pD a)(x:0≠b):cy bG 63 #[aA b,ai o,ai m,eC #[ai r,ai s,aL q]] a λv c=>∃l,v=aO (dB #[l,ap 6])/\yX a c l []/\bL c b n 0/\Y (λk=>k=b) a c:=by
 have h:=ak B;refine(GG a b n o m [] r s q 6 (λc=>bL c b n 0/\Y (λk=>k=b) a c) (λj c=>j=n/\bL c b n 0/\Y (λk=>k=b) a c) (λk=>k=b) h (λk D=>by omega) (λW t _=>?_) ?_ ?_ ?_ (λ_=>rfl)<|by simp).mono ?_;apply(Fi o m ((t.block b h id).trans B) u).mono;rintro v c⟨C,i,g,rfl,A,e,d⟩;exact⟨C,i,g,rfl,A,d,e,(t.mono (T:=λk=>k=b) cG).trans d<|λ_ p=>.inl p⟩;rintro A W C⟨e,f⟩d _ _ _;apply(zK _ bF ((d.block b (ak e) id).trans e) u).mono;rintro v c⟨rfl,g,i⟩;exact⟨rfl,n,g,rfl,i,rfl,g,(f.ci d).trans i<|λ_ p=>.inl p⟩;rintro j W g⟨rfl,_,f⟩d e;exact⟨rfl,e,f.trans d<|λ_ p=>.inl p⟩;rintro j W⟨_,_,f⟩;exact w.aw f x;rintro v c⟨l,j,rfl,g,_,e,d⟩;exact⟨l,rfl,g,e,d⟩
def KO(Q:fS)(T S o r:ab)(s:Bool)(ax:bL a b n 0)(V:Inv a b n j e i p t u c g l k Q)(hc:n.closed=bF)(hE:pD a)(hg:0≠b/\¬j.bj n.aN 0)(hz:o.size<=140737488351232/\r.size<=140737488351232)(hC:c+lw [⟨o,r,s⟩]<=1000000)(hN:l+1<=100000000)(ao:y (sO n.bC T S 0<|e::cF i p t u)<=1000000000):cy bG 63 #[aA b,ai T,ai S,eC #[ai o,ai r,aL s]] a λav v=>∃v',av=aO (dB #[v',ap<|fY [⟨o,r,s⟩]])/\yX a v v' (sO n.bC T S 0<|e::cF i p t u)/\nG a v b n 0 j (c+lw [⟨o,r,s⟩]) (l+1) Q (yP n.bC [⟨o,r,s⟩]) (xe Q e (cF i p t u) ((n.bC:Z)+1) [⟨o,r,s⟩]):=by
 have O:=ak ax;refine(GG a b n T S _ o r s (fY [⟨o,r,s⟩]) (λv=>∃m,gw a v n.aN b j m/\(∀X,m.bj n.aN X->j.bj n.aN X)/\bL v b n 0/\Inv v b n m e i p t u c g l k Q) (λP v=>∃m K B C D E h f,MD a v b n 0 j (c+lw [⟨o,r,s⟩]) (l+1) Q (yP n.bC [⟨o,r,s⟩]) (xe Q e (cF i p t u) ((n.bC:Z)+1) [⟨o,r,s⟩]) P m K B C D E h f) (λX=>j.bj n.aN X\/X=b) O ?_ (λau hW _=>?_) ?_ ?_ ?_ (λq=>by rw[hc]at q;cases q) ao).mono ?_;rintro X(q|q);exact V.st.aN.lt _ q;omega;have F:=qN (sbqq:=b) V.st.aN hW;have x:bL au b n 0:=(hW.block b O id).trans ax;have w:=V.fq O F rfl (ah _) rfl V.loose;apply(Mt T S x w.st hc).mono;rintro av v⟨ac,bt,bs,rfl,hh,hS⟩;obtain⟨m,A,_,e3,N,L⟩:=w.reads (ak x) hS;exact⟨ac,bt,bs,rfl,hh,A.aw,m,F.trans A,e3,N,L⟩;rintro W2 au cb⟨K2,al,e3,N,L⟩W ad ac an;have F:=qN (sbqq:=b) L.st.aN W;have x:bL au b n 0:=(W.block b (ak N) id).trans N;have w:=L.fq (ak N) F rfl (ah _) rfl L.loose;refine(Dg Q bF x w hc ad (λX hk=>by cases hk;exact⟨ac,an⟩) (λba hx=>by rw[bH]at hx;rw[hx];exact hz) (by simp) hC hN).mono ?_;rintro av v⟨rfl,P,m,K,B,C,D,E,h,f,d⟩;exact⟨rfl,P,d.box,d.same.2.1,d.fq.aw.mono<|λX q=>.inl<|q.imp (e3 X) id,m,K,B,C,D,E,h,f,d.box,d.inv,d.wI,(al.trans F).trans d.fq,d.same,d.BH⟩;rintro P au L⟨m,K,B,C,D,E,h,f,d⟩W N;have F:=BB d.inv.st.aN d.inv.st.rV W;(have A:gw au L n.aN b m m:=by rw[<-d.same.1];exact F);exact⟨m,K,B,C,D,E,h,f,N,d.inv.fq (ak d.box) F rfl (ah _) rfl d.inv.loose,d.wI,d.fq.trans A,d.same,d.BH⟩;rintro P au⟨m,K,B,C,D,E,h,f,d⟩;exact hE.aw d.fq.aw<|λq=>q.elim hg.2 hg.1;rintro av v⟨v',P,rfl,L,m,K,B,C,D,E,h,f,d⟩;exact⟨v',rfl,L,P,m,K,B,C,D,E,h,f,d⟩
def Nb(sn:fS)(h:bL a b n m)(w:Inv a b n j e i p t u c g l k sn)(hN:l+1<=100000000):cy bG 58 #[aA b] a λB x=>B=aO .nilIface/\nG a x b n m j c (l+1) sn n.bC (λbh=>fV bh<|e::cF i p t u):=by
 have ac:=ak h;have k3:=bL.cellAt h 3 rfl;have k8:=bL.cellAt h 8 rfl;have HH:=U h;have HV:=U w;clear h w;go_in
 go_wp2;go_quiet(fail)
 rename_i KK A;show KK _ _;apply A;clear A;have E:Y aB a (a.drewN nq):=(Y.refl aB a).of_heap rfl;generalize a.drewN nq=f at E|-;generalize decide (n.mem<=(n.iS:Z))=F;have h:=ae HH;have w:=ae HV;have o:bL f b n m:=(E.block b ac id).trans h;have C:=qN (sbqq:=b) w.st.aN E;have s:=w.fq ac C rfl (ah _) rfl w.loose;obtain⟨mx,mc,D⟩:=bM w.st.mem;obtain⟨N,K,ad⟩:=bM w.st.l0.row;obtain⟨O,c1,al⟩:=bM w.st.l1.row;obtain⟨P,c2,an⟩:=bM w.st.l2.row;obtain⟨Q,c3,ao⟩:=bM w.st.l3.row;have bq:aT f (R b 10)=H (J N (y i) K):=by rw[<-ad];exact o.cell rfl
 have br:aT f (R b 11)=H (J O (y p) c1):=by rw[<-al];exact o.cell rfl
 have bs:aT f (R b 12)=H (J P (y t) c2):=by rw[<-an];exact o.cell rfl
 have bt:aT f (R b 13)=H (J Q (y u) c3):=by rw[<-ao];exact o.cell rfl
 have q7:aT f (R b 7)=H (J mx (y e) mc):=by rw[<-D];exact o.cell rfl
 have q9:=bL.cellAt o 9 rfl;have bi:∀W,(Instr.index 107 (eC #[J N (y i) K,J O (y p) c1,J P (y t) c2,J Q (y u) c3])<|ap 0).run bG W=.ok (J N (y i) K) W:=λ_=>by kernel_rfl
 have bk:∀W,(Instr.index 107 (eC #[J N (y i) K,J O (y p) c1,J P (y t) c2,J Q (y u) c3])<|ap 1).run bG W=.ok (J O (y p) c1) W:=λ_=>by kernel_rfl
 have bl:∀W,(Instr.index 107 (eC #[J N (y i) K,J O (y p) c1,J P (y t) c2,J Q (y u) c3])<|ap 2).run bG W=.ok (J P (y t) c2) W:=λ_=>by kernel_rfl
 have bm:∀W,(Instr.index 107 (eC #[J N (y i) K,J O (y p) c1,J P (y t) c2,J Q (y u) c3])<|ap 3).run bG W=.ok (J Q (y u) c3) W:=λ_=>by kernel_rfl
 have bb:cy bG 102 #[aA b,ap 0,J N (y i) K] f λB x=>B=aO (aL<|ve n.wH 0<|y i)/\x=f:=rE 0 (y i) N K o (by omega);have bc:cy bG 102 #[aA b,ap 1,J O (y p) c1] f λB x=>B=aO (aL<|ve n.wH 1<|y p)/\x=f:=rE 1 (y p) O c1 o (by omega);have bd:cy bG 102 #[aA b,ap 2,J P (y t) c2] f λB x=>B=aO (aL<|ve n.wH 2<|y t)/\x=f:=rE 2 (y t) P c2 o (by omega);have bf:cy bG 102 #[aA b,ap 3,J Q (y u) c3] f λB x=>B=aO (aL<|ve n.wH 3<|y u)/\x=f:=rE 3 (y u) Q c3 o (by omega);have L:∀r,Y aB f r->cy bG 71 #[aA b,J mx (y e) mc,aH n.bC] r λB x=>B=aO .nilIface/\nG a x b n m j c (l+1) sn n.bC (λbh=>fV bh<|e::cF i p t u):=λr hX=>by have S:=qN (sbqq:=b) s.st.aN hX;have d:=s.fq (ak o) S rfl (ah _) rfl s.loose;have X:bL r b n m:=(hX.block b (ak o) id).trans o;have bg:=d.BH;(have ax:y e<=100:=by have:=d.VR;omega);have ba:=DA (J mx (y e) mc) c n.bC X d.st d.GK d.pr (by rw[<-D];exact d.st.mem) (λq b=>(d.st.sV q (by rw[D];exact b)).lt) d.st.mq d.WT d.st.jc ax (λx a=>(d.MF x a).1) (λx a=>(d.MF x a).2) (by omega) (by have:=d.st.qI;omega) d.st.mJ d.TE.2.2.1 d.qX d.QA.1 (by have:=d.bn;have:=d.mJ;omega) (by have:=d.nx;have:=d.mJ;omega) (by have:=d.eM;have:=d.mJ;omega) sn d.pV;apply ba.mono;rintro B x⟨rfl,v0,v1,v2,v3,K',num,a',b',c',d',V⟩;exact⟨rfl,_,K',[],a',b',c',d',n.bC,[],V.box,V.inv d.TE d.nx (by have:=d.bn;omega) hN d.pV d.Vr<|ah _,λbh a q=>by rw[sN];exact V.wI bh (a.imp_right (λB=>by rw[B];exact ri _)) q,(C.trans S).trans V.fq,⟨rfl,rfl,rfl,rfl,rfl,rfl⟩,rfl⟩
 have av:=U<|show nG a f b n m j c (l+1) sn n.bC (λbh=>fV bh<|e::cF i p t u)from⟨n,j,e,i,p,t,u,g,k,o,s.mono (ah _) s.st.mJ (by omega) hN,λ_ _ _=>rfl,C,⟨rfl,rfl,rfl,rfl,rfl,rfl⟩,rfl⟩;have T:=U L;clear h w o C s L D ad al an ao E k3 k8;go_wp2;go_loopw [3,20] (λo bn wr=>∃(au:M)(F:Bool),au<=4/\bn=ap au/\o=aL F/\wr=f) (λ_ bn _=>4-(intOf bn).toNat)
 case atStart=>exact⟨0,F,by omega,by go_num,rfl,rfl⟩
 (case round=>obtain⟨au,F,hj,rfl,rfl,bp⟩:=hrel;subst wr;(have bg:au=0\/au=1\/au=2\/au=3\/au=4:=by omega);rcases bg with rfl|rfl|rfl|rfl|rfl;(.cases F;(·(go_wp2_with(go_at_call 102;refine bb.mono ?_;rintro B S⟨rfl,hw⟩;subst S));go_roundw;(case rel=>exact⟨1,_,by omega,by go_num,rfl,trivial⟩);case measure=>simp[intOf]);(.go_wp2;go_roundw;(case rel=>exact⟨1,_,by omega,by go_num,rfl,trivial⟩);case measure=>simp[intOf]));(.cases F;(·(go_wp2_with(go_at_call 102;refine bc.mono ?_;rintro B S⟨rfl,hw⟩;subst S));go_roundw;(case rel=>exact⟨2,_,by omega,by go_num,rfl,trivial⟩);case measure=>simp[intOf]);(.go_wp2;go_roundw;(case rel=>exact⟨2,_,by omega,by go_num,rfl,trivial⟩);case measure=>simp[intOf]));(.cases F;(·(go_wp2_with(go_at_call 102;refine bd.mono ?_;rintro B S⟨rfl,hw⟩;subst S));go_roundw;(case rel=>exact⟨3,_,by omega,by go_num,rfl,trivial⟩);case measure=>simp[intOf]);(.go_wp2;go_roundw;(case rel=>exact⟨3,_,by omega,by go_num,rfl,trivial⟩);case measure=>simp[intOf]));(.cases F;(·(go_wp2_with(go_at_call 102;refine bf.mono ?_;rintro B S⟨rfl,hw⟩;subst S));go_roundw;(case rel=>exact⟨4,_,by omega,by go_num,rfl,trivial⟩);case measure=>simp[intOf]);(.go_wp2;go_roundw;(case rel=>exact⟨4,_,by omega,by go_num,rfl,trivial⟩);case measure=>simp[intOf]));(.cases F;(.go_wp2;go_ret;exact⟨rfl,av⟩);(·(go_wp2_with fail);rename_i KK A;have ba:aT f.drew (R b 7)=H (J mx (y e) mc)/\aT f.drew (R b 9)=H (aH n.bC):=⟨q7,q9⟩;refine oq (λ(r:I)=>aT r (R b 7)=H (J mx (y e) mc)/\aT r (R b 9)=H (aH n.bC)) 9 (by kernel_rfl) ?_;refine uL 0 ?_;(iterate 9 (refine AR (v:=?_) ba rfl (by kernel_rfl) jU rfl ?_ ?_;rotate_left;(focus(rintro r⟨z7,z9⟩;go_simp;try rfl));simp only[Act.put,du,Nat.reduceAdd]));apply AQ;refine dM (i:=9) rfl rfl (by kernel_rfl) ?_;intro K9 V;go_simp;apply(T f.drew<|cf _ f).mono;rintro B w7⟨rfl,X⟩;have ax:=U X;refine V _ _ (λq=>by omega) ?_;clear X V;(try simp only[Act.put,du]);refine dM (i:=10) rfl rfl (by kernel_rfl) ?_;intro bo d;go_simp;refine d _ _ (λq=>by omega) ?_;refine ki (by kernel_rfl) ?_ _;show KK _ _;apply A;clear A d;go_wp2;go_ret;exact⟨rfl,ax⟩)))
def SR.sW(s:SR)(u0 u1 u2 u3:aa)(next log a:M)(b:Bool):SR:={s with l0:=u0,l1:=u1,l2:=u2,l3:=u3,next:=next,log:=log,bC:=a,kj:=b}
def VX(cc:I)(a:M)(s:SR)(cb:Z)(next j b nf:M)(ec dm:I->aa->aa->aa->aa->Prop)(F:fJ)(h:bL cc a s cb)(bk:∀q,F q->q<z (G cc))(bl:¬F a)(hL:cy bG 93 #[aA s.aN] cc λca O=>∃A t r B u c1 C w c2 D x c3,ca=aO (dB #[eC #[aH next,aH j,aH b,J A t r,J B u c1,J C w c2,J D x c3],.nilIface])/\ec O (J A t r) (J B u c1) (J C w c2) (J D x c3)/\Y F cc O)(hO:∀W1 db v0 v1 v2 v3,ec W1 v0 v1 v2 v3->Y aB W1 db->cy bG 94 #[aA s.aN,eC #[v0,v1,v2,v3]] db λca O=>∃A t r B u c1 C w c2 D x c3,ca=aO (dB #[eC #[J A t r,J B u c1,J C w c2,J D x c3],.nilIface])/\dm O (J A t r) (J B u c1) (J C w c2) (J D x c3)/\Y F db O)(hS:∀db u0 u1 u2 u3,dm db u0 u1 u2 u3->∀W',Y (λq=>q=a) db W'->dm W' u0 u1 u2 u3/\cy bG 95 #[aA s.aN] W' λca O=>∃ee E,ca=aO (J ee nf E)/\Y aB W' O):cy bG 55 #[aA a] cc λca O=>ca=aO .nilIface/\∃u0 u1 u2 u3,bL O a (s.sW u0 u1 u2 u3 next j b<|decide<|0<nf) cb/\dm O u0 u1 u2 u3/\Y (λq=>F q\/q=a) cc O:=by
 have cB:=ak h;have k2:=bL.cellAt h 2 rfl;obtain⟨HH,HF,HO,HS⟩:=gx h bk hO hS;clear h bk hO hS;go_in
 go_wp2_with fail
 apply hL.mono;rintro ca f⟨A,t,r,B,u,c1,C,w,c2,D,x,c3,rfl,bo,bb⟩;obtain⟨g,Q⟩:∃g,ct f (ar #[aH next,aH j,aH b,J A t r,J B u c1,J C w c2,J D x c3] 187)=g:=⟨_,rfl⟩;have L:Y aB f g:=by rw[<-Q];exact(Y.refl aB f).alloc _
 have e:g.heap[z<|G f]?=H (ar #[aH next,aH j,aH b,J A t r,J B u c1,J C w c2,J D x c3] 187 (0,0)):=by rw[<-Q];exact aD _ rfl
 have bc:Y F cc g:=bb.ci L;have K:bL g a s cb:=(bc.block a cB bl).trans HH;have ea:=bb.size;obtain⟨cm,bi,ch,ck,P,n⟩:=kG Q L bo bc K e;clear bo bb bc K e Q L hL;go_wp2_with fail
 rw[ae cm];rename_i KK bn;have K:=ae P;have e:=ae n;have br:aT g.drew (R a 2)=H (aA s.aN)/\aT g.drew (R (z<|G f) 3)=H (J A t r)/\aT g.drew (R (z<|G f) 4)=H (J B u c1)/\aT g.drew (R (z<|G f) 5)=H (J C w c2)/\aT g.drew (R (z<|G f) 6)=H (J D x c3):=⟨K.cell rfl,by show aT g _=_;rw[bN e];rfl,by show aT g _=_;rw[bN e];rfl,by show aT g _=_;rw[bN e];rfl,by show aT g _=_;rw[bN e];rfl⟩;clear K e;have cj:=U (show∀c:I,(∀q,q=a\/q=z (G f)->c.heap[q]?=g.heap[q]?)->aT c (R a 2)=H (aA s.aN)/\aT c (R (z<|G f) 3)=H (J A t r)/\aT c (R (z<|G f) 4)=H (J B u c1)/\aT c (R (z<|G f) 5)=H (J C w c2)/\aT c (R (z<|G f) 6)=H (J D x c3)fromλc hX=>by have hb:bL c a s cb:=(hX a<|.inl rfl).trans P;have hs:=(hX _<|.inr rfl).trans n;exact⟨hb.cell rfl,by rw[bN hs];rfl,by rw[bN hs];rfl,by rw[bN hs];rfl,by rw[bN hs];rfl⟩);refine cJ (λ(c:I)=>aT c (R a 2)=H (aA s.aN)/\aT c (R (z<|G f) 3)=H (J A t r)/\aT c (R (z<|G f) 4)=H (J B u c1)/\aT c (R (z<|G f) 5)=H (J C w c2)/\aT c (R (z<|G f) 6)=H (J D x c3)) 14 (by kernel_rfl) ?_;refine dA 0 ?_;iterate 7 (refine fw (v:=?_) br rfl (by kernel_rfl) jU rfl ?_ ?_;rotate_left;(focus(rintro c⟨z2,y3,y4,y5,y6⟩;go_simp;try rfl));simp only[Act.put,du,Nat.reduceAdd])
 apply eX;refine aP (i:=7) rfl rfl (by kernel_rfl) ?_;intro K7 bm;go_simp;apply(HO f g.drew _ _ _ _ ch<|bi.ci<|cf aB g).mono;rintro ca w3⟨z0,l0,d0,z1,l1,d1,z2,l2,d2,z3,l3,d3,rfl,bp,bx⟩;have o:Y F g w3:=(cf F g).trans bx<|λ_ E=>.inl E;have dd:=ak n
 have i:∀q,q=a\/q=z (G f)->w3.heap[q]?=g.heap[q]?:=λq hq=>o.block q (by have:=ak P;rcases hq with E|E<;>omega) (λE=>by
  rcases hq with ed|ed
  .exact bl<|ed▸E
  .have:=HF q E;omega)
 have ax:=cj w3 i;refine bm _ _ (λ_=>ax) ?_;try simp only[Act.put,du]
 refine dA 8 ?_;iterate 5 (refine fw (v:=?_) ax rfl (by kernel_rfl) jU rfl ?_ ?_;rotate_left;(focus(rintro c⟨z2,y3,y4,y5,y6⟩;go_simp;try rfl));simp only[Act.put,du,Nat.reduceAdd])
 apply eX;refine aP (i:=13) rfl rfl (by kernel_rfl) ?_;intro dn al;have m:bL w3 a s cb:=(i a<|.inl rfl).trans P;have fz:∀cd,w3.frozen? (R a cd)=bF:=λcd=>m.free;have cs:=bL.cellAt m 10 rfl;have cu:=bL.cellAt m 11 rfl;have cv:=bL.cellAt m 12 rfl;have cx:=bL.cellAt m 13 rfl;go_simp;obtain⟨l,S⟩:∃l,bZ (bZ (bZ (bZ w3 (R a 10)<|J z0 l0 d0) (R a 11)<|J z1 l1 d1) (R a 12)<|J z2 l2 d2) (R a 13) (J z3 l3 d3)=l:=⟨_,rfl⟩;have k:bL l a {s with l0:=J z0 l0 d0,l1:=J z1 l1 d1,l2:=J z2 l2 d2,l3:=J z3 l3 d3} cb:=by rw[<-S];exact(aR<|aR<|aR<|aR m).trans rfl
 have p:Y (λq=>q=a) w3 l:=by rw[<-S];exact((((Y.refl (λq=>q=a) w3).setCell a 10 _<|.inl rfl).setCell a 11 _<|.inl rfl).setCell a 12 _<|.inl rfl).setCell a 13 _<|.inl rfl
 have d:l.heap[z<|G f]?=H (ar #[aH next,aH j,aH b,J A t r,J B u c1,J C w c2,J D x c3] 187 (0,0)):=(p.block _ (by have:=o.size;omega)<|by omega).trans<|(i _<|.inr rfl).trans n;rw[S];have bq:aT l (R a 2)=H (aA s.aN)/\aT l (R (z<|G f) 3)=H (J A t r)/\aT l (R (z<|G f) 4)=H (J B u c1)/\aT l (R (z<|G f) 5)=H (J C w c2)/\aT l (R (z<|G f) 6)=H (J D x c3):=⟨k.cell rfl,by rw[bN d];rfl,by rw[bN d];rfl,by rw[bN d];rfl,by rw[bN d];rfl⟩;refine al _ _ (λ_=>bq) ?_;try simp only[Act.put,du]
 refine aP (i:=14) rfl rfl (by kernel_rfl) ?_;intro ds an;go_simp;refine an _ _ yR ?_;refine dp (by kernel_rfl) ?_ _;show KK _ _;apply bn;have s0:=cellAt d 0 rfl;have s1:=cellAt d 1 rfl;have s2:=cellAt d 2 rfl;have v9:=bL.cellAt k 9 rfl;have cM:=bL.cellAt k 14 rfl;have cT:=bL.cellAt k 17 rfl;have cp:∀cd,l.frozen? (R a cd)=bF:=λcd=>k.free;have dk:z (G f)≠a:=by omega
 have dT:=ak k;have dx:=ak d;have av:Y (λq=>F q\/q=a) cc l:=((ck.mono (T:=λq=>F q\/q=a)<|λ_ E=>.inl<|.inl E).trans o<|λ_ E=>.inl<|.inl E).trans p<|λ_ E=>.inl<|.inr E;obtain⟨bh,ce,ac,cl⟩:=gx (HS w3 _ _ _ _ bp) k p av;clear bn bm al an bq ax br m k p d fz cs cu cv cx i o bx bp S av k2;go_wp2_with fail
 rename_i co ao;apply CR co;(.intro cE;(go_region);all_goals exact cE);refine ao _ _ ?_;clear ao;obtain⟨W6,V⟩:∃W6,(bZ (bZ (bZ l (R a 14)<|aH next) (R a 17)<|aH j) (R a 9)<|aH b).drew=W6:=⟨_,rfl⟩;have N:Y (λq=>q=a) l W6:=by rw[<-V];exact((((Y.refl (λq=>q=a) l).setCell a 14 _<|.inl rfl).setCell a 17 _<|.inl rfl).setCell a 9 _<|.inl rfl).trans (cf (λq=>q=a) _)<|λ_ E=>.inl E
 have ba:bL W6 a (s.sW (J z0 l0 d0) (J z1 l1 d1) (J z2 l2 d2) (J z3 l3 d3) next j b s.kj) cb:=by rw[<-V];exact Eq.trans (show _=_ from aR<|aR<|aR ce) rfl
 have bu:=bh W6<|ac.trans N<|λ_ E=>.inl E;have r2:=bL.cellAt ba 2 rfl;have bt:=bu.2;obtain⟨bf,ad,cn⟩:=dC ba N V;clear ba N V bu s0 s1 s2 v9 cM cT cp;rw[ae cn];go_wp2_with fail
 apply bt.mono;rintro ca w7⟨x7,c7,rfl,X⟩;have W:bL w7 a (s.sW (J z0 l0 d0) (J z1 l1 d1) (J z2 l2 d2) (J z3 l3 d3) next j b s.kj) cb:=(X.block a (ak bf) id).trans bf;have eb:=bL.cellAt W 21 rfl;have dv:w7.frozen? (R a 21)=bF:=W.free;have bd:Y (λq=>q=a) w7 (bZ w7 (R a 21)<|aL<|decide<|0<nf):=(Y.refl (λq=>q=a) w7).setCell a 21 _<|.inl rfl;have bs:bL (bZ w7 (R a 21)<|aL<|decide<|0<nf) a (s.sW (J z0 l0 d0) (J z1 l1 d1) (J z2 l2 d2) (J z3 l3 d3) next j b<|decide<|0<nf) cb:=(aR W).trans rfl;have au:=((ac.trans ad<|λ_ E=>.inl E).ci X).trans bd<|λ_ E=>.inl E;have bv:=(bh _ au).1;have bT:Y (λq=>F q\/q=a) cc (bZ w7 (R a 21)<|aL<|decide<|0<nf):=((cl.trans ad<|λ_ E=>.inl<|.inr E).ci X).trans bd<|λ_ E=>.inl<|.inr E;have bg:=U<|And.intro bs (And.intro bv bT);have dc:decide ((0:Z)<(nf:Z))=decide (0<nf):=by simp
 clear W bd bs au bv bT X bt;go_wp2;go_ret;refine⟨rfl,J z0 l0 d0,J z1 l1 d1,J z2 l2 d2,J z3 l3 d3,?_⟩;exact bg
def KD(h:bL a b n m)(f:cK a n.aN j)(u:Pow a)(w:n.log<18446744073709551616)(t:dX (vw j.files) (iM n.log)=none):cy bG 56 #[aA b] a λo l=>o=aO .nilIface/\Y aB a l:=by
 have c:=vS n.log w u;have B:=bL.cellAt h 17 rfl
 have i:∀W,Y aB a W->aT W (R b 2)=H (aA n.aN)/\cy bG 96 #[aA n.aN,ai<|iM n.log] W λo l=>o=aO (dB #[aK,.iface 219<|aA<|z<|G W])/\l=ct W (ar #[ai<|iM n.log,ap 10] 222):=λW s=>
  ⟨bL.cell ((s.block b (ak h) id).trans h) rfl,Gz (db:=n.aN) (K:=j) (iM n.log) (w:=W) (f.aw s<|λ_ _=>id) t⟩
 have g:∀(W:I),cy bG 97 #[.iface 219<|aA<|z<|G W,.iface 55<|ap 10] (ct W<|ar #[ai<|iM n.log,ap 10] 222) λo l=>o=aO (aL bW)/\l=ct W (ar #[ai<|iM n.log,ap 10] 222):=λW=>Pp (z<|G W) 10 _ (by have:(ct W<|ar #[ai<|iM n.log,ap 10] 222).heap[z<|G W]?=H (ar #[ai<|iM n.log,ap 10] 222 (0,0)):=aD _ rfl;rw[bN this];rfl);clear h f u t;generalize iM n.log=k at*;go_in
 go_wp2_with fail
 apply c.mono;rintro o q⟨rfl,e⟩;have d:Y aB a q:=Y.aW e;obtain⟨C,x⟩:=i q d;have v:=g q;have p:=U<|d.alloc<|ar #[ai k,ap 10] 222;clear i g d e c;go_wp2_with fail
 apply x.mono;rintro o r⟨rfl,A⟩;subst r;go_wp2_with fail
 apply v.mono;rintro o r⟨rfl,A⟩;subst r;go_wp2;go_ret;exact⟨rfl,p⟩
def SR.ul(s:SR)(a:aa)(j n:M):SR:={s with memory:=a,iS:=n,bC:=s.bC+j}
def KN(s:SR)(a:s.memory=aK)(b:s.iS=0):s.ul aK 0 0=s:=by
 cases s;simp_all[SR.ul]
def Kd{lsqq:dW}(j:M):((lsqq.take j).map y).sum<=(lsqq.map y).sum:=by
 conv=>rhs;rw[<-bX j lsqq]
 rw[aM,gl];omega
def lj(a:dW):cA:=a.foldl (λm l=>gh [] m l) []
def zk(a:dW)(l:cA):lj (a++[l])=gh [] (lj a) l:=by simp[lj]
def Rf(l:cA):∀(p:Option E)(a:ab),(∀q,p=H q->q.key=a)->(p=none->∀e∈l,e.key≠a)->kN [] p l=mU a l:=by
 induction l with
 |nil=>intro p a _ _;rfl
 |cons e r f=>
  intro p a i d;rw[kN,mU];cases p with
  |none=>
   have b:po [] none e=bW:=rfl;rw[dw b,cW (d rfl e<|by simp),f (H e) e.key (λq c=>by cases c;rfl)<|λg=>by cases g]
  |some q=>
   have c:=i q rfl;by_cases g:e.key=a
   .have b:po [] (H q) e=bF:=by simp[po,c,g]
    rw[cW (by rw[b];simp),dw g,f (H e) e.key (λx d=>by cases d;rfl)<|λh=>by cases h]
   .have b:po [] (H q) e=bW:=by simp[po,c];exactλh=>g h.symm
    rw[dw b,cW g,f (H e) e.key (λx d=>by cases d;rfl)<|λh=>by cases h]
def TM(h:gM e)(a:∀x∈e,x.bI<=m):eE [] e=ke m e:=by
 unfold eE ke;rw[eV.2<|λx b=>by simpa using a x b];exact Rf e none ⟨#[]⟩ (λq a=>by cases a)<|λ_=>h.key
def VJ(v:Fp m k):∀j,j<=y k->lj (k.take j)=gJ [] (k.take j).flatten/\gM (lj<|k.take j)/\(∀x∈lj (k.take j),x.bI<=m+j-1)/\ke (m+j-1) (lj<|k.take j)=lj (k.take j):=by
 intro j;induction j with
 |zero=>intro _;exact⟨rfl,gM.nil,by simp[lj],rfl⟩
 |succ j u=>
  intro w;obtain⟨g,h,i,s⟩:=u (by omega);have a:j<y k:=by omega
  have t:=v.jc k[j]<|aq a;have l:∀x∈k[j],x.bI=(m+j-1)+1:=λx b=>by rw[v.num j a x b];omega
  have n:∀e∈k[j],e.key≠⟨#[]⟩:=λe a=>tY<|t e a;have o:lj (k.take<|j+1)=gh [] (lj<|k.take j) k[j]:=by rw[aj a,zk]
  have d:gM (fB (lj<|k.take j) k[j]):=h.fB n;have c:∀x∈fB (lj<|k.take j) k[j],x.bI<=(m+j-1)+1:=λx b=>by
   rcases xz b with q|q
   .have:=i x q;omega
   .rw[l x q];omega
  have p:=TM d c;have e:ke ((m+j-1)+1) (gh [] (lj<|k.take j) k[j])=gh [] (lj<|k.take j) k[j]:=by
   show ke _ (eE [] _)=eE [] _;rw[yz d<|.inr c,p]
  have f:=Gg h i n l [];rw[e,s,g]at f;have r:m+((j+1:M):Z)-1=(m+j-1)+1:=by push_cast;omega
  rw[o,r];refine⟨?_,d.sub<|uM [] _ _,λx b=>c x<|(uM [] _ _).subset b,e⟩;rw[g,f,aj a,dP,yO];simp
def UA(a:dW):∀m,dQ m->dQ (a.foldl (λm l=>gh [] m l) m):=by
 induction a with
 |nil=>exactλm h=>h
 |cons l r b=>exactλm h=>b _<|xZ h [] l
def GD(a:dW):dQ (lj a):=UA a [] dQ.nil
def UB(a:dW):∀m:cA,y (a.foldl (λm l=>gh [] m l) m)<=y m+(a.map y).sum:=by
 induction a with
 |nil=>intro m;simp
 |cons l r b=>
  intro m;have c:=b<|gh [] m l;have d:=ya [] m l;simp only[fP,aY,iL];omega
def GF(a:dW):y (lj a)<=(a.map y).sum:=by
 have:=UB a [];simpa[lj]using this
def No(c:dW)(h:bL a b n m)(bd:cK a n.aN j)(al:¬j.bj n.aN b)(hp:Pow a)(hT:Steps a)(bx:1≠b/\¬j.bj n.aN 1)(hl:n.log<18446744073709551616)(bf:Fp ((n.bC:Z)+1) c)(o:dX (vw j.files) (iM n.log)=H (lO ((n.bC:Z)+1) c))(cp:0<y (lO ((n.bC:Z)+1) c))(ea:y (lO ((n.bC:Z)+1) c)<=200000)(hm:n.memory=aK)(ce:n.iS=0)(es:n.bC<=1000000000)(ec:Ga a j b n []):cy bG 56 #[aA b] a λbr s=>br=aO .nilIface/\∃S k,bL s b {n.ul S (y c) (c.map y).sum with gB:=bW,vG:=bF,km:=bW} m/\s.ownsRow (z<|G a) 164 4 S (y<|lj c) (aF<|lj c)/\gw a s n.aN b j k/\k.files=j.files/\k.eM=j.eM/\(∀m,k.bj n.aN m->j.bj n.aN m):=by
 have eb:=ak h;have ad:=vS n.log hl hp;have ee:=bL.cellAt h 17 rfl;have ff:IntKind.u64.wrap ((n.bC:Z)+1)=(n.bC:Z)+1:=by rw[gV];omega
 obtain⟨rb,K⟩:∃rb,lO ((n.bC:Z)+1) c=rb:=⟨_,rfl⟩;have cu:∀W,Y aB a W->aT W (R b 2)=H (aA n.aN)/\cy bG 96 #[aA n.aN,ai<|iM n.log] W λbr s=>∃c V,br=aO (dB #[bD c 0 (y rb) V,.nilIface])/\eH s (z<|G W) (bD c 0 (y rb) V) rb/\y rb<=V/\V<=9223372036854775807/\bL s b n m/\Steps s/\∃k,gw a s n.aN b j k/\k.files=j.files/\k.eM=j.eM/\∀m,k.bj n.aN m->j.bj n.aN m:=λW f=>by have d:bL W b n m:=(f.block b eb id).trans h;refine⟨d.cell rfl,?_⟩;refine(KG (db:=n.aN) (K:=j) (iM n.log) rb (w:=W) (bd.aw f<|λ_ _=>id) (by rw[<-K];exact o) (by rw[<-K];omega)).mono ?_;rintro br s⟨v',rfl,B,k,hd,e1,e2,e3⟩;have l:=(qN (sbqq:=b) bd f).trans<|gw.of hd;have i:bL s b n m:=(hd.aw.block b (ak d) al).trans d;have g:Steps s:=λq a=>hd.aw.cell (f.cell (hT q a) id<|cY _ _<|hT q a) bx.2<|ag (cY _ _<|hT q a) f.size;have w:=B;obtain⟨q1,⟨q2,q0⟩|⟨x,D,E,q2,L,O,p,r,A⟩⟩:=w;rw[K]at cp;omega;subst q2;exact⟨x,D,rfl,B,p,by unfold maxLen at r;omega,i,g,k,l,e1,e2,e3⟩
 obtain⟨HH,dk,bt,av,HM⟩:=jP h cu bf K<|And.intro hm ce;have eo:=bf.sum;clear h bd hp hT bx o cp ea cu bf K hm ce hl;generalize iM n.log=eq at*;go_in
 go_wp2_with fail
 apply ad.mono;rintro br w1⟨rfl,ca⟩;have bm:Y aB a w1:=Y.aW ca;obtain⟨k2,hr⟩:=dk w1 bm;have ev:=bm.size;clear bm ca ad;go_wp2_with fail
 apply hr.mono;rintro br w2⟨rx,rc,rfl,F,cc,cd,bb,bv,ba⟩;have q9:=bL.cellAt bb 9 rfl;have ex:z (G w1)<=rx:=(F.lt rx rfl).1;have bg:=IN rx 0 rc bv bt (by rw[ae av];exact cc) cd (F.lt rx rfl).2 (by rw[ae av];exact eH.bytes F);rw[ae av]at bg;have ck:=Ui 10 w2;have en:=(F.lt rx rfl).2;obtain⟨bs,cT,dn⟩:=dC bb ba (show∃k,Ga w2 k b n []from by obtain⟨k,hd,_⟩:=ba;exact⟨k,ec.fq hd⟩);clear bb ba hr F cc cd bv k2 ee;go_wp2_with fail
 apply ck.mono;rintro br ej⟨rfl,hw⟩;subst ej;go_wp2_with fail
 apply bg.mono;rintro br w3⟨x3,c3,vs,rfl,bh,bc,bn⟩;obtain⟨t,v⟩:∃t,ct w3 (ar #[J x3 (y c) c3,aL bF] 199)=t:=⟨_,rfl⟩;have bo:Y aB w2 t:=by rw[<-v];exact bn.alloc _
 have N:Y aB w3 t:=by rw[<-v];exact(Y.refl aB w3).alloc _
 have ey:=bn.size;have bk:z (G t)=z (G w3)+1:=by rw[<-v];simp
 have C:t.heap[z<|G w3]?=H (ar #[J x3 (y c) c3,aL bF] 199 (0,0)):=by rw[<-v];exact aD _ rfl
 have cb:bL t b n m:=(bo.block b (ak bs) id).trans bs;have bu:Row t 1 (J x3 (y c) c3) (y c) vs:=dH<|N.own bh<|λ_ _ V=>V;have bT:∀e(a:e<y vs)(b:e<y c),t.ownsRow (z (G w2)+2) 164 4 vs[e] (y c[e]) (aF c[e]):=λe a b=>N.own (bc.2 e a b)<|λ_ _ V=>V;have ac:∀x,bV (J x3 (y c) c3)=H x->z (G w2)+2<=x/\x<z (G w3):=λx o=>bh.lt x o;have el:=cellAt C 0 rfl;obtain⟨dv,dd,ds,cM,dc,cE,ax,dm,dx⟩:=xG bc.1 bu bT ac C cb bo bk v;clear bh bc bn N C cb bu bT ac bo bk bg ck q9 v;go_wp2;rw[ae dx];go_loopw [47] (λbq wr=>∃(e:M)(S:aa),e<=y c/\bq=ap e/\bL wr b (n.ul S e ((c.take e).map y).sum) m/\wr.ownsRow (z<|G a) 164 4 S (y<|lj<|c.take e) (aF<|lj<|c.take e)/\Y (λm=>m=b) t wr) (λbq _=>y c-(intOf bq).toNat)
 (case atStart=>have br:=KN n HM.1 HM.2;refine⟨0,aK,bA _,by go_num,?_,bK _ _ _ _,Y.refl _ _⟩;show bL t b (n.ul aK 0 0) m;rw[br];exact cE)
 case round=>
  obtain⟨e,S,hj,rfl,d,g,i⟩:=hrel;have bk:=ae dm;have fb:=i.size;obtain⟨A,E⟩:∃A,n.bC+e=A:=⟨_,rfl⟩;obtain⟨r,l⟩:∃r,((c.take e).map y).sum=r:=⟨_,rfl⟩;have bl:=Kd (lsqq:=c) e;have cl:y c<=(c.map y).sum:=Dw<|λl hl=>(bt.one l hl).1;have em:y c<=31:=by omega
  have cj:y (c.take e).flatten=r:=by rw[<-l,rR]
  have bi:=GF<|c.take e;rw[l]at bi;rw[l]at bl;obtain⟨mx,mc,cn⟩:=aC g;have ef:=bL.cellAt d 7 rfl;have eg:aT wr (R b 8)=H (ap r):=by rw[<-l];exact d.cell rfl
  have ei:aT wr (R b 9)=H (aH A):=by rw[<-E];exact d.cell rfl
  by_cases D:e<y c
  .have e1:(e:Z)<(y c:Z):=by omega
   have e2:(0:Z)<=(e:Z):=by omega
   have cm:e<y vs:=by rw[ae dv];exact D
   have X:=ds e cm D;have bp:∀x,bV vs[e]=H x->z (G w2)+2<=x/\x<z (G t):=λx o=>X.lt x o;have cx:=i.own X (λx o V=>by have:=(bp x o).1;omega);have ch:∃b a,x3=H (R b a)/\aT wr (R b<|a+e)=H vs[e]:=by
    obtain⟨q1,⟨q2,q0⟩|⟨x,B,ek,q2,eu,hc⟩⟩:=ae dd
    .omega
    .cases q2;have et:=cM x rfl;exact⟨x,B,rfl,i.cell (hc e _<|aG cm) (by omega)<|by omega⟩
   obtain⟨b3,o3,ed,ch⟩:=ch;subst ed;have W:((c.take<|e+1).map y).sum=r+y c[e]:=by rw[aj D,aM,gl,l];simp
   have L:=Kd (lsqq:=c)<|e+1;rw[W]at L;have cs:gh [] (lj<|c.take e) c[e]=lj (c.take<|e+1):=by rw[aj D,zk]
   obtain⟨Kx,cv⟩:=ae dn;obtain⟨mb,m1,m2,m3⟩:=cv.ex;have m4:ju wr mb (AM []):=m2.de<|((i.block mb (by have:=ax.size;have:=m3.lt;omega) m3.ne).trans<|ax.block mb m3.lt id);have ao:=AT b (n.ul S e ((c.take e).map y).sum) m [] vs[e] c[e] d m1 m4 (by simp) (dH g) (λx o=>(g.lt x o).2) (dH cx) (λx o=>by have:=(bp x o).2;omega) (GD _) (by omega);have cB:cy bG 72 #[aA b,vs[e]] wr λbr s=>∃v',br=aO v'/\s.ownsRow (z<|G wr) 164 4 v' (y<|lj<|c.take<|e+1) (aF<|lj<|c.take<|e+1)/\Y aB wr s:=by rw[<-cs];exact ao
   clear ao m1 m2 m3 m4 cv;obtain⟨xj,fn,an⟩:=aC X;obtain⟨Q,dT⟩:∃Q,y c[e]=Q:=⟨_,rfl⟩;rw[dT]at an W L;generalize vs[e]=vj at*;have fd:IntKind.i64.wrap ((r:Z)+(Q:Z))=(r:Z)+(Q:Z):=by rw[bQ];omega
   have fe:IntKind.u64.wrap ((A:Z)+1)=(A:Z)+1:=by rw[gV];omega
   have HF:=U (show∀p f,Y aB wr p->p.ownsRow (z<|G wr) 164 4 f (y<|lj<|c.take<|e+1) (aF<|lj<|c.take<|e+1)->(aT p (R b 7)=H S/\aT p (R b 8)=H (ap r)/\aT p (R b 9)=H (aH A)/\∀bq,p.frozen? (R b bq)=bF)/\bL (bZ (bZ (bZ p (R b 7) f) (R b 8)<|ap<|(r:Z)+Q) (R b 9)<|aH<|(A:Z)+1) b (n.ul f (e+1) ((c.take<|e+1).map y).sum) m/\(bZ (bZ (bZ p (R b 7) f) (R b 8)<|ap<|(r:Z)+Q) (R b 9)<|aH<|(A:Z)+1).ownsRow (z<|G a) 164 4 f (y<|lj<|c.take<|e+1) (aF<|lj<|c.take<|e+1)/\Y (λm=>m=b) t (bZ (bZ (bZ p (R b 7) f) (R b 8)<|ap<|(r:Z)+Q) (R b 9)<|aH<|(A:Z)+1)fromλp f O w=>by
    have B:bL p b (n.ul S e ((c.take e).map y).sum) m:=(O.block b (ak d) id).trans d;have P:Y (λm=>m=b) p (bZ (bZ (bZ p (R b 7) f) (R b 8)<|ap<|(r:Z)+Q) (R b 9)<|aH<|(A:Z)+1):=(((Y.refl (λm=>m=b) p).setCell b 7 _<|.inl rfl).setCell b 8 _<|.inl rfl).setCell b 9 _<|.inl rfl;refine⟨⟨B.cell rfl,by rw[<-l];exact B.cell rfl,by rw[<-E];exact B.cell rfl,λbq=>B.free⟩,?_,?_,(i.ci O).trans P<|λ_ V=>.inl V⟩
    .have hx:=aR (i:=9) (u:=aH<|(A:Z)+1)<|aR (i:=8) (u:=ap<|(r:Z)+Q)<|aR (i:=7) (u:=f) B;have e9:((A:Z)+1)=((n.bC+(e+1):M):Z):=by rw[<-E];push_cast;omega
     have e8:((r:Z)+Q)=((((c.take<|e+1).map y).sum:M):Z):=by rw[W];push_cast;omega
     rw[e9,e8]at hx|-;exact hx.trans rfl
    .exact eQ (P.own w (λx o V=>by have:=(w.lt x o).1;have:=ak d;omega)) (by omega))
   clear d g i X bp cx W L cs bi cj bl cl E l;subst cn;subst an;go_wp2_with fail
   apply cB.mono;rintro br p⟨f,rfl,w,O⟩;obtain⟨fl,fk,co⟩:=aC w;obtain⟨⟨y7,y8,y9,fz⟩,hF⟩:=HF p f O w;have au:=U hF;clear hF O w cB;subst co;go_wp2;go_roundw;case rel=>exact⟨e+1,_,D,by go_num,au.1,au.2.1,au.2.2⟩
   case measure=>simp[intOf];omega
  .have e1:¬(e:Z)<(y c:Z):=by omega
   have f:e=y c:=by omega
   have p:=(i.block _ (by omega)<|by omega).trans dc;have y1:=cellAt p 1 rfl;have fz:∀bq,wr.frozen? (R b bq)=bF:=λbq=>d.free;have bp:=bL.cellAt d 18 rfl;have ch:=bL.cellAt d 19 rfl;have cm:=bL.cellAt d 20 rfl;have an:=ak p;have ao:=ak d;have au:z (G w3)≠b:=by omega
   obtain⟨B,O,Q,L⟩:=gx d g i f;clear d g i p f bl cl cj bi E l ef eg ei cn;go_wp2_with fail
   rename_i KK w;apply CR KK
   .intro X;go_region
    all_goals exact X
   apply w;clear w;go_wp2;go_ret;have f:=ae L;subst f;have d:=ae B;have g:=ae O;rw[bP]at d g;obtain⟨k,hd,e3,e4,e5⟩:=ae cT;have P:Y (λm=>m=b) wr ((bZ (bZ (bZ wr (R b 18)<|aL bW) (R b 19)<|aL bF) (R b 20)<|aL bW).drew):=((((Y.refl (λm=>m=b) wr).setCell b 18 _<|.inl rfl).setCell b 19 _<|.inl rfl).setCell b 20 _<|.inl rfl).trans (cf _ _)<|λ_ V=>.inl V;have W:=((ax.mono (T:=λm=>m=b) cG).trans Q<|λ_ V=>.inl V).trans P<|λ_ V=>.inl V;refine⟨rfl,S,k,?_,P.own g (λx o V=>by have:=(g.lt x o).1;omega),hd.trans<|BB hd.ok (λq=>al<|e5 _ q) W,e3,e4,e5⟩;have hx:=aR (i:=20) (u:=aL bW)<|aR (i:=19) (u:=aL bF)<|aR (i:=18) (u:=aL bW) d;exact Eq.trans (show _=_ from hx) rfl
section
open Go.Conc.Locks
def IG{P:Program}{q:Oper}{g:Act}{K:Act->I->Prop}{Q:Exit->Act->I->Prop}(h x i:Operand)(w:TypeId)(f:q.op=Op.mapUpdate w h x i)(u A:TypeId)(n:P.underlying w=H (.map u A))(l:P.underlying u=H (.int .i64))(j:M)(v:fI)(m:g.eval h=.map (H j))(B:ju a j v)(b:Z)(c:aa)(p:g.eval x=ap b)(o:g.eval i=c)(k:∀d,ju d j (v.put b c)->a.grownBy d (H j)->z (G d)=z (G a)->K (g.put q.dst iB) d):Oper.wp P q g a K Q:=by
 obtain⟨d,e,r,s,t⟩:=Kp n l B b c;unfold Oper.wp;simp[execOp,f,m,p,o,e,Result.andThen];exact k d r s t
def Xv:lE 2=.iface 55 (ap 2):=rfl
def CK(h:bL a b n 0)(l:n.closed=bW):cy bG 17 #[aA b] a λm k=>m=aO (dB #[ap 0,lE 6])/\bL k b n 0/\Y (λt=>t=b) a k:=by
 have p:=bL.cellAt h 0 rfl;have r:a.frozen? (R b 0)=bF:=h.free;have j:=h.gO 1;have c:=iZ j;rw[l]at c;simp only[je]at c;have o:=U<|λg i=>rl (W2:=g) j ((Y.refl (λt=>t=b) a).setCell b 0 _<|.inl rfl) i;clear h j l;rw[xL]at c|-;go_enter_defers func17,ntmps17
 go_wp2_with fail
 apply(lock_free (R b 0) _ p r).mono;rintro m k⟨rfl,rfl⟩;go_wp2_with fail
 apply c.mono;rintro m g⟨rfl,i⟩;obtain⟨q,s,d⟩:=o g i;have e:=U d;clear d i c;go_wp2;refine eY (f:=40) (args:=#[aA b]) (by simp) (by simp[go_sem]) ?_;apply(unlock_deferred (R b 0) .returning _ q s).mono;rintro m v u⟨rfl,rfl,rfl⟩;exact⟨_,kP rfl _ _ _,rfl,e⟩
def FA(x:fS)(h:bL a b n 0)(C:ST a b n j e i p t u c)(w:Ga a j b n x)(Q:n.closed=bF)(h4:4<=y x):cy bG 17 #[aA b] a λN A=>N=aO (dB #[ap 0,lE 2])/\tw a A b n j e i p t u c:=by
 have F:=ak h;have X:=bL.cellAt h 0 rfl;have f0:a.frozen? (R b 0)=bF:=h.free;have g:=kX C.aN C.rV 1;have B:=h.gO 1;generalize O:bZ a (R b 0) (jk 1)=m at g B;obtain⟨mb,S,L,q3⟩:=(w.fq g).ex;have d:=iZ B;rw[Q]at d;have s:cy bG 41 #[aA b] m λN A=>N=aO .nilIface/\Below (z<|G m) m A:=d;obtain⟨W,V,D⟩:=dC (λl(o:Below (z<|G m) m l)=>And.intro (rm (W2:=l) B C F g o) (L.de<|o.block _ L.lt)) O S;clear h C g B Q O w S L q3 d;rw[Xv];go_enter_defers func17,ntmps17
 go_wp2_with fail
 apply(lock_free (R b 0) _ X f0).mono;rintro N A⟨rfl,K⟩;rw[ae V]at K;subst A;go_wp2_with fail
 apply s.mono;rintro N l⟨rfl,o⟩;obtain⟨⟨q,v,k⟩,r⟩:=W l o;have ac:aT l (R b 16)=H (.map<|H mb):=by rw[<-ae D];exact q.cell rfl
 have E:=Kq (P:=bG) underlying108 r 3;have hl:y (AM x)=y x:=by simp[AM]
 rw[hl]at E;have e4:decide ((4:Z)<=(y x:Z))=bW:=pG (by omega);obtain⟨d0,g0,hF⟩:=k l v.KU<|Y.refl _ _;have T:=U hF;clear q v k o hF r s h4;go_wp2;refine eY (f:=40) (args:=#[aA b]) (by simp) (by simp[go_sem]) ?_;apply(unlock_deferred (R b 0) .returning _ d0 g0).mono;rintro N u' ad⟨rfl,rfl,rfl⟩;exact⟨_,kP rfl _ _ _,rfl,T⟩
end
