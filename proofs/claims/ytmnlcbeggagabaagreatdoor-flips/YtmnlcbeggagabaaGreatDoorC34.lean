import Derived.Test.YtmnlcbeggagabaaGreatDoorC31
import Derived.Test.YtmnlcbeggagabaaGreatDoorC32
open _root_ renaming List.length→y,Option.some→H,Array.size→z,Go.World.heap→G,Go.World.cell?→aS,Bool.false→bj,Bool.true→ci,Nat→M,Int→U,Go.Calls→cD,Go.Proofs.Tryz.prog→aZ,Go.Value.slice→J,Go.Value.bool→aK,Go.Value.pointer→dF,Go.Value.tuple→dd,Go.Value.agg→dD
namespace Go.Proofs.YtmnlcbeggagabaaGreatDoor
open ChangeShapes WideShapes RowKit Proofs.Tryz List
set_option maxHeartbeats 16000000
set_option linter.all false
set_option maxRecDepth 100000
variable{a f:Z}{b c g m x O:M}{i L:DK}{j p r s:cN}{k:U}{l:dJ}{n:dN}{o:SR}{v:ae}{F:Fs}{K:Bool}{Q:Prop}
def De(n p q r:Option Addr)(e j f c1 g c2 i c3:M)(h:cf a b o k)(C:o.l0=J n e j)(D:o.l1=J p f c1)(E:o.l2=J q g c2)(F:o.l3=J r i c3)(B:(o.fS:U)<o.mem)(S:jS o.nN 0 e=bj)(T:jS o.nN 1 f=bj)(V:jS o.nN 2 g=bj)(X:jS o.nN 3 i=bj)(hn:e<=1000000000/\f<=1000000000/\g<=1000000000/\i<=1000000000):cD aZ 27 #[aA b] a λx m=>x=aJ .nilIface/\I az a m:=by
 have P:=ar h;have k3:=cf.cellAt h 3 rfl;have k8:=cf.cellAt h 8 rfl;have O:decide (o.mem<=(o.fS:U))=bj:=by simpa using B
 have HH:=Y h;obtain⟨m0,m1,m2,m3⟩:=hn;clear h;go_in
 go_wp2;go_quiet(fail)
 rename_i KK A;show KK _ _;apply A;clear A;have l:I az a (a.drewN nq):=(I.refl az a).of_heap rfl;generalize a.drewN nq=c at l|-;have d:cf c b o k:=(l.block b P id).trans HH;have ao:aS c (R b 10)=H (J n e j):=by rw[<-C];exact d.cell rfl
 have au:aS c (R b 11)=H (J p f c1):=by rw[<-D];exact d.cell rfl
 have av:aS c (R b 12)=H (J q g c2):=by rw[<-E];exact d.cell rfl
 have ax:aS c (R b 13)=H (J r i c3):=by rw[<-F];exact d.cell rfl
 have aa:∀W,(Instr.index 93 (dD #[J n e j,J p f c1,J q g c2,J r i c3])<|aq 0).run aZ W=.ok (J n e j) W:=λ_=>by kernel_rfl
 have ac:∀W,(Instr.index 93 (dD #[J n e j,J p f c1,J q g c2,J r i c3])<|aq 1).run aZ W=.ok (J p f c1) W:=λ_=>by kernel_rfl
 have ad:∀W,(Instr.index 93 (dD #[J n e j,J p f c1,J q g c2,J r i c3])<|aq 2).run aZ W=.ok (J q g c2) W:=λ_=>by kernel_rfl
 have al:∀W,(Instr.index 93 (dD #[J n e j,J p f c1,J q g c2,J r i c3])<|aq 3).run aZ W=.ok (J r i c3) W:=λ_=>by kernel_rfl
 have s:=mJ 0 e n j d (by omega);have t:=mJ 1 f p c1 d (by omega);have u:=mJ 2 g q c2 d (by omega);have v:=mJ 3 i r c3 d (by omega);have s:cD aZ 61 #[aA b,aq 0,J n e j] c λx m=>x=aJ (aK bj)/\m=c:=by rw[<-S];exact s
 have t:cD aZ 61 #[aA b,aq 1,J p f c1] c λx m=>x=aJ (aK bj)/\m=c:=by rw[<-T];exact t
 have u:cD aZ 61 #[aA b,aq 2,J q g c2] c λx m=>x=aJ (aK bj)/\m=c:=by rw[<-V];exact u
 have v:cD aZ 61 #[aA b,aq 3,J r i c3] c λx m=>x=aJ (aK bj)/\m=c:=by rw[<-X];exact v
 have L:=Y l;clear d C D E F l k3 k8 S T V X O B m0 m1 m2 m3;go_wp2;go_loopw [3,20] (λo i wr=>∃(K:M),K<=4/\i=aq K/\o=aK bj/\wr=c) (λ_ i _=>4-(intOf i).toNat)
 case atStart=>exact⟨0,by omega,by go_num,rfl,rfl⟩
 (case round=>obtain⟨K,hj,rfl,rfl,an⟩:=hrel;subst wr;(have N:K=0\/K=1\/K=2\/K=3\/K=4:=by omega);rcases N with rfl|rfl|rfl|rfl|rfl;(·(go_wp2_with(go_at_call 61;refine s.mono ?_;rintro x w⟨rfl,Q⟩;subst w));go_roundw;(case rel=>exact⟨1,by omega,by go_num,rfl,trivial⟩);case measure=>simp[intOf]);(·(go_wp2_with(go_at_call 61;refine t.mono ?_;rintro x w⟨rfl,Q⟩;subst w));go_roundw;(case rel=>exact⟨2,by omega,by go_num,rfl,trivial⟩);case measure=>simp[intOf]);(·(go_wp2_with(go_at_call 61;refine u.mono ?_;rintro x w⟨rfl,Q⟩;subst w));go_roundw;(case rel=>exact⟨3,by omega,by go_num,rfl,trivial⟩);case measure=>simp[intOf]);(·(go_wp2_with(go_at_call 61;refine v.mono ?_;rintro x w⟨rfl,Q⟩;subst w));go_roundw;(case rel=>exact⟨4,by omega,by go_num,rfl,trivial⟩);case measure=>simp[intOf]);go_wp2;go_ret;exact⟨rfl,L⟩)
def CA.vw(l:CA Q i F)(k:Proofs.YtmnlcbeggagabaaGreatDoor.vw L.files=Proofs.YtmnlcbeggagabaaGreatDoor.vw i.files):CA Q L F:=λn d j=>by
 obtain⟨f,h,g⟩:=l n d j;have c:dB (Proofs.YtmnlcbeggagabaaGreatDoor.vw i.files) n=H f.bytes:=by rw[rV,h];rfl
 rw[<-k]at c;obtain⟨e,b,a⟩:=gR c;exact⟨e,b,by rw[a];exact g⟩
structure Yx(fs:Fs)(w w':Z)(db sb:M)(mem nN:U)(K:DK)(C tb lg:M)(ls:dJ)(a b c d:cN)(s:SR)(K':DK)(a' b' c' d':cN):Prop where
 box:cf w' sb s 0
 st:xw fs w' sb s K' (gp [] ls.flatten) a' b' c' d' C
 same:s.aM=db/\s.closed=bj/\s.mem=mem/\s.nN=nN/\s.aT=tb+y ls/\s.log=lg/\s.fS=(ls.map y).sum
 files:vw K'.files=vw K.files/\y K'.dM=y K.dM/\∀k,K'.aO db k->K.aO db k\/z (G w)+4<=k
 k0:jF a a'
 k1:jF b b'
 k2:jF c c'
 k3:jF d d'
 ap:I (λq=>K.aO db q\/q=sb) w w'
 size:z (G w)+4<=z (G w')
def MX(o d:U){N:M}(hX:CA Q i F)(hN:Yy i F)(n:rK F a b i j p r s c g x O N K l)(ho:1<=o/\o<=32/\2<=d/\d<=6)(bi:(((l.map y).sum:M):U)<o/\US d j p r):cD aZ 10 #[aA b,dD #[aq o,aq d]] a λD C=>(D=aJ (dd #[aA<|z (G a)+2,.nilIface])/\∃aF S u v w A,Yx F a C b (z (G a)+2) o d i c g N l j p r s aF S u v w A)\/Q/\∃q,D=aJ (dd #[dF none,ot q])/\vL C q/\I (λq=>i.aO b q\/q=z (G a)+2) a C:=by
 have L:=n.aM.lt;have ad:¬i.aO b (z (G a)+2):=λq=>by have:=L _ q;omega
 have bn:O<18446744073709551616:=by have:=n.nx;have:=n.AM;omega
 have ba:N<18446744073709551616:=by have:=n.oa.lt;omega
 have bm:=n.bn;have ax:=n.count;refine Kd b o d a ho (λW=>I az a W/\cf W (z (G a)+2) (SR.fresh b o d<|z (G a)+1) 0/\kN W (z (G a)+1) []/\z (G W)=z (G a)+4) (λW=>∃u0 u1 u2 u3 V u v w A,cf W (z (G a)+2) ((SR.fresh b o d<|z (G a)+1).lD u0 u1 u2 u3 O N g<|decide<|0<y i.files) 0/\OU F W b (z (G a)+2) i V u0 u1 u2 u3 j p r s u v w A/\I (λq=>i.aO b q\/q=z (G a)+2) a W/\kN W (z (G a)+1) []/\z (G a)+4<=z (G W)) (λW=>∃aF S u v w A,Yx F a W b (z (G a)+2) o d i c g N l j p r s aF S u v w A) (λW=>∃aF S u v w A,Yx F a W b (z (G a)+2) o d i c g N l j p r s aF S u v w A) (λW=>∃aF S u v w A,Yx F a W b (z (G a)+2) o d i c g N l j p r s aF S u v w A) (λW=>I (λq=>i.aO b q\/q=z (G a)+2) a W) (λW h1 h2 h3 h4=>⟨h1,h2,h3,h4⟩) ?_ ?_ ?_ ?_;rintro W⟨t,hb,bb,B⟩;apply(DX hb rfl ad hX hN<|n.ap t).mono;rintro D C(⟨rfl,u0,u1,u2,u3,X,⟨V,u,v,w,A,h⟩,k⟩|⟨hx,q,rfl,h,k⟩);have P:=k.size;refine .inl ⟨rfl,⟨u0,u1,u2,u3,V,u,v,w,A,X,h,(t.mono (T:=λq=>i.aO b q\/q=z (G a)+2) cC).trans k<|λ_ q=>.inl q,bb.di (k.block _ (by omega)<|λq=>q.elim (λq=>by have:=L _ q;omega)<|λq=>by omega),by omega⟩,?_⟩;exact k.block _ (by omega) (λq=>q.elim (λq=>by have:=L _ q;omega)<|λq=>by omega);exact .inr ⟨hx,q,rfl,h,(t.mono (T:=λq=>i.aO b q\/q=z (G a)+2) cC).trans k<|λ_ q=>.inl q⟩
 .rintro W⟨u0,u1,u2,u3,V,u,v,w,A,hb,h,t,bb,B⟩;have av:vw V.files=vw i.files:=by rw[h.same.1]
  have al:¬V.aO b (z (G a)+2):=λq=>ad<|h.same.2.2 _ q;have aa:Pow W:=n.pow.ap t<|λq=>q.elim n.lf (λq=>by have:=n.pow.lt;omega);have bh:Steps W:=Steps.ap n.steps t<|λq=>q.elim n.eL (λq=>by have:=n.steps.lt;omega);have bd:∀C,I (λq=>V.aO b q\/q=z (G a)+2) W C->C.heap[z (G a)+3]?=W.heap[z (G a)+3]?:=λC c=>c.block _ (by omega) (λq=>q.elim (λq=>by have:=L _<|h.same.2.2 _ q;omega)<|λq=>by omega);cases hlgd:K with
  |false=>
   have P:=n.oa.DJ hlgd;have aD:dB (vw V.files) (fD N)=none:=by
    rw[av];rcases hf:dB (vw i.files) (fD N)with _|bs
    .rfl
    .obtain⟨b0,hf⟩:=hN _ _ hf;rcases n.oa.names _ _ hf with D|⟨_,D⟩|⟨bc,t,D⟩
     .grind[nQ]
     .rw[hlgd]at D;cases D
     .exact absurd D.symm<|lC _ _
   apply(wG hb h.aM aa ba aD).mono;rintro D C⟨rfl,k⟩;have ac:=h.ap (k.mono (T:=λq=>q=z (G a)+2) cC) ad;have an:=t.bW k;have X:cf C (z (G a)+2) ((SR.fresh b o d<|z (G a)+1).lD u0 u1 u2 u3 O N g<|decide<|0<y i.files) 0:=(k.block _ (ar hb) id).trans hb;refine .inl ⟨rfl,⟨_,V,u,v,w,A,X,wz (s:=(SR.fresh b o d<|z (G a)+1).lD u0 u1 u2 u3 O N g<|decide<|0<y i.files) n ac an (by omega) rfl ?_ (λao q=>by cases q),⟨rfl,rfl,rfl,rfl,by rw[P];rfl,rfl,by rw[P];rfl⟩,⟨av,by rw[h.same.2.1],λao q=>.inl<|h.same.2.2 ao q⟩,h.k0,h.k1,h.k2,h.k3,an,aB B k.size⟩,k.block _ (by omega) id⟩;rw[P];exact⟨rfl,.inl ⟨rfl,rfl⟩⟩
  |true=>
   have bk:=n.Qt hlgd;have bf:y (jg ((g:U)+1) l)<=200000:=by
    have h1:=oT (f:=(g:U)+1)<|λbl a=>⟨n.lp.iH bl a,(n.lp.one bl a).2⟩;have h2:=yK<|λbl a=>(n.lp.one bl a).1;have h3:=n.lp.sum;omega
   obtain⟨fl,aU,P⟩:=hX _ _<|n.oa.log hlgd;have aV:dB (vw V.files) (fD N)=H fl.bytes:=by rw[av,rV,aU];rfl
   rcases P with P|⟨hx,P⟩
   .rw[P]at aV;have bg:Jf W V (z (G a)+2) ((SR.fresh b o d<|z (G a)+1).lD u0 u1 u2 u3 O N g<|decide<|0<y i.files) []:=⟨⟨z (G a)+1,rfl,bb,by omega,λq=>by have:=L _<|h.same.2.2 _ q;omega,by omega⟩,by simp⟩;refine(Dv l hb h.aM al aa bh ⟨by have:=n.steps.lt;omega,λq=>n.eL<|h.same.2.2 _ q⟩ ba n.lp aV (Dx bk) bf rfl rfl (by show g<=1000000000;have:=n.AM;omega) bg).mono ?_;rintro D C⟨rfl,mv,S,X,aD,E,e1,e2,e3⟩;have ac:OU F C b (z (G a)+2) i S u0 u1 u2 u3 j p r s u v w A:=⟨E.ok,⟨e1.trans h.same.1,e2.trans h.same.2.1,λao q=>h.same.2.2 ao<|e3 ao q⟩,h.l0.fE E<|λ_ _=>rfl,h.l1.fE E<|λ_ _=>rfl,h.l2.fE E<|λ_ _=>rfl,h.l3.fE E<|λ_ _=>rfl,h.k0,h.k1,h.k2,h.k3,h.Fb⟩;have an:I (λq=>i.aO b q\/q=z (G a)+2) a C:=t.trans E.ap<|λ_ q=>.inl<|q.imp (h.same.2.2 _) id;refine .inl ⟨rfl,⟨{((SR.fresh b o d<|z (G a)+1).lD u0 u1 u2 u3 O N g<|decide<|0<y i.files).qy mv (y l) (l.map y).sum with fa:=ci,vT:=bj,iQ:=ci},S,u,v,w,A,X,?_,⟨rfl,rfl,rfl,rfl,rfl,rfl,by simp[SR.qy,SR.lD,SR.fresh]⟩,⟨by rw[e1,av],by rw[e2,h.same.2.1],λao q=>.inl<|h.same.2.2 ao<|e3 ao q⟩,h.k0,h.k1,h.k2,h.k3,an,aB B E.ap.size⟩,bd C E.ap⟩;refine wz (s:={((SR.fresh b o d<|z (G a)+1).lD u0 u1 u2 u3 O N g<|decide<|0<y i.files).qy mv (y l) (l.map y).sum with fa:=ci,vT:=bj,iQ:=ci}) n ac an (by omega) rfl (by rw[<-(qX n.lp).1];exact dE aD)<|λao q=>?_;have h1:=aD.lt ao q;exact⟨h1.2,λg=>by have:=L _<|h.same.2.2 _<|e3 ao g;omega,by omega⟩
   .apply(MK l hb h.aM al aa bh (λq=>n.eL<|h.same.2.2 _ q) ba n.lp aV P bf (by show g<=1000000000;have:=n.AM;omega)).mono;rintro D C⟨q,rfl,ac,k⟩;exact .inr ⟨hx,q,rfl,ac,t.trans k<|λao r=>.inl<|.inl<|h.same.2.2 ao r⟩
 .rintro W⟨aF,K1,u,v,w,A,e⟩;obtain⟨es,ec,em,et,eb,el,au⟩:=e.same;subst es;have aD:y (u++v++w++A)<=1000000:=by
   have:=((e.k0.append e.k1).append<|e.k2).append e.k3;rw[this.lens];exact ax
  have ac:=((e.k0.append e.k1).append<|e.k2).append e.k3;have al:∀an bs,dB (vw K1.files) an=H bs->an=fm\/an=fD aF.log\/∃bc∈u++v++w++A,an=gu bc.num:=λan bs P=>by
   rw[e.files.1]at P;obtain⟨b0,aa⟩:=hN _ _ P;rcases n.oa.names an b0 aa with D|⟨D,_⟩|⟨bc,t,D⟩
   .exact .inl D
   .exact .inr<|.inl (by rw[el];exact D)
   .obtain⟨av,hu,e2⟩:∃av∈u++v++w++A,av.num=bc.num:=by
     have h1:(u++v++w++A).map bw.num=(j++p++r++s).map bw.num:=ac.map bw.num<|λ_=>rfl;have h2:bc.num∈(u++v++w++A).map bw.num:=by rw[h1];exact bM.2 ⟨bc,t,rfl⟩
     obtain⟨av,hu,D⟩:=bM.1 h2;exact⟨av,hu,D⟩
    exact .inr<|.inr ⟨av,hu,by rw[D,e2]⟩
  have aU:y K1.files<=100000000:=by
   have av:=e.st.aM.nodup;have aa:=rZ (l:=(vw K1.files).map (·.1)) (m:=fm::fD aF.log::(u++v++w++A).map (λbc=>gu bc.num)) av (λan hx=>by
    obtain⟨bs,P⟩:=ly hx;rcases al an bs P with D|D|⟨bc,t,D⟩
    .simp[D]
    .simp[D]
    grind)
   have e1:y ((vw K1.files).map (·.1))=y K1.files:=by simp[vw]
   rw[e1]at aa;grind
  refine(Ew u v w A e.box (e.st.WY e.box) (λbc t=>?_) e.st.lL.pow (by omega) (by omega) e.st.aM e.st.yO (by rw[e.files.2.1];have:=n.dM;have:=n.AM;omega) aU<|λan hx=>?_).mono ?_
  .rcases aG.1 t with t|t
   .rcases aG.1 t with t|t
    .rcases aG.1 t with t|t
     .exact qY<|e.st.l0.each bc t
     .exact qY<|e.st.l1.each bc t
    .exact qY<|e.st.l2.each bc t
   .exact qY<|e.st.l3.each bc t
  .have aa:an∈(vw K1.files).map (·.1):=by simpa[vw]using hx
   obtain⟨bs,P⟩:=ly aa;rcases al an bs P with D|D|av
   .exact .inl D
   .exact .inr<|.inl D
   .exact .inr<|.inr av
  .rintro D C⟨rfl,S,E,ef,av⟩;have B:=e.size;have aa:∀ao,K1.aO aF.aM ao->i.aO aF.aM ao\/z (G a)+4<=ao:=e.files.2.2;refine⟨rfl,⟨aF,S,u,v,w,A,(E.ap.block _ (ar e.box) e.st.yO).trans e.box,e.st.fE (ar e.box)<|gq.of E,⟨rfl,ec,em,et,eb,el,au⟩,⟨ef.trans e.files.1,av.trans e.files.2.1,λao r=>(E.aO ao r).elim (aa ao)<|λr=>.inr<|aB B r⟩,e.k0,e.k1,e.k2,e.k3,e.ap.trans E.ap (λao r=>(aa ao r).elim (λr=>.inl<|.inl r)<|λr=>.inr<|by omega),aB B E.ap.size⟩,?_⟩;exact E.ap.block _ (by omega) (λr=>by
    rcases aa _ r with r|r
    .have:=L _ r;omega
    .omega)
 rintro W⟨aF,K1,u,v,w,A,e⟩;obtain⟨es,ec,em,et,eb,el,au⟩:=e.same;subst es;obtain⟨x0,c0,P⟩:=bN e.st.l0.row;obtain⟨x1,c1,aa⟩:=bN e.st.l1.row;obtain⟨x2,c2,ac⟩:=bN e.st.l2.row;obtain⟨x3,c3,al⟩:=bN e.st.l3.row;have q0:=e.k0.lens;have q1:=e.k1.lens;have q2:=e.k2.lens;have q3:=e.k3.lens;obtain⟨t0,t1,t2,t3⟩:=bi;refine(De x0 x1 x2 x3 _ c0 _ c1 _ c2 _ c3 e.box P aa ac al (by rw[au,em];exact t0) ?_ ?_ ?_ ?_ (by simp only[ag]at ax;omega)).mono ?_;simp[jS];omega;simp[jS];omega;simp[jS];omega;simp[jS];rintro D C⟨rfl,k⟩;have B:=e.size;exact⟨rfl,⟨aF,K1,u,v,w,A,(k.block _ (ar e.box) id).trans e.box,e.st.fE (ar e.box)<|oJ e.st.aM k,⟨rfl,ec,em,et,eb,el,au⟩,e.files,e.k0,e.k1,e.k2,e.k3,e.ap.bW k,aB B k.size⟩,k.block _ (by omega) id⟩
def Qz{F:cX}(hL:xz a b i j p r s c g m x O K l)(A:mS i.files v=H F)(E:iY n F.bytes)(t:oA a f b i L)(D:L.files=mB i.files {F with bytes:=n})(N:L.dM=i.dM):CA True L (vw i.files)/\Yy L (vw i.files)/\rK (vw i.files) f b L j p r s c g m x O K l:=by
 have q:F.name=v:=(iS A).1;have e:∀u,dB (vw L.files) u=if F.name=u then H n else dB (vw i.files) u:=λu=>by rw[D,AK,sa]
 refine⟨λu B o=>?_,λu B o=>?_,?_⟩;have d:=e u;split at d;rename_i C;obtain⟨w,k,h⟩:=gR d;refine⟨w,k,.inr ⟨trivial,?_⟩⟩;rw[<-C,q,rV,A]at o;cases o;rw[h];exact E;rw[o]at d;obtain⟨w,k,h⟩:=gR d;exact⟨w,k,.inl h⟩;have d:=e u;rw[o]at d;split at d;rename_i C;exact⟨F.bytes,by rw[<-C,q,rV,A];rfl⟩;exact⟨B,d.symm⟩;have h:∀k,k<z (G a)->L.aO b k->i.aO b k:=λk d r=>(t.aO k r).elim id (λr=>by omega);exact{hL with aM:=t.ok,dM:=by rw[N];exact hL.dM,steps:=Steps.ap hL.steps t.ap hL.eL,pow:=hL.pow.ap t.ap hL.lf,eL:=λr=>hL.eL<|h _ hL.steps.lt r,lf:=λr=>hL.lf (h _ hL.pow.lt r)}
