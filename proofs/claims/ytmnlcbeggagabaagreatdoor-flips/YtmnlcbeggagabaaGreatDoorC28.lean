import Derived.Test.YtmnlcbeggagabaaGreatDoorC25
open _root_ renaming List.length→y,Option.some→H,Array.size→z,Go.World.heap→G,Go.Value.ownBlock→cz,Go.World.cell?→aS,Go.World.setCell→cA,Go.World.alloc→cG,Bool.false→bj,Bool.true→ci,Nat→M,Int→U,List→cS,Go.Calls→cD,Go.undef→ix,Go.Proofs.Tryz.prog→aZ,Go.Value.slice→J,Go.Value.bool→aK,Go.Value.pointer→dF
namespace Go.Proofs.YtmnlcbeggagabaaGreatDoor
open ChangeShapes WideShapes RowKit Proofs.Tryz List
set_option maxHeartbeats 16000000
set_option linter.all false
set_option maxRecDepth 100000
variable{a:Z}{b c g:M}{e N:cI}{i:DK}{j r s:cN}{k:U}{l:dJ}{o:SR}
def Dg(mv:ab){bh:cN}(gc ec:M)(h:cf a b o k)(w:ST a b o i e j r s bh c)(cn:((j++r++s++bh).map bw.tb).Nodup)(fv:PR g (bY j r s bh))(hm:jU a mv N)(fb:∀k,cz mv=H k->k<z (G a))(fk:dK N)(gb:qE 5 N)(fe:∀ht∈N,ht.Good)(hc:y N<=100)(eB:∀ht∈N,(g:U)<ht.bJ)(ex:∀ht∈N,ht.bJ<=ec)(fL:g<=ec)(hL:y (bZ j)+y (bZ r)+y (bZ s)+y (bZ bh)+y N<=gc)(ha:gc<=1000000)(fz:2<=o.nN)(hI:RV (vw i.files) o.next o.log g j r s bh o.fa l)(hk:y (jg ((g:U)+1) l)<=200000)(hC:ec<1000000000000000)(hg:o.next<=900000000000000)(hd:y i.dM<=10000000000)(sn:gv)(fx:Jf a i b o sn):cD aZ 62 #[aA b,mv,aE ec] a λgf w'=>gf=aJ .nilIface/\∃v0 v1 v2 v3 K' num a' b' c' d',IV a w' b o k ec gc i (sC sn) (λhq=>ft hq<|N::bY j r s bh) v0 v1 v2 v3 K' num a' b' c' d'/\US o.nN a' b' c':=by
 have fw:=ar h;have bp:=w.XH (C':=gc) fw cn (by omega) ha;have ck:=λf wr v0 v1 v2 v3 a1 b1 c1 d1 b a=>Df f gc ec (sC sn) (λhq=>ft hq<|N::bY j r s bh) wr v0 v1 v2 v3 a1 b1 c1 d1 b a h w hI hk hC hg hd;obtain⟨y0,z0,dk⟩:=bN w.l0.row;obtain⟨y1,z1,dm⟩:=bN w.l1.row;obtain⟨y2,z2,dn⟩:=bN w.l2.row;obtain⟨y3,z3,ds⟩:=bN w.l3.row;have hD:aS a (R b 10)=H (J y0 (y j) z0):=by rw[<-dk];exact h.cell rfl
 have hE:aS a (R b 11)=H (J y1 (y r) z1):=by rw[<-dm];exact h.cell rfl
 have hF:aS a (R b 12)=H (J y2 (y s) z2):=by rw[<-dn];exact h.cell rfl
 have hG:aS a (R b 13)=H (J y3 (y bh) z3):=by rw[<-ds];exact h.cell rfl
 rw[dk,dm,dn,ds]at bp;obtain⟨L,db⟩:∃L,cG a (ay #[J y0 (y j) z0,J y1 (y r) z1,J y2 (y s) z2,J y3 (y bh) z3] 93)=L:=⟨_,rfl⟩;have bf:I az a L:=by rw[<-db];exact(cK _ _)
 have eo:L.heap[z<|G a]?=H (ay #[J y0 (y j) z0,J y1 (y r) z1,J y2 (y s) z2,J y3 (y bh) z3] 93 (0,0)):=by rw[<-db];exact aH _ rfl
 have cd:=bp.ap (bf.mono cC)<|(pT o.aM i).eQ bp.D bf cC;have em:cf L b o k:=(bf.block b fw id).trans h;have bc:=w.aM.lt;have cs:=w.yO;obtain⟨mx,mc,fl⟩:=bN hm;obtain⟨el,HM,gr,cB,cx,ei,V,x,ed⟩:=wY w hm fb fk fe fv ck cd eo;obtain⟨cM,bk,HH,gn,gi,ek,gg,hy,gs⟩:=wY bf em h eB ex cs bc fl fx;have hv:z (G L)=z (G a)+1:=by rw[<-db];simp
 clear h w cn fv hm fb fk fe eB ex hI ck bp cd eo bf em cs bc dk dm dn ds fx;subst fl;obtain⟨R0,bq⟩:∃R0:U->ae->Option ae,(λhq=>ft hq<|N::bY j r s bh)=R0:=⟨_,rfl⟩;obtain⟨f,hb⟩:∃f,z (G a)=f:=⟨_,rfl⟩;have eA:z (G a)<=f:=by omega
 have ej:=Y bq;have P:=af V;rw[bq]at P;clear V;have V:=Y P;rw[bq];clear P bq;have bE:=Y hb;by_cases hz:y N=0;(case' pos=>(have cl:¬(0:U)<(y N:U):=by omega);have d:N=[]:=aP hz;have O:=Y<|show LQ a b o k f i (j++r++s++bh) gc ec (sC sn) R0 L from⟨_,_,_,_,j,r,s,bh,[],x,by rw[<-af bE];exact ed,ei.mono fL,λhq _ q=>by rw[<-af ej,d];grind[lW],bk,cM.mono cC⟩;clear d;(go_in);(go_wp2_with fail);obtain⟨W7,Q⟩:∃W7,L=W7:=⟨_,rfl⟩;rw[Q];rw[Q]at O;clear Q)
 case' neg=>
  have cl:(0:U)<(y N:U):=by omega
  obtain⟨mg,mo,fn,ff,aa⟩:∃hB S,mx=H (R hB S)/\y N<=mc/\∀bi hw,(aI N)[bi]?=H hw->aS a (R hB<|S+bi)=H hw:=by
   obtain⟨_,⟨q1,q2⟩|⟨hB,S,hA,q1,q2,q3⟩⟩:=af HM
   .grind
   grind
  subst fn;have he:N≠[]:=λq=>hz (by rw[q];rfl);have dv:mg<z (G a):=gr mg rfl;have bg:I az a L.drew:=cM.bW<|cR az L;have cm:=Dc N mg mo mc L.drew (λbi hj=>bg.cell (el.lL.steps bi hj) id el.lL.eL.lt) (by have:=bg.size;omega) (λbi hw hj=>bg.cell (aa bi hw hj) id dv) ff (by omega) cx cB (λq m=>aB (gb.keys q m)<|by omega) (by omega);clear aa;go_in
  go_wp2_with fail
  rename_i QQ KK aF hh;have hS:L.drew.heap[f]?=H (ay #[J y0 (y j) z0,J y1 (y r) z1,J y2 (y s) z2,J y3 (y bh) z3] 93 (0,0)):=by rw[<-af bE];exact ed
  refine dL (λ(u:Z)=>u.heap[f]?=H (ay #[J y0 (y j) z0,J y1 (y r) z1,J y2 (y s) z2,J y3 (y bh) z3] 93 (0,0))) 8 (by kernel_rfl) ?_;refine eR 0 ?_;iterate 3 (refine iC (v:=?_) hS rfl (by kernel_rfl) ma rfl ?_ ?_;rotate_left;(focus(intro u hX;have x0:aS u (R f 0)=H (J y0 (y j) z0):=(by rw[bV hX];rfl);go_simp;try rfl));simp only[Act.put,eF,Nat.reduceAdd])
  apply ig;refine bC (i:=3) rfl rfl (by kernel_rfl) ?_;intro K3 au;go_simp;apply cm.mono;rintro gf B⟨d,t,hu,W,xb,X,rfl,hf⟩;obtain⟨fs,fr,aV⟩:=TS hf he cx cB hc;have ad:=(hf.ap.block f (ar hS) id).trans hS;refine au _ _ (λ_=>ad) ?_;clear au cm;try simp only[Act.put,eF]
  refine bC (i:=4) rfl rfl (by kernel_rfl) ?_;intro K4 av;go_simp;have dT:I az B (cG B<|ay #[aA d] 189):=(cK _ _);have er:=(dT.block f (ar ad) id).trans ad;refine av _ _ (λ_=>er) ?_;clear av;try simp only[Act.put,eF]
  refine bC (i:=5) rfl rfl (by kernel_rfl) ?_;intro K5 ax;go_simp;obtain⟨W5,aU⟩:∃W5,cG (cG B<|ay #[aA d] 189) (ay #[J y0 (y j) z0,aY (z<|G B) 0 1 1] 91)=W5:=⟨_,rfl⟩;have bt:I az B W5:=by rw[<-aU];exact dT.alloc _
  have br:=(bt.block f (ar ad) id).trans ad;have ch:W5.heap[z<|G B]?=H (ay #[aA d] 189 (0,0)):=by rw[<-aU];grind[eU,aH]
  have ba:W5.heap[z (G B)+1]?=H (ay #[J y0 (y j) z0,aY (z<|G B) 0 1 1] 91 (0,0)):=by rw[<-aU];exact aH _<|by simp
  rw[aU];refine ax _ _ (λ_=>br) ?_;clear ax aU;try simp only[Act.put,eF]
  refine bC (i:=6) rfl rfl (by kernel_rfl) ?_;intro K6 ac;go_simp;have F:I az L W5:=((cR az L).bW hf.ap).bW bt;have cj:=sS (z (G B)+1) 0 2 [((J y0 (y j) z0:ab),j),(aY (z<|G B) 0 1 1,[⟨d,bI 0 t,t,0⟩])] W5 (by
   intro n hi;have:n=0\/n=1:=by grind
   rcases this with rfl|rfl<;>(rw[bV ba];rfl)) (ar ba) (by
    intro n hi;have:n=0\/n=1:=by grind
    rcases this with rfl|rfl
    .exact F.row x.r0<|λk a=>⟨id,(x.b0 k a).1⟩
    .refine⟨rfl,.inr ⟨z (G B),0,1,rfl,ai _,λbi hw hj=>?_⟩⟩;rw[bV ch,dr];simpa[bw.ptr]using hj) (by
    intro n hi;have:n=0\/n=1:=by grind
    rcases this with rfl|rfl
    .exactλk a=>ah (x.b0 k a).1 F.size
    .exactλk a=>by cases a;grind) (by simp) (by have:=x.count;simp[lV];omega)
  apply cj.mono;rintro gf w6⟨v6,rfl,bs,bu⟩;have al:=(bu.block f (ar br) id).trans br;have cb:lV [((J y0 (y j) z0:ab),j),(aY (z<|G B) 0 1 1,[⟨d,bI 0 t,t,0⟩])]=y (j++[(⟨d,bI 0 t,t,0⟩:bw)]):=by simp[lV]
  have ca:pJ [((J y0 (y j) z0:ab),j),(aY (z<|G B) 0 1 1,[⟨d,bI 0 t,t,0⟩])]=(j++[(⟨d,bI 0 t,t,0⟩:bw)]).map bw.ptr:=by simp[pJ]
  rw[cb,ca]at bs;obtain⟨x6,c6,hl⟩:=aC bs;subst hl;refine ac _ _ (λ_=>al) ?_;clear ac cj;try simp only[Act.put,eF]
  refine bC (i:=7) rfl rfl (by kernel_rfl) ?_;intro K7 D;go_simp;refine D _ _ (λ_=>al) ?_;clear D;try simp only[Act.put,eF]
  refine bC (i:=8) rfl rfl (by kernel_rfl) ?_;intro K8 E;have x0:=cellAt al 0 rfl;have hr:=cZ (i:=0) al;go_simp;have K:I az L w6:=F.bW bu;have cu:I az B w6:=bt.bW bu;have co:NT.Ok w6 (z<|G L) ⟨⟨d,bI 0 t,t,0⟩,hu,W,xb,X⟩:=NT.Ok.ap fs cu<|λ_ _ q=>q;have en:=x.Xq (p:=⟨⟨d,bI 0 t,t,0⟩,hu,W,xb,X⟩) K co fr (fM bs F.size) (by
   grind)
  have bv:I (λq=>q=f) w6 (cA w6 (R f 0)<|J x6 (y<|j++[(⟨d,bI 0 t,t,0⟩:bw)]) c6):=(iV f w6);have cc:=en.other bv (λq m=>by grind);have cp:PR ec (bY (j++[(⟨d,bI 0 t,t,0⟩:bw)]) r s bh):=by
   rw[Dq,aV];exact ei.cons fL cB cx gn gi
  have O:=Y<|show LQ a b o k f i (j++r++s++bh) gc ec (sC sn) R0 (cA w6 (R f 0)<|J x6 (y<|j++[(⟨d,bI 0 t,t,0⟩:bw)]) c6)from⟨_,_,_,_,_,r,s,bh,_,cc,(aL al).trans rfl,cp,λhq _ q=>by rw[Dq,aV,<-af ej],(bv.block b (ah (ar bk) K.size)<|λq=>by omega).trans<|(K.block b (ar bk) id).trans bk,((cM.bW K).mono (T:=i.aO o.aM) cC).trans bv<|λq m=>.inr<|by omega⟩;refine E _ _ (λq=>(q rfl).elim) ?_;refine eN (by kernel_rfl) ?_ _;show KK _ _;apply aF;clear aF E cc en cp bv co cu K al bs bu ch ba br bt er dT ad fs fr aV hf hS x0 hr F cb ca;have bT:y (j++[(⟨d,bI 0 t,t,0⟩:bw)])=y j+1:=by simp
  rw[bT]at O;obtain⟨W7,Q⟩:∃W7,cA w6 (R f 0) (J x6 (y j+1) c6)=W7:=⟨_,rfl⟩;rw[Q];rw[Q]at O;clear Q bT;go_wp2_with fail
 all_goals
  clear cl;go_loopw [25] (λd wr=>∃(n:M)(ge:U),n<=4/\ge=n/\d=aq ge/\LQ a b o k f i (j++r++s++bh) gc ec (sC sn) R0 wr/\Yi o.nN f n wr) (λd _=>4-(intOf d).toNat)
  case atStart=>exact⟨0,0,by omega,rfl,rfl,O,λbi hj=>absurd hj<|gC bi⟩
  case round=>
   obtain⟨n,ge,hi,hI,rfl,cT,ce⟩:=hrel;have an:=Y ce;clear ce;by_cases h4:n<4
   .have O:=Y cT;have cE:=Y<|λ(wr:Z)(h:LQ a b o k f i (j++r++s++bh) gc ec (sC sn) R0 wr)=>h.step eA ek gs fz n h4;obtain⟨me,fd⟩:∃me:Z->M,∀W,me W=uF W f n:=⟨_,λ_=>rfl⟩;have ef:=Y fd;clear cT fd;obtain⟨LL,bo⟩:∃LL:Z->Prop,LL=Yi o.nN f n:=⟨_,rfl⟩;have bm:=Y (show∀W,LL W->jS o.nN n (uF W f n)=bj->Yi o.nN f (n+1) W fromλW h1 h2 bi hj=>by
     rw[bo]at h1;rcases tP.1 hj with q|q
     .exact h1 bi q
     .rw[q];exact h2)
    have gk:=Y (show∀W a,LL W->(∀bi,bi<n->uF a f bi=uF W f bi)->LL a fromλW a h1 h2=>by
     rw[bo]at h1|-;exactλbi hj=>by rw[h2 bi hj];exact h1 bi hj)
    rw[<-bo]at an;clear bo;rcases(show(n=0/\ge=0)\/(n=1/\ge=1)\/(n=2/\ge=2)\/(n=3/\ge=3)by omega)with⟨rfl,rfl⟩|⟨rfl,rfl⟩|⟨rfl,rfl⟩|⟨rfl,rfl⟩;all_goals
     clear hI;go_wp2_with fail
     go_loopw [9] (λ_ wr=>LQ a b o k f i (j++r++s++bh) gc ec (sC sn) R0 wr/\LL wr) (λ_ wr=>me wr)
     case atStart=>exact⟨O,an⟩
     case round=>
      obtain⟨hrel,eq⟩:=hrel;have HR:=Y hrel;have ao:=Y eq;obtain⟨p0,p1,p2,p3,n0,n1,n2,n3,q0,q1,q2,q3,ht,hH,hJ,hK,A,hx,C,dc,ev,fg⟩:=cE wr hrel;have bl:=Y ev;cases gT hx;have g0:=cellAt A 0 rfl;have g1:=cellAt A 1 rfl;have g2:=cellAt A 2 rfl;have g3:=cellAt A 3 rfl;have eg:=Y fg;have bn:=Y A;clear fg A hx hrel eq ev;cases hK
      .clear dc eg bn;go_wp2_with fail
       apply C.mono;rintro gf B⟨rfl,ho⟩;subst B;clear C g0 g1 g2 g3;go_wp2;go_roundw;case rel=>first|exact⟨1,1,by omega,rfl,rfl,HR,bm _ ao bl.symm⟩|exact⟨2,2,by omega,rfl,rfl,HR,bm _ ao bl.symm⟩|exact⟨3,3,by omega,rfl,rfl,HR,bm _ ao bl.symm⟩|exact⟨4,4,by omega,rfl,rfl,HR,bm _ ao bl.symm⟩
       case measure=>simp[intOf]
      .have cv:=Y<|dc rfl;clear dc;go_wp2_with fail
       apply C.mono;rintro gf B⟨rfl,ho⟩;subst B;clear C;go_wp2_with fail
       rename_i QQ KK aF;have hS:wr.drew.heap[f]?=H (ay #[J p0 n0 q0,J p1 n1 q1,J p2 n2 q2,J p3 n3 q3] 93 (0,0)):=af bn;refine kG (λ(u:Z)=>u.heap[f]?=H (ay #[J p0 n0 q0,J p1 n1 q1,J p2 n2 q2,J p3 n3 q3] 93 (0,0))) 6 (by kernel_rfl) ?_;refine lT 0 ?_;iterate 3 (refine yG (v:=?_) hS rfl (by kernel_rfl) ma rfl ?_ ?_;rotate_left;(focus(intro u hX;have x0:aS u (R f 0)=H (J p0 n0 q0):=(by rw[bV hX];rfl);have x1:aS u (R f 1)=H (J p1 n1 q1):=(by rw[bV hX];rfl);have x2:aS u (R f 2)=H (J p2 n2 q2):=(by rw[bV hX];rfl);have x3:aS u (R f 3)=H (J p3 n3 q3):=(by rw[bV hX];rfl);go_simp;try rfl));simp only[Act.put,eF,Nat.reduceAdd])
       apply qo;refine gH (i:=3) rfl rfl (by kernel_rfl) ?_;intro K3 au;go_simp;apply(eg wr.drew<|cR _ _).mono;rintro gf wm⟨vm,lm,rfl,fu,dx,ea⟩;obtain⟨hs,gE,hn⟩:=aC dx;subst hn;have bb:=cv wm hs gE lm ea dx fu;have es:wm.heap[f]?=H (ay #[J p0 n0 q0,J p1 n1 q1,J p2 n2 q2,J p3 n3 q3] 93 (0,0)):=(ea.block f (ar bn) id).trans bn;refine au _ _ (λ_=>es) ?_;try simp only[Act.put,eF]
       refine gH (i:=4) rfl rfl (by kernel_rfl) ?_;intro K4 av;go_simp;apply bb.mono;rintro gf B⟨r0,r1,r2,r3,m0,m1,m2,m3,t0,t1,t2,t3,rfl,m,et,bd,ey⟩;have gj:=Y ey;clear ey;have g0:=cellAt m 0 rfl;have f0:=cZ (i:=0) m;have g1:=cellAt m 1 rfl;have f1:=cZ (i:=1) m;have g2:=cellAt m 2 rfl;have f2:=cZ (i:=2) m;have g3:=cellAt m 3 rfl;have f3:=cZ (i:=3) m;have gx:=Y et;have cw:=Y bd;clear et bd;refine av _ _ (λ_=>m) ?_;try simp only[Act.put,eF]
       refine gH (i:=5) rfl rfl (by kernel_rfl) ?_;intro K5 ax;go_simp;refine ax _ _ (λ_=>m) ?_;try simp only[Act.put,eF]
       clear au av ax;apply Fk KK
       .intro eb;refine CQ (i:=6) (j:=7) rfl rfl rfl rfl (by kernel_rfl) ?_ ?_
        .intro K6 ac;go_simp;refine ac _ _ (λs=>(by omega)) ?_;try simp only[Act.put,eF]
         refine CQ (i:=7) (j:=8) rfl rfl rfl rfl (by kernel_rfl) ?_ ?_
         .intro K7 D;go_simp;refine D _ _ (λs=>(by omega)) ?_;try simp only[Act.put,eF]
          refine gH (i:=8) rfl rfl (by kernel_rfl) ?_;intro K8 E;go_simp;refine E _ _ (λs=>(by omega)) ?_;try simp only[Act.put,eF]
          refine gH (i:=9) rfl rfl (by kernel_rfl) ?_;intro K9 aD;go_simp;refine aD _ _ (λs=>(by omega)) ?_;try simp only[Act.put,eF]
          refine kH (by kernel_rfl) ?_ _;exact eb
         .intro K8 E;go_simp;refine E _ _ (λs=>(by omega)) ?_;try simp only[Act.put,eF]
          refine gH (i:=7) rfl rfl (by kernel_rfl) ?_;intro K7 D;go_simp;refine D _ _ (λs=>(by omega)) ?_;try simp only[Act.put,eF]
          refine gH (i:=9) rfl rfl (by kernel_rfl) ?_;intro K9 aD;go_simp;refine aD _ _ (λs=>(by omega)) ?_;try simp only[Act.put,eF]
          refine kH (by kernel_rfl) ?_ _;exact eb
        .intro K7 D;go_simp;refine D _ _ (λs=>(by omega)) ?_;try simp only[Act.put,eF]
         refine gH (i:=6) rfl rfl (by kernel_rfl) ?_;intro K6 ac;go_simp;refine ac _ _ (λs=>(by omega)) ?_;try simp only[Act.put,eF]
         refine gH (i:=8) rfl rfl (by kernel_rfl) ?_;intro K8 E;go_simp;refine E _ _ (λs=>(by omega)) ?_;try simp only[Act.put,eF]
         refine gH (i:=9) rfl rfl (by kernel_rfl) ?_;intro K9 aD;go_simp;refine aD _ _ (λs=>(by omega)) ?_;try simp only[Act.put,eF]
         refine kH (by kernel_rfl) ?_ _;exact eb
       apply aF;clear aF hS es dx ea fu m bb;go_wp2;go_roundw;case rel=>exact⟨gx,gk _ _ ao gj⟩
       case measure=>
        rw[af ef,af ef];exact cw
   .obtain⟨rfl,rfl⟩:n=4/\ge=4:=by omega
    clear hI;obtain⟨v0,v1,v2,v3,a1,b1,c1,d1,hp,hV⟩:=cT;obtain⟨p0,q0,rfl⟩:=bN hV.ls.r0;obtain⟨p1,q1,rfl⟩:=bN hV.ls.r1;obtain⟨p2,q2,rfl⟩:=bN hV.ls.r2;obtain⟨p3,q3,rfl⟩:=bN hV.ls.r3;have g0:=cellAt hV.lb 0 rfl;have g1:=cellAt hV.lb 1 rfl;have g2:=cellAt hV.lb 2 rfl;have g3:=cellAt hV.lb 3 rfl;have gt:=Y<|λa' b' c' d'(q:YA a1 b1 c1 d1 a' b' c' d')=>(af an).tid hV.lb q;have bx:=Y<|V f wr _ _ _ _ a1 b1 c1 d1 hp hV;clear hV;go_wp2_with fail
    apply bx.mono;rintro gf B⟨rfl,K',num,a',b',c',d',hO,eu⟩;have HO:=Y hO;have HT:=Y<|gt _ _ _ _ eu;clear hO eu bx;go_wp2;go_ret;exact⟨rfl,_,_,_,_,K',num,a',b',c',d',HO,HT⟩
def BE{P:Program}{d:Array Oper}{Q:Exit->Act->Z->Prop}{e:Region.Mode}{S:Z->Prop}{i m:M}{o:Oper}{c:Array Bool}{l:Act}(n:d[i]?=H o)(p:Region.wanted o (yielded d l.tmps)=ci)(k:Region.ready e d c=[i])(r:∀K:Act->Z->Prop,(∀g f,(i<m->S f)->mQ P e d Q S m b (c.setIfInBounds i ci) g f->K g f)->Oper.wp P o l a K Q):mQ P e d Q S m (b+1) c l a:=by
 refine⟨λh=>(by rw[k]at h;cases h),λq j=>?_⟩;rw[k]at j;obtain rfl:q=i:=by simpa using j
 unfold wpOp;grind
def AF(a c:cS cN)(j:M):Prop:=∀i,i<j->y (a.getD i [])=y (c.getD i [])/\jT (a.getD i [])=jT (c.getD i [])
def AF.nx{a d:cS cN}(h:AF a d c)(e:y (a.getD c [])=y (d.getD c []))(f:jT (a.getD c [])=jT (d.getD c [])):AF a d (c+1):=λi g=>by
 rcases tP.1 g with q|rfl;exact h i q;exact⟨e,f⟩
def IS(ac:Z)(c o:M)(p0 p1 p2 p3 q0 q1 q2 q3:ab)(x C D E K L N O:cN)(e:∀W,I az ac W->(aS W (R c 10)=H p0/\aS W (R c 11)=H p1/\aS W (R c 12)=H p2/\aS W (R c 13)=H p3)/\(aS W (R o 0)=H q0/\aS W (R o 1)=H q1/\aS W (R o 2)=H q2/\aS W (R o 3)=H q3)/\(iK W p0 x/\iK W p1 C/\iK W p2 D/\iK W p3 E)/\(iK W q0 K/\iK W q1 L/\iK W q2 N/\iK W q3 O))(hc:jT x<=1000000000/\jT C<=1000000000/\jT D<=1000000000/\jT E<=1000000000/\jT K<=1000000000/\jT L<=1000000000/\jT N<=1000000000/\jT O<=1000000000):cD aZ 132 #[dF<|H<|R c 10,aA o] ac λax w'=>∃aU,ax=aJ (aK aU)/\(aU=ci->AF [x,C,D,E] [K,L,N,O] 4)/\I az ac w':=by
 have one:∀(k j:M)(p q:ab)(g b:cN),(∀W,I az ac W->(aS W (R c k)=H p/\aS W (R o j)=H q)/\iK W p g/\iK W q b)->jT g<=1000000000->jT b<=1000000000->∃(aa:Z->Prop)(an f:Option Addr)(ad al:M)(A B:cN),(∀W,I az ac W->aa W/\iK W (J an (y A) ad) A/\iK W (J f (y B) al) B)/\(∀a,aa a->aS a (R c k)=H (J an (y A) ad)/\aS a (R o j)=H (J f (y B) al))/\jT A<=1000000000/\jT B<=1000000000/\A=g/\B=b:=by intro k j p q g b h aF aD;obtain⟨_,s,t⟩:=h ac<|I.refl _ ac;obtain⟨an,ad,rfl⟩:=bN s.row;obtain⟨f,al,rfl⟩:=bN t.row;exact⟨_,an,f,ad,al,g,b,h,λa h=>h,aF,aD,rfl,rfl⟩
 have F:∀j,j<4->∃(aa:Z->Prop)(an f:Option Addr)(ad al:M)(A B:cN),(∀W,I az ac W->aa W/\iK W (J an (y A) ad) A/\iK W (J f (y B) al) B)/\(∀a,aa a->aS a (R c<|10+j)=H (J an (y A) ad)/\aS a (R o j)=H (J f (y B) al))/\jT A<=1000000000/\jT B<=1000000000/\A=[x,C,D,E].getD j []/\B=[K,L,N,O].getD j []:=by obtain⟨g,i,k,l,m0,m1,m2,m3⟩:=hc;intro j hj;rcases(show j=0\/j=1\/j=2\/j=3 by omega)with rfl|rfl|rfl|rfl;exact one 10 0 _ _ _ _ (λW d=>⟨⟨(e W d).1.1,(e W d).2.1.1⟩,(e W d).2.2.1.1,(e W d).2.2.2.1⟩) g m0;exact one 11 1 _ _ _ _ (λW d=>⟨⟨(e W d).1.2.1,(e W d).2.1.2.1⟩,(e W d).2.2.1.2.1,(e W d).2.2.2.2.1⟩) i m1;exact one 12 2 _ _ _ _ (λW d=>⟨⟨(e W d).1.2.2.1,(e W d).2.1.2.2.1⟩,(e W d).2.2.1.2.2.1,(e W d).2.2.2.2.2.1⟩) k m2;exact one 13 3 _ _ _ _ (λW d=>⟨⟨(e W d).1.2.2.2,(e W d).2.1.2.2.2⟩,(e W d).2.2.1.2.2.2,(e W d).2.2.2.2.2.2⟩) l m3
 have HP:=Y F;clear e hc one F;generalize [x,C,D,E]=As at HP|-;generalize [K,L,N,O]=Bs at HP|-;go_in
 go_wp2;go_loopw [6] (λav wr=>∃j:M,j<=4/\av=aq j/\AF As Bs j/\I az ac wr) (λav _=>4-(intOf av).toNat)
 case atStart=>exact⟨0,by omega,by go_num,λav a=>absurd a<|gC av,I.refl _ _⟩
 (case round=>obtain⟨j,hj,rfl,m,ht⟩:=hrel;by_cases h4:j<4;(.obtain⟨aa,an,f,ad,al,A,B,d,hX,aF,aD,eA,eB⟩:=HP j h4;have ao:=Y<|show y A=y B->jT A=jT B->AF As Bs (j+1)fromλa c=>m.nx (by rw[<-eA,<-eB];exact a) (by rw[<-eA,<-eB];exact c);clear m eA eB;have t:=ht.bW<|cR az wr;obtain⟨k,hL,_⟩:=d wr.drew t;have p:=yX hL aF;have HQ:=Y<|λW(a:I az ac W)=>And.intro (d W a).1 (yX (d W a).2.2 aD);have HT:=Y t;clear ht t d hL;rcases(show j=0\/j=1\/j=2\/j=3 by omega)with rfl|rfl|rfl|rfl;(all_goals simp only[Nat.reduceAdd]at hX;have w:=Y hX;clear hX;by_cases l:y A=y B;(.have el:((y A:U)!=(y B:U))=bj:=bne_eq_false_iff_eq.2 (by omega);have u:=Y l;clear l;obtain⟨eb,ec⟩:∃eb,((jT A:U)!=(jT B:U))=eb:=⟨_,rfl⟩;(go_wp2_with fail);rename_i QQ KK i;refine kG aa 28 (by kernel_rfl) ?_;refine lT 0 ?_;(iterate 19 (refine sw (v:=?_) k rfl (by kernel_rfl) (λ_ _ _ h=>h) (Or.inl ⟨by rfl,?_⟩) ?_;rotate_left;(focus(intro a n;obtain⟨z0,z1⟩:=w a n;go_simp;try with_reducible rfl));simp only[Act.put,Nat.reduceAdd,cP,ee,dQ,cQ,cq,cy]));apply qo;refine lT 20 ?_;(iterate 5 (refine sw (v:=?_) k rfl (by kernel_rfl) (λ_ _ _ h=>h) (Or.inl ⟨by rfl,?_⟩) ?_;rotate_left;(focus(intro a n;obtain⟨z0,z1⟩:=w a n;go_simp;try with_reducible rfl));simp only[Act.put,Nat.reduceAdd,cP,ee,dQ,cQ,cq,cy]));apply qo;refine BE (i:=19) rfl (by rfl) (by kernel_rfl) ?_;intro K1 P;go_simp;apply p.mono;rintro ax W1⟨rfl,T⟩;have r:=HT.bW<|I.aQ (S:=az) T;obtain⟨S,X⟩:=HQ W1 r;have au:=Y r;refine P _ _ (λ_=>S) ?_;(try simp only[Act.put,cP,ee,dQ,cQ,cq,cy]);clear P T r p k S;refine BE (i:=25) rfl (by rfl) (by kernel_rfl) ?_;intro K2 Q;go_simp;apply X.mono;rintro ax W2⟨rfl,V⟩;have s:=au.bW<|I.aQ (S:=az) V;have k:=(HQ W2 s).1;have g:=Y s;refine Q _ _ (λ_=>k) ?_;(try simp only[Act.put,cP,ee,dQ,cQ,cq,cy]);clear Q V s X;refine lT 26 ?_;(iterate 2 (refine sw (v:=?_) k rfl (by kernel_rfl) (λ_ _ _ h=>h) (Or.inl ⟨by rfl,?_⟩) ?_;rotate_left;(focus(intro a n;obtain⟨z0,z1⟩:=w a n;go_simp;try with_reducible rfl));simp only[Act.put,Nat.reduceAdd,cP,ee,dQ,cQ,cq,cy]));apply qo;refine kH (by kernel_rfl) ?_ _;show KK _ _;apply i;clear i k;cases eb;(.have HN:=Y<|ao u (by have:=bne_eq_false_iff_eq.1 ec;omega);go_wp2;go_roundw;(case rel=>first|exact⟨1,by omega,by go_num,HN,g⟩|exact⟨2,by omega,by go_num,HN,g⟩|exact⟨3,by omega,by go_num,HN,g⟩|exact⟨4,by omega,by go_num,HN,g⟩);case measure=>simp[intOf]);go_wp2;go_ret;exact⟨bj,rfl,(λq=>by cases q),g⟩);(.have el:((y A:U)!=(y B:U))=ci:=yB.2 (by omega);clear l;(go_wp2_with fail);rename_i QQ KK i;refine kG aa 28 (by kernel_rfl) ?_;refine lT 0 ?_;(iterate 14 (refine sw (v:=?_) k rfl (by kernel_rfl) (λ_ _ _ h=>h) (Or.inl ⟨by rfl,?_⟩) ?_;rotate_left;(focus(intro a n;obtain⟨z0,z1⟩:=w a n;go_simp;try with_reducible rfl));simp only[Act.put,Nat.reduceAdd,cP,ee,dQ,cQ,cq,cy]));apply qo;refine lT 14 ?_;(iterate 13 (refine sw (v:=ix) k rfl (by kernel_rfl) (λ_ _ _ h=>h) (Or.inr ⟨by rfl,rfl⟩) ?_;simp only[Act.put,Nat.reduceAdd,cP,ee,dQ,cQ,cq,cy]));apply qo;refine lT 27 ?_;(iterate 1 (refine sw (v:=?_) k rfl (by kernel_rfl) (λ_ _ _ h=>h) (Or.inl ⟨by rfl,?_⟩) ?_;rotate_left;(focus(intro a n;obtain⟨z0,z1⟩:=w a n;go_simp;try with_reducible rfl));simp only[Act.put,Nat.reduceAdd,cP,ee,dQ,cQ,cq,cy]));apply qo;refine kH (by kernel_rfl) ?_ _;show KK _ _;apply i;clear i k p;go_wp2;go_ret;exact⟨bj,rfl,(λq=>by cases q),HT⟩)));(obtain rfl:j=4:=by omega);have HT:=Y ht;have g:=Y m;clear ht m;go_wp2;go_ret;exact⟨ci,rfl,(λ_=>g),HT⟩)
