import Derived.Test.YtophdnlmpfmeiaaGreatDoorC30
namespace Go.Proofs.YtophdnlmpfmeiaaGreatDoor
open ChangeShapes WideShapes RowKit Proofs.Tryz
set_option maxHeartbeats 16000000
set_option linter.all false
set_option maxRecDepth 100000
def yz(ba:J)(sb:Nat)(ax:SR)(bi:Int)(dv:DK)(hB G:List E)(mv:M)(s bf bg bh:List ar)(C0 dT dx bd:Nat)(em:List (List E))(en:bX ba sb ax bi)(t:ST ba sb ax dv hB s bf bg bh C0)(dc:((s++bf++bg++bh).map ar.tb).Nodup)(gi:PR bd (bZ s bf bg bh))(hm:nT ba mv G)(fz:∀bi,mv.ownBlock=some bi->bi<ba.heap.size)(gb:fG G)(fL:∀hs∈G,hs.Good)(hb:G.length<=100)(fx:∀hs∈G,(bd:Int)<hs.bV)(fv:∀hs∈G,hs.bV<=dx)(gk:bd<=dx)(hC:(bN s).length+(bN bf).length+(bN bg).length+(bN bh).length+G.length<=dT)(gA:dT<=1000000)(hq:2<=ax.dw)(hI:Km (vw dv.files) ax.next ax.log bd s bf bg bh ax.bQ em)(hh:(jq ((bd:Int)+1) em).length<=200000)(hv:dx<1000000000000000)(hf:ax.next<=900000000000000)(hc:dv.cY.length<=10000000000):Calls prog 66 #[.pointer (some ⟨sb,0,none⟩),mv,.int .u64 dx] ba λcj w'=>cj=.returned .nilIface/\∃v0 v1 v2 v3 K' num a' b' c' d',CC ba w' sb ax bi dx dT dv (seen (G::bZ s bf bg bh)) v0 v1 v2 v3 K' num a' b' c' d':=by
 have gj:=ak en;have bx:=t.PY (C':=dT) gj dc (by omega) gA;have cM:=λa wr v0 v1 v2 v3 w y c1 x c b=>Fv ba sb ax bi a dv hB s bf bg bh C0 dT dx bd em (seen (G::bZ s bf bg bh)) wr v0 v1 v2 v3 w y c1 x c b en t hI hh hv hf hc;obtain⟨y0,z0,ef⟩:=bA t.l0.row;obtain⟨y1,z1,eg⟩:=bA t.l1.row;obtain⟨y2,z2,j⟩:=bA t.l2.row;obtain⟨y3,z3,ei⟩:=bA t.l3.row;have hw:ba.cell? ⟨sb,10,none⟩=some (.slice y0 s.length z0):=by rw[<-ef];exact en.cell rfl
 have hx:ba.cell? ⟨sb,11,none⟩=some (.slice y1 bf.length z1):=by rw[<-eg];exact en.cell rfl
 have hy:ba.cell? ⟨sb,12,none⟩=some (.slice y2 bg.length z2):=by rw[<-j];exact en.cell rfl
 have hA:ba.cell? ⟨sb,13,none⟩=some (.slice y3 bh.length z3):=by rw[<-ei];exact en.cell rfl
 rw[ef,eg,j,ei]at bx;obtain⟨L,ed⟩:∃L,ba.alloc (.cells #[.slice y0 s.length z0,.slice y1 bf.length z1,.slice y2 bg.length z2,.slice y3 bh.length z3] 107)=L:=⟨_,rfl⟩;have bs:I (λ_=>False) ba L:=by rw[<-ed];exact(I.refl _ _).alloc _
 have fs:L.heap[ba.heap.size]?=some (.cells #[.slice y0 s.length z0,.slice y1 bf.length z1,.slice y2 bg.length z2,.slice y3 bh.length z3] 107 (0,0)):=by rw[<-ed];exact az _ rfl
 have cx:=bx.ay (bs.mono (λ_ K=>K.elim)) ((ku ax.aH dv).dF bx.D bs (λ_ K=>K.elim));have ex:bX L sb ax bi:=(bs.block sb gj id).trans en;have ee:=t.aH.lt;have dn:=t.rf;obtain⟨mx,mc,hd⟩:=bA hm;have eu:=Z t;have HM:=Z hm;have gs:=Z fz;have eq:=Z gb;have ea:=Z fL;have es:=Z gi;have ad:=Z cM;have u:=Z cx;have eo:=Z fs;have eb:=Z bs;have bv:=Z ex;have gr:=Z fx;have gn:=Z fv;have bl:=Z dn;have hp:L.heap.size=ba.heap.size+1:=by rw[<-ed];simp
 clear en t dc gi hm fz gb fL fx fv hI cM bx cx fs bs ex dn ee ef eg j ei;subst hd;obtain⟨R0,bT⟩:∃R0,seen (G::bZ s bf bg bh)=R0:=⟨_,rfl⟩;obtain⟨a,ha⟩:∃a,ba.heap.size=a:=⟨_,rfl⟩;have an:ba.heap.size<=a:=by omega
 have et:=Z bT;have O:=Y ad;rw[bT]at O;clear ad;have ad:=Z O;rw[bT];clear O bT;have cl:=Z ha;by_cases hz:G.length=0;case' pos=>
  have cT:¬(0:Int)<(G.length:Int):=by omega
  have n:G=[]:=aG hz;have q:=Z (show CD ba sb ax bi a dv (s++bf++bg++bh) dT dx R0 L from⟨_,_,_,_,s,bf,bg,bh,[],Y u,by rw[<-Y cl];exact Y eo,(Y es).mono gk,λK=>by rw[<-Y et,n,qf],Y bv,(Y eb).mono (λ_ K=>K.elim)⟩);clear n;go_enter func66,ntmps66
  go_wp2_with fail
  obtain⟨W7,Q⟩:∃W7,L=W7:=⟨_,rfl⟩;rw[Q];rw[Q]at q;clear Q
 case' neg=>
  have cT:(0:Int)<(G.length:Int):=by omega
  obtain⟨mg,mo,gc,ao⟩:∃hi ch,mx=some ⟨hi,ch,none⟩/\∀hl hr,(aF G)[hl]?=some hr->ba.cell? ⟨hi,ch+hl,none⟩=some hr:=by
   obtain⟨_,⟨N,q2⟩|⟨hi,ch,ht,N,_,H⟩⟩:=Y HM
   ·exact absurd q2 hz
   ·cases N;exact⟨hi,ch,rfl,H⟩
  subst gc;have he:G≠[]:=λK=>hz (by rw[K];rfl);have ej:mg<ba.heap.size:=(Y gs) mg rfl;have bt:I (λ_=>False) ba L.drew:=(Y eb).trans (bS (λ_=>False) L) (λ_ K=>K.elim);have db:=yt G mg mo mc L.drew (λhl hj=>bt.cell ((Y eu).ju.steps hl hj) id (Y eu).ju.dQ.lt) (by have:=bt.size;omega) (λhl hr hj=>bt.cell (ao hl hr hj) id ej) (by omega) (Y ea) (by omega);clear ao;go_enter func66,ntmps66
  go_wp2_with fail
  rename_i QQ KK fn hg;have hS:L.drew.heap[a]?=some (.cells #[.slice y0 s.length z0,.slice y1 bf.length z1,.slice y2 bg.length z2,.slice y3 bh.length z3] 107 (0,0)):=by rw[<-Y cl];exact Y eo
  refine bM (λ(gt:J)=>gt.heap[a]?=some (.cells #[.slice y0 s.length z0,.slice y1 bf.length z1,.slice y2 bg.length z2,.slice y3 bh.length z3] 107 (0,0))) 8 (by kernel_rfl) ?_;refine da (i:=0) (v:=?_) rfl rfl (by kernel_rfl) (by kernel_rfl) (by kernel_rfl) (by kernel_rfl) (λ_ _ _ en=>en) (Or.inl ⟨by rfl,?_⟩) hS ?_;rotate_left
  ·intro gt hX;have x0:gt.cell? ⟨a,0,none⟩=some (.slice y0 s.length z0):=by rw[aj hX];rfl
   go_simp;try with_reducible rfl
  simp only[Act.put,ab,ae,af];refine da (i:=1) (v:=?_) rfl rfl (by kernel_rfl) (by kernel_rfl) (by kernel_rfl) (by kernel_rfl) (λ_ _ _ en=>en) (Or.inl ⟨by rfl,?_⟩) hS ?_;rotate_left
  ·intro gt hX;have x0:gt.cell? ⟨a,0,none⟩=some (.slice y0 s.length z0):=by rw[aj hX];rfl
   go_simp;try with_reducible rfl
  simp only[Act.put,ab,ae,af];refine da (i:=2) (v:=?_) rfl rfl (by kernel_rfl) (by kernel_rfl) (by kernel_rfl) (by kernel_rfl) (λ_ _ _ en=>en) (Or.inl ⟨by rfl,?_⟩) hS ?_;rotate_left
  ·intro gt hX;have x0:gt.cell? ⟨a,0,none⟩=some (.slice y0 s.length z0):=by rw[aj hX];rfl
   go_simp;try with_reducible rfl
  simp only[Act.put,ab,ae,af];refine aI (i:=3) rfl rfl (by kernel_rfl) ?_;intro K3 ey;go_simp;refine db.mono ?_;rintro cj w2⟨tb,n,ho,bJ,xb,eL,rfl,h⟩;obtain⟨gf,ge,al⟩:=LZ h he (Y ea) (Y eq) hb;have bb:=(h.ay.block a (ak hS) id).trans hS;refine ey _ _ (λ_=>bb) ?_;clear ey db;try simp only[Act.put,ab,ae,af]
  refine aI (i:=4) rfl rfl (by kernel_rfl) ?_;intro K4 fb;go_simp;have el:I (λ_=>False) w2 (w2.alloc (.cells #[.pointer (some ⟨tb,0,none⟩)] 199)):=(I.refl _ _).alloc _;have fu:=(el.block a (ak bb) id).trans bb;refine fb _ _ (λ_=>fu) ?_;clear fb;try simp only[Act.put,ab,ae,af]
  refine aI (i:=5) rfl rfl (by kernel_rfl) ?_;intro K5 fd;go_simp;obtain⟨W5,bo⟩:∃W5,(w2.alloc (.cells #[.pointer (some ⟨tb,0,none⟩)] 199)).alloc (.cells #[.slice y0 s.length z0,.slice (some ⟨w2.heap.size,0,none⟩) 1 1] 105)=W5:=⟨_,rfl⟩;have cc:I (λ_=>False) w2 W5:=by rw[<-bo];exact el.alloc _
  have ca:=(cc.block a (ak bb) id).trans bb;have bp:W5.heap[w2.heap.size]?=some (.cells #[.pointer (some ⟨tb,0,none⟩)] 199 (0,0)):=by rw[<-bo];exact(dL _ (by simp)).trans (az _ rfl)
  have bq:W5.heap[w2.heap.size+1]?=some (.cells #[.slice y0 s.length z0,.slice (some ⟨w2.heap.size,0,none⟩) 1 1] 105 (0,0)):=by rw[<-bo];exact az _ (by simp)
  rw[bo];refine fd _ _ (λ_=>ca) ?_;clear fd bo;try simp only[Act.put,ab,ae,af]
  refine aI (i:=6) rfl rfl (by kernel_rfl) ?_;intro K6 fe;go_simp;have D:I (λ_=>False) L W5:=((bS (λ_=>False) L).trans h.ay (λ_ K=>K.elim)).trans cc (λ_ K=>K.elim);have cB:=pt (w2.heap.size+1) 0 2 [((.slice y0 s.length z0:M),s),(.slice (some ⟨w2.heap.size,0,none⟩) 1 1,[⟨tb,aW 0 n,n,0⟩])] W5 (by
   intro i hi;have:i=0\/i=1:=by simp at hi;omega
   rcases this with rfl|rfl<;>(rw[aj bq];rfl)) (ak bq) (by
    intro i hi;have:i=0\/i=1:=by simp at hi;omega
    rcases this with rfl|rfl
    ·exact D.row (Y u).r0 (λbi a=>⟨id,((Y u).b0 bi a).1⟩)
    ·refine⟨rfl,.inr ⟨w2.heap.size,0,1,rfl,ai _,λhl hr hj=>?_⟩⟩;rw[aj bp,cw];simpa[ar.ptr]using hj) (by
    intro i hi;have:i=0\/i=1:=by simp at hi;omega
    rcases this with rfl|rfl
    ·exactλbi a=>ah ((Y u).b0 bi a).1 D.size
    ·exactλbi a=>by cases a;exact ak bp) (by simp) (by have:=(Y u).count;simp[jm];omega)
  refine cB.mono ?_;rintro cj w6⟨v6,rfl,cb,cd⟩;have P:=(cd.block a (ak ca) id).trans ca;have cs:jm [((.slice y0 s.length z0:M),s),(.slice (some ⟨w2.heap.size,0,none⟩) 1 1,[⟨tb,aW 0 n,n,0⟩])]=(s++[(⟨tb,aW 0 n,n,0⟩:ar)]).length:=by simp[jm]
  have cp:kW [((.slice y0 s.length z0:M),s),(.slice (some ⟨w2.heap.size,0,none⟩) 1 1,[⟨tb,aW 0 n,n,0⟩])]=(s++[(⟨tb,aW 0 n,n,0⟩:ar)]).map ar.ptr:=by simp[kW]
  rw[cs,cp]at cb;obtain⟨x6,c6,hk⟩:=aC cb;subst hk;refine fe _ _ (λ_=>P) ?_;clear fe cB;try simp only[Act.put,ab,ae,af]
  refine aI (i:=7) rfl rfl (by kernel_rfl) ?_;intro K7 fk;go_simp;refine fk _ _ (λ_=>P) ?_;clear fk;try simp only[Act.put,ab,ae,af]
  refine aI (i:=8) rfl rfl (by kernel_rfl) ?_;intro K8 fl;have x0:w6.cell? ⟨a,0,none⟩=some (.slice y0 s.length z0):=by rw[aj P];rfl
  have hn:w6.frozen? ⟨a,0,none⟩=false:=cG P;go_simp;have F:I (λ_=>False) L w6:=D.trans cd (λ_ K=>K.elim);have ds:I (λ_=>False) w2 w6:=cc.trans cd (λ_ K=>K.elim);have dk:NT.Ok w6 L.heap.size ⟨⟨tb,aW 0 n,n,0⟩,ho,bJ,xb,eL⟩:=NT.Ok.ay gf ds (λ_ _ K=>K);have fr:=(Y u).Pe (p:=⟨⟨tb,aW 0 n,n,0⟩,ho,bJ,xb,eL⟩) F dk ge (gI cb D.size) (by
   show _+(ar.all ⟨tb,aW 0 n,n,0⟩).length<=dT;rw[al];exact hC)
  have ce:I (λK=>K=a) w6 (w6.setCell ⟨a,0,none⟩ (.slice x6 (s++[(⟨tb,aW 0 n,n,0⟩:ar)]).length c6)):=(I.refl (λK=>K=a) w6).setCell _ _ _ (.inl rfl);have cv:=fr.other ce (λK b=>by subst b;exact⟨an,_,_,P⟩);have g:PR dx (bZ (s++[(⟨tb,aW 0 n,n,0⟩:ar)]) bf bg bh):=by
   rw[yH,al];exact(Y es).cons gk (Y eq) (Y ea) (Y gr) (Y gn)
  have q:=Z (show CD ba sb ax bi a dv (s++bf++bg++bh) dT dx R0 (w6.setCell ⟨a,0,none⟩ (.slice x6 (s++[(⟨tb,aW 0 n,n,0⟩:ar)]).length c6))from⟨_,_,_,_,_,bf,bg,bh,_,cv,(aL P).trans rfl,g,λK=>by rw[yH,al,<-Y et],(ce.block sb (ah (ak (Y bv)) F.size) (λK=>by omega)).trans ((F.block sb (ak (Y bv)) id).trans (Y bv)),(((Y eb).trans F (λ_ K=>K.elim)).mono (T:=dv.aS ax.aH) (λ_ K=>K.elim)).trans ce (λK b=>.inr (by omega))⟩);refine fl _ _ (λK=>(K rfl).elim) ?_;refine cr (by kernel_rfl) ?_ _;show KK _ _;refine fn _ _ ?_;clear fn fl cv fr g ce dk ds F P cb cd bp bq ca cc fu el bb gf ge al h hS x0 hn D cs cp;have cn:(s++[(⟨tb,aW 0 n,n,0⟩:ar)]).length=s.length+1:=by simp
  rw[cn]at q;obtain⟨W7,Q⟩:∃W7,w6.setCell ⟨a,0,none⟩ (.slice x6 (s.length+1) c6)=W7:=⟨_,rfl⟩;rw[Q];rw[Q]at q;clear Q cn;go_wp2_with fail
 all_goals
  clear cT;refine jZ 5 ?_;rw[fP];go_wp2_with fail
  go_loopw [9] (λ_ wr=>CD ba sb ax bi a dv (s++bf++bg++bh) dT dx R0 wr) (λ_ wr=>rZ wr a 0)
  case atStart=>exact Y q
  case round=>
   obtain⟨v0,v1,v2,v3,w,y,c1,x,ac,d⟩:=hrel;obtain⟨X,q0,S⟩:=bA d.ls.r0;obtain⟨p1,N,U⟩:=bA d.ls.r1;obtain⟨p2,q2,V⟩:=bA d.ls.r2;obtain⟨p3,H,W⟩:=bA d.ls.r3;subst S U V W;have g0:wr.cell? ⟨a,0,none⟩=some (.slice X w.length q0):=by rw[aj d.lb];rfl
   have g1:wr.cell? ⟨a,1,none⟩=some (.slice p1 y.length N):=by rw[aj d.lb];rfl
   have g2:wr.cell? ⟨a,2,none⟩=some (.slice p2 c1.length q2):=by rw[aj d.lb];rfl
   have g3:wr.cell? ⟨a,3,none⟩=some (.slice p3 x.length H):=by rw[aj d.lb];rfl
   have b:=nF wr sb ax bi 0 w.length X q0 d.box (by omega);by_cases h:qR ax.dw 0 w.length=true
   ·rw[h]at b;have B:0<w.length:=by
     unfold qR at h;simp at h;omega
    have e:=d.ls.PF d.pr B;have l:=λw2 u0 u1 u2 u3 n t c2 u k D F G K=>d.put (w2:=w2) (u0:=u0) (u1:=u1) (u2:=u2) (u3:=u3) (a':=n) (b':=t) (c':=c2) (d':=u) (ps':=k) an (Y bl) D F G K;have z:=Z l;have A:=qP g0;have bk:=Z A;clear d l A h;go_wp2_with fail
    refine b.mono ?_;rintro cj w2⟨rfl,bc⟩;subst w2;clear b;go_wp2_with fail
    refine e.mono ?_;rintro cj w2⟨xm,nm,cm,tm,k,rfl,j,g,m,C⟩;obtain⟨c,r⟩:=(Y z) w2 _ _ _ _ _ _ _ _ k j g m C;have g0:w2.cell? ⟨a,0,none⟩=some (.slice X w.length q0):=by rw[aj c];rfl
    have r0:w2.frozen? ⟨a,0,none⟩=false:=cG c;have g1:w2.cell? ⟨a,1,none⟩=some (.slice p1 y.length N):=by rw[aj c];rfl
    have r1:w2.frozen? ⟨a,1,none⟩=false:=cG c;have g2:w2.cell? ⟨a,2,none⟩=some (.slice p2 c1.length q2):=by rw[aj c];rfl
    have r2:w2.frozen? ⟨a,2,none⟩=false:=cG c;have g3:w2.cell? ⟨a,3,none⟩=some (.slice p3 x.length H):=by rw[aj c];rfl
    have r3:w2.frozen? ⟨a,3,none⟩=false:=cG c;have f:rZ ((((w2.setCell ⟨a,0,none⟩ (.slice none 0 0)).setCell ⟨a,1,none⟩ (.slice xm nm cm)).setCell ⟨a,2,none⟩ (.slice p2 c1.length q2)).setCell ⟨a,3,none⟩ (.slice p3 x.length H)) a 0<rZ wr a 0:=by
     have br:((((w2.setCell ⟨a,0,none⟩ (.slice none 0 0)).setCell ⟨a,1,none⟩ (.slice xm nm cm)).setCell ⟨a,2,none⟩ (.slice p2 c1.length q2)).setCell ⟨a,3,none⟩ (.slice p3 x.length H)).cell? ⟨a,0,none⟩=some (.slice none 0 0):=by rw[aj r.lb];rfl
     rw[Y bk,qP br];omega
    have bn:=Z r;have o:=Z f;clear c r j g m C e f;go_wp2;go_roundw;case rel=>exact⟨_,_,_,_,_,_,_,_,k,Y bn⟩
    case measure=>exact Y o
   ·rw[qC]at h;rw[h]at b;have q:=Z (show CD ba sb ax bi a dv (s++bf++bg++bh) dT dx R0 wr from⟨_,_,_,_,_,_,_,_,ac,d⟩);clear d h;go_wp2_with fail
    refine b.mono ?_;rintro cj w2⟨rfl,bc⟩;subst w2;clear b g0 g1 g2 g3;go_wp2_with fail
    rw[fP];go_wp2_with fail
    go_loopw [9] (λ_ wr=>CD ba sb ax bi a dv (s++bf++bg++bh) dT dx R0 wr) (λ_ wr=>rZ wr a 1)
    case atStart=>exact Y q
    case round=>
     obtain⟨v0,v1,v2,v3,w,y,c1,x,ac,d⟩:=hrel;obtain⟨X,q0,S⟩:=bA d.ls.r0;obtain⟨p1,N,U⟩:=bA d.ls.r1;obtain⟨p2,q2,V⟩:=bA d.ls.r2;obtain⟨p3,H,W⟩:=bA d.ls.r3;subst S U V W;have g0:wr.cell? ⟨a,0,none⟩=some (.slice X w.length q0):=by rw[aj d.lb];rfl
     have g1:wr.cell? ⟨a,1,none⟩=some (.slice p1 y.length N):=by rw[aj d.lb];rfl
     have g2:wr.cell? ⟨a,2,none⟩=some (.slice p2 c1.length q2):=by rw[aj d.lb];rfl
     have g3:wr.cell? ⟨a,3,none⟩=some (.slice p3 x.length H):=by rw[aj d.lb];rfl
     have b:=nF wr sb ax bi 1 y.length p1 N d.box (by omega);by_cases h:qR ax.dw 1 y.length=true
     ·rw[h]at b;have B:0<y.length:=by
       unfold qR at h;simp at h;omega
      have e:=d.ls.PE d.pr B;have l:=λw2 u0 u1 u2 u3 n t c2 u k D F G K=>d.put (w2:=w2) (u0:=u0) (u1:=u1) (u2:=u2) (u3:=u3) (a':=n) (b':=t) (c':=c2) (d':=u) (ps':=k) an (Y bl) D F G K;have z:=Z l;have A:=qP g1;have bk:=Z A;clear d l A h;go_wp2_with fail
      refine b.mono ?_;rintro cj w2⟨rfl,bc⟩;subst w2;clear b;go_wp2_with fail
      refine e.mono ?_;rintro cj w2⟨xl,nl,ec,xm,nm,cm,gv,ev,k,rfl,j,R,g,m,C⟩;have ek:nl=gv.length:=by
       obtain⟨_,_,cj⟩:=bA j.r1;cases cj;rfl
      obtain⟨c,r⟩:=(Y z) w2 _ _ _ _ _ _ _ _ k j g m C;have g0:w2.cell? ⟨a,0,none⟩=some (.slice X w.length q0):=by rw[aj c];rfl
      have r0:w2.frozen? ⟨a,0,none⟩=false:=cG c;have g1:w2.cell? ⟨a,1,none⟩=some (.slice p1 y.length N):=by rw[aj c];rfl
      have r1:w2.frozen? ⟨a,1,none⟩=false:=cG c;have g2:w2.cell? ⟨a,2,none⟩=some (.slice p2 c1.length q2):=by rw[aj c];rfl
      have r2:w2.frozen? ⟨a,2,none⟩=false:=cG c;have g3:w2.cell? ⟨a,3,none⟩=some (.slice p3 x.length H):=by rw[aj c];rfl
      have r3:w2.frozen? ⟨a,3,none⟩=false:=cG c;have f:rZ ((((w2.setCell ⟨a,0,none⟩ (.slice X w.length q0)).setCell ⟨a,1,none⟩ (.slice xl nl ec)).setCell ⟨a,2,none⟩ (.slice xm nm cm)).setCell ⟨a,3,none⟩ (.slice p3 x.length H)) a 1<rZ wr a 1:=by
       have br:((((w2.setCell ⟨a,0,none⟩ (.slice X w.length q0)).setCell ⟨a,1,none⟩ (.slice xl nl ec)).setCell ⟨a,2,none⟩ (.slice xm nm cm)).setCell ⟨a,3,none⟩ (.slice p3 x.length H)).cell? ⟨a,1,none⟩=some (.slice xl nl ec):=by rw[aj r.lb];rfl
       rw[Y bk,qP br];omega
      have bn:=Z r;have o:=Z f;clear c r j g m C e f ek R;go_wp2;go_roundw;case rel=>exact⟨_,_,_,_,_,_,_,_,k,Y bn⟩
      case measure=>exact Y o
     ·rw[qC]at h;rw[h]at b;have q:=Z (show CD ba sb ax bi a dv (s++bf++bg++bh) dT dx R0 wr from⟨_,_,_,_,_,_,_,_,ac,d⟩);clear d h;go_wp2_with fail
      refine b.mono ?_;rintro cj w2⟨rfl,bc⟩;subst w2;clear b g0 g1 g2 g3;go_wp2_with fail
      rw[fP];go_wp2_with fail
      go_loopw [9] (λ_ wr=>CD ba sb ax bi a dv (s++bf++bg++bh) dT dx R0 wr) (λ_ wr=>rZ wr a 2)
      case atStart=>exact Y q
      case round=>
       obtain⟨v0,v1,v2,v3,w,y,c1,x,ac,d⟩:=hrel;obtain⟨X,q0,S⟩:=bA d.ls.r0;obtain⟨p1,N,U⟩:=bA d.ls.r1;obtain⟨p2,q2,V⟩:=bA d.ls.r2;obtain⟨p3,H,W⟩:=bA d.ls.r3;subst S U V W;have g0:wr.cell? ⟨a,0,none⟩=some (.slice X w.length q0):=by rw[aj d.lb];rfl
       have g1:wr.cell? ⟨a,1,none⟩=some (.slice p1 y.length N):=by rw[aj d.lb];rfl
       have g2:wr.cell? ⟨a,2,none⟩=some (.slice p2 c1.length q2):=by rw[aj d.lb];rfl
       have g3:wr.cell? ⟨a,3,none⟩=some (.slice p3 x.length H):=by rw[aj d.lb];rfl
       have b:=nF wr sb ax bi 2 c1.length p2 q2 d.box (by omega);by_cases h:qR ax.dw 2 c1.length=true
       ·rw[h]at b;have B:0<c1.length:=by
         unfold qR at h;simp at h;omega
        have e:=d.ls.PD d.pr B;have l:=λw2 u0 u1 u2 u3 n t c2 u k D F G K=>d.put (w2:=w2) (u0:=u0) (u1:=u1) (u2:=u2) (u3:=u3) (a':=n) (b':=t) (c':=c2) (d':=u) (ps':=k) an (Y bl) D F G K;have z:=Z l;have A:=qP g2;have bk:=Z A;clear d l A h;go_wp2_with fail
        refine b.mono ?_;rintro cj w2⟨rfl,bc⟩;subst w2;clear b;go_wp2_with fail
        refine e.mono ?_;rintro cj w2⟨xl,nl,ec,xm,nm,cm,ev,hu,k,rfl,j,R,g,m,C⟩;have ek:nl=ev.length:=by
         obtain⟨_,_,cj⟩:=bA j.r2;cases cj;rfl
        obtain⟨c,r⟩:=(Y z) w2 _ _ _ _ _ _ _ _ k j g m C;have g0:w2.cell? ⟨a,0,none⟩=some (.slice X w.length q0):=by rw[aj c];rfl
        have r0:w2.frozen? ⟨a,0,none⟩=false:=cG c;have g1:w2.cell? ⟨a,1,none⟩=some (.slice p1 y.length N):=by rw[aj c];rfl
        have r1:w2.frozen? ⟨a,1,none⟩=false:=cG c;have g2:w2.cell? ⟨a,2,none⟩=some (.slice p2 c1.length q2):=by rw[aj c];rfl
        have r2:w2.frozen? ⟨a,2,none⟩=false:=cG c;have g3:w2.cell? ⟨a,3,none⟩=some (.slice p3 x.length H):=by rw[aj c];rfl
        have r3:w2.frozen? ⟨a,3,none⟩=false:=cG c;have f:rZ ((((w2.setCell ⟨a,0,none⟩ (.slice X w.length q0)).setCell ⟨a,1,none⟩ (.slice p1 y.length N)).setCell ⟨a,2,none⟩ (.slice xl nl ec)).setCell ⟨a,3,none⟩ (.slice xm nm cm)) a 2<rZ wr a 2:=by
         have br:((((w2.setCell ⟨a,0,none⟩ (.slice X w.length q0)).setCell ⟨a,1,none⟩ (.slice p1 y.length N)).setCell ⟨a,2,none⟩ (.slice xl nl ec)).setCell ⟨a,3,none⟩ (.slice xm nm cm)).cell? ⟨a,2,none⟩=some (.slice xl nl ec):=by rw[aj r.lb];rfl
         rw[Y bk,qP br];omega
        have bn:=Z r;have o:=Z f;clear c r j g m C e f ek R;go_wp2;go_roundw;case rel=>exact⟨_,_,_,_,_,_,_,_,k,Y bn⟩
        case measure=>exact Y o
       ·rw[qC]at h;rw[h]at b;have q:=Z (show CD ba sb ax bi a dv (s++bf++bg++bh) dT dx R0 wr from⟨_,_,_,_,_,_,_,_,ac,d⟩);clear d h;go_wp2_with fail
        refine b.mono ?_;rintro cj w2⟨rfl,bc⟩;subst w2;clear b g0 g1 g2 g3;go_wp2_with fail
        rw[fP];go_wp2_with fail
        go_loopw [9] (λ_ wr=>CD ba sb ax bi a dv (s++bf++bg++bh) dT dx R0 wr) (λ_ wr=>rZ wr a 3)
        case atStart=>exact Y q
        case round=>
         obtain⟨v0,v1,v2,v3,w,y,c1,x,ac,d⟩:=hrel;obtain⟨X,q0,S⟩:=bA d.ls.r0;obtain⟨p1,N,U⟩:=bA d.ls.r1;obtain⟨p2,q2,V⟩:=bA d.ls.r2;obtain⟨p3,H,W⟩:=bA d.ls.r3;subst S U V W;have g0:wr.cell? ⟨a,0,none⟩=some (.slice X w.length q0):=by rw[aj d.lb];rfl
         have g1:wr.cell? ⟨a,1,none⟩=some (.slice p1 y.length N):=by rw[aj d.lb];rfl
         have g2:wr.cell? ⟨a,2,none⟩=some (.slice p2 c1.length q2):=by rw[aj d.lb];rfl
         have g3:wr.cell? ⟨a,3,none⟩=some (.slice p3 x.length H):=by rw[aj d.lb];rfl
         have b:=nF wr sb ax bi 3 x.length p3 H d.box (by omega);have h:qR ax.dw 3 x.length=false:=by simp[qR]
         rw[h]at b;have cE:=(Y ad) a wr _ _ _ _ w y c1 x ac d;have ck:=Z cE;clear d h cE;go_wp2_with fail
         refine b.mono ?_;rintro cj w2⟨rfl,bc⟩;subst w2;clear b;go_wp2_with fail
         rw[fP];go_wp2_with fail
         refine(Y ck).mono ?_;rintro cj w2⟨rfl,K',num,a',b',c',d',hO⟩;have HO:=Z hO;clear hO ck;go_wp2;go_ret;exact⟨rfl,_,_,_,_,K',num,a',b',c',d',Y HO⟩
structure Inv(w:J)(sb:Nat)(s:SR)(K:DK)(m:List E)(a b c d:List ar)(C tb N:Nat)(ls:List (List E)):Prop where
 st:ST w sb s K m a b c d C
 nE:Km (vw K.files) s.next s.log tb a b c d s.bQ ls
 pr:PR tb (bZ a b c d)
 lp:CI ((tb:Int)+1) ls
 mem:m=cq [] ls.flatten
 Kl:s.aO=tb+ls.length
 MS:s.fF=(ls.map List.length).sum
 rq:s.rq=false
 BO:((a++b++c++d).map ar.tb).Nodup
 nx:s.next<=2+1000001*N
 bn:s.aO<=N
 cY:K.cY.length<=1000001+2*N
 MQ:1<=s.mem/\s.mem<=32/\2<=s.dw/\s.dw<=6
 loose:s.gT=true->s.bQ=true
 MR:s.bQ=true->ls≠[]
 jU:N<=100000000
def ST.Ml{w d:J}{sb:Nat}{s:SR}{K c:DK}{m:List E}{g j e k:List ar}{C:Nat}(h:ST w sb s K m g j e k C)(f:sb<w.heap.size)(a:eN w d s.aH sb K c)(b:∀n,cR (vw c.files) (eM n)=cR (vw K.files) (eM n)):ST d sb s c m g j e k C where
 mem:=sN h.mem a h.rI
 rI:=λe b=>(h.rI e b).eA a
 l0:=h.l0.eA a (λ_ _=>b _)
 l1:=h.l1.eA a (λ_ _=>b _)
 l2:=h.l2.eA a (λ_ _=>b _)
 l3:=h.l3.eA a (λ_ _=>b _)
 aH:=a.ok
 rf:=λe=>(a.aS sb e).elim h.rf (λb=>by omega)
 ju:=h.ju.eA a
 mG:=h.mG
 jU:=h.jU
 li:=h.li
 gU:=h.gU
 s1:=h.s1
 s2:=h.s2
 s3:=h.s3
def ST.Oh{w:J}{sb:Nat}{s b:SR}{K:DK}{u c:List E}{o p q r:List ar}{C C':Nat}(h:ST w sb s K u o p q r C)(x:b.aH=s.aH/\b.l0=s.l0/\b.l1=s.l1/\b.l2=s.l2/\b.l3=s.l3)(l:nT w b.memory c)(d:∀t,b.memory.ownBlock=some t->Aside w K s.aH sb t)(m:fG c)(k:∀z∈c,z.Good)(y:c.length+C<=C'+u.length)(n:C'<=1000000):ST w sb b K c o p q r C':=by
 obtain⟨a,e,f,g,j⟩:=x;refine{mem:=l,rI:=by rw[a];exact d,l0:=by rw[a,e];exact h.l0,l1:=by rw[a,f];exact h.l1,l2:=by rw[a,g];exact h.l2,l3:=by rw[a,j];exact h.l3,aH:=by rw[a];exact h.aH,rf:=by rw[a];exact h.rf,ju:=by rw[a];exact h.ju,mG:=by have:=h.mG;omega,jU:=n,li:=m,gU:=k,s1:=h.s1,s2:=h.s2,s3:=h.s3}
def ST.fields{w:J}{sb:Nat}{s s':SR}{K:DK}{m:List E}{b c d e:List ar}{C:Nat}(h:ST w sb s K m b c d e C)(f:s'.aH=s.aH/\s'.l0=s.l0/\s'.l1=s.l1/\s'.l2=s.l2/\s'.l3=s.l3)(a:s'.memory=s.memory):ST w sb s' K m b c d e C:=h.Oh f (by rw[a];exact h.mem) (by rw[a];exact h.rI) h.li h.gU (by omega) h.jU
def ID(f:Int)(a:List (List E))(l:List E):jq f (a++[l])=jq f a++xK (f+a.length) l:=by
 induction a generalizing f with
 |nil=>simp[jq]
 |cons x r b=>
  rw[dI,jq,b,jq,aV,aE];congr 3;push_cast
  omega
def CI.snoc{f:Int}{b:List (List E)}{l:List E}(h:CI f b)(j:∀x∈l,x.Good)(g:∀x∈l,x.bV=f+b.length)(e:1<=l.length/\l.length<=8)(k:(b.map List.length).sum+l.length<32)(n:f+b.length+1<18446744073709551616):CI f (b++[l])where
 gU:=λx a=>by
  rcases aw.1 a with c|c
  ·exact h.gU x c
  ·rw[bE]at c;rw[c];exact j
 num:=λi d x a=>by
  by_cases c:i<b.length
  ·rw[kS c]at a;exact h.num i c x a
  ·have m:i=b.length:=by rw[ag]at d;simp at d;omega
   subst m;rw[kL (ai _)]at a;simp at a;exact g x a
 one:=λx a=>by
  rcases aw.1 a with c|c
  ·exact h.one x c
  ·rw[bE]at c;rw[c];exact e
 sum:=by rw[aN,eG];simpa using k
 f0:=h.f0
 f1:=by rw[ag];push_cast;simp;omega
def ub(l m n:List E):cq l (m++n)=cq (cq l m) n:=by
 unfold cq;rw[fR]
def ko{l m:List E}{x:E}(h:x∈cq l m):x∈l\/x∈m:=by
 induction m generalizing l with
 |nil=>exact .inl h
 |cons e r a=>
  rcases a (l:=kn l e) h with c|c
  ·rcases wa.1 c with g|g
   ·rw[g];exact .inr (by simp)
   ·exact .inl g.1
  ·exact .inr (by simp[c])
def CI.pV{d:Nat}{b:List (List E)}(h:CI ((d:Int)+1) b):∀x∈b.flatten,(d:Int)<x.bV/\x.bV<=(d+b.length:Nat):=by
 intro x g;obtain⟨l,f,a⟩:=bH.1 g;obtain⟨i,e,rfl⟩:=eO.1 f;have:=h.num i e x a;push_cast
 omega
def Ma(a:List (List E)):a.flatten.length=(a.map List.length).sum:=by
 rw[jw]
def Inv.Qf{w:J}{sb:Nat}{s:SR}{K:DK}{m:List E}{d e f g:List ar}{C c N:Nat}{b:List (List E)}(h:Inv w sb s K m d e f g C c N b):m.length<=31:=by
 have a:=mV [] b.flatten;have j:=h.lp.sum;rw[Ma]at a;rw[h.mem];simp at a|-;omega
def Inv.Iw{w:J}{sb:Nat}{s:SR}{K:DK}{n:List E}{d e g i:List ar}{C c N:Nat}{b:List (List E)}(h:Inv w sb s K n d e g i C c N b):(jq ((c:Int)+1) b).length<=200000/\b.length<=31:=by
 have j:=pN (f:=(c:Int)+1) (λl a=>⟨h.lp.gU l a,(h.lp.one l a).2⟩);have k:=yu (λl a=>(h.lp.one l a).1);have m:=h.lp.sum;exact⟨by omega,by omega⟩
def Inv.yl{w:J}{sb:Nat}{s:SR}{K:DK}{m:List E}{d e g k:List ar}{C c N:Nat}{b:List (List E)}(h:Inv w sb s K m d e g k C c N b):(d++e++g++k).length<=1000000:=by
 have a:=h.st.mG;have n:=h.st.jU;have:=jl (λt a=>(h.st.l0.each t a).pure);have:=jl h.st.s1.pure;have:=jl h.st.s2.pure;have:=jl h.st.s3.pure;simp only[ag];omega
def CC.inv{B q:J}{sb:Nat}{s:SR}{A:Int}{r C N:Nat}{K:DK}{t:aa->Option aa}{k n o p:M}{c:DK}{num:Nat}{d e g j:List ar}(h:CC B q sb s A r C K t k n o p c num d e g j)(a:1<=s.mem/\s.mem<=32/\2<=s.dw/\s.dw<=6)(y:s.next<=2+1000001*N)(w:r<=N+1)(u:N+1<=100000000):Inv q sb (s.settled k n o p r num) c [] d e g j C r (N+1) []where
 st:=h.st
 nE:=h.nE
 pr:=h.pr
 lp:=⟨by simp,by simp,by simp,by simp,by omega,by simp;omega⟩
 mem:=rfl
 Kl:=rfl
 MS:=rfl
 rq:=rfl
 BO:=h.BO
 nx:=by have:=h.num;show num+1<=_;omega
 bn:=w
 cY:=by have:=h.cY;omega
 MQ:=a
 loose:=λz=>(by cases z)
 MR:=λz=>(by cases z)
 jU:=u
def SR.Hf(s:SR)(c:M)(a:Nat)(b:Bool):SR:={s with memory:=c,fF:=s.fF+a,aO:=s.aO+1,bQ:=true,gT:=true,ga:=b}
def NA{n:Int}{l:List E}(h:∀x∈l,x.Good)(c:l.length<=8):iq (xK n l):=by
 have a:iq (fw n l):=by
  unfold fw;refine(iq.le 8 _).append ?_;intro x b;rcases aD.1 b with q|q
  ·rw[q];constructor<;>omega
  ·exact zv h x q
 unfold xK fS;exact((((iq.le 4 _).append (iq.le 4 _)).append (iq.le 4 _))).append a
def FG(ad:J)(sb:Nat)(s:SR)(ac:Int)(K:DK)(ey:List E)(hy hz hA hB:List ar)(hi tb hb:Nat)(ls:List (List E))(a:List E)(fk:M)(ha:bX ad sb s ac)(b:Inv ad sb s K ey hy hz hA hB hi tb hb ls)(he:nT ad fk a)(el:∀ac,fk.ownBlock=some ac->Aside ad K s.aH sb ac)(ba:0<a.length)(h8:a.length<=8)(hg:∀fd∈a,fd.Good)(hd:∀fd∈a,fd.bV=(s.aO:Int)+1)(ho:s.fF+a.length<32)(hC:hi+a.length<=1000000)(hN:hb+1<=100000000):Calls prog 68 #[.pointer (some ⟨sb,0,none⟩),fk] ad λan w'=>an=.returned .nilIface/\∃mv w K',bX w' sb (s.Hf mv a.length w) ac/\Inv w' sb (s.Hf mv a.length w) K' (cq ey a) hy hz hA hB (hi+a.length) tb (hb+1) (ls++[a])/\eN ad w' s.aH sb K K':=by
 have cl:=b.st;have F:=ak ha;have ck:s.log<18446744073709551616:=by have:=b.nE.lt;have:=b.nx;have:=b.jU;omega
 have bo:=rJ s.log ck ad cl.ju.pow;obtain⟨eb,fe,fL,gj,P,A⟩:∃bg o e,fk=.slice (some ⟨bg,o,none⟩) a.length e/\a.length<=e/\∀cp fb,(aF a)[cp]?=some fb->ad.cell? ⟨bg,o+cp,none⟩=some fb:=by
  obtain⟨_,⟨q1,q2⟩|⟨bg,o,e,q1,q4,u⟩⟩:=he
  ·omega
  ·exact⟨bg,o,e,q1,q4,u⟩
 have ca:=Z P;clear P;subst gj;have z:=el eb rfl;obtain⟨mx,mc,gr⟩:=bA cl.mem;have fz:ad.cell? ⟨sb,15,none⟩=some (.int .u64 s.log):=ha.cell rfl;have j:=Z b;have HH:=Z ha;have HE:=Z A;have HG:=Z hg;have HB:=Z hd;have cT:=Z bo;have al:=Z gr;clear b cl ha he el A hg hd bo;obtain⟨lg,cj⟩:∃lg,s.bQ=lg:=⟨_,rfl⟩;have hh:∀(fd:Bool)(ad:J),(Op.unary .not (.bool fd)).run prog ad=.ok (.bool (!fd)) ad:=λ_ _=>rfl;go_enter func68,ntmps68
 go_wp2_with fail
 refine(Y cT).mono ?_;rintro an w1⟨rfl,ef⟩;have bc:I (λ_=>False) ad w1:=I.aR ef;have ej:eN ad w1 s.aH sb K K:=⟨(Y j).st.aH.ay bc (λ_ _=>id),bc.mono (λ_ q=>q.elim),λ_ q=>.inl q⟩;have d:bX w1 sb s ac:=(bc.block sb F id).trans (Y HH);have gv:w1.cell? ⟨sb,16,none⟩=some (.bool lg):=by rw[<-cj];exact d.cell rfl
 have k2:w1.cell? ⟨sb,2,none⟩=some (.pointer (some ⟨s.aH,0,none⟩)):=d.cell rfl;have gA:w1.cell? ⟨sb,19,none⟩=some (.bool s.ga):=d.cell rfl;have gb:w1.frozen? ⟨sb,16,none⟩=false:=d.free;have gc:w1.frozen? ⟨sb,19,none⟩=false:=d.free;have y:=Z d;have bT:=Z ej;have G:=Z cj;clear ef bc d ej cj fz;cases lg;case' true=>
  go_wp2_with fail
  obtain⟨p,k⟩:∃p,w1=p:=⟨_,rfl⟩;obtain⟨w,S⟩:∃w,s.ga=w:=⟨_,rfl⟩;have HX:=Z (show∃f x,eN ad p s.aH sb K f/\kI f.files (fM s.log)=some x/\x.bytes=jq ((tb:Int)+1) ls/\f.cY.length<=K.cY.length+1/\(∀q n,ph (vw f.files) (fM s.log,n)=q->∀X,cR q X=if fM s.log=X then some n else cR (vw K.files) X)/\eW (vw f.files)=eW (vw K.files)/\bX p sb {s with bQ:=true,ga:=w} ac from by
   obtain⟨x,q1,q2⟩:=gJ ((Y j).nE.log (Y G));refine⟨K,x,by rw[<-k];exact Y bT,q1,q2,by omega,λq n an X=>by rw[<-an,qU],rfl,?_⟩;rw[<-k,<-S];have:=Y y;have an:s={s with bQ:=true,ga:=s.ga}:=by rw[<-Y G]
   rw[<-an];exact this)
  rw[k];clear k S
 case' false=>
  have u:cR (vw K.files) (fM s.log)=none:=by
   cases q:cR (vw K.files) (fM s.log)with
   |none=>rfl
   |some n=>
    rcases(Y j).nE.names _ _ q with an|⟨_,an⟩|⟨hD,_,an⟩
    ·exact absurd an (oo _)
    ·rw[Y G]at an;cases an
    ·exact absurd an.symm (jJ _ _)
  have ei:=xz s.aH K (fM s.log) w1 (Y bT).ok (wh (rN u)) (by have:=(Y j).cY;have:=(Y j).jU;omega);go_wp2_with fail
  refine ei.mono ?_;rintro an w2⟨rfl,f,ax,em,eo⟩;have es:¬K.aS s.aH sb:=(Y j).st.rf;have e:bX w2 sb s ac:=(ax.ay.block sb (ak (Y y)) es).trans (Y y);have br:¬f.aS s.aH sb:=ax.uZ es (ak (Y y));have gv:w2.cell? ⟨sb,16,none⟩=some (.bool false):=by rw[<-Y G];exact e.cell rfl
  have k2:w2.cell? ⟨sb,2,none⟩=some (.pointer (some ⟨s.aH,0,none⟩)):=e.cell rfl;have gA:w2.cell? ⟨sb,19,none⟩=some (.bool s.ga):=e.cell rfl;have gb:w2.frozen? ⟨sb,16,none⟩=false:=e.free;have gc:w2.frozen? ⟨sb,19,none⟩=false:=e.free;have cx:=Z e;have fn:=Z ax;have fs:=Z em;have fu:=Z eo;have bf:=Z br;have o:=Z u;clear e ax em eo br ei u;go_wp2_with fail
  obtain⟨p,k⟩:∃p,(w2.setCell ⟨sb,16,none⟩ (.bool true)).setCell ⟨sb,19,none⟩ (.bool true)=p:=⟨_,rfl⟩;obtain⟨w,S⟩:∃w,true=w:=⟨_,rfl⟩;have HX:=Z (show∃f x,eN ad p s.aH sb K f/\kI f.files (fM s.log)=some x/\x.bytes=jq ((tb:Int)+1) ls/\f.cY.length<=K.cY.length+1/\(∀q n,ph (vw f.files) (fM s.log,n)=q->∀X,cR q X=if fM s.log=X then some n else cR (vw K.files) X)/\eW (vw f.files)=eW (vw K.files)/\bX p sb {s with bQ:=true,ga:=w} ac from by
   have gk:ls=[]:=(Y j).nE.AM (Y G);have cn:vw f.files=vw K.files++[(fM s.log,[])]:=by rw[Y fs];simp[vw]
   have R:cR (vw f.files) (fM s.log)=some []:=by rw[cn,gR,Y o];simp[cR]
   obtain⟨x,q1,q2⟩:=gJ R;refine⟨f,x,?_,q1,by rw[q2,gk];rfl,by rw[Y fu];omega,λq n an X=>?_,by rw[cn,qn];simp[eW],?_⟩
   ·rw[<-k];exact(((Y bT).trans (eN.of (Y fn))).set (Y bf) _ _).set (Y bf) _ _
   ·rw[<-an,cn,AV [] n (Y o),gR];by_cases bg:fM s.log=X
    ·rw[dr bg,<-bg,Y o];simp[cR]
    ·rw[dd bg];cases cR (vw K.files) X<;>simp[cR,bg]
   ·rw[<-k,<-S];exact(aL (aL (Y cx))).trans rfl)
  rw[k];clear k S
 all_goals
  obtain⟨f,x,C,ao,bh,bp,Q,W,cd⟩:=Y HX;have bs:¬f.aS s.aH sb:=C.sb (Y j).st.rf F;have bt:=(Y j).st.Ml F C (λX=>by
   have:=Q _ x.bytes rfl (eM X);rw[dd (λq=>jJ _ _ q.symm)]at this;rw[<-this];obtain⟨hp,gn,_⟩:=iy ao;have R:cR (vw f.files) (fM s.log)=some x.bytes:=by rw[Ci,ao];rfl
   rw[wj R])
  have bi:=z.eA C;have bl:∀cp fb,(aF a)[cp]?=some fb->p.cell? ⟨eb,fe+cp,none⟩=some fb:=λcp fb hj=>z.cell C ((Y HE) cp fb hj);have U:=FH a eb fe fL p.drew (λcp hj=>bt.ju.steps cp hj) bi.lt bl ba (Y HG) h8;have dn:(a[0]'ba).bV=(tb:Int)+1+ls.length:=by
   have h1:=(Y HB) _ (au ba);have h2:=(Y j).Kl;rw[h1,h2];push_cast
   omega
  rw[dn]at U;have k2:p.cell? ⟨sb,2,none⟩=some (.pointer (some ⟨s.aH,0,none⟩)):=cd.cell rfl;have cB:=Z C;have cE:=Z ao;have bd:=Z bh;have db:=Z bp;have cM:=Z Q;have cc:=Z W;have cs:=Z cd;have dk:=Z bs;have dc:=Z U;clear C ao bh bp Q W cd bt bs U dn bl bi;rename_i QQ KK dT;have ea:p.drew.cell? ⟨sb,2,none⟩=some (.pointer (some ⟨s.aH,0,none⟩)):=k2;refine bM (λ(hw:J)=>hw.cell? ⟨sb,2,none⟩=some (.pointer (some ⟨s.aH,0,none⟩))) 8 (by kernel_rfl) ?_;refine cz 0 ?_;iterate 6 (refine cy (v:=?_) ea rfl (by kernel_rfl) (λ_ _ _ ha=>ha) (Or.inl ⟨by rfl,?_⟩) ?_;rotate_left;(focus(intro hw hX;go_simp;try with_reducible rfl));simp only[Act.put,Nat.reduceAdd,ab,ae,af])
  refine dG ?_;refine aI (i:=6) rfl rfl (by kernel_rfl) ?_;intro K6 ds;go_simp;refine(Y dc).mono ?_;rintro an w4⟨v4,rfl,bb,eu⟩;have h:I (λ_=>False) p w4:=(bS (λ_=>False) p).trans eu (λ_ q=>q.elim);have ec:w4.cell? ⟨sb,2,none⟩=some (.pointer (some ⟨s.aH,0,none⟩)):=h.cell k2 id (my k2);refine ds _ _ (λ_=>ec) ?_;clear ds;try simp only[Act.put,ab,ae,af]
  obtain⟨n,B⟩:∃n,xK ((tb:Int)+1+ls.length) a=n:=⟨_,rfl⟩;rw[B]at bb;have ge:n.length<=400:=by rw[<-B];exact wT (Y HG) h8
  have eg:0<n.length:=by rw[<-B];unfold xK;rw[ag,eF];omega
  obtain⟨vb,vc,gs,ev,bv,_⟩:=qg bb eg;subst gs;have ee:=Bl s.aH f (fM s.log) x vb 0 vc n w4 ((Y cB).ok.ay h (λ_ _=>id)) (Y cE) (by
   rw[CS,Y cc];have:=(Y j).nE.total (Y j).st.aH.nodup (Y j).Iw.1 (Y j).yl;omega) (by rw[<-B];exact NA (Y HG) h8) (λcp fb hj=>by
    have:=lH bb cp fb hj;rwa[ct]at this) bv (by rw[Y bd];have:=(Y j).Iw.1;omega)
  refine aI (i:=7) rfl rfl (by kernel_rfl) ?_;intro K7 dv;go_simp;refine ee.mono ?_;rintro an w5⟨rfl,K5,O,⟨x5,en⟩,eq⟩;have ce:bX w4 sb {s with bQ:=true,ga:=w} ac:=(h.block sb (ak (Y cs)) id).trans (Y cs);have L:bX w5 sb {s with bQ:=true,ga:=w} ac:=(O.ay.block sb (ak ce) (Y dk)).trans ce;refine dv _ _ (λ_=>L.cell rfl) ?_;clear dv ee;try simp only[Act.put,ab,ae,af]
  refine aI (i:=8) rfl rfl (by kernel_rfl) ?_;intro K8 dx;go_simp;refine dx _ _ (λq=>(q rfl).elim) ?_;refine cr (by kernel_rfl) ?_ _;show KK _ _;refine dT _ _ ?_;clear dT dx ea ec;have N:eN ad w5 s.aH sb K K5:=(Y cB).trans ⟨O.ok,(h.mono (T:=λac=>f.aS s.aH ac\/ac=sb) (λ_ q=>q.elim)).trans O.ay (λ_ q=>.inl (.inl q)),λac q=>(O.aS ac q).imp id (λbg=>aB h.size bg)⟩;have V:¬K5.aS s.aH sb:=N.sb (Y j).st.rf F;have bx:vw K5.files=ph (vw f.files) (fM s.log,jq ((tb:Int)+1) (ls++[a])):=by
   rw[en,yj,ID,B,<-Y bd];show ph _ (x.name,_)=_;rw[(iy (Y cE)).1]
  have r:∀X,cR (vw K5.files) X=if fM s.log=X then some (jq ((tb:Int)+1) (ls++[a]))else cR (vw K.files) X:=λX=>by rw[bx];exact(Y cM) _ _ rfl X
  have hv:w5.cell? ⟨sb,18,none⟩=some (.bool s.gT):=L.cell rfl;have hl:w5.frozen? ⟨sb,18,none⟩=false:=L.free;obtain⟨W6,ed⟩:∃W6,w5.setCell ⟨sb,18,none⟩ (.bool true)=W6:=⟨_,rfl⟩;have ch:bX W6 sb {s with bQ:=true,ga:=w,gT:=true} ac:=by rw[<-ed];exact(aL L).trans rfl
  have g:eN ad W6 s.aH sb K K5:=by rw[<-ed];exact N.set V _ _
  have m:=(Y j).st.Ml F g (λX=>by rw[r,dd (λq=>jJ _ _ q.symm)]);have bk:=z.eA g;have t:=m.mem;rw[Y al]at t;have ex:=yi (.slice mx ey.length mc) (.slice (some ⟨eb,fe,none⟩) a.length fL) ey a W6 t ⟨iS a,.inr ⟨eb,fe,fL,rfl,?ecap,λcp fb hj=>z.cell g ((Y HE) cp fb hj)⟩⟩ m.li (by have:=m.len;omega) (λac hk=>(m.rI ac (by rw[Y al];exact hk)).lt) (λac hk=>by cases hk;exact bk.lt);case ecap=>exact Y ca
  have k7:W6.cell? ⟨sb,7,none⟩=some (.slice mx ey.length mc):=by rw[<-Y al];exact ch.cell rfl
  have c:=Z r;have cv:=Z ch;have fr:=Z g;have H:=Z V;have fv:=Z eq;clear N bx r ce L O en eq bb eu h ch g m bk t V B ge eg ev bv;go_wp2_with fail
  refine ex.mono ?_;rintro an w7⟨v7,rfl,D,cm⟩;obtain⟨x7,c7,gt⟩:=aC D;subst gt;have l:bX w7 sb {s with bQ:=true,ga:=w,gT:=true} ac:=(cm.block sb (ak (Y cv)) id).trans (Y cv);have k7:w7.cell? ⟨sb,7,none⟩=some (.slice mx ey.length mc):=by rw[<-Y al];exact l.cell rfl
  have k8:w7.cell? ⟨sb,8,none⟩=some (.int .i64 s.fF):=l.cell rfl;have k9:w7.cell? ⟨sb,9,none⟩=some (.int .u64 s.aO):=l.cell rfl;have f7:w7.frozen? ⟨sb,7,none⟩=false:=l.free;have f8:w7.frozen? ⟨sb,8,none⟩=false:=l.free;have f9:w7.frozen? ⟨sb,9,none⟩=false:=l.free;have hm:s.aO<=hb:=(Y j).bn;have hr:IntKind.i64.wrap ((s.fF:Int)+(a.length:Int))=(s.fF:Int)+(a.length:Int):=by rw[bu];omega
  have hs:IntKind.u64.wrap ((s.aO:Int)+1)=(s.aO:Int)+1:=by rw[eZ];omega
  have fl:=Z l;have fx:=Z D;have cb:=Z cm;clear l D cm ex;go_wp2;go_ret;have b:=Y j;have g:=Y fr;have hf:=mV ey a;have ek:eN ad (((w7.setCell ⟨sb,7,none⟩ (.slice x7 (cq ey a).length c7)).setCell ⟨sb,8,none⟩ (.int .i64 ((s.fF:Int)+(a.length:Int)))).setCell ⟨sb,9,none⟩ (.int .u64 ((s.aO:Int)+1))) s.aH sb K K5:=by
   have h1:eN ad w7 s.aH sb K K5:=g.trans ⟨g.ok.ay (Y cb) (λ_ _=>id),(Y cb).mono (λ_ q=>q.elim),λ_ q=>.inl q⟩;exact((h1.set (Y H) _ _).set (Y H) _ _).set (Y H) _ _
  have et:=b.st.Ml F ek (λX=>by rw[(Y c),dd (λq=>jJ _ _ q.symm)]);have D:=Y fx;have hc:=(Y cb).size;have hu:ad.heap.size<=W6.heap.size:=g.ay.size;have bq:∀q,(Value.slice x7 (cq ey a).length c7).ownBlock=some q->W6.heap.size<=q/\q<w7.heap.size:=λq hq=>D.lt q hq;have gi:=g.ok.lt;refine⟨rfl,.slice x7 (cq ey a).length c7,w,K5,?_,?_,ek⟩
  ·exact(aL (aL (aL (Y fl)))).trans rfl
  ·refine{st:=?_,nE:=?_,pr:=b.pr,lp:=?_,mem:=?_,Kl:=?_,MS:=?_,rq:=b.rq,BO:=b.BO,nx:=?_,bn:=?_,cY:=?_,MQ:=b.MQ,loose:=λ_=>rfl,MR:=λ_=>(by simp),jU:=hN}
   ·refine et.Oh (C':=hi+a.length) ⟨rfl,rfl,rfl,rfl,rfl⟩ ?_ ?_ (b.st.li.cq a) (λfd hx=>(ko hx).elim (b.st.gU fd) ((Y HG) fd)) (by omega) hC
    ·show Row _ 4 (.slice x7 (cq ey a).length c7) _ _;refine cW ((((D.kept (co _ _ _ _) ?_).kept (co _ _ _ _) ?_).kept (co _ _ _ _) ?_))<;>exact .inr (λq=>by have:=(bq sb q).1;omega)
    ·intro q hq;have h1:=bq q hq;refine⟨?_,λbg=>?_,by omega⟩
     ·simp only[gp];exact h1.2
     ·have:=gi q bg;omega
   ·refine{names:=λX n hn=>?_,state:=?_,log:=λ_=>?_,AM:=λq=>(by cases q),uh:=λhD ht=>?_,uq:=b.nE.uq,low:=b.nE.low,lt:=b.nE.lt,gU:=b.nE.gU}
    ·rw[Y c]at hn;by_cases bg:fM s.log=X
     ·exact .inr (.inl ⟨bg.symm,rfl⟩)
     ·rw[dd bg]at hn;rcases b.nE.names _ _ hn with q|⟨q,_⟩|q
      ·exact .inl q
      ·exact absurd q.symm bg
      ·exact .inr (.inr q)
    ·rw[Y c,dd (oo _)];exact b.nE.state
    ·rw[Y c];show(if fM s.log=fM s.log then _ else _)=_;rw[dr rfl]
    ·rw[Y c,dd (λq=>jJ _ _ q.symm)];exact b.nE.uh hD ht
   ·have gf:=b.Kl;refine b.lp.snoc (Y HG) (λfd hx=>?_) ⟨ba,h8⟩ ?_ ?_
    ·rw[(Y HB) fd hx,gf];push_cast;omega
    ·have:=b.MS;omega
    ·have:=b.bn;have:=b.jU;omega
   ·rw[b.mem,dl,aT,dH,cN,ub]
   ·show s.aO+1=tb+(ls++[a]).length;have:=b.Kl;rw[ag];simp only[aE,cH];omega
   ·show s.fF+a.length=_;rw[aN,eG,b.MS];simp
   ·show s.next<=_;have:=b.nx;omega
   ·show s.aO+1<=hb+1;omega
   ·have h1:=b.cY;have h2:=Y fv;have h3:=Y db;rw[h2];omega
def Inv.mono{w:J}{sb:Nat}{s:SR}{K:DK}{m:List E}{a b c r:List ar}{C C' o N d:Nat}{ls:List (List E)}(h:Inv w sb s K m a b c r C o N ls)(y:C<=C')(e:C'<=1000000)(q:N<=d)(g:d<=100000000):Inv w sb s K m a b c r C' o d ls:={h with st:={h.st with mG:=by have:=h.st.mG;omega,jU:=e},nx:=by have:=h.nx;have:1000001*N<=1000001*d:=Nat.mul_le_mul_left _ q;omega,bn:=by have:=h.bn;omega,cY:=by have:=h.cY;omega,jU:=g}
def Inv.eA{z q:J}{sb:Nat}{s s':SR}{K a:DK}{m:List E}{A B D F:List ar}{C p N:Nat}{o:List (List E)}(h:Inv z sb s K m A B D F C p N o)(d:sb<z.heap.size)(y:eN z q s.aH sb K a)(n:vw a.files=vw K.files)(G:a.cY.length<=K.cY.length)(e:s'={s with gT:=s'.gT,ga:=s'.ga,closed:=s'.closed})(c:s'.gT=true->s.bQ=true):Inv q sb s' a m A B D F C p N o:=by
 have g:=(h.st.eA d y n).fields (s':=s') (by rw[e];exact⟨rfl,rfl,rfl,rfl,rfl⟩) (by rw[e]);have j:s'.next=s.next:=by rw[e]
 have r:s'.log=s.log:=by rw[e]
 have b:s'.bQ=s.bQ:=by rw[e]
 have k:s'.aO=s.aO:=by rw[e]
 have t:s'.fF=s.fF:=by rw[e]
 have u:s'.rq=s.rq:=by rw[e]
 have w:s'.mem=s.mem:=by rw[e]
 have x:s'.dw=s.dw:=by rw[e]
 exact⟨g,by rw[n,j,r,b];exact h.nE,h.pr,h.lp,h.mem,by rw[k];exact h.Kl,by rw[t];exact h.MS,by rw[u];exact h.rq,h.BO,by rw[j];exact h.nx,by rw[k];exact h.bn,by have:=h.cY;omega,by rw[w,x];exact h.MQ,by rw[b];exact c,by rw[b];exact h.MR,h.jU⟩
def Inv.safe{w:J}{sb:Nat}{s:SR}{k:Int}{K:DK}{u:List E}{n o p r:List ar}{C l N:Nat}{j:List (List E)}(h:Inv w sb s K u n o p r C l N j)(d:bX w sb s k):Calls prog 49 #[.pointer (some ⟨sb,0,none⟩)] w λt b=>t=.returned .nilIface/\∃a,eN w b s.aH sb K a/\vw a.files=vw K.files/\bX b sb {s with gT:=false,ga:=false} k/\Inv b sb {s with gT:=false,ga:=false} a u n o p r C l N j:=by
 refine(vg w sb s k K d h.st.aH h.st.rf h.st.ju.pow (by have:=h.nE.lt;have:=h.nx;have:=h.jU;omega) (λq=>⟨_,h.nE.log (h.loose q),by have:=h.Iw.1;omega⟩) (by have:=h.cY;have:=h.jU;omega)).mono ?_;rintro t b⟨rfl,a,e,g,m,c⟩;exact⟨rfl,a,e,g,c,h.eA (ak d) e g m rfl (λq=>(by cases q))⟩
def Gs{n:Int}{c:nk}(a:1<=c.key.size/\c.key.size<=8)(e:c.del=false->c.val.size<=16)(b:0<=n)(d:n<18446744073709551616):(kw n c).Good:=by
 refine⟨a.1,a.2,?_,?_,b,d⟩
 ·unfold kw;cases q:c.del with
  |true=>simp[ByteArray.size]
  |false=>simpa[q]using e q
 ·intro q;have f:c.del=true:=q;simp[kw,f]
structure EW(w w':J)(sb:Nat)(s:SR)(k:Int)(K:DK)(C N:Nat)(R0:aa->Option aa)(s':SR)(K':DK)(m':List E)(a' b' c' d':List ar)(tb':Nat)(ls':List (List E)):Prop where
 box:bX w' sb s' k
 inv:Inv w' sb s' K' m' a' b' c' d' C tb' N ls'
 sL:∀q,seen (m'::bZ a' b' c' d') q=R0 q
 eA:eN w w' s.aH sb K K'
 same:s'.aH=s.aH/\s'.closed=s.closed/\s'.mem=s.mem/\s'.dw=s.dw
def kC(w m:J)(sb:Nat)(s:SR)(n:Int)(K:DK)(C N:Nat)(d:aa->Option aa):Prop:=∃l c k e g h j b a,EW w m sb s n K C N d l c k e g h j b a
def kC.ay{w w1 w':J}{sb:Nat}{s:SR}{k:Int}{K:DK}{C N:Nat}{e:aa->Option aa}(h:kC w1 w' sb s k K C N e)(g:I (λ_=>False) w w1):kC w w' sb s k K C N e:=by
 obtain⟨y,o,r,a',b',c',d',d,a,h⟩:=h;exact⟨y,o,r,a',b',c',d',d,a,h.box,h.inv,h.sL,⟨h.eA.ok,(g.mono (T:=λk=>K.aS s.aH k\/k=sb) (λ_ q=>q.elim)).trans h.eA.ay (λ_ q=>.inl q),λk q=>(h.eA.aS k q).imp id (λz=>aB g.size z)⟩,h.same⟩
def Nh(ck:J)(sb:Nat)(s:SR)(bc:Int)(K:DK)(w:List E)(ax ba ac bb:List ar)(bi B bl:Nat)(X:List (List E))(cv:M)(A:List nk)(Q:Bool)(z:bX ck sb s bc)(hV:Inv ck sb s K w ax ba ac bb bi B bl X)(hc:tD ck cv A)(ca:∀bc,cv.ownBlock=some bc->bc<ck.heap.size)(h8:A.length<=8)(hk:∀x∈A,1<=x.key.size/\x.key.size<=8)(hv:∀x∈A,x.del=false->x.val.size<=16)(ce:∀x∈A,x.val.size<=140737488351232)(hC:bi+A.length<=1000000)(hN:bl+1<=100000000):Calls prog 43 #[.pointer (some ⟨sb,0,none⟩),cv,.bool Q] ck λbn w'=>bn=.returned .nilIface/\kC ck w' sb s bc K (bi+A.length) (bl+1) (seen (cq w (A.map (kw ((s.aO:Int)+1)))::bZ ax ba ac bb)):=by
 have cd:=ak z;have dx:=hV.bn;have t:=Eu cv A ((s.aO:Int)+1) ck hc ca (by omega) (λx l=>⟨by have:=(hk x l).2;omega,ce x l⟩);obtain⟨b,D⟩:∃b,A.map (kw ((s.aO:Int)+1))=b:=⟨_,rfl⟩;rw[D]at t|-;have bg:b.length=A.length:=by rw[<-D];simp
 have F:∀x∈b,x.Good:=λx l=>by
  rw[<-D]at l;obtain⟨ef,hy,rfl⟩:=aZ.1 l;exact Gs (hk ef hy) (hv ef hy) (by omega) (by omega)
 have an:∀x∈b,x.bV=(s.aO:Int)+1:=λx l=>by
  rw[<-D]at l;obtain⟨ef,hy,rfl⟩:=aZ.1 l;rfl
 obtain⟨ei,eg,cB⟩:=bA hc;subst cB;rw[<-bg]at t hC h8|-;have k9:ck.cell? ⟨sb,9,none⟩=some (.int .u64 s.aO):=z.cell rfl;have ee:IntKind.u64.wrap ((s.aO:Int)+1)=(s.aO:Int)+1:=by rw[eZ];omega
 have HH:=Z z;have HV:=Z hV;have HG:=Z F;have bd:=Z an;have ea:A.length=b.length:=bg.symm;clear z hV F an hc ca hk hv ce D bg;go_enter func43,ntmps43
 go_wp2_with fail
 refine t.mono ?_;rintro bn k⟨v1,rfl,W,P⟩;obtain⟨x1,c1,db⟩:=aC W;subst db;have cc:eN ck k s.aH sb K K:=⟨(Y HV).st.aH.ay P (λ_ _=>id),P.mono (λ_ q=>q.elim),λ_ q=>.inl q⟩;have bx:bX k sb s bc:=(P.block sb cd id).trans (Y HH);have br:Inv k sb s K w ax ba ac bb bi B bl X:=(Y HV).eA cd cc rfl (ai _) rfl (Y HV).loose;have hA1:∀q,(Value.slice x1 b.length c1).ownBlock=some q->Aside k K s.aH sb q:=λq L=>by
  have a:=W.lt q L;exact⟨a.2,λg=>by have:=(Y HV).st.aH.lt q g;omega,by omega⟩
 have bp:=Z W;have T:=Z P;have e:=Z bx;have g:=Z br;have bo:=Z hA1;clear W P bx br hA1 cc t HV HH;by_cases hz:b.length=0
 ·have a:b=[]:=aG hz;have cM:¬(0:Int)<(b.length:Int):=by omega
  cases Q with
  |true=>
   have N:=(Y g).safe (Y e);go_wp2_with fail
   refine N.mono ?_;rintro bn w2⟨rfl,K2,n,c,m,p⟩;have HP:=Z (show kC k w2 sb s bc K (bi+b.length) (bl+1) (seen (cq w b::bZ ax ba ac bb))from⟨_,K2,w,ax,ba,ac,bb,B,X,m,p.mono (by omega) hC (by omega) hN,λq=>by rw[a];rfl,n,rfl,rfl,rfl,rfl⟩);clear n c m p N;go_wp2;go_ret;exact⟨rfl,(Y HP).ay (Y T)⟩
  |false=>
   have HP:=Z (show kC k k sb s bc K (bi+b.length) (bl+1) (seen (cq w b::bZ ax ba ac bb))from⟨s,K,w,ax,ba,ac,bb,B,X,Y e,(Y g).mono (by omega) hC (by omega) hN,λq=>by rw[a];rfl,eN.refl (Y g).st.aH,rfl,rfl,rfl,rfl⟩);go_wp2;go_ret;exact⟨rfl,(Y HP).ay (Y T)⟩
 ·have cM:(0:Int)<(b.length:Int):=by omega
  have k8:k.cell? ⟨sb,8,none⟩=some (.int .i64 s.fF):=(Y e).cell rfl;have k3:k.cell? ⟨sb,3,none⟩=some (.int .i64 s.mem):=(Y e).cell rfl;have cj:k.cell? ⟨sb,17,none⟩=some (.bool false):=by rw[<-(Y g).rq];exact(Y e).cell rfl
  have k7:∃mx mc,s.memory=.slice mx w.length mc:=by
   obtain⟨x,ac,bn⟩:=bA (Y g).st.mem;exact⟨x,ac,bn⟩
  obtain⟨mx,mc,bh⟩:=k7;have k7:k.cell? ⟨sb,7,none⟩=some (.slice mx w.length mc):=by rw[<-bh];exact(Y e).cell rfl
  have k9:k.cell? ⟨sb,9,none⟩=some (.int .u64 s.aO):=(Y e).cell rfl;have dT:s.fF<32:=by rw[(Y g).MS];exact(Y g).lp.sum
  have ed:IntKind.i64.wrap ((s.fF:Int)+(b.length:Int))=(s.fF:Int)+(b.length:Int):=by rw[bu];omega
  have bf:=Z bh;clear bh;by_cases cE:s.mem<=(s.fF:Int)+(b.length:Int)
  ·go_wp2_with fail
   go_quiet(fail)
   go_wp2_with fail
   obtain⟨U,hU⟩:∃U,k.drewN nq=U:=⟨_,rfl⟩;have h:I (λ_=>False) k U:=by rw[<-hU];exact ft _ _ _
   have o:eN k U s.aH sb K K:=⟨(Y g).st.aH.ay h (λ_ _=>id),h.mono (λ_ q=>q.elim),λ_ q=>.inl q⟩;have j:bX U sb s bc:=(h.block sb (ak (Y e)) id).trans (Y e);have d:Inv U sb s K w ax ba ac bb bi B bl X:=(Y g).eA (ak (Y e)) o rfl (ai _) rfl (Y g).loose;have C:∀q,(Value.slice x1 b.length c1).ownBlock=some q->Aside U K s.aH sb q:=λq L=>((Y bo) q L).eA o;have H:=h.own (Y bp) (λ_ _ q=>q);have V:=Z ((Y T).trans h (λ_ q=>q.elim));rw[hU];clear hU;have r:=d.st.mem;rw[Y bf]at r;have eb:=d.Qf;have ch:=yi (.slice mx w.length mc) (.slice x1 b.length c1) w b U.drew (by exact r) (cW (by exact H)) d.st.li (by omega) (λq L=>(d.st.rI q (by rw[Y bf];exact L)).lt) (λq L=>(C q L).lt);have ao:∀y v6,y.ownsRow U.heap.size 177 4 v6 (cq w b).length (aF (cq w b))->I (λ_=>False) U.drew y->Calls prog 66 #[.pointer (some ⟨sb,0,none⟩),v6,.int .u64 ((s.aO:Int)+1)] y λbn w'=>bn=.returned .nilIface/\kC y w' sb s bc K (bi+b.length) (bl+1) (seen (cq w b::bZ ax ba ac bb)):=λy v6 G u=>by
    have O:I (λ_=>False) U y:=(bS (λ_=>False) U).trans u (λ_ q=>q.elim);have cb:eN U y s.aH sb K K:=⟨d.st.aH.ay O (λ_ _=>id),O.mono (λ_ q=>q.elim),λ_ q=>.inl q⟩;have a:=d.eA (ak j) cb rfl (ai _) rfl d.loose;have cx:bX y sb s bc:=(O.block sb (ak j) id).trans j;have ec:=mV w b;have bv:∀x∈w,(B:Int)<x.bV/\x.bV<=(B+X.length:Nat):=λx l=>by
     rw[a.mem]at l;rcases ko l with q|q
     ·cases q
     ·exact a.lp.pV x q
    have bT:=a.Kl;have cT:=yz y sb s bc K w (cq w b) v6 ax ba ac bb bi (bi+b.length) (s.aO+1) B X cx a.st a.BO a.pr (cW G) (λq L=>(G.lt q L).2) (a.st.li.cq b) (λx l=>(ko l).elim (a.st.gU x) ((Y HG) x)) (by omega) (λx l=>by
     rcases ko l with q|q
     ·exact(bv x q).1
     ·rw[(Y bd) x q,bT];push_cast;omega) (λx l=>by
     rcases ko l with q|q
     ·have:=(bv x q).2;rw[bT];push_cast at this|-;omega
     ·rw[(Y bd) x q];push_cast;omega) (by omega) (by have:=a.st.mG;omega) hC a.MQ.2.2.1 a.nE a.Iw.1 (by omega) (by have:=a.nx;have:=a.jU;omega) (by have:=a.cY;have:=a.jU;omega)
    refine cT.mono ?_;rintro bn w'⟨rfl,v0,v1,v2,v3,K',num,a',b',c',d',hO⟩;exact⟨rfl,_,K',[],a',b',c',d',s.aO+1,[],hO.box,hO.inv a.MQ a.nx (by omega) hN,λq=>by rw[qf];exact hO.sL q,hO.eA,rfl,rfl,rfl,rfl⟩
   have dk:U.cell? ⟨sb,7,none⟩=some (.slice mx w.length mc):=by rw[<-Y bf];exact j.cell rfl
   have dn:U.cell? ⟨sb,9,none⟩=some (.int .u64 s.aO):=j.cell rfl;have cn:=Z ch;have bq:=Z ao;have cl:=Z d;clear ch ao d j C H o h r k7 k8 k9 k3 cj;rename_i KK bt;have c:U.drew.cell? ⟨sb,7,none⟩=some (.slice mx w.length mc)/\U.drew.cell? ⟨sb,9,none⟩=some (.int .u64 s.aO):=⟨dk,dn⟩;refine tX (λ(bk:J)=>bk.cell? ⟨sb,7,none⟩=some (.slice mx w.length mc)/\bk.cell? ⟨sb,9,none⟩=some (.int .u64 s.aO)) 12 (by kernel_rfl) ?_;refine dX (i:=0) (v:=?_) rfl (by omega) (by kernel_rfl) (by kernel_rfl) (by kernel_rfl) (by kernel_rfl) (by kernel_rfl) (λ_ _ _ z=>z) (Or.inl ⟨by rfl,?_⟩) c ?_;rotate_left
   ·rintro bk⟨R,S⟩;go_simp;try with_reducible rfl
   simp only[Act.put,ab,ae,af];refine dX (i:=1) (v:=?_) rfl (by omega) (by kernel_rfl) (by kernel_rfl) (by kernel_rfl) (by kernel_rfl) (by kernel_rfl) (λ_ _ _ z=>z) (Or.inl ⟨by rfl,?_⟩) c ?_;rotate_left
   ·rintro bk⟨R,S⟩;go_simp;try with_reducible rfl
   simp only[Act.put,ab,ae,af];refine dX (i:=2) (v:=?_) rfl (by omega) (by kernel_rfl) (by kernel_rfl) (by kernel_rfl) (by kernel_rfl) (by kernel_rfl) (λ_ _ _ z=>z) (Or.inl ⟨by rfl,?_⟩) c ?_;rotate_left
   ·rintro bk⟨R,S⟩;go_simp;try with_reducible rfl
   simp only[Act.put,ab,ae,af];refine dX (i:=3) (v:=?_) rfl (by omega) (by kernel_rfl) (by kernel_rfl) (by kernel_rfl) (by kernel_rfl) (by kernel_rfl) (λ_ _ _ z=>z) (Or.inl ⟨by rfl,?_⟩) c ?_;rotate_left
   ·rintro bk⟨R,S⟩;go_simp;try with_reducible rfl
   simp only[Act.put,ab,ae,af];refine dX (i:=4) (v:=?_) rfl (by omega) (by kernel_rfl) (by kernel_rfl) (by kernel_rfl) (by kernel_rfl) (by kernel_rfl) (λ_ _ _ z=>z) (Or.inl ⟨by rfl,?_⟩) c ?_;rotate_left
   ·rintro bk⟨R,S⟩;go_simp;try with_reducible rfl
   simp only[Act.put,ab,ae,af];refine dX (i:=5) (v:=?_) rfl (by omega) (by kernel_rfl) (by kernel_rfl) (by kernel_rfl) (by kernel_rfl) (by kernel_rfl) (λ_ _ _ z=>z) (Or.inl ⟨by rfl,?_⟩) c ?_;rotate_left
   ·rintro bk⟨R,S⟩;go_simp;try with_reducible rfl
   simp only[Act.put,ab,ae,af];refine dX (i:=7) (v:=?_) rfl (by omega) (by kernel_rfl) (by kernel_rfl) (by kernel_rfl) (by kernel_rfl) (by kernel_rfl) (λ_ _ _ z=>z) (Or.inl ⟨by rfl,?_⟩) c ?_;rotate_left
   ·rintro bk⟨R,S⟩;go_simp;try with_reducible rfl
   simp only[Act.put,ab,ae,af];refine dX (i:=8) (v:=?_) rfl (by omega) (by kernel_rfl) (by kernel_rfl) (by kernel_rfl) (by kernel_rfl) (by kernel_rfl) (λ_ _ _ z=>z) (Or.inl ⟨by rfl,?_⟩) c ?_;rotate_left
   ·rintro bk⟨R,S⟩;go_simp;try with_reducible rfl
   simp only[Act.put,ab,ae,af];refine dX (i:=9) (v:=?_) rfl (by omega) (by kernel_rfl) (by kernel_rfl) (by kernel_rfl) (by kernel_rfl) (by kernel_rfl) (λ_ _ _ z=>z) (Or.inl ⟨by rfl,?_⟩) c ?_;rotate_left
   ·rintro bk⟨R,S⟩;go_simp;try with_reducible rfl
   simp only[Act.put,ab,ae,af];refine dX (i:=10) (v:=?_) rfl (by omega) (by kernel_rfl) (by kernel_rfl) (by kernel_rfl) (by kernel_rfl) (by kernel_rfl) (λ_ _ _ z=>z) (Or.inl ⟨by rfl,?_⟩) c ?_;rotate_left
   ·rintro bk⟨R,S⟩;go_simp;try with_reducible rfl
   simp only[Act.put,ab,ae,af];refine dX (i:=11) (v:=?_) rfl (by omega) (by kernel_rfl) (by kernel_rfl) (by kernel_rfl) (by kernel_rfl) (by kernel_rfl) (λ_ _ _ z=>z) (Or.inl ⟨by rfl,?_⟩) c ?_;rotate_left
   ·rintro bk⟨R,S⟩;go_simp;try with_reducible rfl
   simp only[Act.put,ab,ae,af];refine oO (i:=6) rfl rfl (by kernel_rfl) ?_;intro K6 bs;go_simp;refine(Y cn).mono ?_;rintro bn y⟨v6,rfl,G,u⟩;obtain⟨x6,c6,dc⟩:=aC G;subst dc;have cs:y.cell? ⟨sb,7,none⟩=some (.slice mx w.length mc)/\y.cell? ⟨sb,9,none⟩=some (.int .u64 s.aO):=⟨u.cell c.1 id (my c.1),u.cell c.2 id (my c.2)⟩;refine bs _ _ (λ_=>cs) ?_;clear bs;try simp only[Act.put,ab,ae,af]
   refine oO (i:=12) rfl rfl (by kernel_rfl) ?_;intro ds ad;go_simp;refine((Y bq) y _ G u).mono ?_;rintro bn w7⟨rfl,cp⟩;have cm:=Z cp;refine ad _ _ (λq=>by omega) ?_;clear ad;try simp only[Act.put,ab,ae,af]
   refine oO (i:=13) rfl rfl (by kernel_rfl) ?_;intro dv al;go_simp;refine al _ _ (λq=>by omega) ?_;refine wK (by kernel_rfl) ?_ _;show KK _ _;refine bt _ _ ?_;clear bt al;go_wp2;go_ret;exact⟨rfl,(Y cm).ay (((Y V).trans (bS (λ_=>False) U) (λ_ q=>q.elim)).trans u (λ_ q=>q.elim))⟩
  ·go_wp2_with fail
   go_quiet(fail)
   go_wp2_with fail
   obtain⟨U,hU⟩:∃U,k.drewN nq=U:=⟨_,rfl⟩;have h:I (λ_=>False) k U:=by rw[<-hU];exact ft _ _ _
   have o:eN k U s.aH sb K K:=⟨(Y g).st.aH.ay h (λ_ _=>id),h.mono (λ_ q=>q.elim),λ_ q=>.inl q⟩;have j:bX U sb s bc:=(h.block sb (ak (Y e)) id).trans (Y e);have d:Inv U sb s K w ax ba ac bb bi B bl X:=(Y g).eA (ak (Y e)) o rfl (ai _) rfl (Y g).loose;have C:∀q,(Value.slice x1 b.length c1).ownBlock=some q->Aside U K s.aH sb q:=λq L=>((Y bo) q L).eA o;have H:=h.own (Y bp) (λ_ _ q=>q);have V:=Z ((Y T).trans h (λ_ q=>q.elim));rw[hU];clear hU;have a:=FG U sb s bc K w ax ba ac bb bi B bl X b (.slice x1 b.length c1) j d (cW H) C (by omega) h8 (Y HG) (Y bd) (by have:=d.MQ;omega) hC hN;have cl:=Z d;clear d j C H o h k7 k8 k9 k3 cj;refine a.mono ?_;rintro bn w2⟨rfl,S,R,K2,m,p,n⟩;cases Q with
   |true=>
    have N:=p.safe m;have y:=Z n;clear a m p n;go_wp2_with fail
    refine N.mono ?_;rintro bn w3⟨rfl,O,r,G,c,u⟩;have HP:=Z (show kC U w3 sb s bc K (bi+b.length) (bl+1) (seen (cq w b::bZ ax ba ac bb))from⟨_,O,_,ax,ba,ac,bb,B,_,c,u,λq=>rfl,(Y y).trans r,rfl,rfl,rfl,rfl⟩);clear r G c u N;go_wp2;go_ret;exact⟨rfl,(Y HP).ay (Y V)⟩
   |false=>
    have HP:=Z (show kC U w2 sb s bc K (bi+b.length) (bl+1) (seen (cq w b::bZ ax ba ac bb))from⟨_,K2,_,ax,ba,ac,bb,B,_,m,p,λq=>rfl,n,rfl,rfl,rfl,rfl⟩);clear a m p n;go_wp2;go_ret;exact⟨rfl,(Y HP).ay (Y V)⟩
end Go.Proofs.YtophdnlmpfmeiaaGreatDoor
