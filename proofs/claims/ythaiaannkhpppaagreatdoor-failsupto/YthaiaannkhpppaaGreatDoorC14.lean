import Derived.Test.YthaiaannkhpppaaGreatDoorC11
import Derived.Test.YthaiaannkhpppaaGreatDoorC12
open _root_ renaming List.length→y,Option.some→H,Array.size→z,Go.World.heap→G,Go.Value.ownBlock→cK,Go.World.cell?→aW,Go.World.setCell→cq,Go.World.alloc→cN,Bool.false→aX,Bool.true→ci,Nat→M,Int→X,List→cJ,Go.Calls→cY,Go.Proofs.Tryz.prog→aZ,Go.Value.slice→I,Go.Value.bool→aN,Go.Value.pointer→cX,Go.Value.tuple→dq,Go.Value.agg→dC
namespace Go.Proofs.YthaiaannkhpppaaGreatDoor
open ChangeShapes WideShapes RowKit Proofs.Tryz List
set_option maxHeartbeats 16000000
set_option linter.all false
set_option maxRecDepth 100000
variable{a:Y}
def Mc(a:M)(b:cW):ab->Prop:=λx=>x=aE a\/∃t∈b,x=aE t.num
theorem Pg(en e m next d b:M)(f:cJ cW)(hT:Steps a)(h4:y f=4)(jB:next<18446744073709551616)(jA:d<next)(hV:b<18446744073709551616)(gf:y f.flatten<=1000000)(n:∀bg∈f.flatten,bg.oH)(cc:(f.flatten.map bz.num).Nodup)(bT:∀bg∈f.flatten,bg.num<next/\bg.num≠d)(Q:y (fT next d b f)<=m)(er:en<z (G a))(hb:Bytes a (bD en e (y<|fT next d b f) m) (fT next d b f)):cY aZ 84 #[bD en e (y<|fT next d b f) m] a λv w'=>
 ∃x0 n0 c0 x1 n1 c1 x2 n2 c2 x3 n3 c3,v=aM (dq #[dC #[aE next,aE d,aE b,I x0 n0 c0,I x1 n1 c1,I x2 n2 c2,I x3 n3 c3],aN ci])/\(∀(dr:M)(ax:ab)(hN:cW),[I x0 n0 c0,I x1 n1 c1,I x2 n2 c2,I x3 n3 c3][dr]?=H ax->f[dr]?=H hN->w'.ownsRow (z<|G a) 185 4 ax (y hN) (dy hN))/\Z ay a w':=by
 obtain⟨i0,hy,bf,hG,hH⟩:=di Mj
 obtain⟨u0,hD,hF,il,ip⟩:=di Fb
 have hP:∀(hM:Bool)(a:Y),(Op.unary .not<|aN hM).run aZ a=.ok (aN<|!hM) a:=λ_ _=>rfl
 have ih:=@rq aZ
 obtain⟨pre,V⟩:∃pre,pre=le 8 (next:M)++(le 8 (d:M)++(le 8 (b:M)++qc f 0)):=⟨_,rfl⟩
 have ge:fT next d b f=iN pre:=by
  rw[V];unfold fT qc;simp
 have bc:=Ax f
 rw[h4]at bc
 have hA:y pre<=21000000:=by
  rw[V];have:=bc 0;grind[length_append,cH]
 rw[ge]at Q hb|-
 rw[gy]at Q hb|-
 have gg:Z ay a (cN a<|aw #[aE 0,aE 0,aE 0,az,az,az,az] 127):=(cF _ a)
 have dc:=xM en e m pre (hT.alloc<|aw #[aE 0,aE 0,aE 0,az,az,az,az] 127) Q (by omega)<|hb.alloc _
 have fu:(cN a<|aw #[aE 0,aE 0,aE 0,az,az,az,az] 127).heap[z<|G a]?=H (aw #[aE 0,aE 0,aE 0,az,az,az,az] 127 (0,0)):=aJ _ rfl
 have es:Bytes a (bD en e (y pre) m) pre:=by
  unfold iN at hb;rcases hb with⟨v,_⟩|⟨o,r,p,v,l,g⟩
  .cases v
  .simp only[Value.slice.injEq,um,Addr.mk.injEq]at v;obtain⟨⟨rfl,rfl,_⟩,_,rfl⟩:=v;refine .inr ⟨_,_,_,rfl,by omega,λk hk=>?_⟩;have:=g k (by simp;omega);rw[gp hk]at this;exact this
 obtain⟨PL,cx⟩:∃PL,y pre=PL:=⟨_,rfl⟩
 rw[cx]at dc|-
 obtain⟨ha,hp,aD,hl,bn,ec⟩:=lf es gg fu cx V cc
 obtain⟨hg,eb,ac,H4,aa⟩:=iO n bT bc h4 gf
 clear hb es Q ge hA gg fu cx V cc n bT bc h4 gf hT
 go_in
 go_wp2_with fail
 apply dc.mono
 rintro v w1⟨rfl,ba⟩
 have aV:Z ay a w1:=hp.cz<|Z.aR (S:=ay) ba
 have ad:=U<|Z.aR (S:=ay) ba
 have cB:=(Z.aR (S:=ay) ba).block _ (ak aD) id|>.trans aD
 have eq:Bytes w1 (bD en e PL m) pre:=by
  rw[<-J hl];exact ha.below (aV.below (ah _) cL) (λk hk=>by cases hk;exact er)
 have hB:=aV.size
 have fv:=ak cB
 have fn:=mY eq (by intro k hk;cases hk;grind)
 have br:=U aV
 have cv:=U cB
 clear dc ba aV cB eq
 go_wp2_with fail
 apply fn.mono
 rintro v w2⟨rfl,i,bd⟩
 subst bd
 obtain⟨s,cM⟩:∃s,z (G w1)=s:=⟨_,rfl⟩
 have bp:=U<|ad.alloc<|aw #[bD en e PL m,aN aX] 325
 have bf:z (G<|cN a<|aw #[aE 0,aE 0,aE 0,az,az,az,az] 127)<=s:=by have:=ad.size;omega
 have ek:=U<|br.alloc<|aw #[bD en e PL m,aN aX] 325
 have hn:=U<|(fU (aw #[bD en e PL m,aN aX] 325)<|ak cv).trans cv
 have hC:s<z (G<|cN w1<|aw #[bD en e PL m,aN aX] 325):=by simp[cM]
 rw[cM]at i|-
 rw[J bn]at i
 have hS:z (G a)<s:=by omega
 clear fn cM br cv bn
 generalize cN w1 (aw #[bD en e PL m,aN aX] 325)=w2 at*
 have fb:=AN s (next:M) _ w2 i ((kh.le 8 _).append<|(kh.le 8 _).append<|vN f 0) (by have:=ac 0;have:=J aa;grind[length_append,cH]) (by omega)<|by omega
 clear i
 go_wp2_with fail
 apply fb.mono
 rintro v w3⟨rfl,cj,ev⟩
 have fd:=AN s (d:M) _ w3 cj ((kh.le 8 _).append<|vN f 0) (by have:=ac 0;have:=J aa;grind[length_append,cH]) (by omega)<|by omega
 have dT:=U ev
 clear cj ev fb
 go_wp2_with fail
 apply fd.mono
 rintro v w4⟨rfl,ck,ew⟩
 have fe:=AN s (b:M) _ w4 ck (vN f 0) (by have:=ac 0;have:=J aa;omega) (by omega)<|by omega
 have ea:=U ew
 clear ck ew fd
 go_wp2_with fail
 apply fe.mono
 rintro v B⟨rfl,cl,ex⟩
 have av:Z (λk=>k=s) w2 B:=((fA dT).trans (fA ea)<|λ_ h=>.inl h).trans (fA ex)<|λ_ h=>.inl h
 have bq:=U<|bp.trans av<|λk hk=>.inr (by have:k=s:=hk;omega)
 have fx:s<z (G B):=by have:=av.size;omega
 have bo:=U cl
 clear cl ex fe av dT ea ek hn bp ad
 have x:lh (cN (cN B<|aw #[aE next,aE d,aE b,az,az,az,az] 127)<|.map #[] 0) (z (G B)+1) (.int .u64) ay:=by
  have:=lh.new (cN B<|aw #[aE next,aE d,aE b,az,az,az,az] 127)<|.int .u64;simp_all
 have et:(cN (cN B<|aw #[aE next,aE d,aE b,az,az,az,az] 127)<|.map #[] 0).heap[z<|G B]?=H (aw #[aE next,aE d,aE b,az,az,az,az] 127 (0,0)):=(fU _<|by simp).trans<|aJ _ rfl
 have O:=U x
 have dv:=U et
 clear x et
 go_wp2_with((refine FV _ rfl _ _ _ 257 rfl 88 79 underlying257 (.int .u64) underlying88 (z (G B)+1) _ rfl O (aE d) rfl rfl rfl ?_;intro w8 fz ey gt;have ej:=U fz;have cu:=U ey;have el:=U gt;clear fz ey gt))
 have hA0:sR (cN a<|aw #[aE 0,aE 0,aE 0,az,az,az,az] 127) w8 (z<|G B) s (z (G B)+1) next d b [az,az,az,az] [[],[],[],[]] (Mc d<|xW f 0 0) (qc f 0):=by
  have g:Z (λk=>k=z (G B)+1) B w8:=((cF (λk=>k=z (G B)+1) B).alloc _).trans (fA cu)<|λ_ dn=>.inl dn;refine⟨?_,rfl,rfl,?_,?_,ej.congr<|λk=>?_,bo.aj g (λk hk=>by have:k=z (G B)+1:=hk;omega),bq.trans g<|λk hk=>.inr (by have:k=z (G B)+1:=hk;omega),⟨bf,fx,by omega,?_⟩⟩
  .exact(cu.block _ (by simp;omega)<|by grind).trans dv
  .intro dr ax T E hT;have v:ax=az/\T=[]:=by
    rcases dr with _|_|_|_|dr<;>simp at E hT<;>exact⟨E.symm,hT⟩
   rw[v.1,v.2];exact cO _ _ _ _
  .intro dr l ax o q _ E _ hq;have v:ax=az:=by
    rcases dr with _|_|_|_|dr<;>simp at E<;>exact E.symm
   rw[v]at hq;cases hq
  .unfold Mc;rw[RM];simp
  .rw[J el];simp
 have cs:=U hA0
 obtain⟨c,fL⟩:∃c,z (G B)=c:=⟨_,rfl⟩
 rw[fL]at cs|-
 obtain⟨mb,fg⟩:∃mb,c+1=mb:=⟨_,rfl⟩
 rw[fg]at cs|-
 have ca:∀(j:M)(A:cW),f[j]?=H A->y A<=1000000:=λj A hm=>by
  have h1:=J aa;have h2:y A<=y f.flatten:=by
   have:A∈f:=eK hm;exact pU<|dl this
  omega
 have hh:=U ca
 clear hA0 ej cu el O dv bo bq fL fg ca fx hB fv hC bf
 go_wp2_with fail
 go_loopw [35] (λe wr=>∃(j:M)(vs:gW)(Ds:cJ cW),j<=4/\e=ar j/\sR (cN a<|aw #[aE 0,aE 0,aE 0,az,az,az,az] 127) wr c s mb next d b vs Ds (Mc d<|xW f j 0) (qc f j)/\nZ f Ds j 0) (λe _=>4-(intOf e).toNat)
 case atStart=>exact⟨0,_,_,bP _,rfl,cs,nZ.start f⟩
 case round=>
  obtain⟨j,vs,Ds,iv,rfl,o,aF⟩:=hrel;by_cases ff:j<4
  .have eB:j<y f:=by rw[J H4];exact ff
   obtain⟨A,hm⟩:∃A,f[j]?=H A:=⟨_,aQ eB⟩;have hZ:=hh j A hm;have cT:=o.rd;rw[Ld hm]at cT;have gs:=sF s (y A:M) _ wr cT ((BX A).append<|vN f<|j+1) (by have:=ac<|j+1;have:=J aa;rw[af,Bf];omega) (by omega) (by omega);obtain⟨HA,ho,HM⟩:=dz o aF hm;have e1:(j:X)<4:=by omega
   clear o aF hm cT eB;go_wp2_with fail
   apply gs.mono;rintro v w9⟨rfl,cm,eA⟩;have gE:=U<|HA.read (fA eA) cm;clear cm eA gs HA;go_wp2_with fail
   go_loopw [9] (λe g=>∃(k:M)(vs:gW)(Ds:cJ cW),k<=y A/\e=dA (y A-k:M)/\sR (cN a<|aw #[aE 0,aE 0,aE 0,az,az,az,az] 127) g c s mb next d b vs Ds (Mc d<|xW f j k) ((A.drop k).flatMap vg++qc f (j+1))/\nZ f Ds j k) (λe _=>(intOf e).toNat)
   case atStart=>exact⟨0,_,_,bP _,rfl,by rw[List.drop_zero];exact gE,ho⟩
   case round=>
    obtain⟨k,dm,hU,hk,rfl,hA2,w⟩:=hrel;by_cases r:k<y A
    .have hm:=J HM;have ap:=Sk hm r;have n:=hg _ ap;have cE:=eb _ ap;have eu:=Om ec hm r;have gc:=UM hm r;have cn:=w.one hm (k:=k);have gi:A.take (k+1)=A.take k++[A[k]]:=ai r;have eo:=w.now A hm;have i:=hA2.rd;rw[bG r,dU,bA]at i;have hx:y ((A.drop<|k+1).flatMap vg++qc f (j+1))<=100000000:=by
      have:=ac<|j+1;have:=J aa;have h1:y (A.drop<|k+1)<=y A:=by simp
      rw[af,Bf];omega
     have aU:kh ((A.drop<|k+1).flatMap vg++qc f (j+1)):=(BX _).append<|vN f<|j+1;generalize hR:(A.drop<|k+1).flatMap vg++qc f (j+1)=cw at i hx aU|-;have HR:=U hR;clear hR;generalize A[k]=bg at*;unfold vg at i;simp only[bA]at i;have hW:=zV<|fI bg.ks;have hX:=Ch<|fI bg.ks;have q1:=n.num;have q2:=n.d;have q3:=n.i;have fk:bg.wy=[aE bg.num,dA<|y<|dK bg.cs,dA<|y<|fI bg.ks,dA<|mV<|fI bg.ks]:=rfl;have cb:¬Mc d (xW f j k) (aE bg.num):=by
      rintro(dn|⟨ds,hu,dn⟩)
      .simp only[Value.int.injEq,true_and]at dn;exact cE.2<|by omega
      .simp only[Value.int.injEq,true_and]at dn;exact eu ds hu<|by omega
     have bL:∀hM,Mc d (xW f j<|k+1) hM↔(Mc d (xW f j k) hM\/hM=aE bg.num):=λhM=>by
      unfold Mc;rw[gc];simp only[aG,dp];constructor
      .rintro(dn|⟨ds,hu|rfl,dn⟩)
       .simp_all
       .exact .inl<|.inr ⟨ds,hu,dn⟩
       .exact .inr dn
      .rintro((dn|⟨ds,hu,dn⟩)|dn)
       .exact .inl dn
       .exact .inr ⟨ds,.inl hu,dn⟩
       simp_all
     have hO:=cE.1;obtain⟨hd,hi,hf,hr,hc,ef⟩:=lf bL cb fk gi eo cn;clear bL cb fk gi eo cn gc eu cE ap n w hm;generalize bg.num=C at*;generalize y (dK bg.cs)=tl at*;generalize y (fI bg.ks)=W at*;generalize mV (fI bg.ks)=F at*;have a1:kh (le 4 F++cw):=(kh.le 4 _).append aU;have a2:kh (le 4 (W:M)++(le 4 F++cw)):=(kh.le 4 _).append a1;have a3:kh (le 4 (tl:M)++(le 4 (W:M)++(le 4 F++cw))):=(kh.le 4 _).append a2;have gk:=AN s (C:M) _ wr i a3 (by simp only[af,cH];omega) (by omega) (by omega);obtain⟨gx,I1,I2,IR⟩:=fY hA2 a1 a2 aU;have e2:(0:X)<((y A-k:M):X):=by omega
     clear hA2 i a1 a2 a3 aU;go_wp2_with fail
     apply gk.mono;rintro v hI⟨rfl,cd,bt⟩;have bd:=sF s (tl:M) _ hI cd I2 (by simp only[af,cH];omega) (by omega) (by omega);have bi:=U bt;clear cd bt gk;go_wp2_with fail
     apply bd.mono;rintro v hJ⟨rfl,ce,bu⟩;have gn:=sF s (W:M) _ hJ ce I1 (by simp only[af,cH];omega) (by omega) (by omega);have bk:=U bu;clear ce bu bd;go_wp2_with fail
     apply gn.mono;rintro v hK⟨rfl,cf,bv⟩;have gr:=sF s F _ hK cf IR (by omega) (by omega) (by omega);have bl:=U bv;clear cf bv gn;go_wp2_with fail
     apply gr.mono;rintro v K⟨rfl,ch,bx⟩;have cp:Z (λk=>k=s) wr K:=(((fA bi).trans (fA bk)<|λ_ h=>.inl h).trans (fA bl)<|λ_ h=>.inl h).trans (fA bx)<|λ_ h=>.inl h;have hA13:=gx.read cp ch;have hA14:=hA13.still<|(Z.refl ay K).alloc<|aw #[aE C,dA tl,dA W,dA F] 185;have hA15:=hA14.still<|(Z.refl ay _).alloc<|aw #[] 79;have hz:=BH underlying257 underlying88 hD hF hA14.set (aE C) rfl aX (by simp only[tw,false_iff];exact hi);have gb:=GM hA15.rd;obtain⟨N,hj,u⟩:=dz hA15 (show∀(ax:ab)(q:M),dm[j]?=H ax->cK ax=H q->q<z (G K)fromλax q E hq=>(hA13.own E hq).2)<|show(cN (cN K<|aw #[aE C,dA tl,dA W,dA F] 185)<|aw #[] 79).heap[z<|G K]?=H (aw #[aE C,dA tl,dA W,dA F] 185 (0,0))from(fU _<|by simp).trans<|aJ _ rfl;clear ch bx cp hA13 hA14 hA15 gr bi bk bl;go_wp2_with fail
     apply gb.mono;rintro v hL⟨rfl,hQ⟩;subst hL;obtain⟨mk,n⟩:∃mk,z (G K)=mk:=⟨_,rfl⟩;have he:=U n;rw[n]at u|-;clear hz gb n;generalize cN (cN K<|aw #[aE C,dA tl,dA W,dA F] 185) (aw #[] 79)=em at*;have g0:aW em (R mk 0)=H (aE C):=by rw[cg<|J u];rfl
     have g1:aW em (R c 0)=H (aE next):=by rw[cg (J N).box];rfl
     have e3:¬((next:X)<=(C:X)):=by omega
     go_wp2_with(at_mapUpdate;go_loud(refine uR _ rfl _ _ _ 257 rfl 88 79 underlying257 (.int .u64) underlying88 mb _ rfl N.set (aE C) rfl rfl rfl ?_;intro t co bE;have ei:=U co;have bm:=U bE;clear co bE))
     have hA16:=(N.CK bm ei).ks hd;have p:=(bm.block mk (ak u) (by intro v;have v:=gY v;obtain⟨iu,it,hY,_⟩:=N.set;have h2:=J u;rw[v,hY]at h2;cases h2)).trans u;have gj:j<y dm:=by rw[hA16.zC];exact ff
     obtain⟨ax,E⟩:∃ax,dm[j]?=H ax:=⟨_,aQ gj⟩;have T:=hA16.rows j ax _ E hc;obtain⟨ox,oc,fs⟩:=aB T;have db:y (A.take k)=k:=by rw[dO];omega
     rw[db]at T fs;have k0:aW t (R c<|3+j)=H ax:=(hA16.cell j).trans E;have k1:=cellAt p 0 rfl;have k2:=cellAt p 1 rfl;have k3:=cellAt p 2 rfl;have k4:=cellAt p 3 rfl;have ao:=ak hA16.box;have l:=ak p;have fr:=hA16.ord;obtain⟨ed,bh,HV,hs⟩:=fY T hA16 E db;have e0:(0:X)<=(j:X):=by omega
     clear hA16 p T E db gj g0 g1;subst fs;have P:aW t.drew (R c<|3+j)=H (I ox k oc)/\aW t.drew (R mk 0)=H (aE C)/\aW t.drew (R mk 1)=H (dA tl)/\aW t.drew (R mk 2)=H (dA W)/\aW t.drew (R mk 3)=H (dA F):=by
      rw[bF,bF,bF,bF,bF];simp_all
     refine zi (by kernel_rfl) ?_;refine wpAny_take (i:=8) (v:=cX<|H<|R c 3) rfl (by kernel_rfl) (by kernel_rfl) (by kernel_rfl) (λ_ _ _ h=>h) (Or.inl ⟨by rfl,λg=>?_⟩) ?_
     .go_simp;try with_reducible rfl
     simp only[Act.put,dW,iS];refine re (S:=λg=>aW g (R c<|3+j)=H (I ox k oc)/\aW g (R mk 0)=H (aE C)/\aW g (R mk 1)=H (dA tl)/\aW g (R mk 2)=H (dA W)/\aW g (R mk 3)=H (dA F)) (m:=10) _ _ _ _ ?_;refine fh 0 ?_;iterate 6 (refine iz (v:=?_) P rfl (by kernel_rfl) lk rfl ?_ ?_;rotate_left;(focus(rintro g⟨z0,z1,z2,z3,z4⟩;go_simp;try rfl));simp only[Act.put,dW,iS,Nat.reduceAdd])
     apply ii;refine bj (i:=6) rfl rfl (by kernel_rfl) ?_;intro K6 hv;go_simp;refine hv _ _ (λ_=>?_) ?_
     .rw[bF,bF,bF,bF,bF,fC ao,fC l,fC l,fC l,fC l];simp_all
     try simp only[Act.put,dW,iS]
     refine bj (i:=7) rfl rfl (by kernel_rfl) ?_;intro K7 hw;try simp only[de,cD,cI]
     refine kp (.tmp 81) (.tmp 83) 124 rfl (mb+1) 185 i0 (dC #[aE 0,dA 0,dA 0,dA 0]) 4 24 underlying124 hy bf hG hH rfl (by decide) (I ox k oc) k (dy<|A.take k) rfl (ke (aT ed<|aw #[aE C,dA tl,dA W,dA F] 185) rfl) (R (z<|G t) 0) 1 1 [aE C,dA tl,dA W,dA F] rfl rfl (Df _ _ _ _ _ rfl) (by simp[Value.oneCell']) (by omega) (by omega) (by simp;omega) ?_;intro v3 L au cr;have dk:eE (cN t<|aw #[aE C,dA tl,dA W,dA F] 185) L (I ox k oc) v3:=eE.of_heap cr rfl;have hA17:=bh.still<|(Z.refl ay t).alloc<|aw #[aE C,dA tl,dA W,dA F] 185;have bs:=hA17.put (D':=A.take<|k+1) HV dk (by rw[J hr,ER,J hf,af,J hs];exact au);have D:=Z.fH dk;have fl:cK (I ox k oc)≠H c:=λv=>by have:=(ed.lt c v).1;omega
     have bb:cK (I ox k oc)≠H mk:=λv=>by have:=hj _ _ HV v;have:=J he;omega
     have s0:aW L (R c<|3+j)=H (I ox k oc):=D.cell (by rw[fC ao];exact k0) fl (by simp;omega);have s1:aW L (R mk 0)=H (aE C):=D.cell (by rw[fC l];exact k1) bb (by simp;omega);have s2:aW L (R mk 1)=H (dA tl):=D.cell (by rw[fC l];exact k2) bb (by simp;omega);have s3:aW L (R mk 2)=H (dA W):=D.cell (by rw[fC l];exact k3) bb (by simp;omega);have s4:aW L (R mk 3)=H (dA F):=D.cell (by rw[fC l];exact k4) bb (by simp;omega);have an:=(D.block c (by simp;omega) fl).trans<|(fU _ ao).trans bh.box;have f0:L.frozen? (R c<|3+j)=aX:=by simp[World.frozen?,an]
     obtain⟨x3,c3,hE⟩:=aB au;subst hE;refine hw _ _ (λ_=>⟨s0,s1,s2,s3,s4⟩) ?_;try simp only[Act.put,dW,iS]
     refine lz (i:=9) (v:=?_) rfl rfl (by kernel_rfl) (by kernel_rfl) (by kernel_rfl) (by kernel_rfl) (λ_ _ _ h=>h) (Or.inl ⟨by rfl,?_⟩) (And.intro s0 (And.intro s1 (And.intro s2 (And.intro s3 s4)))) ?_;rotate_left
     .rintro g⟨z0,z1,z2,z3,z4⟩;go_simp;try with_reducible rfl
     simp only[Act.put,dW,iS];refine bj (i:=10) rfl rfl (by kernel_rfl) ?_;intro ht al;have dx:=U bs;clear bs hA17 dk D au cr an s1 s2 s3 s4 k0 k1 k2 k3 k4 P;go_simp;refine al _ _ FQ ?_;refine eS (by kernel_rfl) ?_ _;have eg:=U ef;have a5:IntKind.u32.wrap (((y A-k:M):X)-1)=((y A-(k+1):M):X):=by rw[IntKind.wrap_u32];omega
     go_wp2;go_roundw;case rel=>exact⟨k+1,_,_,r,rfl,by rw[J HR];exact dx,eg⟩
     case measure=>simp[intOf];omega
    .have t:k=y A:=by omega
     subst t;rw[gv,vA,cV,<-Ol (J HM)]at hA2;have l:=U<|w.yj HM H4;have p:=U hA2;have e5:¬((0:X)<((y A-y A:M):X)):=by omega
     clear hA2 w;go_wp2;go_roundw;case rel=>exact⟨j+1,_,_,by omega,by go_num,p,l⟩
     case measure=>simp[intOf];omega
  .have bh:j=4:=by omega
   subst bh;rw[RE<|Al<|J H4]at o;have ap:=aF.all H4 o.Bg;subst ap;have w:=yw o.rd (by simp);simp only[qH,nG,uP]at w;have bi:=o.zC;obtain⟨v0,v1,v2,v3,rfl⟩:∃v0 v1 v2 v3,vs=[v0,v1,v2,v3]:=by
    rcases vs with _|⟨v0,_|⟨v1,_|⟨v2,_|⟨v3,_|⟨v4,bs⟩⟩⟩⟩⟩<;>simp at bi;grind
   obtain⟨D,bt,o0⟩:=o.row (j:=0) rfl;obtain⟨F,bu,o1⟩:=o.row (j:=1) rfl;obtain⟨K,bv,o2⟩:=o.row (j:=2) rfl;obtain⟨L,bx,o3⟩:=o.row (j:=3) rfl;obtain⟨x0,N,rfl⟩:=aB o0;obtain⟨x1,T,rfl⟩:=aB o1;obtain⟨x2,W,rfl⟩:=aB o2;obtain⟨x3,y3,rfl⟩:=aB o3;have hR:=(o.aj.block _ (ak aD) id).trans aD;have fr:=o.ord;have r0:=cellAt o.box 0 rfl;have r1:=cellAt o.box 1 rfl;have r2:=cellAt o.box 2 rfl;have r3:=cellAt o.box 3 rfl;have r4:=cellAt o.box 4 rfl;have r5:=cellAt o.box 5 rfl;have r6:=cellAt o.box 6 rfl;have HA:=U o;have C:=U hR;have e5:¬((4:X)<4):=by omega
   have e6:(d:X)<(next:X):=by omega
   clear o aF o0 o1 o2 o3 hR;go_wp2_with fail
   rename_i QQ KK aU;refine dR (λg=>aW g (R c 0)=H (aE next)/\aW g (R c 1)=H (aE d)/\aW g (R c 2)=H (aE b)/\aW g (R c 3)=H (I x0 (y D) N)/\aW g (R c 4)=H (I x1 (y F) T)/\aW g (R c 5)=H (I x2 (y K) W)/\aW g (R c 6)=H (I x3 (y L) y3)) 11 (by kernel_rfl) ?_;have p:wr.drew.heap[z<|G a]?=_:=J C;have u:=U<|HA.still<|cZ ay wr;have P:aW wr.drew (R c 0)=H (aE next)/\aW wr.drew (R c 1)=H (aE d)/\aW wr.drew (R c 2)=H (aE b)/\aW wr.drew (R c 3)=H (I x0 (y D) N)/\aW wr.drew (R c 4)=H (I x1 (y F) T)/\aW wr.drew (R c 5)=H (I x2 (y K) W)/\aW wr.drew (R c 6)=H (I x3 (y L) y3):=by
    rw[bF,bF,bF,bF,bF,bF,bF];simp_all
   have w:=yw u.rd (by simp);simp only[qH,nG,uP]at w;clear r0 r1 r2 r3 r4 r5 r6 HA C;generalize wr.drew=bm at*;refine fh 0 ?_;iterate 2 (refine iz (v:=?_) P rfl (by kernel_rfl) lk rfl ?_ ?_;rotate_left;(focus(rintro g⟨z0,z1,z2,z3,z4,z5,z6⟩;go_simp;try rfl));simp only[Act.put,dW,iS,Nat.reduceAdd])
   apply ii;refine bj (i:=2) rfl rfl (by kernel_rfl) ?_;intro K2 au;go_simp;apply w.mono;rintro v w'⟨rfl,bE⟩;subst w';refine au _ _ (λ_=>P) ?_;try simp only[Act.put,dW,iS]
   refine fh 3 ?_;iterate 7 (refine iz (v:=?_) P rfl (by kernel_rfl) lk rfl ?_ ?_;rotate_left;(focus(rintro g⟨z0,z1,z2,z3,z4,z5,z6⟩;go_simp;try rfl));simp only[Act.put,dW,iS,Nat.reduceAdd])
   apply ii;refine bj (i:=10) rfl rfl (by kernel_rfl) ?_;intro ht al;have bb:∀j,bm.frozen? (R (z<|G a) j)=aX:=λj=>by simp[World.frozen?,p]
   have t0:=cellAt p 0 rfl;have t1:=cellAt p 1 rfl;have t2:=cellAt p 2 rfl;have t3:=cellAt p 3 rfl;have t4:=cellAt p 4 rfl;have t5:=cellAt p 5 rfl;have t6:=cellAt p 6 rfl;have C:=U p;clear p;go_simp;have x:=aH (i:=6) (u:=I x3 (y L) y3)<|aH (i:=5) (u:=I x2 (y K) W)<|aH (i:=4) (u:=I x1 (y F) T)<|aH (i:=3) (u:=I x0 (y D) N)<|aH (i:=2) (u:=aE b)<|aH (i:=1) (u:=aE d)<|aH (i:=0) (u:=aE next) C;have t:=(((((((Z.refl (λk=>k=z (G a)) bm).setCell (z<|G a) 0 (aE next)<|.inl rfl).setCell (z<|G a) 1 (aE d)<|.inl rfl).setCell (z<|G a) 2 (aE b)<|.inl rfl).setCell (z<|G a) 3 (I x0 (y D) N)<|.inl rfl).setCell (z<|G a) 4 (I x1 (y F) T)<|.inl rfl).setCell (z<|G a) 5 (I x2 (y K) W)<|.inl rfl).setCell (z<|G a) 6 (I x3 (y L) y3)<|.inl rfl;generalize(cq (cq (cq (cq (cq (cq (cq bm (R (z<|G a) 0)<|aE next) (R (z<|G a) 1)<|aE d) (R (z<|G a) 2)<|aE b) (R (z<|G a) 3)<|I x0 (y D) N) (R (z<|G a) 4)<|I x1 (y F) T) (R (z<|G a) 5)<|I x2 (y K) W) (R (z<|G a) 6)<|I x3 (y L) y3)=W9 at*;have r:c≠z (G a):=by
    have h1:z (G<|cN a<|aw #[aE 0,aE 0,aE 0,az,az,az,az] 127)=z (G a)+1:=by simp
    omega
   have l:=ak u.box;refine al _ _ (λ_=>⟨t.cell P.1 r l,t.cell P.2.1 r l,t.cell P.2.2.1 r l,t.cell P.2.2.2.1 r l,t.cell P.2.2.2.2.1 r l,t.cell P.2.2.2.2.2.1 r l,t.cell P.2.2.2.2.2.2 r l⟩) ?_;try simp only[Act.put,dW,iS]
   refine bj (i:=11) rfl rfl (by kernel_rfl) ?_;intro bl ao;obtain⟨O,an,bk⟩:=dz x t r;clear x t r t0 t1 t2 t3 t4 t5 t6 bb P w;go_simp;refine ao _ _ FQ ?_;refine eS (by kernel_rfl) ?_ _;show KK _ _;apply aU;go_wp2;refine ct (qM rfl _ _ (z<|G a) next d b _ _ _ _ _ _ rfl O ⟨_,_,_,rfl⟩ ⟨_,_,_,rfl⟩ ⟨_,_,_,rfl⟩ ⟨_,_,_,rfl⟩) rfl ?_;refine⟨x0,y D,N,x1,y F,T,x2,y K,W,x3,y L,y3,rfl,?_,?_⟩
   .intro dr ax hN E bs;have hr:=u.rows dr ax hN E bs;refine fX (an.own hr<|λq hq v=>?_) ?_
    .have:=u.own E hq;have h1:z (G<|cN a<|aw #[aE 0,aE 0,aE 0,az,az,az,az] 127)=z (G a)+1:=by simp
     have:q=z (G a):=v;omega
    .omega
   .exact(((cF ay a).cz u.aj).trans an<|λk v=>.inr (by have:k=z (G a):=v;omega))
