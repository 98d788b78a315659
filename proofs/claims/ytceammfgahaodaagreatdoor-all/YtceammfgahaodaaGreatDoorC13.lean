import Derived.Test.YtceammfgahaodaaGreatDoorC10
import Derived.Test.YtceammfgahaodaaGreatDoorC11
open _root_ renaming List.length→z,Option.some→M,Array.size→G,Go.World.heap→H,Go.Value.ownBlock→bY,Go.World.cell?→aS,Go.World.setCell→ct,Go.World.alloc→cF,Bool.false→bF,Bool.true→bX,Nat→R,Int→Y,List→cD,Go.Calls→cA,Go.undef→iE,Go.Proofs.Tryz.prog→bG,Go.Value.slice→ah,Go.Value.string→aj,Go.Value.bool→aO,Go.Value.pointer→fA,Go.Value.tuple→dE,Go.Value.agg→eB
namespace Go.Proofs.YtceammfgahaodaaGreatDoor
open ChangeShapes WideShapes RowKit Proofs.Tryz
set_option maxHeartbeats 16000000
set_option linter.all false
set_option maxRecDepth 100000
variable{a:I}{b:R}{j N:DK}{m:Y}{n:SR}
def Mb(a:R)(b:cR):aa->Prop:=λx=>x=aL a\/∃t∈b,x=aL t.num
def Pc(eg e m next d b:R)(f:cD cR)(hT:Steps a)(h4:z f=4)(kn:next<18446744073709551616)(kl:d<next)(jE:b<18446744073709551616)(he:z f.flatten<=1000000)(n:∀bm∈f.flatten,bm.oG)(cm:(f.flatten.map bJ.num).Nodup)(cj:∀bm∈f.flatten,bm.num<next/\bm.num≠d)(Q:z (iM next d b f)<=m)(ff:eg<G (H a))(hb:Bytes a (bE eg e (z<|iM next d b f) m) (iM next d b f)):cA bG 149 #[bE eg e (z<|iM next d b f) m] a λt w'=>
 ∃x0 n0 c0 x1 n1 c1 x2 n2 c2 x3 n3 c3,t=aP (dE #[eB #[aL next,aL d,aL b,ah x0 n0 c0,ah x1 n1 c1,ah x2 n2 c2,ah x3 n3 c3],aO bX])/\(∀(ef:R)(ba:aa)(iu:cR),[ah x0 n0 c0,ah x1 n1 c1,ah x2 n2 c2,ah x3 n3 c3][ef]?=M ba->f[ef]?=M iu->w'.ownsRow (G<|H a) 266 4 ba (z iu) (du iu))/\J az a w':=by
 obtain⟨i0,hM,bl,hW,hX⟩:=cL Mg
 obtain⟨u0,hS,hV,kb,kc⟩:=cL EY
 have jA:∀(it:Bool)(a:I),(Op.unary .not<|aO it).run bG a=.ok (aO<|!it) a:=λ_ _=>rfl
 have ka:=@tS bG
 obtain⟨v,V⟩:∃v,v=le 8 (next:R)++(le 8 (d:R)++(le 8 (b:R)++qu f 0)):=⟨_,rfl⟩
 have hd:iM next d b f=iJ v:=by
  rw[V];unfold iM qu;simp
 have bi:=Al f
 rw[h4]at bi
 have hO:z v<=21000000:=by
  rw[V];have:=bi 0;simp only[af,cq];omega
 rw[hd]at Q hb|-
 rw[gC]at Q hb|-
 have hf:J az a (cF a<|aw #[aL 0,aL 0,aL 0,aG,aG,aG,aG] 187):=(cI _ a)
 have ec:=xz eg e m v (hT.alloc<|aw #[aL 0,aL 0,aL 0,aG,aG,aG,aG] 187) Q (by omega)<|hb.alloc _
 have gr:(cF a<|aw #[aL 0,aL 0,aL 0,aG,aG,aG,aG] 187).heap[G<|H a]?=M (aw #[aL 0,aL 0,aL 0,aG,aG,aG,aG] 187 (0,0)):=aE _ rfl
 have fk:Bytes a (bE eg e (z v) m) v:=by
  unfold iJ at hb;rcases hb with⟨t,_⟩|⟨o,r,p,t,l,g⟩
  .cases t
  .simp only[Value.slice.injEq,tT,Addr.mk.injEq]at t;obtain⟨⟨rfl,rfl,_⟩,_,rfl⟩:=t;refine .inr ⟨_,_,_,rfl,by omega,λk hk=>?_⟩;have:=g k (by simp;omega);rw[gm hk]at this;exact this
 obtain⟨PL,ds⟩:∃PL,z v=PL:=⟨_,rfl⟩
 rw[ds]at ec|-
 obtain⟨hs,hF,bb,hC,bs,eo⟩:=kD fk hf gr ds V cm
 obtain⟨hy,en,ac,H4,X⟩:=jX n cj bi h4 he
 clear hb fk Q hd hO hf gr ds V cm n cj bi h4 he hT
 go_in
 go_wp2_with fail
 apply ec.mono
 rintro t w1⟨rfl,bg⟩
 have bf:J az a w1:=hF.cw<|J.aV (S:=az) bg
 have ad:=Z<|J.aV (S:=az) bg
 have dv:=(J.aV (S:=az) bg).block _ (am bb) id|>.trans bb
 have fe:Bytes w1 (bE eg e PL m) v:=by
  rw[<-ae hC];exact hs.below (bf.below (ai _) cN) (λk hk=>by cases hk;exact ff)
 have hP:=bf.size
 have gs:=am dv
 have gj:=nu fe (by intro k hk;cases hk;show eg<G (H w1);omega)
 have bx:=Z bf
 have dm:=Z dv
 clear ec bg bf dv fe
 go_wp2_with fail
 apply gj.mono
 rintro t w2⟨rfl,i,bk⟩
 subst bk
 obtain⟨s,dT⟩:∃s,G (H w1)=s:=⟨_,rfl⟩
 have bu:=Z<|ad.alloc<|aw #[bE eg e PL m,aO bF] 376
 have bl:G (H<|cF a<|aw #[aL 0,aL 0,aL 0,aG,aG,aG,aG] 187)<=s:=by have:=ad.size;omega
 have ex:=Z<|bx.alloc<|aw #[bE eg e PL m,aO bF] 376
 have hD:=Z<|(ga (aw #[bE eg e PL m,aO bF] 376)<|am dm).trans dm
 have hQ:s<G (H<|cF w1<|aw #[bE eg e PL m,aO bF] 376):=by simp[dT]
 rw[dT]at i|-
 rw[ae bs]at i
 have jC:G (H a)<s:=by omega
 clear gj dT bx dm bs
 generalize cF w1 (aw #[bE eg e PL m,aO bF] 376)=w2 at*
 have fL:=AA s (next:R) _ w2 i ((kG.le 8 _).append<|(kG.le 8 _).append<|vq f 0) (by have:=ac 0;have:=ae X;simp only[af,cq];omega) (by omega)<|by omega
 clear i
 go_wp2_with fail
 apply fL.mono
 rintro t w3⟨rfl,cu,fr⟩
 have gb:=AA s (d:R) _ w3 cu ((kG.le 8 _).append<|vq f 0) (by have:=ac 0;have:=ae X;simp only[af,cq];omega) (by omega)<|by omega
 have el:=Z fr
 clear cu fr fL
 go_wp2_with fail
 apply gb.mono
 rintro t w4⟨rfl,cv,fs⟩
 have gc:=AA s (b:R) _ w4 cv (vq f 0) (by have:=ac 0;have:=ae X;omega) (by omega)<|by omega
 have em:=Z fs
 clear cv fs gb
 go_wp2_with fail
 apply gc.mono
 rintro t w⟨rfl,cx,fu⟩
 have ax:J (λk=>k=s) w2 w:=((fy el).trans (fy em)<|λ_ h=>.inl h).trans (fy fu)<|λ_ h=>.inl h
 have bv:=Z<|bu.trans ax<|λk hk=>.inr (by have:k=s:=hk;omega)
 have gt:s<G (H w):=by have:=ax.size;omega
 have bt:=Z cx
 clear cx fu gc ax el em ex hD bu ad
 have A:lJ (cF (cF w<|aw #[aL next,aL d,aL b,aG,aG,aG,aG] 187)<|.map #[] 0) (G (H w)+1) (.int .u64) az:=by
  have:=lJ.new (cF w<|aw #[aL next,aL d,aL b,aG,aG,aG,aG] 187)<|.int .u64;have t:G (H<|cF w<|aw #[aL next,aL d,aL b,aG,aG,aG,aG] 187)=G (H w)+1:=by simp
  rw[t]at this;exact this
 have fl:(cF (cF w<|aw #[aL next,aL d,aL b,aG,aG,aG,aG] 187)<|.map #[] 0).heap[G<|H w]?=M (aw #[aL next,aL d,aL b,aG,aG,aG,aG] 187 (0,0)):=(ga _<|by simp).trans<|aE _ rfl
 have O:=Z A
 have ej:=Z fl
 clear A fl
 go_wp2_with((refine FN _ rfl _ _ _ 332 rfl 103 94 underlying332 (.int .u64) underlying103 (G (H w)+1) _ rfl O (aL d) rfl rfl rfl ?_;intro w8 gv fv ho;have ev:=Z gv;have dk:=Z fv;have ey:=Z ho;clear gv fv ho))
 have hA0:sD (cF a<|aw #[aL 0,aL 0,aL 0,aG,aG,aG,aG] 187) w8 (G<|H w) s (G (H w)+1) next d b [aG,aG,aG,aG] [[],[],[],[]] (Mb d<|xF f 0 0) (qu f 0):=by
  have g:J (λk=>k=G (H w)+1) w w8:=((cI (λk=>k=G (H w)+1) w).alloc _).trans (fy dk)<|λ_ dc=>.inl dc;refine⟨?_,rfl,rfl,?_,?_,ev.congr<|λk=>?_,bt.ay g (λk hk=>by have:k=G (H w)+1:=hk;omega),bv.trans g<|λk hk=>.inr (by have:k=G (H w)+1:=hk;omega),⟨bl,gt,by omega,?_⟩⟩
  .exact(dk.block _ (by simp;omega) (by intro t;have:=dF t;omega)).trans ej
  .intro ef ba T E hT;have t:ba=aG/\T=[]:=by
    rcases ef with _|_|_|_|ef<;>simp at E hT<;>exact⟨E.symm,hT⟩
   rw[t.1,t.2];exact bN _ _ _ _
  .intro ef l ba o q _ E _ hq;have t:ba=aG:=by
    rcases ef with _|_|_|_|ef<;>simp at E<;>exact E.symm
   rw[t]at hq;cases hq
  .unfold Mb;rw[Ro];simp
  .rw[ae ey];simp
 have dd:=Z hA0
 obtain⟨c,gA⟩:∃c,G (H w)=c:=⟨_,rfl⟩
 rw[gA]at dd|-
 obtain⟨mb,gf⟩:∃mb,c+1=mb:=⟨_,rfl⟩
 rw[gf]at dd|-
 have ck:∀(j:R)(B:cR),f[j]?=M B->z B<=1000000:=λj B hm=>by
  have h1:=ae X;have h2:z B<=z f.flatten:=by
   have:B∈f:=gz hm;exact qi<|cW this
  omega
 have hz:=Z ck
 clear hA0 ev dk ey O ej bt bv gA gf ck gt hP gs hQ bl
 go_wp2_with fail
 go_loopw [35] (λe wr=>∃(j:R)(vs:jd)(Ds:cD cR),j<=4/\e=aq j/\sD (cF a<|aw #[aL 0,aL 0,aL 0,aG,aG,aG,aG] 187) wr c s mb next d b vs Ds (Mb d<|xF f j 0) (qu f j)/\oa f Ds j 0) (λe _=>4-(intOf e).toNat)
 case atStart=>exact⟨0,_,_,bB _,rfl,dd,oa.start f⟩
 case round=>
  obtain⟨j,vs,Ds,kk,rfl,o,bc⟩:=hrel;by_cases ge:j<4
  .have fz:j<z f:=by rw[ae H4];exact ge
   obtain⟨B,hm⟩:∃B,f[j]?=M B:=⟨_,aK fz⟩;have jK:=hz j B hm;have ea:=o.rd;rw[La hm]at ea;have hn:=sq s (z B:R) _ wr ea ((BI B).append<|vq f<|j+1) (by have:=ac<|j+1;have:=ae X;rw[af,AR];omega) (by omega) (by omega);obtain⟨HA,hE,HM⟩:=dI o bc hm;have e1:(j:Y)<4:=by omega
   clear o bc hm ea fz;go_wp2_with fail
   apply hn.mono;rintro t w9⟨rfl,cB,fx⟩;have hr:=Z<|HA.read (fy fx) cB;clear cB fx hn HA;go_wp2_with fail
   go_loopw [9] (λe g=>∃(k:R)(vs:jd)(Ds:cD cR),k<=z B/\e=dz (z B-k:R)/\sD (cF a<|aw #[aL 0,aL 0,aL 0,aG,aG,aG,aG] 187) g c s mb next d b vs Ds (Mb d<|xF f j k) ((B.drop k).flatMap uK++qu f (j+1))/\oa f Ds j k) (λe _=>(intOf e).toNat)
   case atStart=>exact⟨0,_,_,bB _,rfl,by rw[List.drop_zero];exact hr,hE⟩
   case round=>
    obtain⟨k,ee,jD,hk,rfl,hA2,y⟩:=hrel;by_cases r:k<z B
    .have hm:=ae HM;have au:=RJ hm r;have n:=hy _ au;have dx:=en _ au;have fn:=Og eo hm r;have hc:=Ud hm r;have cE:=y.one hm (k:=k);have hg:B.take (k+1)=B.take k++[B[k]]:=ak r;have fd:=y.now B hm;have i:=hA2.rd;rw[bH r,dN,aW]at i;have hL:z ((B.drop<|k+1).flatMap uK++qu f (j+1))<=100000000:=by
      have:=ac<|j+1;have:=ae X;have h1:z (B.drop<|k+1)<=z B:=by simp
      rw[af,AR];omega
     have bd:kG ((B.drop<|k+1).flatMap uK++qu f (j+1)):=(BI _).append<|vq f<|j+1;generalize hR:(B.drop<|k+1).flatMap uK++qu f (j+1)=dn at i hL bd|-;have HR:=Z hR;clear hR;generalize B[k]=bm at*;unfold uK at i;simp only[aW]at i;have jG:=zP<|fp bm.ks;have jH:=BT<|fp bm.ks;have q1:=n.num;have q2:=n.d;have q3:=n.i;have gg:bm.uG=[aL bm.num,dz<|z<|dL bm.cs,dz<|z<|fp bm.ks,dz<|mQ<|fp bm.ks]:=rfl;have cl:¬Mb d (xF f j k) (aL bm.num):=by
      rintro(dc|⟨ei,hu,dc⟩)
      .simp only[Value.int.injEq,true_and]at dc;exact dx.2<|by omega
      .simp only[Value.int.injEq,true_and]at dc;exact fn ei hu<|by omega
     have ch:∀it,Mb d (xF f j<|k+1) it↔(Mb d (xF f j k) it\/it=aL bm.num):=λit=>by
      unfold Mb;rw[hc];simp only[ap,bI];constructor
      .rintro(dc|⟨ei,hu|rfl,dc⟩)
       .exact .inl<|.inl dc
       .exact .inl<|.inr ⟨ei,hu,dc⟩
       .exact .inr dc
      .rintro((dc|⟨ei,hu,dc⟩)|dc)
       .exact .inl dc
       .exact .inr ⟨ei,.inl hu,dc⟩
       .exact .inr ⟨bm,.inr rfl,dc⟩
     have iv:=dx.1;obtain⟨hv,hA,hx,hG,ht,es⟩:=kD ch cl gg hg fd cE;clear ch cl gg hg fd cE hc fn dx au n y hm;generalize bm.num=C at*;generalize z (dL bm.cs)=tl at*;generalize z (fp bm.ks)=W at*;generalize mQ (fp bm.ks)=F at*;have a1:kG (le 4 F++dn):=(kG.le 4 _).append bd;have a2:kG (le 4 (W:R)++(le 4 F++dn)):=(kG.le 4 _).append a1;have a3:kG (le 4 (tl:R)++(le 4 (W:R)++(le 4 F++dn))):=(kG.le 4 _).append a2;have hi:=AA s (C:R) _ wr i a3 (by simp only[af,cq];omega) (by omega) (by omega);obtain⟨hp,I1,I2,IR⟩:=gD hA2 a1 a2 bd;have e2:(0:Y)<((z B-k:R):Y):=by omega
     clear hA2 i a1 a2 a3 bd;go_wp2_with fail
     apply hi.mono;rintro t hY⟨rfl,cn,ca⟩;have bk:=sq s (tl:R) _ hY cn I2 (by simp only[af,cq];omega) (by omega) (by omega);have bo:=Z ca;clear cn ca hi;go_wp2_with fail
     apply bk.mono;rintro t ih⟨rfl,co,cb⟩;have hj:=sq s (W:R) _ ih co I1 (by simp only[af,cq];omega) (by omega) (by omega);have bp:=Z cb;clear co cb bk;go_wp2_with fail
     apply hj.mono;rintro t il⟨rfl,cp,cc⟩;have hl:=sq s F _ il cp IR (by omega) (by omega) (by omega);have bq:=Z cc;clear cp cc hj;go_wp2_with fail
     apply hl.mono;rintro t K⟨rfl,cs,cd⟩;have cT:J (λk=>k=s) wr K:=(((fy bo).trans (fy bp)<|λ_ h=>.inl h).trans (fy bq)<|λ_ h=>.inl h).trans (fy cd)<|λ_ h=>.inl h;have hA13:=hp.read cT cs;have hA14:=hA13.still<|(J.refl az K).alloc<|aw #[aL C,dz tl,dz W,dz F] 266;have hA15:=hA14.still<|(J.refl az _).alloc<|aw #[] 94;have hN:=Bq underlying332 underlying103 hS hV hA14.set (aL C) rfl bF (by simp only[gV,false_iff];exact hA);have ha:=GK hA15.rd;obtain⟨N,hB,x⟩:=dI hA15 (show∀(ba:aa)(q:R),ee[j]?=M ba->bY ba=M q->q<G (H K)fromλba q E hq=>(hA13.own E hq).2)<|show(cF (cF K<|aw #[aL C,dz tl,dz W,dz F] 266)<|aw #[] 94).heap[G<|H K]?=M (aw #[aL C,dz tl,dz W,dz F] 266 (0,0))from(ga _<|by simp).trans<|aE _ rfl;clear cs cd cT hA13 hA14 hA15 hl bo bp bq;go_wp2_with fail
     apply ha.mono;rintro t ip⟨rfl,jB⟩;subst ip;obtain⟨mk,n⟩:∃mk,G (H K)=mk:=⟨_,rfl⟩;have hw:=Z n;rw[n]at x|-;clear hN ha n;generalize cF (cF K<|aw #[aL C,dz tl,dz W,dz F] 266) (aw #[] 94)=fb at*;have g0:aS fb (U mk 0)=M (aL C):=by rw[bL<|ae x];rfl
     have g1:aS fb (U c 0)=M (aL next):=by rw[bL (ae N).box];rfl
     have e3:¬((next:Y)<=(C:Y)):=by omega
     go_wp2_with(at_mapUpdate;go_loud(refine uy _ rfl _ _ _ 332 rfl 103 94 underlying332 (.int .u64) underlying103 mb _ rfl N.set (aL C) rfl rfl rfl ?_;intro u cM ce;have eu:=Z cM;have br:=Z ce;clear cM ce))
     have hA16:=(N.EA br eu).ks hv;have p:=(br.block mk (am x) (by intro t;have t:=dF t;obtain⟨kf,kd,jI,_⟩:=N.set;have h2:=ae x;rw[t,jI]at h2;cases h2)).trans x;have hh:j<z ee:=by rw[hA16.zp];exact ge
     obtain⟨ba,E⟩:∃ba,ee[j]?=M ba:=⟨_,aK hh⟩;have T:=hA16.rows j ba _ E ht;obtain⟨ox,oc,gn⟩:=aB T;have eb:z (B.take k)=k:=by rw[dP];omega
     rw[eb]at T gn;have k0:aS u (U c<|3+j)=M ba:=(hA16.cell j).trans E;have k1:=cellAt p 0 rfl;have k2:=cellAt p 1 rfl;have k3:=cellAt p 2 rfl;have k4:=cellAt p 3 rfl;have ao:=am hA16.box;have l:=am p;have gk:=hA16.ord;obtain⟨eq,bn,HV,hH⟩:=gD T hA16 E eb;have e0:(0:Y)<=(j:Y):=by omega
     clear hA16 p T E eb hh g0 g1;subst gn;have P:aS u.drew (U c<|3+j)=M (ah ox k oc)/\aS u.drew (U mk 0)=M (aL C)/\aS u.drew (U mk 1)=M (dz tl)/\aS u.drew (U mk 2)=M (dz W)/\aS u.drew (U mk 3)=M (dz F):=by
      rw[bD,bD,bD,bD,bD];exact⟨k0,k1,k2,k3,k4⟩
     refine yV (by kernel_rfl) ?_;refine wpAny_take (i:=8) (v:=fA<|M<|U c 3) rfl (by kernel_rfl) (by kernel_rfl) (by kernel_rfl) (λ_ _ _ h=>h) (Or.inl ⟨by rfl,λg=>?_⟩) ?_
     .go_simp;try with_reducible rfl
     simp only[Act.put,dG,gp];refine oM (S:=λg=>aS g (U c<|3+j)=M (ah ox k oc)/\aS g (U mk 0)=M (aL C)/\aS g (U mk 1)=M (dz tl)/\aS g (U mk 2)=M (dz W)/\aS g (U mk 3)=M (dz F)) (m:=10) _ _ _ _ ?_;refine cY 0 ?_;iterate 6 (refine eJ (v:=?_) P rfl (by kernel_rfl) iV rfl ?_ ?_;rotate_left;(focus(rintro g⟨z0,z1,z2,z3,z4⟩;go_simp;try rfl));simp only[Act.put,dG,gp,Nat.reduceAdd])
     apply eA;refine aM (i:=6) rfl rfl (by kernel_rfl) ?_;intro K6 hJ;go_simp;refine hJ _ _ (λ_=>?_) ?_
     .rw[bD,bD,bD,bD,bD,fE ao,fE l,fE l,fE l,fE l];exact⟨k0,k1,k2,k3,k4⟩
     try simp only[Act.put,dG,gp]
     refine aM (i:=7) rfl rfl (by kernel_rfl) ?_;intro K7 hK;try simp only[cy,bU,cf]
     refine kL (.tmp 81) (.tmp 83) 184 rfl (mb+1) 266 i0 (eB #[aL 0,dz 0,dz 0,dz 0]) 4 24 underlying184 hM bl hW hX rfl (by decide) (ah ox k oc) k (du<|B.take k) rfl (jk (aU eq<|aw #[aL C,dz tl,dz W,dz F] 266) rfl) (U (G<|H u) 0) 1 1 [aL C,dz tl,dz W,dz F] rfl rfl (CT _ _ _ _ _ rfl) (by simp[Value.oneCell']) (by omega) (by omega) (by simp;omega) ?_;intro v3 L av db;have ed:eY (cF u<|aw #[aL C,dz tl,dz W,dz F] 266) L (ah ox k oc) v3:=eY.of_heap db rfl;have hA17:=bn.still<|(J.refl az u).alloc<|aw #[aL C,dz tl,dz W,dz F] 266;have bT:=hA17.put (D':=B.take<|k+1) HV ed (by rw[ae hG,EJ,ae hx,af,ae hH];exact av);have D:=J.fH ed;have gi:bY (ah ox k oc)≠M c:=λt=>by have:=(eq.lt c t).1;omega
     have bh:bY (ah ox k oc)≠M mk:=λt=>by have:=hB _ _ HV t;have:=ae hw;omega
     have s0:aS L (U c<|3+j)=M (ah ox k oc):=D.cell (by rw[fE ao];exact k0) gi (by simp;omega);have s1:aS L (U mk 0)=M (aL C):=D.cell (by rw[fE l];exact k1) bh (by simp;omega);have s2:aS L (U mk 1)=M (dz tl):=D.cell (by rw[fE l];exact k2) bh (by simp;omega);have s3:aS L (U mk 2)=M (dz W):=D.cell (by rw[fE l];exact k3) bh (by simp;omega);have s4:aS L (U mk 3)=M (dz F):=D.cell (by rw[fE l];exact k4) bh (by simp;omega);have an:=(D.block c (by simp;omega) gi).trans<|(ga _ ao).trans bn.box;have f0:L.frozen? (U c<|3+j)=bF:=by simp[World.frozen?,an]
     obtain⟨x3,c3,hU⟩:=aB av;subst hU;refine hK _ _ (λ_=>⟨s0,s1,s2,s3,s4⟩) ?_;try simp only[Act.put,dG,gp]
     refine lR (i:=9) (v:=?_) rfl rfl (by kernel_rfl) (by kernel_rfl) (by kernel_rfl) (by kernel_rfl) (λ_ _ _ h=>h) (Or.inl ⟨by rfl,?_⟩) (And.intro s0 (And.intro s1 (And.intro s2 (And.intro s3 s4)))) ?_;rotate_left
     .rintro g⟨z0,z1,z2,z3,z4⟩;go_simp;try with_reducible rfl
     simp only[Act.put,dG,gp];refine aM (i:=10) rfl rfl (by kernel_rfl) ?_;intro hI al;have ek:=Z bT;clear bT hA17 ed D av db an s1 s2 s3 s4 k0 k1 k2 k3 k4 P;go_simp;refine al _ _ wH ?_;refine cX (by kernel_rfl) ?_ _;have et:=Z es;have a5:IntKind.u32.wrap (((z B-k:R):Y)-1)=((z B-(k+1):R):Y):=by rw[IntKind.wrap_u32];omega
     go_wp2;go_roundw;case rel=>exact⟨k+1,_,_,r,rfl,by rw[ae HR];exact ek,et⟩
     case measure=>simp[intOf];omega
    .have u:k=z B:=by omega
     subst u;rw[gx,uU,cJ,<-Oe (ae HM)]at hA2;have l:=Z<|y.xN HM H4;have p:=Z hA2;have e5:¬((0:Y)<((z B-z B:R):Y)):=by omega
     clear hA2 y;go_wp2;go_roundw;case rel=>exact⟨j+1,_,_,by omega,by go_num,p,l⟩
     case measure=>simp[intOf];omega
  .have bn:j=4:=by omega
   subst bn;rw[Rg<|Nat.le_of_eq<|ae H4]at o;have au:=bc.all H4 o.AS;subst au;have y:=xZ o.rd (by simp);simp only[qV,nL,uv]at y;have bo:=o.zp;obtain⟨v0,v1,v2,v3,rfl⟩:∃v0 v1 v2 v3,vs=[v0,v1,v2,v3]:=by
    rcases vs with _|⟨v0,_|⟨v1,_|⟨v2,_|⟨v3,_|⟨v4,bT⟩⟩⟩⟩⟩<;>simp at bo;exact⟨_,_,_,_,rfl⟩
   obtain⟨D,ca,o0⟩:=o.row (j:=0) rfl;obtain⟨F,cb,o1⟩:=o.row (j:=1) rfl;obtain⟨K,cc,o2⟩:=o.row (j:=2) rfl;obtain⟨L,cd,o3⟩:=o.row (j:=3) rfl;obtain⟨x0,N,rfl⟩:=aB o0;obtain⟨x1,T,rfl⟩:=aB o1;obtain⟨x2,W,rfl⟩:=aB o2;obtain⟨x3,y3,rfl⟩:=aB o3;have hR:=(o.ay.block _ (am bb) id).trans bb;have gk:=o.ord;have r0:=cellAt o.box 0 rfl;have r1:=cellAt o.box 1 rfl;have r2:=cellAt o.box 2 rfl;have r3:=cellAt o.box 3 rfl;have r4:=cellAt o.box 4 rfl;have r5:=cellAt o.box 5 rfl;have r6:=cellAt o.box 6 rfl;have HA:=Z o;have C:=Z hR;have e5:¬((4:Y)<4):=by omega
   have e6:(d:Y)<(next:Y):=by omega
   clear o bc o0 o1 o2 o3 hR;go_wp2_with fail
   rename_i QQ KK bd;refine cz (λg=>aS g (U c 0)=M (aL next)/\aS g (U c 1)=M (aL d)/\aS g (U c 2)=M (aL b)/\aS g (U c 3)=M (ah x0 (z D) N)/\aS g (U c 4)=M (ah x1 (z F) T)/\aS g (U c 5)=M (ah x2 (z K) W)/\aS g (U c 6)=M (ah x3 (z L) y3)) 11 (by kernel_rfl) ?_;have p:wr.drew.heap[G<|H a]?=_:=ae C;have x:=Z<|HA.still<|cg az wr;have P:aS wr.drew (U c 0)=M (aL next)/\aS wr.drew (U c 1)=M (aL d)/\aS wr.drew (U c 2)=M (aL b)/\aS wr.drew (U c 3)=M (ah x0 (z D) N)/\aS wr.drew (U c 4)=M (ah x1 (z F) T)/\aS wr.drew (U c 5)=M (ah x2 (z K) W)/\aS wr.drew (U c 6)=M (ah x3 (z L) y3):=by
    rw[bD,bD,bD,bD,bD,bD,bD];exact⟨r0,r1,r2,r3,r4,r5,r6⟩
   have y:=xZ x.rd (by simp);simp only[qV,nL,uv]at y;clear r0 r1 r2 r3 r4 r5 r6 HA C;generalize wr.drew=br at*;refine cY 0 ?_;iterate 2 (refine eJ (v:=?_) P rfl (by kernel_rfl) iV rfl ?_ ?_;rotate_left;(focus(rintro g⟨z0,z1,z2,z3,z4,z5,z6⟩;go_simp;try rfl));simp only[Act.put,dG,gp,Nat.reduceAdd])
   apply eA;refine aM (i:=2) rfl rfl (by kernel_rfl) ?_;intro K2 av;go_simp;apply y.mono;rintro t w'⟨rfl,ce⟩;subst w';refine av _ _ (λ_=>P) ?_;try simp only[Act.put,dG,gp]
   refine cY 3 ?_;iterate 7 (refine eJ (v:=?_) P rfl (by kernel_rfl) iV rfl ?_ ?_;rotate_left;(focus(rintro g⟨z0,z1,z2,z3,z4,z5,z6⟩;go_simp;try rfl));simp only[Act.put,dG,gp,Nat.reduceAdd])
   apply eA;refine aM (i:=10) rfl rfl (by kernel_rfl) ?_;intro hI al;have bh:∀j,br.frozen? (U (G<|H a) j)=bF:=λj=>by simp[World.frozen?,p]
   have t0:=cellAt p 0 rfl;have t1:=cellAt p 1 rfl;have t2:=cellAt p 2 rfl;have t3:=cellAt p 3 rfl;have t4:=cellAt p 4 rfl;have t5:=cellAt p 5 rfl;have t6:=cellAt p 6 rfl;have C:=Z p;clear p;go_simp;have A:=aT (i:=6) (u:=ah x3 (z L) y3)<|aT (i:=5) (u:=ah x2 (z K) W)<|aT (i:=4) (u:=ah x1 (z F) T)<|aT (i:=3) (u:=ah x0 (z D) N)<|aT (i:=2) (u:=aL b)<|aT (i:=1) (u:=aL d)<|aT (i:=0) (u:=aL next) C;have u:=(((((((J.refl (λk=>k=G (H a)) br).setCell (G<|H a) 0 (aL next)<|.inl rfl).setCell (G<|H a) 1 (aL d)<|.inl rfl).setCell (G<|H a) 2 (aL b)<|.inl rfl).setCell (G<|H a) 3 (ah x0 (z D) N)<|.inl rfl).setCell (G<|H a) 4 (ah x1 (z F) T)<|.inl rfl).setCell (G<|H a) 5 (ah x2 (z K) W)<|.inl rfl).setCell (G<|H a) 6 (ah x3 (z L) y3)<|.inl rfl;generalize(ct (ct (ct (ct (ct (ct (ct br (U (G<|H a) 0)<|aL next) (U (G<|H a) 1)<|aL d) (U (G<|H a) 2)<|aL b) (U (G<|H a) 3)<|ah x0 (z D) N) (U (G<|H a) 4)<|ah x1 (z F) T) (U (G<|H a) 5)<|ah x2 (z K) W) (U (G<|H a) 6)<|ah x3 (z L) y3)=W9 at*;have r:c≠G (H a):=by
    have h1:G (H<|cF a<|aw #[aL 0,aL 0,aL 0,aG,aG,aG,aG] 187)=G (H a)+1:=by simp
    omega
   have l:=am x.box;refine al _ _ (λ_=>⟨u.cell P.1 r l,u.cell P.2.1 r l,u.cell P.2.2.1 r l,u.cell P.2.2.2.1 r l,u.cell P.2.2.2.2.1 r l,u.cell P.2.2.2.2.2.1 r l,u.cell P.2.2.2.2.2.2 r l⟩) ?_;try simp only[Act.put,dG,gp]
   refine aM (i:=11) rfl rfl (by kernel_rfl) ?_;intro bq ao;obtain⟨O,an,bp⟩:=dI A u r;clear A u r t0 t1 t2 t3 t4 t5 t6 bh P y;go_simp;refine ao _ _ wH ?_;refine cX (by kernel_rfl) ?_ _;show KK _ _;apply bd;go_wp2;refine cO (vW rfl _ _ (G<|H a) next d b _ _ _ _ _ _ rfl O ⟨_,_,_,rfl⟩ ⟨_,_,_,rfl⟩ ⟨_,_,_,rfl⟩ ⟨_,_,_,rfl⟩) rfl ?_;refine⟨x0,z D,N,x1,z F,T,x2,z K,W,x3,z L,y3,rfl,?_,?_⟩
   .intro ef ba iu E bT;have hr:=x.rows ef ba iu E bT;refine eM (an.own hr<|λq hq t=>?_) ?_
    .have:=x.own E hq;have h1:G (H<|cF a<|aw #[aL 0,aL 0,aL 0,aG,aG,aG,aG] 187)=G (H a)+1:=by simp
     have:q=G (H a):=t;omega
    .omega
   .exact(((cI az a).cw x.ay).trans an<|λk t=>.inr (by have:k=G (H a):=t;omega))
def GA(a:R)(b:cR):aa->Prop:=λx=>x=aj gY\/x=aj (iU a)\/∃t∈b,x=aj (gP t.num)
def pL{P:Program}{r:Oper}{f:Act}{K:Act->I->Prop}{Q:Exit->Act->I->Prop}(h x i:Operand)(v:TypeId)(e:r.op=Op.insert v h x i)(u w:TypeId)(o:P.underlying v=M (.map u w))(k:TypeDesc)(m:P.underlying u=M k)(j:R)(g:aa->Prop)(n:f.eval h=.map (M j))(y:lJ a j k g)(b:aa)(d:MapKept.IsKey k b)(q:f.eval x=b)(p:f.eval i=eB #[])(l:∀w',lJ w' j k (λx=>g x\/x=b)->a.grownBy w' (M j)->K (f.put r.dst iE) w'):Oper.wp P r f a K Q:=by
 obtain⟨w',c,s,t,_⟩:=zx o m y b d;unfold Oper.wp;simp[execOp,e,n,q,p,c,Result.andThen];exact l w' s t
def ER(bt bu E bv:cR)(h:bM a b n m)(X:Du a b 10 [(n.l0,bt),(n.l1,bu),(n.l2,E),(n.l3,bv)])(hT:∀bs∈bt++bu++E++bv,Te a bs)(hp:Pow a)(cn:n.log<18446744073709551616)(cp:z (bt++bu++E++bv)<=10000000)(bn:cU a n.aN N)(cm:z N.files<=100000000)(hn:∀F∈N.files.map dp.name,F=gY\/F=iU n.log\/∃bs∈bt++bu++E++bv,F=gP bs.num):cA bG 101 #[aA b] a λp w'=>p=aP aG/\J az a w':=by
 obtain⟨u0,cs,cB,ds,dv⟩:=cL EY;have dk:=@tS bG;have cE:∀(F:Bool)(a:I),(Op.unary .not<|aO F).run bG a=.ok (aO<|!F) a:=λ_ _=>rfl;have ac:∀W,J az a W->cA bG 91 #[aL n.log] W λp w'=>p=aP (aj<|iU n.log)/\Below (G<|H W) W w':=λW L=>wg n.log cn<|hp.ay L id;have D:∀W,J az a W->cA bG 138 #[fA<|M<|U b 10] W λp w'=>∃v',p=aP v'/\w'.ownsRow (G<|H W) 224 1 v' (z<|bt++bu++E++bv) ((bt++bu++E++bv).map bJ.ptr)/\J az W w':=λW L=>by have f:Du W b 10 [(n.l0,bt),(n.l1,bu),(n.l2,E),(n.l3,bv)]:=⟨X.len,λy a=>L.cell (X.cell y a) id X.lt,λy a=>L.row (X.row y a)<|λq c=>⟨id,X.pV y a q c⟩,λy a q c=>ag (X.pV y a q c) L.size,X.small⟩;have:=sw _ f;rw[PQ,QB]at this;exact this
 have bo:∀W,J az a W->cA bG 95 #[aA n.aN] W λp w'=>∃v' u,p=aP v'/\List.Perm u (N.files.map dp.name)/\w'.ownsRow (G<|H W) 9 1 v' (z u) (strs u)/\J az W w':=λW L=>EP (db:=n.aN) (K:=N) (w:=W) (bn.ay L<|λ_ _=>id) cm;have br:=am h;have c2:=bM.cellAt h 2 rfl;have cj:=bM.cellAt h 17 rfl;obtain⟨T,bl⟩:∃T,bt++bu++E++bv=T:=⟨_,rfl⟩;rw[bl]at hT D cp hn;obtain⟨HH,bc,HP,HN,A,bg,bT⟩:=wI h hT hp hn ac D bo;clear h hT hp hn ac D bo X bn bl;generalize n.log=g at*;generalize n.aN=db at*;go_in
 go_wp2_with fail
 rename_i QQ KK bk;refine cz (λB=>aS B (U b 17)=M (aL g)) 11 (by kernel_rfl) ?_;have an:∀W,J az a W->aS W (U b 17)=M (aL g):=λW L=>L.cell cj id br;have ba:J az a a.drew:=cg _ a;have K:=an _ ba;have dn:G (H a.drew)=G (H a):=rfl;have i:=Z an;have bh:=Z ba;clear an ba;refine lR (i:=1) (v:=?_) rfl rfl (by kernel_rfl) (by kernel_rfl) (by kernel_rfl) (by kernel_rfl) (λ_ _ _ h=>h) (Or.inl ⟨by rfl,?_⟩) K ?_;rotate_left;(.rintro B z0;go_simp;try with_reducible rfl);simp only[Act.put,dG,gp];refine cY 3 ?_;iterate 4 (refine eJ (v:=?_) K rfl (by kernel_rfl) iV rfl ?_ ?_;rotate_left;(focus(rintro B z0;go_simp;try rfl));simp only[Act.put,dG,gp,Nat.reduceAdd])
 apply eA;refine lR (i:=8) (v:=?_) rfl rfl (by kernel_rfl) (by kernel_rfl) (by kernel_rfl) (by kernel_rfl) (λ_ _ _ h=>h) (Or.inl ⟨by rfl,?_⟩) K ?_;rotate_left;(.rintro B z0;go_simp;try with_reducible rfl);simp only[Act.put,dG,gp];refine ua (α:=R) (λd W=>J az a W/\G (H a)<=d/\lJ W d .string (λF=>F=aj ⟨#[115,116,97,116,101]⟩\/F=aj (iU g))) (λd=>{tmps:=#[aA b,iE,aG,iE,iE,iE,iE,iE,iE,iE,iE,.map<|M d,eB #[],aA b,aA b,fA<|M<|U b 17,aL g,aj<|iU g,eB #[],iE,iE,iE,iE,iE,iE,iE,iE,iE,iE,iE,iE,iE,iE,iE,iE,iE,iE,iE,iE,iE,iE,iE,iE,iE,iE,iE,iE,iE,iE,iE,iE,iE,iE,iE,iE,iE,iE,iE,iE,iE,iE,iE],defers:=[]}) #[true,true,true,true,true,true,true,true,true,true,false,false] 2 ?_ ?_;(.intro av;refine ua (α:=R) (λd W=>J az a W/\G (H a)<=d/\lJ W d .string az) (λd=>{tmps:=#[aA b,iE,aG,iE,iE,iE,iE,iE,iE,iE,iE,.map<|M d,eB #[],aA b,aA b,fA<|M<|U b 17,aL g,aj<|iU g,eB #[],iE,iE,iE,iE,iE,iE,iE,iE,iE,iE,iE,iE,iE,iE,iE,iE,iE,iE,iE,iE,iE,iE,iE,iE,iE,iE,iE,iE,iE,iE,iE,iE,iE,iE,iE,iE,iE,iE,iE,iE,iE,iE,iE],defers:=[]}) #[bX,bX,bF,bX,bX,bX,bX,bX,bX,bF,bF,bF] 4 ?_ ?_;(.intro al;refine sX (i:=0) (j:=7) rfl rfl rfl rfl (by kernel_rfl) ?_ ?_;(.intro N hK;go_simp;have t:=(lJ.new a .string).dq (w':=(cF a<|.map #[] 0).drew) rfl;have C:J az a (cF a<|.map #[] 0).drew:=(cI az a).of_heap rfl;refine hK _ _ (λ_=>i _ C) ?_;(try simp only[Act.put,dG,gp]);generalize(cF a<|.map #[] 0).drew=W1 at*;refine sX (i:=2) (j:=7) rfl rfl rfl rfl (by kernel_rfl) ?_ ?_;(.intro K2 o;(try simp only[cy,bU,cf]);refine pL (.tmp 11) (.const<|aj ⟨#[115,116,97,116,101]⟩) (.tmp 12) 277 rfl 9 94 underlying277 .string underlying9 (G<|H a) _ rfl t (aj ⟨#[115,116,97,116,101]⟩) trivial rfl rfl ?_;intro w5 l r;have f:J az a w5:=C.trans (fy r)<|λm p=>.inr (by have:m=G (H a):=p;omega);refine o _ _ (λ_=>i _ f) ?_;(try simp only[Act.put,dG,gp]);refine aM (i:=7) rfl rfl (by kernel_rfl) ?_;intro K3 bi;go_simp;apply(A _ f).mono;rintro p x⟨rfl,s⟩;have e:J az a x:=f.cw<|J.aV (S:=az) s;have O:=l.dq<|s.block _ l.lt;refine bi _ _ (λ_=>i _ e) ?_;(try simp only[Act.put,dG,gp]);refine aM (i:=9) rfl rfl (by kernel_rfl) ?_;intro K4 bm;(try simp only[cy,bU,cf]);refine pL (.tmp 11) (.tmp 17) (.tmp 18) 277 rfl 9 94 underlying277 .string underlying9 (G<|H a) _ rfl O (aj<|iU g) trivial rfl rfl ?_;intro w7 bb ax;have P:J az a w7:=e.trans (fy ax)<|λm p=>.inr (by have:m=G (H a):=p;omega);refine bm _ _ (λ_=>i _ P) ?_;exact km (av (G<|H a) _ ⟨P,ai _,bb.congr<|λF=>by simp⟩)<|by kernel_rfl);intro K2 o;go_simp;apply(A _ C).mono;rintro p x⟨rfl,s⟩;have e:J az a x:=C.cw<|J.aV (S:=az) s;have O:=t.dq<|s.block _ t.lt;refine o _ _ (λ_=>i _ e) ?_;(try simp only[Act.put,dG,gp]);exact km (al (G<|H a) _ ⟨e,ai _,O⟩)<|by kernel_rfl);intro N hK;go_simp;apply(A _ bh).mono;rintro p x⟨rfl,s⟩;have e:J az a x:=bh.cw<|J.aV (S:=az) s;refine hK _ _ (λ_=>i _ e) ?_;(try simp only[Act.put,dG,gp]);refine aM (i:=0) rfl rfl (by kernel_rfl) ?_;intro K2 o;go_simp;have t:=e.alloc<|.map #[] 0;refine o _ _ (λ_=>i _ t) ?_;(try simp only[Act.put,dG,gp]);exact km (al (G<|H x) _ ⟨t,e.size,lJ.new x .string⟩)<|by kernel_rfl);rintro d W⟨w,ao,c⟩;refine sX (i:=2) (j:=9) rfl rfl rfl rfl (by kernel_rfl) ?_ ?_;intro N hK;(try simp only[cy,bU,cf]);refine pL (.tmp 11) (.const<|aj ⟨#[115,116,97,116,101]⟩) (.tmp 12) 277 rfl 9 94 underlying277 .string underlying9 d _ rfl c (aj ⟨#[115,116,97,116,101]⟩) trivial rfl rfl ?_;intro w5 l r;have f:J az a w5:=w.trans (fy r)<|λm p=>.inr (by have:m=d:=p;omega);refine hK _ _ (λ_=>i _ f) ?_;(try simp only[Act.put,dG,gp]);refine aM (i:=9) rfl rfl (by kernel_rfl) ?_;intro K2 o;(try simp only[cy,bU,cf]);refine pL (.tmp 11) (.tmp 17) (.tmp 18) 277 rfl 9 94 underlying277 .string underlying9 d _ rfl l (aj<|iU g) trivial rfl rfl ?_;intro x C t;have s:J az a x:=f.trans (fy t)<|λm p=>.inr (by have:m=d:=p;omega);refine o _ _ (λ_=>i _ s) ?_;exact km (av d _ ⟨s,ao,C.congr<|λF=>by simp⟩) (by kernel_rfl);intro N hK;(try simp only[cy,bU,cf]);refine pL (.tmp 11) (.tmp 17) (.tmp 18) 277 rfl 9 94 underlying277 .string underlying9 d _ rfl c (aj<|iU g) trivial rfl rfl ?_;intro w5 l r;have f:J az a w5:=w.trans (fy r)<|λm p=>.inr (by have:m=d:=p;omega);refine hK _ _ (λ_=>i _ f) ?_;(try simp only[Act.put,dG,gp]);refine aM (i:=2) rfl rfl (by kernel_rfl) ?_;intro K2 o;(try simp only[cy,bU,cf]);refine pL (.tmp 11) (.const<|aj ⟨#[115,116,97,116,101]⟩) (.tmp 12) 277 rfl 9 94 underlying277 .string underlying9 d _ rfl l (aj ⟨#[115,116,97,116,101]⟩) trivial rfl rfl ?_;intro x C t;have s:J az a x:=f.trans (fy t)<|λm p=>.inr (by have:m=d:=p;omega);refine o _ _ (λ_=>i _ s) ?_;exact km (av d _ ⟨s,ao,C.congr (λF=>by simp only[false_or];exact Or.comm)⟩)<|by kernel_rfl);rintro d W⟨w,ao,c⟩;refine lR (i:=10) (v:=?_) rfl rfl (by kernel_rfl) (by kernel_rfl) (by kernel_rfl) (by kernel_rfl) (λ_ _ _ h=>h) (Or.inl ⟨by rfl,?_⟩) (i _ w) ?_;rotate_left;(.rintro B z0;go_simp;try with_reducible rfl);simp only[Act.put,dG,gp];refine aM (i:=11) rfl rfl (by kernel_rfl) ?_;intro cM V;go_simp;refine V _ _ wH ?_;refine cX (by kernel_rfl) ?_ _;show KK _ _;apply bk;have ad:=c.lt;have k:=Z c;have bf:=Z w;clear c w V bk K;go_wp2_with fail
 apply(bg W bf).mono;rintro p x⟨v6,rfl,au,e⟩;obtain⟨x6,c6,cu⟩:=aB au;subst cu;obtain⟨cc,ce,bd,ca⟩:=gD (k.dq<|e.block _ ad id) (bf.cw e) au<|show d<G (H W)from ad;have O:=e.size;clear au e k;go_wp2_with fail
 go_loopw [25] (λy wr=>∃Q:R,Q<=z T/\y=aq Q/\lJ wr d .string (GA g<|T.take Q)/\J (λm=>m=d) x wr) (λy _=>z T-(intOf y).toNat)
 case atStart=>exact⟨0,bB _,rfl,cc.congr (λF=>by unfold GA gY;simp),J.refl _ _⟩
 case round=>
  obtain⟨Q,hn,rfl,c,f⟩:=hrel;have C:J az a wr:=ce.trans f<|λm e=>.inr (by have:m=d:=e;omega);by_cases o:Q<z T
  .have l:=f.own bd (λm e E=>by have:=(bd.lt m e).1;have:=ae ca;have:m=d:=E;omega);obtain⟨b6,cb,bm⟩:∃b6,x6=M (U b6 0)/\aS wr (U b6 Q)=M T[Q].ptr:=by
    rcases l.2 with⟨h2,h0⟩|⟨dc,ck,cl,h2,_⟩
    .omega
    .cases h2;refine⟨dc,rfl,?_⟩;have:=pK l Q T[Q].ptr (by rw[dD,aK o];rfl);rwa[dB,cZ]at this
   subst cb;have av:=(bc T[Q]<|ar o).ay C|>.name (HP.ay C id);have bq:=Z (show∀F,GA g (T.take<|Q+1) F↔GA g (T.take Q) F\/F=aj (gP T[Q].num)fromλF=>by
    unfold GA;rw[ak o];simp only[ap,bI];constructor
    .rintro(E|E|⟨bs,ht|rfl,p⟩)
     .exact .inl<|.inl E
     .exact .inl<|.inr<|.inl E
     .exact .inl<|.inr<|.inr ⟨bs,ht,p⟩
     .exact .inr p
    .rintro((E|E|⟨bs,ht,p⟩)|p)
     .exact .inl E
     .exact .inr<|.inl E
     .exact .inr<|.inr ⟨bs,.inl ht,p⟩
     .exact .inr (.inr ⟨_,.inr rfl,p⟩))
   have r:=c.lt;have k:=Z c;have s:=Z f;have e1:(Q:Y)<(z T:Y):=by omega
   clear c f C l;unfold bJ.ptr at bm;generalize gP T[Q].num=al at*;generalize T[Q].tb=cd at*;go_wp2_with fail
   apply av.mono;rintro p w7⟨rfl,t⟩;have bi:=Z<|k.dq<|t.block d r;have bx:=Z<|s.cw<|J.aV (S:=az) t;clear t av;go_wp2_with(at_mapUpdate;refine uy _ rfl _ _ _ 277 rfl 9 94 underlying277 .string underlying9 d _ rfl bi (aj al) trivial rfl rfl ?_;intro w8 ax P;have bp:=Z ax;have bb:=Z P;clear ax P)
   go_roundw;case rel=>exact⟨Q+1,o,by go_num,bp.congr bq,bx.trans (fy bb)<|λ_ E=>.inl E⟩
   case measure=>simp[intOf];omega
  .have bp:Q=z T:=by omega
   rw[bp,bP]at c;have e1:¬(Q:Y)<(z T:Y):=by omega
   have r:=c.lt;have cT:aS wr (U b 2)=M (aA db):=C.cell c2 id br;have k:=Z c;have bi:=Z C;clear c f bp;go_wp2_with fail
   apply(bT wr bi).mono;rintro p w9⟨v9,u,rfl,ax,av,P⟩;obtain⟨x9,c9,cv⟩:=aB av;subst cv;have dm:z u<=100000000:=by have:=ax.length_eq;simp at this;omega
   obtain⟨cd,cb,ch⟩:=dI (k.dq<|P.block d r id) av<|bi.cw P;have bx:=Z (show∀F∈u,GA g T (aj F)fromλF t=>by
    rcases HN F (ax.mem_iff.1 t)with p|p|⟨bs,ht,p⟩
    .exact .inl<|by rw[p]
    .exact .inr<|.inl<|by rw[p]
    .exact .inr (.inr ⟨bs,ht,by rw[p]⟩))
   have co:=ag r P.size;clear av P ax;go_wp2_with fail
   go_loopw [6,40] (λo y a=>∃bb:R,bb<=z u/\o=aG/\y=aq bb/\J az w9 a) (λ_ y _=>z u-(intOf y).toNat)
   case atStart=>exact⟨0,bB _,rfl,rfl,J.refl _ _⟩
   case round=>
    obtain⟨bb,hm,rfl,rfl,f⟩:=hrel;by_cases t:bb<z u
    .have l:=f.own cb<|λ_ _ E=>E;obtain⟨b9,cx,bm⟩:∃b9,x9=M (U b9 0)/\aS wr (U b9 bb)=M (aj u[bb]):=by
      rcases l.2 with⟨h2,h0⟩|⟨dc,ck,cl,h2,_⟩
      .omega
      .cases h2;refine⟨dc,rfl,?_⟩;have:=pK l bb (aj u[bb]) (by simp[strs,t]);rwa[dB,cZ]at this
     subst cx;have bq:=cd.dq<|f.block d co id;have dd:=Bq underlying277 underlying9 cs cB bq (aj u[bb]) trivial bX (by simp only[true_iff];exact bx _<|ar t);have e2:(bb:Y)<(z u:Y):=by omega
     have s:=Z f;clear f l bq;generalize u[bb]=al at*;go_wp2;go_roundw;case rel=>exact⟨bb+1,t,rfl,by go_num,s.alloc _⟩
     case measure=>simp[intOf];omega
    .have e2:¬(bb:Y)<(z u:Y):=by omega
     have s:=Z<|ch.cw f;clear f;go_wp2;go_ret;exact⟨rfl,s⟩
def Pp(x y g A:cR)(h:bM a b n m)(E:Du a b 10 [(n.l0,x),(n.l1,y),(n.l2,g),(n.l3,A)])(D:∀P∈x++y++g++A,Te a P)(K:Pow a)(s:n.log<18446744073709551616)(u:z (x++y++g++A)<=10000000)(d:cU a n.aN j)(v:¬j.bw n.aN b)(t:z j.eU<=1000000000000)(p:z j.files<=100000000)(F:∀S∈j.files.map dp.name,S=gY\/S=iU n.log\/∃P∈x++y++g++A,S=gP P.num):cA bG 57 #[aA b] a λw k=>w=aP .nilIface/\∃c,rW a k n.aN j c/\vw c.files=vw j.files/\z c.eU=z j.eU:=by
 have r:=ER x y g A h E D K s u d p F;have e:∀W,J az a W->cA bG 100 #[aA b,aG] W λw k=>w=aP .nilIface/\∃c,rW a k n.aN j c/\vw c.files=vw j.files/\z c.eU=z j.eU:=λW i=>by apply(Eg (K:=j) aG [] ((i.block b (am h) id).trans h) (d.ay i<|λ_ _=>id) v ⟨rfl,.inl ⟨rfl,rfl⟩⟩ (λa g=>by cases g) List.nodup_nil (by simp)<|by simpa using t).mono;rintro w k⟨rfl,c,o,N,O⟩;exact⟨rfl,c,⟨o.ok,(i.mono (T:=j.bw n.aN) cN).trans o.ay<|λ_ q=>.inl q,λq g=>(o.bw q g).imp id<|λa=>aF i.size a⟩,N,by simpa using O⟩
 have l:=Z e;clear e h E D K d F;go_in
 go_wp2_with fail
 apply r.mono;rintro w Q⟨rfl,f⟩;have B:=l Q f;go_wp2_with fail
 apply B.mono;rintro w V⟨rfl,C⟩;have L:=Z C;clear C B f;go_wp2;go_ret;exact⟨rfl,L⟩
