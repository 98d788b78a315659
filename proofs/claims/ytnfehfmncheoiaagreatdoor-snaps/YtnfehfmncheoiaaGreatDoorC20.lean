import Derived.Test.YtnfehfmncheoiaaGreatDoorC16
import Derived.Test.YtnfehfmncheoiaaGreatDoorC17
open _root_ renaming List.length→y,Option.some→H,Array.size→z,Go.World.heap→G,Go.Value.ownBlock→bV,Go.World.cell?→aS,Go.World.setCell→bZ,Go.World.alloc→ct,Bool.false→bE,Bool.true→bU,Nat→M,Int→X,List→cr,Go.Calls→cw,Go.undef→iC,Go.Proofs.Tryz.prog→bF,Go.Value.slice→I,Go.Value.string→J,Go.Value.bool→aL,Go.Value.pointer→fh,Go.Value.tuple→dA,Go.Value.agg→eD
namespace Go.Proofs.YtnfehfmncheoiaaGreatDoor
open ChangeShapes WideShapes RowKit Proofs.Tryz
set_option maxHeartbeats 16000000
set_option linter.all false
set_option maxRecDepth 100000
variable{a:Y}{b:M}{j O:DK}{m:X}{n:SR}
def Lz(a:M)(b:cP):aa->Prop:=λx=>x=aI a\/∃t∈b,x=aI t.num
def OD(ei e m next d b:M)(f:cr cP)(hT:Steps a)(h4:y f=4)(ko:next<18446744073709551616)(kn:d<next)(jG:b<18446744073709551616)(hf:y f.flatten<=1000000)(n:∀bn∈f.flatten,bn.oe)(cn:(f.flatten.map bI.num).Nodup)(ck:∀bn∈f.flatten,bn.num<next/\bn.num≠d)(T:y (iG next d b f)<=m)(fk:ei<z (G a))(hb:Bytes a (bC ei e (y<|iG next d b f) m) (iG next d b f)):cw bF 150 #[bC ei e (y<|iG next d b f) m] a λt w'=>
 ∃x0 n0 c0 x1 n1 c1 x2 n2 c2 x3 n3 c3,t=aO (dA #[eD #[aI next,aI d,aI b,I x0 n0 c0,I x1 n1 c1,I x2 n2 c2,I x3 n3 c3],aL bU])/\(∀(eg:M)(bb:aa)(iv:cP),[I x0 n0 c0,I x1 n1 c1,I x2 n2 c2,I x3 n3 c3][eg]?=H bb->f[eg]?=H iv->w'.ownsRow (z<|G a) 266 4 bb (y iv) (dj iv))/\Z az a w':=by
 obtain⟨i0,hN,bm,hX,hY⟩:=cz LH
 obtain⟨u0,hU,hW,kc,kd⟩:=cz EI
 have jB:∀(iu:Bool)(a:Y),(Op.unary .not<|aL iu).run bF a=.ok (aL<|!iu) a:=λ_ _=>rfl
 have kb:=@tG bF
 obtain⟨v,W⟩:∃v,v=le 8 (next:M)++(le 8 (d:M)++(le 8 (b:M)++pZ f 0)):=⟨_,rfl⟩
 have he:iG next d b f=iD v:=by
  rw[W];unfold iG pZ;simp
 have bk:=zY f
 rw[h4]at bk
 have hP:y v<=21000000:=by
  rw[W];have:=bk 0;simp only[af,bY];omega
 rw[he]at T hb|-
 rw[gu]at T hb|-
 have hg:Z az a (ct a<|aq #[aI 0,aI 0,aI 0,aK,aK,aK,aK] 187):=(Z.refl _ a).alloc _
 have ed:=xe ei e m v (hT.alloc<|aq #[aI 0,aI 0,aI 0,aK,aK,aK,aK] 187) T (by omega)<|hb.alloc _
 have gs:(ct a<|aq #[aI 0,aI 0,aI 0,aK,aK,aK,aK] 187).heap[z<|G a]?=H (aq #[aI 0,aI 0,aI 0,aK,aK,aK,aK] 187 (0,0)):=aC _ rfl
 have fl:Bytes a (bC ei e (y v) m) v:=by
  unfold iD at hb;rcases hb with⟨t,_⟩|⟨o,r,p,t,l,g⟩
  .cases t
  .simp only[Value.slice.injEq,tH,Addr.mk.injEq]at t;obtain⟨⟨rfl,rfl,_⟩,_,rfl⟩:=t;refine .inr ⟨_,_,_,rfl,by omega,λk hk=>?_⟩;have:=g k (by simp;omega);rw[gd hk]at this;exact this
 obtain⟨PL,dv⟩:∃PL,y v=PL:=⟨_,rfl⟩
 rw[dv]at ed|-
 obtain⟨ht,hG,bc,hD,bt,eq⟩:=kF fl hg gs dv W cn
 obtain⟨hz,eo,ad,H4,ac⟩:=jR n ck bk h4 hf
 clear hb fl T he hP hg gs dv W cn n ck bk h4 hf hT
 go_in
 go_wp2_with fail
 apply ed.mono
 rintro t w1⟨rfl,bh⟩
 have bg:Z az a w1:=hG.ci<|Z.aT (S:=az) bh
 have al:=U<|Z.aT (S:=az) bh
 have dx:=(Z.aT (S:=az) bh).block _ (aj bc) id|>.trans bc
 have ff:Bytes w1 (bC ei e PL m) v:=by
  rw[<-ae hD];exact ht.below (bg.below (ah _) cG) (λk hk=>by cases hk;exact fk)
 have hQ:=bg.size
 have gt:=aj dx
 have gk:=mU ff (by intro k hk;cases hk;show ei<z (G w1);omega)
 have bT:=U bg
 have dn:=U dx
 clear ed bh bg dx ff
 go_wp2_with fail
 apply gk.mono
 rintro t w2⟨rfl,i,bl⟩
 subst bl
 obtain⟨s,ea⟩:∃s,z (G w1)=s:=⟨_,rfl⟩
 have bv:=U<|al.alloc<|aq #[bC ei e PL m,aL bE] 376
 have bm:z (G<|ct a<|aq #[aI 0,aI 0,aI 0,aK,aK,aK,aK] 187)<=s:=by have:=al.size;omega
 have ey:=U<|bT.alloc<|aq #[bC ei e PL m,aL bE] 376
 have hE:=U<|(fX (aq #[bC ei e PL m,aL bE] 376)<|aj dn).trans dn
 have hS:s<z (G<|ct w1<|aq #[bC ei e PL m,aL bE] 376):=by simp[ea]
 rw[ea]at i|-
 rw[ae bt]at i
 have jD:z (G a)<s:=by omega
 clear gk ea bT dn bt
 generalize ct w1 (aq #[bC ei e PL m,aL bE] 376)=w2 at*
 have gb:=Am s (next:M) _ w2 i ((kw.le 8 _).append<|(kw.le 8 _).append<|uW f 0) (by have:=ad 0;have:=ae ac;simp only[af,bY];omega) (by omega)<|by omega
 clear i
 go_wp2_with fail
 apply gb.mono
 rintro t w3⟨rfl,cv,fs⟩
 have gc:=Am s (d:M) _ w3 cv ((kw.le 8 _).append<|uW f 0) (by have:=ad 0;have:=ae ac;simp only[af,bY];omega) (by omega)<|by omega
 have em:=U fs
 clear cv fs gb
 go_wp2_with fail
 apply gc.mono
 rintro t w4⟨rfl,cx,fu⟩
 have ge:=Am s (b:M) _ w4 cx (uW f 0) (by have:=ad 0;have:=ae ac;omega) (by omega)<|by omega
 have en:=U fu
 clear cx fu gc
 go_wp2_with fail
 apply ge.mono
 rintro t w⟨rfl,cB,fv⟩
 have ba:Z (λk=>k=s) w2 w:=((fi em).trans (fi en)<|λ_ h=>.inl h).trans (fi fv)<|λ_ h=>.inl h
 have bx:=U<|bv.trans ba<|λk hk=>.inr (by have:k=s:=hk;omega)
 have gv:s<z (G w):=by have:=ba.size;omega
 have bu:=U cB
 clear cB fv ge ba em en ey hE bv al
 have B:lD (ct (ct w<|aq #[aI next,aI d,aI b,aK,aK,aK,aK] 187)<|.map #[] 0) (z (G w)+1) (.int .u64) az:=by
  have:=lD.new (ct w<|aq #[aI next,aI d,aI b,aK,aK,aK,aK] 187)<|.int .u64;have t:z (G<|ct w<|aq #[aI next,aI d,aI b,aK,aK,aK,aK] 187)=z (G w)+1:=by simp
  rw[t]at this;exact this
 have fn:(ct (ct w<|aq #[aI next,aI d,aI b,aK,aK,aK,aK] 187)<|.map #[] 0).heap[z<|G w]?=H (aq #[aI next,aI d,aI b,aK,aK,aK,aK] 187 (0,0)):=(fX _<|by simp).trans<|aC _ rfl
 have P:=U B
 have ek:=U fn
 clear B fn
 go_wp2_with((refine Fv _ rfl _ _ _ 332 rfl 103 94 underlying332 (.int .u64) underlying103 (z (G w)+1) _ rfl P (aI d) rfl rfl rfl ?_;intro w8 gA fx hp;have ex:=U gA;have dm:=U fx;have fb:=U hp;clear gA fx hp))
 have hA0:si (ct a<|aq #[aI 0,aI 0,aI 0,aK,aK,aK,aK] 187) w8 (z<|G w) s (z (G w)+1) next d b [aK,aK,aK,aK] [[],[],[],[]] (Lz d<|xu f 0 0) (pZ f 0):=by
  have g:Z (λk=>k=z (G w)+1) w w8:=(((Z.refl (λk=>k=z (G w)+1) w).alloc _).alloc _).trans (fi dm)<|λ_ dd=>.inl dd;refine⟨?_,rfl,rfl,?_,?_,ex.congr<|λk=>?_,bu.ar g (λk hk=>by have:k=z (G w)+1:=hk;omega),bx.trans g<|λk hk=>.inr (by have:k=z (G w)+1:=hk;omega),⟨bm,gv,by omega,?_⟩⟩
  .exact(dm.block _ (by simp;omega) (by intro t;have:=dC t;omega)).trans ek
  .intro eg bb l F hT;have t:bb=aK/\l=[]:=by
    rcases eg with _|_|_|_|eg<;>simp at F hT<;>exact⟨F.symm,hT⟩
   rw[t.1,t.2];exact bJ _ _ _ _
  .intro eg l bb o q _ F _ hq;have t:bb=aK:=by
    rcases eg with _|_|_|_|eg<;>simp at F<;>exact F.symm
   rw[t]at hq;cases hq
  .unfold Lz;rw[QW];simp
  .rw[ae fb];simp
 have dk:=U hA0
 obtain⟨c,ha⟩:∃c,z (G w)=c:=⟨_,rfl⟩
 rw[ha]at dk|-
 obtain⟨mb,gg⟩:∃mb,c+1=mb:=⟨_,rfl⟩
 rw[gg]at dk|-
 have cl:∀(j:M)(C:cP),f[j]?=H C->y C<=1000000:=λj C hm=>by
  have h1:=ae ac;have h2:y C<=y f.flatten:=by
   have:C∈f:=gp hm;exact pR<|cL this
  omega
 have hA:=U cl
 clear hA0 ex dm fb P ek bu bx ha gg cl gv hQ gt hS bm
 go_wp2_with fail
 go_loopw [35] (λe wr=>∃(j:M)(vs:iV)(Ds:cr cP),j<=4/\e=am j/\si (ct a<|aq #[aI 0,aI 0,aI 0,aK,aK,aK,aK] 187) wr c s mb next d b vs Ds (Lz d<|xu f j 0) (pZ f j)/\nH f Ds j 0) (λe _=>4-(intOf e).toNat)
 case atStart=>exact⟨0,_,_,bw _,rfl,dk,nH.start f⟩
 case round=>
  obtain⟨j,vs,Ds,kl,rfl,o,bd⟩:=hrel;by_cases gf:j<4
  .have fL:j<y f:=by rw[ae H4];exact gf
   obtain⟨C,hm⟩:∃C,f[j]?=H C:=⟨_,aH fL⟩;have ka:=hA j C hm;have eb:=o.rd;rw[Ky hm]at eb;have ho:=rX s (y C:M) _ wr eb ((Bv C).append<|uW f<|j+1) (by have:=ad<|j+1;have:=ae ac;rw[af,AD];omega) (by omega) (by omega);obtain⟨HA,hF,HM⟩:=dB o bd hm;have e1:(j:X)<4:=by omega
   clear o bd hm eb fL;go_wp2_with fail
   apply ho.mono;rintro t w9⟨rfl,cE,fz⟩;have hs:=U<|HA.read (fi fz) cE;clear cE fz ho HA;go_wp2_with fail
   go_loopw [9] (λe g=>∃(k:M)(vs:iV)(Ds:cr cP),k<=y C/\e=dr (y C-k:M)/\si (ct a<|aq #[aI 0,aI 0,aI 0,aK,aK,aK,aK] 187) g c s mb next d b vs Ds (Lz d<|xu f j k) ((C.drop k).flatMap uw++pZ f (j+1))/\nH f Ds j k) (λe _=>(intOf e).toNat)
   case atStart=>exact⟨0,_,_,bw _,rfl,by rw[List.drop_zero];exact hs,hF⟩
   case round=>
    obtain⟨k,ef,jE,hk,rfl,hA2,A⟩:=hrel;by_cases r:k<y C
    .have hm:=ae HM;have av:=Rr hm r;have n:=hz _ av;have dT:=eo _ av;have fr:=NC eq hm r;have hd:=TJ hm r;have cM:=A.one hm (k:=k);have hh:C.take (k+1)=C.take k++[C[k]]:=ai r;have fe:=A.now C hm;have i:=hA2.rd;rw[bD r,dH,aU]at i;have hM:y ((C.drop<|k+1).flatMap uw++pZ f (j+1))<=100000000:=by
      have:=ad<|j+1;have:=ae ac;have h1:y (C.drop<|k+1)<=y C:=by simp
      rw[af,AD];omega
     have bf:kw ((C.drop<|k+1).flatMap uw++pZ f (j+1)):=(Bv _).append<|uW f<|j+1;generalize hR:(C.drop<|k+1).flatMap uw++pZ f (j+1)=ds at i hM bf|-;have HR:=U hR;clear hR;generalize C[k]=bn at*;unfold uw at i;simp only[aU]at i;have jH:=zA<|fc bn.ks;have jI:=BF<|fc bn.ks;have q1:=n.num;have q2:=n.d;have q3:=n.i;have gi:bn.ur=[aI bn.num,dr<|y<|dG bn.cs,dr<|y<|fc bn.ks,dr<|mr<|fc bn.ks]:=rfl;have cm:¬Lz d (xu f j k) (aI bn.num):=by
      rintro(dd|⟨ej,hu,dd⟩)
      .simp only[Value.int.injEq,true_and]at dd;exact dT.2<|by omega
      .simp only[Value.int.injEq,true_and]at dd;exact fr ej hu<|by omega
     have cj:∀iu,Lz d (xu f j<|k+1) iu↔(Lz d (xu f j k) iu\/iu=aI bn.num):=λiu=>by
      unfold Lz;rw[hd];simp only[ak,bG];constructor
      .rintro(dd|⟨ej,hu|rfl,dd⟩)
       .exact .inl<|.inl dd
       .exact .inl<|.inr ⟨ej,hu,dd⟩
       .exact .inr dd
      .rintro((dd|⟨ej,hu,dd⟩)|dd)
       .exact .inl dd
       .exact .inr ⟨ej,.inl hu,dd⟩
       .exact .inr ⟨bn,.inr rfl,dd⟩
     have jA:=dT.1;obtain⟨hw,hB,hy,hH,hv,et⟩:=kF cj cm gi hh fe cM;clear cj cm gi hh fe cM hd fr dT av n A hm;generalize bn.num=D at*;generalize y (dG bn.cs)=tl at*;generalize y (fc bn.ks)=ti at*;generalize mr (fc bn.ks)=K at*;have a1:kw (le 4 K++ds):=(kw.le 4 _).append bf;have a2:kw (le 4 (ti:M)++(le 4 K++ds)):=(kw.le 4 _).append a1;have a3:kw (le 4 (tl:M)++(le 4 (ti:M)++(le 4 K++ds))):=(kw.le 4 _).append a2;have hj:=Am s (D:M) _ wr i a3 (by simp only[af,bY];omega) (by omega) (by omega);obtain⟨hr,I1,I2,IR⟩:=gx hA2 a1 a2 bf;have e2:(0:X)<((y C-k:M):X):=by omega
     clear hA2 i a1 a2 a3 bf;go_wp2_with fail
     apply hj.mono;rintro t ih⟨rfl,co,cb⟩;have bl:=rX s (tl:M) _ ih co I2 (by simp only[af,bY];omega) (by omega) (by omega);have bp:=U cb;clear co cb hj;go_wp2_with fail
     apply bl.mono;rintro t il⟨rfl,cp,cc⟩;have hl:=rX s (ti:M) _ il cp I1 (by simp only[af,bY];omega) (by omega) (by omega);have bq:=U cc;clear cp cc bl;go_wp2_with fail
     apply hl.mono;rintro t ip⟨rfl,cs,cd⟩;have hn:=rX s K _ ip cs IR (by omega) (by omega) (by omega);have br:=U cd;clear cs cd hl;go_wp2_with fail
     apply hn.mono;rintro t L⟨rfl,cu,ce⟩;have db:Z (λk=>k=s) wr L:=(((fi bp).trans (fi bq)<|λ_ h=>.inl h).trans (fi br)<|λ_ h=>.inl h).trans (fi ce)<|λ_ h=>.inl h;have hA13:=hr.read db cu;have hA14:=hA13.still<|(Z.refl az L).alloc<|aq #[aI D,dr tl,dr ti,dr K] 266;have hA15:=hA14.still<|(Z.refl az _).alloc<|aq #[] 94;have hO:=Be underlying332 underlying103 hU hW hA14.set (aI D) rfl bE (by simp only[io,false_iff];exact hB);have hc:=Gq hA15.rd;obtain⟨O,hC,x⟩:=dB hA15 (show∀(bb:aa)(q:M),ef[j]?=H bb->bV bb=H q->q<z (G L)fromλbb q F hq=>(hA13.own F hq).2)<|show(ct (ct L<|aq #[aI D,dr tl,dr ti,dr K] 266)<|aq #[] 94).heap[z<|G L]?=H (aq #[aI D,dr tl,dr ti,dr K] 266 (0,0))from(fX _<|by simp).trans<|aC _ rfl;clear cu ce db hA13 hA14 hA15 hn bp bq br;go_wp2_with fail
     apply hc.mono;rintro t it⟨rfl,jC⟩;subst it;obtain⟨mk,n⟩:∃mk,z (G L)=mk:=⟨_,rfl⟩;have hx:=U n;rw[n]at x|-;clear hO hc n;generalize ct (ct L<|aq #[aI D,dr tl,dr ti,dr K] 266) (aq #[] 94)=fd at*;have g0:aS fd (R mk 0)=H (aI D):=by rw[bR<|ae x];rfl
     have g1:aS fd (R c 0)=H (aI next):=by rw[bR (ae O).box];rfl
     have e3:¬((next:X)<=(D:X)):=by omega
     go_wp2_with(at_mapUpdate;go_loud(refine uj _ rfl _ _ _ 332 rfl 103 94 underlying332 (.int .u64) underlying103 mb _ rfl O.set (aI D) rfl rfl rfl ?_;intro u cT ch;have ev:=U cT;have bs:=U ch;clear cT ch))
     have hA16:=(O.Ei bs ev).ks hw;have p:=(bs.block mk (aj x) (by intro t;have t:=dC t;obtain⟨kk,kf,jK,_⟩:=O.set;have h2:=ae x;rw[t,jK]at h2;cases h2)).trans x;have hi:j<y ef:=by rw[hA16.zc];exact gf
     obtain⟨bb,F⟩:∃bb,ef[j]?=H bb:=⟨_,aH hi⟩;have V:=hA16.rows j bb _ F hv;obtain⟨ox,oc,gr⟩:=aB V;have ec:y (C.take k)=k:=by rw[dK];omega
     rw[ec]at V gr;have k0:aS u (R c<|3+j)=H bb:=(hA16.cell j).trans F;have k1:=cellAt p 0 rfl;have k2:=cellAt p 1 rfl;have k3:=cellAt p 2 rfl;have k4:=cellAt p 3 rfl;have au:=aj hA16.box;have l:=aj p;have gn:=hA16.ord;obtain⟨es,bo,HV,hI⟩:=gx V hA16 F ec;have e0:(0:X)<=(j:X):=by omega
     clear hA16 p V F ec hi g0 g1;subst gr;have Q:aS u.drew (R c<|3+j)=H (I ox k oc)/\aS u.drew (R mk 0)=H (aI D)/\aS u.drew (R mk 1)=H (dr tl)/\aS u.drew (R mk 2)=H (dr ti)/\aS u.drew (R mk 3)=H (dr K):=by
      rw[bA,bA,bA,bA,bA];exact⟨k0,k1,k2,k3,k4⟩
     refine yJ (by kernel_rfl) ?_;refine wpAny_take (i:=8) (v:=fh<|H<|R c 3) rfl (by kernel_rfl) (by kernel_rfl) (by kernel_rfl) (λ_ _ _ h=>h) (Or.inl ⟨by rfl,λg=>?_⟩) ?_
     .go_simp;try with_reducible rfl
     simp only[Act.put,cX,gB];refine ou (S:=λg=>aS g (R c<|3+j)=H (I ox k oc)/\aS g (R mk 0)=H (aI D)/\aS g (R mk 1)=H (dr tl)/\aS g (R mk 2)=H (dr ti)/\aS g (R mk 3)=H (dr K)) (m:=10) _ _ _ _ ?_;refine cQ 0 ?_;iterate 6 (refine eE (v:=?_) Q rfl (by kernel_rfl) iO rfl ?_ ?_;rotate_left;(focus(rintro g⟨z0,z1,z2,z3,z4⟩;go_simp;try rfl));simp only[Act.put,cX,gB,Nat.reduceAdd])
     apply eh;refine aJ (i:=6) rfl rfl (by kernel_rfl) ?_;intro K6 hK;go_simp;refine hK _ _ (λ_=>?_) ?_
     .rw[bA,bA,bA,bA,bA,fp au,fp l,fp l,fp l,fp l];exact⟨k0,k1,k2,k3,k4⟩
     try simp only[Act.put,cX,gB]
     refine aJ (i:=7) rfl rfl (by kernel_rfl) ?_;intro K7 hL;try simp only[dp,cD,cN]
     refine kE (.tmp 81) (.tmp 83) 184 rfl (mb+1) 266 i0 (eD #[aI 0,dr 0,dr 0,dr 0]) 4 24 underlying184 hN bm hX hY rfl (by decide) (I ox k oc) k (dj<|C.take k) rfl (jc (aR es<|aq #[aI D,dr tl,dr ti,dr K] 266) rfl) (R (z<|G u) 0) 1 1 [aI D,dr tl,dr ti,dr K] rfl rfl (CD _ _ _ _ _ rfl) (by simp[Value.oneCell']) (by omega) (by omega) (by simp;omega) ?_;intro v3 N ax dc;have ee:eR (ct u<|aq #[aI D,dr tl,dr ti,dr K] 266) N (I ox k oc) v3:=eR.of_heap dc rfl;have hA17:=bo.still<|(Z.refl az u).alloc<|aq #[aI D,dr tl,dr ti,dr K] 266;have ca:=hA17.put (D':=C.take<|k+1) HV ee (by rw[ae hH,Eu,ae hy,af,ae hI];exact ax);have E:=Z.fy ee;have gj:bV (I ox k oc)≠H c:=λt=>by have:=(es.lt c t).1;omega
     have bi:bV (I ox k oc)≠H mk:=λt=>by have:=hC _ _ HV t;have:=ae hx;omega
     have s0:aS N (R c<|3+j)=H (I ox k oc):=E.cell (by rw[fp au];exact k0) gj (by simp;omega);have s1:aS N (R mk 0)=H (aI D):=E.cell (by rw[fp l];exact k1) bi (by simp;omega);have s2:aS N (R mk 1)=H (dr tl):=E.cell (by rw[fp l];exact k2) bi (by simp;omega);have s3:aS N (R mk 2)=H (dr ti):=E.cell (by rw[fp l];exact k3) bi (by simp;omega);have s4:aS N (R mk 3)=H (dr K):=E.cell (by rw[fp l];exact k4) bi (by simp;omega);have ao:=(E.block c (by simp;omega) gj).trans<|(fX _ au).trans bo.box;have f0:N.frozen? (R c<|3+j)=bE:=by simp[World.frozen?,ao]
     obtain⟨x3,c3,hV⟩:=aB ax;subst hV;refine hL _ _ (λ_=>⟨s0,s1,s2,s3,s4⟩) ?_;try simp only[Act.put,cX,gB]
     refine lJ (i:=9) (v:=?_) rfl rfl (by kernel_rfl) (by kernel_rfl) (by kernel_rfl) (by kernel_rfl) (λ_ _ _ h=>h) (Or.inl ⟨by rfl,?_⟩) (And.intro s0 (And.intro s1 (And.intro s2 (And.intro s3 s4)))) ?_;rotate_left
     .rintro g⟨z0,z1,z2,z3,z4⟩;go_simp;try with_reducible rfl
     simp only[Act.put,cX,gB];refine aJ (i:=10) rfl rfl (by kernel_rfl) ?_;intro hJ an;have el:=U ca;clear ca hA17 ee E ax dc ao s1 s2 s3 s4 k0 k1 k2 k3 k4 Q;go_simp;refine an _ _ wu ?_;refine cO (by kernel_rfl) ?_ _;have eu:=U et;have a5:IntKind.u32.wrap (((y C-k:M):X)-1)=((y C-(k+1):M):X):=by rw[IntKind.wrap_u32];omega
     go_wp2;go_roundw;case rel=>exact⟨k+1,_,_,r,rfl,by rw[ae HR];exact el,eu⟩
     case measure=>simp[intOf];omega
    .have u:k=y C:=by omega
     subst u;rw[gm,uG,cC,<-NB (ae HM)]at hA2;have l:=U<|A.xC HM H4;have p:=U hA2;have e5:¬((0:X)<((y C-y C:M):X)):=by omega
     clear hA2 A;go_wp2;go_roundw;case rel=>exact⟨j+1,_,_,by omega,by go_num,p,l⟩
     case measure=>simp[intOf];omega
  .have bo:j=4:=by omega
   subst bo;rw[QN<|Nat.le_of_eq<|ae H4]at o;have av:=bd.all H4 o.AE;subst av;have A:=xO o.rd (by simp);simp only[qF,nr,ug]at A;have bp:=o.zc;obtain⟨v0,v1,v2,v3,rfl⟩:∃v0 v1 v2 v3,vs=[v0,v1,v2,v3]:=by
    rcases vs with _|⟨v0,_|⟨v1,_|⟨v2,_|⟨v3,_|⟨v4,ca⟩⟩⟩⟩⟩<;>simp at bp;exact⟨_,_,_,_,rfl⟩
   obtain⟨E,cb,o0⟩:=o.row (j:=0) rfl;obtain⟨K,cc,o1⟩:=o.row (j:=1) rfl;obtain⟨L,cd,o2⟩:=o.row (j:=2) rfl;obtain⟨N,ce,o3⟩:=o.row (j:=3) rfl;obtain⟨x0,O,rfl⟩:=aB o0;obtain⟨x1,V,rfl⟩:=aB o1;obtain⟨x2,y2,rfl⟩:=aB o2;obtain⟨x3,y3,rfl⟩:=aB o3;have hR:=(o.ar.block _ (aj bc) id).trans bc;have gn:=o.ord;have r0:=cellAt o.box 0 rfl;have r1:=cellAt o.box 1 rfl;have r2:=cellAt o.box 2 rfl;have r3:=cellAt o.box 3 rfl;have r4:=cellAt o.box 4 rfl;have r5:=cellAt o.box 5 rfl;have r6:=cellAt o.box 6 rfl;have HA:=U o;have D:=U hR;have e5:¬((4:X)<4):=by omega
   have e6:(d:X)<(next:X):=by omega
   clear o bd o0 o1 o2 o3 hR;go_wp2_with fail
   rename_i QQ KK bf;refine cg (λg=>aS g (R c 0)=H (aI next)/\aS g (R c 1)=H (aI d)/\aS g (R c 2)=H (aI b)/\aS g (R c 3)=H (I x0 (y E) O)/\aS g (R c 4)=H (I x1 (y K) V)/\aS g (R c 5)=H (I x2 (y L) y2)/\aS g (R c 6)=H (I x3 (y N) y3)) 11 (by kernel_rfl) ?_;have p:wr.drew.heap[z<|G a]?=_:=ae D;have x:=U<|HA.still<|bX az wr;have Q:aS wr.drew (R c 0)=H (aI next)/\aS wr.drew (R c 1)=H (aI d)/\aS wr.drew (R c 2)=H (aI b)/\aS wr.drew (R c 3)=H (I x0 (y E) O)/\aS wr.drew (R c 4)=H (I x1 (y K) V)/\aS wr.drew (R c 5)=H (I x2 (y L) y2)/\aS wr.drew (R c 6)=H (I x3 (y N) y3):=by
    rw[bA,bA,bA,bA,bA,bA,bA];exact⟨r0,r1,r2,r3,r4,r5,r6⟩
   have A:=xO x.rd (by simp);simp only[qF,nr,ug]at A;clear r0 r1 r2 r3 r4 r5 r6 HA D;generalize wr.drew=bs at*;refine cQ 0 ?_;iterate 2 (refine eE (v:=?_) Q rfl (by kernel_rfl) iO rfl ?_ ?_;rotate_left;(focus(rintro g⟨z0,z1,z2,z3,z4,z5,z6⟩;go_simp;try rfl));simp only[Act.put,cX,gB,Nat.reduceAdd])
   apply eh;refine aJ (i:=2) rfl rfl (by kernel_rfl) ?_;intro K2 ax;go_simp;apply A.mono;rintro t w'⟨rfl,ch⟩;subst w';refine ax _ _ (λ_=>Q) ?_;try simp only[Act.put,cX,gB]
   refine cQ 3 ?_;iterate 7 (refine eE (v:=?_) Q rfl (by kernel_rfl) iO rfl ?_ ?_;rotate_left;(focus(rintro g⟨z0,z1,z2,z3,z4,z5,z6⟩;go_simp;try rfl));simp only[Act.put,cX,gB,Nat.reduceAdd])
   apply eh;refine aJ (i:=10) rfl rfl (by kernel_rfl) ?_;intro hJ an;have bi:∀j,bs.frozen? (R (z<|G a) j)=bE:=λj=>by simp[World.frozen?,p]
   have t0:=cellAt p 0 rfl;have t1:=cellAt p 1 rfl;have t2:=cellAt p 2 rfl;have t3:=cellAt p 3 rfl;have t4:=cellAt p 4 rfl;have t5:=cellAt p 5 rfl;have t6:=cellAt p 6 rfl;have D:=U p;clear p;go_simp;have B:=aQ (i:=6) (u:=I x3 (y N) y3)<|aQ (i:=5) (u:=I x2 (y L) y2)<|aQ (i:=4) (u:=I x1 (y K) V)<|aQ (i:=3) (u:=I x0 (y E) O)<|aQ (i:=2) (u:=aI b)<|aQ (i:=1) (u:=aI d)<|aQ (i:=0) (u:=aI next) D;have u:=(((((((Z.refl (λk=>k=z (G a)) bs).setCell (z<|G a) 0 (aI next)<|.inl rfl).setCell (z<|G a) 1 (aI d)<|.inl rfl).setCell (z<|G a) 2 (aI b)<|.inl rfl).setCell (z<|G a) 3 (I x0 (y E) O)<|.inl rfl).setCell (z<|G a) 4 (I x1 (y K) V)<|.inl rfl).setCell (z<|G a) 5 (I x2 (y L) y2)<|.inl rfl).setCell (z<|G a) 6 (I x3 (y N) y3)<|.inl rfl;generalize(bZ (bZ (bZ (bZ (bZ (bZ (bZ bs (R (z<|G a) 0)<|aI next) (R (z<|G a) 1)<|aI d) (R (z<|G a) 2)<|aI b) (R (z<|G a) 3)<|I x0 (y E) O) (R (z<|G a) 4)<|I x1 (y K) V) (R (z<|G a) 5)<|I x2 (y L) y2) (R (z<|G a) 6)<|I x3 (y N) y3)=W9 at*;have r:c≠z (G a):=by
    have h1:z (G<|ct a<|aq #[aI 0,aI 0,aI 0,aK,aK,aK,aK] 187)=z (G a)+1:=by simp
    omega
   have l:=aj x.box;refine an _ _ (λ_=>⟨u.cell Q.1 r l,u.cell Q.2.1 r l,u.cell Q.2.2.1 r l,u.cell Q.2.2.2.1 r l,u.cell Q.2.2.2.2.1 r l,u.cell Q.2.2.2.2.2.1 r l,u.cell Q.2.2.2.2.2.2 r l⟩) ?_;try simp only[Act.put,cX,gB]
   refine aJ (i:=11) rfl rfl (by kernel_rfl) ?_;intro br au;obtain⟨P,ao,bq⟩:=dB B u r;clear B u r t0 t1 t2 t3 t4 t5 t6 bi Q A;go_simp;refine au _ _ wu ?_;refine cO (by kernel_rfl) ?_ _;show KK _ _;apply bf;go_wp2;refine cI (vM rfl _ _ (z<|G a) next d b _ _ _ _ _ _ rfl P ⟨_,_,_,rfl⟩ ⟨_,_,_,rfl⟩ ⟨_,_,_,rfl⟩ ⟨_,_,_,rfl⟩) rfl ?_;refine⟨x0,y E,O,x1,y K,V,x2,y L,y2,x3,y N,y3,rfl,?_,?_⟩
   .intro eg bb iv F ca;have hr:=x.rows eg bb iv F ca;refine eS (ao.own hr<|λq hq t=>?_) ?_
    .have:=x.own F hq;have h1:z (G<|ct a<|aq #[aI 0,aI 0,aI 0,aK,aK,aK,aK] 187)=z (G a)+1:=by simp
     have:q=z (G a):=t;omega
    .omega
   .exact((((Z.refl az a).alloc _).ci x.ar).trans ao<|λk t=>.inr (by have:k=z (G a):=t;omega))
def Gh(a:M)(b:cP):aa->Prop:=λx=>x=J gR\/x=J (iM a)\/∃t∈b,x=J (gJ t.num)
def po{P:Program}{r:Oper}{f:Act}{K:Act->Y->Prop}{Q:Exit->Act->Y->Prop}(h x i:Operand)(v:TypeId)(e:r.op=Op.insert v h x i)(u w:TypeId)(o:P.underlying v=H (.map u w))(k:TypeDesc)(m:P.underlying u=H k)(j:M)(g:aa->Prop)(n:f.eval h=.map (H j))(A:lD a j k g)(b:aa)(d:MapKept.IsKey k b)(q:f.eval x=b)(p:f.eval i=eD #[])(l:∀w',lD w' j k (λx=>g x\/x=b)->a.grownBy w' (H j)->K (f.put r.dst iC) w'):Oper.wp P r f a K Q:=by
 obtain⟨w',c,s,t,_⟩:=zj o m A b d;unfold Oper.wp;simp[execOp,e,n,q,p,c,Result.andThen];exact l w' s t
def EB(bu bv F bx:cP)(h:bK a b n m)(hl:De a b 10 [(n.l0,bu),(n.l1,bv),(n.l2,F),(n.l3,bx)])(hT:∀bt∈bu++bv++F++bx,SI a bt)(hp:Pow a)(co:n.log<18446744073709551616)(cs:y (bu++bv++F++bx)<=10000000)(bo:cJ a n.aN O)(cn:y O.files<=100000000)(hn:∀K∈O.files.map df.name,K=gR\/K=iM n.log\/∃bt∈bu++bv++F++bx,K=gJ bt.num):cw bF 102 #[aw b] a λp w'=>p=aO aK/\Z az a w':=by
 obtain⟨u0,cu,cE,dv,dx⟩:=cz EI;have dm:=@tG bF;have cM:∀(K:Bool)(a:Y),(Op.unary .not<|aL K).run bF a=.ok (aL<|!K) a:=λ_ _=>rfl;have ad:∀W,Z az a W->cw bF 92 #[aI n.log] W λp w'=>p=aO (J<|iM n.log)/\Below (z<|G W) W w':=λW N=>vR n.log co<|hp.ar N id;have E:∀W,Z az a W->cw bF 139 #[fh<|H<|R b 10] W λp w'=>∃v',p=aO v'/\w'.ownsRow (z<|G W) 224 1 v' (y<|bu++bv++F++bx) ((bu++bv++F++bx).map bI.ptr)/\Z az W w':=λW N=>by have f:De W b 10 [(n.l0,bu),(n.l1,bv),(n.l2,F),(n.l3,bx)]:=⟨hl.len,λA a=>N.cell (hl.cell A a) id hl.lt,λA a=>N.row (hl.row A a)<|λq c=>⟨id,hl.pE A a q c⟩,λA a q c=>ag (hl.pE A a q c) N.size,hl.small⟩;have:=sa _ f;rw[Pp,Qg]at this;exact this
 have bp:∀W,Z az a W->cw bF 96 #[aw n.aN] W λp w'=>∃v' u,p=aO v'/\List.Perm u (O.files.map df.name)/\w'.ownsRow (z<|G W) 9 1 v' (y u) (strs u)/\Z az W w':=λW N=>EA (db:=n.aN) (K:=O) (w:=W) (bo.ar N<|λ_ _=>id) cn;have bs:=aj h;have c2:=bK.cellAt h 2 rfl;have ck:=bK.cellAt h 17 rfl;obtain⟨V,bm⟩:∃V,bu++bv++F++bx=V:=⟨_,rfl⟩;rw[bm]at hT E cs hn;obtain⟨HH,bd,HP,HN,B,bh,ca⟩:=ww h hT hp hn ad E bp;clear h hT hp hn ad E bp hl bo bm;generalize n.log=g at*;generalize n.aN=db at*;go_in
 go_wp2_with fail
 rename_i QQ KK bl;refine cg (λC=>aS C (R b 17)=H (aI g)) 11 (by kernel_rfl) ?_;have ao:∀W,Z az a W->aS W (R b 17)=H (aI g):=λW N=>N.cell ck id bs;have bb:Z az a a.drew:=bX _ a;have L:=ao _ bb;have ds:z (G a.drew)=z (G a):=rfl;have i:=U ao;have bi:=U bb;clear ao bb;refine lJ (i:=1) (v:=?_) rfl rfl (by kernel_rfl) (by kernel_rfl) (by kernel_rfl) (by kernel_rfl) (λ_ _ _ h=>h) (Or.inl ⟨by rfl,?_⟩) L ?_;rotate_left;(.rintro C z0;go_simp;try with_reducible rfl);simp only[Act.put,cX,gB];refine cQ 3 ?_;iterate 4 (refine eE (v:=?_) L rfl (by kernel_rfl) iO rfl ?_ ?_;rotate_left;(focus(rintro C z0;go_simp;try rfl));simp only[Act.put,cX,gB,Nat.reduceAdd])
 apply eh;refine lJ (i:=8) (v:=?_) rfl rfl (by kernel_rfl) (by kernel_rfl) (by kernel_rfl) (by kernel_rfl) (λ_ _ _ h=>h) (Or.inl ⟨by rfl,?_⟩) L ?_;rotate_left;(.rintro C z0;go_simp;try with_reducible rfl);simp only[Act.put,cX,gB];refine tN (α:=M) (λd W=>Z az a W/\z (G a)<=d/\lD W d .string (λK=>K=J ⟨#[115,116,97,116,101]⟩\/K=J (iM g))) (λd=>{tmps:=#[aw b,iC,aK,iC,iC,iC,iC,iC,iC,iC,iC,.map<|H d,eD #[],aw b,aw b,fh<|H<|R b 17,aI g,J<|iM g,eD #[],iC,iC,iC,iC,iC,iC,iC,iC,iC,iC,iC,iC,iC,iC,iC,iC,iC,iC,iC,iC,iC,iC,iC,iC,iC,iC,iC,iC,iC,iC,iC,iC,iC,iC,iC,iC,iC,iC,iC,iC,iC,iC,iC],defers:=[]}) #[true,true,true,true,true,true,true,true,true,true,false,false] 2 ?_ ?_;(.intro ax;refine tN (α:=M) (λd W=>Z az a W/\z (G a)<=d/\lD W d .string az) (λd=>{tmps:=#[aw b,iC,aK,iC,iC,iC,iC,iC,iC,iC,iC,.map<|H d,eD #[],aw b,aw b,fh<|H<|R b 17,aI g,J<|iM g,eD #[],iC,iC,iC,iC,iC,iC,iC,iC,iC,iC,iC,iC,iC,iC,iC,iC,iC,iC,iC,iC,iC,iC,iC,iC,iC,iC,iC,iC,iC,iC,iC,iC,iC,iC,iC,iC,iC,iC,iC,iC,iC,iC,iC],defers:=[]}) #[bU,bU,bE,bU,bU,bU,bU,bU,bU,bE,bE,bE] 4 ?_ ?_;(.intro an;refine sK (i:=0) (j:=7) rfl rfl rfl rfl (by kernel_rfl) ?_ ?_;(.intro O hK;go_simp;have t:=(lD.new a .string).dh (w':=(ct a<|.map #[] 0).drew) rfl;have D:Z az a (ct a<|.map #[] 0).drew:=((Z.refl az a).alloc _).of_heap rfl;refine hK _ _ (λ_=>i _ D) ?_;(try simp only[Act.put,cX,gB]);generalize(ct a<|.map #[] 0).drew=W1 at*;refine sK (i:=2) (j:=7) rfl rfl rfl rfl (by kernel_rfl) ?_ ?_;(.intro K2 o;(try simp only[dp,cD,cN]);refine po (.tmp 11) (.const<|J ⟨#[115,116,97,116,101]⟩) (.tmp 12) 277 rfl 9 94 underlying277 .string underlying9 (z<|G a) _ rfl t (J ⟨#[115,116,97,116,101]⟩) trivial rfl rfl ?_;intro w5 l r;have f:Z az a w5:=D.trans (fi r)<|λm p=>.inr (by have:m=z (G a):=p;omega);refine o _ _ (λ_=>i _ f) ?_;(try simp only[Act.put,cX,gB]);refine aJ (i:=7) rfl rfl (by kernel_rfl) ?_;intro K3 bk;go_simp;apply(B _ f).mono;rintro p x⟨rfl,s⟩;have e:Z az a x:=f.ci<|Z.aT (S:=az) s;have P:=l.dh<|s.block _ l.lt;refine bk _ _ (λ_=>i _ e) ?_;(try simp only[Act.put,cX,gB]);refine aJ (i:=9) rfl rfl (by kernel_rfl) ?_;intro K4 bn;(try simp only[dp,cD,cN]);refine po (.tmp 11) (.tmp 17) (.tmp 18) 277 rfl 9 94 underlying277 .string underlying9 (z<|G a) _ rfl P (J<|iM g) trivial rfl rfl ?_;intro w7 bc ba;have Q:Z az a w7:=e.trans (fi ba)<|λm p=>.inr (by have:m=z (G a):=p;omega);refine bn _ _ (λ_=>i _ Q) ?_;exact jX (ax (z<|G a) _ ⟨Q,ah _,bc.congr<|λK=>by simp⟩)<|by kernel_rfl);intro K2 o;go_simp;apply(B _ D).mono;rintro p x⟨rfl,s⟩;have e:Z az a x:=D.ci<|Z.aT (S:=az) s;have P:=t.dh<|s.block _ t.lt;refine o _ _ (λ_=>i _ e) ?_;(try simp only[Act.put,cX,gB]);exact jX (an (z<|G a) _ ⟨e,ah _,P⟩)<|by kernel_rfl);intro O hK;go_simp;apply(B _ bi).mono;rintro p x⟨rfl,s⟩;have e:Z az a x:=bi.ci<|Z.aT (S:=az) s;refine hK _ _ (λ_=>i _ e) ?_;(try simp only[Act.put,cX,gB]);refine aJ (i:=0) rfl rfl (by kernel_rfl) ?_;intro K2 o;go_simp;have t:=e.alloc<|.map #[] 0;refine o _ _ (λ_=>i _ t) ?_;(try simp only[Act.put,cX,gB]);exact jX (an (z<|G x) _ ⟨t,e.size,lD.new x .string⟩)<|by kernel_rfl);rintro d W⟨w,au,c⟩;refine sK (i:=2) (j:=9) rfl rfl rfl rfl (by kernel_rfl) ?_ ?_;intro O hK;(try simp only[dp,cD,cN]);refine po (.tmp 11) (.const<|J ⟨#[115,116,97,116,101]⟩) (.tmp 12) 277 rfl 9 94 underlying277 .string underlying9 d _ rfl c (J ⟨#[115,116,97,116,101]⟩) trivial rfl rfl ?_;intro w5 l r;have f:Z az a w5:=w.trans (fi r)<|λm p=>.inr (by have:m=d:=p;omega);refine hK _ _ (λ_=>i _ f) ?_;(try simp only[Act.put,cX,gB]);refine aJ (i:=9) rfl rfl (by kernel_rfl) ?_;intro K2 o;(try simp only[dp,cD,cN]);refine po (.tmp 11) (.tmp 17) (.tmp 18) 277 rfl 9 94 underlying277 .string underlying9 d _ rfl l (J<|iM g) trivial rfl rfl ?_;intro x D t;have s:Z az a x:=f.trans (fi t)<|λm p=>.inr (by have:m=d:=p;omega);refine o _ _ (λ_=>i _ s) ?_;exact jX (ax d _ ⟨s,au,D.congr<|λK=>by simp⟩) (by kernel_rfl);intro O hK;(try simp only[dp,cD,cN]);refine po (.tmp 11) (.tmp 17) (.tmp 18) 277 rfl 9 94 underlying277 .string underlying9 d _ rfl c (J<|iM g) trivial rfl rfl ?_;intro w5 l r;have f:Z az a w5:=w.trans (fi r)<|λm p=>.inr (by have:m=d:=p;omega);refine hK _ _ (λ_=>i _ f) ?_;(try simp only[Act.put,cX,gB]);refine aJ (i:=2) rfl rfl (by kernel_rfl) ?_;intro K2 o;(try simp only[dp,cD,cN]);refine po (.tmp 11) (.const<|J ⟨#[115,116,97,116,101]⟩) (.tmp 12) 277 rfl 9 94 underlying277 .string underlying9 d _ rfl l (J ⟨#[115,116,97,116,101]⟩) trivial rfl rfl ?_;intro x D t;have s:Z az a x:=f.trans (fi t)<|λm p=>.inr (by have:m=d:=p;omega);refine o _ _ (λ_=>i _ s) ?_;exact jX (ax d _ ⟨s,au,D.congr (λK=>by simp only[false_or];exact Or.comm)⟩)<|by kernel_rfl);rintro d W⟨w,au,c⟩;refine lJ (i:=10) (v:=?_) rfl rfl (by kernel_rfl) (by kernel_rfl) (by kernel_rfl) (by kernel_rfl) (λ_ _ _ h=>h) (Or.inl ⟨by rfl,?_⟩) (i _ w) ?_;rotate_left;(.rintro C z0;go_simp;try with_reducible rfl);simp only[Act.put,cX,gB];refine aJ (i:=11) rfl rfl (by kernel_rfl) ?_;intro cT ac;go_simp;refine ac _ _ wu ?_;refine cO (by kernel_rfl) ?_ _;show KK _ _;apply bl;have al:=c.lt;have k:=U c;have bg:=U w;clear c w ac bl L;go_wp2_with fail
 apply(bh W bg).mono;rintro p x⟨v6,rfl,av,e⟩;obtain⟨x6,c6,cv⟩:=aB av;subst cv;obtain⟨cd,ch,bf,cb⟩:=gx (k.dh<|e.block _ al id) (bg.ci e) av<|show d<z (G W)from al;have P:=e.size;clear av e k;go_wp2_with fail
 go_loopw [25] (λA wr=>∃T:M,T<=y V/\A=am T/\lD wr d .string (Gh g<|V.take T)/\Z (λm=>m=d) x wr) (λA _=>y V-(intOf A).toNat)
 case atStart=>exact⟨0,bw _,rfl,cd.congr (λK=>by unfold Gh gR;simp),Z.refl _ _⟩
 case round=>
  obtain⟨T,hn,rfl,c,f⟩:=hrel;have D:Z az a wr:=ch.trans f<|λm e=>.inr (by have:m=d:=e;omega);by_cases o:T<y V
  .have l:=f.own bf (λm e F=>by have:=(bf.lt m e).1;have:=ae cb;have:m=d:=F;omega);obtain⟨b6,cc,bn⟩:∃b6,x6=H (R b6 0)/\aS wr (R b6 T)=H V[T].ptr:=by
    rcases l.2 with⟨h2,h0⟩|⟨dd,cl,cm,h2,_⟩
    .omega
    .cases h2;refine⟨dd,rfl,?_⟩;have:=pm l T V[T].ptr (by rw[dz,aH o];rfl);rwa[du,cR]at this
   subst cc;have ax:=(bd V[T]<|ap o).ar D|>.name (HP.ar D id);have br:=U (show∀K,Gh g (V.take<|T+1) K↔Gh g (V.take T) K\/K=J (gJ V[T].num)fromλK=>by
    unfold Gh;rw[ai o];simp only[ak,bG];constructor
    .rintro(F|F|⟨bt,ht|rfl,p⟩)
     .exact .inl<|.inl F
     .exact .inl<|.inr<|.inl F
     .exact .inl<|.inr<|.inr ⟨bt,ht,p⟩
     .exact .inr p
    .rintro((F|F|⟨bt,ht,p⟩)|p)
     .exact .inl F
     .exact .inr<|.inl F
     .exact .inr<|.inr ⟨bt,.inl ht,p⟩
     .exact .inr (.inr ⟨_,.inr rfl,p⟩))
   have r:=c.lt;have k:=U c;have s:=U f;have e1:(T:X)<(y V:X):=by omega
   clear c f D l;unfold bI.ptr at bn;generalize gJ V[T].num=an at*;generalize V[T].tb=ce at*;go_wp2_with fail
   apply ax.mono;rintro p w7⟨rfl,t⟩;have bk:=U<|k.dh<|t.block d r;have bT:=U<|s.ci<|Z.aT (S:=az) t;clear t ax;go_wp2_with(at_mapUpdate;refine uj _ rfl _ _ _ 277 rfl 9 94 underlying277 .string underlying9 d _ rfl bk (J an) trivial rfl rfl ?_;intro w8 ba Q;have bq:=U ba;have bc:=U Q;clear ba Q)
   go_roundw;case rel=>exact⟨T+1,o,by go_num,bq.congr br,bT.trans (fi bc)<|λ_ F=>.inl F⟩
   case measure=>simp[intOf];omega
  .have bq:T=y V:=by omega
   rw[bq,bN]at c;have e1:¬(T:X)<(y V:X):=by omega
   have r:=c.lt;have dc:aS wr (R b 2)=H (aw db):=D.cell c2 id bs;have k:=U c;have bk:=U D;clear c f bq;go_wp2_with fail
   apply(ca wr bk).mono;rintro p w9⟨v9,u,rfl,ba,ax,Q⟩;obtain⟨x9,c9,cx⟩:=aB ax;subst cx;have dn:y u<=100000000:=by have:=ba.length_eq;simp at this;omega
   obtain⟨ce,cc,cj⟩:=dB (k.dh<|Q.block d r id) ax<|bk.ci Q;have bT:=U (show∀K∈u,Gh g V (J K)fromλK t=>by
    rcases HN K (ba.mem_iff.1 t)with p|p|⟨bt,ht,p⟩
    .exact .inl<|by rw[p]
    .exact .inr<|.inl<|by rw[p]
    .exact .inr (.inr ⟨bt,ht,by rw[p]⟩))
   have cp:=ag r Q.size;clear ax Q ba;go_wp2_with fail
   go_loopw [6,40] (λo A a=>∃bc:M,bc<=y u/\o=aK/\A=am bc/\Z az w9 a) (λ_ A _=>y u-(intOf A).toNat)
   case atStart=>exact⟨0,bw _,rfl,rfl,Z.refl _ _⟩
   case round=>
    obtain⟨bc,hm,rfl,rfl,f⟩:=hrel;by_cases t:bc<y u
    .have l:=f.own cc<|λ_ _ F=>F;obtain⟨b9,cB,bn⟩:∃b9,x9=H (R b9 0)/\aS wr (R b9 bc)=H (J u[bc]):=by
      rcases l.2 with⟨h2,h0⟩|⟨dd,cl,cm,h2,_⟩
      .omega
      .cases h2;refine⟨dd,rfl,?_⟩;have:=pm l bc (J u[bc]) (by simp[strs,t]);rwa[du,cR]at this
     subst cB;have br:=ce.dh<|f.block d cp id;have dk:=Be underlying277 underlying9 cu cE br (J u[bc]) trivial bU (by simp only[true_iff];exact bT _<|ap t);have e2:(bc:X)<(y u:X):=by omega
     have s:=U f;clear f l br;generalize u[bc]=an at*;go_wp2;go_roundw;case rel=>exact⟨bc+1,t,rfl,by go_num,s.alloc _⟩
     case measure=>simp[intOf];omega
    .have e2:¬(bc:X)<(y u:X):=by omega
     have s:=U<|cj.ci f;clear f;go_wp2;go_ret;exact⟨rfl,s⟩
def OO(x A g B:cP)(h:bK a b n m)(F:De a b 10 [(n.l0,x),(n.l1,A),(n.l2,g),(n.l3,B)])(E:∀Q∈x++A++g++B,SI a Q)(L:Pow a)(s:n.log<18446744073709551616)(u:y (x++A++g++B)<=10000000)(d:cJ a n.aN j)(v:¬j.aZ n.aN b)(t:y j.eO<=1000000000000)(p:y j.files<=100000000)(K:∀V∈j.files.map df.name,V=gR\/V=iM n.log\/∃Q∈x++A++g++B,V=gJ Q.num):cw bF 58 #[aw b] a λw k=>w=aO .nilIface/\∃c,rG a k n.aN j c/\vw c.files=vw j.files/\y c.eO=y j.eO:=by
 have r:=EB x A g B h F E L s u d p K;have e:∀W,Z az a W->cw bF 101 #[aw b,aK] W λw k=>w=aO .nilIface/\∃c,rG a k n.aN j c/\vw c.files=vw j.files/\y c.eO=y j.eO:=λW i=>by apply(DP (K:=j) aK [] ((i.block b (aj h) id).trans h) (d.ar i<|λ_ _=>id) v ⟨rfl,.inl ⟨rfl,rfl⟩⟩ (λa g=>by cases g) List.nodup_nil (by simp)<|by simpa using t).mono;rintro w k⟨rfl,c,o,O,P⟩;exact⟨rfl,c,⟨o.ok,(i.mono (T:=j.aZ n.aN) cG).trans o.ar<|λ_ q=>.inl q,λq g=>(o.aZ q g).imp id<|λa=>aD i.size a⟩,O,by simpa using P⟩
 have l:=U e;clear e h F E L d K;go_in
 go_wp2_with fail
 apply r.mono;rintro w S⟨rfl,f⟩;have C:=l S f;go_wp2_with fail
 apply C.mono;rintro w W⟨rfl,D⟩;have N:=U D;clear D C f;go_wp2;go_ret;exact⟨rfl,N⟩
