import Derived.Test.YtgbhcncpienkcaaGreatDoorC7
import Derived.Test.YtgbhcncpienkcaaGreatDoorC8
open _root_ renaming List.length→y,Option.some→H,Array.size→z,Go.World.heap→G,Go.Value.ownBlock→ct,Go.World.cell?→aO,Go.World.setCell→cA,Go.World.alloc→cF,Bool.false→aY,Bool.true→bU,Nat→M,Int→Z,List→cw,Go.Calls→cD,Go.undef→ix,Go.Proofs.Tryz.prog→bz,Go.Value.slice→J,Go.Value.string→aj,Go.Value.bool→aK,Go.Value.pointer→fj,Go.Value.tuple→dw,Go.Value.agg→dW
namespace Go.Proofs.YtgbhcncpienkcaaGreatDoor
open ChangeShapes WideShapes RowKit Proofs.Tryz List
set_option maxHeartbeats 16000000
set_option linter.all false
set_option maxRecDepth 100000
variable{a:Y}{b:M}{j P:DK}{m:Z}{n:SR}
def MP(a:M)(b:cf):aa->Prop:=λx=>x=aJ a\/∃t∈b,x=aJ t.num
theorem Qc(ev e m next d b:M)(f:cw cf)(hT:Steps a)(h4:y f=4)(kc:next<18446744073709551616)(kb:d<next)(iv:b<18446744073709551616)(gr:y f.flatten<=1000000)(n:∀bm∈f.flatten,bm.oD)(cm:(f.flatten.map bA.num).Nodup)(cj:∀bm∈f.flatten,bm.num<next/\bm.num≠d)(T:y (iH next d b f)<=m)(ez:ev<z (G a))(hb:Bytes a (bB ev e (y<|iH next d b f) m) (iH next d b f)):cD bz 175 #[bB ev e (y<|iH next d b f) m] a λw w'=>
 ∃x0 n0 c0 x1 n1 c1 x2 n2 c2 x3 n3 c3,w=aL (dw #[dW #[aJ next,aJ d,aJ b,J x0 n0 c0,J x1 n1 c1,J x2 n2 c2,J x3 n3 c3],aK bU])/\(∀(ec:M)(ba:aa)(hX:cf),[J x0 n0 c0,J x1 n1 c1,J x2 n2 c2,J x3 n3 c3][ec]?=H ba->f[ec]?=H hX->w'.ownsRow (z<|G a) 289 4 ba (y hX) (dy hX))/\I az a w':=by
 obtain⟨i0,hF,bl,hN,hO⟩:=cH MV
 obtain⟨u0,hK,hM,jG,jH⟩:=cH Fv
 have ih:∀(hW:Bool)(a:Y),(Op.unary .not<|aK hW).run bz a=.ok (aK<|!hW) a:=λ_ _=>rfl
 have jE:=@tR bz
 obtain⟨u,W⟩:∃u,u=le 8 (next:M)++(le 8 (d:M)++(le 8 (b:M)++ql f 0)):=⟨_,rfl⟩
 have gn:iH next d b f=iM u:=by
  rw[W];unfold iH ql;simp
 have bi:=Ap f
 rw[h4]at bi
 have hH:y u<=21000000:=by
  rw[W];have:=bi 0;grind[length_append,cC]
 rw[gn]at T hb|-
 rw[gy]at T hb|-
 have gs:I az a (cF a<|ar #[aJ 0,aJ 0,aJ 0,aD,aD,aD,aD] 202):=(cK _ a)
 have dT:=xB ev e m u (hT.alloc<|ar #[aJ 0,aJ 0,aJ 0,aD,aD,aD,aD] 202) T (by omega)<|hb.alloc _
 have gc:(cF a<|ar #[aJ 0,aJ 0,aJ 0,aD,aD,aD,aD] 202).heap[z<|G a]?=H (ar #[aJ 0,aJ 0,aJ 0,aD,aD,aD,aD] 202 (0,0)):=aB _ rfl
 have eA:Bytes a (bB ev e (y u) m) u:=by
  unfold iM at hb;rcases hb with⟨w,_⟩|⟨o,r,p,w,l,g⟩
  .cases w
  .simp only[Value.slice.injEq,tT,Addr.mk.injEq]at w;obtain⟨⟨rfl,rfl,_⟩,_,rfl⟩:=w;refine .inr ⟨_,_,_,rfl,by omega,λk hk=>?_⟩;have:=g k (by simp;omega);rw[iE hk]at this;exact this
 obtain⟨PL,dm⟩:∃PL,y u=PL:=⟨_,rfl⟩
 rw[dm]at dT|-
 obtain⟨hi,hx,bb,hu,bs,ek⟩:=jX eA gs gc dm W cm
 obtain⟨hp,ej,ad,H4,ac⟩:=je n cj bi h4 gr
 clear hb eA T gn hH gs gc dm W cm n cj bi h4 gr hT
 go_in
 go_wp2_with fail
 apply dT.mono
 rintro w w1⟨rfl,bg⟩
 have bf:I az a w1:=hx.cr<|I.aR (S:=az) bg
 have al:=U<|I.aR (S:=az) bg
 have dn:=(I.aR (S:=az) bg).block _ (am bb) id|>.trans bb
 have ey:Bytes w1 (bB ev e PL m) u:=by
  rw[<-ae hu];exact hi.below (bf.below (ai _) cO) (λk hk=>by cases hk;exact ez)
 have hI:=bf.size
 have ge:=am dn
 have fz:=nr ey (by intro k hk;cases hk;grind)
 have bx:=U bf
 have dd:=U dn
 clear dT bg bf dn ey
 go_wp2_with fail
 apply fz.mono
 rintro w w2⟨rfl,i,bk⟩
 subst bk
 obtain⟨s,ds⟩:∃s,z (G w1)=s:=⟨_,rfl⟩
 have bu:=U<|al.alloc<|ar #[bB ev e PL m,aK aY] 397
 have bl:z (G<|cF a<|ar #[aJ 0,aJ 0,aJ 0,aD,aD,aD,aD] 202)<=s:=by have:=al.size;omega
 have es:=U<|bx.alloc<|ar #[bB ev e PL m,aK aY] 397
 have hv:=U<|(gl (ar #[bB ev e PL m,aK aY] 397)<|am dd).trans dd
 have hJ:s<z (G<|cF w1<|ar #[bB ev e PL m,aK aY] 397):=by simp[ds]
 rw[ds]at i|-
 rw[ae bs]at i
 have ip:z (G a)<s:=by omega
 clear fz ds bx dd bs
 generalize cF w1 (ar #[bB ev e PL m,aK aY] 397)=w2 at*
 have fl:=AH s (next:M) _ w2 i ((kE.le 8 _).append<|(kE.le 8 _).append<|vu f 0) (by have:=ad 0;have:=ae ac;grind[length_append,cC]) (by omega)<|by omega
 clear i
 go_wp2_with fail
 apply fl.mono
 rintro w w3⟨rfl,cs,eF⟩
 have fn:=AH s (d:M) _ w3 cs ((kE.le 8 _).append<|vu f 0) (by have:=ad 0;have:=ae ac;grind[length_append,cC]) (by omega)<|by omega
 have eg:=U eF
 clear cs eF fl
 go_wp2_with fail
 apply fn.mono
 rintro w w4⟨rfl,cu,fb⟩
 have fq:=AH s (b:M) _ w4 cu (vu f 0) (by have:=ad 0;have:=ae ac;omega) (by omega)<|by omega
 have ei:=U fb
 clear cu fb fn
 go_wp2_with fail
 apply fq.mono
 rintro w B⟨rfl,cv,fd⟩
 have ax:I (λk=>k=s) w2 B:=((fm eg).trans (fm ei)<|λ_ h=>.inl h).trans (fm fd)<|λ_ h=>.inl h
 have bv:=U<|bu.trans ax<|λk hk=>.inr (by have:k=s:=hk;omega)
 have gf:s<z (G B):=by have:=ax.size;omega
 have bt:=U cv
 clear cv fd fq ax eg ei es hv bu al
 have A:ly (cF (cF B<|ar #[aJ next,aJ d,aJ b,aD,aD,aD,aD] 202)<|.map #[] 0) (z (G B)+1) (.int .u64) az:=by
  have:=ly.new (cF B<|ar #[aJ next,aJ d,aJ b,aD,aD,aD,aD] 202)<|.int .u64;simp_all
 have eB:(cF (cF B<|ar #[aJ next,aJ d,aJ b,aD,aD,aD,aD] 202)<|.map #[] 0).heap[z<|G B]?=H (ar #[aJ next,aJ d,aJ b,aD,aD,aD,aD] 202 (0,0)):=(gl _<|by simp).trans<|aB _ rfl
 have P:=U A
 have ed:=U eB
 clear A eB
 go_wp2_with((refine Gm _ rfl _ _ _ 359 rfl 98 89 underlying359 (.int .u64) underlying98 (z (G B)+1) _ rfl P (aJ d) rfl rfl rfl ?_;intro w8 gg fe hf;have eq:=U gg;have dc:=U fe;have et:=U hf;clear gg fe hf))
 have hA0:sw (cF a<|ar #[aJ 0,aJ 0,aJ 0,aD,aD,aD,aD] 202) w8 (z<|G B) s (z (G B)+1) next d b [aD,aD,aD,aD] [[],[],[],[]] (MP d<|xH f 0 0) (ql f 0):=by
  have g:I (λk=>k=z (G B)+1) B w8:=((cK (λk=>k=z (G B)+1) B).alloc _).trans (fm dc)<|λ_ iu=>.inl iu;refine⟨?_,rfl,rfl,?_,?_,eq.congr<|λk=>?_,bt.aw g (λk hk=>by have:k=z (G B)+1:=hk;omega),bv.trans g<|λk hk=>.inr (by have:k=z (G B)+1:=hk;omega),⟨bl,gf,by omega,?_⟩⟩
  .exact(dc.block _ (by simp;omega)<|by grind).trans ed
  .intro ec ba l F hT;have w:ba=aD/\l=[]:=by
    rcases ec with _|_|_|_|ec<;>simp at F hT<;>exact⟨F.symm,hT⟩
   rw[w.1,w.2];exact bK _ _ _ _
  .intro ec l ba o q _ F _ hq;have w:ba=aD:=by
    rcases ec with _|_|_|_|ec<;>simp at F<;>exact F.symm
   rw[w]at hq;cases hq
  .unfold MP;rw[Sz];simp
  .rw[ae et];simp
 have db:=U hA0
 obtain⟨c,gi⟩:∃c,z (G B)=c:=⟨_,rfl⟩
 rw[gi]at db|-
 obtain⟨mb,fu⟩:∃mb,c+1=mb:=⟨_,rfl⟩
 rw[fu]at db|-
 have ck:∀(j:M)(C:cf),f[j]?=H C->y C<=1000000:=λj C hm=>by
  have h1:=ae ac;have h2:y C<=y f.flatten:=by
   have:C∈f:=gp hm;exact pZ<|cS this
  omega
 have hr:=U ck
 clear hA0 eq dc et P ed bt bv gi fu ck gf hI ge hJ bl
 go_wp2_with fail
 go_loopw [35] (λe wr=>∃(j:M)(vs:iC)(Ds:cw cf),j<=4/\e=ap j/\sw (cF a<|ar #[aJ 0,aJ 0,aJ 0,aD,aD,aD,aD] 202) wr c s mb next d b vs Ds (MP d<|xH f j 0) (ql f j)/\nX f Ds j 0) (λe _=>4-(intOf e).toNat)
 case atStart=>exact⟨0,_,_,bj _,rfl,db,nX.start f⟩
 case round=>
  obtain⟨j,vs,Ds,ka,rfl,o,bc⟩:=hrel;by_cases fr:j<4
  .have fk:j<y f:=by rw[ae H4];exact fr
   obtain⟨C,hm⟩:∃C,f[j]?=H C:=⟨_,aI fk⟩;have jD:=hr j C hm;have dv:=o.rd;rw[LN hm]at dv;have he:=si s (y C:M) _ wr dv ((BX C).append<|vu f<|j+1) (by have:=ad<|j+1;have:=ae ac;rw[af,Ba];omega) (by omega) (by omega);obtain⟨HA,hw,HM⟩:=dA o bc hm;have e1:(j:Z)<4:=by omega
   clear o bc hm dv fk;go_wp2_with fail
   apply he.mono;rintro w w9⟨rfl,cx,ff⟩;have hh:=U<|HA.read (fm ff) cx;clear cx ff he HA;go_wp2_with fail
   go_loopw [9] (λe g=>∃(k:M)(vs:iC)(Ds:cw cf),k<=y C/\e=dq (y C-k:M)/\sw (cF a<|ar #[aJ 0,aJ 0,aJ 0,aD,aD,aD,aD] 202) g c s mb next d b vs Ds (MP d<|xH f j k) ((C.drop k).flatMap uM++ql f (j+1))/\nX f Ds j k) (λe _=>(intOf e).toNat)
   case atStart=>exact⟨0,_,_,bj _,rfl,by rw[List.drop_zero];exact hh,hw⟩
   case round=>
    obtain⟨k,eb,it,hk,rfl,hA2,x⟩:=hrel;by_cases r:k<y C
    .have hm:=ae HM;have au:=SX hm r;have n:=hp _ au;have fs:=ej _ au;have hE:=Pc ek hm r;have gk:=Vp hm r;have cB:=x.one hm (k:=k);have gt:C.take (k+1)=C.take k++[C[k]]:=ah r;have ex:=x.now C hm;have i:=hA2.rd;rw[aZ r,dF,bD]at i;have hD:y ((C.drop<|k+1).flatMap uM++ql f (j+1))<=100000000:=by
      have:=ad<|j+1;have:=ae ac;grind[length_append,Ba]
     have bd:kE ((C.drop<|k+1).flatMap uM++ql f (j+1)):=(BX _).append<|vu f<|j+1;generalize hR:(C.drop<|k+1).flatMap uM++ql f (j+1)=dk at i hD bd|-;have HR:=U hR;clear hR;generalize C[k]=bm at*;unfold uM at i;simp only[bD]at i;have jA:=zR<|fo bm.ks;have jB:=Ci<|fo bm.ks;have q1:=n.num;have q2:=n.d;have q3:=n.i;have fv:bm.wq=[aJ bm.num,dq<|y<|dG bm.cs,dq<|y<|fo bm.ks,dq<|ng<|fo bm.ks]:=rfl;have cl:¬MP d (xH f j k) (aJ bm.num):=by
      rintro(iu|⟨hP,kd,iu⟩)
      .grind
      grind
     have ch:∀hW,MP d (xH f j<|k+1) hW↔(MP d (xH f j k) hW\/hW=aJ bm.num):=λhW=>by
      unfold MP;rw[gk];grind
     have hY:=fs.1;obtain⟨hl,hs,ho,hy,hj,em⟩:=jX ch cl fv gt ex cB;clear ch cl fv gt ex cB gk hE fs au n x hm;generalize bm.num=D at*;generalize y (dG bm.cs)=tl at*;generalize y (fo bm.ks)=X at*;generalize ng (fo bm.ks)=K at*;have a1:kE (le 4 K++dk):=(kE.le 4 _).append bd;have a2:kE (le 4 (X:M)++(le 4 K++dk)):=(kE.le 4 _).append a1;have a3:kE (le 4 (tl:M)++(le 4 (X:M)++(le 4 K++dk))):=(kE.le 4 _).append a2;have ha:=AH s (D:M) _ wr i a3 (by grind[length_append,cC]) (by omega) (by omega);obtain⟨hg,I1,I2,IR⟩:=gH hA2 a1 a2 bd;have e2:(0:Z)<((y C-k:M):Z):=by omega
     clear hA2 i a1 a2 a3 bd;go_wp2_with fail
     apply ha.mono;rintro w hQ⟨rfl,cn,ca⟩;have bk:=si s (tl:M) _ hQ cn I2 (by grind[length_append,cC]) (by omega) (by omega);have bo:=U ca;clear cn ca ha;go_wp2_with fail
     apply bk.mono;rintro w hS⟨rfl,co,cb⟩;have hc:=si s (X:M) _ hS co I1 (by grind[length_append,cC]) (by omega) (by omega);have bp:=U cb;clear co cb bk;go_wp2_with fail
     apply hc.mono;rintro w hU⟨rfl,cp,cc⟩;have hd:=si s K _ hU cp IR (by omega) (by omega) (by omega);have bq:=U cc;clear cp cc hc;go_wp2_with fail
     apply hd.mono;rintro w L⟨rfl,cq,cd⟩;have cM:I (λk=>k=s) wr L:=(((fm bo).trans (fm bp)<|λ_ h=>.inl h).trans (fm bq)<|λ_ h=>.inl h).trans (fm cd)<|λ_ h=>.inl h;have hA13:=hg.read cM cq;have hA14:=hA13.still<|(I.refl az L).alloc<|ar #[aJ D,dq tl,dq X,dq K] 289;have hA15:=hA14.still<|(I.refl az _).alloc<|ar #[] 89;have hG:=BE underlying359 underlying98 hK hM hA14.set (aJ D) rfl aY (by simp only[gC,false_iff];exact hs);have gj:=Hm hA15.rd;obtain⟨O,ht,v⟩:=dA hA15 (show∀(ba:aa)(q:M),eb[j]?=H ba->ct ba=H q->q<z (G L)fromλba q F hq=>(hA13.own F hq).2)<|show(cF (cF L<|ar #[aJ D,dq tl,dq X,dq K] 289)<|ar #[] 89).heap[z<|G L]?=H (ar #[aJ D,dq tl,dq X,dq K] 289 (0,0))from(gl _<|by simp).trans<|aB _ rfl;clear cq cd cM hA13 hA14 hA15 hd bo bp bq;go_wp2_with fail
     apply gj.mono;rintro w hV⟨rfl,il⟩;subst hV;obtain⟨mk,n⟩:∃mk,z (G L)=mk:=⟨_,rfl⟩;have hn:=U n;rw[n]at v|-;clear hG gj n;generalize cF (cF L<|ar #[aJ D,dq tl,dq X,dq K] 289) (ar #[] 89)=eu at*;have g0:aO eu (R mk 0)=H (aJ D):=by rw[bL<|ae v];rfl
     have g1:aO eu (R c 0)=H (aJ next):=by rw[bL (ae O).box];rfl
     have e3:¬((next:Z)<=(D:Z)):=by omega
     go_wp2_with(at_mapUpdate;go_loud(refine uA _ rfl _ _ _ 359 rfl 98 89 underlying359 (.int .u64) underlying98 mb _ rfl O.set (aJ D) rfl rfl rfl ?_;intro t cE ce;have eo:=U cE;have br:=U ce;clear cE ce))
     have hA16:=(O.EU br eo).ks hl;have p:=(br.block mk (am v) (by intro w;have w:=gY w;obtain⟨jK,jI,jC,_⟩:=O.set;have h2:=ae v;rw[w,jC]at h2;cases h2)).trans v;have gv:j<y eb:=by rw[hA16.zx];exact fr
     obtain⟨ba,F⟩:∃ba,eb[j]?=H ba:=⟨_,aI gv⟩;have V:=hA16.rows j ba _ F hj;obtain⟨ox,oc,gb⟩:=aA V;have dx:y (C.take k)=k:=by rw[dU];omega
     rw[dx]at V gb;have k0:aO t (R c<|3+j)=H ba:=(hA16.cell j).trans F;have k1:=cellAt p 0 rfl;have k2:=cellAt p 1 rfl;have k3:=cellAt p 2 rfl;have k4:=cellAt p 3 rfl;have aq:=am hA16.box;have l:=am p;have fL:=hA16.ord;obtain⟨el,bn,HV,hz⟩:=gH V hA16 F dx;have e0:(0:Z)<=(j:Z):=by omega
     clear hA16 p V F dx gv g0 g1;subst gb;have Q:aO t.drew (R c<|3+j)=H (J ox k oc)/\aO t.drew (R mk 0)=H (aJ D)/\aO t.drew (R mk 1)=H (dq tl)/\aO t.drew (R mk 2)=H (dq X)/\aO t.drew (R mk 3)=H (dq K):=by
      rw[bY,bY,bY,bY,bY];simp_all
     refine ze (by kernel_rfl) ?_;refine wpAny_take (i:=8) (v:=fj<|H<|R c 3) rfl (by kernel_rfl) (by kernel_rfl) (by kernel_rfl) (λ_ _ _ h=>h) (Or.inl ⟨by rfl,λg=>?_⟩) ?_
     .go_simp;try with_reducible rfl
     simp only[Act.put,dD,gz];refine oJ (S:=λg=>aO g (R c<|3+j)=H (J ox k oc)/\aO g (R mk 0)=H (aJ D)/\aO g (R mk 1)=H (dq tl)/\aO g (R mk 2)=H (dq X)/\aO g (R mk 3)=H (dq K)) (m:=10) _ _ _ _ ?_;refine cY 0 ?_;iterate 6 (refine eM (v:=?_) Q rfl (by kernel_rfl) iW rfl ?_ ?_;rotate_left;(focus(rintro g⟨z0,z1,z2,z3,z4⟩;go_simp;try rfl));simp only[Act.put,dD,gz,Nat.reduceAdd])
     apply eC;refine aM (i:=6) rfl rfl (by kernel_rfl) ?_;intro K6 hB;go_simp;refine hB _ _ (λ_=>?_) ?_
     .rw[bY,bY,bY,bY,bY,ia aq,ia l,ia l,ia l,ia l];simp_all
     try simp only[Act.put,dD,gz]
     refine aM (i:=7) rfl rfl (by kernel_rfl) ?_;intro K7 hC;try simp only[cy,bF,bQ]
     refine kH (.tmp 81) (.tmp 83) 199 rfl (mb+1) 289 i0 (dW #[aJ 0,dq 0,dq 0,dq 0]) 4 24 underlying199 hF bl hN hO rfl (by decide) (J ox k oc) k (dy<|C.take k) rfl (jd (aN el<|ar #[aJ D,dq tl,dq X,dq K] 289) rfl) (R (z<|G t) 0) 1 1 [aJ D,dq tl,dq X,dq K] rfl rfl (yj _ _ _ _ _ rfl) (by simp[Value.oneCell']) (by omega) (by omega) (by simp;omega) ?_;intro v3 N av cT;have ea:eL (cF t<|ar #[aJ D,dq tl,dq X,dq K] 289) N (J ox k oc) v3:=eL.of_heap cT rfl;have hA17:=bn.still<|(I.refl az t).alloc<|ar #[aJ D,dq tl,dq X,dq K] 289;have bT:=hA17.put (D':=C.take<|k+1) HV ea (by rw[ae hy,Fg,ae ho,af,ae hz];exact av);have E:=I.eT ea;have fx:ct (J ox k oc)≠H c:=λw=>by have:=(el.lt c w).1;omega
     have bh:ct (J ox k oc)≠H mk:=λw=>by have:=ht _ _ HV w;have:=ae hn;omega
     have s0:aO N (R c<|3+j)=H (J ox k oc):=E.cell (by rw[ia aq];exact k0) fx (by simp;omega);have s1:aO N (R mk 0)=H (aJ D):=E.cell (by rw[ia l];exact k1) bh (by simp;omega);have s2:aO N (R mk 1)=H (dq tl):=E.cell (by rw[ia l];exact k2) bh (by simp;omega);have s3:aO N (R mk 2)=H (dq X):=E.cell (by rw[ia l];exact k3) bh (by simp;omega);have s4:aO N (R mk 3)=H (dq K):=E.cell (by rw[ia l];exact k4) bh (by simp;omega);have ao:=(E.block c (by simp;omega) fx).trans<|(gl _ aq).trans bn.box;have f0:N.frozen? (R c<|3+j)=aY:=by simp[World.frozen?,ao]
     obtain⟨x3,c3,hL⟩:=aA av;subst hL;refine hC _ _ (λ_=>⟨s0,s1,s2,s3,s4⟩) ?_;try simp only[Act.put,dD,gz]
     refine lF (i:=9) (v:=?_) rfl rfl (by kernel_rfl) (by kernel_rfl) (by kernel_rfl) (by kernel_rfl) (λ_ _ _ h=>h) (Or.inl ⟨by rfl,?_⟩) (And.intro s0 (And.intro s1 (And.intro s2 (And.intro s3 s4)))) ?_;rotate_left
     .rintro g⟨z0,z1,z2,z3,z4⟩;go_simp;try with_reducible rfl
     simp only[Act.put,dD,gz];refine aM (i:=10) rfl rfl (by kernel_rfl) ?_;intro hA an;have ef:=U bT;clear bT hA17 ea E av cT ao s1 s2 s3 s4 k0 k1 k2 k3 k4 Q;go_simp;refine an _ _ wX ?_;refine cW (by kernel_rfl) ?_ _;have en:=U em;have a5:IntKind.u32.wrap (((y C-k:M):Z)-1)=((y C-(k+1):M):Z):=by rw[IntKind.wrap_u32];omega
     go_wp2;go_roundw;case rel=>exact⟨k+1,_,_,r,rfl,by rw[ae HR];exact ef,en⟩
     case measure=>simp[intOf];omega
    .have t:k=y C:=by omega
     subst t;rw[gh,uU,cU,<-Pb (ae HM)]at hA2;have l:=U<|x.xP HM H4;have p:=U hA2;have e5:¬((0:Z)<((y C-y C:M):Z)):=by omega
     clear hA2 x;go_wp2;go_roundw;case rel=>exact⟨j+1,_,_,by omega,by go_num,p,l⟩
     case measure=>simp[intOf];omega
  .have bn:j=4:=by omega
   subst bn;rw[Sq<|Nat.le_of_eq<|ae H4]at o;have au:=bc.all H4 o.Bb;subst au;have x:=ye o.rd (by simp);simp only[qV,nI,ux]at x;have bo:=o.zx;obtain⟨v0,v1,v2,v3,rfl⟩:∃v0 v1 v2 v3,vs=[v0,v1,v2,v3]:=by
    rcases vs with _|⟨v0,_|⟨v1,_|⟨v2,_|⟨v3,_|⟨v4,cd⟩⟩⟩⟩⟩<;>simp at bo;grind
   obtain⟨E,bT,o0⟩:=o.row (j:=0) rfl;obtain⟨K,ca,o1⟩:=o.row (j:=1) rfl;obtain⟨L,cb,o2⟩:=o.row (j:=2) rfl;obtain⟨N,cc,o3⟩:=o.row (j:=3) rfl;obtain⟨x0,O,rfl⟩:=aA o0;obtain⟨x1,V,rfl⟩:=aA o1;obtain⟨x2,X,rfl⟩:=aA o2;obtain⟨x3,y3,rfl⟩:=aA o3;have hR:=(o.aw.block _ (am bb) id).trans bb;have fL:=o.ord;have r0:=cellAt o.box 0 rfl;have r1:=cellAt o.box 1 rfl;have r2:=cellAt o.box 2 rfl;have r3:=cellAt o.box 3 rfl;have r4:=cellAt o.box 4 rfl;have r5:=cellAt o.box 5 rfl;have r6:=cellAt o.box 6 rfl;have HA:=U o;have D:=U hR;have e5:¬((4:Z)<4):=by omega
   have e6:(d:Z)<(next:Z):=by omega
   clear o bc o0 o1 o2 o3 hR;go_wp2_with fail
   rename_i QQ KK bd;refine cI (λg=>aO g (R c 0)=H (aJ next)/\aO g (R c 1)=H (aJ d)/\aO g (R c 2)=H (aJ b)/\aO g (R c 3)=H (J x0 (y E) O)/\aO g (R c 4)=H (J x1 (y K) V)/\aO g (R c 5)=H (J x2 (y L) X)/\aO g (R c 6)=H (J x3 (y N) y3)) 11 (by kernel_rfl) ?_;have p:wr.drew.heap[z<|G a]?=_:=ae D;have v:=U<|HA.still<|ci az wr;have Q:aO wr.drew (R c 0)=H (aJ next)/\aO wr.drew (R c 1)=H (aJ d)/\aO wr.drew (R c 2)=H (aJ b)/\aO wr.drew (R c 3)=H (J x0 (y E) O)/\aO wr.drew (R c 4)=H (J x1 (y K) V)/\aO wr.drew (R c 5)=H (J x2 (y L) X)/\aO wr.drew (R c 6)=H (J x3 (y N) y3):=by
    rw[bY,bY,bY,bY,bY,bY,bY];simp_all
   have x:=ye v.rd (by simp);simp only[qV,nI,ux]at x;clear r0 r1 r2 r3 r4 r5 r6 HA D;generalize wr.drew=br at*;refine cY 0 ?_;iterate 2 (refine eM (v:=?_) Q rfl (by kernel_rfl) iW rfl ?_ ?_;rotate_left;(focus(rintro g⟨z0,z1,z2,z3,z4,z5,z6⟩;go_simp;try rfl));simp only[Act.put,dD,gz,Nat.reduceAdd])
   apply eC;refine aM (i:=2) rfl rfl (by kernel_rfl) ?_;intro K2 av;go_simp;apply x.mono;rintro w w'⟨rfl,ce⟩;subst w';refine av _ _ (λ_=>Q) ?_;try simp only[Act.put,dD,gz]
   refine cY 3 ?_;iterate 7 (refine eM (v:=?_) Q rfl (by kernel_rfl) iW rfl ?_ ?_;rotate_left;(focus(rintro g⟨z0,z1,z2,z3,z4,z5,z6⟩;go_simp;try rfl));simp only[Act.put,dD,gz,Nat.reduceAdd])
   apply eC;refine aM (i:=10) rfl rfl (by kernel_rfl) ?_;intro hA an;have bh:∀j,br.frozen? (R (z<|G a) j)=aY:=λj=>by simp[World.frozen?,p]
   have t0:=cellAt p 0 rfl;have t1:=cellAt p 1 rfl;have t2:=cellAt p 2 rfl;have t3:=cellAt p 3 rfl;have t4:=cellAt p 4 rfl;have t5:=cellAt p 5 rfl;have t6:=cellAt p 6 rfl;have D:=U p;clear p;go_simp;have A:=aT (i:=6) (u:=J x3 (y N) y3)<|aT (i:=5) (u:=J x2 (y L) X)<|aT (i:=4) (u:=J x1 (y K) V)<|aT (i:=3) (u:=J x0 (y E) O)<|aT (i:=2) (u:=aJ b)<|aT (i:=1) (u:=aJ d)<|aT (i:=0) (u:=aJ next) D;have t:=(((((((I.refl (λk=>k=z (G a)) br).setCell (z<|G a) 0 (aJ next)<|.inl rfl).setCell (z<|G a) 1 (aJ d)<|.inl rfl).setCell (z<|G a) 2 (aJ b)<|.inl rfl).setCell (z<|G a) 3 (J x0 (y E) O)<|.inl rfl).setCell (z<|G a) 4 (J x1 (y K) V)<|.inl rfl).setCell (z<|G a) 5 (J x2 (y L) X)<|.inl rfl).setCell (z<|G a) 6 (J x3 (y N) y3)<|.inl rfl;generalize(cA (cA (cA (cA (cA (cA (cA br (R (z<|G a) 0)<|aJ next) (R (z<|G a) 1)<|aJ d) (R (z<|G a) 2)<|aJ b) (R (z<|G a) 3)<|J x0 (y E) O) (R (z<|G a) 4)<|J x1 (y K) V) (R (z<|G a) 5)<|J x2 (y L) X) (R (z<|G a) 6)<|J x3 (y N) y3)=W9 at*;have r:c≠z (G a):=by
    have h1:z (G<|cF a<|ar #[aJ 0,aJ 0,aJ 0,aD,aD,aD,aD] 202)=z (G a)+1:=by simp
    omega
   have l:=am v.box;refine an _ _ (λ_=>⟨t.cell Q.1 r l,t.cell Q.2.1 r l,t.cell Q.2.2.1 r l,t.cell Q.2.2.2.1 r l,t.cell Q.2.2.2.2.1 r l,t.cell Q.2.2.2.2.2.1 r l,t.cell Q.2.2.2.2.2.2 r l⟩) ?_;try simp only[Act.put,dD,gz]
   refine aM (i:=11) rfl rfl (by kernel_rfl) ?_;intro bq aq;obtain⟨P,ao,bp⟩:=dA A t r;clear A t r t0 t1 t2 t3 t4 t5 t6 bh Q x;go_simp;refine aq _ _ wX ?_;refine cW (by kernel_rfl) ?_ _;show KK _ _;apply bd;go_wp2;refine cP (wa rfl _ _ (z<|G a) next d b _ _ _ _ _ _ rfl P ⟨_,_,_,rfl⟩ ⟨_,_,_,rfl⟩ ⟨_,_,_,rfl⟩ ⟨_,_,_,rfl⟩) rfl ?_;refine⟨x0,y E,O,x1,y K,V,x2,y L,X,x3,y N,y3,rfl,?_,?_⟩
   .intro ec ba hX F hD;have cd:=v.rows ec ba hX F hD;refine er (ao.own cd<|λq hq w=>?_) ?_
    .have:=v.own F hq;have h1:z (G<|cF a<|ar #[aJ 0,aJ 0,aJ 0,aD,aD,aD,aD] 202)=z (G a)+1:=by simp
     have:q=z (G a):=w;omega
    .omega
   .exact(((cK az a).cr v.aw).trans ao<|λk w=>.inr (by have:k=z (G a):=w;omega))
def GZ(a:M)(b:cf):aa->Prop:=λx=>x=aj gP\/x=aj (iQ a)\/∃t∈b,x=aj (fC t.num)
def pI{P:Program}{r:Oper}{f:Act}{K:Act->Y->Prop}{Q:Exit->Act->Y->Prop}(h x i:Operand)(v:TypeId)(e:r.op=Op.insert v h x i)(u w:TypeId)(o:P.underlying v=H (.map u w))(k:TypeDesc)(m:P.underlying u=H k)(j:M)(g:aa->Prop)(n:f.eval h=.map (H j))(A:ly a j k g)(b:aa)(d:MapKept.IsKey k b)(q:f.eval x=b)(p:f.eval i=dW #[])(l:∀w',ly w' j k (λx=>g x\/x=b)->a.grownBy w' (H j)->K (f.put r.dst ix) w'):Oper.wp P r f a K Q:=by
 obtain⟨w',c,s,t,_⟩:=zF o m A b d;unfold Oper.wp;simp[execOp,e,n,q,p,c,Result.andThen];exact l w' s t
def Fp(bs bt ba bu:cf)(h:bJ a b n m)(X:DB a b 10 [(n.l0,bs),(n.l1,bt),(n.l2,ba),(n.l3,bu)])(hT:∀cB∈bs++bt++ba++bu,NR a cB)(hp:Pow a)(cm:n.log<18446744073709551616)(co:y (bs++bt++ba++bu)<=10000000)(bn:cQ a n.aH P)(cl:y P.files<=100000000)(hn:∀F∈P.files.map df.name,F=gP\/F=iQ n.log\/∃cB∈bs++bt++ba++bu,F=fC cB.num):cD bz 112 #[ay b] a λs w'=>s=aL aD/\I az a w':=by
 obtain⟨u0,cp,cv,dn,ds⟩:=cH Fv;have dd:=@tR bz;have cx:∀(F:Bool)(a:Y),(Op.unary .not<|aK F).run bz a=.ok (aK<|!F) a:=λ_ _=>rfl;have ac:∀W,I az a W->cD bz 103 #[aJ n.log] W λs w'=>s=aL (aj<|iQ n.log)/\Below (z<|G W) W w':=λW L=>wu n.log cm<|hp.aw L id;have E:∀W,I az a W->cD bz 164 #[fj<|H<|R b 10] W λs w'=>∃v',s=aL v'/\w'.ownsRow (z<|G W) 142 1 v' (y<|bs++bt++ba++bu) ((bs++bt++ba++bu).map bA.ptr)/\I az W w':=λW L=>by have f:DB W b 10 [(n.l0,bs),(n.l1,bt),(n.l2,ba),(n.l3,bu)]:=⟨X.len,λA a=>L.cell (X.cell A a) id X.lt,λA a=>L.row (X.row A a)<|λq c=>⟨id,X.pS A a q c⟩,λA a q c=>ag (X.pS A a q c) L.size,X.small⟩;have:=so _ f;rw[QP,RF]at this;exact this
 have bo:∀W,I az a W->cD bz 15 #[ay n.aH] W λs w'=>∃v' u,s=aL v'/\List.Perm u (P.files.map df.name)/\w'.ownsRow (z<|G W) 9 1 v' (y u) (strs u)/\I az W w':=λW L=>AI (db:=n.aH) (K:=P) (w:=W) (bn.aw L<|λ_ _=>id) cl;have br:=am h;have c2:=bJ.cellAt h 2 rfl;have ch:=bJ.cellAt h 17 rfl;obtain⟨T,bl⟩:∃T,bs++bt++ba++bu=T:=⟨_,rfl⟩;rw[bl]at hT E co hn;obtain⟨HH,bc,HP,HN,B,bg,bx⟩:=xV h hT hp hn ac E bo;clear h hT hp hn ac E bo X bn bl;generalize n.log=g at*;generalize n.aH=db at*;go_in
 go_wp2_with fail
 rename_i QQ KK bk;refine cI (λC=>aO C (R b 17)=H (aJ g)) 11 (by kernel_rfl) ?_;have an:∀W,I az a W->aO W (R b 17)=H (aJ g):=λW L=>L.cell ch id br;have ax:I az a a.drew:=ci _ a;have K:=an _ ax;have dm:z (G a.drew)=z (G a):=rfl;have i:=U an;have bh:=U ax;clear an ax;refine lF (i:=1) (v:=?_) rfl rfl (by kernel_rfl) (by kernel_rfl) (by kernel_rfl) (by kernel_rfl) (λ_ _ _ h=>h) (Or.inl ⟨by rfl,?_⟩) K ?_;rotate_left;(.rintro C z0;go_simp;try with_reducible rfl);simp only[Act.put,dD,gz];refine cY 3 ?_;iterate 4 (refine eM (v:=?_) K rfl (by kernel_rfl) iW rfl ?_ ?_;rotate_left;(focus(rintro C z0;go_simp;try rfl));simp only[Act.put,dD,gz,Nat.reduceAdd])
 apply eC;refine lF (i:=8) (v:=?_) rfl rfl (by kernel_rfl) (by kernel_rfl) (by kernel_rfl) (by kernel_rfl) (λ_ _ _ h=>h) (Or.inl ⟨by rfl,?_⟩) K ?_;rotate_left;(.rintro C z0;go_simp;try with_reducible rfl);simp only[Act.put,dD,gz];refine ua (α:=M) (λd W=>I az a W/\z (G a)<=d/\ly W d .string (λF=>F=aj ⟨#[115,116,97,116,101]⟩\/F=aj (iQ g))) (λd=>{tmps:=#[ay b,ix,aD,ix,ix,ix,ix,ix,ix,ix,ix,.map<|H d,dW #[],ay b,ay b,fj<|H<|R b 17,aJ g,aj<|iQ g,dW #[],ix,ix,ix,ix,ix,ix,ix,ix,ix,ix,ix,ix,ix,ix,ix,ix,ix,ix,ix,ix,ix,ix,ix,ix,ix,ix,ix,ix,ix,ix,ix,ix,ix,ix,ix,ix,ix,ix,ix,ix,ix,ix,ix],defers:=[]}) #[true,true,true,true,true,true,true,true,true,true,false,false] 2 ?_ ?_;(.intro au;refine ua (α:=M) (λd W=>I az a W/\z (G a)<=d/\ly W d .string az) (λd=>{tmps:=#[ay b,ix,aD,ix,ix,ix,ix,ix,ix,ix,ix,.map<|H d,dW #[],ay b,ay b,fj<|H<|R b 17,aJ g,aj<|iQ g,dW #[],ix,ix,ix,ix,ix,ix,ix,ix,ix,ix,ix,ix,ix,ix,ix,ix,ix,ix,ix,ix,ix,ix,ix,ix,ix,ix,ix,ix,ix,ix,ix,ix,ix,ix,ix,ix,ix,ix,ix,ix,ix,ix,ix],defers:=[]}) #[bU,bU,aY,bU,bU,bU,bU,bU,bU,aY,aY,aY] 4 ?_ ?_;(.intro al;refine sQ (i:=0) (j:=7) rfl rfl rfl rfl (by kernel_rfl) ?_ ?_;(.intro P hK;go_simp;have t:=(ly.new a .string).di (w':=(cF a<|.map #[] 0).drew) rfl;have D:I az a (cF a<|.map #[] 0).drew:=(cK az a).of_heap rfl;refine hK _ _ (λ_=>i _ D) ?_;(try simp only[Act.put,dD,gz]);generalize(cF a<|.map #[] 0).drew=W1 at*;refine sQ (i:=2) (j:=7) rfl rfl rfl rfl (by kernel_rfl) ?_ ?_;(.intro K2 o;(try simp only[cy,bF,bQ]);refine pI (.tmp 11) (.const<|aj ⟨#[115,116,97,116,101]⟩) (.tmp 12) 299 rfl 9 89 underlying299 .string underlying9 (z<|G a) _ rfl t (aj ⟨#[115,116,97,116,101]⟩) trivial rfl rfl ?_;intro w5 l p;have f:I az a w5:=D.trans (fm p)<|λm s=>.inr (by have:m=z (G a):=s;omega);refine o _ _ (λ_=>i _ f) ?_;(try simp only[Act.put,dD,gz]);refine aM (i:=7) rfl rfl (by kernel_rfl) ?_;intro K3 bi;go_simp;apply(B _ f).mono;rintro s x⟨rfl,r⟩;have e:I az a x:=f.cr<|I.aR (S:=az) r;have N:=l.di<|r.block _ l.lt;refine bi _ _ (λ_=>i _ e) ?_;(try simp only[Act.put,dD,gz]);refine aM (i:=9) rfl rfl (by kernel_rfl) ?_;intro K4 bm;(try simp only[cy,bF,bQ]);refine pI (.tmp 11) (.tmp 17) (.tmp 18) 299 rfl 9 89 underlying299 .string underlying9 (z<|G a) _ rfl N (aj<|iQ g) trivial rfl rfl ?_;intro w7 bb av;have O:I az a w7:=e.trans (fm av)<|λm s=>.inr (by have:m=z (G a):=s;omega);refine bm _ _ (λ_=>i _ O) ?_;exact kj (au (z<|G a) _ ⟨O,ai _,bb.congr<|λF=>by simp⟩)<|by kernel_rfl);intro K2 o;go_simp;apply(B _ D).mono;rintro s x⟨rfl,r⟩;have e:I az a x:=D.cr<|I.aR (S:=az) r;have N:=t.di<|r.block _ t.lt;refine o _ _ (λ_=>i _ e) ?_;(try simp only[Act.put,dD,gz]);exact kj (al (z<|G a) _ ⟨e,ai _,N⟩)<|by kernel_rfl);intro P hK;go_simp;apply(B _ bh).mono;rintro s x⟨rfl,r⟩;have e:I az a x:=bh.cr<|I.aR (S:=az) r;refine hK _ _ (λ_=>i _ e) ?_;(try simp only[Act.put,dD,gz]);refine aM (i:=0) rfl rfl (by kernel_rfl) ?_;intro K2 o;go_simp;have t:=e.alloc<|.map #[] 0;refine o _ _ (λ_=>i _ t) ?_;(try simp only[Act.put,dD,gz]);exact kj (al (z<|G x) _ ⟨t,e.size,ly.new x .string⟩)<|by kernel_rfl);rintro d W⟨w,ao,c⟩;refine sQ (i:=2) (j:=9) rfl rfl rfl rfl (by kernel_rfl) ?_ ?_;intro P hK;(try simp only[cy,bF,bQ]);refine pI (.tmp 11) (.const<|aj ⟨#[115,116,97,116,101]⟩) (.tmp 12) 299 rfl 9 89 underlying299 .string underlying9 d _ rfl c (aj ⟨#[115,116,97,116,101]⟩) trivial rfl rfl ?_;intro w5 l p;have f:I az a w5:=w.trans (fm p)<|λm s=>.inr (by have:m=d:=s;omega);refine hK _ _ (λ_=>i _ f) ?_;(try simp only[Act.put,dD,gz]);refine aM (i:=9) rfl rfl (by kernel_rfl) ?_;intro K2 o;(try simp only[cy,bF,bQ]);refine pI (.tmp 11) (.tmp 17) (.tmp 18) 299 rfl 9 89 underlying299 .string underlying9 d _ rfl l (aj<|iQ g) trivial rfl rfl ?_;intro x D t;have r:I az a x:=f.trans (fm t)<|λm s=>.inr (by have:m=d:=s;omega);refine o _ _ (λ_=>i _ r) ?_;exact kj (au d _ ⟨r,ao,D.congr<|λF=>by simp⟩) (by kernel_rfl);intro P hK;(try simp only[cy,bF,bQ]);refine pI (.tmp 11) (.tmp 17) (.tmp 18) 299 rfl 9 89 underlying299 .string underlying9 d _ rfl c (aj<|iQ g) trivial rfl rfl ?_;intro w5 l p;have f:I az a w5:=w.trans (fm p)<|λm s=>.inr (by have:m=d:=s;omega);refine hK _ _ (λ_=>i _ f) ?_;(try simp only[Act.put,dD,gz]);refine aM (i:=2) rfl rfl (by kernel_rfl) ?_;intro K2 o;(try simp only[cy,bF,bQ]);refine pI (.tmp 11) (.const<|aj ⟨#[115,116,97,116,101]⟩) (.tmp 12) 299 rfl 9 89 underlying299 .string underlying9 d _ rfl l (aj ⟨#[115,116,97,116,101]⟩) trivial rfl rfl ?_;intro x D t;have r:I az a x:=f.trans (fm t)<|λm s=>.inr (by have:m=d:=s;omega);refine o _ _ (λ_=>i _ r) ?_;exact kj (au d _ ⟨r,ao,D.congr<|λF=>by grind⟩)<|by kernel_rfl);rintro d W⟨w,ao,c⟩;refine lF (i:=10) (v:=?_) rfl rfl (by kernel_rfl) (by kernel_rfl) (by kernel_rfl) (by kernel_rfl) (λ_ _ _ h=>h) (Or.inl ⟨by rfl,?_⟩) (i _ w) ?_;rotate_left;(.rintro C z0;go_simp;try with_reducible rfl);simp only[Act.put,dD,gz];refine aM (i:=11) rfl rfl (by kernel_rfl) ?_;intro cE V;go_simp;refine V _ _ wX ?_;refine cW (by kernel_rfl) ?_ _;show KK _ _;apply bk;have ad:=c.lt;have k:=U c;have bf:=U w;clear c w V bk K;go_wp2_with fail
 apply(bg W bf).mono;rintro s x⟨v6,rfl,aq,e⟩;obtain⟨x6,c6,cq⟩:=aA aq;subst cq;obtain⟨cb,cd,bd,bT⟩:=gH (k.di<|e.block _ ad id) (bf.cr e) aq<|show d<z (G W)from ad;have N:=e.size;clear aq e k;go_wp2_with fail
 go_loopw [25] (λA wr=>∃Q:M,Q<=y T/\A=ap Q/\ly wr d .string (GZ g<|T.take Q)/\I (λm=>m=d) x wr) (λA _=>y T-(intOf A).toNat)
 case atStart=>exact⟨0,bj _,rfl,cb.congr (λF=>by unfold GZ gP;simp),I.refl _ _⟩
 case round=>
  obtain⟨Q,hn,rfl,c,f⟩:=hrel;have D:I az a wr:=cd.trans f<|λm e=>.inr (by have:m=d:=e;omega);by_cases o:Q<y T
  .have l:=f.own bd (λm e ba=>by have:=(bd.lt m e).1;have:=ae bT;have:m=d:=ba;omega);obtain⟨b6,ca,bm⟩:∃b6,x6=H (R b6 0)/\aO wr (R b6 Q)=H T[Q].ptr:=by
    rcases l.2 with⟨h2,h0⟩|⟨cT,cj,ck,h2,_⟩
    .omega
    .cases h2;refine⟨cT,rfl,?_⟩;have:=pH l Q T[Q].ptr (by rw[dP,aI o];rfl);rwa[du,dp]at this
   subst ca;have au:=(bc T[Q]<|ak o).aw D|>.name (HP.aw D id);have bq:=U (show∀F,GZ g (T.take<|Q+1) F↔GZ g (T.take Q) F\/F=aj (fC T[Q].num)fromλF=>by
    unfold GZ;rw[ah o];grind)
   have p:=c.lt;have k:=U c;have r:=U f;have e1:(Q:Z)<(y T:Z):=by omega
   clear c f D l;unfold bA.ptr at bm;generalize fC T[Q].num=al at*;generalize T[Q].tb=cc at*;go_wp2_with fail
   apply au.mono;rintro s w7⟨rfl,t⟩;have bi:=U<|k.di<|t.block d p;have bv:=U<|r.cr<|I.aR (S:=az) t;clear t au;go_wp2_with(at_mapUpdate;refine uA _ rfl _ _ _ 299 rfl 9 89 underlying299 .string underlying9 d _ rfl bi (aj al) trivial rfl rfl ?_;intro w8 av O;have bp:=U av;have bb:=U O;clear av O)
   go_roundw;case rel=>exact⟨Q+1,o,by go_num,bp.congr bq,bv.trans (fm bb)<|λ_ ba=>.inl ba⟩
   case measure=>simp[intOf];omega
  .have bp:Q=y T:=by omega
   rw[bp,aX]at c;have e1:¬(Q:Z)<(y T:Z):=by omega
   have p:=c.lt;have cM:aO wr (R b 2)=H (ay db):=D.cell c2 id br;have k:=U c;have bi:=U D;clear c f bp;go_wp2_with fail
   apply(bx wr bi).mono;rintro s w9⟨v9,u,rfl,av,au,O⟩;obtain⟨x9,c9,cs⟩:=aA au;subst cs;have dk:y u<=100000000:=by have:=av.length_eq;grind
   obtain⟨cc,ca,ce⟩:=dA (k.di<|O.block d p id) au<|bi.cr O;have bv:=U (show∀F∈u,GZ g T (aj F)fromλF hx=>by
    rcases HN F (av.mem_iff.1 hx)with s|s|⟨cB,t,s⟩
    .exact .inl<|by rw[s]
    .exact .inr<|.inl<|by rw[s]
    .exact .inr (.inr ⟨cB,t,by rw[s]⟩))
   have cn:=ag p O.size;clear au O av;go_wp2_with fail
   go_loopw [6,40] (λo A a=>∃bb:M,bb<=y u/\o=aD/\A=ap bb/\I az w9 a) (λ_ A _=>y u-(intOf A).toNat)
   case atStart=>exact⟨0,bj _,rfl,rfl,I.refl _ _⟩
   case round=>
    obtain⟨bb,hm,rfl,rfl,f⟩:=hrel;by_cases t:bb<y u
    .have l:=f.own ca<|λ_ _ ba=>ba;obtain⟨b9,cu,bm⟩:∃b9,x9=H (R b9 0)/\aO wr (R b9 bb)=H (aj u[bb]):=by
      rcases l.2 with⟨h2,h0⟩|⟨cT,cj,ck,h2,_⟩
      .omega
      .cases h2;refine⟨cT,rfl,?_⟩;have:=pH l bb (aj u[bb]) (by simp[strs,t]);rwa[du,dp]at this
     subst cu;have bq:=cc.di<|f.block d cn id;have dc:=BE underlying299 underlying9 cp cv bq (aj u[bb]) trivial bU (by simp only[true_iff];exact bv _<|ak t);have e2:(bb:Z)<(y u:Z):=by omega
     have r:=U f;clear f l bq;generalize u[bb]=al at*;go_wp2;go_roundw;case rel=>exact⟨bb+1,t,rfl,by go_num,r.alloc _⟩
     case measure=>simp[intOf];omega
    .have e2:¬(bb:Z)<(y u:Z):=by omega
     have r:=U<|ce.cr f;clear f;go_wp2;go_ret;exact⟨rfl,r⟩
def Qp(w x g A:cf)(h:bJ a b n m)(E:DB a b 10 [(n.l0,w),(n.l1,x),(n.l2,g),(n.l3,A)])(D:∀P∈w++x++g++A,NR a P)(K:Pow a)(s:n.log<18446744073709551616)(t:y (w++x++g++A)<=10000000)(d:cQ a n.aH j)(u:¬j.aU n.aH b)(O:y j.eJ<=1000000000000)(p:y j.files<=100000000)(F:∀S∈j.files.map df.name,S=gP\/S=iQ n.log\/∃P∈w++x++g++A,S=fC P.num):cD bz 66 #[ay b] a λv k=>v=aL .nilIface/\∃c,qI a k n.aH j c/\vw c.files=vw j.files/\y c.eJ=y j.eJ:=by
 have r:=Fp w x g A h E D K s t d p F;have e:∀W,I az a W->cD bz 111 #[ay b,aD] W λv k=>v=aL .nilIface/\∃c,qI a k n.aH j c/\vw c.files=vw j.files/\y c.eJ=y j.eJ:=λW i=>by apply(EC (K:=j) aD [] ((i.block b (am h) id).trans h) (d.aw i<|λ_ _=>id) u ⟨rfl,.inl ⟨rfl,rfl⟩⟩ (λa g=>by cases g) List.nodup_nil (by simp)<|by grind).mono;rintro v k⟨rfl,c,o,N,V⟩;exact⟨rfl,c,⟨o.ok,(i.mono (T:=j.aU n.aH) cO).trans o.aw<|λ_ q=>.inl q,λq g=>(o.aU q g).imp id<|λa=>aC i.size a⟩,N,by grind⟩
 have l:=U e;clear e h E D K d F;go_in
 go_wp2_with fail
 apply r.mono;rintro v Q⟨rfl,f⟩;have B:=l Q f;go_wp2_with fail
 apply B.mono;rintro v W⟨rfl,C⟩;have L:=U C;clear C B f;go_wp2;go_ret;exact⟨rfl,L⟩
