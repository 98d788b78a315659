import Derived.Test.YtbiejblbclolmaaGreatDoorC7
open _root_ renaming List.length→y,Option.some→H,Array.size→z,Go.World.heap→G,Go.Value.ownBlock→cI,Go.World.cell?→aW,Go.World.setCell→cH,Go.World.alloc→dd,Bool.false→bw,Bool.true→cf,Nat→M,Int→U,List→ci,Go.Calls→cY,Go.Proofs.Tryz.prog→bA,Go.Value.slice→I,Go.Value.string→am,Go.Value.bool→aM,Go.Value.pointer→dC,Go.Value.tuple→dA,Go.Value.agg→dL
namespace Go.Proofs.YtbiejblbclolmaaGreatDoor
open ChangeShapes WideShapes RowKit Proofs.Tryz List
set_option maxHeartbeats 16000000
set_option linter.all false
set_option maxRecDepth 100000
variable{a f A:Y}{b c i l:M}{d t L:ab}{e:cU}{g x:DK}{j p u v:cP}{k:U}{o:fh}{W:SR}{r:ae}{s:ja}{B:ix}{D:Fs}{Q:bB}{T:Prop}
def cW.L5{s:SR}(h:cW a b s k)(c:Bool):cW (cH a (R b 20)<|aM c) b {s with iU:=c} k:=by
 have:=aJ (i:=20) (u:=aM c) h;exact this
def cW.j7{s:SR}(h:cW a b s k)(c:Bool):cW (cH a (R b 21)<|aM c) b {s with gK:=c} k:=by
 have:=aJ (i:=21) (u:=aM c) h;exact this
structure fO(w w':Y)(db sb:M)(K K':DK):Prop where
 ok:bY w' db K'
 aj:Z (λk=>K.aL db k\/k=sb) w w'
 aL:∀k,K'.aL db k->K.aL db k\/z (G w)<=k
 fx:Fx K.fx K'.fx
def fO.of{b sbqq:M}(h:qQ a f b g x):fO a f b sbqq g x:=⟨h.ok,h.aj.mono (by grind),h.aL,h.fx⟩
def fO.refl{c sbqq:M}(h:bY a c g):fO a a c sbqq g g:=⟨h,Z.refl _ _,λ_ d=>.inl d,Fx.refl _⟩
def fO.trans{w w' d:Y}{j a:DK}(k:fO w w' c i g j)(l:fO w' d c i j a):fO w d c i g a:=⟨l.ok,k.aj.trans l.aj<|λx h=>h.elim (λe=>(k.aL x e).imp .inl id)<|λe=>.inl<|.inr e,λx h=>(l.aL x h).elim (λe=>k.aL x e)<|λe=>.inr<|aB k.aj.size e,k.fx.trans l.fx⟩
def fO.set(h:fO a f b c g x)(e:¬x.aL b c)(i:M)(v:ab):fO a (cH f (R c i) v) b c g x:=by
 have d:Z (λk=>k=c) f (cH f (R c i) v):=(Z.refl _ f).setCell c i v<|.inl rfl;exact⟨h.ok.aj d (by grind),h.aj.trans d (by simp),h.aL,h.fx⟩
def qQ.EM(h:qQ a f b g x)(d:¬g.aL b c)(i:c<z (G a)):¬x.aL b c:=λe=>(h.aL c e).elim d<|λj=>by omega
structure Hl(w w':Y)(db sb:M)(K K':DK)(full:ci nU)(v:ab):Prop where
 pa:fO w w' db sb K K'
 wG:(v=.nilIface/\jT full K K')\/∃l q c,l<+:full/\jT l K K'/\v=fj q/\sF w' q c/\Sm K.fx c
def Hl.of{b sbqq:M}{l:ci nU}(h:zO a f b g x l d):Hl a f b sbqq g x l d:=⟨fO.of h.pa,h.wG⟩
def Hl.nil{d:DK}(h:fO a f b c g d)(k:qc g d):Hl a f b c g d [] .nilIface:=⟨h,.inl ⟨rfl,k⟩⟩
def Hl.seq{e:DK}{o s:ci nU}(l:g.fx.ok)(r:fO a f b c g x)(h:jT o g x)(k:Hl f A b c x e s d):Hl a A b c g e (o++s) d:=by
 refine⟨r.trans k.pa,?_⟩;rcases k.wG with⟨i,k⟩|⟨p,q,t,m,k,i,n,j⟩;exact .inl ⟨i,h.Hk k⟩;exact .inr ⟨o++p,q,t,sH _|>.2 m,h.Hk k,i,n,r.fx.Yz l j⟩
def Hl.more{d b q:M}{c:DK}{l m:ci nU}(h:Hl a f d b g c l (fj q)):Hl a f d b g c (l++m) (fj q):=by
 refine⟨h.pa,?_⟩;rcases h.wG with⟨e,_⟩|⟨k,n,o,j,r⟩;cases e;grind
def nM(s:SR):ci nU:=(if s.iU then [.sy<|dj s.log]else [])++(if s.gK then [.sd]else [])
def MsP(w d:Y)(a:M)(s:SR)(k:U)(K:DK)(f:Ending):Prop:=∃v e b c,f=aN v/\Hl w d s.aH a K e (nM s) v/\cW d a {s with iU:=b,gK:=c} k/\(v=.nilIface->b=bw/\c=bw)
def BE(h:cW a b W k)(hd:bY a W.aH g)(hn:¬g.aL W.aH b)(hp:Pow a)(hl:W.log<18446744073709551616)(hf:W.iU=cf->∃bs,cX (vw g.files) (dj W.log)=H bs)(hm:y g.eP<=1000000000000):cY bA 62 #[aD b] a λal w'=>MsP a w' b W k g al:=by
 have u:=ak h;have av:∀ax,bY ax W.aH g->W.iU=cf->cY bA 104 #[aD W.aH,am<|dj W.log] ax λal w'=>ye ax w' W.aH g [.sy<|dj W.log] al:=by intro ax hW c;obtain⟨bs,l⟩:=hf c;obtain⟨br,hF,j⟩:=ji l;exact Rw (dj W.log) hW hF (by have:=hW.len (dq hF).2.1;omega)<|Aw hl
 have ap:∀ax a,bY ax W.aH a->y a.eP<=y g.eP->cY bA 105 #[aD W.aH] ax λal w'=>ye ax w' W.aH a [.sd] al:=λax a hW b=>Fj hW (by omega);obtain⟨V,x,HP,s,HB⟩:=iY av ap hp hd h;have Q:=X hd.tu;have c2:=cW.cellAt h 2 rfl;have aa:=cW.cellAt h 17 rfl;have ac:=cW.cellAt h 20 rfl;have ad:=cW.cellAt h 21 rfl;cases c:W.iU with
 |false=>
  rw[c]at ac;cases hln:W.gK with
  |false=>
   rw[hln]at ad;have j:nM W=[]:=by unfold nM;rw[c,hln];rfl
   have l:=X j;go_in
   go_wp2;go_ret;refine⟨_,g,bw,bw,rfl,?_,?_,λ_=>⟨rfl,rfl⟩⟩
   .rw[J l];exact Hl.nil (fO.refl s) ⟨rfl,rfl,rfl⟩
   have hB:=J HB;unfold cW SR.cells at hB|-;grind
  |true=>
   rw[hln]at ad;have j:nM W=[.sd]:=by unfold nM;rw[c,hln];rfl
   have l:=X j;have K:=x a g s<|ag _;have p:=X hn;go_in
   go_wp2_with fail
   apply K.mono;rintro al A⟨v8,C,rfl,f⟩;have n:=f.pa;have o:=n.EM p u;have d:cW A b W k:=HB.aj n.aj p;rcases f.wG with⟨rfl,o8⟩|⟨bq,q,bl,r1,r2,rfl,r3⟩
   .have aU:aW A (R b 21)=H (aM cf):=d.cell (by rw[<-hln];rfl);have aV:A.frozen? (R b 21)=bw:=d.free;obtain⟨B,e,r⟩:=dF ((fO.of n).set o 21<|aM bw) (d.j7 bw) o8;go_wp2;go_ret;refine⟨_,C,bw,bw,rfl,⟨B,.inl ⟨rfl,by rw[J l];exact r⟩⟩,?_,λ_=>⟨rfl,rfl⟩⟩;have hB:=J e;grind
   .have T:=X f;have e:=X d;go_wp2;go_ret;exact⟨_,C,_,_,rfl,by rw[J l];exact Hl.of<|J T,e,λq=>by cases q⟩
 |true=>
  rw[c]at ac;have hS:aW a.drew (R b 2)=H (aD W.aH)/\aW a.drew (R b 17)=H (aG W.log):=⟨c2,aa⟩;go_in
  go_wp2_with fail
  rename_i QQ KK bd;refine eH (λD=>aW D (R b 2)=H (aD W.aH)/\aW D (R b 17)=H (aG W.log)) 10 (by kernel_rfl) ?_;refine fw 0 ?_;iterate 8 (refine iS (v:=?_) hS rfl (by kernel_rfl) lQ rfl ?_ ?_;rotate_left;(focus(intro D hX;obtain⟨z0,z1⟩:=hX;go_simp;try rfl));simp only[Act.put,ig,Nat.reduceAdd])
  apply iG;refine bG (i:=8) rfl rfl (by kernel_rfl) ?_;intro C bb;go_simp;apply(zv W.log hl<|HP.aj (dh aw a) id).mono;rintro al w1⟨rfl,bh⟩;have j:Z aw a w1:=(dh aw a).cz<|Z.aQ (S:=aw) bh;have bf:aW w1 (R b 2)=H (aD W.aH)/\aW w1 (R b 17)=H (aG W.log):=⟨j.cell c2 id u,j.cell aa id u⟩;have bk:=V w1 (s.aj j<|λ_ _=>id) c;refine bb _ _ (λ_=>bf) ?_;refine bG (i:=9) rfl rfl (by kernel_rfl) ?_;intro K9 bc;go_simp;apply bk.mono;rintro al w⟨v2,N,rfl,L⟩;have F:=L.pa;have bp:=j.size;have l:cW w b W k:=(HB.aj j id).aj F.aj hn;have bg:aW w (R b 2)=H (aD W.aH)/\aW w (R b 17)=H (aG W.log):=⟨l.cell rfl,l.cell rfl⟩;refine bc _ _ (λ_=>bg) ?_;refine bG (i:=10) rfl rfl (by kernel_rfl) ?_;intro bm au;go_simp;refine au _ _ IY ?_;refine fm (by kernel_rfl) ?_ _;show KK _ _;apply bd;have o:=F.EM hn (by omega);have ao:fO a w1 W.aH b g g:=⟨s.aj j<|λ_ _=>id,j.mono cJ,λ_ bl=>.inl bl,Fx.refl _⟩;rcases L.wG with⟨rfl,o2⟩|⟨bq,q,bl,r1,r2,rfl,r3⟩;rotate_left
  .have T:=X (show Hl a w W.aH b g N (nM W) (fj q)from by
    have:=Hl.more (m:=if W.gK then [.sd]else []) (Hl.seq Q ao (show jT [] g g from⟨rfl,rfl,rfl⟩) (Hl.of L));unfold nM;rw[c];exact this)
   have r:=X l;go_wp2;go_ret;exact⟨_,N,_,_,rfl,T,r,λq=>by cases q⟩
  have bn:aW w (R b 20)=H (aM cf):=l.cell (by rw[<-c];rfl);have bo:w.frozen? (R b 20)=bw:=l.free;have E:=l.L5 bw;have ba:fO a (cH w (R b 20)<|aM bw) W.aH b g N:=(ao.trans<|fO.of F).set o 20<|aM bw;have an:aW (cH w (R b 20)<|aM bw) (R b 21)=H (aM W.gK):=E.cell rfl;have e2:=cW.cellAt E 2 rfl;have bi:y N.eP<=y g.eP:=by
   obtain⟨K',⟨br,_,_,_,r⟩,_,_,a7⟩:=o2;rw[a7,r];grind
  obtain⟨O,t,P,p⟩:=gw E ba o2 o;cases hln:W.gK with
  |false=>
   rw[hln]at an;go_wp2;go_ret;refine⟨_,N,bw,bw,rfl,⟨t,.inl ⟨rfl,?_⟩⟩,?_,λ_=>⟨rfl,rfl⟩⟩
   .unfold nM;rw[c,hln];exact P
   have hB:=J O;grind
  |true=>
   rw[hln]at an;have K:=x (cH w (R b 20)<|aM bw) N t.ok bi;go_wp2_with fail
   apply K.mono;rintro al A⟨v8,C,rfl,f⟩;have n:=f.pa;have o:=n.EM p<|ai u t.aj.size;have d:cW A b _ k:=O.aj n.aj p;have r:Hl a A W.aH b g C (nM W) v8:=by
    have:=Hl.seq Q t P<|Hl.of (sbqq:=b) f;unfold nM;rw[c,hln];exact this
   rcases f.wG with⟨rfl,o8⟩|⟨bq,q,bl,r1,r2,rfl,r3⟩
   .have aU:aW A (R b 21)=H (aM cf):=d.cell (by rw[<-hln];rfl);have aV:A.frozen? (R b 21)=bw:=d.free;obtain⟨B,e,aF⟩:=dF (r.pa.set o 21<|aM bw) (d.j7 bw) r.wG;go_wp2;go_ret;refine⟨_,C,bw,bw,rfl,⟨B,?_⟩,?_,λ_=>⟨rfl,rfl⟩⟩
    .rcases J aF with bl|⟨bq,q,bl,_,_,al,_⟩
     .simp_all
     .cases al
    have hB:=J e;grind
   .have T:=X r;have e:=X d;go_wp2;go_ret;exact⟨_,C,_,_,rfl,T,e,λq=>by cases q⟩
section
open Conc.Locks
def SR.shut(s:SR):SR:={s with closed:=cf,memory:=az,l0:=az,l1:=az,l2:=az,l3:=az,mP:=none}
def UT(h:cW a b W 0)(hc:W.closed=bw)(ad:∃D B m,W.memory=I D B m)(T:∃D B m,W.l0=I D B m)(V:∃D B m,W.l1=I D B m)(aa:∃D B m,W.l2=I D B m)(ac:∃D B m,W.l3=I D B m)(hd:bY a W.aH g)(hn:¬g.aL W.aH b)(hp:Pow a)(an:b≠2)(hl:W.log<18446744073709551616)(hf:W.iU=cf->∃bs,cX (vw g.files) (dj W.log)=H bs)(hm:y g.eP<=1000000000000):cY bA 28 #[aD b] a λap C=>∃bc K' p r,ap=aN bc/\Hl a C W.aH b g K' (nM W) bc/\cW C b {W.shut with iU:=p,gK:=r} 0/\(bc=.nilIface->p=bw/\r=bw):=by
 have c0:=cW.cellAt h 0 rfl;have f0:a.frozen? (R b 0)=bw:=h.free;obtain⟨d,k⟩:∃d,cH a (R b 0) (nE 1)=d:=⟨_,rfl⟩;have c:cW d b W 1:=by rw[<-k];exact h.qx 1
 have w:Z (λbb=>bb=b) a d:=by rw[<-k];exact(iT b a)
 have c5:aW d (R b 5)=H (aM bw):=c.cell (by rw[<-hc];rfl);have c6:=cW.cellAt c 6 rfl;have c7:=cW.cellAt c 7 rfl;have O:=cW.cellAt c 10 rfl;have P:=cW.cellAt c 11 rfl;have Q:=cW.cellAt c 12 rfl;have S:=cW.cellAt c 13 rfl;have au:=cW.cellAt c 16 rfl;have aV:d.frozen? (R b 16)=bw:=c.free;have g5:d.frozen? (R b 5)=bw:=c.free;have g7:d.frozen? (R b 7)=bw:=c.free;have av:d.frozen? (R b 10)=bw:=c.free;have ax:d.frozen? (R b 11)=bw:=c.free;have aF:d.frozen? (R b 12)=bw:=c.free;have aU:d.frozen? (R b 13)=bw:=c.free;obtain⟨o,l⟩:∃o,cH (cH (cH (cH (cH (cH (cH d (R b 5)<|aM cf) (R b 7) az) (R b 10) az) (R b 11) az) (R b 12) az) (R b 13) az) (R b 16) (.map none)=o:=⟨_,rfl⟩;have hS:cW o b W.shut 1:=by have s:=aJ (i:=16) (u:=.map none)<|aJ (i:=13) (u:=az)<|aJ (i:=12) (u:=az)<|aJ (i:=11) (u:=az)<|aJ (i:=10) (u:=az)<|aJ (i:=7) (u:=az)<|aJ (i:=5) (u:=aM cf) c;rw[l]at s;exact s
 have j:Z (λbb=>bb=b) a o:=by rw[<-l];exact((((((w.setCell b 5 _<|.inl rfl).setCell b 7 _<|.inl rfl).setCell b 10 _<|.inl rfl).setCell b 11 _<|.inl rfl).setCell b 12 _<|.inl rfl).setCell b 13 _<|.inl rfl).setCell b 16 _<|.inl rfl
 have t:=BE hS (hd.aj j<|by grind) hn (hp.aj j<|λap=>an ap.symm) hl hf hm;obtain⟨F,E,K,L,N⟩:=iY hS (hd.aj j<|by grind) j k l;obtain⟨mx,mn,mc,em⟩:=ad;obtain⟨bh,bg,bf,ea⟩:=T;obtain⟨bx,bn,bi,eb⟩:=V;obtain⟨cx,cn,cc,ec⟩:=aa;obtain⟨dx,dn,dc,ed⟩:=ac;rw[em]at c7;rw[ea]at O;rw[eb]at P;rw[ec]at Q;rw[ed]at S;clear h c w hc hd hp hf hS j k l em ea eb ec ed;go_enter_defers func28,ntmps28
 go_wp2_with fail
 apply(lock_free (R b 0) _ c0 f0).mono;rintro ap C⟨rfl,ao⟩;rw[J L]at ao;subst C;go_wp2_with fail
 rw[J N];apply t.mono;rintro ap x⟨v2,A,p,r,rfl,n,e,v⟩;have d0:=cW.cellAt e 0 rfl;have k0:x.frozen? (R b 0)=bw:=e.free;have HF:=X (show Hl a (cH x (R b 0)<|nE 0) W.aH b g A (nM W) v2/\cW (cH x (R b 0)<|nE 0) b {W.shut with iU:=p,gK:=r} 0/\(v2=.nilIface->p=bw/\r=bw)from by have ba:=ak F;have s:fO o x W.aH b g A:=n.pa;have al:¬A.aL W.aH b:=λm=>(s.aL b m).elim hn (λd=>by omega);have h0:fO a o W.aH b g g:=⟨E,K.mono (by simp),λ_ m=>.inl m,Fx.refl _⟩;exact⟨⟨(h0.trans s).set al 0<|nE 0,n.wG.imp id<|λ⟨l,q,m,c,d,g,a,j⟩=>⟨l,q,m,c,d,g,a.aj (iT b x)<|a.yG (sbqq:=b) e,j⟩⟩,e.qx 0,v⟩);clear t e n v hn;go_wp2;refine lL (f:=31) (args:=#[aD b]) (by simp) (by simp[go_sem]) ?_;apply(unlock_deferred (R b 0) .returning _ d0 k0).mono;rintro ap u' bd⟨rfl,rfl,rfl⟩;refine⟨_,kT rfl _ _ _,?_⟩;exact⟨v2,A,p,r,rfl,HF⟩
end
def ve(a:Fs)(b:ci ae):Fs:=b.foldl xY a
def KQ{m:ae}(h:m≠r):cX (xY D r) m=cX D m:=by
 induction D with
 |nil=>rfl
 |cons g f c=>
  obtain⟨b,d⟩:=g;by_cases e:b=r
  .simp only[xY,e,nH,cX];rw[dt<|λc=>h c.symm]
  .by_cases a:b=m
   .subst a;simp only[xY,dt h,cX,nH]
   .simp only[xY,dt e,cX,dt a,c]
theorem mW{a:ci ae}(h:r∉a):cX (ve D a) r=cX D r:=by
 induction a generalizing D with
 |nil=>rfl
 |cons n c b=>
  show cX (ve (xY D n) c) r=cX D r;rw[b (λc=>h<|by simp[c]),KQ<|by grind]
theorem FQ{a:ci ae}(h:jT (a.map .rm) g x):vw x.files=ve (vw g.files) a/\y x.eP=y g.eP+y a:=by
 induction a generalizing g with
 |nil=>exact⟨by rw[h.1];rfl,by rw[h.2.2];rfl⟩
 |cons n r i=>
  obtain⟨k,⟨F,j,_,b,l,c⟩,f⟩:=h;obtain⟨d,e⟩:=i f;refine⟨?_,by rw[e,c];simp;omega⟩;rw[d,b,Vy];rfl
def FH{K:DK}(aV:ab)(c:ci ae)(h:cW a b W k)(L:bY a W.aH K)(hn:¬K.aL W.aH b)(hr:Row a 1 aV (y c) (c.map Value.string))(hv:∀aF,cI aV=H aF->aF<z (G a)/\¬K.aL W.aH aF)(N:c.Nodup)(O:∀aU∈c,∃D,cX (vw K.files) aU=H D)(hm:y K.eP+y c<=1000000000000)(av:∀aU∈c,Nm aU):cY bA 46 #[aD b,aV] a λad w'=>ye a w' W.aH K (c.map .rm) ad:=by
 have ax:=ak h;have l:=X L.tu;rcases hr with⟨g,⟨rfl,h0⟩|⟨ba,i,al,rfl,ao,hc⟩⟩;(.obtain rfl:=aS h0;have j:=X<|qQ.refl L;(go_in);go_wp2;(go_loopw [10] (λv wr=>v=aq 0/\wr=a) (λ_ _=>0));(case atStart=>grind);(case round=>obtain⟨rfl,d⟩:=hrel;subst wr;go_wp2;go_ret;exact⟨_,K,rfl,j,.inl ⟨rfl,rfl,rfl,rfl⟩⟩))
 .have V:=hv ba rfl;obtain⟨HB,HC,HN,A,C,w⟩:=lw h hc hn N O<|qQ.refl L;go_in
  go_wp2;go_loopw [10] (λv wr=>∃(m:M)(o:DK),m<=y c/\v=aq m/\qQ a wr W.aH K o/\jT ((c.take m).map .rm) K o) (λv _=>y c-(intOf v).toNat)
  case atStart=>exact⟨0,K,bK _,rfl,w,rfl,rfl,rfl⟩
  case round=>
   obtain⟨m,o,ap,rfl,p,d⟩:=hrel;by_cases f:m<y c
   .have an:aW wr (R ba<|i+m)=H (am c[m]):=p.aj.cell (HC m _ (by rw[fB,aR f];rfl)) V.2 V.1;have F:=HB.aj p.aj HN;have c2:=cW.cellAt F 2 rfl;have r:c[m]∉c.take m:=by
     intro bb;obtain⟨v,hi,x⟩:=eC bb;have B:v<m/\v<y c:=by grind
     rw[kA]at x;have:=(List.nodup_iff_pairwise_ne.1 A);grind[pairwise_iff_getElem]
    obtain⟨S,au⟩:=FQ d;have aa:y (c.take m)=m:=by rw[dp];omega
    obtain⟨D,E⟩:=C _<|ar f;have hg:cX (vw o.files) c[m]=H D:=by rw[S,mW r];exact E
    obtain⟨bc,hF,_⟩:=ji hg;have P:=Tk c[m] p.ok hF (by omega) (by grind);have Q:(c.take<|m+1).map nU.rm=(c.take m).map .rm++[.rm c[m]]:=by rw[ah f,aE];rfl
    have s:(c.take<|m+1).map nU.rm<+:c.map .rm:=(by grind);obtain⟨n,j,t,T⟩:=gw Q p d s;generalize c[m]=ac at*;go_wp2_with fail
    apply P.mono;rintro ad w1⟨v1,u,rfl,g⟩;have e:=zO.seq l j t g;rw[<-J n]at e;rcases g.wG with⟨rfl,o1⟩|⟨bd,q,bb,r1,r2,rfl,r3⟩
    .obtain⟨x,B⟩:=And.intro (X e.pa) (X (show jT ((c.take<|m+1).map .rm) K u by rw[J n];exact jT.Hk t o1));go_wp2;go_roundw;case rel=>exact⟨m+1,u,f,by go_num,x,B⟩
     case measure=>simp[intOf];omega
    .have x:=X (show zO a w1 W.aH K u (c.map .rm) (fj q)from⟨e.pa,by
      rcases e.wG with⟨ad,_⟩|⟨l',q',c',bf,B⟩
      .cases ad
      grind⟩)
     go_wp2;go_ret;exact⟨_,u,rfl,x⟩
   .have e:m=y c:=by omega
    subst e;rw[aY]at d;obtain⟨j,t⟩:=And.intro (X p) (X d);go_wp2;go_ret;exact⟨_,o,rfl,j,.inl ⟨rfl,t⟩⟩
def rI(V:ja)(e:M)(g:ab)(d:cU)(w:Y):Prop:=∃t v f qP,g=.iface t v/\(∀w,(Go.method 541 t v "Find").run bA w=.ok (f,qP) w)/\Enters bA f/\∀a(c:U)w',kS V e aw w w'->V.D w'->cY bA f #[qP,am a,aG c] w' λh b=>Sn V w' b (iI c d a) h
def Uy(v:ab)(w:Y):(Go.method 541 76 v "Find").run bA w=.ok (308,v) w:=by kernel_rfl
def Ux(v:ab)(w:Y):(Go.method 541 179 v "Find").run bA w=.ok (310,v) w:=by kernel_rfl
def Xq(v:ab)(w:Y):(Go.method 541 73 v "Find").run bA w=.ok (304,v) w:=by kernel_rfl
def rI.yO(i:tw s b d j a)(c:b<=z (G a))(hF:∀k,s.F k->k<b):rI s b (.iface 76 d) (cA j) a:=⟨_,d,_,d,rfl,Uy d,enters_of func308 (by kernel_rfl) rfl,λe g l f h=>Ua e g (i.same f) h (aB c f.1) hF⟩
def rI.table(h:nT s b Q.tb Q.ks Q.cs a)(c:b<=z (G a))(hF:∀k,s.F k->k<b):rI s b (.iface 179 Q.ptr) Q.all a:=⟨_,Q.ptr,_,Q.ptr,rfl,Ux Q.ptr,enters_of func310 (by kernel_rfl) rfl,λd f i e g=>DQ d f (h.same e) g (aB c e.1) hF⟩
def kJ.same{V:ja}{n0:M}(o:kJ a d e)(l:kS V n0 aw a f)(m:∀i,cI d=Option.some i->i<n0/\¬V.F i):kJ f d e:=by
 obtain⟨h,⟨rfl,j⟩|⟨n,b,c,rfl,g,k⟩⟩:=o;exact⟨h,.inl ⟨rfl,j⟩⟩;exact⟨h,.inr ⟨n,b,c,rfl,g,λo u j=>l.cell (.inr<|m n rfl)<|k o u j⟩⟩
def rI.list(p:kJ a d e)(m:eh e)(l:y e<=1000000000000)(o:∀j,cI d=H j->j<b/\¬s.F j)(n:b<=z (G a)):rI s b (.iface 73 d) e a:=by
 refine⟨_,d,_,d,rfl,Xq d,enters_of func304 (by kernel_rfl) rfl,λg i q f k=>?_⟩;apply(BH g i (p.same f o) m l<|λj h=>ai (by grind) f.1).mono;rintro t r⟨rfl,h⟩;have c:=s.fc k (Z.aQ (S:=aw) h) cJ;cases iI i e g with
 |none=>exact⟨zE,bw,.nilIface,rfl,.inl rfl,c,Z.aQ h⟩
 |some x=>exact⟨x,cf,.nilIface,rfl,.inl rfl,c,Z.aQ h⟩
def xL(c:U)(b:ae)(a:ci (ab×cU)):Option E:=a.findSome?<|λr=>iI c r.2 b
def Zw:Option E->ab
 |some x=>.tuple #[.string x.val,.bool<|!x.del,.nilIface]
 |none=>.tuple #[.string ⟨#[]⟩,.bool bw,.nilIface]
def VO{a:ci (ab×cU)}(h:b<y a)(c:xL k r (a.take b)=none):xL k r a=(iI k a[b].2 r).or (xL k r<|a.drop<|b+1):=by
 have e:a=a.take b++a[b]::a.drop (b+1):=by rw[<-bJ h,bO]
 unfold xL at*;grind
def Xn(w:Y)(c:M)(a:ae)(d:U)(e:¬(1<=a.size/\a.size<=8))(f:a.size<=140737488351232):cY bA 36 #[aD c,am a,aG d] w λi g=>i=aN (dA #[am ⟨#[]⟩,aM bw,xF 3])/\g=w:=by
 have b:=λW=>rC a W f;rw[decide_eq_false e]at b;go_in
 go_wp2_with(go_at_call 70;refine(b _).mono ?_;rintro i j⟨rfl,rfl⟩)
 refine cy (qd rfl _ _ _) rfl ?_;exact⟨rfl,rfl⟩
abbrev gE(v:ab):ab:=dA #[am ⟨#[]⟩,aM bw,v]
def Xo(n0:M)(p0 p1 p2 p3:ab×cP)(c:ci (ab×cU))(d:ae)(l:U)(h:cW a b W k)(mx:Option Addr)(mn mc:M)(bc:W.memory=I mx mn mc)(hl:Ey a b 10 [p0,p1,p2,p3])(aa:c.map (·.1)=yx W.memory p0 p1 p2 p3)(hR:∀bp(hi:bp<y c),rI s n0 c[bp].1 c[bp].2 a)(hD:s.D a)(bh:n0<=z (G a))(hF:∀k,s.F k->k<n0)(L:1<=d.size/\d.size<=8)(bn:∀cl∈c,∀x∈cl.2,x.val.size<=281474976710656):cY bA 36 #[aD b,am d,aG l] a λbr w'=>(br=aN (Zw<|xL l d c)/\s.D w'/\Z s.F a w')\/EA s a w' s.F br gE:=by
 have ac:=λbE=>rC d bE (by omega);rw[decide_eq_true L]at ac;have ao:=FB p0 p1 p2 p3 h mx mn mc bc hl;have p:y (po p0 p1 p2 p3)+1=y c:=by have:=bS y aa;simp[yx]at this;omega
 rw[<-aa,p]at ao;have bs:y c<=1000000000:=by have:=hl.small;rw[<-p];simp[po,mq]at this|-;omega
 obtain⟨HR,HD,HF,av⟩:=gw hR hD hF bn;go_in
 go_wp2_with fail
 apply(ac _).mono;rintro br w1⟨rfl,cd⟩;subst w1;go_wp2_with fail
 apply ao.mono;rintro br w1⟨v1,rfl,al,bi⟩;obtain⟨x1,c1,bl⟩:=aC al;subst bl;have P:=X al;have Q:=X bi;go_wp2_with fail
 go_loopw [21] (λbp wr=>∃r:M,r<=y c/\bp=aq r/\s.D wr/\Z s.F w1 wr/\xL l d (c.take r)=none) (λbp _=>y c-(intOf bp).toNat)
 case atStart=>exact⟨0,bK _,rfl,s.fc HD Q cJ,Z.refl _ _,rfl⟩
 case round=>
  obtain⟨r,hn,rfl,m,o,f⟩:=hrel;have n:Z s.F a wr:=(Q.mono (T:=s.F) cJ).trans o<|λ_ p=>.inl p;by_cases e:r<y c
  .obtain⟨cj,ck,ch,qP,bf,hm,he,D⟩:=HR r e;have eg:∀c a,(callFunc ch c).run bA a=.ok (.enter ch c) a:=he;have hc:=D d l wr (n.same bh cJ<|λk L _=>L) m;have bd:∀k,z (G a)<=k->¬s.F k:=λk L c=>by have:=HF k c;omega
   have an:=o.own P<|λk L=>bd k (P.lt k L).1;obtain⟨bq,hx,cc⟩:∃bq,x1=H (R bq 0)/\aW wr (R bq r)=H (.iface cj ck):=by
    rcases an.2 with⟨g,B⟩|⟨A,t,v,g,_⟩
    .omega
    .cases g;refine⟨A,rfl,?_⟩;have:=pT an r (.iface cj ck) (by rw[fB,aR e];simp[bf]);rwa[dJ,dM]at this
   subst hx;have ba:=VO e f;have bg:xL l d (c.take<|r+1)=iI l c[r].2 d:=by
    rw[ah e];unfold xL at f|-;rw[List.findSome?_append,f];cases h:iI l c[r].2 d<;>simp[h]
   have bm:∀x,iI l c[r].2 d=H x->x.val.size<=281474976710656:=λx hx=>av _ (ar e) x<|lE hx;obtain⟨N,au,j,O,ap⟩:=iY m o n ba bg;have e1:(r:U)<(y c:U):=by omega
   go_wp2_with fail
   apply hc.mono;rintro br i⟨ce,ok,ev,he,F,aF,bk⟩;obtain⟨u,w⟩:=And.intro (X aF) (X bk);rcases F with F|⟨hX,rfl,rfl,q,rfl,hq⟩
   .rw[F]at he;subst he;cases hfe:iI l c[r].2 d with
    |none=>
     unfold Gz xg;simp only;have v:=X hfe;go_wp2;go_roundw;case rel=>
      refine⟨r+1,e,by go_num,s.fc u (cO aw i) cJ,?_,?_⟩
      .exact(au.trans w<|λ_ p=>.inl p).alloc _
      .rw[J ap,J v]
     case measure=>simp[intOf];omega
    |some x=>
     have bo:=bm x hfe;unfold Gz E.value;simp only;have bb:=λbE=>tI x.val bE bo;have bt:∀(x:Bool)(a:Y),(Op.unary .not<|aM x).run bA a=.ok (aM<|!x) a:=λ_ _=>rfl;have v:=X hfe;go_wp2_with fail
     have g:jb (dd i<|ay #[am x.key,am x.val,aM x.del,aG x.bQ] 171) (z<|G i) x:=aK _ rfl;have B:Z s.F a (dd i<|ay #[am x.key,am x.val,aM x.del,aG x.bQ] 171):=(j.trans w<|λ_ p=>.inl p).alloc _;have A:s.D (dd i<|ay #[am x.key,am x.val,aM x.del,aG x.bQ] 171):=s.fc u (cO aw i) cJ;generalize dd i (ay #[am x.key,am x.val,aM x.del,aG x.bQ] 171)=W3 at g B A|-;generalize z (G i)=eb at g|-;obtain⟨bL,bT,ax,ca⟩:=g.cells;have ad:=ak g;obtain⟨bx,bu,bv⟩:=dF B A g;have HA:=X (show∀t,Below (z<|G W3) W3.drew t->aW t (R eb 2)=H (aM x.del)/\s.D t/\Z s.F a t from by
      intro t C;have K:Z aw W3 t:=(dh aw W3).cz (Z.aQ (S:=aw) C);exact⟨K.cell ax id ad,s.fc A K cJ,B.cz K⟩)
     go_region_with(first|(go_at_call 75;refine(bb _).mono ?_;rintro br t⟨rfl,C⟩;obtain⟨cb,aU,aV⟩:=HA t C;have V:=X<|And.intro aU aV))
     all_goals(go_wp2;refine cy (qd rfl _ _ _) rfl ?_;exact .inl ⟨by rw[J O,J v];rfl,V.1,V.2⟩)
   .subst he;have g:=X hq;unfold E.value;simp only;go_wp2;refine cy (qd rfl _ _ _) rfl ?_;exact .inr ⟨hX,q,rfl,g.aj (cO aw i) cJ,s.fc u (cO aw i) cJ,(j.trans w<|λ_ p=>.inl p).alloc _⟩
  .have g:r=y c:=by omega
   rw[g,aY]at f;obtain⟨i,N,j⟩:=dF f m n;have e1:¬(r:U)<(y c:U):=by omega
   clear f m n o g;go_wp2;refine cy (qd rfl _ _ _) rfl ?_;exact .inl ⟨by rw[J i];rfl,N,j⟩
structure Aside(w:Y)(K:DK)(db sb k:M):Prop where
 lt:k<z (G w)
 aL:¬K.aL db k
 ne:k≠sb
def Aside.fa(h:Aside a g c i l)(d:fO a f c i g x):Aside f x c i l:=⟨ai h.lt d.aj.size,λe=>(d.aL l e).elim h.aL (λj=>by have:=h.lt;omega),h.ne⟩
def Aside.block{w w':Y}{a:DK}(h:Aside w g c i l)(d:fO w w' c i g a):w'.heap[l]?=w.heap[l]?:=d.aj.block l h.lt<|λe=>e.elim h.aL h.ne
def Aside.cell{w w':Y}{c a k i:M}(j:Aside w g c a k)(h:fO w w' c a g x)(e:aW w (R k i)=H d):aW w' (R k i)=H d:=(dy (w:=w)<|j.block h).trans e
def Bm(n:Row a i d l B)(j:fO a f b c g x)(e:∀k,cI d=H k->Aside a g b c k):Row f i d l B:=j.aj.row n<|λk h=>⟨λm=>m.elim (e k h).aL (e k h).ne,(e k h).lt⟩
structure sD(w:Y)(db:M)(fs:Fs)(A:fh)(t:bB):Prop where
 mem:∃bb boff ya,lZ w t.tb (aD db) t.num (y<|dU t.cs) (y<|fP<|bX 0 t.cs) (lJ<|fP<|bX 0 t.cs) bb boff ya az t.ks/\A bb
 loc:A t.tb
 ks:t.ks=bX 0 t.cs
 num:t.num<18446744073709551616
 pure:uF t.ks t.cs
 idx:OS (bX 0 t.cs)
 small:y (dU t.cs)<=100000
 file:cX fs (fG t.num)=H (pu t.cs)
def sD.fa{k fs':Fs}(h:sD a c k (Aside a g c i) Q)(j:fO a f c i g x)(n:cX fs' (fG Q.num)=cX k (fG Q.num)):sD f c fs' (Aside f x c i) Q:=by
 obtain⟨m,e,d,o,l⟩:=h.mem;exact⟨⟨m,e,d,o.dG (h.loc.block j)<|l.block j,l.fa j⟩,h.loc.fa j,h.ks,h.num,h.pure,h.idx,h.small,n.trans h.file⟩
structure Rq(w:Y)(K:DK)(db sb:M):Prop where
 steps:Steps w
 pow:Pow w
 fR:Aside w K db sb 1
 mz:Aside w K db sb 2
def Rq.fa(h:Rq a g c i)(d:fO a f c i g x):Rq f x c i:=⟨λk e=>h.fR.cell d<|h.steps k e,h.pow.dG<|h.mz.block d,h.fR.fa d,h.mz.fa d⟩
structure DE(fs:Fs)(w:Y)(K:DK)(db sb:M)(v:ab)(ts:cP):Prop where
 row:Row w 1 v (y ts) (ts.map bB.ptr)
 loc:∀k,cI v=H k->Aside w K db sb k
 each:∀t∈ts,sD w db fs (Aside w K db sb) t
abbrev LvO(w:Y)(K:DK):=DE (vw K.files) w K
def DE.fa{h fs':Fs}(l:DE h a g c i d j)(e:fO a f c i g x)(m:∀t∈j,cX fs' (fG t.num)=cX h (fG t.num)):DE fs' f x c i d j:=⟨Bm l.row e l.loc,λo n=>(l.loc o n).fa e,λt k=>(l.each t k).fa e<|m t k⟩
def lB(h:∀t∈j,uF t.ks t.cs):y j<=y (cA j):=by
 induction j with
 |nil=>simp
 |cons t r b=>
  obtain⟨x,a,_⟩:=(h t<|by simp).yP;have c:1<=y t.all:=List.length_pos_of_mem a;have d:=b (λu a=>h u<|by simp[a]);have e:y (cA<|t::r)=y t.all+y (cA r):=by simp[cA]
  grind
structure zN(fs:Fs)(w:Y)(sb:M)(s:SR)(K:DK)(m:cU)(a b c d:cP)(C:M):Prop where
 mem:kJ w s.memory m
 tg:∀k,cI s.memory=H k->Aside w K s.aH sb k
 l0:DE fs w K s.aH sb s.l0 a
 l1:DE fs w K s.aH sb s.l1 b
 l2:DE fs w K s.aH sb s.l2 c
 l3:DE fs w K s.aH sb s.l3 d
 aH:bY w s.aH K
 xM:¬K.aL s.aH sb
 kI:Rq w K s.aH sb
 sI:y m+y (cA a)+y (cA b)+y (cA c)+y (cA d)<=C
 jV:C<=1000000
 mJ:eh m
 jf:∀x∈m,x.Good
 s1:jn b
 s2:jn c
 s3:jn d
abbrev ST(w:Y)(a:M)(s:SR)(K:DK):=zN (vw K.files) w a s K
def zN.len{d b j k:cP}(h:zN D a c W g e d b j k i):y e<=2000000:=by have:=h.sI;have:=h.jV;omega
def zN.count{f b j k:cP}(h:zN D a c W g e f b j k i):y f+y b+y j+y k<=2000000:=by
 have:=h.sI;have:=h.jV;have:=lB<|λt d=>(h.l0.each t d).pure;have:=lB h.s1.pure;have:=lB h.s2.pure;have:=lB h.s3.pure;omega
def zN.fa{l b j m:cP}(h:zN D a c W g e l b j m i)(k:c<z (G a))(d:fO a f W.aH c g x):zN D f c W x e l b j m i where
 mem:=Bm h.mem d h.tg
 tg:=λj c=>(h.tg j c).fa d
 l0:=h.l0.fa d<|λ_ _=>rfl
 l1:=h.l1.fa d<|λ_ _=>rfl
 l2:=h.l2.fa d<|λ_ _=>rfl
 l3:=h.l3.fa d<|λ_ _=>rfl
 aH:=d.ok
 xM:=λj=>(d.aL c j).elim h.xM<|λn=>by omega
 kI:=h.kI.fa d
 sI:=h.sI
 jV:=h.jV
 mJ:=h.mJ
 jf:=h.jf
 s1:=h.s1
 s2:=h.s2
 s3:=h.s3
def ST.fa{k b l m:cP}(n:ST a c W g e k b l m i)(d:c<z (G a))(h:fO a f W.aH c g x)(j:vw x.files=vw g.files):ST f c W x e k b l m i:=by
 rw[ST,j];exact zN.fa n d h
def oQ(s:SR)(m:cU)(a b c d:cP):ci (ab×cU):=(.iface 73 s.memory,m)::(((a.map<|λt=>(Py t,t.all)).reverse)++[(Hr (s.l1,b),cA b)]++[(Hr (s.l2,c),cA c)]++[(Hr (s.l3,d),cA d)])
def zm(s:SR)(m:cU)(a b c d:cP):(oQ s m a b c d).map (·.1)=yx s.memory (s.l0,a) (s.l1,b) (s.l2,c) (s.l3,d):=by
 simp[oQ,yx,po,vT]
def zN.Q9{l b m n:cP}(h:zN D a c W g e l b m n i)(j:cW a c W k):Ey a c 10 [(W.l0,l),(W.l1,b),(W.l2,m),(W.l3,n)]:=by
 refine⟨rfl,λf d=>?_,λf d=>?_,λf d=>?_,?_⟩;(have:f=0\/f=1\/f=2\/f=3:=by grind);rcases this with rfl|rfl|rfl|rfl<;>exact j.cell rfl;(have:f=0\/f=1\/f=2\/f=3:=by grind);rcases this with rfl|rfl|rfl|rfl;exact h.l0.row;exact h.l1.row;exact h.l2.row;exact h.l3.row;(have:f=0\/f=1\/f=2\/f=3:=by grind);rcases this with rfl|rfl|rfl|rfl;exactλk d=>(h.l0.loc k d).lt;exactλk d=>(h.l1.loc k d).lt;exactλk d=>(h.l2.loc k d).lt;exactλk d=>(h.l3.loc k d).lt;have:=h.count;simp[mq];omega
structure Sl(Xqq:Prop)(K:DK)(fs:Fs):Prop where
 get:∀n bs,cX fs n=H bs->∃f,dV K.files n=H f/\f.bytes=bs
 bad:0<K.fx.bd->Xqq
 ok:K.fx.ok
def Sl.refl(h:bY a c g):Sl (0<g.fx.bd) g (vw g.files):=⟨λ_ _ h=>ji h,id,h.tu⟩
abbrev sL(a:Prop)(b:M)(K:DK):ja:=La a b K<|K.aL b
def nR(a:M)(K:DK):ja:=sL (0<K.fx.bd) a K
def Fh(h:Sl T g D)(j:sD a b D (Aside a g b c) Q)(e:Rq a g b c):nT (sL T b g) (z<|G a) Q.tb Q.ks Q.cs a:=by
 obtain⟨l,f,d,n,k⟩:=j.mem;obtain⟨o,m,i⟩:=h.get _ _ j.file;exact nT.RO T b g (g.aL b) (z<|G a) Q.tb Q.num j.num _ _ _ l f d az Q.ks Q.cs o (fP<|bX 0 Q.cs) a n j.pure m i h.ok h.bad ⟨j.loc.lt,j.loc.aL⟩ ⟨k.lt,k.aL⟩ e.steps ⟨e.fR.lt,e.fR.aL⟩ e.pow ⟨e.mz.lt,e.mz.aL⟩
def wv(f:Sl T g D)(h:DE D a g b c d j)(i:Rq a g b c)(l:jn j)(k:y j<=1000000000):tw (sL T b g) (z<|G a) d j a:=⟨h.row,λn e=>⟨(h.loc n e).lt,(h.loc n e).aL⟩,λt m=>Fh f (h.each t m) i,l,k⟩
def KU(c:bY a b g)(d:∀k,g.aL b k->k<z (G a)):(sL T b g).D a:=⟨d,g,c,⟨rfl,rfl,rfl⟩,λ_ h=>h,Fx.refl _⟩
theorem zN.TC(h:zN D a b W g e j p u v c):(sL T W.aH g).D a:=KU h.aH h.aH.lt
def ST.TC(h:ST a b W g e j p u v c):(nR W.aH g).D a:=KU h.aH h.aH.lt
def zN.F2(d:Sl T g D)(h:zN D a b W g e j p u v c):∀r∈oQ W e j p u v,rI (sL T W.aH g) (z<|G a) r.1 r.2 a:=by
 have hF:∀k,(sL T W.aH g).F k->k<z (G a):=h.aH.lt;have l:=h.count;intro r f;simp only[oQ,bM,aA,rh,bH,gR,nV]at f;rcases f with rfl|((⟨t,i,rfl⟩|rfl)|rfl)|rfl;exact rI.list h.mem h.mJ (show y e<=1000000000000 by have:=h.len;omega) (λk a=>⟨(h.tg k a).lt,(h.tg k a).aL⟩)<|ag _;exact rI.table (Fh d (h.l0.each t i) h.kI) (ag _) hF;exact rI.yO (wv d h.l1 h.kI h.s1<|by omega) (ag _) hF;exact rI.yO (wv d h.l2 h.kI h.s2<|by omega) (ag _) hF;exact rI.yO (wv d h.l3 h.kI h.s3<|by omega) (ag _) hF
def CR(h:jn j):∀x∈cA j,x.Good:=by
 intro x a;unfold cA at a;obtain⟨l,c,a⟩:=bC.1 a;obtain⟨t,d,rfl⟩:=bH.1 c;obtain⟨e,b,a⟩:=bC.1 a;exact(h.pure t d).jf e b x a
def VF(h:uF Q.ks Q.cs):∀x∈Q.all,x.Good:=by
 intro x a;obtain⟨c,b,a⟩:=bC.1 a;exact h.jf c b x a
def zN.Mm(h:zN D a b W g e j p u v c):∀r∈oQ W e j p u v,∀x∈r.2,x.Good:=by
 intro r d;simp only[oQ,bM,aA,rh,bH,gR,nV]at d;rcases d with rfl|((⟨t,f,rfl⟩|rfl)|rfl)|rfl;exact h.jf;exact VF (h.l0.each t f).pure;exact CR h.s1;exact CR h.s2;exact CR h.s3
def zw(c:bY a W.aH g)(d:¬g.aL W.aH b)(j:U):fO a (cH a (R b 0)<|nE j) W.aH b g g:=(fO.refl c).set d 0 _
def fO.sb(h:fO a A b c g x)(d:¬g.aL b c)(i:c<z (G a)):¬x.aL b c:=λe=>(h.aL c e).elim d<|λj=>by omega
def uz{b sbqq:M}(d:bY a b g)(c:Below (z<|G a) a f):fO a f b sbqq g g:=⟨d.aj (Z.aQ (S:=aw) c)<|λ_ _=>id,(Z.aQ (S:=aw) c).mono cJ,λ_ e=>.inl e,Fx.refl _⟩
structure OL(w:Y)(K:DK)(sb:M)(s:SR)(sn:gL):Prop where
 ex:∃b,s.mP=H b/\pz w b (B4 sn)/\Aside w K s.aH sb b
 len:y sn<=4
def OL.fa{h:gL}(k:OL a g c W h)(e:fO a f W.aH c g x):OL f x c W h:=by
 obtain⟨b,i,j,d⟩:=k.ex;exact⟨⟨b,i,j.dG<|d.block e,d.fa e⟩,k.len⟩
def OL.fields{s s':SR}{c:gL}(h:OL a g b s c)(j:s'.aH=s.aH/\s'.mP=s.mP):OL a g b s' c:=by
 obtain⟨i,d,e,f⟩:=h.ex;exact⟨(by grind),h.len⟩
def Sk(w:Y)(t:bB):Prop:=t.num<18446744073709551616/\∃g cut b e f c a d,lZ w t.tb g t.num cut b e f c a d t.ks
def Sk.aj{w w':Y}(n:Sk w Q)(j:Z aw w w'):Sk w' Q:=by
 obtain⟨m,l,cut,c,h,k,d,a,e,g⟩:=n;exact⟨m,l,cut,c,h,k,d,a,e,g.dG (j.block _ (ak g.box) id)<|j.block _ g.lt.2 id⟩
def Sk.name(k:Sk a Q)(n:Pow a):cY bA 93 #[aD Q.tb] a λj w'=>j=aN (am<|fG Q.num)/\Below (z<|G a) a w':=by
 obtain⟨l,i,cut,c,g,h,d,b,e,m⟩:=k;grind[DO]
def Gu:(prog.info? 65).map (λi=>(i.zero,i.size,i.bytes))=H (H<|dL #[],0,0):=by kernel_rfl
def RJ(a b c d:ab)(e f g h:cP):qB [(a,e),(b,f),(c,g),(d,h)]=(e++f++g++h).map bB.ptr:=by simp[qB]
def SC(a b c d:ab)(e f g h:cP):mq [(a,e),(b,f),(c,g),(d,h)]=y (e++f++g++h):=by simp[mq]
def mH(T a:cP):cP:=T.filter<|λt=>!(a.any<|λu=>u.num==t.num)
def QA{T T':cP}(h:b<y T):mH (T.take<|b+1) T'=mH (T.take b) T'++(if T'.any (λu=>u.num==T[b].num)then []else [T[b]]):=by
 unfold mH;rw[ah h,li];cases hc:T'.any (λu=>u.num==T[b].num)<;>simp[hc]
def Yi{T':cP}(t:bB):T'.any (λu=>u.num==t.num)=cf↔∃u∈T',am (fG t.num)=am (fG u.num):=by
 rw[rj];constructor;grind
 rintro⟨u,a,e⟩;refine⟨u,a,?_⟩;(have:fG t.num=fG u.num:=by simpa using e);rw[oh this];grind
def lC(s:SR)(T a:cP):ci ae:=(if s.dO then [dj s.log]else [])++(mH T a).map (λt=>fG t.num)
def Kf(gf cr E gg p q r s:cP){v3:ab}(h:cW a b W k)(hl:Ey a b 10 [(W.l0,gf),(W.l1,cr),(W.l2,E),(W.l3,gg)])(r0:Row a 1 d (y p) (p.map bB.ptr))(r1:Row a 1 t (y q) (q.map bB.ptr))(r2:Row a 1 L (y r) (r.map bB.ptr))(r3:Row a 1 v3 (y s) (s.map bB.ptr))(k0:∀k,cI d=H k->k<z (G a))(k1:∀k,cI t=H k->k<z (G a))(k2:∀k,cI L=H k->k<z (G a))(k3:∀k,cI v3=H k->k<z (G a))(hT:∀C∈gf++cr++E++gg,Sk a C)(cv:∀C∈p++q++r++s,Sk a C)(hp:Pow a)(ff:W.log<18446744073709551616)(fs:y (gf++cr++E++gg)<=10000000)(fu:y (p++q++r++s)<=10000000):cY bA 160 #[aD b,dL #[d,t,L,v3]] a λcs w'=>∃v',cs=aN v'/\w'.ownsRow (z<|G a) 9 1 v' (y<|lC W (gf++cr++E++gg)<|p++q++r++s) (strs<|lC W (gf++cr++E++gg)<|p++q++r++s)/\Z aw a w':=by
 have hc:=@rW bA;have gj:∀(ei:Bool)(a:Y),(Op.unary .not<|aM ei).run bA a=.ok (aM<|!ei) a:=λ_ _=>rfl;obtain⟨i0,cM,ea,eb,ec⟩:=dl AC;obtain⟨i1,fe,ge,hf,hg⟩:=dl Gu;obtain⟨x0,c0,rfl⟩:=bZ r0;obtain⟨x1,c1,rfl⟩:=bZ r1;obtain⟨x2,c2,rfl⟩:=bZ r2;obtain⟨x3,c3,rfl⟩:=bZ r3;have fl:=ak h;have fk:Ey (dd a<|ay #[I x0 (y p) c0,I x1 (y q) c1,I x2 (y r) c2,I x3 (y s) c3] 78) (z<|G a) 0 [(I x0 (y p) c0,p),(I x1 (y q) c1,q),(I x2 (y r) c2,r),(I x3 (y s) c3,s)]:=by have al:Z aw a (dd a<|ay #[I x0 (y p) c0,I x1 (y q) c1,I x2 (y r) c2,I x3 (y s) c3] 78):=(cO _ _);have df:(dd a<|ay #[I x0 (y p) c0,I x1 (y q) c1,I x2 (y r) c2,I x3 (y s) c3] 78).heap[z<|G a]?=H (ay #[I x0 (y p) c0,I x1 (y q) c1,I x2 (y r) c2,I x3 (y s) c3] 78 (0,0)):=aK _ rfl;refine⟨rfl,λac hi=>?_,λac hi=>?_,λac hi=>?_,by rw[SC];omega⟩;(have:ac=0\/ac=1\/ac=2\/ac=3:=by grind);rcases this with rfl|rfl|rfl|rfl<;>(rw[ct df];rfl);(have:ac=0\/ac=1\/ac=2\/ac=3:=by grind);rcases this with rfl|rfl|rfl|rfl;exact al.row r0 (by grind);exact al.row r1 (by grind);exact al.row r2 (by grind);exact al.row r3 (by grind);grind
 obtain⟨T,cw⟩:∃T,gf++cr++E++gg=T:=⟨_,rfl⟩;obtain⟨e,ba⟩:∃e,p++q++r++s=e:=⟨_,rfl⟩;have cS:∀bn,Z aw a bn->cY bA 92 #[dC<|H<|R b 10] bn λcs w'=>∃v',cs=aN v'/\w'.ownsRow (z<|G bn) 179 1 v' (y T) (T.map bB.ptr)/\Z aw bn w':=λbn g=>by have:=th (w:=bn) (lb:=b) (lo:=10) _<|hl.aj g id<|λ_ _ _ _ E=>E;rw[RJ,SC,cw]at this;exact this
 have bp:∀bn,Z aw (dd a<|ay #[I x0 (y p) c0,I x1 (y q) c1,I x2 (y r) c2,I x3 (y s) c3] 78) bn->cY bA 92 #[aD<|z<|G a] bn λcs w'=>∃v',cs=aN v'/\w'.ownsRow (z<|G bn) 179 1 v' (y e) (e.map bB.ptr)/\Z aw bn w':=λbn g=>by have:=th (w:=bn) (lb:=z<|G a) (lo:=0) _<|fk.aj g id<|λ_ _ _ _ E=>E;rw[RJ,SC,ba]at this;exact this
 rw[cw]at hT fs|-;rw[ba]at cv fu|-;have cb:=X hT;have bi:=X cv;obtain⟨HB,HP,el⟩:=dF h hp cS;have aF:=X bp;obtain⟨WB,cx⟩:∃WB,dd a (ay #[I x0 (y p) c0,I x1 (y q) c1,I x2 (y r) c2,I x3 (y s) c3] 78)=WB:=⟨_,rfl⟩;have bs:Z aw a WB:=by rw[<-cx];exact(cO _ _)
 have cu:=bs.block b fl id|>.trans HB;have ex:=cW.cellAt cu 18 rfl;have gs:=cW.cellAt cu 17 rfl;have fn:Pow WB:=HP.aj bs id;have cN:=zv W.log ff fn;have bm:=X bs;rw[cx]at aF;have bT:=X cN;obtain⟨lg,bb⟩:∃lg,W.dO=lg:=⟨_,rfl⟩;have bL:=X (show lC W T e=(if lg then [dj W.log]else [])++(mH T e).map (λC=>fG C.num)by rw[<-bb];rfl);rw[bb]at ex;generalize W.log=ed at*;go_in
 cases lg;(case' false=>(go_wp2_with fail);generalize al:WB=W5;have ad:=X (show Z aw WB W5 by rw[<-al];exact Z.refl _ _);obtain⟨v5,v⟩:∃v5,v5=I none 0 0:=⟨_,rfl⟩;obtain⟨c,f⟩:∃c:ci ae,c=[]:=⟨_,rfl⟩;have o:=X (show W5.ownsRow (z<|G a) 9 1 v5 (y c) (strs c)by rw[v,f];exact cK _ _ _ _);have ax:=X (show lC W T e=c++(mH T e).map (λC=>fG C.num)by rw[f];exact bL);(have fr:y c<=1:=by rw[f];simp);have co:=X v);(case' true=>(go_wp2_with fail);apply bT.mono;rintro cs w2⟨rfl,fb⟩;have al:=X<|Z.aQ (S:=aw) fb;(go_wp2_with(at_builtin;refine cC _ rfl (.tmp 17) (.tmp 23) 115 rfl (z<|G a) 9 i0 (am ⟨#[]⟩) 1 16 underlying115 cM ea eb ec rfl (by decide) az 0 [] rfl (cK _ _ _ _) (R (z<|G w2) 0) 1 1 [am<|dj ed] rfl rfl (pM _ _ _) (by simp[Value.oneCell']) (by omega) (by omega) (by have:=bm.size;have:=al.size;simp;omega) ?_;intro v3 W5 df fL;obtain⟨x5,c5,v⟩:=aC df;subst v;have o:=X df;have ew:=X fL));have ad:=X<|show Z aw WB W5 from((al.alloc _).cz<|Z.ep (S:=aw) ew.grown<|λk n=>by cases n);obtain⟨v5,v⟩:∃v5,v5=I x5 1 c5:=⟨_,rfl⟩;obtain⟨c,f⟩:∃c:ci ae,c=[dj ed]:=⟨_,rfl⟩;have dk:=J o;have o:=X (show W5.ownsRow (z<|G a) 9 1 v5 (y c) (strs c)by rw[v,f];exact dk);have ax:=X (show lC W T e=c++(mH T e).map (λC=>fG C.num)by rw[f];exact bL);(have fr:y c<=1:=by rw[f];simp);have co:=X v)
 all_goals
  have hd:=ad.size;have he:=bm.size;apply(aF (dd W5<|.map #[] 0)<|ad.alloc _).mono;rintro cs w6⟨v6,rfl,dm,br⟩;obtain⟨x6,c6,fx⟩:=aC dm;subst fx;obtain⟨cm,es,ch,ck⟩:=gw ((lD.new W5 .string).dG<|br.block _ (by simp) id) (bm.cz<|(ad.alloc<|.map #[] 0).trans br cJ) ((((Z.refl aw W5).alloc<|.map #[] 0).cz br).own o<|λ_ _ E=>E) dm;obtain⟨w,cT⟩:∃w,z (G W5)=w:=⟨_,rfl⟩;rw[cT]at cm;have gi:z (G a)<=w:=by omega
  have em:=X (show w<z (G<|dd W5<|.map #[] 0)by rw[<-cT];simp);go_wp2_with fail
  go_loopw [28] (λac wr=>∃av:M,av<=y e/\ac=aq av/\lD wr w .string (λei=>∃C∈e.take av,ei=am (fG C.num))/\Z (λk=>k=w) w6 wr) (λac _=>y e-(intOf ac).toNat)
  case atStart=>exact⟨0,bK _,rfl,cm.congr (by simp),Z.refl _ _⟩
  case round=>
   obtain⟨av,hn,rfl,j,au⟩:=hrel;have bt:Z aw a wr:=es.trans au (by grind);by_cases x:av<y e
   .have V:=au.own ck (λk n E=>by have:=(ck.lt k n).1;have:=J em;omega);obtain⟨b6,gb,bo⟩:∃b6,x6=H (R b6 0)/\aW wr (R b6 av)=H e[av].ptr:=by
     rcases V.2 with⟨h2,h0⟩|⟨gt,ey,eA,h2,_⟩
     .omega
     .cases h2;refine⟨gt,rfl,?_⟩;have:=pT V av e[av].ptr (by rw[fB,aR x];rfl);rwa[dJ,dM]at this
    subst gb;have an:=(bi e[av]<|ar x).aj bt|>.name (HP.aj bt id);have bl:=X (show∀ei,(∃C∈e.take (av+1),ei=am (fG C.num))↔(∃C∈e.take av,ei=am (fG C.num))\/ei=am (fG e[av].num)fromλei=>by
     rw[ah x];grind)
    have A:=j.lt;have F:=X j;have ev:=X au;have e1:(av:U)<(y e:U):=by omega
    unfold bB.ptr at bo;generalize fG e[av].num=m at*;generalize e[av].tb=ef at*;go_wp2_with fail
    apply an.mono;rintro cs w7⟨rfl,cE⟩;have eo:=X<|F.dG<|cE.block w A;have et:=X<|ev.cz<|Z.aQ (S:=aw) cE;go_wp2_with(at_mapUpdate;refine vC _ rfl _ _ _ 198 rfl 9 65 underlying198 .string underlying9 w _ rfl eo (am m) trivial rfl rfl ?_;intro w8 fv fd;have eq:=X fv;have ej:=X fd)
    go_roundw;case rel=>exact⟨av+1,x,by go_num,eq.congr bl,et.trans (fo ej)<|λ_ E=>.inl E⟩
    case measure=>simp[intOf];omega
   .have ao:av=y e:=by omega
    rw[ao,aY]at j;have e1:¬(av:U)<(y e:U):=by omega
    have A:=j.lt;obtain⟨F,cn,aU⟩:=dF j bt<|au.own ch (λk n E=>by have:=(o.lt k n).2;omega);go_wp2_with fail
    apply(el wr cn).mono;rintro cs w9⟨v9,rfl,dn,ap⟩;obtain⟨x9,c9,fz⟩:=aC dn;subst fz;obtain⟨er,cl,cj,eu,bh,en⟩:=lw (F.dG<|ap.block w A id) dn (ap.own aU<|λ_ _ E=>E) (cn.cz ap) (show∀k,cI v5=H k->z (G a)<=k/\k<z (G wr)/\k≠w fromλk n=>⟨(o.lt k n).1,(aU.lt k n).2,by have:=(o.lt k n).2;omega⟩)<|show w<z (G wr)/\z (G wr)<=z (G w9)from⟨A,ap.size⟩;go_wp2_with fail
    go_loopw [5,42] (λo ac b=>∃D:M,D<=y T/\ac=aq D/\b.ownsRow (z<|G a) 9 1 o (y<|c++(mH (T.take D) e).map (λC=>fG C.num)) (strs<|c++(mH (T.take D) e).map (λC=>fG C.num))/\eJ w9 b v5 o) (λ_ ac _=>y T-(intOf ac).toNat)
    case atStart=>
     refine⟨0,bK _,rfl,?_,?_⟩
     .rw[<-J co];have:c++(mH (T.take 0) e).map (λC=>fG C.num)=c:=by simp[mH]
      rw[this];exact cj
     grind[J,eJ.refl]
    case round=>
     obtain⟨D,hm,rfl,ho,bu⟩:=hrel;obtain⟨ox,oc,ds⟩:=aC ho;have B:Z (λk=>cI v5=H k) w9 wr:=Z.ep bu.grown<|λk n=>.inl n;have l:Z aw a wr:=eu.trans B<|λk n=>.inr (bh k n).1;have u:=er.dG<|B.block w (by have:=J en;omega)<|λE=>(bh w E).2.2 rfl;have dr:∀k,cI u5=H k->k≠w:=λk n E=>by
      grind[eJ.vQ,J]
     by_cases i:D<y T
     .have V:=B.own cl (λk n E=>by have:=(cl.lt k n).1;have:=(bh k E).2.1;omega);obtain⟨b9,gc,bo⟩:∃b9,x9=H (R b9 0)/\aW wr (R b9 D)=H T[D].ptr:=by
       rcases V.2 with⟨h2,h0⟩|⟨gt,ey,eA,h2,_⟩
       .omega
       .cases h2;refine⟨gt,rfl,?_⟩;have:=pT V D T[D].ptr (by rw[fB,aR i];rfl);rwa[dJ,dM]at this
      subst gc;have bd:=HP.aj l id;have Q:=(cb T[D]<|ar i).aj l;have an:=Q.name bd;have db:=λbn(g:Z aw wr bn)=>(Q.aj g).name<|bd.aj g id;have bl:=X<|QA (T':=e) i;have O:=Yi (T':=e) T[D];have e1:(D:U)<(y T:U):=by omega
      have bq:=u.lt;have gE:y (c++(mH (T.take D) e).map (λC=>fG C.num))<=20000000:=by
       have:y (mH (T.take D) e)<=y (T.take D):=eW _ _;rw[dp]at this;rw[af,bU];omega
      obtain⟨bk,HO,cq,N,gn,ca⟩:=lw u ho bu l dr db;unfold bB.ptr at bo;have ek:=X (show∀cr,e.any (λb=>b.num==T[D].num)=cr->(c++(mH (T.take<|D+1) e).map (λC=>fG C.num))=(c++(mH (T.take D) e).map (λC=>fG C.num))++(if cr then []else [fG T[D].num])fromλcr hb=>by
       rw[J bl,hb,aE,bj];cases cr<;>rfl)
      obtain⟨gk,hr⟩:∃gk,e.any (λb=>b.num==T[D].num)=gk:=⟨_,rfl⟩;have eB:=ek gk hr;rw[hr]at O;have bE:=X eB;generalize gx:c++(mH (T.take D) e).map (λC=>fG C.num)=Lm at*;have bx:=X O;clear O;generalize dc:fG T[D].num=m at*;clear dc;generalize T[D].tb=ef at*;subst ds;go_wp2_with fail
      apply an.mono;rintro cs eg⟨rfl,P⟩;have aa:Z aw wr eg:=Z.aQ P;have bf:=bk.dG<|P.block w bq;have ha:=CS underlying198 underlying9 fe ge bf (am m) trivial gk bx;have cc:=X<|aa.own HO<|λ_ _ E=>E;have K:=X aa;clear bf aa P an;cases gk with
      |true=>
       go_wp2;go_roundw;case rel=>
        refine⟨D+1,i,by go_num,?_,?_⟩
        .rw[J bE];simp only[nH,dz];exact aT cc _
        .have g:=(K.alloc<|ay #[] 65);refine cq.trans ⟨⟨g.os,g.tape,g.output,g.size,λac hi _=>g.block ac hi id⟩,.inl rfl⟩
       case measure=>simp[intOf];omega
      |false=>
       go_wp2_with fail
       apply(ca (dd eg<|ay #[] 65)<|K.alloc _).mono;rintro cs bv⟨rfl,cB⟩;have bg:Z aw wr bv:=(K.alloc<|ay #[] 65).cz<|Z.aQ (S:=aw) cB;have cd:=X<|bg.own HO<|λ_ _ E=>E;have aV:=X bg;go_wp2_with(at_builtin;refine cC _ rfl (.tmp 55) (.tmp 58) 115 rfl (z<|G a) 9 i0 (am ⟨#[]⟩) 1 16 underlying115 cM ea eb ec rfl (by decide) (I ox (y Lm) oc) (y Lm) (strs Lm) rfl (aT cd<|ay #[am m] 9) (R (z<|G bv) 0) 1 1 [am m] rfl rfl (pM _ _ _) (by simp[Value.oneCell']) (by omega) (by omega) (by have:=N.size;have:=aV.size;simp;omega) ?_;intro hh hj bc dT;obtain⟨hk,gr,dx⟩:=aC bc;subst dx;have ce:=X bc;have cp:=X dT)
       go_roundw;case rel=>
        refine⟨D+1,i,by go_num,?_,?_⟩
        .rw[J bE];simp only[tZ,rX];rw[CN,af];exact ce
        .have g:=J aV;have h1:eJ wr bv (I ox (y Lm) oc) (I ox (y Lm) oc):=⟨⟨g.os,g.tape,g.output,g.size,λac hi _=>g.block ac hi id⟩,.inl rfl⟩;exact cq.trans<|h1.trans<|eJ.alloc _ cp
       case measure=>simp[intOf];omega
     .have ao:D=y T:=by omega
      rw[ao,aY,<-J ax]at ho;have e1:¬(D:U)<(y T:U):=by omega
      obtain⟨oy,od,dv⟩:=aC ho;have HO:=X ho;have N:=X l;clear ho bu l B u dr ao ds;subst dv;go_wp2;go_ret;exact⟨_,rfl,HO,N⟩
section
open Conc.Locks
def GZ(d:Fs)(w c:Y)(a:M)(s:SR)(K:DK)(m:cU)(e f g h:cP)(C:M):Prop:=∃b,fO w c s.aH a K b/\b.files=K.files/\(b.eP=K.eP/\qc K b)/\(∀k,b.aL s.aH k->K.aL s.aH k)/\cW c a s 0/\zN d c a s b m e f g h C
def Sj(w c:Y)(a:M)(s:SR)(K:DK)(m:cU)(d e f g:cP)(C:M):Prop:=∃b,fO w c s.aH a K b/\b.files=K.files/\(b.eP=K.eP/\qc K b)/\(∀k,b.aL s.aH k->K.aL s.aH k)/\cW c a s 0/\ST c a s b m d e f g C
theorem GZ.k6(o:GZ (vw g.files) a f b W g e j p u v c):Sj a f b W g e j p u v c:=by
 obtain⟨h,i,d,k,l,m,n⟩:=o;refine⟨h,i,d,k,l,m,?_⟩;rw[ST,d];exact n
def PJ{sbqq:M}(i:fO a f W.aH sbqq g g)(j:(sL T W.aH g).D A)(m:Z (sL T W.aH g).F f A):∃c,fO a A W.aH sbqq g c/\c.files=g.files/\(c.eP=g.eP/\qc g c)/\(∀n,c.aL W.aH n->g.aL W.aH n):=by
 obtain⟨l,c,k,d,e,h⟩:=j;exact⟨c,i.trans ⟨k,m.mono<|λn j=>.inl<|.inl j,(by grind),h⟩,d.1,⟨d.2.2,d⟩,e⟩
def Qz(a:ae)(c:U)(b:ci (ab×cU)):ab:=if 1<=a.size/\a.size<=8 then Zw (xL c a b)else .tuple #[am ⟨#[]⟩,aM bw,xF 3]
def Uw(d:ae)(h:U)(r:Sl T g D)(q:cW a b W k)(f:zN D a b W g e j p u v c)(A:d.size<=140737488351232):cY bA 36 #[aD b,am d,aG h] a (λE m=>(E=aN (Qz d h<|oQ W e j p u v)/\(sL T W.aH g).D m/\Z (sL T W.aH g).F a m)\/EA (sL T W.aH g) a m (sL T W.aH g).F E gE)/\∃x n o,Qz d h (oQ W e j p u v)=dA #[x,n,o]:=by
 obtain⟨C,B,l⟩:=bZ f.mem;unfold Qz;by_cases i:1<=d.size/\d.size<=8
 .rw[di i];refine⟨Xo (z<|G a) (W.l0,j) (W.l1,p) (W.l2,u) (W.l3,v) (oQ W e j p u v) d h q C (y e) B l (f.Q9 q) (zm W e j p u v) (λK s=>f.F2 r _<|ar s) f.TC (ag _) f.aH.lt i (λF t x w=>by have:=(f.Mm F t x w).val;omega),?_⟩;cases xL h d (oQ W e j p u v)with
  |none=>exact⟨_,_,_,rfl⟩
  |some x=>exact⟨_,_,_,rfl⟩
 rw[dt i];refine⟨(Xn a b d h i A).mono ?_,_,_,_,rfl⟩;grind[zN.TC,Z.refl]
def cW.sep{b q:M}(h:cW a b W k):∀j,j=b->j=q->∃d t r,a.heap[j]?=H (ay d t r)/\t≠194:=λj c _=>c▸⟨_,_,_,h,by decide⟩
def ME{Xqq:Prop}{A s W2:Y}(K:cW s b W 1)(w:zN D A b W g e j p u v c)(i:b<z (G A))(k:fO A s W.aH b g g)(x:Below (z<|G s) s W2):cW W2 b W 1/\zN D W2 b W g e j p u v c/\∀a,(sL Xqq W.aH g).D a->Z (sL Xqq W.aH g).F W2 a->aW a (R b 0)=H (nE 1)/\a.frozen? (R b 0)=bw/\GZ D A (cH a (R b 0)<|nE 0) b W g e j p u v c/\∀q,AS a q->AS (cH a (R b 0)<|nE 0) q:=by
 have f:=k.trans<|uz (sbqq:=b) k.ok x;have n:=w.fa i f;have h:cW W2 b W 1:=K.aj (Z.aQ (S:=aw) x) id;refine⟨h,n,λa t r=>?_⟩;have d:cW a b W 1:=(r.block b (ak h) n.xM).trans h;obtain⟨B,l,C,E,F⟩:=PJ f t r;have o:=l.sb w.xM i;have m:=l.set o 0<|nE 0;exact⟨d.cell rfl,d.free,⟨B,m,C,E,F,d.qx 0,w.fa i m⟩,λq h=>h.aj (iT b a) d.sep⟩
def Ur(d:ae)(hX:Sl T g D)(h:cW a b W 0)(Q:zN D a b W g e j p u v c)(hc:W.closed=bw)(hz:d.size<=140737488351232):cY bA 15 #[aD b,am d] a λE i=>(E=aN (Qz d W.aP<|oQ W e j p u v)\/T/\∃q,E=aN (gE<|fj q)/\AS i q)/\GZ D a i b W g e j p u v c:=by
 have P:=ak h;have c0:=cW.cellAt h 0 rfl;have f0:a.frozen? (R b 0)=bw:=h.free;have s:=zw Q.aH Q.xM 1;have N:=h.qx 1;generalize hW:cH a (R b 0) (nE 1)=l at s N;have x:=uU N;rw[hc]at x;have A:cY bA 32 #[aD b] l λE i=>E=aN .nilIface/\Below (z<|G l) l i:=x;have HX:=X<|λm(O:Below (z<|G l) l m)=>ME (Xqq:=T) (W2:=m) N Q P s O;have HW:=X hW;have K:=X hX;go_enter_defers func15,ntmps15
 go_wp2_with fail
 apply(lock_free (R b 0) _ c0 f0).mono;rintro E i⟨rfl,V⟩;rw[J HW]at V;subst i;go_wp2_with fail
 apply A.mono;rintro E m⟨rfl,O⟩;obtain⟨r,S,w⟩:=HX m O;obtain⟨t,rx,ry,rz,B⟩:=Uw d W.aP K r S hz;have c9:=cW.cellAt r 9 rfl;rw[B]at t;have L:=X B;have k:=X w;go_wp2_with fail
 apply t.mono;rintro E w2(⟨rfl,o,C⟩|⟨hx,q,rfl,hq,o,C⟩);(all_goals obtain⟨d0,g0,hF,n⟩:=k w2 o C);(.have F:=X hF;go_wp2;refine lL (f:=31) (args:=#[aD b]) (by simp) (by simp[go_sem]) ?_;apply(unlock_deferred (R b 0) .returning _ d0 g0).mono;rintro E u' aa⟨rfl,rfl,rfl⟩;exact⟨_,qd rfl _ _ _,.inl (by rw[J L];rfl),F⟩);have F:=X hF;have HQ:=X<|n q hq;go_wp2;refine lL (f:=31) (args:=#[aD b]) (by simp) (by simp[go_sem]) ?_;apply(unlock_deferred (R b 0) .returning _ d0 g0).mono;rintro E u' aa⟨rfl,rfl,rfl⟩;exact⟨_,qd rfl _ _ _,.inr ⟨hx,q,rfl,HQ⟩,F⟩
def NU(d:ae)(m:cW a b W 0)(f:ST a b W g e j p u v c)(i:W.closed=bw)(k:d.size<=140737488351232):cY bA 15 #[aD b,am d] a λl h=>(l=aN (Qz d W.aP<|oQ W e j p u v)\/0<g.fx.bd/\∃q,l=aN (gE<|fj q)/\AS h q)/\Sj a h b W g e j p u v c:=by
 refine(Ur d (Sl.refl f.aH) m f i k).mono ?_;grind[GZ.k6]
end
def Vc(a:U)(b:ae)(c:dX):cU:=oA ⟨#[]⟩<|(de<|c.map<|gm b).filter<|λe=>decide<|e.bQ<=a
def ZN(c:U)(i:ae)(b:dX):∀x∈Vc c i b,x∈b.flatten:=by
 intro x h;have d:=(xE _ _).subset h;have e:=(fi _).mem_iff.1 (eK.1 d).1;obtain⟨l,f,a⟩:=bC.1 e;obtain⟨r,g,rfl⟩:=bH.1 f;exact bC.2 ⟨r,g,(eK.1 a).1⟩
def ZO(c:U)(b:ae)(a:dX):y (Vc c b a)<=y a.flatten:=by
 have d:=(xE ((de<|a.map<|gm b).filter<|λe=>decide<|e.bQ<=c) ⟨#[]⟩).length_le;have f:=eW (λe:E=>decide<|e.bQ<=c)<|de<|a.map<|gm b;have g:=(fi<|a.map<|gm b).length_eq;have h:=Xg b a;unfold Vc;omega
def Xh(v:ab)(w:Y):(Go.method 541 73 v "From").run bA w=.ok (305,v) w:=by kernel_rfl
def mh.list(r:kJ a d e)(n:eh e)(g:∀x∈e,x.bQ<18446744073709551616)(m:y e<=1000000000000)(j:∀i,cI d=H i->i<b/\¬s.F i)(h:b<=z (G a))(hF:∀o,s.F o->o<b):mh s b (.iface 73 d) e a:=by
 refine⟨_,d,_,d,rfl,Xh d,enters_of func305 (by kernel_rfl) rfl,λp v c k=>?_⟩;apply(Gy s b p (r.same c j) n g m (λi f=>⟨(j i f).2,ai (by grind) c.1⟩) (aB h c.1) hF).mono;rintro A w⟨q,S,rfl,l,f,t⟩;refine⟨q,S,rfl,l,s.fc k (Z.aQ (S:=aw) f) cJ,Z.aQ f,λo u=>?_⟩;grind
def zN.KM(d:Sl T g D)(h:zN D a b W g e j p u v c):∀r∈oQ W e j p u v,mh (sL T W.aH g) (z<|G a) r.1 r.2 a:=by
 have hF:∀k,(sL T W.aH g).F k->k<z (G a):=h.aH.lt;have l:=h.count;intro r f;simp only[oQ,bM,aA,rh,bH,gR,nV]at f;rcases f with rfl|((⟨t,i,rfl⟩|rfl)|rfl)|rfl;exact mh.list h.mem h.mJ (λx d=>(h.jf x d).b1) (show y e<=1000000000000 by have:=h.len;omega) (λk a=>⟨(h.tg k a).lt,(h.tg k a).aL⟩) (ag _) hF;exact mh.table (Fh d (h.l0.each t i) h.kI) (ag _) hF;exact mh.yO (wv d h.l1 h.kI h.s1<|by omega) (ag _) hF;exact mh.yO (wv d h.l2 h.kI h.s2<|by omega) (ag _) hF;exact mh.yO (wv d h.l3 h.kI h.s3<|by omega) (ag _) hF
def ST.KM(h:ST a b W g e j p u v c):∀r∈oQ W e j p u v,mh (nR W.aH g) (z<|G a) r.1 r.2 a:=zN.KM (Sl.refl h.aH) h
section
open Shelf
attribute [local go_sem] Oper.semAt_some
def NM:(prog.info? 95).map (λi=>(i.zero,i.size,i.bytes))=H (H<|dL #[am ⟨#[]⟩,am ⟨#[]⟩],2,32):=by kernel_rfl
def T9(p:KV):∀u∈tj p,u.oneCell'=cf:=by
 intro u a;simp[tj]at a;rcases a with rfl|rfl<;>rfl
def E8(w:Y)(p:KV)(t:TypeId):∀j u,(tj p)[j]?=H u->aW (dd w<|ay #[am p.1,am p.2] t) (((R (z<|G w) 0):Addr).add j)=H u:=by
 intro j u a;rw[dJ];have h:(dd w<|ay #[am p.1,am p.2] t).heap[z<|G w]?=H (ay #[am p.1,am p.2] t (0,0)):=aK _ rfl;rw[ct h,dM];simpa[tj]using a
def WM(l:jt)(p:KV):jS (l++[p])=jS l++tj p:=by simp[jS]
def PA(V:ja)(b:Y)(c:ae)(a:U)(n:M)(d:jt)(B:fh)(W:Y):Prop:=Acc V.F b [(z<|G b,am c,9),(z (G b)+1,aq a,3),(z (G b)+2,az,90),(z (G b)+3,.nilIface,41)] (z (G b)+4) 90 95 2 (z (G b)+5) n (jS d) B W
def PZ(V:ja)(a:Y)(B:fh)(W:Y):Prop:=∃x n c q,V.Xp/\AS W q/\eX W (z (G a)+2) (I x n c) 90/\eX W (z (G a)+3) (fj q) 41/\V.D W/\Z V.F a W/\B (z (G a)+2)/\B (z (G a)+3)
def PZ.stays{T:fh}(v:PZ s a o f)(c:Z T f A)(m:∀k,T k->¬o k/\b<=k/\∃L,f.heap[k]?=H (.loop L))(t:∀k,T k->¬o k/\z (G a)<=k)(hF:∀k,T k->¬s.F k):PZ s a o A:=by
 obtain⟨x,b,g,q,u,⟨d,n,e⟩,j,l,r,p,h,i⟩:=v;refine⟨x,b,g,q,u,⟨d,(c.block _ (ak n)<|λg=>?_).trans n,e⟩,(c.block _ (ak j)<|λg=>(m _ g).1 h).trans j,(c.block _ (ak l)<|λg=>(m _ g).1 i).trans l,s.fc r c hF,p.trans c (by grind),h,i⟩;grind
def Tw(n0:M)(p0 p1 p2 p3:ab×cP)(i:ci (ab×cU))(lo l:ae)(c bt:U)(h:cW a b W k)(mx:Option Addr)(mn mc:M)(ea:W.memory=I mx mn mc)(hy:Ey a b 10 [p0,p1,p2,p3])(br:i.map (·.1)=yx W.memory p0 p1 p2 p3)(hU:∀es(l:es<y i),mh s n0 i[es].1 i[es].2 a)(hR:s.D a)(ef:n0<=z (G a))(hF:∀k,s.F k->k<n0)(hI:∀bm∈Vc bt lo (i.map (·.2)),bm.key.size<=281474976710656/\bm.val.size<=281474976710656)(ad:y (Vc bt lo<|i.map (·.2))<=1000000000):cY bA 161 #[aD b,am lo,am l,aq c,aG bt] a λbk w'=>(∃v',bk=aN (dA #[v',.nilIface])/\w'.ownsRow (z<|G a) 95 2 v' (y<|Du l c []<|((Vc bt lo<|i.map (·.2)).filter<|λbk=>!bk.del).map zK) (jS<|Du l c []<|((Vc bt lo<|i.map (·.2)).filter<|λbk=>!bk.del).map zK)/\s.D w'/\Z s.F a w')\/∃bm iu A,EA s a w' s.F bk (λcw=>dA #[I bm iu A,cw]):=by
 obtain⟨eu,hS⟩:∃eu,(Vc bt lo<|i.map (·.2)).filter (λbk=>!bk.del)=eu:=⟨_,rfl⟩;rw[hS];obtain⟨bl,hP⟩:∃bl,Du l c [] (eu.map zK)=bl:=⟨_,rfl⟩;rw[hP];have cd:=X hS;have fe:=X hP;have cT:y i<=1000000000:=by(have ad:y (po p0 p1 p2 p3)+1=y i:=by have:=bS y br;simp[yx]at this;omega);have:=hy.small;rw[<-ad];simp[po,mq]at this|-;omega
 obtain⟨i0,hx,hJ,hL,hM⟩:=dl NM;have L:Z aw a (dd (dd (dd (dd (dd a<|ay #[am l] 9)<|ay #[aq c] 3)<|ay #[az] 90)<|ay #[.nilIface] 41)<|ay #[az] 90):=((((cO aw a).alloc _).alloc _).alloc _).alloc _;have bu:z (G<|dd (dd (dd (dd (dd a<|ay #[am l] 9)<|ay #[aq c] 3)<|ay #[az] 90)<|ay #[.nilIface] 41)<|ay #[az] 90)=z (G a)+5:=by simp
 have eo:eX (dd (dd (dd (dd (dd a<|ay #[am l] 9)<|ay #[aq c] 3)<|ay #[az] 90)<|ay #[.nilIface] 41)<|ay #[az] 90) (z<|G a) (am l) 9:=eX.alloc (eX.alloc (eX.alloc (eX.alloc (aK _ rfl) _) _) _) _;have eq:eX (dd (dd (dd (dd (dd a<|ay #[am l] 9)<|ay #[aq c] 3)<|ay #[az] 90)<|ay #[.nilIface] 41)<|ay #[az] 90) (z (G a)+1) (aq c) 3:=eX.alloc (eX.alloc (eX.alloc (aK _<|by simp) _) _) _;have F:eX (dd (dd (dd (dd (dd a<|ay #[am l] 9)<|ay #[aq c] 3)<|ay #[az] 90)<|ay #[.nilIface] 41)<|ay #[az] 90) (z (G a)+2) az 90:=eX.alloc (eX.alloc (aK _<|by simp) _) _;have K:eX (dd (dd (dd (dd (dd a<|ay #[am l] 9)<|ay #[aq c] 3)<|ay #[az] 90)<|ay #[.nilIface] 41)<|ay #[az] 90) (z (G a)+3) .nilIface 41:=eX.alloc (aK _<|by simp) _;have er:eX (dd (dd (dd (dd (dd a<|ay #[am l] 9)<|ay #[aq c] 3)<|ay #[az] 90)<|ay #[.nilIface] 41)<|ay #[az] 90) (z (G a)+4) az 90:=aK _ (by simp);obtain⟨W5,hd⟩:∃W5,(dd (dd (dd (dd (dd a<|ay #[am l] 9)<|ay #[aq c] 3)<|ay #[az] 90)<|ay #[.nilIface] 41)<|ay #[az] 90)=W5:=⟨_,rfl⟩;rw[hd]at L bu eo eq F K er;have ed:=FB p0 p1 p2 p3 ((L.block b (ak h) id).trans h) mx mn mc ea<|hy.aj L id<|λ_ _ _ _ A=>A;have dT:y (po p0 p1 p2 p3)+1=y i:=by have:=bS y br;simp[yx]at this;omega
 rw[dT,<-br]at ed;have hz:∀w6 v6,w6.ownsRow (z<|G W5) 169 1 v6 (y i) (i.map (·.1))->Z aw W5 w6->cY bA 227 #[v6,am lo,aG bt] w6 λbk w'=>∃v' b,bk=aN v'/\jp s n0 v' (Vc bt lo<|i.map (·.2)) b w'/\s.D w'/\Z s.F a w'/\(∀k,b k->z (G a)+5<=k)/\Z s.F W5 w':=by intro w6 v6 au N;have e:Z aw a w6:=L.cz N;refine(F9 n0 i lo bt (dR au) (λk o=>⟨(au.lt k o).2,λhr=>by have:=hF k hr;have:=(au.lt k o).1;omega⟩) cT (λes l=>(hU es l).same<|e.same ef cJ cJ) (s.fc hR e cJ) (aB ef e.size) hF).mono ?_;rintro bk w7⟨v7,S7,rfl,co,bc,bx,cl⟩;refine⟨v7,S7,rfl,co,bc,(e.mono (T:=s.F) cJ).trans bx<|λ_ A=>.inl A,λk o=>?_,(N.mono (T:=s.F) cJ).trans bx<|λ_ A=>.inl A⟩;have:=cl k o;have:=N.size;omega
 have fb:=X hz;have ch:=X<|And.intro eo (And.intro eq (And.intro F (And.intro K (And.intro er bu))));obtain⟨fx,HF,cE,HH,HL,jk,HR,HD,iv⟩:=yU hI hF ad h hy br hU hR ea;refine(eD (n:=3)).1 ?_;refine callsIn_of_wp_marks func161 rfl trivial ?_ rfl;simp only[ntmps161,gA,aO,dB,Nat.reduceAdd,Nat.reduceSub,ft,fq,gB,fM,du,cR];gi_wp2_with(refine⟨trivial,?_⟩;gi_at_call 74;refine(eD.2<|ed).mono ?_;rintro bk w6⟨v6,rfl,au,N⟩;obtain⟨x6,c6,hG⟩:=aC au;subst hG;have fd:=X au;have fu:=X N)
 gi_wp2_with(refine⟨trivial,?_⟩;gi_at_call 227;refine(eD.2<|fb _ _ fd fu).mono ?_;rintro bk w7⟨v7,S7,rfl,co,bc,bx,cl,ej⟩;obtain⟨f7,cN,rfl,ho,hB⟩:=co;have eB:=X<|show jp s n0 (.func (.func f7) #[] cN) (Vc bt lo<|i.map (·.2)) S7 w7 from⟨f7,cN,rfl,ho,hB⟩;have ex:=X bc;have fv:=X bx;have fr:=X cl;have aU:=X ej)
 gi_wp2_with(refine⟨trivial,?_⟩;gi_at_call 226;refine(eD.2<|MK eB).mono ?_;rintro bk w8⟨v8,S8,rfl,hw,ao,hb⟩;obtain⟨f8,ba,rfl,hp,Q⟩:=hw;have eA:=X hp;have fl:=X Q;have ew:=X ao;have fs:=X hb)
 gi_wp2_with(refine⟨trivial,?_⟩;gi_at_call 225;refine(eD.2<|Og f8 ba w8).mono ?_;rintro bk w9⟨rfl,kl⟩;subst w9)
 have Q:=J fl;rw[J cd]at Q;have ao:=J ew;have kf:=Q.own.size;have hF:∀k,s.F k->k<z (G a):=λk o=>by have:=HF k o;omega
 have hD:Z s.F a w8:=fv.cz<|Z.aQ (S:=aw) ao;have hV:∀k,S8 k->z (G a)+5<=k:=λk o=>by rcases fs k o with A|A;exact fr k A;have:=aU.size;have:=ch.2.2.2.2.2;omega
 obtain⟨W9,bs⟩:∃W9,dd w8 (ay #[.func (.func f8) #[] ba] 291)=W9:=⟨_,rfl⟩;have an:Z aw w8 W9:=by rw[<-bs];exact(cO aw w8)
 have hk:eX W9 (z<|G w8) (.func (.func f8) #[] ba) 291:=by rw[<-bs];exact aK _ rfl
 have kk:z (G W9)=z (G w8)+1:=by rw[<-bs];simp
 have bg:Z s.F a W9:=hD.cz an;have ek:Z s.F W5 W9:=(aU.cz<|Z.aQ (S:=aw) ao).cz an;have ec:Cu s n0 f8 ba eu S8 W9:=Q.same<|an.same Q.own.size (λk o=>⟨(Q.own.each k o).2,λA=>A⟩) cJ;have gi:s.D W9:=s.fc (s.fc ex (Z.aQ (S:=aw) ao) cJ) an cJ;have il:z (G a)+5<=z (G w8):=by have:=aU.size;have:=ch.2.2.2.2.2;have:=ao.size;omega
 have gg:PA s a l c 0 [] (λk=>k=z (G a)\/k=z (G a)+1\/k=z (G a)+2\/k=z (G a)+3\/k=z (G a)+4) W9:=by obtain⟨f,g,j,x3,e,bu⟩:=J ch;have o:∀{b:M}{cw:ab}{t:TypeId},eX W5 b cw t->z (G a)<=b->eX W9 b cw t:=λhg cp=>(ek.block _ (ak hg)<|by grind).trans hg;refine⟨?_,⟨az,o e (by omega),cK _ _ _ _,λk=>by simp[cI];omega⟩,?_,by omega,bg⟩;(grind);grind
 rw[bs];have hP:=J fe;refine uP (arg:=Lt) (m:=3) (V:=s) (n0:=n0) (gf:=250) (lb:=#[aD<|z<|G w8]) (pp:=S4 s eu) (ff:=G4 eu) (S:=λk=>S8 k\/k=z (G w8)) (by grind) ?geval (enters_of func250 (by kernel_rfl) rfl) (by grind) (Js 2 ba hk eA ec (by omega) (λA=>by have:=(Q.own.each _ A).2;omega)) gi (by omega) ?slt (λl' av w=>∃d,l'=d.map Sum.inl/\PA s a l c (y d) (d.map zK) av w/\(∀rest,eu=d++rest->bl=Du l c (d.map zK) (rest.map zK))) (λA _ av w=>(A=.exit 0/\PA s a l c (y bl) bl av w/\s.D w)\/(A=.ret/\PZ s a av w)) (λk=>k=z (G a)\/k=z (G a)+1\/k=z (G a)+2\/k=z (G a)+3\/k=z (G a)+4) ⟨[],rfl,gg,(by grind)⟩ ?sb ?lt ?st ?xst ?body ?done ?stop;case geval=>rfl
 (case slt=>rintro k(A|A);have:=(ec.own.each k A).2;exact this;omega);(case sb=>grind);(case lt=>rintro _ av w⟨d,rfl,h,_⟩k o;have:=h.lt k o;grind);(case st=>rintro _ av w W' ev⟨d,rfl,h,e⟩ht hT;refine⟨d,rfl,h.stays ht<|λk o=>⟨(hT k o).1,?_⟩,e⟩;have:=bg.size;grind);(case xst=>rintro A d av w W' ev h ht hT;have:=bg.size;have e:∀k,ev k->¬av k/\z (G a)<=k:=(by grind);have ap:∀k,ev k->¬s.F k:=(by grind);rcases h with⟨h1,h2,h3⟩|⟨h1,h2⟩;exact .inl ⟨h1,h2.stays ht (by grind),s.fc h3 ht ap⟩;exact .inr ⟨h1,h2.stays ht hT e ap⟩)
 case body=>
  rintro lr _ bm av w dT ge⟨hY,LL,ha⟩cb⟨d,rfl,hC,hcut⟩P;cases bm with
  |inr q=>
   obtain⟨hX,hq⟩:s.Xp/\AS w q:=by
    rcases cb with⟨V,h,_⟩|⟨V,q',h,hX,hq⟩
    .have:Sum.inr q∈V.map (Sum.inl (β:=M)):=by rw[<-h];simp
     simp at this
    simp_all
   obtain⟨HC,ax,HQ,B⟩:=gw hC P hq ha;unfold Lt xg;simp only;gi_wp2;refine⟨(cO _ _),λj C=>?_⟩;have v:Z aw w (dd w<|ay #[am ⟨#[]⟩,am ⟨#[]⟩,aM bw,aG 0] 171):=cO _ _;have D:PA s a l c (y d) (d.map zK) av j:=(HC.stays v cJ).stays C (λk o=>by grind);have bE:AS j q:=by
    obtain⟨bi,h,cr⟩:=J HQ;have h1:=(v.block q (ak h) id).trans h;refine⟨bi,(C.block q (ak h1)<|λA=>?_).trans h1,cr⟩;rw[A,J B]at h;cases h
   have bb:s.D j:=s.fc (s.fc ax v cJ) C (by grind);obtain⟨cw,hv,x,T⟩:=D.row;have F:=D.fix (z (G a)+2,az,90) (by simp);have K:=D.fix (z (G a)+3,.nilIface,41) (by simp);have cn:aW j (R (z (G a)+1+1+1+1) 0)=H cw:=hv.cell;have hl:aW j (R (z (G a)+1+1) 0)=H az:=F.cell;have hs:j.frozen? (R (z (G a)+1+1) 0)=bw:=F.free;have hm:aW j (R (z (G a)+1+1+1) 0)=H .nilIface:=K.cell;have hu:j.frozen? (R (z (G a)+1+1+1) 0)=bw:=K.free;obtain⟨t,r,bh⟩:=aC x;have b2:av (z (G a)+2):=(T _).2 (by simp);have b3:av (z (G a)+3):=(T _).2 (by simp);have ac:Z (λk=>k=z (G a)+2\/k=z (G a)+3) j (cH (cH j (R (z (G a)+2) 0)<|I t (y d) r) (R (z (G a)+3) 0)<|fj q):=((Z.refl (λk=>k=z (G a)+2\/k=z (G a)+3) j).setCell _ 0 _<|.inl<|.inl rfl).setCell _ 0 _<|.inl<|.inr rfl;have bv:AS (cH (cH j (R (z (G a)+2) 0)<|I t (y d) r) (R (z (G a)+3) 0)<|fj q) q:=bE.aj ac (by
    grind)
   have bd:=s.fc bb ac (by rintro k(rfl|rfl)hr<;>have:=hF _ hr<;>omega);have cp:∀k,(k=z (G a)+2\/k=z (G a)+3)->z (G a)<=k:=by rintro k(A|A)<;>omega
   have bp:Z s.F a (cH (cH j (R (z (G a)+2) 0)<|I t (y d) r) (R (z (G a)+3) 0)<|fj q):=D.aj.trans ac (by simp);have ca:z (G w)+1<=z (G j):=by have:=C.size;simp_all
   have bo:Z (λk=>av k\/k=lr) w (cH (cH j (R (z (G a)+2) 0)<|I t (y d) r) (R (z (G a)+3) 0)<|fj q):=((v.mono (T:=λk=>av k\/k=lr) cJ).trans C<|by simp).trans ac (by
    grind)
   have bf:(cH (cH j (R (z (G a)+2) 0)<|I t (y d) r) (R (z (G a)+3) 0)<|fj q).heap[lr]?=j.heap[lr]?:=ac.block lr (by omega) (by
    grind)
   have hZ:PZ s a av (cH (cH j (R (z (G a)+2) 0)<|I t (y d) r) (R (z (G a)+3) 0)<|fj q):=⟨t,y d,r,q,hX,bv,(F.set _).other _ (by omega),(K.other _<|by omega).set _,bd,bp,b2,b3⟩;obtain⟨HZ,aF,al⟩:=dF hZ bo bf;subst bh;gi_wp2;exact⟨av,.inr ⟨rfl,HZ⟩,aF,al,λk o=>.inl o⟩
  |inl bm=>
  obtain⟨rest,p⟩:∃rest,(d++[bm])++rest=eu:=by
   rcases cb with⟨V,h,v,ih⟩|⟨V,q',h,hX,hq⟩
   .refine⟨v,?_⟩;have:(d++[bm]).map Sum.inl=V.map (Sum.inl (β:=M)):=by simpa using h
    rw[tQ<|λ_ _=>Sum.inl.inj]at this;rw[this,ih]
   simp_all
  have dm:=hcut (bm::rest) (by rw[<-p];simp);have ad:y d+1<=1000000000:=by
   have h1:=bS y p;have h2:=bS y cd;have h3:=eW (λbk=>!bk.del)<|Vc bt lo<|i.map (·.2);have v:=J cE;grind
  have cv:bm.key.size<=281474976710656/\bm.val.size<=281474976710656:=fx bm (by
   have:bm∈(Vc bt lo<|i.map (·.2)).filter (λbk=>!bk.del):=by rw[J cd,<-p];simp
   grind)
  have hA:d.map zK++[zK bm]=(d++[bm]).map zK:=by simp
  obtain⟨HC,ax,cB,hQ,fn⟩:=iY hC P dm hcut p;clear hC P dm hcut p;obtain⟨e,g,n,f⟩:=bm;unfold Lt E.value;simp only at cv;simp only;gi_wp2;refine⟨(cO _ _),λj C=>?_⟩;have D:PA s a l c (y d) (d.map zK) av j:=(HC.stays ((Z.refl aw w).alloc<|ay #[am e,am g,aM n,aG f] 171) cJ).stays C (λk o=>by grind);have ck:jb j (z<|G w) ⟨e,g,n,f⟩:=jb.aj (aK _ rfl) C (by omega);obtain⟨cw,hv,x,T⟩:=D.row;have jD:aW j (R (z<|G a) 0)=H (am l):=(D.fix (z<|G a,am l,9)<|by simp).cell;have jE:aW j (R (z (G a)+1) 0)=H (aq c):=(D.fix (z (G a)+1,aq c,3)<|by simp).cell;have cn:aW j (R (z (G a)+4) 0)=H cw:=hv.cell;obtain⟨t,r,bh⟩:=aC x;obtain⟨dr,ds,jK,ka⟩:=ck.cells;obtain⟨cx,HV,aV,bq,cM,ey⟩:=lw D hv x T C ck;have eg:z (G w)+1<=z (G j):=by have:=C.size;simp_all
  clear D ck hv x T C;subst bh;have it:=eg;have cs:Z (λk=>av k\/k=lr) w j:=((Z.refl (λk=>av k\/k=lr) w).alloc<|ay #[am e,am g,aM n,aG f] 171).trans cM (by simp);have ap:∀k,z (G a)<=k->¬s.F k:=(by grind);have bb:s.D j:=s.fc (s.fc ax (cO aw w) cJ) cM (λk o=>by grind);by_cases u:(!(l.toList==[])&&!jj e l)=cf
  .have aa:bl=d.map zK:=by
    rw[J cB,bR,Du];exact di u
   have dc:(l.toList==[])=bw:=by cases h1:(l.toList==[])<;>simp[h1]at u|-
   have cm:jj e l=bw:=by cases h2:jj e l<;>simp[h2]at u|-
   unfold jj at cm;obtain⟨ce,cc,bn⟩:=dF cs bb aa;clear cs bb aa u;gi_wp2;refine⟨av,.inl ⟨rfl,?_,cc⟩,ce,rfl,λk o=>.inl o⟩;rw[J bn,bU];exact cx
  .have cq:(l.toList==[])=cf\/((l.toList==[])=bw/\jj e l=cf):=by
    cases h1:(l.toList==[])<;>cases h2:jj e l<;>simp[h1,h2]at u|-
   have dn:bl=if((y d:U)+1==c)=cf then d.map zK++[zK ⟨e,g,n,f⟩]else Du l c (d.map zK++[zK ⟨e,g,n,f⟩]) (rest.map zK):=by
    rw[J cB,bR,Du,bU];exact dt u
   have bE:=X dn;have al:=ak ey;have ca:=ak HV;have bd:aW j.drew (R (z (G a)+1+1+1+1) 0)=H (I t (y d) r)/\aW j.drew (R (z<|G w) 0)=H (am e)/\aW j.drew (R (z<|G w) 1)=H (am g):=⟨cn,dr,ds⟩;have bp:=X (show∀B,Z aw j B->aW B (R (z (G a)+1+1+1+1) 0)=H (I t (y d) r)/\aW B (R (z<|G w) 0)=H (am e)/\aW B (R (z<|G w) 1)=H (am g)fromλB hX=>⟨hX.cell bd.1 id ca,hX.cell bd.2.1 id al,hX.cell bd.2.2 id al⟩);have hn:=λw=>tI e w cv.1;have dk:=λw=>tI g w cv.2;have hj:z (G a)+5<=z (G j):=by omega
   have ce:=X cs;have cc:=X bb;rcases cq with dc|⟨dc,cm⟩;case' inl=>gi_wp2_with fail
   case' inr=>unfold jj at cm;gi_wp2_with fail
   all_goals
    rename_i QQ KK gE;refine uO (λB=>aW B (R (z (G a)+1+1+1+1) 0)=H (I t (y d) r)/\aW B (R (z<|G w) 0)=H (am e)/\aW B (R (z<|G w) 1)=H (am g)) 10 (by kernel_rfl) (by kernel_rfl) (λks a h=>h) ?_;refine fw 0 ?_;iterate 3 (refine iS (v:=?_) bd rfl (by kernel_rfl) lQ rfl ?_ ?_;rotate_left;(focus(rintro B⟨z0,z1,z2⟩;go_simp;try rfl));simp only[Act.put,ig,Nat.reduceAdd])
    apply iG;refine fw 4 ?_;iterate 2 (refine iS (v:=?_) bd rfl (by kernel_rfl) lQ rfl ?_ ?_;rotate_left;(focus(rintro B⟨z0,z1,z2⟩;go_simp;try rfl));simp only[Act.put,ig,Nat.reduceAdd])
    apply iG;refine bG (i:=3) rfl rfl (by kernel_rfl) ?_;intro K3 gn;go_simp;apply(hn _).mono;rintro bk w4⟨rfl,hh⟩;have ei:Z aw j w4:=(dh aw j).cz<|Z.aQ (S:=aw) hh;refine gn _ _ (λ_=>bp w4 ei) ?_;refine bG (i:=6) rfl rfl (by kernel_rfl) ?_;intro K6 gr;go_simp;apply(dk _).mono;rintro bk w5⟨rfl,hi⟩;have L:Z aw j w5:=ei.cz<|Z.aQ (S:=aw) hi;refine gr _ _ (λ_=>bp w5 L) ?_;refine bG (i:=7) rfl rfl (by kernel_rfl) ?_;intro K7 gs;go_simp;refine gs _ _ (λ_=>bp w5 L) ?_;refine bG (i:=8) rfl rfl (by kernel_rfl) ?_;intro K8 gt;go_simp;have N:=L.alloc<|ay #[am e,am g] 95;refine gt _ _ (λ_=>bp _ N) ?_;have bu:=L.size;refine bG (i:=9) rfl rfl (by kernel_rfl) ?_;intro K9 gx;simp only[da,cD,cG];refine kE (.tmp 36) (.tmp 44) 90 rfl (z (G a)+5) 95 i0 (dL #[am ⟨#[]⟩,am ⟨#[]⟩]) 2 32 underlying90 hx hJ hL hM rfl (by decide) (I t (y d) r) (y d) (jS<|d.map zK) rfl (N.own aV<|λ_ _ A=>A) (R (z<|G w5) 0) 1 1 (tj<|zK ⟨e,g,n,f⟩) rfl rfl (E8 _ (zK ⟨e,g,n,f⟩) _) (T9 _) (by omega) (by omega) (by simp;omega) ?_;intro v3 w3 eb en;obtain⟨x3,c3,hE⟩:=aC eb;subst hE;have bv:Z (λk=>cI (I t (y d) r)=H k) j w3:=(N.mono (T:=λk=>cI (I t (y d) r)=H k) cJ).trans (Z.ep (S:=λk=>cI (I t (y d) r)=H k) en.grown<|λk o=>.inl o)<|λk o=>.inl o;have df:eX w3 (z (G a)+4) (I t (y d) r) 90:=(bv.block _ ca (λA=>by have:=(aV.lt _ A).1;omega)).trans HV;have dv:¬cI (I t (y d) r)=H (z<|G w):=λA=>by have:=(HC.lt _<|(bq _).2<|.inr<|.inr A).2;omega
    have db:aW w3 (R (z (G a)+1+1+1+1) 0)=H (I t (y d) r)/\aW w3 (R (z<|G w) 0)=H (am e)/\aW w3 (R (z<|G w) 1)=H (am g):=⟨df.cell,bv.cell dr dv al,bv.cell ds dv al⟩;refine gx _ _ (λ_=>db) ?_;simp only[Act.put,ig];refine bG (i:=10) rfl rfl (by kernel_rfl) ?_;intro jA cS;have jI:=db.1;have kb:w3.frozen? (R (z (G a)+1+1+1+1) 0)=bw:=df.free;go_simp;refine cS _ _ IY ?_;refine fm (by kernel_rfl) ?_ _;show KK _ _;apply gE;have hf:cI (I x3 (y d+1) c3)=cI (I t (y d) r)\/∃hO,cI (I x3 (y d+1) c3)=H hO/\z (G j)<=hO:=by
     rcases en.vQ with jC|⟨hO,jC,kc⟩
     .exact .inl jC
     .exact .inr ⟨hO,jC,by simp at kc;omega⟩
    obtain⟨B',q1,q2,q3⟩:=cx.more HV bq aV bv hf eb;have aF:Hid (PA s a l c (y d+1) (d.map zK++[zK ⟨e,g,n,f⟩]) B'<|cH w3 (R (z (G a)+1+1+1+1) 0)<|I x3 (y d+1) c3):=X (by unfold PA;rw[WM];exact q1);have bo:Hid (Z av j<|cH w3 (R (z (G a)+1+1+1+1) 0)<|I x3 (y d+1) c3):=X q2;have fk:=X q3;obtain⟨W7,he⟩:∃W7,cH w3 (R (z (G a)+1+1+1+1) 0) (I x3 (y d+1) c3)=W7:=⟨_,rfl⟩;rw[he]at aF bo|-;obtain⟨v7,hH,el,ip⟩:=aF.row;obtain⟨x7,c7,em⟩:=aC el;subst em;have jG:aW W7 (R (z (G a)+1+1+1+1) 0)=H (I x7 (y d+1) c7):=hH.cell;have jH:aW W7 (R (z (G a)+1) 0)=H (aq c):=(aF.fix (z (G a)+1,aq c,3)<|by simp).cell;have bc:s.D W7:=s.fc cc bo<|λk o=>ap k (HC.lt k o).1;have hc:Z (λk=>av k\/k=lr) w W7:=ce.trans bo (by grind);have bf:W7.heap[lr]?=j.heap[lr]?:=bo.block lr (by omega) ge;have gc:∀k,B' k->av k\/z (G w)<=k:=λk o=>(fk k o).imp_right (λA=>by omega);have v:=X<|And.intro bc (And.intro hc (And.intro bf gc));by_cases hW:(y d:U)+1=c
    .have dx:((y d:U)+1==c)=cf:=by grind
     have aa:bl=d.map zK++[zK ⟨e,g,n,f⟩]:=by rw[J bE];grind
     have bn:=X aa;gi_wp2;refine⟨B',.inl ⟨rfl,?_,v.1⟩,v.2.1,v.2.2.1,v.2.2.2⟩;rw[J bn,af,bU];exact aF
    .have dx:¬((y d:U)+1==c)=cf:=by grind
     have aa:bl=Du l c (d.map zK++[zK ⟨e,g,n,f⟩]) (rest.map zK):=by rw[J bE];grind
     have bn:=X aa;have kd:((y d:U)+1==c)=bw:=by grind
     clear aa dx;gi_wp2;refine⟨v.1,B',⟨d++[⟨e,g,n,f⟩],by simp,?_,λhN ih=>?_⟩,v.2.1,v.2.2.1,v.2.2.2⟩
     .rw[af,<-hA];exact aF
     grind[J,append_cancel_left]
 (case' stop=>rintro et A d av w gj(⟨rfl,hC,P⟩|⟨rfl,hZ⟩)cj hK;rotate_left;(.obtain⟨bm,iu,A,q,hX,hq,h2,h3,P,e,b2,b3⟩:=hZ;have O:=iw w et<|.deferred none;have ap:∀k,z (G a)<=k->¬s.F k:=(by grind);(have cp:z (G a)<=et:=by have:=bg.size;omega);gi_wp2;refine⟨by simp,.inl ⟨_,_,rfl,run_takeDeferred hK,?_⟩⟩;refine⟨_,wV rfl underlying90 _ _ (z (G a)+2) (z (G a)+3) (I bm iu A) (fj q) rfl rfl ?_ ?_,?_⟩;exact(eX.cell<|(O.block _ (ak h2)<|λA=>cj<|A▸b2).trans h2);exact(eX.cell<|(O.block _ (ak h3)<|λA=>cj<|A▸b3).trans h3);refine .inr ⟨bm,iu,A,hX,q,rfl,?_,s.fc P O (by grind),e.trans O<|by grind⟩;obtain⟨bi,hq,cr⟩:=hq;exact⟨bi,(O.block _ (ak hq)<|by grind).trans hq,cr⟩);obtain⟨cw,hv,x,T⟩:=hC.row);(case' done=>rintro l' et av w f gj⟨d,rfl,hC,hcut⟩cj P hK;(obtain rfl:eu=d:=by rcases f with h|⟨g,q,h⟩;(grind[List.map_inj_right,Sum.inl.inj]);(have:Sum.inr q∈d.map (Sum.inl (β:=M)):=by rw[h];simp);simp at this);(have e:bl=eu.map zK:=by rw[hcut []<|by simp];rfl);(have hC:PA s a l c (y bl) bl av w:=by rw[e,bU];exact hC);clear e hcut;obtain⟨cw,hv,x,T⟩:=hC.row);(all_goals have cn:aW w (R (z (G a)+1+1+1+1) 0)=H cw:=hv.cell;have F:=hC.fix (z (G a)+2,az,90) (by simp);have K:=hC.fix (z (G a)+3,.nilIface,41) (by simp);have hl:aW w (R (z (G a)+1+1) 0)=H az:=F.cell;have hs:w.frozen? (R (z (G a)+1+1) 0)=bw:=F.free;have hm:aW w (R (z (G a)+1+1+1) 0)=H .nilIface:=K.cell;have hu:w.frozen? (R (z (G a)+1+1+1) 0)=bw:=K.free;obtain⟨t,r,bh⟩:=aC x;obtain⟨fz,fL,HC,HV,aV,bq,ax,HK⟩:=Gw F K hC hv x T P hK;subst bh;gi_wp2;have ko:=J bq;have hC:=J HC;have n1:et≠z (G a)+2:=(by omega);have n2:et≠z (G a)+3:=(by omega);have n3:¬cI (I t (y bl) r)=H et:=(by grind);(have gk:(cH (cH w (R (z (G a)+2) 0)<|I t (y bl) r) (R (z (G a)+3) 0) .nilIface).heap[et]?=H (.deferred<|H []):=by rw[km _ n2,km _ n1];exact HK);have bL:eX (cH (cH w (R (z (G a)+2) 0)<|I t (y bl) r) (R (z (G a)+3) 0) .nilIface) (z (G a)+2) (I t (y bl) r) 90:=(fz.set _).other _ (by omega);have bT:eX (cH (cH w (R (z (G a)+2) 0)<|I t (y bl) r) (R (z (G a)+3) 0) .nilIface) (z (G a)+3) .nilIface 41:=(fL.other _<|by omega).set _;have O:=iw (cH (cH w (R (z (G a)+2) 0)<|I t (y bl) r) (R (z (G a)+3) 0) .nilIface) et<|.deferred none;have ac:Z (λk=>k=z (G a)+2\/k=z (G a)+3) w (cH (cH w (R (z (G a)+2) 0)<|I t (y bl) r) (R (z (G a)+3) 0) .nilIface):=((Z.refl (λk=>k=z (G a)+2\/k=z (G a)+3) w).setCell _ 0 _<|.inl<|.inl rfl).setCell _ 0 _<|.inl<|.inr rfl;have cu:=(ac.mono (T:=λk=>k=z (G a)+2\/k=z (G a)+3\/k=et)<|by simp).trans O (by simp);have ap:∀k,z (G a)<=k->¬s.F k:=(by grind);(have cp:∀k,(k=z (G a)+2\/k=z (G a)+3\/k=et)->z (G a)<=k:=by have:=bg.size;rintro k(A|A|A)<;>omega);refine⟨by simp,.inl ⟨_,_,rfl,run_takeDeferred gk,?_⟩⟩;refine⟨_,wV rfl underlying90 _ _ (z (G a)+2) (z (G a)+3) (I t (y bl) r) .nilIface rfl rfl ?_ ?_,?_⟩;exact(eX.cell<|(O.block _ (ak bL)<|λA=>n1 A.symm).trans bL);exact(eX.cell<|(O.block _ (ak bT)<|λA=>n2 A.symm).trans bT);refine .inl ⟨_,rfl,?_,s.fc ax cu (by grind),hC.aj.trans cu<|by grind⟩;have x:=J aV;have kn:=cu.own x (λk o A=>by have:=(x.lt k o).1;grind);obtain⟨h1,⟨h2,h0⟩|⟨hO,jB,gb,h2,hg,p⟩⟩:=kn;exact⟨h1,.inl ⟨h2,h0⟩⟩;exact⟨h1,.inr ⟨hO,jB,gb,h2,by omega,p⟩⟩)
end
