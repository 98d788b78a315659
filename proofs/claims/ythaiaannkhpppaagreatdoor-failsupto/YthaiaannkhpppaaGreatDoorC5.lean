import Derived.Carry
import Derived.Laws.OwnMore
import Derived.Test.YthaiaannkhpppaaGreatDoorC3
open _root_ renaming List.length→y,Option.some→H,Array.size→z,Go.World.heap→G,Go.Value.ownBlock→cK,Go.World.cell?→aW,Go.World.setCell→cq,Go.World.alloc→cN,Bool.false→aX,Bool.true→ci,Nat→M,Int→X,List→cJ,Go.Calls→cY,Go.undef→iH,Go.Proofs.Tryz.prog→aZ,Go.Value.slice→I,Go.Value.string→am,Go.Value.bool→aN,Go.Value.pointer→cX,Go.Value.tuple→dq
namespace Go.Proofs.YthaiaannkhpppaaGreatDoor
open ChangeShapes WideShapes RowKit Proofs.Tryz List
set_option maxHeartbeats 16000000
set_option linter.all false
set_option maxRecDepth 100000
variable{a f A:Y}{b c g m D:M}{d s:ab}{e:cR}{i x:DK}{l:dS}{n:eR}{p:eV}{r:iV}{t:ae}{B:gW}{C:mq}{V:Array ab}
def UJ{m:fK}(h:fK.get m t=H d):fK.put m t d=m:=by
 induction m with
 |nil=>cases h
 |cons p r a=>
  by_cases e:p.1=t
  .simp[fK.get,e]at h;simp[fK.put,e,<-h];rw[<-e]
  .simp[fK.get,e]at h;simp[fK.put,e,a h]
def cG.J5{K:DK}{F F':da}(l:cG a b K)(A:ld K.files F'.name=H F)(v:F'.pa=F.pa)(p:Z (λk=>k=F.pa\/cK F.data=H k) a f)(hF:wL f F')(B:∀k,cK F'.data=H k->cK F.data=H k\/z (G a)<=k)(E:(fB (nN K.files F'):X)<=K.fx.room):pJ a f b K {K with files:=nN K.files F'}:=by
 obtain⟨_,c,r⟩:=je A;have g:=l.files F c;have q:∀{k w:M}{u:Array ab}{s:M×M},a.heap[k]?=H (aw u w s)->w≠105->w≠5->¬(k=F.pa\/cK F.data=H k):=by rintro k w u s D C L(e|e);exact kw D g.1 C e;obtain⟨h,n⟩:=fE g.2.1 e;grind
 have d:∀{w:M}{C:fK},gM a w C->¬(w=F.pa\/cK F.data=H w):=by rintro w C u(e|e);exact u.tag g.1 e.symm;obtain⟨h,n⟩:=fE g.2.1 e;exact u.tag n rfl
 have j:∀t∈mH K.files F'.name,t∈K.files:=λt i=>(rQ _ _).subset i;have m:=Fq l.apart A;refine⟨⟨?_,?_,l.safe.aj p<|d l.safe,l.ne,?_,?_,?_,?_,l.wS,E,l.kK⟩,?_,?_,Fx.refl _⟩;exact(p.block b (ak l.ie)<|q l.ie (by decide)<|by decide).trans l.ie;show gM f K.nb ((nN K.files F').map da.nm);rw[Lj,v,UJ r];exact l.now.aj p<|d l.now;refine p.own l.steps<|λk e=>?_;obtain⟨h,n⟩:=fE l.steps e;grind
 intro x o;refine(l.each x o).aj p<|λk e=>?_;obtain⟨h,s,n⟩:=(l.each x o).2.2 k e;grind
 intro x o;rcases AL o with rfl|o;exact hF;have u:=l.files x<|j x o;refine u.aj p ?_ ?_;rintro(e|e);exact(m x o).1 e.symm;obtain⟨h,n⟩:=fE g.2.1 e;exact kw u.1 n (by decide) rfl;intro k w;rintro(e|e);obtain⟨h,n⟩:=fE u.2.1 w;exact kw n g.1 (by decide) e;exact(m x o).2 k e w;refine Ep (l.apart.sublist<|rQ _ _)<|λt i=>⟨by rw[v];exact(m t i).1,λk e u=>?_⟩;rcases B k e with w|w;exact(m t i).2 k w u;have:=(bM (l.files t<|j t i).2.1 k u).2;omega
 .exact p.mono (by
   rintro x(rfl|e)
   .exact .inl<|.inr<|.inr<|.inr<|.inr<|.inr ⟨F,c,.inl rfl⟩
   .exact .inl (.inr (.inr (.inr (.inr (.inr ⟨F,c,.inr e⟩))))))
 rintro k(e|e|e|e|e|⟨w,u,e⟩);exact .inl<|.inl e;exact .inl<|.inr<|.inl e;exact .inl<|.inr<|.inr<|.inl e;exact .inl<|.inr<|.inr<|.inr<|.inl e;exact .inl<|.inr<|.inr<|.inr<|.inr<|.inl e;rcases AL u with rfl|u;rcases e with e|e;exact .inl<|.inr<|.inr<|.inr<|.inr<|.inr ⟨F,c,.inl<|v.symm.trans e⟩;rcases B k e with e|e;exact .inl<|.inr<|.inr<|.inr<|.inr<|.inr ⟨F,c,.inr e⟩;exact .inr e;exact .inl<|.inr<|.inr<|.inr<|.inr<|.inr ⟨w,j w u,e⟩
def fc.shape(h:fc a b d n):∃x c,d=I x (y n) c:=aB h
def cG.F6{K:DK}{F:da}(h:cG a b K)(e:ld K.files t=H F):pJ a (cq a (R F.pa 1)<|ar<|y F.bytes) b K {K with files:=nN K.files {F with safe:=y F.bytes}}:=by
 obtain⟨d,c,g⟩:=je e;have hF:=h.files F c;have f:cK F.data≠H F.pa:=zM hF.2.1 hF.1 (by decide);refine h.J5 (F:=F) (F':={F with safe:=y F.bytes}) (by rw[show({F with safe:=y F.bytes}:da).name=F.name from rfl,d];exact e) rfl ((Z.refl _ a).setCell F.pa 1 _<|.inl<|.inl rfl) ⟨?_,?_,hF.2.2⟩ (λm k=>.inl k) ?_;show(cq a (R F.pa 1)<|ar<|y F.bytes).heap[F.pa]?=_;rw[aH hF.1];rfl;exact World.ownsRow.kept hF.2.1 (dN a F.pa 1 _)<|.inr f;have i:=BB K.files {F with safe:=y F.bytes};have j:=pm e;rw[<-d]at j;have l:=h.room;simp only at i;omega
def PM(c:ae){F:da}(h:cG a b i)(o:ld i.files c=H F)(B:y F.bytes<=140737488351232)(l:Nm c):cY aZ 81 #[aA b,am c] a λA w=>xz a w b i [.sy c] A:=by
 have k:=yY c h l;have m:=U o;clear h;go_in
 go_wp2_with fail
 apply k.mono;rintro A x⟨D,e,s,⟨f,d,rfl⟩|⟨d,_⟩|⟨n,q,rfl,p⟩⟩;(·(have hF:f=F:=by rw[J m]at d;cases d;rfl);subst hF;have hF:=e.ok.files f (je d).2.1;have j:=cellAt hF.1 0 rfl;have u:=cellAt hF.1 1 rfl;have v:x.frozen? (R f.pa 1)=aX:=cP hF.1;obtain⟨E,C,r⟩:=fc.shape hF.2.1;rw[r]at j;have t:=U<|e.ok.F6 d;have g:=U e;clear e s k d hF r;go_wp2;go_ret;exact⟨_,_,rfl,(J g).trans t,.inl ⟨rfl,mi.pre ⟨rfl,rfl,rfl⟩<|mi.one ⟨f,m,rfl,rfl,rfl⟩⟩⟩);rw[o]at d;cases d;obtain⟨g,j,HB⟩:=dz e p n;clear e s p n k;go_wp2;go_ret;exact⟨_,_,rfl,zg.bad g ⟨rfl,rfl,rfl⟩ (J j)<|.inl ⟨rfl,J HB⟩⟩
def I3(w b:Y)(c:M)(K:DK)(a:ae)(e:Ending):Prop:=∃f,pJ w b c K {K with fx:=f}/\((∃F,ld K.files a=H F/\e=aM (dq #[ar<|y F.bytes,.nilIface]))\/(ld K.files a=none/\∃q,e=aM (dq #[ar 0,eD q])/\lP b q 10)\/(0<K.fx.bd/\∃q,e=aM (dq #[ar 0,eD q])/\lP b q 8))
def PN(c:ae)(h:cG a b i)(n:Nm c):cY aZ 89 #[aA b,am c] a λw v=>I3 a v b i c w:=by
 have j:=yY c h n;have o:=h.room;have x:=h.kK;clear h;go_in
 go_wp2_with fail
 apply j.mono;rintro w A⟨t,e,p,⟨F,d,rfl⟩|⟨d,q,rfl,g⟩|⟨r,q,rfl,g⟩⟩;(.have hF:=e.ok.files F (je d).2.1;have m:=cellAt hF.1 0 rfl;obtain⟨C,B,s⟩:=fc.shape hF.2.1;rw[s]at m;(have u:y F.bytes<=140737488351232:=by have:=pm d;omega);have f:=U e;have k:=U d;clear e p j d hF s o;go_wp2;(go_ret2);exact⟨t,f,.inl ⟨F,k,rfl⟩⟩);(.obtain⟨f,l,k⟩:=dz e g d;clear e p g d j;go_wp2;(go_ret2);exact⟨t,f,.inr<|.inl ⟨k,q,rfl,l⟩⟩);obtain⟨f,l,HB⟩:=dz e g r;clear e p g r j;go_wp2;(go_ret2);exact⟨t,f,.inr<|.inr ⟨HB,q,rfl,l⟩⟩
def pH.left_eq{m left:fK}(l:pH a b c m left):a.rangeLeft b c=y left:=by
 obtain⟨k,d,e,seen,j,g,_,_,h,_,_,_,i⟩:=l;simp only[World.rangeLeft,g,h];have:=bS y i;grind
def EJ{L:cJ da}{pre a:fK}{p:ae×ab}(h:L.map da.nm=pre++p::a):∃A f C,L=A++f::C/\pre=A.map da.nm/\p=f.nm/\a=C.map da.nm:=by
 obtain⟨A,D,rfl,c,b⟩:=iJ.1 h;obtain⟨f,C,rfl,d,e⟩:=nF.1 b;grind
def Ir{db:M}{K:DK}(e:ae){F:da}(bp i V:M)(c:eR){w0:Y}(h0:cG w0 db K)(r:ld K.files e=H F)(bT:K.fx.room<1000000000\/fB K.files+y c<=1000000000)(bs:y c<=1099511627776)(bd:kh c)(W:∀bm av,(c.map<|Value.int .u8)[bm]?=H av->aW w0 (R bp<|i+bm)=H av)(p:bp<z (G w0))(ba:bp≠db)(m:Nm e):cY aZ 117 #[aA db,am e,bD bp i (y c) V] w0 λC w'=>xz w0 w' db K [.ap e c] C:=by
 obtain⟨i0,hi,bi,bk,bl⟩:=di qi;have hf:=yY e h0 m;have bE:=h0.kK;have v:=U r;have D:=U W;clear h0 W;go_in
 go_wp2_with fail
 apply hf.mono;rintro C ax⟨l,yV,n,⟨F',o,rfl⟩|⟨o,_⟩|⟨hb,q,rfl,hq⟩⟩;rotate_left;rw[r]at o;cases o;(.obtain⟨E,b,HB⟩:=dz yV hq hb;clear yV n hq hb hf;go_wp2;go_ret;exact⟨_,_,rfl,zg.bad E ⟨rfl,rfl,rfl⟩ (J b)<|.inl ⟨rfl,J HB⟩⟩);obtain rfl:F=F':=by rw[r]at o;cases o;rfl
 obtain⟨m,an,bq⟩:=je r;subst m;have h:=yV.ok;have bc:l.room=K.fx.room:=yV.fx.room;have br:(fB K.files:X)<=l.room:=h.room;have bx:=pm r;have bt:=cellAt h.ie 0 rfl;obtain⟨E,Q,HB⟩:=dz (λ(wr:Y)(B:Z ay ax wr)=>h.aj B<|λ_ _=>id) h.now<|λ(wr:Y)(B:Z ay ax wr)bm av(hj:(c.map<|Value.int .u8)[bm]?=H av)=>B.cell (n.cell (J D bm av hj) (λC=>ba C) p) id<|ag p n.size;have L:=U yV;clear h yV n hf o D v
 go_wp2_with(first
  |(at_range;refine qZ _ rfl _ 59 rfl 9 102 underlying59 K.nb _ rfl Q ?_;intro w0 s ad bL;have v:=U s;have P:=U ad;clear s ad))
 go_frame
 go_loopw [9] (λav wr=>∃(bo:cJ da)(a:M),(∀l∈bo,l∈K.files)/\av=ar a/\a+fB bo=fB K.files/\pH wr K.nb (z<|G ax) (K.files.map da.nm) (bo.map da.nm)/\Z ay ax wr) (λ_ wr=>wr.rangeLeft K.nb<|z<|G ax)
 case atStart=>exact⟨K.files,0,λ_ h=>h,rfl,by simp,v,Z.ee P<|by simp⟩
 case round=>
  obtain⟨bo,a,hL,rfl,t,al,B⟩:=hrel;obtain⟨O,A,bn,HL⟩:=fY al B t hL;clear al B hL;go_wp2_with(first
   |(at_next;refine pW _ rfl _ rfl K.nb (z (G ax)) _ _ rfl O ?_ ?_))
  .intro bf;obtain rfl:bo=[]:=by simpa using bf
   have bh:a=fB K.files:=by simpa[fB]using t
   have f:=E wr A;have hF:=f.files F an;have bb:=cellAt f.ie 3 rfl;have aa:=cellAt hF.1 0 rfl;simp only at bb;have ew:IntKind.i64.wrap (l.room-(a:X))=l.room-a:=by rw[bN];omega
   by_cases bg:(fB K.files:X)+y c<=l.room
   .have ao:cK F.data≠H F.pa:=zM hF.2.1 hF.1 (by decide);have d:∀j k,k.ownsRow 0 5 1 j (y F.bytes+y c) (F.bytes.map (Value.int .u8)++c.map (Value.int .u8))->eE wr k F.data j->aW k (R F.pa 0)=H F.data/\k.frozen? (R F.pa 0)=aX/\∃a,pJ ax (cq k (R F.pa 0) j) db {K with fx:=l} a/\Gs (.ap F.name c) {K with fx:=l} a:=by
     intro j k au x;have b:k.heap[F.pa]?=H (aw #[F.data,ar F.safe] 105 (0,0)):=(x.grown.block F.pa (ak hF.1)<|λC=>ao C.symm).trans hF.1;have ap:cK j≠H F.pa:=zM au b (by decide);refine⟨by rw[cg b];rfl,cP b,_,(E ax<|Z.refl _ _).J5 (F:=F) (F':={F with data:=j,bytes:=F.bytes++c}) r rfl ?_ ⟨?_,?_,hF.2.2.append bd⟩ ?_ ?_,F,j,r,rfl,rfl,rfl⟩
     .exact((A.mono (T:=λaD=>aD=F.pa\/cK F.data=H aD) cL).trans (Z.ee (S:=λaD=>cK F.data=H aD) x.grown<|λaD C=>.inl C)<|λcb C=>.inl<|.inr C).setCell F.pa 0 j<|.inl<|.inl rfl
     .show(cq k (R F.pa 0) j).heap[F.pa]?=_;rw[aH b];rfl
     .exact fc.of (World.ownsRow.kept au (dN k F.pa 0 j)<|.inr ap) (by simp)<|by simp
     .intro aD C;rcases x.vp with e'|⟨aV,e',bv⟩
      .grind
      .have:aV=aD:=by
        have e2:cK j=H aD:=C;rw[e']at e2;simpa using e2
       exact .inr (by have:=A.size;omega)
     .have o:=BB K.files {F with data:=j,bytes:=F.bytes++c};simp only[af]at o;show((fB (nN K.files {F with data:=j,bytes:=F.bytes++c}):M):X)<=l.room;omega
    have N:=U d;have HO:=U hF.2.1;obtain⟨cb,cc,w⟩:=fc.shape hF.2.1;have ac:¬((l.room-a:X)<y c):=by omega
    clear d f hF ao;generalize F.data=fd at*;subst w;have aF:=U<|HB wr A;go_wp2_with(first
     |(at_builtin;go_loud(refine cA _ rfl (.tmp 54) (.tmp 55) 103 rfl 0 5 i0 (.int .u8 0) 1 1 underlying103 hi bi bk bl rfl (by decide) _ (y F.bytes) (F.bytes.map (Value.int .u8)) rfl HO (R bp i) (y c) V (c.map (Value.int .u8)) rfl (by simp) (λbm av hj=>by rw[dB];exact aF bm av hj) (by intro av hu;simp only[bR]at hu;obtain⟨ca,_,rfl⟩:=hu;rfl) (by omega) (by omega) (bP _) ?_;intro v2 k g u;obtain⟨bu,bc,d⟩:=N v2 k g u;obtain⟨x2,c2,rfl⟩:=aB g;have aU:=U d;clear g u d)))
    go_ret;obtain⟨K2,h2,h3⟩:=J aU;exact⟨_,K2,rfl,(J L).trans h2,.inl ⟨rfl,mi.pre ⟨rfl,rfl,rfl⟩<|mi.one h3⟩⟩
   .have ac:(l.room-a:X)<y c:=by omega
    have b:=U (show K.fx.room<1000000000 by omega);clear f hF bg;go_wp2;go_ret;exact⟨_,_,rfl,zg.bad ((J L).still<|(J A).alloc _) ⟨rfl,rfl,rfl⟩ (lP.new _ _ m)<|.inr ⟨rfl,J b⟩⟩
  .intro pre pk pv ao w1 k b j ac aD;obtain⟨ap,l,au,rfl,rfl,hp,rfl⟩:=EJ k;simp only[da.nm,kM,ib]at hp;obtain⟨rfl,rfl⟩:=hp;have N:l∈K.files:=HL l (by simp);have d:Z ay ax w1:=A.trans (fA j) (by grind);have f:=E w1 d;have hF:=f.files l N;have aa:=cellAt hF.1 0 rfl;obtain⟨cb,cc,w⟩:=fc.shape hF.2.1;rw[w]at aa;have aF:fB (ap++l::au)=fB (ap++au)+y l.bytes:=by simp[fB];omega
   obtain⟨u,g,x⟩:=dz (show(λaV=>aV∈K.files)=(λaV=>aV∈K.files)from rfl) b d;clear k b j ac f hF d u;go_wp2;go_roundw;case rel=>exact⟨ap++au,a+y l.bytes,λaV r=>HL aV (by grind),by go_num,by omega,by simpa using J g,x⟩
   case measure=>rw[(J g).left_eq,(J O).left_eq];simp
def Bytes.cells(k:Bytes a (bD b c (y n) m) n):∀j u,(n.map<|Value.int .u8)[j]?=H u->aW a (R b<|c+j)=H u:=by
 rcases k with⟨h,_⟩|⟨i,e,d,h,_,l⟩;cases h;grind
def Ip{v:ab}{bs:eR}{w:Y}(h:Bytes w v bs)(Q:y bs<=1099511627776)(g:∀q,cK v=H q->q<z (G w)):cY aZ 37 #[v] w λP t=>∃s,P=aM s/\fc t (z<|G w) s bs/\Below (z<|G w) w t:=by
 obtain⟨L,E,m,o,p⟩:=di qi;rcases h.shape with⟨rfl,rfl⟩|⟨A,e,l,rfl,K⟩;(.have D:∀w:Y,(binOp .eql 103 az az).run aZ w=.ok (aN ci) w:=λ_=>rfl;(go_in);go_wp2;go_ret;exact⟨_,rfl,fc.nil _ _,Below.refl _ _⟩)
 .have C:A<z (G w):=g A rfl;have u:=U h.cells;have i:(cN w<|aw #[] 5).ownsRow (z<|G w) 5 1 (bD (z<|G w) 0 0 0) 0 []:=World.ownsRow_lit w #[] 0 (ah _) (by decide) rfl;have x:=U i;have D:∀(w:Y)a n c,(binOp .eql 103 (I (H a) n c) az).run aZ w=.ok (aN aX) w:=λ_ _ _ _=>rfl;clear h g i;go_in
  go_wp2_with(first
   |(at_builtin;refine cA _ rfl (.tmp 5) (.tmp 6) 103 rfl (z (G w)) 5 L (.int .u8 0) 1 1 underlying103 E m o p rfl (by decide) _ 0 [] rfl x (R A e) (y bs) l (bs.map (Value.int .u8)) rfl (by simp) (λS O F=>by rw[dB,fC C];exact u S O F) (by intro O r;simp only[bR]at r;obtain⟨N,_,rfl⟩:=r;rfl) (by omega) (by omega) (by simp) ?_;intro V W b d;have j:=U b;have k:=U d;clear b d))
  go_ret;refine⟨_,rfl,fc.of j (by simp) (by simp),?_⟩;have:=k.below (B:=z<|G w) (by simp) (by rintro q⟨⟩;grind);exact⟨this.os,this.tape,this.output,aC (by simp) this.size,λq b=>(this.block q b).trans<|Below.heap_alloc w _ q b⟩
def cG.Qw{K:DK}(h:cG a b K)(r m:X):pJ a (cq (cq a (R b 6)<|ar r) (R b 7)<|ar m) b K {K with fx:={K.fx with reads:=r,Si:=m}}:=by
 have d:Z (λk=>k=b) a (cq (cq a (R b 6)<|ar r) (R b 7)<|ar m):=(gZ b a).setCell b 7 _<|.inl rfl;have c:jQ (cq a (R b 6)<|ar r) b K.nb K.sb K.mv {K.fx with reads:=r}:=by unfold jQ;rw[aH h.ie];rfl
 exact h.YX (by unfold jQ;rw[aH c];rfl) d ⟨id,rfl,id⟩
def Qb(o:a.ownsRow b g m d D B)(l:c<=b):a.ownsRow c g m d D B:=by
 obtain⟨i,k|⟨n,e,f,j,h,r⟩⟩:=o;exact⟨i,.inl k⟩;exact⟨i,.inr ⟨n,e,f,j,aC l h,r⟩⟩
def L2(w c:Y)(b:M)(K:DK)(e:eR)(f:Ending):Prop:=∃a,pJ w c b K a/\vq K a/\(∀k,a.aO b k->K.aO b k)/\((∃d,f=aM (dq #[d,.nilIface])/\fc c (z<|G w) d e)\/(0<K.fx.bd/\∃q,f=aM (dq #[az,eD q])/\lP c q 8))
def BK(e:ae){K:da}(w F:M)(h:cG a b x)(O:ld x.files e=H K)(ha:w<=y K.bytes)(hn:F<=1099511627776)(aU:Nm e):cY aZ 90 #[aA b,am e,ar w,ar F] a λm w'=>L2 a w' b x ((K.bytes.drop w).take F) m:=by
 have hl:y K.bytes<=1099511627776:=by have:=pm O;have:=h.room;have:=h.kK;omega
 have bf:=cellAt h.ie 6 rfl;have bk:=cP (i:=6) h.ie;have f:∀P,aW (cq a (R b 6)<|ar P) (R b 7)=H (ar x.fx.Si)/\(cq a (R b 6)<|ar P).frozen? (R b 7)=aX:=by intro P;(have ac:jQ (cq a (R b 6)<|ar P) b x.nb x.sb x.mv {x.fx with reads:=P}:=by unfold jQ;rw[aH h.ie];rfl);exact⟨by rw[cg ac];rfl,cP ac⟩
 have bg:=λP=>(f P).1;have bl:=λP=>(f P).2;have HF:=U<|λP bo=>yY e (h.Qw P bo).ok aU;have l:=U<|λP bo=>h.Qw P bo;obtain⟨v,hk,ax,E⟩:∃v,v=min F (y K.bytes-w)/\w+v<=y K.bytes/\(K.bytes.drop w).take v=(K.bytes.drop w).take F:=⟨min F<|y K.bytes-w,rfl,by omega,by rw[List.take_eq_take_iff];simp⟩;obtain⟨r,C⟩:∃r,(K.bytes.drop w).take F=r:=⟨_,rfl⟩;rw[C]at E|-;have B:=U E;have aD:y r<=1099511627776:=by rw[<-C];simp;omega
 have Q:=U h.wS;clear h f C E;have aF:x.fx.Si<F\/¬x.fx.Si<F:=by omega
 rcases aF with hm|hm
 all_goals
  go_in
  go_wp2_with fail
  apply(HF _ _).mono;rintro m w1⟨bp,hd,ht,⟨A,f,rfl⟩|⟨f,_⟩|⟨N,q,rfl,hq⟩⟩;case inr.inl=>
   rw[show ld x.files e=H K from O]at f;cases f
  case inr.inr=>
   have HQ:=U hq;have HB:=U N;have HD:=U<|(l _ _).trans hd;clear hd ht hq N HF l;go_wp2;go_ret2
   exact⟨_,HD,⟨rfl,rfl,rfl⟩,λ_ m=>m,.inr ⟨HB,q,rfl,HQ⟩⟩
  have au:A=K:=by rw[show ld x.files e=H K from O]at f;cases f;rfl
  subst au;have hF:=hd.ok.files A (je O).2.1;have aa:=cellAt hF.1 0 rfl;have o:=hF.2.1;have u:=fc.bytes o;have D:=(l _ _).trans hd;have al:=D.aj.size;have c:=U (λ(ba:ab)(N:Bytes w1 ba r)(ho:∀an,cK ba=H an->cK A.data=H an)=>
   show cY aZ 37 #[ba] w1 λm w'=>∃v',m=aM v'/\fc w' (z<|G a) v' r/\∃c,pJ a w' b x c/\vq x c/\∀v,c.aO b v->x.aO b v from(Ip N aD<|λv m=>(bM o v<|ho v m).2).mono (by
    rintro m w'⟨v',rfl,aV,W⟩;exact⟨v',rfl,Qb aV al,_,D.still (Z.aR W),⟨rfl,rfl,rfl⟩,λ_ m=>m⟩))
  have V:=(show _ from o).2;clear hd ht f hF D al HF l Q;rcases V with⟨k,L⟩|⟨bb,s,bc,k,_,_,bn,bi,_,_⟩
  .have p:A.bytes=[]:=aL L;have av:w=0:=by rw[p]at ha;simpa using ha
   have t:r=[]:=by rw[<-J B,p];simp
   subst av;rw[k]at aa;have Cq:=U (c az (by rw[t];exact .inl ⟨rfl,rfl⟩)<|λan m=>by cases m);clear o u k O ha hl c p hk ax;rcases gB F with ad|ad
   .subst ad;go_wp2_with(first
     |(go_at_call 37;refine(J Cq).mono ?_;rintro m w2⟨v2,rfl,j,S,g⟩;have n:=U j;have d:=U g;clear j g))
    go_ret2
    exact⟨S,(J d).1,(J d).2.1,(J d).2.2,.inl ⟨_,rfl,n⟩⟩
   .go_wp2_with(first
     |(go_at_call 37;refine(J Cq).mono ?_;rintro m w2⟨v2,rfl,j,S,g⟩;have n:=U j;have d:=U g;clear j g))
    go_ret2
    exact⟨S,(J d).1,(J d).2.1,(J d).2.2,.inl ⟨_,rfl,n⟩⟩
  .have T:Bytes w1 (bD bb w v<|s-w) r:=by
    rw[k]at u;have f:=u.Cf ha;rw[dE]at f;have h2:=Bytes.take (bs:=A.bytes.drop w) (by simpa using f) (n:=v) (by simp;omega);rw[J B]at h2;exact h2
   have t:w=s->Bytes w1 (bD bb 0 v 0) r:=by
    intro m;obtain rfl:v=0:=by omega
    rw[show r=[]by rw[<-J B];simp];exact .inr ⟨bb,0,0,by simp,by simp,λv hk=>by simp at hk⟩
   have Cq:=U<|λ(ba:ab)(N:Bytes w1 ba r)(ho:∀an,cK ba=H an->H bb=H an)=>c ba N (λan m=>by rw[k];exact ho an m);have ap:=U T;have ao:=U t;rw[k]at aa;have bd:w<=s:=by omega
   clear T t o u k O c;by_cases bh:w=s;all_goals
    by_cases bm:F<=y A.bytes-w;all_goals
     go_wp2_with fail
     refine(J Cq _ ?_<|λan m=>by exact m).mono ?_
     .have f:=J ap;have L:=J ao;first
       |((have m:v=F:=by omega);rw[m]at L;exact L<|by omega)
       |((have m:v=0:=by omega);rw[m]at L;exact L<|by omega)
       |((have m:v=F:=by omega);rw[m]at f;exact f)
       |((have m:v=y A.bytes-w:=by omega);rw[m]at f;exact f)
     rintro m w2⟨v2,rfl,j,S,g⟩;have n:=U j;have d:=U g;clear j g;go_wp2;go_ret2
     exact⟨S,(J d).1,(J d).2.1,(J d).2.2,.inl ⟨_,rfl,n⟩⟩
def pC(b:M)(r:X):DK:=⟨b,b+1,az,⟨r,0,0,0,0⟩,[],[],[]⟩
def Hp(w:Y):gM (cN w<|.map #[] 0) (z<|G w) []:=⟨#[],0,ix _ _,rfl,qw 0⟩
def xZ(w:Y)(r:X)(b:0<=r/\r<=1099511627776):cY aZ 5 #[ar r] w λg c=>g=aM (aA<|z (G w)+2)/\cG c (z (G w)+2) (pC (z<|G w) r)/\Below (z<|G w) w c:=by
 have e:=@rq aZ;have a:cG (cN (cN (cN w<|.map #[] 0)<|.map #[] 0)<|aw #[.map<|H<|z<|G w,.map<|H<|z (G w)+1,az,ar r,ar 0,ar 0,ar 0,ar 0] 62) (z (G w)+2) (pC (z<|G w) r):=by refine⟨?_,((Hp w).alloc _).alloc _,?_,by simp[pC],cO _ _ _ _,by simp[pC],by simp[pC],by simp[pC],by simp[pC,Iw.ok],by simpa[pC,fB]using b.1,b.2⟩;have:=ix (cN (cN w<|.map #[] 0)<|.map #[] 0)<|aw #[.map<|H<|z<|G w,.map<|H<|z (G w)+1,az,ar r,ar 0,ar 0,ar 0,ar 0] 62;simpa[jQ,pC]using this;have:=(Hp<|cN w<|.map #[] 0).alloc<|aw #[.map<|H<|z<|G w,.map<|H<|z (G w)+1,az,ar r,ar 0,ar 0,ar 0,ar 0] 62;simpa[pC]using this
 have d:=U a;clear a;go_in
 go_wp2;go_ret;exact⟨rfl,d,((((Below.refl _ w).alloc (ah _) _).alloc (by simp) _).alloc (by simp;omega) _)⟩
def zK:∀{m:fK}{k:ae},m.get k=none->m.put k d=m++[(k,d)]
 |[],k,_=>rfl
 |p::r,k,h=>by
  unfold fK.get at h;by_cases e:p.1=k
  .rw[dH e]at h;cases h
  .rw[dF e]at h;unfold fK.put;rw[dF e,zK h];rfl
def Mq{v:ab}:∀{m:fK}{k:ae},m.get k=none->fK.get (m++[(k,v)]) k=H v
 |[],k,_=>by simp[fK.get]
 |p::r,k,h=>by
  unfold fK.get at h;by_cases e:p.1=k
  .rw[dH e]at h;cases h
  .rw[dF e]at h;show fK.get (p::(r++[(k,v)])) k=H v;unfold fK.get;rw[dF e];exact Mq h
def Mt{a:cJ da}(h:t∉a.map da.name):fK.get (a.map da.nm) t=none:=by
 induction a with
 |nil=>rfl
 |cons f a b=>
  rw[cy,bJ,not_or]at h;rw[cy];unfold fK.get;rw[dF<|λe=>h.1 e.symm];exact b h.2
def ri{m:fK}{t:TypeId}{e:M×M}(j:gM a b m)(d:a.heap[c]?=H (aw V t e)):c≠b:=by
 rintro rfl;obtain⟨i,h,g,_⟩:=j;rw[g]at d;cases d
def cG.add{K:DK}{f:da}{i:fK}(l:cG a b K)(B:K.gT=[])(q:Z (λk=>k=K.nb\/k=K.sb) a A)(m:gM A K.nb (K.files.map da.nm++[f.nm]))(h:gM A K.sb i)(x:wL A f)(w:z (G a)<=f.pa)(t:∀k,cK f.data=H k->z (G a)<=k)(u:(fB (K.files++[f]):X)<=K.fx.room):cG A b {K with files:=K.files++[f],sm:=i}/\∀k,DK.aO b {K with files:=K.files++[f],sm:=i} k->K.aO b k\/k=f.pa\/cK f.data=H k:=by
 have d:∀{k:M}{b:Array ab}{t:TypeId}{c:M×M},a.heap[k]?=H (aw b t c)->¬(k=K.nb\/k=K.sb):=λg j=>j.elim (ri l.now g)<|ri l.safe g;refine⟨⟨?_,?_,h,l.ne,?_,?_,?_,?_,l.wS,u,l.kK⟩,?_⟩;exact(q.block b (ak l.ie)<|d l.ie).trans l.ie;rw[aP];exact m;exact q.own l.steps (λk g j=>by obtain⟨n,s⟩:=fE l.steps g;grind);grind
 intro r e;rcases aG.1 e with e|e;have c:=l.files r e;exact c.aj q (d c.1) (λk g j=>by obtain⟨n,s⟩:=fE c.2.1 g;grind);grind
 show(K.files++[f]).Pairwise mW;rw[bQ];refine⟨l.apart,List.pairwise_singleton _ _,λr e v o=>?_⟩;obtain rfl:=dp.1 o;have c:=l.files r e;refine⟨λC=>by have:=ak c.1;omega,λk g p=>?_⟩;have:=(bM c.2.1 k g).2;have:=t k p;omega;rintro k(j|j|j|j|⟨p,o,j⟩|⟨r,e,j⟩);exact .inl<|.inl j;exact .inl<|.inr<|.inl j;exact .inl<|.inr<|.inr<|.inl j;exact .inl<|.inr<|.inr<|.inr<|.inl j;(grind);rcases aG.1 e with e|e;exact .inl<|.inr<|.inr<|.inr<|.inr<|.inr ⟨r,e,j⟩;grind
def AG{P:Program}{r:Oper}{h:Act}{K:Act->Y->Prop}{Q:Exit->Act->Y->Prop}(i A j:Operand)(x:TypeId)(g:r.op=Op.mapUpdate x i A j)(v B:TypeId)(o:P.underlying x=H (.map v B))(m:P.underlying v=H .string)(k:M)(w:fK)(n:h.eval i=.map (H k))(C:gM a k w)(b:ae)(c:ab)(q:h.eval A=am b)(p:h.eval j=c)(l:∀d,gM d k (w.put b c)->a.grownBy d (H k)->z (G d)=z (G a)->K (h.put r.dst iH) d):Oper.wp P r h a K Q:=by
 obtain⟨d,e,s,t,u⟩:=CA o m C b c;unfold Oper.wp;simp[execOp,g,n,q,p,e,Result.andThen];exact l d s t u
def J2(w c:Y)(b:M)(K:DK)(t:X):Prop:=∃x a,(0<=x/\x<=9223372036854775807)/\(0<=a/\a<=9223372036854775807)/\(t<=0->a=0)/\cG c b {K with fx:={K.fx with wt:=x,bd:=a}}/\Z (λk=>k=b) w c
def Fl{K:DK}(m t:X)(h:cG a b K)(j:m<=9223372036854775807)(k:t<=9223372036854775807):cY aZ 19 #[aA b,ar m,ar t] a λi A=>i=aM (dq #[])/\J2 a A b K t:=by
 have c4:a.frozen? (R b 4)=aX:=cP h.ie;have c5:a.frozen? (R b 5)=aX:=cP h.ie;have B:=cellAt h.ie 4 rfl;have C:=cellAt h.ie 5 rfl;have o:∀x,(cq a (R b 4)<|ar x).frozen? (R b 5)=aX/\aW (cq a (R b 4)<|ar x) (R b 5)=H (ar K.fx.bd):=λx=>by(have:jQ (cq a (R b 4)<|ar x) b K.nb K.sb K.mv {K.fx with wt:=x}:=by unfold jQ;rw[aH h.ie];rfl);exact⟨cP this,by rw[cg this];rfl⟩
 have s:=λx=>(o x).1;have u:=λx=>(o x).2;have fin:∀x c,(0<=x/\x<=9223372036854775807)->(0<=c/\c<=9223372036854775807)->cG (cq (cq a (R b 4)<|ar x) (R b 5)<|ar c) b {K with fx:={K.fx with wt:=x,bd:=c}}/\Z (λr=>r=b) a (cq (cq a (R b 4)<|ar x) (R b 5)<|ar c):=λx c l w=>by(have e:jQ (cq a (R b 4)<|ar x) b K.nb K.sb K.mv {K.fx with wt:=x}:=by unfold jQ;rw[aH h.ie];rfl);(have f:jQ (cq (cq a (R b 4)<|ar x) (R b 5)<|ar c) b K.nb K.sb K.mv {K.fx with wt:=x,bd:=c}:=by unfold jQ;rw[aH e];rfl);have g:Z (λr=>r=b) a (cq (cq a (R b 4)<|ar x) (R b 5)<|ar c):=(gZ b a).setCell b 5 _<|.inl rfl;have E:Fx K.fx {K.fx with wt:=x,bd:=c}\/True:=.inr trivial;refine⟨⟨f,h.now.aj g<|λi=>h.now.tag h.ie i.symm,h.safe.aj g<|λi=>h.safe.tag h.ie i.symm,h.ne,g.own h.steps<|λr i=>(h.DY i).2.2,?_,?_,h.apart,⟨l,w⟩,h.room,h.kK⟩,g⟩;intro x l;refine(h.each x l).aj g<|λr i=>?_;obtain⟨n,v,p⟩:=(h.each x l).2.2 r i;exact kw p h.ie (by decide);intro D v;have hF:=h.files D v;refine hF.aj g (kw hF.1 h.ie<|by decide)<|λr i=>?_;obtain⟨n,p⟩:=fE hF.2.1 i;exact kw p h.ie<|by decide
 have d:=U fin;clear h o fin;by_cases e:0<=m<;>by_cases f:0<=t;(·(go_in);go_wp2;go_end0;exact⟨rfl,m,t,⟨e,j⟩,⟨f,k⟩,λq=>by omega,J d m t ⟨e,j⟩ ⟨f,k⟩⟩);(·(go_in);go_wp2;go_end0;exact⟨rfl,m,0,⟨e,j⟩,by omega,λq=>rfl,J d m 0 ⟨e,j⟩<|by omega⟩);(·(go_in);go_wp2;go_end0;exact⟨rfl,0,t,by omega,⟨f,k⟩,λq=>by omega,J d 0 t (by omega) ⟨f,k⟩⟩);(go_in);go_wp2;go_end0;exact⟨rfl,0,0,by omega,by omega,λq=>rfl,J d 0 0 (by omega)<|by omega⟩
def nE.AS(h:nE r b c C l a):C.Pairwise (λo p=>ja o.last p.last=ci):=by
 refine cU.2<|λm n j k f=>?_;have d:m<y l:=by have:=h.len;omega
 have e:n<y l:=by have:=h.len;omega
 have g:=h.EA m j d;have i:=h.EA n k e;rw[g.last,i.last];have:=cU.1 h.Du m n d e f;have q:=g.ne;have s:=i.ne;exact this _ (aq<|by omega) _<|aq<|by omega
def nE.Ca(o:nE r b c C l a)(e:ae)(k:M)(q:∀i(t:i<y C),i<k->ja C[i].last e=ci):((l.drop k).map<|fZ e).flatten=fZ e l.flatten:=by
 have m:l.flatten=(l.take k).flatten++(l.drop k).flatten:=by rw[<-eH,bV]
 have w:fZ e (l.take k).flatten=[]:=by unfold fZ;rw[gS];intro A u;obtain⟨x,s,h⟩:=bC.1 u;obtain⟨i,t,rfl⟩:=dY s;rw[ly]at h;(have d:i<k/\i<y l:=by grind);(have f:i<y C:=by have:=o.len;omega);have v:=o.EA i f d.2;have g:dV l[i]:=o.mj.sub<|dl<|aq d.2;have j:=q i f d.1;rw[v.last]at j;have p:=g.Dz v.ne h;rw[ym p j];simp
 have n:∀d:dS,(d.map<|fZ e).flatten=fZ e d.flatten:=by
  intro d;induction d with
  |nil=>rfl
  |cons g h f=>simp only[cy,bK,f];unfold fZ;rw[kU]
 rw[n,m];grind
def FX(bt:M)(k:M){E:dS}(K:ae)(h:nE r b c C E a)(ht:eP a bt (aA c) 186)(hg:eP a g (ar k) 3)(W:eP a m (am K) 9)(hn:b<=m)(hD:r.D a)(ao:b<=z (G a))(hF:∀k,r.F k->k<b)(D:M)(hi:k+D<y C)(hc:k+D<y E):cY aZ 317 #[ar D,aA bt,aA g,aA m] a λap w'=>(∃v' S',ap=aM (dq #[v',.nilIface])/\jf r b v' (fZ K E[k+D]) S' w'/\r.D w'/\Z r.F a w'/\(∀k,S' k->z (G a)<=k))\/∃aV,Dp r a w' r.F ap (λaF=>dq #[aV,aF]):=by
 have c1:=ht.cell;have c2:=hg.cell;have c3:=W.cell;have S:=Li h hD ao hF (k+D) hi hc;have f:=aq hc;have u:dV E[k+D]:=h.mj.sub<|dl f;have an:=h.small _ f;have t:k+D<1000000000:=by grind[nE.mem,lH.small]
 have P:=ak W;have Q:¬r.F m:=λhf=>by have:=hF m hf;omega
 obtain⟨HL,HS,N,HF⟩:=fY W u (show∀ax∈E[k+D],ax.bO<18446744073709551616 fromλax hx=>(h.iP _ f ax hx).b1) hF;clear ht hg W h hD f hF u hi;have V:IntKind.i64.wrap ((k:X)+(D:X))=((k+D:M):X):=by rw[bN];omega
 have v:wrap64 ((k:X)+(D:X))=((k+D:M):X):=by unfold wrap64;omega
 obtain⟨av,hm⟩:∃av,k+D=av:=⟨_,rfl⟩;simp only[hm]at S an HS N V v t|-;have au:(k:X)+(D:X)=(av:X):=by omega
 generalize E[av]=aU at*;clear hm V v;go_in
 go_wp2_with fail
 refine S.mono ?_;rintro ap L(⟨v1,rfl,e,j,d⟩|⟨hX,q,rfl,hq,j,d⟩);(.have al:aW L (R m 0)=H (am K):=d.cell c3 Q P;have O:kC L v1 aU:=dJ e;have s:=e.lt;have T:=d.size;have B:=Ff r b K O HS N (by omega) (λk F=>⟨λhf=>by have:=HF k hf;have:=(s k F).1;omega,(s k F).2⟩) (by omega) HF;obtain⟨x,A,ac⟩:=dz j d s;clear e j d O s;(go_wp2_with(go_at_call 305;refine B.mono ?_;rintro ap w2⟨v2,S2,rfl,p,n,o⟩;have aa:=U p;have w:=U n;have ad:=U o;clear p n o));(go_ret2);have i:Z ay L w2:=Z.aR w;refine .inl ⟨v2,S2,rfl,aa,r.eY x i cL,A.cz i,λk' F=>?_⟩;rcases ad k' F with aD|aD;exact(ac k' aD.1).1;omega);have al:aW L (R m 0)=H (am K):=d.cell c3 Q P;have T:=d.size;have B:=Ff r b K (v:=az) (l:=[]) (w:=L) ⟨rfl,.inl ⟨rfl,rfl⟩⟩ .nil (λax hx=>by cases hx) (by simp) (λk F=>by cases F) (by omega) HF;obtain⟨x,A,s⟩:=dz j d hq;clear j d hq;(go_wp2_with fail);refine B.mono ?_;rintro ap w2⟨v2,S2,rfl,p,n,o⟩;have w:=U n;clear p n o;go_wp2;(go_ret2);have i:Z ay L w2:=Z.aR w;exact .inr ⟨v2,hX,q,rfl,s.aj i cL,r.eY x i cL,A.cz i⟩
def Ur(V:iV)(c a d g h o:M)(r:mq)(i:dS)(p:ae)(q:y r=y i):zt V c ((i.drop o).map<|fZ p)where
 f:=317
 cb:=#[aA d,aA g,aA h]
 inv:=λW=>nE V c a r i W/\(eP W d (aA a) 186/\eP W g (ar o) 3/\eP W h (am p) 9)/\(c<=d/\c<=g/\c<=h)/\c<=z (G W)/\∀o,V.F o->o<c
 S:=λx=>x=d\/x=g\/x=h
 Ub:=enters_of func317 (by kernel_rfl) rfl
 call:=by
  rintro u t w⟨m,⟨j,k,l⟩,n,b,hF⟩s;have e:o+u<y i:=by simp at t;omega
  rw[kQ,pR];exact FX d o p m j k l n.2.2 s b hF u (by omega) e
 eY:=by
  rintro W s⟨m,⟨j,k,l⟩,n,b,hF⟩e;exact⟨m.same<|e.mono cL,⟨j.same e<|.inl rfl,k.same e<|.inr<|.inl rfl,l.same e<|.inr<|.inr rfl⟩,n,aC b e.1,hF⟩
 lt:=by
  grind
def Cx{n0 tbqq:M}{ks:mq}{cs:dS}(f:ae)(h:nE r n0 tbqq ks cs a)(hD:r.D a)(n:n0<=z (G a))(hF:∀k,r.F k->k<n0):cY aZ 313 #[aA tbqq,am f] a λal j=>∃w t,al=aM w/\jf r n0 w (fZ f cs.flatten) t j/\r.D j/\Z r.F a j/\(∀k,t k->z (G a)<=k):=by
 have l:Below (z<|G a) a (cN (cN a<|aw #[aA tbqq] 186)<|aw #[am f] 9):=((Below.refl _ a).alloc (ah _) _).alloc (by simp) _;obtain⟨dv,E,cut,ac,aU,L,g,d,ao,C,ax,ap⟩:=h.mem;have e:=C.lt;have T:=AC f (C.below l e.1 e.2) h.AS;have s:=h.len;have av:=C.small
 have HX:=U (show∀(c:Y)(k:M),Below (z<|G<|cN (cN a<|aw #[aA tbqq] 186)<|aw #[am f] 9) (cN (cN a<|aw #[aA tbqq] 186)<|aw #[am f] 9) c->k<=y ks->(∀d(e:d<y ks),d<k->ja ks[d].last f=ci)->∀W,W.heap=(cN c<|aw #[ar k] 3).heap->Z ay (cN c<|aw #[ar k] 3) W->cY aZ 311 #[ar ((y ks-k:M):X),.func (.func 317) #[] #[aA<|z<|G a,aA<|z<|G c,aA<|z (G a)+1]] W λal j=>∃w t,al=aM w/\jf r n0 w (fZ f cs.flatten) t j/\r.D j/\Z r.F a j/\(∀k,t k->z (G a)<=k)/\Below (z<|G W) W j from by
  intro c k b hk Q W u O;have v:=b.size;simp at v;have i:Z ay a W:=(((Z.aR (S:=ay) l).cz<|Z.aR (S:=ay) b).alloc _).cz O;have V:eP c (z<|G a) (aA tbqq) 186:=(b.block _ (by simp;omega)).trans<|eP.alloc (aJ _ rfl) _;have aa:eP c (z (G a)+1) (am f) 9:=(b.block _<|by simp).trans (aJ _<|by simp);have y1:eP W (z<|G a) (aA tbqq) 186:=by rw[eP,u];exact V.alloc _
  have y2:eP W (z (G a)+1) (am f) 9:=by rw[eP,u];exact aa.alloc _
  have y3:eP W (z<|G c) (ar k) 3:=by rw[eP,u];exact aJ _ rfl
  have N:nE r n0 tbqq ks cs W:=h.same<|i.same n cL cL;have A:=Iq (Ur r n0 tbqq (z<|G a) (z<|G c) (z (G a)+1) k ks cs f s) W ⟨N,⟨y1,y3,y2⟩,⟨n,by omega,by omega⟩,aC n i.size,hF⟩ (aC n i.size) hF (by simp;omega);have hl:y ((cs.drop k).map<|fZ f)=y ks-k:=by simp;omega
  rw[hl]at A;apply A.mono;rintro al j⟨w,t,rfl,hg,hb,hS⟩;rw[h.Ca f k Q]at hg;have D:Z ay W j:=Z.aR hb;have o:=i.cz D;refine⟨w,t,rfl,hg,r.eY hD o cL,o.mono cL,λaV hx=>?_,hb⟩;have aF:=i.size;rcases hS aV hx with(an|an|an)|an
  .omega
  .omega
  .omega
  .omega)
 have m:∀W,Below (z<|G a) a W->aW W (R tbqq 5)=H (bD L g (y ks) d):=λW b=>by rw[cg (C.below b e.1 e.2).box];rfl
 have K:=U m;have HB:=U l;have aD:=e.1;clear h C hD hF m l e s;go_in
 go_wp2_with(go_at_call 314;refine T.mono ?_;rintro al c⟨k,rfl,hk,B,P,b⟩;have q:Below (z<|G a) a c:=HB.trans<|b.mono HB.size;have m:=K c q;have v:=b.size;have x1:aW c (R (z<|G a) 0)=H (aA tbqq):=eP.cell<|(b.block _ (by simp;omega)).trans<|eP.alloc (aJ _ rfl) _;have x:=U<|HX c k b hk B;clear B P b q)
 simp at v;have q1:z (G a)<z (G c):=by omega
 have q2:tbqq<z (G c):=by omega
 obtain⟨ad,hd⟩:∃ad,y ks-k=ad:=⟨_,rfl⟩;rw[hd]at x;have q3:(y ks:X)-(k:X)=(ad:X):=by omega
 have q4:ad<=1000000000:=by omega
 have q6:IntKind.i64.wrap (ad:X)=(ad:X):=by rw[bN];omega
 clear hd
 go_region_held3(λb=>aW b (R (z<|G a) 0)=H (aA tbqq)/\aW b (R tbqq 5)=H (bD L g (y ks) d)/\aW b (R (z<|G c) 0)=H (ar k)) (first|assumption|go_keep) (first
  |(go_at_call 311;refine(x ((cN c (.cells #[.int .i64 k] 3)).drew) rfl ⟨rfl,rfl,rfl,ah _,λ_ _ _=>rfl⟩).mono ?_;rintro al w2⟨v2,S2,rfl,r1,r2,r3,r4,F⟩;have R1:=U r1;have R2:=U r2;have R3:=U r3;have R4:=U r4;have au:aW w2 (R (z (G a)) 0)=H (aA tbqq)/\aW w2 (R tbqq 5)=H (bD L g (y ks) d)/\aW w2 (R (z (G c)) 0)=H (.int .i64 k):=⟨(F.cell (p:=(R (z (G a)) 0)) (by simp;omega)).trans (by rw[bF,pO _ _ _ q1];exact x1),(F.cell (p:=(R tbqq 5)) (by simp;omega)).trans (by rw[bF,pO _ _ _ q2];exact m),(F.cell (p:=(R (z (G c)) 0)) (by simp)).trans (by simp)⟩;clear r1 r2 r3 r4 F))
 go_wp2;go_ret;exact⟨v2,S2,rfl,R1,R2,R3,R4⟩
structure Ab(ks:mq)(key:ae)(k:M):Prop where
 le:k<=y ks
 low:∀i(hi:i<y ks),i<k->ja ks[i].last key=ci
 vP:∀i(hi:i<y ks),k<=i->ja ks[i].last key=aX
def Rf(l:C.Pairwise (λj f=>ja j.last f.last=ci))(d:ae):∃k,Ab C d k:=by
 induction C with
 |nil=>exact⟨0,ah _,λi a=>by simp at a,λi a=>by simp at a⟩
 |cons f r h=>
  obtain⟨m,g⟩:=bB.1 l;cases c:ja f.last d with
  |true=>
   obtain⟨k,e⟩:=h g;refine⟨k+1,by have:=e.le;simp;omega,λi a b=>?_,λi a b=>?_⟩
   .cases i with
    |zero=>exact c
    |succ i=>exact e.low i (by simpa using a)<|by omega
   .cases i with
    |zero=>omega
    |succ i=>exact e.vP i (by simpa using a)<|by omega
  |false=>
   refine⟨0,bP _,λi a b=>by omega,λi a _=>?_⟩;grind[getElem_mem,lq]
def Ab.eq(h:Ab C t b)(a:Ab C t c):b=c:=by
 rcases nr b c with e|e|e;have f:=a.low b (by have:=a.le;omega) e;have d:=h.vP b (by have:=a.le;omega)<|ah _;rw[f]at d;cases d;exact e;have f:=h.low c (by have:=h.le;omega) e;have d:=a.vP c (by have:=h.le;omega)<|ah _;rw[f]at d;cases d
def nE.Bc(o:nE r b c C l a)(s:Ab C t g)(x:E)(w:x∈l.flatten)(i:x.key=t):∃j:g<y l,x∈l[g]:=by
 obtain⟨D,j,h⟩:=bC.1 w;obtain⟨n,q,rfl⟩:=dY j;have d:n<y C:=by have:=o.len;omega
 have A:=o.EA n d q;have m:dV l[n]:=o.mj.sub<|dl j;have k:=m.Dz A.ne h;rcases nr n g with v|v|v;have:=s.low n d v;rw[A.last]at this;have:=ym k this;rw[i,fO]at this;cases this;grind
 (have f:g<y C:=by omega);(have e:g<y l:=by omega);have u:=o.EA g f e;have p:=s.vP g f<|ah _;rw[u.last]at p;have B:=u.ne;have:=cU.1 o.Du g n e q v _ (aq<|show y l[g]-1<y l[g]by omega) x h;rw[i,p]at this;cases this
def nE.yX(k:nE r b c C l a)(m:Ab C t g)(n:∀(s:g<y C),ja t C[g].first=ci)(q:X):iC q l.flatten t=none:=by
 refine rj<|λx o e=>?_;obtain⟨i,h⟩:=k.Bc m x o e;have d:g<y C:=by have:=k.len;omega
 have p:=k.EA g d i;have j:=n d;have f:dV l[g]:=k.mj.sub<|dl<|aq i;rw[p.first,<-e,f.yt p.ne h]at j;cases j
def nE.Cd(j:nE r b c C l a)(h:Ab C t g)(f:g<y l)(e:X):iC e l.flatten t=iC e l[g] t:=Bd f (λx i d=>j.Bc h x i d) j.Du e
def QH(V:iV)(w c:Y)(d:Option E)(e:Ending):Prop:=∃(a:E)(ok:Bool)(b:ab),e=aM (dq #[a.value,aN ok,b])/\(dq #[a.value,aN ok,b]=Fg d\/V.Xp/\a=zE/\ok=aX/\∃q,b=eD q/\Af c q)/\V.D c/\Z V.F w c
def Yj(t:TypeId)(a b:ae):binOp .gtr t (am a) (am b)=pure (aN !(Op.bytesLess a.toList b.toList||a.toList==b.toList)):=by simp[binOp,Op.stringOp]
def Qo(a b:ae):(!(Op.bytesLess a.toList b.toList||a.toList==b.toList))=ja b a:=by
 show(!(ja a b||a.toList==b.toList))=ja b a;grind[lu,FF,fO,ot]
def Cy{n0 tbqq:M}{ks:mq}{cs:dS}(e:ae)(V:X)(h:nE r n0 tbqq ks cs a)(hD:r.D a)(u:n0<=z (G a))(hF:∀v,r.F v->v<n0):cY aZ 310 #[aA tbqq,am e,aE V] a λba w'=>QH r a w' (iC V cs.flatten e) ba:=by
 obtain⟨v,n⟩:=Rf h.AS e;have p:Below (z<|G a) a (cN a<|aw #[am ⟨#[]⟩,am ⟨#[]⟩,aN aX,aE 0] 171):=(Below.refl _ a).alloc (ah _) _;obtain⟨dv,bb,cut,bi,bs,bl,T,K,bm,hm,br,bn⟩:=h.mem;have s:=hm.lt;have f:=h.len;have bq:=hm.small;have ao:cY aZ 314 #[aA tbqq,am e] (cN a<|aw #[am ⟨#[]⟩,am ⟨#[]⟩,aN aX,aE 0] 171) λba w'=>ba=aM (ar v)/\Below (z<|G a) a w'/\iM w' (z<|G a) zE:=by apply(AC e (hm.below p s.1 s.2) h.AS).mono;rintro ba w'⟨l,rfl,t,w,x,j⟩;obtain rfl:v=l:=n.eq ⟨t,w,x⟩;exact⟨rfl,p.trans<|j.mono p.size,(j.block _<|by simp).trans<|aJ _ rfl⟩
 have k:∀au,Below (z<|G a) a au->aW au (R tbqq 5)=H (bD bl T (y ks) K):=λau L=>by rw[cg (hm.below L s.1 s.2).box];rfl
 have aa:=U k;have Q:∀av,n0<=av->¬r.F av:=λav hx a=>by have:=hF av a;omega
 have F:=U Q;have ad:=U<|λau(L:Below (z<|G a) a au)=>r.eY hD (Z.aR (S:=ay) L) cL;have bo:=Yj;by_cases P:v<y ks
 .have B:∀au,Below (z<|G a) a au->aW au (R bl<|T+v*5+3)=H (am ks[v].first):=λau L=>by rw[bw];exact(hm.below L s.1 s.2).cells _ _<|iG ks v 3 P<|by decide
  have aD:=U B;have e1:((v:X)==(y ks:X))=aX:=by simp;omega
  have e2:(v:X)<(y ks:X):=by omega
  have e3:(0:X)<=(v:X):=by omega
  have aF:=Qo ks[v].first e;cases hfk:ja e ks[v].first with
  |true=>
   rw[hfk]at aF;have d:=h.yX n (λ_=>hfk) V;rw[d];have HL:=U f;clear h hm n hD hF Q p k B f d hfk;generalize ks[v].first=fk at*;go_in
   go_wp2_with(go_at_call 314;refine ao.mono ?_;rintro ba m⟨rfl,c,b⟩;have k:=aa m c;have B:=aD m c;obtain⟨z0,z1,z2,z3⟩:=b.cells;have y0:=b.free (i:=0);have y1:=b.free (i:=1);have y2:=b.free (i:=2);have y3:=b.free (i:=3);have o:=U b;have g:=U c;clear b c)
   refine ct (fD rfl _ _ (z<|G a) zE _ _ rfl<|o.put zE) rfl ?_;have A:Below (z<|G a) a (vH m (z<|G a) zE):=g.trans ((iL m (z<|G a) zE).below g.size<|λav hx=>by omega);exact⟨zE,aX,.nilIface,rfl,.inl rfl,ad _ A,Z.aR A⟩
  |false=>
   rw[hfk]at aF;have O:v<y cs:=by omega
   rw[h.Cd n O V];have aU:dV cs[v]:=h.mj.sub<|dl<|aq O;have bp:=h.small _<|aq O;obtain⟨bd,bf,HL⟩:=dz (λau(L:Below (z<|G a) a au)=>Li (h.same<|(Z.aR (S:=ay) L).same u cL cL) (ad au L) (aC u L.size) hF v P O) aU f;clear h hm n hD hF Q p k B f hfk aU;generalize ks[v].first=fk at*;generalize cs[v]=bk at*;have W:=(λv(w2 m:Y)(a:w2.ownsRow (z<|G m) 171 4 v (y bk) (aK bk))=>AP e V (dJ a) bf (by omega)<|λc b=>(a.lt c b).2);have w:=U W;clear W;go_in
   go_wp2_with(go_at_call 314;refine ao.mono ?_;rintro ba m⟨rfl,c,b⟩;have k:=aa m c;have B:=aD m c;have bh:=bd m c;have o:=U b;have g:=U c;clear b c)
   refine bh.mono ?_;rintro ba w2(⟨v2,rfl,C,x,l⟩|⟨hX,q,rfl,hq,x,l⟩)
   .have N:=w v2 w2 m C;obtain⟨D,ac,al⟩:=dz (o.aj l<|F _ u) x l;clear C x l w;obtain⟨ap,ok,hy⟩:∃(ap:E)(ok:Bool),Fg (iC V bk e)=dq #[ap.value,aN ok,.nilIface]:=by
     cases iC V bk e with
     |none=>exact⟨zE,aX,rfl⟩
     |some av=>exact⟨av,ci,rfl⟩
    rw[hy]at N;have HY:=U hy;clear hy;obtain⟨xk,xv,xd,xb⟩:=ap;unfold E.value at N;simp only at N;go_wp2_with(go_at_call 304;refine N.mono ?_;rintro ba w3⟨rfl,an⟩;have j:=D.aj (Z.aR (S:=ay) an)<|λbk=>bk;obtain⟨z0,z1,z2,z3⟩:=j.cells;have y0:=j.free (i:=0);have y1:=j.free (i:=1);have y2:=j.free (i:=2);have y3:=j.free (i:=3);have bc:=U j;have ax:=U an;clear j an)
    refine ct (fD rfl _ _ (z<|G a) ⟨xk,xv,xd,xb⟩ _ _ rfl<|bc.put ⟨xk,xv,xd,xb⟩) rfl ?_;have aV:Z r.F a w3:=((Z.aR (S:=r.F) g).trans al<|λv n=>.inl n).trans (Z.aR (S:=r.F) ax)<|λv n=>.inl n;have t:=iL w3 (z<|G a) ⟨xk,xv,xd,xb⟩;have bg:=r.eY ac (Z.aR (S:=ay) ax) cL;exact⟨⟨xk,xv,xd,xb⟩,ok,.nilIface,rfl,.inl HY.symm,r.eY bg t (λav hx=>by subst hx;exact F _ u),aV.trans t<|λav hx=>.inr<|by omega⟩
   .have j:=o.aj l<|F _ u;obtain⟨z0,z1,z2,z3⟩:=j.cells;have y0:=j.free (i:=0);have y1:=j.free (i:=1);have y2:=j.free (i:=2);have y3:=j.free (i:=3);obtain⟨D,ac,al,N⟩:=fY j x l hq;clear j x l hq w;go_wp2;refine ct (fD rfl _ _ (z<|G a) zE _ _ rfl<|D.put zE) rfl ?_;have t:=iL w2 (z<|G a) zE;exact⟨zE,aX,eD q,rfl,.inr ⟨hX,rfl,rfl,q,rfl,N.aj t D.sep⟩,r.eY ac t (λav hx=>by subst hx;exact F _ u),((Z.aR (S:=r.F) g).trans al<|λv n=>.inl n).trans t<|λav hx=>.inr<|by omega⟩
 (have j:v=y ks:=by have:=n.le;omega);have d:=h.yX n (λa=>absurd a P) V;rw[d];(have e1:((v:X)==(y ks:X))=ci:=by simp;omega);subst j;have HL:=U f;clear h hm n hD hF Q p k f d P;(go_in);(go_wp2_with(go_at_call 314;refine ao.mono ?_;rintro ba m⟨rfl,c,b⟩;have k:=aa m c;obtain⟨z0,z1,z2,z3⟩:=b.cells;have y0:=b.free (i:=0);have y1:=b.free (i:=1);have y2:=b.free (i:=2);have y3:=b.free (i:=3);have o:=U b;have g:=U c;clear b c));refine ct (fD rfl _ _ (z<|G a) zE _ _ rfl<|o.put zE) rfl ?_;have A:Below (z<|G a) a (vH m (z<|G a) zE):=g.trans ((iL m (z<|G a) zE).below g.size<|λav hx=>by omega);exact⟨zE,aX,.nilIface,rfl,.inl rfl,ad _ A,Z.aR A⟩
def zf:iV:=⟨λ_=>True,λ_=>False,λ_ _ _=>trivial,λ_ h=>h.elim,False⟩
section
open Shelf
attribute [local go_sem] Oper.semAt_some
def zG(v:ab)(n c:M):ab:=match v with
 | .slice (H ⟨d,a,none⟩) _ b=>.slice (H ⟨d,a+n*4,none⟩) c<|b-n
 |v=>v
def Gq(v:ab)(p:M×cR):Array ab:=#[zG v p.1<|y p.2]
def Be{o p g s:cR}(r:kC a d o)(f:o=p++g++s)(i:g≠[]):kC a (zG d (y p)<|y g) g:=by
 have k:0<y g:=gl.2 i;obtain⟨u,⟨rfl,t⟩|⟨q,b,c,rfl,n,h⟩⟩:=r;have:=bS y f;grind;have m:=bS y f;simp at m;refine⟨by rw[fV],.inr ⟨q,b+y p*4,c-y p,rfl,by omega,λj v l=>?_⟩⟩;have e:j<y g*4:=by rw[<-fV];grind
 have:=h (y p*4+j) v (by rw[f,fW,fW,bA,eU (by rw[fV];omega),fV,show y p*4+j-y p*4=j by omega,gp (by rw[fV];exact e)];exact l);rw[bw];exact this
def AU(v:ab)(x:Option Addr)(n c:M)(a:v=I x n c)(w:Y):cY aZ 152 #[v] w λe b=>e=aM (.func (.func 215) #[] #[cX<|H ⟨z<|G w,0,none⟩])/\b=cN w (aw #[v] 87):=by
 subst a;go_in
 go_wp2;go_ret;simp_all
def SE(r:b<=c)(s:c<y e)(A:∀j(u:j+1<y e),b<=j->j<c->e[j+1].key=e[j].key)(w:∀B:c+1<y e,e[c+1].key≠e[c].key):∃i,e.drop b=i++e.drop (c+1)/\i≠[]/\y i=c+1-b/\im (e.drop b)=i::im (e.drop<|c+1):=by
 have p:e.drop b=(e.drop b).take (c+1-b)++e.drop (c+1):=by(conv=>lhs;rw[<-bV (c+1-b) (e.drop b)]);rw[List.drop_drop,show b+(c+1-b)=c+1 by omega]
 have v:∀t(d:t<=c)(a:b<=t),(e[t]'(by omega)).key=(e[b]'(by omega)).key:=by
  intro t;induction t with
  |zero=>grind
  |succ t g=>
   grind
 have d:y ((e.drop b).take<|c+1-b)=c+1-b:=by simp;omega
 have f:(e.drop b).take (c+1-b)≠[]:=λa=>by rw[a]at d;grind
 have a:∀x∈(e.drop b).take (c+1-b),x.key=(e[b]'(by omega)).key:=by grind[getElem_of_mem]
 refine⟨_,p,f,d,?_⟩;conv=>lhs;rw[p]
 rw[Me _ _ ?_,Vy f<|λx n h o=>(a x n).trans (a h o).symm];rfl;intro q k t m;have l:=a q<|List.mem_of_getLast? k;(have g:c+1<y e:=by grind);rw[bG g]at m;grind
def wB(n0 br:M)(hb:eP a b d 87)(hr:kC a d e)(t:∀v,cK d=H v->v<n0)(bd:n0<=z (G a))(bp:y e<=1000000000):Iu (Gq d) zf n0 br 215 #[cX<|H ⟨b,0,none⟩] (nQ 0<|im e) (λv=>v=b) a:=by
 intro lr bq Jx bi bf hs hD hJ V n ac hY;obtain⟨bs,P,hv⟩:=bY hr;obtain⟨HB,HR,au,HS,HJ,aF,HY,ax,N⟩:=yr hb hr t hs hJ V hY n<|λpre bi bf q(h:bq pre bi bf)=>ac pre bi bf (bf.drewN q) (λ_=>False) h (Z.aR<|below_drewN (Below.refl _ bf) q) cL;have bl:aW bf ⟨b,0,none⟩=H d:=hs.cell (.inl rfl) hb.cell;clear hb hr t hs hJ V n ac hY hD;subst hv;refine qX func215 rfl trivial ?_ rfl;simp only[ntmps215,fo,aY,dG,Nat.reduceAdd,Nat.reduceSub,eM,eL,fp,eX,cV,df];gi_wp2;gi_loopw [3,7] (λd c wr=>∃(k i:M)(pre:cJ (M×cR))(w:eV),d=ar k/\c=ar i/\k<=i/\i<=y e/\nQ 0 (im e)=pre++nQ k (im<|e.drop k)/\(∀j(E:j<y e),k<=j->j<i->∃h:j+1<y e,e[j+1].key=e[j].key)/\bq pre w wr/\(∀v,v=b->¬w v)/\kO zf n0 (λv=>v=b) a wr) (λ_ c _=>y e-(intOf c).toNat)
 case atStart=>exact⟨0,0,[],bi,rfl,rfl,ah _,bP _,rfl,λj _ _ h=>by omega,HJ,aF,HS⟩
 case round=>
  obtain⟨k,i,pre,w,rfl,rfl,ba,bn,hl,s,B,l,c⟩:=hrel;have bm:aW wr ⟨b,0,none⟩=H (I bs (y e) P):=c.cell (.inl rfl) HB.cell;obtain⟨HL,K,p,O⟩:=fY hl s B c;have g:=U l;by_cases n:i<y e
  .obtain⟨bg,f,x,hx,aa,m⟩:∃bg f x,I bs (y e) P=I (H ⟨bg,f,none⟩) (y e) x/\y e<=x/\∀j a,(aK e)[j]?=H a->aW wr ⟨bg,f+j,none⟩=H a:=by
    obtain⟨Q,⟨A,D⟩|⟨an,u,r,A,aa,C⟩⟩:=J HR
    .omega
    .exact⟨an,u,r,A,aa,λj a E=>c.cell (.inr ⟨au an (by rw[A];rfl),id⟩)<|C j a E⟩
   cases hx;have e1:(i:X)<(y e:X):=by omega
   have e2:(0:X)<=(i:X):=by omega
   have g0:=m _ _ (eI e i n).1;clear hl s B c l;by_cases hn:∃h:i+1<y e,e[i+1].key=e[i].key
   .obtain⟨o,r⟩:=hn;have g1:=m _ _ (eI e (i+1) o).1;rw[r]at g1;have u:=U (show∀j(E:j<y e),k<=j->j<i+1->∃h:j+1<y e,e[j+1].key=e[j].key fromλj E Q A=>by
     rcases mw (show j<=i by omega)with ad|ad
     .exact K j E Q ad
     grind)
    clear m r;generalize e[i].key=C at*;have e3:(i:X)+1<(y e:X):=by omega
    have e4:(0:X)<=(i:X)+1:=by omega
    gi_wp2;refine sS.2 ?_;go_quiet(fail)
    gi_wp2;go_roundw;case rel=>exact⟨k,i+1,pre,w,rfl,by go_num,by omega,by omega,HL,u,N _ _ _ _ p,g,O.trans ⟨ah _,λ_ _=>rfl⟩⟩
    case measure=>simp[intOf];omega
   .obtain⟨an,bb,bc,C,D⟩:=SE ba n (λj E Q A=>(K j (by omega) Q A).2)<|λh P=>hn ⟨h,P⟩;have u:(pre++[(k,an)])<+:nQ 0 (im e):=⟨nQ (k+y an)<|im<|e.drop<|i+1,by rw[J HL,D,nQ];simp⟩;have W:nQ 0 (im e)=(pre++[(k,an)])++nQ (i+1) (im<|e.drop<|i+1):=by rw[J HL,D,nQ,C,show k+(i+1-k)=i+1 by omega];simp
    have L:=U u;have av:=U W;have e6:(k:X)<=(i:X)+1:=by omega
    have e7:(i:X)+1<=(P:X):=by omega
    have e8:¬(P-k=0):=by omega
    have e9:(0:X)<=(k:X):=by omega
    have e4:(0:X)<=(i:X)+1:=by omega
    have aV:=U (λq=>show YieldAt Fence.wide (br-1) aZ lr #[I (H ⟨bg,f+k*4,none⟩) (i+1-k)<|P-k] (wr.drewN q) _ from by
     have:=HY pre (k,an) w (wr.drewN q) L (N _ _ _ q p) trivial;unfold Gq zG at this;simp only[C]at this;exact this)
    clear bb bc C D u W;rcases ik (i+1) (y e)with o|o;case' inl=>
     have g1:=m _ _ (eI e (i+1) o).1;have bk:=IJ<|λP=>hn ⟨o,P⟩;have e3:(i:X)+1<(y e:X):=by omega
    case' inr=>
     have e3:((i:X)+1<(y e:X))=False:=by simp;omega
    all_goals
     clear m hn;gi_wp2;refine sS.2 ?_;go_quiet(fail)
     obtain⟨fn,bh,al,body,hy,hR⟩:=aV nq;have aD:=U hR;clear hR;gi_wp2;refine⟨(λP=>(by cases P)),aD.mono ?_⟩;rintro bt W3(⟨rfl,_,B3,T,r,S⟩|⟨rfl,hx⟩)
     .have ap:=U T;have aU:=U r;have ao:=U S;clear T r S;gi_wp2;go_roundw;case rel=>
       have r:=J aU;have c:=J O;have bo:b<z (G wr):=ag (ak HB) c.1;refine⟨i+1,i+1,pre++[(k,an)],B3,by go_num,by go_num,ah _,by omega,av,λj _ Q A=>by omega,ap,λv F ad=>?_,?_⟩
       .rcases ao v ad with ad|ad
        .exact g v F ad
        .subst F;exact absurd (show z (G wr)<=_ from ad)<|by omega
       .refine c.trans<|kO.trans (b:=wr.drewN nq) ⟨ah _,λ_ _=>rfl⟩ ?_;exact r.same (aC bd c.1) (λv F=>⟨by simp_all,g v F⟩) (λv F a=>by have:=(ax _ _ _ p v F).1;omega)
      case measure=>simp[intOf];omega
     .have HX:=U hx;clear hx;gi_wp2;refine ct (iX rfl _ _ _) rfl ?_;exact⟨⟨_,rfl⟩,.inr ⟨_,HX⟩⟩
  .have o:i=y e:=by omega
   have f:k=y e:=by
    rcases ik k (y e)with ad|ad
    .obtain⟨h,_⟩:=s (y e-1) (by omega) (by omega) (by omega);omega
    .omega
   have m:=U (show nQ 0 (im e)=pre by rw[hl,f,gv];simp[im,nQ]);have e1:((i:X)<(y e:X))=False:=by simp;omega
   clear hl s B c l o f;gi_wp2;refine vS (iX rfl _ _ _) rfl ?_;first|refine⟨⟨_,rfl⟩,.inl ⟨⟨w,?_⟩,trivial⟩⟩|refine⟨⟨_,rfl⟩,.inl ⟨w,?_,trivial⟩⟩
   rw[J m];exact p
end
section
open Shelf
attribute [local go_sem] Oper.semAt_some
def SO(v:Array ab)(e:eR)(p:X->Bool)(A:Enters aZ b)(t:Row a 1 d (y e) (e.map<|Value.int .u64))(C:∀D,cK d=H D->D<z (G a))(hn:y e<=1000000000)(B:∀E∈e,∀W,Below (z<|G a) a W->cY aZ b (#[aE E]++v) W λw N=>w=aM (aN<|p E)/\Below (z<|G W) W N):cY aZ 216 #[d,.func (.func b) #[] v] a λw w'=>(∃D:X,w=aM (ar D)/\decide (0<=D)=e.any p)/\Below (z<|G a) a w':=by
 have eg:∀c a,(callFunc b c).run aZ a=.ok (.enter b c) a:=A;obtain⟨ac,ad,s⟩:=bY t;obtain⟨K,L,F⟩:=dz t C B;clear A t C B;subst s;go_in
 go_wp2;go_loopw [8] (λi wr=>∃n:M,n<=y e/\i=ar n/\Below (z<|G a) a wr/\(e.take n).any p=aX) (λi _=>y e-(intOf i).toNat)
 case atStart=>exact⟨0,bP _,rfl,Below.refl _ _,rfl⟩
 case round=>
  obtain⟨n,aa,rfl,f,k⟩:=hrel;have HB:=U f;by_cases j:n<y e
  .obtain⟨O,g,hx,T⟩:∃O g,ac=H (R O g)/\aW wr (R O<|g+n)=H (aE e[n]):=by
    obtain⟨h1,⟨x,h0⟩|⟨Q,l,u,x,V,S⟩⟩:=J K
    .omega
    .cases x;exact⟨Q,l,rfl,(f.cell (p:=(R Q<|l+n))<|L Q rfl).trans<|S n _<|by simp[j]⟩
   subst hx;have c:=F e[n] (aq j) wr f;have P:(n:X)<(y e:X):=by omega
   have e2:(0:X)<=(n:X):=by omega
   have o:(e.take<|n+1).any p=p e[n]:=by rw[ai j,List.any_append,k];simp
   have r:=U o;have q:=U<|aq j;clear f k o;generalize e[n]=E at*;cases hp:p E with
   |true=>
    rw[hp]at c;have l:=U<|show e.any p=ci from ol.2 ⟨E,q,hp⟩;clear hp;go_wp2_with(go_at_fn b;refine c.mono ?_;rintro w w1⟨rfl,i⟩;have m:=U i;clear i)
    go_ret;exact⟨⟨n,rfl,by rw[J l];simp⟩,HB.trans<|m.mono HB.size⟩
   |false=>
    rw[hp]at c;have l:=U<|r.trans hp;clear hp;go_wp2_with(go_at_fn b;refine c.mono ?_;rintro w w1⟨rfl,i⟩;have m:=U i;clear i)
    go_roundw;case rel=>exact⟨n+1,j,by go_num,HB.trans<|m.mono HB.size,l⟩
    case measure=>simp[intOf];omega
  .have c:n=y e:=by omega
   have g:=U (show e.any p=aX by rw[<-k,c,bI]);have P:((n:X)<(y e:X))=False:=by simp;omega
   clear f k c;go_wp2;go_ret;exact⟨⟨-1,rfl,by rw[J g];simp⟩,HB⟩
def JN(e:Array ab)(c:eR)(s:X->Bool)(j:Enters aZ b)(g:Row a 1 d (y c) (c.map<|Value.int .u64))(m:∀r,cK d=H r->r<z (G a))(q:y c<=1000000000)(k:∀u∈c,∀W,Below (z<|G a) a W->cY aZ b (#[aE u]++e) W λn p=>n=aM (aN<|s u)/\Below (z<|G W) W p):cY aZ 154 #[d,.func (.func b) #[] e] a λn t=>n=aM (aN<|c.any s)/\Below (z<|G a) a t:=by
 have h:=SO e c s j g m q k;obtain⟨x,w,f⟩:=bY g;clear j g m k;subst f;go_in
 go_wp2_with(go_at_call 216;refine h.mono ?_;rintro n v⟨⟨r,rfl,l⟩,i⟩;have o:=U l;have HB:=U i;clear l i)
 go_ret;rw[<-J o];exact⟨rfl,HB⟩
def Lw(i:M)(r:X)(O:i<y e)(N:0<i)(P:y e<=1000000000)(n:iM a b e[i])(o:eP a c d 87)(w:kC a d e)(l:eP a g (ar i) 3):cY aZ 153 #[aE r,aA b,aA c,aA g] a λD A=>D=aM (aN<|decide (e[i].bO<=r)&&decide (r<(e[i-1]'(by omega)).bO))/\A=a:=by
 obtain⟨_,_,_,Q⟩:=n.cells;have c1:=o.cell;have c2:=l.cell;obtain⟨p,x⟩:∃p,i=p+1:=⟨i-1,by omega⟩;subst x;obtain⟨v,⟨rfl,u⟩|⟨C,f,s,rfl,j,m⟩⟩:=w;omega;have k:p<y e:=by omega
 have L:aW a (R C<|f+p*4+3)=H (aE e[p].bO):=by rw[bw];exact m _ _ (eI e p k).2.2.2
 have E:(0:X)<=(p:X):=by omega
 have F:(p:X)<(y e:X):=by omega
 have K:IntKind.i64.wrap (p:X)=(p:X):=by rw[bN];omega
 have t:wrap64 (p:X)=(p:X):=by unfold wrap64;omega
 simp only[Nat.add_sub_cancel];generalize e[p].bO=S at*;generalize e[p+1].bO=B at*;clear n o l m v j;by_cases q:B<=r;(.simp only[q,ul,Bool.true_and];(go_in);go_wp2;go_ret;simp_all);simp only[q,Ah,xG];(go_in);go_wp2;go_ret;simp_all
structure rW(W0:Y)(S:eV)(bl:M)(lst:cR)(B:eV)(W:Y):Prop where
 row:∃v,eP W bl v 87/\W.ownsRow (z<|G W0) 171 4 v (y lst) (aK lst)/\∀k,B k↔k=bl\/cK v=H k
 aj:Z (λk=>k=bl\/S k) W0 W
def rW.lt{S B:eV}(j:rW a S c e B A){n0:M}(m:n0<=c)(n:n0<=z (G a)):∀k,B k->n0<=k/\k<z (G A):=by
 intro k h;obtain⟨v,l,d,g⟩:=j.row;rcases(g k).1 h with i|i;grind
 have:=d.lt k i;grind
def rW.stays{B T:eV}(m:rW a p b e B f)(h:Z T f A)(d:∀k,T k->¬B k/\(p k\/z (G a)<=k)):rW a p b e B A:=by
 obtain⟨v,i,l,c⟩:=m.row;exact⟨⟨v,(h.block _ (ak i)<|λj=>(d _ j).1<|(c _).2<|.inl rfl).trans i,h.own l<|λk g j=>(d k j).1<|(c k).2<|.inr g,c⟩,m.aj.trans h<|λk g=>(d k g).2.imp_left .inr⟩
def rW.more{e:Y}{S B:eV}{c xs:cR}(L:rW a S b c B f)(q:b<z (G a))(F:eP f b d 87)(D:Z ay f A)(C:eE A e d s)(h:e.ownsRow (z<|G a) 171 4 s (y c+y xs) (aK c++aK xs)):∃u,rW a S b (c++xs) u (cq e (R b 0) s)/\Z B f (cq e (R b 0) s)/\(∀k,u k->B k\/z (G f)<=k):=by
 obtain⟨l,o,E,v⟩:=L.row;obtain rfl:l=d:=by have K:=o.symm.trans F;simpa using K
 have w:Z (λk=>cK l=H k) f e:=(D.mono cL).trans (Z.ee (S:=λk=>cK l=H k) C.grown<|λk g=>.inl g)<|λk g=>.inl g;have r:∀k,k<z (G a)->¬cK l=H k:=λk g n=>by have:=(E.lt k n).1;omega
 have t:eP e b l 87:=(w.block _ (ak o)<|r _ q).trans o;have j:Z B f (cq e (R b 0) s):=(w.mono (T:=B)<|λk g=>.inl<|(v k).2<|.inr g).setCell _ _ _<|.inl<|(v _).2<|.inl rfl;refine⟨λk=>k=b\/cK s=H k,⟨⟨s,t.set _,?_,λk=>qY⟩,?_⟩,j,?_⟩;rw[af,fW];exact h.kept (dN e _ _ _) (by right;intro n;have:=(h.lt _ n).1;omega);refine L.aj.trans j<|λk g=>?_;grind
 rintro k(n|n);(grind);rcases C.vp with K|⟨O,K,N⟩;(grind);rw[K]at n;cases n;have:=D.size;grind
end
section
open Shelf
attribute [local go_sem] Oper.semAt_some
def fX{c base' l e n:M}(r:a.ownsRow c l e d n B)(k:base'<=c):a.ownsRow base' l e d n B:=by
 obtain⟨j,h⟩:=r;refine⟨j,?_⟩;rcases h with h|⟨q,g,i,m,b,o,p⟩;exact .inl h;exact .inr ⟨q,g,i,m,aC k b,o,p⟩
def Lx(a:eR)(l:cR):y (dI a l)<=y l:=(jn a l).length_le
def kC.aj{S:eV}{w w':Y}(h:kC w d e)(a:Z S w w')(c:∀k,cK d=H k->¬S k/\k<z (G w)):kC w' d e:=a.row h c
def kC.some(h:kC a d e)(l:0<y e):∃g b c,d=bD g b (y e) c/\y e<=c:=by
 obtain⟨j,⟨rfl,i⟩|⟨g,b,c,rfl,f,k⟩⟩:=h;omega;grind
def zO(c:eR)(h:kC a d e)(hs:dV e)(hl:y e<=1000000)(hm:Row a 1 s (y c) (c.map<|Value.int .u64))(eB:y c<=1000)(hv:∀k,cK d=H k->k<z (G a))(ce:∀k,cK s=H k->k<z (G a)):cY aZ 96 #[d,s] a λcr w'=>∃v',cr=aM v'/\w'.ownsRow (z<|G a) 171 4 v' (y<|dI c e) (aK<|dI c e)/\Z ay a w':=by
 obtain⟨i0,cc,cm,cn,co⟩:=di mZ;obtain⟨eg,F,cl⟩:=bY h;obtain⟨mx,mc,cf⟩:=bY hm;have dm:=AU d eg (y e) F cl;obtain⟨HH,HM,HV,ac⟩:=fY h hm hv ce;clear h hm hv ce;subst cf;subst cl;refine(dP (n:=3)).1 ?_;refine callsIn_of_wp_marks func96 rfl trivial ?_ rfl;simp only[ntmps96,fo,aY,dG,Nat.reduceAdd,Nat.reduceSub,eM,eL,fp,eX,cV,df];gi_wp2_with(refine⟨trivial,?_⟩;gi_at_call 152;refine(dP.2<|dm _).mono ?_;rintro cr w1⟨rfl,rfl⟩)
 obtain⟨o,E⟩:∃o,(cN (cN (cN a<|aw #[I mx (y c) mc] 203)<|aw #[az] 87)<|aw #[I eg (y e) F] 87)=o:=⟨_,rfl⟩;have fb:z (G o)=z (G a)+3:=by rw[<-E];simp
 have bn:Z ay a o:=by rw[<-E];exact((cF ay a).alloc _).alloc _
 have db:eP o (z<|G a) (I mx (y c) mc) 203:=by rw[<-E];grind[eP.alloc,aJ]
 have dc:eP o (z (G a)+1) az 87:=by rw[<-E];exact eP.alloc (aJ _<|by simp) _
 have dk:eP o (z (G a)+2) (I eg (y e) F) 87:=by rw[<-E];exact aJ _<|by simp
 have bd:kC o (I eg (y e) F) e:=HH.aj bn<|λk b=>⟨id,HV k b⟩;have hA0:rW o (λk=>k=z (G a)+2) (z (G a)+1) (dI c<|io []) (λk=>k=z (G a)+1) o:=⟨⟨_,dc,cO _ _ _ _,λk=>by simp[cK]⟩,Z.refl _ _⟩;rw[E];refine pj (m:=3) (arg:=Gq<|I eg (y e) F) (V:=zf) (n0:=z<|G a) (gf:=215) (lb:=#[aA<|z (G a)+2]) (l:=nQ 0<|im e) (S:=λk=>k=z (G a)+2) ?geval (enters_of func215 (by kernel_rfl) rfl) (λ_=>rfl) (wB (z<|G a) 2 dk bd HV (by omega)<|by omega) trivial (by omega) (λk b=>by omega) (λpre br bq=>rW o (λk=>k=z (G a)+2) (z (G a)+1) (dI c<|io pre) br bq) (λ_ _ _ _=>False) (λk=>k=z (G a)+1) hA0 (λk b F=>by omega) ?lt ?st (λ_ _ _ _ _ _ h=>h.elim) ?body ?done ?stop;case geval=>rfl
 case lt=>exactλpre br bq N=>N.lt (by omega)<|by omega
 (case st=>intro pre br bq g T N ht f;refine N.stays ht<|λk b=>⟨(f k b).1,?_⟩;rcases(f k b).2 with F|F|F;exact .inl F;exact F.elim;exact .inr F);(case stop=>grind)
 case body=>
  rintro lr pre⟨cs,p⟩br bq eA cB ed T N _;obtain⟨hn,fg,b⟩:=Jq hs T;have es:0<y p:=gl.2 b.ne;have ey:cs+y p+y fg=y e:=by rw[b.all,hn];simp;omega
  obtain⟨cu,D,em,hx,ew⟩:=bd.some (by omega);cases hx;have al:=Be bd b.all b.ne;rw[<-hn]at al;unfold Gq;unfold zG at al|-;simp only at al|-;have bE:∀k,br k->k<z (G bq):=λk b=>(N.lt (n0:=z<|G a) (by omega) (by omega) k b).2;obtain⟨HA,HK,HP,HN⟩:=fY N b T hn;clear N T b hn;gi_wp2;refine⟨(cF _ _),λW2 cj=>?_⟩;have bm:Z (λk=>k=lr) bq W2:=(cF (λk=>k=lr) bq).trans cj<|λk b=>.inl b;have hA2:=HA.stays bm (λk b=>by grind);have bh:eP W2 (z<|G bq) (bD cu (D+cs*4) (y p)<|F-cs) 87:=(cj.block _ (by simp)<|by omega).trans<|aJ _ rfl;have ea:=bh.cell;have en:=bm.size;have cT:z (G bq)<z (G W2):=ak bh;have eq:cu<z (G a):=HV cu rfl;gi_wp2;gi_loopw [15] (λb wr=>∃(m:M)(B1:eV),b=ar m/\m<=y p/\rW o (λk=>k=z (G a)+2) (z (G a)+1) (dI c (io pre)++dI c (p.take m)) B1 wr/\Z br W2 wr/\(∀k,B1 k->br k\/z (G W2)<=k)) (λb _=>y p-(intOf b).toNat)
  case atStart=>exact⟨0,br,rfl,bP _,by simpa[dI,lL]using hA2,Z.refl _ _,λk b=>.inl b⟩
  case round=>
   obtain⟨m,B1,rfl,et,hA1,j,O⟩:=hrel;by_cases A:m<y p
   .have an:kC wr (bD cu (D+cs*4) (y p)<|F-cs) p:=al.aj hA1.aj<|λk b=>(show cu=k by simpa[cK]using b)▸⟨λq=>by rcases q with q|q<;>omega,by omega⟩;have bg:eP wr (z<|G a) (I mx (y c) mc) 203:=(hA1.aj.block _ (by omega)<|by omega).trans db;have ch:Row wr 1 (I mx (y c) mc) (y c) (c.map<|Value.int .u64):=hA1.aj.row (bn.row HM<|λk b=>⟨id,ac k b⟩) (λk b=>by have:=ac k b;grind);have P:eP wr (z<|G bq) (bD cu (D+cs*4) (y p)<|F-cs) 87:=(j.block _ cT (λq=>by have:=bE _ q;omega)).trans bh;obtain⟨lv,n,r,ap⟩:=hA1.row;obtain⟨ex,ec,bk⟩:=aB r;have bi:=n.cell;have cd:=n.free;have av:=bg.cell;have ax:=P.cell;obtain⟨cE,⟨bL,cM⟩|⟨b',ef,dx,bL,cM,i⟩⟩:=id an
    .omega
    cases bL;have Q:=eI p m A;have g0:=i _ _ Q.1;have g1:=i _ _ Q.2.1;have g2:=i _ _ Q.2.2.1;have g3:=i _ _ Q.2.2.2;simp only[<-bw]at g1 g2 g3;have e1:(m:X)<(y p:X):=by omega
    have e2:(0:X)<=(m:X):=by omega
    have eo:=ak bg;have dn:=ak n;have ck:=ak P;have cb:cu<z (G wr):=cC _ _ g0;have eb:y (dI c (io pre)++dI c (p.take m))+1<=2000000:=by
     have q1:=Lx c<|io pre;have q2:=Lx c<|p.take m;have q3:y (io pre)=cs:=HN.symm;have v:=sj m p;rw[af];omega
    have bl:=Sd (ms:=c) HK.same A;have L:=U (show∀(u t:Y)v5,Z ay wr u->eE u t lv v5->t.ownsRow (z<|G o) 171 4 v5 (y (dI c (io pre)++dI c (p.take m))+1) (aK (dI c (io pre)++dI c (p.take m))++aK [p[m]])->wanted c p m A=ci->∃B1,rW o (λk=>k=z (G a)+2) (z (G a)+1) (dI c (io pre)++dI c (p.take<|m+1)) B1 (cq t (R (z (G a)+1) 0) v5)/\Z br W2 (cq t (R (z (G a)+1) 0) v5)/\(∀k,B1 k->br k\/z (G W2)<=k)fromλu t v5 ht x w l=>by
     obtain⟨v,q1,q2,q3⟩:=hA1.more (xs:=[p[m]]) (by omega) n ht x w;rw[bl,dH l,<-bA];refine⟨v,q1,j.trans q2 O,λk b=>?_⟩;grind[Nat.le_trans,Z.size])
    have aV:=U (show∀(u:Y),Z ay wr u->wanted c p m A=aX->rW o (λk=>k=z (G a)+2) (z (G a)+1) (dI c (io pre)++dI c (p.take<|m+1)) B1 u/\Z br W2 u fromλu ht l=>by
     rw[bl,dF (by simp[l]),dM];exact⟨hA1.stays ht cL,j.cz ht⟩)
    obtain⟨bs,bv,aD,ek,cx,aF,K,ei,ej⟩:=yr hA1 j O an ch n r P i;clear hA1 j O ch n r ap bg i Q cE bl;generalize dT:dI c (io pre)++dI c (p.take m)=f at*;subst bk;have cv:=U (show 0<m->∀a d:Y,Z ay wr a->Below (z<|G a) a d->eP a (z<|G wr) (ar m) 3->iM a (z (G wr)+1) p[m]->∀cp,cY aZ 153 (#[aE cp]++#[aA<|z (G wr)+1,aA<|z<|G bq,aA<|z<|G wr]) d λcr c=>cr=aM (aN<|decide (p[m].bO<=cp)&&decide (cp<(p[m-1]'(by omega)).bO))/\Below (z<|G d) d c fromλh0 a d w v q1 q2 cp=>by
     apply(Lw m cp A h0 (by omega) (q2.below v (ak q2)) ((v.block _ (ag ck w.size)).trans ((w.block _ ck id).trans P)) ((an.aj w (λk b=>⟨id,(show cu=k by simpa[cK]using b)▸cb⟩)).below v (λk b=>(show cu=k by simpa[cK]using b)▸ag cb w.size)) ((v.block _ (ak q1)).trans q1)).mono;grind[Below.refl])
    clear an P;have bx:=U<|show wanted c p m A=(decide (m=0)||c.any (λcp=>decide (p[m].bO<=cp)&&decide (cp<(p[m-1]'(by omega)).bO)))from rfl;generalize er:p[m]=dv at*;obtain⟨yk,yv,yd,W⟩:=dv;simp only at g0 g1 g2 g3;rcases gB m with h0|h0
    .subst h0;simp only[Ai,kH]at g0 g1 g2 g3;have g:Z ay wr (cN (cN wr<|aw #[ar 0] 3)<|aw #[am yk,am yv,aN yd,aE W] 171):=(cF _ _).alloc _;have v:=U<|g.own K<|λ_ _ F=>F;have aa:=U (show∀t:Y,(cN (cN (cN wr<|aw #[ar 0] 3)<|aw #[am yk,am yv,aN yd,aE W] 171)<|aw #[am yk,am yv,aN yd,aE W] 171).grownBy t (cK<|I ex (y f) ec)->aW t (R (z (G a)+1) 0)=H (I ex (y f) ec)/\t.frozen? (R (z (G a)+1) 0)=aX fromλt hg=>by
      have x:eP t (z (G a)+1) (I ex (y f) ec) 87:=(hg.block _ (by have:=ak aF;simp;omega) (λcr=>by have:=(K.lt _ cr.symm).1;omega)).trans (eP.alloc (eP.alloc (eP.alloc aF _) _) _);exact⟨x.cell,x.free⟩)
     have ad:=U g;clear g;gi_wp2_with fail
     refine⟨trivial,?_⟩;gi_wp2_with(first
      |(gi_at_builtin;refine fi _ rfl (.tmp 28) (.tmp 30) 87 rfl (z (G o)) 171 i0 wo 4 48 underlying87 cc cm cn co rfl (by decide) (.slice ex (y f) ec) (y f) (aK f) rfl (aT v (.cells #[.string yk,.string yv,.bool yd,.int .u64 W] 171)) (R (z (G wr)+1+1) 0) 1 1 (aK [⟨yk,yv,yd,W⟩]) rfl (by rw[fV];rfl) (za ⟨yk,yv,yd,W⟩ _ (by simp)) (BR _) (by omega) (by omega) (by simp;omega) ?_;intro v5 t B C;obtain⟨x5,c5,bo⟩:=aB B;subst bo;have w:=aa t C.grown;obtain⟨dr,ds⟩:=w;have aU:=U B;have bb:=U C;clear B C))
     refine⟨⟨1,?_⟩,by simp[intOf];omega⟩;obtain⟨B2,r1,r2,r3⟩:=L _ t _ ((ad).alloc _) bb aU (by rw[J bx];simp);grind
    .have e0:((m:X)==0)=aX:=by simp;omega
     obtain⟨u,v⟩:∃u,cN (cN wr<|aw #[ar m] 3) (aw #[am yk,am yv,aN yd,aE W] 171)=u:=⟨_,rfl⟩;have g:Z ay wr u:=by rw[<-v];exact(cF _ _).alloc _
     have x:=JN #[aA<|z (G wr)+1,aA<|z<|G bq,aA<|z<|G wr] c _ (enters_of func153 (by kernel_rfl) rfl) (g.row cx<|λk b=>⟨id,by have:=ac k b;omega⟩) (λk b=>by have:=ac k b;have:=g.size;omega) (by omega)<|λcp _ d a=>cv h0 u d g a (by rw[<-v];grind[eP.alloc,aJ]) (by rw[<-v];exact aJ _<|by simp) cp;have bp:=J bx;rw[show decide (m=0)=aX by simp;omega,zk]at bp;rw[<-bp]at x;have bT:iM u (z (G wr)+1) ⟨yk,yv,yd,W⟩:=by rw[<-v];exact aJ _<|by simp
     have ca:eP u (z (G a)+1) (I ex (y f) ec) 87:=(g.block _ dn id).trans aF;have fe:=g.size;obtain⟨bt,aa,ad,el⟩:=fY bT ca g v;clear bT ca g bp;cases l:wanted c p m A with
     |true=>
      rw[l]at x;have bc:=U l;clear l;subst v;gi_wp2_with fail
      refine⟨trivial,(CallsIn.inRound lr<|dP.2 x).mono ?_⟩;rintro cr w4⟨rfl,w⟩;have au:=ad.cz<|Z.aR (S:=ay) w;have i:=bt.below w<|ak bt;have ao:eP w4 (z (G a)+1) (I ex (y f) ec) 87:=(w.block _<|ak aa).trans aa;obtain⟨z0,z1,z2,z3⟩:=i.cells;simp only at z0 z1 z2 z3;have z4:=ao.cell;obtain⟨bu,ba,cw⟩:=dz (au.own K<|λ_ _ F=>F) au ao;have fd:=au.size;have eu:=ak i;have ev:=ak ao;clear au i ao w x bi cd av ax g0 g1 g2 g3;generalize z (G wr)+1=ff at*;gi_wp2_with(first
       |(gi_at_builtin;refine fi _ rfl (.tmp 28) (.tmp 30) 87 rfl (z (G o)) 171 i0 wo 4 48 underlying87 cc cm cn co rfl (by decide) (.slice ex (y f) ec) (y f) (aK f) rfl (aT bu (.cells #[.string yk,.string yv,.bool yd,.int .u64 W] 171)) (R (z (G w4)) 0) 1 1 (aK [⟨yk,yv,yd,W⟩]) rfl (by rw[fV];rfl) (za ⟨yk,yv,yd,W⟩ _ rfl) (BR _) (by omega) (by omega) (by simp;omega) ?_;intro v5 t B C;obtain⟨x5,c5,bo⟩:=aB B;subst bo;have bf:eP t (z (G a)+1) (.slice ex (y f) ec) 87:=(C.grown.block _ (by simp;omega) (λcr=>by have:=(bu.lt _ cr.symm).1;omega)).trans (cw.alloc _);have dr:=bf.cell;have ds:=bf.free;have aU:=U B;have bb:=U C;clear B C bf))
      refine⟨⟨m+1,?_⟩,by simp[intOf];omega⟩;obtain⟨B2,r1,r2,r3⟩:=L _ t _ (ba.alloc _) bb aU bc;exact⟨B2,by go_num,by omega,r1,r2,r3⟩
     |false=>
      rw[l]at x;have bc:=U l;clear l;subst v;gi_wp2_with fail
      refine⟨trivial,(CallsIn.inRound lr<|dP.2 x).mono ?_⟩;rintro cr w4⟨rfl,w⟩;have ba:=U<|ad.cz<|Z.aR (S:=ay) w;clear x w bi cd av ax g0 g1 g2 g3;gi_wp2;refine⟨⟨m+1,?_⟩,by simp[intOf];omega⟩;obtain⟨r1,r2⟩:=aV _ ba bc;exact⟨B1,by go_num,by omega,r1,r2,aD⟩
   .have f:m=y p:=by omega
    have e1:((m:X)<(y p:X))=False:=by simp;omega
    obtain⟨bs,bv,aD⟩:=dz hA1 j O;clear hA1 j O;gi_wp2;have j:=J bv;have hA1:=J bs;refine⟨trivial,B1,?_,(bm.mono<|λk b=>.inl<|.inr b).trans j<|λk b=>.inl<|.inl b,j.block lr (by omega) cB,λk b=>(aD k b).imp_right<|λF=>by omega⟩;show rW o _ _ (dI c<|io<|pre++[(cs,p)]) B1 wr;rw[tT,(J HK).Lz,show dI c p=dI c (p.take m)by rw[f,bI]];exact hA1
 (case done=>intro D br bq l N i _ j;obtain⟨lv,n,r,ap⟩:=N.row;rw[Bb]at r;obtain⟨ex,ec,bk⟩:=aB r;have bi:=n.cell;obtain⟨HA,K,g,HK⟩:=fY N r ap j;have m:=ak j;clear N n r ap j;subst bk;gi_wp2;have f:=gF bq D<|.deferred none;refine⟨by simp,.inl ⟨_,_,rfl,run_takeDeferred HK,?_⟩⟩;refine⟨_,iw rfl _ _ _,?_⟩;have hx:=f.own K<|λk b F=>i<|(g D).2<|.inr (by rw[<-F];exact b);refine⟨_,rfl,fX hx (by omega),bn.trans (HA.aj.trans f<|λk b=>.inr (by subst b;omega))<|λk b=>.inr (by rcases b with F|F<;>omega)⟩)
end
def Tr(c:cR)(x:E):fP (c++[x])=fP c++Ce x:=by simp[fP]
def yu(c d:cR):fP (c++d)=fP c++fP d:=by simp[fP]
def Qq{c:cR}(h:∀x∈c,x.Good):y (fP c)<=35*y c:=by
 induction c with
 |nil=>simp[fP]
 |cons x r d=>
  have a:=uF (h x<|by simp);have f:=d (λa b=>h a<|by simp[b]);have e:fP (x::r)=Ce x++fP r:=by simp[fP]
  rw[e,af,aY];omega
def Er(h:kC a d e)(hv:∀an,cK d=H an->an<z (G a))(hg:∀aV∈e,aV.Good)(hl:y e<=1000):cY aZ 221 #[d] a λao w'=>∃v',ao=aM v'/\fc w' (z<|G a) v' (fP e)/\Z ay a w':=by
 obtain⟨aV,au,al⟩:=bY h;obtain⟨HH,HV,HG⟩:=dz h hv hg;clear h hv hg;subst al;go_in
 go_wp2;go_loopw [3,8] (λc b wr=>∃l:M,l<=y e/\b=ar l/\fc wr (z<|G a) c (fP<|e.take l)/\Z ay a wr) (λ_ b _=>y e-(intOf b).toNat)
 case atStart=>exact⟨0,bP _,rfl,by simpa[fP]using fc.nil _ _,Z.refl _ _⟩
 case round=>
  obtain⟨l,hi,rfl,u,x⟩:=hrel;obtain⟨N,L,t⟩:=aB u;by_cases m:l<y e
  .have i:=HG _<|aq m;obtain⟨V,⟨A,W⟩|⟨ap,v,av,A,W,B⟩⟩:=J HH
   .omega
   cases A;have aa:ap<z (G a):=HV ap rfl;have f:∀j u,(aK e)[j]?=H u->aW wr (R ap<|v+j)=H u:=λj u a=>x.cell (B j u a) id aa;have g:=eI e l m;have g0:=f _ _ g.1;have g1:=f _ _ g.2.1;have g2:=f _ _ g.2.2.1;have g3:=f _ _ g.2.2.2;simp only[<-bw]at g1 g2 g3;have aD:y (fP<|e.take l)<=35000:=by
    have:=Qq (c:=e.take l)<|λw a=>HG w<|dZ a;have:=sj l e;omega
   have Q:=U (show fP (e.take<|l+1)=fP (e.take l)++Ce e[l]by rw[ai m,Tr]);have aF:=x.size;have T:=U x;have j:cK (I N (y<|fP<|e.take l) L)≠H (z<|G wr):=λao=>by rw[<-t]at ao;have:=(u.lt _ ao).2;omega
   have e1:(l:X)<(y e:X):=by omega
   have e2:(0:X)<=(l:X):=by omega
   have K:=U u;clear B g f x u V;generalize fP (e.take l)=s at*;subst t;generalize e[l]=w at*;obtain⟨q,r,p,k⟩:=w;simp only at g0 g1 g2 g3;have k1:=i.Mf;have k2:=i.val;have k3:=i.b0;have k4:=i.b1;simp only at k1 k2 k3 k4;clear i;have C:fc (cN wr<|aw #[am q,am r,aN p,aE k] 171) (z<|G a) (I N (y s) L) s:=aT K _;have P:=U C;clear C;go_wp2_with fail
   go_region_held3(λe=>aW e (R (z<|G wr) 0)=H (am q)/\aW e (R (z<|G wr) 1)=H (am r)/\aW e (R (z<|G wr) 2)=H (aN p)/\aW e (R (z<|G wr) 3)=H (aE k)) (first|assumption|go_keep) (first
    |(go_at_call 178;refine(py (baseqq:=z<|G a) (v:=(.slice N (y s) L)) (bs:=s) k (w:=(cN wr<|.cells #[.string q,.string r,.bool p,.int .u64 k] 171).drew) (P.of_heap rfl) (by simp;omega) (by omega) k3 k4).mono ?_;rintro ao F⟨v1,rfl,D,b⟩;have n:cK v1≠H (z<|G wr):=b.ne j (by simp);have o:aW F (R (z<|G wr) 0)=H (.string q)/\aW F (R (z<|G wr) 1)=H (.string r)/\aW F (R (z<|G wr) 2)=H (.bool p)/\aW F (R (z<|G wr) 3)=H (.int .u64 k):=⟨b.cell (by simp) j,b.cell (by simp) j,b.cell (by simp) j,b.cell (by simp) j⟩;have aU:z (G wr)<z (G F):=(by have:=b.grown.size;simp at this;omega);have O1:=U D;have W1:=U b;clear D b)
    |(go_at_call 180;refine(PW (z (G a)) v1 (s++le 8 k) ⟨q,r,p,k⟩ _ ?_ (by omega) (by simp[cH];omega) (by grind) (by grind)).mono ?_;exact O1.of_heap rfl;rintro ao O⟨v2,rfl,E,c⟩;have ax:aW O (R (z (G wr)) 0)=H (.string q)/\aW O (R (z (G wr)) 1)=H (.string r)/\aW O (R (z (G wr)) 2)=H (.bool p)/\aW O (R (z (G wr)) 3)=H (.int .u64 k):=⟨c.cell o.1 n,c.cell o.2.1 n,c.cell o.2.2.1 n,c.cell o.2.2.2 n⟩;have O2:=U E;have W2:=U (W1.trans c);clear E c))
   go_wp2;have hW:=J W2;have ac:Z ay a (cN wr<|aw #[am q,am r,aN p,aE k] 171):=T.alloc _;have ad:Z ay a (cN wr<|aw #[am q,am r,aN p,aE k] 171).drew:=ac.trans (S:=ay) ⟨rfl,rfl,rfl,ah _,λ_ _ _=>rfl⟩<|λ_ au=>.inl au;refine⟨⟨l+1,m,by go_num,?_,ad.trans (Z.ee (S:=λan=>cK (I N (y s) L)=H an) hW.grown<|λan hk=>.inl hk)<|λan hk=>.inr (K.lt an hk).1⟩,by simp[intOf];omega⟩;rw[J Q];have:=J O2;rwa[bA]at this
  .have b:l=y e:=by omega
   have e1:((l:X)<(y e:X))=False:=by simp;omega
   subst t;rw[b,bI]at u|-;have K:=U u;have T:=U x;clear u x;go_wp2;go_ret;exact⟨_,rfl,K,T⟩
section
open Shelf
attribute [local go_sem] Oper.semAt_some
section
variable{F:Fence}{n:M}{P:Program}(w:Y){ops:Array Oper}{rest:cJ Oper}{o:Oper}{a:Act}{Q:Exit->Act->Y->Prop}
theorem Dq(i:o.guard=none)(f:Operand)(t:TypeId)(b:o.op=Op.range t f)(v s:TypeId)(k:P.underlying t=H (.map v s))(g:M)(m:jM)(j:a.eval f=.map (H g))(u:oP w g m)(h:∀c,qp c g (z<|G w) m m->w.grownBy c none->z (G c)=z (G w)+1->wpListIn F n P ops Q rest (a.put o.dst<|aA<|z<|G w) c):wpListIn F n P ops Q (o::rest) a w:=by
 refine xA i λr e=>?_;obtain⟨c,d,l,p,q⟩:=NU k u;unfold Oper.wpIn;refine⟨?_,?_⟩;simp[Oper.about,b];rw[Oper.semAt_plain F _ _ (by rw[b];grind)];simp[execOp,b,j,d,Result.andThen];exact e _ _<|h c l p q
theorem DH(s:o.guard=none)(i:Operand)(d:o.op=Op.next i aX)(u r:M)(v left:jM)(sa:a.eval i=aA r)(A:qp w u r v left)(f:left=[]->wpListIn F n P ops Q rest (a.put o.dst<|dq #[aN aX]) w)(g:∀pre p b e,left=pre++p::b->qp e u r v (pre++b)->w.grownBy e (H r)->z (G e)=z (G w)->(Instr.entry<|aA r).run P e=.ok (dq #[ar p.1,p.2]) e->wpListIn F n P ops Q rest (a.put o.dst<|dq #[aN ci,ar p.1,p.2]) e):wpListIn F n P ops Q (o::rest) a w:=by
 refine xA s λx h=>?_;unfold Oper.wpIn;refine⟨?_,?_⟩;simp[Oper.about,d];rw[Oper.semAt_plain F _ _ (by rw[d];grind)];rcases Ru (P:=P) A o.type with⟨j,c⟩|⟨pre,p,b,e,t,c,k,l,m,q⟩;simp[execOp,d,sa,c,Result.andThen];exact h _ _<|f j;simp[execOp,d,sa,c,Result.andThen];exact h _ _<|g pre p b e t k l m q
end
def YF(v:X):Array ab:=#[aE v]
def xL(m:jM)(b:eR):Prop:=m.map (·.2)=b.map (Value.int .u64)
theorem IC(n0 cn q ad:M)(bE:jM)(S:eR)(w:Y)(hb:eP w q (.map<|H ad) 78)(hm:oP w ad bE)(bh:xL bE S)(bu:ad<n0)(bv:n0<=z (G w)):Zd YF zf n0 cn 219 #[aA q] (λcj _=>∃co,(cj++co).Perm S) (λcj=>cj.Perm S) (λk=>k=q) w:=by
 intro lr cm Jx cl bk hs hD hJ ax aV bb hY;have ca:aW bk (R q 0)=H (.map<|H ad):=hs.cell (.inl rfl) hb.cell;have ba:oP bk ad bE:=hm.dw<|hs.2 ad<|.inl ⟨bu,id⟩;obtain⟨HB,HM,bt,HS,HJ,bo,HY,aa,ac⟩:=yr hb ba bh hs hJ ax hY aV bb;clear hb hm bh hs hJ ax aV bb hY hD ba;refine qX func219 rfl trivial ?_ rfl;simp only[ntmps219,fo,aY,dG,Nat.reduceAdd,Nat.reduceSub,eM,eL,fp,eX,cV,df]
 gi_wp2_with(first
  |(refine Dq _ rfl _ 78 rfl 3 88 underlying78 ad _ rfl HM ?_;intro w0 t aD ce;have V:=U t;have l:=U aD;clear t aD))
 have L:=HS.1;have cc:q<z (G bk):=ag (ak HB) L;have N:Z ay bk w0:=Z.ee l (by simp);have r:=aa _ _ _ HJ;gi_loopg [] (y bE) (λk wr=>∃(pre:eR)(left:jM)(vl:eR)(x:eV),y left=k/\xL left vl/\(pre++vl).Perm S/\qp wr ad (z<|G bk) bE left/\cm pre x wr/\(∀k,k=q->¬x k)/\kO zf n0 (λk=>k=q) w wr/\¬x (z<|G bk))
 (case atStart=>refine⟨[],bE,S,cl,rfl,bt,lU _,V,ac _ _ _ _ _ HJ N cL,bo,HS.trans<|N.same (aC bv L) (λk e=>⟨by grind,id⟩) cL,λK=>by have:=(r _ K).2;omega⟩);(case round=>obtain⟨pre,left,vl,x,aU,b,g,aF,av,s,c,an⟩:=hrel;have cb:aW wr (R q 0)=H (.map<|H ad):=c.cell (.inl rfl) HB.cell;obtain⟨D,C,W,B⟩:=fY b g aF av;have p:=U s;obtain⟨bp,A,bm⟩:=dz c an aU;clear b g aF av s c an aU V l N r;(gi_wp2_with(first|(refine DH _ rfl _ rfl ad (z<|G bk) _ _ rfl W ?_ ?_)));(.intro d;subst d;(have f:vl=[]:=by have:=J D;unfold xL at this;simpa using this.symm);subst f;gi_wp2;refine vS (iX rfl _ _ _) rfl ?_;exact⟨⟨_,rfl⟩,.inl ⟨pre,x,by simpa using J C,B,trivial⟩⟩);(.intro j pk pv i w1 hl u v bc bL;subst hl;have b:=J D;unfold xL at b;rw[aP,cy]at b;obtain⟨va,vd,rfl,bd,bg⟩:=iJ.1 b.symm;obtain⟨ck,vc,rfl,hv,bf⟩:=nF.1 bg;simp only at hv;subst hv;have O:Z (λk=>k=z (G bk)) wr w1:=Z.ee v (λk e=>by grind);obtain⟨br,f,bs⟩:=dz O u (show xL (j++i) (va++vc)from by unfold xL;rw[aP,aP,bd,bf]);have m:=U<|show((pre++[ck])++(va++vc)).Perm S from List.Perm.trans (by rw[bA];grind) C;have ap:=ac _ _ _ _ _ B O (λk e=>by subst e;exact⟨A,.inr<|.inr L⟩);have E:=U<|HY pre ck x w1 ⟨va++vc,m⟩ ap trivial;clear O u v b bd bg bf ap D C W;unfold YF at E;obtain⟨fn,bT,bi,body,hy,hR⟩:=J E;have bn:=U hR;clear hR E;gi_wp2;refine⟨(λK=>(by cases K)),bn.mono ?_⟩;rintro cp W3(⟨rfl,_,B3,au,d,al⟩|⟨rfl,hx⟩);(.have bl:=U au;have bq:=U d;have T:=U al;clear au d al;gi_wp2;(gi_roundg (y<|j++i));(case measure=>have:=J bm;grind);(case rel=>have d:=J bq;have c:=J bp;have ch:z (G wr)=z (G w1):=bc.symm;have bx:=f.lt;have cd:=f.ne;have ao:∀k,x k->n0<=k:=λk e=>(aa _ _ _ B k e).1;have cf:=c.1;refine⟨pre++[ck],j++i,va++vc,B3,rfl,bs,m,f.kept (d.block ad (by omega) (λK=>by have:=ao _ K;omega))<|d.block _ bx A,bl,λk e K=>?_,?_,λK=>?_⟩;(rcases T k K with K|K;exact p k e K;grind);refine(c.trans<|br.same (by omega) (λk e=>⟨by omega,by omega⟩)<|λk e b=>by omega).trans<|d.same (by omega) (λk e=>⟨by omega,p k e⟩) (λk e b=>by have:=ao k e;omega);rcases T _ K with K|K;exact A K;omega));have T:=U hx;clear hx;gi_wp2;refine ct (iX rfl _ _ _) rfl ?_;exact⟨⟨_,rfl⟩,.inr ⟨_,T⟩⟩))
end
