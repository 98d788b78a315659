import Derived.Shelf.Pu.ParseUintPublic10
import Derived.Test.YtbgjhlkoccmfaaaGreatDoorC6
open _root_ renaming List.length→y,Option.some→M,Array.size→G,Go.World.heap→H,Go.Value.ownBlock→cN,Go.World.cell?→bA,Go.World.setCell→cP,Go.World.alloc→dw,Bool.false→bD,Bool.true→cz,Nat→R,Int→Y,List→cy,Go.Calls→cR,Go.undef→jm,Go.Proofs.Tryz.prog→bN,Go.Value.slice→am,Go.Value.string→aw,Go.Value.bool→aO,Go.Value.tuple→de,Go.Value.agg→ef,Go.World.frozen?→iH,Go.World.ownsRow→fD,Go.Value.nilIface→ib,Go.Act.put→ig,Nat.reduceAdd→jZ,Go.RowKit.Below→gC,Bool→eN,Option.none→dE,rfl→z,Or.inl→J,Or.inr→bj
namespace Go.Proofs.YtbgjhlkoccmfaaaGreatDoor
open ChangeShapes WideShapes RowKit Proofs.Tryz List
set_option maxHeartbeats 16000000
set_option linter.all false
set_option maxRecDepth 100000
variable{a e P:Z}{b c k n T:R}{d w:ae}{f x:DK}{i:dB}{l v C F:dI}{m:eD}{o:SR}{W:fB}{r:Y}{s:ju}{B:af}{K:Prop}{L:la}{N:Fs}{Q:iE}{S:E}{V:eN}
def P8(w c:Z)(b:R)(s:SR)(n:Y)(o C:R)(K:DK)(d:dI)(m:Ending):Prop:=(m=aN ib/\∃i j k l a dz e f g h,MQ w c b s n o C K d i j k l a dz e f g h)\/∃v a,m=aN v/\MM w c b s n K a C v
def Gk{K:dB}(mv:ae)(cc gj:R)(h:cU a b o r)(k:ST a b o f i l v C F c)(bL:((l++v++C++F).map cH.tb).Nodup)(hm:lF a mv K)(fs:∀r,cN mv=M r->r<G (H a))(em:gF K)(et:sk 5 K)(ej:∀hh∈K,hh.Good)(fu:y K<=100)(hC:ik l+ik v+ik C+ik F+y K<=cc)(fd:cc<=3000000000)(er:2<=o.ua)(hn:gj<18446744073709551616)(fL:o.t<18446744073709551616)(fr:o.l<18446744073709551616)(fv:y f.l<=100000000000)(sn:gI)(gc:MP a f b o sn)(gb:qp f.fx):cR bN 78 #[aJ b,mv,bw gj] a λex w'=>P8 a w' b o r gj cc f (l++v++C++F) ex:=by
 have cB:=az h;have bd:=k.zbq (C':=cc) cB bL U fd;have ec:=λd wr v0 v1 v2 v3 a1 b1 c1 d1 b a=>Gj d cc gj wr v0 v1 v2 v3 a1 b1 c1 d1 b a h k hn fL fr fv gb;let⟨y0,z0,cp⟩:=cG k.l0.bV;let⟨y1,z1,cr⟩:=cG k.l1.bV;let⟨y2,z2,cs⟩:=cG k.l2.bV;let⟨y3,z3,cu⟩:=cG k.l3.bV;have hc:bA a (X b 10)=M (am y0 (y l) z0):=cp▸h.u z;have hd:bA a (X b 11)=M (am y1 (y v) z1):=cr▸h.u z;have he:bA a (X b 12)=M (am y2 (y C) z2):=cs▸h.u z;have hg:bA a (X b 13)=M (am y3 (y F) z3):=cu▸h.u z;rw[cp,cr,cs,cu]at bd;let⟨B,cm⟩:∃B,dw a (aK #[am y0 (y l) z0,am y1 (y v) z1,am y2 (y C) z2,am y3 (y F) z3] 108)=B:=⟨_,rfl⟩;have ab:I aC a B:=cm▸(cI _ _);have ds:B.heap[G<|H a]?=M (aK #[am y0 (y l) z0,am y1 (y v) z1,am y2 (y C) z2,am y3 (y F) z3] 108 (0,0)):=cm▸aQ _ z;have m:=bd.aA (ab.aT cY)<|(nW o.f f).l bd.D ab cY;have ck:cU B b o r:=(ab.A b cB id).trans h;have co:=k.f.lt;have ca:=k.l;let⟨mx,mc,fx⟩:=cG hm;have gt:G (H B)=G (H a)+1:=by rw[<-cm];simp
 clear bL bd cp cr cs cu;subst fx;let⟨d,ed⟩:∃d,G (H a)=d:=⟨_,rfl⟩;have eg:G (H a)<=d:=U;by_cases hz:y K=0;(case' pos=>have bx:¬(0:Y)<(y K:Y):=U;have j:K=[]:=bG hz;have D:=ak<|show MR a b o r d f (l++v++C++F) cc B from⟨_,_,_,_,l,v,C,F,[],m,by rw[<-ed];exact ds,ck,ab.aT cY⟩;clear j;(go_in);go_wp21;let⟨W7,E⟩:∃W7,B=W7:=⟨_,rfl⟩;rw[E];rw[E]at D;clear E)
 case' neg=>
  have bx:(0:Y)<(y K:Y):=U;let⟨mg,mo,en,ek,P⟩:∃ev L,mx=M (X ev L)/\y K<=mc/\∀db gv,(bu K)[db]?=M gv->bA a (X ev<|L+db)=M gv:=by
   obtain⟨_,⟨q1,q2⟩|⟨ev,L,ha,q1,q2,q3⟩⟩:=hm
   .grind
   grind
  subst en;have fz:K≠[]:=aI;have cv:mg<G (H a):=fs mg z;have ba:I aC a B.drew:=ab.t<|cf aC B;have bE:=Gb K mg mo mc B.drew (λdb hj=>ba.u (k.t.o db hj) id k.t.i.lt) (bP ba.D) (λdb gv hj=>ba.u (P db gv hj) id cv) ek U ej em (λq hq=>aR (et.Hm q hq) U) U;clear P;go_in
  go_wp21;rename_i QQ KK ax ga;have hS:B.drew.heap[d]?=M (aK #[am y0 (y l) z0,am y1 (y v) z1,am y2 (y C) z2,am y3 (y F) z3] 108 (0,0)):=by rw[<-ed];exact ds
  refine cX (λ(j4:Z)=>j4.heap[d]?=M (aK #[am y0 (y l) z0,am y1 (y v) z1,am y2 (y C) z2,am y3 (y F) z3] 108 (0,0))) 8 z ?_;refine dH 0 ?_;iterate 3 (refine vf (v:=?_) hS z aH wO z ?_ ?_;rotate_left;(focus(intro j4 hX;have x0:bA j4 (X d 0)=M (am y0 (y l) z0):=(by rw[cE hX];rfl);go_simp;try rfl));simp only[ig,eh,jZ])
  apply eS;refine aW 3 ?_;intro K3 an;go_simp;go_call bE as ex g⟨j8,j,gs,N,xb,O,rfl,hf⟩;let⟨eo,bi,br⟩:=ZH hf fz ej em fu;have W:=(hf.aA.A d (az hS) id).trans hS;refine an _ _ (λ_=>W) ?_;clear an bE;try simp only[ig,eh]
  refine aW 4 ?_;intro K4 ao;go_simp;have cM:I aC g (dw g<|aK #[aJ j8] 235):=(cI _ _);have dv:=(cM.A d (az W) id).trans W;refine ao _ _ (λ_=>dv) ?_;clear ao;try simp only[ig,eh]
  refine aW 5 ?_;intro K5 ap;go_simp;let⟨W5,aD⟩:∃W5,dw (dw g<|aK #[aJ j8] 235) (aK #[am y0 (y l) z0,bX (G<|H g) 0 1 1] 106)=W5:=⟨_,rfl⟩;have bl:I aC g W5:=by rw[<-aD];exact cM.aE _
  have bf:=(bl.A d (az W) id).trans W;have bs:W5.heap[G<|H g]?=M (aK #[aJ j8] 235 (0,0)):=by rw[<-aD];grind[gw,aQ]
  have aU:W5.heap[G (H g)+1]?=M (aK #[am y0 (y l) z0,bX (G<|H g) 0 1 1] 106 (0,0)):=by rw[<-aD];exact aQ _ ar
  rw[aD];refine ap _ _ (λ_=>bf) ?_;clear ap aD;try simp only[ig,eh]
  refine aW 6 ?_;intro K6 V;go_simp;have A:I aC B W5:=((cf aC B).t hf.aA).t bl;have bv:=vM (G (H g)+1) 0 2 [((am y0 (y l) z0:ae),l),(bX (G<|H g) 0 1 1,[⟨j8,dK 0 j,j,0⟩])] W5 (by
   intro ac hi;have:ac=0\/ac=1:=aI;obtain rfl|rfl:=this<;>(rw[cE aU];rfl)) (az aU) (by
    intro ac hi;have:ac=0\/ac=1:=aI;obtain rfl|rfl:=this
    .exact A.bV m.r0<|λr a=>⟨id,(m.b0 r a).1⟩
    .refine⟨z,bj ⟨G (H g),0,1,z,aq _,λdb gv hj=>?_⟩⟩;rw[cE bs,ez];simpa[cH.D]using hj) (by
    intro ac hi;have:ac=0\/ac=1:=aI;obtain rfl|rfl:=this
    .exactλr a=>au (m.b0 r a).1 A.D
    .exactλr a=>by cases a;grind) ar (by have:=m.A;simp[nB];omega)
  go_call bv as ex w6⟨v6,rfl,bk,bm⟩;have aa:=(bm.A d (az bf) id).trans bf;have bp:nB [((am y0 (y l) z0:ae),l),(bX (G<|H g) 0 1 1,[⟨j8,dK 0 j,j,0⟩])]=y (l++[(⟨j8,dK 0 j,j,0⟩:cH)]):=by simp[nB]
  have bo:rW [((am y0 (y l) z0:ae),l),(bX (G<|H g) 0 1 1,[⟨j8,dK 0 j,j,0⟩])]=(l++[(⟨j8,dK 0 j,j,0⟩:cH)]).map cH.D:=by simp[rW]
  rw[bp,bo]at bk;obtain⟨x6,c6,ge⟩:=aM bk;subst ge;refine V _ _ (λ_=>aa) ?_;clear V bv;try simp only[ig,eh]
  refine aW 7 ?_;intro K7 w;go_simp;refine w _ _ (λ_=>aa) ?_;clear w;try simp only[ig,eh]
  refine aW 8 ?_;intro K8 x;have x0:=aX aa 0;have gn:=cV (i:=0) aa;go_simp;have S:I aC B w6:=A.t bm;have cb:I aC g w6:=bl.t bm;have bT:NT.Ok w6 (G<|H B) ⟨⟨j8,dK 0 j,j,0⟩,gs,N,xb,O⟩:=NT.Ok.aA eo cb<|λ_ _ q=>q;have dr:=m.zao (p:=⟨⟨j8,dK 0 j,j,0⟩,gs,N,xb,O⟩) S bT bi (fh bk A.D) (by
   have L:qC (dK 0 j)=y K:=by rw[Lp bi.p.dL bi.p.l];exact cD y br
   show _+qC (dK 0 j)<=cc;omega)
  have u:I (λq=>q=d) w6 (cP w6 (X d 0)<|am x6 (y<|l++[(⟨j8,dK 0 j,j,0⟩:cH)]) c6):=(iP d w6);have bq:=dr.dN u<|λq hq=>aI;have D:=ak<|show MR a b o r d f (l++v++C++F) cc (cP w6 (X d 0)<|am x6 (y<|l++[(⟨j8,dK 0 j,j,0⟩:cH)]) c6)from⟨_,_,_,_,_,v,C,F,_,bq,(aY aa).trans z,(u.A b aI<|λq=>U).trans<|(S.A b (az ck) id).trans ck,((ab.t S).aT (T:=f.j o.f) cY).aj u aI⟩;refine x _ _ (λq=>(q z).elim) ?_;refine dG z ?_ _;show KK _ _;apply ax;clear ax x bq dr u bT cb S aa bk bm bs aU bf bl dv cM W eo bi br hf hS x0 gn A bp bo;have bn:y (l++[(⟨j8,dK 0 j,j,0⟩:cH)])=y l+1:=ar;rw[bn]at D;let⟨W7,E⟩:∃W7,cP w6 (X d 0) (am x6 (y l+1) c6)=W7:=⟨_,rfl⟩;rw[E];rw[E]at D;clear E bn;go_wp21
 (all_goals clear bx;(go_loopw [25] (λe wr=>∃(ac:R)(eA:Y),ac<=4/\eA=ac/\e=ay eA/\MR a b o r d f (l++v++C++F) cc wr) (λe _=>4-(intOf e).toNat));exact⟨0,0,U,z,z,D⟩;(.obtain⟨ac,eA,hi,hI,rfl,cl⟩:=hrel;by_cases h4:ac<4;(.have D:=ak cl;have cj:=ak<|λ(wr:Z)(h:MR a b o r d f (l++v++C++F) cc wr)=>h.DB eg ca gc er ac h4;let⟨me,ei⟩:∃me:Z->R,∀W,me W=xN W d ac:=⟨_,λ_=>rfl⟩;have dd:=ak ei;clear cl ei;obtain⟨rfl,rfl⟩|⟨rfl,rfl⟩|⟨rfl,rfl⟩|⟨rfl,rfl⟩:=(show(ac=0/\eA=0)\/(ac=1/\eA=1)\/(ac=2/\eA=2)\/(ac=3/\eA=3)by omega);(all_goals clear hI;go_wp21;(go_loopw [9] (λ_ wr=>MR a b o r d f (l++v++C++F) cc wr) (λ_ wr=>me wr));exact D;(.have HR:=ak hrel;have cd:=ak (show cU wr b o r/\I (f.j o.f) a wr from by let⟨_,_,_,_,_,_,_,_,_,dT⟩:=hrel;exact⟨dT.g,dT.aA⟩);let⟨p0,p1,p2,p3,n0,n1,n2,n3,q0,q1,q2,q3,hh,g9,m9,hk,n,hx,s,cn,fl,el⟩:=cj wr hrel;cases iK hx;have g0:=aX n 0;have g1:=aX n 1;have g2:=aX n 2;have g3:=aX n 3;have dk:=ak el;have bc:=ak n;clear el n hx hrel fl;cases hk;(.clear cn dk bc;go_wp21;go_call s as ex g⟨rfl,gg⟩;subst g;clear s g0 g1 g2 g3;go_wp2;go_roundw;(first|exact⟨1,1,U,z,z,HR⟩|exact⟨2,2,U,z,z,HR⟩|exact⟨3,3,U,z,z,HR⟩|exact⟨4,4,U,z,z,HR⟩);simp[intOf]);(.have ce:=ak<|cn z;clear cn;go_wp21;go_call s as ex g⟨rfl,gg⟩;subst g;clear s;(go_wp2_with fail);rename_i QQ KK ax;have hS:wr.drew.heap[d]?=M (aK #[am p0 n0 q0,am p1 n1 q1,am p2 n2 q2,am p3 n3 q3] 108 (0,0)):=ag bc;refine kF (λ(j4:Z)=>j4.heap[d]?=M (aK #[am p0 n0 q0,am p1 n1 q1,am p2 n2 q2,am p3 n3 q3] 108 (0,0))) 6 z ?_;refine lW 0 ?_;(iterate 3 (refine QO (v:=?_) hS z aH wO z ?_ ?_;rotate_left;(focus(intro j4 hX;have x0:bA j4 (X d 0)=M (am p0 n0 q0):=(by rw[cE hX];rfl);have x1:bA j4 (X d 1)=M (am p1 n1 q1):=(by rw[cE hX];rfl);have x2:bA j4 (X d 2)=M (am p2 n2 q2):=(by rw[cE hX];rfl);have x3:bA j4 (X d 3)=M (am p3 n3 q3):=(by rw[cE hX];rfl);go_simp;try rfl));simp only[ig,eh,jZ]));apply qi;refine gN 3 ?_;intro K3 an;go_simp;apply(dk wr.drew<|cf _ _).mono;rintro ex wm⟨vm,lm,rfl,eq,cx,bb⟩;obtain⟨gr,fb,gf⟩:=aM cx;subst gf;have aV:=ce wm gr fb lm bb cx eq;have dx:wm.heap[d]?=M (aK #[am p0 n0 q0,am p1 n1 q1,am p2 n2 q2,am p3 n3 q3] 108 (0,0)):=(bb.A d (az bc) id).trans bc;refine an _ _ (λ_=>dx) ?_;(try simp only[ig,eh]);refine gN 4 ?_;intro K4 ao;go_simp;go_call aV as ex g Q;(obtain⟨r0,r1,r2,r3,m0,m1,m2,m3,t0,t1,t2,t3,ey,rfl,e,Q⟩:∃(r0 r1 r2 r3:Option Addr)(m0 m1 m2 m3 t0 t1 t2 t3:R)(ey:ae),ex=aN (de #[ef #[am r0 m0 t0,am r1 m1 t1,am r2 m2 t2,am r3 m3 t3],ey])/\g.heap[d]?=M (aK #[am p0 n0 q0,am p1 n1 q1,am p2 n2 q2,am p3 n3 q3] 108 (0,0))/\((ey=ib/\MR a b o r d f (l++v++C++F) cc (cP (cP (cP (cP g (X d 0)<|am r0 m0 t0) (X d 1)<|am r1 m1 t1) (X d 2)<|am r2 m2 t2) (X d 3)<|am r3 m3 t3)/\xN (cP (cP (cP (cP g (X d 0)<|am r0 m0 t0) (X d 1)<|am r1 m1 t1) (X d 2)<|am r2 m2 t2) (X d 3)<|am r3 m3 t3) d _<xN wr d _/\∀db,db<_->xN (cP (cP (cP (cP g (X d 0)<|am r0 m0 t0) (X d 1)<|am r1 m1 t1) (X d 2)<|am r2 m2 t2) (X d 3)<|am r3 m3 t3) d db=xN wr d db)\/∃q,ey=eW q/\P8 a (cP (cP (cP (cP g (X d 0)<|am r0 m0 t0) (X d 1)<|am r1 m1 t1) (X d 2)<|am r2 m2 t2) (X d 3)<|am r3 m3 t3) b o r gj cc f (l++v++C++F) (aN<|eW q)):=by obtain⟨r0,r1,r2,r3,m0,m1,m2,m3,t0,t1,t2,t3,rfl,e,bg,t,bh⟩|⟨⟨hX,q,rfl,hq,ff,es⟩,e⟩:=Q;exact⟨r0,r1,r2,r3,m0,m1,m2,m3,t0,t1,t2,t3,_,z,e,J ⟨z,bg,t,bh⟩⟩;refine⟨dE,dE,dE,dE,0,0,0,0,0,0,0,0,eW q,z,e,bj ⟨q,z,?_⟩⟩;have u:I (λq=>q=d) g (cP (cP (cP (cP g (X d 0) aF) (X d 1) aF) (X d 2) aF) (X d 3) aF):=(((iP d g).aL _ _ _<|J z).aL _ _ _<|J z).aL _ _ _<|J z;have fn:¬f.j o.f d:=λev=>bP<|co d ev;have fe:=(nW o.f f).l ff u (λk j=>by rw[j];exact fn);let⟨_,K3,dn,fg,fk,gi⟩:=fe;have hb:b<G (H a):=cB;have eb:=(bb.A b (az cd.1) id).trans cd.1;have ea:=(es.A b (az eb) ca).trans eb;have fi:=(u.A b (az ea)<|λev=>U).trans ea;have gd:I (f.j o.f) a g:=(cd.2.t bb).aj es<|λ_ ev=>J ev;refine bj ⟨_,K3,z,⟨⟨dn,(gd.aT (T:=λk=>f.j o.f k\/k=b)<|λ_ ev=>J<|J ev).aj u<|λk j=>bj U,λk j=>J<|fk k j,gi⟩,⟨o,fi,z,z⟩,⟨q,z,hq.aA u (λk j _=>by rw[j];exact⟨_,108,_,e,cg⟩)⟩,Xr.YH fg⟩⟩);have g0:=aX e 0;have f0:=cV (i:=0) e;have g1:=aX e 1;have f1:=cV (i:=1) e;have g2:=aX e 2;have f2:=cV (i:=2) e;have g3:=aX e 3;have f3:=cV (i:=3) e;have al:=ak Q;clear Q;refine ao _ _ (λ_=>e) ?_;(try simp only[ig,eh]);refine gN 5 ?_;intro K5 ap;go_simp;refine ap _ _ (λ_=>e) ?_;(try simp only[ig,eh]);clear an ao ap;apply PU KK;(.intro cT;refine FU (i:=6) (j:=7) z z z z aH ?_ ?_;(.intro K6 V;go_simp;refine V _ _ (λC=>U) ?_;(try simp only[ig,eh]);refine FU (i:=7) (j:=8) z z z z aH ?_ ?_;(.intro K7 w;go_simp;refine w _ _ (λC=>U) ?_;(try simp only[ig,eh]);refine gN 8 ?_;intro K8 x;go_simp;refine x _ _ (λC=>U) ?_;(try simp only[ig,eh]);refine gN 9 ?_;intro K9 av;go_simp;refine av _ _ (λC=>U) ?_;(try simp only[ig,eh]);refine kR z ?_ _;exact cT);intro K8 x;go_simp;refine x _ _ (λC=>U) ?_;(try simp only[ig,eh]);refine gN 7 ?_;intro K7 w;go_simp;refine w _ _ (λC=>U) ?_;(try simp only[ig,eh]);refine gN 9 ?_;intro K9 av;go_simp;refine av _ _ (λC=>U) ?_;(try simp only[ig,eh]);refine kR z ?_ _;exact cT);intro K7 w;go_simp;refine w _ _ (λC=>U) ?_;(try simp only[ig,eh]);refine gN 6 ?_;intro K6 V;go_simp;refine V _ _ (λC=>U) ?_;(try simp only[ig,eh]);refine gN 8 ?_;intro K8 x;go_simp;refine x _ _ (λC=>U) ?_;(try simp only[ig,eh]);refine gN 9 ?_;intro K9 av;go_simp;refine av _ _ (λC=>U) ?_;(try simp only[ig,eh]);refine kR z ?_ _;exact cT);apply ax;clear ax hS dx cx bb eq e aV;obtain⟨rfl,bg,t,bh⟩|⟨q,rfl,bt⟩:=ag al;(.let⟨eB,ch,gE⟩:=eU bg t bh;clear bg t bh al;go_wp2;go_roundw;exact eB;rw[ag dd,ag dd];exact ch);have dc:=ak bt;clear bt al;go_wp2;go_ret;exact dc))));obtain⟨rfl,rfl⟩:ac=4/\eA=4:=U;clear hI;let⟨v0,v1,v2,v3,a1,b1,c1,d1,gk,hV⟩:=cl;obtain⟨p0,q0,rfl⟩:=cG hV.ls.r0;obtain⟨p1,q1,rfl⟩:=cG hV.ls.r1;obtain⟨p2,q2,rfl⟩:=cG hV.ls.r2;obtain⟨p3,q3,rfl⟩:=cG hV.ls.r3;have g0:=aX hV.lb 0;have g1:=aX hV.lb 1;have g2:=aX hV.lb 2;have g3:=aX hV.lb 3;have ad:=ak<|ec d wr _ _ _ _ a1 b1 c1 d1 gk hV;clear hV;go_wp21;go_call ad as ex g(⟨rfl,K',dz,a',b',c',d',hO⟩|⟨gx,K',rfl,hE⟩);(.have HP:=ak<|show P8 a g b o r gj cc f (l++v++C++F) (aN ib)from J ⟨z,_,_,_,_,K',dz,a',b',c',d',hO⟩;clear hO ad;go_wp2;go_ret;exact HP);have HP:=ak<|show P8 a g b o r gj cc f (l++v++C++F) (aN gx)from bj ⟨gx,K',z,hE⟩;clear hE ad;go_wp2;go_ret;exact HP))
def sC.Ao{s:SR}{j k:dI}(h:sC N a b s x i C F j k c)(d:Fs):sC d a b s x i (C.map<|ja d) (F.map<|ja d) (j.map<|ja d) (k.map<|ja d) c where
 D:=h.D
 L:=h.L
 l0:=h.l0.Ao d
 l1:=h.l1.Ao d
 l2:=h.l2.Ao d
 l3:=h.l3.Ao d
 f:=h.f
 l:=h.l
 t:=h.t
 za:=by rw[tM,tM,tM,tM];exact h.za
 v:=h.v
 o:=h.o
 S:=h.S
 s1:=pW (λg e=>(h.l1.bZ g e).jV) h.s1.fp
 s2:=pW (λg e=>(h.l2.bZ g e).jV) h.s2.fp
 s3:=pW (λg e=>(h.l3.bZ g e).jV) h.s3.fp
def sC.Ym{s s':SR}{d:dB}{w A:dI}{u C':R}(h:sC N a b s x i C F w A u)(E:s'.f=s.f/\s'.l0=s.l0/\s'.l1=s.l1/\s'.l2=s.l2/\s'.l3=s.l3)(p:lF a s'.L d)(e:∀B,cN s'.L=M B->Aside a x s.f b B)(q:gF d)(n:∀O∈d,O.Good)(K:y d+u<=C'+y i)(r:C'<=3000000000):sC N a b s' x d C F w A C':=by
 let⟨c,g,j,k,m⟩:=E;refine{D:=p,L:=c▸e,l0:=c▸g▸h.l0,l1:=c▸j▸h.l1,l2:=c▸k▸h.l2,l3:=c▸m▸h.l3,f:=c▸h.f,l:=c▸h.l,t:=c▸h.t,za:=bP h.za,v:=r,o:=q,S:=n,s1:=h.s1,s2:=h.s2,s3:=h.s3}
def sC.vH{s s':SR}(h:sC N a b s f i l v C F c)(e:s'.f=s.f/\s'.l0=s.l0/\s'.l1=s.l1/\s'.l2=s.l2/\s'.l3=s.l3)(d:s'.L=s.L):sC N a b s' f i l v C F c:=h.Ym e (d▸h.D) (d▸h.L) h.o h.S U h.v
def QC(a:Fs)(b:cy af)(c:Option R)(T:dI):Prop:=∀n d,fo a n=M d->n∈b\/n=fj\/(∃l,c=M l/\n=gW l)\/∃t∈T,n=jf t.cK
def SR.Xh(s:SR):Option R:=if s.i then M s.l else dE
def Xb(a:Fs)(e f g h:dI):Prop:=((∃d c b:R,(d<18446744073709551616/\c<18446744073709551616/\b<18446744073709551616)/\fo a fj=M (mi d c b [e,f,g,h]))\/(fo a fj=dE/\e++f++g++h=[]))/\∀t∈e++f++g++h,∃i,fo a (jf t.cK)=M i/\(i.drop<|jM t.ks).take (y<|iD t.ks)=iD t.ks
def Xl(a:Fs):Prop:=∀n b,fo a n=M b->Nm n
def QC.dL{K:DK}{a:cy af}{e:Option R}{T:dI}{w:Z}{db:R}(h:QC (vw K.ah) a e T)(j:cJ w db K):y K.ah<=y a+y T+2:=by
 have g:=JF (m:=a++(T.map (λt=>jf t.cK)++[fj,gW<|e.getD 0])) j.kg (λx k=>by
  let⟨b,i⟩:=ru k;obtain q|q|⟨l,c,d⟩|⟨t,c,d⟩:=h x b i
  .simp[q]
  .simp[q]
  .simp[c,d]
  .exact oP _ (gX _ (cC.2 ⟨t,c,d.symm⟩)))
 simp only[cS,ai,bK,eE,vw]at g;omega
def Se(h:mr [.cr B,.ap B m,.sy B] f x):vw x.ah=vw f.ah++[(B,m)]/\fo (vw f.ah) B=dE:=by
 have a:fo (vw f.ah) B=dE:=by let⟨c,⟨_,_,_,_,_,b⟩,_⟩:=h;rw[nH,b];rfl
 exact⟨(I1 h a).1,a⟩
def Sg:∀{K a:DK},mr (lw l) K a->(∀n b,fo (vw K.ah) n=M b->fo (vw a.ah) n=M b)/\(∀u∈l,fo (vw a.ah) (jf u.cK)=M (Aa u.cs))/\(∀n b,fo (vw a.ah) n=M b->fo (vw K.ah) n=M b\/∃u∈l,n=jf u.cK)/\y a.l<=y K.l+y l:=by
 induction l with
 |nil=>
  intro K a h;let⟨c,_,d⟩:=h;exact⟨c▸λ_ _=>id,ar,c▸λ_ _=>J,by rw[d];simp⟩
 |cons u w o=>
  intro K a h;rw[(by simp[lw]:lw (u::w)=tK u.cK u.cs++lw w)]at h;let⟨g,c,m⟩:=nQ h;let⟨f,v⟩:=Se c;have B:=Ow c;let⟨i,j,k,A⟩:=o m;have p:fo (vw g.ah) (jf u.cK)=M (Aa u.cs):=by rw[f,oe,v];simp[fo]
  refine⟨λn b d=>i n b<|(λn b d=>by rw[f,oe,d];rfl:∀n b,fo (vw K.ah) n=M b->fo (vw g.ah) n=M b) n b d,λt e=>?_,λn b d=>?_,by rw[bK];omega⟩
  .obtain rfl|e:=dy.1 e
   .exact i _ _ p
   .exact j t e
  .obtain q|⟨t,r,s⟩:=k n b d
   .rw[f,oe]at q;cases hq:fo (vw K.ah) n with
    |some x=>rw[hq]at q;exact J q
    |none=>
     rw[hq,Option.none_or]at q;have:=Ab q;simp only[bY,js]at this;exact bj ⟨u,ar,this.1⟩
   .exact bj ⟨t,by simp[r],s⟩
def QW(h:mr (vr m) f x):vw x.ah=pq (vw f.ah) (fj,m)/\x.l=[]:=by
 obtain⟨q,o,r,⟨e,_,g⟩,i,_,j⟩:=nQ (l:=[.cr kE,.ap kE m,.sy kE]++[.rn kE fj]) h;let⟨d,p,s,⟨F,t,k,c1,_,_⟩,n,_,_⟩:=nQ (l:=[.cr kE,.ap kE m,.sy kE]) o;let⟨c,b⟩:=Se p;refine⟨?_,j.trans g⟩;have a:fo (vw d.ah) kE=M m:=by rw[c,oe,b];simp[fo]
 rw[i,e,n,c1,qj,vp,c,Ws m b];have:F.bB=m:=by rw[nH,k]at a;simpa using a
 simp[this]
theorem SJ{f:af×eD}(h:B∈(pq N f).map (·.1)):B=f.1\/B∈N.map (·.1):=by
 induction N with
 |nil=>left;simpa[pq]using h
 |cons g r a=>
  by_cases e:g.1=f.1
  .simp only[pq,fV e,bO,dy]at h|-;grind
  .simp only[pq,fM e,bO,dy]at h|-;grind
def Hr{f:af×eD}(h:(N.map (·.1)).Nodup):((pq N f).map (·.1)).Nodup:=by
 induction N with
 |nil=>simp[pq]
 |cons g r a=>
  rw[bO,kQ]at h;by_cases e:g.1=f.1
  .simp only[pq,fV e,bO,kQ];rwa[<-e]
  .simp only[pq,fM e,bO,kQ];grind[SJ]
def OA:∀{K a:DK},mr (lw l) K a->((vw K.ah).map (·.1)).Nodup->((vw a.ah).map (·.1)).Nodup:=by
 induction l with
 |nil=>
  intro K a h c;rwa[h.1]
 |cons u r j=>
  intro K a h c;have e:lw (u::r)=tK u.cK u.cs++lw r:=by simp[lw]
  rw[e]at h;let⟨n,f,g⟩:=nQ h;let⟨k,m⟩:=Se f;apply j g;rw[k,bz,rM];refine⟨c,ar,λx i o d e=>?_⟩;simp only[bO,gA,bY]at d;let⟨p,b⟩:=ru i;rw[e,d,m]at b;cases b
def ZA(h:o.i=cz):gW o.l∈oa o l v:=by
 unfold oa;rw[h,fV rfl];simp
def Zx{s:SR}{a T:dI}{t:cH}(h:t∈a):jf t.cK∈oa s a T\/∃u∈T,u.cK=t.cK:=by
 by_cases q:T.any (λu=>u.cK==t.cK)=cz;let⟨u,b,e⟩:=nL.1 q;exact bj ⟨u,b,dV e⟩;refine J<|oP _<|cC.2 ⟨t,lQ.2 ⟨h,sM⟩,z⟩
def Zz{t:cH}(h:t∈v):jf t.cK∉oa o l v:=by
 intro q;unfold oa at q;obtain g|g:=aP.1 q;split at g;exact FZ _ _<|bY.1 g;simp at g;let⟨u,b,e⟩:=cC.1 g;have a:=(lQ.1 b).2;have:v.any (λa=>a.cK==u.cK)=cz:=nL.2 ⟨t,h,by simp[(Np e)]⟩;rw[this]at a;simp at a
def SG:fj∉oa o l v:=by
 intro q;unfold oa at q;obtain g|g:=aP.1 q;split at g;exact rY _ (bY.1 g).symm;simp at g;let⟨u,a,e⟩:=cC.1 g;exact uw _ e
structure SoP(s:SR)(K K':DK)(T0 T a b c d:dI)(dz n:R):Prop where
 lM:∃(KR:DK)(nw:dI),mr (lw nw) K KR/\mr (vr (Rb dz n [a,b,c,d])++(oa s T0 T).map .rm) KR K'/\y nw<=3000000000/\(∀u∈nw,NwT u)/\(∀t∈T,(∃u∈T0,u.cK=t.cK/\u.ks=t.ks)\/∃u∈nw,u.cK=t.cK/\u.ks=t.ks)/\∀u∈nw,∃t∈T,u.cK=t.cK
def NB{n aa:dI}{dz ab:R}{u:cy af}(h:SoP o f x l v C F n aa dz ab)(hd:cJ a b x)(e:((vw f.ah).map (·.1)).Nodup)(P:QC (vw f.ah) u o.Xh l):QC (vw x.ah) u dE v:=by
 let⟨KR,nw,A,B,_,_,_,s⟩:=h.lM;let⟨N,O,r,_⟩:=Sg A;let⟨L,D,E⟩:=nQ B;let⟨k,_⟩:=QW D;let⟨K,_⟩:=GM E;have g:((vw L.ah).map (·.1)).Nodup:=by rw[k];apply Hr;clear B D E k K N O r s;exact OA A e
 intro S m t;rw[K]at t;let⟨w,i⟩:=BX g t;rw[k,uL]at i;by_cases q:fj=S;exact bj<|J q.symm;rw[fM q]at i;obtain j|⟨V,T,j⟩:=r S m i;obtain p|p|⟨ac,c,d⟩|⟨W,c,d⟩:=P S m j;exact J p;exact absurd p.symm q;exfalso;unfold SR.Xh at c;split at c;rename_i Q;cases c;exact w<|d▸ZA Q;cases c;obtain n|⟨V,Q,n⟩:=Zx (s:=o) (T:=v) c;exact absurd (d▸n) w;exact bj<|bj<|bj ⟨V,Q,by rw[d,n]⟩;let⟨W,c,p⟩:=s V T;exact bj<|bj<|bj ⟨W,c,by rw[j,p]⟩
def Nz{j k:dI}{dz K:R}(h:SoP o f x l v C F j k dz K)(A:v=C++F++j++k)(E:K<18446744073709551616)(D:dz<18446744073709551616)(B:∀t∈l,∃i,fo (vw f.ah) (jf t.cK)=M i/\(i.drop<|jM t.ks).take (y<|iD t.ks)=iD t.ks):Xb (vw x.ah) C F j k:=by
 let⟨S,W,L,N,_,s,w,V⟩:=h.lM;let⟨p,r,T,_⟩:=Sg L;let⟨Q,O,P⟩:=nQ N;let⟨e,_⟩:=QW O;let⟨g,_⟩:=GM P;refine⟨J ⟨(dz+1) %18446744073709551616,dz,K,⟨oh _ cg,D,E⟩,?_⟩,λt d=>?_⟩;rw[g,vI SG,e,uL,fV rfl];rfl;rw[<-A]at d;rw[g,vI<|Zz d,e,uL,fM<|λq=>uw _ q.symm];obtain⟨u,a,b,c⟩|⟨u,a,b,c⟩:=w t d;let⟨i,m,n⟩:=B u a;exact⟨i,b▸p _ _ m,c▸n⟩;refine⟨Aa u.cs,b▸r u a,?_⟩;rw[<-c,(s u a).ks,yi];unfold Aa;rw[pw,cQ]
def NA{E K:dI}{dz Q:R}(h:SoP o f x l v C F E K dz Q)(a:((vw f.ah).map (·.1)).Nodup)(m:Xl (vw f.ah)):Xl (vw x.ah)/\y x.l<=y (oa o l v):=by
 let⟨D,S,g,p,_,k,O,P⟩:=h.lM;let⟨L,N,j,_⟩:=Sg g;let⟨B,r,s⟩:=nQ p;let⟨i,w⟩:=QW r;let⟨u,A⟩:=GM s;refine⟨λn d e=>?_,by rw[A,w];simp⟩;rw[u]at e;let⟨_,b⟩:=BX (i▸Hr (OA g a)) e;rw[i,uL]at b;by_cases q:fj=n;rw[<-q];exact tO;rw[fM q]at b;obtain c|⟨T,t,c⟩:=j n d b;exact m n d c;rw[c];exact zM (k T t).cK
structure Inv(j5:Prop)(j4:cy af)(w:Z)(sb:R)(s:SR)(K:DK)(m:dB)(a b c d:dI)(C N:R)(sn:gI):Prop where
 st:ST w sb s K m a b c d C
 k:sk 5 m
 x:y m<=s.o
 L:s.o<=31
 f:MP w K sb s sn
 i:((a++b++c++d).map cH.tb).Nodup
 nx:s.t<18446744073709551616
 lg:s.l<18446744073709551616
 bt:s.S<18446744073709551616
 o:1<=s.D/\s.D<=32/\2<=s.ua/\s.ua<=6
 l:y K.l+y K.ah<=20000000000+2*N
 S:s.v<=N/\∀p∈sn,p.1<=s.v
 A:Xl (vw K.ah)
 n:QC (vw K.ah) j4 s.Xh (a++b++c++d)
 pF:j5->Xb (vw K.ah) a b c d
 v:N<=1000000000
 B:y j4<=12500000000
def rQ(a:cy dj):y (vw a)=y a:=by simp[vw]
def IT{b c:eD}(h:fo N B=M b):y (pq N (B,c))=y N:=by
 induction N with
 |nil=>cases h
 |cons g r a=>
  by_cases e:g.1=B
  .simp[pq,e]
  .have:fo r B=M b:=by simpa[fo,e]using h
   simp[pq,e,a this]
def xE{a:cy dj}{F j5:dj}(h:ii a B=M F)(b:j5.dA=B):y (pm a j5)=y a:=by
 have:=IT (c:=j5.bB) (by rw[nH,h];rfl:fo (vw a) B=M F.bB);rwa[<-b,<-qj,rQ,rQ]at this
def Mf{fs:Fs}{n:af}{b:eD}(h:fo fs n=M b):y (si fs n)+1=y fs:=by
 induction fs with
 |nil=>cases h
 |cons g r a=>
  by_cases e:g.1=n
  .simp[si,e]
  .have:fo r n=M b:=by simpa[fo,e]using h
   simp[si,e,a this]
def Sa{a:cy af}(h:mr (a.map .rm) f x):y x.l+y x.ah=y f.l+y f.ah:=by
 induction a generalizing f with
 |nil=>rw[h.1,h.2.2]
 |cons n r j=>
  let⟨c,⟨F,l,d,e,k,g⟩,i⟩:=h;rw[j i,g,<-rQ c.ah,e,vp];have:=Mf (fs:=vw f.ah) (n:=n) (b:=F.bB) (by rw[nH,d];rfl);rw[rQ]at this;simp;omega
def kS(b:gI)(m a:dB):dB:=gu (Gi b)<|jJ m a
def Dw(b:gI)(m a:dB):(kS b m a).Sublist (jJ m a):=oE _ _
theorem AB(b:gI)(m a:dB):y (kS b m a)<=y m+y a:=aR (Dw b m a).length_le<|zw m a
def AA{b:gI}{a:dB}(h:S∈kS b i a):S∈i\/S∈a:=OK<|(Dw b i a).subset h
theorem Az(h:gF i)(b:gI)(a:dB):gF (kS b i a):=(h.jJ a).kD<|Dw b i a
def Ay{b:gI}(h:gF i)(c:y b<=4)(a:dB):sk 5 (kS b i a):=(AC<|(h.jJ a).imp<|λq=>ng q).aT (by rw[qL];omega)
def Xb.Ao(a:Fs)(h:Xb N l v C F):Xb N (l.map<|ja a) (v.map<|ja a) (C.map<|ja a) (F.map<|ja a):=by
 have g:∀b:dI,uC (b.map<|ja a)=uC b:=λb=>by unfold uC;rw[cS,xu];rfl
 have b:l.map (ja a)++v.map (ja a)++C.map (ja a)++F.map (ja a)=(l++v++C++F).map (ja a):=ar;refine⟨h.1.imp (λ⟨k,j,d,q,m⟩=>⟨k,j,d,q,by rw[m];simp[mi,g]⟩)<|λ⟨e,f⟩=>⟨e,by rw[b,f];rfl⟩,λt c=>?_⟩;rw[b]at c;obtain⟨u,i,rfl⟩:=cC.1 c;exact h.2 u i
def QC.Ao{b:cy af}{c:Option R}(a:Fs)(h:QC N b c (l++v++C++F)):QC N b c (l.map (ja a)++v.map (ja a)++C.map (ja a)++F.map (ja a)):=by
 intro n d e;rw[(ar:l.map (ja a)++v.map (ja a)++C.map (ja a)++F.map (ja a)=(l++v++C++F).map (ja a))];exact(h n d e).imp id<|.imp id<|.imp id<|λ⟨t,f,g⟩=>⟨ja a t,cC.2 ⟨t,f,z⟩,g⟩
def MQ.A{Q:cy af}{s:SR}{ad ac:R}{t:DK}{W b aa ab:dI}{v2 v3:ae}{u:DK}{dz:R}{j m:dI}{V:gI}(h:MQ a e c s r T ad t (W++b++aa++ab) d w v2 v3 u dz C F j m)(q:1<=s.D/\s.D<=32/\2<=s.ua/\s.ua<=6)(p:cJ a s.f t)(hn:T<18446744073709551616)(hg:s.v<=ac/\∀al∈V,al.1<=s.v)(hN:ac<=1000000000)(hX:y Q<=12500000000)(O:MP a t c s V)(N:Xl (vw t.ah))(E:QC (vw t.ah) Q s.Xh (W++b++aa++ab))(P:K->Xb (vw t.ah) W b aa ab):Inv K Q e c (s.pV d w v2 v3 T dz) u [] C F j m ad ac V:=by
 have D:SoP s t u (W++b++aa++ab) (C++F++j++m) C F j m dz T:=⟨h.lM⟩;let⟨p1,p2⟩:=NA D p.kg N;have:=Ps s (W++b++aa++ab) (C++F++j++m) h.qN;have g:=NB D h.eQ.ok p.kg E;have:=g.dL h.eQ.ok;have:=je<|λt g=>(h.st.l0.bZ t g).p;have:=je h.st.s1.p;have:=je h.st.s2.p;have:=je h.st.s3.p;have:=h.st.FX;have:=h.st.v;have:y (C++F++j++m)<=3000000000:=by simp only[ai];omega
 exact{st:=h.st,k:=sk.kj _,x:=aq _,L:=by show(0:R)<=31;omega,f:=(O.eQ h.eQ).vH ⟨z,z⟩,i:=h.i,nx:=oh _ cg,lg:=h.nl,bt:=hn,o:=q,l:=U,S:=hg,A:=p1,n:=g,pF:=λj=>Nz D z hn h.nl (P j).2,v:=hN,B:=hX}
def SR.p(s:SR)(c:ae)(a:R)(b:eN):SR:={s with L:=c,o:=s.o+a,S:=(s.S+1) %18446744073709551616,i:=cz,k:=cz,x:=b}
def L5(h:∀x∈i,x.Good)(c:y i<=8):ki (zi r i):=by
 have a:ki (oI r i):=by unfold oI;apply(ki.le 8 _).jN;intro x b;obtain q|q:=dy.1 b;rw[q];constructor<;>omega;exact Zs h x q
 unfold zi ij;exact((((ki.le 4 _).jN<|ki.le 4 _).jN<|ki.le 4 _)).jN a
def Aj(s:SR):cy tY:=if s.i then []else [.cr<|gW s.l]
def qB(s:SR)(a:eD):cy tY:=Aj s++[.ap (gW s.l) a]
def Jc(f:Ff):Prop:=qp f\/0<f.bd
def Xo.Y8{f:Ff}(h:Xo f r):Jc f:=h.elim (λg=>bj g.2)<|λg=>J g.2
def Yo(s:SR)(a:dB):eD:=zi (((s.S+1) %18446744073709551616:R):Y) a
def zau(i:Prop)(h:cy af)(w e:Z)(c:R)(s:SR)(k:Y)(K:DK)(p:dB)(l m n o:dI)(C N:R)(g:gI)(b:dB)(j:Ending):Prop:=(j=aN ib/\∃f d a,cU e c (s.p f (y b) d) k/\Inv i h e c (s.p f (y b) d) a (kS g p b) (l.map<|ja<|vw a.ah) (m.map<|ja<|vw a.ah) (n.map<|ja<|vw a.ah) (o.map<|ja<|vw a.ah) (C+y b) (N+1) g/\gh w e s.f c K a/\mr (qB s<|Yo s b) K a/\((s.i=bD->d=cz)/\(s.i=cz->d=s.x)))\/∃v a,j=aN v/\MM w e c s k K a C v/\Jc K.fx
def RS{bs:eD}{l:cy tY}{B:R}(c:o.l<18446744073709551616)(h:l<+:qB o bs):MT l B:=by
 refine MT.pa ?_ h;unfold qB Aj;refine⟨by split<;>simp,λn a=>?_,?_,λx d b=>?_,by split<;>simp[Mr],by split<;>simp[Dq,Z5,R8,rY,yA]⟩;split at a<;>simp at a;rw[a];exact wK c;split<;>simp[Dn,rY,yA];split at b<;>simp at b
def X5(h:mr (qB o m) f x):(∀n,n≠gW o.l->fo (vw x.ah) n=fo (vw f.ah) n)/\y x.l+y x.ah<=y f.l+y f.ah+2:=by
 unfold qB at h;let⟨d,a,v,⟨F,O,g,i,B,j⟩,k,C,l⟩:=nQ h;have s:=(eM g).1;have e:∀n,n≠gW o.l->fo (vw x.ah) n=fo (vw d.ah) n:=λn b=>by rw[k,i,qj,uL,fM];show¬F.dA=n;rw[s];exactλq=>b q.symm
 have c:y x.ah=y d.ah:=k▸i▸xE (j5:={F with A:=O,bB:=F.bB++m}) g s;unfold Aj at a;split at a;exact⟨λn b=>by rw[e n b,a.1],by rw[l,j,a.2.2,c,a.1];omega⟩
 .let⟨w,⟨D,N,p,E,t,K⟩,r,L,u⟩:=a;refine⟨λn b=>?_,by rw[l,j,u,t,c,r,p];simp;omega⟩;rw[e n b,r,p,show vw (f.ah++[(⟨gW o.l,D,aF,[],0⟩:dj)])=vw f.ah++[(gW o.l,[])]by simp[vw],oe];cases fo (vw f.ah) n with
  |some P=>rfl
  |none=>simp[fo,FA b]
def Og{j4:cy af}{s:SR}{Q:DK}{bL:dB}{fv fx:dI}{fu:R}(sn:gI){e:dB}(h:cU a b s r)(p:Inv K j4 a b s Q bL C F fv fx c fu sn)(he:lF a d e)(fe:∀r,cN d=M r->Aside a Q s.f b r)(cm:0<y e)(h8:y e<=8)(hg:∀ej∈e,ej.Good)(hb:∀ej∈e,ej.f=(((s.S+1) %18446744073709551616:R):Y))(gn:s.o+y e<32)(hC:c+y e<=3000000000)(hN:fu+1<=1000000000)(co:qp Q.fx\/ft Q.ah<=999999000/\(s.i=cz->ii Q.ah (gW s.l)≠dE)/\(s.i=bD->ii Q.ah (gW s.l)=dE)):cR bN 107 #[aJ b,d] a λbv w'=>zau K j4 a w' b s r Q bL C F fv fx c fu sn e bv:=by
 have dT:=p.st;have aD:=az h;have j:s.l<18446744073709551616:=p.lg;let⟨eb,eo,el,ff,cl,bl⟩:∃cu w bn,d=bX cu w (y e) bn/\y e<=bn/\∀cs ei,(bu e)[cs]?=M ei->bA a (X cu<|w+cs)=M ei:=by obtain⟨_,⟨q1,q2⟩|⟨cu,w,bn,q1,q4,q3⟩⟩:=he;omega;grind
 subst ff;have ac:=fe eb z;let⟨mx,mc,fg⟩:=cG dT.D;have gg:=cU.bW h 17 z;let⟨V,HH,HE,HG,HB,cM,ca⟩:=zX p h bl hg hb (AM s.l j dT.t.x) fg;let⟨lg,t⟩:∃lg,s.i=lg:=⟨_,rfl⟩;have ge:∀(ej:eN)(a:Z),(Op.unary .not<|aO ej).run bN a=.ok (aO<|!ej) a:=λ_ _=>rfl;go_in
 go_wp21;go_call cM as bv w1⟨rfl,eB⟩;have cp:I aC a w1:=I.p eB;have bk:gh a w1 s.f b Q Q:=⟨V.st.f.aA cp<|λ_ _=>id,cp.aT cY,λ_ q=>J q,Fx.bI _⟩;have g:cU w1 b s r:=(cp.A b aD id).trans HH;have fn:bA w1 (X b 18)=M (aO lg):=t▸g.u z;have k2:=cU.bW g 2 z;have fr:=cU.bW g 21 z;have ex:iH w1 (X b 18)=bD:=g.bS;have ey:iH w1 (X b 21)=bD:=g.bS;cases lg;(case' true=>go_wp21;let⟨W,O⟩:∃W,w1=W:=⟨_,rfl⟩;let⟨N,av⟩:∃N,s.x=N:=⟨_,rfl⟩;have HX:=ak (show∃u,gh a W s.f b Q u/\(ii u.ah (gW s.l)=dE->qp Q.fx)/\ft u.ah=ft Q.ah/\(mr (Aj s) Q u/\((s.i=bD->N=cz)/\(s.i=cz->N=s.x)))/\cU W b {s with i:=cz,x:=N} r from by refine⟨Q,O▸bk,λq=>co.elim id<|λcu=>absurd q<|cu.2.1 t,z,⟨by unfold Aj;rw[t];exact⟨z,z,z⟩,⟨λq=>(by rw[t]at q;cases q),λ_=>av.symm⟩⟩,?_⟩;rw[<-O,<-av];have:=g;rw[<-(by rw[<-t]:s={s with i:=cz,x:=s.x})];exact this);rw[O])
 case' false=>
  have fd:=Eg (gW s.l) bk.ok (λq=>co.elim id<|λcu=>absurd (cu.2.2 t) q) (gV V.l V.v)<|wK j;go_wp21;go_call fd as bv w2⟨v2,u,rfl,bn⟩;obtain⟨rfl,o2⟩|⟨l2,q2,c2,r1,r2,rfl,r3,r4⟩:=bn.d;rotate_left
  .have bo:¬Q.j s.f b:=V.st.l;have hE:MM a w2 b s r Q u c (eW q2):=⟨bk.aj<|gh.of bn.D,⟨s,(bn.D.aA.A b (az g) bo).trans g,z,z⟩,⟨q2,z,c2,r3,r4.pI⟩,l2,r2,RS (bs:=[]) j (by unfold qB Aj;rw[t];exact r1.trans<|qI _ _)⟩;go_wp2;go_ret;exact ak<|show zau K j4 a w2 b s r Q bL C F fv fx c fu sn e (aN<|eW q2)from bj ⟨_,u,z,hE,r4.Y8⟩
  have cj:=bn.D;let⟨gf,⟨g2,y2,f1,f2,f3⟩,f4,f5,f6⟩:=o2;have fi:=f5.trans f2;have bo:¬Q.j s.f b:=V.st.l;have w:cU w2 b s r:=(cj.aA.A b (az g) bo).trans g;have fn:bA w2 (X b 18)=M (aO bD):=by rw[<-t];exact w.u z
  have k2:=cU.bW w 2 z;have fr:=cU.bW w 21 z;have ex:iH w2 (X b 18)=bD:=w.bS;have ey:iH w2 (X b 21)=bD:=w.bS;let⟨cB,eq,bT,es,br⟩:=nZ w cj (f4.trans f1:u.ah=Q.ah++[⟨gW s.l,g2,aF,[],0⟩]) (f6.trans f3.1) (cj.D bo (az g):¬u.j s.f b);go_wp21;let⟨W,O⟩:∃W,cP (cP w2 (X b 18)<|aO cz) (X b 21) (aO cz)=W:=⟨_,rfl⟩;let⟨N,av⟩:∃N,cz=N:=⟨_,rfl⟩;have HX:=ak (show∃u,gh a W s.f b Q u/\(ii u.ah (gW s.l)=dE->qp Q.fx)/\ft u.ah=ft Q.ah/\(mr (Aj s) Q u/\((s.i=bD->N=cz)/\(s.i=cz->N=s.x)))/\cU W b {s with i:=cz,x:=N} r from by
   refine⟨u,?_,λq=>?_,by rw[ag bT];simp[ft],⟨by unfold Aj;rw[t];exact mr.pI ⟨_,_,bT,(ak fi),ag es,ag<|ak f3.2⟩,⟨λ_=>av.symm,λq=>by rw[t]at q;cases q⟩⟩,?_⟩
   .rw[<-O];exact((bk.aj<|gh.of eq).gq br _ _).gq br _ _
   .exfalso;have h1:fo (vw u.ah) (gW s.l)=dE:=by rw[nH,q];rfl
    rw[ag bT,show vw (Q.ah++[(⟨gW s.l,g2,aF,[],0⟩:dj)])=vw Q.ah++[(gW s.l,[])]by simp[vw],oe]at h1;cases h2:fo (vw Q.ah) (gW s.l)with
    |some F=>rw[h2]at h1;cases h1
    |none=>rw[h2]at h1;simp[fo]at h1
   .rw[<-O,<-av];exact(aY (aY cB)).trans z)
  rw[O];clear O av
 (all_goals let⟨u,ao,eg,bh,bc,ce⟩:=ag HX;have aa:=ak bc;clear bc;have bg:=sC.eQ V.st aD ao;have aV:=ac.eQ ao;have ba:∀cs ei,(bu e)[cs]?=M ei->bA W (X eb<|eo+cs)=M ei:=λcs ei hj=>ac.u ao<|HE cs ei hj;have bd:=RM e eb eo el W.drew (λcs hj=>bg.t.o cs hj) aV.lt ba cm HG h8;rw[(HB _ (aB cm):(e[0]'cm).f=(((s.S+1) %18446744073709551616:R):Y))]at bd;have k2:=cU.bW ce 2 z;let⟨ad,ev,cd⟩:=eU ao eg bh;let⟨cv,ga,dc,cT,fL,fz⟩:=nT ce bg (ao.sb V.st.l aD:¬u.j s.f b) bd ba aV;clear ao eg bh ce bg bd ba aV;rename_i QQ KK dn;refine cX (λ(j4:Z)=>bA j4 (X b 2)=M (aJ s.f)) 8 aH ?_;apply dH 0;(iterate 6 (refine vf (v:=?_) (k2:bA W.drew (X b 2)=M (aJ s.f)) z aH wO z ?_ ?_;rotate_left;(focus(intro j4 hX;go_simp;try rfl));simp only[ig,eh,jZ]));apply eS;refine aW 6 ?_;intro K6 eA;go_simp;go_call cT as bv w4⟨v4,rfl,bm,ec⟩;have E:I aC W w4:=(cf aC W).t ec;apply eA _ _<|λ_=>(E.u k2 id (sj k2):bA w4 (X b 2)=M (aJ s.f));let⟨bs,an⟩:∃bs,zi (((s.S+1) %18446744073709551616:R):Y) e=bs:=⟨_,rfl⟩;rw[an]at bm;(have fb:y bs<=400:=by rw[<-an];exact zJ HG h8);let⟨vb,vc,fk,ed,bE,_⟩:=vu bm (by rw[<-an];unfold zi;rw[ai,iA];omega:0<y bs);subst fk;have ds:=Kq (db:=s.f) (K:=u) (gW s.l) vb 0 vc bs (w0:=w4) (ad.ok.aA E<|λ_ _=>id) (λq=>ad.fx.D<|ag ev q) (by rw[ag cd];exact co.imp ad.fx.D<|λq=>bP q.1) U (by rw[<-an];exact L5 HG h8) (λcs ei hj=>by have:=ri bm cs ei hj;rwa[dS]at this) bE (λbv=>by have h1:=ad.ok.lt s.f<|J z;have h2:G (H W.drew)=G (H W):=rfl;omega)<|wK j;refine aW 7 ?_;intro K7 dd;go_simp;go_call ds as bv w5⟨v5,K5,rfl,cn⟩;have ap:=cn.D;have ch:cU w4 b {s with i:=cz,x:=N} r:=(E.A b (az cv) id).trans cv;have al:cU w5 b {s with i:=cz,x:=N} r:=(ap.aA.A b (az ch) dc).trans ch;apply dd _ _<|λ_=>al.u z;clear dd ds;(try simp only[ig,eh]);refine aW 8 ?_;intro K8 dk;go_simp;apply dk _ _<|λq=>(q z).elim;refine dG aH ?_ _;show KK _ _;apply dn;clear dn dk;have ab:gh a w5 s.f b Q K5:=ad.aj ⟨ap.ok,(E.aT (T:=λr=>u.j s.f r\/r=b) cY).aj ap.aA aI,λr q=>(ap.j r q).imp id<|λcu=>aR E.D cu,ap.fx⟩;obtain⟨rfl,o5⟩|⟨l5,q5,c5,r1,r2,rfl,r3,r4⟩:=cn.d;rotate_left;(.have hE:MM a w5 b s r Q K5 c (eW q5):=⟨ab,⟨_,al,z,z⟩,⟨q5,z,c5,r3,r4.pI⟩,_,mr.EZ aa.1 r2,RS (bs:=bs) j (by unfold qB;exact(iu _).2 r1)⟩;go_wp2;go_ret;exact ak<|show zau K j4 a w5 b s r Q bL C F fv fx c fu sn e (aN<|eW q5)from bj ⟨_,K5,z,hE,(ad.fx.A V.st.f.L r4).Y8⟩);have cb:=ak<|show mr (qB s<|Yo s e) Q K5/\((s.i=bD->N=cz)/\(s.i=cz->N=s.x))from⟨by unfold Yo;rw[an];exact mr.EZ aa.1 o5,aa.2⟩;clear cn o5;have bf:¬K5.j s.f b:=ab.sb V.st.l aD;have gv:=cU.bW al 20 z;have gi:iH w5 (X b 20)=bD:=al.bS;let⟨W6,dr⟩:∃W6,cP w5 (X b 20) (aO cz)=W6:=⟨_,rfl⟩;(have bi:cU W6 b {s with i:=cz,x:=N,k:=cz} r:=by rw[<-dr];exact(aY al).trans z);(have m:gh a W6 s.f b Q K5:=by rw[<-dr];exact ab.gq bf _ _);have D:=sC.eQ V.st aD m;have bx:=ac.eQ m;have bb:=D.D;rw[ag ca]at bb;let⟨mb,m1,m2,m3⟩:=(V.f.eQ m).ex;have bp:=Dv b {s with i:=cz,x:=N,k:=cz} r sn (bX eb eo (y e) el) e bi m1 m2 V.f.dL D.D (λr a=>(D.L r a).lt) ⟨ic e,bj ⟨eb,eo,el,rfl,cl,λcs ei hj=>ac.u m<|HE cs ei hj⟩⟩ (λr a=>by cases a;exact bx.lt) D.o (gV V.x V.L);have bp:cR bN 74 #[aJ b,bX eb eo (y e) el] W6 λbv w'=>∃a,bv=aN a/\fD w' (G<|H W6) 223 4 a (y<|kS sn bL e) (bu<|kS sn bL e)/\I aC W6 w':=bp;(have k7:bA W6 (X b 7)=M (am mx (y bL) mc):=by rw[<-ag ca];exact bi.u z);let⟨cx,er,gb,aU⟩:=jr bi m D bf;clear ab ch al ap bm ec E bi m D bx bb bf an fb ed bE;go_wp21;go_call bp as bv w7⟨v7,rfl,ax,cr⟩;obtain⟨x7,c7,fl⟩:=aM ax;subst fl;have P:cU w7 b {s with i:=cz,x:=N,k:=cz} r:=(cr.A b (az cx) id).trans cx;(have k7:bA w7 (X b 7)=M (am mx (y bL) mc):=by rw[<-ag ca];exact P.u z);have k8:=cU.bW P 8 z;have k9:=cU.bW P 9 z;have f7:iH w7 (X b 7)=bD:=P.bS;have f8:iH w7 (X b 8)=bD:=P.bS;have f9:iH w7 (X b 9)=bD:=P.bS;have gj:s.S<18446744073709551616:=V.bt;(have gr:IntKind.i64.wrap ((s.o:Y)+(y e:Y))=(s.o:Y)+(y e:Y):=by rw[bR];omega);let⟨ek,dv⟩:∃ek,(s.S+1) %18446744073709551616=ek:=⟨_,rfl⟩;(have gs:IntKind.u64.wrap ((s.S:Y)+1)=(ek:Y):=by rw[dY];omega);have en:=ak dv;clear dv;let⟨em,et,cc⟩:=eU P ax cr;clear P ax cr bp;go_wp2;go_ret;have p:=ag V;have m:=ag er;have gd:=AB sn bL e;have n1:∀ej∈kS sn bL e,ej.Good:=λej a=>(AA a).elim (p.st.S ej)<|ag HG ej;(have ck:gh a (cP (cP (cP w7 (X b 7)<|am x7 (y<|kS sn bL e) c7) (X b 8)<|ay<|(s.o:Y)+(y e:Y)) (X b 9)<|bw ek) s.f b Q K5:=by have h1:gh a w7 s.f b Q K5:=m.aj ⟨m.ok.aA cc<|λ_ _=>id,cc.aT cY,λ_ q=>J q,Fx.bI _⟩;exact((h1.gq aU _ _).gq aU _ _).gq aU _ _);have ea:=sC.eQ p.st aD ck;let⟨bq,gx⟩:=X5 (ag cb).1;have ax:=ag et;have gc:=cc.D;have gt:G (H a)<=G (H W6):=m.aA.D;have dx:∀q,cN (am x7 (y<|kS sn bL e) c7)=M q->G (H W6)<=q/\q<G (H w7):=λq hq=>ax.lt q hq;have gk:=m.ok.lt;refine J ⟨z,am x7 (y<|kS sn bL e) c7,N,K5,?_,?_,ck,(ag cb).1,(ag cb).2⟩;unfold SR.p;rw[ag en];exact(aY<|aY<|aY em).trans z;refine{st:=?_,k:=Ay p.st.o p.f.dL e,x:=?_,L:=?_,f:=(p.f.eQ ck).vH ⟨z,z⟩,i:=?_,nx:=p.nx,lg:=p.lg,bt:=oh _ cg,o:=p.o,l:=?_,S:=?_,A:=?_,n:=QC.Ao _ ?_,pF:=λcu=>Xb.Ao _ ?_,v:=hN,B:=p.B};(refine(sC.Ym (C':=c+y e) ea (s':=s.p (am x7 (y<|kS sn bL e) c7) (y e) N) ⟨z,z,z,z,z⟩ ?_ ?_ (Az p.st.o sn e) n1 U hC).Ao _;show Row _ 4 (am x7 (y<|kS sn bL e) c7) _ _;refine dQ ((((ax.kept (eG _ _ _ _) ?_).kept (eG _ _ _ _) ?_).kept (eG _ _ _ _) ?_))<;>exact aI;intro q hq;have h1:=dx q hq;refine⟨?_,λcu=>?_,U⟩;simp_all;grind);have:=p.x;show y (kS sn bL e)<=s.o+y e;omega;show s.o+y e<=31;omega;have bv:C.map (ja<|vw K5.ah)++F.map (ja<|vw K5.ah)++fv.map (ja<|vw K5.ah)++fx.map (ja<|vw K5.ah)=(C++F++fv++fx).map (ja<|vw K5.ah):=ar;rw[bv,iV];exact p.i;have:=p.l;omega;refine⟨?_,p.S.2⟩;show s.v<=fu+1;have:=p.S.1;omega;intro fs bs hb;by_cases q:fs=gW s.l;rw[q];exact wK j;rw[bq fs q]at hb;exact p.A fs bs hb;intro fs bs hb;by_cases q:fs=gW s.l;exact bj<|bj<|J ⟨s.l,z,q⟩;rw[bq fs q]at hb;obtain bv|bv|⟨ha,e1,e2⟩|bv:=p.n fs bs hb;exact J bv;exact bj<|J bv;exfalso;unfold SR.Xh at e1;by_cases hl:s.i=cz;rw[fV hl]at e1;cases e1;exact q e2;rw[fM hl]at e1;cases e1;exact bj<|bj<|bj bv;let⟨e1,e2⟩:=p.pF cu;refine⟨?_,λgE ht=>?_⟩;rwa[bq _<|λq=>rY _ q.symm];rw[bq _<|FZ _ _];exact e2 gE ht)
def Inv.aT{j:Prop}{g:cy af}{w:Z}{K:DK}{q:dB}{m b n p:dI}{C a N N':R}{k:gI}(h:Inv j g w c o K q m b n p C N k)(r:C<=a)(d:a<=3000000000)(s:N<=N')(e:N'<=1000000000):Inv j g w c o K q m b n p a N' k:={h with st:={h.st with za:=bP h.st.za,v:=d},l:=bP h.l,S:=⟨bP h.S.1,h.S.2⟩,v:=e}
def Inv.eQ{t:Prop}{r:cy af}{w C:Z}{s s':SR}{K a:DK}{O:dB}{D b E F:dI}{N:R}{u:gI}(h:Inv t r w c s K O D b E F T N u)(j:c<G (H w))(q:gh w C s.f c K a)(g:vw a.ah=vw K.ah)(P:y a.l<=y K.l)(e:s'={s with k:=s'.k,x:=s'.x,d:=s'.d}):Inv t r C c s' a O D b E F T N u:=by
 have m:=(h.st.eQ j q g).vH (s':=s') (by rw[e];grind) (by rw[e]);have p:s'.o=s.o:=by rw[e]
 have:y a.ah=y K.ah:=by simpa[vw]using cD y g
 exact{st:=m,k:=h.k,x:=p▸h.x,L:=p▸h.L,f:=(h.f.eQ q).vH (by rw[e];grind:s'.f=s.f/\s'.n=s.n),i:=h.i,nx:=(by rw[e]:s'.t=s.t)▸h.nx,lg:=(by rw[e]:s'.l=s.l)▸h.lg,bt:=(by rw[e]:s'.S=s.S)▸h.bt,o:=(by rw[e]:s'.D=s.D)▸(by rw[e]:s'.ua=s.ua)▸h.o,l:=bP h.l,S:=(by rw[e]:s'.v=s.v)▸h.S,A:=g▸h.A,n:=g▸(by rw[e];rfl:s'.Xh=s.Xh)▸h.n,pF:=g▸h.pF,v:=h.v,B:=h.B}
def Yy{l:cy tY}(h:l<+:oZ o)(d:mr l f x):vw x.ah=vw f.ah/\y x.l<=y f.l:=by
 have e:∀l:cy tY,(∀k∈l,(∃t,k=.sy t)\/k=.sd)->∀f,mr l f x->vw x.ah=vw f.ah/\y x.l<=y f.l:=by
  intro l;induction l with
  |nil=>
   rintro _ f⟨c,_,a⟩;rw[c,a];exact⟨z,aq _⟩
  |cons k l s=>
   rintro j f⟨m,c,r⟩;let⟨i,b⟩:=s (λx a=>j x<|iz _ a) m r;obtain⟨t,rfl⟩|rfl:=j k iU
   .let⟨F,a,n,_,p⟩:=c;refine⟨?_,p▸b⟩;rw[i,n,qj];simp only[(eM a).1];rw[JS (by rw[nH,a];rfl:fo (vw f.ah) t=M F.bB)]
   .let⟨a,_,n⟩:=c;refine⟨by rw[i,a],?_⟩;rw[n]at b;simp at b;rw[b];simp
 refine e l (λk d=>?_) f d;have:=h.subset d;unfold oZ at this;simp only[aP]at this;obtain q|q:=this;by_cases g:o.k=cz;rw[fV g]at q;exact J ⟨_,bY.1 q⟩;rw[fM g]at q;cases q;by_cases g:o.x=cz;rw[fV g]at q;exact bj<|bY.1 q;rw[fM g]at q;cases q
def KU{l:cy tY}{B:R}(h:l<+:oZ o):MT l B:=by
 refine MT.pa ?_ h;unfold oZ;refine⟨by split<;>split<;>simp,λn a=>?_,?_,λx d c=>?_,by split<;>split<;>simp[Mr],by split<;>split<;>simp[Dq,Z5,R8]⟩;split at a<;>split at a<;>simp at a;split<;>split<;>simp[Dn];split at c<;>split at c<;>simp at c
def SfP(e:Prop)(d:cy af)(w c:Z)(b:R)(s:SR)(h:Y)(K:DK)(o:dB)(i j m n:dI)(C N:R)(f:gI)(g:Ending):Prop:=(g=aN ib/\∃a,gh w c s.f b K a/\cU c b {s with k:=bD,x:=bD} h/\Inv e d c b {s with k:=bD,x:=bD} a o i j m n C N f/\mr (oZ s) K a)\/∃v a,g=aN v/\MM w c b s h K a C v/\Jc K.fx/\∃l,l<+:oZ s/\mr l K a
def Inv.D{s:cy af}{E b v L:dI}{t:gI}(h:Inv K s a c o x i E b v L k n t)(l:cU a c o r)(D:qp x.fx\/(o.k=cz->ii x.ah (gW o.l)≠dE)):cR bN 62 #[aJ c] a λN u=>SfP K s a u c o r x i E b v L k n t N:=by
 refine(CI l h.st.f h.st.l h.st.t.x h.lg (λq P=>D.elim id<|λm9=>absurd P<|m9 q)<|gV h.l h.v).mono ?_;rintro N u⟨T,j,Q,S,rfl,g,d,B⟩;obtain⟨rfl,e⟩|⟨O,q,v,p,e,rfl,C,m⟩:=g.d;obtain⟨rfl,rfl⟩:=B rfl;let⟨w,A⟩:=Yy (sQ _) e;exact J ⟨z,j,g.D,d,h.eQ (az l) g.D w A z,e⟩;exact bj ⟨_,j,z,⟨g.D,⟨_,d,z,z⟩,⟨q,z,v,C,m.pI⟩,O,e,KU p⟩,m.Y8,O,p,e⟩
theorem SQ{c:Na}(a:1<=c.D.size/\c.D.size<=8)(f:c.dP=bD->c.l.size<=16)(b:0<=r)(d:r<18446744073709551616):(qe r c).Good:=by
 refine⟨a.1,a.2,?_,?_,b,d⟩
 .unfold qe;cases q:c.dP with
  |true=>simp[ByteArray.size]
  |false=>grind
 intro q;have e:c.dP=cz:=q;simp[qe,e]
def SR.A(s:SR):R:=(s.S+1) %18446744073709551616
structure Fg(j5:Prop)(j4:cy af)(w w':Z)(sb:R)(s:SR)(k:Y)(K:DK)(C N:R)(sn:gI)(s':SR)(K':DK)(m':dB)(a' b' c' d':dI):Prop where
 g:cU w' sb s' k
 A:Inv j5 j4 w' sb s' K' m' a' b' c' d' C N sn
 eQ:gh w w' s.f sb K K'
 bM:s'.f=s.f/\s'.d=s.d/\s'.D=s.D/\s'.ua=s.ua/\s'.v=s.v/\s'.n=s.n
def LvX(s:SR)(K:DK)(m:dB)(T:dI)(l:gI)(a:dB)(d:eN)(j:SR)(f:DK)(i:dB)(h:dI):Prop:=0<y a->(s.o:Y)+(y a:Y)<s.D->s.mw=bD->∃g c e b,((s.i=bD->c=cz)/\(s.i=cz->c=s.x))/\j={s.p g (y a) c with k:=e,x:=b}/\i=kS l m a/\y h=y T/\if d then e=bD/\b=bD/\mr (qB s (Yo s a)++oZ (s.p g (y a) c)) K f else e=cz/\b=c/\mr (qB s<|Yo s a) K f
def DoP(m:Prop)(l:cy af)(w n:Z)(k:R)(s:SR)(o:Y)(K:DK)(p:dB)(T:dI)(C N:R)(i:gI)(j:dB)(a:eN):Prop:=∃h b g c d e f,Fg m l w n k s o K C N i h b g c d e f/\LvX s K p T i j a h b g (c++d++e++f)
def gh.t{w w1 w':Z}{db a:R}{K c:DK}(h:gh w1 w' db a K c)(d:I aC w w1):gh w w' db a K c:=⟨h.ok,(d.aT (T:=λk=>K.j db k\/k=a) cY).aj h.aA<|λ_ q=>J q,λk q=>(h.j k q).imp id<|λg=>aR d.D g,h.fx⟩
def MM.aA{w w1 w':Z}{K a:DK}(h:MM w1 w' c o r K a k d)(e:I aC w w1):MM w w' c o r K a k d:=⟨h.eQ.t e,h.g,h.f,h.lM⟩
def MM.aT{w g:Z}{K e:DK}(h:MM w g c o r K e k d)(m:k<=n):MM w g c o r K e n d:=⟨h.eQ,h.g,h.f,by obtain⟨l,j,a⟩:=h.lM;exact⟨l,j,a.dL,a.nm,bP a.ap,a.rn,a.L,a.f⟩⟩
def Xq(g:Prop)(f:cy af)(w c:Z)(b:R)(s:SR)(k:Y)(K:DK)(m:dB)(T:dI)(C N:R)(h:gI)(e:dB)(a:eN)(v:ae):Prop:=(v=ib/\DoP g f w c b s k K m T C N h e a)\/∃d,MM w c b s k K d C v/\Jc K.fx
def Xq.aA{m:Prop}{j:cy af}{w w1 w':Z}{K:DK}{B:dB}{T:dI}{p:gI}{e:dB}(h:Xq m j w1 w' c o r K B T k n p e V d)(g:I aC w w1):Xq m j w w' c o r K B T k n p e V d:=h.imp (λ⟨q,A,a,x,s,b',c',t,h,v⟩=>⟨q,A,a,x,s,b',c',t,⟨h.g,h.A,h.eQ.t g,h.bM⟩,v⟩)<|λ⟨a,u,h⟩=>⟨a,u.aA g,h⟩
def Mo:∀l:cy tY,(l.map Mr).sum<=y l
 |[]=>aq _
 |o::l=>by
  have:=Mo l;have:Mr o<=1:=by cases o<;>simp[Mr]
  rw[bO,fq,bK];omega
def MT.EZ{l m:cy tY}(a:MT l b)(d:MT m c)(f:y l+y m<=1000)(h:b+c<=k):MT (l++m) k:=⟨by rw[ai];omega,λn f=>(aP.1 f).elim (a.nm n)<|d.nm n,by rw[bz,eX];have:=a.ap;have:=d.ap;omega,λx e g=>(aP.1 g).elim (a.rn x e)<|d.rn x e,by rw[bz,eX];have:=Mo l;have:=Mo m;omega,a.f.EZ d.f⟩
def Fx.Y8{f g:Ff}(b:Fx f g)(a:f.ok)(h:Jc g):Jc f:=h.imp b.t<|b.p a
def X4(s:SR)(a:eD):y (qB s a)<=2:=by
 unfold qB Aj;split<;>simp
def V0(s:SR):y (oZ s)<=2:=by
 unfold oZ;split<;>split<;>simp
def X3{s:SR}(h:mr (qB s m) f x):ii x.ah (gW s.l)≠dE:=by
 unfold qB at h;let⟨d,l,e,⟨F,n,a,b,g,i⟩,c,j,k⟩:=nQ h;have:fo (vw x.ah) (gW s.l)≠dE:=by rw[c,b,qj,uL,fV<|by exact(eM a).1];simp
 rw[nH]at this;intro q;rw[q]at this;exact this z
def G3{O:cy af}(t:gI){W:vW}(u:eN)(h:cU a b o r)(hV:Inv K O a b o f i l v C F c k t)(hc:FN a d W)(h8:y W<=8)(hk:∀aV∈W,1<=aV.D.size/\aV.D.size<=8)(hv:∀aV∈W,aV.dP=bD->aV.l.size<=16)(ca:∀aV∈W,aV.l.size<=140737488351232)(hC:c+y W<=3000000000)(hN:k+1<=1000000000)(av:qp f.fx\/ft f.ah<=999999000/\(o.o:Y)+(y W:Y)<o.D/\o.mw=bD/\(o.i=cz->ii f.ah (gW o.l)≠dE)/\(o.i=bD->ii f.ah (gW o.l)=dE)/\(o.k=cz->o.i=cz)):cR bN 52 #[aJ b,d,aO u] a λbp w'=>∃cr,bp=aN cr/\Xq K O a w' b o r f i (l++v++C++F) (c+y W) (k+1) t (W.map<|qe (o.A:Y)) u cr:=by
 have bT:=az h;have cB:=hV.bt;have ac:o.A<18446744073709551616:=oh _ cg;have Q:=ZU (o.A:Y) hc U<|λaV hx=>⟨bP<|(hk aV hx).2,ca aV hx⟩;let⟨e,ad⟩:∃e,W.map (qe (o.A:Y))=e:=⟨_,rfl⟩;rw[ad]at Q|-;have bn:y e=y W:=by rw[<-ad];simp
 have al:∀aV∈e,aV.Good:=λaV hx=>by rw[<-ad]at hx;grind[SQ]
 have bh:∀aV∈e,aV.f=(o.A:Y):=λaV hx=>by rw[<-ad]at hx;obtain⟨g,j,rfl⟩:=cC.1 hx;rfl
 let⟨dr,dn,ch⟩:=sX hc;subst ch;rw[<-bn]at Q hC h8 av|-;have k9:=cU.bW h 9 z;have dk:IntKind.u64.wrap ((o.S:Y)+1)=(o.A:Y):=by rw[dY];unfold SR.A;omega
 let⟨HH,HV,HG,cb⟩:=jr h hV al bh;have cT:y W=y e:=bn.symm;clear h hV al bh hc hk hv ca ad bn;go_in
 go_wp21;go_call Q as bp P⟨v1,rfl,bb,aU⟩;obtain⟨x1,c1,cm⟩:=aM bb;subst cm;have bm:gh a P o.f b f f:=⟨HV.st.f.aA aU<|λ_ _=>id,aU.aT cY,λ_ q=>J q,Fx.bI _⟩;have ac:cU P b o r:=(aU.A b bT id).trans HH;have bs:Inv K O P b o f i l v C F c k t:=HV.eQ bT bm z (aq _) z;have hA1:∀q,cN (am x1 (y e) c1)=M q->Aside P f o.f b q:=λq hq=>by have g:=bb.lt q hq;exact⟨g.2,λa=>bP<|HV.st.f.lt q a,U⟩
 let⟨br,aa,p,w,bq,cu⟩:=nT bb aU ac bs hA1 bm;clear bb aU ac bs hA1 bm Q HV HH;by_cases hz:y e=0
 .have j:e=[]:=bG hz;have cj:¬(0:Y)<(y e:Y):=U;cases u with
  |true=>
   have N:=w.D p<|av.imp id<|λq m9=>q.2.2.2.1<|q.2.2.2.2.2 m9;go_wp21;go_call N as bp w2(⟨rfl,K2,x,D,V,g⟩|⟨v2,K2,rfl,L,an,_⟩)
   .have S:=ak<|show Xq K O P w2 b o r f i (l++v++C++F) (c+y e) (k+1) t e cz ib from J ⟨z,_,K2,i,l,v,C,F,⟨D,V.aT U hC U hN,x,⟨z,z,z,z,z,z⟩⟩,λq=>absurd q U⟩;clear x g D V N;go_wp2;go_ret;exact⟨_,z,S.aA aa⟩
   .obtain⟨q2,rfl,r3⟩:=L.f;have S:=ak<|show Xq K O P w2 b o r f i (l++v++C++F) (c+y e) (k+1) t e cz (eW q2)from bj ⟨K2,L.aT U,an⟩;clear L r3 N;go_wp2;go_ret;exact⟨_,z,S.aA aa⟩
  |false=>
   have S:=ak<|show Xq K O P P b o r f i (l++v++C++F) (c+y e) (k+1) t e bD ib from J ⟨z,o,f,i,l,v,C,F,⟨p,w.aT U hC U hN,gh.bI w.st.f,⟨z,z,z,z,z,z⟩⟩,λq=>absurd q U⟩;go_wp2;go_ret;exact⟨_,z,S.aA aa⟩
 .have cj:(0:Y)<(y e:Y):=U;have k8:=cU.bW p 8 z;have k3:=cU.bW p 3 z;have bd:=cU.bW p 19 z;have k7:∃mx mc,o.L=am mx (y i) mc:=by
   let⟨aV,C,bp⟩:=cG w.st.D;grind
  let⟨mx,mc,bL⟩:=k7;have k7:bA P (X b 7)=M (am mx (y i) mc):=by rw[<-bL];exact p.u z
  have k9:=cU.bW p 9 z;have cM:o.o<32:=bP<|(ag w).L;have dd:IntKind.i64.wrap ((o.o:Y)+(y e:Y))=(o.o:Y)+(y e:Y):=by rw[bR];omega
  clear bL;by_cases n:o.D<=(o.o:Y)+(y e:Y)\/o.mw=cz
  .have ck:o.D<=(o.o:Y)+(y e:Y)\/¬o.D<=(o.o:Y)+(y e:Y)/\o.mw=cz:=by
    by_cases q:o.D<=(o.o:Y)+(y e:Y)
    .exact J q
    .exact bj ⟨q,n.resolve_left q⟩
   have bi:qp f.fx:=av.elim id<|λq=>n.elim (λm9=>absurd q.2.1 U) (λm9=>by rw[q.2.2.1]at m9;cases m9);have bl:=ak n;clear n;obtain bo|⟨bo,bc⟩:=ck;case' inr=>
    rw[bc]at bd;clear bc
   all_goals
    go_wp21;go_quiet(fail)
    go_wp21;let⟨j,hU⟩:∃j,P.drewN nq=j:=⟨_,rfl⟩;have s:I aC P j:=by rw[<-hU];exact gO _ _ _
    have E:gh P j o.f b f f:=⟨w.st.f.aA s<|λ_ _=>id,s.aT cY,λ_ q=>J q,Fx.bI _⟩;have A:cU j b o r:=(s.A b (az p) id).trans p;have m:Inv K O j b o f i l v C F c k t:=w.eQ (az p) E z (aq _) z;have ab:∀q,cN (am x1 (y e) c1)=M q->Aside j f o.f b q:=λq hq=>(bq q hq).eQ E;have ap:=s.aZ br<|λ_ _ q=>q;have T:=ak<|aa.t s;rw[hU];clear hU;have db:=m.x;have cs:=m.L;have bE:gh j j.drew o.f b f f:=qT m.st.f<|below_drewN (Below.refl _ j) 1;let⟨mb,m1,m2,m3⟩:=(m.f.eQ bE).ex;have bk:=Dv b o r t (am x1 (y e) c1) e (by exact A) m1 m2 m.f.dL (by exact m.st.D) (λq hq=>(m.st.L q hq).lt) (dQ<|by exact ap) (λq hq=>(ab q hq).lt) m.st.o U;have co:cR bN 74 #[aJ b,am x1 (y e) c1] j.drew λbp w'=>∃a,bp=aN a/\fD w' (G<|H j) 223 4 a (y<|kS t i e) (bu<|kS t i e)/\I aC j.drew w':=bk;clear bk m1 m2 m3 bE;have n:∀w6 v6,fD w6 (G<|H j) 223 4 v6 (y<|kS t i e) (bu<|kS t i e)->I aC j.drew w6->cR bN 78 #[aJ b,v6,bw (o.A:Y)] w6 λbp w'=>∃cr,bp=aN cr/\Xq K O w6 w' b o r f i (l++v++C++F) (c+y e) (k+1) t e u cr:=λw6 v6 ao aD=>by
     have ax:I aC j w6:=(cf aC j).t aD;have bx:gh j w6 o.f b f f:=⟨m.st.f.aA ax<|λ_ _=>id,ax.aT cY,λ_ q=>J q,Fx.bI _⟩;have g:=m.eQ (s':=o) (az A) bx z (aq _) z;have ce:cU w6 b o r:=(ax.A b (az A) id).trans A;have dc:=AB t i e;have cl:=Gk v6 (c+y e) o.A ce g.st g.i (dQ ao) (λq hq=>(ao.lt q hq).2) (Az g.st.o t e) (Ay g.st.o g.f.dL e) (λaV hx=>(AA hx).elim (g.st.S aV)<|HG aV) U (bP g.st.za) hC g.o.2.2.1 ac g.nx g.lg (gV g.l g.v) t g.f bi;go_call cl as bp w'(⟨rfl,v0,v1,v2,v3,K',dz,a',b',c',d',hO⟩|⟨cr,K',rfl,hs⟩)
     .exact⟨_,z,J ⟨z,_,K',[],a',b',c',d',⟨hO.g,hO.A g.o g.st.f ac ⟨bP g.S.1,g.S.2⟩ hN g.B g.f g.A g.n g.pF,hO.eQ,⟨z,z,z,z,z,z⟩⟩,λ_ a q2=>absurd (ag bl) (by rw[q2];simp;omega)⟩⟩
     .exact⟨_,z,bj ⟨K',hs,J bi⟩⟩
    have cp:=cU.bW A 9 z;clear ab ap E s k7 k8 k9 k3 bd;rename_i KK bv;have ba:bA j.drew (X b 9)=M (bw o.S):=cp;refine kF (λ(O:Z)=>bA O (X b 9)=M (bw o.S)) 9 aH ?_;refine lW 0 ?_;iterate 3 (refine zu ba ?_;simp only[ig,eh,jZ])
    apply qi;refine lW 4 ?_;iterate 5 (refine zu ba ?_;simp only[ig,eh,jZ])
    apply qi;refine gN 3 ?_;intro K6 bt;go_simp;apply co.mono;rintro bp w6⟨v6,rfl,ao,aD⟩;obtain⟨x6,c6,cn⟩:=aM ao;subst cn;have cd:bA w6 (X b 9)=M (bw o.S):=aD.u ba id<|sj ba;refine bt _ _ (λ_=>cd) ?_;clear bt;try simp only[ig,eh]
    refine gN 9 ?_;intro cv bf;go_simp;go_call n w6 _ ao aD as bp w7⟨v7,rfl,cc⟩;refine bf _ _ (λq=>U) ?_;clear bf;try simp only[ig,eh]
    refine gN 10 ?_;intro cx bg;go_simp;refine bg _ _ (λq=>U) ?_;refine kR aH ?_ _;show KK _ _;apply bv;clear bv bg;go_wp2;go_ret;exact⟨_,z,cc.aA<|(T.t<|cf aC j).t aD⟩
  .have:¬o.D<=(o.o:Y)+(y e:Y):=λq=>n<|J q;have bc:o.mw=bD:=by
    cases q:o.mw with
    |false=>rfl
    |true=>exact absurd (bj q) n
   rw[bc]at bd;clear n;go_wp21;go_quiet(fail)
   go_wp21;let⟨j,hU⟩:∃j,P.drewN nq=j:=⟨_,rfl⟩;have s:I aC P j:=hU▸gO _ _ _;have E:gh P j o.f b f f:=⟨w.st.f.aA s<|λ_ _=>id,s.aT cY,λ_ q=>J q,Fx.bI _⟩;have A:cU j b o r:=(s.A b (az p) id).trans p;have m:Inv K O j b o f i l v C F c k t:=w.eQ (az p) E z (aq _) z;have ab:∀q,cN (am x1 (y e) c1)=M q->Aside j f o.f b q:=λq hq=>(bq q hq).eQ E;have ap:=s.aZ br<|λ_ _ q=>q;have T:=ak<|aa.t s;rw[hU];clear hU;have ba:=Og t A m (dQ ap) ab U h8 HG cb (bP m.o) hC hN<|av.imp id<|λq=>⟨q.1,q.2.2.2.1,q.2.2.2.2.1⟩;clear A ab ap E s k7 k8 k9 k3 bd;go_call ba as bp w2(⟨rfl,bi,bf,K2,D,V,x,ax,g⟩|⟨v2,K2,rfl,L,an⟩)
   .cases u with
    |true=>
     have N:=V.D D<|av.imp x.fx.D<|λ_ _=>X3 (s:=o) ax;clear ba D;go_wp21;go_call N as bp w3(⟨rfl,K3,bl,bk,bo,ao⟩|⟨v3,K3,rfl,aD,an,l3,bg,ao⟩)
     .have S:=ak<|show Xq K O j w3 b o r f i (l++v++C++F) (c+y e) (k+1) t e cz ib from J ⟨z,_,K3,_,_,_,_,_,⟨bk,bo,x.aj bl,⟨z,z,z,z,z,z⟩⟩,λ_ _ _=>⟨bi,bf,bD,bD,g,z,z,ar,z,z,ax.EZ ao⟩⟩;clear bl ao bk bo N;go_wp2;go_ret;exact⟨_,z,S.aA T⟩
     .obtain⟨q3,rfl,r3⟩:=aD.f;have S:=ak<|show Xq K O j w3 b o r f i (l++v++C++F) (c+y e) (k+1) t e cz (eW q3)from bj ⟨K3,⟨x.aj aD.eQ,aD.g,aD.f,qB o (Yo o e)++l3,ax.EZ ao,(RS (B:=0) m.lg<|sQ _).EZ (KU (B:=0) bg) (Lw (X4 o<|Yo o e) (V0<|o.p bi (y e) bf) bg.length_le) U⟩,x.fx.Y8 m.st.f.L an⟩;clear aD r3 N bg ao;go_wp2;go_ret;exact⟨_,z,S.aA T⟩
    |false=>
     have S:=ak<|show Xq K O j w2 b o r f i (l++v++C++F) (c+y e) (k+1) t e bD ib from J ⟨z,_,K2,_,_,_,_,_,⟨D,V,x,⟨z,z,z,z,z,z⟩⟩,λ_ _ _=>⟨bi,bf,cz,bf,g,z,z,ar,z,z,ax⟩⟩;clear ba D V x ax g;go_wp2;go_ret;exact⟨_,z,S.aA T⟩
   .obtain⟨q2,rfl,r3⟩:=L.f;have S:=ak<|show Xq K O j w2 b o r f i (l++v++C++F) (c+y e) (k+1) t e u (eW q2)from bj ⟨K2,L.aT U,an⟩;clear L r3 ba;go_wp2;go_ret;exact⟨_,z,S.aA T⟩
def TD(s:SR)(a b c d:dI):Prop:=(s.o:Y)<s.D/\qd s.ua 0 (y a)=bD/\qd s.ua 1 (y b)=bD/\qd s.ua 2 (y c)=bD/\qd s.ua 3 (y d)=bD
def ShZ(k:Prop)(j:cy af)(w i:Z)(f:R)(s:SR)(q:Y)(K:DK)(r:dB)(m n o p:dI)(C N:R)(l:gI)(v:ae):Prop:=(v=ib/\∃h a g b c d e,Fg k j w i f s q K C N l h a g b c d e/\(TD s m n o p->h=s/\a=K/\g=r/\b++c++d++e=m++n++o++p))\/(qp K.fx/\∃a,MM w i f s q K a C v)
def NF(s:SR)(b c d e:dI)(a:eN):Prop:=TD s b c d e->a=bD
def Rm{Q:cy af}(sn:gI)(h:cU a b o r)(s:Inv K Q a b o f i l v C F c k sn)(hN:k+1<=1000000000)(bc:qp f.fx\/TD o l v C F):cR bN 31 #[aJ b] a λA m=>∃bd,A=aN bd/\ShZ K Q a m b o r f i l v C F c (k+1) sn bd:=by
 have V:=az h;have k3:=cU.bW h 3 z;have k8:=cU.bW h 8 z;have HH:=ak h;have HV:=ak s;clear h s;go_in
 go_wp2;go_quiet(fail)
 rename_i KK p;show KK _ _;apply p;clear p;have w:I aC a (a.drewN nq):=(I.bI aC a).df z;generalize a.drewN nq=g at w|-;let⟨j,P⟩:∃j,decide (o.D<=(o.o:Y))=j:=⟨_,rfl⟩;have ao:=ak (show NF o l v C F j fromλq=>by rw[<-P];have:=q.1;simp;omega);rw[P];clear P;have h:=ag HH;have s:=ag HV;have e:cU g b o r:=(w.A b V id).trans h;have t:=nj (j3:=b) s.st.f w;have n:=s.eQ (s':=o) V t z (aq _) z;let⟨mx,mc,u⟩:=cG s.st.D;let⟨D,x,ab⟩:=cG s.st.l0.bV;let⟨E,c1,ac⟩:=cG s.st.l1.bV;let⟨L,c2,ad⟩:=cG s.st.l2.bV;let⟨N,c3,al⟩:=cG s.st.l3.bV;have:bA g (X b 10)=M (am D (y l) x):=ab▸e.u z;have:bA g (X b 11)=M (am E (y v) c1):=ac▸e.u z;have:bA g (X b 12)=M (am L (y C) c2):=ad▸e.u z;have:bA g (X b 13)=M (am N (y F) c3):=al▸e.u z;have q7:bA g (X b 7)=M (am mx (y i) mc):=u▸e.u z;have q9:=cU.bW e 9 z;have:∀W,(Instr.index 108 (ef #[am D (y l) x,am E (y v) c1,am L (y C) c2,am N (y F) c3])<|ay 0).run bN W=.ok (am D (y l) x) W:=λ_=>aH;have:∀W,(Instr.index 108 (ef #[am D (y l) x,am E (y v) c1,am L (y C) c2,am N (y F) c3])<|ay 1).run bN W=.ok (am E (y v) c1) W:=λ_=>aH;have:∀W,(Instr.index 108 (ef #[am D (y l) x,am E (y v) c1,am L (y C) c2,am N (y F) c3])<|ay 2).run bN W=.ok (am L (y C) c2) W:=λ_=>aH;have:∀W,(Instr.index 108 (ef #[am D (y l) x,am E (y v) c1,am L (y C) c2,am N (y F) c3])<|ay 3).run bN W=.ok (am N (y F) c3) W:=λ_=>aH;have aD:cR bN 77 #[aJ b,ay 0,am D (y l) x] g λA m=>A=aN (aO<|qd o.ua 0<|y l)/\m=g:=tQ 0 (y l) D x e U;have aU:cR bN 77 #[aJ b,ay 1,am E (y v) c1] g λA m=>A=aN (aO<|qd o.ua 1<|y v)/\m=g:=tQ 1 (y v) E c1 e U;have aV:cR bN 77 #[aJ b,ay 2,am L (y C) c2] g λA m=>A=aN (aO<|qd o.ua 2<|y C)/\m=g:=tQ 2 (y C) L c2 e U;have ba:cR bN 77 #[aJ b,ay 3,am N (y F) c3] g λA m=>A=aN (aO<|qd o.ua 3<|y F)/\m=g:=tQ 3 (y F) N c3 e U;have aa:¬TD o l v C F->∀bf,I aC g bf->cR bN 78 #[aJ b,am mx (y i) mc,bw o.S] bf λA m=>∃bd,A=aN bd/\ShZ K Q a m b o r f i l v C F c (k+1) sn bd:=λS bf hY=>by have B:qp f.fx:=bc.elim id<|λq=>absurd q S;have O:=nj (j3:=b) n.st.f hY;have d:=n.eQ (s':=o) (az e) O z (aq _) z;have av:cU bf b o r:=(hY.A b (az e) id).trans e;have ax:y i<=100:=gV d.x d.L;have bb:=Gk (am mx (y i) mc) c o.S av d.st d.i (u▸d.st.D) (λq a=>(d.st.L q<|u▸a).lt) d.st.o d.k d.st.S ax (bP d.st.za) d.st.v d.o.2.2.1 d.bt d.nx d.lg (gV d.l d.v) sn d.f B;go_call bb as A m(⟨rfl,v0,v1,v2,v3,K',dz,a',b',c',d',hO⟩|⟨bd,K',rfl,T⟩);exact⟨_,z,J ⟨z,_,K',[],a',b',c',d',⟨hO.g,hO.A d.o d.st.f d.bt ⟨bP d.S.1,d.S.2⟩ hN d.B d.f d.A d.n d.pF,(t.aj O).aj hO.eQ,⟨z,z,z,z,z,z⟩⟩,λq=>absurd q S⟩⟩;exact⟨bd,z,bj ⟨B,K',⟨(t.aj O).aj T.eQ,T.g,T.f,T.lM⟩⟩⟩
 have ap:=ak<|show ShZ K Q a g b o r f i l v C F c (k+1) sn ib from J ⟨z,o,f,i,l,v,C,F,⟨e,n.aT (aq _) n.st.v U hN,t,⟨z,z,z,z,z,z⟩⟩,λ_=>⟨z,z,z,z⟩⟩;clear h s e t n u ab ac ad al w k3 k8;go_wp2;go_loopw [3,20] (λa i wr=>∃(an:R)(j:eN),an<=4/\i=ay an/\a=aO j/\NF o l v C F j/\wr=g) (λ_ i _=>4-(intOf i).toNat)
 exact⟨0,j,U,dM,z,ao,z⟩;obtain⟨an,j,hj,rfl,rfl,d,bg⟩:=hrel;subst wr;have bb:an=0\/an=1\/an=2\/an=3\/an=4:=U;obtain rfl|rfl|rfl|rfl|rfl:=bb;(.cases j;(·(go_wp2_with(go_at_call 77;refine aD.mono ?_;rintro A S⟨rfl,hw⟩;subst S));go_roundw;exact⟨1,_,U,dM,z,λq=>q.2.1,trivial⟩;simp[intOf]);go_wp2;go_roundw;exact⟨1,_,U,dM,z,d,trivial⟩;simp[intOf]);(.cases j;(·(go_wp2_with(go_at_call 77;refine aU.mono ?_;rintro A S⟨rfl,hw⟩;subst S));go_roundw;exact⟨2,_,U,dM,z,λq=>q.2.2.1,trivial⟩;simp[intOf]);go_wp2;go_roundw;exact⟨2,_,U,dM,z,d,trivial⟩;simp[intOf]);(.cases j;(·(go_wp2_with(go_at_call 77;refine aV.mono ?_;rintro A S⟨rfl,hw⟩;subst S));go_roundw;exact⟨3,_,U,dM,z,λq=>q.2.2.2.1,trivial⟩;simp[intOf]);go_wp2;go_roundw;exact⟨3,_,U,dM,z,d,trivial⟩;simp[intOf]);(.cases j;(·(go_wp2_with(go_at_call 77;refine ba.mono ?_;rintro A S⟨rfl,hw⟩;subst S));go_roundw;exact⟨4,_,U,dM,z,λq=>q.2.2.2.2,trivial⟩;simp[intOf]);go_wp2;go_roundw;exact⟨4,_,U,dM,z,d,trivial⟩;simp[intOf]);cases j;(.go_wp2;go_ret;exact⟨_,z,ap⟩);have O:=ak (aa<|λq=>by cases d q);go_wp21;rename_i KK p;have ax:bA g.drew (X b 7)=M (am mx (y i) mc)/\bA g.drew (X b 9)=M (bw o.S):=⟨q7,q9⟩;refine kF (λ(Q:Z)=>bA Q (X b 7)=M (am mx (y i) mc)/\bA Q (X b 9)=M (bw o.S)) 9 aH ?_;refine lW 0 ?_;(iterate 9 (refine zu ax ?_;simp only[ig,eh,jZ]));apply qi;refine gN 9 ?_;intro K9 T;go_simp;go_call O g.drew (cf _ g)as A w7⟨v7,rfl,av⟩;refine T _ _ (λq=>U) ?_;clear T;(try simp only[ig,eh]);refine gN 10 ?_;intro bf B;go_simp;refine B _ _ (λq=>U) ?_;refine kR aH ?_ _;show KK _ _;apply p;clear p B;go_wp2;go_ret;exact⟨_,z,av⟩
section
open Conc.Locks
def Ir(d:Fs)(w c:Z)(b:R)(s:SR)(K:DK)(m:dB)(e f g h:dI)(C:R):Prop:=∃a,gh w c s.f b K a/\a.ah=K.ah/\(a.l=K.l/\wR K a)/\(∀k,a.j s.f k->K.j s.f k)/\cU c b s 0/\sC d c b s a m e f g h C
def Ar(w c:Z)(b:R)(s:SR)(K:DK)(m:dB)(d e f g:dI)(C:R):Prop:=∃a,gh w c s.f b K a/\a.ah=K.ah/\(a.l=K.l/\wR K a)/\(∀k,a.j s.f k->K.j s.f k)/\cU c b s 0/\ST c b s a m d e f g C
theorem Ir.xC(h:Ir (vw f.ah) a e b o f i l v C F c):Ar a e b o f i l v C F c:=by
 let⟨g,j,d,k,m,n,p⟩:=h;refine⟨g,j,d,k,m,n,?_⟩;rwa[ST,d]
def RO{j3:R}(i:gh a e o.f j3 f f)(j:(uf K o.f f).D P)(m:I (uf K o.f f).F e P):∃c,gh a P o.f j3 f c/\c.ah=f.ah/\(c.l=f.l/\wR f c)/\(∀n,c.j o.f n->f.j o.f n):=by
 let⟨l,c,k,d,g,h⟩:=j;exact⟨c,i.aj ⟨k,m.aT<|λn j=>J<|J j,aI,h⟩,d.1,⟨d.2.2,d⟩,g⟩
def SF(a:af)(b:Y)(m8:cy (ae×dB)):ae:=if 1<=a.size/\a.size<=8 then zcg (zC b a m8)else .tuple #[aw ⟨#[]⟩,aO bD,ue 3]
def JU(d:af)(g:Y)(q:Qz K f N)(p:l++v++C++F≠[]->K)(m:cU a b o r)(e:sC N a b o f i l v C F c)(w:d.size<=140737488351232):cR bN 54 #[aJ b,aw d,bw g] a (λD k=>(D=aN (SF d g<|pG o i l v C F)/\(uf K o.f f).D k/\I (uf K o.f f).F a k)\/Es (uf K o.f f) a k (uf K o.f f).F D gE)/\∃x n m9,SF d g (pG o i l v C F)=de #[x,n,m9]:=by
 let⟨B,A,j⟩:=cG e.D;unfold SF;by_cases h:1<=d.size/\d.size<=8
 .rw[fV h];refine⟨ZO (G<|H a) (o.l0,l) (o.l1,v) (o.l2,C) (o.l3,F) (pG o i l v C F) d g m B (y i) A j (e.lvm m) (AH o i l v C F) (λL s=>e.Z6 q p _<|aB s) e.GR (aq _) e.f.lt h<|λE t x u=>bP<|(e.NM E t x u).l,?_⟩;cases zC g d (pG o i l v C F)with
  |none=>exact⟨_,_,_,z⟩
  |some x=>exact⟨_,_,_,z⟩
 rw[fM h];refine⟨(ZN a b d g h w).mono ?_,_,_,_,z⟩;grind[sC.GR,I.bI]
def cU.nY{b q:R}(h:cU a b o r):∀j,j=b->j=q->∃d t e,a.heap[j]?=M (aK d t e)/\t≠157:=λj c _=>c▸⟨_,_,_,h,cg⟩
def tN{j4:Prop}{A t W2:Z}(L:cU t b o 1)(w:sC N A b o f i l v C F c)(j:b<G (H A))(k:gh A t o.f b f f)(x:gC (G<|H t) t W2):cU W2 b o 1/\sC N W2 b o f i l v C F c/\∀a,(uf j4 o.f f).D a->I (uf j4 o.f f).F W2 a->bA a (X b 0)=M (iC 1)/\iH a (X b 0)=bD/\Ir N A (cP a (X b 0)<|iC 0) b o f i l v C F c/\∀q,tB a q->tB (cP a (X b 0)<|iC 0) q:=by
 have e:=k.aj<|qT (j3:=b) k.ok x;have p:=w.eQ j e;have g:cU W2 b o 1:=L.aA (I.p (S:=aC) x) id;refine⟨g,p,λa u s=>?_⟩;have d:cU a b o 1:=(s.A b (az g) p.l).trans g;let⟨B,m,D,E,K⟩:=RO e u s;have r:=m.sb w.l j;have n:=m.gq r 0<|iC 0;exact⟨d.u z,d.bS,⟨B,n,D,E,K,d.jg 0,w.eQ j n⟩,λq h=>h.aA (iP b a) d.nY⟩
def SP:ue 5=.iface 47 (ay 5):=rfl
def Wh(d:af)(hX:Qz K f N)(hN:l++v++C++F≠[]->K)(h:cU a b o 0)(O:sC N a b o f i l v C F c)(hc:o.d=bD)(hz:d.size<=140737488351232):cR bN 17 #[aJ b,aw d] a λB e=>(B=aN (SF d o.S<|pG o i l v C F)\/K/\∃q,B=aN (gE<|eW q)/\tB e q)/\Ir N a e b o f i l v C F c:=by
 have L:=az h;have c0:=cU.bW h 0 z;have f0:iH a (X b 0)=bD:=h.bS;have p:=lP O.f O.l 1;have D:=h.jg 1;generalize hW:cP a (X b 0) (iC 1)=g at p D;have t:=mX D;rw[hc]at t;have u:cR bN 49 #[aJ b] g λB e=>B=aN ib/\gC (G<|H g) g e:=t;have W:=ak<|λj(E:gC (G<|H g) g j)=>tN (j4:=K) (W2:=j) D O L p E;go_enter_defers func17,ntmps17
 go_wp21;go_call mZ (X b 0) _ c0 f0 as B e⟨rfl,Q⟩;rw[hW]at Q;subst e;go_wp21;go_call u as B j⟨rfl,E⟩;let⟨n,P,s⟩:=W j E;let⟨r,rx,ry,rz,w⟩:=JU d o.S hX hN n P hz;have:=cU.bW n 9 z;rw[w]at r;go_wp21;go_call r as B w2(⟨rfl,m,x⟩|⟨hx,q,rfl,hq,m,x⟩);(all_goals obtain⟨S,T,hF,k⟩:=s w2 m x);(.have A:=ak hF;go_wp2;exact fC S T ⟨_,lz z _ _ _,J (by rw[w];rfl),A⟩);have A:=ak hF;have V:=ak<|k q hq;go_wp2;exact fC S T ⟨_,lz z _ _ _,bj ⟨hx,q,z,V⟩,A⟩
def Pu(d:af)(h:cU a b o 0)(e:ST a b o f i l v C F c)(j:o.d=bD)(k:d.size<=140737488351232):cR bN 17 #[aJ b,aw d] a λm g=>(m=aN (SF d o.S<|pG o i l v C F)\/l++v++C++F≠[]/\∃q,m=aN (gE<|eW q)/\tB g q)/\Ar a g b o f i l v C F c:=by
 refine(Wh d (Qz.bI e.f) id h e j k).mono ?_;grind[Ir.xC]
end
def QI(a:Y)(b:af)(c:iF):dB:=sh ⟨#[]⟩<|(eL<|c.map<|iX b).filter<|λe=>decide<|e.f<=a
def O5(c:Y)(i:af)(b:iF):∀x∈QI c i b,x∈b.flatten:=by
 intro x h;have d:=(Hv _ _).subset h;have e:=(ku _).mem_iff.1 (lQ.1 d).1;let⟨l,f,a⟩:=dO.1 e;obtain⟨r,g,rfl⟩:=cC.1 f;exact dO.2 ⟨r,g,(lQ.1 a).1⟩
def Ul(c:Y)(b:af)(a:iF):y (QI c b a)<=y a.flatten:=by
 have:=(Hv ((eL<|a.map<|iX b).filter<|λe=>decide<|e.f<=c) ⟨#[]⟩).length_le;have:=gM (λe:E=>decide<|e.f<=c)<|eL<|a.map<|iX b;have:=(ku<|a.map<|iX b).length_eq;have:=ZF b a;unfold QI;omega
def ZG(v:ae)(w:Z):(Go.method 577 103 v "From").run bN w=.ok (332,v) w:=aH
def nz.Su(h:lF a d i)(o:gF i)(f:∀x∈i,x.f<18446744073709551616)(n:y i<=1000000000000)(k:∀j,cN d=M j->j<b/\¬s.F j)(g:b<=G (H a))(hF:∀p,s.F p->p<b):nz s b (.iface 103 d) i a:=by
 refine⟨_,d,_,d,z,ZG d,enters_of func332 aH z,λq v c l=>?_⟩;go_call Hq s b q (h.bM c k) o f n (λj e=>⟨(k j e).2,au aI c.1⟩) (aR g c.1) hF as A w⟨r,S,rfl,m,e,t⟩;refine⟨r,S,z,m,s.l l (I.p (S:=aC) e) cY,I.p e,λp u=>?_⟩;grind
def sC.Mb(e:Qz K f N)(d:l++v++C++F≠[]->K)(h:sC N a b o f i l v C F c):∀r∈pG o i l v C F,nz (uf K o.f f) (G<|H a) r.1 r.2 a:=by
 have hF:∀k,(uf K o.f f).F k->k<G (H a):=h.f.lt;have:=h.A;intro r g;simp only[pG,dy,aP,pT,cC,lf,uR]at g;obtain rfl|((⟨t,j,rfl⟩|rfl)|rfl)|rfl:=g;exact nz.Su h.D h.o (λx d=>(h.S x d).b1) (show y i<=1000000000000 from bP h.dL) (λk a=>⟨(h.L k a).lt,(h.L k a).j⟩) (aq _) hF;exact nz.FB (Ga e (d<|uW (by simp[j]:t∈l++v++C++F)) h.f (h.l0.bZ t j) h.t) (aq _) hF;exact nz.xK (xL e (λq=>d<|by simp[q]) h.f h.l1 h.t h.s1 U) (aq _) hF;exact nz.xK (xL e (λq=>d<|by simp[q]) h.f h.l2 h.t h.s2 U) (aq _) hF;exact nz.xK (xL e (λq=>d<|by simp[q]) h.f h.l3 h.t h.s3 U) (aq _) hF
def ST.Mb(h:ST a b o f i l v C F c):∀r∈pG o i l v C F,nz (nW o.f f) (G<|H a) r.1 r.2 a:=sC.Mb (Qz.bI h.f) (λ_=>trivial) h
section
open Shelf
attribute [local go_sem] Oper.semAt_some
def zW:(prog.info? 142).map (λi=>(i.zero,i.size,i.bytes))=M (M<|ef #[aw ⟨#[]⟩,aw ⟨#[]⟩],2,32):=aH
def X9(p:KV):∀u∈rZ p,u.oneCell'=cz:=by
 intro u a;simp[rZ]at a;obtain rfl|rfl:=a<;>rfl
def Sy(w:Z)(p:KV)(t:TypeId):∀j u,(rZ p)[j]?=M u->bA (dw w<|aK #[aw p.1,aw p.2] t) (((X (G<|H w) 0):Addr).add j)=M u:=by
 intro j u a;rw[dS];rw[cE (aQ _ rfl:(dw w<|aK #[aw p.1,aw p.2] t).heap[G<|H w]?=M (aK #[aw p.1,aw p.2] t (0,0))),ez];simpa[rZ]using a
def Hl(l:kV)(p:KV):iR (l++[p])=iR l++rZ p:=by simp[iR]
def PA(V:ju)(b:Z)(c:af)(a:Y)(n:R)(d:kV)(B:fB)(W:Z):Prop:=Acc V.F b [(G<|H b,aw c,9),(G (H b)+1,ay a,3),(G (H b)+2,aF,55),(G (H b)+3,ib,44)] (G (H b)+4) 55 142 2 (G (H b)+5) n (iR d) B W
def PZ(V:ju)(b:Z)(B:fB)(W:Z):Prop:=∃x c q,∃a:kV,V.Xp/\tB W q/\fE W (G (H b)+2) (am x (y a) c) 55/\fE W (G (H b)+3) (eW q) 44/\V.D W/\I V.F b W/\B (G (H b)+2)/\B (G (H b)+3)/\fD W (G (H b)+5) 142 2 (am x (y a) c) (y a) (iR a)/\(∀k,cN (am x (y a) c)=M k->B k)/\y a<=40000000000
def PZ.gQ{B T:fB}(h:PZ s a B e)(c:I T e P)(i:∀k,T k->¬B k/\b<=k/\∃L,e.heap[k]?=M (.loop L))(x:∀k,T k->¬B k/\G (H a)<=k)(hF:∀k,T k->¬s.F k):PZ s a B P:=by
 let⟨F,g,q,E,A,⟨u,⟨f,t,l⟩,j⟩,p,r,w,v,n,o,D,d,m⟩:=h;refine⟨F,g,q,E,A,⟨u,⟨f,(c.A _ (az t)<|λg=>?_).trans t,l⟩,j⟩,(c.A _ (az p)<|λg=>(i _ g).1 n).trans p,(c.A _ (az r)<|λg=>(i _ g).1 o).trans r,s.l w c hF,v.aj c aI,n,o,c.aZ D<|λk C g=>(i k g).1<|d k C,d,m⟩;grind
def Vx(n0:R)(p0 p1 p2 p3:ae×dI)(m8:cy (ae×dB))(lo k:af)(c bt:Y)(h:cU a b o r)(mx:Option Addr)(mn mc:R)(ei:o.L=am mx mn mc)(hn:Fw a b 10 [p0,p1,p2,p3])(bp:m8.map (·.1)=zD o.L p0 p1 p2 p3)(hR:∀hV(k:hV<y m8),nz s n0 m8[hV].1 m8[hV].2 a)(hI:s.D a)(em:n0<=G (H a))(hF:∀r,s.F r->r<n0)(hz:∀bh∈QI bt lo (m8.map (·.2)),bh.D.size<=281474976710656/\bh.l.size<=281474976710656)(ac:y (QI bt lo<|m8.map (·.2))<=40000000000):cR bN 162 #[aJ b,aw lo,aw k,ay c,bw bt] a λba w'=>(∃v',ba=aN (de #[v',ib])/\fD w' (G<|H a) 142 2 v' (y<|Ee k c []<|((QI bt lo<|m8.map (·.2)).filter<|λba=>!ba.dP).map BQ) (iR<|Ee k c []<|((QI bt lo<|m8.map (·.2)).filter<|λba=>!ba.dP).map BQ)/\s.D w'/\I s.F a w')\/∃bh B,∃ps:kV,Es s a w' s.F ba (λeB=>de #[am bh (y ps) B,eB])/\fD w' (G<|H a) 142 2 (am bh (y ps) B) (y ps) (iR ps)/\y ps<=40000000000:=by
 let⟨cx,hL⟩:∃cx,(QI bt lo<|m8.map (·.2)).filter (λba=>!ba.dP)=cx:=⟨_,z⟩;rw[hL];let⟨bi,hP⟩:∃bi,Ee k c [] (cx.map BQ)=bi:=⟨_,rfl⟩;rw[hP];have dk:y m8<=40000000000:=by(have ac:y (qA p0 p1 p2 p3)+1=y m8:=by have:=cD y bp;simp[zD]at this;omega);have:=hn.f;rw[<-ac];simp[qA,nB]at this|-;omega
 let⟨i0,hm,hA,hB,hD⟩:=cZ zW;have N:I aC a (dw (dw (dw (dw (dw a<|aK #[aw k] 9)<|aK #[ay c] 3)<|aK #[aF] 55)<|aK #[ib] 44)<|aK #[aF] 55):=((((cI aC a).aE _).aE _).aE _).aE _;have br:G (H<|dw (dw (dw (dw (dw a<|aK #[aw k] 9)<|aK #[ay c] 3)<|aK #[aF] 55)<|aK #[ib] 44)<|aK #[aF] 55)=G (H a)+5:=ar;have ex:fE (dw (dw (dw (dw (dw a<|aK #[aw k] 9)<|aK #[ay c] 3)<|aK #[aF] 55)<|aK #[ib] 44)<|aK #[aF] 55) (G<|H a) (aw k) 9:=fE.aE (fE.aE (fE.aE (fE.aE (aQ _ z) _) _) _) _;have ey:fE (dw (dw (dw (dw (dw a<|aK #[aw k] 9)<|aK #[ay c] 3)<|aK #[aF] 55)<|aK #[ib] 44)<|aK #[aF] 55) (G (H a)+1) (ay c) 3:=fE.aE (fE.aE (fE.aE (aQ _ ar) _) _) _;have K:fE (dw (dw (dw (dw (dw a<|aK #[aw k] 9)<|aK #[ay c] 3)<|aK #[aF] 55)<|aK #[ib] 44)<|aK #[aF] 55) (G (H a)+2) aF 55:=fE.aE (fE.aE (aQ _ ar) _) _;have L:fE (dw (dw (dw (dw (dw a<|aK #[aw k] 9)<|aK #[ay c] 3)<|aK #[aF] 55)<|aK #[ib] 44)<|aK #[aF] 55) (G (H a)+3) ib 44:=fE.aE (aQ _ ar) _;have eA:fE (dw (dw (dw (dw (dw a<|aK #[aw k] 9)<|aK #[ay c] 3)<|aK #[aF] 55)<|aK #[ib] 44)<|aK #[aF] 55) (G (H a)+4) aF 55:=aQ _ ar;let⟨W5,ha⟩:∃W5,(dw (dw (dw (dw (dw a<|aK #[aw k] 9)<|aK #[ay c] 3)<|aK #[aF] 55)<|aK #[ib] 44)<|aK #[aF] 55)=W5:=⟨_,rfl⟩;rw[ha]at N br ex ey K L eA;have el:=Gt p0 p1 p2 p3 ((N.A b (az h) id).trans h) mx mn mc ei<|hn.aA N id<|λ_ _ _ _ B=>B;have eg:y (qA p0 p1 p2 p3)+1=y m8:=by have:=cD y bp;simp[zD]at this;omega
 rw[eg,<-bp]at el;have ho:∀w6 v6,fD w6 (G<|H W5) 221 1 v6 (y m8) (m8.map (·.1))->I aC W5 w6->cR bN 231 #[v6,aw lo,bw bt] w6 λba w'=>∃v' b,ba=aN v'/\kw s n0 v' (QI bt lo<|m8.map (·.2)) b w'/\s.D w'/\I s.F a w'/\(∀r,b r->G (H a)+5<=r)/\I s.F W5 w':=by intro w6 v6 ao O;have e:I aC a w6:=N.t O;refine(zah n0 m8 lo bt (dQ ao) (λr i=>⟨(ao.lt r i).2,λhk=>gV (hF r hk)<|(ao.lt r i).1⟩) dk (λhV k=>(hR hV k).bM<|e.bM em cY cY) (s.l hI e cY) (aR em e.D) hF).mono ?_;rintro ba w7⟨v7,S7,rfl,cn,ch,bv,ck⟩;refine⟨v7,S7,z,cn,ch,(e.aT (T:=s.F) cY).aj bv<|λ_ B=>.inl B,λr i=>?_,(O.aT (T:=s.F) cY).aj bv<|λ_ B=>.inl B⟩;have:=ck r i;have:=O.D;omega
 have ce:=ak<|And.intro ex (And.intro ey (And.intro K (And.intro L (And.intro eA br))));let⟨fz,HF,bx,HH,HL,hY,HR,HD,hW⟩:=Hp hz hF ac h hn bp hR hI ei;apply(ew (n:=3)).1;refine callsIn_of_wp_marks func162 z trivial ?_ z;simp only[ntmps162,gm,bK,eE,jZ,Nat.reduceSub,fc,fa,gp,fG,ep,dt];gi_wp2_with(refine⟨trivial,?_⟩;gi_at_call 108;apply(ew.2<|el).mono;rintro ba w6⟨v6,rfl,ao,O⟩;let⟨x6,c6,hx⟩:=aM ao;subst hx;have fl:=ak ao;have fv:=ak O)
 gi_wp2_with(refine⟨trivial,?_⟩;gi_at_call 231;apply(ew.2<|ho _ _ fl fv).mono;rintro ba w7⟨v7,S7,rfl,cn,ch,bv,ck,eq⟩;obtain⟨f7,dc,rfl,hi,hs⟩:=cn;have fk:=ak<|show kw s n0 (.func (.func f7) #[] dc) (QI bt lo<|m8.map (·.2)) S7 w7 from⟨f7,dc,z,hi,hs⟩;have fe:=ak ch;have fx:=ak bv;have fs:=ak ck;have aD:=ak eq)
 gi_wp2_with(refine⟨trivial,?_⟩;gi_at_call 230;refine(ew.2<|Oo fk).mono ?_;rintro ba w8⟨v8,S8,rfl,hl,an,gE⟩;obtain⟨f8,aV,rfl,hj,V⟩:=hl;have fi:=ak hj;have fr:=ak V;have fd:=ak an;have fu:=ak gE)
 gi_wp2_with(refine⟨trivial,?_⟩;gi_at_call 214;refine(ew.2<|PS f8 aV w8).mono ?_;rintro ba w9⟨rfl,ka⟩;subst w9)
 have V:=ag fr;rw[hL]at V;have an:=ag fd;have jI:=V.aZ.D;have hF:∀r,s.F r->r<G (H a):=λr i=>bP<|HF r i;have hu:I s.F a w8:=fx.t<|I.p (S:=aC) an;have hJ:∀r,S8 r->G (H a)+5<=r:=λr i=>by obtain B|B:=fu r i;exact fs r B;have:=aD.D;have:=ce.2.2.2.2.2;omega
 let⟨W9,bq⟩:∃W9,dw w8 (aK #[.func (.func f8) #[] aV] 288)=W9:=⟨_,rfl⟩;have al:I aC w8 W9:=bq▸(cI aC w8);have hh:fE W9 (G<|H w8) (.func (.func f8) #[] aV) 288:=bq▸aQ _ z;have jK:G (H W9)=G (H w8)+1:=by rw[<-bq];simp
 have bf:I s.F a W9:=hu.t al;have er:I s.F W5 W9:=(aD.t<|I.p (S:=aC) an).t al;have ek:Dp s n0 f8 aV cx S8 W9:=V.bM<|al.bM V.aZ.D (λr i=>⟨(V.aZ.bZ r i).2,λB=>B⟩) cY;have gg:s.D W9:=s.l (s.l fe (I.p (S:=aC) an) cY) al cY;have hQ:G (H a)+5<=G (H w8):=Lw aD.D ce.2.2.2.2.2 an.size;have ge:PA s a k c 0 [] (λr=>r=G (H a)\/r=G (H a)+1\/r=G (H a)+2\/r=G (H a)+3\/r=G (H a)+4) W9:=by let⟨f,g,j,x3,e,br⟩:=ag ce;have i:∀{b:R}{eB:ae}{t:TypeId},fE W5 b eB t->G (H a)<=b->fE W9 b eB t:=λhd ec=>(er.A _ (az hd) aI).trans hd;refine⟨?_,⟨aF,i e U,ct _ _ _ _,λr=>by simp[cN];omega⟩,?_,U,bf⟩;(grind);grind
 rw[bq];have hP:=ag<|ak hP;refine tI (arg:=MI) (m:=3) (V:=s) (n0:=n0) (gf:=264) (lb:=#[aJ<|G<|H w8]) (pp:=upX s cx) (ff:=zan cx) (S:=λr=>S8 r\/r=G (H w8)) aI ?geval (enters_of func264 aH z) aI (Kf 2 aV hh fi ek U<|λB=>bP<|(V.aZ.bZ _ B).2) gg U ?slt (λl' ap W=>∃d,l'=d.map Sum.inl/\PA s a k c (y d) (d.map BQ) ap W/\(∀A,cx=d++A->bi=Ee k c (d.map BQ) (A.map BQ))/\y d<=y cx) (λB _ ap W=>(B=.exit 0/\PA s a k c (y bi) bi ap W/\s.D W)\/(B=.ret/\PZ s a ap W)) (λr=>r=G (H a)\/r=G (H a)+1\/r=G (H a)+2\/r=G (H a)+3\/r=G (H a)+4) ⟨[],z,ge,aI,bQ _⟩ ?sb ?lt ?st ?xst ?body ?done ?stop;rfl;rintro r(B|B);have:=(ek.aZ.bZ r B).2;exact this;omega;grind
 rintro _ ap W⟨d,rfl,h,_⟩r i;have:=h.lt r i;grind
 rintro _ ap W W' T⟨d,rfl,h,e⟩ht hT;refine⟨d,z,h.gQ ht<|λr i=>⟨(hT r i).1,?_⟩,e⟩;have:=bf.D;grind
 rintro B d ap W W' T h ht hT;have:=bf.D;have e:∀r,T r->¬ap r/\G (H a)<=r:=aI;have bd:∀r,T r->¬s.F r:=aI;obtain⟨h1,h2,h3⟩|⟨h1,h2⟩:=h;exact .inl ⟨h1,h2.gQ ht aI,s.l h3 ht bd⟩;exact .inr ⟨h1,h2.gQ ht hT e bd⟩
 .rintro lr _ bh ap W eg gd⟨hN,LL,gx⟩cb⟨d,rfl,hC,hcut,hp⟩Q;cases bh with
  |inr q=>
   let⟨hX,hq⟩:s.Xp/\tB W q:=by
    obtain⟨aa,h,_⟩|⟨aa,q',h,hX,hq⟩:=cb
    .have:Sum.inr q∈aa.map (Sum.inl (β:=R)):=by rw[<-h];simp
     simp at this
    simp_all
   have cr:y d<=40000000000:=by
    have h1:=hp;have h2:y cx<=y (QI bt lo<|m8.map (·.2)):=by rw[<-hL];exact gM _ _
    have:=ag bx;omega
   let⟨HC,av,HQ,bc⟩:=jr hC Q hq gx;unfold MI yt;simp only;gi_wp2;refine⟨(cI _ _),λj C=>?_⟩;have ad:I aC W (dw W<|aK #[aw ⟨#[]⟩,aw ⟨#[]⟩,aO bD,bw 0] 223):=cI _ _;have D:PA s a k c (y d) (d.map BQ) ap j:=(HC.gQ ad cY).gQ C<|λr i=>aI;have dd:tB j q:=by
    let⟨gb,⟨bg,h,cp⟩,cm⟩:=ag HQ;have h1:=(ad.A q (az h) id).trans h;refine⟨gb,⟨bg,(C.A q (az h1)<|λB=>?_).trans h1,cp⟩,cm⟩;rw[B,ag bc]at h;cases h
   have bb:s.D j:=s.l (s.l av ad cY) C aI;let⟨eB,hv,t,P⟩:=D.bV;have K:=D.l (G (H a)+2,aF,55) ar;have L:=D.l (G (H a)+3,ib,44) ar;have dv:bA j (X (G (H a)+1+1+1+1) 0)=M eB:=hv.u;have ds:bA j (X (G (H a)+1+1) 0)=M aF:=K.u;have ed:iH j (X (G (H a)+1+1) 0)=bD:=K.bS;have eb:bA j (X (G (H a)+1+1+1) 0)=M ib:=L.u;have ej:iH j (X (G (H a)+1+1+1) 0)=bD:=L.bS;let⟨v,u,ab⟩:=aM t;have b2:ap (G (H a)+2):=(P _).2 ar;have b3:ap (G (H a)+3):=(P _).2 ar;have x:I (λr=>r=G (H a)+2\/r=G (H a)+3) j (cP (cP j (X (G (H a)+2) 0)<|am v (y d) u) (X (G (H a)+3) 0)<|eW q):=((I.bI (λr=>r=G (H a)+2\/r=G (H a)+3) j).aL _ 0 _<|.inl<|.inl z).aL _ 0 _<|.inl<|.inr z;have co:tB (cP (cP j (X (G (H a)+2) 0)<|am v (y d) u) (X (G (H a)+3) 0)<|eW q) q:=dd.aA x (by
    grind)
   have bs:=s.l bb x (by rintro r(rfl|rfl)hk<;>have:=hF _ hk<;>omega);have ec:∀r,(r=G (H a)+2\/r=G (H a)+3)->G (H a)<=r:=by rintro r(B|B)<;>omega
   have ca:I s.F a (cP (cP j (X (G (H a)+2) 0)<|am v (y d) u) (X (G (H a)+3) 0)<|eW q):=D.aA.aj x ar;have dn:G (H W)+1<=G (H j):=by have:=C.D;simp_all
   have bT:I (λr=>ap r\/r=lr) W (cP (cP j (X (G (H a)+2) 0)<|am v (y d) u) (X (G (H a)+3) 0)<|eW q):=((ad.aT (T:=λr=>ap r\/r=lr) cY).aj C ar).aj x (by
    grind)
   have ax:(cP (cP j (X (G (H a)+2) 0)<|am v (y d) u) (X (G (H a)+3) 0)<|eW q).heap[lr]?=j.heap[lr]?:=x.A lr U (by
    grind)
   have hZ:PZ s a ap (cP (cP j (X (G (H a)+2) 0)<|am v (y d) u) (X (G (H a)+3) 0)<|eW q):=⟨v,u,q,d.map BQ,hX,co,by rw[cS];exact(K.gq _).dN _ U,(L.dN _ U).gq _,bs,ca,b2,b3,by
    rw[cS];exact ab▸x.aZ t (λr i B=>bP ((t.lt r i).1)),λr i=>(P _).2 (by rw[cS,<-ab]at i;exact .inr (.inr i)),by rw[cS];exact cr⟩
   let⟨HZ,bl,bk⟩:=eU hZ bT ax;subst ab;gi_wp2;exact⟨ap,.inr ⟨z,HZ⟩,bl,bk,λr i=>.inl i⟩
  |inl bh=>
  let⟨A,p⟩:∃A,(d++[bh])++A=cx:=by
   obtain⟨aa,h,x,hO⟩|⟨aa,q',h,hX,hq⟩:=cb
   .refine⟨x,?_⟩;have:(d++[bh]).map Sum.inl=aa.map (Sum.inl (β:=R)):=dV h;rw[uX<|λ_ _=>Sum.inl.inj]at this;rw[this,hO]
   simp_all
  have dx:=hcut (bh::A) (by rw[<-p];simp);have ac:y d+1<=40000000000:=by
   have h1:=cD y p;have h2:=cD y hL;have h3:=gM (λba=>!ba.dP)<|QI bt lo<|m8.map (·.2);have x:=ag bx;grind
  have cv:bh.D.size<=281474976710656/\bh.l.size<=281474976710656:=fz bh (by
   have:bh∈(QI bt lo<|m8.map (·.2)).filter (λba=>!ba.dP):=by rw[hL,<-p];simp
   grind)
  have hr:d.map BQ++[BQ bh]=(d++[bh]).map BQ:=ar;let⟨HC,av,cM,hH,cd⟩:=nZ hC Q dx hcut p;clear hC Q dx hcut p;let⟨e,g,l,f⟩:=bh;unfold MI E.t;simp only at cv;simp only;gi_wp2;refine⟨(cI _ _),λj C=>?_⟩;have D:PA s a k c (y d) (d.map BQ) ap j:=(HC.gQ ((I.bI aC W).aE<|aK #[aw e,aw g,aO l,bw f] 223) cY).gQ C<|λr i=>aI;have cj:jP j (G<|H W) ⟨e,g,l,f⟩:=jP.aA (aQ _ z) C U;let⟨eB,hv,t,P⟩:=D.bV;have it:bA j (X (G<|H a) 0)=M (aw k):=(D.l (G<|H a,aw k,9) ar).u;have iv:bA j (X (G (H a)+1) 0)=M (ay c):=(D.l (G (H a)+1,ay c,3) ar).u;have dv:bA j (X (G (H a)+4) 0)=M eB:=hv.u;let⟨v,u,ab⟩:=aM t;let⟨dT,ea,jC,jD⟩:=cj.bU;let⟨cB,HV,aU,bm,db,fg⟩:=nT D hv t P C cj;have en:G (H W)+1<=G (H j):=by have:=C.D;simp_all
  clear D cj hv t P C;subst ab;have hU:=en;have cs:I (λr=>ap r\/r=lr) W j:=((I.bI (λr=>ap r\/r=lr) W).aE<|aK #[aw e,aw g,aO l,bw f] 223).aj db ar;have bd:∀r,G (H a)<=r->¬s.F r:=aI;have bb:s.D j:=s.l (s.l av (cI aC W) cY) db<|λr i=>aI;by_cases w:(!(k.toList==[])&&!kG e k)=cz
  .have bo:bi=d.map BQ:=by
    rw[ag cM,bO,Ee];exact fV w
   have dr:(k.toList==[])=bD:=by cases h1:(k.toList==[])<;>simp[h1]at w|-
   have cl:kG e k=bD:=by cases h2:kG e k<;>simp[h2]at w|-
   unfold kG at cl;let⟨x,cc,cT⟩:=eU cs bb bo;clear cs bb bo w;gi_wp2;refine⟨ap,.inl ⟨z,?_,cc⟩,x,z,λr i=>.inl i⟩;rw[ag cT,cS];exact cB
  .have co:(k.toList==[])=cz\/((k.toList==[])=bD/\kG e k=cz):=by
    cases h1:(k.toList==[])<;>cases h2:kG e k<;>simp[h1,h2]at w|-
   have bT:bi=if((y d:Y)+1==c)=cz then d.map BQ++[BQ ⟨e,g,l,f⟩]else Ee k c (d.map BQ++[BQ ⟨e,g,l,f⟩]) (A.map BQ):=by
    rw[ag cM,bO,Ee,cS];exact fM w
   have ad:=az fg;have ca:=az HV;have bc:bA j.drew (X (G (H a)+1+1+1+1) 0)=M (am v (y d) u)/\bA j.drew (X (G<|H W) 0)=M (aw e)/\bA j.drew (X (G<|H W) 1)=M (aw g):=⟨dv,dT,ea⟩;have bl:=ak (show∀j4,I aC j j4->bA j4 (X (G (H a)+1+1+1+1) 0)=M (am v (y d) u)/\bA j4 (X (G<|H W) 0)=M (aw e)/\bA j4 (X (G<|H W) 1)=M (aw g)fromλj4 hX=>⟨hX.u bc.1 id ca,hX.u bc.2.1 id ad,hX.u bc.2.2 id ad⟩);have hg:G (H a)+5<=G (H j):=U;have cc:=ak bb;obtain dr|⟨dr,cl⟩:=co;case' inl=>gi_wp2_with fail
   case' inr=>unfold kG at cl;gi_wp2_with fail
   all_goals
    rename_i QQ KK gv;refine wk (λj4=>bA j4 (X (G (H a)+1+1+1+1) 0)=M (am v (y d) u)/\bA j4 (X (G<|H W) 0)=M (aw e)/\bA j4 (X (G<|H W) 1)=M (aw g)) 10 aH aH (λkc a h=>h) ?_;apply dH 0;iterate 3 (refine fW bc ?_;simp only[ig,eh,jZ])
    apply eS;apply dH 4;iterate 2 (refine fW bc ?_;simp only[ig,eh,jZ])
    apply eS;refine aW 3 ?_;intro K3 gk;go_simp;go_call(λW=>rA e W cv.1) _ as ba w4⟨rfl,he⟩;have eo:I aC j w4:=(cf aC j).t<|I.p (S:=aC) he;apply gk _ _<|λ_=>bl w4 eo;refine aW 6 ?_;intro K6 gn;go_simp;go_call(λW=>rA g W cv.2) _ as ba w5⟨rfl,hf⟩;have N:I aC j w5:=eo.t<|I.p (S:=aC) hf;apply gn _ _<|λ_=>bl w5 N;refine aW 7 ?_;intro K7 gr;go_simp;apply gr _ _<|λ_=>bl w5 N;refine aW 8 ?_;intro K8 gs;go_simp;have O:=N.aE<|aK #[aw e,aw g] 142;apply gs _ _<|λ_=>bl _ O;have br:=N.D;refine aW 9 ?_;intro K9 gt;simp only[dl,cF,cO];refine lN (.tmp 36) (.tmp 44) 55 z (G (H a)+5) 142 i0 (ef #[aw ⟨#[]⟩,aw ⟨#[]⟩]) 2 32 underlying55 hm hA hB hD z cg (am v (y d) u) (y d) (iR<|d.map BQ) z (O.aZ aU<|λ_ _ B=>B) (X (G<|H w5) 0) 1 1 (rZ<|BQ ⟨e,g,l,f⟩) z z (Sy _ (BQ ⟨e,g,l,f⟩) _) (X9 _) U U dW ?_;intro v3 w3 ej ev;let⟨x3,c3,hw⟩:=aM ej;subst hw;have bs:I (λr=>cN (am v (y d) u)=M r) j w3:=(O.aT (T:=λr=>cN (am v (y d) u)=M r) cY).aj (I.eF (S:=λr=>cN (am v (y d) u)=M r) ev.dF<|λr i=>.inl i)<|λr i=>.inl i;have ds:fE w3 (G (H a)+4) (am v (y d) u) 55:=(bs.A _ ca<|λB=>bP<|(aU.lt _ B).1).trans HV;have eb:¬cN (am v (y d) u)=M (G<|H W):=λB=>bP<|(HC.lt _<|(bm _).2<|.inr<|.inr B).2;have dn:bA w3 (X (G (H a)+1+1+1+1) 0)=M (am v (y d) u)/\bA w3 (X (G<|H W) 0)=M (aw e)/\bA w3 (X (G<|H W) 1)=M (aw g):=⟨ds.u,bs.u dT eb ad,bs.u ea eb ad⟩;apply gt _ _<|λ_=>dn;simp only[ig,eh];refine aW 10 ?_;intro ih dd;have jB:=dn.1;have jE:iH w3 (X (G (H a)+1+1+1+1) 0)=bD:=ds.bS;go_simp;apply dd _ _ wW;refine dG aH ?_ _;show KK _ _;apply gv;have hc:cN (am x3 (y d+1) c3)=cN (am v (y d) u)\/∃hG,cN (am x3 (y d+1) c3)=M hG/\G (H j)<=hG:=by
     obtain ip|⟨hG,ip,jG⟩:=ev.f
     .exact .inl ip
     .exact .inr ⟨hG,ip,by simp at jG;omega⟩
    let⟨B',q1,q2,q3⟩:=cB.jj HV bm aU bs hc ej;have ax:Hid (PA s a k c (y d+1) (d.map BQ++[BQ ⟨e,g,l,f⟩]) B'<|cP w3 (X (G (H a)+1+1+1+1) 0)<|am x3 (y d+1) c3):=ak (by unfold PA;rw[Hl];exact q1);have bk:Hid (I ap j<|cP w3 (X (G (H a)+1+1+1+1) 0)<|am x3 (y d+1) c3):=ak q2;have fn:=ak q3;let⟨W7,hb⟩:∃W7,cP w3 (X (G (H a)+1+1+1+1) 0) (am x3 (y d+1) c3)=W7:=⟨_,rfl⟩;rw[hb]at ax bk|-;let⟨v7,hy,es,hS⟩:=ax.bV;obtain⟨x7,c7,et⟩:=aM es;subst et;have jk:bA W7 (X (G (H a)+1+1+1+1) 0)=M (am x7 (y d+1) c7):=hy.u;have jA:bA W7 (X (G (H a)+1) 0)=M (ay c):=(ax.l (G (H a)+1,ay c,3) ar).u;have x:=ak<|And.intro (s.l cc bk (λr i=>bd r (HC.lt r i).1):s.D W7) (And.intro (cs.aj bk aI:I (λr=>ap r\/r=lr) W W7) (And.intro (bk.A lr U gd:W7.heap[lr]?=j.heap[lr]?) (λr i=>(fn r i).imp_right (λB=>U):∀r,B' r->ap r\/G (H W)<=r)));by_cases hM:(y d:Y)+1=c
    .have ed:((y d:Y)+1==c)=cz:=aI;have bo:bi=d.map BQ++[BQ ⟨e,g,l,f⟩]:=by rw[bT];grind
     gi_wp2;refine⟨B',.inl ⟨z,?_,x.1⟩,x.2.1,x.2.2.1,x.2.2.2⟩;rw[ag<|ak bo,ai,cS];exact ax
    .have ed:¬((y d:Y)+1==c)=cz:=aI;have cT:=ak (by rw[bT];grind:bi=Ee k c (d.map BQ++[BQ ⟨e,g,l,f⟩]) (A.map BQ));have jH:((y d:Y)+1==c)=bD:=aI;clear ed;gi_wp2;refine⟨x.1,B',⟨d++[⟨e,g,l,f⟩],ar,?_,λhE hO=>?_,by have:=cD y<|ag cd;simp only[ai]at this|-;omega⟩,x.2.1,x.2.2.1,x.2.2.2⟩
     .rw[ai,<-hr];exact ax
     grind[ag,append_cancel_left]
 (case' stop=>rintro fb B d ap W gi(⟨rfl,hC,Q⟩|⟨rfl,hZ⟩)bn hK;rotate_left;(.let⟨bh,B,q,ps,hX,hq,h2,h3,Q,g,b2,b3,f,e,cr⟩:=hZ;have F:=iB W fb<|.deferred dE;have bd:∀r,G (H a)<=r->¬s.F r:=aI;have ec:G (H a)<=fb:=bP bf.D;gi_wp2;refine⟨ar,.inl ⟨_,_,z,run_takeDeferred hK,?_⟩⟩;refine⟨_,ym z underlying55 _ _ (G (H a)+2) (G (H a)+3) (am bh (y ps) B) (eW q) z z ?_ ?_,?_⟩;exact(fE.u<|(F.A _ (az h2)<|λB=>bn<|B▸b2).trans h2);exact(fE.u<|(F.A _ (az h3)<|λB=>bn<|B▸b3).trans h3);refine .inr ⟨bh,B,ps,⟨hX,q,z,?_,s.l Q F aI,g.aj F aI⟩,fh (F.aZ f<|λr i ba=>bn<|ba▸e r i) U,cr⟩;let⟨gb,⟨bg,hq,cp⟩,cm⟩:=hq;exact⟨gb,⟨bg,(F.A _ (az hq) aI).trans hq,cp⟩,cm⟩);obtain⟨eB,hv,t,P⟩:=hC.bV);(case' done=>rintro l' fb ap W e gi⟨d,rfl,hC,hcut,_⟩bn Q hK;(obtain rfl:cx=d:=by obtain h|⟨f,q,h⟩:=e;(grind[List.map_inj_right,Sum.inl.inj]);(have:Sum.inr q∈d.map (Sum.inl (β:=R)):=by rw[h];simp);simp at this);(have hC:PA s a k c (y bi) bi ap W:=by rw[(by rw[hcut [] ar];rfl:bi=cx.map BQ),cS];exact hC);clear hcut;obtain⟨eB,hv,t,P⟩:=hC.bV);(all_goals have:bA W (X (G (H a)+1+1+1+1) 0)=M eB:=hv.u;have K:=hC.l (G (H a)+2,aF,55) ar;have L:=hC.l (G (H a)+3,ib,44) ar;have:bA W (X (G (H a)+1+1) 0)=M aF:=K.u;have:iH W (X (G (H a)+1+1) 0)=bD:=K.bS;have:bA W (X (G (H a)+1+1+1) 0)=M ib:=L.u;have:iH W (X (G (H a)+1+1+1) 0)=bD:=L.bS;obtain⟨v,u,ab⟩:=aM t;let⟨fL,ga,HC,HV,aU,bm,av,HK⟩:=Zu K L hC hv t P Q hK;subst ab;gi_wp2;have:=ag bm;have n1:fb≠G (H a)+2:=U;have n2:fb≠G (H a)+3:=U;have:¬cN (am v (y bi) u)=M fb:=aI;(have gj:(cP (cP W (X (G (H a)+2) 0)<|am v (y bi) u) (X (G (H a)+3) 0) ib).heap[fb]?=M (.deferred<|M []):=by rwa[kU _ n2,kU _ n1]);have bE:fE (cP (cP W (X (G (H a)+2) 0)<|am v (y bi) u) (X (G (H a)+3) 0) ib) (G (H a)+2) (am v (y bi) u) 55:=(fL.gq _).dN _ U;have bL:fE (cP (cP W (X (G (H a)+2) 0)<|am v (y bi) u) (X (G (H a)+3) 0) ib) (G (H a)+3) ib 44:=(ga.dN _ U).gq _;have F:=iB (cP (cP W (X (G (H a)+2) 0)<|am v (y bi) u) (X (G (H a)+3) 0) ib) fb<|.deferred dE;have cu:=((((I.bI (λr=>r=G (H a)+2\/r=G (H a)+3) W).aL _ 0 _<|.inl<|.inl z).aL _ 0 _ (.inl<|.inr z):I (λr=>r=G (H a)+2\/r=G (H a)+3) W (cP (cP W (X (G (H a)+2) 0)<|am v (y bi) u) (X (G (H a)+3) 0) ib)).aT (T:=λr=>r=G (H a)+2\/r=G (H a)+3\/r=fb) ar).aj F ar;have:∀r,G (H a)<=r->¬s.F r:=aI;(have:∀r,(r=G (H a)+2\/r=G (H a)+3\/r=fb)->G (H a)<=r:=by have:=bf.D;rintro r(B|B|B)<;>omega);refine⟨ar,.inl ⟨_,_,z,run_takeDeferred gj,?_⟩⟩;refine⟨_,ym z underlying55 _ _ (G (H a)+2) (G (H a)+3) (am v (y bi) u) ib z z ?_ ?_,?_⟩;exact(fE.u<|(F.A _ (az bE)<|λB=>n1 B.symm).trans bE);exact(fE.u<|(F.A _ (az bL)<|λB=>n2 B.symm).trans bL);refine .inl ⟨_,z,?_,s.l av cu aI,(ag HC).aA.aj cu aI⟩;have t:=ag aU;have kb:=cu.aZ t (λr i B=>by have:=(t.lt r i).1;grind);obtain⟨h1,⟨h2,h0⟩|⟨hG,il,gc,h2,hd,p⟩⟩:=kb;exact⟨h1,.inl ⟨h2,h0⟩⟩;exact⟨h1,.inr ⟨hG,il,gc,h2,U,p⟩⟩)
end
section
open Conc.Locks
theorem Mz{a:vW}(h:ml a=0):(∀x∈a,1<=x.D.size/\x.D.size<=8)/\∀x∈a,x.dP=bD->x.l.size<=16:=by
 induction a with
 |nil=>simp
 |cons c r b=>
  unfold ml at h;grind
def rB{a:vW}(h:gS a=0):y a<=8/\(∀x∈a,1<=x.D.size/\x.D.size<=8)/\∀x∈a,x.dP=bD->x.l.size<=16:=by
 unfold gS at h;grind[Mz]
def JZ(h:cU a b o r):cR bN 51 #[aJ b,ib] a λe c=>e=aN ib/\gC (G<|H<|cP a (X b 6) ib) (cP a (X b 6) ib) c:=by
 have:=cU.bW h 6 z;have:iH a (X b 6)=bD:=h.bS;go_in
 go_wp21;go_call(JQ<|cP a (X b 6) ib)as e c⟨rfl,d⟩;go_wp2;go_ret;exact⟨z,d⟩
def vK(a:vW):R:=if gS a=0 then y a else 0
def Fg.Hx{n:Prop}{m:cy af}{w g b:Z}{j3:R}{s:SR}{K:DK}{r N:R}{p:gI}{K':DK}(h:Fg n m w g j3 s 1 K r N p o K' i l v C F)(j:gC (G<|H<|cP g (X j3 6) ib) (cP g (X j3 6) ib) b):bA b (X j3 0)=M (iC 1)/\iH b (X j3 0)=bD/\Fg n m w (cP b (X j3 0)<|iC 0) j3 s 0 K r N p o K' i l v C F:=by
 have e:¬K'.j s.f j3:=by have:=h.A.st.l;rwa[h.bM.1]at this
 have k:cU (cP g (X j3 6) ib) j3 o 1:=(aY h.g).trans z;have a:cU b j3 o 1:=k.aA (I.p (S:=aC) j) id;have d:=h.eQ.gq e 6 ib;have f:=(gh.bI h.A.st.f (j3:=j3)).gq h.A.st.l 6 ib;exact⟨a.u z,a.bS,a.jg 0,h.A.eQ (az h.g) ((f.aj<|qT (j3:=j3) f.ok j).gq h.A.st.l 0 (iC 0):gh g (cP b (X j3 0)<|iC 0) o.f j3 K' K') z (aq _) z,((d.aj<|qT (j3:=j3) d.ok j).gq e 0<|iC 0),h.bM⟩
structure QB(w w':Z)(sb:R)(s:SR)(K K':DK)(N:R)(v:ae):Prop where
 eQ:gh w w' s.f sb K K'
 ex:∃s' q0 q1 c,v=eW q1/\rC w' q1 c/\vX w' sb s' 0 q0/\rC w' q0 c/\s'.d=bD/\s'.f=s.f/\1<=c
 lM:Xr K K' (20*N+44)
def MM.Hx{w w3 w4:Z}{j3 q q1 N:R}{s:SR}{K K':DK}{c:Y}(k:¬K.j s.f j3)(u:j3<G (H w))(j:s.d=bD)(h:gh w w3 s.f j3 K K')(v:∃i,cU w3 j3 i 1/\i.d=s.d/\i.f=s.f)(n:rC w3 q c)(r:1<=c)(t:Xr K K' (20*N+44))(m:gC (G<|H<|cP w3 (X j3 6)<|eW q) (cP w3 (X j3 6)<|eW q) w4)(l:rC w4 q1 c):bA w4 (X j3 0)=M (iC 1)/\iH w4 (X j3 0)=bD/\QB w (cP w4 (X j3 0)<|iC 0) j3 s K K' N (eW q1):=by
 let⟨i,b,o,p⟩:=v;have f:¬K'.j s.f j3:=λg=>(h.j j3 g).elim k<|λg=>U;have g:I aC (cP w3 (X j3 6)<|eW q) w4:=I.p m;have a:=(b.Z7 q).aA g id;have d:=h.gq f 6<|eW q;have e:rC w4 q c:=(n.aA (iP j3 w3)<|n.pJ (j3:=j3) b).aA g id;exact⟨a.bW 0 z,a.bS,((d.aj<|qT (j3:=j3) d.ok m).gq f 0<|iC 0),⟨i,q,q1,c,z,l.aA (iP j3 w4)<|l.pJ (j3:=j3) a,a.jg 0,e.aA (iP j3 w4)<|e.pJ (j3:=j3) a,o.trans j,p,r⟩,t⟩
def WrF(w c:Z)(b:R)(s:SR)(K:DK)(N:R)(e:Ending):Prop:=∃v a,e=aN v/\QB w c b s K a N v
def WrP(m:Prop)(l:cy af)(w n:Z)(k:R)(s:SR)(o:Y)(K:DK)(p:dB)(T:dI)(C N:R)(j:gI)(f:vW)(a:eN):Prop:=∃i b h c d e g,Fg m l w n k s o K C N j i b h c d e g/\(gS f=0->LvX s K p T j (f.map<|qe (s.A:Y)) a i b h (c++d++e++g))
def Bp{j4:cy af}(sn:gI){e:vW}(j:eN)(h:cU a b o 0)(P:Inv K j4 a b o f i l v C F c k sn)(ac:o.d=bD)(hc:∀bk,I (λbi=>bi=b) a bk->FN bk d e)(hz:∀bl∈e,bl.D.size<=140737488351232/\bl.l.size<=140737488351232)(hr:y e<=1000000000)(hC:c+vK e<=3000000000)(hN:k+1<=1000000000)(hE:∀bk,I (λbi=>f.j o.f bi\/bi=b) a bk->jO bk)(bf:qp f.fx\/ft f.ah<=999999000/\(o.o:Y)+(y e:Y)<o.D/\o.mw=bD/\(o.i=cz->ii f.ah (gW o.l)≠dE)/\(o.i=bD->ii f.ah (gW o.l)=dE)/\(o.k=cz->o.i=cz)):cR bN 15 #[aJ b,d,aO j] a λE p=>(E=aN (ue<|gS e)/\WrP K j4 a p b o 0 f i (l++v++C++F) (c+vK e) (k+1) sn e j)\/(gS e=0/\WrF a p b o f (c+vK e) E/\Jc f.fx):=by
 have V:=az h;have c0:=cU.bW h 0 z;have f0:iH a (X b 0)=bD:=h.bS;have s:=lP P.st.f P.st.l 1;have A:=h.jg 1;have B:=P.eQ (s':=o) V s z (aq _) z;have al:I (λbi=>bi=b) a (cP a (X b 0)<|iC 1):=(iP b a);have D:FN (cP a (X b 0)<|iC 1) d e:=hc _ al;generalize hW:cP a (X b 0) (iC 1)=u at s A B al D;have L:=mX A;rw[ac]at L;have ad:cR bN 49 #[aJ b] u λE p=>E=aN ib/\gC (G<|H u) u p:=L;have ba:∀Wr,I aC u Wr->cR bN 50 #[d] Wr λE p=>E=aN (ue<|gS e)/\I aC Wr p:=λWr a=>YQ (D.aA a<|λ_ _=>id) U hz;have T:gS e=0->∀r,I aC u r->cR bN 52 #[aJ b,d,aO j] r λE p=>∃ab,E=aN ab/\(ab=ib/\WrP K j4 a p b o 1 f i (l++v++C++F) (c+vK e) (k+1) sn e j\/∃m,MM a p b o 1 f m (c+vK e) ab/\Jc f.fx):=λw r g=>by let⟨q1,q2,q3⟩:=rB w;have n:gh u r o.f b f f:=⟨B.st.f.aA g<|λ_ _=>id,g.aT cY,λ_ q=>J q,Fx.bI _⟩;(have O:vK e=y e:=by unfold vK;rw[fV w]);rw[O];apply(G3 sn j ((g.A b (az A) id).trans A:cU r b o 1) (B.eQ (s':=o) (az A) n z (aq _) z) (D.aA g<|λ_ _=>id) q1 q2 q3 (λbl hx=>(hz bl hx).2) (O▸hC) hN bf).mono;rintro E p⟨ab,rfl,hz⟩;refine⟨ab,z,?_⟩;obtain⟨rfl,s',m,m',a',b',c',d',N,hx⟩|⟨m,Q,hr⟩:=hz;exact J ⟨z,s',m,m',a',b',c',d',⟨N.g,N.A,(s.aj n).aj N.eQ,N.bM⟩,λ_=>hx⟩;exact bj ⟨m,⟨(s.aj n).aj Q.eQ,Q.g,Q.f,Q.lM⟩,hr⟩
 have W:gS e≠0->∀r,I aC u r->bA r (X b 0)=M (iC 1)/\iH r (X b 0)=bD/\WrP K j4 a (cP r (X b 0)<|iC 0) b o 0 f i (l++v++C++F) (c+vK e) (k+1) sn e j:=λw r g=>by have n:cU r b o 1:=(g.A b (az A) id).trans A;have O:=(s.aj (⟨B.st.f.aA g<|λ_ _=>id,g.aT cY,λ_ q=>J q,Fx.bI _⟩:gh u r o.f b f f)).gq P.st.l 0<|iC 0;exact⟨n.u z,n.bS,o,f,i,l,v,C,F,⟨n.jg 0,(P.eQ (s':=o) V O z (aq _) z).aT U hC U hN,O,⟨z,z,z,z,z,z⟩⟩,λq=>absurd q w⟩
 let⟨cx,cc,bb⟩:=sX D;subst bb;let⟨ao,ax,HW,x,av,HE⟩:=nT T W hW ba (λw3 w4 m q q1 C(d:gh a w3 o.f b f m)hx hq hf i g A=>MM.Hx (w:=a) (w3:=w3) (w4:=w4) (j3:=b) (q:=q) (q1:=q1) (s:=o) (K:=f) (K':=m) (c:=C) (N:=c+vK e) P.st.l V ac d hx hq hf i g A) hE;have aD:=ak P.st.l;by_cases w:gS e=0;(.have T:=ao w;rw[(by rw[w];rfl:ue (gS e)=ib)]at x|-;(go_enter_defers func15,ntmps15);go_wp21;go_call mZ (X b 0) _ c0 f0 as E p⟨rfl,aa⟩;rw[ag HW]at aa;subst p;go_wp21;go_call ad as E Wr⟨rfl,S⟩;have t:I aC u Wr:=I.p S;go_wp21;go_call(x Wr t)as E w2⟨rfl,g⟩;go_wp21;go_call(T w2<|t.t g)as E w3⟨v3,rfl,bh⟩;obtain⟨rfl,s',m,m',a',b',c',d',N,hx⟩|⟨m,n,bd⟩:=bh;(.have ab:=JZ N.g;go_wp21;go_call ab as E w4⟨rfl,Q⟩;obtain⟨d0,g0,O⟩:=N.Hx Q;go_wp2;exact fC d0 g0 ⟨_,gG z _ _ _,J ⟨z,s',m,m',a',b',c',d',O,hx⟩⟩);obtain⟨q,rfl,cc,hq,hf⟩:=n.f;let⟨s',aV,e1,e2⟩:=n.g;have bg:¬m.j o.f b:=λg=>(n.eQ.j b g).elim aD<|λg=>U;let⟨an,HQ,ap,aU,ab⟩:=nZ n.eQ hq hf n.g<|And.intro n.lM bd;(go_wp2_with fail);apply(Ke aV hq<|HE _ (n.eQ.gq bg 6<|eW q).aA).mono;rintro E w4⟨q1,rfl,bc,Q⟩;obtain⟨d0,g0,O⟩:=av w3 w4 m q q1 cc an aU HQ ap ab.1 Q bc;have HP:=ak<|And.intro O ab.2;go_wp2;refine fC d0 g0 ?_;refine⟨_,gG z _ _ _,?_⟩;exact bj ⟨w,⟨eW q1,m,z,HP.1⟩,HP.2⟩);have W:=ax w;let⟨Q,O⟩:∃Q,gS e=Q:=⟨_,rfl⟩;rw[(by unfold ue;rw[fM w,O]:ue (gS e)=.iface 47 (ay Q))]at x|-;(go_enter_defers func15,ntmps15);(go_wp2_with fail);apply(mZ (X b 0) _ c0 f0).mono;rintro E p⟨rfl,aa⟩;rw[ag HW]at aa;subst p;(go_wp2_with fail);apply ad.mono;rintro E Wr⟨rfl,S⟩;have t:I aC u Wr:=I.p S;(go_wp2_with fail);apply(x Wr t).mono;rintro E w2⟨rfl,g⟩;obtain⟨d0,g0,n⟩:=W w2<|t.t g;go_wp2;exact fC d0 g0 ⟨_,gG z _ _ _,J ⟨z,n⟩⟩
end
section
open Conc.Locks
def Gs(b:Y)(d c:af)(a:Y)(e:iF):kV:=Ee c a []<|((QI b d e).filter<|λf=>!f.dP).map BQ
def xD(s:SR)(m:dB)(a b c d:dI):(pG s m a b c d).map (·.2)=m::lL a b c d:=by
 simp[pG,lL,xp,kK]
def B4(a:dI):y ((a.map cH.dq).reverse).flatten=y (gy a):=by
 unfold gy;rw[uk,uk,xp,List.sum_reverse]
def sC.p{d b e g:dI}(h:sC N a c o f i d b e g k):y (i::lL d b e g).flatten<=k:=by
 have:=h.FX;have:=B4 d;unfold lL;rw[di,lV];grind
def sC.Hu{l b m n:dI}(h:sC N a c o f i l b m n k):∀x∈(i::lL l b m n).flatten,x.Good:=by
 intro x e;rw[<-xD o]at e;let⟨p,g,d⟩:=dO.1 e;obtain⟨r,j,rfl⟩:=cC.1 g;exact h.NM r j x d
def uP(w a:Z)(v:ae)(l:kV):Prop:=fD a (G<|H w) 142 2 v (y l)<|iR l
def Ou(k g:af)(d j:Y)(t:Qz K f N)(s:l++v++C++F≠[]->K)(p:cU a b o r)(e:sC N a b o f i l v C F c):cR bN 162 #[aJ b,aw k,aw g,ay d,bw j] a λD h=>(∃q,D=aN (de #[q,ib])/\uP a h q (Gs j k g d<|i::lL l v C F)/\(uf K o.f f).D h/\I (uf K o.f f).F a h)\/∃x C,∃m:kV,Es (uf K o.f f) a h (uf K o.f f).F D (λL=>de #[am x (y m) C,L])/\uP a h (am x (y m) C) m/\y m<=40000000000:=by
 let⟨B,A,n⟩:=cG e.D
 have u:=Vx (G<|H a) (o.l0,l) (o.l1,v) (o.l2,C) (o.l3,F) (pG o i l v C F) k g d j p B (y i) A n (e.lvm p) (AH o i l v C F) (λO g=>e.Mb t s _<|aB g) e.GR (aq _) e.f.lt (by
  rw[xD];intro x w;have:=e.Hu x (O5 _ _ _ x w);grind[E.Good.f,E.Good.l])
  (by
   rw[xD];have:=Ul j k (i::lL l v C F);have:=e.p;have:=e.v;omega)
 rwa[xD]at u
def TH(n k:af)(d j:Y)(x:Qz K f N)(w:l++v++C++F≠[]->K)(u:cU a b o r)(m:sC N a b o f i l v C F c):cR bN 110 #[aJ b,aw n,aw k,ay d,bw j] a λt g=>(∃p,t=aN (de #[p,ib])/\uP a g p (Gs j n k d<|i::lL l v C F)/\(uf K o.f f).D g/\I (uf K o.f f).F a g)\/Es (uf K o.f f) a g (uf K o.f f).F t (λL=>de #[aF,L]):=by
 have A:=Ou n k d j x w u m;go_in
 go_wp21;go_call A as t P(⟨O,rfl,e⟩|⟨Q,C,D,⟨B,q,rfl,e⟩,_⟩);(.obtain⟨E,s,rfl⟩:=aM e.1;go_wp2;(go_ret2);exact J ⟨_,z,e⟩);have s:=ak e;go_wp2;(go_ret2);exact bj ⟨B,q,z,s⟩
def uP.xz{l:kV}(h:uP a e d l)(c:b<G (H a)):uP a (cP e (X b 0) w) d l:=by
 unfold uP at h|-;exact h.kept (eG e _ _ _) (by right;intro f;have:=(h.lt _ f).1;omega)
def Rt(lo Q:af)(d:Y)(hX:Qz K f N)(hN:l++v++C++F≠[]->K)(h:cU a b o 0)(T:sC N a b o f i l v C F c)(hc:o.d=bD):cR bN 59 #[aJ b,aw lo,aw Q,ay d] a λL p=>((∃v',L=aN (de #[v',ib])/\uP a p v' (Gs o.S lo Q d<|i::lL l v C F))\/K/\∃q,L=aN (de #[aF,eW q])/\tB p q)/\Ir N a p b o f i l v C F c:=by
 have w:=az h;have c0:=cU.bW h 0 z;have f0:iH a (X b 0)=bD:=h.bS;have t:=lP T.f T.l 1;have P:=h.jg 1;have W:G (H<|cP a (X b 0)<|iC 1)=G (H a):=gJ;generalize hW:cP a (X b 0) (iC 1)=k at t P W;have x:=mX P;rw[hc]at x;have A:cR bN 49 #[aJ b] k λL p=>L=aN ib/\gC (G<|H k) k p:=x;have HX:=ak<|λe(r:gC (G<|H k) k e)=>tN (j4:=K) (W2:=e) P T w t r;have HG:=ak (show∀e g ac ab,gC (G<|H k) k e->uP e g ac ab->uP a (cP g (X b 0)<|iC 0) ac ab fromλe g ac ab r D=>by have:uP a g ac ab:=fh D<|bP r.size;exact this.xz w);go_enter_defers func59,ntmps59
 go_wp21;go_call mZ (X b 0) _ c0 f0 as L p⟨rfl,aa⟩;rw[hW]at aa;subst p;go_wp21;go_call A as L e⟨rfl,r⟩;let⟨s,V,j⟩:=HX e r;have S:=TH lo Q d o.S hX hN s V;have:=cU.bW s 9 z;have B:=ak<|λg ac ab=>HG e g ac ab r;go_wp21;go_call S as L g(⟨v2,rfl,u,m,n⟩|⟨hx,q,rfl,hq,m,n⟩);(.obtain⟨px,pc,rfl⟩:=aM u;let⟨E,O,hF,_⟩:=j g m n;have D:=ak<|B _ _ _ u;go_wp2;exact fC E O ⟨_,jw z _ _ _,J ⟨am px _ pc,z,D⟩,hF⟩);obtain⟨E,O,hF,hC⟩:=j g m n;have D:=ak<|hC q hq;go_wp2;exact fC E O ⟨_,jw z _ _ _,bj ⟨hx,q,z,D⟩,hF⟩
def UZ(g e:af)(d:Y)(h:cU a b o 0)(k:ST a b o f i l v C F c)(n:o.d=bD):cR bN 59 #[aJ b,aw g,aw e,ay d] a λp j=>((∃m,p=aN (de #[m,ib])/\uP a j m (Gs o.S g e d<|i::lL l v C F))\/l++v++C++F≠[]/\∃q,p=aN (de #[aF,eW q])/\tB j q)/\Ar a j b o f i l v C F c:=by
 refine(Rt g e d (Qz.bI k.f) id h k n).mono ?_;grind[Ir.xC]
end
section
open Conc.Locks
def SR.p9(s:SR)(k:Y)(f:ae):Array ae:=#[iC k,eI 0,aJ s.f,ay s.D,ay s.ua,aO s.d,f,s.L,ay s.o,bw s.S,s.l0,s.l1,s.l2,s.l3,bw s.t,ay s.v,.map s.n,bw s.l,aO s.i,aO s.mw,aO s.k,aO s.x]
def oV(w:Z)(j3:R)(s:SR)(k:Y)(f:ae):Prop:=w.heap[j3]?=M (aK (s.p9 k f) 110 (0,0))
structure zc(w:Z)(sb:R)(s:SR)(k:Y)(f:ae):Prop where
 g:oV w sb s k f
 l:s.d=cz\/∃q c,f=eW q/\rC w q c/\1<=c
def Q1(w:Z)(v:ae):Prop:=(∃t x,v=.iface t x)/\(v=ue 6\/∃q,v=eW q/\tB w q)
structure Tu(w w':Z)(sb:R)(s:SR)(f v:ae):Prop where
 ev:Q1 w' v
 G8:zc w' sb s 0 f
 aA:I (λk=>k=sb) w w'
section
variable{w w':Z}{j3:R}{s:SR}{k:Y}{f:ae}
def oV.bW(h:oV w j3 s k f)(i:R){v:ae}(e:(s.p9 k f).toList[i]?=M v):bA w (X j3 i)=M v:=by
 rw[cE h];rw[<-e];simp
def oV.bS{i:R}(h:oV w j3 s k f):iH w (X j3 i)=bD:=cV h
def oV.aA{S:fB}(h:oV w j3 s k f)(c:I S w w')(a:¬S j3):oV w' j3 s k f:=(c.A j3 (az h) a).trans h
def oV.jg(h:oV w j3 s k f)(n:Y):oV (cP w (X j3 0)<|iC n) j3 s n f:=(aY h).trans rfl
def zc.D{i:R}{u:ae}{a:SR}{c:Y}(h:zc w j3 s k f)(e:oV (cP w (X j3 i) u) j3 a c f)(g:s.d=cz->a.d=cz):zc (cP w (X j3 i) u) j3 a c f:=⟨e,h.l.imp g<|λ⟨q,j,l,b,d⟩=>⟨q,j,l,b.aA (iP j3 w)<|b.pJ (j3:=j3) h.g,d⟩⟩
def zc.BN(h:zc w j3 s k f)(n:Y):zc (cP w (X j3 0)<|iC n) j3 s n f:=h.D (h.g.jg n) id
def zc.A{S:fB}(h:zc w j3 s k f)(g:I S w w')(d:¬S j3)(e:∀q c,rC w q c->rC w' q c):zc w' j3 s k f:=⟨h.g.aA g d,h.l.imp id<|λ⟨q,c,i,b,a⟩=>⟨q,c,i,e q c b,a⟩⟩
def zc.t(h:zc w j3 s k f)(a:I aC w w'):zc w' j3 s k f:=h.A a id<|λ_ _ q=>q.aA a id
def cU.G8(h:cU w j3 s k)(a:s.d=cz):zc w j3 s k ib:=⟨h,J a⟩
def vX.G8{q:R}{c:Y}(h:vX w j3 s k q)(b:rC w q c)(a:1<=c):zc w j3 s k (eW q):=⟨h,bj ⟨q,c,rfl,b,a⟩⟩
def tB.XB{S:fB}{q:R}(h:tB w q)(d:I S w w')(b:¬S q):tB w' q:=by
 let⟨e,c,a⟩:=h;exact⟨e,c.aA d b,a⟩
def Q1.xz{v:ae}(h:Q1 w v){b:Array ae}(c:w.heap[j3]?=M (aK b 110 (0,0)))(u:ae)(i:R):Q1 (cP w (X j3 i) u) v:=⟨h.1,h.2.imp id<|λ⟨q,e,a⟩=>⟨q,e,a.XB (iP j3 w) (by let⟨d,a,_⟩:=a;exact a.pJ (j3:=j3) c)⟩⟩
def Oc(h:zc w j3 s k f)(e:jO w):cR bN 49 #[aJ j3] w λj w'=>∃v,j=aN v/\Q1 w' v/\gC (G<|H w) w w':=by
 by_cases a:s.d=cz;(·(have:bA w (X j3 5)=M (aO cz):=by rw[<-a];exact h.g.bW 5 z);clear h a;(go_in);go_wp2;go_ret;exact⟨ue 6,z,⟨⟨_,_,z⟩,J z⟩,Below.refl _ _⟩);obtain q|⟨q,l,rfl,g,d⟩:=h.l;exact absurd q a;have b:vX w j3 s k q:=h.g;go_call Od b (dV a) g e as j w'⟨i,rfl,c,b⟩;exact⟨_,z,⟨⟨_,_,z⟩,bj ⟨i,z,l,c,d⟩⟩,b⟩
def G7{b a:Z}{v:ae}(h:zc w j3 s 0 f)(d:cP w (X j3 0) (iC 1)=b)(e:gC (G<|H b) b a)(g:Q1 a v):bA a (X j3 0)=M (iC 1)/\iH a (X j3 0)=bD/\Tu w (cP a (X j3 0)<|iC 0) j3 s f v:=by
 have c:zc a j3 s 1 f:=(d▸h.BN 1:zc b j3 s 1 f).t<|I.p e;exact⟨c.g.bW 0 z,c.g.bS,g.xz c.g _ _,c.BN 0,((d▸iP j3 w:I (λk=>k=j3) w b).aj (I.p (S:=λk=>k=j3) e)<|λ_ a=>J a).aL j3 0 _<|J z⟩
def zH(h:zc w j3 s 0 f)(i:jO w)(c:j3≠0):cR bN 49 #[aJ j3] (cP w (X j3 0)<|iC 1) λe w'=>∃a b,e=aN (.iface a b)/\bA w' (X j3 0)=M (iC 1)/\iH w' (X j3 0)=bD/\Tu w (cP w' (X j3 0)<|iC 0) j3 s f (.iface a b):=by
 go_call Oc (h.BN 1) (i.aA (iP j3 w)<|λe=>c e.symm)as e w'⟨v,rfl,d,g⟩;obtain⟨a,b,rfl⟩:=id d.1;exact⟨a,b,z,G7 h z g d⟩
def BJ(n:Y)(h:zc w j3 s 0 f)(g:jO w)(c:j3≠0):cR bN 93 #[aJ j3,ay n] (cP w (X j3 0)<|iC 1) λi w'=>∃d e,i=aN (de #[bw 0,.iface d e])/\bA w' (X j3 0)=M (iC 1)/\iH w' (X j3 0)=bD/\Tu w (cP w' (X j3 0)<|iC 0) j3 s f (.iface d e):=by
 have a:=zH h g c;clear h g c;generalize cP w (X j3 0) (iC 1)=j at a;go_in
 go_wp21;go_call a as i l⟨d,e,rfl,b⟩;clear a;go_wp2;go_ret2
 exact⟨d,e,z,b⟩
def M3(d:af)(h:zc w j3 s 0 f)(e:jO w)(b:j3≠0):cR bN 17 #[aJ j3,aw d] w λj w'=>∃v,j=aN (de #[aw ⟨#[]⟩,aO bD,v])/\Tu w w' j3 s f v:=by
 have g:=h.g.bW 0 z;have l:iH w (X j3 0)=bD:=h.g.bS;have c:=zH h e b;clear h e b;go_enter_defers func17,ntmps17
 go_wp21;go_call mZ (X j3 0) _ g l as j w'⟨rfl,rfl⟩;go_wp21;go_call c as j p⟨n,o,rfl,i,m,a⟩;clear c;go_wp2;exact fC i m ⟨_,lz z _ _ _,.iface n o,z,a⟩
def Ut(i:ae)(d:eN)(h:zc w j3 s 0 f)(e:jO w)(b:j3≠0):cR bN 15 #[aJ j3,i,aO d] w λl w'=>∃v,l=aN (v)/\Tu w w' j3 s f v:=by
 have g:=h.g.bW 0 z;have m:iH w (X j3 0)=bD:=h.g.bS;have c:=zH h e b;clear h e b;go_enter_defers func15,ntmps15
 go_wp21;go_call mZ (X j3 0) _ g m as l w'⟨rfl,rfl⟩;go_wp21;go_call c as l q⟨o,p,rfl,j,n,a⟩;clear c;go_wp2;exact fC j n ⟨_,gG z _ _ _,.iface o p,z,a⟩
def Yh(o n:af)(a:Y)(h:zc w j3 s 0 f)(e:jO w)(c:j3≠0):cR bN 59 #[aJ j3,aw o,aw n,ay a] w λj w'=>∃v,j=aN (de #[aF,v])/\Tu w w' j3 s f v:=by
 have g:=h.g.bW 0 z;have l:iH w (X j3 0)=bD:=h.g.bS;have d:=zH h e c;clear h e c;go_enter_defers func59,ntmps59
 go_wp21;go_call mZ (X j3 0) _ g l as j w'⟨rfl,rfl⟩;go_wp21;go_call d as j r⟨p,q,rfl,i,m,b⟩;clear d;go_wp2;exact fC i m ⟨_,jw z _ _ _,.iface p q,z,b⟩
def KS(h:zc w j3 s 0 f)(d:jO w)(b:j3≠0):cR bN 40 #[aJ j3] w λi w'=>∃v,i=aN (de #[ay 0,v])/\Tu w w' j3 s f v:=by
 have e:=h.g.bW 0 z;have j:iH w (X j3 0)=bD:=h.g.bS;have c:=zH h d b;clear h d b;go_enter_defers func40,ntmps40
 go_wp21;go_call mZ (X j3 0) _ e j as i w'⟨rfl,rfl⟩;go_wp21;go_call c as i o⟨m,n,rfl,g,l,a⟩;clear c;go_wp2;exact fC g l ⟨_,jw z _ _ _,.iface m n,z,a⟩
def UY(h:zc w j3 s 0 f)(d:jO w)(b:j3≠0):cR bN 33 #[aJ j3] w λi w'=>∃v,i=aN (de #[aF,v])/\Tu w w' j3 s f v:=by
 have e:=h.g.bW 0 z;have j:iH w (X j3 0)=bD:=h.g.bS;have c:=zH h d b;clear h d b;go_enter_defers func33,ntmps33
 go_wp21;go_call mZ (X j3 0) _ e j as i w'⟨rfl,rfl⟩;go_wp21;go_call c as i o⟨m,n,rfl,g,l,a⟩;clear c;go_wp2;exact fC g l ⟨_,jw z _ _ _,.iface m n,z,a⟩
def Mx(h:zc w j3 s 0 f)(d:jO w)(b:j3≠0):cR bN 44 #[aJ j3] w λi w'=>∃v,i=aN (v)/\Tu w w' j3 s f v:=by
 have e:=h.g.bW 0 z;have j:iH w (X j3 0)=bD:=h.g.bS;have c:=zH h d b;clear h d b;go_enter_defers func44,ntmps44
 go_wp21;go_call mZ (X j3 0) _ e j as i w'⟨rfl,rfl⟩;go_wp21;go_call c as i o⟨m,n,rfl,g,l,a⟩;clear c;go_wp2;exact fC g l ⟨_,gG z _ _ _,.iface m n,z,a⟩
def Wi(p:Y)(d:af)(h:zc w j3 s 0 f)(e:jO w)(b:j3≠0):cR bN 88 #[aJ j3,ay p,aw d] w λj w'=>∃v,j=aN (de #[aw ⟨#[]⟩,aO bD,v])/\Tu w w' j3 s f v:=by
 have g:=h.g.bW 0 z;have l:iH w (X j3 0)=bD:=h.g.bS;have c:=BJ p h e b;clear h e b;go_enter_defers func88,ntmps88
 go_wp21;go_call mZ (X j3 0) _ g l as j w'⟨rfl,rfl⟩;go_wp21;go_call c as j q⟨n,o,rfl,i,m,a⟩;clear c;go_wp2;exact fC i m ⟨_,lz z _ _ _,.iface n o,z,a⟩
def Ru(r:Y)(o n:af)(a:Y)(h:zc w j3 s 0 f)(e:jO w)(c:j3≠0):cR bN 90 #[aJ j3,ay r,aw o,aw n,ay a] w λj w'=>∃v,j=aN (de #[aF,v])/\Tu w w' j3 s f v:=by
 have g:=h.g.bW 0 z;have l:iH w (X j3 0)=bD:=h.g.bS;have d:=BJ r h e c;clear h e c;go_enter_defers func90,ntmps90
 go_wp21;go_call mZ (X j3 0) _ g l as j w'⟨rfl,rfl⟩;go_wp21;go_call d as j t⟨p,q,rfl,i,m,b⟩;clear d;go_wp2;exact fC i m ⟨_,jw z _ _ _,.iface p q,z,b⟩
def Ob(o:Y)(h:zc w j3 s 0 f)(d:jO w)(b:j3≠0):cR bN 42 #[aJ j3,ay o] w λi w'=>∃v,i=aN (v)/\Tu w w' j3 s f v:=by
 have e:=h.g.bW 0 z;have j:iH w (X j3 0)=bD:=h.g.bS;have c:=BJ o h d b;clear h d b;go_enter_defers func42,ntmps42
 go_wp21;go_call mZ (X j3 0) _ e j as i w'⟨rfl,rfl⟩;go_wp21;go_call c as i p⟨m,n,rfl,g,l,a⟩;clear c;go_wp2;exact fC g l ⟨_,gG z _ _ _,.iface m n,z,a⟩
def UA(n m:af)(h:zc w j3 s 0 f)(d:jO w)(b:j3≠0):cR bN 206 #[aJ j3,aw n,aw m] w λi w'=>i=aN aF/\∃v,Tu w w' j3 s f v:=by
 have e:=h.g.bW 0 z;have j:iH w (X j3 0)=bD:=h.g.bS;have c:=zH h d b;clear h d b;go_enter_defers func206,ntmps206
 go_wp21;go_call mZ (X j3 0) _ e j as i w'⟨rfl,rfl⟩;go_wp21;go_call c as i o⟨p,q,rfl,g,l,a⟩;clear c;go_wp2;exact fC g l ⟨_,gG z _ _ _,z,_,a⟩
def WM(h:oV w j3 s 0 f)(b:s.d=cz):cR bN 21 #[aJ j3] w λj w'=>j=aN (ue 6)/\oV w' j3 s 0 f/\I (λk=>k=j3) w w':=by
 have d:=h.bW 0 z;have g:iH w (X j3 0)=bD:=h.bS;have a:=h.jg 1;have:bA (cP w (X j3 0)<|iC 1) (X j3 5)=M (aO cz):=b▸a.bW 5 z;have e:=a.bW 0 z;have i:iH (cP w (X j3 0)<|iC 1) (X j3 0)=bD:=a.bS;have c:=ak<|show oV (cP (cP w (X j3 0)<|iC 1) (X j3 0)<|iC 0) j3 s 0 f/\I (λk=>k=j3) w (cP (cP w (X j3 0)<|iC 1) (X j3 0)<|iC 0)from⟨a.jg 0,(iP j3 w).aL j3 0 _<|J z⟩;clear h a b;go_enter_defers func21,ntmps21
 go_wp2_with(go_at_call 47;refine(mZ (X j3 0) _ d g).mono ?_;rintro j w'⟨rfl,rfl⟩)
 exact fC e i ⟨_,gG z _ _ _,z,c⟩
end
def WN{w:Z}{j3 q:R}{s:SR}{v:Y}(h:vX w j3 s 0 q)(r:s.d=bD)(o:rC w q v):cR bN 21 #[aJ j3] w λE w'=>E=aN (eW q)/\rC w' q v/\vX w' j3 s.BB 0 q/\I (λk=>k=j3) w w':=by
 have x:=h.bW 0 z;have B:iH w (X j3 0)=bD:=h.bS;let⟨b,e⟩:∃b,cP w (X j3 0) (iC 1)=b:=⟨_,rfl⟩;have a:vX b j3 s 1 q:=e▸h.jg 1;have l:I (λk=>k=j3) w b:=e▸(iP j3 w);have:bA b (X j3 5)=M (aO bD):=r▸a.bW 5 z;have:=a.bW 6 z;have:=a.bW 7 z;have:=a.bW 10 z;have:=a.bW 11 z;have:=a.bW 12 z;have:=a.bW 13 z;have:=a.bW 16 z;have:iH b (X j3 16)=bD:=a.bS;have:iH b (X j3 5)=bD:=a.bS;have:iH b (X j3 7)=bD:=a.bS;have:iH b (X j3 10)=bD:=a.bS;have:iH b (X j3 11)=bD:=a.bS;have:iH b (X j3 12)=bD:=a.bS;have:iH b (X j3 13)=bD:=a.bS;let⟨d,c⟩:∃d,cP (cP (cP (cP (cP (cP (cP b (X j3 5)<|aO cz) (X j3 7) aF) (X j3 10) aF) (X j3 11) aF) (X j3 12) aF) (X j3 13) aF) (X j3 16) (.map dE)=d:=⟨_,rfl⟩;have j:vX d j3 s.BB 1 q:=by have C:=aY (i:=16) (u:=.map dE)<|aY (i:=13) (u:=aF)<|aY (i:=12) (u:=aF)<|aY (i:=11) (u:=aF)<|aY (i:=10) (u:=aF)<|aY (i:=7) (u:=aF)<|aY (i:=5) (u:=aO cz) a;rwa[c]at C
 have m:I (λk=>k=j3) w d:=by rw[<-c];exact((((((l.aL j3 5 _<|J z).aL j3 7 _<|J z).aL j3 10 _<|J z).aL j3 11 _<|J z).aL j3 12 _<|J z).aL j3 13 _<|J z).aL j3 16 _<|J z
 have g:=m.aL j3 0 (iC 0)<|J z;have t:=ak<|show rC (d.setCell (X j3 0)<|iC 0) q v/\vX (d.setCell (X j3 0)<|iC 0) j3 s.BB 0 q/\I (λk=>k=j3) w (d.setCell (X j3 0)<|iC 0)from⟨o.aA g<|o.pJ (j3:=j3) h,j.jg 0,g⟩;have A:=j.bW 0 z;have D:iH d (X j3 0)=bD:=j.bS;have:=j.bW 6 z;have n:=ak c;clear h a l r o j m g c;go_enter_defers func21,ntmps21
 go_wp21;go_call mZ (X j3 0) _ x B as E w'⟨rfl,p⟩;rw[e]at p;subst w';go_wp2;rw[ag n];exact fC A D ⟨_,gG z _ _ _,z,t⟩
def WK{w:Z}{j3:R}{s:SR}{f:ae}(h:zc w j3 s 0 f):cR bN 21 #[aJ j3] w λg w'=>∃v,g=aN v/\Q1 w' v/\(∃l,zc w' j3 l 0 f)/\I (λk=>k=j3) w w':=by
 by_cases a:s.d=cz;(.go_call WM h.g a as g w'⟨rfl,b,e⟩;exact⟨_,z,⟨⟨_,_,z⟩,J z⟩,⟨s,b,J a⟩,e⟩);obtain q|⟨q,m,rfl,j,i⟩:=h.l;exact absurd q a;have b:vX w j3 s 0 q:=h.g;go_call WN b (dV a) j as g w'⟨rfl,d,c,e⟩;exact⟨_,z,⟨⟨_,_,z⟩,bj ⟨q,z,m,d,i⟩⟩,⟨s.BB,c,J z⟩,e⟩
def LR{w:Z}{j3:R}{s:SR}{f:ae}(h:oV w j3 s 0 f):cR bN 208 #[aJ j3] w λi w'=>i=aN (aO s.d)/\oV w' j3 s 0 f/\I (λk=>k=j3) w w':=by
 have c:=h.bW 0 z;have e:iH w (X j3 0)=bD:=h.bS;have a:=h.jg 1;have:=a.bW 5 z;have d:=a.bW 0 z;have g:iH (cP w (X j3 0)<|iC 1) (X j3 0)=bD:=a.bS;have b:=ak<|show oV (cP (cP w (X j3 0)<|iC 1) (X j3 0)<|iC 0) j3 s 0 f/\I (λk=>k=j3) w (cP (cP w (X j3 0)<|iC 1) (X j3 0)<|iC 0)from⟨a.jg 0,(iP j3 w).aL j3 0 _<|J z⟩;clear h a;go_enter_defers func208,ntmps208
 go_wp2_with(go_at_call 47;refine(mZ (X j3 0) _ c e).mono ?_;rintro i w'⟨rfl,rfl⟩)
 exact fC d g ⟨_,gG z _ _ _,z,b⟩
end
section
open Conc.Locks
def wy{w:Z}{j3 b:R}{s:SR}{F:Y}(o:Y)(sn:gI)(h:cU w j3 s F)(v:s.d=bD)(t:s.n=M b)(k:kO w b (Dm sn)):cR bN 93 #[aJ j3,.int .i64 o] w λr p=>r=.returned (match yZ sn o with|some D=>.tuple #[.int .u64 (D:Y),ib]|none=>.tuple #[.int .u64 0,ue 5])/\gC (G<|H w) w p:=by
 have l:=mX h;rw[v]at l;simp only[li,mz]at l;let⟨E,j,n,x,A⟩:=cZ Uc
 have i:=ak (show∀e,gC (G<|H w) w e->bA e (X j3 16)=M (.map<|M b)/\(Instr.lookup 94 (.map<|M b) (ay o) cz).run bN e=.ok (de #[((yZ sn o).map (λb:R=>bw b)).getD<|bw 0,aO ((yZ sn o).map (λb:R=>bw b)).isSome]) e fromλe f=>by
  refine⟨?_,?_⟩
  .rw[<-t];exact(h.aA (I.p (S:=aC) f) id).u z
  .rw[<-TC];exact G4 underlying94 underlying3 j n (k.dU (f.block _ k.lt)) o)
 clear h t k;have g:cR bN 49 #[aJ j3] w λr p=>r=aN ib/\gC (G<|H w) w p:=l;have u:ue 5=.iface 47 (ay 5):=rfl;rw[u];cases hg:yZ sn o with
 |none=>
  rw[hg]at i;clear hg;go_in
  go_wp21;go_call g as r e⟨rfl,f⟩;let⟨B,q⟩:=i e f;simp only[Option.map_none,sP,Option.isSome_none]at q;go_wp2;go_ret2
  simp_all
 |some D=>
  rw[hg]at i;clear hg;go_in
  go_wp21;go_call g as r e⟨rfl,f⟩;let⟨B,q⟩:=i e f;simp only[Option.map_some,ld,Option.isSome_some]at q;go_wp2;go_ret2
  simp_all
def ub(w:Z)(v:ae):Prop:=v=ib\/(∃n:Y,1<=n/\n<=100/\v=ue n)\/∃q,v=eW q/\tB w q
def Xn(j5:Prop)(j4:cy af)(w f:Z)(j3:R)(s:SR)(K:DK)(m:dB)(a b c d:dI)(C N:R)(sn:gI):Prop:=∃e,gh w f s.f j3 K e/\wR K e/\cU f j3 s 0/\Inv j5 j4 f j3 s e m a b c d C N sn
def Ar.J8{j5:Prop}{j4:cy af}{w i:Z}{j3:R}{s:SR}{K:DK}{m:dB}{a b c d:dI}{C N:R}{sn:gI}(h:Ar w i j3 s K m a b c d C)(n:Inv j5 j4 w j3 s K m a b c d C N sn)(e:j3<G (H w)):Xn j5 j4 w i j3 s K m a b c d C N sn:=by
 let⟨j,f,k,g,o,l,p⟩:=h;exact⟨j,f,g.2,l,n.eQ (s':=s) e f (by rw[k]) (g.1▸aq _) rfl⟩
def uP.kj(w e:Z):uP w e aF []:=ct _ _ _ _
def o6(g:af)(f:Y):∀(l e:kV),y (Ee g f e l)<=y e+y l:=by
 intro l;induction l with
 |nil=>intro e;simp[Ee]
 |cons p l h=>
  intro e;rw[Ee];split
  .simp
  .split
   .simp
   .have:=h<|e++[p];simp at this|-;omega
def DF(g:Y)(h i:af)(e:Y)(f:iF):y (Gs g h i e f)<=y f.flatten:=by
 have k:=o6 i e (((QI g h f).filter<|λj=>!j.dP).map BQ) [];have:=gM (λj:E=>!j.dP)<|QI g h f;have:=Ul g h f;unfold Gs;simp at k;omega
section
variable{j5:Prop}{j4:cy af}{w:Z}{j3:R}{s:SR}{K:DK}{m:dB}{a b c d:dI}{C N:R}{sn:gI}
def Ue(e:af)(f:Y)(m8:cy (ae×dB))(h:Z):∃x g v,SF e f m8=de #[aw x,aO g,v]/\ub h v:=by
 unfold SF;split
 .cases zC f e m8 with
  |none=>exact⟨_,_,_,z,J z⟩
  |some i=>exact⟨_,_,_,z,J z⟩
 exact⟨_,_,_,z,bj<|J ⟨3,cg,cg,z⟩⟩
def Pw(e:af)(h:cU w j3 s 0)(i:Inv j5 j4 w j3 s K m a b c d C N sn)(l:s.d=bD)(p:e.size<=140737488351232):cR bN 17 #[aJ j3,aw e] w λk f=>∃x g v,k=aN (de #[aw x,aO g,v])/\ub f v/\Xn j5 j4 w f j3 s K m a b c d C N sn:=by
 go_call Pu e h i.st l p as k f⟨rfl|⟨_,q,rfl,n⟩,j⟩;let⟨x,g,v,k,o⟩:=Ue e s.S (pG s m a b c d) f;exact⟨x,g,v,by rw[k],o,j.J8 i<|az h⟩;exact⟨_,_,_,z,bj<|bj ⟨q,z,n⟩,j.J8 i<|az h⟩
def Jo(j i:af)(e:Y)(h:cU w j3 s 0)(f:Inv j5 j4 w j3 s K m a b c d C N sn)(n:s.d=bD):cR bN 59 #[aJ j3,aw j,aw i,ay e] w λr g=>∃v,∃t:kV,∃k,r=aN (de #[v,k])/\uP w g v t/\y t<=40000000000/\ub g k/\Xn j5 j4 w g j3 s K m a b c d C N sn:=by
 go_call UZ j i e h f.st n as r g⟨⟨v,rfl,o⟩|⟨_,q,rfl,p⟩,l⟩;exact⟨v,_,_,z,o,Lw (DF s.S j i e<|m::lL a b c d) f.st.p f.st.v,J z,l.J8 f<|az h⟩;exact⟨_,[],_,z,uP.kj _ _,ar,bj<|bj ⟨q,z,p⟩,l.J8 f<|az h⟩
def XN(E A:af)(h:cU w j3 s 0)(S:Inv j5 j4 w j3 s K m a b c d C N sn)(hc:s.d=bD):cR bN 206 #[aJ j3,aw E,aw A] w λac o=>∃F,∃D:kV,ac=aN F/\uP w o F D/\y D<=40000000000/\Ar w o j3 s K m a b c d C:=by
 have u:=az h;have B:sC (vw K.ah) w j3 s K m a b c d C:=S.st;have t:=lP B.f B.l 1;have Q:=h.jg 1;have aa:G (H<|cP w (X j3 0)<|iC 1)=G (H w):=gJ;generalize hW:cP w (X j3 0) (iC 1)=j at t Q aa;have v:=mX Q;rw[hc]at v;have x:cR bN 49 #[aJ j3] j λac o=>ac=aN ib/\gC (G<|H j) j o:=v;have HX:=ak<|λe(n:gC (G<|H j) j e)=>tN (j4:=True) (W2:=e) Q B u t n;have HG:=ak (show∀e g F D,gC (G<|H j) j e->uP e g F D->uP w (cP g (X j3 0)<|iC 0) F D fromλe g F D n hg=>by have:uP w g F D:=fh hg<|bP n.size;exact this.xz u);have HB:=ak<|show y (Gs s.S E A 0<|m::lL a b c d)<=40000000000 from Lw (DF s.S E A 0<|m::lL a b c d) S.st.p S.st.v;have L:=ak<|Qz.bI (j4:=True) B.f;go_enter_defers func206,ntmps206
 go_wp21;go_call mZ (X j3 0) _ (cU.bW h 0 rfl) (h.bS:iH w (X j3 0)=bD)as ac o⟨rfl,ab⟩;rw[hW]at ab;subst o;go_wp21;go_call x as ac e⟨rfl,n⟩;let⟨r,W,i⟩:=HX e n;have V:=Ou E A 0 s.S L (λ_=>trivial) r W;have:=cU.bW r 9 z;have p:=ak<|λg F D=>HG e g F D n;go_wp21;go_call V as ac g(⟨v2,rfl,f,k,l⟩|⟨px,pc,ps,⟨hx,q,rfl,hq,k,l⟩,f,T⟩);(.obtain⟨px,pc,rfl⟩:=aM f;let⟨O,P,hF,_⟩:=i g k l;go_wp2;exact fC O P ⟨_,gG z _ _ _,am px _ pc,_,z,(ak<|p _ _ _ f),HB,hF.xC⟩);obtain⟨O,P,hF,hC⟩:=i g k l;go_wp2;exact fC O P ⟨_,gG z _ _ _,am px _ pc,ps,z,(ak<|p _ _ _ f),T,hF.xC⟩
def Va(ad:Y)(lo W:af)(e:Y)(h:cU w j3 s 0)(A:Inv j5 j4 w j3 s K m a b c d C N sn)(hc:s.d=bD):cR bN 90 #[aJ j3,ay ad,aw lo,aw W,ay e] w λac u=>∃Q,∃P:kV,∃ev,ac=aN (de #[Q,ev])/\uP w u Q P/\y P<=40000000000/\ub u ev/\Ar w u j3 s K m a b c d C:=by
 have D:=az h;have E:sC (vw K.ah) w j3 s K m a b c d C:=A.st;have c0:=cU.bW h 0 z;have f0:iH w (X j3 0)=bD:=h.bS;have n:=lP E.f E.l 1;have L:=h.jg 1;have ab:G (H<|cP w (X j3 0)<|iC 1)=G (H w):=gJ;generalize hW:cP w (X j3 0) (iC 1)=F at n L ab;let⟨mb,q1,q2,q3⟩:=(A.f.eQ n).ex;have f:=wy ad sn L hc q1 q2;have HX:=ak<|λi(k:gC (G<|H F) F i)=>tN (j4:=True) (W2:=i) L E D n k;have HG:=ak (show∀i o Q P,gC (G<|H F) F i->uP i o Q P->uP w (cP o (X j3 0)<|iC 0) Q P fromλi o Q P k O=>by have:uP w o Q P:=fh O<|bP k.size;exact this.xz D);have S:=ak<|Qz.bI (j4:=True) E.f;have T:=ak<|show y (m::lL a b c d).flatten<=3000000000 from gV A.st.p A.st.v;clear h A E n L q1 q2 q3;cases O:yZ sn ad with
 |none=>
  rw[O]at f;simp only at f;rw[SP]at f;go_enter_defers func90,ntmps90
  go_wp21;go_call mZ (X j3 0) _ c0 f0 as ac u⟨rfl,t⟩;rw[hW]at t;subst u;go_wp21;go_call f as ac i⟨rfl,k⟩;let⟨l,j,g⟩:=HX i k;let⟨v,x,hF,_⟩:=g i j.GR<|I.bI _ _;clear l j g k f;go_wp2;exact fC v x ⟨_,jw z _ _ _,aF,[],_,z,uP.kj _ _,ar,bj<|J ⟨5,cg,cg,z⟩,hF.xC⟩
 |some al=>
  rw[O]at f;simp only at f;go_enter_defers func90,ntmps90
  go_wp21;go_call mZ (X j3 0) _ c0 f0 as ac u⟨rfl,t⟩;rw[hW]at t;subst u;go_wp21;go_call f as ac i⟨rfl,k⟩;let⟨l,j,g⟩:=HX i k;have aa:=TH lo W e al S (λ_=>trivial) l j;have V:=ak<|λo Q P=>HG i o Q P k;clear l j k f;go_wp2_with fail
  apply aa.mono;rintro ac o(⟨v2,rfl,B,p,r⟩|⟨hx,q,rfl,hq,p,r⟩)
  .obtain⟨px,pc,rfl⟩:=aM B;obtain⟨v,x,hF,_⟩:=g o p r;go_wp2;exact fC v x ⟨_,jw z _ _ _,am px _ pc,_,_,z,(ak<|V _ _ _ B),gV (DF al lo W e<|m::lL a b c d)<|ag T,J z,hF.xC⟩
  .obtain⟨v,x,hF,hC⟩:=g o p r;go_wp2;exact fC v x ⟨_,jw z _ _ _,aF,[],_,z,uP.kj _ _,ar,bj<|bj ⟨q,z,(ak<|hC q hq)⟩,hF.xC⟩
def ZC(ab:Y)(o:af)(h:cU w j3 s 0)(A:Inv j5 j4 w j3 s K m a b c d C N sn)(hc:s.d=bD)(hz:o.size<=140737488351232):cR bN 88 #[aJ j3,ay ab,aw o] w λS u=>∃aa g9 Q,S=aN (de #[aw aa,aO g9,Q])/\ub u Q/\Ar w u j3 s K m a b c d C:=by
 have D:=az h;have F:sC (vw K.ah) w j3 s K m a b c d C:=A.st;have c0:=cU.bW h 0 z;have f0:iH w (X j3 0)=bD:=h.bS;have n:=lP F.f F.l 1;have O:=h.jg 1;have V:G (H<|cP w (X j3 0)<|iC 1)=G (H w):=gJ;generalize hW:cP w (X j3 0) (iC 1)=L at n O V;let⟨mb,q1,q2,q3⟩:=(A.f.eQ n).ex;have e:=wy ab sn O hc q1 q2;have HX:=ak<|λg(j:gC (G<|H L) L g)=>tN (j4:=True) (W2:=g) O F D n j;have HG:=ak (show∀g k Q W,gC (G<|H L) L g->uP g k Q W->uP w (cP k (X j3 0)<|iC 0) Q W fromλg k Q W j P=>by have:uP w k Q W:=fh P<|bP j.size;exact this.xz D);have T:=ak<|Qz.bI (j4:=True) F.f;have:=ak<|show y (m::lL a b c d).flatten<=3000000000 from gV A.st.p A.st.v;clear h A F n O q1 q2 q3;cases P:yZ sn ab with
 |none=>
  rw[P]at e;simp only at e;rw[SP]at e;go_enter_defers func88,ntmps88
  go_wp21;go_call mZ (X j3 0) _ c0 f0 as S u⟨rfl,t⟩;rw[hW]at t;subst u;go_wp21;go_call e as S g⟨rfl,j⟩;let⟨l,i,f⟩:=HX g j;let⟨v,x,hF,_⟩:=f g i.GR<|I.bI _ _;clear l i f j e;go_wp2;exact fC v x ⟨_,lz z _ _ _,_,_,_,z,bj<|J ⟨5,cg,cg,z⟩,hF.xC⟩
 |some aa=>
  rw[P]at e;simp only at e;go_enter_defers func88,ntmps88
  go_wp21;go_call mZ (X j3 0) _ c0 f0 as S u⟨rfl,t⟩;rw[hW]at t;subst u;go_wp21;go_call e as S g⟨rfl,j⟩;let⟨l,i,f⟩:=HX g j;let⟨B,rx,ry,rz,E⟩:=JU o aa T (λ_=>trivial) l i hz;rw[E]at B;have:=ak<|λk Q W=>HG g k Q W j;clear l i j e;go_wp21;apply B.mono;rintro S k(⟨rfl,p,r⟩|⟨hx,q,rfl,hq,p,r⟩)
  .obtain⟨v,x,hF,_⟩:=f k p r;go_wp2;refine fC v x ?_;obtain⟨x',y',v',S,hv⟩:=Ue o aa (pG s m a b c d)<|cP k (X j3 0)<|iC 0;exact⟨_,lz z _ _ _,x',y',v',by rw[<-S,E];rfl,hv,hF.xC⟩
  .obtain⟨v,x,hF,hC⟩:=f k p r;go_wp2;exact fC v x ⟨_,lz z _ _ _,_,_,_,z,bj<|bj ⟨q,z,(ak<|hC q hq)⟩,hF.xC⟩
end
end
section
open Shelf
attribute [local go_sem] Oper.semAt_some
def Ww(a:R)(s:SR)(f:ae):ju:=⟨λw=>oV w a s 0 f,λk=>k=a,λ{_ _ _}h d c=>(d.A a (az h)<|λe=>c _ e rfl).trans h,λ{_ _}h b=>by subst b;exact az h,False⟩
def Um(p:KV):Array ae:=#[aw p.1,aw p.2]
def Kr(n0 cj:R)(l:R)(bo:SR)(bt:ae)(e:kV)(ab:fE a b d 55)(aa:fE a c (aJ l) 36)(hr:Row a 2 d (y e) (iR e))(h1:b≠l)(h2:c≠l)(h3:∀k,cN d=M k->k<G (H a)/\k≠l)(bT:l<n0)(ao:n0<=G (H a))(ca:y e<=40000000000):Up Um (Ww l bo bt) n0 cj 207 #[aJ b,aJ c] (if bo.d then []else e) (λk=>k=b\/k=c\/cN d=M k) a:=by
 intro lr cc Jx ce ch hs hD hJ W q ax hY;let⟨cb,F,hv⟩:=cG hr;have bE:bA ch (X b 0)=M d:=hs.u (J<|J z) ab.u;have C:∀k,(k=b\/k=c\/cN d=M k)->k<G (H a)/\k≠l:=by grind
 let⟨n,HB,HR,bx,HS,HJ⟩:=nT C aa hr h3 hs hJ;let⟨HD,bc,HY,N,O⟩:=nZ hD W hY q ax;clear ab aa hr h3 hs hJ W q ax hY hD C h1;subst hv;let⟨P,ac⟩:∃P,bo.d=P:=⟨_,rfl⟩;rw[ac]at HY|-;let⟨bv,hl⟩:∃bv,(if P=cz then []else e)=bv:=⟨_,rfl⟩;rw[hl]at HY|-;have L:=ak hl;clear hl;refine tf func207 z trivial ?_ z;simp only[ntmps207,gm,bK,eE,jZ,Nat.reduceSub,fc,fa,gp,fG,ep,dt];gi_wp2;gi_loopw [8] (λi wr=>∃(r:R)(D:fB),i=ay (r:Y)/\r<=y e/\(P=cz->r=0)/\cc (e.take r) D wr/\oV wr l bo 0 bt/\(∀k,(k=b\/k=c\/cN (am cb (y e) F)=M k)->¬D k)/\kZ (Ww l bo bt) n0 (λk=>k=b\/k=c\/cN (am cb (y e) F)=M k) a wr) (λi _=>y e-(intOf i).toNat)
 exact⟨0,ce,dM,bQ _,λ_=>rfl,HJ,HD,bc,HS⟩
 .obtain⟨r,D,rfl,hj,al,V,u,B,f⟩:=hrel;have A:=ak B;clear B;by_cases q:r<y e
  .have e1:(r:Y)<(y e:Y):=U;have e2:(0:Y)<=(r:Y):=U;have hg:=pX e r q;have ad:∃br i,cb=M (X br i)/\bA wr (X br<|i+r*2)=M (aw e[r].1)/\bA wr (X br<|i+r*2+1)=M (aw e[r].2):=by
    obtain⟨q1,⟨q2,q0⟩|⟨aD,S,an,q2,ap,hc⟩⟩:=ag HR
    .omega
    .cases q2;exact⟨aD,S,z,f.u (J<|bj<|bj z)<|hc _ _ hg.1,f.u (J<|bj<|bj z) (by rw[bJ];grind)⟩
   let⟨br,i,hx,bk,bl⟩:=ad;subst hx;have bL:bA wr (X c 0)=M (aJ l):=f.u (J<|bj<|J z) HB.u;have av:l<G (H wr):=az u;have bp:c<G (H wr):=au (az HB) f.1;have x:=ak (show(e.take r++[e[r]])<+:e/\e.take r++[e[r]]=e.take (r+1)by
    rw[<-aG q];grind)
   let⟨K,aU,bd,aV⟩:=jr V u f al;clear V u f hg al;generalize e[r]=pj at*;let⟨v,w⟩:=pj;simp only at bk bl;have HQ:=ak (show∀t,I (λk=>k=l) (dw wr<|aK #[aw v,aw w] 142) t->cc (e.take r) D t/\bA t (X (G<|H wr) 0)=M (aw v)/\bA t (X (G<|H wr) 1)=M (aw w)/\I (λk=>k=l) wr t fromλt g=>by
    have ap:I aC wr (dw wr (aK #[aw v,aw w] 142)):=(cI aC wr);have an:(dw wr (aK #[aw v,aw w] 142)).heap[G (H wr)]?=M (aK #[aw v,aw w] 142 (0,0)):=aQ _ z;have S:=(g.A _ (az an) U).trans an;refine⟨O _ _ _ _ _ (O _ _ _ _ _ K ap cY) g (λk j=>⟨λF=>?_,J j⟩),by rw[cE S];rfl,by rw[cE S];rfl,(ap.aT (T:=λk=>k=l) cY).aj g (λk j=>J j)⟩;have:=(N _ _ _ K k F).1;omega)
   have Q:oV (dw wr<|aK #[aw v,aw w] 142) l bo 0 bt:=(((I.bI aC wr).aE<|aK #[aw v,aw w] 142).A l av id).trans aU;have s:=LR Q;rw[ac]at s;clear Q;cases P with
   |true=>
    have h0:r=0:=aV z;have HZ:=ak h0;clear h0;gi_wp2_with(refine⟨trivial,(λF=>(by cases F)),?_⟩;gi_at_call 208;refine(ew.2 s).mono ?_;rintro cd t⟨rfl,p,g⟩;let⟨o,k0,k1,m⟩:=HQ t g;have E:=ak o;have S:=ak p;clear o p m g)
    refine⟨λ_ h=>(by cases h),?_⟩;gi_wp2;refine ci (jb z _ _ _) z ?_;refine⟨⟨_,z⟩,J ⟨D,?_,S⟩⟩;rw[<-ag L];have:=ag E;rwa[ag HZ]at this
   |false=>
    have an:e=bv:=ag L;have bm:(e.take r++[(v,w)])<+:bv:=x.1.trans (by rw[an];grind);clear an;gi_wp2_with(refine⟨trivial,(λF=>(by cases F)),?_⟩;gi_at_call 208;refine(ew.2 s).mono ?_;rintro cd t⟨rfl,p,g⟩;let⟨o,k0,k1,m⟩:=HQ t g;let⟨fn,bq,aD,body,hy,hR⟩:=HY (e.take r) (v,w) D t bm o p;unfold Um at hy;simp only at hy;have bb:=ak hR;have E:=ak o;have:=ak p;have bf:=ak m;clear o p m g hR)
    refine⟨(λF=>(by cases F)),bb.mono ?_⟩;rintro cd W3(⟨rfl,bh,B3,S,bi,bg⟩|⟨rfl,hx⟩)
    .have ba:=ak S;clear S;gi_wp2;go_roundw
     .have f:=ag bd;have m:=ag bf;have bn:=m.D;have ap:=f.1;refine⟨r+1,B3,dM,q,(λF=>(by cases F)),((ag x).2▸ba),bh,λk j bs=>?_,?_⟩
      .have:=(n k j).1;obtain bs|bs:=bg k bs
       .exact A k j bs
       .omega
      .refine f.aj<|(m.bM (aR ao ap) (λk j=>⟨bP<|(n k j).1,(n k j).2⟩)<|λk j _=>j).aj ?_;exact bi.bM (aR ao<|aR ap bn) (λk j=>⟨bP<|(n k j).1,A k j⟩)<|λk j a=>bP<|(N _ _ _ E k j).1
     .simp[intOf];omega
    .have HX:=ak hx;clear hx;gi_wp2;exact ci (jb z _ _ _) z ⟨⟨_,z⟩,bj ⟨_,HX⟩⟩
  .have:¬(r:Y)<(y e:Y):=U;have:r=y e:=U;clear f;gi_wp2;refine xV (jb z _ _ _) z ?_;refine⟨⟨_,z⟩,J ⟨⟨D,?_⟩,u⟩⟩;grind[ag,take_of_length_le]
structure Kv(w w':Z)(sb:R)(v:ae)(ps:kV)(bt bs:R):Prop where
 l:v=.func (.func 207) #[] #[aJ bt,aJ bs]
 bV:∃u,fE w' bt u 55/\uP w w' u ps
 D:fE w' bs (aJ sb) 36
 ge:G (H w)<=bt/\G (H w)<=bs
def A9(w:Z)(c:R)(q o:af)(P:kV->Z->Prop)(p:∀W,I aC w W->G (H w)<G (H W)->cR bN 206 #[aJ c,aw q,aw o] W λs d=>∃r,∃a:kV,s=aN r/\uP W d r a/\W.heap[G<|H w]?=d.heap[G<|H w]?/\P a d)(v:∀a W B,P a W->P a (dw W B)):cR bN 140 #[aJ c,aw q,aw o] w λs d=>∃A u t,∃a:kV,s=aN A/\Kv w d c A a u t/\P a d:=by
 have i:I aC w (dw w<|aK #[aJ c] 36):=(cI aC w);have j:=p _ i ar;have m:fE (dw w<|aK #[aJ c] 36) (G<|H w) (aJ c) 36:=aQ _ z;clear p i;go_in
 go_wp21;go_call j as s D⟨C,a,rfl,b,g,f⟩;let⟨x,c1,n⟩:=aM b;subst n;let⟨k,l,e⟩:=eU b f<|g.symm.trans m;clear b g f j;go_wp2;go_ret;refine⟨_,_,_,a,z,⟨z,⟨_,aQ _ z,?_⟩,?_,?_⟩,v _ _ _ l⟩;have:=ag k;unfold uP at this|-;exact fh (bC this<|aK #[am x (y a) c1] 55) ar;exact fE.aE e _;have:=az e;omega
end
section
open Shelf
attribute [local go_sem] Oper.semAt_some
def CA(b:Z)(e:R)(d:fB)(a:Y)(c:kV)(B:fB)(W:Z):Prop:=Acc d b [(G<|H b,ay a,3)] (G (H b)+1) 55 142 2 e (y c) (iR c) B W
def EH(w:Z)(f:R)(bt:SR)(bL:ae)(lo hi:af)(a:Y)(dv:kV->Z->Prop)(E:fB)(dx:0<a)(dc:f<G (H w))(hF:∀k,E k->k<G (H w))(hA:∀W,I aC w W->G (H W)=G (H w)+2->cR bN 140 #[aJ f,aw lo,aw hi] W λea w'=>∃ca bE bx,∃i:kV,ea=aN ca/\Kv W w' f ca i bE bx/\I E W w'/\dv i w')(ei:E f)(bi:∀i W,dv i W->oV W f bt 0 bL/\(bt.d=cz->i=[])/\y i<=40000000000)(bk:∀i W W',dv i W->I (λk=>k=f\/k=G (H w)\/k=G (H w)+1) W W'->oV W' f bt 0 bL->dv i W'):cR bN 87 #[aJ f,aw lo,aw hi,ay a] w λea w'=>∃v',∃i:kV,ea=aN v'/\uP w w' v' (i.take a.toNat)/\dv i w':=by
 let⟨i0,cM,dn,dr,ds⟩:=cZ zW;have e:I aC w (dw (dw w<|aK #[ay a] 3)<|aK #[aF] 55):=(cI aC w).aE _;have ab:fE (dw (dw w<|aK #[ay a] 3)<|aK #[aF] 55) (G<|H w) (ay a) 3:=fE.aE (aQ _ z) _;have ac:fE (dw (dw w<|aK #[ay a] 3)<|aK #[aF] 55) (G (H w)+1) aF 55:=aQ _ ar;have T:G (H<|dw (dw w<|aK #[ay a] 3)<|aK #[aF] 55)=G (H w)+2:=ar;have bm:=hA _ e T;have e0:¬a<=0:=U;let⟨HX,ch,bc,HF⟩:=jr (And.intro e (And.intro ab (And.intro ac T))) bi bk hF;clear e ab ac T hA bi bk hF;refine(ew (n:=3)).1 ?_;refine callsIn_of_wp_marks func87 z trivial ?_ z;simp only[ntmps87,gm,bK,eE,jZ,Nat.reduceSub,fc,fa,gp,fG,ep,dt];gi_wp2_with(refine⟨trivial,?_⟩;gi_at_call 140;refine(ew.2 bm).mono ?_;rintro ea p⟨v9,bE,bx,i,rfl,cB,t,bh⟩;let⟨dk,⟨u9,bo,O⟩,bn,bp⟩:=cB;subst dk;have bb:=ak bo;have cc:=ak O;have ba:=ak bn;have cd:=ak bp;have ck:=ak t;have ax:=ak bh;clear bo O bn bp t bh bm)
 let⟨cx,ab,ac,T⟩:=ag HX;let⟨bT,A⟩:∃bT,i.take a.toNat=bT:=⟨_,rfl⟩;let⟨cs,ek,dd⟩:=ch _ _ ax;have cT:(if bt.d=cz then []else i)=i:=by grind
 have t:=ag ck;have hF:=ag HF;have eq:=t.D;let⟨em,el⟩:=ag cd;have ej:fE p (G<|H w) (ay a) 3:=(t.A _ (az ab)<|λg=>bP<|hF _ g).trans ab;have cn:CA w (G<|H p) E a [] (λk=>k=G (H w)\/k=G (H w)+1) p:=by refine⟨λer hp=>?_,⟨aF,((t.A _ (az ac)<|λg=>bP<|hF _ g).trans ac:fE p (G (H w)+1) aF 55),ct _ _ _ _,λk=>?_⟩,λer hp=>?_,⟨U,U⟩,((cx.aT (T:=E) cY).aj t (λ_ g=>J g):I E w p)⟩;rw[bY]at hp;rwa[hp];simp[cN];omega;grind
 have O:=ag cc;have bq:∀k,cN u9=M k->G (H w)+2<=k/\k<G (H p):=λk c=>by have:=O.lt k c;rwa[T]at this
 have P:=Kr (G<|H w) 2 f bt bL i bb ba (dQ O) U U (λk c=>⟨(bq k c).2,bP<|(bq k c).1⟩) dc U dd;rw[cT]at P;refine Eu (m:=3) (V:=Ww f bt bL) (n0:=G<|H w) (gf:=207) (lb:=#[aJ bE,aJ bx]) (l:=i) (S:=λk=>k=bE\/k=bx\/cN u9=M k) ?geval (enters_of func207 aH z) (λ_=>rfl) P cs U ?slt (λb av W=>CA w (G<|H p) E a b av W/\I (λk=>k=f\/k=G (H w)\/k=G (H w)+1) p W/\(y b:Y)<a) (λg _ av W=>g=.exit 0/\CA w (G<|H p) E a bT av W/\I (λk=>k=f\/k=G (H w)\/k=G (H w)+1) p W/\oV W f bt 0 bL) (λk=>k=G (H w)\/k=G (H w)+1) ⟨cn,I.bI _ _,aI⟩ ?sb ?lt ?st ?xst ?body ?done ?stop;rfl;rintro k(g|g|g);rw[g];exact az bb;rw[g];exact az ba;grind
 grind
 rintro b av W⟨h,_⟩k c;exact h.lt k c;rintro b av W W' ec⟨h,s,v⟩ht hT;refine⟨h.gQ ht<|λk c=>⟨(hT k c).1,?_⟩,s.aj ht<|λk c=>?_,v⟩;(obtain g|g:=(hT k c).2;left;rwa[show k=f from g];grind);obtain g|g:=(hT k c).2;exact J<|J g;exact bj g;rintro g b av W W' ec⟨v,x,B,s⟩ht hT;exact⟨v,x.gQ ht<|λk c=>⟨(hT k c).1,bj<|bP<|(hT k c).2⟩,B.aj ht<|λk c=>bj (hT k c).2.1,(ht.A f (az s)<|λg=>bP<|(hT _ g).2).trans s⟩
 .rintro lr b es av W en cm dT ap⟨N,j,db⟩r;let⟨xk,xv⟩:=es;have:y b+1<=40000000000:=by
   have:=ap.length_le;grind
  unfold Um;simp only;gi_wp2;refine⟨I.bI _ _,λW2 e=>?_⟩;have ad:CA w (G<|H p) E a b av W2:=N.gQ e<|λk c=>aI;let⟨ca,hv,d,o⟩:=ad.bV;have cv:bA W2 (X (G (H w)+1) 0)=M ca:=hv.u;have:iH W2 (X (G (H w)+1) 0)=bD:=hv.bS;have:G (H w)+1<G (H W2):=az hv;let⟨L,K,aa⟩:=aM d;have:G (H p)<=G (H W2):=gV j.D e.D;let⟨bd,cb,HV,q,D,cj⟩:=nT (ad.l (G<|H w,ay a,3) ar) ad hv d o e;clear ad hv d o e;subst aa;by_cases hq:(y b:Y)+1=a;case' pos=>have eo:((y b:Y)+1==a)=cz:=dV hq
  case' neg=>have:((y b:Y)+1==a)=bD:=dV hq
  all_goals
   gi_wp2_with(first
    |(gi_at_builtin;refine gl _ z (.tmp 21) (.tmp 25) 55 z (G (H p)) 142 i0 (.agg #[.string ⟨#[]⟩,.string ⟨#[]⟩]) 2 32 underlying55 cM dn dr ds z cg (.slice L (y b) K) (y b) (iR b) z (bC q (.cells #[.string xk,.string xv] 142)) (X (G (H W2)) 0) 1 1 (rZ (xk,xv)) z z (Sy _ (xk,xv) _) (X9 _) U U dW ?_;intro v2 w3 s C;obtain⟨x,v,rfl⟩:=aM s;have Q:∀ed,ed<=G (H w)+1->¬cN (Value.slice L (y b) K)=M ed:=(λed hb g=>bP ((q.lt _ g).1));have B:fE w3 (G (H w)+1) (.slice L (y b) K) 55:=(C.dF.block _ (az (HV.aE (.cells #[.string xk,.string xv] 142))) (λg=>Q _ (aq _) g.symm)).trans (HV.aE _);have an:fE w3 (G (H w)) (.int .i64 a) 3:=(C.dF.block _ (az (bd.aE (.cells #[.string xk,.string xv] 142))) (λg=>Q _ U g.symm)).trans (bd.aE _);have:=B.u;have:=B.bS;have:=an.u;have:=az B;clear B an Q;have ce:=ak s;have cl:=ak C;clear s C))
   have d:=ag q;have bs:=ag cl;have cu:cN (am x (y b+1) v)=cN (am L (y b) K)\/∃eb,cN (am x (y b+1) v)=M eb/\G (H W2)<=eb:=by
    obtain eg|⟨eb,eg,hg⟩:=bs.f
    .exact J eg
    .exact bj ⟨eb,eg,by simp at hg;omega⟩
   let⟨B',q1,q2,q3⟩:=cb.jj HV D d (((I.bI (λk=>cN (am L (y b) K)=M k) W2).aE<|aK #[aw xk,aw xv] 142).aj (I.eF (S:=λk=>cN (am L (y b) K)=M k) bs.dF<|λk c=>J c) (λk c=>J c):I (λk=>cN (am L (y b) K)=M k) W2 w3) cu ce;have co:CA w (G<|H p) E a (b++[(xk,xv)]) B' (cP w3 (X (G (H w)+1) 0)<|am x (y b+1) v):=by
    unfold CA;rwa[Hl,ai]
   have e:=ag cj;have al:I (λk=>av k\/k=lr) W (cP w3 (X (G (H w)+1) 0)<|am x (y b+1) v):=(e.aT (T:=λk=>av k\/k=lr)<|λk c=>J<|bj c).aj q2<|λk c=>J<|J c;have:∀k,av k->k=G (H w)\/k=G (H w)+1\/G (H p)<=k:=λk c=>by
    obtain⟨er,hp,g⟩|g|g:=(D k).1 c
    .rw[bY]at hp;rw[hp]at g;grind
    .exact bj<|J g
    .exact bj<|bj (d.lt k g).1
   have bl:I (λk=>k=f\/k=G (H w)\/k=G (H w)+1) p (cP w3 (X (G (H w)+1) 0)<|am x (y b+1) v):=j.aj al (λk c=>by
    grind)
   have br:∀k,(av k\/k=lr)->k≠f:=λk c g=>by
    grind
   have bg:oV (cP w3 (X (G (H w)+1) 0)<|am x (y b+1) v) f bt 0 bL:=(Ww f bt bL).l r al br;have ao:(cP w3 (X (G (H w)+1) 0)<|am x (y b+1) v).heap[lr]?=W2.heap[lr]?:=q2.A lr (bP e.D) cm;have bf:∀k,B' k->av k\/G (H W)<=k:=λk c=>(q3 k c).imp_right<|λg=>bP e.D
  .exact⟨bg,B',⟨co,bl,by simp;omega⟩,al,ao,bf⟩
  .refine⟨B',⟨z,?_,bl,bg⟩,al,ao,bf⟩;have cr:bT=b++[(xk,xv)]:=by
    let⟨et,hr⟩:=ap;rw[<-A,<-hr,jQ dW,fA dW]
   rwa[cr]
 (.rintro bv av W cp⟨N,j,db⟩aU r hK;have N:CA w (G<|H p) E a bT av W:=(by rw[<-A];grind[take_of_length_le]:bT=i)▸N;let⟨ca,hv,d,o⟩:=N.bV;have cv:bA W (X (G (H w)+1) 0)=M ca:=hv.u;obtain⟨L,K,aa⟩:=aM d;let⟨HC,q,D,F,HK,aD⟩:=nT N d o r hK j;clear N hv d o r hK j;subst aa;gi_wp2;have s:¬cN (am L (y bT) K)=M bv:=λg=>aU<|((ag D) _).2<|bj<|bj g;have u:=iB W bv<|.deferred dE;have aV:bv≠f:=U;refine⟨ar,J ⟨_,_,z,run_takeDeferred HK,?_⟩⟩;refine⟨_,gG z _ _ _,_,i,z,A.symm▸?_,bc _ _ _ ax (aD.aj u<|λk c=>aI) ((u.A f (az F)<|λg=>aV g.symm).trans F:oV (W.putObj bv<|.deferred dE) f bt 0 bL)⟩;exact fh (u.aZ (ag q)<|λk c g=>sM) U);(case stop=>rintro bv g b av W cp⟨rfl,N,j,r⟩aU hK;obtain⟨ca,hv,d,o⟩:=N.bV;have:bA W (X (G (H w)+1) 0)=M ca:=hv.u;obtain⟨L,K,aa⟩:=aM d;let⟨HC,q,D,F,HK,aD⟩:=nT N d o r hK j;clear N hv d o r hK j;subst aa;gi_wp2;have:¬cN (am L (y bT) K)=M bv:=λg=>aU<|((ag D) _).2<|bj<|bj g;have u:=iB W bv<|.deferred dE;have aV:bv≠f:=U;refine⟨ar,J ⟨_,_,z,run_takeDeferred HK,?_⟩⟩;refine⟨_,gG z _ _ _,_,i,z,A.symm▸?_,bc _ _ _ ax (aD.aj u<|λk c=>aI) ((u.A f (az F)<|λg=>aV g.symm).trans F:oV (W.putObj bv<|.deferred dE) f bt 0 bL)⟩;exact fh (u.aZ (ag q)<|λk c g=>sM) U)
end
def lZ.kj:lZ []:=⟨ar,gF.kj,ar⟩
def Yx{t:cH}(h:qE a b N W t):Qw a t:=by
 let⟨f,d,c,e,_⟩:=h.D;exact⟨_,_,_,_,_,_,_,_,_,e⟩
def YI{t:cH}(h:B9 a b t):Qw a t:=by
 let⟨e,c,x,d,h⟩:=h;exact⟨_,_,_,_,_,_,_,_,_,h.D⟩
def Ep.D(h:Ep N a f c k d l)(g:y l<=20000000000):jX a d l:=⟨h.bV,λj e=>(h.l j e).lt,λt i=>Yx<|h.bZ t i,g⟩
def Hi(w:Z):jX w aF []:=⟨⟨rfl,J ⟨rfl,rfl⟩⟩,λk a=>(by cases a),ar,ar⟩
def LS.L2{O P T:ae}{V p:dI}(h:LS a b c k f l [] n d w O P v C F V)(A:I (f.j b) a e)(L:(nW b f).D e)(s:sD e (G<|H a) p)(q:p.map cH.dq=jp i)(t:gF i)(j:sk 5 i)(r:∀aa∈i,aa.Good)(x:fD e (G<|H a) 235 1 T (y p) (p.map cH.D))(W:y i<=n):∃u,LS e b c k f l u n aF aF aF T [] [] [] p:=by
 have h':=h.aA A L;let⟨u,q0,B,D,E,q4,N⟩:=h.JG A s q t j r;rw[ep]at B D E;have m:=pP q;have g:Row e 1 aF (y ([]:dI)) (([]:dI).map cH.D):=⟨z,J ⟨z,z⟩⟩;refine⟨u,{h' with S:=B,fp:=D,r0:=g,r1:=g,r2:=g,r3:=dQ x,b0:=λQ o=>(by cases o),b1:=λQ o=>(by cases o),b2:=λQ o=>(by cases o),b3:=yr x h.j h.B h.le,x0:=ar,x1:=ar,x2:=ar,x3:=E,kg:=dV N,s1:=lZ.kj,s2:=lZ.kj,s3:=AG q s.bZ t j r,FX:=?_}⟩;have K:=FG<|λg e=>(uK q s.bZ t j r g e).1;rw[m]at K;have:ik ([]:dI)=0:=rfl;omega
section
open Conc.Locks
def Lu{P:Program}{r:Oper}{g:Act}{K:Act->Z->Prop}{Q:Exit->Act->Z->Prop}(i A j:Operand)(x:TypeId)(f:r.op=Op.mapUpdate x i A j)(v B:TypeId)(o:P.underlying x=M (.map v B))(m:P.underlying v=M (.int .i64))(k:R)(w:gZ)(n:g.eval i=.map (M k))(h:kO a k w)(b:Y)(c:ae)(q:g.eval A=ay b)(p:g.eval j=c)(l:∀d,kO d k (w.gK b c)->a.grownBy d (M k)->G (H d)=G (H a)->K (g.put r.dst jm) d):Oper.wp P r g a K Q:=by
 let⟨d,e,s,t,u⟩:=NE o m h b c;unfold Oper.wp;simp[execOp,f,n,q,p,e,Result.andThen];exact l d s t u
def Z8:ue 2=.iface 47 (ay 2):=rfl
def IG(t:gI)(h:cU a b o 0)(x:sC (vw f.ah) a b o f i l v C F c)(s:MP a f b o t)(O:o.d=bD)(h4:4<=y t):cR bN 40 #[aJ b] a λL u=>L=aN (de #[ay 0,ue 2])/\Ar a u b o f i l v C F c:=by
 have D:=az h;have V:=cU.bW h 0 z;have f0:iH a (X b 0)=bD:=h.bS;have e:=lP x.f x.l 1;have w:=h.jg 1;generalize N:cP a (X b 0) (iC 1)=k at e w;let⟨mb,Q,K,q3⟩:=(s.eQ e).ex;have d:=mX w;rw[O]at d;have q:cR bN 49 #[aJ b] k λL u=>L=aN ib/\gC (G<|H k) k u:=d;let⟨T,S,A⟩:=eU (λj(m:gC (G<|H k) k j)=>And.intro (tN (j4:=True) (W2:=j) w x D e m) (K.dU<|m.block _ K.lt)) N Q;clear h x e w O N s Q K q3 d;rw[Z8];go_enter_defers func40,ntmps40
 go_wp21;go_call mZ (X b 0) _ V f0 as L u⟨rfl,E⟩;rw[ag S]at E;subst u;go_wp21;go_call q as L j⟨rfl,m⟩;let⟨⟨n,r,g⟩,p⟩:=T j m;have:bA j (X b 16)=M (.map<|M mb):=ag A▸n.u z;have B:=NG (P:=bN) underlying94 p 3;have hl:y (Dm t)=y t:=by simp[Dm]
 rw[hl]at B;have:decide ((4:Y)<=(y t:Y))=cz:=uU U;let⟨W,g0,hF,_⟩:=g j r.GR<|I.bI _ _;clear n r g m p q h4;go_wp2;exact fC W g0 ⟨_,jw z _ _ _,z,hF.xC⟩
end
section
open Shelf
attribute [local go_sem] Oper.semAt_some
def Ji(n:Y)(c:jO a):cR bN 11 #[ue n] a λe b=>e=aN (ay n)/\gC (G<|H a) a b:=by
 unfold ue;grind[ow,QU]
def N6(w:Z)(c:Na):Ce (dw w<|aK #[aw c.D,aw c.l,aO c.dP] 66) (bX (G<|H w) 0 1 1) [c]:=by
 refine⟨z,bj ⟨G<|H w,0,1,z,aq _,λj u a=>?_⟩⟩;rw[cE (aQ _ rfl:(dw w<|aK #[aw c.D,aw c.l,aO c.dP] 66).heap[G<|H w]?=M (aK #[aw c.D,aw c.l,aO c.dP] 66 (0,0))),ez];simpa[gL,oH]using a
def LA(a:Z)(c:R)(b:kV)(B:fB)(W:Z):Prop:=Acc (λk=>k=c) a [] (G<|H a) 55 142 2 (G (H a)+1) (y b) (iR b) B W
def Vs(ad:Z)(e:R)(lo hi F K:af)(E:eN)(eg:kV->Z->Prop)(cr:kV->SR->ae->ae->Z->Prop)(F0:fB)(em:e<G (H ad))(hF:∀k,F0 k->k<G (H ad))(hA:∀W,I aC ad W->G (H W)=G (H ad)+1->cR bN 140 #[aJ e,aw lo,aw hi] W λbb q=>∃eb bt bs,∃f:kV,bb=aN eb/\Kv W q e eb f bt bs/\I F0 W q/\eg f q)(hW:∀f s W ck,eg f s->I aC s W->Ce W (bX ck 0 1 1) [⟨F,K,E⟩]->ck<G (H W)->ck≠e->cR bN 15 #[aJ e,bX ck 0 1 1,aO bD] W λbb q=>∃l g i,bb=aN l/\oV q e g 0 i/\I F0 W q/\cr f g i l q)(hQ:∀f g i l W O,cr f g i l W->I (λk=>k=e) W O->oV O e g 0 i->cr f g i l O)(hE:∀f g i l W,cr f g i l W->∃ea,∀O,I aC W O->cR bN 11 #[l] O λbb q=>bb=aN (ay ea)/\gC (G<|H O) O q)(cc:∀f W,eg f W->y f<=40000000000):cR bN 139 #[aJ e,aw lo,aw hi,ef #[aw F,aw K,aO E]] ad λbb q=>∃v' g i l ea,∃f bc:kV,bb=aN (de #[v',ay ea])/\uP ad q v' bc/\y bc<=40000000000/\cr f g i l q:=by
 let⟨i0,db,ds,dv,dx⟩:=cZ zW;have T:I aC ad (dw ad<|aK #[aw F,aw K,aO E] 66):=(cI aC ad);have ba:(dw ad<|aK #[aw F,aw K,aO E] 66).heap[G<|H ad]?=M (aK #[aw F,aw K,aO E] 66 (0,0)):=aQ _ z;have v:G (H<|dw ad<|aK #[aw F,aw K,aO E] 66)=G (H ad)+1:=ar;have bv:=hA _ T v;let⟨cp,HX,HW,HQ,HE,HF⟩:=nT cc (And.intro T (And.intro ba v)) hW hQ hE hF;clear T ba v hA hW hQ hE cc hF;refine(ew (n:=3)).1 ?_;refine callsIn_of_wp_marks func139 z trivial ?_ z;simp only[ntmps139,gm,bK,eE,jZ,Nat.reduceSub,fc,fa,gp,fG,ep,dt];gi_wp2_with(refine⟨trivial,?_⟩;gi_at_call 140;refine(ew.2 bv).mono ?_;rintro bb p⟨v2,bt,bs,f,rfl,cT,c,bp⟩;let⟨dr,⟨u2,ca,t⟩,bL,cd⟩:=cT;subst dr;have aa:=(c.A _ (az HX.2.1)<|λD=>bP<|HF _ D).trans HX.2.1;have k0:bA p (X (G<|H ad) 0)=M (aw F):=(by rw[cE aa];rfl);have k1:bA p (X (G<|H ad) 1)=M (aw K):=(by rw[cE aa];rfl);have k2:bA p (X (G<|H ad) 2)=M (aO E):=(by rw[cE aa];rfl);have bg:=ak ca;have cn:=ak t;have bf:=ak bL;have co:=ak cd;have bk:=ak c;have bh:=ak bp;clear ca t bL cd c bp bv aa)
 gi_wp2_with(refine⟨trivial,?_⟩;gi_at_call 15;refine(ew.2<|HW f p (dw p<|aK #[aw F,aw K,aO E] 66) (G<|H p) bh (cI aC p) (N6 p ⟨F,K,E⟩) ar<|gV bk.D HX.2.2).mono ?_;rintro bb d⟨l,g,i,rfl,bx,ch,bq⟩;have bd:=ak bx;have bm:=ak ch;have bi:=ak bq;clear bx ch bq k0 k1 k2)
 let⟨T,ba,v⟩:=ag HX;have c:=ag bk;have el:=c.D;have dk:=bm.D;simp at dk;let⟨ej,ei⟩:=ag co;have an:bt<G (H p)/\bs<G (H p):=⟨az bg,az bf⟩;have aU:∀k,G (H ad)<=k->¬F0 k:=λk b D=>bP<|(ag HF) k D;have t:=ag cn;have aD:∀k,cN u2=M k->G (H ad)+1<=k/\k<G (H p):=λk b=>by have:=t.lt k b;rwa[v]at this
 let⟨C,Q⟩:∃C,dw d (aK #[aF] 55)=C:=⟨_,rfl⟩;have x:I aC d C:=Q▸(cI aC d);have cM:fE C (G<|H d) aF 55:=Q▸aQ _ z;have:G (H C)=G (H d)+1:=by rw[<-Q];simp
 have w:I F0 p C:=(((I.bI F0 p).aE<|aK #[aw F,aw K,aO E] 66).aj bm (λ_ D=>J D):I F0 p d).t x;have cb:fE C bt u2 55:=(w.A _ an.1<|aU _ U).trans bg;have bT:fE C bs (aJ e) 36:=(w.A _ an.2<|aU _ U).trans bf;have dd:=dQ<|w.aZ t<|λk b D=>aU k (bP<|(aD k b).1) D;have cB:oV C e g 0 i:=(x.A e (az bd) id).trans bd;have cu:LA d e [] (λk=>k=G (H d)) C:=by refine⟨λp a=>by simp at a,⟨aF,cM,ct _ _ _ _,λk=>by simp[cN]⟩,λp a=>by simp at a,⟨aq _,U⟩,x.aT cY⟩
 have ce:=cp _ _ bh;have u:=Kr (G<|H d) 2 e g i f cb bT dd U U (λk b=>⟨bP<|(aD k b).2,bP<|(aD k b).1⟩) U U ce;let⟨bc,hl⟩:∃bc,(if g.d=cz then []else f)=bc:=⟨_,rfl⟩;have dc:y bc<=40000000000:=by rw[<-hl];split;exact bQ _;exact ce
 rw[hl]at u;rw[Q];refine Eu (m:=3) (V:=Ww e g i) (n0:=G<|H d) (gf:=207) (lb:=#[aJ bt,aJ bs]) (l:=bc) (S:=λk=>k=bt\/k=bs\/cN u2=M k) ?geval (enters_of func207 aH z) (λ_=>rfl) u cB U ?slt (LA d e) (λ_ _ _ _=>False) (λk=>k=G (H d)) cu ?sb ?lt ?st (λ_ _ _ _ _ _ h=>h.elim) ?body ?done ?stop;rfl;grind
 grind
 exactλa cl W h k b=>h.lt k b;intro a cl W O en h o n;refine h.gQ o<|λk b=>⟨(n k b).1,?_⟩;obtain D|D:=(n k b).2;exact J D;grind
 (case stop=>grind)
 .intro lr a eo cl W ek cs ec ao hC P;let⟨xk,xv⟩:=eo;have:y a+1<=40000000000:=by
   have:=ao.length_le;grind
  clear ao;unfold Um;simp only;gi_wp2;refine⟨I.bI _ _,λs c=>?_⟩;have av:LA d e a cl s:=hC.gQ c<|λk b=>aI;let⟨eb,hv,j,A⟩:=av.bV;have ax:bA s (X (G<|H d) 0)=M eb:=hv.u;have:iH s (X (G<|H d) 0)=bD:=hv.bS;have al:G (H d)<G (H s):=az hv;obtain⟨N,L,aV⟩:=aM j;let⟨bE,HV,r,ap⟩:=jr av hv j A;have bl:=ak c;clear av hv j A c;subst aV;gi_wp2_with(first
   |(gi_at_builtin;refine gl _ z (.tmp 26) (.tmp 30) 55 z (G (H d)+1) 142 i0 (.agg #[.string ⟨#[]⟩,.string ⟨#[]⟩]) 2 32 underlying55 db ds dv dx z cg (.slice N (y a) L) (y a) (iR a) z (bC r (.cells #[.string xk,.string xv] 142)) (X (G (H s)) 0) 1 1 (rZ (xk,xv)) z z (Sy _ (xk,xv) _) (X9 _) U U dW ?_;intro v2 w3 n B;obtain⟨ac,ab,rfl⟩:=aM n;have o:fE w3 (G (H d)) (.slice N (y a) L) 55:=(B.dF.block _ (az (HV.aE (.cells #[.string xk,.string xv] 142))) (λD=>bP ((r.lt _ D.symm).1))).trans (HV.aE _);have:=o.u;have:=o.bS;have:=az o;clear o;have cj:=ak n;have cm:=ak B;clear n B))
  have j:=ag r;have br:=ag cm;have dn:I (λk=>cN (am N (y a) L)=M k) s w3:=((I.bI (λk=>cN (am N (y a) L)=M k) s).aE<|aK #[aw xk,aw xv] 142).aj (I.eF (S:=λk=>cN (am N (y a) L)=M k) br.dF<|λk b=>J b)<|λk b=>J b;have cx:cN (am ac (y a+1) ab)=cN (am N (y a) L)\/∃ed,cN (am ac (y a+1) ab)=M ed/\G (H s)<=ed:=by
   obtain dT|⟨ed,dT,hg⟩:=br.f
   .exact J dT
   .exact bj ⟨ed,dT,by simp at hg;omega⟩
  let⟨B',q1,q2,q3⟩:=bE.jj HV ap j dn cx cj;have cv:LA d e (a++[(xk,xv)]) B' (cP w3 (X (G<|H d) 0)<|am ac (y a+1) ab):=by
   unfold LA;rwa[Hl,ai]
  have c:=ag bl;have bn:I (λk=>cl k\/k=lr) W (cP w3 (X (G<|H d) 0)<|am ac (y a+1) ab):=(c.aT (T:=λk=>cl k\/k=lr)<|λk b=>J<|bj b).aj q2<|λk b=>J<|J b;have bo:∀k,(cl k\/k=lr)->k≠e:=λk b D=>by
   obtain dT|dT:=b
   .have:=(hC.lt k dT).1;omega
   .omega
  exact⟨(Ww e g i).l P bn bo,B',cv,bn,q2.A lr (bP c.D) cs,λk b=>(q3 k b).imp_right<|λD=>bP c.D⟩
 (case done=>intro cm cl W dn hC cs P hK;obtain⟨eb,hv,j,A⟩:=hC.bV;have ax:bA W (X (G<|H d) 0)=M eb:=hv.u;have al:=az hv;obtain⟨N,L,aV⟩:=aM j;let⟨HC,r,ap,B,HK⟩:=nZ hC j A P hK;clear hC hv j A P hK;subst aV;have cx:cr f g i l W:=HQ f g i l d W bi HC.aA B;let⟨ea,ao⟩:=HE f g i l W cx;have cj:=ao W.drew<|cf aC W;have br:bA W.drew (X (G<|H d) 0)=M (am N (y bc) L):=ax;clear ao;(gi_wp2_with fail);rename_i QQ KK bo;refine wpIn_mono (Q:=Exit.then KK (λ_ _ _=>False)) ?_ (by intro bb a1 W1 hh;cases bb<;>first|exact hh|exact hh.elim);refine Dt (λj4=>bA j4 (X (G<|H d) 0)=M (am N (y bc) L)) 4 aH aH (λdT ad h=>h) ?_;refine dH 0 ?_;(iterate 2 (refine fW br ?_;simp only[ig,eh,jZ]));apply eS;refine aW 2 ?_;intro K2 av;go_simp;go_call cj as bb w5⟨rfl,bE⟩;have n:I aC W w5:=(cf aC W).t<|I.p (S:=aC) bE;have ab:=n.u ax id al;apply av _ _<|λ_=>ab;(try simp only[ig,eh]);refine aW 3 ?_;intro K3 bl;go_simp;apply bl _ _<|λ_=>ab;(try simp only[ig,eh]);refine aW 4 ?_;intro K4 bn;go_simp;apply bn _ _ wW;refine dG aH ?_ _;show KK _ _;apply bo;have o:oV w5 e g 0 i:=(n.A e (az B) id).trans B;clear bo av bl bn ab br cj bE;gi_wp2;have:¬cN (am N (y bc) L)=M cm:=λD=>cs<|((ag ap) _).2<|bj<|bj D;have ac:=iB w5 cm<|.deferred dE;have cv:cm≠e:=U;refine⟨ar,J ⟨_,_,z,run_takeDeferred ((n.A cm (az HK) id).trans HK:w5.heap[cm]?=M (.deferred<|M [])),?_⟩⟩;refine⟨_,jw z _ _ _,_,g,i,l,ea,f,bc,z,?_,dc,HQ f g i l d _ bi ((HC.aA.t n).aj ac (λk b=>aI):I (λk=>k=e) d (w5.putObj cm<|.deferred dE)) ((ac.A e (az o)<|λD=>cv D.symm).trans o:oV (w5.putObj cm<|.deferred dE) e g 0 i)⟩;exact fh (ac.aZ (n.aZ r<|λ_ _ D=>D)<|λk b D=>sM) U)
end
section
open Conc.Locks
def Wm(h:ny L):1<=(io L).size/\(io L).size<=8:=by
 rw[AR<|au Nat.zero_lt_one h.ne];exact⟨(h.l _<|aB _).f1,(h.l _<|aB _).f8⟩
def Zd(h:ny L):(iQ L).size<=8:=by
 rw[CN<|au Nat.zero_lt_one h.ne];exact(h.l _<|aB _).l8
def qE.t{t:cH}(h:qE a b N W t):zcr a t:=by
 let⟨f,d,c,g,_⟩:=h.D;have e:=h.jV;have:=Wm e;have:=Zd e;have:=e.MY;exact⟨⟨h.cK,_,_,_,_,f,d,c,_,g⟩,U,U,U⟩
def Cd.gq{b k i:R}{u:ae}{f:cy (ae×dI)}(h:Cd e b f Q)(l:k<b):Cd (cP e (X k i) u) b f Q:=λo x j=>by
 let⟨p,n,m⟩:=h o x j;grind[kY]
def Cd.pO{d base':R}{c:cy (ae×dI)}(h:Cd a d c Q)(f:base'<=d):Cd a base' c Q:=λj x e=>by
 let⟨p,i,g⟩:=h j x e;grind[fh]
def lvs(s:SR)(a b c d:dI):cy (ae×dI):=[(s.l0,a),(s.l1,b),(s.l2,c),(s.l3,d)]
def P6(w b:Z)(c:cy (ae×dI))(v:ae):Prop:=∃a,fD b (G<|H w) 118 1 v 4 a/\y a=4/\Cd b (G<|H w) c a
def Rq(h:cU a b o 0)(E:sC (vw f.ah) a b o f i l v C F c)(S:o.d=bD):cR bN 33 #[aJ b] a λQ q=>∃W,Q=aN (de #[W,ib])/\P6 a q (lvs o l v C F) W/\Ar a q b o f i l v C F c:=by
 have k:=az h;have c0:=cU.bW h 0 z;have f0:iH a (X b 0)=bD:=h.bS;have j:=lP E.f E.l 1;have D:=h.jg 1;have B:G (H a)<=G (H<|cP a (X b 0)<|iC 1):=ar;generalize hW:cP a (X b 0) (iC 1)=r at j D B;have m:=mX D;rw[S]at m;have g:cR bN 49 #[aJ b] r λQ q=>Q=aN ib/\gC (G<|H r) r q:=m;have HX:=ak<|λp(t:gC (G<|H r) r p)=>tN (j4:=True) (W2:=p) D E k j t;clear h E j D S m;go_enter_defers func33,ntmps33
 go_wp21;go_call mZ (X b 0) _ c0 f0 as Q q⟨rfl,O⟩;rw[hW]at O;subst q;go_wp21;go_call g as Q p⟨rfl,t⟩;let⟨u,d,w⟩:=HX p t
 have x:=ON _ (d.lvm u) (λp T V K=>by
  simp only[dy,lf,uR]at T;obtain rfl|rfl|rfl|rfl:=T
  .exact(d.l0.bZ V K).t
  .exact(d.l1.bZ V K).t
  .exact(d.l2.bZ V K).t
  .exact(d.l3.bZ V K).t) d.t.x d.t.n.lt
 have e:G (H a)<=G (H p):=aR B t.size;clear u t g;go_wp21;go_call x as Q P⟨W,us,rfl,L,N,A,n⟩;have s:(nW o.f f).D P:=(nW o.f f).l d.GR n cY;let⟨d0,g0,hF,_⟩:=w P s<|n.aT cY;have hP:P6 a (cP P (X b 0)<|iC 0) (lvs o l v C F) W:=⟨us,fh (kY L<|au k e) e,N,(A.gq<|au k e).pO e⟩;obtain⟨aa,g9,hv⟩:=aM L;clear s n x L A;subst hv;go_wp2;exact fC d0 g0 ⟨_,jw z _ _ _,_,z,hP,hF.xC⟩
end
section
open Shelf
def LN:Go.Shelf.Ren:=⟨λ|14=>239|16=>274|17=>275|19=>294|20=>295|21=>296|22=>297|23=>298|24=>299|25=>161|27=>308|26=>307|28=>310|29=>311|30=>243|31=>244|32=>245|33=>246|35=>173|34=>277|36=>278|37=>279|38=>280|39=>300|40=>301|n=>n,λ|9=>9|3=>3|22=>104|24=>44|25=>205|4=>4|34=>427|5=>5|36=>68|37=>31|0=>0|39=>429|21=>21|44=>436|47=>369|50=>442|48=>440|2=>2|52=>385|55=>387|59=>418|60=>97|20=>20|61=>419|65=>437|66=>438|67=>249|n=>n,λ|0=>3|1=>4|2=>2|3=>5|4=>6|n=>n⟩
def CL:Go.Proofs.LaysPu.n14 bN LN:={mixed:=by kernel_rfl,f14:=func239.trans (cD M<|by kernel_rfl),f16:=func274.trans (cD M<|by kernel_rfl),f17:=func275.trans (cD M<|by kernel_rfl),f19:=func294.trans (cD M<|by kernel_rfl),f20:=func295.trans (cD M<|by kernel_rfl),f21:=func296.trans (cD M<|by kernel_rfl),f22:=func297.trans (cD M<|by kernel_rfl),f23:=func298.trans (cD M<|by kernel_rfl),f24:=func299.trans (cD M<|by kernel_rfl),f25:=func161.trans (cD M<|by kernel_rfl),f26:=func307.trans (cD M<|by kernel_rfl),f27:=func308.trans (cD M<|by kernel_rfl),f28:=func310.trans (cD M<|by kernel_rfl),f29:=func311.trans (cD M<|by kernel_rfl),f30:=func243.trans (cD M<|by kernel_rfl),f31:=func244.trans (cD M<|by kernel_rfl),f32:=func245.trans (cD M<|by kernel_rfl),f33:=func246.trans (cD M<|by kernel_rfl),f34:=func277.trans (cD M<|by kernel_rfl),f35:=func173.trans (cD M<|by kernel_rfl),f36:=func278.trans (cD M<|by kernel_rfl),f37:=func279.trans (cD M<|by kernel_rfl),f38:=func280.trans (cD M<|by kernel_rfl),f39:=func300.trans (cD M<|by kernel_rfl),f40:=func301.trans (cD M<|by kernel_rfl),t0:=underlying0,a0:=isAgg0,z0:=sizeOf0,v0:=zeroValue0,i0:=by kernel_rfl,t2:=underlying2,a2:=isAgg2,z2:=sizeOf2,v2:=zeroValue2,i2:=by kernel_rfl,t3:=underlying3,a3:=isAgg3,z3:=sizeOf3,v3:=zeroValue3,i3:=by kernel_rfl,t4:=underlying4,a4:=isAgg4,z4:=sizeOf4,v4:=zeroValue4,i4:=by kernel_rfl,t5:=underlying5,a5:=isAgg5,z5:=sizeOf5,v5:=zeroValue5,i5:=by kernel_rfl,t9:=underlying9,a9:=isAgg9,z9:=sizeOf9,v9:=zeroValue9,i9:=by kernel_rfl,t20:=underlying20,a20:=isAgg20,z20:=sizeOf20,v20:=zeroValue20,i20:=by kernel_rfl,t21:=underlying21,a21:=isAgg21,z21:=sizeOf21,v21:=zeroValue21,i21:=by kernel_rfl,t22:=underlying104,a22:=isAgg104,z22:=sizeOf104,v22:=zeroValue104,i22:=by kernel_rfl,t24:=underlying44,a24:=isAgg44,z24:=sizeOf44,v24:=zeroValue44,i24:=by kernel_rfl,t25:=underlying205,a25:=isAgg205,z25:=sizeOf205,v25:=zeroValue205,i25:=by kernel_rfl,t34:=underlying427,a34:=isAgg427,z34:=sizeOf427,v34:=zeroValue427,i34:=by kernel_rfl,c34:=by kernel_rfl,t36:=underlying68,a36:=isAgg68,z36:=sizeOf68,v36:=zeroValue68,i36:=by kernel_rfl,t37:=underlying31,a37:=isAgg31,z37:=sizeOf31,v37:=zeroValue31,i37:=by kernel_rfl,t39:=underlying429,a39:=isAgg429,z39:=sizeOf429,v39:=zeroValue429,i39:=by kernel_rfl,t44:=underlying436,a44:=isAgg436,z44:=sizeOf436,v44:=zeroValue436,i44:=by kernel_rfl,t47:=underlying369,a47:=isAgg369,z47:=sizeOf369,v47:=zeroValue369,i47:=by kernel_rfl,t48:=underlying440,a48:=isAgg440,z48:=sizeOf440,v48:=zeroValue440,i48:=by kernel_rfl,t50:=underlying442,a50:=isAgg442,z50:=sizeOf442,v50:=zeroValue442,i50:=by kernel_rfl,t52:=underlying385,a52:=isAgg385,z52:=sizeOf385,v52:=zeroValue385,i52:=by kernel_rfl,t55:=underlying387,a55:=isAgg387,z55:=sizeOf387,v55:=zeroValue387,i55:=by kernel_rfl,t59:=underlying418,a59:=isAgg418,z59:=sizeOf418,v59:=zeroValue418,i59:=by kernel_rfl,t60:=underlying97,a60:=isAgg97,z60:=sizeOf97,v60:=zeroValue97,i60:=by kernel_rfl,t61:=underlying419,a61:=isAgg419,z61:=sizeOf419,t65:=underlying437,a65:=isAgg437,z65:=sizeOf437,v65:=zeroValue437,i65:=by kernel_rfl,t66:=underlying438,a66:=isAgg438,z66:=sizeOf438,v66:=zeroValue438,i66:=by kernel_rfl,t67:=underlying249,a67:=isAgg249,z67:=sizeOf249,v67:=zeroValue249,i67:=by kernel_rfl,g0:=by kernel_rfl,m0:=by kernel_rfl,g1:=by kernel_rfl,m1:=by kernel_rfl,g2:=by kernel_rfl,m2:=by kernel_rfl,g3:=by kernel_rfl,m3:=by kernel_rfl,g4:=by kernel_rfl,m4:=by kernel_rfl}
theorem ET(w:Z)(e:TypeId)(s:af):gC (G<|H w) w (Lib.bytesWorld w e s):=⟨rfl,rfl,rfl,by rw[Lib.bytesWorld_size];omega,λk a=>Lib.bytesWorld_at_old w e s k U⟩
end
def Vu:∀u,u<18446744073709551616->∀r,Lib.parseUintM (2^64-1) 0 (Lib.decDigits u++r)=Lib.parseUintM (2^64-1) u r:=by
 intro u;induction u using Nat.strongRecOn with
 |_ u a=>
  intro b r;by_cases h:u<10
  .rw[Lib.decDigits_one h];have e:(UInt8.ofNat<|48+u).toNat=48+u:=by simp;omega
   simp only[dt,ep,Lib.parseUintM,e];rw[fV U,fM U,fM U];grind
  .have e:(UInt8.ofNat<|48+u%10).toNat=48+u%10:=by simp;omega
   rw[Lib.decDigits,Fz h,cw,a (u/10) U U];simp only[dt,ep,Lib.parseUintM,e];rw[fV U,fM U,fM U];grind
def Vv(a:b<18446744073709551616)(w:Z):cR bN 239 #[aw<|Af b,ay 10,ay 64] w λe c=>e=aN (de #[bw b,ib])/\I aC w c:=by
 have h:=Any.strconv_ParseUint_10_at64_ok CL (Af b) (bP<|uM b a) b (by
  have e:(Af b).data.toList=Lib.decDigits b:=by simp[Af]
  rw[e];unfold Lib.parseUintB;rw[fM]
  .have:=Vu b a [];rw[eu]at this;rw[this];rfl
  .intro d;have:=cD y d;rw[Lib.decDigits_length]at this;have:=Lib.lt_pow_nDigits b;grind[Lib.decDigits.eq_1]) w
 refine sR h ?_;grind[I.bI,I.p,ET]
def ZR(p r:af):(p++r).extract 0 p.size=p:=ByteArray.extract_append_eq_left rfl
def Wu(p r:af):(p++r).extract p.size (p.size+r.size)=r:=ByteArray.extract_append_eq_right rfl rfl
def RW(p r:af)(b:p.size<=100)(c:r.size<=2000000)(w:Z):cR bN 293 #[aw<|p++r,aw p] w λe a=>e=aN (aO cz)/\a=w:=by
 have:(p++r).size=p.size+r.size:=jT;have:=ZR p r;generalize p++r=s at*;have:(p.size:Y)<=(s.size:Y):=U;go_in
 go_wp2;go_ret;simp_all
def Ig(p r:af)(f:p.size<=100)(g:r.size<=2000000)(w:Z):cR bN 238 #[aw<|p++r,aw p] w λe b=>e=aN (de #[aw r,aO cz])/\b=w:=by
 have a:=RW p r f g w;have:(p++r).size=p.size+r.size:=jT;have:=Wu p r;have d:cR bN 273 #[aw<|p++r,aw p] w λe b=>e=aN (de #[aw r,aO cz])/\b=w:=by generalize p++r=s at*;(go_in);(go_wp2_with(go_at_call 293;refine a.mono ?_;rintro e c⟨rfl,i⟩;subst c));(go_ret2);simp_all
 generalize p++r=s at*;go_in
 go_wp2_with(go_at_call 273;refine d.mono ?_;rintro e c⟨rfl,i⟩;subst c)
 go_ret2
 simp_all
def If(s p:af)(l:s.size<=2000000)(k:p.size<=100)(c:p.size<=s.size->s.extract 0 p.size≠p)(w:Z):cR bN 238 #[aw s,aw p] w λe a=>e=aN (de #[aw s,aO bD])/\a=w:=by
 have d:cR bN 293 #[aw s,aw p] w λe a=>e=aN (aO bD)/\a=w:=by by_cases b:p.size<=s.size;(.have:=c b;have i:(p.size:Y)<=(s.size:Y):=U;(have:((s.extract 0 p.size).toList==p.toList)=bD:=by rw[nD];grind[An]);(go_in);go_wp2;go_ret;simp_all);have:¬(p.size:Y)<=(s.size:Y):=U;(go_in);go_wp2;go_ret;simp_all
 have g:cR bN 273 #[aw s,aw p] w λe a=>e=aN (de #[aw s,aO bD])/\a=w:=by(go_in);(go_wp2_with(go_at_call 293;refine d.mono ?_;rintro e f⟨rfl,j⟩;subst f));(go_ret2);simp_all
 go_in
 go_wp2_with(go_at_call 273;refine g.mono ?_;rintro e f⟨rfl,j⟩;subst f)
 go_ret2
 simp_all
def J6(u:R):sW.size<=(gW u).size->(gW u).extract 0 sW.size≠sW:=λ_ c=>by
 have h:=yN c;rw[rP,tH,AN]at h;have:=cD (λl:cy UInt8=>l[0]?) h;simp[List.extract,show sW.size=6 from rfl,show sW.data.toList=[116,97,98,108,101,45]from rfl]at this
def zcw(w a:Z)(e:Ending)(n:Y)(ok:eN):Prop:=e=aN (de #[bw n,aO ok])/\I aC w a
def Sh(j:b<18446744073709551616)(p:Pow a):cR bN 174 #[aw<|gW b] a λk r=>zcw a r k b cz:=by
 have s:=uM b j;have i:=Vv j a;have g:=λW(h:I aC a W)=>sg b j<|Pow.aA p h id;have:(gW b).size<=1000:=by unfold gW;rw[jT];have:II.size<=100:=cg;omega
 have o:=If (gW b) sW U cg (J6 b) a;have l:=Ig II (Af b) cg U a;rw[show II++Af b=gW b from rfl]at l;generalize gW b=m at*;go_in
 go_wp21;go_call o as k d⟨rfl,q⟩;subst d;go_wp21;go_call l as k d⟨rfl,q⟩;subst d;go_wp21;go_call i as k d⟨rfl,c⟩;have n:=g d c;go_wp21;go_call n as k t⟨rfl,f⟩;have e:=ak<|c.t<|I.p (S:=aC) f;go_wp2;go_ret2
 exact⟨z,e⟩
def mD{c:Func}{K T:Tmp}(h:c.results=#[.cell K 161,.tmp T])(a:Array ae)(w:Z)(g:R)(n B k:Y)(e f i j:ae)(S:TypeId)(d:R×R)(s:a.getD K jm=aJ g)(q:w.heap[g]?=M (aK #[bw n,bw B,bw k,e,f,i,j] S d))(l:∃x n k,e=am x n k)(m:∃x n k,f=am x n k)(o:∃x n k,i=am x n k)(p:∃x n k,j=am x n k):(results c a).run bN w=.ok (de #[ef #[bw n,bw B,bw k,e,f,i,j],a.getD T jm]) w:=by
 obtain⟨L,C,t,rfl⟩:=l;obtain⟨N,D,u,rfl⟩:=m;obtain⟨O,E,v,rfl⟩:=o;obtain⟨Q,F,A,rfl⟩:=p;have b:a[K]?.getD jm=aJ g:=dV s;have r:=kP (P:=bN) w g S 161 #[bw n,bw B,bw k,am L C t,am N D u,am O E v,am Q F A] d _ q underlying161 z aH;simp[results,h,b,asAddr,r,Result.andThen]
def st0:ae:=ef #[bw 2,bw 1,bw 0,aF,aF,aF,aF]
def Tw(w:Z)(f:af):Prop:=∃(n:R)(ok:eN),n<=2/\∀W,I aC w W->cR bN 174 #[aw f] W λe a=>zcw W a e n ok
def Rd.aA{S:fB}{w w':Z}{rest:eD}{m6:eN}(h:Rd w c rest m6)(k:I S w w')(q:∀m,S m->c<m):Rd w' c rest m6:=by
 have g:=h.lt;let⟨v,p,n,j⟩:=h;refine⟨v,(k.A c g aI).trans p,?_,j⟩;obtain⟨rfl,rfl⟩|⟨b,a,d,rfl,e,o⟩:=n;exact J ⟨z,z⟩;have:=j b z;exact bj ⟨b,a,d,z,e,λm c=>k.u (o m c) aI U⟩
structure uE(w0 wr:Z)(sb rb mb:R)(nx lg bt:Y)(vs:iE)(Ds:cy (cy Mk))(ks:ae->Prop)(rest:eD)(s:eN):Prop where
 g:wr.heap[sb]?=M (aK (bw nx::bw lg::bw bt::vs).toArray 161 (0,0))
 L:y vs=4
 AY:y Ds=4
 l:∀(j:R)(v:ae)(D:cy Mk),vs[j]?=M v->Ds[j]?=M D->fD wr (mb+1) 234 4 v (y D) (mY D)
 ne:∀(j j':R)(v v':ae)(q:R),j≠j'->vs[j]?=M v->vs[j']?=M v'->cN v=M q->cN v'≠M q
 gq:mK wr mb (.int .u64) ks
 rd:Rd wr rb rest s
 aA:I aC w0 wr
 o:G (H w0)<=rb/\rb<sb/\sb<mb/\mb<G (H wr)
def uE.bV{o wr:Z}{n f:Y}{a:cy (cy Mk)}{l:ae->Prop}(h:uE o wr b c k r n f Q a l m V){j:R}(i:Q[j]?=M d):∃D,a[j]?=M D/\fD wr (k+1) 234 4 d (y D) (mY D):=by
 have g:j<4:=by rw[<-h.L];grind
 have e:a[j]?=M (a[j]'(h.AY▸g)):=bF _;exact⟨_,e,h.l j d _ i e⟩
def uE.aZ{s wr:Z}{p e:Y}{a:cy (cy Mk)}{o:ae->Prop}{rest:eD}(h:uE s wr c k n r p e Q a o rest V){t:R}(m:Q[t]?=M d){q:R}(g:cN d=M q):n<q/\q<G (H wr):=by
 let⟨D,_,j⟩:=h.bV m;have:=aS j q g;omega
def uE.u{l wr:Z}{g d:Y}{a:cy (cy Mk)}{e:ae->Prop}(h:uE l wr c k n r g d Q a e m V)(j:R):bA wr (X c<|3+j)=Q[j]?:=by
 rw[cE h.g,Cj 3 j];simp
def uE.t{s wr e:Z}{n i:Y}{f:cy (cy Mk)}{j:ae->Prop}{a:eD}{p:eN}(h:uE s wr b c k r n i Q f j m V)(d:I (λu=>u=c) wr e)(t:Rd e c a p):uE s e b c k r n i Q f j a p where
 g:=(d.A b (az h.g)<|bP h.o).trans h.g
 L:=h.L
 AY:=h.AY
 l:=λu v D b k=>d.aZ (h.l u v D b k)<|λq t w=>gV (h.aZ b t) h.o
 ne:=h.ne
 gq:=h.gq.dU<|d.A k h.o.2.2.2<|bP h.o
 rd:=t
 aA:=h.aA.aj d<|λu b=>bj<|bP h.o
 o:=⟨h.o.1,h.o.2.1,h.o.2.2.1,au h.o.2.2.2 d.D⟩
def uE.bH{i wr j:Z}{g d:Y}{a:cy (cy Mk)}{f:ae->Prop}(h:uE i wr b c k r g d Q a f m V)(e:I aC wr j):uE i j b c k r g d Q a f m V:=h.t (e.aT cY)<|h.rd.aA e cY
def uE.p{n wr e:Z}{j i:Y}{f:cy (cy Mk)}{t d:ae->Prop}(h:uE n wr b c k r j i Q f t m V)(a:wr.grownBy e (M k))(s:mK e k (.int .u64) d):uE n e b c k r j i Q f d m V where
 g:=(a.block b (az h.g)<|zY h.o).trans h.g
 L:=h.L
 AY:=h.AY
 l:=λv w D b k=>(gH a).aZ (h.l v w D b k)<|λq s p=>bP<|h.aZ b s
 ne:=h.ne
 gq:=s
 rd:=h.rd.aA (gH a)<|λu p=>bP h.o
 aA:=h.aA.aj (gH a)<|λu p=>bj (by have:=h.o;have:u=k:=p;omega)
 o:=⟨h.o.1,h.o.2.1,h.o.2.2.1,au h.o.2.2.2 a.size⟩
def uE.ks{i wr:Z}{g e:Y}{d:cy (cy Mk)}{f a:ae->Prop}(h:uE i wr b c k r g e Q d f m V)(l:∀j,a j↔f j):uE i wr b c k r g e Q d a m V:={h with gq:=h.gq.yL l}
def uE.gK{P wr o:Z}{E A:Y}{F:cy (cy Mk)}{O:ae->Prop}{D':cy Mk}(h:uE P wr c k n r E A Q F O m V)(t:Q[T]?=M d)(D:fm wr o d w)(L:fD o (n+1) 234 4 w (y D') (mY D')):uE P (cP o (X c<|3+T) w) c k n r E A (Q.set T w) (F.set T D') O m V:=by
 have u:I (λaa=>cN d=M aa) wr o:=I.fU D;have W:=λq=>h.aZ (q:=q) t;have s:=h.o;have v:o.heap[c]?=M (aK (bw r::bw E::bw A::Q).toArray 161 (0,0)):=(u.A c (az h.g) aI).trans h.g;have j:I (λaa=>aa=c) o (cP o (X c<|3+T) w):=(iP c o);have C:∀q,cN w=M q->n<q/\q<G (H o):=λq i=>bP<|aS L q i;refine⟨?_,by rw[gz];exact h.L,by rw[gz];exact h.AY,?_,?_,?_,?_,?_,?_⟩;rw[aY v,Cj 3 T];simp;intro N ab l g a;by_cases B:T=N;subst B;rw[jl]at g a;rw[t]at g;let⟨K,e,_⟩:=h.bV t;rw[e]at a;cases g;cases a;exact j.aZ L aI;rw[fI B]at g a;have e:=u.aZ (h.l N ab l g a)<|λq i x=>h.ne N T ab d q (FA B) g t i x;exact j.aZ e<|λq i B=>bP<|h.aZ g i;intro N i' ab u' q l g e i;by_cases B:T=N;subst B;rw[fI l]at e;rw[jl,t]at g;cases g;intro a;change cN w=M q at i;obtain x|⟨S,x,hy⟩:=D.f;exact h.ne _ _ _ _ q l t e (x.symm.trans i) a;rw[x]at i;cases i;have:=h.aZ e a;omega;rw[fI B]at g;by_cases K:T=i';subst K;rw[jl,t]at e;cases e;intro a;change cN w=M q at a;obtain x|⟨S,x,hy⟩:=D.f;exact h.ne _ _ _ _ q l g t i<|x.symm.trans a;rw[x]at a;cases a;have:=h.aZ g i;omega;rw[fI K]at e;exact h.ne _ _ _ _ q l g e i;exact(h.gq.dU<|u.A n s.2.2.2 aI).dU<|j.A n (au s.2.2.2 u.D) U;exact(h.rd.aA u aI).aA j aI;exact(h.aA.aj u aI).aj j aI;grind[gJ,Nat.lt_of_lt_of_le,I.D]
