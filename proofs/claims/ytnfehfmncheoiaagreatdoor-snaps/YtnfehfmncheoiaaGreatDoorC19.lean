import Derived.Test.YtnfehfmncheoiaaGreatDoorC15
import Derived.Test.YtnfehfmncheoiaaGreatDoorC16
import Derived.Test.YtnfehfmncheoiaaGreatDoorC17
open _root_ renaming List.length→y,Option.some→H,Array.size→z,Go.World.heap→G,Go.Value.ownBlock→bV,Go.World.cell?→aS,Go.World.setCell→bZ,Go.World.alloc→ct,Bool.false→bE,Bool.true→bU,Nat→M,Int→X,List→cr,Go.Calls→cw,Go.undef→iC,Go.Proofs.Tryz.prog→bF,Go.Value.slice→I,Go.Value.bool→aL,Go.Value.tuple→dA,Go.Value.agg→eD
namespace Go.Proofs.YtnfehfmncheoiaaGreatDoor
open ChangeShapes WideShapes RowKit Proofs.Tryz
set_option maxHeartbeats 16000000
set_option linter.all false
set_option maxRecDepth 100000
variable{a f C:Y}{b c g l B P:M}{d s N:aa}{e L:cA}{i p t u:cP}{j O:DK}{k:dW}{m:X}{n:SR}{W:fI}{w:E}{x:iV}{D:Bool}{S:bI}{V:Array aa}
structure JD(w w':Y)(sb:M)(s:SR)(k:X)(n C:M)(K:DK)(ms:eK)(R0:X->ab->Option ab)(v0 v1 v2 v3:aa)(K':DK)(num:M)(a' b' c' d':cP):Prop where
 box:bK w' sb (s.settled v0 v1 v2 v3 n num) k
 st:ST w' sb (s.settled v0 v1 v2 v3 n num) K' [] a' b' c' d' C
 qX:SP (vw K'.files) (num+1) num n a' b' c' d' bE []
 pr:PR n (cF a' b' c' d')
 wI:∀t,(t∈ms\/(n:X)<=t)->∀q,fU t (cF a' b' c' d') q=R0 t q
 GJ:((a'++b'++c'++d').map bI.tb).Nodup
 eO:y K'.eO<=1000001
 num:s.next<=num/\num<=s.next+1000000
 ft:gw w w' s.aN sb K K'
def PR.mono(h:PR b k)(d:b<=c):PR c k:=⟨h.sR,h.mq,h.jd,λx a=>by have:=h.low x a;omega⟩
def Nf(lb:M)(au ad:M)(ms:eK)(W:X->ab->Option ab)(wr:Y)(w x A B:aa)(ba bb al bc:cP)(ps:cr NT)(r:SV a b n m lb j (i++p++t++u) au ad ms W wr w x A B ba bb al bc ps)(h0:bK a b n m)(d:ST a b n j e i p t u c)(hI:SP (vw j.files) n.next n.log g i p t u n.gC k)(S:y (lO ((g:X)+1) k)<=200000)(hn:ad<1000000000000000)(Q:n.next<=900000000000000)(P:y j.eO<=10000000000):cw bF 90 #[aw b,eD #[w,x,A,B],aI ad] wr λan w'=>an=aO .nilIface/\∃C num D E F K,JD a w' b n m ad au j ms W w x A B C num D E F K:=by
 obtain⟨K1,L,N,e1,e2,s⟩:=r.ls.Xo;have ac:=d.count;have V:y (i++p++t++u)<=1000000:=by have v:=d.qI;have h2:=d.mN;have:=lK<|λax o=>(d.l0.each ax o).pure;have:=lK d.s1.pure;have:=lK d.s2.pure;have:=lK d.s3.pure;simp only[af];omega
 have O:De wr b 10 [(n.l0,i),(n.l1,p),(n.l2,t),(n.l3,u)]:=by refine(d.Ys h0).ar r.ar d.rV<|λv hi f h=>?_;(have:v=0\/v=1\/v=2\/v=3:=by simp at hi;omega);rcases this with rfl|rfl|rfl|rfl;exact(d.l0.loc f h).aZ;exact(d.l1.loc f h).aZ;exact(d.l2.loc f h).aZ;exact(d.l3.loc f h).aZ
 have av:=r.ls.ME;refine(OM (z<|G a) au ad g ps w x A B ba bb al bc i p t u k r.box L O N (λq=>d.rV<|s b q) (by rw[e1];exact hI) S hn Q (by rw[e2];exact P) V ?_ ?_).mono ?_;obtain⟨v,al,an⟩:=bL d.mem;exact⟨v,_,al,an⟩;have v:∀f,Aside a j n.aN b f->JH n.aN b (z<|G a) K1 f:=λf q=>⟨q.lt,λao=>q.aZ<|s f ao,q.ne⟩;rintro bd(rfl|rfl|rfl|rfl)f h;exact v _<|d.l0.loc f h;exact v _<|d.l1.loc f h;exact v _<|d.l2.loc f h;exact v _<|d.l3.loc f h;rintro an w'⟨rfl,C,num,D,E,F,K,l,o⟩;have hz:=r.ar.size;refine⟨rfl,C,num,D,E,F,K,l.box,l.st,l.qX,by rw[l.rows];exact r.pr,λax o q=>by rw[l.rows];exact r.wI ax o q,l.GJ,l.eO,l.num,l.st.aN,?_,?_⟩;refine(r.ar.mono (T:=λf=>j.aZ n.aN f\/f=b)<|λ_ q=>.inl<|.inl q).trans o<|λf q=>?_;rcases q with(q|⟨bd,v,q⟩)|q;exact .inl<|.inl<|s f q;refine .inr ?_;rcases q with q|q;exact((r.ls.news bd v).1.lt f<|.inl q).1;exact((r.ls.news bd v).1.lt f<|.inr<|.inr q).1;exact .inl<|.inr q;intro f q;rcases l.aZ f q with ao|ao;exact .inl<|s f ao;exact .inr<|by omega
def DB(mv:aa){cx:cP}(fl ek:M)(h:bK a b n m)(bh:ST a b n j e i t u cx c)(fd:((i++t++u++cx).map bI.tb).Nodup)(ho:PR g (cF i t u cx))(hB:ku a mv L)(he:∀m,bV mv=H m->m<z (G a))(hh:dQ L)(hs:rN 5 L)(hf:∀ge∈L,ge.Good)(hC:y L<=100)(hd:∀ge∈L,(g:X)<ge.bH)(hc:∀ge∈L,ge.bH<=ek)(hr:g<=ek)(hV:y (cf i)+y (cf t)+y (cf u)+y (cf cx)+y L<=fl)(hz:fl<=1000000)(hP:2<=n.wH)(hM:SP (vw j.files) n.next n.log g i t u cx n.gC k)(hH:y (lO ((g:X)+1) k)<=200000)(hY:ek<1000000000000000)(hF:n.next<=900000000000000)(hD:y j.eO<=10000000000)(W:fR)(hq:FZ a j b n W):cw bF 72 #[aw b,mv,aI ek] a λcj w'=>cj=aO .nilIface/\∃v0 v1 v2 v3 K' num a' b' c' d',JD a w' b n m ek fl j (so W) (λea=>fU ea<|L::cF i t u cx) v0 v1 v2 v3 K' num a' b' c' d':=by
 have hp:=aj h;have ec:=bh.Yy (C':=fl) hp fd (by omega) hz;have ex:=λr wr v0 v1 v2 v3 a1 b1 c1 d1 b a=>Nf r fl ek (so W) (λea=>fU ea<|L::cF i t u cx) wr v0 v1 v2 v3 a1 b1 c1 d1 b a h bh hM hH hY hF hD;obtain⟨y0,z0,fv⟩:=bL bh.l0.row;obtain⟨y1,z1,fx⟩:=bL bh.l1.row;obtain⟨y2,z2,P⟩:=bL bh.l2.row;obtain⟨y3,z3,fz⟩:=bL bh.l3.row;have ih:aS a (R b 10)=H (I y0 (y i) z0):=by rw[<-fv];exact h.cell rfl
 have il:aS a (R b 11)=H (I y1 (y t) z1):=by rw[<-fx];exact h.cell rfl
 have ip:aS a (R b 12)=H (I y2 (y u) z2):=by rw[<-P];exact h.cell rfl
 have it:aS a (R b 13)=H (I y3 (y cx) z3):=by rw[<-fz];exact h.cell rfl
 rw[fv,fx,P,fz]at ec;obtain⟨WL,fu⟩:∃WL,ct a (aq #[I y0 (y i) z0,I y1 (y t) z1,I y2 (y u) z2,I y3 (y cx) z3] 107)=WL:=⟨_,rfl⟩;have ds:Z az a WL:=by rw[<-fu];exact(Z.refl _ _).alloc _
 have ha:WL.heap[z<|G a]?=H (aq #[I y0 (y i) z0,I y1 (y t) z1,I y2 (y u) z2,I y3 (y cx) z3] 107 (0,0)):=by rw[<-fu];exact aC _ rfl
 have et:=ec.ar (ds.mono cG)<|(ql n.aN j).fm ec.D ds cG;have gv:bK WL b n m:=(ds.block b hp id).trans h;have dn:=bh.aN.lt;have ff:=bh.rV;obtain⟨mx,mc,hk⟩:=bL hB;obtain⟨gr,HM,hw,fr,fn,gk,ck,bi,gj⟩:=xH bh hB he hh hf ho ex et ha;obtain⟨fs,eb,HH,hv,hu,cM,ht,hR,bk⟩:=xH ds gv h hd hc ff dn hk hq;have hN:z (G WL)=z (G a)+1:=by rw[<-fu];simp
 clear h bh fd ho hB he hh hf hd hc hM ex ec et ha ds gv ff dn fv fx P fz hq;subst hk;obtain⟨R0,ed⟩:∃R0:X->ab->Option ab,(λea=>fU ea<|L::cF i t u cx)=R0:=⟨_,rfl⟩;obtain⟨r,hA⟩:∃r,z (G a)=r:=⟨_,rfl⟩;have co:z (G a)<=r:=by omega
 have gn:=U ed;have bv:=ae ck;rw[ed]at bv;clear ck;have ck:=U bv;rw[ed];clear bv ed;have em:=U hA;by_cases hJ:y L=0;(case' pos=>(have ey:¬(0:X)<(y L:X):=by omega);have w:L=[]:=aP hJ;have ao:=U<|show JE a b n m r j (i++t++u++cx) fl ek (so W) R0 WL from⟨_,_,_,_,i,t,u,cx,[],bi,by rw[<-ae em];exact gj,gk.mono hr,λea _ q=>by rw[<-ae gn,w];exact(sO ea _ q).symm,eb,fs.mono cG⟩;clear w;(go_in);(go_wp2_with fail);obtain⟨W7,bT⟩:∃W7,WL=W7:=⟨_,rfl⟩;rw[bT];rw[bT]at ao;clear bT)
 case' neg=>
  have ey:(0:X)<(y L:X):=by omega
  obtain⟨mg,mo,hl,hg,cp⟩:∃hi bl,mx=H (R hi bl)/\y L<=mc/\∀gf hQ,(aE L)[gf]?=H hQ->aS a (R hi<|bl+gf)=H hQ:=by
   obtain⟨_,⟨q1,q2⟩|⟨hi,bl,hT,q1,q2,q3⟩⟩:=ae HM
   .exact absurd q2 hJ
   .cases q1;exact⟨hi,bl,rfl,q2,q3⟩
  subst hl;have hE:L≠[]:=λq=>hJ (by rw[q];rfl);have fL:mg<z (G a):=hw mg rfl;have dv:Z az a WL.drew:=fs.ci<|bX az WL;have fb:=Dw L mg mo mc WL.drew (λgf hj=>dv.cell (gr.lu.steps gf hj) id gr.lu.fC.lt) (by have:=dv.size;omega) (λgf hQ hj=>dv.cell (cp gf hQ hj) id fL) hg (by omega) fn fr (λq d=>aD (hs.keys q d)<|by omega) (by omega);clear cp;go_in
  go_wp2_with fail
  rename_i QQ KK ba hG;have hS:WL.drew.heap[r]?=H (aq #[I y0 (y i) z0,I y1 (y t) z1,I y2 (y u) z2,I y3 (y cx) z3] 107 (0,0)):=by rw[<-ae em];exact gj
  refine cg (λ(s:Y)=>s.heap[r]?=H (aq #[I y0 (y i) z0,I y1 (y t) z1,I y2 (y u) z2,I y3 (y cx) z3] 107 (0,0))) 8 (by kernel_rfl) ?_;refine cQ 0 ?_;iterate 3 (refine eE (v:=?_) hS rfl (by kernel_rfl) iO rfl ?_ ?_;rotate_left;(focus(intro s hX;have x0:aS s (R r 0)=H (I y0 (y i) z0):=(by rw[bR hX];rfl);go_simp;try rfl));simp only[Act.put,cX,Nat.reduceAdd])
  apply eh;refine aJ (i:=3) rfl rfl (by kernel_rfl) ?_;intro K3 au;go_simp;apply fb.mono;rintro cj o⟨w,cs,hL,cl,xb,cm,rfl,K⟩;obtain⟨hn,hm,cn⟩:=UK K hE fn fr hC;have cu:=(K.ar.block r (aj hS) id).trans hS;refine au _ _ (λ_=>cu) ?_;clear au fb;try simp only[Act.put,cX]
  refine aJ (i:=4) rfl rfl (by kernel_rfl) ?_;intro K4 av;go_simp;have gc:Z az o (ct o<|aq #[aw w] 224):=(Z.refl _ _).alloc _;have hb:=(gc.block r (aj cu) id).trans cu;refine av _ _ (λ_=>hb) ?_;clear av;try simp only[Act.put,cX]
  refine aJ (i:=5) rfl rfl (by kernel_rfl) ?_;intro K5 ax;go_simp;obtain⟨W5,dc⟩:∃W5,ct (ct o<|aq #[aw w] 224) (aq #[I y0 (y i) z0,bC (z<|G o) 0 1 1] 105)=W5:=⟨_,rfl⟩;have eg:Z az o W5:=by rw[<-dc];exact gc.alloc _
  have ee:=(eg.block r (aj cu) id).trans cu;have dd:W5.heap[z<|G o]?=H (aq #[aw w] 224 (0,0)):=by rw[<-dc];exact(fX _<|by simp).trans<|aC _ rfl
  have dk:W5.heap[z (G o)+1]?=H (aq #[I y0 (y i) z0,bC (z<|G o) 0 1 1] 105 (0,0)):=by rw[<-dc];exact aC _<|by simp
  rw[dc];refine ax _ _ (λ_=>ee) ?_;clear ax dc;try simp only[Act.put,cX]
  refine aJ (i:=6) rfl rfl (by kernel_rfl) ?_;intro K6 O;go_simp;have bs:Z az WL W5:=((bX az WL).ci K.ar).ci eg;have eu:=tr (z (G o)+1) 0 2 [((I y0 (y i) z0:aa),i),(bC (z<|G o) 0 1 1,[⟨w,bM 0 cs,cs,0⟩])] W5 (by
   intro N hi;have:N=0\/N=1:=by simp at hi;omega
   rcases this with rfl|rfl<;>(rw[bR dk];rfl)) (aj dk) (by
    intro N hi;have:N=0\/N=1:=by simp at hi;omega
    rcases this with rfl|rfl
    .exact bs.row bi.r0<|λm a=>⟨id,(bi.b0 m a).1⟩
    .refine⟨rfl,.inr ⟨z (G o),0,1,rfl,ah _,λgf hQ hj=>?_⟩⟩;rw[bR dd,cR];simpa[bI.ptr]using hj) (by
    intro N hi;have:N=0\/N=1:=by simp at hi;omega
    rcases this with rfl|rfl
    .exactλm a=>ag (bi.b0 m a).1 bs.size
    .exactλm a=>by cases a;exact aj dd) (by simp) (by have:=bi.count;simp[ma];omega)
  apply eu.mono;rintro cj w6⟨v6,rfl,ef,ei⟩;have bx:=(ei.block r (aj ee) id).trans ee;have eq:ma [((I y0 (y i) z0:aa),i),(bC (z<|G o) 0 1 1,[⟨w,bM 0 cs,cs,0⟩])]=y (i++[(⟨w,bM 0 cs,cs,0⟩:bI)]):=by simp[ma]
  have eo:qc [((I y0 (y i) z0:aa),i),(bC (z<|G o) 0 1 1,[⟨w,bM 0 cs,cs,0⟩])]=(i++[(⟨w,bM 0 cs,cs,0⟩:bI)]).map bI.ptr:=by simp[qc]
  rw[eq,eo]at ef;obtain⟨x6,c6,hI⟩:=aB ef;subst hI;refine O _ _ (λ_=>bx) ?_;clear O eu;try simp only[Act.put,cX]
  refine aJ (i:=7) rfl rfl (by kernel_rfl) ?_;intro K7 A;go_simp;refine A _ _ (λ_=>bx) ?_;clear A;try simp only[Act.put,cX]
  refine aJ (i:=8) rfl rfl (by kernel_rfl) ?_;intro K8 B;have x0:=cellAt bx 0 rfl;have hK:=dJ (i:=0) bx;go_simp;have bt:Z az WL w6:=bs.ci ei;have fk:Z az o w6:=eg.ci ei;have fe:NT.Ok w6 (z<|G WL) ⟨⟨w,bM 0 cs,cs,0⟩,hL,cl,xb,cm⟩:=NT.Ok.ar hn fk<|λ_ _ q=>q;have gA:=bi.XO (p:=⟨⟨w,bM 0 cs,cs,0⟩,hL,cl,xb,cm⟩) bt fe hm (eS ef bs.size) (by
   show _+y (bI.all ⟨w,bM 0 cs,cs,0⟩)<=fl;rw[cn];exact hV)
  have ej:Z (λq=>q=r) w6 (bZ w6 (R r 0)<|I x6 (y<|i++[(⟨w,bM 0 cs,cs,0⟩:bI)]) c6):=(Z.refl (λq=>q=r) w6).setCell _ _ _<|.inl rfl;have es:=gA.other ej (λq d=>by subst d;exact⟨co,_,_,bx⟩);have F:PR ek (cF (i++[(⟨w,bM 0 cs,cs,0⟩:bI)]) t u cx):=by
   rw[DI,cn];exact gk.cons hr fr fn hv hu
  have ao:=U<|show JE a b n m r j (i++t++u++cx) fl ek (so W) R0 (bZ w6 (R r 0)<|I x6 (y<|i++[(⟨w,bM 0 cs,cs,0⟩:bI)]) c6)from⟨_,_,_,_,_,t,u,cx,_,es,(aQ bx).trans rfl,F,λea _ q=>by rw[DI,cn,<-ae gn],(ej.block b (ag (aj eb) bt.size)<|λq=>by omega).trans<|(bt.block b (aj eb) id).trans eb,((fs.ci bt).mono (T:=j.aZ n.aN) cG).trans ej<|λq d=>.inr<|by omega⟩;refine B _ _ (λq=>(q rfl).elim) ?_;refine cO (by kernel_rfl) ?_ _;show KK _ _;apply ba;clear ba B es gA F ej fe fk bt bx ef ei dd dk ee eg hb gc cu hn hm cn K hS x0 hK bs eq eo;have en:y (i++[(⟨w,bM 0 cs,cs,0⟩:bI)])=y i+1:=by simp
  rw[en]at ao;obtain⟨W7,bT⟩:∃W7,bZ w6 (R r 0) (I x6 (y i+1) c6)=W7:=⟨_,rfl⟩;rw[bT];rw[bT]at ao;clear bT en;go_wp2_with fail
 (all_goals clear ey;refine ld 5 ?_;rw[gZ];(go_wp2_with fail);(go_loopw [9] (λ_ wr=>JE a b n m r j (i++t++u++cx) fl ek (so W) R0 wr) (λ_ wr=>wv wr r 0));(case atStart=>exact ao);(case round=>obtain⟨v0,v1,v2,v3,a1,b1,c1,d1,ch,l⟩:=hrel;obtain⟨p0,q0,cb⟩:=bL l.ls.r0;obtain⟨p1,q1,cc⟩:=bL l.ls.r1;obtain⟨p2,q2,cd⟩:=bL l.ls.r2;obtain⟨p3,q3,ce⟩:=bL l.ls.r3;subst cb cc cd ce;have g0:=cellAt l.lb 0 rfl;have g1:=cellAt l.lb 1 rfl;have g2:=cellAt l.lb 2 rfl;have g3:=cellAt l.lb 3 rfl;have f:=rE 0 (y a1) p0 q0 l.box (by omega);by_cases K:uZ n.wH 0 (y a1)=bU;(.rw[K]at f;(have br:0<y a1:=by unfold uZ at K;simp at K;omega);have gg:=U<|λ(o:Y)(mv:aa)(bg:eK)(w:Z az wr o)(L:o.ownsRow (z<|G wr) 103 1 mv (y bg) (bg.map<|Value.int .u64))(hp:bg.Perm (so W))=>l.ls.CR w L;have bo:=λ(o:Y)(ge:Option Addr)(bh:M)(bg:eK)(w:Z az wr o)(L:o.ownsRow (z<|G wr) 103 1 (I ge (y bg) bh) (y bg) (bg.map<|Value.int .u64))(hp:bg.Perm (so W))=>(l.ls.CR w L).1.Yk l.pr br bg ge bh (l.ls.CR w L).2.1 (l.ls.CR w L).2.2 (by have:=hp.length_eq;rw[oI]at this;have:=bk.len;omega);have ad:=U bo;(have bq:∀bi,Z az wr bi->cw bF 51 #[aw b] bi λcj o=>∃v2,∃bg:eK,cj=aO v2/\bg.Perm (so W)/\o.ownsRow (z<|G wr) 103 1 v2 (y bg) (bg.map<|Value.int .u64)/\Z az wr o:=λbi hW=>by obtain⟨mb,m1,m2,m3⟩:=(bk.aZ l.ar).ex;apply(rA (b:=mb) W ((hW.block b (aj l.box) id).trans l.box) m1 (m2.dh<|hW.block _ m3.lt id) bk.len).mono;rintro cj o⟨v2,bg,rfl,l1,l2,l3⟩;exact⟨v2,bg,rfl,l1,eS l2 hW.size,hW.ci l3⟩);obtain⟨cE,al,gi⟩:=dB bq l.lb (show∀q,j.aZ n.aN q->q<z (G a)from l.ls.aZ);have ac:=λo u0 u1 u2 u3 a2 b2 c2 d2 V hl hp hs w=>l.put (w2:=o) (u0:=u0) (u1:=u1) (u2:=u2) (u3:=u3) (a':=a2) (b':=b2) (c':=c2) (d':=d2) (ps':=V) co cM hl hp hs w;have bm:=U ac;have bp:=uV g0;have cB:=U bp;clear l ac bp K bo bq;(go_wp2_with fail);apply f.mono;rintro cj o⟨rfl,cv⟩;subst o;clear f;(go_wp2_with fail);rename_i QQ KK ba;have hS:wr.drew.heap[r]?=H (aq #[I p0 (y a1) q0,I p1 (y b1) q1,I p2 (y c1) q2,I p3 (y d1) q3] 107 (0,0)):=ae al;refine ot (λ(s:Y)=>s.heap[r]?=H (aq #[I p0 (y a1) q0,I p1 (y b1) q1,I p2 (y c1) q2,I p3 (y d1) q3] 107 (0,0))) 6 (by kernel_rfl) ?_;refine uL 0 ?_;(iterate 3 (refine AU (v:=?_) hS rfl (by kernel_rfl) iO rfl ?_ ?_;rotate_left;(focus(intro s hX;have x0:aS s (R r 0)=H (I p0 (y a1) q0):=(by rw[bR hX];rfl);have x1:aS s (R r 1)=H (I p1 (y b1) q1):=(by rw[bR hX];rfl);have x2:aS s (R r 2)=H (I p2 (y c1) q2):=(by rw[bR hX];rfl);have x3:aS s (R r 3)=H (I p3 (y d1) q3):=(by rw[bR hX];rfl);go_simp;try rfl));simp only[Act.put,cX,Nat.reduceAdd]));apply AT;refine dL (i:=3) rfl rfl (by kernel_rfl) ?_;intro K3 au;go_simp;apply(cE wr.drew<|bX _ _).mono;rintro cj wm⟨vm,lm,rfl,bd,bc,S⟩;obtain⟨dT,db,dx⟩:=aB bc;subst dx;have D:=ad wm dT db lm S bc bd;have bn:wm.heap[r]?=H (aq #[I p0 (y a1) q0,I p1 (y b1) q1,I p2 (y c1) q2,I p3 (y d1) q3] 107 (0,0)):=(S.block r (aj al) id).trans al;refine au _ _ (λ_=>bn) ?_;(try simp only[Act.put,cX]);refine dL (i:=4) rfl rfl (by kernel_rfl) ?_;intro K4 av;go_simp;apply D.mono;rintro cj o⟨xm,bu,gt,tm,V,rfl,P,F,x,Q⟩;have Q:=(S.mono (T:=j.aZ n.aN) cG).trans Q<|λ_ q=>.inl q;have x:=λea(w:ea∈so W\/(ek:X)<=ea)=>x ea<|w.imp_left<|λq=>bd.mem_iff.2 q;obtain⟨d,bb⟩:=bm o _ _ _ _ _ _ _ _ V P F x Q;have g0:=cellAt d 0 rfl;have r0:=dJ (i:=0) d;have g1:=cellAt d 1 rfl;have r1:=dJ (i:=1) d;have g2:=cellAt d 2 rfl;have r2:=dJ (i:=2) d;have g3:=cellAt d 3 rfl;have r3:=dJ (i:=3) d;(have E:wv (bZ (bZ (bZ (bZ o (R r 0) aK) (R r 1)<|I xm bu gt) (R r 2)<|I p2 (y c1) q2) (R r 3)<|I p3 (y d1) q3) r 0<wv wr r 0:=by have dm:=cellAt bb.lb 0 rfl;rw[ae cB,uV dm];omega);have cT:=U bb;have an:=U E;clear bb E;refine av _ _ (λ_=>d) ?_;(try simp only[Act.put,cX]);refine dL (i:=5) rfl rfl (by kernel_rfl) ?_;intro K5 ax;go_simp;refine ax _ _ (λ_=>d) ?_;(try simp only[Act.put,cX]);clear au av ax;apply CS KK;(.intro bf;refine qH (i:=6) (j:=7) rfl rfl rfl rfl (by kernel_rfl) ?_ ?_;(.intro K6 O;go_simp;refine O _ _ (λu=>(by omega)) ?_;(try simp only[Act.put,cX]);refine qH (i:=7) (j:=8) rfl rfl rfl rfl (by kernel_rfl) ?_ ?_;(.intro K7 A;go_simp;refine A _ _ (λu=>(by omega)) ?_;(try simp only[Act.put,cX]);refine dL (i:=8) rfl rfl (by kernel_rfl) ?_;intro K8 B;go_simp;refine B _ _ (λu=>(by omega)) ?_;(try simp only[Act.put,cX]);refine dL (i:=9) rfl rfl (by kernel_rfl) ?_;intro K9 C;go_simp;refine C _ _ (λu=>(by omega)) ?_;(try simp only[Act.put,cX]);refine kh (by kernel_rfl) ?_ _;exact bf);intro K8 B;go_simp;refine B _ _ (λu=>(by omega)) ?_;(try simp only[Act.put,cX]);refine dL (i:=7) rfl rfl (by kernel_rfl) ?_;intro K7 A;go_simp;refine A _ _ (λu=>(by omega)) ?_;(try simp only[Act.put,cX]);refine dL (i:=9) rfl rfl (by kernel_rfl) ?_;intro K9 C;go_simp;refine C _ _ (λu=>(by omega)) ?_;(try simp only[Act.put,cX]);refine kh (by kernel_rfl) ?_ _;exact bf);intro K7 A;go_simp;refine A _ _ (λu=>(by omega)) ?_;(try simp only[Act.put,cX]);refine dL (i:=6) rfl rfl (by kernel_rfl) ?_;intro K6 O;go_simp;refine O _ _ (λu=>(by omega)) ?_;(try simp only[Act.put,cX]);refine dL (i:=8) rfl rfl (by kernel_rfl) ?_;intro K8 B;go_simp;refine B _ _ (λu=>(by omega)) ?_;(try simp only[Act.put,cX]);refine dL (i:=9) rfl rfl (by kernel_rfl) ?_;intro K9 C;go_simp;refine C _ _ (λu=>(by omega)) ?_;(try simp only[Act.put,cX]);refine kh (by kernel_rfl) ?_ _;exact bf);apply ba;clear ba hS bn bc S bd d P F x Q D;go_wp2;go_roundw;(case rel=>exact⟨_,_,_,_,_,_,_,_,V,cT⟩);case measure=>exact an);(.rw[uK]at K;rw[K]at f;have ao:=U<|show JE a b n m r j (i++t++u++cx) fl ek (so W) R0 wr from⟨_,_,_,_,_,_,_,_,ch,l⟩;clear l K;(go_wp2_with fail);apply f.mono;rintro cj o⟨rfl,cv⟩;subst o;clear f g0 g1 g2 g3;(go_wp2_with fail);rw[gZ];(go_wp2_with fail);(go_loopw [9] (λ_ wr=>JE a b n m r j (i++t++u++cx) fl ek (so W) R0 wr) (λ_ wr=>wv wr r 1));(case atStart=>exact ao);(case round=>obtain⟨v0,v1,v2,v3,a1,b1,c1,d1,ch,l⟩:=hrel;obtain⟨p0,q0,cb⟩:=bL l.ls.r0;obtain⟨p1,q1,cc⟩:=bL l.ls.r1;obtain⟨p2,q2,cd⟩:=bL l.ls.r2;obtain⟨p3,q3,ce⟩:=bL l.ls.r3;subst cb cc cd ce;have g0:=cellAt l.lb 0 rfl;have g1:=cellAt l.lb 1 rfl;have g2:=cellAt l.lb 2 rfl;have g3:=cellAt l.lb 3 rfl;have f:=rE 1 (y b1) p1 q1 l.box (by omega);by_cases K:uZ n.wH 1 (y b1)=bU;(.rw[K]at f;(have br:0<y b1:=by unfold uZ at K;simp at K;omega);have gg:=U<|λ(o:Y)(mv:aa)(bg:eK)(w:Z az wr o)(L:o.ownsRow (z<|G wr) 103 1 mv (y bg) (bg.map<|Value.int .u64))(hp:bg.Perm (so W))=>l.ls.CR w L;have bo:=λ(o:Y)(ge:Option Addr)(bh:M)(bg:eK)(w:Z az wr o)(L:o.ownsRow (z<|G wr) 103 1 (I ge (y bg) bh) (y bg) (bg.map<|Value.int .u64))(hp:bg.Perm (so W))=>(l.ls.CR w L).1.Yj l.pr br bg ge bh (l.ls.CR w L).2.1 (l.ls.CR w L).2.2 (by have:=hp.length_eq;rw[oI]at this;have:=bk.len;omega);have ad:=U bo;(have bq:∀bi,Z az wr bi->cw bF 51 #[aw b] bi λcj o=>∃v2,∃bg:eK,cj=aO v2/\bg.Perm (so W)/\o.ownsRow (z<|G wr) 103 1 v2 (y bg) (bg.map<|Value.int .u64)/\Z az wr o:=λbi hW=>by obtain⟨mb,m1,m2,m3⟩:=(bk.aZ l.ar).ex;apply(rA (b:=mb) W ((hW.block b (aj l.box) id).trans l.box) m1 (m2.dh<|hW.block _ m3.lt id) bk.len).mono;rintro cj o⟨v2,bg,rfl,l1,l2,l3⟩;exact⟨v2,bg,rfl,l1,eS l2 hW.size,hW.ci l3⟩);obtain⟨cE,al,gi⟩:=dB bq l.lb (show∀q,j.aZ n.aN q->q<z (G a)from l.ls.aZ);have ac:=λo u0 u1 u2 u3 a2 b2 c2 d2 V hl hp hs w=>l.put (w2:=o) (u0:=u0) (u1:=u1) (u2:=u2) (u3:=u3) (a':=a2) (b':=b2) (c':=c2) (d':=d2) (ps':=V) co cM hl hp hs w;have bm:=U ac;have bp:=uV g1;have cB:=U bp;clear l ac bp K bo bq;(go_wp2_with fail);apply f.mono;rintro cj o⟨rfl,cv⟩;subst o;clear f;(go_wp2_with fail);rename_i QQ KK ba;have hS:wr.drew.heap[r]?=H (aq #[I p0 (y a1) q0,I p1 (y b1) q1,I p2 (y c1) q2,I p3 (y d1) q3] 107 (0,0)):=ae al;refine ot (λ(s:Y)=>s.heap[r]?=H (aq #[I p0 (y a1) q0,I p1 (y b1) q1,I p2 (y c1) q2,I p3 (y d1) q3] 107 (0,0))) 6 (by kernel_rfl) ?_;refine uL 0 ?_;(iterate 3 (refine AU (v:=?_) hS rfl (by kernel_rfl) iO rfl ?_ ?_;rotate_left;(focus(intro s hX;have x0:aS s (R r 0)=H (I p0 (y a1) q0):=(by rw[bR hX];rfl);have x1:aS s (R r 1)=H (I p1 (y b1) q1):=(by rw[bR hX];rfl);have x2:aS s (R r 2)=H (I p2 (y c1) q2):=(by rw[bR hX];rfl);have x3:aS s (R r 3)=H (I p3 (y d1) q3):=(by rw[bR hX];rfl);go_simp;try rfl));simp only[Act.put,cX,Nat.reduceAdd]));apply AT;refine dL (i:=3) rfl rfl (by kernel_rfl) ?_;intro K3 au;go_simp;apply(cE wr.drew<|bX _ _).mono;rintro cj wm⟨vm,lm,rfl,bd,bc,S⟩;obtain⟨dT,db,dx⟩:=aB bc;subst dx;have D:=ad wm dT db lm S bc bd;have bn:wm.heap[r]?=H (aq #[I p0 (y a1) q0,I p1 (y b1) q1,I p2 (y c1) q2,I p3 (y d1) q3] 107 (0,0)):=(S.block r (aj al) id).trans al;refine au _ _ (λ_=>bn) ?_;(try simp only[Act.put,cX]);refine dL (i:=4) rfl rfl (by kernel_rfl) ?_;intro K4 av;go_simp;apply D.mono;rintro cj o⟨xl,nl,hy,xm,bu,gt,hx,gs,V,rfl,P,ca,F,x,Q⟩;(have gb:nl=y hx:=by obtain⟨_,_,cj⟩:=bL P.r1;cases cj;rfl);have Q:=(S.mono (T:=j.aZ n.aN) cG).trans Q<|λ_ q=>.inl q;have x:=λea(w:ea∈so W\/(ek:X)<=ea)=>x ea<|w.imp_left<|λq=>bd.mem_iff.2 q;obtain⟨d,bb⟩:=bm o _ _ _ _ _ _ _ _ V P F x Q;have g0:=cellAt d 0 rfl;have r0:=dJ (i:=0) d;have g1:=cellAt d 1 rfl;have r1:=dJ (i:=1) d;have g2:=cellAt d 2 rfl;have r2:=dJ (i:=2) d;have g3:=cellAt d 3 rfl;have r3:=dJ (i:=3) d;(have E:wv (bZ (bZ (bZ (bZ o (R r 0)<|I p0 (y a1) q0) (R r 1)<|I xl nl hy) (R r 2)<|I xm bu gt) (R r 3)<|I p3 (y d1) q3) r 1<wv wr r 1:=by have dm:=cellAt bb.lb 1 rfl;rw[ae cB,uV dm];omega);have cT:=U bb;have an:=U E;clear bb E gb ca;refine av _ _ (λ_=>d) ?_;(try simp only[Act.put,cX]);refine dL (i:=5) rfl rfl (by kernel_rfl) ?_;intro K5 ax;go_simp;refine ax _ _ (λ_=>d) ?_;(try simp only[Act.put,cX]);clear au av ax;apply CS KK;(.intro bf;refine qH (i:=6) (j:=7) rfl rfl rfl rfl (by kernel_rfl) ?_ ?_;(.intro K6 O;go_simp;refine O _ _ (λu=>(by omega)) ?_;(try simp only[Act.put,cX]);refine qH (i:=7) (j:=8) rfl rfl rfl rfl (by kernel_rfl) ?_ ?_;(.intro K7 A;go_simp;refine A _ _ (λu=>(by omega)) ?_;(try simp only[Act.put,cX]);refine dL (i:=8) rfl rfl (by kernel_rfl) ?_;intro K8 B;go_simp;refine B _ _ (λu=>(by omega)) ?_;(try simp only[Act.put,cX]);refine dL (i:=9) rfl rfl (by kernel_rfl) ?_;intro K9 C;go_simp;refine C _ _ (λu=>(by omega)) ?_;(try simp only[Act.put,cX]);refine kh (by kernel_rfl) ?_ _;exact bf);intro K8 B;go_simp;refine B _ _ (λu=>(by omega)) ?_;(try simp only[Act.put,cX]);refine dL (i:=7) rfl rfl (by kernel_rfl) ?_;intro K7 A;go_simp;refine A _ _ (λu=>(by omega)) ?_;(try simp only[Act.put,cX]);refine dL (i:=9) rfl rfl (by kernel_rfl) ?_;intro K9 C;go_simp;refine C _ _ (λu=>(by omega)) ?_;(try simp only[Act.put,cX]);refine kh (by kernel_rfl) ?_ _;exact bf);intro K7 A;go_simp;refine A _ _ (λu=>(by omega)) ?_;(try simp only[Act.put,cX]);refine dL (i:=6) rfl rfl (by kernel_rfl) ?_;intro K6 O;go_simp;refine O _ _ (λu=>(by omega)) ?_;(try simp only[Act.put,cX]);refine dL (i:=8) rfl rfl (by kernel_rfl) ?_;intro K8 B;go_simp;refine B _ _ (λu=>(by omega)) ?_;(try simp only[Act.put,cX]);refine dL (i:=9) rfl rfl (by kernel_rfl) ?_;intro K9 C;go_simp;refine C _ _ (λu=>(by omega)) ?_;(try simp only[Act.put,cX]);refine kh (by kernel_rfl) ?_ _;exact bf);apply ba;clear ba hS bn bc S bd d P F x Q D;go_wp2;go_roundw;(case rel=>exact⟨_,_,_,_,_,_,_,_,V,cT⟩);case measure=>exact an);(.rw[uK]at K;rw[K]at f;have ao:=U<|show JE a b n m r j (i++t++u++cx) fl ek (so W) R0 wr from⟨_,_,_,_,_,_,_,_,ch,l⟩;clear l K;(go_wp2_with fail);apply f.mono;rintro cj o⟨rfl,cv⟩;subst o;clear f g0 g1 g2 g3;(go_wp2_with fail);rw[gZ];(go_wp2_with fail);(go_loopw [9] (λ_ wr=>JE a b n m r j (i++t++u++cx) fl ek (so W) R0 wr) (λ_ wr=>wv wr r 2));(case atStart=>exact ao);(case round=>obtain⟨v0,v1,v2,v3,a1,b1,c1,d1,ch,l⟩:=hrel;obtain⟨p0,q0,cb⟩:=bL l.ls.r0;obtain⟨p1,q1,cc⟩:=bL l.ls.r1;obtain⟨p2,q2,cd⟩:=bL l.ls.r2;obtain⟨p3,q3,ce⟩:=bL l.ls.r3;subst cb cc cd ce;have g0:=cellAt l.lb 0 rfl;have g1:=cellAt l.lb 1 rfl;have g2:=cellAt l.lb 2 rfl;have g3:=cellAt l.lb 3 rfl;have f:=rE 2 (y c1) p2 q2 l.box (by omega);by_cases K:uZ n.wH 2 (y c1)=bU;(.rw[K]at f;(have br:0<y c1:=by unfold uZ at K;simp at K;omega);have gg:=U<|λ(o:Y)(mv:aa)(bg:eK)(w:Z az wr o)(L:o.ownsRow (z<|G wr) 103 1 mv (y bg) (bg.map<|Value.int .u64))(hp:bg.Perm (so W))=>l.ls.CR w L;have bo:=λ(o:Y)(ge:Option Addr)(bh:M)(bg:eK)(w:Z az wr o)(L:o.ownsRow (z<|G wr) 103 1 (I ge (y bg) bh) (y bg) (bg.map<|Value.int .u64))(hp:bg.Perm (so W))=>(l.ls.CR w L).1.Yi l.pr br bg ge bh (l.ls.CR w L).2.1 (l.ls.CR w L).2.2 (by have:=hp.length_eq;rw[oI]at this;have:=bk.len;omega);have ad:=U bo;(have bq:∀bi,Z az wr bi->cw bF 51 #[aw b] bi λcj o=>∃v2,∃bg:eK,cj=aO v2/\bg.Perm (so W)/\o.ownsRow (z<|G wr) 103 1 v2 (y bg) (bg.map<|Value.int .u64)/\Z az wr o:=λbi hW=>by obtain⟨mb,m1,m2,m3⟩:=(bk.aZ l.ar).ex;apply(rA (b:=mb) W ((hW.block b (aj l.box) id).trans l.box) m1 (m2.dh<|hW.block _ m3.lt id) bk.len).mono;rintro cj o⟨v2,bg,rfl,l1,l2,l3⟩;exact⟨v2,bg,rfl,l1,eS l2 hW.size,hW.ci l3⟩);obtain⟨cE,al,gi⟩:=dB bq l.lb (show∀q,j.aZ n.aN q->q<z (G a)from l.ls.aZ);have ac:=λo u0 u1 u2 u3 a2 b2 c2 d2 V hl hp hs w=>l.put (w2:=o) (u0:=u0) (u1:=u1) (u2:=u2) (u3:=u3) (a':=a2) (b':=b2) (c':=c2) (d':=d2) (ps':=V) co cM hl hp hs w;have bm:=U ac;have bp:=uV g2;have cB:=U bp;clear l ac bp K bo bq;(go_wp2_with fail);apply f.mono;rintro cj o⟨rfl,cv⟩;subst o;clear f;(go_wp2_with fail);rename_i QQ KK ba;have hS:wr.drew.heap[r]?=H (aq #[I p0 (y a1) q0,I p1 (y b1) q1,I p2 (y c1) q2,I p3 (y d1) q3] 107 (0,0)):=ae al;refine ot (λ(s:Y)=>s.heap[r]?=H (aq #[I p0 (y a1) q0,I p1 (y b1) q1,I p2 (y c1) q2,I p3 (y d1) q3] 107 (0,0))) 6 (by kernel_rfl) ?_;refine uL 0 ?_;(iterate 3 (refine AU (v:=?_) hS rfl (by kernel_rfl) iO rfl ?_ ?_;rotate_left;(focus(intro s hX;have x0:aS s (R r 0)=H (I p0 (y a1) q0):=(by rw[bR hX];rfl);have x1:aS s (R r 1)=H (I p1 (y b1) q1):=(by rw[bR hX];rfl);have x2:aS s (R r 2)=H (I p2 (y c1) q2):=(by rw[bR hX];rfl);have x3:aS s (R r 3)=H (I p3 (y d1) q3):=(by rw[bR hX];rfl);go_simp;try rfl));simp only[Act.put,cX,Nat.reduceAdd]));apply AT;refine dL (i:=3) rfl rfl (by kernel_rfl) ?_;intro K3 au;go_simp;apply(cE wr.drew<|bX _ _).mono;rintro cj wm⟨vm,lm,rfl,bd,bc,S⟩;obtain⟨dT,db,dx⟩:=aB bc;subst dx;have D:=ad wm dT db lm S bc bd;have bn:wm.heap[r]?=H (aq #[I p0 (y a1) q0,I p1 (y b1) q1,I p2 (y c1) q2,I p3 (y d1) q3] 107 (0,0)):=(S.block r (aj al) id).trans al;refine au _ _ (λ_=>bn) ?_;(try simp only[Act.put,cX]);refine dL (i:=4) rfl rfl (by kernel_rfl) ?_;intro K4 av;go_simp;apply D.mono;rintro cj o⟨xl,nl,hy,xm,bu,gt,gs,hU,V,rfl,P,ca,F,x,Q⟩;(have gb:nl=y gs:=by obtain⟨_,_,cj⟩:=bL P.r2;cases cj;rfl);have Q:=(S.mono (T:=j.aZ n.aN) cG).trans Q<|λ_ q=>.inl q;have x:=λea(w:ea∈so W\/(ek:X)<=ea)=>x ea<|w.imp_left<|λq=>bd.mem_iff.2 q;obtain⟨d,bb⟩:=bm o _ _ _ _ _ _ _ _ V P F x Q;have g0:=cellAt d 0 rfl;have r0:=dJ (i:=0) d;have g1:=cellAt d 1 rfl;have r1:=dJ (i:=1) d;have g2:=cellAt d 2 rfl;have r2:=dJ (i:=2) d;have g3:=cellAt d 3 rfl;have r3:=dJ (i:=3) d;(have E:wv (bZ (bZ (bZ (bZ o (R r 0)<|I p0 (y a1) q0) (R r 1)<|I p1 (y b1) q1) (R r 2)<|I xl nl hy) (R r 3)<|I xm bu gt) r 2<wv wr r 2:=by have dm:=cellAt bb.lb 2 rfl;rw[ae cB,uV dm];omega);have cT:=U bb;have an:=U E;clear bb E gb ca;refine av _ _ (λ_=>d) ?_;(try simp only[Act.put,cX]);refine dL (i:=5) rfl rfl (by kernel_rfl) ?_;intro K5 ax;go_simp;refine ax _ _ (λ_=>d) ?_;(try simp only[Act.put,cX]);clear au av ax;apply CS KK;(.intro bf;refine qH (i:=6) (j:=7) rfl rfl rfl rfl (by kernel_rfl) ?_ ?_;(.intro K6 O;go_simp;refine O _ _ (λu=>(by omega)) ?_;(try simp only[Act.put,cX]);refine qH (i:=7) (j:=8) rfl rfl rfl rfl (by kernel_rfl) ?_ ?_;(.intro K7 A;go_simp;refine A _ _ (λu=>(by omega)) ?_;(try simp only[Act.put,cX]);refine dL (i:=8) rfl rfl (by kernel_rfl) ?_;intro K8 B;go_simp;refine B _ _ (λu=>(by omega)) ?_;(try simp only[Act.put,cX]);refine dL (i:=9) rfl rfl (by kernel_rfl) ?_;intro K9 C;go_simp;refine C _ _ (λu=>(by omega)) ?_;(try simp only[Act.put,cX]);refine kh (by kernel_rfl) ?_ _;exact bf);intro K8 B;go_simp;refine B _ _ (λu=>(by omega)) ?_;(try simp only[Act.put,cX]);refine dL (i:=7) rfl rfl (by kernel_rfl) ?_;intro K7 A;go_simp;refine A _ _ (λu=>(by omega)) ?_;(try simp only[Act.put,cX]);refine dL (i:=9) rfl rfl (by kernel_rfl) ?_;intro K9 C;go_simp;refine C _ _ (λu=>(by omega)) ?_;(try simp only[Act.put,cX]);refine kh (by kernel_rfl) ?_ _;exact bf);intro K7 A;go_simp;refine A _ _ (λu=>(by omega)) ?_;(try simp only[Act.put,cX]);refine dL (i:=6) rfl rfl (by kernel_rfl) ?_;intro K6 O;go_simp;refine O _ _ (λu=>(by omega)) ?_;(try simp only[Act.put,cX]);refine dL (i:=8) rfl rfl (by kernel_rfl) ?_;intro K8 B;go_simp;refine B _ _ (λu=>(by omega)) ?_;(try simp only[Act.put,cX]);refine dL (i:=9) rfl rfl (by kernel_rfl) ?_;intro K9 C;go_simp;refine C _ _ (λu=>(by omega)) ?_;(try simp only[Act.put,cX]);refine kh (by kernel_rfl) ?_ _;exact bf);apply ba;clear ba hS bn bc S bd d P F x Q D;go_wp2;go_roundw;(case rel=>exact⟨_,_,_,_,_,_,_,_,V,cT⟩);case measure=>exact an);(.rw[uK]at K;rw[K]at f;have ao:=U<|show JE a b n m r j (i++t++u++cx) fl ek (so W) R0 wr from⟨_,_,_,_,_,_,_,_,ch,l⟩;clear l K;(go_wp2_with fail);apply f.mono;rintro cj o⟨rfl,cv⟩;subst o;clear f g0 g1 g2 g3;(go_wp2_with fail);rw[gZ];(go_wp2_with fail);(go_loopw [9] (λ_ wr=>JE a b n m r j (i++t++u++cx) fl ek (so W) R0 wr) (λ_ wr=>wv wr r 3));(case atStart=>exact ao);(case round=>obtain⟨v0,v1,v2,v3,a1,b1,c1,d1,ch,l⟩:=hrel;obtain⟨p0,q0,cb⟩:=bL l.ls.r0;obtain⟨p1,q1,cc⟩:=bL l.ls.r1;obtain⟨p2,q2,cd⟩:=bL l.ls.r2;obtain⟨p3,q3,ce⟩:=bL l.ls.r3;subst cb cc cd ce;have g0:=cellAt l.lb 0 rfl;have g1:=cellAt l.lb 1 rfl;have g2:=cellAt l.lb 2 rfl;have g3:=cellAt l.lb 3 rfl;have f:=rE 3 (y d1) p3 q3 l.box (by omega);(have K:uZ n.wH 3 (y d1)=bE:=by simp[uZ]);rw[K]at f;have ev:=ck r wr _ _ _ _ a1 b1 c1 d1 ch l;have el:=U ev;clear l K ev;(go_wp2_with fail);apply f.mono;rintro cj o⟨rfl,cv⟩;subst o;clear f;(go_wp2_with fail);rw[gZ];(go_wp2_with fail);apply el.mono;rintro cj o⟨rfl,K',num,a',b',c',d',hO⟩;have HO:=U hO;clear hO el;go_wp2;go_ret;exact⟨rfl,_,_,_,_,K',num,a',b',c',d',HO⟩))))))))
structure Inv(w:Y)(sb:M)(s:SR)(K:DK)(m:cA)(a b c d:cP)(C tb N:M)(ls:dW)(sn:fR):Prop where
 st:ST w sb s K m a b c d C
 qX:SP (vw K.files) s.next s.log tb a b c d s.gC ls
 pr:PR tb (cF a b c d)
 lp:Fp ((tb:X)+1) ls
 mem:jZ s.bB m=gK [] ls.flatten
 MF:∀x∈m,(tb:X)<x.bH/\x.bH<=s.bB
 Wh:y m<=(ls.map y).sum
 Xe:rN 5 m
 pV:FZ w K sb s sn
 VC:∀p∈sn,p.2<=s.bB
 BK:s.bB=tb+y ls
 Vi:s.iT=(ls.map y).sum
 vF:s.vF=bE
 GJ:((a++b++c++d).map bI.tb).Nodup
 nx:s.next<=2+1000001*N
 bn:s.bB<=N
 eO:y K.eO<=1000001+2*N
 TO:1<=s.mem/\s.mem<=32/\2<=s.wH/\s.wH<=6
 loose:s.kj=bU->s.gC=bU
 Ui:s.gC=bU->ls≠[]
 mN:N<=100000000
def ST.UX(h:ST a b n j e i p t u c)(k:b<z (G a))(d:gw a f n.aN b j O)(g:∀l,dX (vw O.files) (gJ l)=dX (vw j.files) (gJ l)):ST f b n O e i p t u c where
 mem:=zW h.mem d h.sW
 sW:=λg b=>(h.sW g b).ft d
 l0:=h.l0.ft d<|λ_ _=>g _
 l1:=h.l1.ft d<|λ_ _=>g _
 l2:=h.l2.ft d<|λ_ _=>g _
 l3:=h.l3.ft d<|λ_ _=>g _
 aN:=d.ok
 rV:=λt=>(d.aZ b t).elim h.rV<|λg=>by omega
 lu:=h.lu.ft d
 qI:=h.qI
 mN:=h.mN
 mq:=h.mq
 jd:=h.jd
 s1:=h.s1
 s2:=h.s2
 s3:=h.s3
def ST.TB{s s':SR}{C C':M}(h:ST a b s j e i p t u C)(v:s'.aN=s.aN/\s'.l0=s.l0/\s'.l1=s.l1/\s'.l2=s.l2/\s'.l3=s.l3)(n:ku a s'.memory L)(d:∀r,bV s'.memory=H r->Aside a j s.aN b r)(o:dQ L)(m:∀x∈L,x.Good)(w:y L+C<=C'+y e)(q:C'<=1000000):ST a b s' j L i p t u C':=by
 obtain⟨c,f,g,k,l⟩:=v;refine{mem:=n,sW:=by rw[c];exact d,l0:=by rw[c,f];exact h.l0,l1:=by rw[c,g];exact h.l1,l2:=by rw[c,k];exact h.l2,l3:=by rw[c,l];exact h.l3,aN:=by rw[c];exact h.aN,rV:=by rw[c];exact h.rV,lu:=by rw[c];exact h.lu,qI:=by have:=h.qI;omega,mN:=q,mq:=o,jd:=m,s1:=h.s1,s2:=h.s2,s3:=h.s3}
def ST.fields{s s':SR}(h:ST a b s j e i p t u c)(f:s'.aN=s.aN/\s'.l0=s.l0/\s'.l1=s.l1/\s'.l2=s.l2/\s'.l3=s.l3)(d:s'.memory=s.memory):ST a b s' j e i p t u c:=h.TB f (by rw[d];exact h.mem) (by rw[d];exact h.sW) h.mq h.jd (by omega) h.mN
def QP(f:X)(a:dW)(l:cA):lO f (a++[l])=lO f a++CO (f+y a) l:=by
 induction a generalizing f with
 |nil=>simp[lO]
 |cons x r b=>
  rw[cq,lO,b,lO,aU,ay];congr 3;push_cast
  omega
def Fp.snoc(h:Fp m k)(g:∀x∈e,x.Good)(f:∀x∈e,x.bH=m+y k)(d:1<=y e/\y e<=8)(i:(k.map y).sum+y e<32)(n:m+y k+1<18446744073709551616):Fp m (k++[e])where
 jd:=λx a=>by
  rcases ak.1 a with c|c
  .exact h.jd x c
  .rw[bG]at c;rw[c];exact g
 num:=λj b x a=>by
  by_cases c:j<y k
  .rw[oq c]at a;exact h.num j c x a
  .have l:j=y k:=by rw[af]at b;simp at b;omega
   subst l;rw[nR<|ah _]at a;simp at a;exact f x a
 one:=λx a=>by
  rcases ak.1 a with c|c
  .exact h.one x c
  .rw[bG]at c;rw[c];exact d
 sum:=by rw[aM,gl];simpa using i
 f0:=h.f0
 f1:=by rw[af];push_cast;simp;omega
def yR(l m n:cA):gK l (m++n)=gK (gK l m) n:=by
 unfold gK;rw[iJ]
def Et{l m:cA}(h:w∈gK l m):w∈l\/w∈m:=by
 induction m generalizing l with
 |nil=>exact .inl h
 |cons e r a=>
  rcases a (l:=sQ l e) h with c|c
  .rcases yo.1 c with g|g
   .rw[g];exact .inr<|by simp
   .exact .inl g.1
  .exact .inr<|by simp[c]
def Fp.wy(h:Fp ((b:X)+1) k):∀x∈k.flatten,(b:X)<x.bH/\x.bH<=(b+y k:M):=by
 intro x e;obtain⟨l,d,a⟩:=bz.1 e;obtain⟨i,c,rfl⟩:=gM.1 d;have:=h.num i c x a;push_cast
 omega
def Inv.Wg{d:fR}(h:Inv a b n j e i p t u c g l k d):y e<=31:=by
 have f:=h.Wh;have m:=h.lp.sum;omega
def Inv.row{m:cP}{f:fR}(h:Inv a b n O e p t u m c g l k f):gN e:=⟨h.st.mq,λo d=>tY<|h.st.jd o d⟩
def Inv.all{f:fR}(h:Inv a b n j e i p t u c g l k f):PR n.bB (e::cF i p t u):=h.pr.cons (by have:=h.BK;omega) h.st.mq h.st.jd (λx d=>(h.MF x d).1)<|λx d=>(h.MF x d).2
def gh(b:fR)(m a:cA):cA:=eG (so b)<|fB m a
def Inv.QI{o:fR}(h:Inv a b n j e i p t u c g l k o):y (lO ((g:X)+1) k)<=200000/\y k<=31:=by
 have q:=tT (f:=(g:X)+1)<|λm d=>⟨h.lp.jd m d,(h.lp.one m d).2⟩;have r:=Dx<|λm d=>(h.lp.one m d).1;have s:=h.lp.sum;exact⟨by omega,by omega⟩
def Inv.Dn{f:fR}(h:Inv a b n j e i p t u c g l k f):y (i++p++t++u)<=1000000:=by
 have d:=h.st.qI;have m:=h.st.mN;have:=lK<|λm d=>(h.st.l0.each m d).pure;have:=lK h.st.s1.pure;have:=lK h.st.s2.pure;have:=lK h.st.s3.pure;simp only[af];omega
def JD.inv{h:fR}{x:X->ab->Option ab}{w:aa}{num:M}(k:JD a f b n m c g j (so h) x d s N w O num i p t u)(e:1<=n.mem/\n.mem<=32/\2<=n.wH/\n.wH<=6)(C:n.next<=2+1000001*l)(B:c<=l+1)(A:l+1<=100000000)(v:FZ a j b n h)(r:∀D∈h,D.2<=n.bB)(o:n.bB<=c):Inv f b (n.settled d s N w c num) O [] i p t u g c (l+1) [] h where
 st:=k.st
 qX:=k.qX
 pr:=k.pr
 lp:=⟨by simp,by simp,by simp,by simp,by omega,by simp;omega⟩
 mem:=rfl
 MF:=by simp
 Wh:=by simp
 Xe:=rN.nil _
 pV:=(v.ft k.ft).fields ⟨rfl,rfl⟩
 VC:=λD e=>aD (r D e) o
 BK:=rfl
 Vi:=rfl
 vF:=rfl
 GJ:=k.GJ
 nx:=by have:=k.num;show num+1<=_;omega
 bn:=B
 eO:=by have:=k.eO;omega
 TO:=e
 loose:=λq=>(by cases q)
 Ui:=λq=>(by cases q)
 mN:=A
section
variable{w:Y}{sbqq:M}{s:SR}{K:DK}{m e:cA}{a b c d:cP}{C tbqq N:M}{lsqq:dW}{sn:fR}
theorem uM(sn:fR)(m e:cA):(gh sn m e).Sublist (fB m e):=mf _ _
theorem ye(sn:fR)(m e:cA):y (gh sn m e)<=y m+y e:=aD (uM sn m e).length_le<|wX m e
theorem AX{x:E}(h:x∈gh sn m e):x∈m\/x∈e:=xA<|(uM sn m e).subset h
theorem ya(h:dQ m)(sn:fR)(e:cA):dQ (gh sn m e):=(h.fB e).sub<|uM sn m e
theorem xZ(h:dQ m)(f:y sn<=4)(e:cA):rN 5 (gh sn m e):=(Gg<|h.fB e).mono (by rw[oI];omega)
theorem Gf(k:gN m){f:X}(j:∀x∈m,x.bH<=f)(i:∀g∈e,g.key≠⟨#[]⟩)(h:∀g∈e,g.bH=f+1)(sn:fR):jZ (f+1) (gh sn m e)=gK (jZ f m) e:=by
 have:=xp (rest:=[]) (ms:=so sn) k (by simp) i h j (by simp);unfold gh;simpa using this
theorem Inv.Ei(h:Inv w sbqq s K m a b c d C tbqq N lsqq sn)(i:∀x∈e,x.Good)(g:∀x∈e,x.bH=(s.bB:X)+1):(∀x∈gh sn m e,x.Good)/\(∀x∈gh sn m e,(tbqq:X)<x.bH/\x.bH<=(s.bB:X)+1)/\jZ ((s.bB:X)+1) (gh sn m e)=gK (gK [] lsqq.flatten) e:=by
 have j:=h.BK;refine⟨λx f=>(AX f).elim (h.st.jd x)<|i x,λx f=>?_,?_⟩;rcases AX f with q|q;have:=h.MF x q;omega;have:=g x q;omega;rw[Gf h.row (λx f=>(h.MF x f).2) (λk j=>tY<|i k j) g sn,h.mem]
theorem Inv.TT(k:Inv w sbqq s K m a b c d C tbqq N lsqq sn)(j:∀x∈e,x.Good)(h:∀x∈e,x.bH=(s.bB:X)+1){t:X}(f:t∈so sn)(q:ab):fU t (gh sn m e::cF a b c d) q=fU t (m::cF a b c d) q:=by
 have g:t<=s.bB:=by unfold so at f;obtain⟨p,i,rfl⟩:=aY.1 f;exact_mod_cast k.VC p i
 unfold fU;rw[show gh sn m e=eG (so sn) (fB m e)from rfl,DH k.row (λl i=>tY<|j l i) h f g]
theorem Inv.TV(h:Inv w sbqq s K m a b c d C tbqq N lsqq sn)(j:∀x∈e,x.Good)(g:∀x∈e,x.bH=(s.bB:X)+1)(q:ab):fU ((s.bB:X)+1) (gh sn m e::cF a b c d) q=seen (gK (jZ s.bB m) e::(cF a b c d).map (jZ s.bB)) q:=by
 unfold fU;rw[show gh sn m e=eG (so sn) (fB m e)from rfl,xp h.row h.pr.row (λl i=>tY<|j l i) g (λx f=>(h.MF x f).2) (λr k x f=>by have n:=h.pr.low x<|bz.2 ⟨r,k,f⟩;have:=h.BK;omega)]
end
def SR.Ei(s:SR)(c:aa)(a:M)(b:Bool):SR:={s with memory:=c,iT:=s.iT+a,bB:=s.bB+1,gC:=bU,kj:=bU,ki:=b}
def Wp(h:∀x∈e,x.Good)(c:y e<=8):kw (CO m e):=by
 have a:kw (iE m e):=by unfold iE;refine(kw.le 8 _).append ?_;intro x b;rcases aA.1 b with q|q;rw[q];constructor<;>omega;exact EL h x q
 unfold CO iD;exact((((kw.le 4 _).append<|kw.le 4 _).append<|kw.le 4 _)).append a
def Nv{s:SR}{hG:cP}(sn:fR)(h:bK a b s m)(f:Inv a b s j e p t u hG c g l k sn)(hp:ku a d L)(fe:∀m,bV d=H m->Aside a j s.aN b m)(bv:0<y L)(h8:y L<=8)(hr:∀fz∈L,fz.Good)(ho:∀fz∈L,fz.bH=(s.bB:X)+1)(hw:s.iT+y L<32)(hC:c+y L<=1000000)(hN:l+1<=100000000):cw bF 74 #[aw b,d] a λbr w'=>br=aO .nilIface/\∃mv K K',bK w' b (s.Ei mv (y L) K) m/\Inv w' b (s.Ei mv (y L) K) K' (gh sn e L) p t u hG (c+y L) g (l+1) (k++[L]) sn/\gw a w' s.aN b j K':=by
 have dk:=f.st;have ao:=aj h;have dd:s.log<18446744073709551616:=by have:=f.qX.lt;have:=f.nx;have:=f.mN;omega
 have cj:=vR s.log dd dk.lu.pow;obtain⟨eb,eo,fL,gA,bf,ac⟩:∃cd r N,d=bC cd r (y L) N/\y L<=N/\∀ds fx,(aE L)[ds]?=H fx->aS a (R cd<|r+ds)=H fx:=by obtain⟨_,⟨q1,q2⟩|⟨cd,r,N,q1,q4,P⟩⟩:=hp;omega;exact⟨cd,r,N,q1,q4,P⟩
 have cu:=U bf;clear bf;subst gA;have W:=fe eb rfl;obtain⟨mx,mc,hc⟩:=bL dk.mem;have gk:=bK.cellAt h 17 rfl;obtain⟨x,HH,HE,HG,HB,ee,cv⟩:=ww f h ac hr ho cj hc;clear f dk h hp fe ac hr ho cj;obtain⟨lg,dc⟩:∃lg,s.gC=lg:=⟨_,rfl⟩;have ht:∀(fz:Bool)(a:Y),(Op.unary .not<|aL fz).run bF a=.ok (aL<|!fz) a:=λ_ _=>rfl;go_in
 go_wp2_with fail
 apply ee.mono;rintro br w1⟨rfl,ex⟩;have bT:Z az a w1:=Z.aT ex;have fd:gw a w1 s.aN b j j:=⟨x.st.aN.ar bT<|λ_ _=>id,bT.mono cG,λ_ q=>.inl q⟩;have o:bK w1 b s m:=(bT.block b ao id).trans HH;have hf:aS w1 (R b 18)=H (aL lg):=by rw[<-dc];exact o.cell rfl
 have k2:=bK.cellAt o 2 rfl;have hg:=bK.cellAt o 21 rfl;have gn:w1.frozen? (R b 18)=bE:=o.free;have gr:w1.frozen? (R b 21)=bE:=o.free;obtain⟨S,cs,au⟩:=dB o fd dc;clear ex bT o fd dc gk;cases lg
 case' true=>
  go_wp2_with fail
  obtain⟨V,D⟩:∃V,w1=V:=⟨_,rfl⟩;obtain⟨K,bi⟩:∃K,s.ki=K:=⟨_,rfl⟩;have HX:=U (show∃A Q,gw a V s.aN b j A/\qN A.files (iM s.log)=H Q/\Q.bytes=lO ((g:X)+1) k/\y A.eO<=y j.eO+1/\(∀q F,tf (vw A.files) (iM s.log,F)=q->∀bq,dX q bq=if iM s.log=bq then H F else dX (vw j.files) bq)/\ik (vw A.files)=ik (vw j.files)/\bK V b {s with gC:=bU,ki:=K} m from by
   obtain⟨Q,q1,q2⟩:=ju<|x.qX.log au;refine⟨j,Q,by rw[<-D];exact cs,q1,q2,by omega,λq F br bq=>by rw[<-br,vf],rfl,?_⟩;rw[<-D,<-bi];have:=ae S;have br:s={s with gC:=bU,ki:=s.ki}:=by rw[<-ae au]
   rw[<-br];exact this)
  rw[D];clear D bi
 case' false=>
  have P:dX (vw j.files) (iM s.log)=none:=by
   cases q:dX (vw j.files) (iM s.log)with
   |none=>rfl
   |some F=>
    rcases x.qX.names _ _ q with br|⟨_,br⟩|⟨hI,_,br⟩
    .exact absurd br<|sd _
    .rw[ae au]at br;cases br
    .exact absurd br.symm<|mH _ _
  have fb:=Cx (iM s.log) cs.ok (Bw<|vV P) (by have:=x.eO;have:=x.mN;omega);go_wp2_with fail
  apply fb.mono;rintro br w2⟨rfl,A,bu,ff,fl⟩;have fr:¬j.aZ s.aN b:=x.st.rV;have r:bK w2 b s m:=(bu.ar.block b (aj S) fr).trans S;have cm:¬A.aZ s.aN b:=bu.Ah fr<|aj S;have hf:aS w2 (R b 18)=H (aL bE):=by rw[<-ae au];exact r.cell rfl
  have k2:=bK.cellAt r 2 rfl;have hg:=bK.cellAt r 21 rfl;have gn:w2.frozen? (R b 18)=bE:=r.free;have gr:w2.frozen? (R b 21)=bE:=r.free;obtain⟨dT,gc,gf,gg,cc,N⟩:=kF r bu ff fl cm P;clear r bu ff fl cm fb P;go_wp2_with fail
  obtain⟨V,D⟩:∃V,bZ (bZ w2 (R b 18)<|aL bU) (R b 21) (aL bU)=V:=⟨_,rfl⟩;obtain⟨K,bi⟩:∃K,bU=K:=⟨_,rfl⟩;have HX:=U (show∃A Q,gw a V s.aN b j A/\qN A.files (iM s.log)=H Q/\Q.bytes=lO ((g:X)+1) k/\y A.eO<=y j.eO+1/\(∀q F,tf (vw A.files) (iM s.log,F)=q->∀bq,dX q bq=if iM s.log=bq then H F else dX (vw j.files) bq)/\ik (vw A.files)=ik (vw j.files)/\bK V b {s with gC:=bU,ki:=K} m from by
   have ha:k=[]:=x.qX.GI au;have dn:vw A.files=vw j.files++[(iM s.log,[])]:=by rw[ae gf];simp[vw]
   have bh:dX (vw A.files) (iM s.log)=H []:=by rw[dn,jy,ae N];simp[dX]
   obtain⟨Q,q1,q2⟩:=ju bh;refine⟨A,Q,?_,q1,by rw[q2,ha];rfl,by rw[ae gg];omega,λq F br bq=>?_,by rw[dn,uv];simp[ik],?_⟩
   .rw[<-D];exact((cs.trans<|gw.of gc).set cc _ _).set cc _ _
   .rw[<-br,dn,GY [] F N,jy];by_cases cd:iM s.log=bq
    .rw[dw cd,<-cd,ae N];simp[dX]
    .rw[cY cd];cases dX (vw j.files) bq<;>simp[dX,cd]
   .rw[<-D,<-bi];exact(aQ (aQ dT)).trans rfl)
  rw[D];clear D bi
 all_goals
  obtain⟨A,Q,al,bs,ce,ck,bg,bp,cE⟩:=ae HX;have cn:¬A.aZ s.aN b:=al.sb x.st.rV ao;have bo:=x.st.UX ao al (λbq=>by
   have:=bg _ Q.bytes rfl<|gJ bq;rw[cY<|λq=>mH _ _ q.symm]at this;rw[<-this];obtain⟨hy,hb,_⟩:=kG bs;have bh:dX (vw A.files) (iM s.log)=H Q.bytes:=by rw[Jj,bs];rfl
   rw[By bh])
  have bc:=W.ft al;have bd:∀ds fx,(aE L)[ds]?=H fx->aS V (R eb<|eo+ds)=H fx:=λds fx hj=>W.cell al<|HE ds fx hj;have bl:=Nw L eb eo fL V.drew (λds hj=>bo.lu.steps ds hj) bc.lt bd bv HG h8;have ek:(L[0]'bv).bH=(g:X)+1+y k:=by
   have h1:=HB _<|ap bv;have h2:=x.BK;rw[h1,h2];push_cast
   omega
  rw[ek]at bl;have k2:=bK.cellAt cE 2 rfl;obtain⟨ea,ec,cb,ef,ed,cB⟩:=kF al bs ce ck bg bp;obtain⟨dv,hk,ei,eg,hi,hh⟩:=kF cE bo cn bl bd bc;clear al bs ce ck bg bp cE bo cn bl ek bd bc;rename_i QQ KK eq;have es:aS V.drew (R b 2)=H (aw s.aN):=k2;refine cg (λ(ej:Y)=>aS ej (R b 2)=H (aw s.aN)) 8 (by kernel_rfl) ?_;refine cQ 0 ?_;iterate 6 (refine eE (v:=?_) es rfl (by kernel_rfl) iO rfl ?_ ?_;rotate_left;(focus(intro ej hX;go_simp;try rfl));simp only[Act.put,cX,Nat.reduceAdd])
  apply eh;refine aJ (i:=6) rfl rfl (by kernel_rfl) ?_;intro K6 el;go_simp;apply eg.mono;rintro br w4⟨v4,rfl,bx,fu⟩;have C:Z az V w4:=(bX az V).ci fu;have et:aS w4 (R b 2)=H (aw s.aN):=C.cell k2 id<|qZ k2;refine el _ _ (λ_=>et) ?_;clear el;try simp only[Act.put,cX]
  obtain⟨F,ad⟩:∃F,CO ((g:X)+1+y k) L=F:=⟨_,rfl⟩;rw[ad]at bx;have gs:y F<=400:=by rw[<-ad];exact Cd HG h8
  have ey:0<y F:=by rw[<-ad];unfold CO;rw[af,gu];omega
  obtain⟨vb,vc,hd,fv,co,_⟩:=um bx ey;subst hd;have ev:=Ht (db:=s.aN) (K:=A) (iM s.log) Q vb 0 vc F (w:=w4) (ea.ok.ar C<|λ_ _=>id) ec (by
   rw[JT,ae cB];have:=x.qX.total x.st.aN.nodup x.QI.1 x.Dn;omega) (by rw[<-ad];exact Wp HG h8) (λds fx hj=>by
    have:=pm bx ds fx hj;rwa[du]at this) co (by rw[ae cb];have:=x.QI.1;omega)
  refine aJ (i:=7) rfl rfl (by kernel_rfl) ?_;intro K7 em;go_simp;apply ev.mono;rintro br w5⟨rfl,K5,bb,⟨x5,fk⟩,fn⟩;have cM:bK w4 b {s with gC:=bU,ki:=K} m:=(C.block b (aj dv) id).trans dv;have ax:bK w5 b {s with gC:=bU,ki:=K} m:=(bb.ar.block b (aj cM) ei).trans cM;refine em _ _ (λ_=>ax.cell rfl) ?_;clear em ev;try simp only[Act.put,cX]
  refine aJ (i:=8) rfl rfl (by kernel_rfl) ?_;intro K8 en;go_simp;refine en _ _ (λq=>(q rfl).elim) ?_;refine cO (by kernel_rfl) ?_ _;show KK _ _;apply eq;clear eq en es et;have ba:gw a w5 s.aN b j K5:=ea.trans ⟨bb.ok,(C.mono (T:=λm=>A.aZ s.aN m\/m=b) cG).trans bb.ar<|λ_ q=>.inl<|.inl q,λm q=>(bb.aZ m q).imp id<|λcd=>aD C.size cd⟩;have bm:¬K5.aZ s.aN b:=ba.sb x.st.rV ao;have cp:vw K5.files=tf (vw A.files) (iM s.log,lO ((g:X)+1)<|k++[L]):=by
   rw[fk,Dm,QP,ad,<-ae cb];show tf _ (Q.name,_)=_;rw[(kG<|ae ec).1]
  have O:∀bq,dX (vw K5.files) bq=if iM s.log=bq then H (lO ((g:X)+1)<|k++[L])else dX (vw j.files) bq:=λbq=>by rw[cp];exact ed _ _ rfl bq
  have hF:=bK.cellAt ax 20 rfl;have hu:w5.frozen? (R b 20)=bE:=ax.free;obtain⟨W6,eu⟩:∃W6,bZ w5 (R b 20) (aL bU)=W6:=⟨_,rfl⟩;have bt:bK W6 b {s with gC:=bU,ki:=K,kj:=bU} m:=by rw[<-eu];exact(aQ ax).trans rfl
  have w:gw a W6 s.aN b j K5:=by rw[<-eu];exact ba.set bm _ _
  have B:=x.st.UX ao w (λbq=>by rw[O,cY<|λq=>mH _ _ q.symm]);have ch:=W.ft w;have bk:=B.mem;rw[ae cv]at bk;obtain⟨mb,m1,m2,m3⟩:=(x.pV.ft w).ex;have ca:=AW b {s with gC:=bU,ki:=K,kj:=bU} m sn (bC eb eo (y L) fL) L bt m1 m2 x.pV.len B.mem (λm a=>(B.sW m a).lt) ⟨fM L,.inr ⟨eb,eo,fL,rfl,cu,λds fx hj=>W.cell w<|HE ds fx hj⟩⟩ (λm a=>by cases a;exact ch.lt) B.mq (by have:=x.Wg;omega);have ca:cw bF 73 #[aw b,bC eb eo (y L) fL] W6 λbr w'=>∃a,br=aO a/\w'.ownsRow (z<|G W6) 164 4 a (y<|gh sn e L) (aE<|gh sn e L)/\Z az W6 w':=ca;have k7:aS W6 (R b 7)=H (I mx (y e) mc):=by rw[<-ae cv];exact bt.cell rfl
  obtain⟨n,dx,ge,hl,av,gi⟩:=kF O bt w B bm fn;clear ba cp O cM ax bb fk fn bx fu C bt w B ch bk bm ad gs ey fv co;go_wp2_with fail
  apply ca.mono;rintro br w7⟨v7,rfl,an,dm⟩;obtain⟨x7,c7,he⟩:=aB an;subst he;have E:bK w7 b {s with gC:=bU,ki:=K,kj:=bU} m:=(dm.block b (aj dx) id).trans dx;have k7:aS w7 (R b 7)=H (I mx (y e) mc):=by rw[<-ae cv];exact E.cell rfl
  have k8:=bK.cellAt E 8 rfl;have k9:=bK.cellAt E 9 rfl;have f7:w7.frozen? (R b 7)=bE:=E.free;have f8:w7.frozen? (R b 8)=bE:=E.free;have f9:w7.frozen? (R b 9)=bE:=E.free;have hv:s.bB<=l:=x.bn;have hB:IntKind.i64.wrap ((s.iT:X)+(y L:X))=(s.iT:X)+(y L:X):=by rw[bO];omega
  have hD:IntKind.u64.wrap ((s.bB:X)+1)=(s.bB:X)+1:=by rw[gX];omega
  obtain⟨gb,gj,cx⟩:=dB E an dm;clear E an dm ca;go_wp2;go_ret;have f:=ae x;have w:=ae ge;have hs:=ye sn e L;obtain⟨n1,n2,n3⟩:=f.Ei HG HB;have cT:gw a (bZ (bZ (bZ w7 (R b 7)<|I x7 (y<|gh sn e L) c7) (R b 8)<|am<|(s.iT:X)+(y L:X)) (R b 9)<|aI<|(s.bB:X)+1) s.aN b j K5:=by
   have h1:gw a w7 s.aN b j K5:=w.trans ⟨w.ok.ar cx<|λ_ _=>id,cx.mono cG,λ_ q=>.inl q⟩;exact((h1.set av _ _).set av _ _).set av _ _
  have fs:=f.st.UX ao cT (λbq=>by rw[(ae n),cY<|λq=>mH _ _ q.symm]);have an:=ae gj;have hm:=cx.size;have hE:z (G a)<=z (G W6):=w.ar.size;have cl:∀q,bV (I x7 (y<|gh sn e L) c7)=H q->z (G W6)<=q/\q<z (G w7):=λq hq=>an.lt q hq;have gv:=w.ok.lt;refine⟨rfl,I x7 (y<|gh sn e L) c7,K,K5,?_,?_,cT⟩
  .exact(aQ<|aQ<|aQ gb).trans rfl
  .refine{st:=?_,qX:=?_,pr:=f.pr,lp:=?_,mem:=?_,MF:=?_,Wh:=?_,Xe:=xZ f.st.mq f.pV.len L,pV:=(f.pV.ft cT).fields ⟨rfl,rfl⟩,VC:=λhH hz=>(by have:=f.VC hH hz;show hH.2<=s.bB+1;omega),BK:=?_,Vi:=?_,vF:=f.vF,GJ:=f.GJ,nx:=?_,bn:=?_,eO:=?_,TO:=f.TO,loose:=λ_=>rfl,Ui:=λ_=>(by simp),mN:=hN}
   .refine fs.TB (C':=c+y L) ⟨rfl,rfl,rfl,rfl,rfl⟩ ?_ ?_ (ya f.st.mq sn L) n1 (by omega) hC
    .show Row _ 4 (I x7 (y<|gh sn e L) c7) _ _;refine dF ((((an.kept (cW _ _ _ _) ?_).kept (cW _ _ _ _) ?_).kept (cW _ _ _ _) ?_))<;>exact .inr (λq=>by have:=(cl b q).1;omega)
    .intro q hq;have h1:=cl q hq;refine⟨?_,λcd=>?_,by omega⟩
     .simp only[gz];exact h1.2
     .have:=gv q cd;omega
   .refine{names:=λbq F hn=>?_,state:=?_,log:=λ_=>?_,GI:=λq=>(by cases q),ze:=λhI hA=>?_,zp:=f.qX.zp,low:=f.qX.low,lt:=f.qX.lt,jd:=f.qX.jd}
    .rw[ae n]at hn;by_cases cd:iM s.log=bq
     .exact .inr<|.inl ⟨cd.symm,rfl⟩
     .rw[cY cd]at hn;rcases f.qX.names _ _ hn with q|⟨q,_⟩|q
      .exact .inl q
      .exact absurd q.symm cd
      .exact .inr<|.inr q
    .rw[ae n,cY<|sd _];exact f.qX.state
    .rw[ae n];show(if iM s.log=iM s.log then _ else _)=_;rw[dw rfl]
    .rw[ae n,cY<|λq=>mH _ _ q.symm];exact f.qX.ze hI hA
   .have gt:=f.BK;refine f.lp.snoc HG (λfz hx=>?_) ⟨bv,h8⟩ ?_ ?_
    .rw[(ae HB) fz hx,gt];push_cast;omega
    .have:=f.Vi;omega
    .have:=f.bn;have:=f.mN;omega
   .show jZ ((s.bB+1:M):X) (gh sn e L)=_;rw[dP,aW,fK,dI,yR,<-n3];push_cast
    rfl
   .intro fz hx;have:=n2 fz hx;show _/\fz.bH<=((s.bB+1:M):X);push_cast
    exact this
   .rw[aM,gl];have:=f.Wh;simp;omega
   .show s.bB+1=g+y (k++[L]);have:=f.BK;rw[af];simp only[ay,cK];omega
   .show s.iT+y L=_;rw[aM,gl,f.Vi];simp
   .show s.next<=_;have:=f.nx;omega
   .show s.bB+1<=l+1;omega
   .have h1:=f.eO;have h2:=ae gi;have h3:=ae ef;rw[h2];omega
def Inv.mono{s v:cP}{d:M}{q:fR}(h:Inv a b n j e t u s v c l P k q)(w:c<=g)(m:g<=1000000)(r:P<=d)(o:d<=100000000):Inv a b n j e t u s v g l d k q:={h with st:={h.st with qI:=by have:=h.st.qI;omega,mN:=m},nx:=by have:=h.nx;have:1000001*P<=1000001*d:=Nat.mul_le_mul_left _ r;omega,bn:=by have:=h.bn;omega,eO:=by have:=h.eO;omega,mN:=o}
def Inv.ft{s s':SR}{A:fR}(h:Inv a b s j e i p t u c g l k A)(q:b<z (G a))(w:gw a f s.aN b j O)(x:vw O.files=vw j.files)(L:y O.eO<=y j.eO)(d:s'={s with kj:=s'.kj,ki:=s'.ki,closed:=s'.closed})(o:s'.kj=bU->s.gC=bU):Inv f b s' O e i p t u c g l k A:=by
 have r:=(h.st.ft q w x).fields (s':=s') (by rw[d];exact⟨rfl,rfl,rfl,rfl,rfl⟩) (by rw[d]);have v:s'.next=s.next:=by rw[d]
 have B:s'.log=s.log:=by rw[d]
 have n:s'.gC=s.gC:=by rw[d]
 have m:s'.bB=s.bB:=by rw[d]
 have C:s'.iT=s.iT:=by rw[d]
 have D:s'.vF=s.vF:=by rw[d]
 have E:s'.mem=s.mem:=by rw[d]
 have F:s'.wH=s.wH:=by rw[d]
 have K:s'.aN=s.aN/\s'.lT=s.lT:=by rw[d];exact⟨rfl,rfl⟩
 exact⟨r,by rw[x,v,B,n];exact h.qX,h.pr,h.lp,by rw[m];exact h.mem,by rw[m];exact h.MF,h.Wh,h.Xe,(h.pV.ft w).fields K,by rw[m];exact h.VC,by rw[m];exact h.BK,by rw[C];exact h.Vi,by rw[D];exact h.vF,h.GJ,by rw[v];exact h.nx,by rw[m];exact h.bn,by have:=h.eO;omega,by rw[E,F];exact h.TO,by rw[n];exact o,by rw[n];exact h.Ui,h.mN⟩
def Inv.safe{s:SR}{x:fR}(h:Inv a b s j e i p t u c g l k x)(r:bK a b s m):cw bF 54 #[aw b] a λB n=>B=aO .nilIface/\∃d,gw a n s.aN b j d/\vw d.files=vw j.files/\bK n b {s with kj:=bE,ki:=bE} m/\Inv n b {s with kj:=bE,ki:=bE} d e i p t u c g l k x:=by
 refine(Al r h.st.aN h.st.rV h.st.lu.pow (by have:=h.qX.lt;have:=h.nx;have:=h.mN;omega) (λq=>⟨_,h.qX.log<|h.loose q,by have:=h.QI.1;omega⟩) (by have:=h.eO;have:=h.mN;omega)).mono ?_;rintro B n⟨rfl,d,v,w,A,o⟩;exact⟨rfl,d,v,w,o,h.ft (aj r) v w A rfl<|λq=>(by cases q)⟩
def ER{c:OY}(a:1<=c.key.size/\c.key.size<=8)(e:c.del=bE->c.val.size<=16)(b:0<=m)(d:m<18446744073709551616):(lV m c).Good:=by
 refine⟨a.1,a.2,?_,?_,b,d⟩
 .unfold lV;cases q:c.del with
  |true=>simp[ByteArray.size]
  |false=>simpa[q]using e q
 intro q;have f:c.del=bU:=q;simp[lV,f]
structure MD(w w':Y)(sb:M)(s:SR)(k:X)(K:DK)(C N:M)(sn:fR)(nb:M)(R0:X->ab->Option ab)(s':SR)(K':DK)(m':cA)(a' b' c' d':cP)(tb':M)(ls':dW):Prop where
 box:bK w' sb s' k
 inv:Inv w' sb s' K' m' a' b' c' d' C tb' N ls' sn
 wI:∀t,(t∈so sn\/t=(nb:X))->∀q,fU t (m'::cF a' b' c' d') q=R0 t q
 ft:gw w w' s.aN sb K K'
 same:s'.aN=s.aN/\s'.closed=s.closed/\s'.mem=s.mem/\s'.wH=s.wH/\s'.ia=s.ia/\s'.lT=s.lT
 BK:s'.bB=nb
def nI(w n:Y)(a:M)(s:SR)(o:X)(K:DK)(C N:M)(m:fR)(k:M)(e:X->ab->Option ab):Prop:=∃l d j f g h i c b,MD w n a s o K C N m k e l d j f g h i c b
def nI.ar{x p w':Y}{o:fR}{e:X->ab->Option ab}(h:nI p w' b n m j c g o l e)(k:Z az x p):nI x w' b n m j c g o l e:=by
 obtain⟨w,r,v,s,b',t,u,d,a,h⟩:=h;exact⟨w,r,v,s,b',t,u,d,a,h.box,h.inv,h.wI,⟨h.ft.ok,(k.mono (T:=λm=>j.aZ n.aN m\/m=b) cG).trans h.ft.ar<|λ_ q=>.inl q,λm q=>(h.ft.aZ m q).imp id<|λA=>aD k.size A⟩,h.same,h.BK⟩
def Inv.ym{d:fR}(o:Inv a b n j e i p t u c g l k d)(f:m∈so d\/m=(n.bB:X))(q:ab):fU m (e::cF i p t u) q=fU m (gh d e []::cF i p t u) q:=by
 unfold fU;rw[show gh d e []=eG (so d) e from rfl,Is o.row<|f.imp_right (λr x h=>by rw[r];exact(o.MF x h).2)]
def wq(n:M)(a:cA):M:=if y a=0 then n else n+1
def VQ{bq:cP}(B:fR){O:uz}(ao:Bool)(h:bK a b n m)(hV:Inv a b n j e p t u bq c g l k B)(hc:xW a d O)(cb:∀m,bV d=H m->m<z (G a))(h8:y O<=8)(hk:∀au∈O,1<=au.key.size/\au.key.size<=8)(hv:∀au∈O,au.del=bE->au.val.size<=16)(cj:∀au∈O,au.val.size<=140737488351232)(hC:c+y O<=1000000)(hN:l+1<=100000000):cw bF 45 #[aw b,d,aL ao] a λbk w'=>bk=aO .nilIface/\nI a w' b n m j (c+y O) (l+1) B (wq n.bB<|O.map<|lV<|(n.bB:X)+1) (λbo=>fU bo<|gh B e (O.map<|lV<|(n.bB:X)+1)::cF p t u bq):=by
 have ch:=aj h;have dn:=hV.bn;have N:=LY ((n.bB:X)+1) hc cb (by omega)<|λau P=>⟨by have:=(hk au P).2;omega,cj au P⟩;obtain⟨o,S⟩:∃o,O.map (lV<|(n.bB:X)+1)=o:=⟨_,rfl⟩;rw[S]at N|-;have bn:y o=y O:=by rw[<-S];simp
 have T:∀au∈o,au.Good:=λau P=>by rw[<-S]at P;obtain⟨bp,hy,rfl⟩:=aY.1 P;exact ER (hk bp hy) (hv bp hy) (by omega)<|by omega
 have bf:∀au∈o,au.bH=(n.bB:X)+1:=λau P=>by rw[<-S]at P;obtain⟨bp,hy,rfl⟩:=aY.1 P;rfl
 obtain⟨ee,ed,cv⟩:=bL hc;subst cv;rw[<-bn]at N hC h8|-;have k9:=bK.cellAt h 9 rfl;have ec:IntKind.u64.wrap ((n.bB:X)+1)=(n.bB:X)+1:=by rw[gX];omega
 obtain⟨HH,HV,HG,bs⟩:=gx h hV T bf;have dx:y O=y o:=bn.symm;clear h hV T bf hc cb hk hv cj S bn;go_in
 go_wp2_with fail
 apply N.mono;rintro bk L⟨v1,rfl,bb,al⟩;obtain⟨x1,c1,cM⟩:=aB bb;subst cM;have bm:gw a L n.aN b j j:=⟨HV.st.aN.ar al<|λ_ _=>id,al.mono cG,λ_ q=>.inl q⟩;have ca:bK L b n m:=(al.block b ch id).trans HH;have bv:Inv L b n j e p t u bq c g l k B:=HV.ft ch bm rfl (ah _) rfl HV.loose;have hA1:∀q,bV (I x1 (y o) c1)=H q->Aside L j n.aN b q:=λq hq=>by have f:=bb.lt q hq;exact⟨f.2,λg=>by have:=HV.st.aN.lt q g;omega,by omega⟩
 obtain⟨bt,av,x,w,br,dc⟩:=kF bb al ca bv hA1 bm;clear bb al ca bv hA1 bm N HV HH;by_cases hz:y o=0
 .have f:o=[]:=aP hz;have cB:¬(0:X)<(y o:X):=by omega
  cases ao with
  |true=>
   have ac:=w.safe x;go_wp2_with fail
   apply ac.mono;rintro bk w2⟨rfl,K2,F,r,E,D⟩;have HP:=U<|show nI L w2 b n m j (c+y o) (l+1) B (wq n.bB o) (λbo=>fU bo<|gh B e o::cF p t u bq)from⟨_,K2,e,p,t,u,bq,g,k,E,D.mono (by omega) hC (by omega) hN,λbo ht q=>by rw[f]at ht|-;exact D.ym ht q,F,⟨rfl,rfl,rfl,rfl,rfl,rfl⟩,by rw[f];rfl⟩;clear F r E D ac;go_wp2;go_ret;exact⟨rfl,HP.ar av⟩
  |false=>
   have HP:=U<|show nI L L b n m j (c+y o) (l+1) B (wq n.bB o) (λbo=>fU bo<|gh B e o::cF p t u bq)from⟨n,j,e,p,t,u,bq,g,k,x,w.mono (by omega) hC (by omega) hN,λbo ht q=>by rw[f]at ht|-;exact w.ym ht q,gw.refl w.st.aN,⟨rfl,rfl,rfl,rfl,rfl,rfl⟩,by rw[f];rfl⟩;go_wp2;go_ret;exact⟨rfl,HP.ar av⟩
 .have cB:(0:X)<(y o:X):=by omega
  have k8:=bK.cellAt x 8 rfl;have k3:=bK.cellAt x 3 rfl;have cl:aS L (R b 19)=H (aL bE):=by rw[<-(ae w).vF];exact x.cell rfl
  have k7:∃mx mc,n.memory=I mx (y e) mc:=by
   obtain⟨au,u,bk⟩:=bL w.st.mem;exact⟨au,u,bk⟩
  obtain⟨mx,mc,ce⟩:=k7;have k7:aS L (R b 7)=H (I mx (y e) mc):=by rw[<-ce];exact x.cell rfl
  have k9:=bK.cellAt x 9 rfl;have dv:n.iT<32:=by rw[(ae w).Vi];exact w.lp.sum
  have eb:IntKind.i64.wrap ((n.iT:X)+(y o:X))=(n.iT:X)+(y o:X):=by rw[bO];omega
  clear ce;by_cases cx:n.mem<=(n.iT:X)+(y o:X)
  .go_wp2_with fail
   go_quiet(fail)
   go_wp2_with fail
   obtain⟨f,hU⟩:∃f,L.drewN nq=f:=⟨_,rfl⟩;have A:Z az L f:=by rw[<-hU];exact gP _ _ _
   have K:gw L f n.aN b j j:=⟨w.st.aN.ar A<|λ_ _=>id,A.mono cG,λ_ q=>.inl q⟩;have C:bK f b n m:=(A.block b (aj x) id).trans x;have s:Inv f b n j e p t u bq c g l k B:=w.ft (aj x) K rfl (ah _) rfl w.loose;have Q:∀q,bV (I x1 (y o) c1)=H q->Aside f j n.aN b q:=λq hq=>(br q hq).ft K;have W:=A.own bt<|λ_ _ q=>q;have ax:=U<|av.ci A;rw[hU];clear hU;have dT:=s.Wg;have bg:wq n.bB o=n.bB+1:=by unfold wq;rw[cY hz]
   have cd:gw f f.drew n.aN b j j:=qP s.st.aN<|below_drewN (Below.refl _ f) 1;obtain⟨mb,m1,m2,m3⟩:=(s.pV.ft cd).ex;have bi:=AW b n m B (I x1 (y o) c1) o (by exact C) m1 m2 s.pV.len (by exact s.st.mem) (λq hq=>(s.st.sW q hq).lt) (dF<|by exact W) (λq hq=>(Q q hq).lt) s.st.mq (by omega);have ck:cw bF 73 #[aw b,I x1 (y o) c1] f.drew λbk w'=>∃a,bk=aO a/\w'.ownsRow (z<|G f) 164 4 a (y<|gh B e o) (aE<|gh B e o)/\Z az f.drew w':=bi;clear bi m1 m2 m3 cd;have bh:∀w6 v6,w6.ownsRow (z<|G f) 164 4 v6 (y<|gh B e o) (aE<|gh B e o)->Z az f.drew w6->cw bF 72 #[aw b,v6,aI<|(n.bB:X)+1] w6 λbk w'=>bk=aO .nilIface/\nI w6 w' b n m j (c+y o) (l+1) B (wq n.bB o) (λbo=>fU bo<|gh B e o::cF p t u bq):=λw6 v6 V an=>by
    have ad:Z az f w6:=(bX az f).ci an;have cc:gw f w6 n.aN b j j:=⟨s.st.aN.ar ad<|λ_ _=>id,ad.mono cG,λ_ q=>.inl q⟩;have r:=s.ft (aj C) cc rfl (ah _) rfl s.loose;have cu:bK w6 b n m:=(ad.block b (aj C) id).trans C;have ea:=ye B e o;obtain⟨n1,n2,n3⟩:=r.Ei HG bs;have ds:=r.BK;have cE:=DB v6 (c+y o) (n.bB+1) cu r.st r.GJ r.pr (dF V) (λq hq=>(V.lt q hq).2) (ya r.st.mq B o) (xZ r.st.mq r.pV.len o) n1 (by omega) (λau P=>(n2 au P).1) (λau P=>by have:=(n2 au P).2;push_cast;exact this) (by omega) (by have:=r.st.qI;omega) hC r.TO.2.2.1 r.qX r.QI.1 (by omega) (by have:=r.nx;have:=r.mN;omega) (by have:=r.eO;have:=r.mN;omega) B r.pV;apply cE.mono;rintro bk w'⟨rfl,v0,v1,v2,v3,K',num,a',b',c',d',hO⟩;exact⟨rfl,_,K',[],a',b',c',d',n.bB+1,[],hO.box,hO.inv r.TO r.nx (by omega) hN r.pV r.VC (by omega),λbo ht q=>by rw[sO];exact hO.wI bo (ht.imp_right (λbk=>by rw[bk,bg];push_cast;omega)) q,hO.ft,⟨rfl,rfl,rfl,rfl,rfl,rfl⟩,bg.symm⟩
   have db:=bK.cellAt C 9 rfl;obtain⟨co,bu,cm,dd⟩:=gx ck bh s C;clear ck bh s C Q W K A k7 k8 k9 k3 cl;rename_i KK bT;have ba:aS f.drew (R b 9)=H (aI n.bB):=db;refine ot (λ(bl:Y)=>aS bl (R b 9)=H (aI n.bB)) 9 (by kernel_rfl) ?_;refine uL 0 ?_;iterate 3 (refine AU (v:=?_) ba rfl (by kernel_rfl) iO rfl ?_ ?_;rotate_left;(focus(rintro bl z9;go_simp;try rfl));simp only[Act.put,cX,Nat.reduceAdd])
   apply AT;refine uL 4 ?_;iterate 5 (refine AU (v:=?_) ba rfl (by kernel_rfl) iO rfl ?_ ?_;rotate_left;(focus(rintro bl z9;go_simp;try rfl));simp only[Act.put,cX,Nat.reduceAdd])
   apply AT;refine dL (i:=3) rfl rfl (by kernel_rfl) ?_;intro K6 bx;go_simp;apply co.mono;rintro bk w6⟨v6,rfl,V,an⟩;obtain⟨x6,c6,cT⟩:=aB V;subst cT;have cs:aS w6 (R b 9)=H (aI n.bB):=an.cell ba id<|qZ ba;refine bx _ _ (λ_=>cs) ?_;clear bx;try simp only[Act.put,cX]
   refine dL (i:=9) rfl rfl (by kernel_rfl) ?_;intro dk bc;go_simp;apply(bu w6 _ V an).mono;rintro bk w7⟨rfl,cp⟩;have cn:=U cp;refine bc _ _ (λq=>by omega) ?_;clear bc;try simp only[Act.put,cX]
   refine dL (i:=10) rfl rfl (by kernel_rfl) ?_;intro dm bd;go_simp;refine bd _ _ (λq=>by omega) ?_;refine kh (by kernel_rfl) ?_ _;show KK _ _;apply bT;clear bT bd;go_wp2;go_ret;exact⟨rfl,cn.ar<|(ax.ci<|bX az f).ci an⟩
  .go_wp2_with fail
   go_quiet(fail)
   go_wp2_with fail
   obtain⟨f,hU⟩:∃f,L.drewN nq=f:=⟨_,rfl⟩;have A:Z az L f:=by rw[<-hU];exact gP _ _ _
   have K:gw L f n.aN b j j:=⟨w.st.aN.ar A<|λ_ _=>id,A.mono cG,λ_ q=>.inl q⟩;have C:bK f b n m:=(A.block b (aj x) id).trans x;have s:Inv f b n j e p t u bq c g l k B:=w.ft (aj x) K rfl (ah _) rfl w.loose;have Q:∀q,bV (I x1 (y o) c1)=H q->Aside f j n.aN b q:=λq hq=>(br q hq).ft K;have W:=A.own bt<|λ_ _ q=>q;have ax:=U<|av.ci A;rw[hU];clear hU;have r:=Nv B C s (dF W) Q (by omega) h8 HG bs (by have:=s.TO;omega) hC hN;have cm:=U s;clear s C Q W K A k7 k8 k9 k3 cl;apply r.mono;rintro bk w2⟨rfl,bg,bd,K2,E,D,F⟩;cases ao with
   |true=>
    have ac:=D.safe E;have ba:=U F;clear r E D F;go_wp2_with fail
    apply ac.mono;rintro bk w3⟨rfl,K3,ad,bc,V,an⟩;have HP:=U<|show nI f w3 b n m j (c+y o) (l+1) B (wq n.bB o) (λbo=>fU bo<|gh B e o::cF p t u bq)from⟨_,K3,_,p,t,u,bq,g,_,V,an,λ_ _ _=>rfl,ba.trans ad,⟨rfl,rfl,rfl,rfl,rfl,rfl⟩,by unfold wq;rw[cY hz];rfl⟩;clear ad bc V an ac;go_wp2;go_ret;exact⟨rfl,HP.ar ax⟩
   |false=>
    have HP:=U<|show nI f w2 b n m j (c+y o) (l+1) B (wq n.bB o) (λbo=>fU bo<|gh B e o::cF p t u bq)from⟨_,K2,_,p,t,u,bq,g,_,E,D,λ_ _ _=>rfl,F,⟨rfl,rfl,rfl,rfl,rfl,rfl⟩,by unfold wq;rw[cY hz];rfl⟩;clear r E D F;go_wp2;go_ret;exact⟨rfl,HP.ar ax⟩
section
open Go.Conc.Locks
def Jr{a:uz}(h:lL a=0):(∀x∈a,1<=x.key.size/\x.key.size<=8)/\∀x∈a,x.del=bE->x.val.size<=16:=by
 induction a with
 |nil=>simp
 |cons j r f=>
  unfold lL at h;split at h
  .cases h
  .rename_i k;split at h
   .cases h
   .rename_i d;obtain⟨g,i⟩:=f h;constructor
    .intro x c;rcases aA.1 c with e|e
     .rw[e];omega
     .exact g x e
    .intro x c b;rcases aA.1 c with e|e
     .rw[e]at b|-;have:¬16<j.val.size:=λg=>d ⟨b,g⟩;omega
     .exact i x e b
def CB{a:uz}(h:fY a=0):y a<=8/\(∀x∈a,1<=x.key.size/\x.key.size<=8)/\∀x∈a,x.del=bE->x.val.size<=16:=by
 unfold fY at h;split at h;cases h;rename_i b;exact⟨by omega,Jr h⟩
def Sn(h:bK a b n m):cw bF 44 #[aw b,.nilIface] a λg e=>g=aO .nilIface/\Below (z<|G<|bZ a (R b 6) .nilIface) (bZ a (R b 6) .nilIface) e:=by
 have i:=bK.cellAt h 6 rfl;have j:a.frozen? (R b 6)=bE:=h.free;have d:=GX<|bZ a (R b 6) .nilIface;clear h;go_in
 go_wp2_with fail
 apply d.mono;rintro g e⟨rfl,c⟩;have f:=U c;clear c d;go_wp2;go_ret;exact⟨rfl,f⟩
def zM(r:aa)(g:Bool)(h:bK a b n 0)(m:n.closed=bU):cw bF 13 #[aw b,r,aL g] a λo l=>o=aO (lE 6)/\bK l b n 0/\Z (λv=>v=b) a l:=by
 have q:=bK.cellAt h 0 rfl;have t:a.frozen? (R b 0)=bE:=h.free;have k:=h.gQ 1;have c:=ja k;rw[m]at c;simp only[jf]at c;have p:=U<|λi j=>rl (W2:=i) k ((Z.refl (λv=>v=b) a).setCell b 0 _<|.inl rfl) j;clear h k m;rw[xM]at c|-;go_enter_defers func13,ntmps13
 go_wp2_with fail
 apply(lock_free (R b 0) _ q t).mono;rintro o l⟨rfl,rfl⟩;go_wp2_with fail
 apply c.mono;rintro o i⟨rfl,j⟩;obtain⟨s,u,d⟩:=p i j;have e:=U d;clear d j c;go_wp2;refine eZ (f:=41) (args:=#[aw b]) (by simp) (by simp[go_sem]) ?_;apply(unlock_deferred (R b 0) .returning _ s u).mono;rintro o x w⟨rfl,rfl,rfl⟩;exact⟨_,gL rfl _ _ _,rfl,e⟩
def lw(a:uz):M:=if fY a=0 then y a else 0
def yS(n:M)(a:uz):M:=if fY a=0 then wq n (a.map<|lV<|(n:X)+1)else n
def xg(c:fR)(m:cA)(a:dW)(n:X)(b:uz)(t:X):ab->Option ab:=if fY b=0 then fU t (gh c m (b.map<|lV n)::a)else fU t (m::a)
def MD.fin{E:fR}{D:X->ab->Option ab}{r:SR}(h:MD a f b n 1 j c g E l D r O e i p t u B k)(s:Below (z<|G<|bZ f (R b 6) .nilIface) (bZ f (R b 6) .nilIface) C):aS C (R b 0)=H (jn 1)/\C.frozen? (R b 0)=bE/\MD a (bZ C (R b 0)<|jn 0) b n 0 j c g E l D r O e i p t u B k:=by
 have o:¬O.aZ n.aN b:=by have:=h.inv.st.rV;rw[h.same.1]at this;exact this
 have A:=aj h.box;have v:bK (bZ f (R b 6) .nilIface) b r 1:=(aQ h.box).trans rfl;have d:bK C b r 1:=v.ar (Z.aT (S:=az) s) id;have m:=h.ft.set o 6 .nilIface;have w:=(m.trans<|qP (sbqq:=b) m.ok s).set o 0<|jn 0;have q:=(gw.refl h.inv.st.aN (sbqq:=b)).set h.inv.st.rV 6 .nilIface;have x:gw f (bZ C (R b 0)<|jn 0) r.aN b O O:=(q.trans<|qP (sbqq:=b) q.ok s).set h.inv.st.rV 0<|jn 0;exact⟨d.cell rfl,d.free,d.gQ 0,h.inv.ft A x rfl (ah _) rfl h.inv.loose,h.wI,w,h.same,h.BK⟩
def Dh(T:fR){o:uz}(P:Bool)(h:bK a b n 0)(hV:Inv a b n j e i p t u c g l k T)(bg:n.closed=bE)(hc:xW a d o)(ad:∀O,bV d=H O->O<z (G a)/\O≠b)(hz:∀bn∈o,bn.key.size<=140737488351232/\bn.val.size<=140737488351232)(hr:y o<=1000000000)(hC:c+lw o<=1000000)(hN:l+1<=100000000):cw bF 13 #[aw b,d,aL P] a λao C=>ao=aO (lE<|fY o)/\nI a C b n 0 j (c+lw o) (l+1) T (yS n.bB o) (xg T e (cF i p t u) ((n.bB:X)+1) o):=by
 have bi:=aj h;have c0:=bK.cellAt h 0 rfl;have f0:a.frozen? (R b 0)=bE:=h.free;have F:=kX hV.st.aN hV.st.rV 1;have h1:=h.gQ 1;have A:=hV.ft bi F rfl (ah _) rfl hV.loose;have ax:Z (λO=>O=b) a (bZ a (R b 0)<|jn 1):=(Z.refl (λO=>O=b) a).setCell b 0 _<|.inl rfl;have ac:xW (bZ a (R b 0)<|jn 1) d o:=ax.row hc<|λO B=>⟨(ad O B).2,(ad O B).1⟩;have r:∀O,bV d=H O->O<z (G<|bZ a (R b 0)<|jn 1):=λO B=>by rw[gz];exact(ad O B).1
 generalize hW:bZ a (R b 0) (jn 1)=Q at F h1 A ax ac r;have N:=ja h1;rw[bg]at N;have an:cw bF 42 #[aw b] Q λao C=>ao=aO .nilIface/\Below (z<|G Q) Q C:=N;have s:∀Wr,Z az Q Wr->cw bF 43 #[d] Wr λao C=>ao=aO (lE<|fY o)/\Z az Wr C:=λWr a=>Lj (a.row ac<|λO B=>⟨id,r O B⟩) (λO B=>ag (r O B) a.size) (by omega) hz;have K:fY o=0->∀x,Z az Q x->cw bF 45 #[aw b,d,aL P] x λao C=>ao=aO .nilIface/\nI a C b n 1 j (c+lw o) (l+1) T (yS n.bB o) (xg T e (cF i p t u) ((n.bB:X)+1) o):=λw x m=>by obtain⟨q1,q2,q3⟩:=CB w;have al:gw Q x n.aN b j j:=⟨A.st.aN.ar m<|λ_ _=>id,m.mono cG,λ_ q=>.inl q⟩;have bf:=A.ft (aj h1) al rfl (ah _) rfl A.loose;have D:bK x b n 1:=(m.block b (aj h1) id).trans h1;(have bd:lw o=y o:=by unfold lw;rw[dw w]);(have bk:xg T e (cF i p t u) ((n.bB:X)+1) o=λbo=>fU bo (gh T e (o.map<|lV<|(n.bB:X)+1)::cF i p t u):=by funext bo;unfold xg;rw[dw w]);(have bh:yS n.bB o=wq n.bB (o.map<|lV<|(n.bB:X)+1):=by unfold yS;rw[dw w]);rw[bd,bk,bh];refine(VQ T P D bf (m.row ac<|λO B=>⟨id,r O B⟩) (λO B=>ag (r O B) m.size) q1 q2 q3 (λbn hx=>(hz bn hx).2) (by rw[<-bd];exact hC) hN).mono ?_;rintro ao C⟨rfl,s',K',m',a',b',c',d',bc,bb,S⟩;exact⟨rfl,s',K',m',a',b',c',d',bc,bb,S.box,S.inv,S.wI,(F.trans al).trans S.ft,S.same,S.BK⟩
 have L:fY o≠0->∀x,Z az Q x->aS x (R b 0)=H (jn 1)/\x.frozen? (R b 0)=bE/\nI a (bZ x (R b 0)<|jn 0) b n 0 j (c+lw o) (l+1) T (yS n.bB o) (xg T e (cF i p t u) ((n.bB:X)+1) o):=λw x m=>by have al:gw Q x n.aN b j j:=⟨A.st.aN.ar m<|λ_ _=>id,m.mono cG,λ_ q=>.inl q⟩;have D:bK x b n 1:=(m.block b (aj h1) id).trans h1;have bd:=(F.trans al).set hV.st.rV 0<|jn 0;refine⟨D.cell rfl,D.free,n,j,e,i,p,t,u,g,k,D.gQ 0,(hV.ft bi bd rfl (ah _) rfl hV.loose).mono (by omega) hC (by omega) hN,λbo _ q=>by unfold xg;rw[cY w],bd,⟨rfl,rfl,rfl,rfl,rfl,rfl⟩,by unfold yS;rw[cY w]⟩
 obtain⟨cx,cc,bl⟩:=bL hc;subst bl;obtain⟨au,av,HW,V⟩:=gx K L hW s;clear h hV F h1 A bg hW K L hc ad ac r ax hz N s;by_cases w:fY o=0;(.have K:=au w;(have W:lE (fY o)=.nilIface:=by rw[w];rfl);rw[W]at V|-;clear au av w;(go_enter_defers func13,ntmps13);(go_wp2_with fail);apply(lock_free (R b 0) _ c0 f0).mono;rintro ao C⟨rfl,ba⟩;rw[ae HW]at ba;subst C;(go_wp2_with fail);apply an.mono;rintro ao Wr⟨rfl,E⟩;have v:Z az Q Wr:=Z.aT E;have s:=V Wr v;clear E an;(go_wp2_with fail);apply s.mono;rintro ao w2⟨rfl,m⟩;have hd:=K w2<|v.ci m;clear K s m v;(go_wp2_with fail);apply hd.mono;rintro ao w3⟨rfl,s',K',m',a',b',c',d',bc,bb,S⟩;have bh:=Sn S.box;have HO:=U S;clear S hd;(go_wp2_with fail);apply bh.mono;rintro ao w4⟨rfl,bf⟩;obtain⟨d0,g0,bd⟩:=HO.fin bf;have bk:=U bd;clear bd bf bh;go_wp2;refine eZ (f:=41) (args:=#[aw b]) (by simp) (by simp[go_sem]) ?_;apply(unlock_deferred (R b 0) .returning _ d0 g0).mono;rintro ao u' bm⟨rfl,rfl,rfl⟩;exact⟨_,gL rfl _ _ _,rfl,s',K',m',a',b',c',d',bc,bb,bk⟩);have L:=av w;obtain⟨bd,hn⟩:∃bd,fY o=bd:=⟨_,rfl⟩;(have W:lE (fY o)=.iface 55 (am bd):=by unfold lE;rw[cY w,hn]);rw[W]at V|-;clear au av w hn W;(go_enter_defers func13,ntmps13);(go_wp2_with fail);apply(lock_free (R b 0) _ c0 f0).mono;rintro ao C⟨rfl,ba⟩;rw[ae HW]at ba;subst C;(go_wp2_with fail);apply an.mono;rintro ao Wr⟨rfl,E⟩;have v:Z az Q Wr:=Z.aT E;have s:=V Wr v;clear E an;(go_wp2_with fail);apply s.mono;rintro ao w2⟨rfl,m⟩;obtain⟨d0,g0,hP⟩:=L w2<|v.ci m;have HP:=U hP;clear L s m v hP;go_wp2;refine eZ (f:=41) (args:=#[aw b]) (by simp) (by simp[go_sem]) ?_;apply(unlock_deferred (R b 0) .returning _ d0 g0).mono;rintro ao u' bm⟨rfl,rfl,rfl⟩;exact⟨_,gL rfl _ _ _,rfl,HP⟩
end
def bI.pX(t:bI):bI:={t with tb:=0}
def kY(b a:cP):Prop:=a.map bI.pX=b.map bI.pX
def kY.length(h:kY i p):y p=y i:=by
 have:=bS y h;simpa using this
def kY.nil(h:kY [] i):i=[]:=oR.1 h.length
def kY.append(h:kY i p)(k:kY t u):kY (i++t) (p++u):=by
 unfold kY at*;rw[aM,aM,h,k]
def kY.map{α:Type}(h:kY i p)(f:bI->α)(a:∀t,f t.pX=f t):p.map f=i.map f:=by
 have e:∀l:cP,l.map f=(l.map bI.pX).map f:=λl=>by rw[iR];exact nU<|λt _=>(a t).symm
 rw[e p,e i];exact bS _ h
def kY.mem(h:kY i p){t:bI}(a:t∈p):∃u∈i,u.pX=t.pX:=by
 have:t.pX∈p.map bI.pX:=hZ a;rw[h]at this;obtain⟨u,b,e⟩:=aY.1 this;exact⟨u,b,e⟩
def kY.symm(h:kY i p):kY p i:=Eq.symm h
def xh{u:bI}(h:u.pX=S.pX):u.num=S.num:=(bS bI.num h:u.pX.num=S.pX.num)
def zU{u:bI}(h:u.pX=S.pX):u.cs=S.cs:=(bS bI.cs h:u.pX.cs=S.pX.cs)
def Pj{u:bI}(h:u.pX=S.pX):u.ks=S.ks:=(bS bI.ks h:u.pX.ks=S.pX.ks)
def kY.all(h:kY i p):p.map bI.all=i.map bI.all:=h.map _<|λ_=>rfl
def kY.cf(h:kY i p):cf p=cf i:=by unfold Go.Proofs.YtnfehfmncheoiaaGreatDoor.cf;rw[h.all]
def kY.cF{g a h b:cP}(c:kY i p)(d:kY t u)(e:kY g a)(f:kY h b):cF p u a b=cF i t g h:=by
 unfold Go.Proofs.YtnfehfmncheoiaaGreatDoor.cF;rw[c.all,d.cf,e.cf,f.cf]
def kY.oC(h:kY i p):oC p=oC i:=by
 unfold Go.Proofs.YtnfehfmncheoiaaGreatDoor.oC;have:p.map uw=i.map uw:=h.map _<|λ_=>rfl;rw[h.length,List.flatMap_def,List.flatMap_def,this]
def kY.side(h:kY i p)(a:ly i):ly p:=by
 refine⟨λt b=>?_,?_,?_⟩;obtain⟨u,c,e⟩:=h.mem b;rw[<-Pj e,<-zU e];exact a.pure u c;rw[h.cf];exact a.mq;rw[h.all];exact a.CT
def kY.WY(k:kY i p)(g:∀t∈i,Fj t):∀t∈p,Fj t:=λt h=>by
 obtain⟨u,j,f⟩:=k.mem h;obtain⟨a,b,c,d,e⟩:=g u j;rw[Pj f,zU f]at a b;rw[zU f]at c d;rw[xh f]at e;exact⟨a,b,c,d,e⟩
def SP.YI{w:Fs}{f j l m:cP}(h:SP w b c g i p t u D k)(n:kY i f)(o:kY p j)(r:kY t l)(s:kY u m):SP w b c g f j l m D k:=by
 have a:kY (i++p++t++u) (f++j++l++m):=((n.append o).append r).append s;refine⟨λO A K=>?_,?_,h.log,h.GI,λN d=>?_,?_,λN d=>?_,h.lt,a.WY h.jd⟩;rcases h.names O A K with q|q|⟨N,d,q⟩;exact .inl q;exact .inr<|.inl q;obtain⟨x,e,v⟩:=a.symm.mem d;exact .inr<|.inr ⟨x,e,by rw[xh v];exact q⟩;rcases h.state with q|⟨q,B,C,E,F,L⟩;refine .inl<|q.trans ?_;unfold iG;simp only[aX,eY,n.oC,o.oC,r.oC,s.oC];subst B C E F;exact .inr ⟨q,n.nil,o.nil,r.nil,s.nil,L⟩;obtain⟨x,e,v⟩:=a.mem d;rw[<-xh v,<-zU v];exact h.ze x e;rw[a.map bI.num<|λ_=>rfl];exact h.zp;obtain⟨x,e,v⟩:=a.mem d;rw[<-xh v];exact h.low x e
structure wN(w:Y)(db:M)(K:DK)(a b c d:cP)(C tb N nx lg:M)(gC:Bool)(ls:dW):Prop where
 aN:cJ w db K
 qX:SP (vw K.files) nx lg tb a b c d gC ls
 pr:PR tb (cF a b c d)
 lp:Fp ((tb:X)+1) ls
 qI:y (gK [] ls.flatten)+y (cf a)+y (cf b)+y (cf c)+y (cf d)<=C
 mN:C<=1000000
 s1:ly b
 s2:ly c
 s3:ly d
 Ui:gC=bU->ls≠[]
 nx:nx<=2+1000001*N
 bn:tb+y ls<=N
 eO:y K.eO<=1000001+2*N
 JU:N<=100000000
 steps:Steps w
 pow:Pow w
 fC:¬K.aZ db 1
 me:¬K.aZ db 2
def zP{ts:cP}(h:∀t∈ts,Fj t):y ts<=y (cf ts):=lK<|λt a=>(h t a).pure
def wN.count(h:wN a b j i p t u c g l B P D k):y (i++p++t++u)<=1000000:=by
 have e:=h.qX.jd;have m:=zP (ts:=i) (λf d=>e f<|by simp[d]);have n:=zP (ts:=p) (λf d=>e f<|by simp[d]);have o:=zP (ts:=t) (λf d=>e f<|by simp[d]);have q:=zP (ts:=u) (λf d=>e f<|by simp[d]);have:=h.qI;have:=h.mN;simp only[af];omega
def CI(w:Y)(d c:M)(e:iV)(t:bI):Prop:=∃b a,lR w t.tb (aw d) t.num (y<|dG t.cs) (y<|fc<|bM 0 t.cs) (mr<|fc<|bM 0 t.cs) b 0 a aK t.ks/\c<t.tb/\t.tb<z (G w)/\c<b/\b<z (G w)/\∀(j:M)(v:aa),e[j]?=H v->bV v≠H t.tb/\bV v≠H b
structure CK(w0 wr:Y)(db:M)(K K1:DK)(gb lb:M)(mv vs:iV)(Ts:cr cP):Prop where
 Rs:wr.heap[gb]?=H (aq mv.toArray 185 (0,0))
 box:wr.heap[lb]?=H (aq vs.toArray 107 (0,0))
 zc:y vs=4
 Dn:y Ts=4
 rows:∀(j:M)(v:aa)(T:cP),vs[j]?=H v->Ts[j]?=H T->wr.ownsRow (lb+1) 224 1 v (y T) (T.map bI.ptr)
 ne:∀(j j':M)(v v':aa)(q:M),j≠j'->vs[j]?=H v->vs[j']?=H v'->bV v=H q->bV v'≠H q
 aN:cJ wr db K1
 same:K1.files=K.files/\K1.eO=K.eO/\∀k,K1.aZ db k->K.aZ db k
 ze:∀t∈Ts.flatten,CI wr db lb vs t
 GJ:(Ts.flatten.map bI.tb).Nodup
 ar:Z (K.aZ db) w0 wr
 low:∀k,K.aZ db k->k<z (G w0)
 ord:z (G w0)<=gb/\gb<lb/\lb<z (G wr)
def Ax{t:bI}:∀{a:cr cP}{b:M},a[b]?=H i->List.Perm (a.set b<|i++[t]).flatten (t::a.flatten)
 |[],b,h=>by simp at h
 |Uqq::a,0,h=>by
  simp at h;subst h;rw[gy,aW,aW,aU];exact kU
 |Uqq::a,b+1,h=>by
  rw[oU]at h;rw[fT,aW,aW];exact((lz Uqq<|Ax h).trans kU)
def CK.row{o wr:Y}{k:DK}{f:iV}{a:cr cP}(m:CK o wr b O k c g x f a){j:M}(e:f[j]?=H d):∃T,a[j]?=H T/\wr.ownsRow (g+1) 224 1 d (y T) (T.map bI.ptr):=by
 have n:j<4:=by rw[<-m.zc];rcases dE j (y f)with l|l;exact l;rw[dq l]at e;cases e
 have h:a[j]?=H (a[j]'(by rw[m.Dn];exact n)):=aH _;exact⟨_,h,m.rows j d _ e h⟩
def CK.own{n wr:Y}{a:iV}{e:cr cP}(o:CK n wr b j O c g x a e)(m:a[l]?=H d){q:M}(h:bV d=H q):g<q/\q<z (G wr):=by
 obtain⟨D,_,k⟩:=o.row m;have:=aF k q h;omega
def CK.cell{e wr:Y}{a:iV}{d:cr cP}(k:CK e wr b j O c g x a d)(h:M):aS wr (R g h)=a[h]?:=by
 rw[bR k.box];simp
def CK.Yb{e wr:Y}{d:iV}{a:cr cP}(h:CK e wr b j O c g x d a)(f:M):aS wr (R c f)=x[f]?:=by
 rw[bR h.Rs];simp
def CI.ar{S:fI}{w w':Y}{t:bI}(k:CI w b c x t)(d:Z S w w')(h:∀p,S p->p<=c):CI w' b c x t:=by
 obtain⟨j,a,o,l,e,m,g,n⟩:=k;refine⟨j,a,o.dh (d.block _ e (λk=>by have:=h _ k;omega))<|d.block _ g (λk=>by have:=h _ k;omega),l,ag e d.size,m,ag g d.size,n⟩
def CK.move{s wr n:Y}{i:DK}{r:iV}{o:cr cP}(h:CK s wr b j O c g x r o)(f:Z W wr n)(p:∀k,W k->j.aZ b k\/c<k/\k<g)(t:cJ n b i)(m:i.files=O.files/\i.eO=O.eO/\∀k,i.aZ b k->O.aZ b k):CK s n b j i c g x r o:=by
 have l:=h.low;have a:=h.ord;have d:∀k,W k->k<c\/c<k/\k<g:=λk a=>(p k a).imp (λe=>by have:=l k e;omega) id;refine⟨?_,?_,h.zc,h.Dn,?_,h.ne,t,⟨m.1.trans h.same.1,m.2.1.trans h.same.2.1,λk e=>h.same.2.2 k<|m.2.2 k e⟩,?_,h.GJ,?_,l,?_⟩;exact(f.block c (aj h.Rs) (λe=>by have:=d _ e;omega)).trans h.Rs;exact(f.block g (aj h.box) (λe=>by have:=d _ e;omega)).trans h.box;exactλk v T a c=>f.own (h.rows k v T a c) (λq g e=>by have:=h.own a g;have:=d _ e;omega);exactλt a=>(h.ze t a).ar f (λk e=>by have:=d _ e;omega);exact h.ar.trans f (λk e=>(p k e).imp id<|λe=>by omega);exact⟨a.1,a.2.1,ag a.2.2 f.size⟩
def CK.still{f wr h:Y}{e:iV}{a:cr cP}(i:CK f wr b j O c g x e a)(d:Z az wr h):CK f h b j O c g x e a:=i.move d cG (i.aN.ar d<|λ_ _=>id) ⟨rfl,rfl,λ_ k=>k⟩
def CK.put{w0 wr B:Y}{F:iV}{Ts:cr cP}{T:cP}(n:CK w0 wr b j O c g x F Ts)(w:F[l]?=H d)(hT:Ts[l]?=H T)(hw:eR wr B d s)(ho:B.ownsRow (g+1) 224 1 s (y<|T++[S]) ((T++[S]).map bI.ptr))(W:CI wr b g F S)(V:S.tb∉Ts.flatten.map bI.tb):CK w0 (bZ B (R g l) s) b j O c g x (F.set l s) (Ts.set l<|T++[S]):=by
 have v:Z (λP=>bV d=H P) wr B:=Z.fy hw;have D:=λq=>n.own (q:=q) w;have r:=n.ord;have K:=n.low;have Q:B.heap[g]?=H (aq F.toArray 107 (0,0)):=(v.block g (aj n.box) (λm=>by have:=D _ m;omega)).trans n.box;have i:Z (λP=>P=g) B (bZ B (R g l) s):=(Z.refl (λP=>P=g) B).setCell _ _ _<|.inl rfl;have L:∀q,bV s=H q->g<q/\q<z (G B):=λq e=>by have:=aF ho q e;omega
 have o:∀q,q<z (G wr)->(∀(N:M)(A:aa),F[N]?=H A->bV A≠H q)->bV s≠H q:=λq e h m=>by rcases hw.uc with E|⟨ac,E,hy⟩;exact h l d w<|E.symm.trans m;rw[E]at m;cases m;omega
 have u:∀A,CI wr b g F A->CI (bZ B (R g l) s) b g (F.set l s) A:=by rintro A⟨bb,h,hm,h1,h2,h3,h4,k⟩;have ad:lR B A.tb (aw b) A.num (y<|dG A.cs) (y<|fc<|bM 0 A.cs) (mr<|fc<|bM 0 A.cs) bb 0 h aK A.ks:=hm.dh (v.block _ h2<|λm=>(k l d w).1 m)<|v.block _ h4<|λm=>(k l d w).2 m;have g2:=ag h2 v.size;have g4:=ag h4 v.size;refine⟨bb,h,ad.dh (i.block _ g2<|by omega) (i.block _ g4<|by omega),h1,by rw[gz];exact g2,h3,by rw[gz];exact g4,?_⟩;intro N al C;by_cases m:l=N;subst m;rw[gI,w]at C;cases C;exact⟨o _ h2<|λN A a=>(k N A a).1,o _ h4<|λN A a=>(k N A a).2⟩;rw[fF m]at C;exact k N al C
 have t:=Ax (t:=S) hT;refine⟨?_,?_,by rw[eM];exact n.zc,by rw[eM];exact n.Dn,?_,?_,?_,n.same,?_,?_,?_,K,?_⟩;exact(i.block c (ag (aj n.Rs) v.size)<|by omega).trans<|(v.block c (aj n.Rs) (λm=>by have:=D _ m;omega)).trans n.Rs;rw[aQ Q];simp;intro N A C a h;by_cases m:l=N;subst m;rw[gI]at a h;rw[w]at a;rw[hT]at h;cases a;cases h;exact i.own ho (λq e m=>by have:=L q e;omega);rw[fF m]at a h;have k:=v.own (n.rows N A C a h)<|λq e E=>n.ne N l A d q (Ne.symm m) a w e E;exact i.own k (λq e m=>by have:=n.own a e;omega);intro N i' A u' q C a k e;by_cases m:l=N;subst m;rw[fF C]at k;rw[gI,w]at a;cases a;intro h;change bV s=H q at e;rcases hw.uc with E|⟨ac,E,hy⟩;exact n.ne _ _ _ _ q C w k (E.symm.trans e) h;rw[E]at e;cases e;have:=n.own k h;omega;rw[fF m]at a;by_cases e':l=i';subst e';rw[gI,w]at k;cases k;intro h;change bV s=H q at h;rcases hw.uc with E|⟨ac,E,hy⟩;exact n.ne _ _ _ _ q C a w e<|E.symm.trans h;rw[E]at h;cases h;have:=n.own a e;omega;rw[fF e']at k;exact n.ne _ _ _ _ q C a k e;exact(n.aN.ar v (λP E m=>by have:=D _ m;have:=K P<|n.same.2.2 P E;omega)).ar i (λP E m=>by have:=K P<|n.same.2.2 P E;omega);intro A a;rcases aA.1 (t.mem_iff.1 a)with rfl|a;exact u _ W;exact u A<|n.ze A a;rw[(t.map bI.tb).nodup_iff,aX,kH];exact⟨V,n.GJ⟩;exact(n.ar.trans v<|λP m=>.inr (by have:=D _ m;omega)).trans i<|λP m=>.inr (by have:P=g:=m;omega);exact⟨r.1,r.2.1,by rw[gz];exact ag r.2.2 v.size⟩
def Steps.ar{S:fI}{w w':Y}(h:Steps w)(c:Z S w w')(a:¬S 1):Steps w':=λk b=>c.cell (h k b) a h.lt
def oY(a:cr cP):cr cP:=a.map<|List.map bI.pX
def oX{a:cr cP}(h:a[b]?=H i):(oY a)[b]?=H (i.map bI.pX):=by simp[oY,h]
def CK.YJ{q wr:Y}{k:iV}{e:cr cP}(m:CK q wr b j O c g x k e)(h:k[l]?=H d)(f:e[l]?=H i)(n:y i<=1000000000):kZ wr d i where
 row:=dF<|m.rows l d i h f
 lt:=λd a=>(m.own h a).2
 each:=λt p=>by
  obtain⟨r,a,o,_⟩:=m.ze t<|bz.2 ⟨i,gp f,p⟩;exact⟨_,_,_,_,_,_,_,_,_,o⟩
 small:=n
def Ed{db:M}{K:DK}(u:cr cP)(x0 x1 x2 x3:Option Addr)(n0 c0 n1 c1 n2 c2 n3 c3:M)(ca:cJ a db K)(s:Steps a)(bn:Pow a)(ee:¬K.aZ db 1)(ed:¬K.aZ db 2)(h4:y u=4)(ao:∀(S:M)(ax:aa)(o:cP),[I x0 n0 c0,I x1 n1 c1,I x2 n2 c2,I x3 n3 c3][S]?=H ax->u[S]?=H o->Row a 4 ax (y o) (dj o))(cc:∀(S:M)(ax:aa),[I x0 n0 c0,I x1 n1 c1,I x2 n2 c2,I x3 n3 c3][S]?=H ax->∀k,bV ax=H k->k<z (G a)/\¬K.aZ db k)(l:∀ek∈u.flatten,Fj ek)(hf:∀ek∈u.flatten,dX (vw K.files) (gJ ek.num)=H (mw ek.cs))(au:∀(S:M)(o:cP),0<S->u[S]?=H o->ly o)(ef:y u.flatten<=1000000):cw bF 95 #[aw db,eD #[I x0 n0 c0,I x1 n1 c1,I x2 n2 c2,I x3 n3 c3]] a λcm w'=>
 ∃y0 m0 b y1 m1 c y2 m2 d y3 m3 e,cm=aO (dA #[eD #[I y0 m0 b,I y1 m1 c,I y2 m2 d,I y3 m3 e],.nilIface])/\∃f Ts,CK a w' db K f (z<|G a) (z (G a)+2) [I x0 n0 c0,I x1 n1 c1,I x2 n2 c2,I x3 n3 c3] [I y0 m0 b,I y1 m1 c,I y2 m2 d,I y3 m3 e] Ts/\oY Ts=oY u:=by
 obtain⟨i0,fs,fx,fz,fL⟩:=cz vT
 have ge:∀(gb:Bool)(a:Y),(Op.unary .not<|aL gb).run bF a=.ok (aL<|!gb) a:=λ_ _=>rfl
 obtain⟨mv,ce⟩:∃mv:iV,mv=[I x0 n0 c0,I x1 n1 c1,I x2 n2 c2,I x3 n3 c3]:=⟨_,rfl⟩
 rw[<-ce]at ao cc|-
 obtain⟨W1,x⟩:∃W1,ct (ct (ct a<|aq mv.toArray 185)<|aq #[aK,aK,aK,aK] 107) (aq #[aK,aK,aK,aK] 107)=W1:=⟨_,rfl⟩
 have bu:Z az a W1:=by rw[<-x];exact(((Z.refl az a).alloc _).alloc _).alloc _
 have cE:W1.heap[z (G a)+1]?=H (aq #[aK,aK,aK,aK] 107 (0,0)):=by rw[<-x];exact(fX _<|by simp).trans<|aC _<|by simp
 have hA0:CK a W1 db K K (z<|G a) (z (G a)+2) mv [aK,aK,aK,aK] [[],[],[],[]]:=by
  refine⟨?_,?_,rfl,rfl,?_,?_,ca.ar bu<|λ_ _=>id,⟨rfl,rfl,λ_ P=>P⟩,by simp,by simp,bu.mono cG,ca.lt,?_⟩
  .rw[<-x];exact(fX _ (by simp;omega)).trans<|(fX _<|by simp).trans<|aC _ rfl
  .rw[<-x];exact aC _<|by simp
  .intro S ax bh m s;have cm:ax=aK/\bh=[]:=by
    rcases S with _|_|_|_|S<;>simp at m s<;>exact⟨m.symm,s⟩
   rw[cm.1,cm.2];exact bJ _ _ _ _
  .intro S b ax c q _ m _ hq;have cm:ax=aK:=by
    rcases S with _|_|_|_|S<;>simp at m<;>exact m.symm
   rw[cm]at hq;cases hq
  .refine⟨ah _,by omega,?_⟩;rw[<-x];simp
 obtain⟨cn,et,HT,HP,cp,co,es,HF⟩:=EM hA0 cE s bn ao cc l hf
 obtain⟨bs,H4,ey,eo,fd,cx,fn⟩:=ww au h4 ef ce x ee ed
 clear ca s bn ao cc l hf au h4 ef ce bu cE hA0 x ee ed
 go_in
 go_wp2_with fail
 rw[ae fd]
 have e2:z (G a)+1+1=z (G a)+2:=rfl
 rw[e2]
 obtain⟨n,cb⟩:∃n,z (G a)+2=n:=⟨_,rfl⟩
 rw[cb]at cn|-
 have eb:∀(i:M)(o:cP),u[i]?=H o->y o<=1000000:=λi o Q=>by
  have F:=ae ey;have h2:y o<=y u.flatten:=pR<|cL<|gp Q;omega
 have en:=U eb
 have bb:=U cb
 clear eb e2 cb
 go_loopw [12] (λb wr=>∃(i:M)(K1:DK)(vs:iV)(Ts:cr cP),i<=4/\b=am i/\CK a wr db K K1 (z<|G a) n mv vs Ts/\nH (oY u) (oY Ts) i 0/\wr.heap[z (G a)+1]?=H (aq #[aK,aK,aK,aK] 107 (0,0))) (λb _=>4-(intOf b).toNat)
 case atStart=>exact⟨0,_,_,_,bw _,rfl,cn,nH.start<|oY u,et⟩
 case round=>
  obtain⟨i,K1,vs,Ts,hi,rfl,w,bc,d⟩:=hrel;by_cases N:i<4
  .have T:=U d;clear d;have dx:i<y u:=by rw[ae H4];exact N
   obtain⟨o,Q⟩:∃o,u[i]?=H o:=⟨_,aH dx⟩;have bl:i<y mv:=by rw[ae eo];exact N
   obtain⟨ax,m⟩:∃ax,mv[i]?=H ax:=⟨_,aH bl⟩;have cj:=cp i ax o m Q;obtain⟨gb,P,fv⟩:∃gb P,ax=I gb (y o) P:=by
    obtain⟨q1,⟨q2,q0⟩|⟨gk,br,cB,q2,_⟩⟩:=cj
    .exact⟨none,0,by rw[q2,q0]⟩
    .exact⟨_,_,q2⟩
   subst fv;have fu:=en i o Q;have hc:=(w.Yb i).trans m;have e1:(i:X)<4:=by omega
   have e0:(0:X)<=(i:X):=by omega
   obtain⟨HA,ev,HM,HV,ex⟩:=jR w bc Q m cj;clear w bc Q m cj dx bl;go_wp2_with fail
   go_loopw [19] (λc b=>∃(k:M)(K1:DK)(vs:iV)(Ts:cr cP),k<=y o/\c=am k/\CK a b db K K1 (z<|G a) n mv vs Ts/\nH (oY u) (oY Ts) i k/\b.heap[z (G a)+1]?=H (aq #[aK,aK,aK,aK] 107 (0,0))) (λc _=>y o-(intOf c).toNat)
   case atStart=>exact⟨0,_,_,_,bw _,rfl,HA,ev,T⟩
   case round=>
    obtain⟨k,K2,O,p,hk,rfl,hA2,f,an⟩:=hrel;have e:=U an;clear an;by_cases L:k<y o
    .have Q:=ae HM;have ad:o[k]∈u.flatten:=bz.2 ⟨o,gp Q,ap L⟩;have l:=es _ ad;have dn:=HF _ ad;have bp:=hA2.ar.row ex<|λq hq=>⟨(co i _ HV q hq).2,(co i _ HV q hq).1⟩;obtain⟨gg,b,hx,ac⟩:∃gg b,gb=H (R gg b)/\∀S ej,(o[k].ur)[S]?=H ej->aS wr (R gg<|b+(k*4+S))=H ej:=by
      obtain⟨q1,⟨q2,q0⟩|⟨gk,br,cB,q2,bk,C⟩⟩:=bp
      .omega
      .cases q2;refine⟨gk,br,rfl,λS ej hu=>C _ _ ?_⟩;have hj:S<4:=by
        rcases dE S 4 with P|P
        .exact P
        .rw[dq<|by simpa[bI.ur]using P]at hu;cases hu
       rw[GN o k S L hj];exact hu
     subst hx;have dd:=ac 0 _ rfl;have dk:=ac 1 _ rfl;have bx:=ac 2 _ rfl;have bT:=ac 3 _ rfl;have bd:i<y p:=by rw[hA2.Dn];exact N
     obtain⟨bh,s⟩:∃bh,p[i]?=H bh:=⟨_,aH bd⟩;have bv:y bh=k:=by
      have F:=f.now _<|oX Q;rw[oX s]at F;have h2:=bS y<|dC F;simp at h2;omega
     have t:bh.map bI.pX=(o.map bI.pX).take k:=by
      have F:=f.now _<|oX Q;rw[oX s]at F;exact dC F
     have bg:i<y O:=by rw[hA2.zc];exact N
     obtain⟨ax,m⟩:∃ax,O[i]?=H ax:=⟨_,aH bg⟩;have g:=hA2.rows i ax bh m s;rw[bv]at g;obtain⟨ox,oc,ch⟩:=aB g;subst ch;have bo:=f.one<|oX Q;have ei:(o.map bI.pX).take (k+1)=(o.map bI.pX).take k++[o[k].pX]:=by
      rw[ai<|by simpa using L];simp
     have hA3:=hA2.still<|(Z.refl az wr).alloc<|aq #[aI o[k].num,dr<|y<|dG o[k].cs,dr<|y<|fc<|bM 0 o[k].cs,dr<|mr<|fc<|bM 0 o[k].cs] 266;rw[l.ks]at bx bT;generalize o[k]=ek at*;have r:=JZ ek.num l.num ek.cs l.idx (Steps.ar HT hA3.ar cx) (Pow.ar HP hA3.ar fn) l.small (λP=>cx<|hA2.same.2.2 _ P) hA3.aN (by rw[hA2.same.1];exact dn);unfold Ev at r;have bf:=l.num;have dT:=l.ks;obtain⟨v,ba,gf,V,cu⟩:=jR hA2 hA3 g m s;obtain⟨cv,bt,fb,D,em⟩:=jR bv t ei bo dT;have e4:(k:X)<(y o:X):=by omega
     have e5:(0:X)<=(k:X):=by omega
     have k0:aS wr (R n i)=H (I ox k oc):=(hA2.cell i).trans m;have e6:b+(k*4+0)=b+k*4:=by omega
     have e7:b+(k*4+1)=b+k*4+1:=by omega
     have e8:b+(k*4+2)=b+k*4+2:=by omega
     have e9:b+(k*4+3)=b+k*4+3:=by omega
     rw[e6]at dd;rw[e7]at dk;rw[e8]at bx;rw[e9]at bT;clear hA2 hA3 g m s bv t ei bo dT l dn bp ac Q ad bd bg f e6 e7 e8 e9;obtain⟨gj,tk,j,tn⟩:=ek;simp only at dd dk bx bT r bf;generalize cM:y (dG j)=tl at*;generalize cT:y (fc<|bM 0 j)=ti at*;generalize dc:mr (fc<|bM 0 j)=tc at*;obtain⟨fe,ff,fk⟩:=dB cM cT dc;clear cM cT dc;have cd:=v.ord;have cs:=U (show z (G wr)<z (G<|ct wr<|aq #[aI tn,dr tl,dr ti,dr tc] 266)by simp);go_wp2_with fail
     apply r.mono;rintro cm w3⟨c,gc,E,rfl,W,ds,dv,K3,hd,dm,ea,bi⟩;have hA4:=ba.move hd.ar (λq hq=>.inl<|ba.same.2.2 q hq) hd.ok ⟨dm,ea,bi⟩;have eg:=ae cs;have gi:n<z (G wr):=cd.2.2;have B:=(hd.ar.block _ (by have:=aj e;omega) (λP=>by have:=ba.low _<|ba.same.2.2 _ P;omega)).trans<|(fX _<|aj e).trans e;have bq:CI w3 db n O ⟨c,tk,j,tn⟩:=by
      refine⟨gc,E,?_,by show n<c;omega,aj W.box,by omega,?_,λS ej hu=>⟨λP=>?_,λP=>?_⟩⟩
      .show lR w3 c (aw db) tn (y<|dG j) (y<|fc<|bM 0 j) (mr<|fc<|bM 0 j) gc 0 E aK tk;rw[ae fe,ae ff,ae fk,ae em];exact W
      .have C:0<y (er<|bM 0 j):=by
        have:=W.ne;rcases hq:bM 0 j with _|⟨q,gn⟩
        .rw[hq]at this;simp at this
        .simp[er,qS.cells]
       have:=W.cells 0 _<|aH C;exact da w3 _ this
      .have F:=(v.own hu P).2;have h2:z (G wr)<=c:=by omega
       simp only at F;omega
      .have F:=(v.own hu P).2;omega
     have bm:c∉p.flatten.map bI.tb:=λP=>by
      obtain⟨ej,hu,cm⟩:=aY.1 P;obtain⟨_,_,_,_,h2,_⟩:=v.ze ej hu;omega
     have A:=hA4.rows i _ bh V cu;rw[ae cv]at A;have k1:aS w3 (R n i)=H (I ox k oc):=(hA4.cell i).trans V;have ck:n<z (G w3):=hA4.ord.2.2;have fl:=U (show∀v5 w5,w5.ownsRow (n+1) 224 1 v5 (k+1) (bh.map bI.ptr++[aw c])->eR (ct w3<|aq #[aw c] 224) w5 (I ox k oc) v5->CK a (bZ w5 (R n i) v5) db K K3 (z<|G a) n mv (O.set i v5) (p.set i<|bh++[⟨c,tk,j,tn⟩])/\(bZ w5 (R n i) v5).heap[z (G a)+1]?=H (aq #[aK,aK,aK,aK] 107 (0,0))/\aS w5 (R n i)=H (I ox k oc)/\w5.frozen? (R n i)=bE from by
      intro v5 w5 al av;have C:Z az w3 (ct w3<|aq #[aw c] 224):=(Z.refl az w3).alloc _;have hA5:=hA4.still C;have cl:=Z.fy av;have ec:bV (I ox k oc)≠H n:=λP=>by have:=(hA4.own V P).1;omega
      have fr:=(cl.block n (ag ck C.size) ec).trans hA5.box;refine⟨hA5.put V cu av ?_ (bq.ar C cG) bm,?_,?_,by simp[World.frozen?,fr]⟩
      .rw[af,ae cv,aM];exact al
      .have bk:=aj B;exact(ir v5 (by have:=ae bb;omega)).trans<|(cl.block _ (ag bk C.size) (λP=>by have:=(hA4.own V P).1;have:=ae bb;omega)).trans<|(C.block _ bk id).trans B
      .exact cl.cell (C.cell k1 id ck) ec (ag ck C.size))
     have eq:=U A;clear W ds dv hd dm ea bi hA4 bq bm A r k0 eg B;go_wp2_with(first
      |(at_builtin;go_loud(refine bQ _ rfl (.tmp 36) (.tmp 38) 105 rfl (n+1) 224 i0 (.pointer none) 1 8 underlying105 fs fx fz fL rfl (by decide) (.slice ox k oc) k (bh.map bI.ptr) rfl (aR eq _) (R (z (G w3)) 0) 1 1 [aw c] rfl rfl (tu _ _ _) (by simp[Value.oneCell']) (by omega) (by omega) (by simp;omega) ?_;intro v5 w5 al av;obtain⟨hA5,y2,y0,y1⟩:=fl v5 w5 al av;obtain⟨x5,c5,rfl⟩:=aB al;have el:=U hA5;have eu:=U y2;clear al av hA5 y2)))
     go_roundw;case rel=>
      refine⟨k+1,K3,_,_,L,by go_num,el,?_,eu⟩;have F:=ae D;have h2:oY (p.set i<|bh++[⟨c,tk,j,tn⟩])=(oY p).set i ((o.map bI.pX).take<|k+1):=by
       unfold oY;rw[nJ,aM,ae bt,ae fb];rfl
      rw[h2];exact F
     case measure=>simp[intOf];omega
    .have E:k=y o:=by omega
     subst E;have bd:i<y p:=by rw[hA2.Dn];exact N
     obtain⟨bh,s⟩:∃bh,p[i]?=H bh:=⟨_,aH bd⟩;have bg:i<y O:=by rw[hA2.zc];exact N
     obtain⟨ax,m⟩:∃ax,O[i]?=H ax:=⟨_,aH bg⟩;have t:kY o bh:=by
      have F:=f.now _<|oX HM;rw[oX s]at F;have h2:=dC F;rw[cS<|by simp]at h2;exact h2
     have c:=hA2.YJ m s (by rw[t.length];omega);have g:=hA2.rows i ax bh m s;obtain⟨ox,oc,ch⟩:=aB g;subst ch;have k0:aS wr (R n i)=H (I ox (y bh) oc):=(hA2.cell i).trans m;have b:=(show nH (oY u) (oY p) i (y<|o.map bI.pX)by rw[cV];exact f).xC (oX HM) (by unfold oY;rw[cV];exact H4);have e4:¬((y o:X)<(y o:X)):=by omega
     have v:=U hA2;have D:=U b;by_cases A:i=0
     .subst A;clear hA2 f c g s m b;go_wp2;go_roundw;case rel=>exact⟨1,_,_,_,by omega,by go_num,v,D,e⟩
      case measure=>simp[intOf]
     .have r:=SH c (t.side<|bs i o (by omega) HM).apart;have e6:(0:X)<(i:X):=by omega
      clear hA2 f c g s m b;go_wp2_with fail
      apply r.mono;rintro cm V⟨rfl,j⟩;have B:=U<|v.still<|Z.aT j;have C:=U<|(j.block _<|aj e).trans e;clear j r;go_wp2;go_roundw;case rel=>exact⟨i+1,_,_,_,by omega,by go_num,B,D,C⟩
      case measure=>simp[intOf];omega
  .have r:i=4:=by omega
   subst r;have t:=bc.all (by unfold oY;rw[cV];exact H4) (by unfold oY;rw[cV];exact w.Dn);have e:=w.zc;obtain⟨v,A,B,C,rfl⟩:∃v A B C,vs=[v,A,B,C]:=by
    rcases vs with _|⟨v,_|⟨A,_|⟨B,_|⟨C,_|⟨v4,gn⟩⟩⟩⟩⟩<;>simp at e;exact⟨_,_,_,_,rfl⟩
   obtain⟨f,ac,V⟩:=w.row (j:=0) rfl;obtain⟨g,ad,W⟩:=w.row (j:=1) rfl;obtain⟨j,al,o2⟩:=w.row (j:=2) rfl;obtain⟨p,an,o3⟩:=w.row (j:=3) rfl;obtain⟨D,y0,rfl⟩:=aB V;obtain⟨E,y1,rfl⟩:=aB W;obtain⟨L,y2,rfl⟩:=aB o2;obtain⟨O,y3,rfl⟩:=aB o3;have r0:=cellAt w.box 0 rfl;have r1:=cellAt w.box 1 rfl;have r2:=cellAt w.box 2 rfl;have r3:=cellAt w.box 3 rfl;have t0:=cellAt d 0 rfl;have t1:=cellAt d 1 rfl;have t2:=cellAt d 2 rfl;have t3:=cellAt d 3 rfl;have av:∀i,wr.frozen? (R (z (G a)+1) i)=bE:=λi=>by simp[World.frozen?,d]
   obtain⟨HA,bt,T⟩:=dB w t d;have e5:¬((4:X)<4):=by omega
   clear w bc V W o2 o3 t d e;go_wp2;have b:=aQ (i:=3) (u:=I O (y p) y3)<|aQ (i:=2) (u:=I L (y j) y2)<|aQ (i:=1) (u:=I E (y g) y1)<|aQ (i:=0) (u:=I D (y f) y0) T;have c:=((((Z.refl (λk=>k=z (G a)+1) wr).setCell (z (G a)+1) 0 (I D (y f) y0)<|.inl rfl).setCell (z (G a)+1) 1 (I E (y g) y1)<|.inl rfl).setCell (z (G a)+1) 2 (I L (y j) y2)<|.inl rfl).setCell (z (G a)+1) 3 (I O (y p) y3)<|.inl rfl;refine cI (zk rfl _ _ (z (G a)+1) _ _ _ _ _ _ rfl b ⟨_,_,_,rfl⟩ ⟨_,_,_,rfl⟩ ⟨_,_,_,rfl⟩ ⟨_,_,_,rfl⟩) rfl ?_;refine⟨D,y f,y0,E,y g,y1,L,y j,y2,O,y p,y3,rfl,K1,Ts,?_,bt⟩;rw[ae bb];have hd:=HA.aN.ar c (λk P cm=>by have:=HA.low k<|HA.same.2.2 k P;have:k=z (G a)+1:=cm;omega);exact HA.move c (λk cm=>.inr (by have:k=z (G a)+1:=cm;have:=ae bb;omega)) hd ⟨rfl,rfl,λ_ P=>P⟩
def jw.Fc{k:fH}(n:jw a b k)(o:Z (λc=>c=b) a f)(j:aS a (R c g)=H d):aS f (R c g)=H d:=by
 obtain⟨p,e,m,_⟩:=n;have i:c≠b:=by intro l;rw[l]at j;simp[World.cell?,m]at j
 have h:c<z (G a):=by rcases dE c (z<|G a)with l|l;exact l;simp[World.cell?,eF l]at j
 exact o.cell j i h
def jw.SC{i:fH}(k:jw a b i)(l:Z (λc=>c=b) a f){t:TypeId}{d:M×M}(h:a.heap[c]?=H (aq V t d)):f.heap[c]?=H (aq V t d):=by
 obtain⟨n,e,j,_⟩:=k;have g:c≠b:=by intro m;rw[m,j]at h;cases h
 exact(l.block c (aj h) g).trans h
def jw.Pk{k:fH}(n:jw a b k)(o:Z (λr=>r=b) a f)(q:Row a c d g x):Row f c d g x:=by
 obtain⟨j,⟨rfl,l⟩|⟨p,e,h,rfl,i,m⟩⟩:=q;exact⟨j,.inl ⟨rfl,l⟩⟩;exact⟨j,.inr ⟨p,e,h,rfl,i,λq u l=>n.Fc o<|m q u l⟩⟩
def Aside.qa(h:Aside a j b c g)(d:Z W a f):Aside f j b c g:=⟨ag h.lt d.size,h.aZ,h.ne⟩
def Pow.qa{d:fH}(h:Pow a)(i:jw a b d)(j:Z (λm=>m=b) a f):Pow f:=by
 refine h.ar j<|λk=>?_;obtain⟨l,c,g,_⟩:=i;unfold Pow Lib.TabIs World.var? at h;rw[DY]at h;simp only[qE]at h;have e:2=b:=k;rw[e,g]at h;simp at h
def Hy.qa{q:fH}(r:Hy a j b c d i)(n:jw a g q)(k:Z (λu=>u=g) a f):Hy f j b c d i:=by
 refine⟨n.Pk k r.row,λu t=>(r.loc u t).qa k,λv o=>?_⟩;have h:=r.each v o;obtain⟨p,l,e,m,s⟩:=h.mem;exact⟨⟨p,l,e,⟨n.SC k m.box,λr u o=>n.Fc k<|m.cells r u o,m.ne,m.le,m.small⟩,s.qa k⟩,h.loc.qa k,h.ks,h.num,h.pure,h.idx,h.small,h.file⟩
def ST.qa{o:fH}(h:ST a b n j e i p t u g)(k:jw a c o)(r:Aside a j n.aN b c)(d:Z (λm=>m=c) a f):ST f b n j e i p t u g where
 mem:=k.Pk d h.mem
 sW:=λm l=>(h.sW m l).qa d
 l0:=h.l0.qa k d
 l1:=h.l1.qa k d
 l2:=h.l2.qa k d
 l3:=h.l3.qa k d
 aN:=h.aN.ar d<|λm t k=>r.aZ (by have q:m=c:=k;rw[<-q];exact t)
 rV:=h.rV
 lu:=⟨λm l=>k.Fc d<|h.lu.steps m l,h.lu.pow.qa k d,h.lu.fC.qa d,h.lu.me.qa d⟩
 qI:=h.qI
 mN:=h.mN
 mq:=h.mq
 jd:=h.jd
 s1:=h.s1
 s2:=h.s2
 s3:=h.s3
def Inv.qa{s s':SR}{V m:fR}(h:Inv a b s j e i p t u g l B k V)(W:s.lT=H c)(d:s'={s with ia:=s'.ia})(A:Z (λac=>ac=c) a f)(S:jw f c (AQ m))(Q:y m<=4)(P:∀ad∈m,ad.2<=s.bB):Inv f b s' j e i p t u g l B k m:=by
 obtain⟨v,C,T,D⟩:=h.pV.ex;have O:v=c:=by rw[C]at W;exact dC W
 subst O;have r:=(h.st.qa T D A).fields (s':=s') (by rw[d];exact⟨rfl,rfl,rfl,rfl,rfl⟩) (by rw[d]);have w:s'.next=s.next:=by rw[d]
 have E:s'.log=s.log:=by rw[d]
 have q:s'.gC=s.gC:=by rw[d]
 have n:s'.bB=s.bB:=by rw[d]
 have F:s'.iT=s.iT:=by rw[d]
 have K:s'.vF=s.vF:=by rw[d]
 have L:s'.mem=s.mem:=by rw[d]
 have N:s'.wH=s.wH:=by rw[d]
 have x:s'.aN=s.aN/\s'.lT=s.lT:=by rw[d];exact⟨rfl,rfl⟩
 have o:s'.kj=s.kj:=by rw[d]
 exact⟨r,by rw[w,E,q];exact h.qX,h.pr,h.lp,by rw[n];exact h.mem,by rw[n];exact h.MF,h.Wh,h.Xe,⟨⟨v,x.2.trans C,S,by rw[x.1];exact D.qa A⟩,Q⟩,by rw[n];exact P,by rw[n];exact h.BK,by rw[F];exact h.Vi,by rw[K];exact h.vF,h.GJ,by rw[w];exact h.nx,by rw[n];exact h.bn,h.eO,by rw[L,N];exact h.TO,by rw[q,o];exact h.loose,by rw[q];exact h.Ui,h.mN⟩
def VM{sn:fR}{n:M}(h:∀p∈sn,p.1<n)(t:M):(AQ sn).put (n:X) (aI (t:X))=AQ (sn++[(n,t)]):=by
 induction sn with
 |nil=>rfl
 |cons p r c=>
  have b:=h p (by simp);have a:=c (λq b=>h q<|by simp[b]);unfold AQ at a|-;rw[aX,cq,aX,fH.put,cY (by simp only;omega),a]
def lU:fR->X->fR
 |[],_=>[]
 |p::r,n=>if(p.1:X)=n then r else p::lU r n
def Pd(n:X):∀b:fR,(AQ b).del n=AQ (lU b n)
 |[]=>rfl
 |p::r=>by
  have a:=Pd n r;unfold AQ at a|-;rw[aX,fH.del,lU];split
  .rfl
  .rw[a];rfl
def Gp(n:X):∀a:fR,(lU a n).Sublist a
 |[]=>ez _
 |p::r=>by
  rw[lU];split
  .exact pN _ _
  .exact(Gp n r).cons_cons _
abbrev Zs:=cr<|Option<|M×iB
abbrev WQ:=cr<|Option iB
def iN:M->Zs->fR
 |_,[]=>[]
 |n,H x::r=>(n,x.1)::iN (n+1) r
 |n,none::r=>iN (n+1) r
def tQ(a:Zs):WQ:=a.map<|Option.map Prod.snd
def oP.abs(x:oP):Option iB:=if x.live then H x.l else none
def zx(x:M×iB):∀(b:Zs)(n:M),iN n (b++[H x])=iN n b++[(n+y b,x.1)]
 |[],n=>rfl
 |some a::r,n=>by
  have e:n+y (H a::r)=n+1+y r:=by rw[ay];omega
  rw[cq,iN,iN,zx x r<|n+1,e,cq]
 |none::r,n=>by
  have e:n+y (none::r:Zs)=n+1+y r:=by rw[ay];omega
  rw[cq,iN,iN,zx x r<|n+1,e]
def uU:∀(a:Zs)(n:M)(p:M×M),p∈iN n a->n<=p.1/\p.1<n+y a
 |[],n,p,h=>by cases h
 |some b::r,n,p,h=>by
  rw[ay];rcases aA.1 h with rfl|h
  .exact⟨ah _,by show n<_;omega⟩
  .have:=uU r (n+1) p h;omega
 |none::r,n,p,h=>by
  have:=uU r (n+1) p h;rw[ay];omega
def zg:∀{a:fR},(∀p∈a,(p.1:X)≠m)->oW a m=none
 |[],_=>rfl
 |p::r,h=>by
  rw[oW,cY<|h p<|by simp];exact zg<|λq b=>h q<|by simp[b]
def Br:∀(b:Zs)(n j:M),oW (iN n b) ((n+j:M):X)=match b[j]? with|some (H x)=>H x.1|_=>none
 |[],n,j=>rfl
 |some x::r,n,0=>by rw[iN,oW,dw (by simp only;omega)];rfl
 |some x::r,n,j+1=>by
  have a:=Br r (n+1) j;rw[iN,oW,cY (by simp only;omega),show n+(j+1)=n+1+j by omega,a];rfl
 |none::r,n,0=>by
  rw[iN,zg (λp a=>by have:=uU r (n+1) p a;omega)];rfl
 |none::r,n,j+1=>by
  have a:=Br r (n+1) j;rw[iN,show n+(j+1)=n+1+j by omega,a];rfl
def Bs:∀(c:Zs)(n j:M)(x:M×iB),c[j]?=H (H x)->lU (iN n c) ((n+j:M):X)=iN n (c.set j none)
 |[],n,j,x,h=>by cases h
 |none::r,n,0,x,h=>by cases h
 |some b::r,n,0,x,h=>by rw[iN,lU,dw (by simp only;omega)];rfl
 |some b::r,n,j+1,x,h=>by
  have a:=Bs r (n+1) j x h;rw[iN,lU,cY (by simp only;omega),show n+(j+1)=n+1+j by omega,a];rfl
 |none::r,n,j+1,x,h=>by
  have a:=Bs r (n+1) j x h;rw[iN,show n+(j+1)=n+1+j by omega,a];rfl
def Bq:∀(a:Zs)(n:M),y (iN n a)=y ((tQ a).filter Option.isSome)
 |[],n=>rfl
 |some c::r,n=>by
  have b:=Bq r<|n+1;rw[iN,ay,b];rfl
 |none::r,n=>Bq r<|n+1
def yp:∀(a:Zs)(n:M)(x:M×iB),H x∈a->(x.1:X)∈so (iN n a)
 |[],n,x,h=>by cases h
 |some b::r,n,x,h=>by
  rcases aA.1 h with e|h
  .cases e;exact dy ..
  .exact aG _<|yp r (n+1) x h
 |none::r,n,x,h=>by
  rcases aA.1 h with e|h
  .cases e
  .exact yp r (n+1) x h
def GP:∀(b:cr oP),tV b=y ((b.map oP.abs).filter Option.isSome)
 |[]=>rfl
 |x::r=>by
  have a:=GP r;unfold tV at*;cases hl:x.live with
  |true=>simp[oP.abs,hl,a]
  |false=>simp[oP.abs,hl,a]
def Vr(a:WQ)(n:X):Option iB:=if n<1 then none else match a[(n-1).toNat]? with
 |some x=>x
 |none=>none
def Ba(b:Zs)(n:X):(∃(j:M)(a:M×iB),n=(j:X)+1/\b[j]?=H (H a)/\oW (iN 1 b) n=H a.1/\Vr (tQ b) n=H a.2)\/(oW (iN 1 b) n=none/\Vr (tQ b) n=none):=by
 by_cases c:n<1;refine .inr ⟨zg λp d=>?_,by unfold Vr;rw[dw c]⟩;have:=uU b 1 p d;omega;obtain⟨j,rfl⟩:∃j:M,n=(j:X)+1:=⟨(n-1).toNat,by omega⟩;(have e:((j:X)+1-1).toNat=j:=by omega);have d:=Br b 1 j;rw[show((1+j:M):X)=(j:X)+1 by omega]at d;(have f:(tQ b)[j]?=b[j]?.map (Option.map Prod.snd):=by unfold tQ;rw[dz]);unfold Vr;rw[cY c,e,d,f];rcases hz:b[j]? with _|_|a;exact .inr ⟨rfl,rfl⟩;exact .inr ⟨rfl,rfl⟩;exact .inl ⟨j,a,rfl,hz,rfl,rfl⟩
def AJ(a:cr oP)(n:X):(∃(j:M)(x:oP),n=(j:X)+1/\j<y a/\JA a n=H x/\Vr (a.map oP.abs) n=H x.l)\/(JA a n=none/\Vr (a.map oP.abs) n=none):=by
 by_cases b:n<1;exact .inr ⟨by unfold JA;rw[dw b],by unfold Vr;rw[dw b]⟩
 .obtain⟨j,rfl⟩:∃j:M,n=(j:X)+1:=⟨(n-1).toNat,by omega⟩;have d:((j:X)+1-1).toNat=j:=by omega
  unfold JA Vr;rw[cY b,cY b,d,dz];rcases hs:a[j]? with _|x
  .exact .inr ⟨rfl,rfl⟩
  .have c:j<y a:=(fq.1 hs).1;cases hl:x.live with
   |true=>exact .inl ⟨j,x,rfl,c,by simp[hl],by simp[oP.abs,hl]⟩
   |false=>exact .inr ⟨by simp[hl],by simp[oP.abs,hl]⟩
def QB(a:Zs):y (tQ a)=y a:=by simp[tQ]
def QA(a:Zs)(j:M):tQ (a.set j none)=(tQ a).set j none:=by simp[tQ,nJ]
def Nh(a:Zs)(x:M×iB):tQ (a++[H x])=tQ a++[H x.2]:=by simp[tQ]
def WO(a:cr oP)(j:M):(a.set j AG).map oP.abs=(a.map oP.abs).set j none:=by rw[nJ];rfl
section
open Go.Conc.Locks
def IG{P:Program}{q:Oper}{g:Act}{K:Act->Y->Prop}{Q:Exit->Act->Y->Prop}(h x i:Operand)(w:TypeId)(f:q.op=Op.mapUpdate w h x i)(u A:TypeId)(n:P.underlying w=H (.map u A))(l:P.underlying u=H (.int .i64))(j:M)(v:fH)(m:g.eval h=.map (H j))(B:jw a j v)(b:X)(c:aa)(p:g.eval x=am b)(o:g.eval i=c)(k:∀d,jw d j (v.put b c)->a.grownBy d (H j)->z (G d)=z (G a)->K (g.put q.dst iC) d):Oper.wp P q g a K Q:=by
 obtain⟨d,e,r,s,t⟩:=Kn n l B b c;unfold Oper.wp;simp[execOp,f,m,p,o,e,Result.andThen];exact k d r s t
def XE:lE 2=.iface 55 (am 2):=rfl
def CN(h:bK a b n 0)(l:n.closed=bU):cw bF 18 #[aw b] a λm k=>m=aO (dA #[am 0,lE 6])/\bK k b n 0/\Z (λt=>t=b) a k:=by
 have p:=bK.cellAt h 0 rfl;have r:a.frozen? (R b 0)=bE:=h.free;have j:=h.gQ 1;have c:=ja j;rw[l]at c;simp only[jf]at c;have o:=U<|λg i=>rl (W2:=g) j ((Z.refl (λt=>t=b) a).setCell b 0 _<|.inl rfl) i;clear h j l;rw[xM]at c|-;go_enter_defers func18,ntmps18
 go_wp2_with fail
 apply(lock_free (R b 0) _ p r).mono;rintro m k⟨rfl,rfl⟩;go_wp2_with fail
 apply c.mono;rintro m g⟨rfl,i⟩;obtain⟨q,s,d⟩:=o g i;have e:=U d;clear d i c;go_wp2;refine eZ (f:=41) (args:=#[aw b]) (by simp) (by simp[go_sem]) ?_;apply(unlock_deferred (R b 0) .returning _ q s).mono;rintro m v u⟨rfl,rfl,rfl⟩;exact⟨_,kO rfl _ _ _,rfl,e⟩
def FA(x:fR)(h:bK a b n 0)(C:ST a b n j e i p t u c)(w:FZ a j b n x)(Q:n.closed=bE)(h4:4<=y x):cw bF 18 #[aw b] a λN A=>N=aO (dA #[am 0,lE 2])/\tz a A b n j e i p t u c:=by
 have F:=aj h;have c0:=bK.cellAt h 0 rfl;have f0:a.frozen? (R b 0)=bE:=h.free;have g:=kX C.aN C.rV 1;have B:=h.gQ 1;generalize O:bZ a (R b 0) (jn 1)=m at g B;obtain⟨mb,S,L,q3⟩:=(w.ft g).ex;have d:=ja B;rw[Q]at d;have s:cw bF 42 #[aw b] m λN A=>N=aO .nilIface/\Below (z<|G m) m A:=d;obtain⟨W,V,D⟩:=dB (λl(o:Below (z<|G m) m l)=>And.intro (rm (W2:=l) B C F g o) (L.dh<|o.block _ L.lt)) O S;clear h C g B Q O w S L q3 d;rw[XE];go_enter_defers func18,ntmps18
 go_wp2_with fail
 apply(lock_free (R b 0) _ c0 f0).mono;rintro N A⟨rfl,K⟩;rw[ae V]at K;subst A;go_wp2_with fail
 apply s.mono;rintro N l⟨rfl,o⟩;obtain⟨⟨q,v,k⟩,r⟩:=W l o;have ac:aS l (R b 16)=H (.map<|H mb):=by rw[<-ae D];exact q.cell rfl
 have E:=Ko (P:=bF) underlying108 r 3;have hl:y (AQ x)=y x:=by simp[AQ]
 rw[hl]at E;have e4:decide ((4:X)<=(y x:X))=bU:=pG (by omega);obtain⟨d0,g0,hF⟩:=k l v.KU<|Z.refl _ _;have T:=U hF;clear q v k o hF r s h4;go_wp2;refine eZ (f:=41) (args:=#[aw b]) (by simp) (by simp[go_sem]) ?_;apply(unlock_deferred (R b 0) .returning _ d0 g0).mono;rintro N u' ad⟨rfl,rfl,rfl⟩;exact⟨_,kO rfl _ _ _,rfl,T⟩
end
section
open Go.Conc.Locks
def Tk{s n:SR}{W m:fR}(F:Inv a b s j e i p t u g l B k W)(w:b<z (G a))(K:gw a f s.aN b j j)(q:bK f b n 1)(L:s.lT=H c)(E:n={s with ia:=n.ia})(x:Z (λr=>r=c) f C)(S:jw C c (AQ m))(Q:y m<=4)(O:∀ac∈m,ac.2<=s.bB):aS C ⟨b,0,none⟩=H (.int .i32 1)/\C.frozen? ⟨b,0,none⟩=bE/\bK C b n 1/\bK (bZ C ⟨b,0,none⟩<|.int .i32 0) b n 0/\Inv (bZ C ⟨b,0,none⟩<|.int .i32 0) b n j e i p t u g l B k m/\Z (λr=>(j.aZ s.aN r\/r=b)\/r=c) a (bZ C ⟨b,0,none⟩<|.int .i32 0):=by
 have o:=F.ft w K rfl (ah _) rfl F.loose;obtain⟨D,T,q2,V⟩:=o.pV.ex;have N:D=c:=by rw[T]at L;exact dC L
 subst N;have h:=o.qa L E x S Q O;have d:bK C b n 1:=(x.block b (aj q)<|λt=>V.ne t.symm).trans q;have P:n.aN=s.aN:=by rw[E]
 have v:=kX h.st.aN h.st.rV 0;have A:Z (λr=>(j.aZ s.aN r\/r=b)\/r=D) a C:=(K.ar.mono<|λ_ t=>.inl<|.inl t).trans x<|λ_ t=>.inl<|.inr t;exact⟨d.cell rfl,d.free,d,d.gQ 0,h.ft (aj d) v rfl (ah _) rfl h.loose,A.setCell b 0 _<|.inl<|.inl<|.inr rfl⟩
def Fz{s:SR}{bt:cP}(w:fR)(r:M)(h:bK a b s 0)(T:Inv a b s j e p t u bt c g l k w)(hc:s.closed=bE)(h4:y w<4)(hg:∀br∈w,br.1<=s.ia)(bv:s.ia<=1000000000)(K:s.lT=H r):cw bF 18 #[.pointer<|H ⟨b,0,none⟩] a λbb W=>bb=.returned (.tuple #[.int .i64<|(s.ia:X)+1,.nilIface])/\bK W b {s with ia:=s.ia+1} 0/\Inv W b {s with ia:=s.ia+1} j e p t u bt c g l k (w++[(s.ia+1,s.bB)])/\Z (λac=>(j.aZ s.aN ac\/ac=b)\/ac=r) a W:=by
 have bi:=aj h;have c0:aS a ⟨b,0,none⟩=H (.int .i32 0):=h.cell rfl;have f0:a.frozen? ⟨b,0,none⟩=bE:=h.free;have E:=kX T.st.aN T.st.rV 1;have h1:=h.gQ 1;have V:=T.pV;generalize hW:bZ a ⟨b,0,none⟩ (.int .i32 1)=W1 at E h1;have B:=ja h1;rw[hc]at B;have ba:cw bF 42 #[.pointer<|H ⟨b,0,none⟩] W1 λbb W=>bb=.returned .nilIface/\Below (z<|G W1) W1 W:=B
 have HX:=U (λq(hb:Below (z<|G W1) W1 q)=>show bK q b s 1/\jw q r (AQ w)/\∀d,d=bZ q ⟨b,15,none⟩ (.int .i64<|(s.ia:X)+1)->bK d b {s with ia:=s.ia+1} 1/\jw d r (AQ w)/\∀C,jw C r ((AQ w).put ((s.ia:X)+1)<|.int .u64 s.bB)->d.drew.grownBy C (H r)->aS C ⟨b,0,none⟩=H (.int .i32 1)/\C.frozen? ⟨b,0,none⟩=bE/\aS C ⟨b,15,none⟩=H (.int .i64<|(s.ia:X)+1)/\bK (bZ C ⟨b,0,none⟩<|.int .i32 0) b {s with ia:=s.ia+1} 0/\Inv (bZ C ⟨b,0,none⟩<|.int .i32 0) b {s with ia:=s.ia+1} j e p t u bt c g l k (w++[(s.ia+1,s.bB)])/\Z (λac=>(j.aZ s.aN ac\/ac=b)\/ac=r) a (bZ C ⟨b,0,none⟩<|.int .i32 0)from by
  have an:=E.trans<|qP (sbqq:=b) E.ok hb;have m:bK q b s 1:=h1.ar (Z.aT (S:=λ_=>False) hb) id;obtain⟨b0,q1,q2,q3⟩:=(V.ft an).ex;have eb:b0=r:=by rw[q1]at K;exact dC K
  subst eb;refine⟨m,q2,λd x=>?_⟩;subst x;have ao:=an.set T.st.rV 15<|.int .i64<|(s.ia:X)+1;have o:bK (bZ q ⟨b,15,none⟩<|.int .i64<|(s.ia:X)+1) b {s with ia:=s.ia+1} 1:=(aQ m).trans rfl;obtain⟨b1,p1,p2,p3⟩:=(V.ft ao).ex;have bd:b1=b0:=by rw[p1]at q1;exact dC q1
  subst bd;refine⟨o,p2,λC A F=>?_⟩;have bl:Z (λac=>ac=b1) (bZ q ⟨b,15,none⟩<|.int .i64<|(s.ia:X)+1) C:=(bX (λac=>ac=b1) _).trans (Z.dM (S:=λac=>ac=b1) F (by rintro ac⟨⟩;exact .inl rfl))<|λ_ u=>.inl u;have O:=VM (sn:=w) (n:=s.ia+1) (λbr hp=>by have:=hg br hp;omega) s.bB;rw[show(((s.ia+1:M)):X)=(s.ia:X)+1 from by push_cast;rfl]at O;rw[O]at A;obtain⟨r1,r2,r3,r4⟩:=Tk T bi ao o p1 rfl bl A (by simp;omega) (λbr hp=>by
   rcases ak.1 hp with u|u
   .exact T.VC br u
   .rw[bG]at u;rw[u];exact ah _)
  exact⟨r1,r2,r3.cell rfl,r4⟩)
 have HW:=U hW;have hi:IntKind.i64.wrap ((s.ia:X)+1)=(s.ia:X)+1:=by rw[bO];omega
 clear h T E h1 hc hW V B hg;go_enter_defers func18,ntmps18
 go_wp2_with fail
 refine(lock_free ⟨b,0,none⟩ _ c0 f0).mono ?_;rintro bb W⟨rfl,bm⟩;rw[ae HW]at bm;subst W;go_wp2_with fail
 refine ba.mono ?_;rintro bb q⟨rfl,hb⟩;obtain⟨m,av,ax⟩:=(ae HX) q hb;have bq:aS q ⟨b,16,none⟩=H (.map<|H r):=by rw[<-K];exact m.cell rfl
 have bp:aS q ⟨b,15,none⟩=H (.int .i64 s.ia):=m.cell rfl;have bf:q.frozen? ⟨b,15,none⟩=bE:=m.free;have bh:=Ko (P:=bF) underlying108 av 3;have hl:y (AQ w)=y w:=by simp[AQ]
 rw[hl]at bh;have e4:decide ((4:X)<=(y w:X))=bE:=wh (by omega);obtain⟨d,x⟩:∃d,d=bZ q ⟨b,15,none⟩ (.int .i64<|(s.ia:X)+1):=⟨_,rfl⟩;obtain⟨o,au,N⟩:=ax d x;have bo:aS d ⟨b,16,none⟩=H (.map<|H r):=by rw[<-K];exact o.cell rfl
 have bn:aS d ⟨b,15,none⟩=H (.int .i64<|(s.ia:X)+1):=o.cell rfl;have j9:aS d ⟨b,9,none⟩=H (.int .u64 s.bB):=o.cell rfl;have bc:=U au;have ad:=U N;clear m o au N ax av hl hb ba h4;go_wp2_with fail
 rename_i QQ KK al;rw[<-x];clear x bp bq bf;refine Code.wp_mono (Q:=λbb p a=>bb=Exit.normal/\KK p a) (λbb p a h=>by obtain⟨rfl,h⟩:=h;exact h) ?_;refine cg (λD=>aS D ⟨b,16,none⟩=H (.map<|H r)/\aS D ⟨b,15,none⟩=H (.int .i64<|(s.ia:X)+1)/\aS D ⟨b,9,none⟩=H (.int .u64 s.bB)) 12 (by kernel_rfl) ?_;have bg:aS d.drew ⟨b,16,none⟩=H (.map<|H r)/\aS d.drew ⟨b,15,none⟩=H (.int .i64<|(s.ia:X)+1)/\aS d.drew ⟨b,9,none⟩=H (.int .u64 s.bB):=⟨bo,bn,j9⟩;refine cQ 0 ?_;iterate 12 (refine wV (v:=?_) bg rfl (by kernel_rfl) (λ_ _ _ h=>by cases h.1) (Or.inl ⟨by rfl,?_⟩) ?_;rotate_left;(focus(rintro D⟨z0,z1,z2⟩;go_simp;try with_reducible rfl));simp only[Act.put,Nat.reduceAdd,dZ,gy,fT,dp,cD,cN])
 refine eh ?_;refine aJ (i:=12) rfl rfl (by kernel_rfl) ?_;intro bs L;try simp only[dp,cD,cN]
 refine IG (.tmp 34) (.tmp 38) (.tmp 42) 108 rfl 3 103 underlying108 underlying3 r _ rfl ((ae bc).dh rfl) ((s.ia:X)+1) (.int .u64 s.bB) rfl rfl ?_;intro w4 A F bk;refine L _ _ (λu=>(u rfl).elim) ?_;refine cO (by kernel_rfl) ?_ _;obtain⟨d0,g0,bu,hF⟩:=(ae ad) w4 A F;have HF:=U hF;clear hF A F bk L;refine⟨rfl,?_⟩;refine al _ _ ?_;clear al;go_wp2;refine eZ (f:=41) (args:=#[.pointer<|H ⟨b,0,none⟩]) (by simp) (by simp[go_sem]) ?_;refine(unlock_deferred ⟨b,0,none⟩ .returning _ d0 g0).mono ?_;rintro bb u' bx⟨rfl,rfl,rfl⟩;exact⟨_,kO rfl _ _ _,rfl,ae HF⟩
end
section
open Go.Conc.Locks
def Inv.Xx{s:SR}{n:fR}(h:Inv a b s j e i p t u c g l k n)(w:ku a d (gh n e []))(o:∀A,bV d=H A->Aside a j s.aN b A):Inv a b {s with memory:=d} j (gh n e []) i p t u c g l k n:=by
 have f:∀x∈gh n e [],x∈e:=λx m=>(AX m).elim id (λq=>by cases q);have v:=ye n e [];rw[cK,jq]at v;have r:=h.st.TB (s':={s with memory:=d}) (C':=c) ⟨rfl,rfl,rfl,rfl,rfl⟩ w o (ya h.st.mq n []) (λx m=>h.st.jd x<|f x m) (by omega) h.st.mN;exact{h with st:=r,mem:=(yA h.row<|.inr<|λx m=>(h.MF x m).2).trans h.mem,MF:=λx m=>h.MF x<|f x m,Wh:=aD v h.Wh,Xe:=xZ h.st.mq h.pV.len [],pV:=h.pV.fields ⟨rfl,rfl⟩}
def DQ(v:X)(h:bK a b n 0)(l:n.closed=bU):cw bF 20 #[aw b,am v] a λm k=>m=aO (lE 6)/\bK k b n 0/\Z (λt=>t=b) a k:=by
 have p:=bK.cellAt h 0 rfl;have r:a.frozen? (R b 0)=bE:=h.free;have j:=h.gQ 1;have d:=uq v j l;have o:=U<|λg i=>rl (W2:=g) j ((Z.refl (λt=>t=b) a).setCell b 0 _<|.inl rfl) i;clear h j l;rw[xM]at d|-;go_enter_defers func20,ntmps20
 go_wp2_with fail
 apply(lock_free (R b 0) _ p r).mono;rintro m k⟨rfl,rfl⟩;go_wp2_with fail
 apply d.mono;rintro m g⟨rfl,i⟩;obtain⟨q,s,c⟩:=o g i;have e:=U c;clear c i d;go_wp2;refine eZ (f:=41) (args:=#[aw b]) (by simp) (by simp[go_sem]) ?_;apply(unlock_deferred (R b 0) .returning _ q s).mono;rintro m w u⟨rfl,rfl,rfl⟩;exact⟨_,gL rfl _ _ _,rfl,e⟩
def Iw(A:fR)(ac:X)(h:bK a b n 0)(s:ST a b n j e i p t u c)(o:FZ a j b n A)(E:n.closed=bE)(F:oW A ac=none):cw bF 20 #[aw b,am ac] a λN B=>N=aO (lE 5)/\tz a B b n j e i p t u c:=by
 have w:=aj h;have S:=bK.cellAt h 0 rfl;have V:a.frozen? (R b 0)=bE:=h.free;have g:=kX s.aN s.rV 1;have q:=h.gQ 1;generalize D:bZ a (R b 0) (jn 1)=C at g q;obtain⟨mb,K,L,q3⟩:=(o.ft g).ex;have d:=rB ac A q E K L;have Q:=U<|λl(r:Below (z<|G C) C l)=>rm (W2:=l) q s w g r;have P:=U D;clear h s g q E D o K L q3;rw[F]at d;simp only at d;rw[Ow]at d|-;clear F;go_enter_defers func20,ntmps20
 go_wp2_with fail
 apply(lock_free (R b 0) _ S V).mono;rintro N B⟨rfl,x⟩;rw[ae P]at x;subst B;go_wp2_with fail
 apply d.mono;rintro N l⟨rfl,r⟩;obtain⟨v,m,k⟩:=Q l r;obtain⟨T,W,hF⟩:=k l m.KU<|Z.refl _ _;have O:=U hF;clear v m k r d hF;go_wp2;refine eZ (f:=41) (args:=#[aw b]) (by simp) (by simp[go_sem]) ?_;apply(unlock_deferred (R b 0) .returning _ T W).mono;rintro N u' ad⟨rfl,rfl,rfl⟩;exact⟨_,gL rfl _ _ _,rfl,O⟩
def Iv{s:SR}{cv:cP}(d:fR)(E:X)(mb tt:M)(h:bK a b s 0)(hV:Inv a b s j e p t u cv c g l k d)(hc:s.closed=bE)(hg:oW d E=H tt)(bh:s.lT=H mb):cw bF 20 #[aw b,am E] a λbk V=>bk=aO .nilIface/\∃n,bK V b {s with memory:=n} 0/\Inv V b {s with memory:=n} j (gh (lU d E) e []) p t u cv c g l k (lU d E)/\(∀bl,(bl∈so (lU d E)\/bl=(s.bB:X))->∀q,fU bl (gh (lU d E) e []::cF p t u cv) q=fU bl (e::cF p t u cv) q)/\Z (λD=>(j.aZ s.aN D\/D=b)\/D=mb) a V:=by
 have db:=aj h;have c0:=bK.cellAt h 0 rfl;have f0:a.frozen? (R b 0)=bE:=h.free;have O:=kX hV.st.aN hV.st.rV 1;have h1:=h.gQ 1;generalize hW:bZ a (R b 0) (jn 1)=W1 at O h1;obtain⟨b0,q1,q2,q3⟩:=(hV.pV.ft O).ex;have eb:b0=mb:=by rw[q1]at bh;exact dC bh
 subst eb;have au:=rB E d h1 hc q1 q2;rw[hg]at au;simp only at au
 have HX:=U (λW2(hb:Below (z<|G W1) W1 W2)=>show aS W2 (R b 16)=H (.map<|H b0)/\jw W2 b0 (AQ d)/\∀o,jw o b0 ((AQ d).del E)->W2.grownBy o (H b0)->aS o (R b 7)=H s.memory/\(∀W,Z az o W->aS W (R b 7)=H s.memory/\W.frozen? (R b 7)=bE/\cw bF 51 #[aw b] W (λbk V=>∃v',∃T:eK,bk=aO v'/\T.Perm (so<|lU d E)/\V.ownsRow (z<|G W) 103 1 v' (y T) (T.map<|Value.int .u64)/\Z az W V)/\∀v'(T:eK)F,T.Perm (so<|lU d E)->Z az W F->F.ownsRow (z<|G W) 103 1 v' (y T) (T.map<|Value.int .u64)->cw bF 50 #[s.memory,v'] F (λbk V=>∃n,bk=aO n/\V.ownsRow (z<|G F) 164 4 n (y<|gh (lU d E) e []) (aE<|gh (lU d E) e [])/\Z az F V))/\∀r n,Z az o r->r.ownsRow (z<|G o) 164 4 n (y<|gh (lU d E) e []) (aE<|gh (lU d E) e [])->aS r (R b 7)=H s.memory/\r.frozen? (R b 7)=bE/\∀K,K=bZ r (R b 7) n->aS K (R b 0)=H (jn 1)/\K.frozen? (R b 0)=bE/\bK (bZ K (R b 0)<|jn 0) b {s with memory:=n} 0/\Inv (bZ K (R b 0)<|jn 0) b {s with memory:=n} j (gh (lU d E) e []) p t u cv c g l k (lU d E)/\(∀bl,(bl∈so (lU d E)\/bl=(s.bB:X))->∀q,fU bl (gh (lU d E) e []::cF p t u cv) q=fU bl (e::cF p t u cv) q)/\Z (λD=>(j.aZ s.aN D\/D=b)\/D=b0) a (bZ K (R b 0)<|jn 0)from by
  have bu:=O.trans<|qP (sbqq:=b) O.ok hb;have bd:bK W2 b s 1:=h1.ar (Z.aT (S:=az) hb) id;have bo:=hV.ft db bu rfl (ah _) rfl hV.loose;obtain⟨b1,p1,p2,p3⟩:=bo.pV.ex;have cx:b1=b0:=by rw[p1]at q1;exact dC q1
  subst cx;refine⟨by rw[<-p1];exact bd.cell rfl,p2,λo x ao=>?_⟩;rw[Pd]at x;have bi:Z (λD=>D=b1) W2 o:=fi ao;have bb:=Gp E d;have bv:y (lU d E)<=4:=aD bb.length_le hV.pV.len;have m:=bo.qa (s':=s) p1 rfl bi x bv<|λp hp=>hV.VC p<|bb.subset hp;have N:bK o b s 1:=(bi.block b (aj bd)<|λu=>p3.ne u.symm).trans bd;have ck:Z (λD=>(j.aZ s.aN D\/D=b)\/D=b1) a o:=(bu.ar.mono<|λ_ u=>.inl<|.inl u).trans bi<|λ_ u=>.inl<|.inr u;have ce:=λ(bl:X)(a:bl∈so (lU d E)\/bl=(s.bB:X))(q:ab)=>(m.ym a q).symm;refine⟨N.cell rfl,λW av=>?_,λr n A C=>?_⟩
  .have ac:bK W b s 1:=N.ar av id;refine⟨ac.cell rfl,ac.free,rA (b:=b1) (lU d E) ac p1 (x.dh<|av.block _ x.lt id) bv,λv' T F hp w B=>?_⟩;have ad:ku F s.memory e:=(av.ci w).row m.st.mem<|λD hk=>⟨id,(m.st.sW D hk).lt⟩;have:=zq T ad m.st.mq (by have:=m.Wg;omega) (dF B) (by have:=hp.length_eq;rw[oI]at this;omega) (λD hk=>ag (m.st.sW D hk).lt (av.ci w).size)<|λD hk=>(aF B D hk).2;rw[Em hp]at this;exact this
  .have al:bK r b s 1:=N.ar A id;refine⟨al.cell rfl,al.free,λK L=>?_⟩;subst L;have cM:gw o r s.aN b j j:=⟨m.st.aN.ar A<|λ_ _=>id,A.mono cG,λ_ u=>.inl u⟩;have ac:=m.ft (aj N) cM rfl (ah _) rfl m.loose;have hA6:∀D,bV n=H D->Aside r j s.aN b D:=λD hk=>by
    have h1:=aF C D hk;exact⟨h1.2,λu=>by have:=m.st.aN.lt D u;omega,λu=>by have:=aj N;omega⟩
   have bg:gw r (bZ r (R b 7) n) s.aN b j j:=(gw.refl ac.st.aN).set ac.st.rV 7 n;have cB:=ac.ft (aj al) bg rfl (ah _) rfl ac.loose;have dc:ku (bZ r (R b 7) n) n (gh (lU d E) e []):=zW (dF C) bg hA6;have ad:=cB.Xx dc (λD hk=>(hA6 D hk).ft bg);have an:bK (bZ r (R b 7) n) b {s with memory:=n} 1:=(aQ al).trans rfl;have cT:=kX ad.st.aN ad.st.rV 0;have cl:=ck.ci A;exact⟨an.cell rfl,an.free,an.gQ 0,ad.ft (aj an) cT rfl (ah _) rfl ad.loose,ce,(cl.setCell b 7 _ (.inl (.inl (.inr rfl)))).setCell b 0 _ (.inl (.inl (.inr rfl)))⟩)
 obtain⟨x7,n7,dd⟩:=bL hV.st.mem;rw[dd]at HX;have HW:=U hW;clear h hV O h1 hc hW q1 q2 q3 hg bh;go_enter_defers func20,ntmps20
 go_wp2_with fail
 apply(lock_free (R b 0) _ c0 f0).mono;rintro bk V⟨rfl,dk⟩;rw[ae HW]at dk;subst V;go_wp2_with fail
 apply au.mono;rintro bk W2⟨rfl,hb⟩;obtain⟨ds,bx,cc⟩:=HX W2 hb;have co:=U bx;have HN:=U cc;clear bx cc hb au;go_wp2_with(at_delete;refine Dk _ rfl _ _ 108 3 rfl 103 underlying108 underlying3 b0 (AQ d) rfl co E rfl ?_;intro o x ao;have cp:=U x;have cn:=U ao;clear x ao)
 rename_i QQ KK bt;obtain⟨j7,bf,ch⟩:=HN o cp cn;have P:Z az o o.drew:=bX _ o;obtain⟨cE,_,bT,ca⟩:=bf o.drew P;obtain⟨cs,cu,cm⟩:=dB ca ch bf;clear ca ch bf j7 ds;refine Code.wp_mono (Q:=λbk p a=>bk=Exit.normal/\KK p a) (λbk p a h=>by obtain⟨rfl,h⟩:=h;exact h) ?_;refine cg (λbn=>aS bn (R b 7)=H (I x7 (y e) n7)) 10 (by kernel_rfl) ?_;refine cQ 0 ?_;iterate 6 (refine eE (v:=?_) cE rfl (by kernel_rfl) (λ_ _ _ h=>by cases h.1) rfl ?_ ?_;rotate_left;(focus(rintro bn z0;go_simp;try rfl));simp only[Act.put,cX,gB,Nat.reduceAdd])
 apply eh;refine aJ (i:=6) rfl rfl (by kernel_rfl) ?_;intro K6 bp;go_simp;apply bT.mono;rintro bk F⟨v5,T,rfl,cd,B,w⟩;have cb:=cs v5 T F cd w B;obtain⟨y5,d5,dm⟩:=aB B;subst dm;refine bp _ _ (λ_=>(cm F<|P.ci w).1) ?_;try simp only[Act.put,cX,gB]
 clear bp B bT cd;refine aJ (i:=7) rfl rfl (by kernel_rfl) ?_;intro K7 bq;go_simp;apply cb.mono;rintro bk r⟨n,rfl,C,A⟩;have bc:Z az o r:=(P.ci w).ci A;have cj:z (G o)<=z (G F):=(P.ci w).size;obtain⟨z7,g7,ba⟩:=cu r n bc<|eS C cj;obtain⟨y6,d6,dn⟩:=aB C;subst dn;refine bq _ _ (λ_=>z7) ?_;try simp only[Act.put,cX,gB]
 have bm:=U ba;clear bq C cb ba w A bc cj P;refine aJ (i:=8) rfl rfl (by kernel_rfl) ?_;intro K8 br;go_simp;refine br _ _ (λ_=>z7) ?_;try simp only[Act.put,cX,gB]
 clear br;refine aJ (i:=9) rfl rfl (by kernel_rfl) ?_;intro K9 bs;go_simp;refine bs _ _ (λ_=>z7) ?_;try simp only[Act.put,cX,gB]
 clear bs;refine aJ (i:=10) rfl rfl (by kernel_rfl) ?_;intro dv ax;go_simp;refine ax _ _ wu ?_;try simp only[Act.put,cX,gB]
 clear ax;refine cO (by kernel_rfl) ?_ _;refine⟨rfl,?_⟩;obtain⟨K,L⟩:∃K,K=bZ r (R b 7) (I y6 (y<|gh (lU d E) e []) d6):=⟨_,rfl⟩;obtain⟨d0,g0,hF⟩:=bm K L;rw[<-L];have HF:=U hF;clear hF L z7 g7;apply bt;clear bt;go_wp2;refine eZ (f:=41) (args:=#[aw b]) (by simp) (by simp[go_sem]) ?_;apply(unlock_deferred (R b 0) .returning _ d0 g0).mono;rintro bk u' dx⟨rfl,rfl,rfl⟩;exact⟨_,gL rfl _ _ _,rfl,_,HF⟩
end
