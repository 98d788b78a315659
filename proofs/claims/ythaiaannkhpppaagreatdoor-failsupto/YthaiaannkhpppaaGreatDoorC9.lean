import Derived.Test.YthaiaannkhpppaaGreatDoorC7
import Derived.Test.YthaiaannkhpppaaGreatDoorC8
open _root_ renaming List.length→y,Option.some→H,Array.size→z,Go.World.heap→G,Go.Value.ownBlock→cK,Go.World.cell?→aW,Go.World.setCell→cq,Go.World.alloc→cN,Bool.false→aX,Bool.true→ci,Nat→M,Int→X,List→cJ,Go.Calls→cY,Go.undef→iH,Go.Proofs.Tryz.prog→aZ,Go.Value.slice→I,Go.Value.string→am,Go.Value.bool→aN,Go.Value.pointer→cX,Go.Value.tuple→dq,Go.Value.agg→dC
namespace Go.Proofs.YthaiaannkhpppaaGreatDoor
open ChangeShapes WideShapes RowKit Proofs.Tryz List
set_option maxHeartbeats 16000000
set_option linter.all false
set_option maxRecDepth 100000
variable{a f:Y}{b c g m:M}{d s L:ab}{e K:cR}{j W u v:cW}{k N:X}{l:dS}{n:eR}{r:iV}{w:E}{P:Bool}{T:Type}{V:Array ab}
def tN(b:eR)(a:Bool)(c:dS):(gL b a c).Sublist (dI b<|cQ c):=by
 unfold gL;grind[kq]
def tP{ms:eR}{lowest:Bool}(c:dV (cQ l))(d:∀x∈cQ l,x.Good)(e:y (cQ l)<=1000000)(g:y ms<=4):dV (gL ms lowest l)/\qV 5 (gL ms lowest l)/\(∀x∈gL ms lowest l,x.Good)/\y (gL ms lowest l)<=1000000:=by
 have b:=tN ms lowest l;have a:=b.trans<|jn ms<|cQ l;exact⟨c.sub a,((yI c).sub b).mono (by omega),λx f=>d x<|a.subset f,aC a.length_le e⟩
def Hk{V:iV}{W:Y}{ms:eR}{mx:Option Addr}{mc:M}(b:cR)(s:Row W 1 (I mx (y ms) mc) (y ms) (ms.map<|Value.int .u64))(d:∀k,cK (I mx (y ms) mc)=H k->k<z (G W)/\¬V.F k)(t:y ms<=4)(p:dV b)(o:y b<=1000000):(∀(e:Y)(a:M)(m:Option Addr)(j:M),Z V.F W e->e.ownsRow a 171 4 (I m (y b) j) (y b) (aK b)->cY aZ 96 #[I m (y b) j,I mx (y ms) mc] e λr h=>∃g,r=aM g/\h.ownsRow (z<|G e) 171 4 g (y<|dI ms b) (aK<|dI ms b)/\Z ay e h)/\(∀(i:Y)(a:M)(n:Option Addr)(l:M),i.ownsRow a 171 4 (I n (y<|dI ms b) l) (y<|dI ms b) (aK<|dI ms b)->cY aZ 164 #[I n (y<|dI ms b) l] i λr h=>∃g,r=aM g/\h.ownsRow (z<|G i) 171 4 g (y<|gA<|dI ms b) (aK<|gA<|dI ms b)/\Z ay i h):=by
 constructor;intro e a m j q f;exact zO ms (dJ f) p o (q.row s<|λk c=>⟨(d k c).2,(d k c).1⟩) (by omega) (λk c=>(f.lt k c).2)<|λk c=>ag (d k c).1 q.size;intro i a n l f;exact MZ (dJ f) (p.sub<|jn ms b) (aC (jn ms b).length_le o)<|λk c=>(f.lt k c).2
def qN{c:Func}{E Q:Tmp}(S:c.results=#[.cell E 92,.tmp Q])(a:Array ab)(w:Y)(g:M)(e f h i:ab)(O:TypeId)(d:M×M)(r:a.getD E iH=aA g)(p:w.heap[g]?=H (aw #[e,f,h,i] O d))(j:∃x n k,e=I x n k)(l:∃x n k,f=I x n k)(m:∃x n k,h=I x n k)(o:∃x n k,i=I x n k):(results c a).run aZ w=.ok (dq #[dC #[e,f,h,i],a.getD Q iH]) w:=by
 obtain⟨F,A,s,rfl⟩:=j;obtain⟨K,B,t,rfl⟩:=l;obtain⟨L,C,u,rfl⟩:=m;obtain⟨N,D,v,rfl⟩:=o;have b:a[E]?.getD iH=aA g:=by simpa using r
 have q:=ku (P:=aZ) w g O 92 #[I F A s,I K B t,I L C u,I N D v] d _ p underlying92 rfl (by kernel_rfl);simp[results,S,b,asAddr,q,Result.andThen]
def ET{e f g h a' b' c' d':ab}{t:TypeId}{c:M×M}(j:a.heap[b]?=H (aw #[e,f,g,h] t c)):(cq (cq (cq (cq a (R b 0) a') (R b 1) b') (R b 2) c') (R b 3) d').heap[b]?=H (aw #[a',b',c',d'] t c):=by
 have d:=aH (i:=3) (u:=d')<|aH (i:=2) (u:=c')<|aH (i:=1) (u:=b')<|aH (i:=0) (u:=a') j;rw[d];simp
abbrev bL(v:ab):ab:=dq #[dC #[az,az,az,az],v]
def WK{b q:M}(i:r.Xp)(l:Af f q)(h:r.D f)(n:Z r.F a f)(g:f.heap[b]?=H (aw #[az,az,az,az] 92 (0,0)))(m:z (G a)<=b)(j:¬r.F b):∀d,d=cq (cq (cq (cq f (R b 0) az) (R b 1) az) (R b 2) az) (R b 3) az->d.heap[b]?=H (aw #[az,az,az,az] 92 (0,0))/\Dp r a d r.F (aM<|bL<|eD q) bL:=by
 rintro d rfl;have e:=ET (a':=az) (b':=az) (c':=az) (d':=az) g;have c:Z (λk=>k=b) f (cq (cq (cq (cq f (R b 0) az) (R b 1) az) (R b 2) az) (R b 3) az):=(((gZ b f).setCell _ 1 _<|.inl rfl).setCell _ 2 _<|.inl rfl).setCell _ 3 _<|.inl rfl;exact⟨e,i,q,rfl,l.aj c (λk b _=>by rw[b];exact⟨_,92,_,g,by decide⟩),r.eY h c (λk b=>by rw[b];exact j),n.trans c<|λk b=>.inr (by rw[b];exact m)⟩
def Tv(b0 i g:M)(x1 E F:Option Addr)(n1 B C c1 c2 c3:M)(d:cW)(W aa:cW)(bv:Row a 1 (bD b0 i (y d) g) (y d) (d.map bz.ptr))(bb:b0<b/\¬r.F b0)(cj:∀ej∈d,nE r b ej.tb ej.ks ej.cs a)(h1:sQ r b (I x1 n1 c1) j a)(dT:Row a 1 (I E B c2) (y W) (W.map bz.ptr))(ea:Row a 1 (I F C c3) (y aa) (aa.map bz.ptr))(dr:∀k,cK (I E B c2)=H k->k<b/\¬r.F k)(ds:∀k,cK (I F C c3)=H k->k<b/\¬r.F k)(hD:r.D a)(u:b<=z (G a))(hF:∀k,r.F k->k<b)(hT:Steps a)(cp:1<b/\¬r.F 1)(bk:y d+y j+y W+y aa<=1000000)(s:eR)(mx:Option Addr)(mc:M)(hm:Row a 1 (I mx (y s) mc) (y s) (s.map<|Value.int .u64))(bf:∀k,cK (I mx (y s) mc)=H k->k<b/\¬r.F k)(cw:y s<=4)(c:Bool)(bn:c=(W.isEmpty&&aa.isEmpty))(hs:dV (cQ<|bZ j::d.map bz.all))(hg:∀es∈cQ (bZ j::d.map bz.all),es.Good)(hl:y (cQ<|bZ j::d.map bz.all)<=1000000):cY aZ 104 #[dC #[bD b0 i (y d) g,I x1 n1 c1,I E B c2,I F C c3],ar 0,I mx (y s) mc] a λA D=>(∃O bp K,∃e:cW,A=aM (dq #[dC #[az,I O bp K,I E B c2,I F C c3],.nilIface])/\D.ownsRow (z<|G a) 186 1 (I O bp K) (y e) (e.map bz.ptr)/\e.map bz.all=gC (rL s c d j)/\qu D (z<|G a) e/\r.D D/\Z r.F a D)\/Dp r a D r.F A bL:=by
 have hW:Z ay a (cN (cN a<|aw #[bD b0 i (y d) g,I x1 n1 c1,I E B c2,I F C c3] 92)<|aw #[az,az,az,az] 92):=(cF _ a).alloc _;generalize bd:cN (cN a<|aw #[bD b0 i (y d) g,I x1 n1 c1,I E B c2,I F C c3] 92) (aw #[az,az,az,az] 92)=bm at hW;have bc:bm.heap[z<|G a]?=H (aw #[bD b0 i (y d) g,I x1 n1 c1,I E B c2,I F C c3] 92 (0,0)):=by rw[<-bd];grind[fU,aJ]
 have ck:bm.heap[z (G a)+1]?=H (aw #[az,az,az,az] 92 (0,0)):=by rw[<-bd];exact aJ _<|by simp
 have ap:∀t,Z ay a t->kO r b ay a t:=λt ht=>ht.same u cL cL;have bu:∀k,b<=k->¬r.F k:=λk p cT=>by have:=hF k cT;omega
 have cv:∀t,Z r.F bm t->Dm t (z<|G a) 0 [(bD b0 i (y d) g,d),(I x1 n1 c1,j),(I E B c2,W),(I F C c3,aa)]:=by
  intro t ao;have bo:∀ca c,Row a 1 ca (y c) (c.map bz.ptr)->(∀k,cK ca=H k->k<b/\¬r.F k)->Row t 1 ca (y c) (c.map bz.ptr):=λca c hr p=>
   ao.row (hW.row hr<|λk A=>⟨id,ag (p k A).1 u⟩) (λk A=>⟨(p k A).2,ag (p k A).1<|aC u hW.size⟩)
  have hz:z (G a)<=z (G t):=aC hW.size ao.size;have bx:=(ao.block _ (ak bc)<|bu _ u).trans bc;have bt:∀V ca,(#[bD b0 i (y d) g,I x1 n1 c1,I E B c2,I F C c3]:Array ab)[V]?=H ca->aW t (R (z<|G a)<|0+V)=H ca:=by
   intro V ca hv;rw[cg bx,dE];exact hv
  refine⟨rfl,λV hi=>?_,λV hi=>?_,λV hi k p=>?_,by simp[lO];omega⟩
  .match V,hi with
   |0,_=>grind
   |1,_=>grind
   |2,_=>grind
   |3,_=>grind
  .match V,hi with
   |0,_=>exact bo _ _ bv (λk A=>by cases A;exact bb)
   |1,_=>exact bo _ _ h1.row<|λk A=>h1.loc k A
   |2,_=>grind
   |3,_=>grind
  .match V,hi with
   |0,_=>cases p;grind
   |1,_=>exact ag (h1.loc k p).1<|aC u hz
   |2,_=>grind
   |3,_=>grind
 have L:∀t,Z r.F bm t->cY aZ 163 #[aA<|z<|G a,ar 2] t λA D=>A=aM (aN c)/\D=t:=by intro t ao;have h:=CQ (w:=t) (lb:=z<|G a) (lo:=0) 2 _ (cv _ ao) (by omega);(have he:jO [(bD b0 i (y d) g,d),(I x1 n1 c1,j),(I E B c2,W),(I F C c3,aa)] 2=c:=by rw[bn];simp[jO]);rw[he]at h;exact h
 have S:∀q,cY aZ 162 #[bD b0 i (y d) g,I x1 n1 c1] (bm.drewN q) λA D=>(∃c,A=aM (dq #[c,.nilIface])/\D.ownsRow (z<|G bm) 171 4 c (y<|cQ<|bZ j::d.map bz.all) (aK<|cQ<|bZ j::d.map bz.all)/\r.D D/\Z r.F (bm.drewN q) D)\/Dp r (bm.drewN q) D r.F A (λca=>dq #[az,ca]):=by intro q;have bo:Z ay a (bm.drewN q):=hW.of_heap rfl;have bk:=ap _ bo;refine EP b b0 i g (I x1 n1 c1) d j ?_ bb (λej ht=>(cj ej ht).same bk) (by omega) (h1.same bk) (r.eY hD bo cL) (aC u bo.size) hF hl;intro V hi;obtain⟨_,⟨cT,_⟩|⟨b',ei,bx,cT,_,hc⟩⟩:=bv.same bk (λk A=>by cases A;exact bb);cases cT;grind
 have cl:=Hk (V:=r) (W:=bm) (ms:=s) (mx:=mx) (mc:=mc) (cQ<|bZ j::d.map bz.all) (hW.row hm<|λk A=>⟨id,ag (bf k A).1 u⟩) (λk A=>⟨ag (bf k A).1<|aC u hW.size,(bf k A).2⟩) cw hs hl;have cn:∀t,Z r.F bm t->Steps t:=λt ht k p=>ht.cell (hW.cell (hT k p) id hT.lt) cp.2<|ag hT.lt hW.size;have co:dV (rL s c d j)/\qV 5 (rL s c d j)/\(∀es∈rL s c d j,es.Good)/\y (rL s c d j)<=1000000:=tP hs hg hl cw;obtain⟨cb,av,bq,dc,ax,cd,al,HW,an⟩:=yr bc ck L S cl cn co hW bu;have em:∀e:cW,e.map bz.all=gC (rL s c d j)->y e<=100000000:=by intro e h;have:=bS y h;rw[dj]at this;have:=uC<|rL s c d j;omega
 have dn:=U bd;have eq:=hW.size;have cx:rL s c d j=if c then gA (dI s<|cQ<|bZ j::d.map bz.all)else dI s (cQ<|bZ j::d.map bz.all):=rfl;have aF:=U cx;clear bv bb cj h1 dT ea dr ds hD hF hT cp bn hg hl hs hm bf bc ck ap cv L S cl cn co hW bu bd cx;generalize cQ (bZ j::d.map bz.all)=ML at*;generalize rL s c d j=ch at*;go_in
 go_wp2_with fail
 go_quiet(fail)
 rw[J dn];have S:=dc nq;go_wp2_with fail
 apply S.mono;rintro A P(⟨ed,rfl,x,w,v⟩|⟨cr,q1,rfl,cE,w,v⟩);rotate_left;(.have f:Z r.F bm P:=(iY r.F bm nq).trans v<|λ_ h=>.inl h;have l:=(f.block _ (ak av)<|an _<|by omega).trans av;have q0:=cellAt l 0 rfl;have bo:=cellAt l 1 rfl;have q2:=cellAt l 2 rfl;have q3:=cellAt l 3 rfl;have g0:=cP (i:=0) l;have g1:=cP (i:=1) l;have g2:=cP (i:=2) l;have g3:=cP (i:=3) l;have ad:=U (WK cr cE w ((HW.mono (T:=r.F) cL).trans f<|λ_ h=>.inl h) l (by omega)<|an _<|by omega);clear cr cE w v S f l;go_wp2;obtain⟨r1,r2⟩:=ad _ rfl;refine ct (qN rfl _ _ (z (G a)+1) az az az az _ _ rfl r1 ⟨_,_,_,rfl⟩ ⟨_,_,_,rfl⟩ ⟨_,_,_,rfl⟩ ⟨_,_,_,rfl⟩) rfl ?_;exact .inr r2);have f:Z r.F bm P:=(iY r.F bm nq).trans v<|λ_ h=>.inl h;obtain⟨o,m,rfl⟩:=aB x;have cB:=ax.1 P _ o m f x;have ac:=U w;have aV:=U f;clear x w v f S;go_wp2_with fail
 apply cB.mono;rintro A w2⟨vn,rfl,bi,bE⟩;have au:Z r.F bm w2:=aV.cz bE;have cm:=r.eY ac bE cL;obtain⟨xn,ef,rfl⟩:=aB bi;have L:=bq w2 au;have bs:=ax.2 w2 _ xn ef bi;have cM:=aV.size;obtain⟨aD,Q,br⟩:=dz cm au bi;clear bi cm au bE cB;cases c;(case' false=>obtain rfl:ch=dI s ML:=J aF;clear bs ax aF;(go_wp2_with fail);apply L.mono;rintro A bT⟨rfl,ec⟩;subst bT;clear L;obtain⟨aU,ba,cc⟩:=dz (fX (base':=z<|G a) br<|by omega) Q aD;clear Q aD br aV ac bq;generalize w2=w3 at*);(case' true=>obtain rfl:ch=gA (dI s ML):=J aF;(go_wp2_with fail);apply L.mono;rintro A bT⟨rfl,ec⟩;subst bT;(go_wp2_with fail);apply bs.mono;rintro A w3⟨vb,rfl,bo,bx⟩;obtain⟨xn,ef,rfl⟩:=aB bo;obtain⟨aU,ba,cc⟩:=dz (fX (base':=z<|G a) bo (by have:=Q.size;omega)) (Q.cz bx)<|r.eY aD bx cL;clear bo bx L bs Q aD br aV ac bq ax aF cM)
 all_goals
  have dx:=ve (dJ aU) al.1 al.2.1 al.2.2.1 al.2.2.2 (λk p=>(aU.lt k p).2)<|cd w3 ba;clear aU cd al;go_wp2_with fail
  apply dx.mono;rintro A P⟨ed,e,rfl,x,cs,bg,v⟩;have f:Z r.F bm P:=ba.cz v;have w:=r.eY cc v cL;have eo:=ba.size;obtain⟨o,m,rfl⟩:=aB x;have cu:=(f.block _ (ak cb)<|an _ u).trans cb;have l:=(f.block _ (ak av)<|an _<|by omega).trans av;have en:=f.size;have bg:=bg.base (base':=z<|G a) (by omega);have hC:cY aZ 102 #[bD (z<|G P) 0 3 3] (cN P<|aw #[az,I o (y e) m,az] 90) λA D=>∃v',A=aM v'/\D.ownsRow (z<|G a) 186 1 v' (y e) (e.map bz.ptr)/\Z ay P D:=by
   have bt:∀V ca,(#[I none 0 0,I o (y e) m,az]:Array ab)[V]?=H ca->aW (cN P<|aw #[az,I o (y e) m,az] 90) (R (z<|G P)<|0+V)=H ca:=by
    simp_all
   have eb:Row (cN P<|aw #[az,I o (y e) m,az] 90) 1 (I o (y e) m) (y e) (e.map bz.ptr):=dJ<|aT x _;have h:=tW (z<|G P) 0 3 [(I none 0 0,[]),(I o (y e) m,e),(I none 0 0,[])] (cN P<|aw #[az,I o (y e) m,az] 90) ?_ (by simp) ?_ ?_ (by simp) (by simp[lO];grind)
   .have e1:lO [(I none 0 0,[]),(I o (y e) m,e),(I none 0 0,[])]=y e:=by simp[lO]
    have e2:qd [(I none 0 0,[]),(I o (y e) m,e),(I none 0 0,[])]=e.map bz.ptr:=by simp[qd]
    rw[e1,e2]at h;apply h.mono;rintro A D⟨v',rfl,ho,ht⟩;exact⟨v',rfl,fX ho (by simp;omega),(cF ay P).cz ht⟩
   .grind
   .intro V hi;match V,hi with
    |0,_=>exact⟨rfl,.inl ⟨rfl,rfl⟩⟩
    |1,_=>exact eb
    |2,_=>exact⟨rfl,.inl ⟨rfl,rfl⟩⟩
   .intro V hi k p;match V,hi with
    |0,_=>cases p
    |1,_=>have:=(bM x k p).2;simp;omega
    |2,_=>cases p
  obtain⟨dk,ac,dm,db,ce,cf⟩:=lf bg w f cs cu l;clear x cs bg w v f cu l;go_wp2_with fail
  apply hC.mono;rintro A w2⟨er,rfl,bh,N⟩;obtain⟨O,K,rfl⟩:=aB bh;have yV:=(N.block _ (ak ce) id).trans ce;have n:=(N.block _ (ak cf) id).trans cf;have p0:=cellAt yV 0 rfl;have p1:=cellAt yV 1 rfl;have p2:=cellAt yV 2 rfl;have p3:=cellAt yV 3 rfl;have f0:=cP (i:=0) yV;have f1:=cP (i:=1) yV;have q0:=cellAt n 0 rfl;have q1:=cellAt n 1 rfl;have q2:=cellAt n 2 rfl;have q3:=cellAt n 3 rfl;have g0:=cP (i:=0) n;have g1:=cP (i:=1) n;have g2:=cP (i:=2) n;have g3:=cP (i:=3) n;obtain⟨el,Q,ek⟩:=dz bh N n;have ad:=U (show∀wf,wf=cq (cq (cq (cq (cq (cq w2 (R (z<|G a) 0) az) (R (z<|G a) 1)<|I O (y e) K) (R (z (G a)+1) 0) az) (R (z (G a)+1) 1)<|I O (y e) K) (R (z (G a)+1) 2)<|I E B c2) (R (z (G a)+1) 3) (I F C c3)->wf.heap[z (G a)+1]?=H (aw #[az,I O (y e) K,I E B c2,I F C c3] 92 (0,0))/\wf.ownsRow (z<|G a) 186 1 (I O (y e) K) (y e) (e.map bz.ptr)/\qu wf (z<|G a) e/\r.D wf/\Z r.F a wf from by
   rintro wf rfl;have hx:((cq (cq w2 (R (z<|G a) 0) az) (R (z<|G a) 1)<|I O (y e) K)).heap[z (G a)+1]?=H (aw #[az,az,az,az] 92 (0,0)):=(jd _<|by omega).trans<|(jd _<|by omega).trans n;have bl:Z (λk=>k=z (G a)\/k=z (G a)+1) w2 (cq (cq (cq (cq (cq (cq w2 (R (z<|G a) 0) az) (R (z<|G a) 1)<|I O (y e) K) (R (z (G a)+1) 0) az) (R (z (G a)+1) 1)<|I O (y e) K) (R (z (G a)+1) 2)<|I E B c2) (R (z (G a)+1) 3)<|I F C c3):=((((((Z.refl _ w2).setCell _ 0 _<|.inl<|.inl rfl).setCell _ 1 _<|.inl<|.inl rfl).setCell _ 0 _<|.inl<|.inr rfl).setCell _ 1 _<|.inl<|.inr rfl).setCell _ 2 _<|.inl<|.inr rfl).setCell _ 3 _<|.inl<|.inr rfl;have dv:=ET (a':=az) (b':=I O (y e) K) (c':=I E B c2) (d':=I F C c3) hx;generalize cq (cq (cq (cq (cq (cq w2 (R (z<|G a) 0) az) (R (z<|G a) 1)<|I O (y e) K) (R (z (G a)+1) 0) az) (R (z (G a)+1) 1)<|I O (y e) K) (R (z (G a)+1) 2)<|I E B c2) (R (z (G a)+1) 3) (I F C c3)=wf at*;have eg:∀k,(k=z (G a)\/k=z (G a)+1)->∃b,w2.heap[k]?=H (aw b 92 (0,0)):=by
    grind
   refine⟨dv,bl.own bh<|λk p cT=>?_,?_,r.eY (r.eY ac N cL) bl<|λk p=>an k (by rcases p with cT|cT<;>omega),?_⟩
   .grind[fE,kw]
   .refine((dk.aj N).other bl<|λk p=>?_).base (by omega);grind
   .exact(((HW.mono (T:=r.F) cL).trans dm (λ_ h=>.inl h)).cz N).trans bl (λk p=>.inr (by rcases p with cT|cT<;>omega)))
  clear bh N yV n hC;go_wp2;obtain⟨r1,r2,r3,r4,r5⟩:=ad _ rfl;refine ct (qN rfl _ _ (z (G a)+1) az (I O (y e) K) (I E B c2) (I F C c3) _ _ rfl r1 ⟨_,_,_,rfl⟩ ⟨_,_,_,rfl⟩ ⟨_,_,_,rfl⟩ ⟨_,_,_,rfl⟩) rfl ?_;exact .inl ⟨O,y e,K,e,rfl,r2,db,r3,r4,r5⟩
theorem nY{us ts:cW}(h:us.Sublist ts):(bZ us).Sublist (bZ ts):=by
 induction h with
 |slnil=>grind
 |cons x _ a=>rw[zb];grind
 |cons_cons x _ a=>rw[zb,zb];grind
def ji.sub(h:ji W)(a:j.Sublist W):ji j:=⟨λt b=>h.pure t<|a.subset b,h.mj.sub<|nY a,h.Du.sublist<|a.map _⟩
def Vr(i:iW a (bD b c (y j) g) j)(d:y j<=g)(f:m<=y j):iW a (I (if g=m then H (R b c)else H (R b<|c+m)) (y j-m)<|g-m) (j.drop m):=by
 by_cases h:g=m;(have e:y j=m:=by omega);rw[dH h,<-e,gv,Aj,show g-y j=0 by omega];exact i.empty c;rw[dF h];exact i.drop m f
def Yu{w1:Y}{ta tbqq:cW}(a:M)(f:iW w1 d ta)(g:iW w1 s tbqq)(t:y ta+y tbqq<=10000000)(u:a<=z (G w1))(T:TypeId):cY aZ 102 #[bD (z<|G w1) 0 2 2] ((cN w1<|aw #[d,s] T).drew) λq j=>∃e,q=aM e/\j.ownsRow a 186 1 e (y<|ta++tbqq) ((ta++tbqq).map bz.ptr)/\Z ay w1 j:=by
 have b:Z ay w1 ((cN w1<|aw #[d,s] T).drew):=(cF _ w1).of_heap rfl;have h:∀k v,(#[d,s]:Array ab)[k]?=H v->aW ((cN w1<|aw #[d,s] T).drew) (R (z<|G w1)<|0+k)=H v:=by simp_all
 have r:=tW (z<|G w1) 0 2 [(d,ta),(s,tbqq)] ((cN w1<|aw #[d,s] T).drew) ?_ (by simp) ?_ ?_ (by simp) (by simp[lO];omega);(have m:lO [(d,ta),(s,tbqq)]=y (ta++tbqq):=by simp[lO]);(have n:qd [(d,ta),(s,tbqq)]=(ta++tbqq).map bz.ptr:=by simp[qd]);rw[m,n]at r;apply r.mono;rintro q j⟨e,rfl,o,p⟩;exact⟨e,rfl,fX o (by simp;omega),b.cz p⟩;grind
 .intro k i;match k,i with
  |0,_=>exact b.row f.row<|λl c=>⟨id,f.lt l c⟩
  |1,_=>exact b.row g.row<|λl c=>⟨id,g.lt l c⟩
 .intro k i l c;match k,i with
  |0,_=>have:=f.lt l c;simp;omega
  |1,_=>have:=g.lt l c;simp;omega
def Yt(e b f:cW)(c:M)(u:Row a 1 d (y e) (e.map bz.ptr))(i:∀k,cK d=H k->k<z (G a))(v:Row a 1 s (y b) (b.map bz.ptr))(j:∀k,cK s=H k->k<z (G a))(w:Row a 1 L (y f) (f.map bz.ptr))(l:∀k,cK L=H k->k<z (G a))(D:y e+y b+y f<=10000000)(E:c<=z (G a))(T:TypeId):cY aZ 102 #[bD (z<|G a) 0 3 3] (cN a<|aw #[d,s,L] T) λB p=>∃m,B=aM m/\p.ownsRow c 186 1 m (y<|e++b++f) ((e++b++f).map bz.ptr)/\Z ay a p:=by
 have h:Z ay a (cN a<|aw #[d,s,L] T):=(cF _ a);have n:∀q v,(#[d,s,L]:Array ab)[q]?=H v->aW (cN a<|aw #[d,s,L] T) (R (z<|G a)<|0+q)=H v:=by simp_all
 have C:=tW (z<|G a) 0 3 [(d,e),(s,b),(L,f)] (cN a<|aw #[d,s,L] T) ?_ (by simp) ?_ ?_ (by simp) (by simp[lO];omega);(have r:lO [(d,e),(s,b),(L,f)]=y (e++b++f):=by simp[lO]);(have t:qd [(d,e),(s,b),(L,f)]=(e++b++f).map bz.ptr:=by simp[qd]);rw[r,t]at C;apply C.mono;rintro B p⟨m,rfl,x,A⟩;exact⟨m,rfl,fX x (by simp;omega),h.cz A⟩;grind
 .intro q o;match q,o with
  |0,_=>exact h.row u<|λk g=>⟨id,i k g⟩
  |1,_=>exact h.row v<|λk g=>⟨id,j k g⟩
  |2,_=>exact h.row w<|λk g=>⟨id,l k g⟩
 .intro q o k g;match q,o with
  |0,_=>have:=i k g;simp;omega
  |1,_=>have:=j k g;simp;omega
  |2,_=>have:=l k g;simp;omega
def Fp{kl:cJ (ab×cW)}{ek:ab->ab->Array ab}(dc e l:M)(ac xa xd:Option Addr)(fu hD na dm nd dn:M)(bx bc:cW)(h1:sQ r c (bD dc e (y j) l) j a)(hm:y j<=l)(jE:0<y j)(h2:sQ r c (I ac fu hD) W a)(hu:Row a 1 (I xa na dm) (y bx) (bx.map bz.ptr))(hv:Row a 1 (I xd nd dn) (y bc) (bc.map bz.ptr))(et:∀f,cK (I xa na dm)=H f->f<c/\¬r.F f)(ew:∀f,cK (I xd nd dn)=H f->f<c/\¬r.F f)(ko:r.D a)(s:c<=z (G a))(hF:∀f,r.F f->f<c)(kt:Steps a)(hg:1<c/\¬r.F 1)(ls:y j+y W+y bx+y bc<=1000000)(jC:kg W<=1000000000)(d:Bool)(hi:(b=1/\k=1/\N=3/\V=#[I xa na dm,bD dc e (y j) l,I ac fu hD,I xd nd dn]/\kl=[((I xa na dm:ab),bx),(bD dc e (y j) l,j),(I ac fu hD,W),(I xd nd dn,bc)]/\ek=(λmd fu=>#[I xa na dm,md,fu,I xd nd dn])/\d=bc.isEmpty)\/(b=2/\k=2/\N=4/\V=#[I xa na dm,I xd nd dn,bD dc e (y j) l,I ac fu hD]/\kl=[((I xa na dm:ab),bx),(I xd nd dn,bc),(bD dc e (y j) l,j),(I ac fu hD,W)]/\ek=(λmd fu=>#[I xa na dm,I xd nd dn,md,fu])/\d=ci))(ky:∀o(hj:o<y j),∀ws:cW,ws.Sublist W->dV (cQ<|bZ ws::[j[o]].map bz.all)/\(∀mg∈cQ (bZ ws::[j[o]].map bz.all),mg.Good)/\y (cQ<|bZ ws::[j[o]].map bz.all)<=1000000)(ms:eR)(mx:Option Addr)(mc:M)(kv:Row a 1 (I mx (y ms) mc) (y ms) (ms.map<|Value.int .u64))(hq:∀f,cK (I mx (y ms) mc)=H f->f<c/\¬r.F f)(ho:y ms<=4):cY aZ 104 #[dC V,ar k,I mx (y ms) mc] a λP p=>(∃xl nl gt xm x gx,∃tm:cW,∃o,∃hj:o<y j,∃B q,P=aM (dq #[dC<|ek (I xl nl gt)<|I xm x gx,.nilIface])/\zv W (iZ j[o].ks) (jp j[o].ks) B q/\p.ownsRow (z<|G a) 186 1 (I xl nl gt) (y<|j.take o++j.drop (o+1)) ((j.take o++j.drop (o+1)).map bz.ptr)/\p.ownsRow (z<|G a) 186 1 (I xm x gx) (y<|W.take B++tm++W.drop q) ((W.take B++tm++W.drop q).map bz.ptr)/\tm.map bz.all=gC (rL ms d [j[o]]<|(W.drop B).take<|q-B)/\qu p (z<|G a) tm/\r.D p/\Z r.F a p)\/Dp r a p r.F P bL:=by
 have hW:Z ay a (cN (cN a<|aw V 92)<|aw #[az,az,az,az] 92):=(cF _ a).alloc _;generalize co:cN (cN a<|aw V 92) (aw #[az,az,az,az] 92)=bd at hW;have ba:bd.heap[z<|G a]?=H (aw V 92 (0,0)):=by rw[<-co];grind[fU,aJ]
 have ha:bd.heap[z (G a)+1]?=H (aw #[az,az,az,az] 92 (0,0)):=by rw[<-co];exact aJ _<|by simp
 have cw:∀f,c<=f->¬r.F f:=λf g gs=>by have:=hF f gs;omega
 have ex:∀m,Z r.F bd m->Dm m (z<|G a) 0 kl:=by
  intro m Q;have aD:∀bT b,Row a 1 bT (y b) (b.map bz.ptr)->(∀f,cK bT=H f->f<c/\¬r.F f)->Row m 1 bT (y b) (b.map bz.ptr):=λbT b lp g=>
   Q.row (hW.row lp<|λf P=>⟨id,ag (g f P).1 s⟩) (λf P=>⟨(g f P).2,ag (g f P).1<|aC s hW.size⟩)
  have hG:z (G a)<=z (G m):=aC hW.size Q.size;have aa:∀b bT,V[b]?=H bT->aW m (R (z<|G a)<|0+b)=H bT:=by
   intro b bT jI;refine Q.cell ?_ (cw _ s)<|ak ba;rw[cg ba,dE];exact jI
  rcases hi with⟨_,_,_,rfl,rfl,_⟩|⟨_,_,_,rfl,rfl,_⟩;all_goals
   refine⟨rfl,λb hi=>?_,λb hi=>?_,λb hi f g=>?_,by simp[lO];omega⟩
   .match b,hi with
    |0,_|1,_|2,_|3,_=>exact aa _ _ rfl
   .match b,hi with
    |0,_|1,_|2,_|3,_=>first|exact aD _ _ hu et|exact aD _ _ h1.row h1.loc|exact aD _ _ h2.row h2.loc|exact aD _ _ hv ew
   .match b,hi with
    |0,_|1,_|2,_|3,_=>first|exact ag (et f g).1 (aC s hG)|exact ag (h1.loc f g).1 (aC s hG)|exact ag (h2.loc f g).1 (aC s hG)|exact ag (ew f g).1<|aC s hG
 have jH:∃S1 S2:Y->Prop,(∀m,Z r.F bd m->S1 m/\S2 m)/\(∀i,S1 i->aW i (R (z<|G a) b)=H (bD dc e (y j) l))/\∀i,S2 i->aW i (R (z<|G a)<|b+1)=H (I ac fu hD):=by refine⟨_,_,λm Q=>?_,λi h=>h,λi h=>h⟩;(have aa:∀b bT,V[b]?=H bT->aW m (R (z<|G a) b)=H bT:=by intro b bT jI;refine Q.cell ?_ (cw _ s)<|ak ba;rw[cg ba];exact jI);rcases hi with⟨rfl,_,_,rfl,_⟩|⟨rfl,_,_,rfl,_⟩<;>exact⟨aa _ _ rfl,aa _ _ rfl⟩
 obtain⟨S1,S2,hE,bb,cp⟩:=jH;have fl:=hW.size;have cl:∀m,Z ay bd m->kO r c ay a m:=λm ht=>(hW.cz ht).same s cL cL;have hI:k=(b:M)/\N=(b+2:M)/\(b=1\/b=2)/\jO kl (b+2)=d:=by rcases hi with⟨rfl,rfl,rfl,_,rfl,_,rfl⟩|⟨rfl,rfl,rfl,_,rfl,_,rfl⟩;exact⟨rfl,rfl,.inl rfl,by simp[jO]⟩;exact⟨rfl,rfl,.inr rfl,by simp[jO]⟩
 have bo:∀q,cY aZ 160 #[aA<|z<|G a,ar k] (bd.drewN q) λP p=>∃o:M,P=aM (ar o)/\o<y j/\Z ay bd p:=by intro q;have aD:=iY ay bd q;have hG:=ex _<|aD.mono cL;rw[hI.1];refine(Jk (w:=(bd.drewN q)) (z<|G a) 0 b (ts1:=j) (by omega) (by rw[dE];exact bb _ (hE _<|aD.mono cL).1) (by rw[dE];exact cp _ (hE _<|aD.mono cL).2) hG.lt ((h1.same<|cl _ aD).mem<|aC s fl) ((h2.same<|cl _ aD).mem<|aC s fl) h2.side.AS jE jC).mono ?_;rintro P p⟨o,rfl,hj,lp⟩;exact⟨o,rfl,hj,aD.cz<|Z.aR (S:=ay) lp⟩
 have E:∀m,Z r.F bd m->cY aZ 163 #[aA<|z<|G a,ar N] m λP p=>P=aM (aN d)/\p=m:=by intro m Q;have h:=CQ (b+2) kl (ex m Q) (by omega);rw[hI.2.2.2]at h;rw[hI.2.1];exact h
 clear hI;obtain⟨ed,ca,hK,HC,hO,HW,aU,hT,bk⟩:=yr ba ha E hE bo hW cw co cl;obtain⟨H1,H2,HD,HF,HT,ej,hN,HM,eg⟩:=yr h1 h2 ko hF kt hg ky kv hq;clear h1 h2 hu hv et ew ko hF kt hg ky kv hq ba ha ex bo hW cw co cl E hE;rcases hi with⟨rfl,rfl,rfl,rfl,rfl,rfl,eb⟩|⟨rfl,rfl,rfl,rfl,rfl,rfl,eb⟩
 all_goals
  clear eb;simp only[Nat.reduceAdd]at cp;have gk:=U bb;have ce:=U cp;clear bb cp;go_in
  go_wp2_with fail
  go_quiet(fail)
  rw[J hT];have bo:=hO nq;go_wp2_with fail
  apply bo.mono;rintro P w1⟨o,rfl,hj,ff⟩;have jA:=gk w1 (HC w1<|ff.mono cL).1;have A:=U ff;clear ff bo;obtain⟨j1,cu⟩:∃j1,o+1=j1:=⟨_,rfl⟩;have e1:(o:X)+1=(j1:X):=by omega
  have e2:(o:X)<=(j1:X):=by omega
  have e3:(j1:X)<=(l:X):=by omega
  have e4:(j1:X)<=(y j:X):=by omega
  have e5:(o:X)<=(l:X):=by omega
  have e6:¬(l=o):=by omega
  have e7:¬(l-o=0):=by omega
  have e8:IntKind.i64.wrap (j1:X)=(j1:X):=by rw[bN];omega
  have e9:(0:X)<=(o:X):=by omega
  have ln:(y j:X)<=(l:X):=by omega
  have lo:j1-o=1:=by omega
  have HJ:=U cu;clear cu;have ks:S1 w1.drew:=(HC _<|(A.cz<|cZ ay w1).mono cL).1;go_wp2_with fail
  rename_i QQ KK he;refine dR S1 21 (by kernel_rfl) ?_;refine fh 0 ?_;iterate 18 (refine iz (v:=?_) ks rfl (by kernel_rfl) lk rfl ?_ ?_;rotate_left;(focus(intro i hX;have z0:=gk i hX;go_simp;try rfl));simp only[Act.put,dW,Nat.reduceAdd])
  apply ii;refine bj (i:=18) rfl rfl (by kernel_rfl) ?_;intro hU al;go_simp;have eq:iW w1 (bD dc e (y j) l) j:=((H1.same<|bk w1 A).mem<|aC s<|aC fl A.size);have lr:=A.size;have K:=Yu (w1:=w1) (ta:=(j.take o)) (tbqq:=(j.drop j1)) (z<|G a) (eq.take o<|by omega) (Vr eq hm (by have:=J HJ;omega)) (by simp;omega) (by omega) 90;refine al _ _ (λ_=>?_) ?_
  .exact(HC _<|((A.alloc _).cz<|cZ ay _).mono cL).1
  refine bj (i:=19) rfl rfl (by kernel_rfl) ?_;intro hV an;go_simp;apply K.mono;rintro P v⟨vl,rfl,cB,db⟩;obtain⟨nl,eA⟩:∃nl,y (j.take o++j.drop j1)=nl:=⟨_,rfl⟩;rw[eA]at cB;have hQ:=U eA;clear eA;obtain⟨xl,gt,rfl⟩:=aB cB;have er:S1 v:=(HC _<|(A.cz db).mono cL).1;refine an _ _ (λ_=>er) ?_;refine bj (i:=20) rfl rfl (by kernel_rfl) ?_;intro lg dx;go_simp;refine dx _ _ (λ_=>er) ?_;refine bj (i:=21) rfl rfl (by kernel_rfl) ?_;intro ll dT;go_simp;refine dT _ _ FQ ?_;refine eS (by kernel_rfl) ?_ _;show KK _ _;apply he;generalize(if l=j1 then H ((R dc e):Addr)else H (R dc<|e+j1))=zz at*;have w:Z ay bd v:=A.cz db;have O:=U w;have gg:=U cB;have lv:=w.size;have bm:iW v (bD dc e (y j) l) j:=((H1.same<|bk v w).mem<|by omega);have ip:iW v (I ac fu hD) W:=((H2.same<|bk v w).mem<|by omega);have jB:=ce v (HC v<|w.mono cL).2;have hp:=bm.cell hj;have cs:∀bd,bd.heap=v.heap->cY aZ 142 #[j[o].ptr] bd λP p=>P=aM (am<|iZ j[o].ks)/\p=bd:=λbd hW=>((bm.each _<|aq hj).of_heap hW).first;have cv:∀bd,bd.heap=v.heap->cY aZ 141 #[j[o].ptr] bd λP p=>P=aM (am<|jp j[o].ks)/\∃q,p=bd.drewN q:=λbd hW=>((bm.each _<|aq hj).of_heap hW).last;have hl:dc<z (G v):=bm.lt dc rfl;have ih:z (G a)<z (G v):=by have:=ak ed;omega
  have hcut:∀m,Z ay v m->cY aZ 161 #[I ac fu hD,am<|iZ j[o].ks,am<|jp j[o].ks] m λP p=>∃va vb vc,P=aM (dq #[va,vb,vc])/\(∃B q,zv W (iZ j[o].ks) (jp j[o].ks) B q/\iW p va (W.take B)/\iW p vb ((W.drop B).take<|q-B)/\iW p vc (W.drop q)/\(∀f,cK va=H f\/cK vb=H f\/cK vc=H f->cK (I ac fu hD)=H f))/\Z ay v p/\S2 p/\aW p (R dc<|e+o)=H j[o].ptr:=by
   intro m es;refine(Mb (iZ j[o].ks) (jp j[o].ks) ((H2.same<|bk m<|w.cz es).mem (by have:=es.size;omega)) H2.side.AS).mono ?_;rintro P p⟨B,q,va,vb,vc,rfl,a1,a2,a3,a4,a5,hk⟩;have fe:Z ay v p:=es.cz<|Z.aR (S:=ay) hk;exact⟨va,vb,vc,rfl,⟨B,q,a1,a2,a3,a4,a5⟩,fe,(HC p<|(w.cz fe).mono cL).2,fe.cell hp id hl⟩
  clear he al an dx dT K eq bm ip ks er jA cB db w;unfold bz.ptr at hp cs cv hcut;have gi:=U (show∃s1 s2 ap,iZ j[o].ks=s1/\jp j[o].ks=s2/\j[o].tb=ap from⟨_,_,_,rfl,rfl,rfl⟩);obtain⟨s1,s2,ap,ch,cj,aV⟩:=J gi;rw[ch,cj,aV]at hcut;rw[ch,aV]at cs;rw[cj,aV]at cv;rw[aV]at hp;obtain⟨hL,hM,kz⟩:=dz ch cj aV;clear ch cj aV gi;obtain⟨fz,bh,fv⟩:=dz cs cv hcut;clear cs cv hcut;have g1:IntKind.i64.wrap (2:X)=2:=by rw[bN];omega
  have g2:IntKind.i64.wrap (3:X)=3:=by rw[bN];omega
  have cn:S2 v.drew/\aW v.drew (R dc<|e+o)=H (aA ap):=⟨(HC _<|(O.cz<|cZ ay v).mono cL).2,hp⟩;go_wp2_with fail
  rename_i Q6 K6;refine dR (λi=>S2 i/\aW i (R dc<|e+o)=H (aA ap)) 19 (by kernel_rfl) ?_;refine fh 0 ?_;iterate 7 (refine iz (v:=?_) cn rfl (by kernel_rfl) lk rfl ?_ ?_;rotate_left;(focus(intro i hX;obtain⟨bE,z1⟩:=hX;have z0:=ce i bE;go_simp;try rfl));simp only[Act.put,dW,Nat.reduceAdd])
  apply ii;refine fh 8 ?_;iterate 3 (refine iz (v:=?_) cn rfl (by kernel_rfl) lk rfl ?_ ?_;rotate_left;(focus(intro i hX;obtain⟨bE,z1⟩:=hX;have z0:=ce i bE;go_simp;try rfl));simp only[Act.put,dW,Nat.reduceAdd])
  apply ii;refine bj (i:=7) rfl rfl (by kernel_rfl) ?_;intro K7 hd;go_simp;apply(fz v.drew rfl).mono;rintro P L⟨rfl,ka⟩;subst L;refine hd _ _ (λ_=>cn) ?_;refine bj (i:=11) rfl rfl (by kernel_rfl) ?_;intro lb dr;go_simp;apply(bh v.drew rfl).mono;rintro P L⟨rfl,qq,ka⟩;subst L;refine dr _ _ (λ_=>⟨(HC _<|((O.cz<|cZ ay v).cz<|iY ay _ _).mono cL).2,hp⟩) ?_;refine bj (i:=12) rfl rfl (by kernel_rfl) ?_;intro lc ds;go_simp;apply(fv (v.drewN<|1+qq)<|iY _ _ _).mono;rintro P L⟨va,vb,vc,rfl,jD,fg,bq⟩;refine ds _ _ (λ_=>bq) ?_;refine fh 13 ?_;iterate 4 (refine iz (v:=?_) bq rfl (by kernel_rfl) lk rfl ?_ ?_;rotate_left;(focus(intro i hX;obtain⟨bE,z1⟩:=hX;have z0:=ce i bE;go_simp;try rfl));simp only[Act.put,dW,Nat.reduceAdd])
  apply ii;refine bj (i:=17) rfl rfl (by kernel_rfl) ?_;intro le dv;go_simp;refine dv _ _ (λ_=>bq) ?_;refine bj (i:=18) rfl rfl (by kernel_rfl) ?_;intro hU al;go_simp;refine al _ _ (λ_=>bq) ?_;refine bj (i:=19) rfl rfl (by kernel_rfl) ?_;intro hV an;go_simp;refine an _ _ FQ ?_;refine eS (by kernel_rfl) ?_ _;show K6 _ _;apply QQ;obtain⟨B,q,hb,em,ck,en,eo⟩:=jD;clear QQ hd dr ds dv al an bq cn jB hp fz bh fv;obtain⟨kf,hY,hx⟩:=bY em.row;obtain⟨fs,el,hy⟩:=bY ck.row;obtain⟨kk,hZ,hz⟩:=bY en.row;generalize y (W.take B)=kb at hx;generalize y ((W.drop B).take<|q-B)=fn at hy;generalize y (W.drop q)=kc at hz;subst hx;subst hy;subst hz;have D:Z ay bd L:=O.cz fg;have lx:=D.size;have br:((W.drop B).take<|q-B).Sublist W:=(nt _ _).trans<|kj _ _;have cm:=bk L D;obtain⟨fd,hw,cM⟩:=hN o hj _ br;have E:=λm(Q:Z r.F L m)=>hK m<|(D.mono (T:=r.F) cL).trans Q<|λ_ h=>.inl h;have ey:cY aZ 162 #[bD dc (e+o) 1<|l-o,I fs fn el] L λP p=>(∃a,P=aM (dq #[a,.nilIface])/\p.ownsRow (z<|G L) 171 4 a (y<|cQ<|bZ ((W.drop B).take<|q-B)::[j[o]].map bz.all) (aK<|cQ<|bZ ((W.drop B).take<|q-B)::[j[o]].map bz.all)/\r.D p/\Z r.F L p)\/Dp r L p r.F P (λbT=>dq #[az,bT]):=by
   have hf:=H1.same cm;have iu:=H2.same cm;refine EP c dc (e+o) (l-o) (I fs fn el) [j[o]] ((W.drop B).take<|q-B) ?_ (H1.loc dc rfl) ?_ (by simp) ⟨ck.row,λf g=>H2.loc f<|eo f<|.inr<|.inl g,λmm ht=>iu.each mm<|br.subset ht,H2.side.sub br,ck.small⟩ (r.eY HD (HW.cz D) cL) (by omega) HF cM
   .intro b hi;obtain rfl:b=0:=by grind
    exact hf.cell hj
   .intro mm ht;rw[dp]at ht;subst ht;exact hf.each _<|aq hj
  have bv:Z ay a L:=HW.cz D;obtain⟨cb,gc,au,bi,ef⟩:=iO (Hk (V:=r) (W:=L) (ms:=ms) (mx:=mx) (mc:=mc) (cQ<|bZ ((W.drop B).take<|q-B)::[j[o]].map bz.all) (bv.row HM<|λf P=>⟨id,ag (eg f P).1 s⟩) (λf P=>⟨by have:=(eg f P).1;omega,(eg f P).2⟩) ho fd cM) (show∀m,Z r.F L m->Steps m fromλm ht f g=>ht.cell ((HT.same cm ej) f g) ej.2 (by have:=ej.1;omega)) (show dV (rL ms d [j[o]]<|(W.drop B).take<|q-B)/\qV 5 (rL ms d [j[o]]<|(W.drop B).take<|q-B)/\(∀mg∈rL ms d [j[o]] ((W.drop B).take<|q-B),mg.Good)/\y (rL ms d [j[o]]<|(W.drop B).take<|q-B)<=1000000 from tP fd hw cM ho) (show rL ms d [j[o]] ((W.drop B).take<|q-B)=if d then gA (dI ms<|cQ<|bZ ((W.drop B).take<|q-B)::[j[o]].map bz.all)else dI ms (cQ<|bZ ((W.drop B).take<|q-B)::[j[o]].map bz.all)from rfl) E;clear E fd hw cM bv;generalize il:cQ (bZ ((W.drop B).take<|q-B)::[j[o]].map bz.all)=ML at*;clear il;obtain⟨cf,bn⟩:∃cf,rL ms d [j[o]] ((W.drop B).take<|q-B)=cf:=⟨_,rfl⟩;rw[bn]at au bi;have gf:=U bn;clear bn;obtain⟨hJ,bh,fL,gj,dk,hP⟩:=lf hb em en D (fg.own gg<|λ_ _ gs=>gs) eo;clear hb em ck en eo D cm fg gg;go_wp2_with fail
  apply ey.mono;rintro P w1(⟨kd,rfl,F,ad,u⟩|⟨bb,q1,rfl,hs,ad,u⟩);rotate_left
  .have bt:Z r.F bd w1:=(gj.mono (T:=r.F) cL).trans u<|λ_ h=>.inl h;have t:=(bt.block _ (ak ca)<|aU _<|by omega).trans ca;have q0:=cellAt t 0 rfl;have me:=cellAt t 1 rfl;have q2:=cellAt t 2 rfl;have q3:=cellAt t 3 rfl;have g0:=cP (i:=0) t;have g1:=cP (i:=1) t;have g2:=cP (i:=2) t;have g3:=cP (i:=3) t;have bg:=U (WK bb hs ad ((HW.mono (T:=r.F) cL).trans bt<|λ_ h=>.inl h) t (by omega)<|aU _<|by omega);clear bb hs ad u ey bt t;go_wp2;obtain⟨r1,r2⟩:=bg _ rfl;refine ct (qN rfl _ _ (z (G a)+1) az az az az _ _ rfl r1 ⟨_,_,_,rfl⟩ ⟨_,_,_,rfl⟩ ⟨_,_,_,rfl⟩ ⟨_,_,_,rfl⟩) rfl ?_;exact .inr r2
  obtain⟨hB,gE,rfl⟩:=aB F;have hr:=cb.1 w1 _ hB gE u F;have bf:=U ad;have A:=U u;clear F ad u ey;go_wp2_with fail
  apply hr.mono;rintro P v⟨vn,rfl,cE,ax⟩;have bs:Z r.F L v:=A.cz ax;have hc:=r.eY bf ax cL;obtain⟨xn,kn,rfl⟩:=aB cE;have E:=ef v bs;have eu:=cb.2 v _ xn kn cE;have hA:=A.size;obtain⟨cc,O,ei⟩:=dz hc bs cE;clear cE hc bs ax hr;cases d;case' false=>
   obtain rfl:cf=dI ms ML:=J bi;clear eu cb bi;go_wp2_with fail
   apply E.mono;rintro P fr⟨rfl,jK⟩;subst fr;clear E;obtain⟨cd,bl,fx⟩:=dz (fX (base':=z<|G L) ei<|by omega) O cc;clear O cc ei A bf ef;generalize v=w5 at*
  case' true=>
   obtain rfl:cf=gA (dI ms ML):=J bi;go_wp2_with fail
   apply E.mono;rintro P fr⟨rfl,jK⟩;subst fr;go_wp2_with fail
   apply eu.mono;rintro P w5⟨vb,rfl,fb,fk⟩;obtain⟨xn,kn,rfl⟩:=aB fb;obtain⟨cd,bl,fx⟩:=dz (fX (base':=z<|G L) fb (by have:=O.size;omega)) (O.cz fk)<|r.eY cc fk cL;clear fb fk E eu O cc ei A bf ef cb bi hA
  all_goals
   have jG:=ve (dJ cd) au.1 au.2.1 au.2.2.1 au.2.2.2 (λf g=>(cd.lt f g).2)<|gc w5 bl;have it:=au.2.2.2;clear cd gc au;go_wp2_with fail
   apply jG.mono;rintro P w4⟨kd,tm,rfl,F,cr,cx,ax⟩;have u:Z r.F L w4:=bl.cz ax;have ad:=r.eY fx ax cL;have cx:=cx.base (base':=z<|G L) bl.size;have F:=fX (base':=z<|G L) F bl.size;have db:y tm<=1000000:=by
    have h1:=bS y cr;rw[dj]at h1;rw[h1];exact aC (uC _) it
   rw[<-J gf]at cr;clear ax;have aF:Z r.F bd w4:=(gj.mono (T:=r.F) cL).trans u<|λ_ h=>.inl h;obtain⟨hB,gE,rfl⟩:=aB F;have mb:=u.size;have hh:=(aF.block _ (ak ed)<|aU _ s).trans ed;have t:=(aF.block _ (ak ca)<|aU _<|by omega).trans ca;have ao:∀f,cK (I kf kb hY)=H f\/cK (I fs fn el)=H f\/cK (I kk kc hZ)=H f->f<c/\¬r.F f:=λf g=>H2.loc f<|hP f g;have K:=Yt (W.take B) tm (W.drop q) (z<|G a) (u.row bh.row<|λf g=>⟨(ao f<|.inl g).2,bh.lt f g⟩) (λf g=>by have:=(ao f<|.inl g).1;omega) (dJ F) (λf g=>(bM F f g).2) (u.row fL.row<|λf g=>⟨(ao f<|.inr<|.inr g).2,fL.lt f g⟩) (λf g=>by have:=(ao f<|.inr<|.inr g).1;omega) (by simp;omega) (by omega) 90;obtain⟨x,bp⟩:∃x,y (W.take B++tm++W.drop q)=x:=⟨_,rfl⟩;rw[bp]at K;have ge:=U bp;have ea:=u.own dk<|λf g=>aU f (by have:=((bM dk) f g).1;omega);obtain⟨gb,hR,bf,hS,hH,gn,gr⟩:=zo ea cx ad aF cr hh t;clear F cr cx ad u aF hh t bp ea ao;go_wp2_with fail
   apply K.mono;rintro P w5⟨v5,rfl,eB,av⟩;obtain⟨xm,gx,rfl⟩:=aB eB;have yV:=(av.block _ (ak gn) id).trans gn;have C:=(av.block _ (ak gr) id).trans gr;have p0:=cellAt yV 0 rfl;have f0:=cP (i:=0) yV;have q0:=cellAt C 0 rfl;have k0:=cP (i:=0) C;have p1:=cellAt yV 1 rfl;have f1:=cP (i:=1) yV;have q1:=cellAt C 1 rfl;have k1:=cP (i:=1) C;have p2:=cellAt yV 2 rfl;have f2:=cP (i:=2) yV;have q2:=cellAt C 2 rfl;have k2:=cP (i:=2) C;have p3:=cellAt yV 3 rfl;have f3:=cP (i:=3) yV;have q3:=cellAt C 3 rfl;have k3:=cP (i:=3) C;have bg:=U (show∀(i1 i2:M)(z1 z2 u0 u1 u2 u3:ab)(wf:Y),wf=cq (cq (cq (cq (cq (cq w5 (R (z<|G a) i1) z1) (R (z<|G a) i2) z2) (R (z (G a)+1) 0) u0) (R (z (G a)+1) 1) u1) (R (z (G a)+1) 2) u2) (R (z (G a)+1) 3) u3->wf.heap[z (G a)+1]?=H (aw #[u0,u1,u2,u3] 92 (0,0))/\wf.ownsRow (z<|G a) 186 1 (I xl nl gt) nl ((j.take o++j.drop j1).map bz.ptr)/\wf.ownsRow (z<|G a) 186 1 (I xm x gx) x ((W.take B++tm++W.drop q).map bz.ptr)/\qu wf (z<|G a) tm/\r.D wf/\Z r.F a wf from by
    rintro i1 i2 z1 z2 u0 u1 u2 u3 wf rfl;have lt:((cq (cq w5 (R (z<|G a) i1) z1) (R (z<|G a) i2) z2)).heap[z (G a)+1]?=H (aw #[az,az,az,az] 92 (0,0)):=(jd _<|by omega).trans<|(jd _<|by omega).trans C;have cT:Z (λf=>f=z (G a)\/f=z (G a)+1) w5 (cq (cq (cq (cq (cq (cq w5 (R (z<|G a) i1) z1) (R (z<|G a) i2) z2) (R (z (G a)+1) 0) u0) (R (z (G a)+1) 1) u1) (R (z (G a)+1) 2) u2) (R (z (G a)+1) 3) u3):=((((((Z.refl _ w5).setCell _ _ _<|.inl<|.inl rfl).setCell _ _ _<|.inl<|.inl rfl).setCell _ 0 _<|.inl<|.inr rfl).setCell _ 1 _<|.inl<|.inr rfl).setCell _ 2 _<|.inl<|.inr rfl).setCell _ 3 _<|.inl<|.inr rfl;have iv:=ET (a':=u0) (b':=u1) (c':=u2) (d':=u3) lt;generalize cq (cq (cq (cq (cq (cq w5 (R (z<|G a) i1) z1) (R (z<|G a) i2) z2) (R (z (G a)+1) 0) u0) (R (z (G a)+1) 1) u1) (R (z (G a)+1) 2) u2) (R (z (G a)+1) 3) u3=wf at*;have ec:∀f,(f=z (G a)\/f=z (G a)+1)->∃hC,w5.heap[f]?=H (aw hC 92 (0,0)):=by
     rintro f(rfl|rfl)
     .exact⟨_,yV⟩
     .exact⟨_,C⟩
    have bu:∀{bT n xs},w5.ownsRow (z<|G a) 186 1 bT n xs->wf.ownsRow (z<|G a) 186 1 bT n xs:=λkx=>cT.own kx (λf g gs=>by
     obtain⟨hC,ev⟩:=ec f gs;obtain⟨lm,hn⟩:=fE kx g;exact kw ev hn (by decide) rfl)
    refine⟨iv,bu<|av.own gb<|λ_ _ gs=>gs,bu eB,?_,r.eY (r.eY bf av cL) cT<|λf g=>aU f (by rcases g with gs|gs<;>omega),?_⟩
    .refine((hR.aj av).other cT<|λf g=>?_).base (by omega);obtain⟨hC,ev⟩:=ec f g;exact⟨hC,_,_,ev,by decide,by decide,by decide⟩
    .exact(((HW.mono (T:=r.F) cL).trans hS (λ_ h=>.inl h)).cz av).trans cT (λf g=>.inr (by rcases g with gs|gs<;>omega)))
   clear eB av yV C K;go_wp2;obtain⟨r1,r2,r3,r4,r5,r6⟩:=bg _ _ _ _ _ _ _ _ _ rfl;refine ct (qN rfl _ _ (z (G a)+1) _ _ _ _ _ _ rfl r1 ⟨_,_,_,rfl⟩ ⟨_,_,_,rfl⟩ ⟨_,_,_,rfl⟩ ⟨_,_,_,rfl⟩) rfl ?_;have cu:=J HJ;subst cu;refine .inl ⟨xl,nl,gt,xm,x,gx,tm,o,hj,B,q,rfl,?_,?_,?_,hH,r4,r5,r6⟩
   .rw[J hL,J hM];exact hJ
   .rw[J hQ];exact r2
   .rw[J ge];exact r3
structure PR(n:M)(rs:dS):Prop where
 pB:jU rs
 mj:∀r∈rs,dV r
 iP:∀x∈rs.flatten,x.Good
 low:∀x∈rs.flatten,x.bO<=n
def uE(h:w.Good):w.key≠⟨#[]⟩:=λe=>by
 have:=h.VA;rw[e]at this;simp[ByteArray.size]at this
def PR.keys(h:PR b l):∀x∈l.flatten,x.key≠⟨#[]⟩:=λx a=>uE<|h.iP x a
def My{a D:dS}:w∈(l++a++D).flatten↔w∈l.flatten\/w∈a.flatten\/w∈D.flatten:=by
 grind
def PR.E2{C a M' D:dS}(h:PR b (C++a++D))(g:jU M')(j:∀r∈M',dV r)(d:∀x∈M'.flatten,x∈a.flatten):PR b (C++M'++D):=by
 have f:∀x,x∈(C++M'++D).flatten->x∈(C++a++D).flatten:=by grind
 refine⟨Sc h.pB g d,λr i=>?_,λx c=>h.iP x<|f x c,λx c=>h.low x<|f x c⟩;rcases aG.1 i with e|e;rcases aG.1 e with e|e;exact h.mj r (by simp[e]);exact j r e;exact h.mj r<|by simp[e]
def PR.cons(i:PR b l)(t:b<=c)(n:dV e)(m:∀x∈e,x.Good)(g:∀x∈e,(b:X)<x.bO)(f:∀x∈e,x.bO<=c):PR c (e::l):=by
 refine⟨?_,?_,?_,?_⟩;unfold jU;rw[bB];refine⟨λr h o j p k _=>?_,i.pB⟩;have q:=i.low p<|bC.2 ⟨r,h,k⟩;have s:=g o j;omega;intro r h;rcases bJ.1 h with rfl|d;exact n;exact i.mj r d;intro x a;rw[bK,aG]at a;rcases a with d|d;exact m x d;exact i.iP x d;intro x a;rw[bK,aG]at a;rcases a with d|d;exact f x d;have:=i.low x d;omega
theorem PR.Lu(h:PR b l):PR b ([]::l):=h.cons (ah _) dV.nil (by simp) (by simp)<|by simp
def FZ(a:dS)(k:ae):seen ([]::a) k=seen a k:=by
 unfold seen;rw[qj,Tf,jk]
def bU(a b c d:cW):dS:=(a.map bz.all).reverse++[bZ b,bZ c,bZ d]
def Ej(a b c d:cW)(t:bz):bU (a++[t]) b c d=t.all::bU a b c d:=by simp[bU]
def lF(h:j.map bz.all=gC e):bZ j=e:=by
 unfold bZ;rw[h];exact wk e
theorem Mg(h:j.isEmpty=ci):bZ j=[]:=by
 rw[List.isEmpty_iff]at h;rw[h];rfl
def PR.row(h:PR b l):∀r∈l,gJ r:=λr a=>⟨h.mj r a,λe c=>h.keys e<|bC.2 ⟨r,a,c⟩⟩
def eQ(t:X)(a:dS)(k:ae):Option ae:=seen (a.map<|jT t) k
def yJ{C Mqq M' D:dS}(h:Bo (Mqq.map<|jT k) (M'.map<|jT k) (D.map<|jT k))(a:ae):eQ k (C++M'++D) a=eQ k (C++Mqq++D) a:=by
 unfold eQ;grind[Uy]
theorem lW(t:X)(a:dS)(k:ae):eQ t ([]::a) k=eQ t a k:=by
 unfold eQ;rw[cy,show jT t []=[]from rfl];exact FZ _ k
def Qz(h:∀r∈l,r=[])(c:ae):sa (l.map<|jT k) c=none:=SW (λr a=>by obtain⟨s,b,rfl⟩:=bR.1 a;rw[h s b];rfl) c
def Pd{c:cW}(h:PR b (bU j W u v))(g:c.map bz.all=gC (rL n (u.isEmpty&&v.isEmpty) j W)):dV (cQ<|bZ W::j.map bz.all)/\dV (rL n (u.isEmpty&&v.isEmpty) j W)/\PR b (bU [] c u v)/\(∀t,(t∈n\/(b:X)<=t)->∀k,eQ t (bU [] c u v) k=eQ t (bU j W u v) k)/\y (bZ c)<=y (bZ j)+y (bZ W):=by
 have B:bZ c=rL n (u.isEmpty&&v.isEmpty) j W:=lF g;have a:bU j W u v=[]++((j.map bz.all).reverse++[bZ W])++[bZ u,bZ v]:=by simp[bU]
 have d:bU [] c u v=[]++[rL n (u.isEmpty&&v.isEmpty) j W]++[bZ u,bZ v]:=by simp[bU,B]
 rw[a]at h;have p:∀r∈j.map bz.all,gJ r:=λr a=>h.row r (by grind);have m:gJ (bZ W):=h.row _ (by simp);have o:jU ((j.map bz.all).reverse++[bZ W]):=(bQ.1 h.pB).1;obtain⟨w,l,A⟩:=zy (ms:=n) (lowest:=u.isEmpty&&v.isEmpty) p m o;have e:∀x∈[rL n (u.isEmpty&&v.isEmpty) j W].flatten,x∈((j.map bz.all).reverse++[bZ W]).flatten:=by intro x f;rw[bK,iK,dM]at f;have:=zQ _ _ _ x f;rw[bK,aG]at this;rw[eH,aG,bK,iK,dM];grind[mem_flatten]
 refine⟨w,l,?_,λt s k=>?_,?_⟩;rw[d];exact h.E2 (by unfold jU;simp) (by intro r a;simp only[bJ,gu,mO]at a;subst a;exact l) e;rw[a,d];refine yJ (A t [bZ u,bZ v] (s.imp_right<|λq x f=>sE (h.low x<|My.2<|.inr<|.inl f) q)<|λi k=>?_) k;rw[lV]at i;exact Qz (by intro r a;simp only[bJ,gu,mO]at a;grind[Mg]) k;rw[B];have C:=(tN n (u.isEmpty&&v.isEmpty)<|bZ W::j.map bz.all).length_le;have D:=(jn n<|cQ<|bZ W::j.map bz.all).length_le;have i:=(eN<|bZ W::j.map bz.all).length_eq;rw[bK,af]at i;have:(j.map bz.all).flatten=bZ j:=rfl;rw[this]at i;unfold rL;omega
theorem TA(l:cJ T)(j:M)(h:j<y l):l=l.take j++[l[j]]++l.drop (j+1):=by
 rw[bA,jF,kI,bV]
theorem Yq(l:cJ T){p q:M}(h:p<=q):l=l.take p++(l.drop p).take (q-p)++l.drop q:=by
 have a:l.drop q=(l.drop p).drop (q-p):=by rw[List.drop_drop];congr 1;omega
 rw[bA,a,bV,bV]
def uI(h:((j++W).map bz.all).Pairwise gU):gU (bZ j) (bZ W):=by
 rw[aP,bQ]at h;intro x f c g;obtain⟨s,d,a⟩:=lZ.1 f;obtain⟨t,e,b⟩:=lZ.1 g;exact h.2.2 _ (oA d) _ (oA e) x a c b
def LO{c p q:M}(hu:ji j)(h:ji W)(ho:Over (bZ j) (bZ W))(hg:∀x,x∈bZ j\/x∈bZ W->x.Good)(hj:c<y j)(hc:zv W (iZ j[c].ks) (jp j[c].ks) p q)(v:u.map bz.all=gC (rL n P [j[c]]<|(W.drop p).take<|q-p)):dV (rL n P [j[c]]<|(W.drop p).take<|q-p)/\dV (bZ<|W.take p++u++W.drop q)/\((W.take p++u++W.drop q).map bz.all).Pairwise gU/\(∀(f:X)(av:dS),(f∈n\/∀x,x∈bZ j\/x∈bZ W->x.bO<=f)->(P=ci->∀ax,sa (av.map<|jT f) ax=none)->Bo ([bZ j,bZ W].map<|jT f) ([bZ<|j.take c++j.drop (c+1),bZ<|W.take p++u++W.drop q].map<|jT f) (av.map<|jT f))/\Over (bZ<|j.take c++j.drop (c+1)) (bZ<|W.take p++u++W.drop q)/\(∀x,x∈bZ (j.take c++j.drop (c+1))\/x∈bZ (W.take p++u++W.drop q)->x∈bZ j\/x∈bZ W)/\(∀x∈bZ u,x∈bZ j\/x∈bZ W)/\y (bZ<|j.take c++j.drop (c+1))+y (bZ<|W.take p++u++W.drop q)<=y (bZ j)+y (bZ W):=by
 have w:bZ u=gL n P [bZ<|(W.drop p).take<|q-p,j[c].all]:=lF v;have g:bZ [j[c]]=j[c].all:=by simp[bZ]
 have C:bZ j=bZ (j.take c)++j[c].all++bZ (j.drop<|c+1):=by grind[TA,fR]
 have D:bZ W=bZ (W.take p)++bZ ((W.drop p).take<|q-p)++bZ (W.drop q):=by grind[Yq,zv.le,fR]
 have hP:=hu.pure j[c]<|aq hj;have V:∀A∈bZ (W.take p),∀f∈j[c].all,ja A.key f.key=ci:=by intro A l f i;obtain⟨au,m,k⟩:=lZ.1 l;obtain⟨an,hi,rfl⟩:=gO.1 m;(have d:an<p/\an<y W:=by rw[dO]at hi;omega);rw[ly]at k;have E:=(h.pure W[an]<|aq d.2).DA k;have F:=hc.Zp.low an d.2 d.1;have r:=hP.yt i;exact OK (ym E F) r
 have aa:∀A∈j[c].all,∀f∈bZ (W.drop q),ja A.key f.key=ci:=by intro A l f i;obtain⟨au,m,k⟩:=lZ.1 i;obtain⟨an,hi,rfl⟩:=gO.1 m;(have d:q+an<y W:=by rw[jc]at hi;omega);rw[pR]at k;(have K:q<y W:=by omega);have E:=hc.behind K;have F:=hP.DA l;obtain⟨x,b,al⟩:=(h.pure W[q]<|aq K).Ib;(have r:ja f.key (iZ W[q].ks)=aX:=by rcases gB an with rfl|ap;exact(h.pure W[q]<|aq K).yt k;rw[<-al];exact lu<|h.pair K d (by omega) b k);exact OK (ym F E) r
 have L:((j.take c++([j[c]]++j.drop (c+1))).map bz.all).Pairwise gU:=by have:=hu.Du;rw[TA j c hj,bA]at this;exact this
 have O:((W.take p++((W.drop p).take (q-p)++W.drop q)).map bz.all).Pairwise gU:=by have:=h.Du;rw[Yq W hc.le,bA]at this;exact this
 have B:=uI L;have S:=uI O;rw[fR]at B S;rw[g]at B;have N:=(bQ.1 (by rw[aP]at L;exact L)).2.1;have Q:=(bQ.1 (by rw[aP]at O;exact O)).2.1;have o:=uI N;have T:=uI Q;rw[g]at o;have ac:gJ (bZ (j.take c)++j[c].all++bZ (j.drop<|c+1)):=C▸⟨hu.mj,λw he=>uE<|hg w<|.inl he⟩;have ad:gJ (bZ (W.take p)++bZ ((W.drop p).take<|q-p)++bZ (W.drop q)):=D▸⟨h.mj,λw he=>uE<|hg w<|.inr he⟩;have s:=ho;rw[C,D]at s;obtain⟨r1,r2,r3,r4,r5,r6⟩:=Sa (ms:=n) (lowest:=P) ac ad s (λx b a e=>B x b a<|by simp[e]) (λx b a e=>B x b a<|by simp[e]) o (λx b a e=>S x b a<|by simp[e]) (λx b a e=>S x b a<|by simp[e]) T V aa;have ao:∀x∈gL n P [bZ<|(W.drop p).take<|q-p,j[c].all],x∈j[c].all\/x∈bZ ((W.drop p).take<|q-p):=by intro x b;have:=zQ n P _ x b;grind
 have t:dV (gL n P [bZ<|(W.drop p).take<|q-p,j[c].all]):=r2.mj.sub (by simp);refine⟨t,?_,?_,?_,?_,?_,?_,?_⟩;rw[fR,fR,w];exact r2.mj;rw[aP,aP,bQ,bQ];refine⟨⟨h.Du.sublist<|(nt _ _).map _,by rw[v];exact Ev t,λx b a e=>?_⟩,h.Du.sublist<|(kj _ _).map _,λx b a e=>?_⟩;obtain⟨K,k,rfl⟩:=bR.1 b;obtain⟨au,m,rfl⟩:=bR.1 e;exactλA l f i=>r3 A (lZ.2 ⟨K,k,l⟩) f (by rw[<-w];grind[lZ]);obtain⟨au,m,rfl⟩:=bR.1 e;rcases aG.1 b with b|b;(grind);obtain⟨K,k,rfl⟩:=bR.1 b;exactλA l f i=>r4 A (by rw[<-w];grind[lZ]) f<|lZ.2 ⟨au,m,i⟩;intro f av i k;simp only[cy,gR];rw[fR,fR,fR,w,C,D];grind
 rw[fR,fR,fR,w];exact r5;grind[fR]
 grind
 rw[fR,fR,fR,w,C,D];have E:=(tN n P [bZ<|(W.drop p).take<|q-p,j[c].all]).length_le;have F:=(jn n<|cQ [bZ<|(W.drop p).take<|q-p,j[c].all]).length_le;have r:=(eN [bZ<|(W.drop p).take<|q-p,j[c].all]).length_eq;rw[bK,bK,iK,dM,af]at r;grind
def Ox(h:Over e K):jU [e,K]:=by
 unfold jU;grind
def Dw{C D:dS}(h:jU (C++[e,K]++D)):Over e K:=by
 have a:=(bQ.1 (bQ.1 h).1).2.1;grind
def Pc{c:cW}{e p q:M}(h:PR b (bU j W u v))(i:ji W)(m:ji u)(o:e<y W)(hcut:zv u (iZ W[e].ks) (jp W[e].ks) p q)(g:c.map bz.all=gC (rL n v.isEmpty [W[e]]<|(u.drop p).take<|q-p)):PR b (bU j (W.take e++W.drop (e+1)) (u.take p++c++u.drop q) v)/\(∀t,(t∈n\/(b:X)<=t)->∀k,eQ t (bU j (W.take e++W.drop (e+1)) (u.take p++c++u.drop q) v) k=eQ t (bU j W u v) k)/\dV (bZ c)/\((u.take p++c++u.drop q).map bz.all).Pairwise gU/\(∀x∈bZ c,x.Good)/\y (bZ<|W.take e++W.drop (e+1))+y (bZ<|u.take p++c++u.drop q)<=y (bZ W)+y (bZ u):=by
 have a:∀x d:cW,bU j x d v=(j.map bz.all).reverse++[bZ x,bZ d]++[bZ v]:=λx d=>by simp[bU]
 rw[a]at h;have l:∀x,x∈bZ W\/x∈bZ u->x.Good:=λx d=>h.iP x (My.2<|.inr<|.inl<|by simpa using d);obtain⟨w,A,s,B,C,F,D,E⟩:=LO i m (Dw h.pB) l o hcut g;refine⟨?_,λt r k=>?_,by rw[lF g];exact w,s,λx d=>l x<|D x d,E⟩;rw[a];refine h.E2 (Ox C) (λK f=>?_)<|λx d=>?_;simp only[bJ,gu,mO]at f;rcases f with rfl|rfl;rw[fR];have:=i.mj.sub (nY (us:=W.take e++W.drop (e+1)) (ts:=W)<|by grind[TA,append_assoc,sublist_append_right]);rwa[fR]at this;exact A;grind
 rw[a,a];exact yJ (B t [bZ v] (r.imp_right<|λq x d=>sE (h.low x<|My.2<|.inr<|.inl<|by simpa using d) q)<|λe k=>Qz (by intro K a;simp only[bJ,gu,mO]at a;subst a;exact Mg e) k) k
def Pb{a:cW}{d p q:M}(h:PR b (bU j W u v))(i:ji u)(m:ji v)(o:d<y u)(hcut:zv v (iZ u[d].ks) (jp u[d].ks) p q)(f:a.map bz.all=gC (rL n ci [u[d]]<|(v.drop p).take<|q-p)):PR b (bU j W (u.take d++u.drop (d+1))<|v.take p++a++v.drop q)/\(∀t,(t∈n\/(b:X)<=t)->∀k,eQ t (bU j W (u.take d++u.drop (d+1))<|v.take p++a++v.drop q) k=eQ t (bU j W u v) k)/\dV (bZ a)/\((v.take p++a++v.drop q).map bz.all).Pairwise gU/\(∀x∈bZ a,x.Good)/\y (bZ<|u.take d++u.drop (d+1))+y (bZ<|v.take p++a++v.drop q)<=y (bZ u)+y (bZ v):=by
 have g:∀x c:cW,bU j W x c=((j.map bz.all).reverse++[bZ W])++[bZ x,bZ c]++[]:=λx c=>by simp[bU]
 rw[g]at h;have l:∀x,x∈bZ u\/x∈bZ v->x.Good:=λx c=>h.iP x (My.2<|.inr<|.inl<|by simpa using c);obtain⟨w,A,s,B,C,F,D,E⟩:=LO i m (Dw h.pB) l o hcut f;refine⟨?_,λt r k=>?_,by rw[lF f];exact w,s,λx c=>l x<|D x c,E⟩;rw[g];refine h.E2 (Ox C) (λK e=>?_)<|λx c=>?_;simp only[bJ,gu,mO]at e;rcases e with rfl|rfl;rw[fR];have:=i.mj.sub (nY (us:=u.take d++u.drop (d+1)) (ts:=u)<|by grind[TA,append_assoc,sublist_append_right]);rwa[fR]at this;exact A;grind
 rw[g,g];exact yJ (B t [] (r.imp_right<|λq x c=>sE (h.low x<|My.2<|.inr<|.inl<|by simpa using c) q)<|λd k=>yU k) k
def yO(s:j.map bz.all=gC e)(p:∀t∈j,WV a b t)(m:dV e)(g:qV 5 e)(o:∀x∈e,x.Good):∀t∈j,uj t.ks t.cs/\Kg (bW 0 t.cs)/\t.ks=bW 0 t.cs/\y t.all<=100:=by
 intro t q;obtain⟨r,h,x,i,k⟩:=p t q;have l:t.all∈gC e:=by rw[<-s];grind
 have n:=RQ g _ l;have c:=BO l;have f:=Ew e _ l;have d:∀x∈t.all,x.Good:=λx e=>o x<|c.subset e;refine⟨?_,k.pieces.idx f d (m.sub c) n,k.ks,n⟩;rw[k.ks];exact k.pieces.kG f d<|m.sub c
def GL(h:j.map bz.all=gC e)(g:∀t∈j,WV a b t)(d:dV e)(c:qV 5 e)(f:∀x∈e,x.Good):ji j:=⟨λt i=>(yO h g d c f t i).1,by rw[lF h];exact d,by rw[h];exact Ev d⟩
def JO{c:cW}(k:PR b (e::bU j W u v))(i:c.map bz.all=gC (gA<|dI n<|cQ<|e::bU j W u v)):PR b (bU [] [] [] c)/\(∀t,(t∈n\/(b:X)<=t)->∀o,eQ t (bU [] [] [] c) o=eQ t (e::bU j W u v) o)/\y (bZ c)<=y e+y (bZ j)+y (bZ W)+y (bZ u)+y (bZ v):=by
 obtain⟨A,F⟩:∃A,A=(e::((j.map bz.all).reverse++[bZ W,bZ u])).reverse:=⟨_,rfl⟩;have f:e::bU j W u v=A.reverse++[bZ v]:=by rw[F,List.reverse_reverse];simp[bU]
 have K:(bZ v::A).Perm (e::bU j W u v):=by rw[f];grind[perm_append_comm,reverse_perm]
 have s:cQ (bZ v::A)=cQ (e::bU j W u v):=tQ k.mj k.pB K;have a:=k.row;rw[f]at a;have m:=k.pB;rw[f]at m;obtain⟨P,N,p⟩:=zy (A:=A) (b:=bZ v) (ms:=n) (lowest:=ci) (λr b=>a r<|by simp[b]) (a _<|by simp) m;have w:gL n ci (bZ v::A)=gA (dI n<|cQ<|e::bU j W u v):=by unfold gL;rw[dH rfl,s]
 rw[w]at N p;have r:bZ c=gA (dI n<|cQ<|e::bU j W u v):=lF i;have h:∀x∈bZ c,x∈(e::bU j W u v).flatten:=λx d=>by rw[r]at d;exact(eN _).mem_iff.1<|(jn n _).subset<|(kq _).subset d
 have g:bU [] [] [] c=[[],[],bZ c]:=by simp[bU,bZ]
 refine⟨?_,λt L o=>?_,?_⟩;rw[g];(have l:PR b ([]++(e::bU j W u v)++[]):=by simpa using k);have B:=l.E2 (M':=[bZ c]) (by unfold jU;simp) (by grind) (λx d=>h x<|by simpa using d);grind[PR.Lu]
 rw[g,lW,lW];have:=yJ (C:=[]) (Mqq:=A.reverse++[bZ v]) (M':=[gA<|dI n<|cQ<|e::bU j W u v]) (D:=[]) (p t [] (L.imp_right<|λq x d=>sE (k.low x (by rw[f];exact d)) q)<|λ_ o=>rfl) o;rw[<-f,<-r]at this;grind
 rw[r];have l:=(kq<|dI n<|cQ<|e::bU j W u v).length_le;have B:=(jn n<|cQ<|e::bU j W u v).length_le;have E:=(eN<|e::bU j W u v).length_eq;(have O:y ((j.map bz.all).reverse).flatten=y (bZ j):=by have:=((uo<|j.map bz.all).flatten).length_eq;rw[this];rfl);rw[bK,af]at E;grind
section
open Extern.Stop Stop Extern
def NW(v:ab)(w:Y):(ReflectliteType.typeOf #[.iface 199 v]).run aZ w=.ok (.iface 214<|dC #[cX<|H<|R (7) 199]) w:=by kernel_rfl
def Em(w:Y):(ReflectliteType.relation "AssignableTo" ReflectliteType.assignableTo #[dC #[cX<|H<|R (7) 199],.iface 214<|dC #[cX<|H<|R (7) 50]]).run aZ w=.ok (aN aX) w:=by kernel_rfl
def G0(v:ab)(a:TypeId)(w:Y):(Instr.typeAssert (.iface 199 v) a 218 ci).run aZ w=.ok (dq #[.nilIface,aN aX]) w:=run_typeAssert_lacksB underlying218 (by kernel_rfl) (by kernel_rfl) v a w
def YE(n:X)(b:M)(t:Addr)(zn:ab)(c:aW a (R b 1)=H (ar n))(i:kB a)(d:aW a t=H zn)(f:a.frozen? t=aX):cY aZ 28 #[.iface 199<|aA b,.iface 97<|cX<|H t] a λq k=>q=aM (aN ci)/\k=cq (cN (cN (cN (cN a<|aw #[cX<|H t] 97)<|aw #[cX<|H<|R (7) 97,aA<|z<|G a,aE 150] 151)<|aw #[cX<|H<|R (7) 97,aA<|z<|G a,aE 150] 151)<|aw #[ar n] 50) t (ar n):=by
 unfold kB at i;have T:=@bX aZ 63 _ (λa=>ReflectliteValue.unpack<|a.getD 0<|dq #[]) func63 (by kernel_rfl) (by kernel_rfl) (by kernel_rfl) (by kernel_rfl);have V:=@bX aZ 64 _ (ReflectliteValue.methodAny (ReflectliteValue.valueError "reflectlite.Value.Type" 0)<|λt _ _ _=>ReflectliteType.toType t) func64 (by kernel_rfl) (by kernel_rfl) (by kernel_rfl) (by kernel_rfl);have W:=@bX aZ 65 _ (ReflectliteValue.method (ReflectliteValue.valueError "reflectlite.Value.IsNil" 0) ReflectliteValue.isNil) func65 (by kernel_rfl) (by kernel_rfl) (by kernel_rfl) (by kernel_rfl);have v:=@bX aZ 300 _ (ReflectliteType.abiMethod λt=>do pure (rD<|<-Rtype.kind t)) func300 (by kernel_rfl) (by kernel_rfl) (by kernel_rfl) (by kernel_rfl);have x:=@bX aZ 329 _ (ReflectliteType.method ReflectliteType.elem) func329 (by kernel_rfl) (by kernel_rfl) (by kernel_rfl) (by kernel_rfl);have A:=@bX aZ 330 _ (ReflectliteType.relation "Implements" ReflectliteType.implements_) func330 (by kernel_rfl) (by kernel_rfl) (by kernel_rfl) (by kernel_rfl);have r:=@bX aZ 91 _ ReflectliteType.typeOf func91 (by kernel_rfl) (by kernel_rfl) (by kernel_rfl) (by kernel_rfl);have w:=@bX aZ 327 _ (ReflectliteType.relation "AssignableTo" ReflectliteType.assignableTo) func327 (by kernel_rfl) (by kernel_rfl) (by kernel_rfl) (by kernel_rfl);have s:=@bX aZ 106 _ (ReflectliteValue.method (ReflectliteValue.valueError "reflectlite.Value.Elem" 0) ReflectliteValue.elem) func106 (by kernel_rfl) (by kernel_rfl) (by kernel_rfl) (by kernel_rfl);have u:=@bX aZ 107 _ ReflectliteValue.set func107 (by kernel_rfl) (by kernel_rfl) (by kernel_rfl) (by kernel_rfl);have tO:=wh;have tF:=NW;have N:=Em;have nA:=G0;have uW:=ID;have mU:=ww;have O:=yZ;have mA:=ni;have m:=xS;have L:=CC;have Q:=CB;have S:=KQ;have mK:=uX;have mE:=uY;have mI:=oD;have K:=KU;have F:=KX;have o:=KY;have E:=xR;have n8:=GV (R (z<|G a) 0) t (cN (cN a<|aw #[cX<|H t] 97)<|aw #[cX<|H<|R (7) 97,aA<|z<|G a,aE 150] 151) (by simp);have j:0<z (G a):=cC _ _ i;have B:aW (cN (cN a<|aw #[cX<|H t] 97)<|aw #[cX<|H<|R (7) 97,aA<|z<|G a,aE 150] 151) (R 0 0)=H (.iface 214<|dC #[cX<|H<|R (7) 47]):=by rw[bH _ _ (R 0 0) (by simp_all),bH _ _ (R 0 0) j];exact i
 have g:b<z (G a):=cC _ _ c;have C:=zD b n (cN (cN (cN a<|aw #[cX<|H t] 97)<|aw #[cX<|H<|R (7) 97,aA<|z<|G a,aE 150] 151)<|aw #[cX<|H<|R (7) 97,aA<|z<|G a,aE 150] 151) (by rw[bH _ _ (R b 1) (by simp;omega),bH _ _ (R b 1) (by simp;omega),bH _ _ (R b 1) g];exact c);have e:t.block<z (G a):=cC _ _ d;have P:=GW (R (z<|G a) 0) t (cN (cN (cN a<|aw #[cX<|H t] 97)<|aw #[cX<|H<|R (7) 97,aA<|z<|G a,aE 150] 151)<|aw #[cX<|H<|R (7) 97,aA<|z<|G a,aE 150] 151) (by rw[bH _ _ (R (z<|G a) 0) (by simp;omega)];simp);have l:=PS t (R (z (G a)+1+1+1) 0) n zn (cN (cN (cN (cN a<|aw #[cX<|H t] 97)<|aw #[cX<|H<|R (7) 97,aA<|z<|G a,aE 150] 151)<|aw #[cX<|H<|R (7) 97,aA<|z<|G a,aE 150] 151)<|aw #[ar n] 50) (by rw[rA _ _ _ _<|by simp];rfl) (by rw[bH _ _ t (by simp;omega),bH _ _ t (by simp;omega),bH _ _ t (by simp;omega),bH _ _ t e];exact d) (by rw[eJ _ _ t (by simp;omega),eJ _ _ t (by simp;omega),eJ _ _ t (by simp;omega),eJ _ _ t<|Ak e];exact f);go_in
 go_wp2;refine gX 2 ?_;rw[gd];go_wp2_with fail
 apply C.mono;rintro aa k⟨rfl,D⟩;subst k;go_wp2;rw[gd];go_wp2;go_ret;simp_all
def rF{q:M}(d:lP a q k)(m:kB a):cY aZ 11 #[eD q] a λo n=>o=aM (ar k)/\Below (z<|G a) a n:=by
 obtain⟨g,d,_⟩:=d;have f:aW (cN a<|aw #[ar 0] 50) (R (z<|G a) 0)=H (ar 0):=by simp
 have e:(cN a<|aw #[ar 0] 50).frozen? (R (z<|G a) 0)=aX:=by simp
 have j:=YE k q (R (z<|G a) 0) (ar 0) (cellAt ((fU (aw #[ar 0] 50)<|ak d).trans d) 1 rfl) (m.alloc _) f e;have r:=yZ;clear f e d;go_in
 go_wp2_with(go_at_call 28;refine j.mono ?_;rintro o i⟨rfl,b⟩;have c:Below (z<|G a) a i:=(by rw[b];exact((((((Below.refl _ a).alloc (ah _) _).alloc (by simp) _).alloc (by simp;omega) _).alloc (by simp;omega) _).alloc (by simp;omega) _).setCell (p:=(R (z<|G a) 0)) (ah _) _);have l:aW i (R (z<|G a) 0)=H (ar k):=(by rw[b];exact ov _ _ _ (by rw[bH _ _ _ (by simp;omega),bH _ _ _ (by simp;omega),bH _ _ _ (by simp;omega),bH _ _ _<|by simp];simp));have HB:=U c;clear b c)
 go_ret;exact⟨rfl,HB⟩
def IQ(t:Addr)(w:Y):(ReflectliteValue.unpack<|.iface 231<|cX<|H t).run aZ w=.ok (dC #[cX<|H<|R (7) 231,aA<|z<|G w,aE 150]) (cN w<|aw #[cX<|H t] 231):=by kernel_rfl
def Rw(a:Addr)(w:Y):(ReflectliteValue.methodAny (ReflectliteValue.valueError "reflectlite.Value.Type" 0) (λt _ _ _=>ReflectliteType.toType t) #[dC #[cX<|H<|R (7) 231,cX<|H a,aE 150]]).run aZ w=.ok (.iface 214<|dC #[cX<|H<|R (7) 231]) w:=by kernel_rfl
def Ry(w:Y):((ReflectliteType.abiMethod λt=>(λa:M=>Value.int IntKind.u8 (a:X))<$>Rtype.kind t) #[cX<|H<|R (7) 231]).run aZ w=.ok (rD 22) w:=by kernel_rfl
def Rz(w:Y):((ReflectliteType.abiMethod λt=>(λa:M=>Value.int IntKind.u8 (a:X))<$>Rtype.kind t) #[cX<|H<|R (7) 199]).run aZ w=.ok (rD 22) w:=by kernel_rfl
def El(a:Addr)(w:Y):(ReflectliteValue.parts<|dC #[cX<|H<|R (7) 231,cX<|H a,aE 150]).run aZ w=.ok (H (231,a,150)) w:=by kernel_rfl
def NZ(b p:Addr)(W:Y)(a:aW W b=H (cX<|H p)):(ReflectliteValue.method (ReflectliteValue.valueError "reflectlite.Value.IsNil" 0) ReflectliteValue.isNil #[dC #[cX<|H<|R (7) 231,cX<|H b,aE 150]]).run aZ W=.ok (aN aX) W:=by
 rw[E0];simp only[jV,El,Result.andThen];simp[ReflectliteValue.isNil,loadVar,isAgg,underlying,underlying231,a,Result.andThen]
def RA(w:Y):(ReflectliteType.method ReflectliteType.elem #[dC #[cX<|H<|R (7) 231]]).run aZ w=.ok (.iface 214<|dC #[cX<|H<|R (7) 199]) w:=by kernel_rfl
def Dr(w:Y):(ReflectliteType.relation "Implements" ReflectliteType.implements_ #[dC #[cX<|H<|R (7) 199],.iface 214<|dC #[cX<|H<|R (7) 47]]).run aZ w=.ok (aN ci) w:=by kernel_rfl
def KS(v:ab)(w:Y):(ReflectliteType.typeOf #[.iface 199 v]).run aZ w=.ok (.iface 214<|dC #[cX<|H<|R (7) 199]) w:=by kernel_rfl
def Dt(w:Y):(ReflectliteType.relation "AssignableTo" ReflectliteType.assignableTo #[dC #[cX<|H<|R (7) 199],.iface 214<|dC #[cX<|H<|R (7) 199]]).run aZ w=.ok (aN ci) w:=by kernel_rfl
def IS(n:M)(w:Y):(ReflectliteValue.unpack<|.iface 199<|aA n).run aZ w=.ok (dC #[cX<|H<|R (7) 199,aA<|z<|G w,aE 150]) (cN w<|aw #[aA n] 199):=by kernel_rfl
def KZ(w:Y):(Rtype.elem? 231).run aZ w=.ok (H 199) w:=by kernel_rfl
def Xx(p:Addr)(w:Y):(ReflectliteValue.mk 199 p ReflectliteValue.flagAddr).run aZ w=.ok (dC #[cX<|H<|R (7) 199,cX<|H p,aE 406]) w:=by kernel_rfl
def Oa(b p:Addr)(W:Y)(a:aW W b=H (cX<|H p)):(ReflectliteValue.method (ReflectliteValue.valueError "reflectlite.Value.Elem" 0) ReflectliteValue.elem #[dC #[cX<|H<|R (7) 231,cX<|H b,aE 150]]).run aZ W=.ok (dC #[cX<|H<|R (7) 199,cX<|H p,aE 406]) W:=by
 rw[E0];simp only[jV,El,Result.andThen];simp[ReflectliteValue.elem,loadVar,isAgg,underlying,underlying231,a,Result.andThen,KZ,Xx]
def KT(a:Addr)(w:Y):(ReflectliteValue.parts<|dC #[cX<|H<|R (7) 199,cX<|H a,aE 406]).run aZ w=.ok (H (199,a,406)) w:=by kernel_rfl
def NY(a:Addr)(w:Y):(ReflectliteValue.parts<|dC #[cX<|H<|R (7) 199,cX<|H a,aE 150]).run aZ w=.ok (H (199,a,150)) w:=by kernel_rfl
def La(w:Y):(Rtype.directlyAssignable 199 199).run aZ w=.ok ci w:=by kernel_rfl
def UF(a e:Addr)(n:M)(zn:ab)(W:Y)(b:aW W e=H (aA n))(d:aW W a=H zn)(c:W.frozen? a=aX):(ReflectliteValue.set #[dC #[cX<|H<|R (7) 199,cX<|H a,aE 406],dC #[cX<|H<|R (7) 199,cX<|H e,aE 150]]).run aZ W=.ok (dq #[]) (cq W a<|aA n):=by
 rw[J7];simp only[jV,KT,NY,Result.andThen];simp[ReflectliteValue.flagAddr,loadVar,isAgg,underlying,underlying199,b,Result.andThen,La,storeVar,Value.cells,storeCells,Addr.add];rw[Bu aZ W a _ _<|by rfl];simp[d,c]
def ZV(n:M)(t:Addr)(zn:ab)(e:kB a)(b:aW a t=H zn)(d:a.frozen? t=aX):cY aZ 28 #[.iface 199<|aA n,.iface 231<|cX<|H t] a λk C=>k=aM (aN ci)/\C=cq (cN (cN (cN (cN a<|aw #[cX<|H t] 231)<|aw #[cX<|H<|R (7) 231,aA<|z<|G a,aE 150] 151)<|aw #[cX<|H<|R (7) 231,aA<|z<|G a,aE 150] 151)<|aw #[aA n] 199) t (aA n):=by
 unfold kB at e;have K:=@bX aZ 63 _ (λa=>ReflectliteValue.unpack<|a.getD 0<|dq #[]) func63 (by kernel_rfl) (by kernel_rfl) (by kernel_rfl) (by kernel_rfl);have L:=@bX aZ 64 _ (ReflectliteValue.methodAny (ReflectliteValue.valueError "reflectlite.Value.Type" 0)<|λt _ _ _=>ReflectliteType.toType t) func64 (by kernel_rfl) (by kernel_rfl) (by kernel_rfl) (by kernel_rfl);have N:=@bX aZ 65 _ (ReflectliteValue.method (ReflectliteValue.valueError "reflectlite.Value.IsNil" 0) ReflectliteValue.isNil) func65 (by kernel_rfl) (by kernel_rfl) (by kernel_rfl) (by kernel_rfl);have q:=@bX aZ 300 _ (ReflectliteType.abiMethod λt=>do pure (rD<|<-Rtype.kind t)) func300 (by kernel_rfl) (by kernel_rfl) (by kernel_rfl) (by kernel_rfl);have s:=@bX aZ 329 _ (ReflectliteType.method ReflectliteType.elem) func329 (by kernel_rfl) (by kernel_rfl) (by kernel_rfl) (by kernel_rfl);have u:=@bX aZ 330 _ (ReflectliteType.relation "Implements" ReflectliteType.implements_) func330 (by kernel_rfl) (by kernel_rfl) (by kernel_rfl) (by kernel_rfl);have l:=@bX aZ 91 _ ReflectliteType.typeOf func91 (by kernel_rfl) (by kernel_rfl) (by kernel_rfl) (by kernel_rfl);have r:=@bX aZ 327 _ (ReflectliteType.relation "AssignableTo" ReflectliteType.assignableTo) func327 (by kernel_rfl) (by kernel_rfl) (by kernel_rfl) (by kernel_rfl);have m:=@bX aZ 106 _ (ReflectliteValue.method (ReflectliteValue.valueError "reflectlite.Value.Elem" 0) ReflectliteValue.elem) func106 (by kernel_rfl) (by kernel_rfl) (by kernel_rfl) (by kernel_rfl);have o:=@bX aZ 107 _ ReflectliteValue.set func107 (by kernel_rfl) (by kernel_rfl) (by kernel_rfl) (by kernel_rfl);have V:=KS;have O:=ni;have i:=Dt;have B:=IS;have E:=IQ;have F:=Rw;have S:=uX;have P:=uY;have Q:=oD;have A:=Ry;have x:=Rz;have j:=RA;have w:=Dr;have T:=NZ (R (z<|G a) 0) t (cN (cN a<|aw #[cX<|H t] 231)<|aw #[cX<|H<|R (7) 231,aA<|z<|G a,aE 150] 151) (by simp);have f:0<z (G a):=cC _ _ e;have v:aW (cN (cN a<|aw #[cX<|H t] 231)<|aw #[cX<|H<|R (7) 231,aA<|z<|G a,aE 150] 151) (R 0 0)=H (.iface 214<|dC #[cX<|H<|R (7) 47]):=by rw[bH _ _ (R 0 0) (by simp_all),bH _ _ (R 0 0) f];exact e
 have c:t.block<z (G a):=cC _ _ b;have D:=Oa (R (z<|G a) 0) t (cN (cN (cN a<|aw #[cX<|H t] 231)<|aw #[cX<|H<|R (7) 231,aA<|z<|G a,aE 150] 151)<|aw #[cX<|H<|R (7) 231,aA<|z<|G a,aE 150] 151) (by rw[bH _ _ (R (z<|G a) 0) (by simp;omega)];simp);have g:=UF t (R (z (G a)+1+1+1) 0) n zn (cN (cN (cN (cN a<|aw #[cX<|H t] 231)<|aw #[cX<|H<|R (7) 231,aA<|z<|G a,aE 150] 151)<|aw #[cX<|H<|R (7) 231,aA<|z<|G a,aE 150] 151)<|aw #[aA n] 199) (by rw[rA _ _ _ _<|by simp];rfl) (by rw[bH _ _ t (by simp;omega),bH _ _ t (by simp;omega),bH _ _ t (by simp;omega),bH _ _ t c];exact b) (by rw[eJ _ _ t (by simp;omega),eJ _ _ t (by simp;omega),eJ _ _ t (by simp;omega),eJ _ _ t<|Ak c];exact d);go_in
 go_wp2;refine gX 1 ?_;rw[gd];go_wp2;go_ret;simp_all
end
theorem Hy{q:M}{c:X}{w:Y}(F:lP w q c)(hg:kB w):cY aZ 69 #[eD q] w λan w'=>∃q',an=aM (eD q')/\lP w' q' c/\Below (z<|G w) w w':=by
 obtain⟨a,F,E⟩:=F;have W:=ak F;have ht:aW (cN w<|aw #[cX none] 199) (R (z<|G w) 0)=H (cX none):=by simp
 have hf:(cN w<|aw #[cX none] 199).frozen? (R (z<|G w) 0)=aX:=by simp
 have ha:=ZV q (R (z<|G w) 0) (cX none) (hg.alloc _) ht hf
 have HX:=U (show∀g,g=cq (cN (cN (cN (cN (cN w<|aw #[cX none] 199)<|aw #[cX<|H<|R (z<|G w) 0] 231)<|aw #[cX<|H<|R (7) 231,aA<|z<|G<|cN w<|aw #[cX none] 199,aE 150] 151)<|aw #[cX<|H<|R (7) 231,aA<|z<|G<|cN w<|aw #[cX none] 199,aE 150] 151)<|aw #[aA q] 199) (R (z<|G w) 0) (aA q)->Below (z<|G w) w g/\aW g (R (z<|G w) 0)=H (aA q)/\aW g (R q 0)=H (am a)/\aW g (R q 1)=H (ar c)from by
  rintro g f;have e:Below (z<|G w) w g:=by rw[f];exact((((((Below.refl _ w).alloc (ah _) _).alloc (by simp) _).alloc (by simp;omega) _).alloc (by simp;omega) _).alloc (by simp;omega) _).setCell (p:=(R (z<|G w) 0)) (ah _) _
  have D:g.heap[q]?=H (aw #[am a,ar c] 201 (0,0)):=((Z.aR (S:=ay) e).block q W id).trans F;refine⟨e,?_,cellAt D 0 rfl,cellAt D 1 rfl⟩;rw[f];exact ov _ _ _ (by rw[bH _ _ _ (by simp;omega),bH _ _ _ (by simp;omega),bH _ _ _ (by simp;omega),bH _ _ _ (by simp)];simp))
 have A:=U E;clear ht hf F E;go_in
 go_wp2_with fail
 apply ha.mono;rintro an g⟨rfl,f⟩;obtain⟨e,P,Q,T⟩:=HX g f;have L:=U e;clear f e ha;go_wp2_with fail
 rename_i KK C;have V:=λW=>sY a W (by have:=J A;unfold Nm at this;omega);obtain⟨b,O⟩:∃b,g.drew=b:=⟨_,rfl⟩;have r:aW b (R (z<|G w) 0)=H (aA q)/\aW b (R q 0)=H (am a)/\aW b (R q 1)=H (ar c):=by rw[<-O];exact⟨P,Q,T⟩
 have x:=U (show Below (z<|G w) w b by rw[<-O];exact below_drewN L 1);refine jj (λ(d:Y)=>aW d (R (z<|G w) 0)=H (aA q)/\aW d (R q 0)=H (am a)/\aW d (R q 1)=H (ar c)) 9 (by kernel_rfl) ?_;rw[O];refine kF 0 ?_;iterate 4 (refine uS (v:=?_) r rfl (by kernel_rfl) lk rfl ?_ ?_;rotate_left;(focus(rintro d⟨z0,z1,z2⟩;go_simp;try rfl));simp only[Act.put,dW,Nat.reduceAdd])
 apply oC;refine kF 5 ?_;iterate 4 (refine uS (v:=?_) r rfl (by kernel_rfl) lk rfl ?_ ?_;rotate_left;(focus(rintro d⟨z0,z1,z2⟩;go_simp;try rfl));simp only[Act.put,dW,Nat.reduceAdd])
 apply oC;refine fy (i:=4) rfl rfl (by kernel_rfl) ?_;intro K6 B;go_simp;apply(V _).mono;rintro an K⟨rfl,t⟩;have j:Z ay b K:=Z.aR t;have N:aW K (R (z<|G w) 0)=H (aA q)/\aW K (R q 0)=H (am a)/\aW K (R q 1)=H (ar c):=⟨j.cell r.1 id<|cC _ _ r.1,j.cell r.2.1 id<|cC _ _ r.2.1,j.cell r.2.2 id<|cC _ _ r.2.2⟩;have u:=U<|show Below (z<|G w) w K from x.trans<|t.mono (by have:=x.size;omega);refine B _ _ (λ_=>N) ?_;clear B t j;try simp only[Act.put,dW]
 refine fy (i:=9) rfl rfl (by kernel_rfl) ?_;intro aa l;go_simp;refine l _ _ (λq=>by omega) ?_;clear l;try simp only[Act.put,dW]
 refine fy (i:=10) rfl rfl (by kernel_rfl) ?_;intro ac m;go_simp;refine m _ _ (λq=>by omega) ?_;clear m;try simp only[Act.put,dW]
 refine fy (i:=11) rfl rfl (by kernel_rfl) ?_;intro ad n;go_simp;refine n _ _ (λq=>by omega) ?_;clear n;try simp only[Act.put,dW]
 refine fy (i:=12) rfl rfl (by kernel_rfl) ?_;intro al o;go_simp;refine o _ _ (λq=>by omega) ?_;clear o;refine ju (by kernel_rfl) ?_ _;show KK _ _;apply C;clear C;go_wp2;go_ret;exact⟨_,rfl,⟨a,ix _ _,A⟩,u.alloc (by have:=u.size;omega) _⟩
def SR.WD(s:SR)(k:X)(q:M):Array ab:=#[jN k,dA 0,aA s.aI,ar s.mem,ar s.kG,aN s.closed,eD q,s.memory,ar s.fm,aE s.aS,s.l0,s.l1,s.l2,s.l3,aE s.next,ar s.Hv,.map s.ow,aE s.log,aN s.ez,aN s.xe,aN s.jx,aN s.iT]
def lQ(w:Y)(sbqq:M)(s:SR)(k:X)(q:M):Prop:=w.heap[sbqq]?=H (aw (s.WD k q) 94 (0,0))
section
variable{w w':Y}{sbqq q:M}{s:SR}{k c:X}
theorem lQ.cellAt(h:lQ w sbqq s k q)(i:M){v:ab}(e:(s.WD k q).toList[i]?=H v):aW w (R sbqq i)=H v:=by
 rw[cg h];rw[<-e];simp
theorem lQ.free{i:M}(h:lQ w sbqq s k q):w.frozen? (R sbqq i)=aX:=cP h
theorem lQ.aj{S:eV}(h:lQ w sbqq s k q)(d:Z S w w')(a:¬S sbqq):lQ w' sbqq s k q:=(d.block sbqq (ak h) a).trans h
theorem lQ.lB(h:lQ w sbqq s k q)(n:X):lQ (cq w (R sbqq 0)<|jN n) sbqq s n q:=(aH h).trans rfl
theorem cS.fail(h:cS w sbqq s k)(q:M):lQ (cq w (R sbqq 6)<|eD q) sbqq s k q:=(aH h).trans rfl
theorem lP.aj{S:eV}(h:lP w q c)(e:Z S w w')(d:¬S q):lP w' q c:=by
 obtain⟨n,h,a⟩:=h;exact⟨n,(e.block q (ak h) d).trans h,a⟩
theorem lP.lt(h:lP w q c):q<z (G w):=by
 obtain⟨n,h,a⟩:=h;exact ak h
theorem lP.qg{b:Array ab}(h:lP w q c)(a:w.heap[sbqq]?=H (aw b 94 (0,0))):q≠sbqq:=by
 obtain⟨n,h,d⟩:=h;rintro rfl;rw[h]at a;simp[aw]at a
theorem Lf(h:lQ w sbqq s k q)(e:s.closed=aX)(g:lP w q c)(m:kB w):cY aZ 31 #[aA sbqq] w λn w'=>∃d,n=aM (eD d)/\lP w' d c/\Below (z<|G w) w w':=by
 have c5:aW w (R sbqq 5)=H (aN aX):=by rw[<-e];exact h.cellAt 5 rfl
 have o:=h.cellAt 6 rfl;have f:=Hy g m;clear h e g;go_in
 go_wp2_with fail
 apply f.mono;rintro n j⟨i,rfl,b,a⟩;have l:=U (show∃d,aM (eD i)=aM (eD d)/\lP j d c/\Below (z<|G w) w j from⟨i,rfl,b,a⟩);clear b a f;go_wp2;go_ret;exact l
theorem Ig(h:cS w sbqq s k)(e:lP w q c)(m:kB (cq w (R sbqq 6)<|eD q)):cY aZ 33 #[aA sbqq,eD q] w λn w'=>∃d,n=aM (eD d)/\lP w' d c/\Below (z<|G<|cq w (R sbqq 6)<|eD q) (cq w (R sbqq 6)<|eD q) w':=by
 have o:=cS.cellAt h 6 rfl;have p:w.frozen? (R sbqq 6)=aX:=h.free;have f:=Hy (e.aj (gZ sbqq w (i:=6) (u:=eD q))<|e.qg (sbqq:=sbqq) h) m;clear h e;go_in
 go_wp2_with fail
 apply f.mono;rintro n j⟨g,rfl,b,a⟩;have l:=U (show∃d,aM (eD g)=aM (eD d)/\lP j d c/\Below (z<|G<|cq w (R sbqq 6)<|eD q) (cq w (R sbqq 6)<|eD q) j from⟨g,rfl,b,a⟩);clear b a f;go_wp2;go_ret;exact l
end
def IB{l m:cR}(h:b<y m):fM l (m.take<|b+1)=lA (fM l<|m.take b) m[b]:=by
 unfold fM;rw[ai h,gK];rfl
def QL(l:cR)(e:E):y (lA l e)<=y l+1:=by
 have:∀l:cR,y (l.filter<|λx=>ahead x e)+y (l.filter<|λx=>ahead e x)<=y l:=by
  intro l;induction l with
  |nil=>simp
  |cons x r a=>
   grind[filter_cons_of_pos,filter_cons_of_neg,lD,length_cons]
 have:=this l;unfold lA;grind
def xI(l m:cR):y (fM l m)<=y l+y m:=by
 unfold fM;induction m generalizing l with
 |nil=>simp
 |cons e r a=>
  have b:=a<|lA l e;have c:=QL l e;grind
def dV.fM(h:dV e)(m:cR):dV (fM e m):=by
 induction m generalizing e with
 |nil=>exact h
 |cons b r a=>exact a<|h.lA b
theorem We(l:cR)(p:M)(x:E)(h:p<y l):((((aK l).set (p*4)<|am x.key).set (p*4+1)<|am x.val).set (p*4+2)<|aN x.del).set (p*4+3) (aE x.bO)=aK (l.set p x):=by
 induction l generalizing p with
 |nil=>simp at h
 |cons a r c=>
  have e:∀(a:E)(r:cR),aK (a::r)=am a.key::am a.val::aN a.del::aE a.bO::aK r:=λa r=>by simp[aK,E.cells]
  cases p with
  |zero=>rw[eG,e,e];simp
  |succ p=>
   have b:p<y r:=by simpa using h
   rw[dX,e,e,<-c p b];rw[show(p+1)*4=p*4+1+1+1+1 by omega];simp_all
def US(x:E)(n:a.ownsRow b 171 4 (bD c 0 (y e) g) (y e) (aK e))(s:m<y e):(cq (cq (cq (cq a (R c<|m*4)<|am x.key) (R c<|m*4+1)<|am x.val) (R c<|m*4+2)<|aN x.del) (R c<|m*4+3)<|aE x.bO).ownsRow b 171 4 (bD c 0 (y e) g) (y<|e.set m x) (aK<|e.set m x):=by
 refine⟨fV _,.inr ?_⟩;rcases n.2 with⟨f,r⟩|⟨q,k,p,f,i,l,d,j,h,o⟩;cases f;cases f;refine⟨c,g,_,by rw[iE],i,aH<|aH<|aH<|aH l,by rw[iE];exact d,j,by simpa using h,?_⟩;grind[Array.toList_setIfInBounds,take_set,length_set,We]
def SI(h:e.take b++w::e.drop b=K)(c:b<=y e):(aK e).take (b*4)++aK [w]++(aK e).drop (b*4)=aK K:=by
 rw[<-h,fW,show w::e.drop b=[w]++e.drop b from rfl,fW,bA];have a:=bS aK<|bV b e;rw[fW]at a;grind[fV,length_take,take_left',drop_left']
def Ye(h:e.take b++w::e.drop b=K)(a:b<=y e):y K=y e+1:=by
 rw[<-h,af,aY,dO,jc];omega
def Ui(h:kC a d e)(hm:kC a s K)(hs:dV e)(hl:y e+y K<=100000000)(bn:∀k,cK d=H k->k<z (G a))(bk:∀k,cK s=H k->k<z (G a)):cY aZ 95 #[d,s] a λbo w'=>∃v',bo=aM v'/\w'.ownsRow (z<|G a) 171 4 v' (y<|fM e K) (aK<|fM e K)/\Z ay a w':=by
 have bd:=Pu h (by omega) bn;obtain⟨mx,mc,bT⟩:=bY hm;obtain⟨vx,vc,cj⟩:=bY h;obtain⟨HM,br,HS⟩:=dz hm bk hs;clear h bn hm bk hs;subst bT;subst cj;go_in
 go_wp2_with fail
 apply bd.mono;rintro bo w1⟨v1,rfl,an,bb⟩;obtain⟨x1,c1,cf⟩:=aB an;subst cf;have bs:=U an;have bu:=U<|Z.aR (S:=ay) bb;clear an bb bd;go_wp2_with fail
 go_loopw [5,13] (λo i wr=>∃(k:M),k<=y K/\i=ar k/\wr.ownsRow (z<|G a) 171 4 o (y<|fM e<|K.take k) (aK<|fM e<|K.take k)/\Z ay a wr) (λ_ i _=>y K-(intOf i).toNat)
 case atStart=>exact⟨0,bP _,rfl,bs,bu⟩
 (case round=>obtain⟨k,hk,rfl,ho,P⟩:=hrel;obtain⟨nx,nc,ca⟩:=aB ho;subst ca;by_cases O:k<y K;(·(have e1:(k:X)<(y K:X):=by omega);have F:=IB (l:=e) O;have ap:dV (fM e<|K.take k):=HS.fM _;(have bL:y (fM e<|K.take k)<=100000000:=by have:=xI e<|K.take k;have:=sj k K;omega);generalize fM e (K.take k)=b at ho F ap bL|-;obtain⟨bx,⟨bl,cn⟩|⟨bp,i,cm,bl,bE,hc⟩⟩:=J HM;exfalso;omega;cases bl;have B:bp<z (G a):=br bp rfl;have r:=eI K k O;have co:bp<z (G wr):=ag B P.size;have cb:aW wr (R bp<|i+k*4)=H (am K[k].key):=P.cell (hc _ _ r.1) id B;have cc:aW wr (R bp<|i+k*4+1)=H (am K[k].val):=P.cell (by rw[bw];grind) id B;have cd:aW wr (R bp<|i+k*4+2)=H (aN K[k].del):=P.cell (by rw[bw];grind) id B;have ce:aW wr (R bp<|i+k*4+3)=H (aE K[k].bO):=P.cell (by rw[bw];grind) id B;obtain⟨T,N,W,HT⟩:=fY F ap ho P;clear r hc bx bE F ap ho P;generalize K[k]=cp at*;obtain⟨f,u,t,g⟩:=cp;simp only at cb cc cd ce;have L:Z ay wr (cN wr<|aw #[am f,am u,aN t,aE g] 171):=(cF _ _);have x:=BN (I nx (y b) nc) f g (cN wr<|aw #[am f,am u,aN t,aE g] 171) (dJ<|L.own W<|λ_ _ an=>an) N (by omega) (λbp a=>by have:=(W.lt bp a).2;simp;omega);have D:=IW b ⟨f,⟨#[]⟩,aX,g⟩;by_cases ad:∃h:lj b ⟨f,⟨#[]⟩,aX,g⟩<y b,b[lj b ⟨f,⟨#[]⟩,aX,g⟩].key=f/\b[lj b ⟨f,⟨#[]⟩,aX,g⟩].bO=g;(.obtain⟨al,ac,V⟩:=ad;have Q:=QK N ⟨f,u,t,g⟩ al ac V;have av:=U<|show b.set (lj b ⟨f,⟨#[]⟩,aX,g⟩) ⟨f,u,t,g⟩=lA b ⟨f,u,t,g⟩from Q;clear Q;generalize lj b ⟨f,⟨#[]⟩,aX,g⟩=p at*;(have e2:(p:X)<(y b:X):=by omega);(have e3:(0:X)<=(p:X):=by omega);(go_wp2_with fail);apply x.mono;rintro bo c⟨rfl,A⟩;have j:iM c (z<|G wr) ⟨f,u,t,g⟩:=(A.block _<|by simp).trans<|aJ _ rfl;have m:Z ay wr c:=L.cz<|Z.aR (S:=ay) A;have l:=m.own W<|λ_ _ an=>an;obtain⟨q0,q1,q2,q3⟩:=j.cells;have C:=ak j;simp only at q0 q1 q2 q3;have bh:∀w,cK (I nx (y b) nc)=H w->w<z (G wr):=λw r=>(W.lt w r).2;rcases l.2 with⟨h2,h0⟩|⟨w,aD,cl,h2,bg,r,bi,bm,bf,o⟩;exfalso;omega;cases h2;(have bv:w≠z (G wr):=λbo=>by have:=bh w rfl;omega);have bc:=eI b p al;(have r0:aW c (R w<|p*4)=H (am b[p].key):=by simpa using qe r o _ _ 0 (by simp_all));(have r1:aW c (R w<|p*4+1)=H (am b[p].val):=by simpa using qe r o _ _ 0 (by simp_all));(have r2:aW c (R w<|p*4+2)=H (aN b[p].del):=by simpa using qe r o _ _ 0 (by simp_all));(have r3:aW c (R w<|p*4+3)=H (aE b[p].bO):=by simpa using qe r o _ _ 0 (by simp_all));(have f0:∀j,c.frozen? (R w j)=aX:=λj=>by simp[World.frozen?,r]);have aF:=f0<|p*4;have aU:=f0<|p*4+1;have aV:=f0<|p*4+2;have ba:=f0<|p*4+3;obtain⟨ao,ax,bq,HG⟩:=fY l m j r;clear bh bc f0 l m j r bf o bm bg x L;generalize z (G wr)=eb at*;generalize b[p]=v at*;obtain⟨yk,yv,yd,yb⟩:=v;simp only at r0 r1 r2 r3 ac V;subst ac;subst V;go_wp2;(go_quiet(fail));have hd:Z ay c (c.drewN nq):=Z.aR<|below_drewN (Below.refl _ _) _;have au:=U<|hd.own ao<|λ_ _ an=>an;have aa:=U<|(HT.cz ax).cz hd;have ch:eb<z (G<|c.drewN nq):=C;(replace r0:aW (c.drewN nq) (R w<|p*4)=_:=r0);(replace r1:aW (c.drewN nq) (R w<|p*4+1)=_:=r1);(replace r2:aW (c.drewN nq) (R w<|p*4+2)=_:=r2);(replace r3:aW (c.drewN nq) (R w<|p*4+3)=_:=r3);(replace q0:aW (c.drewN nq) (R eb 0)=_:=q0);(replace q1:aW (c.drewN nq) (R eb 1)=_:=q1);(replace q2:aW (c.drewN nq) (R eb 2)=_:=q2);(replace q3:aW (c.drewN nq) (R eb 3)=_:=q3);(replace aF:(c.drewN nq).frozen? (R w<|p*4)=_:=aF);(replace aU:(c.drewN nq).frozen? (R w<|p*4+1)=_:=aU);(replace aV:(c.drewN nq).frozen? (R w<|p*4+2)=_:=aV);(replace ba:(c.drewN nq).frozen? (R w<|p*4+3)=_:=ba);clear hd bq HG ao ax C;generalize c.drewN nq=w3 at*;go_wp2;(have bt:∀k,k=w->z (G a)<=k:=λk hk=>by rw[hk];exact(au.lt w rfl).1);refine⟨⟨k+1,O,by go_num,?_,?_⟩,by simp[intOf];omega⟩;rw[J T,<-J av];exact US ⟨yk,u,t,yb⟩ au al;refine(((aa.setCell _ _ _ ?_).setCell _ _ _ ?_).setCell _ _ _ ?_).setCell _ _ _ ?_<;>exact .inr<|bt w rfl);(.have V:=QM N ⟨f,u,t,g⟩<|N.ZZ ⟨f,u,t,g⟩<|λa bo=>ad ⟨a,bo⟩;have Q:=U<|show b.take (lj b ⟨f,⟨#[]⟩,aX,g⟩)++⟨f,u,t,g⟩::b.drop (lj b ⟨f,⟨#[]⟩,aX,g⟩)=lA b ⟨f,u,t,g⟩from V;clear V;generalize lj b ⟨f,⟨#[]⟩,aX,g⟩=p at*;(go_wp2_with fail);apply x.mono;rintro bo c⟨rfl,A⟩;have j:iM c (z<|G wr) ⟨f,u,t,g⟩:=(A.block _<|by simp).trans<|aJ _ rfl;have m:Z ay wr c:=L.cz<|Z.aR (S:=ay) A;have l:=m.own W<|λ_ _ an=>an;obtain⟨q0,q1,q2,q3⟩:=j.cells;have C:=ak j;simp only at q0 q1 q2 q3;have ck:=HT.size;have ba:=m.size;have bh:=U (λ(q:M)=>show _/\_/\_ from have au:Z ay c (cN (c.drewN q)<|aw #[am f,am u,aN t,aE g] 171):=(Z.aR (S:=ay)<|below_drewN (Below.refl _ c) q).alloc _;have aU:=au.own l<|λ_ _ an=>an;⟨OP (w:=(cN (c.drewN q)<|aw #[am f,am u,aN t,aE g] 171)) (baseqq:=z<|G a) (v:=(I nx (y b) nc)) (n:=y b) p (xs:=(aK b)) (x:=⟨f,u,t,g⟩) (vb:=z<|G c) aU (by have:=au.size;omega) (aJ _ rfl) (λbo=>by have:=(l.lt _ bo).2;omega) D (by omega)<|UZ b,(HT.cz m).cz au,λk hk=>(aU.lt k hk).1⟩);(have ac:(∃w,nx=H (R w 0)/\∃v:E,p<y b/\aW c (R w<|p*4)=H (am v.key)/\aW c (R w<|p*4+3)=H (aE v.bO)/\(v.key≠f\/(v.key=f/\v.bO≠g)))\/((p:X)<(y b:X))=False:=by by_cases ao:p<y b;left;rcases l.2 with⟨h2,h0⟩|⟨w,aD,cl,h2,bg,r,bi,bm,bf,o⟩;omega;cases h2;have bc:=eI b p ao;refine⟨w,rfl,b[p],ao,by simpa using qe r o _ _ 0 (by simp_all),by simpa using qe r o _ _ 0 (by simp_all),?_⟩;by_cases hk:b[p].key=f;simp_all;simp_all;simp_all);clear j m l A x L ck ba ad;generalize z (G wr)=eb at*;rcases ac with⟨w,rfl,⟨yk,yv,yd,yb⟩,ao,r0,r3,hy|⟨rfl,hy⟩⟩|e2;(case' inl.inl=>simp only at r0 r3 hy;(have e2:(p:X)<(y b:X):=by omega);(have e3:(0:X)<=(p:X):=by omega);have e4:=IJ hy);(case' inl.inr=>simp only at r0 r3 hy;(have e2:(p:X)<(y b:X):=by omega);(have e3:(0:X)<=(p:X):=by omega);have e4:(yb==g)=aX:=by simpa using hy);(all_goals(go_wp2_with fail);(go_quiet(fail));obtain⟨aF,ax,av⟩:=bh nq;have aa:=U ax;have bq:=U av;clear ax av;(go_wp2_with fail);apply aF.mono;rintro bo w4⟨v4,rfl,al,aV,_⟩;obtain⟨x4,c4,ch⟩:=aB al;subst ch;have bt:=U al;have bv:=U aV;clear al aV aF;go_wp2;refine⟨⟨k+1,O,by go_num,?_,?_⟩,by simp[intOf];omega⟩;rw[J T,Ye (J Q) D,<-SI (J Q) D];exact bt;exact aa.trans bv<|λk hk=>.inr<|bq k hk)));(have e1:¬(k:X)<(y K:X):=by omega);(have b:k=y K:=by omega);obtain⟨c,W,HT⟩:=dz (show fM e K=fM e (K.take k)by rw[b,bI]) ho P;clear ho P b;go_wp2;go_ret;exact⟨_,rfl,by rw[J c];exact W,HT⟩)
def jS(a:X)(c:Ki):E:=⟨c.key,if c.del then⟨#[]⟩else c.val,c.del,a⟩
def MD{e:oa}(b:X)(hp:Gv a d e)(hv:∀k,cK d=H k->k<z (G a))(hr:y e<=1000000)(hz:∀cf∈e,cf.key.size<=140737488351232/\cf.val.size<=140737488351232):cY aZ 72 #[d,.int .u64 b] a λch w'=>∃v',ch=.returned v'/\w'.ownsRow (z<|G a) 171 4 v' (y e) (aK<|e.map<|jS b)/\Z (λ_=>False) a w':=by
 have ck:∀(cf:Bool)(a:Y),(Op.unary .not<|.bool cf).run aZ a=.ok (.bool<|!cf) a:=λ_ _=>rfl;obtain⟨i0,aU,ba,bb,bc⟩:=di mZ;obtain⟨cx,cc,bx⟩:=bY hp;obtain⟨HP,HV,HZ⟩:=dz hp hv hz;clear hp hv hz;subst bx;go_in
 go_wp2_with(at_make;refine kr _ rfl _ _ 86 rfl (z<|G a) 171 i0 wo 4 underlying86 aU ba bb _ _ _ (y e) rfl rfl rfl (by rw[bc];omega) (by unfold maxLen;omega) (ah _) ?_;intro w1 Q P;have ac:=U Q;have bf:=U P;clear Q P)
 go_loopw [5,14] (λo bt wr=>∃(k:M),k<=y e/\bt=.int .i64 k/\wr.ownsRow (z<|G a) 171 4 o k (aK<|(e.take k).map<|jS b)/\Z (λ_=>False) a wr) (λ_ bt _=>y e-(intOf bt).toNat)
 case atStart=>exact⟨0,bP _,rfl,ac,Z.ee bf<|by simp⟩
 case round=>
  obtain⟨k,hk,rfl,ho,E⟩:=hrel;obtain⟨nx,nc,bL⟩:=aB ho;subst bL;by_cases A:k<y e
  .have e1:(k:X)<(y e:X):=by omega
   obtain⟨bv,⟨bq,cn⟩|⟨bs,f,cm,bq,bE,hc⟩⟩:=J HP
   .exfalso;omega
   cases bq;have N:bs<z (G a):=HV bs rfl;have hg:=lE e k A;have co:bs<z (G wr):=ag N E.size;have ca:aW wr ⟨bs,f+k*3,none⟩=H (.string e[k].key):=E.cell (hc _ _ hg.1) id N;have cb:aW wr ⟨bs,f+k*3+1,none⟩=H (.string e[k].val):=E.cell (by rw[bw];grind) id N;have cd:aW wr ⟨bs,f+k*3+2,none⟩=H (.bool e[k].del):=E.cell (by rw[bw];grind) id N;have ce:=HZ _<|aq A;obtain⟨bg,HO,HT⟩:=dz (show(e.take<|k+1).map (jS b)=(e.take k).map (jS b)++[jS b e[k]]by rw[ai A,aP];rfl) ho E;clear hg hc bv bE ho E;generalize e[k]=cf at*;obtain⟨g,p,l⟩:=cf;simp only at ca cb cd ce;have bm:=λao=>sY g ao (by omega);have bn:=λao=>sY p ao (by omega);go_wp2_with fail
   rename_i QQ KK bh;have m:(cN wr<|.cells #[.string g,.string p,.bool l] 54).heap[z<|G wr]?=H (.cells #[.string g,.string p,.bool l] 54 (0,0)):=aJ _ rfl;have aD:Z (λ_=>False) a (cN wr<|.cells #[.string g,.string p,.bool l] 54):=HT.alloc _;have av:=aT HO<|.cells #[.string g,.string p,.bool l] 54;generalize cN wr (.cells #[.string g,.string p,.bool l] 54)=j at m aD av|-;generalize z (G wr)=r at m|-;have x:aW j.drew ⟨r,0,none⟩=H (.string g)/\aW j.drew ⟨r,2,none⟩=H (.bool l):=⟨by show aW j _=_;rw[cg m];rfl,by show aW j _=_;rw[cg m];rfl⟩;have B:=ak m;obtain⟨w,bd,ad,W⟩:=fY (show∀i,Z (λ_=>False) j i->aW i ⟨r,0,none⟩=H (.string g)/\aW i ⟨r,2,none⟩=H (.bool l)fromλi a=>⟨a.cell x.1 id B,a.cell x.2 id B⟩) m aD av;clear m aD av;refine dR (λi=>aW i ⟨r,0,none⟩=H (.string g)/\aW i ⟨r,2,none⟩=H (.bool l)) 8 (by kernel_rfl) ?_;refine fh 0 ?_;iterate 2 (refine iz (v:=?_) x rfl (by kernel_rfl) lk rfl ?_ ?_;rotate_left;(focus(rintro i⟨z0,z2⟩;go_simp;try rfl));simp only[Act.put,dW,Nat.reduceAdd])
   apply ii;refine fh 3 ?_;iterate 3 (refine iz (v:=?_) x rfl (by kernel_rfl) lk rfl ?_ ?_;rotate_left;(focus(rintro i⟨z0,z2⟩;go_simp;try rfl));simp only[Act.put,dW,Nat.reduceAdd])
   apply ii;refine uw (α:=M) (λc ao=>Z (λ_=>False) j ao/\ao.heap[c]?=H (.cells #[.string ⟨#[]⟩,.string ⟨#[]⟩,.bool aX,.int .u64 0] 171 (0,0))/\z (G j)<=c) (λc=>{tmps:=#[.slice (H ⟨bs,f,none⟩) (y e) cc,.int .u64 b,iH,iH,.slice none 0 0,.slice nx k nc,iH,.pointer<|H ⟨r,0,none⟩,.pointer<|H ⟨c,0,none⟩,.slice (H ⟨bs,f,none⟩) (y e) cc,.int .i64<|y e,.slice (H ⟨z<|G a,0,none⟩) 0<|y e,.slice (H ⟨bs,f,none⟩) (y e) cc,.int .i64<|y e,.int .i64 k,.bool ci,.pointer<|H ⟨bs,f+k*3,none⟩,.agg #[.string g,.string p,.bool l],.pointer<|H ⟨r,0,none⟩,.string g,.string g,.pointer<|H ⟨r,2,none⟩,.bool l,.int .u64 b,.agg #[.string g,.string ⟨#[]⟩,.bool l,.int .u64 b],u25,u26,u27,u28,u29,u30,u31,u32,u33,u34,u35,u36,iH],defers:=[]}) #[true,true,true,true,true,true,true,true,false] 1 ?_ ?_
   .intro bl;refine tC (i:=2) (j:=7) rfl rfl rfl rfl (by kernel_rfl) ?_ ?_
    .intro cv hK;go_simp;apply(bm _).mono;rintro ch w4⟨rfl,L⟩;have t:Z (λ_=>False) j w4:=(cZ (λ_=>False) j).cz<|Z.aR (S:=λ_=>False) L;have bi:=w w4 t;refine hK _ _ (λ_=>bi) ?_;try simp only[Act.put,dW]
     refine lz (i:=6) (v:=?_) rfl rfl (by kernel_rfl) (by kernel_rfl) (by kernel_rfl) (by kernel_rfl) (λ_ _ _ h=>h) (Or.inl ⟨by rfl,?_⟩) bi ?_;rotate_left
     .rintro i⟨z0,z2⟩;go_simp;try with_reducible rfl
     try simp only[Act.put,dW]
     refine bj (i:=7) rfl rfl (by kernel_rfl) ?_;intro K2 au;go_simp;have F:=t.alloc<|.cells #[.string ⟨#[]⟩,.string ⟨#[]⟩,.bool aX,.int .u64 0] 171;refine au _ _ (λ_=>w _ F) ?_;exact jW (bl (z<|G w4) _ ⟨F,aJ _ rfl,t.size⟩)<|by kernel_rfl
    .intro cv hK;go_simp;have t:Z (λ_=>False) j ((cN j<|.cells #[.string ⟨#[]⟩,.string ⟨#[]⟩,.bool aX,.int .u64 0] 171).drew):=(cF (λ_=>False) j).of_heap rfl;have L:((cN j<|.cells #[.string ⟨#[]⟩,.string ⟨#[]⟩,.bool aX,.int .u64 0] 171).drew).heap[z<|G j]?=H (.cells #[.string ⟨#[]⟩,.string ⟨#[]⟩,.bool aX,.int .u64 0] 171 (0,0)):=aJ (w:=j) _ rfl;refine hK _ _ (λ_=>w _ t) ?_;refine bj (i:=2) rfl rfl (by kernel_rfl) ?_;intro K2 au;go_simp;apply(bm _).mono;rintro ch w5⟨rfl,bk⟩;have F:Z (λ_=>False) j w5:=t.cz<|Z.aR (S:=λ_=>False) bk;have bu:=((Z.aR (S:=λ_=>False) bk).block _ (ak L) id).trans L;have bi:=w _ F;refine au _ _ (λ_=>bi) ?_;try simp only[Act.put,dW]
     refine lz (i:=6) (v:=?_) rfl rfl (by kernel_rfl) (by kernel_rfl) (by kernel_rfl) (by kernel_rfl) (λ_ _ _ h=>h) (Or.inl ⟨by rfl,?_⟩) bi ?_;rotate_left
     .rintro i⟨z0,z2⟩;go_simp;try with_reducible rfl
     try simp only[Act.put,dW]
     exact jW (bl (z<|G j) _ ⟨F,bu,ah _⟩)<|by kernel_rfl
   rintro c ao⟨E,O,s⟩;have bp:=ak O;refine bj (i:=8) rfl rfl (by kernel_rfl) ?_;intro cv hK;have q0:aW ao ⟨c,0,none⟩=H (.string ⟨#[]⟩):=by rw[cg O];rfl
   have q1:aW ao ⟨c,1,none⟩=H (.string ⟨#[]⟩):=by rw[cg O];rfl
   have q2:aW ao ⟨c,2,none⟩=H (.bool aX):=by rw[cg O];rfl
   have q3:aW ao ⟨c,3,none⟩=H (.int .u64 0):=by rw[cg O];rfl
   have fz:∀cu,ao.frozen? ⟨c,cu,none⟩=aX:=λcu=>by simp[World.frozen?,O]
   go_simp;refine hK _ _ FQ ?_;refine eS (by kernel_rfl) ?_ _;show KK _ _;apply bh;have ap:iM (cq (cq (cq (cq ao ⟨c,0,none⟩<|.string g) ⟨c,1,none⟩<|.string ⟨#[]⟩) ⟨c,2,none⟩<|.bool l) ⟨c,3,none⟩<|.int .u64 b) c ⟨g,⟨#[]⟩,l,b⟩:=aH<|aH<|aH<|aH O;have o:Z (λ_=>False) j (cq (cq (cq (cq ao ⟨c,0,none⟩<|.string g) ⟨c,1,none⟩<|.string ⟨#[]⟩) ⟨c,2,none⟩<|.bool l) ⟨c,3,none⟩<|.int .u64 b):=(((E.setCell _ _ _<|.inr s).setCell _ _ _<|.inr s).setCell _ _ _<|.inr s).setCell _ _ _<|.inr s;have aF:=ad.cz o;have ax:=o.own W<|λ_ _ d=>d;have n:=(o.block _ B id).trans bd;have cs:c≠r:=by omega
   have br:z (G a)<=c:=aC ad.size s;have bT:cK (Value.slice nx k nc)≠H c:=λch=>by have:=(W.lt c ch).2;omega
   generalize(cq (cq (cq (cq ao ⟨c,0,none⟩<|.string g) ⟨c,1,none⟩<|.string ⟨#[]⟩) ⟨c,2,none⟩<|.bool l) ⟨c,3,none⟩<|.int .u64 b)=W5 at ap aF ax n|-;have d0:aW W5 ⟨r,0,none⟩=H (.string g):=by rw[cg n];rfl
   have d1:aW W5 ⟨r,1,none⟩=H (.string p):=by rw[cg n];rfl
   have d2:aW W5 ⟨r,2,none⟩=H (.bool l):=by rw[cg n];rfl
   have cj:=ak n;obtain⟨V,al,aa,cl⟩:=fY ap aF ax n;clear ap aF ax n o bh hK E O q0 q1 q2 q3 fz bd ad W w x s bp;obtain⟨g0,g1,g2,g3⟩:=V.cells;simp only at g0 g1 g2 g3;have bo:=ak V;cases l with
   |true=>
    go_wp2_with(at_builtin;refine cA _ rfl (.tmp 32) (.tmp 34) 86 rfl (z<|G a) 171 i0 wo 4 48 underlying86 aU ba bb bc rfl (by decide) (.slice nx k nc) k (aK<|(e.take k).map<|jS b) rfl (aT aa<|.cells #[.string g,.string ⟨#[]⟩,.bool ci,.int .u64 b] 171) ⟨z<|G W5,0,none⟩ 1 1 (aK [⟨g,⟨#[]⟩,ci,b⟩]) rfl rfl (wK _ ⟨g,⟨#[]⟩,ci,b⟩ _) (BR _) (by omega) (by omega) (by have:=al.size;simp;omega) ?_;intro v7 w7 C K;have u:=U C;have an:=U K;clear C K)
    obtain⟨x7,c7,aV⟩:=aB u;subst aV;go_roundw;case rel=>
     refine⟨k+1,A,by go_num,?_,?_⟩
     .rw[J bg,fW];exact u
     .exact(al.alloc _).trans (Z.ee (S:=λq=>cK (Value.slice nx k nc)=H q) an.grown<|λq D=>.inl D)<|λq D=>.inr (aa.lt q D).1
    case measure=>simp[intOf];omega
   |false=>
    go_wp2_with fail
    apply(bn _).mono;rintro ch w6⟨rfl,bl⟩;have F:Z (λ_=>False) W5 w6:=Z.aR bl;have t:iM w6 c ⟨g,⟨#[]⟩,aX,b⟩:=(F.block _ bo id).trans V;have bu:z (G a)<=c:=br;have bk:=(al.cz F).setCell c 1 (.string p)<|.inr br;have bi:=(((F.mono (T:=λq=>q=c) cL).setCell c 1 (.string p)<|.inl rfl)).own aa<|λq D d=>bT (by rw[<-d];exact D);obtain⟨h0,h1,h2,h3⟩:=t.cells;simp only at h0 h1 h2 h3;have cp:w6.frozen? ⟨c,1,none⟩=aX:=by unfold iM at t;simp[World.frozen?,t]
    have cr:=ak t;have au:=U bk;have L:=U bi;clear t bk bi F bl g0 g1 g2 g3 d0 d1 d2;go_wp2_with(at_builtin;refine cA _ rfl (.tmp 32) (.tmp 34) 86 rfl (z<|G a) 171 i0 wo 4 48 underlying86 aU ba bb bc rfl (by decide) (.slice nx k nc) k (aK<|(e.take k).map<|jS b) rfl (aT L<|.cells #[.string g,.string p,.bool aX,.int .u64 b] 171) ⟨z<|G w6,0,none⟩ 1 1 (aK [⟨g,p,aX,b⟩]) rfl rfl (by have D:=wK (cq w6 ⟨c,1,none⟩<|.string p) ⟨g,p,aX,b⟩ 171;rwa[gP]at D) (BR _) (by omega) (by omega) (by have:=au.size;simp;omega) ?_;intro v7 w7 C K;have u:=U C;have an:=U K;clear C K)
    obtain⟨x7,c7,aV⟩:=aB u;subst aV;go_roundw;case rel=>
     refine⟨k+1,A,by go_num,?_,?_⟩
     .rw[J bg,fW];exact u
     .exact(au.alloc _).trans (Z.ee (S:=λq=>cK (Value.slice nx k nc)=H q) an.grown<|λq D=>.inl D)<|λq D=>.inr (L.lt q D).1
    case measure=>simp[intOf];omega
  .have e1:¬(k:X)<(y e:X):=by omega
   have c:k=y e:=by omega
   obtain⟨g,f,HO,HT⟩:=fY (show aK (e.map<|jS b)=aK ((e.take k).map<|jS b)by rw[c,bI]) c ho E;clear ho E c;go_wp2;go_ret;exact⟨_,rfl,by rw[J g,<-J f];exact HO,HT⟩
def Do(w:Y)(v:ab)(a:oa):Prop:=(Gv w v a/\∀k,cK v=H k->k<z (G w))\/(a=[]/\∃(b:Addr)(c:M),v=I (H b) 0 c)
def yP{c:oa}(i:Do a d c):∃x g,d=I x (y c) g:=by
 rcases i with⟨⟨k,⟨f,j⟩|⟨h,e,b,f,_⟩⟩,_⟩|⟨rfl,l,g,rfl⟩;grind
 grind
 simp_all
def Do.aj{S:eV}{w w':Y}{e:oa}(h:Do w d e)(g:Z S w w')(j:∀k,k<z (G w)->¬S k):Do w' d e:=by
 rcases h with⟨h,c⟩|h;exact .inl ⟨g.row h<|λk a=>⟨j k<|c k a,c k a⟩,λk a=>ag (c k a) g.size⟩;exact .inr h
def Ji(x:Option Addr)(c:M)(w:Y):cY aZ 32 #[I x 0 c] w λe b=>e=aM (ui<|ga [])/\Z ay w b:=by
 go_in
 go_wp2;go_loopw [11] (λi wr=>i=ar 0/\wr=w) (λ_ _=>0)
 case atStart=>grind
 (case round=>obtain⟨rfl,a⟩:=hrel;subst wr;go_wp2;go_ret;exact⟨rfl,Z.refl _ _⟩)
def Vo{b:oa}(e:Do a d b)(f:y b<=1000000000000)(g:∀x∈b,x.key.size<=140737488351232/\x.val.size<=140737488351232):cY aZ 32 #[d] a λi h=>i=aM (ui<|ga b)/\Z ay a h:=by
 rcases e with⟨j,c⟩|⟨rfl,k,d,rfl⟩;exact LH j c f g;exact Ji _ _ _
def Kt(x:Option Addr)(c:M)(w:Y):cY aZ 41 #[I x 0 c] w λe b=>∃a,e=aM a/\Nk b (z<|G w) a []/\Below (z<|G w) w b:=by
 go_in
 go_wp2;go_loopw [3,4] (λo i wr=>i=ar 0/\o=az/\wr=w) (λ_ _ _=>0)
 case atStart=>grind
 (case round=>obtain⟨rfl,rfl,rfl⟩:=hrel;go_wp2;go_ret;exact⟨_,rfl,cO _ _ _ _,Below.refl _ _⟩)
def PJ{l:oa}(f:y l<=1000000000000)(g:Do a d l):cY aZ 41 #[d] a λh c=>∃b,h=aM b/\Nk c (z<|G a) b l/\Below (z<|G a) a c:=by
 rcases g with⟨i,e⟩|⟨rfl,j,k,rfl⟩;exact NA l d a f i e;exact Kt _ _ _
def JG(A:Option Addr)(s:M)(a:X)(w:Y):cY aZ 72 #[I A 0 s,.int .u64 a] w λt o=>∃n,t=aM n/\o.ownsRow (z<|G w) 171 4 n 0 []/\Z ay w o:=by
 obtain⟨r,f,j,k,l⟩:=di mZ;go_in
 go_wp2_with(at_make;refine kr _ rfl _ _ 86 rfl (z<|G w) 171 r wo 4 underlying86 f j k _ _ _ 0 rfl rfl rfl (by rw[l];omega) (by unfold maxLen;omega) (ah _) ?_;intro x c b;have d:=U c;have e:=U b;clear c b)
 go_loopw [5,14] (λb i wr=>i=ar 0/\wr.ownsRow (z<|G w) 171 4 b 0 []/\Z ay w wr) (λ_ _ _=>0)
 case atStart=>exact⟨rfl,d,Z.ee e<|by simp⟩
 (case round=>obtain⟨rfl,i,m⟩:=hrel;obtain⟨v,u,g⟩:=aB i;subst g;have p:=U i;have q:=U m;clear i m;go_wp2;go_ret;exact⟨_,rfl,p,q⟩)
def Wh{c:oa}(b:X)(h:Do a d c)(i:y c<=1000000)(j:∀x∈c,x.key.size<=140737488351232/\x.val.size<=140737488351232):cY aZ 72 #[d,.int .u64 b] a λk f=>∃e,k=aM e/\f.ownsRow (z<|G a) 171 4 e (y c) (aK<|c.map<|jS b)/\Z ay a f:=by
 rcases h with⟨l,g⟩|⟨rfl,m,d,rfl⟩;exact MD b l g i j;exact JG _ _ _ _
structure DC where
 kd:X
 L:ab
 cs:oa
def DC.cells(o:DC):gW:=[ar o.kd,o.L]
def rJ(a:cJ DC):gW:=a.flatMap DC.cells
def sH(a:cJ DC)(i:M)(h:i<y a)(j:M)(b:j<2):(rJ a)[i*2+j]?=a[i].cells[j]?:=by
 induction a generalizing i with
 |nil=>simp at h
 |cons o a d=>
  have e:rJ (o::a)=o.cells++rJ a:=rfl;have c:y o.cells=2:=rfl;grind
def Kl(a:oa):M:=(a.map<|λc=>1+c.key.size+c.val.size).sum
def D8(o:DC):M:=Kl o.cs
def DD(a:cJ DC):M:=(a.map D8).sum
structure yB(w:Y)(v:ab)(os:cJ DC):Prop where
 row:Row w 2 v (y os) (rJ os)
 MP:∀o∈os,Do w o.L o.cs
 lt:∀k,cK v=H k->k<z (G w)
 F2:∀o∈os,∀c∈o.cs,c.key.size<=140737488351232/\c.val.size<=140737488351232
 len:y os<=10000000000000
 lens:∀o∈os,y o.cs<=10000000000000
def Ug(a:oa)(k:M)(h:k<y a):Kl (a.take<|k+1)=Kl (a.take k)+(1+a[k].key.size+a[k].val.size):=by
 unfold Kl;rw[ai h,aP,fw];simp
def Kk(a:cJ DC)(i:M)(h:i<y a):DD (a.take<|i+1)=DD (a.take i)+D8 a[i]:=by
 unfold DD;rw[ai h,aP,fw];simp
def Zg(a:oa)(k:M):Kl (a.take k)<=Kl a:=by
 unfold Kl;grind[take_append_drop]
def Uf(a:cJ DC)(k:M):DD (a.take k)<=DD a:=by
 unfold DD;grind[take_append_drop]
def NK(ba g aV:M)(b:cJ DC)(h:yB a (bD ba g (y b) aV) b):cY aZ 8 #[bD ba g (y b) aV] a λbd w'=>bd=aM (aN<|decide<|y b+DD b<=1048576)/\∃q,w'=a.drewN q:=by
 by_cases aF:1048576<y b;(·(have e1:(1048576:X)<(y b:X):=by omega);(have V:decide (y b+DD b<=1048576)=aX:=by simp;omega);rw[V];clear h;(go_in);go_wp2;go_ret;exact⟨rfl,0,rfl⟩);(·(have e1:¬((1048576:X)<(y b:X)):=by omega);(have m:∀W:Y,W.heap=a.heap->∀k(hi:k<y b),aW W (R ba<|g+k*2+1)=H b[k].L:=λW l k hi=>by obtain⟨o,⟨S,n⟩|⟨i,e,d,S,f,j⟩⟩:=h.row;cases S;(have c:∀j u,(rJ b)[j]?=H u->aW W (R ba<|g+j)=H u:=λj u a=>by grind[World.cell?_of_block]);rw[bw];exact c _ _<|(sH b k hi 1<|by omega).trans rfl);have w:=U m;have HS:=U h;clear h m;(go_in);(go_wp2_with fail);(go_loopw [3,4] (λnv c wr=>∃k:M,k<=y b/\c=ar k/\nv=ar (y b+DD (b.take k):M)/\y b+DD (b.take k)<=1048576/\∃q,wr=a.drewN q) (λ_ c _=>y b-(intOf c).toNat));(case atStart=>exact⟨0,bP _,rfl,by simp[DD],by simp[DD];omega,0,rfl⟩);(case round=>obtain⟨k,hi,rfl,rfl,u,q,rfl⟩:=hrel;by_cases r:k<y b;(.have i:=aq r;have c5:=w a rfl k r;have A:=HS.F2 _ i;have n:=HS.MP _ i;have ao:=HS.lens _ i;have Q:=Kk b k r;have O:=Uf b<|k+1;have B:D8 b[k]=Kl b[k].cs:=rfl;have ap:∃x lc,b[k].L=I x (y b[k].cs) lc:=yP n;obtain⟨lx,lc,hL⟩:=ap;rw[hL]at c5 n;generalize b[k]=bf at*;obtain⟨bc,oL,c⟩:=bf;simp only at c5 A n ao B hL;obtain⟨j,hM⟩:∃j,y b+DD (b.take k)=j:=⟨_,rfl⟩;rw[hM]at u|-;(have e2:(k:X)<(y b:X):=by omega);(have e3:(0:X)<=(k:X):=by omega);obtain⟨F,E,K,HM,ac,W⟩:=lf Q O B hM A n;clear Q O B hM A n i;(go_wp2_with fail);(go_loopw [3,5] (λnv b wr=>∃l:M,l<=y c/\b=ar l/\nv=ar (j+Kl (c.take l):M)/\(0<l->j+Kl (c.take l)<=1048576)/\∃q,wr=a.drewN q) (λ_ b _=>y c-(intOf b).toNat));(case atStart=>exact⟨0,bP _,rfl,by simp[Kl],λaV=>absurd aV (by omega),q,rfl⟩);(case round=>obtain⟨l,hk,rfl,rfl,f,S,rfl⟩:=hrel;by_cases d:l<y c;(·(have hx:∃D e,lx=H (R D e)/\aW a (R D<|e+l*3)=H (am c[l].key)/\aW a (R D<|e+l*3+1)=H (am c[l].val):=by rcases J W with⟨⟨z1,⟨z2,z0⟩|⟨D,e,au,z2,aU,ad⟩⟩,_⟩|⟨z3,_⟩;omega;cases z2;obtain⟨w1,w2,_⟩:=lE c l d;exact⟨D,e,rfl,ad _ _ w1,by rw[bw];simp_all⟩;rw[z3]at d;simp at d);obtain⟨D,e,N,d0,d1⟩:=hx;subst N;have an:=ac _<|aq d;have p:=Ug c l d;have x:=Zg c<|l+1;obtain⟨s,t⟩:∃s,c[l].key.size=s:=⟨_,rfl⟩;obtain⟨C,v⟩:∃C,c[l].val.size=C:=⟨_,rfl⟩;rw[t,v]at an p;obtain⟨P,o⟩:∃P,j+Kl (c.take l)=P:=⟨_,rfl⟩;rw[o]at f|-;(have bb:P<=281474977759232:=by rcases l with _|l;simp[Kl]at o;omega;have:=f (by omega);omega);generalize c[l]=cc at*;obtain⟨ax,aD,av⟩:=cc;simp only at d0 d1 t v;(have b1:IntKind.i64.wrap ((P:X)+1)=(P:X)+1:=by rw[bN];omega);(have b2:IntKind.i64.wrap ((P:X)+1+(s:X))=(P:X)+1+s:=by rw[bN];omega);(have b3:IntKind.i64.wrap ((P:X)+1+(s:X)+(C:X))=(P:X)+1+s+C:=by rw[bN];omega);(have f1:(l:X)<(y c:X):=by omega);(have f0:(0:X)<=(l:X):=by omega);obtain⟨HP,aa,Cq⟩:=dz o p x;by_cases al:1048576<P+1+s+C;(·(have V:decide (y b+DD b<=1048576)=aX:=by have T:=J F;have L:=J E;have h3:=J K;have h4:=J HM;simp;omega);(have f2:(1048576:X)<(P:X)+1+s+C:=by omega);clear o p x f;(go_wp2_with fail);(go_quiet(fail));go_wp2;go_ret;exact⟨(by simp_all),_,rfl⟩);(·(have f2:¬((1048576:X)<(P:X)+1+s+C):=by omega);clear o p x f;(go_wp2_with fail);(go_quiet(fail));rename_i ad;go_wp2;go_roundw;(case rel=>have T:=J HP;have L:=J aa;refine⟨l+1,d,by go_num,?_,λ_=>by omega,_,rfl⟩;rw[L];congr 1;omega);case measure=>simp[intOf];omega));(·(have e:l=y c:=by omega);subst e;rw[bI]at f|-;obtain⟨P,o⟩:∃P,j+Kl c=P:=⟨_,rfl⟩;rw[o]at f|-;(have f1:¬((y c:X)<(y c:X)):=by omega);have T:=J F;have L:=J E;have h3:=J K;have h4:=J HM;by_cases al:1048576<P;(·(have V:decide (y b+DD b<=1048576)=aX:=by simp;omega);(have f2:(1048576:X)<(P:X):=by omega);clear T L h3 h4 o f;go_wp2;go_ret;exact⟨(by simp_all),S,rfl⟩);(·(have f2:¬((1048576:X)<(P:X)):=by omega);(have s:y b+DD (b.take<|k+1)=P:=by omega);have p:=U s;clear T L h3 h4 o f s;go_wp2;go_roundw;(case rel=>exact⟨k+1,r,by go_num,by rw[J p],by rw[J p];omega,S,rfl⟩);case measure=>simp[intOf];omega))));(have c:k=y b:=by omega);subst c;rw[bI]at u|-;(have e2:¬((y b:X)<(y b:X)):=by omega);(have V:decide (y b+DD b<=1048576)=ci:=by grind);go_wp2;go_ret;exact⟨rfl,q,rfl⟩))
def NJ(x:Option Addr)(d:M)(w:Y):cY aZ 8 #[I x 0 d] w λe c=>e=aM (aN ci)/\c=w:=by
 go_in
 go_wp2;go_loopw [3,4] (λb a wr=>b=ar 0/\a=ar 0/\wr=w) (λ_ _ _=>0)
 case atStart=>exact⟨rfl,rfl,rfl⟩
 (case round=>obtain⟨rfl,rfl,rfl⟩:=hrel;go_wp2;go_ret;exact⟨rfl,rfl⟩)
