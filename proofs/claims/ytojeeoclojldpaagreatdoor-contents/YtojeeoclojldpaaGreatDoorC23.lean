import Derived.Test.YtojeeoclojldpaaGreatDoorC7
import Derived.Test.YtojeeoclojldpaaGreatDoorC10
import Derived.Test.YtojeeoclojldpaaGreatDoorC11
import Derived.Test.YtojeeoclojldpaaGreatDoorC20
open _root_ renaming List.length→y,Option.some→H,Array.size→z,Go.World.heap→G,Go.Value.ownBlock→bV,Go.World.cell?→aT,Go.World.setCell→bZ,Go.World.alloc→ct,Bool.false→bF,Bool.true→bW,Nat→M,Int→Z,List→cr,Go.Calls→cy,Go.undef→iB,Go.Proofs.Tryz.prog→bG,Go.Value.slice→J,Go.Value.string→ai,Go.Value.bool→aL,Go.Value.tuple→dB,Go.Value.agg→eC
namespace Go.Proofs.YtojeeoclojldpaaGreatDoor
open ChangeShapes WideShapes RowKit Proofs.Tryz
set_option maxHeartbeats 16000000
set_option linter.all false
set_option maxRecDepth 100000
variable{a:I}{b c g l:M}{d s N:aa}{e L:cA}{i p t u:cP}{j:DK}{k:dW}{m F:Z}{o:eI}{r:jj}{w:E}{D:Bool}{T:Type}{V:Array aa}
def zi{c:Func}{E Q:Tmp}(S:c.results=#[.cell E 107,.tmp Q])(a:Array aa)(w:I)(g:M)(e f h i:aa)(O:TypeId)(d:M×M)(r:a.getD E iB=aA g)(p:w.heap[g]?=H (ar #[e,f,h,i] O d))(j:∃x n k,e=J x n k)(l:∃x n k,f=J x n k)(m:∃x n k,h=J x n k)(o:∃x n k,i=J x n k):(results c a).run bG w=.ok (dB #[eC #[e,f,h,i],a.getD Q iB]) w:=by
 obtain⟨F,A,s,rfl⟩:=j;obtain⟨K,B,t,rfl⟩:=l;obtain⟨L,C,u,rfl⟩:=m;obtain⟨N,D,v,rfl⟩:=o;have b:a[E]?.getD iB=aA g:=by simpa using r
 have q:=mL (P:=bG) w g O 107 #[J F A s,J K B t,J L C u,J N D v] d _ p underlying107 rfl (by kernel_rfl);simp[results,S,b,asAddr,q,Result.andThen]
def NJ{e f g h a' b' c' d':aa}{t:TypeId}{c:M×M}(j:a.heap[b]?=H (ar #[e,f,g,h] t c)):(bZ (bZ (bZ (bZ a (R b 0) a') (R b 1) b') (R b 2) c') (R b 3) d').heap[b]?=H (ar #[a',b',c',d'] t c):=by
 have d:=aR (i:=3) (u:=d')<|aR (i:=2) (u:=c')<|aR (i:=1) (u:=b')<|aR (i:=0) (u:=a') j;rw[d];simp
def Si(b0 j g:M)(x1 A B:Option Addr)(n1 w x c1 c2 c3:M)(d:cP)(V W:cP)(ch:Row a 1 (bD b0 j (y d) g) (y d) (d.map bJ.ptr))(al:b0<b/\¬r.F b0)(cM:∀ex∈d,nE r b ex.tb ex.ks ex.cs a)(h1:sh r b (J x1 n1 c1) i a)(ec:Row a 1 (J A w c2) (y V) (V.map bJ.ptr))(ed:Row a 1 (J B x c3) (y W) (W.map bJ.ptr))(bT:∀k,bV (J A w c2)=H k->k<b/\¬r.F k)(ca:∀k,bV (J B x c3)=H k->k<b/\¬r.F k)(hD:r.D a)(o:b<=z (G a))(hF:∀k,r.F k->k<b)(hT:Steps a)(dm:1<b/\¬r.F 1)(bo:y d+y i+y V+y W<=1000000)(t:eI)(mx:Option Addr)(mc:M)(hm:Row a 1 (J mx (y t) mc) (y t) (t.map<|Value.int .u64))(bl:∀k,bV (J mx (y t) mc)=H k->k<b/\¬r.F k)(dT:y t<=4)(c:Bool)(bq:c=(V.isEmpty&&W.isEmpty))(hs:dQ (df<|cg i::d.map bJ.all))(hg:∀fn∈df (cg i::d.map bJ.all),fn.Good)(hl:y (df<|cg i::d.map bJ.all)<=1000000):cy bG 119 #[eC #[bD b0 j (y d) g,J x1 n1 c1,J A w c2,J B x c3],ap 0,J mx (y t) mc] a λD N=>∃K bs C,∃e:cP,D=aO (dB #[eC #[aK,J K bs C,J A w c2,J B x c3],.nilIface])/\N.ownsRow (z<|G a) 224 1 (J K bs C) (y e) (e.map bJ.ptr)/\e.map bJ.all=iz (rC t c d i)/\uy N (z<|G a) e/\r.D N/\Y r.F a N:=by
 have hW:Y aB a (ct (ct a<|ar #[bD b0 j (y d) g,J x1 n1 c1,J A w c2,J B x c3] 107)<|ar #[aK,aK,aK,aK] 107):=((Y.refl _ a).alloc _).alloc _;generalize bk:ct (ct a<|ar #[bD b0 j (y d) g,J x1 n1 c1,J A w c2,J B x c3] 107) (ar #[aK,aK,aK,aK] 107)=bx at hW;have bi:bx.heap[z<|G a]?=H (ar #[bD b0 j (y d) g,J x1 n1 c1,J A w c2,J B x c3] 107 (0,0)):=by rw[<-bk];exact(fX _<|by simp).trans<|aD _ rfl
 have cT:bx.heap[z (G a)+1]?=H (ar #[aK,aK,aK,aK] 107 (0,0)):=by rw[<-bk];exact aD _<|by simp
 have ax:∀u,Y aB a u->jz r b aB a u:=λu ht=>ht.same o cG cG;have ce:∀k,b<=k->¬r.F k:=λk n cE=>by have:=hF k cE;omega
 have dx:∀u,Y r.F bx u->Dd u (z<|G a) 0 [(bD b0 j (y d) g,d),(J x1 n1 c1,i),(J A w c2,V),(J B x c3,W)]:=by
  intro u ao;have L:∀cm c,Row a 1 cm (y c) (c.map bJ.ptr)->(∀k,bV cm=H k->k<b/\¬r.F k)->Row u 1 cm (y c) (c.map bJ.ptr):=λcm c hr n=>
   ao.row (hW.row hr<|λk D=>⟨id,ag (n k D).1 o⟩) (λk D=>⟨(n k D).2,ag (n k D).1<|aE o hW.size⟩)
  have hz:z (G a)<=z (G u):=aE hW.size ao.size;have cj:=(ao.block _ (ak bi)<|ce _ o).trans bi;have f:∀S cm,(#[bD b0 j (y d) g,J x1 n1 c1,J A w c2,J B x c3]:Array aa)[S]?=H cm->aT u (R (z<|G a)<|0+S)=H cm:=by
   intro S cm hv;rw[bN cj,cQ];exact hv
  refine⟨rfl,λS P=>?_,λS P=>?_,λS P k n=>?_,by simp[ma];omega⟩
  .match S,P with
   |0,_=>exact f 0 _ rfl
   |1,_=>exact f 1 _ rfl
   |2,_=>exact f 2 _ rfl
   |3,_=>exact f 3 _ rfl
  .match S,P with
   |0,_=>exact L _ _ ch (λk D=>by cases D;exact al)
   |1,_=>exact L _ _ h1.row<|λk D=>h1.loc k D
   |2,_=>exact L _ _ ec bT
   |3,_=>exact L _ _ ed ca
  .match S,P with
   |0,_=>cases n;exact ag al.1<|aE o hz
   |1,_=>exact ag (h1.loc k n).1<|aE o hz
   |2,_=>exact ag (bT k n).1<|aE o hz
   |3,_=>exact ag (ca k n).1<|aE o hz
 have E:∀u,Y r.F bx u->cy bG 178 #[aA<|z<|G a,ap 2] u λD N=>D=aO (aL c)/\N=u:=by intro u ao;have h:=Cm (w:=u) (lb:=z<|G a) (lo:=0) 2 _ (dx _ ao) (by omega);(have L:jV [(bD b0 j (y d) g,d),(J x1 n1 c1,i),(J A w c2,V),(J B x c3,W)] 2=c:=by rw[bq];simp[jV]);rw[L]at h;exact h
 have au:∀q,cy bG 177 #[bD b0 j (y d) g,J x1 n1 c1] (bx.drewN q) λD N=>∃c,D=aO (dB #[c,.nilIface])/\N.ownsRow (z<|G bx) 164 4 c (y<|df<|cg i::d.map bJ.all) (aF<|df<|cg i::d.map bJ.all)/\r.D N/\Y r.F (bx.drewN q) N:=by intro q;have L:Y aB a (bx.drewN q):=hW.of_heap rfl;have bo:=ax _ L;refine Es b b0 j g (J x1 n1 c1) d i ?_ al (λex ht=>(cM ex ht).same bo) (by omega) (h1.same bo) (r.fi hD L cG) (aE o L.size) hF hl;intro S P;obtain⟨_,⟨cE,_⟩|⟨b',ev,cj,cE,_,hc⟩⟩:=ch.same bo (λk D=>by cases D;exact al);cases cE;cases cE;refine hc S _ ?_;rw[dz,aG P];rfl
 have db:=GL (V:=r) (W:=bx) (ms:=t) (mx:=mx) (mc:=mc) (df<|cg i::d.map bJ.all) (hW.row hm<|λk D=>⟨id,ag (bl k D).1 o⟩) (λk D=>⟨ag (bl k D).1<|aE o hW.size,(bl k D).2⟩) dT hs hl;have dd:∀u,Y r.F bx u->Steps u:=λu ht k n=>ht.cell (hW.cell (hT k n) id hT.lt) dm.2<|ag hT.lt hW.size;have dk:dQ (rC t c d i)/\rN 5 (rC t c d i)/\(∀fn∈rC t c d i,fn.Good)/\y (rC t c d i)<=1000000:=sS hs hg hl dT;obtain⟨cn,co,bt,ei,bb,cu,ad,HW,bv⟩:=xG bi cT E au db dd dk hW ce;have eq:∀e:cP,e.map bJ.all=iz (rC t c d i)->y e<=100000000:=by intro e h;have:=bU y h;rw[cU]at this;have:=xu<|rC t c d i;omega
 have el:=U bk;have fk:=hW.size;have ea:rC t c d i=if c then jh (eE t<|df<|cg i::d.map bJ.all)else eE t (df<|cg i::d.map bJ.all):=rfl;have bd:=U ea;clear ch al cM h1 ec ed bT ca hD hF hT dm bq hg hl hs hm bl bi cT ax dx E au db dd dk hW ce bk ea;generalize df (cg i::d.map bJ.all)=ML at*;generalize rC t c d i=cB at*;go_in
 go_wp2_with fail
 go_quiet(fail)
 rw[ae el];have au:=ei nq;go_wp2_with fail
 apply au.mono;rintro D X⟨et,rfl,v,an,Q⟩;have l:Y r.F bx X:=(ia r.F bx nq).trans Q<|λ_ h=>.inl h;obtain⟨s,p,rfl⟩:=aC v;have eb:=bb.1 X _ s p l v;have ac:=U an;have bg:=U l;clear v an Q l au;go_wp2_with fail
 apply eb.mono;rintro D w2⟨vn,rfl,bn,ck⟩;have ba:Y r.F bx w2:=bg.ci ck;have dc:=r.fi ac ck cG;obtain⟨xn,eu,rfl⟩:=aC bn;have E:=bt w2 ba;have cc:=bb.2 w2 _ xn eu bn;have ee:=bg.size;obtain⟨bc,O,bu⟩:=dC dc ba bn;clear bn dc ba ck eb;cases c;(case' false=>obtain rfl:cB=eE t ML:=ae bd;clear cc bb bd;(go_wp2_with fail);apply E.mono;rintro D cl⟨rfl,es⟩;subst cl;clear E;obtain⟨bf,bh,cp⟩:=dC (eQ (base':=z<|G a) bu<|by omega) O bc;clear O bc bu bg ac bt;generalize w2=w3 at*);(case' true=>obtain rfl:cB=jh (eE t ML):=ae bd;(go_wp2_with fail);apply E.mono;rintro D cl⟨rfl,es⟩;subst cl;(go_wp2_with fail);apply cc.mono;rintro D w3⟨vb,rfl,L,cj⟩;obtain⟨xn,eu,rfl⟩:=aC L;obtain⟨bf,bh,cp⟩:=dC (eQ (base':=z<|G a) L (by have:=O.size;omega)) (O.ci cj)<|r.fi bc cj cG;clear L cj E cc O bc bu bg ac bt bb bd ee)
 all_goals
  have en:=yQ (dH bf) ad.1 ad.2.1 ad.2.2.1 ad.2.2.2 (λk n=>(bf.lt k n).2)<|cu w3 bh;clear bf cu ad;go_wp2_with fail
  apply en.mono;rintro D X⟨et,e,rfl,v,cb,bm,Q⟩;have l:Y r.F bx X:=bh.ci Q;have an:=r.fi cp Q cG;have ff:=bh.size;obtain⟨s,p,rfl⟩:=aC v;have dn:=(l.block _ (ak cn)<|bv _ o).trans cn;have ds:=(l.block _ (ak co)<|bv _<|by omega).trans co;have fe:=l.size;have bm:=bm.base (base':=z<|G a) (by omega);have hC:cy bG 117 #[bD (z<|G X) 0 3 3] (ct X<|ar #[aK,J s (y e) p,aK] 105) λD N=>∃v',D=aO v'/\N.ownsRow (z<|G a) 224 1 v' (y e) (e.map bJ.ptr)/\Y aB X N:=by
   have f:∀S cm,(#[J none 0 0,J s (y e) p,aK]:Array aa)[S]?=H cm->aT (ct X<|ar #[aK,J s (y e) p,aK] 105) (R (z<|G X)<|0+S)=H cm:=by
    intro S cm hv;rw[bN<|aD _ rfl,cQ];exact hv
   have eo:Row (ct X<|ar #[aK,J s (y e) p,aK] 105) 1 (J s (y e) p) (y e) (e.map bJ.ptr):=dH<|aS v _;have h:=tq (z<|G X) 0 3 [(J none 0 0,[]),(J s (y e) p,e),(J none 0 0,[])] (ct X<|ar #[aK,J s (y e) p,aK] 105) ?_ (by simp) ?_ ?_ (by simp) (by simp[ma];exact eq e cb)
   .have e1:ma [(J none 0 0,[]),(J s (y e) p,e),(J none 0 0,[])]=y e:=by simp[ma]
    have e2:qc [(J none 0 0,[]),(J s (y e) p,e),(J none 0 0,[])]=e.map bJ.ptr:=by simp[qc]
    rw[e1,e2]at h;apply h.mono;rintro D N⟨v',rfl,ho,ht⟩;exact⟨v',rfl,eQ ho (by simp;omega),((Y.refl aB X).alloc _).ci ht⟩
   .intro S P;match S,P with
    |0,_=>exact f 0 _ rfl
    |1,_=>exact f 1 _ rfl
    |2,_=>exact f 2 _ rfl
   .intro S P;match S,P with
    |0,_=>exact⟨rfl,.inl ⟨rfl,rfl⟩⟩
    |1,_=>exact eo
    |2,_=>exact⟨rfl,.inl ⟨rfl,rfl⟩⟩
   .intro S P k n;match S,P with
    |0,_=>cases n
    |1,_=>have:=(aI v k n).2;simp;omega
    |2,_=>cases n
  obtain⟨ej,ac,ek,eg,cv,cx⟩:=kG bm an l cb dn ds;clear v cb bm an Q l dn ds;go_wp2_with fail
  apply hC.mono;rintro D w2⟨fl,rfl,av,F⟩;obtain⟨K,C,rfl⟩:=aC av;have As:=(F.block _ (ak cv) id).trans cv;have m:=(F.block _ (ak cx) id).trans cx;have p0:=cellAt As 0 rfl;have p1:=cellAt As 1 rfl;have p2:=cellAt As 2 rfl;have p3:=cellAt As 3 rfl;have f0:=dK (i:=0) As;have f1:=dK (i:=1) As;have q0:=cellAt m 0 rfl;have q1:=cellAt m 1 rfl;have q2:=cellAt m 2 rfl;have q3:=cellAt m 3 rfl;have g0:=dK (i:=0) m;have g1:=dK (i:=1) m;have g2:=dK (i:=2) m;have g3:=dK (i:=3) m;obtain⟨fb,O,ey⟩:=dC av F m;have cs:=U (show∀wf,wf=bZ (bZ (bZ (bZ (bZ (bZ w2 (R (z<|G a) 0) aK) (R (z<|G a) 1)<|J K (y e) C) (R (z (G a)+1) 0) aK) (R (z (G a)+1) 1)<|J K (y e) C) (R (z (G a)+1) 2)<|J A w c2) (R (z (G a)+1) 3) (J B x c3)->wf.heap[z (G a)+1]?=H (ar #[aK,J K (y e) C,J A w c2,J B x c3] 107 (0,0))/\wf.ownsRow (z<|G a) 224 1 (J K (y e) C) (y e) (e.map bJ.ptr)/\uy wf (z<|G a) e/\r.D wf/\Y r.F a wf from by
   rintro wf rfl;have hx:((bZ (bZ w2 (R (z<|G a) 0) aK) (R (z<|G a) 1)<|J K (y e) C)).heap[z (G a)+1]?=H (ar #[aK,aK,aK,aK] 107 (0,0)):=(iq _<|by omega).trans<|(iq _<|by omega).trans m;have bp:Y (λk=>k=z (G a)\/k=z (G a)+1) w2 (bZ (bZ (bZ (bZ (bZ (bZ w2 (R (z<|G a) 0) aK) (R (z<|G a) 1)<|J K (y e) C) (R (z (G a)+1) 0) aK) (R (z (G a)+1) 1)<|J K (y e) C) (R (z (G a)+1) 2)<|J A w c2) (R (z (G a)+1) 3)<|J B x c3):=((((((Y.refl _ w2).setCell _ 0 _<|.inl<|.inl rfl).setCell _ 1 _<|.inl<|.inl rfl).setCell _ 0 _<|.inl<|.inr rfl).setCell _ 1 _<|.inl<|.inr rfl).setCell _ 2 _<|.inl<|.inr rfl).setCell _ 3 _<|.inl<|.inr rfl;have em:=NJ (a':=aK) (b':=J K (y e) C) (c':=J A w c2) (d':=J B x c3) hx;generalize bZ (bZ (bZ (bZ (bZ (bZ w2 (R (z<|G a) 0) aK) (R (z<|G a) 1)<|J K (y e) C) (R (z (G a)+1) 0) aK) (R (z (G a)+1) 1)<|J K (y e) C) (R (z (G a)+1) 2)<|J A w c2) (R (z (G a)+1) 3) (J B x c3)=wf at*;have br:∀k,(k=z (G a)\/k=z (G a)+1)->∃ef,w2.heap[k]?=H (ar ef 107 (0,0)):=by
    rintro k(rfl|rfl)
    .exact⟨_,As⟩
    .exact⟨_,m⟩
   refine⟨em,bp.own av<|λk n cE=>?_,?_,r.fi (r.fi ac F cG) bp<|λk n=>bv k (by rcases n with cE|cE<;>omega),?_⟩
   .obtain⟨ef,cd⟩:=br k cE;obtain⟨fd,dv⟩:=fD av n;exact io cd dv (by decide) rfl
   .refine((ej.aw F).other bp<|λk n=>?_).base (by omega);obtain⟨ef,cd⟩:=br k n;exact⟨ef,_,_,cd,by decide,by decide,by decide⟩
   .exact(((HW.mono (T:=r.F) cG).trans ek (λ_ h=>.inl h)).ci F).trans bp (λk n=>.inr (by rcases n with cE|cE<;>omega)))
  clear av F As m hC;go_wp2;obtain⟨r1,r2,r3,r4,r5⟩:=cs _ rfl;refine cI (zi rfl _ _ (z (G a)+1) aK (J K (y e) C) (J A w c2) (J B x c3) _ _ rfl r1 ⟨_,_,_,rfl⟩ ⟨_,_,_,rfl⟩ ⟨_,_,_,rfl⟩ ⟨_,_,_,rfl⟩) rfl ?_;exact⟨K,y e,C,e,rfl,r2,eg,r3,r4,r5⟩
def nD{us ts:cP}(h:us.Sublist ts):(cg us).Sublist (cg ts):=by
 induction h with
 |slnil=>exact ew _
 |cons x _ a=>rw[yA];exact a.trans<|ga _ _
 |cons_cons x _ a=>rw[yA,yA];exact List.Sublist.append (ew _) a
def ly.sub(h:ly p)(a:i.Sublist p):ly i:=⟨λt b=>h.pure t<|a.subset b,h.mq.sub<|nD a,h.CS.sublist<|a.map _⟩
def TY(j:kZ a (bD b c (y i) g) i)(d:y i<=g)(f:l<=y i):kZ a (J (if g=l then H (R b c)else H (R b<|c+l)) (y i-l)<|g-l) (i.drop l):=by
 by_cases h:g=l;(have e:y i=l:=by omega);rw[dw h,<-e,gm,zH,show g-y i=0 by omega];exact j.empty c;rw[cW h];exact j.drop l f
def Wo{w1:I}{ta tbqq:cP}(a:M)(h:kZ w1 d ta)(j:kZ w1 s tbqq)(t:y ta+y tbqq<=10000000)(u:a<=z (G w1))(T:TypeId):cy bG 117 #[bD (z<|G w1) 0 2 2] ((ct w1<|ar #[d,s] T).drew) λq k=>∃g,q=aO g/\k.ownsRow a 224 1 g (y<|ta++tbqq) ((ta++tbqq).map bJ.ptr)/\Y aB w1 k:=by
 have c:Y aB w1 ((ct w1<|ar #[d,s] T).drew):=((Y.refl _ w1).alloc _).of_heap rfl;have b:∀i v,(#[d,s]:Array aa)[i]?=H v->aT ((ct w1<|ar #[d,s] T).drew) (R (z<|G w1)<|0+i)=H v:=by intro i v m;rw[bB,bN<|aD _ rfl,cQ];exact m
 have r:=tq (z<|G w1) 0 2 [(d,ta),(s,tbqq)] ((ct w1<|ar #[d,s] T).drew) ?_ (by simp) ?_ ?_ (by simp) (by simp[ma];omega);(have m:ma [(d,ta),(s,tbqq)]=y (ta++tbqq):=by simp[ma]);(have n:qc [(d,ta),(s,tbqq)]=(ta++tbqq).map bJ.ptr:=by simp[qc]);rw[m,n]at r;apply r.mono;rintro q k⟨g,rfl,o,p⟩;exact⟨g,rfl,eQ o (by simp;omega),c.ci p⟩
 .intro i f;match i,f with
  |0,_=>exact b 0 _ rfl
  |1,_=>exact b 1 _ rfl
 .intro i f;match i,f with
  |0,_=>exact c.row h.row<|λl e=>⟨id,h.lt l e⟩
  |1,_=>exact c.row j.row<|λl e=>⟨id,j.lt l e⟩
 .intro i f l e;match i,f with
  |0,_=>have:=h.lt l e;simp;omega
  |1,_=>have:=j.lt l e;simp;omega
def Wn(f b g:cP)(e:M)(u:Row a 1 d (y f) (f.map bJ.ptr))(j:∀k,bV d=H k->k<z (G a))(v:Row a 1 s (y b) (b.map bJ.ptr))(l:∀k,bV s=H k->k<z (G a))(w:Row a 1 N (y g) (g.map bJ.ptr))(m:∀k,bV N=H k->k<z (G a))(D:y f+y b+y g<=10000000)(E:e<=z (G a))(T:TypeId):cy bG 117 #[bD (z<|G a) 0 3 3] (ct a<|ar #[d,s,N] T) λB q=>∃p,B=aO p/\q.ownsRow e 224 1 p (y<|f++b++g) ((f++b++g).map bJ.ptr)/\Y aB a q:=by
 have i:Y aB a (ct a<|ar #[d,s,N] T):=(Y.refl _ a).alloc _;have c:∀o t,(#[d,s,N]:Array aa)[o]?=H t->aT (ct a<|ar #[d,s,N] T) (R (z<|G a)<|0+o)=H t:=by intro o t r;rw[bN<|aD _ rfl,cQ];exact r
 have C:=tq (z<|G a) 0 3 [(d,f),(s,b),(N,g)] (ct a<|ar #[d,s,N] T) ?_ (by simp) ?_ ?_ (by simp) (by simp[ma];omega);(have r:ma [(d,f),(s,b),(N,g)]=y (f++b++g):=by simp[ma]);(have t:qc [(d,f),(s,b),(N,g)]=(f++b++g).map bJ.ptr:=by simp[qc]);rw[r,t]at C;apply C.mono;rintro B q⟨p,rfl,x,A⟩;exact⟨p,rfl,eQ x (by simp;omega),i.ci A⟩
 .intro o n;match o,n with
  |0,_=>exact c 0 _ rfl
  |1,_=>exact c 1 _ rfl
  |2,_=>exact c 2 _ rfl
 .intro o n;match o,n with
  |0,_=>exact i.row u<|λk h=>⟨id,j k h⟩
  |1,_=>exact i.row v<|λk h=>⟨id,l k h⟩
  |2,_=>exact i.row w<|λk h=>⟨id,m k h⟩
 .intro o n k h;match o,n with
  |0,_=>have:=j k h;simp;omega
  |1,_=>have:=l k h;simp;omega
  |2,_=>have:=m k h;simp;omega
def EU{le:cr (aa×cP)}{eo:aa->aa->Array aa}(ds e j:M)(X xa xd:Option Addr)(gg hP na dx nd dT:M)(bT bf:cP)(h1:sh r c (bD ds e (y i) j) i a)(hz:y i<=j)(ko:0<y i)(h2:sh r c (J X gg hP) p a)(hG:Row a 1 (J xa na dx) (y bT) (bT.map bJ.ptr))(hH:Row a 1 (J xd nd dT) (y bf) (bf.map bJ.ptr))(fd:∀k,bV (J xa na dx)=H k->k<c/\¬r.F k)(fk:∀k,bV (J xd nd dT)=H k->k<c/\¬r.F k)(ll:r.D a)(s:c<=z (G a))(hF:∀k,r.F k->k<c)(ln:Steps a)(hu:1<c/\¬r.F 1)(ms:y i+y p+y bT+y bf<=1000000)(kl:sg p<=1000000000)(d:Bool)(hi:(b=1/\m=1/\F=3/\V=#[J xa na dx,bD ds e (y i) j,J X gg hP,J xd nd dT]/\le=[((J xa na dx:aa),bT),(bD ds e (y i) j,i),(J X gg hP,p),(J xd nd dT,bf)]/\eo=(λmI gg=>#[J xa na dx,mI,gg,J xd nd dT])/\d=bf.isEmpty)\/(b=2/\m=2/\F=4/\V=#[J xa na dx,J xd nd dT,bD ds e (y i) j,J X gg hP]/\le=[((J xa na dx:aa),bT),(J xd nd dT,bf),(bD ds e (y i) j,i),(J X gg hP,p)]/\eo=(λmI gg=>#[J xa na dx,J xd nd dT,mI,gg])/\d=bW))(lr:∀o(hj:o<y i),∀ws:cP,ws.Sublist p->dQ (df<|cg ws::[i[o]].map bJ.all)/\(∀mK∈df (cg ws::[i[o]].map bJ.all),mK.Good)/\y (df<|cg ws::[i[o]].map bJ.all)<=1000000)(Q:eI)(mx:Option Addr)(mc:M)(lo:Row a 1 (J mx (y Q) mc) (y Q) (Q.map<|Value.int .u64))(hD:∀k,bV (J mx (y Q) mc)=H k->k<c/\¬r.F k)(hB:y Q<=4):cy bG 119 #[eC V,ap m,J mx (y Q) mc] a λac t=>∃xl nl hh xm w hk,∃tm:cP,∃o,∃hj:o<y i,∃A q,ac=aO (dB #[eC<|eo (J xl nl hh)<|J xm w hk,.nilIface])/\Fq p (iW i[o].ks) (iT i[o].ks) A q/\t.ownsRow (z<|G a) 224 1 (J xl nl hh) (y<|i.take o++i.drop (o+1)) ((i.take o++i.drop (o+1)).map bJ.ptr)/\t.ownsRow (z<|G a) 224 1 (J xm w hk) (y<|p.take A++tm++p.drop q) ((p.take A++tm++p.drop q).map bJ.ptr)/\tm.map bJ.all=iz (rC Q d [i[o]]<|(p.drop A).take<|q-A)/\uy t (z<|G a) tm/\r.D t/\Y r.F a t:=by
 have hW:Y aB a (ct (ct a<|ar V 107)<|ar #[aK,aK,aK,aK] 107):=((Y.refl _ a).alloc _).alloc _;generalize cs:ct (ct a<|ar V 107) (ar #[aK,aK,aK,aK] 107)=bg at hW;have bd:bg.heap[z<|G a]?=H (ar V 107 (0,0)):=by rw[<-cs];exact(fX _<|by simp).trans<|aD _ rfl
 have hm:bg.heap[z (G a)+1]?=H (ar #[aK,aK,aK,aK] 107 (0,0)):=by rw[<-cs];exact aD _<|by simp
 have cM:∀k,c<=k->¬r.F k:=λk f hg=>by have:=hF k hg;omega
 have fl:∀l,Y r.F bg l->Dd l (z<|G a) 0 le:=by
  intro l O;have ba:∀dn b,Row a 1 dn (y b) (b.map bJ.ptr)->(∀k,bV dn=H k->k<c/\¬r.F k)->Row l 1 dn (y b) (b.map bJ.ptr):=λdn b mo f=>
   O.row (hW.row mo<|λk ac=>⟨id,ag (f k ac).1 s⟩) (λk ac=>⟨(f k ac).2,ag (f k ac).1<|aE s hW.size⟩)
  have hS:z (G a)<=z (G l):=aE hW.size O.size;have P:∀b dn,V[b]?=H dn->aT l (R (z<|G a)<|0+b)=H dn:=by
   intro b dn kt;refine O.cell ?_ (cM _ s)<|ak bd;rw[bN bd,cQ];exact kt
  rcases hi with⟨_,_,_,rfl,rfl,_⟩|⟨_,_,_,rfl,rfl,_⟩;all_goals
   refine⟨rfl,λb hi=>?_,λb hi=>?_,λb hi k f=>?_,by simp[ma];omega⟩
   .match b,hi with
    |0,_|1,_|2,_|3,_=>exact P _ _ rfl
   .match b,hi with
    |0,_|1,_|2,_|3,_=>first|exact ba _ _ hG fd|exact ba _ _ h1.row h1.loc|exact ba _ _ h2.row h2.loc|exact ba _ _ hH fk
   .match b,hi with
    |0,_|1,_|2,_|3,_=>first|exact ag (fd k f).1 (aE s hS)|exact ag (h1.loc k f).1 (aE s hS)|exact ag (h2.loc k f).1 (aE s hS)|exact ag (fk k f).1<|aE s hS
 have ks:∃S1 S2:I->Prop,(∀l,Y r.F bg l->S1 l/\S2 l)/\(∀g,S1 g->aT g (R (z<|G a) b)=H (bD ds e (y i) j))/\∀g,S2 g->aT g (R (z<|G a)<|b+1)=H (J X gg hP):=by refine⟨_,_,λl O=>?_,λg h=>h,λg h=>h⟩;(have P:∀b dn,V[b]?=H dn->aT l (R (z<|G a) b)=H dn:=by intro b dn kt;refine O.cell ?_ (cM _ s)<|ak bd;rw[bN bd];exact kt);rcases hi with⟨rfl,_,_,rfl,_⟩|⟨rfl,_,_,rfl,_⟩<;>exact⟨P _ _ rfl,P _ _ rfl⟩
 obtain⟨S1,S2,hQ,fb,cu⟩:=ks;have gb:=hW.size;have cn:∀l,Y aB bg l->jz r c aB a l:=λl ht=>(hW.ci ht).same s cG cG;have hR:m=(b:M)/\F=(b+2:M)/\(b=1\/b=2)/\jV le (b+2)=d:=by rcases hi with⟨rfl,rfl,rfl,_,rfl,_,rfl⟩|⟨rfl,rfl,rfl,_,rfl,_,rfl⟩;exact⟨rfl,rfl,.inl rfl,by simp[jV]⟩;exact⟨rfl,rfl,.inr rfl,by simp[jV]⟩
 have bq:∀q,cy bG 173 #[aA<|z<|G a,ap m] (bg.drewN q) λac t=>∃o:M,ac=aO (ap o)/\o<y i/\Y aB bg t:=by intro q;have ba:=ia aB bg q;have hS:=fl _<|ba.mono cG;rw[hR.1];refine(IP (w:=(bg.drewN q)) (z<|G a) 0 b (ts1:=i) (by omega) (by rw[cQ];exact fb _ (hQ _<|ba.mono cG).1) (by rw[cQ];exact cu _ (hQ _<|ba.mono cG).2) hS.lt ((h1.same<|cn _ ba).mem<|aE s gb) ((h2.same<|cn _ ba).mem<|aE s gb) h2.side.An ko kl).mono ?_;rintro ac t⟨o,rfl,hj,mo⟩;exact⟨o,rfl,hj,ba.ci<|Y.aW (S:=aB) mo⟩
 have D:∀l,Y r.F bg l->cy bG 178 #[aA<|z<|G a,ap F] l λac t=>ac=aO (aL d)/\t=l:=by intro l O;have h:=Cm (b+2) le (fl l O) (by omega);rw[hR.2.2.2]at h;rw[hR.2.1];exact h
 clear hR;obtain⟨ej,gi,hV,HC,ip,HW,ch,jC,bl⟩:=xG bd hm D hQ bq hW cM cs cn;obtain⟨H1,H2,HD,HF,HT,en,il,HM,el⟩:=xG h1 h2 ll hF ln hu lr lo hD;clear h1 h2 hG hH fd fk ll hF ln hu lr lo hD bd hm fl bq hW cM cs cn D hQ;rcases hi with⟨rfl,rfl,rfl,rfl,rfl,rfl,eg⟩|⟨rfl,rfl,rfl,rfl,rfl,rfl,eg⟩
 all_goals
  clear eg;simp only[Nat.reduceAdd]at cu;have hd:=U fb;have ce:=U cu;clear fb cu;go_in
  go_wp2_with fail
  go_quiet(fail)
  rw[ae jC];have bq:=ip nq;go_wp2_with fail
  apply bq.mono;rintro ac w1⟨o,rfl,hj,fx⟩;have kf:=hd w1 (HC w1<|fx.mono cG).1;have x:=U fx;clear fx bq;obtain⟨j1,cB⟩:∃j1,o+1=j1:=⟨_,rfl⟩;have e1:(o:Z)+1=(j1:Z):=by omega
  have e2:(o:Z)<=(j1:Z):=by omega
  have e3:(j1:Z)<=(j:Z):=by omega
  have e4:(j1:Z)<=(y i:Z):=by omega
  have e5:(o:Z)<=(j:Z):=by omega
  have e6:¬(j=o):=by omega
  have e7:¬(j-o=0):=by omega
  have e8:IntKind.i64.wrap (j1:Z)=(j1:Z):=by rw[bQ];omega
  have e9:(0:Z)<=(o:Z):=by omega
  have mm:(y i:Z)<=(j:Z):=by omega
  have mn:j1-o=1:=by omega
  have HJ:=U cB;clear cB;have lm:S1 w1.drew:=(HC _<|(x.ci<|cf aB w1).mono cG).1;go_wp2_with fail
  rename_i QQ KK hr;refine cJ S1 21 (by kernel_rfl) ?_;refine dA 0 ?_;iterate 18 (refine fw (v:=?_) lm rfl (by kernel_rfl) jU rfl ?_ ?_;rotate_left;(focus(intro g hX;have z0:=hd g hX;go_simp;try rfl));simp only[Act.put,du,Nat.reduceAdd])
  apply eX;refine aP (i:=18) rfl rfl (by kernel_rfl) ?_;intro jD ad;go_simp;have ev:kZ w1 (bD ds e (y i) j) i:=((H1.same<|bl w1 x).mem<|aE s<|aE gb x.size);have mp:=x.size;have L:=Wo (w1:=w1) (ta:=(i.take o)) (tbqq:=(i.drop j1)) (z<|G a) (ev.take o<|by omega) (TY ev hz (by have:=ae HJ;omega)) (by simp;omega) (by omega) 105;refine ad _ _ (λ_=>?_) ?_
  .exact(HC _<|((x.alloc _).ci<|cf aB _).mono cG).1
  refine aP (i:=19) rfl rfl (by kernel_rfl) ?_;intro jE al;go_simp;apply L.mono;rintro ac u⟨vl,rfl,db,dm⟩;obtain⟨nl,fn⟩:∃nl,y (i.take o++i.drop j1)=nl:=⟨_,rfl⟩;rw[fn]at db;have iu:=U fn;clear fn;obtain⟨xl,hh,rfl⟩:=aC db;have ex:S1 u:=(HC _<|(x.ci dm).mono cG).1;refine al _ _ (λ_=>ex) ?_;refine aP (i:=20) rfl rfl (by kernel_rfl) ?_;intro mb ed;go_simp;refine ed _ _ (λ_=>ex) ?_;refine aP (i:=21) rfl rfl (by kernel_rfl) ?_;intro md ee;go_simp;refine ee _ _ yR ?_;refine dp (by kernel_rfl) ?_ _;show KK _ _;apply hr;generalize(if j=j1 then H ((R ds e):Addr)else H (R ds<|e+j1))=zz at*;have v:Y aB bg u:=x.ci dm;have N:=U v;have hb:=U db;have mA:=v.size;have bo:kZ u (bD ds e (y i) j) i:=((H1.same<|bl u v).mem<|by omega);have ka:kZ u (J X gg hP) p:=((H2.same<|bl u v).mem<|by omega);have kk:=ce u (HC u<|v.mono cG).2;have hp:=bo.cell hj;have cx:∀bg,bg.heap=u.heap->cy bG 175 #[i[o].ptr] bg λac t=>ac=aO (ai<|iW i[o].ks)/\t=bg:=λbg hW=>((bo.each _<|aq hj).of_heap hW).first;have cE:∀bg,bg.heap=u.heap->cy bG 176 #[i[o].ptr] bg λac t=>ac=aO (ai<|iT i[o].ks)/\∃q,t=bg.drewN q:=λbg hW=>((bo.each _<|aq hj).of_heap hW).last;have hy:ds<z (G u):=bo.lt ds rfl;have jI:z (G a)<z (G u):=by have:=ak ej;omega
  have hcut:∀l,Y aB u l->cy bG 174 #[J X gg hP,ai<|iW i[o].ks,ai<|iT i[o].ks] l λac t=>∃va vb vc,ac=aO (dB #[va,vb,vc])/\(∃A q,Fq p (iW i[o].ks) (iT i[o].ks) A q/\kZ t va (p.take A)/\kZ t vb ((p.drop A).take<|q-A)/\kZ t vc (p.drop q)/\(∀k,bV va=H k\/bV vb=H k\/bV vc=H k->bV (J X gg hP)=H k))/\Y aB u t/\S2 t/\aT t (R ds<|e+o)=H i[o].ptr:=by
   intro l ey;refine(Lx (iW i[o].ks) (iT i[o].ks) ((H2.same<|bl l<|v.ci ey).mem (by have:=ey.size;omega)) H2.side.An).mono ?_;rintro ac t⟨A,q,va,vb,vc,rfl,a1,a2,a3,a4,a5,hx⟩;have fv:Y aB u t:=ey.ci<|Y.aW (S:=aB) hx;exact⟨va,vb,vc,rfl,⟨A,q,a1,a2,a3,a4,a5⟩,fv,(HC t<|(v.ci fv).mono cG).2,fv.cell hp id hy⟩
  clear hr ad al ed ee L ev bo ka lm ex kf db dm v;unfold bJ.ptr at hp cx cE hcut;have hc:=U (show∃s1 s2 ao,iW i[o].ks=s1/\iT i[o].ks=s2/\i[o].tb=ao from⟨_,_,_,rfl,rfl,rfl⟩);obtain⟨s1,s2,ao,ck,cl,bc⟩:=ae hc;rw[ck,cl,bc]at hcut;rw[ck,bc]at cx;rw[cl,bc]at cE;rw[bc]at hp;obtain⟨hY,ih,ls⟩:=dC ck cl bc;clear ck cl bc hc;obtain⟨gn,bi,gj⟩:=dC cx cE hcut;clear cx cE hcut;have g1:IntKind.i64.wrap (2:Z)=2:=by rw[bQ];omega
  have g2:IntKind.i64.wrap (3:Z)=3:=by rw[bQ];omega
  have cp:S2 u.drew/\aT u.drew (R ds<|e+o)=H (aA ao):=⟨(HC _<|(N.ci<|cf aB u).mono cG).2,hp⟩;go_wp2_with fail
  rename_i Q6 K6;refine cJ (λg=>S2 g/\aT g (R ds<|e+o)=H (aA ao)) 19 (by kernel_rfl) ?_;refine dA 0 ?_;iterate 7 (refine fw (v:=?_) cp rfl (by kernel_rfl) jU rfl ?_ ?_;rotate_left;(focus(intro g hX;obtain⟨ca,z1⟩:=hX;have z0:=ce g ca;go_simp;try rfl));simp only[Act.put,du,Nat.reduceAdd])
  apply eX;refine dA 8 ?_;iterate 3 (refine fw (v:=?_) cp rfl (by kernel_rfl) jU rfl ?_ ?_;rotate_left;(focus(intro g hX;obtain⟨ca,z1⟩:=hX;have z0:=ce g ca;go_simp;try rfl));simp only[Act.put,du,Nat.reduceAdd])
  apply eX;refine aP (i:=7) rfl rfl (by kernel_rfl) ?_;intro K7 hq;go_simp;apply(gn u.drew rfl).mono;rintro ac W⟨rfl,kx⟩;subst W;refine hq _ _ (λ_=>cp) ?_;refine aP (i:=11) rfl rfl (by kernel_rfl) ?_;intro lt ea;go_simp;apply(bi u.drew rfl).mono;rintro ac W⟨rfl,qq,kx⟩;subst W;refine ea _ _ (λ_=>⟨(HC _<|((N.ci<|cf aB u).ci<|ia aB _ _).mono cG).2,hp⟩) ?_;refine aP (i:=12) rfl rfl (by kernel_rfl) ?_;intro lv eb;go_simp;apply(gj (u.drewN<|1+qq)<|ia _ _ _).mono;rintro ac W⟨va,vb,vc,rfl,kn,fz,bs⟩;refine eb _ _ (λ_=>bs) ?_;refine dA 13 ?_;iterate 4 (refine fw (v:=?_) bs rfl (by kernel_rfl) jU rfl ?_ ?_;rotate_left;(focus(intro g hX;obtain⟨ca,z1⟩:=hX;have z0:=ce g ca;go_simp;try rfl));simp only[Act.put,du,Nat.reduceAdd])
  apply eX;refine aP (i:=17) rfl rfl (by kernel_rfl) ?_;intro lx ec;go_simp;refine ec _ _ (λ_=>bs) ?_;refine aP (i:=18) rfl rfl (by kernel_rfl) ?_;intro jD ad;go_simp;refine ad _ _ (λ_=>bs) ?_;refine aP (i:=19) rfl rfl (by kernel_rfl) ?_;intro jE al;go_simp;refine al _ _ yR ?_;refine dp (by kernel_rfl) ?_ _;show K6 _ _;apply QQ;obtain⟨A,q,hn,es,cm,et,eu⟩:=kn;clear QQ hq ea eb ec ad al bs cp kk hp gn bi gj;obtain⟨lb,jG,hJ⟩:=bM es.row;obtain⟨gf,eq,hK⟩:=bM cm.row;obtain⟨lc,jH,hL⟩:=bM et.row;generalize y (p.take A)=ky at hJ;generalize y ((p.drop A).take<|q-A)=gc at hK;generalize y (p.drop q)=kz at hL;subst hJ;subst hK;subst hL;have C:Y aB bg W:=N.ci fz;have mC:=C.size;have bt:((p.drop A).take<|q-A).Sublist p:=(mW _ _).trans<|kC _ _;have co:=bl W C;obtain⟨fu,hI,dd⟩:=il o hj _ bt;have D:=λl(O:Y r.F W l)=>hV l<|(C.mono (T:=r.F) cG).trans O<|λ_ h=>.inl h;have hC:cy bG 177 #[bD ds (e+o) 1<|j-o,J gf gc eq] W λac t=>∃a,ac=aO (dB #[a,.nilIface])/\t.ownsRow (z<|G W) 164 4 a (y<|df<|cg ((p.drop A).take<|q-A)::[i[o]].map bJ.all) (aF<|df<|cg ((p.drop A).take<|q-A)::[i[o]].map bJ.all)/\r.D t/\Y r.F W t:=by
   have hs:=H1.same co;have kc:=H2.same co;refine Es c ds (e+o) (j-o) (J gf gc eq) [i[o]] ((p.drop A).take<|q-A) ?_ (H1.loc ds rfl) ?_ (by simp) ⟨cm.row,λk f=>H2.loc k<|eu k<|.inr<|.inl f,λnb ht=>kc.each nb<|bt.subset ht,H2.side.sub bt,cm.small⟩ (r.fi HD (HW.ci C) cG) (by omega) HF dd
   .intro b hi;obtain rfl:b=0:=by simp at hi;omega
    exact hs.cell hj
   .intro nb ht;rw[bH]at ht;subst ht;exact hs.each _<|aq hj
  have bx:Y aB a W:=HW.ci C;obtain⟨cb,gv,au,bk,ek⟩:=jP (GL (V:=r) (W:=W) (ms:=Q) (mx:=mx) (mc:=mc) (df<|cg ((p.drop A).take<|q-A)::[i[o]].map bJ.all) (bx.row HM<|λk ac=>⟨id,ag (el k ac).1 s⟩) (λk ac=>⟨by have:=(el k ac).1;omega,(el k ac).2⟩) hB fu dd) (show∀l,Y r.F W l->Steps l fromλl ht k f=>ht.cell ((HT.same co en) k f) en.2 (by have:=en.1;omega)) (show dQ (rC Q d [i[o]]<|(p.drop A).take<|q-A)/\rN 5 (rC Q d [i[o]]<|(p.drop A).take<|q-A)/\(∀mK∈rC Q d [i[o]] ((p.drop A).take<|q-A),mK.Good)/\y (rC Q d [i[o]]<|(p.drop A).take<|q-A)<=1000000 from sS fu hI dd hB) (show rC Q d [i[o]] ((p.drop A).take<|q-A)=if d then jh (eE Q<|df<|cg ((p.drop A).take<|q-A)::[i[o]].map bJ.all)else eE Q (df<|cg ((p.drop A).take<|q-A)::[i[o]].map bJ.all)from rfl) D;clear D fu hI dd bx;generalize jK:df (cg ((p.drop A).take<|q-A)::[i[o]].map bJ.all)=ML at*;clear jK;obtain⟨cj,bp⟩:∃cj,rC Q d [i[o]] ((p.drop A).take<|q-A)=cj:=⟨_,rfl⟩;rw[bp]at au bk;have ha:=U bp;clear bp;obtain⟨hU,bi,gs,jA,dv,it⟩:=kG hn es et C (fz.own hb<|λ_ _ hg=>hg) eu;clear hn es cm et eu C co fz hb;go_wp2_with fail
  apply hC.mono;rintro ac w1⟨la,rfl,E,bn,K⟩;obtain⟨hN,hl,rfl⟩:=aC E;have hE:=cb.1 w1 _ hN hl K E;have bh:=U bn;have x:=U K;clear E bn K hC;go_wp2_with fail
  apply hE.mono;rintro ac u⟨vn,rfl,dc,ax⟩;have bu:Y r.F W u:=x.ci ax;have ho:=r.fi bh ax cG;obtain⟨xn,lg,rfl⟩:=aC dc;have D:=ek u bu;have fe:=cb.2 u _ xn lg dc;have hM:=x.size;obtain⟨cc,N,em⟩:=dC ho bu dc;clear dc ho bu ax hE;cases d;case' false=>
   obtain rfl:cj=eE Q ML:=ae bk;clear fe cb bk;go_wp2_with fail
   apply D.mono;rintro ac ge⟨rfl,kv⟩;subst ge;clear D;obtain⟨cd,bm,gk⟩:=dC (eQ (base':=z<|G W) em<|by omega) N cc;clear N cc em x bh ek;generalize u=w5 at*
  case' true=>
   obtain rfl:cj=jh (eE Q ML):=ae bk;go_wp2_with fail
   apply D.mono;rintro ac ge⟨rfl,kv⟩;subst ge;go_wp2_with fail
   apply fe.mono;rintro ac w5⟨vb,rfl,fs,fL⟩;obtain⟨xn,lg,rfl⟩:=aC fs;obtain⟨cd,bm,gk⟩:=dC (eQ (base':=z<|G W) fs (by have:=N.size;omega)) (N.ci fL)<|r.fi cc fL cG;clear fs fL D fe N cc em x bh ek cb bk hM
  all_goals
   have kq:=yQ (dH cd) au.1 au.2.1 au.2.2.1 au.2.2.2 (λk f=>(cd.lt k f).2)<|gv w5 bm;have kb:=au.2.2.2;clear cd gv au;go_wp2_with fail
   apply kq.mono;rintro ac w4⟨la,tm,rfl,E,cv,cT,ax⟩;have K:Y r.F W w4:=bm.ci ax;have bn:=r.fi gk ax cG;have cT:=cT.base (base':=z<|G W) bm.size;have E:=eQ (base':=z<|G W) E bm.size;have dm:y tm<=1000000:=by
    have h1:=bU y cv;rw[cU]at h1;rw[h1];exact aE (xu _) kb
   rw[<-ae ha]at cv;clear ax;have bb:Y r.F bg w4:=(jA.mono (T:=r.F) cG).trans K<|λ_ h=>.inl h;obtain⟨hN,hl,rfl⟩:=aC E;have mE:=K.size;have hv:=(bb.block _ (ak ej)<|ch _ s).trans ej;have hw:=(bb.block _ (ak gi)<|ch _<|by omega).trans gi;have an:∀k,bV (J lb ky jG)=H k\/bV (J gf gc eq)=H k\/bV (J lc kz jH)=H k->k<c/\¬r.F k:=λk f=>H2.loc k<|it k f;have L:=Wn (p.take A) tm (p.drop q) (z<|G a) (K.row bi.row<|λk f=>⟨(an k<|.inl f).2,bi.lt k f⟩) (λk f=>by have:=(an k<|.inl f).1;omega) (dH E) (λk f=>(aI E k f).2) (K.row gs.row<|λk f=>⟨(an k<|.inr<|.inr f).2,gs.lt k f⟩) (λk f=>by have:=(an k<|.inr<|.inr f).1;omega) (by simp;omega) (by omega) 105;obtain⟨w,br⟩:∃w,y (p.take A++tm++p.drop q)=w:=⟨_,rfl⟩;rw[br]at L;have gA:=U br;have ef:=K.own dv<|λk f=>ch k (by have:=((aI dv) k f).1;omega);obtain⟨gt,iv,bh,jB,hT,he,hf⟩:=ww ef cT bn bb cv hv hw;clear E cv cT bn K bb hv hw br ef an;go_wp2_with fail
   apply L.mono;rintro ac w5⟨v5,rfl,fr,av⟩;obtain⟨xm,hk,rfl⟩:=aC fr;have As:=(av.block _ (ak he) id).trans he;have B:=(av.block _ (ak hf) id).trans hf;have p0:=cellAt As 0 rfl;have f0:=dK (i:=0) As;have q0:=cellAt B 0 rfl;have k0:=dK (i:=0) B;have p1:=cellAt As 1 rfl;have f1:=dK (i:=1) As;have q1:=cellAt B 1 rfl;have k1:=dK (i:=1) B;have p2:=cellAt As 2 rfl;have f2:=dK (i:=2) As;have q2:=cellAt B 2 rfl;have k2:=dK (i:=2) B;have p3:=cellAt As 3 rfl;have f3:=dK (i:=3) As;have q3:=cellAt B 3 rfl;have k3:=dK (i:=3) B;have gr:=U (show∀(i1 i2:M)(z1 z2 u0 u1 u2 u3:aa)(wf:I),wf=bZ (bZ (bZ (bZ (bZ (bZ w5 (R (z<|G a) i1) z1) (R (z<|G a) i2) z2) (R (z (G a)+1) 0) u0) (R (z (G a)+1) 1) u1) (R (z (G a)+1) 2) u2) (R (z (G a)+1) 3) u3->wf.heap[z (G a)+1]?=H (ar #[u0,u1,u2,u3] 107 (0,0))/\wf.ownsRow (z<|G a) 224 1 (J xl nl hh) nl ((i.take o++i.drop j1).map bJ.ptr)/\wf.ownsRow (z<|G a) 224 1 (J xm w hk) w ((p.take A++tm++p.drop q).map bJ.ptr)/\uy wf (z<|G a) tm/\r.D wf/\Y r.F a wf from by
    rintro i1 i2 z1 z2 u0 u1 u2 u3 wf rfl;have mv:((bZ (bZ w5 (R (z<|G a) i1) z1) (R (z<|G a) i2) z2)).heap[z (G a)+1]?=H (ar #[aK,aK,aK,aK] 107 (0,0)):=(iq _<|by omega).trans<|(iq _<|by omega).trans B;have dk:Y (λk=>k=z (G a)\/k=z (G a)+1) w5 (bZ (bZ (bZ (bZ (bZ (bZ w5 (R (z<|G a) i1) z1) (R (z<|G a) i2) z2) (R (z (G a)+1) 0) u0) (R (z (G a)+1) 1) u1) (R (z (G a)+1) 2) u2) (R (z (G a)+1) 3) u3):=((((((Y.refl _ w5).setCell _ _ _<|.inl<|.inl rfl).setCell _ _ _<|.inl<|.inl rfl).setCell _ 0 _<|.inl<|.inr rfl).setCell _ 1 _<|.inl<|.inr rfl).setCell _ 2 _<|.inl<|.inr rfl).setCell _ 3 _<|.inl<|.inr rfl;have kd:=NJ (a':=u0) (b':=u1) (c':=u2) (d':=u3) mv;generalize bZ (bZ (bZ (bZ (bZ (bZ w5 (R (z<|G a) i1) z1) (R (z<|G a) i2) z2) (R (z (G a)+1) 0) u0) (R (z (G a)+1) 1) u1) (R (z (G a)+1) 2) u2) (R (z (G a)+1) 3) u3=wf at*;have ei:∀k,(k=z (G a)\/k=z (G a)+1)->∃hO,w5.heap[k]?=H (ar hO 107 (0,0)):=by
     rintro k(rfl|rfl)
     .exact⟨_,As⟩
     .exact⟨_,B⟩
    have bv:∀{dn n xs},w5.ownsRow (z<|G a) 224 1 dn n xs->wf.ownsRow (z<|G a) 224 1 dn n xs:=λlp=>dk.own lp (λk f hg=>by
     obtain⟨hO,ff⟩:=ei k hg;obtain⟨mg,hA⟩:=fD lp f;exact io ff hA (by decide) rfl)
    refine⟨kd,bv<|av.own gt<|λ_ _ hg=>hg,bv fr,?_,r.fi (r.fi bh av cG) dk<|λk f=>ch k (by rcases f with hg|hg<;>omega),?_⟩
    .refine((iv.aw av).other dk<|λk f=>?_).base (by omega);obtain⟨hO,ff⟩:=ei k f;exact⟨hO,_,_,ff,by decide,by decide,by decide⟩
    .exact(((HW.mono (T:=r.F) cG).trans jB (λ_ h=>.inl h)).ci av).trans dk (λk f=>.inr (by rcases f with hg|hg<;>omega)))
   clear fr av As B L;go_wp2;obtain⟨r1,r2,r3,r4,r5,r6⟩:=gr _ _ _ _ _ _ _ _ _ rfl;refine cI (zi rfl _ _ (z (G a)+1) _ _ _ _ _ _ rfl r1 ⟨_,_,_,rfl⟩ ⟨_,_,_,rfl⟩ ⟨_,_,_,rfl⟩ ⟨_,_,_,rfl⟩) rfl ?_;have cB:=ae HJ;subst cB;refine⟨xl,nl,hh,xm,w,hk,tm,o,hj,A,q,rfl,?_,?_,?_,hT,r4,r5,r6⟩
   .rw[ae hY,ae ih];exact hU
   .rw[ae iu];exact r2
   .rw[ae gA];exact r3
structure PR(n:M)(rs:dW):Prop where
 sQ:ku rs
 mq:∀r∈rs,dQ r
 jc:∀x∈rs.flatten,x.Good
 low:∀x∈rs.flatten,x.bI<=n
def tY(h:w.Good):w.key≠⟨#[]⟩:=λe=>by
 have:=h.Uh;rw[e]at this;simp[ByteArray.size]at this
def PR.keys(h:PR b k):∀x∈k.flatten,x.key≠⟨#[]⟩:=λx a=>tY<|h.jc x a
def Hc{a D:dW}:w∈(k++a++D).flatten↔w∈k.flatten\/w∈a.flatten\/w∈D.flatten:=by
 simp only[dP,am,or_assoc]
def PR.YD{c e D:dW}(h:PR b (k++c++D))(i:ku e)(l:∀r∈e,dQ r)(a:∀x∈e.flatten,x∈c.flatten):PR b (k++e++D):=by
 have f:∀x,x∈(k++e++D).flatten->x∈(k++c++D).flatten:=by intro x f;rw[Hc]at f|-;exact f.imp id<|λg=>g.imp (a x) id
 refine⟨Rb h.sQ i a,λr j=>?_,λx d=>h.jc x<|f x d,λx d=>h.low x<|f x d⟩;rcases am.1 j with g|g;rcases am.1 g with g|g;exact h.mq r (by simp[g]);exact l r g;exact h.mq r<|by simp[g]
def PR.cons(i:PR b k)(t:b<=c)(n:dQ e)(m:∀x∈e,x.Good)(g:∀x∈e,(b:Z)<x.bI)(f:∀x∈e,x.bI<=c):PR c (e::k):=by
 refine⟨?_,?_,?_,?_⟩;unfold ku;rw[bw];refine⟨λr h o j p l _=>?_,i.sQ⟩;have q:=i.low p<|bz.2 ⟨r,h,l⟩;have s:=g o j;omega;intro r h;rcases az.1 h with rfl|d;exact n;exact i.mq r d;intro x a;rw[aX,am]at a;rcases a with d|d;exact m x d;exact i.jc x d;intro x a;rw[aX,am]at a;rcases a with d|d;exact f x d;have:=i.low x d;omega
def PR.El(h:PR b k):PR b ([]::k):=h.cons (ah _) dQ.nil (by simp) (by simp)<|by simp
def FC(a:dW)(k:ab):seen ([]::a) k=seen a k:=by
 unfold seen;rw[qi,RU,lX]
def cF(a b c d:cP):dW:=(a.map bJ.all).reverse++[cg b,cg c,cg d]
def DI(a b c d:cP)(t:bJ):cF (a++[t]) b c d=t.all::cF a b c d:=by simp[cF]
def oO(h:i.map bJ.all=iz e):cg i=e:=by
 unfold cg;rw[h];exact vO e
def EH(h:i.isEmpty=bW):cg i=[]:=by
 rw[List.isEmpty_iff]at h;rw[h];rfl
def PR.row(h:PR b k):∀r∈k,gM r:=λr a=>⟨h.mq r a,λe c=>h.keys e<|bz.2 ⟨r,a,c⟩⟩
def fV(t:Z)(a:dW)(k:ab):Option ab:=seen (a.map<|ke t) k
def AZ{a b D:dW}(h:AL (a.map<|ke m) (b.map<|ke m) (D.map<|ke m))(c:ab):fV m (k++b++D) c=fV m (k++a++D) c:=by
 unfold fV;simp only[aM];exact Ti h c
def sN(t:Z)(a:dW)(k:ab):fV t ([]::a) k=fV t a k:=by
 unfold fV;rw[aY,show ke t []=[]from rfl];exact FC _ k
def PI(h:∀r∈k,r=[])(c:ab):qL (k.map<|ke m) c=none:=RK (λr a=>by obtain⟨s,b,rfl⟩:=aZ.1 a;rw[h s b];rfl) c
def Ov{d:cP}(j:PR b (cF i p t u))(h:d.map bJ.all=iz (rC o (t.isEmpty&&u.isEmpty) i p)):dQ (df<|cg p::i.map bJ.all)/\dQ (rC o (t.isEmpty&&u.isEmpty) i p)/\PR b (cF [] d t u)/\(∀l,(l∈o\/(b:Z)<=l)->∀k,fV l (cF [] d t u) k=fV l (cF i p t u) k)/\y (cg d)<=y (cg i)+y (cg p):=by
 have D:cg d=rC o (t.isEmpty&&u.isEmpty) i p:=oO h;have a:cF i p t u=[]++((i.map bJ.all).reverse++[cg p])++[cg t,cg u]:=by simp[cF]
 have f:cF [] d t u=[]++[rC o (t.isEmpty&&u.isEmpty) i p]++[cg t,cg u]:=by simp[cF,D]
 rw[a]at j;have w:∀r∈i.map bJ.all,gM r:=λr a=>j.row r (by simp only[cC,am,iX];exact .inl<|.inl a);have s:gM (cg p):=j.row _ (by simp);have v:ku ((i.map bJ.all).reverse++[cg p]):=(bR.1 j.sQ).1;obtain⟨B,n,C⟩:=De (ms:=o) (lowest:=t.isEmpty&&u.isEmpty) w s v;have g:∀x∈[rC o (t.isEmpty&&u.isEmpty) i p].flatten,x∈((i.map bJ.all).reverse++[cg p]).flatten:=by intro x c;rw[aX,fM,dJ]at c;have:=zr _ _ _ x c;rw[aX,am]at this;rw[dP,am,aX,fM,dJ];rcases this with t|t;exact .inr t;refine .inl ?_;obtain⟨m,e,c⟩:=bz.1 t;exact bz.2 ⟨m,iX.2 e,c⟩
 refine⟨B,n,?_,λl A k=>?_,?_⟩;rw[f];exact j.YD (by unfold ku;simp) (by intro r a;simp only[az,eG,kK]at a;subst a;exact n) g;rw[a,f];refine AZ (C l [cg t,cg u] (A.imp_right<|λq x c=>zJ (j.low x<|Hc.2<|.inr<|.inl c) q)<|λe k=>?_) k;rw[jT]at e;exact PI (by intro r a;simp only[az,eG,kK]at a;rcases a with rfl|rfl;exact EH e.1;exact EH e.2) k;rw[D];have E:=(sR o (t.isEmpty&&u.isEmpty)<|cg p::i.map bJ.all).length_le;have F:=(mf o<|df<|cg p::i.map bJ.all).length_le;have m:=(fH<|cg p::i.map bJ.all).length_eq;rw[aX,af]at m;have:(i.map bJ.all).flatten=cg i:=rfl;rw[this]at m;unfold rC;omega
def Sk(l:cr T)(j:M)(h:j<y l):l=l.take j++[l[j]]++l.drop (j+1):=by
 rw[aU,jM,kQ,bX]
def Wk(l:cr T){p q:M}(h:p<=q):l=l.take p++(l.drop p).take (q-p)++l.drop q:=by
 have a:l.drop q=(l.drop p).drop (q-p):=by rw[List.drop_drop];congr 1;omega
 rw[aU,a,bX,bX]
def ub(h:((i++p).map bJ.all).Pairwise gQ):gQ (cg i) (cg p):=by
 rw[aM,bR]at h;intro x f c g;obtain⟨s,d,a⟩:=lk.1 f;obtain⟨t,e,b⟩:=lk.1 g;exact h.2.2 _ (gY d) _ (gY e) x a c b
def Ln{j c q:M}(hu:ly i)(r:ly p)(ho:Over (cg i) (cg p))(hg:∀x,x∈cg i\/x∈cg p->x.Good)(hj:j<y i)(Q:Fq p (iW i[j].ks) (iT i[j].ks) c q)(K:t.map bJ.all=iz (rC o D [i[j]]<|(p.drop c).take<|q-c)):dQ (rC o D [i[j]]<|(p.drop c).take<|q-c)/\dQ (cg<|p.take c++t++p.drop q)/\((p.take c++t++p.drop q).map bJ.all).Pairwise gQ/\(∀(h:Z)(bb:dW),(h∈o\/∀x,x∈cg i\/x∈cg p->x.bI<=h)->(D=bW->∀bc,qL (bb.map<|ke h) bc=none)->AL ([cg i,cg p].map<|ke h) ([cg<|i.take j++i.drop (j+1),cg<|p.take c++t++p.drop q].map<|ke h) (bb.map<|ke h))/\Over (cg<|i.take j++i.drop (j+1)) (cg<|p.take c++t++p.drop q)/\(∀x,x∈cg (i.take j++i.drop (j+1))\/x∈cg (p.take c++t++p.drop q)->x∈cg i\/x∈cg p)/\(∀x∈cg t,x∈cg i\/x∈cg p)/\y (cg<|i.take j++i.drop (j+1))+y (cg<|p.take c++t++p.drop q)<=y (cg i)+y (cg p):=by
 have w:cg t=gS o D [cg<|(p.drop c).take<|q-c,i[j].all]:=oO K;have f:cg [i[j]]=i[j].all:=by simp[cg]
 have s:cg i=cg (i.take j)++i[j].all++cg (i.drop<|j+1):=by conv=>lhs;rw[Sk i j hj,eL,eL,f]
 have u:cg p=cg (p.take c)++cg ((p.drop c).take<|q-c)++cg (p.drop q):=by conv=>lhs;rw[Wk p Q.le,eL,eL]
 have hP:=hu.pure i[j]<|aq hj;have ad:∀A∈cg (p.take c),∀h∈i[j].all,ic A.key h.key=bW:=by intro A l h d;obtain⟨ax,n,v⟩:=lk.1 l;obtain⟨av,hi,rfl⟩:=gL.1 n;(have e:av<c/\av<y p:=by rw[dL]at hi;omega);rw[gq]at v;have O:=(r.pure p[av]<|aq e.2).CY v;have P:=Q.WY.low av e.2 e.1;have C:=hP.xJ d;exact NW (xD O P) C
 have al:∀A∈i[j].all,∀h∈cg (p.drop q),ic A.key h.key=bW:=by intro A l h d;obtain⟨ax,n,v⟩:=lk.1 d;obtain⟨av,hi,rfl⟩:=gL.1 n;(have e:q+av<y p:=by rw[ix]at hi;omega);rw[mX]at v;(have S:q<y p:=by omega);have O:=Q.behind S;have P:=hP.CY l;obtain⟨x,a,au⟩:=(r.pure p[q]<|aq S).He;(have C:ic h.key (iW p[q].ks)=bF:=by rcases fT av with rfl|ba;exact(r.pure p[q]<|aq S).xJ v;rw[<-au];exact lI<|r.pair S e (by omega) a v);exact NW (xD P O) C
 have T:((i.take j++([i[j]]++i.drop (j+1))).map bJ.all).Pairwise gQ:=by have:=hu.CS;rw[Sk i j hj,aU]at this;exact this
 have W:((p.take c++((p.drop c).take (q-c)++p.drop q)).map bJ.all).Pairwise gQ:=by have:=r.CS;rw[Wk p Q.le,aU]at this;exact this
 have L:=ub T;have N:=ub W;rw[eL]at L N;rw[f]at L;have V:=(bR.1 (by rw[aM]at T;exact T)).2.1;have X:=(bR.1 (by rw[aM]at W;exact W)).2.1;have B:=ub V;have ac:=ub X;rw[f]at B;have an:gM (cg (i.take j)++i[j].all++cg (i.drop<|j+1)):=s▸⟨hu.mq,λw he=>tY<|hg w<|.inl he⟩;have ao:gM (cg (p.take c)++cg ((p.drop c).take<|q-c)++cg (p.drop q)):=u▸⟨r.mq,λw he=>tY<|hg w<|.inr he⟩;have E:=ho;rw[s,u]at E;obtain⟨r1,r2,r3,r4,r5,r6⟩:=Ra (ms:=o) (lowest:=D) an ao E (λx a b g=>L x a b<|by simp[g]) (λx a b g=>L x a b<|by simp[g]) B (λx a b g=>N x a b<|by simp[g]) (λx a b g=>N x a b<|by simp[g]) ac ad al;have m:∀x∈gS o D [cg<|(p.drop c).take<|q-c,i[j].all],x∈i[j].all\/x∈cg ((p.drop c).take<|q-c):=by intro x a;have:=zr o D _ x a;simp only[aX,fM,dJ,am]at this;exact this.symm
 have F:dQ (gS o D [cg<|(p.drop c).take<|q-c,i[j].all]):=r2.mq.sub (by simp);refine⟨F,?_,?_,?_,?_,?_,?_,?_⟩;rw[eL,eL,w];exact r2.mq;rw[aM,aM,bR,bR];refine⟨⟨r.CS.sublist<|(mW _ _).map _,by rw[K];exact Eb F,λx a b g=>?_⟩,r.CS.sublist<|(kC _ _).map _,λx a b g=>?_⟩;obtain⟨S,v,rfl⟩:=aZ.1 a;obtain⟨ax,n,rfl⟩:=aZ.1 g;exactλA l h d=>r3 A (lk.2 ⟨S,v,l⟩) h (by rw[<-w];exact lk.2 ⟨ax,n,d⟩);obtain⟨ax,n,rfl⟩:=aZ.1 g;rcases am.1 a with a|a;obtain⟨S,v,rfl⟩:=aZ.1 a;exactλA l h d=>N A (lk.2 ⟨S,v,l⟩) h<|hZ _<|lk.2 ⟨ax,n,d⟩;obtain⟨S,v,rfl⟩:=aZ.1 a;exactλA l h d=>r4 A (by rw[<-w];exact lk.2 ⟨S,v,l⟩) h<|lk.2 ⟨ax,n,d⟩;intro h bb d v;simp only[aY,eW];rw[eL,eL,eL,w,s,u];exact r6 h bb (d.imp_right<|λq x a=>q x (by rw[s,u];simp only[am]at a|-;rcases a with k|k;exact .inl<|.inl<|.inr k;exact .inr<|.inl<|.inr k)) v;rw[eL,eL,eL,w];exact r5;intro x a;rw[eL,eL,eL,w]at a;rw[s,u];simp only[am]at a|-;rcases a with(k|k)|(k|k)|k;exact .inl<|.inl<|.inl k;exact .inl<|.inr k;exact .inr<|.inl<|.inl k;rcases m x k with k|k;exact .inl<|.inl<|.inr k;exact .inr<|.inl<|.inr k;exact .inr<|.inr k;intro x a;rw[w]at a;rw[s,u];simp only[am];rcases m x a with k|k;exact .inl<|.inl<|.inr k;exact .inr<|.inl<|.inr k;rw[eL,eL,eL,w,s,u];have O:=(sR o D [cg<|(p.drop c).take<|q-c,i[j].all]).length_le;have P:=(mf o<|df [cg<|(p.drop c).take<|q-c,i[j].all]).length_le;have C:=(fH [cg<|(p.drop c).take<|q-c,i[j].all]).length_eq;rw[aX,aX,fM,dJ,af]at C;simp only[af];omega
def NE(h:Over e L):ku [e,L]:=by
 unfold ku;simp only[bw,az,eG,kK,forall_eq,List.Pairwise.nil,sC,false_implies,implies_true];exact h
def CV{C D:dW}(h:ku (C++[e,L]++D)):Over e L:=by
 have a:=(bR.1 (bR.1 h).1).2.1;exact(bw.1 a).1 L<|by simp
def Ou{d:cP}{j g q:M}(l:PR b (cF i p t u))(m:ly p)(s:ly t)(r:j<y p)(hcut:Fq t (iW p[j].ks) (iT p[j].ks) g q)(f:d.map bJ.all=iz (rC o u.isEmpty [p[j]]<|(t.drop g).take<|q-g)):PR b (cF i (p.take j++p.drop (j+1)) (t.take g++d++t.drop q) u)/\(∀h,(h∈o\/(b:Z)<=h)->∀k,fV h (cF i (p.take j++p.drop (j+1)) (t.take g++d++t.drop q) u) k=fV h (cF i p t u) k)/\dQ (cg d)/\((t.take g++d++t.drop q).map bJ.all).Pairwise gQ/\(∀x∈cg d,x.Good)/\y (cg<|p.take j++p.drop (j+1))+y (cg<|t.take g++d++t.drop q)<=y (cg p)+y (cg t):=by
 have a:∀x c:cP,cF i x c u=(i.map bJ.all).reverse++[cg x,cg c]++[cg u]:=λx c=>by simp[cF]
 rw[a]at l;have n:∀x,x∈cg p\/x∈cg t->x.Good:=λx c=>l.jc x (Hc.2<|.inr<|.inl<|by simpa using c);obtain⟨A,B,w,C,D,E,F,K⟩:=Ln m s (CV l.sQ) n r hcut f;refine⟨?_,λh v k=>?_,by rw[oO f];exact A,w,λx c=>n x<|F x c,K⟩;rw[a];refine l.YD (NE D) (λL e=>?_)<|λx c=>?_;simp only[az,eG,kK]at e;rcases e with rfl|rfl;rw[eL];have:=m.mq.sub<|nD (us:=p.take j++p.drop (j+1)) (ts:=p) (by(conv=>rhs;rw[Sk p j r]);rw[aU];exact(ew _).append<|ga _ _);rwa[eL]at this;exact B;have:=E x (by simpa using c);simpa using this;rw[a,a];exact AZ (C h [cg u] (v.imp_right<|λq x c=>zJ (l.low x<|Hc.2<|.inr<|.inl<|by simpa using c) q)<|λe k=>PI (by intro L a;simp only[az,eG,kK]at a;subst a;exact EH e) k) k
def Ot{c:cP}{j g q:M}(l:PR b (cF i p t u))(m:ly t)(s:ly u)(r:j<y t)(hcut:Fq u (iW t[j].ks) (iT t[j].ks) g q)(e:c.map bJ.all=iz (rC o bW [t[j]]<|(u.drop g).take<|q-g)):PR b (cF i p (t.take j++t.drop (j+1))<|u.take g++c++u.drop q)/\(∀h,(h∈o\/(b:Z)<=h)->∀k,fV h (cF i p (t.take j++t.drop (j+1))<|u.take g++c++u.drop q) k=fV h (cF i p t u) k)/\dQ (cg c)/\((u.take g++c++u.drop q).map bJ.all).Pairwise gQ/\(∀x∈cg c,x.Good)/\y (cg<|t.take j++t.drop (j+1))+y (cg<|u.take g++c++u.drop q)<=y (cg t)+y (cg u):=by
 have f:∀x a:cP,cF i p x a=((i.map bJ.all).reverse++[cg p])++[cg x,cg a]++[]:=λx a=>by simp[cF]
 rw[f]at l;have n:∀x,x∈cg t\/x∈cg u->x.Good:=λx a=>l.jc x (Hc.2<|.inr<|.inl<|by simpa using a);obtain⟨A,B,w,C,D,E,F,K⟩:=Ln m s (CV l.sQ) n r hcut e;refine⟨?_,λh v k=>?_,by rw[oO e];exact A,w,λx a=>n x<|F x a,K⟩;rw[f];refine l.YD (NE D) (λL d=>?_)<|λx a=>?_;simp only[az,eG,kK]at d;rcases d with rfl|rfl;rw[eL];have:=m.mq.sub<|nD (us:=t.take j++t.drop (j+1)) (ts:=t) (by(conv=>rhs;rw[Sk t j r]);rw[aU];exact(ew _).append<|ga _ _);rwa[eL]at this;exact B;have:=E x (by simpa using a);simpa using this;rw[f,f];exact AZ (C h [] (v.imp_right<|λq x a=>zJ (l.low x<|Hc.2<|.inr<|.inl<|by simpa using a) q)<|λd k=>yu k) k
def yp(s:i.map bJ.all=iz e)(q:∀t∈i,WG a b t)(m:dQ e)(g:rN 5 e)(p:∀x∈e,x.Good):∀t∈i,tD t.ks t.cs/\JN (bO 0 t.cs)/\t.ks=bO 0 t.cs/\y t.all<=100:=by
 intro t n;obtain⟨r,h,x,j,k⟩:=q t n;have l:t.all∈iz e:=by rw[<-s];exact gY n
 have o:=QR g _ l;have c:=Bh l;have f:=Ec e _ l;have d:∀x∈t.all,x.Good:=λx e=>p x<|c.subset e;refine⟨?_,k.pieces.idx f d (m.sub c) o,k.ks,o⟩;rw[k.ks];exact k.pieces.wH f d<|m.sub c
def Qr(h:i.map bJ.all=iz e)(g:∀t∈i,WG a b t)(d:dQ e)(c:rN 5 e)(f:∀x∈e,x.Good):ly i:=⟨λt j=>(yp h g d c f t j).1,by rw[oO h];exact d,by rw[h];exact Eb d⟩
def vN{c:Func}{F S:Tmp}(T:c.results=#[.cell F 187,.tmp S])(a:Array aa)(w:I)(g:M)(n A k:Z)(e f h i:aa)(Q:TypeId)(d:M×M)(r:a.getD F iB=aA g)(p:w.heap[g]?=H (ar #[aH n,aH A,aH k,e,f,h,i] Q d))(j:∃x n k,e=J x n k)(l:∃x n k,f=J x n k)(m:∃x n k,h=J x n k)(o:∃x n k,i=J x n k):(results c a).run bG w=.ok (dB #[eC #[aH n,aH A,aH k,e,f,h,i],a.getD S iB]) w:=by
 obtain⟨K,B,s,rfl⟩:=j;obtain⟨L,C,t,rfl⟩:=l;obtain⟨N,D,u,rfl⟩:=m;obtain⟨O,E,v,rfl⟩:=o;have b:a[F]?.getD iB=aA g:=by simpa using r
 have q:=mL (P:=bG) w g Q 187 #[aH n,aH A,aH k,J K B s,J L C t,J N D u,J O E v] d _ p underlying187 rfl (by kernel_rfl);simp[results,T,b,asAddr,q,Result.andThen]
def Yw:aa:=eC #[aH 2,aH 1,aH 0,aK,aK,aK,aK]
def Nc{db:M}{K:DK}(h:cK a db K)(hn:y K.files<=100000000)(hp:Pow a)(g:∀av∈K.files.map da.name,av=⟨#[108,111,103,45,49]⟩):cy bG 148 #[aA db] a λal w'=>al=aO (dB #[Yw,.nilIface])/\Y aB a w':=by
 have o:Y aB a (ct (ct a<|ar #[aH 0,aH 0,aH 0,aK,aK,aK,aK] 187)<|ar #[aH 2,aH 1,aH 0,aK,aK,aK,aK] 187):=((Y.refl aB a).alloc _).alloc _;have B:(ct (ct a<|ar #[aH 0,aH 0,aH 0,aK,aK,aK,aK] 187)<|ar #[aH 2,aH 1,aH 0,aK,aK,aK,aK] 187).heap[z<|G a]?=H (ar #[aH 0,aH 0,aH 0,aK,aK,aK,aK] 187 (0,0)):=(fX _<|by simp).trans<|aD _ rfl;have C:(ct (ct a<|ar #[aH 0,aH 0,aH 0,aK,aK,aK,aK] 187)<|ar #[aH 2,aH 1,aH 0,aK,aK,aK,aK] 187).heap[z (G a)+1]?=H (ar #[aH 2,aH 1,aH 0,aK,aK,aK,aK] 187 (0,0)):=aD _ (by simp);have F:=EA (db:=db) (K:=K) (h.aw o<|λ_ _=>id) hn;obtain⟨V,q,r,HP,HA⟩:=jP o B C hp g;clear h hp g o B C;go_in
 go_wp2_with fail
 apply F.mono;rintro al w3⟨v3,f,rfl,n,m,e⟩;obtain⟨x3,c3,X⟩:=aC m;subst X;have A:=V.ci e;have D:=(e.block _ (ak q) id).trans q;have E:=(e.block _ (ak r) id).trans r;have ao:y f<=100000000:=by have:=n.length_eq;simp at this;omega
 have L:∀x∈f,x=⟨#[108,111,103,45,49]⟩:=λx hx=>HA x<|n.mem_iff.1 hx;obtain⟨w,x,s,t,S⟩:=jP m A D E L;clear m e A D E L n F;go_wp2;go_loopw [13] (λj wr=>∃(P:M),P<=y f/\j=ap P/\Y aB w3 wr) (λj _=>y f-(intOf j).toNat)
 case atStart=>exact⟨0,bA _,by go_num,Y.refl _ _⟩
 (case round=>obtain⟨P,hj,rfl,i⟩:=hrel;have d:=(i.block _ (ak s) id).trans s;have b:=(i.block _ (ak t) id).trans t;by_cases l:P<y f;(·(have e1:(P:Z)<(y f:Z):=by omega);(have e2:(0:Z)<=(P:Z):=by omega);have N:=NC<|HP.aw (x.ci i) id;(have k:∃ad c,x3=H (R ad c)/\aT wr (R ad<|c+P)=H (ai ⟨#[108,111,103,45,49]⟩):=by obtain⟨q1,⟨q2,q0⟩|⟨au,Q,ac,q2,an,hc⟩⟩:=dH w;omega;cases q2;refine⟨au,Q,rfl,?_⟩;(have hg:(strs f)[P]?=H (ai f[P]):=by simp[strs,l]);rw[(ae S) _<|aq l]at hg;exact i.cell (hc _ _ hg) id (w.lt au rfl).2);obtain⟨ad,c,hx,k⟩:=k;subst hx;obtain⟨T,u,v⟩:=dC i d b;clear i d b;(go_wp2_with fail);apply N.mono;rintro al w4⟨rfl,p⟩;have O:=(p.block _ (ak v) id).trans v;have y0:=cellAt O 0 rfl;have W:=U<|T.ci p;clear p O N k;go_wp2;go_roundw;(case rel=>exact⟨P+1,l,by go_num,W⟩);case measure=>simp[intOf];omega);(have e1:¬(P:Z)<(y f:Z):=by omega);have y0:=cellAt b 0 rfl;have Q:=cellAt b 1 rfl;have W:=cellAt b 2 rfl;have y3:=cellAt b 3 rfl;have y4:=cellAt b 4 rfl;have y5:=cellAt b 5 rfl;have y6:=cellAt b 6 rfl;(have O:∀j,wr.frozen? (R (z<|G a) j)=bF:=λj=>by simp[World.frozen?,d]);(have c:∀j,j<7->∃p,aT wr (R (z<|G a) j)=H p:=λj N=>by rw[bN d];exact⟨_,nR<|by simpa using N⟩);obtain⟨u0,z0⟩:=c 0 (by omega);obtain⟨u1,z1⟩:=c 1 (by omega);obtain⟨u2,z2⟩:=c 2 (by omega);obtain⟨u3,z3⟩:=c 3 (by omega);obtain⟨u4,z4⟩:=c 4 (by omega);obtain⟨u5,z5⟩:=c 5 (by omega);obtain⟨u6,z6⟩:=c 6 (by omega);have T:=U i;have u:=U d;clear i d b c;go_wp2;have k:=aR (i:=6) (u:=aK)<|aR (i:=5) (u:=aK)<|aR (i:=4) (u:=aK)<|aR (i:=3) (u:=aK)<|aR (i:=2) (u:=aH 0)<|aR (i:=1) (u:=aH 1)<|aR (i:=0) (u:=aH 2) u;refine cI (vN rfl _ _ (z<|G a) 2 1 0 _ _ _ _ _ _ rfl k ⟨_,_,_,rfl⟩ ⟨_,_,_,rfl⟩ ⟨_,_,_,rfl⟩ ⟨_,_,_,rfl⟩) rfl ?_;refine⟨rfl,?_⟩;have v:=x.ci T;exact((((((v.setCell _ 0 _<|.inr<|ah _).setCell _ 1 _<|.inr<|ah _).setCell _ 2 _<|.inr<|ah _).setCell _ 3 _<|.inr<|ah _).setCell _ 4 _<|.inr<|ah _).setCell _ 5 _<|.inr<|ah _).setCell _ 6 _<|.inr<|ah _)
def Rn(h:cK a b j)(P:y j.files<=100000000)(F:Pow a)(l:∀T∈j.files.map da.name,T=⟨#[108,111,103,45,49]⟩)(E:dX (vw j.files) gP=none):cy bG 93 #[aA b] a λL S=>L=aO (dB #[Yw,.nilIface])/\Y aB a S:=by
 obtain⟨e,f⟩:∃e,ct a (ar #[aH 0,aH 0,aH 0,aK,aK,aK,aK] 187)=e:=⟨_,rfl⟩;obtain⟨m,d⟩:∃m,ct e (ar #[ai gP,ap 10] 222)=m:=⟨_,rfl⟩;have p:Y aB a e:=by rw[<-f];exact(Y.refl aB a).alloc _
 have k:Y aB a m:=by rw[<-d];exact p.alloc _
 have n:e.heap[z<|G a]?=H (ar #[aH 0,aH 0,aH 0,aK,aK,aK,aK] 187 (0,0)):=by rw[<-f];exact aD _ rfl
 have t:m.heap[z<|G a]?=H (ar #[aH 0,aH 0,aH 0,aK,aK,aK,aK] 187 (0,0)):=by rw[<-d];exact(fX _<|ak n).trans n
 have u:aT m (R (z<|G e) 1)=H (ap 10):=by(have:m.heap[z<|G e]?=H (ar #[ai gP,ap 10] 222 (0,0)):=by rw[<-d];exact aD _ rfl);rw[bN this];rfl
 have i:=Gz (db:=b) (K:=j) gP (w:=e) (h.aw p<|λ_ _=>id) E;rw[d]at i;unfold gP at i;have v:=Pp (z<|G e) 10 m u;have o:=Nc (db:=b) (K:=j) (h.aw k<|λ_ _=>id) P (F.aw k id) l;unfold Yw at o|-;obtain⟨B,s,C⟩:=dC k t f;clear h F l E p k n t f d u;go_in
 go_wp2_with fail
 rw[ae C];apply i.mono;rintro L D⟨rfl,Q⟩;subst D;go_wp2_with fail
 apply v.mono;rintro L D⟨rfl,Q⟩;subst D;go_wp2_with fail
 apply o.mono;rintro L K⟨rfl,q⟩;have g:=(q.block _ (ak s) id).trans s;have V:∀r,K.frozen? (R (z<|G a) r)=bF:=λr=>by simp[World.frozen?,g]
 have c:∀r,r<7->∃x,aT K (R (z<|G a) r)=H x:=λr O=>by rw[bN g];exact⟨_,nR<|by simpa using O⟩
 obtain⟨u0,W⟩:=c 0 (by omega);obtain⟨u1,X⟩:=c 1 (by omega);obtain⟨u2,z2⟩:=c 2 (by omega);obtain⟨u3,z3⟩:=c 3 (by omega);obtain⟨u4,z4⟩:=c 4 (by omega);obtain⟨u5,z5⟩:=c 5 (by omega);obtain⟨u6,z6⟩:=c 6 (by omega);have N:=U<|B.ci q;have A:=U g;clear q g c i v o;go_wp2;have w:=aR (i:=6) (u:=aK)<|aR (i:=5) (u:=aK)<|aR (i:=4) (u:=aK)<|aR (i:=3) (u:=aK)<|aR (i:=2) (u:=aH 0)<|aR (i:=1) (u:=aH 1)<|aR (i:=0) (u:=aH 2) A;refine cI (vN rfl _ _ (z<|G a) 2 1 0 _ _ _ _ _ _ rfl w ⟨_,_,_,rfl⟩ ⟨_,_,_,rfl⟩ ⟨_,_,_,rfl⟩ ⟨_,_,_,rfl⟩) rfl ?_;refine⟨rfl,?_⟩;exact((((((N.setCell _ 0 _<|.inr<|ah _).setCell _ 1 _<|.inr<|ah _).setCell _ 2 _<|.inr<|ah _).setCell _ 3 _<|.inr<|ah _).setCell _ 4 _<|.inr<|ah _).setCell _ 5 _<|.inr<|ah _).setCell _ 6 _<|.inr<|ah _
