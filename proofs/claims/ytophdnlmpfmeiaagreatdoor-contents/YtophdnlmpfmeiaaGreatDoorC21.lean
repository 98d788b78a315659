import Derived.BigRegion
import Derived.Test.YtophdnlmpfmeiaaGreatDoorC19
import Derived.Test.YtophdnlmpfmeiaaGreatDoorC20
namespace Go.Proofs.YtophdnlmpfmeiaaGreatDoor
open ChangeShapes WideShapes RowKit Proofs.Tryz
set_option maxHeartbeats 16000000
set_option linter.all false
set_option maxRecDepth 100000
def uj:∀(a:List (List E))(p:Nat),oR (aW p a)=(cC a).length
 |[],_=>by simp[oR,aW,cC]
 |c::a,p=>by
  have h:=uj a (p+((eU c).length+4));unfold oR at*;rw[aW,aY,fA,h,nh,ag,eF];rfl
def wz:∀(a:List (List E))(p:Nat),nQ (aW p a)=a.flatten.length
 |[],_=>by simp[nQ,aW]
 |c::a,p=>by
  have h:=wz a (p+((eU c).length+4));unfold nQ at*;rw[aW,aY,fA,h,aT,ag];rfl
def EH(n:Nat):∀(a:List (List E))(p:Nat),(aW p a).take n=aW p (a.take n):=by
 induction n with
 |zero=>intro a p;simp[aW]
 |succ n b=>
  intro a p;cases a with
  |nil=>simp[aW]
  |cons c a=>rw[aW,nU,b,nU,aW]
def mD.idx{s:List E}{a:List (List E)}(t:mD s a)(q:s≠[])(p:∀y∈s,y.Good)(D:fG s)(C:s.length<=100):CK (aW 0 a):=by
 have b:=t.dw q p D;have x:=t.length;have f:∀c∈a,∀y∈c,y∈s:=λc d y b=>by rw[<-t.flat];exact bH.2 ⟨c,d,b⟩
 refine⟨?_,?_,?_,?_,?_,?_⟩
 ·rw[b.len];exact b.ne
 ·rw[b.len];omega
 ·intro k B;obtain⟨i,v,rfl⟩:=dj B;have d:i<a.length:=by rw[<-b.len];exact v
  have o:=b.yU i v d;have c:=au d;have A:=t.fit _ c;have l:=p _ (f _ c _ (au o.ne));have r:=p _ (f _ c _ (au (show a[i].length-1<a[i].length by omega)));have h:fG a[i]:=by
   have:=b.li;unfold fG at*;rw[fU]at this;exact this.1 _ c
  have z:a[i].length<=s.length:=by
   rw[<-t.flat];exact(cu c).length_le
  refine⟨by rw[o.size];exact A.2,by rw[o.count];exact o.ne,by rw[o.count];omega,by rw[o.first];exact l.LH,by rw[o.first];exact l.Ed,by rw[o.last];exact r.LH,by rw[o.last];exact r.Ed,?_⟩;rw[o.first,o.last];exact h.xS o.ne (au _)
 ·rw[wz,t.flat];exact C
 ·intro n g;have d:n<a.length:=by rw[<-b.len];exact g
  rw[EH,uj,b.pos n g]
 ·intro n g;have d:n<a.length:=by rw[<-b.len];exact g
  have o:=b.yU n g d;have l:=p _ (f _ (au d) _ (au o.ne));cases n with
  |zero=>
   rw[oH];show ep ⟨#[]⟩ _=true;rw[o.first];cases e:ep ⟨#[]⟩ (a[0][0]'o.ne).key with
   |true=>rfl
   |false=>
    have c:=lk e (vq _);have:=l.LH;rw[<-c]at this;exact absurd this (by decide)
  |succ n=>
   have h:n<(aW 0 a).length:=by omega
   have c:n<a.length:=by omega
   rw[aq h,zl];have v:=b.yU n h c;rw[v.last,o.first];have r:=b.li;unfold fG at r;rw[fU]at r;exact(bG.1 r.2 n (n+1) c d (by omega)) _ (au _) _ (au _)
def jD(a:List (List E)):List Int:=cC a++dz (aW 0 a)
def OI{w:J}{base e a n:Nat}{v:M}{d:List M}(h:w.ownsRow base e a v n d):∀k,v.ownBlock=some k->k<w.heap.size:=λk b=>(aK h k b).2
def Cn{α β:Type}(K:α->β->Prop){a:α}{b:β}{G:Prop}(h:K a b->G)(k:K a b):G:=h k
def MZ{w:J}{a:Nat}{k l m n o j p a' b' c' d' e' g':M}{t:TypeId}{b:Nat×Nat}(q:w.heap[a]?=some (.cells #[k,l,m,n,o,j,p] t b)):((((((w.setCell ⟨a,0,none⟩ a').setCell ⟨a,1,none⟩ b').setCell ⟨a,2,none⟩ c').setCell ⟨a,3,none⟩ d').setCell ⟨a,4,none⟩ e').setCell ⟨a,6,none⟩ g').heap[a]?=some (.cells #[a',b',c',d',e',j,g'] t b):=by
 have c:=aL (i:=0) (u:=a') q;have d:=aL (i:=1) (u:=b') c;have e:=aL (i:=2) (u:=c') d;have f:=aL (i:=3) (u:=d') e;have g:=aL (i:=4) (u:=e') f;have h:=aL (i:=6) (u:=g') g;rw[h];simp
def Bx{F Q h:J}{a b u R m e bJ eL D L:Nat}{K o:DK}{O G P m0:Int}{d:List (List E)}{w:M}(j:js F a (.pointer none) O G P m0 m e bJ w (aW 0 d))(l:I (λk=>k=R) F Q)(f:nJ Q h b K o)(hv:vw o.files=vw K.files++[(eM u,jD d)])(hn:o.cY.length=K.cY.length+1)(x:h.heap[a]?=some (.cells #[.pointer none,.int .u64 O,.int .u32 G,.int .u32 P,.int .u32 m0,.slice (some ⟨m,e,none⟩) (aW 0 d).length bJ,.slice (some ⟨R,0,none⟩) D eL] 265 (0,0)))(C:¬K.aS b a)(y:¬K.aS b m)(z:m≠a)(A:m≠R)(W:(cC d).length=D)(X:(dz (aW 0 d)).length=L)(N:a<F.heap.size):∃t,bR ((((((h.setCell ⟨a,0,none⟩ (.pointer (some ⟨b,0,none⟩))).setCell ⟨a,1,none⟩ (.int .u64 u)).setCell ⟨a,2,none⟩ (.int .u32 D)).setCell ⟨a,3,none⟩ (.int .u32 L)).setCell ⟨a,4,none⟩ (.int .u32 (jv (dz (aW 0 d))))).setCell ⟨a,6,none⟩ (.slice none 0 0)).drew b t/\I (λk=>K.aS b k\/k=a\/k=R) F ((((((h.setCell ⟨a,0,none⟩ (.pointer (some ⟨b,0,none⟩))).setCell ⟨a,1,none⟩ (.int .u64 u)).setCell ⟨a,2,none⟩ (.int .u32 D)).setCell ⟨a,3,none⟩ (.int .u32 L)).setCell ⟨a,4,none⟩ (.int .u32 (jv (dz (aW 0 d))))).setCell ⟨a,6,none⟩ (.slice none 0 0)).drew/\(∀k,t.aS b k->K.aS b k\/F.heap.size<=k)/\vw t.files=vw K.files++[(eM u,jD d)]/\t.cY.length=K.cY.length+1/\js ((((((h.setCell ⟨a,0,none⟩ (.pointer (some ⟨b,0,none⟩))).setCell ⟨a,1,none⟩ (.int .u64 u)).setCell ⟨a,2,none⟩ (.int .u32 D)).setCell ⟨a,3,none⟩ (.int .u32 L)).setCell ⟨a,4,none⟩ (.int .u32 (jv (dz (aW 0 d))))).setCell ⟨a,6,none⟩ (.slice none 0 0)).drew a (.pointer (some ⟨b,0,none⟩)) u (cC d).length (dz (aW 0 d)).length (jv (dz (aW 0 d))) m e bJ (.slice none 0 0) (aW 0 d):=by
 have s:=l.size;have p:=MZ (a':=.pointer (some ⟨b,0,none⟩)) (b':=.int .u64 u) (c':=.int .u32 D) (d':=.int .u32 L) (e':=.int .u32 (jv (dz (aW 0 d)))) (g':=.slice none 0 0) x;have B:I (λk=>k=a) h ((((((h.setCell ⟨a,0,none⟩ (.pointer (some ⟨b,0,none⟩))).setCell ⟨a,1,none⟩ (.int .u64 u)).setCell ⟨a,2,none⟩ (.int .u32 D)).setCell ⟨a,3,none⟩ (.int .u32 L)).setCell ⟨a,4,none⟩ (.int .u32 (jv (dz (aW 0 d))))).setCell ⟨a,6,none⟩ (.slice none 0 0)):=(((((((I.refl (λk=>k=a) h).setCell a 0 _ (.inl rfl)).setCell a 1 _ (.inl rfl)).setCell a 2 _ (.inl rfl)).setCell a 3 _ (.inl rfl)).setCell a 4 _ (.inl rfl)).setCell a 6 _ (.inl rfl));generalize((((((h.setCell ⟨a,0,none⟩ (.pointer (some ⟨b,0,none⟩))).setCell ⟨a,1,none⟩ (.int .u64 u)).setCell ⟨a,2,none⟩ (.int .u32 D)).setCell ⟨a,3,none⟩ (.int .u32 L)).setCell ⟨a,4,none⟩ (.int .u32 (jv (dz (aW 0 d))))).setCell ⟨a,6,none⟩ (.slice none 0 0))=wf at*;have g:I (λk=>k=a) h wf.drew:=B.of_heap rfl;have q:∀k,o.aS b k->K.aS b k\/F.heap.size<=k:=λk r=>(f.aS k r).elim .inl (λc=>.inr (by omega));refine⟨o,f.ok.ay g (λk r H=>?_),?_,q,hv,hn,?_,?_,j.ne,j.le,j.small⟩
 ·rcases q k r with c|c
  ·exact C (H▸c)
  ·omega
 ·exact((l.mono (T:=λk=>K.aS b k\/k=a\/k=R) (λk H=>.inl (.inr (.inr H)))).trans f.ay (λk r=>.inl (.inl r))).trans g (λk H=>.inl (.inr (.inl H)))
 ·rw[W,X];exact p
 ·intro ac v hj;have U:=l.cell (j.cells ac v hj) A j.lt.2;have V:=f.ay.cell U y (ah j.lt.2 s);exact g.cell V z (ah j.lt.2 (aB s f.ay.size))
def By(w:J)(e m bn:Nat)(hu:bn<18446744073709551616)(bl:DK)(n0 c0 s0 m0:Int)(H j bJ base x eL:Nat)(b:List (List E))(db:js w e (.pointer none) n0 c0 s0 m0 H j bJ (.slice (some ⟨x,0,none⟩) (cC b).length eL) (aW 0 b))(hd:dq w base (.slice (some ⟨x,0,none⟩) (cC b).length eL) (cC b))(hb:base<=w.heap.size)(hP:CK (aW 0 b))(cj:iq (cC b))(hT:Steps w)(P:Pow w)(fr:(cC b).length<=100000)(B:bR w m bl)(hg:cR (vw bl.files) (eM bn)=none)(hn:bl.cY.length<=1000000000000)(bd:eW (vw bl.files)+200000<=1099511627776)(cv:¬bl.aS m x)(bg:¬bl.aS m e)(em:¬bl.aS m H)(en:H≠e)(eo:H≠x):Calls prog 158 #[.pointer (some ⟨e,0,none⟩),.pointer (some ⟨m,0,none⟩),.int .u64 bn] w λV w'=>V=.returned .nilIface/\∃K',bR w' m K'/\I (λk=>bl.aS m k\/k=e\/k=x) w w'/\(∀k,K'.aS m k->bl.aS m k\/w.heap.size<=k)/\vw K'.files=vw bl.files++[(eM bn,jD b)]/\K'.cY.length=bl.cY.length+1/\js w' e (.pointer (some ⟨m,0,none⟩)) bn (cC b).length (dz (aW 0 b)).length (jv (dz (aW 0 b))) H j bJ (.slice none 0 0) (aW 0 b):=by
 have l:∀k∈aW 0 b,k.Fits:=λk hk=>(hP.can k hk).fits;have fd:=hP.len;have cp:=BI (aW 0 b) H j bJ w db.lt.2 db.cells (by omega) l;have fs:(dz (aW 0 b)).length<=52004:=by
  have h1:=iV l;unfold dz;rw[ag,bw];omega
 have ch:0<(dz (aW 0 b)).length:=by unfold dz;rw[ag,bw];omega
 have O:iq (dz (aW 0 b)):=(iq.le 4 _).append (Cd l);have d:=db.box;have t0:w.cell? ⟨e,0,none⟩=some (.pointer none):=by rw[aj d];rfl
 have t5:w.cell? ⟨e,5,none⟩=some (.slice (some ⟨H,j,none⟩) (aW 0 b).length bJ):=by rw[aj d];rfl
 have t6:w.cell? ⟨e,6,none⟩=some (.slice (some ⟨x,0,none⟩) (cC b).length eL):=by rw[aj d];rfl
 obtain⟨i0,eq,ev,ex,ey⟩:=bK mr;obtain⟨D,K⟩:∃D,(cC b).length=D:=⟨_,rfl⟩;obtain⟨ac,hL⟩:∃ac,(dz (aW 0 b)).length=ac:=⟨_,rfl⟩;have e1:=oP (n:=(D:Nat)) (by omega) (by omega);have e2:=oP (n:=(ac:Nat)) (by omega) (by omega);have bv:=Z (show∀v1 h,dq h w.heap.size v1 (dz (aW 0 b))->I (λ_=>False) w h->∃z U,v1=.slice (some ⟨z,0,none⟩) ac U/\w.heap.size<=z/\z<h.heap.size/\h.cell? ⟨e,6,none⟩=some (.slice (some ⟨x,0,none⟩) D eL)/\e<h.heap.size/\(∀eu,I (λ_=>False) h eu->Calls prog 173 #[.slice (some ⟨z,0,none⟩) ac U] eu λV w'=>V=.returned (.int .u32 (jv (dz (aW 0 b))))/\w'=eu)from by
  intro v1 h ho ht;obtain⟨z,U,rfl,a1,a2,_⟩:=qg ho ch;rw[<-hL,<-K];refine⟨z,U,rfl,a1,a2,ht.cell t6 id (ak d),ah (ak d) ht.size,λeu hW=>?_⟩;have es:=ht.trans hW (λ_ c=>c.elim);exact lB _ (dz (aW 0 b)) eu (hT.below (es.below (ai _) (λ_ c=>c.elim)) hT.lt) (dq.bytes (hW.own ho (λ_ _ c=>c))) (by omega))
 have dk:=Z db;clear db;rw[K]at t6;go_enter func158,ntmps158
 go_wp2_with fail
 refine cp.mono ?_;rintro V h⟨v1,rfl,bb,bf⟩;obtain⟨z,U,rfl,y0,y1,y2,y3,u⟩:=(Y bv) v1 h bb bf;have br:=Z bb;have X:=Z bf;have f:=ak d;have R:¬e=x:=λV=>by
  obtain⟨_,hc⟩:=dS hd (k:=x) rfl;exact fj d hc (by decide) V
 clear bb bf t0 t5 cp;go_wp2_with fail
 rename_i QQ KK r;apply Cn KK
 ·intro bk;go_region_held3(λfb=>fb.cell? ⟨e,6,none⟩=some (.slice (some ⟨x,0,none⟩) D eL)) (first|assumption|go_keep) (first
   |(go_at_call 173;refine(u h.drew (bS _ _)).mono ?_;rintro V w2⟨rfl,eu⟩;subst w2;have es:h.drew.cell? ⟨e,6,none⟩=some (.slice (some ⟨x,0,none⟩) D eL):=y2)
   |(go_at_call 173;refine(u (h.alloc (.cells #[.int .u64 0,.int .u32 0,.int .u32 0,.int .u32 0] 233)).drew (((I.refl _ h).alloc _).of_heap rfl)).mono ?_;rintro V w2⟨rfl,eu⟩;subst w2;have es:(h.alloc (.cells #[.int .u64 0,.int .u32 0,.int .u32 0,.int .u32 0] 233)).drew.cell? ⟨e,6,none⟩=some (.slice (some ⟨x,0,none⟩) D eL):=(by rw[aQ,dE y3];exact y2)))
  all_goals exact bk
 refine r _ _ ?_;clear r u;have A:∃y,(h.alloc (.cells #[.int .u64 bn,.int .u32 D,.int .u32 ac,.int .u32 (jv (dz (aW 0 b)))] 233)).drew=y/\I (λ_=>False) w y/\y.heap[h.heap.size]?=some (.cells #[.int .u64 bn,.int .u32 D,.int .u32 ac,.int .u32 (jv (dz (aW 0 b)))] 233 (0,0))/\dq y w.heap.size (.slice (some ⟨z,0,none⟩) ac U) (dz (aW 0 b)):=⟨_,rfl,((Y X).alloc _).of_heap rfl,az _ rfl,(Y br).alloc _⟩;obtain⟨y,A,o,ao,cm⟩:=A;rw[A];have fu:w.heap.size<=h.heap.size:=(Y X).size;generalize h.heap.size=p at*;clear A br X bv y2 y3;have fk:=o.size;have el:=hT.below (o.below (ai _) (λ_ c=>c.elim)) hT.lt;have hS:y.drew.cell? ⟨e,6,none⟩=some (.slice (some ⟨x,0,none⟩) D eL):=by rw[aQ];exact o.cell t6 id f
 go_wp2_with fail
 rename_i QQ KK r;refine bM (λfb=>fb.cell? ⟨e,6,none⟩=some (.slice (some ⟨x,0,none⟩) D eL)) 10 (by kernel_rfl) ?_;refine cz 0 ?_;iterate 2 (refine cy (v:=?_) hS rfl (by kernel_rfl) (λ_ _ _ db=>db) (Or.inl ⟨by rfl,?_⟩) ?_;rotate_left;(focus(intro fb hX;go_simp;try with_reducible rfl));simp only[Act.put,Nat.reduceAdd,ab,ae,af])
 refine dG ?_;refine cz 3 ?_;iterate 5 (refine cy (v:=?_) hS rfl (by kernel_rfl) (λ_ _ _ db=>db) (Or.inl ⟨by rfl,?_⟩) ?_;rotate_left;(focus(intro fb hX;go_simp;try with_reducible rfl));simp only[Act.put,Nat.reduceAdd,ab,ae,af])
 refine dG ?_;refine aI (i:=2) rfl rfl (by kernel_rfl) ?_;intro K2 bx;go_simp;have hx:=OI hd x rfl;have Q:Pow y.drew:=P.ay (o.of_heap rfl) id;refine(vP bn hu y.drew Q).mono ?_;rintro V W3⟨rfl,s⟩;have C:I (λ_=>False) w W3:=(o.of_heap (c:=y.drew) rfl).trans (I.aR (S:=λ_=>False) s) (λ_ c=>c.elim);have et:=s.size;have fx:y.heap.size<=W3.heap.size:=et;have cc:W3.cell? ⟨e,6,none⟩=some (.slice (some ⟨x,0,none⟩) D eL):=C.cell t6 id f;have ax:W3.heap[p]?=some (.cells #[.int .u64 bn,.int .u32 D,.int .u32 ac,.int .u32 (jv (dz (aW 0 b)))] 233 (0,0)):=(s.block p (ak ao)).trans ao;have cn:dq W3 w.heap.size (.slice (some ⟨z,0,none⟩) ac U) (dz (aW 0 b)):=(I.aR (S:=λ_=>False) s).own cm (λ_ _ c=>c);have ce:dq W3 base (.slice (some ⟨x,0,none⟩) D eL) (cC b):=by rw[<-K];exact C.own hd (λ_ _ c=>c)
 refine bx _ _ (λ_=>cc) ?_;refine aI (i:=8) rfl rfl (by kernel_rfl) ?_;intro K8 bT;simp only[av,am,ap];refine ix (.tmp 34) (.tmp 35) 119 rfl base 5 i0 (.int .u8 0) 1 1 underlying119 eq ev ex ey rfl (by decide) (.slice (some ⟨x,0,none⟩) D eL) D ((cC b).map (Value.int .u8)) rfl (by have h0:=ce;unfold dq at h0;rw[K]at h0;exact h0) ⟨z,0,none⟩ ac U ((dz (aW 0 b)).map (Value.int .u8)) rfl (by rw[bW,hL,nw]) (py cn.bytes) (by intro bn hu;simp only[aZ]at hu;obtain⟨fz,_,rfl⟩:=hu;rfl) (by omega) (by omega) (by omega) ?_;intro v4 w4 bc bh;have an:dq w4 base v4 (jD b):=dq.of bc (by unfold jD;rw[ag,K,hL]) (by unfold jD;rw[aN]);have G:=I.dU bh;obtain⟨yb,yc,rfl,g1,g2,g3⟩:=qg bc (by omega);have F:I (λk=>k=x) w w4:=(C.mono (T:=λk=>k=x) (λ_ c=>c.elim)).trans G (λk hk=>by simp[Value.ownBlock]at hk;exact .inl hk.symm);have al:w4.cell? ⟨e,6,none⟩=some (.slice (some ⟨x,0,none⟩) D eL):=F.cell t6 (λV=>R V) f;have ck:w4.heap[p]?=some (.cells #[.int .u64 bn,.int .u32 D,.int .u32 ac,.int .u32 (jv (dz (aW 0 b)))] 233 (0,0)):=(G.block p (ak ax) (λV=>by simp[Value.ownBlock]at V;omega)).trans ax;have N:bR w4 m bl:=B.ay F (λk hk V=>cv (V▸hk));have ad:D+ac=(jD b).length:=by unfold jD;rw[ag,K,hL]
 have cx:¬bl.aS m yb:=by
  intro c;rcases bh.sr with es|⟨fz,es,hy⟩
  ·simp[Value.ownBlock]at es;subst es;exact cv c
  ·simp[Value.ownBlock]at es;subst es;have:=B.lt _ c;omega
 have bi:=Aq m bl (eM bn) yb 0 yc (jD b) w4 N hg hn (by omega) (cj.append O) (Bytes.cells (by rw[<-ad];exact an.bytes)) g2 cx;rw[<-ad]at bi;have dc:=Z an;have ds:=Z G;have W:=Z ck;have q:=Z F;clear ad cx bc bh an G ck F g1 g2 g3 ce cn ax cc s;refine bT _ _ (λ_=>al) ?_;simp only[Act.put,ab,ae,af];refine aI (i:=9) rfl rfl (by kernel_rfl) ?_;intro K9 ca;go_simp;refine bi.mono ?_;rintro V g⟨rfl,K5,t,cs,cl⟩;have cd:g.cell? ⟨e,6,none⟩=some (.slice (some ⟨x,0,none⟩) D eL):=t.ay.cell al bg (ah f (Y q).size);refine ca _ _ (λ_=>cd) ?_;refine aI (i:=10) rfl rfl (by kernel_rfl) ?_;intro fl L;go_simp;refine L _ _ (λc=>(c rfl).elim) ?_;refine cr (by kernel_rfl) ?_ _;show KK _ _;refine r _ _ ?_;clear r bx bT ca L;have a:g.heap[e]?=some (.cells #[.pointer none,.int .u64 n0,.int .u32 c0,.int .u32 s0,.int .u32 m0,.slice (some ⟨H,j,none⟩) (aW 0 b).length bJ,.slice (some ⟨x,0,none⟩) D eL] 265 (0,0)):=by
  rw[<-K];exact(t.ay.block e (ah f (Y q).size) bg).trans (((Y q).block e f R).trans d)
 have ba:g.heap[p]?=some (.cells #[.int .u64 bn,.int .u32 D,.int .u32 ac,.int .u32 (jv (dz (aW 0 b)))] 233 (0,0)):=(t.ay.block p (ak (Y W)) (λc=>by have:=B.lt _ c;omega)).trans (Y W);have hQ:(g.drew.cell? ⟨p,0,none⟩=some (.int .u64 bn)/\g.drew.cell? ⟨p,1,none⟩=some (.int .u32 D)/\g.drew.cell? ⟨p,2,none⟩=some (.int .u32 ac)/\g.drew.cell? ⟨p,3,none⟩=some (.int .u32 (jv (dz (aW 0 b))))):=by
  simp only[aQ];refine⟨?_,?_,?_,?_⟩<;>(rw[aj ba];rfl)
 have bs:=Z a;have dn:=Z ba;have bo:=Z t;have bt:=Z cs;have bq:=Z cl;clear ba t cs cl B d hd hS al cd t6 hg hn bd hT P Q el o C ao cm bi N cj O hP;obtain⟨cB,cE,cM,cT⟩:=hQ;simp only[aQ]at cB cE cM cT;have dx:g.cell? ⟨e,0,none⟩=some (.pointer none):=by rw[aj a];rfl
 have dT:g.cell? ⟨e,1,none⟩=some (.int .u64 n0):=by rw[aj a];rfl
 have ea:g.cell? ⟨e,2,none⟩=some (.int .u32 c0):=by rw[aj a];rfl
 have eb:g.cell? ⟨e,3,none⟩=some (.int .u32 s0):=by rw[aj a];rfl
 have ec:g.cell? ⟨e,4,none⟩=some (.int .u32 m0):=by rw[aj a];rfl
 have ed:g.cell? ⟨e,6,none⟩=some (.slice (some ⟨x,0,none⟩) D eL):=by rw[aj a];rfl
 have ee:g.frozen? ⟨e,0,none⟩=false:=cG a;have ef:g.frozen? ⟨e,1,none⟩=false:=cG a;have eg:g.frozen? ⟨e,2,none⟩=false:=cG a;have ei:g.frozen? ⟨e,3,none⟩=false:=cG a;have ej:g.frozen? ⟨e,4,none⟩=false:=cG a;have ek:g.frozen? ⟨e,6,none⟩=false:=cG a;have fv:p≠e:=by omega
 have fe:e≠p:=by omega
 clear a;go_wp2_with fail
 rename_i fn dv cb;apply Cn dv
 ·intro bk;go_region
  all_goals exact bk
 refine cb _ _ ?_;have bp:=Z (Bx (Y dk) (Y q) (Y bo) (Y bt) (Y bq) (Y bs) bg em en eo K hL f);clear dx dT ea eb ec ed ee ef eg ei ej ek cB cE cM cT bs dn bo bt bq q W dc ds;go_wp2;go_ret;exact⟨rfl,Y bp⟩
def CX(w:J)(b u:Nat)(hu:u<18446744073709551616)(K:DK)(a:List (List E))(U:CK (aW 0 a))(hT:Steps w)(A:Pow w)(bq:(cC a).length<=100000)(ao:¬K.aS b 1)(C:bR w b K)(hg:cR (vw K.files) (eM u)=some (jD a)):Calls prog 123 #[.pointer (some ⟨b,0,none⟩),zf u (cC a).length (dz (aW 0 a)).length (jv (dz (aW 0 a)))] w λbc k=>
 ∃c f bJ,bc=.returned (.tuple #[.pointer (some ⟨c,0,none⟩),.nilIface])/\js k c (.pointer (some ⟨b,0,none⟩)) u (cC a).length (dz (aW 0 a)).length (jv (dz (aW 0 a))) f 0 bJ (.slice none 0 0) (aW 0 a)/\w.heap.size<=c/\w.heap.size<=f/\∃d,nJ w k b K d/\d.files=K.files/\d.cY=K.cY/\∀N,d.aS b N->K.aS b N:=by
 have m:∀N∈aW 0 a,N.Fits:=λN hk=>(U.can N hk).fits
 have ac:=U.len
 have bt:=U.ne
 have bs:(dz (aW 0 a)).length<=52004:=by
  have h1:=iV m;unfold dz;rw[ag,bw];omega
 have y:0<(dz (aW 0 a)).length:=by unfold dz;rw[ag,bw];omega
 have an:=uj a 0
 have br:(jD a).length=(cC a).length+(dz (aW 0 a)).length:=by unfold jD;rw[ag]
 have hcut:((jD a).drop (cC a).length).take (dz (aW 0 a)).length=dz (aW 0 a):=by unfold jD;simp
 obtain⟨cc,hF,s⟩:=gJ hg
 obtain⟨D,hD⟩:∃D,(cC a).length=D:=⟨_,rfl⟩
 obtain⟨L,G⟩:∃L,(dz (aW 0 a)).length=L:=⟨_,rfl⟩
 obtain⟨v,hc⟩:∃v,jv (dz (aW 0 a))=v:=⟨_,rfl⟩
 have e1:IntKind.i64.wrap (D:Int)=D:=by rw[bu];omega
 have e2:IntKind.i64.wrap (L:Int)=L:=by rw[bu];omega
 have bl:=Z (show∀F,I (λ_=>False) w F->Calls prog 127 #[.pointer (some ⟨b,0,none⟩),.string (eM u),.int .i64 D,.int .i64 L] F λbc k=>∃q r,bc=.returned (.tuple #[.slice (some ⟨q,0,none⟩) L r,.nilIface])/\dq k F.heap.size (.slice (some ⟨q,0,none⟩) L r) (dz (aW 0 a))/\I (K.aS b) F k/\∃d,nJ w k b K d/\d.files=K.files/\d.cY=K.cY/\∀N,d.aS b N->K.aS b N from by
  intro F p;have W:=C.ay p (λ_ _=>id);refine(vW b K (eM u) cc D L F W hF (by rw[s];omega) (by rw[s];omega) (by omega)).mono ?_;rintro bc k⟨v',rfl,H,d,l,h1,h2,h3⟩;rw[s,<-hD,<-G,hcut]at H;obtain⟨q,r,rfl,a1,a2,_⟩:=qg H y;rw[G]at H|-;exact⟨q,r,rfl,H,l.ay,d,⟨l.ok,(p.mono (T:=K.aS b) (λ_ v=>v.elim)).trans l.ay (λ_ h=>.inl h),λN hk=>.inl (h3 N hk)⟩,h1,h2,h3⟩)
 have bn:=Z (show∀e q r base(d:DK),nJ w e b K d->dq e base (.slice (some ⟨q,0,none⟩) L r) (dz (aW 0 a))->Calls prog 183 #[.slice (some ⟨q,0,none⟩) L r,.agg #[.int .u64 u,.int .u32 D,.int .u32 L,.int .u32 v]] e λbc k=>
  ∃f bJ,bc=.returned (.tuple #[.slice (some ⟨f,0,none⟩) (aW 0 a).length bJ,.bool true])/\e.heap.size<=f/\js (k.alloc (.cells #[.pointer (some ⟨b,0,none⟩),.int .u64 u,.int .u32 D,.int .u32 L,.int .u32 v,.slice (some ⟨f,0,none⟩) (aW 0 a).length bJ,.slice none 0 0] 265)) k.heap.size (.pointer (some ⟨b,0,none⟩)) u D L v f 0 bJ (.slice none 0 0) (aW 0 a)/\I (λ_=>False) e k from by
   intro e q r base d l H;have ax:Steps e:=λN hk=>l.ay.cell (hT N hk) ao hT.lt;have F:=dq.bytes H;rw[<-G]at F;have t:=yp q 0 r (aW 0 a) u e ax U F;rw[an,hD,G,hc]at t;refine t.mono ?_;rintro bc k⟨v',rfl,W,bx⟩;obtain⟨f,bJ,rfl,a1,a2,a3⟩:=qg W (by omega);refine⟨f,bJ,rfl,a1,⟨az _ rfl,?_,by omega,a3,by omega⟩,bx⟩;intro j ce hj;obtain⟨h1,⟨h2,h0⟩|⟨b',cb,bT,h2,_,bp⟩⟩:=cW (aM W (.cells #[.pointer (some ⟨b,0,none⟩),.int .u64 u,.int .u32 D,.int .u32 L,.int .u32 v,.slice (some ⟨f,0,none⟩) (aW 0 a).length bJ,.slice none 0 0] 265))
   ·omega
   ·cases h2;exact bp j ce hj)
 have ca:∀(x:Bool)(w:J),(Op.unary .not (.bool x)).run prog w=.ok (.bool (!x)) w:=λ_ _=>rfl
 have HPow:=Z A
 have bf:=Z C
 unfold zf
 rw[hD,G,hc]
 clear U hT A bq ao C hg m bs y an br hcut hF s hD G hc ac bt
 generalize(aW 0 a).length=cd at*
 go_enter func123,ntmps123
 go_wp2_with fail
 refine(vP u hu _ ((Y HPow).ay ((I.refl (λ_=>False) w).alloc _) id)).mono ?_
 rintro bc O⟨rfl,B⟩
 have n:O.heap[w.heap.size]?=some (.cells #[.int .u64 u,.int .u32 D,.int .u32 L,.int .u32 v] 233 (0,0)):=(B.block _ (by simp)).trans (az _ rfl)
 have p:I (λ_=>False) w O:=((I.refl (λ_=>False) w).alloc _).trans (I.aR (S:=λ_=>False) B) (λ_ v=>v.elim)
 have c0:O.cell? ⟨w.heap.size,0,none⟩=some (.int .u64 u):=by rw[aj n];rfl
 have c1:O.cell? ⟨w.heap.size,1,none⟩=some (.int .u32 D):=by rw[aj n];rfl
 have c2:O.cell? ⟨w.heap.size,2,none⟩=some (.int .u32 L):=by rw[aj n];rfl
 have bv:=(Y bl) O p
 have P:=Z n
 clear n p B
 go_wp2_with fail
 refine bv.mono ?_
 rintro bc e⟨q,r,rfl,al,ba,K3,c,X,z,x⟩
 have ad:¬K.aS b w.heap.size:=λv=>by have:=(Y bf).lt _ v;omega
 have g:=(ba.block _ (ak (Y P)) ad).trans (Y P)
 have d0:e.cell? ⟨w.heap.size,0,none⟩=some (.int .u64 u):=by rw[aj g];rfl
 have d1:e.cell? ⟨w.heap.size,1,none⟩=some (.int .u32 D):=by rw[aj g];rfl
 have d2:e.cell? ⟨w.heap.size,2,none⟩=some (.int .u32 L):=by rw[aj g];rfl
 have d3:e.cell? ⟨w.heap.size,3,none⟩=some (.int .u32 v):=by rw[aj g];rfl
 have t:=(Y bn) e q r _ K3 c al
 have Q:=Z g
 have bd:=Z c
 have bg:=Z X
 have bk:=Z z
 have bh:=Z x
 clear g c X z x al ba ad
 go_wp2_with fail
 refine t.mono ?_
 rintro bc w4⟨f,bJ,rfl,bo,V,h⟩
 have o:=(h.block _ (ak (Y Q)) id).trans (Y Q)
 have g0:w4.cell? ⟨w.heap.size,0,none⟩=some (.int .u64 u):=by rw[aj o];rfl
 have g1:w4.cell? ⟨w.heap.size,1,none⟩=some (.int .u32 D):=by rw[aj o];rfl
 have g2:w4.cell? ⟨w.heap.size,2,none⟩=some (.int .u32 L):=by rw[aj o];rfl
 have g3:w4.cell? ⟨w.heap.size,3,none⟩=some (.int .u32 v):=by rw[aj o];rfl
 have bi:=Z V
 have R:=Z h
 clear V h o
 go_wp2
 go_ret2
 have c:=Y bd
 have bb:=c.ay.size
 have h:=(Y R).alloc (.cells #[.pointer (some ⟨b,0,none⟩),.int .u64 u,.int .u32 D,.int .u32 L,.int .u32 v,.slice (some ⟨f,0,none⟩) cd bJ,.slice none 0 0] 265)
 refine⟨w4.heap.size,f,bJ,rfl,Y bi,aB bb (Y R).size,aB bb bo,K3,?_,Y bg,Y bk,Y bh⟩
 exact⟨c.ok.ay h (λ_ _=>id),c.ay.trans h (λ_ v=>v.elim),c.aS⟩
structure ar where
 tb:Nat
 ks:List fW
 cs:List (List E)
 num:Nat
def ar.ptr(t:ar):M:=.pointer (some ⟨t.tb,0,none⟩)
def ar.all(t:ar):List E:=t.cs.flatten
def fh(a:List fW):aa:=(a.head?.map fW.first).getD ⟨#[]⟩
def zm{a:List fW}(h:0<a.length):fm a=(a[a.length-1]'(by omega)).last:=by
 unfold fm;rw[List.getLast?_eq_getElem?,aA (by omega)];rfl
def wk{a:List fW}(h:0<a.length):fh a=(a[0]'h).first:=by
 unfold fh;cases a with
 |nil=>simp at h
 |cons k r=>rfl
def GP(w:J)(t:ar):Prop:=∃g a cut b e f c bJ d,js w t.tb g a cut b e f c bJ d t.ks
def GP.first{w:J}{t:ar}(A:GP w t):Calls prog 153 #[t.ptr] w λz y=>z=.returned (.string (fh t.ks))/\y=w:=by
 obtain⟨s,d,cut,e,o,r,g,bJ,h,q⟩:=A;rw[wk q.ne];exact Jy w t.tb s d cut e o r g bJ h t.ks q
def GP.last{w:J}{t:ar}(m:GP w t):Calls prog 154 #[t.ptr] w λl k=>l=.returned (.string (fm t.ks))/\∃q,k=w.drewN q:=by
 obtain⟨j,a,cut,b,f,h,d,bJ,e,g⟩:=m;rw[zm g.ne];exact LD w t.tb j a cut b f h d bJ e t.ks g
def js.dh{w w':J}{g:Nat}{h:M}{a cut b e:Int}{f c bJ:Nat}{d:M}{m:List fW}(l:js w g h a cut b e f c bJ d m)(n:w'.heap[g]?=w.heap[g]?)(o:w'.heap[f]?=w.heap[f]?):js w' g h a cut b e f c bJ d m:=⟨n.trans l.box,λj u r=>(bI (w:=w) o).trans (l.cells j u r),l.ne,l.le,l.small⟩
def GP.of_heap{w w':J}{t:ar}(y:GP w t)(s:w'.heap=w.heap):GP w' t:=by
 obtain⟨q,b,cut,d,h,o,e,bJ,g,r⟩:=y;exact⟨q,b,cut,d,h,o,e,bJ,g,r.dh (by rw[s]) (by rw[s])⟩
def GP.below{w q:J}{t:ar}(x:GP w t)(o:Below w.heap.size w q):GP q t:=by
 obtain⟨s,a,cut,b,h,r,d,bJ,e,g⟩:=x;exact⟨s,a,cut,b,h,r,d,bJ,e,g.dh (o.block _ g.lt.1) (o.block _ g.lt.2)⟩
structure ii(w:J)(v:M)(ts:List ar):Prop where
 row:Row w 1 v ts.length (ts.map ar.ptr)
 lt:∀k,v.ownBlock=some k->k<w.heap.size
 each:∀t∈ts,GP w t
 small:ts.length<=1000000000
def ii.below{w d:J}{v:M}{ts:List ar}(h:ii w v ts)(a:Below w.heap.size w d):ii d v ts:=by
 refine⟨(I.aR (S:=λ_=>False) a).row h.row (λk b=>⟨id,h.lt k b⟩),λk b=>ah (h.lt k b) a.size,λt e=>(h.each t e).below a,h.small⟩
def vJ(ts:List ar):Prop:=ts.Pairwise (λa b=>ep (fm a.ks) (fm b.ks)=true)
def DP(w:J)(v:M)(g bk:Nat)(b:List ar)(c:aa)(m:ii w v b)(l:dY w g v 105)(k:dY w bk (.string c) 9)(i:Nat)(j:i<b.length):Calls prog 231 #[.int .i64 i,.pointer (some ⟨g,0,none⟩),.pointer (some ⟨bk,0,none⟩)] w λo f=>o=.returned (.bool (!ep (fm b[i].ks) c))/\∃s,f=w.drewN s:=by
 obtain⟨d,⟨_,y⟩|⟨t,e,n,rfl,_,h⟩⟩:=m.row
 ·omega
 have q:w.cell? ⟨t,e+i,none⟩=some b[i].ptr:=by
  refine h i _ ?_;rw[cP,aA j];rfl
 have a:∀W,W.heap=w.heap->Calls prog 154 #[b[i].ptr] W λo f=>o=.returned (.string (fm b[i].ks))/\∃s,f=W.drewN s:=λW d=>((m.each _ (au j)).of_heap d).last;have c1:=l.cell;have c2:=k.cell;have p:=vu;have r:=m.small;have u:(i:Int)<(b.length:Int):=by omega
 have x:(0:Int)<=(i:Int):=by omega
 unfold ep;unfold ar.ptr at q a;generalize fm b[i].ks=A at*;generalize b[i].tb=z at*;clear m l k d h;go_enter func231,ntmps231
 go_wp2_with fail
 go_quiet(first|(go_at_call 154;refine Calls.quiet_of (a _ rfl)))
 go_wp2;go_ret;exact⟨rfl,nq,rfl⟩
def pF.PP{a:List fW}{b:List (List E)}(h:pF a b):0<a.length:=by rw[h.len];exact h.ne
def pF.sY{a:List fW}{b:List (List E)}(h:pF a b):∃x∈b.flatten,x.key=fm a:=by
 have d:=h.PP;have c:a.length-1<b.length:=by have:=h.len;omega
 have o:=h.yU (a.length-1) (by omega) c;have n:=o.ne;exact⟨_,bH.2 ⟨_,au c,au (show b[a.length-1].length-1<b[a.length-1].length by omega)⟩,by rw[zm d,o.last]⟩
def pF.AW{c:List fW}{a:List (List E)}(h:pF c a):∃x∈a.flatten,x.key=fh c:=by
 have d:=h.PP;have b:0<a.length:=by have:=h.len;omega
 have o:=h.yU 0 (by omega) b;exact⟨_,bH.2 ⟨_,au b,au o.ne⟩,by rw[wk d,o.first]⟩
def pF.xU{a:List fW}{c:List (List E)}(h:pF a c){x:E}(j:x∈c.flatten):ep (fm a) x.key=false:=by
 have g:=h.PP;have d:a.length-1<c.length:=by have:=h.len;omega
 have o:=h.yU (a.length-1) (by omega) d;obtain⟨m,e,b⟩:=bH.1 j;obtain⟨k,f,rfl⟩:=dj e;rw[zm g,o.last];rcases cJ k (a.length-1)with l|l
 ·have i:=(fU.1 h.li).2;exact fV (bG.1 i k _ f d l x b _ (au (by have:=o.ne;omega)))
 ·have:k=a.length-1:=by have:=h.len;omega
  subst this;exact fG.xS (h.li.sub (cu (au d))) o.ne b
def pF.Ep{d:List fW}{b:List (List E)}(h:pF d b){x:E}(m:x∈b.flatten):ep x.key (fh d)=false:=by
 have k:=h.PP;have c:0<b.length:=by have:=h.len;omega
 have o:=h.yU 0 (by omega) c;obtain⟨q,g,a⟩:=bH.1 m;obtain⟨n,i,rfl⟩:=dj g;rw[wk k,o.first];rcases de n with e|e
 ·subst e;obtain⟨p,j,rfl⟩:=dj a;rcases de p with f|f
  ·subst f;exact eT _
  ·have l:fG b[0]:=h.li.sub (cu (au c));exact fV (bG.1 l 0 p o.ne j f)
 ·have f:=(fU.1 h.li).2;exact fV (bG.1 f 0 n c i e _ (au o.ne) x a)
def bN(ts:List ar):List E:=(ts.map ar.all).flatten
def tN(t:ar)(a:List ar):bN (t::a)=t.all++bN a:=by simp[bN]
def gw(a b:List ar):bN (a++b)=bN a++bN b:=by simp[bN]
def oY{c:List ar}{x:E}:x∈bN c↔∃t∈c,x∈t.all:=by
 unfold bN;constructor
 ·intro h;obtain⟨e,d,b⟩:=bH.1 h;obtain⟨t,a,rfl⟩:=aZ.1 d;exact⟨t,a,b⟩
 ·rintro⟨t,a,b⟩;exact bH.2 ⟨_,aZ.2 ⟨t,a,rfl⟩,b⟩
structure jp(ts:List ar):Prop where
 pure:∀t∈ts,pF t.ks t.cs
 li:fG (bN ts)
def jp.pair{a:List ar}(h:jp a){i j:Nat}(c:i<a.length)(d:j<a.length)(b:i<j){x y:E}(f:x∈a[i].all)(g:y∈a[j].all):ep x.key y.key=true:=by
 have e:=(fU.1 h.li).2;exact bG.1 e i j (by simpa using c) (by simpa using d) b x (by simpa using f) y (by simpa using g)
def jp.sX{d:List ar}(h:jp d):vJ d:=by
 refine bG.2 (λi k b c a=>?_);obtain⟨x,g,e⟩:=(h.pure _ (au b)).sY;obtain⟨y,j,f⟩:=(h.pure _ (au c)).sY;rw[<-e,<-f];exact h.pair b c a g j
def jp.each{ts:List ar}(h:jp ts){t:ar}(a:t∈ts):fG t.all:=h.li.sub (cu (aZ.2 ⟨t,a,rfl⟩))
structure mB(ts:List ar)(key:aa)(k:Nat):Prop where
 le:k<=ts.length
 low:∀i(hi:i<ts.length),i<k->ep (fm ts[i].ks) key=true
 tT:∀i(hi:i<ts.length),k<=i->ep (fm ts[i].ks) key=false
def jp.wi{a:List ar}(q:jp a)(c:aa){k:Nat}(m:mB a c k):(((a.drop k).map ar.all).map (eX c)).flatten=eX c (bN a):=by
 have e:bN a=bN (a.take k)++bN (a.drop k):=by rw[<-gw,bF]
 have f:eX c (bN (a.take k))=[]:=by
  unfold eX;rw[gF];intro x n;obtain⟨t,l,d⟩:=oY.1 n;obtain⟨o,j,rfl⟩:=dj l;rw[fi]at d;have b:o<k/\o<a.length:=by simp at j;omega
  have h:=m.low o b.2 b.1;have i:=(q.pure _ (au b.2)).xU d;rw[sZ i h];simp
 have g:∀l:List (List E),(l.map (eX c)).flatten=eX c l.flatten:=by
  intro l;induction l with
  |nil=>rfl
  |cons d r b=>simp only[aY,aT,b];unfold eX;rw[iT]
 rw[g,e];unfold eX at*;rw[iT,f,cL];rfl
def jp.vz{c:List ar}(m:jp c){e:aa}{k:Nat}(i:mB c e k)(x:E)(o:x∈bN c)(d:x.key=e):∃r:k<c.length,x∈c[k].all:=by
 obtain⟨t,j,b⟩:=oY.1 o;obtain⟨q,f,rfl⟩:=dj j;have g:=(m.pure _ j).xU b;rcases jj q k with h|h|h
 ·have:=sZ g (i.low q f h);rw[d,eT]at this;cases this
 ·subst h;exact⟨f,b⟩
 ·have a:k<c.length:=by omega
  obtain⟨y,p,l⟩:=(m.pure _ (au a)).sY;have n:=i.tT k a (ai _);have:=m.pair a f h p b;rw[l,d,n]at this;cases this
def jp.tL{b:List ar}(h:jp b){a:aa}(d:mB b a b.length):fD (bN b) a=none:=by
 refine gd.2 (λx e c=>?_);obtain⟨f,_⟩:=h.vz d x e c;omega
def jp.wl{b:List ar}(h:jp b){a:aa}{k:Nat}(g:mB b a k)(f:k<b.length):fD (bN b) a=fD b[k].all a:=by
 refine qT h.li (h.each (au f)) (λx e=>⟨λc=>?_,λc=>oY.2 ⟨_,au f,c⟩⟩);obtain⟨_,d⟩:=h.vz g x c e;exact d
def uu(w:J)(v:M)(ts:List ar)(a:aa)(Q:ii w v ts)(O:vJ ts):Calls prog 197 #[v,.string a] w λK R=>∃l:Nat,K=.returned (.int .i64 l)/\mB ts a l/\Below w.heap.size w R:=by
 have C:Below w.heap.size w ((w.alloc (.cells #[v] 105)).alloc (.cells #[.string a] 9)):=((Below.refl _ w).alloc (ai _) _).alloc (by simp) _;have N:=Q.below C;have F:=Q.small;have q:=yE 231 #[.pointer (some ⟨w.heap.size,0,none⟩),.pointer (some ⟨w.heap.size+1,0,none⟩)] ts.length (λi=>if b:i<ts.length then !ep (fm ts[i].ks) a else true) ((w.alloc (.cells #[v] 105)).alloc (.cells #[.string a] 9)) (enters_of func231 (by kernel_rfl) rfl) (by omega) (by
  intro T y B p s;have o:T<ts.length:=by omega
  simp only[p,o,pG]at s|-;rcases lm B with z|z
  ·have h:=bG.1 O T y o p z;cases d:ep (fm ts[y].ks) a with
   |false=>rfl
   |true=>have:=iR h d;rw[this]at s;cases s
  ·subst z;exact s)
  (by
   intro i b W h;have A:=N.below h;have D:dY W w.heap.size v 105:=(h.block _ (by simp;omega)).trans (dY.alloc (az _ rfl) _);have E:dY W (w.heap.size+1) (.string a) 9:=(h.block _ (by simp)).trans (az _ (by simp));refine(DP W v w.heap.size (w.heap.size+1) ts a A D E i b).mono ?_;rintro K U⟨rfl,V,rfl⟩;simp only[b,pG];exact⟨trivial,below_drewN (Below.refl _ _) _⟩)
 have m:=Z q;have r:=Z C;have P:=Q.row.2;clear q N C Q O;have G:(v=.slice none 0 0/\ts.length=0)\/∃y f c,v=.slice (some ⟨y,f,none⟩) ts.length c:=by
  rcases P with z|⟨y,f,c,z,_⟩
  ·exact .inl z
  ·exact .inr ⟨y,f,c,z⟩
 clear P;have g:∀(K:Ending)(H:J)(l:Nat),l<=ts.length->(∀i,i<l->(if b:i<ts.length then !ep (fm ts[i].ks) a else true)=false)->(∀i,l<=i->i<ts.length->(if b:i<ts.length then !ep (fm ts[i].ks) a else true)=true)->mB ts a l:=by
  intro K H l e j k;refine⟨e,λi b h=>?_,λi b h=>?_⟩
  ·have:=j i h;simp only[b,pG]at this;simpa using this
  ·have:=k i h b;simp only[b,pG]at this;simpa using this
 rcases G with⟨rfl,L⟩|⟨y,f,c,rfl⟩
 ·obtain rfl:ts=[]:=aG L;clear g L F;go_enter func197,ntmps197
  go_wp2_with(go_at_call 230;refine(Y m).mono ?_;rintro K H⟨l,rfl,e,j,k,n⟩;have u:=Z e;have x:=Z n;clear e j k n)
  go_ret;have e:=Y u;refine⟨l,rfl,⟨e,λi b=>absurd b (fy i),λi b=>absurd b (fy i)⟩,(Y r).trans ((Y x).mono (Y r).size)⟩
 ·go_enter func197,ntmps197
  go_wp2_with(go_at_call 230;refine(Y m).mono ?_;rintro K H⟨l,rfl,e,j,k,n⟩;have u:=Z e;have h:=Z j;have o:=Z k;have x:=Z n;clear e j k n)
  go_ret;exact⟨l,rfl,g (.returned .nilIface) w l (Y u) (Y h) (Y o),(Y r).trans ((Y x).mono (Y r).size)⟩
structure nI(V:gz)(n0:Nat)(v:M)(ts:List ar)(w:J):Prop where
 row:Row w 1 v ts.length (ts.map ar.ptr)
 loc:∀k,v.ownBlock=some k->k<n0/\¬V.F k
 each:∀t∈ts,kA V n0 t.tb t.ks t.cs w
 side:jp ts
 small:ts.length<=1000000000
def kA.GR{V:gz}{j:Nat}{t:ar}{w:J}(l:kA V j t.tb t.ks t.cs w):GP w t:=by
 obtain⟨g,a,cut,b,e,f,c,bJ,d,h,_⟩:=l.mem;exact⟨g,a,cut,b,e,f,c,bJ,d,h⟩
def nI.mem{V:gz}{a:Nat}{v:M}{b:List ar}{w:J}(h:nI V a v b w)(d:a<=w.heap.size):ii w v b:=⟨h.row,λk c=>ah (h.loc k c).1 d,λt e=>(h.each t e).GR,h.small⟩
def Row.same{V:gz}{n0:Nat}{S:Nat->Prop}{w w':J}{a n:Nat}{v:M}{g:List M}(u:Row w a v n g)(hs:ia V n0 S w w')(o:∀k,v.ownBlock=some k->k<n0/\¬V.F k):Row w' a v n g:=by
 obtain⟨h,c⟩:=u;refine⟨h,?_⟩;rcases c with c|⟨r,e,b,rfl,d,j⟩
 ·exact .inl c
 ·exact .inr ⟨r,e,b,rfl,d,λh u c=>hs.cell (.inr (o r rfl)) (j h u c)⟩
def nI.same{V:gz}{n0:Nat}{v:M}{a:List ar}{w w':J}(h:nI V n0 v a w)(hs:ia V n0 (λ_=>False) w w'):nI V n0 v a w':=⟨h.row.same hs h.loc,h.loc,λt b=>(h.each t b).same hs,h.side,h.small⟩
def nI.cell{V:gz}{n0 b a d n:Nat}{ts:List ar}{w:J}(r:nI V n0 (.slice (some ⟨b,a,none⟩) n d) ts w){i:Nat}(q:i<ts.length):w.cell? ⟨b,a+i,none⟩=some ts[i].ptr:=by
 obtain⟨_,⟨e,_⟩|⟨b',h,g,e,_,o⟩⟩:=r.row
 ·cases e
 ·cases e;refine o i _ ?_;rw[cP,aA q];rfl
def nI.shape{V:gz}{e:Nat}{v:M}{ts:List ar}{w:J}(h:nI V e v ts w):(v=.slice none 0 0/\ts=[])\/∃c b a,v=.slice (some ⟨c,b,none⟩) ts.length a:=by
 rcases h.row.2 with⟨d,f⟩|⟨c,b,a,d,_⟩
 ·exact .inl ⟨d,aG f⟩
 ·exact .inr ⟨c,b,a,d⟩
def Ea(V:gz)(c:Nat)(an:M)(l h j k:Nat)(b:List ar)(f:aa)(w:J)(D:nI V c an b w)(B:dY w l an 105)(t:dY w h (.int .i64 k) 3)(u:dY w j (.string f) 9)(F:V.D w)(o:c<=w.heap.size)(hF:∀k,V.F k->k<c)(z:c<=l)(x:c<=h)(y:c<=j)(i:Nat)(r:k+i<b.length):Calls prog 289 #[.int .i64 i,.pointer (some ⟨l,0,none⟩),.pointer (some ⟨h,0,none⟩),.pointer (some ⟨j,0,none⟩)] w λQ a=>∃q g,Q=.returned (.tuple #[q,.nilIface])/\gy V c q (eX f b[k+i].all) g a/\V.D a/\I V.F w a/\(∀k,g k->w.heap.size<=k):=by
 rcases D.shape with⟨_,X⟩|⟨E,e,m,rfl⟩
 ·subst X;simp at r
 have c1:=B.cell;have c2:=t.cell;have c3:=u.cell;have A:=D.cell r;have H:=(D.loc E rfl);have al:=D.small;have n:Calls prog 290 #[b[k+i].ptr,.string f] w.drew λQ a=>∃q g,Q=.returned q/\gy V c q (eX f b[k+i].all) g a/\V.D a/\I V.F w.drew a/\(∀k,g k->w.heap.size<=k):=wO V c b[k+i].tb b[k+i].ks b[k+i].cs f w.drew ((D.each _ (au r)).same ⟨ai _,λ_ _=>rfl⟩) (V.dF F (bS (λ_=>False) w) (λ_ ac=>ac.elim)) o hF;have s:=Z (show∀a,I V.F w.drew a->a.cell? ⟨l,0,none⟩=some (.slice (some ⟨E,e,none⟩) b.length m)/\a.cell? ⟨h,0,none⟩=some (.int .i64 k)/\a.cell? ⟨E,e+(k+i),none⟩=some b[k+i].ptr/\a.cell? ⟨j,0,none⟩=some (.string f)from by
  intro a d;have v:∀x,c<=x->¬V.F x:=λx b a=>by have:=hF x a;omega
  exact⟨d.cell c1 (v _ z) (ak B),d.cell c2 (v _ x) (ak t),d.cell A H.2 (ah H.1 o),d.cell c3 (v _ y) (ak u)⟩)
 have hW:I V.F w w.drew:=bS _ _;generalize b[k+i]=P at*;obtain⟨p,K⟩:∃p,k+i=p:=⟨_,rfl⟩;rw[K]at A s r;have G:(k:Int)+(i:Int)=(p:Int):=by omega
 have e1:(p:Int)<(b.length:Int):=by omega
 have e2:(0:Int)<=(p:Int):=by omega
 have e3:p<1000000000:=by omega
 have e4:IntKind.i64.wrap (p:Int)=(p:Int):=by rw[bu];omega
 have e5:wrap64 (p:Int)=(p:Int):=by unfold wrap64;omega
 unfold ar.ptr at A s n;generalize P.all=ao at*;generalize P.tb=tb at*;clear D B t u F hF K;go_enter func289,ntmps289
 go_wp2_with fail
 go_region_held3(λX=>X.cell? ⟨l,0,none⟩=some (.slice (some ⟨E,e,none⟩) b.length m)/\X.cell? ⟨h,0,none⟩=some (.int .i64 k)/\X.cell? ⟨E,e+p,none⟩=some (.pointer (some ⟨tb,0,none⟩))/\X.cell? ⟨j,0,none⟩=some (.string f)) (first|assumption|go_keep) (first
  |(go_at_call 290;refine n.mono ?_;rintro Q w1⟨v1,W,rfl,L,N,C,O⟩;have ad:=(Y s) w1 C;have R:=Z L;have S:=Z N;have T:=Z C;have U:=Z O;clear L N C O))
 go_wp2;go_ret2
 exact⟨v1,W,rfl,Y R,Y S,hW.trans (Y T) (λ_ ac=>.inl ac),Y U⟩
def Ly(V:gz)(a:Nat)(v:M)(e c d m:Nat)(k:List ar)(n:aa):vG V a (((k.drop m).map ar.all).map (eX n))where
 f:=289
 cb:=#[.pointer (some ⟨e,0,none⟩),.pointer (some ⟨c,0,none⟩),.pointer (some ⟨d,0,none⟩)]
 inv:=λW=>nI V a v k W/\(dY W e v 105/\dY W c (.int .i64 m) 3/\dY W d (.string n) 9)/\(a<=e/\a<=c/\a<=d)/\a<=W.heap.size/\∀m,V.F m->m<a
 S:=λx=>x=e\/x=c\/x=d
 Kj:=enters_of func289 (by kernel_rfl) rfl
 call:=by
  rintro u s W⟨l,⟨g,h,i⟩,⟨o,p,q⟩,b,hF⟩r;have j:m+u<k.length:=by simp at s;omega
  have:=Ea V a v e c d m k n W l g h i r b hF o p q u j;simpa using this
 dF:=by
  rintro W s⟨l,⟨g,h,i⟩,r,b,hF⟩j;exact⟨l.same (j.mono (λ_ c=>c.elim)),⟨g.same j (.inl rfl),h.same j (.inr (.inl rfl)),i.same j (.inr (.inr rfl))⟩,r,aB b j.1,hF⟩
 lt:=by
  rintro W⟨_,⟨g,h,i⟩,⟨o,p,q⟩,_⟩x(rfl|rfl|rfl)
  ·exact⟨o,ak g⟩
  ·exact⟨p,ak h⟩
  ·exact⟨q,ak i⟩
def Ji(V:gz)(j:Nat)(v:M)(e:List ar)(d:aa)(w:J)(F:nI V j v e w)(Q:V.D w)(f:j<=w.heap.size)(hF:∀k,V.F k->k<j):Calls prog 286 #[v,.string d] w λz l=>∃q m,z=.returned q/\gy V j q (eX d (bN e)) m l/\V.D l/\I V.F w l/\(∀k,m k->w.heap.size<=k):=by
 have o:Below w.heap.size w ((w.alloc (.cells #[v] 105)).alloc (.cells #[.string d] 9)):=((Below.refl _ w).alloc (ai _) _).alloc (by simp) _;have r:=uu _ v e d ((F.mem f).below o) F.side.sX;have ac:=F.small;have H:=F.shape;have O:=Z (show∀(b:J)(k:Nat),Below ((w.alloc (.cells #[v] 105)).alloc (.cells #[.string d] 9)).heap.size ((w.alloc (.cells #[v] 105)).alloc (.cells #[.string d] 9)) b->mB e d k->Calls prog 288 #[.int .i64 ((e.length-k:Nat):Int),.func (.func 289) #[] #[.pointer (some ⟨w.heap.size,0,none⟩),.pointer (some ⟨b.heap.size,0,none⟩),.pointer (some ⟨w.heap.size+1,0,none⟩)]] (b.alloc (.cells #[.int .i64 k] 3)) λz l=>∃q m,z=.returned q/\gy V j q (eX d (bN e)) m l/\V.D l/\I V.F w l/\(∀k,m k->w.heap.size<=k)from by
  intro b k a h;have p:=a.size;simp at p;have g:I (λ_=>False) w (b.alloc (.cells #[.int .i64 k] 3)):=(((I.aR (S:=λ_=>False) o).trans (I.aR (S:=λ_=>False) a) (λ_ n=>n.elim)).alloc _);have K:dY b w.heap.size v 105:=(a.block _ (by simp;omega)).trans (dY.alloc (az _ rfl) _);have L:dY b (w.heap.size+1) (.string d) 9:=(a.block _ (by simp)).trans (az _ (by simp));have G:nI V j v e (b.alloc (.cells #[.int .i64 k] 3)):=F.same (g.same f (λ_ n=>n.elim) (λ_ n=>n.elim));have c:=Bh V j _ (Ly V j v w.heap.size b.heap.size (w.heap.size+1) k e d) (b.alloc (.cells #[.int .i64 k] 3)) ⟨G,⟨K.alloc _,az _ rfl,L.alloc _⟩,⟨f,by omega,by omega⟩,aB f g.size,hF⟩ (aB f g.size) hF (by simp;omega);have X:(((e.drop k).map ar.all).map (eX d)).length=e.length-k:=by simp
  rw[X]at c;refine c.mono ?_;rintro z l⟨q,m,rfl,R,W,U⟩;rw[F.side.wi d h]at R;have i:=g.trans (I.aR (S:=λ_=>False) W) (λ_ n=>n.elim);refine⟨q,m,rfl,R,V.dF Q i (λ_ n=>n.elim),i.mono (λ_ n=>n.elim),λan hx=>?_⟩;have ad:=g.size;rcases U an hx with(n|n|n)|n<;>omega)
 have P:=Z (show∀b,Below ((w.alloc (.cells #[v] 105)).alloc (.cells #[.string d] 9)).heap.size ((w.alloc (.cells #[v] 105)).alloc (.cells #[.string d] 9)) b->b.cell? ⟨w.heap.size,0,none⟩=some v/\w.heap.size<b.heap.size from by
  intro b a;have p:=a.size;simp at p;exact⟨dY.cell (t:=105) ((a.block _ (by simp;omega)).trans (dY.alloc (az _ rfl) _)),by omega⟩)
 clear F Q hF o;rcases H with⟨rfl,rfl⟩|⟨ao,al,T,rfl⟩
 ·go_enter func286,ntmps286
  go_wp2_with fail
  refine r.mono ?_;rintro z b⟨k,rfl,h,a⟩;obtain rfl:k=0:=Nat.le_zero.1 h.le;have c:=(Y O) b 0 a h;obtain⟨y1,y2⟩:=(Y P) b a;clear h a;go_wp2_with fail
  refine c.mono ?_;rintro z w2⟨N,E,rfl,s,u,x,y⟩;have A:=Z s;have B:=Z u;have C:=Z x;have D:=Z y;clear s u x y;go_wp2;go_ret;exact⟨N,E,rfl,Y A,Y B,Y C,Y D⟩
 ·go_enter func286,ntmps286
  go_wp2_with fail
  refine r.mono ?_;rintro z b⟨k,rfl,h,a⟩;have n:=h.le;have c:=(Y O) b k a h;obtain⟨y1,y2⟩:=(Y P) b a;obtain⟨g,i⟩:∃g,e.length-k=g:=⟨_,rfl⟩;rw[i]at c;have G:(e.length:Int)-(k:Int)=(g:Int):=by omega
  have K:g<=1000000000:=by omega
  have L:IntKind.i64.wrap (g:Int)=(g:Int):=by rw[bu];omega
  clear h a i;go_wp2_with fail
  refine c.mono ?_;rintro z w2⟨N,E,rfl,s,u,x,y⟩;have A:=Z s;have B:=Z u;have C:=Z x;have D:=Z y;clear s u x y;go_wp2;go_ret;exact⟨N,E,rfl,Y A,Y B,Y C,Y D⟩
def Fl{f:List ar}{b:aa}{k a:Nat}(h:mB f b k)(c:mB f b a):k=a:=by
 rcases jj k a with e|e|e
 ·have g:=c.low k (by have:=c.le;omega) e;have d:=h.tT k (by have:=c.le;omega) (ai _);rw[g]at d;cases d
 ·exact e
 ·have g:=h.low a (by have:=h.le;omega) e;have d:=c.tT a (by have:=h.le;omega) (ai _);rw[g]at d;cases d
def yy:∀{d:List ar},vJ d->∀a,∃k,mB d a k
 |[],_,_=>⟨0,ai _,λi b=>absurd b (fy i),λi b=>absurd b (fy i)⟩
 |t::d,l,a=>by
  obtain⟨h,j⟩:=bL.1 l;cases e:ep (fm t.ks) a with
  |true=>
   obtain⟨k,g⟩:=yy j a;refine⟨k+1,Nat.succ_le_succ g.le,λi b c=>?_,λi b c=>?_⟩
   ·cases i with
    |zero=>exact e
    |succ i=>exact g.low i (by simpa using b) (by omega)
   ·cases i with
    |zero=>omega
    |succ i=>exact g.tT i (by simpa using b) (by omega)
  |false=>
   refine⟨0,aU _,λi b c=>absurd c (fy i),λi b _=>?_⟩;cases i with
   |zero=>exact e
   |succ i=>
    have g:=h _ (au (show i<d.length by simpa using b));cases f:ep (fm ((t::d)[i+1].ks)) a with
    |false=>rfl
    |true=>
     have:ep (fm t.ks) a=true:=iR g f;rw[e]at this;cases this
def Jj(V:gz)(N:Nat)(ad:M)(l:List ar)(g:aa)(w:J)(K:nI V N ad l w)(O:V.D w)(j:N<=w.heap.size)(hF:∀y,V.F y->y<N):Calls prog 285 #[ad,.string g] w λH z=>H=.returned (pm (fD (bN l) g))/\V.D z/\I V.F w z:=by
 obtain⟨y,q⟩:=yy K.side.sX g;have n:Below w.heap.size w (w.alloc (.cells #[.string ⟨#[]⟩,.string ⟨#[]⟩,.bool false,.int .u64 0] 177)):=(Below.refl _ w).alloc (ai _) _;have al:=K.small;have x:Calls prog 197 #[ad,.string g] (w.alloc (.cells #[.string ⟨#[]⟩,.string ⟨#[]⟩,.bool false,.int .u64 0] 177)) λH z=>H=.returned (.int .i64 y)/\Below w.heap.size w z/\fX z w.heap.size zE:=by
  refine(uu _ ad l g ((K.mem j).below n) K.side.sX).mono ?_;rintro H z⟨e,rfl,k,b⟩;obtain rfl:y=e:=Fl q k;exact⟨rfl,n.trans (b.mono n.size),(b.block _ (by simp)).trans (az _ rfl)⟩
 have v:∀L,N<=L->¬V.F L:=λL A a=>by have:=hF L a;omega
 have t:=Z v;have C:=Z (λW(u:Below w.heap.size w W)=>V.dF O (I.aR (S:=λ_=>False) u) (λ_ ac=>ac.elim));have d:=Z (λW(u:Below w.heap.size w W)=>K.same ((I.aR (S:=λ_=>False) u).same j (λ_ ac=>ac.elim) (λ_ ac=>ac.elim)));by_cases o:y<l.length
 ·rcases K.shape with⟨_,h0⟩|⟨an,R,Q,rfl⟩
  ·subst h0;simp at o
  rw[K.side.wl q o];have P:=Z (λW(u:Below w.heap.size w W)=>((Y d) W u).cell o);have m:=Z (λW(u:Below w.heap.size w W)=>wP V N l[y].tb l[y].ks l[y].cs g W (((Y d) W u).each _ (au o)) ((Y C) W u) (aB j u.size) hF);have e:∀W,Below w.heap.size w W->Calls prog 287 #[.pointer (some ⟨l[y].tb,0,none⟩),.string g] W λH z=>H=.returned (pm (fD l[y].all g))/\V.D z/\I V.F W z:=Y m;have e1:((y:Int)==(l.length:Int))=false:=by simp;omega
  have e2:(y:Int)<(l.length:Int):=by omega
  have e3:(0:Int)<=(y:Int):=by omega
  clear m K q O hF v n d;unfold ar.ptr at P;generalize fD l[y].all g=fe at*;generalize l[y].tb=tb at*;cases fe with
  |none=>
   simp only[pm,tQ]at e;have m:=Z e;clear e;go_enter func285,ntmps285
   go_wp2_with(first
    |(go_at_call 197;refine x.mono ?_;rintro H s⟨rfl,c,a⟩;have hc:=(Y P) s c;have G:=(Y m) s c;have h:=Z a;have f:=Z c;clear a c)
    |(go_at_call 287;refine G.mono ?_;rintro H T⟨rfl,p,k⟩;have b:=(Y h).ay k ((Y t) _ j);obtain⟨z0,z1,z2,z3⟩:=b.cells;have y0:=b.free (i:=0);have y1:=b.free (i:=1);have y2:=b.free (i:=2);have y3:=b.free (i:=3);have D:=Z b;have B:=Z p;have F:=Z k;clear b p k))
   refine bO (ez rfl _ _ w.heap.size zE _ _ rfl ((Y D).put zE)) rfl ?_;have r:=gq T w.heap.size zE;refine⟨rfl,V.dF (Y B) r (λL A=>by subst A;exact(Y t) _ j),((I.aR (S:=V.F) (Y f)).trans (Y F) (λy q=>.inl q)).trans r (λL A=>.inr (by omega))⟩
  |some L=>
   obtain⟨xk,xv,X,U⟩:=L;simp only[pm,E.value]at e;have m:=Z e;clear e;go_enter func285,ntmps285
   go_wp2_with(first
    |(go_at_call 197;refine x.mono ?_;rintro H s⟨rfl,c,a⟩;have hc:=(Y P) s c;have G:=(Y m) s c;have h:=Z a;have f:=Z c;clear a c)
    |(go_at_call 287;refine G.mono ?_;rintro H T⟨rfl,p,k⟩;have b:=(Y h).ay k ((Y t) _ j);obtain⟨z0,z1,z2,z3⟩:=b.cells;have y0:=b.free (i:=0);have y1:=b.free (i:=1);have y2:=b.free (i:=2);have y3:=b.free (i:=3);have D:=Z b;have B:=Z p;have F:=Z k;clear b p k))
   refine bO (ez rfl _ _ w.heap.size ⟨xk,xv,X,U⟩ _ _ rfl ((Y D).put ⟨xk,xv,X,U⟩)) rfl ?_;have r:=gq T w.heap.size ⟨xk,xv,X,U⟩;refine⟨rfl,V.dF (Y B) r (λL A=>by subst A;exact(Y t) _ j),((I.aR (S:=V.F) (Y f)).trans (Y F) (λy q=>.inl q)).trans r (λL A=>.inr (by omega))⟩
 ·have k:y=l.length:=by have:=q.le;omega
  subst k;have b:=K.side.tL q;rw[b];rcases K.shape with⟨rfl,rfl⟩|⟨an,R,Q,rfl⟩
  ·clear K q O hF v n b o d;go_enter func285,ntmps285
   go_wp2_with(go_at_call 197;refine x.mono ?_;rintro H s⟨rfl,c,a⟩;obtain⟨z0,z1,z2,z3⟩:=a.cells;have y0:=a.free (i:=0);have y1:=a.free (i:=1);have y2:=a.free (i:=2);have y3:=a.free (i:=3);have h:=Z a;have f:=Z c;clear a c)
   refine bO (ez rfl _ _ w.heap.size zE _ _ rfl ((Y h).put zE)) rfl ?_;have e:Below w.heap.size w (qK s w.heap.size zE):=(Y f).trans ((gq s w.heap.size zE).below (Y f).size (λL A=>by omega));exact⟨rfl,(Y C) _ e,I.aR e⟩
  ·clear K q O hF v n b o d;go_enter func285,ntmps285
   go_wp2_with(go_at_call 197;refine x.mono ?_;rintro H s⟨rfl,c,a⟩;obtain⟨z0,z1,z2,z3⟩:=a.cells;have y0:=a.free (i:=0);have y1:=a.free (i:=1);have y2:=a.free (i:=2);have y3:=a.free (i:=3);have h:=Z a;have f:=Z c;clear a c)
   refine bO (ez rfl _ _ w.heap.size zE _ _ rfl ((Y h).put zE)) rfl ?_;have e:Below w.heap.size w (qK s w.heap.size zE):=(Y f).trans ((gq s w.heap.size zE).below (Y f).size (λL A=>by omega));exact⟨rfl,(Y C) _ e,I.aR e⟩
def Bz(w:J)(t:ar)(Q:GP w t)(v:nQ t.ks<=1000000000):Calls prog 229 #[t.ptr] w λP K=>P=.returned (.int .i64 (nQ t.ks:Nat))/\Below w.heap.size w K:=by
 obtain⟨O,i,cut,o,G,k,b,bJ,u,f⟩:=Q;obtain⟨H,a,N,num⟩:=t;simp only at v f|-;unfold ar.ptr;simp only;have x:w.cell? ⟨H,5,none⟩=some (.slice (some ⟨k,b,none⟩) a.length bJ):=by rw[aj f.box];rfl
 have m:=f.lt;have z:=f.small;have s:=Z f.cells;clear f;go_enter func229,ntmps229
 go_wp2;go_loopw [3,11] (λc i wr=>∃n:Nat,n<=a.length/\i=.int .i64 n/\c=.int .i64 (nQ (a.take n):Nat)/\Below w.heap.size w wr) (λ_ i _=>a.length-(intOf i).toNat)
 case atStart=>exact⟨0,aU _,rfl,rfl,Below.refl _ _⟩
 case round=>
  obtain⟨n,R,rfl,rfl,d⟩:=hrel;have y:=ww a n;have c:=ww a (n+1);by_cases h:n<a.length
  ·have e:∀j v,j<5->(fW.cells a[n])[j]?=some v->wr.cell? ⟨k,b+n*5+j,none⟩=some v:=λj v c f=>(d.cell (p:=⟨k,b+n*5+j,none⟩) m.2).trans (by rw[aP];exact(Y s) _ _ ((fC a n j h c).trans f));rw[aq h,wy]at c;have g:=Z (show nQ (a.take (n+1))=nQ (a.take n)+a[n].count by rw[aq h,wy]);generalize a[n]=S at*;obtain⟨pos,r,l,first,q⟩:=S;have B:=e 0 _ (by omega) rfl;have C:=e 1 _ (by omega) rfl;have D:=e 2 _ (by omega) rfl;have E:=e 3 _ (by omega) rfl;have F:=e 4 _ (by omega) rfl;clear e;simp only[kD]at B C D E F;simp only at c g;generalize nQ (a.take n)=L at*;have j:=Z d;have A:=d.size;clear d;go_wp2;go_roundw;case rel=>exact⟨n+1,h,by go_num,by rw[Y g];go_num,(Y j).alloc A _⟩
   case measure=>simp[intOf];omega
  ·have e:n=a.length:=by omega
   subst e;rw[bD];have j:=Z d;clear d;go_wp2;go_ret;exact⟨rfl,Y j⟩
def nP(a:List ar):Nat:=(a.map (λt=>nQ t.ks)).sum
def Bd(a:List ar)(t:ar):nP (a++[t])=nP a+nQ t.ks:=by simp[nP]
def Bc(a:List ar)(n:Nat):nP (a.take n)<=nP a:=by
 have h:=bB (λl=>(l.map (λt:ar=>nQ t.ks)).sum) (bF n a);simp only[aN,eG]at h;unfold nP;omega
def MA{a:List ar}{t:ar}(h:t∈a):nQ t.ks<=nP a:=by
 induction a with
 |nil=>cases h
 |cons c r b=>
  unfold nP at*;rcases aD.1 h with rfl|h
  ·simp
  ·have:=b h;simp only[aY,fA];omega
def ii.cell{b a d n:Nat}{ts:List ar}{w:J}(r:ii w (.slice (some ⟨b,a,none⟩) n d) ts){i:Nat}(q:i<ts.length):w.cell? ⟨b,a+i,none⟩=some ts[i].ptr:=by
 obtain⟨_,⟨e,_⟩|⟨b',h,g,e,_,o⟩⟩:=r.row
 ·cases e
 ·cases e;refine o i _ ?_;rw[cP,aA q];rfl
def ii.shape{v:M}{ts:List ar}{w:J}(h:ii w v ts):(v=.slice none 0 0/\ts=[])\/∃c b a,v=.slice (some ⟨c,b,none⟩) ts.length a/\ts.length<=a:=by
 rcases h.row.2 with⟨d,e⟩|⟨c,b,a,d,e,_⟩
 ·exact .inl ⟨d,aG e⟩
 ·exact .inr ⟨c,b,a,d,e⟩
def Gd(w:J)(y:M)(a:List ar)(k:ii w y a)(A:nP a<=1000000000):Calls prog 196 #[y] w λx v=>x=.returned (.int .i64 (nP a:Nat))/\Below w.heap.size w v:=by
 have t:=k.small;rcases k.shape with⟨rfl,rfl⟩|⟨E,u,q,rfl,_⟩
 ·clear k;go_enter func196,ntmps196
  go_wp2;go_loopw [3,8] (λo l wr=>l=.int .i64 0/\o=.int .i64 0/\wr=w) (λ_ _ _=>0)
  case atStart=>exact⟨rfl,rfl,rfl⟩
  case round=>
   obtain⟨rfl,rfl,rfl⟩:=hrel;go_wp2;go_ret;exact⟨rfl,Below.refl _ _⟩
 ·have m:=Z k;clear k;go_enter func196,ntmps196
  go_wp2;go_loopw [3,8] (λo l wr=>∃n:Nat,n<=a.length/\l=.int .i64 n/\o=.int .i64 (nP (a.take n):Nat)/\Below w.heap.size w wr) (λ_ l _=>a.length-(intOf l).toNat)
  case atStart=>exact⟨0,aU _,rfl,rfl,Below.refl _ _⟩
  case round=>
   obtain⟨n,B,rfl,rfl,d⟩:=hrel;have r:=Bc a n;have f:=Bc a (n+1);by_cases c:n<a.length
   ·have b:=(Y m).below d;have s:=b.cell c;rw[aq c,Bd]at f;have j:=Z (show nP (a.take (n+1))=nP (a.take n)+nQ a[n].ks by rw[aq c,Bd]);have g:=Bz wr a[n] (b.each _ (au c)) (by have:=MA (au c);omega);clear b;unfold ar.ptr at s g;generalize nQ a[n].ks=F at*;generalize a[n].tb=C at*;generalize nP (a.take n)=z at*;have h:=Z d;clear d;go_wp2_with fail
    refine g.mono ?_;rintro x D⟨rfl,e⟩;have i:=Z e;clear e;go_wp2;go_roundw;case rel=>exact⟨n+1,c,by go_num,by rw[Y j];go_num,(Y h).trans ((Y i).mono (Y h).size)⟩
    case measure=>simp[intOf];omega
   ·have b:n=a.length:=by omega
    subst b;rw[bD];have h:=Z d;clear d;go_wp2;go_ret;exact⟨rfl,Y h⟩
def ii.take{w:J}{q b a:Nat}{ts:List ar}(h:ii w (.slice (some ⟨q,b,none⟩) ts.length a) ts)(i:Nat)(z:i<=ts.length):ii w (.slice (some ⟨q,b,none⟩) i a) (ts.take i):=by
 have t:(ts.take i).length=i:=by simp;omega
 have r:=h.shape;refine⟨⟨by simp,.inr ⟨q,b,a,by rw[t],?_,λj u d=>?_⟩⟩,λk s=>h.lt k s,λA y=>h.each A (dC y),by have:=h.small;omega⟩
 ·rcases r with⟨c,_⟩|⟨b',o,g,c,x⟩
  ·cases c
  ·cases c;omega
 ·rw[List.map_take,jF]at d;split at d
  ·rename_i g;rw[cP,aA (by omega)]at d;cases d;exact h.cell (by omega)
  ·cases d
def ii.drop{w:J}{q b a:Nat}{ts:List ar}(h:ii w (.slice (some ⟨q,b,none⟩) ts.length a) ts)(i:Nat)(A:i<=ts.length):ii w (.slice (some ⟨q,b+i,none⟩) (ts.length-i) (a-i)) (ts.drop i):=by
 have x:(ts.drop i).length=ts.length-i:=by simp
 have r:=h.shape;refine⟨⟨by simp,.inr ⟨q,b+i,a-i,by rw[x],?_,λj u g=>?_⟩⟩,λk s=>h.lt k (by simpa[Value.ownBlock]using s),λt z=>h.each t (cg z),by have:=h.small;omega⟩
 ·rcases r with⟨c,_⟩|⟨b',o,d,c,y⟩
  ·cases c
  ·cases c;omega
 ·rw[List.map_drop,jG]at g;have d:i+j<ts.length:=by
   rcases cJ (i+j) ts.length with c|c
   ·exact c
   ·rw[ci (by simpa using c)]at g;cases g
  rw[cP,aA d]at g;cases g;rw[aP];exact h.cell d
def ii.empty{w:J}{d c b n:Nat}{ts:List ar}(h:ii w (.slice (some ⟨d,c,none⟩) n b) ts)(a:Nat):ii w (.slice (some ⟨d,a,none⟩) 0 0) []:=⟨⟨rfl,.inr ⟨d,a,0,rfl,ai _,(by intro j u e;simp at e)⟩⟩,(λk f=>h.lt k (by simpa[Value.ownBlock]using f)),(by intro t g;cases g),aU _⟩
structure vL(ts:List ar)(lo hi:aa)(i j:Nat):Prop where
 Ox:mB ts lo i
 le:i<=j
 jU:j<=ts.length
 within:∀k(hk:k<ts.length),i<=k->k<j->ep hi (fh ts[k].ks)=false
 behind:∀(hj:j<ts.length),ep hi (fh ts[j].ks)=true
def zn(w:J)(v:M)(ts:List ar)(C m:aa)(W:ii w v ts)(P:vJ ts):Calls prog 152 #[v,.string C,.string m] w λK D=>∃i B Q R U,K=.returned (.tuple #[Q,R,U])/\vL ts C m i B/\ii D Q (ts.take i)/\ii D R ((ts.drop i).take (B-i))/\ii D U (ts.drop B)/\(∀k,Q.ownBlock=some k\/R.ownBlock=some k\/U.ownBlock=some k->v.ownBlock=some k)/\Below w.heap.size w D:=by
 have an:=W.small;have z:=uu w v ts C W P;rcases W.shape with⟨rfl,rfl⟩|⟨ac,j,b,rfl,ad⟩
 ·clear W P;go_enter func152,ntmps152
  go_wp2_with fail
  refine z.mono ?_;rintro K V⟨k,rfl,c,f⟩;obtain rfl:k=0:=Nat.le_zero.1 c.le;have H:=Z c;have E:=Z f;clear c f;go_wp2;go_loopw [10] (λB wr=>B=.int .i64 0/\wr=V) (λ_ _=>0)
  case atStart=>exact⟨rfl,rfl⟩
  case round=>
   obtain⟨rfl,e⟩:=hrel;subst wr;go_wp2_with fail
   go_quiet(fail)
   go_wp2;go_ret3
   have a:ii (V.drewN nq) (.slice none 0 0) []:=⟨⟨rfl,.inl ⟨rfl,rfl⟩⟩,(by intro k c;cases c),(by intro t d;cases d),aU _⟩;exact⟨0,0,_,_,_,rfl,⟨Y H,ai _,ai _,λk c=>absurd c (fy k),λA=>absurd A (iM 0)⟩,a,a,a,(by intro k c;simp[Value.ownBlock]at c),below_drewN (Y E) _⟩
 ·have HL:=Z W;clear W P;have al:=Ny;go_enter func152,ntmps152
  go_wp2_with fail
  refine z.mono ?_;rintro K V⟨i,rfl,c,f⟩;have s:=c.le;have H:=Z c;have E:=Z f;clear c f;go_wp2;go_loopw [10] (λB wr=>∃n:Nat,i<=n/\n<=ts.length/\B=.int .i64 n/\(∀k(c:k<ts.length),i<=k->k<n->ep m (fh ts[k].ks)=false)/\Below w.heap.size w wr) (λB _=>ts.length-(intOf B).toNat)
  case atStart=>exact⟨i,ai _,s,rfl,λk _ ad ac=>absurd ad (by omega),Y E⟩
  case round=>
   obtain⟨n,O,y,rfl,hw,L⟩:=hrel;have d:=(Y HL).below L;have X:=Z hw;have e:=Z L;clear hw L;have e1:(i:Int)<=(n:Int):=by omega
   have e2:(n:Int)<=(ts.length:Int):=by omega
   have e3:(i:Int)<=(ts.length:Int):=by omega
   have e4:(n:Int)<=(b:Int):=by omega
   have e5:(i:Int)<=(b:Int):=by omega
   have e6:(ts.length:Int)<=(b:Int):=by omega
   have l:=Z (show(∀(A:n<ts.length),ep m (fh ts[n].ks)=true)->vL ts C m i n/\ii wr (.slice (some ⟨ac,j,none⟩) i b) (ts.take i)/\ii wr (.slice (some ⟨ac,j+i,none⟩) (n-i) (b-i)) ((ts.drop i).take (n-i))/\ii wr (.slice (some ⟨ac,j+n,none⟩) (ts.length-n) (b-n)) (ts.drop n)from by
    intro g;refine⟨⟨Y H,O,y,Y X,g⟩,d.take i s,?_,d.drop n y⟩;have r:=d.drop i s;have F:=ii.take (ts:=ts.drop i) (by rw[fE];exact r) (n-i) (by rw[fE];omega);exact F)
   by_cases h:n<ts.length
   ·have hp:=d.cell h;have r:=(d.each _ (au h)).first;have e7:(n:Int)<(ts.length:Int):=by omega
    have e8:(0:Int)<=(n:Int):=by omega
    have g:=BV (fh ts[n].ks) m;clear d;unfold ar.ptr at hp r;cases hkl:ep m (fh ts[n].ks)with
    |false=>
     rw[hkl]at g;simp only[me]at g;have N:=Z (show∀k(c:k<ts.length),k=n->ep m (fh ts[k].ks)=false fromλk c K=>by subst K;exact hkl);clear hkl;generalize fh ts[n].ks=fk at*;generalize ts[n].tb=tb at*;go_wp2_with fail
     refine r.mono ?_;rintro K G⟨rfl,F⟩;subst G;go_wp2;go_roundw;case rel=>exact⟨n+1,by omega,h,by go_num,λk c ad ac=>by rcases cJ k n with ao|ao;exact(Y X) k c ad ao;exact(Y N) k c (by omega),Y e⟩
     case measure=>simp[intOf];omega
    |true=>
     rw[hkl]at g;simp only[Bool.not_true]at g;have u:=Z ((Y l) (λ_=>hkl));clear hkl;generalize fh ts[n].ks=fk at*;generalize ts[n].tb=tb at*;go_wp2_with fail
     refine r.mono ?_;rintro K G⟨rfl,F⟩;subst G;go_wp2_with fail
     go_quiet(fail)
     go_wp2;go_ret3
     obtain⟨o,q,t,x⟩:=Y u;have a:Below wr.heap.size wr (wr.drewN nq):=below_drewN (Below.refl _ _) _;exact⟨i,n,_,_,_,rfl,o,q.below a,t.below a,x.below a,(by intro k c;simpa[Value.ownBlock]using c),below_drewN (Y e) _⟩
   ·have r:n=ts.length:=by omega
    have u:=Z ((Y l) (λA=>absurd A h));have e7:¬(n:Int)<(ts.length:Int):=by omega
    have hE:=d.empty j;have G:=Z hE;clear d hE;have F:=Z (show ts.drop n=[]by rw[r,eJ]);rcases cJ n b with hc|hc
    ·have g:¬(b-n=0):=by omega
     have d2:¬(b-i=0):=by omega
     clear r;go_wp2_with fail
     go_quiet(fail)
     go_wp2;go_ret3
     obtain⟨o,q,t,x⟩:=Y u;have a:Below wr.heap.size wr (wr.drewN nq):=below_drewN (Below.refl _ _) _;exact⟨i,n,_,_,_,rfl,o,q.below a,t.below a,x.below a,(by intro k c;simpa[Value.ownBlock]using c),below_drewN (Y e) _⟩
    ·have g:b=n:=by omega
     subst g;clear r;rcases cJ i b with N|N
     ·have d2:¬(b-i=0):=by omega
      go_wp2_with fail
      go_quiet(fail)
      go_wp2;go_ret3
      obtain⟨o,q,t,x⟩:=Y u;have a:Below wr.heap.size wr (wr.drewN nq):=below_drewN (Below.refl _ _) _;refine⟨i,b,_,_,_,rfl,o,q.below a,t.below a,?_,(by intro k c;simpa[Value.ownBlock]using c),below_drewN (Y e) _⟩;rw[Y F];exact(Y G).below a
     ·have g:i=b:=by omega
      subst g;go_wp2_with fail
      go_quiet(fail)
      go_wp2;go_ret3
      obtain⟨o,q,t,x⟩:=Y u;have a:Below wr.heap.size wr (wr.drewN nq):=below_drewN (Below.refl _ _) _;refine⟨i,i,_,_,_,rfl,o,q.below a,?_,?_,(by intro k c;simpa[Value.ownBlock]using c),below_drewN (Y e) _⟩
      ·rw[Y F,uB];exact(Y G).below a
      ·rw[Y F];exact(Y G).below a
def ii.of_heap{w w':J}{v:M}{h:List ar}(o:ii w v h)(q:w'.heap=w.heap):ii w' v h:=by
 refine⟨?_,λk t=>by rw[q];exact o.lt k t,λA y=>(o.each A y).of_heap q,o.small⟩;obtain⟨g,d|⟨z,e,b,d,r,s⟩⟩:=o.row
 ·exact⟨g,.inl d⟩
 ·exact⟨g,.inr ⟨z,e,b,d,r,λj u o=>(bI (w:=w) (by rw[q])).trans (s j u o)⟩⟩
def MP(a:List ar):Prop:=∀i(h:i+1<a.length),ep (fm a[i].ks) (fh a[i+1].ks)=true
def jp.apart{ts:List ar}(h:jp ts):MP ts:=by
 intro i a;obtain⟨x,d,b⟩:=(h.pure _ (au (show i<ts.length by omega))).sY;obtain⟨y,e,c⟩:=(h.pure _ (au a)).AW;rw[<-b,<-c];exact h.pair (show i<ts.length by omega) a (by omega) d e
def Ka(w:J)(E:M)(a:List ar)(t:ii w E a)(l:MP a):Calls prog 124 #[E] w λs f=>s=.returned (.bool true)/\Below w.heap.size w f:=by
 have C:=t.small;rcases t.shape with⟨rfl,rfl⟩|⟨T,D,z,rfl,_⟩
 ·clear t l;go_enter func124,ntmps124
  go_wp2;go_loopw [6] (λi wr=>i=.int .i64 0/\wr=w) (λ_ _=>0)
  case atStart=>exact⟨rfl,rfl⟩
  case round=>
   obtain⟨rfl,rfl⟩:=hrel;go_wp2;go_ret;exact⟨rfl,Below.refl _ _⟩
 ·have y:=Z t;have x:=Z l;have A:=vu;clear t l;go_enter func124,ntmps124
  go_wp2;go_loopw [6] (λi wr=>∃n:Nat,n<=a.length/\i=.int .i64 n/\Below w.heap.size w wr) (λi _=>a.length-(intOf i).toNat)
  case atStart=>exact⟨0,aU _,rfl,Below.refl _ _⟩
  case round=>
   obtain⟨n,B,rfl,o⟩:=hrel;have b:=(Y y).below o;have h:=Z o;clear o;by_cases g:n<a.length
   ·rcases de n with k|k
    ·subst k;clear b;go_wp2_with fail
     go_quiet(fail)
     go_wp2;go_roundw;case rel=>exact⟨1,by omega,by go_num,below_drewN (Y h) _⟩
     case measure=>simp[intOf];omega
    ·obtain⟨m,rfl⟩:∃m,n=m+1:=⟨n-1,by omega⟩;have q:=b.cell (show m<a.length by omega);have e:=b.cell g;have d:∀W,W.heap=wr.heap->Calls prog 154 #[a[m].ptr] W λs f=>s=.returned (.string (fm a[m].ks))/\∃q,f=W.drewN q:=λW l=>((b.each _ (au (show m<a.length by omega))).of_heap l).last;have c:∀W,W.heap=wr.heap->Calls prog 153 #[a[m+1].ptr] W λs f=>s=.returned (.string (fh a[m+1].ks))/\f=W:=λW l=>((b.each _ (au g)).of_heap l).first;have p:=(Y x) m g;unfold ep at p;clear b;unfold ar.ptr at q e d c;generalize fm a[m].ks=P at*;generalize fh a[m+1].ks=Q at*;generalize a[m].tb=R at*;generalize a[m+1].tb=S at*;obtain⟨r,v⟩:∃r,m+1=r:=⟨_,rfl⟩;rw[v]at e g k B|-;have F:(r:Int)-1=(m:Int):=by omega
     have G:(m:Int)<(a.length:Int):=by omega
     have H:(r:Int)<(a.length:Int):=by omega
     have K:IntKind.i64.wrap (m:Int)=(m:Int):=by rw[bu];omega
     have L:(0:Int)<(r:Int):=by omega
     have N:(0:Int)<=(m:Int):=by omega
     have O:m<a.length:=by omega
     clear v;go_wp2_with fail
     go_quiet(first
      |(go_at_call 154;refine Calls.quiet_of (d _ rfl))
      |(go_at_call 153;refine Calls.quiet_of_same (c _ rfl)))
     go_wp2;go_roundw;case rel=>exact⟨r+1,by omega,by go_num,below_drewN (Y h) _⟩
     case measure=>simp[intOf];omega
   ·have c:n=a.length:=by omega
    subst c;clear b;go_wp2;go_ret;exact⟨rfl,Y h⟩
end Go.Proofs.YtophdnlmpfmeiaaGreatDoor
