import Derived.Test.YtmnlcbeggagabaaGreatDoorC12
import Derived.Test.YtmnlcbeggagabaaGreatDoorC13
open _root_ renaming List.length→y,Option.some→H,Array.size→z,Go.World.heap→G,Go.Value.ownBlock→cz,Go.World.cell?→aS,Go.World.setCell→cA,Go.World.alloc→cG,Bool.false→bj,Bool.true→ci,Nat→M,Int→U,List→cS,Go.Calls→cD,Go.undef→ix,Go.Proofs.Tryz.prog→aZ,Go.Value.slice→J,Go.Value.string→am,Go.Value.bool→aK,Go.Value.pointer→dF
namespace Go.Proofs.YtmnlcbeggagabaaGreatDoor
open ChangeShapes WideShapes RowKit Proofs.Tryz List
set_option maxHeartbeats 16000000
set_option linter.all false
set_option maxRecDepth 100000
variable{a:Z}{b c g m:M}{d u:ab}{e N:cI}{i:DK}{k:U}{w:E}{A:iF}
def oE(i:a.ownsRow b c g d m A)(l:0<m):∃f e,d=aY f 0 m e/\b<=f/\f<z (G a)/\m<=e:=by
 obtain⟨j,⟨_,k⟩|⟨f,e,h,n,o,p,q,_⟩⟩:=i;omega;grind
structure Ma(w0 w:Z)(tb:M)(l:cI)(cs:dJ)(bb vV db Fj:M):Prop where
 pieces:pQ l cs
 mem:lB w tb (dF none) 0 0 0 0 bb 0 vV (aY db 0 (y<|dw cs) Fj) (bI 0 cs)
 data:eE w (z<|G w0) (aY db 0 (y<|dw cs) Fj) (dw cs)
 Fm:w.ownsRow (z<|G w0) 331 5 (aY bb 0 (y<|bI 0 cs) vV) (y<|bI 0 cs) (ez<|bI 0 cs)
 new:z (G w0)<=tb
 ap:I az w0 w
def Dc(s:cI)(x d l:M)(W:Z)(N:Steps W)(S:x<z (G W))(O:∀aa ac,(aI s)[aa]?=H ac->aS W (R x<|d+aa)=H ac)(u:y s<=l)(v:0<y s)(m:∀al∈s,al.Good)(X:dK s)(i:∀x∈ic s,y x<=10)(V:y s<=1000000):cD aZ 110 #[aY x d (y s) l] W λad k=>∃j c e a f b,ad=aJ (aA j)/\Ma W k j s c e a f b:=by
 have w:=DB x d l N S O u v m X i V
 have E:=Y (show∀o r c k,pQ s c->eE k (z<|G W) o (dw c)->k.ownsRow (z<|G W) 331 5 r (y c) (ez<|bI 0 c)->I az W k->∃e a f b,r=aY e 0 (y<|bI 0 c) a/\o=aY f 0 (y<|dw c) b/\Ma W (cG k<|ay #[dF none,aE 0,dh 0,dh 0,dh 0,aY e 0 (y<|bI 0 c) a,aY f 0 (y<|dw c) b] 265) (z<|G k) s c e a f b from by
  intro o r c k n p i q;rw[<-jN c 0]at i;have g:0<y (bI 0 c):=by
   rw[jN];rcases gm (y c)with K|K
   .obtain rfl:=aP K;have:=n.flat;grind
   .exact K
  have t:0<y (dw c):=by
   rw[jN]at g;have:=IC c 0 g;omega
  have Q:=n.length;obtain⟨e,a,rfl,b1,b2,F⟩:=oE i g;obtain⟨f,b,rfl,d1,d2,d3⟩:=oE p t;refine⟨e,a,f,b,rfl,rfl,n,⟨aH _ rfl,?_,g,F,by rw[jN];omega⟩,p.alloc _,aX i _,q.size,q.alloc _⟩;intro aa ac hj;obtain⟨h1,⟨L,h0⟩|⟨b',B,A,L,_,P⟩⟩:=dE<|aX i<|ay #[dF none,aE 0,dh 0,dh 0,dh 0,aY e 0 (y<|bI 0 c) a,aY f 0 (y<|dw c) b] 265
  .omega
  grind)
 go_in
 go_wp2_with(go_at_call 166;refine w.mono ?_;rintro ad C⟨o,r,c,rfl,n,p,i,q⟩;obtain⟨e,a,f,b,rfl,rfl,hF⟩:=E o r c C n p i q;have D:=Y hF;clear n p i q hF)
 go_ret;exact⟨z<|G C,c,e,a,f,b,rfl,D⟩
def UT(c:0<=k/\k<256)(a:b<8):bits .xor .u8 k (2^b%256)≠k:=by
 obtain⟨k,rfl⟩:=dP c.1;have h:∀b<8,∀k<256,bits .xor .u8 (k:M) (2^b%256)≠((k:M):U):=by decide
 exact h b a k<|by omega
def TV(j:ae)(F:cX)(k:M)(h:cH a b i)(x:mS i.files j=H F)(hr:y F.bytes<=1099511627776)(W:0<y F.bytes)(hb:k<18446744073709551616):cD aZ 9 #[aA b,am j,aE k] a λS w'=>(∃ao,S=aJ ao)/\∃q n,iY q F.bytes/\oA a w' b i n/\n.files=mB i.files {F with bytes:=q}/\n.dM=i.dM:=by
 obtain⟨t,m,l⟩:=iS x;have hF:=h.files F m;obtain⟨aa,ad,o,g1,g2,g3⟩:=oE hF.2.1 W;obtain⟨v,D⟩:∃v,y F.bytes=v:=⟨_,rfl⟩;obtain⟨u,B⟩:∃u,k% (8*v)=u:=⟨_,rfl⟩;have C:u<8*v:=by rw[<-B];exact yC _<|by omega
 obtain⟨e,T⟩:∃e,u/8=e:=⟨_,rfl⟩;have f:e<y F.bytes:=by omega
 obtain⟨Q,L⟩:∃Q,u%8=Q:=⟨_,rfl⟩;have V:=h.iy;have s:=h.now;have c0:=cellAt V 0 rfl;have g:=hF.1;have d0:=cellAt g 0 rfl;rw[o,D]at d0;have d:=hF.2.1;rw[o]at d;have hx:aS a (R aa e)=H (qV F.bytes[e]):=by rw[World.ownsRow.cellAt d e<|by omega];simp[f]
 have an:a.frozen? (R aa e)=bj:=World.ownsRow.frozenAt d e;have N:=hF.2.2 F.bytes[e]<|ak f;obtain⟨i0,A,O,_,_⟩:=cU rh;have r:=qW underlying69 underlying9 A O s j;rw[l]at r;simp only[lP,kT]at r
 have p:=Y (show∀c,(0<=c/\c<256)->F.bytes[e]≠c->∃q n,iY q F.bytes/\oA a (cA a (R aa e)<|qV c) b i n/\n.files=mB i.files {F with bytes:=q}/\n.dM=i.dM fromλc X E=>by
  refine⟨F.bytes.set e c,_,⟨F.bytes.take e,F.bytes[e],c,F.bytes.drop<|e+1,?_,?_,E,X⟩,h.YB (F:=F) (F':={F with bytes:=F.bytes.set e c}) (by rw[show({F with bytes:=F.bytes.set e c}:cX).name=F.name from rfl,t];exact x) rfl ((I.refl _ a).setCell aa e _<|.inl<|.inr (by rw[o];rfl)) ⟨?_,?_,?_⟩<|λu S=>.inl S,rfl,rfl⟩
  .rw[<-bD f,bX]
  .rw[gV,dV f]
  .exact(iI _<|λS=>tZ hF.2.1 hF.1 (by decide) (by rw[o];exact bQ H S.symm)).trans hF.1
  .have:=qS d e<|qV c;unfold eE;rw[o,gU,pz];exact this.1
  .intro P hz;rcases List.mem_or_eq_of_mem_set hz with ac|rfl
   .exact hF.2.2 P ac
   .exact X)
 clear V s hF g d l t m x h o g1 g3;generalize F.bytes[e]=au at*;rw[D]at hr W f;clear D;have e1:IntKind.u64.wrap (8*(v:U))=((8*v:M):U):=by rw[fi];omega
 have e2:IntKind.i64.wrap (8*(v:U))=((8*v:M):U):=by rw[bS];omega
 have em:(k:U) % (8*(v:U))=(u:U):=by rw[<-B];simp
 have ed:(u:U).tdiv 8=(e:U):=by rw[<-T];simp
 have al:IntKind.u64.wrap (e:U)=(e:U):=by rw[fi];omega
 have w:(u:U) %8=(Q:U):=by omega
 have er:(u:U).tmod 8=(Q:U):=by rw[nr<|by omega];exact w
 have K:Q<8:=by omega
 have i1:(e:U)<(v:U):=by omega
 have i2:(0:U)<=(e:U):=by omega
 clear B T L C;go_in
 go_wp2;go_end0;refine⟨⟨_,rfl⟩,p _ ?_ ?_⟩;have:=bounds_u8<|wf_bits .xor .u8 au<|2^Q%256;omega;exactλac=>UT N K ac.symm
section
open Shelf
theorem QS{a d:iF}(h:y A=b*4)(i:c<=b)(j:y a=4)(k:y d=(b+1-c)*4+g):(((A.take (c*4)++d).take (c*4)++a++(A.take (c*4)++d).drop (c*4+y a)).take ((c+1)*4)++A.drop (c*4)++((A.take (c*4)++d).take (c*4)++a++(A.take (c*4)++d).drop (c*4+y a)).drop ((c+1)*4+y (A.drop<|c*4))).take ((b+1)*4)=A.take (c*4)++a++A.drop (c*4):=by
 have e:y (A.take<|c*4)=c*4:=by rw[dj];omega
 have f:(A.take (c*4)++d).take (c*4)=A.take (c*4):=ow e;rw[f,ow (by simp;omega),ow (by simp;omega)]
def KP(e F n i:M)(A:Array ab)(d:iF)(ax:e<=z (G a))(hg:a.heap[F]?=H (ay A 170 (0,0)))(av:A.size=n*4)(t:A.toList.take (n*4)=d)(hv:iG a b w)(hi:i<n)(hn:n<=1000000000)(h1:∀ad∈d,ad.oneCell'=ci):cD aZ 158 #[aY F 0 n n,aq i,aY b 0 1 1] a λbu w'=>∃c,bu=aJ (aY (z<|G a) 0 (n+1) c)/\w'.ownsRow e 170 4 (aY (z<|G a) 0 (n+1) c) (n+1) (d.take (i*4)++aI [w]++d.drop (i*4))/\I az a w':=by
 have X:y d=n*4:=by rw[<-t,dj,kq];omega
 have ao:=ar hg;have aV:=ar hv;obtain⟨i0,aD,ba,bc,aa⟩:=cU mP;have D:(prog.info? 170).map (·.size)=H 4:=by kernel_rfl
 have Q:(n:U)+1-(i:U)=((n+1-i:M):U):=by omega
 have C:i+(n+1-i)=n+1:=by omega
 have x:(Builtin.firstCells i0.size i<|aY F 0 i n).run aZ a.drew=.ok (d.take<|i*4).toArray a.drew:=by
  rw[bc];exact run_firstCells_some a.drew 4 i (R F 0) i n (d.take<|i*4) (by rw[dj];omega) (λbg ad v=>by
   rw[dt,dr];rw[oD]at v;split at v
   .have:=pK (w:=a.drew) hg t bg ad 0 (by simpa using v);grind
   .cases v)
 have s:∀j,(Builtin.append_ #[88,3] j #[aY F 0 i n,aq<|(n:U)+1-(i:U)]).run aZ a=.ok (aY (z<|G a) 0 (n+1)<|grownCap a (n+1) n 170) (cG a.drew<|ay ((d.take<|i*4).toArray++Builtin.zeroCells vP.cells (n+1-i)++Builtin.zeroCells vP.cells (grownCap a (n+1) n 170-(n+1))) 170):=λj=>by have h:=Lib.run_append_grow_zeros a 88 3 j 170 i0 _ .i64 .i64 underlying88 underlying3 aD ba (H<|R F 0) i n (d.take<|i*4) x (n+1-i) (by omega) (by omega) (by omega) (by omega) (by rw[aa];omega) (by rw[aa,C];exact sg (by omega)<|by omega);rw[C]at h;rw[Q];exact h
 obtain⟨c,hG⟩:∃c,c=grownCap a (n+1) n 170:=⟨_,rfl⟩;rw[<-hG]at s;have an:n+1<=c:=by rw[hG];exact grownCap_ge a _ _ _
 have N:c<=maxLen:=by rw[hG];exact grownCap_le_maxLen a (n+1) n _ (by unfold maxLen;omega)
 have bd:c<=9223372036854775807:=by unfold maxLen at N;omega
 obtain⟨zs,l⟩:∃zs:iF,zs=(Builtin.zeroCells vP.cells (n+1-i)++Builtin.zeroCells vP.cells (c-(n+1))).toList:=⟨_,rfl⟩;have bb:y zs=(n+1-i)*4+(c-(n+1))*4:=by rw[l];simp[Builtin.zeroCells,vP,Value.cells]
 have k:((d.take<|i*4).toArray++Builtin.zeroCells vP.cells (n+1-i)++Builtin.zeroCells vP.cells (c-(n+1)))=(d.take (i*4)++zs).toArray:=by rw[l,Array.append_assoc];grind
 rw[k]at s;have T:y (aI [w])=4:=rfl;have V:y (d.drop<|i*4)=(n-i)*4:=by rw[gX,X];omega
 obtain⟨f,p⟩:∃f,f=d.take (i*4)++zs:=⟨_,rfl⟩;obtain⟨g,q⟩:∃g,g=f.take (i*4)++aI [w]++f.drop (i*4+y (aI [w])):=⟨_,rfl⟩;obtain⟨m,r⟩:∃m,m=g.take ((i+1)*4)++d.drop (i*4)++g.drop ((i+1)*4+y (d.drop<|i*4)):=⟨_,rfl⟩;have aF:y f=c*4:=by rw[p,ag,dj];omega
 have aU:y g=c*4:=by rw[q];simp only[ag,dj,gX];omega
 have S:y m=c*4:=by rw[r];simp only[ag,dj,gX];omega
 have u:m.take ((n+1)*4)=d.take (i*4)++aI [w]++d.drop (i*4):=by rw[r,q,p];grind[QS]
 rw[<-p]at s;have O:∀(W:Z),W.heap[z<|G a]?=H (ay f.toArray 170 (0,0))->W.heap[b]?=a.heap[b]?->∀j o,(Builtin.copy_ #[88,87] j #[aY (z<|G a) (i*4) (n+1-i) o,aY b 0 1 1]).run aZ W=.ok (goInt<|Nat.min 1<|n+1-i) (W.setRow (z<|G a) g.toArray):=λW hW B j o=>by rw[q];refine qM W _ _ j 170 4 (z<|G a) (i*4) _ o (R b 0) _ 1 f.toArray _ (aI [w]) underlying88 D hW ?_ (λbg ad v=>?_) (by simp;omega)<|Bb w;rw[T];simp only[Nat.min_def];split<;>omega;rw[dt,bV<|B.trans hv,dr];simpa[aI,E.cells]using v
 have P:∀(W:Z),W.heap[z<|G a]?=H (ay g.toArray 170 (0,0))->W.heap[F]?=a.heap[F]?->∀j o sc,(Builtin.copy_ #[88,88] j #[aY (z<|G a) ((i+1)*4) (n-i) o,aY F (i*4) (n-i) sc]).run aZ W=.ok (goInt<|Nat.min (n-i)<|n-i) (W.setRow (z<|G a) m.toArray):=λW hW B j o sc=>by rw[r];refine qM W _ _ j 170 4 (z<|G a) ((i+1)*4) _ o (R F<|i*4) _ sc g.toArray _ (d.drop<|i*4) underlying88 D hW ?_ (λbg ad v=>by rw[dt];exact pK (B.trans hg) t bg ad _ v) (by simp;omega)<|λad hu=>h1 ad<|dH hu;rw[V];grind
 have hA1:((cG a<|ay f.toArray 170).drew).heap[z<|G a]?=H (ay f.toArray 170 (0,0)):=aH (w:=a) _ rfl;have hA2:((cG a<|ay f.toArray 170).drew).heap[b]?=a.heap[b]?:=eU (w:=a) _ aV;have L:(((cG a<|ay f.toArray 170).drew.setRow (z<|G a) g.toArray).drew).heap[z<|G a]?=H (ay g.toArray 170 (0,0)):=tq _ _ _ _ _ _ hA1;have al:(((cG a<|ay f.toArray 170).drew.setRow (z<|G a) g.toArray).drew).heap[F]?=a.heap[F]?:=(rL _ _ _ _<|by omega).trans<|eU (w:=a) _ ao;have K:=Y (show((((cG a<|ay f.toArray 170).drew.setRow (z<|G a) g.toArray).drew).setRow (z<|G a) m.toArray).ownsRow e 170 4 (aY (z<|G a) 0 (n+1) c) (n+1) (d.take (i*4)++aI [w]++d.drop (i*4))/\I az a ((((cG a<|ay f.toArray 170).drew.setRow (z<|G a) g.toArray).drew).setRow (z<|G a) m.toArray)from by refine⟨⟨by grind,.inr ⟨z<|G a,c,m.toArray,rfl,ax,tq _ _ _ _ _ _ L,an,N,by simpa using S,u⟩⟩,?_⟩;have t1:I az a (cG a<|ay f.toArray 170).drew:=(cK az a).of_heap rfl;have t2:I az a ((cG a<|ay f.toArray 170).drew.setRow (z<|G a) g.toArray).drew:=(t1.trans (BG _ (z<|G a) g.toArray)<|λk b=>.inr<|by omega).of_heap rfl;exact t2.trans (BG _ (z<|G a) m.toArray)<|λk b=>.inr<|by omega);have au:=λj o=>O _ hA1 hA2 j o;have bt:¬((i:U)=(n:U)):=by omega
 have bq:IntKind.i64.wrap ((i:U)+1)=(i:U)+1:=by rw[bS];omega
 have br:IntKind.i64.wrap ((n:U)+1)=(n:U)+1:=by rw[bS];omega
 have bs:IntKind.i64.wrap ((n:U)+1-(i:U))=(n:U)+1-(i:U):=by rw[bS];omega
 have bp:((i:U)+1).toNat=i+1:=by omega
 have bf:((n:U)+1).toNat=n+1:=by omega
 have bk:(0:U)<=(i:U)+1:=by omega
 have bo:i<=n:=by omega
 have bl:(i:U)<=(n:U)+1:=by omega
 have bm:(n:U)<(n:U)+1:=by omega
 have bh:¬(c=i):=by omega
 have bi:¬(c=i+1):=by omega
 have bn:¬(n=i):=by omega
 have ac:prog.follows .mixedOrders=ci:=by kernel_rfl
 clear p q r aF aU S u T V bb k l hG C Q x X t h1 av D hv hg;go_in
 go_wp2_with(at_builtin;refine Lib.wpList_append_run _ rfl _ _ _ _ rfl _ _ rfl rfl _ _ (s _) ?_)
 go_region_law_o (refine ym rfl _ _ 88 88 rfl (aY (z<|G a) ((i+1)*4) (n-i)<|c-(i+1)) (aY F (i*4) (n-i)<|n-i) (by simp[Act.eval,Act.put]) (by simp[Act.eval,Act.put]) (P _ L al 3 _ _) ?_)
 go_wp2;go_ret;exact⟨c,rfl,K⟩
def Nr{w:Z}{baseqq:M}{v:ab}{n:M}(t:M){xs:iF}{x:E}{vb:M}(q:w.ownsRow baseqq 170 4 v n xs)(B:baseqq<=z (G w))(r:iG w vb x)(p:cz v≠H vb)(O:t<=n)(o:n<=1000000000)(A:∀P∈xs,P.oneCell'=ci):cD aZ 158 #[v,aq t,aY vb 0 1 1] w λu i=>∃d,u=aJ d/\i.ownsRow baseqq 170 4 d (n+1) (xs.take (t*4)++aI [x]++xs.drop (t*4))/\I (λK=>cz v=H K) w i/\(cz d=cz v\/∃N,cz d=H N/\z (G w)<=N):=by
 have s:=q.1;by_cases k:t=n;subst k;apply(Nq q B r o).mono;rintro u i⟨d,rfl,f,c⟩;refine⟨d,rfl,?_,I.dW c.grown<|λK l=>.inl l,c.uj⟩;rw[<-s,bL,fZ,dO];exact f;rcases q.2 with⟨rfl,rfl⟩|⟨L,a,e,rfl,j,C,F,m,g,h⟩;omega;by_cases b:n+1<=a;refine(Il baseqq L a n t e xs j C b (by unfold maxLen at m;omega) g h r (λu=>p (by rw[u];rfl)) (by omega) o A).mono ?_;rintro u i⟨rfl,f,c⟩;exact⟨_,rfl,f,c.mono<|λK l=>.inl (by rw[l];rfl),.inl rfl⟩;(obtain rfl:a=n:=by omega);apply(KP baseqq L a t e xs B C g h r (by omega) o A).mono;rintro u i⟨D,rfl,f,c⟩;exact⟨_,rfl,f,c.mono cC,.inr ⟨_,rfl,ai _⟩⟩
end
def GR{l m:cI}(h:b<y m):fB l (m.take<|b+1)=lw (fB l<|m.take b) m[b]:=by
 unfold fB;rw[aj h,fK];rfl
def Pa(l:cI)(e:E):y (lw l e)<=y l+1:=by
 have:∀l:cI,y (l.filter<|λx=>ahead x e)+y (l.filter<|λx=>ahead e x)<=y l:=by
  intro l;induction l with
  |nil=>simp
  |cons x r a=>
   grind[filter_cons_of_pos,filter_cons_of_neg,lA,length_cons]
 have:=this l;unfold lw;grind
def wq(l m:cI):y (fB l m)<=y l+y m:=by
 unfold fB;induction m generalizing l with
 |nil=>simp
 |cons e r a=>
  have b:=a<|lw l e;have c:=Pa l e;grind
def dK.fB(h:dK e)(m:cI):dK (fB e m):=by
 induction m generalizing e with
 |nil=>exact h
 |cons b r a=>exact a<|h.lw b
theorem Ud(l:cI)(p:M)(x:E)(h:p<y l):((((aI l).set (p*4)<|am x.key).set (p*4+1)<|am x.val).set (p*4+2)<|aK x.del).set (p*4+3) (aE x.bJ)=aI (l.set p x):=by
 induction l generalizing p with
 |nil=>simp at h
 |cons a r c=>
  have e:∀(a:E)(r:cI),aI (a::r)=am a.key::am a.val::aK a.del::aE a.bJ::aI r:=λa r=>by simp[aI,E.cells]
  cases p with
  |zero=>rw[ee,e,e];simp
  |succ p=>
   have b:p<y r:=by simpa using h
   rw[dQ,e,e,<-c p b];rw[show(p+1)*4=p*4+1+1+1+1 by omega];simp_all
def SO(x:E)(n:a.ownsRow b 170 4 (aY c 0 (y e) g) (y e) (aI e))(s:m<y e):(cA (cA (cA (cA a (R c<|m*4)<|am x.key) (R c<|m*4+1)<|am x.val) (R c<|m*4+2)<|aK x.del) (R c<|m*4+3)<|aE x.bJ).ownsRow b 170 4 (aY c 0 (y e) g) (y<|e.set m x) (aI<|e.set m x):=by
 refine⟨fH _,.inr ?_⟩;rcases n.2 with⟨f,r⟩|⟨q,k,p,f,i,l,d,j,h,o⟩;cases f;cases f;refine⟨c,g,_,by rw[gU],i,aL<|aL<|aL<|aL l,by rw[gU];exact d,j,by simpa using h,?_⟩;grind[Array.toList_setIfInBounds,take_set,length_set,Ud]
def QI(h:e.take b++w::e.drop b=N)(c:b<=y e):(aI e).take (b*4)++aI [w]++(aI e).drop (b*4)=aI N:=by
 rw[<-h,fI,show w::e.drop b=[w]++e.drop b from rfl,fI,bz];have a:=bQ aI<|bX b e;rw[fI]at a;grind[fH,length_take,take_left',drop_left']
def Vw(h:e.take b++w::e.drop b=N)(a:b<=y e):y N=y e+1:=by
 rw[<-h,ag,aW,dj,gX];omega
def Sc(h:jU a d e)(hm:jU a u N)(hs:dK e)(hl:y e+y N<=100000000)(bn:∀k,cz d=H k->k<z (G a))(bk:∀k,cz u=H k->k<z (G a)):cD aZ 102 #[d,u] a λbo w'=>∃v',bo=aJ v'/\w'.ownsRow (z<|G a) 170 4 v' (y<|fB e N) (aI<|fB e N)/\I az a w':=by
 have bd:=NZ h (by omega) bn;obtain⟨mx,mc,ca⟩:=bN hm;obtain⟨vx,vc,cl⟩:=bN h;obtain⟨HM,br,HS⟩:=dz hm bk hs;clear h bn hm bk hs;subst ca;subst cl;go_in
 go_wp2_with fail
 apply bd.mono;rintro bo w1⟨v1,rfl,al,bb⟩;obtain⟨x1,c1,cj⟩:=aC al;subst cj;have bs:=Y al;have bu:=Y<|I.aQ (S:=az) bb;clear al bb bd;go_wp2_with fail
 go_loopw [5,13] (λo i wr=>∃(k:M),k<=y N/\i=aq k/\wr.ownsRow (z<|G a) 170 4 o (y<|fB e<|N.take k) (aI<|fB e<|N.take k)/\I az a wr) (λ_ i _=>y N-(intOf i).toNat)
 case atStart=>exact⟨0,bG _,rfl,bs,bu⟩
 (case round=>obtain⟨k,hk,rfl,ho,P⟩:=hrel;obtain⟨nx,nc,cb⟩:=aC ho;subst cb;by_cases O:k<y N;(·(have e1:(k:U)<(y N:U):=by omega);have F:=GR (l:=e) O;have ao:dK (fB e<|N.take k):=HS.fB _;(have bT:y (fB e<|N.take k)<=100000000:=by have:=wq e<|N.take k;have:=rD k N;omega);generalize fB e (N.take k)=b at ho F ao bT|-;obtain⟨bx,⟨bl,cp⟩|⟨bp,i,co,bl,bE,hc⟩⟩:=af HM;exfalso;omega;cases bl;have B:bp<z (G a):=br bp rfl;have r:=eh N k O;have cs:bp<z (G wr):=ah B P.size;have cc:aS wr (R bp<|i+k*4)=H (am N[k].key):=P.cell (hc _ _ r.1) id B;have cd:aS wr (R bp<|i+k*4+1)=H (am N[k].val):=P.cell (by rw[bF];grind) id B;have ce:aS wr (R bp<|i+k*4+2)=H (aK N[k].del):=P.cell (by rw[bF];grind) id B;have ch:aS wr (R bp<|i+k*4+3)=H (aE N[k].bJ):=P.cell (by rw[bF];grind) id B;obtain⟨T,L,W,HT⟩:=fX F ao ho P;clear r hc bx bE F ao ho P;generalize N[k]=cu at*;obtain⟨f,t,s,g⟩:=cu;simp only at cc cd ce ch;have K:I az wr (cG wr<|ay #[am f,am t,aK s,aE g] 170):=(cK _ _);have x:=AY (J nx (y b) nc) f g (cG wr<|ay #[am f,am t,aK s,aE g] 170) (dE<|K.own W<|λ_ _ al=>al) L (by omega) (λbp a=>by have:=(W.lt bp a).2;simp;omega);have D:=Hm b ⟨f,⟨#[]⟩,bj,g⟩;by_cases ac:∃h:lh b ⟨f,⟨#[]⟩,bj,g⟩<y b,b[lh b ⟨f,⟨#[]⟩,bj,g⟩].key=f/\b[lh b ⟨f,⟨#[]⟩,bj,g⟩].bJ=g;(.obtain⟨ad,aa,V⟩:=ac;have Q:=OZ L ⟨f,t,s,g⟩ ad aa V;have av:=Y<|show b.set (lh b ⟨f,⟨#[]⟩,bj,g⟩) ⟨f,t,s,g⟩=lw b ⟨f,t,s,g⟩from Q;clear Q;generalize lh b ⟨f,⟨#[]⟩,bj,g⟩=p at*;(have e2:(p:U)<(y b:U):=by omega);(have e3:(0:U)<=(p:U):=by omega);(go_wp2_with fail);apply x.mono;rintro bo c⟨rfl,A⟩;have j:iG c (z<|G wr) ⟨f,t,s,g⟩:=(A.block _<|by simp).trans<|aH _ rfl;have m:I az wr c:=K.bW<|I.aQ (S:=az) A;have l:=m.own W<|λ_ _ al=>al;obtain⟨q0,q1,q2,q3⟩:=j.cells;have C:=ar j;simp only at q0 q1 q2 q3;have bh:∀w,cz (J nx (y b) nc)=H w->w<z (G wr):=λw r=>(W.lt w r).2;rcases l.2 with⟨h2,h0⟩|⟨w,aD,cn,h2,bg,r,bi,bm,bf,o⟩;exfalso;omega;cases h2;(have bv:w≠z (G wr):=λbo=>by have:=bh w rfl;omega);have bc:=eh b p ad;(have r0:aS c (R w<|p*4)=H (am b[p].key):=by simpa using pK r o _ _ 0 (by simp_all));(have r1:aS c (R w<|p*4+1)=H (am b[p].val):=by simpa using pK r o _ _ 0 (by simp_all));(have r2:aS c (R w<|p*4+2)=H (aK b[p].del):=by simpa using pK r o _ _ 0 (by simp_all));(have r3:aS c (R w<|p*4+3)=H (aE b[p].bJ):=by simpa using pK r o _ _ 0 (by simp_all));(have f0:∀j,c.frozen? (R w j)=bj:=λj=>by simp[World.frozen?,r]);have aF:=f0<|p*4;have aU:=f0<|p*4+1;have aV:=f0<|p*4+2;have ba:=f0<|p*4+3;obtain⟨an,ax,bq,HG⟩:=fX l m j r;clear bh bc f0 l m j r bf o bm bg x K;generalize z (G wr)=eb at*;generalize b[p]=v at*;obtain⟨yk,yv,yd,yb⟩:=v;simp only at r0 r1 r2 r3 aa V;subst aa;subst V;go_wp2;(go_quiet(fail));have hd:I az c (c.drewN nq):=I.aQ<|below_drewN (Below.refl _ _) _;have au:=Y<|hd.own an<|λ_ _ al=>al;have X:=Y<|(HT.bW ax).bW hd;have ck:eb<z (G<|c.drewN nq):=C;(replace r0:aS (c.drewN nq) (R w<|p*4)=_:=r0);(replace r1:aS (c.drewN nq) (R w<|p*4+1)=_:=r1);(replace r2:aS (c.drewN nq) (R w<|p*4+2)=_:=r2);(replace r3:aS (c.drewN nq) (R w<|p*4+3)=_:=r3);(replace q0:aS (c.drewN nq) (R eb 0)=_:=q0);(replace q1:aS (c.drewN nq) (R eb 1)=_:=q1);(replace q2:aS (c.drewN nq) (R eb 2)=_:=q2);(replace q3:aS (c.drewN nq) (R eb 3)=_:=q3);(replace aF:(c.drewN nq).frozen? (R w<|p*4)=_:=aF);(replace aU:(c.drewN nq).frozen? (R w<|p*4+1)=_:=aU);(replace aV:(c.drewN nq).frozen? (R w<|p*4+2)=_:=aV);(replace ba:(c.drewN nq).frozen? (R w<|p*4+3)=_:=ba);clear hd bq HG an ax C;generalize c.drewN nq=w3 at*;go_wp2;(have bt:∀k,k=w->z (G a)<=k:=λk hk=>by rw[hk];exact(au.lt w rfl).1);refine⟨⟨k+1,O,by go_num,?_,?_⟩,by simp[intOf];omega⟩;rw[af T,<-af av];exact SO ⟨yk,t,s,yb⟩ au ad;refine(((X.setCell _ _ _ ?_).setCell _ _ _ ?_).setCell _ _ _ ?_).setCell _ _ _ ?_<;>exact .inr<|bt w rfl);(.have V:=Pb L ⟨f,t,s,g⟩<|L.Xr ⟨f,t,s,g⟩<|λa bo=>ac ⟨a,bo⟩;have Q:=Y<|show b.take (lh b ⟨f,⟨#[]⟩,bj,g⟩)++⟨f,t,s,g⟩::b.drop (lh b ⟨f,⟨#[]⟩,bj,g⟩)=lw b ⟨f,t,s,g⟩from V;clear V;generalize lh b ⟨f,⟨#[]⟩,bj,g⟩=p at*;(go_wp2_with fail);apply x.mono;rintro bo c⟨rfl,A⟩;have j:iG c (z<|G wr) ⟨f,t,s,g⟩:=(A.block _<|by simp).trans<|aH _ rfl;have m:I az wr c:=K.bW<|I.aQ (S:=az) A;have l:=m.own W<|λ_ _ al=>al;obtain⟨q0,q1,q2,q3⟩:=j.cells;have C:=ar j;simp only at q0 q1 q2 q3;have cm:=HT.size;have ba:=m.size;have bh:=Y (λ(q:M)=>show _/\_/\_ from have au:I az c (cG (c.drewN q)<|ay #[am f,am t,aK s,aE g] 170):=(I.aQ (S:=az)<|below_drewN (Below.refl _ c) q).alloc _;have aU:=au.own l<|λ_ _ al=>al;⟨Nr (w:=(cG (c.drewN q)<|ay #[am f,am t,aK s,aE g] 170)) (baseqq:=z<|G a) (v:=(J nx (y b) nc)) (n:=y b) p (xs:=(aI b)) (x:=⟨f,t,s,g⟩) (vb:=z<|G c) aU (by have:=au.size;omega) (aH _ rfl) (λbo=>by have:=(l.lt _ bo).2;omega) D (by omega)<|SU b,(HT.bW m).bW au,λk hk=>(aU.lt k hk).1⟩);(have aa:(∃w,nx=H (R w 0)/\∃v:E,p<y b/\aS c (R w<|p*4)=H (am v.key)/\aS c (R w<|p*4+3)=H (aE v.bJ)/\(v.key≠f\/(v.key=f/\v.bJ≠g)))\/((p:U)<(y b:U))=False:=by by_cases an:p<y b;left;rcases l.2 with⟨h2,h0⟩|⟨w,aD,cn,h2,bg,r,bi,bm,bf,o⟩;omega;cases h2;have bc:=eh b p an;refine⟨w,rfl,b[p],an,by simpa using pK r o _ _ 0 (by simp_all),by simpa using pK r o _ _ 0 (by simp_all),?_⟩;by_cases hk:b[p].key=f;simp_all;simp_all;simp_all);clear j m l A x K cm ba ac;generalize z (G wr)=eb at*;rcases aa with⟨w,rfl,⟨yk,yv,yd,yb⟩,an,r0,r3,hy|⟨rfl,hy⟩⟩|e2;(case' inl.inl=>simp only at r0 r3 hy;(have e2:(p:U)<(y b:U):=by omega);(have e3:(0:U)<=(p:U):=by omega);have e4:=GY hy);(case' inl.inr=>simp only at r0 r3 hy;(have e2:(p:U)<(y b:U):=by omega);(have e3:(0:U)<=(p:U):=by omega);have e4:(yb==g)=bj:=by simpa using hy);(all_goals(go_wp2_with fail);(go_quiet(fail));obtain⟨aF,ax,av⟩:=bh nq;have X:=Y ax;have bq:=Y av;clear ax av;(go_wp2_with fail);apply aF.mono;rintro bo w4⟨v4,rfl,ad,aV,_⟩;obtain⟨x4,c4,ck⟩:=aC ad;subst ck;have bt:=Y ad;have bv:=Y aV;clear ad aV aF;go_wp2;refine⟨⟨k+1,O,by go_num,?_,?_⟩,by simp[intOf];omega⟩;rw[af T,Vw (af Q) D,<-QI (af Q) D];exact bt;exact X.trans bv<|λk hk=>.inr<|bq k hk)));(have e1:¬(k:U)<(y N:U):=by omega);(have b:k=y N:=by omega);obtain⟨c,W,HT⟩:=dz (show fB e N=fB e (N.take k)by rw[b,bL]) ho P;clear ho P b;go_wp2;go_ret;exact⟨_,rfl,by rw[af c];exact W,HT⟩)
def jl(a:U)(c:GL):E:=⟨c.key,if c.del then⟨#[]⟩else c.val,c.del,a⟩
def Ll{e:pS}(b:U)(hp:EO a d e)(hv:∀k,cz d=H k->k<z (G a))(hr:y e<=1000000)(hz:∀cj∈e,cj.key.size<=140737488351232/\cj.val.size<=140737488351232):cD aZ 73 #[d,.int .u64 b] a λck w'=>∃v',ck=.returned v'/\w'.ownsRow (z<|G a) 170 4 v' (y e) (aI<|e.map<|jl b)/\I (λ_=>False) a w':=by
 have cm:∀(cj:Bool)(a:Z),(Op.unary .not<|.bool cj).run aZ a=.ok (.bool<|!cj) a:=λ_ _=>rfl;obtain⟨i0,aU,ba,bb,bc⟩:=cU mP;obtain⟨cE,cc,bx⟩:=bN hp;obtain⟨HP,HV,HZ⟩:=dz hp hv hz;clear hp hv hz;subst bx;go_in
 go_wp2_with(at_make;refine ki _ rfl _ _ 87 rfl (z<|G a) 170 i0 vP 4 underlying87 aU ba bb _ _ _ (y e) rfl rfl rfl (by rw[bc];omega) (by unfold maxLen;omega) (ai _) ?_;intro w1 Q P;have aa:=Y Q;have bf:=Y P;clear Q P)
 go_loopw [5,14] (λo bt wr=>∃(k:M),k<=y e/\bt=.int .i64 k/\wr.ownsRow (z<|G a) 170 4 o k (aI<|(e.take k).map<|jl b)/\I (λ_=>False) a wr) (λ_ bt _=>y e-(intOf bt).toNat)
 case atStart=>exact⟨0,bG _,rfl,aa,I.dW bf<|by simp⟩
 case round=>
  obtain⟨k,hk,rfl,ho,E⟩:=hrel;obtain⟨nx,nc,bT⟩:=aC ho;subst bT;by_cases A:k<y e
  .have e1:(k:U)<(y e:U):=by omega
   obtain⟨bv,⟨bq,cp⟩|⟨bs,f,co,bq,bE,hc⟩⟩:=af HP
   .exfalso;omega
   cases bq;have N:bs<z (G a):=HV bs rfl;have hg:=kJ e k A;have cs:bs<z (G wr):=ah N E.size;have cb:aS wr ⟨bs,f+k*3,none⟩=H (.string e[k].key):=E.cell (hc _ _ hg.1) id N;have cd:aS wr ⟨bs,f+k*3+1,none⟩=H (.string e[k].val):=E.cell (by rw[bF];grind) id N;have ce:aS wr ⟨bs,f+k*3+2,none⟩=H (.bool e[k].del):=E.cell (by rw[bF];grind) id N;have ch:=HZ _<|ak A;obtain⟨bg,HO,HT⟩:=dz (show(e.take<|k+1).map (jl b)=(e.take k).map (jl b)++[jl b e[k]]by rw[aj A,aR];rfl) ho E;clear hg hc bv bE ho E;generalize e[k]=cj at*;obtain⟨g,p,l⟩:=cj;simp only at cb cd ce ch;have bm:=λan=>uM g an (by omega);have bn:=λan=>uM p an (by omega);go_wp2_with fail
   rename_i QQ KK bh;have m:(cG wr<|.cells #[.string g,.string p,.bool l] 57).heap[z<|G wr]?=H (.cells #[.string g,.string p,.bool l] 57 (0,0)):=aH _ rfl;have aD:I (λ_=>False) a (cG wr<|.cells #[.string g,.string p,.bool l] 57):=HT.alloc _;have av:=aX HO<|.cells #[.string g,.string p,.bool l] 57;generalize cG wr (.cells #[.string g,.string p,.bool l] 57)=j at m aD av|-;generalize z (G wr)=r at m|-;have x:aS j.drew ⟨r,0,none⟩=H (.string g)/\aS j.drew ⟨r,2,none⟩=H (.bool l):=⟨by show aS j _=_;rw[bV m];rfl,by show aS j _=_;rw[bV m];rfl⟩;have B:=ar m;obtain⟨w,bd,ac,W⟩:=fX (show∀i,I (λ_=>False) j i->aS i ⟨r,0,none⟩=H (.string g)/\aS i ⟨r,2,none⟩=H (.bool l)fromλi a=>⟨a.cell x.1 id B,a.cell x.2 id B⟩) m aD av;clear m aD av;refine dL (λi=>aS i ⟨r,0,none⟩=H (.string g)/\aS i ⟨r,2,none⟩=H (.bool l)) 8 (by kernel_rfl) ?_;refine eR 0 ?_;iterate 2 (refine iC (v:=?_) x rfl (by kernel_rfl) ma rfl ?_ ?_;rotate_left;(focus(rintro i⟨z0,z2⟩;go_simp;try rfl));simp only[Act.put,eF,Nat.reduceAdd])
   apply ig;refine eR 3 ?_;iterate 3 (refine iC (v:=?_) x rfl (by kernel_rfl) ma rfl ?_ ?_;rotate_left;(focus(rintro i⟨z0,z2⟩;go_simp;try rfl));simp only[Act.put,eF,Nat.reduceAdd])
   apply ig;refine tC (α:=M) (λc an=>I (λ_=>False) j an/\an.heap[c]?=H (.cells #[.string ⟨#[]⟩,.string ⟨#[]⟩,.bool bj,.int .u64 0] 170 (0,0))/\z (G j)<=c) (λc=>{tmps:=#[.slice (H ⟨bs,f,none⟩) (y e) cc,.int .u64 b,ix,ix,.slice none 0 0,.slice nx k nc,ix,.pointer<|H ⟨r,0,none⟩,.pointer<|H ⟨c,0,none⟩,.slice (H ⟨bs,f,none⟩) (y e) cc,.int .i64<|y e,.slice (H ⟨z<|G a,0,none⟩) 0<|y e,.slice (H ⟨bs,f,none⟩) (y e) cc,.int .i64<|y e,.int .i64 k,.bool ci,.pointer<|H ⟨bs,f+k*3,none⟩,.agg #[.string g,.string p,.bool l],.pointer<|H ⟨r,0,none⟩,.string g,.string g,.pointer<|H ⟨r,2,none⟩,.bool l,.int .u64 b,.agg #[.string g,.string ⟨#[]⟩,.bool l,.int .u64 b],u25,u26,u27,u28,u29,u30,u31,u32,u33,u34,u35,u36,ix],defers:=[]}) #[true,true,true,true,true,true,true,true,false] 1 ?_ ?_
   .intro bl;refine sy (i:=2) (j:=7) rfl rfl rfl rfl (by kernel_rfl) ?_ ?_
    .intro cB hK;go_simp;apply(bm _).mono;rintro ck w4⟨rfl,L⟩;have t:I (λ_=>False) j w4:=(cR (λ_=>False) j).bW<|I.aQ (S:=λ_=>False) L;have bi:=w w4 t;refine hK _ _ (λ_=>bi) ?_;try simp only[Act.put,eF]
     refine lu (i:=6) (v:=?_) rfl rfl (by kernel_rfl) (by kernel_rfl) (by kernel_rfl) (by kernel_rfl) (λ_ _ _ h=>h) (Or.inl ⟨by rfl,?_⟩) bi ?_;rotate_left
     .rintro i⟨z0,z2⟩;go_simp;try with_reducible rfl
     try simp only[Act.put,eF]
     refine bC (i:=7) rfl rfl (by kernel_rfl) ?_;intro K2 au;go_simp;have F:=t.alloc<|.cells #[.string ⟨#[]⟩,.string ⟨#[]⟩,.bool bj,.int .u64 0] 170;refine au _ _ (λ_=>w _ F) ?_;exact jM (bl (z<|G w4) _ ⟨F,aH _ rfl,t.size⟩)<|by kernel_rfl
    .intro cB hK;go_simp;have t:I (λ_=>False) j ((cG j<|.cells #[.string ⟨#[]⟩,.string ⟨#[]⟩,.bool bj,.int .u64 0] 170).drew):=(cK (λ_=>False) j).of_heap rfl;have L:((cG j<|.cells #[.string ⟨#[]⟩,.string ⟨#[]⟩,.bool bj,.int .u64 0] 170).drew).heap[z<|G j]?=H (.cells #[.string ⟨#[]⟩,.string ⟨#[]⟩,.bool bj,.int .u64 0] 170 (0,0)):=aH (w:=j) _ rfl;refine hK _ _ (λ_=>w _ t) ?_;refine bC (i:=2) rfl rfl (by kernel_rfl) ?_;intro K2 au;go_simp;apply(bm _).mono;rintro ck w5⟨rfl,bk⟩;have F:I (λ_=>False) j w5:=t.bW<|I.aQ (S:=λ_=>False) bk;have bu:=((I.aQ (S:=λ_=>False) bk).block _ (ar L) id).trans L;have bi:=w _ F;refine au _ _ (λ_=>bi) ?_;try simp only[Act.put,eF]
     refine lu (i:=6) (v:=?_) rfl rfl (by kernel_rfl) (by kernel_rfl) (by kernel_rfl) (by kernel_rfl) (λ_ _ _ h=>h) (Or.inl ⟨by rfl,?_⟩) bi ?_;rotate_left
     .rintro i⟨z0,z2⟩;go_simp;try with_reducible rfl
     try simp only[Act.put,eF]
     exact jM (bl (z<|G j) _ ⟨F,bu,ai _⟩)<|by kernel_rfl
   rintro c an⟨E,O,s⟩;have bp:=ar O;refine bC (i:=8) rfl rfl (by kernel_rfl) ?_;intro cB hK;have q0:aS an ⟨c,0,none⟩=H (.string ⟨#[]⟩):=by rw[bV O];rfl
   have q1:aS an ⟨c,1,none⟩=H (.string ⟨#[]⟩):=by rw[bV O];rfl
   have q2:aS an ⟨c,2,none⟩=H (.bool bj):=by rw[bV O];rfl
   have q3:aS an ⟨c,3,none⟩=H (.int .u64 0):=by rw[bV O];rfl
   have fz:∀cx,an.frozen? ⟨c,cx,none⟩=bj:=λcx=>by simp[World.frozen?,O]
   go_simp;refine hK _ _ Fc ?_;refine eN (by kernel_rfl) ?_ _;show KK _ _;apply bh;have ao:iG (cA (cA (cA (cA an ⟨c,0,none⟩<|.string g) ⟨c,1,none⟩<|.string ⟨#[]⟩) ⟨c,2,none⟩<|.bool l) ⟨c,3,none⟩<|.int .u64 b) c ⟨g,⟨#[]⟩,l,b⟩:=aL<|aL<|aL<|aL O;have o:I (λ_=>False) j (cA (cA (cA (cA an ⟨c,0,none⟩<|.string g) ⟨c,1,none⟩<|.string ⟨#[]⟩) ⟨c,2,none⟩<|.bool l) ⟨c,3,none⟩<|.int .u64 b):=(((E.setCell _ _ _<|.inr s).setCell _ _ _<|.inr s).setCell _ _ _<|.inr s).setCell _ _ _<|.inr s;have aF:=ac.bW o;have ax:=o.own W<|λ_ _ d=>d;have n:=(o.block _ B id).trans bd;have cw:c≠r:=by omega
   have br:z (G a)<=c:=aB ac.size s;have ca:cz (Value.slice nx k nc)≠H c:=λck=>by have:=(W.lt c ck).2;omega
   generalize(cA (cA (cA (cA an ⟨c,0,none⟩<|.string g) ⟨c,1,none⟩<|.string ⟨#[]⟩) ⟨c,2,none⟩<|.bool l) ⟨c,3,none⟩<|.int .u64 b)=W5 at ao aF ax n|-;have d0:aS W5 ⟨r,0,none⟩=H (.string g):=by rw[bV n];rfl
   have d1:aS W5 ⟨r,1,none⟩=H (.string p):=by rw[bV n];rfl
   have d2:aS W5 ⟨r,2,none⟩=H (.bool l):=by rw[bV n];rfl
   have cl:=ar n;obtain⟨V,ad,X,cn⟩:=fX ao aF ax n;clear ao aF ax n o bh hK E O q0 q1 q2 q3 fz bd ac W w x s bp;obtain⟨g0,g1,g2,g3⟩:=V.cells;simp only at g0 g1 g2 g3;have bo:=ar V;cases l with
   |true=>
    go_wp2_with(at_builtin;refine ct _ rfl (.tmp 32) (.tmp 34) 87 rfl (z<|G a) 170 i0 vP 4 48 underlying87 aU ba bb bc rfl (by decide) (.slice nx k nc) k (aI<|(e.take k).map<|jl b) rfl (aX X<|.cells #[.string g,.string ⟨#[]⟩,.bool ci,.int .u64 b] 170) ⟨z<|G W5,0,none⟩ 1 1 (aI [⟨g,⟨#[]⟩,ci,b⟩]) rfl rfl (vF _ ⟨g,⟨#[]⟩,ci,b⟩ _) (Bb _) (by omega) (by omega) (by have:=ad.size;simp;omega) ?_;intro v7 w7 C K;have u:=Y C;have al:=Y K;clear C K)
    obtain⟨x7,c7,aV⟩:=aC u;subst aV;go_roundw;case rel=>
     refine⟨k+1,A,by go_num,?_,?_⟩
     .rw[af bg,fI];exact u
     .exact(ad.alloc _).trans (I.dW (S:=λq=>cz (Value.slice nx k nc)=H q) al.grown<|λq D=>.inl D)<|λq D=>.inr (X.lt q D).1
    case measure=>simp[intOf];omega
   |false=>
    go_wp2_with fail
    apply(bn _).mono;rintro ck w6⟨rfl,bl⟩;have F:I (λ_=>False) W5 w6:=I.aQ bl;have t:iG w6 c ⟨g,⟨#[]⟩,bj,b⟩:=(F.block _ bo id).trans V;have bu:z (G a)<=c:=br;have bk:=(ad.bW F).setCell c 1 (.string p)<|.inr br;have bi:=(((F.mono (T:=λq=>q=c) cC).setCell c 1 (.string p)<|.inl rfl)).own X<|λq D d=>ca (by rw[<-d];exact D);obtain⟨h0,h1,h2,h3⟩:=t.cells;simp only at h0 h1 h2 h3;have cu:w6.frozen? ⟨c,1,none⟩=bj:=by unfold iG at t;simp[World.frozen?,t]
    have cv:=ar t;have au:=Y bk;have L:=Y bi;clear t bk bi F bl g0 g1 g2 g3 d0 d1 d2;go_wp2_with(at_builtin;refine ct _ rfl (.tmp 32) (.tmp 34) 87 rfl (z<|G a) 170 i0 vP 4 48 underlying87 aU ba bb bc rfl (by decide) (.slice nx k nc) k (aI<|(e.take k).map<|jl b) rfl (aX L<|.cells #[.string g,.string p,.bool bj,.int .u64 b] 170) ⟨z<|G w6,0,none⟩ 1 1 (aI [⟨g,p,bj,b⟩]) rfl rfl (by have D:=vF (cA w6 ⟨c,1,none⟩<|.string p) ⟨g,p,bj,b⟩ 170;rwa[gN]at D) (Bb _) (by omega) (by omega) (by have:=au.size;simp;omega) ?_;intro v7 w7 C K;have u:=Y C;have al:=Y K;clear C K)
    obtain⟨x7,c7,aV⟩:=aC u;subst aV;go_roundw;case rel=>
     refine⟨k+1,A,by go_num,?_,?_⟩
     .rw[af bg,fI];exact u
     .exact(au.alloc _).trans (I.dW (S:=λq=>cz (Value.slice nx k nc)=H q) al.grown<|λq D=>.inl D)<|λq D=>.inr (L.lt q D).1
    case measure=>simp[intOf];omega
  .have e1:¬(k:U)<(y e:U):=by omega
   have c:k=y e:=by omega
   obtain⟨g,f,HO,HT⟩:=fX (show aI (e.map<|jl b)=aI ((e.take k).map<|jl b)by rw[c,bL]) c ho E;clear ho E c;go_wp2;go_ret;exact⟨_,rfl,by rw[af g,<-af f];exact HO,HT⟩
def Cz(w:Z)(v:ab)(a:pS):Prop:=(EO w v a/\∀k,cz v=H k->k<z (G w))\/(a=[]/\∃(b:Addr)(c:M),v=J (H b) 0 c)
def xN{c:pS}(i:Cz a d c):∃x g,d=J x (y c) g:=by
 rcases i with⟨⟨k,⟨f,j⟩|⟨h,e,b,f,_⟩⟩,_⟩|⟨rfl,l,g,rfl⟩;grind
 grind
 simp_all
def Cz.ap{S:eT}{w w':Z}{e:pS}(h:Cz w d e)(g:I S w w')(j:∀k,k<z (G w)->¬S k):Cz w' d e:=by
 rcases h with⟨h,c⟩|h;exact .inl ⟨g.row h<|λk a=>⟨j k<|c k a,c k a⟩,λk a=>ah (c k a) g.size⟩;exact .inr h
def Hy(x:Option Addr)(c:M)(w:Z):cD aZ 36 #[J x 0 c] w λe b=>e=aJ (pO<|fJ [])/\I az w b:=by
 go_in
 go_wp2;go_loopw [11] (λi wr=>i=aq 0/\wr=w) (λ_ _=>0)
 case atStart=>grind
 (case round=>obtain⟨rfl,a⟩:=hrel;subst wr;go_wp2;go_ret;exact⟨rfl,I.refl _ _⟩)
def Ti{b:pS}(e:Cz a d b)(f:y b<=1000000000000)(g:∀x∈b,x.key.size<=140737488351232/\x.val.size<=140737488351232):cD aZ 36 #[d] a λi h=>i=aJ (pO<|fJ b)/\I az a h:=by
 rcases e with⟨j,c⟩|⟨rfl,k,d,rfl⟩;exact Kr j c f g;exact Hy _ _ _
def Jn(x:Option Addr)(c:M)(w:Z):cD aZ 45 #[J x 0 c] w λe b=>∃a,e=aJ a/\LU b (z<|G w) a []/\Below (z<|G w) w b:=by
 go_in
 go_wp2;go_loopw [3,4] (λo i wr=>i=aq 0/\o=aw/\wr=w) (λ_ _ _=>0)
 case atStart=>grind
 (case round=>obtain⟨rfl,rfl,rfl⟩:=hrel;go_wp2;go_ret;exact⟨_,rfl,cO _ _ _ _,Below.refl _ _⟩)
def Om{l:pS}(f:y l<=1000000000000)(g:Cz a d l):cD aZ 45 #[d] a λh c=>∃b,h=aJ b/\LU c (z<|G a) b l/\Below (z<|G a) a c:=by
 rcases g with⟨i,e⟩|⟨rfl,j,k,rfl⟩;exact Mm l d a f i e;exact Jn _ _ _
def Iz(A:Option Addr)(s:M)(a:U)(w:Z):cD aZ 73 #[J A 0 s,.int .u64 a] w λt o=>∃n,t=aJ n/\o.ownsRow (z<|G w) 170 4 n 0 []/\I az w o:=by
 obtain⟨r,f,j,k,l⟩:=cU mP;go_in
 go_wp2_with(at_make;refine ki _ rfl _ _ 87 rfl (z<|G w) 170 r vP 4 underlying87 f j k _ _ _ 0 rfl rfl rfl (by rw[l];omega) (by unfold maxLen;omega) (ai _) ?_;intro x c b;have d:=Y c;have e:=Y b;clear c b)
 go_loopw [5,14] (λb i wr=>i=aq 0/\wr.ownsRow (z<|G w) 170 4 b 0 []/\I az w wr) (λ_ _ _=>0)
 case atStart=>exact⟨rfl,d,I.dW e<|by simp⟩
 (case round=>obtain⟨rfl,i,m⟩:=hrel;obtain⟨v,u,g⟩:=aC i;subst g;have p:=Y i;have q:=Y m;clear i m;go_wp2;go_ret;exact⟨_,rfl,p,q⟩)
def Uf{c:pS}(b:U)(h:Cz a d c)(i:y c<=1000000)(j:∀x∈c,x.key.size<=140737488351232/\x.val.size<=140737488351232):cD aZ 73 #[d,.int .u64 b] a λk f=>∃e,k=aJ e/\f.ownsRow (z<|G a) 170 4 e (y c) (aI<|c.map<|jl b)/\I az a f:=by
 rcases h with⟨l,g⟩|⟨rfl,m,d,rfl⟩;exact Ll b l g i j;exact Iz _ _ _ _
structure LW where
 kd:U
 L:ab
 cs:pS
def LW.cells(o:LW):iF:=[aq o.kd,o.L]
def qZ(a:cS LW):iF:=a.flatMap LW.cells
def rP(a:cS LW)(i:M)(h:i<y a)(j:M)(b:j<2):(qZ a)[i*2+j]?=a[i].cells[j]?:=by
 induction a generalizing i with
 |nil=>simp at h
 |cons o a d=>
  have e:qZ (o::a)=o.cells++qZ a:=rfl;have c:y o.cells=2:=rfl;grind
def GO(a:pS):M:=(a.map<|λc=>1+c.key.size+c.val.size).sum
def Yk(o:LW):M:=GO o.cs
def Cs(a:cS LW):M:=(a.map Yk).sum
structure EI(w:Z)(v:ab)(os:cS LW):Prop where
 row:Row w 2 v (y os) (qZ os)
 Rz:∀o∈os,Cz w o.L o.cs
 lt:∀k,cz v=H k->k<z (G w)
 YD:∀o∈os,∀c∈o.cs,c.key.size<=140737488351232/\c.val.size<=140737488351232
 len:y os<=10000000000000
 lens:∀o∈os,y o.cs<=10000000000000
def RZ(a:pS)(k:M)(h:k<y a):GO (a.take<|k+1)=GO (a.take k)+(1+a[k].key.size+a[k].val.size):=by
 unfold GO;rw[aj h,aR,iO];simp
def Ji(a:cS LW)(i:M)(h:i<y a):Cs (a.take<|i+1)=Cs (a.take i)+Yk a[i]:=by
 unfold Cs;rw[aj h,aR,iO];simp
def Ww(a:pS)(k:M):GO (a.take k)<=GO a:=by
 unfold GO;grind[take_append_drop]
def RY(a:cS LW)(k:M):Cs (a.take k)<=Cs a:=by
 unfold Cs;grind[take_append_drop]
def MA(ba g aV:M)(b:cS LW)(h:EI a (aY ba g (y b) aV) b):cD aZ 5 #[aY ba g (y b) aV] a λbd w'=>bd=aJ (aK<|decide<|y b+Cs b<=1048576)/\∃q,w'=a.drewN q:=by
 by_cases aF:1048576<y b;(·(have e1:(1048576:U)<(y b:U):=by omega);(have V:decide (y b+Cs b<=1048576)=bj:=by simp;omega);rw[V];clear h;(go_in);go_wp2;go_ret;exact⟨rfl,0,rfl⟩);(·(have e1:¬((1048576:U)<(y b:U)):=by omega);(have m:∀W:Z,W.heap=a.heap->∀k(hi:k<y b),aS W (R ba<|g+k*2+1)=H b[k].L:=λW l k hi=>by obtain⟨o,⟨S,n⟩|⟨i,e,d,S,f,j⟩⟩:=h.row;cases S;(have c:∀j u,(qZ b)[j]?=H u->aS W (R ba<|g+j)=H u:=λj u a=>by grind[World.cell?_of_block]);rw[bF];exact c _ _<|(rP b k hi 1<|by omega).trans rfl);have w:=Y m;have HS:=Y h;clear h m;(go_in);(go_wp2_with fail);(go_loopw [3,4] (λnv c wr=>∃k:M,k<=y b/\c=aq k/\nv=aq (y b+Cs (b.take k):M)/\y b+Cs (b.take k)<=1048576/\∃q,wr=a.drewN q) (λ_ c _=>y b-(intOf c).toNat));(case atStart=>exact⟨0,bG _,rfl,by simp[Cs],by simp[Cs];omega,0,rfl⟩);(case round=>obtain⟨k,hi,rfl,rfl,u,q,rfl⟩:=hrel;by_cases r:k<y b;(.have i:=ak r;have c5:=w a rfl k r;have A:=HS.YD _ i;have n:=HS.Rz _ i;have an:=HS.lens _ i;have Q:=Ji b k r;have O:=RY b<|k+1;have B:Yk b[k]=GO b[k].cs:=rfl;have ao:∃x lc,b[k].L=J x (y b[k].cs) lc:=xN n;obtain⟨lx,lc,hL⟩:=ao;rw[hL]at c5 n;generalize b[k]=bf at*;obtain⟨bc,oL,c⟩:=bf;simp only at c5 A n an B hL;obtain⟨j,hM⟩:∃j,y b+Cs (b.take k)=j:=⟨_,rfl⟩;rw[hM]at u|-;(have e2:(k:U)<(y b:U):=by omega);(have e3:(0:U)<=(k:U):=by omega);obtain⟨F,E,K,HM,aa,W⟩:=kY Q O B hM A n;clear Q O B hM A n i;(go_wp2_with fail);(go_loopw [3,5] (λnv b wr=>∃l:M,l<=y c/\b=aq l/\nv=aq (j+GO (c.take l):M)/\(0<l->j+GO (c.take l)<=1048576)/\∃q,wr=a.drewN q) (λ_ b _=>y c-(intOf b).toNat));(case atStart=>exact⟨0,bG _,rfl,by simp[GO],λaV=>absurd aV (by omega),q,rfl⟩);(case round=>obtain⟨l,hk,rfl,rfl,f,S,rfl⟩:=hrel;by_cases d:l<y c;(·(have hx:∃D e,lx=H (R D e)/\aS a (R D<|e+l*3)=H (am c[l].key)/\aS a (R D<|e+l*3+1)=H (am c[l].val):=by rcases af W with⟨⟨z1,⟨z2,z0⟩|⟨D,e,au,z2,aU,ac⟩⟩,_⟩|⟨z3,_⟩;omega;cases z2;obtain⟨w1,w2,_⟩:=kJ c l d;exact⟨D,e,rfl,ac _ _ w1,by rw[bF];simp_all⟩;rw[z3]at d;simp at d);obtain⟨D,e,N,d0,d1⟩:=hx;subst N;have al:=aa _<|ak d;have p:=RZ c l d;have x:=Ww c<|l+1;obtain⟨s,t⟩:∃s,c[l].key.size=s:=⟨_,rfl⟩;obtain⟨C,v⟩:∃C,c[l].val.size=C:=⟨_,rfl⟩;rw[t,v]at al p;obtain⟨P,o⟩:∃P,j+GO (c.take l)=P:=⟨_,rfl⟩;rw[o]at f|-;(have bb:P<=281474977759232:=by rcases l with _|l;simp[GO]at o;omega;have:=f (by omega);omega);generalize c[l]=cc at*;obtain⟨ax,aD,av⟩:=cc;simp only at d0 d1 t v;(have b1:IntKind.i64.wrap ((P:U)+1)=(P:U)+1:=by rw[bS];omega);(have b2:IntKind.i64.wrap ((P:U)+1+(s:U))=(P:U)+1+s:=by rw[bS];omega);(have b3:IntKind.i64.wrap ((P:U)+1+(s:U)+(C:U))=(P:U)+1+s+C:=by rw[bS];omega);(have f1:(l:U)<(y c:U):=by omega);(have f0:(0:U)<=(l:U):=by omega);obtain⟨HP,X,RW⟩:=dz o p x;by_cases ad:1048576<P+1+s+C;(·(have V:decide (y b+Cs b<=1048576)=bj:=by have T:=af F;have L:=af E;have h3:=af K;have h4:=af HM;simp;omega);(have f2:(1048576:U)<(P:U)+1+s+C:=by omega);clear o p x f;(go_wp2_with fail);(go_quiet(fail));go_wp2;go_ret;exact⟨(by simp_all),_,rfl⟩);(·(have f2:¬((1048576:U)<(P:U)+1+s+C):=by omega);clear o p x f;(go_wp2_with fail);(go_quiet(fail));rename_i ac;go_wp2;go_roundw;(case rel=>have T:=af HP;have L:=af X;refine⟨l+1,d,by go_num,?_,λ_=>by omega,_,rfl⟩;rw[L];congr 1;omega);case measure=>simp[intOf];omega));(·(have e:l=y c:=by omega);subst e;rw[bL]at f|-;obtain⟨P,o⟩:∃P,j+GO c=P:=⟨_,rfl⟩;rw[o]at f|-;(have f1:¬((y c:U)<(y c:U)):=by omega);have T:=af F;have L:=af E;have h3:=af K;have h4:=af HM;by_cases ad:1048576<P;(·(have V:decide (y b+Cs b<=1048576)=bj:=by simp;omega);(have f2:(1048576:U)<(P:U):=by omega);clear T L h3 h4 o f;go_wp2;go_ret;exact⟨(by simp_all),S,rfl⟩);(·(have f2:¬((1048576:U)<(P:U)):=by omega);(have s:y b+Cs (b.take<|k+1)=P:=by omega);have p:=Y s;clear T L h3 h4 o f s;go_wp2;go_roundw;(case rel=>exact⟨k+1,r,by go_num,by rw[af p],by rw[af p];omega,S,rfl⟩);case measure=>simp[intOf];omega))));(have c:k=y b:=by omega);subst c;rw[bL]at u|-;(have e2:¬((y b:U)<(y b:U)):=by omega);(have V:decide (y b+Cs b<=1048576)=ci:=by grind);go_wp2;go_ret;exact⟨rfl,q,rfl⟩))
def Mz(x:Option Addr)(d:M)(w:Z):cD aZ 5 #[J x 0 d] w λe c=>e=aJ (aK ci)/\c=w:=by
 go_in
 go_wp2;go_loopw [3,4] (λb a wr=>b=aq 0/\a=aq 0/\wr=w) (λ_ _ _=>0)
 case atStart=>exact⟨rfl,rfl,rfl⟩
 (case round=>obtain⟨rfl,rfl,rfl⟩:=hrel;go_wp2;go_ret;exact⟨rfl,rfl⟩)
