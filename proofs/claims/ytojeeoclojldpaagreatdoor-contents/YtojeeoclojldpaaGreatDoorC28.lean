import Derived.Test.YtojeeoclojldpaaGreatDoorC23
import Derived.Test.YtojeeoclojldpaaGreatDoorC24
import Derived.Test.YtojeeoclojldpaaGreatDoorC25
open _root_ renaming List.length→y,Option.some→H,Array.size→z,Go.World.heap→G,Go.Value.ownBlock→bV,Go.World.cell?→aT,Go.World.setCell→bZ,Go.World.alloc→ct,Bool.false→bF,Bool.true→bW,Nat→M,Int→Z,List→cr,Go.Calls→cy,Go.undef→iB,Go.Proofs.Tryz.prog→bG,Go.Value.slice→J,Go.Value.string→ai,Go.Value.bool→aL,Go.Value.pointer→fp,Go.Value.tuple→dB,Go.Value.agg→eC
namespace Go.Proofs.YtojeeoclojldpaaGreatDoor
open ChangeShapes WideShapes RowKit Proofs.Tryz
set_option maxHeartbeats 16000000
set_option linter.all false
set_option maxRecDepth 100000
variable{a:I}{b c g l:M}{d s:aa}{j O:DK}{m F Q:Z}{n:SR}{o:eI}{x:iU}{D:Bool}
def Rd.aw{S:fJ}{w w':I}(r:Rd w b o D)(j:Y S w w')(g:∀k,S k->b<k):Rd w' b o D:=by
 have e:=r.lt;obtain⟨v,p,m,h⟩:=r;refine⟨v,(j.block b e<|λl=>kT _<|g _ l).trans p,?_,h⟩;rcases m with⟨rfl,rfl⟩|⟨q,a,c,rfl,d,n⟩;exact .inl ⟨rfl,rfl⟩;have:=h q rfl;exact .inr ⟨q,a,c,rfl,d,λk b=>j.cell (n k b) (λl=>by have:=g _ l;omega)<|by omega⟩
structure si(w0 wr:I)(sb rb mb:M)(nx lg bt:Z)(vs:iU)(Ds:cr cP)(ks:aa->Prop)(rest:eI):Prop where
 box:wr.heap[sb]?=H (ar (aH nx::aH lg::aH bt::vs).toArray 187 (0,0))
 za:y vs=4
 AC:y Ds=4
 rows:∀(j:M)(v:aa)(D:cP),vs[j]?=H v->Ds[j]?=H D->wr.ownsRow (mb+1) 266 4 v (y D) (dh D)
 ne:∀(j j':M)(v v':aa)(q:M),j≠j'->vs[j]?=H v->vs[j']?=H v'->bV v=H q->bV v'≠H q
 set:lD wr mb (.int .u64) ks
 rd:Rd wr rb rest bF
 aw:Y aB w0 wr
 ord:z (G w0)<=rb/\rb<sb/\sb<mb/\mb<z (G wr)
def si.row{p wr:I}{a:cr cP}{n:aa->Prop}(k:si p wr b c g m F Q x a n o){j:M}(e:x[j]?=H d):∃D,a[j]?=H D/\wr.ownsRow (g+1) 266 4 d (y D) (dh D):=by
 have l:j<4:=by rw[<-k.za];rcases dF j (y x)with h|h;exact h;rw[dl h]at e;cases e
 have f:a[j]?=H (a[j]'(by rw[k.AC];exact l)):=aG _;exact⟨_,f,k.rows j d _ e f⟩
def si.own{n wr:I}{a:cr cP}{k:aa->Prop}(p:si n wr b c g m F Q x a k o)(j:x[l]?=H d){q:M}(e:bV d=H q):g<q/\q<z (G wr):=by
 obtain⟨D,_,h⟩:=p.row j;have:=aI h q e;omega
def si.cell{h wr:I}{d:Z}{a:cr cP}{e:aa->Prop}(k:si h wr b c g m Q d x a e o)(j:M):aT wr (R b<|3+j)=x[j]?:=by
 rw[bN k.box,vA 3 j];simp
def si.read{j wr e:I}{f:cr cP}{i:aa->Prop}{a:eI}(h:si j wr b c g m F Q x f i o)(d:Y (λl=>l=c) wr e)(k:Rd e c a bF):si j e b c g m F Q x f i a where
 box:=(d.block b (ak h.box) (by have:=h.ord;omega)).trans h.box
 za:=h.za
 AC:=h.AC
 rows:=λl v D b g=>d.own (h.rows l v D b g) (λq k n=>by have:=h.own b k;have:=h.ord;omega)
 ne:=h.ne
 set:=h.set.de<|d.block g h.ord.2.2.2 (by have:=h.ord;omega)
 rd:=k
 aw:=h.aw.trans d<|λl b=>.inr (by have:=h.ord;omega)
 ord:=⟨h.ord.1,h.ord.2.1,h.ord.2.2.1,ag h.ord.2.2.2 d.size⟩
def si.still{f wr h:I}{a:cr cP}{e:aa->Prop}(i:si f wr b c g m F Q x a e o)(d:Y aB wr h):si f h b c g m F Q x a e o:=i.read (d.mono cG)<|i.rd.aw d cG
def si.Ei{j wr e:I}{f:cr cP}{l d:aa->Prop}(h:si j wr b c g m F Q x f l o)(a:wr.grownBy e (H g))(k:lD e g (.int .u64) d):si j e b c g m F Q x f d o where
 box:=(a.block b (ak h.box) (by have:=h.ord;intro i;cases i;omega)).trans h.box
 za:=h.za
 AC:=h.AC
 rows:=λp v D b g=>(fg a).own (h.rows p v D b g) (λq k i=>by have:=h.own b k;omega)
 ne:=h.ne
 set:=k
 rd:=h.rd.aw (fg a) (λn i=>by have:=h.ord;omega)
 aw:=h.aw.trans (fg a)<|λn i=>.inr (by have:=h.ord;have:n=g:=i;omega)
 ord:=⟨h.ord.1,h.ord.2.1,h.ord.2.2.1,ag h.ord.2.2.2 a.size⟩
def si.ks{f wr:I}{d:cr cP}{e a:aa->Prop}(h:si f wr b c g m F Q x d e o)(i:∀k,a k↔e k):si f wr b c g m F Q x d a o:={h with set:=h.set.congr i}
def si.put{W wr u:I}{N:cr cP}{V:aa->Prop}{D':cP}(v:si W wr b c g m F Q x N V o)(w:x[l]?=H d)(K:eP wr u d s)(P:u.ownsRow (g+1) 266 4 s (y D') (dh D')):si W (bZ u (R b<|3+l) s) b c g m F Q (x.set l s) (N.set l D') V o:=by
 have B:Y (λD=>bV d=H D) wr u:=Y.fy K;have t:=λq=>v.own (q:=q) w;have a:=v.ord;have C:u.heap[b]?=H (ar (aH m::aH F::aH Q::x).toArray 187 (0,0)):=(B.block b (ak v.box) (λn=>by have:=t _ n;omega)).trans v.box;have k:Y (λD=>D=b) u (bZ u (R b<|3+l) s):=(Y.refl (λD=>D=b) u).setCell _ _ _<|.inl rfl;have A:∀q,bV s=H q->g<q/\q<z (G u):=λq e=>by have:=aI P q e;omega
 refine⟨?_,by rw[eK];exact v.za,by rw[eK];exact v.AC,?_,?_,?_,?_,?_,?_⟩;rw[aR C,vA 3 l];simp;intro S ac r j h;by_cases n:l=S;subst n;rw[gH]at j h;rw[w]at j;obtain⟨L,i,_⟩:=v.row w;rw[i]at h;cases j;cases h;exact k.own P (λq e n=>by have:=A q e;omega);rw[fF n]at j h;have i:=B.own (v.rows S ac r j h)<|λq e E=>v.ne S l ac d q (Ne.symm n) j w e E;exact k.own i (λq e n=>by have:=v.own j e;omega);intro S i' ac u' q r j i e;by_cases n:l=S;subst n;rw[fF r]at i;rw[gH,w]at j;cases j;intro h;change bV s=H q at e;rcases K.uc with E|⟨L,E,X⟩;exact v.ne _ _ _ _ q r w i (E.symm.trans e) h;rw[E]at e;cases e;have:=v.own i h;omega;rw[fF n]at j;by_cases O:l=i';subst O;rw[gH,w]at i;cases i;intro h;change bV s=H q at h;rcases K.uc with E|⟨L,E,X⟩;exact v.ne _ _ _ _ q r j w e<|E.symm.trans h;rw[E]at h;cases h;have:=v.own j e;omega;rw[fF O]at i;exact v.ne _ _ _ _ q r j i e;exact(v.set.de<|B.block g a.2.2.2 (λn=>by have:=t _ n;omega)).de (k.block g (ag a.2.2.2 B.size)<|by omega);exact(v.rd.aw B (λD n=>by have:=t _ n;omega)).aw k (λD n=>by have:D=b:=n;omega);exact(v.aw.trans B<|λD n=>.inr (by have:=t _ n;omega)).trans k<|λD n=>.inr (by have:D=b:=n;omega);exact⟨a.1,a.2.1,a.2.2.1,by rw[gz];exact ag a.2.2.2 B.size⟩
structure nF(Ms Ds:cr cP)(i k:M):Prop where
 low:∀j,j<i->Ds[j]?=Ms[j]?
 now:∀m,Ms[i]?=H m->Ds[i]?=H (m.take k)
 uZ:∀j,i<j->j<4->Ds[j]?=H []
theorem nF.start(c:cr cP):nF c [[],[],[],[]] 0 0 where
 low:=λj h=>absurd h<|gG j
 now:=λm _=>rfl
 uZ:=λj h d=>by
  rcases j with _|_|_|_|j
  .omega
  .rfl
  .rfl
  .rfl
  .omega
theorem nF.xB{c g:cr cP}{i:M}{m:cP}(k:nF c g i (y m))(h:c[i]?=H m)(e:y c=4):nF c g (i+1) 0 where
 low:=λj l=>by
  rcases dF j i with f|f
  .exact k.low j f
  .obtain rfl:j=i:=by omega
   rw[h,k.now m h,bP]
 now:=λh d=>by
  have:i+1<4:=by
   rw[<-e];rcases dF (i+1) (y c)with f|f
   .exact f
   .rw[dl f]at d;cases d
  rw[wS];exact k.uZ _ (Nat.lt_succ_self i) this
 uZ:=λj l e=>k.uZ j (by omega) e
theorem nF.one{d f:cr cP}{i k:M}{m:cP}(h:nF d f i k)(g:d[i]?=H m):nF d (f.set i<|m.take<|k+1) i (k+1)where
 low:=λj e=>by rw[fF<|by omega];exact h.low j e
 now:=λl c=>by
  rw[g]at c;cases c;rw[gH,h.now m g];rfl
 uZ:=λj e c=>by rw[fF<|by omega];exact h.uZ j e c
theorem nF.all{d c:cr cP}(h:nF d c 4 0)(g:y d=4)(f:y c=4):c=d:=by
 refine pO<|λj=>?_;rcases dF j 4 with e|e;exact h.low j e;rw[dl (by omega),dl<|by omega]
def xq(c:cr cP)(i k:M):cP:=(c.take i).flatten++((c[i]?).getD []).take k
theorem QN(c:cr cP):xq c 0 0=[]:=by simp[xq]
theorem Tz{c:cr cP}{i k:M}{m:cP}(e:c[i]?=H m)(d:k<y m):xq c i (k+1)=xq c i k++[m[k]]:=by
 unfold xq;rw[e];simp only[gU];rw[aj d,aU]
theorem Nx{c:cr cP}{i:M}{m:cP}(d:c[i]?=H m):xq c (i+1) 0=xq c i (y m):=by
 unfold xq;rw[d];have e:i<y c:=by rcases dF i (y c)with f|f;exact f;rw[dl f]at d;cases d
 have g:c[i]=m:=by rw[aG e]at d;exact dD d
 simp only[gU,bP,wS,dJ];rw[aj e,dP,g];simp
theorem DX{c:cr cP}{i k:M}{m:cP}(d:c[i]?=H m)(l:k<y m):c.flatten=xq c i k++m[k]::(m.drop (k+1)++(c.drop<|i+1).flatten):=by
 have e:i<y c:=by rcases dF i (y c)with f|f;exact f;rw[dl f]at d;cases d
 have n:c[i]=m:=by rw[aG e]at d;exact dD d
 have g:c.flatten=(c.take i).flatten++(m++(c.drop<|i+1).flatten):=by(conv=>lhs;rw[<-bX i c,bE e]);rw[dP,aX,n]
 have h:m.take k++m[k]::m.drop (k+1)=m:=by rw[<-bE l,bX]
 unfold xq;rw[d,g];simp only[gU];have j:m++(c.drop<|i+1).flatten=m.take k++m[k]::(m.drop (k+1)++(c.drop<|i+1).flatten):=by(conv=>lhs;rw[<-h]);rw[aU];rfl
 rw[j,aU]
theorem Ny{c:cr cP}{i k:M}{m:cP}(d:(c.flatten.map bJ.num).Nodup)(f:c[i]?=H m)(e:k<y m):∀u∈xq c i k,u.num≠m[k].num:=by
 intro u g h;rw[DX f e,aM,aY,jq]at d;exact d.2.2 u.num (gY g) m[k].num (by simp) h
theorem Rj{c:cr cP}{i k:M}{m:cP}(e:c[i]?=H m)(d:k<y m):m[k]∈c.flatten:=by
 rw[DX e d];simp
def pZ(c:cr cP)(i:M):eI:=((c.drop i).map oC).flatten
theorem KA{c:cr cP}{i:M}{m:cP}(d:c[i]?=H m):pZ c i=le 4 (y m)++(m.flatMap uw++pZ c (i+1)):=by
 have e:i<y c:=by rcases dF i (y c)with f|f;exact f;rw[dl f]at d;cases d
 have g:c[i]=m:=by rw[aG e]at d;exact dD d
 unfold pZ;rw[bE e,aY,aX,g];unfold oC;rw[aU]
theorem QF{c:cr cP}{i:M}(h:y c<=i):pZ c i=[]:=by
 unfold pZ;rw[List.drop_eq_nil_iff.2 h];rfl
theorem Ur(t:bJ):kA (uw t):=(kA.le 8 _).append<|(kA.le 4 _).append<|(kA.le 4 _).append<|kA.le 4 _
theorem Bs(m:cP):kA (m.flatMap uw):=λx d=>by
 obtain⟨t,_,c⟩:=lZ.1 d;exact Ur t x c
theorem uX(d:cr cP)(i:M):kA (pZ d i):=λx c=>by
 unfold pZ at c;obtain⟨l,e,c⟩:=bz.1 c;obtain⟨m,_,rfl⟩:=aZ.1 e;exact((kA.le 4 _).append<|Bs m) x c
theorem AB(m:cP):y (m.flatMap uw)=20*y m:=by
 have:=py m;unfold oC at this;rw[af,bY]at this;omega
theorem zW(c:cr cP):∀i,y (pZ c i)<=4*y c+20*y c.flatten:=by
 intro i;unfold pZ
 have h:∀L:cr cP,y ((L.map oC).flatten)=4*y L+20*y L.flatten:=by
  intro L;induction L with
  |nil=>rfl
  |cons m L d=>
   rw[aY,aX,af,d,py,aX,af,ay];omega
 rw[h];have e:y (c.drop i)<=y c:=by simp
 have f:y (c.drop i).flatten<=y c.flatten:=by(conv=>rhs;rw[<-bX i c,dP,af]);omega
 omega
section
variable{P:Program}(w:I){b:Array Oper}{rest:cr Oper}{o:Oper}{a:Act}{Q:Exit->Act->I->Prop}
theorem Fv(p:o.guard=none)(j x k:Operand)(D:TypeId)(h:o.op=Op.insert D j x k)(C F:TypeId)(s:P.underlying D=H (.map C F))(m:TypeDesc)(q:P.underlying C=H m)(l:M)(i:aa->Prop)(r:a.eval j=.map (H l))(K:lD w l m i)(c:aa)(g:MapKept.IsKey m c)(u:a.eval x=c)(t:a.eval k=eC #[])(n:∀d,lD d l m (λx=>i x\/x=c)->w.grownBy d (H l)->z (G d)=z (G w)->wpList P b Q rest (a.put o.dst iB) d):wpList P b Q (o::rest) a w:=by
 refine kO p λE f=>?_;obtain⟨d,e,v,A,B⟩:=zh s q K c g;unfold Oper.wp;simp[execOp,h,r,u,t,e,Result.andThen];exact f _ _<|n d v A B
end
def Ly(a:M)(b:cP):aa->Prop:=λx=>x=aH a\/∃t∈b,x=aH t.num
def Ox(ei e m next d b:M)(f:cr cP)(hT:Steps a)(h4:y f=4)(ko:next<18446744073709551616)(kn:d<next)(jG:b<18446744073709551616)(hf:y f.flatten<=1000000)(n:∀bn∈f.flatten,bn.oa)(cn:(f.flatten.map bJ.num).Nodup)(ck:∀bn∈f.flatten,bn.num<next/\bn.num≠d)(T:y (iF next d b f)<=m)(fk:ei<z (G a))(hb:Bytes a (bD ei e (y<|iF next d b f) m) (iF next d b f)):cy bG 149 #[bD ei e (y<|iF next d b f) m] a λt w'=>
 ∃x0 n0 c0 x1 n1 c1 x2 n2 c2 x3 n3 c3,t=aO (dB #[eC #[aH next,aH d,aH b,J x0 n0 c0,J x1 n1 c1,J x2 n2 c2,J x3 n3 c3],aL bW])/\(∀(eg:M)(bb:aa)(iv:cP),[J x0 n0 c0,J x1 n1 c1,J x2 n2 c2,J x3 n3 c3][eg]?=H bb->f[eg]?=H iv->w'.ownsRow (z<|G a) 266 4 bb (y iv) (dh iv))/\Y aB a w':=by
 obtain⟨i0,hN,bm,hX,hY⟩:=cz LG
 obtain⟨u0,hU,hW,kc,kd⟩:=cz EI
 have jB:∀(iu:Bool)(a:I),(Op.unary .not<|aL iu).run bG a=.ok (aL<|!iu) a:=λ_ _=>rfl
 have kb:=@tF bG
 obtain⟨v,W⟩:∃v,v=le 8 (next:M)++(le 8 (d:M)++(le 8 (b:M)++pZ f 0)):=⟨_,rfl⟩
 have he:iF next d b f=iC v:=by
  rw[W];unfold iF pZ;simp
 have bk:=zW f
 rw[h4]at bk
 have hP:y v<=21000000:=by
  rw[W];have:=bk 0;simp only[af,bY];omega
 rw[he]at T hb|-
 rw[gu]at T hb|-
 have hg:Y aB a (ct a<|ar #[aH 0,aH 0,aH 0,aK,aK,aK,aK] 187):=(Y.refl _ a).alloc _
 have ed:=wZ ei e m v (hT.alloc<|ar #[aH 0,aH 0,aH 0,aK,aK,aK,aK] 187) T (by omega)<|hb.alloc _
 have gs:(ct a<|ar #[aH 0,aH 0,aH 0,aK,aK,aK,aK] 187).heap[z<|G a]?=H (ar #[aH 0,aH 0,aH 0,aK,aK,aK,aK] 187 (0,0)):=aD _ rfl
 have fl:Bytes a (bD ei e (y v) m) v:=by
  unfold iC at hb;rcases hb with⟨t,_⟩|⟨o,r,p,t,l,g⟩
  .cases t
  .simp only[Value.slice.injEq,tG,Addr.mk.injEq]at t;obtain⟨⟨rfl,rfl,_⟩,_,rfl⟩:=t;refine .inr ⟨_,_,_,rfl,by omega,λk hk=>?_⟩;have:=g k (by simp;omega);rw[gd hk]at this;exact this
 obtain⟨PL,dv⟩:∃PL,y v=PL:=⟨_,rfl⟩
 rw[dv]at ed|-
 obtain⟨ht,hG,bc,hD,bt,eq⟩:=kG fl hg gs dv W cn
 obtain⟨hz,eo,ad,H4,ac⟩:=jP n ck bk h4 hf
 clear hb fl T he hP hg gs dv W cn n ck bk h4 hf hT
 go_in
 go_wp2_with fail
 apply ed.mono
 rintro t w1⟨rfl,bh⟩
 have bg:Y aB a w1:=hG.ci<|Y.aW (S:=aB) bh
 have al:=U<|Y.aW (S:=aB) bh
 have dx:=(Y.aW (S:=aB) bh).block _ (ak bc) id|>.trans bc
 have ff:Bytes w1 (bD ei e PL m) v:=by
  rw[<-ae hD];exact ht.below (bg.below (ah _) cG) (λk hk=>by cases hk;exact fk)
 have hQ:=bg.size
 have gt:=ak dx
 have gk:=mR ff (by intro k hk;cases hk;show ei<z (G w1);omega)
 have bT:=U bg
 have dn:=U dx
 clear ed bh bg dx ff
 go_wp2_with fail
 apply gk.mono
 rintro t w2⟨rfl,i,bl⟩
 subst bl
 obtain⟨s,ea⟩:∃s,z (G w1)=s:=⟨_,rfl⟩
 have bv:=U<|al.alloc<|ar #[bD ei e PL m,aL bF] 376
 have bm:z (G<|ct a<|ar #[aH 0,aH 0,aH 0,aK,aK,aK,aK] 187)<=s:=by have:=al.size;omega
 have ey:=U<|bT.alloc<|ar #[bD ei e PL m,aL bF] 376
 have hE:=U<|(fX (ar #[bD ei e PL m,aL bF] 376)<|ak dn).trans dn
 have hS:s<z (G<|ct w1<|ar #[bD ei e PL m,aL bF] 376):=by simp[ea]
 rw[ea]at i|-
 rw[ae bt]at i
 have jD:z (G a)<s:=by omega
 clear gk ea bT dn bt
 generalize ct w1 (ar #[bD ei e PL m,aL bF] 376)=w2 at*
 have gb:=Ak s (next:M) _ w2 i ((kA.le 8 _).append<|(kA.le 8 _).append<|uX f 0) (by have:=ad 0;have:=ae ac;simp only[af,bY];omega) (by omega)<|by omega
 clear i
 go_wp2_with fail
 apply gb.mono
 rintro t w3⟨rfl,cv,fs⟩
 have gc:=Ak s (d:M) _ w3 cv ((kA.le 8 _).append<|uX f 0) (by have:=ad 0;have:=ae ac;simp only[af,bY];omega) (by omega)<|by omega
 have em:=U fs
 clear cv fs gb
 go_wp2_with fail
 apply gc.mono
 rintro t w4⟨rfl,cx,fu⟩
 have ge:=Ak s (b:M) _ w4 cx (uX f 0) (by have:=ad 0;have:=ae ac;omega) (by omega)<|by omega
 have en:=U fu
 clear cx fu gc
 go_wp2_with fail
 apply ge.mono
 rintro t w⟨rfl,cB,fv⟩
 have ba:Y (λk=>k=s) w2 w:=((fg em).trans (fg en)<|λ_ h=>.inl h).trans (fg fv)<|λ_ h=>.inl h
 have bx:=U<|bv.trans ba<|λk hk=>.inr (by have:k=s:=hk;omega)
 have gv:s<z (G w):=by have:=ba.size;omega
 have bu:=U cB
 clear cB fv ge ba em en ey hE bv al
 have B:lD (ct (ct w<|ar #[aH next,aH d,aH b,aK,aK,aK,aK] 187)<|.map #[] 0) (z (G w)+1) (.int .u64) aB:=by
  have:=lD.new (ct w<|ar #[aH next,aH d,aH b,aK,aK,aK,aK] 187)<|.int .u64;have t:z (G<|ct w<|ar #[aH next,aH d,aH b,aK,aK,aK,aK] 187)=z (G w)+1:=by simp
  rw[t]at this;exact this
 have fn:(ct (ct w<|ar #[aH next,aH d,aH b,aK,aK,aK,aK] 187)<|.map #[] 0).heap[z<|G w]?=H (ar #[aH next,aH d,aH b,aK,aK,aK,aK] 187 (0,0)):=(fX _<|by simp).trans<|aD _ rfl
 have P:=U B
 have ek:=U fn
 clear B fn
 go_wp2_with((refine Fv _ rfl _ _ _ 332 rfl 103 94 underlying332 (.int .u64) underlying103 (z (G w)+1) _ rfl P (aH d) rfl rfl rfl ?_;intro w8 gA fx hp;have ex:=U gA;have dm:=U fx;have fb:=U hp;clear gA fx hp))
 have hA0:si (ct a<|ar #[aH 0,aH 0,aH 0,aK,aK,aK,aK] 187) w8 (z<|G w) s (z (G w)+1) next d b [aK,aK,aK,aK] [[],[],[],[]] (Ly d<|xq f 0 0) (pZ f 0):=by
  have g:Y (λk=>k=z (G w)+1) w w8:=(((Y.refl (λk=>k=z (G w)+1) w).alloc _).alloc _).trans (fg dm)<|λ_ dd=>.inl dd;refine⟨?_,rfl,rfl,?_,?_,ex.congr<|λk=>?_,bu.aw g (λk hk=>by have:k=z (G w)+1:=hk;omega),bx.trans g<|λk hk=>.inr (by have:k=z (G w)+1:=hk;omega),⟨bm,gv,by omega,?_⟩⟩
  .exact(dm.block _ (by simp;omega) (by intro t;have:=dD t;omega)).trans ek
  .intro eg bb l F hT;have t:bb=aK/\l=[]:=by
    rcases eg with _|_|_|_|eg<;>simp at F hT<;>exact⟨F.symm,hT⟩
   rw[t.1,t.2];exact bK _ _ _ _
  .intro eg l bb o q _ F _ hq;have t:bb=aK:=by
    rcases eg with _|_|_|_|eg<;>simp at F<;>exact F.symm
   rw[t]at hq;cases hq
  .unfold Ly;rw[QN];simp
  .rw[ae fb];simp
 have dk:=U hA0
 obtain⟨c,ha⟩:∃c,z (G w)=c:=⟨_,rfl⟩
 rw[ha]at dk|-
 obtain⟨mb,gg⟩:∃mb,c+1=mb:=⟨_,rfl⟩
 rw[gg]at dk|-
 have cl:∀(j:M)(C:cP),f[j]?=H C->y C<=1000000:=λj C hm=>by
  have h1:=ae ac;have h2:y C<=y f.flatten:=by
   have:C∈f:=gp hm;exact pR<|cN this
  omega
 have hA:=U cl
 clear hA0 ex dm fb P ek bu bx ha gg cl gv hQ gt hS bm
 go_wp2_with fail
 go_loopw [35] (λe wr=>∃(j:M)(vs:iU)(Ds:cr cP),j<=4/\e=ap j/\si (ct a<|ar #[aH 0,aH 0,aH 0,aK,aK,aK,aK] 187) wr c s mb next d b vs Ds (Ly d<|xq f j 0) (pZ f j)/\nF f Ds j 0) (λe _=>4-(intOf e).toNat)
 case atStart=>exact⟨0,_,_,bA _,rfl,dk,nF.start f⟩
 case round=>
  obtain⟨j,vs,Ds,kl,rfl,o,bd⟩:=hrel;by_cases gf:j<4
  .have fL:j<y f:=by rw[ae H4];exact gf
   obtain⟨C,hm⟩:∃C,f[j]?=H C:=⟨_,aG fL⟩;have ka:=hA j C hm;have eb:=o.rd;rw[KA hm]at eb;have ho:=rX s (y C:M) _ wr eb ((Bs C).append<|uX f<|j+1) (by have:=ad<|j+1;have:=ae ac;rw[af,AB];omega) (by omega) (by omega);obtain⟨HA,hF,HM⟩:=dC o bd hm;have e1:(j:Z)<4:=by omega
   clear o bd hm eb fL;go_wp2_with fail
   apply ho.mono;rintro t w9⟨rfl,cE,fz⟩;have hs:=U<|HA.read (fg fz) cE;clear cE fz ho HA;go_wp2_with fail
   go_loopw [9] (λe g=>∃(k:M)(vs:iU)(Ds:cr cP),k<=y C/\e=dq (y C-k:M)/\si (ct a<|ar #[aH 0,aH 0,aH 0,aK,aK,aK,aK] 187) g c s mb next d b vs Ds (Ly d<|xq f j k) ((C.drop k).flatMap uw++pZ f (j+1))/\nF f Ds j k) (λe _=>(intOf e).toNat)
   case atStart=>exact⟨0,_,_,bA _,rfl,by rw[List.drop_zero];exact hs,hF⟩
   case round=>
    obtain⟨k,ef,jE,hk,rfl,hA2,A⟩:=hrel;by_cases r:k<y C
    .have hm:=ae HM;have av:=Rj hm r;have n:=hz _ av;have dT:=eo _ av;have fr:=Ny eq hm r;have hd:=Tz hm r;have cM:=A.one hm (k:=k);have hh:C.take (k+1)=C.take k++[C[k]]:=aj r;have fe:=A.now C hm;have i:=hA2.rd;rw[bE r,dI,aU]at i;have hM:y ((C.drop<|k+1).flatMap uw++pZ f (j+1))<=100000000:=by
      have:=ad<|j+1;have:=ae ac;have h1:y (C.drop<|k+1)<=y C:=by simp
      rw[af,AB];omega
     have bf:kA ((C.drop<|k+1).flatMap uw++pZ f (j+1)):=(Bs _).append<|uX f<|j+1;generalize hR:(C.drop<|k+1).flatMap uw++pZ f (j+1)=ds at i hM bf|-;have HR:=U hR;clear hR;generalize C[k]=bn at*;unfold uw at i;simp only[aU]at i;have jH:=zx<|fa bn.ks;have jI:=BC<|fa bn.ks;have q1:=n.num;have q2:=n.d;have q3:=n.i;have gi:bn.ur=[aH bn.num,dq<|y<|dG bn.cs,dq<|y<|fa bn.ks,dq<|mr<|fa bn.ks]:=rfl;have cm:¬Ly d (xq f j k) (aH bn.num):=by
      rintro(dd|⟨ej,hu,dd⟩)
      .simp only[Value.int.injEq,true_and]at dd;exact dT.2<|by omega
      .simp only[Value.int.injEq,true_and]at dd;exact fr ej hu<|by omega
     have cj:∀iu,Ly d (xq f j<|k+1) iu↔(Ly d (xq f j k) iu\/iu=aH bn.num):=λiu=>by
      unfold Ly;rw[hd];simp only[am,bH];constructor
      .rintro(dd|⟨ej,hu|rfl,dd⟩)
       .exact .inl<|.inl dd
       .exact .inl<|.inr ⟨ej,hu,dd⟩
       .exact .inr dd
      .rintro((dd|⟨ej,hu,dd⟩)|dd)
       .exact .inl dd
       .exact .inr ⟨ej,.inl hu,dd⟩
       .exact .inr ⟨bn,.inr rfl,dd⟩
     have jA:=dT.1;obtain⟨hw,hB,hy,hH,hv,et⟩:=kG cj cm gi hh fe cM;clear cj cm gi hh fe cM hd fr dT av n A hm;generalize bn.num=D at*;generalize y (dG bn.cs)=tl at*;generalize y (fa bn.ks)=X at*;generalize mr (fa bn.ks)=K at*;have a1:kA (le 4 K++ds):=(kA.le 4 _).append bf;have a2:kA (le 4 (X:M)++(le 4 K++ds)):=(kA.le 4 _).append a1;have a3:kA (le 4 (tl:M)++(le 4 (X:M)++(le 4 K++ds))):=(kA.le 4 _).append a2;have hj:=Ak s (D:M) _ wr i a3 (by simp only[af,bY];omega) (by omega) (by omega);obtain⟨hr,I1,I2,IR⟩:=gx hA2 a1 a2 bf;have e2:(0:Z)<((y C-k:M):Z):=by omega
     clear hA2 i a1 a2 a3 bf;go_wp2_with fail
     apply hj.mono;rintro t ih⟨rfl,co,cb⟩;have bl:=rX s (tl:M) _ ih co I2 (by simp only[af,bY];omega) (by omega) (by omega);have bp:=U cb;clear co cb hj;go_wp2_with fail
     apply bl.mono;rintro t il⟨rfl,cp,cc⟩;have hl:=rX s (X:M) _ il cp I1 (by simp only[af,bY];omega) (by omega) (by omega);have bq:=U cc;clear cp cc bl;go_wp2_with fail
     apply hl.mono;rintro t ip⟨rfl,cs,cd⟩;have hn:=rX s K _ ip cs IR (by omega) (by omega) (by omega);have br:=U cd;clear cs cd hl;go_wp2_with fail
     apply hn.mono;rintro t L⟨rfl,cu,ce⟩;have db:Y (λk=>k=s) wr L:=(((fg bp).trans (fg bq)<|λ_ h=>.inl h).trans (fg br)<|λ_ h=>.inl h).trans (fg ce)<|λ_ h=>.inl h;have hA13:=hr.read db cu;have hA14:=hA13.still<|(Y.refl aB L).alloc<|ar #[aH D,dq tl,dq X,dq K] 266;have hA15:=hA14.still<|(Y.refl aB _).alloc<|ar #[] 94;have hO:=Bb underlying332 underlying103 hU hW hA14.set (aH D) rfl bF (by simp only[im,false_iff];exact hB);have hc:=Gr hA15.rd;obtain⟨O,hC,x⟩:=dC hA15 (show∀(bb:aa)(q:M),ef[j]?=H bb->bV bb=H q->q<z (G L)fromλbb q F hq=>(hA13.own F hq).2)<|show(ct (ct L<|ar #[aH D,dq tl,dq X,dq K] 266)<|ar #[] 94).heap[z<|G L]?=H (ar #[aH D,dq tl,dq X,dq K] 266 (0,0))from(fX _<|by simp).trans<|aD _ rfl;clear cu ce db hA13 hA14 hA15 hn bp bq br;go_wp2_with fail
     apply hc.mono;rintro t it⟨rfl,jC⟩;subst it;obtain⟨mk,n⟩:∃mk,z (G L)=mk:=⟨_,rfl⟩;have hx:=U n;rw[n]at x|-;clear hO hc n;generalize ct (ct L<|ar #[aH D,dq tl,dq X,dq K] 266) (ar #[] 94)=fd at*;have g0:aT fd (R mk 0)=H (aH D):=by rw[bN<|ae x];rfl
     have g1:aT fd (R c 0)=H (aH next):=by rw[bN (ae O).box];rfl
     have e3:¬((next:Z)<=(D:Z)):=by omega
     go_wp2_with(at_mapUpdate;go_loud(refine uj _ rfl _ _ _ 332 rfl 103 94 underlying332 (.int .u64) underlying103 mb _ rfl O.set (aH D) rfl rfl rfl ?_;intro u cT ch;have ev:=U cT;have bs:=U ch;clear cT ch))
     have hA16:=(O.Ei bs ev).ks hw;have p:=(bs.block mk (ak x) (by intro t;have t:=dD t;obtain⟨kk,kf,jK,_⟩:=O.set;have h2:=ae x;rw[t,jK]at h2;cases h2)).trans x;have hi:j<y ef:=by rw[hA16.za];exact gf
     obtain⟨bb,F⟩:∃bb,ef[j]?=H bb:=⟨_,aG hi⟩;have V:=hA16.rows j bb _ F hv;obtain⟨ox,oc,gr⟩:=aC V;have ec:y (C.take k)=k:=by rw[dL];omega
     rw[ec]at V gr;have k0:aT u (R c<|3+j)=H bb:=(hA16.cell j).trans F;have k1:=cellAt p 0 rfl;have k2:=cellAt p 1 rfl;have k3:=cellAt p 2 rfl;have k4:=cellAt p 3 rfl;have au:=ak hA16.box;have l:=ak p;have gn:=hA16.ord;obtain⟨es,bo,HV,hI⟩:=gx V hA16 F ec;have e0:(0:Z)<=(j:Z):=by omega
     clear hA16 p V F ec hi g0 g1;subst gr;have Q:aT u.drew (R c<|3+j)=H (J ox k oc)/\aT u.drew (R mk 0)=H (aH D)/\aT u.drew (R mk 1)=H (dq tl)/\aT u.drew (R mk 2)=H (dq X)/\aT u.drew (R mk 3)=H (dq K):=by
      rw[bB,bB,bB,bB,bB];exact⟨k0,k1,k2,k3,k4⟩
     refine yH (by kernel_rfl) ?_;refine wpAny_take (i:=8) (v:=fp<|H<|R c 3) rfl (by kernel_rfl) (by kernel_rfl) (by kernel_rfl) (λ_ _ _ h=>h) (Or.inl ⟨by rfl,λg=>?_⟩) ?_
     .go_simp;try with_reducible rfl
     simp only[Act.put,du,iy];refine ot (S:=λg=>aT g (R c<|3+j)=H (J ox k oc)/\aT g (R mk 0)=H (aH D)/\aT g (R mk 1)=H (dq tl)/\aT g (R mk 2)=H (dq X)/\aT g (R mk 3)=H (dq K)) (m:=10) _ _ _ _ ?_;refine dA 0 ?_;iterate 6 (refine fw (v:=?_) Q rfl (by kernel_rfl) jU rfl ?_ ?_;rotate_left;(focus(rintro g⟨z0,z1,z2,z3,z4⟩;go_simp;try rfl));simp only[Act.put,du,iy,Nat.reduceAdd])
     apply eX;refine aP (i:=6) rfl rfl (by kernel_rfl) ?_;intro K6 hK;go_simp;refine hK _ _ (λ_=>?_) ?_
     .rw[bB,bB,bB,bB,bB,fm au,fm l,fm l,fm l,fm l];exact⟨k0,k1,k2,k3,k4⟩
     try simp only[Act.put,du,iy]
     refine aP (i:=7) rfl rfl (by kernel_rfl) ?_;intro K7 hL;try simp only[dj,cD,cO]
     refine kF (.tmp 81) (.tmp 83) 184 rfl (mb+1) 266 i0 (eC #[aH 0,dq 0,dq 0,dq 0]) 4 24 underlying184 hN bm hX hY rfl (by decide) (J ox k oc) k (dh<|C.take k) rfl (jb (aS es<|ar #[aH D,dq tl,dq X,dq K] 266) rfl) (R (z<|G u) 0) 1 1 [aH D,dq tl,dq X,dq K] rfl rfl (CB _ _ _ _ _ rfl) (by simp[Value.oneCell']) (by omega) (by omega) (by simp;omega) ?_;intro v3 N ax dc;have ee:eP (ct u<|ar #[aH D,dq tl,dq X,dq K] 266) N (J ox k oc) v3:=eP.of_heap dc rfl;have hA17:=bo.still<|(Y.refl aB u).alloc<|ar #[aH D,dq tl,dq X,dq K] 266;have ca:=hA17.put (D':=C.take<|k+1) HV ee (by rw[ae hH,Eu,ae hy,af,ae hI];exact ax);have E:=Y.fy ee;have gj:bV (J ox k oc)≠H c:=λt=>by have:=(es.lt c t).1;omega
     have bi:bV (J ox k oc)≠H mk:=λt=>by have:=hC _ _ HV t;have:=ae hx;omega
     have s0:aT N (R c<|3+j)=H (J ox k oc):=E.cell (by rw[fm au];exact k0) gj (by simp;omega);have s1:aT N (R mk 0)=H (aH D):=E.cell (by rw[fm l];exact k1) bi (by simp;omega);have s2:aT N (R mk 1)=H (dq tl):=E.cell (by rw[fm l];exact k2) bi (by simp;omega);have s3:aT N (R mk 2)=H (dq X):=E.cell (by rw[fm l];exact k3) bi (by simp;omega);have s4:aT N (R mk 3)=H (dq K):=E.cell (by rw[fm l];exact k4) bi (by simp;omega);have ao:=(E.block c (by simp;omega) gj).trans<|(fX _ au).trans bo.box;have f0:N.frozen? (R c<|3+j)=bF:=by simp[World.frozen?,ao]
     obtain⟨x3,c3,hV⟩:=aC ax;subst hV;refine hL _ _ (λ_=>⟨s0,s1,s2,s3,s4⟩) ?_;try simp only[Act.put,du,iy]
     refine lJ (i:=9) (v:=?_) rfl rfl (by kernel_rfl) (by kernel_rfl) (by kernel_rfl) (by kernel_rfl) (λ_ _ _ h=>h) (Or.inl ⟨by rfl,?_⟩) (And.intro s0 (And.intro s1 (And.intro s2 (And.intro s3 s4)))) ?_;rotate_left
     .rintro g⟨z0,z1,z2,z3,z4⟩;go_simp;try with_reducible rfl
     simp only[Act.put,du,iy];refine aP (i:=10) rfl rfl (by kernel_rfl) ?_;intro hJ an;have el:=U ca;clear ca hA17 ee E ax dc ao s1 s2 s3 s4 k0 k1 k2 k3 k4 Q;go_simp;refine an _ _ yR ?_;refine dp (by kernel_rfl) ?_ _;have eu:=U et;have a5:IntKind.u32.wrap (((y C-k:M):Z)-1)=((y C-(k+1):M):Z):=by rw[IntKind.wrap_u32];omega
     go_wp2;go_roundw;case rel=>exact⟨k+1,_,_,r,rfl,by rw[ae HR];exact el,eu⟩
     case measure=>simp[intOf];omega
    .have u:k=y C:=by omega
     subst u;rw[gm,uG,cC,<-Nx (ae HM)]at hA2;have l:=U<|A.xB HM H4;have p:=U hA2;have e5:¬((0:Z)<((y C-y C:M):Z)):=by omega
     clear hA2 A;go_wp2;go_roundw;case rel=>exact⟨j+1,_,_,by omega,by go_num,p,l⟩
     case measure=>simp[intOf];omega
  .have bo:j=4:=by omega
   subst bo;rw[QF<|Nat.le_of_eq<|ae H4]at o;have av:=bd.all H4 o.AC;subst av;have A:=xN o.rd (by simp);simp only[qF,nk,ug]at A;have bp:=o.za;obtain⟨v0,v1,v2,v3,rfl⟩:∃v0 v1 v2 v3,vs=[v0,v1,v2,v3]:=by
    rcases vs with _|⟨v0,_|⟨v1,_|⟨v2,_|⟨v3,_|⟨v4,ca⟩⟩⟩⟩⟩<;>simp at bp;exact⟨_,_,_,_,rfl⟩
   obtain⟨E,cb,o0⟩:=o.row (j:=0) rfl;obtain⟨K,cc,o1⟩:=o.row (j:=1) rfl;obtain⟨L,cd,o2⟩:=o.row (j:=2) rfl;obtain⟨N,ce,o3⟩:=o.row (j:=3) rfl;obtain⟨x0,O,rfl⟩:=aC o0;obtain⟨x1,V,rfl⟩:=aC o1;obtain⟨x2,X,rfl⟩:=aC o2;obtain⟨x3,y3,rfl⟩:=aC o3;have hR:=(o.aw.block _ (ak bc) id).trans bc;have gn:=o.ord;have r0:=cellAt o.box 0 rfl;have r1:=cellAt o.box 1 rfl;have r2:=cellAt o.box 2 rfl;have r3:=cellAt o.box 3 rfl;have r4:=cellAt o.box 4 rfl;have r5:=cellAt o.box 5 rfl;have r6:=cellAt o.box 6 rfl;have HA:=U o;have D:=U hR;have e5:¬((4:Z)<4):=by omega
   have e6:(d:Z)<(next:Z):=by omega
   clear o bd o0 o1 o2 o3 hR;go_wp2_with fail
   rename_i QQ KK bf;refine cJ (λg=>aT g (R c 0)=H (aH next)/\aT g (R c 1)=H (aH d)/\aT g (R c 2)=H (aH b)/\aT g (R c 3)=H (J x0 (y E) O)/\aT g (R c 4)=H (J x1 (y K) V)/\aT g (R c 5)=H (J x2 (y L) X)/\aT g (R c 6)=H (J x3 (y N) y3)) 11 (by kernel_rfl) ?_;have p:wr.drew.heap[z<|G a]?=_:=ae D;have x:=U<|HA.still<|cf aB wr;have Q:aT wr.drew (R c 0)=H (aH next)/\aT wr.drew (R c 1)=H (aH d)/\aT wr.drew (R c 2)=H (aH b)/\aT wr.drew (R c 3)=H (J x0 (y E) O)/\aT wr.drew (R c 4)=H (J x1 (y K) V)/\aT wr.drew (R c 5)=H (J x2 (y L) X)/\aT wr.drew (R c 6)=H (J x3 (y N) y3):=by
    rw[bB,bB,bB,bB,bB,bB,bB];exact⟨r0,r1,r2,r3,r4,r5,r6⟩
   have A:=xN x.rd (by simp);simp only[qF,nk,ug]at A;clear r0 r1 r2 r3 r4 r5 r6 HA D;generalize wr.drew=bs at*;refine dA 0 ?_;iterate 2 (refine fw (v:=?_) Q rfl (by kernel_rfl) jU rfl ?_ ?_;rotate_left;(focus(rintro g⟨z0,z1,z2,z3,z4,z5,z6⟩;go_simp;try rfl));simp only[Act.put,du,iy,Nat.reduceAdd])
   apply eX;refine aP (i:=2) rfl rfl (by kernel_rfl) ?_;intro K2 ax;go_simp;apply A.mono;rintro t w'⟨rfl,ch⟩;subst w';refine ax _ _ (λ_=>Q) ?_;try simp only[Act.put,du,iy]
   refine dA 3 ?_;iterate 7 (refine fw (v:=?_) Q rfl (by kernel_rfl) jU rfl ?_ ?_;rotate_left;(focus(rintro g⟨z0,z1,z2,z3,z4,z5,z6⟩;go_simp;try rfl));simp only[Act.put,du,iy,Nat.reduceAdd])
   apply eX;refine aP (i:=10) rfl rfl (by kernel_rfl) ?_;intro hJ an;have bi:∀j,bs.frozen? (R (z<|G a) j)=bF:=λj=>by simp[World.frozen?,p]
   have t0:=cellAt p 0 rfl;have t1:=cellAt p 1 rfl;have t2:=cellAt p 2 rfl;have t3:=cellAt p 3 rfl;have t4:=cellAt p 4 rfl;have t5:=cellAt p 5 rfl;have t6:=cellAt p 6 rfl;have D:=U p;clear p;go_simp;have B:=aR (i:=6) (u:=J x3 (y N) y3)<|aR (i:=5) (u:=J x2 (y L) X)<|aR (i:=4) (u:=J x1 (y K) V)<|aR (i:=3) (u:=J x0 (y E) O)<|aR (i:=2) (u:=aH b)<|aR (i:=1) (u:=aH d)<|aR (i:=0) (u:=aH next) D;have u:=(((((((Y.refl (λk=>k=z (G a)) bs).setCell (z<|G a) 0 (aH next)<|.inl rfl).setCell (z<|G a) 1 (aH d)<|.inl rfl).setCell (z<|G a) 2 (aH b)<|.inl rfl).setCell (z<|G a) 3 (J x0 (y E) O)<|.inl rfl).setCell (z<|G a) 4 (J x1 (y K) V)<|.inl rfl).setCell (z<|G a) 5 (J x2 (y L) X)<|.inl rfl).setCell (z<|G a) 6 (J x3 (y N) y3)<|.inl rfl;generalize(bZ (bZ (bZ (bZ (bZ (bZ (bZ bs (R (z<|G a) 0)<|aH next) (R (z<|G a) 1)<|aH d) (R (z<|G a) 2)<|aH b) (R (z<|G a) 3)<|J x0 (y E) O) (R (z<|G a) 4)<|J x1 (y K) V) (R (z<|G a) 5)<|J x2 (y L) X) (R (z<|G a) 6)<|J x3 (y N) y3)=W9 at*;have r:c≠z (G a):=by
    have h1:z (G<|ct a<|ar #[aH 0,aH 0,aH 0,aK,aK,aK,aK] 187)=z (G a)+1:=by simp
    omega
   have l:=ak x.box;refine an _ _ (λ_=>⟨u.cell Q.1 r l,u.cell Q.2.1 r l,u.cell Q.2.2.1 r l,u.cell Q.2.2.2.1 r l,u.cell Q.2.2.2.2.1 r l,u.cell Q.2.2.2.2.2.1 r l,u.cell Q.2.2.2.2.2.2 r l⟩) ?_;try simp only[Act.put,du,iy]
   refine aP (i:=11) rfl rfl (by kernel_rfl) ?_;intro br au;obtain⟨P,ao,bq⟩:=dC B u r;clear B u r t0 t1 t2 t3 t4 t5 t6 bi Q A;go_simp;refine au _ _ yR ?_;refine dp (by kernel_rfl) ?_ _;show KK _ _;apply bf;go_wp2;refine cI (vN rfl _ _ (z<|G a) next d b _ _ _ _ _ _ rfl P ⟨_,_,_,rfl⟩ ⟨_,_,_,rfl⟩ ⟨_,_,_,rfl⟩ ⟨_,_,_,rfl⟩) rfl ?_;refine⟨x0,y E,O,x1,y K,V,x2,y L,X,x3,y N,y3,rfl,?_,?_⟩
   .intro eg bb iv F ca;have hr:=x.rows eg bb iv F ca;refine eQ (ao.own hr<|λq hq t=>?_) ?_
    .have:=x.own F hq;have h1:z (G<|ct a<|ar #[aH 0,aH 0,aH 0,aK,aK,aK,aK] 187)=z (G a)+1:=by simp
     have:q=z (G a):=t;omega
    .omega
   .exact((((Y.refl aB a).alloc _).ci x.aw).trans ao<|λk t=>.inr (by have:k=z (G a):=t;omega))
def Gi(a:M)(b:cP):aa->Prop:=λx=>x=ai gP\/x=ai (iM a)\/∃t∈b,x=ai (gI t.num)
def pm{P:Program}{r:Oper}{f:Act}{K:Act->I->Prop}{Q:Exit->Act->I->Prop}(h x i:Operand)(v:TypeId)(e:r.op=Op.insert v h x i)(u w:TypeId)(o:P.underlying v=H (.map u w))(k:TypeDesc)(m:P.underlying u=H k)(j:M)(g:aa->Prop)(n:f.eval h=.map (H j))(A:lD a j k g)(b:aa)(d:MapKept.IsKey k b)(q:f.eval x=b)(p:f.eval i=eC #[])(l:∀w',lD w' j k (λx=>g x\/x=b)->a.grownBy w' (H j)->K (f.put r.dst iB) w'):Oper.wp P r f a K Q:=by
 obtain⟨w',c,s,t,_⟩:=zh o m A b d;unfold Oper.wp;simp[execOp,e,n,q,p,c,Result.andThen];exact l w' s t
def EB(bt bu F bv:cP)(h:bL a b n m)(hl:Dd a b 10 [(n.l0,bt),(n.l1,bu),(n.l2,F),(n.l3,bv)])(hT:∀bs∈bt++bu++F++bv,Sy a bs)(hp:Pow a)(cn:n.log<18446744073709551616)(cp:y (bt++bu++F++bv)<=10000000)(bn:cK a n.aN O)(cm:y O.files<=100000000)(hn:∀K∈O.files.map da.name,K=gP\/K=iM n.log\/∃bs∈bt++bu++F++bv,K=gI bs.num):cy bG 101 #[aA b] a λp w'=>p=aO aK/\Y aB a w':=by
 obtain⟨u0,cs,cB,ds,dv⟩:=cz EI;have dk:=@tF bG;have cE:∀(K:Bool)(a:I),(Op.unary .not<|aL K).run bG a=.ok (aL<|!K) a:=λ_ _=>rfl;have ac:∀W,Y aB a W->cy bG 91 #[aH n.log] W λp w'=>p=aO (ai<|iM n.log)/\Below (z<|G W) W w':=λW N=>vS n.log cn<|hp.aw N id;have E:∀W,Y aB a W->cy bG 138 #[fp<|H<|R b 10] W λp w'=>∃v',p=aO v'/\w'.ownsRow (z<|G W) 224 1 v' (y<|bt++bu++F++bv) ((bt++bu++F++bv).map bJ.ptr)/\Y aB W w':=λW N=>by have f:Dd W b 10 [(n.l0,bt),(n.l1,bu),(n.l2,F),(n.l3,bv)]:=⟨hl.len,λA a=>N.cell (hl.cell A a) id hl.lt,λA a=>N.row (hl.row A a)<|λq c=>⟨id,hl.pE A a q c⟩,λA a q c=>ag (hl.pE A a q c) N.size,hl.small⟩;have:=sa _ f;rw[Pj,Qc]at this;exact this
 have bo:∀W,Y aB a W->cy bG 95 #[aA n.aN] W λp w'=>∃v' u,p=aO v'/\List.Perm u (O.files.map da.name)/\w'.ownsRow (z<|G W) 9 1 v' (y u) (strs u)/\Y aB W w':=λW N=>EA (db:=n.aN) (K:=O) (w:=W) (bn.aw N<|λ_ _=>id) cm;have br:=ak h;have c2:=bL.cellAt h 2 rfl;have cj:=bL.cellAt h 17 rfl;obtain⟨V,bl⟩:∃V,bt++bu++F++bv=V:=⟨_,rfl⟩;rw[bl]at hT E cp hn;obtain⟨HH,bc,HP,HN,B,bg,bT⟩:=ww h hT hp hn ac E bo;clear h hT hp hn ac E bo hl bn bl;generalize n.log=g at*;generalize n.aN=db at*;go_in
 go_wp2_with fail
 rename_i QQ KK bk;refine cJ (λC=>aT C (R b 17)=H (aH g)) 11 (by kernel_rfl) ?_;have an:∀W,Y aB a W->aT W (R b 17)=H (aH g):=λW N=>N.cell cj id br;have ba:Y aB a a.drew:=cf _ a;have L:=an _ ba;have dn:z (G a.drew)=z (G a):=rfl;have i:=U an;have bh:=U ba;clear an ba;refine lJ (i:=1) (v:=?_) rfl rfl (by kernel_rfl) (by kernel_rfl) (by kernel_rfl) (by kernel_rfl) (λ_ _ _ h=>h) (Or.inl ⟨by rfl,?_⟩) L ?_;rotate_left;(.rintro C z0;go_simp;try with_reducible rfl);simp only[Act.put,du,iy];refine dA 3 ?_;iterate 4 (refine fw (v:=?_) L rfl (by kernel_rfl) jU rfl ?_ ?_;rotate_left;(focus(rintro C z0;go_simp;try rfl));simp only[Act.put,du,iy,Nat.reduceAdd])
 apply eX;refine lJ (i:=8) (v:=?_) rfl rfl (by kernel_rfl) (by kernel_rfl) (by kernel_rfl) (by kernel_rfl) (λ_ _ _ h=>h) (Or.inl ⟨by rfl,?_⟩) L ?_;rotate_left;(.rintro C z0;go_simp;try with_reducible rfl);simp only[Act.put,du,iy];refine tM (α:=M) (λd W=>Y aB a W/\z (G a)<=d/\lD W d .string (λK=>K=ai ⟨#[115,116,97,116,101]⟩\/K=ai (iM g))) (λd=>{tmps:=#[aA b,iB,aK,iB,iB,iB,iB,iB,iB,iB,iB,.map<|H d,eC #[],aA b,aA b,fp<|H<|R b 17,aH g,ai<|iM g,eC #[],iB,iB,iB,iB,iB,iB,iB,iB,iB,iB,iB,iB,iB,iB,iB,iB,iB,iB,iB,iB,iB,iB,iB,iB,iB,iB,iB,iB,iB,iB,iB,iB,iB,iB,iB,iB,iB,iB,iB,iB,iB,iB,iB],defers:=[]}) #[true,true,true,true,true,true,true,true,true,true,false,false] 2 ?_ ?_;(.intro av;refine tM (α:=M) (λd W=>Y aB a W/\z (G a)<=d/\lD W d .string aB) (λd=>{tmps:=#[aA b,iB,aK,iB,iB,iB,iB,iB,iB,iB,iB,.map<|H d,eC #[],aA b,aA b,fp<|H<|R b 17,aH g,ai<|iM g,eC #[],iB,iB,iB,iB,iB,iB,iB,iB,iB,iB,iB,iB,iB,iB,iB,iB,iB,iB,iB,iB,iB,iB,iB,iB,iB,iB,iB,iB,iB,iB,iB,iB,iB,iB,iB,iB,iB,iB,iB,iB,iB,iB,iB],defers:=[]}) #[bW,bW,bF,bW,bW,bW,bW,bW,bW,bF,bF,bF] 4 ?_ ?_;(.intro al;refine sK (i:=0) (j:=7) rfl rfl rfl rfl (by kernel_rfl) ?_ ?_;(.intro O hK;go_simp;have t:=(lD.new a .string).de (w':=(ct a<|.map #[] 0).drew) rfl;have D:Y aB a (ct a<|.map #[] 0).drew:=((Y.refl aB a).alloc _).of_heap rfl;refine hK _ _ (λ_=>i _ D) ?_;(try simp only[Act.put,du,iy]);generalize(ct a<|.map #[] 0).drew=W1 at*;refine sK (i:=2) (j:=7) rfl rfl rfl rfl (by kernel_rfl) ?_ ?_;(.intro K2 o;(try simp only[dj,cD,cO]);refine pm (.tmp 11) (.const<|ai ⟨#[115,116,97,116,101]⟩) (.tmp 12) 277 rfl 9 94 underlying277 .string underlying9 (z<|G a) _ rfl t (ai ⟨#[115,116,97,116,101]⟩) trivial rfl rfl ?_;intro w5 l r;have f:Y aB a w5:=D.trans (fg r)<|λm p=>.inr (by have:m=z (G a):=p;omega);refine o _ _ (λ_=>i _ f) ?_;(try simp only[Act.put,du,iy]);refine aP (i:=7) rfl rfl (by kernel_rfl) ?_;intro K3 bi;go_simp;apply(B _ f).mono;rintro p x⟨rfl,s⟩;have e:Y aB a x:=f.ci<|Y.aW (S:=aB) s;have P:=l.de<|s.block _ l.lt;refine bi _ _ (λ_=>i _ e) ?_;(try simp only[Act.put,du,iy]);refine aP (i:=9) rfl rfl (by kernel_rfl) ?_;intro K4 bm;(try simp only[dj,cD,cO]);refine pm (.tmp 11) (.tmp 17) (.tmp 18) 277 rfl 9 94 underlying277 .string underlying9 (z<|G a) _ rfl P (ai<|iM g) trivial rfl rfl ?_;intro w7 bb ax;have Q:Y aB a w7:=e.trans (fg ax)<|λm p=>.inr (by have:m=z (G a):=p;omega);refine bm _ _ (λ_=>i _ Q) ?_;exact jY (av (z<|G a) _ ⟨Q,ah _,bb.congr<|λK=>by simp⟩)<|by kernel_rfl);intro K2 o;go_simp;apply(B _ D).mono;rintro p x⟨rfl,s⟩;have e:Y aB a x:=D.ci<|Y.aW (S:=aB) s;have P:=t.de<|s.block _ t.lt;refine o _ _ (λ_=>i _ e) ?_;(try simp only[Act.put,du,iy]);exact jY (al (z<|G a) _ ⟨e,ah _,P⟩)<|by kernel_rfl);intro O hK;go_simp;apply(B _ bh).mono;rintro p x⟨rfl,s⟩;have e:Y aB a x:=bh.ci<|Y.aW (S:=aB) s;refine hK _ _ (λ_=>i _ e) ?_;(try simp only[Act.put,du,iy]);refine aP (i:=0) rfl rfl (by kernel_rfl) ?_;intro K2 o;go_simp;have t:=e.alloc<|.map #[] 0;refine o _ _ (λ_=>i _ t) ?_;(try simp only[Act.put,du,iy]);exact jY (al (z<|G x) _ ⟨t,e.size,lD.new x .string⟩)<|by kernel_rfl);rintro d W⟨w,ao,c⟩;refine sK (i:=2) (j:=9) rfl rfl rfl rfl (by kernel_rfl) ?_ ?_;intro O hK;(try simp only[dj,cD,cO]);refine pm (.tmp 11) (.const<|ai ⟨#[115,116,97,116,101]⟩) (.tmp 12) 277 rfl 9 94 underlying277 .string underlying9 d _ rfl c (ai ⟨#[115,116,97,116,101]⟩) trivial rfl rfl ?_;intro w5 l r;have f:Y aB a w5:=w.trans (fg r)<|λm p=>.inr (by have:m=d:=p;omega);refine hK _ _ (λ_=>i _ f) ?_;(try simp only[Act.put,du,iy]);refine aP (i:=9) rfl rfl (by kernel_rfl) ?_;intro K2 o;(try simp only[dj,cD,cO]);refine pm (.tmp 11) (.tmp 17) (.tmp 18) 277 rfl 9 94 underlying277 .string underlying9 d _ rfl l (ai<|iM g) trivial rfl rfl ?_;intro x D t;have s:Y aB a x:=f.trans (fg t)<|λm p=>.inr (by have:m=d:=p;omega);refine o _ _ (λ_=>i _ s) ?_;exact jY (av d _ ⟨s,ao,D.congr<|λK=>by simp⟩) (by kernel_rfl);intro O hK;(try simp only[dj,cD,cO]);refine pm (.tmp 11) (.tmp 17) (.tmp 18) 277 rfl 9 94 underlying277 .string underlying9 d _ rfl c (ai<|iM g) trivial rfl rfl ?_;intro w5 l r;have f:Y aB a w5:=w.trans (fg r)<|λm p=>.inr (by have:m=d:=p;omega);refine hK _ _ (λ_=>i _ f) ?_;(try simp only[Act.put,du,iy]);refine aP (i:=2) rfl rfl (by kernel_rfl) ?_;intro K2 o;(try simp only[dj,cD,cO]);refine pm (.tmp 11) (.const<|ai ⟨#[115,116,97,116,101]⟩) (.tmp 12) 277 rfl 9 94 underlying277 .string underlying9 d _ rfl l (ai ⟨#[115,116,97,116,101]⟩) trivial rfl rfl ?_;intro x D t;have s:Y aB a x:=f.trans (fg t)<|λm p=>.inr (by have:m=d:=p;omega);refine o _ _ (λ_=>i _ s) ?_;exact jY (av d _ ⟨s,ao,D.congr (λK=>by simp only[false_or];exact Or.comm)⟩)<|by kernel_rfl);rintro d W⟨w,ao,c⟩;refine lJ (i:=10) (v:=?_) rfl rfl (by kernel_rfl) (by kernel_rfl) (by kernel_rfl) (by kernel_rfl) (λ_ _ _ h=>h) (Or.inl ⟨by rfl,?_⟩) (i _ w) ?_;rotate_left;(.rintro C z0;go_simp;try with_reducible rfl);simp only[Act.put,du,iy];refine aP (i:=11) rfl rfl (by kernel_rfl) ?_;intro cM X;go_simp;refine X _ _ yR ?_;refine dp (by kernel_rfl) ?_ _;show KK _ _;apply bk;have ad:=c.lt;have k:=U c;have bf:=U w;clear c w X bk L;go_wp2_with fail
 apply(bg W bf).mono;rintro p x⟨v6,rfl,au,e⟩;obtain⟨x6,c6,cu⟩:=aC au;subst cu;obtain⟨cc,ce,bd,ca⟩:=gx (k.de<|e.block _ ad id) (bf.ci e) au<|show d<z (G W)from ad;have P:=e.size;clear au e k;go_wp2_with fail
 go_loopw [25] (λA wr=>∃T:M,T<=y V/\A=ap T/\lD wr d .string (Gi g<|V.take T)/\Y (λm=>m=d) x wr) (λA _=>y V-(intOf A).toNat)
 case atStart=>exact⟨0,bA _,rfl,cc.congr (λK=>by unfold Gi gP;simp),Y.refl _ _⟩
 case round=>
  obtain⟨T,hn,rfl,c,f⟩:=hrel;have D:Y aB a wr:=ce.trans f<|λm e=>.inr (by have:m=d:=e;omega);by_cases o:T<y V
  .have l:=f.own bd (λm e F=>by have:=(bd.lt m e).1;have:=ae ca;have:m=d:=F;omega);obtain⟨b6,cb,bm⟩:∃b6,x6=H (R b6 0)/\aT wr (R b6 T)=H V[T].ptr:=by
    rcases l.2 with⟨h2,h0⟩|⟨dc,ck,cl,h2,_⟩
    .omega
    .cases h2;refine⟨dc,rfl,?_⟩;have:=ph l T V[T].ptr (by rw[dz,aG o];rfl);rwa[dt,cQ]at this
   subst cb;have av:=(bc V[T]<|aq o).aw D|>.name (HP.aw D id);have bq:=U (show∀K,Gi g (V.take<|T+1) K↔Gi g (V.take T) K\/K=ai (gI V[T].num)fromλK=>by
    unfold Gi;rw[aj o];simp only[am,bH];constructor
    .rintro(F|F|⟨bs,ht|rfl,p⟩)
     .exact .inl<|.inl F
     .exact .inl<|.inr<|.inl F
     .exact .inl<|.inr<|.inr ⟨bs,ht,p⟩
     .exact .inr p
    .rintro((F|F|⟨bs,ht,p⟩)|p)
     .exact .inl F
     .exact .inr<|.inl F
     .exact .inr<|.inr ⟨bs,.inl ht,p⟩
     .exact .inr (.inr ⟨_,.inr rfl,p⟩))
   have r:=c.lt;have k:=U c;have s:=U f;have e1:(T:Z)<(y V:Z):=by omega
   clear c f D l;unfold bJ.ptr at bm;generalize gI V[T].num=al at*;generalize V[T].tb=cd at*;go_wp2_with fail
   apply av.mono;rintro p w7⟨rfl,t⟩;have bi:=U<|k.de<|t.block d r;have bx:=U<|s.ci<|Y.aW (S:=aB) t;clear t av;go_wp2_with(at_mapUpdate;refine uj _ rfl _ _ _ 277 rfl 9 94 underlying277 .string underlying9 d _ rfl bi (ai al) trivial rfl rfl ?_;intro w8 ax Q;have bp:=U ax;have bb:=U Q;clear ax Q)
   go_roundw;case rel=>exact⟨T+1,o,by go_num,bp.congr bq,bx.trans (fg bb)<|λ_ F=>.inl F⟩
   case measure=>simp[intOf];omega
  .have bp:T=y V:=by omega
   rw[bp,bP]at c;have e1:¬(T:Z)<(y V:Z):=by omega
   have r:=c.lt;have cT:aT wr (R b 2)=H (aA db):=D.cell c2 id br;have k:=U c;have bi:=U D;clear c f bp;go_wp2_with fail
   apply(bT wr bi).mono;rintro p w9⟨v9,u,rfl,ax,av,Q⟩;obtain⟨x9,c9,cv⟩:=aC av;subst cv;have dm:y u<=100000000:=by have:=ax.length_eq;simp at this;omega
   obtain⟨cd,cb,ch⟩:=dC (k.de<|Q.block d r id) av<|bi.ci Q;have bx:=U (show∀K∈u,Gi g V (ai K)fromλK t=>by
    rcases HN K (ax.mem_iff.1 t)with p|p|⟨bs,ht,p⟩
    .exact .inl<|by rw[p]
    .exact .inr<|.inl<|by rw[p]
    .exact .inr (.inr ⟨bs,ht,by rw[p]⟩))
   have co:=ag r Q.size;clear av Q ax;go_wp2_with fail
   go_loopw [6,40] (λo A a=>∃bb:M,bb<=y u/\o=aK/\A=ap bb/\Y aB w9 a) (λ_ A _=>y u-(intOf A).toNat)
   case atStart=>exact⟨0,bA _,rfl,rfl,Y.refl _ _⟩
   case round=>
    obtain⟨bb,hm,rfl,rfl,f⟩:=hrel;by_cases t:bb<y u
    .have l:=f.own cb<|λ_ _ F=>F;obtain⟨b9,cx,bm⟩:∃b9,x9=H (R b9 0)/\aT wr (R b9 bb)=H (ai u[bb]):=by
      rcases l.2 with⟨h2,h0⟩|⟨dc,ck,cl,h2,_⟩
      .omega
      .cases h2;refine⟨dc,rfl,?_⟩;have:=ph l bb (ai u[bb]) (by simp[strs,t]);rwa[dt,cQ]at this
     subst cx;have bq:=cd.de<|f.block d co id;have dd:=Bb underlying277 underlying9 cs cB bq (ai u[bb]) trivial bW (by simp only[true_iff];exact bx _<|aq t);have e2:(bb:Z)<(y u:Z):=by omega
     have s:=U f;clear f l bq;generalize u[bb]=al at*;go_wp2;go_roundw;case rel=>exact⟨bb+1,t,rfl,by go_num,s.alloc _⟩
     case measure=>simp[intOf];omega
    .have e2:¬(bb:Z)<(y u:Z):=by omega
     have s:=U<|ch.ci f;clear f;go_wp2;go_ret;exact⟨rfl,s⟩
def OJ(x A g B:cP)(h:bL a b n m)(F:Dd a b 10 [(n.l0,x),(n.l1,A),(n.l2,g),(n.l3,B)])(E:∀Q∈x++A++g++B,Sy a Q)(L:Pow a)(s:n.log<18446744073709551616)(u:y (x++A++g++B)<=10000000)(d:cK a n.aN j)(v:¬j.bj n.aN b)(t:y j.eM<=1000000000000)(p:y j.files<=100000000)(K:∀V∈j.files.map da.name,V=gP\/V=iM n.log\/∃Q∈x++A++g++B,V=gI Q.num):cy bG 57 #[aA b] a λw k=>w=aO .nilIface/\∃c,rG a k n.aN j c/\vw c.files=vw j.files/\y c.eM=y j.eM:=by
 have r:=EB x A g B h F E L s u d p K;have e:∀W,Y aB a W->cy bG 100 #[aA b,aK] W λw k=>w=aO .nilIface/\∃c,rG a k n.aN j c/\vw c.files=vw j.files/\y c.eM=y j.eM:=λW i=>by apply(DP (K:=j) aK [] ((i.block b (ak h) id).trans h) (d.aw i<|λ_ _=>id) v ⟨rfl,.inl ⟨rfl,rfl⟩⟩ (λa g=>by cases g) List.nodup_nil (by simp)<|by simpa using t).mono;rintro w k⟨rfl,c,o,O,P⟩;exact⟨rfl,c,⟨o.ok,(i.mono (T:=j.bj n.aN) cG).trans o.aw<|λ_ q=>.inl q,λq g=>(o.bj q g).imp id<|λa=>aE i.size a⟩,O,by simpa using P⟩
 have l:=U e;clear e h F E L d K;go_in
 go_wp2_with fail
 apply r.mono;rintro w S⟨rfl,f⟩;have C:=l S f;go_wp2_with fail
 apply C.mono;rintro w W⟨rfl,D⟩;have N:=U D;clear D C f;go_wp2;go_ret;exact⟨rfl,N⟩
