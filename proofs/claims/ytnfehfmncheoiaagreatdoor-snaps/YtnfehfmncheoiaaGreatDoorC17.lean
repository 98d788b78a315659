import Derived.Test.YtnfehfmncheoiaaGreatDoorC12
open _root_ renaming List.length→y,Option.some→H,Array.size→z,Go.World.heap→G,Go.Value.ownBlock→bV,Go.World.cell?→aS,Go.World.setCell→bZ,Go.World.alloc→ct,Bool.false→bE,Nat→M,Int→X,List→cr,Go.Calls→cw,Go.undef→iC,Go.Proofs.Tryz.prog→bF,Go.Value.string→J,Go.Value.tuple→dA,Go.Value.agg→eD
namespace Go.Proofs.YtnfehfmncheoiaaGreatDoor
open ChangeShapes WideShapes RowKit Proofs.Tryz
set_option maxHeartbeats 16000000
set_option linter.all false
set_option maxRecDepth 100000
variable{a:Y}{b c g l:M}{d s:aa}{j:DK}{m F Q:X}{o:eK}{x:iV}{D:Bool}
def Rd.ar{S:fI}{w w':Y}(r:Rd w b o D)(j:Z S w w')(g:∀k,S k->b<k):Rd w' b o D:=by
 have e:=r.lt;obtain⟨v,p,m,h⟩:=r;refine⟨v,(j.block b e<|λl=>kS _<|g _ l).trans p,?_,h⟩;rcases m with⟨rfl,rfl⟩|⟨q,a,c,rfl,d,n⟩;exact .inl ⟨rfl,rfl⟩;have:=h q rfl;exact .inr ⟨q,a,c,rfl,d,λk b=>j.cell (n k b) (λl=>by have:=g _ l;omega)<|by omega⟩
structure si(w0 wr:Y)(sb rb mb:M)(nx lg bt:X)(vs:iV)(Ds:cr cP)(ks:aa->Prop)(rest:eK):Prop where
 box:wr.heap[sb]?=H (aq (aI nx::aI lg::aI bt::vs).toArray 187 (0,0))
 zc:y vs=4
 AE:y Ds=4
 rows:∀(j:M)(v:aa)(D:cP),vs[j]?=H v->Ds[j]?=H D->wr.ownsRow (mb+1) 266 4 v (y D) (dj D)
 ne:∀(j j':M)(v v':aa)(q:M),j≠j'->vs[j]?=H v->vs[j']?=H v'->bV v=H q->bV v'≠H q
 set:lD wr mb (.int .u64) ks
 rd:Rd wr rb rest bE
 ar:Z az w0 wr
 ord:z (G w0)<=rb/\rb<sb/\sb<mb/\mb<z (G wr)
def si.row{p wr:Y}{a:cr cP}{n:aa->Prop}(k:si p wr b c g m F Q x a n o){j:M}(e:x[j]?=H d):∃D,a[j]?=H D/\wr.ownsRow (g+1) 266 4 d (y D) (dj D):=by
 have l:j<4:=by rw[<-k.zc];rcases dE j (y x)with h|h;exact h;rw[dq h]at e;cases e
 have f:a[j]?=H (a[j]'(by rw[k.AE];exact l)):=aH _;exact⟨_,f,k.rows j d _ e f⟩
def si.own{n wr:Y}{a:cr cP}{k:aa->Prop}(p:si n wr b c g m F Q x a k o)(j:x[l]?=H d){q:M}(e:bV d=H q):g<q/\q<z (G wr):=by
 obtain⟨D,_,h⟩:=p.row j;have:=aF h q e;omega
def si.cell{h wr:Y}{d:X}{a:cr cP}{e:aa->Prop}(k:si h wr b c g m Q d x a e o)(j:M):aS wr (R b<|3+j)=x[j]?:=by
 rw[bR k.box,vz 3 j];simp
def si.read{j wr e:Y}{f:cr cP}{i:aa->Prop}{a:eK}(h:si j wr b c g m F Q x f i o)(d:Z (λl=>l=c) wr e)(k:Rd e c a bE):si j e b c g m F Q x f i a where
 box:=(d.block b (aj h.box) (by have:=h.ord;omega)).trans h.box
 zc:=h.zc
 AE:=h.AE
 rows:=λl v D b g=>d.own (h.rows l v D b g) (λq k n=>by have:=h.own b k;have:=h.ord;omega)
 ne:=h.ne
 set:=h.set.dh<|d.block g h.ord.2.2.2 (by have:=h.ord;omega)
 rd:=k
 ar:=h.ar.trans d<|λl b=>.inr (by have:=h.ord;omega)
 ord:=⟨h.ord.1,h.ord.2.1,h.ord.2.2.1,ag h.ord.2.2.2 d.size⟩
def si.still{f wr h:Y}{a:cr cP}{e:aa->Prop}(i:si f wr b c g m F Q x a e o)(d:Z az wr h):si f h b c g m F Q x a e o:=i.read (d.mono cG)<|i.rd.ar d cG
def si.Ei{j wr e:Y}{f:cr cP}{l d:aa->Prop}(h:si j wr b c g m F Q x f l o)(a:wr.grownBy e (H g))(k:lD e g (.int .u64) d):si j e b c g m F Q x f d o where
 box:=(a.block b (aj h.box) (by have:=h.ord;intro i;cases i;omega)).trans h.box
 zc:=h.zc
 AE:=h.AE
 rows:=λp v D b g=>(fi a).own (h.rows p v D b g) (λq k i=>by have:=h.own b k;omega)
 ne:=h.ne
 set:=k
 rd:=h.rd.ar (fi a) (λn i=>by have:=h.ord;omega)
 ar:=h.ar.trans (fi a)<|λn i=>.inr (by have:=h.ord;have:n=g:=i;omega)
 ord:=⟨h.ord.1,h.ord.2.1,h.ord.2.2.1,ag h.ord.2.2.2 a.size⟩
def si.ks{f wr:Y}{d:cr cP}{e a:aa->Prop}(h:si f wr b c g m F Q x d e o)(i:∀k,a k↔e k):si f wr b c g m F Q x d a o:={h with set:=h.set.congr i}
def si.put{W wr u:Y}{N:cr cP}{V:aa->Prop}{D':cP}(v:si W wr b c g m F Q x N V o)(w:x[l]?=H d)(K:eR wr u d s)(P:u.ownsRow (g+1) 266 4 s (y D') (dj D')):si W (bZ u (R b<|3+l) s) b c g m F Q (x.set l s) (N.set l D') V o:=by
 have B:Z (λD=>bV d=H D) wr u:=Z.fy K;have t:=λq=>v.own (q:=q) w;have a:=v.ord;have C:u.heap[b]?=H (aq (aI m::aI F::aI Q::x).toArray 187 (0,0)):=(B.block b (aj v.box) (λn=>by have:=t _ n;omega)).trans v.box;have k:Z (λD=>D=b) u (bZ u (R b<|3+l) s):=(Z.refl (λD=>D=b) u).setCell _ _ _<|.inl rfl;have A:∀q,bV s=H q->g<q/\q<z (G u):=λq e=>by have:=aF P q e;omega
 refine⟨?_,by rw[eM];exact v.zc,by rw[eM];exact v.AE,?_,?_,?_,?_,?_,?_⟩;rw[aQ C,vz 3 l];simp;intro S ac r j h;by_cases n:l=S;subst n;rw[gI]at j h;rw[w]at j;obtain⟨L,i,_⟩:=v.row w;rw[i]at h;cases j;cases h;exact k.own P (λq e n=>by have:=A q e;omega);rw[fF n]at j h;have i:=B.own (v.rows S ac r j h)<|λq e E=>v.ne S l ac d q (Ne.symm n) j w e E;exact k.own i (λq e n=>by have:=v.own j e;omega);intro S i' ac u' q r j i e;by_cases n:l=S;subst n;rw[fF r]at i;rw[gI,w]at j;cases j;intro h;change bV s=H q at e;rcases K.uc with E|⟨L,E,hy⟩;exact v.ne _ _ _ _ q r w i (E.symm.trans e) h;rw[E]at e;cases e;have:=v.own i h;omega;rw[fF n]at j;by_cases O:l=i';subst O;rw[gI,w]at i;cases i;intro h;change bV s=H q at h;rcases K.uc with E|⟨L,E,hy⟩;exact v.ne _ _ _ _ q r j w e<|E.symm.trans h;rw[E]at h;cases h;have:=v.own j e;omega;rw[fF O]at i;exact v.ne _ _ _ _ q r j i e;exact(v.set.dh<|B.block g a.2.2.2 (λn=>by have:=t _ n;omega)).dh (k.block g (ag a.2.2.2 B.size)<|by omega);exact(v.rd.ar B (λD n=>by have:=t _ n;omega)).ar k (λD n=>by have:D=b:=n;omega);exact(v.ar.trans B<|λD n=>.inr (by have:=t _ n;omega)).trans k<|λD n=>.inr (by have:D=b:=n;omega);exact⟨a.1,a.2.1,a.2.2.1,by rw[gz];exact ag a.2.2.2 B.size⟩
structure nH(Ms Ds:cr cP)(i k:M):Prop where
 low:∀j,j<i->Ds[j]?=Ms[j]?
 now:∀m,Ms[i]?=H m->Ds[i]?=H (m.take k)
 uY:∀j,i<j->j<4->Ds[j]?=H []
theorem nH.start(c:cr cP):nH c [[],[],[],[]] 0 0 where
 low:=λj h=>absurd h<|gH j
 now:=λm _=>rfl
 uY:=λj h d=>by
  rcases j with _|_|_|_|j
  .omega
  .rfl
  .rfl
  .rfl
  .omega
theorem nH.xC{c g:cr cP}{i:M}{m:cP}(k:nH c g i (y m))(h:c[i]?=H m)(e:y c=4):nH c g (i+1) 0 where
 low:=λj l=>by
  rcases dE j i with f|f
  .exact k.low j f
  .obtain rfl:j=i:=by omega
   rw[h,k.now m h,bN]
 now:=λh d=>by
  have:i+1<4:=by
   rw[<-e];rcases dE (i+1) (y c)with f|f
   .exact f
   .rw[dq f]at d;cases d
  rw[wT];exact k.uY _ (Nat.lt_succ_self i) this
 uY:=λj l e=>k.uY j (by omega) e
theorem nH.one{d f:cr cP}{i k:M}{m:cP}(h:nH d f i k)(g:d[i]?=H m):nH d (f.set i<|m.take<|k+1) i (k+1)where
 low:=λj e=>by rw[fF<|by omega];exact h.low j e
 now:=λl c=>by
  rw[g]at c;cases c;rw[gI,h.now m g];rfl
 uY:=λj e c=>by rw[fF<|by omega];exact h.uY j e c
theorem nH.all{d c:cr cP}(h:nH d c 4 0)(g:y d=4)(f:y c=4):c=d:=by
 refine pO<|λj=>?_;rcases dE j 4 with e|e;exact h.low j e;rw[dq (by omega),dq<|by omega]
def xu(c:cr cP)(i k:M):cP:=(c.take i).flatten++((c[i]?).getD []).take k
theorem QW(c:cr cP):xu c 0 0=[]:=by simp[xu]
theorem TJ{c:cr cP}{i k:M}{m:cP}(e:c[i]?=H m)(d:k<y m):xu c i (k+1)=xu c i k++[m[k]]:=by
 unfold xu;rw[e];simp only[gW];rw[ai d,aU]
theorem NB{c:cr cP}{i:M}{m:cP}(d:c[i]?=H m):xu c (i+1) 0=xu c i (y m):=by
 unfold xu;rw[d];have e:i<y c:=by rcases dE i (y c)with f|f;exact f;rw[dq f]at d;cases d
 have g:c[i]=m:=by rw[aH e]at d;exact dC d
 simp only[gW,bN,wT,dI];rw[ai e,dP,g];simp
theorem DX{c:cr cP}{i k:M}{m:cP}(d:c[i]?=H m)(l:k<y m):c.flatten=xu c i k++m[k]::(m.drop (k+1)++(c.drop<|i+1).flatten):=by
 have e:i<y c:=by rcases dE i (y c)with f|f;exact f;rw[dq f]at d;cases d
 have n:c[i]=m:=by rw[aH e]at d;exact dC d
 have g:c.flatten=(c.take i).flatten++(m++(c.drop<|i+1).flatten):=by(conv=>lhs;rw[<-bW i c,bD e]);rw[dP,aW,n]
 have h:m.take k++m[k]::m.drop (k+1)=m:=by rw[<-bD l,bW]
 unfold xu;rw[d,g];simp only[gW];have j:m++(c.drop<|i+1).flatten=m.take k++m[k]::(m.drop (k+1)++(c.drop<|i+1).flatten):=by(conv=>lhs;rw[<-h]);rw[aU];rfl
 rw[j,aU]
theorem NC{c:cr cP}{i k:M}{m:cP}(d:(c.flatten.map bI.num).Nodup)(f:c[i]?=H m)(e:k<y m):∀u∈xu c i k,u.num≠m[k].num:=by
 intro u g h;rw[DX f e,aM,aX,jt]at d;exact d.2.2 u.num (hZ g) m[k].num (by simp) h
theorem Rr{c:cr cP}{i k:M}{m:cP}(e:c[i]?=H m)(d:k<y m):m[k]∈c.flatten:=by
 rw[DX e d];simp
def pZ(c:cr cP)(i:M):eK:=((c.drop i).map oC).flatten
theorem Ky{c:cr cP}{i:M}{m:cP}(d:c[i]?=H m):pZ c i=le 4 (y m)++(m.flatMap uw++pZ c (i+1)):=by
 have e:i<y c:=by rcases dE i (y c)with f|f;exact f;rw[dq f]at d;cases d
 have g:c[i]=m:=by rw[aH e]at d;exact dC d
 unfold pZ;rw[bD e,aX,aW,g];unfold oC;rw[aU]
theorem QN{c:cr cP}{i:M}(h:y c<=i):pZ c i=[]:=by
 unfold pZ;rw[List.drop_eq_nil_iff.2 h];rfl
theorem UC(t:bI):kw (uw t):=(kw.le 8 _).append<|(kw.le 4 _).append<|(kw.le 4 _).append<|kw.le 4 _
theorem Bv(m:cP):kw (m.flatMap uw):=λx d=>by
 obtain⟨t,_,c⟩:=lZ.1 d;exact UC t x c
theorem uW(d:cr cP)(i:M):kw (pZ d i):=λx c=>by
 unfold pZ at c;obtain⟨l,e,c⟩:=bz.1 c;obtain⟨m,_,rfl⟩:=aY.1 e;exact((kw.le 4 _).append<|Bv m) x c
theorem AD(m:cP):y (m.flatMap uw)=20*y m:=by
 have:=pz m;unfold oC at this;rw[af,bY]at this;omega
theorem zY(c:cr cP):∀i,y (pZ c i)<=4*y c+20*y c.flatten:=by
 intro i;unfold pZ
 have h:∀L:cr cP,y ((L.map oC).flatten)=4*y L+20*y L.flatten:=by
  intro L;induction L with
  |nil=>rfl
  |cons m L d=>
   rw[aX,aW,af,d,pz,aW,af,ay];omega
 rw[h];have e:y (c.drop i)<=y c:=by simp
 have f:y (c.drop i).flatten<=y c.flatten:=by(conv=>rhs;rw[<-bW i c,dP,af]);omega
 omega
section
variable{P:Program}(w:Y){b:Array Oper}{rest:cr Oper}{o:Oper}{a:Act}{Q:Exit->Act->Y->Prop}
theorem Fv(p:o.guard=none)(j x k:Operand)(D:TypeId)(h:o.op=Op.insert D j x k)(C F:TypeId)(s:P.underlying D=H (.map C F))(m:TypeDesc)(q:P.underlying C=H m)(l:M)(i:aa->Prop)(r:a.eval j=.map (H l))(K:lD w l m i)(c:aa)(g:MapKept.IsKey m c)(u:a.eval x=c)(t:a.eval k=eD #[])(n:∀d,lD d l m (λx=>i x\/x=c)->w.grownBy d (H l)->z (G d)=z (G w)->wpList P b Q rest (a.put o.dst iC) d):wpList P b Q (o::rest) a w:=by
 refine kN p λE f=>?_;obtain⟨d,e,v,A,B⟩:=zj s q K c g;unfold Oper.wp;simp[execOp,h,r,u,t,e,Result.andThen];exact f _ _<|n d v A B
end
def Rw(h:cJ a b j)(P:y j.files<=100000000)(F:Pow a)(l:∀T∈j.files.map df.name,T=⟨#[108,111,103,45,49]⟩)(E:dX (vw j.files) gR=none):cw bF 94 #[aw b] a λL S=>L=aO (dA #[YA,.nilIface])/\Z az a S:=by
 obtain⟨e,f⟩:∃e,ct a (aq #[aI 0,aI 0,aI 0,aK,aK,aK,aK] 187)=e:=⟨_,rfl⟩;obtain⟨m,d⟩:∃m,ct e (aq #[J gR,am 10] 222)=m:=⟨_,rfl⟩;have p:Z az a e:=by rw[<-f];exact(Z.refl az a).alloc _
 have k:Z az a m:=by rw[<-d];exact p.alloc _
 have n:e.heap[z<|G a]?=H (aq #[aI 0,aI 0,aI 0,aK,aK,aK,aK] 187 (0,0)):=by rw[<-f];exact aC _ rfl
 have t:m.heap[z<|G a]?=H (aq #[aI 0,aI 0,aI 0,aK,aK,aK,aK] 187 (0,0)):=by rw[<-d];exact(fX _<|aj n).trans n
 have u:aS m (R (z<|G e) 1)=H (am 10):=by(have:m.heap[z<|G e]?=H (aq #[J gR,am 10] 222 (0,0)):=by rw[<-d];exact aC _ rfl);rw[bR this];rfl
 have i:=Gy (db:=b) (K:=j) gR (w:=e) (h.ar p<|λ_ _=>id) E;rw[d]at i;unfold gR at i;have v:=Pt (z<|G e) 10 m u;have o:=Nd (db:=b) (K:=j) (h.ar k<|λ_ _=>id) P (F.ar k id) l;unfold YA at o|-;obtain⟨B,s,C⟩:=dB k t f;clear h F l E p k n t f d u;go_in
 go_wp2_with fail
 rw[ae C];apply i.mono;rintro L D⟨rfl,Q⟩;subst D;go_wp2_with fail
 apply v.mono;rintro L D⟨rfl,Q⟩;subst D;go_wp2_with fail
 apply o.mono;rintro L K⟨rfl,q⟩;have g:=(q.block _ (aj s) id).trans s;have V:∀r,K.frozen? (R (z<|G a) r)=bE:=λr=>by simp[World.frozen?,g]
 have c:∀r,r<7->∃x,aS K (R (z<|G a) r)=H x:=λr O=>by rw[bR g];exact⟨_,nT<|by simpa using O⟩
 obtain⟨u0,W⟩:=c 0 (by omega);obtain⟨u1,z1⟩:=c 1 (by omega);obtain⟨u2,z2⟩:=c 2 (by omega);obtain⟨u3,z3⟩:=c 3 (by omega);obtain⟨u4,z4⟩:=c 4 (by omega);obtain⟨u5,z5⟩:=c 5 (by omega);obtain⟨u6,z6⟩:=c 6 (by omega);have N:=U<|B.ci q;have A:=U g;clear q g c i v o;go_wp2;have w:=aQ (i:=6) (u:=aK)<|aQ (i:=5) (u:=aK)<|aQ (i:=4) (u:=aK)<|aQ (i:=3) (u:=aK)<|aQ (i:=2) (u:=aI 0)<|aQ (i:=1) (u:=aI 1)<|aQ (i:=0) (u:=aI 2) A;refine cI (vM rfl _ _ (z<|G a) 2 1 0 _ _ _ _ _ _ rfl w ⟨_,_,_,rfl⟩ ⟨_,_,_,rfl⟩ ⟨_,_,_,rfl⟩ ⟨_,_,_,rfl⟩) rfl ?_;refine⟨rfl,?_⟩;exact((((((N.setCell _ 0 _<|.inr<|ah _).setCell _ 1 _<|.inr<|ah _).setCell _ 2 _<|.inr<|ah _).setCell _ 3 _<|.inr<|ah _).setCell _ 4 _<|.inr<|ah _).setCell _ 5 _<|.inr<|ah _).setCell _ 6 _<|.inr<|ah _
