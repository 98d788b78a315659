import Derived.Test.YtbiejblbclolmaaGreatDoorC10
open _root_ renaming List.length→y,Option.some→H,Array.size→z,Go.World.heap→G,Go.Value.ownBlock→cI,Go.World.cell?→aW,Go.World.setCell→cH,Go.World.alloc→dd,Bool.false→bw,Bool.true→cf,Nat→M,Int→U,List→ci,Go.Calls→cY,Go.undef→iM,Go.Proofs.Tryz.prog→bA,Go.Value.slice→I,Go.Value.string→am,Go.Value.bool→aM,Go.Value.pointer→dC,Go.Value.tuple→dA,Go.Value.agg→dL
namespace Go.Proofs.YtbiejblbclolmaaGreatDoor
open ChangeShapes WideShapes RowKit Proofs.Tryz List
set_option maxHeartbeats 16000000
set_option linter.all false
set_option maxRecDepth 100000
variable{a f:Y}{b c i l F V:M}{d t:ab}{e:cU}{g:DK}{j p u v:cP}{k N:U}{m:dX}{W:SR}{r:ae}{B:ix}
def rq{c:Func}{F S:Tmp}(T:c.results=#[.cell F 110,.tmp S])(a:Array ab)(w:Y)(g:M)(n A k:U)(e f h i:ab)(Q:TypeId)(d:M×M)(r:a.getD F iM=aD g)(p:w.heap[g]?=H (ay #[aG n,aG A,aG k,e,f,h,i] Q d))(j:∃x n k,e=I x n k)(l:∃x n k,f=I x n k)(m:∃x n k,h=I x n k)(o:∃x n k,i=I x n k):(results c a).run bA w=.ok (dA #[dL #[aG n,aG A,aG k,e,f,h,i],a.getD S iM]) w:=by
 obtain⟨K,B,s,rfl⟩:=j;obtain⟨L,C,t,rfl⟩:=l;obtain⟨N,D,u,rfl⟩:=m;obtain⟨O,E,v,rfl⟩:=o;have b:a[F]?.getD iM=aD g:=by simpa using r
 have q:=kH (P:=bA) w g Q 110 #[aG n,aG A,aG k,I K B s,I L C t,I N D u,I O E v] d _ p underlying110 rfl (by kernel_rfl);simp[results,T,b,asAddr,q,Result.andThen]
def Q3:ab:=dL #[aG 2,aG 1,aG 0,az,az,az,az]
def ZW(w:Y)(f:ae):Prop:=∃(n:M)(ok:Bool),n<=2/\∀W,Z aw w W->cY bA 121 #[am f] W λe a=>Ym W a e n ok
def Ps{db:M}{K:DK}(h:bY a db K)(hn:y K.files<=100000000)(hp:Pow a)(u:∀aF∈K.files.map aX.name,ZW a aF):cY bA 76 #[aD db] a λan w'=>an=aN (dA #[Q3,.nilIface])/\Z aw a w':=by
 have A:Z aw a (dd (dd a<|ay #[aG 0,aG 0,aG 0,az,az,az,az] 110)<|ay #[aG 2,aG 1,aG 0,az,az,az,az] 110):=(cO aw a).alloc _;have O:(dd (dd a<|ay #[aG 0,aG 0,aG 0,az,az,az,az] 110)<|ay #[aG 2,aG 1,aG 0,az,az,az,az] 110).heap[z<|G a]?=H (ay #[aG 0,aG 0,aG 0,az,az,az,az] 110 (0,0)):=(gq _<|by simp).trans<|aK _ rfl;have P:(dd (dd a<|ay #[aG 0,aG 0,aG 0,az,az,az,az] 110)<|ay #[aG 2,aG 1,aG 0,az,az,az,az] 110).heap[z (G a)+1]?=H (ay #[aG 2,aG 1,aG 0,az,az,az,az] 110 (0,0)):=aK _ (by simp);have T:=Gn (db:=db) (K:=K) (h.aj A<|λ_ _=>id) hn;obtain⟨F,m,n,HP,HA⟩:=iY A O P hp u;go_in
 go_wp2_with fail
 apply T.mono;rintro an w3⟨v3,d,rfl,x,w,j⟩;obtain⟨x3,c3,W⟩:=aC w;subst W;have N:=F.cz j;have Q:=(j.block _ (ak m) id).trans m;have S:=(j.block _ (ak n) id).trans n;have av:y d<=100000000:=by have:=x.length_eq;grind
 have V:∀b∈d,ZW a b:=λb hx=>HA b<|x.mem_iff.1 hx;obtain⟨s,t,o,p,D⟩:=iY w N Q S V;go_wp2;go_loopw [13] (λi wr=>∃(l:M),l<=y d/\i=aq l/\Z aw w3 wr) (λi _=>y d-(intOf i).toNat)
 case atStart=>exact⟨0,bK _,by go_num,Z.refl _ _⟩
 (case round=>obtain⟨l,hj,rfl,k⟩:=hrel;have e:=(k.block _ (ak o) id).trans o;have b:=(k.block _ (ak p) id).trans p;by_cases f:l<y d;(·(have e1:(l:U)<(y d:U):=by omega);(have e2:(0:U)<=(l:U):=by omega);obtain⟨nn,ok,ap,g⟩:=(J D) _<|ar f;have g:=g wr<|t.cz k;(have au:¬(2:U)<(nn:U):=by omega);(have v:∃al c,x3=H (R al c)/\aW wr (R al<|c+l)=H (am d[l]):=by obtain⟨q1,⟨q2,q0⟩|⟨ax,C,ac,q2,ao,hc⟩⟩:=dR s;omega;cases q2;refine⟨ax,C,rfl,?_⟩;(have hg:(strs d)[l]?=H (am d[l]):=by simp[strs,f]);exact k.cell (hc _ _ hg) id (s.lt ax rfl).2);obtain⟨al,c,hx,v⟩:=v;subst hx;obtain⟨E,q,r⟩:=dF k e b;generalize d[l]=ad at*;(go_wp2_with fail);apply g.mono;rintro an w4⟨rfl,B⟩;have aa:=(B.block _ (ak r) id).trans r;have y0:=cellAt aa 0 rfl;have L:=X<|E.cz B;cases ok;(all_goals go_wp2;go_roundw;(case rel=>exact⟨l+1,f,by go_num,L⟩);case measure=>simp[intOf];omega));(have e1:¬(l:U)<(y d:U):=by omega);have y0:=cellAt b 0 rfl;have C:=cellAt b 1 rfl;have L:=cellAt b 2 rfl;have y3:=cellAt b 3 rfl;have y4:=cellAt b 4 rfl;have y5:=cellAt b 5 rfl;have y6:=cellAt b 6 rfl;(have B:∀i,wr.frozen? (R (z<|G a) i)=bw:=λi=>by simp[World.frozen?,e]);(have c:∀i,i<7->∃r,aW wr (R (z<|G a) i)=H r:=λi b=>by rw[ct e];simp_all);obtain⟨u0,z0⟩:=c 0 (by omega);obtain⟨u1,z1⟩:=c 1 (by omega);obtain⟨u2,z2⟩:=c 2 (by omega);obtain⟨u3,z3⟩:=c 3 (by omega);obtain⟨u4,z4⟩:=c 4 (by omega);obtain⟨u5,z5⟩:=c 5 (by omega);obtain⟨u6,z6⟩:=c 6 (by omega);have E:=X k;have q:=X e;go_wp2;have g:=aJ (i:=6) (u:=az)<|aJ (i:=5) (u:=az)<|aJ (i:=4) (u:=az)<|aJ (i:=3) (u:=az)<|aJ (i:=2) (u:=aG 0)<|aJ (i:=1) (u:=aG 1)<|aJ (i:=0) (u:=aG 2) q;refine cy (rq rfl _ _ (z<|G a) 2 1 0 _ _ _ _ _ _ rfl g ⟨_,_,_,rfl⟩ ⟨_,_,_,rfl⟩ ⟨_,_,_,rfl⟩ ⟨_,_,_,rfl⟩) rfl ?_;refine⟨rfl,?_⟩;have v:=t.cz E;exact((((((v.setCell _ 0 _<|.inr<|ag _).setCell _ 1 _<|.inr<|ag _).setCell _ 2 _<|.inr<|ag _).setCell _ 3 _<|.inr<|ag _).setCell _ 4 _<|.inr<|ag _).setCell _ 5 _<|.inr<|ag _).setCell _ 6 _<|.inr<|ag _)
def Rd.aj{S:fh}{w w':Y}{rest:eF}{a:Bool}(p:Rd w c rest a)(k:Z S w w')(q:∀l,S l->c<l):Rd w' c rest a:=by
 have h:=p.lt;obtain⟨v,o,m,j⟩:=p;refine⟨v,(k.block c h<|by grind).trans o,?_,j⟩;rcases m with⟨rfl,rfl⟩|⟨b,d,e,rfl,g,n⟩;exact .inl ⟨rfl,rfl⟩;have:=j b rfl;exact .inr ⟨b,d,e,rfl,g,λl c=>k.cell (n l c) (by grind)<|by omega⟩
structure tz(w0 wr:Y)(sb rb mb:M)(nx lg bt:U)(vs:ix)(Ds:ci cP)(ks:ab->Prop)(rest:eF):Prop where
 box:wr.heap[sb]?=H (ay (aG nx::aG lg::aG bt::vs).toArray 110 (0,0))
 Am:y vs=4
 Cc:y Ds=4
 rows:∀(j:M)(v:ab)(D:cP),vs[j]?=H v->Ds[j]?=H D->wr.ownsRow (mb+1) 178 4 v (y D) (dH D)
 ne:∀(j j':M)(v v':ab)(q:M),j≠j'->vs[j]?=H v->vs[j']?=H v'->cI v=H q->cI v'≠H q
 set:lD wr mb (.int .u64) ks
 rd:Rd wr rb rest bw
 aj:Z aw w0 wr
 ord:z (G w0)<=rb/\rb<sb/\sb<mb/\mb<z (G wr)
def tz.row{n wr:Y}{nx m f:U}{a:ci cP}{l:ab->Prop}{rest:eF}(h:tz n wr b c i nx m f B a l rest){j:M}(k:B[j]?=H d):∃D,a[j]?=H D/\wr.ownsRow (i+1) 178 4 d (y D) (dH D):=by
 have g:j<4:=by rw[<-h.Am];grind
 have e:a[j]?=H (a[j]'(by rw[h.Cc];exact g)):=aR _;exact⟨_,e,h.rows j d _ k e⟩
def tz.own{n wr:Y}{e:U}{a:ci cP}{m:ab->Prop}{rest:eF}(o:tz n wr c l F k N e B a m rest)(j:B[V]?=H d){q:M}(g:cI d=H q):F<q/\q<z (G wr):=by
 obtain⟨D,_,h⟩:=o.row j;have:=bN h q g;omega
def tz.cell{g wr:Y}{d:U}{a:ci cP}{e:ab->Prop}{rest:eF}(h:tz g wr c l V k N d B a e rest)(j:M):aW wr (R c<|3+j)=B[j]?:=by
 rw[ct h.box,Ba 3 j];simp
def tz.read{l wr e:Y}{g:U}{f:ci cP}{j:ab->Prop}{rest a:eF}(h:tz l wr b c i k N g B f j rest)(d:Z (λn=>n=c) wr e)(m:Rd e c a bw):tz l e b c i k N g B f j a where
 box:=(d.block b (ak h.box) (by have:=h.ord;omega)).trans h.box
 Am:=h.Am
 Cc:=h.Cc
 rows:=λn v D b i=>d.own (h.rows n v D b i) (λq m o=>by have:=h.own b m;have:=h.ord;omega)
 ne:=h.ne
 set:=h.set.dG<|d.block i h.ord.2.2.2 (by have:=h.ord;omega)
 rd:=m
 aj:=h.aj.trans d<|λn b=>.inr (by have:=h.ord;omega)
 ord:=⟨h.ord.1,h.ord.2.1,h.ord.2.2.1,ai h.ord.2.2.2 d.size⟩
def tz.still{g wr h:Y}{d:U}{a:ci cP}{f:ab->Prop}{rest:eF}(j:tz g wr b c i k N d B a f rest)(e:Z aw wr h):tz g h b c i k N d B a f rest:=j.read (e.mono cJ)<|j.rd.aj e cJ
def tz.zV{j wr e:Y}{g:U}{f:ci cP}{n d:ab->Prop}{rest:eF}(h:tz j wr b c i k N g B f n rest)(a:wr.grownBy e (H i))(m:lD e i (.int .u64) d):tz j e b c i k N g B f d rest where
 box:=(a.block b (ak h.box) (by have:=h.ord;grind)).trans h.box
 Am:=h.Am
 Cc:=h.Cc
 rows:=λp v D b i=>(fo a).own (h.rows p v D b i) (λq m l=>by have:=h.own b m;omega)
 ne:=h.ne
 set:=m
 rd:=h.rd.aj (fo a) (λo l=>by have:=h.ord;omega)
 aj:=h.aj.trans (fo a)<|λo l=>.inr (by have:=h.ord;have:o=i:=l;omega)
 ord:=⟨h.ord.1,h.ord.2.1,h.ord.2.2.1,ai h.ord.2.2.2 a.size⟩
def tz.ks{j wr:Y}{nx g e:U}{d:ci cP}{f a:ab->Prop}{rest:eF}(h:tz j wr c i l nx g e B d f rest)(m:∀k,a k↔f k):tz j wr c i l nx g e B d a rest:={h with set:=h.set.congr m}
def tz.put{S wr n:Y}{x:U}{K:ci cP}{Q:ab->Prop}{rest:eF}{D':cP}(o:tz S wr c i l k N x B K Q rest)(s:B[F]?=H d)(D:eJ wr n d t)(O:n.ownsRow (l+1) 178 4 t (y D') (dH D')):tz S (cH n (R c<|3+F) t) c i l k N x (B.set F t) (K.set F D') Q rest:=by
 have u:Z (λaa=>cI d=H aa) wr n:=Z.fN D;have V:=λq=>o.own (q:=q) s;have r:=o.ord;have v:n.heap[c]?=H (ay (aG k::aG N::aG x::B).toArray 110 (0,0)):=(u.block c (ak o.box)<|by grind).trans o.box;have j:Z (λaa=>aa=c) n (cH n (R c<|3+F) t):=(iT c n);have C:∀q,cI t=H q->l<q/\q<z (G n):=λq h=>by have:=bN O q h;omega
 refine⟨?_,by rw[iJ];exact o.Am,by rw[iJ];exact o.Cc,?_,?_,?_,?_,?_,?_⟩;rw[aJ v,Ba 3 F];simp;intro P ac m g a;by_cases A:F=P;subst A;rw[iC]at g a;rw[s]at g;obtain⟨E,e,_⟩:=o.row s;rw[e]at a;cases g;cases a;exact j.own O (by grind);rw[gF A]at g a;have e:=u.own (o.rows P ac m g a)<|λq h w=>o.ne P F ac d q (Ne.symm A) g s h w;exact j.own e (λq h A=>by have:=o.own g h;omega);intro P i' ac u' q m g e h;by_cases A:F=P;subst A;rw[gF m]at e;rw[iC,s]at g;cases g;intro a;change cI t=H q at h;rcases D.vQ with w|⟨E,w,W⟩;exact o.ne _ _ _ _ q m s e (w.symm.trans h) a;rw[w]at h;cases h;have:=o.own e a;omega;rw[gF A]at g;by_cases L:F=i';subst L;rw[iC,s]at e;cases e;intro a;change cI t=H q at a;rcases D.vQ with w|⟨E,w,W⟩;exact o.ne _ _ _ _ q m g s h<|w.symm.trans a;rw[w]at a;cases a;have:=o.own g h;omega;rw[gF L]at e;exact o.ne _ _ _ _ q m g e h;exact(o.set.dG<|u.block l r.2.2.2<|by grind).dG (j.block l (ai r.2.2.2 u.size)<|by omega);exact(o.rd.aj u<|by grind).aj j (by grind);exact(o.aj.trans u<|by grind).trans j (by grind);grind[im,Nat.lt_of_lt_of_le,Z.size]
structure oE(Ms Ds:ci cP)(i k:M):Prop where
 low:∀j,j<i->Ds[j]?=Ms[j]?
 now:∀m,Ms[i]?=H m->Ds[i]?=H (m.take k)
 wz:∀j,i<j->j<4->Ds[j]?=H []
theorem oE.start(b:ci cP):oE b [[],[],[],[]] 0 0 where
 low:=(by simp)
 now:=λm _=>rfl
 wz:=(by grind)
theorem oE.yO{b d:ci cP}{i:M}{m:cP}(h:oE b d i (y m))(e:b[i]?=H m)(c:y b=4):oE b d (i+1) 0 where
 low:=λj f=>by
  rcases iy j i with g|g
  .exact h.low j g
  .obtain rfl:j=i:=by omega
   rw[e,h.now m e,aY]
 now:=λg e=>by
  have:i+1<4:=by
   rw[<-c];grind
  rw[yh];exact h.wz _ (Nat.lt_succ_self i) this
 wz:=λj f c=>h.wz j (by omega) c
theorem oE.one{c e:ci cP}{i k:M}{m:cP}(h:oE c e i k)(f:c[i]?=H m):oE c (e.set i<|m.take<|k+1) i (k+1)where
 low:=λj d=>by rw[gF<|by omega];exact h.low j d
 now:=λg b=>by
  rw[f]at b;cases b;rw[iC,h.now m f];rfl
 wz:=λj d b=>by rw[gF<|by omega];exact h.wz j d b
theorem oE.all{d c:ci cP}(h:oE d c 4 0)(g:y d=4)(f:y c=4):c=d:=by
 refine uN<|λj=>?_;rcases iy j 4 with e|e;exact h.low j e;grind
def yD(b:ci cP)(i k:M):cP:=(b.take i).flatten++((b[i]?).getD []).take k
theorem Tp(b:ci cP):yD b 0 0=[]:=by simp[yD]
theorem VY{b:ci cP}{i k:M}{m:cP}(c:b[i]?=H m)(d:k<y m):yD b i (k+1)=yD b i k++[m[k]]:=by
 unfold yD;rw[c];simp_all
theorem PO{b:ci cP}{i:M}{m:cP}(d:b[i]?=H m):yD b (i+1) 0=yD b i (y m):=by
 unfold yD;rw[d];have c:i<y b:=by grind
 have e:b[i]=m:=by rw[aR c]at d;grind
 simp only[oJ,aY,yh,dz];rw[ah c,dW,e];simp
theorem FM{b:ci cP}{i k:M}{m:cP}(c:b[i]?=H m)(f:k<y m):b.flatten=yD b i k++m[k]::(m.drop (k+1)++(b.drop<|i+1).flatten):=by
 have e:i<y b:=by grind
 have h:b[i]=m:=by rw[aR e]at c;grind
 have d:b.flatten=(b.take i).flatten++(m++(b.drop<|i+1).flatten):=by grind[take_append_drop,drop_eq_getElem_cons,flatten_append,flatten_cons]
 have g:m.take k++m[k]::m.drop (k+1)=m:=by rw[<-bJ f,bO]
 unfold yD;rw[c,d];grind
theorem PP{b:ci cP}{i k:M}{m:cP}(e:(b.flatten.map bB.num).Nodup)(d:b[i]?=H m)(c:k<y m):∀u∈yD b i k,u.num≠m[k].num:=by
 grind[FM,nodup_append,mem_map_of_mem]
theorem TL{b:ci cP}{i k:M}{m:cP}(d:b[i]?=H m)(c:k<y m):m[k]∈b.flatten:=by
 rw[FM d c];simp
def qz(b:ci cP)(i:M):eF:=((b.drop i).map sM).flatten
theorem MB{b:ci cP}{i:M}{m:cP}(d:b[i]?=H m):qz b i=le 4 (y m)++(m.flatMap vK++qz b (i+1)):=by
 have c:i<y b:=by grind
 have e:b[i]=m:=by rw[aR c]at d;grind
 unfold qz;rw[bJ c,bR,bW,e];unfold sM;rw[bj]
theorem Ti{b:ci cP}{i:M}(h:y b<=i):qz b i=[]:=by
 unfold qz;rw[List.drop_eq_nil_iff.2 h];rfl
theorem Xa(t:bB):kr (vK t):=(kr.le 8 _).append<|(kr.le 4 _).append<|(kr.le 4 _).append<|kr.le 4 _
theorem Dk(m:cP):kr (m.flatMap vK):=λx c=>by
 obtain⟨t,_,b⟩:=kW.1 c;exact Xa t x b
theorem ww(c:ci cP)(i:M):kr (qz c i):=λx b=>by
 unfold qz at b;obtain⟨l,d,b⟩:=bC.1 b;obtain⟨m,_,rfl⟩:=bH.1 d;exact((kr.le 4 _).append<|Dk m) x b
theorem Cb(m:cP):y (m.flatMap vK)=20*y m:=by
 have:=sw m;unfold sM at this;rw[af,cg]at this;omega
theorem Bo(b:ci cP):∀i,y (qz b i)<=4*y b+20*y b.flatten:=by
 intro i;unfold qz
 have h:∀L:ci cP,y ((L.map sM).flatten)=4*y L+20*y L.flatten:=by
  intro L;induction L with
  |nil=>rfl
  |cons m L c=>
   rw[bR,bW,af,c,sw,bW,af,aO];omega
 rw[h];have d:y (b.drop i)<=y b:=by simp
 have e:y (b.drop i).flatten<=y b.flatten:=by(conv=>rhs;rw[<-bO i b,dW,af]);omega
 omega
section
variable{P:Program}(w:Y){ops:Array Oper}{rest:ci Oper}{o:Oper}{a:Act}{Q:Exit->Act->Y->Prop}
theorem Hn(n:o.guard=none)(i x j:Operand)(C:TypeId)(g:o.op=Op.insert C i x j)(B E:TypeId)(r:P.underlying C=H (.map B E))(l:TypeDesc)(p:P.underlying B=H l)(k:M)(h:ab->Prop)(q:a.eval i=.map (H k))(F:lD w k l h)(b:ab)(f:MapKept.IsKey l b)(t:a.eval x=b)(s:a.eval j=dL #[])(m:∀c,lD c k l (λx=>h x\/x=b)->w.grownBy c (H k)->z (G c)=z (G w)->wpList P ops Q rest (a.put o.dst iM) c):wpList P ops Q (o::rest) a w:=by
 refine lK n λD e=>?_;obtain⟨c,d,u,v,A⟩:=Au r p F b f;unfold Oper.wp;simp[execOp,g,q,t,s,d,Result.andThen];exact e _ _<|m c u v A
end
def ND(a:M)(b:cP):ab->Prop:=λx=>x=aG a\/∃t∈b,x=aG t.num
theorem QP(fr g r next d b:M)(e:ci cP)(hT:Steps a)(h4:y e=4)(jk:next<18446744073709551616)(iv:d<next)(hQ:b<18446744073709551616)(hw:y e.flatten<=1000000)(n:∀ba∈e.flatten,ba.oZ)(ek:(e.flatten.map bB.num).Nodup)(ed:∀ba∈e.flatten,ba.num<next/\ba.num≠d)(ad:y (fS next d b e)<=r)(dv:fr<z (G a))(hb:Bytes a (bI fr g (y<|fS next d b e) r) (fS next d b e)):cY bA 77 #[bI fr g (y<|fS next d b e) r] a λx w'=>
 ∃x0 n0 c0 x1 n1 c1 x2 n2 c2 x3 n3 c3,x=aN (dA #[dL #[aG next,aG d,aG b,I x0 n0 c0,I x1 n1 c1,I x2 n2 c2,I x3 n3 c3],aM cf])/\(∀(cu:M)(au:ab)(hI:cP),[I x0 n0 c0,I x1 n1 c1,I x2 n2 c2,I x3 n3 c3][cu]?=H au->e[cu]?=H hI->w'.ownsRow (z<|G a) 178 4 au (y hI) (dH hI))/\Z aw a w':=by
 obtain⟨i0,hj,aV,hB,hC⟩:=dl NK
 obtain⟨u0,hy,hA,ih,il⟩:=dl Gu
 have hL:∀(hH:Bool)(a:Y),(Op.unary .not<|aM hH).run bA a=.ok (aM<|!hH) a:=λ_ _=>rfl
 have hY:=@rW bA
 obtain⟨s,ao⟩:∃s,s=le 8 (next:M)++(le 8 (d:M)++(le 8 (b:M)++qz e 0)):=⟨_,rfl⟩
 have hv:fS next d b e=gS s:=by
  rw[ao];unfold fS qz;simp
 have cp:=Bo e
 rw[h4]at cp
 have hZ:y s<=21000000:=by
  rw[ao];have:=cp 0;grind[length_append,cg]
 rw[hv]at ad hb|-
 rw[gO]at ad hb|-
 have hx:Z aw a (dd a<|ay #[aG 0,aG 0,aG 0,az,az,az,az] 110):=(cO _ a)
 have eA:=uS fr g r s (hT.alloc<|ay #[aG 0,aG 0,aG 0,az,az,az,az] 110) ad (by omega)<|hb.alloc _
 have hr:(dd a<|ay #[aG 0,aG 0,aG 0,az,az,az,az] 110).heap[z<|G a]?=H (ay #[aG 0,aG 0,aG 0,az,az,az,az] 110 (0,0)):=aK _ rfl
 have he:Bytes a (bI fr g (y s) r) s:=by
  unfold gS at hb;rcases hb with⟨x,_⟩|⟨m,p,o,x,k,f⟩
  .cases x
  .simp only[Value.slice.injEq,uK,Addr.mk.injEq]at x;obtain⟨⟨rfl,rfl,_⟩,_,rfl⟩:=x;refine .inr ⟨_,_,_,rfl,by omega,λl hk=>?_⟩;have:=f l (by simp;omega);rw[ic hk]at this;exact this
 obtain⟨PL,dr⟩:∃PL,y s=PL:=⟨_,rfl⟩
 rw[dr]at eA|-
 obtain⟨fv,gr,av,gk,cN,cE⟩:=lw he hx hr dr ao ek
 obtain⟨gf,cB,aa,H4,Q⟩:=iY n ed cp h4 hw
 go_in
 go_wp2_with fail
 apply eA.mono
 rintro x w1⟨rfl,cl⟩
 have ck:Z aw a w1:=gr.cz<|Z.aQ (S:=aw) cl
 have bi:=X<|Z.aQ (S:=aw) cl
 have ds:=(Z.aQ (S:=aw) cl).block _ (ak av) id|>.trans av
 have hd:Bytes w1 (bI fr g PL r) s:=by
  rw[<-J gk];exact fv.below (ck.below (ag _) cJ) (λl hk=>by cases hk;exact dv)
 have hs:=ck.size
 have es:=ak ds
 have hp:=lV hd (by intro l hk;cases hk;grind)
 have hJ:=X ck
 have hP:=X ds
 go_wp2_with fail
 apply hp.mono
 rintro x w2⟨rfl,i,aU⟩
 subst aU
 obtain⟨t,en⟩:∃t,z (G w1)=t:=⟨_,rfl⟩
 have df:=X<|bi.alloc<|ay #[bI fr g PL r,aM bw] 317
 have aV:z (G<|dd a<|ay #[aG 0,aG 0,aG 0,az,az,az,az] 110)<=t:=by have:=bi.size;omega
 have ht:t<z (G<|dd w1<|ay #[bI fr g PL r,aM bw] 317):=by simp[en]
 rw[en]at i|-
 rw[J cN]at i
 have hN:z (G a)<t:=by omega
 generalize dd w1 (ay #[bI fr g PL r,aM bw] 317)=w2 at*
 have hl:=BF t (next:M) _ w2 i ((kr.le 8 _).append<|(kr.le 8 _).append<|ww e 0) (by have:=aa 0;have:=J Q;grind[length_append,cg]) (by omega)<|by omega
 go_wp2_with fail
 apply hl.mono
 rintro x w3⟨rfl,eo,hg⟩
 have hm:=BF t (d:M) _ w3 eo ((kr.le 8 _).append<|ww e 0) (by have:=aa 0;have:=J Q;grind[length_append,cg]) (by omega)<|by omega
 have fz:=X hg
 go_wp2_with fail
 apply hm.mono
 rintro x w4⟨rfl,eq,hh⟩
 have hn:=BF t (b:M) _ w4 eq (ww e 0) (by have:=aa 0;have:=J Q;omega) (by omega)<|by omega
 have fL:=X hh
 go_wp2_with fail
 apply hn.mono
 rintro x F⟨rfl,er,hi⟩
 have cc:Z (λl=>l=t) w2 F:=((fo fz).trans (fo fL)<|λ_ h=>.inl h).trans (fo hi)<|λ_ h=>.inl h
 have bk:=X<|df.trans cc<|by grind
 have et:t<z (G F):=by have:=cc.size;omega
 have bh:=X er
 have ap:lD (dd (dd F<|ay #[aG next,aG d,aG b,az,az,az,az] 110)<|.map #[] 0) (z (G F)+1) (.int .u64) aw:=by
  have:=lD.new (dd F<|ay #[aG next,aG d,aG b,az,az,az,az] 110)<|.int .u64;simp_all
 have hf:(dd (dd F<|ay #[aG next,aG d,aG b,az,az,az,az] 110)<|.map #[] 0).heap[z<|G F]?=H (ay #[aG next,aG d,aG b,az,az,az,az] 110 (0,0)):=(gq _<|by simp).trans<|aK _ rfl
 have L:=X ap
 have cw:=X hf
 go_wp2_with((refine Hn _ rfl _ _ _ 241 rfl 74 65 underlying241 (.int .u64) underlying74 (z (G F)+1) _ rfl L (aG d) rfl rfl rfl ?_;intro w8 eu ea fn;have dc:=X eu;have ce:=X ea;have dk:=X fn;clear eu ea fn))
 have hA0:tz (dd a<|ay #[aG 0,aG 0,aG 0,az,az,az,az] 110) w8 (z<|G F) t (z (G F)+1) next d b [az,az,az,az] [[],[],[],[]] (ND d<|yD e 0 0) (qz e 0):=by
  have f:Z (λl=>l=z (G F)+1) F w8:=((cO (λl=>l=z (G F)+1) F).alloc _).trans (fo ce)<|λ_ cs=>.inl cs;refine⟨?_,rfl,rfl,?_,?_,dc.congr<|λl=>?_,bh.aj f (by grind),bk.trans f (by grind),⟨aV,et,by omega,?_⟩⟩
  .exact(ce.block _ (by simp;omega)<|by grind).trans cw
  .intro cu au k B hT;have x:au=az/\k=[]:=by
    rcases cu with _|_|_|_|cu<;>simp at B hT<;>exact⟨B.symm,hT⟩
   rw[x.1,x.2];exact cK _ _ _ _
  .intro cu k au m q _ B _ hq;have x:au=az:=by
    rcases cu with _|_|_|_|cu<;>simp at B<;>exact B.symm
   rw[x]at hq;cases hq
  .unfold ND;rw[Tp];simp
  .rw[J dk];simp
 have cd:=X hA0
 obtain⟨c,ev⟩:∃c,z (G F)=c:=⟨_,rfl⟩
 rw[ev]at cd|-
 obtain⟨mb,eg⟩:∃mb,c+1=mb:=⟨_,rfl⟩
 rw[eg]at cd|-
 have br:∀(j:M)(w:cP),e[j]?=H w->y w<=1000000:=λj w T=>by
  have h1:=J Q;have h2:y w<=y e.flatten:=by
   have:w∈e:=eR T;exact qn<|dw this
  omega
 have gg:=X br
 clear hA0 dc ce dk L cw bh bk ev eg br et hs es ht aV
 go_wp2_with fail
 go_loopw [35] (λf wr=>∃(j:M)(vs:ix)(Ds:ci cP),j<=4/\f=aq j/\tz (dd a<|ay #[aG 0,aG 0,aG 0,az,az,az,az] 110) wr c t mb next d b vs Ds (ND d<|yD e j 0) (qz e j)/\oE e Ds j 0) (λf _=>4-(intOf f).toNat)
 case atStart=>exact⟨0,_,_,bK _,rfl,cd,oE.start e⟩
 case round=>
  obtain⟨j,vs,Ds,iu,rfl,m,cj⟩:=hrel;by_cases ef:j<4
  .have ec:j<y e:=by rw[J H4];exact ef
   obtain⟨w,T⟩:∃w,e[j]?=H w:=⟨_,aR ec⟩;have hX:=gg j w T;have co:=m.rd;rw[MB T]at co;have fl:=qu t (y w:M) _ wr co ((Dk w).append<|ww e<|j+1) (by have:=aa<|j+1;have:=J Q;rw[af,Cb];omega) (by omega) (by omega);obtain⟨HA,gn,HM⟩:=dF m cj T;have e1:(j:U)<4:=by omega
   clear m cj T co ec;go_wp2_with fail
   apply fl.mono;rintro x w9⟨rfl,bL,eb⟩;have fu:=X<|HA.read (fo eb) bL;clear bL eb fl HA;go_wp2_with fail
   go_loopw [9] (λf g=>∃(l:M)(vs:ix)(Ds:ci cP),l<=y w/\f=dI (y w-l:M)/\tz (dd a<|ay #[aG 0,aG 0,aG 0,az,az,az,az] 110) g c t mb next d b vs Ds (ND d<|yD e j l) ((w.drop l).flatMap vK++qz e (j+1))/\oE e Ds j l) (λf _=>(intOf f).toNat)
   case atStart=>exact⟨0,_,_,bK _,rfl,by rw[List.drop_zero];exact fu,gn⟩
   case round=>
    obtain⟨l,cr,hO,hk,rfl,hA2,N⟩:=hrel;by_cases p:l<y w
    .have T:=J HM;have an:=TL T p;have n:=gf _ an;have cn:=cB _ an;have dT:=PP cE T p;have ex:=VY T p;have bT:=N.one T (k:=l);have ey:w.take (l+1)=w.take l++[w[l]]:=ah p;have dn:=N.now w T;have i:=hA2.rd;rw[bJ p,dY,bj]at i;have hc:y ((w.drop<|l+1).flatMap vK++qz e (j+1))<=100000000:=by
      have:=aa<|j+1;have:=J Q;have h1:y (w.drop<|l+1)<=y w:=by simp
      rw[af,Cb];omega
     have ax:kr ((w.drop<|l+1).flatMap vK++qz e (j+1)):=(Dk _).append<|ww e<|j+1;generalize hR:(w.drop<|l+1).flatMap vK++qz e (j+1)=ch at i hc ax|-;have HR:=X hR;clear hR;generalize w[l]=ba at*;unfold vK at i;simp only[bj]at i;have hU:=za<|fP ba.ks;have hV:=AG<|fP ba.ks;have q1:=n.num;have q2:=n.d;have q3:=n.i;have ei:ba.xy=[aG ba.num,dI<|y<|dU ba.cs,dI<|y<|fP ba.ks,dI<|lJ<|fP ba.ks]:=rfl;have bs:¬ND d (yD e j l) (aG ba.num):=by
      rintro(cs|⟨cv,hu,cs⟩)
      .simp only[Value.int.injEq,true_and]at cs;exact cn.2<|by omega
      .simp only[Value.int.injEq,true_and]at cs;exact dT cv hu<|by omega
     have bq:∀hH,ND d (yD e j<|l+1) hH↔(ND d (yD e j l) hH\/hH=aG ba.num):=λhH=>by
      unfold ND;rw[ex];simp only[aA,cL];constructor
      .rintro(cs|⟨cv,hu|rfl,cs⟩)
       .simp_all
       .exact .inl<|.inr ⟨cv,hu,cs⟩
       .exact .inr cs
      .rintro((cs|⟨cv,hu,cs⟩)|cs)
       .exact .inl cs
       .exact .inr ⟨cv,.inl hu,cs⟩
       simp_all
     have hK:=cn.1;obtain⟨gb,gi,ge,gs,fx,cS⟩:=lw bq bs ei ey dn bT;clear bq bs ei ey dn bT ex dT cn an n N T;generalize ba.num=A at*;generalize y (dU ba.cs)=W at*;generalize y (fP ba.ks)=P at*;generalize lJ (fP ba.ks)=C at*;have a1:kr (le 4 C++ch):=(kr.le 4 _).append ax;have a2:kr (le 4 (P:M)++(le 4 C++ch)):=(kr.le 4 _).append a1;have a3:kr (le 4 (W:M)++(le 4 (P:M)++(le 4 C++ch))):=(kr.le 4 _).append a2;have fb:=BF t (A:M) _ wr i a3 (by simp only[af,cg];omega) (by omega) (by omega);obtain⟨fs,I1,I2,IR⟩:=gw hA2 a1 a2 ax;have e2:(0:U)<((y w-l:M):U):=by omega
     clear hA2 i a1 a2 a3 ax;go_wp2_with fail
     apply fb.mono;rintro x hD⟨rfl,bu,bl⟩;have aU:=qu t (W:M) _ hD bu I2 (by simp only[af,cg];omega) (by omega) (by omega);have bc:=X bl;clear bu bl fb;go_wp2_with fail
     apply aU.mono;rintro x hE⟨rfl,bv,bm⟩;have fe:=qu t (P:M) _ hE bv I1 (by simp only[af,cg];omega) (by omega) (by omega);have bd:=X bm;clear bv bm aU;go_wp2_with fail
     apply fe.mono;rintro x hF⟨rfl,bx,bn⟩;have ff:=qu t C _ hF bx IR (by omega) (by omega) (by omega);have bf:=X bn;clear bx bn fe;go_wp2_with fail
     apply ff.mono;rintro x D⟨rfl,bE,bo⟩;have cb:Z (λl=>l=t) wr D:=(((fo bc).trans (fo bd)<|λ_ h=>.inl h).trans (fo bf)<|λ_ h=>.inl h).trans (fo bo)<|λ_ h=>.inl h;have hA13:=fs.read cb bE;have hA14:=hA13.still<|(Z.refl aw D).alloc<|ay #[aG A,dI W,dI P,dI C] 178;have hA15:=hA14.still<|(Z.refl aw _).alloc<|ay #[] 65;have ho:=CS underlying241 underlying74 hy hA hA14.set (aG A) rfl bw (by simp only[tZ,false_iff];exact gi);have ew:=IA hA15.rd;obtain⟨K,gj,v⟩:=dF hA15 (show∀(au:ab)(q:M),cr[j]?=H au->cI au=H q->q<z (G D)fromλau q B hq=>(hA13.own B hq).2)<|show(dd (dd D<|ay #[aG A,dI W,dI P,dI C] 178)<|ay #[] 65).heap[z<|G D]?=H (ay #[aG A,dI W,dI P,dI C] 178 (0,0))from(gq _<|by simp).trans<|aK _ rfl;clear bE bo cb hA13 hA14 hA15 ff bc bd bf;go_wp2_with fail
     apply ew.mono;rintro x hG⟨rfl,hM⟩;subst hG;obtain⟨mk,n⟩:∃mk,z (G D)=mk:=⟨_,rfl⟩;have gc:=X n;rw[n]at v|-;clear ho ew n;generalize dd (dd D<|ay #[aG A,dI W,dI P,dI C] 178) (ay #[] 65)=dm at*;have g0:aW dm (R mk 0)=H (aG A):=by rw[ct<|J v];rfl
     have g1:aW dm (R c 0)=H (aG next):=by rw[ct (J K).box];rfl
     have e3:¬((next:U)<=(A:U)):=by omega
     go_wp2_with(at_mapUpdate;go_loud(refine vC _ rfl _ _ _ 241 rfl 74 65 underlying241 (.int .u64) underlying74 mb _ rfl K.set (aG A) rfl rfl rfl ?_;intro u ca bp;have db:=X ca;have bg:=X bp;clear ca bp))
     have hA16:=(K.zV bg db).ks gb;have o:=(bg.block mk (ak v) (by intro x;have x:=gP x;obtain⟨it,ip,hW,_⟩:=K.set;have h2:=J v;rw[x,hW]at h2;cases h2)).trans v;have eB:j<y cr:=by rw[hA16.Am];exact ef
     obtain⟨au,B⟩:∃au,cr[j]?=H au:=⟨_,aR eB⟩;have O:=hA16.rows j au _ B fx;obtain⟨ox,oc,em⟩:=aC O;have cq:y (w.take l)=l:=by rw[dp];omega
     rw[cq]at O em;have k0:aW u (R c<|3+j)=H au:=(hA16.cell j).trans B;have k1:=cellAt o 0 rfl;have k2:=cellAt o 1 rfl;have k3:=cellAt o 2 rfl;have k4:=cellAt o 3 rfl;have al:=ak hA16.box;have k:=ak o;have el:=hA16.ord;obtain⟨cM,bb,HV,gt⟩:=gw O hA16 B cq;have e0:(0:U)<=(j:U):=by omega
     clear hA16 o O B cq eB g0 g1;subst em;have hS:aW u.drew (R c<|3+j)=H (I ox l oc)/\aW u.drew (R mk 0)=H (aG A)/\aW u.drew (R mk 1)=H (dI W)/\aW u.drew (R mk 2)=H (dI P)/\aW u.drew (R mk 3)=H (dI C):=by
      rw[bF,bF,bF,bF,bF];simp_all
     refine zQ (by kernel_rfl) ?_;refine wpAny_take (i:=8) (v:=dC<|H<|R c 3) rfl (by kernel_rfl) (by kernel_rfl) (by kernel_rfl) (λ_ _ _ h=>h) (Or.inl ⟨by rfl,λf=>?_⟩) ?_
     .go_simp;try with_reducible rfl
     simp only[Act.put,ig,rA];refine rN (S:=λf=>aW f (R c<|3+j)=H (I ox l oc)/\aW f (R mk 0)=H (aG A)/\aW f (R mk 1)=H (dI W)/\aW f (R mk 2)=H (dI P)/\aW f (R mk 3)=H (dI C)) (m:=10) _ _ _ _ ?_;refine fw 0 ?_;iterate 6 (refine iS (v:=?_) hS rfl (by kernel_rfl) lQ rfl ?_ ?_;rotate_left;(focus(rintro f⟨z0,z1,z2,z3,z4⟩;go_simp;try rfl));simp only[Act.put,ig,rA,Nat.reduceAdd])
     apply iG;refine bG (i:=6) rfl rfl (by kernel_rfl) ?_;intro K6 gE;go_simp;refine gE _ _ (λ_=>?_) ?_
     .rw[bF,bF,bF,bF,bF,fE al,fE k,fE k,fE k,fE k];simp_all
     try simp only[Act.put,ig,rA]
     refine bG (i:=7) rfl rfl (by kernel_rfl) ?_;intro K7 ha;try simp only[da,cD,cG]
     refine kE (.tmp 81) (.tmp 83) 107 rfl (mb+1) 178 i0 (dL #[aG 0,dI 0,dI 0,dI 0]) 4 24 underlying107 hj aV hB hC rfl (by decide) (I ox l oc) l (dH<|w.take l) rfl (kj (aT cM<|ay #[aG A,dI W,dI P,dI C] 178) rfl) (R (z<|G u) 0) 1 1 [aG A,dI W,dI P,dI C] rfl rfl (Er _ _ _ _ _ rfl) (by simp[Value.oneCell']) (by omega) (by omega) (by simp;omega) ?_;intro v3 E bt fd;have fk:eJ (dd u<|ay #[aG A,dI W,dI P,dI C] 178) E (I ox l oc) v3:=eJ.of_heap fd rfl;have hA17:=bb.still<|(Z.refl aw u).alloc<|ay #[aG A,dI W,dI P,dI C] 178;have dx:=hA17.put (D':=w.take<|l+1) HV fk (by rw[J gs,Gi,J ge,af,J gt];exact bt);have V:=Z.fN fk;have ej:cI (I ox l oc)≠H c:=λx=>by have:=(cM.lt c x).1;omega
     have aF:cI (I ox l oc)≠H mk:=λx=>by have:=gj _ _ HV x;have:=J gc;omega
     have s0:aW E (R c<|3+j)=H (I ox l oc):=V.cell (by rw[fE al];exact k0) ej (by simp;omega);have s1:aW E (R mk 0)=H (aG A):=V.cell (by rw[fE k];exact k1) aF (by simp;omega);have s2:aW E (R mk 1)=H (dI W):=V.cell (by rw[fE k];exact k2) aF (by simp;omega);have s3:aW E (R mk 2)=H (dI P):=V.cell (by rw[fE k];exact k3) aF (by simp;omega);have s4:aW E (R mk 3)=H (dI C):=V.cell (by rw[fE k];exact k4) aF (by simp;omega);have cm:=(V.block c (by simp;omega) ej).trans<|(gq _ al).trans bb.box;have f0:E.frozen? (R c<|3+j)=bw:=by simp[World.frozen?,cm]
     obtain⟨x3,c3,hz⟩:=aC bt;subst hz;refine ha _ _ (λ_=>⟨s0,s1,s2,s3,s4⟩) ?_;refine lN (i:=9) (v:=?_) rfl rfl (by kernel_rfl) (by kernel_rfl) (by kernel_rfl) (by kernel_rfl) (λ_ _ _ h=>h) (Or.inl ⟨by rfl,?_⟩) (And.intro s0 (And.intro s1 (And.intro s2 (And.intro s3 s4)))) ?_;rotate_left
     .rintro f⟨z0,z1,z2,z3,z4⟩;go_simp;try with_reducible rfl
     simp only[Act.put,ig,rA];refine bG (i:=10) rfl rfl (by kernel_rfl) ?_;intro gx ac;have cx:=X dx;go_simp;refine ac _ _ IY ?_;refine fm (by kernel_rfl) ?_ _;have cT:=X cS;have a5:IntKind.u32.wrap (((y w-l:M):U)-1)=((y w-(l+1):M):U):=by rw[IntKind.wrap_u32];omega
     go_wp2;go_roundw;case rel=>exact⟨l+1,_,_,p,rfl,by rw[J HR];exact cx,cT⟩
     case measure=>simp[intOf];omega
    .have u:l=y w:=by omega
     subst u;rw[gz,vV,du,<-PO (J HM)]at hA2;have k:=X<|N.yO HM H4;have o:=X hA2;have e5:¬((0:U)<((y w-y w:M):U)):=by omega
     go_wp2;go_roundw;case rel=>exact⟨j+1,_,_,by omega,by go_num,o,k⟩
     case measure=>simp[intOf];omega
  .have bc:j=4:=by omega
   subst bc;rw[Ti<|AZ<|J H4]at m;have ax:=cj.all H4 m.Cc;subst ax;have A:=yY m.rd (by simp);simp only[ri,nX,vA]at A;have bd:=m.Am;obtain⟨v0,v1,v2,v3,rfl⟩:∃v0 v1 v2 v3,vs=[v0,v1,v2,v3]:=by
    rcases vs with _|⟨v0,_|⟨v1,_|⟨v2,_|⟨v3,_|⟨v4,bs⟩⟩⟩⟩⟩<;>simp at bd;grind
   obtain⟨D,bm,o0⟩:=m.row (j:=0) rfl;obtain⟨E,bn,o1⟩:=m.row (j:=1) rfl;obtain⟨K,bo,o2⟩:=m.row (j:=2) rfl;obtain⟨N,bp,o3⟩:=m.row (j:=3) rfl;obtain⟨x0,O,rfl⟩:=aC o0;obtain⟨x1,P,rfl⟩:=aC o1;obtain⟨x2,V,rfl⟩:=aC o2;obtain⟨x3,W,rfl⟩:=aC o3;have hR:=(m.aj.block _ (ak av) id).trans av;have el:=m.ord;have r0:=cellAt m.box 0 rfl;have r1:=cellAt m.box 1 rfl;have r2:=cellAt m.box 2 rfl;have r3:=cellAt m.box 3 rfl;have r4:=cellAt m.box 4 rfl;have r5:=cellAt m.box 5 rfl;have r6:=cellAt m.box 6 rfl;have HA:=X m;have C:=X hR;have e5:¬((4:U)<4):=by omega
   have e6:(d:U)<(next:U):=by omega
   go_wp2_with fail
   rename_i QQ KK bb;refine eH (λf=>aW f (R c 0)=H (aG next)/\aW f (R c 1)=H (aG d)/\aW f (R c 2)=H (aG b)/\aW f (R c 3)=H (I x0 (y D) O)/\aW f (R c 4)=H (I x1 (y E) P)/\aW f (R c 5)=H (I x2 (y K) V)/\aW f (R c 6)=H (I x3 (y N) W)) 11 (by kernel_rfl) ?_;have o:wr.drew.heap[z<|G a]?=_:=J C;have v:=X<|HA.still<|dh aw wr;have hS:aW wr.drew (R c 0)=H (aG next)/\aW wr.drew (R c 1)=H (aG d)/\aW wr.drew (R c 2)=H (aG b)/\aW wr.drew (R c 3)=H (I x0 (y D) O)/\aW wr.drew (R c 4)=H (I x1 (y E) P)/\aW wr.drew (R c 5)=H (I x2 (y K) V)/\aW wr.drew (R c 6)=H (I x3 (y N) W):=by
    rw[bF,bF,bF,bF,bF,bF,bF];simp_all
   have A:=yY v.rd (by simp);simp only[ri,nX,vA]at A;generalize wr.drew=bl at*;refine fw 0 ?_;iterate 2 (refine iS (v:=?_) hS rfl (by kernel_rfl) lQ rfl ?_ ?_;rotate_left;(focus(rintro f⟨z0,z1,z2,z3,z4,z5,z6⟩;go_simp;try rfl));simp only[Act.put,ig,rA,Nat.reduceAdd])
   apply iG;refine bG (i:=2) rfl rfl (by kernel_rfl) ?_;intro K2 aF;go_simp;apply A.mono;rintro x w'⟨rfl,bt⟩;subst w';refine aF _ _ (λ_=>hS) ?_;refine fw 3 ?_;iterate 7 (refine iS (v:=?_) hS rfl (by kernel_rfl) lQ rfl ?_ ?_;rotate_left;(focus(rintro f⟨z0,z1,z2,z3,z4,z5,z6⟩;go_simp;try rfl));simp only[Act.put,ig,rA,Nat.reduceAdd])
   apply iG;refine bG (i:=10) rfl rfl (by kernel_rfl) ?_;intro gx ac;have bq:∀j,bl.frozen? (R (z<|G a) j)=bw:=λj=>by simp[World.frozen?,o]
   have t0:=cellAt o 0 rfl;have t1:=cellAt o 1 rfl;have t2:=cellAt o 2 rfl;have t3:=cellAt o 3 rfl;have t4:=cellAt o 4 rfl;have t5:=cellAt o 5 rfl;have t6:=cellAt o 6 rfl;have C:=X o;go_simp;have ap:=aJ (i:=6) (u:=I x3 (y N) W)<|aJ (i:=5) (u:=I x2 (y K) V)<|aJ (i:=4) (u:=I x1 (y E) P)<|aJ (i:=3) (u:=I x0 (y D) O)<|aJ (i:=2) (u:=aG b)<|aJ (i:=1) (u:=aG d)<|aJ (i:=0) (u:=aG next) C;have u:=(((((((Z.refl (λl=>l=z (G a)) bl).setCell (z<|G a) 0 (aG next)<|.inl rfl).setCell (z<|G a) 1 (aG d)<|.inl rfl).setCell (z<|G a) 2 (aG b)<|.inl rfl).setCell (z<|G a) 3 (I x0 (y D) O)<|.inl rfl).setCell (z<|G a) 4 (I x1 (y E) P)<|.inl rfl).setCell (z<|G a) 5 (I x2 (y K) V)<|.inl rfl).setCell (z<|G a) 6 (I x3 (y N) W)<|.inl rfl;generalize(cH (cH (cH (cH (cH (cH (cH bl (R (z<|G a) 0)<|aG next) (R (z<|G a) 1)<|aG d) (R (z<|G a) 2)<|aG b) (R (z<|G a) 3)<|I x0 (y D) O) (R (z<|G a) 4)<|I x1 (y E) P) (R (z<|G a) 5)<|I x2 (y K) V) (R (z<|G a) 6)<|I x3 (y N) W)=W9 at*;have p:c≠z (G a):=by
    have h1:z (G<|dd a<|ay #[aG 0,aG 0,aG 0,az,az,az,az] 110)=z (G a)+1:=by simp
    omega
   have k:=ak v.box;refine ac _ _ (λ_=>⟨u.cell hS.1 p k,u.cell hS.2.1 p k,u.cell hS.2.2.1 p k,u.cell hS.2.2.2.1 p k,u.cell hS.2.2.2.2.1 p k,u.cell hS.2.2.2.2.2.1 p k,u.cell hS.2.2.2.2.2.2 p k⟩) ?_;refine bG (i:=11) rfl rfl (by kernel_rfl) ?_;intro bg an;obtain⟨L,al,bf⟩:=dF ap u p;go_simp;refine an _ _ IY ?_;refine fm (by kernel_rfl) ?_ _;show KK _ _;apply bb;go_wp2;refine cy (rq rfl _ _ (z<|G a) next d b _ _ _ _ _ _ rfl L ⟨_,_,_,rfl⟩ ⟨_,_,_,rfl⟩ ⟨_,_,_,rfl⟩ ⟨_,_,_,rfl⟩) rfl ?_;refine⟨x0,y D,O,x1,y E,P,x2,y K,V,x3,y N,W,rfl,?_,?_⟩
   .intro cu au hI B hD;have bs:=v.rows cu au hI B hD;refine gl (al.own bs<|λq hq x=>?_) ?_
    .have:=v.own B hq;have h1:z (G<|dd a<|ay #[aG 0,aG 0,aG 0,az,az,az,az] 110)=z (G a)+1:=by simp
     have:q=z (G a):=x;omega
    .omega
   .exact(((cO aw a).cz v.aj).trans al<|by simp)
def EY(a:M)(b:cP):ab->Prop:=λx=>x=am dE\/x=am (dj a)\/∃t∈b,x=am (fG t.num)
def pV{P:Program}{r:Oper}{f:Act}{K:Act->Y->Prop}{Q:Exit->Act->Y->Prop}(h x i:Operand)(v:TypeId)(e:r.op=Op.insert v h x i)(u w:TypeId)(o:P.underlying v=H (.map u w))(k:TypeDesc)(m:P.underlying u=H k)(j:M)(g:ab->Prop)(n:f.eval h=.map (H j))(A:lD a j k g)(b:ab)(d:MapKept.IsKey k b)(q:f.eval x=b)(p:f.eval i=dL #[])(l:∀w',lD w' j k (λx=>g x\/x=b)->a.grownBy w' (H j)->K (f.put r.dst iM) w'):Oper.wp P r f a K Q:=by
 obtain⟨w',c,s,t,_⟩:=Au o m A b d;unfold Oper.wp;simp[execOp,e,n,q,p,c,Result.andThen];exact l w' s t
def nL(a:M)(b:cP)(x:ae):Bool:=decide (x=dE)||decide (x=dj a)||b.any (λt=>decide<|x=fG t.num)
def LR(a:M)(b:cP)(x:ae):nL a b x=cf↔EY a b (am x):=by
 unfold nL EY;simp[or_assoc]
def lP(a:M)(c:cP)(b:ci ae):ci ae:=b.filter<|λx=>!nL a c x
def Qm{log:M}{ts:cP}{a:ci ae}(h:b<y a):lP log ts (a.take<|b+1)=lP log ts (a.take b)++(if nL log ts a[b]then []else [a[b]]):=by
 unfold lP;rw[ah h,li];cases hc:nL log ts a[b]<;>simp[hc]
def Cm.own(h:Cm r)(d:Pow a):cY bA 94 #[am r] a λe w'=>e=aN (aM cf)/\Z aw a w':=by
 rcases h with rfl|⟨m,c,rfl|rfl⟩;exact D8 a;exact Wg<|FU c d;exact Wg<|FX c d
def Hv(ce ch an cj:cP)(h:cW a b W k)(hl:Ey a b 10 [(W.l0,ce),(W.l1,ch),(W.l2,an),(W.l3,cj)])(hT:∀ex∈ce++ch++an++cj,Sk a ex)(hp:Pow a)(cN:W.log<18446744073709551616)(dc:y (ce++ch++an++cj)<=10000000)(cB:bY a W.aH g)(cE:y g.files<=100000000)(hn:∀N∈g.files.map aX.name,N=dE\/Cm N):cY bA 47 #[aD b] a λL w'=>∃v',L=aN v'/\∃e,List.Perm e (g.files.map aX.name)/\w'.ownsRow (z<|G a) 9 1 v' (y<|lP W.log (ce++ch++an++cj) e) (strs<|lP W.log (ce++ch++an++cj) e)/\Z aw a w':=by
 obtain⟨i0,cM,dv,dx,dT⟩:=dl AC;obtain⟨u0,dk,ds,eq,er⟩:=dl Gu;have em:=@rW bA;have eb:∀(N:Bool)(a:Y),(Op.unary .not<|aM N).run bA a=.ok (aM<|!N) a:=λ_ _=>rfl;have br:∀p,Z aw a p->cY bA 40 #[aG W.log] p λL w'=>L=aN (am<|dj W.log)/\Below (z<|G p) p w':=λp C=>zv W.log cN<|hp.aj C id;have au:∀p,Z aw a p->cY bA 92 #[dC<|H<|R b 10] p λL w'=>∃v',L=aN v'/\w'.ownsRow (z<|G p) 179 1 v' (y<|ce++ch++an++cj) ((ce++ch++an++cj).map bB.ptr)/\Z aw p w':=λp C=>by have f:Ey p b 10 [(W.l0,ce),(W.l1,ch),(W.l2,an),(W.l3,cj)]:=⟨hl.len,λw K=>C.cell (hl.cell w K) id hl.lt,λw K=>C.row (hl.row w K)<|λq a=>⟨id,hl.jM w K q a⟩,λw K q a=>ai (hl.jM w K q a) C.size,hl.small⟩;have:=th _ f;rw[RJ,SC]at this;exact this
 have cS:∀p,Z aw a p->cY bA 39 #[aD W.aH] p λL w'=>∃v' e,L=aN v'/\List.Perm e (g.files.map aX.name)/\w'.ownsRow (z<|G p) 9 1 v' (y e) (strs e)/\Z aw p w':=λp C=>Gn (db:=W.aH) (K:=g) (w:=p) (cB.aj C<|λ_ _=>id) cE;have bL:=ak h;have c2:=cW.cellAt h 2 rfl;have cs:=cW.cellAt h 17 rfl;obtain⟨T,cx⟩:∃T,ce++ch++an++cj=T:=⟨_,rfl⟩;rw[cx]at hT au dc|-;obtain⟨HH,bb,HP,HN,A,bi,cl⟩:=zX h hT hp hn br au cS;generalize W.log=c at*;generalize W.aH=ea at*;go_in
 go_wp2_with fail
 rename_i QQ KK cw;refine eH (λB=>aW B (R b 17)=H (aG c)) 11 (by kernel_rfl) ?_;have bp:∀p,Z aw a p->aW p (R b 17)=H (aG c):=λp C=>C.cell cs id bL;have ca:Z aw a a.drew:=dh _ a;have ax:=bp _ ca;have eo:z (G a.drew)=z (G a):=rfl;have l:=X bp;have bk:=X ca;refine lN (i:=1) (v:=?_) rfl rfl (by kernel_rfl) (by kernel_rfl) (by kernel_rfl) (by kernel_rfl) (λ_ _ _ h=>h) (Or.inl ⟨by rfl,?_⟩) ax ?_;rotate_left;(.rintro B z0;go_simp;try with_reducible rfl);simp only[Act.put,ig,rA];refine fw 3 ?_;iterate 4 (refine iS (v:=?_) ax rfl (by kernel_rfl) lQ rfl ?_ ?_;rotate_left;(focus(rintro B z0;go_simp;try rfl));simp only[Act.put,ig,rA,Nat.reduceAdd])
 apply iG;refine lN (i:=8) (v:=?_) rfl rfl (by kernel_rfl) (by kernel_rfl) (by kernel_rfl) (by kernel_rfl) (λ_ _ _ h=>h) (Or.inl ⟨by rfl,?_⟩) ax ?_;rotate_left;(.rintro B z0;go_simp;try with_reducible rfl);simp only[Act.put,ig,rA];refine uQ (α:=M) (λm p=>Z aw a p/\z (G a)<=m/\lD p m .string (λN=>N=am ⟨#[115,116,97,116,101]⟩\/N=am (dj c))) (λm=>{tmps:=#[aD b,iM,az,iM,iM,iM,iM,iM,iM,iM,iM,.map<|H m,dL #[],aD b,aD b,dC<|H<|R b 17,aG c,am<|dj c,dL #[],iM,iM,iM,iM,iM,iM,iM,iM,iM,iM,iM,iM,iM,iM,iM,iM,iM,iM,iM,iM,iM,iM,iM,iM,iM,iM,iM,iM,iM,iM,iM,iM,iM,iM,iM,iM,iM,iM,iM,iM,iM,iM,iM],defers:=[]}) #[true,true,true,true,true,true,true,true,true,true,false,false] 2 ?_ ?_;(.intro P;refine uQ (α:=M) (λm p=>Z aw a p/\z (G a)<=m/\lD p m .string aw) (λm=>{tmps:=#[aD b,iM,az,iM,iM,iM,iM,iM,iM,iM,iM,.map<|H m,dL #[],aD b,aD b,dC<|H<|R b 17,aG c,am<|dj c,dL #[],iM,iM,iM,iM,iM,iM,iM,iM,iM,iM,iM,iM,iM,iM,iM,iM,iM,iM,iM,iM,iM,iM,iM,iM,iM,iM,iM,iM,iM,iM,iM,iM,iM,iM,iM,iM,iM,iM,iM,iM,iM,iM,iM],defers:=[]}) #[cf,cf,bw,cf,cf,cf,cf,cf,cf,bw,bw,bw] 4 ?_ ?_;(.intro E;refine ue (i:=0) (j:=7) rfl rfl rfl rfl (by kernel_rfl) ?_ ?_;(.intro g O;go_simp;have u:=(lD.new a .string).dG (w':=(dd a<|.map #[] 0).drew) rfl;have D:Z aw a (dd a<|.map #[] 0).drew:=(cO aw a).of_heap rfl;refine O _ _ (λ_=>l _ D) ?_;generalize(dd a<|.map #[] 0).drew=W1 at*;refine ue (i:=2) (j:=7) rfl rfl rfl rfl (by kernel_rfl) ?_ ?_;(.intro K2 o;(try simp only[da,cD,cG]);refine pV (.tmp 11) (.const<|am ⟨#[115,116,97,116,101]⟩) (.tmp 12) 198 rfl 9 65 underlying198 .string underlying9 (z<|G a) _ rfl u (am ⟨#[115,116,97,116,101]⟩) trivial rfl rfl ?_;intro w5 n s;have f:Z aw a w5:=D.trans (fo s) (by simp);refine o _ _ (λ_=>l _ f) ?_;refine bG (i:=7) rfl rfl (by kernel_rfl) ?_;intro K3 ad;go_simp;apply(A _ f).mono;rintro L x⟨rfl,t⟩;have i:Z aw a x:=f.cz<|Z.aQ (S:=aw) t;have Q:=n.dG<|t.block _ n.lt;refine ad _ _ (λ_=>l _ i) ?_;refine bG (i:=9) rfl rfl (by kernel_rfl) ?_;intro K4 al;(try simp only[da,cD,cG]);refine pV (.tmp 11) (.tmp 17) (.tmp 18) 198 rfl 9 65 underlying198 .string underlying9 (z<|G a) _ rfl Q (am<|dj c) trivial rfl rfl ?_;intro w7 ao V;have aa:Z aw a w7:=i.trans (fo V) (by simp);refine al _ _ (λ_=>l _ aa) ?_;exact jZ (P (z<|G a) _<|by grind)<|by kernel_rfl);intro K2 o;go_simp;apply(A _ D).mono;rintro L x⟨rfl,t⟩;have i:Z aw a x:=D.cz<|Z.aQ (S:=aw) t;have Q:=u.dG<|t.block _ u.lt;refine o _ _ (λ_=>l _ i) ?_;exact jZ (E (z<|G a) _ ⟨i,ag _,Q⟩)<|by kernel_rfl);intro g O;go_simp;apply(A _ bk).mono;rintro L x⟨rfl,t⟩;have i:Z aw a x:=bk.cz<|Z.aQ (S:=aw) t;refine O _ _ (λ_=>l _ i) ?_;refine bG (i:=0) rfl rfl (by kernel_rfl) ?_;intro K2 o;go_simp;have u:=i.alloc<|.map #[] 0;refine o _ _ (λ_=>l _ u) ?_;exact jZ (E (z<|G x) _ ⟨u,i.size,lD.new x .string⟩)<|by kernel_rfl);rintro m p⟨F,bs,d⟩;refine ue (i:=2) (j:=9) rfl rfl rfl rfl (by kernel_rfl) ?_ ?_;intro g O;(try simp only[da,cD,cG]);refine pV (.tmp 11) (.const<|am ⟨#[115,116,97,116,101]⟩) (.tmp 12) 198 rfl 9 65 underlying198 .string underlying9 m _ rfl d (am ⟨#[115,116,97,116,101]⟩) trivial rfl rfl ?_;intro w5 n s;have f:Z aw a w5:=F.trans (fo s) (by grind);refine O _ _ (λ_=>l _ f) ?_;refine bG (i:=9) rfl rfl (by kernel_rfl) ?_;intro K2 o;(try simp only[da,cD,cG]);refine pV (.tmp 11) (.tmp 17) (.tmp 18) 198 rfl 9 65 underlying198 .string underlying9 m _ rfl n (am<|dj c) trivial rfl rfl ?_;intro x D u;have t:Z aw a x:=f.trans (fo u) (by grind);refine o _ _ (λ_=>l _ t) ?_;exact jZ (P m _<|by grind) (by kernel_rfl);intro g O;(try simp only[da,cD,cG]);refine pV (.tmp 11) (.tmp 17) (.tmp 18) 198 rfl 9 65 underlying198 .string underlying9 m _ rfl d (am<|dj c) trivial rfl rfl ?_;intro w5 n s;have f:Z aw a w5:=F.trans (fo s) (by grind);refine O _ _ (λ_=>l _ f) ?_;refine bG (i:=2) rfl rfl (by kernel_rfl) ?_;intro K2 o;(try simp only[da,cD,cG]);refine pV (.tmp 11) (.const<|am ⟨#[115,116,97,116,101]⟩) (.tmp 12) 198 rfl 9 65 underlying198 .string underlying9 m _ rfl n (am ⟨#[115,116,97,116,101]⟩) trivial rfl rfl ?_;intro x D u;have t:Z aw a x:=f.trans (fo u) (by grind);refine o _ _ (λ_=>l _ t) ?_;exact jZ (P m _ ⟨t,bs,D.congr<|λN=>by grind⟩)<|by kernel_rfl);rintro m p⟨F,bs,d⟩;refine lN (i:=10) (v:=?_) rfl rfl (by kernel_rfl) (by kernel_rfl) (by kernel_rfl) (by kernel_rfl) (λ_ _ _ h=>h) (Or.inl ⟨by rfl,?_⟩) (l _ F) ?_;rotate_left;(.rintro B z0;go_simp;try with_reducible rfl);simp only[Act.put,ig,rA];refine bG (i:=11) rfl rfl (by kernel_rfl) ?_;intro ed bo;go_simp;refine bo _ _ IY ?_;refine fm (by kernel_rfl) ?_ _;show KK _ _;apply cw;have bt:=d.lt;have r:=X d;have bh:=X F;go_wp2_with fail
 apply(bi p bh).mono;rintro L x⟨v6,rfl,bu,i⟩;obtain⟨x6,c6,dm⟩:=aC bu;subst dm;obtain⟨cp,cr,bf,cm⟩:=gw (r.dG<|i.block _ bt id) (bh.cz i) bu (by omega);have Q:=i.size;go_wp2_with fail
 go_loopw [25] (λw wr=>∃ac:M,ac<=y T/\w=aq ac/\lD wr m .string (EY c<|T.take ac)/\Z (λk=>k=m) x wr) (λw _=>y T-(intOf w).toNat)
 case atStart=>exact⟨0,bK _,rfl,cp.congr (λN=>by unfold EY dE;simp),Z.refl _ _⟩
 case round=>
  obtain⟨ac,hn,rfl,d,f⟩:=hrel;have aa:Z aw a wr:=cr.trans f (by grind);by_cases o:ac<y T
  .have D:=f.own bf (λk g an=>by have:=(bf.lt k g).1;have:=J cm;have:k=m:=an;omega);obtain⟨b6,av,bq⟩:∃b6,x6=H (R b6 0)/\aW wr (R b6 ac)=H T[ac].ptr:=by
    rcases D.2 with⟨h2,h0⟩|⟨ei,cu,cv,h2,_⟩
    .omega
    .cases h2;refine⟨ei,rfl,?_⟩;have:=pT D ac T[ac].ptr (by rw[fB,aR o];rfl);rwa[dJ,dM]at this
   subst av;have ao:=(bb T[ac]<|ar o).aj aa|>.name (HP.aj aa id);have V:=X (show∀N,EY c (T.take<|ac+1) N↔EY c (T.take ac) N\/N=am (fG T[ac].num)fromλN=>by
    unfold EY;rw[ah o];grind)
   have s:=d.lt;have r:=X d;have O:=X f;have e1:(ac:U)<(y T:U):=by omega
   unfold bB.ptr at bq;generalize fG T[ac].num=t at*;generalize T[ac].tb=aF at*;go_wp2_with fail
   apply ao.mono;rintro L w7⟨rfl,n⟩;have E:=X<|r.dG<|n.block m s;have ad:=X<|O.cz<|Z.aQ (S:=aw) n;go_wp2_with(at_mapUpdate;refine vC _ rfl _ _ _ 198 rfl 9 65 underlying198 .string underlying9 m _ rfl E (am t) trivial rfl rfl ?_;intro w8 ap al;have P:=X ap;have u:=X al)
   go_roundw;case rel=>exact⟨ac+1,o,by go_num,P.congr V,ad.trans (fo u)<|λ_ an=>.inl an⟩
   case measure=>simp[intOf];omega
  .have P:ac=y T:=by omega
   rw[P,aY]at d;have e1:¬(ac:U)<(y T:U):=by omega
   have s:=d.lt;have eg:aW wr (R b 2)=H (aD ea):=aa.cell c2 id bL;have r:=X d;have av:=X aa;go_wp2_with fail
   apply(cl wr av).mono;rintro L w9⟨v9,e,rfl,aF,bv,V⟩;obtain⟨x9,c9,dn⟩:=aC bv;subst dn;have en:y e<=100000000:=by have:=aF.length_eq;grind
   obtain⟨cq,cn,bg⟩:=dF (r.dG<|V.block m s id) bv<|av.cz V;have ck:=X (show∀N∈e,nL c T N=bw->∀p,Z aw a p->cY bA 94 #[am N] p λL w'=>L=aN (aM cf)/\Z aw p w' fromλN E n p C=>by
    rcases HN N (aF.mem_iff.1 E)with L|L
    .rw[L]at n;simp[nL]at n
    .exact L.own (HP.aj C id))
   have co:=X aF;have cT:=ai s V.size;have es:=aB av.size V.size;go_wp2_with fail
   go_loopw [6,40] (λo w b=>∃u:M,u<=y e/\w=aq u/\b.ownsRow (z<|G a) 9 1 o (y<|lP c T<|e.take u) (strs<|lP c T<|e.take u)/\eJ w9 b az o) (λ_ w _=>y e-(intOf w).toNat)
   case atStart=>exact⟨0,bK _,rfl,cK _ _ _ _,eJ.refl _ _⟩
   case round=>
    obtain⟨u,hm,rfl,ho,aU⟩:=hrel;obtain⟨ox,oc,bx⟩:=aC ho;have f:Z aw w9 wr:=Z.ep aU.grown (λk g=>by cases g);by_cases n:u<y e
    .have D:=f.own cn<|λ_ _ an=>an;obtain⟨b9,dr,bq⟩:∃b9,x9=H (R b9 0)/\aW wr (R b9 u)=H (am e[u]):=by
      rcases D.2 with⟨h2,h0⟩|⟨ei,cu,cv,h2,_⟩
      .omega
      .cases h2;refine⟨ei,rfl,?_⟩;have:=pT D u (am e[u]) (by simp[strs,n]);rwa[dJ,dM]at this
     subst dr;have df:=cq.dG<|f.block m cT id;obtain⟨ec,hr⟩:∃ec,nL c T e[u]=ec:=⟨_,rfl⟩;have bn:=Qm (log:=c) (ts:=T) n;rw[hr]at bn;have el:=CS underlying198 underlying9 dk ds df (am e[u]) trivial ec (by rw[<-hr];exact LR c T e[u]);have ek:y (lP c T<|e.take u)<=20000000+100000000:=by
      have h1:y (lP c T<|e.take u)<=y (e.take u):=eW _ _;rw[dp]at h1;omega
     have bE:=ck e[u]<|ar n;have e2:(u:U)<(y e:U):=by omega
     have cb:=bg.cz f;have et:=f.size;obtain⟨HO,bm,al,ba,O⟩:=iY ho aU cb bn f;generalize ej:lP c T (e.take u)=Lm at*;generalize e[u]=t at*;subst bx;cases ec with
     |true=>
      go_wp2;go_roundw;case rel=>
       refine⟨u+1,n,by go_num,?_,?_⟩
       .rw[J ba];simp only[nH,dz];exact aT HO _
       .have E:=(Z.refl aw wr).alloc<|ay #[] 65;exact bm.trans ⟨⟨E.os,E.tape,E.output,E.size,λw K _=>E.block w K id⟩,.inl rfl⟩
      case measure=>simp[intOf];omega
     |false=>
      have db:=bE hr (dd wr<|ay #[] 65)<|al.alloc _;go_wp2_with fail
      apply db.mono;rintro L aV⟨rfl,bT⟩;have ap:Z aw wr aV:=((Z.refl aw wr).alloc<|ay #[] 65).cz bT;have bc:=X<|ap.own HO<|λ_ _ an=>an;have ad:=X ap;go_wp2_with(at_builtin;refine cC _ rfl (.tmp 56) (.tmp 58) 115 rfl (z<|G a) 9 i0 (am ⟨#[]⟩) 1 16 underlying115 cM dv dx dT rfl (by decide) (I ox (y Lm) oc) (y Lm) (strs Lm) rfl (aT bc<|ay #[am t] 9) (R (z<|G aV) 0) 1 1 [am t] rfl rfl (pM _ _ _) (by simp[Value.oneCell']) (by omega) (by omega) (by have:=al.size;have:=ad.size;simp;omega) ?_;intro eu ev ao cd;obtain⟨ew,ef,cc⟩:=aC ao;subst cc;have bd:=X ao;have bl:=X cd)
      go_roundw;case rel=>
       refine⟨u+1,n,by go_num,?_,?_⟩
       .rw[J ba];simp only[tZ,rX];rw[CN,af];exact bd
       .have E:=J ad;have h1:eJ wr aV (I ox (y Lm) oc) (I ox (y Lm) oc):=⟨⟨E.os,E.tape,E.output,E.size,λw K _=>E.block w K id⟩,.inl rfl⟩;exact bm.trans<|h1.trans<|eJ.alloc _ bl
      case measure=>simp[intOf];omega
    .have P:u=y e:=by omega
     rw[P,aY]at ho;have e2:¬(u:U)<(y e:U):=by omega
     obtain⟨oy,od,E⟩:=aC ho;have HO:=X ho;have O:=X<|bg.cz f;clear ho aU f P bx;subst E;go_wp2;go_ret;exact⟨_,rfl,e,co,HO,O⟩
def X7:ab:=dL #[aG 0,aG 0,aG 0,az,az,az,az]
def LdP(w d:Y)(c:M)(K:DK)(a:ab)(e:Ending):Prop:=∃b,qQ w d c K b/\qc K b/\(∀k,b.aL c k->K.aL c k)/\(e=aN (dA #[a,.nilIface])\/0<K.fx.bd/\∃q,e=aN (dA #[X7,fj q])/\sF d q 8)
def TO(h:bY a b g)(hn:y g.files<=100000000)(hp:Pow a)(T:¬g.aL b 2)(N:∀av,Pow av->∀ax∈g.files.map aX.name,ZW av ax)(hm:cX (vw g.files) dE=none):cY bA 37 #[aD b] a λt w'=>LdP a w' b g Q3 t:=by
 obtain⟨B,o⟩:∃B,dd a (ay #[aG 0,aG 0,aG 0,az,az,az,az] 110)=B:=⟨_,rfl⟩;have s:Z aw a B:=by rw[<-o];exact(cO aw a)
 have O:B.heap[z<|G a]?=H (ay #[aG 0,aG 0,aG 0,az,az,az,az] 110 (0,0)):=by rw[<-o];exact aK _ rfl
 have S:¬g.aL b (z<|G a):=λau=>by have:=h.lt _ au;omega
 have W:=IN (db:=b) (K:=g) dE (w:=B) (h.aj s<|λ_ _=>id) hm Gb;have P:qQ a B b g g:=(qQ.refl h).still s;have HX:=X (show∀e m,qQ B e b g m->qc g m->cY bA 76 #[aD b] e λt w'=>t=aN (dA #[Q3,.nilIface])/\Z aw e w' fromλe m hd hs=>by have D:Pow e:=(hp.aj s id).aj hd.aj T;exact Ps (db:=b) (K:=m) hd.ok (by rw[hs.1];exact hn) D (by rw[hs.1];grind));unfold dE at W;unfold Q3 at HX;have K:=X O;have al:=X o;have L:=X P;have x:=X S;clear h hp N hm s O o T S P;go_in
 go_wp2_with fail
 rw[J al];apply W.mono;rintro t e⟨m,q,au,r,F,Q,rfl,u,hc⟩;have p:=(r.aj.block _ (ak K) x).trans K;have V:aW e (R q 1)=H (aq au):=by obtain⟨v,u,_⟩:=u;exact cellAt u 1 rfl
 rcases hc with rfl|⟨rfl,an⟩;(.have C:=RU q 10 e V;have ao:=HX e m r F;have ac:=X<|L.trans r;have A:=X F;have k:=X Q;have j:=X p;(go_wp2_with fail);apply C.mono;rintro t w1⟨rfl,hw⟩;subst w1;(go_wp2_with fail);apply ao.mono;rintro t w3⟨rfl,aa⟩;have D:=(aa.block _ (ak j) id).trans j;(have fz:∀i,w3.frozen? (R (z<|G a) i)=bw:=λi=>by simp[World.frozen?,D]);(have c:∀i,i<7->∃w,aW w3 (R (z<|G a) i)=H w:=λi hi=>by rw[ct D];simp_all);obtain⟨u0,z0⟩:=c 0 (by omega);obtain⟨u1,z1⟩:=c 1 (by omega);obtain⟨u2,z2⟩:=c 2 (by omega);obtain⟨u3,z3⟩:=c 3 (by omega);obtain⟨u4,z4⟩:=c 4 (by omega);obtain⟨u5,z5⟩:=c 5 (by omega);obtain⟨u6,z6⟩:=c 6 (by omega);have d:=X<|J ac|>.still aa;have ad:=X D;go_wp2;have l:=aJ (i:=6) (u:=az)<|aJ (i:=5) (u:=az)<|aJ (i:=4) (u:=az)<|aJ (i:=3) (u:=az)<|aJ (i:=2) (u:=aG 0)<|aJ (i:=1) (u:=aG 1)<|aJ (i:=0) (u:=aG 2) ad;refine cy (rq rfl _ _ (z<|G a) 2 1 0 _ _ _ _ _ _ rfl l ⟨_,_,_,rfl⟩ ⟨_,_,_,rfl⟩ ⟨_,_,_,rfl⟩ ⟨_,_,_,rfl⟩) rfl ?_;have ap:=d.aj.size;have f:Z (λn=>n=z (G a)) w3 _:=((((((((Z.refl (λn=>n=z (G a)) w3).setCell (z<|G a) 0 (aG 2)<|.inl rfl).setCell (z<|G a) 1 (aG 1)<|.inl rfl).setCell (z<|G a) 2 (aG 0)<|.inl rfl).setCell (z<|G a) 3 az<|.inl rfl).setCell (z<|G a) 4 az<|.inl rfl).setCell (z<|G a) 5 az<|.inl rfl).setCell (z<|G a) 6 az<|.inl rfl);have E:∀n,m.aL b n->n≠z (G a):=λn q t=>x<|t▸k n q;exact⟨m,⟨d.ok.aj f<|λn q t=>E n q t,d.aj.trans f (by simp),d.aL,d.fx⟩,A,k,.inl rfl⟩);have C:=BO q 8 10 (by decide) e V;have HQ:=X u;have HP:=X<|And.intro (L.trans r) (And.intro F Q);have j:=X p;(have fz:∀i,e.frozen? (R (z<|G a) i)=bw:=λi=>by simp[World.frozen?,p]);(have c:∀i,i<7->∃w,aW e (R (z<|G a) i)=H w:=λi hi=>by rw[ct p];simp_all);obtain⟨u0,z0⟩:=c 0 (by omega);obtain⟨u1,z1⟩:=c 1 (by omega);obtain⟨u2,z2⟩:=c 2 (by omega);obtain⟨u3,z3⟩:=c 3 (by omega);obtain⟨u4,z4⟩:=c 4 (by omega);obtain⟨u5,z5⟩:=c 5 (by omega);obtain⟨u6,z6⟩:=c 6 (by omega);have D:=X an;(go_wp2_with fail);apply C.mono;rintro t w1⟨rfl,hw⟩;subst w1;go_wp2;have l:=aJ (i:=6) (u:=az)<|aJ (i:=5) (u:=az)<|aJ (i:=4) (u:=az)<|aJ (i:=3) (u:=az)<|aJ (i:=2) (u:=aG 0)<|aJ (i:=1) (u:=aG 0)<|aJ (i:=0) (u:=aG 0) j;refine cy (rq rfl _ _ (z<|G a) 0 0 0 _ _ _ _ _ _ rfl l ⟨_,_,_,rfl⟩ ⟨_,_,_,rfl⟩ ⟨_,_,_,rfl⟩ ⟨_,_,_,rfl⟩) rfl ?_;obtain⟨d,A,k⟩:=J HP;have ap:=d.aj.size;have f:Z (λn=>n=z (G a)) e _:=((((((((Z.refl (λn=>n=z (G a)) e).setCell (z<|G a) 0 (aG 0)<|.inl rfl).setCell (z<|G a) 1 (aG 0)<|.inl rfl).setCell (z<|G a) 2 (aG 0)<|.inl rfl).setCell (z<|G a) 3 az<|.inl rfl).setCell (z<|G a) 4 az<|.inl rfl).setCell (z<|G a) 5 az<|.inl rfl).setCell (z<|G a) 6 az<|.inl rfl);have E:∀n,m.aL b n->n≠z (G a):=λn q t=>x<|t▸k n q;refine⟨m,⟨d.ok.aj f<|λn q t=>E n q t,d.aj.trans f (by simp),d.aL,d.fx⟩,A,k,.inr ⟨D,q,rfl,?_⟩⟩;obtain⟨v,u,aa⟩:=J HQ;refine⟨v,(f.block q (ak u)<|λt=>?_).trans u,aa⟩;have:=J j;rw[<-t,u]at this;grind
def I4(w c:Y)(b:M)(s:SR)(K:DK)(T:cP)(e:Ending):Prop:=∃a,List.Perm a (K.files.map aX.name)/\ye w c s.aH K ((lP s.log T a).map .rm) e
def XV(n o h p:cP)(S:cW a b W k)(hl:Ey a b 10 [(W.l0,n),(W.l1,o),(W.l2,h),(W.l3,p)])(hT:∀aa∈n++o++h++p,Sk a aa)(hp:Pow a)(L:W.log<18446744073709551616)(Q:y (n++o++h++p)<=10000000)(e:bY a W.aH g)(w:¬g.aL W.aH b)(O:y g.eP+y g.files<=1000000000000)(K:y g.files<=100000000)(P:∀V∈g.files.map aX.name,V=dE\/Cm V):∀D s c,Z aw a D->List.Perm c (g.files.map aX.name)->D.ownsRow (z<|G a) 9 1 s (y<|lP W.log (n++o++h++p) c) (strs<|lP W.log (n++o++h++p) c)->cY bA 46 #[aD b,s] D λm C=>∃B,m=aN B/\I4 a C b W g (n++o++h++p) (aN B):=by
 intro D s c r f u;have d:(lP W.log (n++o++h++p) c).Sublist c:=eY;have l:(vw g.files).map (·.1)=g.files.map aX.name:=by unfold vw;rw[ee];rfl
 have t:c.Nodup:=f.nodup_iff.2 (by rw[<-l];exact e.nodup);have i:∀x∈lP W.log (n++o++h++p) c,x∈g.files.map aX.name:=(by grind);have N:=d.length_le;have v:=f.length_eq;rw[bU]at v
 apply(FH (K:=g) s (lP W.log (n++o++h++p) c) ((r.block b (ak S) id).trans S) (e.aj r<|λ_ _=>id) w (dR u) (λj q=>⟨(u.lt j q).2,λF=>by have:=e.lt j F;have:=(u.lt j q).1;omega⟩) (t.sublist d) (λx q=>su (by rw[l];exact i x q)) (by omega) (λx q=>by
  rcases P x (i x q)with m|m|⟨ac,A,m|m⟩
  .rw[m];exact Gb
  .rw[m];exact Qa
  .rw[m];exact Ga A
  .rw[m];exact Aw A)).mono
 rintro m C⟨B,E,rfl,j⟩;exact⟨B,rfl,c,f,B,E,rfl,⟨j.pa.ok,(r.mono (T:=g.aL W.aH) cJ).trans j.pa.aj<|λ_ q=>.inl q,λq h=>(j.pa.aL q h).imp id<|λF=>aB r.size F,j.pa.fx⟩,j.wG⟩
def UU(s t u v:cP)(h:cW a b W k)(x:Ey a b 10 [(W.l0,s),(W.l1,t),(W.l2,u),(W.l3,v)])(w:∀V∈s++t++u++v,Sk a V)(B:Pow a)(e:W.log<18446744073709551616)(i:y (s++t++u++v)<=10000000)(c:bY a W.aH g)(o:¬g.aL W.aH b)(l:y g.eP+y g.files<=1000000000000)(d:y g.files<=100000000)(A:∀S∈g.files.map aX.name,S=dE\/Cm S):cY bA 18 #[aD b] a λL P=>I4 a P b W g (s++t++u++v) L:=by
 have j:=Hv s t u v h x w B e i c d A;have n:=XV s t u v h x w B e i c o l d A;have r:=X n;have q:=X j;clear n h x w B c A l d i e o j;generalize s++t++u++v=T at*;go_in
 go_wp2_with fail
 apply q.mono;rintro L Q⟨N,rfl,F,m,f,p⟩;have D:=r Q N F p m f;obtain⟨x1,c1,C⟩:=aC f;subst C;clear m f p;generalize lP W.log T F=aa at*;go_wp2_with fail
 apply D.mono;rintro L w2⟨O,rfl,E⟩;have K:=X E;clear E D;go_wp2;go_ret;show I4 _ _ _ _ _ _ (aN O);exact J K
section
open Conc.Locks
theorem Ll{a:oR}(h:mX a=0):(∀x∈a,1<=x.key.size/\x.key.size<=8)/\∀x∈a,x.del=bw->x.val.size<=16:=by
 induction a with
 |nil=>simp
 |cons c r b=>
  unfold mX at h;grind
def vg{a:oR}(h:fZ a=0):y a<=8/\(∀x∈a,1<=x.key.size/\x.key.size<=8)/\∀x∈a,x.del=bw->x.val.size<=16:=by
 unfold fZ at h;grind[Ll]
def Jq(h:cW a b W k):cY bA 34 #[aD b,.nilIface] a λf c=>f=aN .nilIface/\Below (z<|G<|cH a (R b 6) .nilIface) (cH a (R b 6) .nilIface) c:=by
 have g:=cW.cellAt h 6 rfl;have i:a.frozen? (R b 6)=bw:=h.free;have e:=Jj<|cH a (R b 6) .nilIface;go_in
 go_wp2_with fail
 apply e.mono;rintro f c⟨rfl,d⟩;have HB:=X d;go_wp2;go_ret;exact⟨rfl,HB⟩
def ly(a:oR):M:=if fZ a=0 then y a else 0
def xN(n:M)(a:oR):M:=if fZ a=0 then nk n (a.map<|kV<|(n:U)+1)else n
def wh(c:gL)(m:cU)(a:dX)(n:U)(b:oR)(t:U):ae->Option ae:=if fZ b=0 then eM t (gh c m (b.map<|kV n)::a)else eM t (m::a)
def JH.fin{w n d:Y}{sbqq:M}{s:SR}{K:DK}{C:gL}{B:U->ae->Option ae}{K':DK}(h:JH w n sbqq s 1 K b i C l B W K' e j p u v F m)(o:Below (z<|G<|cH n (R sbqq 6) .nilIface) (cH n (R sbqq 6) .nilIface) d):aW d (R sbqq 0)=H (nE 1)/\d.frozen? (R sbqq 0)=bw/\JH w (cH d (R sbqq 0)<|nE 0) sbqq s 0 K b i C l B W K' e j p u v F m:=by
 have g:¬K'.aL s.aH sbqq:=by have:=h.inv.st.xM;rw[h.same.1]at this;exact this
 have A:=ak h.box;have r:cW (cH n (R sbqq 6) .nilIface) sbqq W 1:=(aJ h.box).trans rfl;have a:cW d sbqq W 1:=r.aj (Z.aQ (S:=aw) o) id;have f:=h.fa.set g 6 .nilIface;have t:=(f.trans<|uz (sbqq:=sbqq) f.ok o).set g 0<|nE 0;have k:=(fO.refl h.inv.st.aH (sbqq:=sbqq)).set h.inv.st.xM 6 .nilIface;have x:fO n (cH d (R sbqq 0)<|nE 0) W.aH sbqq K' K':=(k.trans<|uz (sbqq:=sbqq) k.ok o).set h.inv.st.xM 0<|nE 0;exact⟨a.cell rfl,a.free,a.qx 0,h.inv.fa A x rfl (ag _) rfl h.inv.loose,h.rl,t,h.same,h.DA,h.tid⟩
structure I3(w w':Y)(sb:M)(s:SR)(K K':DK)(v:ab):Prop where
 fa:fO w w' s.aH sb K K'
 ex:∃s' q0 q1 c,v=fj q1/\sF w' q1 c/\EI w' sb s' 0 q0/\sF w' q0 c/\s'.closed=bw/\s'.aH=s.aH/\Sm K.fx c
def Vf.fin{w w3 w4:Y}{sbqq q q1:M}{s:SR}{K K':DK}{c:U}(l:¬K.aL s.aH sbqq)(u:sbqq<z (G w))(j:s.closed=bw)(x:fO w w3 s.aH sbqq K K')(v:∃h,cW w3 sbqq h 1/\h.closed=s.closed/\h.aH=s.aH)(o:sF w3 q c)(t:Sm K.fx c)(n:Below (z<|G<|cH w3 (R sbqq 6)<|fj q) (cH w3 (R sbqq 6)<|fj q) w4)(m:sF w4 q1 c):aW w4 (R sbqq 0)=H (nE 1)/\w4.frozen? (R sbqq 0)=bw/\I3 w (cH w4 (R sbqq 0)<|nE 0) sbqq s K K' (fj q1):=by
 obtain⟨h,b,p,r⟩:=v;have f:¬K'.aL s.aH sbqq:=λg=>(x.aL sbqq g).elim l (λg=>by omega);have i:=b.fail q;have g:Z aw (cH w3 (R sbqq 6)<|fj q) w4:=Z.aQ n;have a:=i.aj g id;have d:=x.set f 6<|fj q;have k:=(d.trans<|uz (sbqq:=sbqq) d.ok n).set f 0<|nE 0;have e:sF w4 q c:=(o.aj (iT sbqq w3)<|o.yG (sbqq:=sbqq) b).aj g id;exact⟨a.cellAt 0 rfl,a.free,k,h,q,q1,c,rfl,m.aj (iT sbqq w4)<|m.yG (sbqq:=sbqq) a,a.qx 0,e.aj (iT sbqq w4)<|e.yG (sbqq:=sbqq) a,p.trans j,r,t⟩
def Y7(w e:Y)(b:M)(s:SR)(K:DK)(C N:M)(Q:RS->Prop)(d:RS)(f:Ending):Prop:=∃v c,f=aN v/\I3 w e b s K c v/\CP c s.mem s.kK C N (λa=>Q a\/a=d)
def V1(s:SR)(K:DK)(b:Bool)(c:oR)(Q:RS->Prop)(h:RS)(g:SR)(f:DK)(e:M)(d:dX)(i j k l:cP):Prop:=CQ f g i j k l e d (λa=>(fZ c=0->b=bw)/\Q a\/fZ c=0/\a=h)/\Z2 s K (ly c) g f
def ET(s:gL){k:oR}(o:Bool)(h:cW a b W 0)(S:Inv a b W g e j p u v c i l m s)(hT:GY W j p u){bv:RS->Prop}(V:CQ g W j p u v i m bv)(aV:W.closed=bw)(hc:∀bE,Z (λbx=>bx=b) a bE->Hh bE d k)(hz:∀bT∈k,bT.key.size<=140737488351232/\bT.val.size<=140737488351232)(hr:y k<=1000000000)(hC:c+ly k<=1000000)(hN:l+1<=100000000)(hE:∀bE,Z (λbx=>g.aL W.aH bx\/bx=b) a bE->oF bE)(bs:EH g.fx\/eV g.files<=999999000/\(W.eG:U)+(y k:U)<W.mem/\W.pj=bw):cY bA 14 #[aD b,d,aM o] a λB A=>(B=aN (xF<|fZ k)/\Vm a A b W 0 g (c+ly k) (l+1) s (xN W.aP k) (wh s e (bV j p u v) ((W.aP:U)+1) k) (V1 W g o k bv<|wh s e (bV j p u v) ((W.aP:U)+1) k<|xN W.aP k))\/(fZ k=0/\Y7 a A b W g (c+ly k) (l+1) bv (wh s e (bV j p u v) ((W.aP:U)+1) k<|xN W.aP k) B):=by
 have au:=ak h;have c0:=cW.cellAt h 0 rfl;have f0:a.frozen? (R b 0)=bw:=h.free;have F:=zw S.st.aH S.st.xM 1;have Q:=h.qx 1;have C:=S.fa au F rfl (ag _) rfl S.loose;have bb:Z (λbx=>bx=b) a (cH a (R b 0)<|nE 1):=(iT b a);have T:Hh (cH a (R b 0)<|nE 1) d k:=hc _ bb;generalize hW:cH a (R b 0) (nE 1)=N at F Q C bb T;have aa:=uU Q;rw[aV]at aa;have ba:cY bA 32 #[aD b] N λB A=>B=aN .nilIface/\Below (z<|G N) N A:=aa;have E:∀Wr,Z aw N Wr->cY bA 33 #[d] Wr λB A=>B=aN (xF<|fZ k)/\Z aw Wr A:=λWr a=>Wz (T.aj a<|λ_ _=>id) (by omega) hz;have ao:fZ k=0->∀w,Z aw N w->cY bA 35 #[aD b,d,aM o] w λB A=>∃bd,B=aN bd/\Vl a A b W 1 g (c+ly k) (l+1) s (xN W.aP k) bv (wh s e (bV j p u v) ((W.aP:U)+1) k) (V1 W g o k bv<|wh s e (bV j p u v) ((W.aP:U)+1) k<|xN W.aP k) bd:=λr w n=>by obtain⟨q1,q2,q3⟩:=vg r;have K:fO N w W.aH b g g:=⟨C.st.aH.aj n<|λ_ _=>id,n.mono cJ,λ_ q=>.inl q,Fx.refl _⟩;have ad:=C.fa (ak Q) K rfl (ag _) rfl C.loose;have D:cW w b W 1:=(n.block b (ak Q) id).trans Q;(have x:ly k=y k:=by unfold ly;rw[di r]);(have ap:wh s e (bV j p u v) ((W.aP:U)+1) k=λca=>eM ca (gh s e (k.map<|kV<|(W.aP:U)+1)::bV j p u v):=by funext ca;unfold wh;rw[di r]);(have al:xN W.aP k=nk W.aP (k.map<|kV<|(W.aP:U)+1):=by unfold xN;rw[di r]);rw[x,ap,al];refine(YP s o D ad hT V (T.aj n<|λ_ _=>id) q1 q2 q3 (λbT hx=>(hz bT hx).2) (by rw[<-x];exact hC) hN bs).mono ?_;rintro B A⟨bd,rfl,hz⟩;refine⟨bd,rfl,?_⟩;rcases hz with⟨rfl,s',t,m',a',b',c',d',aU,aF,O,hx⟩|⟨v',t,B,hs,hr⟩;exact .inl ⟨rfl,s',t,m',a',b',c',d',aU,aF,⟨O.box,O.inv,O.rl,(F.trans K).trans O.fa,O.same,O.DA,O.tid⟩,hx.1.mono<|λa q=>q.imp (by grind)<|λbL=>⟨r,bL⟩,by rw[x];have:=hx.2;rw[bU]at this;exact this⟩;obtain⟨q,cc,e2,V,hf⟩:=hs.err;exact .inr ⟨v',t,B,⟨(F.trans K).trans hs.fa,hs.box,q,cc,e2,V,hf⟩,hr⟩
 have av:fZ k≠0->∀w,Z aw N w->aW w (R b 0)=H (nE 1)/\w.frozen? (R b 0)=bw/\Vm a (cH w (R b 0)<|nE 0) b W 0 g (c+ly k) (l+1) s (xN W.aP k) (wh s e (bV j p u v) ((W.aP:U)+1) k) (V1 W g o k bv<|wh s e (bV j p u v) ((W.aP:U)+1) k<|xN W.aP k):=λr w n=>by have K:fO N w W.aH b g g:=⟨C.st.aH.aj n<|λ_ _=>id,n.mono cJ,λ_ q=>.inl q,Fx.refl _⟩;have D:cW w b W 1:=(n.block b (ak Q) id).trans Q;have x:=(F.trans K).set S.st.xM 0<|nE 0;refine⟨D.cell rfl,D.free,W,g,e,j,p,u,v,i,m,⟨D.qx 0,(S.fa au x rfl (ag _) rfl S.loose).mono (by omega) hC (by omega) hN,λca _ q=>by unfold wh;rw[dt r],x,⟨rfl,rfl,rfl,rfl,rfl,rfl⟩,by unfold xN;rw[dt r],hT⟩,V.mono (by grind),λq _=>⟨by unfold ly;rw[dt r];rfl,q,by omega⟩⟩
 obtain⟨cx,cc,bo⟩:=zu T;subst bo;have bp:=λw3 w4 t q q1 u(c:fO a w3 W.aH b g t)hx V hf d Q=>Vf.fin (w:=a) (w3:=w3) (w4:=w4) (sbqq:=b) (q:=q) (q1:=q1) (s:=W) (K:=g) (K':=t) (c:=u) S.st.xM au aV c hx V hf d Q;obtain⟨bf,bi,HW,P,bh,HE⟩:=lw ao av hW E bp hE;have bl:=X S.st.xM;by_cases r:fZ k=0;(.have ao:=bf r;have H0:=X r;(have ac:xF (fZ k)=.nilIface:=by rw[r];rfl);rw[ac]at P|-;(go_enter_defers func14,ntmps14);(go_wp2_with fail);apply(lock_free (R b 0) _ c0 f0).mono;rintro B A⟨rfl,ax⟩;rw[J HW]at ax;subst A;(go_wp2_with fail);apply ba.mono;rintro B Wr⟨rfl,an⟩;have L:Z aw N Wr:=Z.aQ an;have E:=P Wr L;(go_wp2_with fail);apply E.mono;rintro B w2⟨rfl,n⟩;have hd:=ao w2<|L.cz n;(go_wp2_with fail);apply hd.mono;rintro B w3⟨v3,rfl,bu⟩;rcases bu with⟨rfl,s',t,m',a',b',c',d',aU,aF,O,hx⟩|⟨v',t,e3,x,br⟩;(.have ap:=Jq O.box;have HO:=X O;have bg:=X hx;(go_wp2_with fail);apply ap.mono;rintro B w4⟨rfl,al⟩;obtain⟨d0,g0,ad⟩:=HO.fin al;have bd:=X ad;go_wp2;refine lL (f:=31) (args:=#[aD b]) (by simp) (by simp[go_sem]) ?_;apply(unlock_deferred (R b 0) .returning _ d0 g0).mono;rintro B u' bc⟨rfl,rfl,rfl⟩;exact⟨_,kT rfl _ _ _,.inl ⟨rfl,s',t,m',a',b',c',d',aU,aF,bd,bg⟩⟩);obtain⟨q,cc,rfl,V,hf⟩:=x.err;cases e3;obtain⟨s',bn,e1,e2⟩:=x.box;have bt:¬t.aL W.aH b:=λbL=>(x.fa.aL b bL).elim bl (λbL=>by omega);have ap:=Jr bn V<|HE _ (x.fa.set bt 6<|fj q).aj;obtain⟨bd,HQ,bg,bm,bk⟩:=iY x.fa V hf x.box br;(go_wp2_with fail);apply ap.mono;rintro B w4⟨q1,rfl,bq,al⟩;obtain⟨d0,g0,ad⟩:=bh w3 w4 t q q1 cc bd bm HQ bg al bq;have HP:=X<|And.intro ad bk;go_wp2;refine lL (f:=31) (args:=#[aD b]) (by simp) (by simp[go_sem]) ?_;apply(unlock_deferred (R b 0) .returning _ d0 g0).mono;rintro B u' bc⟨rfl,rfl,rfl⟩;refine⟨_,kT rfl _ _ _,?_⟩;exact .inr ⟨H0,fj q1,t,rfl,HP.1,HP.2⟩);have av:=bi r;obtain⟨ad,hn⟩:∃ad,fZ k=ad:=⟨_,rfl⟩;(have ac:xF (fZ k)=.iface 52 (aq ad):=by unfold xF;rw[dt r,hn]);rw[ac]at P|-;(go_enter_defers func14,ntmps14);(go_wp2_with fail);apply(lock_free (R b 0) _ c0 f0).mono;rintro B A⟨rfl,ax⟩;rw[J HW]at ax;subst A;(go_wp2_with fail);apply ba.mono;rintro B Wr⟨rfl,an⟩;have L:Z aw N Wr:=Z.aQ an;have E:=P Wr L;(go_wp2_with fail);apply E.mono;rintro B w2⟨rfl,n⟩;obtain⟨d0,g0,x⟩:=av w2<|L.cz n;have HP:=X x;go_wp2;refine lL (f:=31) (args:=#[aD b]) (by simp) (by simp[go_sem]) ?_;apply(unlock_deferred (R b 0) .returning _ d0 g0).mono;rintro B u' bc⟨rfl,rfl,rfl⟩;exact⟨_,kT rfl _ _ _,.inl ⟨rfl,HP⟩⟩
end
section
open Shelf
attribute [local go_sem] Oper.semAt_some
def Is(n:U)(c:oF a):cY bA 13 #[xF n] a λe b=>e=aN (aq n)/\Below (z<|G a) a b:=by
 unfold xF;grind[nj,Pe]
end
def oF.aj{S:fh}{w w':Y}(h:oF w)(c:Z S w w')(a:¬S 0):oF w':=by
 unfold oF at*;exact c.cell h a<|cF _ _ h
def pK{b sbqq:M}(d:bY a b g)(c:Z aw a f):fO a f b sbqq g g:=⟨d.aj c<|λ_ _=>id,c.mono cJ,λ_ q=>.inl q,Fx.refl _⟩
def UN(e:bY a b g)(h:¬g.aL b c)(d:Z (λk=>k=c) a f):fO a f b c g g:=⟨e.aj d (by grind),d.mono (by simp),λ_ q=>.inl q,Fx.refl _⟩
def Steps.aj{S:fh}{w w':Y}(h:Steps w)(d:Z S w w')(a:¬S 1):Steps w':=λk c=>d.cell (h k c) a h.lt
def LdS(w d:Y)(c:M)(K:DK)(next e a:M)(p:ci cP)(r:Ending):Prop:=(∃l g f m h c1 n i c2 o j c3,r=aN (dA #[dL #[aG next,aG e,aG a,I l g f,I m h c1,I n i c2,I o j c3],.nilIface])/\(∀(s:M)(v:ab)(D:cP),[I l g f,I m h c1,I n i c2,I o j c3][s]?=H v->p[s]?=H D->d.ownsRow (z<|G w) 178 4 v (y D) (dH D))/\∃b,qQ w d c K b/\qc K b/\∀k,b.aL c k->K.aL c k)\/∃b,qQ w d c K b/\qc K b/\(∀k,b.aL c k->K.aL c k)/\0<K.fx.bd/\∃q,r=aN (dA #[X7,fj q])/\sF d q 8
def TN(next d c:M)(i:ci cP)(h:bY a b g)(hT:Steps a)(bt:¬g.aL b 1)(h4:y i=4)(hn:next<18446744073709551616)(hl:d<next)(cc:c<18446744073709551616)(cj:y i.flatten<=1000000)(bp:∀ca∈i.flatten,ca.oZ)(ba:(i.flatten.map bB.num).Nodup)(aU:∀ca∈i.flatten,ca.num<next/\ca.num≠d)(hg:cX (vw g.files) dE=H (fS next d c i)):cY bA 37 #[aD b] a λw n=>LdS a n b g next d c i w:=by
 obtain⟨S,p⟩:∃S,dd a (ay #[aG 0,aG 0,aG 0,az,az,az,az] 110)=S:=⟨_,rfl⟩;have t:Z aw a S:=by rw[<-p];exact(cO aw a)
 have r:S.heap[z<|G a]?=H (ay #[aG 0,aG 0,aG 0,az,az,az,az] 110 (0,0)):=by rw[<-p];exact aK _ rfl
 have ch:z (G S)=z (G a)+1:=by rw[<-p];simp
 have aF:y (fS next d c i)<=21000100/\0<y (fS next d c i):=by(have x:fS next d c i=gS (le 8 (next:M)++(le 8 (d:M)++(le 8 (c:M)++qz i 0))):=by unfold fS qz;simp);have K:=Bo i 0;rw[x,gO];grind[length_append,cg]
 have au:=X h.lt
 have ac:cY bA 41 #[aD b,am dE] S λw n=>(∃bv v,w=aN (dA #[bI bv 0 (y<|fS next d c i) v,.nilIface])/\n.heap[z<|G a]?=H (ay #[aG 0,aG 0,aG 0,az,az,az,az] 110 (0,0))/\(∃m,qQ a n b g m/\qc g m/\∀k,m.aL b k->g.aL b k)/\z (G a)<z (G n)/\cY bA 77 #[bI bv 0 (y<|fS next d c i) v] n λw x=>
  ∃L C B N D c1 O E c2 P F c3,w=aN (dA #[dL #[aG next,aG d,aG c,I L C B,I N D c1,I O E c2,I P F c3],aM cf])/\
  (∀(bT:M)(cb:ab)(bx:cP),[I L C B,I N D c1,I O E c2,I P F c3][bT]?=H cb->i[bT]?=H bx->x.ownsRow (z (G n)) 178 4 cb (y bx) (dH bx))/\Z aw n x)\/(0<g.fx.bd/\∃q,w=aN (dA #[az,fj q])/\sF n q 8/\n.heap[z (G a)]?=H (ay #[aG 0,aG 0,aG 0,az,az,az,az] 110 (0,0))/\∃m,qQ a n b g m/\qc g m/\∀k,m.aL b k->g.aL b k):=by
  apply(RG (db:=b) (K:=g) dE (w:=S) (h.aj t<|λ_ _=>id) hg Gb).mono
  rintro w n⟨m,j,e1,V,⟨v',rfl,ho⟩|⟨aa,q,rfl,o⟩⟩
  rotate_left
  .have s:¬g.aL b (z<|G a):=λv=>by have:=h.lt _ v;omega
   exact .inr ⟨aa,q,rfl,o,(j.aj.block _ (ak r) s).trans r,m,⟨j.ok,(t.mono (T:=g.aL b) cJ).trans j.aj<|λ_ v=>.inl v,λk v=>.inl<|V k v,j.fx⟩,e1,V⟩
  left
  have K:=ho
  obtain⟨q1,⟨q2,q0⟩|⟨bq,cp,ao,q2,bd,hh,bi,bo,an⟩⟩:=K
  .omega
  .subst q2;have ap:Steps n:=Steps.aj (Steps.aj hT t id) j.aj bt;have s:¬g.aL b (z<|G a):=λv=>by have:=h.lt _ v;omega
   refine⟨bq,cp,rfl,(j.aj.block _ (ak r) s).trans r,⟨m,⟨j.ok,(t.mono (T:=g.aL b) cJ).trans j.aj<|λ_ v=>.inl v,λk v=>.inl<|V k v,j.fx⟩,e1,V⟩,by have:=j.aj.size;omega,?_⟩;grind[QP,fg.bytes]
 have bn:=λW=>WQ 10 W;unfold dE at ac;obtain⟨SL,av⟩:∃SL,y (fS next d c i)=SL:=⟨_,rfl⟩;rw[av]at ac;have bl:=X p;have ce:∀a:Y,(binOp .neq 41 .nilIface .nilIface).run bA a=.ok (aM bw) a:=λ_=>rfl;have bL:∀(bv:Bool)(a:Y),(Op.unary .not<|aM bv).run bA a=.ok (aM<|!bv) a:=λ_ _=>rfl;clear h hT hg bp ba aU t r p av aF;go_in
 go_wp2_with fail
 rw[J bl];apply ac.mono;rintro w w2(⟨bv,v,rfl,bm,W,aV,ax⟩|⟨aa,q,rfl,o,f,W⟩);rotate_left;(·(have bs:aW w2 (R q 1)=H (aq 8):=by obtain⟨K,o,_⟩:=o;exact cellAt o 1 rfl);have bo:=BO q 8 10 (by decide) w2 bs;have t0:=cellAt f 0 rfl;have t1:=cellAt f 1 rfl;have t2:=cellAt f 2 rfl;have t3:=cellAt f 3 rfl;have t4:=cellAt f 4 rfl;have t5:=cellAt f 5 rfl;have t6:=cellAt f 6 rfl;(have fz:∀A,w2.frozen? (R (z<|G a) A)=bw:=λA=>by simp[World.frozen?,f]);obtain⟨bd,HQ,ao,Q⟩:=gw aa o f W;(go_wp2_with fail);apply bo.mono;rintro w w1⟨rfl,hw⟩;subst w1;go_wp2;have l:=aJ (i:=6) (u:=az)<|aJ (i:=5) (u:=az)<|aJ (i:=4) (u:=az)<|aJ (i:=3) (u:=az)<|aJ (i:=2) (u:=aG 0)<|aJ (i:=1) (u:=aG 0)<|aJ (i:=0) (u:=aG 0) ao;refine cy (rq rfl _ _ (z<|G a) 0 0 0 _ _ _ _ _ _ rfl l ⟨_,_,_,rfl⟩ ⟨_,_,_,rfl⟩ ⟨_,_,_,rfl⟩ ⟨_,_,_,rfl⟩) rfl ?_;obtain⟨K2,x,bi,ap⟩:=J Q;have an:Z (λk=>k=z (G a)) w2 _:=((((((((Z.refl (λk=>k=z (G a)) w2).setCell (z<|G a) 0 (aG 0)<|.inl rfl).setCell (z<|G a) 1 (aG 0)<|.inl rfl).setCell (z<|G a) 2 (aG 0)<|.inl rfl).setCell (z<|G a) 3 az<|.inl rfl).setCell (z<|G a) 4 az<|.inl rfl).setCell (z<|G a) 5 az<|.inl rfl).setCell (z<|G a) 6 az<|.inl rfl);(have bq:∀k,K2.aL b k->k≠z (G a):=λk q w=>by have:=au k<|ap k q;omega);refine .inr ⟨K2,⟨x.ok.aj an<|λk q w=>bq k q w,x.aj.trans an (by simp),x.aL,x.fx⟩,bi,ap,bd,q,rfl,?_⟩;obtain⟨K,o,br⟩:=J HQ;refine⟨K,(an.block q (ak o)<|λw=>?_).trans o,br⟩;have:=J ao;rw[<-w,o]at this;grind);have bf:=X bm;have Q:=X W;go_wp2_with fail
 apply(bn _).mono;rintro w bu⟨rfl,hw⟩;subst bu;go_wp2_with fail
 apply ax.mono;rintro w w3⟨L,C,B,N,D,c1,O,E,c2,P,F,c3,rfl,ad,bb⟩;have e:=(bb.block _ aV id).trans bf;have bE:=ak e;have bk:=X bb;have bh:=X ad;have t0:=cellAt e 0 rfl;have t1:=cellAt e 1 rfl;have t2:=cellAt e 2 rfl;have t3:=cellAt e 3 rfl;have t4:=cellAt e 4 rfl;have t5:=cellAt e 5 rfl;have t6:=cellAt e 6 rfl;have cd:∀A,w3.frozen? (R (z<|G a) A)=bw:=λA=>by simp[World.frozen?,e]
 have bg:=X e;go_wp2;have l:=aJ (i:=6) (u:=I P F c3)<|aJ (i:=5) (u:=I O E c2)<|aJ (i:=4) (u:=I N D c1)<|aJ (i:=3) (u:=I L C B)<|aJ (i:=2) (u:=aG c)<|aJ (i:=1) (u:=aG d)<|aJ (i:=0) (u:=aG next) bg;have bc:=((((((((Z.refl (λk=>k=z (G a)) w3).setCell (z<|G a) 0 (aG next)<|.inl rfl).setCell (z<|G a) 1 (aG d)<|.inl rfl).setCell (z<|G a) 2 (aG c)<|.inl rfl).setCell (z<|G a) 3 (I L C B)<|.inl rfl).setCell (z<|G a) 4 (I N D c1)<|.inl rfl).setCell (z<|G a) 5 (I O E c2)<|.inl rfl).setCell (z<|G a) 6 (I P F c3)<|.inl rfl).alloc<|ay #[aG next,aG d,aG c,I L C B,I N D c1,I O E c2,I P F c3] 110;have al:=(gq (ay #[aG next,aG d,aG c,I L C B,I N D c1,I O E c2,I P F c3] 110)<|ak l).trans l;refine cy (rq rfl _ _ (z<|G a) next d c _ _ _ _ _ _ rfl al ⟨_,_,_,rfl⟩ ⟨_,_,_,rfl⟩ ⟨_,_,_,rfl⟩ ⟨_,_,_,rfl⟩) rfl ?_;refine .inl ⟨L,C,B,N,D,c1,O,E,c2,P,F,c3,rfl,?_,?_⟩;intro bT cb bx hv K;have x:=bh bT cb bx hv K;exact gl (bc.own x (λq o w=>by have:=(x.lt q o).1;have:q=z (G a):=w;omega)) (by omega);obtain⟨m,j,e1,V⟩:=J Q;have x:Z (λk=>k=z (G a)) w2 _:=(bk.mono (T:=λk=>k=z (G a)) cJ).trans bc<|λ_ v=>.inl v;have s:∀k,m.aL b k->k<z (G a):=λk v=>au k<|V k v;exact⟨m,⟨j.ok.aj x (λk v w=>by have:=s k v;have:k=z (G a):=w;omega),j.aj.trans x (by simp),j.aL,j.fx⟩,e1,V⟩
def RpM(w c:Y)(b:M)(K:DK)(e:Ending):Prop:=∃a,qQ w c b K a/\qc K a/\(∀k,a.aL b k->K.aL b k)/\(e=aN .nilIface\/0<K.fx.bd/\∃q,e=aN (fj q)/\sF c q 8)
def MC(h:cW a b W k)(f:bY a W.aH g)(N:Pow a)(B:W.log<18446744073709551616)(L:cX (vw g.files) (dj W.log)=none):cY bA 17 #[aD b] a λw D=>RpM a D W.aH g w:=by
 have d:=zv W.log B N;have S:=cW.cellAt h 17 rfl
 have r:∀v,Z aw a v->aW v (R b 2)=H (aD W.aH)/\qQ a v W.aH g g/\cY bA 41 #[aD W.aH,am<|dj W.log] v λw D=>Y8 v D W.aH g w:=λv x=>
  ⟨cW.cell ((x.block b (ak h) id).trans h) rfl,(qQ.refl f).still x,IN (db:=W.aH) (K:=g) (dj W.log) (w:=v) (f.aj x<|λ_ _=>id) L<|Aw B⟩
 clear h f N L B;generalize dj W.log=t at*;go_in
 go_wp2_with fail
 apply d.mono;rintro w O⟨rfl,n⟩;have s:Z aw a O:=Z.aQ n;obtain⟨V,p,C⟩:=r O s;have u:=X p;clear r s n d p;go_wp2_with fail
 apply C.mono;rintro w E⟨K,q,T,e,j,i,rfl,m,P⟩;have c:aW E (R q 1)=H (aq T):=by obtain⟨t,m,_⟩:=m;exact cellAt m 1 rfl
 have l:=X<|And.intro (u.trans e) (And.intro j i);rcases P with rfl|⟨rfl,o⟩;(.have A:=RU q 10 E c;clear m c e j i C;(go_wp2_with fail);apply A.mono;rintro w F⟨rfl,Q⟩;subst F;go_wp2;go_ret;exact⟨K,l.1,l.2.1,l.2.2,.inl rfl⟩);have A:=BO q 8 10 (by decide) E c;have v:=X<|And.intro o m;clear m c e j i C o;(go_wp2_with fail);apply A.mono;rintro w F⟨rfl,Q⟩;subst F;go_wp2;go_ret;exact⟨K,l.1,l.2.1,l.2.2,.inr ⟨v.1,q,rfl,v.2⟩⟩
def SR.wX(s:SR)(a:ab)(j n:M):SR:={s with memory:=a,eG:=n,aP:=s.aP+j}
def MO(s:SR)(a:s.memory=az)(b:s.eG=0):s.wX az 0 0=s:=by
 cases s;simp_all[SR.wX]
def LY{lsqq:dX}(j:M):((lsqq.take j).map y).sum<=(lsqq.map y).sum:=by
 grind[take_append_drop]
def lq(a:dX):cU:=a.foldl (λm l=>gh [] m l) []
theorem Av(a:dX)(l:cU):lq (a++[l])=gh [] (lq a) l:=by simp[lq]
def TG(l:cU):∀(p:Option E)(a:ae),(∀q,p=H q->q.key=a)->(p=none->∀e∈l,e.key≠a)->mj [] p l=oA a l:=by
 induction l with
 |nil=>intro p a _ _;rfl
 |cons e r f=>
  intro p a i d;rw[mj,oA];cases p with
  |none=>
   have b:pX [] none e=cf:=rfl;rw[di b,dt (d rfl e<|by simp),f (H e) e.key (λq c=>by cases c;rfl)<|λg=>by cases g]
  |some q=>
   have c:=i q rfl;by_cases g:e.key=a
   .have b:pX [] (H q) e=bw:=by simp[pX,c,g]
    rw[dt (by rw[b];simp),di g,f (H e) e.key (λx d=>by cases d;rfl)<|λh=>by cases h]
   .have b:pX [] (H q) e=cf:=by simp[pX,c];grind
    rw[di b,dt g,f (H e) e.key (λx d=>by cases d;rfl)<|λh=>by cases h]
def Wp(h:gV e)(b:∀x∈e,x.bQ<=k):dZ [] e=kq k e:=by
 unfold dZ kq;rw[fK.2<|λx a=>by grind];exact TG e none ⟨#[]⟩ (λq a=>by cases a)<|λ_=>h.key
def YV(u:wE k m):∀j,j<=y m->lq (m.take j)=gT [] (m.take j).flatten/\gV (lq<|m.take j)/\(∀x∈lq (m.take j),x.bQ<=k+j-1)/\kq (k+j-1) (lq<|m.take j)=lq (m.take j):=by
 intro j;induction j with
 |zero=>intro _;exact⟨rfl,gV.nil,by simp[lq],rfl⟩
 |succ j t=>
  intro v;obtain⟨g,h,p,q⟩:=t (by omega);have a:j<y m:=by omega
  have s:=u.jf m[j]<|ar a;have r:∀x∈m[j],x.bQ=(k+j-1)+1:=λx b=>by rw[u.num j a x b];omega
  have i:∀e∈m[j],e.key≠⟨#[]⟩:=λe a=>uZ<|s e a;have l:lq (m.take<|j+1)=gh [] (lq<|m.take j) m[j]:=by rw[ah a,Av]
  have d:gV (fQ (lq<|m.take j) m[j]):=h.fQ i;have c:∀x∈fQ (lq<|m.take j) m[j],x.bQ<=(k+j-1)+1:=λx b=>by
   grind[yL]
  have n:=Wp d c;have e:kq ((k+j-1)+1) (gh [] (lq<|m.take j) m[j])=gh [] (lq<|m.take j) m[j]:=by
   show kq _ (dZ [] _)=dZ [] _;rw[Ch d<|.inr c,n]
  have f:=Io h p i r [];rw[e,q,g]at f;have o:k+((j+1:M):U)-1=(k+j-1)+1:=by grind
  rw[l,o];refine⟨?_,d.sub<|vY [] _ _,λx b=>c x<|(vY [] _ _).subset b,e⟩;rw[g,f,ah a,dW,pt];simp
def Xj(a:dX):∀m,eh m->eh (a.foldl (λm l=>gh [] m l) m):=by
 induction a with
 |nil=>grind
 |cons l r b=>grind[CB]
theorem IQ(a:dX):eh (lq a):=Xj a [] eh.nil
def Xk(a:dX):∀m:cU,y (a.foldl (λm l=>gh [] m l) m)<=y m+(a.map y).sum:=by
 induction a with
 |nil=>intro m;simp
 |cons l r b=>
  grind[zj]
def IS(a:dX):y (lq a)<=(a.map y).sum:=by
 have:=Xk a [];simpa[lq]using this
theorem VU(h:m≠[]):0<y (kO k m):=by
 rcases m with _|⟨l,r⟩;grind
 unfold kO pq;grind[length_append,gO,cg]
def V5(w d:Y)(b:M)(s:SR)(k:U)(K:DK)(a:dX)(f:eF)(g:Ending):Prop:=(g=aN .nilIface/\∃e c,cW d b {s.wX e (y a) (a.map y).sum with dO:=cf,pj:=yr f,iU:=cf} k/\d.ownsRow (z<|G w) 171 4 e (y<|lq a) (aI<|lq a)/\fO w d s.aH b K c/\qc K c/\(∀k,c.aL s.aH k->K.aL s.aH k))\/∃c,fO w d s.aH b K c/\qc K c/\0<K.fx.bd/\∃q,g=aN (fj q)/\sF d q 8
def PH(c:dX)(L:eF)(h:cW a b W k)(hj:Ys ((W.aP:U)+1+y c) L)(au:bY a W.aH g)(aa:¬g.aL W.aH b)(hp:Pow a)(hT:Steps a)(ck:1≠b/\¬g.aL W.aH 1)(hl:W.log<18446744073709551616)(ax:wE ((W.aP:U)+1) c)(B:cX (vw g.files) (dj W.log)=H (zJ ((W.aP:U)+1) c L))(hm:W.memory=az)(cm:W.eG=0)(dn:W.aP<=1000000000)(cw:OL a g b W []):cY bA 17 #[aD b] a λS f=>V5 a f b W k g c L S:=by
 have cv:=ak h;have bo:=zv W.log hl hp;have ej:=cW.cellAt h 17 rfl;have ei:IntKind.u64.wrap ((W.aP:U)+1)=(W.aP:U)+1:=by rw[eZ];omega
 obtain⟨rb,t⟩:∃rb,zJ ((W.aP:U)+1) c L=rb:=⟨_,rfl⟩;have cu:∀an,Z aw a an->aW an (R b 2)=H (aD W.aH)/\cY bA 41 #[aD W.aH,am<|dj W.log] an λS f=>(∃p al,S=aN (dA #[I p (y rb) al,.nilIface])/\(cY bA 43 #[I p (y rb) al,aG<|(W.aP:U)+1] f λS j=>∃p k w,S=aN (dA #[dL #[I p (y c) k,aM<|yr L],aM cf])/\j.ownsRow (z (G f)+2) 72 1 (I p (y c) k) (y c) w/\Hj j (z (G f)+2) w c/\Z aw f j)/\z (G a)<=z (G f)/\cW f b W k/\∃o,fO a f W.aH b g o/\qc g o/\∀k,o.aL W.aH k->g.aL W.aH k)\/∃q,S=aN (dA #[az,fj q])/\V5 a f b W k g c L (aN<|fj q)/\aW f (R q 1)=H (aq 8):=λan e=>by have i:cW an b W k:=(e.block b cv id).trans h;refine⟨i.cell rfl,?_⟩;refine(RG (db:=W.aH) (K:=g) (dj W.log) (bs:=rb) (w:=an) (au.aj e<|λ_ _=>id) (by rw[<-t];exact B)<|Aw hl).mono ?_;rintro S f⟨o,N,e1,e3,⟨v',rfl,P⟩|⟨A,q,rfl,d⟩⟩;rotate_left;exact .inr ⟨q,rfl,.inr ⟨o,(pK (sbqq:=b) au e).trans<|fO.of N,e1,A,q,rfl,d⟩,by obtain⟨bu,d,_⟩:=d;exact cellAt d 1 rfl⟩;left;have m:=(pK (sbqq:=b) au e).trans<|fO.of N;have l:cW f b W k:=(N.aj.block b (ak i) aa).trans i;have v:Steps f:=λq d=>N.aj.cell (e.cell (hT q d) id<|cF _ _<|hT q d) ck.2<|ai (cF _ _<|hT q d) e.size;have n:z (G a)<=z (G f):=aB e.size N.aj.size;have ac:=P;obtain⟨q1,⟨q2,q0⟩|⟨x,cp,av,q2,aF,hh,K,O,ad⟩⟩:=ac;have s:rb=[]:=(by grind);(have E:c=[]:=by grind[VU,zJ.eq_1,append_eq_nil_iff]);(have D:L=[]:=by rw[s,zJ]at t;simp_all);subst q2;refine⟨none,0,by rw[s];rfl,?_,n,l,o,m,e1,e3⟩;rw[s,E,D];exact No _ f;subst q2;refine⟨H<|R x 0,cp,rfl,?_,n,l,o,m,e1,e3⟩;have:=Kr x 0 cp v ax hj (by rw[t];exact K) (by unfold maxLen at O;omega) (P.lt x rfl).2 (by rw[t];exact fg.bytes P);rw[t]at this;exact this
 obtain⟨HH,cb,bT,dm,HM⟩:=iY h cu ax t<|And.intro hm cm;have dk:=ax.sum;generalize dj W.log=bu at*;go_in
 go_wp2_with fail
 apply bo.mono;rintro S w1⟨rfl,cl⟩;have br:Z aw a w1:=Z.aQ cl;obtain⟨k2,hr⟩:=cb w1 br;have dT:=br.size;go_wp2_with fail
 apply hr.mono;rintro S w2(⟨rx,rc,rfl,bp,ea,bk,bg⟩|⟨q,rfl,hP,cs⟩);rotate_left;(.have e:=BO q 8 10 (by decide) w2 cs;have d:=X hP;(go_wp2_with fail);apply e.mono;rintro S Q⟨rfl,hw⟩;subst Q;go_wp2;go_ret;show V5 _ _ _ _ _ _ _ _ (aN<|fj q);exact J d);have q9:=cW.cellAt bk 9 rfl;have bn:=WQ 10 w2;obtain⟨bf,bE,cd⟩:=dF bk bg (show∃o,OL w2 o b W []from by obtain⟨o,N,_⟩:=bg;exact⟨o,cw.fa N⟩);go_wp2_with fail
 apply bn.mono;rintro S cS⟨rfl,hw⟩;subst cS;go_wp2_with fail
 apply bp.mono;rintro S Q⟨x3,c3,w,rfl,aU,ap,ba⟩;obtain⟨p,r⟩:∃p,dd Q (ay #[I x3 (y c) c3,aM<|yr L] 123)=p:=⟨_,rfl⟩;have bb:Z aw w2 p:=by rw[<-r];exact ba.alloc _
 have F:Z aw Q p:=by rw[<-r];exact(cO aw Q)
 have eb:=ba.size;have aV:z (G p)=z (G Q)+1:=by rw[<-r];simp
 have C:p.heap[z<|G Q]?=H (ay #[I x3 (y c) c3,aM<|yr L] 123 (0,0)):=by rw[<-r];exact aK _ rfl
 have bl:cW p b W k:=(bb.block b (ak bf) id).trans bf;have bh:Row p 1 (I x3 (y c) c3) (y c) w:=dR<|F.own aU<|λ_ _ al=>al;have bi:∀j(a:j<y w)(b:j<y c),p.ownsRow (z (G w2)+2) 171 4 w[j] (y c[j]) (aI c[j]):=λj a b=>F.own (ap.2 j a b)<|λ_ _ al=>al;have V:∀x,cI (I x3 (y c) c3)=H x->z (G w2)+2<=x/\x<z (G Q):=λx B=>aU.lt x B;have dc:=cellAt C 0 rfl;obtain⟨ch,ca,ce,bx,bL,bv,ao,cc,cj⟩:=yU ap.1 bh bi V C bl bb aV r;clear aU ap ba F C bl bh bi V bb aV bp bn q9 r;go_wp2;rw[J cj];go_loopw [47] (λbd wr=>∃(j:M)(mv:ab),j<=y c/\bd=aq j/\cW wr b (W.wX mv j ((c.take j).map y).sum) k/\wr.ownsRow (z<|G a) 171 4 mv (y<|lq<|c.take j) (aI<|lq<|c.take j)/\Z (λk=>k=b) p wr) (λbd _=>y c-(intOf bd).toNat)
 (case atStart=>have S:=MO W HM.1 HM.2;refine⟨0,az,bK _,by go_num,?_,cK _ _ _ _,Z.refl _ _⟩;show cW p b (W.wX az 0 0) k;rw[S];exact bv)
 case round=>
  obtain⟨j,mv,hj,rfl,d,i,m⟩:=hrel;have aV:=J cc;have ec:=m.size;obtain⟨v,aF⟩:∃v,W.aP+j=v:=⟨_,rfl⟩;obtain⟨n,s⟩:∃n,((c.take j).map y).sum=n:=⟨_,rfl⟩;have cx:=LY (lsqq:=c) j;have dv:y c<=(c.map y).sum:=Pg<|λl hl=>(bT.one l hl).1;have df:y c<=31:=by omega
  have dr:y (c.take j).flatten=n:=by rw[<-s,sQ]
  have cq:=IS<|c.take j;rw[s]at cq;rw[s]at cx;obtain⟨mx,mc,cp⟩:=aC i;have ek:=cW.cellAt d 7 rfl;have el:aW wr (R b 8)=H (aq n):=by rw[<-s];exact d.cell rfl
  have em:aW wr (R b 9)=H (aG v):=by rw[<-aF];exact d.cell rfl
  by_cases D:j<y c
  .have e1:(j:U)<(y c:U):=by omega
   have e2:(0:U)<=(j:U):=by omega
   have cn:j<y w:=by rw[J ch];exact D
   have bc:=ce j cn D;have ed:∀x,cI w[j]=H x->z (G w2)+2<=x/\x<z (G p):=λx B=>bc.lt x B;have cE:=m.own bc (by grind);have bm:∃b a,x3=H (R b a)/\aW wr (R b<|a+j)=H w[j]:=by
    obtain⟨q1,⟨q2,q0⟩|⟨x,A,cT,q2,dx,hc⟩⟩:=J ca
    .omega
    .cases q2;have ds:=bx x rfl;exact⟨x,A,rfl,m.cell (hc j _<|by simp) (by omega)<|by omega⟩
   obtain⟨b3,o3,cN,bm⟩:=bm;subst cN;have av:((c.take<|j+1).map y).sum=n+y c[j]:=by rw[ah D,aE,ga,s];simp
   have ac:=LY (lsqq:=c)<|j+1;rw[av]at ac;have cr:gh [] (lq<|c.take j) c[j]=lq (c.take<|j+1):=by rw[ah D,Av]
   obtain⟨Kx,cB⟩:=J cd;obtain⟨mb,m1,m2,m3⟩:=cB.ex;have m4:pz wr mb (B4 []):=m2.dG<|((m.block mb (by have:=ao.size;have:=m3.lt;omega) m3.ne).trans<|ao.block mb m3.lt id);have bt:=Cz b (W.wX mv j ((c.take j).map y).sum) k [] w[j] c[j] d m1 m4 (by simp) (dR i) (λx B=>(i.lt x B).2) (dR cE) (by grind) (IQ _) (by omega);have cM:cY bA 45 #[aD b,w[j]] wr λS f=>∃v',S=aN v'/\f.ownsRow (z<|G wr) 171 4 v' (y<|lq<|c.take<|j+1) (aI<|lq<|c.take<|j+1)/\Z aw wr f:=by rw[<-cr];exact bt
   obtain⟨xj,eq,ad⟩:=aC bc;obtain⟨O,co⟩:∃O,y c[j]=O:=⟨_,rfl⟩;rw[co]at ad av ac;generalize w[j]=vj at*;have ef:IntKind.i64.wrap ((n:U)+(O:U))=(n:U)+(O:U):=by rw[bP];omega
   have eg:IntKind.u64.wrap ((v:U)+1)=(v:U)+1:=by rw[eZ];omega
   have HF:=X (show∀l e,Z aw wr l->l.ownsRow (z<|G wr) 171 4 e (y<|lq<|c.take<|j+1) (aI<|lq<|c.take<|j+1)->(aW l (R b 7)=H mv/\aW l (R b 8)=H (aq n)/\aW l (R b 9)=H (aG v)/\∀bd,l.frozen? (R b bd)=bw)/\cW (cH (cH (cH l (R b 7) e) (R b 8)<|aq<|(n:U)+O) (R b 9)<|aG<|(v:U)+1) b (W.wX e (j+1) ((c.take<|j+1).map y).sum) k/\(cH (cH (cH l (R b 7) e) (R b 8)<|aq<|(n:U)+O) (R b 9)<|aG<|(v:U)+1).ownsRow (z<|G a) 171 4 e (y<|lq<|c.take<|j+1) (aI<|lq<|c.take<|j+1)/\Z (λk=>k=b) p (cH (cH (cH l (R b 7) e) (R b 8)<|aq<|(n:U)+O) (R b 9)<|aG<|(v:U)+1)fromλl e P E=>by
    have A:cW l b (W.wX mv j ((c.take j).map y).sum) k:=(P.block b (ak d) id).trans d;have K:Z (λk=>k=b) l (cH (cH (cH l (R b 7) e) (R b 8)<|aq<|(n:U)+O) (R b 9)<|aG<|(v:U)+1):=((iT b l).setCell b 8 _<|.inl rfl).setCell b 9 _<|.inl rfl;refine⟨⟨A.cell rfl,by rw[<-s];exact A.cell rfl,by rw[<-aF];exact A.cell rfl,λbd=>A.free⟩,?_,?_,(m.cz P).trans K<|λ_ al=>.inl al⟩
    .have hx:=aJ (i:=9) (u:=aG<|(v:U)+1)<|aJ (i:=8) (u:=aq<|(n:U)+O)<|aJ (i:=7) (u:=e) A;have e9:((v:U)+1)=((W.aP+(j+1):M):U):=by rw[<-aF];grind
     have e8:((n:U)+O)=((((c.take<|j+1).map y).sum:M):U):=by rw[av];grind
     rw[e9,e8]at hx|-;exact hx.trans rfl
    .exact gl (K.own E (λx B al=>by have:=(E.lt x B).1;have:=ak d;omega)) (by omega))
   subst cp;subst ad;go_wp2_with fail
   apply cM.mono;rintro S l⟨e,rfl,E,P⟩;obtain⟨eo,en,bq⟩:=aC E;obtain⟨⟨y7,y8,y9,fz⟩,hF⟩:=HF l e P E;have an:=X hF;subst bq;go_wp2;go_roundw;case rel=>exact⟨j+1,_,D,by go_num,an.1,an.2.1,an.2.2⟩
   case measure=>simp[intOf];omega
  .have e1:¬(j:U)<(y c:U):=by omega
   have e:j=y c:=by omega
   have l:=(m.block _ (by omega)<|by omega).trans bL;have y1:=cellAt l 1 rfl;have fz:∀bd,wr.frozen? (R b bd)=bw:=λbd=>d.free;have bq:=cW.cellAt d 18 rfl;have bt:=cW.cellAt d 19 rfl;have cn:=cW.cellAt d 20 rfl;have av:=ak l;have bc:=ak d;have bm:z (G Q)≠b:=by omega
   obtain⟨A,O,P,E⟩:=gw d i m e;go_wp2_with fail
   rename_i KK ac;apply Oj KK
   .intro an;go_region
    all_goals exact an
   apply ac;go_wp2;go_ret;have e:=J E;subst e;have d:=J A;have i:=J O;rw[aY]at d i;obtain⟨o,N,e3,e5⟩:=J bE;have K:Z (λk=>k=b) wr ((cH (cH (cH wr (R b 18)<|aM cf) (R b 19)<|aM<|yr L) (R b 20)<|aM cf).drew):=(((iT b wr).setCell b 19 _<|.inl rfl).setCell b 20 _<|.inl rfl).trans (dh _ _)<|λ_ al=>.inl al;have ad:=((ao.mono (T:=λk=>k=b) cJ).trans P<|λ_ al=>.inl al).trans K<|λ_ al=>.inl al;refine .inl ⟨rfl,mv,o,?_,K.own i (λx B al=>by have:=(i.lt x B).1;omega),N.trans<|UN N.ok (λq=>aa<|e5 _ q) ad,e3,e5⟩;have hx:=aJ (i:=20) (u:=aM cf)<|aJ (i:=19) (u:=aM<|yr L)<|aJ (i:=18) (u:=aM cf) d;exact Eq.trans (show _=_ from hx) rfl
def Mg(sn:gL)(h:cW a b W k)(n:Inv a b W g e j p u v c i l m sn)(N:GY W j p u):cY bA 19 #[aD b] a λB q=>B=aN .nilIface/\Z aw a q:=by
 have an:decide (W.mem<=(W.eG:U))=bw:=by have:=N.1;simp;omega
 have Q:nP W.kK 0 (y j)=bw:=by have:=N.2.1;simp[nP];omega
 have S:nP W.kK 1 (y p)=bw:=by have:=N.2.2.1;simp[nP];omega
 have T:nP W.kK 2 (y u)=bw:=by have:=N.2.2.2;simp[nP];omega
 have V:nP W.kK 3 (y v)=bw:=by simp[nP]
 have L:=ak h;have k3:=cW.cellAt h 3 rfl;have k8:=cW.cellAt h 8 rfl;have HH:=X h;have HV:=X n;go_in
 go_wp2;go_quiet(fail)
 rename_i KK aa;show KK _ _;apply aa;have o:Z aw a (a.drewN nq):=(Z.refl aw a).of_heap rfl;generalize a.drewN nq=d at o|-;try rw[an]
 have P:=X o;have h:=J HH;have n:=J HV;have f:cW d b W k:=(o.block b L id).trans h;have ac:=pK (sbqq:=b) n.st.aH o;have ba:=n.fa L ac rfl (ag _) rfl n.loose;obtain⟨mx,mc,al⟩:=bZ n.st.mem;obtain⟨s,r,ao⟩:=bZ n.st.l0.row;obtain⟨t,c1,ap⟩:=bZ n.st.l1.row;obtain⟨w,c2,au⟩:=bZ n.st.l2.row;obtain⟨x,c3,av⟩:=bZ n.st.l3.row;have bc:aW d (R b 10)=H (I s (y j) r):=by rw[<-ao];exact f.cell rfl
 have bd:aW d (R b 11)=H (I t (y p) c1):=by rw[<-ap];exact f.cell rfl
 have bf:aW d (R b 12)=H (I w (y u) c2):=by rw[<-au];exact f.cell rfl
 have bg:aW d (R b 13)=H (I x (y v) c3):=by rw[<-av];exact f.cell rfl
 have q7:aW d (R b 7)=H (I mx (y e) mc):=by rw[<-al];exact f.cell rfl
 have q9:=cW.cellAt f 9 rfl;have ax:∀C,(Instr.index 78 (dL #[I s (y j) r,I t (y p) c1,I w (y u) c2,I x (y v) c3])<|aq 0).run bA C=.ok (I s (y j) r) C:=λ_=>by kernel_rfl
 have aF:∀C,(Instr.index 78 (dL #[I s (y j) r,I t (y p) c1,I w (y u) c2,I x (y v) c3])<|aq 1).run bA C=.ok (I t (y p) c1) C:=λ_=>by kernel_rfl
 have aU:∀C,(Instr.index 78 (dL #[I s (y j) r,I t (y p) c1,I w (y u) c2,I x (y v) c3])<|aq 2).run bA C=.ok (I w (y u) c2) C:=λ_=>by kernel_rfl
 have aV:∀C,(Instr.index 78 (dL #[I s (y j) r,I t (y p) c1,I w (y u) c2,I x (y v) c3])<|aq 3).run bA C=.ok (I x (y v) c3) C:=λ_=>by kernel_rfl
 have D:cY bA 48 #[aD b,aq 0,I s (y j) r] d λB q=>B=aN (aM<|nP W.kK 0<|y j)/\q=d:=sq 0 (y j) s r f (by omega);have E:cY bA 48 #[aD b,aq 1,I t (y p) c1] d λB q=>B=aN (aM<|nP W.kK 1<|y p)/\q=d:=sq 1 (y p) t c1 f (by omega);have F:cY bA 48 #[aD b,aq 2,I w (y u) c2] d λB q=>B=aN (aM<|nP W.kK 2<|y u)/\q=d:=sq 2 (y u) w c2 f (by omega);have K:cY bA 48 #[aD b,aq 3,I x (y v) c3] d λB q=>B=aN (aM<|nP W.kK 3<|y v)/\q=d:=sq 3 (y v) x c3 f (by omega);rw[Q]at D;rw[S]at E;rw[T]at F;rw[V]at K;go_wp2;go_loopw [3,20] (λo a wr=>∃(O:M),O<=4/\a=aq O/\o=aM bw/\wr=d) (λ_ a _=>4-(intOf a).toNat)
 case atStart=>exact⟨0,by omega,by go_num,rfl,rfl⟩
 (case round=>obtain⟨O,hj,rfl,rfl,bb⟩:=hrel;subst wr;(have ad:O=0\/O=1\/O=2\/O=3\/O=4:=by omega);rcases ad with rfl|rfl|rfl|rfl|rfl;(·(go_wp2_with(go_at_call 48;refine D.mono ?_;rintro B A⟨rfl,hw⟩;subst A));go_roundw;(case rel=>exact⟨1,by omega,by go_num,rfl,trivial⟩);case measure=>simp[intOf]);(·(go_wp2_with(go_at_call 48;refine E.mono ?_;rintro B A⟨rfl,hw⟩;subst A));go_roundw;(case rel=>exact⟨2,by omega,by go_num,rfl,trivial⟩);case measure=>simp[intOf]);(·(go_wp2_with(go_at_call 48;refine F.mono ?_;rintro B A⟨rfl,hw⟩;subst A));go_roundw;(case rel=>exact⟨3,by omega,by go_num,rfl,trivial⟩);case measure=>simp[intOf]);(·(go_wp2_with(go_at_call 48;refine K.mono ?_;rintro B A⟨rfl,hw⟩;subst A));go_roundw;(case rel=>exact⟨4,by omega,by go_num,rfl,trivial⟩);case measure=>simp[intOf]);go_wp2;go_ret;exact⟨rfl,P⟩)
section
open Conc.Locks
end
section
open Conc.Locks
end
section
open Conc.Locks Shelf
attribute [local go_sem] Oper.semAt_some
end
