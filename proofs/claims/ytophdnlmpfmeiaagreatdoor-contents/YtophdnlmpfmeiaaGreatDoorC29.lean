import Derived.Test.YtophdnlmpfmeiaaGreatDoorC24
import Derived.Test.YtophdnlmpfmeiaaGreatDoorC25
import Derived.Test.YtophdnlmpfmeiaaGreatDoorC26
namespace Go.Proofs.YtophdnlmpfmeiaaGreatDoor
open ChangeShapes WideShapes RowKit Proofs.Tryz
set_option maxHeartbeats 16000000
set_option linter.all false
set_option maxRecDepth 100000
def rE{c:Func}{K u:Tmp}(U:c.results=#[.cell K 155,.tmp u])(a:Array M)(w:J)(g:Nat)(n D k:Int)(e f h l:M)(R:TypeId)(d:Nat×Nat)(y:a.getD K undef=.pointer (some ⟨g,0,none⟩))(s:w.heap[g]?=some (.cells #[.int .u64 n,.int .u64 D,.int .u64 k,e,f,h,l] R d))(o:∃x n k,e=.slice x n k)(p:∃x n k,f=.slice x n k)(q:∃x n k,h=.slice x n k)(r:∃x n k,l=.slice x n k):(results c a).run prog w=.ok (.tuple #[.agg #[.int .u64 n,.int .u64 D,.int .u64 k,e,f,h,l],a.getD u undef]) w:=by
 obtain⟨L,E,z,rfl⟩:=o;obtain⟨N,F,A,rfl⟩:=p;obtain⟨O,G,B,rfl⟩:=q;obtain⟨Q,H,C,rfl⟩:=r;have b:a[K]?.getD undef=.pointer (some ⟨g,0,none⟩):=by simpa using y
 have t:=jM (P:=prog) w g R 155 #[.int .u64 n,.int .u64 D,.int .u64 k,.slice L E z,.slice N F A,.slice O G B,.slice Q H C] d _ s underlying155 rfl (by kernel_rfl);simp[results,U,b,asAddr,t,Result.andThen]
def Qa:M:=.agg #[.int .u64 2,.int .u64 1,.int .u64 0,.slice none 0 0,.slice none 0 0,.slice none 0 0,.slice none 0 0]
def Fu(R:Nat)(ac:DK)(w:J)(ba:bR w R ac)(hn:ac.files.length<=100000000)(W:Pow w)(e:∀bb∈ac.files.map bY.name,bb=⟨#[108,111,103,45,49]⟩):Calls prog 121 #[.pointer (some ⟨R,0,none⟩)] w λal w'=>al=.returned (.tuple #[Qa,.nilIface])/\I (λ_=>False) w w':=by
 have l:I (λ_=>False) w ((w.alloc (.cells #[.int .u64 0,.int .u64 0,.int .u64 0,.slice none 0 0,.slice none 0 0,.slice none 0 0,.slice none 0 0] 155)).alloc (.cells #[.int .u64 2,.int .u64 1,.int .u64 0,.slice none 0 0,.slice none 0 0,.slice none 0 0,.slice none 0 0] 155)):=((I.refl (λ_=>False) w).alloc _).alloc _;have z:((w.alloc (.cells #[.int .u64 0,.int .u64 0,.int .u64 0,.slice none 0 0,.slice none 0 0,.slice none 0 0,.slice none 0 0] 155)).alloc (.cells #[.int .u64 2,.int .u64 1,.int .u64 0,.slice none 0 0,.slice none 0 0,.slice none 0 0,.slice none 0 0] 155)).heap[w.heap.size]?=some (.cells #[.int .u64 0,.int .u64 0,.int .u64 0,.slice none 0 0,.slice none 0 0,.slice none 0 0,.slice none 0 0] 155 (0,0)):=(dL _ (by simp)).trans (az _ rfl);have A:((w.alloc (.cells #[.int .u64 0,.int .u64 0,.int .u64 0,.slice none 0 0,.slice none 0 0,.slice none 0 0,.slice none 0 0] 155)).alloc (.cells #[.int .u64 2,.int .u64 1,.int .u64 0,.slice none 0 0,.slice none 0 0,.slice none 0 0,.slice none 0 0] 155)).heap[w.heap.size+1]?=some (.cells #[.int .u64 2,.int .u64 1,.int .u64 0,.slice none 0 0,.slice none 0 0,.slice none 0 0,.slice none 0 0] 155 (0,0)):=az _ (by simp);have D:=zi R ac _ (ba.ay l (λ_ _=>id)) hn;have O:=Z l;have o:=Z z;have p:=Z A;have HP:=Z W;have HA:=Z e;clear ba W e l z A;go_enter func121,ntmps121
 go_wp2_with fail
 refine D.mono ?_;rintro al w3⟨v3,d,rfl,k,j,c⟩;obtain⟨x3,c3,S⟩:=aC j;subst S;have y:=(Y O).trans c (λ_ Q=>Q.elim);have B:=(c.block _ (ak (Y o)) id).trans (Y o);have C:=(c.block _ (ak (Y p)) id).trans (Y p);have ao:d.length<=100000000:=by have:=k.length_eq;simp at this;omega
 have E:∀x∈d,x=⟨#[108,111,103,45,49]⟩:=λx T=>(Y HA) x (k.mem_iff.1 T);have v:=Z j;have x:=Z y;have q:=Z B;have r:=Z C;have L:=Z E;clear j c y B C E k D;go_wp2;go_loopw [13] (λi wr=>∃(H:Nat),H<=d.length/\i=.int .i64 H/\I (λ_=>False) w3 wr) (λi _=>d.length-(intOf i).toNat)
 case atStart=>exact⟨0,aU _,by go_num,I.refl _ _⟩
 case round=>
  obtain⟨H,hj,rfl,f⟩:=hrel;have b:=(f.block _ (ak (Y q)) id).trans (Y q);have a:=(f.block _ (ak (Y r)) id).trans (Y r);by_cases h:H<d.length
  ·have e1:(H:Int)<(d.length:Int):=by omega
   have e2:(0:Int)<=(H:Int):=by omega
   have F:=FT wr ((Y HP).ay ((Y x).trans f (λ_ Q=>Q.elim)) id);have g:∃ad n,x3=some ⟨ad,n,none⟩/\wr.cell? ⟨ad,n+H,none⟩=some (.string ⟨#[108,111,103,45,49]⟩):=by
    obtain⟨q1,⟨X,q0⟩|⟨ax,K,U,X,an,hc⟩⟩:=cW (Y v)
    ·omega
    ·cases X;refine⟨ax,K,rfl,?_⟩;have V:(strs d)[H]?=some (.string d[H]):=by simp[strs,h]
     rw[(Y L) _ (au h)]at V;exact f.cell (hc _ _ V) id ((Y v).lt ax rfl).2
   obtain⟨ad,n,T,g⟩:=g;subst T;have N:=Z f;have s:=Z b;have t:=Z a;clear f b a;go_wp2_with fail
   refine F.mono ?_;rintro al w4⟨rfl,m⟩;have G:=(m.block _ (ak (Y t)) id).trans (Y t);have y0:w4.cell? ⟨w.heap.size+1,0,none⟩=some (.int .u64 2):=by rw[aj G];rfl
   have P:=Z ((Y N).trans m (λ_ Q=>Q.elim));clear m G F g;go_wp2;go_roundw;case rel=>exact⟨H+1,h,by go_num,Y P⟩
   case measure=>simp[intOf];omega
  ·have e1:¬(H:Int)<(d.length:Int):=by omega
   have y0:wr.cell? ⟨w.heap.size+1,0,none⟩=some (.int .u64 2):=by rw[aj a];rfl
   have G:wr.cell? ⟨w.heap.size+1,1,none⟩=some (.int .u64 1):=by rw[aj a];rfl
   have K:wr.cell? ⟨w.heap.size+1,2,none⟩=some (.int .u64 0):=by rw[aj a];rfl
   have P:wr.cell? ⟨w.heap.size+1,3,none⟩=some (.slice none 0 0):=by rw[aj a];rfl
   have U:wr.cell? ⟨w.heap.size+1,4,none⟩=some (.slice none 0 0):=by rw[aj a];rfl
   have V:wr.cell? ⟨w.heap.size+1,5,none⟩=some (.slice none 0 0):=by rw[aj a];rfl
   have X:wr.cell? ⟨w.heap.size+1,6,none⟩=some (.slice none 0 0):=by rw[aj a];rfl
   have F:∀i,wr.frozen? ⟨w.heap.size,i,none⟩=false:=λi=>by simp[World.frozen?,b]
   have m:∀i,i<7->∃u,wr.cell? ⟨w.heap.size,i,none⟩=some u:=λi t=>by
    rw[aj b];exact⟨_,pB (by simpa using t)⟩
   obtain⟨u0,z0⟩:=m 0 (by omega);obtain⟨u1,z1⟩:=m 1 (by omega);obtain⟨u2,z2⟩:=m 2 (by omega);obtain⟨u3,z3⟩:=m 3 (by omega);obtain⟨u4,z4⟩:=m 4 (by omega);obtain⟨u5,z5⟩:=m 5 (by omega);obtain⟨u6,z6⟩:=m 6 (by omega);have N:=Z f;have s:=Z b;clear f b a m;go_wp2;have g:=aL (i:=6) (u:=.slice none 0 0) (aL (i:=5) (u:=.slice none 0 0) (aL (i:=4) (u:=.slice none 0 0) (aL (i:=3) (u:=.slice none 0 0) (aL (i:=2) (u:=.int .u64 0) (aL (i:=1) (u:=.int .u64 1) (aL (i:=0) (u:=.int .u64 2) (Y s)))))));refine bO (rE rfl _ _ w.heap.size 2 1 0 _ _ _ _ _ _ rfl g ⟨_,_,_,rfl⟩ ⟨_,_,_,rfl⟩ ⟨_,_,_,rfl⟩ ⟨_,_,_,rfl⟩) rfl ?_;refine⟨rfl,?_⟩;have n:=(Y x).trans (Y N) (λ_ Q=>Q.elim);exact((((((n.setCell _ 0 _ (.inr (ai _))).setCell _ 1 _ (.inr (ai _))).setCell _ 2 _ (.inr (ai _))).setCell _ 3 _ (.inr (ai _))).setCell _ 4 _ (.inr (ai _))).setCell _ 5 _ (.inr (ai _))).setCell _ 6 _ (.inr (ai _))
def Rd.ay{S:Nat->Prop}{w w':J}{d:Nat}{a:List Int}{short:Bool}(D:Rd w d a short)(z:I S w w')(r:∀k,S k->d<k):Rd w' d a short:=by
 have h:=D.lt;obtain⟨v,C,A,y⟩:=D;refine⟨v,(z.block d h (λc=>iM _ (r _ c))).trans C,?_,y⟩;rcases A with⟨rfl,rfl⟩|⟨b,o,e,rfl,g,B⟩
 ·exact .inl ⟨rfl,rfl⟩
 ·have:=y b rfl;exact .inr ⟨b,o,e,rfl,g,λk d=>z.cell (B k d) (λc=>by have:=r _ c;omega) (by omega)⟩
structure ot(w0 wr:J)(sb rb mb:Nat)(nx lg bt:Int)(vs:List M)(Ds:List (List ar))(ks:M->Prop)(rest:List Int):Prop where
 box:wr.heap[sb]?=some (.cells (.int .u64 nx:: .int .u64 lg:: .int .u64 bt::vs).toArray 155 (0,0))
 uf:vs.length=4
 vB:Ds.length=4
 rows:∀(j:Nat)(v:M)(D:List ar),vs[j]?=some v->Ds[j]?=some D->wr.ownsRow (mb+1) 233 4 v D.length (cf D)
 ne:∀(j j':Nat)(v v':M)(q:Nat),j≠j'->vs[j]?=some v->vs[j']?=some v'->v.ownBlock=some q->v'.ownBlock≠some q
 set:jd wr mb (.int .u64) ks
 rd:Rd wr rb rest false
 ay:I (λ_=>False) w0 wr
 ord:w0.heap.size<=rb/\rb<sb/\sb<mb/\mb<wr.heap.size
def ot.row{C wr:J}{sb B h:Nat}{A z o:Int}{e:List M}{c:List (List ar)}{y:M->Prop}{a:List Int}(s:ot C wr sb B h A z o e c y a){j:Nat}{v:M}(d:e[j]?=some v):∃D,c[j]?=some D/\wr.ownsRow (h+1) 233 4 v D.length (cf D):=by
 have t:j<4:=by
  rw[<-s.uf];rcases cJ j e.length with r|r
  ·exact r
  ·rw[ci r]at d;cases d
 have g:c[j]?=some (c[j]'(by rw[s.vB];exact t)):=aA _;exact⟨_,g,s.rows j v _ d g⟩
def ot.own{z wr:J}{sb y b:Nat}{s r g:Int}{d:List M}{e:List (List ar)}{ks:M->Prop}{a:List Int}(A:ot z wr sb y b s r g d e ks a){j:Nat}{v:M}(p:d[j]?=some v){q:Nat}(h:v.ownBlock=some q):b<q/\q<wr.heap.size:=by
 obtain⟨D,_,o⟩:=A.row p;have:=aK o q h;omega
def ot.cell{s wr:J}{sb r o:Nat}{q h g:Int}{d:List M}{e:List (List ar)}{ks:M->Prop}{a:List Int}(y:ot s wr sb r o q h g d e ks a)(j:Nat):wr.cell? ⟨sb,3+j,none⟩=d[j]?:=by
 rw[aj y.box,uC 3 j];simp
def ot.read{r wr f:J}{sb d e:Nat}{p o l:Int}{q:List M}{g:List (List ar)}{n:M->Prop}{c a:List Int}(h:ot r wr sb d e p o l q g n c)(b:I (λk=>k=d) wr f)(s:Rd f d a false):ot r f sb d e p o l q g n a where
 box:=(b.block sb (ak h.box) (by have:=h.ord;omega)).trans h.box
 uf:=h.uf
 vB:=h.vB
 rows:=λj v D e s=>b.own (h.rows j v D e s) (λx t w=>by have:=h.own e t;have:=h.ord;omega)
 ne:=h.ne
 set:=h.set.dh (b.block e h.ord.2.2.2 (by have:=h.ord;omega))
 rd:=s
 ay:=h.ay.trans b (λk e=>.inr (by have:=h.ord;omega))
 ord:=⟨h.ord.1,h.ord.2.1,h.ord.2.2.1,ah h.ord.2.2.2 b.size⟩
def ot.still{o wr q:J}{sb l g:Nat}{h f c:Int}{n:List M}{b:List (List ar)}{e:M->Prop}{a:List Int}(s:ot o wr sb l g h f c n b e a)(d:I (λ_=>False) wr q):ot o q sb l g h f c n b e a:=s.read (d.mono (λ_ r=>r.elim)) (s.rd.ay d (λ_ r=>r.elim))
def ot.Hf{s wr e:J}{sb q a:Nat}{p o g:Int}{r:List M}{f:List (List ar)}{x d:M->Prop}{b:List Int}(h:ot s wr sb q a p o g r f x b)(c:wr.grownBy e (some a))(n:jd e a (.int .u64) d):ot s e sb q a p o g r f d b where
 box:=(c.block sb (ak h.box) (by have:=h.ord;intro l;cases l;omega)).trans h.box
 uf:=h.uf
 vB:=h.vB
 rows:=λj v D n t=>(I.bz (S:=λk=>k=a) c (by rintro k⟨⟩;exact .inl rfl)).own (h.rows j v D n t) (λy w l=>by have:=h.own n w;omega)
 ne:=h.ne
 set:=n
 rd:=h.rd.ay (I.bz (S:=λk=>k=a) c (by rintro k⟨⟩;exact .inl rfl)) (λk l=>by have:=h.ord;omega)
 ay:=h.ay.trans (I.bz (S:=λk=>k=a) c (by rintro k⟨⟩;exact .inl rfl)) (λk l=>.inr (by have:=h.ord;have:k=a:=l;omega))
 ord:=⟨h.ord.1,h.ord.2.1,h.ord.2.2.1,ah h.ord.2.2.2 c.size⟩
def ot.ks{x wr:J}{sb r g:Nat}{o e d:Int}{s:List M}{c:List (List ar)}{ks b:M->Prop}{a:List Int}(h:ot x wr sb r g o e d s c ks a)(y:∀k,b k↔ks k):ot x wr sb r g o e d s c b a:={h with set:=h.set.congr y}
def ot.put{w0 wr A:J}{sb rb H:Nat}{X W R:Int}{O:List M}{Ds:List (List ar)}{ks:M->Prop}{D:List Int}{j:Nat}{v E:M}{D':List ar}(B:ot w0 wr sb rb H X W R O Ds ks D)(C:O[j]?=some v)(U:du wr A v E)(ho:A.ownsRow (H+1) 233 4 E D'.length (cf D')):ot w0 (A.setCell ⟨sb,3+j,none⟩ E) sb rb H X W R (O.set j E) (Ds.set j D') ks D:=by
 have G:I (λk=>v.ownBlock=some k) wr A:=I.dU U;have z:=λq=>B.own (q:=q) C;have d:=B.ord;have K:A.heap[sb]?=some (.cells (.int .u64 X:: .int .u64 W:: .int .u64 R::O).toArray 155 (0,0)):=(G.block sb (ak B.box) (λe=>by have:=z _ e;omega)).trans B.box;have s:I (λk=>k=sb) A (A.setCell ⟨sb,3+j,none⟩ E):=(I.refl (λk=>k=sb) A).setCell _ _ _ (.inl rfl);have F:∀q,E.ownBlock=some q->H<q/\q<A.heap.size:=λq g=>by have:=aK ho q g;omega
 refine⟨?_,by rw[fB];exact B.uf,by rw[fB];exact B.vB,?_,?_,?_,?_,?_,?_⟩
 ·rw[aL K,uC 3 j];simp
 ·intro i u y r h;by_cases e:j=i
  ·subst e;rw[eI]at r h;rw[C]at r;obtain⟨D0,o,_⟩:=B.row C;rw[o]at h;cases r;cases h;exact s.own ho (λq g e=>by have:=F q g;omega)
  ·rw[dN e]at r h;have o:=G.own (B.rows i u y r h) (λq g c=>B.ne i j u v q (Ne.symm e) r C g c);exact s.own o (λq g e=>by have:=B.own r g;omega)
 ·intro i i' u u' q y r o g;by_cases e:j=i
  ·subst e;rw[dN y]at o;rw[eI,C]at r;cases r;intro h;change E.ownBlock=some q at g;rcases U.sr with c|⟨ac,c,hy⟩
   ·exact B.ne _ _ _ _ q y C o (c.symm.trans g) h
   ·rw[c]at g;cases g;have:=B.own o h;omega
  ·rw[dN e]at r;by_cases e':j=i'
   ·subst e';rw[eI,C]at o;cases o;intro h;change E.ownBlock=some q at h;rcases U.sr with c|⟨ac,c,hy⟩
    ·exact B.ne _ _ _ _ q y r C g (c.symm.trans h)
    ·rw[c]at h;cases h;have:=B.own r g;omega
   ·rw[dN e']at o;exact B.ne _ _ _ _ q y r o g
 ·exact(B.set.dh (G.block H d.2.2.2 (λe=>by have:=z _ e;omega))).dh (s.block H (ah d.2.2.2 G.size) (by omega))
 ·exact(B.rd.ay G (λk e=>by have:=z _ e;omega)).ay s (λk e=>by have:k=sb:=e;omega)
 ·exact(B.ay.trans G (λk e=>.inr (by have:=z _ e;omega))).trans s (λk e=>.inr (by have:k=sb:=e;omega))
 ·exact⟨d.1,d.2.1,d.2.2.1,by rw[gp];exact ah d.2.2.2 G.size⟩
structure kB(Ms Ds:List (List ar))(i k:Nat):Prop where
 low:∀j,j<i->Ds[j]?=Ms[j]?
 now:∀m,Ms[i]?=some m->Ds[i]?=some (m.take k)
 tT:∀j,i<j->j<4->Ds[j]?=some []
theorem kB.start(c:List (List ar)):kB c [[],[],[],[]] 0 0 where
 low:=λj h=>absurd h (fy j)
 now:=λm _=>rfl
 tT:=λj h d=>by
  rcases j with _|_|_|_|j
  ·omega
  ·rfl
  ·rfl
  ·rfl
  ·omega
theorem kB.sW{c g:List (List ar)}{i:Nat}{m:List ar}(n:kB c g i m.length)(h:c[i]?=some m)(e:c.length=4):kB c g (i+1) 0 where
 low:=λj p=>by
  rcases cJ j i with f|f
  ·exact n.low j f
  ·obtain rfl:j=i:=by omega
   rw[h,n.now m h,bD]
 now:=λh d=>by
  have:i+1<4:=by
   rw[<-e];rcases cJ (i+1) c.length with f|f
   ·exact f
   ·rw[ci f]at d;cases d
  rw[oH];exact n.tT _ (Nat.lt_succ_self i) this
 tT:=λj p e=>n.tT j (by omega) e
theorem kB.one{d g:List (List ar)}{i k:Nat}{m:List ar}(n:kB d g i k)(h:d[i]?=some m):kB d (g.set i (m.take (k+1))) i (k+1)where
 low:=λj e=>by rw[dN (by omega)];exact n.low j e
 now:=λp c=>by
  rw[h]at c;cases c;rw[eI,n.now m h];rfl
 tT:=λj e c=>by rw[dN (by omega)];exact n.tT j e c
theorem kB.all{d c:List (List ar)}(h:kB d c 4 0)(g:d.length=4)(f:c.length=4):c=d:=by
 refine pI (λj=>?_);rcases cJ j 4 with e|e
 ·exact h.low j e
 ·rw[ci (by omega),ci (by omega)]
def sP(c:List (List ar))(i k:Nat):List ar:=(c.take i).flatten++((c[i]?).getD []).take k
theorem IM(c:List (List ar)):sP c 0 0=[]:=by simp[sP]
theorem Ld{c:List (List ar)}{i k:Nat}{m:List ar}(e:c[i]?=some m)(d:k<m.length):sP c i (k+1)=sP c i k++[m[k]]:=by
 unfold sP;rw[e];simp only[gg];rw[aq d,aV]
theorem FL{c:List (List ar)}{i:Nat}{m:List ar}(d:c[i]?=some m):sP c (i+1) 0=sP c i m.length:=by
 unfold sP;rw[d];have e:i<c.length:=by
  rcases cJ i c.length with f|f
  ·exact f
  ·rw[ci f]at d;cases d
 have g:c[i]=m:=by rw[aA e]at d;exact dm d
 simp only[gg,bD,oH,cN];rw[aq e,dl,g];simp
theorem yQ{c:List (List ar)}{i k:Nat}{m:List ar}(d:c[i]?=some m)(l:k<m.length):c.flatten=sP c i k++m[k]::(m.drop (k+1)++(c.drop (i+1)).flatten):=by
 have e:i<c.length:=by
  rcases cJ i c.length with f|f
  ·exact f
  ·rw[ci f]at d;cases d
 have n:c[i]=m:=by rw[aA e]at d;exact dm d
 have g:c.flatten=(c.take i).flatten++(m++(c.drop (i+1)).flatten):=by
  conv=>lhs;rw[<-bF i c,bm e]
  rw[dl,aT,n]
 have h:m.take k++m[k]::m.drop (k+1)=m:=by
  rw[<-bm l,bF]
 unfold sP;rw[d,g];simp only[gg];have j:m++(c.drop (i+1)).flatten=m.take k++m[k]::(m.drop (k+1)++(c.drop (i+1)).flatten):=by
  conv=>lhs;rw[<-h]
  rw[aV];rfl
 rw[j,aV]
theorem FM{c:List (List ar)}{i k:Nat}{m:List ar}(d:(c.flatten.map ar.num).Nodup)(f:c[i]?=some m)(e:k<m.length):∀u∈sP c i k,u.num≠m[k].num:=by
 intro u g h;rw[yQ f e,aN,aY,gE]at d;exact d.2.2 u.num (gL g) m[k].num (by simp) h
theorem IY{c:List (List ar)}{i k:Nat}{m:List ar}(e:c[i]?=some m)(d:k<m.length):m[k]∈c.flatten:=by
 rw[yQ e d];simp
def ml(c:List (List ar))(i:Nat):List Int:=((c.drop i).map kN).flatten
theorem Dl{c:List (List ar)}{i:Nat}{m:List ar}(d:c[i]?=some m):ml c i=le 4 m.length++(m.flatMap qo++ml c (i+1)):=by
 have e:i<c.length:=by
  rcases cJ i c.length with f|f
  ·exact f
  ·rw[ci f]at d;cases d
 have g:c[i]=m:=by rw[aA e]at d;exact dm d
 unfold ml;rw[bm e,aY,aT,g];unfold kN;rw[aV]
theorem IC{c:List (List ar)}{i:Nat}(h:c.length<=i):ml c i=[]:=by
 unfold ml;rw[List.drop_eq_nil_iff.2 h];rfl
theorem LO(t:ar):iq (qo t):=(iq.le 8 _).append ((iq.le 4 _).append ((iq.le 4 _).append (iq.le 4 _)))
theorem wg(m:List ar):iq (m.flatMap qo):=λx d=>by
 obtain⟨t,_,c⟩:=iP.1 d;exact LO t x c
theorem qQ(d:List (List ar))(i:Nat):iq (ml d i):=λx c=>by
 unfold ml at c;obtain⟨l,e,c⟩:=bH.1 c;obtain⟨m,_,rfl⟩:=aZ.1 e;exact((iq.le 4 _).append (wg m)) x c
theorem vA(m:List ar):(m.flatMap qo).length=20*m.length:=by
 have:=lL m;unfold kN at this;rw[ag,bw]at this;omega
theorem uR(c:List (List ar)):∀i,(ml c i).length<=4*c.length+20*c.flatten.length:=by
 intro i;unfold ml;have h:∀L:List (List ar),((L.map kN).flatten).length=4*L.length+20*L.flatten.length:=by
  intro L;induction L with
  |nil=>rfl
  |cons m L d=>
   rw[aY,aT,ag,d,lL,aT,ag,aE];omega
 rw[h];have e:(c.drop i).length<=c.length:=by simp
 have f:(c.drop i).flatten.length<=c.flatten.length:=by
  conv=>rhs;rw[<-bF i c,dl,ag]
  omega
 omega
section
variable{P:Program}(w:J){b:Array Oper}{rest:List Oper}{o:Oper}{a:Act}{Q:Exit->Act->J->Prop}
theorem zV(t:o.guard=none)(n x p:Operand)(G:TypeId)(h:o.op=Op.insert G n x p)(k K:TypeId)(A:P.underlying G=some (.map k K))(r:TypeDesc)(y:P.underlying k=some r)(q:Nat)(l:M->Prop)(z:a.eval n=.map (some q))(L:jd w q r l)(c:M)(g:MapKept.IsKey r c)(C:a.eval x=c)(B:a.eval p=.agg #[])(s:∀d,jd d q r (λx=>l x\/x=c)->w.grownBy d (some q)->d.heap.size=w.heap.size->wpList P b Q rest (a.put o.dst undef) d):wpList P b Q (o::rest) a w:=by
 refine iG t λH f=>?_;obtain⟨d,e,D,E,F⟩:=uk A y L c g;unfold Oper.wp;simp[execOp,h,z,C,B,e,Result.andThen];exact f _ _ (s d D E F)
end
def Eb(a:Nat)(b:List ar):M->Prop:=λx=>x=.int .u64 a\/∃t∈b,x=.int .u64 t.num
def Gx(el l g next a aO:Nat)(b:List (List ar))(w:J)(hT:Steps w)(h4:b.length=4)(ls:next<18446744073709551616)(lr:a<next)(kt:aO<18446744073709551616)(hj:b.flatten.length<=1000000)(h:∀bn∈b.flatten,bn.kP)(cs:(b.flatten.map ar.num).Nodup)(cm:∀bn∈b.flatten,bn.num<next/\bn.num≠a)(L:(fJ next a aO b).length<=g)(fr:el<w.heap.size)(hb:Bytes w (.slice (some ⟨el,l,none⟩) (fJ next a aO b).length g) (fJ next a aO b)):Calls prog 122 #[.slice (some ⟨el,l,none⟩) (fJ next a aO b).length g] w λs w'=>
 ∃x0 d c x1 e c1 x2 f c2 x3 g c3,s=.returned (.tuple #[.agg #[.int .u64 next,.int .u64 a,.int .u64 aO,.slice x0 d c,.slice x1 e c1,.slice x2 f c2,.slice x3 g c3],.bool true])/\(∀(j:Nat)(v:M)(kc:List ar),[Value.slice x0 d c,.slice x1 e c1,.slice x2 f c2,.slice x3 g c3][j]?=some v->b[j]?=some kc->w'.ownsRow w.heap.size 233 4 v kc.length (cf kc))/\I (λ_=>False) w w':=by
 obtain⟨i0,hP,bl,ih,il⟩:=bK Ef
 obtain⟨u0,hW,hY,lg,ll⟩:=bK zr
 have kf:∀(ka:Bool)(w:J),(Op.unary .not (.bool ka)).run prog w=.ok (.bool (!ka)) w:=λ_ _=>rfl
 have lc:=@sx prog
 obtain⟨o,O⟩:∃o,o=le 8 (next:Nat)++(le 8 (a:Nat)++(le 8 (aO:Nat)++ml b 0)):=⟨_,rfl⟩
 have hi:fJ next a aO b=fS o:=by
  rw[O];unfold fJ ml;simp
 have bi:=uR b
 rw[h4]at bi
 have hS:o.length<=21000000:=by
  rw[O];have:=bi 0;simp only[ag,bw];omega
 rw[hi]at L hb|-
 rw[eF]at L hb|-
 have hk:I (λ_=>False) w (w.alloc (.cells #[.int .u64 0,.int .u64 0,.int .u64 0,.slice none 0 0,.slice none 0 0,.slice none 0 0,.slice none 0 0] 155)):=(I.refl _ w).alloc _
 have ei:=sK el l g o _ (hT.alloc (.cells #[.int .u64 0,.int .u64 0,.int .u64 0,.slice none 0 0,.slice none 0 0,.slice none 0 0,.slice none 0 0] 155)) L (by omega) (hb.alloc _)
 have ha:(w.alloc (.cells #[.int .u64 0,.int .u64 0,.int .u64 0,.slice none 0 0,.slice none 0 0,.slice none 0 0,.slice none 0 0] 155)).heap[w.heap.size]?=some (.cells #[.int .u64 0,.int .u64 0,.int .u64 0,.slice none 0 0,.slice none 0 0,.slice none 0 0,.slice none 0 0] 155 (0,0)):=az _ rfl
 have fs:Bytes w (.slice (some ⟨el,l,none⟩) o.length g) o:=by
  unfold fS at hb;rcases hb with⟨s,_⟩|⟨n,q,p,s,f,e⟩
  ·cases s
  ·simp only[Value.slice.injEq,lT,Addr.mk.injEq]at s;obtain⟨⟨rfl,rfl,_⟩,_,rfl⟩:=s;refine .inr ⟨_,_,_,rfl,by omega,λk V=>?_⟩;have:=e k (by simp;omega);rw[fH V]at this;exact this
 obtain⟨PL,eb⟩:∃PL,o.length=PL:=⟨_,rfl⟩
 rw[eb]at ei|-
 have hw:=Z fs
 have hI:=Z hk
 have ba:=Z ha
 have hF:=Z eb
 have bv:=Z O
 have et:=Z cs
 have hB:=Z h
 have es:=Z cm
 have W:=Z bi
 have H4:=Z h4
 have Q:=Z hj
 clear hb fs L hi hS hk ha eb O cs h cm bi h4 hj hT
 go_enter func122,ntmps122
 go_wp2_with fail
 refine ei.mono ?_
 rintro s w1⟨rfl,bg⟩
 have bf:I (λ_=>False) w w1:=(Y hI).trans (I.aR (S:=λ_=>False) bg) (λ_ U=>U.elim)
 have X:=Z (I.aR (S:=λ_=>False) bg)
 have ec:=(I.aR (S:=λ_=>False) bg).block _ (ak (Y ba)) id|>.trans (Y ba)
 have fn:Bytes w1 (.slice (some ⟨el,l,none⟩) PL g) o:=by
  rw[<-Y hF];exact(Y hw).below (bf.below (ai _) (λ_ U=>U.elim)) (λk V=>by cases V;exact fr)
 have hU:=bf.size
 have hc:=ak ec
 have gt:=iN (.slice (some ⟨el,l,none⟩) PL g) o w1 fn (by intro k V;cases V;show el<w1.heap.size;omega)
 have cb:=Z bf
 have ea:=Z ec
 clear ei bg bf ec fn
 go_wp2_with fail
 refine gt.mono ?_
 rintro s w2⟨rfl,c,bk⟩
 subst bk
 obtain⟨d,ee⟩:∃d,w1.heap.size=d:=⟨_,rfl⟩
 have bT:=Z ((Y X).alloc (.cells #[.slice (some ⟨el,l,none⟩) PL g,.bool false] 341))
 have bl:(w.alloc (.cells #[.int .u64 0,.int .u64 0,.int .u64 0,.slice none 0 0,.slice none 0 0,.slice none 0 0,.slice none 0 0] 155)).heap.size<=d:=by have:=(Y X).size;omega
 have fd:=Z ((Y cb).alloc (.cells #[.slice (some ⟨el,l,none⟩) PL g,.bool false] 341))
 have hG:=Z ((dL (.cells #[.slice (some ⟨el,l,none⟩) PL g,.bool false] 341) (ak (Y ea))).trans (Y ea))
 have hV:d<(w1.alloc (.cells #[.slice (some ⟨el,l,none⟩) PL g,.bool false] 341)).heap.size:=by simp[ee]
 rw[ee]at c|-
 rw[Y bv]at c
 have kl:w.heap.size<d:=by omega
 clear gt ee cb ea bv
 generalize w1.alloc (.cells #[.slice (some ⟨el,l,none⟩) PL g,.bool false] 341)=w2 at*
 have gf:=vh d (next:Nat) _ w2 c ((iq.le 8 _).append ((iq.le 8 _).append (qQ b 0))) (by have:=(Y W) 0;have:=Y Q;simp only[ag,bw];omega) (by omega) (by omega)
 clear c
 go_wp2_with fail
 refine gf.mono ?_
 rintro s w3⟨rfl,cM,fx⟩
 have gi:=vh d (a:Nat) _ w3 cM ((iq.le 8 _).append (qQ b 0)) (by have:=(Y W) 0;have:=Y Q;simp only[ag,bw];omega) (by omega) (by omega)
 have eo:=Z fx
 clear cM fx gf
 go_wp2_with fail
 refine gi.mono ?_
 rintro s w4⟨rfl,cT,fz⟩
 have gj:=vh d (aO:Nat) _ w4 cT (qQ b 0) (by have:=(Y W) 0;have:=Y Q;omega) (by omega) (by omega)
 have eq:=Z fz
 clear cT fz gi
 go_wp2_with fail
 refine gj.mono ?_
 rintro s r⟨rfl,db,fL⟩
 have ax:I (λk=>k=d) w2 r:=((I.bz (S:=λk=>k=d) (Y eo) (by rintro k⟨⟩;exact .inl rfl)).trans (I.bz (S:=λk=>k=d) (Y eq) (by rintro k⟨⟩;exact .inl rfl)) (λ_ bb=>.inl bb)).trans (I.bz (S:=λk=>k=d) fL (by rintro k⟨⟩;exact .inl rfl)) (λ_ bb=>.inl bb)
 have ca:=Z ((Y bT).trans ax (λk V=>.inr (by have:k=d:=V;omega)))
 have hd:d<r.heap.size:=by have:=ax.size;omega
 have bx:=Z db
 clear db fL gj ax eo eq fd hG bT X
 have y:jd ((r.alloc (.cells #[.int .u64 next,.int .u64 a,.int .u64 aO,.slice none 0 0,.slice none 0 0,.slice none 0 0,.slice none 0 0] 155)).alloc (.map #[] 0)) (r.heap.size+1) (.int .u64) (λ_=>False):=by
  have:=jd.new (r.alloc (.cells #[.int .u64 next,.int .u64 a,.int .u64 aO,.slice none 0 0,.slice none 0 0,.slice none 0 0,.slice none 0 0] 155)) (.int .u64);have s:(r.alloc (.cells #[.int .u64 next,.int .u64 a,.int .u64 aO,.slice none 0 0,.slice none 0 0,.slice none 0 0,.slice none 0 0] 155)).heap.size=r.heap.size+1:=by simp
  rw[s]at this;exact this
 have fu:((r.alloc (.cells #[.int .u64 next,.int .u64 a,.int .u64 aO,.slice none 0 0,.slice none 0 0,.slice none 0 0,.slice none 0 0] 155)).alloc (.map #[] 0)).heap[r.heap.size]?=some (.cells #[.int .u64 next,.int .u64 a,.int .u64 aO,.slice none 0 0,.slice none 0 0,.slice none 0 0,.slice none 0 0] 155 (0,0)):=(dL _ (by simp)).trans (az _ rfl)
 have H:=Z y
 have em:=Z fu
 clear y fu
 go_wp2_with((refine zV _ rfl _ _ _ 294 rfl 103 94 underlying294 (.int .u64) underlying103 (r.heap.size+1) _ rfl (Y H) (.int .u64 a) rfl rfl rfl ?_;intro w8 he gb hs;have fb:=Z he;have dT:=Z gb;have fe:=Z hs;clear he gb hs))
 have hA0:ot (w.alloc (.cells #[.int .u64 0,.int .u64 0,.int .u64 0,.slice none 0 0,.slice none 0 0,.slice none 0 0,.slice none 0 0] 155)) w8 r.heap.size d (r.heap.size+1) next a aO [.slice none 0 0,.slice none 0 0,.slice none 0 0,.slice none 0 0] [[],[],[],[]] (Eb a (sP b 0 0)) (ml b 0):=by
  have e:I (λk=>k=r.heap.size+1) r w8:=(((I.refl (λk=>k=r.heap.size+1) r).alloc _).alloc _).trans (I.bz (S:=λk=>k=r.heap.size+1) (Y dT) (by rintro k⟨⟩;exact .inl rfl)) (λ_ U=>.inl U);refine⟨?_,rfl,rfl,?_,?_,(Y fb).congr (λk=>?_),(Y bx).ay e (λk V=>by have:k=r.heap.size+1:=V;omega),(Y ca).trans e (λk V=>.inr (by have:k=r.heap.size+1:=V;omega)),⟨bl,hd,by omega,?_⟩⟩
  ·exact((Y dT).block _ (by simp;omega) (by intro s;have:=dm s;omega)).trans (Y em)
  ·intro j v T C hT;have s:v=.slice none 0 0/\T=[]:=by
    rcases j with _|_|_|_|j<;>simp at C hT<;>exact⟨C.symm,hT⟩
   rw[s.1,s.2];exact bC _ _ _ _
  ·intro j f v n kb _ C _ hq;have s:v=.slice none 0 0:=by
    rcases j with _|_|_|_|j<;>simp at C<;>exact C.symm
   rw[s]at hq;cases hq
  ·unfold Eb;rw[IM];simp
  ·rw[Y fe];simp
 have dx:=Z hA0
 obtain⟨sb,hf⟩:∃sb,r.heap.size=sb:=⟨_,rfl⟩
 rw[hf]at dx|-
 obtain⟨mb,gn⟩:∃mb,sb+1=mb:=⟨_,rfl⟩
 rw[gn]at dx|-
 have cn:∀(i:Nat)(m:List ar),b[i]?=some m->m.length<=1000000:=λi m R=>by
  have h1:=Y Q;have h2:m.length<=b.flatten.length:=by
   have:m∈b:=gl R;exact lZ (cu this)
  omega
 have hC:=Z cn
 clear hA0 fb dT fe H em bx ca hf gn cn hd hU hc hV bl
 go_wp2_with fail
 go_loopw [35] (λc wr=>∃(i:Nat)(vs:List M)(Ds:List (List ar)),i<=4/\c=.int .i64 i/\ot (w.alloc (.cells #[.int .u64 0,.int .u64 0,.int .u64 0,.slice none 0 0,.slice none 0 0,.slice none 0 0,.slice none 0 0] 155)) wr sb d mb next a aO vs Ds (Eb a (sP b i 0)) (ml b i)/\kB b Ds i 0) (λc _=>4-(intOf c).toNat)
 case atStart=>exact⟨0,_,_,aU _,rfl,Y dx,kB.start b⟩
 case round=>
  obtain⟨i,vs,Ds,lp,rfl,n,bc⟩:=hrel;by_cases gk:i<4
  ·have ge:i<b.length:=by rw[Y H4];exact gk
   obtain⟨m,R⟩:∃m,b[i]?=some m:=⟨_,aA ge⟩;have lb:=(Y hC) i m R;have ef:=n.rd;rw[Dl R]at ef;have hr:=oa d (m.length:Nat) _ wr ef ((wg m).append (qQ b (i+1))) (by have:=(Y W) (i+1);have:=Y Q;rw[ag,vA];omega) (by omega) (by omega);have HA:=Z n;have hH:=Z bc;have HM:=Z R;have e1:(i:Int)<4:=by omega
   clear n bc R ef ge;go_wp2_with fail
   refine hr.mono ?_;rintro s w9⟨rfl,dc,gc⟩;have hv:=Z ((Y HA).read (I.bz (S:=λk=>k=d) gc (by rintro k⟨⟩;exact .inl rfl)) dc);clear dc gc hr HA;go_wp2_with fail
   go_loopw [9] (λc e=>∃(k:Nat)(vs:List M)(Ds:List (List ar)),k<=m.length/\c=.int .u32 (m.length-k:Nat)/\ot (w.alloc (.cells #[.int .u64 0,.int .u64 0,.int .u64 0,.slice none 0 0,.slice none 0 0,.slice none 0 0,.slice none 0 0] 155)) e sb d mb next a aO vs Ds (Eb a (sP b i k)) ((m.drop k).flatMap qo++ml b (i+1))/\kB b Ds i k) (λc _=>(intOf c).toNat)
   case atStart=>exact⟨0,_,_,aU _,rfl,by rw[sE];exact Y hv,Y hH⟩
   case round=>
    obtain⟨k,ek,kq,V,rfl,hA2,x⟩:=hrel;by_cases q:k<m.length
    ·have R:=Y HM;have an:=IY R q;have h:=(Y hB) _ an;have ed:=(Y es) _ an;have fv:=FM (Y et) R q;have hh:=Ld R q;have dk:=x.one R (k:=k);have hl:m.take (k+1)=m.take k++[m[k]]:=aq q;have fl:=x.now m R;have c:=hA2.rd;rw[bm q,cF,aV]at c;have hO:((m.drop (k+1)).flatMap qo++ml b (i+1)).length<=100000000:=by
      have:=(Y W) (i+1);have:=Y Q;have h1:(m.drop (k+1)).length<=m.length:=by simp
      rw[ag,vA];omega
     have bd:iq ((m.drop (k+1)).flatMap qo++ml b (i+1)):=(wg _).append (qQ b (i+1));generalize hR:(m.drop (k+1)).flatMap qo++ml b (i+1)=ks at c hO bd|-;have HR:=Z hR;clear hR;generalize m[k]=bn at*;unfold qo at c;simp only[aV]at c;have kv:=uw (dz bn.ks);have kx:=wv (dz bn.ks);have q1:=h.num;have q2:=h.d;have q3:=h.i;have gr:bn.qh=[.int .u64 bn.num,.int .u32 (cC bn.cs).length,.int .u32 (dz bn.ks).length,.int .u32 (jv (dz bn.ks))]:=rfl;have cp:¬Eb a (sP b i k) (.int .u64 bn.num):=by
      rintro(U|⟨u,hu,U⟩)
      ·simp only[Value.int.injEq,true_and]at U;exact ed.2 (by omega)
      ·simp only[Value.int.injEq,true_and]at U;exact fv u hu (by omega)
     have cl:∀ka,Eb a (sP b i (k+1)) ka↔(Eb a (sP b i k) ka\/ka=.int .u64 bn.num):=λka=>by
      unfold Eb;rw[hh];simp only[aw,bE];constructor
      ·rintro(U|⟨u,hu|rfl,U⟩)
       ·exact .inl (.inl U)
       ·exact .inl (.inr ⟨u,hu,U⟩)
       ·exact .inr U
      ·rintro((U|⟨u,hu,U⟩)|U)
       ·exact .inl U
       ·exact .inr ⟨u,.inl hu,U⟩
       ·exact .inr ⟨bn,.inr rfl,U⟩
     have kd:=ed.1;have hy:=Z cl;have hD:=Z cp;have hA:=Z gr;have hJ:=Z hl;have hx:=Z fl;have ev:=Z dk;clear cl cp gr hl fl dk hh fv ed an h x R;generalize bn.num=z at*;generalize(cC bn.cs).length=P at*;generalize(dz bn.ks).length=D at*;generalize jv (dz bn.ks)=A at*;have a1:iq (le 4 A++ks):=(iq.le 4 _).append bd;have a2:iq (le 4 (D:Nat)++(le 4 A++ks)):=(iq.le 4 _).append a1;have a3:iq (le 4 (P:Nat)++(le 4 (D:Nat)++(le 4 A++ks))):=(iq.le 4 _).append a2;have hn:=vh d (z:Nat) _ wr c a3 (by simp only[ag,bw];omega) (by omega) (by omega);have ht:=Z hA2;have I1:=Z a1;have I2:=Z a2;have IR:=Z bd;have e2:(0:Int)<((m.length-k:Nat):Int):=by omega
     clear hA2 c a1 a2 a3 bd;go_wp2_with fail
     refine hn.mono ?_;rintro s ip⟨rfl,cv,cd⟩;have bk:=oa d (P:Nat) _ ip cv (Y I2) (by simp only[ag,bw];omega) (by omega) (by omega);have bq:=Z cd;clear cv cd hn;go_wp2_with fail
     refine bk.mono ?_;rintro s it⟨rfl,cx,ce⟩;have ho:=oa d (D:Nat) _ it cx (Y I1) (by simp only[ag,bw];omega) (by omega) (by omega);have br:=Z ce;clear cx ce bk;go_wp2_with fail
     refine ho.mono ?_;rintro s iu⟨rfl,cB,ch⟩;have hp:=oa d A _ iu cB (Y IR) (by omega) (by omega) (by omega);have bs:=Z ch;clear cB ch ho;go_wp2_with fail
     refine hp.mono ?_;rintro s E⟨rfl,cE,cj⟩;have ds:I (λk=>k=d) wr E:=(((I.bz (S:=λk=>k=d) (Y bq) (by rintro k⟨⟩;exact .inl rfl)).trans (I.bz (S:=λk=>k=d) (Y br) (by rintro k⟨⟩;exact .inl rfl)) (λ_ bb=>.inl bb)).trans (I.bz (S:=λk=>k=d) (Y bs) (by rintro k⟨⟩;exact .inl rfl)) (λ_ bb=>.inl bb)).trans (I.bz (S:=λk=>k=d) cj (by rintro k⟨⟩;exact .inl rfl)) (λ_ bb=>.inl bb);have hA13:=(Y ht).read ds cE;have hA14:=hA13.still ((I.refl (λ_=>False) E).alloc (.cells #[.int .u64 z,.int .u32 P,.int .u32 D,.int .u32 A] 233));have hA15:=hA14.still ((I.refl (λ_=>False) _).alloc (.cells #[] 94));have hQ:=vT underlying294 underlying103 hW hY hA14.set (.int .u64 z) rfl false (by simp only[ic,false_iff];exact Y hD);have hg:=Ay d _ false _ hA15.rd;have G:=Z hA15;have hE:=Z (show∀(v:M)(kb:Nat),ek[i]?=some v->v.ownBlock=some kb->kb<E.heap.size fromλv kb C hq=>(hA13.own C hq).2);have t:=Z (show((E.alloc (.cells #[.int .u64 z,.int .u32 P,.int .u32 D,.int .u32 A] 233)).alloc (.cells #[] 94)).heap[E.heap.size]?=some (.cells #[.int .u64 z,.int .u32 P,.int .u32 D,.int .u32 A] 233 (0,0))from(dL _ (by simp)).trans (az _ rfl));clear cE cj ds hA13 hA14 hA15 hp bq br bs;go_wp2_with fail
     refine hg.mono ?_;rintro s iv⟨rfl,kk⟩;subst iv;obtain⟨mk,h⟩:∃mk,E.heap.size=mk:=⟨_,rfl⟩;have hz:=Z h;rw[h]at t|-;clear hQ hg h;generalize(E.alloc (.cells #[.int .u64 z,.int .u32 P,.int .u32 D,.int .u32 A] 233)).alloc (.cells #[] 94)=fk at*;have g0:fk.cell? ⟨mk,0,none⟩=some (.int .u64 z):=by rw[aj (Y t)];rfl
     have g1:fk.cell? ⟨sb,0,none⟩=some (.int .u64 next):=by rw[aj (Y G).box];rfl
     have e3:¬((next:Int)<=(z:Int)):=by omega
     go_wp2_with(at_mapUpdate;go_loud(refine qc _ rfl _ _ _ 294 rfl 103 94 underlying294 (.int .u64) underlying103 mb _ rfl (Y G).set (.int .u64 z) rfl rfl rfl ?_;intro e dn ck;have ey:=Z dn;have bt:=Z ck;clear dn ck))
     have hA16:=((Y G).Hf (Y bt) (Y ey)).ks (Y hy);have p:=((Y bt).block mk (ak (Y t)) (by intro s;have s:=dm s;obtain⟨lo,ln,la,_⟩:=(Y G).set;have h2:=Y t;rw[s,la]at h2;cases h2)).trans (Y t);have hm:i<ek.length:=by rw[hA16.uf];exact gk
     obtain⟨v,C⟩:∃v,ek[i]?=some v:=⟨_,aA hm⟩;have N:=hA16.rows i v _ C (Y hx);obtain⟨ox,oc,gA⟩:=aC N;have eg:(m.take k).length=k:=by rw[cU];omega
     rw[eg]at N gA;have k0:e.cell? ⟨sb,3+i,none⟩=some v:=(hA16.cell i).trans C;have k1:e.cell? ⟨mk,0,none⟩=some (.int .u64 z):=by rw[aj p];rfl
     have k2:e.cell? ⟨mk,1,none⟩=some (.int .u32 P):=by rw[aj p];rfl
     have k3:e.cell? ⟨mk,2,none⟩=some (.int .u32 D):=by rw[aj p];rfl
     have k4:e.cell? ⟨mk,3,none⟩=some (.int .u32 A):=by rw[aj p];rfl
     have al:=ak hA16.box;have f:=ak p;have gv:=hA16.ord;have eu:=Z N;have bp:=Z hA16;have HV:=Z C;have hK:=Z eg;have e0:(0:Int)<=(i:Int):=by omega
     clear hA16 p N C eg hm g0 g1;subst gA;have K:e.drew.cell? ⟨sb,3+i,none⟩=some (.slice ox k oc)/\e.drew.cell? ⟨mk,0,none⟩=some (.int .u64 z)/\e.drew.cell? ⟨mk,1,none⟩=some (.int .u32 P)/\e.drew.cell? ⟨mk,2,none⟩=some (.int .u32 D)/\e.drew.cell? ⟨mk,3,none⟩=some (.int .u32 A):=by
      rw[aQ,aQ,aQ,aQ,aQ];exact⟨k0,k1,k2,k3,k4⟩
     refine tU (by kernel_rfl) ?_;refine wpAny_take (i:=8) (v:=.pointer (some ⟨sb,3,none⟩)) rfl (by kernel_rfl) (by kernel_rfl) (by kernel_rfl) (λ_ _ _ bb=>bb) (Or.inl ⟨by rfl,λbo=>?_⟩) ?_
     ·go_simp;try with_reducible rfl
     simp only[Act.put,ab,ae,af,av,am,ap];refine kU (S:=λbo=>bo.cell? ⟨sb,3+i,none⟩=some (.slice ox k oc)/\bo.cell? ⟨mk,0,none⟩=some (.int .u64 z)/\bo.cell? ⟨mk,1,none⟩=some (.int .u32 P)/\bo.cell? ⟨mk,2,none⟩=some (.int .u32 D)/\bo.cell? ⟨mk,3,none⟩=some (.int .u32 A)) (m:=10) _ _ _ _ ?_;refine cz 0 ?_;iterate 6 (refine cy (v:=?_) K rfl (by kernel_rfl) (λ_ _ _ bb=>bb) (Or.inl ⟨by rfl,?_⟩) ?_;rotate_left;(focus(rintro bo⟨z0,z1,z2,z3,z4⟩;go_simp;try with_reducible rfl));simp only[Act.put,Nat.reduceAdd,ab,ae,af,av,am,ap])
     refine dG ?_;refine aI (i:=6) rfl rfl (by kernel_rfl) ?_;intro K6 hM;go_simp;refine hM _ _ (λ_=>?_) ?_
     ·rw[aQ,aQ,aQ,aQ,aQ,dE al,dE f,dE f,dE f,dE f];exact⟨k0,k1,k2,k3,k4⟩
     try simp only[Act.put,ab,ae,af,av,am,ap]
     refine aI (i:=7) rfl rfl (by kernel_rfl) ?_;intro K7 hN;try simp only[av,am,ap]
     refine ix (.tmp 81) (.tmp 83) 152 rfl (mb+1) 233 i0 (.agg #[.int .u64 0,.int .u32 0,.int .u32 0,.int .u32 0]) 4 24 underlying152 hP bl ih il rfl (by decide) (.slice ox k oc) k (cf (m.take k)) rfl (hZ (aM (Y eu) (.cells #[.int .u64 z,.int .u32 P,.int .u32 D,.int .u32 A] 233)) rfl) ⟨e.heap.size,0,none⟩ 1 1 [.int .u64 z,.int .u32 P,.int .u32 D,.int .u32 A] rfl rfl (xE _ _ _ _ _ rfl) (by simp[Value.oneCell']) (by omega) (by omega) (by simp;omega) ?_;intro v3 F ao dv;have ej:du (e.alloc (.cells #[.int .u64 z,.int .u32 P,.int .u32 D,.int .u32 A] 233)) F (.slice ox k oc) v3:=du.of_heap dv rfl;have hA17:=(Y bp).still ((I.refl (λ_=>False) e).alloc (.cells #[.int .u64 z,.int .u32 P,.int .u32 D,.int .u32 A] 233));have cc:=hA17.put (D':=m.take (k+1)) (Y HV) ej (by rw[Y hJ,ze,Y hA,ag,Y hK];exact ao);have B:=I.dU ej;have gs:(Value.slice ox k oc).ownBlock≠some sb:=λs=>by have:=((Y eu).lt sb s).1;omega
     have bh:(Value.slice ox k oc).ownBlock≠some mk:=λs=>by have:=(Y hE) _ _ (Y HV) s;have:=Y hz;omega
     have s0:F.cell? ⟨sb,3+i,none⟩=some (.slice ox k oc):=B.cell (by rw[dE al];exact k0) gs (by simp;omega);have s1:F.cell? ⟨mk,0,none⟩=some (.int .u64 z):=B.cell (by rw[dE f];exact k1) bh (by simp;omega);have s2:F.cell? ⟨mk,1,none⟩=some (.int .u32 P):=B.cell (by rw[dE f];exact k2) bh (by simp;omega);have s3:F.cell? ⟨mk,2,none⟩=some (.int .u32 D):=B.cell (by rw[dE f];exact k3) bh (by simp;omega);have s4:F.cell? ⟨mk,3,none⟩=some (.int .u32 A):=B.cell (by rw[dE f];exact k4) bh (by simp;omega);have ad:=(B.block sb (by simp;omega) gs).trans ((dL _ al).trans (Y bp).box);have f0:F.frozen? ⟨sb,3+i,none⟩=false:=by simp[World.frozen?,ad]
     obtain⟨x3,c3,hX⟩:=aC ao;subst hX;refine hN _ _ (λ_=>⟨s0,s1,s2,s3,s4⟩) ?_;try simp only[Act.put,ab,ae,af,av,am,ap]
     refine da (i:=9) (v:=?_) rfl rfl (by kernel_rfl) (by kernel_rfl) (by kernel_rfl) (by kernel_rfl) (λ_ _ _ bb=>bb) (Or.inl ⟨by rfl,?_⟩) (bj s0 (bj s1 (bj s2 (bj s3 s4)))) ?_;rotate_left
     ·rintro bo⟨z0,z1,z2,z3,z4⟩;go_simp;try with_reducible rfl
     simp only[Act.put,ab,ae,af,av,am,ap];refine aI (i:=10) rfl rfl (by kernel_rfl) ?_;intro hL ac;have en:=Z cc;clear cc hA17 ej B ao dv ad s1 s2 s3 s4 k0 k1 k2 k3 k4 K;go_simp;refine ac _ _ (λU=>(U rfl).elim) ?_;refine cr (by kernel_rfl) ?_ _;have ex:=Z (Y ev);have a5:IntKind.u32.wrap (((m.length-k:Nat):Int)-1)=((m.length-(k+1):Nat):Int):=by rw[IntKind.wrap_u32];omega
     go_wp2;go_roundw;case rel=>exact⟨k+1,_,_,q,rfl,by rw[Y HR];exact Y en,Y ex⟩
     case measure=>simp[intOf];omega
    ·have p:k=m.length:=by omega
     subst p;rw[eJ,qz,cL,<-FL (Y HM)]at hA2;have e:=Z (x.sW (Y HM) (Y H4));have f:=Z hA2;have e5:¬((0:Int)<((m.length-m.length:Nat):Int)):=by omega
     clear hA2 x;go_wp2;go_roundw;case rel=>exact⟨i+1,_,_,by omega,by go_num,Y f,Y e⟩
     case measure=>simp[intOf];omega
  ·have bq:i=4:=by omega
   subst bq;rw[IC (Nat.le_of_eq (Y H4))]at n;have ao:=bc.all (Y H4) n.vB;subst ao;have x:=th d [] false wr n.rd (by simp);simp only[mT,me,pY]at x;have br:=n.uf;obtain⟨v0,v1,v2,v3,rfl⟩:∃v0 v1 v2 v3,vs=[v0,v1,v2,v3]:=by
    rcases vs with _|⟨v0,_|⟨v1,_|⟨v2,_|⟨v3,_|⟨v4,cj⟩⟩⟩⟩⟩<;>simp at br;exact⟨_,_,_,_,rfl⟩
   obtain⟨A,bt,o0⟩:=n.row (j:=0) rfl;obtain⟨B,cc,o1⟩:=n.row (j:=1) rfl;obtain⟨D,cd,o2⟩:=n.row (j:=2) rfl;obtain⟨E,ce,o3⟩:=n.row (j:=3) rfl;obtain⟨x0,F,rfl⟩:=aC o0;obtain⟨x1,G,rfl⟩:=aC o1;obtain⟨x2,N,rfl⟩:=aC o2;obtain⟨x3,P,rfl⟩:=aC o3;have hR:=(n.ay.block _ (ak (Y ba)) id).trans (Y ba);have gv:=n.ord;have r0:wr.cell? ⟨sb,0,none⟩=some (.int .u64 next):=by rw[aj n.box];rfl
   have r1:wr.cell? ⟨sb,1,none⟩=some (.int .u64 a):=by rw[aj n.box];rfl
   have r2:wr.cell? ⟨sb,2,none⟩=some (.int .u64 aO):=by rw[aj n.box];rfl
   have r3:wr.cell? ⟨sb,3,none⟩=some (.slice x0 A.length F):=by rw[aj n.box];rfl
   have r4:wr.cell? ⟨sb,4,none⟩=some (.slice x1 B.length G):=by rw[aj n.box];rfl
   have r5:wr.cell? ⟨sb,5,none⟩=some (.slice x2 D.length N):=by rw[aj n.box];rfl
   have r6:wr.cell? ⟨sb,6,none⟩=some (.slice x3 E.length P):=by rw[aj n.box];rfl
   have HA:=Z n;have z:=Z hR;have e5:¬((4:Int)<4):=by omega
   have e6:(a:Int)<(next:Int):=by omega
   clear n bc o0 o1 o2 o3 hR;go_wp2_with fail
   rename_i QQ KK bh;refine bM (λbo=>bo.cell? ⟨sb,0,none⟩=some (.int .u64 next)/\bo.cell? ⟨sb,1,none⟩=some (.int .u64 a)/\bo.cell? ⟨sb,2,none⟩=some (.int .u64 aO)/\bo.cell? ⟨sb,3,none⟩=some (.slice x0 A.length F)/\bo.cell? ⟨sb,4,none⟩=some (.slice x1 B.length G)/\bo.cell? ⟨sb,5,none⟩=some (.slice x2 D.length N)/\bo.cell? ⟨sb,6,none⟩=some (.slice x3 E.length P)) 11 (by kernel_rfl) ?_;have f:wr.drew.heap[w.heap.size]?=_:=Y z;have t:=Z ((Y HA).still (bS (λ_=>False) wr));have K:wr.drew.cell? ⟨sb,0,none⟩=some (.int .u64 next)/\wr.drew.cell? ⟨sb,1,none⟩=some (.int .u64 a)/\wr.drew.cell? ⟨sb,2,none⟩=some (.int .u64 aO)/\wr.drew.cell? ⟨sb,3,none⟩=some (.slice x0 A.length F)/\wr.drew.cell? ⟨sb,4,none⟩=some (.slice x1 B.length G)/\wr.drew.cell? ⟨sb,5,none⟩=some (.slice x2 D.length N)/\wr.drew.cell? ⟨sb,6,none⟩=some (.slice x3 E.length P):=by
    rw[aQ,aQ,aQ,aQ,aQ,aQ,aQ];exact⟨r0,r1,r2,r3,r4,r5,r6⟩
   have x:=th d [] false wr.drew (Y t).rd (by simp);simp only[mT,me,pY]at x;clear r0 r1 r2 r3 r4 r5 r6 HA z;generalize wr.drew=an at*;refine cz 0 ?_;iterate 2 (refine cy (v:=?_) K rfl (by kernel_rfl) (λ_ _ _ bb=>bb) (Or.inl ⟨by rfl,?_⟩) ?_;rotate_left;(focus(rintro bo⟨z0,z1,z2,z3,z4,z5,z6⟩;go_simp;try with_reducible rfl));simp only[Act.put,Nat.reduceAdd,ab,ae,af,av,am,ap])
   refine dG ?_;refine aI (i:=2) rfl rfl (by kernel_rfl) ?_;intro K2 bd;go_simp;refine x.mono ?_;rintro s w'⟨rfl,ch⟩;subst w';refine bd _ _ (λ_=>K) ?_;try simp only[Act.put,ab,ae,af,av,am,ap]
   refine cz 3 ?_;iterate 7 (refine cy (v:=?_) K rfl (by kernel_rfl) (λ_ _ _ bb=>bb) (Or.inl ⟨by rfl,?_⟩) ?_;rotate_left;(focus(rintro bo⟨z0,z1,z2,z3,z4,z5,z6⟩;go_simp;try with_reducible rfl));simp only[Act.put,Nat.reduceAdd,ab,ae,af,av,am,ap])
   refine dG ?_;refine aI (i:=10) rfl rfl (by kernel_rfl) ?_;intro hL ac;have bp:∀i,an.frozen? ⟨w.heap.size,i,none⟩=false:=λi=>by simp[World.frozen?,f]
   have t0:an.cell? ⟨w.heap.size,0,none⟩=some (.int .u64 0):=by rw[aj f];rfl
   have t1:an.cell? ⟨w.heap.size,1,none⟩=some (.int .u64 0):=by rw[aj f];rfl
   have t2:an.cell? ⟨w.heap.size,2,none⟩=some (.int .u64 0):=by rw[aj f];rfl
   have t3:an.cell? ⟨w.heap.size,3,none⟩=some (.slice none 0 0):=by rw[aj f];rfl
   have t4:an.cell? ⟨w.heap.size,4,none⟩=some (.slice none 0 0):=by rw[aj f];rfl
   have t5:an.cell? ⟨w.heap.size,5,none⟩=some (.slice none 0 0):=by rw[aj f];rfl
   have t6:an.cell? ⟨w.heap.size,6,none⟩=some (.slice none 0 0):=by rw[aj f];rfl
   have z:=Z f;clear f;go_simp;have y:=aL (i:=6) (u:=.slice x3 E.length P) (aL (i:=5) (u:=.slice x2 D.length N) (aL (i:=4) (u:=.slice x1 B.length G) (aL (i:=3) (u:=.slice x0 A.length F) (aL (i:=2) (u:=.int .u64 aO) (aL (i:=1) (u:=.int .u64 a) (aL (i:=0) (u:=.int .u64 next) (Y z)))))));have p:=(((((((I.refl (λk=>k=w.heap.size) an).setCell w.heap.size 0 (.int .u64 next) (.inl rfl)).setCell w.heap.size 1 (.int .u64 a) (.inl rfl)).setCell w.heap.size 2 (.int .u64 aO) (.inl rfl)).setCell w.heap.size 3 (.slice x0 A.length F) (.inl rfl)).setCell w.heap.size 4 (.slice x1 B.length G) (.inl rfl)).setCell w.heap.size 5 (.slice x2 D.length N) (.inl rfl)).setCell w.heap.size 6 (.slice x3 E.length P) (.inl rfl);generalize(((((((an.setCell ⟨w.heap.size,0,none⟩ (.int .u64 next)).setCell ⟨w.heap.size,1,none⟩ (.int .u64 a)).setCell ⟨w.heap.size,2,none⟩ (.int .u64 aO)).setCell ⟨w.heap.size,3,none⟩ (.slice x0 A.length F)).setCell ⟨w.heap.size,4,none⟩ (.slice x1 B.length G)).setCell ⟨w.heap.size,5,none⟩ (.slice x2 D.length N)).setCell ⟨w.heap.size,6,none⟩ (.slice x3 E.length P))=W9 at*;have q:sb≠w.heap.size:=by
    have h1:(w.alloc (.cells #[.int .u64 0,.int .u64 0,.int .u64 0,.slice none 0 0,.slice none 0 0,.slice none 0 0,.slice none 0 0] 155)).heap.size=w.heap.size+1:=by simp
    omega
   have e:=ak (Y t).box;refine ac _ _ (λ_=>⟨p.cell K.1 q e,p.cell K.2.1 q e,p.cell K.2.2.1 q e,p.cell K.2.2.2.1 q e,p.cell K.2.2.2.2.1 q e,p.cell K.2.2.2.2.2.1 q e,p.cell K.2.2.2.2.2.2 q e⟩) ?_;try simp only[Act.put,ab,ae,af,av,am,ap]
   refine aI (i:=11) rfl rfl (by kernel_rfl) ?_;intro bs al;have H:=Z y;have ad:=Z p;clear y p q t0 t1 t2 t3 t4 t5 t6 bp K x;go_simp;refine al _ _ (λU=>(U rfl).elim) ?_;refine cr (by kernel_rfl) ?_ _;show KK _ _;refine bh _ _ ?_;go_wp2;refine bO (rE rfl _ _ w.heap.size next a aO _ _ _ _ _ _ rfl (Y H) ⟨_,_,_,rfl⟩ ⟨_,_,_,rfl⟩ ⟨_,_,_,rfl⟩ ⟨_,_,_,rfl⟩) rfl ?_;refine⟨x0,A.length,F,x1,B.length,G,x2,D.length,N,x3,E.length,P,rfl,?_,?_⟩
   ·intro j v kc C hD;have hr:=(Y t).rows j v kc C hD;refine gI ((Y ad).own hr (λkb hq s=>?_)) ?_
    ·have:=(Y t).own C hq;have h1:(w.alloc (.cells #[.int .u64 0,.int .u64 0,.int .u64 0,.slice none 0 0,.slice none 0 0,.slice none 0 0,.slice none 0 0] 155)).heap.size=w.heap.size+1:=by simp
     have:kb=w.heap.size:=s;omega
    ·omega
   ·exact((((I.refl (λ_=>False) w).alloc _).trans (Y t).ay (λ_ U=>U.elim)).trans (Y ad) (λk s=>.inr (by have:k=w.heap.size:=s;omega)))
def Jc(v:Nat)(K:DK)(w:J)(H:bR w v K)(N:K.files.length<=100000000)(D:Pow w)(h:∀Q∈K.files.map bY.name,Q=⟨#[108,111,103,45,49]⟩)(C:cR (vw K.files) eS=none):Calls prog 77 #[.pointer (some ⟨v,0,none⟩)] w λF P=>F=.returned (.tuple #[Qa,.nilIface])/\I (λ_=>False) w P:=by
 obtain⟨b,c⟩:∃b,w.alloc (.cells #[.int .u64 0,.int .u64 0,.int .u64 0,.slice none 0 0,.slice none 0 0,.slice none 0 0,.slice none 0 0] 155)=b:=⟨_,rfl⟩;obtain⟨g,a⟩:∃g,b.alloc (.cells #[.string eS,.int .i64 10] 227)=g:=⟨_,rfl⟩;have n:I (λ_=>False) w b:=by rw[<-c];exact(I.refl (λ_=>False) w).alloc _
 have f:I (λ_=>False) w g:=by rw[<-a];exact n.alloc _
 have j:b.heap[w.heap.size]?=some (.cells #[.int .u64 0,.int .u64 0,.int .u64 0,.slice none 0 0,.slice none 0 0,.slice none 0 0,.slice none 0 0] 155 (0,0)):=by rw[<-c];exact az _ rfl
 have q:g.heap[w.heap.size]?=some (.cells #[.int .u64 0,.int .u64 0,.int .u64 0,.slice none 0 0,.slice none 0 0,.slice none 0 0,.slice none 0 0] 155 (0,0)):=by rw[<-a];exact(dL _ (ak j)).trans j
 have r:g.cell? ⟨b.heap.size,1,none⟩=some (.int .i64 10):=by
  have:g.heap[b.heap.size]?=some (.cells #[.string eS,.int .i64 10] 227 (0,0)):=by rw[<-a];exact az _ rfl
  rw[aj this];rfl
 have e:=AF v K eS b (H.ay n (λ_ _=>id)) C;rw[a]at e;unfold eS at e;have s:=Hg b.heap.size 10 g r;have k:=Fu v K g (H.ay f (λ_ _=>id)) N (D.ay f id) h;unfold Qa at k|-;have y:=Z f;have p:=Z q;have A:=Z c;clear H D h C n f j q c a r;go_enter func77,ntmps77
 go_wp2_with fail
 rw[Y A];refine e.mono ?_;rintro F B⟨rfl,O⟩;subst B;go_wp2_with fail
 refine s.mono ?_;rintro F B⟨rfl,O⟩;subst B;go_wp2_with fail
 refine k.mono ?_;rintro F E⟨rfl,o⟩;have d:=(o.block _ (ak (Y p)) id).trans (Y p);have R:∀i,E.frozen? ⟨w.heap.size,i,none⟩=false:=λi=>by simp[World.frozen?,d]
 have z:∀i,i<7->∃u,E.cell? ⟨w.heap.size,i,none⟩=some u:=λi L=>by
  rw[aj d];exact⟨_,pB (by simpa using L)⟩
 obtain⟨u0,S⟩:=z 0 (by omega);obtain⟨u1,T⟩:=z 1 (by omega);obtain⟨u2,U⟩:=z 2 (by omega);obtain⟨u3,V⟩:=z 3 (by omega);obtain⟨u4,W⟩:=z 4 (by omega);obtain⟨u5,X⟩:=z 5 (by omega);obtain⟨u6,z6⟩:=z 6 (by omega);have G:=Z ((Y y).trans o (λ_ c=>c.elim));have x:=Z d;clear o d z e s k;go_wp2;have t:=aL (i:=6) (u:=.slice none 0 0) (aL (i:=5) (u:=.slice none 0 0) (aL (i:=4) (u:=.slice none 0 0) (aL (i:=3) (u:=.slice none 0 0) (aL (i:=2) (u:=.int .u64 0) (aL (i:=1) (u:=.int .u64 1) (aL (i:=0) (u:=.int .u64 2) (Y x)))))));refine bO (rE rfl _ _ w.heap.size 2 1 0 _ _ _ _ _ _ rfl t ⟨_,_,_,rfl⟩ ⟨_,_,_,rfl⟩ ⟨_,_,_,rfl⟩ ⟨_,_,_,rfl⟩) rfl ?_;refine⟨rfl,?_⟩;exact(((((((Y G).setCell _ 0 _ (.inr (ai _))).setCell _ 1 _ (.inr (ai _))).setCell _ 2 _ (.inr (ai _))).setCell _ 3 _ (.inr (ai _))).setCell _ 4 _ (.inr (ai _))).setCell _ 5 _ (.inr (ai _))).setCell _ 6 _ (.inr (ai _))
end Go.Proofs.YtophdnlmpfmeiaaGreatDoor
