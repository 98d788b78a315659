import Derived.Test.YtophdnlmpfmeiaaGreatDoorC22
namespace Go.Proofs.YtophdnlmpfmeiaaGreatDoor
open ChangeShapes WideShapes RowKit Proofs.Tryz
set_option maxHeartbeats 16000000
set_option linter.all false
set_option maxRecDepth 100000
def rF{c:Func}{G u:Tmp}(Q:c.results=#[.cell G 107,.tmp u])(a:Array M)(w:J)(g:Nat)(e f h l:M)(O:TypeId)(d:Nat×Nat)(t:a.getD G undef=.pointer (some ⟨g,0,none⟩))(r:w.heap[g]?=some (.cells #[e,f,h,l] O d))(m:∃x n k,e=.slice x n k)(o:∃x n k,f=.slice x n k)(p:∃x n k,h=.slice x n k)(q:∃x n k,l=.slice x n k):(results c a).run prog w=.ok (.tuple #[.agg #[e,f,h,l],a.getD u undef]) w:=by
 obtain⟨H,C,y,rfl⟩:=m;obtain⟨K,D,z,rfl⟩:=o;obtain⟨L,E,A,rfl⟩:=p;obtain⟨N,F,B,rfl⟩:=q;have b:a[G]?.getD undef=.pointer (some ⟨g,0,none⟩):=by simpa using t
 have s:=jM (P:=prog) w g O 107 #[.slice H C y,.slice K D z,.slice L E A,.slice N F B] d _ r underlying107 rfl (by kernel_rfl);simp[results,Q,b,asAddr,s,Result.andThen]
def BT{w:J}{g:Nat}{c d e f a' b' c' d':M}{t:TypeId}{a:Nat×Nat}(h:w.heap[g]?=some (.cells #[c,d,e,f] t a)):((((w.setCell ⟨g,0,none⟩ a').setCell ⟨g,1,none⟩ b').setCell ⟨g,2,none⟩ c').setCell ⟨g,3,none⟩ d').heap[g]?=some (.cells #[a',b',c',d'] t a):=by
 have b:=aL (i:=3) (u:=d') (aL (i:=2) (u:=c') (aL (i:=1) (u:=b') (aL (i:=0) (u:=a') h)));rw[b];simp
def JO(V:gz)(E y f d:Nat)(L r s:Option Addr)(K p q c1 c2 c3:Nat)(c h B C:List ar)(w:J)(bd:Row w 1 (.slice (some ⟨y,f,none⟩) c.length d) c.length (c.map ar.ptr))(G:y<E/\¬V.F y)(bo:∀cx∈c,kA V E cx.tb cx.ks cx.cs w)(h1:nI V E (.slice L K c1) h w)(ca:Row w 1 (.slice r p c2) B.length (B.map ar.ptr))(cb:Row w 1 (.slice s q c3) C.length (C.map ar.ptr))(an:∀k,Value.ownBlock (.slice r p c2)=some k->k<E)(ao:∀k,Value.ownBlock (.slice s q c3)=some k->k<E)(hD:V.D w)(n:E<=w.heap.size)(hF:∀k,V.F k->k<E)(hT:Steps w)(ba:1<E/\¬V.F 1)(cE:c.length+h.length+B.length+C.length<=1000000)(a:Bool)(X:a=(B.isEmpty&&C.isEmpty))(hg:∀dn∈nC a c h,dn.Good)(hl:(dt ⟨#[]⟩ (bN h::c.map ar.all)).length<=1000000):Calls prog 106 #[.agg #[.slice (some ⟨y,f,none⟩) c.length d,.slice L K c1,.slice r p c2,.slice s q c3],.int .i64 0] w λP u=>∃v nm t,∃b:List ar,P=.returned (.tuple #[.agg #[.slice none 0 0,.slice v nm t,.slice r p c2,.slice s q c3],.nilIface])/\u.ownsRow w.heap.size 199 1 (.slice v nm t) b.length (b.map ar.ptr)/\b.map ar.all=jf (nC a c h)/\nH u w.heap.size b/\V.D u/\I V.F w u:=by
 have hW:I (λ_=>False) w ((w.alloc (.cells #[.slice (some ⟨y,f,none⟩) c.length d,.slice L K c1,.slice r p c2,.slice s q c3] 107)).alloc (.cells #[.slice none 0 0,.slice none 0 0,.slice none 0 0,.slice none 0 0] 107)):=((I.refl _ w).alloc _).alloc _;generalize Q:(w.alloc (.cells #[.slice (some ⟨y,f,none⟩) c.length d,.slice L K c1,.slice r p c2,.slice s q c3] 107)).alloc (.cells #[.slice none 0 0,.slice none 0 0,.slice none 0 0,.slice none 0 0] 107)=ad at hW;have ax:ad.heap[w.heap.size]?=some (.cells #[.slice (some ⟨y,f,none⟩) c.length d,.slice L K c1,.slice r p c2,.slice s q c3] 107 (0,0)):=by rw[<-Q];exact(dL _ (by simp)).trans (az _ rfl)
 have bp:ad.heap[w.heap.size+1]?=some (.cells #[.slice none 0 0,.slice none 0 0,.slice none 0 0,.slice none 0 0] 107 (0,0)):=by rw[<-Q];exact az _ (by simp)
 have H:∀N,I (λ_=>False) w N->ia V E (λ_=>False) w N:=λN ht=>ht.same n (λ_ D=>D.elim) (λ_ D=>D.elim);have bv:∀N,N.heap=ad.heap->xQ N w.heap.size 0 [(.slice (some ⟨y,f,none⟩) c.length d,c),(.slice L K c1,h),(.slice r p c2,B),(.slice s q c3,C)]:=by
  intro N ac;have x:∀bf ts,Row w 1 bf (List.length ts) (ts.map ar.ptr)->(∀k,bf.ownBlock=some k->k<E)->Row N 1 bf ts.length (ts.map ar.ptr):=by
   intro bf ts hr l;have bt:=hW.row hr (λk P=>⟨id,ah (l k P) n⟩);obtain⟨q1,q2|⟨cs,cp,bc,q2,q3,q4⟩⟩:=bt
   ·exact⟨q1,.inl q2⟩
   ·exact⟨q1,.inr ⟨cs,cp,bc,q2,q3,λj u a=>(bI (w:=ad) (by rw[ac])).trans (q4 j u a)⟩⟩
  have hz:w.heap.size<=N.heap.size:=by rw[ac];exact hW.size
  have e:∀O bf,(#[Value.slice (some ⟨y,f,none⟩) c.length d,.slice L K c1,.slice r p c2,.slice s q c3]:Array M)[O]?=some bf->N.cell? ⟨w.heap.size,0+O,none⟩=some bf:=by
   intro O bf hv;rw[bI (w:=ad) (by rw[ac]),aj ax,cw];exact hv
  refine⟨rfl,λO z=>?_,λO z=>?_,λO z k l=>?_,by simp[jm];omega⟩
  ·match O,z with
   |0,_=>exact e 0 _ rfl
   |1,_=>exact e 1 _ rfl
   |2,_=>exact e 2 _ rfl
   |3,_=>exact e 3 _ rfl
  ·match O,z with
   |0,_=>exact x _ _ bd (λk P=>by cases P;exact G.1)
   |1,_=>exact x _ _ h1.row (λk P=>(h1.loc k P).1)
   |2,_=>exact x _ _ ca an
   |3,_=>exact x _ _ cb ao
  ·match O,z with
   |0,_=>cases l;exact ah G.1 (aB n hz)
   |1,_=>exact ah (h1.loc k l).1 (aB n hz)
   |2,_=>exact ah (an k l) (aB n hz)
   |3,_=>exact ah (ao k l) (aB n hz)
 have R:∀cd,Calls prog 156 #[.pointer (some ⟨w.heap.size,0,none⟩),.int .i64 2] (ad.drewN cd) λP u=>P=.returned (.bool a)/\u=ad.drewN cd:=by
  intro cd;have bn:=sV (ad.drewN cd) w.heap.size 0 2 _ (bv _ rfl) (by omega);have x:gN [(Value.slice (some ⟨y,f,none⟩) c.length d,c),(.slice L K c1,h),(.slice r p c2,B),(.slice s q c3,C)] 2=a:=by rw[X];simp[gN]
  rw[x]at bn;exact bn
 have S:∀cd,Calls prog 155 #[.slice (some ⟨y,f,none⟩) c.length d,.slice L K c1,.bool a] (ad.drewN cd) λP u=>∃e,∃b:List ar,P=.returned (.tuple #[e,.nilIface])/\u.ownsRow ad.heap.size 199 1 e b.length (b.map ar.ptr)/\b.map ar.all=jf (nC a c h)/\nH u ad.heap.size b/\V.D u/\I V.F (ad.drewN cd) u:=by
  intro cd;have x:I (λ_=>False) w (ad.drewN cd):=hW.of_heap rfl;have hs:=H _ x;refine ui V E y f d (.slice L K c1) c h a (ad.drewN cd) ?_ G (λcx ht=>(bo cx ht).same hs) (by omega) (h1.same hs) (V.dF hD x (λ_ D=>D.elim)) (aB n x.size) hF (hT.same hs ba) ba hg hl;intro O z;obtain⟨_,⟨D,_⟩|⟨b',bc,ac,D,_,hc⟩⟩:=bd.same hs (λk P=>by cases P;exact G)
  ·cases D
  ·cases D;refine hc O _ ?_;rw[cP,aA z];rfl
 have bg:=Z ax;have bh:=Z bp;have cj:=Z R;have ck:=Z S;have HW:=Z hW;have bx:∀k,E<=k->¬V.F k:=λk l D=>by have:=hF k D;omega
 have al:=Z bx;have cv:∀b:List ar,b.map ar.all=jf (nC a c h)->b.length<=100000000:=by
  intro b bn;have:=bB List.length bn;simp[jf]at this;have x:(nC a c h).length<=1000000:=aB (iE _ _).length_le hl;unfold fK at this;omega
 have cn:=Z Q;have db:=hW.size;clear bd G bo h1 ca cb an ao hD hF hT ba X hg hl ax bp H bv R S hW bx Q;go_enter func106,ntmps106
 go_wp2_with fail
 go_quiet(fail)
 rw[Y cn];have R:=(Y cj) nq;have S:=(Y ck) nq;go_wp2_with fail
 refine R.mono ?_;rintro P F⟨rfl,cM⟩;subst F;go_wp2_with fail
 refine S.mono ?_;rintro P F⟨dk,b,rfl,W,bb,bT,bq,cc⟩;have o:I V.F ad F:=(ft V.F ad nq).trans cc (λ_ bn=>.inl bn);obtain⟨m,j,rfl⟩:=aC W;have br:=(o.block _ (ak (Y bg)) ((Y al) _ n)).trans (Y bg);have bs:=(o.block _ (ak (Y bh)) ((Y al) _ (by omega))).trans (Y bh);have cT:=o.size;have hC:Calls prog 104 #[.slice (some ⟨F.heap.size,0,none⟩) 3 3] (F.alloc (.cells #[.slice none 0 0,.slice m b.length j,.slice none 0 0] 105)) λP u=>∃x,P=.returned x/\u.ownsRow w.heap.size 199 1 x b.length (b.map ar.ptr)/\I (λ_=>False) F u:=by
  have e:∀O bf,(#[Value.slice none 0 0,.slice m b.length j,.slice none 0 0]:Array M)[O]?=some bf->(F.alloc (.cells #[.slice none 0 0,.slice m b.length j,.slice none 0 0] 105)).cell? ⟨F.heap.size,0+O,none⟩=some bf:=by
   intro O bf hv;rw[aj (az _ rfl),cw];exact hv
  have ac:Row (F.alloc (.cells #[.slice none 0 0,.slice m b.length j,.slice none 0 0] 105)) 1 (.slice m b.length j) b.length (b.map ar.ptr):=cW (aM W _);have bn:=pt F.heap.size 0 3 [(.slice none 0 0,[]),(.slice m b.length j,b),(.slice none 0 0,[])] (F.alloc (.cells #[.slice none 0 0,.slice m b.length j,.slice none 0 0] 105)) ?_ (by simp) ?_ ?_ (by simp) (by simp[jm];exact cv b bb)
  ·have e1:jm [(Value.slice none 0 0,[]),(.slice m b.length j,b),(.slice none 0 0,[])]=b.length:=by simp[jm]
   have e2:kW [(Value.slice none 0 0,[]),(.slice m b.length j,b),(.slice none 0 0,[])]=b.map ar.ptr:=by simp[kW]
   rw[e1,e2]at bn;refine bn.mono ?_;rintro P u⟨x,rfl,ho,ht⟩;exact⟨x,rfl,gI ho (by simp;omega),((I.refl (λ_=>False) F).alloc _).trans ht (λ_ D=>D.elim)⟩
  ·intro O z;match O,z with
   |0,_=>exact e 0 _ rfl
   |1,_=>exact e 1 _ rfl
   |2,_=>exact e 2 _ rfl
  ·intro O z;match O,z with
   |0,_=>exact⟨rfl,.inl ⟨rfl,rfl⟩⟩
   |1,_=>exact ac
   |2,_=>exact⟨rfl,.inl ⟨rfl,rfl⟩⟩
  ·intro O z k l;match O,z with
   |0,_=>cases l
   |1,_=>have:=(aK W k l).2;simp;omega
   |2,_=>cases l
 have cl:=Z bT;have ch:=Z bq;have cm:=Z o;have ce:=Z bb;have bk:=Z br;have bl:=Z bs;clear W bb bT bq cc o br bs;go_wp2_with fail
 refine hC.mono ?_;rintro P i⟨dc,rfl,U,A⟩;obtain⟨v,t,rfl⟩:=aC U;have sq:=(A.block _ (ak (Y bk)) id).trans (Y bk);have g:=(A.block _ (ak (Y bl)) id).trans (Y bl);have p0:i.cell? ⟨w.heap.size,0,none⟩=some (.slice (some ⟨y,f,none⟩) c.length d):=by rw[aj sq];rfl
 have p1:i.cell? ⟨w.heap.size,1,none⟩=some (.slice L K c1):=by rw[aj sq];rfl
 have p2:i.cell? ⟨w.heap.size,2,none⟩=some (.slice r p c2):=by rw[aj sq];rfl
 have p3:i.cell? ⟨w.heap.size,3,none⟩=some (.slice s q c3):=by rw[aj sq];rfl
 have f0:i.frozen? ⟨w.heap.size,0,none⟩=false:=cG sq;have f1:i.frozen? ⟨w.heap.size,1,none⟩=false:=cG sq;have q0:i.cell? ⟨w.heap.size+1,0,none⟩=some (.slice none 0 0):=by rw[aj g];rfl
 have q1:i.cell? ⟨w.heap.size+1,1,none⟩=some (.slice none 0 0):=by rw[aj g];rfl
 have q2:i.cell? ⟨w.heap.size+1,2,none⟩=some (.slice none 0 0):=by rw[aj g];rfl
 have q3:i.cell? ⟨w.heap.size+1,3,none⟩=some (.slice none 0 0):=by rw[aj g];rfl
 have g0:i.frozen? ⟨w.heap.size+1,0,none⟩=false:=cG g;have g1:i.frozen? ⟨w.heap.size+1,1,none⟩=false:=cG g;have g2:i.frozen? ⟨w.heap.size+1,2,none⟩=false:=cG g;have g3:i.frozen? ⟨w.heap.size+1,3,none⟩=false:=cG g;have bi:=Z (show∀wf,wf=(((((i.setCell ⟨w.heap.size,0,none⟩ (.slice none 0 0)).setCell ⟨w.heap.size,1,none⟩ (.slice v b.length t)).setCell ⟨w.heap.size+1,0,none⟩ (.slice none 0 0)).setCell ⟨w.heap.size+1,1,none⟩ (.slice v b.length t)).setCell ⟨w.heap.size+1,2,none⟩ (.slice r p c2)).setCell ⟨w.heap.size+1,3,none⟩ (.slice s q c3)->wf.heap[w.heap.size+1]?=some (.cells #[.slice none 0 0,.slice v b.length t,.slice r p c2,.slice s q c3] 107 (0,0))/\wf.ownsRow w.heap.size 199 1 (.slice v b.length t) b.length (b.map ar.ptr)/\nH wf w.heap.size b/\V.D wf/\I V.F w wf from by
  rintro wf rfl;have hx:(((i.setCell ⟨w.heap.size,0,none⟩ (.slice none 0 0)).setCell ⟨w.heap.size,1,none⟩ (.slice v b.length t))).heap[w.heap.size+1]?=some (.cells #[.slice none 0 0,.slice none 0 0,.slice none 0 0,.slice none 0 0] 107 (0,0)):=(eP _ (by omega)).trans ((eP _ (by omega)).trans g);have x:I (λk=>k=w.heap.size\/k=w.heap.size+1) i ((((((i.setCell ⟨w.heap.size,0,none⟩ (.slice none 0 0)).setCell ⟨w.heap.size,1,none⟩ (.slice v b.length t)).setCell ⟨w.heap.size+1,0,none⟩ (.slice none 0 0)).setCell ⟨w.heap.size+1,1,none⟩ (.slice v b.length t)).setCell ⟨w.heap.size+1,2,none⟩ (.slice r p c2)).setCell ⟨w.heap.size+1,3,none⟩ (.slice s q c3)):=((((((I.refl _ i).setCell _ 0 _ (.inl (.inl rfl))).setCell _ 1 _ (.inl (.inl rfl))).setCell _ 0 _ (.inl (.inr rfl))).setCell _ 1 _ (.inl (.inr rfl))).setCell _ 2 _ (.inl (.inr rfl))).setCell _ 3 _ (.inl (.inr rfl));have cp:=BT (a':=.slice none 0 0) (b':=.slice v b.length t) (c':=.slice r p c2) (d':=.slice s q c3) hx;generalize(((((i.setCell ⟨w.heap.size,0,none⟩ (.slice none 0 0)).setCell ⟨w.heap.size,1,none⟩ (.slice v b.length t)).setCell ⟨w.heap.size+1,0,none⟩ (.slice none 0 0)).setCell ⟨w.heap.size+1,1,none⟩ (.slice v b.length t)).setCell ⟨w.heap.size+1,2,none⟩ (.slice r p c2)).setCell ⟨w.heap.size+1,3,none⟩ (.slice s q c3)=wf at*;have ac:∀k,(k=w.heap.size\/k=w.heap.size+1)->∃cs,i.heap[k]?=some (.cells cs 107 (0,0)):=by
   rintro k(rfl|rfl)
   ·exact⟨_,sq⟩
   ·exact⟨_,g⟩
  refine⟨cp,x.own U (λk l D=>?_),?_,V.dF (V.dF (Y ch) A (λ_ D=>D.elim)) x (λk l=>(Y al) k (by rcases l with D|D<;>omega)),?_⟩
  ·obtain⟨cs,bc⟩:=ac k D;obtain⟨cB,bt⟩:=dS U l;exact fj bc bt (by decide) rfl
  ·refine(((Y cl).ay A).other x (λk l=>?_)).base (by omega);obtain⟨cs,bc⟩:=ac k l;exact⟨cs,_,_,bc,by decide,by decide,by decide⟩
  ·exact((((Y HW).mono (T:=V.F) (λ_ D=>D.elim)).trans (Y cm) (λ_ bn=>.inl bn)).trans A (λ_ D=>D.elim)).trans x (λk l=>.inr (by rcases l with D|D<;>omega)))
 clear U A sq g hC;go_wp2;obtain⟨r1,r2,r3,r4,r5⟩:=(Y bi) _ rfl;refine bO (rF rfl _ _ (w.heap.size+1) (.slice none 0 0) (.slice v b.length t) (.slice r p c2) (.slice s q c3) _ _ rfl r1 ⟨_,_,_,rfl⟩ ⟨_,_,_,rfl⟩ ⟨_,_,_,rfl⟩ ⟨_,_,_,rfl⟩) rfl ?_;exact⟨v,b.length,t,b,rfl,r2,Y ce,r3,r4,r5⟩
def mz{us ts:List ar}(h:us.Sublist ts):(bN us).Sublist (bN ts):=by
 induction h with
 |slnil=>exact dJ _
 |cons x _ a=>rw[tN];exact a.trans (eR _ _)
 |cons_cons x _ a=>rw[tN,tN];exact List.Sublist.append (dJ _) a
def jp.sub{us ts:List ar}(h:jp ts)(a:us.Sublist ts):jp us:=⟨λt b=>h.pure t (a.subset b),h.li.sub (mz a)⟩
def DT{w:J}{f c a b:Nat}{d:List ar}(k:ii w (.slice (some ⟨f,c,none⟩) d.length a) d)(e:d.length<=a)(h:b<=d.length):ii w (.slice (if a=b then some ⟨f,c,none⟩else some ⟨f,c+b,none⟩) (d.length-b) (a-b)) (d.drop b):=by
 by_cases j:a=b
 ·have g:d.length=b:=by omega
  rw[dr j,<-g,eJ,uB,show a-d.length=0 by omega];exact k.empty c
 ·rw[dd j];exact k.drop b h
def Hu(a:J)(e f:M)(c d:List ar)(base:Nat)(l:ii a e c)(m:ii a f d)(w:c.length+d.length<=10000000)(x:base<=a.heap.size)(T:TypeId):Calls prog 104 #[.slice (some ⟨a.heap.size,0,none⟩) 2 2] ((a.alloc (.cells #[e,f] T)).drew) λt n=>∃k,t=.returned k/\n.ownsRow base 199 1 k (c++d).length ((c++d).map ar.ptr)/\I (λ_=>False) a n:=by
 have g:I (λ_=>False) a ((a.alloc (.cells #[e,f] T)).drew):=((I.refl _ a).alloc _).of_heap rfl;have b:∀i v,(#[e,f]:Array M)[i]?=some v->((a.alloc (.cells #[e,f] T)).drew).cell? ⟨a.heap.size,0+i,none⟩=some v:=by
  intro i v p;rw[aQ,aj (az _ rfl),cw];exact p
 have u:=pt a.heap.size 0 2 [(e,c),(f,d)] ((a.alloc (.cells #[e,f] T)).drew) ?_ (by simp) ?_ ?_ (by simp) (by simp[jm];omega)
 ·have p:jm [(e,c),(f,d)]=(c++d).length:=by simp[jm]
  have q:kW [(e,c),(f,d)]=(c++d).map ar.ptr:=by simp[kW]
  rw[p,q]at u;refine u.mono ?_;rintro t n⟨k,rfl,r,s⟩;exact⟨k,rfl,gI r (by simp;omega),g.trans s (λ_ c=>c.elim)⟩
 ·intro i j;match i,j with
  |0,_=>exact b 0 _ rfl
  |1,_=>exact b 1 _ rfl
 ·intro i j;match i,j with
  |0,_=>exact g.row l.row (λo h=>⟨id,l.lt o h⟩)
  |1,_=>exact g.row m.row (λo h=>⟨id,m.lt o h⟩)
 ·intro i j o h;match i,j with
  |0,_=>have:=l.lt o h;simp;omega
  |1,_=>have:=m.lt o h;simp;omega
def Ht(a:J)(f g h:M)(c d e:List ar)(base:Nat)(u:Row a 1 f c.length (c.map ar.ptr))(m:∀l,f.ownBlock=some l->l<a.heap.size)(w:Row a 1 g d.length (d.map ar.ptr))(n:∀l,g.ownBlock=some l->l<a.heap.size)(x:Row a 1 h e.length (e.map ar.ptr))(o:∀l,h.ownBlock=some l->l<a.heap.size)(C:c.length+d.length+e.length<=10000000)(D:base<=a.heap.size)(T:TypeId):Calls prog 104 #[.slice (some ⟨a.heap.size,0,none⟩) 3 3] (a.alloc (.cells #[f,g,h] T)) λA r=>∃q,A=.returned q/\r.ownsRow base 199 1 q (c++d++e).length ((c++d++e).map ar.ptr)/\I (λ_=>False) a r:=by
 have k:I (λ_=>False) a (a.alloc (.cells #[f,g,h] T)):=(I.refl _ a).alloc _;have b:∀i v,(#[f,g,h]:Array M)[i]?=some v->(a.alloc (.cells #[f,g,h] T)).cell? ⟨a.heap.size,0+i,none⟩=some v:=by
  intro i v s;rw[aj (az _ rfl),cw];exact s
 have B:=pt a.heap.size 0 3 [(f,c),(g,d),(h,e)] (a.alloc (.cells #[f,g,h] T)) ?_ (by simp) ?_ ?_ (by simp) (by simp[jm];omega)
 ·have s:jm [(f,c),(g,d),(h,e)]=(c++d++e).length:=by simp[jm]
  have t:kW [(f,c),(g,d),(h,e)]=(c++d++e).map ar.ptr:=by simp[kW]
  rw[s,t]at B;refine B.mono ?_;rintro A r⟨q,rfl,y,z⟩;exact⟨q,rfl,gI y (by simp;omega),k.trans z (λ_ c=>c.elim)⟩
 ·intro i p;match i,p with
  |0,_=>exact b 0 _ rfl
  |1,_=>exact b 1 _ rfl
  |2,_=>exact b 2 _ rfl
 ·intro i p;match i,p with
  |0,_=>exact k.row u (λl j=>⟨id,m l j⟩)
  |1,_=>exact k.row w (λl j=>⟨id,n l j⟩)
  |2,_=>exact k.row x (λl j=>⟨id,o l j⟩)
 ·intro i p l j;match i,p with
  |0,_=>have:=m l j;simp;omega
  |1,_=>have:=n l j;simp;omega
  |2,_=>have:=o l j;simp;omega
def JN(bk:gz)(n0 an c a:Nat)(cT E F:Option Addr)(cM cl B t C u:Nat)(ts us bi al:List ar)(w:J)(h1:nI bk n0 (.slice (some ⟨an,c,none⟩) ts.length a) ts w)(gn:ts.length<=a)(hJ:0<ts.length)(h2:nI bk n0 (.slice cT cM cl) us w)(gv:Row w 1 (.slice E B t) bi.length (bi.map ar.ptr))(gA:Row w 1 (.slice F C u) al.length (al.map ar.ptr))(ea:∀k,Value.ownBlock (.slice E B t)=some k->k<n0)(ee:∀k,Value.ownBlock (.slice F C u)=some k->k<n0)(hM:bk.D w)(m:n0<=w.heap.size)(hF:∀k,bk.F k->k<n0)(hT:Steps w)(gf:1<n0/\¬bk.F 1)(iu:ts.length+us.length+bi.length+al.length<=1000000)(hE:nP us<=1000000000)(b:Bool)(cB:b=al.isEmpty)(hN:∀j(R:j<ts.length),∀ws:List ar,ws.Sublist us->∀kk∈nC b [ts[j]] ws,kk.Good)(hO:∀j(R:j<ts.length),∀ws:List ar,ws.Sublist us->(dt ⟨#[]⟩ (bN ws::[ts[j]].map ar.all)).length<=1000000):Calls prog 106 #[.agg #[.slice E B t,.slice (some ⟨an,c,none⟩) ts.length a,.slice cT cM cl,.slice F C u],.int .i64 1] w λQ e=>∃O s H P nm K,∃D:List ar,∃j,∃R:j<ts.length,∃X ac,Q=.returned (.tuple #[.agg #[.slice E B t,.slice O s H,.slice P nm K,.slice F C u],.nilIface])/\vL us (fh ts[j].ks) (fm ts[j].ks) X ac/\e.ownsRow w.heap.size 199 1 (.slice O s H) (ts.take j++ts.drop (j+1)).length ((ts.take j++ts.drop (j+1)).map ar.ptr)/\e.ownsRow w.heap.size 199 1 (.slice P nm K) (us.take X++D++us.drop ac).length ((us.take X++D++us.drop ac).map ar.ptr)/\D.map ar.all=jf (nC b [ts[j]] ((us.drop X).take (ac-X)))/\nH e w.heap.size D/\bk.D e/\I bk.F w e:=by
 have hW:I (λ_=>False) w ((w.alloc (.cells #[.slice E B t,.slice (some ⟨an,c,none⟩) ts.length a,.slice cT cM cl,.slice F C u] 107)).alloc (.cells #[.slice none 0 0,.slice none 0 0,.slice none 0 0,.slice none 0 0] 107)):=((I.refl _ w).alloc _).alloc _;generalize bx:(w.alloc (.cells #[.slice E B t,.slice (some ⟨an,c,none⟩) ts.length a,.slice cT cM cl,.slice F C u] 107)).alloc (.cells #[.slice none 0 0,.slice none 0 0,.slice none 0 0,.slice none 0 0] 107)=bl at hW;have br:bl.heap[w.heap.size]?=some (.cells #[.slice E B t,.slice (some ⟨an,c,none⟩) ts.length a,.slice cT cM cl,.slice F C u] 107 (0,0)):=by rw[<-bx];exact(dL _ (by simp)).trans (az _ rfl)
 have fv:bl.heap[w.heap.size+1]?=some (.cells #[.slice none 0 0,.slice none 0 0,.slice none 0 0,.slice none 0 0] 107 (0,0)):=by rw[<-bx];exact az _ (by simp)
 have ef:∀G,I (λ_=>False) bl G->xQ G w.heap.size 0 [((.slice E B t:M),bi),(.slice (some ⟨an,c,none⟩) ts.length a,ts),(.slice cT cM cl,us),(.slice F C u,al)]:=by
  intro G ch;have U:∀v a,Row w 1 v (List.length a) (a.map ar.ptr)->(∀k,v.ownBlock=some k->k<n0)->Row G 1 v a.length (a.map ar.ptr):=λv a cE d=>
   (hW.trans ch (λ_ h=>h.elim)).row cE (λk Q=>⟨id,ah (d k Q) m⟩)
  have hz:w.heap.size<=G.heap.size:=aB hW.size ch.size;have r:∀i v,(#[.slice E B t,.slice (some ⟨an,c,none⟩) ts.length a,.slice cT cM cl,.slice F C u]:Array M)[i]?=some v->G.cell? ⟨w.heap.size,0+i,none⟩=some v:=by
   intro i v cE;refine ch.cell ?_ id (ak br);rw[aj br,cw];exact cE
  refine⟨rfl,λi hi=>?_,λi hi=>?_,λi hi k d=>?_,by simp[jm];omega⟩
  ·match i,hi with
   |0,_=>exact r 0 _ rfl
   |1,_=>exact r 1 _ rfl
   |2,_=>exact r 2 _ rfl
   |3,_=>exact r 3 _ rfl
  ·match i,hi with
   |0,_=>exact U _ _ gv ea
   |1,_=>exact U _ _ h1.row (λk Q=>(h1.loc k Q).1)
   |2,_=>exact U _ _ h2.row (λk Q=>(h2.loc k Q).1)
   |3,_=>exact U _ _ gA ee
  ·match i,hi with
   |0,_=>exact ah (ea k d) (aB m hz)
   |1,_=>exact ah (h1.loc k d).1 (aB m hz)
   |2,_=>exact ah (h2.loc k d).1 (aB m hz)
   |3,_=>exact ah (ee k d) (aB m hz)
 have el:=hW.size;have gs:∀k,n0<=k->¬bk.F k:=λk d h=>by have:=hF k h;omega
 have bt:∀G,I (λ_=>False) bl G->ia bk n0 (λ_=>False) w G:=λG ht=>(hW.trans ht (λ_ h=>h.elim)).same m (λ_ h=>h.elim) (λ_ h=>h.elim);have bf:∀ac,Calls prog 151 #[.pointer (some ⟨w.heap.size,0,none⟩),.int .i64 1] (bl.drewN ac) λQ e=>∃j:Nat,Q=.returned (.int .i64 j)/\j<ts.length/\I (λ_=>False) bl e:=by
  intro ac;have r:=ft (λ_=>False) bl ac;have U:=ef _ r;refine(vk (bl.drewN ac) w.heap.size 0 1 _ _ ts us (by omega) (U.cell 1 (show 1<4 by omega)) (U.cell 2 (show 2<4 by omega)) U.lt ((h1.same (bt _ r)).mem (aB m el)) ((h2.same (bt _ r)).mem (aB m el)) h2.side.sX hJ hE).mono ?_;rintro Q e⟨j,rfl,R,ch⟩;exact⟨j,rfl,R,r.trans (I.aR (S:=λ_=>False) ch) (λ_ h=>h.elim)⟩
 have ao:=Z br;have eq:=Z fv;have db:=Z ef;have hq:=Z bf;have HW:=Z hW;have bo:=Z gs;have hy:=Z bx;have ba:=Z bt;have H1:=Z h1;have H2:=Z h2;have HD:=Z hM;have HF:=Z hF;have HT:=Z hT;have fl:=Z gf;have HG:=Z hN;have ev:=Z hO;have fe:=Z cB;clear h1 h2 gv gA ea ee hM hF hT gf cB hN hO br fv ef bf hW gs bx bt;go_enter func106,ntmps106
 go_wp2_with fail
 go_quiet(fail)
 rw[Y hy];have bf:=(Y hq) nq;go_wp2_with fail
 refine bf.mono ?_;rintro Q w1⟨j,rfl,R,ej⟩;have gc:=(Y db) w1 ej;have bT:w1.cell? ⟨w.heap.size,1,none⟩=some (.slice (some ⟨an,c,none⟩) ts.length a):=by have:=gc.cell 1 (show 1<4 by omega);simpa using this
 have bn:=Z ej;clear gc ej bf;obtain⟨W,cb⟩:∃W,j+1=W:=⟨_,rfl⟩;have e1:(j:Int)+1=(W:Int):=by omega
 have e2:(j:Int)<=(W:Int):=by omega
 have e3:(W:Int)<=(a:Int):=by omega
 have e4:(W:Int)<=(ts.length:Int):=by omega
 have e5:(j:Int)<=(a:Int):=by omega
 have e6:¬(a=j):=by omega
 have e7:¬(a-j=0):=by omega
 have e8:IntKind.i64.wrap (W:Int)=(W:Int):=by rw[bu];omega
 have e9:(0:Int)<=(j:Int):=by omega
 have il:(ts.length:Int)<=(a:Int):=by omega
 have ip:W-j=1:=by omega
 have HJ:=Z cb;clear cb;have hS:w1.drew.cell? ⟨w.heap.size,1,none⟩=some (.slice (some ⟨an,c,none⟩) ts.length a):=bT;go_wp2_with fail
 rename_i QQ KK gb;refine bM (λhj=>hj.cell? ⟨w.heap.size,1,none⟩=some (.slice (some ⟨an,c,none⟩) ts.length a)) 21 (by kernel_rfl) ?_;refine cz 0 ?_;iterate 18 (refine cy (v:=?_) hS rfl (by kernel_rfl) (λ_ _ _ eo=>eo) (Or.inl ⟨by rfl,?_⟩) ?_;rotate_left;(focus(intro hj hX;go_simp;try with_reducible rfl));simp only[Act.put,Nat.reduceAdd,ab,ae,af])
 refine dG ?_;refine aI (i:=18) rfl rfl (by kernel_rfl) ?_;intro hA x;go_simp;have dx:ii w1 (.slice (some ⟨an,c,none⟩) ts.length a) ts:=(((Y H1).same ((Y ba) w1 (Y bn))).mem (aB m (aB el (Y bn).size)));have it:=(Y bn).size;have o:=Hu w1 _ _ (ts.take j) (ts.drop W) w.heap.size (dx.take j (by omega)) (DT dx gn (by have:=Y HJ;omega)) (by simp;omega) (by omega) 105;refine x _ _ (λ_=>?_) ?_
 ·rw[aQ,dE (by have:=ak (Y ao);omega)];exact bT
 refine aI (i:=19) rfl rfl (by kernel_rfl) ?_;intro hB y;go_simp;refine o.mono ?_;rintro Q q⟨vl,rfl,cd,cj⟩;obtain⟨s,eg⟩:∃s,(ts.take j++ts.drop W).length=s:=⟨_,rfl⟩;rw[eg]at cd;have hs:=Z eg;clear eg;obtain⟨O,H,rfl⟩:=aC cd;have dT:q.cell? ⟨w.heap.size,1,none⟩=some (.slice (some ⟨an,c,none⟩) ts.length a):=cj.cell bT id (by have:=ak (Y ao);omega);refine y _ _ (λ_=>dT) ?_;refine aI (i:=20) rfl rfl (by kernel_rfl) ?_;intro hV cs;go_simp;refine cs _ _ (λ_=>dT) ?_;refine aI (i:=21) rfl rfl (by kernel_rfl) ?_;intro hY cv;go_simp;refine cv _ _ (λh=>(h rfl).elim) ?_;refine cr (by kernel_rfl) ?_ _;show KK _ _;refine gb _ _ ?_;generalize(if a=W then some (⟨an,c,none⟩:Addr)else some ⟨an,c+W,none⟩)=zz at*;have g:I (λ_=>False) bl q:=(Y bn).trans cj (λ_ h=>h.elim);have hv:=Z g;have fd:=Z cd;have kb:=g.size;have bc:ii q (.slice (some ⟨an,c,none⟩) ts.length a) ts:=(((Y H1).same ((Y ba) q g)).mem (by omega));have hD:ii q (.slice cT cM cl) us:=(((Y H2).same ((Y ba) q g)).mem (by omega));have ge:=(Y db) q g;have ec:q.cell? ⟨w.heap.size,2,none⟩=some (.slice cT cM cl):=by have:=ge.cell 2 (show 2<4 by omega);simpa using this
 have hp:=bc.cell R;have ca:∀bl,bl.heap=q.heap->Calls prog 153 #[ts[j].ptr] bl λQ e=>Q=.returned (.string (fh ts[j].ks))/\e=bl:=λbl hW=>((bc.each _ (au R)).of_heap hW).first;have cc:∀bl,bl.heap=q.heap->Calls prog 154 #[ts[j].ptr] bl λQ e=>Q=.returned (.string (fm ts[j].ks))/\∃ac,e=bl.drewN ac:=λbl hW=>((bc.each _ (au R)).of_heap hW).last;have gk:an<q.heap.size:=bc.lt an rfl;have dk:w.heap.size<q.heap.size:=by have:=ak (Y ao);omega
 have hcut:∀G,I (λ_=>False) q G->Calls prog 152 #[.slice cT cM cl,.string (fh ts[j].ks),.string (fm ts[j].ks)] G λQ e=>∃va vb vc,Q=.returned (.tuple #[va,vb,vc])/\(∃X ac,vL us (fh ts[j].ks) (fm ts[j].ks) X ac/\ii e va (us.take X)/\ii e vb ((us.drop X).take (ac-X))/\ii e vc (us.drop ac)/\(∀k,va.ownBlock=some k\/vb.ownBlock=some k\/vc.ownBlock=some k->Value.ownBlock (.slice cT cM cl)=some k))/\I (λ_=>False) q e/\e.cell? ⟨w.heap.size,2,none⟩=some (.slice cT cM cl)/\e.cell? ⟨an,c+j,none⟩=some ts[j].ptr:=by
  intro G r;refine(zn G (.slice cT cM cl) us (fh ts[j].ks) (fm ts[j].ks) (((Y H2).same ((Y ba) G (g.trans r (λ_ h=>h.elim)))).mem (by have:=r.size;omega)) (Y H2).side.sX).mono ?_;rintro Q e⟨X,ac,va,vb,vc,rfl,a1,a2,a3,a4,a5,ch⟩;have U:I (λ_=>False) q e:=r.trans (I.aR (S:=λ_=>False) ch) (λ_ h=>h.elim);exact⟨va,vb,vc,rfl,⟨X,ac,a1,a2,a3,a4,a5⟩,U,U.cell ec id dk,U.cell hp id gk⟩
 clear gb x y cs cv o dx bc hD ge hS dT bT cd cj g;unfold ar.ptr at hp ca cc hcut;have fk:=Z (show∃s1 s2 tb,fh ts[j].ks=s1/\fm ts[j].ks=s2/\ts[j].tb=tb from⟨_,_,_,rfl,rfl,rfl⟩);obtain⟨s1,s2,tb,bp,bq,bb⟩:=Y fk;rw[bp,bq,bb]at hcut;rw[bp,bb]at ca;rw[bq,bb]at cc;rw[bb]at hp;have hn:=Z bp;have ho:=Z bq;clear bp bq bb fk;have et:=Z ca;have ax:=Z cc;have es:=Z hcut;clear ca cc hcut;have g1:IntKind.i64.wrap (2:Int)=2:=by rw[bu];omega
 have bd:q.drew.cell? ⟨w.heap.size,2,none⟩=some (.slice cT cM cl)/\q.drew.cell? ⟨an,c+j,none⟩=some (.pointer (some ⟨tb,0,none⟩)):=⟨ec,hp⟩;go_wp2_with fail
 rename_i Q6 K6;refine bM (λhj=>hj.cell? ⟨w.heap.size,2,none⟩=some (.slice cT cM cl)/\hj.cell? ⟨an,c+j,none⟩=some (.pointer (some ⟨tb,0,none⟩))) 19 (by kernel_rfl) ?_;refine cz 0 ?_;iterate 7 (refine cy (v:=?_) bd rfl (by kernel_rfl) (λ_ _ _ eo=>eo) (Or.inl ⟨by rfl,?_⟩) ?_;rotate_left;(focus(intro hj hX;obtain⟨z0,z1⟩:=hX;go_simp;try with_reducible rfl));simp only[Act.put,Nat.reduceAdd,ab,ae,af])
 refine dG ?_;refine cz 8 ?_;iterate 3 (refine cy (v:=?_) bd rfl (by kernel_rfl) (λ_ _ _ eo=>eo) (Or.inl ⟨by rfl,?_⟩) ?_;rotate_left;(focus(intro hj hX;obtain⟨z0,z1⟩:=hX;go_simp;try with_reducible rfl));simp only[Act.put,Nat.reduceAdd,ab,ae,af])
 refine dG ?_;refine aI (i:=7) rfl rfl (by kernel_rfl) ?_;intro K7 fL;go_simp;refine((Y et) q.drew rfl).mono ?_;rintro Q N⟨rfl,hK⟩;subst N;refine fL _ _ (λ_=>bd) ?_;refine aI (i:=11) rfl rfl (by kernel_rfl) ?_;intro hQ cm;go_simp;refine((Y ax) q.drew rfl).mono ?_;rintro Q N⟨rfl,qq,hK⟩;subst N;refine cm _ _ (λ_=>bd) ?_;refine aI (i:=12) rfl rfl (by kernel_rfl) ?_;intro hR cn;go_simp;refine((Y es) (q.drewN (1+qq)) (ft _ _ _)).mono ?_;rintro Q N⟨va,vb,vc,rfl,hG,ek,bh⟩;refine cn _ _ (λ_=>bh) ?_;refine cz 13 ?_;iterate 4 (refine cy (v:=?_) bh rfl (by kernel_rfl) (λ_ _ _ eo=>eo) (Or.inl ⟨by rfl,?_⟩) ?_;rotate_left;(focus(intro hj hX;obtain⟨z0,z1⟩:=hX;go_simp;try with_reducible rfl));simp only[Act.put,Nat.reduceAdd,ab,ae,af])
 refine dG ?_;refine aI (i:=17) rfl rfl (by kernel_rfl) ?_;intro hU cp;go_simp;refine cp _ _ (λ_=>bh) ?_;refine aI (i:=18) rfl rfl (by kernel_rfl) ?_;intro hA x;go_simp;refine x _ _ (λ_=>bh) ?_;refine aI (i:=19) rfl rfl (by kernel_rfl) ?_;intro hB y;go_simp;refine y _ _ (λh=>(h rfl).elim) ?_;refine cr (by kernel_rfl) ?_ _;show K6 _ _;refine QQ _ _ ?_;obtain⟨X,ac,fx,dn,bs,ds,dv⟩:=hG;clear QQ fL cm cn cp x y bh bd ec hp et ax es;obtain⟨hf,fs,ha⟩:=bA dn.row;obtain⟨en,dc,hb⟩:=bA bs.row;obtain⟨hg,fu,hc⟩:=bA ds.row;generalize(us.take X).length=hd at ha;generalize((us.drop X).take (ac-X)).length=em at hb;generalize(us.drop ac).length=he at hc;subst ha;subst hb;subst hc;have p:I (λ_=>False) bl N:=(Y hv).trans ek (λ_ h=>h.elim);have kc:=p.size;have A:((us.drop X).take (ac-X)).Sublist us:=(lW _ _).trans (jk _ _);have bv:=(Y ba) N p;have hH:Calls prog 156 #[.pointer (some ⟨w.heap.size,0,none⟩),.int .i64 3] N λQ e=>Q=.returned (.bool b)/\e=N:=by
  have eo:=sV N w.heap.size 0 3 _ ((Y db) N p) (by omega);have r:gN [((.slice E B t:M),bi),(.slice (some ⟨an,c,none⟩) ts.length a,ts),(.slice cT cM cl,us),(.slice F C u,al)] 3=b:=by rw[Y fe];simp[gN]
  rw[r]at eo;exact eo
 have hI:Calls prog 155 #[.slice (some ⟨an,c+j,none⟩) 1 (a-j),.slice en em dc,.bool b] N λQ e=>∃f,∃D:List ar,Q=.returned (.tuple #[f,.nilIface])/\e.ownsRow N.heap.size 199 1 f D.length (D.map ar.ptr)/\D.map ar.all=jf (nC b [ts[j]] ((us.drop X).take (ac-X)))/\nH e N.heap.size D/\bk.D e/\I bk.F N e:=by
  have r:=(Y H1).same bv;have U:=(Y H2).same bv;refine ui bk n0 an (c+j) (a-j) (.slice en em dc) [ts[j]] ((us.drop X).take (ac-X)) b N ?_ ((Y H1).loc an rfl) ?_ (by simp) ⟨bs.row,λk d=>(Y H2).loc k (dv k (.inr (.inl d))),λch ht=>U.each ch (A.subset ht),(Y H2).side.sub A,bs.small⟩ (bk.dF (Y HD) ((Y HW).trans p (λ_ h=>h.elim)) (λ_ h=>h.elim)) (by omega) (Y HF) ((Y HT).same bv (Y fl)) (Y fl) ((Y HG) j R _ A) ((Y ev) j R _ A)
  ·intro i hi;obtain rfl:i=0:=by simp at hi;omega
   exact r.cell R
  ·intro ch ht;rw[bE]at ht;subst ht;exact r.each _ (au R)
 have hl:=Z fx;have ax:=Z dn;have ex:=Z ds;have hw:=Z p;have ck:=Z (ek.own (Y fd) (λ_ _ h=>h));have hr:=Z dv;clear fx dn bs ds dv p bv ek fd;go_wp2_with fail
 refine hH.mono ?_;rintro Q w4⟨rfl,iv⟩;subst w4;go_wp2_with fail
 refine hI.mono ?_;rintro Q w4⟨kf,D,rfl,ce,eb,gt,fz,ad⟩;have V:I bk.F bl w4:=((Y hw).mono (T:=bk.F) (λ_ h=>h.elim)).trans ad (λ_ eo=>.inl eo);obtain⟨hL,hC,rfl⟩:=aC ce;have kd:=ad.size;have gi:=(V.block _ (ak (Y ao)) ((Y bo) _ m)).trans (Y ao);have gj:=(V.block _ (ak (Y eq)) ((Y bo) _ (by omega))).trans (Y eq);have z:∀k,Value.ownBlock (.slice hf hd fs)=some k\/Value.ownBlock (.slice en em dc)=some k\/Value.ownBlock (.slice hg he fu)=some k->k<n0/\¬bk.F k:=λk d=>(Y H2).loc k ((Y hr) k d);have cj:D.length<=1000000:=by
  have:=bB List.length eb;simp[jf]at this;have h2:(nC b [ts[j]] ((us.drop X).take (ac-X))).length<=1000000:=aB (iE _ _).length_le ((Y ev) j R _ A);unfold fK at this;omega
 have o:=Ht w4 (.slice hf hd fs) (.slice hL D.length hC) (.slice hg he fu) (us.take X) D (us.drop ac) w.heap.size (ad.row (Y ax).row (λk d=>⟨(z k (.inl d)).2,(Y ax).lt k d⟩)) (λk d=>by have:=(z k (.inl d)).1;omega) (cW ce) (λk d=>(aK ce k d).2) (ad.row (Y ex).row (λk d=>⟨(z k (.inr (.inr d))).2,(Y ex).lt k d⟩)) (λk d=>by have:=(z k (.inr (.inr d))).1;omega) (by simp;omega) (by omega) 105;obtain⟨nm,bg⟩:∃nm,(us.take X++D++us.drop ac).length=nm:=⟨_,rfl⟩;rw[bg]at o;have fb:=Z bg;have cx:=ad.own (Y ck) (λk d=>(Y bo) k (by have:=((aK (Y ck)) k d).1;omega));have ey:=Z cx;have hu:=Z gt;have hm:=Z fz;have hx:=Z V;have hk:=Z eb;have fn:=Z gi;have fr:=Z gj;clear ce eb gt fz ad V gi gj bg cx z;go_wp2_with fail
 refine o.mono ?_;rintro Q l⟨v5,rfl,ei,L⟩;obtain⟨P,K,rfl⟩:=aC ei;have sq:=(L.block _ (ak (Y fn)) id).trans (Y fn);have f:=(L.block _ (ak (Y fr)) id).trans (Y fr);have p0:l.cell? ⟨w.heap.size,0,none⟩=some (.slice E B t):=by rw[aj sq];rfl
 have p1:l.cell? ⟨w.heap.size,1,none⟩=some (.slice (some ⟨an,c,none⟩) ts.length a):=by rw[aj sq];rfl
 have p2:l.cell? ⟨w.heap.size,2,none⟩=some (.slice cT cM cl):=by rw[aj sq];rfl
 have p3:l.cell? ⟨w.heap.size,3,none⟩=some (.slice F C u):=by rw[aj sq];rfl
 have f0:l.frozen? ⟨w.heap.size,1,none⟩=false:=cG sq;have f1:l.frozen? ⟨w.heap.size,2,none⟩=false:=cG sq;have q0:l.cell? ⟨w.heap.size+1,0,none⟩=some (.slice none 0 0):=by rw[aj f];rfl
 have q1:l.cell? ⟨w.heap.size+1,1,none⟩=some (.slice none 0 0):=by rw[aj f];rfl
 have q2:l.cell? ⟨w.heap.size+1,2,none⟩=some (.slice none 0 0):=by rw[aj f];rfl
 have q3:l.cell? ⟨w.heap.size+1,3,none⟩=some (.slice none 0 0):=by rw[aj f];rfl
 have k0:l.frozen? ⟨w.heap.size+1,0,none⟩=false:=cG f;have k1:l.frozen? ⟨w.heap.size+1,1,none⟩=false:=cG f;have k2:l.frozen? ⟨w.heap.size+1,2,none⟩=false:=cG f;have k3:l.frozen? ⟨w.heap.size+1,3,none⟩=false:=cG f;have eu:=Z (show∀U,U=(((((l.setCell ⟨w.heap.size,1,none⟩ (.slice O s H)).setCell ⟨w.heap.size,2,none⟩ (.slice P nm K)).setCell ⟨w.heap.size+1,0,none⟩ (.slice E B t)).setCell ⟨w.heap.size+1,1,none⟩ (.slice O s H)).setCell ⟨w.heap.size+1,2,none⟩ (.slice P nm K)).setCell ⟨w.heap.size+1,3,none⟩ (.slice F C u)->U.heap[w.heap.size+1]?=some (.cells #[.slice E B t,.slice O s H,.slice P nm K,.slice F C u] 107 (0,0))/\U.ownsRow w.heap.size 199 1 (.slice O s H) s ((ts.take j++ts.drop W).map ar.ptr)/\U.ownsRow w.heap.size 199 1 (.slice P nm K) nm ((us.take X++D++us.drop ac).map ar.ptr)/\nH U w.heap.size D/\bk.D U/\I bk.F w U from by
  rintro U rfl;have ka:(((l.setCell ⟨w.heap.size,1,none⟩ (.slice O s H)).setCell ⟨w.heap.size,2,none⟩ (.slice P nm K))).heap[w.heap.size+1]?=some (.cells #[.slice none 0 0,.slice none 0 0,.slice none 0 0,.slice none 0 0] 107 (0,0)):=(eP _ (by omega)).trans ((eP _ (by omega)).trans f);have ch:I (λk=>k=w.heap.size\/k=w.heap.size+1) l ((((((l.setCell ⟨w.heap.size,1,none⟩ (.slice O s H)).setCell ⟨w.heap.size,2,none⟩ (.slice P nm K)).setCell ⟨w.heap.size+1,0,none⟩ (.slice E B t)).setCell ⟨w.heap.size+1,1,none⟩ (.slice O s H)).setCell ⟨w.heap.size+1,2,none⟩ (.slice P nm K)).setCell ⟨w.heap.size+1,3,none⟩ (.slice F C u)):=((((((I.refl _ l).setCell _ 1 _ (.inl (.inl rfl))).setCell _ 2 _ (.inl (.inl rfl))).setCell _ 0 _ (.inl (.inr rfl))).setCell _ 1 _ (.inl (.inr rfl))).setCell _ 2 _ (.inl (.inr rfl))).setCell _ 3 _ (.inl (.inr rfl));have hz:=BT (a':=.slice E B t) (b':=.slice O s H) (c':=.slice P nm K) (d':=.slice F C u) ka;generalize(((((l.setCell ⟨w.heap.size,1,none⟩ (.slice O s H)).setCell ⟨w.heap.size,2,none⟩ (.slice P nm K)).setCell ⟨w.heap.size+1,0,none⟩ (.slice E B t)).setCell ⟨w.heap.size+1,1,none⟩ (.slice O s H)).setCell ⟨w.heap.size+1,2,none⟩ (.slice P nm K)).setCell ⟨w.heap.size+1,3,none⟩ (.slice F C u)=U at*;have cE:∀k,(k=w.heap.size\/k=w.heap.size+1)->∃hh,l.heap[k]?=some (.cells hh 107 (0,0)):=by
   rintro k(rfl|rfl)
   ·exact⟨_,sq⟩
   ·exact⟨_,f⟩
  have r:∀{v n xs},l.ownsRow w.heap.size 199 1 v n xs->U.ownsRow w.heap.size 199 1 v n xs:=λhP=>ch.own hP (λk d h=>by
   obtain⟨hh,ed⟩:=cE k h;obtain⟨ih,gr⟩:=dS hP d;exact fj ed gr (by decide) rfl)
  refine⟨hz,r (L.own (Y ey) (λ_ _ h=>h)),r ei,?_,bk.dF (bk.dF (Y hm) L (λ_ h=>h.elim)) ch (λk d=>(Y bo) k (by rcases d with h|h<;>omega)),?_⟩
  ·refine(((Y hu).ay L).other ch (λk d=>?_)).base (by omega);obtain⟨hh,ed⟩:=cE k d;exact⟨hh,_,_,ed,by decide,by decide,by decide⟩
  ·exact((((Y HW).mono (T:=bk.F) (λ_ h=>h.elim)).trans (Y hx) (λ_ eo=>.inl eo)).trans L (λ_ h=>h.elim)).trans ch (λk d=>.inr (by rcases d with h|h<;>omega)))
 clear ei L sq f o;go_wp2;obtain⟨r1,r2,r3,r4,r5,r6⟩:=(Y eu) _ rfl;refine bO (rF rfl _ _ (w.heap.size+1) (.slice E B t) (.slice O s H) (.slice P nm K) (.slice F C u) _ _ rfl r1 ⟨_,_,_,rfl⟩ ⟨_,_,_,rfl⟩ ⟨_,_,_,rfl⟩ ⟨_,_,_,rfl⟩) rfl ?_;have cb:=Y HJ;subst cb;refine⟨O,s,H,P,nm,K,D,j,R,X,ac,rfl,?_,?_,?_,Y hk,r4,r5,r6⟩
 ·rw[Y hn,Y ho];exact Y hl
 ·rw[Y hs];exact r2
 ·rw[Y fb];exact r3
def JM(bk:gz)(n0 al c a:Nat)(cT E F:Option Addr)(cM cl B t C u:Nat)(ts us bh bi:List ar)(w:J)(h1:nI bk n0 (.slice (some ⟨al,c,none⟩) ts.length a) ts w)(gn:ts.length<=a)(hJ:0<ts.length)(h2:nI bk n0 (.slice cT cM cl) us w)(gv:Row w 1 (.slice E B t) bh.length (bh.map ar.ptr))(gA:Row w 1 (.slice F C u) bi.length (bi.map ar.ptr))(ea:∀k,Value.ownBlock (.slice E B t)=some k->k<n0)(ee:∀k,Value.ownBlock (.slice F C u)=some k->k<n0)(hM:bk.D w)(m:n0<=w.heap.size)(hF:∀k,bk.F k->k<n0)(hT:Steps w)(gf:1<n0/\¬bk.F 1)(iu:ts.length+us.length+bh.length+bi.length<=1000000)(hE:nP us<=1000000000)(b:Bool)(cB:b=true)(hN:∀j(R:j<ts.length),∀ws:List ar,ws.Sublist us->∀kk∈nC b [ts[j]] ws,kk.Good)(hO:∀j(R:j<ts.length),∀ws:List ar,ws.Sublist us->(dt ⟨#[]⟩ (bN ws::[ts[j]].map ar.all)).length<=1000000):Calls prog 106 #[.agg #[.slice E B t,.slice F C u,.slice (some ⟨al,c,none⟩) ts.length a,.slice cT cM cl],.int .i64 2] w λQ e=>∃O s H P nm K,∃D:List ar,∃j,∃R:j<ts.length,∃X ac,Q=.returned (.tuple #[.agg #[.slice E B t,.slice F C u,.slice O s H,.slice P nm K],.nilIface])/\vL us (fh ts[j].ks) (fm ts[j].ks) X ac/\e.ownsRow w.heap.size 199 1 (.slice O s H) (ts.take j++ts.drop (j+1)).length ((ts.take j++ts.drop (j+1)).map ar.ptr)/\e.ownsRow w.heap.size 199 1 (.slice P nm K) (us.take X++D++us.drop ac).length ((us.take X++D++us.drop ac).map ar.ptr)/\D.map ar.all=jf (nC b [ts[j]] ((us.drop X).take (ac-X)))/\nH e w.heap.size D/\bk.D e/\I bk.F w e:=by
 have hW:I (λ_=>False) w ((w.alloc (.cells #[.slice E B t,.slice F C u,.slice (some ⟨al,c,none⟩) ts.length a,.slice cT cM cl] 107)).alloc (.cells #[.slice none 0 0,.slice none 0 0,.slice none 0 0,.slice none 0 0] 107)):=((I.refl _ w).alloc _).alloc _;generalize bx:(w.alloc (.cells #[.slice E B t,.slice F C u,.slice (some ⟨al,c,none⟩) ts.length a,.slice cT cM cl] 107)).alloc (.cells #[.slice none 0 0,.slice none 0 0,.slice none 0 0,.slice none 0 0] 107)=bl at hW;have br:bl.heap[w.heap.size]?=some (.cells #[.slice E B t,.slice F C u,.slice (some ⟨al,c,none⟩) ts.length a,.slice cT cM cl] 107 (0,0)):=by rw[<-bx];exact(dL _ (by simp)).trans (az _ rfl)
 have fv:bl.heap[w.heap.size+1]?=some (.cells #[.slice none 0 0,.slice none 0 0,.slice none 0 0,.slice none 0 0] 107 (0,0)):=by rw[<-bx];exact az _ (by simp)
 have ef:∀G,I (λ_=>False) bl G->xQ G w.heap.size 0 [((.slice E B t:M),bh),(.slice F C u,bi),(.slice (some ⟨al,c,none⟩) ts.length a,ts),(.slice cT cM cl,us)]:=by
  intro G ch;have U:∀v a,Row w 1 v (List.length a) (a.map ar.ptr)->(∀k,v.ownBlock=some k->k<n0)->Row G 1 v a.length (a.map ar.ptr):=λv a cE d=>
   (hW.trans ch (λ_ h=>h.elim)).row cE (λk Q=>⟨id,ah (d k Q) m⟩)
  have hz:w.heap.size<=G.heap.size:=aB hW.size ch.size;have r:∀i v,(#[.slice E B t,.slice F C u,.slice (some ⟨al,c,none⟩) ts.length a,.slice cT cM cl]:Array M)[i]?=some v->G.cell? ⟨w.heap.size,0+i,none⟩=some v:=by
   intro i v cE;refine ch.cell ?_ id (ak br);rw[aj br,cw];exact cE
  refine⟨rfl,λi hi=>?_,λi hi=>?_,λi hi k d=>?_,by simp[jm];omega⟩
  ·match i,hi with
   |0,_=>exact r 0 _ rfl
   |1,_=>exact r 1 _ rfl
   |2,_=>exact r 2 _ rfl
   |3,_=>exact r 3 _ rfl
  ·match i,hi with
   |0,_=>exact U _ _ gv ea
   |1,_=>exact U _ _ gA ee
   |2,_=>exact U _ _ h1.row (λk Q=>(h1.loc k Q).1)
   |3,_=>exact U _ _ h2.row (λk Q=>(h2.loc k Q).1)
  ·match i,hi with
   |0,_=>exact ah (ea k d) (aB m hz)
   |1,_=>exact ah (ee k d) (aB m hz)
   |2,_=>exact ah (h1.loc k d).1 (aB m hz)
   |3,_=>exact ah (h2.loc k d).1 (aB m hz)
 have el:=hW.size;have gs:∀k,n0<=k->¬bk.F k:=λk d h=>by have:=hF k h;omega
 have bt:∀G,I (λ_=>False) bl G->ia bk n0 (λ_=>False) w G:=λG ht=>(hW.trans ht (λ_ h=>h.elim)).same m (λ_ h=>h.elim) (λ_ h=>h.elim);have bd:∀ac,Calls prog 151 #[.pointer (some ⟨w.heap.size,0,none⟩),.int .i64 2] (bl.drewN ac) λQ e=>∃j:Nat,Q=.returned (.int .i64 j)/\j<ts.length/\I (λ_=>False) bl e:=by
  intro ac;have r:=ft (λ_=>False) bl ac;have U:=ef _ r;refine(vk (bl.drewN ac) w.heap.size 0 2 _ _ ts us (by omega) (U.cell 2 (show 2<4 by omega)) (U.cell 3 (show 3<4 by omega)) U.lt ((h1.same (bt _ r)).mem (aB m el)) ((h2.same (bt _ r)).mem (aB m el)) h2.side.sX hJ hE).mono ?_;rintro Q e⟨j,rfl,R,ch⟩;exact⟨j,rfl,R,r.trans (I.aR (S:=λ_=>False) ch) (λ_ h=>h.elim)⟩
 have an:=Z br;have eq:=Z fv;have db:=Z ef;have hq:=Z bd;have HW:=Z hW;have bo:=Z gs;have hy:=Z bx;have ax:=Z bt;have H1:=Z h1;have H2:=Z h2;have HD:=Z hM;have HF:=Z hF;have HT:=Z hT;have fl:=Z gf;have HG:=Z hN;have ev:=Z hO;have fe:=Z cB;clear h1 h2 gv gA ea ee hM hF hT gf cB hN hO br fv ef bd hW gs bx bt;go_enter func106,ntmps106
 go_wp2_with fail
 go_quiet(fail)
 rw[Y hy];have bd:=(Y hq) nq;go_wp2_with fail
 refine bd.mono ?_;rintro Q w1⟨j,rfl,R,ej⟩;have gc:=(Y db) w1 ej;have bT:w1.cell? ⟨w.heap.size,2,none⟩=some (.slice (some ⟨al,c,none⟩) ts.length a):=by have:=gc.cell 2 (show 2<4 by omega);simpa using this
 have bn:=Z ej;clear gc ej bd;obtain⟨W,cb⟩:∃W,j+1=W:=⟨_,rfl⟩;have e1:(j:Int)+1=(W:Int):=by omega
 have e2:(j:Int)<=(W:Int):=by omega
 have e3:(W:Int)<=(a:Int):=by omega
 have e4:(W:Int)<=(ts.length:Int):=by omega
 have e5:(j:Int)<=(a:Int):=by omega
 have e6:¬(a=j):=by omega
 have e7:¬(a-j=0):=by omega
 have e8:IntKind.i64.wrap (W:Int)=(W:Int):=by rw[bu];omega
 have e9:(0:Int)<=(j:Int):=by omega
 have il:(ts.length:Int)<=(a:Int):=by omega
 have ip:W-j=1:=by omega
 have HJ:=Z cb;clear cb;have hS:w1.drew.cell? ⟨w.heap.size,2,none⟩=some (.slice (some ⟨al,c,none⟩) ts.length a):=bT;go_wp2_with fail
 rename_i QQ KK gb;refine bM (λhj=>hj.cell? ⟨w.heap.size,2,none⟩=some (.slice (some ⟨al,c,none⟩) ts.length a)) 21 (by kernel_rfl) ?_;refine cz 0 ?_;iterate 18 (refine cy (v:=?_) hS rfl (by kernel_rfl) (λ_ _ _ eo=>eo) (Or.inl ⟨by rfl,?_⟩) ?_;rotate_left;(focus(intro hj hX;go_simp;try with_reducible rfl));simp only[Act.put,Nat.reduceAdd,ab,ae,af])
 refine dG ?_;refine aI (i:=18) rfl rfl (by kernel_rfl) ?_;intro hA x;go_simp;have dx:ii w1 (.slice (some ⟨al,c,none⟩) ts.length a) ts:=(((Y H1).same ((Y ax) w1 (Y bn))).mem (aB m (aB el (Y bn).size)));have it:=(Y bn).size;have o:=Hu w1 _ _ (ts.take j) (ts.drop W) w.heap.size (dx.take j (by omega)) (DT dx gn (by have:=Y HJ;omega)) (by simp;omega) (by omega) 105;refine x _ _ (λ_=>?_) ?_
 ·rw[aQ,dE (by have:=ak (Y an);omega)];exact bT
 refine aI (i:=19) rfl rfl (by kernel_rfl) ?_;intro hB y;go_simp;refine o.mono ?_;rintro Q q⟨vl,rfl,cd,cj⟩;obtain⟨s,eg⟩:∃s,(ts.take j++ts.drop W).length=s:=⟨_,rfl⟩;rw[eg]at cd;have hs:=Z eg;clear eg;obtain⟨O,H,rfl⟩:=aC cd;have dT:q.cell? ⟨w.heap.size,2,none⟩=some (.slice (some ⟨al,c,none⟩) ts.length a):=cj.cell bT id (by have:=ak (Y an);omega);refine y _ _ (λ_=>dT) ?_;refine aI (i:=20) rfl rfl (by kernel_rfl) ?_;intro hV cs;go_simp;refine cs _ _ (λ_=>dT) ?_;refine aI (i:=21) rfl rfl (by kernel_rfl) ?_;intro hY cv;go_simp;refine cv _ _ (λh=>(h rfl).elim) ?_;refine cr (by kernel_rfl) ?_ _;show KK _ _;refine gb _ _ ?_;generalize(if a=W then some (⟨al,c,none⟩:Addr)else some ⟨al,c+W,none⟩)=zz at*;have g:I (λ_=>False) bl q:=(Y bn).trans cj (λ_ h=>h.elim);have hv:=Z g;have fd:=Z cd;have kb:=g.size;have bb:ii q (.slice (some ⟨al,c,none⟩) ts.length a) ts:=(((Y H1).same ((Y ax) q g)).mem (by omega));have hD:ii q (.slice cT cM cl) us:=(((Y H2).same ((Y ax) q g)).mem (by omega));have ge:=(Y db) q g;have ec:q.cell? ⟨w.heap.size,3,none⟩=some (.slice cT cM cl):=by have:=ge.cell 3 (show 3<4 by omega);simpa using this
 have hp:=bb.cell R;have ca:∀bl,bl.heap=q.heap->Calls prog 153 #[ts[j].ptr] bl λQ e=>Q=.returned (.string (fh ts[j].ks))/\e=bl:=λbl hW=>((bb.each _ (au R)).of_heap hW).first;have cc:∀bl,bl.heap=q.heap->Calls prog 154 #[ts[j].ptr] bl λQ e=>Q=.returned (.string (fm ts[j].ks))/\∃ac,e=bl.drewN ac:=λbl hW=>((bb.each _ (au R)).of_heap hW).last;have gk:al<q.heap.size:=bb.lt al rfl;have dk:w.heap.size<q.heap.size:=by have:=ak (Y an);omega
 have hcut:∀G,I (λ_=>False) q G->Calls prog 152 #[.slice cT cM cl,.string (fh ts[j].ks),.string (fm ts[j].ks)] G λQ e=>∃va vb vc,Q=.returned (.tuple #[va,vb,vc])/\(∃X ac,vL us (fh ts[j].ks) (fm ts[j].ks) X ac/\ii e va (us.take X)/\ii e vb ((us.drop X).take (ac-X))/\ii e vc (us.drop ac)/\(∀k,va.ownBlock=some k\/vb.ownBlock=some k\/vc.ownBlock=some k->Value.ownBlock (.slice cT cM cl)=some k))/\I (λ_=>False) q e/\e.cell? ⟨w.heap.size,3,none⟩=some (.slice cT cM cl)/\e.cell? ⟨al,c+j,none⟩=some ts[j].ptr:=by
  intro G r;refine(zn G (.slice cT cM cl) us (fh ts[j].ks) (fm ts[j].ks) (((Y H2).same ((Y ax) G (g.trans r (λ_ h=>h.elim)))).mem (by have:=r.size;omega)) (Y H2).side.sX).mono ?_;rintro Q e⟨X,ac,va,vb,vc,rfl,a1,a2,a3,a4,a5,ch⟩;have U:I (λ_=>False) q e:=r.trans (I.aR (S:=λ_=>False) ch) (λ_ h=>h.elim);exact⟨va,vb,vc,rfl,⟨X,ac,a1,a2,a3,a4,a5⟩,U,U.cell ec id dk,U.cell hp id gk⟩
 clear gb x y cs cv o dx bb hD ge hS dT bT cd cj g;unfold ar.ptr at hp ca cc hcut;have fk:=Z (show∃s1 s2 tb,fh ts[j].ks=s1/\fm ts[j].ks=s2/\ts[j].tb=tb from⟨_,_,_,rfl,rfl,rfl⟩);obtain⟨s1,s2,tb,bp,bq,ba⟩:=Y fk;rw[bp,bq,ba]at hcut;rw[bp,ba]at ca;rw[bq,ba]at cc;rw[ba]at hp;have hn:=Z bp;have ho:=Z bq;clear bp bq ba fk;have et:=Z ca;have ao:=Z cc;have es:=Z hcut;clear ca cc hcut;have g1:IntKind.i64.wrap (3:Int)=3:=by rw[bu];omega
 have bc:q.drew.cell? ⟨w.heap.size,3,none⟩=some (.slice cT cM cl)/\q.drew.cell? ⟨al,c+j,none⟩=some (.pointer (some ⟨tb,0,none⟩)):=⟨ec,hp⟩;go_wp2_with fail
 rename_i Q6 K6;refine bM (λhj=>hj.cell? ⟨w.heap.size,3,none⟩=some (.slice cT cM cl)/\hj.cell? ⟨al,c+j,none⟩=some (.pointer (some ⟨tb,0,none⟩))) 19 (by kernel_rfl) ?_;refine cz 0 ?_;iterate 7 (refine cy (v:=?_) bc rfl (by kernel_rfl) (λ_ _ _ eo=>eo) (Or.inl ⟨by rfl,?_⟩) ?_;rotate_left;(focus(intro hj hX;obtain⟨z0,z1⟩:=hX;go_simp;try with_reducible rfl));simp only[Act.put,Nat.reduceAdd,ab,ae,af])
 refine dG ?_;refine cz 8 ?_;iterate 3 (refine cy (v:=?_) bc rfl (by kernel_rfl) (λ_ _ _ eo=>eo) (Or.inl ⟨by rfl,?_⟩) ?_;rotate_left;(focus(intro hj hX;obtain⟨z0,z1⟩:=hX;go_simp;try with_reducible rfl));simp only[Act.put,Nat.reduceAdd,ab,ae,af])
 refine dG ?_;refine aI (i:=7) rfl rfl (by kernel_rfl) ?_;intro K7 fL;go_simp;refine((Y et) q.drew rfl).mono ?_;rintro Q N⟨rfl,hK⟩;subst N;refine fL _ _ (λ_=>bc) ?_;refine aI (i:=11) rfl rfl (by kernel_rfl) ?_;intro hQ cm;go_simp;refine((Y ao) q.drew rfl).mono ?_;rintro Q N⟨rfl,qq,hK⟩;subst N;refine cm _ _ (λ_=>bc) ?_;refine aI (i:=12) rfl rfl (by kernel_rfl) ?_;intro hR cn;go_simp;refine((Y es) (q.drewN (1+qq)) (ft _ _ _)).mono ?_;rintro Q N⟨va,vb,vc,rfl,hG,ek,bg⟩;refine cn _ _ (λ_=>bg) ?_;refine cz 13 ?_;iterate 4 (refine cy (v:=?_) bg rfl (by kernel_rfl) (λ_ _ _ eo=>eo) (Or.inl ⟨by rfl,?_⟩) ?_;rotate_left;(focus(intro hj hX;obtain⟨z0,z1⟩:=hX;go_simp;try with_reducible rfl));simp only[Act.put,Nat.reduceAdd,ab,ae,af])
 refine dG ?_;refine aI (i:=17) rfl rfl (by kernel_rfl) ?_;intro hU cp;go_simp;refine cp _ _ (λ_=>bg) ?_;refine aI (i:=18) rfl rfl (by kernel_rfl) ?_;intro hA x;go_simp;refine x _ _ (λ_=>bg) ?_;refine aI (i:=19) rfl rfl (by kernel_rfl) ?_;intro hB y;go_simp;refine y _ _ (λh=>(h rfl).elim) ?_;refine cr (by kernel_rfl) ?_ _;show K6 _ _;refine QQ _ _ ?_;obtain⟨X,ac,fx,dn,bs,ds,dv⟩:=hG;clear QQ fL cm cn cp x y bg bc ec hp et ao es;obtain⟨hf,fs,ha⟩:=bA dn.row;obtain⟨en,dc,hb⟩:=bA bs.row;obtain⟨hg,fu,hc⟩:=bA ds.row;generalize(us.take X).length=hd at ha;generalize((us.drop X).take (ac-X)).length=em at hb;generalize(us.drop ac).length=he at hc;subst ha;subst hb;subst hc;have p:I (λ_=>False) bl N:=(Y hv).trans ek (λ_ h=>h.elim);have kc:=p.size;have A:((us.drop X).take (ac-X)).Sublist us:=(lW _ _).trans (jk _ _);have bv:=(Y ax) N p;have hH:Calls prog 156 #[.pointer (some ⟨w.heap.size,0,none⟩),.int .i64 4] N λQ e=>Q=.returned (.bool b)/\e=N:=by
  have eo:=sV N w.heap.size 0 4 _ ((Y db) N p) (by omega);have r:gN [((.slice E B t:M),bh),(.slice F C u,bi),(.slice (some ⟨al,c,none⟩) ts.length a,ts),(.slice cT cM cl,us)] 4=b:=by rw[Y fe];simp[gN]
  rw[r]at eo;exact eo
 have hI:Calls prog 155 #[.slice (some ⟨al,c+j,none⟩) 1 (a-j),.slice en em dc,.bool b] N λQ e=>∃f,∃D:List ar,Q=.returned (.tuple #[f,.nilIface])/\e.ownsRow N.heap.size 199 1 f D.length (D.map ar.ptr)/\D.map ar.all=jf (nC b [ts[j]] ((us.drop X).take (ac-X)))/\nH e N.heap.size D/\bk.D e/\I bk.F N e:=by
  have r:=(Y H1).same bv;have U:=(Y H2).same bv;refine ui bk n0 al (c+j) (a-j) (.slice en em dc) [ts[j]] ((us.drop X).take (ac-X)) b N ?_ ((Y H1).loc al rfl) ?_ (by simp) ⟨bs.row,λk d=>(Y H2).loc k (dv k (.inr (.inl d))),λch ht=>U.each ch (A.subset ht),(Y H2).side.sub A,bs.small⟩ (bk.dF (Y HD) ((Y HW).trans p (λ_ h=>h.elim)) (λ_ h=>h.elim)) (by omega) (Y HF) ((Y HT).same bv (Y fl)) (Y fl) ((Y HG) j R _ A) ((Y ev) j R _ A)
  ·intro i hi;obtain rfl:i=0:=by simp at hi;omega
   exact r.cell R
  ·intro ch ht;rw[bE]at ht;subst ht;exact r.each _ (au R)
 have hl:=Z fx;have ao:=Z dn;have ex:=Z ds;have hw:=Z p;have ck:=Z (ek.own (Y fd) (λ_ _ h=>h));have hr:=Z dv;clear fx dn bs ds dv p bv ek fd;go_wp2_with fail
 refine hH.mono ?_;rintro Q w4⟨rfl,iv⟩;subst w4;go_wp2_with fail
 refine hI.mono ?_;rintro Q w4⟨kf,D,rfl,ce,eb,gt,fz,ad⟩;have V:I bk.F bl w4:=((Y hw).mono (T:=bk.F) (λ_ h=>h.elim)).trans ad (λ_ eo=>.inl eo);obtain⟨hL,hC,rfl⟩:=aC ce;have kd:=ad.size;have gi:=(V.block _ (ak (Y an)) ((Y bo) _ m)).trans (Y an);have gj:=(V.block _ (ak (Y eq)) ((Y bo) _ (by omega))).trans (Y eq);have z:∀k,Value.ownBlock (.slice hf hd fs)=some k\/Value.ownBlock (.slice en em dc)=some k\/Value.ownBlock (.slice hg he fu)=some k->k<n0/\¬bk.F k:=λk d=>(Y H2).loc k ((Y hr) k d);have cj:D.length<=1000000:=by
  have:=bB List.length eb;simp[jf]at this;have h2:(nC b [ts[j]] ((us.drop X).take (ac-X))).length<=1000000:=aB (iE _ _).length_le ((Y ev) j R _ A);unfold fK at this;omega
 have o:=Ht w4 (.slice hf hd fs) (.slice hL D.length hC) (.slice hg he fu) (us.take X) D (us.drop ac) w.heap.size (ad.row (Y ao).row (λk d=>⟨(z k (.inl d)).2,(Y ao).lt k d⟩)) (λk d=>by have:=(z k (.inl d)).1;omega) (cW ce) (λk d=>(aK ce k d).2) (ad.row (Y ex).row (λk d=>⟨(z k (.inr (.inr d))).2,(Y ex).lt k d⟩)) (λk d=>by have:=(z k (.inr (.inr d))).1;omega) (by simp;omega) (by omega) 105;obtain⟨nm,bf⟩:∃nm,(us.take X++D++us.drop ac).length=nm:=⟨_,rfl⟩;rw[bf]at o;have fb:=Z bf;have cx:=ad.own (Y ck) (λk d=>(Y bo) k (by have:=((aK (Y ck)) k d).1;omega));have ey:=Z cx;have hu:=Z gt;have hm:=Z fz;have hx:=Z V;have hk:=Z eb;have fn:=Z gi;have fr:=Z gj;clear ce eb gt fz ad V gi gj bf cx z;go_wp2_with fail
 refine o.mono ?_;rintro Q l⟨v5,rfl,ei,L⟩;obtain⟨P,K,rfl⟩:=aC ei;have sq:=(L.block _ (ak (Y fn)) id).trans (Y fn);have f:=(L.block _ (ak (Y fr)) id).trans (Y fr);have p0:l.cell? ⟨w.heap.size,0,none⟩=some (.slice E B t):=by rw[aj sq];rfl
 have p1:l.cell? ⟨w.heap.size,1,none⟩=some (.slice F C u):=by rw[aj sq];rfl
 have p2:l.cell? ⟨w.heap.size,2,none⟩=some (.slice (some ⟨al,c,none⟩) ts.length a):=by rw[aj sq];rfl
 have p3:l.cell? ⟨w.heap.size,3,none⟩=some (.slice cT cM cl):=by rw[aj sq];rfl
 have f0:l.frozen? ⟨w.heap.size,2,none⟩=false:=cG sq;have f1:l.frozen? ⟨w.heap.size,3,none⟩=false:=cG sq;have q0:l.cell? ⟨w.heap.size+1,0,none⟩=some (.slice none 0 0):=by rw[aj f];rfl
 have q1:l.cell? ⟨w.heap.size+1,1,none⟩=some (.slice none 0 0):=by rw[aj f];rfl
 have q2:l.cell? ⟨w.heap.size+1,2,none⟩=some (.slice none 0 0):=by rw[aj f];rfl
 have q3:l.cell? ⟨w.heap.size+1,3,none⟩=some (.slice none 0 0):=by rw[aj f];rfl
 have k0:l.frozen? ⟨w.heap.size+1,0,none⟩=false:=cG f;have k1:l.frozen? ⟨w.heap.size+1,1,none⟩=false:=cG f;have k2:l.frozen? ⟨w.heap.size+1,2,none⟩=false:=cG f;have k3:l.frozen? ⟨w.heap.size+1,3,none⟩=false:=cG f;have eu:=Z (show∀U,U=(((((l.setCell ⟨w.heap.size,2,none⟩ (.slice O s H)).setCell ⟨w.heap.size,3,none⟩ (.slice P nm K)).setCell ⟨w.heap.size+1,0,none⟩ (.slice E B t)).setCell ⟨w.heap.size+1,1,none⟩ (.slice F C u)).setCell ⟨w.heap.size+1,2,none⟩ (.slice O s H)).setCell ⟨w.heap.size+1,3,none⟩ (.slice P nm K)->U.heap[w.heap.size+1]?=some (.cells #[.slice E B t,.slice F C u,.slice O s H,.slice P nm K] 107 (0,0))/\U.ownsRow w.heap.size 199 1 (.slice O s H) s ((ts.take j++ts.drop W).map ar.ptr)/\U.ownsRow w.heap.size 199 1 (.slice P nm K) nm ((us.take X++D++us.drop ac).map ar.ptr)/\nH U w.heap.size D/\bk.D U/\I bk.F w U from by
  rintro U rfl;have ka:(((l.setCell ⟨w.heap.size,2,none⟩ (.slice O s H)).setCell ⟨w.heap.size,3,none⟩ (.slice P nm K))).heap[w.heap.size+1]?=some (.cells #[.slice none 0 0,.slice none 0 0,.slice none 0 0,.slice none 0 0] 107 (0,0)):=(eP _ (by omega)).trans ((eP _ (by omega)).trans f);have ch:I (λk=>k=w.heap.size\/k=w.heap.size+1) l ((((((l.setCell ⟨w.heap.size,2,none⟩ (.slice O s H)).setCell ⟨w.heap.size,3,none⟩ (.slice P nm K)).setCell ⟨w.heap.size+1,0,none⟩ (.slice E B t)).setCell ⟨w.heap.size+1,1,none⟩ (.slice F C u)).setCell ⟨w.heap.size+1,2,none⟩ (.slice O s H)).setCell ⟨w.heap.size+1,3,none⟩ (.slice P nm K)):=((((((I.refl _ l).setCell _ 2 _ (.inl (.inl rfl))).setCell _ 3 _ (.inl (.inl rfl))).setCell _ 0 _ (.inl (.inr rfl))).setCell _ 1 _ (.inl (.inr rfl))).setCell _ 2 _ (.inl (.inr rfl))).setCell _ 3 _ (.inl (.inr rfl));have hz:=BT (a':=.slice E B t) (b':=.slice F C u) (c':=.slice O s H) (d':=.slice P nm K) ka;generalize(((((l.setCell ⟨w.heap.size,2,none⟩ (.slice O s H)).setCell ⟨w.heap.size,3,none⟩ (.slice P nm K)).setCell ⟨w.heap.size+1,0,none⟩ (.slice E B t)).setCell ⟨w.heap.size+1,1,none⟩ (.slice F C u)).setCell ⟨w.heap.size+1,2,none⟩ (.slice O s H)).setCell ⟨w.heap.size+1,3,none⟩ (.slice P nm K)=U at*;have cE:∀k,(k=w.heap.size\/k=w.heap.size+1)->∃hh,l.heap[k]?=some (.cells hh 107 (0,0)):=by
   rintro k(rfl|rfl)
   ·exact⟨_,sq⟩
   ·exact⟨_,f⟩
  have r:∀{v n xs},l.ownsRow w.heap.size 199 1 v n xs->U.ownsRow w.heap.size 199 1 v n xs:=λhP=>ch.own hP (λk d h=>by
   obtain⟨hh,ed⟩:=cE k h;obtain⟨ih,gr⟩:=dS hP d;exact fj ed gr (by decide) rfl)
  refine⟨hz,r (L.own (Y ey) (λ_ _ h=>h)),r ei,?_,bk.dF (bk.dF (Y hm) L (λ_ h=>h.elim)) ch (λk d=>(Y bo) k (by rcases d with h|h<;>omega)),?_⟩
  ·refine(((Y hu).ay L).other ch (λk d=>?_)).base (by omega);obtain⟨hh,ed⟩:=cE k d;exact⟨hh,_,_,ed,by decide,by decide,by decide⟩
  ·exact((((Y HW).mono (T:=bk.F) (λ_ h=>h.elim)).trans (Y hx) (λ_ eo=>.inl eo)).trans L (λ_ h=>h.elim)).trans ch (λk d=>.inr (by rcases d with h|h<;>omega)))
 clear ei L sq f o;go_wp2;obtain⟨r1,r2,r3,r4,r5,r6⟩:=(Y eu) _ rfl;refine bO (rF rfl _ _ (w.heap.size+1) (.slice E B t) (.slice F C u) (.slice O s H) (.slice P nm K) _ _ rfl r1 ⟨_,_,_,rfl⟩ ⟨_,_,_,rfl⟩ ⟨_,_,_,rfl⟩ ⟨_,_,_,rfl⟩) rfl ?_;have cb:=Y HJ;subst cb;refine⟨O,s,H,P,nm,K,D,j,R,X,ac,rfl,?_,?_,?_,Y hk,r4,r5,r6⟩
 ·rw[Y hn,Y ho];exact Y hl
 ·rw[Y hs];exact r2
 ·rw[Y fb];exact r3
end Go.Proofs.YtophdnlmpfmeiaaGreatDoor
