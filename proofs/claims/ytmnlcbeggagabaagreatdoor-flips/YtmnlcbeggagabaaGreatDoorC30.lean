import Derived.Test.YtmnlcbeggagabaaGreatDoorC25
open _root_ renaming List.length→y,Option.some→H,Array.size→z,Go.World.heap→G,Go.Value.ownBlock→cz,Go.World.setCell→cA,Go.World.alloc→cG,Nat→M,Go.Calls→cD,Go.undef→ix,Go.Proofs.Tryz.prog→aZ,Go.Value.slice→J,Go.Value.agg→dD
namespace Go.Proofs.YtmnlcbeggagabaaGreatDoor
open ChangeShapes WideShapes RowKit Proofs.Tryz
set_option maxHeartbeats 16000000
set_option linter.all false
set_option maxRecDepth 100000
variable{a:Z}{d u:ab}{e:cI}
def JP{o:Func}{u:Tmp}(x:o.results=#[.cell u 93])(a:Array ab)(w:Z)(q:M)(k l m n:Option Addr)(g h i j c d e f:M)(v:TypeId)(p:M×M)(t:a.getD u ix=aA q)(r:w.heap[q]?=H (ay #[J k g c,J l h d,J m i e,J n j f] v p)):(results o a).run aZ w=.ok (dD #[J k g c,J l h d,J m i e,J n j f]) w:=by
 have b:a[u]?.getD ix=aA q:=by simpa using t
 have s:=kj (P:=aZ) w q v 93 #[J k g c,J l h d,J m i e,J n j f] p _ r underlying93 rfl (by kernel_rfl);simp[results,x,b,asAddr,s]
def Qy(p:dN)(h:jU a d e)(hm:Row a 1 u (y p) (p.map<|Value.int .u64))(hs:dK e)(hg:∀aU∈e,aU.Good)(hl:y e<=1000000)(h4:y p<=4)(hv:∀m,cz d=H m->m<z (G a))(v:∀m,cz u=H m->m<z (G a))(hT:Steps a)(av:1<z (G a)):cD aZ 131 #[d,u] a λaa w'=>∃v3,∃l:cN,aa=aJ (dD #[aw,aw,aw,v3])/\w'.ownsRow (z<|G a) 189 1 v3 (y l) (l.map bw.ptr)/\l.map bw.all=gL (gI<|dG p e)/\pU w' (z<|G a) l/\I az a w':=by
 have k:I az a (cG a<|ay #[aw,aw,aw,aw] 93):=(cK az a);have F:(cG a<|ay #[aw,aw,aw,aw] 93).heap[z<|G a]?=H (ay #[aw,aw,aw,aw] 93 (0,0)):=aH _ rfl;have V:z (G<|cG a<|ay #[aw,aw,aw,aw] 93)=z (G a)+1:=by simp
 have P:=yT p (k.row h<|λm f=>⟨id,hv m f⟩) hs hl (k.row hm<|λm f=>⟨id,v m f⟩) (by omega) (λm f=>ah (hv m f) k.size)<|λm f=>ah (v m f) k.size;obtain⟨x1,n1,ax⟩:=bN h;obtain⟨x2,n2,aD⟩:=bN hm;obtain⟨an,ac,al⟩:=dz k F hT;clear h hm hv v k F hT;subst ax aD;go_in
 go_wp2_with fail
 apply P.mono;rintro aa w2⟨v2,rfl,n,x⟩;have L:=LI (dE n) (hs.sub<|jh p e) (aB (jh p e).length_le hl)<|λm f=>(n.lt m f).2;obtain⟨y2,d2,rfl⟩:=aC n;have ao:=Y<|an.bW x;have C:=Y<|(x.block _ (by rw[V];omega) id).trans ac;clear n x P;go_wp2_with fail
 apply L.mono;rintro aa w3⟨v3,rfl,o,A⟩;have g:=(kh<|dG p e).trans<|jh p e;have E:=Y<|ao.bW A;have Q:=ua (dE o) (hs.sub g) (((xG hs).sub<|kh _).mono<|by omega) (λaU a=>hg aU<|g.subset a) (aB g.length_le hl) (λm f=>(o.lt m f).2)<|λm f=>E.cell (al m f) id av;obtain⟨y3,d3,rfl⟩:=aC o;have r:=Y<|(A.block _ (ar C) id).trans C;clear o A L g;go_wp2_with fail
 apply Q.mono;rintro aa w4⟨v4,l,rfl,w,T,N,B⟩;have c:=(B.block _ (ar r) id).trans r;have aF:z (G a)+1<=z (G w3):=by have:=ar r;omega
 have au:=Y<|E.bW B;obtain⟨y4,d4,rfl⟩:=aC w;have X:=Y<|And.intro w (And.intro T N);have g0:=cellAt c 0 rfl;have g1:=cellAt c 1 rfl;have g2:=cellAt c 2 rfl;have g3:=cellAt c 3 rfl;have f0:=cZ (i:=0) c;have f1:=cZ (i:=1) c;have f2:=cZ (i:=2) c;have f3:=cZ (i:=3) c;obtain⟨s,t⟩:∃s,cA (cA (cA (cA w4 (R (z<|G a) 0) aw) (R (z<|G a) 1) aw) (R (z<|G a) 2) aw) (R (z<|G a) 3) (J y4 (y l) d4)=s:=⟨_,rfl⟩;have K:s.heap[z<|G a]?=H (ay #[aw,aw,aw,J y4 (y l) d4] 93 (0,0)):=by rw[<-t];exact Hx c
 have j:I (λq=>q=z (G a)) w4 s:=by rw[<-t];exact(((iV (z<|G a) w4).setCell _ _ _<|.inl rfl).setCell _ _ _<|.inl rfl).setCell _ _ _<|.inl rfl
 have W:I az a s:=au.trans j<|λm aa=>.inr (by have e':m=z (G a):=aa;omega);have S:s.ownsRow (z<|G a) 189 1 (J y4 (y l) d4) (y l) (l.map bw.ptr):=fM (j.own X.1 (λm f c=>by have c':m=z (G a):=c;have:=(X.1.lt m f).1;omega)) (by omega);have O:pU s (z<|G a) l:=(X.2.2.other j (λm aa=>by have e':m=z (G a):=aa;rw[e'];grind)).base (by omega);have ad:=Y K;have D:=Y<|And.intro S (And.intro X.2.1 (And.intro O W));clear w T N B c K j W S O Q;go_wp2;clear t g0 g1 g2 g3 f0 f1 f2 f3;refine cg (JP rfl _ _ (z<|G a) none none none y4 0 0 0 (y l) 0 0 0 d4 _ _ rfl ad) rfl ?_;exact⟨_,l,rfl,D⟩
