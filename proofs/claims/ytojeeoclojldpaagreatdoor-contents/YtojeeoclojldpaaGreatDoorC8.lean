import Derived.Test.YtojeeoclojldpaaGreatDoorC2
open _root_ renaming List.length→y,Option.some→H,Array.size→z,Go.World.heap→G,Go.Value.ownBlock→bV,Go.World.cell?→aT,Bool.false→bF,Bool.true→bW,Nat→M,Int→Z,List→cr,Go.Calls→cy,Go.Proofs.Tryz.prog→bG,Go.Value.slice→J,Go.Value.string→ai,Go.Value.bool→aL
namespace Go.Proofs.YtojeeoclojldpaaGreatDoor
open ChangeShapes WideShapes RowKit Proofs.Tryz
set_option maxHeartbeats 16000000
set_option linter.all false
set_option maxRecDepth 100000
variable{a:I}{d:aa}
structure Gc where
 kd:Z
 A:Z
 B:Z
 S:ab
 T:ab
 L:aa
 cs:uz
def Gc.cells(o:Gc):iU:=[ap o.kd,ap o.A,ap o.B,ai o.S,ai o.T,o.L]
def rp(a:cr Gc):iU:=a.flatMap Gc.cells
def qe(a:cr Gc)(i:M)(h:i<y a)(j:M)(d:j<6):(rp a)[i*6+j]?=a[i].cells[j]?:=by
 induction a generalizing i with
 |nil=>simp at h
 |cons o a c=>
  have e:rp (o::a)=o.cells++rp a:=rfl;have b:y o.cells=6:=rfl;rcases i with _|i
  .rw[e,gd (by rw[b];omega)];simp
  .rw[e,dE (by rw[b];omega),b];have:(i+1)*6+j-6=i*6+j:=by omega
   rw[this,c i<|by simpa using h];rfl
def Ge(a:uz):M:=(a.map<|λc=>1+c.key.size+c.val.size).sum
def XI(o:Gc):M:=o.S.size+o.T.size+Ge o.cs
def Fu(a:cr Gc):M:=(a.map XI).sum
def Vs(w:I)(v:aa)(a:uz):Prop:=(xV w v a/\∀k,bV v=H k->k<z (G w))\/(a=[]/\∃(b:Addr)(c:M),v=J (H b) 0 c)
def Bl{e:uz}(j:Vs a d e):∃x h,d=J x (y e) h:=by
 rcases j with⟨⟨k,⟨b,g⟩|⟨i,f,c,b,_⟩⟩,_⟩|⟨rfl,l,h,rfl⟩;exact⟨none,0,by rw[b,g]⟩;exact⟨_,_,b⟩;exact⟨_,_,rfl⟩
def Vs.aw{w w':I}{b:uz}(h:Vs w d b)(e:Y aB w w'):Vs w' d b:=by
 rcases h with⟨g,c⟩|h;exact .inl ⟨e.row g<|λk a=>⟨id,c k a⟩,λk a=>ag (c k a) e.size⟩;exact .inr h
structure Fk(w:I)(v:aa)(os:cr Gc):Prop where
 row:Row w 6 v (y os) (rp os)
 UX:∀o∈os,Vs w o.L o.cs
 lt:∀k,bV v=H k->k<z (G w)
 str:∀o∈os,o.S.size<=140737488351232/\o.T.size<=140737488351232
 YQ:∀o∈os,∀c∈o.cs,c.key.size<=140737488351232/\c.val.size<=140737488351232
 len:y os<=10000000000000
 lens:∀o∈os,y o.cs<=10000000000000
def SH(a:uz)(k:M)(h:k<y a):Ge (a.take<|k+1)=Ge (a.take k)+(1+a[k].key.size+a[k].val.size):=by
 unfold Ge;rw[aj h,aM,gl];simp
def JP(a:cr Gc)(i:M)(h:i<y a):Fu (a.take<|i+1)=Fu (a.take i)+XI a[i]:=by
 unfold Fu;rw[aj h,aM,gl];simp
def SI(a:uz)(k:M):Ge (a.take k)<=Ge a:=by
 unfold Ge;conv=>rhs;rw[<-bX k a,aM,gl]
 omega
def SG(a:cr Gc)(k:M):Fu (a.take k)<=Fu a:=by
 unfold Fu;conv=>rhs;rw[<-bX k a,aM,gl]
 omega
def MZ(bd d bm:M)(b:cr Gc)(h:Fk a (bD bd d (y b) bm) b):cy bG 5 #[bD bd d (y b) bm] a λbq w'=>bq=aO (aL<|decide<|y b+Fu b<=1048576)/\∃q,w'=a.drewN q:=by
 by_cases bk:1048576<y b;(·(have e1:(1048576:Z)<(y b:Z):=by omega);(have K:decide (y b+Fu b<=1048576)=bF:=by simp;omega);rw[K];clear h;(go_in);go_wp2;go_ret;exact⟨rfl,0,rfl⟩);(·(have e1:¬((1048576:Z)<(y b:Z)):=by omega);(have m:∀W:I,W.heap=a.heap->∀k(V:k<y b),aT W (R bd<|d+k*6+3)=H (ai b[k].S)/\aT W (R bd<|d+k*6+4)=H (ai b[k].T)/\aT W (R bd<|d+k*6+5)=H b[k].L:=λW g k V=>by obtain⟨r,⟨L,p⟩|⟨o,f,e,L,i,l⟩⟩:=h.row;cases L;(have c:∀j u,(rp b)[j]?=H u->aT W (R bd<|d+j)=H u:=λj u n=>by cases L;rw[cH (w:=a)<|by rw[g]];exact l j u n);refine⟨?_,?_,?_⟩;rw[aV];exact c _ _<|(qe b k V 3<|by omega).trans rfl;rw[aV];exact c _ _<|(qe b k V 4<|by omega).trans rfl;rw[aV];exact c _ _<|(qe b k V 5<|by omega).trans rfl);have B:=U m;have HS:=U h;clear h m;(go_in);(go_wp2_with fail);(go_loopw [3,4] (λnv c wr=>∃k:M,k<=y b/\c=ap k/\nv=ap (y b+Fu (b.take k):M)/\y b+Fu (b.take k)<=1048576/\∃q,wr=a.drewN q) (λ_ c _=>y b-(intOf c).toNat));(case atStart=>exact⟨0,bA _,rfl,by simp[Fu],by simp[Fu];omega,0,rfl⟩);(case round=>obtain⟨k,V,rfl,rfl,o,q,rfl⟩:=hrel;by_cases t:k<y b;(.have j:=aq t;obtain⟨c3,c4,c5⟩:=B a rfl k t;have ad:=HS.str _ j;have D:=HS.YQ _ j;have n:=HS.UX _ j;have ax:=HS.lens _ j;have ac:=JP b k t;have X:=SG b<|k+1;have u:XI b[k]=b[k].S.size+b[k].T.size+Ge b[k].cs:=rfl;have ba:∃x lc,b[k].L=J x (y b[k].cs) lc:=Bl n;obtain⟨lx,lc,hL⟩:=ba;rw[hL]at c5 n;generalize b[k]=br at*;obtain⟨bp,oA,oB,oS,oT,oL,c⟩:=br;simp only at c3 c4 c5 ad D n ax u hL;obtain⟨p,bb⟩:∃p,oS.size=p:=⟨_,rfl⟩;obtain⟨A,bc⟩:∃A,oT.size=A:=⟨_,rfl⟩;obtain⟨e,hM⟩:∃e,y b+Fu (b.take k)=e:=⟨_,rfl⟩;rw[hM]at o|-;rw[bb,bc]at ad u;(have a1:IntKind.i64.wrap ((e:Z)+(p:Z))=(e:Z)+p:=by rw[bQ];omega);(have a2:IntKind.i64.wrap ((e:Z)+(p:Z)+(A:Z))=(e:Z)+p+A:=by rw[bQ];omega);(have e2:(k:Z)<(y b:Z):=by omega);(have e3:(0:Z)<=(k:Z):=by omega);obtain⟨O,N,Q,HM,ao,al⟩:=kG ac X u hM D n;clear ac X u hM D n j;(go_wp2_with fail);(go_quiet(fail));rename_i nq;(go_wp2_with fail);(go_loopw [3,5] (λnv b wr=>∃l:M,l<=y c/\b=ap l/\nv=ap (e+p+A+Ge (c.take l):M)/\(0<l->e+p+A+Ge (c.take l)<=1048576)/\∃q,wr=a.drewN q) (λ_ b _=>y c-(intOf b).toNat));(case atStart=>exact⟨0,bA _,rfl,by simp[Ge],λbm=>absurd bm (by omega),q+nq,vk a q nq⟩);(case round=>obtain⟨l,hk,rfl,rfl,i,L,rfl⟩:=hrel;by_cases f:l<y c;(·(have hx:∃F g,lx=H (R F g)/\aT a (R F<|g+l*3)=H (ai c[l].key)/\aT a (R F<|g+l*3+1)=H (ai c[l].val):=by rcases ae al with⟨⟨z1,⟨z2,z0⟩|⟨F,g,bf,z2,bl,T⟩⟩,_⟩|⟨z3,_⟩;omega;cases z2;obtain⟨w1,w2,_⟩:=kU c l f;exact⟨F,g,rfl,T _ _ w1,by rw[aV];exact T _ _ w2⟩;rw[z3]at f;simp at f);obtain⟨F,g,W,d0,d1⟩:=hx;subst W;have av:=ao _<|aq f;have s:=SH c l f;have C:=SI c<|l+1;obtain⟨v,w⟩:∃v,c[l].key.size=v:=⟨_,rfl⟩;obtain⟨E,x⟩:∃E,c[l].val.size=E:=⟨_,rfl⟩;rw[w,x]at av s;obtain⟨P,r⟩:∃P,e+p+A+Ge (c.take l)=P:=⟨_,rfl⟩;rw[r]at i|-;(have bo:P<=281474977759232:=by rcases l with _|l;simp[Ge]at r;omega;have:=i (by omega);omega);generalize c[l]=cc at*;obtain⟨bh,bi,bg⟩:=cc;simp only at d0 d1 w x;(have b1:IntKind.i64.wrap ((P:Z)+1)=(P:Z)+1:=by rw[bQ];omega);(have b2:IntKind.i64.wrap ((P:Z)+1+(v:Z))=(P:Z)+1+v:=by rw[bQ];omega);(have b3:IntKind.i64.wrap ((P:Z)+1+(v:Z)+(E:Z))=(P:Z)+1+v+E:=by rw[bQ];omega);(have f1:(l:Z)<(y c:Z):=by omega);(have f0:(0:Z)<=(l:Z):=by omega);obtain⟨HP,an,bn⟩:=dC r s C;by_cases au:1048576<P+1+v+E;(·(have K:decide (y b+Fu b<=1048576)=bF:=by have h1:=ae O;have S:=ae N;have h3:=ae Q;have h4:=ae HM;simp;omega);(have f2:(1048576:Z)<(P:Z)+1+v+E:=by omega);clear r s C i;(go_wp2_with fail);(go_quiet(fail));go_wp2;go_ret;exact⟨(by first|rfl|(rw[K];rfl)),_,rfl⟩);(·(have f2:¬((1048576:Z)<(P:Z)+1+v+E):=by omega);clear r s C i;(go_wp2_with fail);(go_quiet(fail));rename_i T;go_wp2;go_roundw;(case rel=>have h1:=ae HP;have S:=ae an;refine⟨l+1,f,by go_num,?_,λ_=>by omega,_,rfl⟩;rw[S];congr 1;omega);case measure=>simp[intOf];omega));(·(have g:l=y c:=by omega);subst g;rw[bP]at i|-;obtain⟨P,r⟩:∃P,e+p+A+Ge c=P:=⟨_,rfl⟩;rw[r]at i|-;(have f1:¬((y c:Z)<(y c:Z)):=by omega);have h1:=ae O;have S:=ae N;have h3:=ae Q;have h4:=ae HM;by_cases au:1048576<P;(·(have K:decide (y b+Fu b<=1048576)=bF:=by simp;omega);(have f2:(1048576:Z)<(P:Z):=by omega);clear h1 S h3 h4 r i;go_wp2;go_ret;exact⟨(by first|rfl|(rw[K];rfl)),L,rfl⟩);(·(have f2:¬((1048576:Z)<(P:Z)):=by omega);(have v:y b+Fu (b.take<|k+1)=P:=by omega);have s:=U v;clear h1 S h3 h4 r i v;go_wp2;go_roundw;(case rel=>exact⟨k+1,t,by go_num,by rw[ae s],by rw[ae s];omega,L,rfl⟩);case measure=>simp[intOf];omega))));(have c:k=y b:=by omega);subst c;rw[bP]at o|-;(have e2:¬((y b:Z)<(y b:Z)):=by omega);(have K:decide (y b+Fu b<=1048576)=bW:=by simp;exact o);go_wp2;go_ret;exact⟨rfl,q,rfl⟩))
