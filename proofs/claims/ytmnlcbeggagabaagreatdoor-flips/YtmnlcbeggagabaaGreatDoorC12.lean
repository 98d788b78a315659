import Derived.Laws.CopyRow
import Derived.Laws.NewBlocks
import Derived.Lib.AppendZerosOnto
import Derived.Lib.Overlaps
import Derived.Shelf.RegionOpenPlain
import Derived.Test.YtmnlcbeggagabaaGreatDoorC9
open _root_ renaming List.length→y,Option.some→H,Array.size→z,Go.World.heap→G,Go.Value.ownBlock→cz,Go.World.cell?→aS,Go.World.setCell→cA,Go.World.alloc→cG,Bool.false→bj,Bool.true→ci,Nat→M,Int→U,List→cS,Go.Calls→cD,Go.Proofs.Tryz.prog→aZ,Go.Value.slice→J,Go.Value.string→am,Go.Value.bool→aK
namespace Go.Proofs.YtmnlcbeggagabaaGreatDoor
open ChangeShapes WideShapes RowKit Proofs.Tryz List
set_option maxHeartbeats 16000000
set_option linter.all false
set_option maxRecDepth 100000
variable{a f:Z}{b c g:M}{d:ab}{e:cI}{k D:U}{n V:dN}{w:E}{A:iF}{Q:Prop}
def Nl(a:0<=k)(b:k<4294967296):kI (le 4 k)=k:=by
 rw[zY 4 k a];grind
def rO(b:M)(n:U)(a:dN)(w:Z)(k:Rd w b (le 4 n++a) bj)(c:jn a)(l:y a<=140737488350000)(g:0<=n)(h:n<4294967296):cD aZ 145 #[aA b] w λj f=>j=aJ (dh n)/\Rd f b a bj/\w.grownBy f (H b):=by
 have d:=mz (le 4 n) a;rw[bU]at d;have e:=Jk b bj w k ((jn.le 4 n).append c) (by grind[length_append,bU]);have i:num (le 4 n++a) bj 4=n:=by unfold num;rw[d];exact Nl g h
 rw[d,i]at e;exact e
def zV(b:M)(n:U)(a:dN)(w:Z)(k:Rd w b (le 8 n++a) bj)(c:jn a)(l:y a<=140737488350000)(g:0<=n)(h:n<18446744073709551616):cD aZ 144 #[aA b] w λj f=>j=aJ (aE n)/\Rd f b a bj/\w.grownBy f (H b):=by
 have d:=mz (le 8 n) a;rw[bU]at d;have e:=Ku k ((jn.le 8 n).append c) (by grind[length_append,bU]);have i:num (le 8 n++a) bj 8=n:=by unfold num;rw[d];exact Cc g h
 rw[d,i]at e;exact e
def VN(a:M)(e:U)(w:Z)(l:Rd w a (e::n) bj)(b:jn n)(m:y n<=140737488350000)(h:0<=e)(i:e<256):cD aZ 154 #[aA a] w λk g=>k=aJ (qV e)/\Rd g a n bj/\w.grownBy g (H a):=by
 have c:=mz [e] n;simp only[aW,eD,dr,dl,de]at c;have f:=Ez l (by intro x d;rcases bR.1 d with rfl|d;exact⟨h,i⟩;exact b x d) (by grind);have j:num (e::n) bj 1=e:=by unfold num;rw[c];simp[kI]
 rw[c,j]at f;exact f
def On(b:M)(s:ae)(w:Z)(i:Rd w b (dZ s++n) bj)(c:jn n)(j:y n<=140737488350000)(k:s.size<=255):cD aZ 200 #[aA b] w λh d=>h=aJ (am s)/\Rd d b n bj/\w.grownBy d (H b):=by
 have f:=(uY s n).1;have e:jn (dZ s++n):=by intro x a;rcases aG.1 a with a|a;unfold dZ at a;rcases bR.1 a with rfl|a;omega;exact jn.text s x a;exact c x a
 have g:=CV i e (by simp only[ag,dZ,aW,gY];omega);rw[f]at g;grind[uZ]
def iY(b c:dN):Prop:=∃p x a s,c=p++x::s/\b=p++a::s/\x≠a/\(0<=a/\a<256)
def iY.len{c b:dN}(h:iY c b):y c=y b:=by
 obtain⟨p,x,a,s,rfl,rfl,_⟩:=h;simp
def iY.drop(h:iY n V)(a:M):n.drop a=V.drop a\/iY (n.drop a) (V.drop a):=by
 obtain⟨p,x,b,s,rfl,rfl,d,e⟩:=h;rcases gA (y p) a with c|c;left;rw[List.drop_append,List.drop_append,pC (by omega),show a-y p=(a-y p-1)+1 by omega];rfl;exact .inr ⟨p.drop a,x,b,s,mf c,mf c,d,e⟩
def iY.take{b:dN}(h:iY V b)(n:M):V.take n=b.take n\/iY (V.take n) (b.take n):=by
 obtain⟨p,x,a,s,rfl,rfl,d,e⟩:=h;rcases gA (y p) n with c|c;(.right;refine⟨p,x,a,s.take<|n-y p-1,?_,?_,d,e⟩;(all_goals rw[List.take_append,dp (by omega),show n-y p=(n-y p-1)+1 by omega];rfl));left;rw[fU c,fU c]
def Ea{s:dN}:∀{r:dN},kI (r++k::s)=kI (r++D::s)->k=D
 |[],h=>by simp[kI]at h;omega
 |zqq::r,h=>Ea (s:=s) (r:=r) (by simp[kI]at h;omega)
def iY.broken(l:iY n (gy V))(f:jn (gy V)):ui n:=by
 obtain⟨p,x,c,s,i,rfl,g,h⟩:=l;have j:0<=x/\x<256:=f x (by rw[i];simp);unfold gy at i f;have b:∀r,le 4 (kO V)=r++x::s->ui (V++(r++c::s)):=λr a=>by refine⟨V,r++c::s,rfl,?_,λd k=>?_,?_⟩;have:=bQ y a;rw[bU]at this;simp at this|-;omega;rcases aG.1 k with e|e;exact f d (by rw[a];simp[e]);rcases bR.1 e with rfl|e;exact h;exact f d (by rw[a];simp[e]);rw[<-Be V,a];exactλe=>g (Ea e).symm
 rcases sZ.1 i with⟨r,rfl,a⟩|⟨r,rfl,a⟩;rw[bz];exact b r a
 .cases r with
  |nil=>
   rw[dO]at b;exact b []<|by simpa using a.symm
  |cons d r=>
   cases a;refine⟨p++c::r,le 4<|kO<|p++x::r,by simp,bU _ _,jn.le 4 _,?_⟩;rw[Be];exactλe=>g<|Ev j h e
def qM{P:Program}(w:Z)(k A B c:TypeId)(e m o b g:M)(n:Addr)(d i:M)(a:Array ab)(D:TypeId)(f:iF)(x:P.underlying k=H (.slice c))(u:(P.info? c).map (·.size)=H e)(q:w.heap[m]?=H (ay a D (0,0)))(t:y f=Nat.min d b*e)(h:∀C v,f[C]?=H v->aS w (n.add C)=H v)(l:o+y f<=a.size)(p:∀v∈f,v.oneCell'=ci):(Builtin.copy_ #[k,A] B #[aY m o b g,J (H n) d i]).run P w=.ok (goInt<|Nat.min d b) (w.setRow m (a.toList.take o++f++a.toList.drop (o+y f)).toArray):=by
 have s:=run_loadCells_list (P:=P) w n f h;have j:=run_storeCells_at P m o D f 0 a w q (by grind) p;cases hq:P.info? c with
 |none=>simp[hq]at u
 |some E=>
  have r:E.size=e:=by grind
  simp[Builtin.copy_,ep x,Builtin.lenOf,Builtin.firstCells,sizeOf,typeInfo,hq,r,<-t,s,j]
def BG(w:Z)(g:M)(a:Array ab):I (λk=>k=g) w (w.setRow g a):=⟨rfl,rfl,rfl,by simp,λk _ b=>rL w g k a b⟩
theorem TA{a d:iF}(j:A.take (b*4)=a)(k:y a=b*4)(l:c<=b)(i:y d=4)(e:(b+1)*4<=y A):(((A.take ((c+1)*4)++a.drop (c*4)++A.drop ((c+1)*4+y (a.drop<|c*4))).take (c*4)++d++(A.take ((c+1)*4)++a.drop (c*4)++A.drop ((c+1)*4+y (a.drop<|c*4))).drop (c*4+y d)).take<|(b+1)*4)=a.take (c*4)++d++a.drop (c*4):=by
 have f:y (A.take<|(c+1)*4)=c*4+4:=by rw[dj];omega
 have g:(A.take ((c+1)*4)++a.drop (c*4)++A.drop ((c+1)*4+y (a.drop<|c*4))).take (c*4)=a.take (c*4):=by rw[bz,fU (by omega),wg,<-j,wg];grind
 have h:(A.take ((c+1)*4)++a.drop (c*4)++A.drop ((c+1)*4+y (a.drop<|c*4))).drop (c*4+y d)=a.drop (c*4)++A.drop ((c+1)*4+y (a.drop<|c*4)):=by rw[bz,i,<-f,sk]
 rw[g,h,<-bz,ow (by simp;omega)]
def SU(l:cI):∀u∈aI l,u.oneCell'=ci:=by
 intro u a;induction l with
 |nil=>cases a
 |cons x r b=>
  rw[show x::r=[x]++r from rfl,fI,aG]at a;grind[Bb]
def NZ(h:jU f d e)(S:y e<=1000000000)(g:∀s,cz d=H s->s<z (G f)):cD aZ 156 #[d] f λQ w=>∃v,Q=aJ v/\w.ownsRow (z<|G f) 170 4 v (y e) (aI e)/\Below (z<|G f) f w:=by
 obtain⟨P,L,p,q,r⟩:=cU mP;obtain⟨t,⟨rfl,E⟩|⟨D,b,o,rfl,O,u⟩⟩:=h;(.obtain rfl:e=[]:=aP E;have K:∀f:Z,(binOp .eql 88 aw aw).run aZ f=.ok (aK ci) f:=λ_=>rfl;(go_in);go_wp2;go_ret;exact⟨_,rfl,cO _ _ _ _,Below.refl _ _⟩)
 .have F:D<z (G f):=g D rfl;have x:=Y u;have A:=Y t;have j:(cG f<|ay #[] 170).ownsRow (z<|G f) 170 4 (aY (z<|G f) 0 0 0) 0 []:=World.ownsRow_lit f #[] 0 (ai _) (by decide) rfl;have C:=Y j;have K:∀(f:Z)a n c,(binOp .eql 88 (J (H a) n c) aw).run aZ f=.ok (aK bj) f:=λ_ _ _ _=>rfl;clear g j u t;go_in
  go_wp2_with(first
   |(at_builtin;refine ct _ rfl (.tmp 5) (.tmp 6) 88 rfl (z (G f)) 170 P vP 4 48 underlying88 L p q r rfl (by decide) _ 0 [] rfl C (R D b) (y e) o (aI e) rfl A (λT V N=>by rw[dt,fo F];exact x T V N) (SU e) (by omega) (by omega) (by simp) ?_;intro W X i k;have l:=Y i;have m:=Y k;clear i k))
  go_ret;refine⟨_,rfl,by simpa using af l,?_⟩;have:=m.below (B:=z<|G f) (by simp) (by rintro s⟨⟩;grind);exact⟨this.os,this.tape,this.output,aB (by simp) this.size,λs b=>(this.block s b).trans<|Below.heap_alloc f _ s b⟩
def AT{P:Program}{t d e f:TypeId}(c:P.underlying t=H (.slice f))(b:P.underlying d=H (.slice f))(x a:ab)(w:Z):(Builtin.append_ #[t,d] e #[x,a]).run P w=(Builtin.append_ #[t,t] e #[x,a]).run P w:=by
 cases x<;>try(simp[Builtin.append_,ep c];done)
 cases hq:P.info? f<;>simp[Builtin.append_,ep c,ep b,sizeOf,typeInfo,hq]
def nw{P:Program}(w:Z){k:Array Oper}{e:cS Oper}{C:Oper}{E:Act}{ac:Exit->Act->Z->Prop}(p:C.guard=none)(an ao:Operand)(aa D:TypeId)(W:C.op=.call {callee:=.builtin .append,args:=#[an,ao],argTypes:=#[aa,D]})(a:M)(u:TypeId)(A:TypeInfo)(i:ab)(b bytes:M)(x:P.underlying aa=H (.slice u))(r:P.underlying D=H (.slice u))(T:P.info? u=H A)(hz:A.zero=H i)(h:A.size=b)(o:A.bytes=bytes)(s:i.cells.size=b)(q:0<b)(K:ab)(B:M)(t:iF)(hs:E.eval an=K)(j:w.ownsRow a u b K B t)(n:Addr)(v ad:M)(c:iF)(hx:E.eval ao=J (H n) v ad)(V:y c=v*b)(g:∀al F,c[al]?=H F->aS w (n.add al)=H F)(L:∀F∈c,F.oneCell'=ci)(hn:B+v<=140737488355328)(d:(B+v)*bytes<=140737488355328)(f:a<=z (G w))(au:∀l m,m.ownsRow a u b l (B+v) (t++c)->eC w m K l->wpList P k ac e (E.put C.dst l) m):wpList P k ac (C::e) E w:=by
 obtain⟨l,m,X,N,O,_,Q⟩:=mX (P:=P) w a aa C.type u A i b bytes x T hz h o s q K B t j n v ad c V g L (by unfold maxLen;omega) d f;refine kA p λav S=>?_;unfold Oper.wp;simp[execOp,W,resolve,invoke,builtin,hs,hx,AT x r,X,Result.andThen];exact S _ _<|au l m N<|eC.of O Q
def Nq(o:a.ownsRow b 170 4 d c A)(r:b<=z (G a))(D:iG a g w)(S:c<=1000000000):cD aZ 158 #[d,aq c,aY g 0 1 1] a λQ K=>∃x,Q=aJ x/\K.ownsRow b 170 4 x (c+1) (A++aI [w])/\eC a K d x:=by
 obtain⟨v,t,l,m,n⟩:=cU mP;have B:∀C P,(aI [w])[C]?=H P->aS a (((R g 0):Addr).add C)=H P:=by intro C P s;rw[dt,bV D,dr];simpa[aI,E.cells]using s
 have p:=Y B;have q:=Y o;clear B D;rcases o.2 with⟨rfl,rfl⟩|⟨T,k,N,rfl,_,_,O,u,_⟩;(.clear o;(go_in);(go_wp2_with(at_builtin;refine nw _ rfl (.tmp 23) (.tmp 24) 88 87 rfl b 170 v vP 4 48 underlying88 underlying87 t l m n rfl (by decide) _ 0 A rfl q (R g 0) 1 1 (aI [w]) rfl rfl p (Bb w) (by omega) (by omega) r ?_;intro F L e f;have i:=Y e;have j:=Y f;clear e f));go_ret;exact⟨_,rfl,by simpa using af i,j⟩);clear o;(have C:k<=9223372036854775807:=by unfold maxLen at u;omega);by_cases s:k=c;(.subst s;(go_in);(go_wp2_with(at_builtin;refine nw _ rfl (.tmp 23) (.tmp 24) 88 87 rfl b 170 v vP 4 48 underlying88 underlying87 t l m n rfl (by decide) _ k A rfl q (R g 0) 1 1 (aI [w]) rfl rfl p (Bb w) (by omega) (by omega) r ?_;intro F L e f;have i:=Y e;have j:=Y f;clear e f));go_ret;exact⟨_,rfl,i,j⟩);(go_in);(go_wp2_with(at_builtin;refine nw _ rfl (.tmp 23) (.tmp 24) 88 87 rfl b 170 v vP 4 48 underlying88 underlying87 t l m n rfl (by decide) _ c A rfl q (R g 0) 1 1 (aI [w]) rfl rfl p (Bb w) (by omega) (by omega) r ?_;intro F L e f;have i:=Y e;have j:=Y f;clear e f));go_ret;exact⟨_,rfl,i,j⟩
section
open Shelf
def ym{P:Program}{b:Array Oper}{o:Oper}{e:Act}{K:Act->Z->Prop}{q:Exit->Act->Z->Prop}(k:o.guard=none)(p x:Operand)(g h:TypeId)(c:o.op=Op.call {callee:=Callee.builtin Builtin.copy,args:=#[p,x],argTypes:=#[g,h]})(v u:ab)(j:e.eval p=v)(n:e.eval x=u)(l:(Builtin.copy_ #[g,h] o.type #[v,u]).run P a=.ok d f)(i:K (e.put o.dst d) f):if Region.wanted o (yielded b e.tmps)=ci then Oper.wp P o e a K q else Q:=by
 have m:Region.wanted o (yielded b e.tmps)=ci:=by simp[Region.wanted,k]
 rw[dV m];unfold Oper.wp;simp[execOp,c,resolve,invoke,builtin,j,n,l,Result.andThen];exact i
def Py(w:Z):(Go.sizeOf 170).run aZ w=.ok 4 w:=by kernel_rfl
def pK{w:Z}{g:TypeId}{a:Array ab}(d:w.heap[c]?=H (ay a g (0,0)))(f:a.toList.take (b*4)=A)(j:M)(u:ab)(o:M)(e:(A.drop o)[j]?=H u):aS w (R c<|o+j)=H u:=by
 rw[bV d];rw[List.getElem?_drop,<-f,oD]at e;grind
def Il(f k d n i:M)(l:Array ab)(m:iF)(L:f<=k)(Q:a.heap[k]?=H (ay l 170 (0,0)))(C:n+1<=d)(X:d<=9223372036854775807)(K:l.size=d*4)(v:l.toList.take (n*4)=m)(p:iG a b w)(s:b≠k)(hi:i<n)(hn:n<=1000000000)(h1:∀ac∈m,ac.oneCell'=ci):cD aZ 158 #[aY k 0 n d,aq i,aY b 0 1 1] a λba w'=>ba=aJ (aY k 0 (n+1) d)/\w'.ownsRow f 170 4 (aY k 0 (n+1) d) (n+1) (m.take (i*4)++aI [w]++m.drop (i*4))/\I (λal=>al=k) a w':=by
 have P:y m=n*4:=by rw[<-v,dj,kq];omega
 have aa:∀lb o,(callFunc 209 #[aY b 0 1 1,aY k ((i+1)*4) lb o]).run aZ a=.ok (.value<|aK bj) a:=λlb o=>by rw[cY func209 (by kernel_rfl) (by kernel_rfl) (by kernel_rfl) (e:=Extern.SlicesOverlaps.overlaps #[87,87] #[4]) (by kernel_rfl),Lib.run_overlaps_apart a 87 4 170 underlying87 4 Py (R b 0) (R k<|(i+1)*4) 1 1 lb o s _ _ 4 (d*4) (by unfold iG at p;simp[World.shape?,p];rfl) (by simp[World.shape?,Q,K];rfl) (by omega) (by unfold iG at p;simp[World.frozen?,p]) (by unfold iG at p;simp[World.frozen?,p])];rfl
 have t:(prog.info? 170).map (·.size)=H 4:=by kernel_rfl
 have O:y (m.drop<|i*4)=(n-i)*4:=by rw[gX,P];omega
 obtain⟨c,j⟩:∃c,c=(l.toList.take ((i+1)*4)++m.drop (i*4)++l.toList.drop ((i+1)*4+y (m.drop<|i*4))):=⟨_,rfl⟩;have T:y c=d*4:=by rw[j];grind
 have D:∀x q o,(Builtin.copy_ #[88,88] x #[aY k ((i+1)*4) (n-i) q,aY k (i*4) (n+1-i) o]).run aZ a.drew=.ok (goInt<|Nat.min (n+1-i)<|n-i) (a.drew.setRow k c.toArray):=λx q o=>by rw[j];refine qM a.drew _ _ x 170 4 k ((i+1)*4) _ q (R k<|i*4) _ o l _ (m.drop<|i*4) underlying88 t Q ?_ (λbb ac V=>by rw[dt];exact pK Q v bb ac _ V) (by omega)<|λac hu=>h1 ac<|dH hu;rw[O];grind
 have r:(a.drew.setRow k c.toArray).heap[k]?=H (ay c.toArray 170 (0,0)):=tq _ _ _ _ _ _ Q;obtain⟨e,g⟩:∃e,e=(c.take (i*4)++aI [w]++c.drop (i*4+y (aI [w]))):=⟨_,rfl⟩;have u:y (aI [w])=4:=rfl;have N:iG (a.drew.setRow k c.toArray) b w:=(rL a.drew k b _ s).trans p;have F:∀(W:Z),W.heap=(a.drew.setRow k c.toArray).heap->∀x q,(Builtin.copy_ #[88,87] x #[aY k (i*4) (n+1-i) q,aY b 0 1 1]).run aZ W=.ok (goInt<|Nat.min 1<|n+1-i) (W.setRow k e.toArray):=λW A x q=>by rw[g];refine qM W _ _ x 170 4 k (i*4) _ q (R b 0) _ 1 c.toArray _ (aI [w]) underlying88 t (by rw[A];exact r) ?_ (λbb ac V=>?_) (by simp;omega)<|Bb w;rw[u];simp only[Nat.min_def];split<;>omega;rw[dt,bV (show iG W b w by unfold iG;rw[A];exact N),dr];simpa[aI,E.cells]using V
 have aV:¬((i:U)=(n:U)):=by omega
 have aF:IntKind.i64.wrap ((i:U)+1)=(i:U)+1:=by rw[bS];omega
 have aU:IntKind.i64.wrap ((n:U)+1)=(n:U)+1:=by rw[bS];omega
 have aD:((i:U)+1).toNat=i+1:=by omega
 have ad:((n:U)+1).toNat=n+1:=by omega
 have au:(0:U)<=(i:U)+1:=by omega
 have ax:i<=n:=by omega
 have av:(i:U)<=(n:U)+1:=by omega
 have an:¬(d=i):=by omega
 have ao:¬(d=i+1):=by omega
 have S:prog.follows .mixedOrders=ci:=by kernel_rfl
 have B:=Y (show∀W:Z,W.heap=(a.drew.setRow k c.toArray).heap->W.os=a.os->W.tape=a.tape->W.output=a.output->(W.setRow k e.toArray).ownsRow f 170 4 (aY k 0 (n+1) d) (n+1) (m.take (i*4)++aI [w]++m.drop (i*4))/\I (λal=>al=k) a (W.setRow k e.toArray)from by
  intro W A e1 e2 e3;refine⟨⟨by simp[u];omega,.inr ⟨k,d,e.toArray,rfl,L,tq _ _ _ _ _ _ (by rw[A];exact r),C,X,?_,?_⟩⟩,⟨e1,e2,e3,?_,?_⟩⟩
  .rw[g];grind
  .rw[List.toList_toArray,g,j];grind[TA]
  .rw[setRow_size,A,setRow_size];simp_all
  .intro al hk o;rw[rL _ _ _ _ o,A,rL _ _ _ _ o];rfl)
 clear T O j g u N r P h1 v K t p s L;go_in
 go_wp2_with(simp only[aa])
 go_region_law_o (refine ym rfl _ _ 88 88 rfl _ _ (by simp[Act.eval,Act.put]) (by simp[Act.eval,Act.put]) (D _ _ _) ?_)
 go_wp2_with(at_builtin;refine wpList_copy_run _ rfl _ _ 88 87 rfl _ _ rfl rfl (F _ rfl _ _) ?_)
 go_ret;exact⟨rfl,B _ rfl rfl rfl rfl⟩
end
structure Acc(S:eT)(a:Z)(fx:cS (M×ab×TypeId))(lb:M)(tl c:TypeId)(b base n:M)(xs:iF)(B:eT)(W:Z):Prop where
 fix:∀p∈fx,eG W p.1 p.2.1 p.2.2
 row:∃v,eG W lb v tl/\W.ownsRow base c b v n xs/\(∀k,B k↔(∃p∈fx,p.1=k)\/k=lb\/cz v=H k)
 Ys:∀p∈fx,z (G a)<=p.1/\p.1<base/\p.1≠lb
 Yq:z (G a)<=lb/\lb<base
 ap:I S a W
section
variable{S:eT}{a W:Z}{fx:cS (M×ab×TypeId)}{lb:M}{tl c:TypeId}{b baseqq n:M}{xs:iF}{B:eT}
theorem Acc.lt(h:Acc S a fx lb tl c b baseqq n xs B W):∀k,B k->z (G a)<=k/\k<z (G W):=by
 intro k j;obtain⟨v,l,g,i⟩:=h.row;have:=h.Yq;rcases(i k).1 j with⟨p,d,e⟩|e|e;subst e;exact⟨(h.Ys p d).1,ar<|h.fix p d⟩;grind
 have:=g.lt k e;grind
theorem Acc.stays{j:Z}{T:eT}(i:Acc S a fx lb tl c b baseqq n xs B W)(f:I T W j)(e:∀k,T k->¬B k/\(S k\/z (G a)<=k)):Acc S a fx lb tl c b baseqq n xs B j:=by
 obtain⟨v,m,o,d⟩:=i.row;exact⟨λp h=>(f.block _ (ar<|i.fix p h)<|λl=>(e _ l).1<|(d _).2<|.inl ⟨p,h,rfl⟩).trans<|i.fix p h,⟨v,(f.block _ (ar m)<|λl=>(e _ l).1<|(d _).2<|.inr<|.inl rfl).trans m,f.own o<|λk g l=>(e k l).1<|(d k).2<|.inr<|.inr g,d⟩,i.Ys,i.Yq,i.ap.trans f<|λk g=>(e k g).2⟩
theorem Acc.more{e:Z}{v d:ab}{A:M}{l:iF}(m:Acc S a fx lb tl c b baseqq n xs B W)(u:eG W lb v tl)(t:∀k,B k↔(∃p∈fx,p.1=k)\/k=lb\/cz v=H k)(K:W.ownsRow baseqq c b v n xs)(r:I (λk=>cz v=H k) W e)(D:cz d=cz v\/∃N,cz d=H N/\z (G W)<=N)(g:e.ownsRow baseqq c b d A l):∃s,Acc S a fx lb tl c b baseqq A l s (cA e (R lb 0) d)/\I B W (cA e (R lb 0) d)/\(∀k,s k->B k\/z (G W)<=k):=by
 have j:∀k,cz v=H k->baseqq<=k/\k<z (G W):=λk f=>K.lt k f;have w:∀k,cz d=H k->baseqq<=k:=λk f=>(g.lt k f).1;have F:=m.Yq;have q:eG e lb v tl:=(r.block _ (ar u) (λC=>by have:=(j _ C).1;omega)).trans u;have h:I B W (cA e (R lb 0) d):=(r.mono (T:=B)<|λk f=>.inl<|(t k).2<|.inr<|.inr f).setCell _ _ _<|.inl<|(t _).2<|.inr<|.inl rfl;refine⟨λk=>(∃p∈fx,p.1=k)\/k=lb\/cz d=H k,⟨λp o=>?_,⟨d,q.set _,?_,λk=>qH⟩,m.Ys,m.Yq,?_⟩,h,?_⟩;obtain⟨O,P,L⟩:=m.Ys p o;have E:eG e p.1 p.2.1 p.2.2:=(r.block _ (ar<|m.fix p o) (λC=>by have:=(j _ C).1;omega)).trans<|m.fix p o;exact E.other _ L;exact g.kept (du e _ _ _) (by grind);exact m.ap.trans h<|λk f=>.inr (m.lt k f).1;grind
end
def Ws(u:ab):Prop:=(∃b,u=aK b)\/∃x n c,u=J x n c
def Ft(w:Z)(v:ab):Prop:=∀k a t b,cz v=H k->w.heap[k]?=H (ay a t b)->∀u∈a.toList,Ws u
def Ft.ap{S:eT}{w w':Z}(m:Ft w d)(l:I S w w')(g:∀k,cz d=H k->¬S k)(j:∀k,cz d=H k->k<z (G w)):Ft w' d:=λk a t e c h=>m k a t e c<|(l.block k (j k c)<|g k c).symm.trans h
theorem Fu{a:Array ab}(h:∀x∈a.toList,Ws x)(f:0<a.size)(c:d∈(Builtin.zeroCells a b).toList):Ws d:=by
 unfold Builtin.zeroCells at c;obtain⟨i,_,g⟩:=Array.mem_map.1<|Array.mem_toList_iff.1 c;have e:i%a.size<a.size:=yC _ f;rw[Array.getElem!_eq_getD,Array.getD_eq_getD_getElem?,Array.getElem?_eq_getElem e,lP]at g;rw[<-g];grind
def Ba{P:Program}{an:Oper}{aD:Act}{bb:Act->Z->Prop}{bf:Exit->Act->Z->Prop}(bd aF:Operand)(ao:TypeId)(ac:an.op=Op.call {callee:=Callee.builtin Builtin.append,args:=#[bd,aF],argTypes:=#[ao,ao]})(c:M)(N:TypeId)(V:TypeInfo)(j:ab)(d bytes:M)(T:P.underlying ao=H (.slice N))(Q:P.info? N=H V)(hz:V.zero=H j)(l:V.size=d)(D:V.bytes=bytes)(al:j.cells.size=d)(ad:0<d)(ax:ab)(W:M)(x:iF)(hs:aD.eval bd=ax)(i:a.ownsRow c N d ax W x)(v:Addr)(L au:M)(b:iF)(hx:aD.eval aF=J (H v) L au)(F:y b=L*d)(f:∀av u,b[av]?=H u->aS a (v.add av)=H u)(h1:∀u∈b,u.oneCell'=ci)(hn:W+L<=140737488355328)(e:(W+L)*bytes<=140737488355328)(o:c<=z (G a))(hm:0<L)(kz:∀u∈j.cells.toList,Ws u)(kn:∀u∈b,Ws u)(ko:Ft a ax)(hK:∀s t,t.ownsRow c N d s (W+L) (x++b)->eC a t ax s->Ft t s->bb (aD.put an.dst s) t):Oper.wp P an aD a bb bf:=by
 obtain⟨s,t,S,h2,h3,_,h5⟩:=mX (P:=P) a c ao an.type N V j d bytes T Q hz l D al ad ax W x i v L au b F f h1 (by unfold maxLen;omega) e o;have p:Ft t s:=by subst l;subst D;rcases i.2 with⟨rfl,rfl⟩|⟨X,n,h,rfl,aU,O,ba,aV,aa,r⟩;(have g:=run_append_nil (P:=P) a ao an.type N V j T Q hz v L au b F f hm (by omega) (by have k:=e;grind);rw[S]at g;injection g with B C;intro bc h t' fr p w u m;subst B C;cases p;have E:=(jb a.drew _).symm.trans w;grind[Array.toList_append,Fu]);by_cases k:W+L<=n;((have q:W*V.size+y b<=h.size:=by rw[F,aa,<-wb];exact jQ _ k);have g:=run_append_room (P:=P) a ao an.type N V T Q X W n h O v L au b F f h1 k q;rw[S]at g;injection g with B C;intro bc A t' fr p w u m;subst B C;cases p;rw[tq a X h _ N _ O]at w;cases w;have EZ:∀aF∈h.toList,Ws aF:=ko X h _ _ rfl O;grind);have q:∀av u,x[av]?=H u->aS a (((R X 0):Addr).add av)=H u:=i.cells (g:=X) rfl;have g:=run_append_grow (P:=P) a ao an.type N V j T Q hz (R X 0) W n x i.1 q v L au b F f (by omega) (by omega)<|sg (by omega) e;rw[S]at g;injection g with B C;intro bc A t' fr p w u m;subst B C;cases p;have E:=(jb a.drew _).symm.trans w;cases E;rw[rG,aG,rG,aG]at m;rcases m with(m|m)|m;(have K:u∈x:=by simpa using m);rw[<-r]at K;exact ko X h _ _ rfl O u<|dU K;(grind);grind[Fu]
 unfold Oper.wp;simp[execOp,ac,resolve,invoke,builtin,hs,hx,S,Result.andThen];exact hK s t h2 (eC.of h3 h5) p
def yF{P:Program}(w:Z){m:Array Oper}{f:cS Oper}{E:Oper}{D:Act}{ad:Exit->Act->Z->Prop}(p:E.guard=none)(aa ac:Operand)(F:TypeId)(q:E.op=Op.call {callee:=Callee.builtin Builtin.append,args:=#[aa,ac],argTypes:=#[F,F]})(a:M)(x:TypeId)(A:TypeInfo)(e:ab)(b bytes:M)(ht:P.underlying F=H (.slice x))(Q:P.info? x=H A)(hz:A.zero=H e)(i:A.size=b)(o:A.bytes=bytes)(s:e.cells.size=b)(r:0<b)(C:ab)(B:M)(v:iF)(X:D.eval aa=C)(l:w.ownsRow a x b C B v)(n:Addr)(t al:M)(c:iF)(hx:D.eval ac=J (H n) t al)(S:y c=t*b)(h:∀an u,c[an]?=H u->aS w (n.add an)=H u)(K:∀u∈c,u.oneCell'=ci)(W:B+t<=140737488355328)(d:(B+t)*bytes<=140737488355328)(g:a<=z (G w))(V:0<t)(kz:∀u∈e.cells.toList,Ws u)(kn:∀u∈c,Ws u)(ko:Ft w C)(ao:∀j k,k.ownsRow a x b j (B+t) (v++c)->eC w k C j->Ft k j->wpList P m ad f (D.put E.dst j) k):wpList P m ad (E::f) D w:=by
 refine kA p λL O=>?_;exact Ba aa ac F q a x A e b bytes ht Q hz i o s r C B v X l n t al c hx S h K W d g V kz kn ko<|λj k p L N=>O _ _<|ao j k p L N
