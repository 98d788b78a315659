import Derived.Defers
import Derived.Laws.CopyRow
import Derived.Laws.NewBlocks
import Derived.Lib.AppendZerosOnto
import Derived.Lib.Overlaps
import Derived.Shelf.RegionOpenPlain
import Derived.Test.YthaiaannkhpppaaGreatDoorC3
open _root_ renaming List.length→y,Option.some→H,Array.size→z,Go.World.heap→G,Go.Value.ownBlock→cK,Go.World.cell?→aW,Go.World.setCell→cq,Go.World.alloc→cN,Bool.false→aX,Bool.true→ci,Nat→M,Int→X,List→cJ,Go.Calls→cY,Go.Proofs.Tryz.prog→aZ,Go.Value.slice→I,Go.Value.string→am,Go.Value.bool→aN,Go.Value.pointer→cX,Go.Value.tuple→dq,Go.Value.agg→dC
namespace Go.Proofs.YthaiaannkhpppaaGreatDoor
open ChangeShapes WideShapes RowKit Proofs.Tryz List
set_option maxHeartbeats 16000000
set_option linter.all false
set_option maxRecDepth 100000
variable{a f:Y}{b c g:M}{d:ab}{e:cR}{k:X}{w:E}{B:gW}{Q:Prop}{V:Array ab}
def OH(a:0<=k)(b:k<4294967296):ma (le 4 k)=k:=by
 rw[AR 4 k a];grind
def sF(a:M)(n:X)(rest:eR)(w:Y)(j:Rd w a (le 4 n++rest) aX)(b:kh rest)(k:y rest<=140737488350000)(f:0<=n)(g:n<4294967296):cY aZ 136 #[aA a] w λi e=>i=aM (dA n)/\Rd e a rest aX/\w.grownBy e (H a):=by
 have c:=mD (le 4 n) rest;rw[cH]at c;have d:=Ko a aX w j ((kh.le 4 n).append b) (by grind[length_append,cH]);have h:num (le 4 n++rest) aX 4=n:=by unfold num;rw[c];exact OH f g
 rw[c,h]at d;exact d
def AN(a:M)(n:X)(rest:eR)(w:Y)(j:Rd w a (le 8 n++rest) aX)(b:kh rest)(k:y rest<=140737488350000)(f:0<=n)(g:n<18446744073709551616):cY aZ 135 #[aA a] w λi e=>i=aM (aE n)/\Rd e a rest aX/\w.grownBy e (H a):=by
 have c:=mD (le 8 n) rest;rw[cH]at c;have d:=LK j ((kh.le 8 n).append b) (by grind[length_append,cH]);have h:num (le 8 n++rest) aX 8=n:=by unfold num;rw[c];exact CT f g
 rw[c,h]at d;exact d
def Yz(a:M)(n:X){rest:eR}(w:Y)(k:Rd w a (n::rest) aX)(b:kh rest)(l:y rest<=140737488350000)(g:0<=n)(h:n<256):cY aZ 147 #[aA a] w λj f=>j=aM (rD n)/\Rd f a rest aX/\w.grownBy f (H a):=by
 have c:=mD [n] rest;simp only[aY,dG,dE,df,cV]at c;have e:=FB k (by intro x d;rcases bJ.1 d with rfl|d;exact⟨g,h⟩;exact b x d) (by grind);have i:num (n::rest) aX 1=n:=by unfold num;rw[c];simp[ma]
 rw[c,i]at e;exact e
def PK(b:M)(s:ae){rest:eR}(w:Y)(i:Rd w b (eF s++rest) aX)(c:kh rest)(j:y rest<=140737488350000)(k:s.size<=255):cY aZ 193 #[aA b] w λh d=>h=aM (am s)/\Rd d b rest aX/\w.grownBy d (H b):=by
 have f:=(vZ s rest).1;have e:kh (eF s++rest):=by intro x a;rcases aG.1 a with a|a;unfold eF at a;rcases bJ.1 a with rfl|a;omega;exact kh.text s x a;exact c x a
 have g:=DO i e (by simp only[af,eF,aY,ic];omega);rw[f]at g;grind[wa]
def rh{P:Program}(w:Y)(k A B c:TypeId)(e m o b g:M)(n:Addr)(d i:M)(a:Array ab)(D:TypeId)(f:gW)(x:P.underlying k=H (.slice c))(u:(P.info? c).map (·.size)=H e)(q:w.heap[m]?=H (aw a D (0,0)))(t:y f=Nat.min d b*e)(h:∀C v,f[C]?=H v->aW w (n.add C)=H v)(l:o+y f<=a.size)(p:∀v∈f,v.oneCell'=ci):(Builtin.copy_ #[k,A] B #[bD m o b g,I (H n) d i]).run P w=.ok (goInt<|Nat.min d b) (w.setRow m (a.toList.take o++f++a.toList.drop (o+y f)).toArray):=by
 have s:=run_loadCells_list (P:=P) w n f h;have j:=run_storeCells_at P m o D f 0 a w q (by grind) p;cases hq:P.info? c with
 |none=>simp[hq]at u
 |some E=>
  have r:E.size=e:=by grind
  simp[Builtin.copy_,fF x,Builtin.lenOf,Builtin.firstCells,sizeOf,typeInfo,hq,r,<-t,s,j]
def Cv(w:Y)(g:M)(a:Array ab):Z (λk=>k=g) w (w.setRow g a):=⟨rfl,rfl,rfl,by simp,λk _ b=>sC w g k a b⟩
theorem VC{a d:gW}(j:B.take (b*4)=a)(k:y a=b*4)(l:c<=b)(i:y d=4)(e:(b+1)*4<=y B):(((B.take ((c+1)*4)++a.drop (c*4)++B.drop ((c+1)*4+y (a.drop<|c*4))).take (c*4)++d++(B.take ((c+1)*4)++a.drop (c*4)++B.drop ((c+1)*4+y (a.drop<|c*4))).drop (c*4+y d)).take<|(b+1)*4)=a.take (c*4)++d++a.drop (c*4):=by
 have f:y (B.take<|(c+1)*4)=c*4+4:=by rw[dO];omega
 have g:(B.take ((c+1)*4)++a.drop (c*4)++B.drop ((c+1)*4+y (a.drop<|c*4))).take (c*4)=a.take (c*4):=by rw[bA,mr (by omega),xE,<-j,xE];grind
 have h:(B.take ((c+1)*4)++a.drop (c*4)++B.drop ((c+1)*4+y (a.drop<|c*4))).drop (c*4+y d)=a.drop (c*4)++B.drop ((c+1)*4+y (a.drop<|c*4)):=by rw[bA,i,<-f,tr]
 rw[g,h,<-bA,oQ (by simp;omega)]
def UZ(l:cR):∀u∈aK l,u.oneCell'=ci:=by
 intro u a;induction l with
 |nil=>cases a
 |cons x r b=>
  rw[show x::r=[x]++r from rfl,fW,aG]at a;grind[BR]
def Pu(h:kC f d e)(S:y e<=1000000000)(g:∀s,cK d=H s->s<z (G f)):cY aZ 149 #[d] f λQ w=>∃v,Q=aM v/\w.ownsRow (z<|G f) 171 4 v (y e) (aK e)/\Below (z<|G f) f w:=by
 obtain⟨P,L,p,q,r⟩:=di mZ;obtain⟨t,⟨rfl,E⟩|⟨D,b,o,rfl,O,u⟩⟩:=h;(.obtain rfl:e=[]:=aL E;have K:∀f:Y,(binOp .eql 87 az az).run aZ f=.ok (aN ci) f:=λ_=>rfl;(go_in);go_wp2;go_ret;exact⟨_,rfl,cO _ _ _ _,Below.refl _ _⟩)
 .have F:D<z (G f):=g D rfl;have x:=U u;have A:=U t;have j:(cN f<|aw #[] 171).ownsRow (z<|G f) 171 4 (bD (z<|G f) 0 0 0) 0 []:=World.ownsRow_lit f #[] 0 (ah _) (by decide) rfl;have C:=U j;have K:∀(f:Y)a n c,(binOp .eql 87 (I (H a) n c) az).run aZ f=.ok (aN aX) f:=λ_ _ _ _=>rfl;clear g j u t;go_in
  go_wp2_with(first
   |(at_builtin;refine cA _ rfl (.tmp 5) (.tmp 6) 87 rfl (z (G f)) 171 P wo 4 48 underlying87 L p q r rfl (by decide) _ 0 [] rfl C (R D b) (y e) o (aK e) rfl A (λT V N=>by rw[dB,fC F];exact x T V N) (UZ e) (by omega) (by omega) (by simp) ?_;intro W w2 i k;have l:=U i;have m:=U k;clear i k))
  go_ret;refine⟨_,rfl,by simpa using J l,?_⟩;have:=m.below (B:=z<|G f) (by simp) (by rintro s⟨⟩;grind);exact⟨this.os,this.tape,this.output,aC (by simp) this.size,λs b=>(this.block s b).trans<|Below.heap_alloc f _ s b⟩
def BI{P:Program}{t d e f:TypeId}(c:P.underlying t=H (.slice f))(b:P.underlying d=H (.slice f))(x a:ab)(w:Y):(Builtin.append_ #[t,d] e #[x,a]).run P w=(Builtin.append_ #[t,t] e #[x,a]).run P w:=by
 cases x<;>try(simp[Builtin.append_,fF c];done)
 cases hq:P.info? f<;>simp[Builtin.append_,fF c,fF b,sizeOf,typeInfo,hq]
def nJ{P:Program}(w:Y){j:Array Oper}{rest:cJ Oper}{B:Oper}{D:Act}{ac:Exit->Act->Y->Prop}(o:B.guard=none)(an ao:Operand)(aa C:TypeId)(V:B.op=.call {callee:=.builtin .append,args:=#[an,ao],argTypes:=#[aa,C]})(a:M)(t:TypeId)(x:TypeInfo)(h:ab)(b bytes:M)(v:P.underlying aa=H (.slice t))(q:P.underlying C=H (.slice t))(S:P.info? t=H x)(hz:x.zero=H h)(g:x.size=b)(n:x.bytes=bytes)(r:h.cells.size=b)(p:0<b)(F:ab)(A:M)(s:gW)(hs:D.eval an=F)(i:w.ownsRow a t b F A s)(m:Addr)(u ad:M)(c:gW)(hx:D.eval ao=I (H m) u ad)(T:y c=u*b)(f:∀al E,c[al]?=H E->aW w (m.add al)=H E)(K:∀E∈c,E.oneCell'=ci)(hn:A+u<=140737488355328)(d:(A+u)*bytes<=140737488355328)(e:a<=z (G w))(ap:∀k l,l.ownsRow a t b k (A+u) (s++c)->eE w l F k->wpList P j ac rest (D.put B.dst k) l):wpList P j ac (B::rest) D w:=by
 obtain⟨k,l,W,L,N,_,O⟩:=nj (P:=P) w a aa B.type t x h b bytes v S hz g n r p F A s i m u ad c T f K (by unfold maxLen;omega) d e;refine lw o λau Q=>?_;unfold Oper.wp;simp[execOp,V,resolve,invoke,builtin,hs,hx,BI v q,W,Result.andThen];exact Q _ _<|ap k l L<|eE.of N O
def OO(o:a.ownsRow b 171 4 d c B)(r:b<=z (G a))(D:iM a g w)(S:c<=1000000000):cY aZ 151 #[d,ar c,bD g 0 1 1] a λQ K=>∃x,Q=aM x/\K.ownsRow b 171 4 x (c+1) (B++aK [w])/\eE a K d x:=by
 obtain⟨v,t,l,m,n⟩:=di mZ;have A:∀C P,(aK [w])[C]?=H P->aW a (((R g 0):Addr).add C)=H P:=by intro C P s;rw[dB,cg D,dE];simpa[aK,E.cells]using s
 have p:=U A;have q:=U o;clear A D;rcases o.2 with⟨rfl,rfl⟩|⟨T,k,N,rfl,_,_,O,u,_⟩;(.clear o;(go_in);(go_wp2_with(at_builtin;refine nJ _ rfl (.tmp 23) (.tmp 24) 87 86 rfl b 171 v wo 4 48 underlying87 underlying86 t l m n rfl (by decide) _ 0 B rfl q (R g 0) 1 1 (aK [w]) rfl rfl p (BR w) (by omega) (by omega) r ?_;intro F L e f;have i:=U e;have j:=U f;clear e f));go_ret;exact⟨_,rfl,by simpa using J i,j⟩);clear o;(have C:k<=9223372036854775807:=by unfold maxLen at u;omega);by_cases s:k=c;(.subst s;(go_in);(go_wp2_with(at_builtin;refine nJ _ rfl (.tmp 23) (.tmp 24) 87 86 rfl b 171 v wo 4 48 underlying87 underlying86 t l m n rfl (by decide) _ k B rfl q (R g 0) 1 1 (aK [w]) rfl rfl p (BR w) (by omega) (by omega) r ?_;intro F L e f;have i:=U e;have j:=U f;clear e f));go_ret;exact⟨_,rfl,i,j⟩);(go_in);(go_wp2_with(at_builtin;refine nJ _ rfl (.tmp 23) (.tmp 24) 87 86 rfl b 171 v wo 4 48 underlying87 underlying86 t l m n rfl (by decide) _ c B rfl q (R g 0) 1 1 (aK [w]) rfl rfl p (BR w) (by omega) (by omega) r ?_;intro F L e f;have i:=U e;have j:=U f;clear e f));go_ret;exact⟨_,rfl,i,j⟩
section
open Shelf
def zm{P:Program}{b:Array Oper}{o:Oper}{e:Act}{K:Act->Y->Prop}{q:Exit->Act->Y->Prop}(k:o.guard=none)(p x:Operand)(g h:TypeId)(c:o.op=Op.call {callee:=Callee.builtin Builtin.copy,args:=#[p,x],argTypes:=#[g,h]})(v u:ab)(j:e.eval p=v)(n:e.eval x=u)(l:(Builtin.copy_ #[g,h] o.type #[v,u]).run P a=.ok d f)(i:K (e.put o.dst d) f):if Region.wanted o (yielded b e.tmps)=ci then Oper.wp P o e a K q else Q:=by
 have m:Region.wanted o (yielded b e.tmps)=ci:=by simp[Region.wanted,k]
 rw[dH m];unfold Oper.wp;simp[execOp,c,resolve,invoke,builtin,j,n,l,Result.andThen];exact i
def Rm(w:Y):(Go.sizeOf 171).run aZ w=.ok 4 w:=by kernel_rfl
def qe{w:Y}{f:TypeId}(a:w.heap[c]?=H (aw V f (0,0)))(e:V.toList.take (b*4)=B)(j:M)(u:ab)(o:M)(d:(B.drop o)[j]?=H u):aW w (R c<|o+j)=H u:=by
 rw[cg a];rw[List.getElem?_drop,<-e,oS]at d;grind
def Js(f k d n i:M)(l:Array ab)(m:gW)(L:f<=k)(Q:a.heap[k]?=H (aw l 171 (0,0)))(C:n+1<=d)(aa:d<=9223372036854775807)(K:l.size=d*4)(v:l.toList.take (n*4)=m)(p:iM a b w)(s:b≠k)(hi:i<n)(hn:n<=1000000000)(h1:∀ad∈m,ad.oneCell'=ci):cY aZ 151 #[bD k 0 n d,ar i,bD b 0 1 1] a λba w'=>ba=aM (bD k 0 (n+1) d)/\w'.ownsRow f 171 4 (bD k 0 (n+1) d) (n+1) (m.take (i*4)++aK [w]++m.drop (i*4))/\Z (λan=>an=k) a w':=by
 have P:y m=n*4:=by rw[<-v,dO,lR];omega
 have ac:∀lb o,(callFunc 213 #[bD b 0 1 1,bD k ((i+1)*4) lb o]).run aZ a=.ok (.value<|aN aX) a:=λlb o=>by rw[bX func213 (by kernel_rfl) (by kernel_rfl) (by kernel_rfl) (e:=Extern.SlicesOverlaps.overlaps #[86,86] #[4]) (by kernel_rfl),Lib.run_overlaps_apart a 86 4 171 underlying86 4 Rm (R b 0) (R k<|(i+1)*4) 1 1 lb o s _ _ 4 (d*4) (by unfold iM at p;simp[World.shape?,p];rfl) (by simp[World.shape?,Q,K];rfl) (by omega) (by unfold iM at p;simp[World.frozen?,p]) (by unfold iM at p;simp[World.frozen?,p])];rfl
 have t:(prog.info? 171).map (·.size)=H 4:=by kernel_rfl
 have O:y (m.drop<|i*4)=(n-i)*4:=by rw[jc,P];omega
 obtain⟨c,j⟩:∃c,c=(l.toList.take ((i+1)*4)++m.drop (i*4)++l.toList.drop ((i+1)*4+y (m.drop<|i*4))):=⟨_,rfl⟩;have T:y c=d*4:=by rw[j];grind
 have D:∀x q o,(Builtin.copy_ #[87,87] x #[bD k ((i+1)*4) (n-i) q,bD k (i*4) (n+1-i) o]).run aZ a.drew=.ok (goInt<|Nat.min (n+1-i)<|n-i) (a.drew.setRow k c.toArray):=λx q o=>by rw[j];refine rh a.drew _ _ x 171 4 k ((i+1)*4) _ q (R k<|i*4) _ o l _ (m.drop<|i*4) underlying87 t Q ?_ (λbb ad V=>by rw[dB];exact qe Q v bb ad _ V) (by omega)<|λad hu=>h1 ad<|dQ hu;rw[O];grind
 have r:(a.drew.setRow k c.toArray).heap[k]?=H (aw c.toArray 171 (0,0)):=uk _ _ _ _ _ _ Q;obtain⟨e,g⟩:∃e,e=(c.take (i*4)++aK [w]++c.drop (i*4+y (aK [w]))):=⟨_,rfl⟩;have u:y (aK [w])=4:=rfl;have N:iM (a.drew.setRow k c.toArray) b w:=(sC a.drew k b _ s).trans p;have F:∀(W:Y),W.heap=(a.drew.setRow k c.toArray).heap->∀x q,(Builtin.copy_ #[87,86] x #[bD k (i*4) (n+1-i) q,bD b 0 1 1]).run aZ W=.ok (goInt<|Nat.min 1<|n+1-i) (W.setRow k e.toArray):=λW A x q=>by rw[g];refine rh W _ _ x 171 4 k (i*4) _ q (R b 0) _ 1 c.toArray _ (aK [w]) underlying87 t (by rw[A];exact r) ?_ (λbb ad V=>?_) (by simp;omega)<|BR w;rw[u];simp only[Nat.min_def];split<;>omega;rw[dB,cg (show iM W b w by unfold iM;rw[A];exact N),dE];simpa[aK,E.cells]using V
 have aV:¬((i:X)=(n:X)):=by omega
 have aF:IntKind.i64.wrap ((i:X)+1)=(i:X)+1:=by rw[bN];omega
 have aU:IntKind.i64.wrap ((n:X)+1)=(n:X)+1:=by rw[bN];omega
 have aD:((i:X)+1).toNat=i+1:=by omega
 have al:((n:X)+1).toNat=n+1:=by omega
 have au:(0:X)<=(i:X)+1:=by omega
 have ax:i<=n:=by omega
 have av:(i:X)<=(n:X)+1:=by omega
 have ao:¬(d=i):=by omega
 have ap:¬(d=i+1):=by omega
 have S:prog.follows .mixedOrders=ci:=by kernel_rfl
 have B:=U (show∀W:Y,W.heap=(a.drew.setRow k c.toArray).heap->W.os=a.os->W.tape=a.tape->W.output=a.output->(W.setRow k e.toArray).ownsRow f 171 4 (bD k 0 (n+1) d) (n+1) (m.take (i*4)++aK [w]++m.drop (i*4))/\Z (λan=>an=k) a (W.setRow k e.toArray)from by
  intro W A e1 e2 e3;refine⟨⟨by simp[u];omega,.inr ⟨k,d,e.toArray,rfl,L,uk _ _ _ _ _ _ (by rw[A];exact r),C,aa,?_,?_⟩⟩,⟨e1,e2,e3,?_,?_⟩⟩
  .rw[g];grind
  .rw[List.toList_toArray,g,j];grind[VC]
  .rw[setRow_size,A,setRow_size];simp_all
  .intro an hk o;rw[sC _ _ _ _ o,A,sC _ _ _ _ o];rfl)
 clear T O j g u N r P h1 v K t p s L;go_in
 go_wp2_with(simp only[ac])
 go_region_law_o (refine zm rfl _ _ 87 87 rfl _ _ (by simp[Act.eval,Act.put]) (by simp[Act.eval,Act.put]) (D _ _ _) ?_)
 go_wp2_with(at_builtin;refine wpList_copy_run _ rfl _ _ 87 86 rfl _ _ rfl rfl (F _ rfl _ _) ?_)
 go_ret;exact⟨rfl,B _ rfl rfl rfl rfl⟩
end
structure SR where
 aI:M
 mem:X
 kG:X
 closed:Bool
 memory:ab
 fm:M
 aS:M
 l0:ab
 l1:ab
 l2:ab
 l3:ab
 next:M
 Hv:M
 ow:Option M
 log:M
 ez:Bool
 xe:Bool
 jx:Bool
 iT:Bool
variable{o:SR}
def SR.cells(s:SR)(k:X):Array ab:=#[jN k,dA 0,aA s.aI,ar s.mem,ar s.kG,aN s.closed,.nilIface,s.memory,ar s.fm,aE s.aS,s.l0,s.l1,s.l2,s.l3,aE s.next,ar s.Hv,.map s.ow,aE s.log,aN s.ez,aN s.xe,aN s.jx,aN s.iT]
def cS(w:Y)(a:M)(s:SR)(k:X):Prop:=w.heap[a]?=H (aw (s.cells k) 94 (0,0))
def cS.cell(h:cS a c o k){i:M}(e:(o.cells k)[i]?=H d):aW a (R c i)=H d:=by
 rw[cg h];exact e
def cS.cellAt(h:cS a b o k)(i:M)(e:(o.cells k).toList[i]?=H d):aW a (R b i)=H d:=h.cell (by rw[<-e];simp)
def cS.free{b i:M}(h:cS a b o k):a.frozen? (R b i)=aX:=cP h
def cS.aj{S:eV}{w w':Y}(h:cS w c o k)(d:Z S w w')(a:¬S c):cS w' c o k:=(d.block c (ak h) a).trans h
def ZT(w:Y)(t:ab):cY aZ 28 #[.nilIface,t] w λe a=>e=aM (aN aX)/\a=w:=by
 go_in
 go_wp2;go_ret;simp_all
def Hx(w:Y):cY aZ 69 #[.nilIface] w λe a=>e=aM .nilIface/\Below (z<|G w) w a:=by
 go_in
 go_wp2_with(go_at_call 28;refine(ZT _ _).mono ?_;rintro e b⟨rfl,rfl⟩)
 go_ret;exact⟨rfl,(Below.refl _ w).alloc (ah _) _⟩
def uA(h:cS a b o k):cY aZ 31 #[aA b] a λf e=>f=aM (ui<|if o.closed then 6 else 0)/\Below (z<|G a) a e:=by
 have c5:aW a (R b 5)=H (aN o.closed):=h.cell rfl;have g:aW a (R b 6)=H .nilIface:=h.cell rfl;have d:=Hx a;cases hc:o.closed with
 |true=>
  rw[hc]at c5;clear h hc;go_in
  go_wp2;go_ret;exact⟨rfl,Below.refl _ _⟩
 |false=>
  rw[hc]at c5;clear h hc;go_in
  go_wp2_with(go_at_call 69;refine d.mono ?_;rintro f i⟨rfl,c⟩;have HB:=U c;clear c)
  go_ret;exact⟨rfl,HB⟩
def nz(a:X)(i n:M):Bool:=if i=0 then decide (a<=(n:X))else decide (i<3)&&decide (a<(n:X))
def rO(i n:M)(x:Option Addr)(f:M)(h:cS a b o k)(j:i<4):cY aZ 61 #[aA b,ar i,I x n f] a λg e=>g=aM (aN<|nz o.kG i n)/\e=a:=by
 have c4:aW a (R b 4)=H (ar o.kG):=h.cell rfl;generalize o.kG=d at*;clear h;have c:i=0\/i=1\/i=2\/i=3:=by omega
 rcases c with rfl|rfl|rfl|rfl;(·(go_in);go_wp2;go_ret;exact⟨rfl,rfl⟩);(·(go_in);go_wp2;go_ret;exact⟨rfl,rfl⟩);(·(go_in);go_wp2;go_ret;exact⟨rfl,rfl⟩);(go_in);go_wp2;go_ret;exact⟨rfl,rfl⟩
section
open Conc.Locks
def cS.lB(h:cS a b o k)(j:X):cS (cq a (R b 0)<|jN j) b o j:=by
 have:=aH (i:=0) (u:=jN j) h;exact this
end

def SR.fresh(c:M)(b a:X)(d:M):SR:=⟨c,b,a,aX,az,0,0,az,az,az,az,0,0,H d,0,aX,aX,aX,aX⟩
def IK(a:M):Array ab:=#[.func (.func 24) #[aA a] #[],.func (.func 25) #[aA a] #[],.func (.func 26) #[aA a] #[],.func (.func 27) #[aA a] #[]]
def oP.M1(w:Y)(o:Obj):oP (cN (cN w o)<|.map #[] 0) (z (G w)+1) []:=by
 have h:=oP.new<|cN w o;simp_all
def XJ(u:M)(e a:X)(w:Y)(ho:1<=e/\e<=32/\2<=a/\a<=6)(t A B C D:Y->Prop)(s:Y->M->Prop)(r:∀W,Z ay w W->cS W (z (G w)+2) (SR.fresh u e a<|z (G w)+1) 0->oP W (z (G w)+1) []->z (G W)=z (G w)+4->t W)(K:∀W,t W->cY aZ 24 #[aA<|z (G w)+2] W λn f=>(n=aM .nilIface/\A f/\f.heap[z (G w)+3]?=W.heap[z (G w)+3]?)\/∃q,n=aM (eD q)/\s f q)(L:∀W,A W->cY aZ 25 #[aA<|z (G w)+2] W λn f=>(n=aM .nilIface/\B f/\f.heap[z (G w)+3]?=W.heap[z (G w)+3]?)\/∃q,n=aM (eD q)/\s f q)(N:∀W,B W->cY aZ 26 #[aA<|z (G w)+2] W λn f=>(n=aM .nilIface/\C f/\f.heap[z (G w)+3]?=W.heap[z (G w)+3]?)\/∃q,n=aM (eD q)/\s f q)(O:∀W,C W->cY aZ 27 #[aA<|z (G w)+2] W λn f=>n=aM .nilIface/\D f/\f.heap[z (G w)+3]?=W.heap[z (G w)+3]?):cY aZ 10 #[aA u,dC #[ar e,ar a]] w λn f=>(n=aM (dq #[aA<|z (G w)+2,.nilIface])/\D f)\/∃q,n=aM (dq #[cX none,eD q])/\s f q:=by
 obtain⟨o1,o2,o3,o4⟩:=ho;have e1:¬e<1:=by omega
 have e2:¬32<e:=by omega
 have e3:¬a<2:=by omega
 have e4:¬6<a:=by omega
 have V:∀b w,(callFunc 24 b).run aZ w=.ok (.enter 24 b) w:=enters_of func24 (by kernel_rfl) rfl;have aa:∀b w,(callFunc 25 b).run aZ w=.ok (.enter 25 b) w:=enters_of func25 (by kernel_rfl) rfl;have ac:∀b w,(callFunc 26 b).run aZ w=.ok (.enter 26 b) w:=enters_of func26 (by kernel_rfl) rfl;have ad:∀b w,(callFunc 27 b).run aZ w=.ok (.enter 27 b) w:=enters_of func27 (by kernel_rfl) rfl;obtain⟨F,P,Q,S,T⟩:=iO (show t (cN (cN (cN (cN w<|aw #[ar e,ar a] 29)<|.map #[] 0)<|aw ((SR.fresh u e a<|z (G w)+1).cells 0) 94)<|aw (IK<|z (G w)+2) 77)/\(cN (cN (cN (cN w<|aw #[ar e,ar a] 29)<|.map #[] 0)<|aw ((SR.fresh u e a<|z (G w)+1).cells 0) 94)<|aw (IK<|z (G w)+2) 77).heap[z (G w)+3]?=H (aw (IK<|z (G w)+2) 77 (0,0))from⟨r _ ((((cF ay w).alloc _).alloc _).alloc _) ((fU _<|by simp).trans<|aJ _<|by simp) (((oP.M1 w _).alloc _).alloc _) (by simp),aJ _<|by simp⟩) K L N O;clear o1 o2 o3 o4 r K L N O;have al:=@rq aZ;go_in
 go_wp2;go_loopw [44] (λi wr=>∃(v:M),v<=4/\i=ar v/\((v=0/\t wr)\/(v=1/\A wr)\/(v=2/\B wr)\/(v=3/\C wr)\/(v=4/\D wr))/\wr.heap[z (G w)+3]?=H (aw (IK<|z (G w)+2) 77 (0,0))) (λi _=>4-(intOf i).toNat)
 case atStart=>exact⟨0,by omega,by go_num,.inl ⟨rfl,F.1⟩,F.2⟩
 (case round=>obtain⟨v,hj,rfl,g,l⟩:=hrel;have f0:=cellAt l 0 rfl;have f1:=cellAt l 1 rfl;have f2:=cellAt l 2 rfl;have f3:=cellAt l 3 rfl;have m:=U l;clear l;rcases g with⟨rfl,g⟩|⟨rfl,g⟩|⟨rfl,g⟩|⟨rfl,g⟩|⟨rfl,g⟩;(.have k:=P wr g;clear g;(go_wp2_with fail);refine k.mono ?_;rintro n E(⟨rfl,c,d⟩|⟨q,rfl,o⟩);rotate_left;(.have p:=U o;clear o k;go_wp2;(go_ret2);exact .inr ⟨q,rfl,p⟩);have j:=U c;have i:=U<|d.trans m;clear c d k;go_wp2;go_roundw;(case rel=>exact⟨1,by omega,by go_num,.inr<|.inl ⟨rfl,j⟩,i⟩);case measure=>simp[intOf]);(.have k:=Q wr g;clear g;(go_wp2_with fail);refine k.mono ?_;rintro n E(⟨rfl,c,d⟩|⟨q,rfl,o⟩);rotate_left;(.have p:=U o;clear o k;go_wp2;(go_ret2);exact .inr ⟨q,rfl,p⟩);have j:=U c;have i:=U<|d.trans m;clear c d k;go_wp2;go_roundw;(case rel=>exact⟨2,by omega,by go_num,.inr<|.inr<|.inl ⟨rfl,j⟩,i⟩);case measure=>simp[intOf]);(.have k:=S wr g;clear g;(go_wp2_with fail);refine k.mono ?_;rintro n E(⟨rfl,c,d⟩|⟨q,rfl,o⟩);rotate_left;(.have p:=U o;clear o k;go_wp2;(go_ret2);exact .inr ⟨q,rfl,p⟩);have j:=U c;have i:=U<|d.trans m;clear c d k;go_wp2;go_roundw;(case rel=>exact⟨3,by omega,by go_num,.inr<|.inr<|.inr<|.inl ⟨rfl,j⟩,i⟩);case measure=>simp[intOf]);(.have k:=T wr g;clear g;(go_wp2_with(go_at_fn 27;refine k.mono ?_;rintro n E⟨rfl,c,d⟩;have j:=U c;have i:=U<|d.trans m;clear c d));go_roundw;(case rel=>exact⟨4,by omega,by go_num,.inr<|.inr<|.inr<|.inr<|⟨rfl,j⟩,i⟩);case measure=>simp[intOf]);have x:=U g;clear g;go_wp2;(go_ret2);exact .inl ⟨rfl,x⟩)
structure Acc(S:eV)(w0:Y)(fx:cJ (M×ab×TypeId))(lb:M)(c b:TypeId)(a base n:M)(xs:gW)(B:eV)(W:Y):Prop where
 fix:∀p∈fx,eP W p.1 p.2.1 p.2.2
 row:∃v,eP W lb v c/\W.ownsRow base b a v n xs/\(∀k,B k↔(∃p∈fx,p.1=k)\/k=lb\/cK v=H k)
 E5:∀p∈fx,z (G w0)<=p.1/\p.1<base/\p.1≠lb
 E4:z (G w0)<=lb/\lb<base
 aj:Z S w0 W
section
variable{S:eV}{w0 W:Y}{fx:cJ (M×ab×TypeId)}{lb:M}{c b:TypeId}{a baseqq n:M}{xs:gW}{B:eV}
theorem Acc.lt(h:Acc S w0 fx lb c b a baseqq n xs B W):∀k,B k->z (G w0)<=k/\k<z (G W):=by
 intro k j;obtain⟨v,l,g,i⟩:=h.row;have:=h.E4;rcases(i k).1 j with⟨p,d,e⟩|e|e;subst e;exact⟨(h.E5 p d).1,ak<|h.fix p d⟩;grind
 have:=g.lt k e;grind
theorem Acc.stays{j:Y}{T:eV}(i:Acc S w0 fx lb c b a baseqq n xs B W)(f:Z T W j)(e:∀k,T k->¬B k/\(S k\/z (G w0)<=k)):Acc S w0 fx lb c b a baseqq n xs B j:=by
 obtain⟨v,m,o,d⟩:=i.row;exact⟨λp h=>(f.block _ (ak<|i.fix p h)<|λl=>(e _ l).1<|(d _).2<|.inl ⟨p,h,rfl⟩).trans<|i.fix p h,⟨v,(f.block _ (ak m)<|λl=>(e _ l).1<|(d _).2<|.inr<|.inl rfl).trans m,f.own o<|λk g l=>(e k l).1<|(d k).2<|.inr<|.inr g,d⟩,i.E5,i.E4,i.aj.trans f<|λk g=>(e k g).2⟩
theorem Acc.more{e:Y}{v d:ab}{C:M}{l:gW}(o:Acc S w0 fx lb c b a baseqq n xs B W)(w:eP W lb v c)(u:∀k,B k↔(∃p∈fx,p.1=k)\/k=lb\/cK v=H k)(L:W.ownsRow baseqq b a v n xs)(s:Z (λk=>cK v=H k) W e)(E:cK d=cK v\/∃O,cK d=H O/\z (G W)<=O)(g:e.ownsRow baseqq b a d C l):∃t,Acc S w0 fx lb c b a baseqq C l t (cq e (R lb 0) d)/\Z B W (cq e (R lb 0) d)/\(∀k,t k->B k\/z (G W)<=k):=by
 have j:∀k,cK v=H k->baseqq<=k/\k<z (G W):=λk f=>L.lt k f;have A:∀k,cK d=H k->baseqq<=k:=λk f=>(g.lt k f).1;have K:=o.E4;have r:eP e lb v c:=(s.block _ (ak w) (λD=>by have:=(j _ D).1;omega)).trans w;have h:Z B W (cq e (R lb 0) d):=(s.mono (T:=B)<|λk f=>.inl<|(u k).2<|.inr<|.inr f).setCell _ _ _<|.inl<|(u _).2<|.inr<|.inl rfl;refine⟨λk=>(∃p∈fx,p.1=k)\/k=lb\/cK d=H k,⟨λp q=>?_,⟨d,r.set _,?_,λk=>qY⟩,o.E5,o.E4,?_⟩,h,?_⟩;obtain⟨P,Q,N⟩:=o.E5 p q;have F:eP e p.1 p.2.1 p.2.2:=(s.block _ (ak<|o.fix p q) (λD=>by have:=(j _ D).1;omega)).trans<|o.fix p q;exact F.other _ N;exact g.kept (dN e _ _ _) (by grind);exact o.aj.trans h<|λk f=>.inr (o.lt k f).1;grind
end
def Za(u:ab):Prop:=(∃b,u=aN b)\/∃x n c,u=I x n c
def Gx(w:Y)(v:ab):Prop:=∀k a t b,cK v=H k->w.heap[k]?=H (aw a t b)->∀u∈a.toList,Za u
def Gx.aj{S:eV}{w w':Y}(m:Gx w d)(l:Z S w w')(g:∀k,cK d=H k->¬S k)(j:∀k,cK d=H k->k<z (G w)):Gx w' d:=λk a t e c h=>m k a t e c<|(l.block k (j k c)<|g k c).symm.trans h
theorem Gy(g:∀x∈V.toList,Za x)(e:0<V.size)(a:d∈(Builtin.zeroCells V b).toList):Za d:=by
 unfold Builtin.zeroCells at a;obtain⟨i,_,f⟩:=Array.mem_map.1<|Array.mem_toList_iff.1 a;have c:i%V.size<V.size:=Nat.mod_lt _ e;rw[Array.getElem!_eq_getD,Array.getD_eq_getD_getElem?,uf c,oh]at f;rw[<-f];grind
def BP{P:Program}{ao:Oper}{aD:Act}{bb:Act->Y->Prop}{bf:Exit->Act->Y->Prop}(bd aF:Operand)(ap:TypeId)(ad:ao.op=Op.call {callee:=Callee.builtin Builtin.append,args:=#[bd,aF],argTypes:=#[ap,ap]})(c:M)(N:TypeId)(V:TypeInfo)(j:ab)(d bytes:M)(T:P.underlying ap=H (.slice N))(Q:P.info? N=H V)(hz:V.zero=H j)(l:V.size=d)(D:V.bytes=bytes)(an:j.cells.size=d)(al:0<d)(ax:ab)(W:M)(x:gW)(hs:aD.eval bd=ax)(i:a.ownsRow c N d ax W x)(v:Addr)(L au:M)(b:gW)(hx:aD.eval aF=I (H v) L au)(F:y b=L*d)(f:∀av u,b[av]?=H u->aW a (v.add av)=H u)(h1:∀u∈b,u.oneCell'=ci)(hn:W+L<=140737488355328)(e:(W+L)*bytes<=140737488355328)(o:c<=z (G a))(hm:0<L)(kz:∀u∈j.cells.toList,Za u)(kn:∀u∈b,Za u)(ko:Gx a ax)(hK:∀s t,t.ownsRow c N d s (W+L) (x++b)->eE a t ax s->Gx t s->bb (aD.put ao.dst s) t):Oper.wp P ao aD a bb bf:=by
 obtain⟨s,t,S,h2,h3,_,h5⟩:=nj (P:=P) a c ap ao.type N V j d bytes T Q hz l D an al ax W x i v L au b F f h1 (by unfold maxLen;omega) e o;have p:Gx t s:=by subst l;subst D;rcases i.2 with⟨rfl,rfl⟩|⟨aa,n,h,rfl,aU,O,ba,aV,ac,r⟩;(have g:=run_append_nil (P:=P) a ap ao.type N V j T Q hz v L au b F f hm (by omega) (by have k:=e;grind);rw[S]at g;injection g with B C;intro bc h t' fr p w u m;subst B C;cases p;have E:=(ix a.drew _).symm.trans w;grind[Array.toList_append,Gy]);by_cases k:W+L<=n;((have q:W*V.size+y b<=h.size:=by rw[F,ac,<-xC];exact rC _ k);have g:=run_append_room (P:=P) a ap ao.type N V T Q aa W n h O v L au b F f h1 k q;rw[S]at g;injection g with B C;intro bc A t' fr p w u m;subst B C;cases p;rw[uk a aa h _ N _ O]at w;cases w;have zn:∀aF∈h.toList,Za aF:=ko aa h _ _ rfl O;grind);have q:∀av u,x[av]?=H u->aW a (((R aa 0):Addr).add av)=H u:=i.cells (g:=aa) rfl;have g:=run_append_grow (P:=P) a ap ao.type N V j T Q hz (R aa 0) W n x i.1 q v L au b F f (by omega) (by omega)<|tf (by omega) e;rw[S]at g;injection g with B C;intro bc A t' fr p w u m;subst B C;cases p;have E:=(ix a.drew _).symm.trans w;cases E;rw[sq,aG,sq,aG]at m;rcases m with(m|m)|m;(have K:u∈x:=by simpa using m);rw[<-r]at K;exact ko aa h _ _ rfl O u<|dZ K;(grind);grind[Gy]
 unfold Oper.wp;simp[execOp,ad,resolve,invoke,builtin,hs,hx,S,Result.andThen];exact hK s t h2 (eE.of h3 h5) p
def zA{P:Program}(w:Y){l:Array Oper}{rest:cJ Oper}{D:Oper}{C:Act}{ad:Exit->Act->Y->Prop}(o:D.guard=none)(aa ac:Operand)(E:TypeId)(p:D.op=Op.call {callee:=Callee.builtin Builtin.append,args:=#[aa,ac],argTypes:=#[E,E]})(a:M)(v:TypeId)(x:TypeInfo)(e:ab)(b bytes:M)(ht:P.underlying E=H (.slice v))(O:P.info? v=H x)(hz:x.zero=H e)(h:x.size=b)(n:x.bytes=bytes)(r:e.cells.size=b)(q:0<b)(B:ab)(A:M)(t:gW)(W:C.eval aa=B)(k:w.ownsRow a v b B A t)(m:Addr)(s al:M)(c:gW)(hx:C.eval ac=I (H m) s al)(Q:y c=s*b)(g:∀an u,c[an]?=H u->aW w (m.add an)=H u)(F:∀u∈c,u.oneCell'=ci)(V:A+s<=140737488355328)(d:(A+s)*bytes<=140737488355328)(f:a<=z (G w))(S:0<s)(kz:∀u∈e.cells.toList,Za u)(kn:∀u∈c,Za u)(ko:Gx w B)(ao:∀i j,j.ownsRow a v b i (A+s) (t++c)->eE w j B i->Gx j i->wpList P l ad rest (C.put D.dst i) j):wpList P l ad (D::rest) C w:=by
 refine lw o λK N=>?_;exact BP aa ac E p a v x e b bytes ht O hz h n r q B A t W k m s al c hx Q g F V d f S kz kn ko<|λi j o K L=>N _ _<|ao i j o K L
