import Derived.Deep.RegionWith
import Derived.Laws.BitsLemmas
import Derived.Laws.Entries
import Derived.Laws.IdiomStrings
import Derived.Lib.BufferRead
import Derived.Lib.EndianBits
import Derived.MapKept
import Derived.Maps.RangeWalk
import Derived.OpenShut
import Derived.OwnWalk
import Derived.Test.YtceammfgahaodaaGreatDoorChecked
import Derived.Test.YtceammfgahaodaaGreatDoorC0
open _root_ renaming List.length→z,Option.some→M,Array.size→G,Go.World.heap→H,Go.Value.ownBlock→bY,Go.World.cell?→aS,Go.World.setCell→ct,Go.World.alloc→cF,Bool.false→bF,Bool.true→bX,Nat→R,Int→Y,List→cD,Go.Calls→cA,Go.undef→iE,Go.Proofs.Tryz.prog→bG,Go.Value.slice→ah,Go.Value.string→aj,Go.Value.bool→aO,Go.Value.pointer→fA,Go.Value.tuple→dE,Go.Value.agg→eB
namespace Go.Proofs.YtceammfgahaodaaGreatDoor
open ChangeShapes WideShapes RowKit Proofs.Tryz
set_option maxHeartbeats 16000000
set_option linter.all false
set_option maxRecDepth 100000
variable{a f:I}{b c g:R}{d t:aa}{m D Q:Y}{o:eP}{x:jd}{C:Bool}
def qC:(prog.info? 5).map (λi=>(i.zero,i.size,i.bytes))=M (M<|tP 0,1,1):=by kernel_rfl
def eQ(w:I)(a:R)(v:aa)(b:eP):Prop:=w.ownsRow a 5 1 v (z b)<|b.map<|Value.int .u8
def eQ.of(h:a.ownsRow b 5 1 d c x)(e:c=z o)(f:x=o.map (Value.int .u8)):eQ a b d o:=by
 subst e;subst f;exact h
def eQ.nil(w:I)(a:R):eQ w a aG []:=bN w a _ 1
def eQ.alloc{w:I}(h:eQ w c d o)(a:Obj):eQ (cF w a) c d o:=aU h a
def le:R->Y->eP
 |0,_=>[]
 |k+1,n=>n%256::le k (n/256)
def cq(k:R):∀n,z (le k n)=k:=by
 induction k with
 |zero=>intro n;rfl
 |succ k a=>intro n;simp[le,a]
def kJ(s:ab):eP:=s.data.toList.map λb=>(b.toNat:Y)
def strCells_eq(s:ab):Lib.strCells s=(kJ s).map (Value.int .u8):=by simp[Lib.strCells,kJ]
def ic(s:ab):z (kJ s)=s.size:=by simp[kJ]
def uf(a:R)(v:aa)(f:eP)(o:Y)(w:I)(d:eQ w a v f)(q:a<=G (H w))(r:z f<=70368744177664):cA bG 184 #[v,tP o] w λp l=>∃e,p=aP e/\eQ l a e (f++[o])/\eY w l v e:=by
 obtain⟨n,m,g,i,j⟩:=cL qC;go_in
 go_wp2_with(first
  |(at_builtin;refine bV _ rfl _ _ 126 rfl a 5 n (.int .u8 0) 1 1 underlying126 m g i j rfl (by decide) _ _ _ rfl (d.alloc _) (U (G (H w)) 0) 1 1 [.int .u8 o] rfl rfl (pX _ _ _) ?c2 ?c3 ?c4 ?c5 ?_))
 case c2=>intro u k;simp at k;subst k;rfl
 case c3=>omega
 case c4=>omega
 case c5=>simp;omega
 intro e s c b;go_wp2;go_ret;exact⟨e,rfl,eQ.of c (by simp) (by simp),b.alloc _⟩
def Ik(w:I)(a:jd)(t:TypeId):∀j u,a[j]?=M u->aS (cF w<|aw a.toArray t) (((U (G<|H w) 0):Addr).add j)=M u:=by
 intro j u b;rw[dB];unfold World.cell?;rw[fG];simp[b]
def jM{baseqq:R}{v:aa}{bs:eP}(n:Y){w:I}(c:eQ w baseqq v bs)(q:baseqq<=G (H w))(r:z bs<=70368744177664)(o:0<=n)(p:n<4294967296):cA bG 186 #[v,dz n] w λk j=>∃d,k=aP d/\eQ j baseqq d (bs++le 4 n)/\eY w j v d:=by
 obtain⟨m,l,e,f,g⟩:=cL qC;go_in
 go_wp2_with(first
  |(at_builtin;refine bV _ rfl _ _ 126 rfl baseqq 5 m (.int .u8 0) 1 1 underlying126 l e f g rfl (by decide) _ _ _ rfl (c.alloc _) (U (G (H w)) 0) 4 4 ((le 4 n).map (Value.int .u8)) rfl rfl ?c1 ?c2 ?c3 ?c4 ?c5 ?_))
 (case c1=>(have k:(#[Value.int IntKind.u8<|n%256,Value.int IntKind.u8<|n/256%256,Value.int IntKind.u8<|n/65536%256,Value.int IntKind.u8<|n/16777216]:Array aa)=((le 4 n).map<|Value.int .u8).toArray:=by simp[le];omega);rw[k];exact Ik _ _ _);case c2=>intro u i;simp[le]at i;rcases i with rfl|rfl|rfl|rfl<;>rfl
 case c3=>omega
 case c4=>omega
 case c5=>simp;omega
 intro d s b a;go_wp2;go_ret;exact⟨d,rfl,eQ.of b (by simp[le]) (by simp),a.alloc _⟩
def pI(a:R)(v:aa)(g:eP)(s:ab)(w:I)(d:eQ w a v g)(n:a<=G (H w))(p:z g<=70368744177664)(t:s.size<=255):cA bG 228 #[v,aj s] w λr m=>∃f,r=aP f/\eQ m a f (g++(s.size:Y)::kJ s)/\eY w m v f:=by
 obtain⟨q,o,j,k,l⟩:=cL qC;go_in
 go_wp2_with fail
 apply(uf a v g s.size w d n p).mono;rintro r x⟨u,rfl,i,e⟩
 go_wp2_with(first
  |(at_builtin;refine sV _ rfl _ _ 126 9 rfl a 5 q underlying126 underlying9 o j k l _ _ _ rfl i s rfl ?c1 ?c2 ?_))
 case c1=>simp;omega
 case c2=>have:=e.grown.size;omega
 intro f y c b;go_wp2;go_ret;exact⟨f,rfl,eQ.of c (by simp[ic];omega) (by simp[strCells_eq]),e.trans b⟩
def Ni(a b:Y):0<=bits .xor .u32 a b:=(bounds_u32<|wf_bits .xor .u32 a b).1
def Nj(a b:Y):bits .xor .u32 a b<4294967296:=by have:=(bounds_u32<|wf_bits .xor .u32 a b).2;omega
def Ym(x:Y)(a:0<=x)(b:x<4294967296):bits .and .u32 x 15=x%16:=by
 have:=bits_mask .u32 32 (by decide) wraps_u32 4 (by decide) x a (by omega);simpa using this
def WZ(k:R):Y:=([0,498536548,997073096,651767980,1994146192,1802195444,1303535960,1342533948,3988292384,4027552580,3604390888,3412177804,2607071920,2262029012,2685067896,3183342108]:eP).getD k 0
def Steps(w:I):Prop:=∀k,k<16->aS w (U 1 k)=M (dz<|WZ k)
def Steps.below{B:R}(h:Steps a)(c:Below B a f)(b:1<B):Steps f:=λk d=>(c.cell<|by exact b).trans<|h k d
def Qh(c:Y):Y:=bits .xor .u32 (c/16)<|WZ (c%16).toNat
def AW(a x:Y):Y:=Qh<|Qh<|bits .xor .u32 a<|x%4294967296
def ya(a:eP):Y:=a.foldl AW 4294967295
def mQ(a:eP):Y:=bits .xor .u32 IntKind.u32.max<|ya a
def Ph(a x:Y):0<=AW a x:=Ni _ _
def Pj(a x:Y):AW a x<4294967296:=Nj _ _
def MC(a:eP):0<=ya a/\ya a<4294967296:=by
 unfold ya;rcases wN a with rfl|⟨l,x,rfl⟩;simp;rw[wO,iQ];exact⟨Ph _ _,Pj _ _⟩
def zP(a:eP):0<=mQ a:=Ni _ _
def BT(a:eP):mQ a<4294967296:=Nj _ _
def Pg(a:eP)(k:R)(h:k<z a):ya (a.take<|k+1)=AW (ya<|a.take k) a[k]:=by
 unfold ya;rw[ak h,iQ];rfl
def Wk(q c:R)(b:eP)(g:R)(i:Steps a)(m:∀k,k<z b->aS a (U q<|c+k)=M (tP<|b[k]?.getD 0))(f:z b<=140737488351232):cA bG 188 #[bE q c (z b) g] a λr o=>r=aP (dz<|mQ b)/\o=a:=by
 have u:=Ni;have v:=Nj;have j:=Ym;have l:∀x:Y,aS a (U 1<|(x%16).toNat)=M (dz<|WZ (x%16).toNat):=λx=>i _ (by omega);clear i;go_in
 go_wp2;go_loop [3,8,5] (λa i x=>∃(k:R),k<=z b/\i=aq k/\a=dz (ya<|b.take k)) (λ_ i _=>z b-(intOf i).toNat)
 case atStart=>exact⟨0,bB _,rfl,rfl⟩
 (case round=>obtain⟨k,s,rfl,rfl⟩:=hrel;have t:=MC<|b.take k;by_cases e:k<z b;(.have n:=m k e;have d:Hid (ya (b.take<|k+1)=AW (ya<|b.take k) b[k]):=Pg b k e;generalize ya (b.take k)=p at*;go_wp2;(go_round);(case rel=>exact⟨k+1,by omega,by go_num,by rw[d.out];rfl⟩);case measure=>simp[intOf];omega);go_wp2;go_ret;have d:b.take k=b:=da (by omega);rw[d];exact⟨rfl,rfl⟩)
def Bytes(w:I)(v:aa)(b:eP):Prop:=(v=aG/\b=[])\/∃d a c,v=bE d a (z b) c/\z b<=c/\∀k,k<z b->aS w (U d<|a+k)=M (tP<|b[k]?.getD 0)
def eQ.bytes(i:eQ a b d o):Bytes a d o:=by
 unfold eQ at i;rcases i.2 with⟨rfl,j⟩|⟨h,c,g,rfl,_,_,e,_⟩;exact .inl ⟨rfl,aR j⟩;refine .inr ⟨h,0,c,rfl,e,λl k=>?_⟩;have:=i.cells (g:=h) rfl l (tP<|o[l]?.getD 0) (by simp[k]);simpa[dB]using this
def Bytes.below{B:R}(j:Bytes a d o)(h:Below B a f)(g:∀k,bY d=M k->k<B):Bytes f d o:=by
 rcases j with⟨rfl,rfl⟩|⟨l,b,c,rfl,e,i⟩;exact .inl ⟨rfl,rfl⟩;exact .inr ⟨l,b,c,rfl,e,λk j=>(h.cell<|by exact g l rfl).trans<|i k j⟩
def sum_nil(w:I):cA bG 188 #[aG] w λe a=>e=aP (dz<|mQ [])/\a=w:=by
 go_in
 go_wp2;go_loop [3,8,5] (λc i x=>i=aq 0/\c=dz 4294967295) (λ_ _ _=>0)
 case atStart=>exact⟨rfl,rfl⟩
 (case round=>obtain⟨rfl,rfl⟩:=hrel;go_wp2;go_ret;exact⟨rfl,rfl⟩)
def sF(v:aa)(c:eP)(w:I)(e:Steps w)(f:Bytes w v c)(a:z c<=140737488351232):cA bG 188 #[v] w λj h=>j=aP (dz<|mQ c)/\h=w:=by
 rcases f with⟨rfl,rfl⟩|⟨i,b,d,rfl,_,g⟩;exact sum_nil w;exact Wk i b c d e g a
def Zj(n:Y):le 4 (n%4294967296)++le 4 (n/4294967296)=le 8 n:=by
 simp[le];omega
def pJ{baseqq:R}{v:aa}{bs:eP}(n:Y){w:I}(b:eQ w baseqq v bs)(k:baseqq<=G (H w))(p:z bs<=35184372088832)(m:0<=n)(o:n<18446744073709551616):cA bG 183 #[v,aL n] w λj g=>∃f,j=aP f/\eQ g baseqq f (bs++le 8 n)/\eY w g v f:=by
 have i:Hid (le 4 (n%4294967296)++le 4 (n/4294967296)=le 8 n):=Zj n;go_in
 go_wp2_with fail
 apply(jM (n%4294967296) b k (by omega) (by omega)<|by omega).mono;rintro j r⟨q,rfl,d,c⟩;go_wp2_with fail
 refine(jM (n/4294967296) d (by have:=c.grown.size;omega) (by simp[cq];omega) (by omega)<|by omega).mono ?_;rintro j s⟨l,rfl,a,e⟩;go_wp2;go_ret;refine⟨l,rfl,?_,c.trans e⟩;rw[aW,i.out]at a;exact a
def DY(l:Steps a)(c:eQ a b d o)(m:b<=G (H a))(p:z o<=35184372088832):cA bG 187 #[d] a λk i=>∃g,k=aP g/\eQ i b g (o++le 4 (mQ o))/\eY a i d g:=by
 have j:=zP o;have c1:=BT o;go_in
 go_wp2_with fail
 apply(sF d o a l c.bytes<|by omega).mono;rintro k q⟨rfl,rfl⟩;go_wp2_with fail
 apply(jM (mQ o) c m (by omega) j c1).mono;rintro k r⟨n,rfl,e,f⟩;go_wp2;go_ret;exact⟨n,rfl,e,f⟩
def DX(n:Y)(w:I)(b:0<=n)(c:n<=140737488351232):cA bG 222 #[aq n] w λe a=>e=aP (aq<|n+4)/\a=w:=by
 go_in
 go_wp2;go_ret;exact⟨rfl,rfl⟩
def Rd(w:I)(c:R)(b:eP)(a:Bool):Prop:=∃v,w.heap[c]?=M (aw #[v,aO a] 376 (0,0))/\Bytes w v b/\∀k,bY v=M k->k<c
def Bytes.grown{c:Option R}(i:Bytes a d o)(k:a.grownBy f c)(h:bY d≠c\/bY d=none):Bytes f d o:=by
 rcases i with⟨rfl,rfl⟩|⟨m,b,e,rfl,g,j⟩;exact .inl ⟨rfl,rfl⟩;refine .inr ⟨m,b,e,rfl,g,λn l=>k.cell (j n l) ?_⟩;rcases h with i|i;exact i;simp[bY]at i
def Bytes.alloc{w:I}(m:Bytes w d o)(l:Obj):Bytes (cF w l) d o:=by
 rcases m with⟨rfl,rfl⟩|⟨b,a,c,rfl,e,j⟩;exact .inl ⟨rfl,rfl⟩;refine .inr ⟨b,a,c,rfl,e,λn k=>?_⟩;have h:=j n k;(have g:b<G (H w):=by by_cases i:b<G (H w);exact i;have:w.heap[b]?=none:=eL (by omega);simp[World.cell?,this]at h);rw[<-h];exact cP (w:=w)<|Below.heap_alloc w l b g
def Bytes.take{f b c n:R}{bs:eP}(h:Bytes a (bE f b (z bs) c) bs)(m:n<=z bs):Bytes a (bE f b n c) (bs.take n):=by
 rcases h with⟨h,_⟩|⟨j,e,d,h,i,g⟩;cases h;cases h;(have k:z (bs.take n)=n:=by simp;omega);refine .inr ⟨f,b,c,by rw[k],by omega,λo l=>?_⟩;rw[g o (by omega),lW<|by omega]
def Bytes.BR{f b c n:R}(h:Bytes a (bE f b (z o) c) o)(l:n<=z o):Bytes a (bE f (b+n) (z o-n)<|c-n) (o.drop n):=by
 rcases h with⟨h,_⟩|⟨k,e,d,h,j,g⟩;cases h;cases h;refine .inr ⟨f,b+n,c-n,by simp,by simp;omega,λm i=>?_⟩;simp at i;rw[aY,g (n+m) (by omega),oX]
def Bytes.lt{bs:eP}(n:Bytes a d bs)(c:bs≠[]):∀m,bY d=M m->m<G (H a):=by
 rcases n with⟨rfl,rfl⟩|⟨b,e,h,rfl,l,k⟩;exact absurd rfl c;intro m g;simp[bY]at g;subst g;have i:=k 0 (by cases bs<;>simp_all);by_cases j:b<G (H a);exact j;have:a.heap[b]?=none:=eL (by omega);simp[World.cell?,this]at i
def Rw{a:Addr}(h:bY (ah (M a) b c)=M g):a.block=g:=by simpa[bY]using h
def nu(f:Bytes a d o)(c:∀k,bY d=M k->k<G (H a)):cA bG 208 #[d] a λj b=>j=aP (aA<|G<|H a)/\Rd b (G<|H a) o bF/\b=cF a (aw #[d,aO bF] 376):=by
 have fin:∀b,b=cF a (aw #[d,aO bF] 376)->Rd b (G<|H a) o bF:=by rintro b rfl;exact⟨d,fG _ _,f.alloc _,c⟩
 have F:Hid (∀b,b=cF a (aw #[d,aO bF] 376)->Rd b (G<|H a) o bF):=fin;clear fin;rcases f with⟨rfl,rfl⟩|⟨m,e,g,rfl,i,l⟩;(.clear c;(go_in);go_wp2;go_ret;exact⟨rfl,F.out _ rfl,rfl⟩);clear c;(go_in);go_wp2;go_ret;exact⟨rfl,F.out _ rfl,rfl⟩
def jV(a:eP)(b:Bool)(n:R):eP×Bool×eP:=if b=bX\/z a<n then(a,bX,[])else(a.drop n,bF,a.take n)
def Rd.short(f:a.heap[b]?=M (aw #[d,aO C] 376 (0,0)))(e:Bytes a d o)(c:∀k,bY d=M k->k<b):Rd (ct a (U b 1)<|aO bX) b o bX:=⟨d,by rw[aT f];rfl,e.grown (df a b 1 _)<|.inl<|λg=>lh _<|c _ g,c⟩
def Rd.Us(f:a.heap[b]?=M (aw #[d,aO C] 376 (0,0)))(e:Bytes a t o)(c:∀k,bY t=M k->k<b):Rd (ct a (U b 0) t) b o C:=⟨t,by rw[aT f];rfl,e.grown (df a b 0 _)<|.inl<|λg=>lh _<|c _ g,c⟩
def Kt(n:R)(h:Rd a b o C)(X:z o<=140737488351232)(W:n<=1000000):cA bG 275 #[aA b,aq n] a λp E=>∃D,p=aP D/\Rd E b (jV o C n).1 (jV o C n).2.1/\Bytes E D (jV o C n).2.2/\bY D≠M b/\a.grownBy E (M b):=by
 obtain⟨T,k,w,r⟩:=h;have u:Hid (Bytes a T o):=w;have N:=cellAt k 0 rfl;have O:=cellAt k 1 rfl;have P:=dW (i:=0) k;have Q:=dW (i:=1) k;have v:Hid (a.heap[b]?=M (aw #[T,aO C] 376 (0,0))):=k;have g:Hid (∀S,bY T=M S->S<b):=r;clear k r;by_cases e:C=bX\/z o<n
 .have f:Hid (jV o C n=(o,bX,[])):=by unfold Hid jV;rw[dt e]
  have fin:Rd (ct a (U b 1)<|aO bX) b o bX/\a.grownBy (ct a (U b 1)<|aO bX) (M b):=⟨Rd.short v.out u.out g.out,df _ _ _ _⟩;have j:Hid (Rd (ct a (U b 1)<|aO bX) b o bX/\a.grownBy (ct a (U b 1)<|aO bX) (M b)):=fin;clear fin;have t:Bytes (ct a (U b 1)<|aO bX) aG []:=.inl ⟨rfl,rfl⟩;have l:Hid (Bytes (ct a (U b 1)<|aO bX) aG []):=t;clear t;cases C with
  |true=>
   clear e w;go_in
   go_wp2;go_ret;exact⟨_,rfl,by rw[f.out];exact j.out.1,by rw[f.out];exact l.out,by simp[bY],j.out.2⟩
  |false=>
   have q:z o<n:=by simpa using e
   clear e;rcases w with⟨rfl,rfl⟩|⟨F,c,d,rfl,B,L⟩;all_goals
    go_in
    go_wp2;go_ret;exact⟨_,rfl,by rw[f.out];exact j.out.1,by rw[f.out];exact l.out,by simp[bY],j.out.2⟩
 (have f:Hid (jV o C n=(o.drop n,bF,o.take n)):=by unfold Hid jV;rw[dh e]);obtain⟨K,q⟩:=not_or.1 e;(obtain rfl:C=bF:=by simpa using K);clear e K;rcases w with⟨rfl,rfl⟩|⟨F,c,d,rfl,B,L⟩;(·(obtain rfl:n=0:=by simpa using q);have t:Bytes a aG []:=.inl ⟨rfl,rfl⟩;have j:=Rd.Us v.out t g.out;have m:=Z j;clear j t;(go_in);go_wp2;go_ret;exact⟨_,rfl,by rw[f.out];exact m,by rw[f.out];exact .inl ⟨rfl,rfl⟩,λp=>lh _<|g.out _ p,df _ _ _ _⟩);by_cases A:d=n;(.subst A;(have x:o.drop d=[]:=by simp;omega);(have V:z o=d:=by omega);have l:Bytes a (bE F c 0 0) (o.drop d):=.inr ⟨F,c,0,by rw[x];rfl,by rw[x];simp,λS b=>by rw[x]at b;simp at b⟩;have s:=(Bytes.take u.out (n:=d)<|by omega).grown (df a b 0<|bE F c 0 0)<|.inl<|λp=>lh _<|g.out _ p;have j:=Rd.Us v.out l g.out;have y:=Z s;have m:=Z j;clear l s j x;(go_in);go_wp2;go_ret;exact⟨_,rfl,by rw[f.out];exact m,by rw[f.out];exact y,λp=>lh _<|g.out _ p,df _ _ _ _⟩);have l:=Bytes.BR u.out (n:=n) (by omega);have s:=(Bytes.take u.out (n:=n)<|by omega).grown (df a b 0<|bE F (c+n) (z o-n)<|d-n)<|.inl<|λp=>lh _<|g.out _ p;have j:=Rd.Us v.out l g.out;obtain⟨x,y,m⟩:=dI l s j;clear l s j;(go_in);go_wp2;go_ret;exact⟨_,rfl,by rw[f.out];exact m,by rw[f.out];exact y,λp=>lh _<|g.out _ p,df _ _ _ _⟩
def kG(a:eP):Prop:=∀x∈a,0<=x/\x<256
def kG.take{bs:eP}(h:kG bs)(n:R):kG (bs.take n):=λx a=>h x<|eI a
def kG.drop(h:kG o)(n:R):kG (o.drop n):=λx a=>h x<|dw a
def kG.append{b:eP}(h:kG o)(k:kG b):kG (o++b):=λx a=>(ap.1 a).elim (h x)<|k x
def kG.Au{shortqq:Bool}{n:R}(h:kG o):kG (jV o shortqq n).1/\kG (jV o shortqq n).2.2:=by
 unfold jV;split;exact⟨h,λx a=>by cases a⟩;exact⟨h.drop n,h.take n⟩
def vS(b:eP)(a:Bool)(n:R):z (jV b a n).1<=z b/\z (jV b a n).2.2<=n:=by
 unfold jV;split;exact⟨ai _,bB _⟩;simp;omega
def kG.le(k:R):∀n,kG (le k n):=by
 induction k with
 |zero=>intro n x a;cases a
 |succ k b=>
  intro n x a;rcases aD.1 a with rfl|a
  .omega
  .exact b _ x a
def kG.text(s:ab):kG (kJ s):=by
 intro x a;obtain⟨b,_,rfl⟩:=bz.1 a;have:=b.toNat_lt;omega
def mM:eP->Y
 |[]=>0
 |x::r=>x+256*mM r
def ui:∀(l:eP),kG l->0<=mM l/\mM l<256^z l
 |[],_=>by simp[mM]
 |x::r,h=>by
  have a:=h x<|.head _;have c:=ui r<|λa b=>h a<|.tail _ b;simp only[mM,aC,zZ];omega
def ES:∀(l:eP)(x:Y),mM (l++[x])=mM l+x*256^z l
 |[],x=>by simp[mM]
 |yqq::r,x=>by
  simp only[cC,mM,aC,zZ,ES r x];have e:256*(x*256^z r)=x*(256^z r*256):=by rw[Int.mul_left_comm,Int.mul_comm 256]
  rw[Int.mul_add,e];omega
def AC:∀(k:R)(n:Y),0<=n->mM (le k n)=n%256^k
 |0,n,_=>by simp[mM,le]
 |k+1,n,h=>by
  simp only[le,mM,AC k (n/256) (by omega),zZ];obtain⟨m,rfl⟩:=uX h;have:=Nat.mod_mul (x:=m) (a:=256) (b:=256^k);rw[Int.mul_comm (256^k) 256];exact_mod_cast this.symm
def Wz(h:kG o)(j:z o<=8)(k:R)(d:k<z o):mM (o.take<|k+1)=bits .or .u64 (mM<|o.take k) (IntKind.u64.wrap<|o[k]*2^(8*k)):=by
 have c:=ui (o.take k)<|h.take k;have e:z (o.take k)=k:=by simp;omega
 rw[ak d,ES,e];rw[e]at c;have m:=h o[k]<|ar d;have i:(256:Y)^k=2^(8*k):=by rw[Int.pow_mul];rfl
 rw[i]at c|-;have l:(0:Y)<2^(8*k):=Int.pow_pos (by decide);have f:(2:Y)^(8*k)*256<=2^64:=by(have:(2:Y)^(8*k)*256=2^(8*k+8):=by rw[Int.pow_add];rfl);rw[this];exact_mod_cast Nat.pow_le_pow_right (by decide) (by omega)
 have g:o[k]*2^(8*k)<=255*2^(8*k):=Int.mul_le_mul_of_nonneg_right (by omega) (by omega);have a:0<=o[k]*2^(8*k):=Int.mul_nonneg (by omega) (by omega);have b:o[k]*2^(8*k)<2^64:=by omega
 rw[wraps_u64 _ a b,bits_join_low .u64 64 (by decide) wraps_u64 (8*k) _ _ c.1 c.2 (by omega) a (Int.mul_emod_left _ _) b]
def Ez(n:R)(h:Rd a b o C)(f:kG o)(E:z o<=140737488351232)(O:n<=8):cA bG 247 #[aA b,aq n] a λK w=>K=aP (aL<|mM (jV o C n).2.2)/\Rd w b (jV o C n).1 (jV o C n).2.1/\a.grownBy w (M b):=by
 have q:=Z f;clear f;go_in
 go_wp2_with fail
 apply(Kt n h E<|by omega).mono;rintro K S⟨Q,rfl,g,i,j,u⟩;have N:=(vS o C n).2;obtain⟨s,r,p⟩:=dI (q.Au (shortqq:=C) (n:=n)).2 g u;clear g u j h q;generalize t:(jV o C n).2.2=c at*;have m:=Z t;clear t;rcases i with⟨rfl,rfl⟩|⟨T,l,y,rfl,D,B⟩;(.go_wp2;(go_loop [5,12,6,7] (λx v _ _=>v=aq 0/\x=aL 0) (λ_ _ _ _=>0));(case atStart=>exact⟨rfl,rfl⟩);(case round=>obtain⟨rfl,rfl⟩:=hrel;go_wp2;go_ret;exact⟨by rw[ae m];rfl,r,p⟩));(.go_wp2;(go_loop [5,12,6,7] (λx v _ _=>∃(k:R),k<=z c/\v=aq k/\x=aL (mM<|c.take k)) (λ_ v _ _=>z c-(intOf v).toNat));(case atStart=>exact⟨0,bB _,rfl,rfl⟩);(case round=>obtain⟨k,L,rfl,rfl⟩:=hrel;by_cases e:k<z c;(.have A:=B k e;have P:=s c[k]<|ar e;have d:=Z<|Wz s (by omega) k e;generalize mM (c.take k)=F at*;go_wp2;(go_round);(case rel=>exact⟨k+1,by omega,by go_num,by rw[ae d]⟩);case measure=>simp[intOf];omega);go_wp2;go_ret;have d:c.take k=c:=da (by omega);rw[d];exact⟨by rw[ae m];rfl,r,p⟩))
def UH(h:kG o)(a:z o<=b):mM o<256^b:=by
 have c:=(ui o h).2;have d:(256:Y)^z o<=256^b:=by exact_mod_cast Nat.pow_le_pow_right (by decide) a
 omega
def num(c:eP)(a:Bool)(n:R):Y:=mM (jV c a n).2.2
def sI(h:kG o):0<=num o C b/\num o C b<256^b:=⟨(ui _ h.Au.2).1,UH h.Au.2 (vS o C b).2⟩
def LM(h:Rd a b o C)(c:kG o)(j:z o<=140737488351232):cA bG 209 #[aA b] a λk e=>k=aP (aL<|num o C 8)/\Rd e b (jV o C 8).1 (jV o C 8).2.1/\a.grownBy e (M b):=by
 have d:=Z h;have f:=Z c;clear h c;go_in
 go_wp2_with fail
 apply(Ez 8 d f j<|by omega).mono;rintro k l⟨rfl,g,i⟩;go_wp2;go_ret;exact⟨rfl,g,i⟩
def Ey(n:R)(h:Rd a b o C)(c:kG o)(f:z o<=140737488351232)(e:n<=8):cA bG 247 #[aA b,aq n] a λg d=>g=aP (aL<|num o C n)/\Rd d b (jV o C n).1 (jV o C n).2.1/\a.grownBy d (M b):=Ez n h c f e
def PN{k:IntKind}(h:m=D):Ending.returned (.int k m)=aP (.int k D):=by rw[h]
def Kl(c:R)(a:Bool)(w:I)(h:Rd w c o a)(b:kG o)(n:z o<=140737488351232):cA bG 210 #[aA c] w λp j=>p=aP (dz<|num o a 4)/\Rd j c (jV o a 4).1 (jV o a 4).2.1/\w.grownBy j (M c):=by
 have l:0<=num o a 4:=(sI b).1;have m:num o a 4<4294967296:=(sI b).2;have d:=Z h;have k:=Z b;clear h b;go_in
 go_wp2_with fail
 apply(Ey 4 d k n<|by omega).mono;rintro p q⟨rfl,g,i⟩;have e:=Z g;have f:=Z i;clear g i;go_wp2;go_ret;exact⟨PN (by omega),e,f⟩
def Fx(h:Rd a b o C)(c:kG o)(n:z o<=140737488351232):cA bG 215 #[aA b] a λp j=>p=aP (tP<|num o C 1)/\Rd j b (jV o C 1).1 (jV o C 1).2.1/\a.grownBy j (M b):=by
 have l:0<=num o C 1:=(sI c).1;have m:num o C 1<256:=(sI c).2;have d:=Z h;have k:=Z c;clear h c;go_in
 go_wp2_with fail
 apply(Ey 1 d k n<|by omega).mono;rintro p q⟨rfl,g,i⟩;have e:=Z g;have f:=Z i;clear g i;go_wp2;go_ret;exact⟨PN (by omega),e,f⟩
def GK(h:Rd a b o C):cA bG 211 #[aA b] a λi g=>i=aP (aO C)/\g=a:=by
 obtain⟨v,d,e,c⟩:=h;have f:=cellAt d 1 rfl;clear d e c;go_in
 go_wp2;go_ret;exact⟨rfl,rfl⟩
def xZ(h:Rd a b o C)(p:z o<=140737488351232):cA bG 212 #[aA b] a λm l=>m=aP (aO<|!C&&o.isEmpty)/\l=a:=by
 obtain⟨v,c,g,d⟩:=h;have i:=cellAt c 0 rfl;have j:=cellAt c 1 rfl;clear c d;cases C with
 |true=>
  go_in
  go_wp2;go_ret;exact⟨rfl,rfl⟩
 |false=>
  rcases g with⟨rfl,rfl⟩|⟨s,e,f,rfl,k,n⟩
  .go_in
   go_wp2;go_ret;exact⟨rfl,rfl⟩
  .cases o with
   |nil=>
    go_in
    go_wp2;go_ret;exact⟨rfl,rfl⟩
   |cons x r=>
    have q:((z (x::r):Y)==0)=bF:=by simp;omega
    go_in
    go_wp2;go_ret;exact⟨rfl,rfl⟩
def DG(a:eP):ab:=⟨(a.map λx=>UInt8.ofNat x.toNat).toArray⟩
def vR(s:ab):DG (kJ s)=s:=by
 have e:((λx:Y=>UInt8.ofNat x.toNat)∘λb:UInt8=>(b.toNat:Y))=id:=by funext b;simp
 unfold DG kJ;rw[iZ,e,xh]
def DE(b:eP)(a:Bool):eP×Bool×eP:=let c:=jV b a 1;jV c.1 c.2.1 (num b a 1).toNat
def Pk(g:Bytes a d o)(f:kG o):(convert 126 9 d).run bG a=.ok (aj<|DG o) a:=by
 rcases g with⟨rfl,rfl⟩|⟨k,b,e,rfl,i,h⟩;exact Lib.run_convert_nil_bytes a _ _ 5 0 underlying126 underlying5 underlying9;have:=vG (P:=bG) a 126 9 5 (U k b) e (o.map λx=>UInt8.ofNat x.toNat) underlying126 underlying5 underlying9 (λj c=>by simp at c;rw[dB,h j c];have l:=f o[j]<|ar c;simp[c];omega);simpa[DG]using this
def DF(h:Rd a b o C)(c:kG o)(F:z o<=140737488351232):cA bG 248 #[aA b] a λy u=>y=aP (aj<|DG (DE o C).2.2)/\Rd u b (DE o C).1 (DE o C).2.1/\a.grownBy u (M b):=by
 have j:0<=num o C 1:=(sI c).1;have B:num o C 1<256:=(sI c).2;have d:=Z h;have l:=Z c;clear h c;go_in
 go_wp2_with fail
 apply(Fx d l F).mono;rintro y N⟨rfl,n,p⟩;have e:=Z n;have f:=Z p;clear n p;obtain⟨v,k⟩:=uX j;have t:(DE o C)=jV (jV o C 1).1 (jV o C 1).2.1 v:=by unfold DE;simp[k]
 have K:=(vS o C 1).1;have m:=Z t;have w:=Z (l.Au (shortqq:=C) (n:=1)).1;have E:v<256:=by omega
 have x:=Z k;clear t k;go_wp2_with fail
 rw[ae x];apply(Kt v e (by omega)<|by omega).mono;rintro y O⟨L,rfl,q,r,A,s⟩;have D:=Pk r w.Au.2;have g:=Z q;have i:=Z s;clear q r A s;go_wp2;go_ret;exact⟨by rw[ae m];rfl,by rw[ae m];exact g,xU f i⟩
def Bytes.of_heap{w w':I}(i:Bytes w d o)(k:w'.heap=w.heap):Bytes w' d o:=by
 rcases i with⟨rfl,rfl⟩|⟨j,b,e,rfl,g,h⟩;exact .inl ⟨rfl,rfl⟩;exact .inr ⟨j,b,e,rfl,g,λl i=>by rw[<-h l i];exact cP (w:=w)<|by rw[k]⟩
def Rd.of_heap{w w':I}(i:Rd w b o C)(h:w'.heap=w.heap):Rd w' b o C:=by
 obtain⟨v,d,e,g⟩:=i;exact⟨v,by rw[h];exact d,e.of_heap h,g⟩
def Steps.of_heap{w w':I}(h:Steps w)(e:w'.heap=w.heap):Steps w':=λk b=>by
 rw[<-h k b];exact cP (w:=w)<|by rw[e]
def Steps.grown{b:Option R}(h:Steps a)(d:a.grownBy f b)(c:b≠M 1):Steps f:=λk e=>d.cell (h k e)<|λg=>c g.symm
def Steps.alloc{w:I}(h:Steps w)(o:Obj):Steps (cF w o):=λk e=>by
 have c:=h k e;have a:1<G (H w):=by by_cases d:1<G (H w);exact d;have:w.heap[(1:R)]?=none:=eL (by omega);simp[World.cell?,this]at c
 rw[<-c];exact cP (w:=w)<|Below.heap_alloc w o _ a
def Steps.lt(h:Steps a):1<G (H a):=by
 have c:=h 0 (by decide);by_cases d:1<G (H a);exact d;have:a.heap[(1:R)]?=none:=eL (by omega);simp[World.cell?,this]at c
def JU(b c:ab):(b==c)=decide (b=c):=by
 obtain⟨x⟩:=b;obtain⟨a⟩:=c;show(x==a)=_;by_cases h:x=a;simp[h];simp[h]
abbrev ft:=cD<|ab×aa
def ft.get(m:ft)(k:ab):Option aa:=match m with
 |[]=>none
 |p::r=>if p.1=k then M p.2 else ft.get r k
def Fits(a:cD MapEntry)(m:ft):Prop:=a.map (λe=>(e.key,e.val))=m.map (λp=>(aj p.1,p.2))
def Fits.cons_inv{e:MapEntry}{a:cD MapEntry}{m:ft}(h:Fits (e::a) m):∃p r,m=p::r/\e.key=aj p.1/\e.val=p.2/\Fits a r:=by
 cases m with
 |nil=>simp[Fits]at h
 |cons p r=>
  simp[Fits]at h;exact⟨p,r,rfl,h.1.1,h.1.2,h.2⟩
def JD(k:ab):∀(a:cD MapEntry)(m:ft)(i:R),Fits a m->∃l,Instr.findNow .string (aj k) a i=M ((m.get k).map λv=>(l,v)):=by
 intro a;induction a with
 |nil=>
  intro m i h;obtain rfl:m=[]:=by simpa[Fits]using h
  exact⟨0,rfl⟩
 |cons n a j=>
  intro m i h;obtain⟨p,r,rfl,d,g,f⟩:=h.cons_inv;by_cases c:p.1=k
  .refine⟨i,?_⟩;simp[Instr.findNow,Instr.sameNow,d,ft.get,c,g,JU]
  .obtain⟨l,e⟩:=j r (i+1) f;refine⟨l,?_⟩;have b:(k==p.1)=bF:=by rw[JU];simpa usingλn:k=p.1=>c n.symm
   simp[Instr.findNow,Instr.sameNow,d,ft.get,c,b,e]
def gI(w:I)(c:R)(m:ft):Prop:=∃b a,w.heap[c]?=M (.map b a)/\Fits b.toList m/\MapKept.Stamped b a
def uc{P:Program}{mt l i n:R}{m:ft}{u:TypeInfo}(s:P.underlying mt=M (.map l i))(j:P.underlying l=M .string)(q:P.info? i=M u)(t:u.zero=M d)(v:gI a n m)(k:ab):(Instr.lookup mt (.map<|M n) (aj k) bF).run P a=.ok ((m.get k).getD d) a:=by
 obtain⟨c,b,p,o,_⟩:=v;obtain⟨w,r⟩:=JD k c.toList m 0 o;have e:=eS (P:=P) (w:=a) (k:=aj k) j (by trivial) c.isEmpty 9999;have g:=eN (P:=P) (w:=a) j r;have h:(getObj n).run P a=.ok (.map c b) a:=by simp[getObj,Sem.run,p]
 unfold Instr.lookup;rw[kj,eH s];simp only[jt,kj,h,pZ];rw[show(10000:R)=9999+1 from rfl,e];simp only[jt,g];cases hg:m.get k with
 |none=>simp[zeroValue,typeInfo,q,t]
 |some x=>simp
section
open Go.ChangeMaps (setBlock)
def ft.put(m:ft)(k:ab)(v:aa):ft:=match m with
 |[]=>[(k,v)]
 |p::r=>if p.1=k then(k,v)::r else p::ft.put r k v
def ft.del(m:ft)(k:ab):ft:=match m with
 |[]=>[]
 |p::r=>if p.1=k then r else p::ft.del r k
theorem Fits.cons{e:MapEntry}{b:cD MapEntry}{p:ab×aa}{m:ft}(d:e.key=aj p.1)(f:e.val=p.2)(h:Fits b m):Fits (e::b) (p::m):=by
 simp[Fits,d,f];exact h
theorem Hy(k:ab):∀(d:cD MapEntry)(m:ft)(s:R),Fits d m->(Instr.findNow .string (aj k) d s=M none/\m.get k=none/\(∀e∈d,e.key≠aj k)/\m.del k=m/\∀v,m.put k v=m++[(k,v)])\/∃t e,Instr.findNow .string (aj k) d s=M (M (s+t,e.val))/\d[t]?=M e/\e.key=aj k/\m.get k=M e.val/\(∀v,Fits (d.modify t λe=>{e with key:=aj k,val:=v})<|m.put k v)/\Fits (d.eraseIdx t) (m.del k):=by
 intro d;induction d with
 |nil=>
  intro m s x;obtain rfl:m=[]:=by simpa[Fits]using x
  exact .inl ⟨rfl,rfl,by simp,rfl,λ_=>rfl⟩
 |cons e d A=>
  intro m s x;obtain⟨B,C,rfl,f,q,p⟩:=x.cons_inv;by_cases b:B.1=k
  .refine .inr ⟨0,e,?_,rfl,by rw[f,b],?_,?_,?_⟩
   .simp[Instr.findNow,Instr.sameNow,f,b,JU]
   .simp[ft.get,b,q]
   .intro v;simp only[ft.put,b,iO,qN];exact Fits.cons rfl rfl p
   .simpa[ft.del,b]using p
  .have g:(k==B.1)=bF:=by rw[JU];simpa usingλe:k=B.1=>b e.symm
   rcases A C (s+1) p with⟨h,i,j,l,n⟩|⟨t,u,h,i,j,l,n,y⟩
   .refine .inl ⟨?_,?_,?_,?_,?_⟩
    .simp[Instr.findNow,Instr.sameNow,f,g,h]
    .simp[ft.get,b,i]
    .intro D r;rcases aD.1 r with rfl|r
     .rw[f];simpa using b
     .exact j D r
    .simp[ft.del,b,l]
    .intro v;simp[ft.put,b,n]
   .refine .inr ⟨t+1,u,?_,by simpa using i,j,?_,?_,?_⟩
    .simp[Instr.findNow,Instr.sameNow,f,g,h];omega
    .simp[ft.get,b,l]
    .intro v;simp only[ft.put,b,jT,nw];exact Fits.cons f q<|n v
    .simp only[ft.del,b,jT,uV];exact Fits.cons f q y
theorem iW(w:I)(d:R)(o:Obj):w.grownBy (setBlock w d o) (M d):=⟨rfl,rfl,rfl,by simp[setBlock],λk _ b=>by
 simp only[setBlock];rw[jP (λe=>b (by rw[e]))]⟩
theorem Cp{P:Program}{w:I}{mt v y q:R}{A:ft}(u:P.underlying mt=M (.map v y))(j:P.underlying v=M .string)(D:gI w q A)(l:ab)(x:aa):∃k,(Instr.mapUpdate mt (.map<|M q) (aj l) x).run P w=.ok () k/\gI k q (A.put l x)/\w.grownBy k (M q)/\G (H k)=G (H w):=by
 obtain⟨h,b,g,p,t⟩:=D;have f:=jv (P:=P) g;rcases Hy l h.toList A 0 p with⟨m,r,i,_,n⟩|⟨B,e,m,r,i,E,n,_⟩;refine⟨setBlock w q<|.map (h.push {key:=aj l,val:=x,born:=b})<|b+1,?_,?_,iW _ _ _,by simp[setBlock]⟩;simp[Instr.mapUpdate,eH u,f,eS j (show MapKept.IsKey .string (aj l)by trivial),eN j m,fI _ g,Result.andThen,setBlock];refine⟨_,_,(fQ g).1,?_,rF t i⟩;rw[n];simp[Fits]at p|-;exact p;(have s:h[B]?=M e:=by simpa using r);refine⟨setBlock w q<|.map (h.modify B λe=>{e with key:=aj l,val:=x}) b,?_,?_,iW _ _ _,by simp[setBlock]⟩;simp[Instr.mapUpdate,eH u,f,eS j (show MapKept.IsKey .string (aj l)by trivial),eN j m,s,i,oI (show MapKept.IsKey .string (aj l)by trivial),fI _ g,Result.andThen,setBlock];refine⟨_,_,(fQ g).1,?_,qc t _ _ (λ_ _=>rfl) (λC _ d=>by rw[s]at d;cases d;exact i.symm)⟩;simpa using n x
theorem KP{P:Program}{w:I}{mt l t m:R}{A:ft}(r:P.underlying mt=M (.map l t))(g:P.underlying l=M .string)(D:gI w m A)(s:ab)(B:TypeId):∃h,(Builtin.delete_ #[mt,l] B #[.map<|M m,aj s]).run P w=.ok (dE #[]) h/\gI h m (A.del s)/\w.grownBy h (M m)/\G (H h)=G (H w):=by
 obtain⟨d,b,f,p,q⟩:=D;have e:=jv (P:=P) f;rcases Hy s d.toList A 0 p with⟨i,j,u,n,v⟩|⟨y,C,i,j,u,n,v,x⟩;refine⟨setBlock w m<|.map d b,?_,?_,iW _ _ _,by simp[setBlock]⟩;simp[Builtin.delete_,eH r,e,eS g (show MapKept.IsKey .string (aj s)by trivial),eN g i,fI _ f,Result.andThen,setBlock];rw[n];exact⟨_,_,(fQ f).1,p,q⟩;(have E:d[y]?=M C:=by simpa using j);(have k:y<d.size:=by have:=fF.1 j;simpa using this.1);refine⟨setBlock w m<|.map (d.eraseIdxIfInBounds y) b,?_,?_,iW _ _ _,by simp[setBlock]⟩;simp[Builtin.delete_,eH r,e,eS g (show MapKept.IsKey .string (aj s)by trivial),eN g i,fI _ f,Result.andThen,setBlock];refine⟨_,_,(fQ f).1,?_,wK q _⟩;simp only[Array.eraseIdxIfInBounds,k,oU,wP];exact x
theorem gI.kept{w h:I}{i:R}{n:ft}{d:Option R}(p:gI w i n)(l:w.grownBy h d)(e:M i≠d):gI h i n:=by
 obtain⟨j,b,g,k,m⟩:=p;exact⟨j,b,(l.block i (am g) e).trans g,k,m⟩
theorem gI.alloc{w:I}{b:R}{m:ft}(h:gI w b m)(o:Obj):gI (cF w o) b m:=h.kept (dA w o none)<|by simp
theorem gI.lt{w:I}{b:R}{m:ft}(h:gI w b m):b<G (H w):=by
 obtain⟨_,_,d,_⟩:=h;exact am d
section
variable{P:Program}(w:I){c:Array Oper}{rest:cD Oper}{o:Oper}{a:Act}{Q:Exit->Act->I->Prop}
theorem Dx(m:o.guard=none)(i A j:Operand)(y:TypeId)(h:o.op=Op.mapUpdate y i A j)(v C:TypeId)(q:P.underlying y=M (.map v C))(n:P.underlying v=M .string)(k:R)(x:ft)(p:a.eval i=.map (M k))(D:gI w k x)(b:ab)(d:aa)(s:a.eval A=aj b)(r:a.eval j=d)(l:∀f,gI f k (x.put b d)->w.grownBy f (M k)->wpList P c Q rest (a.put o.dst iE) f):wpList P c Q (o::rest) a w:=by
 refine kX m λB g=>?_;obtain⟨f,e,t,u,_⟩:=Cp q n D b d;unfold Oper.wp;simp[execOp,h,p,s,r,e,Result.andThen];exact g _ _<|l f t u
theorem Dy(k:o.guard=none)(h x:Operand)(u q:TypeId)(g:o.op=Op.call {callee:=Callee.builtin Builtin.delete,args:=#[h,x],argTypes:=#[u,q]})(y:TypeId)(n:P.underlying u=M (.map q y))(l:P.underlying q=M .string)(i:R)(t:ft)(m:a.eval h=.map (M i))(A:gI w i t)(b:ab)(p:a.eval x=aj b)(j:∀e,gI e i (t.del b)->w.grownBy e (M i)->wpList P c Q rest (a.put o.dst<|dE #[]) e):wpList P c Q (o::rest) a w:=by
 refine kX k λv f=>?_;obtain⟨e,d,r,s,_⟩:=KP n l A b o.type;unfold Oper.wp;simp[execOp,g,resolve,invoke,builtin,m,p,d,Result.andThen];exact f _ _<|j e r s
end
end
def uj:(prog.info? 125).map (λi=>(i.zero,i.size,i.bytes))=M (M<|fA none,1,8):=by kernel_rfl
def oH(w:I)(e g d:R)(f:aa)(c b a:Y):Prop:=w.heap[e]?=M (aw #[.map<|M g,.map<|M d,f,aq c,aq 0,aq 0,aq b,aq a] 73 (0,0))
def yL(h:oH a b c g d m D Q):cA bG 146 #[aA b] a λj i=>j=aP (aO bF)/\i=a:=by
 have e:=cellAt h 4 rfl;have f:=cellAt h 5 rfl;clear h;go_in
 go_wp2;go_ret;exact⟨rfl,rfl⟩
def vu(s:ft)(e:ab)(q:Addr)(h:oH a b c g d m D Q)(l:gI a c s)(j:s.get e=M (fA<|M q)):cA bG 144 #[aA b,aj e] a λr p=>r=aP (dE #[fA<|M q,.nilIface])/\p=a:=by
 obtain⟨t,o,i,_,_⟩:=cL uj;have k:=uc underlying70 underlying9 o i l e;rw[j]at k;simp only[ia]at k;have n:=cellAt h 0 rfl;have f:=Z h;clear h l j;go_in
 go_wp2_with(first
  |(go_at_call 146;refine(yL f).mono ?_;rintro r u⟨rfl,rfl⟩))
 go_ret2
 exact⟨rfl,rfl⟩
def Su(r:ft)(e:ab)(h:oH a b c g d m D Q)(l:gI a c r)(j:r.get e=none):cA bG 144 #[aA b,aj e] a λq p=>q=aP (dE #[fA none,.iface 219<|aA<|G<|H a])/\p=cF a (aw #[aj e,aq 10] 222):=by
 obtain⟨s,o,i,_,_⟩:=cL uj;have k:=uc underlying70 underlying9 o i l e;rw[j]at k;simp only[uP]at k;have n:=cellAt h 0 rfl;have f:=Z h;clear h l j;go_in
 go_wp2_with(first
  |(go_at_call 146;refine(yL f).mono ?_;rintro q t⟨rfl,rfl⟩))
 go_ret2
 exact⟨rfl,rfl⟩
structure Kd(w:I)(g:R)(bs:eP)(safe:Y):Prop where
 iN:∃v,w.heap[g]?=M (aw #[v,aq safe] 129 (0,0))/\Bytes w v bs/\bY v≠M g
def Bytes.shape(h:Bytes a d o):d=aG/\o=[]\/∃f b c,d=bE f b (z o) c/\z o<=c:=by
 rcases h with h|⟨f,b,c,h,e,_⟩;exact .inl h;exact .inr ⟨f,b,c,h,e⟩
def TH(w:ft)(e:ab)(t:R)(i:eP)(f:Y)(h:oH a b c g d m D Q)(p:gI a c w)(n:w.get e=M (aA t))(q:Kd a t i f)(A:z i<=140737488351232):cA bG 153 #[aA b,aj e] a λy x=>y=aP (dE #[aq<|z i,.nilIface])/\x=a:=by
 obtain⟨E,o,l,_⟩:=q.iN;have u:=cellAt o 0 rfl;have r:=Z<|vu w e (U t 0) h p n;have j:=l.shape;clear q o l h p n;rcases j with⟨rfl,rfl⟩|⟨C,k,s,rfl,v⟩
 all_goals
  go_in
  go_wp2_with(first
   |(go_at_call 144;refine r.mono ?_;rintro y B⟨rfl,rfl⟩))
  go_ret2
  exact⟨rfl,rfl⟩
def QP(k:ft)(e:ab)(h:oH a b c g d m D Q)(i:gI a c k)(f:k.get e=none):cA bG 153 #[aA b,aj e] a λn l=>n=aP (dE #[aq 0,.iface 219<|aA<|G<|H a])/\l=cF a (aw #[aj e,aq 10] 222):=by
 have j:=Z<|Su k e h i f;clear h i f;go_in
 go_wp2_with(first
  |(go_at_call 144;refine j.mono ?_;rintro n o⟨rfl,rfl⟩))
 go_ret2
 exact⟨rfl,rfl⟩
def TA(E:ft)(e:ab)(n:R)(f:eP)(l:Y)(h:oH a b c g d m D Q)(s:gI a c E)(r:E.get e=M (aA n))(t:Kd a n f l)(K:z f<=140737488351232):cA bG 90 #[aA b,aj e] a λF u=>F=aP .nilIface/\Kd u n f (z f)/\u=ct a (U n 1) (aq<|z f):=by
 obtain⟨L,k,o,j⟩:=t.iN;have y:=cellAt k 0 rfl;have B:=dW (i:=1) k;have A:=cellAt k 1 rfl;have w:=Z<|vu E e (U n 0) h s r;have v:=Z<|show Kd (ct a (U n 1)<|aq<|z f) n f (z f)from⟨L,by rw[aT k];rfl,o.grown (df a n 1 _)<|.inl j,j⟩;have p:=o.shape;clear t k o h s r j;rcases p with⟨rfl,rfl⟩|⟨O,q,x,rfl,C⟩
 all_goals
  go_in
  go_wp2_with(first
   |(go_at_call 144;refine w.mono ?_;rintro F N⟨rfl,rfl⟩))
  go_ret;exact⟨rfl,v,rfl⟩
section
open Go.ChangeMaps (setBlock)
def qJ(w:I)(h r:R)(m left:ft):Prop:=∃e d b seen g,w.heap[h]?=M (.map e d)/\Fits e.toList m/\MapKept.Stamped e d/\w.heap[r]?=M (.mapIter (M h) b seen g)/\(∀x∈e.toList,x.born<b)/\b<=g/\b<=d/\Fits (leftOf e seen).toList left
theorem qJ.ne{w:I}{g r:R}{m left:ft}(j:qJ w g r m left):r≠g:=by
 obtain⟨i,b,_,_,_,e,_,_,d,_⟩:=j;intro h;rw[h,e]at d;cases d
theorem qJ.lt{w:I}{b r:R}{m left:ft}(h:qJ w b r m left):r<G (H w):=by
 obtain⟨g,d,_,_,_,_,_,_,e,_⟩:=h;exact am e
theorem qJ.kept{w e:I}{g r:R}{s left:ft}(t:qJ w g r s left)(p:e.heap[g]?=w.heap[g]?)(q:e.heap[r]?=w.heap[r]?):qJ e g r s left:=by
 obtain⟨i,b,d,seen,h,j,k,l,m,n⟩:=t;exact⟨i,b,d,seen,h,p.trans j,k,l,q.trans m,n⟩
theorem Fits.split{e:cD MapEntry}{n:ft}{d b:cD MapEntry}{h:MapEntry}(i:Fits e n)(m:e=d++h::b):∃a p g,n=a++p::g/\Fits d a/\h.key=aj p.1/\h.val=p.2/\Fits b g:=by
 subst m;unfold Fits at i;rw[aQ,aZ]at i;obtain⟨a,q,rfl,j,k⟩:=iF.1 i.symm;obtain⟨p,g,rfl,f,l⟩:=nI.1 k;exact⟨a,p,g,rfl,j.symm,(bW Prod.fst f).symm,(bW Prod.snd f).symm,l.symm⟩
theorem Fits.append{b d:cD MapEntry}{m n:ft}(h:Fits b m)(k:Fits d n):Fits (b++d) (m++n):=by
 unfold Fits at*;rw[aQ,aQ,h,k]
theorem Hn{d:Array MapEntry}{seen:Array R}{f e:cD MapEntry}{h:MapEntry}(m:(d.toList.map (·.born)).Nodup)(n:(leftOf d seen).toList=f++h::e):(leftOf d<|seen.push h.born).toList=f++e:=by
 have i:(leftOf d<|seen.push h.born).toList=(leftOf d seen).toList.filter (λx=>!(x.born==h.born)):=by simp only[leftOf,Array.toList_filter,List.filter_filter];congr 1;funext x;simp[Bool.and_comm];rfl
 have b:((leftOf d seen).toList.map (·.born)).Nodup:=by(have:(leftOf d seen).toList.Sublist d.toList:=by simp[leftOf]);exact sU (this.map _) m
 rw[i,n];rw[n]at b;simp only[aQ,aZ]at b;obtain⟨_,j,k⟩:=jx.1 b;obtain⟨l,_⟩:=kP.1 j;rw[je,dl<|by simp];congr 1;refine fh.2<|λx g=>?_;have:=k x.born (bz.2 ⟨x,g,rfl⟩) h.born (by simp);simpa using this;refine fh.2<|λx g=>?_;have:x.born≠h.born:=λb=>l (by rw[<-b];exact bz.2 ⟨x,g,rfl⟩);simpa using this
theorem NH{P:Program}{w:I}{mt k h g:R}{m:ft}(l:P.underlying mt=M (.map k h))(n:gI w g m):∃e,(Instr.range mt<|.map<|M g).run P w=.ok (aA<|G<|H w) e/\qJ e g (G<|H w) m m/\w.grownBy e none/\G (H e)=G (H w)+1:=by
 obtain⟨d,b,f,i,j⟩:=n;refine⟨_,run_range_map w mt k h g d b l f,⟨d,b,b,#[],b,((oW w _).2 g<|am f).trans f,i,j,(oW w _).1,j.1,ai _,ai _,?_⟩,dA w _ none,by simp⟩;have:leftOf d #[]=d:=by simp[leftOf]
 rw[this];exact i
theorem QZ{P:Program}{w:I}{v r:R}{ad left:ft}(ac:qJ w v r ad left)(L:TypeId):(left=[]/\(Instr.next (aA r) bF L).run P w=.ok (dE #[aO bF]) w)\/∃m K g p,left=m++K::g/\(Instr.next (aA r) bF L).run P w=.ok (dE #[aO bX,aj K.1,K.2]) p/\qJ p v r ad (m++g)/\w.grownBy p (M r)/\G (H p)=G (H w)/\(Instr.entry<|aA r).run P p=.ok (dE #[aj K.1,K.2]) p:=by
 have C:=ac.ne;obtain⟨l,b,d,seen,N,O,hf,D,T,k,E,t,B⟩:=ac;rcases run_next_at (P:=P) w L r v d N seen l b T O k E with⟨W,f⟩|⟨x,S,y,h,f⟩;refine .inl ⟨?_,f⟩;(have:(leftOf l seen).toList=[]:=by simpa using qW W);rw[this]at B;simpa[Fits]using B;obtain⟨m,g,u⟩:=sS S;obtain⟨a,K,al,rfl,X,n,V,hc⟩:=B.split u;(have i:y.heap=w.heap:=by rcases h with rfl|rfl<;>rfl);(have s:y.heap[r]?=M (.mapIter (M v) d seen N):=by rw[i];exact T);have j:(setBlock y r<|.mapIter (M v) d (seen.push x.born) b).heap[r]?=M (.mapIter (M v) d (seen.push x.born) b):=(fQ s).1;have e:∀F,F≠r->(setBlock y r<|.mapIter (M v) d (seen.push x.born) b).heap[F]?=w.heap[F]?:=λF n=>((fQ s).2 F n).trans (by rw[i]);have q:=(e v<|λx=>C x.symm).trans O;(have A:x∈l.toList:=by(have:(leftOf l seen).toList.Sublist l.toList:=by simp[leftOf]);exact this.subset S);refine .inr ⟨a,K,al,_,rfl,by rw[<-n,<-V];exact f,⟨l,b,d,_,b,q,hf,D,j,k,t,t,by rw[Hn D.2.1 u];exact X.append hc⟩,⟨?_,?_,?_,?_,λF _ n=>e F<|λx=>n<|by rw[x]⟩,?_,?_⟩;rcases h with rfl|rfl<;>rfl;rcases h with rfl|rfl<;>rfl;rcases h with rfl|rfl<;>rfl;simp[setBlock,i];simp[setBlock,i];rw[<-n,<-V];exact run_entry_at _ r v d seen l b x j q A D.2.1
section
variable{P:Program}(w:I){c:Array Oper}{rest:cD Oper}{o:Oper}{a:Act}{Q:Exit->Act->I->Prop}
theorem ux(k:o.guard=none)(h:Operand)(t:TypeId)(g:o.op=Op.range t h)(x u:TypeId)(m:P.underlying t=M (.map x u))(i:R)(n:ft)(l:a.eval h=.map (M i))(v:gI w i n)(j:∀b,qJ b i (G<|H w) n n->w.grownBy b none->G (H b)=G (H w)+1->wpList P c Q rest (a.put o.dst<|aA<|G<|H w) b):wpList P c Q (o::rest) a w:=by
 refine kX k λs e=>?_;obtain⟨b,d,p,q,r⟩:=NH m v;unfold Oper.wp;simp[execOp,g,l,d,Result.andThen];exact e _ _<|j b p q r
theorem vN(u:o.guard=none)(l:Operand)(k:o.op=Op.next l bF)(x r:R)(y left:ft)(ri:a.eval l=aA r)(B:qJ w x r y left)(h:left=[]->wpList P c Q rest (a.put o.dst<|dE #[aO bF]) w)(i:∀e p b g,left=e++p::b->qJ g x r y (e++b)->w.grownBy g (M r)->G (H g)=G (H w)->(Instr.entry<|aA r).run P g=.ok (dE #[aj p.1,p.2]) g->wpList P c Q rest (a.put o.dst<|dE #[aO bX,aj p.1,p.2]) g):wpList P c Q (o::rest) a w:=by
 refine kX u λA j=>?_;unfold Oper.wp;rcases QZ (P:=P) B o.type with⟨m,d⟩|⟨e,p,b,g,v,d,n,q,s,t⟩;simp[execOp,k,ri,d,Result.andThen];exact j _ _<|h m;simp[execOp,k,ri,d,Result.andThen];exact j _ _<|i e p b g v n q s t
end
end
section
open Go.ChangeMaps (setBlock)
abbrev fP:=cD<|Y×aa
def fP.get(m:fP)(k:Y):Option aa:=match m with
 |[]=>none
 |p::r=>if p.1=k then M p.2 else fP.get r k
def jO(b:cD MapEntry)(m:fP):Prop:=b.map (λe=>(e.key,e.val))=m.map (λp=>(aq p.1,p.2))
theorem jO.nil:jO [] []:=rfl
theorem jO.cons_inv{e:MapEntry}{b:cD MapEntry}{m:fP}(h:jO (e::b) m):∃p r,m=p::r/\e.key=aq p.1/\e.val=p.2/\jO b r:=by
 cases m with
 |nil=>simp[jO]at h
 |cons p r=>
  simp[jO]at h;exact⟨p,r,rfl,h.1.1,h.1.2,h.2⟩
theorem Gl(k:Y):∀(b:cD MapEntry)(m:fP)(i:R),jO b m->∃p,Instr.findNow (.int .i64) (aq k) b i=M ((m.get k).map λv=>(p,v)):=by
 intro b;induction b with
 |nil=>
  intro m i h;obtain rfl:m=[]:=by simpa[jO]using h
  exact⟨0,rfl⟩
 |cons r b n=>
  intro m i h;obtain⟨q,s,rfl,f,l,j⟩:=h.cons_inv;by_cases e:q.1=k
  .refine⟨i,?_⟩;simp[Instr.findNow,Instr.sameNow,f,fP.get,e,l]
  .obtain⟨p,g⟩:=n s (i+1) j;refine⟨p,?_⟩;have d:(k==q.1)=bF:=by simpa usingλr:k=q.1=>e r.symm
   simp[Instr.findNow,Instr.sameNow,f,fP.get,e,d,g]
def jJ(w:I)(e:R)(m:fP):Prop:=∃d b,w.heap[e]?=M (.map d b)/\jO d.toList m/\MapKept.Stamped d b
def fP.put(m:fP)(k:Y)(v:aa):fP:=match m with
 |[]=>[(k,v)]
 |p::r=>if p.1=k then(k,v)::r else p::fP.put r k v
def fP.del(m:fP)(k:Y):fP:=match m with
 |[]=>[]
 |p::r=>if p.1=k then r else p::fP.del r k
theorem jO.cons{e:MapEntry}{b:cD MapEntry}{p:Y×aa}{m:fP}(d:e.key=aq p.1)(f:e.val=p.2)(h:jO b m):jO (e::b) (p::m):=by
 simp[jO,d,f];exact h
theorem Fg(k:Y):∀(d:cD MapEntry)(m:fP)(s:R),jO d m->(Instr.findNow (.int .i64) (aq k) d s=M none/\m.get k=none/\(∀e∈d,e.key≠aq k)/\m.del k=m/\∀v,m.put k v=m++[(k,v)])\/∃t e,Instr.findNow (.int .i64) (aq k) d s=M (M (s+t,e.val))/\d[t]?=M e/\e.key=aq k/\m.get k=M e.val/\(∀v,jO (d.modify t λe=>{e with key:=aq k,val:=v})<|m.put k v)/\jO (d.eraseIdx t) (m.del k):=by
 intro d;induction d with
 |nil=>
  intro m s x;obtain rfl:m=[]:=by simpa[jO]using x
  exact .inl ⟨rfl,rfl,by simp,rfl,λ_=>rfl⟩
 |cons e d A=>
  intro m s x;obtain⟨B,C,rfl,f,q,p⟩:=x.cons_inv;by_cases b:B.1=k
  .refine .inr ⟨0,e,?_,rfl,by rw[f,b],?_,?_,?_⟩
   .simp[Instr.findNow,Instr.sameNow,f,b]
   .simp[fP.get,b,q]
   .intro v;simp only[fP.put,b,iO,qN];exact jO.cons rfl rfl p
   .simpa[fP.del,b]using p
  .have g:(k==B.1)=bF:=by simpa usingλe:k=B.1=>b e.symm
   rcases A C (s+1) p with⟨h,i,j,l,n⟩|⟨t,u,h,i,j,l,n,y⟩
   .refine .inl ⟨?_,?_,?_,?_,?_⟩
    .simp[Instr.findNow,Instr.sameNow,f,g,h]
    .simp[fP.get,b,i]
    .intro D r;rcases aD.1 r with rfl|r
     .rw[f];simpa using b
     .exact j D r
    .simp[fP.del,b,l]
    .intro v;simp[fP.put,b,n]
   .refine .inr ⟨t+1,u,?_,by simpa using i,j,?_,?_,?_⟩
    .simp[Instr.findNow,Instr.sameNow,f,g,h];omega
    .simp[fP.get,b,l]
    .intro v;simp only[fP.put,b,jT,nw];exact jO.cons f q<|n v
    .simp only[fP.del,b,jT,uV];exact jO.cons f q y
theorem KN{P:Program}{w:I}{mt v y q:R}{A:fP}(u:P.underlying mt=M (.map v y))(j:P.underlying v=M (.int .i64))(D:jJ w q A)(l:Y)(x:aa):∃k,(Instr.mapUpdate mt (.map<|M q) (aq l) x).run P w=.ok () k/\jJ k q (A.put l x)/\w.grownBy k (M q)/\G (H k)=G (H w):=by
 obtain⟨h,b,g,p,t⟩:=D;have f:=jv (P:=P) g;rcases Fg l h.toList A 0 p with⟨m,r,i,_,n⟩|⟨B,e,m,r,i,E,n,_⟩;refine⟨setBlock w q<|.map (h.push {key:=aq l,val:=x,born:=b})<|b+1,?_,?_,iW _ _ _,by simp[setBlock]⟩;simp[Instr.mapUpdate,eH u,f,eS j (show MapKept.IsKey (.int .i64) (aq l)by rfl),eN j m,fI _ g,Result.andThen,setBlock];refine⟨_,_,(fQ g).1,?_,rF t i⟩;rw[n];simp[jO]at p|-;exact p;(have s:h[B]?=M e:=by simpa using r);refine⟨setBlock w q<|.map (h.modify B λe=>{e with key:=aq l,val:=x}) b,?_,?_,iW _ _ _,by simp[setBlock]⟩;simp[Instr.mapUpdate,eH u,f,eS j (show MapKept.IsKey (.int .i64) (aq l)by rfl),eN j m,s,i,oI (show MapKept.IsKey (.int .i64) (aq l)by rfl),fI _ g,Result.andThen,setBlock];refine⟨_,_,(fQ g).1,?_,qc t _ _ (λ_ _=>rfl) (λC _ d=>by rw[s]at d;cases d;exact i.symm)⟩;simpa using n x
theorem KQ{P:Program}{w:I}{mt l t m:R}{A:fP}(r:P.underlying mt=M (.map l t))(g:P.underlying l=M (.int .i64))(D:jJ w m A)(s:Y)(B:TypeId):∃h,(Builtin.delete_ #[mt,l] B #[.map<|M m,aq s]).run P w=.ok (dE #[]) h/\jJ h m (A.del s)/\w.grownBy h (M m)/\G (H h)=G (H w):=by
 obtain⟨d,b,f,p,q⟩:=D;have e:=jv (P:=P) f;rcases Fg s d.toList A 0 p with⟨i,j,u,n,v⟩|⟨y,C,i,j,u,n,v,x⟩;refine⟨setBlock w m<|.map d b,?_,?_,iW _ _ _,by simp[setBlock]⟩;simp[Builtin.delete_,eH r,e,eS g (show MapKept.IsKey (.int .i64) (aq s)by rfl),eN g i,fI _ f,Result.andThen,setBlock];rw[n];exact⟨_,_,(fQ f).1,p,q⟩;(have E:d[y]?=M C:=by simpa using j);(have k:y<d.size:=by have:=fF.1 j;simpa using this.1);refine⟨setBlock w m<|.map (d.eraseIdxIfInBounds y) b,?_,?_,iW _ _ _,by simp[setBlock]⟩;simp[Builtin.delete_,eH r,e,eS g (show MapKept.IsKey (.int .i64) (aq s)by rfl),eN g i,fI _ f,Result.andThen,setBlock];refine⟨_,_,(fQ f).1,?_,wK q _⟩;simp only[Array.eraseIdxIfInBounds,k,oU,wP];exact x
theorem jJ.kept{w h:I}{i:R}{n:fP}{d:Option R}(p:jJ w i n)(l:w.grownBy h d)(e:M i≠d):jJ h i n:=by
 obtain⟨j,b,g,k,m⟩:=p;exact⟨j,b,(l.block i (am g) e).trans g,k,m⟩
theorem jJ.alloc{w:I}{b:R}{m:fP}(h:jJ w b m)(o:Obj):jJ (cF w o) b m:=h.kept (dA w o none)<|by simp
theorem jJ.lt{w:I}{b:R}{m:fP}(h:jJ w b m):b<G (H w):=by
 obtain⟨_,_,d,_⟩:=h;exact am d
section
variable{P:Program}(w:I){c:Array Oper}{rest:cD Oper}{o:Oper}{a:Act}{Q:Exit->Act->I->Prop}
theorem Dz(k:o.guard=none)(h x:Operand)(u q:TypeId)(g:o.op=Op.call {callee:=Callee.builtin Builtin.delete,args:=#[h,x],argTypes:=#[u,q]})(y:TypeId)(n:P.underlying u=M (.map q y))(l:P.underlying q=M (.int .i64))(i:R)(t:fP)(m:a.eval h=.map (M i))(A:jJ w i t)(b:Y)(p:a.eval x=aq b)(j:∀e,jJ e i (t.del b)->w.grownBy e (M i)->wpList P c Q rest (a.put o.dst<|dE #[]) e):wpList P c Q (o::rest) a w:=by
 refine kX k λv f=>?_;obtain⟨e,d,r,s,_⟩:=KQ n l A b o.type;unfold Oper.wp;simp[execOp,g,resolve,invoke,builtin,m,p,d,Result.andThen];exact f _ _<|j e r s
end
def qI(w:I)(g r:R)(m left:fP):Prop:=∃e d b seen f,w.heap[g]?=M (.map e d)/\jO e.toList m/\MapKept.Stamped e d/\w.heap[r]?=M (.mapIter (M g) b seen f)/\(∀x∈e.toList,x.born<b)/\b<=f/\b<=d/\jO (leftOf e seen).toList left
theorem qI.ne{w:I}{g r:R}{m left:fP}(j:qI w g r m left):r≠g:=by
 obtain⟨i,b,_,_,_,e,_,_,d,_⟩:=j;intro h;rw[h,e]at d;cases d
theorem qI.lt{w:I}{b r:R}{m left:fP}(h:qI w b r m left):r<G (H w):=by
 obtain⟨g,d,_,_,_,_,_,_,e,_⟩:=h;exact am e
theorem qI.kept{w e:I}{g r:R}{s left:fP}(t:qI w g r s left)(p:e.heap[g]?=w.heap[g]?)(q:e.heap[r]?=w.heap[r]?):qI e g r s left:=by
 obtain⟨i,b,d,seen,h,j,k,l,m,n⟩:=t;exact⟨i,b,d,seen,h,p.trans j,k,l,q.trans m,n⟩
theorem jO.split{e:cD MapEntry}{n:fP}{d b:cD MapEntry}{h:MapEntry}(i:jO e n)(m:e=d++h::b):∃a p g,n=a++p::g/\jO d a/\h.key=aq p.1/\h.val=p.2/\jO b g:=by
 subst m;unfold jO at i;rw[aQ,aZ]at i;obtain⟨a,q,rfl,j,k⟩:=iF.1 i.symm;obtain⟨p,g,rfl,f,l⟩:=nI.1 k;exact⟨a,p,g,rfl,j.symm,(bW Prod.fst f).symm,(bW Prod.snd f).symm,l.symm⟩
theorem jO.append{b d:cD MapEntry}{m n:fP}(h:jO b m)(k:jO d n):jO (b++d) (m++n):=by
 unfold jO at*;rw[aQ,aQ,h,k]
theorem NI{P:Program}{w:I}{mt k h g:R}{m:fP}(l:P.underlying mt=M (.map k h))(n:jJ w g m):∃e,(Instr.range mt<|.map<|M g).run P w=.ok (aA<|G<|H w) e/\qI e g (G<|H w) m m/\w.grownBy e none/\G (H e)=G (H w)+1:=by
 obtain⟨d,b,f,i,j⟩:=n;refine⟨_,run_range_map w mt k h g d b l f,⟨d,b,b,#[],b,((oW w _).2 g<|am f).trans f,i,j,(oW w _).1,j.1,ai _,ai _,?_⟩,dA w _ none,by simp⟩;have:leftOf d #[]=d:=by simp[leftOf]
 rw[this];exact i
theorem Ra{P:Program}{w:I}{v r:R}{ad left:fP}(ac:qI w v r ad left)(L:TypeId):(left=[]/\(Instr.next (aA r) bF L).run P w=.ok (dE #[aO bF]) w)\/∃m K g p,left=m++K::g/\(Instr.next (aA r) bF L).run P w=.ok (dE #[aO bX,aq K.1,K.2]) p/\qI p v r ad (m++g)/\w.grownBy p (M r)/\G (H p)=G (H w)/\(Instr.entry<|aA r).run P p=.ok (dE #[aq K.1,K.2]) p:=by
 have C:=ac.ne;obtain⟨l,b,d,seen,N,O,hf,D,T,k,E,t,B⟩:=ac;rcases run_next_at (P:=P) w L r v d N seen l b T O k E with⟨W,f⟩|⟨x,S,y,h,f⟩;refine .inl ⟨?_,f⟩;(have:(leftOf l seen).toList=[]:=by simpa using qW W);rw[this]at B;simpa[jO]using B;obtain⟨m,g,u⟩:=sS S;obtain⟨a,K,al,rfl,X,n,V,hc⟩:=B.split u;(have i:y.heap=w.heap:=by rcases h with rfl|rfl<;>rfl);(have s:y.heap[r]?=M (.mapIter (M v) d seen N):=by rw[i];exact T);have j:(setBlock y r<|.mapIter (M v) d (seen.push x.born) b).heap[r]?=M (.mapIter (M v) d (seen.push x.born) b):=(fQ s).1;have e:∀F,F≠r->(setBlock y r<|.mapIter (M v) d (seen.push x.born) b).heap[F]?=w.heap[F]?:=λF n=>((fQ s).2 F n).trans (by rw[i]);have q:=(e v<|λx=>C x.symm).trans O;(have A:x∈l.toList:=by(have:(leftOf l seen).toList.Sublist l.toList:=by simp[leftOf]);exact this.subset S);refine .inr ⟨a,K,al,_,rfl,by rw[<-n,<-V];exact f,⟨l,b,d,_,b,q,hf,D,j,k,t,t,by rw[Hn D.2.1 u];exact X.append hc⟩,⟨?_,?_,?_,?_,λF _ n=>e F<|λx=>n<|by rw[x]⟩,?_,?_⟩;rcases h with rfl|rfl<;>rfl;rcases h with rfl|rfl<;>rfl;rcases h with rfl|rfl<;>rfl;simp[setBlock,i];simp[setBlock,i];rw[<-n,<-V];exact run_entry_at _ r v d seen l b x j q A D.2.1
section
variable{P:Program}(w:I){c:Array Oper}{rest:cD Oper}{o:Oper}{a:Act}{Q:Exit->Act->I->Prop}
end
theorem Ws{P:Program}{w:I}{mt l i n:R}{m:fP}{v:TypeInfo}{d:aa}(t:P.underlying mt=M (.map l i))(j:P.underlying l=M (.int .i64))(r:P.info? i=M v)(u:v.zero=M d)(x:jJ w n m)(k:Y):(Instr.lookup mt (.map<|M n) (aq k) bX).run P w=.ok (dE #[(m.get k).getD d,aO (m.get k).isSome]) w:=by
 obtain⟨e,b,q,p,_⟩:=x;obtain⟨y,s⟩:=Gl k e.toList m 0 p;have f:=eS (P:=P) (w:=w) (k:=aq k) j (by rfl) e.isEmpty 9999;have g:=eN (P:=P) (w:=w) j s;have h:(getObj n).run P w=.ok (.map e b) w:=by simp[getObj,Sem.run,q]
 unfold Instr.lookup;rw[kj,eH t];simp only[jt,kj,h,pZ];rw[show(10000:R)=9999+1 from rfl,f];simp only[jt,g];cases hg:m.get k with
 |none=>simp[zeroValue,typeInfo,r,u]
 |some A=>simp
theorem jO.length{b:cD MapEntry}{m:fP}(h:jO b m):z b=z m:=by
 have:=bW z h;simpa using this
theorem KO{P:Program}{w:I}{mt j f l:R}{m:fP}(i:P.underlying mt=M (.map j f))(p:jJ w l m)(k:TypeId):(Builtin.len_ #[mt] k #[.map<|M l]).run P w=.ok (aq<|z m) w:=by
 obtain⟨n,b,h,g,_⟩:=p;have d:=jv (P:=P) h;have e:=g.length;rw[iL]at e;simp[Builtin.len_,eH i,d,goInt,Result.andThen,e]
theorem jJ.new(w:I):jJ (cF w<|.map #[] 0) (G<|H w) []:=by
 refine⟨#[],0,?_,jO.nil,wL 0⟩;show(w.heap.push _)[G<|H w]?=_;simp
theorem jJ.dq{w w':I}{b:R}{m:fP}(i:jJ w b m)(h:w'.heap[b]?=w.heap[b]?):jJ w' b m:=by
 obtain⟨e,d,f,g⟩:=i;exact⟨e,d,h.trans f,g⟩
end
section
open Go.ChangeMaps (setBlock)
def lJ(w:I)(f:R)(g:TypeDesc)(e:aa->Prop):Prop:=∃d b,w.heap[f]?=M (.map d b)/\MapKept.Stamped d b/\(∀x∈d.toList,MapKept.IsKey g x.key)/\(∀x∈d.toList,x.val=eB #[])/\∀k,e k↔∃x∈d.toList,x.key=k
theorem lJ.lt{w:I}{b:R}{g:TypeDesc}{e:aa->Prop}(h:lJ w b g e):b<G (H w):=by
 obtain⟨_,_,d,_⟩:=h;exact am d
theorem lJ.dq{w w':I}{b:R}{i:TypeDesc}{e:aa->Prop}(k:lJ w b i e)(j:w'.heap[b]?=w.heap[b]?):lJ w' b i e:=by
 obtain⟨f,d,g,h⟩:=k;exact⟨f,d,j.trans g,h⟩
theorem lJ.new(w:I)(d:TypeDesc):lJ (cF w<|.map #[] 0) (G<|H w) d az:=by
 refine⟨#[],0,?_,⟨by simp,by simp,by simp⟩,by simp,by simp,by simp⟩;show(w.heap.push _)[G<|H w]?=_;simp
theorem lJ.congr{w:I}{m:R}{n:TypeDesc}{e d:aa->Prop}(q:lJ w m n e)(p:∀k,d k↔e k):lJ w m n d:=by
 obtain⟨f,b,g,h,i,j,l⟩:=q;exact⟨f,b,g,h,i,j,λk=>(p k).trans<|l k⟩
theorem Bq{P:Program}{w:I}{mt t p v:R}{x:TypeDesc}{s:aa->Prop}{L:TypeInfo}(D:P.underlying mt=M (.map t p))(l:P.underlying t=M x)(C:P.info? p=M L)(K:L.zero=M (eB #[]))(N:lJ w v x s)(n:aa)(f:MapKept.IsKey x n)(u:Bool)(r:u=bX↔s n):(Instr.lookup mt (.map<|M v) n bX).run P w=.ok (dE #[eB #[],aO u]) w:=by
 obtain⟨g,d,B,O,m,E,q⟩:=N;have j:=eS (P:=P) (w:=w) (k:=n) l f g.isEmpty 9999;have k:(getObj v).run P w=.ok (.map g d) w:=by simp[getObj,Sem.run,B]
 unfold Instr.lookup;rw[kj,eH D];simp only[jt,kj,k,pZ];rw[show(10000:R)=9999+1 from rfl,j];simp only[jt];rcases MapKept.findNow_spec f g.toList 0 m with⟨h,i⟩|⟨T,y,h,i,A⟩
 .have e:=eN (P:=P) (w:=w) l h;have:u=bF:=by
   cases u with
   |false=>rfl
   |true=>
    obtain⟨S,F,b⟩:=(q n).1<|r.1 rfl;exact absurd b<|i S F
  simp[e,zeroValue,typeInfo,C,K,this]
 have e:=eN (P:=P) (w:=w) l h;have b:y∈g.toList:=gz i;have:u=bX:=r.2<|(q n).2 ⟨y,b,A⟩;simp[e,this,E y b]
theorem zx{P:Program}{w:I}{mt V X E:R}{W:TypeDesc}{T:aa->Prop}(O:P.underlying mt=M (.map V X))(u:P.underlying V=M W)(ac:lJ w E W T)(A:aa)(j:MapKept.IsKey W A):∃y,(Instr.mapUpdate mt (.map<|M E) A<|eB #[]).run P w=.ok () y/\lJ y E W (λx=>T x\/x=A)/\w.grownBy y (M E)/\G (H y)=G (H w):=by
 obtain⟨i,g,q,N,n,S,v⟩:=ac;have p:=jv (P:=P) q;rcases MapKept.findNow_spec j i.toList 0 n with⟨B,t⟩|⟨K,e,B,t,D⟩;refine⟨setBlock w E<|.map (i.push {key:=A,val:=eB #[],born:=g})<|g+1,?_,?_,iW _ _ _,by simp[setBlock]⟩;simp[Instr.mapUpdate,eH O,p,eS u j,eN u B,fI _ q,Result.andThen,setBlock];refine⟨_,_,(fQ q).1,rF N t,?_,?_,?_⟩;intro x h;simp only[tX,ap,bI]at h;rcases h with h|rfl;exact n x h;exact j;intro x h;simp only[tX,ap,bI]at h;rcases h with h|rfl;exact S x h;rfl;intro x;simp only[tX,ap,bI];constructor;rintro(F|rfl);obtain⟨b,s,e⟩:=(v x).1 F;exact⟨b,.inl s,e⟩;exact⟨_,.inr rfl,rfl⟩;rintro⟨b,s|rfl,e⟩;exact .inl<|(v x).2 ⟨b,s,e⟩;exact .inr e.symm
 .have L:i[K]?=M e:=by simpa using t
  have r:e∈i.toList:=gz t;refine⟨setBlock w E<|.map (i.modify K λe=>{e with key:=A,val:=eB #[]}) g,?_,?_,iW _ _ _,by simp[setBlock]⟩
  .simp[Instr.mapUpdate,eH O,p,eS u j,eN u B,L,D,oI j,fI _ q,Result.andThen,setBlock]
  .have m:∀k,i[K]?=M k->k.key=A:=λk d=>by rw[L]at d;cases d;exact D
   refine⟨_,_,(fQ q).1,qc N _ _ (λ_ _=>rfl)<|λk _ d=>(m k d).symm,MapKept.isKey_modify n _ _<|λk d=>(m k d).symm,?_,?_⟩
   .intro x h;rw[Array.toList_modify]at h;obtain⟨C,l⟩:=List.getElem?_of_mem h;rw[List.getElem?_modify]at l;cases hc:i.toList[C]? with
    |none=>rw[hc]at l;cases l
    |some b=>
     rw[hc]at l;have s:=S b<|gz hc;by_cases F:K=C
     .simp[F]at l;rw[<-l]
     .simp[F]at l;rw[<-l];exact s
   .intro x;have l:((i.modify K λe=>{e with key:=A,val:=eB #[]}).toList.map (·.key))=i.toList.map (·.key):=MapKept.modify_keys _ _<|λk d=>(m k d).symm;have C:(∃b∈(i.modify K λe=>{e with key:=A,val:=eB #[]}).toList,b.key=x)↔∃b∈i.toList,b.key=x:=by
     rw[<-bz (f:=λb:MapEntry=>b.key),<-bz (f:=λb:MapEntry=>b.key),l]
    rw[C,<-v x];constructor
    .rintro(F|rfl)
     .exact F
     .exact(v _).2 ⟨e,r,D⟩
    .exact .inl
section
variable{P:Program}(w:I){c:Array Oper}{rest:cD Oper}{o:Oper}{a:Act}{Q:Exit->Act->I->Prop}
theorem uy(n:o.guard=none)(i x j:Operand)(A:TypeId)(g:o.op=Op.mapUpdate A i x j)(y C:TypeId)(r:P.underlying A=M (.map y C))(l:TypeDesc)(p:P.underlying y=M l)(k:R)(h:aa->Prop)(q:a.eval i=.map (M k))(D:lJ w k l h)(b:aa)(f:MapKept.IsKey l b)(t:a.eval x=b)(s:a.eval j=eB #[])(m:∀w',lJ w' k l (λx=>h x\/x=b)->w.grownBy w' (M k)->wpList P c Q rest (a.put o.dst iE) w'):wpList P c Q (o::rest) a w:=by
 refine kX n λB e=>?_;obtain⟨w',d,u,v,_⟩:=zx r p D b f;unfold Oper.wp;simp[execOp,g,q,t,s,d,Result.andThen];exact e _ _<|m w' u v
end
end
