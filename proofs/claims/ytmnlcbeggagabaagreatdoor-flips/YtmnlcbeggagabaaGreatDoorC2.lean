import Derived.Deep.RegionWith
import Derived.Laws.BitsLemmas
import Derived.Laws.IdiomStrings
import Derived.Lib.BufferRead
import Derived.Lib.EndianBits
import Derived.OpenShut
import Derived.Test.YtmnlcbeggagabaaGreatDoorChecked
import Derived.Test.YtmnlcbeggagabaaGreatDoorC0
open _root_ renaming List.length→y,Option.some→H,Array.size→z,Go.World.heap→G,Go.Value.ownBlock→cz,Go.World.cell?→aS,Go.World.setCell→cA,Go.World.alloc→cG,Bool.false→bj,Bool.true→ci,Nat→M,Int→U,Go.Calls→cD,Go.Proofs.Tryz.prog→aZ,Go.Value.slice→J,Go.Value.string→am,Go.Value.bool→aK
namespace Go.Proofs.YtmnlcbeggagabaaGreatDoor
open ChangeShapes WideShapes RowKit Proofs.Tryz List
set_option maxHeartbeats 16000000
set_option linter.all false
set_option maxRecDepth 100000
variable{a f:Z}{b c g:M}{d u:ab}{k D S:U}{n V:dN}{A:iF}{K:Bool}
def pL:(prog.info? 5).map (λi=>(i.zero,i.size,i.bytes))=H (H<|qV 0,1,1):=by kernel_rfl
def eE(w:Z)(a:M)(v:ab)(b:dN):Prop:=w.ownsRow a 5 1 v (y b)<|b.map<|Value.int .u8
def eE.of(h:a.ownsRow b 5 1 d c A)(e:c=y n)(f:A=n.map (Value.int .u8)):eE a b d n:=by
 subst e;subst f;exact h
def eE.nil(w:Z)(a:M):eE w a aw []:=cO w a _ 1
def eE.alloc{w:Z}(h:eE w b d n)(o:Obj):eE (cG w o) b d n:=aX h o
def le:M->U->dN
 |0,_=>[]
 |k+1,n=>n%256::le k (n/256)
theorem bU(k:M):∀n,y (le k n)=k:=by
 induction k with
 |zero=>intro n;rfl
 |succ k a=>intro n;simp[le,a]
def kM(s:ae):dN:=s.data.toList.map λb=>(b.toNat:U)
def strCells_eq(s:ae):Lib.strCells s=(kM s).map (Value.int .u8):=by simp[Lib.strCells,kM]
theorem gY(s:ae):y (kM s)=s.size:=by simp[kM]
def tD(a:M)(v:ab)(f:dN)(o:U)(w:Z)(d:eE w a v f)(q:a<=z (G w))(r:y f<=70368744177664):cD aZ 189 #[v,qV o] w λp l=>∃e,p=aJ e/\eE l a e (f++[o])/\eC w l v e:=by
 obtain⟨n,m,g,i,j⟩:=cU pL;go_in
 go_wp2_with(first
  |(at_builtin;refine ct _ rfl _ _ 75 rfl a 5 n (.int .u8 0) 1 1 underlying75 m g i j rfl (by decide) _ _ _ rfl (d.alloc _) (R (z (G w)) 0) 1 1 [.int .u8 o] rfl rfl (pq _ _ _) ?c2 ?c3 ?c4 ?c5 ?_))
 case c2=>intro u k;simp at k;subst k;rfl
 case c3=>omega
 case c4=>omega
 case c5=>simp;omega
 intro e s c b;go_wp2;go_ret;exact⟨e,rfl,eE.of c (by simp) (by simp),b.alloc _⟩
def RE(w:Z)(a:iF)(t:TypeId):∀j u,a[j]?=H u->aS (cG w<|ay a.toArray t) (((R (z<|G w) 0):Addr).add j)=H u:=by
 intro j u b;rw[dt];simp_all
def jq{baseqq:M}{v:ab}{bs:dN}(n:U){w:Z}(c:eE w baseqq v bs)(q:baseqq<=z (G w))(r:y bs<=70368744177664)(o:0<=n)(p:n<4294967296):cD aZ 191 #[v,dh n] w λk j=>∃d,k=aJ d/\eE j baseqq d (bs++le 4 n)/\eC w j v d:=by
 obtain⟨m,l,e,f,g⟩:=cU pL;go_in
 go_wp2_with(first
  |(at_builtin;refine ct _ rfl _ _ 75 rfl baseqq 5 m (.int .u8 0) 1 1 underlying75 l e f g rfl (by decide) _ _ _ rfl (c.alloc _) (R (z (G w)) 0) 4 4 ((le 4 n).map (Value.int .u8)) rfl rfl ?c1 ?c2 ?c3 ?c4 ?c5 ?_))
 (case c1=>(have k:(#[Value.int IntKind.u8<|n%256,Value.int IntKind.u8<|n/256%256,Value.int IntKind.u8<|n/65536%256,Value.int IntKind.u8<|n/16777216]:Array ab)=((le 4 n).map<|Value.int .u8).toArray:=by simp[le];omega);rw[k];exact RE _ _ _);case c2=>intro u i;simp[le]at i;rcases i with rfl|rfl|rfl|rfl<;>rfl
 case c3=>omega
 case c4=>omega
 case c5=>simp;omega
 intro d s b a;go_wp2;go_ret;exact⟨d,rfl,eE.of b (by simp[le]) (by simp),a.alloc _⟩
def oU(a:M)(v:ab)(g:dN)(s:ae)(w:Z)(d:eE w a v g)(n:a<=z (G w))(p:y g<=70368744177664)(t:s.size<=255):cD aZ 230 #[v,am s] w λr m=>∃f,r=aJ f/\eE m a f (g++(s.size:U)::kM s)/\eC w m v f:=by
 obtain⟨q,o,j,k,l⟩:=cU pL;go_in
 go_wp2_with fail
 apply(tD a v g s.size w d n p).mono;rintro r x⟨u,rfl,i,e⟩
 go_wp2_with(first
  |(at_builtin;refine su _ rfl _ _ 75 9 rfl a 5 q underlying75 underlying9 o j k l _ _ _ rfl i s rfl ?c1 ?c2 ?_))
 case c1=>simp;omega
 case c2=>have:=e.grown.size;omega
 intro f A c b;go_wp2;go_ret;exact⟨f,rfl,eE.of c (by simp[gY];omega) (by simp[strCells_eq]),e.trans b⟩
def GM(a b:U):0<=bits .xor .u32 a b:=(bounds_u32<|wf_bits .xor .u32 a b).1
def GN(a b:U):bits .xor .u32 a b<4294967296:=by have:=(bounds_u32<|wf_bits .xor .u32 a b).2;omega
def Xo(x:U)(a:0<=x)(b:x<4294967296):bits .and .u32 x 15=x%16:=by
 have:=bits_mask .u32 32 (by decide) wraps_u32 4 (by decide) x a (by omega);grind
def Lv(k:M):U:=([0,498536548,997073096,651767980,1994146192,1802195444,1303535960,1342533948,3988292384,4027552580,3604390888,3412177804,2607071920,2262029012,2685067896,3183342108]:dN).getD k 0
def Steps(w:Z):Prop:=∀k,k<16->aS w (R 1 k)=H (dh<|Lv k)
def Steps.below{B:M}(h:Steps a)(c:Below B a f)(b:1<B):Steps f:=λk d=>(c.cell<|by exact b).trans<|h k d
def Ar(c:U):U:=bits .xor .u32 (c/16)<|Lv (c%16).toNat
def nT(a x:U):U:=Ar<|Ar<|bits .xor .u32 a<|x%4294967296
def xu(a:dN):U:=a.foldl nT 4294967295
def kO(a:dN):U:=bits .xor .u32 IntKind.u32.max<|xu a
def NU(a x:U):0<=nT a x:=GM _ _
def NV(a x:U):nT a x<4294967296:=GN _ _
def Lu(a:dN):0<=xu a/\xu a<4294967296:=by
 unfold xu;rcases vR a with rfl|⟨l,x,rfl⟩;simp;rw[List.concat_eq_append,fK];exact⟨NU _ _,NV _ _⟩
def vD(a:dN):0<=kO a:=GM _ _
def xq(a:dN):kO a<4294967296:=GN _ _
def NS(a:dN)(k:M)(h:k<y a):xu (a.take<|k+1)=nT (xu<|a.take k) a[k]:=by
 unfold xu;rw[aj h,fK];rfl
theorem UY(q c:M)(b:dN)(g:M)(i:Steps a)(m:∀k,k<y b->aS a (R q<|c+k)=H (qV<|b[k]?.getD 0))(f:y b<=140737488351232):cD aZ 153 #[aY q c (y b) g] a λr o=>r=aJ (dh<|kO b)/\o=a:=by
 have u:=GM;have v:=GN;have j:=Xo;have l:∀x:U,aS a (R 1<|(x%16).toNat)=H (dh<|Lv (x%16).toNat):=λx=>i _ (by omega);clear i;go_in
 go_wp2;go_loop [3,8,5] (λa i x=>∃(k:M),k<=y b/\i=aq k/\a=dh (xu<|b.take k)) (λ_ i _=>y b-(intOf i).toNat)
 case atStart=>exact⟨0,bG _,rfl,rfl⟩
 (case round=>obtain⟨k,s,rfl,rfl⟩:=hrel;have t:=Lu<|b.take k;by_cases e:k<y b;(.have n:=m k e;have d:Hid (xu (b.take<|k+1)=nT (xu<|b.take k) b[k]):=NS b k e;generalize xu (b.take k)=p at*;go_wp2;(go_round);(case rel=>exact⟨k+1,by omega,by go_num,by rw[d.out];rfl⟩);case measure=>simp[intOf];omega);go_wp2;go_ret;have d:b.take k=b:=dp (by omega);rw[d];exact⟨rfl,rfl⟩)
def Bytes(w:Z)(v:ab)(b:dN):Prop:=(v=aw/\b=[])\/∃d a c,v=aY d a (y b) c/\y b<=c/\∀k,k<y b->aS w (R d<|a+k)=H (qV<|b[k]?.getD 0)
theorem eE.bytes(i:eE a b d n):Bytes a d n:=by
 unfold eE at i;rcases i.2 with⟨rfl,j⟩|⟨h,c,g,rfl,_,_,e,_⟩;exact .inl ⟨rfl,aP j⟩;refine .inr ⟨h,0,c,rfl,e,λl k=>?_⟩;have:=i.cells (g:=h) rfl l (qV<|n[l]?.getD 0) (by simp[k]);grind[Addr.add_lit]
def Bytes.below{B:M}(j:Bytes a d n)(h:Below B a f)(g:∀k,cz d=H k->k<B):Bytes f d n:=by
 rcases j with⟨rfl,rfl⟩|⟨l,b,c,rfl,e,i⟩;exact .inl ⟨rfl,rfl⟩;exact .inr ⟨l,b,c,rfl,e,λk j=>(h.cell<|by exact g l rfl).trans<|i k j⟩
def sum_nil(w:Z):cD aZ 153 #[aw] w λe a=>e=aJ (dh<|kO [])/\a=w:=by
 go_in
 go_wp2;go_loop [3,8,5] (λc i x=>i=aq 0/\c=dh 4294967295) (λ_ _ _=>0)
 case atStart=>grind
 (case round=>obtain⟨rfl,rfl⟩:=hrel;go_wp2;go_ret;exact⟨rfl,rfl⟩)
def qt(v:ab)(b:dN)(w:Z)(h:Steps w)(e:Bytes w v b)(a:y b<=140737488351232):cD aZ 153 #[v] w λg f=>g=aJ (dh<|kO b)/\f=w:=by
 rcases e with⟨rfl,rfl⟩|⟨j,c,d,rfl,_,i⟩;exact sum_nil w;grind[UY]
def YR(n:U):le 4 (n%4294967296)++le 4 (n/4294967296)=le 8 n:=by
 simp[le];omega
def oV{baseqq:M}{v:ab}{bs:dN}(n:U){w:Z}(b:eE w baseqq v bs)(k:baseqq<=z (G w))(p:y bs<=35184372088832)(m:0<=n)(o:n<18446744073709551616):cD aZ 188 #[v,aE n] w λj g=>∃f,j=aJ f/\eE g baseqq f (bs++le 8 n)/\eC w g v f:=by
 have i:Hid (le 4 (n%4294967296)++le 4 (n/4294967296)=le 8 n):=YR n;go_in
 go_wp2_with fail
 apply(jq (n%4294967296) b k (by omega) (by omega)<|by omega).mono;rintro j r⟨q,rfl,d,c⟩;go_wp2_with fail
 refine(jq (n/4294967296) d (by have:=c.grown.size;omega) (by simp[bU];omega) (by omega)<|by omega).mono ?_;rintro j s⟨l,rfl,a,e⟩;go_wp2;go_ret;refine⟨l,rfl,?_,c.trans e⟩;rw[bz,i.out]at a;exact a
def Dl(j:Steps a)(c:eE a b d n)(k:b<=z (G a))(o:y n<=35184372088832):cD aZ 192 #[d] a λi f=>∃e,i=aJ e/\eE f b e (n++le 4 (kO n))/\eC a f d e:=by
 have g:=vD n;have c1:=xq n;go_in
 go_wp2_with fail
 apply(qt d n a j c.bytes<|by omega).mono;rintro i q⟨rfl,rfl⟩;go_wp2_with fail
 apply(jq (kO n) c k (by omega) g c1).mono;rintro i r⟨p,rfl,l,m⟩;go_wp2;go_ret;simp_all
def Dk(n:U)(w:Z)(b:0<=n)(c:n<=140737488351232):cD aZ 218 #[aq n] w λe a=>e=aJ (aq<|n+4)/\a=w:=by
 go_in
 go_wp2;go_ret;simp_all
def Rd(w:Z)(c:M)(b:dN)(a:Bool):Prop:=∃v,w.heap[c]?=H (ay #[v,aK a] 328 (0,0))/\Bytes w v b/\∀k,cz v=H k->k<c
def Bytes.grown{c:Option M}(i:Bytes a d n)(k:a.grownBy f c)(h:cz d≠c\/cz d=none):Bytes f d n:=by
 rcases i with⟨rfl,rfl⟩|⟨m,b,e,rfl,g,j⟩;exact .inl ⟨rfl,rfl⟩;refine .inr ⟨m,b,e,rfl,g,λo l=>k.cell (j o l) ?_⟩;rcases h with i|i;exact i;simp[cz]at i
def Bytes.alloc{w:Z}(l:Bytes w d n)(o:Obj):Bytes (cG w o) d n:=by
 rcases l with⟨rfl,rfl⟩|⟨g,a,b,rfl,c,i⟩;exact .inl ⟨rfl,rfl⟩;refine .inr ⟨g,a,b,rfl,c,λm j=>?_⟩;have e:=i m j;(have k:g<z (G w):=by by_cases h:g<z (G w);exact h;have:w.heap[g]?=none:=kD (by omega);simp[World.cell?,this]at e);rw[<-e];grind[World.cell?_of_block,Below.heap_alloc]
def Bytes.take{f b c n:M}{bs:dN}(h:Bytes a (aY f b (y bs) c) bs)(m:n<=y bs):Bytes a (aY f b n c) (bs.take n):=by
 rcases h with⟨h,_⟩|⟨j,e,d,h,i,g⟩;cases h;cases h;(have k:y (bs.take n)=n:=by simp;omega);refine .inr ⟨f,b,c,by rw[k],by omega,λo l=>?_⟩;rw[g o (by omega),ol<|by omega]
def Bytes.Bq{f b c n:M}(h:Bytes a (aY f b (y V) c) V)(l:n<=y V):Bytes a (aY f (b+n) (y V-n)<|c-n) (V.drop n):=by
 rcases h with⟨h,_⟩|⟨i,e,d,h,g,j⟩;cases h;cases h;refine .inr ⟨f,b+n,c-n,by simp,by simp;omega,λm k=>?_⟩;grind
def Bytes.lt{bs:dN}(n:Bytes a d bs)(l:bs≠[]):∀m,cz d=H m->m<z (G a):=by
 rcases n with⟨rfl,rfl⟩|⟨b,c,g,rfl,k,j⟩;grind
 intro m e;simp[cz]at e;subst e;have h:=j 0 (by cases bs<;>simp_all);by_cases i:b<z (G a);exact i;have:a.heap[b]?=none:=kD (by omega);simp[World.cell?,this]at h
def Qb{a:Addr}(h:cz (J (H a) b c)=H g):a.block=g:=by simpa[cz]using h
def mO(f:Bytes a d n)(c:∀k,cz d=H k->k<z (G a)):cD aZ 143 #[d] a λj b=>j=aJ (aA<|z<|G a)/\Rd b (z<|G a) n bj/\b=cG a (ay #[d,aK bj] 328):=by
 have fin:∀b,b=cG a (ay #[d,aK bj] 328)->Rd b (z<|G a) n bj:=by rintro b rfl;exact⟨d,jb _ _,f.alloc _,c⟩
 have F:Hid (∀b,b=cG a (ay #[d,aK bj] 328)->Rd b (z<|G a) n bj):=fin;clear fin;rcases f with⟨rfl,rfl⟩|⟨m,e,g,rfl,i,l⟩;(.clear c;(go_in);go_wp2;go_ret;exact⟨rfl,F.out _ rfl,rfl⟩);clear c;(go_in);go_wp2;go_ret;exact⟨rfl,F.out _ rfl,rfl⟩
def jv(a:dN)(b:Bool)(n:M):dN×Bool×dN:=if b=ci\/y a<n then(a,ci,[])else(a.drop n,bj,a.take n)
def Rd.short(f:a.heap[b]?=H (ay #[d,aK K] 328 (0,0)))(e:Bytes a d n)(c:∀k,cz d=H k->k<b):Rd (cA a (R b 1)<|aK ci) b n ci:=⟨d,by rw[aL f];rfl,e.grown (du a b 1 _)<|.inl<|λg=>kF _<|c _ g,c⟩
def Rd.Tc(f:a.heap[b]?=H (ay #[d,aK K] 328 (0,0)))(e:Bytes a u n)(c:∀k,cz u=H k->k<b):Rd (cA a (R b 0) u) b n K:=⟨u,by rw[aL f];rfl,e.grown (du a b 0 _)<|.inl<|λg=>kF _<|c _ g,c⟩
def Jp(g:M)(h:Rd a b n K)(X:y n<=140737488351232)(W:g<=1000000):cD aZ 238 #[aA b,aq g] a λp D=>∃C,p=aJ C/\Rd D b (jv n K g).1 (jv n K g).2.1/\Bytes D C (jv n K g).2.2/\cz C≠H b/\a.grownBy D (H b):=by
 obtain⟨T,l,v,r⟩:=h;have HB:Hid (Bytes a T n):=v;have N:=cellAt l 0 rfl;have O:=cellAt l 1 rfl;have P:=cZ (i:=0) l;have Q:=cZ (i:=1) l;have u:Hid (a.heap[b]?=H (ay #[T,aK K] 328 (0,0))):=l;have j:Hid (∀S,cz T=H S->S<b):=r;clear l r;by_cases e:K=ci\/y n<g
 .have f:Hid (jv n K g=(n,ci,[])):=by unfold Hid jv;rw[dV e]
  have fin:Rd (cA a (R b 1)<|aK ci) b n ci/\a.grownBy (cA a (R b 1)<|aK ci) (H b):=⟨Rd.short u.out HB.out j.out,du _ _ _ _⟩;have F:Hid (Rd (cA a (R b 1)<|aK ci) b n ci/\a.grownBy (cA a (R b 1)<|aK ci) (H b)):=fin;clear fin;have t:Bytes (cA a (R b 1)<|aK ci) aw []:=.inl ⟨rfl,rfl⟩;have k:Hid (Bytes (cA a (R b 1)<|aK ci) aw []):=t;clear t;cases K with
  |true=>
   clear e v;go_in
   go_wp2;go_ret;exact⟨_,rfl,by rw[f.out];exact F.out.1,by rw[f.out];exact k.out,by simp[cz],F.out.2⟩
  |false=>
   have q:y n<g:=by simpa using e
   clear e;rcases v with⟨rfl,rfl⟩|⟨E,c,d,rfl,B,L⟩;all_goals
    go_in
    go_wp2;go_ret;exact⟨_,rfl,by rw[f.out];exact F.out.1,by rw[f.out];exact k.out,by simp[cz],F.out.2⟩
 (have f:Hid (jv n K g=(n.drop g,bj,n.take g)):=by unfold Hid jv;rw[eI e]);obtain⟨F,q⟩:=not_or.1 e;(obtain rfl:K=bj:=by simpa using F);clear e F;rcases v with⟨rfl,rfl⟩|⟨E,c,d,rfl,B,L⟩;(·(obtain rfl:g=0:=by simpa using q);have t:Bytes a aw []:=.inl ⟨rfl,rfl⟩;have k:=Rd.Tc u.out t j.out;have o:=Y k;clear k t;(go_in);go_wp2;go_ret;exact⟨_,rfl,by rw[f.out];exact o,by rw[f.out];exact .inl ⟨rfl,rfl⟩,λp=>kF _<|j.out _ p,du _ _ _ _⟩);by_cases A:d=g;(.subst A;(have w:n.drop d=[]:=by simp;omega);(have V:y n=d:=by omega);have m:Bytes a (aY E c 0 0) (n.drop d):=.inr ⟨E,c,0,by rw[w];rfl,by rw[w];simp,λS b=>by rw[w]at b;simp at b⟩;have s:=(Bytes.take HB.out (n:=d)<|by omega).grown (du a b 0<|aY E c 0 0)<|.inl<|λp=>kF _<|j.out _ p;have k:=Rd.Tc u.out m j.out;have x:=Y s;have o:=Y k;clear m s k w;(go_in);go_wp2;go_ret;exact⟨_,rfl,by rw[f.out];exact o,by rw[f.out];exact x,λp=>kF _<|j.out _ p,du _ _ _ _⟩);have m:=Bytes.Bq HB.out (n:=g) (by omega);have s:=(Bytes.take HB.out (n:=g)<|by omega).grown (du a b 0<|aY E (c+g) (y n-g)<|d-g)<|.inl<|λp=>kF _<|j.out _ p;have k:=Rd.Tc u.out m j.out;obtain⟨w,x,o⟩:=dz m s k;clear m s k;(go_in);go_wp2;go_ret;exact⟨_,rfl,by rw[f.out];exact o,by rw[f.out];exact x,λp=>kF _<|j.out _ p,du _ _ _ _⟩
def jn(a:dN):Prop:=∀x∈a,0<=x/\x<256
def jn.take{bs:dN}(h:jn bs)(n:M):jn (bs.take n):=λx a=>h x<|dU a
def jn.drop(h:jn n)(b:M):jn (n.drop b):=λx a=>h x<|dH a
def jn.append(h:jn n)(k:jn V):jn (n++V):=λx a=>(aG.1 a).elim (h x)<|k x
def jn.zM{shortqq:Bool}{n:M}(h:jn V):jn (jv V shortqq n).1/\jn (jv V shortqq n).2.2:=by
 unfold jv;split;exact⟨h,λx a=>by cases a⟩;exact⟨h.drop n,h.take n⟩
def ve(b:dN)(a:Bool)(n:M):y (jv b a n).1<=y b/\y (jv b a n).2.2<=n:=by
 unfold jv;grind
def jn.le(k:M):∀n,jn (le k n):=by
 induction k with
 |zero=>intro n x a;cases a
 |succ k b=>
  intro n x a;rcases bR.1 a with rfl|a
  .omega
  .exact b _ x a
def jn.text(s:ae):jn (kM s):=by
 intro x a;obtain⟨b,_,rfl⟩:=bM.1 a;have:=b.toNat_lt;omega
def kI:dN->U
 |[]=>0
 |x::r=>x+256*kI r
def tG:∀(l:dN),jn l->0<=kI l/\kI l<256^y l
 |[],_=>by simp[kI]
 |x::r,h=>by
  have a:=h x<|.head _;have c:=tG r<|λa b=>h a<|.tail _ b;simp only[kI,aW,zq];omega
def DZ:∀(l:dN)(x:U),kI (l++[x])=kI l+x*256^y l
 |[],x=>by simp[kI]
 |yqq::r,x=>by
  simp only[dl,kI,aW,zq,DZ r x];grind
def zY:∀(k:M)(n:U),0<=n->kI (le k n)=n%256^k
 |0,n,_=>by simp[kI,le]
 |k+1,n,h=>by
  simp only[le,kI,zY k (n/256) (by omega),zq];obtain⟨m,rfl⟩:=dP h;have:=Nat.mod_mul (x:=m) (a:=256) (b:=256^k);rw[Int.mul_comm (256^k) 256];grind
def Vl(h:jn n)(j:y n<=8)(k:M)(d:k<y n):kI (n.take<|k+1)=bits .or .u64 (kI<|n.take k) (IntKind.u64.wrap<|n[k]*2^(8*k)):=by
 have c:=tG (n.take k)<|h.take k;have e:y (n.take k)=k:=by simp;omega
 rw[aj d,DZ,e];rw[e]at c;have m:=h n[k]<|ak d;have i:(256:U)^k=2^(8*k):=by rw[Int.pow_mul];rfl
 rw[i]at c|-;have l:(0:U)<2^(8*k):=Int.pow_pos (by decide);have f:(2:U)^(8*k)*256<=2^64:=by(have:(2:U)^(8*k)*256=2^(8*k+8):=by rw[Int.pow_add];rfl);rw[this];exact_mod_cast Nat.pow_le_pow_right (by decide) (by omega)
 have g:n[k]*2^(8*k)<=255*2^(8*k):=Int.mul_le_mul_of_nonneg_right (by omega) (by omega);have a:0<=n[k]*2^(8*k):=Int.mul_nonneg (by omega) (by omega);have b:n[k]*2^(8*k)<2^64:=by omega
 rw[wraps_u64 _ a b,bits_join_low .u64 64 (by decide) wraps_u64 (8*k) _ _ c.1 c.2 (by omega) a (Int.mul_emod_left _ _) b]
def DI(i:M)(h:Rd a b n K)(f:jn n)(E:y n<=140737488351232)(P:i<=8):cD aZ 199 #[aA b,aq i] a λL w=>L=aJ (aE<|kI (jv n K i).2.2)/\Rd w b (jv n K i).1 (jv n K i).2.1/\a.grownBy w (H b):=by
 have q:=Y f;clear f;go_in
 go_wp2_with fail
 apply(Jp i h E<|by omega).mono;rintro L T⟨S,rfl,g,j,l,u⟩;have O:=(ve n K i).2;obtain⟨s,r,p⟩:=dz (q.zM (shortqq:=K) (n:=i)).2 g u;clear g u l h q;generalize t:(jv n K i).2.2=c at*;have o:=Y t;clear t;rcases j with⟨rfl,rfl⟩|⟨V,m,A,rfl,D,C⟩;(.go_wp2;(go_loop [5,12,6,7] (λx v _ _=>v=aq 0/\x=aE 0) (λ_ _ _ _=>0));(case atStart=>grind);(case round=>obtain⟨rfl,rfl⟩:=hrel;go_wp2;go_ret;exact⟨by rw[af o];rfl,r,p⟩));(.go_wp2;(go_loop [5,12,6,7] (λx v _ _=>∃(k:M),k<=y c/\v=aq k/\x=aE (kI<|c.take k)) (λ_ v _ _=>y c-(intOf v).toNat));(case atStart=>exact⟨0,bG _,rfl,rfl⟩);(case round=>obtain⟨k,N,rfl,rfl⟩:=hrel;by_cases e:k<y c;(.have B:=C k e;have Q:=s c[k]<|ak e;have d:=Y<|Vl s (by omega) k e;generalize kI (c.take k)=F at*;go_wp2;(go_round);(case rel=>exact⟨k+1,by omega,by go_num,by rw[af d]⟩);case measure=>simp[intOf];omega);go_wp2;go_ret;have d:c.take k=c:=dp (by omega);rw[d];exact⟨by rw[af o];rfl,r,p⟩))
def Tp(h:jn n)(a:y n<=b):kI n<256^b:=by
 have c:=(tG n h).2;have d:(256:U)^y n<=256^b:=by exact_mod_cast Nat.pow_le_pow_right (by decide) a
 omega
def num(c:dN)(a:Bool)(n:M):U:=kI (jv c a n).2.2
def rY(h:jn n):0<=num n K b/\num n K b<256^b:=⟨(tG _ h.zM.2).1,Tp h.zM.2 (ve n K b).2⟩
def Ku(h:Rd a b n K)(c:jn n)(j:y n<=140737488351232):cD aZ 144 #[aA b] a λk e=>k=aJ (aE<|num n K 8)/\Rd e b (jv n K 8).1 (jv n K 8).2.1/\a.grownBy e (H b):=by
 have d:=Y h;have f:=Y c;clear h c;go_in
 go_wp2_with fail
 apply(DI 8 d f j<|by omega).mono;rintro k l⟨rfl,g,i⟩;go_wp2;go_ret;exact⟨rfl,g,i⟩
def DH(d:M)(i:Rd a b n K)(c:jn n)(g:y n<=140737488351232)(f:d<=8):cD aZ 199 #[aA b,aq d] a λh e=>h=aJ (aE<|num n K d)/\Rd e b (jv n K d).1 (jv n K d).2.1/\a.grownBy e (H b):=DI d i c g f
def Ov{a:IntKind}(h:k=D):Ending.returned (.int a k)=aJ (.int a D):=by rw[h]
def Jk(c:M)(a:Bool)(w:Z)(h:Rd w c n a)(b:jn n)(o:y n<=140737488351232):cD aZ 145 #[aA c] w λp j=>p=aJ (dh<|num n a 4)/\Rd j c (jv n a 4).1 (jv n a 4).2.1/\w.grownBy j (H c):=by
 have l:0<=num n a 4:=(rY b).1;have m:num n a 4<4294967296:=(rY b).2;have d:=Y h;have k:=Y b;clear h b;go_in
 go_wp2_with fail
 apply(DH 4 d k o<|by omega).mono;rintro p q⟨rfl,g,i⟩;have e:=Y g;have f:=Y i;clear g i;go_wp2;go_ret;exact⟨Ov (by omega),e,f⟩
def Ez(h:Rd a b n K)(c:jn n)(o:y n<=140737488351232):cD aZ 154 #[aA b] a λp j=>p=aJ (qV<|num n K 1)/\Rd j b (jv n K 1).1 (jv n K 1).2.1/\a.grownBy j (H b):=by
 have l:0<=num n K 1:=(rY c).1;have m:num n K 1<256:=(rY c).2;have d:=Y h;have k:=Y c;clear h c;go_in
 go_wp2_with fail
 apply(DH 1 d k o<|by omega).mono;rintro p q⟨rfl,g,i⟩;have e:=Y g;have f:=Y i;clear g i;go_wp2;go_ret;exact⟨Ov (by omega),e,f⟩
def FH(h:Rd a b n K):cD aZ 146 #[aA b] a λi g=>i=aJ (aK K)/\g=a:=by
 obtain⟨v,d,e,c⟩:=h;have f:=cellAt d 1 rfl;clear d e c;go_in
 go_wp2;go_ret;simp_all
def xp(h:Rd a b n K)(p:y n<=140737488351232):cD aZ 147 #[aA b] a λm l=>m=aJ (aK<|!K&&n.isEmpty)/\l=a:=by
 obtain⟨v,c,g,d⟩:=h;have i:=cellAt c 0 rfl;have j:=cellAt c 1 rfl;clear c d;cases K with
 |true=>
  go_in
  go_wp2;go_ret;simp_all
 |false=>
  rcases g with⟨rfl,rfl⟩|⟨s,e,f,rfl,k,o⟩
  .go_in
   go_wp2;go_ret;simp_all
  .cases n with
   |nil=>
    go_in
    go_wp2;go_ret;simp_all
   |cons x r=>
    have q:((y (x::r):U)==0)=bj:=by simp;omega
    go_in
    go_wp2;go_ret;simp_all
def CX(a:dN):ae:=⟨(a.map λx=>UInt8.ofNat x.toNat).toArray⟩
theorem uZ(s:ae):CX (kM s)=s:=by
 have e:((λx:U=>UInt8.ofNat x.toNat)∘λb:UInt8=>(b.toNat:U))=id:=by funext b;simp
 unfold CX kM;rw[iP,e,wh]
def CU(b:dN)(a:Bool):dN×Bool×dN:=let c:=jv b a 1;jv c.1 c.2.1 (num b a 1).toNat
def NW(g:Bytes a d n)(f:jn n):(convert 75 9 d).run aZ a=.ok (am<|CX n) a:=by
 rcases g with⟨rfl,rfl⟩|⟨k,b,e,rfl,i,h⟩;exact Lib.run_convert_nil_bytes a _ _ 5 0 underlying75 underlying5 underlying9;have:=uP (P:=aZ) a 75 9 5 (R k b) e (n.map λx=>UInt8.ofNat x.toNat) underlying75 underlying5 underlying9 (λj c=>by simp at c;rw[dt,h j c];have l:=f n[j]<|ak c;simp[c];omega);simpa[CX]using this
def CV(h:Rd a b n K)(c:jn n)(F:y n<=140737488351232):cD aZ 200 #[aA b] a λA u=>A=aJ (am<|CX (CU n K).2.2)/\Rd u b (CU n K).1 (CU n K).2.1/\a.grownBy u (H b):=by
 have j:0<=num n K 1:=(rY c).1;have C:num n K 1<256:=(rY c).2;have d:=Y h;have l:=Y c;clear h c;go_in
 go_wp2_with fail
 apply(Ez d l F).mono;rintro A O⟨rfl,o,p⟩;have e:=Y o;have f:=Y p;clear o p;obtain⟨v,k⟩:=dP j;have t:(CU n K)=jv (jv n K 1).1 (jv n K 1).2.1 v:=by unfold CU;simp[k]
 have L:=(ve n K 1).1;have m:=Y t;have w:=Y (l.zM (shortqq:=K) (n:=1)).1;have E:v<256:=by omega
 have x:=Y k;clear t k;go_wp2_with fail
 rw[af x];apply(Jp v e (by omega)<|by omega).mono;rintro A P⟨N,rfl,q,r,B,s⟩;have D:=NW r w.zM.2;have g:=Y q;have i:=Y s;clear q r B s;go_wp2;go_ret;exact⟨by rw[af m];rfl,by rw[af m];exact g,KY f i⟩
def Bytes.of_heap{w w':Z}(i:Bytes w d n)(l:w'.heap=w.heap):Bytes w' d n:=by
 rcases i with⟨rfl,rfl⟩|⟨j,b,e,rfl,g,h⟩;exact .inl ⟨rfl,rfl⟩;exact .inr ⟨j,b,e,rfl,g,λk i=>by rw[<-h k i];grind[World.cell?_of_block]⟩
def Rd.of_heap{w w':Z}(i:Rd w b n K)(h:w'.heap=w.heap):Rd w' b n K:=by
 obtain⟨v,d,e,g⟩:=i;exact⟨v,by rw[h];exact d,e.of_heap h,g⟩
def Steps.of_heap{w w':Z}(h:Steps w)(e:w'.heap=w.heap):Steps w':=λk b=>by
 rw[<-h k b];grind[World.cell?_of_block]
def Steps.grown{b:Option M}(h:Steps a)(d:a.grownBy f b)(c:b≠H 1):Steps f:=λk e=>d.cell (h k e)<|λg=>c g.symm
def Steps.alloc{w:Z}(h:Steps w)(o:Obj):Steps (cG w o):=λk c=>by
 have a:=h k c;have d:1<z (G w):=by by_cases b:1<z (G w);exact b;have:w.heap[(1:M)]?=none:=kD (by omega);simp[World.cell?,this]at a
 rw[<-a];grind[World.cell?_of_block,Below.heap_alloc]
def Steps.lt(h:Steps a):1<z (G a):=by
 have c:=h 0 (by decide);by_cases d:1<z (G a);exact d;have:a.heap[(1:M)]?=none:=kD (by omega);simp[World.cell?,this]at c
def qn(a b:U):0<=bits .xor .u32 a b/\bits .xor .u32 a b<4294967296:=⟨GM a b,GN a b⟩
def xE(a b:M)(e:a<4294967296)(f:b<4294967296):bits .xor .u32 ↑a ↑b=((a^^^b:M):U):=by
 have g:a^^^b<2^32:=Nat.xor_lt_two_pow (by omega) (by omega);have c:(BitVec.ofInt 32 (a:U)).toNat=a:=by rw[BitVec.ofInt_natCast,BitVec.toNat_ofNat];exact Nat.mod_eq_of_lt<|by omega
 have d:(BitVec.ofInt 32 (b:U)).toNat=b:=by rw[BitVec.ofInt_natCast,BitVec.toNat_ofNat];exact Nat.mod_eq_of_lt<|by omega
 show IntKind.u32.wrap ((BitVec.ofInt 32 (a:U)^^^BitVec.ofInt 32 (b:U)).toNat:U)=_;rw[BitVec.toNat_xor,c,d];simp[IntKind.wrap,IntKind.bits,IntKind.signed];omega
def Oj(a:0<=k/\k<4294967296)(b:0<=D/\D<4294967296)(c:0<=S/\S<4294967296)(h:bits .xor .u32 k S=bits .xor .u32 D S):k=D:=by
 obtain⟨k,rfl⟩:=dP a.1;obtain⟨D,rfl⟩:=dP b.1;obtain⟨S,rfl⟩:=dP c.1;rw[xE k S (by omega) (by omega),xE D S (by omega)<|by omega]at h;have:=bQ (·^^^S)<|yi h;simp only[Nat.xor_assoc,Nat.xor_self,Nat.xor_zero]at this;rw[this]
def Jh(a:0<=k/\k<4294967296)(b:0<=D/\D<4294967296)(c:0<=S/\S<4294967296)(h:bits .xor .u32 S k=bits .xor .u32 S D):k=D:=by
 obtain⟨k,rfl⟩:=dP a.1;obtain⟨D,rfl⟩:=dP b.1;obtain⟨S,rfl⟩:=dP c.1;rw[xE S k (by omega) (by omega),xE S D (by omega)<|by omega]at h;have:=bQ (S^^^·)<|yi h;simp only[<-Nat.xor_assoc,Nat.xor_self,zm]at this;rw[this]
def OP:∀i<16,0<=Lv i/\Lv i<4294967296:=by decide
def Ur:∀i<16,∀j<16,(Lv i).toNat>>>28=(Lv j).toNat>>>28->i=j:=by decide
def Ag(o:0<=k/\k<4294967296)(r:0<=D/\D<4294967296)(h:Ar k=Ar D):k=D:=by
 have e:(k%16).toNat<16:=by omega
 have f:(D%16).toNat<16:=by omega
 have j:=OP _ e;have a:=OP _ f;unfold Ar at h;have n:(k%16).toNat=(D%16).toNat:=by refine Ur _ e _ f ?_;generalize(k%16).toNat=u at*;generalize(D%16).toNat=v at*;obtain⟨p,g⟩:=dP (show 0<=k/16 by omega);obtain⟨q,i⟩:=dP (show 0<=D/16 by omega);obtain⟨s,c⟩:=dP j.1;obtain⟨t,d⟩:=dP a.1;rw[g,i,c,d,xE p s (by omega) (by omega),xE q t (by omega)<|by omega]at h;(have b:(p^^^s)>>>28=(q^^^t)>>>28:=by rw[yi h]);rw[si,si]at b;(have l:p>>>28=0:=by rw[sX];exact Nat.div_eq_of_lt<|by omega);(have m:q>>>28=0:=by rw[sX];exact Nat.div_eq_of_lt<|by omega);rw[l,m,zm,zm]at b;rw[c,d];exact b
 rw[n]at h;have:=Oj (by omega) (by omega) a h;omega
def Sl(a:0<=k/\k<4294967296)(b:0<=D/\D<4294967296)(h:nT k S=nT D S):k=D:=Oj a b (by omega)<|Ag (qn _ _) (qn _ _)<|Ag (qn _ _) (qn _ _) h
def Pn(a:0<=k/\k<4294967296)(b:0<=D/\D<256)(c:0<=S/\S<256)(h:nT k D=nT k S):D=S:=by
 have:=Jh (by omega) (by omega) a<|Ag (qn _ _) (qn _ _)<|Ag (qn _ _) (qn _ _) h;omega
def Ev(e:0<=k/\k<256)(f:0<=D/\D<256)(h:kO (n++k::V)=kO (n++D::V)):k=D:=by
 have b:∀(l:dN)(a:U),(0<=a/\a<4294967296)->0<=l.foldl nT a/\l.foldl nT a<4294967296:=by
  intro l;induction l with
  |nil=>exactλa h=>h
  |cons g l c=>exactλa h=>c _<|qn _ _
 have d:∀(l:dN)(a b:U),(0<=a/\a<4294967296)->(0<=b/\b<4294967296)->l.foldl nT a=l.foldl nT b->a=b:=by
  intro l;induction l with
  |nil=>exactλa b _ _ h=>h
  |cons g l c=>exactλa b d e h=>Sl d e<|c _ _ (qn _ _) (qn _ _) h
 have a:=Jh (b _ _<|by omega) (b _ _<|by omega) (by decide) h;simp only[fK,gD]at a;exact Pn (b _ _<|by omega) e f<|d _ _ _ (qn _ _) (qn _ _) a
def ui(c:dN):Prop:=∃b a,c=b++a/\y a=4/\jn a/\kI a≠kO b
