import Derived.Deep.RegionWith
import Derived.Laws.BitsLemmas
import Derived.Laws.IdiomStrings
import Derived.Lib.BufferRead
import Derived.Lib.EndianBits
import Derived.OpenShut
import Derived.Test.YtmnlcbeggagabaaGreatDoorChecked
import Derived.Test.YtmnlcbeggagabaaGreatDoorC0
open _root_ renaming List.length→y,Option.some→H,Array.size→z,Go.World.heap→G,Go.Value.ownBlock→cz,Go.World.cell?→aS,Go.World.setCell→cA,Go.World.alloc→cG,Bool.false→bj,Bool.true→cq,Nat→M,Int→U,Go.Calls→cD,Go.Proofs.Tryz.prog→aZ,Go.Value.slice→J,Go.Value.string→am,Go.Value.bool→aK
namespace Go.Proofs.YtmnlcbeggagabaaGreatDoor
open ChangeShapes WideShapes RowKit Proofs.Tryz List
set_option maxHeartbeats 16000000
set_option linter.all false
set_option maxRecDepth 100000
variable{a f:Z}{b c g:M}{d u:ab}{k D S:U}{n V:dO}{A:iI}{K:Bool}
def pM:(prog.info? 5).map (λi=>(i.zero,i.size,i.bytes))=H (H<|qX 0,1,1):=by kernel_rfl
def eE(w:Z)(a:M)(v:ab)(b:dO):Prop:=w.ownsRow a 5 1 v (y b)<|b.map<|Value.int .u8
def eE.of(h:a.ownsRow b 5 1 d c A)(e:c=y n)(f:A=n.map (Value.int .u8)):eE a b d n:=by
 subst e;subst f;exact h
def eE.nil(w:Z)(a:M):eE w a aw []:=cO w a _ 1
def eE.alloc{w:Z}(h:eE w b d n)(o:Obj):eE (cG w o) b d n:=aX h o
def le:M->U->dO
 |0,_=>[]
 |k+1,n=>n%256::le k (n/256)
theorem bU(k:M):∀n,y (le k n)=k:=by
 induction k with
 |zero=>intro n;rfl
 |succ k a=>intro n;simp[le,a]
def kP(s:ae):dO:=s.data.toList.map λb=>(b.toNat:U)
def strCells_eq(s:ae):Lib.strCells s=(kP s).map (Value.int .u8):=by simp[Lib.strCells,kP]
theorem ie(s:ae):y (kP s)=s.size:=by simp[kP]
def tG(a:M)(v:ab)(f:dO)(o:U)(w:Z)(d:eE w a v f)(q:a<=z (G w))(r:y f<=70368744177664):cD aZ 189 #[v,qX o] w λp l=>∃e,p=aJ e/\eE l a e (f++[o])/\eC w l v e:=by
 obtain⟨n,m,g,i,j⟩:=cU pM;go_in
 go_wp2_with(first
  |(at_builtin;refine ct _ rfl _ _ 75 rfl a 5 n (.int .u8 0) 1 1 underlying75 m g i j rfl (by decide) _ _ _ rfl (d.alloc _) (R (z (G w)) 0) 1 1 [.int .u8 o] rfl rfl (py _ _ _) ?c2 ?c3 ?c4 ?c5 ?_))
 case c2=>intro u k;simp at k;subst k;rfl
 case c3=>omega
 case c4=>omega
 case c5=>simp;omega
 intro e s c b;go_wp2;go_ret;exact⟨e,rfl,eE.of c (by simp) (by simp),b.alloc _⟩
def RF(w:Z)(a:iI)(t:TypeId):∀j u,a[j]?=H u->aS (cG w<|ay a.toArray t) (((R (z<|G w) 0):Addr).add j)=H u:=by
 intro j u b;rw[dt];simp_all
def js{baseqq:M}{v:ab}{bs:dO}(n:U){w:Z}(c:eE w baseqq v bs)(q:baseqq<=z (G w))(r:y bs<=70368744177664)(o:0<=n)(p:n<4294967296):cD aZ 191 #[v,dh n] w λk j=>∃d,k=aJ d/\eE j baseqq d (bs++le 4 n)/\eC w j v d:=by
 obtain⟨m,l,e,f,g⟩:=cU pM;go_in
 go_wp2_with(first
  |(at_builtin;refine ct _ rfl _ _ 75 rfl baseqq 5 m (.int .u8 0) 1 1 underlying75 l e f g rfl (by decide) _ _ _ rfl (c.alloc _) (R (z (G w)) 0) 4 4 ((le 4 n).map (Value.int .u8)) rfl rfl ?c1 ?c2 ?c3 ?c4 ?c5 ?_))
 (case c1=>(have k:(#[Value.int IntKind.u8<|n%256,Value.int IntKind.u8<|n/256%256,Value.int IntKind.u8<|n/65536%256,Value.int IntKind.u8<|n/16777216]:Array ab)=((le 4 n).map<|Value.int .u8).toArray:=by simp[le];omega);rw[k];exact RF _ _ _);case c2=>intro u i;simp[le]at i;rcases i with rfl|rfl|rfl|rfl<;>rfl
 case c3=>omega
 case c4=>omega
 case c5=>simp;omega
 intro d s b a;go_wp2;go_ret;exact⟨d,rfl,eE.of b (by simp[le]) (by simp),a.alloc _⟩
def oX(a:M)(v:ab)(g:dO)(s:ae)(w:Z)(d:eE w a v g)(n:a<=z (G w))(p:y g<=70368744177664)(t:s.size<=255):cD aZ 230 #[v,am s] w λr m=>∃f,r=aJ f/\eE m a f (g++(s.size:U)::kP s)/\eC w m v f:=by
 obtain⟨q,o,j,k,l⟩:=cU pM;go_in
 go_wp2_with fail
 apply(tG a v g s.size w d n p).mono;rintro r x⟨u,rfl,i,e⟩
 go_wp2_with(first
  |(at_builtin;refine sy _ rfl _ _ 75 9 rfl a 5 q underlying75 underlying9 o j k l _ _ _ rfl i s rfl ?c1 ?c2 ?_))
 case c1=>simp;omega
 case c2=>have:=e.grown.size;omega
 intro f A c b;go_wp2;go_ret;exact⟨f,rfl,eE.of c (by simp[ie];omega) (by simp[strCells_eq]),e.trans b⟩
def GN(a b:U):0<=bits .xor .u32 a b:=(bounds_u32<|wf_bits .xor .u32 a b).1
def GO(a b:U):bits .xor .u32 a b<4294967296:=by have:=(bounds_u32<|wf_bits .xor .u32 a b).2;omega
def Xq(x:U)(a:0<=x)(b:x<4294967296):bits .and .u32 x 15=x%16:=by
 have:=bits_mask .u32 32 (by decide) wraps_u32 4 (by decide) x a (by omega);grind
def Lw(k:M):U:=([0,498536548,997073096,651767980,1994146192,1802195444,1303535960,1342533948,3988292384,4027552580,3604390888,3412177804,2607071920,2262029012,2685067896,3183342108]:dO).getD k 0
def Steps(w:Z):Prop:=∀k,k<16->aS w (R 1 k)=H (dh<|Lw k)
def Steps.below{B:M}(h:Steps a)(c:Below B a f)(b:1<B):Steps f:=λk d=>(c.cell<|by exact b).trans<|h k d
def Au(c:U):U:=bits .xor .u32 (c/16)<|Lw (c%16).toNat
def nW(a x:U):U:=Au<|Au<|bits .xor .u32 a<|x%4294967296
def xw(a:dO):U:=a.foldl nW 4294967295
def kR(a:dO):U:=bits .xor .u32 IntKind.u32.max<|xw a
def NV(a x:U):0<=nW a x:=GN _ _
def NW(a x:U):nW a x<4294967296:=GO _ _
def Lv(a:dO):0<=xw a/\xw a<4294967296:=by
 unfold xw;rcases vS a with rfl|⟨l,x,rfl⟩;simp;rw[List.concat_eq_append,fM];exact⟨NV _ _,NW _ _⟩
def vE(a:dO):0<=kR a:=GN _ _
def xu(a:dO):kR a<4294967296:=GO _ _
def NU(a:dO)(k:M)(h:k<y a):xw (a.take<|k+1)=nW (xw<|a.take k) a[k]:=by
 unfold xw;rw[aj h,fM];rfl
theorem UZ(q c:M)(b:dO)(g:M)(i:Steps a)(m:∀k,k<y b->aS a (R q<|c+k)=H (qX<|b[k]?.getD 0))(f:y b<=140737488351232):cD aZ 153 #[aY q c (y b) g] a λr o=>r=aJ (dh<|kR b)/\o=a:=by
 have u:=GN;have v:=GO;have j:=Xq;have l:∀x:U,aS a (R 1<|(x%16).toNat)=H (dh<|Lw (x%16).toNat):=λx=>i _ (by omega);clear i;go_in
 go_wp2;go_loop [3,8,5] (λa i x=>∃(k:M),k<=y b/\i=aq k/\a=dh (xw<|b.take k)) (λ_ i _=>y b-(intOf i).toNat)
 case atStart=>exact⟨0,bH _,rfl,rfl⟩
 (case round=>obtain⟨k,s,rfl,rfl⟩:=hrel;have t:=Lv<|b.take k;by_cases e:k<y b;(.have n:=m k e;have d:Hid (xw (b.take<|k+1)=nW (xw<|b.take k) b[k]):=NU b k e;generalize xw (b.take k)=p at*;go_wp2;(go_round);(case rel=>exact⟨k+1,by omega,by go_num,by rw[d.out];rfl⟩);case measure=>simp[intOf];omega);go_wp2;go_ret;have d:b.take k=b:=dp (by omega);rw[d];exact⟨rfl,rfl⟩)
def Bytes(w:Z)(v:ab)(b:dO):Prop:=(v=aw/\b=[])\/∃d a c,v=aY d a (y b) c/\y b<=c/\∀k,k<y b->aS w (R d<|a+k)=H (qX<|b[k]?.getD 0)
theorem eE.bytes(i:eE a b d n):Bytes a d n:=by
 unfold eE at i;rcases i.2 with⟨rfl,j⟩|⟨h,c,g,rfl,_,_,e,_⟩;exact .inl ⟨rfl,aQ j⟩;refine .inr ⟨h,0,c,rfl,e,λl k=>?_⟩;have:=i.cells (g:=h) rfl l (qX<|n[l]?.getD 0) (by simp[k]);grind[Addr.add_lit]
def Bytes.below{B:M}(j:Bytes a d n)(h:Below B a f)(g:∀k,cz d=H k->k<B):Bytes f d n:=by
 rcases j with⟨rfl,rfl⟩|⟨l,b,c,rfl,e,i⟩;exact .inl ⟨rfl,rfl⟩;exact .inr ⟨l,b,c,rfl,e,λk j=>(h.cell<|by exact g l rfl).trans<|i k j⟩
def sum_nil(w:Z):cD aZ 153 #[aw] w λe a=>e=aJ (dh<|kR [])/\a=w:=by
 go_in
 go_wp2;go_loop [3,8,5] (λc i x=>i=aq 0/\c=dh 4294967295) (λ_ _ _=>0)
 case atStart=>grind
 (case round=>obtain⟨rfl,rfl⟩:=hrel;go_wp2;go_ret;exact⟨rfl,rfl⟩)
def qu(v:ab)(b:dO)(w:Z)(h:Steps w)(e:Bytes w v b)(a:y b<=140737488351232):cD aZ 153 #[v] w λg f=>g=aJ (dh<|kR b)/\f=w:=by
 rcases e with⟨rfl,rfl⟩|⟨j,c,d,rfl,_,i⟩;exact sum_nil w;grind[UZ]
def YS(n:U):le 4 (n%4294967296)++le 4 (n/4294967296)=le 8 n:=by
 simp[le];omega
def oY{baseqq:M}{v:ab}{bs:dO}(n:U){w:Z}(b:eE w baseqq v bs)(k:baseqq<=z (G w))(p:y bs<=35184372088832)(m:0<=n)(o:n<18446744073709551616):cD aZ 188 #[v,aG n] w λj g=>∃f,j=aJ f/\eE g baseqq f (bs++le 8 n)/\eC w g v f:=by
 have i:Hid (le 4 (n%4294967296)++le 4 (n/4294967296)=le 8 n):=YS n;go_in
 go_wp2_with fail
 apply(js (n%4294967296) b k (by omega) (by omega)<|by omega).mono;rintro j r⟨q,rfl,d,c⟩;go_wp2_with fail
 refine(js (n/4294967296) d (by have:=c.grown.size;omega) (by simp[bU];omega) (by omega)<|by omega).mono ?_;rintro j s⟨l,rfl,a,e⟩;go_wp2;go_ret;refine⟨l,rfl,?_,c.trans e⟩;rw[bz,i.out]at a;exact a
def Dm(j:Steps a)(c:eE a b d n)(k:b<=z (G a))(o:y n<=35184372088832):cD aZ 192 #[d] a λi f=>∃e,i=aJ e/\eE f b e (n++le 4 (kR n))/\eC a f d e:=by
 have g:=vE n;have c1:=xu n;go_in
 go_wp2_with fail
 apply(qu d n a j c.bytes<|by omega).mono;rintro i q⟨rfl,rfl⟩;go_wp2_with fail
 apply(js (kR n) c k (by omega) g c1).mono;rintro i r⟨p,rfl,l,m⟩;go_wp2;go_ret;simp_all
def Dl(n:U)(w:Z)(b:0<=n)(c:n<=140737488351232):cD aZ 218 #[aq n] w λe a=>e=aJ (aq<|n+4)/\a=w:=by
 go_in
 go_wp2;go_ret;simp_all
def Rd(w:Z)(c:M)(b:dO)(a:Bool):Prop:=∃v,w.heap[c]?=H (ay #[v,aK a] 328 (0,0))/\Bytes w v b/\∀k,cz v=H k->k<c
def Bytes.grown{c:Option M}(i:Bytes a d n)(k:a.grownBy f c)(h:cz d≠c\/cz d=none):Bytes f d n:=by
 rcases i with⟨rfl,rfl⟩|⟨m,b,e,rfl,g,j⟩;exact .inl ⟨rfl,rfl⟩;refine .inr ⟨m,b,e,rfl,g,λo l=>k.cell (j o l) ?_⟩;rcases h with i|i;exact i;simp[cz]at i
def Bytes.alloc{w:Z}(l:Bytes w d n)(o:Obj):Bytes (cG w o) d n:=by
 rcases l with⟨rfl,rfl⟩|⟨g,a,b,rfl,c,i⟩;exact .inl ⟨rfl,rfl⟩;refine .inr ⟨g,a,b,rfl,c,λm j=>?_⟩;have e:=i m j;(have k:g<z (G w):=by by_cases h:g<z (G w);exact h;have:w.heap[g]?=none:=kG (by omega);simp[World.cell?,this]at e);rw[<-e];grind[World.cell?_of_block,Below.heap_alloc]
def Bytes.take{f b c n:M}{bs:dO}(h:Bytes a (aY f b (y bs) c) bs)(m:n<=y bs):Bytes a (aY f b n c) (bs.take n):=by
 rcases h with⟨h,_⟩|⟨j,e,d,h,i,g⟩;cases h;cases h;(have k:y (bs.take n)=n:=by simp;omega);refine .inr ⟨f,b,c,by rw[k],by omega,λo l=>?_⟩;rw[g o (by omega),ot<|by omega]
def Bytes.Br{f b c n:M}(h:Bytes a (aY f b (y V) c) V)(l:n<=y V):Bytes a (aY f (b+n) (y V-n)<|c-n) (V.drop n):=by
 rcases h with⟨h,_⟩|⟨i,e,d,h,g,j⟩;cases h;cases h;refine .inr ⟨f,b+n,c-n,by simp,by simp;omega,λm k=>?_⟩;grind
def Bytes.lt{bs:dO}(n:Bytes a d bs)(l:bs≠[]):∀m,cz d=H m->m<z (G a):=by
 rcases n with⟨rfl,rfl⟩|⟨b,c,g,rfl,k,j⟩;grind
 intro m e;simp[cz]at e;subst e;have h:=j 0 (by cases bs<;>simp_all);by_cases i:b<z (G a);exact i;have:a.heap[b]?=none:=kG (by omega);simp[World.cell?,this]at h
def Qc{a:Addr}(h:cz (J (H a) b c)=H g):a.block=g:=by simpa[cz]using h
def mR(f:Bytes a d n)(c:∀k,cz d=H k->k<z (G a)):cD aZ 143 #[d] a λj b=>j=aJ (aA<|z<|G a)/\Rd b (z<|G a) n bj/\b=cG a (ay #[d,aK bj] 328):=by
 have fin:∀b,b=cG a (ay #[d,aK bj] 328)->Rd b (z<|G a) n bj:=by rintro b rfl;exact⟨d,jd _ _,f.alloc _,c⟩
 have F:Hid (∀b,b=cG a (ay #[d,aK bj] 328)->Rd b (z<|G a) n bj):=fin;clear fin;rcases f with⟨rfl,rfl⟩|⟨m,e,g,rfl,i,l⟩;(.clear c;(go_in);go_wp2;go_ret;exact⟨rfl,F.out _ rfl,rfl⟩);clear c;(go_in);go_wp2;go_ret;exact⟨rfl,F.out _ rfl,rfl⟩
def jx(a:dO)(b:Bool)(n:M):dO×Bool×dO:=if b=cq\/y a<n then(a,cq,[])else(a.drop n,bj,a.take n)
def Rd.short(f:a.heap[b]?=H (ay #[d,aK K] 328 (0,0)))(e:Bytes a d n)(c:∀k,cz d=H k->k<b):Rd (cA a (R b 1)<|aK cq) b n cq:=⟨d,by rw[aL f];rfl,e.grown (du a b 1 _)<|.inl<|λg=>kI _<|c _ g,c⟩
def Rd.Td(f:a.heap[b]?=H (ay #[d,aK K] 328 (0,0)))(e:Bytes a u n)(c:∀k,cz u=H k->k<b):Rd (cA a (R b 0) u) b n K:=⟨u,by rw[aL f];rfl,e.grown (du a b 0 _)<|.inl<|λg=>kI _<|c _ g,c⟩
def Jq(g:M)(h:Rd a b n K)(X:y n<=140737488351232)(W:g<=1000000):cD aZ 238 #[aA b,aq g] a λp D=>∃C,p=aJ C/\Rd D b (jx n K g).1 (jx n K g).2.1/\Bytes D C (jx n K g).2.2/\cz C≠H b/\a.grownBy D (H b):=by
 obtain⟨T,l,v,r⟩:=h;have HB:Hid (Bytes a T n):=v;have N:=cellAt l 0 rfl;have O:=cellAt l 1 rfl;have P:=cZ (i:=0) l;have Q:=cZ (i:=1) l;have u:Hid (a.heap[b]?=H (ay #[T,aK K] 328 (0,0))):=l;have j:Hid (∀S,cz T=H S->S<b):=r;clear l r;by_cases e:K=cq\/y n<g
 .have f:Hid (jx n K g=(n,cq,[])):=by unfold Hid jx;rw[dW e]
  have fin:Rd (cA a (R b 1)<|aK cq) b n cq/\a.grownBy (cA a (R b 1)<|aK cq) (H b):=⟨Rd.short u.out HB.out j.out,du _ _ _ _⟩;have F:Hid (Rd (cA a (R b 1)<|aK cq) b n cq/\a.grownBy (cA a (R b 1)<|aK cq) (H b)):=fin;clear fin;have t:Bytes (cA a (R b 1)<|aK cq) aw []:=.inl ⟨rfl,rfl⟩;have k:Hid (Bytes (cA a (R b 1)<|aK cq) aw []):=t;clear t;cases K with
  |true=>
   clear e v;go_in
   go_wp2;go_ret;exact⟨_,rfl,by rw[f.out];exact F.out.1,by rw[f.out];exact k.out,by simp[cz],F.out.2⟩
  |false=>
   have q:y n<g:=by simpa using e
   clear e;rcases v with⟨rfl,rfl⟩|⟨E,c,d,rfl,B,L⟩;all_goals
    go_in
    go_wp2;go_ret;exact⟨_,rfl,by rw[f.out];exact F.out.1,by rw[f.out];exact k.out,by simp[cz],F.out.2⟩
 (have f:Hid (jx n K g=(n.drop g,bj,n.take g)):=by unfold Hid jx;rw[eI e]);obtain⟨F,q⟩:=not_or.1 e;(obtain rfl:K=bj:=by simpa using F);clear e F;rcases v with⟨rfl,rfl⟩|⟨E,c,d,rfl,B,L⟩;(·(obtain rfl:g=0:=by simpa using q);have t:Bytes a aw []:=.inl ⟨rfl,rfl⟩;have k:=Rd.Td u.out t j.out;have o:=Y k;clear k t;(go_in);go_wp2;go_ret;exact⟨_,rfl,by rw[f.out];exact o,by rw[f.out];exact .inl ⟨rfl,rfl⟩,λp=>kI _<|j.out _ p,du _ _ _ _⟩);by_cases A:d=g;(.subst A;(have w:n.drop d=[]:=by simp;omega);(have V:y n=d:=by omega);have m:Bytes a (aY E c 0 0) (n.drop d):=.inr ⟨E,c,0,by rw[w];rfl,by rw[w];simp,λS b=>by rw[w]at b;simp at b⟩;have s:=(Bytes.take HB.out (n:=d)<|by omega).grown (du a b 0<|aY E c 0 0)<|.inl<|λp=>kI _<|j.out _ p;have k:=Rd.Td u.out m j.out;have x:=Y s;have o:=Y k;clear m s k w;(go_in);go_wp2;go_ret;exact⟨_,rfl,by rw[f.out];exact o,by rw[f.out];exact x,λp=>kI _<|j.out _ p,du _ _ _ _⟩);have m:=Bytes.Br HB.out (n:=g) (by omega);have s:=(Bytes.take HB.out (n:=g)<|by omega).grown (du a b 0<|aY E (c+g) (y n-g)<|d-g)<|.inl<|λp=>kI _<|j.out _ p;have k:=Rd.Td u.out m j.out;obtain⟨w,x,o⟩:=dz m s k;clear m s k;(go_in);go_wp2;go_ret;exact⟨_,rfl,by rw[f.out];exact o,by rw[f.out];exact x,λp=>kI _<|j.out _ p,du _ _ _ _⟩
def jp(a:dO):Prop:=∀x∈a,0<=x/\x<256
def jp.take{bs:dO}(h:jp bs)(n:M):jp (bs.take n):=λx a=>h x<|dV a
def jp.drop(h:jp n)(b:M):jp (n.drop b):=λx a=>h x<|dI a
def jp.append(h:jp n)(k:jp V):jp (n++V):=λx a=>(aE.1 a).elim (h x)<|k x
def jp.zN{shortqq:Bool}{n:M}(h:jp V):jp (jx V shortqq n).1/\jp (jx V shortqq n).2.2:=by
 unfold jx;split;exact⟨h,λx a=>by cases a⟩;exact⟨h.drop n,h.take n⟩
def vf(b:dO)(a:Bool)(n:M):y (jx b a n).1<=y b/\y (jx b a n).2.2<=n:=by
 unfold jx;grind
def jp.le(k:M):∀n,jp (le k n):=by
 induction k with
 |zero=>intro n x a;cases a
 |succ k b=>
  intro n x a;rcases bD.1 a with rfl|a
  .omega
  .exact b _ x a
def jp.text(s:ae):jp (kP s):=by
 intro x a;obtain⟨b,_,rfl⟩:=bJ.1 a;have:=b.toNat_lt;omega
def kL:dO->U
 |[]=>0
 |x::r=>x+256*kL r
def tI:∀(l:dO),jp l->0<=kL l/\kL l<256^y l
 |[],_=>by simp[kL]
 |x::r,h=>by
  have a:=h x<|.head _;have c:=tI r<|λa b=>h a<|.tail _ b;simp only[kL,aW,zr];omega
def Ea:∀(l:dO)(x:U),kL (l++[x])=kL l+x*256^y l
 |[],x=>by simp[kL]
 |yqq::r,x=>by
  simp only[dl,kL,aW,zr,Ea r x];grind
def zZ:∀(k:M)(n:U),0<=n->kL (le k n)=n%256^k
 |0,n,_=>by simp[kL,le]
 |k+1,n,h=>by
  simp only[le,kL,zZ k (n/256) (by omega),zr];obtain⟨m,rfl⟩:=dQ h;have:=Nat.mod_mul (x:=m) (a:=256) (b:=256^k);rw[Int.mul_comm (256^k) 256];grind
def Vm(h:jp n)(j:y n<=8)(k:M)(d:k<y n):kL (n.take<|k+1)=bits .or .u64 (kL<|n.take k) (IntKind.u64.wrap<|n[k]*2^(8*k)):=by
 have c:=tI (n.take k)<|h.take k;have e:y (n.take k)=k:=by simp;omega
 rw[aj d,Ea,e];rw[e]at c;have m:=h n[k]<|ak d;have i:(256:U)^k=2^(8*k):=by rw[Int.pow_mul];rfl
 rw[i]at c|-;have l:(0:U)<2^(8*k):=Int.pow_pos (by decide);have f:(2:U)^(8*k)*256<=2^64:=by(have:(2:U)^(8*k)*256=2^(8*k+8):=by rw[Int.pow_add];rfl);rw[this];exact_mod_cast Nat.pow_le_pow_right (by decide) (by omega)
 have g:n[k]*2^(8*k)<=255*2^(8*k):=Int.mul_le_mul_of_nonneg_right (by omega) (by omega);have a:0<=n[k]*2^(8*k):=Int.mul_nonneg (by omega) (by omega);have b:n[k]*2^(8*k)<2^64:=by omega
 rw[wraps_u64 _ a b,bits_join_low .u64 64 (by decide) wraps_u64 (8*k) _ _ c.1 c.2 (by omega) a (Int.mul_emod_left _ _) b]
def DJ(i:M)(h:Rd a b n K)(f:jp n)(E:y n<=140737488351232)(P:i<=8):cD aZ 199 #[aA b,aq i] a λL w=>L=aJ (aG<|kL (jx n K i).2.2)/\Rd w b (jx n K i).1 (jx n K i).2.1/\a.grownBy w (H b):=by
 have q:=Y f;clear f;go_in
 go_wp2_with fail
 apply(Jq i h E<|by omega).mono;rintro L T⟨S,rfl,g,j,l,u⟩;have O:=(vf n K i).2;obtain⟨s,r,p⟩:=dz (q.zN (shortqq:=K) (n:=i)).2 g u;clear g u l h q;generalize t:(jx n K i).2.2=c at*;have o:=Y t;clear t;rcases j with⟨rfl,rfl⟩|⟨V,m,A,rfl,D,C⟩;(.go_wp2;(go_loop [5,12,6,7] (λx v _ _=>v=aq 0/\x=aG 0) (λ_ _ _ _=>0));(case atStart=>grind);(case round=>obtain⟨rfl,rfl⟩:=hrel;go_wp2;go_ret;exact⟨by rw[af o];rfl,r,p⟩));(.go_wp2;(go_loop [5,12,6,7] (λx v _ _=>∃(k:M),k<=y c/\v=aq k/\x=aG (kL<|c.take k)) (λ_ v _ _=>y c-(intOf v).toNat));(case atStart=>exact⟨0,bH _,rfl,rfl⟩);(case round=>obtain⟨k,N,rfl,rfl⟩:=hrel;by_cases e:k<y c;(.have B:=C k e;have Q:=s c[k]<|ak e;have d:=Y<|Vm s (by omega) k e;generalize kL (c.take k)=F at*;go_wp2;(go_round);(case rel=>exact⟨k+1,by omega,by go_num,by rw[af d]⟩);case measure=>simp[intOf];omega);go_wp2;go_ret;have d:c.take k=c:=dp (by omega);rw[d];exact⟨by rw[af o];rfl,r,p⟩))
def Tq(h:jp n)(a:y n<=b):kL n<256^b:=by
 have c:=(tI n h).2;have d:(256:U)^y n<=256^b:=by exact_mod_cast Nat.pow_le_pow_right (by decide) a
 omega
def num(c:dO)(a:Bool)(n:M):U:=kL (jx c a n).2.2
def sa(h:jp n):0<=num n K b/\num n K b<256^b:=⟨(tI _ h.zN.2).1,Tq h.zN.2 (vf n K b).2⟩
def Kv(h:Rd a b n K)(c:jp n)(j:y n<=140737488351232):cD aZ 144 #[aA b] a λk e=>k=aJ (aG<|num n K 8)/\Rd e b (jx n K 8).1 (jx n K 8).2.1/\a.grownBy e (H b):=by
 have d:=Y h;have f:=Y c;clear h c;go_in
 go_wp2_with fail
 apply(DJ 8 d f j<|by omega).mono;rintro k l⟨rfl,g,i⟩;go_wp2;go_ret;exact⟨rfl,g,i⟩
def DI(d:M)(i:Rd a b n K)(c:jp n)(g:y n<=140737488351232)(f:d<=8):cD aZ 199 #[aA b,aq d] a λh e=>h=aJ (aG<|num n K d)/\Rd e b (jx n K d).1 (jx n K d).2.1/\a.grownBy e (H b):=DJ d i c g f
def Ow{a:IntKind}(h:k=D):Ending.returned (.int a k)=aJ (.int a D):=by rw[h]
def Jl(c:M)(a:Bool)(w:Z)(h:Rd w c n a)(b:jp n)(o:y n<=140737488351232):cD aZ 145 #[aA c] w λp j=>p=aJ (dh<|num n a 4)/\Rd j c (jx n a 4).1 (jx n a 4).2.1/\w.grownBy j (H c):=by
 have l:0<=num n a 4:=(sa b).1;have m:num n a 4<4294967296:=(sa b).2;have d:=Y h;have k:=Y b;clear h b;go_in
 go_wp2_with fail
 apply(DI 4 d k o<|by omega).mono;rintro p q⟨rfl,g,i⟩;have e:=Y g;have f:=Y i;clear g i;go_wp2;go_ret;exact⟨Ow (by omega),e,f⟩
def EA(h:Rd a b n K)(c:jp n)(o:y n<=140737488351232):cD aZ 154 #[aA b] a λp j=>p=aJ (qX<|num n K 1)/\Rd j b (jx n K 1).1 (jx n K 1).2.1/\a.grownBy j (H b):=by
 have l:0<=num n K 1:=(sa c).1;have m:num n K 1<256:=(sa c).2;have d:=Y h;have k:=Y c;clear h c;go_in
 go_wp2_with fail
 apply(DI 1 d k o<|by omega).mono;rintro p q⟨rfl,g,i⟩;have e:=Y g;have f:=Y i;clear g i;go_wp2;go_ret;exact⟨Ow (by omega),e,f⟩
def FI(h:Rd a b n K):cD aZ 146 #[aA b] a λi g=>i=aJ (aK K)/\g=a:=by
 obtain⟨v,d,e,c⟩:=h;have f:=cellAt d 1 rfl;clear d e c;go_in
 go_wp2;go_ret;simp_all
def xq(h:Rd a b n K)(p:y n<=140737488351232):cD aZ 147 #[aA b] a λm l=>m=aJ (aK<|!K&&n.isEmpty)/\l=a:=by
 obtain⟨v,c,g,d⟩:=h;have i:=cellAt c 0 rfl;have j:=cellAt c 1 rfl;clear c d;cases K with
 |true=>
  go_in
  go_wp2;go_ret;simp_all
 |false=>
  rcases g with⟨rfl,rfl⟩|⟨s,e,f,rfl,k,o⟩
  .go_in
   go_wp2;go_ret;simp_all
  .cases n with
   |nil=>
    go_in
    go_wp2;go_ret;simp_all
   |cons x r=>
    have q:((y (x::r):U)==0)=bj:=by simp;omega
    go_in
    go_wp2;go_ret;simp_all
def CY(a:dO):ae:=⟨(a.map λx=>UInt8.ofNat x.toNat).toArray⟩
theorem ve(s:ae):CY (kP s)=s:=by
 have e:((λx:U=>UInt8.ofNat x.toNat)∘λb:UInt8=>(b.toNat:U))=id:=by funext b;simp
 unfold CY kP;rw[iR,e,wi]
def CV(b:dO)(a:Bool):dO×Bool×dO:=let c:=jx b a 1;jx c.1 c.2.1 (num b a 1).toNat
def NX(g:Bytes a d n)(f:jp n):(convert 75 9 d).run aZ a=.ok (am<|CY n) a:=by
 rcases g with⟨rfl,rfl⟩|⟨k,b,e,rfl,i,h⟩;exact Lib.run_convert_nil_bytes a _ _ 5 0 underlying75 underlying5 underlying9;have:=uQ (P:=aZ) a 75 9 5 (R k b) e (n.map λx=>UInt8.ofNat x.toNat) underlying75 underlying5 underlying9 (λj c=>by simp at c;rw[dt,h j c];have l:=f n[j]<|ak c;simp[c];omega);simpa[CY]using this
def CX(h:Rd a b n K)(c:jp n)(F:y n<=140737488351232):cD aZ 200 #[aA b] a λA u=>A=aJ (am<|CY (CV n K).2.2)/\Rd u b (CV n K).1 (CV n K).2.1/\a.grownBy u (H b):=by
 have j:0<=num n K 1:=(sa c).1;have C:num n K 1<256:=(sa c).2;have d:=Y h;have l:=Y c;clear h c;go_in
 go_wp2_with fail
 apply(EA d l F).mono;rintro A O⟨rfl,o,p⟩;have e:=Y o;have f:=Y p;clear o p;obtain⟨v,k⟩:=dQ j;have t:(CV n K)=jx (jx n K 1).1 (jx n K 1).2.1 v:=by unfold CV;simp[k]
 have L:=(vf n K 1).1;have m:=Y t;have w:=Y (l.zN (shortqq:=K) (n:=1)).1;have E:v<256:=by omega
 have x:=Y k;clear t k;go_wp2_with fail
 rw[af x];apply(Jq v e (by omega)<|by omega).mono;rintro A P⟨N,rfl,q,r,B,s⟩;have D:=NX r w.zN.2;have g:=Y q;have i:=Y s;clear q r B s;go_wp2;go_ret;exact⟨by rw[af m];rfl,by rw[af m];exact g,KZ f i⟩
def Bytes.of_heap{w w':Z}(i:Bytes w d n)(l:w'.heap=w.heap):Bytes w' d n:=by
 rcases i with⟨rfl,rfl⟩|⟨j,b,e,rfl,g,h⟩;exact .inl ⟨rfl,rfl⟩;exact .inr ⟨j,b,e,rfl,g,λk i=>by rw[<-h k i];grind[World.cell?_of_block]⟩
def Rd.of_heap{w w':Z}(i:Rd w b n K)(h:w'.heap=w.heap):Rd w' b n K:=by
 obtain⟨v,d,e,g⟩:=i;exact⟨v,by rw[h];exact d,e.of_heap h,g⟩
def Steps.of_heap{w w':Z}(h:Steps w)(e:w'.heap=w.heap):Steps w':=λk b=>by
 rw[<-h k b];grind[World.cell?_of_block]
def Steps.grown{b:Option M}(h:Steps a)(d:a.grownBy f b)(c:b≠H 1):Steps f:=λk e=>d.cell (h k e)<|λg=>c g.symm
def Steps.alloc{w:Z}(h:Steps w)(o:Obj):Steps (cG w o):=λk c=>by
 have a:=h k c;have d:1<z (G w):=by by_cases b:1<z (G w);exact b;have:w.heap[(1:M)]?=none:=kG (by omega);simp[World.cell?,this]at a
 rw[<-a];grind[World.cell?_of_block,Below.heap_alloc]
def Steps.lt(h:Steps a):1<z (G a):=by
 have c:=h 0 (by decide);by_cases d:1<z (G a);exact d;have:a.heap[(1:M)]?=none:=kG (by omega);simp[World.cell?,this]at c
def qo(a b:U):0<=bits .xor .u32 a b/\bits .xor .u32 a b<4294967296:=⟨GN a b,GO a b⟩
def xF(a b:M)(e:a<4294967296)(f:b<4294967296):bits .xor .u32 ↑a ↑b=((a^^^b:M):U):=by
 have g:a^^^b<2^32:=Nat.xor_lt_two_pow (by omega) (by omega);have c:(BitVec.ofInt 32 (a:U)).toNat=a:=by rw[BitVec.ofInt_natCast,BitVec.toNat_ofNat];exact Nat.mod_eq_of_lt<|by omega
 have d:(BitVec.ofInt 32 (b:U)).toNat=b:=by rw[BitVec.ofInt_natCast,BitVec.toNat_ofNat];exact Nat.mod_eq_of_lt<|by omega
 show IntKind.u32.wrap ((BitVec.ofInt 32 (a:U)^^^BitVec.ofInt 32 (b:U)).toNat:U)=_;rw[BitVec.toNat_xor,c,d];simp[IntKind.wrap,IntKind.bits,IntKind.signed];omega
def Ol(a:0<=k/\k<4294967296)(b:0<=D/\D<4294967296)(c:0<=S/\S<4294967296)(h:bits .xor .u32 k S=bits .xor .u32 D S):k=D:=by
 obtain⟨k,rfl⟩:=dQ a.1;obtain⟨D,rfl⟩:=dQ b.1;obtain⟨S,rfl⟩:=dQ c.1;rw[xF k S (by omega) (by omega),xF D S (by omega)<|by omega]at h;have:=bR (·^^^S)<|yj h;simp only[Nat.xor_assoc,Nat.xor_self,Nat.xor_zero]at this;rw[this]
def Ji(a:0<=k/\k<4294967296)(b:0<=D/\D<4294967296)(c:0<=S/\S<4294967296)(h:bits .xor .u32 S k=bits .xor .u32 S D):k=D:=by
 obtain⟨k,rfl⟩:=dQ a.1;obtain⟨D,rfl⟩:=dQ b.1;obtain⟨S,rfl⟩:=dQ c.1;rw[xF S k (by omega) (by omega),xF S D (by omega)<|by omega]at h;have:=bR (S^^^·)<|yj h;simp only[<-Nat.xor_assoc,Nat.xor_self,zn]at this;rw[this]
def OQ:∀i<16,0<=Lw i/\Lw i<4294967296:=by decide
def Us:∀i<16,∀j<16,(Lw i).toNat>>>28=(Lw j).toNat>>>28->i=j:=by decide
def Ah(o:0<=k/\k<4294967296)(r:0<=D/\D<4294967296)(h:Au k=Au D):k=D:=by
 have e:(k%16).toNat<16:=by omega
 have f:(D%16).toNat<16:=by omega
 have j:=OQ _ e;have a:=OQ _ f;unfold Au at h;have n:(k%16).toNat=(D%16).toNat:=by refine Us _ e _ f ?_;generalize(k%16).toNat=u at*;generalize(D%16).toNat=v at*;obtain⟨p,g⟩:=dQ (show 0<=k/16 by omega);obtain⟨q,i⟩:=dQ (show 0<=D/16 by omega);obtain⟨s,c⟩:=dQ j.1;obtain⟨t,d⟩:=dQ a.1;rw[g,i,c,d,xF p s (by omega) (by omega),xF q t (by omega)<|by omega]at h;(have b:(p^^^s)>>>28=(q^^^t)>>>28:=by rw[yj h]);rw[sk,sk]at b;(have l:p>>>28=0:=by rw[sZ];exact Nat.div_eq_of_lt<|by omega);(have m:q>>>28=0:=by rw[sZ];exact Nat.div_eq_of_lt<|by omega);rw[l,m,zn,zn]at b;rw[c,d];exact b
 rw[n]at h;have:=Ol (by omega) (by omega) a h;omega
def Sm(a:0<=k/\k<4294967296)(b:0<=D/\D<4294967296)(h:nW k S=nW D S):k=D:=Ol a b (by omega)<|Ah (qo _ _) (qo _ _)<|Ah (qo _ _) (qo _ _) h
def Po(a:0<=k/\k<4294967296)(b:0<=D/\D<256)(c:0<=S/\S<256)(h:nW k D=nW k S):D=S:=by
 have:=Ji (by omega) (by omega) a<|Ah (qo _ _) (qo _ _)<|Ah (qo _ _) (qo _ _) h;omega
def Ew(e:0<=k/\k<256)(f:0<=D/\D<256)(h:kR (n++k::V)=kR (n++D::V)):k=D:=by
 have b:∀(l:dO)(a:U),(0<=a/\a<4294967296)->0<=l.foldl nW a/\l.foldl nW a<4294967296:=by
  intro l;induction l with
  |nil=>exactλa h=>h
  |cons g l c=>exactλa h=>c _<|qo _ _
 have d:∀(l:dO)(a b:U),(0<=a/\a<4294967296)->(0<=b/\b<4294967296)->l.foldl nW a=l.foldl nW b->a=b:=by
  intro l;induction l with
  |nil=>exactλa b _ _ h=>h
  |cons g l c=>exactλa b d e h=>Sm d e<|c _ _ (qo _ _) (qo _ _) h
 have a:=Ji (b _ _<|by omega) (b _ _<|by omega) (by decide) h;simp only[fM,fj]at a;exact Po (b _ _<|by omega) e f<|d _ _ _ (qo _ _) (qo _ _) a
def uj(c:dO):Prop:=∃b a,c=b++a/\y a=4/\jp a/\kL a≠kR b
