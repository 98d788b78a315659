import Derived.Deep.RegionWith
import Derived.Laws.BitsLemmas
import Derived.Laws.Entries
import Derived.Laws.IdiomStrings
import Derived.Lib.BufferRead
import Derived.Lib.EndianBits
import Derived.MapKept
import Derived.Maps.RangeWalk
import Derived.OpenShut
import Derived.OwnWalk
import Derived.Test.YtgbhcncpienkcaaGreatDoorChecked
import Derived.Test.YtgbhcncpienkcaaGreatDoorC0
open _root_ renaming List.length→y,Option.some→H,Array.size→z,Go.World.heap→G,Go.Value.ownBlock→ct,Go.World.cell?→aO,Go.World.setCell→cA,Go.World.alloc→cF,Bool.false→aY,Bool.true→bU,Nat→M,Int→Z,List→cw,Go.Calls→cD,Go.undef→ix,Go.Proofs.Tryz.prog→bz,Go.Value.slice→J,Go.Value.string→aj,Go.Value.bool→aK,Go.Value.pointer→fj,Go.Value.tuple→dw,Go.Value.agg→dW
namespace Go.Proofs.YtgbhcncpienkcaaGreatDoor
open ChangeShapes WideShapes RowKit Proofs.Tryz List
set_option maxHeartbeats 16000000
set_option linter.all false
set_option maxRecDepth 100000
variable{a f:Y}{b c g:M}{d u:aa}{m K S:Z}{p:eO}{x:iC}{D:Bool}
def qw:(prog.info? 5).map (λi=>(i.zero,i.size,i.bytes))=H (H<|tL 0,1,1):=by kernel_rfl
def eP(w:Y)(a:M)(v:aa)(b:eO):Prop:=w.ownsRow a 5 1 v (y b)<|b.map<|Value.int .u8
def eP.of(h:a.ownsRow b 5 1 d c x)(e:c=y p)(f:x=p.map (Value.int .u8)):eP a b d p:=by
 subst e;subst f;exact h
def eP.nil(w:Y)(a:M):eP w a aD []:=bK w a _ 1
def eP.alloc{w:Y}{a:eO}(h:eP w c d a)(o:Obj):eP (cF w o) c d a:=aN h o
def le:M->Z->eO
 |0,_=>[]
 |k+1,n=>n%256::le k (n/256)
theorem cC(k:M):∀n,y (le k n)=k:=by
 induction k with
 |zero=>intro n;rfl
 |succ k a=>intro n;simp[le,a]
def kY(s:ab):eO:=s.data.toList.map λb=>(b.toNat:Z)
def strCells_eq(s:ab):Lib.strCells s=(kY s).map (Value.int .u8):=by simp[Lib.strCells,kY]
theorem hZ(s:ab):y (kY s)=s.size:=by simp[kY]
def uf(a:M)(v:aa)(f:eO)(o:Z)(w:Y)(d:eP w a v f)(q:a<=z (G w))(r:y f<=70368744177664):cD bz 213 #[v,tL o] w λp l=>∃e,p=aL e/\eP l a e (f++[o])/\eL w l v e:=by
 obtain⟨n,m,g,i,j⟩:=cH qw;go_in
 go_wp2_with(first
  |(at_builtin;refine bO _ rfl _ _ 135 rfl a 5 n (.int .u8 0) 1 1 underlying135 m g i j rfl (by decide) _ _ _ rfl (d.alloc _) (R (z (G w)) 0) 1 1 [.int .u8 o] rfl rfl (pT _ _ _) ?c2 ?c3 ?c4 ?c5 ?_))
 case c2=>intro u k;simp at k;subst k;rfl
 case c3=>omega
 case c4=>omega
 case c5=>simp;omega
 intro e s c b;go_wp2;go_ret;exact⟨e,rfl,eP.of c (by simp) (by simp),b.alloc _⟩
def IL(w:Y)(a:iC)(t:TypeId):∀j u,a[j]?=H u->aO (cF w<|ar a.toArray t) (((R (z<|G w) 0):Addr).add j)=H u:=by
 intro j u b;rw[du];simp_all
def jL{baseqq:M}{v:aa}{bs:eO}(n:Z){w:Y}(c:eP w baseqq v bs)(q:baseqq<=z (G w))(r:y bs<=70368744177664)(o:0<=n)(p:n<4294967296):cD bz 215 #[v,dq n] w λk j=>∃d,k=aL d/\eP j baseqq d (bs++le 4 n)/\eL w j v d:=by
 obtain⟨m,l,e,f,g⟩:=cH qw;go_in
 go_wp2_with(first
  |(at_builtin;refine bO _ rfl _ _ 135 rfl baseqq 5 m (.int .u8 0) 1 1 underlying135 l e f g rfl (by decide) _ _ _ rfl (c.alloc _) (R (z (G w)) 0) 4 4 ((le 4 n).map (Value.int .u8)) rfl rfl ?c1 ?c2 ?c3 ?c4 ?c5 ?_))
 (case c1=>(have k:(#[Value.int IntKind.u8<|n%256,Value.int IntKind.u8<|n/256%256,Value.int IntKind.u8<|n/65536%256,Value.int IntKind.u8<|n/16777216]:Array aa)=((le 4 n).map<|Value.int .u8).toArray:=by simp[le];omega);rw[k];exact IL _ _ _);case c2=>intro u i;simp[le]at i;rcases i with rfl|rfl|rfl|rfl<;>rfl
 case c3=>omega
 case c4=>omega
 case c5=>simp;omega
 intro d s b a;go_wp2;go_ret;exact⟨d,rfl,eP.of b (by simp[le]) (by simp),a.alloc _⟩
def pF(a:M)(v:aa)(g:eO)(s:ab)(w:Y)(d:eP w a v g)(n:a<=z (G w))(p:y g<=70368744177664)(t:s.size<=255):cD bz 254 #[v,aj s] w λr m=>∃f,r=aL f/\eP m a f (g++(s.size:Z)::kY s)/\eL w m v f:=by
 obtain⟨q,o,j,k,l⟩:=cH qw;go_in
 go_wp2_with fail
 apply(uf a v g s.size w d n p).mono;rintro r x⟨u,rfl,i,e⟩
 go_wp2_with(first
  |(at_builtin;refine sP _ rfl _ _ 135 9 rfl a 5 q underlying135 underlying9 o j k l _ _ _ rfl i s rfl ?c1 ?c2 ?_))
 case c1=>simp;omega
 case c2=>have:=e.grown.size;omega
 intro f A c b;go_wp2;go_ret;exact⟨f,rfl,eP.of c (by simp[hZ];omega) (by simp[strCells_eq]),e.trans b⟩
def Ob(a b:Z):0<=bits .xor .u32 a b:=(bounds_u32<|wf_bits .xor .u32 a b).1
def Oc(a b:Z):bits .xor .u32 a b<4294967296:=by have:=(bounds_u32<|wf_bits .xor .u32 a b).2;omega
def ZR(x:Z)(a:0<=x)(b:x<4294967296):bits .and .u32 x 15=x%16:=by
 have:=bits_mask .u32 32 (by decide) wraps_u32 4 (by decide) x a (by omega);grind
def Yy(k:M):Z:=([0,498536548,997073096,651767980,1994146192,1802195444,1303535960,1342533948,3988292384,4027552580,3604390888,3412177804,2607071920,2262029012,2685067896,3183342108]:eO).getD k 0
def Steps(w:Y):Prop:=∀k,k<16->aO w (R 1 k)=H (dq<|Yy k)
def Steps.below{B:M}(h:Steps a)(c:Below B a f)(b:1<B):Steps f:=λk d=>(c.cell<|by exact b).trans<|h k d
def Ri(c:Z):Z:=bits .xor .u32 (c/16)<|Yy (c%16).toNat
def Be(a x:Z):Z:=Ri<|Ri<|bits .xor .u32 a<|x%4294967296
def yh(a:eO):Z:=a.foldl Be 4294967295
def ng(a:eO):Z:=bits .xor .u32 IntKind.u32.max<|yh a
def Qh(a x:Z):0<=Be a x:=Ob _ _
def Qi(a x:Z):Be a x<4294967296:=Oc _ _
def Nq(a:eO):0<=yh a/\yh a<4294967296:=by
 unfold yh;rcases wR a with rfl|⟨l,x,rfl⟩;simp;rw[List.concat_eq_append,iL];exact⟨Qh _ _,Qi _ _⟩
def zR(a:eO):0<=ng a:=Ob _ _
def Ci(a:eO):ng a<4294967296:=Oc _ _
def Qg(a:eO)(k:M)(h:k<y a):yh (a.take<|k+1)=Be (yh<|a.take k) a[k]:=by
 unfold yh;rw[ah h,iL];rfl
theorem XH(q c:M)(b:eO)(g:M)(i:Steps a)(m:∀k,k<y b->aO a (R q<|c+k)=H (tL<|b[k]?.getD 0))(f:y b<=140737488351232):cD bz 217 #[bB q c (y b) g] a λr o=>r=aL (dq<|ng b)/\o=a:=by
 have u:=Ob;have v:=Oc;have j:=ZR;have l:∀x:Z,aO a (R 1<|(x%16).toNat)=H (dq<|Yy (x%16).toNat):=λx=>i _ (by omega);clear i;go_in
 go_wp2;go_loop [3,8,5] (λa i x=>∃(k:M),k<=y b/\i=ap k/\a=dq (yh<|b.take k)) (λ_ i _=>y b-(intOf i).toNat)
 case atStart=>exact⟨0,bj _,rfl,rfl⟩
 (case round=>obtain⟨k,s,rfl,rfl⟩:=hrel;have t:=Nq<|b.take k;by_cases e:k<y b;(.have n:=m k e;have d:Hid (yh (b.take<|k+1)=Be (yh<|b.take k) b[k]):=Qg b k e;generalize yh (b.take k)=p at*;go_wp2;(go_round);(case rel=>exact⟨k+1,by omega,by go_num,by rw[d.out];rfl⟩);case measure=>simp[intOf];omega);go_wp2;go_ret;have d:b.take k=b:=cZ (by omega);rw[d];exact⟨rfl,rfl⟩)
def Bytes(w:Y)(v:aa)(b:eO):Prop:=(v=aD/\b=[])\/∃d a c,v=bB d a (y b) c/\y b<=c/\∀k,k<y b->aO w (R d<|a+k)=H (tL<|b[k]?.getD 0)
theorem eP.bytes(i:eP a b d p):Bytes a d p:=by
 unfold eP at i;rcases i.2 with⟨rfl,j⟩|⟨h,c,g,rfl,_,_,e,_⟩;exact .inl ⟨rfl,aP j⟩;refine .inr ⟨h,0,c,rfl,e,λl k=>?_⟩;have:=i.cells (g:=h) rfl l (tL<|p[l]?.getD 0) (by simp[k]);grind[Addr.add_lit]
def Bytes.below{B:M}{g:eO}(l:Bytes a d g)(i:Below B a f)(h:∀k,ct d=H k->k<B):Bytes f d g:=by
 rcases l with⟨rfl,rfl⟩|⟨m,b,c,rfl,e,j⟩;exact .inl ⟨rfl,rfl⟩;exact .inr ⟨m,b,c,rfl,e,λk l=>(i.cell<|by exact h m rfl).trans<|j k l⟩
def sum_nil(w:Y):cD bz 217 #[aD] w λe a=>e=aL (dq<|ng [])/\a=w:=by
 go_in
 go_wp2;go_loop [3,8,5] (λc i x=>i=ap 0/\c=dq 4294967295) (λ_ _ _=>0)
 case atStart=>grind
 (case round=>obtain⟨rfl,rfl⟩:=hrel;go_wp2;go_ret;exact⟨rfl,rfl⟩)
def sA(v:aa)(b:eO)(w:Y)(h:Steps w)(e:Bytes w v b)(a:y b<=140737488351232):cD bz 217 #[v] w λg f=>g=aL (dq<|ng b)/\f=w:=by
 rcases e with⟨rfl,rfl⟩|⟨j,c,d,rfl,_,i⟩;exact sum_nil w;grind[XH]
def E0(n:Z):le 4 (n%4294967296)++le 4 (n/4294967296)=le 8 n:=by
 simp[le];omega
def pG{baseqq:M}{v:aa}{bs:eO}(n:Z){w:Y}(b:eP w baseqq v bs)(k:baseqq<=z (G w))(p:y bs<=35184372088832)(m:0<=n)(o:n<18446744073709551616):cD bz 212 #[v,aJ n] w λj g=>∃f,j=aL f/\eP g baseqq f (bs++le 8 n)/\eL w g v f:=by
 have i:Hid (le 4 (n%4294967296)++le 4 (n/4294967296)=le 8 n):=E0 n;go_in
 go_wp2_with fail
 apply(jL (n%4294967296) b k (by omega) (by omega)<|by omega).mono;rintro j r⟨q,rfl,d,c⟩;go_wp2_with fail
 refine(jL (n/4294967296) d (by have:=c.grown.size;omega) (by simp[cC];omega) (by omega)<|by omega).mono ?_;rintro j s⟨l,rfl,a,e⟩;go_wp2;go_ret;refine⟨l,rfl,?_,c.trans e⟩;rw[bD,i.out]at a;exact a
def Eu(j:Steps a)(c:eP a b d p)(k:b<=z (G a))(n:y p<=35184372088832):cD bz 216 #[d] a λi f=>∃e,i=aL e/\eP f b e (p++le 4 (ng p))/\eL a f d e:=by
 have g:=zR p;have c1:=Ci p;go_in
 go_wp2_with fail
 apply(sA d p a j c.bytes<|by omega).mono;rintro i q⟨rfl,rfl⟩;go_wp2_with fail
 apply(jL (ng p) c k (by omega) g c1).mono;rintro i r⟨o,rfl,l,m⟩;go_wp2;go_ret;simp_all
def Et(n:Z)(w:Y)(b:0<=n)(c:n<=140737488351232):cD bz 248 #[ap n] w λe a=>e=aL (ap<|n+4)/\a=w:=by
 go_in
 go_wp2;go_ret;simp_all
def Rd(w:Y)(c:M)(b:eO)(a:Bool):Prop:=∃v,w.heap[c]?=H (ar #[v,aK a] 397 (0,0))/\Bytes w v b/\∀k,ct v=H k->k<c
def Bytes.grown{c:Option M}(i:Bytes a d p)(k:a.grownBy f c)(h:ct d≠c\/ct d=none):Bytes f d p:=by
 rcases i with⟨rfl,rfl⟩|⟨m,b,e,rfl,g,j⟩;exact .inl ⟨rfl,rfl⟩;refine .inr ⟨m,b,e,rfl,g,λn l=>k.cell (j n l) ?_⟩;rcases h with i|i;exact i;simp[ct]at i
def Bytes.alloc{w:Y}{g:eO}(m:Bytes w d g)(o:Obj):Bytes (cF w o) d g:=by
 rcases m with⟨rfl,rfl⟩|⟨b,a,c,rfl,e,j⟩;exact .inl ⟨rfl,rfl⟩;refine .inr ⟨b,a,c,rfl,e,λn k=>?_⟩;have h:=j n k;(have l:b<z (G w):=by by_cases i:b<z (G w);exact i;have:w.heap[b]?=none:=jq (by omega);simp[World.cell?,this]at h);rw[<-h];grind[World.cell?_of_block,Below.heap_alloc]
def Bytes.take{f b c n:M}{bs:eO}(h:Bytes a (bB f b (y bs) c) bs)(m:n<=y bs):Bytes a (bB f b n c) (bs.take n):=by
 rcases h with⟨h,_⟩|⟨j,e,d,h,i,g⟩;cases h;cases h;(have k:y (bs.take n)=n:=by simp;omega);refine .inr ⟨f,b,c,by rw[k],by omega,λo l=>?_⟩;rw[g o (by omega),oI<|by omega]
def Bytes.Cf{f b c n:M}(h:Bytes a (bB f b (y p) c) p)(l:n<=y p):Bytes a (bB f (b+n) (y p-n)<|c-n) (p.drop n):=by
 rcases h with⟨h,_⟩|⟨i,e,d,h,g,j⟩;cases h;cases h;refine .inr ⟨f,b+n,c-n,by simp,by simp;omega,λm k=>?_⟩;grind
def Bytes.lt{bs:eO}(n:Bytes a d bs)(l:bs≠[]):∀m,ct d=H m->m<z (G a):=by
 rcases n with⟨rfl,rfl⟩|⟨b,c,g,rfl,k,j⟩;grind
 intro m e;simp[ct]at e;subst e;have h:=j 0 (by cases bs<;>simp_all);by_cases i:b<z (G a);exact i;have:a.heap[b]?=none:=jq (by omega);simp[World.cell?,this]at h
def SH{a:Addr}(h:ct (J (H a) b c)=H g):a.block=g:=by simpa[ct]using h
def nr(f:Bytes a d p)(c:∀k,ct d=H k->k<z (G a)):cD bz 234 #[d] a λj b=>j=aL (ay<|z<|G a)/\Rd b (z<|G a) p aY/\b=cF a (ar #[d,aK aY] 397):=by
 have fin:∀b,b=cF a (ar #[d,aK aY] 397)->Rd b (z<|G a) p aY:=by rintro b rfl;exact⟨d,jl _ _,f.alloc _,c⟩
 have F:Hid (∀b,b=cF a (ar #[d,aK aY] 397)->Rd b (z<|G a) p aY):=fin;clear fin;rcases f with⟨rfl,rfl⟩|⟨m,e,g,rfl,i,l⟩;(.clear c;(go_in);go_wp2;go_ret;exact⟨rfl,F.out _ rfl,rfl⟩);clear c;(go_in);go_wp2;go_ret;exact⟨rfl,F.out _ rfl,rfl⟩
def jV(a:eO)(b:Bool)(n:M):eO×Bool×eO:=if b=bU\/y a<n then(a,bU,[])else(a.drop n,aY,a.take n)
def Rd.short(f:a.heap[b]?=H (ar #[d,aK D] 397 (0,0)))(e:Bytes a d p)(c:∀k,ct d=H k->k<b):Rd (cA a (R b 1)<|aK bU) b p bU:=⟨d,by rw[aT f];rfl,e.grown (de a b 1 _)<|.inl<|λg=>kU _<|c _ g,c⟩
def Rd.VF(f:a.heap[b]?=H (ar #[d,aK D] 397 (0,0)))(e:Bytes a u p)(c:∀k,ct u=H k->k<b):Rd (cA a (R b 0) u) b p D:=⟨u,by rw[aT f];rfl,e.grown (de a b 0 _)<|.inl<|λg=>kU _<|c _ g,c⟩
def Le(n:M)(h:Rd a b p D)(hr:y p<=140737488351232)(X:n<=1000000):cD bz 288 #[ay b,ap n] a λo F=>∃E,o=aL E/\Rd F b (jV p D n).1 (jV p D n).2.1/\Bytes F E (jV p D n).2.2/\ct E≠H b/\a.grownBy F (H b):=by
 obtain⟨V,k,w,r⟩:=h;have u:Hid (Bytes a V p):=w;have O:=cellAt k 0 rfl;have P:=cellAt k 1 rfl;have Q:=dE (i:=0) k;have S:=dE (i:=1) k;have v:Hid (a.heap[b]?=H (ar #[V,aK D] 397 (0,0))):=k;have g:Hid (∀T,ct V=H T->T<b):=r;clear k r;by_cases e:D=bU\/y p<n
 .have f:Hid (jV p D n=(p,bU,[])):=by unfold Hid jV;rw[dz e]
  have fin:Rd (cA a (R b 1)<|aK bU) b p bU/\a.grownBy (cA a (R b 1)<|aK bU) (H b):=⟨Rd.short v.out u.out g.out,de _ _ _ _⟩;have j:Hid (Rd (cA a (R b 1)<|aK bU) b p bU/\a.grownBy (cA a (R b 1)<|aK bU) (H b)):=fin;clear fin;have t:Bytes (cA a (R b 1)<|aK bU) aD []:=.inl ⟨rfl,rfl⟩;have l:Hid (Bytes (cA a (R b 1)<|aK bU) aD []):=t;clear t;cases D with
  |true=>
   clear e w;go_in
   go_wp2;go_ret;exact⟨_,rfl,by rw[f.out];exact j.out.1,by rw[f.out];exact l.out,by simp[ct],j.out.2⟩
  |false=>
   have q:y p<n:=by simpa using e
   clear e;rcases w with⟨rfl,rfl⟩|⟨K,c,d,rfl,C,N⟩;all_goals
    go_in
    go_wp2;go_ret;exact⟨_,rfl,by rw[f.out];exact j.out.1,by rw[f.out];exact l.out,by simp[ct],j.out.2⟩
 (have f:Hid (jV p D n=(p.drop n,aY,p.take n)):=by unfold Hid jV;rw[dr e]);obtain⟨L,q⟩:=not_or.1 e;(obtain rfl:D=aY:=by simpa using L);clear e L;rcases w with⟨rfl,rfl⟩|⟨K,c,d,rfl,C,N⟩;(·(obtain rfl:n=0:=by simpa using q);have t:Bytes a aD []:=.inl ⟨rfl,rfl⟩;have j:=Rd.VF v.out t g.out;have m:=U j;clear j t;(go_in);go_wp2;go_ret;exact⟨_,rfl,by rw[f.out];exact m,by rw[f.out];exact .inl ⟨rfl,rfl⟩,λo=>kU _<|g.out _ o,de _ _ _ _⟩);by_cases B:d=n;(.subst B;(have x:p.drop d=[]:=by simp;omega);(have W:y p=d:=by omega);have l:Bytes a (bB K c 0 0) (p.drop d):=.inr ⟨K,c,0,by rw[x];rfl,by rw[x];simp,λT b=>by rw[x]at b;simp at b⟩;have s:=(Bytes.take u.out (n:=d)<|by omega).grown (de a b 0<|bB K c 0 0)<|.inl<|λo=>kU _<|g.out _ o;have j:=Rd.VF v.out l g.out;have A:=U s;have m:=U j;clear l s j x;(go_in);go_wp2;go_ret;exact⟨_,rfl,by rw[f.out];exact m,by rw[f.out];exact A,λo=>kU _<|g.out _ o,de _ _ _ _⟩);have l:=Bytes.Cf u.out (n:=n) (by omega);have s:=(Bytes.take u.out (n:=n)<|by omega).grown (de a b 0<|bB K (c+n) (y p-n)<|d-n)<|.inl<|λo=>kU _<|g.out _ o;have j:=Rd.VF v.out l g.out;obtain⟨x,A,m⟩:=dA l s j;clear l s j;(go_in);go_wp2;go_ret;exact⟨_,rfl,by rw[f.out];exact m,by rw[f.out];exact A,λo=>kU _<|g.out _ o,de _ _ _ _⟩
def kE(a:eO):Prop:=∀x∈a,0<=x/\x<256
def kE.take{bs:eO}(h:kE bs)(n:M):kE (bs.take n):=λx a=>h x<|fJ a
def kE.drop(h:kE p)(n:M):kE (p.drop n):=λx a=>h x<|dK a
def kE.append{b:eO}(h:kE p)(k:kE b):kE (p++b):=λx a=>(aE.1 a).elim (h x)<|k x
def kE.Az{shortqq:Bool}{n:M}(h:kE p):kE (jV p shortqq n).1/\kE (jV p shortqq n).2.2:=by
 unfold jV;split;exact⟨h,λx a=>by cases a⟩;exact⟨h.drop n,h.take n⟩
def vX(b:eO)(a:Bool)(n:M):y (jV b a n).1<=y b/\y (jV b a n).2.2<=n:=by
 unfold jV;grind
def kE.le(k:M):∀n,kE (le k n):=by
 induction k with
 |zero=>intro n x a;cases a
 |succ k b=>
  intro n x a;rcases bH.1 a with rfl|a
  .omega
  .exact b _ x a
def kE.text(s:ab):kE (kY s):=by
 intro x a;obtain⟨b,_,rfl⟩:=bW.1 a;have:=b.toNat_lt;omega
def mN:eO->Z
 |[]=>0
 |x::r=>x+256*mN r
def ui:∀(l:eO),kE l->0<=mN l/\mN l<256^y l
 |[],_=>by simp[mN]
 |x::r,h=>by
  have a:=h x<|.head _;have c:=ui r<|λa b=>h a<|.tail _ b;simp only[mN,aS,Ad];omega
def Fq:∀(l:eO)(x:Z),mN (l++[x])=mN l+x*256^y l
 |[],x=>by simp[mN]
 |yqq::r,x=>by
  simp only[cL,mN,aS,Ad,Fq r x];grind
def AL:∀(k:M)(n:Z),0<=n->mN (le k n)=n%256^k
 |0,n,_=>by simp[mN,le]
 |k+1,n,h=>by
  simp only[le,mN,AL k (n/256) (by omega),Ad];obtain⟨m,rfl⟩:=uW h;have:=Nat.mod_mul (x:=m) (a:=256) (b:=256^k);rw[Int.mul_comm (256^k) 256];grind
def XZ(h:kE p)(j:y p<=8)(k:M)(d:k<y p):mN (p.take<|k+1)=bits .or .u64 (mN<|p.take k) (IntKind.u64.wrap<|p[k]*2^(8*k)):=by
 have c:=ui (p.take k)<|h.take k;have e:y (p.take k)=k:=by simp;omega
 rw[ah d,Fq,e];rw[e]at c;have m:=h p[k]<|ak d;have i:(256:Z)^k=2^(8*k):=by rw[Int.pow_mul];rfl
 rw[i]at c|-;have l:(0:Z)<2^(8*k):=Int.pow_pos (by decide);have f:(2:Z)^(8*k)*256<=2^64:=by(have:(2:Z)^(8*k)*256=2^(8*k+8):=by rw[Int.pow_add];rfl);rw[this];exact_mod_cast Nat.pow_le_pow_right (by decide) (by omega)
 have g:p[k]*2^(8*k)<=255*2^(8*k):=Int.mul_le_mul_of_nonneg_right (by omega) (by omega);have a:0<=p[k]*2^(8*k):=Int.mul_nonneg (by omega) (by omega);have b:p[k]*2^(8*k)<2^64:=by omega
 rw[wraps_u64 _ a b,bits_join_low .u64 64 (by decide) wraps_u64 (8*k) _ _ c.1 c.2 (by omega) a (Int.mul_emod_left _ _) b]
def ET(n:M)(h:Rd a b p D)(f:kE p)(F:y p<=140737488351232)(P:n<=8):cD bz 271 #[ay b,ap n] a λL w=>L=aL (aJ<|mN (jV p D n).2.2)/\Rd w b (jV p D n).1 (jV p D n).2.1/\a.grownBy w (H b):=by
 have q:=U f;clear f;go_in
 go_wp2_with fail
 apply(Le n h F<|by omega).mono;rintro L T⟨S,rfl,g,i,j,u⟩;have O:=(vX p D n).2;obtain⟨s,r,o⟩:=dA (q.Az (shortqq:=D) (n:=n)).2 g u;clear g u j h q;generalize t:(jV p D n).2.2=c at*;have m:=U t;clear t;rcases i with⟨rfl,rfl⟩|⟨V,l,A,rfl,E,C⟩;(.go_wp2;(go_loop [5,12,6,7] (λx v _ _=>v=ap 0/\x=aJ 0) (λ_ _ _ _=>0));(case atStart=>grind);(case round=>obtain⟨rfl,rfl⟩:=hrel;go_wp2;go_ret;exact⟨by rw[ae m];rfl,r,o⟩));(.go_wp2;(go_loop [5,12,6,7] (λx v _ _=>∃(k:M),k<=y c/\v=ap k/\x=aJ (mN<|c.take k)) (λ_ v _ _=>y c-(intOf v).toNat));(case atStart=>exact⟨0,bj _,rfl,rfl⟩);(case round=>obtain⟨k,N,rfl,rfl⟩:=hrel;by_cases e:k<y c;(.have B:=C k e;have Q:=s c[k]<|ak e;have d:=U<|XZ s (by omega) k e;generalize mN (c.take k)=K at*;go_wp2;(go_round);(case rel=>exact⟨k+1,by omega,by go_num,by rw[ae d]⟩);case measure=>simp[intOf];omega);go_wp2;go_ret;have d:c.take k=c:=cZ (by omega);rw[d];exact⟨by rw[ae m];rfl,r,o⟩))
def VU(h:kE p)(a:y p<=b):mN p<256^b:=by
 have c:=(ui p h).2;have d:(256:Z)^y p<=256^b:=by exact_mod_cast Nat.pow_le_pow_right (by decide) a
 omega
def num(c:eO)(a:Bool)(n:M):Z:=mN (jV c a n).2.2
def sD(h:kE p):0<=num p D b/\num p D b<256^b:=⟨(ui _ h.Az.2).1,VU h.Az.2 (vX p D b).2⟩
def MC(h:Rd a b p D)(c:kE p)(j:y p<=140737488351232):cD bz 235 #[ay b] a λk e=>k=aL (aJ<|num p D 8)/\Rd e b (jV p D 8).1 (jV p D 8).2.1/\a.grownBy e (H b):=by
 have d:=U h;have f:=U c;clear h c;go_in
 go_wp2_with fail
 apply(ET 8 d f j<|by omega).mono;rintro k l⟨rfl,g,i⟩;go_wp2;go_ret;exact⟨rfl,g,i⟩
def ES(n:M)(h:Rd a b p D)(c:kE p)(f:y p<=140737488351232)(e:n<=8):cD bz 271 #[ay b,ap n] a λg d=>g=aL (aJ<|num p D n)/\Rd d b (jV p D n).1 (jV p D n).2.1/\a.grownBy d (H b):=ET n h c f e
def QL{k:IntKind}(h:m=K):Ending.returned (.int k m)=aL (.int k K):=by rw[h]
def KU(c:M)(a:Bool)(w:Y)(h:Rd w c p a)(b:kE p)(n:y p<=140737488351232):cD bz 236 #[ay c] w λo j=>o=aL (dq<|num p a 4)/\Rd j c (jV p a 4).1 (jV p a 4).2.1/\w.grownBy j (H c):=by
 have l:0<=num p a 4:=(sD b).1;have m:num p a 4<4294967296:=(sD b).2;have d:=U h;have k:=U b;clear h b;go_in
 go_wp2_with fail
 apply(ES 4 d k n<|by omega).mono;rintro o q⟨rfl,g,i⟩;have e:=U g;have f:=U i;clear g i;go_wp2;go_ret;exact⟨QL (by omega),e,f⟩
def FU(h:Rd a b p D)(c:kE p)(n:y p<=140737488351232):cD bz 240 #[ay b] a λo j=>o=aL (tL<|num p D 1)/\Rd j b (jV p D 1).1 (jV p D 1).2.1/\a.grownBy j (H b):=by
 have l:0<=num p D 1:=(sD c).1;have m:num p D 1<256:=(sD c).2;have d:=U h;have k:=U c;clear h c;go_in
 go_wp2_with fail
 apply(ES 1 d k n<|by omega).mono;rintro o q⟨rfl,g,i⟩;have e:=U g;have f:=U i;clear g i;go_wp2;go_ret;exact⟨QL (by omega),e,f⟩
def Hm(h:Rd a b p D):cD bz 237 #[ay b] a λi g=>i=aL (aK D)/\g=a:=by
 obtain⟨v,d,e,c⟩:=h;have f:=cellAt d 1 rfl;clear d e c;go_in
 go_wp2;go_ret;simp_all
def ye(h:Rd a b p D)(o:y p<=140737488351232):cD bz 238 #[ay b] a λm l=>m=aL (aK<|!D&&p.isEmpty)/\l=a:=by
 obtain⟨v,c,g,d⟩:=h;have i:=cellAt c 0 rfl;have j:=cellAt c 1 rfl;clear c d;cases D with
 |true=>
  go_in
  go_wp2;go_ret;simp_all
 |false=>
  rcases g with⟨rfl,rfl⟩|⟨s,e,f,rfl,k,n⟩
  .go_in
   go_wp2;go_ret;simp_all
  .cases p with
   |nil=>
    go_in
    go_wp2;go_ret;simp_all
   |cons x r=>
    have q:((y (x::r):Z)==0)=aY:=by simp;omega
    go_in
    go_wp2;go_ret;simp_all
def Ed(a:eO):ab:=⟨(a.map λx=>UInt8.ofNat x.toNat).toArray⟩
theorem vW(s:ab):Ed (kY s)=s:=by
 have e:((λx:Z=>UInt8.ofNat x.toNat)∘λb:UInt8=>(b.toNat:Z))=id:=by funext b;simp
 unfold Ed kY;rw[iz,e,tW]
def Ea(b:eO)(a:Bool):eO×Bool×eO:=let c:=jV b a 1;jV c.1 c.2.1 (num b a 1).toNat
def Qk(g:Bytes a d p)(f:kE p):(convert 135 9 d).run bz a=.ok (aj<|Ed p) a:=by
 rcases g with⟨rfl,rfl⟩|⟨k,b,e,rfl,i,h⟩;exact Lib.run_convert_nil_bytes a _ _ 5 0 underlying135 underlying5 underlying9;have:=vK (P:=bz) a 135 9 5 (R k b) e (p.map λx=>UInt8.ofNat x.toNat) underlying135 underlying5 underlying9 (λj c=>by simp at c;rw[du,h j c];have l:=f p[j]<|ak c;simp[c];omega);simpa[Ed]using this
def Ec(h:Rd a b p D)(c:kE p)(K:y p<=140737488351232):cD bz 272 #[ay b] a λA u=>A=aL (aj<|Ed (Ea p D).2.2)/\Rd u b (Ea p D).1 (Ea p D).2.1/\a.grownBy u (H b):=by
 have j:0<=num p D 1:=(sD c).1;have C:num p D 1<256:=(sD c).2;have d:=U h;have l:=U c;clear h c;go_in
 go_wp2_with fail
 apply(FU d l K).mono;rintro A O⟨rfl,n,o⟩;have e:=U n;have f:=U o;clear n o;obtain⟨v,k⟩:=uW j;have t:(Ea p D)=jV (jV p D 1).1 (jV p D 1).2.1 v:=by unfold Ea;simp[k]
 have L:=(vX p D 1).1;have m:=U t;have w:=U (l.Az (shortqq:=D) (n:=1)).1;have F:v<256:=by omega
 have x:=U k;clear t k;go_wp2_with fail
 rw[ae x];apply(Le v e (by omega)<|by omega).mono;rintro A P⟨N,rfl,q,r,B,s⟩;have E:=Qk r w.Az.2;have g:=U q;have i:=U s;clear q r B s;go_wp2;go_ret;exact⟨by rw[ae m];rfl,by rw[ae m];exact g,xW f i⟩
def Bytes.of_heap{w w':Y}(i:Bytes w d p)(l:w'.heap=w.heap):Bytes w' d p:=by
 rcases i with⟨rfl,rfl⟩|⟨j,b,e,rfl,g,h⟩;exact .inl ⟨rfl,rfl⟩;exact .inr ⟨j,b,e,rfl,g,λk i=>by rw[<-h k i];grind[World.cell?_of_block]⟩
def Rd.of_heap{w w':Y}(i:Rd w b p D)(h:w'.heap=w.heap):Rd w' b p D:=by
 obtain⟨v,d,e,g⟩:=i;exact⟨v,by rw[h];exact d,e.of_heap h,g⟩
def Steps.of_heap{w w':Y}(h:Steps w)(e:w'.heap=w.heap):Steps w':=λk b=>by
 rw[<-h k b];grind[World.cell?_of_block]
def Steps.grown{b:Option M}(h:Steps a)(d:a.grownBy f b)(c:b≠H 1):Steps f:=λk e=>d.cell (h k e)<|λg=>c g.symm
def Steps.alloc{w:Y}(h:Steps w)(o:Obj):Steps (cF w o):=λk d=>by
 have a:=h k d;have e:1<z (G w):=by by_cases c:1<z (G w);exact c;have:w.heap[(1:M)]?=none:=jq (by omega);simp[World.cell?,this]at a
 rw[<-a];grind[World.cell?_of_block,Below.heap_alloc]
def Steps.lt(h:Steps a):1<z (G a):=by
 have c:=h 0 (by decide);by_cases d:1<z (G a);exact d;have:a.heap[(1:M)]?=none:=jq (by omega);simp[World.cell?,this]at c
def Kw(b c:ab):(b==c)=decide (b=c):=by
 obtain⟨x⟩:=b;obtain⟨a⟩:=c;show(x==a)=_;by_cases h:x=a;simp[h];simp[h]
abbrev fi:=cw<|ab×aa
def fi.get(m:fi)(k:ab):Option aa:=match m with
 |[]=>none
 |p::r=>if p.1=k then H p.2 else fi.get r k
def Fits(a:cw MapEntry)(m:fi):Prop:=a.map (λe=>(e.key,e.val))=m.map (λp=>(aj p.1,p.2))
def Fits.cons_inv{e:MapEntry}{a:cw MapEntry}{m:fi}(h:Fits (e::a) m):∃p r,m=p::r/\e.key=aj p.1/\e.val=p.2/\Fits a r:=by
 cases m with
 |nil=>simp[Fits]at h
 |cons p r=>
  simp[Fits]at h;exact⟨p,r,rfl,h.1.1,h.1.2,h.2⟩
def Kf(k:ab):∀(a:cw MapEntry)(m:fi)(i:M),Fits a m->∃l,Instr.findNow .string (aj k) a i=H ((m.get k).map λv=>(l,v)):=by
 intro a;induction a with
 |nil=>
  intro m i h;obtain rfl:m=[]:=by simpa[Fits]using h
  exact⟨0,rfl⟩
 |cons n a j=>
  intro m i h;obtain⟨p,r,rfl,c,g,f⟩:=h.cons_inv;by_cases d:p.1=k
  .refine⟨i,?_⟩;simp[Instr.findNow,Instr.sameNow,c,fi.get,d,g,Kw]
  .obtain⟨l,e⟩:=j r (i+1) f;refine⟨l,?_⟩;have b:(k==p.1)=aY:=by rw[Kw];grind
   simp[Instr.findNow,Instr.sameNow,c,fi.get,d,b,e]
def gI(w:Y)(c:M)(m:fi):Prop:=∃b a,w.heap[c]?=H (.map b a)/\Fits b.toList m/\MapKept.Stamped b a
def uc{P:Program}{mt l i n:M}{m:fi}{u:TypeInfo}(s:P.underlying mt=H (.map l i))(j:P.underlying l=H .string)(q:P.info? i=H u)(t:u.zero=H d)(v:gI a n m)(k:ab):(Instr.lookup mt (.map<|H n) (aj k) aY).run P a=.ok ((m.get k).getD d) a:=by
 obtain⟨c,b,p,o,_⟩:=v;obtain⟨w,r⟩:=Kf k c.toList m 0 o;have e:=eQ (P:=P) (w:=a) (k:=aj k) j (by trivial) c.isEmpty 9999;have g:=eN (P:=P) (w:=a) j r;have h:(getObj n).run P a=.ok (.map c b) a:=by simp[getObj,Sem.run,p]
 unfold Instr.lookup;rw[ki,eG s];simp only[jm,ki,h,pV];rw[show(10000:M)=9999+1 from rfl,e];simp only[jm,g];cases hg:m.get k with
 |none=>simp[zeroValue,typeInfo,q,t]
 |some x=>simp
section
open ChangeMaps (setBlock)
def fi.put(m:fi)(k:ab)(v:aa):fi:=match m with
 |[]=>[(k,v)]
 |p::r=>if p.1=k then(k,v)::r else p::fi.put r k v
def fi.del(m:fi)(k:ab):fi:=match m with
 |[]=>[]
 |p::r=>if p.1=k then r else p::fi.del r k
theorem Fits.cons{e:MapEntry}{b:cw MapEntry}{p:ab×aa}{m:fi}(d:e.key=aj p.1)(f:e.val=p.2)(h:Fits b m):Fits (e::b) (p::m):=by
 simp[Fits,d,f];exact h
theorem Iz(k:ab):∀(d:cw MapEntry)(m:fi)(q:M),Fits d m->(Instr.findNow .string (aj k) d q=H none/\m.get k=none/\(∀e∈d,e.key≠aj k)/\m.del k=m/\∀v,m.put k v=m++[(k,v)])\/∃r e,Instr.findNow .string (aj k) d q=H (H (q+r,e.val))/\d[r]?=H e/\e.key=aj k/\m.get k=H e.val/\(∀v,Fits (d.modify r λe=>{e with key:=aj k,val:=v})<|m.put k v)/\Fits (d.eraseIdx r) (m.del k):=by
 intro d;induction d with
 |nil=>
  intro m q u;obtain rfl:m=[]:=by simpa[Fits]using u
  exact .inl ⟨rfl,rfl,by simp,rfl,λ_=>rfl⟩
 |cons e d A=>
  intro m q u;obtain⟨B,C,rfl,f,p,n⟩:=u.cons_inv;by_cases b:B.1=k
  .refine .inr ⟨0,e,?_,rfl,by rw[f,b],?_,?_,?_⟩
   .simp[Instr.findNow,Instr.sameNow,f,b,Kw]
   .simp[fi.get,b,p]
   .intro v;simp only[fi.put,b,ir,qK];exact Fits.cons rfl rfl n
   .simpa[fi.del,b]using n
  .have g:(k==B.1)=aY:=by rw[Kw];grind
   rcases A C (q+1) n with⟨h,i,s,j,l⟩|⟨r,t,h,i,s,j,l,x⟩
   .refine .inl ⟨?_,?_,?_,?_,?_⟩
    .simp[Instr.findNow,Instr.sameNow,f,g,h]
    .simp[fi.get,b,i]
    .grind
    .simp[fi.del,b,j]
    .intro v;simp[fi.put,b,l]
   .refine .inr ⟨r+1,t,?_,by simpa using i,s,?_,?_,?_⟩
    .simp[Instr.findNow,Instr.sameNow,f,g,h];omega
    .simp[fi.get,b,j]
    .intro v;simp only[fi.put,b,jk,qL];exact Fits.cons f p<|l v
    .simp only[fi.del,b,jk,uV];exact Fits.cons f p x
theorem iR(w:Y)(d:M)(o:Obj):w.grownBy (setBlock w d o) (H d):=⟨rfl,rfl,rfl,by simp[setBlock],λk _ b=>by
 simp only[setBlock];rw[jP (λe=>b (by rw[e]))]⟩
theorem CJ{P:Program}{w:Y}{mt v A p:M}{B:fi}(u:P.underlying mt=H (.map v A))(h:P.underlying v=H .string)(E:gI w p B)(k:ab)(x:aa):∃i,(Instr.mapUpdate mt (.map<|H p) (aj k) x).run P w=.ok () i/\gI i p (B.put k x)/\w.grownBy i (H p)/\z (G i)=z (G w):=by
 obtain⟨g,b,f,n,t⟩:=E;have d:=jo (P:=P) f;rcases Iz k g.toList B 0 n with⟨j,q,l,_,r⟩|⟨C,e,j,q,l,F,r,_⟩;refine⟨setBlock w p<|.map (g.push {key:=aj k,val:=x,born:=b})<|b+1,?_,?_,iR _ _ _,by simp[setBlock]⟩;simp[Instr.mapUpdate,eG u,d,eQ h (show MapKept.IsKey .string (aj k)by trivial),eN h j,fG _ f,Result.andThen,setBlock];refine⟨_,_,(fN f).1,?_,rG t l⟩;rw[r];simp[Fits]at n|-;exact n;(have s:g[C]?=H e:=by simpa using q);refine⟨setBlock w p<|.map (g.modify C λe=>{e with key:=aj k,val:=x}) b,?_,?_,iR _ _ _,by simp[setBlock]⟩;simp[Instr.mapUpdate,eG u,d,eQ h (show MapKept.IsKey .string (aj k)by trivial),eN h j,s,l,oF (show MapKept.IsKey .string (aj k)by trivial),fG _ f,Result.andThen,setBlock];refine⟨_,_,(fN f).1,?_,pW t _ _ (λ_ _=>rfl) (λD _ m=>by rw[s]at m;grind)⟩;grind
theorem Ly{P:Program}{w:Y}{mt k s l:M}{A:fi}(q:P.underlying mt=H (.map k s))(g:P.underlying k=H .string)(D:gI w l A)(r:ab)(B:TypeId):∃h,(Builtin.delete_ #[mt,k] B #[.map<|H l,aj r]).run P w=.ok (dw #[]) h/\gI h l (A.del r)/\w.grownBy h (H l)/\z (G h)=z (G w):=by
 obtain⟨d,b,f,n,p⟩:=D;have e:=jo (P:=P) f;rcases Iz r d.toList A 0 n with⟨i,j,t,m,u⟩|⟨x,C,i,j,t,m,u,E⟩;refine⟨setBlock w l<|.map d b,?_,?_,iR _ _ _,by simp[setBlock]⟩;simp[Builtin.delete_,eG q,e,eQ g (show MapKept.IsKey .string (aj r)by trivial),eN g i,fG _ f,Result.andThen,setBlock];rw[m];exact⟨_,_,(fN f).1,n,p⟩;(have F:d[x]?=H C:=by simpa using j);(have v:x<d.size:=by have:=iD.1 j;grind);refine⟨setBlock w l<|.map (d.eraseIdxIfInBounds x) b,?_,?_,iR _ _ _,by simp[setBlock]⟩;simp[Builtin.delete_,eG q,e,eQ g (show MapKept.IsKey .string (aj r)by trivial),eN g i,fG _ f,Result.andThen,setBlock];refine⟨_,_,(fN f).1,?_,wP p _⟩;simp_all
theorem gI.kept{w h:Y}{i:M}{n:fi}{d:Option M}(p:gI w i n)(l:w.grownBy h d)(e:H i≠d):gI h i n:=by
 obtain⟨j,b,g,k,m⟩:=p;exact⟨j,b,(l.block i (am g) e).trans g,k,m⟩
theorem gI.alloc{w:Y}{b:M}{m:fi}(h:gI w b m)(o:Obj):gI (cF w o) b m:=h.kept (dt w o none)<|by simp
theorem gI.lt{w:Y}{b:M}{m:fi}(h:gI w b m):b<z (G w):=by
 obtain⟨_,_,d,_⟩:=h;exact am d
section
variable{P:Program}(w:Y){c:Array Oper}{rest:cw Oper}{o:Oper}{a:Act}{Q:Exit->Act->Y->Prop}
theorem DS(m:o.guard=none)(i B j:Operand)(A:TypeId)(h:o.op=Op.mapUpdate A i B j)(v D:TypeId)(q:P.underlying A=H (.map v D))(n:P.underlying v=H .string)(k:M)(x:fi)(p:a.eval i=.map (H k))(E:gI w k x)(b:ab)(d:aa)(s:a.eval B=aj b)(r:a.eval j=d)(l:∀f,gI f k (x.put b d)->w.grownBy f (H k)->wpList P c Q rest (a.put o.dst ix) f):wpList P c Q (o::rest) a w:=by
 refine kP m λC g=>?_;obtain⟨f,e,t,u,_⟩:=CJ q n E b d;unfold Oper.wp;simp[execOp,h,p,s,r,e,Result.andThen];exact g _ _<|l f t u
theorem DT(k:o.guard=none)(h x:Operand)(u q:TypeId)(g:o.op=Op.call {callee:=Callee.builtin Builtin.delete,args:=#[h,x],argTypes:=#[u,q]})(A:TypeId)(n:P.underlying u=H (.map q A))(l:P.underlying q=H .string)(i:M)(t:fi)(m:a.eval h=.map (H i))(B:gI w i t)(b:ab)(p:a.eval x=aj b)(j:∀e,gI e i (t.del b)->w.grownBy e (H i)->wpList P c Q rest (a.put o.dst<|dw #[]) e):wpList P c Q (o::rest) a w:=by
 refine kP k λv f=>?_;obtain⟨e,d,r,s,_⟩:=Ly n l B b o.type;unfold Oper.wp;simp[execOp,g,resolve,invoke,builtin,m,p,d,Result.andThen];exact f _ _<|j e r s
end
end
def uj:(prog.info? 134).map (λi=>(i.zero,i.size,i.bytes))=H (H<|fj none,1,8):=by kernel_rfl
def oE(w:Y)(e g d:M)(f:aa)(c b a:Z):Prop:=w.heap[e]?=H (ar #[.map<|H g,.map<|H d,f,ap c,ap 0,ap 0,ap b,ap a] 81 (0,0))
def yO(h:oE a b c g d m K S):cD bz 172 #[ay b] a λj i=>j=aL (aK aY)/\i=a:=by
 have e:=cellAt h 4 rfl;have f:=cellAt h 5 rfl;clear h;go_in
 go_wp2;go_ret;simp_all
def vB(s:fi)(e:ab)(q:Addr)(h:oE a b c g d m K S)(l:gI a c s)(j:s.get e=H (fj<|H q)):cD bz 170 #[ay b,aj e] a λr p=>r=aL (dw #[fj<|H q,.nilIface])/\p=a:=by
 obtain⟨t,o,i,_,_⟩:=cH uj;have k:=uc underlying78 underlying9 o i l e;rw[j]at k;simp only[mB]at k;have n:=cellAt h 0 rfl;have f:=U h;clear h l j;go_in
 go_wp2_with(first
  |(go_at_call 172;refine(yO f).mono ?_;rintro r u⟨rfl,rfl⟩))
 go_ret2
 simp_all
def TH(r:fi)(e:ab)(h:oE a b c g d m K S)(l:gI a c r)(j:r.get e=none):cD bz 170 #[ay b,aj e] a λq p=>q=aL (dw #[fj none,.iface 223<|ay<|z<|G a])/\p=cF a (ar #[aj e,ap 10] 227):=by
 obtain⟨s,o,i,_,_⟩:=cH uj;have k:=uc underlying78 underlying9 o i l e;rw[j]at k;simp only[uR]at k;have n:=cellAt h 0 rfl;have f:=U h;clear h l j;go_in
 go_wp2_with(first
  |(go_at_call 172;refine(yO f).mono ?_;rintro q t⟨rfl,rfl⟩))
 go_ret2
 simp_all
structure KJ(w:Y)(g:M)(bs:eO)(safe:Z):Prop where
 iq:∃v,w.heap[g]?=H (ar #[v,ap safe] 138 (0,0))/\Bytes w v bs/\ct v≠H g
def Bytes.shape(h:Bytes a d p):d=aD/\p=[]\/∃f b c,d=bB f b (y p) c/\y p<=c:=by
 rcases h with h|⟨f,b,c,h,e,_⟩;exact .inl h;grind
def UR(w:fi)(e:ab)(t:M)(i:eO)(f:Z)(h:oE a b c g d m K S)(p:gI a c w)(n:w.get e=H (ay t))(q:KJ a t i f)(B:y i<=140737488351232):cD bz 178 #[ay b,aj e] a λA x=>A=aL (dw #[ap<|y i,.nilIface])/\x=a:=by
 obtain⟨E,o,l,_⟩:=q.iq;have u:=cellAt o 0 rfl;have r:=U<|vB w e (R t 0) h p n;have j:=l.shape;clear q o l h p n;rcases j with⟨rfl,rfl⟩|⟨D,k,s,rfl,v⟩
 all_goals
  go_in
  go_wp2_with(first
   |(go_at_call 170;refine r.mono ?_;rintro A C⟨rfl,rfl⟩))
  go_ret2
  simp_all
def RW(k:fi)(e:ab)(h:oE a b c g d m K S)(i:gI a c k)(f:k.get e=none):cD bz 178 #[ay b,aj e] a λn l=>n=aL (dw #[ap 0,.iface 223<|ay<|z<|G a])/\l=cF a (ar #[aj e,ap 10] 227):=by
 have j:=U<|TH k e h i f;clear h i f;go_in
 go_wp2_with(first
  |(go_at_call 170;refine j.mono ?_;rintro n o⟨rfl,rfl⟩))
 go_ret2
 simp_all
def UK(E:fi)(e:ab)(n:M)(f:eO)(l:Z)(h:oE a b c g d m K S)(s:gI a c E)(r:E.get e=H (ay n))(t:KJ a n f l)(L:y f<=140737488351232):cD bz 102 #[ay b,aj e] a λF u=>F=aL .nilIface/\KJ u n f (y f)/\u=cA a (R n 1) (ap<|y f):=by
 obtain⟨N,k,o,j⟩:=t.iq;have A:=cellAt k 0 rfl;have C:=dE (i:=1) k;have B:=cellAt k 1 rfl;have w:=U<|vB E e (R n 0) h s r;have v:=U<|show KJ (cA a (R n 1)<|ap<|y f) n f (y f)from⟨N,by rw[aT k];rfl,o.grown (de a n 1 _)<|.inl j,j⟩;have p:=o.shape;clear t k o h s r j;rcases p with⟨rfl,rfl⟩|⟨P,q,x,rfl,D⟩
 all_goals
  go_in
  go_wp2_with(first
   |(go_at_call 170;refine w.mono ?_;rintro F O⟨rfl,rfl⟩))
  go_ret;exact⟨rfl,v,rfl⟩
section
open ChangeMaps (setBlock)
def qE(w:Y)(h r:M)(m left:fi):Prop:=∃e d b seen g,w.heap[h]?=H (.map e d)/\Fits e.toList m/\MapKept.Stamped e d/\w.heap[r]?=H (.mapIter (H h) b seen g)/\(∀x∈e.toList,x.born<b)/\b<=g/\b<=d/\Fits (leftOf e seen).toList left
theorem qE.ne{w:Y}{d r:M}{m left:fi}(h:qE w d r m left):r≠d:=by
 obtain⟨e,b,_,_,_,g,_,_,i,_⟩:=h;grind
theorem qE.lt{w:Y}{b r:M}{m left:fi}(h:qE w b r m left):r<z (G w):=by
 obtain⟨g,d,_,_,_,_,_,_,e,_⟩:=h;exact am e
theorem qE.kept{w e:Y}{g r:M}{s left:fi}(t:qE w g r s left)(p:e.heap[g]?=w.heap[g]?)(q:e.heap[r]?=w.heap[r]?):qE e g r s left:=by
 obtain⟨i,b,d,seen,h,j,k,l,m,n⟩:=t;exact⟨i,b,d,seen,h,p.trans j,k,l,q.trans m,n⟩
theorem Fits.split{e:cw MapEntry}{n:fi}{d b:cw MapEntry}{h:MapEntry}(i:Fits e n)(m:e=d++h::b):∃a p g,n=a++p::g/\Fits d a/\h.key=aj p.1/\h.val=p.2/\Fits b g:=by
 subst m;unfold Fits at i;rw[aQ,bZ]at i;obtain⟨a,q,rfl,j,k⟩:=iA.1 i.symm;obtain⟨p,g,rfl,f,l⟩:=nH.1 k;exact⟨a,p,g,rfl,j.symm,(bX Prod.fst f).symm,(bX Prod.snd f).symm,l.symm⟩
theorem Fits.append{b d:cw MapEntry}{m n:fi}(h:Fits b m)(k:Fits d n):Fits (b++d) (m++n):=by
 unfold Fits at*;rw[aQ,aQ,h,k]
theorem Io{d:Array MapEntry}{seen:Array M}{f e:cw MapEntry}{g:MapEntry}(l:(d.toList.map (·.born)).Nodup)(i:(leftOf d seen).toList=f++g::e):(leftOf d<|seen.push g.born).toList=f++e:=by
 have h:(leftOf d<|seen.push g.born).toList=(leftOf d seen).toList.filter (λx=>!(x.born==g.born)):=by simp only[leftOf,Array.toList_filter,List.filter_filter];grind
 have b:((leftOf d seen).toList.map (·.born)).Nodup:=by(have:(leftOf d seen).toList.Sublist d.toList:=by simp[leftOf]);grind
 rw[h,i];rw[i]at b;simp only[aQ,bZ]at b;obtain⟨_,j,k⟩:=iK.1 b;grind[nodup_cons,filter_cons_of_neg,filter_eq_self]
theorem OI{P:Program}{w:Y}{mt k h g:M}{m:fi}(l:P.underlying mt=H (.map k h))(n:gI w g m):∃e,(Instr.range mt<|.map<|H g).run P w=.ok (ay<|z<|G w) e/\qE e g (z<|G w) m m/\w.grownBy e none/\z (G e)=z (G w)+1:=by
 obtain⟨d,b,f,i,j⟩:=n;refine⟨_,run_range_map w mt k h g d b l f,⟨d,b,b,#[],b,((oV w _).2 g<|am f).trans f,i,j,(oV w _).1,j.1,ai _,ai _,?_⟩,dt w _ none,by simp⟩;have:leftOf d #[]=d:=by simp[leftOf]
 rw[this];exact i
theorem Sg{P:Program}{w:Y}{v r:M}{ad left:fi}(ac:qE w v r ad left)(N:TypeId):(left=[]/\(Instr.next (ay r) aY N).run P w=.ok (dw #[aK aY]) w)\/∃m L g p,left=m++L::g/\(Instr.next (ay r) aY N).run P w=.ok (dw #[aK bU,aj L.1,L.2]) p/\qE p v r ad (m++g)/\w.grownBy p (H r)/\z (G p)=z (G w)/\(Instr.entry<|ay r).run P p=.ok (dw #[aj L.1,L.2]) p:=by
 have D:=ac.ne;obtain⟨l,b,d,seen,O,S,hf,E,T,k,F,t,C⟩:=ac;rcases run_next_at (P:=P) w N r v d O seen l b T S k F with⟨h0,f⟩|⟨x,he,A,h,f⟩;refine .inl ⟨?_,f⟩;(have:(leftOf l seen).toList=[]:=by grind);rw[this]at C;simpa[Fits]using C;obtain⟨m,g,u⟩:=sO he;obtain⟨a,L,al,rfl,W,n,V,X⟩:=C.split u;(have i:A.heap=w.heap:=by rcases h with rfl|rfl<;>rfl);(have s:A.heap[r]?=H (.mapIter (H v) d seen O):=by rw[i];exact T);have j:(setBlock A r<|.mapIter (H v) d (seen.push x.born) b).heap[r]?=H (.mapIter (H v) d (seen.push x.born) b):=(fN s).1;have e:∀K,K≠r->(setBlock A r<|.mapIter (H v) d (seen.push x.born) b).heap[K]?=w.heap[K]?:=λK n=>((fN s).2 K n).trans (by rw[i]);have q:=(e v<|λx=>D x.symm).trans S;(have B:x∈l.toList:=by(have:(leftOf l seen).toList.Sublist l.toList:=by simp[leftOf]);grind);refine .inr ⟨a,L,al,_,rfl,by rw[<-n,<-V];exact f,⟨l,b,d,_,b,q,hf,E,j,k,t,t,by rw[Io E.2.1 u];exact W.append X⟩,⟨?_,?_,?_,?_,λK _ n=>e K<|λx=>n<|by rw[x]⟩,?_,?_⟩;rcases h with rfl|rfl<;>rfl;rcases h with rfl|rfl<;>rfl;rcases h with rfl|rfl<;>rfl;simp[setBlock,i];simp[setBlock,i];rw[<-n,<-V];exact run_entry_at _ r v d seen l b x j q B E.2.1
section
variable{P:Program}(w:Y){c:Array Oper}{rest:cw Oper}{o:Oper}{a:Act}{Q:Exit->Act->Y->Prop}
theorem uz(k:o.guard=none)(h:Operand)(t:TypeId)(g:o.op=Op.range t h)(x u:TypeId)(m:P.underlying t=H (.map x u))(i:M)(n:fi)(l:a.eval h=.map (H i))(v:gI w i n)(j:∀b,qE b i (z<|G w) n n->w.grownBy b none->z (G b)=z (G w)+1->wpList P c Q rest (a.put o.dst<|ay<|z<|G w) b):wpList P c Q (o::rest) a w:=by
 refine kP k λs e=>?_;obtain⟨b,d,p,q,r⟩:=OI m v;unfold Oper.wp;simp[execOp,g,l,d,Result.andThen];exact e _ _<|j b p q r
theorem vS(u:o.guard=none)(l:Operand)(k:o.op=Op.next l aY)(x r:M)(A left:fi)(rk:a.eval l=ay r)(C:qE w x r A left)(h:left=[]->wpList P c Q rest (a.put o.dst<|dw #[aK aY]) w)(i:∀e p b g,left=e++p::b->qE g x r A (e++b)->w.grownBy g (H r)->z (G g)=z (G w)->(Instr.entry<|ay r).run P g=.ok (dw #[aj p.1,p.2]) g->wpList P c Q rest (a.put o.dst<|dw #[aK bU,aj p.1,p.2]) g):wpList P c Q (o::rest) a w:=by
 refine kP u λB j=>?_;unfold Oper.wp;rcases Sg (P:=P) C o.type with⟨m,d⟩|⟨e,p,b,g,v,d,n,q,s,t⟩;simp[execOp,k,rk,d,Result.andThen];exact j _ _<|h m;simp[execOp,k,rk,d,Result.andThen];exact j _ _<|i e p b g v n q s t
end
end
section
open ChangeMaps (setBlock)
abbrev fM:=cw<|Z×aa
def fM.get(m:fM)(k:Z):Option aa:=match m with
 |[]=>none
 |p::r=>if p.1=k then H p.2 else fM.get r k
def jO(b:cw MapEntry)(m:fM):Prop:=b.map (λe=>(e.key,e.val))=m.map (λp=>(ap p.1,p.2))
theorem jO.nil:jO [] []:=rfl
theorem jO.cons_inv{e:MapEntry}{b:cw MapEntry}{m:fM}(h:jO (e::b) m):∃p r,m=p::r/\e.key=ap p.1/\e.val=p.2/\jO b r:=by
 cases m with
 |nil=>simp[jO]at h
 |cons p r=>
  simp[jO]at h;exact⟨p,r,rfl,h.1.1,h.1.2,h.2⟩
theorem GJ(k:Z):∀(b:cw MapEntry)(m:fM)(i:M),jO b m->∃p,Instr.findNow (.int .i64) (ap k) b i=H ((m.get k).map λv=>(p,v)):=by
 intro b;induction b with
 |nil=>
  intro m i h;obtain rfl:m=[]:=by simpa[jO]using h
  exact⟨0,rfl⟩
 |cons s b n=>
  intro m i h;obtain⟨q,r,rfl,e,l,j⟩:=h.cons_inv;by_cases f:q.1=k
  .refine⟨i,?_⟩;simp[Instr.findNow,Instr.sameNow,e,fM.get,f,l]
  .obtain⟨p,g⟩:=n r (i+1) j;refine⟨p,?_⟩;have d:(k==q.1)=aY:=by grind
   simp[Instr.findNow,Instr.sameNow,e,fM.get,f,d,g]
def jw(w:Y)(e:M)(m:fM):Prop:=∃d b,w.heap[e]?=H (.map d b)/\jO d.toList m/\MapKept.Stamped d b
def fM.put(m:fM)(k:Z)(v:aa):fM:=match m with
 |[]=>[(k,v)]
 |p::r=>if p.1=k then(k,v)::r else p::fM.put r k v
def fM.del(m:fM)(k:Z):fM:=match m with
 |[]=>[]
 |p::r=>if p.1=k then r else p::fM.del r k
theorem jO.cons{e:MapEntry}{b:cw MapEntry}{p:Z×aa}{m:fM}(d:e.key=ap p.1)(f:e.val=p.2)(h:jO b m):jO (e::b) (p::m):=by
 simp[jO,d,f];exact h
theorem FF(k:Z):∀(d:cw MapEntry)(m:fM)(q:M),jO d m->(Instr.findNow (.int .i64) (ap k) d q=H none/\m.get k=none/\(∀e∈d,e.key≠ap k)/\m.del k=m/\∀v,m.put k v=m++[(k,v)])\/∃r e,Instr.findNow (.int .i64) (ap k) d q=H (H (q+r,e.val))/\d[r]?=H e/\e.key=ap k/\m.get k=H e.val/\(∀v,jO (d.modify r λe=>{e with key:=ap k,val:=v})<|m.put k v)/\jO (d.eraseIdx r) (m.del k):=by
 intro d;induction d with
 |nil=>
  intro m q u;obtain rfl:m=[]:=by simpa[jO]using u
  exact .inl ⟨rfl,rfl,by simp,rfl,λ_=>rfl⟩
 |cons e d A=>
  intro m q u;obtain⟨B,C,rfl,f,p,n⟩:=u.cons_inv;by_cases b:B.1=k
  .refine .inr ⟨0,e,?_,rfl,by rw[f,b],?_,?_,?_⟩
   .simp[Instr.findNow,Instr.sameNow,f,b]
   .simp[fM.get,b,p]
   .intro v;simp only[fM.put,b,ir,qK];exact jO.cons rfl rfl n
   .simpa[fM.del,b]using n
  .have g:(k==B.1)=aY:=by grind
   rcases A C (q+1) n with⟨h,i,s,j,l⟩|⟨r,t,h,i,s,j,l,x⟩
   .refine .inl ⟨?_,?_,?_,?_,?_⟩
    .simp[Instr.findNow,Instr.sameNow,f,g,h]
    .simp[fM.get,b,i]
    .grind
    .simp[fM.del,b,j]
    .intro v;simp[fM.put,b,l]
   .refine .inr ⟨r+1,t,?_,by simpa using i,s,?_,?_,?_⟩
    .simp[Instr.findNow,Instr.sameNow,f,g,h];omega
    .simp[fM.get,b,j]
    .intro v;simp only[fM.put,b,jk,qL];exact jO.cons f p<|l v
    .simp only[fM.del,b,jk,uV];exact jO.cons f p x
theorem Lw{P:Program}{w:Y}{mt v A p:M}{B:fM}(u:P.underlying mt=H (.map v A))(h:P.underlying v=H (.int .i64))(E:jw w p B)(k:Z)(x:aa):∃i,(Instr.mapUpdate mt (.map<|H p) (ap k) x).run P w=.ok () i/\jw i p (B.put k x)/\w.grownBy i (H p)/\z (G i)=z (G w):=by
 obtain⟨g,b,f,n,t⟩:=E;have d:=jo (P:=P) f;rcases FF k g.toList B 0 n with⟨j,q,l,_,r⟩|⟨C,e,j,q,l,F,r,_⟩;refine⟨setBlock w p<|.map (g.push {key:=ap k,val:=x,born:=b})<|b+1,?_,?_,iR _ _ _,by simp[setBlock]⟩;simp[Instr.mapUpdate,eG u,d,eQ h (show MapKept.IsKey (.int .i64) (ap k)by rfl),eN h j,fG _ f,Result.andThen,setBlock];refine⟨_,_,(fN f).1,?_,rG t l⟩;rw[r];simp[jO]at n|-;exact n;(have s:g[C]?=H e:=by simpa using q);refine⟨setBlock w p<|.map (g.modify C λe=>{e with key:=ap k,val:=x}) b,?_,?_,iR _ _ _,by simp[setBlock]⟩;simp[Instr.mapUpdate,eG u,d,eQ h (show MapKept.IsKey (.int .i64) (ap k)by rfl),eN h j,s,l,oF (show MapKept.IsKey (.int .i64) (ap k)by rfl),fG _ f,Result.andThen,setBlock];refine⟨_,_,(fN f).1,?_,pW t _ _ (λ_ _=>rfl) (λD _ m=>by rw[s]at m;grind)⟩;grind
theorem LB{P:Program}{w:Y}{mt k s l:M}{A:fM}(q:P.underlying mt=H (.map k s))(g:P.underlying k=H (.int .i64))(D:jw w l A)(r:Z)(B:TypeId):∃h,(Builtin.delete_ #[mt,k] B #[.map<|H l,ap r]).run P w=.ok (dw #[]) h/\jw h l (A.del r)/\w.grownBy h (H l)/\z (G h)=z (G w):=by
 obtain⟨d,b,f,n,p⟩:=D;have e:=jo (P:=P) f;rcases FF r d.toList A 0 n with⟨i,j,t,m,u⟩|⟨x,C,i,j,t,m,u,E⟩;refine⟨setBlock w l<|.map d b,?_,?_,iR _ _ _,by simp[setBlock]⟩;simp[Builtin.delete_,eG q,e,eQ g (show MapKept.IsKey (.int .i64) (ap r)by rfl),eN g i,fG _ f,Result.andThen,setBlock];rw[m];exact⟨_,_,(fN f).1,n,p⟩;(have F:d[x]?=H C:=by simpa using j);(have v:x<d.size:=by have:=iD.1 j;grind);refine⟨setBlock w l<|.map (d.eraseIdxIfInBounds x) b,?_,?_,iR _ _ _,by simp[setBlock]⟩;simp[Builtin.delete_,eG q,e,eQ g (show MapKept.IsKey (.int .i64) (ap r)by rfl),eN g i,fG _ f,Result.andThen,setBlock];refine⟨_,_,(fN f).1,?_,wP p _⟩;simp_all
theorem jw.kept{w h:Y}{i:M}{n:fM}{d:Option M}(p:jw w i n)(l:w.grownBy h d)(e:H i≠d):jw h i n:=by
 obtain⟨j,b,g,k,m⟩:=p;exact⟨j,b,(l.block i (am g) e).trans g,k,m⟩
theorem jw.alloc{w:Y}{b:M}{m:fM}(h:jw w b m)(o:Obj):jw (cF w o) b m:=h.kept (dt w o none)<|by simp
theorem jw.lt{w:Y}{b:M}{m:fM}(h:jw w b m):b<z (G w):=by
 obtain⟨_,_,d,_⟩:=h;exact am d
section
variable{P:Program}(w:Y){c:Array Oper}{rest:cw Oper}{o:Oper}{a:Act}{Q:Exit->Act->Y->Prop}
theorem DU(k:o.guard=none)(h x:Operand)(u q:TypeId)(g:o.op=Op.call {callee:=Callee.builtin Builtin.delete,args:=#[h,x],argTypes:=#[u,q]})(A:TypeId)(n:P.underlying u=H (.map q A))(l:P.underlying q=H (.int .i64))(i:M)(t:fM)(m:a.eval h=.map (H i))(B:jw w i t)(b:Z)(p:a.eval x=ap b)(j:∀e,jw e i (t.del b)->w.grownBy e (H i)->wpList P c Q rest (a.put o.dst<|dw #[]) e):wpList P c Q (o::rest) a w:=by
 refine kP k λv f=>?_;obtain⟨e,d,r,s,_⟩:=LB n l B b o.type;unfold Oper.wp;simp[execOp,g,resolve,invoke,builtin,m,p,d,Result.andThen];exact f _ _<|j e r s
end
def qD(w:Y)(g r:M)(m left:fM):Prop:=∃e d b seen f,w.heap[g]?=H (.map e d)/\jO e.toList m/\MapKept.Stamped e d/\w.heap[r]?=H (.mapIter (H g) b seen f)/\(∀x∈e.toList,x.born<b)/\b<=f/\b<=d/\jO (leftOf e seen).toList left
theorem qD.ne{w:Y}{d r:M}{m left:fM}(h:qD w d r m left):r≠d:=by
 obtain⟨e,b,_,_,_,g,_,_,i,_⟩:=h;grind
theorem qD.lt{w:Y}{b r:M}{m left:fM}(h:qD w b r m left):r<z (G w):=by
 obtain⟨g,d,_,_,_,_,_,_,e,_⟩:=h;exact am e
theorem qD.kept{w e:Y}{g r:M}{s left:fM}(t:qD w g r s left)(p:e.heap[g]?=w.heap[g]?)(q:e.heap[r]?=w.heap[r]?):qD e g r s left:=by
 obtain⟨i,b,d,seen,h,j,k,l,m,n⟩:=t;exact⟨i,b,d,seen,h,p.trans j,k,l,q.trans m,n⟩
theorem jO.split{e:cw MapEntry}{n:fM}{d b:cw MapEntry}{h:MapEntry}(i:jO e n)(m:e=d++h::b):∃a p g,n=a++p::g/\jO d a/\h.key=ap p.1/\h.val=p.2/\jO b g:=by
 subst m;unfold jO at i;rw[aQ,bZ]at i;obtain⟨a,q,rfl,j,k⟩:=iA.1 i.symm;obtain⟨p,g,rfl,f,l⟩:=nH.1 k;exact⟨a,p,g,rfl,j.symm,(bX Prod.fst f).symm,(bX Prod.snd f).symm,l.symm⟩
theorem jO.append{b d:cw MapEntry}{m n:fM}(h:jO b m)(k:jO d n):jO (b++d) (m++n):=by
 unfold jO at*;rw[aQ,aQ,h,k]
theorem OJ{P:Program}{w:Y}{mt k h g:M}{m:fM}(l:P.underlying mt=H (.map k h))(n:jw w g m):∃e,(Instr.range mt<|.map<|H g).run P w=.ok (ay<|z<|G w) e/\qD e g (z<|G w) m m/\w.grownBy e none/\z (G e)=z (G w)+1:=by
 obtain⟨d,b,f,i,j⟩:=n;refine⟨_,run_range_map w mt k h g d b l f,⟨d,b,b,#[],b,((oV w _).2 g<|am f).trans f,i,j,(oV w _).1,j.1,ai _,ai _,?_⟩,dt w _ none,by simp⟩;have:leftOf d #[]=d:=by simp[leftOf]
 rw[this];exact i
theorem Sh{P:Program}{w:Y}{v r:M}{ad left:fM}(ac:qD w v r ad left)(N:TypeId):(left=[]/\(Instr.next (ay r) aY N).run P w=.ok (dw #[aK aY]) w)\/∃m L g p,left=m++L::g/\(Instr.next (ay r) aY N).run P w=.ok (dw #[aK bU,ap L.1,L.2]) p/\qD p v r ad (m++g)/\w.grownBy p (H r)/\z (G p)=z (G w)/\(Instr.entry<|ay r).run P p=.ok (dw #[ap L.1,L.2]) p:=by
 have D:=ac.ne;obtain⟨l,b,d,seen,O,S,hf,E,T,k,F,t,C⟩:=ac;rcases run_next_at (P:=P) w N r v d O seen l b T S k F with⟨h0,f⟩|⟨x,he,A,h,f⟩;refine .inl ⟨?_,f⟩;(have:(leftOf l seen).toList=[]:=by grind);rw[this]at C;simpa[jO]using C;obtain⟨m,g,u⟩:=sO he;obtain⟨a,L,al,rfl,W,n,V,X⟩:=C.split u;(have i:A.heap=w.heap:=by rcases h with rfl|rfl<;>rfl);(have s:A.heap[r]?=H (.mapIter (H v) d seen O):=by rw[i];exact T);have j:(setBlock A r<|.mapIter (H v) d (seen.push x.born) b).heap[r]?=H (.mapIter (H v) d (seen.push x.born) b):=(fN s).1;have e:∀K,K≠r->(setBlock A r<|.mapIter (H v) d (seen.push x.born) b).heap[K]?=w.heap[K]?:=λK n=>((fN s).2 K n).trans (by rw[i]);have q:=(e v<|λx=>D x.symm).trans S;(have B:x∈l.toList:=by(have:(leftOf l seen).toList.Sublist l.toList:=by simp[leftOf]);grind);refine .inr ⟨a,L,al,_,rfl,by rw[<-n,<-V];exact f,⟨l,b,d,_,b,q,hf,E,j,k,t,t,by rw[Io E.2.1 u];exact W.append X⟩,⟨?_,?_,?_,?_,λK _ n=>e K<|λx=>n<|by rw[x]⟩,?_,?_⟩;rcases h with rfl|rfl<;>rfl;rcases h with rfl|rfl<;>rfl;rcases h with rfl|rfl<;>rfl;simp[setBlock,i];simp[setBlock,i];rw[<-n,<-V];exact run_entry_at _ r v d seen l b x j q B E.2.1
section
variable{P:Program}(w:Y){c:Array Oper}{rest:cw Oper}{o:Oper}{a:Act}{Q:Exit->Act->Y->Prop}
end
theorem XQ{P:Program}{w:Y}{mt l i n:M}{m:fM}{v:TypeInfo}{d:aa}(t:P.underlying mt=H (.map l i))(j:P.underlying l=H (.int .i64))(r:P.info? i=H v)(u:v.zero=H d)(x:jw w n m)(k:Z):(Instr.lookup mt (.map<|H n) (ap k) bU).run P w=.ok (dw #[(m.get k).getD d,aK (m.get k).isSome]) w:=by
 obtain⟨e,b,q,p,_⟩:=x;obtain⟨A,s⟩:=GJ k e.toList m 0 p;have f:=eQ (P:=P) (w:=w) (k:=ap k) j (by rfl) e.isEmpty 9999;have g:=eN (P:=P) (w:=w) j s;have h:(getObj n).run P w=.ok (.map e b) w:=by simp[getObj,Sem.run,q]
 unfold Instr.lookup;rw[ki,eG t];simp only[jm,ki,h,pV];rw[show(10000:M)=9999+1 from rfl,f];simp only[jm,g];cases hg:m.get k with
 |none=>simp[zeroValue,typeInfo,r,u]
 |some B=>simp
theorem jO.length{b:cw MapEntry}{m:fM}(h:jO b m):y b=y m:=by
 have:=bX y h;grind
theorem Lx{P:Program}{w:Y}{mt j f l:M}{m:fM}(i:P.underlying mt=H (.map j f))(p:jw w l m)(k:TypeId):(Builtin.len_ #[mt] k #[.map<|H l]).run P w=.ok (ap<|y m) w:=by
 obtain⟨n,b,h,g,_⟩:=p;have d:=jo (P:=P) h;have e:=g.length;rw[jy]at e;simp[Builtin.len_,eG i,d,goInt,Result.andThen,e]
theorem jw.new(w:Y):jw (cF w<|.map #[] 0) (z<|G w) []:=by
 refine⟨#[],0,?_,jO.nil,wQ 0⟩;show(w.heap.push _)[z<|G w]?=_;simp
theorem jw.di{w w':Y}{b:M}{m:fM}(i:jw w b m)(h:w'.heap[b]?=w.heap[b]?):jw w' b m:=by
 obtain⟨e,d,f,g⟩:=i;exact⟨e,d,h.trans f,g⟩
end
section
open ChangeMaps (setBlock)
def ly(w:Y)(f:M)(g:TypeDesc)(e:aa->Prop):Prop:=∃d b,w.heap[f]?=H (.map d b)/\MapKept.Stamped d b/\(∀x∈d.toList,MapKept.IsKey g x.key)/\(∀x∈d.toList,x.val=dW #[])/\∀k,e k↔∃x∈d.toList,x.key=k
theorem ly.lt{w:Y}{b:M}{g:TypeDesc}{e:aa->Prop}(h:ly w b g e):b<z (G w):=by
 obtain⟨_,_,d,_⟩:=h;exact am d
theorem ly.di{w w':Y}{b:M}{i:TypeDesc}{e:aa->Prop}(k:ly w b i e)(j:w'.heap[b]?=w.heap[b]?):ly w' b i e:=by
 obtain⟨f,d,g,h⟩:=k;exact⟨f,d,j.trans g,h⟩
theorem ly.new(w:Y)(d:TypeDesc):ly (cF w<|.map #[] 0) (z<|G w) d az:=by
 refine⟨#[],0,?_,⟨by simp,by simp,by simp⟩,by simp,by simp,by simp⟩;show(w.heap.push _)[z<|G w]?=_;simp
theorem ly.congr{w:Y}{m:M}{n:TypeDesc}{e d:aa->Prop}(q:ly w m n e)(p:∀k,d k↔e k):ly w m n d:=by
 obtain⟨f,b,g,h,i,j,l⟩:=q;exact⟨f,b,g,h,i,j,λk=>(p k).trans<|l k⟩
theorem BE{P:Program}{w:Y}{mt r n t:M}{u:TypeDesc}{q:aa->Prop}{K:TypeInfo}(D:P.underlying mt=H (.map r n))(k:P.underlying r=H u)(A:P.info? n=H K)(E:K.zero=H (dW #[]))(L:ly w t u q)(m:aa)(e:MapKept.IsKey u m)(s:Bool)(C:s=bU↔q m):(Instr.lookup mt (.map<|H t) m bU).run P w=.ok (dw #[dW #[],aK s]) w:=by
 obtain⟨g,b,x,N,l,O,B⟩:=L;have i:=eQ (P:=P) (w:=w) (k:=m) k e g.isEmpty 9999;have j:(getObj t).run P w=.ok (.map g b) w:=by simp[getObj,Sem.run,x]
 unfold Instr.lookup;rw[ki,eG D];simp only[jm,ki,j,pV];rw[show(10000:M)=9999+1 from rfl,i];simp only[jm];rcases MapKept.findNow_spec e g.toList 0 l with⟨h,p⟩|⟨S,F,h,p,v⟩;have d:=eN (P:=P) (w:=w) k h;(have:s=aY:=by grind);simp[d,zeroValue,typeInfo,A,E,this];have d:=eN (P:=P) (w:=w) k h;have f:F∈g.toList:=gp p;have:s=bU:=C.2<|(B m).2 ⟨F,f,v⟩;simp_all
theorem zF{P:Program}{w:Y}{mt K N v:M}{L:TypeDesc}{F:aa->Prop}(D:P.underlying mt=H (.map K N))(q:P.underlying K=H L)(T:ly w v L F)(s:aa)(i:MapKept.IsKey L s):∃r,(Instr.mapUpdate mt (.map<|H v) s<|dW #[]).run P w=.ok () r/\ly r v L (λx=>F x\/x=s)/\w.grownBy r (H v)/\z (G r)=z (G w):=by
 obtain⟨g,b,m,C,n,V,S⟩:=T;have l:=jo (P:=P) m;rcases MapKept.findNow_spec i g.toList 0 n with⟨t,p⟩|⟨E,e,t,p,O⟩;refine⟨setBlock w v<|.map (g.push {key:=s,val:=dW #[],born:=b})<|b+1,?_,?_,iR _ _ _,by simp[setBlock]⟩;simp[Instr.mapUpdate,eG D,l,eQ q i,eN q t,fG _ m,Result.andThen,setBlock];refine⟨_,_,(fN m).1,rG C p,?_,?_,?_⟩;(grind);(grind);intro x;simp only[Array.toList_push,aE,cX];grind
 (have A:g[E]?=H e:=by simpa using p);have B:e∈g.toList:=gp p;refine⟨setBlock w v<|.map (g.modify E λe=>{e with key:=s,val:=dW #[]}) b,?_,?_,iR _ _ _,by simp[setBlock]⟩;simp[Instr.mapUpdate,eG D,l,eQ q i,eN q t,A,O,oF i,fG _ m,Result.andThen,setBlock];(have j:∀h,g[E]?=H h->h.key=s:=λh d=>by rw[A]at d;grind);refine⟨_,_,(fN m).1,pW C _ _ (λ_ _=>rfl)<|λh _ d=>(j h d).symm,MapKept.isKey_modify n _ _<|λh d=>(j h d).symm,?_,?_⟩;(grind[Array.toList_modify,getElem?_of_mem,mem_of_getElem?]);intro x;have k:((g.modify E λe=>{e with key:=s,val:=dW #[]}).toList.map (·.key))=g.toList.map (·.key):=MapKept.modify_keys _ _<|λh d=>(j h d).symm;(have u:(∃b∈(g.modify E λe=>{e with key:=s,val:=dW #[]}).toList,b.key=x)↔∃b∈g.toList,b.key=x:=by rw[<-bW (f:=λb:MapEntry=>b.key),<-bW (f:=λb:MapEntry=>b.key),k]);rw[u,<-S x];grind
section
variable{P:Program}(w:Y){c:Array Oper}{rest:cw Oper}{o:Oper}{a:Act}{Q:Exit->Act->Y->Prop}
theorem uA(n:o.guard=none)(i x j:Operand)(B:TypeId)(g:o.op=Op.mapUpdate B i x j)(A D:TypeId)(r:P.underlying B=H (.map A D))(l:TypeDesc)(p:P.underlying A=H l)(k:M)(h:aa->Prop)(q:a.eval i=.map (H k))(E:ly w k l h)(b:aa)(f:MapKept.IsKey l b)(t:a.eval x=b)(s:a.eval j=dW #[])(m:∀w',ly w' k l (λx=>h x\/x=b)->w.grownBy w' (H k)->wpList P c Q rest (a.put o.dst ix) w'):wpList P c Q (o::rest) a w:=by
 refine kP n λC e=>?_;obtain⟨w',d,u,v,_⟩:=zF r p E b f;unfold Oper.wp;simp[execOp,g,q,t,s,d,Result.andThen];exact e _ _<|m w' u v
end
end
