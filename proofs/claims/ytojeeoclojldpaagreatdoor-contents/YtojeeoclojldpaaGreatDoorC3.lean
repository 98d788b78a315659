import Derived.Deep.RegionWith
import Derived.Laws.BitsLemmas
import Derived.Laws.Entries
import Derived.Laws.IdiomStrings
import Derived.Lib.BufferRead
import Derived.Lib.EndianBits
import Derived.MapKept
import Derived.Maps.RangeWalk
import Derived.OpenShut
import Derived.OwnWalk
import Derived.Test.YtojeeoclojldpaaGreatDoorChecked
import Derived.Test.YtojeeoclojldpaaGreatDoorC0
open _root_ renaming List.length→y,Option.some→H,Array.size→z,Go.World.heap→G,Go.Value.ownBlock→bV,Go.World.cell?→aT,Go.World.setCell→bZ,Go.World.alloc→ct,Bool.false→bF,Bool.true→bW,Nat→M,Int→Z,List→cr,Go.Calls→cy,Go.undef→iB,Go.Proofs.Tryz.prog→bG,Go.Value.slice→J,Go.Value.string→ai,Go.Value.bool→aL,Go.Value.pointer→fp,Go.Value.tuple→dB,Go.Value.agg→eC
namespace Go.Proofs.YtojeeoclojldpaaGreatDoor
open ChangeShapes WideShapes RowKit Proofs.Tryz
set_option maxHeartbeats 16000000
set_option linter.all false
set_option maxRecDepth 100000
variable{a f:I}{b c g:M}{d s:aa}{m F Q:Z}{o:eI}{x:iU}{D:Bool}
def qh:(prog.info? 5).map (λi=>(i.zero,i.size,i.bytes))=H (H<|tC 0,1,1):=by kernel_rfl
def eH(w:I)(a:M)(v:aa)(b:eI):Prop:=w.ownsRow a 5 1 v (y b)<|b.map<|Value.int .u8
def eH.of(h:a.ownsRow b 5 1 d c x)(e:c=y o)(f:x=o.map (Value.int .u8)):eH a b d o:=by
 subst e;subst f;exact h
def eH.nil(w:I)(a:M):eH w a aK []:=bK w a _ 1
def eH.alloc{w:I}(h:eH w c d o)(a:Obj):eH (ct w a) c d o:=aS h a
def le:M->Z->eI
 |0,_=>[]
 |k+1,n=>n%256::le k (n/256)
def bY(k:M):∀n,y (le k n)=k:=by
 induction k with
 |zero=>intro n;rfl
 |succ k a=>intro n;simp[le,a]
def kD(s:ab):eI:=s.data.toList.map λb=>(b.toNat:Z)
def strCells_eq(s:ab):Lib.strCells s=(kD s).map (Value.int .u8):=by simp[Lib.strCells,kD]
def gW(s:ab):y (kD s)=s.size:=by simp[kD]
def tU(a:M)(v:aa)(f:eI)(o:Z)(w:I)(d:eH w a v f)(q:a<=z (G w))(r:y f<=70368744177664):cy bG 184 #[v,tC o] w λp l=>∃e,p=aO e/\eH l a e (f++[o])/\eP w l v e:=by
 obtain⟨n,m,g,i,j⟩:=cz qh;go_in
 go_wp2_with(first
  |(at_builtin;refine bS _ rfl _ _ 126 rfl a 5 n (.int .u8 0) 1 1 underlying126 m g i j rfl (by decide) _ _ _ rfl (d.alloc _) (R (z (G w)) 0) 1 1 [.int .u8 o] rfl rfl (pH _ _ _) ?c2 ?c3 ?c4 ?c5 ?_))
 case c2=>intro u k;simp at k;subst k;rfl
 case c3=>omega
 case c4=>omega
 case c5=>simp;omega
 intro e s c b;go_wp2;go_ret;exact⟨e,rfl,eH.of c (by simp) (by simp),b.alloc _⟩
def Hs(w:I)(a:iU)(t:TypeId):∀j u,a[j]?=H u->aT (ct w<|ar a.toArray t) (((R (z<|G w) 0):Addr).add j)=H u:=by
 intro j u b;rw[dt];unfold World.cell?;rw[ft];simp[b]
def jv{baseqq:M}{v:aa}{bs:eI}(n:Z){w:I}(c:eH w baseqq v bs)(q:baseqq<=z (G w))(r:y bs<=70368744177664)(o:0<=n)(p:n<4294967296):cy bG 186 #[v,dq n] w λk j=>∃d,k=aO d/\eH j baseqq d (bs++le 4 n)/\eP w j v d:=by
 obtain⟨m,l,e,f,g⟩:=cz qh;go_in
 go_wp2_with(first
  |(at_builtin;refine bS _ rfl _ _ 126 rfl baseqq 5 m (.int .u8 0) 1 1 underlying126 l e f g rfl (by decide) _ _ _ rfl (c.alloc _) (R (z (G w)) 0) 4 4 ((le 4 n).map (Value.int .u8)) rfl rfl ?c1 ?c2 ?c3 ?c4 ?c5 ?_))
 (case c1=>(have k:(#[Value.int IntKind.u8<|n%256,Value.int IntKind.u8<|n/256%256,Value.int IntKind.u8<|n/65536%256,Value.int IntKind.u8<|n/16777216]:Array aa)=((le 4 n).map<|Value.int .u8).toArray:=by simp[le];omega);rw[k];exact Hs _ _ _);case c2=>intro u i;simp[le]at i;rcases i with rfl|rfl|rfl|rfl<;>rfl
 case c3=>omega
 case c4=>omega
 case c5=>simp;omega
 intro d s b a;go_wp2;go_ret;exact⟨d,rfl,eH.of b (by simp[le]) (by simp),a.alloc _⟩
def oZ(a:M)(v:aa)(g:eI)(s:ab)(w:I)(d:eH w a v g)(n:a<=z (G w))(p:y g<=70368744177664)(t:s.size<=255):cy bG 228 #[v,ai s] w λr m=>∃f,r=aO f/\eH m a f (g++(s.size:Z)::kD s)/\eP w m v f:=by
 obtain⟨q,o,j,k,l⟩:=cz qh;go_in
 go_wp2_with fail
 apply(tU a v g s.size w d n p).mono;rintro r x⟨u,rfl,i,e⟩
 go_wp2_with(first
  |(at_builtin;refine sJ _ rfl _ _ 126 9 rfl a 5 q underlying126 underlying9 o j k l _ _ _ rfl i s rfl ?c1 ?c2 ?_))
 case c1=>simp;omega
 case c2=>have:=e.grown.size;omega
 intro f A c b;go_wp2;go_ret;exact⟨f,rfl,eH.of c (by simp[gW];omega) (by simp[strCells_eq]),e.trans b⟩
def MG(a b:Z):0<=bits .xor .u32 a b:=(bounds_u32<|wf_bits .xor .u32 a b).1
def MH(a b:Z):bits .xor .u32 a b<4294967296:=by have:=(bounds_u32<|wf_bits .xor .u32 a b).2;omega
def XE(x:Z)(a:0<=x)(b:x<4294967296):bits .and .u32 x 15=x%16:=by
 have:=bits_mask .u32 32 (by decide) wraps_u32 4 (by decide) x a (by omega);simpa using this
def Wl(k:M):Z:=([0,498536548,997073096,651767980,1994146192,1802195444,1303535960,1342533948,3988292384,4027552580,3604390888,3412177804,2607071920,2262029012,2685067896,3183342108]:eI).getD k 0
def Steps(w:I):Prop:=∀k,k<16->aT w (R 1 k)=H (dq<|Wl k)
def Steps.below{B:M}(h:Steps a)(c:Below B a f)(b:1<B):Steps f:=λk d=>(c.cell<|by exact b).trans<|h k d
def PD(c:Z):Z:=bits .xor .u32 (c/16)<|Wl (c%16).toNat
def AG(a x:Z):Z:=PD<|PD<|bits .xor .u32 a<|x%4294967296
def xO(a:eI):Z:=a.foldl AG 4294967295
def mr(a:eI):Z:=bits .xor .u32 IntKind.u32.max<|xO a
def OD(a x:Z):0<=AG a x:=MG _ _
def OE(a x:Z):AG a x<4294967296:=MH _ _
def Md(a:eI):0<=xO a/\xO a<4294967296:=by
 unfold xO;rcases wD a with rfl|⟨l,x,rfl⟩;simp;rw[wE,iJ];exact⟨OD _ _,OE _ _⟩
def zx(a:eI):0<=mr a:=MG _ _
def BC(a:eI):mr a<4294967296:=MH _ _
def OC(a:eI)(k:M)(h:k<y a):xO (a.take<|k+1)=AG (xO<|a.take k) a[k]:=by
 unfold xO;rw[aj h,iJ];rfl
def Vz(q c:M)(b:eI)(g:M)(i:Steps a)(m:∀k,k<y b->aT a (R q<|c+k)=H (tC<|b[k]?.getD 0))(f:y b<=140737488351232):cy bG 188 #[bD q c (y b) g] a λr o=>r=aO (dq<|mr b)/\o=a:=by
 have u:=MG;have v:=MH;have j:=XE;have l:∀x:Z,aT a (R 1<|(x%16).toNat)=H (dq<|Wl (x%16).toNat):=λx=>i _ (by omega);clear i;go_in
 go_wp2;go_loop [3,8,5] (λa i x=>∃(k:M),k<=y b/\i=ap k/\a=dq (xO<|b.take k)) (λ_ i _=>y b-(intOf i).toNat)
 case atStart=>exact⟨0,bA _,rfl,rfl⟩
 (case round=>obtain⟨k,s,rfl,rfl⟩:=hrel;have t:=Md<|b.take k;by_cases e:k<y b;(.have n:=m k e;have d:Hid (xO (b.take<|k+1)=AG (xO<|b.take k) b[k]):=OC b k e;generalize xO (b.take k)=p at*;go_wp2;(go_round);(case rel=>exact⟨k+1,by omega,by go_num,by rw[d.out];rfl⟩);case measure=>simp[intOf];omega);go_wp2;go_ret;have d:b.take k=b:=cR (by omega);rw[d];exact⟨rfl,rfl⟩)
def Bytes(w:I)(v:aa)(b:eI):Prop:=(v=aK/\b=[])\/∃d a c,v=bD d a (y b) c/\y b<=c/\∀k,k<y b->aT w (R d<|a+k)=H (tC<|b[k]?.getD 0)
def eH.bytes(i:eH a b d o):Bytes a d o:=by
 unfold eH at i;rcases i.2 with⟨rfl,j⟩|⟨h,c,g,rfl,_,_,e,_⟩;exact .inl ⟨rfl,aQ j⟩;refine .inr ⟨h,0,c,rfl,e,λl k=>?_⟩;have:=i.cells (g:=h) rfl l (tC<|o[l]?.getD 0) (by simp[k]);simpa[dt]using this
def Bytes.below{B:M}(j:Bytes a d o)(h:Below B a f)(g:∀k,bV d=H k->k<B):Bytes f d o:=by
 rcases j with⟨rfl,rfl⟩|⟨l,b,c,rfl,e,i⟩;exact .inl ⟨rfl,rfl⟩;exact .inr ⟨l,b,c,rfl,e,λk j=>(h.cell<|by exact g l rfl).trans<|i k j⟩
def sum_nil(w:I):cy bG 188 #[aK] w λe a=>e=aO (dq<|mr [])/\a=w:=by
 go_in
 go_wp2;go_loop [3,8,5] (λc i x=>i=ap 0/\c=dq 4294967295) (λ_ _ _=>0)
 case atStart=>exact⟨rfl,rfl⟩
 (case round=>obtain⟨rfl,rfl⟩:=hrel;go_wp2;go_ret;exact⟨rfl,rfl⟩)
def sk(v:aa)(c:eI)(w:I)(e:Steps w)(f:Bytes w v c)(a:y c<=140737488351232):cy bG 188 #[v] w λj h=>j=aO (dq<|mr c)/\h=w:=by
 rcases f with⟨rfl,rfl⟩|⟨i,b,d,rfl,_,g⟩;exact sum_nil w;exact Vz i b c d e g a
def YH(n:Z):le 4 (n%4294967296)++le 4 (n/4294967296)=le 8 n:=by
 simp[le];omega
def pa{baseqq:M}{v:aa}{bs:eI}(n:Z){w:I}(b:eH w baseqq v bs)(k:baseqq<=z (G w))(p:y bs<=35184372088832)(m:0<=n)(o:n<18446744073709551616):cy bG 183 #[v,aH n] w λj g=>∃f,j=aO f/\eH g baseqq f (bs++le 8 n)/\eP w g v f:=by
 have i:Hid (le 4 (n%4294967296)++le 4 (n/4294967296)=le 8 n):=YH n;go_in
 go_wp2_with fail
 apply(jv (n%4294967296) b k (by omega) (by omega)<|by omega).mono;rintro j r⟨q,rfl,d,c⟩;go_wp2_with fail
 refine(jv (n/4294967296) d (by have:=c.grown.size;omega) (by simp[bY];omega) (by omega)<|by omega).mono ?_;rintro j s⟨l,rfl,a,e⟩;go_wp2;go_ret;refine⟨l,rfl,?_,c.trans e⟩;rw[aU,i.out]at a;exact a
def DF(l:Steps a)(c:eH a b d o)(m:b<=z (G a))(p:y o<=35184372088832):cy bG 187 #[d] a λk i=>∃g,k=aO g/\eH i b g (o++le 4 (mr o))/\eP a i d g:=by
 have j:=zx o;have c1:=BC o;go_in
 go_wp2_with fail
 apply(sk d o a l c.bytes<|by omega).mono;rintro k q⟨rfl,rfl⟩;go_wp2_with fail
 apply(jv (mr o) c m (by omega) j c1).mono;rintro k r⟨n,rfl,e,f⟩;go_wp2;go_ret;exact⟨n,rfl,e,f⟩
def DE(n:Z)(w:I)(b:0<=n)(c:n<=140737488351232):cy bG 222 #[ap n] w λe a=>e=aO (ap<|n+4)/\a=w:=by
 go_in
 go_wp2;go_ret;exact⟨rfl,rfl⟩
def Rd(w:I)(c:M)(b:eI)(a:Bool):Prop:=∃v,w.heap[c]?=H (ar #[v,aL a] 376 (0,0))/\Bytes w v b/\∀k,bV v=H k->k<c
def Bytes.grown{c:Option M}(i:Bytes a d o)(k:a.grownBy f c)(h:bV d≠c\/bV d=none):Bytes f d o:=by
 rcases i with⟨rfl,rfl⟩|⟨m,b,e,rfl,g,j⟩;exact .inl ⟨rfl,rfl⟩;refine .inr ⟨m,b,e,rfl,g,λn l=>k.cell (j n l) ?_⟩;rcases h with i|i;exact i;simp[bV]at i
def Bytes.alloc{w:I}(m:Bytes w d o)(l:Obj):Bytes (ct w l) d o:=by
 rcases m with⟨rfl,rfl⟩|⟨b,a,c,rfl,e,j⟩;exact .inl ⟨rfl,rfl⟩;refine .inr ⟨b,a,c,rfl,e,λn k=>?_⟩;have h:=j n k;(have g:b<z (G w):=by by_cases i:b<z (G w);exact i;have:w.heap[b]?=none:=eD (by omega);simp[World.cell?,this]at h);rw[<-h];exact cH (w:=w)<|Below.heap_alloc w l b g
def Bytes.take{f b c n:M}{bs:eI}(h:Bytes a (bD f b (y bs) c) bs)(m:n<=y bs):Bytes a (bD f b n c) (bs.take n):=by
 rcases h with⟨h,_⟩|⟨j,e,d,h,i,g⟩;cases h;cases h;(have k:y (bs.take n)=n:=by simp;omega);refine .inr ⟨f,b,c,by rw[k],by omega,λo l=>?_⟩;rw[g o (by omega),lN<|by omega]
def Bytes.BA{f b c n:M}(h:Bytes a (bD f b (y o) c) o)(l:n<=y o):Bytes a (bD f (b+n) (y o-n)<|c-n) (o.drop n):=by
 rcases h with⟨h,_⟩|⟨k,e,d,h,j,g⟩;cases h;cases h;refine .inr ⟨f,b+n,c-n,by simp,by simp;omega,λm i=>?_⟩;simp at i;rw[aV,g (n+m) (by omega),oH]
def Bytes.lt{bs:eI}(n:Bytes a d bs)(b:bs≠[]):∀l,bV d=H l->l<z (G a):=by
 rcases n with⟨rfl,rfl⟩|⟨m,c,g,rfl,k,j⟩;exact absurd rfl b;intro l e;simp[bV]at e;subst e;have h:=j 0 (by cases bs<;>simp_all);by_cases i:m<z (G a);exact i;have:a.heap[m]?=none:=eD (by omega);simp[World.cell?,this]at h
def QW{a:Addr}(h:bV (J (H a) b c)=H g):a.block=g:=by simpa[bV]using h
def mR(f:Bytes a d o)(c:∀k,bV d=H k->k<z (G a)):cy bG 208 #[d] a λj b=>j=aO (aA<|z<|G a)/\Rd b (z<|G a) o bF/\b=ct a (ar #[d,aL bF] 376):=by
 have fin:∀b,b=ct a (ar #[d,aL bF] 376)->Rd b (z<|G a) o bF:=by rintro b rfl;exact⟨d,ft _ _,f.alloc _,c⟩
 have F:Hid (∀b,b=ct a (ar #[d,aL bF] 376)->Rd b (z<|G a) o bF):=fin;clear fin;rcases f with⟨rfl,rfl⟩|⟨m,e,g,rfl,i,l⟩;(.clear c;(go_in);go_wp2;go_ret;exact⟨rfl,F.out _ rfl,rfl⟩);clear c;(go_in);go_wp2;go_ret;exact⟨rfl,F.out _ rfl,rfl⟩
def jN(a:eI)(b:Bool)(n:M):eI×Bool×eI:=if b=bW\/y a<n then(a,bW,[])else(a.drop n,bF,a.take n)
def Rd.short(f:a.heap[b]?=H (ar #[d,aL D] 376 (0,0)))(e:Bytes a d o)(c:∀k,bV d=H k->k<b):Rd (bZ a (R b 1)<|aL bW) b o bW:=⟨d,by rw[aR f];rfl,e.grown (cV a b 1 _)<|.inl<|λg=>kT _<|c _ g,c⟩
def Rd.TN(f:a.heap[b]?=H (ar #[d,aL D] 376 (0,0)))(e:Bytes a s o)(c:∀k,bV s=H k->k<b):Rd (bZ a (R b 0) s) b o D:=⟨s,by rw[aR f];rfl,e.grown (cV a b 0 _)<|.inl<|λg=>kT _<|c _ g,c⟩
def Ka(n:M)(h:Rd a b o D)(hr:y o<=140737488351232)(X:n<=1000000):cy bG 275 #[aA b,ap n] a λp F=>∃E,p=aO E/\Rd F b (jN o D n).1 (jN o D n).2.1/\Bytes F E (jN o D n).2.2/\bV E≠H b/\a.grownBy F (H b):=by
 obtain⟨V,k,w,r⟩:=h;have u:Hid (Bytes a V o):=w;have O:=cellAt k 0 rfl;have P:=cellAt k 1 rfl;have Q:=dK (i:=0) k;have S:=dK (i:=1) k;have v:Hid (a.heap[b]?=H (ar #[V,aL D] 376 (0,0))):=k;have g:Hid (∀T,bV V=H T->T<b):=r;clear k r;by_cases e:D=bW\/y o<n
 .have f:Hid (jN o D n=(o,bW,[])):=by unfold Hid jN;rw[dw e]
  have fin:Rd (bZ a (R b 1)<|aL bW) b o bW/\a.grownBy (bZ a (R b 1)<|aL bW) (H b):=⟨Rd.short v.out u.out g.out,cV _ _ _ _⟩;have j:Hid (Rd (bZ a (R b 1)<|aL bW) b o bW/\a.grownBy (bZ a (R b 1)<|aL bW) (H b)):=fin;clear fin;have t:Bytes (bZ a (R b 1)<|aL bW) aK []:=.inl ⟨rfl,rfl⟩;have l:Hid (Bytes (bZ a (R b 1)<|aL bW) aK []):=t;clear t;cases D with
  |true=>
   clear e w;go_in
   go_wp2;go_ret;exact⟨_,rfl,by rw[f.out];exact j.out.1,by rw[f.out];exact l.out,by simp[bV],j.out.2⟩
  |false=>
   have q:y o<n:=by simpa using e
   clear e;rcases w with⟨rfl,rfl⟩|⟨K,c,d,rfl,C,N⟩;all_goals
    go_in
    go_wp2;go_ret;exact⟨_,rfl,by rw[f.out];exact j.out.1,by rw[f.out];exact l.out,by simp[bV],j.out.2⟩
 (have f:Hid (jN o D n=(o.drop n,bF,o.take n)):=by unfold Hid jN;rw[cW e]);obtain⟨L,q⟩:=not_or.1 e;(obtain rfl:D=bF:=by simpa using L);clear e L;rcases w with⟨rfl,rfl⟩|⟨K,c,d,rfl,C,N⟩;(·(obtain rfl:n=0:=by simpa using q);have t:Bytes a aK []:=.inl ⟨rfl,rfl⟩;have j:=Rd.TN v.out t g.out;have m:=U j;clear j t;(go_in);go_wp2;go_ret;exact⟨_,rfl,by rw[f.out];exact m,by rw[f.out];exact .inl ⟨rfl,rfl⟩,λp=>kT _<|g.out _ p,cV _ _ _ _⟩);by_cases B:d=n;(.subst B;(have x:o.drop d=[]:=by simp;omega);(have W:y o=d:=by omega);have l:Bytes a (bD K c 0 0) (o.drop d):=.inr ⟨K,c,0,by rw[x];rfl,by rw[x];simp,λT b=>by rw[x]at b;simp at b⟩;have s:=(Bytes.take u.out (n:=d)<|by omega).grown (cV a b 0<|bD K c 0 0)<|.inl<|λp=>kT _<|g.out _ p;have j:=Rd.TN v.out l g.out;have A:=U s;have m:=U j;clear l s j x;(go_in);go_wp2;go_ret;exact⟨_,rfl,by rw[f.out];exact m,by rw[f.out];exact A,λp=>kT _<|g.out _ p,cV _ _ _ _⟩);have l:=Bytes.BA u.out (n:=n) (by omega);have s:=(Bytes.take u.out (n:=n)<|by omega).grown (cV a b 0<|bD K (c+n) (y o-n)<|d-n)<|.inl<|λp=>kT _<|g.out _ p;have j:=Rd.TN v.out l g.out;obtain⟨x,A,m⟩:=dC l s j;clear l s j;(go_in);go_wp2;go_ret;exact⟨_,rfl,by rw[f.out];exact m,by rw[f.out];exact A,λp=>kT _<|g.out _ p,cV _ _ _ _⟩
def kA(a:eI):Prop:=∀x∈a,0<=x/\x<256
def kA.take{bs:eI}(h:kA bs)(n:M):kA (bs.take n):=λx a=>h x<|eB a
def kA.drop(h:kA o)(n:M):kA (o.drop n):=λx a=>h x<|di a
def kA.append{b:eI}(h:kA o)(k:kA b):kA (o++b):=λx a=>(am.1 a).elim (h x)<|k x
def kA.Ae{shortqq:Bool}{n:M}(h:kA o):kA (jN o shortqq n).1/\kA (jN o shortqq n).2.2:=by
 unfold jN;split;exact⟨h,λx a=>by cases a⟩;exact⟨h.drop n,h.take n⟩
def vJ(b:eI)(a:Bool)(n:M):y (jN b a n).1<=y b/\y (jN b a n).2.2<=n:=by
 unfold jN;split;exact⟨ah _,bA _⟩;simp;omega
def kA.le(k:M):∀n,kA (le k n):=by
 induction k with
 |zero=>intro n x a;cases a
 |succ k b=>
  intro n x a;rcases az.1 a with rfl|a
  .omega
  .exact b _ x a
def kA.text(s:ab):kA (kD s):=by
 intro x a;obtain⟨b,_,rfl⟩:=aZ.1 a;have:=b.toNat_lt;omega
def mi:eI->Z
 |[]=>0
 |x::r=>x+256*mi r
def tW:∀(l:eI),kA l->0<=mi l/\mi l<256^y l
 |[],_=>by simp[mi]
 |x::r,h=>by
  have a:=h x<|.head _;have c:=tW r<|λa b=>h a<|.tail _ b;simp only[mi,ay,zI];omega
def EC:∀(l:eI)(x:Z),mi (l++[x])=mi l+x*256^y l
 |[],x=>by simp[mi]
 |yqq::r,x=>by
  simp only[cq,mi,ay,zI,EC r x];have e:256*(x*256^y r)=x*(256^y r*256):=by rw[Int.mul_left_comm,Int.mul_comm 256]
  rw[Int.mul_add,e];omega
def Am:∀(k:M)(n:Z),0<=n->mi (le k n)=n%256^k
 |0,n,_=>by simp[mi,le]
 |k+1,n,h=>by
  simp only[le,mi,Am k (n/256) (by omega),zI];obtain⟨m,rfl⟩:=uJ h;have:=Nat.mod_mul (x:=m) (a:=256) (b:=256^k);rw[Int.mul_comm (256^k) 256];exact_mod_cast this.symm
def VL(h:kA o)(j:y o<=8)(k:M)(d:k<y o):mi (o.take<|k+1)=bits .or .u64 (mi<|o.take k) (IntKind.u64.wrap<|o[k]*2^(8*k)):=by
 have c:=tW (o.take k)<|h.take k;have e:y (o.take k)=k:=by simp;omega
 rw[aj d,EC,e];rw[e]at c;have m:=h o[k]<|aq d;have i:(256:Z)^k=2^(8*k):=by rw[Int.pow_mul];rfl
 rw[i]at c|-;have l:(0:Z)<2^(8*k):=Int.pow_pos (by decide);have f:(2:Z)^(8*k)*256<=2^64:=by(have:(2:Z)^(8*k)*256=2^(8*k+8):=by rw[Int.pow_add];rfl);rw[this];exact_mod_cast Nat.pow_le_pow_right (by decide) (by omega)
 have g:o[k]*2^(8*k)<=255*2^(8*k):=Int.mul_le_mul_of_nonneg_right (by omega) (by omega);have a:0<=o[k]*2^(8*k):=Int.mul_nonneg (by omega) (by omega);have b:o[k]*2^(8*k)<2^64:=by omega
 rw[wraps_u64 _ a b,bits_join_low .u64 64 (by decide) wraps_u64 (8*k) _ _ c.1 c.2 (by omega) a (Int.mul_emod_left _ _) b]
def Eh(n:M)(h:Rd a b o D)(f:kA o)(F:y o<=140737488351232)(P:n<=8):cy bG 247 #[aA b,ap n] a λL w=>L=aO (aH<|mi (jN o D n).2.2)/\Rd w b (jN o D n).1 (jN o D n).2.1/\a.grownBy w (H b):=by
 have q:=U f;clear f;go_in
 go_wp2_with fail
 apply(Ka n h F<|by omega).mono;rintro L T⟨S,rfl,g,i,j,u⟩;have O:=(vJ o D n).2;obtain⟨s,r,p⟩:=dC (q.Ae (shortqq:=D) (n:=n)).2 g u;clear g u j h q;generalize t:(jN o D n).2.2=c at*;have m:=U t;clear t;rcases i with⟨rfl,rfl⟩|⟨V,l,A,rfl,E,C⟩;(.go_wp2;(go_loop [5,12,6,7] (λx v _ _=>v=ap 0/\x=aH 0) (λ_ _ _ _=>0));(case atStart=>exact⟨rfl,rfl⟩);(case round=>obtain⟨rfl,rfl⟩:=hrel;go_wp2;go_ret;exact⟨by rw[ae m];rfl,r,p⟩));(.go_wp2;(go_loop [5,12,6,7] (λx v _ _=>∃(k:M),k<=y c/\v=ap k/\x=aH (mi<|c.take k)) (λ_ v _ _=>y c-(intOf v).toNat));(case atStart=>exact⟨0,bA _,rfl,rfl⟩);(case round=>obtain⟨k,N,rfl,rfl⟩:=hrel;by_cases e:k<y c;(.have B:=C k e;have Q:=s c[k]<|aq e;have d:=U<|VL s (by omega) k e;generalize mi (c.take k)=K at*;go_wp2;(go_round);(case rel=>exact⟨k+1,by omega,by go_num,by rw[ae d]⟩);case measure=>simp[intOf];omega);go_wp2;go_ret;have d:c.take k=c:=cR (by omega);rw[d];exact⟨by rw[ae m];rfl,r,p⟩))
def Ua(h:kA o)(a:y o<=b):mi o<256^b:=by
 have c:=(tW o h).2;have d:(256:Z)^y o<=256^b:=by exact_mod_cast Nat.pow_le_pow_right (by decide) a
 omega
def num(b:eI)(a:Bool)(n:M):Z:=mi (jN b a n).2.2
def su(h:kA o):0<=num o D b/\num o D b<256^b:=⟨(tW _ h.Ae.2).1,Ua h.Ae.2 (vJ o D b).2⟩
def Lk(h:Rd a b o D)(c:kA o)(j:y o<=140737488351232):cy bG 209 #[aA b] a λk e=>k=aO (aH<|num o D 8)/\Rd e b (jN o D 8).1 (jN o D 8).2.1/\a.grownBy e (H b):=by
 have d:=U h;have f:=U c;clear h c;go_in
 go_wp2_with fail
 apply(Eh 8 d f j<|by omega).mono;rintro k l⟨rfl,g,i⟩;go_wp2;go_ret;exact⟨rfl,g,i⟩
def Eg(n:M)(h:Rd a b o D)(c:kA o)(f:y o<=140737488351232)(e:n<=8):cy bG 247 #[aA b,ap n] a λg d=>g=aO (aH<|num o D n)/\Rd d b (jN o D n).1 (jN o D n).2.1/\a.grownBy d (H b):=Eh n h c f e
def Pf{k:IntKind}(h:m=F):Ending.returned (.int k m)=aO (.int k F):=by rw[h]
def JS(c:M)(a:Bool)(w:I)(h:Rd w c o a)(b:kA o)(n:y o<=140737488351232):cy bG 210 #[aA c] w λp j=>p=aO (dq<|num o a 4)/\Rd j c (jN o a 4).1 (jN o a 4).2.1/\w.grownBy j (H c):=by
 have l:0<=num o a 4:=(su b).1;have m:num o a 4<4294967296:=(su b).2;have d:=U h;have k:=U b;clear h b;go_in
 go_wp2_with fail
 apply(Eg 4 d k n<|by omega).mono;rintro p q⟨rfl,g,i⟩;have e:=U g;have f:=U i;clear g i;go_wp2;go_ret;exact⟨Pf (by omega),e,f⟩
def Fe(h:Rd a b o D)(c:kA o)(n:y o<=140737488351232):cy bG 215 #[aA b] a λp j=>p=aO (tC<|num o D 1)/\Rd j b (jN o D 1).1 (jN o D 1).2.1/\a.grownBy j (H b):=by
 have l:0<=num o D 1:=(su c).1;have m:num o D 1<256:=(su c).2;have d:=U h;have k:=U c;clear h c;go_in
 go_wp2_with fail
 apply(Eg 1 d k n<|by omega).mono;rintro p q⟨rfl,g,i⟩;have e:=U g;have f:=U i;clear g i;go_wp2;go_ret;exact⟨Pf (by omega),e,f⟩
def Gr(h:Rd a b o D):cy bG 211 #[aA b] a λi g=>i=aO (aL D)/\g=a:=by
 obtain⟨v,d,e,c⟩:=h;have f:=cellAt d 1 rfl;clear d e c;go_in
 go_wp2;go_ret;exact⟨rfl,rfl⟩
def xN(h:Rd a b o D)(p:y o<=140737488351232):cy bG 212 #[aA b] a λm l=>m=aO (aL<|!D&&o.isEmpty)/\l=a:=by
 obtain⟨v,c,g,d⟩:=h;have i:=cellAt c 0 rfl;have j:=cellAt c 1 rfl;clear c d;cases D with
 |true=>
  go_in
  go_wp2;go_ret;exact⟨rfl,rfl⟩
 |false=>
  rcases g with⟨rfl,rfl⟩|⟨s,e,f,rfl,k,n⟩
  .go_in
   go_wp2;go_ret;exact⟨rfl,rfl⟩
  .cases o with
   |nil=>
    go_in
    go_wp2;go_ret;exact⟨rfl,rfl⟩
   |cons x r=>
    have q:((y (x::r):Z)==0)=bF:=by simp;omega
    go_in
    go_wp2;go_ret;exact⟨rfl,rfl⟩
def Dp(a:eI):ab:=⟨(a.map λx=>UInt8.ofNat x.toNat).toArray⟩
def vI(s:ab):Dp (kD s)=s:=by
 have e:((λx:Z=>UInt8.ofNat x.toNat)∘λb:UInt8=>(b.toNat:Z))=id:=by funext b;simp
 unfold Dp kD;rw[iQ,e,List.map_id]
def Dn(b:eI)(a:Bool):eI×Bool×eI:=let c:=jN b a 1;jN c.1 c.2.1 (num b a 1).toNat
def OF(g:Bytes a d o)(f:kA o):(convert 126 9 d).run bG a=.ok (ai<|Dp o) a:=by
 rcases g with⟨rfl,rfl⟩|⟨k,b,e,rfl,i,h⟩;exact Lib.run_convert_nil_bytes a _ _ 5 0 underlying126 underlying5 underlying9;have:=vy (P:=bG) a 126 9 5 (R k b) e (o.map λx=>UInt8.ofNat x.toNat) underlying126 underlying5 underlying9 (λj c=>by simp at c;rw[dt,h j c];have l:=f o[j]<|aq c;simp[c];omega);simpa[Dp]using this
def Do(h:Rd a b o D)(c:kA o)(K:y o<=140737488351232):cy bG 248 #[aA b] a λA u=>A=aO (ai<|Dp (Dn o D).2.2)/\Rd u b (Dn o D).1 (Dn o D).2.1/\a.grownBy u (H b):=by
 have j:0<=num o D 1:=(su c).1;have C:num o D 1<256:=(su c).2;have d:=U h;have l:=U c;clear h c;go_in
 go_wp2_with fail
 apply(Fe d l K).mono;rintro A O⟨rfl,n,p⟩;have e:=U n;have f:=U p;clear n p;obtain⟨v,k⟩:=uJ j;have t:(Dn o D)=jN (jN o D 1).1 (jN o D 1).2.1 v:=by unfold Dn;simp[k]
 have L:=(vJ o D 1).1;have m:=U t;have w:=U (l.Ae (shortqq:=D) (n:=1)).1;have F:v<256:=by omega
 have x:=U k;clear t k;go_wp2_with fail
 rw[ae x];apply(Ka v e (by omega)<|by omega).mono;rintro A P⟨N,rfl,q,r,B,s⟩;have E:=OF r w.Ae.2;have g:=U q;have i:=U s;clear q r B s;go_wp2;go_ret;exact⟨by rw[ae m];rfl,by rw[ae m];exact g,xH f i⟩
def Bytes.of_heap{w w':I}(i:Bytes w d o)(k:w'.heap=w.heap):Bytes w' d o:=by
 rcases i with⟨rfl,rfl⟩|⟨j,b,e,rfl,g,h⟩;exact .inl ⟨rfl,rfl⟩;exact .inr ⟨j,b,e,rfl,g,λl i=>by rw[<-h l i];exact cH (w:=w)<|by rw[k]⟩
def Rd.of_heap{w w':I}(i:Rd w b o D)(h:w'.heap=w.heap):Rd w' b o D:=by
 obtain⟨v,d,e,g⟩:=i;exact⟨v,by rw[h];exact d,e.of_heap h,g⟩
def Steps.of_heap{w w':I}(h:Steps w)(e:w'.heap=w.heap):Steps w':=λk b=>by
 rw[<-h k b];exact cH (w:=w)<|by rw[e]
def Steps.grown{b:Option M}(h:Steps a)(d:a.grownBy f b)(c:b≠H 1):Steps f:=λk e=>d.cell (h k e)<|λg=>c g.symm
def Steps.alloc{w:I}(h:Steps w)(o:Obj):Steps (ct w o):=λk e=>by
 have c:=h k e;have a:1<z (G w):=by by_cases d:1<z (G w);exact d;have:w.heap[(1:M)]?=none:=eD (by omega);simp[World.cell?,this]at c
 rw[<-c];exact cH (w:=w)<|Below.heap_alloc w o _ a
def Steps.lt(h:Steps a):1<z (G a):=by
 have b:=h 0 (by decide);by_cases c:1<z (G a);exact c;have:a.heap[(1:M)]?=none:=eD (by omega);simp[World.cell?,this]at b
def JA(b c:ab):(b==c)=decide (b=c):=by
 obtain⟨x⟩:=b;obtain⟨a⟩:=c;show(x==a)=_;by_cases h:x=a;simp[h];simp[h]
abbrev fc:=cr<|ab×aa
def fc.get(m:fc)(k:ab):Option aa:=match m with
 |[]=>none
 |p::r=>if p.1=k then H p.2 else fc.get r k
def Fits(a:cr MapEntry)(m:fc):Prop:=a.map (λe=>(e.key,e.val))=m.map (λp=>(ai p.1,p.2))
def Fits.cons_inv{e:MapEntry}{a:cr MapEntry}{m:fc}(h:Fits (e::a) m):∃p r,m=p::r/\e.key=ai p.1/\e.val=p.2/\Fits a r:=by
 cases m with
 |nil=>simp[Fits]at h
 |cons p r=>
  simp[Fits]at h;exact⟨p,r,rfl,h.1.1,h.1.2,h.2⟩
def Jh(k:ab):∀(a:cr MapEntry)(m:fc)(i:M),Fits a m->∃l,Instr.findNow .string (ai k) a i=H ((m.get k).map λv=>(l,v)):=by
 intro a;induction a with
 |nil=>
  intro m i h;obtain rfl:m=[]:=by simpa[Fits]using h
  exact⟨0,rfl⟩
 |cons n a j=>
  intro m i h;obtain⟨p,r,rfl,d,g,f⟩:=h.cons_inv;by_cases c:p.1=k
  .refine⟨i,?_⟩;simp[Instr.findNow,Instr.sameNow,d,fc.get,c,g,JA]
  .obtain⟨l,e⟩:=j r (i+1) f;refine⟨l,?_⟩;have b:(k==p.1)=bF:=by rw[JA];simpa usingλn:k=p.1=>c n.symm
   simp[Instr.findNow,Instr.sameNow,d,fc.get,c,b,e]
def gE(w:I)(c:M)(m:fc):Prop:=∃b a,w.heap[c]?=H (.map b a)/\Fits b.toList m/\MapKept.Stamped b a
def tR{P:Program}{mt l i n:M}{m:fc}{u:TypeInfo}(s:P.underlying mt=H (.map l i))(j:P.underlying l=H .string)(q:P.info? i=H u)(t:u.zero=H d)(v:gE a n m)(k:ab):(Instr.lookup mt (.map<|H n) (ai k) bF).run P a=.ok ((m.get k).getD d) a:=by
 obtain⟨c,b,p,o,_⟩:=v;obtain⟨w,r⟩:=Jh k c.toList m 0 o;have e:=eJ (P:=P) (w:=a) (k:=ai k) j (by trivial) c.isEmpty 9999;have g:=eF (P:=P) (w:=a) j r;have h:(getObj n).run P a=.ok (.map c b) a:=by simp[getObj,Sem.run,p]
 unfold Instr.lookup;rw[jX,eA s];simp only[jm,jX,h,pJ];rw[show(10000:M)=9999+1 from rfl,e];simp only[jm,g];cases hg:m.get k with
 |none=>simp[zeroValue,typeInfo,q,t]
 |some x=>simp
section
open Go.ChangeMaps (setBlock)
def fc.put(m:fc)(k:ab)(v:aa):fc:=match m with
 |[]=>[(k,v)]
 |p::r=>if p.1=k then(k,v)::r else p::fc.put r k v
def fc.del(m:fc)(k:ab):fc:=match m with
 |[]=>[]
 |p::r=>if p.1=k then r else p::fc.del r k
theorem Fits.cons{e:MapEntry}{b:cr MapEntry}{p:ab×aa}{m:fc}(d:e.key=ai p.1)(f:e.val=p.2)(h:Fits b m):Fits (e::b) (p::m):=by
 simp[Fits,d,f];exact h
theorem Hi(k:ab):∀(d:cr MapEntry)(m:fc)(s:M),Fits d m->(Instr.findNow .string (ai k) d s=H none/\m.get k=none/\(∀e∈d,e.key≠ai k)/\m.del k=m/\∀v,m.put k v=m++[(k,v)])\/∃t e,Instr.findNow .string (ai k) d s=H (H (s+t,e.val))/\d[t]?=H e/\e.key=ai k/\m.get k=H e.val/\(∀v,Fits (d.modify t λe=>{e with key:=ai k,val:=v})<|m.put k v)/\Fits (d.eraseIdx t) (m.del k):=by
 intro d;induction d with
 |nil=>
  intro m s x;obtain rfl:m=[]:=by simpa[Fits]using x
  exact .inl ⟨rfl,rfl,by simp,rfl,λ_=>rfl⟩
 |cons e d B=>
  intro m s x;obtain⟨C,D,rfl,f,q,p⟩:=x.cons_inv;by_cases b:C.1=k
  .refine .inr ⟨0,e,?_,rfl,by rw[f,b],?_,?_,?_⟩
   .simp[Instr.findNow,Instr.sameNow,f,b,JA]
   .simp[fc.get,b,q]
   .intro v;simp only[fc.put,b,je,qu];exact Fits.cons rfl rfl p
   .simpa[fc.del,b]using p
  .have g:(k==C.1)=bF:=by rw[JA];simpa usingλe:k=C.1=>b e.symm
   rcases B D (s+1) p with⟨h,i,j,l,n⟩|⟨t,u,h,i,j,l,n,A⟩
   .refine .inl ⟨?_,?_,?_,?_,?_⟩
    .simp[Instr.findNow,Instr.sameNow,f,g,h]
    .simp[fc.get,b,i]
    .intro E r;rcases az.1 r with rfl|r
     .rw[f];simpa using b
     .exact j E r
    .simp[fc.del,b,l]
    .intro v;simp[fc.put,b,n]
   .refine .inr ⟨t+1,u,?_,by simpa using i,j,?_,?_,?_⟩
    .simp[Instr.findNow,Instr.sameNow,f,g,h];omega
    .simp[fc.get,b,l]
    .intro v;simp only[fc.put,b,kg,mS];exact Fits.cons f q<|n v
    .simp only[fc.del,b,kg,uH];exact Fits.cons f q A
theorem iO(w:I)(d:M)(o:Obj):w.grownBy (setBlock w d o) (H d):=⟨rfl,rfl,rfl,by simp[setBlock],λk _ b=>by
 simp only[setBlock];rw[jy (λe=>b (by rw[e]))]⟩
theorem Ca{P:Program}{w:I}{mt v A q:M}{B:fc}(u:P.underlying mt=H (.map v A))(j:P.underlying v=H .string)(E:gE w q B)(l:ab)(x:aa):∃k,(Instr.mapUpdate mt (.map<|H q) (ai l) x).run P w=.ok () k/\gE k q (B.put l x)/\w.grownBy k (H q)/\z (G k)=z (G w):=by
 obtain⟨h,b,g,p,t⟩:=E;have f:=jo (P:=P) g;rcases Hi l h.toList B 0 p with⟨m,r,i,_,n⟩|⟨C,e,m,r,i,F,n,_⟩;refine⟨setBlock w q<|.map (h.push {key:=ai l,val:=x,born:=b})<|b+1,?_,?_,iO _ _ _,by simp[setBlock]⟩;simp[Instr.mapUpdate,eA u,f,eJ j (show MapKept.IsKey .string (ai l)by trivial),eF j m,fA _ g,Result.andThen,setBlock];refine⟨_,_,(fK g).1,?_,rh t i⟩;rw[n];simp[Fits]at p|-;exact p;(have s:h[C]?=H e:=by simpa using r);refine⟨setBlock w q<|.map (h.modify C λe=>{e with key:=ai l,val:=x}) b,?_,?_,iO _ _ _,by simp[setBlock]⟩;simp[Instr.mapUpdate,eA u,f,eJ j (show MapKept.IsKey .string (ai l)by trivial),eF j m,s,i,og (show MapKept.IsKey .string (ai l)by trivial),fA _ g,Result.andThen,setBlock];refine⟨_,_,(fK g).1,?_,pL t _ _ (λ_ _=>rfl) (λD _ d=>by rw[s]at d;cases d;exact i.symm)⟩;simpa using n x
theorem Kr{P:Program}{w:I}{mt l t m:M}{B:fc}(r:P.underlying mt=H (.map l t))(g:P.underlying l=H .string)(E:gE w m B)(s:ab)(C:TypeId):∃h,(Builtin.delete_ #[mt,l] C #[.map<|H m,ai s]).run P w=.ok (dB #[]) h/\gE h m (B.del s)/\w.grownBy h (H m)/\z (G h)=z (G w):=by
 obtain⟨d,b,f,p,q⟩:=E;have e:=jo (P:=P) f;rcases Hi s d.toList B 0 p with⟨i,j,u,n,v⟩|⟨A,D,i,j,u,n,v,x⟩;refine⟨setBlock w m<|.map d b,?_,?_,iO _ _ _,by simp[setBlock]⟩;simp[Builtin.delete_,eA r,e,eJ g (show MapKept.IsKey .string (ai s)by trivial),eF g i,fA _ f,Result.andThen,setBlock];rw[n];exact⟨_,_,(fK f).1,p,q⟩;(have F:d[A]?=H D:=by simpa using j);(have k:A<d.size:=by have:=fo.1 j;simpa using this.1);refine⟨setBlock w m<|.map (d.eraseIdxIfInBounds A) b,?_,?_,iO _ _ _,by simp[setBlock]⟩;simp[Builtin.delete_,eA r,e,eJ g (show MapKept.IsKey .string (ai s)by trivial),eF g i,fA _ f,Result.andThen,setBlock];refine⟨_,_,(fK f).1,?_,wz q _⟩;simp only[Array.eraseIdxIfInBounds,k,oE,wF];exact x
theorem gE.kept{w h:I}{i:M}{n:fc}{d:Option M}(p:gE w i n)(l:w.grownBy h d)(e:H i≠d):gE h i n:=by
 obtain⟨j,b,g,k,m⟩:=p;exact⟨j,b,(l.block i (ak g) e).trans g,k,m⟩
theorem gE.alloc{w:I}{b:M}{m:fc}(h:gE w b m)(o:Obj):gE (ct w o) b m:=h.kept (dr w o none)<|by simp
theorem gE.lt{w:I}{d:M}{m:fc}(h:gE w d m):d<z (G w):=by
 obtain⟨_,_,b,_⟩:=h;exact ak b
section
variable{P:Program}(w:I){c:Array Oper}{rest:cr Oper}{o:Oper}{a:Act}{Q:Exit->Act->I->Prop}
theorem Dh(m:o.guard=none)(i B j:Operand)(A:TypeId)(h:o.op=Op.mapUpdate A i B j)(v D:TypeId)(q:P.underlying A=H (.map v D))(n:P.underlying v=H .string)(k:M)(x:fc)(p:a.eval i=.map (H k))(E:gE w k x)(b:ab)(d:aa)(s:a.eval B=ai b)(r:a.eval j=d)(l:∀f,gE f k (x.put b d)->w.grownBy f (H k)->wpList P c Q rest (a.put o.dst iB) f):wpList P c Q (o::rest) a w:=by
 refine kO m λC g=>?_;obtain⟨f,e,t,u,_⟩:=Ca q n E b d;unfold Oper.wp;simp[execOp,h,p,s,r,e,Result.andThen];exact g _ _<|l f t u
theorem Di(k:o.guard=none)(h x:Operand)(u q:TypeId)(g:o.op=Op.call {callee:=Callee.builtin Builtin.delete,args:=#[h,x],argTypes:=#[u,q]})(A:TypeId)(n:P.underlying u=H (.map q A))(l:P.underlying q=H .string)(i:M)(t:fc)(m:a.eval h=.map (H i))(B:gE w i t)(b:ab)(p:a.eval x=ai b)(j:∀e,gE e i (t.del b)->w.grownBy e (H i)->wpList P c Q rest (a.put o.dst<|dB #[]) e):wpList P c Q (o::rest) a w:=by
 refine kO k λv f=>?_;obtain⟨e,d,r,s,_⟩:=Kr n l B b o.type;unfold Oper.wp;simp[execOp,g,resolve,invoke,builtin,m,p,d,Result.andThen];exact f _ _<|j e r s
end
end
def tX:(prog.info? 125).map (λi=>(i.zero,i.size,i.bytes))=H (H<|fp none,1,8):=by kernel_rfl
def oe(w:I)(e g d:M)(f:aa)(c b a:Z):Prop:=w.heap[e]?=H (ar #[.map<|H g,.map<|H d,f,ap c,ap 0,ap 0,ap b,ap a] 73 (0,0))
def yx(h:oe a b c g d m F Q):cy bG 146 #[aA b] a λj i=>j=aO (aL bF)/\i=a:=by
 have e:=cellAt h 4 rfl;have f:=cellAt h 5 rfl;clear h;go_in
 go_wp2;go_ret;exact⟨rfl,rfl⟩
def vf{f:Z}(t:fc)(e:ab)(r:Addr)(h:oe a b c g d m Q f)(n:gE a c t)(k:t.get e=H (fp<|H r)):cy bG 144 #[aA b,ai e] a λs q=>s=aO (dB #[fp<|H r,.nilIface])/\q=a:=by
 obtain⟨u,p,j,_,_⟩:=cz tX;have l:=tR underlying70 underlying9 p j n e;rw[k]at l;simp only[gU]at l;have o:=cellAt h 0 rfl;have i:=U h;clear h n k;go_in
 go_wp2_with(first
  |(go_at_call 146;refine(yx i).mono ?_;rintro s v⟨rfl,rfl⟩))
 go_ret2
 exact⟨rfl,rfl⟩
def RR(r:fc)(e:ab)(h:oe a b c g d m F Q)(l:gE a c r)(j:r.get e=none):cy bG 144 #[aA b,ai e] a λq p=>q=aO (dB #[fp none,.iface 219<|aA<|z<|G a])/\p=ct a (ar #[ai e,ap 10] 222):=by
 obtain⟨s,o,i,_,_⟩:=cz tX;have k:=tR underlying70 underlying9 o i l e;rw[j]at k;simp only[uB]at k;have n:=cellAt h 0 rfl;have f:=U h;clear h l j;go_in
 go_wp2_with(first
  |(go_at_call 146;refine(yx f).mono ?_;rintro q t⟨rfl,rfl⟩))
 go_ret2
 exact⟨rfl,rfl⟩
structure JK(w:I)(g:M)(bs:eI)(safe:Z):Prop where
 iG:∃v,w.heap[g]?=H (ar #[v,ap safe] 129 (0,0))/\Bytes w v bs/\bV v≠H g
def Bytes.shape(h:Bytes a d o):d=aK/\o=[]\/∃f b c,d=bD f b (y o) c/\y o<=c:=by
 rcases h with h|⟨f,b,c,h,e,_⟩;exact .inl h;exact .inr ⟨f,b,c,h,e⟩
def Te(w:fc)(e:ab)(t:M)(i:eI)(f:Z)(h:oe a b c g d m F Q)(p:gE a c w)(n:w.get e=H (aA t))(q:JK a t i f)(B:y i<=140737488351232):cy bG 153 #[aA b,ai e] a λA x=>A=aO (dB #[ap<|y i,.nilIface])/\x=a:=by
 obtain⟨E,o,l,_⟩:=q.iG;have u:=cellAt o 0 rfl;have r:=U<|vf w e (R t 0) h p n;have j:=l.shape;clear q o l h p n;rcases j with⟨rfl,rfl⟩|⟨D,k,s,rfl,v⟩
 all_goals
  go_in
  go_wp2_with(first
   |(go_at_call 144;refine r.mono ?_;rintro A C⟨rfl,rfl⟩))
  go_ret2
  exact⟨rfl,rfl⟩
def Qp(k:fc)(e:ab)(h:oe a b c g d m F Q)(i:gE a c k)(f:k.get e=none):cy bG 153 #[aA b,ai e] a λn l=>n=aO (dB #[ap 0,.iface 219<|aA<|z<|G a])/\l=ct a (ar #[ai e,ap 10] 222):=by
 have j:=U<|RR k e h i f;clear h i f;go_in
 go_wp2_with(first
  |(go_at_call 144;refine j.mono ?_;rintro n o⟨rfl,rfl⟩))
 go_ret2
 exact⟨rfl,rfl⟩
def SY(E:fc)(e:ab)(n:M)(f:eI)(l:Z)(h:oe a b c g d m F Q)(s:gE a c E)(r:E.get e=H (aA n))(t:JK a n f l)(L:y f<=140737488351232):cy bG 90 #[aA b,ai e] a λK u=>K=aO .nilIface/\JK u n f (y f)/\u=bZ a (R n 1) (ap<|y f):=by
 obtain⟨N,k,o,j⟩:=t.iG;have A:=cellAt k 0 rfl;have C:=dK (i:=1) k;have B:=cellAt k 1 rfl;have w:=U<|vf E e (R n 0) h s r;have v:=U<|show JK (bZ a (R n 1)<|ap<|y f) n f (y f)from⟨N,by rw[aR k];rfl,o.grown (cV a n 1 _)<|.inl j,j⟩;have p:=o.shape;clear t k o h s r j;rcases p with⟨rfl,rfl⟩|⟨P,q,x,rfl,D⟩
 all_goals
  go_in
  go_wp2_with(first
   |(go_at_call 144;refine w.mono ?_;rintro K O⟨rfl,rfl⟩))
  go_ret;exact⟨rfl,v,rfl⟩
section
open Go.ChangeMaps (setBlock)
def qt(w:I)(h r:M)(m left:fc):Prop:=∃e d c seen g,w.heap[h]?=H (.map e d)/\Fits e.toList m/\MapKept.Stamped e d/\w.heap[r]?=H (.mapIter (H h) c seen g)/\(∀x∈e.toList,x.born<c)/\c<=g/\c<=d/\Fits (leftOf e seen).toList left
theorem qt.ne{w:I}{g r:M}{m left:fc}(j:qt w g r m left):r≠g:=by
 obtain⟨i,c,_,_,_,e,_,_,d,_⟩:=j;intro h;rw[h,e]at d;cases d
theorem qt.lt{w:I}{e r:M}{m left:fc}(h:qt w e r m left):r<z (G w):=by
 obtain⟨g,c,_,_,_,_,_,_,d,_⟩:=h;exact ak d
theorem qt.kept{w e:I}{g r:M}{s left:fc}(t:qt w g r s left)(p:e.heap[g]?=w.heap[g]?)(q:e.heap[r]?=w.heap[r]?):qt e g r s left:=by
 obtain⟨i,c,d,seen,h,j,k,l,m,n⟩:=t;exact⟨i,c,d,seen,h,p.trans j,k,l,q.trans m,n⟩
theorem Fits.split{e:cr MapEntry}{n:fc}{d c:cr MapEntry}{h:MapEntry}(i:Fits e n)(m:e=d++h::c):∃a p g,n=a++p::g/\Fits d a/\h.key=ai p.1/\h.val=p.2/\Fits c g:=by
 subst m;unfold Fits at i;rw[aM,aY]at i;obtain⟨a,q,rfl,j,k⟩:=iw.1 i.symm;obtain⟨p,g,rfl,f,l⟩:=ni.1 k;exact⟨a,p,g,rfl,j.symm,(bU Prod.fst f).symm,(bU Prod.snd f).symm,l.symm⟩
theorem Fits.append{c d:cr MapEntry}{m n:fc}(h:Fits c m)(k:Fits d n):Fits (c++d) (m++n):=by
 unfold Fits at*;rw[aM,aM,h,k]
theorem GS{d:Array MapEntry}{seen:Array M}{f e:cr MapEntry}{h:MapEntry}(m:(d.toList.map (·.born)).Nodup)(n:(leftOf d seen).toList=f++h::e):(leftOf d<|seen.push h.born).toList=f++e:=by
 have i:(leftOf d<|seen.push h.born).toList=(leftOf d seen).toList.filter (λx=>!(x.born==h.born)):=by simp only[leftOf,Array.toList_filter,List.filter_filter];congr 1;funext x;simp[Bool.and_comm];rfl
 have c:((leftOf d seen).toList.map (·.born)).Nodup:=by(have:(leftOf d seen).toList.Sublist d.toList:=by simp[leftOf]);exact sI (this.map _) m
 rw[i,n];rw[n]at c;simp only[aM,aY]at c;obtain⟨_,j,k⟩:=jq.1 c;obtain⟨l,_⟩:=kI.1 j;rw[iV,cZ<|by simp];congr 1;refine eV.2<|λx g=>?_;have:=k x.born (aZ.2 ⟨x,g,rfl⟩) h.born (by simp);simpa using this;refine eV.2<|λx g=>?_;have:x.born≠h.born:=λc=>l (by rw[<-c];exact aZ.2 ⟨x,g,rfl⟩);simpa using this
theorem Nh{P:Program}{w:I}{mt k h g:M}{m:fc}(l:P.underlying mt=H (.map k h))(n:gE w g m):∃e,(Instr.range mt<|.map<|H g).run P w=.ok (aA<|z<|G w) e/\qt e g (z<|G w) m m/\w.grownBy e none/\z (G e)=z (G w)+1:=by
 obtain⟨d,c,f,i,j⟩:=n;refine⟨_,run_range_map w mt k h g d c l f,⟨d,c,c,#[],c,((oG w _).2 g<|ak f).trans f,i,j,(oG w _).1,j.1,ah _,ah _,?_⟩,dr w _ none,by simp⟩;have:leftOf d #[]=d:=by simp[leftOf]
 rw[this];exact i
theorem Qy{P:Program}{w:I}{v r:M}{ad left:fc}(ac:qt w v r ad left)(N:TypeId):(left=[]/\(Instr.next (aA r) bF N).run P w=.ok (dB #[aL bF]) w)\/∃m L g p,left=m++L::g/\(Instr.next (aA r) bF N).run P w=.ok (dB #[aL bW,ai L.1,L.2]) p/\qt p v r ad (m++g)/\w.grownBy p (H r)/\z (G p)=z (G w)/\(Instr.entry<|aA r).run P p=.ok (dB #[ai L.1,L.2]) p:=by
 have D:=ac.ne;obtain⟨l,c,d,seen,O,S,hf,E,V,k,F,t,C⟩:=ac;rcases run_next_at (P:=P) w N r v d O seen l c V S k F with⟨X,f⟩|⟨x,T,A,h,f⟩;refine .inl ⟨?_,f⟩;(have:(leftOf l seen).toList=[]:=by simpa using qG X);rw[this]at C;simpa[Fits]using C;obtain⟨m,g,u⟩:=sH T;obtain⟨a,L,al,rfl,ha,n,W,hc⟩:=C.split u;(have i:A.heap=w.heap:=by rcases h with rfl|rfl<;>rfl);(have s:A.heap[r]?=H (.mapIter (H v) d seen O):=by rw[i];exact V);have j:(setBlock A r<|.mapIter (H v) d (seen.push x.born) c).heap[r]?=H (.mapIter (H v) d (seen.push x.born) c):=(fK s).1;have e:∀K,K≠r->(setBlock A r<|.mapIter (H v) d (seen.push x.born) c).heap[K]?=w.heap[K]?:=λK n=>((fK s).2 K n).trans (by rw[i]);have q:=(e v<|λx=>D x.symm).trans S;(have B:x∈l.toList:=by(have:(leftOf l seen).toList.Sublist l.toList:=by simp[leftOf]);exact this.subset T);refine .inr ⟨a,L,al,_,rfl,by rw[<-n,<-W];exact f,⟨l,c,d,_,c,q,hf,E,j,k,t,t,by rw[GS E.2.1 u];exact ha.append hc⟩,⟨?_,?_,?_,?_,λK _ n=>e K<|λx=>n<|by rw[x]⟩,?_,?_⟩;rcases h with rfl|rfl<;>rfl;rcases h with rfl|rfl<;>rfl;rcases h with rfl|rfl<;>rfl;simp[setBlock,i];simp[setBlock,i];rw[<-n,<-W];exact run_entry_at _ r v d seen l c x j q B E.2.1
section
variable{P:Program}(w:I){b:Array Oper}{rest:cr Oper}{o:Oper}{a:Act}{Q:Exit->Act->I->Prop}
theorem ui(k:o.guard=none)(h:Operand)(t:TypeId)(g:o.op=Op.range t h)(x u:TypeId)(m:P.underlying t=H (.map x u))(i:M)(n:fc)(l:a.eval h=.map (H i))(v:gE w i n)(j:∀c,qt c i (z<|G w) n n->w.grownBy c none->z (G c)=z (G w)+1->wpList P b Q rest (a.put o.dst<|aA<|z<|G w) c):wpList P b Q (o::rest) a w:=by
 refine kO k λs e=>?_;obtain⟨c,d,p,q,r⟩:=Nh m v;unfold Oper.wp;simp[execOp,g,l,d,Result.andThen];exact e _ _<|j c p q r
theorem vE(u:o.guard=none)(l:Operand)(k:o.op=Op.next l bF)(x r:M)(A left:fc)(qL:a.eval l=aA r)(C:qt w x r A left)(h:left=[]->wpList P b Q rest (a.put o.dst<|dB #[aL bF]) w)(i:∀e p c g,left=e++p::c->qt g x r A (e++c)->w.grownBy g (H r)->z (G g)=z (G w)->(Instr.entry<|aA r).run P g=.ok (dB #[ai p.1,p.2]) g->wpList P b Q rest (a.put o.dst<|dB #[aL bW,ai p.1,p.2]) g):wpList P b Q (o::rest) a w:=by
 refine kO u λB j=>?_;unfold Oper.wp;rcases Qy (P:=P) C o.type with⟨m,d⟩|⟨e,p,c,g,v,d,n,q,s,t⟩;simp[execOp,k,qL,d,Result.andThen];exact j _ _<|h m;simp[execOp,k,qL,d,Result.andThen];exact j _ _<|i e p c g v n q s t
end
end
section
open Go.ChangeMaps (setBlock)
abbrev fI:=cr<|Z×aa
def fI.get(m:fI)(k:Z):Option aa:=match m with
 |[]=>none
 |p::r=>if p.1=k then H p.2 else fI.get r k
def jx(b:cr MapEntry)(m:fI):Prop:=b.map (λe=>(e.key,e.val))=m.map (λp=>(ap p.1,p.2))
theorem jx.nil:jx [] []:=rfl
theorem jx.cons_inv{e:MapEntry}{b:cr MapEntry}{m:fI}(h:jx (e::b) m):∃p r,m=p::r/\e.key=ap p.1/\e.val=p.2/\jx b r:=by
 cases m with
 |nil=>simp[jx]at h
 |cons p r=>
  simp[jx]at h;exact⟨p,r,rfl,h.1.1,h.1.2,h.2⟩
theorem FT(k:Z):∀(b:cr MapEntry)(m:fI)(i:M),jx b m->∃p,Instr.findNow (.int .i64) (ap k) b i=H ((m.get k).map λv=>(p,v)):=by
 intro b;induction b with
 |nil=>
  intro m i h;obtain rfl:m=[]:=by simpa[jx]using h
  exact⟨0,rfl⟩
 |cons r b n=>
  intro m i h;obtain⟨q,s,rfl,f,l,j⟩:=h.cons_inv;by_cases e:q.1=k
  .refine⟨i,?_⟩;simp[Instr.findNow,Instr.sameNow,f,fI.get,e,l]
  .obtain⟨p,g⟩:=n s (i+1) j;refine⟨p,?_⟩;have d:(k==q.1)=bF:=by simpa usingλr:k=q.1=>e r.symm
   simp[Instr.findNow,Instr.sameNow,f,fI.get,e,d,g]
def ju(w:I)(e:M)(m:fI):Prop:=∃d b,w.heap[e]?=H (.map d b)/\jx d.toList m/\MapKept.Stamped d b
def fI.put(m:fI)(k:Z)(v:aa):fI:=match m with
 |[]=>[(k,v)]
 |p::r=>if p.1=k then(k,v)::r else p::fI.put r k v
def fI.del(m:fI)(k:Z):fI:=match m with
 |[]=>[]
 |p::r=>if p.1=k then r else p::fI.del r k
theorem jx.cons{e:MapEntry}{b:cr MapEntry}{p:Z×aa}{m:fI}(d:e.key=ap p.1)(f:e.val=p.2)(h:jx b m):jx (e::b) (p::m):=by
 simp[jx,d,f];exact h
theorem EP(k:Z):∀(d:cr MapEntry)(m:fI)(s:M),jx d m->(Instr.findNow (.int .i64) (ap k) d s=H none/\m.get k=none/\(∀e∈d,e.key≠ap k)/\m.del k=m/\∀v,m.put k v=m++[(k,v)])\/∃t e,Instr.findNow (.int .i64) (ap k) d s=H (H (s+t,e.val))/\d[t]?=H e/\e.key=ap k/\m.get k=H e.val/\(∀v,jx (d.modify t λe=>{e with key:=ap k,val:=v})<|m.put k v)/\jx (d.eraseIdx t) (m.del k):=by
 intro d;induction d with
 |nil=>
  intro m s x;obtain rfl:m=[]:=by simpa[jx]using x
  exact .inl ⟨rfl,rfl,by simp,rfl,λ_=>rfl⟩
 |cons e d B=>
  intro m s x;obtain⟨C,D,rfl,f,q,p⟩:=x.cons_inv;by_cases b:C.1=k
  .refine .inr ⟨0,e,?_,rfl,by rw[f,b],?_,?_,?_⟩
   .simp[Instr.findNow,Instr.sameNow,f,b]
   .simp[fI.get,b,q]
   .intro v;simp only[fI.put,b,je,qu];exact jx.cons rfl rfl p
   .simpa[fI.del,b]using p
  .have g:(k==C.1)=bF:=by simpa usingλe:k=C.1=>b e.symm
   rcases B D (s+1) p with⟨h,i,j,l,n⟩|⟨t,u,h,i,j,l,n,A⟩
   .refine .inl ⟨?_,?_,?_,?_,?_⟩
    .simp[Instr.findNow,Instr.sameNow,f,g,h]
    .simp[fI.get,b,i]
    .intro E r;rcases az.1 r with rfl|r
     .rw[f];simpa using b
     .exact j E r
    .simp[fI.del,b,l]
    .intro v;simp[fI.put,b,n]
   .refine .inr ⟨t+1,u,?_,by simpa using i,j,?_,?_,?_⟩
    .simp[Instr.findNow,Instr.sameNow,f,g,h];omega
    .simp[fI.get,b,l]
    .intro v;simp only[fI.put,b,kg,mS];exact jx.cons f q<|n v
    .simp only[fI.del,b,kg,uH];exact jx.cons f q A
theorem Kp{P:Program}{w:I}{mt v A q:M}{B:fI}(u:P.underlying mt=H (.map v A))(j:P.underlying v=H (.int .i64))(E:ju w q B)(l:Z)(x:aa):∃k,(Instr.mapUpdate mt (.map<|H q) (ap l) x).run P w=.ok () k/\ju k q (B.put l x)/\w.grownBy k (H q)/\z (G k)=z (G w):=by
 obtain⟨h,b,g,p,t⟩:=E;have f:=jo (P:=P) g;rcases EP l h.toList B 0 p with⟨m,r,i,_,n⟩|⟨C,e,m,r,i,F,n,_⟩;refine⟨setBlock w q<|.map (h.push {key:=ap l,val:=x,born:=b})<|b+1,?_,?_,iO _ _ _,by simp[setBlock]⟩;simp[Instr.mapUpdate,eA u,f,eJ j (show MapKept.IsKey (.int .i64) (ap l)by rfl),eF j m,fA _ g,Result.andThen,setBlock];refine⟨_,_,(fK g).1,?_,rh t i⟩;rw[n];simp[jx]at p|-;exact p;(have s:h[C]?=H e:=by simpa using r);refine⟨setBlock w q<|.map (h.modify C λe=>{e with key:=ap l,val:=x}) b,?_,?_,iO _ _ _,by simp[setBlock]⟩;simp[Instr.mapUpdate,eA u,f,eJ j (show MapKept.IsKey (.int .i64) (ap l)by rfl),eF j m,s,i,og (show MapKept.IsKey (.int .i64) (ap l)by rfl),fA _ g,Result.andThen,setBlock];refine⟨_,_,(fK g).1,?_,pL t _ _ (λ_ _=>rfl) (λD _ d=>by rw[s]at d;cases d;exact i.symm)⟩;simpa using n x
theorem Ks{P:Program}{w:I}{mt l t m:M}{B:fI}(r:P.underlying mt=H (.map l t))(g:P.underlying l=H (.int .i64))(E:ju w m B)(s:Z)(C:TypeId):∃h,(Builtin.delete_ #[mt,l] C #[.map<|H m,ap s]).run P w=.ok (dB #[]) h/\ju h m (B.del s)/\w.grownBy h (H m)/\z (G h)=z (G w):=by
 obtain⟨d,b,f,p,q⟩:=E;have e:=jo (P:=P) f;rcases EP s d.toList B 0 p with⟨i,j,u,n,v⟩|⟨A,D,i,j,u,n,v,x⟩;refine⟨setBlock w m<|.map d b,?_,?_,iO _ _ _,by simp[setBlock]⟩;simp[Builtin.delete_,eA r,e,eJ g (show MapKept.IsKey (.int .i64) (ap s)by rfl),eF g i,fA _ f,Result.andThen,setBlock];rw[n];exact⟨_,_,(fK f).1,p,q⟩;(have F:d[A]?=H D:=by simpa using j);(have k:A<d.size:=by have:=fo.1 j;simpa using this.1);refine⟨setBlock w m<|.map (d.eraseIdxIfInBounds A) b,?_,?_,iO _ _ _,by simp[setBlock]⟩;simp[Builtin.delete_,eA r,e,eJ g (show MapKept.IsKey (.int .i64) (ap s)by rfl),eF g i,fA _ f,Result.andThen,setBlock];refine⟨_,_,(fK f).1,?_,wz q _⟩;simp only[Array.eraseIdxIfInBounds,k,oE,wF];exact x
theorem ju.kept{w h:I}{i:M}{n:fI}{d:Option M}(p:ju w i n)(l:w.grownBy h d)(e:H i≠d):ju h i n:=by
 obtain⟨j,b,g,k,m⟩:=p;exact⟨j,b,(l.block i (ak g) e).trans g,k,m⟩
theorem ju.alloc{w:I}{b:M}{m:fI}(h:ju w b m)(o:Obj):ju (ct w o) b m:=h.kept (dr w o none)<|by simp
theorem ju.lt{w:I}{d:M}{m:fI}(h:ju w d m):d<z (G w):=by
 obtain⟨_,_,b,_⟩:=h;exact ak b
section
variable{P:Program}(w:I){c:Array Oper}{rest:cr Oper}{o:Oper}{a:Act}{Q:Exit->Act->I->Prop}
theorem Dj(k:o.guard=none)(h x:Operand)(u q:TypeId)(g:o.op=Op.call {callee:=Callee.builtin Builtin.delete,args:=#[h,x],argTypes:=#[u,q]})(A:TypeId)(n:P.underlying u=H (.map q A))(l:P.underlying q=H (.int .i64))(i:M)(t:fI)(m:a.eval h=.map (H i))(B:ju w i t)(b:Z)(p:a.eval x=ap b)(j:∀e,ju e i (t.del b)->w.grownBy e (H i)->wpList P c Q rest (a.put o.dst<|dB #[]) e):wpList P c Q (o::rest) a w:=by
 refine kO k λv f=>?_;obtain⟨e,d,r,s,_⟩:=Ks n l B b o.type;unfold Oper.wp;simp[execOp,g,resolve,invoke,builtin,m,p,d,Result.andThen];exact f _ _<|j e r s
end
def qp(w:I)(g r:M)(m left:fI):Prop:=∃e d b seen f,w.heap[g]?=H (.map e d)/\jx e.toList m/\MapKept.Stamped e d/\w.heap[r]?=H (.mapIter (H g) b seen f)/\(∀x∈e.toList,x.born<b)/\b<=f/\b<=d/\jx (leftOf e seen).toList left
theorem qp.ne{w:I}{g r:M}{m left:fI}(j:qp w g r m left):r≠g:=by
 obtain⟨i,b,_,_,_,e,_,_,d,_⟩:=j;intro h;rw[h,e]at d;cases d
theorem qp.lt{w:I}{e r:M}{m left:fI}(h:qp w e r m left):r<z (G w):=by
 obtain⟨g,b,_,_,_,_,_,_,d,_⟩:=h;exact ak d
theorem qp.kept{w e:I}{g r:M}{s left:fI}(t:qp w g r s left)(p:e.heap[g]?=w.heap[g]?)(q:e.heap[r]?=w.heap[r]?):qp e g r s left:=by
 obtain⟨i,b,d,seen,h,j,k,l,m,n⟩:=t;exact⟨i,b,d,seen,h,p.trans j,k,l,q.trans m,n⟩
theorem jx.split{e:cr MapEntry}{n:fI}{d b:cr MapEntry}{h:MapEntry}(i:jx e n)(m:e=d++h::b):∃a p g,n=a++p::g/\jx d a/\h.key=ap p.1/\h.val=p.2/\jx b g:=by
 subst m;unfold jx at i;rw[aM,aY]at i;obtain⟨a,q,rfl,j,k⟩:=iw.1 i.symm;obtain⟨p,g,rfl,f,l⟩:=ni.1 k;exact⟨a,p,g,rfl,j.symm,(bU Prod.fst f).symm,(bU Prod.snd f).symm,l.symm⟩
theorem jx.append{b d:cr MapEntry}{m n:fI}(h:jx b m)(k:jx d n):jx (b++d) (m++n):=by
 unfold jx at*;rw[aM,aM,h,k]
theorem Ni{P:Program}{w:I}{mt k h g:M}{m:fI}(l:P.underlying mt=H (.map k h))(n:ju w g m):∃e,(Instr.range mt<|.map<|H g).run P w=.ok (aA<|z<|G w) e/\qp e g (z<|G w) m m/\w.grownBy e none/\z (G e)=z (G w)+1:=by
 obtain⟨d,b,f,i,j⟩:=n;refine⟨_,run_range_map w mt k h g d b l f,⟨d,b,b,#[],b,((oG w _).2 g<|ak f).trans f,i,j,(oG w _).1,j.1,ah _,ah _,?_⟩,dr w _ none,by simp⟩;have:leftOf d #[]=d:=by simp[leftOf]
 rw[this];exact i
theorem Qz{P:Program}{w:I}{v r:M}{ad left:fI}(ac:qp w v r ad left)(N:TypeId):(left=[]/\(Instr.next (aA r) bF N).run P w=.ok (dB #[aL bF]) w)\/∃m L g p,left=m++L::g/\(Instr.next (aA r) bF N).run P w=.ok (dB #[aL bW,ap L.1,L.2]) p/\qp p v r ad (m++g)/\w.grownBy p (H r)/\z (G p)=z (G w)/\(Instr.entry<|aA r).run P p=.ok (dB #[ap L.1,L.2]) p:=by
 have D:=ac.ne;obtain⟨l,b,d,seen,O,S,hf,E,V,k,F,t,C⟩:=ac;rcases run_next_at (P:=P) w N r v d O seen l b V S k F with⟨X,f⟩|⟨x,T,A,h,f⟩;refine .inl ⟨?_,f⟩;(have:(leftOf l seen).toList=[]:=by simpa using qG X);rw[this]at C;simpa[jx]using C;obtain⟨m,g,u⟩:=sH T;obtain⟨a,L,al,rfl,ha,n,W,hc⟩:=C.split u;(have i:A.heap=w.heap:=by rcases h with rfl|rfl<;>rfl);(have s:A.heap[r]?=H (.mapIter (H v) d seen O):=by rw[i];exact V);have j:(setBlock A r<|.mapIter (H v) d (seen.push x.born) b).heap[r]?=H (.mapIter (H v) d (seen.push x.born) b):=(fK s).1;have e:∀K,K≠r->(setBlock A r<|.mapIter (H v) d (seen.push x.born) b).heap[K]?=w.heap[K]?:=λK n=>((fK s).2 K n).trans (by rw[i]);have q:=(e v<|λx=>D x.symm).trans S;(have B:x∈l.toList:=by(have:(leftOf l seen).toList.Sublist l.toList:=by simp[leftOf]);exact this.subset T);refine .inr ⟨a,L,al,_,rfl,by rw[<-n,<-W];exact f,⟨l,b,d,_,b,q,hf,E,j,k,t,t,by rw[GS E.2.1 u];exact ha.append hc⟩,⟨?_,?_,?_,?_,λK _ n=>e K<|λx=>n<|by rw[x]⟩,?_,?_⟩;rcases h with rfl|rfl<;>rfl;rcases h with rfl|rfl<;>rfl;rcases h with rfl|rfl<;>rfl;simp[setBlock,i];simp[setBlock,i];rw[<-n,<-W];exact run_entry_at _ r v d seen l b x j q B E.2.1
section
variable{P:Program}(w:I){c:Array Oper}{rest:cr Oper}{o:Oper}{a:Act}{Q:Exit->Act->I->Prop}
end
theorem VG{P:Program}{w:I}{mt l i n:M}{m:fI}{v:TypeInfo}{d:aa}(t:P.underlying mt=H (.map l i))(j:P.underlying l=H (.int .i64))(r:P.info? i=H v)(u:v.zero=H d)(x:ju w n m)(k:Z):(Instr.lookup mt (.map<|H n) (ap k) bW).run P w=.ok (dB #[(m.get k).getD d,aL (m.get k).isSome]) w:=by
 obtain⟨e,b,q,p,_⟩:=x;obtain⟨A,s⟩:=FT k e.toList m 0 p;have f:=eJ (P:=P) (w:=w) (k:=ap k) j (by rfl) e.isEmpty 9999;have g:=eF (P:=P) (w:=w) j s;have h:(getObj n).run P w=.ok (.map e b) w:=by simp[getObj,Sem.run,q]
 unfold Instr.lookup;rw[jX,eA t];simp only[jm,jX,h,pJ];rw[show(10000:M)=9999+1 from rfl,f];simp only[jm,g];cases hg:m.get k with
 |none=>simp[zeroValue,typeInfo,r,u]
 |some B=>simp
theorem jx.length{b:cr MapEntry}{m:fI}(h:jx b m):y b=y m:=by
 have:=bU y h;simpa using this
theorem Kq{P:Program}{w:I}{mt j f l:M}{m:fI}(i:P.underlying mt=H (.map j f))(p:ju w l m)(k:TypeId):(Builtin.len_ #[mt] k #[.map<|H l]).run P w=.ok (ap<|y m) w:=by
 obtain⟨n,b,h,g,_⟩:=p;have d:=jo (P:=P) h;have e:=g.length;rw[iE]at e;simp[Builtin.len_,eA i,d,goInt,Result.andThen,e]
theorem ju.new(w:I):ju (ct w<|.map #[] 0) (z<|G w) []:=by
 refine⟨#[],0,?_,jx.nil,wA 0⟩;show(w.heap.push _)[z<|G w]?=_;simp
theorem ju.de{w w':I}{d:M}{m:fI}(i:ju w d m)(h:w'.heap[d]?=w.heap[d]?):ju w' d m:=by
 obtain⟨e,b,f,g⟩:=i;exact⟨e,b,h.trans f,g⟩
end
section
open Go.ChangeMaps (setBlock)
def lD(w:I)(f:M)(g:TypeDesc)(e:aa->Prop):Prop:=∃d c,w.heap[f]?=H (.map d c)/\MapKept.Stamped d c/\(∀x∈d.toList,MapKept.IsKey g x.key)/\(∀x∈d.toList,x.val=eC #[])/\∀k,e k↔∃x∈d.toList,x.key=k
theorem lD.lt{w:I}{e:M}{g:TypeDesc}{d:aa->Prop}(h:lD w e g d):e<z (G w):=by
 obtain⟨_,_,c,_⟩:=h;exact ak c
theorem lD.de{w w':I}{e:M}{i:TypeDesc}{d:aa->Prop}(k:lD w e i d)(j:w'.heap[e]?=w.heap[e]?):lD w' e i d:=by
 obtain⟨f,c,g,h⟩:=k;exact⟨f,c,j.trans g,h⟩
theorem lD.new(w:I)(d:TypeDesc):lD (ct w<|.map #[] 0) (z<|G w) d aB:=by
 refine⟨#[],0,?_,⟨by simp,by simp,by simp⟩,by simp,by simp,by simp⟩;show(w.heap.push _)[z<|G w]?=_;simp
theorem lD.congr{w:I}{m:M}{n:TypeDesc}{e d:aa->Prop}(q:lD w m n e)(p:∀k,d k↔e k):lD w m n d:=by
 obtain⟨f,c,g,h,i,j,l⟩:=q;exact⟨f,c,g,h,i,j,λk=>(p k).trans<|l k⟩
theorem Bb{P:Program}{w:I}{mt t p v:M}{x:TypeDesc}{s:aa->Prop}{N:TypeInfo}(E:P.underlying mt=H (.map t p))(l:P.underlying t=H x)(D:P.info? p=H N)(L:N.zero=H (eC #[]))(O:lD w v x s)(n:aa)(f:MapKept.IsKey x n)(u:Bool)(r:u=bW↔s n):(Instr.lookup mt (.map<|H v) n bW).run P w=.ok (dB #[eC #[],aL u]) w:=by
 obtain⟨g,d,C,S,m,F,q⟩:=O;have j:=eJ (P:=P) (w:=w) (k:=n) l f g.isEmpty 9999;have k:(getObj v).run P w=.ok (.map g d) w:=by simp[getObj,Sem.run,C]
 unfold Instr.lookup;rw[jX,eA E];simp only[jm,jX,k,pJ];rw[show(10000:M)=9999+1 from rfl,j];simp only[jm];rcases MapKept.findNow_spec f g.toList 0 m with⟨h,i⟩|⟨V,A,h,i,B⟩
 .have e:=eF (P:=P) (w:=w) l h;have:u=bF:=by
   cases u with
   |false=>rfl
   |true=>
    obtain⟨T,K,c⟩:=(q n).1<|r.1 rfl;exact absurd c<|i T K
  simp[e,zeroValue,typeInfo,D,L,this]
 have e:=eF (P:=P) (w:=w) l h;have c:A∈g.toList:=gp i;have:u=bW:=r.2<|(q n).2 ⟨A,c,B⟩;simp[e,this,F A c]
theorem zh{P:Program}{w:I}{mt W et F:M}{X:TypeDesc}{V:aa->Prop}(S:P.underlying mt=H (.map W et))(u:P.underlying W=H X)(ac:lD w F X V)(B:aa)(j:MapKept.IsKey X B):∃A,(Instr.mapUpdate mt (.map<|H F) B<|eC #[]).run P w=.ok () A/\lD A F X (λx=>V x\/x=B)/\w.grownBy A (H F)/\z (G A)=z (G w):=by
 obtain⟨i,g,q,O,n,T,v⟩:=ac;have p:=jo (P:=P) q;rcases MapKept.findNow_spec j i.toList 0 n with⟨C,t⟩|⟨L,e,C,t,E⟩;refine⟨setBlock w F<|.map (i.push {key:=B,val:=eC #[],born:=g})<|g+1,?_,?_,iO _ _ _,by simp[setBlock]⟩;simp[Instr.mapUpdate,eA S,p,eJ u j,eF u C,fA _ q,Result.andThen,setBlock];refine⟨_,_,(fK q).1,rh O t,?_,?_,?_⟩;intro x h;simp only[tJ,am,bH]at h;rcases h with h|rfl;exact n x h;exact j;intro x h;simp only[tJ,am,bH]at h;rcases h with h|rfl;exact T x h;rfl;intro x;simp only[tJ,am,bH];constructor;rintro(K|rfl);obtain⟨c,s,e⟩:=(v x).1 K;exact⟨c,.inl s,e⟩;exact⟨_,.inr rfl,rfl⟩;rintro⟨c,s|rfl,e⟩;exact .inl<|(v x).2 ⟨c,s,e⟩;exact .inr e.symm
 .have N:i[L]?=H e:=by simpa using t
  have r:e∈i.toList:=gp t;refine⟨setBlock w F<|.map (i.modify L λe=>{e with key:=B,val:=eC #[]}) g,?_,?_,iO _ _ _,by simp[setBlock]⟩
  .simp[Instr.mapUpdate,eA S,p,eJ u j,eF u C,N,E,og j,fA _ q,Result.andThen,setBlock]
  .have m:∀k,i[L]?=H k->k.key=B:=λk d=>by rw[N]at d;cases d;exact E
   refine⟨_,_,(fK q).1,pL O _ _ (λ_ _=>rfl)<|λk _ d=>(m k d).symm,MapKept.isKey_modify n _ _<|λk d=>(m k d).symm,?_,?_⟩
   .intro x h;rw[Array.toList_modify]at h;obtain⟨D,l⟩:=List.getElem?_of_mem h;rw[List.getElem?_modify]at l;cases hc:i.toList[D]? with
    |none=>rw[hc]at l;cases l
    |some c=>
     rw[hc]at l;have s:=T c<|gp hc;by_cases K:L=D
     .simp[K]at l;rw[<-l]
     .simp[K]at l;rw[<-l];exact s
   .intro x;have l:((i.modify L λe=>{e with key:=B,val:=eC #[]}).toList.map (·.key))=i.toList.map (·.key):=MapKept.modify_keys _ _<|λk d=>(m k d).symm;have D:(∃c∈(i.modify L λe=>{e with key:=B,val:=eC #[]}).toList,c.key=x)↔∃c∈i.toList,c.key=x:=by
     rw[<-aZ (f:=λc:MapEntry=>c.key),<-aZ (f:=λc:MapEntry=>c.key),l]
    rw[D,<-v x];constructor
    .rintro(K|rfl)
     .exact K
     .exact(v _).2 ⟨e,r,E⟩
    .exact .inl
section
variable{P:Program}(w:I){b:Array Oper}{rest:cr Oper}{o:Oper}{a:Act}{Q:Exit->Act->I->Prop}
theorem uj(n:o.guard=none)(i x j:Operand)(B:TypeId)(g:o.op=Op.mapUpdate B i x j)(A D:TypeId)(r:P.underlying B=H (.map A D))(l:TypeDesc)(p:P.underlying A=H l)(k:M)(h:aa->Prop)(q:a.eval i=.map (H k))(E:lD w k l h)(c:aa)(f:MapKept.IsKey l c)(t:a.eval x=c)(s:a.eval j=eC #[])(m:∀w',lD w' k l (λx=>h x\/x=c)->w.grownBy w' (H k)->wpList P b Q rest (a.put o.dst iB) w'):wpList P b Q (o::rest) a w:=by
 refine kO n λC e=>?_;obtain⟨w',d,u,v,_⟩:=zh r p E c f;unfold Oper.wp;simp[execOp,g,q,t,s,d,Result.andThen];exact e _ _<|m w' u v
end
end
