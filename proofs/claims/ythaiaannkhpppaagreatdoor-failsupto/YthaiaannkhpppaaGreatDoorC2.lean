import Derived.Deep.RegionWith
import Derived.Laws.BitsLemmas
import Derived.Laws.Entries
import Derived.Laws.IdiomStrings
import Derived.Lib.BufferRead
import Derived.Lib.EndianBits
import Derived.MapKept
import Derived.Maps.RangeWalk
import Derived.OpenShut
import Derived.OwnWalk
import Derived.Test.YthaiaannkhpppaaGreatDoorChecked
import Derived.Test.YthaiaannkhpppaaGreatDoorC0
open _root_ renaming List.length→y,Option.some→H,Array.size→z,Go.World.heap→G,Go.Value.ownBlock→cK,Go.World.cell?→aW,Go.World.setCell→cq,Go.World.alloc→cN,Bool.false→aX,Bool.true→ci,Nat→M,Int→X,List→cJ,Go.Calls→cY,Go.undef→iH,Go.Proofs.Tryz.prog→aZ,Go.Value.slice→I,Go.Value.string→am,Go.Value.bool→aN,Go.Value.tuple→dq,Go.Value.agg→dC
namespace Go.Proofs.YthaiaannkhpppaaGreatDoor
open ChangeShapes WideShapes RowKit Proofs.Tryz List
set_option maxHeartbeats 16000000
set_option linter.all false
set_option maxRecDepth 100000
variable{a f:Y}{b c g:M}{d s:ab}{k N:X}{n:eR}{B:gW}{P:Bool}
def qi:(prog.info? 5).map (λi=>(i.zero,i.size,i.bytes))=H (H<|rD 0,1,1):=by kernel_rfl
def fc(w:Y)(a:M)(v:ab)(b:eR):Prop:=w.ownsRow a 5 1 v (y b)<|b.map<|Value.int .u8
def fc.of(h:a.ownsRow b 5 1 d c B)(e:c=y n)(f:B=n.map (Value.int .u8)):fc a b d n:=by
 subst e;subst f;exact h
def fc.nil(w:Y)(a:M):fc w a az []:=cO w a _ 1
def fc.alloc{w:Y}(h:fc w b d n)(o:Obj):fc (cN w o) b d n:=aT h o
def le:M->X->eR
 |0,_=>[]
 |k+1,n=>n%256::le k (n/256)
theorem cH(k:M):∀n,y (le k n)=k:=by
 induction k with
 |zero=>intro n;rfl
 |succ k a=>intro n;simp[le,a]
def kR(s:ae):eR:=s.data.toList.map λb=>(b.toNat:X)
def strCells_eq(s:ae):Lib.strCells s=(kR s).map (Value.int .u8):=by simp[Lib.strCells,kR]
theorem ic(s:ae):y (kR s)=s.size:=by simp[kR]
def uB(a:M)(v:ab)(f:eR)(o:X)(w:Y)(d:fc w a v f)(q:a<=z (G w))(r:y f<=70368744177664):cY aZ 179 #[v,rD o] w λp l=>∃e,p=aM e/\fc l a e (f++[o])/\eE w l v e:=by
 obtain⟨n,m,g,i,j⟩:=di qi;go_in
 go_wp2_with(first
  |(at_builtin;refine cA _ rfl _ _ 103 rfl a 5 n (.int .u8 0) 1 1 underlying103 m g i j rfl (by decide) _ _ _ rfl (d.alloc _) (R (z (G w)) 0) 1 1 [.int .u8 o] rfl rfl (pN _ _ _) ?c2 ?c3 ?c4 ?c5 ?_))
 case c2=>intro u k;simp at k;subst k;rfl
 case c3=>omega
 case c4=>omega
 case c5=>simp;omega
 intro e s c b;go_wp2;go_ret;exact⟨e,rfl,fc.of c (by simp) (by simp),b.alloc _⟩
def TL(w:Y)(a:gW)(t:TypeId):∀j u,a[j]?=H u->aW (cN w<|aw a.toArray t) (((R (z<|G w) 0):Addr).add j)=H u:=by
 intro j u b;rw[dB];simp_all
def jv{baseqq:M}{v:ab}{bs:eR}(n:X){w:Y}(c:fc w baseqq v bs)(q:baseqq<=z (G w))(r:y bs<=70368744177664)(o:0<=n)(p:n<4294967296):cY aZ 181 #[v,dA n] w λk j=>∃d,k=aM d/\fc j baseqq d (bs++le 4 n)/\eE w j v d:=by
 obtain⟨m,l,e,f,g⟩:=di qi;go_in
 go_wp2_with(first
  |(at_builtin;refine cA _ rfl _ _ 103 rfl baseqq 5 m (.int .u8 0) 1 1 underlying103 l e f g rfl (by decide) _ _ _ rfl (c.alloc _) (R (z (G w)) 0) 4 4 ((le 4 n).map (Value.int .u8)) rfl rfl ?c1 ?c2 ?c3 ?c4 ?c5 ?_))
 (case c1=>(have k:(#[Value.int IntKind.u8<|n%256,Value.int IntKind.u8<|n/256%256,Value.int IntKind.u8<|n/65536%256,Value.int IntKind.u8<|n/16777216]:Array ab)=((le 4 n).map<|Value.int .u8).toArray:=by simp[le];omega);rw[k];exact TL _ _ _);case c2=>intro u i;simp[le]at i;rcases i with rfl|rfl|rfl|rfl<;>rfl
 case c3=>omega
 case c4=>omega
 case c5=>simp;omega
 intro d s b a;go_wp2;go_ret;exact⟨d,rfl,fc.of b (by simp[le]) (by simp),a.alloc _⟩
def pu(a:M)(v:ab)(g:eR)(s:ae)(w:Y)(d:fc w a v g)(n:a<=z (G w))(p:y g<=70368744177664)(t:s.size<=255):cY aZ 230 #[v,am s] w λr m=>∃f,r=aM f/\fc m a f (g++(s.size:X)::kR s)/\eE w m v f:=by
 obtain⟨q,o,j,k,l⟩:=di qi;go_in
 go_wp2_with fail
 apply(uB a v g s.size w d n p).mono;rintro r x⟨u,rfl,i,e⟩
 go_wp2_with(first
  |(at_builtin;refine tA _ rfl _ _ 103 9 rfl a 5 q underlying103 underlying9 o j k l _ _ _ rfl i s rfl ?c1 ?c2 ?_))
 case c1=>simp;omega
 case c2=>have:=e.grown.size;omega
 intro f A c b;go_wp2;go_ret;exact⟨f,rfl,fc.of c (by simp[ic];omega) (by simp[strCells_eq]),e.trans b⟩
def Nu(a b:X):0<=bits .xor .u32 a b:=(bounds_u32<|wf_bits .xor .u32 a b).1
def Nv(a b:X):bits .xor .u32 a b<4294967296:=by have:=(bounds_u32<|wf_bits .xor .u32 a b).2;omega
def ZW(x:X)(a:0<=x)(b:x<4294967296):bits .and .u32 x 15=x%16:=by
 have:=bits_mask .u32 32 (by decide) wraps_u32 4 (by decide) x a (by omega);grind
def Yr(k:M):X:=([0,498536548,997073096,651767980,1994146192,1802195444,1303535960,1342533948,3988292384,4027552580,3604390888,3412177804,2607071920,2262029012,2685067896,3183342108]:eR).getD k 0
def Steps(w:Y):Prop:=∀k,k<16->aW w (R 1 k)=H (dA<|Yr k)
def Steps.below{B:M}(h:Steps a)(c:Below B a f)(b:1<B):Steps f:=λk d=>(c.cell<|by exact b).trans<|h k d
def Qv(c:X):X:=bits .xor .u32 (c/16)<|Yr (c%16).toNat
def Bh(a x:X):X:=Qv<|Qv<|bits .xor .u32 a<|x%4294967296
def yz(a:eR):X:=a.foldl Bh 4294967295
def mV(a:eR):X:=bits .xor .u32 IntKind.u32.max<|yz a
def Pn(a x:X):0<=Bh a x:=Nu _ _
def Po(a x:X):Bh a x<4294967296:=Nv _ _
def MK(a:eR):0<=yz a/\yz a<4294967296:=by
 unfold yz;rcases wY a with rfl|⟨l,x,rfl⟩;simp;rw[List.concat_eq_append,gK];exact⟨Pn _ _,Po _ _⟩
def zV(a:eR):0<=mV a:=Nu _ _
def Ch(a:eR):mV a<4294967296:=Nv _ _
def Pm(a:eR)(k:M)(h:k<y a):yz (a.take<|k+1)=Bh (yz<|a.take k) a[k]:=by
 unfold yz;rw[ai h,gK];rfl
theorem Xn(q c:M)(b:eR)(g:M)(i:Steps a)(m:∀k,k<y b->aW a (R q<|c+k)=H (rD<|b[k]?.getD 0))(f:y b<=140737488351232):cY aZ 146 #[bD q c (y b) g] a λr o=>r=aM (dA<|mV b)/\o=a:=by
 have u:=Nu;have v:=Nv;have j:=ZW;have l:∀x:X,aW a (R 1<|(x%16).toNat)=H (dA<|Yr (x%16).toNat):=λx=>i _ (by omega);clear i;go_in
 go_wp2;go_loop [3,8,5] (λa i x=>∃(k:M),k<=y b/\i=ar k/\a=dA (yz<|b.take k)) (λ_ i _=>y b-(intOf i).toNat)
 case atStart=>exact⟨0,bP _,rfl,rfl⟩
 (case round=>obtain⟨k,s,rfl,rfl⟩:=hrel;have t:=MK<|b.take k;by_cases e:k<y b;(.have n:=m k e;have d:Hid (yz (b.take<|k+1)=Bh (yz<|b.take k) b[k]):=Pm b k e;generalize yz (b.take k)=p at*;go_wp2;(go_round);(case rel=>exact⟨k+1,by omega,by go_num,by rw[d.out];rfl⟩);case measure=>simp[intOf];omega);go_wp2;go_ret;have d:b.take k=b:=eT (by omega);rw[d];exact⟨rfl,rfl⟩)
def Bytes(w:Y)(v:ab)(b:eR):Prop:=(v=az/\b=[])\/∃d a c,v=bD d a (y b) c/\y b<=c/\∀k,k<y b->aW w (R d<|a+k)=H (rD<|b[k]?.getD 0)
theorem fc.bytes(i:fc a b d n):Bytes a d n:=by
 unfold fc at i;rcases i.2 with⟨rfl,j⟩|⟨h,c,g,rfl,_,_,e,_⟩;exact .inl ⟨rfl,aL j⟩;refine .inr ⟨h,0,c,rfl,e,λl k=>?_⟩;have:=i.cells (g:=h) rfl l (rD<|n[l]?.getD 0) (by simp[k]);grind[Addr.add_lit]
def Bytes.below{B:M}(j:Bytes a d n)(h:Below B a f)(g:∀k,cK d=H k->k<B):Bytes f d n:=by
 rcases j with⟨rfl,rfl⟩|⟨l,b,c,rfl,e,i⟩;exact .inl ⟨rfl,rfl⟩;exact .inr ⟨l,b,c,rfl,e,λk j=>(h.cell<|by exact g l rfl).trans<|i k j⟩
def Xm(w:Y):cY aZ 146 #[az] w λe a=>e=aM (dA<|mV [])/\a=w:=by
 go_in
 go_wp2;go_loop [3,8,5] (λc i x=>i=ar 0/\c=dA 4294967295) (λ_ _ _=>0)
 case atStart=>grind
 (case round=>obtain⟨rfl,rfl⟩:=hrel;go_wp2;go_ret;exact⟨rfl,rfl⟩)
def sU(v:ab)(b:eR)(w:Y)(h:Steps w)(e:Bytes w v b)(a:y b<=140737488351232):cY aZ 146 #[v] w λg f=>g=aM (dA<|mV b)/\f=w:=by
 rcases e with⟨rfl,rfl⟩|⟨j,c,d,rfl,_,i⟩;exact Xm w;grind[Xn]
def G4(n:X):le 4 (n%4294967296)++le 4 (n/4294967296)=le 8 n:=by
 simp[le];omega
def py{baseqq:M}{v:ab}{bs:eR}(n:X){w:Y}(b:fc w baseqq v bs)(k:baseqq<=z (G w))(p:y bs<=35184372088832)(m:0<=n)(o:n<18446744073709551616):cY aZ 178 #[v,aE n] w λj g=>∃f,j=aM f/\fc g baseqq f (bs++le 8 n)/\eE w g v f:=by
 have i:Hid (le 4 (n%4294967296)++le 4 (n/4294967296)=le 8 n):=G4 n;go_in
 go_wp2_with fail
 apply(jv (n%4294967296) b k (by omega) (by omega)<|by omega).mono;rintro j r⟨q,rfl,d,c⟩;go_wp2_with fail
 refine(jv (n/4294967296) d (by have:=c.grown.size;omega) (by simp[cH];omega) (by omega)<|by omega).mono ?_;rintro j s⟨l,rfl,a,e⟩;go_wp2;go_ret;refine⟨l,rfl,?_,c.trans e⟩;rw[bA,i.out]at a;exact a
def Eg(j:Steps a)(c:fc a b d n)(k:b<=z (G a))(o:y n<=35184372088832):cY aZ 182 #[d] a λi f=>∃e,i=aM e/\fc f b e (n++le 4 (mV n))/\eE a f d e:=by
 have g:=zV n;have c1:=Ch n;go_in
 go_wp2_with fail
 apply(sU d n a j c.bytes<|by omega).mono;rintro i q⟨rfl,rfl⟩;go_wp2_with fail
 apply(jv (mV n) c k (by omega) g c1).mono;rintro i r⟨p,rfl,l,m⟩;go_wp2;go_ret;simp_all
def Ef(n:X)(w:Y)(b:0<=n)(c:n<=140737488351232):cY aZ 222 #[ar n] w λe a=>e=aM (ar<|n+4)/\a=w:=by
 go_in
 go_wp2;go_ret;simp_all
def Rd(w:Y)(b:M)(rest:eR)(a:Bool):Prop:=∃v,w.heap[b]?=H (aw #[v,aN a] 325 (0,0))/\Bytes w v rest/\∀k,cK v=H k->k<b
def Bytes.grown{w w':Y}{b:Option M}(h:Bytes w d n)(i:w.grownBy w' b)(f:cK d≠b\/cK d=none):Bytes w' d n:=by
 rcases h with⟨rfl,rfl⟩|⟨k,a,c,rfl,e,g⟩;exact .inl ⟨rfl,rfl⟩;refine .inr ⟨k,a,c,rfl,e,λl j=>i.cell (g l j) ?_⟩;rcases f with h|h;exact h;simp[cK]at h
def Bytes.alloc{w:Y}(l:Bytes w d n)(o:Obj):Bytes (cN w o) d n:=by
 rcases l with⟨rfl,rfl⟩|⟨g,a,b,rfl,c,i⟩;exact .inl ⟨rfl,rfl⟩;refine .inr ⟨g,a,b,rfl,c,λm j=>?_⟩;have e:=i m j;(have k:g<z (G w):=by by_cases h:g<z (G w);exact h;have:w.heap[g]?=none:=kJ (by omega);simp[World.cell?,this]at e);rw[<-e];grind[World.cell?_of_block,Below.heap_alloc]
def Bytes.take{f b c n:M}{bs:eR}(h:Bytes a (bD f b (y bs) c) bs)(m:n<=y bs):Bytes a (bD f b n c) (bs.take n):=by
 rcases h with⟨h,_⟩|⟨j,e,d,h,i,g⟩;cases h;cases h;(have k:y (bs.take n)=n:=by simp;omega);refine .inr ⟨f,b,c,by rw[k],by omega,λo l=>?_⟩;rw[g o (by omega),oJ<|by omega]
def Bytes.Cf{g b c n:M}{d:eR}(h:Bytes a (bD g b (y d) c) d)(m:n<=y d):Bytes a (bD g (b+n) (y d-n)<|c-n) (d.drop n):=by
 rcases h with⟨h,_⟩|⟨j,f,e,h,i,k⟩;cases h;cases h;refine .inr ⟨g,b+n,c-n,by simp,by simp;omega,λo l=>?_⟩;grind
def Bytes.lt{bs:eR}(n:Bytes a d bs)(l:bs≠[]):∀m,cK d=H m->m<z (G a):=by
 rcases n with⟨rfl,rfl⟩|⟨b,c,g,rfl,k,j⟩;grind
 intro m e;simp[cK]at e;subst e;have h:=j 0 (by cases bs<;>simp_all);by_cases i:b<z (G a);exact i;have:a.heap[b]?=none:=kJ (by omega);simp[World.cell?,this]at h
def RW{a:Addr}(h:cK (I (H a) b c)=H g):a.block=g:=by simpa[cK]using h
def mY(f:Bytes a d n)(c:∀k,cK d=H k->k<z (G a)):cY aZ 134 #[d] a λj b=>j=aM (aA<|z<|G a)/\Rd b (z<|G a) n aX/\b=cN a (aw #[d,aN aX] 325):=by
 have fin:∀b,b=cN a (aw #[d,aN aX] 325)->Rd b (z<|G a) n aX:=by rintro b rfl;exact⟨d,ix _ _,f.alloc _,c⟩
 have F:Hid (∀b,b=cN a (aw #[d,aN aX] 325)->Rd b (z<|G a) n aX):=fin;clear fin;rcases f with⟨rfl,rfl⟩|⟨m,e,g,rfl,i,l⟩;(.clear c;(go_in);go_wp2;go_ret;exact⟨rfl,F.out _ rfl,rfl⟩);clear c;(go_in);go_wp2;go_ret;exact⟨rfl,F.out _ rfl,rfl⟩
def jJ(rest:eR)(a:Bool)(n:M):eR×Bool×eR:=if a=ci\/y rest<n then(rest,ci,[])else(rest.drop n,aX,rest.take n)
def Rd.short{rest:eR}(f:a.heap[b]?=H (aw #[d,aN P] 325 (0,0)))(e:Bytes a d rest)(c:∀k,cK d=H k->k<b):Rd (cq a (R b 1)<|aN ci) b rest ci:=⟨d,by rw[aH f];rfl,e.grown (dN a b 1 _)<|.inl<|λg=>kP _<|c _ g,c⟩
def Rd.Vg(f:a.heap[b]?=H (aw #[d,aN P] 325 (0,0)))(e:Bytes a s n)(c:∀k,cK s=H k->k<b):Rd (cq a (R b 0) s) b n P:=⟨s,by rw[aH f];rfl,e.grown (dN a b 0 _)<|.inl<|λg=>kP _<|c _ g,c⟩
def Kv{rest:eR}(n:M)(h:Rd a b rest P)(W:y rest<=140737488351232)(V:n<=1000000):cY aZ 241 #[aA b,ar n] a λo C=>∃B,o=aM B/\Rd C b (jJ rest P n).1 (jJ rest P n).2.1/\Bytes C B (jJ rest P n).2.2/\cK B≠H b/\a.grownBy C (H b):=by
 obtain⟨T,k,u,q⟩:=h;have HB:Hid (Bytes a T rest):=u;have L:=cellAt k 0 rfl;have N:=cellAt k 1 rfl;have O:=cP (i:=0) k;have Q:=cP (i:=1) k;have t:Hid (a.heap[b]?=H (aw #[T,aN P] 325 (0,0))):=k;have g:Hid (∀S,cK T=H S->S<b):=q;clear k q;by_cases e:P=ci\/y rest<n
 .have f:Hid (jJ rest P n=(rest,ci,[])):=by unfold Hid jJ;rw[dH e]
  have fin:Rd (cq a (R b 1)<|aN ci) b rest ci/\a.grownBy (cq a (R b 1)<|aN ci) (H b):=⟨Rd.short t.out HB.out g.out,dN _ _ _ _⟩;have F:Hid (Rd (cq a (R b 1)<|aN ci) b rest ci/\a.grownBy (cq a (R b 1)<|aN ci) (H b)):=fin;clear fin;have s:Bytes (cq a (R b 1)<|aN ci) az []:=.inl ⟨rfl,rfl⟩;have j:Hid (Bytes (cq a (R b 1)<|aN ci) az []):=s;clear s;cases P with
  |true=>
   clear e u;go_in
   go_wp2;go_ret;exact⟨_,rfl,by rw[f.out];exact F.out.1,by rw[f.out];exact j.out,by simp[cK],F.out.2⟩
  |false=>
   have p:y rest<n:=by simpa using e
   clear e;rcases u with⟨rfl,rfl⟩|⟨D,c,d,rfl,A,K⟩;all_goals
    go_in
    go_wp2;go_ret;exact⟨_,rfl,by rw[f.out];exact F.out.1,by rw[f.out];exact j.out,by simp[cK],F.out.2⟩
 (have f:Hid (jJ rest P n=(rest.drop n,aX,rest.take n)):=by unfold Hid jJ;rw[dF e]);obtain⟨E,p⟩:=not_or.1 e;(obtain rfl:P=aX:=by simpa using E);clear e E;rcases u with⟨rfl,rfl⟩|⟨D,c,d,rfl,A,K⟩;(·(obtain rfl:n=0:=by simpa using p);have s:Bytes a az []:=.inl ⟨rfl,rfl⟩;have j:=Rd.Vg t.out s g.out;have m:=U j;clear j s;(go_in);go_wp2;go_ret;exact⟨_,rfl,by rw[f.out];exact m,by rw[f.out];exact .inl ⟨rfl,rfl⟩,λo=>kP _<|g.out _ o,dN _ _ _ _⟩);by_cases x:d=n;(.subst x;(have v:rest.drop d=[]:=by simp;omega);(have F:y rest=d:=by omega);have l:Bytes a (bD D c 0 0) (rest.drop d):=.inr ⟨D,c,0,by rw[v];rfl,by rw[v];simp,λS b=>by rw[v]at b;simp at b⟩;have r:=(Bytes.take HB.out (n:=d)<|by omega).grown (dN a b 0<|bD D c 0 0)<|.inl<|λo=>kP _<|g.out _ o;have j:=Rd.Vg t.out l g.out;have w:=U r;have m:=U j;clear l r j v;(go_in);go_wp2;go_ret;exact⟨_,rfl,by rw[f.out];exact m,by rw[f.out];exact w,λo=>kP _<|g.out _ o,dN _ _ _ _⟩);have l:=Bytes.Cf HB.out (n:=n) (by omega);have r:=(Bytes.take HB.out (n:=n)<|by omega).grown (dN a b 0<|bD D (c+n) (y rest-n)<|d-n)<|.inl<|λo=>kP _<|g.out _ o;have j:=Rd.Vg t.out l g.out;obtain⟨v,w,m⟩:=dz l r j;clear l r j;(go_in);go_wp2;go_ret;exact⟨_,rfl,by rw[f.out];exact m,by rw[f.out];exact w,λo=>kP _<|g.out _ o,dN _ _ _ _⟩
def kh(a:eR):Prop:=∀x∈a,0<=x/\x<256
def kh.take{bs:eR}(h:kh bs)(n:M):kh (bs.take n):=λx a=>h x<|dZ a
def kh.drop(h:kh n)(b:M):kh (n.drop b):=λx a=>h x<|dQ a
def kh.append{b:eR}(h:kh n)(k:kh b):kh (n++b):=λx a=>(aG.1 a).elim (h x)<|k x
def kh.AH{rest:eR}{shortqq:Bool}{n:M}(h:kh rest):kh (jJ rest shortqq n).1/\kh (jJ rest shortqq n).2.2:=by
 unfold jJ;split;exact⟨h,λx a=>by cases a⟩;exact⟨h.drop n,h.take n⟩
def wb(rest:eR)(a:Bool)(n:M):y (jJ rest a n).1<=y rest/\y (jJ rest a n).2.2<=n:=by
 unfold jJ;grind
def kh.le(k:M):∀n,kh (le k n):=by
 induction k with
 |zero=>intro n x a;cases a
 |succ k b=>
  intro n x a;rcases bJ.1 a with rfl|a
  .omega
  .exact b _ x a
def kh.text(s:ae):kh (kR s):=by
 intro x a;obtain⟨b,_,rfl⟩:=bR.1 a;have:=b.toNat_lt;omega
def ma:eR->X
 |[]=>0
 |x::r=>x+256*ma r
def uD:∀(l:eR),kh l->0<=ma l/\ma l<256^y l
 |[],_=>by simp[ma]
 |x::r,h=>by
  have a:=h x<|.head _;have c:=uD r<|λa b=>h a<|.tail _ b;simp only[ma,aY,An];omega
def EX:∀(l:eR)(x:X),ma (l++[x])=ma l+x*256^y l
 |[],x=>by simp[ma]
 |yqq::r,x=>by
  simp only[df,ma,aY,An,EX r x];grind
def AR:∀(k:M)(n:X),0<=n->ma (le k n)=n%256^k
 |0,n,_=>by simp[ma,le]
 |k+1,n,h=>by
  simp only[le,ma,AR k (n/256) (by omega),An];obtain⟨m,rfl⟩:=vB h;have:=Nat.mod_mul (x:=m) (a:=256) (b:=256^k);rw[Int.mul_comm (256^k) 256];grind
def XE(h:kh n)(j:y n<=8)(k:M)(d:k<y n):ma (n.take<|k+1)=bits .or .u64 (ma<|n.take k) (IntKind.u64.wrap<|n[k]*2^(8*k)):=by
 have c:=uD (n.take k)<|h.take k;have e:y (n.take k)=k:=by simp;omega
 rw[ai d,EX,e];rw[e]at c;have m:=h n[k]<|aq d;have i:(256:X)^k=2^(8*k):=by rw[Int.pow_mul];rfl
 rw[i]at c|-;have l:(0:X)<2^(8*k):=Int.pow_pos (by decide);have f:(2:X)^(8*k)*256<=2^64:=by(have:(2:X)^(8*k)*256=2^(8*k+8):=by rw[Int.pow_add];rfl);rw[this];exact_mod_cast Nat.pow_le_pow_right (by decide) (by omega)
 have g:n[k]*2^(8*k)<=255*2^(8*k):=Int.mul_le_mul_of_nonneg_right (by omega) (by omega);have a:0<=n[k]*2^(8*k):=Int.mul_nonneg (by omega) (by omega);have b:n[k]*2^(8*k)<2^64:=by omega
 rw[wraps_u64 _ a b,bits_join_low .u64 64 (by decide) wraps_u64 (8*k) _ _ c.1 c.2 (by omega) a (Int.mul_emod_left _ _) b]
def EF{rest:eR}(n:M)(h:Rd a b rest P)(f:kh rest)(D:y rest<=140737488351232)(N:n<=8):cY aZ 192 #[aA b,ar n] a λF v=>F=aM (aE<|ma (jJ rest P n).2.2)/\Rd v b (jJ rest P n).1 (jJ rest P n).2.1/\a.grownBy v (H b):=by
 have p:=U f;clear f;go_in
 go_wp2_with fail
 apply(Kv n h D<|by omega).mono;rintro F S⟨Q,rfl,g,i,j,t⟩;have L:=(wb rest P n).2;obtain⟨r,q,o⟩:=dz (p.AH (shortqq:=P) (n:=n)).2 g t;clear g t j h p;generalize s:(jJ rest P n).2.2=c at*;have m:=U s;clear s;rcases i with⟨rfl,rfl⟩|⟨T,l,x,rfl,C,B⟩;(.go_wp2;(go_loop [5,12,6,7] (λw u _ _=>u=ar 0/\w=aE 0) (λ_ _ _ _=>0));(case atStart=>grind);(case round=>obtain⟨rfl,rfl⟩:=hrel;go_wp2;go_ret;exact⟨by rw[J m];rfl,q,o⟩));(.go_wp2;(go_loop [5,12,6,7] (λw u _ _=>∃(k:M),k<=y c/\u=ar k/\w=aE (ma<|c.take k)) (λ_ u _ _=>y c-(intOf u).toNat));(case atStart=>exact⟨0,bP _,rfl,rfl⟩);(case round=>obtain⟨k,K,rfl,rfl⟩:=hrel;by_cases e:k<y c;(.have A:=B k e;have O:=r c[k]<|aq e;have d:=U<|XE r (by omega) k e;generalize ma (c.take k)=E at*;go_wp2;(go_round);(case rel=>exact⟨k+1,by omega,by go_num,by rw[J d]⟩);case measure=>simp[intOf];omega);go_wp2;go_ret;have d:c.take k=c:=eT (by omega);rw[d];exact⟨by rw[J m];rfl,q,o⟩))
def Vt(h:kh n)(a:y n<=b):ma n<256^b:=by
 have c:=(uD n h).2;have d:(256:X)^y n<=256^b:=by exact_mod_cast Nat.pow_le_pow_right (by decide) a
 omega
def num(rest:eR)(a:Bool)(n:M):X:=ma (jJ rest a n).2.2
def sW{rest:eR}(h:kh rest):0<=num rest P b/\num rest P b<256^b:=⟨(uD _ h.AH.2).1,Vt h.AH.2 (wb rest P b).2⟩
def LK{rest:eR}(h:Rd a b rest P)(c:kh rest)(j:y rest<=140737488351232):cY aZ 135 #[aA b] a λk e=>k=aM (aE<|num rest P 8)/\Rd e b (jJ rest P 8).1 (jJ rest P 8).2.1/\a.grownBy e (H b):=by
 have d:=U h;have f:=U c;clear h c;go_in
 go_wp2_with fail
 apply(EF 8 d f j<|by omega).mono;rintro k l⟨rfl,g,i⟩;go_wp2;go_ret;exact⟨rfl,g,i⟩
def EC{rest:eR}(n:M)(h:Rd a b rest P)(c:kh rest)(f:y rest<=140737488351232)(e:n<=8):cY aZ 192 #[aA b,ar n] a λg d=>g=aM (aE<|num rest P n)/\Rd d b (jJ rest P n).1 (jJ rest P n).2.1/\a.grownBy d (H b):=EF n h c f e
def PT{a:IntKind}(h:k=N):Ending.returned (.int a k)=aM (.int a N):=by rw[h]
def Ko(c:M){rest:eR}(a:Bool)(w:Y)(h:Rd w c rest a)(b:kh rest)(n:y rest<=140737488351232):cY aZ 136 #[aA c] w λo j=>o=aM (dA<|num rest a 4)/\Rd j c (jJ rest a 4).1 (jJ rest a 4).2.1/\w.grownBy j (H c):=by
 have l:0<=num rest a 4:=(sW b).1;have m:num rest a 4<4294967296:=(sW b).2;have d:=U h;have k:=U b;clear h b;go_in
 go_wp2_with fail
 apply(EC 4 d k n<|by omega).mono;rintro o p⟨rfl,g,i⟩;have e:=U g;have f:=U i;clear g i;go_wp2;go_ret;exact⟨PT (by omega),e,f⟩
def FB{rest:eR}(h:Rd a b rest P)(c:kh rest)(n:y rest<=140737488351232):cY aZ 147 #[aA b] a λo j=>o=aM (rD<|num rest P 1)/\Rd j b (jJ rest P 1).1 (jJ rest P 1).2.1/\a.grownBy j (H b):=by
 have l:0<=num rest P 1:=(sW c).1;have m:num rest P 1<256:=(sW c).2;have d:=U h;have k:=U c;clear h c;go_in
 go_wp2_with fail
 apply(EC 1 d k n<|by omega).mono;rintro o p⟨rfl,g,i⟩;have e:=U g;have f:=U i;clear g i;go_wp2;go_ret;exact⟨PT (by omega),e,f⟩
def GM{rest:eR}(h:Rd a b rest P):cY aZ 137 #[aA b] a λi g=>i=aM (aN P)/\g=a:=by
 obtain⟨v,d,e,c⟩:=h;have f:=cellAt d 1 rfl;clear d e c;go_in
 go_wp2;go_ret;simp_all
def yw{rest:eR}(h:Rd a b rest P)(o:y rest<=140737488351232):cY aZ 138 #[aA b] a λm l=>m=aM (aN<|!P&&rest.isEmpty)/\l=a:=by
 obtain⟨v,c,g,d⟩:=h;have i:=cellAt c 0 rfl;have j:=cellAt c 1 rfl;clear c d;cases P with
 |true=>
  go_in
  go_wp2;go_ret;simp_all
 |false=>
  rcases g with⟨rfl,rfl⟩|⟨q,e,f,rfl,k,n⟩
  .go_in
   go_wp2;go_ret;simp_all
  .cases rest with
   |nil=>
    go_in
    go_wp2;go_ret;simp_all
   |cons x r=>
    have p:((y (x::r):X)==0)=aX:=by simp;omega
    go_in
    go_wp2;go_ret;simp_all
def DP(a:eR):ae:=⟨(a.map λx=>UInt8.ofNat x.toNat).toArray⟩
theorem wa(s:ae):DP (kR s)=s:=by
 have e:((λx:X=>UInt8.ofNat x.toNat)∘λb:UInt8=>(b.toNat:X))=id:=by funext b;simp
 unfold DP kR;rw[gG,e,xF]
def DM(rest:eR)(a:Bool):eR×Bool×eR:=let b:=jJ rest a 1;jJ b.1 b.2.1 (num rest a 1).toNat
def Pr(g:Bytes a d n)(f:kh n):(convert 103 9 d).run aZ a=.ok (am<|DP n) a:=by
 rcases g with⟨rfl,rfl⟩|⟨k,b,e,rfl,i,h⟩;exact Lib.run_convert_nil_bytes a _ _ 5 0 underlying103 underlying5 underlying9;have:=vR (P:=aZ) a 103 9 5 (R k b) e (n.map λx=>UInt8.ofNat x.toNat) underlying103 underlying5 underlying9 (λj c=>by simp at c;rw[dB,h j c];have l:=f n[j]<|aq c;simp[c];omega);simpa[DP]using this
def DO{rest:eR}(h:Rd a b rest P)(c:kh rest)(E:y rest<=140737488351232):cY aZ 193 #[aA b] a λx t=>x=aM (am<|DP (DM rest P).2.2)/\Rd t b (DM rest P).1 (DM rest P).2.1/\a.grownBy t (H b):=by
 have j:0<=num rest P 1:=(sW c).1;have B:num rest P 1<256:=(sW c).2;have d:=U h;have l:=U c;clear h c;go_in
 go_wp2_with fail
 apply(FB d l E).mono;rintro x L⟨rfl,n,o⟩;have e:=U n;have f:=U o;clear n o;obtain⟨u,k⟩:=vB j;have s:(DM rest P)=jJ (jJ rest P 1).1 (jJ rest P 1).2.1 u:=by unfold DM;simp[k]
 have F:=(wb rest P 1).1;have m:=U s;have v:=U (l.AH (shortqq:=P) (n:=1)).1;have D:u<256:=by omega
 have w:=U k;clear s k;go_wp2_with fail
 rw[J w];apply(Kv u e (by omega)<|by omega).mono;rintro x N⟨K,rfl,p,q,A,r⟩;have C:=Pr q v.AH.2;have g:=U p;have i:=U r;clear p q A r;go_wp2;go_ret;exact⟨by rw[J m];rfl,by rw[J m];exact g,Mo f i⟩
def Bytes.of_heap{w w':Y}(i:Bytes w d n)(l:w'.heap=w.heap):Bytes w' d n:=by
 rcases i with⟨rfl,rfl⟩|⟨j,b,e,rfl,g,h⟩;exact .inl ⟨rfl,rfl⟩;exact .inr ⟨j,b,e,rfl,g,λk i=>by rw[<-h k i];grind[World.cell?_of_block]⟩
def Rd.of_heap{w w':Y}{rest:eR}(i:Rd w b rest P)(h:w'.heap=w.heap):Rd w' b rest P:=by
 obtain⟨v,d,e,g⟩:=i;exact⟨v,by rw[h];exact d,e.of_heap h,g⟩
def Steps.of_heap{w w':Y}(h:Steps w)(e:w'.heap=w.heap):Steps w':=λk b=>by
 rw[<-h k b];grind[World.cell?_of_block]
def Steps.grown{w w':Y}{a:Option M}(h:Steps w)(c:w.grownBy w' a)(b:a≠H 1):Steps w':=λk d=>c.cell (h k d)<|λe=>b e.symm
def Steps.alloc{w:Y}(h:Steps w)(o:Obj):Steps (cN w o):=λk c=>by
 have a:=h k c;have d:1<z (G w):=by by_cases b:1<z (G w);exact b;have:w.heap[(1:M)]?=none:=kJ (by omega);simp[World.cell?,this]at a
 rw[<-a];grind[World.cell?_of_block,Below.heap_alloc]
def Steps.lt(h:Steps a):1<z (G a):=by
 have c:=h 0 (by decide);by_cases d:1<z (G a);exact d;have:a.heap[(1:M)]?=none:=kJ (by omega);simp[World.cell?,this]at c
def JU(b c:ae):(b==c)=decide (b=c):=by
 obtain⟨x⟩:=b;obtain⟨a⟩:=c;show(x==a)=_;by_cases h:x=a;simp[h];simp[h]
abbrev fK:=cJ<|ae×ab
def fK.get(m:fK)(k:ae):Option ab:=match m with
 |[]=>none
 |p::r=>if p.1=k then H p.2 else fK.get r k
def Fits(a:cJ MapEntry)(m:fK):Prop:=a.map (λe=>(e.key,e.val))=m.map (λp=>(am p.1,p.2))
def Fits.cons_inv{e:MapEntry}{a:cJ MapEntry}{m:fK}(h:Fits (e::a) m):∃p r,m=p::r/\e.key=am p.1/\e.val=p.2/\Fits a r:=by
 cases m with
 |nil=>simp[Fits]at h
 |cons p r=>
  simp[Fits]at h;exact⟨p,r,rfl,h.1.1,h.1.2,h.2⟩
def JB(k:ae):∀(a:cJ MapEntry)(m:fK)(i:M),Fits a m->∃l,Instr.findNow .string (am k) a i=H ((m.get k).map λv=>(l,v)):=by
 intro a;induction a with
 |nil=>
  intro m i h;obtain rfl:m=[]:=by simpa[Fits]using h
  exact⟨0,rfl⟩
 |cons n a j=>
  intro m i h;obtain⟨p,r,rfl,c,g,f⟩:=h.cons_inv;by_cases d:p.1=k
  .refine⟨i,?_⟩;simp[Instr.findNow,Instr.sameNow,c,fK.get,d,g,JU]
  .obtain⟨l,e⟩:=j r (i+1) f;refine⟨l,?_⟩;have b:(k==p.1)=aX:=by rw[JU];grind
   simp[Instr.findNow,Instr.sameNow,c,fK.get,d,b,e]
def gM(w:Y)(c:M)(m:fK):Prop:=∃b a,w.heap[c]?=H (.map b a)/\Fits b.toList m/\MapKept.Stamped b a
def xO{P:Program}{mt l i n:M}{m:fK}{u:TypeInfo}(s:P.underlying mt=H (.map l i))(j:P.underlying l=H .string)(q:P.info? i=H u)(t:u.zero=H d)(v:gM a n m)(k:ae):(Instr.lookup mt (.map<|H n) (am k) aX).run P a=.ok ((m.get k).getD d) a:=by
 obtain⟨c,b,p,o,_⟩:=v;obtain⟨w,r⟩:=JB k c.toList m 0 o;have e:=iy (P:=P) (w:=a) (k:=am k) j (by trivial) c.isEmpty 9999;have g:=ig (P:=P) (w:=a) j r;have h:(getObj n).run P a=.ok (.map c b) a:=by simp[getObj,Sem.run,p]
 unfold Instr.lookup;rw[jV,fF s];simp only[np,jV,h,vT];rw[show(10000:M)=9999+1 from rfl,e];simp only[np,g];cases hg:m.get k with
 |none=>simp[zeroValue,typeInfo,q,t]
 |some x=>simp
section
open ChangeMaps (setBlock)
def fK.put(m:fK)(k:ae)(v:ab):fK:=match m with
 |[]=>[(k,v)]
 |p::r=>if p.1=k then(k,v)::r else p::fK.put r k v
def fK.del(m:fK)(k:ae):fK:=match m with
 |[]=>[]
 |p::r=>if p.1=k then r else p::fK.del r k
theorem Fits.cons{e:MapEntry}{b:cJ MapEntry}{p:ae×ab}{m:fK}(c:e.key=am p.1)(d:e.val=p.2)(h:Fits b m):Fits (e::b) (p::m):=by
 simp[Fits,c,d];exact h
theorem Ie(k:ae):∀(c:cJ MapEntry)(m:fK)(p:M),Fits c m->(Instr.findNow .string (am k) c p=H none/\m.get k=none/\(∀e∈c,e.key≠am k)/\m.del k=m/\∀v,m.put k v=m++[(k,v)])\/∃q e,Instr.findNow .string (am k) c p=H (H (p+q,e.val))/\c[q]?=H e/\e.key=am k/\m.get k=H e.val/\(∀v,Fits (c.modify q λe=>{e with key:=am k,val:=v})<|m.put k v)/\Fits (c.eraseIdx q) (m.del k):=by
 intro c;induction c with
 |nil=>
  intro m p t;obtain rfl:m=[]:=by simpa[Fits]using t
  exact .inl ⟨rfl,rfl,by simp,rfl,λ_=>rfl⟩
 |cons e c x=>
  intro m p t;obtain⟨A,B,rfl,d,n,l⟩:=t.cons_inv;by_cases b:A.1=k
  .refine .inr ⟨0,e,?_,rfl,by rw[d,b],?_,?_,?_⟩
   .simp[Instr.findNow,Instr.sameNow,d,b,JU]
   .simp[fK.get,b,n]
   .intro v;simp only[fK.put,b,nk,wW];exact Fits.cons rfl rfl l
   .simpa[fK.del,b]using l
  .have f:(k==A.1)=aX:=by rw[JU];grind
   rcases x B (p+1) l with⟨g,h,r,i,j⟩|⟨q,s,g,h,r,i,j,u⟩
   .refine .inl ⟨?_,?_,?_,?_,?_⟩
    .simp[Instr.findNow,Instr.sameNow,d,f,g]
    .simp[fK.get,b,h]
    .grind
    .simp[fK.del,b,i]
    .intro v;simp[fK.put,b,j]
   .refine .inr ⟨q+1,s,?_,by simpa using h,r,?_,?_,?_⟩
    .simp[Instr.findNow,Instr.sameNow,d,f,g];omega
    .simp[fK.get,b,i]
    .intro v;simp only[fK.put,b,ru,wX];exact Fits.cons d n<|j v
    .simp only[fK.del,b,ru,List.eraseIdx_cons_succ];exact Fits.cons d n u
theorem mf(w:Y)(c:M)(o:Obj):w.grownBy (setBlock w c o) (H c):=⟨rfl,rfl,rfl,by simp[setBlock],λk _ b=>by
 simp only[setBlock];rw[Array.getElem?_setIfInBounds_ne (λe=>b (by rw[e]))]⟩
theorem CA{P:Program}{w:Y}{mt u x n:M}{A:fK}(t:P.underlying mt=H (.map u x))(g:P.underlying u=H .string)(D:gM w n A)(k:ae)(v:ab):∃h,(Instr.mapUpdate mt (.map<|H n) (am k) v).run P w=.ok () h/\gM h n (A.put k v)/\w.grownBy h (H n)/\z (G h)=z (G w):=by
 obtain⟨f,b,d,m,s⟩:=D;have c:=pQ (P:=P) d;rcases Ie k f.toList A 0 m with⟨i,p,j,_,q⟩|⟨B,e,i,p,j,E,q,_⟩;refine⟨setBlock w n<|.map (f.push {key:=am k,val:=v,born:=b})<|b+1,?_,?_,mf _ _ _,by simp[setBlock]⟩;simp[Instr.mapUpdate,fF t,c,iy g (show MapKept.IsKey .string (am k)by trivial),ig g i,jl _ d,Result.andThen,setBlock];refine⟨_,_,(iI d).1,?_,MapKept.stamped_push s j⟩;rw[q];simp[Fits]at m|-;exact m;(have r:f[B]?=H e:=by simpa using p);refine⟨setBlock w n<|.map (f.modify B λe=>{e with key:=am k,val:=v}) b,?_,?_,mf _ _ _,by simp[setBlock]⟩;simp[Instr.mapUpdate,fF t,c,iy g (show MapKept.IsKey .string (am k)by trivial),ig g i,r,j,uL (show MapKept.IsKey .string (am k)by trivial),jl _ d,Result.andThen,setBlock];refine⟨_,_,(iI d).1,?_,vU s _ _ (λ_ _=>rfl) (λC _ l=>by rw[r]at l;grind)⟩;grind
theorem KM{P:Program}{w:Y}{mt j r k:M}{x:fK}(p:P.underlying mt=H (.map j r))(f:P.underlying j=H .string)(C:gM w k x)(q:ae)(A:TypeId):∃g,(Builtin.delete_ #[mt,j] A #[.map<|H k,am q]).run P w=.ok (dq #[]) g/\gM g k (x.del q)/\w.grownBy g (H k)/\z (G g)=z (G w):=by
 obtain⟨c,b,e,m,n⟩:=C;have d:=pQ (P:=P) e;rcases Ie q c.toList x 0 m with⟨h,i,s,l,t⟩|⟨v,B,h,i,s,l,t,D⟩;refine⟨setBlock w k<|.map c b,?_,?_,mf _ _ _,by simp[setBlock]⟩;simp[Builtin.delete_,fF p,d,iy f (show MapKept.IsKey .string (am q)by trivial),ig f h,jl _ e,Result.andThen,setBlock];rw[l];exact⟨_,_,(iI e).1,m,n⟩;(have E:c[v]?=H B:=by simpa using i);(have u:v<c.size:=by have:=jy.1 i;grind);refine⟨setBlock w k<|.map (c.eraseIdxIfInBounds v) b,?_,?_,mf _ _ _,by simp[setBlock]⟩;simp[Builtin.delete_,fF p,d,iy f (show MapKept.IsKey .string (am q)by trivial),ig f h,jl _ e,Result.andThen,setBlock];refine⟨_,_,(iI e).1,?_,MapKept.stamped_erase n _⟩;simp_all
theorem gM.kept{w g:Y}{h:M}{m:fK}{c:Option M}(n:gM w h m)(k:w.grownBy g c)(d:H h≠c):gM g h m:=by
 obtain⟨i,b,e,j,l⟩:=n;exact⟨i,b,(k.block h (ak e) d).trans e,j,l⟩
theorem gM.alloc{w:Y}{b:M}{m:fK}(h:gM w b m)(o:Obj):gM (cN w o) b m:=h.kept (dD w o none)<|by simp
theorem gM.lt{w:Y}{b:M}{m:fK}(h:gM w b m):b<z (G w):=by
 obtain⟨_,_,c,_⟩:=h;exact ak c
section
variable{P:Program}(w:Y){ops:Array Oper}{rest:cJ Oper}{o:Oper}{a:Act}{Q:Exit->Act->Y->Prop}
theorem xH(l:o.guard=none)(h A i:Operand)(x:TypeId)(g:o.op=Op.mapUpdate x h A i)(u C:TypeId)(p:P.underlying x=H (.map u C))(m:P.underlying u=H .string)(j:M)(v:fK)(n:a.eval h=.map (H j))(D:gM w j v)(b:ae)(c:ab)(r:a.eval A=am b)(q:a.eval i=c)(k:∀e,gM e j (v.put b c)->w.grownBy e (H j)->wpList P ops Q rest (a.put o.dst iH) e):wpList P ops Q (o::rest) a w:=by
 refine lw l λB f=>?_;obtain⟨e,d,s,t,_⟩:=CA p m D b c;unfold Oper.wp;simp[execOp,g,n,r,q,d,Result.andThen];exact f _ _<|k e s t
theorem DG(j:o.guard=none)(g x:Operand)(t p:TypeId)(f:o.op=Op.call {callee:=Callee.builtin Builtin.delete,args:=#[g,x],argTypes:=#[t,p]})(v:TypeId)(m:P.underlying t=H (.map p v))(k:P.underlying p=H .string)(h:M)(s:fK)(l:a.eval g=.map (H h))(A:gM w h s)(b:ae)(n:a.eval x=am b)(i:∀d,gM d h (s.del b)->w.grownBy d (H h)->wpList P ops Q rest (a.put o.dst<|dq #[]) d):wpList P ops Q (o::rest) a w:=by
 refine lw j λu e=>?_;obtain⟨d,c,q,r,_⟩:=KM m k A b o.type;unfold Oper.wp;simp[execOp,f,resolve,invoke,builtin,l,n,c,Result.andThen];exact e _ _<|i d q r
end
end
section
open ChangeMaps (setBlock)
def pH(w:Y)(g r:M)(m left:fK):Prop:=∃d c b seen e,w.heap[g]?=H (.map d c)/\Fits d.toList m/\MapKept.Stamped d c/\w.heap[r]?=H (.mapIter (H g) b seen e)/\(∀x∈d.toList,x.born<b)/\b<=e/\b<=c/\Fits (leftOf d seen).toList left
theorem pH.ne{w:Y}{c r:M}{m left:fK}(h:pH w c r m left):r≠c:=by
 obtain⟨d,b,_,_,_,e,_,_,g,_⟩:=h;grind
theorem pH.lt{w:Y}{b r:M}{m left:fK}(h:pH w b r m left):r<z (G w):=by
 obtain⟨e,c,_,_,_,_,_,_,d,_⟩:=h;exact ak d
theorem pH.kept{w d:Y}{e r:M}{q left:fK}(s:pH w e r q left)(n:d.heap[e]?=w.heap[e]?)(p:d.heap[r]?=w.heap[r]?):pH d e r q left:=by
 obtain⟨h,b,c,seen,g,i,j,k,l,m⟩:=s;exact⟨h,b,c,seen,g,n.trans i,j,k,p.trans l,m⟩
theorem Fits.split{c:cJ MapEntry}{m:fK}{pre b:cJ MapEntry}{f:MapEntry}(h:Fits c m)(k:c=pre++f::b):∃a p e,m=a++p::e/\Fits pre a/\f.key=am p.1/\f.val=p.2/\Fits b e:=by
 subst k;unfold Fits at h;rw[aP,cy]at h;obtain⟨a,l,rfl,g,i⟩:=iJ.1 h.symm;obtain⟨p,e,rfl,d,j⟩:=nF.1 i;exact⟨a,p,e,rfl,g.symm,(bS Prod.fst d).symm,(bS Prod.snd d).symm,j.symm⟩
theorem Fits.append{b c:cJ MapEntry}{m n:fK}(h:Fits b m)(k:Fits c n):Fits (b++c) (m++n):=by
 unfold Fits at*;rw[aP,aP,h,k]
theorem Hr{c:Array MapEntry}{seen:Array M}{pre d:cJ MapEntry}{e:MapEntry}(j:(c.toList.map (·.born)).Nodup)(h:(leftOf c seen).toList=pre++e::d):(leftOf c<|seen.push e.born).toList=pre++d:=by
 have f:(leftOf c<|seen.push e.born).toList=(leftOf c seen).toList.filter (λx=>!(x.born==e.born)):=by simp only[leftOf,Array.toList_filter,List.filter_filter];grind
 have b:((leftOf c seen).toList.map (·.born)).Nodup:=by(have:(leftOf c seen).toList.Sublist c.toList:=by simp[leftOf]);grind
 rw[f,h];rw[h]at b;simp only[aP,cy]at b;obtain⟨_,g,i⟩:=jm.1 b;grind[nodup_cons,filter_cons_of_neg,filter_eq_self]
theorem NS{P:Program}{w:Y}{mt j g f:M}{m:fK}(k:P.underlying mt=H (.map j g))(l:gM w f m):∃d,(Instr.range mt<|.map<|H f).run P w=.ok (aA<|z<|G w) d/\pH d f (z<|G w) m m/\w.grownBy d none/\z (G d)=z (G w)+1:=by
 obtain⟨c,b,e,h,i⟩:=l;refine⟨_,run_range_map w mt j g f c b k e,⟨c,b,b,#[],b,((oR w _).2 f<|ak e).trans e,h,i,(oR w _).1,i.1,ah _,ah _,?_⟩,dD w _ none,by simp⟩;have:leftOf c #[]=c:=by simp[leftOf]
 rw[this];exact h
theorem Rt{P:Program}{w:Y}{t r:M}{ac left:fK}(aa:pH w t r ac left)(K:TypeId):(left=[]/\(Instr.next (aA r) aX K).run P w=.ok (dq #[aN aX]) w)\/∃pre F f m,left=pre++F::f/\(Instr.next (aA r) aX K).run P w=.ok (dq #[aN ci,am F.1,F.2]) m/\pH m t r ac (pre++f)/\w.grownBy m (H r)/\z (G m)=z (G w)/\(Instr.entry<|aA r).run P m=.ok (dq #[am F.1,F.2]) m:=by
 have B:=aa.ne;obtain⟨k,b,c,seen,L,N,hf,C,O,j,D,q,A⟩:=aa;rcases run_next_at (P:=P) w K r t c L seen k b O N j D with⟨h0,e⟩|⟨u,W,v,g,e⟩;refine .inl ⟨?_,e⟩;(have:(leftOf k seen).toList=[]:=by grind);rw[this]at A;simpa[Fits]using A;obtain⟨pre,f,s⟩:=tu W;obtain⟨a,F,ad,rfl,T,l,S,V⟩:=A.split s;(have h:v.heap=w.heap:=by rcases g with rfl|rfl<;>rfl);(have p:v.heap[r]?=H (.mapIter (H t) c seen L):=by rw[h];exact O);have i:(setBlock v r<|.mapIter (H t) c (seen.push u.born) b).heap[r]?=H (.mapIter (H t) c (seen.push u.born) b):=(iI p).1;have d:∀E,E≠r->(setBlock v r<|.mapIter (H t) c (seen.push u.born) b).heap[E]?=w.heap[E]?:=λE l=>((iI p).2 E l).trans (by rw[h]);have n:=(d t<|λu=>B u.symm).trans N;(have x:u∈k.toList:=by(have:(leftOf k seen).toList.Sublist k.toList:=by simp[leftOf]);grind);refine .inr ⟨a,F,ad,_,rfl,by rw[<-l,<-S];exact e,⟨k,b,c,_,b,n,hf,C,i,j,q,q,by rw[Hr C.2.1 s];exact T.append V⟩,⟨?_,?_,?_,?_,λE _ l=>d E<|λu=>l<|by rw[u]⟩,?_,?_⟩;rcases g with rfl|rfl<;>rfl;rcases g with rfl|rfl<;>rfl;rcases g with rfl|rfl<;>rfl;simp[setBlock,h];simp[setBlock,h];rw[<-l,<-S];exact run_entry_at _ r t c seen k b u i n x C.2.1
section
variable{P:Program}(w:Y){ops:Array Oper}{rest:cJ Oper}{o:Oper}{a:Act}{Q:Exit->Act->Y->Prop}
theorem qZ(j:o.guard=none)(g:Operand)(t:TypeId)(e:o.op=Op.range t g)(v s:TypeId)(l:P.underlying t=H (.map v s))(h:M)(m:fK)(k:a.eval g=.map (H h))(u:gM w h m)(i:∀b,pH b h (z<|G w) m m->w.grownBy b none->z (G b)=z (G w)+1->wpList P ops Q rest (a.put o.dst<|aA<|z<|G w) b):wpList P ops Q (o::rest) a w:=by
 refine lw j λr d=>?_;obtain⟨b,c,n,p,q⟩:=NS l u;unfold Oper.wp;simp[execOp,e,k,c,Result.andThen];exact d _ _<|i b n p q
theorem pW(s:o.guard=none)(j:Operand)(i:o.op=Op.next j aX)(u r:M)(v left:fK)(sa:a.eval j=aA r)(A:pH w u r v left)(e:left=[]->wpList P ops Q rest (a.put o.dst<|dq #[aN aX]) w)(g:∀pre p b d,left=pre++p::b->pH d u r v (pre++b)->w.grownBy d (H r)->z (G d)=z (G w)->(Instr.entry<|aA r).run P d=.ok (dq #[am p.1,p.2]) d->wpList P ops Q rest (a.put o.dst<|dq #[aN ci,am p.1,p.2]) d):wpList P ops Q (o::rest) a w:=by
 refine lw s λx h=>?_;unfold Oper.wp;rcases Rt (P:=P) A o.type with⟨k,c⟩|⟨pre,p,b,d,t,c,l,m,n,q⟩;simp[execOp,i,sa,c,Result.andThen];exact h _ _<|e k;simp[execOp,i,sa,c,Result.andThen];exact h _ _<|g pre p b d t l m n q
end
end
section
open ChangeMaps (setBlock)
abbrev jM:=cJ<|X×ab
def jM.get(m:jM)(k:X):Option ab:=match m with
 |[]=>none
 |p::r=>if p.1=k then H p.2 else jM.get r k
def lN(b:cJ MapEntry)(m:jM):Prop:=b.map (λe=>(e.key,e.val))=m.map (λp=>(ar p.1,p.2))
theorem lN.nil:lN [] []:=rfl
theorem lN.cons_inv{e:MapEntry}{b:cJ MapEntry}{m:jM}(h:lN (e::b) m):∃p r,m=p::r/\e.key=ar p.1/\e.val=p.2/\lN b r:=by
 cases m with
 |nil=>simp[lN]at h
 |cons p r=>
  simp[lN]at h;exact⟨p,r,rfl,h.1.1,h.1.2,h.2⟩
def oP(w:Y)(d:M)(m:jM):Prop:=∃c b,w.heap[d]?=H (.map c b)/\lN c.toList m/\MapKept.Stamped c b
def jM.put(m:jM)(k:X)(v:ab):jM:=match m with
 |[]=>[(k,v)]
 |p::r=>if p.1=k then(k,v)::r else p::jM.put r k v
def jM.del(m:jM)(k:X):jM:=match m with
 |[]=>[]
 |p::r=>if p.1=k then r else p::jM.del r k
theorem lN.cons{e:MapEntry}{b:cJ MapEntry}{p:X×ab}{m:jM}(c:e.key=ar p.1)(d:e.val=p.2)(h:lN b m):lN (e::b) (p::m):=by
 simp[lN,c,d];exact h
theorem oP.kept{w g:Y}{h:M}{m:jM}{c:Option M}(n:oP w h m)(k:w.grownBy g c)(d:H h≠c):oP g h m:=by
 obtain⟨i,b,e,j,l⟩:=n;exact⟨i,b,(k.block h (ak e) d).trans e,j,l⟩
theorem oP.alloc{w:Y}{b:M}{m:jM}(h:oP w b m)(o:Obj):oP (cN w o) b m:=h.kept (dD w o none)<|by simp
theorem oP.lt{w:Y}{b:M}{m:jM}(h:oP w b m):b<z (G w):=by
 obtain⟨_,_,c,_⟩:=h;exact ak c
section
variable{P:Program}(w:Y){ops:Array Oper}{rest:cJ Oper}{o:Oper}{a:Act}{Q:Exit->Act->Y->Prop}
end
def qp(w:Y)(f r:M)(m left:jM):Prop:=∃d c b seen e,w.heap[f]?=H (.map d c)/\lN d.toList m/\MapKept.Stamped d c/\w.heap[r]?=H (.mapIter (H f) b seen e)/\(∀x∈d.toList,x.born<b)/\b<=e/\b<=c/\lN (leftOf d seen).toList left
theorem qp.ne{w:Y}{c r:M}{m left:jM}(h:qp w c r m left):r≠c:=by
 obtain⟨d,b,_,_,_,e,_,_,g,_⟩:=h;grind
theorem qp.lt{w:Y}{b r:M}{m left:jM}(h:qp w b r m left):r<z (G w):=by
 obtain⟨e,c,_,_,_,_,_,_,d,_⟩:=h;exact ak d
theorem qp.kept{w d:Y}{e r:M}{q left:jM}(s:qp w e r q left)(n:d.heap[e]?=w.heap[e]?)(p:d.heap[r]?=w.heap[r]?):qp d e r q left:=by
 obtain⟨h,b,c,seen,g,i,j,k,l,m⟩:=s;exact⟨h,b,c,seen,g,n.trans i,j,k,p.trans l,m⟩
theorem lN.split{c:cJ MapEntry}{m:jM}{pre b:cJ MapEntry}{f:MapEntry}(h:lN c m)(k:c=pre++f::b):∃a p e,m=a++p::e/\lN pre a/\f.key=ar p.1/\f.val=p.2/\lN b e:=by
 subst k;unfold lN at h;rw[aP,cy]at h;obtain⟨a,l,rfl,g,i⟩:=iJ.1 h.symm;obtain⟨p,e,rfl,d,j⟩:=nF.1 i;exact⟨a,p,e,rfl,g.symm,(bS Prod.fst d).symm,(bS Prod.snd d).symm,j.symm⟩
theorem lN.append{b c:cJ MapEntry}{m n:jM}(h:lN b m)(k:lN c n):lN (b++c) (m++n):=by
 unfold lN at*;rw[aP,aP,h,k]
theorem NU{P:Program}{w:Y}{mt j g f:M}{m:jM}(k:P.underlying mt=H (.map j g))(l:oP w f m):∃d,(Instr.range mt<|.map<|H f).run P w=.ok (aA<|z<|G w) d/\qp d f (z<|G w) m m/\w.grownBy d none/\z (G d)=z (G w)+1:=by
 obtain⟨c,b,e,h,i⟩:=l;refine⟨_,run_range_map w mt j g f c b k e,⟨c,b,b,#[],b,((oR w _).2 f<|ak e).trans e,h,i,(oR w _).1,i.1,ah _,ah _,?_⟩,dD w _ none,by simp⟩;have:leftOf c #[]=c:=by simp[leftOf]
 rw[this];exact h
theorem Ru{P:Program}{w:Y}{t r:M}{ac left:jM}(aa:qp w t r ac left)(K:TypeId):(left=[]/\(Instr.next (aA r) aX K).run P w=.ok (dq #[aN aX]) w)\/∃pre F f m,left=pre++F::f/\(Instr.next (aA r) aX K).run P w=.ok (dq #[aN ci,ar F.1,F.2]) m/\qp m t r ac (pre++f)/\w.grownBy m (H r)/\z (G m)=z (G w)/\(Instr.entry<|aA r).run P m=.ok (dq #[ar F.1,F.2]) m:=by
 have B:=aa.ne;obtain⟨k,b,c,seen,L,N,hf,C,O,j,D,q,A⟩:=aa;rcases run_next_at (P:=P) w K r t c L seen k b O N j D with⟨h0,e⟩|⟨u,W,v,g,e⟩;refine .inl ⟨?_,e⟩;(have:(leftOf k seen).toList=[]:=by grind);rw[this]at A;simpa[lN]using A;obtain⟨pre,f,s⟩:=tu W;obtain⟨a,F,ad,rfl,T,l,S,V⟩:=A.split s;(have h:v.heap=w.heap:=by rcases g with rfl|rfl<;>rfl);(have p:v.heap[r]?=H (.mapIter (H t) c seen L):=by rw[h];exact O);have i:(setBlock v r<|.mapIter (H t) c (seen.push u.born) b).heap[r]?=H (.mapIter (H t) c (seen.push u.born) b):=(iI p).1;have d:∀E,E≠r->(setBlock v r<|.mapIter (H t) c (seen.push u.born) b).heap[E]?=w.heap[E]?:=λE l=>((iI p).2 E l).trans (by rw[h]);have n:=(d t<|λu=>B u.symm).trans N;(have x:u∈k.toList:=by(have:(leftOf k seen).toList.Sublist k.toList:=by simp[leftOf]);grind);refine .inr ⟨a,F,ad,_,rfl,by rw[<-l,<-S];exact e,⟨k,b,c,_,b,n,hf,C,i,j,q,q,by rw[Hr C.2.1 s];exact T.append V⟩,⟨?_,?_,?_,?_,λE _ l=>d E<|λu=>l<|by rw[u]⟩,?_,?_⟩;rcases g with rfl|rfl<;>rfl;rcases g with rfl|rfl<;>rfl;rcases g with rfl|rfl<;>rfl;simp[setBlock,h];simp[setBlock,h];rw[<-l,<-S];exact run_entry_at _ r t c seen k b u i n x C.2.1
section
variable{P:Program}(w:Y){ops:Array Oper}{rest:cJ Oper}{o:Oper}{a:Act}{Q:Exit->Act->Y->Prop}
end
theorem lN.length{b:cJ MapEntry}{m:jM}(h:lN b m):y b=y m:=by
 have:=bS y h;grind
theorem oP.new(w:Y):oP (cN w<|.map #[] 0) (z<|G w) []:=by
 refine⟨#[],0,?_,lN.nil,qw 0⟩;show(w.heap.push _)[z<|G w]?=_;simp
theorem oP.dw{w w':Y}{b:M}{m:jM}(h:oP w b m)(g:w'.heap[b]?=w.heap[b]?):oP w' b m:=by
 obtain⟨d,c,e,f⟩:=h;exact⟨d,c,g.trans e,f⟩
end
section
open ChangeMaps (setBlock)
def lh(w:Y)(e:M)(f:TypeDesc)(d:ab->Prop):Prop:=∃c b,w.heap[e]?=H (.map c b)/\MapKept.Stamped c b/\(∀x∈c.toList,MapKept.IsKey f x.key)/\(∀x∈c.toList,x.val=dC #[])/\∀k,d k↔∃x∈c.toList,x.key=k
theorem lh.lt{w:Y}{b:M}{e:TypeDesc}{d:ab->Prop}(h:lh w b e d):b<z (G w):=by
 obtain⟨_,_,c,_⟩:=h;exact ak c
theorem lh.dw{w w':Y}{b:M}{h:TypeDesc}{d:ab->Prop}(j:lh w b h d)(i:w'.heap[b]?=w.heap[b]?):lh w' b h d:=by
 obtain⟨e,c,f,g⟩:=j;exact⟨e,c,i.trans f,g⟩
theorem lh.new(w:Y)(d:TypeDesc):lh (cN w<|.map #[] 0) (z<|G w) d ay:=by
 refine⟨#[],0,?_,⟨by simp,by simp,by simp⟩,by simp,by simp,by simp⟩;show(w.heap.push _)[z<|G w]?=_;simp
theorem lh.congr{w:Y}{l:M}{m:TypeDesc}{d c:ab->Prop}(p:lh w l m d)(n:∀k,c k↔d k):lh w l m c:=by
 obtain⟨e,b,f,g,h,i,j⟩:=p;exact⟨e,b,f,g,h,i,λk=>(n k).trans<|j k⟩
theorem BH{P:Program}{w:Y}{mt q m s:M}{t:TypeDesc}{p:ab->Prop}{F:TypeInfo}(C:P.underlying mt=H (.map q m))(j:P.underlying q=H t)(x:P.info? m=H F)(D:F.zero=H (dC #[]))(K:lh w s t p)(l:ab)(d:MapKept.IsKey t l)(r:Bool)(B:r=ci↔p l):(Instr.lookup mt (.map<|H s) l ci).run P w=.ok (dq #[dC #[],aN r]) w:=by
 obtain⟨f,b,v,L,k,N,A⟩:=K;have h:=iy (P:=P) (w:=w) (k:=l) j d f.isEmpty 9999;have i:(getObj s).run P w=.ok (.map f b) w:=by simp[getObj,Sem.run,v]
 unfold Instr.lookup;rw[jV,fF C];simp only[np,jV,i,vT];rw[show(10000:M)=9999+1 from rfl,h];simp only[np];rcases MapKept.findNow_spec d f.toList 0 k with⟨g,n⟩|⟨O,E,g,n,u⟩;have c:=ig (P:=P) (w:=w) j g;(have:r=aX:=by grind);simp[c,zeroValue,typeInfo,x,D,this];have c:=ig (P:=P) (w:=w) j g;have e:E∈f.toList:=eK n;have:r=ci:=B.2<|(A l).2 ⟨E,e,u⟩;simp_all
theorem zJ{P:Program}{w:Y}{mt F L u:M}{K:TypeDesc}{E:ab->Prop}(C:P.underlying mt=H (.map F L))(p:P.underlying F=H K)(S:lh w u K E)(r:ab)(h:MapKept.IsKey K r):∃q,(Instr.mapUpdate mt (.map<|H u) r<|dC #[]).run P w=.ok () q/\lh q u K (λx=>E x\/x=r)/\w.grownBy q (H u)/\z (G q)=z (G w):=by
 obtain⟨d,b,l,B,m,T,O⟩:=S;have k:=pQ (P:=P) l;rcases MapKept.findNow_spec h d.toList 0 m with⟨s,n⟩|⟨D,e,s,n,N⟩;refine⟨setBlock w u<|.map (d.push {key:=r,val:=dC #[],born:=b})<|b+1,?_,?_,mf _ _ _,by simp[setBlock]⟩;simp[Instr.mapUpdate,fF C,k,iy p h,ig p s,jl _ l,Result.andThen,setBlock];refine⟨_,_,(iI l).1,MapKept.stamped_push B n,?_,?_,?_⟩;(grind);(grind);intro x;simp only[Array.toList_push,aG,dp];grind
 (have v:d[D]?=H e:=by simpa using n);have A:e∈d.toList:=eK n;refine⟨setBlock w u<|.map (d.modify D λe=>{e with key:=r,val:=dC #[]}) b,?_,?_,mf _ _ _,by simp[setBlock]⟩;simp[Instr.mapUpdate,fF C,k,iy p h,ig p s,v,N,uL h,jl _ l,Result.andThen,setBlock];(have i:∀g,d[D]?=H g->g.key=r:=λg c=>by rw[v]at c;grind);refine⟨_,_,(iI l).1,vU B _ _ (λ_ _=>rfl)<|λg _ c=>(i g c).symm,MapKept.isKey_modify m _ _<|λg c=>(i g c).symm,?_,?_⟩;(grind[Array.toList_modify,getElem?_of_mem,mem_of_getElem?]);intro x;have j:((d.modify D λe=>{e with key:=r,val:=dC #[]}).toList.map (·.key))=d.toList.map (·.key):=MapKept.modify_keys _ _<|λg c=>(i g c).symm;(have t:(∃b∈(d.modify D λe=>{e with key:=r,val:=dC #[]}).toList,b.key=x)↔∃b∈d.toList,b.key=x:=by rw[<-bR (f:=λb:MapEntry=>b.key),<-bR (f:=λb:MapEntry=>b.key),j]);rw[t,<-O x];grind
section
variable{P:Program}(w:Y){ops:Array Oper}{rest:cJ Oper}{o:Oper}{a:Act}{Q:Exit->Act->Y->Prop}
theorem uR(m:o.guard=none)(h x i:Operand)(A:TypeId)(f:o.op=Op.mapUpdate A h x i)(v C:TypeId)(q:P.underlying A=H (.map v C))(k:TypeDesc)(n:P.underlying v=H k)(j:M)(g:ab->Prop)(p:a.eval h=.map (H j))(D:lh w j k g)(b:ab)(e:MapKept.IsKey k b)(s:a.eval x=b)(r:a.eval i=dC #[])(l:∀w',lh w' j k (λx=>g x\/x=b)->w.grownBy w' (H j)->wpList P ops Q rest (a.put o.dst iH) w'):wpList P ops Q (o::rest) a w:=by
 refine lw m λB d=>?_;obtain⟨w',c,t,u,_⟩:=zJ q n D b e;unfold Oper.wp;simp[execOp,f,p,s,r,c,Result.andThen];exact d _ _<|l w' t u
end
end
