import Derived.Deep.RegionWith
import Derived.Laws.BitsLemmas
import Derived.Laws.Entries
import Derived.Laws.IdiomStrings
import Derived.Lib.BufferRead
import Derived.Lib.EndianBits
import Derived.MapKept
import Derived.Maps.RangeWalk
import Derived.OpenShut
import Derived.OwnWalk
import Derived.Test.YtnfehfmncheoiaaGreatDoorChecked
import Derived.Test.YtnfehfmncheoiaaGreatDoorC0
open _root_ renaming List.length→y,Option.some→H,Array.size→z,Go.World.heap→G,Go.Value.ownBlock→bV,Go.World.cell?→aS,Go.World.setCell→bZ,Go.World.alloc→ct,Bool.false→bE,Bool.true→bU,Nat→M,Int→X,List→cr,Go.Calls→cw,Go.undef→iC,Go.Proofs.Tryz.prog→bF,Go.Value.slice→I,Go.Value.string→J,Go.Value.bool→aL,Go.Value.pointer→fh,Go.Value.tuple→dA,Go.Value.agg→eD
namespace Go.Proofs.YtnfehfmncheoiaaGreatDoor
open ChangeShapes WideShapes RowKit Proofs.Tryz
set_option maxHeartbeats 16000000
set_option linter.all false
set_option maxRecDepth 100000
variable{a f:Y}{b c g:M}{d s:aa}{m F Q:X}{o:eK}{x:iV}{D:Bool}
def qh:(prog.info? 5).map (λi=>(i.zero,i.size,i.bytes))=H (H<|tD 0,1,1):=by kernel_rfl
def eJ(w:Y)(a:M)(v:aa)(b:eK):Prop:=w.ownsRow a 5 1 v (y b)<|b.map<|Value.int .u8
def eJ.of(h:a.ownsRow b 5 1 d c x)(e:c=y o)(f:x=o.map (Value.int .u8)):eJ a b d o:=by
 subst e;subst f;exact h
def eJ.nil(w:Y)(a:M):eJ w a aK []:=bJ w a _ 1
def eJ.alloc{w:Y}(h:eJ w c d o)(a:Obj):eJ (ct w a) c d o:=aR h a
def le:M->X->eK
 |0,_=>[]
 |k+1,n=>n%256::le k (n/256)
def bY(k:M):∀n,y (le k n)=k:=by
 induction k with
 |zero=>intro n;rfl
 |succ k a=>intro n;simp[le,a]
def kC(s:ab):eK:=s.data.toList.map λb=>(b.toNat:X)
def strCells_eq(s:ab):Lib.strCells s=(kC s).map (Value.int .u8):=by simp[Lib.strCells,kC]
def gY(s:ab):y (kC s)=s.size:=by simp[kC]
def tU(a:M)(v:aa)(f:eK)(o:X)(w:Y)(d:eJ w a v f)(q:a<=z (G w))(r:y f<=70368744177664):cw bF 185 #[v,tD o] w λp l=>∃e,p=aO e/\eJ l a e (f++[o])/\eR w l v e:=by
 obtain⟨n,m,g,i,j⟩:=cz qh;go_in
 go_wp2_with(first
  |(at_builtin;refine bQ _ rfl _ _ 126 rfl a 5 n (.int .u8 0) 1 1 underlying126 m g i j rfl (by decide) _ _ _ rfl (d.alloc _) (R (z (G w)) 0) 1 1 [.int .u8 o] rfl rfl (pH _ _ _) ?c2 ?c3 ?c4 ?c5 ?_))
 case c2=>intro u k;simp at k;subst k;rfl
 case c3=>omega
 case c4=>omega
 case c5=>simp;omega
 intro e s c b;go_wp2;go_ret;exact⟨e,rfl,eJ.of c (by simp) (by simp),b.alloc _⟩
def Hr(w:Y)(a:iV)(t:TypeId):∀j u,a[j]?=H u->aS (ct w<|aq a.toArray t) (((R (z<|G w) 0):Addr).add j)=H u:=by
 intro j u b;rw[du];unfold World.cell?;rw[fw];simp[b]
def jx{baseqq:M}{v:aa}{bs:eK}(n:X){w:Y}(c:eJ w baseqq v bs)(q:baseqq<=z (G w))(r:y bs<=70368744177664)(o:0<=n)(p:n<4294967296):cw bF 187 #[v,dr n] w λk j=>∃d,k=aO d/\eJ j baseqq d (bs++le 4 n)/\eR w j v d:=by
 obtain⟨m,l,e,f,g⟩:=cz qh;go_in
 go_wp2_with(first
  |(at_builtin;refine bQ _ rfl _ _ 126 rfl baseqq 5 m (.int .u8 0) 1 1 underlying126 l e f g rfl (by decide) _ _ _ rfl (c.alloc _) (R (z (G w)) 0) 4 4 ((le 4 n).map (Value.int .u8)) rfl rfl ?c1 ?c2 ?c3 ?c4 ?c5 ?_))
 (case c1=>(have k:(#[Value.int IntKind.u8<|n%256,Value.int IntKind.u8<|n/256%256,Value.int IntKind.u8<|n/65536%256,Value.int IntKind.u8<|n/16777216]:Array aa)=((le 4 n).map<|Value.int .u8).toArray:=by simp[le];omega);rw[k];exact Hr _ _ _);case c2=>intro u i;simp[le]at i;rcases i with rfl|rfl|rfl|rfl<;>rfl
 case c3=>omega
 case c4=>omega
 case c5=>simp;omega
 intro d s b a;go_wp2;go_ret;exact⟨d,rfl,eJ.of b (by simp[le]) (by simp),a.alloc _⟩
def pa(a:M)(v:aa)(g:eK)(s:ab)(w:Y)(d:eJ w a v g)(n:a<=z (G w))(p:y g<=70368744177664)(t:s.size<=255):cw bF 229 #[v,J s] w λr m=>∃f,r=aO f/\eJ m a f (g++(s.size:X)::kC s)/\eR w m v f:=by
 obtain⟨q,o,j,k,l⟩:=cz qh;go_in
 go_wp2_with fail
 apply(tU a v g s.size w d n p).mono;rintro r x⟨u,rfl,i,e⟩
 go_wp2_with(first
  |(at_builtin;refine sJ _ rfl _ _ 126 9 rfl a 5 q underlying126 underlying9 o j k l _ _ _ rfl i s rfl ?c1 ?c2 ?_))
 case c1=>simp;omega
 case c2=>have:=e.grown.size;omega
 intro f A c b;go_wp2;go_ret;exact⟨f,rfl,eJ.of c (by simp[gY];omega) (by simp[strCells_eq]),e.trans b⟩
def MG(a b:X):0<=bits .xor .u32 a b:=(bounds_u32<|wf_bits .xor .u32 a b).1
def MH(a b:X):bits .xor .u32 a b<4294967296:=by have:=(bounds_u32<|wf_bits .xor .u32 a b).2;omega
def XN(x:X)(a:0<=x)(b:x<4294967296):bits .and .u32 x 15=x%16:=by
 have:=bits_mask .u32 32 (by decide) wraps_u32 4 (by decide) x a (by omega);simpa using this
def Wz(k:M):X:=([0,498536548,997073096,651767980,1994146192,1802195444,1303535960,1342533948,3988292384,4027552580,3604390888,3412177804,2607071920,2262029012,2685067896,3183342108]:eK).getD k 0
def Steps(w:Y):Prop:=∀k,k<16->aS w (R 1 k)=H (dr<|Wz k)
def Steps.below{B:M}(h:Steps a)(c:Below B a f)(b:1<B):Steps f:=λk d=>(c.cell<|by exact b).trans<|h k d
def PH(c:X):X:=bits .xor .u32 (c/16)<|Wz (c%16).toNat
def AI(a x:X):X:=PH<|PH<|bits .xor .u32 a<|x%4294967296
def xP(a:eK):X:=a.foldl AI 4294967295
def mr(a:eK):X:=bits .xor .u32 IntKind.u32.max<|xP a
def OI(a x:X):0<=AI a x:=MG _ _
def OJ(a x:X):AI a x<4294967296:=MH _ _
def Md(a:eK):0<=xP a/\xP a<4294967296:=by
 unfold xP;rcases wD a with rfl|⟨l,x,rfl⟩;simp;rw[wE,iJ];exact⟨OI _ _,OJ _ _⟩
def zA(a:eK):0<=mr a:=MG _ _
def BF(a:eK):mr a<4294967296:=MH _ _
def OH(a:eK)(k:M)(h:k<y a):xP (a.take<|k+1)=AI (xP<|a.take k) a[k]:=by
 unfold xP;rw[ai h,iJ];rfl
def VK(q c:M)(b:eK)(g:M)(i:Steps a)(m:∀k,k<y b->aS a (R q<|c+k)=H (tD<|b[k]?.getD 0))(f:y b<=140737488351232):cw bF 189 #[bC q c (y b) g] a λr o=>r=aO (dr<|mr b)/\o=a:=by
 have u:=MG;have v:=MH;have j:=XN;have l:∀x:X,aS a (R 1<|(x%16).toNat)=H (dr<|Wz (x%16).toNat):=λx=>i _ (by omega);clear i;go_in
 go_wp2;go_loop [3,8,5] (λa i x=>∃(k:M),k<=y b/\i=am k/\a=dr (xP<|b.take k)) (λ_ i _=>y b-(intOf i).toNat)
 case atStart=>exact⟨0,bw _,rfl,rfl⟩
 (case round=>obtain⟨k,s,rfl,rfl⟩:=hrel;have t:=Md<|b.take k;by_cases e:k<y b;(.have n:=m k e;have d:Hid (xP (b.take<|k+1)=AI (xP<|b.take k) b[k]):=OH b k e;generalize xP (b.take k)=p at*;go_wp2;(go_round);(case rel=>exact⟨k+1,by omega,by go_num,by rw[d.out];rfl⟩);case measure=>simp[intOf];omega);go_wp2;go_ret;have d:b.take k=b:=cS (by omega);rw[d];exact⟨rfl,rfl⟩)
def Bytes(w:Y)(v:aa)(b:eK):Prop:=(v=aK/\b=[])\/∃d a c,v=bC d a (y b) c/\y b<=c/\∀k,k<y b->aS w (R d<|a+k)=H (tD<|b[k]?.getD 0)
def eJ.bytes(i:eJ a b d o):Bytes a d o:=by
 unfold eJ at i;rcases i.2 with⟨rfl,j⟩|⟨h,c,g,rfl,_,_,e,_⟩;exact .inl ⟨rfl,aP j⟩;refine .inr ⟨h,0,c,rfl,e,λl k=>?_⟩;have:=i.cells (g:=h) rfl l (tD<|o[l]?.getD 0) (by simp[k]);simpa[du]using this
def Bytes.below{B:M}(j:Bytes a d o)(h:Below B a f)(g:∀k,bV d=H k->k<B):Bytes f d o:=by
 rcases j with⟨rfl,rfl⟩|⟨l,b,c,rfl,e,i⟩;exact .inl ⟨rfl,rfl⟩;exact .inr ⟨l,b,c,rfl,e,λk j=>(h.cell<|by exact g l rfl).trans<|i k j⟩
def sum_nil(w:Y):cw bF 189 #[aK] w λe a=>e=aO (dr<|mr [])/\a=w:=by
 go_in
 go_wp2;go_loop [3,8,5] (λc i x=>i=am 0/\c=dr 4294967295) (λ_ _ _=>0)
 case atStart=>exact⟨rfl,rfl⟩
 (case round=>obtain⟨rfl,rfl⟩:=hrel;go_wp2;go_ret;exact⟨rfl,rfl⟩)
def sk(v:aa)(c:eK)(w:Y)(e:Steps w)(f:Bytes w v c)(a:y c<=140737488351232):cw bF 189 #[v] w λj h=>j=aO (dr<|mr c)/\h=w:=by
 rcases f with⟨rfl,rfl⟩|⟨i,b,d,rfl,_,g⟩;exact sum_nil w;exact VK i b c d e g a
def YL(n:X):le 4 (n%4294967296)++le 4 (n/4294967296)=le 8 n:=by
 simp[le];omega
def ph{baseqq:M}{v:aa}{bs:eK}(n:X){w:Y}(b:eJ w baseqq v bs)(k:baseqq<=z (G w))(p:y bs<=35184372088832)(m:0<=n)(o:n<18446744073709551616):cw bF 184 #[v,aI n] w λj g=>∃f,j=aO f/\eJ g baseqq f (bs++le 8 n)/\eR w g v f:=by
 have i:Hid (le 4 (n%4294967296)++le 4 (n/4294967296)=le 8 n):=YL n;go_in
 go_wp2_with fail
 apply(jx (n%4294967296) b k (by omega) (by omega)<|by omega).mono;rintro j r⟨q,rfl,d,c⟩;go_wp2_with fail
 refine(jx (n/4294967296) d (by have:=c.grown.size;omega) (by simp[bY];omega) (by omega)<|by omega).mono ?_;rintro j s⟨l,rfl,a,e⟩;go_wp2;go_ret;refine⟨l,rfl,?_,c.trans e⟩;rw[aU,i.out]at a;exact a
def DG(l:Steps a)(c:eJ a b d o)(m:b<=z (G a))(p:y o<=35184372088832):cw bF 188 #[d] a λk i=>∃g,k=aO g/\eJ i b g (o++le 4 (mr o))/\eR a i d g:=by
 have j:=zA o;have c1:=BF o;go_in
 go_wp2_with fail
 apply(sk d o a l c.bytes<|by omega).mono;rintro k q⟨rfl,rfl⟩;go_wp2_with fail
 apply(jx (mr o) c m (by omega) j c1).mono;rintro k r⟨n,rfl,e,f⟩;go_wp2;go_ret;exact⟨n,rfl,e,f⟩
def DF(n:X)(w:Y)(b:0<=n)(c:n<=140737488351232):cw bF 223 #[am n] w λe a=>e=aO (am<|n+4)/\a=w:=by
 go_in
 go_wp2;go_ret;exact⟨rfl,rfl⟩
def Rd(w:Y)(c:M)(b:eK)(a:Bool):Prop:=∃v,w.heap[c]?=H (aq #[v,aL a] 376 (0,0))/\Bytes w v b/\∀k,bV v=H k->k<c
def Bytes.grown{c:Option M}(i:Bytes a d o)(k:a.grownBy f c)(h:bV d≠c\/bV d=none):Bytes f d o:=by
 rcases i with⟨rfl,rfl⟩|⟨m,b,e,rfl,g,j⟩;exact .inl ⟨rfl,rfl⟩;refine .inr ⟨m,b,e,rfl,g,λn l=>k.cell (j n l) ?_⟩;rcases h with i|i;exact i;simp[bV]at i
def Bytes.alloc{w:Y}(m:Bytes w d o)(l:Obj):Bytes (ct w l) d o:=by
 rcases m with⟨rfl,rfl⟩|⟨b,a,c,rfl,e,j⟩;exact .inl ⟨rfl,rfl⟩;refine .inr ⟨b,a,c,rfl,e,λn k=>?_⟩;have h:=j n k;(have g:b<z (G w):=by by_cases i:b<z (G w);exact i;have:w.heap[b]?=none:=eF (by omega);simp[World.cell?,this]at h);rw[<-h];exact cH (w:=w)<|Below.heap_alloc w l b g
def Bytes.take{f b c n:M}{bs:eK}(h:Bytes a (bC f b (y bs) c) bs)(m:n<=y bs):Bytes a (bC f b n c) (bs.take n):=by
 rcases h with⟨h,_⟩|⟨j,e,d,h,i,g⟩;cases h;cases h;(have k:y (bs.take n)=n:=by simp;omega);refine .inr ⟨f,b,c,by rw[k],by omega,λo l=>?_⟩;rw[g o (by omega),lN<|by omega]
def Bytes.BD{f b c n:M}(h:Bytes a (bC f b (y o) c) o)(l:n<=y o):Bytes a (bC f (b+n) (y o-n)<|c-n) (o.drop n):=by
 rcases h with⟨h,_⟩|⟨k,e,d,h,j,g⟩;cases h;cases h;refine .inr ⟨f,b+n,c-n,by simp,by simp;omega,λm i=>?_⟩;simp at i;rw[aV,g (n+m) (by omega),oH]
def Bytes.lt{bs:eK}(n:Bytes a d bs)(b:bs≠[]):∀l,bV d=H l->l<z (G a):=by
 rcases n with⟨rfl,rfl⟩|⟨m,c,g,rfl,k,j⟩;exact absurd rfl b;intro l e;simp[bV]at e;subst e;have h:=j 0 (by cases bs<;>simp_all);by_cases i:m<z (G a);exact i;have:a.heap[m]?=none:=eF (by omega);simp[World.cell?,this]at h
def Rf{a:Addr}(h:bV (I (H a) b c)=H g):a.block=g:=by simpa[bV]using h
def mU(f:Bytes a d o)(c:∀k,bV d=H k->k<z (G a)):cw bF 209 #[d] a λj b=>j=aO (aw<|z<|G a)/\Rd b (z<|G a) o bE/\b=ct a (aq #[d,aL bE] 376):=by
 have fin:∀b,b=ct a (aq #[d,aL bE] 376)->Rd b (z<|G a) o bE:=by rintro b rfl;exact⟨d,fw _ _,f.alloc _,c⟩
 have F:Hid (∀b,b=ct a (aq #[d,aL bE] 376)->Rd b (z<|G a) o bE):=fin;clear fin;rcases f with⟨rfl,rfl⟩|⟨m,e,g,rfl,i,l⟩;(.clear c;(go_in);go_wp2;go_ret;exact⟨rfl,F.out _ rfl,rfl⟩);clear c;(go_in);go_wp2;go_ret;exact⟨rfl,F.out _ rfl,rfl⟩
def jP(a:eK)(b:Bool)(n:M):eK×Bool×eK:=if b=bU\/y a<n then(a,bU,[])else(a.drop n,bE,a.take n)
def Rd.short(f:a.heap[b]?=H (aq #[d,aL D] 376 (0,0)))(e:Bytes a d o)(c:∀k,bV d=H k->k<b):Rd (bZ a (R b 1)<|aL bU) b o bU:=⟨d,by rw[aQ f];rfl,e.grown (cW a b 1 _)<|.inl<|λg=>kS _<|c _ g,c⟩
def Rd.TX(f:a.heap[b]?=H (aq #[d,aL D] 376 (0,0)))(e:Bytes a s o)(c:∀k,bV s=H k->k<b):Rd (bZ a (R b 0) s) b o D:=⟨s,by rw[aQ f];rfl,e.grown (cW a b 0 _)<|.inl<|λg=>kS _<|c _ g,c⟩
def JY(n:M)(h:Rd a b o D)(hr:y o<=140737488351232)(hn:n<=1000000):cw bF 276 #[aw b,am n] a λp F=>∃E,p=aO E/\Rd F b (jP o D n).1 (jP o D n).2.1/\Bytes F E (jP o D n).2.2/\bV E≠H b/\a.grownBy F (H b):=by
 obtain⟨V,k,w,r⟩:=h;have u:Hid (Bytes a V o):=w;have O:=cellAt k 0 rfl;have P:=cellAt k 1 rfl;have Q:=dJ (i:=0) k;have S:=dJ (i:=1) k;have v:Hid (a.heap[b]?=H (aq #[V,aL D] 376 (0,0))):=k;have g:Hid (∀T,bV V=H T->T<b):=r;clear k r;by_cases e:D=bU\/y o<n
 .have f:Hid (jP o D n=(o,bU,[])):=by unfold Hid jP;rw[dw e]
  have fin:Rd (bZ a (R b 1)<|aL bU) b o bU/\a.grownBy (bZ a (R b 1)<|aL bU) (H b):=⟨Rd.short v.out u.out g.out,cW _ _ _ _⟩;have j:Hid (Rd (bZ a (R b 1)<|aL bU) b o bU/\a.grownBy (bZ a (R b 1)<|aL bU) (H b)):=fin;clear fin;have t:Bytes (bZ a (R b 1)<|aL bU) aK []:=.inl ⟨rfl,rfl⟩;have l:Hid (Bytes (bZ a (R b 1)<|aL bU) aK []):=t;clear t;cases D with
  |true=>
   clear e w;go_in
   go_wp2;go_ret;exact⟨_,rfl,by rw[f.out];exact j.out.1,by rw[f.out];exact l.out,by simp[bV],j.out.2⟩
  |false=>
   have q:y o<n:=by simpa using e
   clear e;rcases w with⟨rfl,rfl⟩|⟨K,c,d,rfl,C,N⟩;all_goals
    go_in
    go_wp2;go_ret;exact⟨_,rfl,by rw[f.out];exact j.out.1,by rw[f.out];exact l.out,by simp[bV],j.out.2⟩
 (have f:Hid (jP o D n=(o.drop n,bE,o.take n)):=by unfold Hid jP;rw[cY e]);obtain⟨L,q⟩:=not_or.1 e;(obtain rfl:D=bE:=by simpa using L);clear e L;rcases w with⟨rfl,rfl⟩|⟨K,c,d,rfl,C,N⟩;(·(obtain rfl:n=0:=by simpa using q);have t:Bytes a aK []:=.inl ⟨rfl,rfl⟩;have j:=Rd.TX v.out t g.out;have m:=U j;clear j t;(go_in);go_wp2;go_ret;exact⟨_,rfl,by rw[f.out];exact m,by rw[f.out];exact .inl ⟨rfl,rfl⟩,λp=>kS _<|g.out _ p,cW _ _ _ _⟩);by_cases B:d=n;(.subst B;(have x:o.drop d=[]:=by simp;omega);(have W:y o=d:=by omega);have l:Bytes a (bC K c 0 0) (o.drop d):=.inr ⟨K,c,0,by rw[x];rfl,by rw[x];simp,λT b=>by rw[x]at b;simp at b⟩;have s:=(Bytes.take u.out (n:=d)<|by omega).grown (cW a b 0<|bC K c 0 0)<|.inl<|λp=>kS _<|g.out _ p;have j:=Rd.TX v.out l g.out;have A:=U s;have m:=U j;clear l s j x;(go_in);go_wp2;go_ret;exact⟨_,rfl,by rw[f.out];exact m,by rw[f.out];exact A,λp=>kS _<|g.out _ p,cW _ _ _ _⟩);have l:=Bytes.BD u.out (n:=n) (by omega);have s:=(Bytes.take u.out (n:=n)<|by omega).grown (cW a b 0<|bC K (c+n) (y o-n)<|d-n)<|.inl<|λp=>kS _<|g.out _ p;have j:=Rd.TX v.out l g.out;obtain⟨x,A,m⟩:=dB l s j;clear l s j;(go_in);go_wp2;go_ret;exact⟨_,rfl,by rw[f.out];exact m,by rw[f.out];exact A,λp=>kS _<|g.out _ p,cW _ _ _ _⟩
def kw(a:eK):Prop:=∀x∈a,0<=x/\x<256
def kw.take{bs:eK}(h:kw bs)(n:M):kw (bs.take n):=λx a=>h x<|eC a
def kw.drop(h:kw o)(n:M):kw (o.drop n):=λx a=>h x<|dl a
def kw.append{b:eK}(h:kw o)(k:kw b):kw (o++b):=λx a=>(ak.1 a).elim (h x)<|k x
def kw.Ag{shortqq:Bool}{n:M}(h:kw o):kw (jP o shortqq n).1/\kw (jP o shortqq n).2.2:=by
 unfold jP;split;exact⟨h,λx a=>by cases a⟩;exact⟨h.drop n,h.take n⟩
def vI(b:eK)(a:Bool)(n:M):y (jP b a n).1<=y b/\y (jP b a n).2.2<=n:=by
 unfold jP;split;exact⟨ah _,bw _⟩;simp;omega
def kw.le(k:M):∀n,kw (le k n):=by
 induction k with
 |zero=>intro n x a;cases a
 |succ k b=>
  intro n x a;rcases aA.1 a with rfl|a
  .omega
  .exact b _ x a
def kw.text(s:ab):kw (kC s):=by
 intro x a;obtain⟨b,_,rfl⟩:=aY.1 a;have:=b.toNat_lt;omega
def mi:eK->X
 |[]=>0
 |x::r=>x+256*mi r
def tW:∀(l:eK),kw l->0<=mi l/\mi l<256^y l
 |[],_=>by simp[mi]
 |x::r,h=>by
  have a:=h x<|.head _;have c:=tW r<|λa b=>h a<|.tail _ b;simp only[mi,ay,zK];omega
def EC:∀(l:eK)(x:X),mi (l++[x])=mi l+x*256^y l
 |[],x=>by simp[mi]
 |yqq::r,x=>by
  simp only[cq,mi,ay,zK,EC r x];have e:256*(x*256^y r)=x*(256^y r*256):=by rw[Int.mul_left_comm,Int.mul_comm 256]
  rw[Int.mul_add,e];omega
def Ao:∀(k:M)(n:X),0<=n->mi (le k n)=n%256^k
 |0,n,_=>by simp[mi,le]
 |k+1,n,h=>by
  simp only[le,mi,Ao k (n/256) (by omega),zK];obtain⟨m,rfl⟩:=uJ h;have:=Nat.mod_mul (x:=m) (a:=256) (b:=256^k);rw[Int.mul_comm (256^k) 256];exact_mod_cast this.symm
def VY(h:kw o)(j:y o<=8)(k:M)(d:k<y o):mi (o.take<|k+1)=bits .or .u64 (mi<|o.take k) (IntKind.u64.wrap<|o[k]*2^(8*k)):=by
 have c:=tW (o.take k)<|h.take k;have e:y (o.take k)=k:=by simp;omega
 rw[ai d,EC,e];rw[e]at c;have m:=h o[k]<|ap d;have i:(256:X)^k=2^(8*k):=by rw[Int.pow_mul];rfl
 rw[i]at c|-;have l:(0:X)<2^(8*k):=Int.pow_pos (by decide);have f:(2:X)^(8*k)*256<=2^64:=by(have:(2:X)^(8*k)*256=2^(8*k+8):=by rw[Int.pow_add];rfl);rw[this];exact_mod_cast Nat.pow_le_pow_right (by decide) (by omega)
 have g:o[k]*2^(8*k)<=255*2^(8*k):=Int.mul_le_mul_of_nonneg_right (by omega) (by omega);have a:0<=o[k]*2^(8*k):=Int.mul_nonneg (by omega) (by omega);have b:o[k]*2^(8*k)<2^64:=by omega
 rw[wraps_u64 _ a b,bits_join_low .u64 64 (by decide) wraps_u64 (8*k) _ _ c.1 c.2 (by omega) a (Int.mul_emod_left _ _) b]
def Eh(n:M)(h:Rd a b o D)(f:kw o)(F:y o<=140737488351232)(P:n<=8):cw bF 248 #[aw b,am n] a λL w=>L=aO (aI<|mi (jP o D n).2.2)/\Rd w b (jP o D n).1 (jP o D n).2.1/\a.grownBy w (H b):=by
 have q:=U f;clear f;go_in
 go_wp2_with fail
 apply(JY n h F<|by omega).mono;rintro L T⟨S,rfl,g,i,j,u⟩;have O:=(vI o D n).2;obtain⟨s,r,p⟩:=dB (q.Ag (shortqq:=D) (n:=n)).2 g u;clear g u j h q;generalize t:(jP o D n).2.2=c at*;have m:=U t;clear t;rcases i with⟨rfl,rfl⟩|⟨V,l,A,rfl,E,C⟩;(.go_wp2;(go_loop [5,12,6,7] (λx v _ _=>v=am 0/\x=aI 0) (λ_ _ _ _=>0));(case atStart=>exact⟨rfl,rfl⟩);(case round=>obtain⟨rfl,rfl⟩:=hrel;go_wp2;go_ret;exact⟨by rw[ae m];rfl,r,p⟩));(.go_wp2;(go_loop [5,12,6,7] (λx v _ _=>∃(k:M),k<=y c/\v=am k/\x=aI (mi<|c.take k)) (λ_ v _ _=>y c-(intOf v).toNat));(case atStart=>exact⟨0,bw _,rfl,rfl⟩);(case round=>obtain⟨k,N,rfl,rfl⟩:=hrel;by_cases e:k<y c;(.have B:=C k e;have Q:=s c[k]<|ap e;have d:=U<|VY s (by omega) k e;generalize mi (c.take k)=K at*;go_wp2;(go_round);(case rel=>exact⟨k+1,by omega,by go_num,by rw[ae d]⟩);case measure=>simp[intOf];omega);go_wp2;go_ret;have d:c.take k=c:=cS (by omega);rw[d];exact⟨by rw[ae m];rfl,r,p⟩))
def Ul(h:kw o)(a:y o<=b):mi o<256^b:=by
 have c:=(tW o h).2;have d:(256:X)^y o<=256^b:=by exact_mod_cast Nat.pow_le_pow_right (by decide) a
 omega
def num(b:eK)(a:Bool)(n:M):X:=mi (jP b a n).2.2
def su(h:kw o):0<=num o D b/\num o D b<256^b:=⟨(tW _ h.Ag.2).1,Ul h.Ag.2 (vI o D b).2⟩
def Ll(h:Rd a b o D)(c:kw o)(j:y o<=140737488351232):cw bF 210 #[aw b] a λk e=>k=aO (aI<|num o D 8)/\Rd e b (jP o D 8).1 (jP o D 8).2.1/\a.grownBy e (H b):=by
 have d:=U h;have f:=U c;clear h c;go_in
 go_wp2_with fail
 apply(Eh 8 d f j<|by omega).mono;rintro k l⟨rfl,g,i⟩;go_wp2;go_ret;exact⟨rfl,g,i⟩
def Eg(n:M)(h:Rd a b o D)(c:kw o)(f:y o<=140737488351232)(e:n<=8):cw bF 248 #[aw b,am n] a λg d=>g=aO (aI<|num o D n)/\Rd d b (jP o D n).1 (jP o D n).2.1/\a.grownBy d (H b):=Eh n h c f e
def Pm{k:IntKind}(h:m=F):Ending.returned (.int k m)=aO (.int k F):=by rw[h]
def JQ(c:M)(a:Bool)(w:Y)(h:Rd w c o a)(b:kw o)(n:y o<=140737488351232):cw bF 211 #[aw c] w λp j=>p=aO (dr<|num o a 4)/\Rd j c (jP o a 4).1 (jP o a 4).2.1/\w.grownBy j (H c):=by
 have l:0<=num o a 4:=(su b).1;have m:num o a 4<4294967296:=(su b).2;have d:=U h;have k:=U b;clear h b;go_in
 go_wp2_with fail
 apply(Eg 4 d k n<|by omega).mono;rintro p q⟨rfl,g,i⟩;have e:=U g;have f:=U i;clear g i;go_wp2;go_ret;exact⟨Pm (by omega),e,f⟩
def Fe(h:Rd a b o D)(c:kw o)(n:y o<=140737488351232):cw bF 216 #[aw b] a λp j=>p=aO (tD<|num o D 1)/\Rd j b (jP o D 1).1 (jP o D 1).2.1/\a.grownBy j (H b):=by
 have l:0<=num o D 1:=(su c).1;have m:num o D 1<256:=(su c).2;have d:=U h;have k:=U c;clear h c;go_in
 go_wp2_with fail
 apply(Eg 1 d k n<|by omega).mono;rintro p q⟨rfl,g,i⟩;have e:=U g;have f:=U i;clear g i;go_wp2;go_ret;exact⟨Pm (by omega),e,f⟩
def Gq(h:Rd a b o D):cw bF 212 #[aw b] a λi g=>i=aO (aL D)/\g=a:=by
 obtain⟨v,d,e,c⟩:=h;have f:=cellAt d 1 rfl;clear d e c;go_in
 go_wp2;go_ret;exact⟨rfl,rfl⟩
def xO(h:Rd a b o D)(p:y o<=140737488351232):cw bF 213 #[aw b] a λm l=>m=aO (aL<|!D&&o.isEmpty)/\l=a:=by
 obtain⟨v,c,g,d⟩:=h;have i:=cellAt c 0 rfl;have j:=cellAt c 1 rfl;clear c d;cases D with
 |true=>
  go_in
  go_wp2;go_ret;exact⟨rfl,rfl⟩
 |false=>
  rcases g with⟨rfl,rfl⟩|⟨s,e,f,rfl,k,n⟩
  .go_in
   go_wp2;go_ret;exact⟨rfl,rfl⟩
  .cases o with
   |nil=>
    go_in
    go_wp2;go_ret;exact⟨rfl,rfl⟩
   |cons x r=>
    have q:((y (x::r):X)==0)=bE:=by simp;omega
    go_in
    go_wp2;go_ret;exact⟨rfl,rfl⟩
def Dq(a:eK):ab:=⟨(a.map λx=>UInt8.ofNat x.toNat).toArray⟩
def vH(s:ab):Dq (kC s)=s:=by
 have e:((λx:X=>UInt8.ofNat x.toNat)∘λb:UInt8=>(b.toNat:X))=id:=by funext b;simp
 unfold Dq kC;rw[iR,e,List.map_id]
def Do(b:eK)(a:Bool):eK×Bool×eK:=let c:=jP b a 1;jP c.1 c.2.1 (num b a 1).toNat
def OK(g:Bytes a d o)(f:kw o):(convert 126 9 d).run bF a=.ok (J<|Dq o) a:=by
 rcases g with⟨rfl,rfl⟩|⟨k,b,e,rfl,i,h⟩;exact Lib.run_convert_nil_bytes a _ _ 5 0 underlying126 underlying5 underlying9;have:=vu (P:=bF) a 126 9 5 (R k b) e (o.map λx=>UInt8.ofNat x.toNat) underlying126 underlying5 underlying9 (λj c=>by simp at c;rw[du,h j c];have l:=f o[j]<|ap c;simp[c];omega);simpa[Dq]using this
def Dp(h:Rd a b o D)(c:kw o)(K:y o<=140737488351232):cw bF 249 #[aw b] a λA u=>A=aO (J<|Dq (Do o D).2.2)/\Rd u b (Do o D).1 (Do o D).2.1/\a.grownBy u (H b):=by
 have j:0<=num o D 1:=(su c).1;have C:num o D 1<256:=(su c).2;have d:=U h;have l:=U c;clear h c;go_in
 go_wp2_with fail
 apply(Fe d l K).mono;rintro A O⟨rfl,n,p⟩;have e:=U n;have f:=U p;clear n p;obtain⟨v,k⟩:=uJ j;have t:(Do o D)=jP (jP o D 1).1 (jP o D 1).2.1 v:=by unfold Do;simp[k]
 have L:=(vI o D 1).1;have m:=U t;have w:=U (l.Ag (shortqq:=D) (n:=1)).1;have F:v<256:=by omega
 have x:=U k;clear t k;go_wp2_with fail
 rw[ae x];apply(JY v e (by omega)<|by omega).mono;rintro A P⟨N,rfl,q,r,B,s⟩;have E:=OK r w.Ag.2;have g:=U q;have i:=U s;clear q r B s;go_wp2;go_ret;exact⟨by rw[ae m];rfl,by rw[ae m];exact g,xI f i⟩
def Bytes.of_heap{w w':Y}(i:Bytes w d o)(k:w'.heap=w.heap):Bytes w' d o:=by
 rcases i with⟨rfl,rfl⟩|⟨j,b,e,rfl,g,h⟩;exact .inl ⟨rfl,rfl⟩;exact .inr ⟨j,b,e,rfl,g,λl i=>by rw[<-h l i];exact cH (w:=w)<|by rw[k]⟩
def Rd.of_heap{w w':Y}(i:Rd w b o D)(h:w'.heap=w.heap):Rd w' b o D:=by
 obtain⟨v,d,e,g⟩:=i;exact⟨v,by rw[h];exact d,e.of_heap h,g⟩
def Steps.of_heap{w w':Y}(h:Steps w)(e:w'.heap=w.heap):Steps w':=λk b=>by
 rw[<-h k b];exact cH (w:=w)<|by rw[e]
def Steps.grown{b:Option M}(h:Steps a)(d:a.grownBy f b)(c:b≠H 1):Steps f:=λk e=>d.cell (h k e)<|λg=>c g.symm
def Steps.alloc{w:Y}(h:Steps w)(o:Obj):Steps (ct w o):=λk e=>by
 have c:=h k e;have a:1<z (G w):=by by_cases d:1<z (G w);exact d;have:w.heap[(1:M)]?=none:=eF (by omega);simp[World.cell?,this]at c
 rw[<-c];exact cH (w:=w)<|Below.heap_alloc w o _ a
def Steps.lt(h:Steps a):1<z (G a):=by
 have b:=h 0 (by decide);by_cases c:1<z (G a);exact c;have:a.heap[(1:M)]?=none:=eF (by omega);simp[World.cell?,this]at b
def Jz(b c:ab):(b==c)=decide (b=c):=by
 obtain⟨x⟩:=b;obtain⟨a⟩:=c;show(x==a)=_;by_cases h:x=a;simp[h];simp[h]
abbrev fg:=cr<|ab×aa
def fg.get(m:fg)(k:ab):Option aa:=match m with
 |[]=>none
 |p::r=>if p.1=k then H p.2 else fg.get r k
def Fits(a:cr MapEntry)(m:fg):Prop:=a.map (λe=>(e.key,e.val))=m.map (λp=>(J p.1,p.2))
def Fits.cons_inv{e:MapEntry}{a:cr MapEntry}{m:fg}(h:Fits (e::a) m):∃p r,m=p::r/\e.key=J p.1/\e.val=p.2/\Fits a r:=by
 cases m with
 |nil=>simp[Fits]at h
 |cons p r=>
  simp[Fits]at h;exact⟨p,r,rfl,h.1.1,h.1.2,h.2⟩
def Ji(k:ab):∀(a:cr MapEntry)(m:fg)(i:M),Fits a m->∃l,Instr.findNow .string (J k) a i=H ((m.get k).map λv=>(l,v)):=by
 intro a;induction a with
 |nil=>
  intro m i h;obtain rfl:m=[]:=by simpa[Fits]using h
  exact⟨0,rfl⟩
 |cons n a j=>
  intro m i h;obtain⟨p,r,rfl,d,g,f⟩:=h.cons_inv;by_cases c:p.1=k
  .refine⟨i,?_⟩;simp[Instr.findNow,Instr.sameNow,d,fg.get,c,g,Jz]
  .obtain⟨l,e⟩:=j r (i+1) f;refine⟨l,?_⟩;have b:(k==p.1)=bE:=by rw[Jz];simpa usingλn:k=p.1=>c n.symm
   simp[Instr.findNow,Instr.sameNow,d,fg.get,c,b,e]
def gF(w:Y)(c:M)(m:fg):Prop:=∃b a,w.heap[c]?=H (.map b a)/\Fits b.toList m/\MapKept.Stamped b a
def tR{P:Program}{mt l i n:M}{m:fg}{u:TypeInfo}(s:P.underlying mt=H (.map l i))(j:P.underlying l=H .string)(q:P.info? i=H u)(t:u.zero=H d)(v:gF a n m)(k:ab):(Instr.lookup mt (.map<|H n) (J k) bE).run P a=.ok ((m.get k).getD d) a:=by
 obtain⟨c,b,p,o,_⟩:=v;obtain⟨w,r⟩:=Ji k c.toList m 0 o;have e:=eL (P:=P) (w:=a) (k:=J k) j (by trivial) c.isEmpty 9999;have g:=eH (P:=P) (w:=a) j r;have h:(getObj n).run P a=.ok (.map c b) a:=by simp[getObj,Sem.run,p]
 unfold Instr.lookup;rw[jW,eB s];simp only[jp,jW,h,pJ];rw[show(10000:M)=9999+1 from rfl,e];simp only[jp,g];cases hg:m.get k with
 |none=>simp[zeroValue,typeInfo,q,t]
 |some x=>simp
section
open Go.ChangeMaps (setBlock)
def fg.put(m:fg)(k:ab)(v:aa):fg:=match m with
 |[]=>[(k,v)]
 |p::r=>if p.1=k then(k,v)::r else p::fg.put r k v
def fg.del(m:fg)(k:ab):fg:=match m with
 |[]=>[]
 |p::r=>if p.1=k then r else p::fg.del r k
theorem Fits.cons{e:MapEntry}{b:cr MapEntry}{p:ab×aa}{m:fg}(d:e.key=J p.1)(f:e.val=p.2)(h:Fits b m):Fits (e::b) (p::m):=by
 simp[Fits,d,f];exact h
theorem Hh(k:ab):∀(d:cr MapEntry)(m:fg)(s:M),Fits d m->(Instr.findNow .string (J k) d s=H none/\m.get k=none/\(∀e∈d,e.key≠J k)/\m.del k=m/\∀v,m.put k v=m++[(k,v)])\/∃t e,Instr.findNow .string (J k) d s=H (H (s+t,e.val))/\d[t]?=H e/\e.key=J k/\m.get k=H e.val/\(∀v,Fits (d.modify t λe=>{e with key:=J k,val:=v})<|m.put k v)/\Fits (d.eraseIdx t) (m.del k):=by
 intro d;induction d with
 |nil=>
  intro m s x;obtain rfl:m=[]:=by simpa[Fits]using x
  exact .inl ⟨rfl,rfl,by simp,rfl,λ_=>rfl⟩
 |cons e d B=>
  intro m s x;obtain⟨C,D,rfl,f,q,p⟩:=x.cons_inv;by_cases b:C.1=k
  .refine .inr ⟨0,e,?_,rfl,by rw[f,b],?_,?_,?_⟩
   .simp[Instr.findNow,Instr.sameNow,f,b,Jz]
   .simp[fg.get,b,q]
   .intro v;simp only[fg.put,b,jf,qu];exact Fits.cons rfl rfl p
   .simpa[fg.del,b]using p
  .have g:(k==C.1)=bE:=by rw[Jz];simpa usingλe:k=C.1=>b e.symm
   rcases B D (s+1) p with⟨h,i,j,l,n⟩|⟨t,u,h,i,j,l,n,A⟩
   .refine .inl ⟨?_,?_,?_,?_,?_⟩
    .simp[Instr.findNow,Instr.sameNow,f,g,h]
    .simp[fg.get,b,i]
    .intro E r;rcases aA.1 r with rfl|r
     .rw[f];simpa using b
     .exact j E r
    .simp[fg.del,b,l]
    .intro v;simp[fg.put,b,n]
   .refine .inr ⟨t+1,u,?_,by simpa using i,j,?_,?_,?_⟩
    .simp[Instr.findNow,Instr.sameNow,f,g,h];omega
    .simp[fg.get,b,l]
    .intro v;simp only[fg.put,b,ke,mV];exact Fits.cons f q<|n v
    .simp only[fg.del,b,ke,uH];exact Fits.cons f q A
theorem iP(w:Y)(d:M)(o:Obj):w.grownBy (setBlock w d o) (H d):=⟨rfl,rfl,rfl,by simp[setBlock],λk _ b=>by
 simp only[setBlock];rw[jF (λe=>b (by rw[e]))]⟩
theorem Cc{P:Program}{w:Y}{mt v A q:M}{B:fg}(u:P.underlying mt=H (.map v A))(j:P.underlying v=H .string)(E:gF w q B)(l:ab)(x:aa):∃k,(Instr.mapUpdate mt (.map<|H q) (J l) x).run P w=.ok () k/\gF k q (B.put l x)/\w.grownBy k (H q)/\z (G k)=z (G w):=by
 obtain⟨h,b,g,p,t⟩:=E;have f:=jr (P:=P) g;rcases Hh l h.toList B 0 p with⟨m,r,i,_,n⟩|⟨C,e,m,r,i,F,n,_⟩;refine⟨setBlock w q<|.map (h.push {key:=J l,val:=x,born:=b})<|b+1,?_,?_,iP _ _ _,by simp[setBlock]⟩;simp[Instr.mapUpdate,eB u,f,eL j (show MapKept.IsKey .string (J l)by trivial),eH j m,fA _ g,Result.andThen,setBlock];refine⟨_,_,(fJ g).1,?_,rh t i⟩;rw[n];simp[Fits]at p|-;exact p;(have s:h[C]?=H e:=by simpa using r);refine⟨setBlock w q<|.map (h.modify C λe=>{e with key:=J l,val:=x}) b,?_,?_,iP _ _ _,by simp[setBlock]⟩;simp[Instr.mapUpdate,eB u,f,eL j (show MapKept.IsKey .string (J l)by trivial),eH j m,s,i,oh (show MapKept.IsKey .string (J l)by trivial),fA _ g,Result.andThen,setBlock];refine⟨_,_,(fJ g).1,?_,pL t _ _ (λ_ _=>rfl) (λD _ d=>by rw[s]at d;cases d;exact i.symm)⟩;simpa using n x
theorem Kp{P:Program}{w:Y}{mt l t m:M}{B:fg}(r:P.underlying mt=H (.map l t))(g:P.underlying l=H .string)(E:gF w m B)(s:ab)(C:TypeId):∃h,(Builtin.delete_ #[mt,l] C #[.map<|H m,J s]).run P w=.ok (dA #[]) h/\gF h m (B.del s)/\w.grownBy h (H m)/\z (G h)=z (G w):=by
 obtain⟨d,b,f,p,q⟩:=E;have e:=jr (P:=P) f;rcases Hh s d.toList B 0 p with⟨i,j,u,n,v⟩|⟨A,D,i,j,u,n,v,x⟩;refine⟨setBlock w m<|.map d b,?_,?_,iP _ _ _,by simp[setBlock]⟩;simp[Builtin.delete_,eB r,e,eL g (show MapKept.IsKey .string (J s)by trivial),eH g i,fA _ f,Result.andThen,setBlock];rw[n];exact⟨_,_,(fJ f).1,p,q⟩;(have F:d[A]?=H D:=by simpa using j);(have k:A<d.size:=by have:=fq.1 j;simpa using this.1);refine⟨setBlock w m<|.map (d.eraseIdxIfInBounds A) b,?_,?_,iP _ _ _,by simp[setBlock]⟩;simp[Builtin.delete_,eB r,e,eL g (show MapKept.IsKey .string (J s)by trivial),eH g i,fA _ f,Result.andThen,setBlock];refine⟨_,_,(fJ f).1,?_,wz q _⟩;simp only[Array.eraseIdxIfInBounds,k,oE,wF];exact x
theorem gF.kept{w h:Y}{i:M}{n:fg}{d:Option M}(p:gF w i n)(l:w.grownBy h d)(e:H i≠d):gF h i n:=by
 obtain⟨j,b,g,k,m⟩:=p;exact⟨j,b,(l.block i (aj g) e).trans g,k,m⟩
theorem gF.alloc{w:Y}{b:M}{m:fg}(h:gF w b m)(o:Obj):gF (ct w o) b m:=h.kept (dt w o none)<|by simp
theorem gF.lt{w:Y}{d:M}{m:fg}(h:gF w d m):d<z (G w):=by
 obtain⟨_,_,b,_⟩:=h;exact aj b
section
variable{P:Program}(w:Y){c:Array Oper}{rest:cr Oper}{o:Oper}{a:Act}{Q:Exit->Act->Y->Prop}
theorem Di(m:o.guard=none)(i B j:Operand)(A:TypeId)(h:o.op=Op.mapUpdate A i B j)(v D:TypeId)(q:P.underlying A=H (.map v D))(n:P.underlying v=H .string)(k:M)(x:fg)(p:a.eval i=.map (H k))(E:gF w k x)(b:ab)(d:aa)(s:a.eval B=J b)(r:a.eval j=d)(l:∀f,gF f k (x.put b d)->w.grownBy f (H k)->wpList P c Q rest (a.put o.dst iC) f):wpList P c Q (o::rest) a w:=by
 refine kN m λC g=>?_;obtain⟨f,e,t,u,_⟩:=Cc q n E b d;unfold Oper.wp;simp[execOp,h,p,s,r,e,Result.andThen];exact g _ _<|l f t u
theorem Dj(k:o.guard=none)(h x:Operand)(u q:TypeId)(g:o.op=Op.call {callee:=Callee.builtin Builtin.delete,args:=#[h,x],argTypes:=#[u,q]})(A:TypeId)(n:P.underlying u=H (.map q A))(l:P.underlying q=H .string)(i:M)(t:fg)(m:a.eval h=.map (H i))(B:gF w i t)(b:ab)(p:a.eval x=J b)(j:∀e,gF e i (t.del b)->w.grownBy e (H i)->wpList P c Q rest (a.put o.dst<|dA #[]) e):wpList P c Q (o::rest) a w:=by
 refine kN k λv f=>?_;obtain⟨e,d,r,s,_⟩:=Kp n l B b o.type;unfold Oper.wp;simp[execOp,g,resolve,invoke,builtin,m,p,d,Result.andThen];exact f _ _<|j e r s
end
end
def tX:(prog.info? 125).map (λi=>(i.zero,i.size,i.bytes))=H (H<|fh none,1,8):=by kernel_rfl
def og(w:Y)(e g d:M)(f:aa)(c b a:X):Prop:=w.heap[e]?=H (aq #[.map<|H g,.map<|H d,f,am c,am 0,am 0,am b,am a] 73 (0,0))
def yy(h:og a b c g d m F Q):cw bF 147 #[aw b] a λj i=>j=aO (aL bE)/\i=a:=by
 have e:=cellAt h 4 rfl;have f:=cellAt h 5 rfl;clear h;go_in
 go_wp2;go_ret;exact⟨rfl,rfl⟩
def ve{f:X}(t:fg)(e:ab)(r:Addr)(h:og a b c g d m Q f)(n:gF a c t)(k:t.get e=H (fh<|H r)):cw bF 145 #[aw b,J e] a λs q=>s=aO (dA #[fh<|H r,.nilIface])/\q=a:=by
 obtain⟨u,p,j,_,_⟩:=cz tX;have l:=tR underlying70 underlying9 p j n e;rw[k]at l;simp only[gW]at l;have o:=cellAt h 0 rfl;have i:=U h;clear h n k;go_in
 go_wp2_with(first
  |(go_at_call 147;refine(yy i).mono ?_;rintro s v⟨rfl,rfl⟩))
 go_ret2
 exact⟨rfl,rfl⟩
def Sa(r:fg)(e:ab)(h:og a b c g d m F Q)(l:gF a c r)(j:r.get e=none):cw bF 145 #[aw b,J e] a λq p=>q=aO (dA #[fh none,.iface 219<|aw<|z<|G a])/\p=ct a (aq #[J e,am 10] 222):=by
 obtain⟨s,o,i,_,_⟩:=cz tX;have k:=tR underlying70 underlying9 o i l e;rw[j]at k;simp only[uB]at k;have n:=cellAt h 0 rfl;have f:=U h;clear h l j;go_in
 go_wp2_with(first
  |(go_at_call 147;refine(yy f).mono ?_;rintro q t⟨rfl,rfl⟩))
 go_ret2
 exact⟨rfl,rfl⟩
structure JI(w:Y)(g:M)(bs:eK)(safe:X):Prop where
 iH:∃v,w.heap[g]?=H (aq #[v,am safe] 129 (0,0))/\Bytes w v bs/\bV v≠H g
def Bytes.shape(h:Bytes a d o):d=aK/\o=[]\/∃f b c,d=bC f b (y o) c/\y o<=c:=by
 rcases h with h|⟨f,b,c,h,e,_⟩;exact .inl h;exact .inr ⟨f,b,c,h,e⟩
def Tn(w:fg)(e:ab)(t:M)(i:eK)(f:X)(h:og a b c g d m F Q)(p:gF a c w)(n:w.get e=H (aw t))(q:JI a t i f)(B:y i<=140737488351232):cw bF 154 #[aw b,J e] a λA x=>A=aO (dA #[am<|y i,.nilIface])/\x=a:=by
 obtain⟨E,o,l,_⟩:=q.iH;have u:=cellAt o 0 rfl;have r:=U<|ve w e (R t 0) h p n;have j:=l.shape;clear q o l h p n;rcases j with⟨rfl,rfl⟩|⟨D,k,s,rfl,v⟩
 all_goals
  go_in
  go_wp2_with(first
   |(go_at_call 145;refine r.mono ?_;rintro A C⟨rfl,rfl⟩))
  go_ret2
  exact⟨rfl,rfl⟩
def Qw(k:fg)(e:ab)(h:og a b c g d m F Q)(i:gF a c k)(f:k.get e=none):cw bF 154 #[aw b,J e] a λn l=>n=aO (dA #[am 0,.iface 219<|aw<|z<|G a])/\l=ct a (aq #[J e,am 10] 222):=by
 have j:=U<|Sa k e h i f;clear h i f;go_in
 go_wp2_with(first
  |(go_at_call 145;refine j.mono ?_;rintro n o⟨rfl,rfl⟩))
 go_ret2
 exact⟨rfl,rfl⟩
def Th(E:fg)(e:ab)(n:M)(f:eK)(l:X)(h:og a b c g d m F Q)(s:gF a c E)(r:E.get e=H (aw n))(t:JI a n f l)(L:y f<=140737488351232):cw bF 91 #[aw b,J e] a λK u=>K=aO .nilIface/\JI u n f (y f)/\u=bZ a (R n 1) (am<|y f):=by
 obtain⟨N,k,o,j⟩:=t.iH;have A:=cellAt k 0 rfl;have C:=dJ (i:=1) k;have B:=cellAt k 1 rfl;have w:=U<|ve E e (R n 0) h s r;have v:=U<|show JI (bZ a (R n 1)<|am<|y f) n f (y f)from⟨N,by rw[aQ k];rfl,o.grown (cW a n 1 _)<|.inl j,j⟩;have p:=o.shape;clear t k o h s r j;rcases p with⟨rfl,rfl⟩|⟨P,q,x,rfl,D⟩
 all_goals
  go_in
  go_wp2_with(first
   |(go_at_call 145;refine w.mono ?_;rintro K O⟨rfl,rfl⟩))
  go_ret;exact⟨rfl,v,rfl⟩
section
open Go.ChangeMaps (setBlock)
def qt(w:Y)(h r:M)(m left:fg):Prop:=∃e d c seen g,w.heap[h]?=H (.map e d)/\Fits e.toList m/\MapKept.Stamped e d/\w.heap[r]?=H (.mapIter (H h) c seen g)/\(∀x∈e.toList,x.born<c)/\c<=g/\c<=d/\Fits (leftOf e seen).toList left
theorem qt.ne{w:Y}{g r:M}{m left:fg}(j:qt w g r m left):r≠g:=by
 obtain⟨i,c,_,_,_,e,_,_,d,_⟩:=j;intro h;rw[h,e]at d;cases d
theorem qt.lt{w:Y}{e r:M}{m left:fg}(h:qt w e r m left):r<z (G w):=by
 obtain⟨g,c,_,_,_,_,_,_,d,_⟩:=h;exact aj d
theorem qt.kept{w e:Y}{g r:M}{s left:fg}(t:qt w g r s left)(p:e.heap[g]?=w.heap[g]?)(q:e.heap[r]?=w.heap[r]?):qt e g r s left:=by
 obtain⟨i,c,d,seen,h,j,k,l,m,n⟩:=t;exact⟨i,c,d,seen,h,p.trans j,k,l,q.trans m,n⟩
theorem Fits.split{e:cr MapEntry}{n:fg}{d c:cr MapEntry}{h:MapEntry}(i:Fits e n)(m:e=d++h::c):∃a p g,n=a++p::g/\Fits d a/\h.key=J p.1/\h.val=p.2/\Fits c g:=by
 subst m;unfold Fits at i;rw[aM,aX]at i;obtain⟨a,q,rfl,j,k⟩:=ix.1 i.symm;obtain⟨p,g,rfl,f,l⟩:=nn.1 k;exact⟨a,p,g,rfl,j.symm,(bS Prod.fst f).symm,(bS Prod.snd f).symm,l.symm⟩
theorem Fits.append{c d:cr MapEntry}{m n:fg}(h:Fits c m)(k:Fits d n):Fits (c++d) (m++n):=by
 unfold Fits at*;rw[aM,aM,h,k]
theorem GR{d:Array MapEntry}{seen:Array M}{f e:cr MapEntry}{h:MapEntry}(m:(d.toList.map (·.born)).Nodup)(n:(leftOf d seen).toList=f++h::e):(leftOf d<|seen.push h.born).toList=f++e:=by
 have i:(leftOf d<|seen.push h.born).toList=(leftOf d seen).toList.filter (λx=>!(x.born==h.born)):=by simp only[leftOf,Array.toList_filter,List.filter_filter];congr 1;funext x;simp[Bool.and_comm];rfl
 have c:((leftOf d seen).toList.map (·.born)).Nodup:=by(have:(leftOf d seen).toList.Sublist d.toList:=by simp[leftOf]);exact sI (this.map _) m
 rw[i,n];rw[n]at c;simp only[aM,aX]at c;obtain⟨_,j,k⟩:=jt.1 c;obtain⟨l,_⟩:=kH.1 j;rw[iW,de<|by simp];congr 1;refine eX.2<|λx g=>?_;have:=k x.born (aY.2 ⟨x,g,rfl⟩) h.born (by simp);simpa using this;refine eX.2<|λx g=>?_;have:x.born≠h.born:=λc=>l (by rw[<-c];exact aY.2 ⟨x,g,rfl⟩);simpa using this
theorem Ni{P:Program}{w:Y}{mt k h g:M}{m:fg}(l:P.underlying mt=H (.map k h))(n:gF w g m):∃e,(Instr.range mt<|.map<|H g).run P w=.ok (aw<|z<|G w) e/\qt e g (z<|G w) m m/\w.grownBy e none/\z (G e)=z (G w)+1:=by
 obtain⟨d,c,f,i,j⟩:=n;refine⟨_,run_range_map w mt k h g d c l f,⟨d,c,c,#[],c,((oG w _).2 g<|aj f).trans f,i,j,(oG w _).1,j.1,ah _,ah _,?_⟩,dt w _ none,by simp⟩;have:leftOf d #[]=d:=by simp[leftOf]
 rw[this];exact i
theorem QG{P:Program}{w:Y}{v r:M}{ad left:fg}(ac:qt w v r ad left)(N:TypeId):(left=[]/\(Instr.next (aw r) bE N).run P w=.ok (dA #[aL bE]) w)\/∃m L g p,left=m++L::g/\(Instr.next (aw r) bE N).run P w=.ok (dA #[aL bU,J L.1,L.2]) p/\qt p v r ad (m++g)/\w.grownBy p (H r)/\z (G p)=z (G w)/\(Instr.entry<|aw r).run P p=.ok (dA #[J L.1,L.2]) p:=by
 have D:=ac.ne;obtain⟨l,c,d,seen,O,S,hf,E,V,k,F,t,C⟩:=ac;rcases run_next_at (P:=P) w N r v d O seen l c V S k F with⟨h0,f⟩|⟨x,T,A,h,f⟩;refine .inl ⟨?_,f⟩;(have:(leftOf l seen).toList=[]:=by simpa using qG h0);rw[this]at C;simpa[Fits]using C;obtain⟨m,g,u⟩:=sH T;obtain⟨a,L,al,rfl,ha,n,W,hc⟩:=C.split u;(have i:A.heap=w.heap:=by rcases h with rfl|rfl<;>rfl);(have s:A.heap[r]?=H (.mapIter (H v) d seen O):=by rw[i];exact V);have j:(setBlock A r<|.mapIter (H v) d (seen.push x.born) c).heap[r]?=H (.mapIter (H v) d (seen.push x.born) c):=(fJ s).1;have e:∀K,K≠r->(setBlock A r<|.mapIter (H v) d (seen.push x.born) c).heap[K]?=w.heap[K]?:=λK n=>((fJ s).2 K n).trans (by rw[i]);have q:=(e v<|λx=>D x.symm).trans S;(have B:x∈l.toList:=by(have:(leftOf l seen).toList.Sublist l.toList:=by simp[leftOf]);exact this.subset T);refine .inr ⟨a,L,al,_,rfl,by rw[<-n,<-W];exact f,⟨l,c,d,_,c,q,hf,E,j,k,t,t,by rw[GR E.2.1 u];exact ha.append hc⟩,⟨?_,?_,?_,?_,λK _ n=>e K<|λx=>n<|by rw[x]⟩,?_,?_⟩;rcases h with rfl|rfl<;>rfl;rcases h with rfl|rfl<;>rfl;rcases h with rfl|rfl<;>rfl;simp[setBlock,i];simp[setBlock,i];rw[<-n,<-W];exact run_entry_at _ r v d seen l c x j q B E.2.1
section
variable{P:Program}(w:Y){b:Array Oper}{rest:cr Oper}{o:Oper}{a:Act}{Q:Exit->Act->Y->Prop}
theorem ui(k:o.guard=none)(h:Operand)(t:TypeId)(g:o.op=Op.range t h)(x u:TypeId)(m:P.underlying t=H (.map x u))(i:M)(n:fg)(l:a.eval h=.map (H i))(v:gF w i n)(j:∀c,qt c i (z<|G w) n n->w.grownBy c none->z (G c)=z (G w)+1->wpList P b Q rest (a.put o.dst<|aw<|z<|G w) c):wpList P b Q (o::rest) a w:=by
 refine kN k λs e=>?_;obtain⟨c,d,p,q,r⟩:=Ni m v;unfold Oper.wp;simp[execOp,g,l,d,Result.andThen];exact e _ _<|j c p q r
theorem vD(u:o.guard=none)(l:Operand)(k:o.op=Op.next l bE)(x r:M)(A left:fg)(qM:a.eval l=aw r)(C:qt w x r A left)(h:left=[]->wpList P b Q rest (a.put o.dst<|dA #[aL bE]) w)(i:∀e p c g,left=e++p::c->qt g x r A (e++c)->w.grownBy g (H r)->z (G g)=z (G w)->(Instr.entry<|aw r).run P g=.ok (dA #[J p.1,p.2]) g->wpList P b Q rest (a.put o.dst<|dA #[aL bU,J p.1,p.2]) g):wpList P b Q (o::rest) a w:=by
 refine kN u λB j=>?_;unfold Oper.wp;rcases QG (P:=P) C o.type with⟨m,d⟩|⟨e,p,c,g,v,d,n,q,s,t⟩;simp[execOp,k,qM,d,Result.andThen];exact j _ _<|h m;simp[execOp,k,qM,d,Result.andThen];exact j _ _<|i e p c g v n q s t
end
end
section
open Go.ChangeMaps (setBlock)
abbrev fH:=cr<|X×aa
def fH.get(m:fH)(k:X):Option aa:=match m with
 |[]=>none
 |p::r=>if p.1=k then H p.2 else fH.get r k
def jz(b:cr MapEntry)(m:fH):Prop:=b.map (λe=>(e.key,e.val))=m.map (λp=>(am p.1,p.2))
theorem jz.nil:jz [] []:=rfl
theorem jz.cons_inv{e:MapEntry}{b:cr MapEntry}{m:fH}(h:jz (e::b) m):∃p r,m=p::r/\e.key=am p.1/\e.val=p.2/\jz b r:=by
 cases m with
 |nil=>simp[jz]at h
 |cons p r=>
  simp[jz]at h;exact⟨p,r,rfl,h.1.1,h.1.2,h.2⟩
theorem FT(k:X):∀(b:cr MapEntry)(m:fH)(i:M),jz b m->∃p,Instr.findNow (.int .i64) (am k) b i=H ((m.get k).map λv=>(p,v)):=by
 intro b;induction b with
 |nil=>
  intro m i h;obtain rfl:m=[]:=by simpa[jz]using h
  exact⟨0,rfl⟩
 |cons r b n=>
  intro m i h;obtain⟨q,s,rfl,f,l,j⟩:=h.cons_inv;by_cases e:q.1=k
  .refine⟨i,?_⟩;simp[Instr.findNow,Instr.sameNow,f,fH.get,e,l]
  .obtain⟨p,g⟩:=n s (i+1) j;refine⟨p,?_⟩;have d:(k==q.1)=bE:=by simpa usingλr:k=q.1=>e r.symm
   simp[Instr.findNow,Instr.sameNow,f,fH.get,e,d,g]
def jw(w:Y)(e:M)(m:fH):Prop:=∃d b,w.heap[e]?=H (.map d b)/\jz d.toList m/\MapKept.Stamped d b
def fH.put(m:fH)(k:X)(v:aa):fH:=match m with
 |[]=>[(k,v)]
 |p::r=>if p.1=k then(k,v)::r else p::fH.put r k v
def fH.del(m:fH)(k:X):fH:=match m with
 |[]=>[]
 |p::r=>if p.1=k then r else p::fH.del r k
theorem jz.cons{e:MapEntry}{b:cr MapEntry}{p:X×aa}{m:fH}(d:e.key=am p.1)(f:e.val=p.2)(h:jz b m):jz (e::b) (p::m):=by
 simp[jz,d,f];exact h
theorem EP(k:X):∀(d:cr MapEntry)(m:fH)(s:M),jz d m->(Instr.findNow (.int .i64) (am k) d s=H none/\m.get k=none/\(∀e∈d,e.key≠am k)/\m.del k=m/\∀v,m.put k v=m++[(k,v)])\/∃t e,Instr.findNow (.int .i64) (am k) d s=H (H (s+t,e.val))/\d[t]?=H e/\e.key=am k/\m.get k=H e.val/\(∀v,jz (d.modify t λe=>{e with key:=am k,val:=v})<|m.put k v)/\jz (d.eraseIdx t) (m.del k):=by
 intro d;induction d with
 |nil=>
  intro m s x;obtain rfl:m=[]:=by simpa[jz]using x
  exact .inl ⟨rfl,rfl,by simp,rfl,λ_=>rfl⟩
 |cons e d B=>
  intro m s x;obtain⟨C,D,rfl,f,q,p⟩:=x.cons_inv;by_cases b:C.1=k
  .refine .inr ⟨0,e,?_,rfl,by rw[f,b],?_,?_,?_⟩
   .simp[Instr.findNow,Instr.sameNow,f,b]
   .simp[fH.get,b,q]
   .intro v;simp only[fH.put,b,jf,qu];exact jz.cons rfl rfl p
   .simpa[fH.del,b]using p
  .have g:(k==C.1)=bE:=by simpa usingλe:k=C.1=>b e.symm
   rcases B D (s+1) p with⟨h,i,j,l,n⟩|⟨t,u,h,i,j,l,n,A⟩
   .refine .inl ⟨?_,?_,?_,?_,?_⟩
    .simp[Instr.findNow,Instr.sameNow,f,g,h]
    .simp[fH.get,b,i]
    .intro E r;rcases aA.1 r with rfl|r
     .rw[f];simpa using b
     .exact j E r
    .simp[fH.del,b,l]
    .intro v;simp[fH.put,b,n]
   .refine .inr ⟨t+1,u,?_,by simpa using i,j,?_,?_,?_⟩
    .simp[Instr.findNow,Instr.sameNow,f,g,h];omega
    .simp[fH.get,b,l]
    .intro v;simp only[fH.put,b,ke,mV];exact jz.cons f q<|n v
    .simp only[fH.del,b,ke,uH];exact jz.cons f q A
theorem Kn{P:Program}{w:Y}{mt v A q:M}{B:fH}(u:P.underlying mt=H (.map v A))(j:P.underlying v=H (.int .i64))(E:jw w q B)(l:X)(x:aa):∃k,(Instr.mapUpdate mt (.map<|H q) (am l) x).run P w=.ok () k/\jw k q (B.put l x)/\w.grownBy k (H q)/\z (G k)=z (G w):=by
 obtain⟨h,b,g,p,t⟩:=E;have f:=jr (P:=P) g;rcases EP l h.toList B 0 p with⟨m,r,i,_,n⟩|⟨C,e,m,r,i,F,n,_⟩;refine⟨setBlock w q<|.map (h.push {key:=am l,val:=x,born:=b})<|b+1,?_,?_,iP _ _ _,by simp[setBlock]⟩;simp[Instr.mapUpdate,eB u,f,eL j (show MapKept.IsKey (.int .i64) (am l)by rfl),eH j m,fA _ g,Result.andThen,setBlock];refine⟨_,_,(fJ g).1,?_,rh t i⟩;rw[n];simp[jz]at p|-;exact p;(have s:h[C]?=H e:=by simpa using r);refine⟨setBlock w q<|.map (h.modify C λe=>{e with key:=am l,val:=x}) b,?_,?_,iP _ _ _,by simp[setBlock]⟩;simp[Instr.mapUpdate,eB u,f,eL j (show MapKept.IsKey (.int .i64) (am l)by rfl),eH j m,s,i,oh (show MapKept.IsKey (.int .i64) (am l)by rfl),fA _ g,Result.andThen,setBlock];refine⟨_,_,(fJ g).1,?_,pL t _ _ (λ_ _=>rfl) (λD _ d=>by rw[s]at d;cases d;exact i.symm)⟩;simpa using n x
theorem Kq{P:Program}{w:Y}{mt l t m:M}{B:fH}(r:P.underlying mt=H (.map l t))(g:P.underlying l=H (.int .i64))(E:jw w m B)(s:X)(C:TypeId):∃h,(Builtin.delete_ #[mt,l] C #[.map<|H m,am s]).run P w=.ok (dA #[]) h/\jw h m (B.del s)/\w.grownBy h (H m)/\z (G h)=z (G w):=by
 obtain⟨d,b,f,p,q⟩:=E;have e:=jr (P:=P) f;rcases EP s d.toList B 0 p with⟨i,j,u,n,v⟩|⟨A,D,i,j,u,n,v,x⟩;refine⟨setBlock w m<|.map d b,?_,?_,iP _ _ _,by simp[setBlock]⟩;simp[Builtin.delete_,eB r,e,eL g (show MapKept.IsKey (.int .i64) (am s)by rfl),eH g i,fA _ f,Result.andThen,setBlock];rw[n];exact⟨_,_,(fJ f).1,p,q⟩;(have F:d[A]?=H D:=by simpa using j);(have k:A<d.size:=by have:=fq.1 j;simpa using this.1);refine⟨setBlock w m<|.map (d.eraseIdxIfInBounds A) b,?_,?_,iP _ _ _,by simp[setBlock]⟩;simp[Builtin.delete_,eB r,e,eL g (show MapKept.IsKey (.int .i64) (am s)by rfl),eH g i,fA _ f,Result.andThen,setBlock];refine⟨_,_,(fJ f).1,?_,wz q _⟩;simp only[Array.eraseIdxIfInBounds,k,oE,wF];exact x
theorem jw.kept{w h:Y}{i:M}{n:fH}{d:Option M}(p:jw w i n)(l:w.grownBy h d)(e:H i≠d):jw h i n:=by
 obtain⟨j,b,g,k,m⟩:=p;exact⟨j,b,(l.block i (aj g) e).trans g,k,m⟩
theorem jw.alloc{w:Y}{b:M}{m:fH}(h:jw w b m)(o:Obj):jw (ct w o) b m:=h.kept (dt w o none)<|by simp
theorem jw.lt{w:Y}{d:M}{m:fH}(h:jw w d m):d<z (G w):=by
 obtain⟨_,_,b,_⟩:=h;exact aj b
section
variable{P:Program}(w:Y){c:Array Oper}{rest:cr Oper}{o:Oper}{a:Act}{Q:Exit->Act->Y->Prop}
theorem Dk(k:o.guard=none)(h x:Operand)(u q:TypeId)(g:o.op=Op.call {callee:=Callee.builtin Builtin.delete,args:=#[h,x],argTypes:=#[u,q]})(A:TypeId)(n:P.underlying u=H (.map q A))(l:P.underlying q=H (.int .i64))(i:M)(t:fH)(m:a.eval h=.map (H i))(B:jw w i t)(b:X)(p:a.eval x=am b)(j:∀e,jw e i (t.del b)->w.grownBy e (H i)->wpList P c Q rest (a.put o.dst<|dA #[]) e):wpList P c Q (o::rest) a w:=by
 refine kN k λv f=>?_;obtain⟨e,d,r,s,_⟩:=Kq n l B b o.type;unfold Oper.wp;simp[execOp,g,resolve,invoke,builtin,m,p,d,Result.andThen];exact f _ _<|j e r s
end
def qp(w:Y)(g r:M)(m left:fH):Prop:=∃e d b seen f,w.heap[g]?=H (.map e d)/\jz e.toList m/\MapKept.Stamped e d/\w.heap[r]?=H (.mapIter (H g) b seen f)/\(∀x∈e.toList,x.born<b)/\b<=f/\b<=d/\jz (leftOf e seen).toList left
theorem qp.ne{w:Y}{g r:M}{m left:fH}(j:qp w g r m left):r≠g:=by
 obtain⟨i,b,_,_,_,e,_,_,d,_⟩:=j;intro h;rw[h,e]at d;cases d
theorem qp.lt{w:Y}{e r:M}{m left:fH}(h:qp w e r m left):r<z (G w):=by
 obtain⟨g,b,_,_,_,_,_,_,d,_⟩:=h;exact aj d
theorem qp.kept{w e:Y}{g r:M}{s left:fH}(t:qp w g r s left)(p:e.heap[g]?=w.heap[g]?)(q:e.heap[r]?=w.heap[r]?):qp e g r s left:=by
 obtain⟨i,b,d,seen,h,j,k,l,m,n⟩:=t;exact⟨i,b,d,seen,h,p.trans j,k,l,q.trans m,n⟩
theorem jz.split{e:cr MapEntry}{n:fH}{d b:cr MapEntry}{h:MapEntry}(i:jz e n)(m:e=d++h::b):∃a p g,n=a++p::g/\jz d a/\h.key=am p.1/\h.val=p.2/\jz b g:=by
 subst m;unfold jz at i;rw[aM,aX]at i;obtain⟨a,q,rfl,j,k⟩:=ix.1 i.symm;obtain⟨p,g,rfl,f,l⟩:=nn.1 k;exact⟨a,p,g,rfl,j.symm,(bS Prod.fst f).symm,(bS Prod.snd f).symm,l.symm⟩
theorem jz.append{b d:cr MapEntry}{m n:fH}(h:jz b m)(k:jz d n):jz (b++d) (m++n):=by
 unfold jz at*;rw[aM,aM,h,k]
theorem Nj{P:Program}{w:Y}{mt k h g:M}{m:fH}(l:P.underlying mt=H (.map k h))(n:jw w g m):∃e,(Instr.range mt<|.map<|H g).run P w=.ok (aw<|z<|G w) e/\qp e g (z<|G w) m m/\w.grownBy e none/\z (G e)=z (G w)+1:=by
 obtain⟨d,b,f,i,j⟩:=n;refine⟨_,run_range_map w mt k h g d b l f,⟨d,b,b,#[],b,((oG w _).2 g<|aj f).trans f,i,j,(oG w _).1,j.1,ah _,ah _,?_⟩,dt w _ none,by simp⟩;have:leftOf d #[]=d:=by simp[leftOf]
 rw[this];exact i
theorem QH{P:Program}{w:Y}{v r:M}{ad left:fH}(ac:qp w v r ad left)(N:TypeId):(left=[]/\(Instr.next (aw r) bE N).run P w=.ok (dA #[aL bE]) w)\/∃m L g p,left=m++L::g/\(Instr.next (aw r) bE N).run P w=.ok (dA #[aL bU,am L.1,L.2]) p/\qp p v r ad (m++g)/\w.grownBy p (H r)/\z (G p)=z (G w)/\(Instr.entry<|aw r).run P p=.ok (dA #[am L.1,L.2]) p:=by
 have D:=ac.ne;obtain⟨l,b,d,seen,O,S,hf,E,V,k,F,t,C⟩:=ac;rcases run_next_at (P:=P) w N r v d O seen l b V S k F with⟨h0,f⟩|⟨x,T,A,h,f⟩;refine .inl ⟨?_,f⟩;(have:(leftOf l seen).toList=[]:=by simpa using qG h0);rw[this]at C;simpa[jz]using C;obtain⟨m,g,u⟩:=sH T;obtain⟨a,L,al,rfl,ha,n,W,hc⟩:=C.split u;(have i:A.heap=w.heap:=by rcases h with rfl|rfl<;>rfl);(have s:A.heap[r]?=H (.mapIter (H v) d seen O):=by rw[i];exact V);have j:(setBlock A r<|.mapIter (H v) d (seen.push x.born) b).heap[r]?=H (.mapIter (H v) d (seen.push x.born) b):=(fJ s).1;have e:∀K,K≠r->(setBlock A r<|.mapIter (H v) d (seen.push x.born) b).heap[K]?=w.heap[K]?:=λK n=>((fJ s).2 K n).trans (by rw[i]);have q:=(e v<|λx=>D x.symm).trans S;(have B:x∈l.toList:=by(have:(leftOf l seen).toList.Sublist l.toList:=by simp[leftOf]);exact this.subset T);refine .inr ⟨a,L,al,_,rfl,by rw[<-n,<-W];exact f,⟨l,b,d,_,b,q,hf,E,j,k,t,t,by rw[GR E.2.1 u];exact ha.append hc⟩,⟨?_,?_,?_,?_,λK _ n=>e K<|λx=>n<|by rw[x]⟩,?_,?_⟩;rcases h with rfl|rfl<;>rfl;rcases h with rfl|rfl<;>rfl;rcases h with rfl|rfl<;>rfl;simp[setBlock,i];simp[setBlock,i];rw[<-n,<-W];exact run_entry_at _ r v d seen l b x j q B E.2.1
section
variable{P:Program}(w:Y){c:Array Oper}{rest:cr Oper}{o:Oper}{a:Act}{Q:Exit->Act->Y->Prop}
end
theorem VR{P:Program}{w:Y}{mt l i n:M}{m:fH}{v:TypeInfo}{d:aa}(t:P.underlying mt=H (.map l i))(j:P.underlying l=H (.int .i64))(r:P.info? i=H v)(u:v.zero=H d)(x:jw w n m)(k:X):(Instr.lookup mt (.map<|H n) (am k) bU).run P w=.ok (dA #[(m.get k).getD d,aL (m.get k).isSome]) w:=by
 obtain⟨e,b,q,p,_⟩:=x;obtain⟨A,s⟩:=FT k e.toList m 0 p;have f:=eL (P:=P) (w:=w) (k:=am k) j (by rfl) e.isEmpty 9999;have g:=eH (P:=P) (w:=w) j s;have h:(getObj n).run P w=.ok (.map e b) w:=by simp[getObj,Sem.run,q]
 unfold Instr.lookup;rw[jW,eB t];simp only[jp,jW,h,pJ];rw[show(10000:M)=9999+1 from rfl,f];simp only[jp,g];cases hg:m.get k with
 |none=>simp[zeroValue,typeInfo,r,u]
 |some B=>simp
theorem jz.length{b:cr MapEntry}{m:fH}(h:jz b m):y b=y m:=by
 have:=bS y h;simpa using this
theorem Ko{P:Program}{w:Y}{mt j f l:M}{m:fH}(i:P.underlying mt=H (.map j f))(p:jw w l m)(k:TypeId):(Builtin.len_ #[mt] k #[.map<|H l]).run P w=.ok (am<|y m) w:=by
 obtain⟨n,b,h,g,_⟩:=p;have d:=jr (P:=P) h;have e:=g.length;rw[iF]at e;simp[Builtin.len_,eB i,d,goInt,Result.andThen,e]
theorem jw.new(w:Y):jw (ct w<|.map #[] 0) (z<|G w) []:=by
 refine⟨#[],0,?_,jz.nil,wA 0⟩;show(w.heap.push _)[z<|G w]?=_;simp
theorem jw.dh{w w':Y}{d:M}{m:fH}(i:jw w d m)(h:w'.heap[d]?=w.heap[d]?):jw w' d m:=by
 obtain⟨e,b,f,g⟩:=i;exact⟨e,b,h.trans f,g⟩
end
section
open Go.ChangeMaps (setBlock)
def lD(w:Y)(f:M)(g:TypeDesc)(e:aa->Prop):Prop:=∃d c,w.heap[f]?=H (.map d c)/\MapKept.Stamped d c/\(∀x∈d.toList,MapKept.IsKey g x.key)/\(∀x∈d.toList,x.val=eD #[])/\∀k,e k↔∃x∈d.toList,x.key=k
theorem lD.lt{w:Y}{e:M}{g:TypeDesc}{d:aa->Prop}(h:lD w e g d):e<z (G w):=by
 obtain⟨_,_,c,_⟩:=h;exact aj c
theorem lD.dh{w w':Y}{e:M}{i:TypeDesc}{d:aa->Prop}(k:lD w e i d)(j:w'.heap[e]?=w.heap[e]?):lD w' e i d:=by
 obtain⟨f,c,g,h⟩:=k;exact⟨f,c,j.trans g,h⟩
theorem lD.new(w:Y)(d:TypeDesc):lD (ct w<|.map #[] 0) (z<|G w) d az:=by
 refine⟨#[],0,?_,⟨by simp,by simp,by simp⟩,by simp,by simp,by simp⟩;show(w.heap.push _)[z<|G w]?=_;simp
theorem lD.congr{w:Y}{m:M}{n:TypeDesc}{e d:aa->Prop}(q:lD w m n e)(p:∀k,d k↔e k):lD w m n d:=by
 obtain⟨f,c,g,h,i,j,l⟩:=q;exact⟨f,c,g,h,i,j,λk=>(p k).trans<|l k⟩
theorem Be{P:Program}{w:Y}{mt t p v:M}{x:TypeDesc}{s:aa->Prop}{N:TypeInfo}(E:P.underlying mt=H (.map t p))(l:P.underlying t=H x)(D:P.info? p=H N)(L:N.zero=H (eD #[]))(O:lD w v x s)(n:aa)(f:MapKept.IsKey x n)(u:Bool)(r:u=bU↔s n):(Instr.lookup mt (.map<|H v) n bU).run P w=.ok (dA #[eD #[],aL u]) w:=by
 obtain⟨g,d,C,S,m,F,q⟩:=O;have j:=eL (P:=P) (w:=w) (k:=n) l f g.isEmpty 9999;have k:(getObj v).run P w=.ok (.map g d) w:=by simp[getObj,Sem.run,C]
 unfold Instr.lookup;rw[jW,eB E];simp only[jp,jW,k,pJ];rw[show(10000:M)=9999+1 from rfl,j];simp only[jp];rcases MapKept.findNow_spec f g.toList 0 m with⟨h,i⟩|⟨V,A,h,i,B⟩
 .have e:=eH (P:=P) (w:=w) l h;have:u=bE:=by
   cases u with
   |false=>rfl
   |true=>
    obtain⟨T,K,c⟩:=(q n).1<|r.1 rfl;exact absurd c<|i T K
  simp[e,zeroValue,typeInfo,D,L,this]
 have e:=eH (P:=P) (w:=w) l h;have c:A∈g.toList:=gp i;have:u=bU:=r.2<|(q n).2 ⟨A,c,B⟩;simp[e,this,F A c]
theorem zj{P:Program}{w:Y}{mt W et F:M}{ac:TypeDesc}{V:aa->Prop}(S:P.underlying mt=H (.map W et))(u:P.underlying W=H ac)(ad:lD w F ac V)(B:aa)(j:MapKept.IsKey ac B):∃A,(Instr.mapUpdate mt (.map<|H F) B<|eD #[]).run P w=.ok () A/\lD A F ac (λx=>V x\/x=B)/\w.grownBy A (H F)/\z (G A)=z (G w):=by
 obtain⟨i,g,q,O,n,T,v⟩:=ad;have p:=jr (P:=P) q;rcases MapKept.findNow_spec j i.toList 0 n with⟨C,t⟩|⟨L,e,C,t,E⟩;refine⟨setBlock w F<|.map (i.push {key:=B,val:=eD #[],born:=g})<|g+1,?_,?_,iP _ _ _,by simp[setBlock]⟩;simp[Instr.mapUpdate,eB S,p,eL u j,eH u C,fA _ q,Result.andThen,setBlock];refine⟨_,_,(fJ q).1,rh O t,?_,?_,?_⟩;intro x h;simp only[tK,ak,bG]at h;rcases h with h|rfl;exact n x h;exact j;intro x h;simp only[tK,ak,bG]at h;rcases h with h|rfl;exact T x h;rfl;intro x;simp only[tK,ak,bG];constructor;rintro(K|rfl);obtain⟨c,s,e⟩:=(v x).1 K;exact⟨c,.inl s,e⟩;exact⟨_,.inr rfl,rfl⟩;rintro⟨c,s|rfl,e⟩;exact .inl<|(v x).2 ⟨c,s,e⟩;exact .inr e.symm
 .have N:i[L]?=H e:=by simpa using t
  have r:e∈i.toList:=gp t;refine⟨setBlock w F<|.map (i.modify L λe=>{e with key:=B,val:=eD #[]}) g,?_,?_,iP _ _ _,by simp[setBlock]⟩
  .simp[Instr.mapUpdate,eB S,p,eL u j,eH u C,N,E,oh j,fA _ q,Result.andThen,setBlock]
  .have m:∀k,i[L]?=H k->k.key=B:=λk d=>by rw[N]at d;cases d;exact E
   refine⟨_,_,(fJ q).1,pL O _ _ (λ_ _=>rfl)<|λk _ d=>(m k d).symm,MapKept.isKey_modify n _ _<|λk d=>(m k d).symm,?_,?_⟩
   .intro x h;rw[Array.toList_modify]at h;obtain⟨D,l⟩:=List.getElem?_of_mem h;rw[List.getElem?_modify]at l;cases hc:i.toList[D]? with
    |none=>rw[hc]at l;cases l
    |some c=>
     rw[hc]at l;have s:=T c<|gp hc;by_cases K:L=D
     .simp[K]at l;rw[<-l]
     .simp[K]at l;rw[<-l];exact s
   .intro x;have l:((i.modify L λe=>{e with key:=B,val:=eD #[]}).toList.map (·.key))=i.toList.map (·.key):=MapKept.modify_keys _ _<|λk d=>(m k d).symm;have D:(∃c∈(i.modify L λe=>{e with key:=B,val:=eD #[]}).toList,c.key=x)↔∃c∈i.toList,c.key=x:=by
     rw[<-aY (f:=λc:MapEntry=>c.key),<-aY (f:=λc:MapEntry=>c.key),l]
    rw[D,<-v x];constructor
    .rintro(K|rfl)
     .exact K
     .exact(v _).2 ⟨e,r,E⟩
    .exact .inl
section
variable{P:Program}(w:Y){b:Array Oper}{rest:cr Oper}{o:Oper}{a:Act}{Q:Exit->Act->Y->Prop}
theorem uj(n:o.guard=none)(i x j:Operand)(B:TypeId)(g:o.op=Op.mapUpdate B i x j)(A D:TypeId)(r:P.underlying B=H (.map A D))(l:TypeDesc)(p:P.underlying A=H l)(k:M)(h:aa->Prop)(q:a.eval i=.map (H k))(E:lD w k l h)(c:aa)(f:MapKept.IsKey l c)(t:a.eval x=c)(s:a.eval j=eD #[])(m:∀w',lD w' k l (λx=>h x\/x=c)->w.grownBy w' (H k)->wpList P b Q rest (a.put o.dst iC) w'):wpList P b Q (o::rest) a w:=by
 refine kN n λC e=>?_;obtain⟨w',d,u,v,_⟩:=zj r p E c f;unfold Oper.wp;simp[execOp,g,q,t,s,d,Result.andThen];exact e _ _<|m w' u v
end
end
