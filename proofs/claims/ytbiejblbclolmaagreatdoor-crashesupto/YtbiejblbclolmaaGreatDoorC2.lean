import Derived.Deep.LoopGhost
import Derived.Deep.RegionHeld3
import Derived.Deep.RegionWith
import Derived.Laws.BitsLemmas
import Derived.Laws.Entries
import Derived.Laws.IdiomStrings
import Derived.Laws.Rows
import Derived.Lib.BufferRead
import Derived.LoopIn
import Derived.LoopNIn
import Derived.MapKept
import Derived.Maps.RangeWalk
import Derived.OpenShut
import Derived.OwnWalk
import Derived.RangeFuncBound
import Derived.RangeFuncLeaves
import Derived.RangeFuncNested
import Derived.Shelf.Abstract
import Derived.Shelf.AbstractIn
import Derived.Shelf.RegionOpen
import Derived.Sort.LoopGhostIn
import Derived.TacticsInMore
import Derived.Test.YtbiejblbclolmaaGreatDoorC1
open _root_ renaming List.length→y,Option.some→H,Array.size→z,Go.World.heap→G,Go.Value.ownBlock→cI,Go.World.cell?→aW,Go.World.setCell→cH,Go.World.alloc→dd,Bool.false→bw,Bool.true→cf,Nat→M,Int→U,List→ci,Go.Calls→cY,Go.undef→iM,Go.Proofs.Tryz.prog→bA,Go.Value.slice→I,Go.Value.string→am,Go.Value.bool→aM,Go.Value.pointer→dC,Go.Value.tuple→dA,Go.Value.agg→dL
namespace Go.Proofs.YtbiejblbclolmaaGreatDoor
open ChangeShapes WideShapes RowKit Proofs.Tryz List
set_option maxHeartbeats 16000000
set_option linter.all false
set_option maxRecDepth 100000
variable{a f A:Y}{b c i l F V:M}{d t L:ab}{e K:cU}{k N:U}{m:dX}{n:eF}{o:fh}{r:ae}{w:E}{B:ix}{S:Bool}
def qG:(prog.info? 5).map (λi=>(i.zero,i.size,i.bytes))=H (H<|td 0,1,1):=by kernel_rfl
def fg(w:Y)(a:M)(v:ab)(b:eF):Prop:=w.ownsRow a 5 1 v (y b)<|b.map<|Value.int .u8
def fg.of(h:a.ownsRow b 5 1 d c B)(e:c=y n)(f:B=n.map (Value.int .u8)):fg a b d n:=by
 subst e;subst f;exact h
def fg.nil(w:Y)(a:M):fg w a az []:=cK w a _ 1
def fg.alloc{w:Y}(h:fg w b d n)(o:Obj):fg (dd w o) b d n:=aT h o
def le:M->U->eF
 |0,_=>[]
 |k+1,n=>n%256::le k (n/256)
theorem cg(k:M):∀n,y (le k n)=k:=by
 induction k with
 |zero=>intro n;rfl
 |succ k a=>intro n;simp[le,a]
def kZ(s:ae):eF:=s.data.toList.map λb=>(b.toNat:U)
def strCells_eq(s:ae):Lib.strCells s=(kZ s).map (Value.int .u8):=by simp[Lib.strCells,kZ]
theorem iq(s:ae):y (kZ s)=s.size:=by simp[kZ]
def uV(a:M)(v:ab)(f:eF)(o:U)(w:Y)(d:fg w a v f)(q:a<=z (G w))(r:y f<=70368744177664):cY bA 179 #[v,td o] w λp l=>∃e,p=aN e/\fg l a e (f++[o])/\eJ w l v e:=by
 obtain⟨n,m,g,i,j⟩:=dl qG;go_in
 go_wp2_with(first
  |(at_builtin;refine cC _ rfl _ _ 86 rfl a 5 n (.int .u8 0) 1 1 underlying86 m g i j rfl (by decide) _ _ _ rfl (d.alloc _) (R (z (G w)) 0) 1 1 [.int .u8 o] rfl rfl (qf _ _ _) ?c2 ?c3 ?c4 ?c5 ?_))
 case c2=>intro u k;simp at k;subst k;rfl
 case c3=>omega
 case c4=>omega
 case c5=>simp;omega
 intro e s c b;go_wp2;go_ret;exact⟨e,rfl,fg.of c (by simp) (by simp),b.alloc _⟩
def UX(w:Y)(a:ix)(t:TypeId):∀j u,a[j]?=H u->aW (dd w<|ay a.toArray t) (((R (z<|G w) 0):Addr).add j)=H u:=by
 intro j u b;rw[dJ];simp_all
def jN{baseqq:M}{v:ab}{bs:eF}(n:U){w:Y}(c:fg w baseqq v bs)(q:baseqq<=z (G w))(r:y bs<=70368744177664)(o:0<=n)(p:n<4294967296):cY bA 181 #[v,dI n] w λk j=>∃d,k=aN d/\fg j baseqq d (bs++le 4 n)/\eJ w j v d:=by
 obtain⟨m,l,e,f,g⟩:=dl qG;go_in
 go_wp2_with(first
  |(at_builtin;refine cC _ rfl _ _ 86 rfl baseqq 5 m (.int .u8 0) 1 1 underlying86 l e f g rfl (by decide) _ _ _ rfl (c.alloc _) (R (z (G w)) 0) 4 4 ((le 4 n).map (Value.int .u8)) rfl rfl ?c1 ?c2 ?c3 ?c4 ?c5 ?_))
 (case c1=>(have k:(#[Value.int IntKind.u8<|n%256,Value.int IntKind.u8<|n/256%256,Value.int IntKind.u8<|n/65536%256,Value.int IntKind.u8<|n/16777216]:Array ab)=((le 4 n).map<|Value.int .u8).toArray:=by simp[le];omega);rw[k];exact UX _ _ _);case c2=>intro u i;simp[le]at i;rcases i with rfl|rfl|rfl|rfl<;>rfl
 case c3=>omega
 case c4=>omega
 case c5=>simp;omega
 intro d s b a;go_wp2;go_ret;exact⟨d,rfl,fg.of b (by simp[le]) (by simp),a.alloc _⟩
def pR(a:M)(v:ab)(g:eF)(s:ae)(w:Y)(d:fg w a v g)(n:a<=z (G w))(p:y g<=70368744177664)(t:s.size<=255):cY bA 230 #[v,am s] w λr m=>∃f,r=aN f/\fg m a f (g++(s.size:U)::kZ s)/\eJ w m v f:=by
 obtain⟨q,o,j,k,l⟩:=dl qG;go_in
 go_wp2_with fail
 apply(uV a v g s.size w d n p).mono;rintro r x⟨u,rfl,i,e⟩
 go_wp2_with(first
  |(at_builtin;refine ub _ rfl _ _ 86 9 rfl a 5 q underlying86 underlying9 o j k l _ _ _ rfl i s rfl ?c1 ?c2 ?_))
 case c1=>simp;omega
 case c2=>have:=e.grown.size;omega
 intro f A c b;go_wp2;go_ret;exact⟨f,rfl,fg.of c (by simp[iq];omega) (by simp[strCells_eq]),e.trans b⟩
def OX(a b:U):0<=bits .xor .u32 a b:=(bounds_u32<|wf_bits .xor .u32 a b).1
def OY(a b:U):bits .xor .u32 a b<4294967296:=by have:=(bounds_u32<|wf_bits .xor .u32 a b).2;omega
def G3(x:U)(a:0<=x)(b:x<4294967296):bits .and .u32 x 15=x%16:=by
 have:=bits_mask .u32 32 (by decide) wraps_u32 4 (by decide) x a (by omega);grind
def ZD(k:M):U:=([0,498536548,997073096,651767980,1994146192,1802195444,1303535960,1342533948,3988292384,4027552580,3604390888,3412177804,2607071920,2262029012,2685067896,3183342108]:eF).getD k 0
def Steps(w:Y):Prop:=∀k,k<16->aW w (R 1 k)=H (dI<|ZD k)
def Steps.below{B:M}(h:Steps a)(c:Below B a f)(b:1<B):Steps f:=λk d=>(c.cell<|by exact b).trans<|h k d
def Sd(c:U):U:=bits .xor .u32 (c/16)<|ZD (c%16).toNat
def Ce(a x:U):U:=Sd<|Sd<|bits .xor .u32 a<|x%4294967296
def zb(a:eF):U:=a.foldl Ce 4294967295
def lJ(a:eF):U:=bits .xor .u32 IntKind.u32.max<|zb a
def QX(a x:U):0<=Ce a x:=OX _ _
def QY(a x:U):Ce a x<4294967296:=OY _ _
def Ol(a:eF):0<=zb a/\zb a<4294967296:=by
 unfold zb;rcases xU a with rfl|⟨l,x,rfl⟩;simp;rw[List.concat_eq_append,gd];exact⟨QX _ _,QY _ _⟩
def za(a:eF):0<=lJ a:=OX _ _
def AG(a:eF):lJ a<4294967296:=OY _ _
def QW(a:eF)(k:M)(h:k<y a):zb (a.take<|k+1)=Ce (zb<|a.take k) a[k]:=by
 unfold zb;rw[ah h,gd];rfl
theorem YI(q c:M)(b:eF)(g:M)(j:Steps a)(m:∀k,k<y b->aW a (R q<|c+k)=H (td<|b[k]?.getD 0))(f:y b<=140737488351232):cY bA 136 #[bI q c (y b) g] a λr o=>r=aN (dI<|lJ b)/\o=a:=by
 have u:=OX;have v:=OY;have i:=G3;have l:∀x:U,aW a (R 1<|(x%16).toNat)=H (dI<|ZD (x%16).toNat):=λx=>j _ (by omega);go_in
 go_wp2;go_loop [3,8,5] (λa i x=>∃(k:M),k<=y b/\i=aq k/\a=dI (zb<|b.take k)) (λ_ i _=>y b-(intOf i).toNat)
 case atStart=>exact⟨0,bK _,rfl,rfl⟩
 (case round=>obtain⟨k,s,rfl,rfl⟩:=hrel;have t:=Ol<|b.take k;by_cases e:k<y b;(.have n:=m k e;have d:Hid (zb (b.take<|k+1)=Ce (zb<|b.take k) b[k]):=QW b k e;generalize zb (b.take k)=p at*;go_wp2;(go_round);(case rel=>exact⟨k+1,by omega,by go_num,by rw[d.out];rfl⟩);case measure=>simp[intOf];omega);go_wp2;go_ret;have d:b.take k=b:=(by grind);rw[d];exact⟨rfl,rfl⟩)
def Bytes(w:Y)(v:ab)(b:eF):Prop:=(v=az/\b=[])\/∃d a c,v=bI d a (y b) c/\y b<=c/\∀k,k<y b->aW w (R d<|a+k)=H (td<|b[k]?.getD 0)
theorem fg.bytes(i:fg a b d n):Bytes a d n:=by
 unfold fg at i;rcases i.2 with⟨rfl,j⟩|⟨h,c,g,rfl,_,_,e,_⟩;exact .inl ⟨rfl,aS j⟩;refine .inr ⟨h,0,c,rfl,e,λl k=>?_⟩;have:=i.cells (g:=h) rfl l (td<|n[l]?.getD 0) (by simp[k]);grind[Addr.add_lit]
def Bytes.below{B:M}(j:Bytes a d n)(h:Below B a f)(g:∀k,cI d=H k->k<B):Bytes f d n:=by
 rcases j with⟨rfl,rfl⟩|⟨l,b,c,rfl,e,i⟩;exact .inl ⟨rfl,rfl⟩;exact .inr ⟨l,b,c,rfl,e,λk j=>(h.cell<|by exact g l rfl).trans<|i k j⟩
def YH(w:Y):cY bA 136 #[az] w λe a=>e=aN (dI<|lJ [])/\a=w:=by
 go_in
 go_wp2;go_loop [3,8,5] (λc i x=>i=aq 0/\c=dI 4294967295) (λ_ _ _=>0)
 case atStart=>grind
 (case round=>obtain⟨rfl,rfl⟩:=hrel;go_wp2;go_ret;exact⟨rfl,rfl⟩)
def tA(v:ab)(b:eF)(w:Y)(h:Steps w)(e:Bytes w v b)(a:y b<=140737488351232):cY bA 136 #[v] w λg f=>g=aN (dI<|lJ b)/\f=w:=by
 rcases e with⟨rfl,rfl⟩|⟨j,c,d,rfl,_,i⟩;exact YH w;grind[YI]
def U4(n:U):le 4 (n%4294967296)++le 4 (n/4294967296)=le 8 n:=by
 simp[le];omega
def pS{baseqq:M}{v:ab}{bs:eF}(n:U){w:Y}(b:fg w baseqq v bs)(k:baseqq<=z (G w))(p:y bs<=35184372088832)(m:0<=n)(o:n<18446744073709551616):cY bA 178 #[v,aG n] w λj g=>∃f,j=aN f/\fg g baseqq f (bs++le 8 n)/\eJ w g v f:=by
 have i:Hid (le 4 (n%4294967296)++le 4 (n/4294967296)=le 8 n):=U4 n;go_in
 go_wp2_with fail
 apply(jN (n%4294967296) b k (by omega) (by omega)<|by omega).mono;rintro j r⟨q,rfl,d,c⟩;go_wp2_with fail
 refine(jN (n/4294967296) d (by have:=c.grown.size;omega) (by simp[cg];omega) (by omega)<|by omega).mono ?_;rintro j s⟨l,rfl,a,e⟩;go_wp2;go_ret;refine⟨l,rfl,?_,c.trans e⟩;rw[bj,i.out]at a;exact a
def Fz(j:Steps a)(c:fg a b d n)(k:b<=z (G a))(o:y n<=35184372088832):cY bA 182 #[d] a λi f=>∃e,i=aN e/\fg f b e (n++le 4 (lJ n))/\eJ a f d e:=by
 have g:=za n;have c1:=AG n;go_in
 go_wp2_with fail
 apply(tA d n a j c.bytes<|by omega).mono;rintro i q⟨rfl,rfl⟩;go_wp2_with fail
 apply(jN (lJ n) c k (by omega) g c1).mono;rintro i r⟨p,rfl,l,m⟩;go_wp2;go_ret;simp_all
def Fy(n:U)(w:Y)(b:0<=n)(c:n<=140737488351232):cY bA 216 #[aq n] w λe a=>e=aN (aq<|n+4)/\a=w:=by
 go_in
 go_wp2;go_ret;simp_all
def Rd(w:Y)(b:M)(rest:eF)(a:Bool):Prop:=∃v,w.heap[b]?=H (ay #[v,aM a] 317 (0,0))/\Bytes w v rest/\∀k,cI v=H k->k<b
def Bytes.grown{w w':Y}{b:Option M}(h:Bytes w d n)(i:w.grownBy w' b)(f:cI d≠b\/cI d=none):Bytes w' d n:=by
 rcases h with⟨rfl,rfl⟩|⟨k,a,c,rfl,e,g⟩;exact .inl ⟨rfl,rfl⟩;refine .inr ⟨k,a,c,rfl,e,λl j=>i.cell (g l j) ?_⟩;rcases f with h|h;exact h;simp[cI]at h
def Bytes.alloc{w:Y}(l:Bytes w d n)(o:Obj):Bytes (dd w o) d n:=by
 rcases l with⟨rfl,rfl⟩|⟨g,a,b,rfl,c,i⟩;exact .inl ⟨rfl,rfl⟩;refine .inr ⟨g,a,b,rfl,c,λm j=>?_⟩;have e:=i m j;(have k:g<z (G w):=by by_cases h:g<z (G w);exact h;have:w.heap[g]?=none:=(by grind);simp[World.cell?,this]at e);rw[<-e];grind[World.cell?_of_block,Below.heap_alloc]
def Bytes.take{f b c n:M}{bs:eF}(h:Bytes a (bI f b (y bs) c) bs)(m:n<=y bs):Bytes a (bI f b n c) (bs.take n):=by
 rcases h with⟨h,_⟩|⟨j,e,d,h,i,g⟩;cases h;cases h;(have k:y (bs.take n)=n:=by simp;omega);refine .inr ⟨f,b,c,by rw[k],by omega,λo l=>?_⟩;rw[g o (by omega),ph<|by omega]
def Bytes.Dr{g b c n:M}{d:eF}(h:Bytes a (bI g b (y d) c) d)(m:n<=y d):Bytes a (bI g (b+n) (y d-n)<|c-n) (d.drop n):=by
 rcases h with⟨h,_⟩|⟨j,f,e,h,i,k⟩;cases h;cases h;refine .inr ⟨g,b+n,c-n,by simp,by simp;omega,λo l=>?_⟩;grind
def Bytes.lt{bs:eF}(n:Bytes a d bs)(l:bs≠[]):∀m,cI d=H m->m<z (G a):=by
 rcases n with⟨rfl,rfl⟩|⟨b,c,g,rfl,k,j⟩;grind
 intro m e;simp[cI]at e;subst e;have h:=j 0 (by cases bs<;>simp_all);by_cases i:b<z (G a);exact i;have:a.heap[b]?=none:=(by grind);simp[World.cell?,this]at h
def Ty{a:Addr}(h:cI (I (H a) b c)=H i):a.block=i:=by simpa[cI]using h
def lV(f:Bytes a d n)(c:∀k,cI d=H k->k<z (G a)):cY bA 123 #[d] a λj b=>j=aN (aD<|z<|G a)/\Rd b (z<|G a) n bw/\b=dd a (ay #[d,aM bw] 317):=by
 have fin:∀b,b=dd a (ay #[d,aM bw] 317)->Rd b (z<|G a) n bw:=by rintro b rfl;exact⟨d,iE _ _,f.alloc _,c⟩
 have F:Hid (∀b,b=dd a (ay #[d,aM bw] 317)->Rd b (z<|G a) n bw):=fin;rcases f with⟨rfl,rfl⟩|⟨m,e,g,rfl,i,l⟩;(.clear c;(go_in);go_wp2;go_ret;exact⟨rfl,F.out _ rfl,rfl⟩);clear c;(go_in);go_wp2;go_ret;exact⟨rfl,F.out _ rfl,rfl⟩
def jR(rest:eF)(a:Bool)(n:M):eF×Bool×eF:=if a=cf\/y rest<n then(rest,cf,[])else(rest.drop n,bw,rest.take n)
def Rd.short{rest:eF}(f:a.heap[b]?=H (ay #[d,aM S] 317 (0,0)))(e:Bytes a d rest)(c:∀k,cI d=H k->k<b):Rd (cH a (R b 1)<|aM cf) b rest cf:=⟨d,by rw[aJ f];rfl,e.grown (dS a b 1 _) (by grind),c⟩
def Rd.Wq(f:a.heap[b]?=H (ay #[d,aM S] 317 (0,0)))(e:Bytes a t n)(c:∀k,cI t=H k->k<b):Rd (cH a (R b 0) t) b n S:=⟨t,by rw[aJ f];rfl,e.grown (dS a b 0 _) (by grind),c⟩
def LW{rest:eF}(n:M)(h:Rd a b rest S)(V:y rest<=140737488351232)(T:n<=1000000):cY bA 235 #[aD b,aq n] a λk B=>∃A,k=aN A/\Rd B b (jR rest S n).1 (jR rest S n).2.1/\Bytes B A (jR rest S n).2.2/\cI A≠H b/\a.grownBy B (H b):=by
 obtain⟨P,l,s,v⟩:=h;have HB:Hid (Bytes a P rest):=s;have K:=cellAt l 0 rfl;have L:=cellAt l 1 rfl;have N:=cQ (i:=0) l;have O:=cQ (i:=1) l;have p:Hid (a.heap[b]?=H (ay #[P,aM S] 317 (0,0))):=l;have f:Hid (∀k,cI P=H k->k<b):=v;by_cases g:S=cf\/y rest<n
 .have e:Hid (jR rest S n=(rest,cf,[])):=by unfold Hid jR;rw[di g]
  have fin:Rd (cH a (R b 1)<|aM cf) b rest cf/\a.grownBy (cH a (R b 1)<|aM cf) (H b):=⟨Rd.short p.out HB.out f.out,dS _ _ _ _⟩;have F:Hid (Rd (cH a (R b 1)<|aM cf) b rest cf/\a.grownBy (cH a (R b 1)<|aM cf) (H b)):=fin;have x:Bytes (cH a (R b 1)<|aM cf) az []:=.inl ⟨rfl,rfl⟩;have j:Hid (Bytes (cH a (R b 1)<|aM cf) az []):=x;cases S with
  |true=>
   go_in
   go_wp2;go_ret;exact⟨_,rfl,by rw[e.out];exact F.out.1,by rw[e.out];exact j.out,by simp[cI],F.out.2⟩
  |false=>
   have m:y rest<n:=by simpa using g
   rcases s with⟨rfl,rfl⟩|⟨C,c,d,rfl,u,E⟩;all_goals
    go_in
    go_wp2;go_ret;exact⟨_,rfl,by rw[e.out];exact F.out.1,by rw[e.out];exact j.out,by simp[cI],F.out.2⟩
 (have e:Hid (jR rest S n=(rest.drop n,bw,rest.take n)):=by unfold Hid jR;rw[dt g]);obtain⟨F,m⟩:=not_or.1 g;(obtain rfl:S=bw:=by simpa using F);rcases s with⟨rfl,rfl⟩|⟨C,c,d,rfl,u,E⟩;(·(obtain rfl:n=0:=by simpa using m);have x:Bytes a az []:=.inl ⟨rfl,rfl⟩;have o:=Rd.Wq p.out x f.out;have j:=X o;(go_in);go_wp2;go_ret;exact⟨_,rfl,by rw[e.out];exact j,by rw[e.out];exact .inl ⟨rfl,rfl⟩,λk=>rJ _<|f.out _ k,dS _ _ _ _⟩);by_cases t:d=n;(.subst t;(have D:rest.drop d=[]:=by simp;omega);(have Q:y rest=d:=by omega);have q:Bytes a (bI C c 0 0) (rest.drop d):=.inr ⟨C,c,0,by rw[D];rfl,by rw[D];simp,(by grind)⟩;have w:=(Bytes.take HB.out (n:=d)<|by omega).grown (dS a b 0<|bI C c 0 0)<|.inl<|λk=>rJ _<|f.out _ k;have o:=Rd.Wq p.out q f.out;have r:=X w;have j:=X o;(go_in);go_wp2;go_ret;exact⟨_,rfl,by rw[e.out];exact j,by rw[e.out];exact r,λk=>rJ _<|f.out _ k,dS _ _ _ _⟩);have q:=Bytes.Dr HB.out (n:=n) (by omega);have w:=(Bytes.take HB.out (n:=n)<|by omega).grown (dS a b 0<|bI C (c+n) (y rest-n)<|d-n)<|.inl<|λk=>rJ _<|f.out _ k;have o:=Rd.Wq p.out q f.out;obtain⟨D,r,j⟩:=dF q w o;(go_in);go_wp2;go_ret;exact⟨_,rfl,by rw[e.out];exact j,by rw[e.out];exact r,λk=>rJ _<|f.out _ k,dS _ _ _ _⟩
def kr(a:eF):Prop:=∀x∈a,0<=x/\x<256
def kr.take{bs:eF}(h:kr bs)(n:M):kr (bs.take n):=λx a=>h x<|gC a
def kr.drop(h:kr n)(b:M):kr (n.drop b):=λx a=>h x<|gD a
def kr.append{b:eF}(h:kr n)(k:kr b):kr (n++b):=λx a=>(aA.1 a).elim (h x)<|k x
def kr.Bz{rest:eF}{shortqq:Bool}{n:M}(h:kr rest):kr (jR rest shortqq n).1/\kr (jR rest shortqq n).2.2:=by
 unfold jR;split;exact⟨h,λx a=>by cases a⟩;exact⟨h.drop n,h.take n⟩
def wS(rest:eF)(a:Bool)(n:M):y (jR rest a n).1<=y rest/\y (jR rest a n).2.2<=n:=by
 unfold jR;grind
def kr.le(k:M):∀n,kr (le k n):=by
 induction k with
 |zero=>intro n x a;cases a
 |succ k b=>
  intro n x a;rcases bM.1 a with rfl|a
  .omega
  .exact b _ x a
def kr.text(s:ae):kr (kZ s):=by
 intro x a;obtain⟨b,_,rfl⟩:=bH.1 a;have:=b.toNat_lt;omega
def mF:eF->U
 |[]=>0
 |x::r=>x+256*mF r
def uY:∀(l:eF),kr l->0<=mF l/\mF l<256^y l
 |[],_=>by simp[mF]
 |x::r,h=>by
  have a:=h x<|.head _;have c:=uY r<|λa b=>h a<|.tail _ b;simp only[mF,aO,Bb];omega
def Gq:∀(l:eF)(x:U),mF (l++[x])=mF l+x*256^y l
 |[],x=>by simp[mF]
 |yqq::r,x=>by
  simp only[cR,mF,aO,Bb,Gq r x];grind
def BJ:∀(k:M)(n:U),0<=n->mF (le k n)=n%256^k
 |0,n,_=>by simp[mF,le]
 |k+1,n,h=>by
  simp only[le,mF,BJ k (n/256) (by omega),Bb];obtain⟨m,rfl⟩:=vX h;have:=Nat.mod_mul (x:=m) (a:=256) (b:=256^k);rw[Int.mul_comm (256^k) 256];grind
def YX(h:kr n)(j:y n<=8)(k:M)(d:k<y n):mF (n.take<|k+1)=bits .or .u64 (mF<|n.take k) (IntKind.u64.wrap<|n[k]*2^(8*k)):=by
 have c:=uY (n.take k)<|h.take k;have e:y (n.take k)=k:=by simp;omega
 rw[ah d,Gq,e];rw[e]at c;have m:=h n[k]<|ar d;have i:(256:U)^k=2^(8*k):=by rw[Int.pow_mul];rfl
 rw[i]at c|-;have l:(0:U)<2^(8*k):=Int.pow_pos (by decide);have f:(2:U)^(8*k)*256<=2^64:=by(have:(2:U)^(8*k)*256=2^(8*k+8):=by rw[Int.pow_add];rfl);rw[this];exact_mod_cast Nat.pow_le_pow_right (by decide) (by omega)
 have g:n[k]*2^(8*k)<=255*2^(8*k):=Int.mul_le_mul_of_nonneg_right (by omega) (by omega);have a:0<=n[k]*2^(8*k):=Int.mul_nonneg (by omega) (by omega);have b:n[k]*2^(8*k)<2^64:=by omega
 rw[wraps_u64 _ a b,bits_join_low .u64 64 (by decide) wraps_u64 (8*k) _ _ c.1 c.2 (by omega) a (Int.mul_emod_left _ _) b]
def FY{rest:eF}(n:M)(h:Rd a b rest S)(g:kr rest)(D:y rest<=140737488351232)(N:n<=8):cY bA 186 #[aD b,aq n] a λF s=>F=aN (aG<|mF (jR rest S n).2.2)/\Rd s b (jR rest S n).1 (jR rest S n).2.1/\a.grownBy s (H b):=by
 have t:=X g;go_in
 go_wp2_with fail
 apply(LW n h D<|by omega).mono;rintro F Q⟨P,rfl,i,f,C,A⟩;have L:=(wS rest S n).2;obtain⟨p,o,m⟩:=dF (t.Bz (shortqq:=S) (n:=n)).2 i A;generalize q:(jR rest S n).2.2=c at*;have l:=X q;clear q;rcases f with⟨rfl,rfl⟩|⟨T,j,v,rfl,B,x⟩;(.go_wp2;(go_loop [5,12,6,7] (λu r _ _=>r=aq 0/\u=aG 0) (λ_ _ _ _=>0));(case atStart=>grind);(case round=>obtain⟨rfl,rfl⟩:=hrel;go_wp2;go_ret;exact⟨by rw[J l];rfl,o,m⟩));(.go_wp2;(go_loop [5,12,6,7] (λu r _ _=>∃(k:M),k<=y c/\r=aq k/\u=aG (mF<|c.take k)) (λ_ r _ _=>y c-(intOf r).toNat));(case atStart=>exact⟨0,bK _,rfl,rfl⟩);(case round=>obtain⟨k,K,rfl,rfl⟩:=hrel;by_cases e:k<y c;(.have w:=x k e;have O:=p c[k]<|ar e;have d:=X<|YX p (by omega) k e;generalize mF (c.take k)=E at*;go_wp2;(go_round);(case rel=>exact⟨k+1,by omega,by go_num,by rw[J d]⟩);case measure=>simp[intOf];omega);go_wp2;go_ret;have d:c.take k=c:=(by grind);rw[d];exact⟨by rw[J l];rfl,o,m⟩))
def WH(h:kr n)(a:y n<=b):mF n<256^b:=by
 have c:=(uY n h).2;have d:(256:U)^y n<=256^b:=by exact_mod_cast Nat.pow_le_pow_right (by decide) a
 omega
def num(rest:eF)(a:Bool)(n:M):U:=mF (jR rest a n).2.2
def tE{rest:eF}(h:kr rest):0<=num rest S b/\num rest S b<256^b:=⟨(uY _ h.Bz.2).1,WH h.Bz.2 (wS rest S b).2⟩
def Nn{rest:eF}(h:Rd a b rest S)(d:kr rest)(j:y rest<=140737488351232):cY bA 124 #[aD b] a λk e=>k=aN (aG<|num rest S 8)/\Rd e b (jR rest S 8).1 (jR rest S 8).2.1/\a.grownBy e (H b):=by
 have c:=X h;have f:=X d;go_in
 go_wp2_with fail
 apply(FY 8 c f j<|by omega).mono;rintro k l⟨rfl,g,i⟩;go_wp2;go_ret;exact⟨rfl,g,i⟩
def FV{rest:eF}(n:M)(h:Rd a b rest S)(c:kr rest)(f:y rest<=140737488351232)(e:n<=8):cY bA 186 #[aD b,aq n] a λg d=>g=aN (aG<|num rest S n)/\Rd d b (jR rest S n).1 (jR rest S n).2.1/\a.grownBy d (H b):=FY n h c f e
def RF{a:IntKind}(h:k=N):Ending.returned (.int a k)=aN (.int a N):=by rw[h]
def LP(c:M){rest:eF}(a:Bool)(w:Y)(h:Rd w c rest a)(b:kr rest)(n:y rest<=140737488351232):cY bA 125 #[aD c] w λo g=>o=aN (dI<|num rest a 4)/\Rd g c (jR rest a 4).1 (jR rest a 4).2.1/\w.grownBy g (H c):=by
 have l:0<=num rest a 4:=(tE b).1;have m:num rest a 4<4294967296:=(tE b).2;have d:=X h;have i:=X b;go_in
 go_wp2_with fail
 apply(FV 4 d i n<|by omega).mono;rintro o p⟨rfl,j,k⟩;have e:=X j;have f:=X k;go_wp2;go_ret;exact⟨RF (by omega),e,f⟩
def GP{rest:eF}(h:Rd a b rest S)(c:kr rest)(n:y rest<=140737488351232):cY bA 137 #[aD b] a λo g=>o=aN (td<|num rest S 1)/\Rd g b (jR rest S 1).1 (jR rest S 1).2.1/\a.grownBy g (H b):=by
 have l:0<=num rest S 1:=(tE c).1;have m:num rest S 1<256:=(tE c).2;have d:=X h;have i:=X c;go_in
 go_wp2_with fail
 apply(FV 1 d i n<|by omega).mono;rintro o p⟨rfl,j,k⟩;have e:=X j;have f:=X k;go_wp2;go_ret;exact⟨RF (by omega),e,f⟩
def IA{rest:eF}(h:Rd a b rest S):cY bA 126 #[aD b] a λg f=>g=aN (aM S)/\f=a:=by
 obtain⟨v,d,i,e⟩:=h;have c:=cellAt d 1 rfl;go_in
 go_wp2;go_ret;simp_all
def yY{rest:eF}(h:Rd a b rest S)(o:y rest<=140737488351232):cY bA 127 #[aD b] a λm l=>m=aN (aM<|!S&&rest.isEmpty)/\l=a:=by
 obtain⟨v,d,f,k⟩:=h;have g:=cellAt d 0 rfl;have i:=cellAt d 1 rfl;cases S with
 |true=>
  go_in
  go_wp2;go_ret;simp_all
 |false=>
  rcases f with⟨rfl,rfl⟩|⟨q,c,e,rfl,j,n⟩
  .go_in
   go_wp2;go_ret;simp_all
  .cases rest with
   |nil=>
    go_in
    go_wp2;go_ret;simp_all
   |cons x r=>
    have p:((y (x::r):U)==0)=bw:=by simp;omega
    go_in
    go_wp2;go_ret;simp_all
def Fc(a:eF):ae:=⟨(a.map λx=>UInt8.ofNat x.toNat).toArray⟩
theorem wR(s:ae):Fc (kZ s)=s:=by
 have e:((λx:U=>UInt8.ofNat x.toNat)∘λb:UInt8=>(b.toNat:U))=id:=by funext b;simp
 unfold Fc kZ;rw[ee,e,yj]
def Fa(rest:eF)(a:Bool):eF×Bool×eF:=let b:=jR rest a 1;jR b.1 b.2.1 (num rest a 1).toNat
def Rb(g:Bytes a d n)(f:kr n):(convert 86 9 d).run bA a=.ok (am<|Fc n) a:=by
 rcases g with⟨rfl,rfl⟩|⟨k,b,e,rfl,i,h⟩;exact Lib.run_convert_nil_bytes a _ _ 5 0 underlying86 underlying5 underlying9;have:=wI (P:=bA) a 86 9 5 (R k b) e (n.map λx=>UInt8.ofNat x.toNat) underlying86 underlying5 underlying9 (λj c=>by simp at c;rw[dJ,h j c];have l:=f n[j]<|ar c;simp[c];omega);simpa[Fc]using this
def Fb{rest:eF}(h:Rd a b rest S)(c:kr rest)(D:y rest<=140737488351232):cY bA 187 #[aD b] a λs o=>s=aN (am<|Fc (Fa rest S).2.2)/\Rd o b (Fa rest S).1 (Fa rest S).2.1/\a.grownBy o (H b):=by
 have j:0<=num rest S 1:=(tE c).1;have A:num rest S 1<256:=(tE c).2;have d:=X h;have l:=X c;go_in
 go_wp2_with fail
 apply(GP d l D).mono;rintro s L⟨rfl,t,u⟩;have e:=X t;have f:=X u;obtain⟨p,k⟩:=vX j;have n:(Fa rest S)=jR (jR rest S 1).1 (jR rest S 1).2.1 p:=by unfold Fa;simp[k]
 have F:=(wS rest S 1).1;have m:=X n;have q:=X (l.Bz (shortqq:=S) (n:=1)).1;have C:p<256:=by omega
 have r:=X k;clear n k;go_wp2_with fail
 rw[J r];apply(LW p e (by omega)<|by omega).mono;rintro s N⟨K,rfl,v,w,E,x⟩;have B:=Rb w q.Bz.2;have g:=X v;have i:=X x;go_wp2;go_ret;exact⟨by rw[J m];rfl,by rw[J m];exact g,NR f i⟩
def Bytes.of_heap{w w':Y}(i:Bytes w d n)(l:w'.heap=w.heap):Bytes w' d n:=by
 rcases i with⟨rfl,rfl⟩|⟨j,b,e,rfl,g,h⟩;exact .inl ⟨rfl,rfl⟩;exact .inr ⟨j,b,e,rfl,g,λk i=>by rw[<-h k i];grind[World.cell?_of_block]⟩
def Rd.of_heap{w w':Y}{rest:eF}(i:Rd w b rest S)(h:w'.heap=w.heap):Rd w' b rest S:=by
 obtain⟨v,d,e,g⟩:=i;exact⟨v,by rw[h];exact d,e.of_heap h,g⟩
def Steps.of_heap{w w':Y}(h:Steps w)(e:w'.heap=w.heap):Steps w':=λk b=>by
 rw[<-h k b];grind[World.cell?_of_block]
def Steps.grown{w w':Y}{a:Option M}(h:Steps w)(c:w.grownBy w' a)(b:a≠H 1):Steps w':=λk d=>c.cell (h k d)<|λe=>b e.symm
def Steps.alloc{w:Y}(h:Steps w)(o:Obj):Steps (dd w o):=λk c=>by
 have a:=h k c;have d:1<z (G w):=by by_cases b:1<z (G w);exact b;have:w.heap[(1:M)]?=none:=(by grind);simp[World.cell?,this]at a
 rw[<-a];grind[World.cell?_of_block,Below.heap_alloc]
def Steps.lt(h:Steps a):1<z (G a):=by
 have c:=h 0 (by decide);by_cases d:1<z (G a);exact d;have:a.heap[(1:M)]?=none:=(by grind);simp[World.cell?,this]at c
def E.value(e:E):ab:=dL #[am e.key,am e.val,aM e.del,aG e.bQ]
def E.cells(e:E):ix:=[am e.key,am e.val,aM e.del,aG e.bQ]
def qF(d:Bool):U:=if d then 1 else 0
def eL(s:ae):eF:=(s.size:U)::kZ s
def oK(e:E):eF:=qF e.del::(eL e.key++eL e.val)
def eJ.ne(h:eJ a A d t)(e:cI d≠H b)(c:b<z (G a)):cI t≠H b:=by
 grind[eJ.vQ]
def eJ.cell{w w':Y}(h:eJ w w' d L){N i:M}{u:ab}(a:aW w (R N i)=H u)(c:cI d≠H N):aW w' (R N i)=H u:=h.grown.cell a<|λe=>c e.symm
def fg.lt{bs:eF}(h:fg a c d bs):∀k,cI d=H k->c<=k/\k<z (G a):=bN h
def fg.of_heap{w w':Y}(h:fg w b d n)(e:w'.heap=w.heap):fg w' b d n:=by
 unfold fg World.ownsRow at*;rw[e];exact h
def eJ.of_heap{a w w':Y}(h:eJ w w' d t)(e:(a.os,a.tape,a.output,a.heap)=(w.os,w.tape,w.output,w.heap)):eJ a w' d t:=by
 simp only[io]at e;obtain⟨g,i,j,b⟩:=e;refine⟨⟨by rw[h.grown.os,g],by rw[h.grown.tape,i],by rw[h.grown.output,j],by rw[b];exact h.grown.size,λl e k=>by rw[b]at e|-;exact h.grown.block l e k⟩,by rw[b];exact h.vQ⟩
def eJ.JE{o:Obj}(h:eJ (a.alloc o).drew f d t):eJ a f d t:=(eJ.of_heap (a:=a.alloc o) h rfl).alloc o
def RI(a:M)(aa:ab)(o:eF)(ac:E)(w:Y)(p:fg w a aa o)(hb:a<=z (G w))(hl:y o<=35184372088832)(S:ac.key.size<=255)(V:ac.val.size<=255):cY bA 180 #[aa,ac.value] w λD w'=>∃v',D=aN v'/\fg w' a v' (o++oK ac)/\eJ w w' aa v':=by
 obtain⟨b,e,B,k⟩:=ac;simp only at S V;unfold E.value;simp only;have i:cI aa≠H (z<|G w):=λD=>by have:=(p.lt _ D).2;omega
 have O0:=X<|p.alloc<|ay #[am b,am e,aM B,aG k] 171;cases B with
 |true=>
  go_in
  go_wp2_with fail
  go_region_held3(λj=>aW j (R (z<|G w) 0)=H (am b)/\aW j (R (z<|G w) 1)=H (am e)) (first|assumption|go_keep) (first
   |(go_at_call 179;refine(uV a aa o 1 _ ?_ (by simp;omega)<|by omega).mono ?_;exact O0.of_heap rfl;rintro D x⟨u,rfl,q,c⟩;have f:cI u≠H (z<|G w):=c.ne i (by simp);have m:aW x (R (z<|G w) 0)=H (.string b)/\aW x (R (z<|G w) 1)=H (.string e):=⟨c.cell (by simp) i,c.cell (by simp) i⟩;have t:z (G w)<z (G x):=(by have:=c.grown.size;simp at this;omega);have F:=X q;have N:=X c)
   |(go_at_call_of 230 u;refine(pR a u (o++[1]) b _ ?_ (by omega) ?_ S).mono ?_;exact F.of_heap rfl;(simp;omega);rintro D A⟨v,rfl,r,d⟩;have l:cI v≠H (z<|G w):=d.ne f t;have n:aW A (R (z<|G w) 0)=H (.string b)/\aW A (R (z<|G w) 1)=H (.string e):=⟨d.cell m.1 f,d.cell m.2 f⟩;have W:z (G w)<z (G A):=(by have:=d.grown.size;omega);have K:=X r;have O:=X<|N.trans d)
   |(go_at_call_of 230 v;refine(pR a v (o++[1]++eL b) e _ ?_ (by omega) ?_ V).mono ?_;exact K.of_heap rfl;(simp[eL,iq];omega);rintro D C⟨v3,rfl,s,g⟩;have T:aW C (R (z (G w)) 0)=H (.string b)/\aW C (R (z (G w)) 1)=H (.string e):=⟨g.cell n.1 l,g.cell n.2 l⟩;have L:=X s;have P:=X (O.trans g)))
  go_wp2;go_ret;refine⟨v3,rfl,?_,P.JE⟩;have Q:=J L;simpa[oK,qF,eL,bj]using Q
 |false=>
  go_in
  go_wp2_with fail
  go_region_held3(λj=>aW j (R (z<|G w) 0)=H (am b)/\aW j (R (z<|G w) 1)=H (am e)) (first|assumption|go_keep) (first
   |(go_at_call 179;refine(uV a aa o 0 _ ?_ (by simp;omega)<|by omega).mono ?_;exact O0.of_heap rfl;rintro D x⟨u,rfl,q,c⟩;have f:cI u≠H (z<|G w):=c.ne i (by simp);have m:aW x (R (z<|G w) 0)=H (.string b)/\aW x (R (z<|G w) 1)=H (.string e):=⟨c.cell (by simp) i,c.cell (by simp) i⟩;have t:z (G w)<z (G x):=(by have:=c.grown.size;simp at this;omega);have F:=X q;have N:=X c)
   |(go_at_call_of 230 u;refine(pR a u (o++[0]) b _ ?_ (by omega) ?_ S).mono ?_;exact F.of_heap rfl;(simp;omega);rintro D A⟨v,rfl,r,d⟩;have l:cI v≠H (z<|G w):=d.ne f t;have n:aW A (R (z<|G w) 0)=H (.string b)/\aW A (R (z<|G w) 1)=H (.string e):=⟨d.cell m.1 f,d.cell m.2 f⟩;have W:z (G w)<z (G A):=(by have:=d.grown.size;omega);have K:=X r;have O:=X<|N.trans d)
   |(go_at_call_of 230 v;refine(pR a v (o++[0]++eL b) e _ ?_ (by omega) ?_ V).mono ?_;exact K.of_heap rfl;(simp[eL,iq];omega);rintro D C⟨v3,rfl,s,g⟩;have T:aW C (R (z (G w)) 0)=H (.string b)/\aW C (R (z (G w)) 1)=H (.string e):=⟨g.cell n.1 l,g.cell n.2 l⟩;have L:=X s;have P:=X (O.trans g)))
  go_wp2;go_ret;refine⟨v3,rfl,?_,P.JE⟩;have Q:=J L;simpa[oK,qF,eL,bj]using Q
theorem qy{b:Bool}(h:S=b):Ending.returned (aM S)=aN (aM b):=by rw[h]
theorem rC(s:ae)(w:Y)(f:s.size<=140737488351232):cY bA 70 #[am s] w λe d=>e=aN (aM<|decide<|1<=s.size/\s.size<=8)/\d=w:=by
 by_cases b:1<=s.size;(.by_cases c:s.size<=8;(·(have a:decide (1<=s.size/\s.size<=8)=cf:=by simp[b,c]);rw[a];(go_in);go_wp2;go_ret;exact⟨qy (by simp;omega),rfl⟩);(have a:decide (1<=s.size/\s.size<=8)=bw:=by simp[b,c]);rw[a];(go_in);go_wp2;go_ret;exact⟨qy (by simp;omega),rfl⟩);(have a:decide (1<=s.size/\s.size<=8)=bw:=by simp[b]);rw[a];(go_in);go_wp2;go_ret;simp_all
theorem yS(s:ae)(w:Y)(d:s.size<=140737488351232):cY bA 71 #[am s] w λe c=>e=aN (aM<|decide<|s.size<=16)/\c=w:=by
 by_cases b:s.size<=16;(·(have a:decide (s.size<=16)=cf:=by simp[b]);rw[a];(go_in);go_wp2;go_ret;exact⟨qy (by simp;omega),rfl⟩);(have a:decide (s.size<=16)=bw:=by simp[b]);rw[a];(go_in);go_wp2;go_ret;exact⟨qy (by simp;omega),rfl⟩
structure E.Good(x:E):Prop where
 WP:1<=x.key.size
 NG:x.key.size<=8
 val:x.val.size<=16
 del:x.del=cf->x.val=⟨#[]⟩
 b0:0<=x.bQ
 b1:x.bQ<18446744073709551616
theorem mT(a b:eF):jR (a++b) bw (y a)=(b,bw,a):=by
 unfold jR;rw[dt<|by simp];simp
def wQ(s:ae)(b:eF):Fa (eL s++b) bw=(b,bw,kZ s)/\num (eL s++b) bw 1=s.size:=by
 have a:jR (eL s++b) bw 1=(kZ s++b,bw,[(s.size:U)]):=by have:=mT [(s.size:U)]<|kZ s++b;simpa[eL]using this
 have c:num (eL s++b) bw 1=s.size:=by unfold num;rw[a];simp[mF]
 refine⟨?_,c⟩;unfold Fa;grind[mT,iq]
def NE(d:Bool)(b:eF):jR (qF d::b) bw 1=(b,bw,[qF d])/\num (qF d::b) bw 1=qF d:=by
 have h:=mT [qF d] b;have a:jR (qF d::b) bw 1=(b,bw,[qF d]):=by simpa using h
 exact⟨a,by unfold num;rw[a];simp[mF]⟩
def xF(n:U):ab:=if n=0 then .nilIface else .iface 52 (aq n)
def Nj{b:oR}(hp:Ik a d b)(hv:∀ac,cI d=H ac->ac<z (G a))(hr:y b<=1000000000000)(hz:∀T∈b,T.key.size<=140737488351232/\T.val.size<=140737488351232):cY bA 33 #[d] a λp l=>p=aN (xF<|fZ b)/\Z aw a l:=by
 have P:∀(T:Bool)(a:Y),(Op.unary .not<|aM T).run bA a=.ok (aM<|!T) a:=λ_ _=>rfl;obtain⟨h1,⟨rfl,h0⟩|⟨N,e,W,rfl,aa,hc⟩⟩:=hp;(.obtain rfl:b=[]:=aS h0;(go_in);go_wp2;(go_loopw [11] (λQ wr=>Q=aq 0/\wr=a) (λ_ _=>0));(case atStart=>grind);(case round=>obtain⟨rfl,c⟩:=hrel;subst wr;go_wp2;go_ret;exact⟨rfl,Z.refl _ _⟩))
 .have E:N<z (G a):=hv N rfl;have B:=X hc;have V:=X hz;by_cases O:8<y b
  .have D:=X (show fZ b=2 by unfold fZ;rw[di O]);have e1:(8:U)<(y b:U):=by omega
   go_in
   go_wp2;go_ret;exact⟨by rw[J D];rfl,Z.refl _ _⟩
  .have D:=X (show fZ b=mX b by unfold fZ;rw[dt O]);have e1:¬(8:U)<(y b:U):=by omega
   go_in
   go_wp2;go_loopw [11] (λQ wr=>∃n:M,n<=y b/\Q=aq n/\fZ b=mX (b.drop n)/\Z aw a wr) (λQ _=>y b-(intOf Q).toNat)
   case atStart=>exact⟨0,bK _,rfl,D,Z.refl _ _⟩
   case round=>
    obtain⟨n,hn,rfl,K,i⟩:=hrel;have C:=X K;by_cases c:n<y b
    .have F:=lW b n c;have q:aW wr (R N<|e+n*3)=H (am b[n].key):=i.cell (B _ _ F.1) id E;have r:aW wr (R N<|e+n*3+1)=H (am b[n].val):=i.cell (by rw[bD];exact B _ _ F.2.1) id E;have s:aW wr (R N<|e+n*3+2)=H (aM b[n].del):=i.cell (by rw[bD];exact B _ _ F.2.2) id E;have u:=V _<|ar c;have f:=X i;by_cases v:b[n].key.size=0\/8<b[n].key.size
     .have o:=X<|C.trans<|Ep c v;generalize b[n]=S at*;obtain⟨x,A,L⟩:=S;simp only at q r s v u;have g:∀W,cY bA 70 #[am x] W λp l=>p=aN (aM bw)/\l=W:=by
       grind[rC,qy]
      go_wp2_with fail
      apply(g _).mono;rintro p m⟨rfl,k⟩;subst m;go_wp2;go_ret;exact⟨by rw[J o];rfl,f.alloc _⟩
     .by_cases j:b[n].del=bw/\16<b[n].val.size
      .have o:=X<|C.trans<|Eo c v j;generalize b[n]=S at*;obtain⟨x,A,L⟩:=S;simp only at q r s v j u;obtain⟨rfl,w⟩:=j;have g:∀W,cY bA 70 #[am x] W λp l=>p=aN (aM cf)/\l=W:=by
        grind[rC,qy]
       have t:∀W,cY bA 71 #[am A] W λp l=>p=aN (aM bw)/\l=W:=by
        grind[yS,qy]
       go_wp2_with fail
       apply(g _).mono;rintro p m⟨rfl,k⟩;subst m;go_wp2_with fail
       apply(t _).mono;rintro p m⟨rfl,k⟩;subst m;go_wp2;go_ret;exact⟨by rw[J o];rfl,f.alloc _⟩
      .have o:=X<|C.trans<|GN c v j;generalize b[n]=S at*;obtain⟨x,A,L⟩:=S;simp only at q r s v j u;have g:∀W,cY bA 70 #[am x] W λp l=>p=aN (aM cf)/\l=W:=by
        grind[rC,qy]
       cases L with
       |true=>
        go_wp2_with fail
        apply(g _).mono;rintro p m⟨rfl,k⟩;subst m;go_wp2;go_roundw;case rel=>exact⟨n+1,c,by go_num,o,f.alloc _⟩
        case measure=>simp[intOf];omega
       |false=>
        have w:A.size<=16:=by grind
        have t:∀W,cY bA 71 #[am A] W λp l=>p=aN (aM cf)/\l=W:=by
         grind[yS,qy]
        go_wp2_with fail
        apply(g _).mono;rintro p m⟨rfl,k⟩;subst m;go_wp2_with fail
        apply(t _).mono;rintro p m⟨rfl,k⟩;subst m;go_wp2;go_roundw;case rel=>exact⟨n+1,c,by go_num,o,f.alloc _⟩
        case measure=>simp[intOf];omega
    .have g:n=y b:=by omega
     have o:=X (show fZ b=0 by rw[K,g,gz];rfl);have f:=X i;have j:¬(n:U)<(y b:U):=by omega
     clear K i g;go_wp2;go_ret;exact⟨by rw[J o];rfl,f⟩
def p9(u:ab):Prop:=(∃b,u=aM b)\/∃x n c,u=I x n c
def Il(w:Y)(v:ab):Prop:=∀k a t b,cI v=H k->w.heap[k]?=H (ay a t b)->∀u∈a.toList,p9 u
def Il.aj{S:fh}{w w':Y}(m:Il w d)(l:Z S w w')(g:∀k,cI d=H k->¬S k)(j:∀k,cI d=H k->k<z (G w)):Il w' d:=λk a t e c h=>m k a t e c<|(l.block k (j k c)<|g k c).symm.trans h
theorem Im{a:Array ab}(h:∀x∈a.toList,p9 x)(f:0<a.size)(c:d∈(Builtin.zeroCells a b).toList):p9 d:=by
 unfold Builtin.zeroCells at c;obtain⟨i,_,g⟩:=Array.mem_map.1<|Array.mem_toList_iff.1 c;have e:i%a.size<a.size:=wK _ f;rw[Array.getElem!_eq_getD,Array.getD_eq_getD_getElem?,uD e,oJ]at g;rw[<-g];grind
theorem Db{P:Program}{ao:Oper}{aF:Act}{bc:Act->Y->Prop}{bg:Exit->Act->Y->Prop}(bf aU:Operand)(ap:TypeId)(ac:ao.op=Op.call {callee:=Callee.builtin Builtin.append,args:=#[bf,aU],argTypes:=#[ap,ap]})(c:M)(L:TypeId)(T:TypeInfo)(j:ab)(d bytes:M)(S:P.underlying ap=H (.slice L))(O:P.info? L=H T)(hz:T.zero=H j)(l:T.size=d)(D:T.bytes=bytes)(an:j.cells.size=d)(ad:0<d)(ax:ab)(V:M)(x:ix)(hs:aF.eval bf=ax)(i:a.ownsRow c L d ax V x)(v:Addr)(K au:M)(b:ix)(hx:aF.eval aU=I (H v) K au)(F:y b=K*d)(f:∀av u,b[av]?=H u->aW a (v.add av)=H u)(h1:∀u∈b,u.oneCell'=cf)(hn:V+K<=140737488355328)(e:(V+K)*bytes<=140737488355328)(o:c<=z (G a))(hm:0<K)(kz:∀u∈j.cells.toList,p9 u)(kn:∀u∈b,p9 u)(ko:Il a ax)(hK:∀s t,t.ownsRow c L d s (V+K) (x++b)->eJ a t ax s->Il t s->bc (aF.put ao.dst s) t):Oper.wp P ao aF a bc bg:=by
 obtain⟨s,t,Q,h2,h3,_,h5⟩:=nG (P:=P) a c ap ao.type L T j d bytes S O hz l D an ad ax V x i v K au b F f h1 (by unfold maxLen;omega) e o;have p:Il t s:=by subst l;subst D;rcases i.2 with⟨rfl,rfl⟩|⟨W,n,h,rfl,aV,N,bb,ba,aa,r⟩;(have g:=run_append_nil (P:=P) a ap ao.type L T j S O hz v K au b F f hm (by omega) (by have k:=e;grind);rw[Q]at g;injection g with B C;intro bd h t' fr p w u m;subst B C;cases p;have E:=(iE a.drew _).symm.trans w;grind[Array.toList_append,Im]);by_cases k:V+K<=n;((have q:V*T.size+y b<=h.size:=by rw[F,aa,<-Nat.add_mul];exact Nat.mul_le_mul_right _ k);have g:=run_append_room (P:=P) a ap ao.type L T S O W V n h N v K au b F f h1 k q;rw[Q]at g;injection g with B C;intro bd A t' fr p w u m;subst B C;cases p;rw[uH a W h _ L _ N]at w;cases w;have nh:∀aU∈h.toList,p9 aU:=ko W h _ _ rfl N;grind);have q:∀av u,x[av]?=H u->aW a (((R W 0):Addr).add av)=H u:=i.cells (g:=W) rfl;have g:=run_append_grow (P:=P) a ap ao.type L T j S O hz (R W 0) V n x i.1 q v K au b F f (by omega) (by omega)<|tM (by omega) e;rw[Q]at g;injection g with B C;intro bd A t' fr p w u m;subst B C;cases p;have E:=(iE a.drew _).symm.trans w;cases E;rw[sS,aA,sS,aA]at m;rcases m with(m|m)|m;(have al:u∈x:=by simpa using m);rw[<-r]at al;exact ko W h _ _ rfl N u (by grind);(grind);grind[Im]
 unfold Oper.wp;simp[execOp,ac,resolve,invoke,builtin,hs,hx,Q,Result.andThen];exact hK s t h2 (eJ.of h3 h5) p
def Ak{P:Program}(w:Y){e:Array Oper}{rest:ci Oper}{t:Oper}{p:Act}{Q:Exit->Act->Y->Prop}(A:t.guard=none)(K L:Operand)(E:TypeId)(B:t.op=Op.call {callee:=Callee.builtin Builtin.append,args:=#[K,L],argTypes:=#[E,E]})(b:M)(q:TypeId)(r:TypeInfo)(d:ab)(a bytes:M)(ht:P.underlying E=H (.slice q))(S:P.info? q=H r)(hz:r.zero=H d)(k:r.size=a)(x:r.bytes=bytes)(D:d.cells.size=a)(C:0<a)(v:ab)(s:M)(o:ix)(hs:p.eval K=v)(n:w.ownsRow b q a v s o)(l:Addr)(m N:M)(c:ix)(hx:p.eval L=I (H l) m N)(V:y c=m*a)(j:∀F u,c[F]?=H u->aW w (l.add F)=H u)(O:∀u∈c,u.oneCell'=cf)(hn:s+m<=140737488355328)(f:(s+m)*bytes<=140737488355328)(i:b<=z (G w))(W:0<m)(kz:∀u∈d.cells.toList,p9 u)(kn:∀u∈c,p9 u)(ko:Il w v)(aa:∀g h,h.ownsRow b q a g (s+m) (o++c)->eJ w h v g->Il h g->wpList P e Q rest (p.put t.dst g) h):wpList P e Q (t::rest) p w:=by
 grind[wpList_plain,Db]
def Lq(b c:ae):(b==c)=decide (b=c):=by
 obtain⟨x⟩:=b;obtain⟨a⟩:=c;show(x==a)=_;by_cases h:x=a;simp[h];simp[h]
abbrev eU:=ci<|ae×ab
def eU.get(m:eU)(k:ae):Option ab:=match m with
 |[]=>none
 |p::r=>if p.1=k then H p.2 else eU.get r k
def Fits(a:ci MapEntry)(m:eU):Prop:=a.map (λe=>(e.key,e.val))=m.map (λp=>(am p.1,p.2))
def Fits.cons_inv{e:MapEntry}{a:ci MapEntry}{m:eU}(h:Fits (e::a) m):∃p r,m=p::r/\e.key=am p.1/\e.val=p.2/\Fits a r:=by
 cases m with
 |nil=>simp[Fits]at h
 |cons p r=>
  simp[Fits]at h;exact⟨p,r,rfl,h.1.1,h.1.2,h.2⟩
def KO(k:ae):∀(a:ci MapEntry)(m:eU)(i:M),Fits a m->∃l,Instr.findNow .string (am k) a i=H ((m.get k).map λv=>(l,v)):=by
 intro a;induction a with
 |nil=>
  intro m i h;obtain rfl:m=[]:=by simpa[Fits]using h
  exact⟨0,rfl⟩
 |cons n a j=>
  intro m i h;obtain⟨p,r,rfl,c,g,f⟩:=h.cons_inv;by_cases d:p.1=k
  .refine⟨i,?_⟩;simp[Instr.findNow,Instr.sameNow,c,eU.get,d,g,Lq]
  .obtain⟨l,e⟩:=j r (i+1) f;refine⟨l,?_⟩;have b:(k==p.1)=bw:=by rw[Lq];grind
   simp[Instr.findNow,Instr.sameNow,c,eU.get,d,b,e]
def gv(w:Y)(c:M)(m:eU):Prop:=∃b a,w.heap[c]?=H (.map b a)/\Fits b.toList m/\MapKept.Stamped b a
def yu{P:Program}{mt l i n:M}{m:eU}{u:TypeInfo}(s:P.underlying mt=H (.map l i))(j:P.underlying l=H .string)(q:P.info? i=H u)(t:u.zero=H d)(v:gv a n m)(k:ae):(Instr.lookup mt (.map<|H n) (am k) bw).run P a=.ok ((m.get k).getD d) a:=by
 obtain⟨c,b,p,o,_⟩:=v;obtain⟨w,r⟩:=KO k c.toList m 0 o;have e:=iF (P:=P) (w:=a) (k:=am k) j (by trivial) c.isEmpty 9999;have g:=ir (P:=P) (w:=a) j r;have h:(getObj n).run P a=.ok (.map c b) a:=by simp[getObj,Sem.run,p]
 unfold Instr.lookup;rw[jY,fI s];simp only[nI,jY,h,wJ];rw[show(10000:M)=9999+1 from rfl,e];simp only[nI,g];cases hg:m.get k with
 |none=>simp[zeroValue,typeInfo,q,t]
 |some x=>simp
def yT:(prog.info? 85).map (λi=>(i.zero,i.size,i.bytes))=H (H<|dC none,1,8):=by kernel_rfl
abbrev fj(q:M):ab:=.iface 192<|aD q
def Nm(n:ae):Prop:=n.size<=1000000
def sF(w:Y)(q:M)(c:U):Prop:=∃n,w.heap[q]?=H (ay #[am n,aq c] 194 (0,0))/\Nm n
def sF.new(w:Y)(c:U)(h:Nm r):sF (dd w<|ay #[am r,aq c] 194) (z<|G w) c:=⟨r,iE _ _,h⟩
structure Cv where
 room:U
 wt:U
 bd:U
 reads:U
 Nd:U
 any:Bool
def Cv.ok(f:Cv):Prop:=(0<=f.wt/\f.wt<=9223372036854775807)/\0<=f.bd/\f.bd<=9223372036854775807
structure Fx(f f':Cv):Prop where
 ok:f.ok->f'.ok
 room:f'.room=f.room
 bd:f.bd=0->f'.bd=0
 any:f'.any=f.any
def Fx.refl(f:Cv):Fx f f:=⟨id,rfl,id,rfl⟩
def Fx.trans{f g h:Cv}(a:Fx f g)(b:Fx g h):Fx f h:=⟨λq=>b.ok<|a.ok q,b.room.trans a.room,λq=>b.bd<|a.bd q,b.any.trans a.any⟩
def EH(f:Cv):Prop:=f.any=cf\/f.room<1000000000
def Fx.o6{f g:Cv}(a:Fx f g)(h:EH f):EH g:=by
 unfold EH;rw[a.any,a.room];exact h
def Fx.Z6{f g:Cv}(a:Fx f g)(h:EH g):EH f:=by
 unfold EH at h;rw[a.any,a.room]at h;exact h
def Fx.pos{f g:Cv}(c:Fx f g)(a:f.ok)(h:0<g.bd):0<f.bd:=by
 have d:=a.2.1;have e:=c.bd;omega
def iW(w:Y)(b d a:M)(c:ab)(f:Cv):Prop:=w.heap[b]?=H (ay #[.map<|H d,.map<|H a,c,aq f.room,aq f.wt,aq f.bd,aq f.reads,aq f.Nd] 63 (0,0))
def V9(w b:Y)(c f a:M)(e:ab)(d:Cv)(i:Ending):Prop:=∃g h,i=aN (aM g)/\iW b c f a e h/\Z (λk=>k=c) w b/\z (G b)=z (G w)/\Fx d h/\(g=cf->0<d.bd)
def UF{m:Cv}(h:iW a b c i d m)(u:m.ok):cY bA 170 #[aD b] a λA x=>V9 a x b c i d m A:=by
 obtain⟨g,wt,k,f,e,l⟩:=m;obtain⟨⟨v,w⟩,n,o⟩:=u;simp only at v w n o;have c4:=cellAt h 4 rfl;have c5:=cellAt h 5 rfl;have B:a.frozen? (R b 4)=bw:=cQ h;have C:a.frozen? (R b 5)=bw:=cQ h;simp only at c4 c5;have j:=X h;clear h;by_cases D:0<wt;(·(have p:IntKind.i64.wrap (wt-1)=wt-1:=by rw[bP];omega);(go_in);go_wp2;go_ret;refine⟨bw,⟨g,wt-1,k,f,e,l⟩,rfl,?_,iT b a,by simp,⟨λ_=>⟨⟨by grind,by grind⟩,n,o⟩,rfl,id,rfl⟩,λq=>by cases q⟩;unfold iW;rw[aJ<|J j];rfl);(have r:wt=0:=by omega);subst r;by_cases s:0<k;(·(have p:IntKind.i64.wrap (k-1)=k-1:=by rw[bP];omega);(go_in);go_wp2;go_ret;refine⟨cf,⟨g,0,k-1,f,e,l⟩,rfl,?_,iT b a,by simp,⟨λ_=>⟨⟨sa _,by grind⟩,by grind,by grind⟩,rfl,(by grind),rfl⟩,λ_=>s⟩;unfold iW;rw[aJ<|J j];rfl);(have t:k=0:=by omega);subst t;(go_in);go_wp2;go_ret;exact⟨bw,_,rfl,j,Z.refl _ _,rfl,Fx.refl _,λq=>by cases q⟩
structure ja where
 D:Y->Prop
 F:M->Prop
 fc:∀{w w':Y}{S:fh},D w->Z S w w'->(∀k,S k->¬F k)->D w'
 lt:∀{w:Y}{k:M},D w->F k->k<z (G w)
 Xp:Prop
variable{s:ja}
def kS(V:ja)(b:M)(S:fh)(w a:Y):Prop:=z (G w)<=z (G a)/\∀k,((k<b/\¬V.F k)\/S k)->a.heap[k]?=w.heap[k]?
def kS.refl(V:ja)(a:M)(S:fh)(w:Y):kS V a S w w:=⟨ag _,λ_ _=>rfl⟩
def kS.trans{S:fh}{d b e:Y}(h:kS s c S d b)(k:kS s c S b e):kS s c S d e:=⟨aB h.1 k.1,λi a=>(k.2 i a).trans<|h.2 i a⟩
def kS.mono{S T:fh}{e b:Y}(h:kS s c S e b)(a:∀k,T k->S k):kS s c T e b:=⟨h.1,λi d=>h.2 i<|d.imp id<|a i⟩
def kS.cell{a b:Y}(h:kS s c o a b){k i:M}(g:o k\/(k<c/\¬s.F k))(e:aW a (R k i)=H d):aW b (R k i)=H d:=(dy (w:=a)<|h.2 k g.symm).trans e
def Z.same{V:ja}{n0:M}{S T:fh}(h:Z T a f)(i:n0<=z (G a))(c:∀k,S k->k<z (G a)/\¬T k)(g:∀k,T k->k<n0->V.F k):kS V n0 S a f:=by
 refine⟨h.size,λk d=>?_⟩;rcases d with⟨b,e⟩|b;exact h.block k (by omega) (by grind);exact h.block k (c k b).1 (c k b).2
theorem aK{w:Y}(o:Obj)(h:c=z (G w)):(dd w o).heap[c]?=H o:=by
 subst h;show(w.heap.push o)[z<|G w]?=H o;simp
theorem gq{w:Y}(o:Obj)(h:b<z (G w)):(dd w o).heap[b]?=w.heap[b]?:=Below.heap_alloc w o b h
def km(u:ab)(h:b≠c):(cH a (R c i) u).heap[b]?=a.heap[b]?:=Below.heap_setCell a (R c i) u b h
theorem im{b i:M}:z (G<|cH a (R b i) d)=z (G a):=by simp_all
abbrev eX(w:Y)(b:M)(v:ab)(t:TypeId):Prop:=w.heap[b]?=H (ay #[v] t (0,0))
theorem eX.cell{b:M}{t:TypeId}(h:eX a b d t):aW a (R b 0)=H d:=by rw[ct h];rfl
theorem eX.free{t:TypeId}(h:eX a b d t):a.frozen? (R b 0)=bw:=cQ h
def eX.set{t:TypeId}(h:eX a b d t)(u:ab):eX (cH a (R b 0) u) b u t:=(aJ h).trans rfl
def eX.other{t:TypeId}(h:eX a b d t){b' i:M}(u:ab)(c:b≠b'):eX (cH a (R b' i) u) b d t:=(km u c).trans h
theorem eX.alloc{w:Y}{t:TypeId}(h:eX w b d t)(o:Obj):eX (dd w o) b d t:=(gq o<|ak h).trans h
def jb(w:Y)(b:M)(x:E):Prop:=w.heap[b]?=H (ay #[am x.key,am x.val,aM x.del,aG x.bQ] 171 (0,0))
def jb.cells(h:jb a b w):aW a (R b 0)=H (am w.key)/\aW a (R b 1)=H (am w.val)/\aW a (R b 2)=H (aM w.del)/\aW a (R b 3)=H (aG w.bQ):=by
 refine⟨?_,?_,?_,?_⟩<;>rw[ct h]<;>rfl
def jb.free{b i:M}(h:jb a b w):a.frozen? (R b i)=bw:=cQ h
def jb.alloc{w:Y}{x:E}(h:jb w b x)(o:Obj):jb (dd w o) b x:=(gq o<|ak h).trans h
def jb.aj{w w':Y}{b:M}{x:E}{S:fh}(h:jb w b x)(c:Z S w w')(a:¬S b):jb w' b x:=(c.block b (ak h) a).trans h
def jb.put{b:M}(h:jb a b w)(c:E):jb (cH (cH (cH (cH a (R b 0)<|am c.key) (R b 1)<|am c.val) (R b 2)<|aM c.del) (R b 3)<|aG c.bQ) b c:=(aJ<|aJ<|aJ<|aJ h).trans rfl
def fV{c:Func}{p u v:Tmp}(i:c.results=#[.cell p 171,.tmp u,.tmp v])(a:Array ab)(w:Y)(g:M)(x:E)(t:TypeId)(d:M×M)(h:a.getD p iM=aD g)(e:w.heap[g]?=H (ay #[am x.key,am x.val,aM x.del,aG x.bQ] t d)):(results c a).run bA w=.ok (dA #[x.value,a.getD u iM,a.getD v iM]) w:=by
 have b:a[p]?.getD iM=aD g:=by simpa using h
 have f:=kH (P:=bA) w g t 171 #[am x.key,am x.val,aM x.del,aG x.bQ] d _ e underlying171 rfl (by kernel_rfl);simp[results,i,b,asAddr,f,Result.andThen,E.value]
def xg:ab:=dL #[am ⟨#[]⟩,am ⟨#[]⟩,aM bw,aG 0]
structure vN(V:ja)(n0:M)(S:fh)(w:Y):Prop where
 size:n0<=z (G w)
 aH:∀k,V.F k->k<n0
 each:∀k,S k->n0<=k/\k<z (G w)
def AS(w:Y)(q:M):Prop:=sF w q 8
def AS.aj{w w':Y}{q:M}{S:fh}(h:AS w q)(c:Z S w w')(e:∀k,S k->k=q->∃d t r,w.heap[k]?=H (ay d t r)/\t≠194):AS w' q:=by
 obtain⟨n,h,a⟩:=h;refine⟨n,(c.block q (ak h)<|λd=>?_).trans h,a⟩;grind
def EA(V:ja)(w a:Y)(S:fh)(e:Ending)(r:ab->ab):Prop:=V.Xp/\∃q,e=aN (r<|fj q)/\AS a q/\V.D a/\Z S w a
abbrev bE(v:ab):ab:=dA #[xg,aM bw,v]
def Cu(V:ja)(c g:M)(d:Array ab):cU->fh->Y->Prop
 |[],S,w=>vN V c S w/\∀b,kS V c S w b->V.D b->cY bA g d b λf a=>(f=aN (dA #[xg,aM bw,.nilIface])/\V.D a/\Z (λk=>S k\/V.F k) b a)\/EA V b a (λk=>S k\/V.F k) f bE
 |x::l,S,w=>vN V c S w/\∀b,kS V c S w b->V.D b->cY bA g d b λf a=>(f=aN (dA #[x.value,aM cf,.nilIface])/\V.D a/\Z (λk=>S k\/V.F k) b a/\∃e,(∀k,e k->S k\/z (G b)<=k)/\Cu V c g d l e a)\/EA V b a (λk=>S k\/V.F k) f bE
def vN.apart(h:vN s b o a):∀k,o k->¬s.F k:=λk d c=>by have:=h.aH k c;have:=(h.each k d).1;omega
def vN.aj{S T:fh}{w w':Y}(h:vN s c S w)(d:Z T w w'):vN s c S w':=⟨aB h.1 d.size,h.aH,λk a=>⟨(h.each k a).1,ai (h.each k a).2 d.size⟩⟩
def vN.same{V:ja}{n0:M}{S:fh}(h:vN V n0 S a)(c:kS V n0 S a f):vN V n0 S f:=⟨aB h.1 c.1,h.aH,λk b=>⟨(h.each k b).1,ai (h.each k b).2 c.1⟩⟩
def Cu.own{c f:M}{d:Array ab}(h:Cu s c f d e o a):vN s c o a:=by
 cases e<;>exact h.1
def Cu.same{V:ja}{n0 j:M}{h:Array ab}{S:fh}(i:Cu V n0 j h e S a)(b:kS V n0 S a f):Cu V n0 j h e S f:=by
 cases e with
 |nil=>exact⟨i.1.same b,λg c d=>i.2 g (b.trans c) d⟩
 |cons x e=>exact⟨i.1.same b,λg c d=>i.2 g (b.trans c) d⟩
def Out(V:ja)(P:cU->fh->Y->Prop)(l:cU)(S:fh)(w:Y)(e:Ending)(a:Y):Prop:=((∃b,e=aN (bE b)/\((l=[]/\b=.nilIface)\/(V.Xp/\∃q,b=fj q/\AS a q)))\/∃x r c,l=x::r/\e=aN (dA #[x.value,aM cf,.nilIface])/\(∀k,c k->S k\/z (G w)<=k)/\P r c a)/\V.D a/\Z (λk=>S k\/V.F k) w a
def Cu.call{h:Array ab}(n:Cu s b c h e o a)(i:s.D a):cY bA c h a (Out s (Cu s b c h) e o a):=by
 cases e with
 |nil=>
  refine(n.2 a (kS.refl _ _ _ _) i).mono ?_;rintro p m(⟨rfl,f,d⟩|⟨l,q,rfl,f,d,g⟩)
  .exact⟨(by simp),f,d⟩
  .exact⟨(by grind),d,g⟩
 |cons x e=>
  refine(n.2 a (kS.refl _ _ _ _) i).mono ?_;rintro p m(⟨rfl,f,d,j,g,k⟩|⟨l,q,rfl,f,d,g⟩)
  .exact⟨.inr ⟨x,e,j,rfl,rfl,g,k⟩,f,d⟩
  .exact⟨(by grind),d,g⟩
def Cu.of{r:Array ab}(P:cU->fh->Y->Prop)(j:∀{l S w},P l S w->vN s b S w)(m:∀{l S w e},P l S w->kS s b S w e->P l S e)(i:∀{l S w},P l S w->s.D w->cY bA c r w (Out s P l S w)):∀{l:cU}{S:fh}{w:Y},P l S w->Cu s b c r l S w
 |[],S,w,t=>⟨j t,λe f g=>(i (m t f) g).mono (by
  rintro A n⟨⟨u,rfl,⟨_,rfl⟩|⟨h,q,rfl,k⟩⟩|⟨C,B,o,p,_⟩,a,d⟩
  .grind
  .exact .inr ⟨h,q,rfl,k,a,d⟩
  .cases p)⟩
 |yqq::l,S,w,t=>⟨j t,λe f g=>(i (m t f) g).mono (by
  rintro A n⟨⟨u,rfl,⟨p,_⟩|⟨h,q,rfl,k⟩⟩|⟨C,B,o,p,rfl,v,x⟩,a,d⟩
  .cases p
  .exact .inr ⟨h,q,rfl,k,a,d⟩
  .cases p;exact .inl ⟨rfl,a,d,o,v,Cu.of P j m i x⟩)⟩
def jp(V:ja)(c:M)(v:ab)(l:cU)(S:fh)(w:Y):Prop:=∃f b,v=.func (.func f) #[] b/\(∀a w,(callFunc f a).run bA w=.ok (.enter f a) w)/\Cu V c f b l S w
def jp.same{V:ja}{n0:M}{S:fh}(k:jp V n0 d e S a)(i:kS V n0 S a f):jp V n0 d e S f:=by
 obtain⟨j,b,c,g,h⟩:=k;exact⟨j,b,c,g,h.same i⟩
def jp.own(j:jp s c d e o a):vN s c o a:=by
 obtain⟨f,h,k,l,g⟩:=j;exact g.own
def DD(x a:E)(w:Y):cY bA 206 #[x.value,a.value] w λf e=>f=aN (aM<|ahead x a)/\e=dd (dd w<|ay #[am x.key,am x.val,aM x.del,aG x.bQ] 171) (ay #[am a.key,am a.val,aM a.del,aG a.bQ] 171):=by
 have b:ahead x a=(Op.bytesLess x.key.toList a.key.toList||((x.key.toList==a.key.toList)&&decide (a.bQ<x.bQ))):=by unfold ahead jj;congr 2;rw[Bool.eq_iff_iff];simp only[beq_iff_eq,qe];grind[GU]
 rw[b];clear b;obtain⟨c,i,xd,g⟩:=x;obtain⟨d,l,k,j⟩:=a;unfold E.value;simp only;cases h1:Op.bytesLess c.toList d.toList with
 |true=>
  go_in
  go_wp2;go_ret;simp_all
 |false=>
  cases h2:(c.toList==d.toList)with
  |true=>
   go_in
   go_wp2;go_ret;simp_all
  |false=>
   go_in
   go_wp2;go_ret;simp_all
def Ar{f:M}(A:Array ab)(n:M)(p:M->Bool)(w:Y)(C:Enters bA f)(hn:n<=1000000000000)(E:∀aa P,aa<=P->P<n->p aa=cf->p P=cf)(D:∀j,j<n->∀W,Below (z<|G w) w W->cY bA f (#[aq j]++A) W λB O=>B=aN (aM<|p j)/\Below (z<|G W) W O):cY bA 204 #[aq n,.func (.func f) #[] A] w λB V=>∃L:M,B=aN (aq L)/\L<=n/\(∀j,j<L->p j=bw)/\(∀j,L<=j->j<n->p j=cf)/\Below (z<|G w) w V:=by
 have eg:∀a w,(callFunc f a).run bA w=.ok (.enter f a) w:=C;have K:∀(x:Bool)(w:Y),(Op.unary .not<|aM x).run bA w=.ok (aM<|!x) w:=λ_ _=>rfl;have x:=X E;have N:=X D;clear E D C;go_in
 go_wp2;go_loopw [5,6] (λj a wr=>∃g e:M,j=aq g/\a=aq e/\g<=e/\e<=n/\(∀t,t<g->p t=bw)/\(∀t,e<=t->t<n->p t=cf)/\Below (z<|G w) w wr) (λj a _=>(intOf a).toNat-(intOf j).toNat)
 case atStart=>exact⟨0,n,rfl,rfl,bK _,ag _,λt h=>by omega,λt s h=>by omega,Below.refl _ _⟩
 case round=>
  obtain⟨g,e,rfl,rfl,Q,k,q,r,b⟩:=hrel;obtain⟨u,v,HB⟩:=dF q r b;by_cases S:g<e
  .obtain⟨m,T⟩:∃m:M,(g+e)/2=m:=⟨_,rfl⟩;have l:m<n:=by omega
   have a:=N m l wr b;have F:((g:U)+(e:U))/2=(m:U):=by omega
   clear q r b;cases hp:p m with
   |false=>
    rw[hp]at a;have o:=X (λt(s:t<m+1)=>(show p t=bw from by
     cases c:p t with
     |false=>rfl
     |true=>have:=x t m (by omega) l c;rw[hp]at this;cases this))
    clear hp;go_wp2_with(go_at_fn f;refine a.mono ?_;rintro B w1⟨rfl,d⟩;have i:=X d;clear d)
    go_roundw;case rel=>exact⟨m+1,e,by go_num,rfl,by omega,k,o,v,HB.trans<|i.mono HB.size⟩
    case measure=>simp[intOf];omega
   |true=>
    rw[hp]at a;have o:=X<|λt(s:m<=t)(a:t<n)=>x m t s a hp;clear hp;go_wp2_with(go_at_fn f;refine a.mono ?_;rintro B w1⟨rfl,d⟩;have i:=X d;clear d)
    go_roundw;case rel=>exact⟨g,m,rfl,by go_num,by omega,by omega,u,o,HB.trans<|i.mono HB.size⟩
    case measure=>simp[intOf];omega
  .have a:g=e:=by omega
   subst a;clear q r b;go_wp2;go_ret;exact⟨g,rfl,k,u,v,HB⟩
def aI(l:cU):ix:=l.flatMap E.cells
theorem fX(l:cU):y (aI l)=y l*4:=by
 induction l with
 |nil=>rfl
 |cons e r a=>unfold aI at*;rw[dY,af,a];simp[E.cells];omega
theorem fY(a b:cU):aI (a++b)=aI a++aI b:=by simp[aI]
def eQ(l:cU)(n:M)(h:n<y l):(aI l)[n*4]?=H (am l[n].key)/\(aI l)[n*4+1]?=H (am l[n].val)/\(aI l)[n*4+2]?=H (aM l[n].del)/\(aI l)[n*4+3]?=H (aG l[n].bQ):=by
 have e:aI l=aI (l.take n)++(E.cells l[n]++aI (l.drop<|n+1)):=by(have b:l=l.take n++l[n]::l.drop (n+1):=by rw[<-bJ h,bO]);(conv=>lhs;rw[b]);simp only[aI,fJ,dY]
 have a:y (aI<|l.take n)=n*4:=by rw[fX];simp;omega
 refine⟨?_,?_,?_,?_⟩;rw[e,fp (by omega),a];simp[E.cells];rw[e,fp (by omega),a,show n*4+1-n*4=1 by omega];simp[E.cells];rw[e,fp (by omega),a,show n*4+2-n*4=2 by omega];simp[E.cells];rw[e,fp (by omega),a,show n*4+3-n*4=3 by omega];simp[E.cells]
def kJ(w:Y)(v:ab)(l:cU):Prop:=Row w 4 v (y l)<|aI l
def kJ.below{B:M}(n:kJ a d e)(k:Below B a f)(m:∀o,cI d=H o->o<B):kJ f d e:=by
 obtain⟨h,⟨rfl,j⟩|⟨i,b,c,rfl,g,l⟩⟩:=n;exact⟨h,.inl ⟨rfl,j⟩⟩;exact⟨h,.inr ⟨i,b,c,rfl,g,λn u j=>(k.cell (p:=(R i<|b+n))<|m i rfl).trans<|l n u j⟩⟩
def below_drewN{w wr:Y}(h:Below b w wr)(q:M):Below b w (wr.drewN q):=⟨h.os,h.tape,h.output,h.size,h.block⟩
def JT{b:ae}(h:r≠b):(r.toList==b.toList)=bw:=by
 grind[GU]
def jb.below{B b:M}(h:jb a b w)(c:Below B a f)(d:b<B):jb f b w:=(c.block b d).trans h
def PS(h:kJ a d e)(j:eX a b d 73)(q:jb a c w)(i:M)(L:i<y e):cY bA 205 #[aq i,aD b,aD c] a λV O=>V=aN (aM<|!ahead e[i] w)/\Below (z<|G a) a O:=by
 have p:∀(w:Bool)(a:Y),(Op.unary .not<|aM w).run bA a=.ok (aM<|!w) a:=λ_ _=>rfl;have c1:=j.cell;obtain⟨P,Q,S,T⟩:=q.cells;obtain⟨h1,⟨rfl,h0⟩|⟨l,f,m,rfl,N,F⟩⟩:=h;omega;have K:=eQ e i L;have o:=F _ _ K.1;have B:aW a (R l<|f+i*4+1)=H (am e[i].val):=by rw[bD];grind
 have C:aW a (R l<|f+i*4+2)=H (aM e[i].del):=by rw[bD];grind
 have D:aW a (R l<|f+i*4+3)=H (aG e[i].bQ):=by rw[bD];grind
 have n:=λW=>DD e[i] w W;have W:(i:U)<(y e:U):=by omega
 have e3:(0:U)<=(i:U):=by omega
 generalize e[i]=k at*;generalize ahead k w=aa at*;obtain⟨x,A,v,u⟩:=k;obtain⟨s,t,xd,r⟩:=w;unfold E.value at n;simp only at n P Q S T o B C D;have u1:=ak j;have u2:=ak q;have u3:l<z (G a):=cF _ _ o;go_in
 go_wp2_with fail
 go_region_held3(λg=>aW g (R b 0)=H (bI l f (y e) m)/\aW g (R l<|f+i*4)=H (am x)/\aW g (R l<|f+i*4+1)=H (am A)/\aW g (R l<|f+i*4+2)=H (aM v)/\aW g (R l<|f+i*4+3)=H (aG u)/\aW g (R c 0)=H (am s)/\aW g (R c 1)=H (am t)/\aW g (R c 2)=H (aM xd)/\aW g (R c 3)=H (aG r)) (first|assumption|go_keep) (first|(go_at_call 206;refine(n _).mono ?_;rintro V w1⟨rfl,rfl⟩))
 go_wp2;go_ret;have j:Below (z<|G a) a (dd (dd a<|ay #[am x,am A,aM v,aG u] 171)<|ay #[am s,am t,aM xd,aG r] 171):=((Below.refl _ a).alloc (ag _) _).alloc (by simp) _;exact⟨rfl,j.os,j.tape,j.output,j.size,j.block⟩
def CY(v:ab)(r:ae)(f:U)(w:Y)(h:kJ w v e)(F:eh e)(B:y e<=1000000000000)(K:∀f,cI v=H f->f<z (G w)):cY bA 140 #[v,am r,aG f] w λN L=>N=aN (aq<|lF e ⟨r,⟨#[]⟩,bw,f⟩)/\Below (z<|G w) w L:=by
 obtain⟨W,b⟩:∃W,dd (dd w<|ay #[v] 73) (ay #[am r,am ⟨#[]⟩,aM bw,aG f] 171)=W:=⟨_,rfl⟩;have t:Below (z<|G w) w W:=by rw[<-b];exact((Below.refl _ w).alloc (ag _) _).alloc (by simp) _
 have O:z (G W)=z (G w)+2:=by rw[<-b];simp
 have a:eX W (z<|G w) v 73:=by rw[<-b];grind[eX.alloc,aK]
 have l:jb W (z (G w)+1) ⟨r,⟨#[]⟩,bw,f⟩:=by rw[<-b];exact aK _<|by simp
 have o:=Ar #[aD<|z<|G w,aD<|z (G w)+1] (y e) (λs=>if u:s<y e then !ahead e[s] ⟨r,⟨#[]⟩,bw,f⟩else cf) W (enters_of func205 (by kernel_rfl) rfl) B (by
  intro s P m c k;have n:s<y e:=by omega
  simp only[c,n,AU]at k|-;cases d:ahead e[P] ⟨r,⟨#[]⟩,bw,f⟩with
  |false=>rfl
  |true=>rw[F.mono m c d]at k;cases k)
  (by
   intro s u A j;apply(PS (h.below (t.trans (j.mono (by omega))) K) ((j.block _ (by omega)).trans a) (l.below j (by omega)) s u).mono;grind)
 have i:=X o;obtain⟨T,S,q⟩:=bZ h;have HB:=X t;subst q;subst b;go_in
 go_wp2_with(go_at_call 204;refine i.mono ?_;rintro N Q⟨p,rfl,E,C,D,a⟩;have x:=X (show lF e ⟨r,⟨#[]⟩,bw,f⟩=p from YU E (by grind)<|by grind);have g:=X a)
 go_ret;rw[J x];exact⟨rfl,HB.trans<|g.mono (by simp;omega)⟩
def eX.same{V:ja}{n0:M}{S:fh}{t:TypeId}(h:eX a b d t)(e:kS V n0 S a f)(c:S b):eX f b d t:=(e.2 b<|.inr c).trans h
def ze(c a b:M)(v:ab)(k:M):Prop:=k=a\/k=b\/(cI v=H k/\c<=k)
structure LG(V:ja)(n0:M)(w:Y)(xi xl:M)(v:ab)(l:cU)(i:M):Prop where
 bi:eX w xi (aq i) 3
 bl:eX w xl v 73
 N5:kJ w v l
 il:xi≠xl
 own:∀k,cI v=H k->k≠xi/\k≠xl/\¬V.F k/\k<z (G w)
def LG.N4(t:LG s b a c i d e l)(q:kS s b (ze b c i d) a f):kJ f d e:=by
 have r:=t.own;obtain⟨k,⟨rfl,n⟩|⟨m,g,h,rfl,j,o⟩⟩:=t.N5;exact⟨k,.inl ⟨rfl,n⟩⟩;refine⟨k,.inr ⟨m,g,h,rfl,j,λv w p=>q.cell ?_<|o v w p⟩⟩;by_cases u:b<=m;exact .inl<|.inr<|.inr ⟨rfl,u⟩;exact .inr ⟨by omega,(r m rfl).2.2.1⟩
def Ut(V:ja)(e c f:M)(w:ab)(m:cU)(hl:y m<=1000000000000):∀(aa j:M)(W:Y),aa=y m-j->j<=y m->LG V e W c f w m j->vN V e (ze e c f w) W->Cu V e 307 #[aD c,aD f] (m.drop j) (ze e c f w) W:=by
 intro aa;induction aa with
 |zero=>
  intro j W O N g p;have a:j=y m:=by omega
  subst a;rw[gz];refine⟨p,λb i v=>?_⟩;have h0:=(g.bi.same i<|.inl rfl).cell;have L:=(g.bl.same i<|.inr<|.inl rfl).cell;have B:=X<|λd(ap:Z (ze e c f w) b d)=>V.fc v ap p.apart;have e0:=ak<|g.bi.same i<|.inl rfl;have e1:=ak<|g.bl.same i<|.inr<|.inl rfl;obtain⟨ac,k,q⟩:=bZ g.N5;rw[q]at L;clear g i v O N q;go_in
  go_wp2;refine cy (fV rfl _ _ (z<|G b) ⟨⟨#[]⟩,⟨#[]⟩,bw,0⟩ _ _ rfl<|aK _ rfl) rfl ?_;refine .inl ⟨rfl,?_⟩;have o:Z (ze e c f w) b (dd b<|ay #[am ⟨#[]⟩,am ⟨#[]⟩,aM bw,aG 0] 171):=(cO _ _);exact⟨B _ o,o.mono<|by grind⟩
 |succ aa ih=>
  intro j W O N g p;have r:j<y m:=by omega
  rw[bJ r];refine⟨p,λb i v=>?_⟩;have l:=g.bi.same i<|.inl rfl;have n:=g.bl.same i<|.inr<|.inl rfl;have h0:=l.cell;have an:=l.free;have L:=n.cell;have hE:=g.N4 i;have P:=g.own;have S:=g.il;obtain⟨B,HI,HO,HS⟩:=gw (λd(ap:Z (ze e c f w) b d)=>V.fc v ap p.apart) (λd(a:LG V e d c f w m (j+1))(g:vN V e (ze e c f w) d)=>ih (j+1) d (by omega) (by omega) a g) (p.same i) i.1;obtain⟨C,⟨rfl,al⟩|⟨u,a,k,rfl,ao,hc⟩⟩:=hE
  .omega
  have hg:=eQ m j r;have s:aW b (R u<|a+j*4)=H (am m[j].key):=hc _ _ hg.1;have E:aW b (R u<|a+j*4+1)=H (am m[j].val):=by rw[bD];grind
  have F:aW b (R u<|a+j*4+2)=H (aM m[j].del):=by rw[bD];grind
  have K:aW b (R u<|a+j*4+3)=H (aG m[j].bQ):=by rw[bD];grind
  have e0:=ak l;have e1:=ak n;have e2:u<z (G b):=cF _ _ s;have n1:c≠u:=λad=>(P u rfl).1 ad.symm;obtain⟨HE,A,x,HV⟩:=gw (show Row b 4 (bI u a (y m) k) (y m) (aI m)from⟨C,(by grind)⟩) n l P;generalize m[j]=ac at*;obtain⟨xk,xv,xd,xb⟩:=ac;simp only at s E F K;go_in
  go_wp2;refine cy (fV rfl _ _ (z<|G b) ⟨xk,xv,xd,xb⟩ _ _ rfl<|aK _ im.symm) rfl ?_;refine .inl ⟨rfl,?_⟩;have o:Z (λQ=>Q=c) b (dd (cH b (R c 0)<|aq<|j+1)<|ay #[am xk,am xv,aM xd,aG xb] 171):=(iT c b).alloc _;have t:Z (ze e c f<|bI u a (y m) k) b _:=o.mono (T:=ze e c f<|bI u a (y m) k)<|λac q=>.inl<|.inl q;refine⟨B _ t,t.mono<|λac q=>.inl<|.inl q,ze e c f _,λQ D=>.inl D,HI _ ?_<|HO.aj o⟩;refine⟨(x.set _).alloc _,(A.other _<|λad=>S ad.symm).alloc _,o.row HE ?_,S,λQ D=>?_⟩
  .rintro Q⟨⟩;grind
  .obtain⟨q1,q2,q3,q4⟩:=HV Q D;exact⟨q1,q2,q3,ai q4<|aB HS o.size⟩
def Gy(V:ja)(i:M){v:ab}{l:cU}(e:ae){w:Y}(h:kJ w v l)(K:eh l)(aa:∀P∈l,P.bQ<18446744073709551616)(F:y l<=1000000000000)(E:∀k,cI v=H k->¬V.F k/\k<z (G w))(hn:i<=z (G w))(hF:∀k,V.F k->k<i):cY bA 305 #[v,am e] w λt O=>∃N al,t=aN N/\jp V i N (gm e l) al O/\Below (z<|G w) w O/\(∀k,al k->(cI v=H k/\i<=k)\/z (G w)<=k):=by
 have hp:=λW(m:Below (z<|G w) w W)=>CY v e 18446744073709551615 W (by
  obtain⟨n,⟨rfl,x⟩|⟨u,a,b,rfl,f,B⟩⟩:=h
  .exact⟨n,.inl ⟨rfl,x⟩⟩
  .exact⟨n,.inr ⟨u,a,b,rfl,f,λL ad C=>(m.cell (p:=(R u (a+L))) (E u rfl).2).trans (B L ad C)⟩⟩) K F (λc o=>ai (E c o).2 m.size)
 obtain⟨W,q,r⟩:=dF hp (show gm e l=l.drop (lF l ⟨e,⟨#[]⟩,bw,18446744073709551615⟩)from(Tq K e _ _<|by grind).symm)<|Kd l ⟨e,⟨#[]⟩,bw,18446744073709551615⟩;have D:=bZ h;obtain⟨T,s,S⟩:=dF h E hF;generalize lF l ⟨e,⟨#[]⟩,bw,18446744073709551615⟩=Q at*;obtain⟨P,b,rfl⟩:=D;go_in
 go_wp2_with(go_at_call 140;refine(W _<|(Below.refl _ w).alloc (ag _) _).mono ?_;rintro t j⟨rfl,A⟩;have HB:=X A)
 go_ret;have o:=J HB;have ac:z (G w)+1<=z (G j):=by have:=o.size;simp_all
 have d:Below (z<|G w) w j:=((Below.refl _ w).alloc (ag _) _).trans (o.mono<|by simp);have c:Below (z<|G w) w (dd j<|ay #[aq Q] 3):=d.alloc d.size _;have p:eX j (z<|G w) (I P (y l) b) 73:=(o.block (z<|G w)<|by simp).trans<|aK _ rfl;refine⟨_,ze i (z<|G j) (z<|G w)<|I P (y l) b,rfl,⟨307,_,rfl,enters_of func307 (by kernel_rfl) rfl,?_⟩,c,?_⟩;rw[J q];refine Ut V i (z<|G j) (z<|G w) (I P (y l) b) l F _ Q _ rfl r ⟨aK _ rfl,p.alloc _,?_,by omega,λk g=>?_⟩ ⟨by simp;omega,S,λk g=>?_⟩;obtain⟨n,⟨t,x⟩|⟨u,a,m,t,f,B⟩⟩:=J T;exact⟨n,.inl ⟨t,x⟩⟩;refine⟨n,.inr ⟨u,a,m,t,f,λL ad C=>(c.cell (p:=(R u<|a+L)) ?_).trans<|B L ad C⟩⟩;exact(s u (by rw[t];rfl)).2;obtain⟨m,q2⟩:=s k g;exact⟨by omega,by omega,m,by simp;omega⟩;rcases g with rfl|rfl|⟨g,m⟩;exact⟨by omega,by simp⟩;exact⟨by omega,by simp;omega⟩;exact⟨m,by have:=(s k g).2;simp;omega⟩;rintro k(rfl|rfl|g);right;omega;right;omega;grind
def ul{σ:Type}(a:σ->E->Bool)(Hu:σ->E->σ):σ->cU->cU
 |_,[]=>[]
 |s,x::r=>if a s x then x::ul a Hu (Hu s x) r else ul a Hu (Hu s x) r
structure Cp(σ:Type)(V:ja)(n0:M)where
 f:M
 cb:Array ab
 test:σ->E->Bool
 Hu:σ->E->σ
 inv:σ->Y->Prop
 S:M->Prop
 Vq:Enters bA f
 call:∀s x w,inv s w->cY bA f (#[x.value]++cb) w λe w'=>e=aN (aM<|test s x)/\inv (Hu s x) w'/\Z S w w'
 fc:∀s w w',inv s w->(∀k,S k->w'.heap[k]?=w.heap[k]?)->inv s w'
 lt:∀s w,inv s w->∀k,S k->n0<=k/\k<z (G w)
structure ma{σ:Type}{V:ja}{n0:M}(K:Cp σ V n0)(w:Y)(xn xk f:M)(cb:Array ab)(s:σ)(l:cU)(S:fh):Prop where
 bn:eX w xn (.func (.func f) #[] cb) 291
 bk:eX w xk (.func (.func K.f) #[] K.cb) 377
 Vq:Enters bA f
 run:Cu V n0 f cb l S w
 inv:K.inv s w
 own:n0<=xn/\n0<=xk
 nS:∀k,S k->k≠xn/\k≠xk/\¬K.S k
 nK:∀k,K.S k->k≠xn/\k≠xk
def Ae{σ:Type}(K:Cp σ s b)(c a:M)(S:fh)(k:M):Prop:=k=c\/k=a\/S k\/K.S k
def ma.same{σ:Type}{V:ja}{n0:M}{K:Cp σ V n0}{j:Array ab}{s:σ}{S:fh}(h:ma K a b c i j s e S)(d:kS V n0 (Ae K b c S) a f):ma K f b c i j s e S:=⟨h.bn.same d<|.inl rfl,h.bk.same d<|.inr<|.inl rfl,h.Vq,h.run.same<|d.mono<|λ_ g=>.inr<|.inr<|.inl g,K.fc s a f h.inv<|λk g=>d.2 k<|.inr<|.inr<|.inr<|.inr g,h.own,h.nS,h.nK⟩
def ma.uE{σ:Type}{K:Cp σ s b}{f:Array ab}{g:σ}(h:ma K a c i l f g e o):vN s b (Ae K c i o) a:=⟨h.run.own.size,h.run.own.aH,by
 rintro k(rfl|rfl|d|d)
 .exact⟨h.own.1,ak h.bn⟩
 .exact⟨h.own.2,ak h.bk⟩
 .exact h.run.own.each k d
 .exact K.lt g a h.inv k d⟩
def ma.A3{σ:Type}{q:Cp σ s b}{m:Array ab}{r:σ}{j:fh}(h:ma q a c i l m r e o)(p:Z (λk=>o k\/s.F k) a f)(u:∀k,j k->o k\/z (G a)<=k)(v:Cu s b l m K j f):ma q f c i l m r K j:=by
 have t:=h.uE;have hF:∀k,b<=k->¬s.F k:=λk g a=>by have:=t.aH k a;omega
 refine⟨(p.block c (ak h.bn) ?_).trans h.bn,(p.block i (ak h.bk) ?_).trans h.bk,h.Vq,v,q.fc r a f h.inv<|λk g=>p.block k (q.lt r a h.inv k g).2 ?_,h.own,λk g=>?_,h.nK⟩;rintro(d|d);exact(h.nS c d).1 rfl;exact hF c h.own.1 d;rintro(d|d);exact(h.nS i d).2.1 rfl;exact hF i h.own.2 d;rintro(d|d);exact(h.nS k d).2.2 g;exact hF k (q.lt r a h.inv k g).1 d;rcases u k g with d|d;exact h.nS k d;refine⟨?_,?_,?_⟩;rintro rfl;have:=ak h.bn;omega;rintro rfl;have:=ak h.bk;omega;intro n;have:=(q.lt r a h.inv k n).2;omega
def ma.kept{σ:Type}{K:Cp σ s b}{g d f:M}{j:Array ab}{r l:σ}(h:ma K a g d f j r e o)(i:Z K.S a A)(p:K.inv l A):ma K A g d f j l e o:=by
 have n:=h.uE;have hF:∀k,b<=k->¬s.F k:=λk c a=>by have:=n.aH k a;omega
 refine⟨(i.block g (ak h.bn)<|λm=>(h.nK g m).1 rfl).trans h.bn,(i.block d (ak h.bk)<|λm=>(h.nK d m).2 rfl).trans h.bk,h.Vq,h.run.same ?_,p,h.own,h.nS,h.nK⟩;refine i.same h.run.own.size (λk c=>⟨(h.run.own.each k c).2,(h.nS k c).2.2⟩)<|λk c q=>?_;have:=(K.lt r a h.inv k c).1;omega
def ma.laid{σ:Type}{K:Cp σ s b}{d:Array ab}{f:σ}(h:ma K a c i l d f e o)(j:Obj):ma K (dd a j) c i l d f e o:=h.kept ((Z.refl _ _).alloc j)<|K.fc f a _ h.inv<|λk g=>gq j (K.lt f a h.inv k g).2
def ma.apart{σ:Type}{K:Cp σ s b}{d:Array ab}{n:σ}{T:fh}(h:ma K a c i l d n e o)(m:Z T a f)(j:∀k,T k->¬Ae K c i o k/\b<=k):ma K f c i l d n e o:=h.same<|m.same h.run.own.size (λk g=>⟨(h.uE.each k g).2,λp=>(j k p).1 g⟩)<|by grind
def yC(w:Y)(b:M)(a:E):Y:=cH (cH (cH (cH w (R b 0)<|am a.key) (R b 1)<|am a.val) (R b 2)<|aM a.del) (R b 3)<|aG a.bQ
def jc(w:Y)(b:M)(a:E):Z (λk=>k=b) w (yC w b a):=(((iT b w).setCell b 1 _<|.inl rfl).setCell b 2 _<|.inl rfl).setCell b 3 _<|.inl rfl
def r7{σ:Type}(K:Cp σ s b)(e d h:M)(f:Array ab)(l:cU)(S:fh)(w:Y):Prop:=∃g c a,l=ul K.test K.Hu g c/\S=Ae K e d a/\ma K w e d h f g c a
def jb.sep{c q:M}(h:jb a c w):∀k,k=c->k=q->∃d t r,a.heap[k]?=H (ay d t r)/\t≠194:=λk b _=>b▸⟨_,_,_,h,by decide⟩
def PV{σ:Type}(K:Cp σ s b)(cb:Array ab)(cn:σ)(hA:ma K a c l F cb cn e o)(hD:s.D a):cY bA 276 #[aD c,aD l] a (Out s (r7 K c l F cb) (ul K.test K.Hu cn e) (Ae K c l o) a):=by
 have eg:∀u a,(callFunc F u).run bA a=.ok (.enter F u) a:=hA.Vq;have ek:∀u a,(callFunc K.f u).run bA a=.ok (.enter K.f u) a:=K.Vq;have HA:=X hA;have HD:=X hD;go_in
 go_wp2;go_loopg [5] (y e+1) (λd _ wr=>∃D l' S',y l'<d/\ma K wr c l F cb D l' S'/\s.D wr/\Z (λt=>Ae K c l o t\/s.F t) a wr/\ul K.test K.Hu cn e=ul K.test K.Hu D l'/\(∀t,S' t->o t\/z (G a)+1<=t)/\y l'<=y e/\jb wr (z<|G a) ⟨⟨#[]⟩,⟨#[]⟩,bw,0⟩/\¬S' (z<|G a)/\¬K.S (z<|G a))
 (case atStart=>have h:=HA;refine⟨cn,e,o,by omega,h.laid _,s.fc HD (cO aw a) cJ,(cO _ _),rfl,λt v=>.inl v,ag _,aK _ rfl,λr=>?_,λr=>?_⟩;have:=(h.run.own.each _ r).2;omega;have:=(K.lt _ _ h.inv _ r).2;omega)
 case round=>
  obtain⟨D,l',S',ao,P,bb,bg,bd,al,bn,ad,bo,bp⟩:=hrel;have cp:=P.bn.cell;have hc:=P.run.call bb;have aa:=X (show∀A,Z (λt=>S' t\/s.F t) wr A->Z (λt=>Ae K c l o t\/s.F t) a A fromλA h=>bg.trans h (by
   rintro t(v|v)
   .rcases al t v with r|r
    .exact .inl<|.inl<|.inr<|.inr<|.inl r
    grind
   grind))
  have cB:=ak ad;obtain⟨HN,W,S,aF,au⟩:=iY bo bp P bd ad;obtain⟨aV,ax⟩:=And.intro (X al) (X<|And.intro ao bn);clear P bb bg bd ad al bo bp ao bn;go_wp2_with fail
  refine hc.mono ?_;rintro cE A⟨⟨ev,rfl,ch⟩|⟨⟨g,j,f,d⟩,ck,S1,rfl,rfl,bf,bL⟩,ac,w⟩
  .have k:jb A (z<|G a) ⟨⟨#[]⟩,⟨#[]⟩,bw,0⟩:=au.aj w<|λr=>r.elim HN (λr=>by have:=S.uE.aH _ r;have:=HA.uE.size;omega);obtain⟨ca,cc,cd,ce⟩:=k.cells;have bi:=k.free (i:=0);have bk:=k.free (i:=1);have bl:=k.free (i:=2);have bm:=k.free (i:=3);have n:=ak k;obtain⟨B,L,O⟩:=dF k ac w;clear k ac w;unfold bE xg;have p:Hid (Z (λt=>t=z (G a)) A<|(yC A (z<|G a) ⟨⟨#[]⟩,⟨#[]⟩,bw,0⟩).alloc<|ay #[am ⟨#[]⟩,am ⟨#[]⟩,aM bw,aG 0] 171):=X<|(jc _ _ _).alloc _;have m:=X HA.uE;rcases ch with⟨rfl,rfl⟩|⟨N,q,rfl,x⟩
   .go_wp2;refine cy (fV rfl _ _ (z<|G a) ⟨⟨#[]⟩,⟨#[]⟩,bw,0⟩ _ _ rfl<|(B.put ⟨⟨#[]⟩,⟨#[]⟩,bw,0⟩).alloc _) rfl ?_;exact⟨.inl ⟨_,rfl,.inl ⟨aF.trans rfl,rfl⟩⟩,s.fc L p (λt v hf=>by have:=m.aH t hf;have:=m.size;omega),(aa _ O).trans p<|by simp⟩
   .have C:=X x;clear x;go_wp2;refine cy (fV rfl _ _ (z<|G a) ⟨⟨#[]⟩,⟨#[]⟩,bw,0⟩ _ _ rfl<|(B.put ⟨⟨#[]⟩,⟨#[]⟩,bw,0⟩).alloc _) rfl ?_;exact⟨.inl ⟨_,rfl,.inr ⟨N,q,rfl,C.aj p B.sep⟩⟩,s.fc L p (λt v hf=>by have:=m.aH t hf;have:=m.size;omega),(aa _ O).trans p<|by simp⟩
  .have ao:=ax.1;have cm:y ck<y e:=by have:=ax.2;grind
   have an:=K.call D ⟨g,j,f,d⟩;have hA1:=S.A3 w bf bL;have C:=hA1.laid<|ay #[am g,am j,aM f,aG d] 171;have k:jb A (z<|G a) ⟨⟨#[]⟩,⟨#[]⟩,bw,0⟩:=au.aj w<|λr=>r.elim HN (λr=>by have:=S.uE.aH _ r;have:=HA.uE.size;omega);have co:=C.bk.cell;have bq:jb (dd A<|ay #[am g,am j,aM f,aG d] 171) (z<|G A) ⟨g,j,f,d⟩:=aK _ rfl;obtain⟨ca,cc,cd,ce⟩:=bq.cells;have n:=an _ C.inv;have bs:=X (show¬K.S (z<|G A)fromλr=>by have:=(K.lt _ _ hA1.inv _ r).2;omega);have cl:=w.size;obtain⟨bt,N,ap,B,L⟩:=iY bq bf C k ac;have O:=X w;have bv:ul K.test K.Hu D (⟨g,j,f,d⟩::ck)=if K.test D ⟨g,j,f,d⟩then⟨g,j,f,d⟩::ul K.test K.Hu (K.Hu D ⟨g,j,f,d⟩) ck else ul K.test K.Hu (K.Hu D ⟨g,j,f,d⟩) ck:=rfl;have aU:=X<|aF.trans bv;unfold E.value at n|-;simp only at n|-;go_wp2_with fail
   refine n.mono ?_;rintro cE w2⟨rfl,bu,Q⟩;have bT:jb w2 (z<|G A) ⟨g,j,f,d⟩:=bt.aj Q bs;have x:jb w2 (z<|G a) ⟨⟨#[]⟩,⟨#[]⟩,bw,0⟩:=(B.alloc _).aj Q W;obtain⟨AQ,cq,cr,cs⟩:=bT.cells;obtain⟨cu,cv,cw,cx⟩:=x.cells;have bi:=x.free (i:=0);have bk:=x.free (i:=1);have bl:=x.free (i:=2);have bm:=x.free (i:=3);obtain⟨av,T,ba⟩:=dF x (ap.kept Q bu) Q;have m:=X HA.uE;have bx:=X T.uE;have bc:=X<|s.fc (s.fc L (cO aw A) cJ) ba (λt v hf=>by have:=bx.aH t hf;have:=(K.lt _ _ ap.inv t v).1;omega);have bh:=X<|((aa _ O).alloc _).trans ba<|λt v=>.inl<|.inl<|.inr<|.inr<|.inr v;cases hte:K.test D ⟨g,j,f,d⟩with
   |true=>
    have V:=X (aU.trans<|by rw[di hte]);go_wp2;refine cy (fV rfl _ _ (z<|G a) ⟨g,j,f,d⟩ _ _ rfl<|av.put ⟨g,j,f,d⟩) rfl ?_;have p:Z (λt=>t=z (G a)) w2 (yC w2 (z<|G a) ⟨g,j,f,d⟩):=jc _ _ _;have cj:¬Ae K c l S1 (z<|G a):=by
     rintro(r|r|r|r)
     .have:=(m.each c<|.inl rfl).2;omega
     .have:=(m.each l<|.inr<|.inl rfl).2;omega
     .rcases N _ r with br|br
      .exact HN br
      .omega
     .exact W r
    refine⟨.inr ⟨⟨g,j,f,d⟩,_,_,V,rfl,λt v=>?_,K.Hu D ⟨g,j,f,d⟩,ck,S1,rfl,rfl,T.apart p (λt v=>by rw[v];exact⟨cj,m.size⟩)⟩,s.fc bc p (λt v hf=>by have:=m.aH t hf;have:=m.size;omega),bh.trans p<|by simp⟩;rcases v with r|r|r|r
    .exact .inl<|.inl r
    .exact .inl<|.inr<|.inl r
    .rcases N t r with r|r
     .rcases aV t r with br|br
      .exact .inl<|.inr<|.inr<|.inl br
      grind
     grind
    .exact .inl<|.inr<|.inr<|.inr r
   |false=>
    have V:=X (aU.trans<|by rw[dt (by rw[hte];simp)]);go_wp2;go_roundg(y ck+1);case measure=>grind
    case rel=>
     refine⟨K.Hu D ⟨g,j,f,d⟩,ck,S1,by omega,T,bc,bh,V,λt v=>?_,by omega,av,λr=>?_,W⟩
     .rcases N t v with r|r
      .exact aV t r
      grind
     .rcases N _ r with br|br
      .exact HN br
      .omega
def TA{σ:Type}(K:Cp σ s b)(c a k:M)(f:Array ab)(d:σ)(l:cU)(S:fh)(w:Y)(i:ma K w c a k f d l S):Cu s b 276 #[aD c,aD a] (ul K.test K.Hu d l) (Ae K c a S) w:=by
 refine Cu.of (r7 K c a k f) ?_ ?_ ?_ ⟨d,l,S,rfl,rfl,i⟩;rintro l S w⟨d,g,e,rfl,rfl,h⟩;exact h.uE;rintro l S w m⟨d,g,e,rfl,rfl,h⟩j;exact⟨d,g,e,rfl,rfl,h.same j⟩;rintro l S w⟨d,g,e,rfl,rfl,h⟩j;exact PV K f d h j
def MS{σ:Type}(K:Cp σ s b)(l:σ)(C:jp s b d e o a)(g:K.inv l a)(A:∀k,o k->¬K.S k):cY bA 251 #[d,.func (.func K.f) #[] K.cb] a λD r=>∃q m,D=aN q/\jp s b q (ul K.test K.Hu l e) m r/\Below (z<|G a) a r/\(∀k,m k->o k\/K.S k\/z (G a)<=k):=by
 obtain⟨x,j,rfl,B,f⟩:=C;obtain⟨t,v,u,w⟩:=gw B f g A;go_in
 go_wp2;go_ret;have f:=J v;have g:=J u;have n:Below (z<|G a) a (dd (dd a<|ay #[.func (.func x) #[] j] 291)<|ay #[.func (.func K.f) #[] K.cb] 377):=((Below.refl _ a).alloc (ag _) _).alloc (by simp) _;have p:Z aw a (dd (dd a<|ay #[.func (.func x) #[] j] 291)<|ay #[.func (.func K.f) #[] K.cb] 377):=Z.aQ n;refine⟨_,Ae K (z<|G a) (z (G a)+1) o,rfl,⟨276,_,rfl,enters_of func276 (by kernel_rfl) rfl,?_⟩,n,?_⟩;refine TA K (z<|G a) (z (G a)+1) x j l e o _ ⟨?_,aK _ (by simp),t,f.same<|p.same f.own.size (λk c=>⟨(f.own.each k c).2,λi=>i⟩)<|λk c=>c.elim,K.fc l a _ g<|λk c=>?_,⟨f.own.size,by have:=f.own.size;omega⟩,λk c=>?_,λk c=>?_⟩;(grind[eX.alloc,aK]);exact p.block k (K.lt l a g k c).2<|λi=>i;have:=(f.own.each k c).2;exact⟨by omega,by omega,w k c⟩;have:=(K.lt l a g k c).2;grind
 rintro k(i|i|i|i);(grind);(grind);exact .inl i;grind
def VX(V:ja)(b:M):Cp Unit V b where
 f:=252
 cb:=#[]
 test:=λ_ e=>!e.del
 Hu:=λ_ _=>()
 inv:=λ_ _=>True
 S:=λ_=>False
 Vq:=enters_of func252 (by kernel_rfl) rfl
 call:=by
  rintro _⟨d,e,xd,c⟩w _;unfold E.value;simp only;have a:∀(x:Bool)(w:Y),(Op.unary .not<|aM x).run bA w=.ok (aM<|!x) w:=λ_ _=>rfl;show cY bA 252 #[dL #[am d,am e,aM xd,aG c]] w _;go_in
  go_wp2;go_ret;exact⟨rfl,trivial,(cO _ w)⟩
 fc:=λ_ _ _ _ _=>trivial
 lt:=λ_ _ _ _ a=>a.elim
def Kc(l:cU)(s:Unit):ul (λ(_:Unit)e=>!e.del) (λ_ _=>()) s l=l.filter (λe=>!e.del):=by
 induction l generalizing s with
 |nil=>rfl
 |cons x r a=>
  unfold ul;grind
def MK(q:jp s b d e o a):cY bA 226 #[d] a λi g=>∃f c,i=aN f/\jp s b f (e.filter<|λi=>!i.del) c g/\Below (z<|G a) a g/\(∀k,c k->o k\/z (G a)<=k):=by
 have A:=MS (VX s b) () q trivial<|λ_ _ j=>j;have B:=Kc e ();have n:cY bA 251 #[d,.func (.func 252) #[] #[]] a λi g=>∃f c,i=aN f/\jp s b f (e.filter<|λi=>!i.del) c g/\Below (z<|G a) a g/\(∀k,c k->o k\/z (G a)<=k):=by apply A.mono;rintro i g⟨f,c,u,v,w,x⟩;refine⟨f,c,u,?_,w,λk C=>?_⟩;rw[<-B];exact v;rcases x k C with j|j|j;exact .inl j;exact j.elim;exact .inr j
 obtain⟨F,D,rfl,_⟩:=q;go_in
 go_wp2_with(go_at_call 251;refine n.mono ?_;rintro i E⟨f,c,rfl,p,m,l⟩;have r:=X p;have HB:=X m;have t:=X l)
 go_ret;exact⟨f,c,rfl,r,HB,t⟩
def atK(V:ja)(l d b:M)(m:U):Cp ae V l where
 f:=253
 cb:=#[aD d,aD b]
 test:=λs n=>decide (n.bQ<=m)&&!decide (n.key=s)
 Hu:=λs n=>if n.bQ<=m then n.key else s
 inv:=λs w=>eX w d (aG m) 74/\eX w b (am s) 9/\l<=b/\l<=d/\d≠b
 S:=λk=>k=d\/k=b
 Vq:=enters_of func253 (by kernel_rfl) rfl
 call:=by
  rintro s⟨p,u,xd,g⟩w⟨c,e,C,t,j⟩;unfold E.value;simp only;have x:=e.cell;have B:=e.free;have A:=c.cell;have r:=ak e;have o:=ak c;have HB:=X e;have a:=X c;show cY bA 253 #[dL #[am p,am u,aM xd,aG g],aD d,aD b] w _;by_cases k:g<=m
  .have q:¬m<g:=by omega
   by_cases i:p=s
   .subst i;simp only[k,uJ,vz,Bool.and_false,nH];go_in
    go_wp2;go_ret;exact⟨rfl,⟨a.alloc _,HB.alloc _⟩,(cO _ w)⟩
   .have v:=JT i;simp only[k,i,uJ,AV,nX,Bool.and_true,nH];go_in
    go_wp2;go_ret;refine⟨rfl,⟨(a.other _ j).alloc _,(HB.set _).alloc _⟩,?_⟩;exact((Z.refl _ w).setCell b 0 _<|.inl<|.inr rfl).alloc _
  .have q:m<g:=by omega
   simp only[k,AV,yl,rX];go_in
   go_wp2;go_ret;exact⟨rfl,⟨a.alloc _,HB.alloc _⟩,(cO _ w)⟩
 fc:=(by grind)
 lt:=(by grind)
def ZL(b:U)(l:cU)(s:ae):ul (λs(e:E)=>decide (e.bQ<=b)&&!decide (e.key=s)) (λs e=>if e.bQ<=b then e.key else s) s l=oA s (l.filter<|λe=>decide<|e.bQ<=b):=by
 induction l generalizing s with
 |nil=>rfl
 |cons x r c=>
  unfold ul;by_cases a:x.bQ<=b
  .rw[iD<|by simp[a]];unfold oA;by_cases h:x.key=s
   .grind
   grind
  grind
structure Ad(V:ja)(n0:M)(ls:dX)where
 f:M
 cb:Array ab
 inv:Y->Prop
 S:M->Prop
 Vq:Enters bA f
 call:∀i(hi:i<y ls)w,inv w->V.D w->cY bA f (#[aq i]++cb) w λe w'=>(∃v' S',e=aN (dA #[v',.nilIface])/\jp V n0 v' ls[i] S' w'/\V.D w'/\Z V.F w w'/\(∀k,S' k->z (G w)<=k))\/∃u,EA V w w' V.F e<|λv=>dA #[u,v]
 fc:∀w w',inv w->kS V n0 S w w'->inv w'
 lt:∀w,inv w->∀k,S k->n0<=k/\k<z (G w)
structure iZ{V:ja}{n0:M}{ls:dX}(O:Ad V n0 ls)(w:Y)(b c d g:M)(h:ab)(r:cU)(a:M)(S:fh):Prop where
 br:eX w b h 291
 ba:eX w c (aq a) 3
 bn:eX w d (aq<|y ls) 3
 bo:eX w g (.func (.func O.f) #[] O.cb) 421
 row:(h=.nilFunc/\r=[]/\∀k,¬S k)\/jp V n0 h r S w
 inv:O.inv w
 le:a<=y ls
 size:n0<=z (G w)
 aH:∀k,V.F k->k<n0
 own:n0<=b/\n0<=c/\n0<=d/\n0<=g
 ra:b≠c
 rn:b≠d
 ro:b≠g
 an:c≠d
 ao:c≠g
 nS:∀k,S k->k≠b/\k≠c/\k≠d/\k≠g/\¬O.S k
 nO:∀k,O.S k->k≠b/\k≠c/\k≠d/\k≠g
def oH{V:ja}{n0:M}{lsqq:dX}(O:Ad V n0 lsqq)(b c d g:M)(S:fh)(k:M):Prop:=k=b\/k=c\/k=d\/k=g\/S k\/O.S k
def Yv{V:ja}{n0:M}{lsqq:dX}(O:Ad V n0 lsqq)(b c d g:M)(l:cU)(S:fh)(w:Y):Prop:=∃h r a e,l=r++(lsqq.drop a).flatten/\S=oH O b c d g e/\iZ O w b c d g h r a e
def Ee(r:cU)(lsqq:dX)(a:M):cU:=r++(lsqq.drop a).flatten
section
variable{V:ja}{n0:M}{lsqq:dX}{O:Ad V n0 lsqq}{w w':Y}{b c d g:M}{h:ab}{r:cU}{a:M}{S:fh}
theorem iZ.uE(e:iZ O w b c d g h r a S):vN V n0 (oH O b c d g S) w:=⟨e.size,e.aH,by
 rintro k(rfl|rfl|rfl|rfl|f|f)
 .exact⟨e.own.1,ak e.br⟩
 .exact⟨e.own.2.1,ak e.ba⟩
 .exact⟨e.own.2.2.1,ak e.bn⟩
 .exact⟨e.own.2.2.2,ak e.bo⟩
 .rcases e.row with⟨_,_,i⟩|i
  .grind
  .exact i.own.each k f
 .exact O.lt w e.inv k f⟩
theorem iZ.same(e:iZ O w b c d g h r a S)(f:kS V n0 (oH O b c d g S) w w'):iZ O w' b c d g h r a S:=⟨e.br.same f<|.inl rfl,e.ba.same f<|.inr<|.inl rfl,e.bn.same f<|.inr<|.inr<|.inl rfl,e.bo.same f<|.inr<|.inr<|.inr<|.inl rfl,e.row.imp id (λj=>j.same<|f.mono<|λ_ i=>.inr<|by grind),O.fc w w' e.inv (f.mono<|λ_ i=>.inr<|by grind),e.le,aB e.size f.1,e.aH,e.own,e.ra,e.rn,e.ro,e.an,e.ao,e.nS,e.nO⟩
theorem iZ.apart{T:fh}(f:iZ O w b c d g h r a S)(j:Z T w w')(i:∀k,T k->¬oH O b c d g S k/\(k<n0->V.F k)):iZ O w' b c d g h r a S:=f.same<|j.same f.size (λk e=>⟨(f.uE.each k e).2,λl=>(i k l).1 e⟩)<|by grind
theorem iZ.laid(e:iZ O w b c d g h r a S)(o:Obj):iZ O (dd w o) b c d g h r a S:=e.apart ((Z.refl aw w).alloc o) cJ
theorem iZ.A3{p:cU}{l:fh}(e:iZ O w b c d g h r a S)(j:Z (λk=>S k\/V.F k) w w')(q:∀k,l k->S k\/z (G w)<=k)(t:jp V n0 h p l w'):iZ O w' b c d g h p a l:=by
 have n:=e.uE;have hF:∀k,n0<=k->¬V.F k:=λk f e=>by have:=n.aH k e;omega
 have o:∀k,k=b\/k=c\/k=d\/k=g->¬(S k\/V.F k):=by rintro k f(i|i);(have:=e.nS k i;grind);rcases f with rfl|rfl|rfl|rfl;exact hF _ e.own.1 i;exact hF _ e.own.2.1 i;exact hF _ e.own.2.2.1 i;exact hF _ e.own.2.2.2 i
 refine⟨(j.block b (ak e.br)<|o _<|.inl rfl).trans e.br,(j.block c (ak e.ba)<|o _<|.inr<|.inl rfl).trans e.ba,(j.block d (ak e.bn)<|by grind).trans e.bn,(j.block g (ak e.bo)<|by grind).trans e.bo,.inr t,O.fc w w' e.inv<|j.same e.size (λk f=>⟨(O.lt w e.inv k f).2,?_⟩)<|λk f s=>?_,e.le,aB e.size j.size,e.aH,e.own,e.ra,e.rn,e.ro,e.an,e.ao,λk f=>?_,e.nO⟩;rintro(i|i);exact(e.nS k i).2.2.2.2 f;exact hF k (O.lt w e.inv k f).1 i;rcases f with i|i;have:=(n.each k<|.inr<|by grind).1;omega;exact i;rcases q k f with i|i;exact e.nS k i;refine⟨?_,?_,?_,?_,?_⟩;rintro rfl;have:=ak e.br;omega;rintro rfl;have:=ak e.ba;omega;rintro rfl;have:=ak e.bn;omega;rintro rfl;have:=ak e.bo;omega;intro m;have:=(O.lt w e.inv k m).2;omega
theorem iZ.ended(e:iZ O w b c d g h r a S)(j:Z (λk=>S k\/V.F k) w w'):iZ O (cH w' (R b 0) .nilFunc) b c d g .nilFunc [] a aw:=by
 have s:=e.uE;have hF:∀k,n0<=k->¬V.F k:=λk f e=>by have:=s.aH k e;omega
 have t:∀k,k=b\/k=c\/k=d\/k=g->¬(S k\/V.F k):=by rintro k f(i|i);(have:=e.nS k i;grind);rcases f with rfl|rfl|rfl|rfl;exact hF _ e.own.1 i;exact hF _ e.own.2.1 i;exact hF _ e.own.2.2.1 i;exact hF _ e.own.2.2.2 i
 have o:eX w' b h 291:=(j.block b (ak e.br)<|t _<|.inl rfl).trans e.br;have l:eX w' c (aq a) 3:=(j.block c (ak e.ba)<|t _<|.inr<|.inl rfl).trans e.ba;have m:eX w' d (aq<|y lsqq) 3:=(j.block d (ak e.bn)<|by grind).trans e.bn;have n:eX w' g (.func (.func O.f) #[] O.cb) 421:=(j.block g (ak e.bo)<|by grind).trans e.bo;have p:Z (λk=>(S k\/V.F k)\/k=b) w (cH w' (R b 0) .nilFunc):=(j.mono (T:=λk=>(S k\/V.F k)\/k=b)<|by grind).setCell b 0 _<|.inl<|.inr rfl;refine⟨o.set _,l.other _<|λq=>e.ra q.symm,m.other _<|λq=>e.rn q.symm,n.other _<|λq=>e.ro q.symm,(by simp),O.fc w _ e.inv<|p.same e.size (λk f=>⟨(O.lt w e.inv k f).2,?_⟩)<|λk f u=>?_,e.le,by rw[im];exact aB e.size j.size,e.aH,e.own,e.ra,e.rn,e.ro,e.an,e.ao,cJ,e.nO⟩;rintro((i|i)|i);exact(e.nS k i).2.2.2.2 f;exact hF k (O.lt w e.inv k f).1 i;exact(e.nO k f).1 i;rcases f with(i|i)|i;have:=(s.each k<|.inr<|by grind).1;omega;exact i;have:=e.own.1;subst i;omega
theorem iZ.opened{q:ab}{o:fh}(x:a<y lsqq)(e:iZ O w b c d g .nilFunc [] a S)(j:Z V.F w w')(B:jp V n0 q lsqq[a] o w')(C:∀k,o k->z (G w)<=k):iZ O (cH (cH w' (R b 0) q) (R c 0)<|aq<|(a:U)+1) b c d g q lsqq[a] (a+1) o:=by
 have hF:∀k,n0<=k->¬V.F k:=λk f i=>by have:=e.aH k i;omega
 have D:∀k,o k->k≠b/\k≠c/\k≠d/\k≠g/\¬O.S k:=λk f=>by have:=C k f;have E:=ak e.br;have F:=ak e.ba;have K:=ak e.bn;have L:=ak e.bo;exact⟨by omega,by omega,by omega,by omega,λA=>by have:=(O.lt w e.inv k A).2;omega⟩
 have v:eX w' b .nilFunc 291:=(j.block b (ak e.br)<|hF _ e.own.1).trans e.br;have s:eX w' c (aq a) 3:=(j.block c (ak e.ba)<|hF _ e.own.2.1).trans e.ba;have t:eX w' d (aq<|y lsqq) 3:=(j.block d (ak e.bn)<|hF _ e.own.2.2.1).trans e.bn;have u:eX w' g (.func (.func O.f) #[] O.cb) 421:=(j.block g (ak e.bo)<|hF _ e.own.2.2.2).trans e.bo;have l:O.inv w':=O.fc w w' e.inv<|j.same e.size (λk f=>⟨(O.lt w e.inv k f).2,hF k (O.lt w e.inv k f).1⟩)<|λk f _=>f;have n:Z (λk=>k=b\/k=c) w' (cH (cH w' (R b 0) q) (R c 0)<|aq<|(a:U)+1):=((Z.refl (λk=>k=b\/k=c) w').setCell b 0 _<|.inl<|.inl rfl).setCell c 0 _<|.inl<|.inr rfl;have i:n0<=z (G w'):=aB e.size j.size;have m:∀k,(k=b\/k=c)->k<n0->V.F k:=by rintro k(rfl|rfl)A;have:=e.own.1;omega;have:=e.own.2.1;omega
 refine⟨(v.set _).other _ e.ra,(s.other _<|λp=>e.ra p.symm).set _,(t.other _<|λp=>e.rn p.symm).other _<|λp=>e.an p.symm,(u.other _<|λp=>e.ro p.symm).other _<|λp=>e.ao p.symm,.inr<|B.same<|n.same i (λk f=>⟨(B.own.each k f).2,?_⟩) m,O.fc w' _ l<|n.same i (λk f=>⟨(O.lt w' l k f).2,?_⟩) m,x,by rw[im,im];exact i,e.aH,e.own,e.ra,e.rn,e.ro,e.an,e.ao,D,e.nO⟩;grind
 rintro(A|A);exact(e.nO k f).1 A;exact(e.nO k f).2.1 A
end
def vF{P:Program}{w:Y}{b:M}{u:ab}{t:TypeId}(h:eX w b u t)(v:ab)(d:v.oneCell'=cf):(store (R b 0) v).run P w=.ok () (cH w (R b 0) v):=by
 have a:=h.cell;have c:=h.free;rw[Cw P w _ _ _ d];simp[a,c]
abbrev zE:E:=⟨⟨#[]⟩,⟨#[]⟩,bw,0⟩
def UW{O:Ad s b m}{h:fh}(j:vN s b (oH O c i l F o) a)(q:iZ O f c i l F d e V h)(r:s.D f)(u:Z (λk=>oH O c i l F o k\/s.F k) a f)(t:¬oH O c i l F h (z<|G a))(x:E)(p:Obj):s.D ((yC f (z<|G a) x).alloc p)/\Z (λk=>oH O c i l F o k\/s.F k) a ((yC f (z<|G a) x).alloc p)/\iZ O ((yC f (z<|G a) x).alloc p) c i l F d e V h:=by
 have g:Z (λk=>k=z (G a)) f ((yC f (z<|G a) x).alloc p):=(jc _ _ _).alloc p;refine⟨s.fc r g (λk n v=>by have:=j.aH k v;have:=j.size;omega),u.trans g (by simp),q.apart g<|λk n=>?_⟩;subst n;exact⟨t,λa=>by have:=j.size;omega⟩
def Ou(bx:Ad s b m){ej:M}(hA:iZ bx a c l F V d e ej o)(hD:s.D a)(ey:y m<=1000000000000):cY bA 316 #[aD c,aD l,aD F,aD V] a (Out s (Yv bx c l F V) (Ee e m ej) (oH bx c l F V o) a):=by
 have fd:∀b a,(callFunc bx.f b).run bA a=.ok (.enter bx.f b) a:=bx.Vq;have eA:∀a,(binOp .eql 291 .nilFunc .nilFunc).run bA a=.ok (aM cf) a:=λ_=>rfl;have eB:∀f b a,(binOp .eql 291 (.func f #[] b) .nilFunc).run bA a=.ok (aM bw) a:=λ_ _ _=>rfl;have bs:=hA.uE;have r:=X bs;have cj:∀k,b<=k->¬s.F k:=λk v hf=>by have:=bs.aH k hf;omega
 obtain⟨B,HA,HD⟩:=dF cj hA hD;clear hA hD bs cj;go_in
 go_wp2;go_loopg [9] (2*(y m-ej)+2) (λd _ wr=>∃ba r' A S' en,2*(y m-A)+en<d/\((ba=.nilFunc/\r'=[])\/(en=1/\jp s b ba r' S' wr))/\iZ bx wr c l F V ba r' A S'/\s.D wr/\Z (λk=>oH bx c l F V o k\/s.F k) a wr/\Ee e m ej=Ee r' m A/\(∀k,S' k->o k\/z (G a)+1<=k)/\jb wr (z<|G a) zE/\¬oH bx c l F V S' (z<|G a))
 (case atStart=>have h:=J HA;refine⟨d,e,ej,o,1,by omega,?_,h.laid _,s.fc HD (cO aw a) cJ,(cO _ _),rfl,λk v=>.inl v,aK _ rfl,λg=>?_⟩;(rcases(h.laid<|ay #[am ⟨#[]⟩,am ⟨#[]⟩,aM bw,aG 0] 171).row with⟨c1,c2,_⟩|g;(grind);grind);have:=(h.uE.each _ g).2;omega)
 case round=>
  obtain⟨ba,r',A,S',en,an,cS,f,T,aa,W,ad,u,av⟩:=hrel;have cp:=f.br.cell;have cm:=f.ba.cell;have cn:=f.bn.cell;have co:=f.bo.cell;have n1:=f.ra;have n2:¬l=c:=λei=>f.ra ei.symm;have bm:=X aa;have bi:=X W;have S:=X u;have cb:=X ad;have t:=X av;have bh:=X an;have br:=ak u;have aF:=X (show∀w1,Z s.F wr w1->Z (λk=>oH bx c l F V o k\/s.F k) a w1 fromλw1 h=>aa.trans h<|λk v=>.inl<|.inr v);rcases cS with⟨rfl,rfl⟩|⟨rfl,f1,C,rfl,bp,cT⟩;case' inl=>
   by_cases aV:A<y m;rotate_left
   .have bL:A=y m:=by have:=f.le;omega
    subst bL;obtain⟨ds,dv,dx,dT⟩:=u.cells;have cs:=u.free (i:=0);have cu:=u.free (i:=1);have cv:=u.free (i:=2);have cw:=u.free (i:=3);have bb:=X f;have O:=X T;clear f T aa W u ad av an;go_wp2;refine cy (fV rfl _ _ (z<|G a) zE _ _ rfl<|S.put zE) rfl ?_;have x:Z (λk=>k=z (G a)) wr (yC wr (z<|G a) zE):=jc _ _ _;refine⟨.inl ⟨_,rfl,.inl ⟨?_,rfl⟩⟩,s.fc O x (λk v hf=>by have:=r.aH k hf;have:=r.size;omega),bm.trans x<|λk v=>.inr<|by omega⟩;rw[J bi];simp[Ee]
   have cE:=bx.call A aV wr f.inv T;have ck:Ee [] m A=Ee m[A] m (A+1):=by unfold Ee;rw[bJ aV,bW,du]
   have bk:=X<|W.trans ck;obtain⟨HK,bf,bd,bb⟩:=gw (show∀k,k=c\/k=l->b<=k by rintro k(rfl|rfl);exact f.own.1;exact f.own.2.1) f.br f.ba f;clear f T aa W u ad av an ck;go_wp2_with fail
   refine cE.mono ?_;rintro ei w1(⟨v1,S1,rfl,⟨f1,C,rfl,bp,cN⟩,ac,p,ax⟩|⟨ff,hX,q,rfl,hq,ac,p⟩);rotate_left
   .have O:jb w1 (z<|G a) zE:=S.aj p<|B _ r.size;obtain⟨ds,dv,dx,dT⟩:=O.cells;have cs:=O.free (i:=0);have cu:=O.free (i:=1);have cv:=O.free (i:=2);have cw:=O.free (i:=3);obtain⟨bL,HQ,dm,dn⟩:=gw O hq ac p;clear O hq ac p;go_wp2;refine cy (fV rfl _ _ (z<|G a) zE _ _ rfl<|bL.put zE) rfl ?_;have x:Z (λk=>k=z (G a)) w1 (yC w1 (z<|G a) zE):=jc _ _ _;exact⟨.inl ⟨_,rfl,.inr ⟨hX,q,rfl,HQ.aj x bL.sep⟩⟩,s.fc dm x (λk v hf=>by have:=r.aH k hf;have:=r.size;omega),(aF _ dn).trans x<|λk v=>.inr<|by omega⟩
   have hA1:=bb.opened aV p ⟨f1,C,rfl,bp,cN⟩ ax;have al:eX w1 c .nilFunc 291:=(p.block c (ak bf)<|B _<|HK _<|.inl rfl).trans bf;have Q:eX w1 l (aq A) 3:=(p.block l (ak bd)<|B _<|HK _<|.inr rfl).trans bd;have dc:=vF (P:=bA) al (.func (.func f1) #[] C) rfl;have cq:=Q.cell;have cr:=Q.free;have cB:=ak al;have cx:=ak Q;have ap:Z (λk=>k=c\/k=l) w1 (cH (cH w1 (R c 0)<|.func (.func f1) #[] C) (R l 0)<|aq<|(A:U)+1):=((Z.refl (λk=>k=c\/k=l) w1).setCell c 0 _<|.inl<|.inl rfl).setCell l 0 _<|.inl<|.inr rfl;have ch:=X<|s.fc ac ap<|λk v=>B k<|HK k v;have ea:=hA1.br.cell;have n:=X (show¬oH bx c l F V S1 (z<|G a)by
    rintro(g|g|g|g|g|g)
    .exact t<|.inl g
    .exact t<|.inr<|.inl g
    .exact t<|.inr<|.inr<|.inl g
    .exact t<|.inr<|.inr<|.inr<|.inl g
    .have:=ax _ g;omega
    .exact t (.inr (.inr (.inr (.inr (.inr g))))))
   have bT:=X<|(S.aj p<|B _ r.size).aj ap<|λg=>g.elim (λg=>t<|.inl g)<|λg=>t<|.inr<|.inl g;have cd:=X ((aF _ p).trans ap (by
    rintro k(g|g)
    .exact .inl<|.inl<|.inl g
    .exact .inl (.inl (.inr (.inl g)))))
   have bl:=X (show∀k,S1 k->o k\/z (G a)+1<=k fromλk v=>.inr (by have:=ax k v;omega));have ca:=X (show 2*(y m-(A+1))+1<gk by have:=J bh;omega);have w:=X hA1;have eg:=ap.size;have ef:=p.size;clear hA1 al Q ap ac p ax cN bb HK bf bd S t bm bi cb bh cE aF;generalize m[A]=rr at*;go_wp2_with fail
   clear dc cq cr;generalize(cH (cH w1 (R c 0)<|.func (.func f1) #[] C) (R l 0)<|aq<|(A:U)+1)=em at*;generalize A+1=df at*;have ed:z (G a)<z (G em):=by omega
   clear cB cx eg ef aV br;clear cp cm cn co
  case' inr=>
   have ea:=f.br.cell;obtain⟨w,ch,cd,bk,bl⟩:=iY f T aa W ad;have bT:=S;have n:=t;have ca:=X<|show 2*(y m-A)+1<gk from an;clear f T aa W u ad av an cT S t bm bi cb bh aF;go_wp2_with fail
   clear cp cm cn co;generalize p:wr=em at*;clear p;generalize r'=rr at*;generalize A=df at*;generalize S'=S1 at*;have ed:=br;clear br
  all_goals
   have db:Cu s b f1 C rr S1 em:=by
    rcases w.row with⟨g,_⟩|⟨f2,eo,fb,_,bu⟩
    .cases g
    grind
   refine(db.call ch).mono ?_;rintro ei w2⟨cM,ce,ao⟩;have cl:Z (λk=>oH bx c l F V o k\/s.F k) a w2:=cd.trans ao (by
    rintro k(g|g)
    .rcases bl k g with dk|dk
     .exact .inl<|.inl<|.inr<|.inr<|.inr<|.inr<|.inl dk
     grind
    grind)
   have D:jb w2 (z<|G a) zE:=bT.aj ao<|λg=>g.elim (λg=>n<|.inr<|.inr<|.inr<|.inr<|.inl g)<|B _ r.size;have aU:eX w2 c (.func (.func f1) #[] C) 291:=(ao.block c (ak w.br)<|λg=>g.elim (λg=>(w.nS c g).1 rfl)<|λg=>B _ w.own.1 g).trans w.br;have x:=λb:E=>(jc w2 (z<|G a) b).alloc<|ay #[am b.key,am b.val,aM b.del,aG b.bQ] 171;have bt:z (G a)≠c:=λg=>n<|.inl g;obtain⟨eq,er,es,et⟩:=D.cells;have eu:=D.free (i:=0);have ev:=D.free (i:=1);have ew:=D.free (i:=2);have ex:=D.free (i:=3);have ek:=ak D;obtain⟨au,bg,bn,bo,HT⟩:=iY D ce cl x ao;clear D ce cl x ao db;rcases cM with⟨fe,rfl,⟨eb,rfl⟩|⟨hX,q,rfl,hq⟩⟩|⟨⟨L,N,K,j⟩,r2,S2,ec,rfl,bq,bu⟩
   .subst eb;have el:=vF (P:=bA) (aU.alloc<|ay #[am ⟨#[]⟩,am ⟨#[]⟩,aM bw,aG 0] 171) .nilFunc rfl;have bc:=X<|w.ended<|HT.alloc<|ay #[am ⟨#[]⟩,am ⟨#[]⟩,aM bw,aG 0] 171;clear aU;unfold bE xg;go_wp2;go_roundg(2*(y m-df)+1);case measure=>exact ca
    case rel=>
     have bv:Z (λk=>k=c) w2 (cH (dd w2<|ay #[am ⟨#[]⟩,am ⟨#[]⟩,aM bw,aG 0] 171) (R c 0) .nilFunc):=((Z.refl (λk=>k=c) w2).alloc _).setCell c 0 _<|.inl rfl;refine⟨.nilFunc,[],df,λ_=>False,0,by omega,.inl ⟨rfl,rfl⟩,bc,s.fc bg bv (λk v=>by rw[v];exact B _ w.own.1),bn.trans bv<|λk v=>.inl<|.inl<|.inl v,bk,cJ,au.aj bv bt,?_⟩;rintro(g|g|g|g|g|g)
     .exact bt g
     .exact n<|.inr<|.inl g
     .exact n<|.inr<|.inr<|.inl g
     .exact n<|.inr<|.inr<|.inr<|.inl g
     .exact g
     .exact n<|.inr<|.inr<|.inr<|.inr<|.inr g
   .have HQ:=X hq;clear hq aU;unfold bE xg;go_wp2;refine cy (fV rfl _ _ (z<|G a) zE _ _ rfl<|(au.put zE).alloc _) rfl ?_;exact⟨.inl ⟨_,rfl,.inr ⟨hX,q,rfl,HQ.aj (bo zE) au.sep⟩⟩,s.fc bg (bo zE) (λk v hf=>by have:=r.aH k hf;have:=r.size;omega),bn.trans (bo zE)<|λk v=>.inr<|by omega⟩
   .subst ec;have bc:=X<|w.A3 HT bq ⟨f1,C,rfl,bp,bu⟩;have cc:=X bq;clear bq bu aU;unfold E.value;simp only;go_wp2;refine cy (fV rfl _ _ (z<|G a) ⟨L,N,K,j⟩ _ _ rfl<|(au.put ⟨L,N,K,j⟩).alloc _) rfl ?_;have dr:¬oH bx c l F V S2 (z<|G a):=by
     rintro(g|g|g|g|g|g)
     .exact bt g
     .exact n<|.inr<|.inl g
     .exact n<|.inr<|.inr<|.inl g
     .exact n<|.inr<|.inr<|.inr<|.inl g
     .rcases cc _ g with dk|dk
      .exact n<|.inr<|.inr<|.inr<|.inr<|.inl dk
      .omega
     .exact n<|.inr<|.inr<|.inr<|.inr<|.inr g
    obtain⟨q1,q2,q3⟩:=UW r bc bg bn dr ⟨L,N,K,j⟩<|ay #[am L,am N,aM K,aG j] 171;refine⟨.inr ⟨⟨L,N,K,j⟩,_,_,bk,rfl,λk v=>?_,_,r2,df,S2,rfl,rfl,q3⟩,q1,q2⟩;rcases v with g|g|g|g|g|g
    .exact .inl<|.inl g
    .exact .inl<|.inr<|.inl g
    .exact .inl<|.inr<|.inr<|.inl g
    .exact .inl<|.inr<|.inr<|.inr<|.inl g
    .rcases cc k g with dk|dk
     .rcases bl k dk with ei|ei
      .exact .inl<|.inr<|.inr<|.inr<|.inr<|.inl ei
      grind
     grind
    .exact .inl<|.inr<|.inr<|.inr<|.inr<|.inr g
def Rg(O:Ad s b m)(f c d e:M)(i:y m<=1000000000000)(a:ab)(r:cU)(h:M)(S:fh)(w:Y)(k:iZ O w f c d e a r h S):Cu s b 316 #[aD f,aD c,aD d,aD e] (Ee r m h) (oH O f c d e S) w:=by
 refine Cu.of (Yv O f c d e) ?_ ?_ ?_ ⟨a,r,h,S,rfl,rfl,k⟩;rintro n S w⟨a,r,h,g,rfl,rfl,j⟩;exact j.uE;rintro n S w o⟨a,r,h,g,rfl,rfl,j⟩l;exact⟨a,r,h,g,rfl,rfl,j.same l⟩;rintro n S w⟨a,r,h,g,rfl,rfl,j⟩l;exact Ou O j l i
def JC(O:Ad s b m)(w:Y)(a:O.inv w)(o:b<=z (G w))(hF:∀k,s.F k->k<b)(e:y m<=1000000000000):cY bA 311 #[aq<|y m,.func (.func O.f) #[] O.cb] w λq j=>∃i f,q=aN i/\jp s b i m.flatten f j/\Below (z<|G w) w j/\(∀k,f k->O.S k\/z (G w)<=k):=by
 have n:=X a;have l:=X hF;clear a hF;go_in
 go_wp2;go_ret;have a:=J n;have g:Below (z<|G w) w (dd (dd (dd (dd w<|ay #[aq<|y m] 3)<|ay #[.func (.func O.f) #[] O.cb] 421)<|ay #[aq 0] 3)<|ay #[.nilFunc] 291):=((((Below.refl _ w).alloc (ag _) _).alloc (by simp) _).alloc (by simp;omega) _).alloc (by simp;omega) _;have p:Z aw w _:=Z.aQ g;refine⟨_,oH O (z (G w)+1+1+1) (z (G w)+1+1) (z<|G w) (z (G w)+1) aw,rfl,⟨316,_,rfl,enters_of func316 (by kernel_rfl) rfl,?_⟩,g,?_⟩;refine Rg O _ _ _ _ e .nilFunc [] 0 _ _ ⟨aK _ (by simp),?_,?_,?_,(by simp),O.fc w _ a<|p.same o (λk d=>⟨(O.lt w a k d).2,λc=>c⟩) cJ,bK _,by simp;omega,l,⟨by omega,by omega,by omega,by omega⟩,by omega,by omega,by omega,by omega,by omega,cJ,λk d=>?_⟩;exact eX.alloc (aK _<|by simp) _;(grind[eX.alloc,aK]);exact eX.alloc (eX.alloc (aK _<|by simp) _) _;have:=(O.lt w a k d).2;grind
 rintro k(c|c|c|c|c|c);(grind);(grind);(grind);(grind);exact c.elim;exact .inl c
structure Hd where
 v:ab
 l:cU
 fr:E
 full:Bool
 ended:Bool
 S:M->Prop
def Hd.cells(h:Hd):ix:=[h.v,.string h.fr.key,.string h.fr.val,.bool h.fr.del,.int .u64 h.fr.bQ,.bool h.full,.bool h.ended]
def eI(hs:ci Hd):ix:=hs.flatMap Hd.cells
def Hd.rest(h:Hd):cU:=if h.full then h.fr::h.l else h.l
theorem nu(hs:ci Hd):y (eI hs)=y hs*7:=by
 induction hs with
 |nil=>rfl
 |cons h r c=>unfold eI at*;rw[dY,af,c];simp[Hd.cells];omega
theorem qI(hs:ci Hd)(i:M)(h:i<y hs):eI hs=eI (hs.take i)++(Hd.cells hs[i]++eI (hs.drop<|i+1)):=by
 have c:hs=hs.take i++hs[i]::hs.drop (i+1):=by rw[<-bJ h,bO]
 conv=>lhs;rw[c]
 simp only[eI,fJ,dY]
theorem tq(hs:ci Hd)(i j:M)(h:i<y hs)(d:j<7):(eI hs)[i*7+j]?=(Hd.cells hs[i])[j]?:=by
 have c:y (eI<|hs.take i)=i*7:=by rw[nu];simp;omega
 rw[qI hs i h,fp (by omega),c,show i*7+j-i*7=j by omega,ic (by simp[Hd.cells];omega)]
theorem KI(hs:ci Hd)(i:M)(h:i<y hs)(x:Hd)(e:x.v=hs[i].v):(((((((eI hs).set (i*7+1)<|.string x.fr.key).set (i*7+2)<|.string x.fr.val).set (i*7+3)<|.bool x.fr.del).set (i*7+4)<|.int .u64 x.fr.bQ).set (i*7+5)<|.bool x.full).set (i*7+6)<|.bool x.ended)=eI (hs.set i x):=by
 have d:y (eI<|hs.take i)=i*7:=by rw[nu];simp;omega
 have c:eI (hs.set i x)=eI (hs.take i)++(Hd.cells x++eI (hs.drop<|i+1)):=by rw[jq,di h];simp only[eI,fJ,dY]
 rw[c,qI hs i h];rw[gM _ _ (by omega),gM _ _ (by omega),gM _ _ (by omega),gM _ _ (by omega),gM _ _ (by omega),gM _ _ (by omega),d];rw[show i*7+1-i*7=1 by omega,show i*7+2-i*7=2 by omega,show i*7+3-i*7=3 by omega,show i*7+4-i*7=4 by omega,show i*7+5-i*7=5 by omega,show i*7+6-i*7=6 by omega];simp[Hd.cells,e]
theorem Hx(hs:ci Hd)(i:M)(h:i<y hs)(x:Hd)(e:x={hs[i]with full:=x.full}):(eI hs).set (i*7+5) (.bool x.full)=eI (hs.set i x):=by
 have d:y (eI<|hs.take i)=i*7:=by rw[nu];simp;omega
 have c:eI (hs.set i x)=eI (hs.take i)++(Hd.cells x++eI (hs.drop<|i+1)):=by rw[jq,di h];simp only[eI,fJ,dY]
 rw[c,qI hs i h,gM _ _ (by omega),d,show i*7+5-i*7=5 by omega];rw[e];simp[Hd.cells]
structure Vh(V:ja)(n0:M)(w:Y)(h:Hd):Prop where
 gives:h.ended=bw->jp V n0 h.v h.l h.S w
 own:vN V n0 h.S w
 done:h.ended=cf->h.l=[]/\h.full=bw
theorem Vh.same{V:ja}{n0:M}{w w':Y}{h:Hd}(o:Vh V n0 w h)(hs:kS V n0 h.S w w'):Vh V n0 w' h:=⟨λe=>(o.gives e).same hs,o.own.same hs,o.done⟩
structure jJ(V:ja)(n0:M)(w:Y)(b a:M)(hs:ci Hd):Prop where
 box:eX w b (bI a 0 (y hs)<|y hs) 378
 row:w.heap[a]?=H (.cells (eI hs).toArray 380 (0,0))
 each:∀i(hi:i<y hs),Vh V n0 w hs[i]
 size:n0<=z (G w)
 aH:∀k,V.F k->k<n0
 own:n0<=b/\n0<=a
 bh:b≠a
 nS:∀i(hi:i<y hs)k,hs[i].S k->k≠b/\k≠a
 Oh:∀i j(hi:i<y hs)(hj:j<y hs),i≠j->∀k,hs[i].S k->¬hs[j].S k
def mf(b a:M)(hs:ci Hd)(k:M):Prop:=k=b\/k=a\/∃i,∃c:i<y hs,hs[i].S k
section
variable{V:ja}{n0:M}{w w':Y}{b a:M}{hs:ci Hd}
theorem jJ.uE(h:jJ V n0 w b a hs):vN V n0 (mf b a hs) w:=⟨h.size,h.aH,by
 rintro k(rfl|rfl|⟨i,c,d⟩)
 .exact⟨h.own.1,ak h.box⟩
 .exact⟨h.own.2,ak h.row⟩
 .exact(h.each i c).own.each k d⟩
theorem jJ.same(h:jJ V n0 w b a hs)(c:kS V n0 (mf b a hs) w w'):jJ V n0 w' b a hs:=⟨h.box.same c<|.inl rfl,(c.2 a<|.inr<|.inr<|.inl rfl).trans h.row,λi d=>(h.each i d).same<|c.mono<|λ_ e=>.inr<|.inr ⟨i,d,e⟩,aB h.size c.1,h.aH,h.own,h.bh,h.nS,h.Oh⟩
theorem jJ.apart{T:fh}(h:jJ V n0 w b a hs)(e:Z T w w')(d:∀k,T k->¬mf b a hs k/\(k<n0->V.F k)):jJ V n0 w' b a hs:=h.same<|e.same h.size (λk c=>⟨(h.uE.each k c).2,λf=>(d k f).1 c⟩)<|by grind
theorem jJ.laid(h:jJ V n0 w b a hs)(o:Obj):jJ V n0 (dd w o) b a hs:=h.apart ((Z.refl aw w).alloc o) cJ
theorem jJ.put(h:jJ V n0 w b a hs)(l:M)(j:l<y hs)(B:Hd)(v:Z (λk=>(hs[l].S k\/V.F k)\/k=a) w w')(C:w'.heap[a]?=H (.cells (eI<|hs.set l B).toArray 380 (0,0)))(D:Vh V n0 w' B)(q:∀k,B.S k->hs[l].S k\/z (G w)<=k):jJ V n0 w' b a (hs.set l B):=by
 have hF:∀k,n0<=k->¬V.F k:=λk c d=>by have:=h.aH k d;omega
 have r:eX w' b (bI a 0 (y hs)<|y hs) 378:=by refine(v.block b (ak h.box) ?_).trans h.box;rintro((d|d)|d);exact(h.nS l j b d).1 rfl;exact hF b h.own.1 d;exact h.bh d
 refine⟨by rw[iJ];exact r,C,λo s=>?_,aB h.size v.size,h.aH,h.own,h.bh,λo s k c=>?_,λn m t u i k c=>?_⟩;rw[mw];split;exact D;rename_i i;(have e:o<y hs:=by simpa using s);refine(h.each o e).same<|v.same h.size (λk c=>⟨((h.each o e).own.each k c).2,?_⟩)<|λk c g=>?_;rintro((d|d)|d);exact h.Oh l o j e i k d c;exact hF k ((h.each o e).own.each k c).1 d;exact(h.nS o e k c).2 d;rcases c with(d|d)|d;have:=((h.each l j).own.each k d).1;omega;exact d;have:=h.own.2;omega;rw[mw]at c;split at c;(rcases q k c with d|d;exact h.nS l j k d;have e:=ak h.box;have g:=ak h.row;grind);exact h.nS o (by simpa using s) k c;rw[mw]at c|-;(have e:n<y hs:=by simpa using t);(have g:m<y hs:=by simpa using u);split at c;rename_i x;have A:¬l=m:=(by omega);rw[dt A];rcases q k c with d|d;exact h.Oh l m j g A k d;intro c2;have:=((h.each m g).own.each k c2).2;omega;rename_i x;split;intro c2;rcases q k c2 with d|d;exact h.Oh l n j e x k d c;have:=((h.each n e).own.each k c).2;omega;exact h.Oh n m e g i k c
end
def xD{d:ci Hd}(h:a.heap[b]?=H (.cells (eI d).toArray 380 (0,0)))(i:M)(e:i<y d):(aW a (R b<|i*7+1)=H (.string d[i].fr.key)/\aW a (R b<|i*7+1+1)=H (.string d[i].fr.val)/\aW a (R b<|i*7+1+2)=H (.bool d[i].fr.del)/\aW a (R b<|i*7+1+3)=H (.int .u64 d[i].fr.bQ)/\aW a (R b<|i*7+5)=H (.bool d[i].full)/\aW a (R b<|i*7+6)=H (.bool d[i].ended))/\∀o,a.frozen? (R b o)=bw:=by
 have c:∀j,j<7->aW a (R b<|i*7+j)=(Hd.cells d[i])[j]?:=λj f=>by rw[ct h];grind[tq]
 exact⟨⟨c 1 (by decide),by rw[bD];exact c 2 (by decide),by rw[bD];exact c 3 (by decide),by rw[bD];exact c 4 (by decide),c 5 (by decide),c 6<|by decide⟩,λo=>cQ h⟩
def MJ(w:Y)(a i:M)(x:Hd):Y:=cH (cH (cH (cH (cH (cH w (R a<|i*7+1)<|.string x.fr.key) (R a<|i*7+1+1)<|.string x.fr.val) (R a<|i*7+1+2)<|.bool x.fr.del) (R a<|i*7+1+3)<|.int .u64 x.fr.bQ) (R a<|i*7+5)<|.bool x.full) (R a<|i*7+6)<|.bool x.ended
def Tn(w:Y)(a i:M)(x:Hd):Z (λk=>k=a) w (MJ w a i x):=(((((iT a w).setCell a _ _<|.inl rfl).setCell a _ _<|.inl rfl).setCell a _ _<|.inl rfl).setCell a _ _<|.inl rfl).setCell a _ _<|.inl rfl
def VW{c:ci Hd}(h:a.heap[b]?=H (.cells (eI c).toArray 380 (0,0)))(i:M)(d:i<y c)(x:Hd)(e:x.v=c[i].v):(MJ a b i x).heap[b]?=H (.cells (eI<|c.set i x).toArray 380 (0,0)):=by
 refine(aJ<|aJ<|aJ<|aJ<|aJ<|aJ h).trans ?_;simp only[cZ];rw[<-KI c i d x e]
def Oa{e:ci Hd}(o:jJ s b a c i e)(j:M)(r:j<y e)(d:Hd)(D:Obj)(L:d.v=e[j].v)(A:Z (λk=>e[j].S k\/s.F k) a f)(u:s.D f)(v:f.heap[i]?=H (.cells (eI e).toArray 380 (0,0)))(K:d.ended=bw->jp s b d.v d.l d.S f)(g:vN s b d.S f)(l:d.ended=cf->d.l=[]/\d.full=bw)(w:∀k,d.S k->e[j].S k\/z (G a)<=k)(m:d.rest=e[j].rest)(B:d.full=cf\/d.ended=cf):s.D ((MJ f i j d).alloc D)/\Z (λk=>mf c i e k\/s.F k) a ((MJ f i j d).alloc D)/\∃E:Hd,jJ s b ((MJ f i j d).alloc D) c i (e.set j E)/\E.rest=e[j].rest/\(E.full=cf\/E.ended=cf)/\(∀k,E.S k->e[j].S k\/z (G a)<=k):=by
 have n:Z (λk=>k=i) f ((MJ f i j d).alloc D):=(Tn _ _ _ _).alloc _;have q:Z (λk=>(e[j].S k\/s.F k)\/k=i) a ((MJ f i j d).alloc D):=(A.mono (T:=λk=>(e[j].S k\/s.F k)\/k=i)<|by grind).trans n (by simp);have C:((MJ f i j d).alloc D).heap[i]?=H (.cells (eI<|e.set j d).toArray 380 (0,0)):=by have:=VW v j r d L;grind[gq,ak]
 have x:∀k,d.S k->¬k=i:=λk p t=>by rcases w k p with N|N;exact(o.nS j r k N).2 t;have:=ak o.row;omega
 have h:=n.same (V:=s) (n0:=b) (S:=d.S) g.size (λk p=>⟨(g.each k p).2,x k p⟩) (λk p a=>by have:=o.own.2;omega);refine⟨s.fc u n (λk p F=>by have:=o.aH k F;have:=o.own.2;omega),q.mono ?_,d,o.put j r d q C ⟨λt=>(K t).same h,g.same h,l⟩ w,m,B,w⟩;rintro k((t|t)|t);exact .inl<|.inl<|.inr<|.inr ⟨j,r,t⟩;grind
 exact .inl<|.inl<|.inr<|.inl t
def Xr(e:ci Hd)(j:M)(u:j<y e)(h:jJ s b a c i e)(hD:s.D a):cY bA 255 #[.pointer<|H<|R i<|j*7] a λav W=>(av=.returned .nilIface/\s.D W/\Z (λD=>mf c i e D\/s.F D) a W/\∃au:Hd,jJ s b W c i (e.set j au)/\au.rest=e[j].rest/\(au.full=cf\/au.ended=cf)/\(∀D,au.S D->e[j].S D\/z (G a)<=D))\/EA s a W (λD=>mf c i e D\/s.F D) av (λaU=>aU):=by
 have g:∀d,d<7->aW a (R i<|j*7+d)=(Hd.cells e[j])[d]?:=λd f=>by rw[ct h.row];grind[tq]
 have C:=g 0 (by decide);have d:=g 5 (by decide);have f:=g 6 (by decide);have m:=X h;have HD:=X hD;have o:=h.each j u;clear h hD g;have w:e.set j e[j]=e:=List.set_getElem_self u;have r:=X w;clear w;cases hfu:e[j].full with
 |true=>
  simp only[Hd.cells,hfu]at d C;simp at d;have l:=X hfu;clear hfu o f C;go_in
  go_wp2;go_ret;refine .inl ⟨rfl,HD,Z.refl _ _,e[j],?_,rfl,.inl l,λD P=>.inl P⟩;rw[J r];exact m
 |false=>
  cases hen:e[j].ended with
  |true=>
   simp only[Hd.cells,hfu,hen]at d C f;simp at d f;have l:=X hfu;have K:=X hen;clear hfu hen o C;go_in
   go_wp2;go_ret;refine .inl ⟨rfl,HD,Z.refl _ _,e[j],?_,rfl,.inr K,λD P=>.inl P⟩;rw[J r];exact m
  |false=>
   obtain⟨ax,cb,B,eg,v⟩:=o.gives hen;simp only[Hd.cells,hfu,hen,B]at d C f;simp at d f C;obtain⟨l,K,ad,aa⟩:=gw hfu hen B<|show Enters bA ax from eg;clear hfu hen o B;have hc:=v.call HD;clear v;go_in
   go_wp2_with fail
   refine hc.mono ?_;rintro av w1⟨Q,al,O⟩;have A:w1.heap[i]?=H (.cells (eI e).toArray 380 (0,0)):=(O.block i (ak m.row)<|λF=>F.elim (λF=>(m.nS j u i F).2 rfl) (λF=>by have:=m.aH i F;have:=m.own.2;omega)).trans m.row;obtain⟨⟨c1,c2,c3,c4,c5,c6⟩,k⟩:=xD A j u;have g1:=k<|j*7+1;have g2:=k<|j*7+1+1;have g3:=k<|j*7+1+2;have g4:=k<|j*7+1+3;have g5:=k<|j*7+5;have g6:=k<|j*7+6;have ap:=ak A;obtain⟨L,x,n⟩:=dF A al O;rcases Q with⟨ev,rfl,⟨hl,rfl⟩|⟨hX,q,rfl,hq⟩⟩|⟨⟨T,V,S,p⟩,aF,S1,hl,rfl,ao,an⟩
   .have HL:=X hl;unfold bE xg;go_wp2;go_ret;have t:=J m;refine .inl ⟨rfl,Oa t j u ⟨e[j].v,[],zE,bw,cf,e[j].S⟩ _ rfl n x L (λF=>by cases F) ((t.each j u).own.aj n) (λ_=>⟨rfl,rfl⟩) (λD P=>.inl P) ?_<|.inr rfl⟩;unfold Hd.rest;rw[J l,J HL];rfl
   .have t:=X hq;unfold bE xg;go_wp2;go_ret;refine .inr ⟨hX,q,rfl,t.aj (cO aw w1) cJ,s.fc x (cO aw w1) cJ,(n.mono ?_).alloc _⟩;rintro D(F|F)
    .exact .inl<|.inl<|.inr<|.inr ⟨j,u,F⟩
    grind
   .obtain⟨HL,ac,N⟩:=dF hl ao an;unfold E.value;simp only;go_wp2;go_ret;have t:=J N;refine .inl ⟨rfl,Oa m j u ⟨e[j].v,aF,⟨T,V,S,p⟩,cf,bw,S1⟩ _ rfl n x L (λ_=>⟨ax,cb,ad,aa,t⟩) t.own (λF=>by cases F) ac ?_<|.inl rfl⟩;unfold Hd.rest;rw[J l,J HL];rfl
def GS:Option M->U
 |none=>-1
 |some b=>b
def jW(a:ci Hd):dX:=a.map Hd.rest
def Th(a:ci Hd)(i:M)(e:i<y a)(x:Hd)(b:x.rest=a[i].rest):jW (a.set i x)=jW a:=by
 unfold jW;rw[sY,b];refine List.ext_getElem (by simp)<|λj c d=>?_;rw[mw];grind
def yB{a:ci Hd}(c:b<y a):ml (jW a) b=a[b].rest.head?:=by
 unfold ml jW;simp[c]
theorem Hg{a:ci Hd}(g:i<y a){x:Hd}(f:∀k,x.S k->a[i].S k\/l<=k):∀k,mf b c (a.set i x) k->mf b c a k\/l<=k:=by
 rintro k(d|d|⟨j,h,d⟩);exact .inl<|.inl d;exact .inl<|.inr<|.inl d;rw[mw]at d;split at d;rcases f k d with e|e;exact .inl<|.inr<|.inr ⟨i,g,e⟩;exact .inr e;exact .inl<|.inr<|by grind
theorem AD(w:Y)(q:M):Z aw w (w.drewN q):=⟨rfl,rfl,rfl,ag _,λ_ _ _=>rfl⟩
def Lo(h:ml m b=H w)(a:kR m b=none):kR m (b+1)=H b:=by
 unfold kR;rw[h,a]
def Ln{f:E}(h:ml m b=H w)(a:kR m b=H c)(d:ml m c=H f):kR m (b+1)=if ahead w f then H b else H c:=by
 conv=>lhs;unfold kR
 rw[h,a];grind
def GB{a:ci Hd}{x:Hd}(h:∀j(c:j<y a),j<b->a[j].full=cf\/a[j].ended=cf)(d:x.full=cf\/x.ended=cf):∀j(c:j<y (a.set b x)),j<b+1->(a.set b x)[j].full=cf\/(a.set b x)[j].ended=cf:=by
 grind
def Yr(V:ja)(d b c N:M)(l:cU)(S:fh)(w:Y):Prop:=∃a,l=de (jW a)/\S=mf b c a/\y a=N/\jJ V d w b c a
theorem Nh(e:ci Hd)(h:jJ s b a c i e)(hD:s.D a)(hn:y e<=1000000000000):cY bA 254 #[aD c] a (Out s (Yr s b c i<|y e) (de<|jW e) (mf c i e) a):=by
 have bx:=h.uE;have cc:=ak h.box;have ce:=h.box.cell;obtain⟨j,HH,HD⟩:=dF bx h hD;go_in
 go_wp2;go_loopw [4,9] (λf ax wr=>∃(t:M)(d:ci Hd),t<=y e/\ax=.int .i64 t/\f=.int .i64 (GS<|kR (jW e) t)/\jJ s b wr c i d/\y d=y e/\jW d=jW e/\(∀bp(hj:bp<y d),bp<t->d[bp].full=cf\/d[bp].ended=cf)/\s.D wr/\Z (λl=>mf c i e l\/s.F l) a wr/\jb wr (z<|G a) zE/\(∀l,mf c i d l->mf c i e l\/z (G a)+1<=l)) (λ_ ax _=>y e-(intOf ax).toNat)
 (case atStart=>have h:=J HH;exact⟨0,e,bK _,rfl,rfl,h.laid _,rfl,rfl,λbp _ hj=>by omega,s.fc HD (cO aw a) cJ,(cO _ _),aK _ rfl,λl p=>.inl p⟩)
 case round=>
  obtain⟨t,d,ch,rfl,rfl,w,Q,D,P,C,hT,K,hS⟩:=hrel;have bE:=w.box.cell;rw[Q]at bE;by_cases bn:t<y e
  .have ao:=Xr d t (by omega) w C;obtain⟨HA,bq,aU,HT,HE,HS⟩:=lw w D P hT K hS;obtain⟨bo,o⟩:∃bo,kR (jW e) t=bo:=⟨_,rfl⟩;rw[o];have F:=X o;go_wp2_with fail
   refine ao.mono ?_;rintro cd w1(⟨rfl,an,O,aF,hA1,bT,ca,cb⟩|⟨hX,q,rfl,hq,an,O⟩);rotate_left
   .have ba:=ak HE;have A:jb w1 (z<|G a) zE:=HE.aj O (by
     rintro(u|u)
     .rcases HS _ u with T|T
      .have:=(j.each _ T).2;omega
      .omega
     .have:=j.aH _ u;have:=j.size;omega)
    obtain⟨bb,bc,bd,bf⟩:=A.cells;have bi:=A.free (i:=0);have bk:=A.free (i:=1);have bl:=A.free (i:=2);have bm:=A.free (i:=3);obtain⟨au,HQ,ad,L⟩:=gw A hq an O;go_wp2;refine cy (fV rfl _ _ (z<|G a) zE _ _ rfl<|au.put zE) rfl ?_;have n:Z (λl=>l=z (G a)) w1 (yC w1 (z<|G a) zE):=jc _ _ _;refine⟨.inl ⟨_,rfl,.inr ⟨hX,q,rfl,HQ.aj n au.sep⟩⟩,s.fc ad n (λl p hf=>by have:=j.aH l hf;have:=j.size;omega),(HT.trans L ?_).trans n<|by simp⟩;rintro l(u|u)
    .rcases HS l u with T|T
     .grind
     grind
    grind
   obtain⟨ad,L,r,br,al,bs⟩:=lw an O hA1 bT ca cb;go_wp2;have aa:t<y d:=by omega
   have av:t<y (d.set t aF):=by simp_all
   obtain⟨⟨c1,c2,c3,c4,c5,c6⟩,ap⟩:=xD r.row t av;rw[qU]at c1 c2 c3 c4 c5 c6;have bt:=r.box.cell;rw[iJ,Q]at bt;have ac:jW (d.set t aF)=jW e:=(Th d t aa aF br).trans bq;have bu:ml (jW e) t=aF.rest.head?:=by rw[<-ac,yB av,qU]
   have W:=X ac;have aV:=X bu;have cj:z (G a)<z (G wr):=ak HE;have bh:∀(ba:Y)(bv:U),Z aw w1 ba->GS (kR (jW e)<|t+1)=bv->∃(g:M)(f:ci Hd),g<=y e/\Value.int .i64 ((t:U)+1)=.int .i64 g/\Value.int .i64 bv=.int .i64 (GS<|kR (jW e) g)/\jJ s b ba c i f/\y f=y e/\jW f=jW e/\(∀bp(hj:bp<y f),bp<g->f[bp].full=cf\/f[bp].ended=cf)/\s.D ba/\Z (λl=>mf c i e l\/s.F l) a ba/\jb ba (z<|G a) zE/\(∀l,mf c i f l->mf c i e l\/z (G a)+1<=l):=by
    intro ba bv A au;refine⟨t+1,d.set t aF,bn,rfl,by rw[au],r.apart A cJ,by rw[iJ];exact Q,W,GB aU al,s.fc ad A cJ,?_,?_,?_⟩
    .refine((HT.trans L ?_).cz A);rintro l(u|u)
     .rcases HS l u with T|T
      .simp_all
      grind
     simp_all
    .refine(HE.aj L ?_).aj A<|λu=>u;rintro(u|u)
     .rcases HS _ u with T|T
      .have:=(j.each _ T).2;omega
      .omega
     .have:=j.aH _ u;have:=j.size;omega
    .intro l p;rcases Hg aa bs l p with T|T
     .exact HS l T
     grind
   have V:=X bh;cases hfu:aF.full with
   |false=>
    rw[hfu]at c5;have bg:aF.ended=cf:=al.resolve_left (by rw[hfu];simp);have ba:=(r.each t av).done;rw[qU]at ba;have bv:=ba bg;have au:ml (jW e) t=none:=by rw[J aV];unfold Hd.rest;rw[hfu,bv.1];rfl
    have A:kR (jW e) (t+1)=bo:=by unfold kR;rw[au];exact F
    have HB:=X A;go_quiet(fail)
    go_wp2;go_roundw;case rel=>grind[AD,J]
    case measure=>simp[intOf];omega
   |true=>
    rw[hfu]at c5;have ap:ml (jW e) t=H aF.fr:=by rw[J aV];unfold Hd.rest;rw[hfu];rfl
    cases bo with
    |none=>
     have HB:=X<|Lo ap F;simp only[GS];go_quiet(fail)
     go_wp2;go_roundw;case rel=>exact V _ _ (AD _ _) (by rw[J HB];rfl)
     case measure=>simp[intOf];omega
    |some k=>
     obtain⟨bL,N,B,_⟩:=vh F;have HB:=X<|Ln ap F B;have m:k<y (d.set t aF):=by omega
     have g:(d.set t aF)[k].rest.head?=H N:=by rw[<-yB m,J W];exact B
     have f:(d.set t aF)[k].full=cf:=by
      rcases GB aU al k m (by omega)with u|u
      .exact u
      .have:=(r.each k m).done u;unfold Hd.rest at g;rw[this.2,this.1]at g;cases g
     have x:(d.set t aF)[k].fr=N:=by
      unfold Hd.rest at g;rw[f]at g;simp_all
     obtain⟨⟨d1,d2,d3,d4,_,_⟩,_⟩:=xD r.row k m;rw[x]at d1 d2 d3 d4;have A:=DD aF.fr N;have ba:=ak r.row;have au:=ak r.box;generalize aF.fr=xf at*;obtain⟨xk,xv,xd,xb⟩:=xf;obtain⟨fk,fv,fd,v⟩:=N;simp only at c1 c2 c3 c4 d1 d2 d3 d4;simp only[E.value]at A;simp only[GS];have i1:(0:U)<=(k:U):=by omega
     have i2:(k:U)<(y e:U):=by omega
     have i3:k<y e:=by omega
     have i4:¬(k:U)<0:=by omega
     have i5:(0:U)<=(t:U):=by omega
     have i6:(t:U)<(y e:U):=by omega
     cases hax:ahead ⟨xk,xv,xd,xb⟩ ⟨fk,fv,fd,v⟩;all_goals
      rw[hax]at HB A;go_region_held3(λa=>aW a (R c 0)=H (bI i 0 (y e)<|y e)/\aW a (R i<|t*7+5)=H (.bool cf)/\(aW a (R i<|t*7+1)=H (.string xk)/\aW a (R i<|t*7+1+1)=H (.string xv)/\aW a (R i<|t*7+1+2)=H (.bool xd)/\aW a (R i<|t*7+1+3)=H (.int .u64 xb))/\(aW a (R i<|k*7+1)=H (.string fk)/\aW a (R i<|k*7+1+1)=H (.string fv)/\aW a (R i<|k*7+1+2)=H (.bool fd)/\aW a (R i<|k*7+1+3)=H (.int .u64 v))) (first|assumption|go_keep) (first
       |(go_at_call 206;refine(A _).mono ?_;rintro cd w2⟨rfl,rfl⟩))
      go_wp2;go_roundw;case rel=>
       refine V _ _ ?_ (by rw[J HB];rfl);exact(((cO aw w1).alloc _)).cz<|AD _ 1
      case measure=>simp[intOf];omega
  .have bv:t=y e:=by omega
   subst bv;obtain⟨bo,o⟩:∃bo,kR (jW e) (y e)=bo:=⟨_,rfl⟩;rw[o];cases bo with
   |none=>
    have hm:=yK (hs:=jW e) (by rw[show y (jW e)=y e by simp[jW]];exact o);have A:=X hm;have r:=X C;have HT:=X hT;have HE:=X K;obtain⟨bb,bc,bd,bf⟩:=K.cells;have bi:=K.free (i:=0);have bk:=K.free (i:=1);have bl:=K.free (i:=2);have bm:=K.free (i:=3);clear hm o w C hT K hS D P;simp only[GS];go_wp2;refine cy (fV rfl _ _ (z<|G a) zE _ _ rfl<|HE.put zE) rfl ?_;have n:Z (λl=>l=z (G a)) wr (yC wr (z<|G a) zE):=jc _ _ _;exact⟨.inl ⟨_,rfl,.inl ⟨A,rfl⟩⟩,s.fc r n (λl p hf=>by have:=j.aH l hf;have:=j.size;omega),HT.trans n<|by simp⟩
   |some k=>
    have aV:y (jW e)=y e:=by simp[jW]
    obtain⟨bL,N,B,_⟩:=vh o;have hm:=yJ (hs:=jW e) (by rw[aV];exact o) B;have m:k<y d:=by omega
    have g:d[k].rest.head?=H N:=by rw[<-yB m,D];exact B
    have f:d[k].full=cf:=by
     rcases P k m (by omega)with u|u
     .exact u
     .have:=(w.each k m).done u;unfold Hd.rest at g;rw[this.2,this.1]at g;cases g
    have x:d[k].fr=N:=by
     unfold Hd.rest at g;rw[f]at g;grind
    have L:d[k].ended=bw:=by
     cases u:d[k].ended with
     |false=>rfl
     |true=>have:=((w.each k m).done u).2;rw[f]at this;cases this
    obtain⟨⟨d1,d2,d3,d4,d5,_⟩,O⟩:=xD w.row k m;have g5:=O<|k*7+5;rw[x]at d1 d2 d3 d4;have W:jW (d.set k {d[k]with full:=bw})=(jW e).modify k List.tail:=by
     rw[<-D];unfold jW;rw[sY];refine List.ext_getElem (by simp)<|λbp h1 h2=>?_;rw[mw,List.getElem_modify];split
     .rename_i cd;subst cd;simp[Hd.rest,f]
     .simp
    have A:(cH wr (R i<|k*7+5)<|.bool bw).heap[i]?=H (.cells (eI<|d.set k {d[k]with full:=bw}).toArray 380 (0,0)):=by
     refine(aJ w.row).trans ?_;simp only[cZ];rw[<-Hx d k m {d[k]with full:=bw} rfl]
    have bg:Z (λl=>(d[k].S l\/s.F l)\/l=i) wr (cH wr (R i<|k*7+5)<|.bool bw):=(Z.refl (λl=>(d[k].S l\/s.F l)\/l=i) wr).setCell i _ _<|.inl<|.inr rfl;have F:Z (λl=>l=i) wr (cH wr (R i<|k*7+5)<|.bool bw):=(iT i wr);have V:Vh s b (cH wr (R i<|k*7+5)<|.bool bw) {d[k]with full:=bw}:=by
     have an:=w.each k m;have ba:=F.same (V:=s) (n0:=b) (S:=d[k].S) w.size (λl p=>⟨(an.own.each l p).2,λu=>(w.nS k m l p).2 u⟩) (λl p bn=>by have:=w.own.2;omega);exact⟨λu=>(an.gives L).same ba,an.own.same ba,(by grind)⟩
    have aa:=w.put k m {d[k]with full:=bw} bg A V (λl p=>.inl p);have aU:¬z (G a)=i:=λu=>by have:=ak HH.row;omega
    have bT:¬i=z (G a):=λu=>aU u.symm;have r:jb (cH wr (R i<|k*7+5)<|.bool bw) (z<|G a) zE:=K.aj F aU;obtain⟨bb,bc,bd,bf⟩:=r.cells;have bi:=r.free (i:=0);have bk:=r.free (i:=1);have bl:=r.free (i:=2);have bm:=r.free (i:=3);have ac:∀l,mf c i (d.set k {d[k]with full:=bw}) l->mf c i e l\/z (G a)+1<=l:=by
     grind[Hg]
    have av:Z (λl=>mf c i e l\/s.F l) a (cH wr (R i<|k*7+5)<|.bool bw):=hT.trans F<|λl p=>.inl<|.inl<|.inr<|.inl p;have au:=s.fc C F (λl p hf=>by have:=j.aH l hf;have:=j.each i<|.inr<|.inl rfl;omega);have al:de (jW e)=N::de (jW<|d.set k {d[k]with full:=bw}):=by rw[W];exact hm
    have ad:y (d.set k {d[k]with full:=bw})=y e:=by rw[iJ];exact Q
    obtain⟨ao,aF⟩:∃ao,ao=d.set k {d[k]with full:=bw}:=⟨_,rfl⟩;rw[<-aF]at aa ac al ad;obtain⟨bh,ap,bt,bs,bu,bq,br⟩:=zX aa ac al ad av au r;have i1:(0:U)<=(k:U):=by omega
    have i2:(k:U)<(y e:U):=by omega
    have i3:k<y e:=by omega
    have i4:¬(k:U)<0:=by omega
    rw[f]at d5;clear hm B g f x L W A bg F V aa ac av au al ad r w C hT K hS D P o aV O aF;obtain⟨fk,fv,fd,v⟩:=N;simp only at d1 d2 d3 d4;simp only[GS];go_wp2;refine cy (fV rfl _ _ (z<|G a) ⟨fk,fv,fd,v⟩ _ _ rfl<|br.put ⟨fk,fv,fd,v⟩) rfl ?_;have n:Z (λl=>l=z (G a)) (cH wr (R i<|k*7+5)<|.bool bw) (yC (cH wr (R i<|k*7+5)<|.bool bw) (z<|G a) ⟨fk,fv,fd,v⟩):=jc _ _ _;refine⟨.inr ⟨⟨fk,fv,fd,v⟩,_,_,bt,rfl,λl p=>?_,ao,rfl,rfl,bs,bh.apart n<|λl p=>?_⟩,s.fc bq n (λl p hf=>by have:=j.aH l hf;have:=j.size;omega),bu.trans n<|by simp⟩;rotate_left
    .subst p;refine⟨λu=>?_,λu=>by have:=j.size;omega⟩;rcases ap _ u with T|T
     .have:=(j.each _ T).2;omega
     .omega
    .rcases ap l p with T|T
     .exact .inl T
     grind
def Qg(V:ja)(f c d:M)(b:ci Hd)(w:Y)(i:y b<=1000000000000)(a:jJ V f w c d b):Cu V f 254 #[aD c] (de<|jW b) (mf c d b) w:=by
 refine Cu.of (Yr V f c d<|y b) ?_ ?_ ?_ ⟨b,rfl,rfl,rfl,a⟩;rintro l S w⟨h,rfl,rfl,_,a⟩;exact a.uE;rintro l S w j⟨h,rfl,rfl,e,a⟩g;exact⟨h,rfl,rfl,e,a.same g⟩;rintro l S w⟨h,rfl,rfl,e,a⟩g;rw[<-e];grind[Nh]
def JW{P:Program}{e:Array ab}{t:TypeId}(j:a.heap[b]?=H (ay e t (0,0)))(h:e[c]?=H d)(v:ab)(i:v.oneCell'=cf):(store (R b c) v).run P a=.ok () (cH a (R b c) v):=by
 have f:aW a (R b c)=H d:=(ct j).trans h;have g:=cQ (i:=c) j;rw[Cw P a _ _ _ i];simp[f,g]
def AQ:Hd:=⟨.nilFunc,[],zE,bw,bw,λ_=>False⟩
def Ko(g:ab×cU×fh):Hd:=⟨g.1,g.2.1,zE,bw,bw,g.2.2⟩
def vJ(a:ci (ab×cU×fh))(n:M):ci Hd:=(a.take n).map Ko++List.replicate (y a-n) AQ
def Eg(a:ci (ab×cU×fh))(n:M)(h:n<=y a):y (vJ a n)=y a:=by unfold vJ;simp;omega
def Un(a:ci (ab×cU×fh))(n:M)(h:n<y a):(vJ a n).set n (Ko a[n])=vJ a (n+1):=by
 unfold vJ;have b:y a-n=(y a-(n+1))+1:=by omega
 rw[b,List.replicate_succ,gM _ _ (by simp;omega)];rw[ah h];have:n-y ((a.take n).map Ko)=0:=by simp;omega
 rw[this];grind
def NQ(a:ci (ab×cU×fh))(n:M)(h:n<y a):(vJ a n)[n]?=H AQ:=by
 unfold vJ;rw[fp (by simp;omega)];grind
def Hy(a:ci Hd)(i:M)(h:i<y a)(x:Hd)(c:x.fr=a[i].fr)(d:x.full=a[i].full)(e:x.ended=a[i].ended):(eI a).set (i*7) x.v=eI (a.set i x):=by
 have f:y (eI<|a.take i)=i*7:=by rw[nu];simp;omega
 have b:eI (a.set i x)=eI (a.take i)++(Hd.cells x++eI (a.drop<|i+1)):=by rw[jq,di h];simp only[eI,fJ,dY]
 rw[b,qI a i h,gM _ _ (by omega),f,AY];simp[Hd.cells,c,d,e]
def Qi(n:M):(madeCells #[.nilFunc,am ⟨#[]⟩,am ⟨#[]⟩,aM bw,aG 0,aM bw,aM bw]<|n*7).toList=eI (List.replicate n AQ):=by
 refine uN<|λj=>?_;by_cases c:j<n*7;(have a:j/7<y (List.replicate n AQ):=by simp;omega);have b:=tq (List.replicate n AQ) (j/7) (j%7) a (by omega);rw[show j/7*7+j%7=j by omega]at b;rw[b,List.getElem_replicate];have f:j%7<7:=wK _ (by decide);(have d:(madeCells #[.nilFunc,am ⟨#[]⟩,am ⟨#[]⟩,aM bw,aG 0,aM bw,aM bw]<|n*7).toList[j]?=H ((#[.nilFunc,am ⟨#[]⟩,am ⟨#[]⟩,aM bw,aG 0,aM bw,aM bw]:Array ab)[j%7]!):=by unfold madeCells;simp[c]);rw[d];(have:j%7=0\/j%7=1\/j%7=2\/j%7=3\/j%7=4\/j%7=5\/j%7=6:=by omega);rcases this with e|e|e|e|e|e|e<;>rw[e]<;>rfl;grind[getElem?_eq_none,Array.length_toList,size_madeCells,nu]
def WX:(prog.info? 380).map (λi=>(i.zero,i.size,i.bytes))=H (H<|dL #[.nilFunc,am ⟨#[]⟩,am ⟨#[]⟩,aM bw,aG 0,aM bw,aM bw],7,64):=by kernel_rfl
def Tx(p:a.ownsRow b c i (bI l 0 F F) F B):a.heap[l]?=H (ay B.toArray c (0,0)):=by
 obtain⟨q,⟨e,_⟩|⟨o,h,d,e,r,m,n,k,f,g⟩⟩:=p;cases e;cases e;(have j:d.toList=B:=by rw[<-g,dN (by rw[mr,f];grind)]);rw[m,<-j]
def TK(bf:ja)(Q:M)(b:ci (ab×cU×fh))(hr:Row a 1 d (y b) (b.map (·.1)))(aU:∀m,cI d=H m->m<z (G a))(hn:y b<=1000000000)(hg:∀j(k:j<y b),jp bf Q b[j].1 b[j].2.1 b[j].2.2 a)(hd:∀j bh(k:j<y b)(hj:bh<y b),j≠bh->∀m,b[j].2.2 m->¬b[bh].2.2 m)(O:Q<=z (G a))(hF:∀m,bf.F m->m<Q):cY bA 228 #[d] a λbk w'=>∃v' S',bk=aN v'/\jp bf Q v' (de<|b.map (·.2.1)) S' w'/\Below (z<|G a) a w'/\(∀m,S' m->(∃j,∃k:j<y b,b[j].2.2 m)\/z (G a)<=m):=by
 obtain⟨i0,aF,bb,bc,bd⟩:=dl WX;obtain⟨bq,bi,ba⟩:=bZ hr;obtain⟨HR,av,HG,ap,HF⟩:=iY hr aU hg hd hF;subst ba;go_in
 go_wp2_with(at_make;refine wpList_make_full _ rfl (.tmp 7) (.tmp 7) 378 rfl (z<|G a) 380 i0 (dL #[.nilFunc,am ⟨#[]⟩,am ⟨#[]⟩,aM bw,aG 0,aM bw,aM bw]) 7 underlying378 aF bb bc _ _ _ _ (y b) rfl rfl rfl rfl (by rw[bd];omega) (by unfold maxLen;omega) (ag _) ?_;intro r al ac;have L:=Tx al;have o:=X L;have au:=X ac)
 have ax:=J au;have an:z (G a)<z (G r):=ak o;have e:Below (z<|G a) a r:=(Below.refl _ a).grown ax (ag _) (by simp);have T:=X<|e.alloc e.size<|ay #[bI (z<|G a) 0 (y b)<|y b] 378;have K:(dd r<|ay #[bI (z<|G a) 0 (y b)<|y b] 378).heap[z<|G a]?=H (ay (eI<|vJ b 0).toArray 380 (0,0)):=by rw[gq _ an,J o];(have bk:vJ b 0=List.replicate (y b) AQ:=by simp[vJ]);rw[bk,<-Qi];rfl
 have D:eX (dd r<|ay #[bI (z<|G a) 0 (y b)<|y b] 378) (z<|G r) (bI (z<|G a) 0 (y b)<|y b) 378:=aK _ rfl;have x:=X K;have u:=X D;go_loopw [11] (λj wr=>∃n:M,n<=y b/\j=aq n/\wr.heap[z<|G a]?=H (ay (eI<|vJ b n).toArray 380 (0,0))/\eX wr (z<|G r) (bI (z<|G a) 0 (y b)<|y b) 378/\Below (z<|G a) a wr) (λj _=>y b-(intOf j).toNat)
 case atStart=>exact⟨0,bK _,rfl,x,u,T⟩
 case round=>
  obtain⟨n,ad,rfl,f,i,e⟩:=hrel;have bl:=i.cell;obtain⟨A,v,s⟩:=dF f i e;by_cases g:n<y b
  .obtain⟨bg,W,aa,bn,bo⟩:=HG n g;have E:∀l c,bq=H (R l c)->aW wr (R l<|c+n)=H (.func (.func bg) #[] W):=by
    intro l c S;obtain⟨h1,⟨C,_⟩|⟨bs,ao,V,C,aV,hc⟩⟩:=J HR
    .rw[S]at C;cases C
    .rw[S]at C;cases C;refine(e.cell (p:=(R l<|c+n))<|av l (by rw[S];rfl)).trans<|hc n _ ?_;rw[fB,aR g];simp[aa]
   obtain⟨l,c,S⟩:∃l c,bq=H (R l c):=by
    obtain⟨h1,⟨C,q⟩|⟨bs,ao,V,C,aV,hc⟩⟩:=J HR
    .omega
    grind
   have bm:=E l c S;subst S;have F:(eI<|vJ b n).toArray[n*7]?=H .nilFunc:=by
    have hl:n<y (vJ b n):=by rw[Eg b n ad];exact g
    have:=tq (vJ b n) n 0 hl (by decide);rw[List.getElem?_toArray];rw[kL]at this;rw[this];have q:=NQ b n g;rw[aR hl]at q;cases h0':(vJ b n)[n]with
    |mk bu bt fr fu en br=>
     rw[h0']at q;cases q;rfl
   have bp:=JW (P:=bA) f F (.func (.func bg) #[] W) rfl;have N:(cH wr (R (z<|G a)<|n*7)<|.func (.func bg) #[] W).heap[z<|G a]?=H (ay (eI<|vJ b<|n+1).toArray 380 (0,0)):=by
    have hl:n<y (vJ b n):=by rw[Eg b n ad];exact g
    have q:(vJ b n)[n]=AQ:=by
     have:=NQ b n g;rw[aR hl]at this;grind
    refine(aJ f).trans ?_;simp only[cZ];rw[<-Un b n g,<-Hy (vJ b n) n hl (Ko b[n]) (by rw[q];rfl) (by rw[q];rfl) (by rw[q];rfl)];simp only[Ko,aa]
   obtain⟨B,w,t⟩:=dF N (i.other (b':=z<|G a) (i:=n*7) (.func (.func bg) #[] W)<|by omega)<|e.setCell (p:=(R (z<|G a)<|n*7)) (ag _)<|.func (.func bg) #[] W;go_wp2;go_roundw;case rel=>exact⟨n+1,g,by go_num,B,w,t⟩
   case measure=>simp[intOf];omega
  .have E:n=y b:=by omega
   subst E;go_wp2;go_ret;have f:=J A;have i:=J v;have e:=J s;have B:vJ b (y b)=b.map Ko:=by simp[vJ]
   rw[B]at f;have N:Z aw a wr:=Z.aQ e;have hg:=J HG;have F:jW (b.map Ko)=b.map (·.2.1):=by unfold jW;rw[ee];rfl
   refine⟨_,mf (z<|G r) (z<|G a)<|b.map Ko,rfl,⟨254,_,rfl,enters_of func254 (by kernel_rfl) rfl,?_⟩,e,?_⟩
   .rw[<-F];refine Qg bf Q (z<|G r) (z<|G a) (b.map Ko) wr (by simp;omega) ⟨by grind,f,λj k=>?_,aB O e.size,HF,⟨by omega,O⟩,by omega,λj k m q=>?_,λj bh k hj C m q=>?_⟩
    .have l:j<y b:=by simpa using k
     have c:=hg j l;have t:=N.same (V:=bf) (n0:=Q) (S:=b[j].2.2) O (λm q=>⟨(c.own.each m q).2,λw=>w⟩) cJ;rw[kX];exact⟨λ_=>c.same t,c.own.same t,λw=>by cases w⟩
    .have l:j<y b:=by simpa using k
     rw[kX]at q;have:=((hg j l).own.each m q).2;grind
    .rw[kX]at q|-;exact ap j bh (by simpa using k) (by simpa using hj) C m q
   .rintro m(w|w|⟨j,k,w⟩)
    .grind
    .grind
    .rw[kX]at w;exact .inl ⟨j,by simpa using k,w⟩
def mh(V:ja)(e:M)(i:ab)(g:cU)(w:Y):Prop:=∃t v h qP,i=.iface t v/\(∀w,(Go.method 541 t v "From").run bA w=.ok (h,qP) w)/\Enters bA h/\∀d b,kS V e aw w b->V.D b->cY bA h #[qP,am d] b λj a=>∃f c,j=aN f/\jp V e f (gm d g) c a/\V.D a/\Z V.F b a/\(∀k,c k->z (G b)<=k)
def WV:(prog.info? 291).map (λi=>(i.zero,i.size,i.bytes))=H (H .nilFunc,1,8):=by kernel_rfl
def Dy(w:Y)(v:ab)(t:TypeId):∀j u,[v][j]?=H u->aW (dd w<|ay #[v] t) (((R (z<|G w) 0):Addr).add j)=H u:=by
 intro j u a;rw[dJ];simp_all
def E0(h:d.oneCell'=cf):∀u∈[d],u.oneCell'=cf:=by
 grind
structure Ck(V:ja)(n0:M)(w0 w:Y)(lo:ae)(Rqq:ci (ab×cU))(o:ab)(Gqq:ci (ab×cU×fh)):Prop where
 own:w.ownsRow (z<|G w0) 291 1 o (y Gqq) (Gqq.map (·.1))
 gives:∀i(hi:i<y Gqq),jp V n0 Gqq[i].1 Gqq[i].2.1 Gqq[i].2.2 w
 rows:Gqq.map (·.2.1)=(Rqq.take<|y Gqq).map (λr=>gm lo r.2)
 Oh:∀i j(hi:i<y Gqq)(hj:j<y Gqq),i≠j->∀k,Gqq[i].2.2 k->¬Gqq[j].2.2 k
 apart:∀i(hi:i<y Gqq)k,Gqq[i].2.2 k->z (G w0)<=k/\cI o≠H k
 aH:V.D w
 aj:Z V.F w0 w
def Ck.next{B:Y}{h:ci (ab×cU)}{c:ci (ab×cU×fh)}(v:Ck s b a f r h d c)(p:y c<y h)(hn:b<=z (G a))(hF:∀k,s.F k->k<b)(Q:Z s.F f A)(E:jp s b L (gm r h[y c].2) o A)(hD:s.D A)(D:∀k,o k->z (G f)<=k){ob:Obj}(hw:eJ (dd A ob) B d t)(W:B.ownsRow (z<|G a) 291 1 t (y c+1) (c.map (·.1)++[L])):Ck s b a B r h t (c++[(L,gm r h[y c].2,o)]):=by
 have P:=v.aj.size;have O:∀k,cI d=H k->z (G a)<=k/\k<z (G f):=λk e=>v.own.lt k e;have F:∀k,b<=k->¬s.F k:=(by grind);have j:Z (λk=>cI d=H k) A B:=(((Z.refl (λk=>cI d=H k) A).alloc ob).trans (Z.ep (S:=λk=>cI d=H k) hw.grown<|λk e=>.inl e)<|λk e=>.inl e);have V:Z (λk=>s.F k\/cI d=H k) f B:=(Q.mono (T:=λk=>s.F k\/cI d=H k)<|by grind).trans j (by grind);have i:∀l(q:l<y (c++[(L,gm r h[y c].2,o)])),(∃g:l<y c,(c++[(L,gm r h[y c].2,o)])[l]=c[l])\/(l=y c/\(c++[(L,gm r h[y c].2,o)])[l]=(L,gm r h[y c].2,o)):=by grind
 have N:∀k,(k<z (G A)/\cI d≠H k)->cI t≠H k:=by rintro k⟨C,h2⟩m;rcases hw.vQ with u|⟨ac,u,n⟩;(grind);rw[u]at m;cases m;simp at n;omega
 have w:∀k,o k->k<z (G A):=λk e=>(E.own.each k e).2;refine⟨by grind,λl q=>?_,?_,λl aa q hj K k e=>?_,λl q k e=>?_,?_,?_⟩;rcases i l q with⟨g,m⟩|⟨_,m⟩;(rw[m];have n:=v.gives l g;refine n.same<|V.same (aB hn P) (λk e=>⟨(n.own.each k e).2,?_⟩)<|λk e p=>?_;rintro(u|u);exact F k (n.own.each k e).1 u;exact(v.apart l g k e).2 u;grind);rw[m];refine E.same<|j.same E.own.size (λk e=>⟨w k e,λu=>?_⟩)<|λk e p=>?_;have:=D k e;have:=(O k u).2;omega;grind
 rw[aE,v.rows];simp only[bR,iz,af,aO,dB,dM];rw[ah p,aE];rfl;rcases i l q with⟨g,m⟩|⟨ei,m⟩<;>rcases i aa hj with⟨n,C⟩|⟨ej,C⟩;rw[m]at e;rw[C];exact v.Oh l aa g n K k e;rw[m]at e;rw[C];intro u;have:=D k u;have:=((v.gives l g).own.each k e).2;omega;rw[m]at e;rw[C];intro u;have:=D k e;have:=((v.gives aa n).own.each k u).2;omega;omega;rcases i l q with⟨g,m⟩|⟨_,m⟩;rw[m]at e;have:=((v.gives l g).own.each k e).2;have n:=Q.size;exact⟨(v.apart l g k e).1,N k ⟨by omega,(v.apart l g k e).2⟩⟩;rw[m]at e;have:=D k e;grind
 exact s.fc hD j (by grind);exact(v.aj.trans Q<|λk e=>.inl e).trans j<|by grind
def mh.same{V:ja}{n0:M}(i:mh V n0 d e a)(k:kS V n0 aw a f):mh V n0 d e f:=by
 obtain⟨t,v,n,qP,b,c,g,h⟩:=i;exact⟨t,v,n,qP,b,c,g,λl m i j=>h l m (k.trans i) j⟩
def CU(q:M)(c:ci (ab×cU))(lv:ab)(x:ae)(hr:Row a 1 lv (y c) (c.map (·.1)))(W:∀m,cI lv=H m->m<z (G a)/\¬s.F m)(hn:y c<=1000000000)(hR:∀K(u:K<y c),mh s q c[K].1 c[K].2 a)(hD:s.D a)(ad:q<=z (G a))(hF:∀m,s.F m->m<q):cY bA 163 #[lv,am x] a λbk w'=>∃v' S',bk=aN v'/\jp s q v' (de<|(c.map (·.2)).map<|gm x) S' w'/\s.D w'/\Z s.F a w'/\(∀m,S' m->z (G a)<=m):=by
 obtain⟨i0,V,al,an,ao⟩:=dl WV;obtain⟨bp,bi,bf⟩:=bZ hr;obtain⟨HR,av,L,HD,HF⟩:=iY hr W hR hD hF;clear hr W hR hD hF;subst bf;go_in
 go_wp2_with(at_make;refine kG _ rfl _ _ 358 rfl (z<|G a) 291 i0 .nilFunc 1 underlying358 V al an _ _ _ (y c) rfl rfl rfl (by rw[ao];omega) (by unfold maxLen;omega) (ag _) ?_;intro w1 v t;have B:=X v;have r:=X t;clear v t)
 have Q:Ck s q a w1 x c (bI (z<|G a) 0 0<|y c) []:=by have d:Z s.F a w1:=Z.ep r (by simp);exact⟨B,λK u=>by simp at u,by simp,(by simp),λK u=>by simp at u,s.fc HD (Z.ep (S:=aw) r<|by simp) cJ,d⟩
 have ax:=X Q;clear Q;go_loopw [5,13] (λo K wr=>∃(bh:M)(b:ci (ab×cU×fh)),bh<=y c/\K=aq bh/\y b=bh/\Ck s q a wr x c o b) (λ_ K _=>y c-(intOf K).toNat)
 case atStart=>exact⟨0,[],bK _,rfl,rfl,ax⟩
 case round=>
  obtain⟨bh,b,bn,rfl,bb,d⟩:=hrel;obtain⟨ox,oc,ho⟩:=aC d.own;subst bb;by_cases o:y b<y c
  .obtain⟨bs,bt,bl,qP,ac,hm,he,i⟩:=L (y b) o;have eg:∀b a,(callFunc bl b).run bA a=.ok (.enter bl b) a:=he;have l:kS s q aw a wr:=d.aj.same ad cJ<|λm E _=>E;have hc:=i x wr l d.aH;obtain⟨bq,e,hx⟩:∃bq e,bp=H (R bq e):=by
    obtain⟨h1,⟨D,h0⟩|⟨br,ap,N,D,bd,hc⟩⟩:=J HR
    .omega
    grind
   have bm:aW wr (R bq<|e+y b)=H (.iface bs bt):=by
    obtain⟨h1,⟨D,_⟩|⟨br,ap,N,D,bd,bc⟩⟩:=J HR
    .rw[hx]at D;cases D
    .rw[hx]at D;cases D;have hb:=av bq (by rw[hx];rfl);refine d.aj.cell (bc (y b) _ ?_) hb.2 hb.1;rw[fB,aR o];simp[ac]
   subst hx;subst ho;have F:=X d;clear d i l ac he;go_wp2_with(first
    |(go_at_fn bl;refine hc.mono ?_;rintro bk w2⟨v1,S1,rfl,n,P,p,g⟩;obtain⟨O,f,rfl,T,aa⟩:=n;have A:=X<|show jp s q (.func (.func O) #[] f) (gm x c[y b].2) S1 w2 from⟨O,f,rfl,T,aa⟩;have j:=aT (p.own F.own (λm E hf=>by have:=HF m hf;have:=(F.own.lt m E).1;omega))<|.cells #[.func (.func O) #[] f] 291;have aU:=X j;have au:=X P;have aV:=X p;have C:=X g;have bo:=p.size;have bg:=F.aj.size;clear P p g aa j T)
    |(at_builtin;refine cC _ rfl (.tmp 17) (.tmp 21) 358 rfl (z (G a)) 291 i0 .nilFunc 1 8 underlying358 V al an ao rfl (by decide) (.slice ox (y b) oc) (y b) (b.map (λ(bp:ab×cU×fh)=>bp.1)) rfl aU (R (z (G w2)) 0) 1 1 [.func (.func O) #[] f] rfl rfl (Dy _ _ _) (E0 rfl) (by omega) (by omega) (by simp;omega) ?_;intro o2 w3 k w;have aF:=X k;have ba:=X w;clear k w))
   go_roundw;case rel=>
    refine⟨y b+1,b++[(.func (.func O) #[] f,gm x c[y b].2,S1)],o,by go_num,by simp,?_⟩;exact F.next o ad HF aV A au C ba aF
   case measure=>simp[intOf];omega
  .have k:y b=y c:=by omega
   subst ho;have F:=X d;have bg:=d.aj.size;have l:Row wr 1 (I ox (y b) oc) (y b) (b.map (·.1)):=dR d.own;have i:∀m,cI (I ox (y b) oc)=H m->m<z (G wr):=λm E=>(d.own.lt m E).2;have D:=TK s q b l i (by omega) (λK u=>d.gives K u) d.Oh (by omega) HF;have e:b.map (·.2.1)=(c.map (·.2)).map (gm x):=by rw[d.rows,k,aY,ee];rfl
   have j:=X e;clear d l i e k;go_wp2_with(go_at_call 228;refine D.mono ?_;rintro bk w2⟨v1,S1,rfl,n,f,g⟩;have A:=X n;have w:=X f;have C:=X g;clear n f g)
   go_ret;have d:=J F;have f:=J w;have p:Z aw wr w2:=Z.aQ f;refine⟨v1,S1,rfl,?_,s.fc d.aH p cJ,d.aj.cz p,λm E=>?_⟩
   .rw[<-J j];exact A
   .rcases C m E with⟨K,u,N⟩|N
    .exact(d.apart K u m N).1
    .omega
def F9(f:M)(b:ci (ab×cU))(x:ae)(D:U)(hr:Row a 1 d (y b) (b.map (·.1)))(ap:∀k,cI d=H k->k<z (G a)/\¬s.F k)(hn:y b<=1000000000)(hR:∀ad(hi:ad<y b),mh s f b[ad].1 b[ad].2 a)(hD:s.D a)(l:f<=z (G a))(hF:∀k,s.F k->k<f):cY bA 227 #[d,am x,aG D] a λB c=>∃o n,B=aN o/\jp s f o (oA ⟨#[]⟩<|(de<|(b.map (·.2)).map<|gm x).filter<|λB=>decide<|B.bQ<=D) n c/\s.D c/\Z s.F a c/\(∀k,n k->z (G a)<=k):=by
 obtain⟨W,r⟩:∃W,dd (dd a<|ay #[aG D] 74) (ay #[am ⟨#[]⟩] 9)=W:=⟨_,rfl⟩;have C:Z aw a W:=by rw[<-r];exact(cO _ a).alloc _
 have hz:z (G W)=z (G a)+2:=by rw[<-r];simp
 have V:=CU f b d x (C.row hr<|by grind) (by grind) hn (λad hi=>(hR ad hi).same<|C.same l cJ cJ) (s.fc hD C cJ) (by omega) hF;have u:∀k,f<=k->¬s.F k:=(by grind);have j:∀(c:Y)(o:ab)(n:fh),jp s f o (de<|(b.map (·.2)).map<|gm x) n c->Z s.F W c->(∀k,n k->z (G W)<=k)->cY bA 251 #[o,.func (.func 253) #[] #[aD<|z<|G a,aD<|z (G a)+1]] c λB m=>∃g e,B=aN g/\jp s f g (oA ⟨#[]⟩<|(de<|(b.map (·.2)).map<|gm x).filter<|λB=>decide<|B.bQ<=D) e m/\Below (z<|G c) c m/\(∀k,e k->z (G a)<=k):=by intro c o n hg w hS;have b1:eX c (z<|G a) (aG D) 74:=(w.block _ (by omega)<|u _ l).trans (by rw[<-r];grind[eX.alloc,aK]);have b2:eX c (z (G a)+1) (am ⟨#[]⟩) 9:=(w.block _ (by omega)<|u _<|by omega).trans (by rw[<-r];exact aK _<|by simp);refine(MS (atK s f (z<|G a) (z (G a)+1) D) ⟨#[]⟩ hg ⟨b1,b2,by omega,l,by omega⟩<|λk i E=>?_).mono ?_;have:=hS k i;rcases E with E|E<;>omega;rintro B m⟨g,e,h1,h2,h3,h4⟩;refine⟨g,e,h1,?_,h3,λk i=>?_⟩;rw[<-ZL];exact h2;rcases h4 k i with E|(E|E)|E;have:=hS k E;omega;omega;omega;grind
 obtain⟨L,HT,HD⟩:=dF j C<|λA(t:Z s.F W A)(h:s.D A)(a:Y)(D:Below (z<|G A) A a)=>s.fc h (Z.aQ (S:=aw) D) cJ;obtain⟨av,al,ac⟩:=bZ hr;subst r;subst ac;go_in
 go_wp2_with(first
  |(go_at_call 163;refine V.mono ?_;rintro B w2⟨v1,S1,rfl,t,O,v,P⟩;have j:=L w2 v1 S1 t v P;have F:=X O;have q:=X v;obtain⟨f1,an,rfl,ao,au⟩:=t)
  |(go_at_call 251;refine j.mono ?_;rintro B A⟨v2,S2,rfl,aa,T,Q⟩;have K:=X aa;have p:=X T;have N:=X Q))
 go_ret;exact⟨v2,S2,rfl,K,HD _ q F _ p,(((HT.mono cJ).trans q<|λk i=>.inl i)).trans (Z.aQ (S:=s.F) p)<|λk i=>.inl i,N⟩
def iw(W:Y)(l:M)(o:Obj):Z (λk=>k=l) W (W.putObj l o):=Z.ep (grownBy_putObj' W l o)<|by grind
def Yt{α:Type}(f:α->Array ab)(V:ja)(i p m:M)(n:Array ab)(o:ci α->Y->Prop)(l:ci α->Prop)(S e:fh)(w:Y):Prop:=∀(h:M)(d:ci α->fh->Y->Prop)(g:ci α->Y->Prop)(B:fh)(W:Y),kS V i S w W->V.D W->d [] B W->(∀k,S k->¬B k)->(∀a B W,d a B W->∀k,B k->i<=k/\k<z (G W))->(∀a B W b T,d a B W->Z T W b->(∀k,T k->¬B k/\e k)->d a B b)->(∀a x B W,o (a++[x]) W->d a B W->V.D W->YieldAt Fence.wide (p-1) bA h (f x) W λj b=>
 (j=aN (aM cf)/\V.D b/\∃c,d (a++[x]) c b/\Z B W b/\(∀k,c k->B k\/z (G W)<=k))\/(j=aN (aM bw)/\g (a++[x]) b))->
 CallsIn Fence.wide p bA m (#[.func (.yield h) #[] #[]]++n) W λj b=>(∃v,j=aN v)/\((∃k c,l k/\d k c b/\V.D b)\/(∃a,g a b))
def OR{α:Type}(e:α->Array ab)(V:ja)(h n j:M)(l:Array ab)(m:ci α)(S:fh)(w:Y):Prop:=∀(g:M)(d:ci α->fh->Y->Prop)(f:ci α->Y->Prop)(B:fh)(W:Y),kS V h S w W->V.D W->d [] B W->(∀k,S k->¬B k)->(∀a B W,d a B W->∀k,B k->h<=k/\k<z (G W))->(∀a B W b T,d a B W->Z T W b->(∀k,T k->¬B k/\(S k\/V.F k\/z (G w)<=k))->d a B b)->(∀a x B W,(a++[x])<+:m->d a B W->V.D W->YieldAt Fence.wide (n-1) bA g (e x) W λi b=>
 (i=aN (aM cf)/\V.D b/\∃c,d (a++[x]) c b/\Z B W b/\(∀k,c k->B k\/z (G W)<=k))\/(i=aN (aM bw)/\f (a++[x]) b))->
 CallsIn Fence.wide n bA j (#[.func (.yield g) #[] #[]]++l) W λi b=>(∃v,i=aN v)/\((∃c,d m c b/\V.D b)\/(∃a,f a b))
def OR.q{α:Type}{d:α->Array ab}{e:Array ab}{r:ci α}{S:fh}(w:OR d s c l V e r S a):Yt d s c l V e (λt _=>t<+:r) (·=r) S (λq=>S q\/s.F q\/z (G a)<=q) a:=by
 intro u v f B W g h j k m n o;apply(w u v f B W g h j k m n o).mono;grind
abbrev r9{α:Type}(a:α->Array ab)(V:ja)(e m:M)(c:M)(d:Array ab)(f:ci α->Y->Prop)(b:ci α->Prop)(S:fh)(w:Y):Prop:=Yt a V e m c d f b S (λk=>S k\/V.F k\/z (G w)<=k) w
def CX{α:Type}(V:ja)(g:ci α->fh->Y->Prop)(f:Code->ci α->fh->Y->Prop)(e:ci α)(B:fh)(W d:Y)(b:M):Exit->Act->Y->Prop
 | .normal,_,a=>V.D a/\∃c,g e c a/\Z (λk=>B k\/k=b) W a/\a.heap[b]?=d.heap[b]?/\(∀k,c k->B k\/z (G W)<=k)
 | .ret,_,a=>∃c,f .ret e c a/\Z (λk=>B k\/k=b) W a/\a.heap[b]?=d.heap[b]?/\(∀k,c k->B k\/z (G W)<=k)
 | .exit id,_,a=>∃c,f (.exit id) e c a/\Z (λk=>B k\/k=b) W a/\a.heap[b]?=d.heap[b]?/\(∀k,c k->B k\/z (G W)<=k)
 | .goto _,_,_=>False
 | .panic _,_,_=>False
 | .outgrown,_,_=>False
abbrev Yl{α:Type}(i:α->Array ab)(o:M)(t:Operand)(n:Array Tmp)(c body:Code)(Q:Exit->Act->Y->Prop)(a:Act)(w:Y)(V:ja)(r:M)(s:ci α->Y->Prop)(S g:fh)(j:ci α->fh->Y->Prop)(f:Code->ci α->fh->Y->Prop)(B:fh)(p:Prop):Prop:=(j [] B w)->(∀k,S k->¬B k)->(∀b B W,j b B W->∀k,B k->r<=k/\k<z (G W))->(∀b B W e T,j b B W->Z T W e->(∀k,T k->¬B k/\g k)->j b B e)->(∀m b B W e T,f m b B W->Z T W e->(∀k,T k->¬B k/\z (G w)<=k/\∃L,W.heap[k]?=H (.loop L))->f m b B e)->(∀d b x B W,z (G w)<=d->¬B d->(d<z (G W)/\∃L,W.heap[d]?=H (.loop L))->s (b++[x]) W->j b B W->V.D W->c.wpIn (Fence.wide.inRound d) (o-1-1) bA (Exit.then (λq l=>Z aw W l/\∀h,Z (λk=>k=d) l h->body.wpIn (Fence.wide.inRound d) (o-1-1) bA (CX V j f (b++[x]) B W h d) q h) (λ_ _ _=>False)) {tmps:=(n.zip<|i x).foldl (λv(u,A)=>v.setIfInBounds u A) a.tmps,defers:=[]} W)->p->(∀(D:M)(m:Code)(b:ci α)(B:fh)(W:Y),z (G w)<=D->f m b B W->¬B D->W.heap[D]?=H (.deferred<|H [])->m.wpIn Fence.wide o bA Q {a with defers:={target:=.collected D,args:=#[]}::a.defers} W)->(Code.rangeFunc t n c body).wpIn Fence.wide o bA Q a w
def uP{α:Type}{arg:α->Array ab}{m:M}{bl:Operand}{ps:Array Tmp}{assign body:Code}{bk:Exit->Act->Y->Prop}{a:Act}{V:ja}{n0 gf:M}{lb:Array ab}{pp:ci α->Y->Prop}{ff:ci α->Prop}{S E:fh}(hU:∀k,z (G f)<=k->E k)(hg:a.eval bl=.func (.func gf) #[] lb)(eg:Enters bA gf)(aV:∀bc,(arg bc).size=ps.size)(sK:Yt arg V n0 (m-1) gf lb pp ff S E f)(hD:V.D f)(aU:n0<=z (G f))(bb:∀k,S k->k<z (G f))(bh:ci α->fh->Y->Prop)(Ix:Code->ci α->fh->Y->Prop)(al:fh):Yl arg m bl ps assign body bk a f V n0 pp S E bh Ix al (∀(bg:ci α)(bd:M)(al:fh)(W:Y),ff bg->z (G f)<=bd->bh bg al W->¬al bd->V.D W->W.heap[bd]?=H (.deferred<|H [])->bk .normal {a with defers:={target:=.collected bd,args:=#[]}::a.defers} W):=by
 intro h0 bi L ad D F K N;refine wpIn_rangeFunc ?_;intro fn av;obtain⟨rec,d⟩:∃rec:LoopState->Option Code->Loop,rec=λb c=>{state:=b,pending:=c,fn,tmps:=a.tmps,params:=ps,assign,body,defers:=z (G f)}:=⟨_,rfl⟩;obtain⟨A,B⟩:∃A,dd (dd f<|.deferred<|H []) (.loop<|rec .ready none)=A:=⟨_,rfl⟩;have au:A.heap[z (G f)+1]?=H (.loop<|rec .ready none):=by rw[<-B];exact aK _<|by simp
 have ap:A.heap[z<|G f]?=H (.deferred<|H []):=by rw[<-B];grind[gq,aK]
 have O:Z aw f A:=by rw[<-B];exact(cO _ f).alloc _
 refine⟨z (G f)+1,[{target:=.collected<|z<|G f,args:=#[]}],A,{target:=.fn (.func gf) lb,args:=#[.func (.yield<|z (G f)+1) #[] #[]]},A,gf,#[.func (.yield<|f.heap.size+1) #[] #[]]++lb,A,?_,?_,?_,?_,(λx=>(by cases x)),?_⟩;rw[<-B,d];exact run_enterLoop_outer _ _ _ _ _;(.simp only[resolve,hg];simp[go_sem]);intro b _;trivial;(.have:=eg;unfold Enters at this;simp[invoke,go_sem,this])
 .refine(sK (z (G f)+1) (λj al W=>∃i,(∀k,al k↔i k\/k=z (G f)\/k=z (G f)+1)/\bh j i W/\¬i (z<|G f)/\¬i (z (G f)+1)/\W.heap[z (G f)+1]?=H (.loop<|rec .ready none)/\W.heap[z<|G f]?=H (.deferred<|H [])) (λj W=>∃x i,Ix x j i W/\¬i (z<|G f)/\¬i (z (G f)+1)/\W.heap[z (G f)+1]?=H (.loop<|rec .done<|H x)/\W.heap[z<|G f]?=H (.deferred<|H [])) (λk=>al k\/k=z (G f)\/k=z (G f)+1) A (O.same aU (by grind) cJ) (V.fc hD O cJ) ⟨al,λk=>rK,ad _ _ _ _ _ h0 O cJ,λx=>by have:=(L _ _ _ h0 _ x).2;omega,λx=>by have:=(L _ _ _ h0 _ x).2;omega,au,ap⟩ ?_ ?_ ?_ ?_).mono ?_
  .grind
  .rintro j B' W⟨i,Q,T,_,_,o,q⟩k t;rcases(Q k).1 t with x|x|x
   .exact L _ _ _ T k x
   .grind
   grind
  .rintro j B' W e l⟨i,Q,T,n1,n2,o,q⟩b g;exact⟨i,Q,(by grind),n1,n2,(b.block _ (ak o)<|by grind).trans o,(b.block _ (ak q)<|by grind).trans q⟩
  .rintro j bc B' W ac⟨i,Q,T,n1,n2,o,q⟩ao;have hy:=run_yield (P:=bA) (args:=(arg bc)) o (by rw[d];exact aV bc);rw[d]at hy;refine⟨fn,_,assign,body,hy,roundIn_of_wpIn av<|wpIn_mono (F (z (G f)+1) j bc i W (by omega) n2 ⟨ak o,_,o⟩ ac T ao) ?_⟩;intro bf a1 Wa C;cases bf with
   |normal=>
    obtain⟨ba,C⟩:=C;have aa:Wa.heap[z (G f)+1]?=H (.loop<|rec .ready none):=(ba.block _ (ak o)<|λx=>x).trans o;refine⟨_,run_beginRound aa (by rw[d]),?_⟩;have ax:(Wa.putObj (z (G f)+1)<|.loop {rec .ready none with state:=.busy}).heap[z (G f)+1]?=H (.loop {rec .ready none with state:=.busy}):=World.putObj_heap_same<|ak aa;refine wpIn_mono (C _<|iw _ _ _) ?_;have fin:∀(b:Option Code)(g:Y),g.heap[z (G f)+1]?=(Wa.putObj (z (G f)+1)<|.loop {rec .ready none with state:=.busy}).heap[z (G f)+1]?->(Instr.endRound (z (G f)+1) b).run bA g=.ok (aM b.isNone) (g.putObj (z (G f)+1)<|.loop<|rec (if b.isNone then .ready else .done) b)/\(g.putObj (z (G f)+1)<|.loop<|rec (if b.isNone then .ready else .done) b).heap[z (G f)+1]?=H (.loop<|rec (if b.isNone then .ready else .done) b):=λb g h3=>by
     have aF:=h3.trans ax;have:=run_endRound (P:=bA) b aF;rw[d]at this|-;grind[World.putObj_heap_same,ak]
    have n:∀g,Z (λk=>i k\/k=z (G f)+1) W g->g.heap[z<|G f]?=H (.deferred<|H []):=λg e=>(e.block _ (ak q)<|by grind).trans q;have v:∀(l:fh),(∀k,l k->i k\/z (G W)<=k)->¬l (z<|G f)/\¬l (z (G f)+1):=(by grind);rintro bf a3 g p;cases bf with
    |normal=>
     obtain⟨b,l,s,e,w,r⟩:=p;obtain⟨hr,u⟩:=fin none g w;obtain⟨q1,q2⟩:=v l r;have c:=iw g (z (G f)+1)<|.loop<|rec (if(none:Option Code).isNone then .ready else .done) none;refine⟨_,_,hr,.inl ⟨rfl,V.fc b c<|λk t hf=>?_,λk=>l k\/k=z (G f)\/k=z (G f)+1,⟨l,λk=>rK,ad _ _ _ _ _ s c (λk t=>by grind),q1,q2,u,?_⟩,?_,?_⟩⟩
     .have:=V.lt hD hf;omega
     .exact(c.block _ (ak<|n g e)<|λx=>by omega).trans<|n g e
     .refine(e.trans c<|by simp).mono<|λk t=>.inl<|(Q k).2 ?_;grind
     grind
    |ret=>
     obtain⟨l,s,e,w,r⟩:=p;obtain⟨hr,u⟩:=fin (H .ret) g w;obtain⟨q1,q2⟩:=v l r;have c:=iw g (z (G f)+1)<|.loop<|rec (if(H Code.ret:Option Code).isNone then .ready else .done)<|H .ret;exact⟨_,_,hr,.inr ⟨rfl,.ret,l,D _ _ _ _ _ _ s c (by grind),q1,q2,u,(c.block _ (ak<|n g e)<|λx=>by omega).trans<|n g e⟩⟩
    |exit id=>
     obtain⟨l,s,e,w,r⟩:=p;obtain⟨hr,u⟩:=fin (H<|.exit id) g w;obtain⟨q1,q2⟩:=v l r;have c:=iw g (z (G f)+1)<|.loop<|rec (if(H (Code.exit id):Option Code).isNone then .ready else .done)<|H<|.exit id;exact⟨_,_,hr,.inr ⟨rfl,.exit id,l,D _ _ _ _ _ _ s c (by grind),q1,q2,u,(c.block _ (ak<|n g e)<|λx=>by omega).trans<|n g e⟩⟩
    |goto bm=>exact p.elim
    |panic ch=>exact p.elim
    |outgrown=>exact p.elim
   |exit id=>exact C.elim
   |goto bm=>exact C.elim
   |ret=>exact C.elim
   |panic an=>exact C.elim
   |outgrown=>exact C.elim
  .rintro bf g⟨⟨v,rfl⟩,(⟨bg,B',e,⟨i,Q,T,n1,n2,o,q⟩,b⟩|⟨j,x,i,T,n1,n2,o,q⟩)⟩
   .have c:=λl=>iw g (z (G f)+1) l;exact⟨none,_,by have:=run_endLoop (P:=bA) o (by rw[d];simp);rw[d]at this;exact this,K bg _ i _ e (ag _) (by grind) n1 (V.fc b (c _) (λk t hf=>by have:=V.lt hD hf;omega))<|(c _).block _ (ak q) (λx=>by omega)|>.trans q⟩
   .have c:=λl=>iw g (z (G f)+1) l;exact⟨H x,_,by have:=run_endLoop (P:=bA) o (by rw[d];simp);rw[d]at this;exact this,N _ x j i _ (ag _) (by grind) n1<|(c _).block _ (ak q) (λx=>by omega)|>.trans q⟩
def se{α:Type}{arg:α->Array ab}{m:M}{A:Operand}{r:Array Tmp}{b body:Code}{Q:Exit->Act->Y->Prop}{a:Act}{V:ja}{n0 gf:M}{lb:Array ab}{l:ci α}{S:fh}(w:a.eval A=.func (.func gf) #[] lb)(t:Enters bA gf)(n:∀C,(arg C).size=r.size)(sK:OR arg V n0 (m-1) gf lb l S f)(v:V.D f)(k:n0<=z (G f))(e:∀p,S p->p<z (G f))(s:ci α->fh->Y->Prop)(q:Code->ci α->fh->Y->Prop)(B:fh):Yl arg m A r b body Q a f V n0 (λx _=>x<+:l) S (λp=>S p\/V.F p\/z (G f)<=p) s q B (∀(D:M)(B:fh)(W:Y),z (G f)<=D->s l B W->¬B D->V.D W->W.heap[D]?=H (.deferred<|H [])->Q .normal {a with defers:={target:=.collected D,args:=#[]}::a.defers} W):=λu h j o g c i d=>uP (by grind) w t n sK.q v k e s q B u h j o g c (by grind) d
abbrev Lt:E⊕M->Array ab
 | .inl x=>#[x.value,.nilIface]
 | .inr q=>#[xg,fj q]
def S4(V:ja)(l:cU)(b:ci (E⊕M))(W:Y):Prop:=(∃a:cU,b=a.map .inl/\a<+:l)\/∃(a:cU)(q:M),b=a.map .inl++[.inr q]/\V.Xp/\AS W q
def G4(l:cU)(b:ci (E⊕M)):Prop:=b=l.map .inl\/∃(a:ci (E⊕M))(q:M),b=a++[.inr q]
section
open Shelf
def Js(cv:M)(O:Array ab)(hb:eX a c (.func (.func i) #[] O) 291)(he:Enters bA i)(hr:Cu s b i O e o a)(bL:b<=c)(cd:¬o c):r9 Lt s b cv 250 #[aD c] (S4 s e) (G4 e) (λk=>o k\/k=c) a:=by
 intro lr cu Jx cs cq hs hD hJ bu cc ch hY;have eg:∀b a,(callFunc i b).run bA a=.ok (.enter i b) a:=he;have bx:eX cq c (.func (.func i) #[] O) 291:=hb.same hs<|.inr rfl;have ce:Cu s b i O e o cq:=hr.same<|hs.mono<|λ_ f=>.inl f;have bd:=hs.1;obtain⟨bg,bk,HD,HJ,ao,an,v,HY⟩:=Gw bx ce hD hJ bu cc ch hY;refine vq func250 rfl trivial ?_ rfl;simp only[ntmps250,gA,aO,dB,Nat.reduceAdd,Nat.reduceSub,ft,fq,gB,fM,du,cR];gi_wp2;gi_loopg [3] (y e+1) (λd _ wr=>∃g rest S' l,e=g++rest/\y rest<d/\Cu s b i O rest S' wr/\eX wr c (.func (.func i) #[] O) 291/\s.D wr/\cu (g.map .inl) l wr/\(∀k,S' k->¬l k)/\¬l c/\¬S' c/\(∀k,S' k->o k\/z (G a)<=k)/\z (G a)<=z (G wr))
 case atStart=>exact⟨[],e,o,cs,rfl,by omega,bk,bg,HD,HJ,λk f=>ao k<|.inl f,ao c<|.inr rfl,cd,λk f=>.inl f,bd⟩
 (case round=>obtain⟨g,rest,S',l,hl,bT,D,ba,br,aa,B,bq,bv,bt,cm⟩:=hrel;have ck:=ba.cell;have C:=D.own;(have bb:∀k,b<=k->¬s.F k:=λk f a=>by have:=C.aH k a;omega);have hc:=D.call br;have HT:=X<|λj(a:Z (λk=>S' k\/s.F k) wr j)=>v (g.map .inl) l wr j _ aa a<|λk f=>⟨λu=>f.elim (λx=>B k x u)<|λx=>bb k (an _ _ _ aa k u).1 x,(by grind)⟩;obtain⟨bl,F,bh,ap,al,au,HL,cj⟩:=Gw bt ba aa B bq bv hl C;have bo:=X bb;(gi_wp2_with fail);refine⟨trivial,(λu=>(by cases u)),?_⟩;refine(eD.2 hc).mono ?_;rintro cr j⟨bc,P,A⟩;rcases bc with⟨ev,rfl,⟨ca,rfl⟩|⟨hX,q,rfl,hq⟩⟩|⟨⟨n,p,m,d⟩,cp,S1,cb,rfl,bs,r⟩;(.subst ca;obtain⟨t,N⟩:=And.intro (X P) (X<|HT j A);unfold bE xg;gi_wp2;refine⟨λ_ h=>(by cases h),?_⟩;gi_wp2;refine cy (ju rfl _ _ _) rfl ?_;refine⟨⟨_,rfl⟩,.inl ⟨_,l,.inl rfl,?_,s.fc t (cO aw j) cJ⟩⟩;have hl:=J HL;rw[dz]at hl;rw[hl];exact v _ l j _ _ N (cO aw j) cJ);(.have V:=v _ l j _ _ (HT j A) ((Z.refl aw j).alloc<|ay #[am ⟨#[]⟩,am ⟨#[]⟩,aM bw,aG 0] 171) cJ;have Q:=s.fc P ((Z.refl aw j).alloc<|ay #[am ⟨#[]⟩,am ⟨#[]⟩,aM bw,aG 0] 171) cJ;obtain⟨fn,bf,w,body,hy,hR⟩:=HY (g.map .inl) (.inr q) l _ (.inr ⟨g,q,rfl,hX,hq.aj (cO aw j) cJ⟩) V Q;have HR:=X hR;unfold Lt xg at hy;simp only at hy;unfold bE xg;(gi_wp2_with fail);refine⟨(λu=>(by cases u)),(J HR).mono ?_⟩;rintro cr W3(⟨rfl,S,B3,W,aU,ax⟩|⟨rfl,hx⟩);(.obtain⟨K,L⟩:=And.intro (X S) (X W);gi_wp2;refine cy (ju rfl _ _ _) rfl ?_;exact⟨⟨_,rfl⟩,.inl ⟨_,B3,.inr ⟨_,q,rfl⟩,L,K⟩⟩);have HX:=X hx;gi_wp2;refine cy (ju rfl _ _ _) rfl ?_;exact⟨⟨_,rfl⟩,.inr ⟨_,HX⟩⟩);(.subst cb;have ac:Z aw j (dd j<|ay #[am n,am p,aM m,aG d] 171):=cO _ _;have V:=v _ l j _ _ (HT j A) ac cJ;have Q:=s.fc P ac cJ;obtain⟨fn,bf,w,body,hy,hR⟩:=HY (g.map .inl) (.inl ⟨n,p,m,d⟩) l _ (.inl ⟨g++[⟨n,p,m,d⟩],by simp,cp,by rw[J HL];simp⟩) V Q;obtain⟨HR,av,N,bi,bn⟩:=iY hR A bs r ac;unfold Lt at hy;unfold E.value at hy|-;simp only at hy|-;(gi_wp2_with fail);refine⟨(λu=>(by cases u)),(J HR).mono ?_⟩;rintro cr W3(⟨rfl,S,B3,W,aU,ax⟩|⟨rfl,hx⟩);(.obtain⟨K,L,bm,ad⟩:=gw S W aU ax;gi_wp2;(gi_roundg (y cp+1));(case measure=>simpa using bT);(case rel=>have bp:=an _ _ _ bh;have r:=J bi;(have aF:∀k,S1 k->¬l k:=λk f u=>by rcases N k f with x|x;exact ap k x u;grind);have t:Z l j W3:=(bn.mono (T:=l) cJ).trans bm<|λk f=>.inl f;(have aV:eX j c (.func (.func i) #[] O) 291:=by refine(av.block c (ak F) ?_).trans F;rintro(u|u);exact au u;exact bo _ bL u);have cn:=av.size;have co:=t.size;have cl:=ak F;refine⟨g++[⟨n,p,m,d⟩],cp,S1,B3,by rw[J HL];simp,by omega,r.same (t.same r.own.size (λk f=>⟨(r.own.each k f).2,aF k f⟩)<|by grind),(t.block c (ak aV) al).trans aV,K,by rw[aE];exact L,λk f u=>?_,λu=>?_,λu=>?_,λk f=>?_,by omega⟩;rcases ad k u with x|x;(grind);have:=(r.own.each k f).2;simp at x;omega;rcases ad c u with x|x;exact al x;simp at x;omega;rcases N c u with x|x;exact au x;omega;rcases N k f with x|x;exact bl k x;grind));have HX:=X hx;gi_wp2;refine cy (ju rfl _ _ _) rfl ?_;exact⟨⟨_,rfl⟩,.inr ⟨_,HX⟩⟩))
end
section
open Shelf
attribute [local go_sem] Oper.semAt_some
def Og(f:M)(a:Array ab)(w:Y):cY bA 225 #[.func (.func f) #[] a] w λe b=>e=aN (.func (.func 250) #[] #[aD<|z<|G w])/\b=dd w (ay #[.func (.func f) #[] a] 291):=by
 go_in
 go_wp2;go_ret;simp_all
def nz:(prog.info? 171).map (λi=>(i.zero,i.size,i.bytes))=H (H xg,4,48):=by kernel_rfl
structure xP(V:ja)(S:fh)(w0:Y)(N:M)(pre:cU)(B:fh)(W:Y):Prop where
 wG:eX W (z<|G w0) az 73
 err:eX W (z (G w0)+1) .nilIface 41
 row:∃v,eX W (z (G w0)+2) v 73/\W.ownsRow (z (G w0)+3) 171 4 v (y pre) (aI pre)/\(∀k,B k↔k=z (G w0)\/k=z (G w0)+1\/k=z (G w0)+2\/cI v=H k)
 le:y pre<=N
 aj:Z (λk=>S k\/V.F k) w0 W
def xP.lt{S:fh}(j:xP s S a c e o A):∀k,o k->z (G a)<=k/\k<z (G A):=by
 intro k i;obtain⟨v,l,g,h⟩:=j.row;rcases(h k).1 i with d|d|d|d;grind
 grind
 grind
 have:=g.lt k d;grind
def xP.stays{B:fh}{T:fh}(h:xP s o a b e B f)(c:Z T f A)(j:∀k,T k->¬B k/\((o k\/s.F k)\/z (G a)<=k)):xP s o a b e B A:=by
 obtain⟨v,d,g,i⟩:=h.row;exact⟨(c.block _ (ak h.wG)<|by grind).trans h.wG,(c.block _ (ak h.err)<|by grind).trans h.err,⟨v,(c.block _ (ak d)<|by grind).trans d,c.own g (by grind),i⟩,h.le,h.aj.trans c<|λk l=>(j k l).2⟩
def wV{d:Func}{p q:Tmp}{e:TypeId}(n:d.results=#[.cell p e,.cell q 41]){m:TypeId}(j:prog.underlying e=H (.slice m))(a:Array ab)(w:Y)(f g:M)(u v:ab)(k:a.getD p iM=aD f)(l:a.getD q iM=aD g)(h:aW w (R f 0)=H u)(i:aW w (R g 0)=H v):(results d a).run bA w=.ok (dA #[u,v]) w:=by
 have b:a[p]?.getD iM=aD f:=by simpa using k
 have c:a[q]?.getD iM=aD g:=by simpa using l
 simp[results,n,b,c,asAddr,loadVar,isAgg,underlying,j,underlying41,h,i,Result.andThen]
def gp{N:Fence}{P:Program}(x:Y){l:Array Oper}{rest:ci Oper}{D:Oper}{E:Act}{aa:Exit->Act->Y->Prop}(r:D.guard=none)(al an:Operand)(F:TypeId)(s:D.op=.call {callee:=.builtin .append,args:=#[al,an],argTypes:=#[F,F]})(a:M)(A:TypeId)(B:TypeInfo)(i:ab)(c bytes:M)(V:P.underlying F=H (.slice A))(Q:P.info? A=H B)(hz:B.zero=H i)(h:B.size=c)(q:B.bytes=bytes)(u:i.cells.size=c)(t:0<c)(L:ab)(C:M)(v:ix)(T:E.eval al=L)(j:x.ownsRow a A c L C v)(o:Addr)(w ac:M)(d:ix)(W:E.eval an=I (H o) w ac)(S:y d=w*c)(g:∀ad K,d[ad]?=H K->aW x (o.add ad)=H K)(O:∀K∈d,K.oneCell'=cf)(hn:C+w<=140737488355328)(e:(C+w)*bytes<=140737488355328)(f:a<=z (G x))(ao:∀m n,n.ownsRow a A c m (C+w) (v++d)->eJ x n L m->wpListIn N b P l aa rest (E.put D.dst m) n):wpListIn N b P l aa (D::rest) E x:=by
 refine yg r λap p=>?_;obtain⟨m,n,k,r1,r2,r3,r4⟩:=nG (P:=P) x a F D.type A B i c bytes V Q hz h q u t L C v j o w ac d S g O (by unfold maxLen;omega) e f;unfold Oper.wpIn;refine⟨?_,?_⟩;simp[Oper.about,s,resolve,Target.leads,wJ];rw[Oper.semAt_plain N _ _ (by rw[s];grind)];simp[execOp,s,resolve,invoke,builtin,T,W,k,Result.andThen];exact p _ _<|ao m n r1<|eJ.of r2 r4
theorem xG(w:Y)(x:E)(t:TypeId):∀j u,(aI [x])[j]?=H u->aW (dd w<|ay #[am x.key,am x.val,aM x.del,aG x.bQ] t) (((R (z<|G w) 0):Addr).add j)=H u:=by
 intro j u a;rw[dJ];have h:(dd w<|ay #[am x.key,am x.val,aM x.del,aG x.bQ] t).heap[z<|G w]?=H (ay #[am x.key,am x.val,aM x.del,aG x.bQ] t (0,0)):=aK _ rfl;rw[ct h,dM];simpa[aI,E.cells]using a
theorem Dd(x:E):∀u∈aI [x],u.oneCell'=cf:=by
 intro u a;simp[aI,E.cells]at a;rcases a with rfl|rfl|rfl|rfl<;>rfl
def xP.more{B:fh}{x:E}{P:Obj}(C:xP s o a b e B f)(u:eX f (z (G a)+2) d 73)(Q:∀k,B k↔k=z (G a)\/k=z (G a)+1\/k=z (G a)+2\/cI d=H k)(L:f.ownsRow (z (G a)+3) 171 4 d (y e) (aI e))(S:y e+1<=b)(F:eJ (dd f P) A d t)(h:A.ownsRow (z (G a)+3) 171 4 t (y e+1) (aI e++aI [x])):∃v,xP s o a b (e++[x]) v (cH A (R (z (G a)+2) 0) t)/\Z B f (cH A (R (z (G a)+2) 0) t)/\(∀k,v k->B k\/z (G f)<=k):=by
 have N:∀k,cI d=H k->z (G a)+3<=k/\k<z (G f):=λk c=>L.lt k c;have D:∀k,cI t=H k->z (G a)+3<=k:=λk c=>(h.lt k c).1;have V:=ak u;have l:Z (λk=>cI d=H k) f A:=((Z.refl (λk=>cI d=H k) f).alloc P).trans (Z.ep (S:=λk=>cI d=H k) F.grown<|λk c=>.inl c)<|λk c=>.inl c;have g:∀k,k<z (G a)+3->¬cI d=H k:=(by grind);have n:eX A (z<|G a) az 73:=(l.block _ (ak C.wG)<|g _<|by omega).trans C.wG;have q:eX A (z (G a)+1) .nilIface 41:=(l.block _ (ak C.err)<|g _<|by omega).trans C.err;have r:eX A (z (G a)+2) d 73:=(l.block _ (ak u)<|g _<|by omega).trans u;have j:Z B f (cH A (R (z (G a)+2) 0) t):=(l.mono (T:=B)<|by grind).setCell _ _ _ (by grind);refine⟨λk=>k=z (G a)\/k=z (G a)+1\/k=z (G a)+2\/cI t=H k,⟨n.other _ (by omega),q.other _ (by omega),⟨t,r.set _,?_,λk=>rK⟩,by simp;omega,?_⟩,j,?_⟩;(have w:y (e++[x])=y e+1:=by simp);rw[w,fY];exact h.kept (dS A _ _ _) (by grind);exact C.aj.trans j (by grind);rintro k(w|w|w|w);(grind);(grind);(grind);rcases F.vQ with O|⟨W,O,K⟩;(grind);rw[O]at w;cases w;simp at K;grind
def CZ(V:ja)(S:fh)(a:Y)(B:fh)(W:Y):Prop:=∃q,V.Xp/\AS W q/\eX W (z<|G a) az 73/\eX W (z (G a)+1) (fj q) 41/\V.D W/\Z (λk=>S k\/V.F k) a W/\B (z<|G a)/\B (z (G a)+1)
def CZ.stays{B T:fh}(v:CZ s o a B f)(c:Z T f A)(l:∀k,T k->¬B k/\b<=k/\∃L,f.heap[k]?=H (.loop L))(t:∀k,T k->¬B k/\z (G a)<=k)(hF:∀k,T k->¬s.F k):CZ s o a B A:=by
 obtain⟨q,u,⟨d,m,e⟩,i,j,r,p,g,h⟩:=v;refine⟨q,u,⟨d,(c.block _ (ak m)<|λn=>?_).trans m,e⟩,(c.block _ (ak i)<|λn=>(l _ n).1 g).trans i,(c.block _ (ak j)<|λn=>(l _ n).1 h).trans j,s.fc r c hF,p.trans c (by grind),g,h⟩;grind
def En(hg:jp s c d e o a)(hD:s.D a)(hl:y e<=1000000000):cY bA 162 #[d] a λck w'=>(∃v',ck=aN (dA #[v',.nilIface])/\w'.ownsRow (z<|G a) 171 4 v' (y e) (aI e)/\s.D w'/\Z (λk=>o k\/s.F k) a w')\/EA s a w' (λk=>o k\/s.F k) ck (λd=>dA #[az,d]):=by
 obtain⟨ch,cb,rfl,he,hr⟩:=hg;obtain⟨HE,HR,HD⟩:=dF he hr hD;have bq:=Og ch cb;obtain⟨i0,bt,bx,bE,au⟩:=dl nz;refine(eD (n:=3)).1 ?_;refine callsIn_of_wp_marks func162 rfl trivial ?_ rfl;simp only[ntmps162,gA,aO,dB,Nat.reduceAdd,Nat.reduceSub,ft,fq,gB,fM,du,cR];gi_wp2_with(refine⟨trivial,?_⟩;gi_at_call 225;refine(eD.2<|bq _).mono ?_;rintro ck w1⟨rfl,rfl⟩)
 have hr:=J HR;obtain⟨W0,x⟩:∃W0,(dd (dd (dd (dd a<|ay #[az] 73)<|ay #[.nilIface] 41)<|ay #[az] 73)<|ay #[.func (.func ch) #[] cb] 291)=W0:=⟨_,rfl⟩;have cu:z (G W0)=z (G a)+4:=by rw[<-x];simp
 have Q:Z aw a W0:=by rw[<-x];exact(((cO aw a).alloc _).alloc _).alloc _
 have bm:eX W0 (z (G a)+3) (.func (.func ch) #[] cb) 291:=by rw[<-x];exact aK _<|by simp
 have bg:xP s o a (y e) [] (λk=>k=z (G a)\/k=z (G a)+1\/k=z (G a)+2) W0:=by refine⟨?_,?_,⟨az,?_,cK _ _ _ _,λk=>by simp[cI]⟩,bK _,Q.mono cJ⟩;rw[<-x];grind[eX.alloc,aK];rw[<-x];exact eX.alloc (eX.alloc (aK _<|by simp) _) _;rw[<-x];exact eX.alloc (aK _<|by simp) _
 have bu:Cu s c ch cb e o W0:=hr.same<|Q.same hr.own.size (λk v=>⟨(hr.own.each k v).2,λF=>F⟩) cJ;have bi:s.D W0:=s.fc HD Q cJ;have cs:=hr.own.size;have cl:∀k,o k->k<z (G a):=λk v=>(hr.own.each k v).2;rw[x];have aU:∀k,z (G a)<=k->¬s.F k:=λk v hf=>by have:=hr.own.aH k hf;omega
 refine uP (arg:=Lt) (m:=3) (V:=s) (n0:=c) (gf:=250) (lb:=#[aD<|z (G a)+3]) (pp:=S4 s e) (ff:=G4 e) (S:=λk=>o k\/k=z (G a)+3) (by grind) ?geval (enters_of func250 (by kernel_rfl) rfl) (by grind) (Js 2 cb bm HE bu (by omega)<|by grind) bi (by omega) ?slt (λl' V W=>∃f,l'=f.map Sum.inl/\xP s o a (y e) f V W) (λF _ V W=>F=.ret/\CZ s o a V W) (λk=>k=z (G a)\/k=z (G a)+1\/k=z (G a)+2) ⟨[],rfl,bg⟩ ?sb ?lt ?st ?xst ?body ?done ?stop;case geval=>rfl
 (case slt=>grind);(case sb=>grind);(case lt=>rintro _ V W⟨f,rfl,h⟩k v;have:=h.lt k v;grind);(case st=>rintro _ V W W' ce⟨f,rfl,h⟩ht hT;refine⟨f,rfl,h.stays ht<|λk v=>⟨(hT k v).1,?_⟩⟩;grind);(case xst=>rintro F f V W W' ce⟨h1,h2⟩ht hT;have g:∀k,ce k->¬V k/\z (G a)<=k:=(by grind);exact⟨h1,h2.stays ht hT g<|by grind⟩);(case stop=>rintro aV F f V W bh⟨rfl,hZ⟩an hK;obtain⟨q,hX,hq,h2,g,D,Q,b2,b3⟩:=hZ;have t:=iw W aV<|.deferred none;(have ax:z (G a)<=aV:=by omega);gi_wp2;refine⟨by simp,.inl ⟨_,_,rfl,run_takeDeferred hK,?_⟩⟩;refine⟨_,wV rfl underlying73 _ _ (z<|G a) (z (G a)+1) az (fj q) rfl rfl ?_ ?_,?_⟩;exact(eX.cell<|(t.block _ (ak h2)<|λF=>an<|F▸b2).trans h2);exact(eX.cell<|(t.block _ (ak g)<|λF=>an<|F▸b3).trans g);refine .inr ⟨hX,q,rfl,?_,s.fc D t (by grind),Q.trans t<|by grind⟩;obtain⟨T,hq,ao⟩:=hq;exact⟨T,(t.block _ (ak hq)<|by grind).trans hq,ao⟩)
 case body=>
  rintro lr _ cj V W cr bf⟨ca,LL,bk⟩ac⟨f,rfl,C⟩D;cases cj with
  |inr q=>
   obtain⟨hX,hq⟩:s.Xp/\AS W q:=by
    rcases ac with⟨B,h,_⟩|⟨B,q',h,hX,hq⟩
    .have:Sum.inr q∈B.map (Sum.inl (β:=M)):=by rw[<-h];simp
     simp at this
    simp_all
   obtain⟨HC,K,HQ,P⟩:=gw C D hq bk;unfold Lt xg;simp only;gi_wp2;refine⟨(cO _ _),λr i=>?_⟩;have g:Z aw W (dd W<|ay #[am ⟨#[]⟩,am ⟨#[]⟩,aM bw,aG 0] 171):=cO _ _;have w:xP s o a (y e) f V r:=(HC.stays g cJ).stays i (λk v=>by grind);have bd:AS r q:=by
    obtain⟨T,h,ao⟩:=HQ;have h1:=(g.block q (ak h) id).trans h;refine⟨T,(i.block q (ak h1)<|λF=>?_).trans h1,ao⟩;rw[F,J P]at h;cases h
   have av:s.D r:=s.fc (s.fc K g cJ) i (by grind);obtain⟨d,hv,u,S⟩:=w.row;have j:=w.wG;have l:=w.err;have bn:=j.cell;have br:=j.free;have bo:=l.cell;have bs:=l.free;have b2:V (z<|G a):=(S _).2<|.inl rfl;have b3:V (z (G a)+1):=(by grind);have A:Z (λk=>k=z (G a)\/k=z (G a)+1) r (cH (cH r (R (z<|G a) 0) az) (R (z (G a)+1) 0)<|fj q):=((Z.refl (λk=>k=z (G a)\/k=z (G a)+1) r).setCell _ 0 _<|.inl<|.inl rfl).setCell _ 0 _<|.inl<|.inr rfl;have bc:AS (cH (cH r (R (z<|G a) 0) az) (R (z (G a)+1) 0)<|fj q) q:=bd.aj A (by
    grind)
   have aF:=s.fc av A (by rintro k(rfl|rfl)hf<;>exact aU _ (by omega) hf);have ax:∀k,(k=z (G a)\/k=z (G a)+1)->z (G a)<=k:=by rintro k(F|F)<;>omega
   have bb:Z (λk=>o k\/s.F k) a (cH (cH r (R (z<|G a) 0) az) (R (z (G a)+1) 0)<|fj q):=w.aj.trans A (by simp);have bl:z (G W)+1<=z (G r):=by have:=i.size;simp_all
   have ba:Z (λk=>V k\/k=lr) W (cH (cH r (R (z<|G a) 0) az) (R (z (G a)+1) 0)<|fj q):=((g.mono (T:=λk=>V k\/k=lr) cJ).trans i<|by simp).trans A (by
    grind)
   have p:(cH (cH r (R (z<|G a) 0) az) (R (z (G a)+1) 0)<|fj q).heap[lr]?=r.heap[lr]?:=A.block lr (by omega) (by
    grind)
   have hZ:CZ s o a V (cH (cH r (R (z<|G a) 0) az) (R (z (G a)+1) 0)<|fj q):=⟨q,hX,bc,(j.set _).other _ (by omega),(l.other _<|by omega).set _,aF,bb,b2,b3⟩;obtain⟨HZ,ad,aa⟩:=dF hZ ba p;gi_wp2;exact⟨V,⟨rfl,HZ⟩,ad,aa,λk v=>.inl v⟩
  |inl cj=>
   have aF:y f+1<=y e:=by
    rcases ac with⟨B,h,hp⟩|⟨B,q',h,_⟩
    .have h1:=hp.length_le;have h2:=bS y h;grind
    simp_all
   have HC:=X C;have K:=X D;obtain⟨l,p,j,g⟩:=cj;unfold Lt E.value;simp only;gi_wp2;refine⟨(cO _ _),λr i=>?_⟩;have w:xP s o a (y e) f V r:=((HC.stays ((Z.refl aw W).alloc<|ay #[am l,am p,aM j,aG g] 171) cJ).stays i<|λk v=>by grind);have av:jb r (z<|G W) ⟨l,p,j,g⟩:=jb.aj (aK _ rfl) i (by omega);obtain⟨d,hv,u,S⟩:=w.row;have bp:aW r (R (z (G a)+1+1) 0)=H d:=hv.cell;have cq:r.frozen? (R (z (G a)+1+1) 0)=bw:=hv.free;obtain⟨O,N,ap⟩:=aC u;obtain⟨cm,cn,co,cp⟩:=av.cells;have cc:=ak av;have cd:=ak hv;have bl:z (G a)+3<=z (G r):=by have:=w.aj.size;have:=i.size;grind
   obtain⟨ba,HV,L,al,bc⟩:=iY w hv u S i;subst ap;gi_wp2_with(first
    |(gi_at_builtin;refine gp _ rfl (.tmp 14) (.tmp 16) 73 rfl (z (G a)+3) 171 i0 xg 4 48 underlying73 bt bx bE au rfl (by decide) (.slice O (y f) N) (y f) (aI f) rfl (aT L (.cells #[.string l,.string p,.bool j,.int .u64 g] 171)) (R (z (G r)) 0) 1 1 (aI [⟨l,p,j,g⟩]) rfl rfl (xG _ ⟨l,p,j,g⟩ _) (Dd _) (by omega) (by omega) (by simp;omega) ?_;intro v2 w3 P ad;obtain⟨cw,cv,rfl⟩:=aC P;have aa:eX w3 (z (G a)+1+1) (.slice O (y f) N) 73:=(ad.grown.block _ (ak (HV.alloc (.cells #[.string l,.string p,.bool j,.int .u64 g] 171))) (λF=>by have:=(L.lt _ F.symm).1;omega)).trans (HV.alloc _);have bL:=aa.cell;have bT:=aa.free;have bb:=X P;have bd:=X ad))
   obtain⟨B',q1,q2,q3⟩:=ba.more (x:=⟨l,p,j,g⟩) HV al L aF bd bb;have i:=J bc;have au:=i.size;simp at au;have bv:Z (λk=>V k\/k=lr) W r:=((Z.refl (λk=>V k\/k=lr) W).alloc<|ay #[am l,am p,aM j,aG g] 171).trans i (by simp);refine⟨?_,B',⟨_,by simp,q1⟩,bv.trans q2 (by grind),q2.block lr (by omega) bf,λk v=>?_⟩
   .refine s.fc (s.fc (s.fc K (cO aw W) cJ) i<|λk v=>by grind) q2<|λk v=>aU k (HC.lt k v).1
   grind
 (case done=>rintro l' aV V W w bh⟨f,rfl,C⟩an D hK;(obtain rfl:f=e:=by rcases w with F|⟨p,q,F⟩;(grind[List.map_inj_right,Sum.inl.inj]);(have:Sum.inr q∈f.map (Sum.inl (β:=M)):=by rw[F];simp);simp at this);obtain⟨d,hv,u,S⟩:=C.row;have bp:aW W (R (z (G a)+1+1) 0)=H d:=hv.cell;have bn:=C.wG.cell;have br:=C.wG.free;have bo:=C.err.cell;have bs:=C.err.free;obtain⟨O,N,ap⟩:=aC u;obtain⟨HC,HV,L,al,K,HK⟩:=lw C hv u S D hK;subst ap;gi_wp2;have hB:=J al;have C:=J HC;have B:aV≠z (G a):=(by omega);have P:aV≠z (G a)+1:=(by omega);have n3:¬cI (I O (y f) N)=H aV:=(by grind);(have r:(cH (cH W (R (z<|G a) 0)<|I O (y f) N) (R (z (G a)+1) 0) .nilIface).heap[aV]?=H (.deferred<|H []):=by rw[km _ P,km _ B];exact HK);have g:eX (cH (cH W (R (z<|G a) 0)<|I O (y f) N) (R (z (G a)+1) 0) .nilIface) (z<|G a) (I O (y f) N) 73:=(C.wG.set _).other _ (by omega);have i:eX (cH (cH W (R (z<|G a) 0)<|I O (y f) N) (R (z (G a)+1) 0) .nilIface) (z (G a)+1) .nilIface 41:=(C.err.other _<|by omega).set _;have t:=iw (cH (cH W (R (z<|G a) 0)<|I O (y f) N) (R (z (G a)+1) 0) .nilIface) aV<|.deferred none;have A:Z (λk=>k=z (G a)\/k=z (G a)+1) W (cH (cH W (R (z<|G a) 0)<|I O (y f) N) (R (z (G a)+1) 0) .nilIface):=((Z.refl (λk=>k=z (G a)\/k=z (G a)+1) W).setCell _ 0 _<|.inl<|.inl rfl).setCell _ 0 _<|.inl<|.inr rfl;have l:=(A.mono (T:=λk=>k=z (G a)\/k=z (G a)+1\/k=aV)<|by simp).trans t (by simp);(have ax:∀k,(k=z (G a)\/k=z (G a)+1\/k=aV)->z (G a)<=k:=by rintro k(F|F|F)<;>omega);refine⟨by simp,.inl ⟨_,_,rfl,run_takeDeferred r,?_⟩⟩;refine⟨_,wV rfl underlying73 _ _ (z<|G a) (z (G a)+1) (I O (y f) N) .nilIface rfl rfl ?_ ?_,?_⟩;exact(eX.cell<|(t.block _ (ak g)<|λF=>B F.symm).trans g);exact(eX.cell<|(t.block _ (ak i)<|λF=>P F.symm).trans i);refine .inl ⟨_,rfl,?_,s.fc K l (by grind),C.aj.trans l<|by grind⟩;have u:=J L;have hx:=l.own u (λk v F=>by have:=(u.lt k v).1;grind);obtain⟨h1,⟨h2,h0⟩|⟨aa,cp,p,h2,hb,j⟩⟩:=hx;exact⟨h1,.inl ⟨h2,h0⟩⟩;exact⟨h1,.inr ⟨aa,cp,p,h2,by omega,j⟩⟩)
end
section
open ChangeMaps (setBlock)
def eU.put(m:eU)(k:ae)(v:ab):eU:=match m with
 |[]=>[(k,v)]
 |p::r=>if p.1=k then(k,v)::r else p::eU.put r k v
def eU.del(m:eU)(k:ae):eU:=match m with
 |[]=>[]
 |p::r=>if p.1=k then r else p::eU.del r k
theorem Fits.cons{e:MapEntry}{b:ci MapEntry}{p:ae×ab}{m:eU}(c:e.key=am p.1)(d:e.val=p.2)(h:Fits b m):Fits (e::b) (p::m):=by
 simp[Fits,c,d];exact h
theorem Jo(k:ae):∀(c:ci MapEntry)(m:eU)(p:M),Fits c m->(Instr.findNow .string (am k) c p=H none/\m.get k=none/\(∀e∈c,e.key≠am k)/\m.del k=m/\∀v,m.put k v=m++[(k,v)])\/∃q e,Instr.findNow .string (am k) c p=H (H (p+q,e.val))/\c[q]?=H e/\e.key=am k/\m.get k=H e.val/\(∀v,Fits (c.modify q λe=>{e with key:=am k,val:=v})<|m.put k v)/\Fits (c.eraseIdx q) (m.del k):=by
 intro c;induction c with
 |nil=>
  intro m p t;obtain rfl:m=[]:=by simpa[Fits]using t
  exact .inl ⟨rfl,rfl,by simp,rfl,λ_=>rfl⟩
 |cons e c x=>
  intro m p t;obtain⟨A,B,rfl,d,n,l⟩:=t.cons_inv;by_cases b:A.1=k
  .refine .inr ⟨0,e,?_,rfl,by rw[d,b],?_,?_,?_⟩
   .simp[Instr.findNow,Instr.sameNow,d,b,Lq]
   .simp[eU.get,b,n]
   .intro v;simp only[eU.put,b,nH,xR];exact Fits.cons rfl rfl l
   .simpa[eU.del,b]using l
  .have f:(k==A.1)=bw:=by rw[Lq];grind
   rcases x B (p+1) l with⟨g,h,r,i,j⟩|⟨q,s,g,h,r,i,j,u⟩
   .refine .inl ⟨?_,?_,?_,?_,?_⟩
    .simp[Instr.findNow,Instr.sameNow,d,f,g]
    .simp[eU.get,b,h]
    .grind
    .simp[eU.del,b,i]
    .intro v;simp[eU.put,b,j]
   .refine .inr ⟨q+1,s,?_,by simpa using h,r,?_,?_,?_⟩
    .simp[Instr.findNow,Instr.sameNow,d,f,g];omega
    .simp[eU.get,b,i]
    .intro v;simp only[eU.put,b,rX,xS];exact Fits.cons d n<|j v
    .simp only[eU.del,b,rX,List.eraseIdx_cons_succ];exact Fits.cons d n u
theorem mG(w:Y)(c:M)(o:Obj):w.grownBy (setBlock w c o) (H c):=⟨rfl,rfl,rfl,by simp[setBlock],λk _ b=>by
 simp only[setBlock];rw[Array.getElem?_setIfInBounds_ne (λe=>b (by rw[e]))]⟩
theorem DR{P:Program}{w:Y}{mt s t m:M}{x:eU}(r:P.underlying mt=H (.map s t))(g:P.underlying s=H .string)(B:gv w m x)(k:ae)(v:ab):∃h,(Instr.mapUpdate mt (.map<|H m) (am k) v).run P w=.ok () h/\gv h m (x.put k v)/\w.grownBy h (H m)/\z (G h)=z (G w):=by
 obtain⟨f,b,d,l,q⟩:=B;have c:=qi (P:=P) d;rcases Jo k f.toList x 0 l with⟨i,n,j,_,p⟩|⟨A,e,i,n,j,C,p,_⟩;refine⟨setBlock w m<|.map (f.push {key:=am k,val:=v,born:=b})<|b+1,?_,?_,mG _ _ _,by simp[setBlock]⟩;simp[Instr.mapUpdate,fI r,c,iF g (show MapKept.IsKey .string (am k)by trivial),ir g i,jw _ d,Result.andThen,setBlock];refine⟨_,_,(iN d).1,?_,MapKept.stamped_push q j⟩;rw[p];simp[Fits]at l|-;exact l;(have u:f[A]?=H e:=by simpa using n);refine⟨setBlock w m<|.map (f.modify A λe=>{e with key:=am k,val:=v}) b,?_,?_,mG _ _ _,by simp[setBlock]⟩;simp[Instr.mapUpdate,fI r,c,iF g (show MapKept.IsKey .string (am k)by trivial),ir g i,u,j,vt (show MapKept.IsKey .string (am k)by trivial),jw _ d,Result.andThen,setBlock];refine⟨_,_,(iN d).1,?_,wL q _ _ (λ_ _=>rfl)<|by grind⟩;grind
theorem Mk{P:Program}{w:Y}{mt j r k:M}{x:eU}(p:P.underlying mt=H (.map j r))(f:P.underlying j=H .string)(C:gv w k x)(q:ae)(A:TypeId):∃g,(Builtin.delete_ #[mt,j] A #[.map<|H k,am q]).run P w=.ok (dA #[]) g/\gv g k (x.del q)/\w.grownBy g (H k)/\z (G g)=z (G w):=by
 obtain⟨c,b,e,m,n⟩:=C;have d:=qi (P:=P) e;rcases Jo q c.toList x 0 m with⟨h,i,s,l,t⟩|⟨v,B,h,i,s,l,t,D⟩;refine⟨setBlock w k<|.map c b,?_,?_,mG _ _ _,by simp[setBlock]⟩;simp[Builtin.delete_,fI p,d,iF f (show MapKept.IsKey .string (am q)by trivial),ir f h,jw _ e,Result.andThen,setBlock];rw[l];exact⟨_,_,(iN e).1,m,n⟩;(have E:c[v]?=H B:=by simpa using i);(have u:v<c.size:=by have:=jP.1 i;grind);refine⟨setBlock w k<|.map (c.eraseIdxIfInBounds v) b,?_,?_,mG _ _ _,by simp[setBlock]⟩;simp[Builtin.delete_,fI p,d,iF f (show MapKept.IsKey .string (am q)by trivial),ir f h,jw _ e,Result.andThen,setBlock];refine⟨_,_,(iN e).1,?_,MapKept.stamped_erase n _⟩;simp_all
theorem gv.kept{w g:Y}{h:M}{m:eU}{c:Option M}(n:gv w h m)(k:w.grownBy g c)(d:H h≠c):gv g h m:=by
 obtain⟨i,b,e,j,l⟩:=n;exact⟨i,b,(k.block h (ak e) d).trans e,j,l⟩
theorem gv.alloc{w:Y}{b:M}{m:eU}(h:gv w b m)(o:Obj):gv (dd w o) b m:=h.kept (dP w o none)<|by simp
theorem gv.lt{w:Y}{b:M}{m:eU}(h:gv w b m):b<z (G w):=by
 obtain⟨_,_,c,_⟩:=h;exact ak c
section
variable{P:Program}(w:Y){ops:Array Oper}{rest:ci Oper}{o:Oper}{a:Act}{Q:Exit->Act->Y->Prop}
theorem ym(l:o.guard=none)(h A i:Operand)(x:TypeId)(g:o.op=Op.mapUpdate x h A i)(u C:TypeId)(p:P.underlying x=H (.map u C))(m:P.underlying u=H .string)(j:M)(v:eU)(n:a.eval h=.map (H j))(D:gv w j v)(b:ae)(c:ab)(r:a.eval A=am b)(q:a.eval i=c)(k:∀e,gv e j (v.put b c)->w.grownBy e (H j)->wpList P ops Q rest (a.put o.dst iM) e):wpList P ops Q (o::rest) a w:=by
 refine lK l λB f=>?_;obtain⟨e,d,s,t,_⟩:=DR p m D b c;unfold Oper.wp;simp[execOp,g,n,r,q,d,Result.andThen];exact f _ _<|k e s t
theorem EU(j:o.guard=none)(g x:Operand)(t p:TypeId)(f:o.op=Op.call {callee:=Callee.builtin Builtin.delete,args:=#[g,x],argTypes:=#[t,p]})(v:TypeId)(m:P.underlying t=H (.map p v))(k:P.underlying p=H .string)(h:M)(s:eU)(l:a.eval g=.map (H h))(A:gv w h s)(b:ae)(n:a.eval x=am b)(i:∀d,gv d h (s.del b)->w.grownBy d (H h)->wpList P ops Q rest (a.put o.dst<|dA #[]) d):wpList P ops Q (o::rest) a w:=by
 refine lK j λu e=>?_;obtain⟨d,c,q,r,_⟩:=Mk m k A b o.type;unfold Oper.wp;simp[execOp,f,resolve,invoke,builtin,l,n,c,Result.andThen];exact e _ _<|i d q r
end
end
def Bytes.shape(h:Bytes a d n):d=az/\n=[]\/∃f b c,d=bI f b (y n) c/\y n<=c:=by
 rcases h with h|⟨f,b,c,h,e,_⟩;exact .inl h;grind
def jr:Option M->ab
 |none=>.pointer none
 |some g=>.pointer<|H<|R g 0
abbrev Mv:=ae×Option M
def zq(p:Mv):ix:=[am p.1,jr p.2]
def sj(l:ci Mv):ix:=l.flatMap zq
def Kn(l:ci Mv)(i:M)(h:i<y l):(sj l)[i*2]?=H (am l[i].1)/\(sj l)[i*2+1]?=H (jr l[i].2):=by
 induction l generalizing i with
 |nil=>simp at h
 |cons p r a=>
  cases i with
  |zero=>simp[sj,zq]
  |succ i=>
   have:=a i (by simpa using h);have e:(i+1)*2=i*2+2:=by omega
   rw[e];simpa[sj,zq]using this
def Yq(w:Y)(v:ab)(l:ci Mv):Prop:=Row w 2 v (y l)<|sj l
def IZ(m:eU)(x:Mv):eU:=match x.2 with
 |none=>m.del x.1
 |some g=>m.put x.1<|jr<|H g
def kP(m:eU)(l:ci Mv):eU:=l.foldl IZ m
def Nc(m:eU)(l:ci Mv)(n:M)(h:n<y l):kP m (l.take<|n+1)=IZ (kP m<|l.take n) l[n]:=by
 unfold kP;rw[ah h,gd];rfl
def rU(h:aW a (R b c)=H d):b<z (G a):=by
 by_cases e:b<z (G a);exact e;unfold World.cell? at h;rw[Array.getElem?_eq_none<|by simpa using e]at h;simp at h
def gv.ne{m:eU}(l:gv a b m)(g:aW a (R c i)=H d):c≠b:=by
 obtain⟨k,e,h,_⟩:=l;intro j;subst j;simp[World.cell?,h]at g
def Df(F:eU)(o:ci Mv)(D:gv a b F)(Q:Yq a d o)(hr:y o<=1000000000000):cY bA 20 #[.map<|H b,d] a λac L=>ac=aN (dA #[])/\gv L b (kP F o)/\a.grownBy L (H b):=by
 obtain⟨h1,⟨rfl,O⟩|⟨C,e,N,rfl,S,P⟩⟩:=Q;(.obtain rfl:o=[]:=aS O;have r:=X D;(go_in);go_wp2;(go_loopw [8] (λE wr=>E=aq 0/\wr=a) (λ_ _=>0));(case atStart=>grind);(case round=>obtain⟨rfl,rfl⟩:=hrel;go_wp2;go_end0;exact⟨rfl,r,Gx _ _⟩))
 .have s:=X P;have r:=X D;go_in
  go_wp2;go_loopw [8] (λE wr=>∃n:M,n<=y o/\E=aq n/\gv wr b (kP F<|o.take n)/\a.grownBy wr (H b)) (λE _=>y o-(intOf E).toNat)
  case atStart=>exact⟨0,bK _,rfl,r,Gx _ _⟩
  case round=>
   obtain⟨n,hn,rfl,f,k⟩:=hrel;by_cases q:n<y o
   .have t:=Kn o n q;have p:=s _ _ t.1;have u:=rU p;have v:=r.ne p;have c:wr.heap[C]?=a.heap[C]?:=k.block C u (by simpa using v);have w:aW wr (R C<|e+n*2)=H (am o[n].1):=(dy (w:=a) c).trans<|s _ _ t.1;have m:aW wr (R C<|e+n*2+1)=H (jr o[n].2):=(dy (w:=a) c).trans (by rw[bD];exact s _ _ t.2);have B:=X<|Nc F o n q;generalize kP F (o.take n)=aa at*;generalize o[n]=ad at*;obtain⟨K,V⟩:=ad;simp only at w m;have x:=X<|λD=>f.alloc D;have A:=X<|λD=>k.trans<|dP wr D<|H b;cases V with
    |none=>
     simp only[jr]at m;go_wp2_with(first
      |(at_delete;refine EU _ rfl _ _ 60 9 rfl 85 underlying60 underlying9 b aa rfl (x _) K rfl ?_;intro W l j;have i:=X l;have g:=X j))
     go_roundw;case rel=>exact⟨n+1,by omega,by go_num,by rw[J B];exact i,(A _).trans g⟩
     case measure=>simp[intOf];omega
    |some al=>
     simp only[jr]at m;go_wp2_with(first
      |(at_mapUpdate;refine ym _ rfl _ _ _ 60 rfl 9 85 underlying60 underlying9 b aa rfl (x _) K _ rfl rfl ?_;intro W l j;have i:=X l;have g:=X j))
     go_roundw;case rel=>exact⟨n+1,by omega,by go_num,by rw[J B];exact i,(A _).trans g⟩
     case measure=>simp[intOf];omega
   .have i:n=y o:=by omega
    subst i;have g:=X f;have c:=X k;go_wp2;go_end0;have:=J g;rw[aY]at this;exact⟨rfl,this,c⟩
def Gz:Option E->ab
 |some x=>.tuple #[x.value,.bool cf,.nilIface]
 |none=>.tuple #[xg,.bool bw,.nilIface]
def KL(t:TypeId)(a b:ae):binOp .geq t (am a) (am b)=pure (aM !(Op.bytesLess a.toList b.toList)):=by simp[binOp,Op.stringOp]
def BH(F:ae)(s:U)(h:kJ a d e)(K:eh e)(T:y e<=1000000000000)(E:∀s,cI d=H s->s<z (G a)):cY bA 304 #[d,am F,aG s] a λO W=>O=aN (Gz<|iI s e F)/\Below (z<|G a) a W:=by
 have k:Below (z<|G a) a (dd a<|ay #[am ⟨#[]⟩,am ⟨#[]⟩,aM bw,aG 0] 171):=(Below.refl _ a).alloc (ag _) _;have D:=CY d F s (dd a<|ay #[am ⟨#[]⟩,am ⟨#[]⟩,aM bw,aG 0] 171) (h.below k E) K T (λs b=>by have:=E s b;simp;omega);have q:=QE K F ⟨#[]⟩ bw s;have B:=X<|Kd e ⟨F,⟨#[]⟩,bw,s⟩;generalize lF e ⟨F,⟨#[]⟩,bw,s⟩=p at*;by_cases r:p<y e;(·(have P:((p:U)==(y e:U))=bw:=by simp;omega);(have e2:(p:U)<(y e:U):=by omega);(have e3:(0:U)<=(p:U):=by omega);obtain⟨h1,⟨rfl,h0⟩|⟨v,b,N,rfl,V,S⟩⟩:=h;omega;have C:=eQ e p r;have t:=X S;have n:=E v rfl;by_cases g:e[p].key=F;(case' pos=>rw[q,AU ⟨r,g⟩];subst g;generalize e[p]=aa at*;obtain⟨x,A,xd,w⟩:=aa;simp only at C D);(case' neg=>have Q:=JT g;rw[q,dif_neg<|λL=>g L.2];generalize e[p]=aa at*;obtain⟨x,A,xd,w⟩:=aa;simp only at C Q);(all_goals have u:=X C;(go_in);go_wp2_with(go_at_call 140;refine D.mono ?_;rintro O o⟨rfl,j⟩;have f:Below (z<|G a) a o:=k.trans<|j.mono k.size;have q0:aW o (R v<|b+p*4)=H (am x):=(f.cell (p:=(R v<|b+p*4)) n).trans<|t _ _ u.1;have q1:aW o (R v<|b+p*4+1)=H (am A):=(f.cell (p:=(R v<|b+p*4+1)) n).trans (by rw[bD];exact t _ _ u.2.1);have q2:aW o (R v<|b+p*4+2)=H (aM xd):=(f.cell (p:=(R v<|b+p*4+2)) n).trans (by rw[bD];exact t _ _ u.2.2.1);have q3:aW o (R v<|b+p*4+3)=H (aG w):=(f.cell (p:=(R v<|b+p*4+3)) n).trans (by rw[bD];exact t _ _ u.2.2.2);have c:jb o (z<|G a) ⟨⟨#[]⟩,⟨#[]⟩,bw,0⟩:=(j.block _<|by simp).trans<|aK _ rfl;obtain⟨z0,z1,z2,z3⟩:=c.cells;have y0:=c.free (i:=0);have y1:=c.free (i:=1);have y2:=c.free (i:=2);have y3:=c.free (i:=3);have m:=X c;have l:=X f));refine cy (fV rfl _ _ (z<|G a) ⟨⟨#[]⟩,⟨#[]⟩,bw,0⟩ _ _ rfl<|m.put ⟨⟨#[]⟩,⟨#[]⟩,bw,0⟩) rfl ?_;exact⟨rfl,(((l.setCell (p:=(R (z<|G a) 0)) (ag _) _).setCell (p:=(R (z<|G a) 1)) (ag _) _).setCell (p:=(R (z<|G a) 2)) (ag _) _).setCell (p:=(R (z<|G a) 3)) (ag _) _⟩;refine cy (fV rfl _ _ (z<|G a) ⟨x,A,xd,w⟩ _ _ rfl<|m.put ⟨x,A,xd,w⟩) rfl ?_;exact⟨rfl,(((l.setCell (p:=(R (z<|G a) 0)) (ag _) _).setCell (p:=(R (z<|G a) 1)) (ag _) _).setCell (p:=(R (z<|G a) 2)) (ag _) _).setCell (p:=(R (z<|G a) 3)) (ag _) _⟩);(have b:p=y e:=by have:=J B;omega);rw[q,dif_neg<|λL=>r L.1];have g:=bZ h;subst b;obtain⟨t,n,rfl⟩:=g;(have P:((y e:U)==(y e:U))=cf:=by simp);(go_in);(go_wp2_with(go_at_call 140;refine D.mono ?_;rintro O o⟨rfl,j⟩;have f:Below (z<|G a) a o:=k.trans<|j.mono k.size;have c:jb o (z<|G a) ⟨⟨#[]⟩,⟨#[]⟩,bw,0⟩:=(j.block _<|by simp).trans<|aK _ rfl;obtain⟨z0,z1,z2,z3⟩:=c.cells;have y0:=c.free (i:=0);have y1:=c.free (i:=1);have y2:=c.free (i:=2);have y3:=c.free (i:=3);have m:=X c;have l:=X f));refine cy (fV rfl _ _ (z<|G a) ⟨⟨#[]⟩,⟨#[]⟩,bw,0⟩ _ _ rfl<|m.put ⟨⟨#[]⟩,⟨#[]⟩,bw,0⟩) rfl ?_;exact⟨rfl,(((l.setCell (p:=(R (z<|G a) 0)) (ag _) _).setCell (p:=(R (z<|G a) 1)) (ag _) _).setCell (p:=(R (z<|G a) 2)) (ag _) _).setCell (p:=(R (z<|G a) 3)) (ag _) _⟩
def Pn(an:ab)(w:Y)(h:kJ w an e)(hs:eh e)(hl:y e<=1000000000000)(hv:∀ao,cI an=H ao->ao<z (G w)):cY bA 306 #[an] w λap w'=>ap=aN (aM cf)/\Below (z<|G w) w w':=by
 have v:∀(Q:Bool)(w:Y),(Op.unary .not<|aM Q).run bA w=.ok (aM<|!Q) w:=λ_ _=>rfl;obtain⟨h1,⟨rfl,h0⟩|⟨i,a,V,rfl,ad,hc⟩⟩:=h;(·(go_in);go_wp2;(go_loop [6] (λC=>C=aq 0) (λ_=>0));(case atStart=>rfl);(case round=>obtain rfl:=hrel;go_wp2;go_ret;exact⟨rfl,Below.refl _ _⟩));(.have S:=X hc;have T:=X hs;have n:=hv i rfl;(go_in);go_wp2;(go_loopw [6] (λC wr=>∃o:M,o<=y e/\C=aq o/\Below (z<|G w) w wr) (λC _=>y e-(intOf C).toNat));(case atStart=>exact⟨0,bK _,rfl,Below.refl _ _⟩);(case round=>obtain⟨o,al,rfl,d⟩:=hrel;have HB:=X d;by_cases k:o<y e;(.rcases gH o with l|l;(.subst l;go_wp2;(go_quiet(fail));go_wp2;go_roundw;(case rel=>exact⟨1,by omega,rfl,below_drewN HB _⟩);case measure=>simp[intOf];omega);(.obtain⟨p,rfl⟩:∃p,o=p+1:=⟨o-1,by omega⟩;(have x:p<y e:=by omega);have c:∀j u,(aI e)[j]?=H u->aW wr (R i<|a+j)=H u:=λj u b=>(d.cell (p:=(R i<|a+j)) n).trans<|S j u b;have f:=eQ e p x;have g:=eQ e (p+1) k;have r:=c _ _ f.1;have c1:=c _ _ f.2.1;have c2:=c _ _ f.2.2.1;have c3:=c _ _ f.2.2.2;have W:=c _ _ g.1;have s:=c _ _ g.2.1;have t:=c _ _ g.2.2.1;have u:=c _ _ g.2.2.2;simp only[<-bD]at c1 c2 c3 s t u;have m:=λW=>DD e[p] e[p+1] W;rw[cV.1 (J T) p (p+1) x k<|by omega]at m;have ac:i<z (G wr):=cF _ _ r;generalize e[p]=Q at*;generalize e[p+1]=q at*;obtain⟨F,K,xd,D⟩:=Q;obtain⟨O,P,N,L⟩:=q;unfold E.value at m;simp only at m r c1 c2 c3 W s t u;(have A:(0:U)<(p:U)+1:=by omega);(have e2:(0:U)<=(p:U):=by omega);(have e3:(p:U)<(y e:U):=by omega);(have e4:(0:U)<=(p:U)+1:=by omega);(have e5:(p:U)+1<(y e:U):=by omega);(have e9:IntKind.i64.wrap (p:U)=(p:U):=by rw[bP];omega);(have aa:wrap64 (p:U)=(p:U):=by unfold wrap64;omega);(go_wp2_with fail);(go_region_held3(λb=>aW b (R i<|a+p*4)=H (am F)/\aW b (R i<|a+p*4+1)=H (am K)/\aW b (R i<|a+p*4+2)=H (aM xd)/\aW b (R i<|a+p*4+3)=H (aG D)/\aW b (R i<|a+(p+1)*4)=H (am O)/\aW b (R i<|a+(p+1)*4+1)=H (am P)/\aW b (R i<|a+(p+1)*4+2)=H (aM N)/\aW b (R i<|a+(p+1)*4+3)=H (aG L)) (first|assumption|go_keep) (first|(go_at_call 206;refine(m _).mono ?_;rintro ap w1⟨rfl,rfl⟩)));go_wp2;go_roundw;(case rel=>have j:Below (z<|G wr) wr (dd (dd wr<|ay #[am F,am K,aM xd,aG D] 171)<|ay #[am O,am P,aM N,aG L] 171):=((Below.refl _ wr).alloc (ag _) _).alloc (by simp) _;refine⟨p+1+1,by omega,by go_num,HB.trans ?_⟩;exact Below.mono (B:=z<|G wr) ⟨j.os,j.tape,j.output,j.size,j.block⟩ HB.size);case measure=>simp[intOf];omega));clear d;go_wp2;go_ret;exact⟨rfl,HB⟩))
def Ug:(prog.info? 83).map (λi=>(i.zero,i.size,i.bytes))=H (H az,1,24):=by kernel_rfl
def pM(w:Y)(x:ab)(t:TypeId):∀j u,[x][j]?=H u->aW (dd w<|ay #[x] t) (((R (z<|G w) 0):Addr).add j)=H u:=by
 intro j u a;rw[dJ];simp_all
structure He(w w':Y)(db nb sb:M)(mv:ab)(fx:Cv)(m:eU)(n:M)(xs:ix)(mv':ab):Prop where
 gG:iW w' db nb sb mv' fx
 now:gv w' nb m
 steps:w'.ownsRow 0 83 1 mv' n xs
 aj:Z (λk=>k=db\/k=nb\/cI mv=H k) w w'
 own:cI mv'=cI mv\/∃g,cI mv'=H g/\z (G w)<=g
def Ge{N:Cv}(au:eU)(A:ci Mv)(h:iW f b c i d N)(P:gv f c au)(hl:Yq f t A)(hr:y A<=1000000000000)(F:f.ownsRow 0 83 1 d l B)(hn:l<=1000000000000):cY bA 147 #[aD b,t] f λx w'=>x=aN (dA #[])/\∃ap,He f w' b c i d N (kP au A) (l+1) (B++[t]) ap:=by
 obtain⟨i0,ad,al,an,ao⟩:=dl Ug;have HS:=X<|Df au A P hl hr;obtain⟨w,s,rfl⟩:=bZ hl;have V:=cellAt h 0 rfl;have u:b≠c:=P.ne V;have E:cI d≠H b:=FP F h (by decide);have v:cI d≠H c:=by intro x;obtain⟨p,o⟩:=eT F x;obtain⟨L,K,D,_⟩:=P;rw[D]at o;cases o
 have m:∀g p k,gv g c (kP au A)->f.grownBy g (H c)->k.ownsRow 0 83 1 p (l+1) (B++[I w (y A) s])->eJ (dd g<|ay #[I w (y A) s] 83) k d p->aW k (R b 2)=H d/\k.frozen? (R b 2)=bw/\He f (cH k (R b 2) p) b c i d N (kP au A) (l+1) (B++[I w (y A) s]) p:=by intro g p k n e K o;have W:g.heap[b]?=f.heap[b]?:=e.block b (ak h) (by simpa using u);have D:b<z (G g):=ai (ak h) e.size;have ac:(dd g<|ay #[I w (y A) s] 83).heap[b]?=f.heap[b]?:=(Below.heap_alloc g _ b D).trans W;have aa:k.heap[b]?=f.heap[b]?:=(o.grown.block b (by simp;omega)<|λx=>E x.symm).trans ac;have O:iW k b c i d N:=aa.trans h;have L:cI p≠H b:=FP K O (by decide);refine⟨by rw[ct O];rfl,cQ O,⟨?_,?_,?_,?_,?_⟩⟩;unfold iW;rw[aJ O];rfl;exact((n.alloc _).kept o.grown<|λx=>v x.symm).kept (dS k b 2 p) (by grind);exact K.kept (dS k b 2 p)<|.inr L;refine((Z.ep e<|by grind).alloc<|ay #[I w (y A) s] 83).trans (T:=λk=>cI d=H k) (Z.ep o.grown<|λk x=>.inl x) (by grind)|>.setCell b 2 p (.inl<|.inl rfl);rcases o.vQ with x|⟨aU,x,hg⟩;exact .inl x;exact .inr ⟨aU,x,by have:=e.size;simp at hg;omega⟩
 obtain⟨HG,HO,Q⟩:=dF m (λg(e:f.grownBy g (H c))=>(F.kept e<|.inr v).alloc<|ay #[I w (y A) s] 83)<|λg(e:f.grownBy g (H c))=>(dy (w:=f) (a:=(R b 2))<|e.block b (ak h)<|by simpa using u).trans (show aW f (R b 2)=H d by rw[ct h];rfl);obtain⟨xm,cm,rfl⟩:=aC F;clear h P hl F m E v u;go_in
 go_wp2_with(first
  |(go_at_call 20;refine HS.mono ?_;rintro x g⟨rfl,n,e⟩;have av:=Q g e;have S:=X n;have C:=X e;clear n e)
  |(at_builtin;refine cC _ rfl (.tmp 14) (.tmp 16) 61 rfl 0 83 i0 az 1 24 underlying61 ad al an ao rfl (by decide) _ l B rfl (HO g C) (R (z (G g)) 0) 1 1 [.slice w (y A) s] rfl rfl (pM _ _ _) (by simp[Value.oneCell']) (by omega) (by omega) (bK _) ?_;intro v2 k j r;obtain⟨ax,aF,q⟩:=HG g v2 k S C j r;obtain⟨x2,c2,rfl⟩:=aC j;have HF:=X q;clear j r q))
 go_end0;exact⟨rfl,_,HF⟩
structure aX where
 name:ae
 jM:M
 data:ab
 bytes:eF
 safe:U
variable{O:aX}{P:ci aX}
def aX.nm(f:aX):ae×ab:=(f.name,jr<|H f.jM)
structure DK where
 nb:M
 sb:M
 mv:ab
 fx:Cv
 files:ci aX
 sm:eU
 eP:ci (ab×ci Mv)
 nh:ci aX
variable{g x:DK}
def eV(a:ci aX):M:=(a.map (·.bytes.length)).sum
def mi(w:Y)(f:aX):Prop:=w.heap[f.jM]?=H (ay #[f.data,aq f.safe] 88 (0,0))/\fg w 0 f.data f.bytes/\kr f.bytes/\0<=f.safe/\f.safe<=y f.bytes/\y f.bytes<=1099511627776
def uA(w:Y)(x:ab×ci Mv):Prop:=Yq w x.1 x.2/\y x.2<=2/\∀k,cI x.1=H k->∃a b,w.heap[k]?=H (ay a 132 b)
def js(f g:aX):Prop:=f.jM≠g.jM/\∀k,cI f.data=H k->cI g.data≠H k
def js.symm{f g:aX}(h:js f g):js g f:=⟨λe=>h.1 e.symm,λk e a=>h.2 k a e⟩
structure bY(w:Y)(db:M)(K:DK):Prop where
 gG:iW w db K.nb K.sb K.mv K.fx
 now:gv w K.nb (K.files.map aX.nm)
 safe:gv w K.sb K.sm
 ne:K.nb≠K.sb
 steps:w.ownsRow 0 83 1 K.mv (y K.eP) (K.eP.map (·.1))
 each:∀x∈K.eP,uA w x
 files:∀f∈K.files,mi w f
 apart:K.files.Pairwise js
 tu:K.fx.ok
 room:eV K.files<=4611686018427387904
 jV:0<=K.fx.room/\K.fx.room<=1099511627776
 qa:∀f∈K.nh,mi w f
 wD:∀g∈K.nh,∀f∈K.files,js f g
 EF:K.nh.Pairwise js
def DK.aL(a:M)(K:DK)(k:M):Prop:=k=a\/k=K.nb\/k=K.sb\/cI K.mv=H k\/(∃x∈K.eP,cI x.1=H k)\/∃f∈K.files++K.nh,f.jM=k\/cI f.data=H k
def bY.all(h:bY a c g)(d:O∈g.files++g.nh):mi a O:=(aA.1 d).elim (h.files O)<|h.qa O
def bY.len(h:bY a c g){f:aX}(d:f∈g.files):y f.bytes<=1099511627776:=(h.files f d).2.2.2.2.2
theorem DK.Uk(a:O∈g.files):O∈g.files++g.nh:=ib _ a
def DK.E9(a:O∈g.nh):O∈g.files++g.nh:=qT _ a
def mi.aj{S:fh}{w w':Y}{f:aX}(h:mi w f)(a:Z S w w')(c:¬S f.jM)(d:∀k,cI f.data=H k->¬S k):mi w' f:=⟨(a.block _ (ak h.1) c).trans h.1,a.own h.2.1 d,h.2.2⟩
def uA.aj{S:fh}{w w':Y}{x:ab×ci Mv}(n:uA w x)(e:Z S w w')(c:∀k,cI x.1=H k->¬S k):uA w' x:=by
 obtain⟨j,l,m⟩:=n;refine⟨e.row j<|λk g=>⟨c k g,?_⟩,l,λk g=>?_⟩;grind
 obtain⟨a,h,d⟩:=m k g;exact⟨a,h,(e.block k (ak d)<|c k g).trans d⟩
def gv.aj{S:fh}{w w':Y}{b:M}{m:eU}(j:gv w b m)(h:Z S w w')(e:¬S b):gv w' b m:=by
 obtain⟨d,c,a,g⟩:=j;exact⟨d,c,(h.block b (ak a) e).trans a,g⟩
def gv.tag{m:eU}(h:gv a b m){d:Array ab}{e:M×M}(k:a.heap[i]?=H (ay d c e)):i≠b:=by
 obtain⟨g,f,j,_⟩:=h;grind
theorem iQ{d e:Array ab}{f g:M×M}(h:a.heap[b]?=H (ay d i f))(j:a.heap[c]?=H (ay e l g))(k:i≠l):b≠c:=by
 grind
def bY.lt(h:bY a c g):∀k,g.aL c k->k<z (G a):=by
 rintro k(rfl|rfl|rfl|e|⟨x,j,e⟩|⟨f,d,rfl|e⟩);exact ak h.gG;exact h.now.lt;exact h.safe.lt;exact(bN h.steps k e).2;obtain⟨_,_,i⟩:=(h.each x j).2.2 k e;exact ak i;exact ak (h.all d).1;exact(bN (h.all d).2.1 k e).2
def bY.aj{S:fh}{w w':Y}(h:bY w c g)(d:Z S w w')(a:∀k,g.aL c k->¬S k):bY w' c g where
 gG:=(d.block c (ak h.gG)<|a _<|.inl rfl).trans h.gG
 now:=h.now.aj d<|a _<|.inr<|.inl rfl
 safe:=h.safe.aj d<|a _<|.inr<|.inr<|.inl rfl
 ne:=h.ne
 steps:=d.own h.steps<|λ_ e=>a _<|.inr<|.inr<|.inr<|.inl e
 each x hx:=(h.each x hx).aj d<|λ_ e=>a _<|.inr<|.inr<|.inr<|.inr<|.inl ⟨x,hx,e⟩
 files f hf:=(h.files f hf).aj d (a _<|.inr<|.inr<|.inr<|.inr<|.inr ⟨f,DK.Uk hf,.inl rfl⟩)<|λ_ e=>a _<|.inr<|.inr<|.inr<|.inr<|.inr ⟨f,DK.Uk hf,.inr e⟩
 apart:=h.apart
 tu:=h.tu
 room:=h.room
 jV:=h.jV
 qa f hf:=(h.qa f hf).aj d (a _<|.inr<|.inr<|.inr<|.inr<|.inr ⟨f,DK.E9 hf,.inl rfl⟩)<|λ_ e=>a _<|.inr<|.inr<|.inr<|.inr<|.inr ⟨f,DK.E9 hf,.inr e⟩
 wD:=h.wD
 EF:=h.EF
def bY.alloc{w:Y}(h:bY w b g)(o:Obj):bY (dd w o) b g:=h.aj ((Z.refl aw w).alloc o)<|λ_ _=>id
def bY.named{K:DK}{E:ci Mv}{o:ci aX}(k:bY a b K)(i:He a f b K.nb K.sb K.mv K.fx (P.map aX.nm) (y K.eP+1) (K.eP.map (·.1)++[d]) t)(N:uA a (d,E))(r:∀l∈P,mi a l)(C:P.Pairwise js)(D:eV P<=eV K.files)(s:∀l∈o,mi a l)(q:∀F∈o,∀l∈P,js l F)(u:o.Pairwise js):bY f b {K with mv:=t,files:=P,eP:=K.eP++[(d,E)],nh:=o}:=by
 have h:∀{n A:M}{v:Array ab}{p:M×M},a.heap[n]?=H (ay v A p)->A≠63->A≠83->¬(n=b\/n=K.nb\/cI K.mv=H n):=by rintro n A v p w B L(g|g|g);exact iQ w k.gG B g;exact k.now.tag w g;obtain⟨e,m⟩:=eT k.steps g;grind
 have iX:∀x,uA a x->uA f x:=λx j=>j.aj i.aj (λn g=>by obtain⟨e,p,v⟩:=j.2.2 n g;grind);refine⟨i.gG,i.now,k.safe.aj i.aj ?_,k.ne,?_,?_,?_,C,k.tu,aB D k.room,k.jV,?_,q,u⟩;rintro(g|g|g);exact k.safe.tag k.gG g.symm;exact k.ne g.symm;obtain⟨e,m⟩:=eT k.steps g;exact k.safe.tag m rfl;have:=i.steps;grind
 intro x j;rcases aA.1 j with j|j;exact iX x<|k.each x j;grind
 intro l c;refine(r l c).aj i.aj (h (r l c).1 (by decide)<|by decide)<|λn g=>?_;obtain⟨e,m⟩:=eT (r l c).2.1 g;grind
 intro l c;refine(s l c).aj i.aj (h (s l c).1 (by decide)<|by decide)<|λn g=>?_;obtain⟨e,m⟩:=eT (s l c).2.1 g;grind
def He.aL{K:DK}{s:ci Mv}{h:ci aX}{u:eU}(m:He a A c K.nb K.sb K.mv K.fx u i B t)(o:l<=z (G a))(r:∀k,cI d=H k->l<=k)(p:∀f∈P++h,∀k,(f.jM=k\/cI f.data=H k)->K.aL c k\/l<=k):∀k,({K with mv:=t,files:=P,eP:=K.eP++[(d,s)],nh:=h}:DK).aL c k->K.aL c k\/l<=k:=by
 rintro k(rfl|rfl|rfl|j|⟨x,e,j⟩|⟨f,n,j⟩);exact .inl<|.inl rfl;exact .inl<|.inr<|.inl rfl;exact .inl<|.inr<|.inr<|.inl rfl;rcases m.own with g|⟨v,g,q⟩;exact .inl<|.inr<|.inr<|.inr<|.inl<|g.symm.trans j;grind
 rcases aA.1 e with e|e;exact .inl<|.inr<|.inr<|.inr<|.inr<|.inl ⟨x,e,j⟩;grind
 grind
def Rd.laid{rest:eF}(h:Rd a b rest S)(d:a.grownBy f none):Rd f b rest S:=by
 obtain⟨v,e,g,c⟩:=h;refine⟨v,(d.block b (ak e)<|by simp).trans e,g.grown d ?_,c⟩;grind
def Rd.lt{rest:eF}{d:Bool}(h:Rd a c rest d):c<z (G a):=by
 obtain⟨v,e,_⟩:=h;exact ak e
def Rd.put{rest:eF}(D:Rd A c rest S)(u:jb A i w)(n:c≠i)(g:E):Rd (yC A i g) c rest S:=by
 obtain⟨F,o,v,B⟩:=D;have r:=jc A i g;refine⟨F,(r.block c (ak o) n).trans o,?_,B⟩;rcases v with⟨s,t⟩|⟨b,d,h,s,l,x⟩;exact .inl ⟨s,t⟩;refine .inr ⟨b,d,h,s,l,λC q=>?_⟩;have e:=x C q;(have k:b≠i:=by rintro rfl;rw[ct u,aR q]at e;grind);have m:b<z (G A):=cF A (R b<|d+C) e;have j:=r.block b m k;rw[dy (w:=A) (w':=yC A i g) (a:=(R b<|d+C)) j];exact e
def Z.Xd(h:Z (λk=>k=b) a f):a.grownBy f (H b):=⟨h.os,h.tape,h.output,h.size,λk c d=>h.block k c<|λe=>d<|by rw[e]⟩
def jb.grown{e w':Y}(h:jb e b w)(a:e.grownBy w' (H c))(d:c≠b):jb w' b w:=(a.block b (ak h)<|by grind).trans h
def Bn{c:Func}{p u:Tmp}(i:c.results=#[.cell p 171,.tmp u])(a:Array ab)(w:Y)(g:M)(x:E)(t:TypeId)(d:M×M)(h:a.getD p iM=aD g)(e:w.heap[g]?=H (ay #[am x.key,am x.val,aM x.del,aG x.bQ] t d)):(results c a).run bA w=.ok (dA #[x.value,a.getD u iM]) w:=by
 have b:a[p]?.getD iM=aD g:=by simpa using h
 have f:=kH (P:=bA) w g t 171 #[am x.key,am x.val,aM x.del,aG x.bQ] d _ e underlying171 rfl (by kernel_rfl);simp[results,i,b,asAddr,f,Result.andThen,E.value]
def It(g:M){x:E}(a:eF)(w:Y)(h:Rd w g (oK x++a) bw)(r:kr (oK x++a))(hr:y (oK x++a)<=140737488351232)(S:x.Good):cY bA 138 #[aD g] w λac w'=>ac=aN (dA #[E.value {x with bQ:=0},aM cf])/\Rd w' g a bw/\w.grownBy w' (H g):=by
 obtain⟨b,c,f,e⟩:=x;have N:=S.WP;have O:=S.NG;have hv:=S.val;have hd:=S.del;simp only at N O hv hd;have e0:oK ⟨b,c,f,e⟩++a=qF f::(eL b++(eL c++a)):=by simp[oK]
 rw[e0]at h r hr;have k:kr (eL b++(eL c++a)):=λs hy=>r s (by grind);have F:kr (eL c++a):=λs hy=>k s (by grind);have P:y (eL b++(eL c++a))<=140737488351232:=by grind
 have au:y (eL c++a)<=140737488351232:=by rw[af]at P;omega
 have q:=λW(p:Rd W g (qF f::(eL b++(eL c++a))) bw)=>GP p r hr;have A:=λW(p:Rd W g (eL b++(eL c++a)) bw)=>Fb p k P;have B:=λW(p:Rd W g (eL c++a) bw)=>Fb p F au;obtain⟨ka,kb⟩:=NE f<|eL b++(eL c++a);obtain⟨ta,_⟩:=wQ b<|eL c++a;obtain⟨Q,_⟩:=wQ c a;simp only[ka,kb]at q;simp only[ta,wR]at A;simp only[Q,wR]at B;have av:=λW(p:Rd W g a bw)=>IA p;have C:=rC b;have K:=yS c;have aF:∀(x:Bool)(w:Y),(Op.unary .not<|aM x).run bA w=.ok (aM<|!x) w:=λ_ _=>rfl;have ao:decide (1<=b.size/\b.size<=8)=cf:=by simp[N,O]
 have ap:decide (c.size<=16)=cf:=by simp[hv]
 rw[ao]at C;rw[ap]at K;have D:=λW=>C W (by omega);have L:=λW=>K W (by omega);have aV:=h.lt;have HR:=X<|h.laid<|dP w (ay #[am ⟨#[]⟩,am ⟨#[]⟩,aM bw,aG 0] 171) none;cases f;(case' true=>have ax:c=⟨#[]⟩:=hd rfl;subst ax)
 all_goals
  simp only[qF]at q;go_in
  go_wp2_with(first
   |(go_at_call 137;refine(q _<|J HR).mono ?_;rintro ac w1⟨rfl,ad,u⟩;have V:=X ad;have l:=X u;have ba:=u.size)
   |(go_at_call 187;refine(A _<|J V).mono ?_;rintro ac w2⟨rfl,al,v⟩;have aa:=X al;have m:=X v;have bb:=v.size)
   |(go_at_call 187;refine(B _<|J aa).mono ?_;rintro ac T⟨rfl,an,o⟩;have n:=X an;have t:=X o;have bc:=o.size;have d:jb T (z<|G w) zE:=(((jb.grown (aK _ rfl) (J l)<|by omega).grown (J m)<|by omega).grown o<|by omega);obtain⟨z0,z1,z2,z3⟩:=d.cells;have y0:=d.free (i:=0);have y1:=d.free (i:=1);have y2:=d.free (i:=2);have y3:=d.free (i:=3);have aU:=ak d;have j:=X d)
   |(go_at_call 126;refine(av _<|(J n).laid<|dP T _ none).mono ?_;rintro ac w4⟨rfl,rfl⟩)
   |(go_at_call 70;refine(D _).mono ?_;rintro ac w5⟨rfl,rfl⟩)
   |(go_at_call 71;refine(L _).mono ?_;rintro ac w6⟨rfl,rfl⟩))
 refine cy (Bn rfl _ _ (z<|G w) ⟨b,⟨#[]⟩,cf,0⟩ _ _ rfl<|((J j).put ⟨b,⟨#[]⟩,cf,0⟩).alloc _) rfl ?_;exact⟨rfl,(n.put (J j) (by omega) ⟨b,⟨#[]⟩,cf,0⟩).laid<|dP _ _ none,(((((((cO (λbd=>bd=g) w).trans (fo l)<|λ_=>.inl).trans (fo m)<|λ_=>.inl).trans (fo t)<|λ_=>.inl).trans (jc T (z<|G w) ⟨b,⟨#[]⟩,cf,0⟩)<|by simp).alloc _)).Xd⟩;refine cy (Bn rfl _ _ (z<|G w) ⟨b,c,bw,0⟩ _ _ rfl<|((J j).put ⟨b,c,bw,0⟩).alloc _) rfl ?_;exact⟨rfl,(n.put (J j) (by omega) ⟨b,c,bw,0⟩).laid<|dP _ _ none,(((((((cO (λbd=>bd=g) w).trans (fo l)<|λ_=>.inl).trans (fo m)<|λ_=>.inl).trans (fo t)<|λ_=>.inl).trans (jc T (z<|G w) ⟨b,c,bw,0⟩)<|by simp).alloc _)).Xd⟩
def dV:ci aX->ae->Option aX
 |[],_=>none
 |f::r,n=>if f.name=n then H f else dV r n
def jg:ci aX->ae->ci aX
 |[],_=>[]
 |f::r,n=>if f.name=n then r else f::jg r n
def mL:ci aX->aX->ci aX
 |[],f=>[f]
 |g::r,f=>if g.name=f.name then f::r else g::mL r f
def Cd(a:ci aX)(n:ae):(jg a n).map aX.nm=eU.del (a.map aX.nm) n:=by
 induction a with
 |nil=>rfl
 |cons f r b=>by_cases h:f.name=n<;>simp[jg,eU.del,aX.nm,h,<-b]
def Bu(a:ci aX)(f:aX):(mL a f).map aX.nm=eU.put (a.map aX.nm) f.name (jr<|H f.jM):=by
 induction a with
 |nil=>rfl
 |cons g r b=>by_cases h:g.name=f.name<;>simp[mL,eU.put,aX.nm,h,<-b]
theorem dq(h:dV P r=H O):O.name=r/\O∈P/\eU.get (P.map aX.nm) r=H (jr<|H O.jM):=by
 induction P with
 |nil=>cases h
 |cons g f d=>
  by_cases e:g.name=r
  .simp[dV,e]at h;subst h;exact⟨e,by simp,by simp[eU.get,aX.nm,e]⟩
  .simp[dV,e]at h;obtain⟨a,b,c⟩:=d h;exact⟨a,by simp[b],by simpa[eU.get,aX.nm,e]using c⟩
def tH(h:dV P r=none):eU.get (P.map aX.nm) r=none:=by
 induction P with
 |nil=>rfl
 |cons g b a=>
  by_cases e:g.name=r
  .simp[dV,e]at h
  .simp[dV,e]at h;simpa[eU.get,aX.nm,e]using a h
theorem lR(a:ci aX)(n:ae):(jg a n).Sublist a:=by
 induction a with
 |nil=>exact kB _
 |cons f r b=>
  by_cases h:f.name=n
  .simp[jg,h]
  .simpa[jg,h]using b
def uw(c:P.Pairwise js)(h:dV P r=H O):∀g∈jg P r,js O g:=by
 induction P with
 |nil=>cases h
 |cons g i f=>
  obtain⟨b,d⟩:=bz.1 c;by_cases e:g.name=r
  .simp[dV,e]at h;subst h;simpa[jg,e]using b
  .simp[dV,e]at h;intro x a;simp[jg,e]at a;rcases a with rfl|a
   .exact(b O (dq h).2.1).symm
   grind
def wo{x:aX}(h:x∈mL P O):x=O\/x∈jg P O.name:=by
 induction P with
 |nil=>left;simpa[mL]using h
 |cons g r a=>
  by_cases e:g.name=O.name
  .simp[mL,e]at h;simpa[jg,e]using h
  .simp[mL,e]at h;simp[jg,e];grind
def FI(a:(jg P O.name).Pairwise js)(h:∀g∈jg P O.name,js O g):(mL P O).Pairwise js:=by
 induction P with
 |nil=>simp[mL]
 |cons g r f=>
  by_cases e:g.name=O.name
  .simp only[jg,e,nH]at a h;simp only[mL,e,nH];simp_all
  .simp only[jg,e,rX]at a h;simp only[mL,e,rX];obtain⟨c,d⟩:=bz.1 a;refine bz.2 ⟨λx b=>?_,(by grind)⟩;rcases wo b with rfl|b
   .exact(h g<|by simp).symm
   grind
def Jv{f:aX}(a:f.name≠r):jg (mL P f) r=mL (jg P r) f:=by
 induction P with
 |nil=>simp[jg,mL,a]
 |cons g d c=>
  by_cases e:g.name=f.name
  .have:g.name≠r:=by rw[e];exact a
   simp[jg,mL,e,a]
  .by_cases b:g.name=r
   .have:¬r=f.name:=λh=>a h.symm;simp[jg,mL,b,this]
   .simp[jg,mL,e,b,c]
def gS(a:eF):eF:=a++le 4 (lJ a)
def Dq(e:E):eF:=le 8 e.bQ++oK e
def fU(c:cU):eF:=c.flatMap Dq
def TX(a:eF):mF (le 4<|lJ a)=lJ a:=by
 rw[BJ 4 _<|za a];exact Int.emod_eq_of_lt (za a) (by have:=AG a;grind)
def Ef(a:0<=k)(b:k<18446744073709551616):mF (le 8 k)=k:=by
 rw[BJ 8 _ a];grind
def uS(v d e:M)(c:eF)(C:Steps a)(aa:y c+4<=e)(hr:y c+4<=1000000000)(o:Bytes a (bI v d (y c+4) e) (gS c)):cY bA 122 #[bI v d (y c+4:M) e] a λO w'=>
 O=aN (dA #[bI v d (y c) e,aM cf])/\Below (z<|G a) a w':=by
 obtain⟨b,f⟩:∃b,b=le 4 (lJ c):=⟨_,rfl⟩
 have D:y b=4:=by rw[f,cg]
 have p:kr b:=by rw[f];exact kr.le 4 _
 have L:mF b=lJ c:=by rw[f];exact TX c
 unfold gS at o
 rw[<-f]at o
 clear f
 have ac:=C.lt
 have V:v<z (G a):=o.lt (by intro h;simp_all) v rfl
 have k:Bytes a (bI v d (y<|c++b) e) (c++b):=by rw[af,D];exact o
 have t:Bytes a (bI v d (y c) e) c:=by
  have:=k.take (n:=y c) (by simp);rwa[ld]at this
 have u:Bytes a (bI v (d+y c) 4<|e-y c) b:=by
  have:=k.Dr (n:=y c) (by simp);rwa[tT,af,D,vS]at this
 have N:num b bw 4=mF b:=by
  unfold num jR;rw[dt (by simp[D]),dN<|by omega]
 obtain⟨E,F,Q,P,K⟩:=iY t u N p C
 clear o k t u N p C
 have hd:(num b bw 4 !=lJ c)=bw:=by rw[J Q,L];simp
 clear L
 go_in
 go_wp2_with fail
 refine(lV F (λad W=>by have:=Ty W;grind)).mono ?_
 rintro O w⟨rfl,q,g⟩
 have s:z (G w)=z (G a)+1:=by rw[g];simp
 have j:Below (z<|G a) a w:=by rw[g];exact(Below.refl _ _).alloc (ag _) _
 have m:Hid (Steps w):=by rw[g];exact K.alloc _
 have l:Hid (Bytes w (bI v d (y c) e) c):=by rw[g];exact E.alloc _
 obtain⟨S,HB,T⟩:=dF q j s
 clear q g s j K E F
 go_wp2_with fail
 go_region_with(first
  |(go_at_call 125;refine(LP (z<|G a) bw _ ?_ P<|by omega).mono ?_;exact S.of_heap rfl;rintro O w2⟨rfl,r,i⟩;have B:=X<|Steps.grown (by exact Steps.of_heap m rfl) i (by simp;omega);have x:=X<|Bytes.grown (by exact Bytes.of_heap l rfl) i<|.inl (by simp[cI];omega);have A:=X (Below.grown (by exact Below.of_heap HB rfl) i (by simp[J T])<|by simp);clear r i)
  |(go_at_call 136;refine(tA _ c _ ?_ ?_ (by omega)).mono ?_;(first|exact B.of_heap rfl|exact m.of_heap rfl);(first|exact x.of_heap rfl|exact l.of_heap rfl);rintro O w3⟨rfl,rfl⟩))
 all_goals
  go_wp2;go_ret2
  exact⟨by rfl,by first|exact A.of_heap rfl|exact Below.of_heap HB rfl⟩
def UK(c:cU)(n:M)(h:n<y c):fU (c.drop n)=le 8 c[n].bQ++(oK c[n]++fU (c.drop<|n+1)):=by
 unfold fU;rw[bJ h,dY];simp[Dq]
def BQ(h:w.Good):kr (oK w):=by
 unfold oK;have c:∀s:ae,s.size<=255->kr (eL s):=λs d b a=>by unfold eL at a;rcases bM.1 a with rfl|a;omega;exact kr.text s b a
 intro b a;rcases bM.1 a with rfl|a;unfold qF;split<;>omega;rcases aA.1 a with a|a;exact c _ (by have:=h.NG;omega) b a;exact c _ (by have:=h.val;omega) b a
def NO(h:∀x∈e,x.Good):kr (fU e):=by
 intro b a;unfold fU at a;obtain⟨x,c,a⟩:=kW.1 a;unfold Dq at a;rcases aA.1 a with a|a;exact kr.le 8 _ b a;exact BQ (h x c) b a
def vf(h:w.Good):y (Dq w)<=35:=by
 have a:=h.NG;have b:=h.val;unfold Dq oK eL;grind[cg,iq]
def El{c:cU}(h:∀x∈c,x.Good):y (fU c)<=35*y c:=by
 induction c with
 |nil=>simp[fU]
 |cons x r d=>
  have a:=vf (h x<|by simp);have f:=d (λa b=>h a<|by simp[b]);have e:fU (x::r)=Dq x++fU r:=by simp[fU]
  rw[e,af,aO];omega
def BR{m:eU}(h:m.get r=none)(v:ab):m.put r v=m++[(r,v)]:=by
 induction m with
 |nil=>rfl
 |cons p c b=>
  by_cases a:p.1=r
  .simp[eU.get,a]at h
  .simp[eU.get,a]at h;simp[eU.put,a,b h]
structure qQ(w w':Y)(db:M)(K K':DK):Prop where
 ok:bY w' db K'
 aj:Z (K.aL db) w w'
 aL:∀k,K'.aL db k->K.aL db k\/z (G w)<=k
 fx:Fx K.fx K'.fx
def qQ.trans{w w' d:Y}{h a:DK}(i:qQ w w' c g h)(k:qQ w' d c h a):qQ w d c g a:=⟨k.ok,i.aj.trans k.aj<|λx e=>i.aL x e,λx e=>(k.aL x e).elim (λj=>i.aL x j)<|λj=>.inr<|aB i.aj.size j,i.fx.trans k.fx⟩
def qQ.refl(h:bY a c g):qQ a a c g g:=⟨h,Z.refl _ _,λ_ d=>.inl d,Fx.refl _⟩
def qQ.still(h:qQ a f b g x)(c:Z aw f A):qQ a A b g x:=⟨h.ok.aj c<|λ_ _=>id,h.aj.cz c,h.aL,h.fx⟩
def xu(m:eU)(x:Mv):kP m [x]=IZ m x:=rfl
def bY.Bh(h:bY a b g){k:M}(e:cI g.mv=H k):k≠g.sb/\k≠g.nb/\k≠b:=by
 obtain⟨d,c⟩:=eT h.steps e;exact⟨h.safe.tag c,h.now.tag c,iQ c h.gG<|by decide⟩
def bY.p6{K:DK}{j:Cv}(h:bY a b K)(m:iW f b K.nb K.sb K.mv j)(c:Z (λk=>k=b) a f)(d:Fx K.fx j):qQ a f b K {K with fx:=j}:=by
 refine⟨⟨m,h.now.aj c ?_,h.safe.aj c ?_,h.ne,c.own h.steps ?_,?_,?_,h.apart,d.ok h.tu,h.room,by rw[d.room];exact h.jV,?_,h.wD,h.EF⟩,c.mono<|λx e=>.inl<|.inl e,λk e=>.inl e,d⟩;exactλe=>h.now.tag h.gG e.symm;exactλe=>h.safe.tag h.gG e.symm;exactλk e=>(h.Bh e).2.2;intro x l;refine(h.each x l).aj c<|λk e=>?_;obtain⟨g,n,i⟩:=(h.each x l).2.2 k e;exact iQ i h.gG (by decide);intro j d;have hF:=h.files j d;refine hF.aj c (iQ hF.1 h.gG<|by decide)<|λk e=>?_;obtain⟨g,i⟩:=eT hF.2.1 e;exact iQ i h.gG (by decide);intro j d;have hF:=h.qa j d;refine hF.aj c (iQ hF.1 h.gG<|by decide)<|λk e=>?_;obtain⟨g,i⟩:=eT hF.2.1 e;exact iQ i h.gG<|by decide
abbrev nU:=ae⊕ae×eF⊕ae⊕ae×ae⊕ae⊕Unit
abbrev nU.cr(n:ae):nU:=.inl n
abbrev nU.ap(n:ae)(b:eF):nU:=.inr (.inl (n,b))
abbrev nU.sy(n:ae):nU:=.inr (.inr (.inl n))
abbrev nU.rn(a b:ae):nU:=.inr (.inr (.inr (.inl (a,b))))
abbrev nU.rm(n:ae):nU:=.inr (.inr (.inr (.inr (.inl n))))
abbrev nU.sd:nU:=.inr (.inr (.inr (.inr (.inr ()))))
def xH:nU->DK->DK->Prop
 | .inl n,K,a=>∃g b,a.files=K.files++[⟨n,g,az,[],0⟩]/\(a.sm,a.nh)=(K.sm,K.nh)/\a.eP=K.eP++[(b,[(n,H g)])]/\dV K.files n=none
 | .inr (.inl (n,e)),K,a=>∃F x,dV K.files n=H F/\a.files=mL K.files {F with data:=x,bytes:=F.bytes++e}/\(a.sm,a.nh)=(K.sm,K.nh)/\a.eP=K.eP
 | .inr (.inr (.inl n)),K,a=>∃F,dV K.files n=H F/\a.files=mL K.files {F with safe:=y F.bytes}/\(a.sm,a.nh)=(K.sm,K.nh)/\a.eP=K.eP
 | .inr (.inr (.inr (.inl (c,d)))),K,a=>∃F b,dV K.files c=H F/\a.files=mL (jg K.files c) {F with name:=d}/\(a.sm,a.nh)=(K.sm,K.nh++(dV K.files d).toList)/\a.eP=K.eP++[(b,[(d,H F.jM),(c,none)])]
 | .inr (.inr (.inr (.inr (.inl n)))),K,a=>∃F b,dV K.files n=H F/\a.files=jg K.files n/\(a.sm,a.nh)=(K.sm,K.nh++[F])/\a.eP=K.eP++[(b,[(n,none)])]
 | .inr (.inr (.inr (.inr (.inr _)))),K,a=>a.files=K.files/\(a.sm,a.nh)=((K.eP.map (·.2)).foldl kP K.sm,K.nh)/\a.eP=[]
def qc(K a:DK):Prop:=a.files=K.files/\(a.sm,a.nh)=(K.sm,K.nh)/\a.eP=K.eP
def jT:ci nU->DK->DK->Prop
 |[],K,a=>qc K a
 |o::l,K,a=>∃b,xH o K b/\jT l b a
def qc.trans{c a:DK}(h:qc g c)(k:qc c a):qc g a:=⟨k.1.trans h.1,k.2.1.trans h.2.1,k.2.2.trans h.2.2⟩
def xH.pre{o:nU}{a:DK}(i:qc g x)(k:xH o x a):xH o g a:=by
 obtain⟨b,c,d⟩:=i;obtain⟨e,h⟩:=dD c;rcases o with _|⟨_,_⟩|_|⟨_,_⟩|_|_<;>(simp only[xH,b,e,h,d]at k|-;exact k)
def jT.pre{l:ci nU}{a:DK}(h:qc g x)(k:jT l x a):jT l g a:=by
 cases l with
 |nil=>exact h.trans k
 |cons o l=>
  obtain⟨b,c,d⟩:=k;exact⟨b,c.pre h,d⟩
def jT.Hk{l m:ci nU}{a:DK}(h:jT l g x)(k:jT m x a):jT (l++m) g a:=by
 induction l generalizing g with
 |nil=>exact k.pre h
 |cons o l e=>
  obtain⟨b,c,d⟩:=h;exact⟨b,c,e d⟩
def jT.one{o:nU}{a:DK}(h:xH o g a):jT [o] g a:=⟨a,h,rfl,rfl,rfl⟩
def Sm(f:Cv)(c:U):Prop:=c=8/\0<f.bd\/c=9/\EH f
structure zO(w w':Y)(db:M)(K K':DK)(full:ci nU)(v:ab):Prop where
 pa:qQ w w' db K K'
 wG:(v=.nilIface/\jT full K K')\/∃l q c,l<+:full/\jT l K K'/\v=fj q/\sF w' q c/\Sm K.fx c
def ye(w d:Y)(c:M)(K:DK)(a:ci nU)(e:Ending):Prop:=∃v b,e=aN v/\zO w d c K b a v
def zO.ok{w w':Y}{o:nU}(h:qQ w w' b g x)(k:xH o g x):zO w w' b g x [o] .nilIface:=⟨h,.inl ⟨rfl,jT.one k⟩⟩
def zO.bad{b q:M}{l:ci nU}(h:qQ a f b g x)(e:qc g x)(d:sF f q k)(c:Sm g.fx k):zO a f b g x l (fj q):=⟨h,.inr ⟨[],q,k,List.nil_prefix,e,rfl,d,c⟩⟩
def Fx.Yz{f g:Cv}(c:Fx f g)(a:f.ok)(h:Sm g k):Sm f k:=h.imp (λq=>⟨q.1,c.pos a q.2⟩)<|λq=>⟨q.1,c.Z6 q.2⟩
def zO.seq{c:DK}{n r:ci nU}(j:g.fx.ok)(p:qQ a f b g x)(e:jT n g x)(k:zO f A b x c r d):zO a A b g c (n++r) d:=by
 refine⟨p.trans k.pa,?_⟩;rcases k.wG with⟨h,k⟩|⟨o,q,s,l,k,h,m,i⟩;exact .inl ⟨h,e.Hk k⟩;exact .inr ⟨n++o,q,s,sH _|>.2 l,e.Hk k,h,m,p.fx.Yz j i⟩
def zO.more{c q:M}{b:DK}{l m:ci nU}(j:zO a f c g b l (fj q)):zO a f c g b (l++m) (fj q):=by
 refine⟨j.pa,?_⟩;rcases j.wG with⟨n,_⟩|⟨e,h,k,d,o⟩;cases n;exact .inr ⟨e,h,k,d.trans<|List.prefix_append _ _,o⟩
def X0(w a:Y)(b:M)(K:DK)(e:Ending):Prop:=∃c f,e=aN (aM c)/\qQ w a b K {K with fx:=f}/\Z (λk=>k=b) w a/\z (G a)=z (G w)/\(c=cf->0<K.fx.bd)
def GD(h:bY a b g):cY bA 170 #[aD b] a λk d=>X0 a d b g k:=by
 apply(UF h.gG h.tu).mono;rintro k d⟨l,m,rfl,e,c,f,i,j⟩;exact⟨l,m,rfl,h.p6 e c i,c,f,j⟩
def V8(w b:Y)(c:M)(K:DK)(a:ae)(e:Ending):Prop:=∃f,qQ w b c K {K with fx:=f}/\Z (λk=>k=c) w b/\((∃F,dV K.files a=H F/\e=aN (dA #[aD F.jM,.nilIface]))\/(dV K.files a=none/\∃q,e=aN (dA #[dC none,fj q])/\sF b q 10)\/(0<K.fx.bd/\∃q,e=aN (dA #[dC none,fj q])/\sF b q 8))
def zD(c:ae)(h:bY a b g)(d:Nm c):cY bA 135 #[aD b,am c] a λs v=>V8 a v b g c s:=by
 obtain⟨x,u,p,_,_⟩:=dl yT;have m:=yu underlying60 underlying9 u p h.now c;have t:=cellAt h.gG 0 rfl;have l:=GD h;rcases hg:dV g.files c with _|F;(.rw[tH hg]at m;simp only[Option.getD_none]at m;have n:=X hg;(go_in);(go_wp2_with fail);apply l.mono;rintro s w⟨r,q,rfl,j,k,o,i⟩;obtain⟨e,f,HB⟩:=dF j k i;clear j k o i l;cases r;(.go_wp2;(go_ret2);exact⟨q,e.still<|cO _ _,f.alloc _,.inr<|.inl ⟨n,_,rfl,sF.new _ _ d⟩⟩);go_wp2;(go_ret2);exact⟨q,e.still<|cO _ _,f.alloc _,.inr<|.inr ⟨HB trivial,_,rfl,sF.new _ _ d⟩⟩);rw[(dq hg).2.2]at m;simp only[oJ,jr]at m;have n:=X hg;(go_in);(go_wp2_with fail);apply l.mono;rintro s w⟨r,q,rfl,j,k,o,i⟩;obtain⟨e,f,HB⟩:=dF j k i;clear j k o i l;cases r;(.go_wp2;(go_ret2);exact⟨q,e,f,.inl ⟨F,n,rfl⟩⟩);go_wp2;(go_ret2);exact⟨q,e.still<|cO _ _,f.alloc _,.inr<|.inr ⟨HB trivial,_,rfl,sF.new _ _ d⟩⟩
