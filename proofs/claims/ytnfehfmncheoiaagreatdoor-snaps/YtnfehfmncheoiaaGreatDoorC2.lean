import Derived.BigQuiet
import Derived.Conc.MuLone
import Derived.Deep.QuietTactic
import Derived.Deep.RegionLawGrows
import Derived.LaidEql
import Derived.Lib.EndianBits
import Derived.OrdersHeld
import Derived.OrdersIn
import Derived.Outline
import Derived.OwnWalkIn
import Derived.RangeFuncCalls
import Derived.RowKitTokens
import Derived.Stop.Asserts
import Derived.Test.YtnfehfmncheoiaaGreatDoorChecked
import Derived.WalkLawsBesides
import Derived.Test.YtnfehfmncheoiaaGreatDoorC0
open _root_ renaming List.length→y,Option.some→H,Array.size→z,Go.World.heap→G,Go.Value.ownBlock→bV,Go.World.cell?→aS,Go.World.setCell→bZ,Go.World.alloc→ct,Bool.false→bE,Bool.true→bU,Nat→M,Int→X,List→cr,Go.Calls→cw,Go.Proofs.Tryz.prog→bF,Go.Value.slice→I,Go.Value.string→J,Go.Value.bool→aL,Go.Value.pointer→fh,Go.Value.tuple→dA,Go.Value.agg→eD
namespace Go.Proofs.YtnfehfmncheoiaaGreatDoor
open ChangeShapes WideShapes RowKit Proofs.Tryz
set_option maxHeartbeats 16000000
set_option linter.all false
set_option maxRecDepth 100000
variable{a f C:Y}{b c g l B P:M}{d s N:aa}{m:X}{W:fI}{v:ab}{x:iV}{D:Bool}{V:Array aa}
abbrev KV:=ab×ab
abbrev iB:=cr KV
def qg(p:KV):iV:=[J p.1,J p.2]
def ic(l:cr KV):iV:=l.flatMap qg
def nN(l:cr KV)(i:M)(h:i<y l):(ic l)[i*2]?=H (J l[i].1)/\(ic l)[i*2+1]?=H (J l[i].2):=by
 induction l generalizing i with
 |nil=>simp at h
 |cons p r a=>
  cases i with
  |zero=>simp[ic,qg]
  |succ i=>
   have:=a i (by simpa using h);have e:(i+1)*2=i*2+2:=by omega
   rw[e];simpa[ic,qg]using this
def Row(w:Y)(c:M)(v:aa)(n:M)(d:iV):Prop:=y d=n*c/\((v=aK/\n=0)\/∃e a b,v=bC e a n b/\n<=b/\∀j u,d[j]?=H u->aS w (R e<|a+j)=H u)
def jk(w:Y)(v:aa)(l:cr KV):Prop:=Row w 2 v (y l)<|ic l
def EK:(prog.info? 69).map (λi=>(i.zero,i.size,i.bytes))=H (H<|eD #[J ⟨#[]⟩,J ⟨#[]⟩],2,32):=by kernel_rfl
def MN{b:ab}(h:v.toList=b.toList):v=b:=by
 rw[nV,nV]at h;exact bytes_inj h
def zr{b:ab}(h:¬v=b):(v.toList==b.toList)=bE:=by
 rw[kK];exactλe=>h<|MN e
def EN(a k:ab):Bool:=!Op.bytesLess a.toList k.toList
def fP(k v:ab)(a:cr KV×Bool)(p:KV):cr KV×Bool:=let b:=if !a.2&&EN p.1 k then a.1++[(k,v)]else a.1;(if p.1=k then b else b++[p],a.2||EN p.1 k)
def pW(k v:ab)(d:Bool)(l:cr KV):cr KV×Bool:=l.foldl (fP k v) ([],d)
def vK(l:cr KV)(k v:ab)(d:Bool):cr KV:=if(pW k v d l).2 then(pW k v d l).1 else(pW k v d l).1++[(k,v)]
def Ng(k v:ab)(d:Bool)(l:cr KV)(n:M)(h:n<y l):pW k v d (l.take<|n+1)=fP k v (pW k v d<|l.take n) l[n]:=by
 unfold pW;rw[ai h,iJ];rfl
def DE(k v:ab)(a:cr KV×Bool)(p:KV):y (fP k v a p).1<=y a.1+2:=by
 unfold fP;simp only;split<;>split<;>simp<;>omega
def Gn{d b c:ab}{a:cr KV}(h:b=v):fP v d (a,bU) (b,c)=(a,bU):=by simp[fP,h]
def Gm{d b c:ab}{a:cr KV}(h:¬b=v):fP v d (a,bU) (b,c)=(a++[(b,c)],bU):=by simp[fP,h]
def Qk{e b d:ab}{a:cr KV}(c:Op.bytesLess b.toList v.toList=bU)(h:b=v):fP v e (a,bE) (b,d)=(a,bE):=by
 unfold fP EN;simp only[c];simp[h]
def Qj{e b c:ab}{a:cr KV}(d:Op.bytesLess b.toList v.toList=bU)(h:¬b=v):fP v e (a,bE) (b,c)=(a++[(b,c)],bE):=by
 unfold fP EN;simp only[d];simp[h]
def Qm{e b d:ab}{a:cr KV}(c:Op.bytesLess b.toList v.toList=bE)(h:b=v):fP v e (a,bE) (b,d)=(a++[(v,e)],bU):=by
 unfold fP EN;simp only[c];simp[h]
def Ql{e b c:ab}{a:cr KV}(d:Op.bytesLess b.toList v.toList=bE)(h:¬b=v):fP v e (a,bE) (b,c)=(a++[(v,e)]++[(b,c)],bU):=by
 unfold fP EN;simp only[d];simp[h]
def Iq(k v:ab)(d:Bool)(l:cr KV):y (pW k v d l).1<=2*y l:=by
 unfold pW
 have:∀(l:cr KV)(a:cr KV×Bool),y (l.foldl (fP k v) a).1<=y a.1+2*y l:=by
  intro l;induction l with
  |nil=>intro a;simp
  |cons p r b=>intro a;simp only[fO,ay];have:=b<|fP k v a p;have:=DE k v a p;omega
 simpa using this l ([],d)
def iS(a b:cr KV):ic (a++b)=ic a++ic b:=by simp[ic]
def jc(h:a.ownsRow b c g d l x)(e:f.heap=a.heap):f.ownsRow b c g d l x:=by
 unfold World.ownsRow at*;rw[e];exact h
def kp{h wr W c:Y}(f:Below b h wr)(a:b<=z (G wr))(i:eR W c d s)(O:Obj)(e:(W.os,W.tape,W.output,W.heap)=((ct wr O).os,(ct wr O).tape,(ct wr O).output,(ct wr O).heap))(g:∀k,bV d=H k->b<=k):Below b h c:=(Below.of_heap (f.alloc a O) e).grown i.grown (by simp only[gV]at e;rw[e.2.2.2];simp;omega) g
def oQ(w:Y)(a:M)(o:aa)(l:cr KV):Prop:=w.ownsRow a 69 2 o (y l)<|ic l
def oQ.of{l:cr KV}(h:a.ownsRow b 69 2 d c x)(e:c=y l)(f:x=ic l):oQ a b d l:=by subst e;subst f;exact h
def lP(w:Y)(x a:aa)(t:TypeId):∀j u,[x,a][j]?=H u->aS (ct w<|aq #[x,a] t) (((R (z<|G w) 0):Addr).add j)=H u:=by
 intro j u b;rw[du];unfold World.cell?;rw[fw];simpa using b
def To(p:cr KV)(an b ao:M)(k v:ab)(Q:Bool)(w:Y)(hr:y p<=1000000000000)(O:∀j,j<y p->aS w (R an<|b+j*2)=H (J (p[j]?.getD (⟨#[]⟩,⟨#[]⟩)).1)/\aS w (R an<|b+j*2+1)=H (J (p[j]?.getD (⟨#[]⟩,⟨#[]⟩)).2))(hb:an<z (G w)):cw bF 75 #[bC an b (y p) ao,eD #[J k,J v,aL Q]] w λbi w'=>∃v',bi=aO v'/\oQ w' (z (G w)+1) v' (vK p k v Q)/\Below (z<|G w) w w':=by
 obtain⟨i0,hi,B,C,D⟩:=cz EK;have HC:=U O;clear O;go_in
 go_wp2;go_loopw [5,6,7] (λa bg j wr=>∃(o:M),o<=y p/\j=am o/\bg=aL (pW k v Q<|p.take o).2/\oQ wr (z (G w)+1) a (pW k v Q<|p.take o).1/\Below (z (G w)+1) (ct w<|aq #[J k,J v,aL Q] 113) wr) (λ_ _ j _=>y p-(intOf j).toNat)
 case atStart=>exact⟨0,bw _,rfl,rfl,bJ _ _ _ _,Below.refl _ _⟩
 case round=>
  obtain⟨o,hn,rfl,rfl,m,c⟩:=hrel;have bd:aS wr (R (z<|G w) 0)=H (J k):=by rw[c.cell<|by simp];simp
  have bf:aS wr (R (z<|G w) 1)=H (J v):=by rw[c.cell<|by simp];simp
  have x:y (pW k v Q<|p.take o).1<=2*o:=by have:=Iq k v Q<|p.take o;simp at this;omega
  have N:z (G w)+1<=z (G wr):=by have:=c.size;simpa using this
  by_cases L:o<y p
  .have T:aS wr (R an<|b+o*2)=H (J (p[o]?.getD (⟨#[]⟩,⟨#[]⟩)).1):=by rw[c.cell (by simp;omega),fp hb];exact(HC o L).1
   have V:aS wr (R an<|b+o*2+1)=H (J (p[o]?.getD (⟨#[]⟩,⟨#[]⟩)).2):=by rw[c.cell (by simp;omega),fp hb];exact(HC o L).2
   have HS:=U<|Ng k v Q p o L;generalize pW k v Q (p.take o)=E at*;obtain⟨W,q⟩:=E;have r:=U m;have F:=U c;clear m c;have av:p[o]?.getD (⟨#[]⟩,⟨#[]⟩)=p[o]:=by simp[L]
   rw[av]at T V;generalize p[o]=bg at*;obtain⟨g,K⟩:=bg;simp only at T V x;cases q with
   |true=>
    go_wp2_with fail
    go_quiet(fail)
    go_wp2_with fail
    by_cases i:g=k
    .have u:(g.toList==k.toList)=bU:=by rw[i];simp
     have l:=U<|HS.trans<|Gn i;clear i;go_quiet(fail)
     go_wp2;go_roundw;case rel=>exact⟨o+1,by omega,by go_num,by rw[ae l],by rw[ae l];exact jc r rfl,Below.of_heap F rfl⟩
     case measure=>simp[intOf];omega
    .have u:(g.toList==k.toList)=bE:=zr i;have l:=U<|HS.trans<|Gm i;clear i;go_quiet(fail)
     go_wp2_with(first
      |(at_builtin;refine bQ _ rfl (.tmp 44) (.tmp 49) 38 rfl (z (G w)+1) 69 i0 (.agg #[.string ⟨#[]⟩,.string ⟨#[]⟩]) 2 32 underlying38 hi B C D rfl (by decide) _ _ _ rfl (jc (aR r (.cells #[.string g,.string K] 69)) ?chT) (R (z (G wr)) 0) 1 1 [.string g,.string K] rfl rfl ?c1T ?c2T ?c3T ?c4T ?c5T ?_))
     case chT=>rfl
     case c1T=>exact lP _ _ _ _
     case c2T=>intro bh A;simp at A;rcases A with rfl|rfl<;>rfl
     case c3T=>first|omega|(simp;omega)
     case c4T=>first|omega|(simp;omega)
     case c5T=>simp;omega
     intro o2 w2 a e;have t:=U a;have S:=U e;clear a e;go_wp2;go_roundw;case rel=>exact⟨o+1,by omega,by go_num,by rw[ae l],by rw[ae l];exact oQ.of t (by simp) (by simp[iS];rfl),kp F N S (aq #[J g,J K] 69) rfl<|λO j=>(aF r O j).1⟩
     case measure=>simp[intOf];omega
   |false=>
    by_cases hL:Op.bytesLess g.toList k.toList=bU
    .have HG:=U hL;go_wp2_with fail
     go_quiet(fail)
     go_wp2_with fail
     by_cases i:g=k
     .have u:(g.toList==k.toList)=bU:=by rw[i];simp
      have l:=U<|HS.trans<|Qk HG i;clear i;go_quiet(fail)
      go_wp2;go_roundw;case rel=>exact⟨o+1,by omega,by go_num,by rw[ae l],by rw[ae l];exact jc r rfl,Below.of_heap F rfl⟩
      case measure=>simp[intOf];omega
     .have u:(g.toList==k.toList)=bE:=zr i;have l:=U<|HS.trans<|Qj HG i;clear i;go_quiet(fail)
      go_wp2_with(first
       |(at_builtin;refine bQ _ rfl (.tmp 44) (.tmp 49) 38 rfl (z (G w)+1) 69 i0 (.agg #[.string ⟨#[]⟩,.string ⟨#[]⟩]) 2 32 underlying38 hi B C D rfl (by decide) _ _ _ rfl (jc (aR r (.cells #[.string g,.string K] 69)) ?chL) (R (z (G wr)) 0) 1 1 [.string g,.string K] rfl rfl ?c1L ?c2L ?c3L ?c4L ?c5L ?_))
      case chL=>rfl
      case c1L=>exact lP _ _ _ _
      case c2L=>intro bh A;simp at A;rcases A with rfl|rfl<;>rfl
      case c3L=>first|omega|(simp;omega)
      case c4L=>first|omega|(simp;omega)
      case c5L=>simp;omega
      intro o2 w2 a e;have t:=U a;have S:=U e;clear a e;go_wp2;go_roundw;case rel=>exact⟨o+1,by omega,by go_num,by rw[ae l],by rw[ae l];exact oQ.of t (by simp) (by simp[iS];rfl),kp F N S (aq #[J g,J K] 69) rfl<|λO j=>(aF r O j).1⟩
      case measure=>simp[intOf];omega
    .have au:Op.bytesLess g.toList k.toList=bE:=by simpa using hL
     clear hL;have HG:=U au;go_wp2_with fail
     go_quiet(fail)
     go_wp2_with(first
      |(at_builtin;refine bQ _ rfl (.tmp 28) (.tmp 34) 38 rfl (z (G w)+1) 69 i0 (.agg #[.string ⟨#[]⟩,.string ⟨#[]⟩]) 2 32 underlying38 hi B C D rfl (by decide) _ _ _ rfl (jc (aR r (.cells #[.string k,.string v] 69)) ?chY) (R (z (G wr)) 0) 1 1 [.string k,.string v] rfl rfl ?c1Y ?c2Y ?c3Y ?c4Y ?c5Y ?_))
     case chY=>rfl
     case c1Y=>exact lP _ _ _ _
     case c2Y=>intro bh A;simp at A;rcases A with rfl|rfl<;>rfl
     case c3Y=>first|omega|(simp;omega)
     case c4Y=>first|omega|(simp;omega)
     case c5Y=>simp;omega
     intro o1 P f n;have d:Below (z (G w)+1) (ct w<|aq #[J k,J v,aL Q] 113) P:=kp F N n (aq #[J k,J v] 69) rfl<|λO j=>(aF r O j).1;have ba:aS P (R (z<|G w) 0)=H (J k):=by rw[d.cell<|by simp];simp
     have bb:aS P (R an<|b+o*2)=H (J g):=by rw[d.cell (by simp;omega),<-(ae F).cell (by simp;omega)];exact T
     have bc:aS P (R an<|b+o*2+1)=H (J K):=by rw[d.cell (by simp;omega),<-(ae F).cell (by simp;omega)];exact V
     have al:z (G w)+1<=z (G P):=by have:=d.size;simpa using this
     have ad:oQ P (z (G w)+1) o1 (W++[(k,v)]):=oQ.of f (by simp) (by simp[iS];rfl);have ax:y (W++[(k,v)])<=2*o+1:=by simp;omega
     have s:=U ad;have ac:=U d;clear f n d ad;go_wp2_with fail
     by_cases i:g=k
     .have u:(g.toList==k.toList)=bU:=by rw[i];simp
      have l:=U<|HS.trans<|Qm HG i;clear i;go_quiet(fail)
      go_wp2;go_roundw;case rel=>exact⟨o+1,by omega,by go_num,by rw[ae l],by rw[ae l];exact jc s rfl,Below.of_heap ac rfl⟩
      case measure=>simp[intOf];omega
     .have u:(g.toList==k.toList)=bE:=zr i;have l:=U<|HS.trans<|Ql HG i;clear i;go_quiet(fail)
      go_wp2_with(first
       |(at_builtin;refine bQ _ rfl (.tmp 44) (.tmp 49) 38 rfl (z (G w)+1) 69 i0 (.agg #[.string ⟨#[]⟩,.string ⟨#[]⟩]) 2 32 underlying38 hi B C D rfl (by decide) _ _ _ rfl (jc (aR s (.cells #[.string g,.string K] 69)) ?chZ) (R (z (G P)) 0) 1 1 [.string g,.string K] rfl rfl ?c1Z ?c2Z ?c3Z ?c4Z ?c5Z ?_))
      case chZ=>rfl
      case c1Z=>exact lP _ _ _ _
      case c2Z=>intro bh A;simp at A;rcases A with rfl|rfl<;>rfl
      case c3Z=>first|omega|(simp;omega)
      case c4Z=>first|omega|(simp;omega)
      case c5Z=>simp;omega
      intro o2 w2 a e;have t:=U a;have S:=U e;clear a e;go_wp2;go_roundw;case rel=>exact⟨o+1,by omega,by go_num,by rw[ae l],by rw[ae l];exact oQ.of t (by simp) (by simp[iS];rfl),kp ac al S (aq #[J g,J K] 69) rfl<|λO j=>(aF s O j).1⟩
      case measure=>simp[intOf];omega
  .have a:p.take o=p:=cS (by omega);rw[a]at m x|-;have e:=U<|show vK p k v Q=if(pW k v Q p).2 then(pW k v Q p).1 else(pW k v Q p).1++[(k,v)]from rfl;generalize pW k v Q p=E at*;obtain⟨W,q⟩:=E;simp only at x;have r:=U m;have F:=U c;clear m c;have fin:∀w2,Below (z (G w)+1) (ct w<|aq #[J k,J v,aL Q] 113) w2->Below (z<|G w) w w2:=λw2 h=>((Below.refl _ w).alloc (ah _) _).trans (h.mono<|by omega);have d:=U fin;clear fin;cases q with
   |true=>
    go_wp2;go_ret;exact⟨_,rfl,by rw[ae e];exact r,ae d _ F⟩
   |false=>
    go_wp2_with(first
     |(at_builtin;refine bQ _ rfl (.tmp 53) (.tmp 59) 38 rfl (z (G w)+1) 69 i0 (.agg #[.string ⟨#[]⟩,.string ⟨#[]⟩]) 2 32 underlying38 hi B C D rfl (by decide) _ _ _ rfl (jc (aR r (.cells #[.string k,.string v] 69)) ?chX) (R (z (G wr)) 0) 1 1 [.string k,.string v] rfl rfl ?c1X ?c2X ?c3X ?c4X ?c5X ?_))
    case chX=>rfl
    try(case c1X=>exact lP _ _ _ _)
    case c2X=>exact⟨rfl,rfl⟩
    case c3X=>omega
    case c4X=>omega
    case c5X=>omega
    intro o1 P f n;have s:=U f;have S:=U n;clear f n;go_wp2;go_ret;exact⟨_,rfl,by rw[ae e];exact oQ.of s (by simp) (by simp[iS];rfl),ae d _<|kp F N S (aq #[J k,J v] 69) rfl<|λO j=>(aF r O j).1⟩
def VO(k v:ab)(m:Bool)(w:Y):cw bF 75 #[aK,eD #[J k,J v,aL m]] w λB r=>∃q,B=aO q/\oQ r (z (G w)+1) q (vK [] k v m)/\Below (z<|G w) w r:=by
 obtain⟨A,t,i,j,l⟩:=cz EK;go_in
 go_wp2;go_loopw [5,6,7] (λo p i wr=>i=am 0/\p=aL m/\o=aK/\Below (z (G w)+1) (ct w<|aq #[J k,J v,aL m] 113) wr) (λ_ _ _ _=>0)
 case atStart=>exact⟨rfl,rfl,rfl,Below.refl _ _⟩
 case round=>
  obtain⟨rfl,rfl,rfl,a⟩:=hrel;have u:aS wr (R (z<|G w) 0)=H (J k):=by rw[a.cell<|by simp];simp
  have x:aS wr (R (z<|G w) 1)=H (J v):=by rw[a.cell<|by simp];simp
  have g:z (G w)+1<=z (G wr):=by have:=a.size;simpa using this
  have c:oQ wr (z (G w)+1) aK []:=bJ _ _ _ _;have e:=U c;have n:=U a;clear c a;have fin:∀a,Below (z (G w)+1) (ct w<|aq #[J k,J v,aL m] 113) a->Below (z<|G w) w a:=λa h=>((Below.refl _ w).alloc (ah _) _).trans (h.mono<|by omega);have o:=U fin;clear fin;cases m with
  |true=>
   go_wp2;go_ret;exact⟨_,rfl,e,ae o _ n⟩
  |false=>
   go_wp2_with(first
    |(at_builtin;refine bQ _ rfl (.tmp 53) (.tmp 59) 38 rfl (z (G w)+1) 69 A (.agg #[.string ⟨#[]⟩,.string ⟨#[]⟩]) 2 32 underlying38 t i j l rfl (by decide) _ _ _ rfl (jc (aR e (.cells #[.string k,.string v] 69)) ?chX) (R (z (G wr)) 0) 1 1 [.string k,.string v] rfl rfl ?c1X ?c2X ?c3X ?c4X ?c5X ?_))
   case chX=>rfl
   try(case c1X=>exact lP _ _ _ _)
   case c2X=>intro E p;simp at p;rcases p with rfl|rfl<;>rfl
   case c3X=>first|omega|(simp;omega)|simp
   case c4X=>first|omega|(simp;omega)|simp
   case c5X=>first|omega|(simp;omega)
   intro C D b d;have f:=U b;have s:=U d;clear b d;go_wp2;go_ret;exact⟨_,rfl,oQ.of f rfl rfl,ae o _<|kp n g s (aq #[J k,J v] 69) rfl<|λb a=>(aF e b a).1⟩
def dF(j:a.ownsRow b c g d l x):Row a g d l x:=by
 refine⟨j.1,?_⟩;rcases j.2 with⟨rfl,k⟩|⟨i,e,h,rfl,_,_,f,_⟩;exact .inl ⟨rfl,k⟩;refine .inr ⟨i,0,e,rfl,f,λn u m=>?_⟩;have:=j.cells (g:=i) rfl n u m;rwa[du]at this
def oQ.KP{l:cr KV}(h:oQ a b d l):jk a d l:=dF h
def VP(l:cr KV)(k v:ab)(j:Bool)(p:jk a d l)(o:∀s,bV d=H s->s<z (G a))(q:y l<=1000000000000):cw bF 75 #[d,eD #[J k,J v,aL j]] a λt i=>∃h,t=aO h/\oQ i (z (G a)+1) h (vK l k v j)/\Below (z<|G a) a i:=by
 obtain⟨u,⟨rfl,m⟩|⟨r,b,c,rfl,n,f⟩⟩:=p;obtain rfl:l=[]:=aP m;exact VO k v j a;refine To l r b c k v j a q (λw e=>?_)<|o r rfl;have g:=nN l w e;refine⟨?_,?_⟩;rw[f _ _ g.1];simp[e];rw[aV,f _ _ g.2];simp[e]
structure OY where
 key:ab
 val:ab
 del:Bool
abbrev uz:=cr OY
variable{K:iB}
def oD(c:OY):iV:=[J c.key,J c.val,aL c.del]
def eQ(l:cr OY):iV:=l.flatMap oD
def kT(l:cr OY)(i:M)(h:i<y l):(eQ l)[i*3]?=H (J l[i].key)/\(eQ l)[i*3+1]?=H (J l[i].val)/\(eQ l)[i*3+2]?=H (aL l[i].del):=by
 induction l generalizing i with
 |nil=>simp at h
 |cons p r a=>
  cases i with
  |zero=>simp[eQ,oD]
  |succ i=>
   have:=a i (by simpa using h);have e:(i+1)*3=i*3+3:=by omega
   rw[e];simpa[eQ,oD]using this
def xW(w:Y)(v:aa)(l:cr OY):Prop:=Row w 3 v (y l)<|eQ l
def wt:Bool->M
 |true=>0
 |false=>1
def DD(k v:ab)(a:iB×Bool)(p:KV):y (fP k v a p).1+wt (fP k v a p).2<=y a.1+wt a.2+1:=by
 obtain⟨c,q⟩:=a;obtain⟨b,d⟩:=p;cases q<;>cases hg:EN b k<;>by_cases h:b=k<;>(simp only[fP,hg];simp[h,wt])
def Kj(l:iB)(k v:ab)(d:Bool):y (vK l k v d)<=y l+1:=by
 have b:∀(l:iB)(a:iB×Bool),y (l.foldl (fP k v) a).1+wt (l.foldl (fP k v) a).2<=y a.1+wt a.2+y l:=by
  intro l;induction l with
  |nil=>intro a;simp
  |cons p r c=>intro a;simp only[fO,ay];have:=c<|fP k v a p;have:=DD k v a p;omega
 have h:=b l ([],d);have f:wt d<=1:=by cases d<;>simp[wt]
 simp only[cK]at h;unfold vK pW;split<;>rename_i e;omega;(have a:(List.foldl (fP k v) ([],d) l).2=bE:=by simpa using e);rw[a,show wt bE=1 from rfl]at h;rw[af];simp only[ay,cK];omega
def SO(l:iB)(a:cr OY):iB:=a.foldl (λl c=>vK l c.key c.val c.del) l
def UW(l:iB)(a:cr OY)(n:M)(h:n<y a):SO l (a.take<|n+1)=vK (SO l<|a.take n) a[n].key a[n].val a[n].del:=by
 unfold SO;rw[ai h,iJ];rfl
def EV(l:iB)(a:cr OY):y (SO l a)<=y l+y a:=by
 unfold SO;induction a generalizing l with
 |nil=>simp
 |cons c r b=>simp only[fO,ay];have:=b<|vK l c.key c.val c.del;have:=Kj l c.key c.val c.del;omega
def XF(c:cr OY)(B:jk a d K)(A:∀g,bV d=H g->g<z (G a))(hc:xW a s c)(m:∀g,bV s=H g->g<z (G a))(hr:y K+y c<=1000000000000):cw bF 47 #[d,s] a λal S=>∃x,al=aO x/\jk S x (SO K c)/\(∀g,bV x=H g->g<z (G S))/\(bV x=bV d\/∀g,bV x=H g->z (G a)<=g)/\Below (z<|G a) a S:=by
 obtain⟨h1,⟨rfl,h0⟩|⟨V,e,ac,rfl,ad,t⟩⟩:=hc;(.obtain rfl:c=[]:=aP h0;have L:=U B;have F:=U A;clear B A m;(go_in);go_wp2;(go_loopw [0,5] (λT W wr=>W=am 0/\T=d/\wr=a) (λ_ _ _=>0));(case atStart=>exact⟨rfl,rfl,rfl⟩);(case round=>obtain⟨rfl,rfl,rfl⟩:=hrel;go_wp2;go_ret;exact⟨_,rfl,L,F,.inl rfl,Below.refl _ _⟩))
 .have l:V<z (G a):=m V rfl;obtain⟨L,F,E⟩:=dB B A t;clear B A m t;go_in
  go_wp2;go_loopw [0,5] (λT W wr=>∃n:M,n<=y c/\W=am n/\jk wr T (SO K<|c.take n)/\(∀g,bV T=H g->g<z (G wr))/\(bV T=bV d\/∀g,bV T=H g->z (G a)<=g)/\Below (z<|G a) a wr) (λ_ W _=>y c-(intOf W).toNat)
  case atStart=>exact⟨0,bw _,rfl,L,F,.inl rfl,Below.refl _ _⟩
  case round=>
   obtain⟨n,hn,rfl,f,j,o,b⟩:=hrel;by_cases w:n<y c
   .have k:=kT c n w;have N:aS wr (R V<|e+n*3)=H (J c[n].key):=(b.cell<|by exact l).trans<|E _ _ k.1;have O:aS wr (R V<|e+n*3+1)=H (J c[n].val):=(b.cell<|by exact l).trans (by rw[aV];exact E _ _ k.2.1);have P:aS wr (R V<|e+n*3+2)=H (aL c[n].del):=(b.cell<|by exact l).trans (by rw[aV];exact E _ _ k.2.2);have HS:=U<|UW K c n w;have v:y (SO K<|c.take n)<=1000000000000:=by have:=EV K<|c.take n;simp at this;omega
    obtain⟨C,D,p⟩:=dB f j b;clear k f j b o;generalize Q:c[n]=ce at*;obtain⟨ck,cv,cd⟩:=ce;clear Q;simp only at N O P;go_wp2_with(first
     |(go_at_call 75;refine(VP _ ck cv cd C D v).mono ?_;rintro al w1⟨v1,rfl,i,q⟩))
    have r:Below (z<|G a) a w1:=p.trans<|q.mono p.size;have u:∀g,bV v1=H g->g<z (G w1):=λg k=>(aF i g k).2;obtain⟨K1,K2,K3,K4⟩:=gx i.KP r u (show∀g,bV v1=H g->z (G a)<=g fromλg k=>by have:=(aF i g k).1;have:=p.size;omega);clear i q r u;go_wp2;go_roundw;case rel=>exact⟨n+1,by omega,by go_num,by rw[ae HS];exact K1,K3,.inr K4,K2⟩
    case measure=>simp[intOf];omega
   .have i:c.take n=c:=cS (by omega);rw[i]at f;obtain⟨C,D,p,k⟩:=gx f j b o;clear f j b o;go_wp2;go_ret;exact⟨_,rfl,C,D,k,p⟩
def qf(l:iB)(k:ab):ab×Bool:=match l with
 |[]=>(⟨#[]⟩,bE)
 |p::r=>if p.1=k then(p.2,bU)else qf r k
def Ru(h:b<y K)(e:K[b].1=v):qf (K.drop b) v=(K[b].2,bU):=by
 rw[bD h];simp[qf,e]
def NU(h:b<y K)(e:¬K[b].1=v):qf (K.drop b) v=qf (K.drop<|b+1) v:=by
 rw[bD h];simp[qf,e]
def Ug(k:ab)(x:jk a d K)(L:y K<=1000000000000):cw bF 105 #[d,J k] a λE C=>E=aO (dA #[J (qf K k).1,aL (qf K k).2])/\C=a:=by
 obtain⟨v,⟨rfl,u⟩|⟨D,b,t,rfl,w,q⟩⟩:=x;(.obtain rfl:K=[]:=aP u;(go_in);go_wp2;(go_loop [6] (λs=>s=am 0) (λ_=>0));(case atStart=>rfl);(case round=>obtain rfl:=hrel;go_wp2;(go_ret2);exact⟨rfl,rfl⟩));(.have p:=U q;clear q v;(go_in);go_wp2;(go_loop [6] (λs=>∃n:M,n<=y K/\s=am n/\qf K k=qf (K.drop n) k) (λs=>y K-(intOf s).toNat));(case atStart=>exact⟨0,bw _,rfl,rfl⟩);(case round=>obtain⟨n,F,rfl,r⟩:=hrel;have i:=U r;clear r;by_cases e:n<y K;(.have m:=nN K n e;have f:aS a (R D<|b+n*2)=H (J K[n].1):=p _ _ m.1;(have g:aS a (R D<|b+n*2+1)=H (J K[n].2):=by rw[aV];exact p _ _ m.2);clear m;by_cases c:K[n].1=k;(.have j:=U<|i.trans<|Ru e c;generalize K[n]=A at*;obtain⟨o,B⟩:=A;simp only at f g c;(have l:(o.toList==k.toList)=bU:=by rw[c];simp);clear c;go_wp2;(go_ret2);exact⟨by rw[ae j];rfl,rfl⟩);(.have j:=U<|i.trans<|NU e c;generalize K[n]=A at*;obtain⟨o,B⟩:=A;simp only at f g c;have l:(o.toList==k.toList)=bE:=zr c;clear c;go_wp2;(go_round);(case rel=>exact⟨n+1,by omega,by go_num,j⟩);case measure=>simp[intOf];omega));(have c:K.drop n=[]:=by simp;omega);go_wp2;(go_ret2);exact⟨by rw[ae i,c];rfl,rfl⟩))
def oz(m t:X):X:=if m<1\/32<m\/t<2\/6<t then 1 else 0
def Ch(m t:X)(w:Y):cw bF 28 #[am m,am t] w λe b=>e=aO (am<|oz m t)/\b=w:=by
 by_cases c:m<1;(.have a:=U (show oz m t=1 by unfold oz;rw[dw<|by omega]);(go_in);go_wp2;go_ret;exact⟨by rw[ae a];rfl,rfl⟩);by_cases d:32<m;(.have a:=U (show oz m t=1 by unfold oz;rw[dw<|by omega]);(go_in);go_wp2;go_ret;exact⟨by rw[ae a];rfl,rfl⟩);by_cases f:t<2;(.have a:=U (show oz m t=1 by unfold oz;rw[dw<|by omega]);(go_in);go_wp2;go_ret;exact⟨by rw[ae a];rfl,rfl⟩);by_cases g:6<t;(.have a:=U (show oz m t=1 by unfold oz;rw[dw<|by omega]);(go_in);go_wp2;go_ret;exact⟨by rw[ae a];rfl,rfl⟩);have a:=U (show oz m t=0 by unfold oz;rw[cY<|by omega]);(go_in);go_wp2;go_ret;exact⟨by rw[ae a];rfl,rfl⟩
def lL:uz->X
 |[]=>0
 |c::r=>if c.key.size=0\/8<c.key.size then 3 else if c.del=bE/\16<c.val.size then 4 else lL r
def fY(a:uz):X:=if 8<y a then 2 else lL a
def Cz{a:uz}(h:b<y a)(e:a[b].key.size=0\/8<a[b].key.size):lL (a.drop b)=3:=by
 rw[bD h,lL,dw e]
def Cy{a:uz}(h:b<y a)(e:¬(a[b].key.size=0\/8<a[b].key.size))(f:a[b].del=bE/\16<a[b].val.size):lL (a.drop b)=4:=by
 rw[bD h,lL,cY e,dw f]
def Fb{a:uz}(h:b<y a)(e:¬(a[b].key.size=0\/8<a[b].key.size))(f:¬(a[b].del=bE/\16<a[b].val.size)):lL (a.drop b)=lL (a.drop<|b+1):=by
 rw[bD h,lL,cY e,cY f]
def Ho{b:uz}(O:xW a d b)(T:y b<=1000000000000):cw bF 46 #[d] a λQ P=>Q=aO (am<|fY b)/\P=a:=by
 obtain⟨L,⟨rfl,K⟩|⟨E,c,F,rfl,N,x⟩⟩:=O;(.obtain rfl:b=[]:=aP K;(go_in);go_wp2;(go_loop [3] (λC=>C=am 0) (λ_=>0));(case atStart=>rfl);(case round=>obtain rfl:=hrel;go_wp2;go_ret;exact⟨rfl,rfl⟩))
 .have r:=U x;clear x L;by_cases w:8<y b
  .have s:=U (show fY b=2 by unfold fY;rw[dw w]);go_in
   go_wp2;go_ret;exact⟨by rw[ae s];rfl,rfl⟩
  .have s:=U (show fY b=lL b by unfold fY;rw[cY w]);go_in
   go_wp2;go_loop [3] (λC=>∃n:M,n<=y b/\C=am n/\fY b=lL (b.drop n)) (λC=>y b-(intOf C).toNat)
   case atStart=>exact⟨0,bw _,rfl,s⟩
   case round=>
    obtain⟨n,S,rfl,A⟩:=hrel;have p:=U A;clear A;by_cases f:n<y b
    .have q:=kT b n f;have k:aS a (R E<|c+n*3)=H (J b[n].key):=r _ _ q.1;have l:aS a (R E<|c+n*3+1)=H (J b[n].val):=by rw[aV];exact r _ _ q.2.1
     have m:aS a (R E<|c+n*3+2)=H (aL b[n].del):=by rw[aV];exact r _ _ q.2.2
     clear q;by_cases e:b[n].key.size=0\/8<b[n].key.size
     .have j:=U<|p.trans<|Cz f e;generalize b[n]=D at*;obtain⟨i,v,u⟩:=D;simp only at k l m e;rcases e with e|e
      .have o:((i.size:X)==0)=bU:=by simp[e]
       go_wp2;go_ret;exact⟨by rw[ae j];rfl,rfl⟩
      .have o:((i.size:X)==0)=bE:=kK.2 (by omega);go_wp2;go_ret;exact⟨by rw[ae j];rfl,rfl⟩
     .by_cases g:b[n].del=bE/\16<b[n].val.size
      .have j:=U<|p.trans<|Cy f e g;generalize b[n]=D at*;obtain⟨i,v,u⟩:=D;simp only at k l m e g;obtain⟨rfl,B⟩:=g;have o:((i.size:X)==0)=bE:=kK.2 (by omega);have t:¬8<i.size:=by omega
       clear e;go_wp2;go_ret;exact⟨by rw[ae j];rfl,rfl⟩
      .have j:=U<|p.trans<|Fb f e g;generalize b[n]=D at*;obtain⟨i,v,u⟩:=D;simp only at k l m e g;have o:((i.size:X)==0)=bE:=kK.2 (by omega);have t:¬8<i.size:=by omega
       clear e;cases u with
       |true=>
        clear g;go_wp2;go_round
        case rel=>exact⟨n+1,by omega,by go_num,j⟩
        case measure=>simp[intOf];omega
       |false=>
        have B:¬16<v.size:=by simpa using g
        clear g;go_wp2;go_round
        case rel=>exact⟨n+1,by omega,by go_num,j⟩
        case measure=>simp[intOf];omega
    .have e:b.drop n=[]:=by simp;omega
     go_wp2;go_ret;exact⟨by rw[ae p,e];rfl,rfl⟩
def rD(c b:ab)(a:X)(n:M)(p:KV):Bool:=EN p.1 c&&((b.toList==[])||Op.bytesLess p.1.toList b.toList)&&(decide (a<=0)||decide ((n:X)<a))
def jN(d c:ab)(a:X)(b:iB)(p:KV):iB:=if rD d c a (y b) p then b++[p]else b
def mJ(l:iB)(c b:ab)(a:X):iB:=l.foldl (jN c b a) []
def SE(l:iB)(c b:ab)(a:X)(n:M)(h:n<y l):mJ (l.take<|n+1) c b a=jN c b a (mJ (l.take n) c b a) l[n]:=by
 unfold mJ;rw[ai h,iJ];rfl
def my(l:iB)(d c:ab)(a:X):y (mJ l d c a)<=y l:=by
 have e:∀(l b:iB),y (l.foldl (jN d c a) b)<=y b+y l:=by
  intro l;induction l with
  |nil=>intro b;simp
  |cons p r f=>
   intro b;simp only[fO,ay];have g:=f<|jN d c a b p;have h:y (jN d c a b p)<=y b+1:=by unfold jN;split<;>simp
   omega
 have:=e l [];simpa[mJ]using this
def WG{a:ab}{p:KV}(h:rD v a m (y K) p=bU):jN v a m K p=K++[p]:=by unfold jN;rw[dw h]
def XI{a:ab}{p:KV}(h:rD v a m (y K) p=bE):jN v a m K p=K:=by unfold jN;rw[cY<|by simp[h]]
def Jt(s:iB)(al g T:M)(p n:ab)(a:X)(F:Y)(hr:y s<=1000000000000)(hb:al<z (G F))(B:∀av ad,(ic s)[av]?=H ad->aS F (R al<|g+av)=H ad):cw bF 63 #[bC al g (y s) T,J p,J n,am a] F λan w'=>∃v',an=aO v'/\oQ w' (z<|G F) v' (mJ s p n a)/\Below (z<|G F) F w':=by
 obtain⟨Q,u,w,x,A⟩:=cz EK;have HC:=U B;clear B;go_in
 go_wp2;go_loopw [9,10] (λb i wr=>∃o:M,o<=y s/\i=am o/\oQ wr (z<|G F) b (mJ (s.take o) p n a)/\Below (z<|G F) F wr) (λ_ i _=>y s-(intOf i).toNat)
 case atStart=>exact⟨0,bw _,rfl,bJ _ _ _ _,Below.refl _ _⟩
 case round=>
  obtain⟨o,L,rfl,f,d⟩:=hrel;have v:z (G F)<=z (G wr):=d.size;by_cases N:o<y s
  .have V:=nN s o N;have W:aS wr (R al<|g+o*2)=H (J s[o].1):=(d.cell<|by exact hb).trans<|HC _ _ V.1;have ac:aS wr (R al<|g+o*2+1)=H (J s[o].2):=(d.cell<|by exact hb).trans (by rw[aV];exact HC _ _ V.2);clear V;have ao:y (mJ (s.take o) p n a)<=o:=by have:=my (s.take o) p n a;simp at this;omega
   have S:=U<|SE s p n a o N;have ho:∃ax au,u9=I ax (y<|mJ (s.take o) p n a) au:=by
    rcases f.2 with⟨an,c⟩|⟨q,k,b,an,_⟩
    .exact⟨none,0,by rw[an,c]⟩
    .exact⟨_,_,an⟩
   generalize mJ (s.take o) p n a=e at*;generalize s[o]=ba at*;obtain⟨i,l⟩:=ba;simp only at W ac;have m:=U f;have r:=U d;clear f d;obtain⟨ax,au,rfl⟩:=ho;have no:∀(L:rD p n a (y e) (i,l)=bE),mJ (s.take<|o+1) p n a=e:=λL=>S.trans<|XI L;have O:∀(L:rD p n a (y e) (i,l)=bU),mJ (s.take<|o+1) p n a=e++[(i,l)]:=λL=>S.trans<|WG L;have P:=U no;have t:=U O;clear no O S;cases hA:Op.bytesLess i.toList p.toList with
   |true=>
    have j:=U (ae P<|by simp[rD,EN, *]);go_wp2;go_roundw;case rel=>exact⟨o+1,by omega,by go_num,by rw[ae j];exact m,r⟩
    case measure=>simp[intOf];omega
   |false=>
    cases hH:(n.toList==[])with
    |true=>
     by_cases K:a<=0
     .have D:decide (a<=0)=bU:=by simp[K]
      have j:=U (ae t<|by simp[rD,EN, *]);go_wp2_with(first
       |(at_builtin;refine bQ _ rfl (.tmp 47) (.tmp 52) 38 rfl (z (G F)) 69 Q (.agg #[.string ⟨#[]⟩,.string ⟨#[]⟩]) 2 32 underlying38 u w x A rfl (by decide) _ _ _ rfl (jc (aR m (.cells #[.string i,.string l] 69)) ?chQ1) (R (z (G wr)) 0) 1 1 [.string i,.string l] rfl rfl ?c1Q1 ?c2Q1 ?c3Q1 ?c4Q1 ?c5Q1 ?_))
      case chQ1=>rfl
      try(case c1Q1=>exact lP _ _ _ _)
      case c2Q1=>first|exact⟨rfl,rfl⟩|(intro ad q;simp at q;rcases q with rfl|rfl<;>rfl)
      case c3Q1=>first|omega|(simp;omega)
      case c4Q1=>first|omega|(simp;omega)
      case c5Q1=>first|omega|(simp;omega)
      intro o2 w2 b c;have k:=U b;have C:=U c;clear b c;go_wp2;go_roundw;case rel=>exact⟨o+1,by omega,by go_num,by rw[ae j];exact oQ.of k (by simp) (by simp[iS];rfl),kp r v C (aq #[J i,J l] 69) rfl<|λf d=>(aF m f d).1⟩
      case measure=>simp[intOf];omega
     .have D:decide (a<=0)=bE:=by simp[K]
      by_cases B:(y e:X)<a
      .have E:decide ((y e:X)<a)=bU:=by simp[B]
       have j:=U (ae t<|by simp[rD,EN, *]);go_wp2_with(first
        |(at_builtin;refine bQ _ rfl (.tmp 47) (.tmp 52) 38 rfl (z (G F)) 69 Q (.agg #[.string ⟨#[]⟩,.string ⟨#[]⟩]) 2 32 underlying38 u w x A rfl (by decide) _ _ _ rfl (jc (aR m (.cells #[.string i,.string l] 69)) ?chQ2) (R (z (G wr)) 0) 1 1 [.string i,.string l] rfl rfl ?c1Q2 ?c2Q2 ?c3Q2 ?c4Q2 ?c5Q2 ?_))
       case chQ2=>rfl
       try(case c1Q2=>exact lP _ _ _ _)
       case c2Q2=>first|exact⟨rfl,rfl⟩|(intro ad q;simp at q;rcases q with rfl|rfl<;>rfl)
       case c3Q2=>first|omega|(simp;omega)
       case c4Q2=>first|omega|(simp;omega)
       case c5Q2=>first|omega|(simp;omega)
       intro o2 w2 b c;have k:=U b;have C:=U c;clear b c;go_wp2;go_roundw;case rel=>exact⟨o+1,by omega,by go_num,by rw[ae j];exact oQ.of k (by simp) (by simp[iS];rfl),kp r v C (aq #[J i,J l] 69) rfl<|λf d=>(aF m f d).1⟩
       case measure=>simp[intOf];omega
      .have E:decide ((y e:X)<a)=bE:=by simp[B]
       have j:=U (ae P<|by simp[rD,EN, *]);go_wp2;go_roundw;case rel=>exact⟨o+1,by omega,by go_num,by rw[ae j];exact m,r⟩
       case measure=>simp[intOf];omega
    |false=>
     cases hT:Op.bytesLess i.toList n.toList with
     |true=>
      by_cases K:a<=0
      .have D:decide (a<=0)=bU:=by simp[K]
       have j:=U (ae t<|by simp[rD,EN, *]);go_wp2_with(first
        |(at_builtin;refine bQ _ rfl (.tmp 47) (.tmp 52) 38 rfl (z (G F)) 69 Q (.agg #[.string ⟨#[]⟩,.string ⟨#[]⟩]) 2 32 underlying38 u w x A rfl (by decide) _ _ _ rfl (jc (aR m (.cells #[.string i,.string l] 69)) ?chQ3) (R (z (G wr)) 0) 1 1 [.string i,.string l] rfl rfl ?c1Q3 ?c2Q3 ?c3Q3 ?c4Q3 ?c5Q3 ?_))
       case chQ3=>rfl
       try(case c1Q3=>exact lP _ _ _ _)
       case c2Q3=>first|exact⟨rfl,rfl⟩|(intro ad q;simp at q;rcases q with rfl|rfl<;>rfl)
       case c3Q3=>first|omega|(simp;omega)
       case c4Q3=>first|omega|(simp;omega)
       case c5Q3=>first|omega|(simp;omega)
       intro o2 w2 b c;have k:=U b;have C:=U c;clear b c;go_wp2;go_roundw;case rel=>exact⟨o+1,by omega,by go_num,by rw[ae j];exact oQ.of k (by simp) (by simp[iS];rfl),kp r v C (aq #[J i,J l] 69) rfl<|λf d=>(aF m f d).1⟩
       case measure=>simp[intOf];omega
      .have D:decide (a<=0)=bE:=by simp[K]
       by_cases B:(y e:X)<a
       .have E:decide ((y e:X)<a)=bU:=by simp[B]
        have j:=U (ae t<|by simp[rD,EN, *]);go_wp2_with(first
         |(at_builtin;refine bQ _ rfl (.tmp 47) (.tmp 52) 38 rfl (z (G F)) 69 Q (.agg #[.string ⟨#[]⟩,.string ⟨#[]⟩]) 2 32 underlying38 u w x A rfl (by decide) _ _ _ rfl (jc (aR m (.cells #[.string i,.string l] 69)) ?chQ4) (R (z (G wr)) 0) 1 1 [.string i,.string l] rfl rfl ?c1Q4 ?c2Q4 ?c3Q4 ?c4Q4 ?c5Q4 ?_))
        case chQ4=>rfl
        try(case c1Q4=>exact lP _ _ _ _)
        case c2Q4=>first|exact⟨rfl,rfl⟩|(intro ad q;simp at q;rcases q with rfl|rfl<;>rfl)
        case c3Q4=>first|omega|(simp;omega)
        case c4Q4=>first|omega|(simp;omega)
        case c5Q4=>first|omega|(simp;omega)
        intro o2 w2 b c;have k:=U b;have C:=U c;clear b c;go_wp2;go_roundw;case rel=>exact⟨o+1,by omega,by go_num,by rw[ae j];exact oQ.of k (by simp) (by simp[iS];rfl),kp r v C (aq #[J i,J l] 69) rfl<|λf d=>(aF m f d).1⟩
        case measure=>simp[intOf];omega
       .have E:decide ((y e:X)<a)=bE:=by simp[B]
        have j:=U (ae P<|by simp[rD,EN, *]);go_wp2;go_roundw;case rel=>exact⟨o+1,by omega,by go_num,by rw[ae j];exact m,r⟩
        case measure=>simp[intOf];omega
     |false=>
      have j:=U (ae P<|by simp[rD,EN, *]);go_wp2;go_roundw;case rel=>exact⟨o+1,by omega,by go_num,by rw[ae j];exact m,r⟩
      case measure=>simp[intOf];omega
  .have b:s.take o=s:=cS (by omega);rw[b]at f;have m:=U f;have r:=U d;clear f d;go_wp2;go_ret;exact⟨_,rfl,m,r⟩
def Ml(c b:ab)(a:X)(w:Y):cw bF 63 #[aK,.string c,.string b,.int .i64 a] w λf e=>∃d,f=.returned d/\oQ e (z<|G w) d (mJ [] c b a)/\Below (z<|G w) w e:=by
 go_in
 go_wp2;go_loop [9,10] (λo i=>i=.int .i64 0/\o=aK) (λ_ _=>0)
 case atStart=>exact⟨rfl,rfl⟩
 (case round=>obtain⟨rfl,rfl⟩:=hrel;go_wp2;go_ret;exact⟨_,rfl,bJ _ _ _ _,Below.refl _ _⟩)
def CG(f e:ab)(b:X)(n:jk a d K)(m:∀q,bV d=H q->q<z (G a))(o:y K<=1000000000000):cw bF 63 #[d,.string f,.string e,.int .i64 b] a λr i=>∃h,r=.returned h/\oQ i (z<|G a) h (mJ K f e b)/\Below (z<|G a) a i:=by
 obtain⟨s,⟨rfl,j⟩|⟨p,c,g,rfl,l,k⟩⟩:=n;obtain rfl:K=[]:=aP j;exact Ml f e b a;exact Jt K p c g f e b a o (m p rfl) k
def Row.shape(j:Row a b d c x):d=aK\/∃g e f,d=bC g e c f:=by
 rcases j.2 with⟨h,_⟩|⟨g,e,f,h,_⟩;exact .inl h;exact .inr ⟨g,e,f,h⟩
def Mm(h:Below (z<|G a) a f)(b:Option M):a.grownBy f b:=⟨h.os,h.tape,h.output,h.size,λk c _=>h.block k c⟩
def Row.grown{g:Option M}(k:Row a b d c x)(p:a.grownBy f g)(j:bV d≠g\/bV d=none):Row f b d c x:=by
 obtain⟨m,n⟩:=k;refine⟨m,?_⟩;rcases n with⟨rfl,l⟩|⟨r,e,h,rfl,i,o⟩;exact .inl ⟨rfl,l⟩;refine .inr ⟨r,e,h,rfl,i,λs u q=>p.cell (o s u q) ?_⟩;rcases j with k|k;exact k;simp[bV]at k
def sf(l:iB)(k:ab):ab×Bool×X:=if k.size=0\/8<k.size then(⟨#[]⟩,bE,3)else((qf l k).1,(qf l k).2,0)
def Py(k:ab)(e:jk a d K)(l:y K<=1000000000000)(j:k.size<=140737488351232):cw bF 61 #[d,.string k] a λn m=>n=.returned (.tuple #[.string (sf K k).1,.bool (sf K k).2.1,.int .i64 (sf K k).2.2])/\m=a:=by
 have f:=U e;clear e;by_cases c:k.size=0;(.have b:=U (show sf K k=(⟨#[]⟩,bE,3)by unfold sf;rw[dw<|.inl c]);(have i:((k.size:X)==0)=bU:=by rw[c];rfl);(go_in);go_wp2;(go_ret3);exact⟨by rw[ae b];rfl,rfl⟩)
 .have i:((k.size:X)==0)=bE:=kK.2 (by omega);by_cases g:8<k.size
  .have b:=U (show sf K k=(⟨#[]⟩,bE,3)by unfold sf;rw[dw<|.inr g]);go_in
   go_wp2;go_ret3
   exact⟨by rw[ae b];rfl,rfl⟩
  .have b:=U (show sf K k=((qf K k).1,(qf K k).2,0)by unfold sf;rw[cY<|by omega]);go_in
   go_wp2_with(first
    |(go_at_call 105;refine(Ug k f l).mono ?_;rintro n o⟨rfl,rfl⟩))
   go_ret3
   exact⟨by rw[ae b];rfl,rfl⟩
structure mj(w:Y)(rb:M)(pb:Option M)(l:iB)(closed:Bool)(sv:aa):Prop where
 iH:∃v,w.heap[rb]?=H (.cells #[v,sv,.bool closed] 46 (0,0))/\jk w v l/\bV v=pb
 ne:pb≠H rb
 lt:∀g,pb=H g->g<z (G w)
def Nu(o:Option M)(k:ab)(h:mj a b o K D d)(n:y K<=1000000000000)(e:k.size<=140737488351232):cw bF 31 #[aw b,.string k] a λq p=>
 q=.returned (if D then .tuple #[.string ⟨#[]⟩,.bool bE,.int .i64 6]else .tuple #[.string (sf K k).1,.bool (sf K k).2.1,.int .i64 (sf K k).2.2])/\p=a:=by
 obtain⟨⟨v,c,i,_⟩,_,_⟩:=h
 have l:=cellAt c 0 rfl
 have m:=cellAt c 2 rfl
 have g:=U i
 clear c i
 cases D with
 |true=>
  go_in
  go_wp2;go_ret3
  exact⟨rfl,rfl⟩
 |false=>
  rcases g.shape with rfl|⟨s,f,j,rfl⟩;all_goals
   go_in
   go_wp2_with(first
    |(go_at_call 61;refine(Py k g n e).mono ?_;rintro q r⟨rfl,rfl⟩))
   go_ret3
   exact⟨rfl,rfl⟩
def tS(x:Option M)(k j:ab)(c:X)(h:mj a b x K D d)(w:y K<=1000000000000):cw bF 33 #[aw b,.string k,.string j,.int .i64 c] a λA p=>
 ∃e,A=.returned (.tuple #[e,.int .i64<|if D then 6 else 0])/\oQ p (z<|G a) e (if D then []else mJ K k j c)/\Below (z<|G a) a p:=by
 obtain⟨⟨B,i,n,o⟩,_,f⟩:=h
 have u:=cellAt i 0 rfl
 have v:=cellAt i 2 rfl
 have m:=U n
 have s:=U (show∀g,bV B=H g->g<z (G a)fromλg c=>f g<|o▸c)
 clear i n o f
 cases D with
 |true=>
  go_in
  go_wp2;go_ret2
  exact⟨_,rfl,bJ _ _ _ _,Below.refl _ _⟩
 |false=>
  rcases m.shape with rfl|⟨F,l,t,rfl⟩;all_goals
   go_in
   go_wp2_with(first
    |(go_at_call 63;refine(CG k j c m s w).mono ?_;rintro A E⟨C,rfl,g,e⟩;have q:=U g;have r:=U e;clear g e))
   go_ret2
   exact⟨_,rfl,q,r⟩
def zZ(m:Option M)(h:mj a b m K D d):cw bF 24 #[aw b] a λp n=>
 p=.returned (.int .i64<|if D then 6 else 0)/\mj n b m K bU d/\a.grownBy n (H b):=by
 obtain⟨⟨v,f,k,g⟩,c,e⟩:=h
 have q:=cellAt f 2 rfl
 have r:=dJ (i:=2) f
 cases D with
 |true=>
  have l:=U<|mj.mk ⟨v,f,k,g⟩ c e;clear f k g c e;go_in
  go_wp2;go_ret;exact⟨rfl,l,td _ _⟩
 |false=>
  have j:=cW a b 2<|.bool bU;have l:=U<|show mj (bZ a (R b 2)<|.bool bU) b m K bU d from⟨⟨v,by rw[aQ f];rfl,Row.grown k j<|.inl (by rw[g];exact c),g⟩,c,λn p=>ag (e n p) j.size⟩;have o:=U j;clear f k g c e j;go_in
  go_wp2;go_ret;exact⟨rfl,l,o⟩
structure Z(S:fI)(w w':Y):Prop where
 os:w'.os=w.os
 tape:w'.tape=w.tape
 output:w'.output=w.output
 size:z (G w)<=z (G w')
 block:∀k,k<z (G w)->¬S k->w'.heap[k]?=w.heap[k]?
def Z.refl(S:fI)(w:Y):Z S w w:=⟨rfl,rfl,rfl,ah _,λ_ _ _=>rfl⟩
def Z.trans{S T:fI}{e b l:Y}(h:Z S e b)(k:Z T b l)(g:∀x,T x->S x\/z (G e)<=x):Z S e l:=⟨k.os.trans h.os,k.tape.trans h.tape,k.output.trans h.output,aD h.size k.size,λj c d=>(k.block j (ag c h.size) (λi=>by
 rcases g j i with a|a
 .exact d a
 .omega)).trans (h.block j c d)⟩
def Z.ci{S:fI}{c:Y}(h:Z S a C)(k:Z az C c):Z S a c:=h.trans k cG
def Z.mono{S T:fI}(h:Z S a C)(c:∀x,S x->T x\/z (G a)<=x):Z T a C:=⟨h.os,h.tape,h.output,h.size,λi d e=>h.block i d (λg=>by
 rcases c i g with b|b
 .exact e b
 .omega)⟩
def Z.dM{S:fI}{b:Option M}(h:a.grownBy C b)(g:∀k,b=H k->S k\/z (G a)<=k):Z S a C:=⟨h.os,h.tape,h.output,h.size,λi d e=>h.block i d (λj=>by
 rcases g i j.symm with c|c
 .exact e c
 .omega)⟩
def Z.aT{S:fI}(h:Below (z<|G a) a C):Z S a C:=⟨h.os,h.tape,h.output,h.size,λi b _=>h.block i b⟩
def Z.below{B:M}(h:Z W a f)(b:B<=z (G a))(c:∀k,W k->B<=k):Below B a f:=⟨h.os,h.tape,h.output,h.size,λk d=>h.block k (ag d b) (λe=>by have:=c k e;omega)⟩
def Z.cell(h:Z W a C){k i:M}(b:aS a (R k i)=H d)(e:¬W k)(c:k<z (G a)):aS C (R k i)=H d:=(cH (w:=a)<|h.block k c e).trans b
def Z.alloc{S:fI}{a b:Y}(h:Z S a b)(o:Obj):Z S a (b.alloc o):=h.trans (Z.dM (S:=az) (dt b o none)<|by simp)<|by simp
def fi(h:a.grownBy C (H b)):Z (λk=>k=b) a C:=Z.dM h (by rintro k⟨⟩;exact .inl rfl)
def Z.setCell(h:Z W a f)(k i:M)(u:aa)(b:W k\/z (G a)<=k):Z W a (f.setCell (R k i) u):=h.trans (Z.dM (S:=λx=>x=k) (cW f k i u) (by rintro _⟨⟩;exact .inl rfl)) (by rintro x rfl;exact b)
def Z.own(v:Z W a C)(s:a.ownsRow b c g d l x)(r:∀u,bV d=H u->¬W u):C.ownsRow b c g d l x:=by
 obtain⟨n,o⟩:=s;refine⟨n,?_⟩;rcases o with⟨rfl,m⟩|⟨k,e,h,rfl,p,j,t⟩;exact .inl ⟨rfl,m⟩;exact .inr ⟨k,e,h,rfl,p,(v.block k (aj j)<|r k rfl).trans j,t⟩
def Z.row(s:Z W a f)(q:Row a b d c x)(k:∀r,bV d=H r->¬W r/\r<z (G a)):Row f b d c x:=by
 obtain⟨n,o⟩:=q;refine⟨n,?_⟩;rcases o with⟨rfl,m⟩|⟨l,e,g,rfl,h,p⟩;exact .inl ⟨rfl,m⟩;exact .inr ⟨l,e,g,rfl,h,λj u m=>s.cell (p j u m) (k l rfl).1 (k l rfl).2⟩
def aB(j:a.ownsRow b c g d l x):∃k i,d=.slice k l i:=by
 rcases j.2 with⟨rfl,rfl⟩|⟨m,e,h,rfl,_⟩;exact⟨none,0,rfl⟩;exact⟨_,_,rfl⟩
def bL(h:Row a b d c x):∃i g,d=.slice i c g:=by
 rcases h.2 with⟨rfl,rfl⟩|⟨j,e,f,rfl,_⟩;exact⟨none,0,rfl⟩;exact⟨_,_,rfl⟩
def fD(j:a.ownsRow b c g d l x){k:M}(f:bV d=H k):∃e,a.heap[k]?=H (.cells e c (0,0)):=by
 rcases j.2 with⟨rfl,_⟩|⟨m,h,e,rfl,_,i,_⟩;cases f;cases f;exact⟨e,i⟩
def zn(m:a.ownsRow b c g d l x){j:M×M}(k:a.heap[B]?=H (.cells V P j))(e:P≠c):bV d≠H B:=by
 intro i;obtain⟨h,f⟩:=fD m i;rw[k]at f;cases f;exact e rfl
def ni(n:X)(w:Y):cw bF 17 #[am n] w λe a=>e=aO (am n)/\a=w:=by
 go_in
 go_wp2;go_ret;exact⟨rfl,rfl⟩
def vi(w:Y)(a b:M):(w.drewN a).drewN b=w.drewN (a+b):=by simp[World.drewN,aV]
def Qe{m:iB}(a:b<y K)(c:b<y m)(h:K.take b=m.take b)(e:K[b]=m[b]):K.take (b+1)=m.take (b+1):=by
 rw[ai a,ai c,h,e]
def mS{l m:iB}(hx:jk a d l)(D:jk a s m)(hl:y l<=1000000000000)(hm:y m<=1000000000000):cw bF 9 #[d,s] a λu w'=>u=aO (aL<|decide<|l=m)/\∃A,w'=a.drewN A:=by
 by_cases b:y l=y m;(.obtain⟨F,⟨rfl,C⟩|⟨ad,c,E,rfl,al,L⟩⟩:=hx;(.obtain rfl:l=[]:=aP C;obtain rfl:m=[]:=aP (by simpa using b.symm);have f:=D.shape;clear D;rcases f with rfl|⟨B,e,g,rfl⟩;(all_goals(go_in);go_wp2;(go_loopw [5] (λW wr=>W=am 0/\∃A,wr=a.drewN A) (λ_ _=>0));(case atStart=>exact⟨rfl,0,rfl⟩);(case round=>obtain⟨rfl,A,rfl⟩:=hrel;go_wp2;go_ret;exact⟨rfl,A,rfl⟩)));(.obtain⟨K,⟨rfl,C⟩|⟨B,e,g,rfl,ac,v⟩⟩:=D;(.obtain rfl:m=[]:=aP C;obtain rfl:l=[]:=aP (by simpa using b);clear L;(go_in);go_wp2;(go_loopw [5] (λW wr=>W=am 0/\∃A,wr=a.drewN A) (λ_ _=>0));(case atStart=>exact⟨rfl,0,rfl⟩);(case round=>obtain⟨rfl,A,rfl⟩:=hrel;go_wp2;go_ret;exact⟨rfl,A,rfl⟩));(.have HC:=U L;have t:=U v;(have p:((y l:X)!=(y m:X))=bE:=by simp[b]);have f:=U b;clear L v F K b;(go_in);go_wp2;(go_loopw [5] (λW wr=>∃n:M,n<=y l/\W=am n/\l.take n=m.take n/\∃A,wr=a.drewN A) (λW _=>y l-(intOf W).toNat));(case atStart=>exact⟨0,bw _,rfl,rfl,0,rfl⟩);(case round=>obtain⟨n,hn,rfl,ht,kk,rfl⟩:=hrel;have HT:=U ht;clear ht;by_cases w:n<y l;(·(have i:n<y m:=by have:=ae f;omega);have N:=nN l n w;have k:=nN m n i;have P:aS a (R ad<|c+n*2)=H (J l[n].1):=HC _ _ N.1;(have Q:aS a (R ad<|c+n*2+1)=H (J l[n].2):=by rw[aV];exact HC _ _ N.2);have S:aS a (R B<|e+n*2)=H (J m[n].1):=t _ _ k.1;(have T:aS a (R B<|e+n*2+1)=H (J m[n].2):=by rw[aV];exact t _ _ k.2);clear N k;(have x:l[n]≠m[n]->decide (l=m)=bE:=λh=>by simp;intro u;subst u;exact h rfl);have HN:=U x;have HY:=U<|λu=>Qe w i HT u;clear x;generalize l[n]=an at*;generalize m[n]=q at*;obtain⟨pk,pv⟩:=an;obtain⟨qk,qv⟩:=q;simp only at P Q S T;by_cases o:pk=qk;(·(have O:(!pk.toList==qk.toList)=bE:=by rw[o];simp);by_cases r:pv=qv;(·(have V:(pv.toList==qv.toList)=bU:=by rw[r];simp);have j:=U (HY<|by rw[o,r]);clear o r;(go_wp2_with fail);(go_quiet(fail));go_wp2;go_roundw;(case rel=>exact⟨n+1,by omega,by go_num,j,by first|exact⟨_,rfl⟩|exact⟨_,vi _ _ _⟩⟩);case measure=>simp[intOf];omega);have V:(pv.toList==qv.toList)=bE:=zr r;have j:=U<|HN (by intro u;exact r (Prod.mk.inj u).2);clear o r;(go_wp2_with fail);(go_quiet(fail));go_wp2;go_ret;exact⟨by rw[ae j];rfl,by first|exact⟨_,rfl⟩|exact⟨_,vi _ _ _⟩⟩);(have O:(!pk.toList==qk.toList)=bU:=by rw[zr o];rfl);have j:=U<|HN (by intro u;exact o (Prod.mk.inj u).1);clear o;(go_wp2_with fail);(go_quiet(fail));go_wp2;go_ret;exact⟨by rw[ae j];rfl,by first|exact⟨_,rfl⟩|exact⟨_,vi _ _ _⟩⟩);have j:=U (show decide (l=m)=bU by have F:l.take n=l:=cS (by omega);have i:m.take n=m:=cS (by have:=ae f;omega);have:=ae HT;rw[F,i]at this;simpa using this);go_wp2;go_ret;exact⟨by rw[ae j];rfl,by first|exact⟨_,rfl⟩|exact⟨_,vi _ _ _⟩⟩))));(have f:decide (l=m)=bE:=by simp;intro u;exact b<|by rw[u]);rw[f];clear f;obtain⟨_,⟨rfl,C⟩|⟨ad,c,E,rfl,_,_⟩⟩:=hx<;>obtain⟨_,⟨rfl,i⟩|⟨B,e,g,rfl,_,_⟩⟩:=D;omega;(·(have p:((0:X)!=(y m:X))=bU:=by rw[bne_iff_ne];omega);(go_in);go_wp2;go_ret;exact⟨rfl,0,rfl⟩);(·(have p:((y l:X)!=(0:X))=bU:=by rw[bne_iff_ne];omega);(go_in);go_wp2;go_ret;exact⟨rfl,0,rfl⟩);(have p:((y l:X)!=(y m:X))=bU:=by rw[bne_iff_ne];omega);(go_in);go_wp2;go_ret;exact⟨rfl,0,rfl⟩
def GA(a k:X)(d:0<k)(e:k<=100):0<=wrap64 ((IntKind.u64.wrap a).tmod k)/\wrap64 ((IntKind.u64.wrap a).tmod k)<k:=by
 rw[gX,Int.tmod_eq_emod_of_nonneg<|Int.emod_nonneg _<|by decide];have b:=Int.emod_nonneg (a%18446744073709551616) (show k≠0 by omega);have c:=Int.emod_lt_of_pos (a%18446744073709551616) d;generalize a%18446744073709551616%k=x at*;have f:wrap64 x=x:=by unfold wrap64;omega
 rw[f];exact⟨b,c⟩
def rZ(a k:X):X:=wrap64<|(IntKind.u64.wrap a).tmod k
def Pn(b c:X)(w:Y):cw bF 26 #[am b,am c] w λe a=>e=aO (dA #[am<|rZ b 34,am<|rZ c 8])/\a=w:=by
 go_in
 go_wp2;go_ret2
 exact⟨rfl,rfl⟩
theorem cX:(∀(l:iV)(i:M)(x:aa),l.toArray.setIfInBounds i x=(l.set i x).toArray)/\(∀(x b:aa)(l:iV),(x::l).set 0 b=b::l)/\∀(x b:aa)(l:iV)(n:M),(x::l).set (n+1) b=x::l.set n b:=⟨λ_ _ _=>by simp,λ_ _ _=>rfl,λ_ _ _ _=>rfl⟩
theorem gB:(∀(l:iV)(i:M)(h:i<l.toArray.size),l.toArray[i]=l[i]'(by simpa using h))/\(∀(x:aa)(l:iV)(i:M)(h:i+1<y (x::l)),(x::l)[i+1]=l[i]'(by simpa using h))/\∀(x:aa)(l:iV)(h:0<y (x::l)),(x::l)[0]=x:=⟨λ_ _ _=>rfl,λ_ _ _ _=>rfl,λ_ _ _=>rfl⟩
section
variable{P:Program}{a:Array Oper}{Q:Exit->Act->Y->Prop}{md:Region.Mode}{S:Y->Prop}
def kR(P:Program)(md:Region.Mode)(a:Array Oper)(Q:Exit->Act->Y->Prop)(S:Y->Prop)(m:M):M->Array Bool->Act->Y->Prop
 |0,b,d,w=>Region.ready md a b=[]/\Q .normal d w
 |fuel+1,b,d,w=>
  (Region.ready md a b=[]->Q .normal d w)/\∀i∈Region.ready md a b,wpOp P a Q i (λe c=>(i≠m->S c)/\kR P md a Q S m fuel (b.setIfInBounds i bU) e c) d w
theorem ou{m:M}:∀(b:M)(c:Array Bool)(i:Act)(w:Y),kR P md a Q S m b c i w->wpAny P md a Q b c i w
 |0,_,_,_,h=>h
 |b+1,_,_,_,h=>⟨h.1,λj f=>uA (λd g e=>ou b _ d g e.2)<|h.2 j f⟩
theorem Ib{r ac:M}{p om:Oper}{al:aa}(K:a[r]?=H p)(hm:a[ac]?=H om)(N:∃m∈om.after,Region.binds md m=bU/\m.on=r)(k:∀(l:M)(ao:Oper)s W,a[l]?=H ao->ao.op≠ .select s W)(hQ:∀an D E,Q (.panic an) (D.put p.dst al) E->Q (.panic an) D E):∀(c:M)(b:Array Bool)(D:Act)(E:Y),(∀l q,a[l]?=H q->l≠r->b.getD l bU=bE->(∀m∈q.after,Region.binds md m=bU->m.on≠r)->p.apart a q=bU)->r∈Region.ready md a b->YieldsIf P a S p al D->S E->kR P md a Q S ac c (b.setIfInBounds r bU) (D.put p.dst al) E->kR P md a Q S ac (c+1) b D E:=by
 intro c;induction c with
 |zero=>
  intro b D E _ o C t e;refine⟨λad=>(by rw[ad]at o;cases o),λl B=>?_⟩;by_cases d:l=r
  .subst d;exact C.wpOp K t ⟨λ_=>t,e⟩
  .have:=sy B d;rw[e.1]at this;cases this
 |succ c ih=>
  intro b D E f o C t e;refine⟨λad=>(by rw[ad]at o;cases o),λl B=>?_⟩;by_cases d:l=r
  .subst d;exact C.wpOp K t ⟨λ_=>t,e⟩
  .have n:=e.2 l<|sy B d;obtain⟨i,q,g,u⟩:=xX.1 B;have j:∀m∈q.after,Region.binds md m=bU->m.on≠r:=λm O F x=>by
    have n:=u m O F;have L:=(xX.1 o).1;rw[x]at n;rcases dE r b.size with v|v
    .simp[v]at L n;rw[L]at n;cases n
    .simp[eF v]at n
   have h2:=wpOp_putIf g (f l q g d i j) (λs W=>k r p s W K) (λs W=>k l q s W g) hQ C n;have h:∀V ok,a[V]?=H ok->V≠r->(b.setIfInBounds l bU).getD V bU=bE->(∀m∈ok.after,Region.binds md m=bU->m.on≠r)->p.apart a ok=bU:=λV ok hk L x O=>by
    refine f V ok hk L ?_ O;by_cases v:l=V
    .subst v;exact i
    .rw[getD_set_ne bU v]at x;exact x
   have T:=sy o<|Ne.symm d;have w:l≠ac:=λm=>by
    subst m;obtain⟨L,x,F,v⟩:=N;rw[hm]at g;cases g;exact j L x F v
   refine uA (λa' w' A=>⟨λ_=>A.2.1 w,ih (b.setIfInBounds l bU) a' w' h T A.1 (A.2.1 w) ?_⟩) h2;rw[uh _ _ d];exact A.2.2
theorem lJ{i t:M}{d k:Oper}{v:aa}{c:M}{b:Array Bool}{e:Act}{w:Y}(j:a[i]?=H d)(p:a[t]?=H k)(g:(k.after.any λx=>Region.binds md x&&x.on==i)=bU)(r:Region.noSelect a=bU)(n:Region.free md a b i=bU)(q:(Region.ready md a b).contains i=bU)(l:∀u e w,Q (.panic u) (e.put d.dst v) w->Q (.panic u) e w)(s:YieldsIf P a S d v e)(m:S w)(A:kR P md a Q S t c (b.setIfInBounds i bU) (e.put d.dst v) w):kR P md a Q S t (c+1) b e w:=Ib j p (by
 obtain⟨B,o,h⟩:=Array.any_eq_true.1 g;simp only[jT,beq_iff_eq]at h;exact⟨_,tL o,h.1,h.2⟩) (Region.noSelect_spec r) l c b e w (Region.free_spec j n) (by simpa using q) s m A
theorem aJ{i n:M}{o:Oper}{c:M}{b:Array Bool}{j:Act}{w:Y}(l:a[i]?=H o)(k:o.guard=none)(h:Region.ready md a b=[i])(p:∀K:Act->Y->Prop,(∀d w',(i≠n->S w')->kR P md a Q S n c (b.setIfInBounds i bU) d w'->K d w')->Oper.wp P o j w K Q):kR P md a Q S n (c+1) b j w:=by
 refine⟨λe=>(by rw[h]at e;cases e),λq g=>?_⟩;rw[h]at g;obtain rfl:q=i:=by simpa using g
 unfold wpOp;simp only[l];have m:Region.wanted o (yielded a j.tmps)=bU:=by simp[Region.wanted,k]
 rw[dw m];exact .inl<|p _<|λd w' e g=>⟨e,g⟩
theorem cO{m:M}{b:Array Bool}{e:Act}{w:Y}(d:Region.ready md a b=[])(h:Q .normal e w):∀c,kR P md a Q S m c b e w
 |0=>⟨d,h⟩
 |_+1=>⟨λ_=>h,by rw[d];simp⟩
theorem cg(S:Y->Prop)(m:M){id:M}{c:Act}{w:Y}(b:P.follows .mixedOrders=bU)(h:kR P .any a Q S m a.size (Array.replicate a.size bE) c w.drew):(Code.region id a bU).wp P Q c w:=yJ b<|ou _ _ _ _ h
end
def zR{P:Program}{k:Array Oper}{s:Oper}{u:Act}{ac:Act->Y->Prop}{au:Exit->Act->Y->Prop}{E:Prop}(Q:s.guard=none)(an ao:Operand)(B:TypeId)(p:s.op=Op.call {callee:=Callee.builtin Builtin.append,args:=#[an,ao],argTypes:=#[B,B]})(b:M)(w:TypeId)(x:TypeInfo)(i:aa)(c bytes:M)(ht:P.underlying B=H (.slice w))(S:P.info? w=H x)(hz:x.zero=H i)(h:x.size=c)(o:x.bytes=bytes)(r:i.cells.size=c)(q:0<c)(D:aa)(A:M)(t:iV)(W:u.eval an=D)(j:a.ownsRow b w c D A t)(n:Addr)(v ad:M)(d:iV)(hx:u.eval ao=I (H n) v ad)(T:y d=v*c)(g:∀al C,d[al]?=H C->aS a (n.add al)=H C)(F:∀C∈d,C.oneCell'=bU)(hn:A+v<=140737488355328)(e:(A+v)*bytes<=140737488355328)(f:b<=z (G a))(O:∀l m,m.ownsRow b w c l (A+v) (t++d)->eR a m D l->ac (u.put s.dst l) m):if Region.wanted s (yielded k u.tmps)=bU then Oper.wp P s u a ac au else E:=by
 have hw:Region.wanted s (yielded k u.tmps)=bU:=by simp[Region.wanted,Q]
 rw[dw hw];obtain⟨l,m,V,K,L,_,N⟩:=mY (P:=P) a b B s.type w x i c bytes ht S hz h o r q D A t j n v ad d T g F (by unfold maxLen;omega) e f;unfold Oper.wp;simp[execOp,p,resolve,invoke,builtin,W,hx,V,Result.andThen];exact O l m K<|eR.of L N
def Og:(prog.info? 113).map (λi=>(i.zero,i.size,i.bytes))=H (H<|eD #[J ⟨#[]⟩,J ⟨#[]⟩,aL bE],3,40):=by kernel_rfl
def My(w:Y)(a:M)(o:aa)(l:uz):Prop:=w.ownsRow a 113 3 o (y l)<|eQ l
def OR(w:Y)(x a b:aa)(t:TypeId):∀j u,[x,a,b][j]?=H u->aS (ct w<|aq #[x,a,b] t) (((R (z<|G w) 0):Addr).add j)=H u:=by
 intro j u c;rw[du];unfold World.cell?;rw[fw];simpa using c
def JW(l:uz)(B b q:M)(w:Y)(hr:y l<=1000000000000)(r:B<z (G w))(C:∀S T,(eQ l)[S]?=H T->aS w (R B<|b+S)=H T):cw bF 14 #[bC B b (y l) q] w λW E=>∃D,W=aO D/\My E (z<|G w) D l/\Below (z<|G w) w E:=by
 obtain⟨Q,s,v,x,A⟩:=cz Og;have m:=U C;clear C;go_in
 go_wp2;go_loopw [3,4] (λo i wr=>∃n:M,n<=y l/\i=am n/\My wr (z<|G w) o (l.take n)/\Below (z<|G w) w wr) (λ_ i _=>y l-(intOf i).toNat)
 case atStart=>exact⟨0,bw _,rfl,bJ _ _ _ _,Below.refl _ _⟩
 (case round=>obtain⟨n,L,rfl,c,a⟩:=hrel;have u:z (G w)<=z (G wr):=a.size;by_cases g:n<y l;(.have j:=kT l n g;have N:aS wr (R B<|b+n*3)=H (J l[n].key):=(a.cell<|by exact r).trans<|m _ _ j.1;have O:aS wr (R B<|b+n*3+1)=H (J l[n].val):=(a.cell<|by exact r).trans (by rw[aV];exact m _ _ j.2.1);have P:aS wr (R B<|b+n*3+2)=H (aL l[n].del):=(a.cell<|by exact r).trans (by rw[aV];exact m _ _ j.2.2);clear j;(have d:wr.ownsRow (z<|G w) 113 3 u3 n (eQ<|l.take n):=by have K:wr.ownsRow (z<|G w) 113 3 u3 (y<|l.take n) (eQ<|l.take n):=c;rwa[dK,Nat.min_eq_left L]at K);obtain⟨ac,V,t⟩:=aB d;subst t;have i:=U d;have F:=U (show eQ (l.take<|n+1)=eQ (l.take n)++[J l[n].key,J l[n].val,aL l[n].del]by unfold eQ;rw[ai g,fZ];simp[oD]);clear d;have k:=U a;clear c a;go_wp2;(go_region_law (refine zR rfl (.tmp 11) (.tmp 28) 52 rfl (z<|G w) 113 Q (eD #[J ⟨#[]⟩,J ⟨#[]⟩,aL bE]) 3 40 underlying52 s v x A rfl (by decide) (I ac n V) n (eQ<|l.take n) (by simp[Act.eval]) (jc (aR i<|aq #[J l[n].key,J l[n].val,aL l[n].del] 113) rfl) (R (z<|G wr) 0) 1 1 [J l[n].key,J l[n].val,aL l[n].del] (by simp[Act.eval]) rfl (OR _ _ _ _ _) (by simp[Value.oneCell']) (by omega) (by omega) (by simp;omega) ?_;intro v2 w2 e f;obtain⟨x2,c2,rfl⟩:=aB e;have o:=U e;have p:=U f;clear e f));go_wp2;(all_goals go_roundw;(case rel=>exact⟨n+1,by omega,by go_num,by unfold My;rw[dK,Nat.min_eq_left (by omega),ae F];exact o,kp k u p (aq #[J l[n].key,J l[n].val,aL l[n].del] 113) rfl<|λb a=>(aF i b a).1⟩);case measure=>simp[intOf];omega));(have d:n=y l:=by omega);subst d;rw[bN]at c;have i:=U c;have k:=U a;clear c a;go_wp2;go_ret;exact⟨_,rfl,i,k⟩)
def MO(w:Y):cw bF 14 #[aK] w λe b=>∃a,e=aO a/\My b (z<|G w) a []/\Below (z<|G w) w b:=by
 go_in
 go_wp2;go_loopw [3,4] (λo i wr=>i=am 0/\o=aK/\wr=w) (λ_ _ _=>0)
 case atStart=>exact⟨rfl,rfl,rfl⟩
 (case round=>obtain⟨rfl,rfl,rfl⟩:=hrel;go_wp2;go_ret;exact⟨_,rfl,bJ _ _ _ _,Below.refl _ _⟩)
def zd(l:uz)(v:aa)(w:Y)(h:y l<=1000000000000)(i:xW w v l)(f:∀k,bV v=H k->k<z (G w)):cw bF 14 #[v] w λm d=>∃c,m=aO c/\My d (z<|G w) c l/\Below (z<|G w) w d:=by
 obtain⟨_,⟨rfl,e⟩|⟨j,a,b,rfl,_,g⟩⟩:=i;obtain rfl:l=[]:=aP e;exact MO w;exact JW l j a b w h (f j rfl) g
section
variable{P:Program}{a:Array Oper}{Q:Exit->Act->Y->Prop}{md:Region.Mode}{S:Y->Prop}
def NH(md:Region.Mode)(a:Array Oper)(b:Array Bool)(m i:M):Bool:=match a[m]? with
 |some c=>(c.after.any λe=>Region.binds md e&&e.on==i)&&Region.noSelect a&&Region.free md a b i&&(Region.ready md a b).contains i
 |none=>bE
def AV(P:Program)(md:Region.Mode)(a:Array Oper)(Q:Exit->Act->Y->Prop)(S:Y->Prop)(m _ c:M)(b:Array Bool)(d:Act)(w:Y):Prop:=kR P md a Q S m c b d w
theorem cQ(k:M){m c:M}{b:Array Bool}{d:Act}{w:Y}(h:AV P md a Q S m k c b d w):kR P md a Q S m c b d w:=h
theorem eh{k m c:M}{b:Array Bool}{d:Act}{w:Y}(h:kR P md a Q S m c b d w):AV P md a Q S m k c b d w:=h
theorem wV{k n:M}{e:Oper}{v:aa}{d:M}{b:Array Bool}{g:Act}{w:Y}(i:S w)(j:a[k]?=H e)(c:NH md a b n k=bU)(h:∀o g w,Q (.panic o) (g.put e.dst v) w->Q (.panic o) g w)(m:YieldsIf P a S e v g)(p:AV P md a Q S n (k+1) d (b.setIfInBounds k bU) (g.put e.dst v) w):AV P md a Q S n k (d+1) b g w:=by
 unfold NH at c;split at c;rename_i q l;simp only[jT]at c;exact lJ j l c.1.1.1 c.1.1.2 c.1.2 c.2 h m i p;cases c
theorem eE{k m:M}{d:Oper}{v:aa}{c:M}{b:Array Bool}{e:Act}{w:Y}(h:S w)(j:a[k]?=H d)(f:NH md a b m k=bU)(g:∀n e w,Q (.panic n) (e.put d.dst v) w->Q (.panic n) e w)(i:Region.wanted d (yielded a e.tmps)=bU)(l:∀w,S w->(execOp e.eval d).run P w=.ok (.value v) w)(o:AV P md a Q S m (k+1) c (b.setIfInBounds k bU) (e.put d.dst v) w):AV P md a Q S m k (c+1) b e w:=wV h j f g (.inl ⟨i,l⟩) o
end
section
variable{P:Program}{a:Array Oper}{Q:Exit->Act->Y->Prop}{md:Region.Mode}{S:Y->Prop}
theorem sK{i j p:M}{h k:Oper}{c:M}{b:Array Bool}{m:Act}{w:Y}(s:a[i]?=H h)(t:a[j]?=H k)(q:h.guard=none)(r:k.guard=none)(o:Region.ready md a b=[i,j])(e:∀K:Act->Y->Prop,(∀d w',(i≠p->S w')->kR P md a Q S p c (b.setIfInBounds i bU) d w'->K d w')->Oper.wp P h m w K Q)(f:∀K:Act->Y->Prop,(∀d w',(j≠p->S w')->kR P md a Q S p c (b.setIfInBounds j bU) d w'->K d w')->Oper.wp P k m w K Q):kR P md a Q S p (c+1) b m w:=by
 refine⟨λn=>(by rw[o]at n;cases n),λu g=>?_⟩;rw[o]at g;rcases aA.1 g with rfl|g;unfold wpOp;simp only[s];(have l:Region.wanted h (yielded a m.tmps)=bU:=by simp[Region.wanted,q]);rw[dw l];exact .inl<|e _<|λd w' e f=>⟨e,f⟩;(obtain rfl:u=j:=by simpa using g);unfold wpOp;simp only[t];(have l:Region.wanted k (yielded a m.tmps)=bU:=by simp[Region.wanted,r]);rw[dw l];exact .inl<|f _<|λd w' e f=>⟨e,f⟩
theorem tN{α:Type}(g:α->Y->Prop)(A:α->Act)(b:Array Bool)(d:M){m e:M}{c:Array Bool}{i:Act}{w:Y}(f:(∀x W,g x W->kR P md a Q S m d b (A x) W)->kR P md a Q S m e c i w)(h:∀x W,g x W->kR P md a Q S m d b (A x) W):kR P md a Q S m e c i w:=f h
theorem jX{m b:M}{l c:Array Bool}{d:Act}{w:Y}(h:kR P md a Q S m b l d w)(e:l=c):kR P md a Q S m b c d w:=e▸h
end
section
variable{P:Program}{a:Array Oper}{Q:Exit->Act->Y->Prop}{md:Region.Mode}
theorem Ks{l n:M}{d:String}{b:Array aa}{w:Y}{c:aa->Y->Prop}(h:Rows P d b w c):RowsIn (Fence.wide.inRound l) n P d b w c:=λg e _=>let⟨v,f,r,s⟩:=h g e;⟨v,f,r,stepsIn_wide.2 s⟩
theorem Oper.MI{o:Oper}{b:Act}{w:Y}{K:Act->Y->Prop}(l n:M)(d:∀c,o.op≠ .defer c)(h:o.wp P b w K Q):o.wpIn (Fence.wide.inRound l) n P b w K Q:=by
 unfold Oper.wpIn;refine⟨λf _=>trivial,?_⟩;rw[Oper.semAt_plain (Fence.wide.inRound l) _ _ d];unfold Oper.wp at h;generalize(execOp b.eval o).run P w=r at*;cases r with
 |ok x e=>
  cases x<;>simp only[Oper.upon,Oper.uponIn]at h|-<;>first
   |exact h
   |exact⟨(λc=>(by cases c)),CallsIn.inRound l<|cZ.2 h⟩
   |exact⟨(λc=>(by cases c)),Ks h⟩
   |exact h.elim
 |halt x e=>cases x<;>simp only[Oper.upon,Oper.uponIn]at h|-<;>exact h
theorem zb{l n:M}(g:∀(i:M)(o:Oper)j,a[i]?=H o->o.op≠ .defer j)(f:¬LetsOut Q):∀(b:M)(c:Array Bool)(p:Act)(w:Y),wpAny P md a Q b c p w->wpAnyIn (Fence.wide.inRound l) n P md a Q b c p w
 |0,_,_,_,h=>h
 |b+1,_,_,_,h=>⟨h.1,λi k=>by
  have d:=uA (λe m j=>zb (l:=l) (n:=n) g f b _ e m j)<|h.2 i k;unfold wpOp at d;unfold wpOpIn;cases ho:a[i]? with
  |none=>simpa[ho]using d
  |some o=>
   simp only[ho]at d|-;split
   .rename_i e;simp only[e,jf]at d;rcases d with d|d
    .exact Oper.MI l n (λj=>g i o j ho) d
    .exact absurd d.2 f
   .rename_i e;simp only[e]at d;exact⟨λ_ _=>trivial,d⟩⟩
def CX(a:Array Oper):Bool:=a.all λo=>match o.op with| .defer _=>bE|_=>bU
theorem vO(h:CX a=bU):∀(i:M)(o:Oper)d,a[i]?=H o->o.op≠ .defer d:=by
 intro i o d c e;obtain⟨b,rfl⟩:=nw.1 c;have:=Array.all_eq_true.1 h i b;rw[e]at this;cases this
theorem tM(S:Y->Prop)(m:M){l n id:M}{b:Act}{w:Y}(e:P.follows .mixedOrders=bU)(d:CX a=bU)(c:∀b w,¬Q .outgrown b w)(h:kR P .any a Q S m a.size (Array.replicate a.size bE) b w.drew):(Code.region id a bU).wpIn (Fence.wide.inRound l) n P Q b w:=wpIn_region_any e<|zb (vO d) (λ⟨b,w,h⟩=>c b w h) _ _ _ _<|ou _ _ _ _ h
end
def AS{P:Program}{r n id:M}{Q:Exit->Act->Y->Prop}{c:Act}{l:cr Oper}(j:P.follows .mixedOrders=bU)(e:Region.lexB .any l.toArray=bU)(i:CX l.toArray=bU)(g:∀c a,¬Q .outgrown c a)(h:wpQuiet P l.toArray (λb=>∃n,b=a.drewN n) (λd=>∀b,(∃n,b=a.drewN n)->Q .normal d b) l c):(Code.region id l.toArray bU).wpIn (Fence.wide.inRound r) n P Q c a:=by
 simp only[Region.lexB,jT]at e;refine wpIn_region_any j<|zb (vO i) (λ⟨c,a,h⟩=>g c a h) _ _ _ _<|wpAny_of_quiet (C:=λb=>∃n,b=a.drewN n) (Q:=λd=>∀b,(∃n,b=a.drewN n)->Q .normal d b) (λ_ b f h=>h b f) _ _ _ _ ⟨1,rfl⟩ ?_;have:=wpAnyQ_lex (C:=λb=>∃n,b=a.drewN n) (md:=.any) e.1 l 0 (Array.replicate l.toArray.size bE) c (by simp) (by simpa using e.2) h;simpa using this
section
open Go.Conc.Locks
def Xy:MuLink where
 lock:=40
 unlock:=41
 ilock:=66
 iunlock:=67
 lockSlow:=114
 unlockSlow:=117
 disable:=110
 enable:=112
 acquire:=113
 relMerge:=115
 cas32:=111
 add32:=116
 tMutex:=100
 tIMutex:=98
 tPMutex:=139
 tPIMutex:=213
 tPI32:=215
 tUP:=146
 tNoCopy:=95
 tU32:=96
def Xc:MuLib bF Xy:=by
 constructor<;>first|kernel_rfl|(intro w;kernel_rfl)
def lock_free(a:Addr)(w:Y)(b:aS w a=H (jn 0))(c:w.frozen? a=bE):cw bF 40 #[fh<|H a] w λe d=>e=aO (dA #[])/\d=bZ w a (jn 1):=MuLone.lock_free Xc a w b c
def unlock_deferred(a:Addr)(u:FrameMode)(w:Y)(b:aS w a=H (jn 1))(c:w.frozen? a=bE):CallsD bF 41 #[fh<|H a] u w λf d e=>d=u/\(f=aO (dA #[])/\e=bZ w a (jn 0)):=MuLone.unlock_deferred Xc a u w b c
end
section
variable{P:Program}{a:Array Oper}{Q:Exit->Act->Y->Prop}{md:Region.Mode}{S:Y->Prop}
def Ab(md:Region.Mode)(a:Array Oper)(i:M):M->M->Bool
 |0,_=>bE
 |n+1,j=>match a[j]? with
  |none=>bE
  |some o=>o.after.any λe=>Region.binds md e&&(e.on==i||Ab md a i n e.on)
def BR(md:Region.Mode)(a:Array Oper)(b:Array Bool):Prop:=∀j o,a[j]?=H o->b.getD j bE=bU->∀e∈o.after,Region.binds md e=bU->b.getD e.on bE=bU
def Dc(md:Region.Mode)(a:Array Oper)(b:Array Bool):Bool:=(List.range a.size).all λj=>match a[j]? with
 |none=>bU
 |some o=>!b.getD j bE||o.after.all λe=>!Region.binds md e||b.getD e.on bE
theorem Sx{b:Array Bool}(h:Dc md a b=bU):BR md a b:=by
 intro l o d j m g f;unfold Dc at h;rw[nL]at h;have c:=h l<|lY.2 (nw.1 d).1;simp only[d,j,uf,yM]at c;rw[Array.all_eq_true]at c;obtain⟨k,i,rfl⟩:=Array.mem_iff_getElem.1 g;have e:=c k i;simpa[f]using e
theorem BR.set{b:Array Bool}{k:M}(n:BR md a b)(j:k∈Region.ready md a b):BR md a (b.setIfInBounds k bU):=by
 intro x p h g m f e;obtain⟨o,q,d,c⟩:=xX.1 j;by_cases l:k=x;subst l;rw[h]at d;cases d;exact getD_set_true<|c m f e;rw[getD_set_ne bE l]at g;exact getD_set_true<|n x p h g m f e
theorem Aa{p:M}{b:Array Bool}(j:BR md a b):∀(n m:M)(o:Oper),a[m]?=H o->(∀f∈o.after,Region.binds md f=bU->b.getD f.on bE=bU)->Ab md a p n m=bU->b.getD p bE=bU
 |0,_,_,_,_,h=>by simp[Ab]at h
 |n+1,m,o,k,d,h=>by
  unfold Ab at h;simp only[k]at h;obtain⟨x,l,g⟩:=Array.any_eq_true.1 h;simp only[jT,wi,beq_iff_eq]at g;have i:=d _ (tL l) g.1;rcases g.2 with f|f
  .rw[<-f];exact i
  .have hex:∃c,a[(o.after[x]).on]?=H c:=by
    cases n with
    |zero=>simp[Ab]at f
    |succ n=>
     unfold Ab at f;cases q:a[(o.after[x]).on]? with
     |none=>simp[q]at f
     |some c=>exact⟨c,rfl⟩
   obtain⟨c,e⟩:=hex;exact Aa j n _ c e (λh g d=>j _ c e i h g d) f
def nX(P:Program)(md:Region.Mode)(a:Array Oper)(Q:Exit->Act->Y->Prop)(S:Y->Prop)(m:M):M->Array Bool->Act->Y->Prop
 |0,b,d,w=>Region.ready md a b=[]/\Q .normal d w
 |fuel+1,b,d,w=>
  (Region.ready md a b=[]->Q .normal d w)/\∀i∈Region.ready md a b,wpOp P a Q i (λe c=>(i<m->S c)/\nX P md a Q S m fuel (b.setIfInBounds i bU) e c) d w
theorem zO{m:M}:∀(b:M)(c:Array Bool)(i:Act)(w:Y),nX P md a Q S m b c i w->wpAny P md a Q b c i w
 |0,_,_,_,h=>h
 |b+1,_,_,_,h=>⟨h.1,λj f=>uA (λd g e=>zO b _ d g e.2)<|h.2 j f⟩
theorem Ic{o al:M}{p:Oper}{av:aa}(N:a[o]?=H p)(au:o<al)(T:∀j,al<=j->j<a.size->Ab md a o a.size j=bU)(l:∀(j:M)(ax:Oper)r an,a[j]?=H ax->ax.op≠ .select r an)(hQ:∀ac K L,Q (.panic ac) (K.put p.dst av) L->Q (.panic ac) K L):∀(c:M)(b:Array Bool)(K:Act)(L:Y),BR md a b->(∀j m,a[j]?=H m->j≠o->b.getD j bU=bE->(∀C∈m.after,Region.binds md C=bU->C.on≠o)->p.apart a m=bU)->o∈Region.ready md a b->YieldsIf P a S p av K->S L->nX P md a Q S al c (b.setIfInBounds o bU) (K.put p.dst av) L->nX P md a Q S al (c+1) b K L:=by
 intro c;induction c with
 |zero=>
  intro b K L _ _ n F s e;refine⟨λao=>(by rw[ao]at n;cases n),λj u=>?_⟩;by_cases d:j=o
  .subst d;exact F.wpOp N s ⟨λ_=>s,e⟩
  .have:=sy u d;rw[e.1]at this;cases this
 |succ c ih=>
  intro b K L t f n F s e;refine⟨λao=>(by rw[ao]at n;cases n),λj u=>?_⟩;by_cases d:j=o
  .subst d;exact F.wpOp N s ⟨λ_=>s,e⟩
  .have D:=e.2 j<|sy u d;obtain⟨k,m,g,i⟩:=xX.1 u;have x:b.getD o bE=bU->False:=λq=>by
    have B:=(xX.1 n).1;rcases dE o b.size with v|v
    .simp[v]at B q;rw[B]at q;cases q
    .simp[eF v]at q
   have A:∀C∈m.after,Region.binds md C=bU->C.on≠o:=λC O B v=>by
    have D:=i C O B;rw[v]at D;exact x D
   have h2:=wpOp_putIf g (f j m g d k A) (λr an=>l o p r an N) (λr an=>l j m r an g) hQ F D;have h:∀ad ok,a[ad]?=H ok->ad≠o->(b.setIfInBounds j bU).getD ad bU=bE->(∀C∈ok.after,Region.binds md C=bU->C.on≠o)->p.apart a ok=bU:=λad ok hk O B V=>by
    refine f ad ok hk O ?_ V;by_cases v:j=ad
    .subst v;exact k
    .rw[getD_set_ne bU v]at B;exact B
   have W:=sy n<|Ne.symm d;have w:j<al:=by
    rcases dE j al with ac|ac
    .exact ac
    .exact(x<|Aa t a.size j m g i<|T j ac (nw.1 g).1).elim
   refine uA (λa' w' E=>⟨λ_=>E.2.1 w,ih (b.setIfInBounds j bU) a' w' (t.set u) h W E.1 (E.2.1 w) ?_⟩) h2;rw[uh _ _ d];exact E.2.2
theorem JP{i m:M}{d:Oper}{v:aa}{c:M}{b:Array Bool}{e:Act}{w:Y}(k:a[i]?=H d)(g:i<m)(h:((List.range a.size).all λl=>decide (l<m)||Ab md a i a.size l)=bU)(s:Region.noSelect a=bU)(q:Region.free md a b i=bU)(r:(Region.ready md a b).contains i=bU)(f:Dc md a b=bU)(o:∀j e w,Q (.panic j) (e.put d.dst v) w->Q (.panic j) e w)(t:YieldsIf P a S d v e)(p:S w)(u:nX P md a Q S m c (b.setIfInBounds i bU) (e.put d.dst v) w):nX P md a Q S m (c+1) b e w:=Ic k g (λl x n=>by
 have:=nL.1 h l<|lY.2 n;simp only[wi,jo]at this;rcases this with j|j
 .omega
 .exact j) (Region.noSelect_spec s) o c b e w (Sx f) (Region.free_spec k q) (by simpa using r) t p u
theorem dL{i n:M}{o:Oper}{c:M}{b:Array Bool}{j:Act}{w:Y}(l:a[i]?=H o)(k:o.guard=none)(h:Region.ready md a b=[i])(p:∀K:Act->Y->Prop,(∀e d,(i<n->S d)->nX P md a Q S n c (b.setIfInBounds i bU) e d->K e d)->Oper.wp P o j w K Q):nX P md a Q S n (c+1) b j w:=by
 refine⟨λf=>(by rw[h]at f;cases f),λq g=>?_⟩;rw[h]at g;obtain rfl:q=i:=by simpa using g
 unfold wpOp;simp only[l];have m:Region.wanted o (yielded a j.tmps)=bU:=by simp[Region.wanted,k]
 rw[dw m];exact .inl<|p _<|λe d f g=>⟨f,g⟩
theorem kh{m:M}{b:Array Bool}{e:Act}{w:Y}(d:Region.ready md a b=[])(h:Q .normal e w):∀c,nX P md a Q S m c b e w
 |0=>⟨d,h⟩
 |_+1=>⟨λ_=>h,by rw[d];simp⟩
theorem ot(S:Y->Prop)(m:M){id:M}{c:Act}{w:Y}(b:P.follows .mixedOrders=bU)(h:nX P .any a Q S m a.size (Array.replicate a.size bE) c w.drew):(Code.region id a bU).wp P Q c w:=yJ b<|zO _ _ _ _ h
end
section
variable{P:Program}{a:Array Oper}{Q:Exit->Act->Y->Prop}{md:Region.Mode}{S:Y->Prop}
def xY(P:Program)(md:Region.Mode)(a:Array Oper)(Q:Exit->Act->Y->Prop)(S:Y->Prop)(m _ c:M)(b:Array Bool)(d:Act)(w:Y):Prop:=nX P md a Q S m c b d w
def IH(md:Region.Mode)(a:Array Oper)(b:Array Bool)(m k:M):Bool:=decide (k<m)&&((List.range a.size).all λj=>decide (j<m)||Ab md a k a.size j)&&Region.noSelect a&&Region.free md a b k&&(Region.ready md a b).contains k&&Dc md a b
theorem uL(k:M){m c:M}{b:Array Bool}{d:Act}{w:Y}(h:xY P md a Q S m k c b d w):nX P md a Q S m c b d w:=h
theorem AT{k m c:M}{b:Array Bool}{d:Act}{w:Y}(h:nX P md a Q S m c b d w):xY P md a Q S m k c b d w:=h
theorem SW{k m:M}{e:Oper}{v:aa}{d:M}{b:Array Bool}{f:Act}{w:Y}(h:S w)(i:a[k]?=H e)(c:IH md a b m k=bU)(g:∀l f w,Q (.panic l) (f.put e.dst v) w->Q (.panic l) f w)(j:YieldsIf P a S e v f)(n:xY P md a Q S m (k+1) d (b.setIfInBounds k bU) (f.put e.dst v) w):xY P md a Q S m k (d+1) b f w:=by
 unfold IH at c;simp only[jT,jo]at c;exact JP i c.1.1.1.1.1 c.1.1.1.1.2 c.1.1.1.2 c.1.1.2 c.1.2 c.2 g j h n
theorem AU{k m:M}{d:Oper}{v:aa}{c:M}{b:Array Bool}{e:Act}{w:Y}(h:S w)(j:a[k]?=H d)(f:IH md a b m k=bU)(g:∀n e w,Q (.panic n) (e.put d.dst v) w->Q (.panic n) e w)(i:Region.wanted d (yielded a e.tmps)=bU)(l:∀w,S w->(execOp e.eval d).run P w=.ok (.value v) w)(o:xY P md a Q S m (k+1) c (b.setIfInBounds k bU) (e.put d.dst v) w):xY P md a Q S m k (c+1) b e w:=SW h j f g (.inl ⟨i,l⟩) o
end
def qH{P:Program}{d:Array Oper}{Q:Exit->Act->Y->Prop}{h:Region.Mode}{S:Y->Prop}{i j q:M}{k l:Oper}{c:Array Bool}{r:Act}(w:d[i]?=H k)(x:d[j]?=H l)(s:k.guard=none)(t:l.guard=none)(p:Region.ready h d c=[i,j])(u:∀K:Act->Y->Prop,(∀f e,(i<q->S e)->nX P h d Q S q b (c.setIfInBounds i bU) f e->K f e)->Oper.wp P k r a K Q)(v:∀K:Act->Y->Prop,(∀f e,(j<q->S e)->nX P h d Q S q b (c.setIfInBounds j bU) f e->K f e)->Oper.wp P l r a K Q):nX P h d Q S q (b+1) c r a:=by
 refine⟨λo=>(by rw[p]at o;cases o),λA g=>?_⟩;rw[p]at g;rcases aA.1 g with rfl|g;unfold wpOp;simp only[w];rw[dw<|by simp[Region.wanted,s]];exact .inl<|u _<|λf e m n=>⟨m,n⟩;(obtain rfl:A=j:=by simpa using g);unfold wpOp;simp only[x];rw[dw<|by simp[Region.wanted,t]];exact .inl<|v _<|λf e m n=>⟨m,n⟩
section
open Go.Extern.Stop Go.Stop Go.Extern
def JX(w:Y):cw bF 16 #[.nilIface] w λe a=>e=aO (am 0)/\Below (z<|G w) w a:=by
 go_in
 go_wp2;go_ret;exact⟨rfl,(Below.refl _ w).alloc (ah _) _⟩
def Ku(t:Addr)(w:Y):(ReflectliteValue.unpack<|.iface 116<|fh<|H t).run bF w=.ok (eD #[fh<|H<|R (7) 116,aw<|z<|G w,aI 150]) (ct w<|aq #[fh<|H t] 116):=by kernel_rfl
def Tx(a:Addr)(w:Y):(ReflectliteValue.methodAny (ReflectliteValue.valueError "reflectlite.Value.Type" 0) (λt _ _ _=>ReflectliteType.toType t) #[eD #[fh<|H<|R (7) 116,fh<|H a,aI 150]]).run bF w=.ok (.iface 230<|eD #[fh<|H<|R (7) 116]) w:=by kernel_rfl
def FF(h:aa)(w:Y):(Go.method 545 230 (eD #[h]) "Kind").run bF w=.ok (311,h) w:=by kernel_rfl
def Ty(w:Y):((ReflectliteType.abiMethod λt=>(λa:M=>Value.int IntKind.u8 (a:X))<$>Rtype.kind t) #[fh<|H<|R (7) 116]).run bF w=.ok (tD 22) w:=by kernel_rfl
def Tz(w:Y):((ReflectliteType.abiMethod λt=>(λa:M=>Value.int IntKind.u8 (a:X))<$>Rtype.kind t) #[fh<|H<|R (7) 55]).run bF w=.ok (tD 2) w:=by kernel_rfl
def YV(a:Sem aa)(f:TypeId->Addr->M->M->Sem aa)(v:aa):ReflectliteValue.method a f #[v]=(do match<-ReflectliteValue.parts v with|none=>a|some (t,c,b)=>f t c b<|b%32):=rfl
def Gw(a:Addr)(w:Y):(ReflectliteValue.parts<|eD #[fh<|H<|R (7) 116,fh<|H a,aI 150]).run bF w=.ok (H (116,a,150)) w:=by kernel_rfl
def QK(b p:Addr)(W:Y)(a:aS W b=H (fh<|H p)):(ReflectliteValue.method (ReflectliteValue.valueError "reflectlite.Value.IsNil" 0) ReflectliteValue.isNil #[eD #[fh<|H<|R (7) 116,fh<|H b,aI 150]]).run bF W=.ok (aL bE) W:=by
 rw[YV];simp only[jW,Gw,Result.andThen];simp[ReflectliteValue.isNil,loadVar,isAgg,underlying,underlying116,a,Result.andThen]
def FG(h:aa)(w:Y):(Go.method 545 230 (eD #[h]) "Elem").run bF w=.ok (341,eD #[h]) w:=by kernel_rfl
def yD(h:aa)(w:Y):(Go.method 545 230 (eD #[h]) "Implements").run bF w=.ok (342,eD #[h]) w:=by kernel_rfl
def wJ(h:aa)(w:Y):(Go.method 545 230 (eD #[h]) "AssignableTo").run bF w=.ok (339,eD #[h]) w:=by kernel_rfl
def TA(w:Y):(ReflectliteType.method ReflectliteType.elem #[eD #[fh<|H<|R (7) 116]]).run bF w=.ok (.iface 230<|eD #[fh<|H<|R (7) 55]) w:=by kernel_rfl
def DM(w:Y):(ReflectliteType.relation "Implements" ReflectliteType.implements_ #[eD #[fh<|H<|R (7) 55],.iface 230<|eD #[fh<|H<|R (7) 50]]).run bF w=.ok (aL bU) w:=by kernel_rfl
def DL(v:aa)(w:Y):(ReflectliteType.typeOf #[.iface 55 v]).run bF w=.ok (.iface 230<|eD #[fh<|H<|R (7) 55]) w:=by kernel_rfl
def DO(w:Y):(ReflectliteType.relation "AssignableTo" ReflectliteType.assignableTo #[eD #[fh<|H<|R (7) 55],.iface 230<|eD #[fh<|H<|R (7) 55]]).run bF w=.ok (aL bU) w:=by kernel_rfl
def Kv(n:X)(w:Y):(ReflectliteValue.unpack<|.iface 55<|am n).run bF w=.ok (eD #[fh<|H<|R (7) 55,aw<|z<|G w,aI 130]) (ct w<|aq #[am n] 55):=by kernel_rfl
def Nn(w:Y):(Rtype.elem? 116).run bF w=.ok (H 55) w:=by kernel_rfl
def Xn(p:Addr)(w:Y):(ReflectliteValue.mk 55 p ReflectliteValue.flagAddr).run bF w=.ok (eD #[fh<|H<|R (7) 55,fh<|H p,aI 386]) w:=by kernel_rfl
def QL(b p:Addr)(W:Y)(a:aS W b=H (fh<|H p)):(ReflectliteValue.method (ReflectliteValue.valueError "reflectlite.Value.Elem" 0) ReflectliteValue.elem #[eD #[fh<|H<|R (7) 116,fh<|H b,aI 150]]).run bF W=.ok (eD #[fh<|H<|R (7) 55,fh<|H p,aI 386]) W:=by
 rw[YV];simp only[jW,Gw,Result.andThen];simp[ReflectliteValue.elem,loadVar,isAgg,underlying,underlying116,a,Result.andThen,Nn,Xn]
def YX(v x:aa):ReflectliteValue.set #[v,x]=(do
 let(H (dst,a,fl),H (src,b,_)):=(<-ReflectliteValue.parts v,<-ReflectliteValue.parts x)
  |unsupported (.noEntry "extern/(internal/reflectlite.Value).Set.zeroValue")
 if fl/ReflectliteValue.flagAddr%2==0 then unsupported (.noEntry "extern/(internal/reflectlite.Value).Set.unaddressable")
 let c<-loadVar src b
 if<-Rtype.directlyAssignable dst src then storeVar dst a c
 else if<-Rtype.implements dst src then
  if(<-Rtype.kind src)==20 then
   match c with
   | .nilIface=>unsupported<|.noEntry "extern/reflectlite: a nil value of one interface type handed on as a value of another"
   |_=>storeVar dst a c
  else storeVar dst a (.iface src c)
 else panicString ("reflectlite.Set: value of type " ++(<-Rtype.spelt src)++ " is not assignable to type " ++(<-Rtype.spelt dst))
 pure (dA #[])):=rfl
def Nl(a:Addr)(w:Y):(ReflectliteValue.parts<|eD #[fh<|H<|R (7) 55,fh<|H a,aI 386]).run bF w=.ok (H (55,a,386)) w:=by kernel_rfl
def QJ(a:Addr)(w:Y):(ReflectliteValue.parts<|eD #[fh<|H<|R (7) 55,fh<|H a,aI 130]).run bF w=.ok (H (55,a,130)) w:=by kernel_rfl
def No(w:Y):(Rtype.directlyAssignable 55 55).run bF w=.ok bU w:=by kernel_rfl
def VT(a e:Addr)(n:X)(FN:aa)(W:Y)(b:aS W e=H (am n))(d:aS W a=H FN)(c:W.frozen? a=bE):(ReflectliteValue.set #[eD #[fh<|H<|R (7) 55,fh<|H a,aI 386],eD #[fh<|H<|R (7) 55,fh<|H e,aI 130]]).run bF W=.ok (dA #[]) (bZ W a<|am n):=by
 rw[YX];simp only[jW,Nl,QJ,Result.andThen];simp[ReflectliteValue.flagAddr,loadVar,isAgg,underlying,underlying55,b,Result.andThen,No,storeVar,Value.cells,storeCells,Addr.add];rw[run_store bF W a _ _<|by rfl];simp[d,c]
def pD(w:Y):Prop:=aS w (R 0 0)=H (.iface 230<|eD #[fh<|H<|R (7) 50])
def XM(n:X)(t:Addr)(FN:aa)(e:pD a)(b:aS a t=H FN)(d:a.frozen? t=bE):cw bF 48 #[.iface 55<|am n,.iface 116<|fh<|H t] a λk C=>k=aO (aL bU)/\C=bZ (ct (ct (ct (ct a<|aq #[fh<|H t] 116)<|aq #[fh<|H<|R (7) 116,aw<|z<|G a,aI 150] 149)<|aq #[fh<|H<|R (7) 116,aw<|z<|G a,aI 150] 149)<|aq #[am n] 55) t (am n):=by
 unfold pD at e;have K:=@eV bF 76 _ (λa=>ReflectliteValue.unpack<|a.getD 0<|dA #[]) func76 (by kernel_rfl) (by kernel_rfl) (by kernel_rfl) (by kernel_rfl);have L:=@eV bF 77 _ (ReflectliteValue.methodAny (ReflectliteValue.valueError "reflectlite.Value.Type" 0)<|λt _ _ _=>ReflectliteType.toType t) func77 (by kernel_rfl) (by kernel_rfl) (by kernel_rfl) (by kernel_rfl);have N:=@eV bF 78 _ (ReflectliteValue.method (ReflectliteValue.valueError "reflectlite.Value.IsNil" 0) ReflectliteValue.isNil) func78 (by kernel_rfl) (by kernel_rfl) (by kernel_rfl) (by kernel_rfl);have q:=@eV bF 311 _ (ReflectliteType.abiMethod λt=>do pure (tD<|<-Rtype.kind t)) func311 (by kernel_rfl) (by kernel_rfl) (by kernel_rfl) (by kernel_rfl);have s:=@eV bF 341 _ (ReflectliteType.method ReflectliteType.elem) func341 (by kernel_rfl) (by kernel_rfl) (by kernel_rfl) (by kernel_rfl);have u:=@eV bF 342 _ (ReflectliteType.relation "Implements" ReflectliteType.implements_) func342 (by kernel_rfl) (by kernel_rfl) (by kernel_rfl) (by kernel_rfl);have l:=@eV bF 125 _ ReflectliteType.typeOf func125 (by kernel_rfl) (by kernel_rfl) (by kernel_rfl) (by kernel_rfl);have r:=@eV bF 339 _ (ReflectliteType.relation "AssignableTo" ReflectliteType.assignableTo) func339 (by kernel_rfl) (by kernel_rfl) (by kernel_rfl) (by kernel_rfl);have m:=@eV bF 126 _ (ReflectliteValue.method (ReflectliteValue.valueError "reflectlite.Value.Elem" 0) ReflectliteValue.elem) func126 (by kernel_rfl) (by kernel_rfl) (by kernel_rfl) (by kernel_rfl);have o:=@eV bF 127 _ ReflectliteValue.set func127 (by kernel_rfl) (by kernel_rfl) (by kernel_rfl) (by kernel_rfl);have V:=DL;have O:=wJ;have i:=DO;have B:=Kv;have E:=Ku;have F:=Tx;have S:=FF;have P:=FG;have Q:=yD;have A:=Ty;have x:=Tz;have j:=TA;have w:=DM;have T:=QK (R (z<|G a) 0) t (ct (ct a<|aq #[fh<|H t] 116)<|aq #[fh<|H<|R (7) 116,aw<|z<|G a,aI 150] 149) (by simp);have f:0<z (G a):=da _ _ e;have v:aS (ct (ct a<|aq #[fh<|H t] 116)<|aq #[fh<|H<|R (7) 116,aw<|z<|G a,aI 150] 149) (R 0 0)=H (.iface 230<|eD #[fh<|H<|R (7) 50]):=by rw[fa _ _ (R 0 0) (by first|(simp;done)|(simp;omega)),fa _ _ (R 0 0) f];exact e
 have c:t.block<z (G a):=da _ _ b;have D:=QL (R (z<|G a) 0) t (ct (ct (ct a<|aq #[fh<|H t] 116)<|aq #[fh<|H<|R (7) 116,aw<|z<|G a,aI 150] 149)<|aq #[fh<|H<|R (7) 116,aw<|z<|G a,aI 150] 149) (by rw[fa _ _ (R (z<|G a) 0) (by simp;omega)];simp);have g:=VT t (R (z (G a)+1+1+1) 0) n FN (ct (ct (ct (ct a<|aq #[fh<|H t] 116)<|aq #[fh<|H<|R (7) 116,aw<|z<|G a,aI 150] 149)<|aq #[fh<|H<|R (7) 116,aw<|z<|G a,aI 150] 149)<|aq #[am n] 55) (by rw[World.cell?_alloc_at _ _ _ _<|by simp];rfl) (by rw[fa _ _ t (by simp;omega),fa _ _ t (by simp;omega),fa _ _ t (by simp;omega),fa _ _ t c];exact b) (by rw[lW _ _ t (by simp;omega),lW _ _ t (by simp;omega),lW _ _ t (by simp;omega),lW _ _ t<|Nat.ne_of_lt c];exact d);go_in
 go_wp2;refine ld 1 ?_;rw[gZ];go_wp2;go_ret;exact⟨rfl,rfl⟩
end
section
variable{P:Program}{a:Array Oper}{Q:Exit->Act->Y->Prop}{md:Region.Mode}
theorem It{n:M}{d:String}{b:Array aa}{w:Y}{c:aa->Y->Prop}(h:Rows P d b w c):RowsIn Fence.wide n P d b w c:=λg e _=>let⟨v,f,r,s⟩:=h g e;⟨v,f,r,stepsIn_wide.2 s⟩
theorem Oper.JO{o:Oper}{b:Act}{w:Y}{K:Act->Y->Prop}(n:M)(d:∀c,o.op≠ .defer c)(h:o.wp P b w K Q):o.wpIn Fence.wide n P b w K Q:=by
 unfold Oper.wpIn;refine⟨λf _=>trivial,?_⟩;rw[Oper.semAt_plain Fence.wide _ _ d];unfold Oper.wp at h;generalize(execOp b.eval o).run P w=r at*;cases r with
 |ok x e=>
  cases x<;>simp only[Oper.upon,Oper.uponIn]at h|-<;>first
   |exact h
   |exact⟨(λc=>(by cases c)),cZ.2 h⟩
   |exact⟨(λc=>(by cases c)),It h⟩
   |exact h.elim
 |halt x e=>cases x<;>simp only[Oper.upon,Oper.uponIn]at h|-<;>exact h
theorem BV{n:M}(g:∀(i:M)(o:Oper)j,a[i]?=H o->o.op≠ .defer j)(f:¬LetsOut Q):∀(b:M)(c:Array Bool)(m:Act)(w:Y),wpAny P md a Q b c m w->wpAnyIn Fence.wide n P md a Q b c m w
 |0,_,_,_,h=>h
 |b+1,_,_,_,h=>⟨h.1,λi k=>by
  have d:=uA (λe l j=>BV (n:=n) g f b _ e l j)<|h.2 i k;unfold wpOp at d;unfold wpOpIn;cases ho:a[i]? with
  |none=>simpa[ho]using d
  |some o=>
   simp only[ho]at d|-;split
   .rename_i e;simp only[e,jf]at d;rcases d with d|d
    .exact Oper.JO n (λj=>g i o j ho) d
    .exact absurd d.2 f
   .rename_i e;simp only[e]at d;exact⟨λ_ _=>trivial,d⟩⟩
theorem AR(S:Y->Prop)(m:M){n id:M}{b:Act}{w:Y}(e:P.follows .mixedOrders=bU)(d:CX a=bU)(c:∀b w,¬Q .outgrown b w)(h:kR P .any a Q S m a.size (Array.replicate a.size bE) b w.drew):(Code.region id a bU).wpIn Fence.wide n P Q b w:=wpIn_region_any e<|BV (vO d) (λ⟨b,w,h⟩=>c b w h) _ _ _ _<|ou _ _ _ _ h
end
def pD.alloc{w:Y}(h:pD w)(o:Obj):pD (ct w o):=by
 unfold pD at*;rw[fa _ _ _<|da _ _ h];exact h
def MP(n:X)(k:pD a):cw bF 16 #[.iface 55<|am n] a λm l=>m=aO (am n)/\Below (z<|G a) a l:=by
 have e:aS (ct a<|aq #[am 0] 55) (R (z<|G a) 0)=H (am 0):=by simp
 have d:(ct a<|aq #[am 0] 55).frozen? (R (z<|G a) 0)=bE:=by simp
 have i:=XM n (R (z<|G a) 0) (am 0) (k.alloc _) e d;clear e d;go_in
 go_wp2_with(go_at_call 48;refine i.mono ?_;rintro m f⟨rfl,b⟩;have c:Below (z<|G a) a f:=(by rw[b];exact((((((Below.refl _ a).alloc (ah _) _).alloc (by simp) _).alloc (by simp;omega) _).alloc (by simp;omega) _).alloc (by simp;omega) _).setCell (p:=(R (z<|G a) 0)) (ah _) _);have j:aS f (R (z<|G a) 0)=H (am n):=(by rw[b];exact World.cell?_setCell_same' _ _ _ (by rw[fa _ _ _ (by simp;omega),fa _ _ _ (by simp;omega),fa _ _ _ (by simp;omega),fa _ _ _<|by simp];simp));have g:=U c;clear b c)
 go_ret;exact⟨rfl,g⟩
section
open Go.Extern.Stop Go.Stop Go.Extern
def Pz(a:TypeId)(v:aa)(w:Y):(binOp .eql 50 (.iface a v) .nilIface).run bF w=.ok (aL bE) w:=by
 have h:∀d:M,(Op.equalIn (d+1) 50 (.iface a v) .nilIface).run bF w=.ok bE w:=λd=>by simp[Op.equalIn,eB underlying50]
 simp only[binOp];simp[Op.equal,Op.maxDepth,h 9999]
def US:(prog.info? 55).map (·.comparable)=H bU:=by kernel_rfl
def Ut(n:X)(w:Y):cw bF 98 #[.nilIface,.iface 55<|am n] w λe a=>e=aO (aL bE)/\a=w:=by
 have b:∀w,(binOp .eql 50 .nilIface<|.iface 55<|am n).run bF w=.ok (aL bE) w:=λw=>run_eql_iface_nil_left w _ _ underlying50;go_in
 go_wp2;go_ret;exact⟨rfl,rfl⟩
def yG(h:aa)(w:Y):(Go.method 545 230 (eD #[h]) "Comparable").run bF w=.ok (340,eD #[h]) w:=by kernel_rfl
def EG(w:Y):(ReflectliteType.method (λt=>do Rtype.noPackHeld "Comparable" t;(λa:TypeInfo=>aL a.comparable)<$>typeInfo t) #[eD #[fh<|H<|R (7) 55]]).run bF w=.ok (aL bU) w:=by kernel_rfl
def YE(v:aa)(a:TypeId)(w:Y):(Instr.typeAssert (.iface 219 v) a 337 bU).run bF w=.ok (dA #[.nilIface,aL bE]) w:=run_typeAssert_lacksB underlying337 (by kernel_rfl) (by kernel_rfl) v a w
def VF(v:aa)(a:TypeId)(w:Y):(Instr.typeAssert (.iface 219 v) a 238 bU).run bF w=.ok (dA #[.iface 219 v,aL bU]) w:=run_typeAssert_hasB underlying238 (by kernel_rfl) v a w
def IL(v:aa)(w:Y):(Go.method 545 219 v "Unwrap").run bF w=.ok (337,v) w:=by kernel_rfl
def MK(a:M)(n:X)(w:Y)(h:aS w (R a 1)=H (am n)):cw bF 337 #[aw a] w λe b=>e=aO (.iface 55<|am n)/\b=w:=by
 go_in
 go_wp2;go_ret;exact⟨rfl,rfl⟩
def Sk(n:X)(w:Y):(binOp .eql 50 (.iface 55<|am n)<|.iface 55<|am n).run bF w=.ok (aL bU) w:=by
 obtain⟨i,b,a⟩:=pK.1 US;have h:∀d:M,(Op.equalIn (d+2) 50 (.iface 55<|am n)<|.iface 55<|am n).run bF w=.ok bU w:=λd=>by simp[Op.equalIn,eB underlying50,eB underlying55,typeInfo,b,a]
 simp only[binOp];simp[Op.equal,Op.maxDepth,h 9998]
def RJ(a:M)(n:X)(w:Y)(h:aS w (R a 1)=H (am n)):cw bF 156 #[.iface 219<|aw a,.iface 55<|am n,aL bU] w λe b=>e=aO (aL bU)/\b=w:=by
 have g:∀w,(binOp .eql 50 (.iface 219<|aw a)<|.iface 55<|am n).run bF w=.ok (aL bE) w:=λw=>run_eql_iface_types _ _ _ _ underlying50 (by decide) w;have i:=Sk n;have j:=Pz;have d:=YE;have f:=VF;have m1:=IL;have c:=MK a n w h;go_in
 go_wp2;refine ld 2 ?_;rw[gZ];go_wp2_with fail
 apply c.mono;rintro e b⟨rfl,rfl⟩;go_wp2;rw[gZ];go_wp2;go_ret;exact⟨rfl,rfl⟩
def Pt(a:M)(n:X)(w:Y)(h:aS w (R a 1)=H (am n)):cw bF 98 #[.iface 219<|aw a,.iface 55<|am n] w λf b=>f=aO (aL bU)/\b=w:=by
 have i:=Pz;have c:=@eV bF 125 _ ReflectliteType.typeOf func125 (by kernel_rfl) (by kernel_rfl) (by kernel_rfl) (by kernel_rfl);have d:=@eV bF 340 _ (ReflectliteType.method (λt=>do Rtype.noPackHeld "Comparable" t;pure (aL (<-typeInfo t).comparable))) func340 (by kernel_rfl) (by kernel_rfl) (by kernel_rfl) (by kernel_rfl);have k:=DL;have j:=yG;have g:=EG;have e:=RJ a n w h;go_in
 go_wp2_with fail
 apply e.mono;rintro f b⟨rfl,rfl⟩;go_wp2;go_ret;exact⟨rfl,rfl⟩
end
structure oP where
 live:Bool
 v:aa
 l:iB
def FB:cr oP->iV
 |[]=>[]
 |x::r=>.bool x.live::x.v::FB r
def MZ(a:cr oP):y (FB a)=y a*2:=by
 induction a with
 |nil=>rfl
 |cons x r b=>simp only[FB,ay,b];omega
def zS:∀(a:cr oP)(j:M)(h:j<y a),(FB a)[j*2]?=H (aL a[j].live)/\(FB a)[j*2+1]?=H a[j].v
 |[],j,h=>absurd h<|gH _
 |x::r,0,_=>⟨rfl,rfl⟩
 |x::r,j+1,h=>by
  have b:=zS r j (by simpa using h);have e:(j+1)*2=j*2+1+1:=by omega
  rw[e];simp only[FB,oU,cD];exact b
structure Mw(w:Y)(sv:aa)(ss:cr oP):Prop where
 row:Row w 2 sv (y ss) (FB ss)
 each:∀x∈ss,x.live=bU->jk w x.v x.l/\∀g,bV x.v=H g->g<z (G w)
 shape:∀x∈ss,∃p n c,x.v=I p n c
 small:y ss<=1000000000
def XQ(u:aa):Prop:=(∃b,u=aL b)\/∃x n c,u=I x n c
def zG(w:Y)(v:aa):Prop:=∀k a t b,bV v=H k->w.heap[k]?=H (aq a t b)->∀u∈a.toList,XQ u
def zG.ar{S:fI}{w w':Y}(l:zG w d)(j:Z S w w')(e:∀k,bV d=H k->¬S k)(h:∀k,bV d=H k->k<z (G w)):zG w' d:=λk a t c b g=>l k a t c b<|(j.block k (h k b)<|e k b).symm.trans g
def zG.set{h i:M}{t:TypeId}{k:M×M}(n:zG a d)(f:bV d=H h)(c:a.heap[h]?=H (aq V t k))(m:XQ s):zG (bZ a (R h i) s) d:=by
 intro p j o l e b x g;rw[f]at e;cases e;rw[aQ c]at b;cases b;rw[nt]at g;rcases jL g with q|q;exact n h _ _ _ f c x q;rw[q];exact m
def JA(a:cr oP)(n:X):Option oP:=if n<1 then none else match a[(n-1).toNat]? with
 |some x=>if x.live then H x else none
 |none=>none
def FW(a:cr oP)(n:X):aa:=match JA a n with
 |some x=>.tuple #[x.v,.int .i64 0]
 |none=>.tuple #[aK,.int .i64 5]
def yi(Q:Option M)(c:cr oP)(u:X)(h:mj a b Q K D d)(e:Mw a d c):cw bF 52 #[aw b,am u] a λac V=>ac=aO (if D then .tuple #[aK,am 6]else FW c u)/\V=a:=by
 obtain⟨⟨al,t,N,_⟩,_,_⟩:=h;have A:=cellAt t 1 rfl;have B:=cellAt t 2 rfl;have O:=e.small;clear t N;cases D with
 |true=>
  clear e;go_in
  go_wp2;go_ret2
  exact⟨rfl,rfl⟩
 |false=>
  by_cases n:u<1
  .have k:=U (show FW c u=dA #[aK,am 5]by unfold FW JA;rw[dw n]);clear e;go_in
   go_wp2;go_ret2
   exact⟨k▸rfl,rfl⟩
  .obtain⟨j,rfl⟩:∃j:M,u=(j:X)+1:=⟨(u-1).toNat,by omega⟩;have l:((j:X)+1-1).toNat=j:=by omega
   by_cases o:j<y c
   .obtain⟨q,r⟩:=zS c j o;obtain⟨ad,T,S,p⟩:=e.shape c[j]<|ap o;rcases e.row.2 with⟨_,v⟩|⟨W,f,m,rfl,L,g⟩
    .omega
    have w:=g _ _ q;have P:=g _ _ r;rw[p,<-aV]at P;have s:¬((y c:X)<(j:X)+1):=by omega
    have C:IntKind.i64.wrap ((j:X)+1-1)=j:=by rw[bO];omega
    have E:(j:X)+1-1=j:=by omega
    have F:(j:X)<(y c:X):=by omega
    have x:¬((j:X)+1<1):=n;cases hlv:c[j].live with
    |true=>
     have k:=U (show FW c ((j:X)+1)=dA #[I ad T S,am 0]by unfold FW JA;rw[cY n,l,aH o];simp[hlv,p]);rw[hlv]at w;clear e g q r p hlv l;go_in
     go_wp2;go_ret2
     exact⟨k▸rfl,rfl⟩
    |false=>
     have k:=U (show FW c ((j:X)+1)=dA #[aK,am 5]by unfold FW JA;rw[cY n,l,aH o];simp[hlv]);rw[hlv]at w;clear e g q r p hlv l;go_in
     go_wp2;go_ret2
     exact⟨k▸rfl,rfl⟩
   .have k:=U (show FW c ((j:X)+1)=dA #[aK,am 5]by unfold FW JA;rw[cY n,l,dq<|by omega]);have s:(y c:X)<(j:X)+1:=by omega
    rcases e.row.shape with rfl|⟨W,f,m,rfl⟩
    .have q:y c=0:=by
      rcases e.row.2 with⟨_,v⟩|⟨W,f,m,p,_⟩
      .exact v
      .cases p
     have g:(0:X)<(j:X)+1:=by omega
     clear e l;go_in
     go_wp2;go_ret2
     exact⟨k▸rfl,rfl⟩
    .clear e l;go_in
     go_wp2;go_ret2
     exact⟨k▸rfl,rfl⟩
def Dd{a:cr oP}{x:oP}(h:JA a m=H x):x∈a/\x.live=bU:=by
 unfold JA at h;split at h;cases h;split at h;rename_i d c;split at h;rename_i b;cases h;exact⟨gp c,b⟩;cases h;cases h
def xJ(a:cr oP)(n:X)(k:ab):ab×Bool×X:=match JA a n with
 |some x=>sf x.l k
 |none=>(⟨#[]⟩,bE,5)
def IA(r:Option M)(e:cr oP)(n:X)(k:ab)(h:mj a b r K D d)(f:Mw a d e)(t:∀x∈e,y x.l<=1000000000000)(l:k.size<=140737488351232):cw bF 37 #[aw b,am n,J k] a λm u=>
 m=aO (if D then .tuple #[J ⟨#[]⟩,aL bE,am 6]else .tuple #[J (xJ e n k).1,aL (xJ e n k).2.1,am (xJ e n k).2.2])/\u=a:=by
 have c:=yi r e n h f
 clear h
 cases D with
 |true=>
  simp only[jf]at c|-;clear f;go_in
  go_wp2_with fail
  apply c.mono;rintro m s⟨rfl,rfl⟩;go_wp2;go_ret3
  exact⟨rfl,rfl⟩
 |false=>
  simp only[io,ke]at c|-;cases hx:JA e n with
  |none=>
   have j:=U (show xJ e n k=(⟨#[]⟩,bE,5)by unfold xJ;rw[hx]);have g:FW e n=dA #[aK,am 5]:=by unfold FW;rw[hx]
   rw[g]at c;clear f g hx;go_in
   go_wp2_with fail
   apply c.mono;rintro m s⟨rfl,rfl⟩;go_wp2;go_ret3
   exact⟨by rw[ae j];rfl,rfl⟩
  |some x=>
   obtain⟨i,p⟩:=Dd hx;have j:=U (show xJ e n k=sf x.l k by unfold xJ;rw[hx]);have g:FW e n=dA #[x.v,am 0]:=by unfold FW;rw[hx]
   rw[g]at c;have o:=Py k (f.each x i p).1 (t x i) l;obtain⟨B,w,v,q⟩:=f.shape x i;rw[q]at c o;clear f g hx i p q;go_in
   go_wp2_with fail
   apply c.mono;rintro m s⟨rfl,rfl⟩;go_wp2_with fail
   apply o.mono;rintro m A⟨rfl,rfl⟩;go_wp2;go_ret3
   exact⟨by rw[ae j];rfl,rfl⟩
def FH(t:Option M)(f:cr oP)(p:X)(o m:ab)(c:X)(h:mj a b t K D d)(g:Mw a d f)(A:∀x∈f,y x.l<=1000000000000):cw bF 39 #[aw b,am p,J o,J m,am c] a λq u=>
 ∃e,q=.returned (.tuple #[e,.int .i64<|if D then 6 else if(JA f p).isSome then 0 else 5])/\oQ u (z<|G a) e (if D then []else match JA f p with|some x=>mJ x.l o m c|none=>[])/\Below (z<|G a) a u:=by
 have e:=yi t f p h g
 clear h
 cases D with
 |true=>
  simp only[jf]at e|-;clear g;go_in
  go_wp2_with fail
  apply e.mono;rintro q v⟨rfl,rfl⟩;go_wp2;go_ret2
  exact⟨_,rfl,bJ _ _ _ _,Below.refl _ _⟩
 |false=>
  simp only[io,ke]at e|-;cases hx:JA f p with
  |none=>
   have l:FW f p=dA #[aK,am 5]:=by unfold FW;rw[hx]
   rw[l]at e;clear g l hx;simp only[Option.isSome_none,io,ke];go_in
   go_wp2_with fail
   apply e.mono;rintro q v⟨rfl,rfl⟩;go_wp2;go_ret2
   exact⟨_,rfl,bJ _ _ _ _,Below.refl _ _⟩
  |some x=>
   obtain⟨k,n⟩:=Dd hx;have l:FW f p=dA #[x.v,am 0]:=by unfold FW;rw[hx]
   rw[l]at e;have r:=CG o m c (g.each x k n).1 (g.each x k n).2<|A x k;obtain⟨O,C,B,s⟩:=g.shape x k;rw[s]at e r;clear g l hx k n s;simp only[Option.isSome_some,jf];go_in
   go_wp2_with fail
   apply e.mono;rintro q v⟨rfl,rfl⟩;go_wp2_with fail
   apply r.mono;rintro q N⟨L,rfl,i,j⟩;obtain⟨F,E,rfl⟩:=aB i;have w:=U<|And.intro i j;clear i j;go_wp2;go_ret2
   exact⟨_,rfl,w⟩
def Pe:∀(a:cr oP)(j:M)(x:oP),j<y a->FB (a.set j x)=((FB a).set (j*2)<|aL x.live).set (j*2+1) x.v
 |[],j,x,h=>absurd h<|gH _
 |yqq::r,0,x,_=>rfl
 |yqq::r,j+1,x,h=>by
  have b:=Pe r j x (by simpa using h);have e:(j+1)*2=j*2+1+1:=by omega
  rw[e];simp only[FB,fT,b]
def AG:oP:=⟨bE,aK,[]⟩
def TN{d:cr oP}(x:oP)(q:a.ownsRow b 118 2 (bC c 0 (y d) g) (y d) (FB d))(p:l<y d):(bZ (bZ a (R c<|l*2)<|aL x.live) (R c<|l*2+1) x.v).ownsRow b 118 2 (bC c 0 (y d) g) (y<|d.set l x) (FB<|d.set l x):=by
 refine⟨MZ _,.inr ?_⟩;rcases q.2 with⟨f,t⟩|⟨s,n,r,f,j,o,e,k,h,m⟩;cases f;cases f;refine⟨c,g,_,by rw[eM],j,aQ<|aQ o,by rw[eM];exact e,k,by simpa using h,?_⟩;simp only[nt,List.take_set,eM,m];exact(Pe d l x p).symm
def yQ(k:Option M)(f:cr oP)(n:X)(h:mj a b k K D d)(g:Mw a d f)(j:D=bU\/JA f n=none):cw bF 21 #[aw b,am n] a λl m=>l=aO (am<|if D then 6 else 5)/\m=a:=by
 have c:=yi k f n h g;clear h g;cases D with
 |true=>
  simp only[jf]at c|-;go_in
  go_wp2_with fail
  apply c.mono;rintro l o⟨rfl,rfl⟩;go_wp2;go_ret;exact⟨rfl,rfl⟩
 |false=>
  have e:JA f n=none:=j.elim (λq=>by cases q) id;have i:FW f n=dA #[aK,am 5]:=by unfold FW;rw[e]
  simp only[io,ke]at c|-;rw[i]at c;clear j e i;go_in
  go_wp2_with fail
  apply c.mono;rintro l o⟨rfl,rfl⟩;go_wp2;go_ret;exact⟨rfl,rfl⟩
def DS(F:Option M)(e:cr oP)(j:M)(an:oP)(h:mj a b F K bE d)(l:Mw a d e)(p:JA e ((j:X)+1)=H an)(A:j<y e)(o:a.ownsRow c 118 2 d (y e) (FB e))(B:zG a d):cw bF 21 #[aw b,am<|(j:X)+1] a λao t=>ao=aO (am 0)/\t.ownsRow c 118 2 d (y<|e.set j AG) (FB<|e.set j AG)/\a.grownBy t (bV d)/\zG t d:=by
 have f:=yi F e ((j:X)+1) h l;have E:FW e ((j:X)+1)=dA #[an.v,am 0]:=by unfold FW;rw[p]
 simp only[io,ke]at f;obtain⟨av,pn,pc,D⟩:=l.shape an (Dd p).1;rw[E,D]at f;obtain⟨⟨ax,x,_,_⟩,_,_⟩:=h;have P:=cellAt x 1 rfl;have ad:=l.small;rcases o.2 with⟨_,h0⟩|⟨O,N,al,rfl,Q,m,W,ac,n,r⟩;omega;obtain⟨v,w⟩:=zS e j A;have k:∀i,a.frozen? (R O i)=bE:=λi=>dJ m;have f0:=k<|j*2;have f1:=k<|j*2+1;rcases l.row.2 with⟨q,_⟩|⟨au,s,u,q,C,g⟩;cases q;cases q;have k0:=g _ _ v;have k1:=g _ _ w;rw[cR]at k0 k1;have L:=U<|And.intro (TN AG o A) (And.intro (xI (cW a O (j*2)<|aL AG.live)<|cW _ O (j*2+1) AG.v) ((B.set (i:=j*2) rfl m<|.inl ⟨AG.live,rfl⟩).set (i:=j*2+1) rfl (aQ m)<|.inr ⟨none,0,0,rfl⟩));have S:IntKind.i64.wrap ((j:X)+1-1)=j:=by rw[bO];omega
 have T:(j:X)+1-1=j:=by omega
 have V:(j:X)<(y e:X):=by omega
 clear l p E D x o m n r g v w k B;go_in
 go_wp2_with fail
 apply f.mono;rintro ao w1⟨rfl,rfl⟩;clear f;go_wp2;go_ret;exact⟨rfl,L⟩
def mj.set(j:a.heap[b]?=H (aq #[d,N,aL D] 46 (0,0)))(h:Below (z<|G a) a f)(l:jk f s K)(m:∀k,bV s=H k->k<z (G f))(c:bV s≠H b):mj (bZ f (R b 0) s) b (bV s) K D N/\a.grownBy (bZ f (R b 0) s) (H b):=by
 have e:=cW f b 0 s;have g:f.heap[b]?=H (aq #[d,N,aL D] 46 (0,0)):=by rw[h.block b<|aj j];exact j
 exact⟨⟨⟨s,by rw[aQ g];rfl,Row.grown l e<|.inl c,rfl⟩,c,λk b=>ag (m k b) e.size⟩,xI (Mm h _) e⟩
def rY(r:Option M){c:uz}(h:mj a b r K D s)(V:xW a d c)(m:∀k,bV d=H k->k<z (G a))(hr:y K+y c<=1000000000000):cw bF 15 #[aw b,d] a λt w'=>
 t=aO (am<|if D then 6 else fY c)/\(∃e,mj w' b e (if D=bE/\fY c=0 then SO K c else K) D s/\(e=r\/∀k,e=H k->z (G a)<=k))/\a.grownBy w' (H b):=by
 have S:=U h
 obtain⟨⟨av,l,W,v⟩,p,o⟩:=h
 have C:=cellAt l 0 rfl
 have an:=cellAt l 2 rfl
 have E:=dJ (i:=0) l
 have q:b<z (G a):=aj l
 obtain⟨HH,Q,HL,w,x,A,B⟩:=ww l W (show∀k,bV av=H k->k<z (G a)fromλk c=>o k<|v▸c) V m (show bV av≠H b from v▸p) v
 clear l W v o V m p
 cases D with
 |true=>
  go_in
  go_wp2;go_ret;exact⟨rfl,⟨r,S,.inl rfl⟩,td _ _⟩
 |false=>
  by_cases u:fY c=0
  .have F:(fY c==0)=bU:=by rw[u];rfl
   have au:fY c=0:=u;clear u;rcases Q.shape with rfl|⟨ax,N,ad,rfl⟩;all_goals
    go_in
    go_wp2_with fail
    apply(Ho w<|by omega).mono;rintro t w0⟨rfl,rfl⟩;go_wp2_with fail
    apply(XF c Q HL w x hr).mono;rintro t w1⟨O,rfl,g,n,j,e⟩;have ao:w1.frozen? (R b 0)=bE:=(e.frozen<|by exact q).trans E;have al:aS w1 (R b 0)=_:=(e.cell<|by exact q).trans C;have f:bV O≠H b:=λt=>by rcases j with h|h;exact A<|h▸t;exact absurd (h b t)<|by omega
    have P:=U<|mj.set HH e g n f;have L:=g.shape;have HOr:=U (show bV O=r\/∀k,bV O=H k->z (G w0)<=k from j.imp (λt=>t.trans B) id);clear g n e f j;rcases L with rfl|⟨b1,ac,T,rfl⟩;all_goals
     go_wp2;go_ret;exact⟨rfl,⟨_,P.1,HOr⟩,P.2⟩
  .have F:(fY c==0)=bE:=kK.2 u;go_in
   go_wp2_with fail
   apply(Ho w<|by omega).mono;rintro t w0⟨rfl,rfl⟩;go_wp2;go_ret;exact⟨rfl,⟨r,S,.inl rfl⟩,td _ _⟩
def KD(k:Option M)(h:mj a b k K D d):cw bF 29 #[aw b] a λl o=>
 l=aO (aw<|z<|G a)/\mj o (z<|G a) k K bE aK/\∃c,o=ct a c:=by
 obtain⟨⟨v,m,f,n⟩,i,c⟩:=h
 have q:=cellAt m 0 rfl
 have fin:mj (ct a<|aq #[v,aK,aL bE] 46) (z<|G a) k K bE aK:=⟨⟨v,fw _ _,Row.grown f (dt a _ none) (by rcases f.shape with rfl|⟨r,e,g,rfl⟩;exact .inr rfl;exact .inl<|by simp[bV]),n⟩,λl=>by have:=c _ l;omega,λi l=>by have:=c i l;simp;omega⟩
 have p:=U fin
 have j:=f.shape
 clear fin m f n i c
 rcases j with rfl|⟨r,e,g,rfl⟩
 all_goals
  go_in
  go_wp2;go_ret;exact⟨rfl,p,_,rfl⟩
structure Gb where
 kd:X
 A:X
 B:X
 S:ab
 T:ab
 L:aa
 cs:uz
def Gb.cells(o:Gb):iV:=[am o.kd,am o.A,am o.B,J o.S,J o.T,o.L]
def rp(a:cr Gb):iV:=a.flatMap Gb.cells
def qe(a:cr Gb)(i:M)(h:i<y a)(j:M)(d:j<6):(rp a)[i*6+j]?=a[i].cells[j]?:=by
 induction a generalizing i with
 |nil=>simp at h
 |cons o a c=>
  have e:rp (o::a)=o.cells++rp a:=rfl;have b:y o.cells=6:=rfl;rcases i with _|i
  .rw[e,gd (by rw[b];omega)];simp
  .rw[e,dD (by rw[b];omega),b];have:(i+1)*6+j-6=i*6+j:=by omega
   rw[this,c i<|by simpa using h];rfl
def Gd(a:uz):M:=(a.map<|λc=>1+c.key.size+c.val.size).sum
def XR(o:Gb):M:=o.S.size+o.T.size+Gd o.cs
def Fu(a:cr Gb):M:=(a.map XR).sum
def VD(w:Y)(v:aa)(a:uz):Prop:=(xW w v a/\∀k,bV v=H k->k<z (G w))\/(a=[]/\∃(b:Addr)(c:M),v=I (H b) 0 c)
def Bo{e:uz}(j:VD a d e):∃x h,d=I x (y e) h:=by
 rcases j with⟨⟨k,⟨b,g⟩|⟨i,f,c,b,_⟩⟩,_⟩|⟨rfl,l,h,rfl⟩;exact⟨none,0,by rw[b,g]⟩;exact⟨_,_,b⟩;exact⟨_,_,rfl⟩
def VD.ar{w w':Y}{b:uz}(h:VD w d b)(e:Z az w w'):VD w' d b:=by
 rcases h with⟨g,c⟩|h;exact .inl ⟨e.row g<|λk a=>⟨id,c k a⟩,λk a=>ag (c k a) e.size⟩;exact .inr h
structure Fk(w:Y)(v:aa)(os:cr Gb):Prop where
 row:Row w 6 v (y os) (rp os)
 Vi:∀o∈os,VD w o.L o.cs
 lt:∀k,bV v=H k->k<z (G w)
 str:∀o∈os,o.S.size<=140737488351232/\o.T.size<=140737488351232
 YU:∀o∈os,∀c∈o.cs,c.key.size<=140737488351232/\c.val.size<=140737488351232
 len:y os<=10000000000000
 lens:∀o∈os,y o.cs<=10000000000000
def SS(a:uz)(k:M)(h:k<y a):Gd (a.take<|k+1)=Gd (a.take k)+(1+a[k].key.size+a[k].val.size):=by
 unfold Gd;rw[ai h,aM,gl];simp
def JN(a:cr Gb)(i:M)(h:i<y a):Fu (a.take<|i+1)=Fu (a.take i)+XR a[i]:=by
 unfold Fu;rw[ai h,aM,gl];simp
def SU(a:uz)(k:M):Gd (a.take k)<=Gd a:=by
 unfold Gd;conv=>rhs;rw[<-bW k a,aM,gl]
 omega
def SQ(a:cr Gb)(k:M):Fu (a.take k)<=Fu a:=by
 unfold Fu;conv=>rhs;rw[<-bW k a,aM,gl]
 omega
def Na(bf d bn:M)(b:cr Gb)(h:Fk a (bC bf d (y b) bn) b):cw bF 6 #[bC bf d (y b) bn] a λbr w'=>br=aO (aL<|decide<|y b+Fu b<=1048576)/\∃q,w'=a.drewN q:=by
 by_cases bl:1048576<y b;(·(have e1:(1048576:X)<(y b:X):=by omega);(have K:decide (y b+Fu b<=1048576)=bE:=by simp;omega);rw[K];clear h;(go_in);go_wp2;go_ret;exact⟨rfl,0,rfl⟩);(·(have e1:¬((1048576:X)<(y b:X)):=by omega);(have m:∀W:Y,W.heap=a.heap->∀k(V:k<y b),aS W (R bf<|d+k*6+3)=H (J b[k].S)/\aS W (R bf<|d+k*6+4)=H (J b[k].T)/\aS W (R bf<|d+k*6+5)=H b[k].L:=λW g k V=>by obtain⟨r,⟨L,p⟩|⟨o,f,e,L,i,l⟩⟩:=h.row;cases L;(have c:∀j u,(rp b)[j]?=H u->aS W (R bf<|d+j)=H u:=λj u n=>by cases L;rw[cH (w:=a)<|by rw[g]];exact l j u n);refine⟨?_,?_,?_⟩;rw[aV];exact c _ _<|(qe b k V 3<|by omega).trans rfl;rw[aV];exact c _ _<|(qe b k V 4<|by omega).trans rfl;rw[aV];exact c _ _<|(qe b k V 5<|by omega).trans rfl);have B:=U m;have HS:=U h;clear h m;(go_in);(go_wp2_with fail);(go_loopw [3,4] (λnv c wr=>∃k:M,k<=y b/\c=am k/\nv=am (y b+Fu (b.take k):M)/\y b+Fu (b.take k)<=1048576/\∃q,wr=a.drewN q) (λ_ c _=>y b-(intOf c).toNat));(case atStart=>exact⟨0,bw _,rfl,by simp[Fu],by simp[Fu];omega,0,rfl⟩);(case round=>obtain⟨k,V,rfl,rfl,o,q,rfl⟩:=hrel;by_cases t:k<y b;(.have j:=ap t;obtain⟨c3,c4,c5⟩:=B a rfl k t;have al:=HS.str _ j;have D:=HS.YU _ j;have n:=HS.Vi _ j;have ba:=HS.lens _ j;have ad:=JN b k t;have ac:=SQ b<|k+1;have u:XR b[k]=b[k].S.size+b[k].T.size+Gd b[k].cs:=rfl;have bb:∃x lc,b[k].L=I x (y b[k].cs) lc:=Bo n;obtain⟨lx,lc,hL⟩:=bb;rw[hL]at c5 n;generalize b[k]=bs at*;obtain⟨bq,oA,oB,oS,oT,oL,c⟩:=bs;simp only at c3 c4 c5 al D n ba u hL;obtain⟨p,bc⟩:∃p,oS.size=p:=⟨_,rfl⟩;obtain⟨A,bd⟩:∃A,oT.size=A:=⟨_,rfl⟩;obtain⟨e,hM⟩:∃e,y b+Fu (b.take k)=e:=⟨_,rfl⟩;rw[hM]at o|-;rw[bc,bd]at al u;(have a1:IntKind.i64.wrap ((e:X)+(p:X))=(e:X)+p:=by rw[bO];omega);(have a2:IntKind.i64.wrap ((e:X)+(p:X)+(A:X))=(e:X)+p+A:=by rw[bO];omega);(have e2:(k:X)<(y b:X):=by omega);(have e3:(0:X)<=(k:X):=by omega);obtain⟨O,N,Q,HM,au,an⟩:=kF ad ac u hM D n;clear ad ac u hM D n j;(go_wp2_with fail);(go_quiet(fail));rename_i nq;(go_wp2_with fail);(go_loopw [3,5] (λnv b wr=>∃l:M,l<=y c/\b=am l/\nv=am (e+p+A+Gd (c.take l):M)/\(0<l->e+p+A+Gd (c.take l)<=1048576)/\∃q,wr=a.drewN q) (λ_ b _=>y c-(intOf b).toNat));(case atStart=>exact⟨0,bw _,rfl,by simp[Gd],λbn=>absurd bn (by omega),q+nq,vi a q nq⟩);(case round=>obtain⟨l,hk,rfl,rfl,i,L,rfl⟩:=hrel;by_cases f:l<y c;(·(have hx:∃F g,lx=H (R F g)/\aS a (R F<|g+l*3)=H (J c[l].key)/\aS a (R F<|g+l*3+1)=H (J c[l].val):=by rcases ae an with⟨⟨z1,⟨z2,z0⟩|⟨F,g,bg,z2,bm,T⟩⟩,_⟩|⟨z3,_⟩;omega;cases z2;obtain⟨w1,w2,_⟩:=kT c l f;exact⟨F,g,rfl,T _ _ w1,by rw[aV];exact T _ _ w2⟩;rw[z3]at f;simp at f);obtain⟨F,g,W,d0,d1⟩:=hx;subst W;have ax:=au _<|ap f;have s:=SS c l f;have C:=SU c<|l+1;obtain⟨v,w⟩:∃v,c[l].key.size=v:=⟨_,rfl⟩;obtain⟨E,x⟩:∃E,c[l].val.size=E:=⟨_,rfl⟩;rw[w,x]at ax s;obtain⟨P,r⟩:∃P,e+p+A+Gd (c.take l)=P:=⟨_,rfl⟩;rw[r]at i|-;(have bp:P<=281474977759232:=by rcases l with _|l;simp[Gd]at r;omega;have:=i (by omega);omega);generalize c[l]=cc at*;obtain⟨bi,bk,bh⟩:=cc;simp only at d0 d1 w x;(have b1:IntKind.i64.wrap ((P:X)+1)=(P:X)+1:=by rw[bO];omega);(have b2:IntKind.i64.wrap ((P:X)+1+(v:X))=(P:X)+1+v:=by rw[bO];omega);(have b3:IntKind.i64.wrap ((P:X)+1+(v:X)+(E:X))=(P:X)+1+v+E:=by rw[bO];omega);(have f1:(l:X)<(y c:X):=by omega);(have f0:(0:X)<=(l:X):=by omega);obtain⟨HP,ao,bo⟩:=dB r s C;by_cases av:1048576<P+1+v+E;(·(have K:decide (y b+Fu b<=1048576)=bE:=by have h1:=ae O;have S:=ae N;have h3:=ae Q;have h4:=ae HM;simp;omega);(have f2:(1048576:X)<(P:X)+1+v+E:=by omega);clear r s C i;(go_wp2_with fail);(go_quiet(fail));go_wp2;go_ret;exact⟨(by first|rfl|(rw[K];rfl)),_,rfl⟩);(·(have f2:¬((1048576:X)<(P:X)+1+v+E):=by omega);clear r s C i;(go_wp2_with fail);(go_quiet(fail));rename_i T;go_wp2;go_roundw;(case rel=>have h1:=ae HP;have S:=ae ao;refine⟨l+1,f,by go_num,?_,λ_=>by omega,_,rfl⟩;rw[S];congr 1;omega);case measure=>simp[intOf];omega));(·(have g:l=y c:=by omega);subst g;rw[bN]at i|-;obtain⟨P,r⟩:∃P,e+p+A+Gd c=P:=⟨_,rfl⟩;rw[r]at i|-;(have f1:¬((y c:X)<(y c:X)):=by omega);have h1:=ae O;have S:=ae N;have h3:=ae Q;have h4:=ae HM;by_cases av:1048576<P;(·(have K:decide (y b+Fu b<=1048576)=bE:=by simp;omega);(have f2:(1048576:X)<(P:X):=by omega);clear h1 S h3 h4 r i;go_wp2;go_ret;exact⟨(by first|rfl|(rw[K];rfl)),L,rfl⟩);(·(have f2:¬((1048576:X)<(P:X)):=by omega);(have v:y b+Fu (b.take<|k+1)=P:=by omega);have s:=U v;clear h1 S h3 h4 r i v;go_wp2;go_roundw;(case rel=>exact⟨k+1,t,by go_num,by rw[ae s],by rw[ae s];omega,L,rfl⟩);case measure=>simp[intOf];omega))));(have c:k=y b:=by omega);subst c;rw[bN]at o|-;(have e2:¬((y b:X)<(y b:X)):=by omega);(have K:decide (y b+Fu b<=1048576)=bU:=by simp;exact o);go_wp2;go_ret;exact⟨rfl,q,rfl⟩))
