import Derived.BigQuiet
import Derived.Conc.MuLone
import Derived.Deep.QuietTactic
import Derived.Deep.RegionLawGrows
import Derived.LaidEql
import Derived.Lib.EndianBits
import Derived.OrdersHeld
import Derived.OrdersIn
import Derived.Outline
import Derived.OwnWalkIn
import Derived.RangeFuncCalls
import Derived.RowKitTokens
import Derived.Stop.Asserts
import Derived.Test.YtgbhcncpienkcaaGreatDoorChecked
import Derived.WalkLawsBesides
import Derived.Test.YtgbhcncpienkcaaGreatDoorC0
open _root_ renaming List.length→y,Option.some→H,Array.size→z,Go.World.heap→G,Go.Value.ownBlock→ct,Go.World.cell?→aO,Go.World.setCell→cA,Go.World.alloc→cF,Bool.false→aY,Bool.true→bU,Nat→M,Int→Z,List→cw,Go.Calls→cD,Go.Proofs.Tryz.prog→bz,Go.Value.slice→J,Go.Value.string→aj,Go.Value.bool→aK,Go.Value.pointer→fj,Go.Value.tuple→dw,Go.Value.agg→dW
namespace Go.Proofs.YtgbhcncpienkcaaGreatDoor
open ChangeShapes WideShapes RowKit Proofs.Tryz List
set_option maxHeartbeats 16000000
set_option linter.all false
set_option maxRecDepth 100000
variable{a f C:Y}{b c g l A Q:M}{d u N:aa}{m K:Z}{X:fA}{W:ab}{x:iC}{D:Bool}{T:Type}{V:Array aa}
abbrev KV:=ab×ab
abbrev jN:=cw KV
def qu(p:KV):iC:=[aj p.1,aj p.2]
def ib(l:cw KV):iC:=l.flatMap qu
def og(l:cw KV)(i:M)(h:i<y l):(ib l)[i*2]?=H (aj l[i].1)/\(ib l)[i*2+1]?=H (aj l[i].2):=by
 induction l generalizing i with
 |nil=>simp at h
 |cons p r a=>
  cases i with
  |zero=>simp[ib,qu]
  |succ i=>
   have:=a i (by simpa using h);have e:(i+1)*2=i*2+2:=by omega
   rw[e];simpa[ib,qu]using this
def Row(w:Y)(c:M)(v:aa)(n:M)(d:iC):Prop:=y d=n*c/\((v=aD/\n=0)\/∃e a b,v=bB e a n b/\n<=b/\∀j u,d[j]?=H u->aO w (R e<|a+j)=H u)
def mT(w:Y)(v:aa)(l:cw KV):Prop:=Row w 2 v (y l)<|ib l
def Fz:(prog.info? 164).map (λi=>(i.zero,i.size,i.bytes))=H (H<|dW #[aj ⟨#[]⟩,aj ⟨#[]⟩],2,32):=by kernel_rfl
theorem Oi{b:ab}(h:W.toList=b.toList):W=b:=by
 rw[sg,sg]at h;exact bytes_inj h
def wl{b:ab}(h:¬W=b):(W.toList==b.toList)=aY:=by
 rw[jx];grind[Oi]
def FC(a k:ab):Bool:=!Op.bytesLess a.toList k.toList
def fX(k v:ab)(a:cw KV×Bool)(p:KV):cw KV×Bool:=let b:=if !a.2&&FC p.1 k then a.1++[(k,v)]else a.1;(if p.1=k then b else b++[p],a.2||FC p.1 k)
def qh(k v:ab)(d:Bool)(l:cw KV):cw KV×Bool:=l.foldl (fX k v) ([],d)
def wU(l:cw KV)(k v:ab)(d:Bool):cw KV:=if(qh k v d l).2 then(qh k v d l).1 else(qh k v d l).1++[(k,v)]
def OG(k v:ab)(d:Bool)(l:cw KV)(n:M)(h:n<y l):qh k v d (l.take<|n+1)=fX k v (qh k v d<|l.take n) l[n]:=by
 unfold qh;rw[ah h,iL];rfl
theorem Es(k v:ab)(a:cw KV×Bool)(p:KV):y (fX k v a p).1<=y a.1+2:=by
 unfold fX;grind
theorem Hj{v b c:ab}{a:cw KV}(h:b=W):fX W v (a,bU) (b,c)=(a,bU):=by simp[fX,h]
theorem Hi{v b c:ab}{a:cw KV}(h:¬b=W):fX W v (a,bU) (b,c)=(a++[(b,c)],bU):=by simp[fX,h]
def RK{v b c:ab}{a:cw KV}(d:Op.bytesLess b.toList W.toList=bU)(h:b=W):fX W v (a,aY) (b,c)=(a,aY):=by
 unfold fX FC;grind
def RJ{v b c:ab}{a:cw KV}(d:Op.bytesLess b.toList W.toList=bU)(h:¬b=W):fX W v (a,aY) (b,c)=(a++[(b,c)],aY):=by
 unfold fX FC;grind
def RO{v b c:ab}{a:cw KV}(d:Op.bytesLess b.toList W.toList=aY)(h:b=W):fX W v (a,aY) (b,c)=(a++[(W,v)],bU):=by
 unfold fX FC;grind
def RM{v b c:ab}{a:cw KV}(d:Op.bytesLess b.toList W.toList=aY)(h:¬b=W):fX W v (a,aY) (b,c)=(a++[(W,v)]++[(b,c)],bU):=by
 unfold fX FC;grind
def Jm(k v:ab)(d:Bool)(l:cw KV):y (qh k v d l).1<=2*y l:=by
 unfold qh
 have:∀(l:cw KV)(a:cw KV×Bool),y (l.foldl (fX k v) a).1<=y a.1+2*y l:=by
  intro l;induction l with
  |nil=>grind
  |cons p r b=>grind[length_cons,Es]
 grind
def iV(a b:cw KV):ib (a++b)=ib a++ib b:=by simp[ib]
def jd(h:a.ownsRow b c g d l x)(e:f.heap=a.heap):f.ownsRow b c g d l x:=by
 unfold World.ownsRow at*;rw[e];exact h
def kD{h wr W c:Y}(f:Below b h wr)(a:b<=z (G wr))(i:eL W c d u)(O:Obj)(e:(W.os,W.tape,W.output,W.heap)=((cF wr O).os,(cF wr O).tape,(cF wr O).output,(cF wr O).heap))(g:∀k,ct d=H k->b<=k):Below b h c:=(Below.of_heap (f.alloc a O) e).grown i.grown (by simp only[ji]at e;rw[e.2.2.2];simp;omega) g
def pu(w:Y)(a:M)(o:aa)(l:cw KV):Prop:=w.ownsRow a 164 2 o (y l)<|ib l
def pu.of{l:cw KV}(h:a.ownsRow b 164 2 d c x)(e:c=y l)(f:x=ib l):pu a b d l:=by subst e;subst f;exact h
def lO(w:Y)(x a:aa)(t:TypeId):∀j u,[x,a][j]?=H u->aO (cF w<|ar #[x,a] t) (((R (z<|G w) 0):Addr).add j)=H u:=by
 intro j u b;rw[du];simp_all
def UV(p:cw KV)(an b ao:M)(k v:ab)(Q:Bool)(w:Y)(hr:y p<=1000000000000)(O:∀j,j<y p->aO w (R an<|b+j*2)=H (aj (p[j]?.getD (⟨#[]⟩,⟨#[]⟩)).1)/\aO w (R an<|b+j*2+1)=H (aj (p[j]?.getD (⟨#[]⟩,⟨#[]⟩)).2))(hb:an<z (G w)):cD bz 90 #[bB an b (y p) ao,dW #[aj k,aj v,aK Q]] w λbh w'=>∃v',bh=aL v'/\pu w' (z (G w)+1) v' (wU p k v Q)/\Below (z<|G w) w w':=by
 obtain⟨i0,hi,B,C,D⟩:=cH Fz;have HC:=U O;clear O;go_in
 go_wp2;go_loopw [5,6,7] (λa bf j wr=>∃(o:M),o<=y p/\j=ap o/\bf=aK (qh k v Q<|p.take o).2/\pu wr (z (G w)+1) a (qh k v Q<|p.take o).1/\Below (z (G w)+1) (cF w<|ar #[aj k,aj v,aK Q] 126) wr) (λ_ _ j _=>y p-(intOf j).toNat)
 case atStart=>exact⟨0,bj _,rfl,rfl,bK _ _ _ _,Below.refl _ _⟩
 case round=>
  obtain⟨o,hn,rfl,rfl,m,c⟩:=hrel;have bc:aO wr (R (z<|G w) 0)=H (aj k):=by rw[c.cell<|by simp];simp
  have bd:aO wr (R (z<|G w) 1)=H (aj v):=by rw[c.cell<|by simp];simp
  have x:y (qh k v Q<|p.take o).1<=2*o:=by have:=Jm k v Q<|p.take o;grind
  have N:z (G w)+1<=z (G wr):=by have:=c.size;simp_all
  by_cases L:o<y p
  .have T:aO wr (R an<|b+o*2)=H (aj (p[o]?.getD (⟨#[]⟩,⟨#[]⟩)).1):=by rw[c.cell (by simp;omega),ia hb];exact(HC o L).1
   have V:aO wr (R an<|b+o*2+1)=H (aj (p[o]?.getD (⟨#[]⟩,⟨#[]⟩)).2):=by rw[c.cell (by simp;omega),ia hb];exact(HC o L).2
   have X:=U<|OG k v Q p o L;generalize qh k v Q (p.take o)=E at*;obtain⟨W,q⟩:=E;have r:=U m;have F:=U c;clear m c;have au:p[o]?.getD (⟨#[]⟩,⟨#[]⟩)=p[o]:=by simp[L]
   rw[au]at T V;generalize p[o]=bf at*;obtain⟨g,K⟩:=bf;simp only at T V x;cases q with
   |true=>
    go_wp2_with fail
    go_quiet(fail)
    go_wp2_with fail
    by_cases i:g=k
    .have u:(g.toList==k.toList)=bU:=by rw[i];simp
     have l:=U<|X.trans<|Hj i;clear i;go_quiet(fail)
     go_wp2;go_roundw;case rel=>exact⟨o+1,by omega,by go_num,by rw[ae l],by rw[ae l];exact jd r rfl,Below.of_heap F rfl⟩
     case measure=>simp[intOf];omega
    .have u:(g.toList==k.toList)=aY:=wl i;have l:=U<|X.trans<|Hi i;clear i;go_quiet(fail)
     go_wp2_with(first
      |(at_builtin;refine bO _ rfl (.tmp 44) (.tmp 49) 32 rfl (z (G w)+1) 164 i0 (.agg #[.string ⟨#[]⟩,.string ⟨#[]⟩]) 2 32 underlying32 hi B C D rfl (by decide) _ _ _ rfl (jd (aN r (.cells #[.string g,.string K] 164)) ?chT) (R (z (G wr)) 0) 1 1 [.string g,.string K] rfl rfl ?c1T ?c2T ?c3T ?c4T ?c5T ?_))
     case chT=>rfl
     case c1T=>exact lO _ _ _ _
     case c2T=>intro bg A;simp at A;rcases A with rfl|rfl<;>rfl
     case c3T=>grind
     case c4T=>grind
     case c5T=>simp;omega
     intro o2 w2 a e;have t:=U a;have S:=U e;clear a e;go_wp2;go_roundw;case rel=>exact⟨o+1,by omega,by go_num,by rw[ae l],by rw[ae l];exact pu.of t (by simp) (by simp[iV];rfl),kD F N S (ar #[aj g,aj K] 164) rfl<|λO j=>(aG r O j).1⟩
     case measure=>simp[intOf];omega
   |false=>
    by_cases hL:Op.bytesLess g.toList k.toList=bU
    .have HG:=U hL;go_wp2_with fail
     go_quiet(fail)
     go_wp2_with fail
     by_cases i:g=k
     .have u:(g.toList==k.toList)=bU:=by rw[i];simp
      have l:=U<|X.trans<|RK HG i;clear i;go_quiet(fail)
      go_wp2;go_roundw;case rel=>exact⟨o+1,by omega,by go_num,by rw[ae l],by rw[ae l];exact jd r rfl,Below.of_heap F rfl⟩
      case measure=>simp[intOf];omega
     .have u:(g.toList==k.toList)=aY:=wl i;have l:=U<|X.trans<|RJ HG i;clear i;go_quiet(fail)
      go_wp2_with(first
       |(at_builtin;refine bO _ rfl (.tmp 44) (.tmp 49) 32 rfl (z (G w)+1) 164 i0 (.agg #[.string ⟨#[]⟩,.string ⟨#[]⟩]) 2 32 underlying32 hi B C D rfl (by decide) _ _ _ rfl (jd (aN r (.cells #[.string g,.string K] 164)) ?chL) (R (z (G wr)) 0) 1 1 [.string g,.string K] rfl rfl ?c1L ?c2L ?c3L ?c4L ?c5L ?_))
      case chL=>rfl
      case c1L=>exact lO _ _ _ _
      case c2L=>intro bg A;simp at A;rcases A with rfl|rfl<;>rfl
      case c3L=>grind
      case c4L=>grind
      case c5L=>simp;omega
      intro o2 w2 a e;have t:=U a;have S:=U e;clear a e;go_wp2;go_roundw;case rel=>exact⟨o+1,by omega,by go_num,by rw[ae l],by rw[ae l];exact pu.of t (by simp) (by simp[iV];rfl),kD F N S (ar #[aj g,aj K] 164) rfl<|λO j=>(aG r O j).1⟩
      case measure=>simp[intOf];omega
    .have aq:Op.bytesLess g.toList k.toList=aY:=by grind
     clear hL;have HG:=U aq;go_wp2_with fail
     go_quiet(fail)
     go_wp2_with(first
      |(at_builtin;refine bO _ rfl (.tmp 28) (.tmp 34) 32 rfl (z (G w)+1) 164 i0 (.agg #[.string ⟨#[]⟩,.string ⟨#[]⟩]) 2 32 underlying32 hi B C D rfl (by decide) _ _ _ rfl (jd (aN r (.cells #[.string k,.string v] 164)) ?chY) (R (z (G wr)) 0) 1 1 [.string k,.string v] rfl rfl ?c1Y ?c2Y ?c3Y ?c4Y ?c5Y ?_))
     case chY=>rfl
     case c1Y=>exact lO _ _ _ _
     case c2Y=>intro bg A;simp at A;rcases A with rfl|rfl<;>rfl
     case c3Y=>grind
     case c4Y=>grind
     case c5Y=>simp;omega
     intro o1 P f n;have d:Below (z (G w)+1) (cF w<|ar #[aj k,aj v,aK Q] 126) P:=kD F N n (ar #[aj k,aj v] 164) rfl<|λO j=>(aG r O j).1;have ax:aO P (R (z<|G w) 0)=H (aj k):=by rw[d.cell<|by simp];simp
     have ba:aO P (R an<|b+o*2)=H (aj g):=by rw[d.cell (by simp;omega),<-(ae F).cell (by simp;omega)];exact T
     have bb:aO P (R an<|b+o*2+1)=H (aj K):=by rw[d.cell (by simp;omega),<-(ae F).cell (by simp;omega)];exact V
     have al:z (G w)+1<=z (G P):=by have:=d.size;simp_all
     have ad:pu P (z (G w)+1) o1 (W++[(k,v)]):=pu.of f (by simp) (by simp[iV];rfl);have av:y (W++[(k,v)])<=2*o+1:=by simp;omega
     have s:=U ad;have ac:=U d;clear f n d ad;go_wp2_with fail
     by_cases i:g=k
     .have u:(g.toList==k.toList)=bU:=by rw[i];simp
      have l:=U<|X.trans<|RO HG i;clear i;go_quiet(fail)
      go_wp2;go_roundw;case rel=>exact⟨o+1,by omega,by go_num,by rw[ae l],by rw[ae l];exact jd s rfl,Below.of_heap ac rfl⟩
      case measure=>simp[intOf];omega
     .have u:(g.toList==k.toList)=aY:=wl i;have l:=U<|X.trans<|RM HG i;clear i;go_quiet(fail)
      go_wp2_with(first
       |(at_builtin;refine bO _ rfl (.tmp 44) (.tmp 49) 32 rfl (z (G w)+1) 164 i0 (.agg #[.string ⟨#[]⟩,.string ⟨#[]⟩]) 2 32 underlying32 hi B C D rfl (by decide) _ _ _ rfl (jd (aN s (.cells #[.string g,.string K] 164)) ?chZ) (R (z (G P)) 0) 1 1 [.string g,.string K] rfl rfl ?c1Z ?c2Z ?c3Z ?c4Z ?c5Z ?_))
      case chZ=>rfl
      case c1Z=>exact lO _ _ _ _
      case c2Z=>intro bg A;simp at A;rcases A with rfl|rfl<;>rfl
      case c3Z=>grind
      case c4Z=>grind
      case c5Z=>simp;omega
      intro o2 w2 a e;have t:=U a;have S:=U e;clear a e;go_wp2;go_roundw;case rel=>exact⟨o+1,by omega,by go_num,by rw[ae l],by rw[ae l];exact pu.of t (by simp) (by simp[iV];rfl),kD ac al S (ar #[aj g,aj K] 164) rfl<|λO j=>(aG s O j).1⟩
      case measure=>simp[intOf];omega
  .have a:p.take o=p:=cZ (by omega);rw[a]at m x|-;have e:=U<|show wU p k v Q=if(qh k v Q p).2 then(qh k v Q p).1 else(qh k v Q p).1++[(k,v)]from rfl;generalize qh k v Q p=E at*;obtain⟨W,q⟩:=E;simp only at x;have r:=U m;have F:=U c;clear m c;have fin:∀w2,Below (z (G w)+1) (cF w<|ar #[aj k,aj v,aK Q] 126) w2->Below (z<|G w) w w2:=λw2 h=>((Below.refl _ w).alloc (ai _) _).trans (h.mono<|by omega);have d:=U fin;clear fin;cases q with
   |true=>
    go_wp2;go_ret;exact⟨_,rfl,by rw[ae e];exact r,ae d _ F⟩
   |false=>
    go_wp2_with(first
     |(at_builtin;refine bO _ rfl (.tmp 53) (.tmp 59) 32 rfl (z (G w)+1) 164 i0 (.agg #[.string ⟨#[]⟩,.string ⟨#[]⟩]) 2 32 underlying32 hi B C D rfl (by decide) _ _ _ rfl (jd (aN r (.cells #[.string k,.string v] 164)) ?chX) (R (z (G wr)) 0) 1 1 [.string k,.string v] rfl rfl ?c1X ?c2X ?c3X ?c4X ?c5X ?_))
    case chX=>rfl
    try(case c1X=>exact lO _ _ _ _)
    case c2X=>exact⟨rfl,rfl⟩
    case c3X=>omega
    case c4X=>omega
    case c5X=>omega
    intro o1 P f n;have s:=U f;have S:=U n;clear f n;go_wp2;go_ret;exact⟨_,rfl,by rw[ae e];exact pu.of s (by simp) (by simp[iV];rfl),ae d _<|kD F N S (ar #[aj k,aj v] 164) rfl<|λO j=>(aG r O j).1⟩
theorem XN(k v:ab)(m:Bool)(w:Y):cD bz 90 #[aD,dW #[aj k,aj v,aK m]] w λB r=>∃q,B=aL q/\pu r (z (G w)+1) q (wU [] k v m)/\Below (z<|G w) w r:=by
 obtain⟨A,t,i,j,l⟩:=cH Fz;go_in
 go_wp2;go_loopw [5,6,7] (λo p i wr=>i=ap 0/\p=aK m/\o=aD/\Below (z (G w)+1) (cF w<|ar #[aj k,aj v,aK m] 126) wr) (λ_ _ _ _=>0)
 case atStart=>grind[Below.refl]
 case round=>
  obtain⟨rfl,rfl,rfl,a⟩:=hrel;have u:aO wr (R (z<|G w) 0)=H (aj k):=by rw[a.cell<|by simp];simp
  have x:aO wr (R (z<|G w) 1)=H (aj v):=by rw[a.cell<|by simp];simp
  have g:z (G w)+1<=z (G wr):=by have:=a.size;simp_all
  have c:pu wr (z (G w)+1) aD []:=bK _ _ _ _;have e:=U c;have n:=U a;clear c a;have fin:∀a,Below (z (G w)+1) (cF w<|ar #[aj k,aj v,aK m] 126) a->Below (z<|G w) w a:=λa h=>((Below.refl _ w).alloc (ai _) _).trans (h.mono<|by omega);have o:=U fin;clear fin;cases m with
  |true=>
   go_wp2;go_ret;exact⟨_,rfl,e,ae o _ n⟩
  |false=>
   go_wp2_with(first
    |(at_builtin;refine bO _ rfl (.tmp 53) (.tmp 59) 32 rfl (z (G w)+1) 164 A (.agg #[.string ⟨#[]⟩,.string ⟨#[]⟩]) 2 32 underlying32 t i j l rfl (by decide) _ _ _ rfl (jd (aN e (.cells #[.string k,.string v] 164)) ?chX) (R (z (G wr)) 0) 1 1 [.string k,.string v] rfl rfl ?c1X ?c2X ?c3X ?c4X ?c5X ?_))
   case chX=>rfl
   try(case c1X=>exact lO _ _ _ _)
   case c2X=>intro E p;simp at p;rcases p with rfl|rfl<;>rfl
   case c3X=>simp_all
   case c4X=>simp_all
   case c5X=>first|omega|(simp;omega)
   intro C D b d;have f:=U b;have s:=U d;clear b d;go_wp2;go_ret;exact⟨_,rfl,pu.of f rfl rfl,ae o _<|kD n g s (ar #[aj k,aj v] 164) rfl<|λb a=>(aG e b a).1⟩
def da(j:a.ownsRow c g l d A x):Row a l d A x:=by
 refine⟨j.1,?_⟩;rcases j.2 with⟨rfl,m⟩|⟨i,e,h,rfl,_,_,f,_⟩;grind
 refine .inr ⟨i,0,e,rfl,f,λn u k=>?_⟩;have:=j.cells (g:=i) rfl n u k;rwa[du]at this
def pu.Me{l:cw KV}(h:pu a b d l):mT a d l:=da h
def XO(l:cw KV)(n v:ab)(g:Bool)(k:mT a d l)(j:∀p,ct d=H p->p<z (G a))(m:y l<=1000000000000):cD bz 90 #[d,dW #[aj n,aj v,aK g]] a λq f=>∃e,q=aL e/\pu f (z (G a)+1) e (wU l n v g)/\Below (z<|G a) a f:=by
 obtain⟨s,⟨rfl,r⟩|⟨o,b,c,rfl,i,t⟩⟩:=k;grind[eq_nil_of_length_eq_zero,XN]
 refine UV l o b c n v g a m (λw h=>?_)<|j o rfl;have u:=og l w h;grind
structure Qz where
 key:ab
 val:ab
 del:Bool
abbrev uP:=cw Qz
variable{F:jN}
def oP(c:Qz):iC:=[aj c.key,aj c.val,aK c.del]
def eX(l:cw Qz):iC:=l.flatMap oP
def kX(l:cw Qz)(i:M)(h:i<y l):(eX l)[i*3]?=H (aj l[i].key)/\(eX l)[i*3+1]?=H (aj l[i].val)/\(eX l)[i*3+2]?=H (aK l[i].del):=by
 induction l generalizing i with
 |nil=>simp at h
 |cons p r a=>
  cases i with
  |zero=>simp[eX,oP]
  |succ i=>
   have:=a i (by simpa using h);have e:(i+1)*3=i*3+3:=by omega
   rw[e];simpa[eX,oP]using this
def yp(w:Y)(v:aa)(l:cw Qz):Prop:=Row w 3 v (y l)<|eX l
def wt:Bool->M
 |true=>0
 |false=>1
def Er(k v:ab)(a:jN×Bool)(p:KV):y (fX k v a p).1+wt (fX k v a p).2<=y a.1+wt a.2+1:=by
 obtain⟨c,q⟩:=a;obtain⟨b,d⟩:=p;cases q<;>cases hg:FC b k<;>by_cases h:b=k<;>(simp only[fX,hg];simp[h,wt])
theorem Lr(l:jN)(k v:ab)(d:Bool):y (wU l k v d)<=y l+1:=by
 have b:∀(l:jN)(a:jN×Bool),y (l.foldl (fX k v) a).1+wt (l.foldl (fX k v) a).2<=y a.1+wt a.2+y l:=by
  intro l;induction l with
  |nil=>intro a;simp
  |cons p r c=>intro a;simp only[iU,aS];have:=c<|fX k v a p;have:=Er k v a p;omega
 have h:=b l ([],d);have f:wt d<=1:=by cases d<;>simp[wt]
 simp only[dH]at h;unfold wU qh;split<;>rename_i e;omega;(have a:(List.foldl (fX k v) ([],d) l).2=aY:=by simpa using e);rw[a,show wt aY=1 from rfl]at h;rw[af];grind
def Us(l:jN)(a:cw Qz):jN:=a.foldl (λl c=>wU l c.key c.val c.del) l
def WP(l:jN)(a:cw Qz)(n:M)(h:n<y a):Us l (a.take<|n+1)=wU (Us l<|a.take n) a[n].key a[n].val a[n].del:=by
 unfold Us;rw[ah h,iL];rfl
def FL(l:jN)(a:cw Qz):y (Us l a)<=y l+y a:=by
 unfold Us;induction a generalizing l with
 |nil=>simp
 |cons c r b=>grind[length_cons,Lr]
def ZI(c:cw Qz)(B:mT a d F)(A:∀g,ct d=H g->g<z (G a))(hc:yp a u c)(m:∀g,ct u=H g->g<z (G a))(hr:y F+y c<=1000000000000):cD bz 56 #[d,u] a λal S=>∃x,al=aL x/\mT S x (Us F c)/\(∀g,ct x=H g->g<z (G S))/\(ct x=ct d\/∀g,ct x=H g->z (G a)<=g)/\Below (z<|G a) a S:=by
 obtain⟨h1,⟨rfl,h0⟩|⟨V,e,ac,rfl,ad,s⟩⟩:=hc;(.obtain rfl:c=[]:=aP h0;have L:=U B;have K:=U A;clear B A m;(go_in);go_wp2;(go_loopw [0,5] (λT W wr=>W=ap 0/\T=d/\wr=a) (λ_ _ _=>0));(case atStart=>grind);(case round=>obtain⟨rfl,rfl,rfl⟩:=hrel;go_wp2;go_ret;exact⟨_,rfl,L,K,.inl rfl,Below.refl _ _⟩))
 .have l:V<z (G a):=m V rfl;obtain⟨L,K,E⟩:=dA B A s;clear B A m s;go_in
  go_wp2;go_loopw [0,5] (λT W wr=>∃n:M,n<=y c/\W=ap n/\mT wr T (Us F<|c.take n)/\(∀g,ct T=H g->g<z (G wr))/\(ct T=ct d\/∀g,ct T=H g->z (G a)<=g)/\Below (z<|G a) a wr) (λ_ W _=>y c-(intOf W).toNat)
  case atStart=>exact⟨0,bj _,rfl,L,K,.inl rfl,Below.refl _ _⟩
  case round=>
   obtain⟨n,hn,rfl,f,j,o,b⟩:=hrel;by_cases w:n<y c
   .have k:=kX c n w;have N:aO wr (R V<|e+n*3)=H (aj c[n].key):=(b.cell<|by exact l).trans<|E _ _ k.1;have O:aO wr (R V<|e+n*3+1)=H (aj c[n].val):=(b.cell<|by exact l).trans (by rw[aV];exact E _ _ k.2.1);have P:aO wr (R V<|e+n*3+2)=H (aK c[n].del):=(b.cell<|by exact l).trans (by rw[aV];exact E _ _ k.2.2);have HS:=U<|WP F c n w;have v:y (Us F<|c.take n)<=1000000000000:=by have:=FL F<|c.take n;grind
    obtain⟨C,D,p⟩:=dA f j b;clear k f j b o;generalize Q:c[n]=ce at*;obtain⟨ck,cv,cd⟩:=ce;clear Q;simp only at N O P;go_wp2_with(first
     |(go_at_call 90;refine(XO _ ck cv cd C D v).mono ?_;rintro al w1⟨X,rfl,i,q⟩))
    have r:Below (z<|G a) a w1:=p.trans<|q.mono p.size;have t:∀g,ct X=H g->g<z (G w1):=λg k=>(aG i g k).2;obtain⟨K1,K2,K3,K4⟩:=gH i.Me r t (show∀g,ct X=H g->z (G a)<=g fromλg k=>by have:=(aG i g k).1;have:=p.size;omega);clear i q r t;go_wp2;go_roundw;case rel=>exact⟨n+1,by omega,by go_num,by rw[ae HS];exact K1,K3,.inr K4,K2⟩
    case measure=>simp[intOf];omega
   .have i:c.take n=c:=cZ (by omega);rw[i]at f;obtain⟨C,D,p,k⟩:=gH f j b o;clear f j b o;go_wp2;go_ret;exact⟨_,rfl,C,D,k,p⟩
def qt(l:jN)(k:ab):ab×Bool:=match l with
 |[]=>(⟨#[]⟩,aY)
 |p::r=>if p.1=k then(p.2,bU)else qt r k
def Ta(h:b<y F)(e:F[b].1=W):qt (F.drop b) W=(F[b].2,bU):=by
 rw[aZ h];simp[qt,e]
def Pu(h:b<y F)(e:¬F[b].1=W):qt (F.drop b) W=qt (F.drop<|b+1) W:=by
 rw[aZ h];simp[qt,e]
def VO(k:ab)(x:mT a d F)(L:y F<=1000000000000):cD bz 141 #[d,aj k] a λE C=>E=aL (dw #[aj (qt F k).1,aK (qt F k).2])/\C=a:=by
 obtain⟨v,⟨rfl,u⟩|⟨D,b,t,rfl,w,q⟩⟩:=x;(.obtain rfl:F=[]:=aP u;(go_in);go_wp2;(go_loop [6] (λs=>s=ap 0) (λ_=>0));(case atStart=>rfl);(case round=>obtain rfl:=hrel;go_wp2;(go_ret2);exact⟨rfl,rfl⟩));(.have p:=U q;clear q v;(go_in);go_wp2;(go_loop [6] (λs=>∃n:M,n<=y F/\s=ap n/\qt F k=qt (F.drop n) k) (λs=>y F-(intOf s).toNat));(case atStart=>grind);(case round=>obtain⟨n,K,rfl,r⟩:=hrel;have i:=U r;clear r;by_cases e:n<y F;(.have m:=og F n e;have f:aO a (R D<|b+n*2)=H (aj F[n].1):=p _ _ m.1;(have g:aO a (R D<|b+n*2+1)=H (aj F[n].2):=by rw[aV];exact p _ _ m.2);clear m;by_cases c:F[n].1=k;(.have j:=U<|i.trans<|Ta e c;generalize F[n]=A at*;obtain⟨o,B⟩:=A;simp only at f g c;(have l:(o.toList==k.toList)=bU:=by rw[c];simp);clear c;go_wp2;(go_ret2);exact⟨by rw[ae j];rfl,rfl⟩);(.have j:=U<|i.trans<|Pu e c;generalize F[n]=A at*;obtain⟨o,B⟩:=A;simp only at f g c;have l:(o.toList==k.toList)=aY:=wl c;clear c;go_wp2;(go_round);(case rel=>exact⟨n+1,by omega,by go_num,j⟩);case measure=>simp[intOf];omega));(have c:F.drop n=[]:=by simp;omega);go_wp2;(go_ret2);exact⟨by rw[ae i,c];rfl,rfl⟩))
def oO(m t:Z):Z:=if m<1\/32<m\/t<2\/6<t then 1 else 0
def CP(m t:Z)(w:Y):cD bz 33 #[ap m,ap t] w λe b=>e=aL (ap<|oO m t)/\b=w:=by
 by_cases c:m<1;(.have a:=U (show oO m t=1 by unfold oO;rw[dz<|by omega]);(go_in);go_wp2;go_ret;exact⟨by rw[ae a];rfl,rfl⟩);by_cases d:32<m;(.have a:=U (show oO m t=1 by unfold oO;rw[dz<|by omega]);(go_in);go_wp2;go_ret;exact⟨by rw[ae a];rfl,rfl⟩);by_cases f:t<2;(.have a:=U (show oO m t=1 by unfold oO;rw[dz<|by omega]);(go_in);go_wp2;go_ret;exact⟨by rw[ae a];rfl,rfl⟩);by_cases g:6<t;(.have a:=U (show oO m t=1 by unfold oO;rw[dz<|by omega]);(go_in);go_wp2;go_ret;exact⟨by rw[ae a];rfl,rfl⟩);have a:=U (show oO m t=0 by unfold oO;rw[dr<|by omega]);(go_in);go_wp2;go_ret;exact⟨by rw[ae a];rfl,rfl⟩
def lJ:uP->Z
 |[]=>0
 |c::r=>if c.key.size=0\/8<c.key.size then 3 else if c.del=aY/\16<c.val.size then 4 else lJ r
def ga(a:uP):Z:=if 8<y a then 2 else lJ a
def Dj{a:uP}(h:b<y a)(e:a[b].key.size=0\/8<a[b].key.size):lJ (a.drop b)=3:=by
 rw[aZ h,lJ,dz e]
def Di{a:uP}(h:b<y a)(e:¬(a[b].key.size=0\/8<a[b].key.size))(f:a[b].del=aY/\16<a[b].val.size):lJ (a.drop b)=4:=by
 rw[aZ h,lJ,dr e,dz f]
def FR{a:uP}(h:b<y a)(e:¬(a[b].key.size=0\/8<a[b].key.size))(f:¬(a[b].del=aY/\16<a[b].val.size)):lJ (a.drop b)=lJ (a.drop<|b+1):=by
 rw[aZ h,lJ,dr e,dr f]
def II{b:uP}(O:yp a d b)(T:y b<=1000000000000):cD bz 55 #[d] a λQ P=>Q=aL (ap<|ga b)/\P=a:=by
 obtain⟨L,⟨rfl,K⟩|⟨E,c,F,rfl,N,x⟩⟩:=O;(.obtain rfl:b=[]:=aP K;(go_in);go_wp2;(go_loop [3] (λC=>C=ap 0) (λ_=>0));(case atStart=>rfl);(case round=>obtain rfl:=hrel;go_wp2;go_ret;exact⟨rfl,rfl⟩))
 .have r:=U x;clear x L;by_cases w:8<y b
  .have s:=U (show ga b=2 by unfold ga;rw[dz w]);go_in
   go_wp2;go_ret;exact⟨by rw[ae s];rfl,rfl⟩
  .have s:=U (show ga b=lJ b by unfold ga;rw[dr w]);go_in
   go_wp2;go_loop [3] (λC=>∃n:M,n<=y b/\C=ap n/\ga b=lJ (b.drop n)) (λC=>y b-(intOf C).toNat)
   case atStart=>exact⟨0,bj _,rfl,s⟩
   case round=>
    obtain⟨n,S,rfl,A⟩:=hrel;have p:=U A;clear A;by_cases f:n<y b
    .have q:=kX b n f;have k:aO a (R E<|c+n*3)=H (aj b[n].key):=r _ _ q.1;have l:aO a (R E<|c+n*3+1)=H (aj b[n].val):=by rw[aV];exact r _ _ q.2.1
     have m:aO a (R E<|c+n*3+2)=H (aK b[n].del):=by rw[aV];exact r _ _ q.2.2
     clear q;by_cases e:b[n].key.size=0\/8<b[n].key.size
     .have j:=U<|p.trans<|Dj f e;generalize b[n]=D at*;obtain⟨i,v,u⟩:=D;simp only at k l m e;rcases e with e|e
      .have o:((i.size:Z)==0)=bU:=by simp[e]
       go_wp2;go_ret;exact⟨by rw[ae j];rfl,rfl⟩
      .have o:((i.size:Z)==0)=aY:=jx.2 (by omega);go_wp2;go_ret;exact⟨by rw[ae j];rfl,rfl⟩
     .by_cases g:b[n].del=aY/\16<b[n].val.size
      .have j:=U<|p.trans<|Di f e g;generalize b[n]=D at*;obtain⟨i,v,u⟩:=D;simp only at k l m e g;obtain⟨rfl,B⟩:=g;have o:((i.size:Z)==0)=aY:=jx.2 (by omega);have t:¬8<i.size:=by omega
       clear e;go_wp2;go_ret;exact⟨by rw[ae j];rfl,rfl⟩
      .have j:=U<|p.trans<|FR f e g;generalize b[n]=D at*;obtain⟨i,v,u⟩:=D;simp only at k l m e g;have o:((i.size:Z)==0)=aY:=jx.2 (by omega);have t:¬8<i.size:=by omega
       clear e;cases u with
       |true=>
        clear g;go_wp2;go_round
        case rel=>exact⟨n+1,by omega,by go_num,j⟩
        case measure=>simp[intOf];omega
       |false=>
        have B:¬16<v.size:=by simpa using g
        clear g;go_wp2;go_round
        case rel=>exact⟨n+1,by omega,by go_num,j⟩
        case measure=>simp[intOf];omega
    .have e:b.drop n=[]:=by simp;omega
     go_wp2;go_ret;exact⟨by rw[ae p,e];rfl,rfl⟩
def rP(c b:ab)(a:Z)(n:M)(p:KV):Bool:=FC p.1 c&&((b.toList==[])||Op.bytesLess p.1.toList b.toList)&&(decide (a<=0)||decide ((n:Z)<a))
def jT(d c:ab)(a:Z)(b:jN)(p:KV):jN:=if rP d c a (y b) p then b++[p]else b
def nw(l:jN)(c b:ab)(a:Z):jN:=l.foldl (jT c b a) []
def Ui(l:jN)(c b:ab)(a:Z)(n:M)(h:n<y l):nw (l.take<|n+1) c b a=jT c b a (nw (l.take n) c b a) l[n]:=by
 unfold nw;rw[ah h,iL];rfl
def mS(l:jN)(d c:ab)(a:Z):y (nw l d c a)<=y l:=by
 have e:∀(l b:jN),y (l.foldl (jT d c a) b)<=y b+y l:=by
  intro l;induction l with
  |nil=>intro b;simp
  |cons p r f=>
   intro b;simp only[iU,aS];have g:=f<|jT d c a b p;have h:y (jT d c a b p)<=y b+1:=by unfold jT;split<;>simp
   omega
 have:=e l [];simpa[nw]using this
def YF{a:ab}{p:KV}(h:rP W a m (y F) p=bU):jT W a m F p=F++[p]:=by unfold jT;rw[dz h]
def ZM{a:ab}{p:KV}(h:rP W a m (y F) p=aY):jT W a m F p=F:=by unfold jT;rw[dr<|by simp[h]]
def Ks(s:jN)(ad g T:M)(p n:ab)(a:Z)(F:Y)(hr:y s<=1000000000000)(hb:ad<z (G F))(B:∀aq ac,(ib s)[aq]?=H ac->aO F (R ad<|g+aq)=H ac):cD bz 81 #[bB ad g (y s) T,aj p,aj n,ap a] F λan w'=>∃v',an=aL v'/\pu w' (z<|G F) v' (nw s p n a)/\Below (z<|G F) F w':=by
 obtain⟨Q,u,w,x,A⟩:=cH Fz;have HC:=U B;clear B;go_in
 go_wp2;go_loopw [9,10] (λb i wr=>∃o:M,o<=y s/\i=ap o/\pu wr (z<|G F) b (nw (s.take o) p n a)/\Below (z<|G F) F wr) (λ_ i _=>y s-(intOf i).toNat)
 case atStart=>exact⟨0,bj _,rfl,bK _ _ _ _,Below.refl _ _⟩
 case round=>
  obtain⟨o,L,rfl,f,d⟩:=hrel;have v:z (G F)<=z (G wr):=d.size;by_cases N:o<y s
  .have V:=og s o N;have W:aO wr (R ad<|g+o*2)=H (aj s[o].1):=(d.cell<|by exact hb).trans<|HC _ _ V.1;have X:aO wr (R ad<|g+o*2+1)=H (aj s[o].2):=(d.cell<|by exact hb).trans (by rw[aV];exact HC _ _ V.2);clear V;have al:y (nw (s.take o) p n a)<=o:=by have:=mS (s.take o) p n a;grind
   have S:=U<|Ui s p n a o N;have ho:∃au ao,u9=J au (y<|nw (s.take o) p n a) ao:=by
    rcases f.2 with⟨an,k⟩|⟨q,c,b,an,_⟩
    .grind
    grind
   generalize nw (s.take o) p n a=e at*;generalize s[o]=av at*;obtain⟨i,l⟩:=av;simp only at W X;have m:=U f;have r:=U d;clear f d;obtain⟨au,ao,rfl⟩:=ho;have no:∀(L:rP p n a (y e) (i,l)=aY),nw (s.take<|o+1) p n a=e:=λL=>S.trans<|ZM L;have O:∀(L:rP p n a (y e) (i,l)=bU),nw (s.take<|o+1) p n a=e++[(i,l)]:=λL=>S.trans<|YF L;have P:=U no;have t:=U O;clear no O S;cases hA:Op.bytesLess i.toList p.toList with
   |true=>
    have j:=U (ae P<|by simp[rP,FC, *]);go_wp2;go_roundw;case rel=>exact⟨o+1,by omega,by go_num,by rw[ae j];exact m,r⟩
    case measure=>simp[intOf];omega
   |false=>
    cases hH:(n.toList==[])with
    |true=>
     by_cases K:a<=0
     .have D:decide (a<=0)=bU:=by simp[K]
      have j:=U (ae t<|by simp[rP,FC, *]);go_wp2_with(first
       |(at_builtin;refine bO _ rfl (.tmp 47) (.tmp 52) 32 rfl (z (G F)) 164 Q (.agg #[.string ⟨#[]⟩,.string ⟨#[]⟩]) 2 32 underlying32 u w x A rfl (by decide) _ _ _ rfl (jd (aN m (.cells #[.string i,.string l] 164)) ?chQ1) (R (z (G wr)) 0) 1 1 [.string i,.string l] rfl rfl ?c1Q1 ?c2Q1 ?c3Q1 ?c4Q1 ?c5Q1 ?_))
      case chQ1=>rfl
      try(case c1Q1=>exact lO _ _ _ _)
      case c2Q1=>first|exact⟨rfl,rfl⟩|(intro ac q;simp at q;rcases q with rfl|rfl<;>rfl)
      case c3Q1=>first|omega|(simp;omega)
      case c4Q1=>first|omega|(simp;omega)
      case c5Q1=>first|omega|(simp;omega)
      intro o2 w2 b c;have k:=U b;have C:=U c;clear b c;go_wp2;go_roundw;case rel=>exact⟨o+1,by omega,by go_num,by rw[ae j];exact pu.of k (by simp) (by simp[iV];rfl),kD r v C (ar #[aj i,aj l] 164) rfl<|λf d=>(aG m f d).1⟩
      case measure=>simp[intOf];omega
     .have D:decide (a<=0)=aY:=by simp[K]
      by_cases B:(y e:Z)<a
      .have E:decide ((y e:Z)<a)=bU:=by simp[B]
       have j:=U (ae t<|by simp[rP,FC, *]);go_wp2_with(first
        |(at_builtin;refine bO _ rfl (.tmp 47) (.tmp 52) 32 rfl (z (G F)) 164 Q (.agg #[.string ⟨#[]⟩,.string ⟨#[]⟩]) 2 32 underlying32 u w x A rfl (by decide) _ _ _ rfl (jd (aN m (.cells #[.string i,.string l] 164)) ?chQ2) (R (z (G wr)) 0) 1 1 [.string i,.string l] rfl rfl ?c1Q2 ?c2Q2 ?c3Q2 ?c4Q2 ?c5Q2 ?_))
       case chQ2=>rfl
       try(case c1Q2=>exact lO _ _ _ _)
       case c2Q2=>first|exact⟨rfl,rfl⟩|(intro ac q;simp at q;rcases q with rfl|rfl<;>rfl)
       case c3Q2=>first|omega|(simp;omega)
       case c4Q2=>first|omega|(simp;omega)
       case c5Q2=>first|omega|(simp;omega)
       intro o2 w2 b c;have k:=U b;have C:=U c;clear b c;go_wp2;go_roundw;case rel=>exact⟨o+1,by omega,by go_num,by rw[ae j];exact pu.of k (by simp) (by simp[iV];rfl),kD r v C (ar #[aj i,aj l] 164) rfl<|λf d=>(aG m f d).1⟩
       case measure=>simp[intOf];omega
      .have E:decide ((y e:Z)<a)=aY:=by simp[B]
       have j:=U (ae P<|by simp[rP,FC, *]);go_wp2;go_roundw;case rel=>exact⟨o+1,by omega,by go_num,by rw[ae j];exact m,r⟩
       case measure=>simp[intOf];omega
    |false=>
     cases hT:Op.bytesLess i.toList n.toList with
     |true=>
      by_cases K:a<=0
      .have D:decide (a<=0)=bU:=by simp[K]
       have j:=U (ae t<|by simp[rP,FC, *]);go_wp2_with(first
        |(at_builtin;refine bO _ rfl (.tmp 47) (.tmp 52) 32 rfl (z (G F)) 164 Q (.agg #[.string ⟨#[]⟩,.string ⟨#[]⟩]) 2 32 underlying32 u w x A rfl (by decide) _ _ _ rfl (jd (aN m (.cells #[.string i,.string l] 164)) ?chQ3) (R (z (G wr)) 0) 1 1 [.string i,.string l] rfl rfl ?c1Q3 ?c2Q3 ?c3Q3 ?c4Q3 ?c5Q3 ?_))
       case chQ3=>rfl
       try(case c1Q3=>exact lO _ _ _ _)
       case c2Q3=>first|exact⟨rfl,rfl⟩|(intro ac q;simp at q;rcases q with rfl|rfl<;>rfl)
       case c3Q3=>first|omega|(simp;omega)
       case c4Q3=>first|omega|(simp;omega)
       case c5Q3=>first|omega|(simp;omega)
       intro o2 w2 b c;have k:=U b;have C:=U c;clear b c;go_wp2;go_roundw;case rel=>exact⟨o+1,by omega,by go_num,by rw[ae j];exact pu.of k (by simp) (by simp[iV];rfl),kD r v C (ar #[aj i,aj l] 164) rfl<|λf d=>(aG m f d).1⟩
       case measure=>simp[intOf];omega
      .have D:decide (a<=0)=aY:=by simp[K]
       by_cases B:(y e:Z)<a
       .have E:decide ((y e:Z)<a)=bU:=by simp[B]
        have j:=U (ae t<|by simp[rP,FC, *]);go_wp2_with(first
         |(at_builtin;refine bO _ rfl (.tmp 47) (.tmp 52) 32 rfl (z (G F)) 164 Q (.agg #[.string ⟨#[]⟩,.string ⟨#[]⟩]) 2 32 underlying32 u w x A rfl (by decide) _ _ _ rfl (jd (aN m (.cells #[.string i,.string l] 164)) ?chQ4) (R (z (G wr)) 0) 1 1 [.string i,.string l] rfl rfl ?c1Q4 ?c2Q4 ?c3Q4 ?c4Q4 ?c5Q4 ?_))
        case chQ4=>rfl
        try(case c1Q4=>exact lO _ _ _ _)
        case c2Q4=>first|exact⟨rfl,rfl⟩|(intro ac q;simp at q;rcases q with rfl|rfl<;>rfl)
        case c3Q4=>first|omega|(simp;omega)
        case c4Q4=>first|omega|(simp;omega)
        case c5Q4=>first|omega|(simp;omega)
        intro o2 w2 b c;have k:=U b;have C:=U c;clear b c;go_wp2;go_roundw;case rel=>exact⟨o+1,by omega,by go_num,by rw[ae j];exact pu.of k (by simp) (by simp[iV];rfl),kD r v C (ar #[aj i,aj l] 164) rfl<|λf d=>(aG m f d).1⟩
        case measure=>simp[intOf];omega
       .have E:decide ((y e:Z)<a)=aY:=by simp[B]
        have j:=U (ae P<|by simp[rP,FC, *]);go_wp2;go_roundw;case rel=>exact⟨o+1,by omega,by go_num,by rw[ae j];exact m,r⟩
        case measure=>simp[intOf];omega
     |false=>
      have j:=U (ae P<|by simp[rP,FC, *]);go_wp2;go_roundw;case rel=>exact⟨o+1,by omega,by go_num,by rw[ae j];exact m,r⟩
      case measure=>simp[intOf];omega
  .have b:s.take o=s:=cZ (by omega);rw[b]at f;have m:=U f;have r:=U d;clear f d;go_wp2;go_ret;exact⟨_,rfl,m,r⟩
theorem Nz(c b:ab)(a:Z)(w:Y):cD bz 81 #[aD,.string c,.string b,.int .i64 a] w λf e=>∃d,f=.returned d/\pu e (z<|G w) d (nw [] c b a)/\Below (z<|G w) w e:=by
 go_in
 go_wp2;go_loop [9,10] (λo i=>i=.int .i64 0/\o=aD) (λ_ _=>0)
 case atStart=>grind
 (case round=>obtain⟨rfl,rfl⟩:=hrel;go_wp2;go_ret;exact⟨_,rfl,bK _ _ _ _,Below.refl _ _⟩)
def Dn(g f:ab)(b:Z)(m:mT a d F)(l:∀p,ct d=H p->p<z (G a))(n:y F<=1000000000000):cD bz 81 #[d,.string g,.string f,.int .i64 b] a λq i=>∃h,q=.returned h/\pu i (z<|G a) h (nw F g f b)/\Below (z<|G a) a i:=by
 obtain⟨s,⟨rfl,r⟩|⟨o,c,e,rfl,k,j⟩⟩:=m;grind[eq_nil_of_length_eq_zero,Nz]
 exact Ks F o c e g f b a n (l o rfl) j
def Row.shape(j:Row a b d c x):d=aD\/∃g e f,d=bB g e c f:=by
 rcases j.2 with⟨h,_⟩|⟨g,e,f,h,_⟩;exact .inl h;grind
def NA(h:Below (z<|G a) a f)(b:Option M):a.grownBy f b:=⟨h.os,h.tape,h.output,h.size,λk c _=>h.block k c⟩
def Row.grown{g:Option M}(k:Row a b d c x)(o:a.grownBy f g)(j:ct d≠g\/ct d=none):Row f b d c x:=by
 obtain⟨l,m⟩:=k;refine⟨l,?_⟩;rcases m with⟨rfl,r⟩|⟨q,e,h,rfl,i,n⟩;grind
 refine .inr ⟨q,e,h,rfl,i,λs u p=>o.cell (n s u p) ?_⟩;rcases j with k|k;exact k;simp[ct]at k
def su(l:jN)(k:ab):ab×Bool×Z:=if k.size=0\/8<k.size then(⟨#[]⟩,aY,3)else((qt l k).1,(qt l k).2,0)
def Ra(k:ab)(e:mT a d F)(l:y F<=1000000000000)(j:k.size<=140737488351232):cD bz 79 #[d,.string k] a λn m=>n=.returned (.tuple #[.string (su F k).1,.bool (su F k).2.1,.int .i64 (su F k).2.2])/\m=a:=by
 have f:=U e;clear e;by_cases c:k.size=0;(.have b:=U (show su F k=(⟨#[]⟩,aY,3)by unfold su;rw[dz<|.inl c]);(have i:((k.size:Z)==0)=bU:=by rw[c];rfl);(go_in);go_wp2;(go_ret3);exact⟨by rw[ae b];rfl,rfl⟩)
 .have i:((k.size:Z)==0)=aY:=jx.2 (by omega);by_cases g:8<k.size
  .have b:=U (show su F k=(⟨#[]⟩,aY,3)by unfold su;rw[dz<|.inr g]);go_in
   go_wp2;go_ret3
   exact⟨by rw[ae b];rfl,rfl⟩
  .have b:=U (show su F k=((qt F k).1,(qt F k).2,0)by unfold su;rw[dr<|by omega]);go_in
   go_wp2_with(first
    |(go_at_call 141;refine(VO k f l).mono ?_;rintro n o⟨rfl,rfl⟩))
   go_ret3
   exact⟨by rw[ae b];rfl,rfl⟩
structure mO(w:Y)(rb:M)(pb:Option M)(l:jN)(closed:Bool)(sv:aa):Prop where
 iq:∃v,w.heap[rb]?=H (.cells #[v,sv,.bool closed] 35 (0,0))/\mT w v l/\ct v=pb
 ne:pb≠H rb
 lt:∀g,pb=H g->g<z (G w)
def OT(o:Option M)(k:ab)(h:mO a b o F D d)(n:y F<=1000000000000)(e:k.size<=140737488351232):cD bz 42 #[ay b,.string k] a λq p=>
 q=.returned (if D then .tuple #[.string ⟨#[]⟩,.bool aY,.int .i64 6]else .tuple #[.string (su F k).1,.bool (su F k).2.1,.int .i64 (su F k).2.2])/\p=a:=by
 obtain⟨⟨v,c,i,_⟩,_,_⟩:=h
 have l:=cellAt c 0 rfl
 have m:=cellAt c 2 rfl
 have g:=U i
 clear c i
 cases D with
 |true=>
  go_in
  go_wp2;go_ret3
  simp_all
 |false=>
  rcases g.shape with rfl|⟨s,f,j,rfl⟩;all_goals
   go_in
   go_wp2_with(first
    |(go_at_call 79;refine(Ra k g n e).mono ?_;rintro q r⟨rfl,rfl⟩))
   go_ret3
   simp_all
def ud(x:Option M)(k j:ab)(c:Z)(h:mO a b x F D d)(w:y F<=1000000000000):cD bz 44 #[ay b,.string k,.string j,.int .i64 c] a λA p=>
 ∃e,A=.returned (.tuple #[e,.int .i64<|if D then 6 else 0])/\pu p (z<|G a) e (if D then []else nw F k j c)/\Below (z<|G a) a p:=by
 obtain⟨⟨B,i,n,o⟩,_,f⟩:=h
 have u:=cellAt i 0 rfl
 have v:=cellAt i 2 rfl
 have m:=U n
 have s:=U (show∀g,ct B=H g->g<z (G a)fromλg c=>f g<|o▸c)
 clear i n o f
 cases D with
 |true=>
  go_in
  go_wp2;go_ret2
  exact⟨_,rfl,bK _ _ _ _,Below.refl _ _⟩
 |false=>
  rcases m.shape with rfl|⟨K,l,t,rfl⟩;all_goals
   go_in
   go_wp2_with(first
    |(go_at_call 81;refine(Dn k j c m s w).mono ?_;rintro A E⟨C,rfl,g,e⟩;have q:=U g;have r:=U e;clear g e))
   go_ret2
   exact⟨_,rfl,q,r⟩
def Aq(m:Option M)(h:mO a b m F D d):cD bz 29 #[ay b] a λp n=>
 p=.returned (.int .i64<|if D then 6 else 0)/\mO n b m F bU d/\a.grownBy n (H b):=by
 obtain⟨⟨v,f,k,g⟩,c,e⟩:=h
 have q:=cellAt f 2 rfl
 have r:=dE (i:=2) f
 cases D with
 |true=>
  have l:=U<|mO.mk ⟨v,f,k,g⟩ c e;clear f k g c e;go_in
  go_wp2;go_ret;exact⟨rfl,l,tr _ _⟩
 |false=>
  have j:=de a b 2<|.bool bU;have l:=U<|show mO (cA a (R b 2)<|.bool bU) b m F bU d from⟨⟨v,by rw[aT f];rfl,Row.grown k j<|.inl (by rw[g];exact c),g⟩,c,λn p=>ag (e n p) j.size⟩;have o:=U j;clear f k g c e j;go_in
  go_wp2;go_ret;exact⟨rfl,l,o⟩
structure I(S:fA)(w w':Y):Prop where
 os:w'.os=w.os
 tape:w'.tape=w.tape
 output:w'.output=w.output
 size:z (G w)<=z (G w')
 block:∀k,k<z (G w)->¬S k->w'.heap[k]?=w.heap[k]?
theorem I.refl(S:fA)(w:Y):I S w w:=⟨rfl,rfl,rfl,ai _,λ_ _ _=>rfl⟩
def I.trans{S T:fA}{c b e:Y}(h:I S c b)(k:I T b e)(g:∀x,T x->S x\/z (G c)<=x):I S c e:=⟨k.os.trans h.os,k.tape.trans h.tape,k.output.trans h.output,aC h.size k.size,λi a d=>(k.block i (ag a h.size) (λj=>by
 grind)).trans (h.block i a d)⟩
def I.cr{S:fA}{a b c:Y}(h:I S a b)(k:I az b c):I S a c:=h.trans k cO
def I.mono{S T:fA}{a b:Y}(h:I S a b)(d:∀x,S x->T x\/z (G a)<=x):I T a b:=⟨h.os,h.tape,h.output,h.size,λi c e=>h.block i c (λg=>by
 grind)⟩
def I.dJ{S:fA}{b:Option M}(h:a.grownBy C b)(e:∀k,b=H k->S k\/z (G a)<=k):I S a C:=⟨h.os,h.tape,h.output,h.size,λi c d=>h.block i c (λg=>by
 grind)⟩
def I.aR{S:fA}(h:Below (z<|G a) a C):I S a C:=⟨h.os,h.tape,h.output,h.size,λi b _=>h.block i b⟩
def I.below{B:M}(h:I X a f)(b:B<=z (G a))(c:∀k,X k->B<=k):Below B a f:=⟨h.os,h.tape,h.output,h.size,λk d=>h.block k (ag d b) (λe=>by have:=c k e;omega)⟩
def I.cell{a b:Y}(h:I X a b){k i:M}(c:aO a (R k i)=H d)(g:¬X k)(e:k<z (G a)):aO b (R k i)=H d:=(cR (w:=a)<|h.block k e g).trans c
def I.alloc{a b:Y}(h:I X a b)(o:Obj):I X a (b.alloc o):=h.trans (I.dJ (S:=az) (dt b o none)<|by simp)<|by simp
def fm(h:a.grownBy C (H b)):I (λk=>k=b) a C:=I.dJ h<|by grind
def I.setCell(h:I X a f)(k i:M)(u:aa)(b:X k\/z (G a)<=k):I X a (f.setCell (R k i) u):=h.trans (I.dJ (S:=λx=>x=k) (de f k i u)<|by grind)<|by grind
def cK(S:fA)(w:Y){o:Obj}:I S w (cF w o):=(I.refl S w).alloc o
def gW(a:M)(w:Y):I (λk=>k=a) w (cA w (R a b) d):=(I.refl _ w).setCell a b d<|.inl rfl
def I.own{s b:Y}(u:I X s b)(p:s.ownsRow c g l d A x)(o:∀t,ct d=H t->¬X t):b.ownsRow c g l d A x:=by
 obtain⟨k,m⟩:=p;refine⟨k,?_⟩;rcases m with⟨rfl,v⟩|⟨j,a,e,rfl,n,h,r⟩;grind
 exact .inr ⟨j,a,e,rfl,n,(u.block j (am h)<|o j rfl).trans h,r⟩
def I.row(r:I X a f)(p:Row a b d c x)(k:∀q,ct d=H q->¬X q/\q<z (G a)):Row f b d c x:=by
 obtain⟨m,n⟩:=p;refine⟨m,?_⟩;rcases n with⟨rfl,s⟩|⟨l,e,g,rfl,h,o⟩;grind
 exact .inr ⟨l,e,g,rfl,h,λj u m=>r.cell (o j u m) (k l rfl).1 (k l rfl).2⟩
def aA(j:a.ownsRow c g l d A x):∃k i,d=.slice k A i:=by
 rcases j.2 with⟨rfl,rfl⟩|⟨m,e,h,rfl,_⟩;grind
 grind
def bM(i:Row a c d g x):∃j h,d=.slice j g h:=by
 rcases i.2 with⟨rfl,rfl⟩|⟨b,e,f,rfl,_⟩;grind
 grind
theorem fR(i:a.ownsRow b c g d l x){k:M}(f:ct d=H k):∃e,a.heap[k]?=H (.cells e c (0,0)):=by
 rcases i.2 with⟨rfl,_⟩|⟨m,h,e,rfl,_,j,_⟩;cases f;cases f;grind
theorem xJ(i:a.ownsRow b c g d l x){e:M×M}(h:a.heap[A]?=H (.cells V Q e))(f:Q≠c):ct d≠H A:=by
 grind[fR]
def kS(n:Z)(w:Y):cD bz 14 #[ap n] w λe a=>e=aL (ap n)/\a=w:=by
 go_in
 go_wp2;go_ret;simp_all
def Cg(w:Y)(a b:M):(w.drewN a).drewN b=w.drewN (a+b):=by simp_all
def RD{m:jN}(a:b<y F)(c:b<y m)(h:F.take b=m.take b)(e:F[b]=m[b]):F.take (b+1)=m.take (b+1):=by
 rw[ah a,ah c,h,e]
def oM{l m:jN}(hx:mT a d l)(C:mT a u m)(hl:y l<=1000000000000)(hm:y m<=1000000000000):cD bz 45 #[d,u] a λal w'=>al=aL (aK<|decide<|l=m)/\∃x,w'=a.drewN x:=by
 by_cases e:y l=y m;(.obtain⟨E,⟨rfl,B⟩|⟨ad,b,D,rfl,an,K⟩⟩:=hx;(.obtain rfl:l=[]:=aP B;obtain rfl:m=[]:=aP (by grind);have f:=C.shape;clear C;rcases f with rfl|⟨A,c,g,rfl⟩;(all_goals(go_in);go_wp2;(go_loopw [5] (λV wr=>V=ap 0/\∃x,wr=a.drewN x) (λ_ _=>0));(case atStart=>exact⟨rfl,0,rfl⟩);(case round=>obtain⟨rfl,x,rfl⟩:=hrel;go_wp2;go_ret;exact⟨rfl,x,rfl⟩)));(.obtain⟨F,⟨rfl,B⟩|⟨A,c,g,rfl,ac,s⟩⟩:=C;(.obtain rfl:m=[]:=aP B;obtain rfl:l=[]:=aP (by grind);clear K;(go_in);go_wp2;(go_loopw [5] (λV wr=>V=ap 0/\∃x,wr=a.drewN x) (λ_ _=>0));(case atStart=>exact⟨rfl,0,rfl⟩);(case round=>obtain⟨rfl,x,rfl⟩:=hrel;go_wp2;go_ret;exact⟨rfl,x,rfl⟩));(.have HC:=U K;have r:=U s;(have o:((y l:Z)!=(y m:Z))=aY:=by simp[e]);have f:=U e;clear K s E F e;(go_in);go_wp2;(go_loopw [5] (λV wr=>∃n:M,n<=y l/\V=ap n/\l.take n=m.take n/\∃x,wr=a.drewN x) (λV _=>y l-(intOf V).toNat));(case atStart=>exact⟨0,bj _,rfl,rfl,0,rfl⟩);(case round=>obtain⟨n,hn,rfl,ht,kk,rfl⟩:=hrel;have HT:=U ht;clear ht;by_cases t:n<y l;(·(have i:n<y m:=by have:=ae f;omega);have L:=og l n t;have k:=og m n i;have O:aO a (R ad<|b+n*2)=H (aj l[n].1):=HC _ _ L.1;(have P:aO a (R ad<|b+n*2+1)=H (aj l[n].2):=by rw[aV];exact HC _ _ L.2);have Q:aO a (R A<|c+n*2)=H (aj m[n].1):=r _ _ k.1;(have S:aO a (R A<|c+n*2+1)=H (aj m[n].2):=by rw[aV];exact r _ _ k.2);clear L k;(have v:l[n]≠m[n]->decide (l=m)=aY:=λh=>by grind);have HN:=U v;have HY:=U<|λal=>RD t i HT al;clear v;generalize l[n]=ao at*;generalize m[n]=q at*;obtain⟨W,X⟩:=ao;obtain⟨qk,qv⟩:=q;simp only at O P Q S;by_cases p:W=qk;(·(have N:(!W.toList==qk.toList)=aY:=by rw[p];simp);by_cases w:X=qv;(·(have T:(X.toList==qv.toList)=bU:=by rw[w];simp);have j:=U (HY<|by rw[p,w]);clear p w;(go_wp2_with fail);(go_quiet(fail));go_wp2;go_roundw;(case rel=>exact⟨n+1,by omega,by go_num,j,by grind⟩);case measure=>simp[intOf];omega);have T:(X.toList==qv.toList)=aY:=wl w;have j:=U (HN<|by grind);clear p w;(go_wp2_with fail);(go_quiet(fail));go_wp2;go_ret;exact⟨by rw[ae j];rfl,by first|exact⟨_,rfl⟩|exact⟨_,Cg _ _ _⟩⟩);(have N:(!W.toList==qk.toList)=bU:=by rw[wl p];rfl);have j:=U (HN<|by grind);clear p;(go_wp2_with fail);(go_quiet(fail));go_wp2;go_ret;exact⟨by rw[ae j];rfl,by first|exact⟨_,rfl⟩|exact⟨_,Cg _ _ _⟩⟩);have j:=U (show decide (l=m)=bU by have E:l.take n=l:=cZ (by omega);have i:m.take n=m:=cZ (by have:=ae f;omega);have:=ae HT;rw[E,i]at this;grind);go_wp2;go_ret;exact⟨by rw[ae j];rfl,by grind⟩))));(have f:decide (l=m)=aY:=by grind);rw[f];clear f;obtain⟨_,⟨rfl,B⟩|⟨ad,b,D,rfl,_,_⟩⟩:=hx<;>obtain⟨_,⟨rfl,i⟩|⟨A,c,g,rfl,_,_⟩⟩:=C;omega;(·(have o:((0:Z)!=(y m:Z))=bU:=by rw[zt];omega);(go_in);go_wp2;go_ret;exact⟨rfl,0,rfl⟩);(·(have o:((y l:Z)!=(0:Z))=bU:=by rw[zt];omega);(go_in);go_wp2;go_ret;exact⟨rfl,0,rfl⟩);(have o:((y l:Z)!=(y m:Z))=bU:=by rw[zt];omega);(go_in);go_wp2;go_ret;exact⟨rfl,0,rfl⟩
def Hv(a k:Z)(b:0<k)(c:k<=100):0<=wrap64 ((IntKind.u64.wrap a).tmod k)/\wrap64 ((IntKind.u64.wrap a).tmod k)<k:=by
 rw[gZ,Int.tmod_eq_emod_of_nonneg<|Int.emod_nonneg _<|by decide];have d:=Int.emod_nonneg (a%18446744073709551616) (show k≠0 by omega);have f:=Int.emod_lt_of_pos (a%18446744073709551616) b;generalize a%18446744073709551616%k=x at*;have e:wrap64 x=x:=by unfold wrap64;omega
 rw[e];grind
def sk(a k:Z):Z:=wrap64<|(IntKind.u64.wrap a).tmod k
def QN(b c:Z)(w:Y):cD bz 31 #[ap b,ap c] w λe a=>e=aL (dw #[ap<|sk b 34,ap<|sk c 8])/\a=w:=by
 go_in
 go_wp2;go_ret2
 exact⟨rfl,rfl⟩
def Ak{P:Program}{k:Array Oper}{s:Oper}{u:Act}{ac:Act->Y->Prop}{aq:Exit->Act->Y->Prop}{E:Prop}(Q:s.guard=none)(an ao:Operand)(B:TypeId)(p:s.op=Op.call {callee:=Callee.builtin Builtin.append,args:=#[an,ao],argTypes:=#[B,B]})(b:M)(w:TypeId)(x:TypeInfo)(i:aa)(c bytes:M)(X:P.underlying B=H (.slice w))(S:P.info? w=H x)(hz:x.zero=H i)(h:x.size=c)(o:x.bytes=bytes)(r:i.cells.size=c)(q:0<c)(D:aa)(A:M)(t:iC)(W:u.eval an=D)(j:a.ownsRow b w c D A t)(n:Addr)(v ad:M)(d:iC)(hx:u.eval ao=J (H n) v ad)(T:y d=v*c)(g:∀al C,d[al]?=H C->aO a (n.add al)=H C)(F:∀C∈d,C.oneCell'=bU)(hn:A+v<=140737488355328)(e:(A+v)*bytes<=140737488355328)(f:b<=z (G a))(O:∀l m,m.ownsRow b w c l (A+v) (t++d)->eL a m D l->ac (u.put s.dst l) m):if Region.wanted s (yielded k u.tmps)=bU then Oper.wp P s u a ac aq else E:=by
 have hw:Region.wanted s (yielded k u.tmps)=bU:=by simp[Region.wanted,Q]
 rw[dz hw];obtain⟨l,m,V,K,L,_,N⟩:=ny (P:=P) a b B s.type w x i c bytes X S hz h o r q D A t j n v ad d T g F (by unfold maxLen;omega) e f;unfold Oper.wp;simp[execOp,p,resolve,invoke,builtin,W,hx,V,Result.andThen];exact O l m K<|eL.of L N
def PH:(prog.info? 126).map (λi=>(i.zero,i.size,i.bytes))=H (H<|dW #[aj ⟨#[]⟩,aj ⟨#[]⟩,aK aY],3,40):=by kernel_rfl
def NQ(w:Y)(a:M)(o:aa)(l:uP):Prop:=w.ownsRow a 126 3 o (y l)<|eX l
def Qs(w:Y)(x a b:aa)(t:TypeId):∀j u,[x,a,b][j]?=H u->aO (cF w<|ar #[x,a,b] t) (((R (z<|G w) 0):Addr).add j)=H u:=by
 intro j u c;rw[du];simp_all
def Lc(l:uP)(B b q:M)(w:Y)(X:y l<=1000000000000)(r:B<z (G w))(C:∀S T,(eX l)[S]?=H T->aO w (R B<|b+S)=H T):cD bz 21 #[bB B b (y l) q] w λW E=>∃D,W=aL D/\NQ E (z<|G w) D l/\Below (z<|G w) w E:=by
 obtain⟨Q,s,v,x,A⟩:=cH PH;have m:=U C;clear C;go_in
 go_wp2;go_loopw [3,4] (λo i wr=>∃n:M,n<=y l/\i=ap n/\NQ wr (z<|G w) o (l.take n)/\Below (z<|G w) w wr) (λ_ i _=>y l-(intOf i).toNat)
 case atStart=>exact⟨0,bj _,rfl,bK _ _ _ _,Below.refl _ _⟩
 (case round=>obtain⟨n,L,rfl,c,a⟩:=hrel;have u:z (G w)<=z (G wr):=a.size;by_cases g:n<y l;(.have j:=kX l n g;have N:aO wr (R B<|b+n*3)=H (aj l[n].key):=(a.cell<|by exact r).trans<|m _ _ j.1;have O:aO wr (R B<|b+n*3+1)=H (aj l[n].val):=(a.cell<|by exact r).trans (by rw[aV];exact m _ _ j.2.1);have P:aO wr (R B<|b+n*3+2)=H (aK l[n].del):=(a.cell<|by exact r).trans (by rw[aV];exact m _ _ j.2.2);clear j;(have d:wr.ownsRow (z<|G w) 126 3 u3 n (eX<|l.take n):=by have K:wr.ownsRow (z<|G w) 126 3 u3 (y<|l.take n) (eX<|l.take n):=c;rwa[dU,Nat.min_eq_left L]at K);obtain⟨ac,V,t⟩:=aA d;subst t;have i:=U d;have F:=U (show eX (l.take<|n+1)=eX (l.take n)++[aj l[n].key,aj l[n].val,aK l[n].del]by unfold eX;rw[ah g,gd];simp[oP]);clear d;have k:=U a;clear c a;go_wp2;(go_region_law (refine Ak rfl (.tmp 11) (.tmp 28) 66 rfl (z<|G w) 126 Q (dW #[aj ⟨#[]⟩,aj ⟨#[]⟩,aK aY]) 3 40 underlying66 s v x A rfl (by decide) (J ac n V) n (eX<|l.take n) (by simp[Act.eval]) (jd (aN i<|ar #[aj l[n].key,aj l[n].val,aK l[n].del] 126) rfl) (R (z<|G wr) 0) 1 1 [aj l[n].key,aj l[n].val,aK l[n].del] (by simp[Act.eval]) rfl (Qs _ _ _ _ _) (by simp[Value.oneCell']) (by omega) (by omega) (by simp;omega) ?_;intro v2 w2 e f;obtain⟨x2,c2,rfl⟩:=aA e;have o:=U e;have p:=U f;clear e f));go_wp2;(all_goals go_roundw;(case rel=>exact⟨n+1,by omega,by go_num,by unfold NQ;rw[dU,Nat.min_eq_left (by omega),ae F];exact o,kD k u p (ar #[aj l[n].key,aj l[n].val,aK l[n].del] 126) rfl<|λb a=>(aG i b a).1⟩);case measure=>simp[intOf];omega));(have d:n=y l:=by omega);subst d;rw[aX]at c;have i:=U c;have k:=U a;clear c a;go_wp2;go_ret;exact⟨_,rfl,i,k⟩)
theorem Oj(w:Y):cD bz 21 #[aD] w λe b=>∃a,e=aL a/\NQ b (z<|G w) a []/\Below (z<|G w) w b:=by
 go_in
 go_wp2;go_loopw [3,4] (λo i wr=>i=ap 0/\o=aD/\wr=w) (λ_ _ _=>0)
 case atStart=>grind
 (case round=>obtain⟨rfl,rfl,rfl⟩:=hrel;go_wp2;go_ret;exact⟨_,rfl,bK _ _ _ _,Below.refl _ _⟩)
def zy(l:uP)(v:aa)(w:Y)(g:y l<=1000000000000)(h:yp w v l)(e:∀k,ct v=H k->k<z (G w)):cD bz 21 #[v] w λj d=>∃c,j=aL c/\NQ d (z<|G w) c l/\Below (z<|G w) w d:=by
 obtain⟨_,⟨rfl,m⟩|⟨i,a,b,rfl,_,f⟩⟩:=h;grind[eq_nil_of_length_eq_zero,Oj]
 exact Lc l i a b w g (e i rfl) f
theorem dD:(∀(l:iC)(i:M)(x:aa),l.toArray.setIfInBounds i x=(l.set i x).toArray)/\(∀(x c:aa)(l:iC),(x::l).set 0 c=c::l)/\∀(x c:aa)(l:iC)(n:M),(x::l).set (n+1) c=x::l.set n c:=⟨λ_ _ _=>by simp,λ_ _ _=>rfl,λ_ _ _ _=>rfl⟩
theorem gz:(∀(l:iC)(i:M)(h:i<l.toArray.size),l.toArray[i]=l[i]'(by simpa using h))/\(∀(x:aa)(l:iC)(i:M)(h:i+1<y (x::l)),(x::l)[i+1]=l[i]'(by simpa using h))/\∀(x:aa)(l:iC)(h:0<y (x::l)),(x::l)[0]=x:=⟨λ_ _ _=>rfl,λ_ _ _ _=>rfl,λ_ _ _=>rfl⟩
section
variable{P:Program}{a:Array Oper}{Q:Exit->Act->Y->Prop}{md:Region.Mode}{S:Y->Prop}
def kR(P:Program)(md:Region.Mode)(a:Array Oper)(Q:Exit->Act->Y->Prop)(S:Y->Prop)(m:M):M->Array Bool->Act->Y->Prop
 |0,b,d,w=>Region.ready md a b=[]/\Q .normal d w
 |fuel+1,b,d,w=>
  (Region.ready md a b=[]->Q .normal d w)/\∀i∈Region.ready md a b,wpOp P a Q i (λe c=>(i≠m->S c)/\kR P md a Q S m fuel (b.setIfInBounds i bU) e c) d w
theorem oJ{m:M}:∀(b:M)(c:Array Bool)(i:Act)(w:Y),kR P md a Q S m b c i w->wpAny P md a Q b c i w
 |0,_,_,_,h=>h
 |b+1,_,_,_,h=>⟨h.1,λj f=>uQ (λd g e=>oJ b _ d g e.2)<|h.2 j f⟩
theorem IX{n L:M}{k K:Oper}{ad:aa}(C:a[n]?=H k)(hm:a[L]?=H K)(X:∃m∈K.after,Region.binds md m=bU/\m.on=n)(g:∀(j:M)(an:Oper)o F,a[j]?=H an->an.op≠ .select o F)(O:∀al w x,Q (.panic al) (w.put k.dst ad) x->Q (.panic al) w x):∀(c:M)(b:Array Bool)(w:Act)(x:Y),(∀j l,a[j]?=H l->j≠n->b.getD j bU=aY->(∀m∈l.after,Region.binds md m=bU->m.on≠n)->k.apart a l=bU)->n∈Region.ready md a b->YieldsIf P a S k ad w->S x->kR P md a Q S L c (b.setIfInBounds n bU) (w.put k.dst ad) x->kR P md a Q S L (c+1) b w x:=by
 intro c;induction c with
 |zero=>
  intro b w x _ i v p e;refine⟨λN=>(by rw[N]at i;cases i),λj u=>?_⟩;by_cases d:j=n
  .subst d;exact v.wpOp C p ⟨λ_=>p,e⟩
  .have:=sF u d;rw[e.1]at this;cases this
 |succ c ih=>
  intro b w x f i v p e;refine⟨λN=>(by rw[N]at i;cases i),λj u=>?_⟩;by_cases d:j=n
  .subst d;exact v.wpOp C p ⟨λ_=>p,e⟩
  .have A:=e.2 j<|sF u d;obtain⟨r,l,h,q⟩:=yq.1 u;have s:∀m∈l.after,Region.binds md m=bU->m.on≠n:=λm E D B=>by
    have A:=q m E D;have T:=(yq.1 i).1;rw[B]at A;grind
   have h2:=wpOp_putIf h (f j l h d r s) (λo F=>g n k o F C) (λo F=>g j l o F h) O v A;have t:∀E ok,a[E]?=H ok->E≠n->(b.setIfInBounds j bU).getD E bU=aY->(∀m∈ok.after,Region.binds md m=bU->m.on≠n)->k.apart a ok=bU:=λE ok W B c D=>by
    refine f E ok W B ?_ D;by_cases T:j=E
    .grind
    simp_all
   have ac:=sF i<|Ne.symm d;have V:j≠L:=λm=>by
    grind
   grind[wpOp_mono,Array.setIfInBounds_comm]
theorem lF{i r:M}{d h:Oper}{v:aa}{c:M}{b:Array Bool}{e:Act}{w:Y}(g:a[i]?=H d)(m:a[r]?=H h)(n:(h.after.any λt=>Region.binds md t&&t.on==i)=bU)(p:Region.noSelect a=bU)(l:Region.free md a b i=bU)(o:(Region.ready md a b).contains i=bU)(j:∀s e w,Q (.panic s) (e.put d.dst v) w->Q (.panic s) e w)(q:YieldsIf P a S d v e)(k:S w)(u:kR P md a Q S r c (b.setIfInBounds i bU) (e.put d.dst v) w):kR P md a Q S r (c+1) b e w:=IX g m (by
 grind) (Region.noSelect_spec p) j c b e w (Region.free_spec g l) (by simpa using o) q k u
theorem aM{i n:M}{o:Oper}{c:M}{b:Array Bool}{j:Act}{w:Y}(l:a[i]?=H o)(k:o.guard=none)(h:Region.ready md a b=[i])(q:∀K:Act->Y->Prop,(∀d w',(i≠n->S w')->kR P md a Q S n c (b.setIfInBounds i bU) d w'->K d w')->Oper.wp P o j w K Q):kR P md a Q S n (c+1) b j w:=by
 refine⟨λe=>(by rw[h]at e;cases e),λp g=>?_⟩;rw[h]at g;obtain rfl:p=i:=by simpa using g
 unfold wpOp;simp only[l];have m:Region.wanted o (yielded a j.tmps)=bU:=by simp[Region.wanted,k]
 rw[dz m];grind
theorem cW{m:M}{b:Array Bool}{e:Act}{w:Y}(d:Region.ready md a b=[])(h:Q .normal e w):∀c,kR P md a Q S m c b e w
 |0=>⟨d,h⟩
 |_+1=>⟨λ_=>h,by rw[d];simp⟩
theorem cI(S:Y->Prop)(m:M){id:M}{c:Act}{w:Y}(b:P.follows .mixedOrders=bU)(h:kR P .any a Q S m a.size (Array.replicate a.size aY) c w.drew):(Code.region id a bU).wp P Q c w:=ze b<|oJ _ _ _ _ h
end
section
variable{P:Program}{a:Array Oper}{Q:Exit->Act->Y->Prop}{md:Region.Mode}{S:Y->Prop}
def Pk(md:Region.Mode)(a:Array Oper)(b:Array Bool)(m i:M):Bool:=match a[m]? with
 |some c=>(c.after.any λe=>Region.binds md e&&e.on==i)&&Region.noSelect a&&Region.free md a b i&&(Region.ready md a b).contains i
 |none=>aY
def Bv(P:Program)(md:Region.Mode)(a:Array Oper)(Q:Exit->Act->Y->Prop)(S:Y->Prop)(m _ c:M)(b:Array Bool)(d:Act)(w:Y):Prop:=kR P md a Q S m c b d w
theorem cY(k:M){m c:M}{b:Array Bool}{d:Act}{w:Y}(h:Bv P md a Q S m k c b d w):kR P md a Q S m c b d w:=h
theorem eC{k m c:M}{b:Array Bool}{d:Act}{w:Y}(h:kR P md a Q S m c b d w):Bv P md a Q S m k c b d w:=h
theorem xw{k n:M}{e:Oper}{v:aa}{d:M}{b:Array Bool}{g:Act}{w:Y}(i:S w)(j:a[k]?=H e)(c:Pk md a b n k=bU)(h:∀o g w,Q (.panic o) (g.put e.dst v) w->Q (.panic o) g w)(m:YieldsIf P a S e v g)(p:Bv P md a Q S n (k+1) d (b.setIfInBounds k bU) (g.put e.dst v) w):Bv P md a Q S n k (d+1) b g w:=by
 unfold Pk at c;split at c;rename_i q l;simp only[mH]at c;exact lF j l c.1.1.1 c.1.1.2 c.1.2 c.2 h m i p;cases c
theorem eM{k m:M}{d:Oper}{v:aa}{c:M}{b:Array Bool}{e:Act}{w:Y}(h:S w)(j:a[k]?=H d)(f:Pk md a b m k=bU)(g:∀n e w,Q (.panic n) (e.put d.dst v) w->Q (.panic n) e w)(i:Region.wanted d (yielded a e.tmps)=bU)(l:∀w,S w->(execOp e.eval d).run P w=.ok (.value v) w)(o:Bv P md a Q S m (k+1) c (b.setIfInBounds k bU) (e.put d.dst v) w):Bv P md a Q S m k (c+1) b e w:=xw h j f g (.inl ⟨i,l⟩) o
end
section
variable{P:Program}{a:Array Oper}{Q:Exit->Act->Y->Prop}{md:Region.Mode}{S:Y->Prop}
theorem sQ{i j n:M}{f g:Oper}{c:M}{b:Array Bool}{k:Act}{w:Y}(q:a[i]?=H f)(r:a[j]?=H g)(o:f.guard=none)(p:g.guard=none)(m:Region.ready md a b=[i,j])(s:∀K:Act->Y->Prop,(∀d w',(i≠n->S w')->kR P md a Q S n c (b.setIfInBounds i bU) d w'->K d w')->Oper.wp P f k w K Q)(t:∀K:Act->Y->Prop,(∀d w',(j≠n->S w')->kR P md a Q S n c (b.setIfInBounds j bU) d w'->K d w')->Oper.wp P g k w K Q):kR P md a Q S n (c+1) b k w:=by
 refine⟨λl=>(by rw[m]at l;cases l),λu e=>?_⟩;rw[m]at e;rcases bH.1 e with rfl|e;unfold wpOp;simp only[q];(have h:Region.wanted f (yielded a k.tmps)=bU:=by simp[Region.wanted,o]);rw[dz h];grind
 (obtain rfl:u=j:=by simpa using e);unfold wpOp;simp only[r];(have h:Region.wanted g (yielded a k.tmps)=bU:=by simp[Region.wanted,p]);rw[dz h];grind
theorem ua{α:Type}(g:α->Y->Prop)(A:α->Act)(b:Array Bool)(d:M){m e:M}{c:Array Bool}{i:Act}{w:Y}(f:(∀x W,g x W->kR P md a Q S m d b (A x) W)->kR P md a Q S m e c i w)(h:∀x W,g x W->kR P md a Q S m d b (A x) W):kR P md a Q S m e c i w:=f h
theorem kj{m b:M}{l c:Array Bool}{d:Act}{w:Y}(h:kR P md a Q S m b l d w)(e:l=c):kR P md a Q S m b c d w:=e▸h
end
section
variable{P:Program}{a:Array Oper}{Q:Exit->Act->Y->Prop}{md:Region.Mode}
theorem LD{l n:M}{d:String}{b:Array aa}{w:Y}{c:aa->Y->Prop}(h:Rows P d b w c):RowsIn (Fence.wide.inRound l) n P d b w c:=λg e _=>let⟨v,f,r,s⟩:=h g e;⟨v,f,r,stepsIn_wide.2 s⟩
theorem Oper.Od{o:Oper}{b:Act}{w:Y}{K:Act->Y->Prop}(l n:M)(d:∀c,o.op≠ .defer c)(h:o.wp P b w K Q):o.wpIn (Fence.wide.inRound l) n P b w K Q:=by
 unfold Oper.wpIn;refine⟨λf _=>trivial,?_⟩;rw[Oper.semAt_plain (Fence.wide.inRound l) _ _ d];unfold Oper.wp at h;generalize(execOp b.eval o).run P w=r at*;cases r with
 |ok x e=>
  cases x<;>simp only[Oper.upon,Oper.uponIn]at h|-<;>first
   |exact h
   |exact⟨(λc=>(by cases c)),CallsIn.inRound l<|dh.2 h⟩
   |exact⟨(λc=>(by cases c)),LD h⟩
   |exact h.elim
 |halt x e=>cases x<;>simp only[Oper.upon,Oper.uponIn]at h|-<;>exact h
theorem zw{l n:M}(k:∀(i:M)(o:Oper)c,a[i]?=H o->o.op≠ .defer c)(j:¬LetsOut Q):∀(b:M)(d:Array Bool)(p:Act)(w:Y),wpAny P md a Q b d p w->wpAnyIn (Fence.wide.inRound l) n P md a Q b d p w
 |0,_,_,_,h=>h
 |b+1,_,_,_,h=>⟨h.1,λi m=>by
  have e:=uQ (λf o g=>zw (l:=l) (n:=n) k j b _ f o g)<|h.2 i m;unfold wpOp at e;unfold wpOpIn;cases ho:a[i]? with
  |none=>grind
  |some o=>
   simp only[ho]at e|-;split
   .rename_i f;simp only[f,ir]at e;grind[Oper.Od]
   .rename_i f;simp only[f]at e;exact⟨λ_ _=>trivial,e⟩⟩
def DE(a:Array Oper):Bool:=a.all λo=>match o.op with| .defer _=>aY|_=>bU
theorem wi(h:DE a=bU):∀(i:M)(o:Oper)d,a[i]?=H o->o.op≠ .defer d:=by
 intro i o d c e;obtain⟨b,rfl⟩:=nM.1 c;have:=Array.all_eq_true.1 h i b;rw[e]at this;cases this
theorem tZ(S:Y->Prop)(m:M){l n id:M}{b:Act}{w:Y}(e:P.follows .mixedOrders=bU)(d:DE a=bU)(c:∀b w,¬Q .outgrown b w)(h:kR P .any a Q S m a.size (Array.replicate a.size aY) b w.drew):(Code.region id a bU).wpIn (Fence.wide.inRound l) n P Q b w:=wpIn_region_any e<|zw (wi d) (λ⟨b,w,h⟩=>c b w h) _ _ _ _<|oJ _ _ _ _ h
end
def Bt{P:Program}{r n id:M}{Q:Exit->Act->Y->Prop}{c:Act}{l:cw Oper}(j:P.follows .mixedOrders=bU)(f:Region.lexB .any l.toArray=bU)(i:DE l.toArray=bU)(g:∀c a,¬Q .outgrown c a)(h:wpQuiet P l.toArray (λb=>∃n,b=a.drewN n) (λd=>∀b,(∃n,b=a.drewN n)->Q .normal d b) l c):(Code.region id l.toArray bU).wpIn (Fence.wide.inRound r) n P Q c a:=by
 simp only[Region.lexB,mH]at f;refine wpIn_region_any j<|zw (wi i) (λ⟨c,a,h⟩=>g c a h) _ _ _ _<|wpAny_of_quiet (C:=λb=>∃n,b=a.drewN n) (Q:=λd=>∀b,(∃n,b=a.drewN n)->Q .normal d b) (λ_ b e h=>h b e) _ _ _ _ ⟨1,rfl⟩ ?_;have:=wpAnyQ_lex (C:=λb=>∃n,b=a.drewN n) (md:=.any) f.1 l 0 (Array.replicate l.toArray.size aY) c (by simp) (by grind) h;grind
section
open Conc.Locks
def Zy:MuLink where
 lock:=35
 unlock:=36
 ilock:=68
 iunlock:=69
 lockSlow:=118
 unlockSlow:=121
 disable:=114
 enable:=116
 acquire:=117
 relMerge:=119
 cas32:=115
 add32:=120
 tMutex:=95
 tIMutex:=93
 tPMutex:=140
 tPIMutex:=217
 tPI32:=219
 tUP:=144
 tNoCopy:=90
 tU32:=91
def YZ:MuLib bz Zy:=by
 constructor<;>first|kernel_rfl|(intro w;kernel_rfl)
def lock_free(a:Addr)(w:Y)(b:aO w a=H (iO 0))(c:w.frozen? a=aY):cD bz 35 #[fj<|H a] w λe d=>e=aL (dw #[])/\d=cA w a (iO 1):=MuLone.lock_free YZ a w b c
def unlock_deferred(a:Addr)(u:FrameMode)(w:Y)(b:aO w a=H (iO 1))(c:w.frozen? a=aY):CallsD bz 36 #[fj<|H a] u w λf d e=>d=u/\(f=aL (dw #[])/\e=cA w a (iO 0)):=MuLone.unlock_deferred YZ a u w b c
end
section
variable{P:Program}{a:Array Oper}{Q:Exit->Act->Y->Prop}{md:Region.Mode}{S:Y->Prop}
def Au(md:Region.Mode)(a:Array Oper)(i:M):M->M->Bool
 |0,_=>aY
 |n+1,j=>match a[j]? with
  |none=>aY
  |some o=>o.after.any λe=>Region.binds md e&&(e.on==i||Au md a i n e.on)
def Cv(md:Region.Mode)(a:Array Oper)(b:Array Bool):Prop:=∀j o,a[j]?=H o->b.getD j aY=bU->∀e∈o.after,Region.binds md e=bU->b.getD e.on aY=bU
def DM(md:Region.Mode)(a:Array Oper)(b:Array Bool):Bool:=(List.range a.size).all λj=>match a[j]? with
 |none=>bU
 |some o=>!b.getD j aY||o.after.all λe=>!Region.binds md e||b.getD e.on aY
theorem Uc{b:Array Bool}(h:DM md a b=bU):Cv md a b:=by
 intro j o d e i g f;unfold DM at h;rw[qX]at h;have c:=h j<|nG.2 (nM.1 d).1;simp only[d,e,uw,zf]at c;rw[Array.all_eq_true]at c;grind[Array.mem_iff_getElem]
theorem Cv.set{b:Array Bool}{k:M}(n:Cv md a b)(g:k∈Region.ready md a b):Cv md a (b.setIfInBounds k bU):=by
 intro x p j d m f e;obtain⟨o,q,h,c⟩:=yq.1 g;by_cases l:k=x;grind[getD_set_true]
 rw[getD_set_ne aY l]at d;exact getD_set_true<|n x p j d m f e
theorem Ar{p:M}{b:Array Bool}(j:Cv md a b):∀(n m:M)(o:Oper),a[m]?=H o->(∀f∈o.after,Region.binds md f=bU->b.getD f.on aY=bU)->Au md a p n m=bU->b.getD p aY=bU
 |0,_,_,_,_,h=>by simp[Au]at h
 |n+1,m,o,k,c,h=>by
  unfold Au at h;simp only[k]at h;obtain⟨x,l,g⟩:=Array.any_eq_true.1 h;simp only[mH,Bool.or_eq_true,beq_iff_eq]at g;have i:=c _ (Array.getElem_mem l) g.1;rcases g.2 with f|f
  .rw[<-f];exact i
  .have hex:∃e,a[(o.after[x]).on]?=H e:=by
    cases n with
    |zero=>simp[Au]at f
    |succ n=>
     unfold Au at f;grind
   obtain⟨e,d⟩:=hex;exact Ar j n _ e d (λh g c=>j _ e d i h g c) f
def nt(P:Program)(md:Region.Mode)(a:Array Oper)(Q:Exit->Act->Y->Prop)(S:Y->Prop)(m:M):M->Array Bool->Act->Y->Prop
 |0,b,d,w=>Region.ready md a b=[]/\Q .normal d w
 |fuel+1,b,d,w=>
  (Region.ready md a b=[]->Q .normal d w)/\∀i∈Region.ready md a b,wpOp P a Q i (λe c=>(i<m->S c)/\nt P md a Q S m fuel (b.setIfInBounds i bU) e c) d w
theorem Ag{m:M}:∀(b:M)(c:Array Bool)(i:Act)(w:Y),nt P md a Q S m b c i w->wpAny P md a Q b c i w
 |0,_,_,_,h=>h
 |b+1,_,_,_,h=>⟨h.1,λj f=>uQ (λd g e=>Ag b _ d g e.2)<|h.2 j f⟩
theorem IY{n W:M}{l:Oper}{ao:aa}(K:a[n]?=H l)(ad:n<W)(an:∀j,W<=j->j<a.size->Au md a n a.size j=bU)(h:∀(j:M)(au:Oper)o V,a[j]?=H au->au.op≠ .select o V)(hQ:∀aq C D,Q (.panic aq) (C.put l.dst ao) D->Q (.panic aq) C D):∀(c:M)(b:Array Bool)(C:Act)(D:Y),Cv md a b->(∀j m,a[j]?=H m->j≠n->b.getD j bU=aY->(∀w∈m.after,Region.binds md w=bU->w.on≠n)->l.apart a m=bU)->n∈Region.ready md a b->YieldsIf P a S l ao C->S D->nt P md a Q S W c (b.setIfInBounds n bU) (C.put l.dst ao) D->nt P md a Q S W (c+1) b C D:=by
 intro c;induction c with
 |zero=>
  intro b C D _ _ k B p e;refine⟨λac=>(by rw[ac]at k;cases k),λj s=>?_⟩;by_cases d:j=n
  .subst d;exact B.wpOp K p ⟨λ_=>p,e⟩
  .have:=sF s d;rw[e.1]at this;cases this
 |succ c ih=>
  intro b C D E f k B p e;refine⟨λac=>(by rw[ac]at k;cases k),λj s=>?_⟩;by_cases d:j=n
  .subst d;exact B.wpOp K p ⟨λ_=>p,e⟩
  .have x:=e.2 j<|sF s d;obtain⟨u,m,i,r⟩:=yq.1 s;have L:b.getD n aY=bU->False:=λq=>by
    have F:=(yq.1 k).1;grind
   have v:∀w∈m.after,Region.binds md w=bU->w.on≠n:=λw T N F=>by
    have x:=r w T N;rw[F]at x;exact L x
   have h2:=wpOp_putIf i (f j m i d u v) (λo V=>h n l o V K) (λo V=>h j m o V i) hQ B x;have g:∀T ok,a[T]?=H ok->T≠n->(b.setIfInBounds j bU).getD T bU=aY->(∀w∈ok.after,Region.binds md w=bU->w.on≠n)->l.apart a ok=bU:=λT ok hk F c N=>by
    refine f T ok hk F ?_ N;by_cases al:j=T
    .grind
    simp_all
   have O:=sF k<|Ne.symm d;have t:j<W:=by
    grind[Nat.lt_or_ge,Ar,Array.getElem?_eq_some_iff]
   refine uQ (λX w' A=>⟨λ_=>A.2.1 t,ih (b.setIfInBounds j bU) X w' (E.set s) g O A.1 (A.2.1 t) ?_⟩) h2;rw[uy _ _ d];exact A.2.2
theorem KT{i m:M}{d:Oper}{v:aa}{c:M}{b:Array Bool}{e:Act}{w:Y}(j:a[i]?=H d)(g:i<m)(h:((List.range a.size).all λk=>decide (k<m)||Au md a i a.size k)=bU)(r:Region.noSelect a=bU)(p:Region.free md a b i=bU)(q:(Region.ready md a b).contains i=bU)(f:DM md a b=bU)(n:∀t e w,Q (.panic t) (e.put d.dst v) w->Q (.panic t) e w)(s:YieldsIf P a S d v e)(o:S w)(u:nt P md a Q S m c (b.setIfInBounds i bU) (e.put d.dst v) w):nt P md a Q S m (c+1) b e w:=IY j g (λk x l=>by
 have:=qX.1 h k (nG.2 l);grind) (Region.noSelect_spec r) n c b e w (Uc f) (Region.free_spec j p) (by simpa using q) s o u
theorem gL{i p:M}{o:Oper}{d:M}{c:Array Bool}{k:Act}{w:Y}(m:a[i]?=H o)(l:o.guard=none)(j:Region.ready md a c=[i])(r:∀K:Act->Y->Prop,(∀f e,(i<p->S e)->nt P md a Q S p d (c.setIfInBounds i bU) f e->K f e)->Oper.wp P o k w K Q):nt P md a Q S p (d+1) c k w:=by
 refine⟨λg=>(by rw[j]at g;cases g),λq h=>?_⟩;rw[j]at h;obtain rfl:q=i:=by simpa using h
 unfold wpOp;simp only[m];have n:Region.wanted o (yielded a k.tmps)=bU:=by simp[Region.wanted,l]
 rw[dz n];grind
theorem kW{m:M}{c:Array Bool}{f:Act}{w:Y}(e:Region.ready md a c=[])(h:Q .normal f w):∀d,nt P md a Q S m d c f w
 |0=>⟨e,h⟩
 |_+1=>⟨λ_=>h,by rw[e];simp⟩
theorem kV(S:Y->Prop)(m:M){id:M}{d:Act}{w:Y}(c:P.follows .mixedOrders=bU)(h:nt P .any a Q S m a.size (Array.replicate a.size aY) d w.drew):(Code.region id a bU).wp P Q d w:=ze c<|Ag _ _ _ _ h
end
section
variable{P:Program}{a:Array Oper}{Q:Exit->Act->Y->Prop}{md:Region.Mode}{S:Y->Prop}
def yr(P:Program)(md:Region.Mode)(a:Array Oper)(Q:Exit->Act->Y->Prop)(S:Y->Prop)(m _ c:M)(b:Array Bool)(d:Act)(w:Y):Prop:=nt P md a Q S m c b d w
def JE(md:Region.Mode)(a:Array Oper)(b:Array Bool)(m k:M):Bool:=decide (k<m)&&((List.range a.size).all λj=>decide (j<m)||Au md a k a.size j)&&Region.noSelect a&&Region.free md a b k&&(Region.ready md a b).contains k&&DM md a b
theorem lE(k:M){m d:M}{c:Array Bool}{e:Act}{w:Y}(h:yr P md a Q S m k d c e w):nt P md a Q S m d c e w:=h
theorem qd{k m d:M}{c:Array Bool}{e:Act}{w:Y}(h:nt P md a Q S m d c e w):yr P md a Q S m k d c e w:=h
theorem qe{k m:M}{e:Oper}{v:aa}{d:M}{b:Array Bool}{f:Act}{w:Y}(h:S w)(i:a[k]?=H e)(c:JE md a b m k=bU)(g:∀l f w,Q (.panic l) (f.put e.dst v) w->Q (.panic l) f w)(j:YieldsIf P a S e v f)(n:yr P md a Q S m (k+1) d (b.setIfInBounds k bU) (f.put e.dst v) w):yr P md a Q S m k (d+1) b f w:=by
 unfold JE at c;simp only[mH,nz]at c;exact KT i c.1.1.1.1.1 c.1.1.1.1.2 c.1.1.1.2 c.1.1.2 c.1.2 c.2 g j h n
theorem Bu{k n:M}{e:Oper}{v:aa}{d:M}{c:Array Bool}{f:Act}{w:Y}(i:S w)(l:a[k]?=H e)(g:JE md a c n k=bU)(h:∀o f w,Q (.panic o) (f.put e.dst v) w->Q (.panic o) f w)(j:Region.wanted e (yielded a f.tmps)=bU)(m:∀w,S w->(execOp f.eval e).run P w=.ok (.value v) w)(p:yr P md a Q S n (k+1) d (c.setIfInBounds k bU) (f.put e.dst v) w):yr P md a Q S n k (d+1) c f w:=qe i l g h (.inl ⟨j,m⟩) p
end
def DW{P:Program}{d:Array Oper}{Q:Exit->Act->Y->Prop}{h:Region.Mode}{S:Y->Prop}{i j o:M}{k l:Oper}{c:Array Bool}{p:Act}(s:d[i]?=H k)(t:d[j]?=H l)(q:k.guard=none)(r:l.guard=none)(n:Region.ready h d c=[i,j])(u:∀K:Act->Y->Prop,(∀f e,(i<o->S e)->nt P h d Q S o b (c.setIfInBounds i bU) f e->K f e)->Oper.wp P k p a K Q)(v:∀K:Act->Y->Prop,(∀f e,(j<o->S e)->nt P h d Q S o b (c.setIfInBounds j bU) f e->K f e)->Oper.wp P l p a K Q):nt P h d Q S o (b+1) c p a:=by
 refine⟨λm=>(by rw[n]at m;cases m),λw g=>?_⟩;rw[n]at g;rcases bH.1 g with rfl|g;unfold wpOp;simp only[s];rw[dz<|by simp[Region.wanted,q]];grind
 (obtain rfl:w=j:=by simpa using g);unfold wpOp;simp only[t];rw[dz<|by simp[Region.wanted,r]];grind
section
open Extern.Stop Stop Extern
theorem Ld(w:Y):cD bz 13 #[.nilIface] w λe a=>e=aL (ap 0)/\Below (z<|G w) w a:=by
 go_in
 go_wp2;go_ret;exact⟨rfl,(Below.refl _ w).alloc (ai _) _⟩
def LH(t:Addr)(w:Y):(ReflectliteValue.unpack<|.iface 108<|fj<|H t).run bz w=.ok (dW #[fj<|H<|R (7) 108,ay<|z<|G w,aJ 150]) (cF w<|ar #[fj<|H t] 108):=by kernel_rfl
def Vd(a:Addr)(w:Y):(ReflectliteValue.methodAny (ReflectliteValue.valueError "reflectlite.Value.Type" 0) (λt _ _ _=>ReflectliteType.toType t) #[dW #[fj<|H<|R (7) 108,fj<|H a,aJ 150]]).run bz w=.ok (.iface 230<|dW #[fj<|H<|R (7) 108]) w:=by kernel_rfl
def Gx(h:aa)(w:Y):(Go.method 554 230 (dW #[h]) "Kind").run bz w=.ok (318,h) w:=by kernel_rfl
def Ve(w:Y):((ReflectliteType.abiMethod λt=>(λa:M=>Value.int IntKind.u8 (a:Z))<$>Rtype.kind t) #[fj<|H<|R (7) 108]).run bz w=.ok (tL 22) w:=by kernel_rfl
def Vf(w:Y):((ReflectliteType.abiMethod λt=>(λa:M=>Value.int IntKind.u8 (a:Z))<$>Rtype.kind t) #[fj<|H<|R (7) 53]).run bz w=.ok (tL 2) w:=by kernel_rfl
def F4(a:Sem aa)(f:TypeId->Addr->M->M->Sem aa)(v:aa):ReflectliteValue.method a f #[v]=(do match<-ReflectliteValue.parts v with|none=>a|some (t,c,b)=>f t c b<|b%32):=rfl
def Ht(a:Addr)(w:Y):(ReflectliteValue.parts<|dW #[fj<|H<|R (7) 108,fj<|H a,aJ 150]).run bz w=.ok (H (108,a,150)) w:=by kernel_rfl
def Sl(b p:Addr)(W:Y)(a:aO W b=H (fj<|H p)):(ReflectliteValue.method (ReflectliteValue.valueError "reflectlite.Value.IsNil" 0) ReflectliteValue.isNil #[dW #[fj<|H<|R (7) 108,fj<|H b,aJ 150]]).run bz W=.ok (aK aY) W:=by
 rw[F4];simp only[ki,Ht,Result.andThen];simp[ReflectliteValue.isNil,loadVar,isAgg,underlying,underlying108,a,Result.andThen]
def Gy(h:aa)(w:Y):(Go.method 554 230 (dW #[h]) "Elem").run bz w=.ok (347,dW #[h]) w:=by kernel_rfl
def yV(h:aa)(w:Y):(Go.method 554 230 (dW #[h]) "Implements").run bz w=.ok (348,dW #[h]) w:=by kernel_rfl
def wV(h:aa)(w:Y):(Go.method 554 230 (dW #[h]) "AssignableTo").run bz w=.ok (345,dW #[h]) w:=by kernel_rfl
def Vg(w:Y):(ReflectliteType.method ReflectliteType.elem #[dW #[fj<|H<|R (7) 108]]).run bz w=.ok (.iface 230<|dW #[fj<|H<|R (7) 53]) w:=by kernel_rfl
def EA(w:Y):(ReflectliteType.relation "Implements" ReflectliteType.implements_ #[dW #[fj<|H<|R (7) 53],.iface 230<|dW #[fj<|H<|R (7) 50]]).run bz w=.ok (aK bU) w:=by kernel_rfl
def Ez(v:aa)(w:Y):(ReflectliteType.typeOf #[.iface 53 v]).run bz w=.ok (.iface 230<|dW #[fj<|H<|R (7) 53]) w:=by kernel_rfl
def EB(w:Y):(ReflectliteType.relation "AssignableTo" ReflectliteType.assignableTo #[dW #[fj<|H<|R (7) 53],.iface 230<|dW #[fj<|H<|R (7) 53]]).run bz w=.ok (aK bU) w:=by kernel_rfl
def LI(n:Z)(w:Y):(ReflectliteValue.unpack<|.iface 53<|ap n).run bz w=.ok (dW #[fj<|H<|R (7) 53,ay<|z<|G w,aJ 130]) (cF w<|ar #[ap n] 53):=by kernel_rfl
def OM(w:Y):(Rtype.elem? 108).run bz w=.ok (H 53) w:=by kernel_rfl
def Zn(p:Addr)(w:Y):(ReflectliteValue.mk 53 p ReflectliteValue.flagAddr).run bz w=.ok (dW #[fj<|H<|R (7) 53,fj<|H p,aJ 386]) w:=by kernel_rfl
def Sn(b p:Addr)(W:Y)(a:aO W b=H (fj<|H p)):(ReflectliteValue.method (ReflectliteValue.valueError "reflectlite.Value.Elem" 0) ReflectliteValue.elem #[dW #[fj<|H<|R (7) 108,fj<|H b,aJ 150]]).run bz W=.ok (dW #[fj<|H<|R (7) 53,fj<|H p,aJ 386]) W:=by
 rw[F4];simp only[ki,Ht,Result.andThen];simp[ReflectliteValue.elem,loadVar,isAgg,underlying,underlying108,a,Result.andThen,OM,Zn]
def F9(v x:aa):ReflectliteValue.set #[v,x]=(do
 let(H (dst,a,fl),H (src,b,_)):=(<-ReflectliteValue.parts v,<-ReflectliteValue.parts x)
  |unsupported (.noEntry "extern/(internal/reflectlite.Value).Set.zeroValue")
 if fl/ReflectliteValue.flagAddr%2==0 then unsupported (.noEntry "extern/(internal/reflectlite.Value).Set.unaddressable")
 let c<-loadVar src b
 if<-Rtype.directlyAssignable dst src then storeVar dst a c
 else if<-Rtype.implements dst src then
  if(<-Rtype.kind src)==20 then
   match c with
   | .nilIface=>unsupported<|.noEntry "extern/reflectlite: a nil value of one interface type handed on as a value of another"
   |_=>storeVar dst a c
  else storeVar dst a (.iface src c)
 else panicString ("reflectlite.Set: value of type " ++(<-Rtype.spelt src)++ " is not assignable to type " ++(<-Rtype.spelt dst))
 pure (dw #[])):=rfl
def OL(a:Addr)(w:Y):(ReflectliteValue.parts<|dW #[fj<|H<|R (7) 53,fj<|H a,aJ 386]).run bz w=.ok (H (53,a,386)) w:=by kernel_rfl
def Sk(a:Addr)(w:Y):(ReflectliteValue.parts<|dW #[fj<|H<|R (7) 53,fj<|H a,aJ 130]).run bz w=.ok (H (53,a,130)) w:=by kernel_rfl
def ON(w:Y):(Rtype.directlyAssignable 53 53).run bz w=.ok bU w:=by kernel_rfl
def XR(a e:Addr)(n:Z)(KP:aa)(W:Y)(b:aO W e=H (ap n))(d:aO W a=H KP)(c:W.frozen? a=aY):(ReflectliteValue.set #[dW #[fj<|H<|R (7) 53,fj<|H a,aJ 386],dW #[fj<|H<|R (7) 53,fj<|H e,aJ 130]]).run bz W=.ok (dw #[]) (cA W a<|ap n):=by
 rw[F9];simp only[ki,OL,Sk,Result.andThen];simp[ReflectliteValue.flagAddr,loadVar,isAgg,underlying,underlying53,b,Result.andThen,ON,storeVar,Value.cells,storeCells,Addr.add];rw[run_store bz W a _ _<|by rfl];simp[d,c]
def qH(w:Y):Prop:=aO w (R 0 0)=H (.iface 230<|dW #[fj<|H<|R (7) 50])
def ZQ(n:Z)(t:Addr)(KP:aa)(e:qH a)(b:aO a t=H KP)(d:a.frozen? t=aY):cD bz 39 #[.iface 53<|ap n,.iface 108<|fj<|H t] a λk C=>k=aL (aK bU)/\C=cA (cF (cF (cF (cF a<|ar #[fj<|H t] 108)<|ar #[fj<|H<|R (7) 108,ay<|z<|G a,aJ 150] 147)<|ar #[fj<|H<|R (7) 108,ay<|z<|G a,aJ 150] 147)<|ar #[ap n] 53) t (ap n):=by
 unfold qH at e;have K:=@eZ bz 72 _ (λa=>ReflectliteValue.unpack<|a.getD 0<|dw #[]) func72 (by kernel_rfl) (by kernel_rfl) (by kernel_rfl) (by kernel_rfl);have L:=@eZ bz 73 _ (ReflectliteValue.methodAny (ReflectliteValue.valueError "reflectlite.Value.Type" 0)<|λt _ _ _=>ReflectliteType.toType t) func73 (by kernel_rfl) (by kernel_rfl) (by kernel_rfl) (by kernel_rfl);have N:=@eZ bz 74 _ (ReflectliteValue.method (ReflectliteValue.valueError "reflectlite.Value.IsNil" 0) ReflectliteValue.isNil) func74 (by kernel_rfl) (by kernel_rfl) (by kernel_rfl) (by kernel_rfl);have q:=@eZ bz 318 _ (ReflectliteType.abiMethod λt=>do pure (tL<|<-Rtype.kind t)) func318 (by kernel_rfl) (by kernel_rfl) (by kernel_rfl) (by kernel_rfl);have s:=@eZ bz 347 _ (ReflectliteType.method ReflectliteType.elem) func347 (by kernel_rfl) (by kernel_rfl) (by kernel_rfl) (by kernel_rfl);have u:=@eZ bz 348 _ (ReflectliteType.relation "Implements" ReflectliteType.implements_) func348 (by kernel_rfl) (by kernel_rfl) (by kernel_rfl) (by kernel_rfl);have l:=@eZ bz 127 _ ReflectliteType.typeOf func127 (by kernel_rfl) (by kernel_rfl) (by kernel_rfl) (by kernel_rfl);have r:=@eZ bz 345 _ (ReflectliteType.relation "AssignableTo" ReflectliteType.assignableTo) func345 (by kernel_rfl) (by kernel_rfl) (by kernel_rfl) (by kernel_rfl);have m:=@eZ bz 128 _ (ReflectliteValue.method (ReflectliteValue.valueError "reflectlite.Value.Elem" 0) ReflectliteValue.elem) func128 (by kernel_rfl) (by kernel_rfl) (by kernel_rfl) (by kernel_rfl);have o:=@eZ bz 129 _ ReflectliteValue.set func129 (by kernel_rfl) (by kernel_rfl) (by kernel_rfl) (by kernel_rfl);have V:=Ez;have O:=wV;have i:=EB;have B:=LI;have E:=LH;have F:=Vd;have S:=Gx;have P:=Gy;have Q:=yV;have A:=Ve;have x:=Vf;have j:=Vg;have w:=EA;have T:=Sl (R (z<|G a) 0) t (cF (cF a<|ar #[fj<|H t] 108)<|ar #[fj<|H<|R (7) 108,ay<|z<|G a,aJ 150] 147) (by simp);have f:0<z (G a):=dj _ _ e;have v:aO (cF (cF a<|ar #[fj<|H t] 108)<|ar #[fj<|H<|R (7) 108,ay<|z<|G a,aJ 150] 147) (R 0 0)=H (.iface 230<|dW #[fj<|H<|R (7) 50]):=by rw[fc _ _ (R 0 0) (by simp_all),fc _ _ (R 0 0) f];exact e
 have c:t.block<z (G a):=dj _ _ b;have D:=Sn (R (z<|G a) 0) t (cF (cF (cF a<|ar #[fj<|H t] 108)<|ar #[fj<|H<|R (7) 108,ay<|z<|G a,aJ 150] 147)<|ar #[fj<|H<|R (7) 108,ay<|z<|G a,aJ 150] 147) (by rw[fc _ _ (R (z<|G a) 0) (by simp;omega)];simp);have g:=XR t (R (z (G a)+1+1+1) 0) n KP (cF (cF (cF (cF a<|ar #[fj<|H t] 108)<|ar #[fj<|H<|R (7) 108,ay<|z<|G a,aJ 150] 147)<|ar #[fj<|H<|R (7) 108,ay<|z<|G a,aJ 150] 147)<|ar #[ap n] 53) (by rw[World.cell?_alloc_at _ _ _ _<|by simp];rfl) (by rw[fc _ _ t (by simp;omega),fc _ _ t (by simp;omega),fc _ _ t (by simp;omega),fc _ _ t c];exact b) (by rw[my _ _ t (by simp;omega),my _ _ t (by simp;omega),my _ _ t (by simp;omega),my _ _ t<|Nat.ne_of_lt c];exact d);go_in
 go_wp2;refine mr 1 ?_;rw[ku];go_wp2;go_ret;simp_all
end
section
variable{P:Program}{a:Array Oper}{Q:Exit->Act->Y->Prop}{md:Region.Mode}
theorem Jp{n:M}{d:String}{b:Array aa}{w:Y}{c:aa->Y->Prop}(h:Rows P d b w c):RowsIn Fence.wide n P d b w c:=λg e _=>let⟨v,f,r,s⟩:=h g e;⟨v,f,r,stepsIn_wide.2 s⟩
theorem Oper.KS{o:Oper}{b:Act}{w:Y}{K:Act->Y->Prop}(n:M)(d:∀c,o.op≠ .defer c)(h:o.wp P b w K Q):o.wpIn Fence.wide n P b w K Q:=by
 unfold Oper.wpIn;refine⟨λf _=>trivial,?_⟩;rw[Oper.semAt_plain Fence.wide _ _ d];unfold Oper.wp at h;generalize(execOp b.eval o).run P w=r at*;cases r with
 |ok x e=>
  cases x<;>simp only[Oper.upon,Oper.uponIn]at h|-<;>first
   |exact h
   |exact⟨(λc=>(by cases c)),dh.2 h⟩
   |exact⟨(λc=>(by cases c)),Jp h⟩
   |exact h.elim
 |halt x e=>cases x<;>simp only[Oper.upon,Oper.uponIn]at h|-<;>exact h
theorem Cz{n:M}(k:∀(i:M)(o:Oper)c,a[i]?=H o->o.op≠ .defer c)(j:¬LetsOut Q):∀(b:M)(d:Array Bool)(p:Act)(w:Y),wpAny P md a Q b d p w->wpAnyIn Fence.wide n P md a Q b d p w
 |0,_,_,_,h=>h
 |b+1,_,_,_,h=>⟨h.1,λi l=>by
  have e:=uQ (λf m g=>Cz (n:=n) k j b _ f m g)<|h.2 i l;unfold wpOp at e;unfold wpOpIn;cases ho:a[i]? with
  |none=>grind
  |some o=>
   simp only[ho]at e|-;split
   .rename_i f;simp only[f,ir]at e;grind[Oper.KS]
   .rename_i f;simp only[f]at e;exact⟨λ_ _=>trivial,e⟩⟩
theorem Br(S:Y->Prop)(m:M){n id:M}{b:Act}{w:Y}(e:P.follows .mixedOrders=bU)(d:DE a=bU)(c:∀b w,¬Q .outgrown b w)(h:kR P .any a Q S m a.size (Array.replicate a.size aY) b w.drew):(Code.region id a bU).wpIn Fence.wide n P Q b w:=wpIn_region_any e<|Cz (wi d) (λ⟨b,w,h⟩=>c b w h) _ _ _ _<|oJ _ _ _ _ h
end
def qH.alloc{w:Y}(h:qH w)(o:Obj):qH (cF w o):=by
 unfold qH at*;rw[fc _ _ _<|dj _ _ h];exact h
theorem Ol(n:Z)(k:qH a):cD bz 13 #[.iface 53<|ap n] a λm l=>m=aL (ap n)/\Below (z<|G a) a l:=by
 have e:aO (cF a<|ar #[ap 0] 53) (R (z<|G a) 0)=H (ap 0):=by simp
 have d:(cF a<|ar #[ap 0] 53).frozen? (R (z<|G a) 0)=aY:=by simp
 have i:=ZQ n (R (z<|G a) 0) (ap 0) (k.alloc _) e d;clear e d;go_in
 go_wp2_with(go_at_call 39;refine i.mono ?_;rintro m f⟨rfl,b⟩;have c:Below (z<|G a) a f:=(by rw[b];exact((((((Below.refl _ a).alloc (ai _) _).alloc (by simp) _).alloc (by simp;omega) _).alloc (by simp;omega) _).alloc (by simp;omega) _).setCell (p:=(R (z<|G a) 0)) (ai _) _);have j:aO f (R (z<|G a) 0)=H (ap n):=(by rw[b];exact World.cell?_setCell_same' _ _ _ (by rw[fc _ _ _ (by simp;omega),fc _ _ _ (by simp;omega),fc _ _ _ (by simp;omega),fc _ _ _<|by simp];simp));have g:=U c;clear b c)
 go_ret;exact⟨rfl,g⟩
section
open Extern.Stop Stop Extern
def Rb(a:TypeId)(v:aa)(w:Y):(binOp .eql 50 (.iface a v) .nilIface).run bz w=.ok (aK aY) w:=by
 have h:∀d:M,(Op.equalIn (d+1) 50 (.iface a v) .nilIface).run bz w=.ok aY w:=λd=>by simp[Op.equalIn,eG underlying50]
 simp only[binOp];simp[Op.equal,Op.maxDepth,h 9999]
def WJ:(prog.info? 53).map (·.comparable)=H bU:=by kernel_rfl
def We(n:Z)(w:Y):cD bz 108 #[.nilIface,.iface 53<|ap n] w λe a=>e=aL (aK aY)/\a=w:=by
 have b:∀w,(binOp .eql 50 .nilIface<|.iface 53<|ap n).run bz w=.ok (aK aY) w:=λw=>run_eql_iface_nil_left w _ _ underlying50;go_in
 go_wp2;go_ret;simp_all
def yY(h:aa)(w:Y):(Go.method 554 230 (dW #[h]) "Comparable").run bz w=.ok (346,dW #[h]) w:=by kernel_rfl
def Fu(w:Y):(ReflectliteType.method (λt=>do Rtype.noPackHeld "Comparable" t;(λa:TypeInfo=>aK a.comparable)<$>typeInfo t) #[dW #[fj<|H<|R (7) 53]]).run bz w=.ok (aK bU) w:=by kernel_rfl
def D5(v:aa)(a:TypeId)(w:Y):(Instr.typeAssert (.iface 223 v) a 363 bU).run bz w=.ok (dw #[.nilIface,aK aY]) w:=run_typeAssert_lacksB underlying363 (by kernel_rfl) (by kernel_rfl) v a w
def XB(v:aa)(a:TypeId)(w:Y):(Instr.typeAssert (.iface 223 v) a 238 bU).run bz w=.ok (dw #[.iface 223 v,aK bU]) w:=run_typeAssert_hasB underlying238 (by kernel_rfl) v a w
def JJ(v:aa)(w:Y):(Go.method 554 223 v "Unwrap").run bz w=.ok (343,v) w:=by kernel_rfl
def Og(a:M)(n:Z)(w:Y)(h:aO w (R a 1)=H (ap n)):cD bz 343 #[ay a] w λe b=>e=aL (.iface 53<|ap n)/\b=w:=by
 go_in
 go_wp2;go_ret;simp_all
def TR(n:Z)(w:Y):(binOp .eql 50 (.iface 53<|ap n)<|.iface 53<|ap n).run bz w=.ok (aK bU) w:=by
 obtain⟨i,b,a⟩:=vM.1 WJ;have h:∀d:M,(Op.equalIn (d+2) 50 (.iface 53<|ap n)<|.iface 53<|ap n).run bz w=.ok bU w:=λd=>by simp[Op.equalIn,eG underlying50,eG underlying53,typeInfo,b,a]
 simp only[binOp];simp[Op.equal,Op.maxDepth,h 9998]
def Tr(a:M)(n:Z)(w:Y)(h:aO w (R a 1)=H (ap n)):cD bz 180 #[.iface 223<|ay a,.iface 53<|ap n,aK bU] w λe b=>e=aL (aK bU)/\b=w:=by
 have g:∀w,(binOp .eql 50 (.iface 223<|ay a)<|.iface 53<|ap n).run bz w=.ok (aK aY) w:=λw=>run_eql_iface_types _ _ _ _ underlying50 (by decide) w;have i:=TR n;have j:=Rb;have d:=D5;have f:=XB;have m1:=JJ;have c:=Og a n w h;go_in
 go_wp2;refine mr 2 ?_;rw[ku];go_wp2_with fail
 apply c.mono;rintro e b⟨rfl,rfl⟩;go_wp2;rw[ku];go_wp2;go_ret;simp_all
def QU(a:M)(n:Z)(w:Y)(h:aO w (R a 1)=H (ap n)):cD bz 108 #[.iface 223<|ay a,.iface 53<|ap n] w λf b=>f=aL (aK bU)/\b=w:=by
 have i:=Rb;have c:=@eZ bz 127 _ ReflectliteType.typeOf func127 (by kernel_rfl) (by kernel_rfl) (by kernel_rfl) (by kernel_rfl);have d:=@eZ bz 346 _ (ReflectliteType.method (λt=>do Rtype.noPackHeld "Comparable" t;pure (aK (<-typeInfo t).comparable))) func346 (by kernel_rfl) (by kernel_rfl) (by kernel_rfl) (by kernel_rfl);have k:=Ez;have j:=yY;have g:=Fu;have e:=Tr a n w h;go_in
 go_wp2_with fail
 apply e.mono;rintro f b⟨rfl,rfl⟩;go_wp2;go_ret;simp_all
end
structure oo where
 live:Bool
 v:aa
 l:jN
def Gs:cw oo->iC
 |[]=>[]
 |x::r=>.bool x.live::x.v::Gs r
def Ox(a:cw oo):y (Gs a)=y a*2:=by
 induction a with
 |nil=>rfl
 |cons x r b=>simp only[Gs,aS,b];omega
theorem yz:∀(a:cw oo)(j:M)(h:j<y a),(Gs a)[j*2]?=H (aK a[j].live)/\(Gs a)[j*2+1]?=H a[j].v
 |[],j,h=>absurd h<|ft _
 |x::r,0,_=>⟨rfl,rfl⟩
 |x::r,j+1,h=>by
  have b:=yz r j (by simpa using h);have e:(j+1)*2=j*2+1+1:=by omega
  rw[e];simp only[Gs,pz,bF];exact b
structure KF(w:Y)(sv:aa)(ss:cw oo):Prop where
 row:Row w 2 sv (y ss) (Gs ss)
 each:∀x∈ss,x.live=bU->mT w x.v x.l/\∀g,ct x.v=H g->g<z (G w)
 shape:∀x∈ss,∃p n c,x.v=J p n c
 small:y ss<=1000000000
def ZU(u:aa):Prop:=(∃b,u=aK b)\/∃x n c,u=J x n c
def zX(w:Y)(v:aa):Prop:=∀k a t b,ct v=H k->w.heap[k]?=H (ar a t b)->∀u∈a.toList,ZU u
def zX.aw{S:fA}{w w':Y}(m:zX w d)(l:I S w w')(g:∀k,ct d=H k->¬S k)(j:∀k,ct d=H k->k<z (G w)):zX w' d:=λk a t e c h=>m k a t e c<|(l.block k (j k c)<|g k c).symm.trans h
def zX.set{h i:M}{t:TypeId}{k:M×M}(m:zX a d)(f:ct d=H h)(c:a.heap[h]?=H (ar V t k))(n:ZU u):zX (cA a (R h i) u) d:=by
 intro p j o l e b x g;rw[f]at e;cases e;rw[aT c]at b;cases b;rw[nJ]at g;rcases jR g with q|q;exact m h _ _ _ f c x q;grind
def Ky(a:cw oo)(n:Z):Option oo:=if n<1 then none else match a[(n-1).toNat]? with
 |some x=>if x.live then H x else none
 |none=>none
def GO(a:cw oo)(n:Z):aa:=match Ky a n with
 |some x=>.tuple #[x.v,.int .i64 0]
 |none=>.tuple #[aD,.int .i64 5]
def yD(Q:Option M)(c:cw oo)(u:Z)(h:mO a b Q F D d)(e:KF a d c):cD bz 60 #[ay b,ap u] a λX V=>X=aL (if D then .tuple #[aD,ap 6]else GO c u)/\V=a:=by
 obtain⟨⟨ad,t,N,_⟩,_,_⟩:=h;have A:=cellAt t 1 rfl;have B:=cellAt t 2 rfl;have O:=e.small;clear t N;cases D with
 |true=>
  clear e;go_in
  go_wp2;go_ret2
  simp_all
 |false=>
  by_cases n:u<1
  .have k:=U (show GO c u=dw #[aD,ap 5]by unfold GO Ky;rw[dz n]);clear e;go_in
   go_wp2;go_ret2
   exact⟨k▸rfl,rfl⟩
  .obtain⟨j,rfl⟩:∃j:M,u=(j:Z)+1:=⟨(u-1).toNat,by omega⟩;have l:((j:Z)+1-1).toNat=j:=by omega
   by_cases o:j<y c
   .obtain⟨q,r⟩:=yz c j o;obtain⟨ac,T,S,p⟩:=e.shape c[j]<|ak o;rcases e.row.2 with⟨_,v⟩|⟨W,f,m,rfl,L,g⟩
    .omega
    have w:=g _ _ q;have P:=g _ _ r;rw[p,<-aV]at P;have s:¬((y c:Z)<(j:Z)+1):=by omega
    have C:IntKind.i64.wrap ((j:Z)+1-1)=j:=by rw[bw];omega
    have E:(j:Z)+1-1=j:=by omega
    have K:(j:Z)<(y c:Z):=by omega
    have x:¬((j:Z)+1<1):=n;cases hlv:c[j].live with
    |true=>
     have k:=U (show GO c ((j:Z)+1)=dw #[J ac T S,ap 0]by unfold GO Ky;rw[dr n,l,aI o];simp[hlv,p]);rw[hlv]at w;clear e g q r p hlv l;go_in
     go_wp2;go_ret2
     exact⟨k▸rfl,rfl⟩
    |false=>
     have k:=U (show GO c ((j:Z)+1)=dw #[aD,ap 5]by unfold GO Ky;rw[dr n,l,aI o];simp[hlv]);rw[hlv]at w;clear e g q r p hlv l;go_in
     go_wp2;go_ret2
     exact⟨k▸rfl,rfl⟩
   .have k:=U (show GO c ((j:Z)+1)=dw #[aD,ap 5]by unfold GO Ky;rw[dr n,l,lq<|by omega]);have s:(y c:Z)<(j:Z)+1:=by omega
    rcases e.row.shape with rfl|⟨W,f,m,rfl⟩
    .have q:y c=0:=by
      rcases e.row.2 with⟨_,v⟩|⟨W,f,m,p,_⟩
      .exact v
      .cases p
     have g:(0:Z)<(j:Z)+1:=by omega
     clear e l;go_in
     go_wp2;go_ret2
     exact⟨k▸rfl,rfl⟩
    .clear e l;go_in
     go_wp2;go_ret2
     exact⟨k▸rfl,rfl⟩
def DO{a:cw oo}{x:oo}(h:Ky a m=H x):x∈a/\x.live=bU:=by
 unfold Ky at h;split at h;cases h;split at h;rename_i d c;split at h;rename_i b;cases h;exact⟨gp c,b⟩;cases h;cases h
def xX(a:cw oo)(n:Z)(k:ab):ab×Bool×Z:=match Ky a n with
 |some x=>su x.l k
 |none=>(⟨#[]⟩,aY,5)
def Jv(r:Option M)(e:cw oo)(n:Z)(k:ab)(h:mO a b r F D d)(f:KF a d e)(t:∀x∈e,y x.l<=1000000000000)(l:k.size<=140737488351232):cD bz 49 #[ay b,ap n,aj k] a λm u=>
 m=aL (if D then .tuple #[aj ⟨#[]⟩,aK aY,ap 6]else .tuple #[aj (xX e n k).1,aK (xX e n k).2.1,ap (xX e n k).2.2])/\u=a:=by
 have c:=yD r e n h f
 clear h
 cases D with
 |true=>
  simp only[ir]at c|-;clear f;go_in
  go_wp2_with fail
  apply c.mono;rintro m s⟨rfl,rfl⟩;go_wp2;go_ret3
  simp_all
 |false=>
  simp only[gC,jk]at c|-;cases hx:Ky e n with
  |none=>
   have j:=U (show xX e n k=(⟨#[]⟩,aY,5)by unfold xX;rw[hx]);have g:GO e n=dw #[aD,ap 5]:=by unfold GO;rw[hx]
   rw[g]at c;clear f g hx;go_in
   go_wp2_with fail
   apply c.mono;rintro m s⟨rfl,rfl⟩;go_wp2;go_ret3
   exact⟨by rw[ae j];rfl,rfl⟩
  |some x=>
   obtain⟨i,p⟩:=DO hx;have j:=U (show xX e n k=su x.l k by unfold xX;rw[hx]);have g:GO e n=dw #[x.v,ap 0]:=by unfold GO;rw[hx]
   rw[g]at c;have o:=Ra k (f.each x i p).1 (t x i) l;obtain⟨B,w,v,q⟩:=f.shape x i;rw[q]at c o;clear f g hx i p q;go_in
   go_wp2_with fail
   apply c.mono;rintro m s⟨rfl,rfl⟩;go_wp2_with fail
   apply o.mono;rintro m A⟨rfl,rfl⟩;go_wp2;go_ret3
   exact⟨by rw[ae j];rfl,rfl⟩
def Gz(t:Option M)(f:cw oo)(p:Z)(o m:ab)(c:Z)(h:mO a b t F D d)(g:KF a d f)(A:∀x∈f,y x.l<=1000000000000):cD bz 51 #[ay b,ap p,aj o,aj m,ap c] a λq u=>
 ∃e,q=.returned (.tuple #[e,.int .i64<|if D then 6 else if(Ky f p).isSome then 0 else 5])/\pu u (z<|G a) e (if D then []else match Ky f p with|some x=>nw x.l o m c|none=>[])/\Below (z<|G a) a u:=by
 have e:=yD t f p h g
 clear h
 cases D with
 |true=>
  simp only[ir]at e|-;clear g;go_in
  go_wp2_with fail
  apply e.mono;rintro q v⟨rfl,rfl⟩;go_wp2;go_ret2
  exact⟨_,rfl,bK _ _ _ _,Below.refl _ _⟩
 |false=>
  simp only[gC,jk]at e|-;cases hx:Ky f p with
  |none=>
   have l:GO f p=dw #[aD,ap 5]:=by unfold GO;rw[hx]
   rw[l]at e;clear g l hx;simp only[Option.isSome_none,gC,jk];go_in
   go_wp2_with fail
   apply e.mono;rintro q v⟨rfl,rfl⟩;go_wp2;go_ret2
   exact⟨_,rfl,bK _ _ _ _,Below.refl _ _⟩
  |some x=>
   obtain⟨k,n⟩:=DO hx;have l:GO f p=dw #[x.v,ap 0]:=by unfold GO;rw[hx]
   rw[l]at e;have r:=Dn o m c (g.each x k n).1 (g.each x k n).2<|A x k;obtain⟨O,C,B,s⟩:=g.shape x k;rw[s]at e r;clear g l hx k n s;simp only[Option.isSome_some,ir];go_in
   go_wp2_with fail
   apply e.mono;rintro q v⟨rfl,rfl⟩;go_wp2_with fail
   apply r.mono;rintro q N⟨L,rfl,i,j⟩;obtain⟨K,E,rfl⟩:=aA i;have w:=U<|And.intro i j;clear i j;go_wp2;go_ret2
   exact⟨_,rfl,w⟩
theorem QF:∀(a:cw oo)(j:M)(x:oo),j<y a->Gs (a.set j x)=((Gs a).set (j*2)<|aK x.live).set (j*2+1) x.v
 |[],j,x,h=>absurd h<|ft _
 |yqq::r,0,x,_=>rfl
 |yqq::r,j+1,x,h=>by
  have b:=QF r j x (by simpa using h);have e:(j+1)*2=j*2+1+1:=by omega
  rw[e];simp only[Gs,dl,b]
def Bc:oo:=⟨aY,aD,[]⟩
def Vu{d:cw oo}(x:oo)(o:a.ownsRow b 77 2 (bB c 0 (y d) g) (y d) (Gs d))(t:l<y d):(cA (cA a (R c<|l*2)<|aK x.live) (R c<|l*2+1) x.v).ownsRow b 77 2 (bB c 0 (y d) g) (y<|d.set l x) (Gs<|d.set l x):=by
 refine⟨Ox _,.inr ?_⟩;rcases o.2 with⟨f,s⟩|⟨r,m,q,f,j,n,e,k,h,p⟩;cases f;cases f;refine⟨c,g,_,by rw[eS],j,aT<|aT n,by rw[eS];exact e,k,by simpa using h,?_⟩;grind[Array.toList_setIfInBounds,take_set,length_set,QF]
def zj(k:Option M)(f:cw oo)(n:Z)(h:mO a b k F D d)(g:KF a d f)(j:D=bU\/Ky f n=none):cD bz 26 #[ay b,ap n] a λl m=>l=aL (ap<|if D then 6 else 5)/\m=a:=by
 have c:=yD k f n h g;clear h g;cases D with
 |true=>
  simp only[ir]at c|-;go_in
  go_wp2_with fail
  apply c.mono;rintro l o⟨rfl,rfl⟩;go_wp2;go_ret;simp_all
 |false=>
  have e:Ky f n=none:=j.elim (λq=>by cases q) id;have i:GO f n=dw #[aD,ap 5]:=by unfold GO;rw[e]
  simp only[gC,jk]at c|-;rw[i]at c;clear j e i;go_in
  go_wp2_with fail
  apply c.mono;rintro l o⟨rfl,rfl⟩;go_wp2;go_ret;simp_all
def EF(K:Option M)(e:cw oo)(j:M)(al:oo)(h:mO a b K F aY d)(l:KF a d e)(p:Ky e ((j:Z)+1)=H al)(A:j<y e)(o:a.ownsRow c 77 2 d (y e) (Gs e))(B:zX a d):cD bz 26 #[ay b,ap<|(j:Z)+1] a λan t=>an=aL (ap 0)/\t.ownsRow c 77 2 d (y<|e.set j Bc) (Gs<|e.set j Bc)/\a.grownBy t (ct d)/\zX t d:=by
 have f:=yD K e ((j:Z)+1) h l;have E:GO e ((j:Z)+1)=dw #[al.v,ap 0]:=by unfold GO;rw[p]
 simp only[gC,jk]at f;obtain⟨aq,pn,pc,D⟩:=l.shape al (DO p).1;rw[E,D]at f;obtain⟨⟨au,x,_,_⟩,_,_⟩:=h;have P:=cellAt x 1 rfl;have ac:=l.small;rcases o.2 with⟨_,h0⟩|⟨O,N,ad,rfl,Q,m,W,X,n,r⟩;omega;obtain⟨v,w⟩:=yz e j A;have k:∀i,a.frozen? (R O i)=aY:=λi=>dE m;have f0:=k<|j*2;have f1:=k<|j*2+1;rcases l.row.2 with⟨q,_⟩|⟨ao,s,u,q,C,g⟩;cases q;cases q;have k0:=g _ _ v;have k1:=g _ _ w;rw[dp]at k0 k1;have L:=U<|And.intro (Vu Bc o A) (And.intro (xW (de a O (j*2)<|aK Bc.live)<|de _ O (j*2+1) Bc.v) ((B.set (i:=j*2) rfl m<|.inl ⟨Bc.live,rfl⟩).set (i:=j*2+1) rfl (aT m)<|.inr ⟨none,0,0,rfl⟩));have S:IntKind.i64.wrap ((j:Z)+1-1)=j:=by rw[bw];omega
 have T:(j:Z)+1-1=j:=by omega
 have V:(j:Z)<(y e:Z):=by omega
 clear l p E D x o m n r g v w k B;go_in
 go_wp2_with fail
 apply f.mono;rintro an w1⟨rfl,rfl⟩;clear f;go_wp2;go_ret;exact⟨rfl,L⟩
def mO.set(j:a.heap[b]?=H (ar #[d,N,aK D] 35 (0,0)))(h:Below (z<|G a) a f)(l:mT f u F)(m:∀k,ct u=H k->k<z (G f))(c:ct u≠H b):mO (cA f (R b 0) u) b (ct u) F D N/\a.grownBy (cA f (R b 0) u) (H b):=by
 have e:=de f b 0 u;have g:f.heap[b]?=H (ar #[d,N,aK D] 35 (0,0)):=by rw[h.block b<|am j];exact j
 exact⟨⟨⟨u,by rw[aT g];rfl,Row.grown l e<|.inl c,rfl⟩,c,λk b=>ag (m k b) e.size⟩,xW (NA h _) e⟩
def sj(r:Option M){c:uP}(h:mO a b r F D u)(V:yp a d c)(m:∀k,ct d=H k->k<z (G a))(hr:y F+y c<=1000000000000):cD bz 22 #[ay b,d] a λv w'=>
 v=aL (ap<|if D then 6 else ga c)/\(∃e,mO w' b e (if D=aY/\ga c=0 then Us F c else F) D u/\(e=r\/∀k,e=H k->z (G a)<=k))/\a.grownBy w' (H b):=by
 have S:=U h
 obtain⟨⟨aq,l,W,t⟩,p,o⟩:=h
 have C:=cellAt l 0 rfl
 have al:=cellAt l 2 rfl
 have E:=dE (i:=0) l
 have q:b<z (G a):=am l
 obtain⟨HH,Q,HL,w,x,A,B⟩:=xV l W (show∀k,ct aq=H k->k<z (G a)fromλk c=>o k<|t▸c) V m (show ct aq≠H b from t▸p) t
 clear l W t o V m p
 cases D with
 |true=>
  go_in
  go_wp2;go_ret;exact⟨rfl,⟨r,S,.inl rfl⟩,tr _ _⟩
 |false=>
  by_cases s:ga c=0
  .have K:(ga c==0)=bU:=by rw[s];rfl
   have ao:ga c=0:=s;clear s;rcases Q.shape with rfl|⟨au,N,ac,rfl⟩;all_goals
    go_in
    go_wp2_with fail
    apply(II w<|by omega).mono;rintro v w0⟨rfl,rfl⟩;go_wp2_with fail
    apply(ZI c Q HL w x hr).mono;rintro v w1⟨O,rfl,g,n,j,e⟩;have an:w1.frozen? (R b 0)=aY:=(e.frozen<|by exact q).trans E;have ad:aO w1 (R b 0)=_:=(e.cell<|by exact q).trans C;have f:ct O≠H b:=λv=>by rcases j with h|h;exact A<|h▸v;grind
    have P:=U<|mO.set HH e g n f;have L:=g.shape;have HOr:=U (show ct O=r\/∀k,ct O=H k->z (G w0)<=k from j.imp (λv=>v.trans B) id);clear g n e f j;rcases L with rfl|⟨b1,X,T,rfl⟩;all_goals
     go_wp2;go_ret;exact⟨rfl,⟨_,P.1,HOr⟩,P.2⟩
  .have K:(ga c==0)=aY:=jx.2 s;go_in
   go_wp2_with fail
   apply(II w<|by omega).mono;rintro v w0⟨rfl,rfl⟩;go_wp2;go_ret;exact⟨rfl,⟨r,S,.inl rfl⟩,tr _ _⟩
def LQ(j:Option M)(h:mO a b j F D d):cD bz 34 #[ay b] a λk n=>
 k=aL (ay<|z<|G a)/\mO n (z<|G a) j F aY aD/\∃o,n=cF a o:=by
 obtain⟨⟨v,l,f,m⟩,e,c⟩:=h
 have q:=cellAt l 0 rfl
 have fin:mO (cF a<|ar #[v,aD,aK aY] 35) (z<|G a) j F aY aD:=⟨⟨v,jl _ _,Row.grown f (dt a _ none) (by grind),m⟩,λk=>by have:=c _ k;omega,λg k=>by have:=c g k;simp;omega⟩
 have o:=U fin
 have g:=f.shape
 clear fin l f m e c
 rcases g with rfl|⟨r,i,p,rfl⟩
 all_goals
  go_in
  go_wp2;go_ret;exact⟨rfl,o,_,rfl⟩
structure IU where
 kd:Z
 A:Z
 B:Z
 S:ab
 T:ab
 L:aa
 cs:uP
def IU.cells(o:IU):iC:=[ap o.kd,ap o.A,ap o.B,aj o.S,aj o.T,o.L]
def rI(a:cw IU):iC:=a.flatMap IU.cells
def qp(a:cw IU)(i:M)(h:i<y a)(j:M)(b:j<6):(rI a)[i*6+j]?=a[i].cells[j]?:=by
 induction a generalizing i with
 |nil=>simp at h
 |cons o a d=>
  have e:rI (o::a)=o.cells++rI a:=rfl;have c:y o.cells=6:=rfl;grind
def GW(a:uP):M:=(a.map<|λc=>1+c.key.size+c.val.size).sum
def ZW(o:IU):M:=o.S.size+o.T.size+GW o.cs
def Gl(a:cw IU):M:=(a.map ZW).sum
def Xy(w:Y)(v:aa)(a:uP):Prop:=(yp w v a/\∀k,ct v=H k->k<z (G w))\/(a=[]/\∃(b:Addr)(c:M),v=J (H b) 0 c)
def BR{c:uP}(i:Xy a d c):∃x g,d=J x (y c) g:=by
 rcases i with⟨⟨k,⟨f,j⟩|⟨h,e,b,f,_⟩⟩,_⟩|⟨rfl,l,g,rfl⟩;grind
 grind
 simp_all
def Xy.aw{w w':Y}{c:uP}(h:Xy w d c)(g:I az w w'):Xy w' d c:=by
 rcases h with⟨j,e⟩|h;exact .inl ⟨g.row j<|λk a=>⟨id,e k a⟩,λk a=>ag (e k a) g.size⟩;exact .inr h
structure KE(w:Y)(v:aa)(os:cw IU):Prop where
 row:Row w 6 v (y os) (rI os)
 Ut:∀o∈os,Xy w o.L o.cs
 lt:∀k,ct v=H k->k<z (G w)
 str:∀o∈os,o.S.size<=140737488351232/\o.T.size<=140737488351232
 F2:∀o∈os,∀c∈o.cs,c.key.size<=140737488351232/\c.val.size<=140737488351232
 len:y os<=10000000000000
 lens:∀o∈os,y o.cs<=10000000000000
def Uw(a:uP)(k:M)(h:k<y a):GW (a.take<|k+1)=GW (a.take k)+(1+a[k].key.size+a[k].val.size):=by
 unfold GW;rw[ah h,aQ,eR];simp
def KQ(a:cw IU)(i:M)(h:i<y a):Gl (a.take<|i+1)=Gl (a.take i)+ZW a[i]:=by
 unfold Gl;rw[ah h,aQ,eR];simp
theorem Ux(a:uP)(k:M):GW (a.take k)<=GW a:=by
 unfold GW;grind[take_append_drop]
def Uv(a:cw IU)(k:M):Gl (a.take k)<=Gl a:=by
 unfold Gl;grind[take_append_drop]
def Oy(bb d bk:M)(b:cw IU)(h:KE a (bB bb d (y b) bk) b):cD bz 4 #[bB bb d (y b) bk] a λbo w'=>bo=aL (aK<|decide<|y b+Gl b<=1048576)/\∃q,w'=a.drewN q:=by
 by_cases bh:1048576<y b;(·(have e1:(1048576:Z)<(y b:Z):=by omega);(have hd:decide (y b+Gl b<=1048576)=aY:=by simp;omega);rw[hd];clear h;(go_in);go_wp2;go_ret;exact⟨rfl,0,rfl⟩);(·(have e1:¬((1048576:Z)<(y b:Z)):=by omega);(have m:∀W:Y,W.heap=a.heap->∀k(Q:k<y b),aO W (R bb<|d+k*6+3)=H (aj b[k].S)/\aO W (R bb<|d+k*6+4)=H (aj b[k].T)/\aO W (R bb<|d+k*6+5)=H b[k].L:=λW l k Q=>by obtain⟨o,⟨X,n⟩|⟨g,f,e,X,i,j⟩⟩:=h.row;cases X;(have c:∀j u,(rI b)[j]?=H u->aO W (R bb<|d+j)=H u:=λj u a=>by grind[World.cell?_of_block]);refine⟨?_,?_,?_⟩;rw[aV];exact c _ _<|(qp b k Q 3<|by omega).trans rfl;rw[aV];exact c _ _<|(qp b k Q 4<|by omega).trans rfl;rw[aV];exact c _ _<|(qp b k Q 5<|by omega).trans rfl);have B:=U m;have HS:=U h;clear h m;(go_in);(go_wp2_with fail);(go_loopw [3,4] (λnv c wr=>∃k:M,k<=y b/\c=ap k/\nv=ap (y b+Gl (b.take k):M)/\y b+Gl (b.take k)<=1048576/\∃q,wr=a.drewN q) (λ_ c _=>y b-(intOf c).toNat));(case atStart=>exact⟨0,bj _,rfl,by simp[Gl],by simp[Gl];omega,0,rfl⟩);(case round=>obtain⟨k,Q,rfl,rfl,w,q,rfl⟩:=hrel;by_cases s:k<y b;(.have j:=ak s;obtain⟨c3,c4,c5⟩:=B a rfl k s;have W:=HS.str _ j;have D:=HS.F2 _ j;have n:=HS.Ut _ j;have au:=HS.lens _ j;have V:=KQ b k s;have T:=Uv b<|k+1;have t:ZW b[k]=b[k].S.size+b[k].T.size+GW b[k].cs:=rfl;have av:∃x lc,b[k].L=J x (y b[k].cs) lc:=BR n;obtain⟨lx,lc,hL⟩:=av;rw[hL]at c5 n;generalize b[k]=bp at*;obtain⟨bn,oA,oB,oS,oT,oL,c⟩:=bp;simp only at c3 c4 c5 W D n au t hL;obtain⟨o,ax⟩:∃o,oS.size=o:=⟨_,rfl⟩;obtain⟨A,ba⟩:∃A,oT.size=A:=⟨_,rfl⟩;obtain⟨e,hM⟩:∃e,y b+Gl (b.take k)=e:=⟨_,rfl⟩;rw[hM]at w|-;rw[ax,ba]at W t;(have a1:IntKind.i64.wrap ((e:Z)+(o:Z))=(e:Z)+o:=by rw[bw];omega);(have a2:IntKind.i64.wrap ((e:Z)+(o:Z)+(A:Z))=(e:Z)+o+A:=by rw[bw];omega);(have e2:(k:Z)<(y b:Z):=by omega);(have e3:(0:Z)<=(k:Z):=by omega);obtain⟨L,K,N,HM,al,ac⟩:=jX V T t hM D n;clear V T t hM D n j;(go_wp2_with fail);(go_quiet(fail));rename_i nq;(go_wp2_with fail);(go_loopw [3,5] (λnv b wr=>∃l:M,l<=y c/\b=ap l/\nv=ap (e+o+A+GW (c.take l):M)/\(0<l->e+o+A+GW (c.take l)<=1048576)/\∃q,wr=a.drewN q) (λ_ b _=>y c-(intOf b).toNat));(case atStart=>exact⟨0,bj _,rfl,by simp[GW],λbk=>absurd bk (by omega),q+nq,Cg a q nq⟩);(case round=>obtain⟨l,hk,rfl,rfl,i,X,rfl⟩:=hrel;by_cases f:l<y c;(·(have hx:∃F g,lx=H (R F g)/\aO a (R F<|g+l*3)=H (aj c[l].key)/\aO a (R F<|g+l*3+1)=H (aj c[l].val):=by rcases ae ac with⟨⟨z1,⟨z2,z0⟩|⟨F,g,bc,z2,bi,an⟩⟩,_⟩|⟨z3,_⟩;omega;cases z2;obtain⟨w1,w2,_⟩:=kX c l f;exact⟨F,g,rfl,an _ _ w1,by rw[aV];simp_all⟩;rw[z3]at f;simp at f);obtain⟨F,g,S,d0,d1⟩:=hx;subst S;have aq:=al _<|ak f;have r:=Uw c l f;have C:=Ux c<|l+1;obtain⟨u,v⟩:∃u,c[l].key.size=u:=⟨_,rfl⟩;obtain⟨E,x⟩:∃E,c[l].val.size=E:=⟨_,rfl⟩;rw[v,x]at aq r;obtain⟨P,p⟩:∃P,e+o+A+GW (c.take l)=P:=⟨_,rfl⟩;rw[p]at i|-;(have bm:P<=281474977759232:=by rcases l with _|l;simp[GW]at p;omega;have:=i (by omega);omega);generalize c[l]=cc at*;obtain⟨bf,bg,bd⟩:=cc;simp only at d0 d1 v x;(have b1:IntKind.i64.wrap ((P:Z)+1)=(P:Z)+1:=by rw[bw];omega);(have b2:IntKind.i64.wrap ((P:Z)+1+(u:Z))=(P:Z)+1+u:=by rw[bw];omega);(have b3:IntKind.i64.wrap ((P:Z)+1+(u:Z)+(E:Z))=(P:Z)+1+u+E:=by rw[bw];omega);(have f1:(l:Z)<(y c:Z):=by omega);(have f0:(0:Z)<=(l:Z):=by omega);obtain⟨HP,ad,bl⟩:=dA p r C;by_cases ao:1048576<P+1+u+E;(·(have hd:decide (y b+Gl b<=1048576)=aY:=by have h1:=ae L;have O:=ae K;have h3:=ae N;have h4:=ae HM;simp;omega);(have f2:(1048576:Z)<(P:Z)+1+u+E:=by omega);clear p r C i;(go_wp2_with fail);(go_quiet(fail));go_wp2;go_ret;exact⟨(by simp_all),_,rfl⟩);(·(have f2:¬((1048576:Z)<(P:Z)+1+u+E):=by omega);clear p r C i;(go_wp2_with fail);(go_quiet(fail));rename_i an;go_wp2;go_roundw;(case rel=>have h1:=ae HP;have O:=ae ad;refine⟨l+1,f,by go_num,?_,λ_=>by omega,_,rfl⟩;rw[O];congr 1;omega);case measure=>simp[intOf];omega));(·(have g:l=y c:=by omega);subst g;rw[aX]at i|-;obtain⟨P,p⟩:∃P,e+o+A+GW c=P:=⟨_,rfl⟩;rw[p]at i|-;(have f1:¬((y c:Z)<(y c:Z)):=by omega);have h1:=ae L;have O:=ae K;have h3:=ae N;have h4:=ae HM;by_cases ao:1048576<P;(·(have hd:decide (y b+Gl b<=1048576)=aY:=by simp;omega);(have f2:(1048576:Z)<(P:Z):=by omega);clear h1 O h3 h4 p i;go_wp2;go_ret;exact⟨(by simp_all),X,rfl⟩);(·(have f2:¬((1048576:Z)<(P:Z)):=by omega);(have u:y b+Gl (b.take<|k+1)=P:=by omega);have r:=U u;clear h1 O h3 h4 p i u;go_wp2;go_roundw;(case rel=>exact⟨k+1,s,by go_num,by rw[ae r],by rw[ae r];omega,X,rfl⟩);case measure=>simp[intOf];omega))));(have c:k=y b:=by omega);subst c;rw[aX]at w|-;(have e2:¬((y b:Z)<(y b:Z)):=by omega);(have hd:decide (y b+Gl b<=1048576)=bU:=by grind);go_wp2;go_ret;exact⟨rfl,q,rfl⟩))
structure E where
 key:ab
 val:ab
 del:Bool
 bP:Z
abbrev cJ:=cw E
abbrev dL:=cw<|cw E
variable{w:E}
def F5:E:=⟨⟨#[]⟩,⟨#[]⟩,aY,0⟩
def iP(a b:ab):Bool:=Op.bytesLess a.toList b.toList
def Ny:∀(x b:cw UInt8),Op.bytesLess x b=decide (x<b)
 |[],[]=>by simp[Op.bytesLess]
 |_::_,[]=>by simp[Op.bytesLess]
 |[],_::_=>by simp[Op.bytesLess]
 |a::x,c::b=>by
  rw[Op.bytesLess,Ny x b];grind[cons_lt_cons_iff]
theorem FX{b:ab}(h:W.toList=b.toList):W=b:=by
 have a:∀x:ab,x.toList=x.data.toList:=λx=>sg x;rw[a,a]at h;cases W;simp_all
theorem fy(a:ab):iP a a=aY:=by
 unfold iP;rw[Ny];simp
theorem kZ{b c:ab}(h:iP W b=bU)(k:iP b c=bU):iP W c=bU:=by
 unfold iP at*;rw[Ny]at*;grind
theorem ld{b:ab}(h:iP W b=bU):iP b W=aY:=by
 grind[kZ,fy]
theorem nC{b:ab}(h:iP W b=aY)(k:iP b W=aY):W=b:=by
 unfold iP at*;rw[Ny]at*;grind[FX,List.le_antisymm]
theorem nT{b:ab}(h:iP W b=bU):W≠b:=by
 grind[fy]
def xQ{b c:ab}(h:iP b W=aY)(k:iP b c=bU):iP W c=bU:=by
 grind[kZ,nC]
theorem JS{b c:ab}(h:iP W b=bU)(k:iP c b=aY):iP W c=bU:=by
 grind[kZ,nC]
def Tn{b c:ab}(h:iP b W=aY)(k:iP c b=aY):iP c W=aY:=by
 grind[JS]
def DI(a:ab):iP a ⟨#[]⟩=aY:=by
 unfold iP;rw[Ny];simp_all
def wO(l:cw E):Prop:=l.Pairwise<|λa b=>iP a.key b.key=bU
def wO.nil:wO []:=List.Pairwise.nil
def wO.tail{l:cw E}(h:wO (w::l)):wO l:=(bC.1 h).2
def wO.head{l:cw E}(h:wO (w::l)):∀b∈l,iP w.key b.key=bU:=(bC.1 h).1
def wO.sub{l m:cw E}(h:wO m)(s:l.Sublist m):wO l:=lu s h
def wO.Rx{l:cw E}(h:wO l){e:E}(c:w∈l)(d:e∈l)(f:w.key=e.key):w=e:=by
 induction l with
 |nil=>cases c
 |cons x r g=>
  rcases bH.1 c with b|b
  .rcases bH.1 d with a|a
   .rw[b,a]
   .rw[b]at f;exact absurd f<|nT<|h.head e a
  .rcases bH.1 d with a|a
   .rw[a]at f;exact absurd f.symm<|nT<|h.head w b
   .exact g h.tail b a
def wO.ext{l m:cw E}(h:wO l)(k:wO m)(g:∀x,x∈l↔x∈m):l=m:=by
 induction l generalizing m with
 |nil=>
  cases m with
  |nil=>rfl
  |cons a r=>exact absurd ((g a).2<|by simp)<|by simp
 |cons x r i=>
  cases m with
  |nil=>exact absurd ((g x).1<|by simp)<|by simp
  |cons a s=>
   have f:x=a:=by
    rcases bH.1 ((g x).1<|by simp)with c|c
    .exact c
    .rcases bH.1 ((g a).2<|by simp)with e|e
     .exact e.symm
     .have n:=k.head x c;have j:=h.head a e;rw[ld n]at j;cases j
   subst f;congr 1;refine i h.tail k.tail<|λb=>⟨λd=>?_,λd=>?_⟩
   .rcases bH.1 ((g b).1<|bI _ d)with rfl|c
    .have:=h.head b d;rw[fy]at this;cases this
    .exact c
   .rcases bH.1 ((g b).2<|bI _ d)with rfl|c
    .have:=k.head b d;rw[fy]at this;cases this
    .exact c
def sY(l:cw E)(e:E):cw E:=l.filter (λx=>iP x.key e.key)++e::l.filter (λx=>iP e.key x.key)
theorem yG{l:cw E}{x:E}:x∈sY l w↔x=w\/(x∈l/\x.key≠w.key):=by
 unfold sY;simp only[aE,dZ,bH];constructor;rintro(⟨h,k⟩|h|⟨h,k⟩);exact .inr ⟨h,nT k⟩;exact .inl h;exact .inr ⟨h,λc=>nT k c.symm⟩;grind[nC]
def wO.sY{l:cw E}(h:wO l)(e:E):wO (sY l e):=by
 unfold Go.Proofs.YtgbhcncpienkcaaGreatDoor.sY;refine bR.2 ⟨h.sub fa,bC.2 ⟨?_,h.sub fa⟩,?_⟩;grind
 grind[kZ]
def gQ(l m:cw E):cw E:=m.foldl sY l
def wO.gQ{l:cw E}(h:wO l)(m:cw E):wO (gQ l m):=by
 induction m generalizing l with
 |nil=>exact h
 |cons e r a=>exact a<|h.sY e
variable{e L:cJ}{k:dL}
def ahead(a b:E):Bool:=iP a.key b.key||(decide (a.key=b.key)&&decide (b.bP<a.bP))
theorem jz{b:E}:ahead w b=bU↔iP w.key b.key=bU\/(w.key=b.key/\b.bP<w.bP):=by
 unfold ahead;simp
theorem ut{b c:E}(h:ahead w b=bU)(k:ahead b c=bU):ahead w c=bU:=by
 rw[jz]at*;rcases h with h|⟨h,a⟩<;>rcases k with k|⟨k,d⟩;exact .inl<|kZ h k;rw[<-k];exact .inl h;rw[h];exact .inl k;grind
theorem Bh(a:E):ahead a a=aY:=by unfold ahead;simp[fy]
theorem lK{b:E}(h:ahead w b=bU):ahead b w=aY:=by
 grind[ut,Bh]
theorem nn{b:E}(h:ahead b w=aY):iP b.key w.key=aY/\(b.key=w.key->b.bP<=w.bP):=by
 unfold ahead at h;grind
def SU{b:E}(h:iP b.key w.key=aY)(k:b.key=w.key->b.bP<=w.bP):ahead b w=aY:=by
 unfold ahead;grind
theorem wo{d g:E}(i:ahead d w=aY)(k:ahead g d=aY):ahead g w=aY:=by
 obtain⟨b,e⟩:=nn i;obtain⟨a,f⟩:=nn k;refine SU (Tn b a)<|λh=>?_;have c:d.key=w.key:=by rw[h]at a;exact nC b a
 have:=e c;have:=f<|h.trans c.symm;omega
def lZ(a:dL)(i:M):Option E:=(a[i]?.getD []).head?
def kT(a:dL):M->Option M
 |0=>none
 |n+1=>match lZ a n with
  |none=>kT a n
  |some e=>match kT a n with
   |none=>H n
   |some b=>if ahead e ((lZ a b).getD F5)then H n else H b
theorem Do(h:kT k b=none):∀i,i<b->lZ k i=none:=by
 induction b with
 |zero=>grind
 |succ b c=>
  intro i a;unfold kT at h;grind
def uo(h:kT k b=H c):c<b/\∃e,lZ k c=H e/\∀i,i<b->∀f,lZ k i=H f->ahead f e=aY:=by
 induction b generalizing c with
 |zero=>cases h
 |succ b a=>
  unfold kT at h;grind[Bh,Do,wo,lK]
def total(a:dL):M:=y a.flatten
def xK(h:lZ k b=H w):k.flatten.Perm (w::(k.modify b List.tail).flatten):=by
 induction k generalizing b with
 |nil=>simp[lZ]at h
 |cons r d c=>
  cases b with
  |zero=>
   cases r with
   |nil=>simp[lZ]at h
   |cons x t=>
    simp only[lZ,List.getElem?_cons_zero,mB,List.head?_cons,tT]at h;simp_all
  |succ b=>
   have a:lZ d b=H w:=by simpa[lZ]using h
   simp only[bG,qL];refine((c a).append_left r).trans ?_;simp_all
def vT(h:lZ k b=H w):total k=total (k.modify b List.tail)+1:=by
 have:=(xK h).length_eq;unfold total;rw[this];simp
def JK:M->dL->cJ
 |0,_=>[]
 |n+1,a=>match kT a (y a)with
  |none=>[]
  |some b=>(lZ a b).getD F5::JK n (a.modify b List.tail)
def cG(a:dL):cJ:=JK (total a) a
def xM{hs:dL}(h:kT hs (y hs)=none):cG hs=[]:=by
 unfold cG;cases e:total hs with
 |zero=>rfl
 |succ n=>unfold JK;rw[h]
def TE(h:∀i,i<y k->lZ k i=none):k.flatten=[]:=by
 induction k with
 |nil=>rfl
 |cons r c b=>
  have a:=h 0 (by simp);cases r with
  |cons x t=>simp[lZ]at a
  |nil=>
   simp only[bG,cU];exact b (λi a=>by have:=h (i+1) (by simp;omega);simpa[lZ]using this)
def xL{hs:dL}(h:kT hs (y hs)=H b)(a:lZ hs b=H w):cG hs=w::cG (hs.modify b List.tail):=by
 unfold cG;rw[vT a];conv=>lhs;unfold JK
 rw[h];grind
theorem dY(a:dL):(cG a).Perm a.flatten:=by
 generalize d:total a=n;induction n generalizing a with
 |zero=>
  have:a.flatten=[]:=aP d;unfold cG;rw[d,this];exact List.Perm.nil
 |succ n e=>
  cases hb:kT a (y a)with
  |none=>
   have:=TE<|Do hb;rw[xM hb,this]
  |some b=>
   obtain⟨_,f,c,_⟩:=uo hb;rw[xL hb c];have g:=vT c;exact((e _<|by omega).cons f).trans (xK c).symm
def nu(a:ab):cJ->cJ
 |[]=>[]
 |e::r=>if e.key=a then nu e.key r else e::nu e.key r
def C1(b:cJ)(x:E):Prop:=x∈b/\∀a∈b,a.key=x.key->a.bP<=x.bP
def A3(a:cJ):Prop:=∀b∈a,∀c∈a,b.key=c.key->b.bP=c.bP->b=c
def Ng(a:ab)(t:e.Pairwise (λg d=>ahead d g=aY))(n:A3 e)(r:∀x∈e,iP x.key a=aY):wO (nu a e)/\∀x,x∈nu a e↔x.key≠a/\C1 e x:=by
 induction e generalizing a with
 |nil=>exact⟨wO.nil,λx=>by simp[nu,C1]⟩
 |cons m A u=>
  obtain⟨h,q⟩:=bC.1 t;obtain⟨o,k⟩:=u m.key q (λg a d b=>n g (by simp[a]) d<|by simp[b])<|λx j=>(nn<|h x j).1;unfold nu;split
  .rename_i i;refine⟨o,λx=>(k x).trans ?_⟩;rw[i];constructor
   .rintro⟨g,d,l⟩;refine⟨g,bI _ d,λb c f=>?_⟩;grind
   .rintro⟨g,d,l⟩;refine⟨g,?_,λb c f=>l b (bI _ c) f⟩;grind
  .rename_i i;have s:iP m.key a=aY:=r m (by simp);refine⟨bC.2 ⟨λx j=>?_,o⟩,λx=>?_⟩
   .obtain⟨g,d,_⟩:=(k x).1 j;grind[nC,nn]
   .rw[bH,k];constructor
    .rintro(rfl|⟨g,d,l⟩)
     .refine⟨i,by simp,λb c f=>?_⟩;rcases bH.1 c with rfl|c
      .grind
      .exact(nn<|h b c).2 f
     .refine⟨?_,bI _ d,λb c f=>?_⟩
      .grind[nn,nC]
      grind
    .rintro⟨g,d,l⟩;rcases bH.1 d with rfl|d
     .exact .inl rfl
     .by_cases p:x.key=m.key
      .left;have v:=l m (by simp) p.symm;have w:=(nn<|h x d).2 p;exact n x (by simp[d]) m (by simp) p<|by omega
      .exact .inr ⟨p,d,λb c f=>l b (bI _ c) f⟩
def fT(a:ab)(l:cJ):cJ:=l.filter<|λe=>!iP e.key a
def VI:w∈(k.map<|fT W).flatten↔w∈k.flatten/\iP w.key W=aY:=by
 simp only[bE,bW];constructor;rintro⟨l,⟨r,b,rfl⟩,a⟩;unfold fT at a;rw[dZ]at a;grind
 rintro⟨⟨r,b,a⟩,h⟩;exact⟨_,⟨r,b,rfl⟩,by unfold fT;rw[dZ];grind⟩
def nE(l:cJ)(k:ab):Option E:=l.find?<|λe=>decide<|e.key=k
theorem nV(h:wO e):nE e W=H w↔w∈e/\w.key=W:=by
 unfold nE;constructor;grind
 .rintro⟨a,b⟩;cases hf:e.find? (λw=>decide<|w.key=W)with
  |none=>
   rw[mW]at hf;grind
  |some x=>
   have c:=lz hf;have d:x.key=W:=by have:=wI hf;grind
   rw[h.Rx c a<|d.trans b.symm]
theorem ph:nE e W=none↔∀a∈e,a.key≠W:=by
 unfold nE;rw[mW];simp
def TL(h:wO e)(a:wO L)(c:∀x,x.key=W->(x∈e↔x∈L)):nE e W=nE L W:=by
 cases hm:nE L W with
 |none=>
  rw[ph]at hm|-;grind
 |some b=>
  rw[nV a]at hm;grind[nV]
def Nh(h:wO e)(a:E)(k:ab):nE (sY e a) k=if k=a.key then H a else nE e k:=by
 split;rename_i b;exact(nV<|h.sY a).2 ⟨yG.2<|.inl rfl,b.symm⟩;rename_i b;refine TL (h.sY a) h<|λx c=>?_;rw[yG];grind
def rk(a:dL)(k:ab):Option E:=a.findSome?<|λr=>nE r k
def yM(k:ab):rk [] k=none:=rfl
def qy(r:cJ)(a:dL)(k:ab):rk (r::a) k=(nE r k).or (rk a k):=by
 unfold rk;rw[List.findSome?_cons];cases nE r k<;>rfl
def wy(a b:dL)(k:ab):rk (a++b) k=(rk a k).or (rk b k):=by
 induction a with
 |nil=>simp[yM]
 |cons r a c=>rw[cL,qy,qy,c,Option.or_assoc]
def TK(k:ab):nE [] k=none:=rfl
def Over(r s:cJ):Prop:=∀a∈r,∀b∈s,a.key=b.key->b.bP<a.bP
def kh(a:dL):Prop:=a.Pairwise Over
def kh.over(h:kh (e::k)):Over e k.flatten:=by
 intro f b g a c;obtain⟨s,d,a⟩:=bE.1 a;exact(bC.1 h).1 s d f b g a c
def QW(m:∀r∈k,wO r)(l:kh k):rk k W=H w↔C1 k.flatten w/\w.key=W:=by
 induction k with
 |nil=>simp[yM,C1]
 |cons r k n=>
  have j:=n (λr a=>m r<|by simp[a]) (bC.1 l).2;have h:=l.over;have f:=m r (by simp);rw[qy];cases hf:nE r W with
  |some x=>
   have a:=(nV f).1 hf;simp only[Option.some_or,tT,bG];constructor
   .rintro rfl;refine⟨⟨iZ _ a.1,λb d g=>?_⟩,a.2⟩;rcases aE.1 d with d|d
    .rw[f.Rx d a.1 g];grind
    .exact Int.le_of_lt<|h x a.1 b d g.symm
   .rintro⟨⟨c,i⟩,e⟩;rcases aE.1 c with c|c
    .exact f.Rx a.1 c<|a.2.trans e.symm
    .have o:=i x (iZ _ a.1)<|a.2.trans e.symm;have p:=h x a.1 w c<|a.2.trans e.symm;omega
  |none=>
   have a:=ph.1 hf;simp only[mz,bG];rw[j];constructor
   .rintro⟨⟨c,i⟩,e⟩;refine⟨⟨fV _ c,λb d g=>?_⟩,e⟩;grind
   .rintro⟨⟨c,i⟩,e⟩;refine⟨⟨?_,λb d g=>i b (fV _ d) g⟩,e⟩;grind
def seen(a:dL)(k:ab):Option ab:=(rk a k).bind<|λe=>if e.del then none else H e.val
def SN{a h D:dL}(A:kh (k++a++D))(w:kh h)(f:∀B∈h.flatten,B∈a.flatten):kh (k++h++D):=by
 obtain⟨r,s,t⟩:=bR.1 A;obtain⟨u,_,v⟩:=bR.1 r;have d:∀g∈h,∀i∈g,∃o∈a,i∈o:=λg e i c=>bE.1<|f i<|bE.2 ⟨g,e,c⟩;refine bR.2 ⟨bR.2 ⟨u,w,?_⟩,s,?_⟩;intro q b g n p j i c m;obtain⟨o,e,l⟩:=d g n i c;exact v q b o e p j i l m;intro q b x n;rcases aE.1 b with b|b;(grind);intro p j i c m;obtain⟨o,e,l⟩:=d q b p j;exact t o (fV _ e) x n p l i c m
def Bm(a b D:dL):Prop:=∀k,rk b k=rk a k\/(rk D k=none/\rk b k=none/\∃e,rk a k=H e/\e.del=bU)
theorem UY{a b D:dL}(h:Bm a b D)(c:ab):seen (k++b++D) c=seen (k++a++D) c:=by
 unfold seen;rw[wy,wy,wy,wy];rcases h c with h|⟨d,e,i,f,g⟩;rw[h]
 .rw[d,e,f];cases rk k c with
  |some x=>simp
  |none=>simp[g]
def dM(l:cJ):Prop:=l.Pairwise<|λa b=>ahead a b=bU
def dM.nil:dM []:=List.Pairwise.nil
def dM.sub(h:dM L)(s:e.Sublist L):dM e:=lu s h
def dM.Oe(h:dM e):e.Pairwise (λa b=>ahead b a=aY):=h.imp<|λh=>lK h
def dM.Rx(m:dM e):A3 e:=by
 induction e with
 |nil=>intro j a;cases a
 |cons k r i=>
  obtain⟨n,d⟩:=bC.1 m;have o:∀x∈r,x.key=k.key->x.bP=k.bP->False:=by
   grind[jz,fy]
  intro j a l f g h;rcases bH.1 a with rfl|b<;>rcases bH.1 f with rfl|c
  .rfl
  .grind
  .grind
  .exact i d j b l c g h
structure gN(l:cJ):Prop where
 mh:dM l
 key:∀e∈l,e.key≠⟨#[]⟩
def gN.nil:gN []:=⟨dM.nil,λ_ h=>by cases h⟩
def gN.sub(h:gN L)(s:e.Sublist L):gN e:=⟨h.mh.sub s,λb a=>h.key b<|s.subset a⟩
def jQ(b:Z)(r:cJ):cJ:=nu ⟨#[]⟩<|r.filter<|λe=>decide<|e.bP<=b
def Rk(h:gN e)(c:Z):wO (jQ c e)/\∀x,x∈jQ c e↔x∈e/\x.bP<=c/\∀a∈e,a.key=x.key->a.bP<=c->a.bP<=x.bP:=by
 have d:dM (e.filter<|λa=>decide<|a.bP<=c):=h.mh.sub fa;obtain⟨s,m⟩:=Ng ⟨#[]⟩ d.Oe d.Rx<|λx _=>DI x.key;refine⟨s,λx=>?_⟩;unfold jQ;rw[m];constructor;rintro⟨_,b,f⟩;grind
 rintro⟨b,g,f⟩;exact⟨h.key x b,dZ.2 ⟨b,mw g⟩,λa c d=>f a (dZ.1 c).1 d<|tS (dZ.1 c).2⟩
theorem lP(h:gN e)(b:Z):wO (jQ b e):=(Rk h b).1
theorem jt(h:gN e):w∈jQ m e↔w∈e/\w.bP<=m/\∀a∈e,a.key=w.key->a.bP<=m->a.bP<=w.bP:=(Rk h m).2 w
theorem zT(h:gN e)(a:w∈jQ m e):w∈e:=((jt h).1 a).1
def iI(b:Z)(r:cJ)(k:ab):Option E:=r.find?<|λe=>decide (e.key=k)&&decide (e.bP<=b)
theorem Dc(i:gN e)(g:iI m e W=H w):w∈jQ m e/\w.key=W:=by
 obtain⟨b,j,k,a,h⟩:=List.find?_eq_some_iff_append.1 g;simp only[mH,nz]at b;refine⟨(jt i).2 ⟨by rw[a];simp,b.2,λc f o n=>?_⟩,b.1⟩;rw[a]at f;rcases aE.1 f with q|q;have:=h c q;grind
 rcases bH.1 q with rfl|q;(grind);have d:=i.mh;rw[a]at d;have l:=(bR.1 d).2.1;grind[jz,pairwise_cons,fy]
def Dd(c:iI m e W=none):∀a∈e,a.key=W->¬a.bP<=m:=by
 intro a b f d;have:=mW.1 c a b;grind
theorem TN(h:gN e)(b:Z)(k:ab):iI b e k=nE (jQ b e) k:=by
 cases hf:iI b e k with
 |some g=>grind[nV,lP,Dc]
 |none=>
  refine(ph.2 λg d f=>?_).symm;obtain⟨a,c,_⟩:=(jt h).1 d;exact Dd hf g a f c
theorem Xk(h:gN e)(f:w∈e)(d:w.bP<=m):∃a∈jQ m e,a.key=w.key/\w.bP<=a.bP:=by
 cases hf:iI m e w.key with
 |some a=>
  obtain⟨b,c⟩:=Dc h hf;exact⟨a,b,c,((jt h).1 b).2.2 w f c.symm d⟩
 |none=>exact absurd d<|Dd hf w f rfl
def Over.at(k:Over e L)(c:gN e)(d:gN L)(b:Z):Over (jQ b e) (jQ b L):=λx g a h j=>k x (zT c g) a (zT d h) j
def Mk(h:kh k)(b:∀r∈k,gN r)(f:Z):kh (k.map<|jQ f):=by
 unfold kh;rw[jp];induction k with
 |nil=>simp_all
 |cons r k e=>
  obtain⟨c,d⟩:=bC.1 h;exact bC.2 ⟨λs a=>(c s a).at (b r<|by simp) (b s<|by simp[a]) f,e d<|λs a=>b s<|by simp[a]⟩
def pJ(a:cw Z)(p:Option E)(e:E):Bool:=match p with
 |none=>bU
 |some p=>!decide (p.key=e.key)||a.any (λm=>decide (e.bP<=m)&&decide (m<p.bP))
def lY(a:cw Z):Option E->cJ->cJ
 |_,[]=>[]
 |p,e::r=>if pJ a p e then e::lY a (H e) r else lY a (H e) r
def dI(a:cw Z)(l:cJ):cJ:=lY a none l
def SP(a:cw Z)(l:cJ):∀p,(lY a p l).Sublist l:=by
 induction l with
 |nil=>intro p;exact nB _
 |cons e r b=>
  intro p;unfold lY;grind
theorem js(a:cw Z)(l:cJ):(dI a l).Sublist l:=SP a l none
def gN.Mq(h:gN e)(a:cw Z):gN (dI a e):=h.sub<|js a e
def SS{c:cw Z}(l:cJ):∀p:Option E,dM (p.toList++l)->w∈l->((∀a∈p.toList++l,a.key=w.key->a.bP<=w.bP)\/∃m∈c,w.bP<=m/\∀a∈p.toList++l,a.key=w.key->a.bP<=m->a.bP<=w.bP)->w∈lY c p l:=by
 induction l with
 |nil=>grind
 |cons x s r=>
  intro p f d b;have h:dM (x::s):=(bR.1 f).2.1;unfold lY;rcases bH.1 d with rfl|d
  .have g:pJ c p w=bU:=by
    cases p with
    |none=>rfl
    |some q=>
     unfold pJ;by_cases e:q.key=w.key
     .have k:ahead q w=bU:=(bR.1 f).2.2 q (by simp) w (by simp);have n:w.bP<q.bP:=by
       grind[jz,fy]
      rcases b with b|⟨m,o,i,j⟩
      .have:=b q (by simp) e;omega
      grind
     .simp[e]
   rw[dz g];simp
  grind
theorem yR(h:gN e){a:cw Z}(j:m∈a\/∀x∈e,x.bP<=m):jQ m (dI a e)=jQ m e:=by
 have g:∀x∈jQ m e,x∈dI a e:=by intro x b;obtain⟨c,d,f⟩:=(jt h).1 b;refine SS e none h.mh c ?_;grind
 refine(lP (h.Mq a) m).ext (lP h m) λx=>?_;constructor;intro b;obtain⟨c,d,f⟩:=(jt<|h.Mq a).1 b;have i:=(js a e).subset c;grind[jt,Xk]
 intro b;obtain⟨c,d,f⟩:=(jt h).1 b;exact(jt<|h.Mq a).2 ⟨g x b,d,λc i=>f c<|(js a e).subset i⟩
def Lj(h:∀r∈k,dM r):∀r∈k.modify b List.tail,dM r:=by
 intro r a;induction k generalizing b with
 |nil=>simp at a
 |cons x d c=>
  cases b with
  |zero=>
   simp only[qK,bH]at a;rcases a with rfl|a
   .exact(h x<|by simp).sub<|List.tail_sublist x
   grind
  |succ b=>
   grind
def VG(m:∀r∈k,dM r)(j:∀i,i<y k->∀f,lZ k i=H f->ahead f w=aY):∀x∈k.flatten,ahead x w=aY:=by
 intro x l;obtain⟨r,g,a⟩:=bE.1 l;obtain⟨i,e,rfl⟩:=dO g;have b:=m _ g;cases hc:k[i]with
 |nil=>rw[hc]at a;cases a
 |cons f t=>
  have h:lZ k i=H f:=by simp[lZ,e,hc]
  have d:=j i e f h;rw[hc]at a b;rcases bH.1 a with rfl|c
  .exact d
  .exact wo d<|lK<|(bC.1 b).1 x c
def CU(a:dL)(i:∀r∈a,dM r):(cG a).Pairwise (λj c=>ahead c j=aY):=by
 generalize f:total a=n;induction n generalizing a with
 |zero=>unfold cG;rw[f];exact List.Pairwise.nil
 |succ n h=>
  cases hb:kT a (y a)with
  |none=>rw[xM hb];simp_all
  |some c=>
   obtain⟨_,l,b,e⟩:=uo hb;rw[xL hb b];have k:=vT b;refine bC.2 ⟨λx g=>?_,h _ (Lj i)<|by omega⟩;have d:x∈(a.modify c List.tail).flatten:=(dY _).mem_iff.1 g;exact VG i e x<|(xK b).mem_iff.2<|bI _ d
def KH(l:cJ):Prop:=l.Pairwise<|λa b=>¬(a.key=b.key/\a.bP=b.bP)
def dM.Zt(h:dM e):KH e:=h.imp λ{a b}q=>by
 grind[jz,fy]
def AB(b:∀r∈k,dM r)(a:kh k):KH k.flatten:=by
 induction k with
 |nil=>exact List.Pairwise.nil
 |cons r k f=>
  rw[bG];refine bR.2 ⟨(b r<|by simp).Zt,f (λs e=>b s<|by simp[e]) (bC.1 a).2,λg c h d q=>?_⟩;have:=a.over g c h d q.1;omega
theorem yT{b:E}(h:ahead b w=aY)(k:¬(w.key=b.key/\w.bP=b.bP)):ahead w b=bU:=by
 obtain⟨d,a⟩:=nn h;refine jz.2 ?_;by_cases c:w.key=b.key;have:=a c.symm;grind
 grind[nC]
def oZ(a:∀r∈k,dM r)(e:kh k):dM (cG k):=by
 have c:=CU k a;have d:KH (cG k):=((dY k).pairwise_iff<|λ{f b}q c=>q ⟨c.1.symm,c.2.symm⟩).2<|AB a e;exact List.Pairwise.imp₂ (λf b q k=>yT q k) c d
def lN(a:∀r∈k,gN r)(e:kh k):gN (cG k):=by
 refine⟨oZ (λr h=>(a r h).mh) e,λf d=>?_⟩;obtain⟨r,b,c⟩:=bE.1<|(dY k).mem_iff.1 d;exact(a r b).key f c
theorem xO(d:∀r∈k,gN r)(j:kh k):w∈jQ m (cG k)↔rk (k.map<|jQ m) w.key=H w:=by
 have i:=lN d j;have b:∀a,a∈cG k↔∃r∈k,a∈r:=λa=>((dY k).mem_iff).trans bE;rw[QW (λr h=>by grind[lP])<|Mk j d m];constructor;intro n;obtain⟨e,h,l⟩:=(jt i).1 n;obtain⟨r,c,f⟩:=(b w).1 e;refine⟨⟨bE.2 ⟨_,bW.2 ⟨r,c,rfl⟩,(jt<|d r c).2 ⟨f,h,λa g=>l a<|(b a).2 ⟨r,c,g⟩⟩⟩,λa g o=>?_⟩,rfl⟩;grind[mem_flatten,jt]
 rintro⟨⟨e,h⟩,_⟩;obtain⟨s,p,c⟩:=bE.1 e;obtain⟨t,f,rfl⟩:=bW.1 p;obtain⟨l,n,_⟩:=(jt<|d t f).1 c;refine(jt i).2 ⟨(b w).2 ⟨t,f,l⟩,n,λa g o q=>?_⟩;grind[Xk,mem_flatten]
def gA:cJ->cJ
 |[]=>[]
 |e::r=>if e.del&&!((gA r).any λa=>decide<|a.key=e.key)then gA r else e::gA r
theorem kg(l:cJ):(gA l).Sublist l:=by
 induction l with
 |nil=>exact nB _
 |cons e r a=>
  unfold gA;grind
def Ih(i:dM e):w∈gA e↔w∈e/\(w.del=aY\/∃a∈e,a.key=w.key/\a.bP<w.bP/\a.del=aY):=by
 induction e generalizing w with
 |nil=>simp[gA]
 |cons c r f=>
  obtain⟨j,d⟩:=bC.1 i;have h:∀a∈r,a.key=c.key->a.bP<c.bP:=λa d b=>by
   grind[jz,fy]
  have k:∀{w:E},w∈r->(w.del=aY\/∃a∈c::r,a.key=w.key/\a.bP<w.bP/\a.del=aY)->w∈gA r:=by
   intro w b g;refine(f d).2 ⟨b,g.imp_right ?_⟩;grind
  have l:∀{w:E},w∈gA r->w∈c::r/\(w.del=aY\/∃a∈c::r,a.key=w.key/\a.bP<w.bP/\a.del=aY):=by
   intro w b;obtain⟨g,m⟩:=(f d).1 b;grind
  unfold gA;grind
theorem gN.bare(h:gN e):gN (gA e):=h.sub<|kg e
def PE(h:gN e)(s:∀p,rk k p=none)(o:Z):Bm [jQ o e] [jQ o<|gA e] k:=by
 intro p;simp only[qy,yM,sI];cases hf:nE (jQ o e) p with
 |none=>
  grind[ph,jt,gN.bare,Xk,kg]
 |some b=>
  obtain⟨t,m⟩:=(nV<|lP h o).1 hf;obtain⟨j,A,r⟩:=(jt h).1 t;by_cases l:b∈gA e
  .grind[nV,lP,gN.bare,jt,kg]
  .right;have n:¬(b.del=aY\/∃a∈e,a.key=b.key/\a.bP<b.bP/\a.del=aY):=λc=>l<|(Ih h.mh).2 ⟨j,c⟩;refine⟨s p,ph.2 λx v a=>?_,b,rfl,by grind⟩;obtain⟨g,q,_⟩:=(jt h.bare).1 v;obtain⟨i,w⟩:=(Ih h.mh).1 g;have d:=r x i (a.trans m.symm) q;have f:x≠b:=λc=>l<|c▸g;have u:x.bP<b.bP:=by
    rcases Int.lt_or_eq_of_le d with c|c
    .exact c
    .exact absurd (h.mh.Rx x i b j (a.trans m.symm) c) f
   grind
def lG(l:cJ)(e:E):cJ:=l.filter (λx=>ahead x e)++e::l.filter (λx=>ahead e x)
theorem mL{x:E}:x∈lG e w↔x=w\/(x∈e/\¬(x.key=w.key/\x.bP=w.bP)):=by
 unfold lG;simp only[aE,bH,dZ];grind[jz,fy,yT]
def dM.lG(h:dM e)(c:E):dM (lG e c):=by
 unfold Go.Proofs.YtgbhcncpienkcaaGreatDoor.lG;refine bR.2 ⟨h.sub fa,bC.2 ⟨λx b=>(dZ.1 b).2,h.sub fa⟩,λg a i f=>?_⟩;have d:=(dZ.1 a).2;grind[ut]
def gN.lG(h:gN e)(a:w.key≠⟨#[]⟩):gN (lG e w):=by
 refine⟨h.mh.lG w,λx b=>?_⟩;rcases mL.1 b with rfl|⟨c,_⟩;exact a;exact h.key x c
def ND(h:gN e)(a:w.key≠⟨#[]⟩)(b:m<w.bP):jQ m (lG e w)=jQ m e:=by
 refine(lP (h.lG a) m).ext (lP h m) λx=>?_;rw[jt<|h.lG a,jt h];grind[mL]
def NE(j:gN e)(i:w.key≠⟨#[]⟩){b:Z}(h:w.bP<=b)(k:∀x∈e,x.key=w.key->x.bP<=w.bP):jQ b (lG e w)=sY (jQ b e) w:=by
 refine(lP (j.lG i) b).ext ((lP j b).sY w) λx=>?_;rw[jt<|j.lG i,yG,jt j];constructor;rintro⟨g,l,m⟩;rcases mL.1 g with rfl|⟨g,q⟩;exact .inl rfl;by_cases a:x.key=w.key;(have c:=m w (mL.2<|.inl rfl) a.symm h;have d:=k x g a;grind);grind[mL]
 rintro(rfl|⟨⟨g,l,m⟩,a⟩);(refine⟨mL.2<|.inl rfl,h,λf c d _=>?_⟩;rcases mL.1 c with rfl|⟨g,_⟩;(grind);grind);refine⟨mL.2<|.inr ⟨g,λo=>a o.1⟩,l,λf c d p=>?_⟩;rcases mL.1 c with rfl|⟨n,_⟩;(grind);grind
def fH(l m:cJ):cJ:=m.foldl lG l
def gN.fH(h:gN e)(a:∀b∈L,b.key≠⟨#[]⟩):gN (fH e L):=by
 induction L generalizing e with
 |nil=>exact h
 |cons b r d=>exact d (h.lG<|a b<|by simp)<|λx c=>a x<|by simp[c]
theorem xN(a:w∈fH e L):w∈e\/w∈L:=by
 induction L generalizing e with
 |nil=>exact .inl a
 |cons c r b=>
  rcases b a with q|q
  .grind[mL]
  grind
def Qv(i:gN e)(f:∀b∈L,b.key≠⟨#[]⟩)(c:∀b∈L,b.bP=m)(g:K<m):jQ K (fH e L)=jQ K e:=by
 induction L generalizing e with
 |nil=>rfl
 |cons b r h=>
  have d:=f b (by simp);exact(h (i.lG d) (λx a=>f x<|by simp[a])<|λx a=>c x<|by simp[a]).trans<|ND i d (by rw[c b<|by simp];exact g)
def Qw(k:gN e)(f:∀b∈L,b.key≠⟨#[]⟩)(c:∀b∈L,b.bP=m)(l:m<=K)(i:∀x∈e,x.bP<=m):jQ K (fH e L)=gQ (jQ K e) L:=by
 induction L generalizing e with
 |nil=>rfl
 |cons b r j=>
  have d:=f b (by simp);have n:=c b (by simp);have g:=j (k.lG d) (λx a=>f x<|by simp[a]) (λx a=>c x<|by simp[a]) (λx a=>by
   grind[mL])
  have h:=NE k d (b:=K) (by omega) (λx a _=>by have:=i x a;omega);exact g.trans (by rw[h];rfl)
theorem Rm(h:gN e)(a:∀x∈e,x.bP<=m)(b:m<=K):jQ K e=jQ m e:=by
 refine(lP h K).ext (lP h m) λx=>?_;rw[jt h,jt h];grind
def tj(e:E):dL->dL
 |(x::g)::a=>if x.key=e.key then(e::x::g)::a else [e]::(x::g)::a
 |a=>[e]::a
def ic:cJ->dL
 |[]=>[]
 |e::r=>tj e<|ic r
def DJ(l:cJ):∀g∈ic l,g≠[]:=by
 induction l with
 |nil=>intro g a;cases a
 |cons e r b=>
  intro g a;unfold ic tj at a;grind
def pK(l:cJ):(ic l).flatten=l:=by
 induction l with
 |nil=>rfl
 |cons e r a=>
  unfold ic tj;grind
theorem yK(l:cJ):∀g∈ic l,∀x∈g,∀a∈g,x.key=a.key:=by
 induction l with
 |nil=>intro g b;cases b
 |cons e r d=>
  intro g b;have c:∀x∈[e],∀a∈[e],x.key=a.key:=by simp
  unfold ic tj at b;grind
def Iq(e:E)(r:cJ):∃g a,ic (e::r)=(e::g)::a:=by
 unfold ic tj;split;split;(grind);grind
 grind
def JU(e:E)(a b:dL)(h:a≠[]):tj e (a++b)=tj e a++b:=by
 cases a with
 |nil=>grind
 |cons g a=>
  cases g with
  |nil=>rfl
  |cons x g=>
   simp only[cL,tj];split<;>rfl
def MR(p s:cJ)(h:∀c∈p.getLast?,∀b∈s.head?,c.key≠b.key):ic (p++s)=ic p++ic s:=by
 induction p with
 |nil=>rfl
 |cons e r g=>
  cases r with
  |nil=>
   cases s with
   |nil=>rfl
   |cons b s=>
    have f:e.key≠b.key:=h e (by simp) b (by simp);obtain⟨i,d,a⟩:=Iq b s;show tj e (ic<|b::s)=[[e]]++ic (b::s);rw[a];simp only[tj];rw[dr<|λc=>f c.symm];rfl
  |cons x r=>
   have:=g<|λc a b d=>h c (by simpa using a) b d;show tj e (ic<|(x::r)++s)=tj e (ic<|x::r)++ic s;rw[this,JU];obtain⟨i,d,a⟩:=Iq x r;rw[a];simp
def Wb(h:e≠[])(b:∀x∈e,∀a∈e,x.key=a.key):ic e=[e]:=by
 induction e with
 |nil=>grind
 |cons d r c=>
  cases r with
  |nil=>rfl
  |cons x r=>
   have:=c (by simp) (λd f e g=>b d (by grind) e<|by grind);show tj d (ic<|x::r)=_;rw[this];simp only[tj];rw[dz<|b x (by simp) d<|by simp]
theorem ri(a:cw Z)(p:Option E)(e:E)(r:cJ):lY a p (e::r)=if pJ a p e then e::lY a (H e) r else lY a (H e) r:=rfl
def wF(e:E)(r:cJ):gA (e::r)=if e.del&&!((gA r).any λa=>decide<|a.key=e.key)then gA r else e::gA r:=rfl
def JG(a:cw Z)(l s:cJ):∀p:Option E,(∀c,(p.toList++l).getLast?=H c->∀b∈s.head?,c.key≠b.key)->lY a p (l++s)=lY a p l++lY a none s:=by
 induction l with
 |nil=>
  intro p h;cases s with
  |nil=>rfl
  |cons b s=>
   cases p with
   |none=>rfl
   |some q=>
    have f:q.key≠b.key:=h q (by simp) b (by simp);show lY a (H q) (b::s)=lY a none (b::s);have d:pJ a (H q) b=bU:=by simp[pJ,f]
    have e:pJ a none b=bU:=rfl;rw[ri,ri,dz d,dz e]
 |cons i r g=>
  intro p h;have:=g (H i) (λc a b d=>h c (by
   grind) b d)
  grind[ri]
def CS(a:cw Z)(l s:cJ)(h:∀b∈l.getLast?,∀d∈s.head?,b.key≠d.key):dI a (l++s)=dI a l++dI a s:=JG a l s none<|λb c=>h b<|by simpa using c
def NB(l s:cJ)(h:∀a∈l,∀f∈s,a.key≠f.key):gA (l++s)=gA l++gA s:=by
 induction l with
 |nil=>rfl
 |cons e r d=>
  have b:=d (λa c=>h a<|by simp[c]);show gA (e::(r++s))=_;rw[wF,wF,b,List.any_append];have c:((gA s).any λa=>decide<|a.key=e.key)=aY:=by
   rw[List.any_eq_false];grind[kg]
  rw[c,Bool.or_false];split<;>rfl
def uY(g:cJ):cJ:=(g.reverse.dropWhile<|λe=>e.del).reverse
def Hc(g:cJ)(e:E):uY (g++[e])=if e.del then uY g else g++[e]:=by
 unfold uY;simp only[List.reverse_append,tV,List.reverse_nil,cU,jU,List.dropWhile_cons];split<;>simp
def RC(e:E)(g:cJ):uY (e::g)=if uY g=[]then(if e.del then []else [e])else e::uY g:=by
 unfold uY;rw[tV,List.dropWhile_append];cases hq:g.reverse.dropWhile (λe=>e.del)with
 |nil=>
  simp[List.dropWhile_cons];split<;>simp_all
 |cons x r=>simp
def Xi(d:∀x∈e,∀a∈e,x.key=a.key):gA e=uY e:=by
 induction e with
 |nil=>rfl
 |cons f r g=>
  have c:=g (λe a f b=>d e (by simp[a]) f<|by simp[b]);rw[wF,c,RC];have b:∀a∈uY r,a.key=f.key:=λa e=>d a (by rw[<-c]at e;simp[(kg r).subset e]) f (by simp);cases ht:uY r with
  |nil=>simp
  |cons x t=>
   have:x.key=f.key:=b x (by rw[ht];simp);simp[this]
def Ev{b:cw Z}(h:gN e)(a:∀c∈L,c.key≠⟨#[]⟩)(d:∀c∈L,c.bP=m+1)(f:K∈b)(g:K<=m):(dI b (fH e L)::k).map (jQ K)=(e::k).map (jQ K):=by
 simp only[bZ];rw[yR (h.fH a)<|.inl f,Qv h a d<|by omega]
def xE{rest:dL}{ms:cw Z}(h:gN e)(i:∀r∈rest,gN r)(a:∀c∈L,c.key≠⟨#[]⟩)(f:∀c∈L,c.bP=m+1)(b:∀x∈e,x.bP<=m)(g:∀r∈rest,∀x∈r,x.bP<=m):(dI ms (fH e L)::rest).map (jQ<|m+1)=gQ (jQ m e) L::rest.map (jQ m):=by
 simp only[bZ];have d:∀x∈fH e L,x.bP<=m+1:=by grind[xN]
 rw[yR (h.fH a)<|.inr d,Qw h a f (Int.le_refl _) (λx e=>by have:=b x e;omega),Rm h b<|by omega];grind[map_congr_left,Rm]
def Jo{a:cw Z}(h:gN e)(b:m∈a\/∀x∈e,x.bP<=m):(dI a e::k).map (jQ m)=(e::k).map (jQ m):=by
 grind[yR]
def TB(f:∀r∈k,gN r)(d:kh k)(c:Z)(b:ab):rk [jQ c<|cG k] b=rk (k.map<|jQ c) b:=by
 have g:∀r∈k.map (jQ c),wO r:=λr h=>by grind[lP]
 have a:∀b e,rk (k.map<|jQ c) b=H e->e.key=b:=λb e q=>((QW g<|Mk d f c).1 q).2;rw[qy,yM,sI];have h:=lN f d;cases hf:rk (k.map<|jQ c) b with
 |some e=>
  have:=a b e hf;grind[nV,lP,xO]
 |none=>
  grind[ph,xO]
def gO(b:cw Z)(a:Bool)(c:dL):cJ:=if a then gA (dI b<|cG c)else dI b (cG c)
def zM(c:cw Z)(a:Bool)(b:dL):∀x∈gO c a b,x∈b.flatten:=by
 intro x d;have e:x∈dI c (cG b):=by unfold gO at d;grind[kg]
 grind[dY,js]
def Fc(d:∀r∈k,gN r)(c:kh k)(b:cw Z)(a:Bool):gN (gO b a k):=by
 unfold gO;split;exact((lN d c).Mq b).bare;exact(lN d c).Mq b
def AC{j:dL}(e:∀r∈k,gN r)(d:kh k){a:cw Z}(i:m∈a\/∀x∈k.flatten,x.bP<=m)(h:D=bU->∀f,rk (j.map<|jQ m) f=none):Bm (k.map<|jQ m) [jQ m<|gO a D k] (j.map<|jQ m):=by
 have c:=lN e d;have b:m∈a\/∀x∈cG k,x.bP<=m:=i.imp_right λq x c=>q x<|(dY k).mem_iff.1 c;have g:jQ m (dI a<|cG k)=jQ m (cG k):=yR c b;intro f;rw[<-TB e d m f,<-g];unfold gO;cases D with
 |false=>exact .inl rfl
 |true=>exact PE (c.Mq a) (h rfl) m f
def Cp(h:gN (e++L))(l:∀k∈e,∀b∈L,k.key≠b.key)(b:Z):jQ b (e++L)=jQ b e++jQ b L:=by
 have c:gN e:=h.sub<|oH _ _;have d:gN L:=h.sub<|gT _ _;have a:wO (jQ b e++jQ b L):=by refine bR.2 ⟨lP c b,lP d b,λx g f i=>?_⟩;rcases jz.1 ((bR.1 h.mh).2.2 x (zT c g) f<|zT d i)with j|⟨j,_⟩;exact j;grind[zT]
 refine(lP h b).ext a λx=>?_;rw[aE,jt h,jt c,jt d];grind
def Rn(g:∀r∈k,gN r)(e:kh k)(b:ab)(j:Z):∀x,x∈nu ⟨#[]⟩ ((cG<|k.map<|fT b).filter<|λl=>decide<|l.bP<=j)↔rk (k.map<|jQ j) x.key=H x/\iP x.key b=aY:=by
 have c:∀r∈k.map (fT b),∃s∈k,r=fT b s:=λr o=>by grind
 have h:∀r∈k.map (fT b),gN r:=λr o=>by obtain⟨s,m,rfl⟩:=c r o;exact(g s m).sub fa
 have f:kh (k.map<|fT b):=by unfold kh;rw[jp];exact e.imp λ{r s}q x b a c l=>q x (dZ.1 b).1 a (dZ.1 c).1 l
 intro x;have n:=lN h f;have d:=lN g e;have i:∀a,a∈cG (k.map<|fT b)↔a∈cG k/\iP a.key b=aY:=λa=>((dY _).mem_iff.trans VI).trans<|and_congr_left λ_=>(dY k).mem_iff.symm;show x∈jQ j (cG<|k.map<|fT b)↔_;rw[<-xO g e,jt n,jt d];grind
def gX(g h:cJ):Prop:=∀x∈g,∀a∈h,iP x.key a.key=bU
def BV(u:dM e):(ic e).Pairwise gX:=by
 induction e with
 |nil=>exact List.Pairwise.nil
 |cons t r b=>
  obtain⟨n,o⟩:=bC.1 u;have b:=b o;unfold ic tj;split
  .rename_i x j g f;have h:(x::j)++g.flatten=r:=by have:=pK r;rw[f]at this;grind
   have a:∀b∈x::j,b.key=x.key:=λb c=>yK r (x::j) (by rw[f];simp) b c x (by simp);rw[f]at b;split
   .rename_i i;obtain⟨l,p⟩:=bC.1 b;refine bC.2 ⟨λs c q k m d=>?_,p⟩;have:=l s c x (by simp) m d;grind
   .rename_i i;refine bC.2 ⟨λs c q k m d=>?_,b⟩;rw[cX.1 k];have l:iP t.key x.key=bU:=by
     rcases jz.1 (n x (by rw[<-h];simp))with p|⟨p,_⟩
     .exact p
     grind
    rcases bH.1 c with rfl|c
    .rw[a m d];exact l
    .exact kZ l<|(bC.1 b).1 s c x (by simp) m d
  .rename_i g f;have a:ic r=[]:=by
    cases i:ic r with
    |nil=>rfl
    |cons j g=>
     cases j with
     |nil=>exact absurd rfl<|DJ r [] (by rw[i];simp)
     |cons x j=>grind
   rw[a];grind
def kL(n L:M):M->M->cJ->dL->dL
 |_,_,_,[]=>[]
 |k,b,a,g::c=>
  if(k+1)*L/n<=b+y g then(a++g)::kL n L (k+1) (b+y g) [] c
  else kL n L k (b+y g) (a++g) c
theorem pA(n L k b:M)(a g:cJ)(c:dL):kL n L k b a (g::c)=if(k+1)*L/n<=b+y g then(a++g)::kL n L (k+1) (b+y g) [] c else kL n L k (b+y g) (a++g) c:=rfl
def Ov{n L:M}(i:0<n):∀(c:dL)(k d:M)(a:cJ),d+y c.flatten=L->(k<n\/(c.flatten=[]/\a=[]))->(a≠[]->d<(k+1)*L/n)->(kL n L k d a c).flatten=a++c.flatten:=by
 intro c;induction c with
 |nil=>
  intro k d a f b g;have:a=[]:=by
   rcases b with b|b
   .by_cases e:a=[]
    .exact e
    .have:=g e;have h:(k+1)*L/n<=L:=Nat.div_le_of_le_mul<|kw L b;grind
   .exact b.2
  rw[this];rfl
 |cons m c j=>
  intro k d a f b g;simp only[bG,af]at f b;rw[pA];split
  .rename_i e;rw[bG,j (k+1) (d+y m) [] (by omega) ?_<|λq=>absurd rfl q]
   .simp
   .rcases b with b|b
    .by_cases h:k+1<n
     .exact .inl h
     .have l:k+1=n:=by omega
      rw[l,Nat.mul_div_cancel_left L i]at e;exact .inr ⟨aP (by omega),rfl⟩
    grind[append_eq_nil_iff]
  grind[append_eq_nil_iff]
def Ll:∀(d:dL)(k e:M)(a:cJ),(∀g∈d,g≠[])->∀p∈kL b c k e a d,p≠[]:=by
 intro d;induction d with
 |nil=>intro k e a _ p f;cases f
 |cons g d h=>
  grind[pA,append_eq_nil_iff]
def RR{n L F V:M}(l:0<n)(hF:L<=n*F)(h:0<F):∀(c:dL)(k e:M)(a:cJ),(∀g∈c,y g<=V+1)->k*L/n+y a<=e->(a≠[]->e<(k+1)*L/n)->∀p∈kL n L k e a c,y p<=F+V:=by
 intro c;induction c with
 |nil=>intro k e a _ _ _ p b;cases b
 |cons g c r=>
  intro k e a i m o p b;have j:=i g (by simp);have f:(k+1)*L/n<=k*L/n+F:=by
   have:(k+1)*L<=k*L+n*F:=by rw[xp,Nat.one_mul];omega
   exact aC (Nat.div_le_div_right this)<|Nat.le_of_eq<|Nat.add_mul_div_left _ _ l
  rw[pA]at b;split at b
  .rename_i q;rcases bH.1 b with rfl|b
   .rw[af];by_cases d:a=[]
    .rw[d];simp;omega
    grind
   grind
  grind
def Ou:∀(f:dL)(m g:M)(a:cJ),f.Pairwise gX->(∀n∈f,gX a n)->(kL b c m g a f).Pairwise gX/\∀A∈kL b c m g a f,∀x∈A,x∈a\/x∈f.flatten:=by
 intro f;induction f with
 |nil=>intro m g a _ _;exact⟨List.Pairwise.nil,λA j=>by cases j⟩
 |cons n f t=>
  intro m g a j p;obtain⟨u,v⟩:=bC.1 j;rw[pA];split
  .obtain⟨r,s⟩:=t (m+1) (g+y n) [] v (λ_ _ x e=>by cases e);refine⟨bC.2 ⟨λq w x e d k=>?_,r⟩,λA j x e=>?_⟩
   .have l:d∈f.flatten:=(s q w d k).resolve_left (by simp);obtain⟨o,h,i⟩:=bE.1 l;rcases aE.1 e with e|e
    .exact p o (by simp[h]) x e d i
    .exact u o h x e d i
   grind
  .obtain⟨r,s⟩:=t m (g+y n) (a++n) v (λo h x e d k=>by
    rcases aE.1 e with e|e
    .exact p o (by simp[h]) x e d k
    .exact u o h x e d k)
   grind
def JF(a:cw Z)(n:dM e)(j:∀x∈e,∀g∈e,x.key=g.key):∀p:Option E,dM (p.toList++e)->(∀q∈p,∀x∈e,q.key=x.key)->y (lY a p e)<=y (a.filter (λm=>match p with|none=>bU|some q=>decide<|m<q.bP))+(if p=none then 1 else 0):=by
 induction e with
 |nil=>intro p _ _;simp[lY]
 |cons c r f=>
  intro p k d;have f:=f (n.sub<|List.sublist_cons_self _ _) (λb a d h=>j b (by simp[a]) d<|by simp[h]) (H c) n (λq e x i=>by grind);simp only[reduceCtorEq,jk,jn]at f;rw[ri];cases p with
  |none=>
   have b:pJ a none c=bU:=rfl;rw[dz b];simp only[aS,ir];grind[filter_eq_self,length_filter_le,Nat.succ_le_succ,Nat.le_trans]
  |some q=>
   have h:c.bP<q.bP:=by
    rcases jz.1 ((bR.1 k).2.2 q (by simp) c<|by simp)with i|⟨_,i⟩
    .rw[d q rfl c (by simp),fy]at i;cases i
    .exact i
   have l:y (lY a (H c) r)<=y (a.filter<|λm=>decide<|m<c.bP):=f;simp only[reduceCtorEq,jk,jn];show _<=y (a.filter<|λm=>decide<|m<q.bP);have b:∀a:cw Z,y (a.filter<|λm=>decide<|m<c.bP)+y (a.filter<|λm=>decide (c.bP<=m)&&decide (m<q.bP))=y (a.filter<|λm=>decide<|m<q.bP):=by
    intro a;induction a with
    |nil=>rfl
    |cons m a i=>
     grind
   have o:=b a;split
   .rename_i i;simp only[pJ,d q rfl c (by simp),mQ,uw,zf]at i;have:0<y (a.filter<|λm=>decide (c.bP<=m)&&decide (m<q.bP)):=by
     simp_all
    grind
   .omega
def yZ(l:jN):Prop:=l.Pairwise<|λa b=>iP a.1 b.1=bU
theorem AS(a k:ab):FC a k=!iP a k:=rfl
def Ep(k v:ab)(l a:jN):l.foldl (fX k v) (a,bU)=(a++l.filter (λp=>!decide (p.1=k)),bU):=by
 induction l generalizing a with
 |nil=>simp
 |cons p r b=>
  rw[iU];by_cases h:p.1=k
  .have:fX k v (a,bU) p=(a,bU):=by simp[fX,h]
   rw[this,b];simp[h]
  .have:fX k v (a,bU) p=(a++[p],bU):=by simp[fX,h]
   rw[this,b];simp[h]
def RZ(k v:ab)(a:jN)(n:yZ F):F.foldl (fX k v) (a,aY)=if F.all (λp=>iP p.1 k)then(a++F,aY)else(a++F.filter (λp=>iP p.1 k)++[(k,v)]++F.filter (λp=>iP k p.1),bU):=by
 induction F generalizing a with
 |nil=>simp
 |cons p r l=>
  obtain⟨g,h⟩:=bC.1 n;rw[iU];cases c:iP p.1 k with
  |true=>
   have b:=nT c;have f:FC p.1 k=aY:=by rw[AS,c];rfl
   have:fX k v (a,aY) p=(a++[p],aY):=by simp[fX,b,f]
   rw[this,l _ h];simp only[List.all_cons,c,Bool.true_and];grind[filter_cons_of_pos,filter_cons_of_neg,ld]
  |false=>
   have f:FC p.1 k=bU:=by rw[AS,c];rfl
   have d:∀q∈r,iP k q.1=bU:=λq b=>xQ c<|g q b;have i:r.filter (λp=>iP p.1 k)=[]:=gV.2 (λq b=>by simp[ld<|d q b]);have j:r.filter (λp=>iP k p.1)=r:=fB.2<|λq b=>d q b;have e:r.filter (λp=>!decide (p.1=k))=r:=fB.2 (λq b=>by have:=nT<|d q b;grind);by_cases m:p.1=k
   .have:fX k v (a,aY) p=(a++[(k,v)],bU):=by
     unfold fX;grind
    rw[this,Ep,e];grind
   .have:fX k v (a,aY) p=(a++[(k,v)]++[p],bU):=by simp[fX,f,m]
    have o:iP k p.1=bU:=by
     grind[nC]
    rw[this,Ep,e];grind
def QH(m:yZ F)(k v:ab)(f:Bool):wU F k v f=F.filter (λp=>iP p.1 k)++(if f then []else [(k,v)])++F.filter (λp=>iP k p.1):=by
 have j:F.filter (λp=>!decide (p.1=k))=F.filter (λp=>iP p.1 k)++F.filter (λp=>iP k p.1):=by
  clear v f;induction F with
  |nil=>rfl
  |cons p r l=>
   obtain⟨h,i⟩:=bC.1 m;cases e:iP p.1 k with
   |true=>
    rw[im (by simp[nT e]),im (by simp[e]),fp (by simp[ld e]),l i];rfl
   |false=>
    have d:∀q∈r,iP k q.1=bU:=λq a=>xQ e<|h q a;have b:r.filter (λp=>iP p.1 k)=[]:=gV.2 (λq a=>by simp[ld<|d q a]);have c:r.filter (λp=>iP k p.1)=r:=fB.2<|λq a=>d q a;have g:r.filter (λp=>!decide (p.1=k))=r:=fB.2 (λq a=>by have:=nT<|d q a;grind);by_cases f:p.1=k
    .rw[fp (by simp[f]),fp (by simp[e]),fp (by rw[f,fy];simp),b,c,g];rfl
    grind[nC,filter_cons_of_pos,filter_cons_of_neg]
 unfold wU qh;cases f with
 |true=>
  rw[Ep];grind
 |false=>
  rw[RZ k v [] m];by_cases e:F.all (λp=>iP p.1 k)=bU
  .rw[dz e];rw[qX]at e;have b:F.filter (λp=>iP p.1 k)=F:=fB.2 e;have c:F.filter (λp=>iP k p.1)=[]:=gV.2 (λq a=>by simp[ld<|e q a]);rw[b,c];simp
  grind
def UW(h:yZ F)(k v:ab)(d:Bool):yZ (wU F k v d):=by
 rw[QH h];refine bR.2 ⟨bR.2 ⟨lu fa h,?_,?_⟩,lu fa h,?_⟩;cases d<;>simp;grind
 grind[kZ]
def VH(h:yZ F){v:ab}{p:KV}:p∈wU F W v D↔(p.1≠W/\p∈F)\/(D=aY/\p=(W,v)):=by
 rw[QH h];simp only[aE,dZ];constructor;rintro((⟨a,b⟩|a)|⟨a,b⟩);exact .inl ⟨nT b,a⟩;(grind);exact .inl ⟨λe=>nT b e.symm,a⟩;grind[nC]
def yZ.ext{m:jN}(i:yZ F)(k:yZ m)(e:∀x,x∈F↔x∈m):F=m:=by
 induction F generalizing m with
 |nil=>
  cases m with
  |nil=>rfl
  |cons a r=>exact absurd ((e a).2<|by simp)<|by simp
 |cons x r f=>
  cases m with
  |nil=>exact absurd ((e x).1<|by simp)<|by simp
  |cons a s=>
   obtain⟨j,c⟩:=bC.1 i;obtain⟨l,g⟩:=bC.1 k;have b:x=a:=by
    rcases bH.1 ((e x).1<|by simp)with p|p
    .exact p
    .rcases bH.1 ((e a).2<|by simp)with q|q
     .exact q.symm
     grind[ld]
   subst b;congr 1;refine f c g<|λh=>⟨λd=>?_,λd=>?_⟩
   .grind[mem_cons_of_mem,fy]
   grind[mem_cons_of_mem,fy]
def tH(a:dL)(l:jN):Prop:=yZ l/\∀k v,(k,v)∈l↔seen a k=H v
def tH.congr{b:dL}(h:tH k F)(e:∀a,seen b a=seen k a):tH b F:=⟨h.1,λa v=>by rw[e a];exact h.2 a v⟩
def WY(h:∀r∈k,r=[]):tH k []:=by
 refine⟨List.Pairwise.nil,λb v=>?_⟩;have:rk k b=none:=by unfold rk;rw[List.findSome?_eq_none_iff];intro r a;rw[h r a];rfl
 simp[seen,this]
def WX(d:wO e)(h:tH (e::k) F)(b:E):tH (sY e b::k) (wU F b.key b.val b.del):=by
 refine⟨UW h.1 _ _ _,λc v=>?_⟩;rw[VH h.1];simp only;have a:seen (sY e b::k) c=if c=b.key then(if b.del then none else H b.val)else seen (e::k) c:=by unfold seen;rw[qy,qy,Nh d];grind
 rw[a,h.2 c v];by_cases f:c=b.key;rw[dz f];grind
 grind
def Ua(h:tH k F)(a:ab):qt F a=match seen k a with|some v=>(v,bU)|none=>(⟨#[]⟩,aY):=by
 have b:∀m:jN,(∀p∈m,p∈F)->(∀v,seen k a=H v->(a,v)∈m)->qt m a=match seen k a with|some v=>(v,bU)|none=>(⟨#[]⟩,aY):=by
  intro m;induction m with
  |nil=>
   intro _ d;cases hs:seen k a with
   |none=>rfl
   |some v=>grind
  |cons p r f=>
   intro e d;unfold qt;split
   .rename_i c;have:seen k a=H p.2:=(h.2 a p.2).1 (by rw[<-c];grind);rw[this]
   grind
 exact b F (λp c=>c)<|λv d=>(h.2 a v).2 d
def yX(e:E):KV:=(e.key,e.val)
def IE(o:tH k F)(l:∀g j,rk k g=H j->j.key=g)(i:ab)(m:wO e)(h:∀x,x∈e↔rk k x.key=H x/\iP x.key i=aY):(e.filter<|λj=>!j.del).map yX=F.filter (λp=>FC p.1 i):=by
 refine yZ.ext ?_ (lu fa o.1)<|λp=>?_;unfold yZ;rw[jp];exact m.sub fa
 .obtain⟨g,v⟩:=p;simp only[bW,dZ,AS];rw[o.2 g v];constructor
  .rintro⟨x,⟨n,b⟩,c⟩;obtain⟨a,d⟩:=(h x).1 n;simp only[yX,ji]at c;obtain⟨rfl,rfl⟩:=c;have f:x.del=aY:=by simpa using b
   exact⟨by simp[seen,a,f],by simp[d]⟩
  .rintro⟨a,d⟩;unfold seen at a;cases hh:rk k g with
   |none=>rw[hh]at a;cases a
   |some x=>
    rw[hh]at a;simp only[Option.bind_some]at a;have c:=l g x hh;cases b:x.del with
    |true=>rw[b]at a;cases a
    |false=>
     rw[b]at a;refine⟨x,⟨(h x).2 ⟨by rw[c];exact hh,by rw[c];simpa using d⟩,by simp[b]⟩,?_⟩;simp only[yX,ji];grind
def wD(c:ab)(a:Z):jN->jN->jN
 |b,[]=>b
 |b,p::r=>if(!(c.toList==[])&&!iP p.1 c)=bU then b else if((y b:Z)+1==a)=bU then b++[p]else wD c a (b++[p]) r
theorem Xf{a:ab}{r:jN}(h:0<m)(c:m<=y F):r.foldl (jT W a m) F=F:=by
 induction r with
 |nil=>rfl
 |cons p r b=>
  rw[iU];have:jT W a m F p=F:=by
   unfold jT rP;grind
  rw[this,b]
theorem ZN{a:ab}{r:jN}(d:(a.toList==[])=aY)(b:∀p∈r,iP p.1 a=aY):r.foldl (jT W a m) F=F:=by
 induction r with
 |nil=>rfl
 |cons p r e=>
  rw[iU];have:jT W a m F p=F:=by
   unfold jT rP;have c:Op.bytesLess p.1.toList a.toList=aY:=b p (by simp);rw[d,c];simp
  rw[this,e<|λp a=>b p<|by simp[a]]
def Yv{b:ab}{a:jN}(n:yZ F)(g:∀p∈F,iP p.1 W=aY)(j:m<=0\/(y a:Z)<m):wD b m a F=F.foldl (jT W b m) a:=by
 induction F generalizing a with
 |nil=>rfl
 |cons p s o=>
  obtain⟨r,h⟩:=bC.1 n;have k:FC p.1 W=bU:=by rw[AS,g p<|by simp];rfl
  have c:(decide (m<=0)||decide ((y a:Z)<m))=bU:=by simpa using j
  unfold wD;split
  .grind[ZN,kZ]
  .rename_i f;have e:jT W b m a p=a++[p]:=by
    unfold jT rP;rw[k,c];have:((b.toList==[])||Op.bytesLess p.1.toList b.toList)=bU:=by
     cases d:(b.toList==[])with
     |true=>rfl
     |false=>
      rw[d]at f;show(aY||iP p.1 b)=bU;simpa using f
    rw[this];rfl
   rw[iU,e];split
   .grind[Xf]
   .rename_i i;refine o h (λq l=>g q<|by simp[l]) ?_;grind
def Xg(l:jN)(d e:ab)(a:Z):nw l d e a=(l.filter<|λp=>FC p.1 d).foldl (jT d e a) []:=by
 unfold nw;generalize([]:jN)=b;induction l generalizing b with
 |nil=>rfl
 |cons p r f=>
  cases c:FC p.1 d with
  |true=>rw[im (by simp[c]),iU,iU,f]
  |false=>
   have:jT d e a b p=b:=by unfold jT rP;rw[c];simp
   rw[fp (by simp[c]),iU,this,f]
def Ql(j:tH k F)(g:∀i c,rk k i=H c->c.key=i)(b d:ab)(a:Z)(f:wO e)(h:∀x,x∈e↔rk k x.key=H x/\iP x.key b=aY):wD d a [] ((e.filter<|λc=>!c.del).map yX)=nw F b d a:=by
 have c:=IE j g b f h;rw[Xg,<-c];refine Yv ?_ ?_ ?_;unfold yZ;rw[jp];exact f.sub fa;grind[AS]
 grind
def WT{l:cw T}{p:T->Bool}(h:l.Pairwise (λa b=>p b=bU->p a=bU)):l.take (l.countP p)=l.filter p/\l.drop (l.countP p)=l.filter (λx=>!p x):=by
 induction l with
 |nil=>simp
 |cons x r e=>
  obtain⟨c,d⟩:=bC.1 h;grind
def lA(l:cJ)(e:E):M:=l.countP<|λx=>ahead x e
def JA(l:cJ)(e:E):lA l e<=y l:=List.countP_le_length
def dM.cut(h:dM e)(a:E):e.take (lA e a)=e.filter (λx=>ahead x a)/\e.drop (lA e a)=e.filter (λx=>!ahead x a):=WT<|h.imp λ{_ _}q c=>ut q c
def dM.mono(h:dM e){i j:M}(a:i<=j)(c:j<y e)(d:ahead e[j] w=bU):ahead (e[i]'(by omega)) w=bU:=by
 rcases mV a with g|g;exact ut (cN.1 h i j (by omega) c g) d;grind
def XW(f:b<=y e)(c:∀t(a:t<y e),t<b->ahead e[t] w=bU)(d:∀t(a:t<y e),b<=t->ahead e[t] w=aY):lA e w=b:=by
 unfold lA;rw[<-bN b e,List.countP_append];have g:(e.take b).countP (λx=>ahead x w)=b:=by rw[List.countP_eq_length.2];simp;omega;grind[getElem_of_mem]
 grind[countP_eq_zero,getElem_of_mem]
def PP(l:dM e)(k v:ab)(f:Bool)(b:Z):iI b e k=if c:∃a:lA e ⟨k,v,f,b⟩<y e,e[lA e ⟨k,v,f,b⟩].key=k then H (e[lA e ⟨k,v,f,b⟩]'c.1)else none:=by
 induction e with
 |nil=>simp[iI]
 |cons x r d=>
  obtain⟨m,h⟩:=bC.1 l;have d:=d h;unfold iI at d|-;cases ha:ahead x ⟨k,v,f,b⟩with
  |true=>
   have a:lA (x::r) ⟨k,v,f,b⟩=lA r ⟨k,v,f,b⟩+1:=List.countP_cons_of_pos (p:=λx=>ahead x ⟨k,v,f,b⟩) ha;have g:(decide (x.key=k)&&decide (x.bP<=b))=aY:=by
    grind[jz,nT]
   rw[List.find?_cons_of_neg (by simpa using g),d];simp[a]
  |false=>
   have a:lA (x::r) ⟨k,v,f,b⟩=0:=by
    refine List.countP_eq_zero.2 λj n=>?_;grind[wo,lK]
   obtain⟨o,i⟩:=nn ha;by_cases g:x.key=k
   .have j:=i g;rw[List.find?_cons_of_pos<|by grind];simp[a,g]
   grind[nC,jz,ld,find?_eq_none]
def SA(h:dM e)(a v:ab)(d:Bool)(b:∀x∈e,x.bP<=m):e.drop (lA e ⟨a,v,d,m⟩)=fT a e:=by
 rw[(h.cut _).2];refine tX λx c=>?_;congr 1;rw[wJ,jz];grind
def Ru(h:dM e)(a:E)(b:lA e a<y e)(f:e[lA e a].key=a.key)(c:e[lA e a].bP=a.bP):e.set (lA e a) a=lG e a:=by
 unfold lG;rw[jg,dz b,(h.cut a).1];congr 2;have d:=(h.cut a).2;rw[aZ b]at d;have j:dM (e[lA e a]::e.drop (lA e a+1)):=by rw[<-aZ b];exact h.sub<|kG _ _
 have l:=(bC.1 j).1;have i:ahead a e[lA e a]=aY:=by unfold ahead;simp[f,c,fy]
 have m:∀b,ahead e[lA e a] b=ahead a b:=λb=>by unfold ahead;rw[f,c]
 generalize e[lA e a]=k at*;have g:e.filter (λx=>ahead a x)=(e.filter<|λx=>!ahead x a).filter (λx=>ahead a x):=by rw[List.filter_filter];grind[filter_congr,lK]
 rw[g,<-d,fp (by simp[i]),fB.2];grind
def Rw(h:dM e)(a:E)(b:∀x∈e,¬(x.key=a.key/\x.bP=a.bP)):e.take (lA e a)++a::e.drop (lA e a)=lG e a:=by
 unfold lG;rw[(h.cut a).1,(h.cut a).2];grind[filter_congr,lK,yT]
def dM.ZT(j:dM e)(a:E)(k:∀d:lA e a<y e,¬(e[lA e a].key=a.key/\e[lA e a].bP=a.bP)):∀x∈e,¬(x.key=a.key/\x.bP=a.bP):=by
 rintro x o⟨i,h⟩;have f:ahead x a=aY:=by unfold ahead;simp[i,h,fy]
 have c:x∈e.drop (lA e a):=by rw[(j.cut a).2];simp[o,f]
 have d:lA e a<y e:=by grind[Nat.lt_or_ge,drop_eq_nil_of_le]
 have p:=(j.cut a).2;rw[aZ d]at c p;have g:ahead e[lA e a] a=aY:=by grind[mem_cons_self]
 have n:dM (e[lA e a]::e.drop (lA e a+1)):=by rw[<-aZ d];exact j.sub<|kG _ _
 have l:=k d;generalize e[lA e a]=b at*;rcases bH.1 c with rfl|c;grind
 have:=(bC.1 n).1 x c;(have m:ahead b x=ahead b a:=by unfold ahead;rw[i,h]);rw[m,g]at this;cases this
def dM.Wc(h:dM e)(a:b<=c)(f:c<y e):iP e[c].key (e[b]'(by omega)).key=aY:=by
 rcases mV a with d|d;exact(nn<|lK<|cN.1 h b c (by omega) f d).1;subst d;exact fy _
def dM.DG(h:dM e)(a:0<y e)(b:w∈e):iP (e[y e-1]'(by omega)).key w.key=aY:=by
 obtain⟨i,c,rfl⟩:=dO b;exact h.Wc (by omega)<|by omega
def dM.xY(h:dM e)(a:0<y e)(c:w∈e):iP w.key (e[0]'a).key=aY:=by
 obtain⟨i,b,rfl⟩:=dO c;exact h.Wc (bj i) b
def zo(b:Z)(l s:cJ)(k:ab):iI b (l++s) k=(iI b l k).or (iI b s k):=List.find?_append
def rD{l:cJ}(h:∀x∈l,x.key≠W):iI m l W=none:=mW.2<|λx a=>by simp[h x a]
def AW{cs:dL}{k:ab}{i:M}(f:i<y cs)(p:∀x∈cs.flatten,x.key=k->∃q:i<y cs,x∈cs[i])(e:cs.Pairwise gX)(n:Z):iI n cs.flatten k=iI n cs[i] k:=by
 have o:cs.flatten=(cs.take i).flatten++(cs[i]++(cs.drop<|i+1).flatten):=by grind[take_append_drop,drop_eq_getElem_cons,flatten_append,flatten_cons]
 have m:∀j(b:j<y cs),j≠i->∀x∈cs[j],x.key≠k:=by intro j b c x d h;obtain⟨_,a⟩:=p x (bE.2 ⟨_,ak b,d⟩) h;rcases Nat.lt_or_gt_of_ne c with g|g;have:=cN.1 e j i b f g x d x a;rw[fy]at this;cases this;have:=cN.1 e i j f b g x a x d;rw[fy]at this;cases this
 rw[o,zo,zo,rD,rD (l:=(cs.drop<|i+1).flatten)];simp;grind[mem_flatten,getElem_of_mem]
 grind[mem_flatten,getElem_of_mem]
def nU:M->dL->cw (M×cJ)
 |_,[]=>[]
 |n,g::a=>(n,g)::nU (n+y g) a
def ig(a:cw (M×cJ)):cJ:=(a.map (·.2)).flatten
def BW:∀(n:M)(a:dL),(nU n a).map (·.2)=a
 |_,[]=>rfl
 |n,g::a=>by rw[nU,bZ,BW]
def AU(l:cJ):ig (nU 0<|ic l)=l:=by unfold ig;rw[BW,pK]
def yL:∀(b:dL)(k n:M)(a:cw (M×cJ))(g:cJ),(a++[(n,g)])<+:nU k b->n=k+y (ig a)/\(a.map (·.2)++[g])<+:b
 |[],k,n,a,g,h=>by
  have:=h.length_le;simp[nU]at this
 |g0::b,k,n,a,g,h=>by
  rw[nU]at h;cases a with
  |nil=>
   obtain⟨s,c⟩:=h;simp at c;obtain⟨⟨rfl,rfl⟩,c⟩:=c;exact⟨by simp[ig],by simp⟩
  |cons p a=>
   rw[cL,List.cons_prefix_cons]at h;obtain⟨e,f⟩:=h;obtain⟨c,d⟩:=yL b _ n a g f;subst e;refine⟨?_,?_⟩
   .rw[c];simp[ig];omega
   .simp[d]
structure NV(l p g s:cJ):Prop where
 all:l=p++g++s
 ne:g≠[]
 same:∀x∈g,∀yqq∈g,x.key=yqq.key
 low:gX p g
 vz:gX g s
def JT(m:dM e){a:cw (M×cJ)}(r:(a++[(b,L)])<+:nU 0 (ic e)):b=y (ig a)/\∃s,NV e (ig a) L s:=by
 obtain⟨q,t,i⟩:=yL _ _ _ _ _ r;have h:=BV m;have k:L∈ic e:=by rw[<-i];simp
 have j:=pK e;rw[<-i]at h j;rw[bD]at h;obtain⟨_,n,o⟩:=bR.1 h;refine⟨by omega,t.flatten,⟨by rw[<-j];simp[ig],DJ e L k,yK e L k,λx d c f=>?_,λx d c f=>?_⟩⟩;obtain⟨l,g,d⟩:=bE.1 d;exact o l g L (by simp) x d c f;obtain⟨l,g,f⟩:=bE.1 f;(have p:(L::t).Pairwise gX:=by simpa using n);exact(bC.1 p).1 l g x d c f
def tC(a:cw (M×cJ))(n:M)(g:cJ):ig (a++[(n,g)])=ig a++g:=by simp[ig]
def gX.ne(h:gX e L):∀a∈e,∀b∈L,a.key≠b.key:=λa c b d=>nT<|h a c b d
def NV.Mq{g s:cJ}(h:NV e L g s)(a:cw Z):dI a (L++g)=dI a L++dI a g:=CS a L g<|λd b f c=>h.low.ne d (List.mem_of_getLast? b) f<|List.mem_of_head? c
def NV.bare{g s:cJ}(h:NV e L g s):gA (L++g)=gA L++uY g:=by rw[NB L g h.low.ne,Xi h.same]
def Po(a:cw Z)(l:cJ)(x:E):∀p:Option E,lY a p (l++[x])=lY a p l++(if pJ a ((p.toList++l).getLast?) x then [x]else []):=by
 induction l with
 |nil=>intro p;cases p<;>simp[lY]
 |cons e r b=>
  intro p;rw[cL,ri,ri,b<|H e];have:(p.toList++e::r).getLast?=((H e).toList++r).getLast?:=by grind
  rw[this];split<;>simp
def wanted(a:cw Z)(g:cJ)(i:M)(h:i<y g):Bool:=decide (i=0)||a.any (λm=>decide (g[i].bP<=m)&&decide (m<(g[i-1]'(by omega)).bP))
def SO{ms:cw Z}(c:∀x∈e,∀a∈e,x.key=a.key)(h:b<y e):dI ms (e.take<|b+1)=dI ms (e.take b)++(if wanted ms e b h then [e[b]]else []):=by
 rw[ah h];unfold dI;rw[Po];congr 2;simp only[Option.toList_none,cU];cases b with
 |zero=>simp[pJ,wanted]
 |succ b=>
  have d:(e.take<|b+1).getLast?=H e[b]:=by
   grind
  rw[d];have:=c e[b] (ak _) e[b+1]<|ak _;simp[pJ,wanted,this]
def Rz(f:b<=y e)(h:uY e=uY (e.take b))(a:b=0\/∃h:b-1<y e,e[b-1].del=aY):uY e=e.take b:=by
 rw[h];rcases a with rfl|⟨c,d⟩;simp[uY]
 .cases b with
  |zero=>simp[uY]
  |succ b=>
   rw[ah (by omega),Hc];grind
def RA(c:b<y e)(a:e[b].del=bU):uY (e.take<|b+1)=uY (e.take b):=by
 rw[ah c,Hc,dz a]
def rq(n:M)(l:cJ):Prop:=∀k,y (l.filter<|λx=>decide<|x.key=k)<=n
def rq.sub(h:rq b L)(s:e.Sublist L):rq b e:=λk=>aC (s.filter _).length_le<|h k
def rq.mono(h:rq c e)(a:c<=g):rq g e:=λk=>aC (h k) a
def rq.nil(n:M):rq n []:=λ_=>bj _
def rq.keys(h:rq b e):∀g∈ic e,y g<=b:=by
 intro g c;have d:g.Sublist e:=by have:=cS c;rwa[pK]at this
 cases g with
 |nil=>grind
 |cons f r=>
  have a:=h.sub d f.key;rw[fB.2<|λx c=>by grind[yK]]at a;exact a
def Mo(c:cw Z):∀a:dL,a.Pairwise gX->dI c a.flatten=(a.map<|dI c).flatten:=by
 intro a;induction a with
 |nil=>intro _;rfl
 |cons m a i=>
  intro l;obtain⟨d,e⟩:=bC.1 l;rw[bG,bZ,bG,<-i e];refine CS c _ _<|λj f k g=>?_;obtain⟨q,h,b⟩:=bE.1<|List.mem_of_mem_head? g;exact nT<|d q h j (List.mem_of_mem_getLast? f) k b
def yx{a:cw Z}(n:dM e):rq (y a+1) (dI a e):=by
 have m:=BV n;have l:=yK e;have b:∀g∈ic e,dM g:=λg a=>n.sub (by have:=cS a;rwa[pK]at this);intro r;rw[<-pK e,Mo a _ m];generalize ic e=f at*;induction f with
 |nil=>simp
 |cons g f j=>
  obtain⟨t,u⟩:=bC.1 m;have j:=j u (λq c=>l q<|by simp[c]) (λq c=>b q<|by simp[c]);rw[bZ,bG,lf,af];by_cases A:∃x∈g,x.key=r
  .obtain⟨x,v,w⟩:=A;have s:(f.map<|dI a).flatten.filter (λx=>decide<|x.key=r)=[]:=by
    rw[gV];intro d o;obtain⟨q,c,i⟩:=bE.1 o;obtain⟨p,h,rfl⟩:=bW.1 c;have:=nT<|t p h x v d<|(js a p).subset i;grind
   rw[s];have k:=JF a (b g<|by simp) (l g<|by simp) none (by grind) (λq c=>by cases c);have B:=eK (λx=>decide<|x.key=r)<|dI a g;have C:y (a.filter<|λ_=>bU)<=y a:=eK _ _;simp only[ir]at k;have D:y (dI a g)<=y (a.filter<|λ_=>bU)+1:=k;grind
  .have s:(dI a g).filter (λx=>decide<|x.key=r)=[]:=by
    rw[gV];intro d o;simp only[nz];grind[js]
   rw[s];simpa using j
def uG(L:M):M:=(L+95)/96
def gR(l:cJ):dL:=kL (uG<|y l) (y l) 0 0 []<|ic l
def zL(h:e≠[]):0<uG (y e):=by
 have:=gJ.2 h;unfold uG;omega
def we(l:cJ):(gR l).flatten=l:=by
 by_cases c:l=[];subst c;rfl;have h:=Ov (n:=uG<|y l) (L:=y l) (zL c) (ic l) 0 0 [] (by rw[pK];simp) (.inl<|zL c)<|λq=>absurd rfl q;rw[pK]at h;simpa[gR]using h
def EO(l:cJ):∀p∈gR l,p≠[]:=Ll _ _ _ _<|DJ l
def BO(h:L∈gR e):L.Sublist e:=by
 have:=cS h;rwa[we]at this
def EN(h:dM e):(gR e).Pairwise gX:=(Ou _ _ _ _ (BV h)<|λ_ _ x a=>by cases a).1
def SC(h:rq 5 e):∀p∈gR e,y p<=100:=by
 by_cases c:e=[];subst c;intro p a;cases a;(have a:y e<=uG (y e)*96:=by unfold uG;omega);exact RR (F:=96) (V:=4) (zL c) a (by omega) _ 0 0 [] h.keys (by simp)<|λq=>absurd rfl q
def CY{ps:dL}(h:∀p∈ps,p≠[]):y ps<=y ps.flatten:=by
 induction ps with
 |nil=>grind
 |cons p r b=>
  have a:=gJ.2 (h p<|by simp);have c:=b (λq a=>h q<|by simp[a]);grind
def xI(l:cJ):y (gR l)<=y l:=by
 have:=CY<|EO l;rwa[we]at this
def Lk:∀{l m:cJ},dM l->dM m->l.Perm m->l=m
 |[],m,_,_,h=>(List.nil_perm.1 h).symm
 |a::l,[],_,_,h=>by have:=h.length_eq;simp at this
 |a::l,i::m,d,e,h=>by
  obtain⟨k,b⟩:=bC.1 d;obtain⟨n,c⟩:=bC.1 e;have j:a=i:=by
   rcases bH.1 (h.mem_iff.1<|ew ..)with f|f
   .exact f
   .rcases bH.1 (h.mem_iff.2<|ew ..)with g|g
    .exact g.symm
    grind[lK]
  subst j;rw[Lk b c<|(List.perm_cons a).1 h]
def tf{a:dL}(b:∀r∈k,dM r)(d:kh k)(e:a.Perm k):cG a=cG k:=by
 have h:∀r∈a,dM r:=λr c=>b r<|e.mem_iff.1 c;have c:a.flatten.Perm k.flatten:=e.flatten;have f:=CU a h;have g:KH (cG a):=(((dY a).trans c).pairwise_iff<|λ{i j}q e=>q ⟨e.1.symm,e.2.symm⟩).2<|AB b d;exact Lk (List.Pairwise.imp₂ (λi j q e=>yT q e) f g) (oZ b d)<|((dY a).trans c).trans (dY k).symm
def CT{c:dL}(f:∀r∈k,dM r)(d:kh k)(e:c.Perm k)(b:eO)(a:Bool):gO b a c=gO b a k:=by
 unfold gO;rw[tf f d e]
def TM(l s:cJ)(k:ab):nE (l++s) k=(nE l k).or (nE s k):=List.find?_append
def Tp{j f W g O:cJ}(F:Bm [L,W] [O] k)(w:∀a∈e,∀m∈L,a.key≠m.key)(x:∀a∈L,∀m∈j,a.key≠m.key)(A:∀a∈f,∀m∈L,a.key≠m.key)(B:∀a∈L,∀m∈g,a.key≠m.key)(C:∀a∈f,∀m∈W,a.key≠m.key)(D:∀a∈W,∀m∈g,a.key≠m.key):Bm [e++L++j,f++W++g] [e++j,f++O++g] k:=by
 intro p;have c:=F p;simp only[qy,yM,sI,TM]at c|-;have o:∀{l:cJ}{d:E},nE l p=H d->d∈l/\d.key=p:=λ{l d}v=>⟨lz v,by simpa using wI v⟩;have i:∀{l:cJ}{d:E},(∀a∈l,a.key≠d.key)->d.key=p->nE l p=none:=λ{l d}v q=>ph.2<|λa b r=>v a b<|r.trans q.symm;cases ht:nE L p with
 |some d=>
  obtain⟨n,h⟩:=o ht;rw[i (λa b=>w a b d n) h,i (l:=j) (λa b r=>x d n a b r.symm) h,i (l:=f) (λa b=>A a b d n) h,i (l:=g) (λa b r=>B d n a b r.symm) h];rw[ht]at c;simpa using c
 |none=>
  rw[ht]at c;simp only[mz,sI]at c|-;rcases c with c|⟨n,h,d,s,K⟩
  .left;rw[c]
  .obtain⟨t,u⟩:=o s;rw[i (l:=f) (λa b=>C a b d t) u,i (l:=g) (λa b r=>D d t a b r.symm) u,h,s];cases hx:(nE e p).or (nE j p)with
   |some N=>left;simp
   |none=>grind
def zv{A:dL}{b:cJ}{ms:eO}{lowest:Bool}(g:∀r∈A,gN r)(f:gN b)(a:kh (A.reverse++[b])):dM (cG<|b::A)/\dM (gO ms lowest<|b::A)/\∀(t:Z)(D:dL),(t∈ms\/∀x∈(A.reverse++[b]).flatten,x.bP<=t)->(lowest=bU->∀k,rk (D.map<|jQ t) k=none)->Bm ((A.reverse++[b]).map<|jQ t) [jQ t<|gO ms lowest<|b::A] (D.map<|jQ t):=by
 have c:∀r∈A.reverse++[b],gN r:=by grind
 have d:(b::A).Perm (A.reverse++[b]):=((List.perm_append_singleton b A.reverse).trans<|(tU A).cons b).symm;rw[tf (λr h=>(c r h).mh) a d,CT (λr h=>(c r h).mh) a d];exact⟨oZ (λr h=>(c r h).mh) a,(Fc c a ms lowest).mh,λt D e d=>AC c a e d⟩
def FY{c:cJ}(i:gN (e++L++c))(d:∀x∈e,∀a∈L,x.key≠a.key)(f:∀x∈e,∀a∈c,x.key≠a.key)(g:∀x∈L,∀a∈c,x.key≠a.key)(t:Z):jQ t (e++L++c)=jQ t e++jQ t L++jQ t c:=by
 rw[Cp i (λx h a b=>(aE.1 h).elim (λq=>f x q a b)<|λq=>g x q a b) t,Cp (i.sub<|oH _ _) d t]
def SM{k d W f:cJ}{ms:eO}{lowest:Bool}(r:gN (e++L++k))(m:gN (d++W++f))(t:Over (e++L++k) (d++W++f))(E:gX e L)(x2:gX e k)(F:gX L k)(K:gX d W)(N:gX d f)(O:gX W f)(Q:gX d L)(S:gX L f):dM (cG [W,L])/\gN (d++gO ms lowest [W,L]++f)/\gX d (gO ms lowest [W,L])/\gX (gO ms lowest [W,L]) f/\Over (e++k) (d++gO ms lowest [W,L]++f)/\∀(h:Z)(ac:dL),(h∈ms\/∀x∈L++W,x.bP<=h)->(lowest=bU->∀ad,rk (ac.map<|jQ h) ad=none)->Bm [jQ h<|e++L++k,jQ h<|d++W++f] [jQ h<|e++k,jQ h<|d++gO ms lowest [W,L]++f] (ac.map<|jQ h):=by
 have u:gN L:=r.sub (by simp);have X:gN W:=m.sub (by simp);have hX:gN (e++k):=r.sub (by simp);have p:∀D∈[L,W],gN D:=by grind
 have o:kh [L,W]:=by unfold kh;simp only[bC,bH,fO,mu,forall_eq,List.Pairwise.nil,xh,false_implies,implies_true];exactλc a h g=>t c (by simp[a]) h<|by simp[g]
 have hp:([W,L]:dL).Perm [L,W]:=List.Perm.swap _ _ _;have em:=tf (λD A=>(p D A).mh) o hp;have eo:=CT (λD A=>(p D A).mh) o hp ms lowest;have V:=Fc p o ms lowest;have i:∀x∈gO ms lowest [L,W],x∈L\/x∈W:=λx s=>by simpa using zM ms lowest [L,W] x s
 rw[em,eo];have v:gX d (gO ms lowest [L,W]):=λc a h g=>(i h g).elim (Q c a h)<|K c a h;have w:gX (gO ms lowest [L,W]) f:=λc a h g=>(i c a).elim (λq=>S c q h g)<|λq=>O c q h g;have T:gN (d++gO ms lowest [L,W]++f):=by refine⟨bR.2 ⟨bR.2 ⟨m.mh.sub (by simp),V.mh,λc a h g=>jz.2<|.inl<|v c a h g⟩,m.mh.sub (by simp),λc a h g=>jz.2<|.inl<|(aE.1 a).elim (λq=>N c q h g)<|λq=>w c q h g⟩,λP l=>?_⟩;rcases aE.1 l with l|l;rcases aE.1 l with l|l;exact m.key P (by simp[l]);exact V.key P l;exact m.key P<|by simp[l]
 refine⟨oZ (λD A=>(p D A).mh) o,T,v,w,?_,λh ac g hD=>?_⟩;intro c a j b n;(have l:c∈e++L++k:=by grind);have B:∀b∈L,c.key≠b.key:=λb d=>(aE.1 a).elim (λq=>nT<|E c q b d)<|λq P=>nT (F b d c q) P.symm;rcases aE.1 b with b|b;rcases aE.1 b with b|b;exact t c l j (by simp[b]) n;rcases i j b with q|q;(grind);exact t c l j (by simp[q]) n;exact t c l j (by simp[b]) n;rw[FY r E.ne x2.ne F.ne,FY m K.ne N.ne O.ne,Cp hX x2.ne,FY T v.ne N.ne w.ne];have sub:∀{l:cJ},gN l->∀x∈jQ h l,x∈l:=λA x s=>zT A s;have B:gN e:=r.sub (by simp);have C:gN k:=r.sub (by simp);have l:gN d:=m.sub (by simp);have n:gN f:=m.sub (by simp);refine Tp ?_ (λc a j b=>E.ne c (sub B c a) j<|sub u j b) (λc a j b=>F.ne c (sub u c a) j<|sub C j b) (λc a j b=>Q.ne c (sub l c a) j<|sub u j b) (λc a j b=>S.ne c (sub u c a) j<|sub n j b) (λc a j b=>K.ne c (sub l c a) j<|sub X j b)<|λc a j b=>O.ne c (sub X c a) j<|sub n j b;exact AC p o (g.imp_right<|λq x s=>q x<|by simpa using s) hD
def wA(l:cJ):∀a,(nu a l).Sublist l:=by
 induction l with
 |nil=>intro a;exact List.Sublist.slnil
 |cons e r b=>
  intro a;unfold nu;grind
def Wv(b:ab)(a:dL):y (a.map<|fT b).flatten<=y a.flatten:=by
 induction a with
 |nil=>simp
 |cons r a c=>
  have h:y (fT b r)<=y r:=eK _ _;grind
def QY(h:rk k W=H w):w.key=W:=by
 unfold rk at h;obtain⟨r,_,a⟩:=pY h;have:=wI a;grind
def QX(h:rk k W=H w):w∈k.flatten:=by
 unfold rk at h;obtain⟨r,b,a⟩:=pY h;exact bE.2 ⟨r,b,lz a⟩
def TC(h:∀r∈k,r=[])(d:ab):rk k d=none:=by
 cases c:rk k d with
 |none=>rfl
 |some e=>
  obtain⟨r,b,a⟩:=bE.1<|QX c;rw[h r b]at a;cases a
