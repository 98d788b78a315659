import Derived.BigQuiet
import Derived.Conc.MuLone
import Derived.Deep.QuietTactic
import Derived.Deep.RegionLawGrows
import Derived.Lib.EndianBits
import Derived.OrdersHeld
import Derived.OrdersIn
import Derived.Outline
import Derived.OwnWalkIn
import Derived.RangeFuncCalls
import Derived.Test.YtmnlcbeggagabaaGreatDoorChecked
import Derived.WalkLawsBesides
import Derived.Test.YtmnlcbeggagabaaGreatDoorC1
open _root_ renaming List.length→y,Option.some→H,Array.size→z,Go.World.heap→G,Go.Value.ownBlock→cz,Go.World.cell?→aS,Go.World.setCell→cA,Go.World.alloc→cG,Bool.false→bj,Bool.true→ci,Nat→M,Int→U,List→cS,Go.Calls→cD,Go.Proofs.Tryz.prog→aZ,Go.Value.slice→J,Go.Value.string→am,Go.Value.bool→aK,Go.Value.pointer→dF,Go.Value.tuple→dd,Go.Value.agg→dD
namespace Go.Proofs.YtmnlcbeggagabaaGreatDoor
open ChangeShapes WideShapes RowKit Proofs.Tryz List
set_option maxHeartbeats 16000000
set_option linter.all false
set_option maxRecDepth 100000
variable{a f B:Z}{b c g m x O:M}{d u:ab}{e N:cI}{k:U}{l:dJ}{X:eT}{v:ae}{A:iF}{K:Bool}
abbrev KV:=ae×ae
abbrev kK:=cS KV
def rS(p:KV):iF:=[am p.1,am p.2]
def jw(l:cS KV):iF:=l.flatMap rS
def rR(l:cS KV)(i:M)(h:i<y l):(jw l)[i*2]?=H (am l[i].1)/\(jw l)[i*2+1]?=H (am l[i].2):=by
 induction l generalizing i with
 |nil=>simp at h
 |cons p r a=>
  cases i with
  |zero=>simp[jw,rS]
  |succ i=>
   have:=a i (by simpa using h);have e:(i+1)*2=i*2+2:=by omega
   rw[e];simpa[jw,rS]using this
def Row(w:Z)(c:M)(v:ab)(n:M)(d:iF):Prop:=y d=n*c/\((v=aw/\n=0)\/∃e a b,v=aY e a n b/\n<=b/\∀j u,d[j]?=H u->aS w (R e<|a+j)=H u)
def rJ(w:Z)(v:ab)(l:cS KV):Prop:=Row w 2 v (y l)<|jw l
def KQ:(prog.info? 157).map (λi=>(i.zero,i.size,i.bytes))=H (H<|dD #[am ⟨#[]⟩,am ⟨#[]⟩],2,32):=by kernel_rfl
theorem Mk{b:ae}(h:v.toList=b.toList):v=b:=by
 rw[rF,rF]at h;exact bytes_inj h
def wK{b:ae}(h:¬v=b):(v.toList==b.toList)=bj:=by
 rw[lM];grind[Mk]
def Mc(a k:ae):Bool:=!Op.bytesLess a.toList k.toList
def fQ(k v:ae)(a:cS KV×Bool)(p:KV):cS KV×Bool:=let b:=if !a.2&&Mc p.1 k then a.1++[(k,v)]else a.1;(if p.1=k then b else b++[p],a.2||Mc p.1 k)
def oq(k v:ae)(d:Bool)(l:cS KV):cS KV×Bool:=l.foldl (fQ k v) ([],d)
def ux(l:cS KV)(k v:ae)(d:Bool):cS KV:=if(oq k v d l).2 then(oq k v d l).1 else(oq k v d l).1++[(k,v)]
def MC(k v:ae)(d:Bool)(l:cS KV)(n:M)(h:n<y l):oq k v d (l.take<|n+1)=fQ k v (oq k v d<|l.take n) l[n]:=by
 unfold oq;rw[aj h,fK];rfl
theorem Dj(k v:ae)(a:cS KV×Bool)(p:KV):y (fQ k v a p).1<=y a.1+2:=by
 unfold fQ;grind
theorem FF{d b c:ae}{a:cS KV}(h:b=v):fQ v d (a,ci) (b,c)=(a,ci):=by simp[fQ,h]
theorem FE{d b c:ae}{a:cS KV}(h:¬b=v):fQ v d (a,ci) (b,c)=(a++[(b,c)],ci):=by simp[fQ,h]
def Pm{e b c:ae}{a:cS KV}(d:Op.bytesLess b.toList v.toList=ci)(h:b=v):fQ v e (a,bj) (b,c)=(a,bj):=by
 unfold fQ Mc;grind
def Pk{e b c:ae}{a:cS KV}(d:Op.bytesLess b.toList v.toList=ci)(h:¬b=v):fQ v e (a,bj) (b,c)=(a++[(b,c)],bj):=by
 unfold fQ Mc;grind
def Pp{d b c:ae}{a:cS KV}(e:Op.bytesLess b.toList v.toList=bj)(h:b=v):fQ v d (a,bj) (b,c)=(a++[(v,d)],ci):=by
 unfold fQ Mc;grind
def Po{d b c:ae}{a:cS KV}(e:Op.bytesLess b.toList v.toList=bj)(h:¬b=v):fQ v d (a,bj) (b,c)=(a++[(v,d)]++[(b,c)],ci):=by
 unfold fQ Mc;grind
def He(k v:ae)(d:Bool)(l:cS KV):y (oq k v d l).1<=2*y l:=by
 unfold oq
 have:∀(l:cS KV)(a:cS KV×Bool),y (l.foldl (fQ k v) a).1<=y a.1+2*y l:=by
  intro l;induction l with
  |nil=>intro a;simp
  |cons p r b=>grind[length_cons,Dj]
 grind
def mG(a b:cS KV):jw (a++b)=jw a++jw b:=by simp[jw]
def ku(h:a.ownsRow b c g d m A)(e:f.heap=a.heap):f.ownsRow b c g d m A:=by
 unfold World.ownsRow at*;rw[e];exact h
def nF{h wr W c:Z}(f:Below b h wr)(a:b<=z (G wr))(i:eC W c d u)(O:Obj)(e:(W.os,W.tape,W.output,W.heap)=((cG wr O).os,(cG wr O).tape,(cG wr O).output,(cG wr O).heap))(g:∀k,cz d=H k->b<=k):Below b h c:=(Below.of_heap (f.alloc a O) e).grown i.grown (by simp only[iZ]at e;rw[e.2.2.2];simp;omega) g
def yf(w:Z)(a:M)(o:ab)(l:cS KV):Prop:=w.ownsRow a 157 2 o (y l)<|jw l
def yf.of{l:cS KV}(h:a.ownsRow b 157 2 d c A)(e:c=y l)(f:A=jw l):yf a b d l:=by subst e;subst f;exact h
def qC(w:Z)(x a:ab)(t:TypeId):∀j u,[x,a][j]?=H u->aS (cG w<|ay #[x,a] t) (((R (z<|G w) 0):Addr).add j)=H u:=by
 intro j u b;rw[dt];simp_all
def Ss(p:cS KV)(al b an:M)(k v:ae)(P:Bool)(w:Z)(hr:y p<=1000000000000)(N:∀j,j<y p->aS w (R al<|b+j*2)=H (am (p[j]?.getD (⟨#[]⟩,⟨#[]⟩)).1)/\aS w (R al<|b+j*2+1)=H (am (p[j]?.getD (⟨#[]⟩,⟨#[]⟩)).2))(hb:al<z (G w)):cD aZ 32 #[aY al b (y p) an,dD #[am k,am v,aK P]] w λbc w'=>∃v',bc=aJ v'/\yf w' (z (G w)+1) v' (ux p k v P)/\Below (z<|G w) w w':=by
 obtain⟨i0,hi,B,C,D⟩:=cU KQ;have HC:=Y N;clear N;go_in
 go_wp2;go_loopw [5,6,7] (λa ba j wr=>∃(o:M),o<=y p/\j=aq o/\ba=aK (oq k v P<|p.take o).2/\yf wr (z (G w)+1) a (oq k v P<|p.take o).1/\Below (z (G w)+1) (cG w<|ay #[am k,am v,aK P] 99) wr) (λ_ _ j _=>y p-(intOf j).toNat)
 case atStart=>exact⟨0,bG _,rfl,rfl,cO _ _ _ _,Below.refl _ _⟩
 case round=>
  obtain⟨o,hn,rfl,rfl,m,c⟩:=hrel;have aU:aS wr (R (z<|G w) 0)=H (am k):=by rw[c.cell<|by simp];simp
  have aV:aS wr (R (z<|G w) 1)=H (am v):=by rw[c.cell<|by simp];simp
  have x:y (oq k v P<|p.take o).1<=2*o:=by have:=He k v P<|p.take o;grind
  have L:z (G w)+1<=z (G wr):=by have:=c.size;simp_all
  by_cases K:o<y p
  .have S:aS wr (R al<|b+o*2)=H (am (p[o]?.getD (⟨#[]⟩,⟨#[]⟩)).1):=by rw[c.cell (by simp;omega),fo hb];exact(HC o K).1
   have T:aS wr (R al<|b+o*2+1)=H (am (p[o]?.getD (⟨#[]⟩,⟨#[]⟩)).2):=by rw[c.cell (by simp;omega),fo hb];exact(HC o K).2
   have W:=Y<|MC k v P p o K;generalize oq k v P (p.take o)=E at*;obtain⟨V,q⟩:=E;have r:=Y m;have HB:=Y c;clear m c;have au:p[o]?.getD (⟨#[]⟩,⟨#[]⟩)=p[o]:=by simp[K]
   rw[au]at S T;generalize p[o]=ba at*;obtain⟨g,F⟩:=ba;simp only at S T x;cases q with
   |true=>
    go_wp2_with fail
    go_quiet(fail)
    go_wp2_with fail
    by_cases i:g=k
    .have u:(g.toList==k.toList)=ci:=by rw[i];simp
     have l:=Y<|W.trans<|FF i;clear i;go_quiet(fail)
     go_wp2;go_roundw;case rel=>exact⟨o+1,by omega,by go_num,by rw[af l],by rw[af l];exact ku r rfl,Below.of_heap HB rfl⟩
     case measure=>simp[intOf];omega
    .have u:(g.toList==k.toList)=bj:=wK i;have l:=Y<|W.trans<|FE i;clear i;go_quiet(fail)
     go_wp2_with(first
      |(at_builtin;refine ct _ rfl (.tmp 44) (.tmp 49) 46 rfl (z (G w)+1) 157 i0 (.agg #[.string ⟨#[]⟩,.string ⟨#[]⟩]) 2 32 underlying46 hi B C D rfl (by decide) _ _ _ rfl (ku (aX r (.cells #[.string g,.string F] 157)) ?chT) (R (z (G wr)) 0) 1 1 [.string g,.string F] rfl rfl ?c1T ?c2T ?c3T ?c4T ?c5T ?_))
     case chT=>rfl
     case c1T=>exact qC _ _ _ _
     case c2T=>intro bb A;simp at A;rcases A with rfl|rfl<;>rfl
     case c3T=>first|omega|(simp;omega)
     case c4T=>first|omega|(simp;omega)
     case c5T=>simp;omega
     intro o2 X a e;have t:=Y a;have Q:=Y e;clear a e;go_wp2;go_roundw;case rel=>exact⟨o+1,by omega,by go_num,by rw[af l],by rw[af l];exact yf.of t (by simp) (by simp[mG];rfl),nF HB L Q (ay #[am g,am F] 157) rfl<|λN j=>(bK r N j).1⟩
     case measure=>simp[intOf];omega
   |false=>
    by_cases hL:Op.bytesLess g.toList k.toList=ci
    .have HG:=Y hL;go_wp2_with fail
     go_quiet(fail)
     go_wp2_with fail
     by_cases i:g=k
     .have u:(g.toList==k.toList)=ci:=by rw[i];simp
      have l:=Y<|W.trans<|Pm HG i;clear i;go_quiet(fail)
      go_wp2;go_roundw;case rel=>exact⟨o+1,by omega,by go_num,by rw[af l],by rw[af l];exact ku r rfl,Below.of_heap HB rfl⟩
      case measure=>simp[intOf];omega
     .have u:(g.toList==k.toList)=bj:=wK i;have l:=Y<|W.trans<|Pk HG i;clear i;go_quiet(fail)
      go_wp2_with(first
       |(at_builtin;refine ct _ rfl (.tmp 44) (.tmp 49) 46 rfl (z (G w)+1) 157 i0 (.agg #[.string ⟨#[]⟩,.string ⟨#[]⟩]) 2 32 underlying46 hi B C D rfl (by decide) _ _ _ rfl (ku (aX r (.cells #[.string g,.string F] 157)) ?chL) (R (z (G wr)) 0) 1 1 [.string g,.string F] rfl rfl ?c1L ?c2L ?c3L ?c4L ?c5L ?_))
      case chL=>rfl
      case c1L=>exact qC _ _ _ _
      case c2L=>intro bb A;simp at A;rcases A with rfl|rfl<;>rfl
      case c3L=>first|omega|(simp;omega)
      case c4L=>first|omega|(simp;omega)
      case c5L=>simp;omega
      intro o2 X a e;have t:=Y a;have Q:=Y e;clear a e;go_wp2;go_roundw;case rel=>exact⟨o+1,by omega,by go_num,by rw[af l],by rw[af l];exact yf.of t (by simp) (by simp[mG];rfl),nF HB L Q (ay #[am g,am F] 157) rfl<|λN j=>(bK r N j).1⟩
      case measure=>simp[intOf];omega
    .have ao:Op.bytesLess g.toList k.toList=bj:=by simpa using hL
     clear hL;have HG:=Y ao;go_wp2_with fail
     go_quiet(fail)
     go_wp2_with(first
      |(at_builtin;refine ct _ rfl (.tmp 28) (.tmp 34) 46 rfl (z (G w)+1) 157 i0 (.agg #[.string ⟨#[]⟩,.string ⟨#[]⟩]) 2 32 underlying46 hi B C D rfl (by decide) _ _ _ rfl (ku (aX r (.cells #[.string k,.string v] 157)) ?chY) (R (z (G wr)) 0) 1 1 [.string k,.string v] rfl rfl ?c1Y ?c2Y ?c3Y ?c4Y ?c5Y ?_))
     case chY=>rfl
     case c1Y=>exact qC _ _ _ _
     case c2Y=>intro bb A;simp at A;rcases A with rfl|rfl<;>rfl
     case c3Y=>first|omega|(simp;omega)
     case c4Y=>first|omega|(simp;omega)
     case c5Y=>simp;omega
     intro o1 O f n;have d:Below (z (G w)+1) (cG w<|ay #[am k,am v,aK P] 99) O:=nF HB L n (ay #[am k,am v] 157) rfl<|λN j=>(bK r N j).1;have ax:aS O (R (z<|G w) 0)=H (am k):=by rw[d.cell<|by simp];simp
     have aD:aS O (R al<|b+o*2)=H (am g):=by rw[d.cell (by simp;omega),<-(af HB).cell (by simp;omega)];exact S
     have aF:aS O (R al<|b+o*2+1)=H (am F):=by rw[d.cell (by simp;omega),<-(af HB).cell (by simp;omega)];exact T
     have ad:z (G w)+1<=z (G O):=by have:=d.size;simp_all
     have ac:yf O (z (G w)+1) o1 (V++[(k,v)]):=yf.of f (by simp) (by simp[mG];rfl);have av:y (V++[(k,v)])<=2*o+1:=by simp;omega
     have s:=Y ac;have aa:=Y d;clear f n d ac;go_wp2_with fail
     by_cases i:g=k
     .have u:(g.toList==k.toList)=ci:=by rw[i];simp
      have l:=Y<|W.trans<|Pp HG i;clear i;go_quiet(fail)
      go_wp2;go_roundw;case rel=>exact⟨o+1,by omega,by go_num,by rw[af l],by rw[af l];exact ku s rfl,Below.of_heap aa rfl⟩
      case measure=>simp[intOf];omega
     .have u:(g.toList==k.toList)=bj:=wK i;have l:=Y<|W.trans<|Po HG i;clear i;go_quiet(fail)
      go_wp2_with(first
       |(at_builtin;refine ct _ rfl (.tmp 44) (.tmp 49) 46 rfl (z (G w)+1) 157 i0 (.agg #[.string ⟨#[]⟩,.string ⟨#[]⟩]) 2 32 underlying46 hi B C D rfl (by decide) _ _ _ rfl (ku (aX s (.cells #[.string g,.string F] 157)) ?chZ) (R (z (G O)) 0) 1 1 [.string g,.string F] rfl rfl ?c1Z ?c2Z ?c3Z ?c4Z ?c5Z ?_))
      case chZ=>rfl
      case c1Z=>exact qC _ _ _ _
      case c2Z=>intro bb A;simp at A;rcases A with rfl|rfl<;>rfl
      case c3Z=>first|omega|(simp;omega)
      case c4Z=>first|omega|(simp;omega)
      case c5Z=>simp;omega
      intro o2 X a e;have t:=Y a;have Q:=Y e;clear a e;go_wp2;go_roundw;case rel=>exact⟨o+1,by omega,by go_num,by rw[af l],by rw[af l];exact yf.of t (by simp) (by simp[mG];rfl),nF aa ad Q (ay #[am g,am F] 157) rfl<|λN j=>(bK s N j).1⟩
      case measure=>simp[intOf];omega
  .have a:p.take o=p:=dp (by omega);rw[a]at m x|-;have e:=Y<|show ux p k v P=if(oq k v P p).2 then(oq k v P p).1 else(oq k v P p).1++[(k,v)]from rfl;generalize oq k v P p=E at*;obtain⟨V,q⟩:=E;simp only at x;have r:=Y m;have HB:=Y c;clear m c;have fin:∀X,Below (z (G w)+1) (cG w<|ay #[am k,am v,aK P] 99) X->Below (z<|G w) w X:=λX h=>((Below.refl _ w).alloc (ai _) _).trans (h.mono<|by omega);have d:=Y fin;clear fin;cases q with
   |true=>
    go_wp2;go_ret;exact⟨_,rfl,by rw[af e];exact r,af d _ HB⟩
   |false=>
    go_wp2_with(first
     |(at_builtin;refine ct _ rfl (.tmp 53) (.tmp 59) 46 rfl (z (G w)+1) 157 i0 (.agg #[.string ⟨#[]⟩,.string ⟨#[]⟩]) 2 32 underlying46 hi B C D rfl (by decide) _ _ _ rfl (ku (aX r (.cells #[.string k,.string v] 157)) ?chX) (R (z (G wr)) 0) 1 1 [.string k,.string v] rfl rfl ?c1X ?c2X ?c3X ?c4X ?c5X ?_))
    case chX=>rfl
    try(case c1X=>exact qC _ _ _ _)
    case c2X=>exact⟨rfl,rfl⟩
    case c3X=>omega
    case c4X=>omega
    case c5X=>omega
    intro o1 O f n;have s:=Y f;have Q:=Y n;clear f n;go_wp2;go_ret;exact⟨_,rfl,by rw[af e];exact yf.of s (by simp) (by simp[mG];rfl),af d _<|nF HB L Q (ay #[am k,am v] 157) rfl<|λN j=>(bK r N j).1⟩
theorem Ve(k v:ae)(m:Bool)(w:Z):cD aZ 32 #[aw,dD #[am k,am v,aK m]] w λA q=>∃p,A=aJ p/\yf q (z (G w)+1) p (ux [] k v m)/\Below (z<|G w) w q:=by
 obtain⟨x,s,i,j,l⟩:=cU KQ;go_in
 go_wp2;go_loopw [5,6,7] (λo a i wr=>i=aq 0/\a=aK m/\o=aw/\Below (z (G w)+1) (cG w<|ay #[am k,am v,aK m] 99) wr) (λ_ _ _ _=>0)
 case atStart=>grind[Below.refl]
 case round=>
  obtain⟨rfl,rfl,rfl,a⟩:=hrel;have t:aS wr (R (z<|G w) 0)=H (am k):=by rw[a.cell<|by simp];simp
  have u:aS wr (R (z<|G w) 1)=H (am v):=by rw[a.cell<|by simp];simp
  have g:z (G w)+1<=z (G wr):=by have:=a.size;simp_all
  have c:yf wr (z (G w)+1) aw []:=cO _ _ _ _;have e:=Y c;have HB:=Y a;clear c a;have fin:∀a,Below (z (G w)+1) (cG w<|ay #[am k,am v,aK m] 99) a->Below (z<|G w) w a:=λa h=>((Below.refl _ w).alloc (ai _) _).trans (h.mono<|by omega);have n:=Y fin;clear fin;cases m with
  |true=>
   go_wp2;go_ret;exact⟨_,rfl,e,af n _ HB⟩
  |false=>
   go_wp2_with(first
    |(at_builtin;refine ct _ rfl (.tmp 53) (.tmp 59) 46 rfl (z (G w)+1) 157 x (.agg #[.string ⟨#[]⟩,.string ⟨#[]⟩]) 2 32 underlying46 s i j l rfl (by decide) _ _ _ rfl (ku (aX e (.cells #[.string k,.string v] 157)) ?chX) (R (z (G wr)) 0) 1 1 [.string k,.string v] rfl rfl ?c1X ?c2X ?c3X ?c4X ?c5X ?_))
   case chX=>rfl
   try(case c1X=>exact qC _ _ _ _)
   case c2X=>intro D o;simp at o;rcases o with rfl|rfl<;>rfl
   case c3X=>simp_all
   case c4X=>simp_all
   case c5X=>first|omega|(simp;omega)
   intro B C b d;have f:=Y b;have r:=Y d;clear b d;go_wp2;go_ret;exact⟨_,rfl,yf.of f rfl rfl,af n _<|nF HB g r (ay #[am k,am v] 157) rfl<|λb a=>(bK e b a).1⟩
def dE(j:a.ownsRow c g m d x A):Row a m d x A:=by
 refine⟨j.1,?_⟩;rcases j.2 with⟨rfl,l⟩|⟨i,e,h,rfl,_,_,f,_⟩;grind
 refine .inr ⟨i,0,e,rfl,f,λn u k=>?_⟩;have:=j.cells (g:=i) rfl n u k;rwa[dt]at this
def yf.XO{l:cS KV}(h:yf a b d l):rJ a d l:=dE h
def Vf(l:cS KV)(n v:ae)(g:Bool)(k:rJ a d l)(j:∀p,cz d=H p->p<z (G a))(m:y l<=1000000000000):cD aZ 32 #[d,dD #[am n,am v,aK g]] a λq f=>∃e,q=aJ e/\yf f (z (G a)+1) e (ux l n v g)/\Below (z<|G a) a f:=by
 obtain⟨s,⟨rfl,r⟩|⟨o,b,c,rfl,i,t⟩⟩:=k;grind[eq_nil_of_length_eq_zero,Ve]
 refine Ss l o b c n v g a m (λw h=>?_)<|j o rfl;have u:=rR l w h;grind
structure GL where
 key:ae
 val:ae
 del:Bool
abbrev pS:=cS GL
def rk(c:GL):iF:=[am c.key,am c.val,aK c.del]
def iE(l:cS GL):iF:=l.flatMap rk
def kJ(l:cS GL)(i:M)(h:i<y l):(iE l)[i*3]?=H (am l[i].key)/\(iE l)[i*3+1]?=H (am l[i].val)/\(iE l)[i*3+2]?=H (aK l[i].del):=by
 induction l generalizing i with
 |nil=>simp at h
 |cons p r a=>
  cases i with
  |zero=>simp[iE,rk]
  |succ i=>
   have:=a i (by simpa using h);have e:(i+1)*3=i*3+3:=by omega
   rw[e];simpa[iE,rk]using this
def EO(w:Z)(v:ab)(l:cS GL):Prop:=Row w 3 v (y l)<|iE l
def wt:Bool->M
 |true=>0
 |false=>1
def Di(k v:ae)(a:kK×Bool)(p:KV):y (fQ k v a p).1+wt (fQ k v a p).2<=y a.1+wt a.2+1:=by
 obtain⟨c,q⟩:=a;obtain⟨b,d⟩:=p;cases q<;>cases hg:Mc b k<;>by_cases h:b=k<;>(simp only[fQ,hg];simp[h,wt])
theorem JC(l:kK)(k v:ae)(d:Bool):y (ux l k v d)<=y l+1:=by
 have b:∀(l:kK)(a:kK×Bool),y (l.foldl (fQ k v) a).1+wt (l.foldl (fQ k v) a).2<=y a.1+wt a.2+y l:=by
  intro l;induction l with
  |nil=>intro a;simp
  |cons p r c=>intro a;simp only[gD,aW];have:=c<|fQ k v a p;have:=Di k v a p;omega
 have h:=b l ([],d);have f:wt d<=1:=by cases d<;>simp[wt]
 simp only[eD]at h;unfold ux oq;split<;>rename_i e;omega;(have a:(List.foldl (fQ k v) ([],d) l).2=bj:=by simpa using e);rw[a,show wt bj=1 from rfl]at h;rw[ag];grind
def AC(l:kK)(a:cS GL):kK:=a.foldl (λl c=>ux l c.key c.val c.del) l
def Ui(l:kK)(a:cS GL)(n:M)(h:n<y a):AC l (a.take<|n+1)=ux (AC l<|a.take n) a[n].key a[n].val a[n].del:=by
 unfold AC;rw[aj h,fK];rfl
def za(l:kK)(a:cS GL):y (AC l a)<=y l+y a:=by
 unfold AC;induction a generalizing l with
 |nil=>simp
 |cons c r b=>grind[length_cons,JC]
def Uh{Q:kK}(c:cS GL)(B:rJ a d Q)(A:∀g,cz d=H g->g<z (G a))(hc:EO a u c)(m:∀g,cz u=H g->g<z (G a))(hr:y Q+y c<=1000000000000):cD aZ 13 #[d,u] a λad S=>∃x,ad=aJ x/\rJ S x (AC Q c)/\(∀g,cz x=H g->g<z (G S))/\(cz x=cz d\/∀g,cz x=H g->z (G a)<=g)/\Below (z<|G a) a S:=by
 obtain⟨h1,⟨rfl,h0⟩|⟨W,e,aa,rfl,ac,s⟩⟩:=hc;(.obtain rfl:c=[]:=aP h0;have K:=Y B;have F:=Y A;clear B A m;(go_in);go_wp2;(go_loopw [0,5] (λV X wr=>X=aq 0/\V=d/\wr=a) (λ_ _ _=>0));(case atStart=>grind);(case round=>obtain⟨rfl,rfl,rfl⟩:=hrel;go_wp2;go_ret;exact⟨_,rfl,K,F,.inl rfl,Below.refl _ _⟩))
 .have l:W<z (G a):=m W rfl;obtain⟨K,F,E⟩:=dz B A s;clear B A m s;go_in
  go_wp2;go_loopw [0,5] (λV X wr=>∃n:M,n<=y c/\X=aq n/\rJ wr V (AC Q<|c.take n)/\(∀g,cz V=H g->g<z (G wr))/\(cz V=cz d\/∀g,cz V=H g->z (G a)<=g)/\Below (z<|G a) a wr) (λ_ X _=>y c-(intOf X).toNat)
  case atStart=>exact⟨0,bG _,rfl,K,F,.inl rfl,Below.refl _ _⟩
  case round=>
   obtain⟨n,hn,rfl,f,j,o,b⟩:=hrel;by_cases w:n<y c
   .have k:=kJ c n w;have L:aS wr (R W<|e+n*3)=H (am c[n].key):=(b.cell<|by exact l).trans<|E _ _ k.1;have N:aS wr (R W<|e+n*3+1)=H (am c[n].val):=(b.cell<|by exact l).trans (by rw[bF];exact E _ _ k.2.1);have O:aS wr (R W<|e+n*3+2)=H (aK c[n].del):=(b.cell<|by exact l).trans (by rw[bF];exact E _ _ k.2.2);have HS:=Y<|Ui Q c n w;have v:y (AC Q<|c.take n)<=1000000000000:=by have:=za Q<|c.take n;grind
    obtain⟨C,D,p⟩:=dz f j b;clear k f j b o;generalize P:c[n]=ce at*;obtain⟨ck,cv,cd⟩:=ce;clear P;simp only at L N O;go_wp2_with(first
     |(go_at_call 32;refine(Vf _ ck cv cd C D v).mono ?_;rintro ad w1⟨v1,rfl,i,q⟩))
    have r:Below (z<|G a) a w1:=p.trans<|q.mono p.size;have t:∀g,cz v1=H g->g<z (G w1):=λg k=>(bK i g k).2;obtain⟨K1,K2,K3,K4⟩:=fX i.XO r t (show∀g,cz v1=H g->z (G a)<=g fromλg k=>by have:=(bK i g k).1;have:=p.size;omega);clear i q r t;go_wp2;go_roundw;case rel=>exact⟨n+1,by omega,by go_num,by rw[af HS];exact K1,K3,.inr K4,K2⟩
    case measure=>simp[intOf];omega
   .have i:c.take n=c:=dp (by omega);rw[i]at f;obtain⟨C,D,p,k⟩:=fX f j b o;clear f j b o;go_wp2;go_ret;exact⟨_,rfl,C,D,k,p⟩
def lZ(l:kK)(k:ae):ae×Bool:=match l with
 |[]=>(⟨#[]⟩,bj)
 |p::r=>if p.1=k then(p.2,ci)else lZ r k
def Qq{l:kK}(h:b<y l)(e:l[b].1=v):lZ (l.drop b) v=(l[b].2,ci):=by
 rw[bD h];simp[lZ,e]
def Ni{l:kK}(h:b<y l)(e:¬l[b].1=v):lZ (l.drop b) v=lZ (l.drop<|b+1) v:=by
 rw[bD h];simp[lZ,e]
def Kt{l:kK}(k:ae)(A:rJ a d l)(L:y l<=1000000000000):cD aZ 29 #[d,am k] a λF D=>F=aJ (dd #[am (lZ l k).1,aK (lZ l k).2])/\D=a:=by
 obtain⟨w,⟨rfl,v⟩|⟨E,b,u,rfl,x,r⟩⟩:=A;(.obtain rfl:l=[]:=aP v;(go_in);go_wp2;(go_loop [6] (λt=>t=aq 0) (λ_=>0));(case atStart=>rfl);(case round=>obtain rfl:=hrel;go_wp2;(go_ret2);exact⟨rfl,rfl⟩));(.have q:=Y r;clear r w;(go_in);go_wp2;(go_loop [6] (λt=>∃n:M,n<=y l/\t=aq n/\lZ l k=lZ (l.drop n) k) (λt=>y l-(intOf t).toNat));(case atStart=>grind);(case round=>obtain⟨n,K,rfl,s⟩:=hrel;have i:=Y s;clear s;by_cases e:n<y l;(.have o:=rR l n e;have f:aS a (R E<|b+n*2)=H (am l[n].1):=q _ _ o.1;(have g:aS a (R E<|b+n*2+1)=H (am l[n].2):=by rw[bF];exact q _ _ o.2);clear o;by_cases c:l[n].1=k;(.have j:=Y<|i.trans<|Qq e c;generalize l[n]=B at*;obtain⟨p,C⟩:=B;simp only at f g c;(have m:(p.toList==k.toList)=ci:=by rw[c];simp);clear c;go_wp2;(go_ret2);exact⟨by rw[af j];rfl,rfl⟩);(.have j:=Y<|i.trans<|Ni e c;generalize l[n]=B at*;obtain⟨p,C⟩:=B;simp only at f g c;have m:(p.toList==k.toList)=bj:=wK c;clear c;go_wp2;(go_round);(case rel=>exact⟨n+1,by omega,by go_num,j⟩);case measure=>simp[intOf];omega));(have c:l.drop n=[]:=by simp;omega);go_wp2;(go_ret2);exact⟨by rw[af i,c];rfl,rfl⟩))
def Zc(m t:U):U:=if m<1\/32<m\/t<2\/6<t then 1 else 0
def lz:pS->U
 |[]=>0
 |c::r=>if c.key.size=0\/8<c.key.size then 3 else if c.del=bj/\16<c.val.size then 4 else lz r
def fJ(a:pS):U:=if 8<y a then 2 else lz a
def Ck{a:pS}(h:b<y a)(e:a[b].key.size=0\/8<a[b].key.size):lz (a.drop b)=3:=by
 rw[bD h,lz,dV e]
def Cj{a:pS}(h:b<y a)(e:¬(a[b].key.size=0\/8<a[b].key.size))(f:a[b].del=bj/\16<a[b].val.size):lz (a.drop b)=4:=by
 rw[bD h,lz,eI e,dV f]
def Ey{a:pS}(h:b<y a)(e:¬(a[b].key.size=0\/8<a[b].key.size))(f:¬(a[b].del=bj/\16<a[b].val.size)):lz (a.drop b)=lz (a.drop<|b+1):=by
 rw[bD h,lz,eI e,eI f]
def RC{b:pS}(O:EO a d b)(T:y b<=1000000000000):cD aZ 46 #[d] a λQ P=>Q=aJ (aq<|fJ b)/\P=a:=by
 obtain⟨L,⟨rfl,K⟩|⟨E,c,F,rfl,N,x⟩⟩:=O;(.obtain rfl:b=[]:=aP K;(go_in);go_wp2;(go_loop [3] (λC=>C=aq 0) (λ_=>0));(case atStart=>rfl);(case round=>obtain rfl:=hrel;go_wp2;go_ret;exact⟨rfl,rfl⟩))
 .have r:=Y x;clear x L;by_cases w:8<y b
  .have s:=Y (show fJ b=2 by unfold fJ;rw[dV w]);go_in
   go_wp2;go_ret;exact⟨by rw[af s];rfl,rfl⟩
  .have s:=Y (show fJ b=lz b by unfold fJ;rw[eI w]);go_in
   go_wp2;go_loop [3] (λC=>∃n:M,n<=y b/\C=aq n/\fJ b=lz (b.drop n)) (λC=>y b-(intOf C).toNat)
   case atStart=>exact⟨0,bG _,rfl,s⟩
   case round=>
    obtain⟨n,S,rfl,A⟩:=hrel;have p:=Y A;clear A;by_cases f:n<y b
    .have q:=kJ b n f;have k:aS a (R E<|c+n*3)=H (am b[n].key):=r _ _ q.1;have l:aS a (R E<|c+n*3+1)=H (am b[n].val):=by rw[bF];exact r _ _ q.2.1
     have m:aS a (R E<|c+n*3+2)=H (aK b[n].del):=by rw[bF];exact r _ _ q.2.2
     clear q;by_cases e:b[n].key.size=0\/8<b[n].key.size
     .have j:=Y<|p.trans<|Ck f e;generalize b[n]=D at*;obtain⟨i,v,u⟩:=D;simp only at k l m e;rcases e with e|e
      .have o:((i.size:U)==0)=ci:=by simp[e]
       go_wp2;go_ret;exact⟨by rw[af j];rfl,rfl⟩
      .have o:((i.size:U)==0)=bj:=lM.2 (by omega);go_wp2;go_ret;exact⟨by rw[af j];rfl,rfl⟩
     .by_cases g:b[n].del=bj/\16<b[n].val.size
      .have j:=Y<|p.trans<|Cj f e g;generalize b[n]=D at*;obtain⟨i,v,u⟩:=D;simp only at k l m e g;obtain⟨rfl,B⟩:=g;have o:((i.size:U)==0)=bj:=lM.2 (by omega);have t:¬8<i.size:=by omega
       clear e;go_wp2;go_ret;exact⟨by rw[af j];rfl,rfl⟩
      .have j:=Y<|p.trans<|Ey f e g;generalize b[n]=D at*;obtain⟨i,v,u⟩:=D;simp only at k l m e g;have o:((i.size:U)==0)=bj:=lM.2 (by omega);have t:¬8<i.size:=by omega
       clear e;cases u with
       |true=>
        clear g;go_wp2;go_round
        case rel=>exact⟨n+1,by omega,by go_num,j⟩
        case measure=>simp[intOf];omega
       |false=>
        have B:¬16<v.size:=by simpa using g
        clear g;go_wp2;go_round
        case rel=>exact⟨n+1,by omega,by go_num,j⟩
        case measure=>simp[intOf];omega
    .have e:b.drop n=[]:=by simp;omega
     go_wp2;go_ret;exact⟨by rw[af p,e];rfl,rfl⟩
def Ac(c b:ae)(a:U)(n:M)(p:KV):Bool:=Mc p.1 c&&((b.toList==[])||Op.bytesLess p.1.toList b.toList)&&(decide (a<=0)||decide ((n:U)<a))
def iU(d c:ae)(a:U)(b:kK)(p:KV):kK:=if Ac d c a (y b) p then b++[p]else b
def Cv(l:kK)(c b:ae)(a:U):kK:=l.foldl (iU c b a) []
def Xy(l:kK)(c b:ae)(a:U)(n:M)(h:n<y l):Cv (l.take<|n+1) c b a=iU c b a (Cv (l.take n) c b a) l[n]:=by
 unfold Cv;rw[aj h,fK];rfl
def Wo(l:kK)(d c:ae)(a:U):y (Cv l d c a)<=y l:=by
 have e:∀(l b:kK),y (l.foldl (iU d c a) b)<=y b+y l:=by
  intro l;induction l with
  |nil=>intro b;simp
  |cons p r f=>
   intro b;simp only[gD,aW];have g:=f<|iU d c a b p;have h:y (iU d c a b p)<=y b+1:=by unfold iU;split<;>simp
   omega
 have:=e l [];simpa[Cv]using this
def Yu{b:ae}{a:kK}{p:KV}(h:Ac v b k (y a) p=ci):iU v b k a p=a++[p]:=by unfold iU;rw[dV h]
def YY{b:ae}{a:kK}{p:KV}(h:Ac v b k (y a) p=bj):iU v b k a p=a:=by unfold iU;rw[eI<|by simp[h]]
def Row.shape(i:Row a b d c A):d=aw\/∃g e f,d=aY g e c f:=by
 rcases i.2 with⟨h,_⟩|⟨g,e,f,h,_⟩;exact .inl h;grind
def Wp(h:Below (z<|G a) a f)(b:Option M):a.grownBy f b:=⟨h.os,h.tape,h.output,h.size,λk c _=>h.block k c⟩
def Row.grown{g:Option M}(k:Row a b d c A)(o:a.grownBy f g)(j:cz d≠g\/cz d=none):Row f b d c A:=by
 obtain⟨l,m⟩:=k;refine⟨l,?_⟩;rcases m with⟨rfl,r⟩|⟨q,e,h,rfl,i,n⟩;grind
 refine .inr ⟨q,e,h,rfl,i,λs u p=>o.cell (n s u p) ?_⟩;rcases j with k|k;exact k;simp[cz]at k
def yY(l:kK)(k:ae):ae×Bool×U:=if k.size=0\/8<k.size then(⟨#[]⟩,bj,3)else((lZ l k).1,(lZ l k).2,0)
structure I(S:eT)(w w':Z):Prop where
 os:w'.os=w.os
 tape:w'.tape=w.tape
 output:w'.output=w.output
 size:z (G w)<=z (G w')
 block:∀k,k<z (G w)->¬S k->w'.heap[k]?=w.heap[k]?
theorem I.refl(S:eT)(w:Z):I S w w:=⟨rfl,rfl,rfl,ai _,λ_ _ _=>rfl⟩
def I.trans{S T:eT}{c b e:Z}(h:I S c b)(k:I T b e)(g:∀x,T x->S x\/z (G c)<=x):I S c e:=⟨k.os.trans h.os,k.tape.trans h.tape,k.output.trans h.output,aB h.size k.size,λi a d=>(k.block i (ah a h.size) (λj=>by
 grind)).trans (h.block i a d)⟩
def I.bW{S:eT}{a b c:Z}(h:I S a b)(k:I az b c):I S a c:=h.trans k cC
def I.mono{S T:eT}{a b:Z}(h:I S a b)(d:∀x,S x->T x\/z (G a)<=x):I T a b:=⟨h.os,h.tape,h.output,h.size,λi c e=>h.block i c (λg=>by
 grind)⟩
def I.dW{S:eT}{b:Option M}(h:a.grownBy B b)(e:∀k,b=H k->S k\/z (G a)<=k):I S a B:=⟨h.os,h.tape,h.output,h.size,λi c d=>h.block i c (λg=>by
 grind)⟩
def I.aQ{S:eT}(h:Below (z<|G a) a B):I S a B:=⟨h.os,h.tape,h.output,h.size,λi b _=>h.block i b⟩
def I.below{B:M}(h:I X a f)(b:B<=z (G a))(c:∀k,X k->B<=k):Below B a f:=⟨h.os,h.tape,h.output,h.size,λk d=>h.block k (ah d b) (λe=>by have:=c k e;omega)⟩
def I.cell{a b:Z}(h:I X a b){k i:M}(c:aS a (R k i)=H d)(g:¬X k)(e:k<z (G a)):aS b (R k i)=H d:=(da (w:=a)<|h.block k e g).trans c
def I.alloc{S:eT}(h:I S a B)(o:Obj):I S a (B.alloc o):=h.trans (I.dW (S:=az) (dy B o none)<|by simp)<|by simp
def fj(h:a.grownBy B (H b)):I (λk=>k=b) a B:=I.dW h<|by grind
def I.setCell(h:I X a f)(k i:M)(u:ab)(b:X k\/z (G a)<=k):I X a (f.setCell (R k i) u):=h.trans (I.dW (S:=λx=>x=k) (du f k i u)<|by grind)<|by grind
def cK(S:eT)(w:Z){o:Obj}:I S w (cG w o):=(I.refl S w).alloc o
def iV(a:M)(w:Z):I (λk=>k=a) w (cA w (R a b) d):=(I.refl _ w).setCell a b d<|.inl rfl
def I.own{s b:Z}(u:I X s b)(p:s.ownsRow c g m d x A)(o:∀t,cz d=H t->¬X t):b.ownsRow c g m d x A:=by
 obtain⟨k,l⟩:=p;refine⟨k,?_⟩;rcases l with⟨rfl,v⟩|⟨j,a,e,rfl,n,h,r⟩;grind
 exact .inr ⟨j,a,e,rfl,n,(u.block j (ar h)<|o j rfl).trans h,r⟩
def I.row(q:I X a f)(o:Row a b d c A)(i:∀p,cz d=H p->¬X p/\p<z (G a)):Row f b d c A:=by
 obtain⟨l,m⟩:=o;refine⟨l,?_⟩;rcases m with⟨rfl,r⟩|⟨k,e,g,rfl,h,n⟩;grind
 exact .inr ⟨k,e,g,rfl,h,λj u l=>q.cell (n j u l) (i k rfl).1 (i k rfl).2⟩
def aC(j:a.ownsRow c g m d x A):∃k i,d=.slice k x i:=by
 rcases j.2 with⟨rfl,rfl⟩|⟨l,e,h,rfl,_⟩;grind
 grind
def bN(i:Row a c d g A):∃x h,d=.slice x g h:=by
 rcases i.2 with⟨rfl,rfl⟩|⟨b,e,f,rfl,_⟩;grind
 grind
theorem fR(i:a.ownsRow b c g d m A){k:M}(f:cz d=H k):∃e,a.heap[k]?=H (.cells e c (0,0)):=by
 rcases i.2 with⟨rfl,_⟩|⟨l,h,e,rfl,_,j,_⟩;cases f;cases f;grind
def tZ(j:a.ownsRow b c g d m A){e:Array ab}{f:M×M}(i:a.heap[x]?=H (.cells e O f))(h:O≠c):cz d≠H x:=by
 grind[fR]
def zg(l:kK):Prop:=l.Pairwise<|λa b=>iX a.1 b.1=ci
theorem Ah(a k:ae):Mc a k=!iX a k:=rfl
def Dh(k v:ae)(l a:kK):l.foldl (fQ k v) (a,ci)=(a++l.filter (λp=>!decide (p.1=k)),ci):=by
 induction l generalizing a with
 |nil=>simp
 |cons p r b=>
  rw[gD];by_cases h:p.1=k
  .have:fQ k v (a,ci) p=(a,ci):=by simp[fQ,h]
   rw[this,b];simp[h]
  .have:fQ k v (a,ci) p=(a++[p],ci):=by simp[fQ,h]
   rw[this,b];simp[h]
def Pz(k v:ae){l:kK}(a:kK)(o:zg l):l.foldl (fQ k v) (a,bj)=if l.all (λp=>iX p.1 k)then(a++l,bj)else(a++l.filter (λp=>iX p.1 k)++[(k,v)]++l.filter (λp=>iX k p.1),ci):=by
 induction l generalizing a with
 |nil=>simp
 |cons p r m=>
  obtain⟨g,h⟩:=bA.1 o;rw[gD];cases c:iX p.1 k with
  |true=>
   have b:=nY c;have f:Mc p.1 k=bj:=by rw[Ah,c];rfl
   have:fQ k v (a,bj) p=(a++[p],bj):=by simp[fQ,b,f]
   rw[this,m _ h];simp only[List.all_cons,c,Bool.true_and];grind[filter_cons_of_pos,filter_cons_of_neg,lj]
  |false=>
   have f:Mc p.1 k=ci:=by rw[Ah,c];rfl
   have d:∀q∈r,iX k q.1=ci:=λq b=>wV c<|g q b;have i:r.filter (λp=>iX p.1 k)=[]:=iB.2 (λq b=>by simp[lj<|d q b]);have j:r.filter (λp=>iX k p.1)=r:=fW.2<|λq b=>d q b;have e:r.filter (λp=>!decide (p.1=k))=r:=fW.2 (λq b=>by have:=nY<|d q b;grind);by_cases n:p.1=k
   .have:fQ k v (a,bj) p=(a++[(k,v)],ci):=by
     unfold fQ;grind
    rw[this,Dh,e];grind
   .have:fQ k v (a,bj) p=(a++[(k,v)]++[p],ci):=by simp[fQ,f,n]
    have s:iX k p.1=ci:=by
     grind[nR]
    rw[this,Dh,e];grind
def Oq{l:kK}(n:zg l)(k v:ae)(f:Bool):ux l k v f=l.filter (λp=>iX p.1 k)++(if f then []else [(k,v)])++l.filter (λp=>iX k p.1):=by
 have j:l.filter (λp=>!decide (p.1=k))=l.filter (λp=>iX p.1 k)++l.filter (λp=>iX k p.1):=by
  clear v f;induction l with
  |nil=>rfl
  |cons p r m=>
   obtain⟨h,i⟩:=bA.1 n;cases e:iX p.1 k with
   |true=>
    rw[ik (by simp[nY e]),ik (by simp[e]),fh (by simp[lj e]),m i];rfl
   |false=>
    have d:∀q∈r,iX k q.1=ci:=λq a=>wV e<|h q a;have b:r.filter (λp=>iX p.1 k)=[]:=iB.2 (λq a=>by simp[lj<|d q a]);have c:r.filter (λp=>iX k p.1)=r:=fW.2<|λq a=>d q a;have g:r.filter (λp=>!decide (p.1=k))=r:=fW.2 (λq a=>by have:=nY<|d q a;grind);by_cases f:p.1=k
    .rw[fh (by simp[f]),fh (by simp[e]),fh (by rw[f,fN];simp),b,c,g];rfl
    grind[nR,filter_cons_of_pos,filter_cons_of_neg]
 unfold ux oq;cases f with
 |true=>
  rw[Dh];grind
 |false=>
  rw[Pz k v [] n];by_cases e:l.all (λp=>iX p.1 k)=ci
  .rw[dV e];rw[qm]at e;have b:l.filter (λp=>iX p.1 k)=l:=fW.2 e;have c:l.filter (λp=>iX k p.1)=[]:=iB.2 (λq a=>by simp[lj<|e q a]);rw[b,c];simp
  grind
def Su{l:kK}(h:zg l)(k v:ae)(d:Bool):zg (ux l k v d):=by
 rw[Oq h];refine bP.2 ⟨bP.2 ⟨kV eS h,?_,?_⟩,kV eS h,?_⟩;cases d<;>simp;grind
 grind[li]
def Te{l:kK}(h:zg l){c:ae}{p:KV}:p∈ux l v c K↔(p.1≠v/\p∈l)\/(K=bj/\p=(v,c)):=by
 rw[Oq h];simp only[aG,dY];constructor;rintro((⟨a,b⟩|a)|⟨a,b⟩);exact .inl ⟨nY b,a⟩;(grind);exact .inl ⟨λe=>nY b e.symm,a⟩;grind[nR]
def zg.ext{l m:kK}(i:zg l)(k:zg m)(e:∀x,x∈l↔x∈m):l=m:=by
 induction l generalizing m with
 |nil=>
  cases m with
  |nil=>rfl
  |cons a r=>exact absurd ((e a).2<|by simp)<|by simp
 |cons x r f=>
  cases m with
  |nil=>exact absurd ((e x).1<|by simp)<|by simp
  |cons a s=>
   obtain⟨j,c⟩:=bA.1 i;obtain⟨n,g⟩:=bA.1 k;have b:x=a:=by
    rcases bR.1 ((e x).1<|by simp)with p|p
    .exact p
    .rcases bR.1 ((e a).2<|by simp)with q|q
     .exact q.symm
     grind[lj]
   subst b;congr 1;refine f c g<|λh=>⟨λd=>?_,λd=>?_⟩
   .grind[mem_cons_of_mem,fN]
   grind[mem_cons_of_mem,fN]
def tj(a:dJ)(l:kK):Prop:=zg l/\∀k v,(k,v)∈l↔seen a k=H v
def tj.congr{a:dJ}{b:kK}(h:tj l b)(e:∀k,seen a k=seen l k):tj a b:=⟨h.1,λk v=>by rw[e k];exact h.2 k v⟩
def Uu(h:∀r∈l,r=[]):tj l []:=by
 refine⟨List.Pairwise.nil,λk v=>?_⟩;have:ri l k=none:=by unfold ri;rw[List.findSome?_eq_none_iff];intro r a;rw[h r a];rfl
 simp[seen,this]
def Ut{d:kK}(c:vW e)(h:tj (e::l) d)(b:E):tj (sF e b::l) (ux d b.key b.val b.del):=by
 refine⟨Su h.1 _ _ _,λk v=>?_⟩;rw[Te h.1];simp only;have a:seen (sF e b::l) k=if k=b.key then(if b.del then none else H b.val)else seen (e::l) k:=by unfold seen;rw[pM,pM,Li c];grind
 rw[a,h.2 k v];by_cases f:k=b.key;rw[dV f];grind
 grind
def Rw{c:kK}(h:tj l c)(k:ae):lZ c k=match seen l k with|some v=>(v,ci)|none=>(⟨#[]⟩,bj):=by
 have a:∀m:kK,(∀p∈m,p∈c)->(∀v,seen l k=H v->(k,v)∈m)->lZ m k=match seen l k with|some v=>(v,ci)|none=>(⟨#[]⟩,bj):=by
  intro m;induction m with
  |nil=>
   intro _ d;cases hs:seen l k with
   |none=>rfl
   |some v=>grind
  |cons p r f=>
   intro e d;unfold lZ;split
   .rename_i b;have:seen l k=H p.2:=(h.2 k p.2).1 (by rw[<-b];grind);rw[this]
   grind
 exact a c (λp b=>b)<|λv d=>(h.2 k v).2 d
def xZ(e:E):KV:=(e.key,e.val)
def Rv{q:kK}(o:tj l q)(j:∀k i,ri l k=H i->i.key=k)(h:ae)(m:vW e)(g:∀x,x∈e↔ri l x.key=H x/\iX x.key h=bj):(e.filter<|λi=>!i.del).map xZ=q.filter (λp=>Mc p.1 h):=by
 refine zg.ext ?_ (kV eS o.1)<|λp=>?_;unfold zg;rw[jX];exact m.sub eS
 .obtain⟨k,v⟩:=p;simp only[bM,dY,Ah];rw[o.2 k v];constructor
  .rintro⟨x,⟨n,b⟩,c⟩;obtain⟨a,d⟩:=(g x).1 n;simp only[xZ,iZ]at c;obtain⟨rfl,rfl⟩:=c;have f:x.del=bj:=by simpa using b
   exact⟨by simp[seen,a,f],by simp[d]⟩
  .rintro⟨a,d⟩;unfold seen at a;cases hh:ri l k with
   |none=>rw[hh]at a;cases a
   |some x=>
    rw[hh]at a;simp only[Option.bind_some]at a;have c:=j k x hh;cases b:x.del with
    |true=>rw[b]at a;cases a
    |false=>
     rw[b]at a;refine⟨x,⟨(g x).2 ⟨by rw[c];exact hh,by rw[c];simpa using d⟩,by simp[b]⟩,?_⟩;simp only[xZ,iZ];grind
def vC(c:ae)(a:U):kK->kK->kK
 |b,[]=>b
 |b,p::r=>if(!(c.toList==[])&&!iX p.1 c)=ci then b else if((y b:U)+1==a)=ci then b++[p]else vC c a (b++[p]) r
theorem Uz{b:ae}{a r:kK}(h:0<k)(d:k<=y a):r.foldl (iU v b k) a=a:=by
 induction r with
 |nil=>rfl
 |cons p r c=>
  rw[gD];have:iU v b k a p=a:=by
   unfold iU Ac;grind
  rw[this,c]
theorem Xj{b:ae}{a r:kK}(e:(b.toList==[])=bj)(c:∀p∈r,iX p.1 b=bj):r.foldl (iU v b k) a=a:=by
 induction r with
 |nil=>rfl
 |cons p r f=>
  rw[gD];have:iU v b k a p=a:=by
   unfold iU Ac;have d:Op.bytesLess p.1.toList b.toList=bj:=c p (by simp);rw[e,d];simp
  rw[this,f<|λp a=>c p<|by simp[a]]
def VF{b:ae}{m a:kK}(o:zg m)(g:∀p∈m,iX p.1 v=bj)(j:k<=0\/(y a:U)<k):vC b k a m=m.foldl (iU v b k) a:=by
 induction m generalizing a with
 |nil=>rfl
 |cons p t r=>
  obtain⟨s,h⟩:=bA.1 o;have l:Mc p.1 v=ci:=by rw[Ah,g p<|by simp];rfl
  have c:(decide (k<=0)||decide ((y a:U)<k))=ci:=by simpa using j
  unfold vC;split
  .grind[Xj,li]
  .rename_i f;have e:iU v b k a p=a++[p]:=by
    unfold iU Ac;rw[l,c];have:((b.toList==[])||Op.bytesLess p.1.toList b.toList)=ci:=by
     cases d:(b.toList==[])with
     |true=>rfl
     |false=>
      rw[d]at f;show(bj||iX p.1 b)=ci;simpa using f
    rw[this];rfl
   rw[gD,e];split
   .grind[Uz]
   .rename_i i;refine r h (λq n=>g q<|by simp[n]) ?_;grind
def UA(l:kK)(d e:ae)(a:U):Cv l d e a=(l.filter<|λp=>Mc p.1 d).foldl (iU d e a) []:=by
 unfold Cv;generalize([]:kK)=b;induction l generalizing b with
 |nil=>rfl
 |cons p r f=>
  cases c:Mc p.1 d with
  |true=>rw[ik (by simp[c]),gD,gD,f]
  |false=>
   have:iU d e a b p=b:=by unfold iU Ac;rw[c];simp
   rw[fh (by simp[c]),gD,this,f]
def NX{i:kK}(j:tj l i)(g:∀k c,ri l k=H c->c.key=k)(b d:ae)(a:U)(f:vW e)(h:∀x,x∈e↔ri l x.key=H x/\iX x.key b=bj):vC d a [] ((e.filter<|λc=>!c.del).map xZ)=Cv i b d a:=by
 have c:=Rv j g b f h;rw[UA,<-c];refine VF ?_ ?_ ?_;unfold zg;rw[jX];exact f.sub eS;grind[Ah]
 grind
def Vo(n:U)(w:Z):cD aZ 47 #[aq n] w λe a=>e=aJ (aq n)/\a=w:=by
 go_in
 go_wp2;go_ret;simp_all
def Gx(w:Z)(a b:M):(w.drewN a).drewN b=w.drewN (a+b):=by simp_all
def Pg{l m:kK}(a:b<y l)(c:b<y m)(h:l.take b=m.take b)(e:l[b]=m[b]):l.take (b+1)=m.take (b+1):=by
 rw[aj a,aj c,h,e]
def qL{l m:kK}(hx:rJ a d l)(C:rJ a u m)(hl:y l<=1000000000000)(hm:y m<=1000000000000):cD aZ 31 #[d,u] a λad w'=>ad=aJ (aK<|decide<|l=m)/\∃x,w'=a.drewN x:=by
 by_cases e:y l=y m;(.obtain⟨E,⟨rfl,B⟩|⟨ac,b,D,rfl,al,K⟩⟩:=hx;(.obtain rfl:l=[]:=aP B;obtain rfl:m=[]:=aP (by grind);have f:=C.shape;clear C;rcases f with rfl|⟨A,c,g,rfl⟩;(all_goals(go_in);go_wp2;(go_loopw [5] (λV wr=>V=aq 0/\∃x,wr=a.drewN x) (λ_ _=>0));(case atStart=>exact⟨rfl,0,rfl⟩);(case round=>obtain⟨rfl,x,rfl⟩:=hrel;go_wp2;go_ret;exact⟨rfl,x,rfl⟩)));(.obtain⟨F,⟨rfl,B⟩|⟨A,c,g,rfl,aa,s⟩⟩:=C;(.obtain rfl:m=[]:=aP B;obtain rfl:l=[]:=aP (by grind);clear K;(go_in);go_wp2;(go_loopw [5] (λV wr=>V=aq 0/\∃x,wr=a.drewN x) (λ_ _=>0));(case atStart=>exact⟨rfl,0,rfl⟩);(case round=>obtain⟨rfl,x,rfl⟩:=hrel;go_wp2;go_ret;exact⟨rfl,x,rfl⟩));(.have HC:=Y K;have r:=Y s;(have o:((y l:U)!=(y m:U))=bj:=by simp[e]);have f:=Y e;clear K s E F e;(go_in);go_wp2;(go_loopw [5] (λV wr=>∃n:M,n<=y l/\V=aq n/\l.take n=m.take n/\∃x,wr=a.drewN x) (λV _=>y l-(intOf V).toNat));(case atStart=>exact⟨0,bG _,rfl,rfl,0,rfl⟩);(case round=>obtain⟨n,hn,rfl,ht,kk,rfl⟩:=hrel;have HT:=Y ht;clear ht;by_cases t:n<y l;(·(have i:n<y m:=by have:=af f;omega);have L:=rR l n t;have k:=rR m n i;have O:aS a (R ac<|b+n*2)=H (am l[n].1):=HC _ _ L.1;(have P:aS a (R ac<|b+n*2+1)=H (am l[n].2):=by rw[bF];exact HC _ _ L.2);have Q:aS a (R A<|c+n*2)=H (am m[n].1):=r _ _ k.1;(have S:aS a (R A<|c+n*2+1)=H (am m[n].2):=by rw[bF];exact r _ _ k.2);clear L k;(have v:l[n]≠m[n]->decide (l=m)=bj:=λh=>by grind);have HN:=Y v;have HY:=Y<|λad=>Pg t i HT ad;clear v;generalize l[n]=an at*;generalize m[n]=q at*;obtain⟨W,X⟩:=an;obtain⟨qk,qv⟩:=q;simp only at O P Q S;by_cases p:W=qk;(·(have N:(!W.toList==qk.toList)=bj:=by rw[p];simp);by_cases w:X=qv;(·(have T:(X.toList==qv.toList)=ci:=by rw[w];simp);have j:=Y (HY<|by rw[p,w]);clear p w;(go_wp2_with fail);(go_quiet(fail));go_wp2;go_roundw;(case rel=>exact⟨n+1,by omega,by go_num,j,by grind⟩);case measure=>simp[intOf];omega);have T:(X.toList==qv.toList)=bj:=wK w;have j:=Y (HN<|by grind);clear p w;(go_wp2_with fail);(go_quiet(fail));go_wp2;go_ret;exact⟨by rw[af j];rfl,by first|exact⟨_,rfl⟩|exact⟨_,Gx _ _ _⟩⟩);(have N:(!W.toList==qk.toList)=ci:=by rw[wK p];rfl);have j:=Y (HN<|by grind);clear p;(go_wp2_with fail);(go_quiet(fail));go_wp2;go_ret;exact⟨by rw[af j];rfl,by first|exact⟨_,rfl⟩|exact⟨_,Gx _ _ _⟩⟩);have j:=Y (show decide (l=m)=ci by have E:l.take n=l:=dp (by omega);have i:m.take n=m:=dp (by have:=af f;omega);have:=af HT;rw[E,i]at this;grind);go_wp2;go_ret;exact⟨by rw[af j];rfl,by grind⟩))));(have f:decide (l=m)=bj:=by grind);rw[f];clear f;obtain⟨_,⟨rfl,B⟩|⟨ac,b,D,rfl,_,_⟩⟩:=hx<;>obtain⟨_,⟨rfl,i⟩|⟨A,c,g,rfl,_,_⟩⟩:=C;omega;(·(have o:((0:U)!=(y m:U))=ci:=by rw[yB];omega);(go_in);go_wp2;go_ret;exact⟨rfl,0,rfl⟩);(·(have o:((y l:U)!=(0:U))=ci:=by rw[yB];omega);(go_in);go_wp2;go_ret;exact⟨rfl,0,rfl⟩);(have o:((y l:U)!=(y m:U))=ci:=by rw[yB];omega);(go_in);go_wp2;go_ret;exact⟨rfl,0,rfl⟩
def FT(a k:U)(b:0<k)(c:k<=100):0<=wrap64 ((IntKind.u64.wrap a).tmod k)/\wrap64 ((IntKind.u64.wrap a).tmod k)<k:=by
 rw[fi,nr<|rq _<|by decide];have d:=rq (a%18446744073709551616) (show k≠0 by omega);have f:=Int.emod_lt_of_pos (a%18446744073709551616) b;generalize a%18446744073709551616%k=x at*;have e:wrap64 x=x:=by unfold wrap64;omega
 rw[e];grind
def Zh(a k:U):U:=wrap64<|(IntKind.u64.wrap a).tmod k
def zy{P:Program}{k:Array Oper}{s:Oper}{u:Act}{aa:Act->Z->Prop}{ao:Exit->Act->Z->Prop}{E:Prop}(Q:s.guard=none)(al an:Operand)(B:TypeId)(p:s.op=Op.call {callee:=Callee.builtin Builtin.append,args:=#[al,an],argTypes:=#[B,B]})(b:M)(w:TypeId)(x:TypeInfo)(i:ab)(c bytes:M)(X:P.underlying B=H (.slice w))(S:P.info? w=H x)(hz:x.zero=H i)(h:x.size=c)(o:x.bytes=bytes)(r:i.cells.size=c)(q:0<c)(D:ab)(A:M)(t:iF)(W:u.eval al=D)(j:a.ownsRow b w c D A t)(n:Addr)(v ac:M)(d:iF)(hx:u.eval an=J (H n) v ac)(T:y d=v*c)(g:∀ad C,d[ad]?=H C->aS a (n.add ad)=H C)(F:∀C∈d,C.oneCell'=ci)(hn:A+v<=140737488355328)(e:(A+v)*bytes<=140737488355328)(f:b<=z (G a))(O:∀l m,m.ownsRow b w c l (A+v) (t++d)->eC a m D l->aa (u.put s.dst l) m):if Region.wanted s (yielded k u.tmps)=ci then Oper.wp P s u a aa ao else E:=by
 have hw:Region.wanted s (yielded k u.tmps)=ci:=by simp[Region.wanted,Q]
 rw[dV hw];obtain⟨l,m,V,K,L,_,N⟩:=mX (P:=P) a b B s.type w x i c bytes X S hz h o r q D A t j n v ac d T g F (by unfold maxLen;omega) e f;unfold Oper.wp;simp[execOp,p,resolve,invoke,builtin,W,hx,V,Result.andThen];exact O l m K<|eC.of L N
def Ns:(prog.info? 99).map (λi=>(i.zero,i.size,i.bytes))=H (H<|dD #[am ⟨#[]⟩,am ⟨#[]⟩,aK bj],3,40):=by kernel_rfl
def LU(w:Z)(a:M)(o:ab)(l:pS):Prop:=w.ownsRow a 99 3 o (y l)<|iE l
def Oc(w:Z)(x a b:ab)(t:TypeId):∀j u,[x,a,b][j]?=H u->aS (cG w<|ay #[x,a,b] t) (((R (z<|G w) 0):Addr).add j)=H u:=by
 intro j u c;rw[dt];simp_all
def Jo(l:pS)(A b p:M)(w:Z)(W:y l<=1000000000000)(q:A<z (G w))(B:∀Q S,(iE l)[Q]?=H S->aS w (R A<|b+Q)=H S):cD aZ 45 #[aY A b (y l) p] w λV D=>∃C,V=aJ C/\LU D (z<|G w) C l/\Below (z<|G w) w D:=by
 obtain⟨P,r,u,v,x⟩:=cU Ns;have k:=Y B;clear B;go_in
 go_wp2;go_loopw [3,4] (λo i wr=>∃n:M,n<=y l/\i=aq n/\LU wr (z<|G w) o (l.take n)/\Below (z<|G w) w wr) (λ_ i _=>y l-(intOf i).toNat)
 case atStart=>exact⟨0,bG _,rfl,cO _ _ _ _,Below.refl _ _⟩
 (case round=>obtain⟨n,K,rfl,c,a⟩:=hrel;have t:z (G w)<=z (G wr):=a.size;by_cases g:n<y l;(.have j:=kJ l n g;have L:aS wr (R A<|b+n*3)=H (am l[n].key):=(a.cell<|by exact q).trans<|k _ _ j.1;have N:aS wr (R A<|b+n*3+1)=H (am l[n].val):=(a.cell<|by exact q).trans (by rw[bF];exact k _ _ j.2.1);have O:aS wr (R A<|b+n*3+2)=H (aK l[n].del):=(a.cell<|by exact q).trans (by rw[bF];exact k _ _ j.2.2);clear j;(have d:wr.ownsRow (z<|G w) 99 3 u3 n (iE<|l.take n):=by have F:wr.ownsRow (z<|G w) 99 3 u3 (y<|l.take n) (iE<|l.take n):=c;rwa[dj,rp K]at F);obtain⟨aa,T,s⟩:=aC d;subst s;have i:=Y d;have E:=Y (show iE (l.take<|n+1)=iE (l.take n)++[am l[n].key,am l[n].val,aK l[n].del]by unfold iE;rw[aj g,fV];simp[rk]);clear d;have HB:=Y a;clear c a;go_wp2;(go_region_law (refine zy rfl (.tmp 11) (.tmp 28) 52 rfl (z<|G w) 99 P (dD #[am ⟨#[]⟩,am ⟨#[]⟩,aK bj]) 3 40 underlying52 r u v x rfl (by decide) (J aa n T) n (iE<|l.take n) (by simp[Act.eval]) (ku (aX i<|ay #[am l[n].key,am l[n].val,aK l[n].del] 99) rfl) (R (z<|G wr) 0) 1 1 [am l[n].key,am l[n].val,aK l[n].del] (by simp[Act.eval]) rfl (Oc _ _ _ _ _) (by simp[Value.oneCell']) (by omega) (by omega) (by simp;omega) ?_;intro X w2 e f;obtain⟨x2,c2,rfl⟩:=aC e;have m:=Y e;have o:=Y f;clear e f));go_wp2;(all_goals go_roundw;(case rel=>exact⟨n+1,by omega,by go_num,by unfold LU;rw[dj,rp (by omega),af E];exact m,nF HB t o (ay #[am l[n].key,am l[n].val,aK l[n].del] 99) rfl<|λb a=>(bK i b a).1⟩);case measure=>simp[intOf];omega));(have d:n=y l:=by omega);subst d;rw[bL]at c;have i:=Y c;have HB:=Y a;clear c a;go_wp2;go_ret;exact⟨_,rfl,i,HB⟩)
theorem Ml(w:Z):cD aZ 45 #[aw] w λe b=>∃a,e=aJ a/\LU b (z<|G w) a []/\Below (z<|G w) w b:=by
 go_in
 go_wp2;go_loopw [3,4] (λo i wr=>i=aq 0/\o=aw/\wr=w) (λ_ _ _=>0)
 case atStart=>grind
 (case round=>obtain⟨rfl,rfl,rfl⟩:=hrel;go_wp2;go_ret;exact⟨_,rfl,cO _ _ _ _,Below.refl _ _⟩)
def Mm(l:pS)(v:ab)(w:Z)(g:y l<=1000000000000)(h:EO w v l)(e:∀k,cz v=H k->k<z (G w)):cD aZ 45 #[v] w λj d=>∃c,j=aJ c/\LU d (z<|G w) c l/\Below (z<|G w) w d:=by
 obtain⟨_,⟨rfl,m⟩|⟨i,a,b,rfl,_,f⟩⟩:=h;grind[eq_nil_of_length_eq_zero,Ml]
 exact Jo l i a b w g (e i rfl) f
theorem eF:(∀(l:iF)(i:M)(x:ab),l.toArray.setIfInBounds i x=(l.set i x).toArray)/\(∀(x c:ab)(l:iF),(x::l).set 0 c=c::l)/\∀(x c:ab)(l:iF)(n:M),(x::l).set (n+1) c=x::l.set n c:=⟨λ_ _ _=>by simp,λ_ _ _=>rfl,λ_ _ _ _=>rfl⟩
theorem jx:(∀(l:iF)(i:M)(h:i<l.toArray.size),l.toArray[i]=l[i]'(by simpa using h))/\(∀(x:ab)(l:iF)(i:M)(h:i+1<y (x::l)),(x::l)[i+1]=l[i]'(by simpa using h))/\∀(x:ab)(l:iF)(h:0<y (x::l)),(x::l)[0]=x:=⟨λ_ _ _=>rfl,λ_ _ _ _=>rfl,λ_ _ _=>rfl⟩
section
variable{P:Program}{a:Array Oper}{Q:Exit->Act->Z->Prop}{md:Region.Mode}{S:Z->Prop}
def kP(P:Program)(md:Region.Mode)(a:Array Oper)(Q:Exit->Act->Z->Prop)(S:Z->Prop)(m:M):M->Array Bool->Act->Z->Prop
 |0,b,d,w=>Region.ready md a b=[]/\Q .normal d w
 |fuel+1,b,d,w=>
  (Region.ready md a b=[]->Q .normal d w)/\∀i∈Region.ready md a b,wpOp P a Q i (λe c=>(i≠m->S c)/\kP P md a Q S m fuel (b.setIfInBounds i ci) e c) d w
theorem qK{m:M}:∀(b:M)(c:Array Bool)(i:Act)(w:Z),kP P md a Q S m b c i w->wpAny P md a Q b c i w
 |0,_,_,_,h=>h
 |b+1,_,_,_,h=>⟨h.1,λj f=>xC (λd g e=>qK b _ d g e.2)<|h.2 j f⟩
theorem GP{n L:M}{k K:Oper}{ac:ab}(C:a[n]?=H k)(hm:a[L]?=H K)(X:∃m∈K.after,Region.binds md m=ci/\m.on=n)(g:∀(j:M)(al:Oper)o F,a[j]?=H al->al.op≠ .select o F)(O:∀ad w x,Q (.panic ad) (w.put k.dst ac) x->Q (.panic ad) w x):∀(c:M)(b:Array Bool)(w:Act)(x:Z),(∀j l,a[j]?=H l->j≠n->b.getD j ci=bj->(∀m∈l.after,Region.binds md m=ci->m.on≠n)->k.apart a l=ci)->n∈Region.ready md a b->YieldsIf P a S k ac w->S x->kP P md a Q S L c (b.setIfInBounds n ci) (w.put k.dst ac) x->kP P md a Q S L (c+1) b w x:=by
 intro c;induction c with
 |zero=>
  intro b w x _ i v p e;refine⟨λN=>(by rw[N]at i;cases i),λj u=>?_⟩;by_cases d:j=n
  .subst d;exact v.wpOp C p ⟨λ_=>p,e⟩
  .have:=se u d;rw[e.1]at this;cases this
 |succ c ih=>
  intro b w x f i v p e;refine⟨λN=>(by rw[N]at i;cases i),λj u=>?_⟩;by_cases d:j=n
  .subst d;exact v.wpOp C p ⟨λ_=>p,e⟩
  .have A:=e.2 j<|se u d;obtain⟨r,l,h,q⟩:=xD.1 u;have s:∀m∈l.after,Region.binds md m=ci->m.on≠n:=λm E D B=>by
    have A:=q m E D;have T:=(xD.1 i).1;rw[B]at A;grind
   have h2:=wpOp_putIf h (f j l h d r s) (λo F=>g n k o F C) (λo F=>g j l o F h) O v A;have t:∀E ok,a[E]?=H ok->E≠n->(b.setIfInBounds j ci).getD E ci=bj->(∀m∈ok.after,Region.binds md m=ci->m.on≠n)->k.apart a ok=ci:=λE ok W B c D=>by
    refine f E ok W B ?_ D;by_cases T:j=E
    .grind
    simp_all
   have aa:=se i<|Ne.symm d;have V:j≠L:=λm=>by
    grind
   grind[wpOp_mono,Array.setIfInBounds_comm]
theorem lu{i r:M}{d h:Oper}{v:ab}{c:M}{b:Array Bool}{e:Act}{w:Z}(g:a[i]?=H d)(m:a[r]?=H h)(n:(h.after.any λt=>Region.binds md t&&t.on==i)=ci)(p:Region.noSelect a=ci)(l:Region.free md a b i=ci)(o:(Region.ready md a b).contains i=ci)(j:∀s e w,Q (.panic s) (e.put d.dst v) w->Q (.panic s) e w)(q:YieldsIf P a S d v e)(k:S w)(u:kP P md a Q S r c (b.setIfInBounds i ci) (e.put d.dst v) w):kP P md a Q S r (c+1) b e w:=GP g m (by
 grind) (Region.noSelect_spec p) j c b e w (Region.free_spec g l) (by simpa using o) q k u
theorem bC{i n:M}{o:Oper}{c:M}{b:Array Bool}{j:Act}{w:Z}(l:a[i]?=H o)(k:o.guard=none)(h:Region.ready md a b=[i])(q:∀K:Act->Z->Prop,(∀d w',(i≠n->S w')->kP P md a Q S n c (b.setIfInBounds i ci) d w'->K d w')->Oper.wp P o j w K Q):kP P md a Q S n (c+1) b j w:=by
 refine⟨λe=>(by rw[h]at e;cases e),λp g=>?_⟩;rw[h]at g;obtain rfl:p=i:=by simpa using g
 unfold wpOp;simp only[l];have m:Region.wanted o (yielded a j.tmps)=ci:=by simp[Region.wanted,k]
 rw[dV m];grind
theorem eN{m:M}{b:Array Bool}{e:Act}{w:Z}(d:Region.ready md a b=[])(h:Q .normal e w):∀c,kP P md a Q S m c b e w
 |0=>⟨d,h⟩
 |_+1=>⟨λ_=>h,by rw[d];simp⟩
theorem dL(S:Z->Prop)(m:M){id:M}{c:Act}{w:Z}(b:P.follows .mixedOrders=ci)(h:kP P .any a Q S m a.size (Array.replicate a.size bj) c w.drew):(Code.region id a ci).wp P Q c w:=yh b<|qK _ _ _ _ h
end
section
variable{P:Program}{a:Array Oper}{Q:Exit->Act->Z->Prop}{md:Region.Mode}{S:Z->Prop}
def Na(md:Region.Mode)(a:Array Oper)(b:Array Bool)(m i:M):Bool:=match a[m]? with
 |some c=>(c.after.any λe=>Region.binds md e&&e.on==i)&&Region.noSelect a&&Region.free md a b i&&(Region.ready md a b).contains i
 |none=>bj
def AE(P:Program)(md:Region.Mode)(a:Array Oper)(Q:Exit->Act->Z->Prop)(S:Z->Prop)(m _ c:M)(b:Array Bool)(d:Act)(w:Z):Prop:=kP P md a Q S m c b d w
theorem eR(k:M){m c:M}{b:Array Bool}{d:Act}{w:Z}(h:AE P md a Q S m k c b d w):kP P md a Q S m c b d w:=h
theorem ig{k m c:M}{b:Array Bool}{d:Act}{w:Z}(h:kP P md a Q S m c b d w):AE P md a Q S m k c b d w:=h
theorem zr{k n:M}{e:Oper}{v:ab}{d:M}{b:Array Bool}{g:Act}{w:Z}(i:S w)(j:a[k]?=H e)(c:Na md a b n k=ci)(h:∀o g w,Q (.panic o) (g.put e.dst v) w->Q (.panic o) g w)(m:YieldsIf P a S e v g)(p:AE P md a Q S n (k+1) d (b.setIfInBounds k ci) (g.put e.dst v) w):AE P md a Q S n k (d+1) b g w:=by
 unfold Na at c;split at c;rename_i q l;simp only[lS]at c;exact lu j l c.1.1.1 c.1.1.2 c.1.2 c.2 h m i p;cases c
theorem iC{k m:M}{d:Oper}{v:ab}{c:M}{b:Array Bool}{e:Act}{w:Z}(h:S w)(j:a[k]?=H d)(f:Na md a b m k=ci)(g:∀n e w,Q (.panic n) (e.put d.dst v) w->Q (.panic n) e w)(i:Region.wanted d (yielded a e.tmps)=ci)(l:∀w,S w->(execOp e.eval d).run P w=.ok (.value v) w)(o:AE P md a Q S m (k+1) c (b.setIfInBounds k ci) (e.put d.dst v) w):AE P md a Q S m k (c+1) b e w:=zr h j f g (.inl ⟨i,l⟩) o
end
section
variable{P:Program}{a:Array Oper}{Q:Exit->Act->Z->Prop}{md:Region.Mode}{S:Z->Prop}
theorem sy{i j n:M}{f g:Oper}{c:M}{b:Array Bool}{k:Act}{w:Z}(q:a[i]?=H f)(r:a[j]?=H g)(o:f.guard=none)(p:g.guard=none)(m:Region.ready md a b=[i,j])(s:∀K:Act->Z->Prop,(∀d w',(i≠n->S w')->kP P md a Q S n c (b.setIfInBounds i ci) d w'->K d w')->Oper.wp P f k w K Q)(t:∀K:Act->Z->Prop,(∀d w',(j≠n->S w')->kP P md a Q S n c (b.setIfInBounds j ci) d w'->K d w')->Oper.wp P g k w K Q):kP P md a Q S n (c+1) b k w:=by
 refine⟨λl=>(by rw[m]at l;cases l),λu e=>?_⟩;rw[m]at e;rcases bR.1 e with rfl|e;unfold wpOp;simp only[q];(have h:Region.wanted f (yielded a k.tmps)=ci:=by simp[Region.wanted,o]);rw[dV h];grind
 (obtain rfl:u=j:=by simpa using e);unfold wpOp;simp only[r];(have h:Region.wanted g (yielded a k.tmps)=ci:=by simp[Region.wanted,p]);rw[dV h];grind
theorem tC{α:Type}(g:α->Z->Prop)(A:α->Act)(b:Array Bool)(d:M){m e:M}{c:Array Bool}{i:Act}{w:Z}(f:(∀x W,g x W->kP P md a Q S m d b (A x) W)->kP P md a Q S m e c i w)(h:∀x W,g x W->kP P md a Q S m d b (A x) W):kP P md a Q S m e c i w:=f h
theorem jM{m b:M}{l c:Array Bool}{d:Act}{w:Z}(h:kP P md a Q S m b l d w)(e:l=c):kP P md a Q S m b c d w:=e▸h
end
section
variable{P:Program}{a:Array Oper}{Q:Exit->Act->Z->Prop}{md:Region.Mode}
theorem JH{l n:M}{d:String}{b:Array ab}{w:Z}{c:ab->Z->Prop}(h:Rows P d b w c):RowsIn (Fence.wide.inRound l) n P d b w c:=λg e _=>let⟨v,f,r,s⟩:=h g e;⟨v,f,r,stepsIn_wide.2 s⟩
theorem Oper.Mh{o:Oper}{b:Act}{w:Z}{K:Act->Z->Prop}(l n:M)(d:∀c,o.op≠ .defer c)(h:o.wp P b w K Q):o.wpIn (Fence.wide.inRound l) n P b w K Q:=by
 unfold Oper.wpIn;refine⟨λf _=>trivial,?_⟩;rw[Oper.semAt_plain (Fence.wide.inRound l) _ _ d];unfold Oper.wp at h;generalize(execOp b.eval o).run P w=r at*;cases r with
 |ok x e=>
  cases x<;>simp only[Oper.upon,Oper.uponIn]at h|-<;>first
   |exact h
   |exact⟨(λc=>(by cases c)),CallsIn.inRound l<|dS.2 h⟩
   |exact⟨(λc=>(by cases c)),JH h⟩
   |exact h.elim
 |halt x e=>cases x<;>simp only[Oper.upon,Oper.uponIn]at h|-<;>exact h
theorem yH{l n:M}(k:∀(i:M)(o:Oper)c,a[i]?=H o->o.op≠ .defer c)(j:¬LetsOut Q):∀(b:M)(d:Array Bool)(p:Act)(w:Z),wpAny P md a Q b d p w->wpAnyIn (Fence.wide.inRound l) n P md a Q b d p w
 |0,_,_,_,h=>h
 |b+1,_,_,_,h=>⟨h.1,λi m=>by
  have e:=xC (λf o g=>yH (l:=l) (n:=n) k j b _ f o g)<|h.2 i m;unfold wpOp at e;unfold wpOpIn;cases ho:a[i]? with
  |none=>grind
  |some o=>
   simp only[ho]at e|-;split
   .rename_i f;simp only[f,lk]at e;grind[Oper.Mh]
   .rename_i f;simp only[f]at e;exact⟨λ_ _=>trivial,e⟩⟩
def Hp(a:Array Oper):Bool:=a.all λo=>match o.op with| .defer _=>bj|_=>ci
theorem zP(h:Hp a=ci):∀(i:M)(o:Oper)d,a[i]?=H o->o.op≠ .defer d:=by
 intro i o d c e;obtain⟨b,rfl⟩:=nu.1 c;have:=Array.all_eq_true.1 h i b;rw[e]at this;cases this
theorem tB(S:Z->Prop)(m:M){l n id:M}{b:Act}{w:Z}(e:P.follows .mixedOrders=ci)(d:Hp a=ci)(c:∀b w,¬Q .outgrown b w)(h:kP P .any a Q S m a.size (Array.replicate a.size bj) b w.drew):(Code.region id a ci).wpIn (Fence.wide.inRound l) n P Q b w:=wpIn_region_any e<|yH (zP d) (λ⟨b,w,h⟩=>c b w h) _ _ _ _<|qK _ _ _ _ h
end
def AD{P:Program}{r n id:M}{Q:Exit->Act->Z->Prop}{c:Act}{l:cS Oper}(j:P.follows .mixedOrders=ci)(f:Region.lexB .any l.toArray=ci)(i:Hp l.toArray=ci)(g:∀c a,¬Q .outgrown c a)(h:wpQuiet P l.toArray (λb=>∃n,b=a.drewN n) (λd=>∀b,(∃n,b=a.drewN n)->Q .normal d b) l c):(Code.region id l.toArray ci).wpIn (Fence.wide.inRound r) n P Q c a:=by
 simp only[Region.lexB,lS]at f;refine wpIn_region_any j<|yH (zP i) (λ⟨c,a,h⟩=>g c a h) _ _ _ _<|wpAny_of_quiet (C:=λb=>∃n,b=a.drewN n) (Q:=λd=>∀b,(∃n,b=a.drewN n)->Q .normal d b) (λ_ b e h=>h b e) _ _ _ _ ⟨1,rfl⟩ ?_;have:=wpAnyQ_lex (C:=λb=>∃n,b=a.drewN n) (md:=.any) f.1 l 0 (Array.replicate l.toArray.size bj) c (by simp) (by grind) h;grind
def Jw:∀{l m:cI},dK l->dK m->l.Perm m->l=m
 |[],m,_,_,h=>(List.nil_perm.1 h).symm
 |a::l,[],_,_,h=>by have:=h.length_eq;simp at this
 |a::l,i::m,d,e,h=>by
  obtain⟨k,b⟩:=bA.1 d;obtain⟨n,c⟩:=bA.1 e;have j:a=i:=by
   rcases bR.1 (h.mem_iff.1<|mr ..)with f|f
   .exact f
   .rcases bR.1 (h.mem_iff.2<|mr ..)with g|g
    .exact g.symm
    grind[lA]
  subst j;rw[Jw b c<|(List.perm_cons a).1 h]
def sJ{a:dJ}(b:∀r∈l,dK r)(d:jL l)(e:a.Perm l):cL a=cL l:=by
 have h:∀r∈a,dK r:=λr c=>b r<|e.mem_iff.1 c;have c:a.flatten.Perm l.flatten:=e.flatten;have f:=BX a h;have g:IW (cL a):=(((eH a).trans c).pairwise_iff<|λ{i j}q e=>q ⟨e.1.symm,e.2.symm⟩).2<|zR b d;exact Jw (List.Pairwise.imp₂ (λi j q k=>xX q k) f g) (oF b d)<|((eH a).trans c).trans (eH l).symm
def BW{c:dJ}(f:∀r∈l,dK r)(d:jL l)(e:c.Perm l)(b:dN)(a:Bool):gK b a c=gK b a l:=by
 unfold gK;rw[sJ f d e]
def Rf(l s:cI)(k:ae):ni (l++s) k=(ni l k).or (ni s k):=List.find?_append
def QF{j f W g O:cI}(F:AA [N,W] [O] l)(w:∀a∈e,∀k∈N,a.key≠k.key)(x:∀a∈N,∀k∈j,a.key≠k.key)(A:∀a∈f,∀k∈N,a.key≠k.key)(B:∀a∈N,∀k∈g,a.key≠k.key)(C:∀a∈f,∀k∈W,a.key≠k.key)(D:∀a∈W,∀k∈g,a.key≠k.key):AA [e++N++j,f++W++g] [e++j,f++O++g] l:=by
 intro o;have c:=F o;simp only[pM,xR,sh,Rf]at c|-;have n:∀{r:cI}{d:E},ni r o=H d->d∈r/\d.key=o:=λ{r d}v=>⟨la v,by simpa using vM v⟩;have i:∀{r:cI}{d:E},(∀a∈r,a.key≠d.key)->d.key=o->ni r o=none:=λ{r d}v q=>oH.2<|λa b p=>v a b<|p.trans q.symm;cases ht:ni N o with
 |some d=>
  obtain⟨m,h⟩:=n ht;rw[i (λa b=>w a b d m) h,@i j _ (λa b p=>x d m a b p.symm) h,@i f _ (λa b=>A a b d m) h,@i g _ (λa b p=>B d m a b p.symm) h];rw[ht]at c;simpa using c
 |none=>
  rw[ht]at c;simp only[lO,sh]at c|-;rcases c with c|⟨m,h,d,s,K⟩
  .left;rw[c]
  .obtain⟨t,u⟩:=n s;rw[@i f _ (λa b=>C a b d t) u,@i g _ (λa b p=>D d t a b p.symm) u,h,s];cases hx:(ni e o).or (ni j o)with
   |some L=>left;simp
   |none=>grind
def yE{A:dJ}{b:cI}{ms:dN}{lowest:Bool}(g:∀r∈A,gJ r)(f:gJ b)(a:jL (A.reverse++[b])):dK (cL<|b::A)/\dK (gK ms lowest<|b::A)/\∀(t:U)(D:dJ),(t∈ms\/∀x∈(A.reverse++[b]).flatten,x.bJ<=t)->(lowest=ci->∀k,ri (D.map<|jO t) k=none)->AA ((A.reverse++[b]).map<|jO t) [jO t<|gK ms lowest<|b::A] (D.map<|jO t):=by
 have c:∀r∈A.reverse++[b],gJ r:=by grind
 have d:(b::A).Perm (A.reverse++[b]):=((List.perm_append_singleton b A.reverse).trans<|(tv A).cons b).symm;rw[sJ (λr h=>(c r h).mh) a d,BW (λr h=>(c r h).mh) a d];exact⟨oF (λr h=>(c r h).mh) a,(DS c a ms lowest).mh,λt D e d=>zT c a e d⟩
def ED{c:cI}(i:gJ (e++N++c))(d:∀x∈e,∀a∈N,x.key≠a.key)(f:∀x∈e,∀a∈c,x.key≠a.key)(g:∀x∈N,∀a∈c,x.key≠a.key)(t:U):jO t (e++N++c)=jO t e++jO t N++jO t c:=by
 rw[Bx i (λx h a b=>(aG.1 h).elim (λq=>f x q a b)<|λq=>g x q a b) t,Bx (i.sub<|oh _ _) d t]
def Qf{k d W f:cI}{ms:dN}{lowest:Bool}(r:gJ (e++N++k))(m:gJ (d++W++f))(t:Over (e++N++k) (d++W++f))(E:gS e N)(x2:gS e k)(F:gS N k)(K:gS d W)(L:gS d f)(O:gS W f)(Q:gS d N)(S:gS N f):dK (cL [W,N])/\gJ (d++gK ms lowest [W,N]++f)/\gS d (gK ms lowest [W,N])/\gS (gK ms lowest [W,N]) f/\Over (e++k) (d++gK ms lowest [W,N]++f)/\∀(h:U)(aa:dJ),(h∈ms\/∀x∈N++W,x.bJ<=h)->(lowest=ci->∀ac,ri (aa.map<|jO h) ac=none)->AA [jO h<|e++N++k,jO h<|d++W++f] [jO h<|e++k,jO h<|d++gK ms lowest [W,N]++f] (aa.map<|jO h):=by
 have u:gJ N:=r.sub (by simp);have X:gJ W:=m.sub (by simp);have hX:gJ (e++k):=r.sub (by simp);have p:∀D∈[N,W],gJ D:=by grind
 have o:jL [N,W]:=by unfold jL;simp only[bA,bR,gW,oe,forall_eq,List.Pairwise.nil,vZ,false_implies,implies_true];exactλc a h g=>t c (by simp[a]) h<|by simp[g]
 have hp:([W,N]:dJ).Perm [N,W]:=List.Perm.swap _ _ _;have em:=sJ (λD A=>(p D A).mh) o hp;have eo:=BW (λD A=>(p D A).mh) o hp ms lowest;have V:=DS p o ms lowest;have i:∀x∈gK ms lowest [N,W],x∈N\/x∈W:=λx s=>by simpa using yV ms lowest [N,W] x s
 rw[em,eo];have v:gS d (gK ms lowest [N,W]):=λc a h g=>(i h g).elim (Q c a h)<|K c a h;have w:gS (gK ms lowest [N,W]) f:=λc a h g=>(i c a).elim (λq=>S c q h g)<|λq=>O c q h g;have T:gJ (d++gK ms lowest [N,W]++f):=by refine⟨bP.2 ⟨bP.2 ⟨m.mh.sub (by simp),V.mh,λc a h g=>jo.2<|.inl<|v c a h g⟩,m.mh.sub (by simp),λc a h g=>jo.2<|.inl<|(aG.1 a).elim (λq=>L c q h g)<|λq=>w c q h g⟩,λP l=>?_⟩;rcases aG.1 l with l|l;rcases aG.1 l with l|l;exact m.key P (by simp[l]);exact V.key P l;exact m.key P<|by simp[l]
 refine⟨oF (λD A=>(p D A).mh) o,T,v,w,?_,λh aa g hD=>?_⟩;intro c a j b n;(have l:c∈e++N++k:=by grind);have B:∀b∈N,c.key≠b.key:=λb d=>(aG.1 a).elim (λq=>nY<|E c q b d)<|λq P=>nY (F b d c q) P.symm;rcases aG.1 b with b|b;rcases aG.1 b with b|b;exact t c l j (by simp[b]) n;rcases i j b with q|q;(grind);exact t c l j (by simp[q]) n;exact t c l j (by simp[b]) n;rw[ED r E.ne x2.ne F.ne,ED m K.ne L.ne O.ne,Bx hX x2.ne,ED T v.ne L.ne w.ne];have sub:∀{l:cI},gJ l->∀x∈jO h l,x∈l:=λA x s=>ze A s;have B:gJ e:=r.sub (by simp);have C:gJ k:=r.sub (by simp);have l:gJ d:=m.sub (by simp);have n:gJ f:=m.sub (by simp);refine QF ?_ (λc a j b=>E.ne c (sub B c a) j<|sub u j b) (λc a j b=>F.ne c (sub u c a) j<|sub C j b) (λc a j b=>Q.ne c (sub l c a) j<|sub u j b) (λc a j b=>S.ne c (sub u c a) j<|sub n j b) (λc a j b=>K.ne c (sub l c a) j<|sub X j b)<|λc a j b=>O.ne c (sub X c a) j<|sub n j b;exact zT p o (g.imp_right<|λq x s=>q x<|by simpa using s) hD
section
open Conc.Locks
def WU:MuLink where
 lock:=33
 unlock:=34
 ilock:=68
 iunlock:=69
 lockSlow:=120
 unlockSlow:=123
 disable:=116
 enable:=118
 acquire:=119
 relMerge:=121
 cas32:=117
 add32:=122
 tMutex:=86
 tIMutex:=84
 tPMutex:=159
 tPIMutex:=228
 tPI32:=230
 tUP:=145
 tNoCopy:=81
 tU32:=82
def Wn:MuLib aZ WU:=by
 constructor<;>first|kernel_rfl|(intro w;kernel_rfl)
def lock_free(a:Addr)(w:Z)(b:aS w a=H (lU 0))(c:w.frozen? a=bj):cD aZ 33 #[dF<|H a] w λe d=>e=aJ (dd #[])/\d=cA w a (lU 1):=MuLone.lock_free Wn a w b c
def unlock_deferred(a:Addr)(u:FrameMode)(w:Z)(b:aS w a=H (lU 1))(c:w.frozen? a=bj):CallsD aZ 34 #[dF<|H a] u w λf d e=>d=u/\(f=aJ (dd #[])/\e=cA w a (lU 0)):=MuLone.unlock_deferred Wn a u w b c
end
