import Derived.BigQuiet
import Derived.Conc.MuLone
import Derived.Deep.QuietTactic
import Derived.Deep.RegionHeld3
import Derived.Deep.RegionLawGrows
import Derived.Deep.RegionWith
import Derived.Defers
import Derived.LaidEql
import Derived.Laws.BitsLemmas
import Derived.Laws.Entries
import Derived.Laws.IdiomStrings
import Derived.Laws.Rows
import Derived.Lib.BufferRead
import Derived.Lib.EndianBits
import Derived.MapKept
import Derived.Maps.RangeWalk
import Derived.OpenShut
import Derived.OrdersHeld
import Derived.OrdersIn
import Derived.Outline
import Derived.OwnWalk
import Derived.OwnWalkIn
import Derived.RangeFuncCalls
import Derived.RowKitTokens
import Derived.Shelf.Abstract
import Derived.Stop.Asserts
import Derived.Test.YtbgjhlkoccmfaaaGreatDoorChecked
import Derived.WalkLawsBesides
import Derived.Test.YtbgjhlkoccmfaaaGreatDoorC0
open _root_ renaming List.length→y,Option.some→M,Array.size→G,Go.World.heap→H,Go.Value.ownBlock→cN,Go.World.cell?→bA,Go.World.setCell→cP,Go.World.alloc→dw,Bool.false→bD,Bool.true→cz,Nat→R,Int→Y,List→cy,Go.Calls→cR,Go.undef→jn,Go.Proofs.Tryz.prog→bN,Go.Value.slice→am,Go.Value.string→aw,Go.Value.bool→aO,Go.Value.pointer→ee,Go.Value.tuple→de,Go.Value.agg→ef,Go.World.frozen?→iI,Go.World.ownsRow→fE,Go.Value.nilIface→ic,Go.RowKit.Below→gD,Bool→eN,Option.none→dE,rfl→z,Or.inl→J,Or.inr→bu
namespace Go.Proofs.YtbgjhlkoccmfaaaGreatDoor
open ChangeShapes WideShapes RowKit Proofs.Tryz List
set_option maxHeartbeats 16000000
set_option linter.all false
set_option maxRecDepth 100000
variable{a e P:Z}{b c k n:R}{d w:ae}{m:eD}{W:fC}{r:Y}{B:af}{Q:iF}{V:eN}
abbrev KV:=af×af
abbrev kW:=cy KV
def sg(p:KV):iF:=[aw p.1,aw p.2]
def iS(l:cy KV):iF:=l.flatMap sg
def pY(l:cy KV)(i:R)(h:i<y l):(iS l)[i*2]?=M (aw l[i].1)/\(iS l)[i*2+1]?=M (aw l[i].2):=by
 induction l generalizing i with
 |nil=>simp at h
 |cons p r a=>
  cases i with
  |zero=>simp[iS,sg]
  |succ i=>
   have:=a i<|dV h;rw[(U:(i+1)*2=i*2+2)];simpa[iS,sg]using this
def Row(w:Z)(c:R)(v:ae)(n:R)(d:iF):Prop:=y d=n*c/\((v=aF/\n=0)\/∃e a b,v=bX e a n b/\n<=b/\∀j u,d[j]?=M u->bA w (X e<|a+j)=M u)
def mF(w:Z)(v:ae)(l:cy KV):Prop:=Row w 2 v (y l)<|iS l
def Ho:(prog.info? 227).map (λi=>(i.zero,i.size,i.bytes))=M (M<|ef #[aw ⟨#[]⟩,aw ⟨#[]⟩],2,32):=aH
theorem toList_inj{b:af}(h:B.toList=b.toList):B=b:=by
 rw[uq,uq]at h;exact bytes_inj h
def BI{b:af}(h:¬B=b):(B.toList==b.toList)=bD:=by
 rw[nE];grind[toList_inj]
def QG(a k:af):eN:=!Op.bytesLess a.toList k.toList
def kB(k v:af)(a:cy KV×eN)(p:KV):cy KV×eN:=let b:=if !a.2&&QG p.1 k then a.1++[(k,v)]else a.1;(if p.1=k then b else b++[p],a.2||QG p.1 k)
def tN(k v:af)(d:eN)(l:cy KV):cy KV×eN:=l.foldl (kB k v) ([],d)
def NC(l:cy KV)(k v:af)(d:eN):cy KV:=if(tN k v d l).2 then(tN k v d l).1 else(tN k v d l).1++[(k,v)]
def Rr(k v:af)(d:eN)(l:cy KV)(n:R)(h:n<y l):tN k v d (l.take<|n+1)=kB k v (tN k v d<|l.take n) l[n]:=by
 unfold tN;rw[aG h,jS];rfl
theorem Gm(k v:af)(a:cy KV×eN)(p:KV):y (kB k v a p).1<=y a.1+2:=by
 unfold kB;grind
def UI{v b c:af}{a:cy KV}(h:b=B):kB B v (a,cz) (b,c)=(a,cz):=by simp[kB,h]
def UH{v b c:af}{a:cy KV}(h:¬b=B):kB B v (a,cz) (b,c)=(a++[(b,c)],cz):=by simp[kB,h]
def UM{v b c:af}{a:cy KV}(d:Op.bytesLess b.toList B.toList=cz)(h:b=B):kB B v (a,bD) (b,c)=(a,bD):=by
 unfold kB QG;grind
def UL{v b c:af}{a:cy KV}(d:Op.bytesLess b.toList B.toList=cz)(h:¬b=B):kB B v (a,bD) (b,c)=(a++[(b,c)],bD):=by
 unfold kB QG;grind
def UO{v b c:af}{a:cy KV}(d:Op.bytesLess b.toList B.toList=bD)(h:b=B):kB B v (a,bD) (b,c)=(a++[(B,v)],cz):=by
 unfold kB QG;grind
def UN{v b c:af}{a:cy KV}(d:Op.bytesLess b.toList B.toList=bD)(h:¬b=B):kB B v (a,bD) (b,c)=(a++[(B,v)]++[(b,c)],cz):=by
 unfold kB QG;grind
def KU(k v:af)(d:eN)(l:cy KV):y (tN k v d l).1<=2*y l:=by
 unfold tN
 have:∀(l:cy KV)(a:cy KV×eN),y (l.foldl (kB k v) a).1<=y a.1+2*y l:=by
  intro l;induction l with
  |nil=>intro a;simp
  |cons p r b=>grind[length_cons,Gm]
 grind
def ki(a b:cy KV):iS (a++b)=iS a++iS b:=by simp[iS]
def ku(h:fE a b c k d n Q)(f:e.heap=a.heap):fE e b c k d n Q:=by
 unfold World.ownsRow at*;rwa[f]
def lI{i wr W c:Z}(f:gD b i wr)(a:b<=G (H wr))(h:fo W c d w)(O:Obj)(e:(W.os,W.tape,W.output,W.heap)=((dw wr O).os,(dw wr O).tape,(dw wr O).output,(dw wr O).heap))(g:∀k,cN d=M k->b<=k):gD b i c:=(Below.of_heap (f.alloc a O) e).grown h.dF (by simp only[jt]at e;rw[e.2.2.2];simp;omega) g
def qE(w:Z)(a:R)(o:ae)(l:cy KV):Prop:=fE w a 227 2 o (y l)<|iS l
def qE.of{w:Z}{l:cy KV}(h:fE w b 227 2 d c Q)(a:c=y l)(e:Q=iS l):qE w b d l:=by subst a;subst e;exact h
def nr(w:Z)(x a:ae)(t:TypeId):∀j u,[x,a][j]?=M u->bA (dw w<|aK #[x,a] t) (((X (G<|H w) 0):Addr).add j)=M u:=by
 intro j u b;rw[dS];simp_all
def Yd(o:cy KV)(ab c ac:R)(k v:af)(L:eN)(w:Z)(hr:y o<=1000000000000)(hc:∀g,g<y o->bA w (X ab<|c+g*2)=M (aw (o[g]?.getD (⟨#[]⟩,⟨#[]⟩)).1)/\bA w (X ab<|c+g*2+1)=M (aw (o[g]?.getD (⟨#[]⟩,⟨#[]⟩)).2))(hb:ab<G (H w)):cR bN 141 #[bX ab c (y o) ac,ef #[aw k,aw v,aO L]] w λan w'=>∃v',an=aN v'/\qE w' (G (H w)+1) v' (NC o k v L)/\gD (G<|H w) w w':=by
 let⟨i0,T,t,u,x⟩:=cZ Ho;go_in
 go_wp2;go_loopw [5,6,7] (λa ad g wr=>∃(n:R),n<=y o/\g=ay n/\ad=aO (tN k v L<|o.take n).2/\qE wr (G (H w)+1) a (tN k v L<|o.take n).1/\gD (G (H w)+1) (dw w<|aK #[aw k,aw v,aO L] 201) wr) (λ_ _ g _=>y o-(intOf g).toNat)
 exact⟨0,bQ _,z,z,ct _ _ _ _,Below.refl _ _⟩
 .obtain⟨n,hn,rfl,rfl,b,a⟩:=hrel;have:bA wr (X (G<|H w) 0)=M (aw k):=by rw[a.cell ar];simp
  have:bA wr (X (G<|H w) 1)=M (aw v):=by rw[a.cell ar];simp
  have p:y (tN k v L<|o.take n).1<=2*n:=zZ<|KU k v L<|o.take n;have E:G (H w)+1<=G (H wr):=by have:=a.size;simp_all
  by_cases D:n<y o
  .have V:bA wr (X ab<|c+n*2)=M (aw (o[n]?.getD (⟨#[]⟩,⟨#[]⟩)).1):=by rw[a.cell dW,gQ hb];exact(hc n D).1
   have W:bA wr (X ab<|c+n*2+1)=M (aw (o[n]?.getD (⟨#[]⟩,⟨#[]⟩)).2):=by rw[a.cell dW,gQ hb];exact(hc n D).2
   have P:=ak<|Rr k v L o n D;generalize tN k v L (o.take n)=A at*;let⟨O,q⟩:=A;rw[(by simp[D]:o[n]?.getD (⟨#[]⟩,⟨#[]⟩)=o[n])]at V W;generalize o[n]=ad at*;let⟨f,B⟩:=ad;simp only at V W p;cases q with
   |true=>
    go_wp21;go_quiet(fail)
    go_wp21;by_cases m:f=k
    .have C:(f.toList==k.toList)=cz:=by rw[m];simp
     have i:=ak<|P.trans<|UI m;go_quiet(fail)
     go_wp2;go_roundw
     .exact⟨n+1,U,dM,by rw[ag i],ag i▸ku b rfl,Below.of_heap a rfl⟩
     .simp[intOf];omega
    .have C:(f.toList==k.toList)=bD:=BI m;have i:=ak<|P.trans<|UH m;go_quiet(fail)
     go_wp2_with(first
      |(at_builtin;refine cq _ z (.tmp 44) (.tmp 49) 51 z (G (H w)+1) 227 i0 (.agg #[.string ⟨#[]⟩,.string ⟨#[]⟩]) 2 32 underlying51 T t u x z cg _ _ _ z (ku (bC b (.cells #[.string f,.string B] 227)) ?chT) (X (G (H wr)) 0) 1 1 [.string f,.string B] z z ?c1T ?c2T ?c3T ?c4T ?c5T ?_))
     .rfl
     .exact nr _ _ _ _
     .intro al r;simp at r;obtain rfl|rfl:=r<;>rfl
     .first|omega|(simp;omega)
     .first|omega|(simp;omega)
     .simp;omega
     intro o2 Q e j;go_wp2;go_roundw
     .exact⟨n+1,U,dM,by rw[ag i],ag i▸qE.of e ar (by simp[ki];rfl),lI a E j (aK #[aw f,aw B] 227) z<|λF g=>(aS b F g).1⟩
     .simp[intOf];omega
   |false=>
    by_cases hL:Op.bytesLess f.toList k.toList=cz
    .have d:=ak hL;go_wp21;go_quiet(fail)
     go_wp21;by_cases m:f=k
     .have C:(f.toList==k.toList)=cz:=by rw[m];simp
      have i:=ak<|P.trans<|UM d m;go_quiet(fail)
      go_wp2;go_roundw
      .exact⟨n+1,U,dM,by rw[ag i],ag i▸ku b rfl,Below.of_heap a rfl⟩
      .simp[intOf];omega
     .have C:(f.toList==k.toList)=bD:=BI m;have i:=ak<|P.trans<|UL d m;go_quiet(fail)
      go_wp2_with(first
       |(at_builtin;refine cq _ z (.tmp 44) (.tmp 49) 51 z (G (H w)+1) 227 i0 (.agg #[.string ⟨#[]⟩,.string ⟨#[]⟩]) 2 32 underlying51 T t u x z cg _ _ _ z (ku (bC b (.cells #[.string f,.string B] 227)) ?chL) (X (G (H wr)) 0) 1 1 [.string f,.string B] z z ?c1L ?c2L ?c3L ?c4L ?c5L ?_))
      .rfl
      .exact nr _ _ _ _
      .intro al r;simp at r;obtain rfl|rfl:=r<;>rfl
      .first|omega|(simp;omega)
      .first|omega|(simp;omega)
      .simp;omega
      intro o2 Q e j;go_wp2;go_roundw
      .exact⟨n+1,U,dM,by rw[ag i],ag i▸qE.of e ar (by simp[ki];rfl),lI a E j (aK #[aw f,aw B] 227) z<|λF g=>(aS b F g).1⟩
      .simp[intOf];omega
    .have S:Op.bytesLess f.toList k.toList=bD:=dV hL;go_wp21;go_quiet(fail)
     go_wp2_with(first
      |(at_builtin;refine cq _ z (.tmp 28) (.tmp 34) 51 z (G (H w)+1) 227 i0 (.agg #[.string ⟨#[]⟩,.string ⟨#[]⟩]) 2 32 underlying51 T t u x z cg _ _ _ z (ku (bC b (.cells #[.string k,.string v] 227)) ?chY) (X (G (H wr)) 0) 1 1 [.string k,.string v] z z ?c1Y ?c2Y ?c3Y ?c4Y ?c5Y ?_))
     .rfl
     .exact nr _ _ _ _
     .intro al r;simp at r;obtain rfl|rfl:=r<;>rfl
     .first|omega|(simp;omega)
     .first|omega|(simp;omega)
     .simp;omega
     intro o1 K l s;have d:gD (G (H w)+1) (dw w<|aK #[aw k,aw v,aO L] 201) K:=lI a E s (aK #[aw k,aw v] 227) z<|λF g=>(aS b F g).1;have:bA K (X (G<|H w) 0)=M (aw k):=by rw[d.cell ar];simp
     have:bA K (X ab<|c+n*2)=M (aw f):=by rwa[d.cell dW,<-a.cell dW]
     have:bA K (X ab<|c+n*2+1)=M (aw B):=by rwa[d.cell dW,<-a.cell dW]
     have aa:G (H w)+1<=G (H K):=by have:=d.size;simp_all
     have N:qE K (G (H w)+1) o1 (O++[(k,v)]):=qE.of l ar (by simp[ki];rfl);have:y (O++[(k,v)])<=2*n+1:=by simp;omega
     go_wp21;by_cases m:f=k
     .have C:(f.toList==k.toList)=cz:=by rw[m];simp
      have i:=ak<|P.trans<|UO S m;go_quiet(fail)
      go_wp2;go_roundw
      .exact⟨n+1,U,dM,by rw[ag i],ag i▸ku N rfl,Below.of_heap d rfl⟩
      .simp[intOf];omega
     .have:(f.toList==k.toList)=bD:=BI m;have i:=ak<|P.trans<|UN S m;go_quiet(fail)
      go_wp2_with(first
       |(at_builtin;refine cq _ z (.tmp 44) (.tmp 49) 51 z (G (H w)+1) 227 i0 (.agg #[.string ⟨#[]⟩,.string ⟨#[]⟩]) 2 32 underlying51 T t u x z cg _ _ _ z (ku (bC N (.cells #[.string f,.string B] 227)) ?chZ) (X (G (H K)) 0) 1 1 [.string f,.string B] z z ?c1Z ?c2Z ?c3Z ?c4Z ?c5Z ?_))
      .rfl
      .exact nr _ _ _ _
      .intro al r;simp at r;obtain rfl|rfl:=r<;>rfl
      .first|omega|(simp;omega)
      .first|omega|(simp;omega)
      .simp;omega
      intro o2 Q e j;go_wp2;go_roundw
      .exact⟨n+1,U,dM,by rw[ag i],ag i▸qE.of e ar (by simp[ki];rfl),lI d aa j (aK #[aw f,aw B] 227) z<|λF g=>(aS N F g).1⟩
      .simp[intOf];omega
  .have d:o.take n=o:=aI;rw[d]at b p|-;have f:=ak<|show NC o k v L=if(tN k v L o).2 then(tN k v L o).1 else(tN k v L o).1++[(k,v)]from rfl;generalize tN k v L o=A at*;let⟨O,q⟩:=A;simp only at p;have e:∀Q,gD (G (H w)+1) (dw w<|aK #[aw k,aw v,aO L] 201) Q->gD (G<|H w) w Q:=λQ h=>((Below.refl _ w).alloc (aq _) _).trans<|h.mono U;cases q with
   |true=>
    go_wp2;go_ret;exact⟨_,z,ag f▸b,e _ a⟩
   |false=>
    go_wp2_with(first
     |(at_builtin;refine cq _ z (.tmp 53) (.tmp 59) 51 z (G (H w)+1) 227 i0 (.agg #[.string ⟨#[]⟩,.string ⟨#[]⟩]) 2 32 underlying51 T t u x z cg _ _ _ z (ku (bC b (.cells #[.string k,.string v] 227)) ?chX) (X (G (H wr)) 0) 1 1 [.string k,.string v] z z ?c1X ?c2X ?c3X ?c4X ?c5X ?_))
    .rfl
    try(case c1X=>exact nr _ _ _ _)
    .exact⟨z,z⟩
    .omega
    .omega
    .omega
    intro o1 K l s;go_wp2;go_ret;exact⟨_,z,ag f▸qE.of l ar (by simp[ki];rfl),e _<|lI a E s (aK #[aw k,aw v] 227) z<|λF g=>(aS b F g).1⟩
theorem F7(k v:af)(l:eN)(w:Z):cR bN 141 #[aF,ef #[aw k,aw v,aO l]] w λr o=>∃n,r=aN n/\qE o (G (H w)+1) n (NC [] k v l)/\gD (G<|H w) w o:=by
 let⟨q,p,f,i,j⟩:=cZ Ho;go_in
 go_wp2;go_loopw [5,6,7] (λa p i wr=>i=ay 0/\p=aO l/\a=aF/\gD (G (H w)+1) (dw w<|aK #[aw k,aw v,aO l] 201) wr) (λ_ _ _ _=>0)
 grind[Below.refl]
 .obtain⟨rfl,rfl,rfl,a⟩:=hrel;have:bA wr (X (G<|H w) 0)=M (aw k):=by rw[a.cell ar];simp
  have:bA wr (X (G<|H w) 1)=M (aw v):=by rw[a.cell ar];simp
  have g:G (H w)+1<=G (H wr):=by have:=a.size;simp_all
  have b:qE wr (G (H w)+1) aF []:=ct _ _ _ _;have d:∀a,gD (G (H w)+1) (dw w<|aK #[aw k,aw v,aO l] 201) a->gD (G<|H w) w a:=λa h=>((Below.refl _ w).alloc (aq _) _).trans<|h.mono U;cases l with
  |true=>
   go_wp2;go_ret;exact⟨_,z,b,d _ a⟩
  |false=>
   go_wp2_with(first
    |(at_builtin;refine cq _ z (.tmp 53) (.tmp 59) 51 z (G (H w)+1) 227 q (.agg #[.string ⟨#[]⟩,.string ⟨#[]⟩]) 2 32 underlying51 p f i j z cg _ _ _ z (ku (bC b (.cells #[.string k,.string v] 227)) ?chX) (X (G (H wr)) 0) 1 1 [.string k,.string v] z z ?c1X ?c2X ?c3X ?c4X ?c5X ?_))
   .rfl
   try(case c1X=>exact nr _ _ _ _)
   .intro u m;simp at m;obtain rfl|rfl:=m<;>rfl
   .simp_all
   .simp_all
   .first|omega|(simp;omega)
   intro s t c e;go_wp2;go_ret;exact⟨_,z,qE.of c z z,d _<|lI a g e (aK #[aw k,aw v] 227) z<|λi f=>(aS b i f).1⟩
def dQ{w:Z}{j:R}(h:fE w c k n d j Q):Row w n d j Q:=by
 refine⟨h.1,?_⟩;obtain⟨rfl,l⟩|⟨g,a,f,rfl,_,_,e,_⟩:=h.2;grind
 refine bu ⟨g,0,a,z,e,λm u i=>?_⟩;have:=h.cells (g:=g) z m u i;rwa[dS]at this
def qE.Ou{l:cy KV}(h:qE a b d l):mF a d l:=dQ h
def G0(l:cy KV)(n v:af)(g:eN)(k:mF a d l)(j:∀p,cN d=M p->p<G (H a))(m:y l<=1000000000000):cR bN 141 #[d,ef #[aw n,aw v,aO g]] a λq f=>∃e,q=aN e/\qE f (G (H a)+1) e (NC l n v g)/\gD (G<|H a) a f:=by
 obtain⟨s,⟨rfl,r⟩|⟨o,b,c,rfl,i,t⟩⟩:=k;grind[eq_nil_of_length_eq_zero,F7]
 refine Yd l o b c n v g a m (λu h=>?_)<|j o z;have:=pY l u h;grind
structure MZ where
 D:af
 l:af
 dP:eN
abbrev vX:=cy MZ
def oI(c:MZ):iF:=[aw c.D,aw c.l,aO c.dP]
def gM(l:cy MZ):iF:=l.flatMap oI
def np(l:cy MZ)(i:R)(h:i<y l):(gM l)[i*3]?=M (aw l[i].D)/\(gM l)[i*3+1]?=M (aw l[i].l)/\(gM l)[i*3+2]?=M (aO l[i].dP):=by
 induction l generalizing i with
 |nil=>simp at h
 |cons p r a=>
  cases i with
  |zero=>simp[gM,oI]
  |succ i=>
   have:=a i<|dV h;have e:(i+1)*3=i*3+3:=U;rw[e];simpa[gM,oI]using this
def Cf(w:Z)(v:ae)(l:cy MZ):Prop:=Row w 3 v (y l)<|gM l
def wt:eN->R
 |true=>0
 |false=>1
def Gl(k v:af)(a:kW×eN)(p:KV):y (kB k v a p).1+wt (kB k v a p).2<=y a.1+wt a.2+1:=by
 let⟨c,q⟩:=a;let⟨b,d⟩:=p;cases q<;>cases hg:QG b k<;>by_cases h:b=k<;>(simp only[kB,hg];simp[h,wt])
theorem NB(l:kW)(k v:af)(d:eN):y (NC l k v d)<=y l+1:=by
 have u7:∀(l:kW)(a:kW×eN),y (l.foldl (kB k v) a).1+wt (l.foldl (kB k v) a).2<=y a.1+wt a.2+y l:=by
  intro l;induction l with
  |nil=>intro a;simp
  |cons p r b=>intro a;simp only[yW,bK];have:=b<|kB k v a p;have:=Gl k v a p;omega
 have h:=u7 l ([],d);have:wt d<=1:=by cases d<;>simp[wt]
 simp only[eE]at h;unfold NC tN;split<;>rename_i e;omega;have a:(List.foldl (kB k v) ([],d) l).2=bD:=dV e;rw[a,show wt bD=1 from rfl]at h;rw[ai];grind
def WD(l:kW)(a:cy MZ):kW:=a.foldl (λl c=>NC l c.D c.l c.dP) l
def ZX(l:kW)(a:cy MZ)(n:R)(h:n<y a):WD l (a.take<|n+1)=NC (WD l<|a.take n) a[n].D a[n].l a[n].dP:=by
 unfold WD;rw[aG h,jS];rfl
def yK(l:kW)(a:cy MZ):y (WD l a)<=y l+y a:=by
 unfold WD;induction a generalizing l with
 |nil=>simp
 |cons c r b=>grind[length_cons,NB]
def ZW{D:kW}(c:cy MZ)(N:mF a d D)(L:∀g,cN d=M g->g<G (H a))(hc:Cf a w c)(x:∀g,cN w=M g->g<G (H a))(hr:y D+y c<=1000000000000):cR bN 92 #[d,w] a λad E=>∃p,ad=aN p/\mF E p (WD D c)/\(∀g,cN p=M g->g<G (H E))/\(cN p=cN d\/∀g,cN p=M g->G (H a)<=g)/\gD (G<|H a) a E:=by
 obtain⟨h1,⟨rfl,h0⟩|⟨K,e,aa,rfl,ac,A⟩⟩:=hc;(.obtain rfl:c=[]:=bG h0;(go_in);go_wp2;(go_loopw [0,5] (λF O wr=>O=ay 0/\F=d/\wr=a) (λ_ _ _=>0));(grind);obtain⟨rfl,rfl,rfl⟩:=hrel;go_wp2;go_ret;exact⟨_,z,N,L,J z,Below.refl _ _⟩)
 .have f:K<G (H a):=x K z;let⟨V,S,q⟩:=eU N L A;go_in
  go_wp2;go_loopw [0,5] (λF O wr=>∃n:R,n<=y c/\O=ay n/\mF wr F (WD D<|c.take n)/\(∀g,cN F=M g->g<G (H wr))/\(cN F=cN d\/∀g,cN F=M g->G (H a)<=g)/\gD (G<|H a) a wr) (λ_ O _=>y c-(intOf O).toNat)
  .exact⟨0,bQ _,z,V,S,J z,Below.refl _ _⟩
  .obtain⟨n,hn,rfl,k,o,C,b⟩:=hrel;by_cases m:n<y c
   .have i:=np c n m;have t:bA wr (X K<|e+n*3)=M (aw c[n].D):=(b.cell<|by exact f).trans<|q _ _ i.1;have u:bA wr (X K<|e+n*3+1)=M (aw c[n].l):=(b.cell<|by exact f).trans (by rw[bJ];exact q _ _ i.2.1);have v:bA wr (X K<|e+n*3+2)=M (aO c[n].dP):=(b.cell<|by exact f).trans (by rw[bJ];exact q _ _ i.2.2);have W:=ak<|ZX D c n m;have l:y (WD D<|c.take n)<=1000000000000:=zZ<|yK D<|c.take n;generalize ab:c[n]=ce at*;let⟨ck,cv,cd⟩:=ce;simp only at t u v;go_wp2_with(first
     |(go_at_call 141;refine(G0 _ ck cv cd k o l).mono ?_;rintro ad Q⟨P,rfl,j,r⟩))
    have s:gD (G<|H a) a Q:=b.trans<|r.mono b.size;have B:∀g,cN P=M g->g<G (H Q):=λg i=>(aS j g i).2;let⟨K1,K2,K3,K4⟩:=js j.Ou s B (show∀g,cN P=M g->G (H a)<=g fromλg i=>gW ((aS j g i).1) b.size);go_wp2;go_roundw
    .exact⟨n+1,U,dM,ag W▸K1,K3,bu K4,K2⟩
    .simp[intOf];omega
   .have i:c.take n=c:=aI;rw[i]at k;go_wp2;go_ret;exact⟨_,z,k,o,C,b⟩
def vE(l:kW)(k:af):af×eN:=match l with
 |[]=>(⟨#[]⟩,bD)
 |p::r=>if p.1=k then(p.2,cz)else vE r k
def VJ{l:kW}(h:b<y l)(e:l[b].1=B):vE (l.drop b) B=(l[b].2,cz):=by
 rw[dm h];simp[vE,e]
def Ss{l:kW}(h:b<y l)(e:¬l[b].1=B):vE (l.drop b) B=vE (l.drop<|b+1) B:=by
 rw[dm h];simp[vE,e]
def OQ{l:kW}(k:af)(x:mF a d l)(L:y l<=1000000000000):cR bN 58 #[d,aw k] a λE C=>E=aN (de #[aw (vE l k).1,aO (vE l k).2])/\C=a:=by
 obtain⟨F,⟨rfl,t⟩|⟨D,b,s,rfl,w,v⟩⟩:=x;(.obtain rfl:l=[]:=bG t;(go_in);go_wp2;(go_loop [6] (λr=>r=ay 0) (λ_=>0));rfl;obtain rfl:=hrel;go_wp2;(go_ret2);exact⟨z,z⟩);have p:=ak v;(go_in);go_wp2;(go_loop [6] (λr=>∃n:R,n<=y l/\r=ay n/\vE l k=vE (l.drop n) k) (λr=>y l-(intOf r).toNat));(grind);obtain⟨n,K,rfl,q⟩:=hrel;have i:=ak q;clear q;by_cases e:n<y l;(.have m:=pY l n e;have f:bA a (X D<|b+n*2)=M (aw l[n].1):=p _ _ m.1;(have g:bA a (X D<|b+n*2+1)=M (aw l[n].2):=by rw[bJ];exact p _ _ m.2);clear m;by_cases c:l[n].1=k;(.have j:=ak<|i.trans<|VJ e c;generalize l[n]=A at*;let⟨o,B⟩:=A;simp only at f g c;(have u:(o.toList==k.toList)=cz:=by rw[c];simp);clear c;go_wp2;(go_ret2);exact⟨by rw[ag j];rfl,z⟩);have j:=ak<|i.trans<|Ss e c;generalize l[n]=A at*;let⟨o,B⟩:=A;simp only at f g c;have:(o.toList==k.toList)=bD:=BI c;clear c;go_wp2;(go_round);exact⟨n+1,U,dM,j⟩;simp[intOf];omega);(have c:l.drop n=[]:=by simp;omega);go_wp2;(go_ret2);exact⟨by rw[ag i,c];rfl,z⟩
def mq:vX->Y
 |[]=>0
 |c::r=>if c.D.size=0\/8<c.D.size then 3 else if c.dP=bD/\16<c.l.size then 4 else mq r
def gT(a:vX):Y:=if 8<y a then 2 else mq a
def ET{a:vX}(h:b<y a)(e:a[b].D.size=0\/8<a[b].D.size):mq (a.drop b)=3:=by
 rw[dm h,mq,fW e]
def ES{a:vX}(h:b<y a)(e:¬(a[b].D.size=0\/8<a[b].D.size))(f:a[b].dP=bD/\16<a[b].l.size):mq (a.drop b)=4:=by
 rw[dm h,mq,fN e,fW f]
def Il{a:vX}(h:b<y a)(e:¬(a[b].D.size=0\/8<a[b].D.size))(f:¬(a[b].dP=bD/\16<a[b].l.size)):mq (a.drop b)=mq (a.drop<|b+1):=by
 rw[dm h,mq,fN e,fN f]
def Ek{b:vX}(N:Cf a d b)(T:y b<=1000000000000):cR bN 61 #[d] a λQ P=>Q=aN (ay<|gT b)/\P=a:=by
 obtain⟨F,⟨rfl,E⟩|⟨C,c,D,rfl,L,w⟩⟩:=N;(.obtain rfl:b=[]:=bG E;(go_in);go_wp2;(go_loop [3] (λA=>A=ay 0) (λ_=>0));rfl;obtain rfl:=hrel;go_wp2;go_ret;exact⟨z,z⟩)
 .have r:=ak w;clear w F;by_cases v:8<y b
  .have s:=ak (show gT b=2 by unfold gT;rw[fW v]);go_in
   go_wp2;go_ret;exact⟨by rw[ag s];rfl,z⟩
  .have s:=ak (show gT b=mq b by unfold gT;rw[fN v]);go_in
   go_wp2;go_loop [3] (λA=>∃n:R,n<=y b/\A=ay n/\gT b=mq (b.drop n)) (λA=>y b-(intOf A).toNat)
   .exact⟨0,bQ _,z,s⟩
   .obtain⟨n,S,rfl,x⟩:=hrel;have p:=ak x;clear x;by_cases f:n<y b
    .have q:=np b n f;have k:bA a (X C<|c+n*3)=M (aw b[n].D):=r _ _ q.1;have l:bA a (X C<|c+n*3+1)=M (aw b[n].l):=by rw[bJ];exact r _ _ q.2.1
     have m:bA a (X C<|c+n*3+2)=M (aO b[n].dP):=by rw[bJ];exact r _ _ q.2.2
     clear q;by_cases e:b[n].D.size=0\/8<b[n].D.size
     .have j:=ak<|p.trans<|ET f e;generalize b[n]=B at*;let⟨i,u,t⟩:=B;simp only at k l m e;obtain e|e:=e
      .have o:((i.size:Y)==0)=cz:=by simp[e]
       go_wp2;go_ret;exact⟨by rw[ag j];rfl,z⟩
      .have o:((i.size:Y)==0)=bD:=aI;go_wp2;go_ret;exact⟨by rw[ag j];rfl,z⟩
     .by_cases g:b[n].dP=bD/\16<b[n].l.size
      .have j:=ak<|p.trans<|ES f e g;generalize b[n]=B at*;let⟨i,u,t⟩:=B;simp only at k l m e g;obtain⟨rfl,O⟩:=g;have o:((i.size:Y)==0)=bD:=aI;have K:¬8<i.size:=U;clear e;go_wp2;go_ret;exact⟨by rw[ag j];rfl,z⟩
      .have j:=ak<|p.trans<|Il f e g;generalize b[n]=B at*;let⟨i,u,t⟩:=B;simp only at k l m e g;have:((i.size:Y)==0)=bD:=aI;have:¬8<i.size:=U;clear e;cases t with
       |true=>
        clear g;go_wp2;go_round
        .exact⟨n+1,U,dM,j⟩
        .simp[intOf];omega
       |false=>
        have:¬16<u.size:=dV g;clear g;go_wp2;go_round
        .exact⟨n+1,U,dM,j⟩
        .simp[intOf];omega
    .have e:b.drop n=[]:=by simp;omega
     go_wp2;go_ret;exact⟨by rw[ag p,e];rfl,z⟩
def xQ(c b:af)(a:Y)(n:R)(p:KV):eN:=QG p.1 c&&((b.toList==[])||Op.bytesLess p.1.toList b.toList)&&(decide (a<=0)||decide ((n:Y)<a))
def tC(d c:af)(a:Y)(b:kW)(p:KV):kW:=if xQ d c a (y b) p then b++[p]else b
def Ba(l:kW)(c b:af)(a:Y):kW:=l.foldl (tC c b a) []
def WW(l:kW)(c b:af)(a:Y)(n:R)(h:n<y l):Ba (l.take<|n+1) c b a=tC c b a (Ba (l.take n) c b a) l[n]:=by
 unfold Ba;rw[aG h,jS];rfl
def An(l:kW)(d c:af)(a:Y):y (Ba l d c a)<=y l:=by
 have u7:∀(l b:kW),y (l.foldl (tC d c a) b)<=y b+y l:=by
  intro l;induction l with
  |nil=>intro b;simp
  |cons p r e=>
   intro b;simp only[yW,bK];have f:=e<|tC d c a b p;have g:y (tC d c a b p)<=y b+1:=by unfold tC;split<;>simp
   omega
 have:=u7 l [];simpa[Ba]using this
def N7{b:af}{a:kW}{p:KV}(h:xQ B b r (y a) p=cz):tC B b r a p=a++[p]:=by unfold tC;rw[fW h]
def zae{b:af}{a:kW}{p:KV}(h:xQ B b r (y a) p=bD):tC B b r a p=a:=by unfold tC;rw[fN<|by simp[h]]
def Mz(p:kW)(W g L:R)(m l:af)(a:Y)(x:Z)(hr:y p<=1000000000000)(hb:W<G (H x))(w:∀ac T,(iS p)[ac]?=M T->bA x (X W<|g+ac)=M T):cR bN 138 #[bX W g (y p) L,aw m,aw l,ay a] x λaa w'=>∃v',aa=aN v'/\qE w' (G<|H x) v' (Ba p m l a)/\gD (G<|H x) x w':=by
 let⟨F,q,s,t,u⟩:=cZ Ho;have V:=ak w;clear w;go_in
 go_wp2;go_loopw [9,10] (λo i wr=>∃n:R,n<=y p/\i=ay n/\qE wr (G<|H x) o (Ba (p.take n) m l a)/\gD (G<|H x) x wr) (λ_ i _=>y p-(intOf i).toNat)
 exact⟨0,bQ _,z,ct _ _ _ _,Below.refl _ _⟩
 .obtain⟨n,D,rfl,b,c⟩:=hrel;have r:G (H x)<=G (H wr):=c.size;by_cases E:n<y p
  .have N:=pY p n E;have O:bA wr (X W<|g+n*2)=M (aw p[n].1):=(c.cell<|by exact hb).trans<|V _ _ N.1;have P:bA wr (X W<|g+n*2+1)=M (aw p[n].2):=(c.cell<|by exact hb).trans (by rw[bJ];exact V _ _ N.2);clear N;have:y (Ba (p.take n) m l a)<=n:=zZ<|An (p.take n) m l a;have K:=ak<|WW p m l a n E;have ho:∃ad ab,u9=am ad (y<|Ba (p.take n) m l a) ab:=by
    obtain⟨aa,o⟩|⟨A,e,d,aa,_⟩:=b.2
    .grind
    grind
   generalize Ba (p.take n) m l a=f at*;generalize p[n]=al at*;let⟨i,k⟩:=al;simp only at O P;obtain⟨ad,ab,rfl⟩:=ho;have no:∀(D:xQ m l a (y f) (i,k)=bD),Ba (p.take<|n+1) m l a=f:=λD=>K.trans<|zae D;have v:∀(D:xQ m l a (y f) (i,k)=cz),Ba (p.take<|n+1) m l a=f++[(i,k)]:=λD=>K.trans<|N7 D;clear K;cases hA:Op.bytesLess i.toList m.toList with
   |true=>
    have j:=ak (no<|by simp[xQ,QG, *]);go_wp2;go_roundw
    .exact⟨n+1,U,dM,ag j▸b,c⟩
    .simp[intOf];omega
   |false=>
    cases hH:(l.toList==[])with
    |true=>
     by_cases A:a<=0
     .have B:decide (a<=0)=cz:=by simp[A]
      have j:=ak (v<|by simp[xQ,QG, *]);go_wp2_with(first
       |(at_builtin;refine cq _ z (.tmp 47) (.tmp 52) 51 z (G (H x)) 227 F (.agg #[.string ⟨#[]⟩,.string ⟨#[]⟩]) 2 32 underlying51 q s t u z cg _ _ _ z (ku (bC b (.cells #[.string i,.string k] 227)) ?chQ1) (X (G (H wr)) 0) 1 1 [.string i,.string k] z z ?c1Q1 ?c2Q1 ?c3Q1 ?c4Q1 ?c5Q1 ?_))
      .rfl
      try(case c1Q1=>exact nr _ _ _ _)
      .first|exact⟨z,z⟩|(intro T o;simp at o;obtain rfl|rfl:=o<;>rfl)
      .first|omega|(simp;omega)
      .first|omega|(simp;omega)
      .first|omega|(simp;omega)
      intro Q S d e;go_wp2;go_roundw
      .exact⟨n+1,U,dM,ag j▸qE.of d ar (by simp[ki];rfl),lI c r e (aK #[aw i,aw k] 227) z<|λm g=>(aS b m g).1⟩
      .simp[intOf];omega
     .have B:decide (a<=0)=bD:=by simp[A]
      by_cases w:(y f:Y)<a
      .have C:decide ((y f:Y)<a)=cz:=by simp[w]
       have j:=ak (v<|by simp[xQ,QG, *]);go_wp2_with(first
        |(at_builtin;refine cq _ z (.tmp 47) (.tmp 52) 51 z (G (H x)) 227 F (.agg #[.string ⟨#[]⟩,.string ⟨#[]⟩]) 2 32 underlying51 q s t u z cg _ _ _ z (ku (bC b (.cells #[.string i,.string k] 227)) ?chQ2) (X (G (H wr)) 0) 1 1 [.string i,.string k] z z ?c1Q2 ?c2Q2 ?c3Q2 ?c4Q2 ?c5Q2 ?_))
       .rfl
       try(case c1Q2=>exact nr _ _ _ _)
       .first|exact⟨z,z⟩|(intro T o;simp at o;obtain rfl|rfl:=o<;>rfl)
       .first|omega|(simp;omega)
       .first|omega|(simp;omega)
       .first|omega|(simp;omega)
       intro Q S d e;go_wp2;go_roundw
       .exact⟨n+1,U,dM,ag j▸qE.of d ar (by simp[ki];rfl),lI c r e (aK #[aw i,aw k] 227) z<|λm g=>(aS b m g).1⟩
       .simp[intOf];omega
      .have C:decide ((y f:Y)<a)=bD:=by simp[w]
       have j:=ak (no<|by simp[xQ,QG, *]);go_wp2;go_roundw
       .exact⟨n+1,U,dM,ag j▸b,c⟩
       .simp[intOf];omega
    |false=>
     cases hT:Op.bytesLess i.toList l.toList with
     |true=>
      by_cases A:a<=0
      .have B:decide (a<=0)=cz:=by simp[A]
       have j:=ak (v<|by simp[xQ,QG, *]);go_wp2_with(first
        |(at_builtin;refine cq _ z (.tmp 47) (.tmp 52) 51 z (G (H x)) 227 F (.agg #[.string ⟨#[]⟩,.string ⟨#[]⟩]) 2 32 underlying51 q s t u z cg _ _ _ z (ku (bC b (.cells #[.string i,.string k] 227)) ?chQ3) (X (G (H wr)) 0) 1 1 [.string i,.string k] z z ?c1Q3 ?c2Q3 ?c3Q3 ?c4Q3 ?c5Q3 ?_))
       .rfl
       try(case c1Q3=>exact nr _ _ _ _)
       .first|exact⟨z,z⟩|(intro T o;simp at o;obtain rfl|rfl:=o<;>rfl)
       .first|omega|(simp;omega)
       .first|omega|(simp;omega)
       .first|omega|(simp;omega)
       intro Q S d e;go_wp2;go_roundw
       .exact⟨n+1,U,dM,ag j▸qE.of d ar (by simp[ki];rfl),lI c r e (aK #[aw i,aw k] 227) z<|λm g=>(aS b m g).1⟩
       .simp[intOf];omega
      .have:decide (a<=0)=bD:=by simp[A]
       by_cases w:(y f:Y)<a
       .have C:decide ((y f:Y)<a)=cz:=by simp[w]
        have j:=ak (v<|by simp[xQ,QG, *]);go_wp2_with(first
         |(at_builtin;refine cq _ z (.tmp 47) (.tmp 52) 51 z (G (H x)) 227 F (.agg #[.string ⟨#[]⟩,.string ⟨#[]⟩]) 2 32 underlying51 q s t u z cg _ _ _ z (ku (bC b (.cells #[.string i,.string k] 227)) ?chQ4) (X (G (H wr)) 0) 1 1 [.string i,.string k] z z ?c1Q4 ?c2Q4 ?c3Q4 ?c4Q4 ?c5Q4 ?_))
        .rfl
        try(case c1Q4=>exact nr _ _ _ _)
        .first|exact⟨z,z⟩|(intro T o;simp at o;obtain rfl|rfl:=o<;>rfl)
        .first|omega|(simp;omega)
        .first|omega|(simp;omega)
        .first|omega|(simp;omega)
        intro Q S d e;go_wp2;go_roundw
        .exact⟨n+1,U,dM,ag j▸qE.of d ar (by simp[ki];rfl),lI c r e (aK #[aw i,aw k] 227) z<|λm g=>(aS b m g).1⟩
        .simp[intOf];omega
       .have:decide ((y f:Y)<a)=bD:=by simp[w]
        have j:=ak (no<|by simp[xQ,QG, *]);go_wp2;go_roundw
        .exact⟨n+1,U,dM,ag j▸b,c⟩
        .simp[intOf];omega
     |false=>
      have j:=ak (no<|by simp[xQ,QG, *]);go_wp2;go_roundw
      .exact⟨n+1,U,dM,ag j▸b,c⟩
      .simp[intOf];omega
  .have d:p.take n=p:=fB U;rw[d]at b;go_wp2;go_ret;exact⟨_,z,b,c⟩
theorem Qi(c b:af)(a:Y)(w:Z):cR bN 138 #[aF,.string c,.string b,.int .i64 a] w λf e=>∃d,f=.returned d/\qE e (G<|H w) d (Ba [] c b a)/\gD (G<|H w) w e:=by
 go_in
 go_wp2;go_loop [9,10] (λo i=>i=.int .i64 0/\o=aF) (λ_ _=>0)
 grind
 obtain⟨rfl,rfl⟩:=hrel;go_wp2;go_ret;exact⟨_,z,ct _ _ _ _,Below.refl _ _⟩
def EW{l:kW}(g f:af)(b:Y)(n:mF a d l)(m:∀q,cN d=M q->q<G (H a))(o:y l<=1000000000000):cR bN 138 #[d,.string g,.string f,.int .i64 b] a λr i=>∃h,r=.returned h/\qE i (G<|H a) h (Ba l g f b)/\gD (G<|H a) a i:=by
 obtain⟨t,⟨rfl,s⟩|⟨p,c,e,rfl,k,j⟩⟩:=n;grind[eq_nil_of_length_eq_zero,Qi]
 exact Mz l p c e g f b a o (m p z) j
def Row.fS(h:Row a b d c Q):d=aF\/∃g e f,d=bX g e c f:=by
 obtain⟨j,_⟩|⟨g,e,f,j,_⟩:=h.2;exact J j;grind
def Qj(h:gD (G<|H a) a e)(b:Option R):a.grownBy e b:=⟨h.os,h.tape,h.output,h.size,λk c _=>h.block k c⟩
def Row.dF{w w':Z}{e:Option R}(h:Row w b d c Q)(m:w.grownBy w' e)(i:cN d≠e\/cN d=dE):Row w' b d c Q:=by
 let⟨j,k⟩:=h;refine⟨j,?_⟩;obtain⟨rfl,p⟩|⟨o,a,f,rfl,g,l⟩:=k;grind
 refine bu ⟨o,a,f,z,g,λq u n=>m.cell (l q u n) ?_⟩;obtain h|h:=i;exact h;simp[cN]at h
def CS(l:kW)(k:af):af×eN×Y:=if k.size=0\/8<k.size then(⟨#[]⟩,bD,3)else((vE l k).1,(vE l k).2,0)
def Ue{l:kW}(k:af)(g:mF a d l)(i:y l<=1000000000000)(f:k.size<=140737488351232):cR bN 137 #[d,.string k] a λm j=>m=.returned (.tuple #[.string (CS l k).1,.bool (CS l k).2.1,.int .i64 (CS l k).2.2])/\j=a:=by
 by_cases c:k.size=0;(.have b:=ak (show CS l k=(⟨#[]⟩,bD,3)by unfold CS;rw[fW<|J c]);(have e:((k.size:Y)==0)=cz:=by rw[c];rfl);(go_in);go_wp2;(go_ret3);exact⟨by rw[ag b];rfl,z⟩)
 .have:((k.size:Y)==0)=bD:=nE.2 U;by_cases e:8<k.size
  .have b:=ak (show CS l k=(⟨#[]⟩,bD,3)by unfold CS;rw[fW<|bu e]);go_in
   go_wp2;go_ret3
   exact⟨by rw[ag b];rfl,z⟩
  .have b:=ak (show CS l k=((vE l k).1,(vE l k).2,0)by unfold CS;rw[fN U]);go_in
   go_wp2_with(first
    |(go_at_call 58;refine(OQ k g i).mono ?_;rintro m n⟨rfl,rfl⟩))
   go_ret3
   exact⟨by rw[ag b];rfl,z⟩
structure tZ(w:Z)(rb:R)(pb:Option R)(l:kW)(closed:eN)(sv:ae):Prop where
 S:∃v,w.heap[rb]?=M (.cells #[v,sv,.bool closed] 54 (0,0))/\mF w v l/\cN v=pb
 ne:pb≠M rb
 lt:∀g,pb=M g->g<G (H w)
def RJ(m:Option R){l:kW}(k:af)(h:tZ a b m l V d)(j:y l<=1000000000000)(e:k.size<=140737488351232):cR bN 84 #[aJ b,.string k] a λo n=>
 o=.returned (if V then .tuple #[.string ⟨#[]⟩,.bool bD,.int .i64 6]else .tuple #[.string (CS l k).1,.bool (CS l k).2.1,.int .i64 (CS l k).2.2])/\n=a:=by
 let⟨⟨v,c,g,_⟩,_,_⟩:=h
 have:=aX c 0
 have:=aX c 2
 clear c
 cases V with
 |true=>
  go_in
  go_wp2;go_ret3
  simp_all
 |false=>
  obtain rfl|⟨q,f,i,rfl⟩:=g.fS;all_goals
   go_in
   go_wp2_with(first
    |(go_at_call 137;refine(Ue k g j e).mono ?_;rintro o p⟨rfl,rfl⟩))
   go_ret3
   simp_all
def Od(v:Option R){u:kW}(k j:af)(c:Y)(h:tZ a b v u V d)(t:y u<=1000000000000):cR bN 85 #[aJ b,.string k,.string j,.int .i64 c] a λw o=>
 ∃e,w=.returned (.tuple #[e,.int .i64<|if V then 6 else 0])/\qE o (G<|H a) e (if V then []else Ba u k j c)/\gD (G<|H a) a o:=by
 let⟨⟨x,i,m,n⟩,_,f⟩:=h
 have:=aX i 0
 have:=aX i 2
 have r:=ak (show∀g,cN x=M g->g<G (H a)fromλg c=>f g<|n▸c)
 clear i n f
 cases V with
 |true=>
  go_in
  go_wp2;go_ret2
  exact⟨_,z,ct _ _ _ _,Below.refl _ _⟩
 |false=>
  obtain rfl|⟨C,l,s,rfl⟩:=m.fS;all_goals
   go_in
   go_wp2_with(first
    |(go_at_call 138;refine(EW k j c m r t).mono ?_;rintro w B⟨A,rfl,g,e⟩;have p:=ak g;have q:=ak e;clear g e))
   go_ret2
   exact⟨_,z,p,q⟩
def Lj(m:Option R){p:kW}(h:tZ a b m p V d):cR bN 45 #[aJ b] a λo n=>
 o=.returned (.int .i64<|if V then 6 else 0)/\tZ n b m p cz d/\a.grownBy n (M b):=by
 let⟨⟨v,f,j,g⟩,c,e⟩:=h
 have:=aX f 2
 have:=cV (i:=2) f
 cases V with
 |true=>
  have k:=ak<|tZ.mk ⟨v,f,j,g⟩ c e;clear f j g c e;go_in
  go_wp2;go_ret;exact⟨z,k,vG _ _⟩
 |false=>
  have l:=eG a b 2<|.bool cz;have k:=ak<|show tZ (cP a (X b 2)<|.bool cz) b m p cz d from⟨⟨v,by rw[aY f];rfl,Row.dF j l<|J<|g▸c,g⟩,c,λn o=>au (e n o) l.size⟩;clear f j g c e;go_in
  go_wp2;go_ret;exact⟨z,k,l⟩
structure I(S:fC)(w w':Z):Prop where
 os:w'.os=w.os
 l:w'.tape=w.tape
 f:w'.output=w.output
 D:G (H w)<=G (H w')
 A:∀k,k<G (H w)->¬S k->w'.heap[k]?=w.heap[k]?
theorem I.bI(S:fC)(w:Z):I S w w:=⟨rfl,rfl,rfl,aq _,λ_ _ _=>rfl⟩
def I.aj{S T:fC}{c b e:Z}(h:I S c b)(k:I T b e)(g:∀x,T x->S x\/G (H c)<=x):I S c e:=⟨k.os.trans h.os,k.l.trans h.l,k.f.trans h.f,aR h.D k.D,λi a d=>(k.A i (au a h.D) (λj=>by
 grind)).trans (h.A i a d)⟩
def I.t{S:fC}{a b c:Z}(h:I S a b)(k:I aC b c):I S a c:=h.aj k cY
def I.aT{S T:fC}{a b:Z}(h:I S a b)(d:∀x,S x->T x\/G (H a)<=x):I T a b:=⟨h.os,h.l,h.f,h.D,λi c e=>h.A i c (λg=>by
 grind)⟩
def I.eF{S:fC}{b:Option R}(h:a.grownBy e b)(g:∀k,b=M k->S k\/G (H a)<=k):I S a e:=⟨h.os,h.tape,h.output,h.size,λi c d=>h.block i c (λj=>by
 grind)⟩
theorem I.p{S:fC}(h:gD (G<|H a) a e):I S a e:=⟨h.os,h.tape,h.output,h.size,λi b _=>h.block i b⟩
def I.dD{B:R}(h:I W a e)(b:B<=G (H a))(c:∀k,W k->B<=k):gD B a e:=⟨h.os,h.l,h.f,h.D,λk d=>h.A k U aI⟩
def I.u{a b:Z}(h:I W a b){k i:R}(c:bA a (X k i)=M d)(g:¬W k)(e:k<G (H a)):bA b (X k i)=M d:=(dZ (w:=a)<|h.A k e g).trans c
def I.aE{S:fC}(h:I S a e)(o:Obj):I S a (e.alloc o):=h.aj (I.eF (S:=aC) (eR e o dE) ar) ar
def gI(h:a.grownBy e (M b)):I (λk=>k=b) a e:=I.eF h aI
def I.aL(h:I W a e)(k i:R)(u:ae)(b:W k\/G (H a)<=k):I W a (e.setCell (X k i) u):=h.aj (I.eF (S:=λx=>x=k) (eG e k i u) aI) aI
theorem cI(S:fC)(w:Z){o:Obj}:I S w (dw w o):=(I.bI S w).aE o
def iQ(b:R)(w:Z){i:R}{u:ae}:I (λk=>k=b) w (cP w (X b i) u):=(I.bI _ w).aL b i u<|J rfl
def I.aZ{u b:Z}(h:I W u b){x:R}(s:u.ownsRow c k n d x Q)(r:∀v,cN d=M v->¬W v):b.ownsRow c k n d x Q:=by
 let⟨m,o⟩:=s;refine⟨m,?_⟩;obtain⟨rfl,A⟩|⟨j,a,e,rfl,p,g,t⟩:=o;grind
 exact bu ⟨j,a,e,z,p,(h.A j (az g)<|r j z).trans g,t⟩
def I.bV(h:I W a e)(p:Row a b d c Q)(k:∀q,cN d=M q->¬W q/\q<G (H a)):Row e b d c Q:=by
 let⟨m,n⟩:=p;refine⟨m,?_⟩;obtain⟨rfl,r⟩|⟨l,f,g,rfl,i,o⟩:=n;grind
 exact bu ⟨l,f,g,z,i,λj u m=>h.u (o j u m) (k l z).1 (k l z).2⟩
def aM{w:Z}{g:R}(h:fE w c k n d g Q):∃x i,d=.slice x g i:=by
 obtain⟨rfl,rfl⟩|⟨j,a,e,rfl,_⟩:=h.2;grind
 grind
def cG(h:Row a c d k Q):∃x g,d=.slice x k g:=by
 obtain⟨rfl,rfl⟩|⟨b,e,f,rfl,_⟩:=h.2;grind
 grind
theorem gh{j:R}(h:fE a b c n d j Q){k:R}(f:cN d=M k):∃e,a.heap[k]?=M (.cells e c (0,0)):=by
 obtain⟨rfl,_⟩|⟨l,g,e,rfl,_,i,_⟩:=h.2;cases f;cases f;grind
theorem ue(h:fE a b c k d n Q){i:R}{e:Array ae}{t:R}{f:R×R}(j:a.heap[i]?=M (.cells e t f))(g:t≠c):cN d≠M i:=by
 grind[gh]
def eh:(∀(l:iF)(i:R)(x:ae),l.toArray.setIfInBounds i x=(l.set i x).toArray)/\(∀(x c:ae)(l:iF),(x::l).set 0 c=c::l)/\∀(x c:ae)(l:iF)(n:R),(x::l).set (n+1) c=x::l.set n c:=ar
def fU:(∀(l:iF)(i:R)(h:i<l.toArray.size),l.toArray[i]=l[i]'(dV h))/\(∀(x:ae)(l:iF)(i:R)(h:i+1<y (x::l)),(x::l)[i+1]=l[i]'(dV h))/\∀(x:ae)(l:iF)(h:0<y (x::l)),(x::l)[0]=x:=ar
section
variable{P:Program}{a:Array Oper}{Q:Exit->Act->Z->Prop}{md:Region.Mode}{S:Z->Prop}
def mi(P:Program)(md:Region.Mode)(a:Array Oper)(Q:Exit->Act->Z->Prop)(S:Z->Prop)(m:R):R->Array eN->Act->Z->Prop
 |0,b,d,w=>Region.ready md a b=[]/\Q .normal d w
 |fuel+1,b,d,w=>
  (Region.ready md a b=[]->Q .normal d w)/\∀i∈Region.ready md a b,wpOp P a Q i (λe c=>(i≠m->S c)/\mi P md a Q S m fuel (b.setIfInBounds i cz) e c) d w
def qy{m:R}:∀(b:R)(c:Array eN)(i:Act)(w:Z),mi P md a Q S m b c i w->wpAny P md a Q b c i w
 |0,_,_,_,h=>h
 |b+1,_,_,_,h=>⟨h.1,λj f=>wY (λd g e=>qy b _ d g e.2)<|h.2 j f⟩
def Kv{l D:R}{h C:Oper}{N:ae}(x:a[l]?=M h)(V:a[D]?=M C)(L:∃g∈C.after,Region.binds md g=cz/\g.on=l)(B:∀(j:R)(T:Oper)cs b,a[j]?=M T->T.op≠ .select cs b)(E:∀O p w,Q (.panic O) (p.put h.dst N) w->Q (.panic O) p w):∀(d:R)(c:Array eN)(p:Act)(w:Z),(∀j m,a[j]?=M m->j≠l->c.getD j cz=bD->(∀g∈m.after,Region.binds md g=cz->g.on≠l)->h.apart a m=cz)->l∈Region.ready md a c->YieldsIf P a S h N p->S w->mi P md a Q S D d (c.setIfInBounds l cz) (p.put h.dst N) w->mi P md a Q S D (d+1) c p w:=by
 intro d;induction d with
 |zero=>
  intro c p w _ u o i u7;refine⟨aI,λj n=>?_⟩;by_cases e:j=l
  .subst e;exact o.wpOp x i ⟨λ_=>i,u7⟩
  .have:=uR n e;rw[u7.1]at this;cases this
 |succ d W=>
  intro c p w f u o i u7;refine⟨aI,λj n=>?_⟩;by_cases e:j=l
  .subst e;exact o.wpOp x i ⟨λ_=>i,u7⟩
  .have q:=u7.2 j<|uR n e;let⟨A,m,t,k⟩:=Ax.1 n;have:∀g∈m.after,Region.binds md g=cz->g.on≠l:=λg v s r=>by
    have q:=k g v s;have:=(Ax.1 u).1;rw[r]at q;grind
   have:=wpOp_putIf t aI aI aI E o q;have:∀v ok,a[v]?=M ok->v≠l->(c.setIfInBounds j cz).getD v cz=bD->(∀g∈ok.after,Region.binds md g=cz->g.on≠l)->h.apart a ok=cz:=λv ok K r d s=>by
    refine f v ok K r ?_ s;by_cases F:j=v
    .grind
    simp_all
   have:=uR u<|FA e;have:j≠D:=λg=>by
    grind
   grind[wpOp_mono,Array.setIfInBounds_comm]
def mX{i s:R}{d j:Oper}{v:ae}{c:R}{b:Array eN}{e:Act}{w:Z}(g:a[i]?=M d)(n:a[s]?=M j)(o:(j.after.any λu=>Region.binds md u&&u.on==i)=cz)(q:Region.noSelect a=cz)(m:Region.free md a b i=cz)(p:(Region.ready md a b).contains i=cz)(k:∀t e w,Q (.panic t) (e.put d.dst v) w->Q (.panic t) e w)(r:YieldsIf P a S d v e)(l:S w)(h:mi P md a Q S s c (b.setIfInBounds i cz) (e.put d.dst v) w):mi P md a Q S s (c+1) b e w:=Kv g n (by
 grind) (Region.noSelect_spec q) k c b e w (Region.free_spec g m) (dV p) r l h
def aW(i:R){n:R}{o:Oper}{c:R}{b:Array eN}{g:Act}{w:Z}(h:∀K:Act->Z->Prop,(∀d w',(i≠n->S w')->mi P md a Q S n c (b.setIfInBounds i cz) d w'->K d w')->Oper.wp P o g w K Q)(k:a[i]?=M o:=by rfl)(j:o.guard=dE:=by rfl)(l:Region.ready md a b=[i]:=by kernel_rfl):mi P md a Q S n (c+1) b g w:=by
 refine⟨aI,λp e=>?_⟩;rw[l]at e;obtain rfl:p=i:=dV e;unfold wpOp;simp only[k];have m:Region.wanted o (yielded a g.tmps)=cz:=by simp[Region.wanted,j]
 rw[fW m];grind
def dG{m:R}{b:Array eN}{e:Act}{w:Z}(d:Region.ready md a b=[])(h:Q .normal e w):∀c,mi P md a Q S m c b e w
 |0=>⟨d,h⟩
 |_+1=>⟨λ_=>h,by rw[d];simp⟩
def cX(S:Z->Prop)(m:R){id:R}{c:Act}{w:Z}(b:P.follows .mixedOrders=cz)(h:mi P .any a Q S m a.size (Array.replicate a.size bD) c w.drew):(Code.region id a cz).wp P Q c w:=Bd b<|qy _ _ _ _ h
end
section
variable{P:Program}{a:Array Oper}{Q:Exit->Act->Z->Prop}{md:Region.Mode}{S:Z->Prop}
def qH(P:Program)(md:Region.Mode)(a:Array Oper)(Q:Exit->Act->Z->Prop)(S:Z->Prop)(_ c:R)(b:Array eN)(d:Act)(w:Z):Prop:=wpAnyH P md a Q S c b d w
def CG(md:Region.Mode)(a:Array Oper)(b:Array eN)(k:R):eN:=Region.noSelect a&&Region.free md a b k&&(Region.ready md a b).contains k
def Nd{k:R}{e:Oper}{v:ae}{d:R}{b:Array eN}{f:Act}{w:Z}(i:S w)(j:a[k]?=M e)(c:CG md a b k=cz)(g:∀m f w,Q (.panic m) (f.put e.dst v) w->Q (.panic m) f w)(l:YieldsIf P a S e v f)(h:qH P md a Q S (k+1) d (b.setIfInBounds k cz) (f.put e.dst v) w):qH P md a Q S k (d+1) b f w:=by
 unfold CG at c;simp only[nP]at c;exact wpAnyH_take j c.1.1 c.1.2 c.2 g l i h
def U0{k:R}{d:Oper}{v:ae}{c:R}{b:Array eN}{e:Act}{w:Z}(i:S w)(l:a[k]?=M d)(f:CG md a b k=cz)(g:∀n e w,Q (.panic n) (e.put d.dst v) w->Q (.panic n) e w)(j:Region.wanted d (yielded a e.tmps)=cz)(m:∀w,S w->(execOp e.eval d).run P w=.ok (.value v) w)(h:qH P md a Q S (k+1) c (b.setIfInBounds k cz) (e.put d.dst v) w):qH P md a Q S k (c+1) b e w:=Nd i l f g (J ⟨j,m⟩) h
def qi{k:R}{d:Oper}{v:ae}{c:R}{b:Array eN}{e:Act}{w:Z}(i:S w)(h:qH P md a Q S (k+1) c (b.setIfInBounds k cz) (e.put d.dst v) w)(l:a[k]?=M d:=by rfl)(f:CG md a b k=cz:=by kernel_rfl)(g:∀n e w,Q (.panic n) (e.put d.dst v) w->Q (.panic n) e w:=by exact wP)(j:Region.wanted d (yielded a e.tmps)=cz:=by kernel_rfl)(m:∀w,S w->(execOp e.eval d).run P w=.ok (.value v) w:=by intro o m9;(repeat obtain⟨_,m9⟩:=m9);go_simp;try rfl):qH P md a Q S k (c+1) b e w:=U0 i l f g j m h
def Bt{k:R}{d:Oper}{c:R}{b:Array eN}{f:Act}{w:Z}(i:S w)(l:a[k]?=M d)(e:CG md a b k=cz)(g:∀m f w,Q (.panic m) (f.put d.dst jn) w->Q (.panic m) f w)(j:Region.wanted d (yielded a f.tmps)=bD)(h:qH P md a Q S (k+1) c (b.setIfInBounds k cz) (f.put d.dst jn) w):qH P md a Q S k (c+1) b f w:=Nd i l e g (bu ⟨j,z⟩) h
def Cn{i:R}{o:Oper}{c:R}{b:Array eN}{f:Act}{w:Z}(j:a[i]?=M o)(l:Region.wanted o (yielded a f.tmps)=cz)(k:Region.ready md a b=[i])(h:∀K:Act->Z->Prop,(∀e d,S d->qH P md a Q S (i+1) c (b.setIfInBounds i cz) e d->K e d)->Oper.wp P o f w K Q):qH P md a Q S i (c+1) b f w:=by
 refine wpAnyH_all k ar λm g=>?_;obtain rfl:m=i:=dV g;unfold wpOp;simp only[j];rw[fW l];exact J<|h (λe d=>S d/\wpAnyH P md a Q S c (b.setIfInBounds m cz) e d)<|λe d g j=>⟨g,j⟩
def zu{k:R}{b:Array eN}{e:Act}{w:Z}(d:Region.ready md a b=[])(h:Q .normal e w)(c:R):qH P md a Q S k c b e w:=wpAnyH_done d h c
def zq(S:Z->Prop){id:R}{c:Act}{w:Z}(b:P.follows .mixedOrders=cz)(h:qH P .any a Q S 0 a.size (Array.replicate a.size bD) c w.drew):(Code.region id a cz).wp P Q c w:=wp_region_held b h
end
def mJ(n:Y)(w:Z):cR bN 34 #[ay n] w λe a=>e=aN (ay n)/\a=w:=by
 go_in
 go_wp2;go_ret;simp_all
def Ee(w:Z)(a b:R):(w.drewN a).drewN b=w.drewN (a+b):=sO
def UA{l m:kW}(a:b<y l)(c:b<y m)(h:l.take b=m.take b)(e:l[b]=m[b]):l.take (b+1)=m.take (b+1):=by
 rw[aG a,aG c,h,e]
def ni{l m:kW}(hx:mF a d l)(N:mF a w m)(hl:y l<=1000000000000)(hm:y m<=1000000000000):cR bN 60 #[d,w] a λac w'=>ac=aN (aO<|decide<|l=m)/\∃s,w'=a.drewN s:=by
 by_cases e:y l=y m;(.obtain⟨h1,⟨rfl,u⟩|⟨ab,b,A,rfl,al,hc⟩⟩:=hx;(.obtain rfl:l=[]:=bG u;obtain rfl:m=[]:=aI;have g:=N.fS;obtain rfl|⟨t,c,f,rfl⟩:=g;(all_goals(go_in);go_wp2;(go_loopw [5] (λO wr=>O=ay 0/\∃s,wr=a.drewN s) (λ_ _=>0));exact⟨z,0,z⟩;obtain⟨rfl,s,rfl⟩:=hrel;go_wp2;go_ret;exact⟨z,s,z⟩));obtain⟨ad,⟨rfl,u⟩|⟨t,c,f,rfl,aa,k⟩⟩:=N;(.obtain rfl:m=[]:=bG u;obtain rfl:l=[]:=aI;(go_in);go_wp2;(go_loopw [5] (λO wr=>O=ay 0/\∃s,wr=a.drewN s) (λ_ _=>0));exact⟨z,0,z⟩;obtain⟨rfl,s,rfl⟩:=hrel;go_wp2;go_ret;exact⟨z,s,z⟩);have V:=ak hc;(have o:((y l:Y)!=(y m:Y))=bD:=by simp[e]);(go_in);go_wp2;(go_loopw [5] (λO wr=>∃n:R,n<=y l/\O=ay n/\l.take n=m.take n/\∃s,wr=a.drewN s) (λO _=>y l-(intOf O).toNat));exact⟨0,bQ _,z,z,0,z⟩;obtain⟨n,hn,rfl,ht,kk,rfl⟩:=hrel;have W:=ak ht;by_cases p:n<y l;(.have g:n<y m:=bP e;have B:=pY l n p;have j:=pY m n g;have D:bA a (X ab<|b+n*2)=M (aw l[n].1):=V _ _ B.1;(have E:bA a (X ab<|b+n*2+1)=M (aw l[n].2):=by rw[bJ];exact V _ _ B.2);have F:bA a (X t<|c+n*2)=M (aw m[n].1):=k _ _ j.1;(have K:bA a (X t<|c+n*2+1)=M (aw m[n].2):=by rw[bJ];exact k _ _ j.2);clear B j;have r:l[n]≠m[n]->decide (l=m)=bD:=λh=>aI;have HY:=ak<|λac=>UA p g W ac;generalize l[n]=an at*;generalize m[n]=q at*;let⟨P,Q⟩:=an;let⟨S,T⟩:=q;simp only at D E F K;by_cases v:P=S;(·(have C:(!P.toList==S.toList)=bD:=by rw[v];simp);by_cases x:Q=T;(·(have L:(Q.toList==T.toList)=cz:=by rw[x];simp);have i:=ak (HY<|by rw[v,x]);clear v x;go_wp21;(go_quiet(fail));go_wp2;go_roundw;exact⟨n+1,U,dM,i,aI⟩;simp[intOf];omega);have L:(Q.toList==T.toList)=bD:=BI x;have i:=ak<|r aI;go_wp21;(go_quiet(fail));go_wp2;go_ret;exact⟨by rw[ag i];rfl,by first|exact⟨_,z⟩|exact⟨_,Ee _ _ _⟩⟩);(have C:(!P.toList==S.toList)=cz:=by rw[BI v];rfl);have i:=ak<|r aI;go_wp21;(go_quiet(fail));go_wp2;go_ret;exact⟨by rw[ag i];rfl,by first|exact⟨_,z⟩|exact⟨_,Ee _ _ _⟩⟩);have i:=ak (show decide (l=m)=cz by have h1:l.take n=l:=fB U;have g:m.take n=m:=fB<|bP e;have:=ag W;rw[h1,g]at this;grind);go_wp2;go_ret;exact⟨by rw[ag i];rfl,aI⟩);have i:decide (l=m)=bD:=aI;rw[i];obtain⟨_,⟨rfl,u⟩|⟨ab,b,A,rfl,_,_⟩⟩:=hx<;>obtain⟨_,⟨rfl,g⟩|⟨t,c,f,rfl,_,_⟩⟩:=N;omega;(·(have o:((0:Y)!=(y m:Y))=cz:=by rw[Bp];omega);(go_in);go_wp2;go_ret;exact⟨z,0,z⟩);(·(have o:((y l:Y)!=(0:Y))=cz:=by rw[Bp];omega);(go_in);go_wp2;go_ret;exact⟨z,0,z⟩);(have:((y l:Y)!=(y m:Y))=cz:=by rw[Bp];omega);(go_in);go_wp2;go_ret;exact⟨z,0,z⟩
def Jw(a k:Y)(b:0<k)(c:k<=100):0<=wrap64 ((IntKind.u64.wrap a).tmod k)/\wrap64 ((IntKind.u64.wrap a).tmod k)<k:=by
 rw[dY,vf<|yX _ cg];have:=yX (a%18446744073709551616) (show k≠0 by omega);have:=Int.emod_lt_of_pos (a%18446744073709551616) b;generalize a%18446744073709551616%k=x at*;have e:wrap64 x=x:=by unfold wrap64;omega
 rw[e];grind
def Ct{P:Program}{i:Array Oper}{r:Oper}{t:Act}{aa:Act->Z->Prop}{an:Exit->Act->Z->Prop}{E:Prop}(O:r.guard=dE)(ad al:Operand)(A:TypeId)(o:r.op=Op.call {callee:=Callee.builtin Builtin.append,args:=#[ad,al],argTypes:=#[A,A]})(l:R)(v:TypeId)(w:TypeInfo)(m9:ae)(b bytes:R)(W:P.underlying A=M (.slice v))(Q:P.info? v=M w)(hz:w.zero=M m9)(g:w.size=b)(n:w.bytes=bytes)(q:m9.cells.size=b)(p:0<b)(C:ae)(x:R)(s:iF)(V:t.eval ad=C)(h:fE a l v b C x s)(m:Addr)(u ab:R)(c:iF)(hx:t.eval al=am (M m) u ab)(S:y c=u*b)(f:∀ac B,c[ac]?=M B->bA a (m.add ac)=M B)(D:∀B∈c,B.oneCell'=cz)(hn:x+u<=140737488355328)(d:(x+u)*bytes<=140737488355328)(e:l<=G (H a))(N:∀j k,fE k l v b j (x+u) (s++c)->fo a k C j->aa (t.put r.dst j) k):if Region.wanted r (yielded i t.tmps)=cz then Oper.wp P r t a aa an else E:=by
 have hw:Region.wanted r (yielded i t.tmps)=cz:=by simp[Region.wanted,O]
 rw[fW hw];let⟨j,k,T,F,K,_,L⟩:=oX (P:=P) a l A r.type v w m9 b bytes W Q hz g n q p C x s h m u ab c S f D (by unfold maxLen;omega) d e;unfold Oper.wp;simp[execOp,o,resolve,invoke,builtin,V,hx,T,Result.andThen];exact N j k F<|fo.of K L
def SC:(prog.info? 201).map (λi=>(i.zero,i.size,i.bytes))=M (M<|ef #[aw ⟨#[]⟩,aw ⟨#[]⟩,aO bD],3,40):=aH
def MR(w:Z)(a:R)(o:ae)(l:vX):Prop:=fE w a 201 3 o (y l)<|gM l
def Tk(w:Z)(x a m9:ae)(t:TypeId):∀j u,[x,a,m9][j]?=M u->bA (dw w<|aK #[x,a,m9] t) (((X (G<|H w) 0):Addr).add j)=M u:=by
 intro j u b;rw[dS];simp_all
def Nj(l:vX)(v a j:R)(w:Z)(P:y l<=1000000000000)(k:v<G (H w))(m:∀K L,(gM l)[K]?=M L->bA w (X v<|a+K)=M L):cR bN 38 #[bX v a (y l) j] w λO A=>∃x,O=aN x/\MR A (G<|H w) x l/\gD (G<|H w) w A:=by
 let⟨F,p,s,t,u⟩:=cZ SC;go_in
 go_wp2;go_loopw [3,4] (λo i wr=>∃n:R,n<=y l/\i=ay n/\MR wr (G<|H w) o (l.take n)/\gD (G<|H w) w wr) (λ_ i _=>y l-(intOf i).toNat)
 exact⟨0,bQ _,z,ct _ _ _ _,Below.refl _ _⟩;(.obtain⟨n,D,rfl,d,b⟩:=hrel;have r:G (H w)<=G (H wr):=b.size;by_cases f:n<y l;(.have o:=np l n f;have:bA wr (X v<|a+n*3)=M (aw l[n].D):=(b.cell<|by exact k).trans<|m _ _ o.1;have:bA wr (X v<|a+n*3+1)=M (aw l[n].l):=(b.cell<|by exact k).trans (by rw[bJ];exact m _ _ o.2.1);have E:bA wr (X v<|a+n*3+2)=M (aO l[n].dP):=(b.cell<|by exact k).trans (by rw[bJ];exact m _ _ o.2.2);(have c:fE wr (G<|H w) 201 3 u3 n (gM<|l.take n):=by have C:fE wr (G<|H w) 201 3 u3 (y<|l.take n) (gM<|l.take n):=d;rwa[dX,yU D]at C);let⟨T,N,q⟩:=aM c;subst q;have B:=ak (show gM (l.take<|n+1)=gM (l.take n)++[aw l[n].D,aw l[n].l,aO l[n].dP]by unfold gM;rw[aG f,gS];simp[oI]);go_wp2;(go_region_law (refine Ct z (.tmp 11) (.tmp 28) 123 z (G<|H w) 201 F (ef #[aw ⟨#[]⟩,aw ⟨#[]⟩,aO bD]) 3 40 underlying123 p s t u z cg (am T n N) n (gM<|l.take n) (by simp[Act.eval]) (ku (bC c<|aK #[aw l[n].D,aw l[n].l,aO l[n].dP] 201) rfl) (X (G<|H wr) 0) 1 1 [aw l[n].D,aw l[n].l,aO l[n].dP] (by simp[Act.eval]) rfl (Tk _ _ _ _ _) (by simp[Value.oneCell']) U U dW ?_;intro Q S e g;obtain⟨V,c2,rfl⟩:=aM e;have i:=ak g));go_wp2;(all_goals go_roundw;exact⟨n+1,U,dM,by unfold MR;rwa[dX,yU U,ag B],lI b r i (aK #[aw l[n].D,aw l[n].l,aO l[n].dP] 201) z<|λd a=>(aS c d a).1⟩;simp[intOf];omega));have c:n=y l:=U;subst c;rw[cQ]at d;go_wp2;go_ret;exact⟨_,z,d,b⟩)
theorem QS(w:Z):cR bN 38 #[aF] w λe b=>∃a,e=aN a/\MR b (G<|H w) a []/\gD (G<|H w) w b:=by
 go_in
 go_wp2;go_loopw [3,4] (λo i wr=>i=ay 0/\o=aF/\wr=w) (λ_ _ _=>0)
 grind
 obtain⟨rfl,rfl,rfl⟩:=hrel;go_wp2;go_ret;exact⟨_,z,ct _ _ _ _,Below.refl _ _⟩
def yg(l:vX)(v:ae)(w:Z)(g:y l<=1000000000000)(h:Cf w v l)(e:∀k,cN v=M k->k<G (H w)):cR bN 38 #[v] w λj d=>∃c,j=aN c/\MR d (G<|H w) c l/\gD (G<|H w) w d:=by
 obtain⟨_,⟨rfl,m⟩|⟨i,a,b,rfl,_,f⟩⟩:=h;grind[eq_nil_of_length_eq_zero,QS]
 exact Nj l i a b w g (e i z) f
section
variable{P:Program}{a:Array Oper}{Q:Exit->Act->Z->Prop}{md:Region.Mode}{S:Z->Prop}
def Lw(md:Region.Mode)(a:Array Oper)(b:Array eN)(m i:R):eN:=match a[m]? with
 |some c=>(c.after.any λe=>Region.binds md e&&e.on==i)&&Region.noSelect a&&Region.free md a b i&&(Region.ready md a b).contains i
 |none=>bD
def zw(P:Program)(md:Region.Mode)(a:Array Oper)(Q:Exit->Act->Z->Prop)(S:Z->Prop)(m _ c:R)(b:Array eN)(d:Act)(w:Z):Prop:=mi P md a Q S m c b d w
def dH(k:R){m c:R}{b:Array eN}{d:Act}{w:Z}(h:zw P md a Q S m k c b d w):mi P md a Q S m c b d w:=h
def eS{k m c:R}{b:Array eN}{d:Act}{w:Z}(h:mi P md a Q S m c b d w):zw P md a Q S m k c b d w:=h
def zr{k o:R}{e:Oper}{v:ae}{d:R}{b:Array eN}{g:Act}{w:Z}(j:S w)(l:a[k]?=M e)(c:Lw md a b o k=cz)(i:∀p g w,Q (.panic p) (g.put e.dst v) w->Q (.panic p) g w)(n:YieldsIf P a S e v g)(h:zw P md a Q S o (k+1) d (b.setIfInBounds k cz) (g.put e.dst v) w):zw P md a Q S o k (d+1) b g w:=by
 unfold Lw at c;split at c;rename_i q m;simp only[nP]at c;exact mX l m c.1.1.1 c.1.1.2 c.1.2 c.2 i n j h;cases c
def vg{k n:R}{d:Oper}{v:ae}{c:R}{b:Array eN}{e:Act}{w:Z}(i:S w)(l:a[k]?=M d)(f:Lw md a b n k=cz)(g:∀o e w,Q (.panic o) (e.put d.dst v) w->Q (.panic o) e w)(j:Region.wanted d (yielded a e.tmps)=cz)(m:∀w,S w->(execOp e.eval d).run P w=.ok (.value v) w)(h:zw P md a Q S n (k+1) c (b.setIfInBounds k cz) (e.put d.dst v) w):zw P md a Q S n k (c+1) b e w:=zr i l f g (J ⟨j,m⟩) h
def fX{k n:R}{d:Oper}{v:ae}{c:R}{b:Array eN}{e:Act}{w:Z}(i:S w)(h:zw P md a Q S n (k+1) c (b.setIfInBounds k cz) (e.put d.dst v) w)(l:a[k]?=M d:=by rfl)(f:Lw md a b n k=cz:=by kernel_rfl)(g:∀o e w,Q (.panic o) (e.put d.dst v) w->Q (.panic o) e w:=by exact wP)(j:Region.wanted d (yielded a e.tmps)=cz:=by rfl)(m:∀w,S w->(execOp e.eval d).run P w=.ok (.value v) w:=by intro p m9;(repeat obtain⟨_,m9⟩:=m9);go_simp;try rfl):zw P md a Q S n k (c+1) b e w:=vg i l f g j m h
end
section
variable{P:Program}{a:Array Oper}{Q:Exit->Act->Z->Prop}{md:Region.Mode}{S:Z->Prop}
def vk{i j m:R}{f g:Oper}{c:R}{b:Array eN}{k:Act}{w:Z}(o:a[i]?=M f)(p:a[j]?=M g)(l:f.guard=dE)(n:g.guard=dE)(q:Region.ready md a b=[i,j])(r:∀K:Act->Z->Prop,(∀d w',(i≠m->S w')->mi P md a Q S m c (b.setIfInBounds i cz) d w'->K d w')->Oper.wp P f k w K Q)(s:∀K:Act->Z->Prop,(∀d w',(j≠m->S w')->mi P md a Q S m c (b.setIfInBounds j cz) d w'->K d w')->Oper.wp P g k w K Q):mi P md a Q S m (c+1) b k w:=by
 refine⟨aI,λt e=>?_⟩;rw[q]at e;obtain rfl|e:=dy.1 e;unfold wpOp;simp only[o];(have h:Region.wanted f (yielded a k.tmps)=cz:=by simp[Region.wanted,l]);rw[fW h];grind
 obtain rfl:t=j:=dV e;unfold wpOp;simp only[p];(have h:Region.wanted g (yielded a k.tmps)=cz:=by simp[Region.wanted,n]);rw[fW h];grind
def wo{α:Type}(h:α->Z->Prop)(A:α->Act)(b:Array eN)(d:R){m e:R}{c:Array eN}{i:Act}{w:Z}(f:(∀x W,h x W->mi P md a Q S m d b (A x) W)->mi P md a Q S m e c i w)(g:∀x W,h x W->mi P md a Q S m d b (A x) W):mi P md a Q S m e c i w:=f g
def lC{m b:R}{l c:Array eN}{d:Act}{w:Z}(h:mi P md a Q S m b l d w)(e:l=c):mi P md a Q S m b c d w:=e▸h
end
section
variable{P:Program}{a:Array Oper}{Q:Exit->Act->Z->Prop}{md:Region.Mode}
def NJ{l n:R}{c:String}{b:Array ae}{w:Z}{m8:ae->Z->Prop}(h:Rows P c b w m8):RowsIn (Fence.wide.inRound l) n P c b w m8:=λf d _=>let⟨v,e,r,s⟩:=h f d;⟨v,e,r,stepsIn_wide.2 s⟩
theorem Oper.QM{o:Oper}{b:Act}{w:Z}{K:Act->Z->Prop}(l n:R)(d:∀c,o.op≠ .defer c)(h:o.wp P b w K Q):o.wpIn (Fence.wide.inRound l) n P b w K Q:=by
 unfold Oper.wpIn;refine⟨λf _=>trivial,?_⟩;rw[Oper.semAt_plain (Fence.wide.inRound l) _ _ d];unfold Oper.wp at h;generalize(execOp b.eval o).run P w=r at*;cases r with
 |ok x e=>
  cases x<;>simp only[Oper.upon,Oper.uponIn]at h|-<;>first
   |exact h
   |exact⟨(λc=>(by cases c)),CallsIn.inRound l<|ew.2 h⟩
   |exact⟨(λc=>(by cases c)),NJ h⟩
   |exact h.elim
 |halt x e=>cases x<;>simp only[Oper.upon,Oper.uponIn]at h|-<;>exact h
def Bu{l n:R}(k:∀(i:R)(o:Oper)c,a[i]?=M o->o.op≠ .defer c)(j:¬LetsOut Q):∀(b:R)(d:Array eN)(p:Act)(w:Z),wpAny P md a Q b d p w->wpAnyIn (Fence.wide.inRound l) n P md a Q b d p w
 |0,_,_,_,h=>h
 |b+1,_,_,_,h=>⟨h.1,λi m=>by
  have e:=wY (λf o g=>Bu (l:=l) (n:=n) k j b _ f o g)<|h.2 i m;unfold wpOp at e;unfold wpOpIn;cases ho:a[i]? with
  |none=>grind
  |some o=>
   simp only[ho]at e|-;split
   .rename_i f;simp only[f,mT]at e;grind[Oper.QM]
   .rename_i f;simp only[f]at e;exact⟨λ_ _=>trivial,e⟩⟩
def FE(a:Array Oper):eN:=a.all λo=>match o.op with| .defer _=>bD|_=>cz
def yw(h:FE a=cz):∀(i:R)(o:Oper)d,a[i]?=M o->o.op≠ .defer d:=by
 intro i o d c e;obtain⟨b,rfl⟩:=pE.1 c;have:=Array.all_eq_true.1 h i b;rw[e]at this;cases this
def wl(S:Z->Prop)(m:R){l n id:R}{b:Act}{w:Z}(e:P.follows .mixedOrders=cz)(d:FE a=cz)(c:∀b w,¬Q .outgrown b w)(h:mi P .any a Q S m a.size (Array.replicate a.size bD) b w.drew):(Code.region id a cz).wpIn (Fence.wide.inRound l) n P Q b w:=wpIn_region_any e<|Bu (yw d) (λ⟨b,w,h⟩=>c b w h) _ _ _ _<|qy _ _ _ _ h
end
def Dv{P:Program}{r n id:R}{Q:Exit->Act->Z->Prop}{c:Act}{l:cy Oper}(i:P.follows .mixedOrders=cz)(e:Region.lexB .any l.toArray=cz)(g:FE l.toArray=cz)(f:∀c a,¬Q .outgrown c a)(h:wpQuiet P l.toArray (λb=>∃n,b=a.drewN n) (λd=>∀b,(∃n,b=a.drewN n)->Q .normal d b) l c):(Code.region id l.toArray cz).wpIn (Fence.wide.inRound r) n P Q c a:=by
 simp only[Region.lexB,nP]at e;refine wpIn_region_any i<|Bu (yw g) (λ⟨c,a,h⟩=>f c a h) _ _ _ _<|wpAny_of_quiet (C:=λb=>∃n,b=a.drewN n) (Q:=λd=>∀b,(∃n,b=a.drewN n)->Q .normal d b) aI _ _ _ _ ⟨1,z⟩ ?_;have:=wpAnyQ_lex (C:=λb=>∃n,b=a.drewN n) (md:=.any) e.1 l 0 (Array.replicate l.toArray.size bD) c ar aI h;grind
section
open Extern.Stop Stop Extern
theorem oz(w:Z):cR bN 11 #[ic] w λe a=>e=aN (ay 0)/\gD (G<|H w) w a:=by
 go_in
 go_wp2;go_ret;exact⟨z,(Below.refl _ w).alloc (aq _) _⟩
def EF(t:Addr)(w:Z):(ReflectliteValue.unpack<|.iface 113<|ee<|M t).run bN w=.ok (ef #[ee<|M<|X (7) 113,aJ<|G<|H w,bw 150]) (dw w<|aK #[ee<|M t] 113):=aH
def NM(a:Addr)(w:Z):(ReflectliteValue.methodAny (ReflectliteValue.valueError "reflectlite.Value.Type" 0) (λt _ _ _=>ReflectliteType.toType t) #[ef #[ee<|M<|X (7) 113,ee<|M a,bw 150]]).run bN w=.ok (.iface 256<|ef #[ee<|M<|X (7) 113]) w:=aH
def wJ(h:ae)(w:Z):(Go.method 577 256 (ef #[h]) "Kind").run bN w=.ok (326,h) w:=aH
def NQ(w:Z):((ReflectliteType.abiMethod λt=>(λa:R=>Value.int IntKind.u8 (a:Y))<$>Rtype.kind t) #[ee<|M<|X (7) 113]).run bN w=.ok (sC 22) w:=aH
def NR(w:Z):((ReflectliteType.abiMethod λt=>(λa:R=>Value.int IntKind.u8 (a:Y))<$>Rtype.kind t) #[ee<|M<|X (7) 47]).run bN w=.ok (sC 2) w:=aH
def rlm(m9:Sem ae)(f:TypeId->Addr->R->R->Sem ae)(v:ae):ReflectliteValue.method m9 f #[v]=(do match<-ReflectliteValue.parts v with|none=>m9|some (t,b,a)=>f t b a<|a%32):=rfl
def Jq(a:Addr)(w:Z):(ReflectliteValue.parts<|ef #[ee<|M<|X (7) 113,ee<|M a,bw 150]).run bN w=.ok (M (113,a,150)) w:=aH
def Jr(b p:Addr)(W:Z)(a:bA W b=M (ee<|M p)):(ReflectliteValue.method (ReflectliteValue.valueError "reflectlite.Value.IsNil" 0) ReflectliteValue.isNil #[ef #[ee<|M<|X (7) 113,ee<|M b,bw 150]]).run bN W=.ok (aO bD) W:=by
 rw[rlm];simp only[jy,Jq,Result.andThen];simp[ReflectliteValue.isNil,loadVar,isAgg,underlying,underlying113,a,Result.andThen]
def wK(h:ae)(w:Z):(Go.method 577 256 (ef #[h]) "Elem").run bN w=.ok (356,ef #[h]) w:=aH
def qm(h:ae)(w:Z):(Go.method 577 256 (ef #[h]) "Implements").run bN w=.ok (357,ef #[h]) w:=aH
def oV(h:ae)(w:Z):(Go.method 577 256 (ef #[h]) "AssignableTo").run bN w=.ok (354,ef #[h]) w:=aH
def NS(w:Z):(ReflectliteType.method ReflectliteType.elem #[ef #[ee<|M<|X (7) 113]]).run bN w=.ok (.iface 256<|ef #[ee<|M<|X (7) 47]) w:=aH
def zG(w:Z):(ReflectliteType.relation "Implements" ReflectliteType.implements_ #[ef #[ee<|M<|X (7) 47],.iface 256<|ef #[ee<|M<|X (7) 44]]).run bN w=.ok (aO cz) w:=aH
def ym(v:ae)(w:Z):(ReflectliteType.typeOf #[.iface 47 v]).run bN w=.ok (.iface 256<|ef #[ee<|M<|X (7) 47]) w:=aH
def zH(w:Z):(ReflectliteType.relation "AssignableTo" ReflectliteType.assignableTo #[ef #[ee<|M<|X (7) 47],.iface 256<|ef #[ee<|M<|X (7) 47]]).run bN w=.ok (aO cz) w:=aH
def EG(n:Y)(w:Z):(ReflectliteValue.unpack<|.iface 47<|ay n).run bN w=.ok (ef #[ee<|M<|X (7) 47,aJ<|G<|H w,bw 130]) (dw w<|aK #[ay n] 47):=aH
def RE(w:Z):(Rtype.elem? 113).run bN w=.ok (M 47) w:=aH
def X0(p:Addr)(w:Z):(ReflectliteValue.mk 47 p ReflectliteValue.flagAddr).run bN w=.ok (ef #[ee<|M<|X (7) 47,ee<|M p,bw 386]) w:=aH
def Js(b p:Addr)(W:Z)(a:bA W b=M (ee<|M p)):(ReflectliteValue.method (ReflectliteValue.valueError "reflectlite.Value.Elem" 0) ReflectliteValue.elem #[ef #[ee<|M<|X (7) 113,ee<|M b,bw 150]]).run bN W=.ok (ef #[ee<|M<|X (7) 47,ee<|M p,bw 386]) W:=by
 rw[rlm];simp only[jy,Jq,Result.andThen];simp[ReflectliteValue.elem,loadVar,isAgg,underlying,underlying113,a,Result.andThen,RE,X0]
def rls(v x:ae):ReflectliteValue.set #[v,x]=(do
 let(M (dst,a,fl),M (src,b,_)):=(<-ReflectliteValue.parts v,<-ReflectliteValue.parts x)
  |unsupported (.noEntry "extern/(internal/reflectlite.Value).Set.zeroValue")
 if fl/ReflectliteValue.flagAddr%2==0 then unsupported (.noEntry "extern/(internal/reflectlite.Value).Set.unaddressable")
 let c<-loadVar src b;if<-Rtype.directlyAssignable dst src then storeVar dst a c
 else if<-Rtype.implements dst src then
  if(<-Rtype.kind src)==20 then
   match c with
   | .nilIface=>unsupported<|.noEntry "extern/reflectlite: a nil value of one interface type handed on as a value of another"
   |_=>storeVar dst a c
  else storeVar dst a (.iface src c)
 else panicString ("reflectlite.Set: value of type " ++(<-Rtype.spelt src)++ " is not assignable to type " ++(<-Rtype.spelt dst))
 pure (de #[])):=rfl
def Rz(a:Addr)(w:Z):(ReflectliteValue.parts<|ef #[ee<|M<|X (7) 47,ee<|M a,bw 386]).run bN w=.ok (M (47,a,386)) w:=aH
def Ve(a:Addr)(w:Z):(ReflectliteValue.parts<|ef #[ee<|M<|X (7) 47,ee<|M a,bw 130]).run bN w=.ok (M (47,a,130)) w:=aH
def RF(w:Z):(Rtype.directlyAssignable 47 47).run bN w=.ok cz w:=aH
def TL(a e:Addr)(n:Y)(qP:ae)(W:Z)(b:bA W e=M (ay n))(d:bA W a=M qP)(c:iI W a=bD):(ReflectliteValue.set #[ef #[ee<|M<|X (7) 47,ee<|M a,bw 386],ef #[ee<|M<|X (7) 47,ee<|M e,bw 130]]).run bN W=.ok (de #[]) (cP W a<|ay n):=by
 rw[rls];simp only[jy,Rz,Ve,Result.andThen];simp[ReflectliteValue.flagAddr,loadVar,isAgg,underlying,underlying47,b,Result.andThen,RF,storeVar,Value.cells,storeCells,Addr.add];rw[Dt bN W a _ _<|by rfl];simp[d,c]
def jP(w:Z):Prop:=bA w (X 0 0)=M (.iface 256<|ef #[ee<|M<|X (7) 44])
def rx6:=@fG bN 79 _ (λa=>ReflectliteValue.unpack<|a.getD 0<|de #[]) func79 aH aH aH aH
def rx7:=@fG bN 80 _ (ReflectliteValue.methodAny (ReflectliteValue.valueError "reflectlite.Value.Type" 0)<|λt _ _ _=>ReflectliteType.toType t) func80 aH aH aH aH
def rx8:=@fG bN 81 _ (ReflectliteValue.method (ReflectliteValue.valueError "reflectlite.Value.IsNil" 0) ReflectliteValue.isNil) func81 aH aH aH aH
def V4:=@fG bN 326 _ (ReflectliteType.abiMethod λt=>do pure (sC<|<-Rtype.kind t)) func326 aH aH aH aH
def V2:=@fG bN 356 _ (ReflectliteType.method ReflectliteType.elem) func356 aH aH aH aH
def V1:=@fG bN 357 _ (ReflectliteType.relation "Implements" ReflectliteType.implements_) func357 aH aH aH aH
def V7:=@fG bN 122 _ ReflectliteType.typeOf func122 aH aH aH aH
def V3:=@fG bN 354 _ (ReflectliteType.relation "AssignableTo" ReflectliteType.assignableTo) func354 aH aH aH aH
def V6:=@fG bN 134 _ (ReflectliteValue.method (ReflectliteValue.valueError "reflectlite.Value.Elem" 0) ReflectliteValue.elem) func134 aH aH aH aH
def V5:=@fG bN 135 _ ReflectliteValue.set func135 aH aH aH aH
abbrev asV(T:TypeId)(w:Z):Obj:=aK #[ee<|M<|X (7) T,aJ<|G<|H w,bw 150] 182
abbrev asA(T:TypeId)(t:Addr)(w:Z):Z:=dw (dw w<|aK #[ee<|M t] T)<|asV T w
abbrev A5(T:TypeId)(t:Addr)(w:Z):Z:=(asA T t w).alloc<|asV T w
def Cc(T:TypeId)(t:Addr)(o:Obj){p:Addr}(h:p.block<G (H a)):bA (asA T t a) p=bA a p/\bA (A5 T t a) p=bA a p/\bA ((A5 T t a).alloc o) p=bA a p/\iI ((A5 T t a).alloc o) p=iI a p:=by
 refine⟨?_,?_,?_,?_⟩<;>simp(disch:=((try simp)<;>omega))only[fa,World.frozen?_alloc_old]
def Tm(T:TypeId)(t:Addr):bA (A5 T t a) (X (G<|H a) 0)=M (ee<|M t):=by
 rw[fa _ _ (X (G<|H a) 0) dW];simp
def zaj(n:Y)(t:Addr)(qP:ae)(d:jP a)(b:bA a t=M qP)(c:iI a t=bD):cR bN 32 #[.iface 47<|ay n,.iface 113<|ee<|M t] a λf g=>f=aN (aO cz)/\g=((A5 113 t a).alloc<|aK #[ay n] 47).setCell t (ay n):=by
 unfold jP at d;have:=rx6;have:=rx7;have:=rx8;have:=V4;have:=V2;have:=V1;have:=V7;have:=V3;have:=V6;have:=V5;have:=ym;have:=oV;have:=zH;have:=EG;have:=EF;have:=NM;have:=wJ;have:=wK;have:=qm;have:=NQ;have:=NR;have:=NS;have:=zG;have:=Jr (X (G<|H a) 0) t (asA 113 t a) ar;have:=(Cc 113 t (aK #[] 0)<|cA _ _ d).1.trans d;have:=Js (X (G<|H a) 0) t _<|Tm 113 t;have e:=Cc 113 t (aK #[ay n] 47)<|cA _ _ b;have:=TL t (X (G (H a)+1+1+1) 0) n qP ((A5 113 t a).alloc<|aK #[ay n] 47) (by rw[tG _ _ _ _ ar];rfl) (e.2.2.1.trans b)<|e.2.2.2.trans c;go_in
 go_wp2;apply iX 1;rw[io];go_wp2;go_ret;simp_all
end
def jP.aE{w:Z}(h:jP w)(o:Obj):jP (dw w o):=by
 unfold jP at*;rwa[fa _ _ _<|cA _ _ h]
theorem QT(n:Y)(i:jP a):cR bN 11 #[.iface 47<|ay n] a λk j=>k=aN (ay n)/\gD (G<|H a) a j:=by
 have e:bA (dw a<|aK #[ay 0] 47) (X (G<|H a) 0)=M (ay 0):=ar;have d:iI (dw a<|aK #[ay 0] 47) (X (G<|H a) 0)=bD:=ar;have g:=zaj n (X (G<|H a) 0) (ay 0) (i.aE _) e d;clear e d;go_in
 go_wp2_with(go_at_call 32;refine g.mono ?_;rintro k f⟨rfl,b⟩;have c:gD (G<|H a) a f:=(b▸((((((Below.refl _ a).alloc (aq _) _).alloc ar _).alloc dW _).alloc dW _).alloc dW _).setCell (p:=(X (G<|H a) 0)) (aq _) _);have:bA f (X (G<|H a) 0)=M (ay n):=(b▸pZ _ _ _ (by rw[fa _ _ _ dW,fa _ _ _ dW,fa _ _ _ dW,fa _ _ _ ar];simp));have HB:=ak c;clear b c)
 go_ret;exact⟨z,HB⟩
section
open Extern.Stop Stop Extern
def AU(a:TypeId)(v:ae)(w:Z):(binOp .eql 44 (.iface a v) ic).run bN w=.ok (aO bD) w:=by
 have h:∀d:R,(Op.equalIn (d+1) 44 (.iface a v) ic).run bN w=.ok bD w:=λd=>by simp[Op.equalIn,eV underlying44]
 simp only[binOp];simp[Op.equal,Op.maxDepth,h 9999]
def PJ:(prog.info? 47).map (·.comparable)=M cz:=aH
def Zg(n:Y)(w:Z):cR bN 71 #[ic,.iface 47<|ay n] w λe a=>e=aN (aO bD)/\a=w:=by
 have:∀w,(binOp .eql 44 ic<|.iface 47<|ay n).run bN w=.ok (aO bD) w:=λw=>run_eql_iface_nil_left w _ _ underlying44;go_in
 go_wp2;go_ret;simp_all
def ur(h:ae)(w:Z):(Go.method 577 256 (ef #[h]) "Comparable").run bN w=.ok (355,ef #[h]) w:=aH
def zV(w:Z):(ReflectliteType.method (λt=>do Rtype.noPackHeld "Comparable" t;(λa:TypeInfo=>aO a.comparable)<$>typeInfo t) #[ef #[ee<|M<|X (7) 47]]).run bN w=.ok (aO cz) w:=aH
def zcb(v:ae)(a:TypeId)(w:Z):(Instr.typeAssert (.iface 155 v) a 324 cz).run bN w=.ok (de #[ic,aO bD]) w:=run_typeAssert_lacksB underlying324 aH aH v a w
def KA(v:ae)(a:TypeId)(w:Z):(Instr.typeAssert (.iface 155 v) a 263 cz).run bN w=.ok (de #[.iface 155 v,aO cz]) w:=run_typeAssert_hasB underlying263 aH v a w
def yz(v:ae)(w:Z):(Go.method 577 155 v "Unwrap").run bN w=.ok (349,v) w:=aH
def Bv(a:R)(n:Y)(w:Z)(h:bA w (X a 1)=M (ay n)):cR bN 349 #[aJ a] w λe b=>e=aN (.iface 47<|ay n)/\b=w:=by
 go_in
 go_wp2;go_ret;simp_all
def Wu(n:Y)(w:Z):(binOp .eql 44 (.iface 47<|ay n)<|.iface 47<|ay n).run bN w=.ok (aO cz) w:=by
 let⟨i,b,a⟩:=rK.1 PJ;have h:∀d:R,(Op.equalIn (d+2) 44 (.iface 47<|ay n)<|.iface 47<|ay n).run bN w=.ok cz w:=λd=>by simp[Op.equalIn,eV underlying44,eV underlying47,typeInfo,b,a]
 simp only[binOp];simp[Op.equal,Op.maxDepth,h 9998]
def VU(a:R)(n:Y)(w:Z)(h:bA w (X a 1)=M (ay n)):cR bN 123 #[.iface 155<|aJ a,.iface 47<|ay n,aO cz] w λe b=>e=aN (aO cz)/\b=w:=by
 have:∀w,(binOp .eql 44 (.iface 155<|aJ a)<|.iface 47<|ay n).run bN w=.ok (aO bD) w:=λw=>run_eql_iface_types _ _ _ _ underlying44 cg w;have:=Wu n;have:=AU;have:=zcb;have:=KA;have:=yz;have c:=Bv a n w h;go_in
 go_wp2;refine iX 2 ?_;rw[io];go_wp21;go_call c as e b⟨rfl,rfl⟩;go_wp2;rw[io];go_wp2;go_ret;simp_all
def Ua(a:R)(n:Y)(w:Z)(h:bA w (X a 1)=M (ay n)):cR bN 71 #[.iface 155<|aJ a,.iface 47<|ay n] w λe b=>e=aN (aO cz)/\b=w:=by
 have:=AU;have:=@fG bN 122 _ ReflectliteType.typeOf func122 aH aH aH aH;have:=@fG bN 355 _ (ReflectliteType.method (λt=>do Rtype.noPackHeld "Comparable" t;pure (aO (<-typeInfo t).comparable))) func355 aH aH aH aH;have:=ym;have:=ur;have:=zV;have c:=VU a n w h;go_in
 go_wp21;go_call c as e b⟨rfl,rfl⟩;go_wp2;go_ret;simp_all
end
section
variable{P:Program}{a:Array Oper}{Q:Exit->Act->Z->Prop}{md:Region.Mode}{S:Z->Prop}
def Cz(md:Region.Mode)(a:Array Oper)(i:R):R->R->eN
 |0,_=>bD
 |n+1,j=>match a[j]? with
  |none=>bD
  |some o=>o.after.any λe=>Region.binds md e&&(e.on==i||Cz md a i n e.on)
def Es(md:Region.Mode)(a:Array Oper)(b:Array eN):Prop:=∀j o,a[j]?=M o->b.getD j bD=cz->∀e∈o.after,Region.binds md e=cz->b.getD e.on bD=cz
def FL(md:Region.Mode)(a:Array Oper)(b:Array eN):eN:=(List.range a.size).all λj=>match a[j]? with
 |none=>cz
 |some o=>!b.getD j bD||o.after.all λe=>!Region.binds md e||b.getD e.on bD
def WI{b:Array eN}(h:FL md a b=cz):Es md a b:=by
 intro j o d e i g f;unfold FL at h;rw[List.all_eq_true]at h;have c:=h j<|zn.2 (pE.1 d).1;simp only[d,e,tr,Be]at c;rw[Array.all_eq_true]at c;grind[Array.mem_iff_getElem]
def Es.gu{b:Array eN}{o:R}(h:Es md a b)(l:o∈Region.ready md a b):Es md a (b.setIfInBounds o cz):=by
 intro x r n f p k j;let⟨q,s,m,e⟩:=Ax.1 l;by_cases c:o=x;grind[getD_set_true]
 rw[getD_set_ne bD c]at f;exact getD_set_true<|h x r n f p k j
theorem Cy{p:R}{b:Array eN}(i:Es md a b):∀(n m:R)(o:Oper),a[m]?=M o->(∀f∈o.after,Region.binds md f=cz->b.getD f.on bD=cz)->Cz md a p n m=cz->b.getD p bD=cz
 |0,_,_,_,_,h=>by simp[Cz]at h
 |n+1,m,o,k,c,h=>by
  unfold Cz at h;simp only[k]at h;let⟨x,l,g⟩:=Array.any_eq_true.1 h;simp only[nP,yY,beq_iff_eq]at g;have j:=c _ (Array.getElem_mem l) g.1;obtain f|f:=g.2
  .rwa[<-f]
  .have hex:∃e,a[(o.after[x]).on]?=M e:=by
    cases n with
    |zero=>simp[Cz]at f
    |succ n=>
     unfold Cz at f;grind
   let⟨e,d⟩:=hex;exact Cy i n _ e d (i _ e d j) f
def oU(P:Program)(md:Region.Mode)(a:Array Oper)(Q:Exit->Act->Z->Prop)(S:Z->Prop)(m:R):R->Array eN->Act->Z->Prop
 |0,b,d,w=>Region.ready md a b=[]/\Q .normal d w
 |fuel+1,b,d,w=>
  (Region.ready md a b=[]->Q .normal d w)/\∀i∈Region.ready md a b,wpOp P a Q i (λe c=>(i<m->S c)/\oU P md a Q S m fuel (b.setIfInBounds i cz) e c) d w
def Co{m:R}:∀(b:R)(c:Array eN)(i:Act)(w:Z),oU P md a Q S m b c i w->wpAny P md a Q b c i w
 |0,_,_,_,h=>h
 |b+1,_,_,_,h=>⟨h.1,λj f=>wY (λd g e=>Co b _ d g e.2)<|h.2 j f⟩
def Kw{i L:R}{h:Oper}{ac:ae}(E:a[i]?=M h)(W:i<L)(ab:∀j,L<=j->j<a.size->Cz md a i a.size j=cz)(K:∀(j:R)(al:Oper)cs b,a[j]?=M al->al.op≠ .select cs b)(V:∀ad r w,Q (.panic ad) (r.put h.dst ac) w->Q (.panic ad) r w):∀(d:R)(c:Array eN)(r:Act)(w:Z),Es md a c->(∀j n,a[j]?=M n->j≠i->c.getD j cz=bD->(∀s∈n.after,Region.binds md s=cz->s.on≠i)->h.apart a n=cz)->i∈Region.ready md a c->YieldsIf P a S h ac r->S w->oU P md a Q S L d (c.setIfInBounds i cz) (r.put h.dst ac) w->oU P md a Q S L (d+1) c r w:=by
 intro d;induction d with
 |zero=>
  intro c r w _ _ A p k u7;refine⟨aI,λj l=>?_⟩;by_cases e:j=i
  .subst e;exact p.wpOp E k ⟨λ_=>k,u7⟩
  .have:=uR l e;rw[u7.1]at this;cases this
 |succ d ih=>
  intro c r w t g A p k u7;refine⟨aI,λj l=>?_⟩;by_cases e:j=i
  .subst e;exact p.wpOp E k ⟨λ_=>k,u7⟩
  .have O:=u7.2 j<|uR l e;let⟨F,n,x,D⟩:=Ax.1 l;have:c.getD i bD=cz->False:=λq=>by
    have:=(Ax.1 A).1;grind
   have:∀s∈n.after,Region.binds md s=cz->s.on≠i:=aI;have T:=wpOp_putIf x aI aI aI V p O;have f:∀C ok,a[C]?=M ok->C≠i->(c.setIfInBounds j cz).getD C cz=bD->(∀s∈ok.after,Region.binds md s=cz->s.on≠i)->h.apart a ok=cz:=λC ok hk u d v=>by
    refine g C ok hk u ?_ v;by_cases aa:j=C
    .grind
    simp_all
   have B:=uR A<|FA e;have m:j<L:=by
    grind[Nat.lt_or_ge,Cy,Array.getElem?_eq_some_iff]
   refine wY (λN w' o=>⟨λ_=>o.2.1 m,ih (c.setIfInBounds j cz) N w' (t.gu l) f B o.1 (o.2.1 m) ?_⟩) T;rw[wG _ _ e];exact o.2.2
def Nf{i m:R}{d:Oper}{v:ae}{c:R}{b:Array eN}{e:Act}{w:Z}(j:a[i]?=M d)(g:i<m)(o:((List.range a.size).all λt=>decide (t<m)||Cz md a i a.size t)=cz)(q:Region.noSelect a=cz)(n:Region.free md a b i=cz)(p:(Region.ready md a b).contains i=cz)(f:FL md a b=cz)(k:∀s e w,Q (.panic s) (e.put d.dst v) w->Q (.panic s) e w)(r:YieldsIf P a S d v e)(l:S w)(h:oU P md a Q S m c (b.setIfInBounds i cz) (e.put d.dst v) w):oU P md a Q S m (c+1) b e w:=Kw j g aI (Region.noSelect_spec q) k c b e w (WI f) (Region.free_spec j n) (dV p) r l h
def gO(i:R){q:R}{o:Oper}{d:R}{c:Array eN}{j:Act}{w:Z}(h:∀K:Act->Z->Prop,(∀f e,(i<q->S e)->oU P md a Q S q d (c.setIfInBounds i cz) f e->K f e)->Oper.wp P o j w K Q)(l:a[i]?=M o:=by rfl)(k:o.guard=dE:=by rfl)(m:Region.ready md a c=[i]:=by kernel_rfl):oU P md a Q S q (d+1) c j w:=by
 refine⟨aI,λr g=>?_⟩;rw[m]at g;obtain rfl:r=i:=dV g;unfold wpOp;simp only[l];have n:Region.wanted o (yielded a j.tmps)=cz:=by simp[Region.wanted,k]
 rw[fW n];grind
def kS{m:R}{c:Array eN}{f:Act}{w:Z}(e:Region.ready md a c=[])(h:Q .normal f w):∀d,oU P md a Q S m d c f w
 |0=>⟨e,h⟩
 |_+1=>⟨λ_=>h,by rw[e];simp⟩
def kG(S:Z->Prop)(m:R){id:R}{d:Act}{w:Z}(c:P.follows .mixedOrders=cz)(h:oU P .any a Q S m a.size (Array.replicate a.size bD) d w.drew):(Code.region id a cz).wp P Q d w:=Bd c<|Co _ _ _ _ h
end
section
variable{P:Program}{a:Array Oper}{Q:Exit->Act->Z->Prop}{md:Region.Mode}{S:Z->Prop}
def wq(P:Program)(md:Region.Mode)(a:Array Oper)(Q:Exit->Act->Z->Prop)(S:Z->Prop)(m _ c:R)(b:Array eN)(d:Act)(w:Z):Prop:=oU P md a Q S m c b d w
def FF(md:Region.Mode)(a:Array Oper)(b:Array eN)(m k:R):eN:=decide (k<m)&&((List.range a.size).all λj=>decide (j<m)||Cz md a k a.size j)&&Region.noSelect a&&Region.free md a b k&&(Region.ready md a b).contains k&&FL md a b
def lX(k:R){m d:R}{c:Array eN}{e:Act}{w:Z}(h:wq P md a Q S m k d c e w):oU P md a Q S m d c e w:=h
def qj{k m d:R}{c:Array eN}{e:Act}{w:Z}(h:oU P md a Q S m d c e w):wq P md a Q S m k d c e w:=h
def vi{k m:R}{e:Oper}{v:ae}{d:R}{b:Array eN}{f:Act}{w:Z}(i:S w)(j:a[k]?=M e)(c:FF md a b m k=cz)(g:∀n f w,Q (.panic n) (f.put e.dst v) w->Q (.panic n) f w)(l:YieldsIf P a S e v f)(h:wq P md a Q S m (k+1) d (b.setIfInBounds k cz) (f.put e.dst v) w):wq P md a Q S m k (d+1) b f w:=by
 unfold FF at c;simp only[nP,rF]at c;exact Nf j c.1.1.1.1.1 c.1.1.1.1.2 c.1.1.1.2 c.1.1.2 c.1.2 c.2 g l i h
def QN{k o:R}{e:Oper}{v:ae}{d:R}{c:Array eN}{f:Act}{w:Z}(j:S w)(m:a[k]?=M e)(g:FF md a c o k=cz)(i:∀p f w,Q (.panic p) (f.put e.dst v) w->Q (.panic p) f w)(l:Region.wanted e (yielded a f.tmps)=cz)(n:∀w,S w->(execOp f.eval e).run P w=.ok (.value v) w)(h:wq P md a Q S o (k+1) d (c.setIfInBounds k cz) (f.put e.dst v) w):wq P md a Q S o k (d+1) c f w:=vi j m g i (J ⟨l,n⟩) h
def zv{k n:R}{d:Oper}{v:ae}{c:R}{b:Array eN}{e:Act}{w:Z}(i:S w)(h:wq P md a Q S n (k+1) c (b.setIfInBounds k cz) (e.put d.dst v) w)(l:a[k]?=M d:=by rfl)(f:FF md a b n k=cz:=by kernel_rfl)(g:∀o e w,Q (.panic o) (e.put d.dst v) w->Q (.panic o) e w:=by exact wP)(j:Region.wanted d (yielded a e.tmps)=cz:=by rfl)(m:∀w,S w->(execOp e.eval d).run P w=.ok (.value v) w:=by intro q m9;(repeat obtain⟨_,m9⟩:=m9);go_simp;try rfl):wq P md a Q S n k (c+1) b e w:=QN i l f g j m h
end
section
open Conc.Locks
def Y5:MuLink where
 lock:=47
 unlock:=48
 ilock:=101
 iunlock:=102
 lockSlow:=155
 unlockSlow:=158
 disable:=151
 enable:=153
 acquire:=154
 relMerge:=156
 cas32:=152
 add32:=157
 tMutex:=101
 tIMutex:=99
 tPMutex:=214
 tPIMutex:=292
 tPI32:=294
 tUP:=179
 tNoCopy:=96
 tU32:=97
def R6:MuLib bN Y5:=by
 constructor<;>first|kernel_rfl|(intro w;kernel_rfl)
def ng(a:Addr)(w:Z)(b:bA w a=M (iD 0))(c:iI w a=bD):cR bN 47 #[ee<|M a] w λe d=>e=aN (de #[])/\d=cP w a (iD 1):=MuLone.lock_free R6 a w b c
def zbg(a:Addr)(u:FrameMode)(w:Z)(b:bA w a=M (iD 1))(c:iI w a=bD):CallsD bN 48 #[ee<|M a] u w λf d e=>d=u/\(f=aN (de #[])/\e=cP w a (iD 0)):=MuLone.unlock_deferred R6 a u w b c
def fD{f:Func}{d:Array ae}{m8:Ending->Z->Prop}{g:Fn}{e c:Array ae}(k:bA a (X b 0)=M (iD 1))(l:iI a (X b 0)=bD)(h:Leaves bN f d m8 [] (settle .returning) (cP a (X b 0)<|iD 0))(i:(invoke (.fn g e) c).run bN a=.ok (.enter 48 #[aJ b]) a:=by(simp[go_sem])):Leaves bN f d m8 [{target:=.fn g e,args:=c}] .returning a:=leaves_cons ar i<|(zbg (X b 0) .returning _ k l).mono (by rintro n m j⟨rfl,rfl,rfl⟩;exact h)
end
def FU{P:Program}{d:Array Oper}{Q:Exit->Act->Z->Prop}{h:Region.Mode}{S:Z->Prop}{i j m:R}{k l:Oper}{c:Array eN}{n:Act}(q:d[i]?=M k)(r:d[j]?=M l)(o:k.guard=dE)(p:l.guard=dE)(s:Region.ready h d c=[i,j])(t:∀K:Act->Z->Prop,(∀f e,(i<m->S e)->oU P h d Q S m b (c.setIfInBounds i cz) f e->K f e)->Oper.wp P k n a K Q)(u:∀K:Act->Z->Prop,(∀f e,(j<m->S e)->oU P h d Q S m b (c.setIfInBounds j cz) f e->K f e)->Oper.wp P l n a K Q):oU P h d Q S m (b+1) c n a:=by
 refine⟨aI,λv g=>?_⟩;rw[s]at g;obtain rfl|g:=dy.1 g;unfold wpOp;simp only[q];rw[fW<|by simp[Region.wanted,o]];grind
 obtain rfl:v=j:=dV g;unfold wpOp;simp only[r];rw[fW<|by simp[Region.wanted,p]];grind
section
variable{P:Program}{a:Array Oper}{Q:Exit->Act->Z->Prop}{md:Region.Mode}
def KZ{n:R}{c:String}{b:Array ae}{w:Z}{m8:ae->Z->Prop}(h:Rows P c b w m8):RowsIn Fence.wide n P c b w m8:=λf d _=>let⟨v,e,r,s⟩:=h f d;⟨v,e,r,stepsIn_wide.2 s⟩
theorem Oper.Nc{o:Oper}{b:Act}{w:Z}{K:Act->Z->Prop}(n:R)(d:∀c,o.op≠ .defer c)(h:o.wp P b w K Q):o.wpIn Fence.wide n P b w K Q:=by
 unfold Oper.wpIn;refine⟨λf _=>trivial,?_⟩;rw[Oper.semAt_plain Fence.wide _ _ d];unfold Oper.wp at h;generalize(execOp b.eval o).run P w=r at*;cases r with
 |ok x e=>
  cases x<;>simp only[Oper.upon,Oper.uponIn]at h|-<;>first
   |exact h
   |exact⟨(λc=>(by cases c)),ew.2 h⟩
   |exact⟨(λc=>(by cases c)),KZ h⟩
   |exact h.elim
 |halt x e=>cases x<;>simp only[Oper.upon,Oper.uponIn]at h|-<;>exact h
def Ew{n:R}(k:∀(i:R)(o:Oper)c,a[i]?=M o->o.op≠ .defer c)(j:¬LetsOut Q):∀(b:R)(d:Array eN)(p:Act)(w:Z),wpAny P md a Q b d p w->wpAnyIn Fence.wide n P md a Q b d p w
 |0,_,_,_,h=>h
 |b+1,_,_,_,h=>⟨h.1,λi l=>by
  have e:=wY (λf m g=>Ew (n:=n) k j b _ f m g)<|h.2 i l;unfold wpOp at e;unfold wpOpIn;cases ho:a[i]? with
  |none=>grind
  |some o=>
   simp only[ho]at e|-;split
   .rename_i f;simp only[f,mT]at e;grind[Oper.Nc]
   .rename_i f;simp only[f]at e;exact⟨λ_ _=>trivial,e⟩⟩
def Du(S:Z->Prop)(m:R){n id:R}{b:Act}{w:Z}(e:P.follows .mixedOrders=cz)(d:FE a=cz)(c:∀b w,¬Q .outgrown b w)(h:mi P .any a Q S m a.size (Array.replicate a.size bD) b w.drew):(Code.region id a cz).wpIn Fence.wide n P Q b w:=wpIn_region_any e<|Ew (yw d) (λ⟨b,w,h⟩=>c b w h) _ _ _ _<|qy _ _ _ _ h
end
section
open Extern.Stop Stop Extern
def Mf(m n:Y)(a:m≠n)(w:Z):(binOp .eql 44 (.iface 47<|ay m)<|.iface 47<|ay n).run bN w=.ok (aO bD) w:=by
 let⟨i,c,b⟩:=rK.1 PJ;have h:∀d:R,(Op.equalIn (d+2) 44 (.iface 47<|ay m)<|.iface 47<|ay n).run bN w=.ok bD w:=λd=>by simp[Op.equalIn,eV underlying44,eV underlying47,typeInfo,c,b,a]
 simp only[binOp];simp[Op.equal,Op.maxDepth,h 9998]
def zca(v:ae)(a:TypeId)(w:Z):(Instr.typeAssert (.iface 47 v) a 324 cz).run bN w=.ok (de #[ic,aO bD]) w:=run_typeAssert_lacksB underlying324 aH aH v a w
def zbz(v:ae)(a:TypeId)(w:Z):(Instr.typeAssert (.iface 47 v) a 263 cz).run bN w=.ok (de #[ic,aO bD]) w:=run_typeAssert_lacksB underlying263 aH aH v a w
def zby(v:ae)(a:TypeId)(w:Z):(Instr.typeAssert (.iface 47 v) a 264 cz).run bN w=.ok (de #[ic,aO bD]) w:=run_typeAssert_lacksB underlying264 aH aH v a w
def Sy(a:R)(m n:Y)(b:m≠n)(w:Z)(h:bA w (X a 1)=M (ay m)):cR bN 123 #[.iface 155<|aJ a,.iface 47<|ay n,aO cz] w λe c=>e=aN (aO bD)/\c=w:=by
 have:∀w,(binOp .eql 44 (.iface 155<|aJ a)<|.iface 47<|ay n).run bN w=.ok (aO bD) w:=λw=>run_eql_iface_types _ _ _ _ underlying44 cg w;have:=Mf m n b;have:=AU;have:=zcb;have:=KA;have:=zca;have:=zbz;have:=zby;have:=yz;have d:=Bv a m w h;go_in
 go_wp2;refine iX 2 ?_;rw[io];go_wp21;go_call d as e c⟨rfl,rfl⟩;go_wp2;rw[io];go_wp2;go_ret;simp_all
def CR(a:R)(m n:Y)(b:m≠n)(w:Z)(h:bA w (X a 1)=M (ay m)):cR bN 71 #[.iface 155<|aJ a,.iface 47<|ay n] w λe c=>e=aN (aO bD)/\c=w:=by
 have:=AU;have:=@fG bN 122 _ ReflectliteType.typeOf func122 aH aH aH aH;have:=@fG bN 355 _ (ReflectliteType.method (λt=>do Rtype.noPackHeld "Comparable" t;pure (aO (<-typeInfo t).comparable))) func355 aH aH aH aH;have:=ym;have:=ur;have:=zV;have d:=Sy a m n b w h;go_in
 go_wp21;go_call d as e c⟨rfl,rfl⟩;go_wp2;go_ret;simp_all
end
def tZ.gu{v u:ae}{o:kW}(l:e.heap[b]?=M (aK #[v,w,aO V] 54 (0,0)))(k:gD (G<|H e) e P)(m:mF P u o)(n:∀g,cN u=M g->g<G (H P))(f:cN u≠M b):tZ (cP P (X b 0) u) b (cN u) o V w/\e.grownBy (cP P (X b 0) u) (M b):=by
 have h:=eG P b 0 u;have j:P.heap[b]?=M (aK #[v,w,aO V] 54 (0,0)):=k.block b (az l)▸l;exact⟨⟨⟨u,by rw[aY j];rfl,Row.dF m h<|J f,z⟩,f,λg b=>au (n g b) h.size⟩,Aa (Qj k _) h⟩
def Lf(r:Option R){aa:kW}{c:vX}(h:tZ a b r aa V w)(Q:Cf a d c)(m:∀k,cN d=M k->k<G (H a))(hr:y aa+y c<=1000000000000):cR bN 39 #[aJ b,d] a λu W=>
 u=aN (ay<|if V then 6 else gT c)/\(∃e,tZ W b e (if V=bD/\gT c=0 then WD aa c else aa) V w/\(e=r\/∀k,e=M k->G (H a)<=k))/\a.grownBy W (M b):=by
 have O:=ak h
 let⟨⟨ad,l,S,t⟩,p,o⟩:=h
 have C:=aX l 0
 have:=aX l 2
 have D:=cV (i:=0) l
 have q:b<G (H a):=az l
 let⟨HH,N,HL,v,x,A,B⟩:=zY l S (show∀k,cN ad=M k->k<G (H a)fromλk c=>o k<|t▸c) Q m (show cN ad≠M b from t▸p) t
 clear l S t o Q m p
 cases V with
 |true=>
  go_in
  go_wp2;go_ret;exact⟨z,⟨r,O,J z⟩,vG _ _⟩
 |false=>
  by_cases s:gT c=0
  .have ac:(gT c==0)=cz:=by rw[s];rfl
   have:gT c=0:=s;clear s;obtain rfl|⟨al,F,ab,rfl⟩:=N.fS;all_goals
    go_in
    go_wp21;go_call Ek v U as u w0⟨rfl,rfl⟩;go_wp21;go_call ZW c N HL v x hr as u w1⟨K,rfl,g,n,j,e⟩;have:iI w1 (X b 0)=bD:=(e.frozen<|by exact q).trans D;have:bA w1 (X b 0)=_:=(e.cell<|by exact q).trans C;have f:cN K≠M b:=λu=>by obtain h|h:=j;exact A<|h▸u;grind
    have L:=ak<|tZ.gu HH e g n f;have E:=g.fS;have HOr:=ak (show cN K=r\/∀k,cN K=M k->G (H w0)<=k from j.imp (λu=>u.trans B) id);clear g n e f j;obtain rfl|⟨b1,T,P,rfl⟩:=E;all_goals
     go_wp2;go_ret;exact⟨z,⟨_,L.1,HOr⟩,L.2⟩
  .have:(gT c==0)=bD:=nE.2 s;go_in
   go_wp21;go_call Ek v U as u w0⟨rfl,rfl⟩;go_wp2;go_ret;exact⟨z,⟨r,O,J z⟩,vG _ _⟩
def pN:(prog.info? 5).map (λi=>(i.zero,i.size,i.bytes))=M (M<|sC 0,1,1):=aH
def fA(w:Z)(b:R)(v:ae)(a:eD):Prop:=fE w b 5 1 v (y a)<|a.map<|Value.int .u8
def fA.of{w:Z}{bs:eD}(h:fE w b 5 1 d c Q)(a:c=y bs)(e:Q=bs.map (Value.int .u8)):fA w b d bs:=by
 subst a;subst e;exact h
def fA.km(w:Z)(a:R):fA w a aF []:=ct w a _ 1
def fA.aE{w:Z}{bs:eD}(h:fA w b d bs)(o:Obj):fA (dw w o) b d bs:=bC h o
def le:R->Y->eD
 |0,_=>[]
 |k+1,n=>n%256::le k (n/256)
theorem dh(k:R):∀n,y (le k n)=k:=by
 induction k with
 |zero=>intro n;rfl
 |succ k a=>intro n;simp[le,a]
def kp(s:af):eD:=s.data.toList.map λb=>(b.toNat:Y)
def strCells_eq(s:af):Lib.strCells s=(kp s).map (Value.int .u8):=by simp[Lib.strCells,kp]
theorem ix(s:af):y (kp s)=s.size:=by simp[kp]
def wv(e:R)(v:ae)(f:eD)(o:Y)(w:Z)(c:fA w e v f)(q:e<=G (H w))(r:y f<=70368744177664):cR bN 225 #[v,sC o] w λp l=>∃d,p=aN d/\fA l e d (f++[o])/\fo w l v d:=by
 let⟨n,m,g,i,j⟩:=cZ pN;go_in
 go_wp2_with(first
  |(at_builtin;refine cq _ z _ _ 31 z e 5 n (.int .u8 0) 1 1 underlying31 m g i j z cg _ _ _ z (c.aE _) (X (G (H w)) 0) 1 1 [.int .u8 o] z z (rG _ _ _) ?c2 ?c3 ?c4 ?c5 ?_))
 intro u k;simp at k;subst k;rfl;omega;omega;simp;omega;intro d s b a;go_wp2;go_ret;exact⟨d,z,fA.of b ar ar,a.aE _⟩
def Ko(w:Z)(a:iF)(t:TypeId):∀j u,a[j]?=M u->bA (dw w<|aK a.toArray t) (((X (G<|H w) 0):Addr).add j)=M u:=by
 intro j u b;rw[dS];simp_all
def kU{n6:R}{v:ae}{bs:eD}(n:Y){w:Z}(c:fA w n6 v bs)(q:n6<=G (H w))(r:y bs<=70368744177664)(o:0<=n)(p:n<4294967296):cR bN 227 #[v,eI n] w λk j=>∃d,k=aN d/\fA j n6 d (bs++le 4 n)/\fo w j v d:=by
 let⟨m,l,e,f,g⟩:=cZ pN;go_in
 go_wp2_with(first
  |(at_builtin;refine cq _ z _ _ 31 z n6 5 m (.int .u8 0) 1 1 underlying31 l e f g z cg _ _ _ z (c.aE _) (X (G (H w)) 0) 4 4 ((le 4 n).map (Value.int .u8)) z z ?c1 ?c2 ?c3 ?c4 ?c5 ?_))
 (have k:(#[Value.int IntKind.u8<|n%256,Value.int IntKind.u8<|n/256%256,Value.int IntKind.u8<|n/65536%256,Value.int IntKind.u8<|n/16777216]:Array ae)=((le 4 n).map<|Value.int .u8).toArray:=by simp[le];omega);rw[k];exact Ko _ _ _;intro u i;simp[le]at i;obtain rfl|rfl|rfl|rfl:=i<;>rfl
 omega;omega;simp;omega;intro d s b a;go_wp2;go_ret;exact⟨d,z,fA.of b (by simp[le]) ar,a.aE _⟩
def ri(e:R)(v:ae)(g:eD)(s:af)(w:Z)(c:fA w e v g)(n:e<=G (H w))(p:y g<=70368744177664)(t:s.size<=255):cR bN 267 #[v,aw s] w λr m=>∃f,r=aN f/\fA m e f (g++(s.size:Y)::kp s)/\fo w m v f:=by
 let⟨q,o,j,k,l⟩:=cZ pN;go_in
 go_wp21;go_call wv e v g s.size w c n p as r x⟨u,rfl,i,d⟩
 go_wp2_with(first
  |(at_builtin;refine vh _ z _ _ 31 9 z e 5 q underlying31 underlying9 o j k l _ _ _ z i s z ?c1 ?c2 ?_))
 simp;omega;have:=d.dF.size;omega;intro f A b a;go_wp2;go_ret;exact⟨f,z,fA.of b (by simp[ix];omega) (by simp[strCells_eq]),d.aj a⟩
def QJ(a b:Y):0<=bits .xor .u32 a b:=(bounds_u32<|wf_bits .xor .u32 a b).1
def QK(a b:Y):bits .xor .u32 a b<4294967296:=bP<|(bounds_u32<|wf_bits .xor .u32 a b).2
def zal(x:Y)(a:0<=x)(b:x<4294967296):bits .and .u32 x 15=x%16:=by
 have:=bits_mask .u32 32 cg wraps_u32 4 cg x a U;grind
def N0(k:R):Y:=([0,498536548,997073096,651767980,1994146192,1802195444,1303535960,1342533948,3988292384,4027552580,3604390888,3412177804,2607071920,2262029012,2685067896,3183342108]:eD).getD k 0
def Steps(w:Z):Prop:=∀k,k<16->bA w (X 1 k)=M (eI<|N0 k)
def Steps.dD{B:R}(h:Steps a)(c:gD B a e)(b:1<B):Steps e:=λk d=>(c.cell<|by exact b).trans<|h k d
def Uj(c:Y):Y:=bits .xor .u32 (c/16)<|N0 (c%16).toNat
def Dg(m9 x:Y):Y:=Uj<|Uj<|bits .xor .u32 m9<|x%4294967296
def Aj(a:eD):Y:=a.foldl Dg 4294967295
def pu(a:eD):Y:=bits .xor .u32 IntKind.u32.max<|Aj a
def Td(m9 x:Y):0<=Dg m9 x:=QJ _ _
def Te(m9 x:Y):Dg m9 x<4294967296:=QK _ _
def PV(a:eD):0<=Aj a/\Aj a<4294967296:=by
 unfold Aj;obtain rfl|⟨l,x,rfl⟩:=zh a;simp;rw[zi,jS];exact⟨Td _ _,Te _ _⟩
def Ii(a:eD):0<=pu a:=QJ _ _
def Mo(a:eD):pu a<4294967296:=QK _ _
def Tc(a:eD)(k:R)(h:k<y a):Aj (a.take<|k+1)=Dg (Aj<|a.take k) a[k]:=by
 unfold Aj;rw[aG h,jS];rfl
theorem D7(m c:R)(b:eD)(g:R)(i:Steps a)(j:∀k,k<y b->bA a (X m<|c+k)=M (sC<|b[k]?.getD 0))(f:y b<=140737488351232):cR bN 186 #[bX m c (y b) g] a λn l=>n=aN (eI<|pu b)/\l=a:=by
 have:=QJ;have:=QK;have:=zal;have:∀x:Y,bA a (X 1<|(x%16).toNat)=M (eI<|N0 (x%16).toNat):=λx=>i _ U;go_in
 go_wp2;go_loop [3,8,5] (λa i x=>∃(k:R),k<=y b/\i=ay k/\a=eI (Aj<|b.take k)) (λ_ i _=>y b-(intOf i).toNat)
 exact⟨0,bQ _,z,z⟩;obtain⟨k,o,rfl,rfl⟩:=hrel;have:=PV<|b.take k;by_cases e:k<y b;(.have:=j k e;have d:Hid (Aj (b.take<|k+1)=Dg (Aj<|b.take k) b[k]):=Tc b k e;generalize Aj (b.take k)=m9 at*;go_wp2;(go_round);exact⟨k+1,U,dM,by rw[d.out];rfl⟩;simp[intOf];omega);go_wp2;go_ret;have d:b.take k=b:=aI;rw[d];exact⟨z,z⟩
def Bytes(w:Z)(v:ae)(b:eD):Prop:=(v=aF/\b=[])\/∃d a c,v=bX d a (y b) c/\y b<=c/\∀k,k<y b->bA w (X d<|a+k)=M (sC<|b[k]?.getD 0)
def fA.bB{w:Z}{bs:eD}(h:fA w b d bs):Bytes w d bs:=by
 unfold fA at h;obtain⟨rfl,i⟩|⟨g,a,e,rfl,_,_,c,_⟩:=h.2;exact J ⟨z,bG i⟩;refine bu ⟨g,0,a,z,c,λk j=>?_⟩;have:=h.cells (g:=g) z k (sC<|bs[k]?.getD 0) (by simp[j]);grind[Addr.add_lit]
def Bytes.dD{B:R}(h:Bytes a d m)(i:gD B a e)(g:∀k,cN d=M k->k<B):Bytes e d m:=by
 obtain⟨rfl,rfl⟩|⟨o,b,c,rfl,f,j⟩:=h;exact J ⟨z,z⟩;exact bu ⟨o,b,c,z,f,λk n=>(i.cell<|by exact g o z).trans<|j k n⟩
def sum_nil(w:Z):cR bN 186 #[aF] w λe a=>e=aN (eI<|pu [])/\a=w:=by
 go_in
 go_wp2;go_loop [3,8,5] (λc i x=>i=ay 0/\c=eI 4294967295) (λ_ _ _=>0)
 grind
 obtain⟨rfl,rfl⟩:=hrel;go_wp2;go_ret;exact⟨z,z⟩
def sX(v:ae)(b:eD)(w:Z)(h:Steps w)(e:Bytes w v b)(a:y b<=140737488351232):cR bN 186 #[v] w λg f=>g=aN (eI<|pu b)/\f=w:=by
 obtain⟨rfl,rfl⟩|⟨j,c,d,rfl,_,i⟩:=e;exact sum_nil w;grind[D7]
def zec(n:Y):le 4 (n%4294967296)++le 4 (n/4294967296)=le 8 n:=by
 simp[le];omega
def rj{n6:R}{v:ae}{bs:eD}(n:Y){w:Z}(a:fA w n6 v bs)(k:n6<=G (H w))(p:y bs<=35184372088832)(m:0<=n)(o:n<18446744073709551616):cR bN 224 #[v,bw n] w λj g=>∃f,j=aN f/\fA g n6 f (bs++le 8 n)/\fo w g v f:=by
 have i:Hid (le 4 (n%4294967296)++le 4 (n/4294967296)=le 8 n):=zec n;go_in
 go_wp21;go_call kU (n%4294967296) a k U U U as j r⟨q,rfl,c,b⟩;go_wp21;refine(kU (n/4294967296) c (bP b.dF.size) (by simp[dh];omega) U U).mono ?_;rintro j s⟨l,rfl,d,e⟩;go_wp2;go_ret;refine⟨l,z,?_,b.aj e⟩;rwa[cw,i.out]at d
def Gr(j:Steps a)(c:fA a b d m)(k:b<=G (H a))(o:y m<=35184372088832):cR bN 228 #[d] a λi f=>∃e,i=aN e/\fA f b e (m++le 4 (pu m))/\fo a f d e:=by
 have g:=Ii m;have c1:=Mo m;go_in
 go_wp21;go_call sX d m a j c.bB U as i q⟨rfl,rfl⟩;go_wp21;go_call kU (pu m) c k U g c1 as i r⟨p,rfl,l,n⟩;go_wp2;go_ret;simp_all
def Gq(n:Y)(w:Z)(b:0<=n)(c:n<=140737488351232):cR bN 254 #[ay n] w λe a=>e=aN (ay<|n+4)/\a=w:=by
 go_in
 go_wp2;go_ret;simp_all
def Rd(w:Z)(b:R)(a:eD)(m6:eN):Prop:=∃v,w.heap[b]?=M (aK #[v,aO m6] 380 (0,0))/\Bytes w v a/\∀k,cN v=M k->k<b
def Bytes.dF{w w':Z}{b:Option R}(h:Bytes w d m)(i:w.grownBy w' b)(f:cN d≠b\/cN d=dE):Bytes w' d m:=by
 obtain⟨rfl,rfl⟩|⟨k,a,c,rfl,e,g⟩:=h;exact J ⟨z,z⟩;refine bu ⟨k,a,c,z,e,λl j=>i.cell (g l j) ?_⟩;obtain h|h:=f;exact h;simp[cN]at h
def Bytes.aE{w:Z}{bs:eD}(h:Bytes w d bs)(o:Obj):Bytes (dw w o) d bs:=by
 obtain⟨rfl,rfl⟩|⟨g,a,b,rfl,c,j⟩:=h;exact J ⟨z,z⟩;refine bu ⟨g,a,b,z,c,λn k=>?_⟩;have e:=j n k;(have m:g<G (H w):=by by_cases i:g<G (H w);exact i;have:w.heap[g]?=dE:=aI;simp[World.cell?,this]at e);rw[<-e];grind[World.cell?_of_block,Below.heap_alloc]
def Bytes.ou{f b c n:R}{bs:eD}(h:Bytes a (bX f b (y bs) c) bs)(m:n<=y bs):Bytes a (bX f b n c) (bs.take n):=by
 obtain⟨h,_⟩|⟨j,e,d,h,i,g⟩:=h;cases h;cases h;(have k:y (bs.take n)=n:=by simp;omega);refine bu ⟨f,b,c,by rw[k],U,λo l=>?_⟩;rw[g o U,qx U]
def Bytes.Ed{f b c n:R}(h:Bytes a (bX f b (y m) c) m)(l:n<=y m):Bytes a (bX f (b+n) (y m-n)<|c-n) (m.drop n):=by
 obtain⟨h,_⟩|⟨i,e,d,h,g,j⟩:=h;cases h;cases h;refine bu ⟨f,b+n,c-n,ar,by simp;omega,λo k=>?_⟩;grind
def Bytes.lt{w:Z}{bs:eD}(h:Bytes w d bs)(n:bs≠[]):∀k,cN d=M k->k<G (H w):=by
 obtain⟨rfl,rfl⟩|⟨b,a,e,rfl,m,j⟩:=h;grind
 intro k c;simp[cN]at c;subst c;have g:=j 0 (by cases bs<;>simp_all);by_cases i:b<G (H w);exact i;have:w.heap[b]?=dE:=aI;simp[World.cell?,this]at g
def Vy{a:Addr}(h:cN (am (M a) b c)=M k):a.block=k:=by simpa[cN]using h
def oN(g:Bytes a d m)(e:∀k,cN d=M k->k<G (H a)):cR bN 176 #[d] a λl b=>l=aN (aJ<|G<|H a)/\Rd b (G<|H a) m bD/\b=dw a (aK #[d,aO bD] 380):=by
 have c:∀b,b=dw a (aK #[d,aO bD] 380)->Rd b (G<|H a) m bD:=by rintro b rfl;exact⟨d,jp _ _,g.aE _,e⟩
 have F:Hid (∀b,b=dw a (aK #[d,aO bD] 380)->Rd b (G<|H a) m bD):=c;obtain⟨rfl,rfl⟩|⟨o,f,i,rfl,j,n⟩:=g;(.clear e;(go_in);go_wp2;go_ret;exact⟨z,F.out _ z,z⟩);clear e;(go_in);go_wp2;go_ret;exact⟨z,F.out _ z,z⟩
def fZ(a:eD)(m6:eN)(n:R):eD×eN×eD:=if m6=cz\/y a<n then(a,cz,[])else(a.drop n,bD,a.take n)
def Rd.F5{m6:eN}(f:a.heap[b]?=M (aK #[d,aO m6] 380 (0,0)))(e:Bytes a d m)(c:∀k,cN d=M k->k<b):Rd (cP a (X b 1)<|aO cz) b m cz:=⟨d,by rw[aY f];rfl,e.dF (eG a b 1 _) aI,c⟩
def Rd.YI{m6:eN}(f:a.heap[b]?=M (aK #[d,aO m6] 380 (0,0)))(e:Bytes a w m)(c:∀k,cN w=M k->k<b):Rd (cP a (X b 0) w) b m m6:=⟨w,by rw[aY f];rfl,e.dF (eG a b 0 _) aI,c⟩
def Nk{m6:eN}(n:R)(h:Rd a b m m6)(O:y m<=140737488351232)(L:n<=1000000):cR bN 276 #[aJ b,ay n] a λj A=>∃x,j=aN x/\Rd A b (fZ m m6 n).1 (fZ m m6 n).2.1/\Bytes A x (fZ m m6 n).2.2/\cN x≠M b/\a.grownBy A (M b):=by
 let⟨K,k,q,t⟩:=h;have HB:Hid (Bytes a K m):=q;have:=aX k 0;have:=aX k 1;have:=cV (i:=0) k;have:=cV (i:=1) k;have p:Hid (a.heap[b]?=M (aK #[K,aO m6] 380 (0,0))):=k;have f:Hid (∀k,cN K=M k->k<b):=t;by_cases g:m6=cz\/y m<n
 .have e:Hid (fZ m m6 n=(m,cz,[])):=by unfold Hid fZ;rw[fW g]
  have o:Rd (cP a (X b 1)<|aO cz) b m cz/\a.grownBy (cP a (X b 1)<|aO cz) (M b):=⟨Rd.F5 p.out HB.out f.out,eG _ _ _ _⟩;have F:Hid (Rd (cP a (X b 1)<|aO cz) b m cz/\a.grownBy (cP a (X b 1)<|aO cz) (M b)):=o;have w:Bytes (cP a (X b 1)<|aO cz) aF []:=J ⟨z,z⟩;have N:Hid (Bytes (cP a (X b 1)<|aO cz) aF []):=w;cases m6 with
  |true=>
   go_in
   go_wp2;go_ret;exact⟨_,z,e.out▸F.out.1,e.out▸N.out,by simp[cN],F.out.2⟩
  |false=>
   have l:y m<n:=dV g;obtain⟨rfl,rfl⟩|⟨B,c,d,rfl,s,D⟩:=q;all_goals
    go_in
    go_wp2;go_ret;exact⟨_,z,e.out▸F.out.1,e.out▸N.out,by simp[cN],F.out.2⟩
 (have e:Hid (fZ m m6 n=(m.drop n,bD,m.take n)):=by unfold Hid fZ;rw[fN g]);let⟨E,l⟩:=not_or.1 g;obtain rfl:m6=bD:=dV E;obtain⟨rfl,rfl⟩|⟨B,c,d,rfl,s,D⟩:=q;(.obtain rfl:n=0:=dV l;have w:Bytes a aF []:=J ⟨z,z⟩;have o:=Rd.YI p.out w f.out;(go_in);go_wp2;go_ret;exact⟨_,z,e.out▸o,e.out▸J ⟨z,z⟩,λj=>tj _<|f.out _ j,eG _ _ _ _⟩);by_cases r:d=n;(.subst r;(have C:m.drop d=[]:=by simp;omega);have:y m=d:=U;have u:Bytes a (bX B c 0 0) (m.drop d):=bu ⟨B,c,0,by rw[C];rfl,by rw[C];simp,aI⟩;have v:=(Bytes.ou HB.out (n:=d) U).dF (eG a b 0<|bX B c 0 0)<|J<|λj=>tj _<|f.out _ j;have o:=Rd.YI p.out u f.out;(go_in);go_wp2;go_ret;exact⟨_,z,e.out▸o,e.out▸v,λj=>tj _<|f.out _ j,eG _ _ _ _⟩);have u:=Bytes.Ed HB.out (n:=n) U;have v:=(Bytes.ou HB.out (n:=n) U).dF (eG a b 0<|bX B (c+n) (y m-n)<|d-n)<|J<|λj=>tj _<|f.out _ j;have o:=Rd.YI p.out u f.out;(go_in);go_wp2;go_ret;exact⟨_,z,e.out▸o,e.out▸v,λj=>tj _<|f.out _ j,eG _ _ _ _⟩
def kj(bs:eD):Prop:=∀x∈bs,0<=x/\x<256
def kj.ou{bs:eD}(h:kj bs)(n:R):kj (bs.take n):=λx a=>h x<|iy a
def kj.pO(h:kj m)(n:R):kj (m.drop n):=λx a=>h x<|mV a
def kj.jO{b:eD}(h:kj m)(k:kj b):kj (m++b):=λx a=>(aP.1 a).elim (h x)<|k x
def kj.lP{m6:eN}{n:R}(h:kj m):kj (fZ m m6 n).1/\kj (fZ m m6 n).2.2:=by
 unfold fZ;split;exact⟨h,λx a=>by cases a⟩;exact⟨h.pO n,h.ou n⟩
def je(a:eD)(m6:eN)(n:R):y (fZ a m6 n).1<=y a/\y (fZ a m6 n).2.2<=n:=by
 unfold fZ;grind
def kj.le(k:R):∀n,kj (le k n):=by
 induction k with
 |zero=>intro n x a;cases a
 |succ k b=>
  intro n x a;obtain rfl|a:=dy.1 a
  .omega
  .exact b _ x a
def kj.XI(s:af):kj (kp s):=by
 intro x a;obtain⟨b,_,rfl⟩:=cC.1 a;have:=b.toNat_lt;omega
def jw:eD->Y
 |[]=>0
 |x::r=>x+256*jw r
def wB:∀(l:eD),kj l->0<=jw l/\jw l<256^y l
 |[],_=>by simp[jw]
 |x::r,h=>by
  have:=h x<|.head _;have:=wB r<|λa b=>h a<|.tail _ b;simp only[jw,bK,Cl];omega
def Hj:∀(l:eD)(x:Y),jw (l++[x])=jw l+x*256^y l
 |[],x=>by simp[jw]
 |g9::r,x=>by
  simp only[dt,jw,bK,Cl,Hj r x];grind
def xP:∀(k:R)(n:Y),0<=n->jw (le k n)=n%256^k
 |0,n,_=>by simp[jw,le]
 |k+1,n,h=>by
  simp only[le,jw,xP k (n/256) U,Cl];obtain⟨m,rfl⟩:=lL h;have:=Nat.mod_mul (x:=m) (a:=256) (b:=256^k);rw[Int.mul_comm (256^k) 256];grind
def H8(h:kj m)(i:y m<=8)(k:R)(d:k<y m):jw (m.take<|k+1)=bits .or .u64 (jw<|m.take k) (IntKind.u64.wrap<|m[k]*2^(8*k)):=by
 have c:=wB (m.take k)<|h.ou k;have e:y (m.take k)=k:=by simp;omega
 rw[aG d,Hj,e];rw[e]at c;have l:=h m[k]<|aB d;have g:(256:Y)^k=2^(8*k):=by rw[Int.pow_mul];rfl
 rw[g]at c|-;have j:(0:Y)<2^(8*k):=Int.pow_pos cg;have f:(2:Y)^(8*k)*256<=2^64:=by(have:(2:Y)^(8*k)*256=2^(8*k+8):=by rw[Int.pow_add];rfl);rw[this];exact_mod_cast Nat.pow_le_pow_right cg U
 have:m[k]*2^(8*k)<=255*2^(8*k):=Int.mul_le_mul_of_nonneg_right U U;have a:0<=m[k]*2^(8*k):=Int.mul_nonneg U U;have b:m[k]*2^(8*k)<2^64:=U;rw[wraps_u64 _ a b,bits_join_low .u64 64 cg wraps_u64 (8*k) _ _ c.1 c.2 U a (Int.mul_emod_left _ _) b]
def GQ{m6:eN}(n:R)(h:Rd a b m m6)(g:kj m)(C:y m<=140737488351232)(F:n<=8):cR bN 240 #[aJ b,ay n] a λD t=>D=aN (bw<|jw (fZ m m6 n).2.2)/\Rd t b (fZ m m6 n).1 (fZ m m6 n).2.1/\a.grownBy t (M b):=by
 go_in
 go_wp21;go_call Nk n h C U as D L⟨K,rfl,i,f,B,x⟩;have:=(je m m6 n).2;let⟨q,p,o⟩:=eU (g.lP (m6:=m6) (n:=n)).2 i x;generalize r:(fZ m m6 n).2.2=c at*;have l:=ak r;clear r;obtain⟨rfl,rfl⟩|⟨N,j,v,rfl,A,w⟩:=f;(.go_wp2;(go_loop [5,12,6,7] (λu s _ _=>s=ay 0/\u=bw 0) (λ_ _ _ _=>0));(grind);obtain⟨rfl,rfl⟩:=hrel;go_wp2;go_ret;exact⟨by rw[ag l];rfl,p,o⟩);go_wp2;(go_loop [5,12,6,7] (λu s _ _=>∃(k:R),k<=y c/\s=ay k/\u=bw (jw<|c.take k)) (λ_ s _ _=>y c-(intOf s).toNat));exact⟨0,bQ _,z,z⟩;obtain⟨k,E,rfl,rfl⟩:=hrel;by_cases e:k<y c;(.have:=w k e;have:=q c[k]<|aB e;have d:=ak<|H8 q U k e;generalize jw (c.take k)=m9 at*;go_wp2;(go_round);exact⟨k+1,U,dM,by rw[ag d]⟩;simp[intOf];omega);go_wp2;go_ret;have d:c.take k=c:=aI;rw[d];exact⟨by rw[ag l];rfl,p,o⟩
def Za(h:kj m)(a:y m<=b):jw m<256^b:=by
 have:=(wB m h).2;have:(256:Y)^y m<=256^b:=by exact_mod_cast Nat.pow_le_pow_right cg a
 omega
def dz(a:eD)(m6:eN)(n:R):Y:=jw (fZ a m6 n).2.2
def jV{m6:eN}{n:R}(h:kj m):0<=dz m m6 n/\dz m m6 n<256^n:=⟨(wB _ h.lP.2).1,Za h.lP.2 (je m m6 n).2⟩
def Hf{m6:eN}(h:Rd a b m m6)(c:kj m)(g:y m<=140737488351232):cR bN 177 #[aJ b] a λi d=>i=aN (bw<|dz m m6 8)/\Rd d b (fZ m m6 8).1 (fZ m m6 8).2.1/\a.grownBy d (M b):=by
 go_in
 go_wp21;go_call GQ 8 h c g U as i j⟨rfl,e,f⟩;go_wp2;go_ret;exact⟨z,e,f⟩
def GP{m6:eN}(n:R)(h:Rd a b m m6)(c:kj m)(f:y m<=140737488351232)(e:n<=8):cR bN 240 #[aJ b,ay n] a λg d=>g=aN (bw<|dz m m6 n)/\Rd d b (fZ m m6 n).1 (fZ m m6 n).2.1/\a.grownBy d (M b):=GQ n h c f e
def TM{k:IntKind}{b:Y}(h:r=b):Ending.returned (.int k r)=aN (.int k b):=by rw[h]
def vp(b:R)(m6:eN)(w:Z)(h:Rd w b m m6)(a:kj m)(f:y m<=140737488351232):cR bN 178 #[aJ b] w λg c=>g=aN (eI<|dz m m6 4)/\Rd c b (fZ m m6 4).1 (fZ m m6 4).2.1/\w.grownBy c (M b):=by
 have:0<=dz m m6 4:=(jV a).1;have:dz m m6 4<4294967296:=(jV a).2;go_in
 go_wp21;go_call GP 4 h a f U as g i⟨rfl,d,e⟩;go_wp2;go_ret;exact⟨TM U,d,e⟩
def Io{m6:eN}(h:Rd a b m m6)(c:kj m)(g:y m<=140737488351232):cR bN 187 #[aJ b] a λi d=>i=aN (sC<|dz m m6 1)/\Rd d b (fZ m m6 1).1 (fZ m m6 1).2.1/\a.grownBy d (M b):=by
 have:0<=dz m m6 1:=(jV c).1;have:dz m m6 1<256:=(jV c).2;go_in
 go_wp21;go_call GP 1 h c g U as i j⟨rfl,e,f⟩;go_wp2;go_ret;exact⟨TM U,e,f⟩
def Jm{m6:eN}(h:Rd a b m m6):cR bN 179 #[aJ b] a λf e=>f=aN (aO m6)/\e=a:=by
 let⟨v,c,g,d⟩:=h;have:=aX c 1;go_in
 go_wp2;go_ret;simp_all
def Af{m6:eN}(h:Rd a b m m6)(n:y m<=140737488351232):cR bN 180 #[aJ b] a λk j=>k=aN (aO<|!m6&&m.isEmpty)/\j=a:=by
 let⟨v,d,f,i⟩:=h;have:=aX d 0;have:=aX d 1;cases m6 with
 |true=>
  go_in
  go_wp2;go_ret;simp_all
 |false=>
  obtain⟨rfl,rfl⟩|⟨o,c,e,rfl,g,l⟩:=f
  .go_in
   go_wp2;go_ret;simp_all
  .cases m with
   |nil=>
    go_in
    go_wp2;go_ret;simp_all
   |cons x r=>
    have:((y (x::r):Y)==0)=bD:=by simp;omega
    go_in
    go_wp2;go_ret;simp_all
def qM(a:eD):af:=⟨(a.map λx=>UInt8.ofNat x.toNat).toArray⟩
def yi(s:af):qM (kp s)=s:=by
 have e:((λx:Y=>UInt8.ofNat x.toNat)∘λb:UInt8=>(b.toNat:Y))=id:=by funext b;simp
 unfold qM kp;rw[iW,e,wg]
def nQ(a:eD)(m6:eN):eD×eN×eD:=let b:=fZ a m6 1;fZ b.1 b.2.1 (dz a m6 1).toNat
def Tf(g:Bytes a d m)(f:kj m):(convert 31 9 d).run bN a=.ok (aw<|qM m) a:=by
 obtain⟨rfl,rfl⟩|⟨k,b,e,rfl,i,h⟩:=g;exact Lib.run_convert_nil_bytes a _ _ 5 0 underlying31 underlying5 underlying9;have:=xV (P:=bN) a 31 9 5 (X k b) e (m.map λx=>UInt8.ofNat x.toNat) underlying31 underlying5 underlying9 (λj c=>by simp at c;rw[dS,h j c];have l:=f m[j]<|aB c;simp[c];omega);simpa[qM]using this
def Cq{m6:eN}(h:Rd a b m m6)(c:kj m)(s:y m<=140737488351232):cR bN 241 #[aJ b] a λk g=>k=aN (aw<|qM (nQ m m6).2.2)/\Rd g b (nQ m m6).1 (nQ m m6).2.1/\a.grownBy g (M b):=by
 have d:0<=dz m m6 1:=(jV c).1;have:dz m m6 1<256:=(jV c).2;go_in
 go_wp21;go_call Io h c s as k v⟨rfl,l,o⟩;let⟨n,e⟩:=lL d;have f:(nQ m m6)=fZ (fZ m m6 1).1 (fZ m m6 1).2.1 n:=by unfold nQ;simp[e]
 have:=(je m m6 1).1;have i:=ak (c.lP (m6:=m6) (n:=1)).1;have:n<256:=U;have j:=ak e;clear e;go_wp21;rw[ag j];go_call Nk n l U U as k w⟨u,rfl,p,q,t,r⟩;have:=Tf q i.lP.2;go_wp2;go_ret;exact⟨by rw[f];rfl,by rw[f];exact p,Aa o r⟩
def Bytes.df{w w':Z}(h:Bytes w d m)(n:w'.heap=w.heap):Bytes w' d m:=by
 obtain⟨rfl,rfl⟩|⟨k,b,e,rfl,g,i⟩:=h;exact J ⟨z,z⟩;exact bu ⟨k,b,e,z,g,λl j=>by rw[<-i l j];grind[World.cell?_of_block]⟩
def Rd.df{w w':Z}{m6:eN}(h:Rd w b m m6)(i:w'.heap=w.heap):Rd w' b m m6:=by
 let⟨v,d,e,g⟩:=h;exact⟨v,i▸d,e.df i,g⟩
def Steps.df{w w':Z}(h:Steps w)(e:w'.heap=w.heap):Steps w':=λk b=>by
 rw[<-h k b];grind[World.cell?_of_block]
def Steps.dF{w w':Z}{a:Option R}(h:Steps w)(c:w.grownBy w' a)(b:a≠M 1):Steps w':=λk d=>c.cell (h k d)<|λe=>b e.symm
def Steps.aE{w:Z}(h:Steps w)(o:Obj):Steps (dw w o):=λk c=>by
 have a:=h k c;have d:1<G (H w):=by by_cases b:1<G (H w);exact b;have:w.heap[(1:R)]?=dE:=aI;simp[World.cell?,this]at a
 rw[<-a];grind[World.cell?_of_block,Below.heap_alloc]
def Steps.lt{w:Z}(h:Steps w):1<G (H w):=by
 have a:=h 0 cg;by_cases c:1<G (H w);exact c;have:w.heap[(1:R)]?=dE:=aI;simp[World.cell?,this]at a
def P5(u:ae):Prop:=(∃b,u=aO b)\/∃x n c,u=am x n c
def yQ(w:Z)(v:ae):Prop:=∀k a t b,cN v=M k->w.heap[k]?=M (aK a t b)->∀u∈a.toList,P5 u
def yQ.aA{S:fC}{w w':Z}(h:yQ w d)(n:I S w w')(g:∀k,cN d=M k->¬S k)(m:∀k,cN d=M k->k<G (H w)):yQ w' d:=λk a t e c j=>h k a t e c<|(n.A k (m k c)<|g k c).symm.trans j
theorem Je{m9:Array ae}(g:∀x∈m9.toList,P5 x)(e:0<m9.size)(a:d∈(Builtin.zeroCells m9 b).toList):P5 d:=by
 unfold Builtin.zeroCells at a;let⟨i,_,f⟩:=Array.mem_map.1<|Array.mem_toList_iff.1 a;have c:i%m9.size<m9.size:=ol _ e;rw[Array.getElem!_eq_getD,Array.getD_eq_getD_getElem?,Array.getElem?_eq_getElem c,lf]at f;rw[<-f];grind
theorem xG{P:Program}{al:Oper}{ax:Act}{bb:Act->Z->Prop}{bf:Exit->Act->Z->Prop}(bd aD:Operand)(an:TypeId)(aa:al.op=Op.call {callee:=Callee.builtin Builtin.append,args:=#[bd,aD],argTypes:=#[an,an]})(T:R)(F:TypeId)(Q:TypeInfo)(m9:ae)(c bytes:R)(O:P.underlying an=M (.slice F))(L:P.info? F=M Q)(hz:Q.zero=M m9)(j:Q.size=c)(B:Q.bytes=bytes)(ad:m9.cells.size=c)(ab:0<c)(av:ae)(S:R)(v:iF)(hs:ax.eval bd=av)(h:fE a T F c av S v)(s:Addr)(E ao:R)(b:iF)(hx:ax.eval aD=am (M s) E ao)(D:y b=E*c)(e:∀ap u,b[ap]?=M u->bA a (s.add ap)=M u)(h1:∀u∈b,u.oneCell'=cz)(hn:S+E<=140737488355328)(d:(S+E)*bytes<=140737488355328)(m:T<=G (H a))(hm:0<E)(kz:∀u∈m9.cells.toList,P5 u)(kn:∀u∈b,P5 u)(ko:yQ a av)(hK:∀q r,fE r T F c q (S+E) (v++b)->fo a r av q->yQ r q->bb (ax.put al.dst q) r):Oper.wp P al ax a bb bf:=by
 let⟨q,r,N,h2,h3,_,h5⟩:=oX (P:=P) a T an al.type F Q m9 c bytes O L hz j B ad ab av S v h s E ao b D e h1 (by unfold maxLen;omega) d m;have n:yQ r q:=by subst j;subst B;obtain⟨rfl,rfl⟩|⟨V,l,g,rfl,aU,K,ba,aV,W,p⟩:=h.2;(have f:=run_append_nil (P:=P) a an al.type F Q m9 O L hz s E ao b D e hm U<|zZ d;rw[N]at f;injection f with x A;intro bc g t' fr n t u k;subst x A;cases n;have C:=(jp a.drew _).symm.trans t;grind[Array.toList_append,Je]);by_cases i:S+E<=l;((have o:S*Q.size+y b<=g.size:=by rw[D,W,<-Nat.add_mul];exact Nat.mul_le_mul_right _ i);have f:=run_append_room (P:=P) a an al.type F Q O L V S l g K s E ao b D e h1 i o;rw[N]at f;injection f with x A;intro bc w t' fr n t u k;subst x A;cases n;rw[vZ a V g _ F _ K]at t;cases t;have:∀aD∈g.toList,P5 aD:=ko V g _ _ z K;grind);have o:∀ap u,v[ap]?=M u->bA a (((X V 0):Addr).add ap)=M u:=h.cells (g:=V) z;have f:=run_append_grow (P:=P) a an al.type F Q m9 O L hz (X V 0) S l v h.1 o s E ao b D e U U<|uT U d;rw[N]at f;injection f with x A;intro bc w t' fr n t u k;subst x A;cases n;have C:=(jp a.drew _).symm.trans t;cases C;rw[nG,aP,nG,aP]at k;obtain(k|k)|k:=k;have ac:u∈v:=dV k;rw[<-p]at ac;exact ko V g _ _ z K u aI;(grind);grind[Je]
 unfold Oper.wp;simp[execOp,aa,resolve,invoke,builtin,hs,hx,N,Result.andThen];exact hK q r h2 (fo.of h3 h5) n
def Br{P:Program}(w:Z){d:Array Oper}{c:cy Oper}{v:Oper}{q:Act}{Q:Exit->Act->Z->Prop}(B:v.guard=dE)(L N:Operand)(F:TypeId)(C:v.op=Op.call {callee:=Callee.builtin Builtin.append,args:=#[L,N],argTypes:=#[F,F]})(l:R)(r:TypeId)(s:TypeInfo)(m9:ae)(a bytes:R)(ht:P.underlying F=M (.slice r))(V:P.info? r=M s)(hz:s.zero=M m9)(k:s.size=a)(A:s.bytes=bytes)(E:m9.cells.size=a)(D:0<a)(x:ae)(t:R)(p:iF)(hs:q.eval L=x)(o:fE w l r a x t p)(n:Addr)(m O:R)(b:iF)(hx:q.eval N=am (M n) m O)(W:y b=m*a)(j:∀K u,b[K]?=M u->bA w (n.add K)=M u)(S:∀u∈b,u.oneCell'=cz)(hn:t+m<=140737488355328)(e:(t+m)*bytes<=140737488355328)(i:l<=G (H w))(hm:0<m)(kz:∀u∈m9.cells.toList,P5 u)(kn:∀u∈b,P5 u)(ko:yQ w x)(h:∀f g,fE g l r a f (t+m) (p++b)->fo w g x f->yQ g f->wpList P d Q c (q.put v.dst f) g):wpList P d Q (v::c) q w:=by
 grind[wpList_plain,xG]
structure uu where
 f:eN
 v:ae
 l:kW
def IH:cy uu->iF
 |[]=>[]
 |x::r=>.bool x.f::x.v::IH r
def Rg(a:cy uu):y (IH a)=y a*2:=by
 induction a with
 |nil=>rfl
 |cons x r b=>simp only[IH,bK,b];omega
theorem Cv:∀(a:cy uu)(j:R)(h:j<y a),(IH a)[j*2]?=M (aO a[j].f)/\(IH a)[j*2+1]?=M a[j].v
 |[],j,h=>absurd h<|yT _
 |x::r,0,_=>⟨z,z⟩
 |x::r,j+1,h=>by
  have b:=Cv r j<|dV h;have e:(j+1)*2=j*2+1+1:=U;rw[e];simp only[IH,qX,cF];exact b
structure Qt(w:Z)(sv:ae)(ss:cy uu):Prop where
 bV:Row w 2 sv (y ss) (IH ss)
 bZ:∀x∈ss,x.f=cz->mF w x.v x.l/\∀g,cN x.v=M g->g<G (H w)
 fS:∀x∈ss,∃p n c,x.v=am p n c
 f:y ss<=1000000000
def yQ.gu{v u:ae}{g i:R}{m:Array ae}{t:TypeId}{o:R×R}(h:yQ e v)(k:cN v=M g)(f:e.heap[g]?=M (aK m t o))(r:P5 u):yQ (cP e (X g i) u) v:=by
 intro w n s p j b x l;rw[k]at j;cases j;rw[aY f]at b;cases b;rw[pB]at l;obtain q|q:=jM l;exact h g _ _ _ k f x q;grind
def MF(a:cy uu)(n:Y):Option uu:=if n<1 then dE else match a[(n-1).toNat]? with
 |some x=>if x.f then M x else dE
 |none=>dE
def IY(a:cy uu)(n:Y):ae:=match MF a n with
 |some x=>.tuple #[x.v,.int .i64 0]
 |none=>.tuple #[aF,.int .i64 5]
def AK(C:Option R){N:kW}(c:cy uu)(t:Y)(h:tZ a b C N V d)(e:Qt a d c):cR bN 96 #[aJ b,ay t] a λL F=>L=aN (if V then .tuple #[aF,ay 6]else IY c t)/\F=a:=by
 let⟨⟨P,s,A,_⟩,_,_⟩:=h;have:=aX s 1;have:=aX s 2;have:=e.f;clear s A;cases V with
 |true=>
  clear e;go_in
  go_wp2;go_ret2
  simp_all
 |false=>
  by_cases n:t<1
  .have k:=ak (show IY c t=de #[aF,ay 5]by unfold IY MF;rw[fW n]);clear e;go_in
   go_wp2;go_ret2
   exact⟨k▸rfl,z⟩
  .obtain⟨j,rfl⟩:∃j:R,t=(j:Y)+1:=⟨(t-1).toNat,U⟩;have l:((j:Y)+1-1).toNat=j:=U;by_cases o:j<y c
   .let⟨q,r⟩:=Cv c j o;let⟨O,E,D,p⟩:=e.fS c[j]<|aB o;obtain⟨_,u⟩|⟨K,f,m,rfl,x,g⟩:=e.bV.2
    .omega
    have v:=g _ _ q;have B:=g _ _ r;rw[p,<-bJ]at B;have w:¬((y c:Y)<(j:Y)+1):=U;have:IntKind.i64.wrap ((j:Y)+1-1)=j:=by rw[bR];omega
    have:(j:Y)+1-1=j:=U;have:(j:Y)<(y c:Y):=U;have:¬((j:Y)+1<1):=n;cases hlv:c[j].f with
    |true=>
     have k:=ak (show IY c ((j:Y)+1)=de #[am O E D,ay 0]by unfold IY MF;rw[fN n,l,bF o];simp[hlv,p]);rw[hlv]at v;clear e g q r p hlv l;go_in
     go_wp2;go_ret2
     exact⟨k▸rfl,z⟩
    |false=>
     have k:=ak (show IY c ((j:Y)+1)=de #[aF,ay 5]by unfold IY MF;rw[fN n,l,bF o];simp[hlv]);rw[hlv]at v;clear e g q r p hlv l;go_in
     go_wp2;go_ret2
     exact⟨k▸rfl,z⟩
   .have k:=ak (show IY c ((j:Y)+1)=de #[aF,ay 5]by unfold IY MF;rw[fN n,l,mI U]);have:(y c:Y)<(j:Y)+1:=U;obtain rfl|⟨K,f,m,rfl⟩:=e.bV.fS
    .have:y c=0:=by
      obtain⟨_,u⟩|⟨K,f,m,g,_⟩:=e.bV.2
      .exact u
      .cases g
     have:(0:Y)<(j:Y)+1:=U;clear e l;go_in
     go_wp2;go_ret2
     exact⟨k▸rfl,z⟩
    .clear e l;go_in
     go_wp2;go_ret2
     exact⟨k▸rfl,z⟩
def FM{a:cy uu}{x:uu}(h:MF a r=M x):x∈a/\x.f=cz:=by
 unfold MF at h;split at h;cases h;split at h;rename_i d c;split at h;rename_i b;cases h;exact⟨iz c,b⟩;cases h;cases h
def BW(a:cy uu)(n:Y)(k:af):af×eN×Y:=match MF a n with
 |some x=>CS x.l k
 |none=>(⟨#[]⟩,bD,5)
def Li(r:Option R){v:kW}(e:cy uu)(n:Y)(k:af)(h:tZ a b r v V d)(f:Qt a d e)(t:∀x∈e,y x.l<=1000000000000)(l:k.size<=140737488351232):cR bN 89 #[aJ b,ay n,aw k] a λm u=>
 m=aN (if V then .tuple #[aw ⟨#[]⟩,aO bD,ay 6]else .tuple #[aw (BW e n k).1,aO (BW e n k).2.1,ay (BW e n k).2.2])/\u=a:=by
 have c:=AK r e n h f
 clear h
 cases V with
 |true=>
  simp only[mT]at c|-;clear f;go_in
  go_wp21;go_call c as m s⟨rfl,rfl⟩;go_wp2;go_ret3
  simp_all
 |false=>
  simp only[lj,mA]at c|-;cases hx:MF e n with
  |none=>
   have j:=ak (show BW e n k=(⟨#[]⟩,bD,5)by unfold BW;rw[hx]);have g:IY e n=de #[aF,ay 5]:=by unfold IY;rw[hx]
   rw[g]at c;clear f g hx;go_in
   go_wp21;go_call c as m s⟨rfl,rfl⟩;go_wp2;go_ret3
   exact⟨by rw[ag j];rfl,z⟩
  |some x=>
   let⟨i,p⟩:=FM hx;have j:=ak (show BW e n k=CS x.l k by unfold BW;rw[hx]);have g:IY e n=de #[x.v,ay 0]:=by unfold IY;rw[hx]
   rw[g]at c;have o:=Ue k (f.bZ x i p).1 (t x i) l;let⟨C,A,w,q⟩:=f.fS x i;rw[q]at c o;clear f g hx i p q;go_in
   go_wp21;go_call c as m s⟨rfl,rfl⟩;go_wp21;go_call o as m B⟨rfl,rfl⟩;go_wp2;go_ret3
   exact⟨by rw[ag j];rfl,z⟩
def IK(t:Option R){B:kW}(f:cy uu)(p:Y)(o m:af)(c:Y)(h:tZ a b t B V d)(g:Qt a d f)(A:∀x∈f,y x.l<=1000000000000):cR bN 91 #[aJ b,ay p,aw o,aw m,ay c] a λq u=>
 ∃e,q=.returned (.tuple #[e,.int .i64<|if V then 6 else if(MF f p).isSome then 0 else 5])/\qE u (G<|H a) e (if V then []else match MF f p with|some x=>Ba x.l o m c|none=>[])/\gD (G<|H a) a u:=by
 have e:=AK t f p h g
 clear h
 cases V with
 |true=>
  simp only[mT]at e|-;clear g;go_in
  go_wp21;go_call e as q v⟨rfl,rfl⟩;go_wp2;go_ret2
  exact⟨_,z,ct _ _ _ _,Below.refl _ _⟩
 |false=>
  simp only[lj,mA]at e|-;cases hx:MF f p with
  |none=>
   have l:IY f p=de #[aF,ay 5]:=by unfold IY;rw[hx]
   rw[l]at e;clear g l hx;simp only[Option.isSome_none,lj,mA];go_in
   go_wp21;go_call e as q v⟨rfl,rfl⟩;go_wp2;go_ret2
   exact⟨_,z,ct _ _ _ _,Below.refl _ _⟩
  |some x=>
   let⟨k,n⟩:=FM hx;have l:IY f p=de #[x.v,ay 0]:=by unfold IY;rw[hx]
   rw[l]at e;have r:=EW o m c (g.bZ x k n).1 (g.bZ x k n).2<|A x k;let⟨N,D,C,s⟩:=g.fS x k;rw[s]at e r;clear g l hx k n s;simp only[Option.isSome_some,mT];go_in
   go_wp21;go_call e as q v⟨rfl,rfl⟩;go_wp21;go_call r as q L⟨K,rfl,i,j⟩;obtain⟨F,E,rfl⟩:=aM i;have w:=ak<|And.intro i j;clear i j;go_wp2;go_ret2
   exact⟨_,z,w⟩
theorem TE:∀(a:cy uu)(j:R)(x:uu),j<y a->IH (a.set j x)=((IH a).set (j*2)<|aO x.f).set (j*2+1) x.v
 |[],j,x,h=>absurd h<|yT _
 |g9::r,0,x,_=>rfl
 |g9::r,j+1,x,h=>by
  have b:=TE r j x<|dV h;have e:(j+1)*2=j*2+1+1:=U;rw[e];simp only[IH,eO,b]
def Dc:uu:=⟨bD,aF,[]⟩
def Yv{d:cy uu}(x:uu)(o:fE a b 204 2 (bX c 0 (y d) k) (y d) (IH d))(t:n<y d):fE (cP (cP a (X c<|n*2)<|aO x.f) (X c<|n*2+1) x.v) b 204 2 (bX c 0 (y d) k) (y<|d.set n x) (IH<|d.set n x):=by
 refine⟨Rg _,bu ?_⟩;obtain⟨f,s⟩|⟨r,l,q,f,h,m,e,j,g,p⟩:=o.2;cases f;cases f;refine⟨c,k,_,by rw[gA],h,aY<|aY m,by rw[gA];exact e,j,dV g,?_⟩;grind[Array.toList_setIfInBounds,take_set,length_set,TE]
def IL(k:Option R){p:kW}(f:cy uu)(n:Y)(h:tZ a b k p V d)(g:Qt a d f)(j:V=cz\/MF f n=dE):cR bN 43 #[aJ b,ay n] a λl m=>l=aN (ay<|if V then 6 else 5)/\m=a:=by
 have c:=AK k f n h g;clear h g;cases V with
 |true=>
  simp only[mT]at c|-;go_in
  go_wp21;go_call c as l o⟨rfl,rfl⟩;go_wp2;go_ret;simp_all
 |false=>
  have e:MF f n=dE:=j.elim (λq=>by cases q) id;have i:IY f n=de #[aF,ay 5]:=by unfold IY;rw[e]
  simp only[lj,mA]at c|-;rw[i]at c;clear j e i;go_in
  go_wp21;go_call c as l o⟨rfl,rfl⟩;go_wp2;go_ret;simp_all
def GA(F:Option R){ab:kW}(e:cy uu)(j:R)(W:uu)(h:tZ a b F ab bD d)(l:Qt a d e)(p:MF e ((j:Y)+1)=M W)(A:j<y e)(o:fE a c 204 2 d (y e) (IH e))(B:yQ a d):cR bN 43 #[aJ b,ay<|(j:Y)+1] a λaa t=>aa=aN (ay 0)/\fE t c 204 2 d (y<|e.set j Dc) (IH<|e.set j Dc)/\a.grownBy t (cN d)/\yQ t d:=by
 have f:=AK F e ((j:Y)+1) h l;have E:IY e ((j:Y)+1)=de #[W.v,ay 0]:=by unfold IY;rw[p]
 simp only[lj,mA]at f;let⟨ad,pn,pc,D⟩:=l.fS W (FM p).1;rw[E,D]at f;let⟨⟨al,x,_,_⟩,_,_⟩:=h;have:=aX x 1;have:=l.f;obtain⟨_,h0⟩|⟨N,L,V,rfl,O,m,P,Q,n,r⟩:=o.2;omega;let⟨v,w⟩:=Cv e j A;have k:∀i,iI a (X N i)=bD:=λi=>cV m;have:=k<|j*2;have:=k<|j*2+1;obtain⟨q,_⟩|⟨ac,s,u,q,C,g⟩:=l.bV.2;cases q;cases q;have S:=g _ _ v;have T:=g _ _ w;rw[ez]at S T;have K:=ak<|And.intro (Yv Dc o A) (And.intro (Aa (eG a N (j*2)<|aO Dc.f)<|eG _ N (j*2+1) Dc.v) ((B.gu (i:=j*2) z m<|J ⟨Dc.f,z⟩).gu (i:=j*2+1) z (aY m)<|bu ⟨dE,0,0,z⟩));have:IntKind.i64.wrap ((j:Y)+1-1)=j:=by rw[bR];omega
 have:(j:Y)+1-1=j:=U;have:(j:Y)<(y e:Y):=U;clear l p E D x o m n r g v w k B;go_in
 go_wp21;go_call f as aa w1⟨rfl,rfl⟩;clear f;go_wp2;go_ret;exact⟨z,K⟩
structure E where
 D:af
 l:af
 dP:eN
 f:Y
abbrev dB:=cy E
abbrev iG:=cy<|cy E
variable{S:E}
def e00:E:=⟨⟨#[]⟩,⟨#[]⟩,bD,0⟩
def kH(a b:af):eN:=Op.bytesLess a.toList b.toList
def Qh:∀(x b:cy UInt8),Op.bytesLess x b=decide (x<b)
 |[],[]=>by simp[Op.bytesLess]
 |_::_,[]=>by simp[Op.bytesLess]
 |[],_::_=>by simp[Op.bytesLess]
 |a::x,c::b=>by
  rw[Op.bytesLess,Qh x b];grind[cons_lt_cons_iff]
theorem Ao{b:af}(h:B.toList=b.toList):B=b:=by
 have u7:∀x:af,x.toList=x.data.toList:=λx=>uq x;rw[u7,u7]at h;cases B;simp_all
theorem jr(a:af):kH a a=bD:=by
 unfold kH;rw[Qh];simp
theorem mz{b c:af}(h:kH B b=cz)(k:kH b c=cz):kH B c=cz:=by
 unfold kH at*;rw[Qh]at*;grind
theorem td{b:af}(h:kH B b=cz):kH b B=bD:=by
 grind[mz,jr]
theorem ow{b:af}(h:kH B b=bD)(k:kH b B=bD):B=b:=by
 unfold kH at*;rw[Qh]at*;grind[Ao,List.le_antisymm]
theorem DW{b:af}(h:kH B b=cz):B≠b:=by
 grind[jr]
def DX{b c:af}(h:kH b B=bD)(k:kH b c=cz):kH B c=cz:=by
 grind[mz,ow]
theorem BT{b c:af}(h:kH B b=cz)(k:kH c b=bD):kH B c=cz:=by
 grind[mz,ow]
def VR{b c:af}(h:kH b B=bD)(k:kH c b=bD):kH c B=bD:=by
 grind[BT]
def LN(a:af):kH a ⟨#[]⟩=bD:=by
 unfold kH;rw[Qh];simp_all
def Tp(l:cy E):Prop:=l.Pairwise<|λa b=>kH a.D b.D=cz
def Tp.km:Tp []:=List.Pairwise.nil
def Tp.U4{l:cy E}(h:Tp (S::l)):Tp l:=(dp.1 h).2
def Tp.qp{l:cy E}(h:Tp (S::l)):∀b∈l,kH S.D b.D=cz:=(dp.1 h).1
def Tp.kE{l m:cy E}(h:Tp m)(s:l.Sublist m):Tp l:=oR s h
def Tp.Xx{l:cy E}(h:Tp l){e:E}(c:S∈l)(d:e∈l)(f:S.D=e.D):S=e:=by
 induction l with
 |nil=>cases c
 |cons x r g=>
  obtain b|b:=dy.1 c
  .obtain a|a:=dy.1 d
   .rw[b,a]
   .rw[b]at f;exact absurd f<|DW<|h.qp e a
  .obtain a|a:=dy.1 d
   .rw[a]at f;exact absurd f.symm<|DW<|h.qp S b
   .exact g h.U4 b a
variable{i:dB}{O:iG}
def ahead(a b:E):eN:=kH a.D b.D||(decide (a.D=b.D)&&decide (b.f<a.f))
theorem iT{b:E}:ahead S b=cz↔kH S.D b.D=cz\/(S.D=b.D/\b.f<S.f):=by
 unfold ahead;simp
theorem tY{b c:E}(h:ahead S b=cz)(k:ahead b c=cz):ahead S c=cz:=by
 rw[iT]at*;obtain h|⟨h,a⟩:=h<;>obtain k|⟨k,d⟩:=k;exact J<|mz h k;rw[<-k];exact J h;rw[h];exact J k;grind
theorem Di(a:E):ahead a a=bD:=by unfold ahead;simp[jr]
theorem nh{b:E}(h:ahead S b=cz):ahead b S=bD:=by
 grind[tY,Di]
theorem oM{b:E}(h:ahead b S=bD):kH b.D S.D=bD/\(b.D=S.D->b.f<=S.f):=by
 unfold ahead at h;grind
def VE{b:E}(h:kH b.D S.D=bD)(k:b.D=S.D->b.f<=S.f):ahead b S=bD:=by
 unfold ahead;grind
theorem yy{d g:E}(h:ahead d S=bD)(k:ahead g d=bD):ahead g S=bD:=by
 let⟨b,e⟩:=oM h;let⟨a,f⟩:=oM k;refine VE (VR b a)<|λi=>?_;have c:d.D=S.D:=by rw[i]at a;exact ow b a
 have:=e c;have:=f<|i.trans c.symm;omega
def nB(a:iG)(i:R):Option E:=(a[i]?.getD []).head?
def mr(a:iG):R->Option R
 |0=>dE
 |n+1=>match nB a n with
  |none=>mr a n
  |some e=>match mr a n with
   |none=>M n
   |some b=>if ahead e ((nB a b).getD e00)then M n else M b
theorem EY(h:mr O b=dE):∀i,i<b->nB O i=dE:=by
 induction b with
 |zero=>grind
 |succ b c=>
  intro i a;unfold mr at h;grind
def wE(h:mr O b=M c):c<b/\∃e,nB O c=M e/\∀i,i<b->∀f,nB O i=M f->ahead f e=bD:=by
 induction b generalizing c with
 |zero=>cases h
 |succ b a=>
  unfold mr at h;grind[Di,EY,yy,nh]
def FW(a:iG):R:=y a.flatten
def zR(h:nB O b=M S):O.flatten.Perm (S::(O.modify b List.tail).flatten):=by
 induction O generalizing b with
 |nil=>simp[nB]at h
 |cons r d c=>
  cases b with
  |zero=>
   cases r with
   |nil=>simp[nB]at h
   |cons x t=>
    simp only[nB,List.getElem?_cons_zero,lf,List.head?_cons,wa]at h;simp_all
  |succ b=>
   have a:nB d b=M S:=by simpa[nB]using h
   simp only[di,sJ];refine((c a).append_left r).trans ?_;simp_all
def ye(h:nB O b=M S):FW O=FW (O.modify b List.tail)+1:=by
 have:=(zR h).length_eq;unfold FW;rw[this];simp
def LD:R->iG->dB
 |0,_=>[]
 |n+1,a=>match mr a (y a)with
  |none=>[]
  |some b=>(nB a b).getD e00::LD n (a.modify b List.tail)
def eL(a:iG):dB:=LD (FW a) a
def zT{hs:iG}(h:mr hs (y hs)=dE):eL hs=[]:=by
 unfold eL;cases e:FW hs with
 |zero=>rfl
 |succ n=>unfold LD;rw[h]
def Wi(h:∀i,i<y O->nB O i=dE):O.flatten=[]:=by
 induction O with
 |nil=>rfl
 |cons r c b=>
  have a:=h 0 ar;cases r with
  |cons x t=>simp[nB]at a
  |nil=>
   simp only[di,ep];exact b (λi a=>by have:=h (i+1) dW;simpa[nB]using this)
def zS{hs:iG}(h:mr hs (y hs)=M b)(a:nB hs b=M S):eL hs=S::eL (hs.modify b List.tail):=by
 unfold eL;rw[ye a];conv=>lhs;unfold LD
 rw[h];grind
def kw(a:iG):(eL a).Perm a.flatten:=by
 generalize d:FW a=n;induction n generalizing a with
 |zero=>
  have:a.flatten=[]:=bG d;unfold eL;rw[d,this];exact List.Perm.nil
 |succ n e=>
  cases hb:mr a (y a)with
  |none=>
   have:=Wi<|EY hb;rw[zT hb,this]
  |some b=>
   let⟨_,f,c,_⟩:=wE hb;rw[zS hb c];have:=ye c;exact((e _ U).cons f).trans (zR c).symm
def sj(a:af):dB->dB
 |[]=>[]
 |e::r=>if e.D=a then sj e.D r else e::sj e.D r
def Top(a:dB)(x:E):Prop:=x∈a/\∀b∈a,b.D=x.D->b.f<=x.f
def zcp(a:dB):Prop:=∀b∈a,∀c∈a,b.D=c.D->b.f=c.f->b=c
def PF(a:af)(s:i.Pairwise (λd b=>ahead b d=bD))(m:zcp i)(r:∀x∈i,kH x.D a=bD):Tp (sj a i)/\∀x,x∈sj a i↔x.D≠a/\Top i x:=by
 induction i generalizing a with
 |nil=>exact⟨Tp.km,λx=>by simp[sj,Top]⟩
 |cons l u t=>
  let⟨f,q⟩:=dp.1 s;let⟨n,k⟩:=t l.D q (λd a b c=>m d (by simp[a]) b<|by simp[c])<|λx j=>(oM<|f x j).1;unfold sj;split
  .rename_i g;refine⟨n,λx=>(k x).trans ?_⟩;rw[g];constructor
   .rintro⟨d,b,o⟩;refine⟨d,iA _ b,λe c h=>?_⟩;grind
   .rintro⟨d,b,o⟩;refine⟨d,?_,aI⟩;grind
  .rename_i g;have:kH l.D a=bD:=r l ar;refine⟨dp.2 ⟨λx j=>?_,n⟩,λx=>?_⟩
   .let⟨d,b,_⟩:=(k x).1 j;grind[ow,oM]
   .rw[dy,k];constructor
    .rintro(rfl|⟨d,b,o⟩)
     .refine⟨g,ar,λe c h=>?_⟩;obtain rfl|c:=dy.1 c
      .grind
      .exact(oM<|f e c).2 h
     .refine⟨?_,iA _ b,λe c h=>?_⟩
      .grind[oM,ow]
      grind
    .rintro⟨d,b,o⟩;obtain rfl|b:=dy.1 b
     .exact J z
     .by_cases p:x.D=l.D
      .left;have:=o l ar p.symm;have:=(oM<|f x b).2 p;exact m x (by simp[b]) l ar p U
      .exact bu ⟨p,b,aI⟩
def iY(a:af)(l:dB):dB:=l.filter<|λe=>!kH e.D a
def zch(l:dB)(k:af):Option E:=l.find?<|λe=>decide<|e.D=k
def QF(a:iG)(k:af):Option E:=a.findSome?<|λr=>zch r k
def Over(r s:dB):Prop:=∀a∈r,∀b∈s,a.D=b.D->b.f<a.f
def T4(a:iG):Prop:=a.Pairwise Over
def seen(a:iG)(k:af):Option af:=(QF a k).bind<|λe=>if e.dP then dE else M e.l

def gG(l:dB):Prop:=l.Pairwise<|λa b=>ahead a b=cz
def gG.km:gG []:=List.Pairwise.nil
def gG.kE{m:dB}(h:gG m)(s:i.Sublist m):gG i:=oR s h
def gG.zy(h:gG i):i.Pairwise (λa b=>ahead b a=bD):=h.imp<|λh=>nh h
def gG.Xx(h:gG i):zcp i:=by
 induction i with
 |nil=>intro k a;cases a
 |cons l r j=>
  let⟨n,d⟩:=dp.1 h;have:∀x∈r,x.D=l.D->x.f=l.f->False:=by
   grind[iT,jr]
  intro k a m e f g;obtain rfl|b:=dy.1 a<;>obtain rfl|c:=dy.1 e
  .rfl
  .grind
  .grind
  .exact j d k b m c f g
structure vS(l:dB):Prop where
 o:gG l
 D:∀e∈l,e.D≠⟨#[]⟩
def vS.km:vS []:=⟨gG.km,λ_ h=>by cases h⟩
def vS.kE{m:dB}(h:vS m)(s:i.Sublist m):vS i:=⟨h.o.kE s,λe a=>h.D e<|s.subset a⟩
def atR(b:Y)(r:dB):dB:=sj ⟨#[]⟩<|r.filter<|λe=>decide<|e.f<=b
def N8(h:vS i)(b:Y):Tp (atR b i)/\∀x,x∈atR b i↔x∈i/\x.f<=b/\∀a∈i,a.D=x.D->a.f<=b->a.f<=x.f:=by
 have c:gG (i.filter<|λe=>decide<|e.f<=b):=h.o.kE uo;let⟨s,m⟩:=PF ⟨#[]⟩ c.zy c.Xx<|λx _=>LN x.D;refine⟨s,λx=>?_⟩;unfold atR;rw[m];constructor;rintro⟨_,d,e⟩;grind
 rintro⟨d,f,e⟩;exact⟨h.D x d,aI,aI⟩
def Y7(h:vS i):S∈atR r i↔S∈i/\S.f<=r/\∀a∈i,a.D=S.D->a.f<=r->a.f<=S.f:=(N8 h r).2 S
def A4(h:vS i)(a:S∈atR r i):S∈i:=((Y7 h).1 a).1
def kD(b:Y)(r:dB)(k:af):Option E:=r.find?<|λe=>decide (e.D=k)&&decide (e.f<=b)
def Over.at{r s:dB}(h:Over r s)(c:vS r)(d:vS s)(b:Y):Over (atR b r) (atR b s):=λx e a g j=>h x (A4 c e) a (A4 d g) j
def wx(a:cy Y)(p:Option E)(e:E):eN:=match p with
 |none=>cz
 |some p=>!decide (p.D=e.D)||a.any (λm=>decide (e.f<=m)&&decide (m<p.f))
def nT(a:cy Y):Option E->dB->dB
 |_,[]=>[]
 |p,e::r=>if wx a p e then e::nT a (M e) r else nT a (M e) r
def gw(a:cy Y)(l:dB):dB:=nT a dE l
def VD(a:cy Y)(l:dB):∀p,(nT a p l).Sublist l:=by
 induction l with
 |nil=>intro p;exact kK _
 |cons e r b=>
  intro p;unfold nT;grind
theorem oF(a:cy Y)(l:dB):(gw a l).Sublist l:=VD a l dE
def vS.A(h:vS i)(a:cy Y):vS (gw a i):=h.kE<|oF a i
def Nu(h:∀r∈O,gG r):∀r∈O.modify b List.tail,gG r:=by
 intro r a;induction O generalizing b with
 |nil=>simp at a
 |cons x d c=>
  cases b with
  |zero=>
   simp only[sI,dy]at a;obtain rfl|a:=a
   .exact(h x ar).kE<|List.tail_sublist x
   grind
  |succ b=>
   grind
def YK(h:∀r∈O,gG r)(k:∀i,i<y O->∀f,nB O i=M f->ahead f S=bD):∀x∈O.flatten,ahead x S=bD:=by
 intro x l;let⟨r,g,a⟩:=dO.1 l;obtain⟨i,e,rfl⟩:=dJ g;have b:=h _ g;cases hc:O[i]with
 |nil=>rw[hc]at a;cases a
 |cons f t=>
  have j:nB O i=M f:=by simp[nB,e,hc]
  have d:=k i e f j;rw[hc]at a b;obtain rfl|c:=dy.1 a
  .exact d
  .exact yy d<|nh<|(dp.1 b).1 x c
def wA(a:iG)(h:∀r∈a,gG r):(eL a).Pairwise (λi b=>ahead b i=bD):=by
 generalize e:FW a=n;induction n generalizing a with
 |zero=>unfold eL;rw[e];exact List.Pairwise.nil
 |succ n g=>
  cases hb:mr a (y a)with
  |none=>rw[zT hb];simp_all
  |some b=>
   let⟨_,j,c,d⟩:=wE hb;rw[zS hb c];have:=ye c;refine dp.2 ⟨λx f=>?_,g _ (Nu h) U⟩;have:x∈(a.modify b List.tail).flatten:=(kw _).mem_iff.1 f;exact YK h d x<|(zR c).mem_iff.2 aI
theorem Kr{b:E}(h:ahead b S=bD)(k:¬(S.D=b.D/\S.f=b.f)):ahead S b=cz:=by
 let⟨d,a⟩:=oM h;refine iT.2 ?_;by_cases c:S.D=b.D;have:=a c.symm;grind
 grind[ow]
def kN:dB->dB
 |[]=>[]
 |e::r=>if e.dP&&!((kN r).any λa=>decide<|a.D=e.D)then kN r else e::kN r
theorem nV(l:dB):(kN l).Sublist l:=by
 induction l with
 |nil=>exact kK _
 |cons e r a=>
  unfold kN;grind
def vS.t(h:vS i):vS (kN i):=h.kE<|nV i
def qz(l:dB)(e:E):dB:=l.filter (λx=>ahead x e)++e::l.filter (λx=>ahead e x)
theorem JJ{x:E}:x∈qz i S↔x=S\/(x∈i/\¬(x.D=S.D/\x.f=S.f)):=by
 unfold qz;simp only[aP,dy,lR];grind[iT,jr,Kr]
def gG.qz(h:gG i)(e:E):gG (qz i e):=by
 unfold Go.Proofs.YtbgjhlkoccmfaaaGreatDoor.qz;refine eH.2 ⟨h.kE uo,dp.2 ⟨ar,h.kE uo⟩,λc a d b=>?_⟩;have:=(lR.1 a).2;grind[tY]
def vS.qz(h:vS i)(a:S.D≠⟨#[]⟩):vS (qz i S):=by
 refine⟨h.o.qz S,λx b=>?_⟩;obtain rfl|⟨c,_⟩:=JJ.1 b;exact a;exact h.D x c
def jL(l m:dB):dB:=m.foldl qz l
def vS.jL{m:dB}(h:vS i)(a:∀e∈m,e.D≠⟨#[]⟩):vS (jL i m):=by
 induction m generalizing i with
 |nil=>exact h
 |cons e r b=>exact b (h.qz<|a e ar) aI
def OJ{m:dB}(a:S∈jL i m):S∈i\/S∈m:=by
 induction m generalizing i with
 |nil=>exact J a
 |cons e r b=>
  obtain q|q:=b a
  .grind[JJ]
  grind
def vF(e:E):iG->iG
 |(x::g)::a=>if x.D=e.D then(e::x::g)::a else [e]::(x::g)::a
 |a=>[e]::a
def ji:dB->iG
 |[]=>[]
 |e::r=>vF e<|ji r
def FK(l:dB):∀g∈ji l,g≠[]:=by
 induction l with
 |nil=>intro g a;cases a
 |cons e r b=>
  intro g a;unfold ji vF at a;grind
def rp(l:dB):(ji l).flatten=l:=by
 induction l with
 |nil=>rfl
 |cons e r a=>
  unfold ji vF;grind
theorem AP(l:dB):∀g∈ji l,∀x∈g,∀a∈g,x.D=a.D:=by
 induction l with
 |nil=>intro g b;cases b
 |cons e r c=>
  intro g b;have:∀x∈[e],∀a∈[e],x.D=a.D:=ar;unfold ji vF at b;grind
def JO(e:E)(r:dB):∃g a,ji (e::r)=(e::g)::a:=by
 unfold ji vF;split;split;(grind);grind
 grind
def LP(e:E)(a b:iG)(h:a≠[]):vF e (a++b)=vF e a++b:=by
 cases a with
 |nil=>grind
 |cons g a=>
  cases g with
  |nil=>rfl
  |cons x g=>
   simp only[dt,vF];split<;>rfl
def Pg(p s:dB)(h:∀c∈p.getLast?,∀b∈s.head?,c.D≠b.D):ji (p++s)=ji p++ji s:=by
 induction p with
 |nil=>rfl
 |cons e r g=>
  cases r with
  |nil=>
   cases s with
   |nil=>rfl
   |cons b s=>
    have f:e.D≠b.D:=h e ar b ar;let⟨i,d,a⟩:=JO b s;show vF e (ji<|b::s)=[[e]]++ji (b::s);rw[a];simp only[vF];rw[fN<|λc=>f c.symm];rfl
  |cons x r=>
   have:=g<|λc a b d=>h c (dV a) b d;show vF e (ji<|(x::r)++s)=vF e (ji<|x::r)++ji s;rw[this,LP];let⟨i,d,a⟩:=JO x r;rw[a];simp
def Ze(h:i≠[])(a:∀x∈i,∀b∈i,x.D=b.D):ji i=[i]:=by
 induction i with
 |nil=>grind
 |cons e r c=>
  cases r with
  |nil=>rfl
  |cons x r=>
   have:=c ar<|λd f e g=>a d aI e aI;show vF e (ji<|x::r)=_;rw[this];simp only[vF];rw[fW<|a x ar e ar]
theorem qQ(a:cy Y)(p:Option E)(e:E)(r:dB):nT a p (e::r)=if wx a p e then e::nT a (M e) r else nT a (M e) r:=rfl
def Cb(e:E)(r:dB):kN (e::r)=if e.dP&&!((kN r).any λa=>decide<|a.D=e.D)then kN r else e::kN r:=rfl
def Ly(a:cy Y)(l s:dB):∀p:Option E,(∀c,(p.toList++l).getLast?=M c->∀b∈s.head?,c.D≠b.D)->nT a p (l++s)=nT a p l++nT a dE s:=by
 induction l with
 |nil=>
  intro p h;cases s with
  |nil=>rfl
  |cons b s=>
   cases p with
   |none=>rfl
   |some q=>
    have f:q.D≠b.D:=h q ar b ar;show nT a (M q) (b::s)=nT a dE (b::s);have d:wx a (M q) b=cz:=by simp[wx,f]
    have e:wx a dE b=cz:=rfl;rw[qQ,qQ,fW d,fW e]
 |cons i r g=>
  intro p h;have:=g (M i) (λc a b d=>h c (by
   grind) b d)
  grind[qQ]
def EK(a:cy Y)(l s:dB)(h:∀b∈l.getLast?,∀c∈s.head?,b.D≠c.D):gw a (l++s)=gw a l++gw a s:=Ly a l s dE aI
def Qk(l s:dB)(h:∀a∈l,∀f∈s,a.D≠f.D):kN (l++s)=kN l++kN s:=by
 induction l with
 |nil=>rfl
 |cons e r d=>
  have b:=d (λa c=>h a<|by simp[c]);show kN (e::(r++s))=_;rw[Cb,Cb,b,List.any_append];have c:((kN s).any λa=>decide<|a.D=e.D)=bD:=by
   rw[List.any_eq_false];grind[nV]
  rw[c,Bool.or_false];split<;>rfl
def xB(g:dB):dB:=(g.reverse.dropWhile<|λe=>e.dP).reverse
def Jf(g:dB)(e:E):xB (g++[e])=if e.dP then xB g else g++[e]:=by
 unfold xB;simp only[List.reverse_append,we,List.reverse_nil,ep,mH,List.dropWhile_cons];split<;>simp
def Uy(e:E)(g:dB):xB (e::g)=if xB g=[]then(if e.dP then []else [e])else e::xB g:=by
 unfold xB;rw[we,List.dropWhile_append];cases hq:g.reverse.dropWhile (λe=>e.dP)with
 |nil=>
  simp[List.dropWhile_cons];split<;>simp_all
 |cons x r=>simp
def s9(d:∀x∈i,∀a∈i,x.D=a.D):kN i=xB i:=by
 induction i with
 |nil=>rfl
 |cons f r e=>
  have c:=e (λf a g b=>d f (by simp[a]) g<|by simp[b]);rw[Cb,c,Uy];have b:∀a∈xB r,a.D=f.D:=λa e=>d a (by rw[<-c]at e;simp[(nV r).subset e]) f ar;cases ht:xB r with
  |nil=>simp
  |cons x t=>
   have:x.D=f.D:=b x (by rw[ht];simp);simp[this]
def E.t(e:E):ae:=ef #[aw e.D,aw e.l,aO e.dP,bw e.f]
def E.bU(e:E):iF:=[aw e.D,aw e.l,aO e.dP,bw e.f]
def qo(d:eN):Y:=if d then 1 else 0
def iN(s:af):eD:=(s.size:Y)::kp s
def oC(e:E):eD:=qo e.dP::(iN e.D++iN e.l)
def fo.ne{w c:Z}{a:ae}(h:fo w c d a)(g:cN d≠M b)(e:b<G (H w)):cN a≠M b:=by
 grind[fo.f]
def fo.u{w w':Z}{e:ae}(h:fo w w' d e){N i:R}{u:ae}(a:bA w (X N i)=M u)(c:cN d≠M N):bA w' (X N i)=M u:=h.dF.cell a<|λg=>c g.symm
def fA.lt{w:Z}{bs:eD}(h:fA w c d bs):∀k,cN d=M k->c<=k/\k<G (H w):=aS h
def fA.df{w w':Z}(h:fA w b d m)(e:w'.heap=w.heap):fA w' b d m:=by
 unfold fA World.ownsRow at*;rwa[e]
def fo.df{a g w':Z}(h:fo g w' d w)(e:(a.os,a.tape,a.output,a.heap)=(g.os,g.tape,g.output,g.heap)):fo a w' d w:=by
 simp only[jt]at e;let⟨i,j,k,b⟩:=e;refine⟨⟨by rw[h.dF.os,i],by rw[h.dF.tape,j],by rw[h.dF.output,k],b▸h.dF.size,λm e l=>by rw[b]at e|-;exact h.dF.block m e l⟩,b▸h.f⟩
def fo.D{o:Obj}(h:fo (a.alloc o).drew e d w):fo a e d w:=(fo.df (a:=a.alloc o) h rfl).aE o
def TP(n:R)(aa:ae)(m:eD)(ab:E)(w:Z)(o:fA w n aa m)(hb:n<=G (H w))(hl:y m<=35184372088832)(S:ab.D.size<=255)(T:ab.l.size<=255):cR bN 226 #[aa,ab.t] w λD w'=>∃V,D=aN V/\fA w' n V (m++oC ab)/\fo w w' aa V:=by
 let⟨a,d,A,i⟩:=ab;simp only at S T;unfold E.t;simp only;have g:cN aa≠M (G<|H w):=λD=>bP<|(o.lt _ D).2;have O0:=ak<|o.aE<|aK #[aw a,aw d,aO A,bw i] 223;cases A with
 |true=>
  go_in
  go_wp21;go_region_held3(λB=>bA B (X (G<|H w) 0)=M (aw a)/\bA B (X (G<|H w) 1)=M (aw d)) (first|assumption|go_keep) (first
   |(go_at_call 225;refine(wv n aa m 1 _ ?_ dW U).mono ?_;exact O0.df z;rintro D v⟨t,rfl,p,b⟩;have e:cN t≠M (G<|H w):=b.ne g ar;have k:bA v (X (G<|H w) 0)=M (.string a)/\bA v (X (G<|H w) 1)=M (.string d):=⟨b.u ar g,b.u ar g⟩;have s:G (H w)<G (H v):=(by have:=b.dF.size;simp at this;omega);have F:=ak p;have N:=ak b)
   |(go_at_call_of 267 t;refine(ri n t (m++[1]) a _ ?_ U ?_ S).mono ?_;exact F.df z;(simp;omega);rintro D x⟨u,rfl,q,c⟩;have j:cN u≠M (G<|H w):=c.ne e s;have l:bA x (X (G<|H w) 0)=M (.string a)/\bA x (X (G<|H w) 1)=M (.string d):=⟨c.u k.1 e,c.u k.2 e⟩;have ad:G (H w)<G (H x):=(bP c.dF.size);have K:=ak q;have O:=ak<|N.aj c)
   |(go_at_call_of 267 u;refine(ri n u (m++[1]++iN a) d _ ?_ U ?_ T).mono ?_;exact K.df z;(simp[iN,ix];omega);rintro D C⟨W,rfl,r,f⟩;have ac:bA C (X (G (H w)) 0)=M (.string a)/\bA C (X (G (H w)) 1)=M (.string d):=⟨f.u l.1 j,f.u l.2 j⟩;have L:=ak r;have P:=ak (O.aj f)))
  go_wp2;go_ret;refine⟨W,z,?_,P.D⟩;have Q:=ag L;simpa[oC,qo,iN,cw]using Q
 |false=>
  go_in
  go_wp21;go_region_held3(λB=>bA B (X (G<|H w) 0)=M (aw a)/\bA B (X (G<|H w) 1)=M (aw d)) (first|assumption|go_keep) (first
   |(go_at_call 225;refine(wv n aa m 0 _ ?_ dW U).mono ?_;exact O0.df z;rintro D v⟨t,rfl,p,b⟩;have e:cN t≠M (G<|H w):=b.ne g ar;have k:bA v (X (G<|H w) 0)=M (.string a)/\bA v (X (G<|H w) 1)=M (.string d):=⟨b.u ar g,b.u ar g⟩;have s:G (H w)<G (H v):=(by have:=b.dF.size;simp at this;omega);have F:=ak p;have N:=ak b)
   |(go_at_call_of 267 t;refine(ri n t (m++[0]) a _ ?_ U ?_ S).mono ?_;exact F.df z;(simp;omega);rintro D x⟨u,rfl,q,c⟩;have j:cN u≠M (G<|H w):=c.ne e s;have l:bA x (X (G<|H w) 0)=M (.string a)/\bA x (X (G<|H w) 1)=M (.string d):=⟨c.u k.1 e,c.u k.2 e⟩;have:G (H w)<G (H x):=(bP c.dF.size);have K:=ak q;have O:=ak<|N.aj c)
   |(go_at_call_of 267 u;refine(ri n u (m++[0]++iN a) d _ ?_ U ?_ T).mono ?_;exact K.df z;(simp[iN,ix];omega);rintro D C⟨W,rfl,r,f⟩;have:bA C (X (G (H w)) 0)=M (.string a)/\bA C (X (G (H w)) 1)=M (.string d):=⟨f.u l.1 j,f.u l.2 j⟩;have L:=ak r;have P:=ak (O.aj f)))
  go_wp2;go_ret;refine⟨W,z,?_,P.D⟩;have Q:=ag L;simpa[oC,qo,iN,cw]using Q
def uz(b:cy Y)(a:eN)(c:iG):dB:=if a then kN (gw b<|eL c)else gw b (eL c)
abbrev yP(l:dB):Prop:=l.Pairwise<|λa b=>ahead b a=bD
def Eo{b:E}(h:ahead b S=bD):kH b.D S.D=bD:=by
 cases q:kH b.D S.D with
 |false=>rfl
 |true=>rw[iT.2<|J q]at h;cases h
def lJ(g h:dB):Prop:=∀x∈g,∀a∈h,kH x.D a.D=cz
def DY(h:yP i):(ji i).Pairwise lJ:=by
 induction i with
 |nil=>exact List.Pairwise.nil
 |cons u r b=>
  let⟨n,o⟩:=dp.1 h;have b:=b o;unfold ji vF;split
  .rename_i x k f e;have g:(x::k)++f.flatten=r:=by have:=rp r;rw[e]at this;grind
   have a:∀b∈x::k,b.D=x.D:=λb c=>AP r (x::k) (by rw[e];simp) b c x ar;rw[e]at b;split
   .rename_i j;let⟨p,s⟩:=dp.1 b;refine dp.2 ⟨λt c v l m d=>?_,s⟩;have:=p t c x ar m d;grind
   .rename_i j;refine dp.2 ⟨λt c v l m d=>?_,b⟩;rw[bY.1 l];have p:kH u.D x.D=cz:=by
     have s:=Eo<|n x (by rw[<-g];simp);cases q:kH u.D x.D with
     |true=>rfl
     |false=>exact absurd (ow q s) aI
    obtain rfl|c:=dy.1 c
    .rwa[a m d]
    .exact mz p<|(dp.1 b).1 t c x ar m d
  .rename_i f e;have a:ji r=[]:=by
    cases j:ji r with
    |nil=>rfl
    |cons k f=>
     cases k with
     |nil=>exact absurd z<|FK r [] (by rw[j];simp)
     |cons x k=>grind
   rw[a];grind
def lS(n L:R):R->R->dB->iG->iG
 |_,_,_,[]=>[]
 |k,b,a,g::c=>
  if(k+1)*L/n<=b+y g then(a++g)::lS n L (k+1) (b+y g) [] c
  else lS n L k (b+y g) (a++g) c
theorem rf(n L k b:R)(a g:dB)(c:iG):lS n L k b a (g::c)=if(k+1)*L/n<=b+y g then(a++g)::lS n L (k+1) (b+y g) [] c else lS n L k (b+y g) (a++g) c:=rfl
def Re{n L:R}(i:0<n):∀(c:iG)(k d:R)(a:dB),d+y c.flatten=L->(k<n\/(c.flatten=[]/\a=[]))->(a≠[]->d<(k+1)*L/n)->(lS n L k d a c).flatten=a++c.flatten:=by
 intro c;induction c with
 |nil=>
  intro k d a f b g;have:a=[]:=by
   obtain b|b:=b
   .by_cases e:a=[]
    .exact e
    .have:=g e;have h:(k+1)*L/n<=L:=Nat.div_le_of_le_mul<|Nat.mul_le_mul_right L b;grind
   .exact b.2
  rw[this];rfl
 |cons m c j=>
  intro k d a f b g;simp only[di,ai]at f b;rw[rf];split
  .rename_i e;rw[di,j (k+1) (d+y m) [] U ?_<|absurd rfl]
   .simp
   .obtain b|b:=b
    .by_cases h:k+1<n
     .exact J h
     .have l:k+1=n:=U;rw[l,Nat.mul_div_cancel_left L i]at e;exact bu ⟨bG U,z⟩
    grind[append_eq_nil_iff]
  grind[append_eq_nil_iff]
def Nv:∀(d:iG)(k e:R)(a:dB),(∀g∈d,g≠[])->∀p∈lS b c k e a d,p≠[]:=by
 intro d;induction d with
 |nil=>intro k e a _ p f;cases f
 |cons g d h=>
  grind[rf,append_eq_nil_iff]
def UR{n L F V:R}(l:0<n)(hF:L<=n*F)(h:0<F):∀(c:iG)(k e:R)(a:dB),(∀g∈c,y g<=V+1)->k*L/n+y a<=e->(a≠[]->e<(k+1)*L/n)->∀p∈lS n L k e a c,y p<=F+V:=by
 intro c;induction c with
 |nil=>intro k e a _ _ _ p b;cases b
 |cons g c r=>
  intro k e a i m o p b;have j:=i g ar;have f:(k+1)*L/n<=k*L/n+F:=by
   have:(k+1)*L<=k*L+n*F:=by rw[Nat.add_mul,Nat.one_mul];omega
   exact aR (Nat.div_le_div_right this)<|Nat.le_of_eq<|Nat.add_mul_div_left _ _ l
  rw[rf]at b;split at b
  .rename_i q;obtain rfl|b:=dy.1 b
   .rw[ai];by_cases d:a=[]
    .rw[d];simp;omega
    grind
   grind
  grind
def Rc:∀(e:iG)(n g:R)(a:dB),e.Pairwise lJ->(∀o∈e,lJ a o)->(lS b c n g a e).Pairwise lJ/\∀w∈lS b c n g a e,∀x∈w,x∈a\/x∈e.flatten:=by
 intro e;induction e with
 |nil=>intro n g a _ _;exact⟨List.Pairwise.nil,λw k=>by cases k⟩
 |cons o e s=>
  intro n g a k p;let⟨t,u⟩:=dp.1 k;rw[rf];split
  .let⟨r,v⟩:=s (n+1) (g+y o) [] u (λ_ _ x d=>by cases d);refine⟨dp.2 ⟨λq A x d f l=>?_,r⟩,λw k x d=>?_⟩
   .have m:f∈e.flatten:=aI;let⟨h,i,j⟩:=dO.1 m;obtain d|d:=aP.1 d
    .exact p h (by simp[i]) x d f j
    .exact t h i x d f j
   grind
  .let⟨r,v⟩:=s n (g+y o) (a++o) u (λh i x d f l=>by
    obtain d|d:=aP.1 d
    .exact p h (by simp[i]) x d f l
    .exact t h i x d f l)
   grind
def Lx(a:cy Y)(h:yP i)(f:∀x∈i,∀g∈i,x.D=g.D):∀p:Option E,yP (p.toList++i)->(∀q∈p,∀x∈i,q.D=x.D)->y (nT a p i)<=y (a.filter (λm=>match p with|none=>cz|some q=>decide<|m<q.f))+(if p=dE then 1 else 0):=by
 induction i with
 |nil=>intro p _ _;simp[nT]
 |cons e r d=>
  intro p k c;have d:=d (oR ar h) aI (M e) h aI;simp only[reduceCtorEq,mA,mf]at d;rw[qQ];cases p with
  |none=>
   have b:wx a dE e=cz:=rfl;rw[fW b];simp only[bK,mT];grind[filter_eq_self,length_filter_le,Nat.succ_le_succ,Nat.le_trans]
  |some q=>
   have:e.f<=q.f:=by
    have j:=(eH.1 k).2.2 q ar e ar;have f:=c q z e ar;by_cases c2:q.f<e.f
    .rw[iT.2<|bu ⟨f.symm,c2⟩]at j;cases j
    .omega
   have:y (nT a (M e) r)<=y (a.filter<|λm=>decide<|m<e.f):=d;simp only[reduceCtorEq,mA,mf];show _<=y (a.filter<|λm=>decide<|m<q.f);have b:∀a:cy Y,y (a.filter<|λm=>decide<|m<e.f)+y (a.filter<|λm=>decide (e.f<=m)&&decide (m<q.f))=y (a.filter<|λm=>decide<|m<q.f):=by
    intro a;induction a with
    |nil=>rfl
    |cons m a j=>
     grind
   have:=b a;split
   .rename_i j;simp only[wx,c q rfl e ar,zl,tr,Be]at j;have:0<y (a.filter<|λm=>decide (e.f<=m)&&decide (m<q.f)):=by
     simp_all
    grind
   .omega
def WZ{b c:E}(h:ahead b S=bD)(k:ahead b c=cz):ahead S c=cz:=by
 cases q:ahead S c with
 |true=>rfl
 |false=>
  have a:=Eo h;obtain c1|⟨c1,c2⟩:=iT.1 k
  .have:kH S.D c.D=cz:=by
    cases q2:kH S.D b.D with
    |true=>exact mz q2 c1
    |false=>rwa[ow q2 a]
   rw[iT.2<|J this]at q;cases q
  .cases q2:kH S.D b.D with
   |true=>rw[iT.2<|J<|c1▸q2]at q;cases q
   |false=>
    have e:=ow q2 a;by_cases c3:S.f<b.f
    .rw[iT.2<|bu ⟨e.symm,c3⟩]at h;cases h
    .rw[iT.2<|bu ⟨e.trans c1,U⟩]at q;cases q
def JH(f:cy Y):∀(l:dB)(p:Option E),yP (p.toList++l)->gG (nT f p l)/\∀q∈p,∀x∈nT f p l,ahead q x=cz
 |[],_,_=>⟨List.Pairwise.nil,by intro q _ x a;cases a⟩
 |e::r,p,h=>by
  have k:yP (e::r):=oR ar h;let⟨g,i⟩:=JH f r (M e) k;have d:∀q∈p,ahead e q=bD:=λq d=>by
   subst d;exact(dp.1 h).1 e ar
  have j:∀q∈p,∀x∈nT f (M e) r,ahead q x=cz:=λq c x a=>WZ (d q c)<|i e z x a;rw[qQ];split
  .rename_i b;refine⟨dp.2 ⟨λx a=>i e z x a,g⟩,λq c x a=>?_⟩;obtain rfl|a:=dy.1 a
   .subst c;unfold wx at b;simp only[yY,nM,nP,rF,Bool.not_eq_true',decide_eq_false_iff_not]at b;have m:=Eo<|d q z;cases q2:kH q.D x.D with
    |true=>exact iT.2<|J q2
    |false=>
     have e:=ow q2 m;obtain b|⟨s,_,n,o⟩:=b
     .exact absurd e b
     .exact iT.2<|bu ⟨e,U⟩
   .exact j q c x a
  .exact⟨g,j⟩
def zQ(h:yP i)(a:cy Y):gG (gw a i):=(JH a i dE h).1
theorem rW{b:eN}(h:V=b):Ending.returned (aO V)=aN (aO b):=by rw[h]
theorem rq(s:af)(w:Z)(f:s.size<=140737488351232):cR bN 104 #[aw s] w λe d=>e=aN (aO<|decide<|1<=s.size/\s.size<=8)/\d=w:=by
 by_cases b:1<=s.size;(.by_cases c:s.size<=8;(·(have a:decide (1<=s.size/\s.size<=8)=cz:=by simp[b,c]);rw[a];(go_in);go_wp2;go_ret;exact⟨rW dW,z⟩);(have a:decide (1<=s.size/\s.size<=8)=bD:=by simp[b,c]);rw[a];(go_in);go_wp2;go_ret;exact⟨rW dW,z⟩);(have a:decide (1<=s.size/\s.size<=8)=bD:=by simp[b]);rw[a];(go_in);go_wp2;go_ret;simp_all
theorem zW(s:af)(w:Z)(d:s.size<=140737488351232):cR bN 105 #[aw s] w λe c=>e=aN (aO<|decide<|s.size<=16)/\c=w:=by
 by_cases b:s.size<=16;(·(have a:decide (s.size<=16)=cz:=by simp[b]);rw[a];(go_in);go_wp2;go_ret;exact⟨rW dW,z⟩);(have a:decide (s.size<=16)=bD:=by simp[b]);rw[a];(go_in);go_wp2;go_ret;exact⟨rW dW,z⟩
structure E.Good(x:E):Prop where
 L:1<=x.D.size
 f:x.D.size<=8
 l:x.l.size<=16
 dP:x.dP=cz->x.l=⟨#[]⟩
 b0:0<=x.f
 b1:x.f<18446744073709551616
theorem rT(a b:eD):fZ (a++b) bD (y a)=(b,bD,a):=by
 unfold fZ;rw[fN ar];simp
def yh(s:af)(b:eD):nQ (iN s++b) bD=(b,bD,kp s)/\dz (iN s++b) bD 1=s.size:=by
 have a:fZ (iN s++b) bD 1=(kp s++b,bD,[(s.size:Y)]):=by have:=rT [(s.size:Y)]<|kp s++b;simpa[iN]using this
 have c:dz (iN s++b) bD 1=s.size:=by unfold dz;rw[a];simp[jw]
 refine⟨?_,c⟩;unfold nQ;grind[rT,ix]
def EO(d:eN)(b:eD):fZ (qo d::b) bD 1=(b,bD,[qo d])/\dz (qo d::b) bD 1=qo d:=by
 have h:=rT [qo d] b;have a:fZ (qo d::b) bD 1=(b,bD,[qo d]):=dV h;exact⟨a,by unfold dz;rw[a];simp[jw]⟩
def l7{α:Type}{l:cy α}{p:α->eN}(h:l.Pairwise (λa b=>p b=cz->p a=cz)):l.take (l.countP p)=l.filter p/\l.drop (l.countP p)=l.filter (λx=>!p x):=by
 induction l with
 |nil=>simp
 |cons x r e=>
  let⟨c,d⟩:=dp.1 h;grind
def mP(l:dB)(e:E):R:=l.countP<|λx=>ahead x e
def Lp(l:dB)(e:E):mP l e<=y l:=List.countP_le_length
def gG.ut(h:gG i)(e:E):i.take (mP i e)=i.filter (λx=>ahead x e)/\i.drop (mP i e)=i.filter (λx=>!ahead x e):=l7<|h.imp λ{_ _}q c=>tY q c
def gG.aT{l:dB}(h:gG l){i j:R}(a:i<=j)(c:j<y l){g:E}(d:ahead l[j] g=cz):ahead (l[i]'U) g=cz:=by
 obtain e|e:=oo a;exact tY (cW.1 h i j U c e) d;grind
def H5(e:b<=y i)(c:∀t(a:t<y i),t<b->ahead i[t] S=cz)(d:∀t(a:t<y i),b<=t->ahead i[t] S=bD):mP i S=b:=by
 unfold mP;rw[<-du b i,List.countP_append];have:(i.take b).countP (λx=>ahead x S)=b:=by rw[List.countP_eq_length.2];simp;omega;grind[getElem_of_mem]
 grind[countP_eq_zero,getElem_of_mem]
def SK(h:gG i)(k v:af)(e:eN)(b:Y):kD b i k=if c:∃a:mP i ⟨k,v,e,b⟩<y i,i[mP i ⟨k,v,e,b⟩].D=k then M (i[mP i ⟨k,v,e,b⟩]'c.1)else dE:=by
 induction i with
 |nil=>simp[kD]
 |cons x r d=>
  let⟨m,g⟩:=dp.1 h;have d:=d g;unfold kD at d|-;cases ha:ahead x ⟨k,v,e,b⟩with
  |true=>
   have a:mP (x::r) ⟨k,v,e,b⟩=mP r ⟨k,v,e,b⟩+1:=List.countP_cons_of_pos (p:=λx=>ahead x ⟨k,v,e,b⟩) ha;have f:(decide (x.D=k)&&decide (x.f<=b))=bD:=by
    grind[iT,DW]
   rw[List.find?_cons_of_neg<|dV f,d];simp[a]
  |false=>
   have a:mP (x::r) ⟨k,v,e,b⟩=0:=by
    refine List.countP_eq_zero.2 λl n=>?_;grind[yy,nh]
   let⟨o,j⟩:=oM ha;by_cases f:x.D=k
   .have:=j f;rw[List.find?_cons_of_pos aI];simp[a,f]
   grind[ow,iT,td,find?_eq_none]
def Vo(h:gG i)(a v:af)(d:eN)(b:∀x∈i,x.f<=r):i.drop (mP i ⟨a,v,d,r⟩)=iY a i:=by
 rw[(h.ut _).2];refine wh λx c=>?_;congr 1;rw[Bool.eq_iff_iff,iT];grind
def Ut(h:gG i)(e:E)(a:mP i e<y i)(d:i[mP i e].D=e.D)(b:i[mP i e].f=e.f):i.set (mP i e) e=qz i e:=by
 unfold qz;rw[kC,fW a,(h.ut e).1];congr 2;have c:=(h.ut e).2;rw[dm a]at c;have j:gG (i[mP i e]::i.drop (mP i e+1)):=dm a▸h.kE (mW _ _);have:=(dp.1 j).1;have g:ahead e i[mP i e]=bD:=by unfold ahead;simp[d,b,jr]
 have:∀a,ahead i[mP i e] a=ahead e a:=λa=>by unfold ahead;rw[d,b]
 generalize i[mP i e]=m9 at*;have f:i.filter (ahead e)=(i.filter<|λx=>!ahead x e).filter (ahead e):=by rw[List.filter_filter];grind[filter_congr,nh]
 rw[f,<-c,qY (by simp[g]),nF.2];grind
def Uv(h:gG i)(e:E)(a:∀x∈i,¬(x.D=e.D/\x.f=e.f)):i.take (mP i e)++e::i.drop (mP i e)=qz i e:=by
 unfold qz;rw[(h.ut e).1,(h.ut e).2];grind[filter_congr,nh,Kr]
def gG.zao(h:gG i)(e:E)(j:∀b:mP i e<y i,¬(i[mP i e].D=e.D/\i[mP i e].f=e.f)):∀x∈i,¬(x.D=e.D/\x.f=e.f):=by
 rintro x n⟨g,f⟩;have c:ahead x e=bD:=by unfold ahead;simp[g,f,jr]
 have a:x∈i.drop (mP i e):=by rw[(h.ut e).2];simp[n,c]
 have b:mP i e<y i:=by grind[Nat.lt_or_ge,drop_eq_nil_of_le]
 have o:=(h.ut e).2;rw[dm b]at a o;have d:ahead i[mP i e] e=bD:=by grind[mem_cons_self]
 have m:gG (i[mP i e]::i.drop (mP i e+1)):=dm b▸h.kE (mW _ _);have k:=j b;generalize i[mP i e]=m9 at*;obtain rfl|a:=dy.1 a;grind
 have:=(dp.1 m).1 x a;(have l:ahead m9 x=ahead m9 e:=by unfold ahead;rw[g,f]);rw[l,d]at this;cases this
def gG.Zf(h:gG i)(a:b<=c)(e:c<y i):kH i[c].D (i[b]'U).D=bD:=by
 obtain d|d:=oo a;exact(oM<|nh<|cW.1 h b c U e d).1;subst d;exact jr _
def gG.FJ(h:gG i)(a:0<y i)(b:S∈i):kH (i[y i-1]'U).D S.D=bD:=by
 obtain⟨d,c,rfl⟩:=dJ b;exact h.Zf U U
def gG.xU(h:gG i)(a:0<y i)(c:S∈i):kH S.D (i[0]'a).D=bD:=by
 obtain⟨d,b,rfl⟩:=dJ c;exact h.Zf (bQ d) b
def Bh(b:Y)(l s:dB)(k:af):kD b (l++s) k=(kD b l k).or (kD b s k):=List.find?_append
def tB{l:dB}(h:∀x∈l,x.D≠B):kD r l B=dE:=List.find?_eq_none.2 aI
def CV{cs:iG}{k:af}{i:R}(f:i<y cs)(h:∀x∈cs.flatten,x.D=k->∃q:i<y cs,x∈cs[i])(e:cs.Pairwise lJ)(o:Y):kD o cs.flatten k=kD o cs[i] k:=by
 have p:cs.flatten=(cs.take i).flatten++(cs[i]++(cs.drop<|i+1).flatten):=by grind[take_append_drop,drop_eq_getElem_cons,flatten_append,flatten_cons]
 have n:∀j(b:j<y cs),j≠i->∀x∈cs[j],x.D≠k:=by intro j b c x d m;let⟨_,a⟩:=h x (dO.2 ⟨_,aB b,d⟩) m;obtain g|g:=Nat.lt_or_gt_of_ne c;have:=cW.1 e j i b f g x d x a;rw[jr]at this;cases this;have:=cW.1 e i j f b g x a x d;rw[jr]at this;cases this
 rw[p,Bh,Bh,tB,tB (l:=(cs.drop<|i+1).flatten)];simp;grind[mem_flatten,getElem_of_mem]
 grind[mem_flatten,getElem_of_mem]
def zes(l:kW):Prop:=l.Pairwise<|λa b=>kH a.1 b.1=cz
def zaw(a:iG)(l:kW):Prop:=zes l/\∀k v,(k,v)∈l↔seen a k=M v
def zaw.yM{a:iG}{l:kW}(h:zaw O l)(e:∀k,seen a k=seen O k):zaw a l:=⟨h.1,λk v=>by rw[e k];exact h.2 k v⟩
def BR(e:E):KV:=(e.D,e.l)
def Ef(c:af)(a:Y):kW->kW->kW
 |b,[]=>b
 |b,p::r=>if(!(c.toList==[])&&!kH p.1 c)=cz then b else if((y b:Y)+1==a)=cz then b++[p]else Ef c a (b++[p]) r
def pM:R->iG->cy (R×dB)
 |_,[]=>[]
 |n,g::a=>(n,g)::pM (n+y g) a
def jj(a:cy (R×dB)):dB:=(a.map (·.2)).flatten
def DZ:∀(n:R)(a:iG),(pM n a).map (·.2)=a
 |_,[]=>rfl
 |n,g::a=>by rw[pM,bO,DZ]
def CT(l:dB):jj (pM 0<|ji l)=l:=by unfold jj;rw[DZ,rp]
def AQ:∀(b:iG)(k n:R)(a:cy (R×dB))(g:dB),(a++[(n,g)])<+:pM k b->n=k+y (jj a)/\(a.map (·.2)++[g])<+:b
 |[],k,n,a,g,h=>by
  have:=h.length_le;simp[pM]at this
 |g0::b,k,n,a,g,h=>by
  rw[pM]at h;cases a with
  |nil=>
   let⟨s,c⟩:=h;simp at c;obtain⟨⟨rfl,rfl⟩,c⟩:=c;exact⟨by simp[jj],ar⟩
  |cons p a=>
   rw[dt,List.cons_prefix_cons]at h;obtain⟨e,f⟩:=h;obtain⟨c,d⟩:=AQ b _ n a g f;subst e;refine⟨?_,?_⟩
   .rw[c];simp[jj];omega
   .simp[d]
structure Qw(l p g s:dB):Prop where
 dq:l=p++g++s
 ne:g≠[]
 bM:∀x∈g,∀g9∈g,x.D=g9.D
 da:lJ p g
 xR:lJ g s
def LO(o:yP i){a:cy (R×dB)}{g:dB}(h:(a++[(b,g)])<+:pM 0 (ji i)):b=y (jj a)/\∃u,Qw i (jj a) g u:=by
 let⟨s,t,k⟩:=AQ _ _ _ _ _ h;have j:=DY o;have m:g∈ji i:=by rw[<-k];simp
 have l:=rp i;rw[<-k]at j l;rw[cw]at j;let⟨_,p,q⟩:=eH.1 j;refine⟨U,t.flatten,⟨by rw[<-l];simp[jj],FK i g m,AP i g m,λx c e d=>?_,λx c e d=>?_⟩⟩;let⟨n,f,c⟩:=dO.1 c;exact q n f g ar x c e d;let⟨n,f,d⟩:=dO.1 d;have r:(g::t).Pairwise lJ:=dV p;exact(dp.1 r).1 n f x c e d
def vH(a:cy (R×dB))(n:R)(g:dB):jj (a++[(n,g)])=jj a++g:=by simp[jj]
def lJ.ne{g:dB}(h:lJ i g):∀a∈i,∀b∈g,a.D≠b.D:=λa c b d=>DW<|h a c b d
def Qw.A{p g s:dB}(h:Qw i p g s)(a:cy Y):gw a (p++g)=gw a p++gw a g:=EK a p g<|λd b e c=>h.da.ne d (List.mem_of_getLast? b) e<|List.mem_of_head? c
def Qw.t{p g s:dB}(h:Qw i p g s):kN (p++g)=kN p++xB g:=by rw[Qk p g h.da.ne,s9 h.bM]
def Sk(a:cy Y)(l:dB)(x:E):∀p:Option E,nT a p (l++[x])=nT a p l++(if wx a ((p.toList++l).getLast?) x then [x]else []):=by
 induction l with
 |nil=>intro p;cases p<;>simp[nT]
 |cons e r b=>
  intro p;rw[dt,qQ,qQ,b<|M e];have:(p.toList++e::r).getLast?=((M e).toList++r).getLast?:=aI;rw[this];split<;>simp
def wanted(a:cy Y)(g:dB)(i:R)(h:i<y g):eN:=decide (i=0)||a.any (λm=>decide (g[i].f<=m)&&decide (m<(g[i-1]'U).f))
def VC{ms:cy Y}(c:∀x∈i,∀a∈i,x.D=a.D)(h:b<y i):gw ms (i.take<|b+1)=gw ms (i.take b)++(if wanted ms i b h then [i[b]]else []):=by
 rw[aG h];unfold gw;rw[Sk];congr 2;simp only[Option.toList_none,ep];cases b with
 |zero=>simp[wx,wanted]
 |succ b=>
  have d:(i.take<|b+1).getLast?=M i[b]:=by
   grind
  rw[d];have:=c i[b] (aB _) i[b+1]<|aB _;simp[wx,wanted,this]
def Uw(e:b<=y i)(h:xB i=xB (i.take b))(a:b=0\/∃h:b-1<y i,i[b-1].dP=bD):xB i=i.take b:=by
 rw[h];obtain rfl|⟨c,d⟩:=a;simp[xB]
 .cases b with
  |zero=>simp[xB]
  |succ b=>
   rw[aG U,Jf];grind
def Ux(c:b<y i)(a:i[b].dP=cz):xB (i.take<|b+1)=xB (i.take b):=by
 rw[aG c,Jf,fW a]
def sq(n:R)(l:dB):Prop:=∀k,y (l.filter<|λx=>decide<|x.D=k)<=n
def sq.kE{m:dB}(h:sq b m)(s:i.Sublist m):sq b i:=λk=>aR (s.filter _).length_le<|h k
def sq.aT{l:dB}(h:sq c l)(a:c<=k):sq k l:=λd=>aR (h d) a
def sq.km(n:R):sq n []:=λ_=>bQ _
def sq.Hm(h:sq b i):∀g∈ji i,y g<=b:=by
 intro g c;have d:g.Sublist i:=by have:=eC c;rwa[rp]at this
 cases g with
 |nil=>grind
 |cons e r=>
  have a:=h.kE d e.D;rwa[nF.2<|λx c=>by grind[AP]]at a
def OD(c:cy Y):∀a:iG,a.Pairwise lJ->gw c a.flatten=(a.map<|gw c).flatten:=by
 intro a;induction a with
 |nil=>intro _;rfl
 |cons m a i=>
  intro h;let⟨d,e⟩:=dp.1 h;rw[di,bO,di,<-i e];refine EK c _ _<|λj l k f=>?_;let⟨q,g,b⟩:=dO.1<|List.mem_of_mem_head? f;exact DW<|d q g j aI k b
def AD{a:cy Y}(n:yP i):sq (y a+1) (gw a i):=by
 have m:=DY n;have l:=AP i;have b:∀g∈ji i,yP g:=λg a=>n.sublist (by have:=eC a;rwa[rp]at this);intro r;rw[<-rp i,OD a _ m];generalize ji i=d at*;induction d with
 |nil=>simp
 |cons g d h=>
  let⟨t,u⟩:=dp.1 m;have h:=h u (λq c=>l q<|by simp[c]) (λq c=>b q<|by simp[c]);rw[bO,di,mB,ai];by_cases A:∃x∈g,x.D=r
  .let⟨x,v,w⟩:=A;have s:(d.map<|gw a).flatten.filter (λx=>decide<|x.D=r)=[]:=by
    rw[oq];intro j o;let⟨q,c,f⟩:=dO.1 o;obtain⟨p,e,rfl⟩:=cC.1 c;have:=DW<|t p e x v j<|(oF a p).subset f;grind
   rw[s];have k:=Lx a (b g ar) (l g ar) dE aI (λq c=>by cases c);have:=gN (λx=>decide<|x.D=r)<|gw a g;have:y (a.filter<|λ_=>cz)<=y a:=gN _ _;simp only[mT]at k;have:y (gw a g)<=y (a.filter<|λ_=>cz)+1:=k;grind
  .have s:(gw a g).filter (λx=>decide<|x.D=r)=[]:=by
    rw[oq];intro j o;simp only[rF];grind[oF]
   rw[s];simpa using h
def wN(L:R):R:=(L+95)/96
def jq(l:dB):iG:=lS (wN<|y l) (y l) 0 0 []<|ji l
def BJ(h:i≠[]):0<wN (y i):=by
 have:=ja.2 h;unfold wN;omega
def yr(l:dB):(jq l).flatten=l:=by
 by_cases c:l=[];subst c;rfl;have h:=Re (n:=wN<|y l) (L:=y l) (BJ c) (ji l) 0 0 [] (by rw[rp];simp) (J<|BJ c)<|absurd rfl;rw[rp]at h;simpa[jq]using h
def GL(l:dB):∀p∈jq l,p≠[]:=Nv _ _ _ _<|FK l
def DS{p:dB}(h:p∈jq i):p.Sublist i:=by
 have:=eC h;rwa[yr]at this
def RY(h:gG i):(jq i).Pairwise lJ:=(Rc _ _ _ _ (DY h.zy)<|λ_ _ x a=>by cases a).1
def Jz(h:sq 5 i):∀p∈jq i,y p<=100:=by
 by_cases c:i=[];subst c;intro p a;cases a;(have a:y i<=wN (y i)*96:=by unfold wN;omega);exact UR (F:=96) (V:=4) (BJ c) a U _ 0 0 [] h.Hm ar<|absurd z
def EM{ps:iG}(h:∀p∈ps,p≠[]):y ps<=y ps.flatten:=by
 induction ps with
 |nil=>grind
 |cons p r b=>
  have:=ja.2<|h p ar;have:=b (λq a=>h q<|by simp[a]);grind
def zM(l:dB):y (jq l)<=y l:=by
 have:=EM<|GL l;rwa[yr]at this
def uf(n:Y):ae:=if n=0 then ic else .iface 47 (ay n)
def ON{b:vX}(W:Cf a d b)(hv:∀aa,cN d=M aa->aa<G (H a))(hr:y b<=1000000000000)(hz:∀Q∈b,Q.D.size<=140737488351232/\Q.l.size<=140737488351232):cR bN 50 #[d] a λo k=>o=aN (uf<|gT b)/\I aC a k:=by
 have:∀(Q:eN)(a:Z),(Op.unary .not<|aO Q).run bN a=.ok (aO<|!Q) a:=λ_ _=>rfl;obtain⟨h1,⟨rfl,T⟩|⟨K,f,S,rfl,V,C⟩⟩:=W;(.obtain rfl:b=[]:=bG T;(go_in);go_wp2;(go_loopw [11] (λO wr=>O=ay 0/\wr=a) (λ_ _=>0));(grind);obtain⟨rfl,c⟩:=hrel;subst wr;go_wp2;go_ret;exact⟨z,I.bI _ _⟩)
 .have B:K<G (H a):=hv K z;by_cases L:8<y b
  .have A:=ak (show gT b=2 by unfold gT;rw[fW L]);have c:(8:Y)<(y b:Y):=U;go_in
   go_wp2;go_ret;exact⟨by rw[ag A];rfl,I.bI _ _⟩
  .have A:=ak (show gT b=mq b by unfold gT;rw[fN L]);have:¬(8:Y)<(y b:Y):=U;go_in
   go_wp2;go_loopw [11] (λO wr=>∃n:R,n<=y b/\O=ay n/\gT b=mq (b.drop n)/\I aC a wr) (λO _=>y b-(intOf O).toNat)
   .exact⟨0,bQ _,z,A,I.bI _ _⟩
   .obtain⟨n,hn,rfl,E,c⟩:=hrel;have x:=ak E;by_cases e:n<y b
    .have D:=np b n e;have p:bA wr (X K<|f+n*3)=M (aw b[n].D):=c.u (C _ _ D.1) id B;have q:bA wr (X K<|f+n*3+1)=M (aw b[n].l):=c.u (by rw[bJ];exact C _ _ D.2.1) id B;have r:bA wr (X K<|f+n*3+2)=M (aO b[n].dP):=c.u (by rw[bJ];exact C _ _ D.2.2) id B;have t:=hz _<|aB e;by_cases u:b[n].D.size=0\/8<b[n].D.size
     .have m:=ak<|x.trans<|ET e u;generalize b[n]=P at*;let⟨v,w,F⟩:=P;simp only at p q r u t;have g:∀W,cR bN 104 #[aw v] W λo k=>o=aN (aO bD)/\k=W:=by
       grind[rq,rW]
      go_wp21;go_call g _ as o l⟨rfl,j⟩;subst l;go_wp2;go_ret;exact⟨by rw[ag m];rfl,c.aE _⟩
     .by_cases i:b[n].dP=bD/\16<b[n].l.size
      .have m:=ak<|x.trans<|ES e u i;generalize b[n]=P at*;let⟨v,w,F⟩:=P;simp only at p q r u i t;obtain⟨rfl,N⟩:=i;have g:∀W,cR bN 104 #[aw v] W λo k=>o=aN (aO cz)/\k=W:=by
        grind[rq,rW]
       have s:∀W,cR bN 105 #[aw w] W λo k=>o=aN (aO bD)/\k=W:=by
        grind[zW,rW]
       go_wp21;go_call g _ as o l⟨rfl,j⟩;subst l;go_wp21;go_call s _ as o l⟨rfl,j⟩;subst l;go_wp2;go_ret;exact⟨by rw[ag m];rfl,c.aE _⟩
      .have m:=ak<|x.trans<|Il e u i;generalize b[n]=P at*;let⟨v,w,F⟩:=P;simp only at p q r u i t;have g:∀W,cR bN 104 #[aw v] W λo k=>o=aN (aO cz)/\k=W:=by
        grind[rq,rW]
       cases F with
       |true=>
        go_wp21;go_call g _ as o l⟨rfl,j⟩;subst l;go_wp2;go_roundw
        .exact⟨n+1,e,dM,m,c.aE _⟩
        .simp[intOf];omega
       |false=>
        have:w.size<=16:=aI;have s:∀W,cR bN 105 #[aw w] W λo k=>o=aN (aO cz)/\k=W:=by
         grind[zW,rW]
        go_wp21;go_call g _ as o l⟨rfl,j⟩;subst l;go_wp21;go_call s _ as o l⟨rfl,j⟩;subst l;go_wp2;go_roundw
        .exact⟨n+1,e,dM,m,c.aE _⟩
        .simp[intOf];omega
    .have g:n=y b:=U;have m:=ak (show gT b=0 by rw[E,g,li];rfl);have:¬(n:Y)<(y b:Y):=U;clear E g;go_wp2;go_ret;exact⟨by rw[ag m];rfl,c⟩
def Hv(l:dB):∀a,(sj a l).Sublist l:=by
 induction l with
 |nil=>intro a;exact List.Sublist.slnil
 |cons e r b=>
  intro a;unfold sj;grind
def ZE(b:af)(a:iG):y (a.map<|iY b).flatten<=y a.flatten:=by
 induction a with
 |nil=>simp
 |cons r a c=>
  have:y (iY b r)<=y r:=gN _ _;grind

def MD(b c:af):(b==c)=decide (b=c):=by
 let⟨x⟩:=b;let⟨a⟩:=c;show(x==a)=_;by_cases h:x=a;simp[h];simp[h]
abbrev gU:=cy<|af×ae
def gU.jo(m:gU)(k:af):Option ae:=match m with
 |[]=>dE
 |p::r=>if p.1=k then M p.2 else gU.jo r k
def Fits(a:cy MapEntry)(m:gU):Prop:=a.map (λe=>(e.key,e.val))=m.map (λp=>(aw p.1,p.2))
def Fits.vM{e:MapEntry}{a:cy MapEntry}{m:gU}(h:Fits (e::a) m):∃p r,m=p::r/\e.key=aw p.1/\e.val=p.2/\Fits a r:=by
 cases m with
 |nil=>simp[Fits]at h
 |cons p r=>
  simp[Fits]at h;exact⟨p,r,z,h.1.1,h.1.2,h.2⟩
def Mb(k:af):∀(a:cy MapEntry)(m:gU)(i:R),Fits a m->∃l,Instr.findNow .string (aw k) a i=M ((m.jo k).map λv=>(l,v)):=by
 intro a;induction a with
 |nil=>
  intro m i h;obtain rfl:m=[]:=by simpa[Fits]using h
  exact⟨0,z⟩
 |cons n a j=>
  intro m i h;obtain⟨p,r,rfl,c,g,f⟩:=h.vM;by_cases d:p.1=k
  .refine⟨i,?_⟩;simp[Instr.findNow,Instr.sameNow,c,gU.jo,d,g,MD]
  .let⟨l,e⟩:=j r (i+1) f;refine⟨l,?_⟩;have b:(k==p.1)=bD:=by rw[MD];grind
   simp[Instr.findNow,Instr.sameNow,c,gU.jo,d,b,e]
def iP(w:Z)(c:R)(m:gU):Prop:=∃b a,w.heap[c]?=M (.map b a)/\Fits b.toList m/\MapKept.Stamped b a
def rh{P:Program}{mt l i n:R}{m:gU}{u:TypeInfo}{m9:ae}(s:P.underlying mt=M (.map l i))(j:P.underlying l=M .string)(q:P.info? i=M u)(t:u.zero=M m9)(h:iP a n m)(k:af):(Instr.lookup mt (.map<|M n) (aw k) bD).run P a=.ok ((m.jo k).getD m9) a:=by
 let⟨c,b,p,o,_⟩:=h;let⟨v,r⟩:=Mb k c.toList m 0 o;have d:=fT (P:=P) (w:=a) (k:=aw k) j (by trivial) c.isEmpty 9999;have e:=fR (P:=P) (w:=a) j r;have g:(getObj n).run P a=.ok (.map c b) a:=by simp[getObj,Sem.run,p]
 unfold Instr.lookup;rw[jy,eV s];simp only[kI,jy,g,rJ];rw[show(10000:R)=9999+1 from rfl,d];simp only[kI,e];cases hg:m.jo k with
 |none=>simp[zeroValue,typeInfo,q,t]
 |some w=>simp
def ru:(prog.info? 90).map (λi=>(i.zero,i.size,i.bytes))=M (M<|ee dE,1,8):=aH
abbrev eW(q:R):ae:=.iface 155<|aJ q
def Nm(n:af):Prop:=n.size<=2000000
def rE(w:Z)(q:R)(c:Y):Prop:=∃n,w.heap[q]?=M (aK #[aw n,ay c] 157 (0,0))/\Nm n
def rE.lY(w:Z)(c:Y)(h:Nm B):rE (dw w<|aK #[aw B,ay c] 157) (G<|H w) c:=⟨B,jp _ _,h⟩
structure Fg where
 d:Y
 wt:Y
 bd:Y
 L:Y
 f:Y
 l:eN
def Fg.ok(f:Fg):Prop:=(0<=f.wt/\f.wt<=9223372036854775807)/\0<=f.bd/\f.bd<=9223372036854775807
structure Fx(f f':Fg):Prop where
 ok:f.ok->f'.ok
 d:f'.d=f.d
 bd:f.bd=0->f'.bd=0
 l:f'.l=f.l
def Fx.bI(f:Fg):Fx f f:=⟨id,rfl,id,rfl⟩
def Fx.aj{f g h:Fg}(a:Fx f g)(b:Fx g h):Fx f h:=⟨λq=>b.ok<|a.ok q,b.d.trans a.d,λq=>b.bd<|a.bd q,b.l.trans a.l⟩
def qu(f:Fg):Prop:=f.l=cz\/f.d<1000000000
def Fx.D{f g:Fg}(a:Fx f g)(h:qu f):qu g:=by
 unfold qu;rwa[a.l,a.d]
def Fx.t{f g:Fg}(a:Fx f g)(h:qu g):qu f:=by
 unfold qu at h;rwa[a.l,a.d]at h
def Fx.p{f g:Fg}(b:Fx f g)(a:f.ok)(h:0<g.bd):0<f.bd:=by
 have:=a.2.1;have:=b.bd;omega
def lV(w:Z)(a d b:R)(c:ae)(f:Fg):Prop:=w.heap[a]?=M (aK #[.map<|M d,.map<|M b,c,ay f.d,ay f.wt,ay f.bd,ay f.L,ay f.f] 89 (0,0))
def zfc(w a:Z)(b f d:R)(e:ae)(c:Fg)(i:Ending):Prop:=∃g h,i=aN (aO g)/\lV a b f d e h/\I (λk=>k=b) w a/\G (H a)=G (H w)/\Fx c h/\(g=cz->0<c.bd)
def Ws{l:Fg}(h:lV a b c k d l)(s:l.ok):cR bN 66 #[aJ b] a λw v=>zfc a v b c k d l w:=by
 let⟨g,wt,i,f,e,j⟩:=l;let⟨⟨t,u⟩,m,n⟩:=s;simp only at t u m n;have c4:=aX h 4;have c5:=aX h 5;have:iI a (X b 4)=bD:=cV h;have:iI a (X b 5)=bD:=cV h;simp only at c4 c5;by_cases x:0<wt;(·(have o:IntKind.i64.wrap (wt-1)=wt-1:=by rw[bR];omega);(go_in);go_wp2;go_ret;refine⟨bD,⟨g,wt-1,i,f,e,j⟩,z,?_,iQ b a,ar,⟨λ_=>⟨⟨aI,aI⟩,m,n⟩,z,id,z⟩,λq=>by cases q⟩;unfold lV;rw[aY h];rfl);have o:wt=0:=U;subst o;by_cases p:0<i;(·(have:IntKind.i64.wrap (i-1)=i-1:=by rw[bR];omega);(go_in);go_wp2;go_ret;refine⟨cz,⟨g,0,i-1,f,e,j⟩,z,?_,iQ b a,ar,⟨λ_=>⟨⟨Int.le_refl _,aI⟩,aI,aI⟩,z,aI,z⟩,λ_=>p⟩;unfold lV;rw[aY h];rfl);have r:i=0:=U;subst r;(go_in);go_wp2;go_ret;exact⟨bD,_,z,h,I.bI _ _,z,Fx.bI _,λq=>by cases q⟩
structure jv where
 D:Z->Prop
 F:R->Prop
 l:∀{w w':Z}{S:fC},D w->I S w w'->(∀k,S k->¬F k)->D w'
 lt:∀{w:Z}{k:R},D w->F k->k<G (H w)
 Xp:Prop
variable{s:jv}
def la(V:jv)(b:R)(S:fC)(w a:Z):Prop:=G (H w)<=G (H a)/\∀k,((k<b/\¬V.F k)\/S k)->a.heap[k]?=w.heap[k]?
def la.bI(V:jv)(a:R)(S:fC)(w:Z):la V a S w w:=⟨aq _,λ_ _=>rfl⟩
def la.aj{S:fC}{d b e:Z}(h:la s c S d b)(k:la s c S b e):la s c S d e:=⟨aR h.1 k.1,λi a=>(k.2 i a).trans<|h.2 i a⟩
def la.aT{S T:fC}{e b:Z}(h:la s c S e b)(a:∀k,T k->S k):la s c T e b:=⟨h.1,λi d=>h.2 i<|d.imp id<|a i⟩
def la.u{a b:Z}(h:la s c W a b){k i:R}(g:W k\/(k<c/\¬s.F k))(e:bA a (X k i)=M d):bA b (X k i)=M d:=(dZ (w:=a)<|h.2 k g.symm).trans e
def I.bM{V:jv}{n0:R}{S T:fC}(h:I T a e)(i:n0<=G (H a))(c:∀k,S k->k<G (H a)/\¬T k)(g:∀k,T k->k<n0->V.F k):la V n0 S a e:=by
 refine⟨h.D,λk d=>?_⟩;obtain⟨b,f⟩|b:=d;exact h.A k U aI;exact h.A k (c k b).1 (c k b).2
theorem aQ{w:Z}(o:Obj)(h:c=G (H w)):(dw w o).heap[c]?=M o:=by
 subst h;show(w.heap.push o)[G<|H w]?=M o;simp
theorem gy{w:Z}(o:Obj)(h:b<G (H w)):(dw w o).heap[b]?=w.heap[b]?:=Below.heap_alloc w o b h
def kV(u:ae)(h:b≠c):(cP a (X c k) u).heap[b]?=a.heap[b]?:=Below.heap_setCell a (X c k) u b h
theorem gK{b i:R}:G (H<|cP a (X b i) d)=G (H a):=sO
abbrev fF(w:Z)(b:R)(v:ae)(t:TypeId):Prop:=w.heap[b]?=M (aK #[v] t (0,0))
theorem fF.u{w:Z}{b:R}{t:TypeId}(h:fF w b d t):bA w (X b 0)=M d:=by rw[cE h];rfl
theorem fF.bS{w:Z}{t:TypeId}(h:fF w b d t):iI w (X b 0)=bD:=cV h
def fF.gu{v:ae}{t:TypeId}(h:fF e b v t)(u:ae):fF (cP e (X b 0) u) b u t:=(aY h).trans rfl
def fF.dN{t:TypeId}(h:fF a b d t){b' i:R}(u:ae)(c:b≠b'):fF (cP a (X b' i) u) b d t:=(kV u c).trans h
theorem fF.aE{w:Z}{t:TypeId}(h:fF w b d t)(o:Obj):fF (dw w o) b d t:=(gy o<|az h).trans h
def jQ(w:Z)(b:R)(x:E):Prop:=w.heap[b]?=M (aK #[aw x.D,aw x.l,aO x.dP,bw x.f] 223 (0,0))
def jQ.bU{x:E}(h:jQ a b x):bA a (X b 0)=M (aw x.D)/\bA a (X b 1)=M (aw x.l)/\bA a (X b 2)=M (aO x.dP)/\bA a (X b 3)=M (bw x.f):=by
 refine⟨?_,?_,?_,?_⟩<;>rw[cE h]<;>rfl
def jQ.bS{w:Z}{b i:R}(h:jQ w b S):iI w (X b i)=bD:=cV h
def jQ.aE{w:Z}{x:E}(h:jQ w b x)(o:Obj):jQ (dw w o) b x:=(gy o<|az h).trans h
def jQ.aA{w w':Z}{b:R}{x:E}{S:fC}(h:jQ w b x)(c:I S w w')(a:¬S b):jQ w' b x:=(c.A b (az h) a).trans h
def jQ.gL{b:R}(h:jQ a b S)(c:E):jQ (cP (cP (cP (cP a (X b 0)<|aw c.D) (X b 1)<|aw c.l) (X b 2)<|aO c.dP) (X b 3)<|bw c.f) b c:=(aY<|aY<|aY<|aY h).trans z
def gZ{c:Func}{p u v:Tmp}(h:c.results=#[.cell p 223,.tmp u,.tmp v])(a:Array ae)(w:Z)(g:R)(x:E)(t:TypeId)(d:R×R)(i:a.getD p jn=aJ g)(e:w.heap[g]?=M (aK #[aw x.D,aw x.l,aO x.dP,bw x.f] t d)):(results c a).run bN w=.ok (de #[x.t,a.getD u jn,a.getD v jn]) w:=by
 have b:a[p]?.getD jn=aJ g:=dV i;have f:=kQ (P:=bN) w g t 223 #[aw x.D,aw x.l,aO x.dP,bw x.f] d _ e underlying223 z aH;simp[results,h,b,asAddr,f,Result.andThen,E.t]
def yu:ae:=ef #[aw ⟨#[]⟩,aw ⟨#[]⟩,aO bD,bw 0]
structure wV(V:jv)(n0:R)(S:fC)(w:Z):Prop where
 D:n0<=G (H w)
 f:∀k,V.F k->k<n0
 bZ:∀k,S k->n0<=k/\k<G (H w)
def tD(w:Z)(q:R):Prop:=∃c,rE w q c/\1<=c
def tD.aA{w w':Z}{q:R}{S:fC}(h:tD w q)(e:I S w w')(g:∀k,S k->k=q->∃c t r,w.heap[k]?=M (aK c t r)/\t≠157):tD w' q:=by
 let⟨c,⟨n,h,d⟩,a⟩:=h;refine⟨c,⟨n,(e.A q (az h)<|λc=>?_).trans h,d⟩,a⟩;grind
def Et(V:jv)(w a:Z)(S:fC)(e:Ending)(r:ae->ae):Prop:=V.Xp/\∃q,e=aN (r<|eW q)/\tD a q/\V.D a/\I S w a
abbrev bE(v:ae):ae:=de #[yu,aO bD,v]
def Dq(V:jv)(c g:R)(d:Array ae):dB->fC->Z->Prop
 |[],S,w=>wV V c S w/\∀b,la V c S w b->V.D b->cR bN g d b λf a=>(f=aN (de #[yu,aO bD,ic])/\V.D a/\I (λk=>S k\/V.F k) b a)\/Et V b a (λk=>S k\/V.F k) f bE
 |x::l,S,w=>wV V c S w/\∀b,la V c S w b->V.D b->cR bN g d b λf a=>(f=aN (de #[x.t,aO cz,ic])/\V.D a/\I (λk=>S k\/V.F k) b a/\∃e,(∀k,e k->S k\/G (H b)<=k)/\Dq V c g d l e a)\/Et V b a (λk=>S k\/V.F k) f bE
def wV.fq(h:wV s b W a):∀k,W k->¬s.F k:=λk d c=>gW (h.f k c)<|(h.bZ k d).1
def wV.aA{S T:fC}{w w':Z}(h:wV s c S w)(d:I T w w'):wV s c S w':=⟨aR h.1 d.D,h.f,λk a=>⟨(h.bZ k a).1,au (h.bZ k a).2 d.D⟩⟩
def wV.bM{V:jv}{n0:R}{S:fC}(h:wV V n0 S a)(c:la V n0 S a e):wV V n0 S e:=⟨aR h.1 c.1,h.f,λk b=>⟨(h.bZ k b).1,au (h.bZ k b).2 c.1⟩⟩
def Dq.aZ{a f:R}{c:Array ae}{l:dB}{w:Z}(h:Dq s a f c l W w):wV s a W w:=by
 cases l<;>exact h.1
def Dq.bM{V:jv}{n0 j:R}{g:Array ae}{S:fC}(h:Dq V n0 j g i S a)(b:la V n0 S a e):Dq V n0 j g i S e:=by
 cases i with
 |nil=>exact⟨h.1.bM b,λf c d=>h.2 f (b.aj c) d⟩
 |cons x i=>exact⟨h.1.bM b,λf c d=>h.2 f (b.aj c) d⟩
def Out(V:jv)(P:dB->fC->Z->Prop)(l:dB)(S:fC)(w:Z)(e:Ending)(a:Z):Prop:=((∃b,e=aN (bE b)/\((l=[]/\b=ic)\/(V.Xp/\∃q,b=eW q/\tD a q)))\/∃x r c,l=x::r/\e=aN (de #[x.t,aO cz,ic])/\(∀k,c k->S k\/G (H w)<=k)/\P r c a)/\V.D a/\I (λk=>S k\/V.F k) w a
def Dq.uh{g:Array ae}(h:Dq s b c g i W a)(j:s.D a):cR bN c g a (Out s (Dq s b c g) i W a):=by
 cases i with
 |nil=>
  go_call h.2 a (la.bI _ _ _ _) j as o n(⟨rfl,e,d⟩|⟨m,q,rfl,e,d,f⟩)
  .exact⟨ar,e,d⟩
  .exact⟨aI,d,f⟩
 |cons x i=>
  go_call h.2 a (la.bI _ _ _ _) j as o n(⟨rfl,e,d,k,f,l⟩|⟨m,q,rfl,e,d,f⟩)
  .exact⟨bu ⟨x,i,k,z,z,f,l⟩,e,d⟩
  .exact⟨aI,d,f⟩
def Dq.of{t:Array ae}(P:dB->fC->Z->Prop)(k:∀{l S w},P l S w->wV s b S w)(n:∀{l S w e},P l S w->la s b S w e->P l S e)(j:∀{l S w},P l S w->s.D w->cR bN c t w (Out s P l S w)):∀{l:dB}{S:fC}{w:Z},P l S w->Dq s b c t l S w
 |[],S,w,h=>⟨k h,λe f g=>(j (n h f) g).mono (by
  rintro A o⟨⟨u,rfl,⟨_,rfl⟩|⟨i,q,rfl,m⟩⟩|⟨C,B,p,r,_⟩,a,d⟩
  .grind
  .exact bu ⟨i,q,z,m,a,d⟩
  .cases r)⟩
 |g9::l,S,w,h=>⟨k h,λe f g=>(j (n h f) g).mono (by
  rintro A o⟨⟨u,rfl,⟨r,_⟩|⟨i,q,rfl,m⟩⟩|⟨C,B,p,r,rfl,v,x⟩,a,d⟩
  .cases r
  .exact bu ⟨i,q,z,m,a,d⟩
  .cases r;exact J ⟨z,a,d,p,v,Dq.of P k n j x⟩)⟩
def kA(V:jv)(c:R)(v:ae)(l:dB)(S:fC)(w:Z):Prop:=∃f b,v=.func (.func f) #[] b/\(∀a w,(callFunc f a).run bN w=.ok (.enter f a) w)/\Dq V c f b l S w
def kA.bM{V:jv}{n0:R}{S:fC}(h:kA V n0 d i S a)(j:la V n0 S a e):kA V n0 d i S e:=by
 let⟨k,b,c,f,g⟩:=h;exact⟨k,b,c,f,g.bM j⟩
def kA.aZ{l:dB}{w:Z}(h:kA s c d l W w):wV s c W w:=by
 let⟨f,e,g,j,a⟩:=h;exact a.aZ
def Ep(x a:E)(w:Z):cR bN 249 #[x.t,a.t] w λf e=>f=aN (aO<|ahead x a)/\e=dw (dw w<|aK #[aw x.D,aw x.l,aO x.dP,bw x.f] 223) (aK #[aw a.D,aw a.l,aO a.dP,bw a.f] 223):=by
 have b:ahead x a=(Op.bytesLess x.D.toList a.D.toList||((x.D.toList==a.D.toList)&&decide (a.f<x.f))):=by unfold ahead kH;congr 2;rw[Bool.eq_iff_iff];simp only[beq_iff_eq,rF];grind[Ao]
 rw[b];clear b;let⟨c,i,xd,g⟩:=x;let⟨d,l,k,j⟩:=a;unfold E.t;simp only;cases h1:Op.bytesLess c.toList d.toList with
 |true=>
  go_in
  go_wp2;go_ret;simp_all
 |false=>
  cases h2:(c.toList==d.toList)with
  |true=>
   go_in
   go_wp2;go_ret;simp_all
  |false=>
   go_in
   go_wp2;go_ret;simp_all
def BD{f:R}(r:Array ae)(n:R)(p:R->eN)(w:Z)(x:Enters bN f)(V:n<=1000000000000)(A:∀S F,S<=F->F<n->p S=cz->p F=cz)(K:∀j,j<n->∀W,gD (G<|H w) w W->cR bN f (#[ay j]++r) W λs E=>s=aN (aO<|p j)/\gD (G<|H W) W E):cR bN 247 #[ay n,.func (.func f) #[] r] w λs P=>∃D:R,s=aN (ay D)/\D<=n/\(∀j,j<D->p j=bD)/\(∀j,D<=j->j<n->p j=cz)/\gD (G<|H w) w P:=by
 have T:∀a w,(callFunc f a).run bN w=.ok (.enter f a) w:=x;have C:∀(x:eN)(w:Z),(Op.unary .not<|aO x).run bN w=.ok (aO<|!x) w:=λ_ _=>rfl;clear x;go_in
 go_wp2;go_loopw [5,6] (λj a wr=>∃g e:R,j=ay g/\a=ay e/\g<=e/\e<=n/\(∀t,t<g->p t=bD)/\(∀t,e<=t->t<n->p t=cz)/\gD (G<|H w) w wr) (λj a _=>(intOf a).toNat-(intOf j).toNat)
 exact⟨0,n,z,z,bQ _,aq _,λt h=>U,λt q h=>U,Below.refl _ _⟩
 .obtain⟨g,e,rfl,rfl,L,k,u,v,a⟩:=hrel;by_cases N:g<e
  .let⟨m,O⟩:∃m:R,(g+e)/2=m:=⟨_,rfl⟩;have l:m<n:=U;have b:=K m l wr a;have B:((g:Y)+(e:Y))/2=(m:Y):=U;cases hp:p m with
   |false=>
    rw[hp]at b;have o:=ak (λt(q:t<m+1)=>(show p t=bD from by
     cases c:p t with
     |false=>rfl
     |true=>have:=A t m U l c;rw[hp]at this;cases this))
    clear hp;go_wp2_with(go_at_fn f;refine b.mono ?_;rintro s Q⟨rfl,d⟩;have i:=ak d;clear d)
    go_roundw
    .exact⟨m+1,e,dM,z,U,k,o,v,a.trans<|i.mono a.size⟩
    .simp[intOf];omega
   |true=>
    rw[hp]at b;have o:=ak<|λt(q:m<=t)(a:t<n)=>A m t q a hp;clear hp;go_wp2_with(go_at_fn f;refine b.mono ?_;rintro s Q⟨rfl,d⟩;have i:=ak d;clear d)
    go_roundw
    .exact⟨g,m,z,dM,U,U,u,o,a.trans<|i.mono a.size⟩
    .simp[intOf];omega
  .have b:g=e:=U;subst b;go_wp2;go_ret;exact⟨g,z,k,u,v,a⟩
def bj(l:dB):iF:=l.flatMap E.bU
theorem ie(l:dB):y (bj l)=y l*4:=by
 induction l with
 |nil=>rfl
 |cons e r a=>unfold bj at*;rw[dR,ai,a];simp[E.bU];omega
theorem ig(a b:dB):bj (a++b)=bj a++bj b:=by simp[bj]
def fI(l:dB)(n:R)(h:n<y l):(bj l)[n*4]?=M (aw l[n].D)/\(bj l)[n*4+1]?=M (aw l[n].l)/\(bj l)[n*4+2]?=M (aO l[n].dP)/\(bj l)[n*4+3]?=M (bw l[n].f):=by
 have e:bj l=bj (l.take n)++(E.bU l[n]++bj (l.drop<|n+1)):=by(have b:l=l.take n++l[n]::l.drop (n+1):=by rw[<-dm h,du]);(conv=>lhs;rw[b]);simp only[bj,gS,dR]
 have a:y (bj<|l.take n)=n*4:=by rw[ie];simp;omega
 refine⟨?_,?_,?_,?_⟩;rw[e,fQ U,a];simp[E.bU];rw[e,fQ U,a,show n*4+1-n*4=1 by omega];simp[E.bU];rw[e,fQ U,a,show n*4+2-n*4=2 by omega];simp[E.bU];rw[e,fQ U,a,show n*4+3-n*4=3 by omega];simp[E.bU]
def lG(w:Z)(v:ae)(l:dB):Prop:=Row w 4 v (y l)<|bj l
def lG.dD{l:dB}{B:R}(h:lG a d l)(k:gD B a e)(n:∀q,cN d=M q->q<B):lG e d l:=by
 obtain⟨g,⟨rfl,j⟩|⟨i,b,c,rfl,f,m⟩⟩:=h;exact⟨g,J ⟨z,j⟩⟩;exact⟨g,bu ⟨i,b,c,z,f,λo u j=>(k.cell (p:=(X i<|b+o))<|n i z).trans<|m o u j⟩⟩
def below_drewN{w wr:Z}(h:gD b w wr)(q:R):gD b w (wr.drewN q):=⟨h.os,h.tape,h.output,h.size,h.block⟩
def DB{b:af}(h:B≠b):(B.toList==b.toList)=bD:=by
 grind[Ao]
def jQ.dD{B b:R}(h:jQ a b S)(c:gD B a e)(d:b<B):jQ e b S:=(c.block b d).trans h
def RX(h:lG a d i)(j:fF a b d 103)(p:jQ a c S)(g:R)(F:g<y i):cR bN 248 #[ay g,aJ b,aJ c] a λT L=>T=aN (aO<|!ahead i[g] S)/\gD (G<|H a) a L:=by
 have:∀(S:eN)(a:Z),(Op.unary .not<|aO S).run bN a=.ok (aO<|!S) a:=λ_ _=>rfl;have:=j.u;let⟨N,O,P,Q⟩:=p.bU;obtain⟨W,⟨rfl,V⟩|⟨k,e,l,rfl,K,C⟩⟩:=h;omega;have D:=fI i g F;have n:=C _ _ D.1;have x:bA a (X k<|e+g*4+1)=M (aw i[g].l):=by rw[bJ];grind
 have A:bA a (X k<|e+g*4+2)=M (aO i[g].dP):=by rw[bJ];grind
 have B:bA a (X k<|e+g*4+3)=M (bw i[g].f):=by rw[bJ];grind
 have m:=λW=>Ep i[g] S W;have:(g:Y)<(y i:Y):=U;have:(0:Y)<=(g:Y):=U;generalize i[g]=o at*;generalize ahead o S=aa at*;let⟨v,w,u,t⟩:=o;let⟨r,s,xd,q⟩:=S;unfold E.t at m;simp only at m N O P Q n x A B;have:=az j;have:=az p;have:k<G (H a):=cA _ _ n;go_in
 go_wp21;go_region_held3(λf=>bA f (X b 0)=M (bX k e (y i) l)/\bA f (X k<|e+g*4)=M (aw v)/\bA f (X k<|e+g*4+1)=M (aw w)/\bA f (X k<|e+g*4+2)=M (aO u)/\bA f (X k<|e+g*4+3)=M (bw t)/\bA f (X c 0)=M (aw r)/\bA f (X c 1)=M (aw s)/\bA f (X c 2)=M (aO xd)/\bA f (X c 3)=M (bw q)) (first|assumption|go_keep) (first|(go_at_call 249;refine(m _).mono ?_;rintro T w1⟨rfl,rfl⟩))
 go_wp2;go_ret;have j:gD (G<|H a) a (dw (dw a<|aK #[aw v,aw w,aO u,bw t] 223)<|aK #[aw r,aw s,aO xd,bw q] 223):=((Below.refl _ a).alloc (aq _) _).alloc ar _;exact⟨z,j.os,j.tape,j.output,j.size,j.block⟩
def DR(v:ae)(q:af)(e:Y)(w:Z)(h:lG w v i)(D:gG i)(x:y i<=1000000000000)(E:∀e,cN v=M e->e<G (H w)):cR bN 190 #[v,aw q,bw e] w λK F=>K=aN (ay<|mP i ⟨q,⟨#[]⟩,bD,e⟩)/\gD (G<|H w) w F:=by
 let⟨W,b⟩:∃W,dw (dw w<|aK #[v] 103) (aK #[aw q,aw ⟨#[]⟩,aO bD,bw e] 223)=W:=⟨_,rfl⟩;have s:gD (G<|H w) w W:=b▸((Below.refl _ w).alloc (aq _) _).alloc ar _;have:G (H W)=G (H w)+2:=by rw[<-b];simp
 have a:fF W (G<|H w) v 103:=by rw[<-b];grind[fF.aE,aQ]
 have k:jQ W (G (H w)+1) ⟨q,⟨#[]⟩,bD,e⟩:=b▸aQ _ ar
 have n:=BD #[aJ<|G<|H w,aJ<|G (H w)+1] (y i) (λr=>if t:r<y i then !ahead i[r] ⟨q,⟨#[]⟩,bD,e⟩else cz) W (enters_of func248 aH z) x (by
  intro r L l c j;have m:r<y i:=U;simp only[c,m,Ay]at j|-;cases d:ahead i[L] ⟨q,⟨#[]⟩,bD,e⟩with
  |false=>rfl
  |true=>rw[D.aT l c d]at j;cases j)
  (by
   intro r t N g;apply(RX (h.dD (s.trans (g.mono U)) E) ((g.block _ U).trans a) (k.dD g U) r t).mono;grind)
 let⟨Q,P,o⟩:=cG h;subst o;subst b;go_in
 go_wp2_with(go_at_call 247;refine n.mono ?_;rintro K O⟨p,rfl,C,A,B,a⟩;have u:=ak<|show mP i ⟨q,⟨#[]⟩,bD,e⟩=p from H5 C aI aI;have f:=ak a)
 go_ret;rw[ag u];exact⟨z,s.trans<|f.mono dW⟩
def fF.bM{V:jv}{n0:R}{S:fC}{t:TypeId}(h:fF a b d t)(f:la V n0 S a e)(c:S b):fF e b d t:=(f.2 b<|bu c).trans h
def Av(c a b:R)(v:ae)(k:R):Prop:=k=a\/k=b\/(cN v=M k/\c<=k)
structure MW(V:jv)(n0:R)(w:Z)(xi xl:R)(v:ae)(l:dB)(i:R):Prop where
 bi:fF w xi (ay i) 3
 bl:fF w xl v 103
 f:lG w v l
 il:xi≠xl
 aZ:∀k,cN v=M k->k≠xi/\k≠xl/\¬V.F k/\k<G (H w)
def MW.D(h:MW s b a c k d i n)(r:la s b (Av b c k d) a e):lG e d i:=by
 have t:=h.aZ;obtain⟨l,⟨rfl,o⟩|⟨m,f,g,rfl,j,p⟩⟩:=h.f;exact⟨l,J ⟨z,o⟩⟩;refine⟨l,bu ⟨m,f,g,z,j,λv w q=>r.u ?_<|p v w q⟩⟩;by_cases u:b<=m;exact J<|bu<|bu ⟨z,u⟩;exact bu ⟨U,(t m z).2.2.1⟩
def Wj(V:jv)(e c f:R)(w:ae)(m:dB)(hl:y m<=1000000000000):∀(aa j:R)(S:Z),aa=y m-j->j<=y m->MW V e S c f w m j->wV V e (Av e c f w) S->Dq V e 334 #[aJ c,aJ f] (m.drop j) (Av e c f w) S:=by
 intro aa;induction aa with
 |zero=>
  intro j S N L g p;have a:j=y m:=U;subst a;rw[li];refine⟨p,λb i v=>?_⟩;have s:=(g.bi.bM i<|J z).u;have l:=(g.bl.bM i<|bu<|J z).u;have B:=ak<|λd(an:I (Av e c f w) b d)=>V.l v an p.fq;have n:=az<|g.bi.bM i<|J z;have r:=az<|g.bl.bM i<|bu<|J z;let⟨ab,k,q⟩:=cG g.f;rw[q]at l;clear g i v N L q;go_in
  go_wp2;refine ci (gZ z _ _ (G<|H b) ⟨⟨#[]⟩,⟨#[]⟩,bD,0⟩ _ _ z<|aQ _ z) z ?_;refine J ⟨z,?_⟩;have o:I (Av e c f w) b (dw b<|aK #[aw ⟨#[]⟩,aw ⟨#[]⟩,aO bD,bw 0] 223):=(cI _ _);exact⟨B _ o,o.aT aI⟩
 |succ aa ih=>
  intro j S N L g p;have r:j<y m:=U;rw[dm r];refine⟨p,λb i v=>?_⟩;have l:=g.bi.bM i<|J z;have n:=g.bl.bM i<|bu<|J z;have:=l.u;have:=l.bS;have:=n.u;have hE:=g.D i;have O:=g.aZ;have Q:=g.il;let⟨B,HI,HO,HS⟩:=js (λd(an:I (Av e c f w) b d)=>V.l v an p.fq) (λd(a:MW V e d c f w m (j+1))(g:wV V e (Av e c f w) d)=>ih (j+1) d U U a g) (p.bM i) i.1;obtain⟨C,⟨rfl,ad⟩|⟨u,a,k,rfl,al,hc⟩⟩:=hE
  .omega
  have hg:=fI m j r;have s:bA b (X u<|a+j*4)=M (aw m[j].D):=hc _ _ hg.1;have E:bA b (X u<|a+j*4+1)=M (aw m[j].l):=by rw[bJ];grind
  have F:bA b (X u<|a+j*4+2)=M (aO m[j].dP):=by rw[bJ];grind
  have K:bA b (X u<|a+j*4+3)=M (bw m[j].f):=by rw[bJ];grind
  have:=az l;have:=az n;have:u<G (H b):=cA _ _ s;have:c≠u:=λac=>(O u z).1 ac.symm;let⟨HE,A,x,HV⟩:=js (show Row b 4 (bX u a (y m) k) (y m) (bj m)from⟨C,aI⟩) n l O;generalize m[j]=ab at*;let⟨xk,xv,xd,W⟩:=ab;simp only at s E F K;go_in
  go_wp2;refine ci (gZ z _ _ (G<|H b) ⟨xk,xv,xd,W⟩ _ _ z<|aQ _ gK.symm) z ?_;refine J ⟨z,?_⟩;have o:I (λP=>P=c) b (dw (cP b (X c 0)<|ay<|j+1)<|aK #[aw xk,aw xv,aO xd,bw W] 223):=(iQ c b).aE _;have t:I (Av e c f<|bX u a (y m) k) b _:=o.aT (T:=Av e c f<|bX u a (y m) k)<|λab q=>J<|J q;refine⟨B _ t,t.aT<|λab q=>J<|J q,Av e c f _,λP D=>J D,HI _ ?_<|HO.aA o⟩;refine⟨(x.gu _).aE _,(A.dN _<|λac=>Q ac.symm).aE _,o.bV HE ?_,Q,λP D=>?_⟩
  .rintro P⟨⟩;grind
  .let⟨q1,q2,q3,q4⟩:=HV P D;exact⟨q1,q2,q3,au q4<|aR HS o.D⟩
def Hq(V:jv)(i:R){v:ae}{l:dB}(e:af){w:Z}(h:lG w v l)(F:gG l)(S:∀O∈l,O.f<18446744073709551616)(E:y l<=1000000000000)(q:∀k,cN v=M k->¬V.F k/\k<G (H w))(hn:i<=G (H w))(hF:∀k,V.F k->k<i):cR bN 332 #[v,aw e] w λt N=>∃L aa,t=aN L/\kA V i L (iY e l) aa N/\gD (G<|H w) w N/\(∀k,aa k->(cN v=M k/\i<=k)\/G (H w)<=k):=by
 have T:=λc(m:gD (G<|H w) w c)=>DR v e 18446744073709551615 c (by
  obtain⟨n,⟨rfl,x⟩|⟨u,a,b,rfl,f,B⟩⟩:=h
  .exact⟨n,J ⟨z,x⟩⟩
  .exact⟨n,bu ⟨u,a,b,z,f,λK W C=>(m.cell (p:=(X u (a+K))) (q u z).2).trans (B K W C)⟩⟩) F E (λd o=>au (q d o).2 m.size)
 let⟨Q,r,s⟩:=eU T (show iY e l=l.drop (mP l ⟨e,⟨#[]⟩,bD,18446744073709551615⟩)from(Vo F e _ _ aI).symm)<|Lp l ⟨e,⟨#[]⟩,bD,18446744073709551615⟩;have D:=cG h;generalize mP l ⟨e,⟨#[]⟩,bD,18446744073709551615⟩=P at*;obtain⟨O,b,rfl⟩:=D;go_in
 go_wp2_with(go_at_call 190;refine(Q _<|(Below.refl _ w).alloc (aq _) _).mono ?_;rintro t j⟨rfl,A⟩;have HB:=ak A)
 go_ret;have o:=ag HB;have:G (H w)+1<=G (H j):=by have:=o.size;simp_all
 have d:gD (G<|H w) w j:=((Below.refl _ w).alloc (aq _) _).trans<|o.mono ar;have c:gD (G<|H w) w (dw j<|aK #[ay P] 3):=d.alloc d.size _;have p:fF j (G<|H w) (am O (y l) b) 103:=(o.block (G<|H w) ar).trans<|aQ _ z;refine⟨_,Av i (G<|H j) (G<|H w)<|am O (y l) b,z,⟨334,_,z,enters_of func334 aH z,?_⟩,c,?_⟩;rw[ag r];refine Wj V i (G<|H j) (G<|H w) (am O (y l) b) l E _ P _ z s ⟨aQ _ z,p.aE _,?_,U,λk g=>?_⟩ ⟨by simp;omega,hF,λk g=>?_⟩;obtain⟨n,⟨t,x⟩|⟨u,a,m,t,f,B⟩⟩:=h;exact⟨n,J ⟨t,x⟩⟩;refine⟨n,bu ⟨u,a,m,t,f,λK W C=>(c.cell (p:=(X u<|a+K)) ?_).trans<|B K W C⟩⟩;exact(q u (by rw[t];rfl)).2;let⟨m,q2⟩:=q k g;exact⟨U,U,m,by simp;omega⟩;obtain rfl|rfl|⟨g,m⟩:=g;exact⟨U,ar⟩;exact⟨U,by simp;omega⟩;exact⟨m,by have:=(q k g).2;simp;omega⟩;rintro k(rfl|rfl|g);right;omega;right;omega;grind
section
open ChangeMaps (setBlock)
def gU.gL(m:gU)(k:af)(v:ae):gU:=match m with
 |[]=>[(k,v)]
 |p::r=>if p.1=k then(k,v)::r else p::gU.gL r k v
def gU.dP(m:gU)(k:af):gU:=match m with
 |[]=>[]
 |p::r=>if p.1=k then r else p::gU.dP r k
theorem Fits.Al{e:MapEntry}{b:cy MapEntry}{p:af×ae}{m:gU}(d:e.key=aw p.1)(f:e.val=p.2)(h:Fits b m):Fits (e::b) (p::m):=by
 simp[Fits,d,f];exact h
theorem JU(k:af):∀(d:cy MapEntry)(m:gU)(r:R),Fits d m->(Instr.findNow .string (aw k) d r=M dE/\m.jo k=dE/\(∀e∈d,e.key≠aw k)/\m.dP k=m/\∀v,m.gL k v=m++[(k,v)])\/∃s e,Instr.findNow .string (aw k) d r=M (M (r+s,e.val))/\d[s]?=M e/\e.key=aw k/\m.jo k=M e.val/\(∀v,Fits (d.modify s λe=>{e with key:=aw k,val:=v})<|m.gL k v)/\Fits (d.eraseIdx s) (m.dP k):=by
 intro d;induction d with
 |nil=>
  intro m r h;obtain rfl:m=[]:=by simpa[Fits]using h
  exact J ⟨z,z,ar,z,λ_=>rfl⟩
 |cons e d A=>
  intro m r h;obtain⟨B,C,rfl,f,q,p⟩:=h.vM;by_cases b:B.1=k
  .refine bu ⟨0,e,?_,z,by rw[f,b],?_,?_,?_⟩
   .simp[Instr.findNow,Instr.sameNow,f,b,MD]
   .simp[gU.jo,b,q]
   .intro v;simp only[gU.gL,b,mT,sI];exact Fits.Al z z p
   .simpa[gU.dP,b]using p
  .have g:(k==B.1)=bD:=by rw[MD];grind
   obtain⟨i,j,t,l,n⟩|⟨s,u,i,j,t,l,n,x⟩:=A C (r+1) p
   .refine J ⟨?_,?_,?_,?_,?_⟩
    .simp[Instr.findNow,Instr.sameNow,f,g,i]
    .simp[gU.jo,b,j]
    .grind
    .simp[gU.dP,b,l]
    .intro v;simp[gU.gL,b,n]
   .refine bu ⟨s+1,u,?_,dV j,t,?_,?_,?_⟩
    .simp[Instr.findNow,Instr.sameNow,f,g,i];omega
    .simp[gU.jo,b,l]
    .intro v;simp only[gU.gL,b,mA,sJ];exact Fits.Al f q<|n v
    .simp only[gU.dP,b,mA,xz];exact Fits.Al f q x
theorem jX(w:Z)(d:R)(o:Obj):w.grownBy (setBlock w d o) (M d):=⟨z,z,z,by simp[setBlock],λk _ b=>by
 simp only[setBlock];rw[kY (λe=>b (by rw[e]))]⟩
theorem EE{P:Program}{w:Z}{mt u x p:R}{B:gU}(t:P.underlying mt=M (.map u x))(i:P.underlying u=M .string)(h:iP w p B)(k:af)(v:ae):∃j,(Instr.mapUpdate mt (.map<|M p) (aw k) v).run P w=.ok () j/\iP j p (B.gL k v)/\w.grownBy j (M p)/\G (H j)=G (H w):=by
 let⟨g,b,f,n,s⟩:=h;have d:=kJ (P:=P) f;obtain⟨l,q,m,_,r⟩|⟨C,e,l,q,m,D,r,_⟩:=JU k g.toList B 0 n;refine⟨setBlock w p<|.map (g.push {key:=aw k,val:=v,born:=b})<|b+1,?_,?_,jX _ _ _,by simp[setBlock]⟩;simp[Instr.mapUpdate,eV t,d,fT i (show MapKept.IsKey .string (aw k)by trivial),fR i l,gV _ f,Result.andThen,setBlock];refine⟨_,_,(ib f).1,?_,tI s m⟩;rw[r];simp[Fits]at n|-;exact n;have A:g[C]?=M e:=dV q;refine⟨setBlock w p<|.map (g.modify C λe=>{e with key:=aw k,val:=v}) b,?_,?_,jX _ _ _,by simp[setBlock]⟩;simp[Instr.mapUpdate,eV t,d,fT i (show MapKept.IsKey .string (aw k)by trivial),fR i l,A,m,qw (show MapKept.IsKey .string (aw k)by trivial),gV _ f,Result.andThen,setBlock];refine⟨_,_,(ib f).1,?_,rL s _ _ (λ_ _=>rfl) aI⟩;grind
theorem NG{P:Program}{w:Z}{mt l t m:R}{A:gU}(r:P.underlying mt=M (.map l t))(g:P.underlying l=M .string)(h:iP w m A)(s:af)(B:TypeId):∃i,(Builtin.delete_ #[mt,l] B #[.map<|M m,aw s]).run P w=.ok (de #[]) i/\iP i m (A.dP s)/\w.grownBy i (M m)/\G (H i)=G (H w):=by
 let⟨d,b,f,p,q⟩:=h;have e:=kJ (P:=P) f;obtain⟨j,k,u,n,v⟩|⟨x,C,j,k,u,n,v,D⟩:=JU s d.toList A 0 p;refine⟨setBlock w m<|.map d b,?_,?_,jX _ _ _,by simp[setBlock]⟩;simp[Builtin.delete_,eV r,e,fT g (show MapKept.IsKey .string (aw s)by trivial),fR g j,gV _ f,Result.andThen,setBlock];rw[n];exact⟨_,_,(ib f).1,p,q⟩;have:d[x]?=M C:=dV k;(have:x<d.size:=by have:=ir.1 k;grind);refine⟨setBlock w m<|.map (d.eraseIdxIfInBounds x) b,?_,?_,jX _ _ _,by simp[setBlock]⟩;simp[Builtin.delete_,eV r,e,fT g (show MapKept.IsKey .string (aw s)by trivial),fR g j,gV _ f,Result.andThen,setBlock];refine⟨_,_,(ib f).1,?_,zg q _⟩;simp_all
theorem iP.qT{w i:Z}{j:R}{p:gU}{d:Option R}(h:iP w j p)(m:w.grownBy i d)(e:M j≠d):iP i j p:=by
 let⟨k,b,g,l,n⟩:=h;exact⟨k,b,(m.block j (az g) e).trans g,l,n⟩
theorem iP.aE{w:Z}{b:R}{m:gU}(h:iP w b m)(o:Obj):iP (dw w o) b m:=h.qT (eR w o dE) ar
theorem iP.lt{w:Z}{b:R}{m:gU}(h:iP w b m):b<G (H w):=by
 let⟨_,_,d,_⟩:=h;exact az d
section
variable{P:Program}(w:Z){c:Array Oper}{rest:cy Oper}{o:Oper}{a:Act}{Q:Exit->Act->Z->Prop}
theorem zt(n:o.guard=dE)(j C k:Operand)(B:TypeId)(i:o.op=Op.mapUpdate B j C k)(x E:TypeId)(r:P.underlying B=M (.map x E))(p:P.underlying x=M .string)(l:R)(A:gU)(q:a.eval j=.map (M l))(h:iP w l A)(b:af)(d:ae)(t:a.eval C=aw b)(s:a.eval k=d)(m:∀f,iP f l (A.gL b d)->w.grownBy f (M l)->wpList P c Q rest (a.put o.dst jn) f):wpList P c Q (o::rest) a w:=by
 refine lz n λD g=>?_;let⟨f,e,u,v,_⟩:=EE r p h b d;unfold Oper.wp;simp[execOp,i,q,t,s,e,Result.andThen];exact g _ _<|m f u v
theorem FQ(l:o.guard=dE)(i x:Operand)(v r:TypeId)(g:o.op=Op.call {callee:=Callee.builtin Builtin.delete,args:=#[i,x],argTypes:=#[v,r]})(B:TypeId)(p:P.underlying v=M (.map r B))(m:P.underlying r=M .string)(j:R)(u:gU)(n:a.eval i=.map (M j))(h:iP w j u)(b:af)(q:a.eval x=aw b)(k:∀e,iP e j (u.dP b)->w.grownBy e (M j)->wpList P c Q rest (a.put o.dst<|de #[]) e):wpList P c Q (o::rest) a w:=by
 refine lz l λA f=>?_;let⟨e,d,s,t,_⟩:=NG p m h b o.type;unfold Oper.wp;simp[execOp,g,resolve,invoke,builtin,n,q,d,Result.andThen];exact f _ _<|k e s t
end
end
def Bytes.fS(h:Bytes a d m):d=aF/\m=[]\/∃f b c,d=bX f b (y m) c/\y m<=c:=by
 obtain h|⟨f,b,c,h,e,_⟩:=h;exact J h;grind
def lq:Option R->ae
 |none=>.pointer dE
 |some g=>.pointer<|M<|X g 0
abbrev Mv:=af×Option R
def AM(p:Mv):iF:=[aw p.1,lq p.2]
def tR(l:cy Mv):iF:=l.flatMap AM
def Lz(l:cy Mv)(i:R)(h:i<y l):(tR l)[i*2]?=M (aw l[i].1)/\(tR l)[i*2+1]?=M (lq l[i].2):=by
 induction l generalizing i with
 |nil=>simp at h
 |cons p r a=>
  cases i with
  |zero=>simp[tR,AM]
  |succ i=>
   have:=a i<|dV h;have e:(i+1)*2=i*2+2:=U;rw[e];simpa[tR,AM]using this
def C4(w:Z)(v:ae)(l:cy Mv):Prop:=Row w 2 v (y l)<|tR l
def OF(m:gU)(x:Mv):gU:=match x.2 with
 |none=>m.dP x.1
 |some g=>m.gL x.1<|lq<|M g
def qR(m:gU)(l:cy Mv):gU:=l.foldl OF m
def OE(m:gU)(l:cy Mv)(n:R)(h:n<y l):qR m (l.take<|n+1)=OF (qR m<|l.take n) l[n]:=by
 unfold qR;rw[aG h,jS];rfl
def so(h:bA a (X b c)=M d):b<G (H a):=by
 by_cases e:b<G (H a);exact e;unfold World.cell? at h;rw[jJ<|dV e]at h;simp at h
def iP.ne{w:Z}{m:gU}(h:iP w b m)(e:bA w (X c k)=M d):c≠b:=by
 let⟨j,a,g,_⟩:=h;intro i;subst i;simp[World.cell?,g]at e
def JI(E:gU)(o:cy Mv)(u:iP a b E)(P:C4 a d o)(hr:y o<=1000000000000):cR bN 53 #[.map<|M b,d] a λaa K=>aa=aN (de #[])/\iP K b (qR E o)/\a.grownBy K (M b):=by
 obtain⟨h1,⟨rfl,N⟩|⟨C,e,L,rfl,Q,O⟩⟩:=P;(.obtain rfl:o=[]:=bG N;(go_in);go_wp2;(go_loopw [8] (λD wr=>D=ay 0/\wr=a) (λ_ _=>0));(grind);obtain⟨rfl,rfl⟩:=hrel;go_wp2;go_end0;exact⟨z,u,vG _ _⟩)
 .have r:=ak O;go_in
  go_wp2;go_loopw [8] (λD wr=>∃n:R,n<=y o/\D=ay n/\iP wr b (qR E<|o.take n)/\a.grownBy wr (M b)) (λD _=>y o-(intOf D).toNat)
  .exact⟨0,bQ _,z,u,vG _ _⟩
  .obtain⟨n,hn,rfl,f,k⟩:=hrel;by_cases q:n<y o
   .have s:=Lz o n q;have p:=r _ _ s.1;have t:=so p;have v:=u.ne p;have c:wr.heap[C]?=a.heap[C]?:=k.block C t<|dV v;have w:bA wr (X C<|e+n*2)=M (aw o[n].1):=(dZ (w:=a) c).trans<|r _ _ s.1;have m:bA wr (X C<|e+n*2+1)=M (lq o[n].2):=(dZ (w:=a) c).trans (by rw[bJ];exact r _ _ s.2);have B:=ak<|OE E o n q;generalize qR E (o.take n)=W at*;generalize o[n]=ab at*;let⟨F,S⟩:=ab;simp only at w m;have x:=ak f.aE;have A:=ak<|λo=>k.trans<|eR wr o<|M b;cases S with
    |none=>
     simp only[lq]at m;go_wp2_with(first
      |(at_delete;refine FQ _ z _ _ 86 9 z 90 underlying86 underlying9 b W z (x _) F z ?_;intro V l j;have i:=ak l;have g:=ak j))
     go_roundw
     .exact⟨n+1,U,dM,ag B▸i,(A _).trans g⟩
     .simp[intOf];omega
    |some ac=>
     simp only[lq]at m;go_wp2_with(first
      |(at_mapUpdate;refine zt _ z _ _ _ 86 z 9 90 underlying86 underlying9 b W z (x _) F _ z z ?_;intro V l j;have i:=ak l;have g:=ak j))
     go_roundw
     .exact⟨n+1,U,dM,ag B▸i,(A _).trans g⟩
     .simp[intOf];omega
   .have c:n=y o:=U;subst c;go_wp2;go_end0;have:=f;rw[cQ]at this;exact⟨z,this,k⟩
def VW:(prog.info? 135).map (λi=>(i.zero,i.size,i.bytes))=M (M aF,1,24):=aH
def pP(w:Z)(x:ae)(t:TypeId):∀j u,[x][j]?=M u->bA (dw w<|aK #[x] t) (((X (G<|H w) 0):Addr).add j)=M u:=by
 intro j u a;rw[dS];simp_all
structure Is(w w':Z)(db nb sb:R)(mv:ae)(fx:Fg)(m:gU)(n:R)(xs:iF)(mv':ae):Prop where
 S:lV w' db nb sb mv' fx
 l:iP w' nb m
 o:fE w' 0 135 1 mv' n xs
 aA:I (λk=>k=db\/k=nb\/cN mv=M k) w w'
 aZ:cN mv'=cN mv\/∃g,cN mv'=M g/\G (H w)<=g
def GU{L:Fg}(ap:gU)(A:cy Mv)(h:lV e b c k d L)(O:iP e c ap)(hl:C4 e w A)(hr:y A<=1000000000000)(E:fE e 0 135 1 d n Q)(hn:n<=1000000000000):cR bN 65 #[aJ b,w] e λx w'=>x=aN (de #[])/\∃ao,Is e w' b c k d L (qR ap A) (n+1) (Q++[w]) ao:=by
 let⟨i0,ac,ad,al,an⟩:=cZ VW;have HS:=ak<|JI ap A O hl hr;obtain⟨v,s,rfl⟩:=cG hl;have V:=aX h 0;have t:b≠c:=O.ne V;have D:cN d≠M b:=ue E h cg;have u:cN d≠M c:=by intro x;let⟨p,o⟩:=gh E x;let⟨K,F,C,_⟩:=O;rw[C]at o;cases o
 have l:∀g p j,iP g c (qR ap A)->e.grownBy g (M c)->fE j 0 135 1 p (n+1) (Q++[am v (y A) s])->fo (dw g<|aK #[am v (y A) s] 135) j d p->bA j (X b 2)=M d/\iI j (X b 2)=bD/\Is e (cP j (X b 2) p) b c k d L (qR ap A) (n+1) (Q++[am v (y A) s]) p:=by intro g p j m f F o;have W:g.heap[b]?=e.heap[b]?:=f.block b (az h)<|dV t;have C:b<G (H g):=au (az h) f.size;have ab:(dw g<|aK #[am v (y A) s] 135).heap[b]?=e.heap[b]?:=(Below.heap_alloc g _ b C).trans W;have aa:j.heap[b]?=e.heap[b]?:=(o.dF.block b dW<|λx=>D x.symm).trans ab;have N:lV j b c k d L:=aa.trans h;have K:cN p≠M b:=ue F N cg;refine⟨by rw[cE N];rfl,cV N,⟨?_,?_,?_,?_,?_⟩⟩;unfold lV;rw[aY N];rfl;exact((m.aE _).qT o.dF<|λx=>u x.symm).qT (eG j b 2 p) aI;exact F.kept (eG j b 2 p)<|bu K;refine((I.eF f aI).aE<|aK #[am v (y A) s] 135).aj (T:=λk=>cN d=M k) (I.eF o.dF<|λk x=>J x) aI|>.aL b 2 p (J<|J z);obtain x|⟨aD,x,hg⟩:=o.f;exact J x;exact bu ⟨aD,x,by have:=f.size;simp at hg;omega⟩
 let⟨HG,HO,P⟩:=eU l (λg(f:e.grownBy g (M c))=>(E.kept f<|bu u).alloc<|aK #[am v (y A) s] 135)<|λg(f:e.grownBy g (M c))=>(dZ (w:=e) (a:=(X b 2))<|f.block b (az h)<|dV t).trans (show bA e (X b 2)=M d by rw[cE h];rfl);obtain⟨xm,cm,rfl⟩:=aM E;clear h O hl E l D u t;go_in
 go_wp2_with(first
  |(go_at_call 53;refine HS.mono ?_;rintro x g⟨rfl,m,f⟩;have:=P g f;have S:=ak m;have B:=ak f;clear m f)
  |(at_builtin;refine cq _ z (.tmp 14) (.tmp 16) 87 z 0 135 i0 aF 1 24 underlying87 ac ad al an z cg _ n Q z (HO g B) (X (G (H g)) 0) 1 1 [.slice v (y A) s] z z (pP _ _ _) (by simp[Value.oneCell']) U U (bQ _) ?_;intro v2 j i r;let⟨av,ax,q⟩:=HG g v2 j S B i r;obtain⟨x2,c2,rfl⟩:=aM i;have HF:=ak q;clear i r q))
 go_end0;exact⟨z,_,HF⟩
structure dj where
 dA:af
 l:R
 A:ae
 bB:eD
 D:Y
def dj.nm(f:dj):af×ae:=(f.dA,lq<|M f.l)
structure DK where
 nb:R
 sb:R
 mv:ae
 fx:Fg
 ah:cy dj
 sm:gU
 l:cy (ae×cy Mv)
 qP:cy dj
variable{f x:DK}
def fw(a:cy dj):R:=(a.map (·.bB.length)).sum
def sB(w:Z)(f:dj):Prop:=w.heap[f.l]?=M (aK #[f.A,ay f.D] 93 (0,0))/\fA w 0 f.A f.bB/\kj f.bB/\0<=f.D/\f.D<=y f.bB/\y f.bB<=1099511627776
def vR(w:Z)(x:ae×cy Mv):Prop:=C4 w x.1 x.2/\y x.2<=2/\∀k,cN x.1=M k->∃a b,w.heap[k]?=M (aK a 154 b)
def mG(f g:dj):Prop:=f.l≠g.l/\∀k,cN f.A=M k->cN g.A≠M k
def mG.zC{f g:dj}(h:mG f g):mG g f:=⟨λe=>h.1 e.symm,λk e a=>h.2 k a e⟩
structure cJ(w:Z)(db:R)(K:DK):Prop where
 S:lV w db K.nb K.sb K.mv K.fx
 l:iP w K.nb (K.ah.map dj.nm)
 D:iP w K.sb K.sm
 ne:K.nb≠K.sb
 o:fE w 0 135 1 K.mv (y K.l) (K.l.map (·.1))
 bZ:∀x∈K.l,vR w x
 ah:∀f∈K.ah,sB w f
 fq:K.ah.Pairwise mG
 L:K.fx.ok
 d:fw K.ah<=4611686018427387904
 v:0<=K.fx.d/\K.fx.d<=1099511627776
 sD:∀f∈K.qP,sB w f
 i:∀g∈K.qP,∀f∈K.ah,mG f g
 n:K.qP.Pairwise mG
def DK.j(db:R)(K:DK)(k:R):Prop:=k=db\/k=K.nb\/k=K.sb\/cN K.mv=M k\/(∃x∈K.l,cN x.1=M k)\/∃f∈K.ah++K.qP,f.l=k\/cN f.A=M k
def cJ.dq(h:cJ a c f){d:dj}(e:d∈f.ah++f.qP):sB a d:=(aP.1 e).elim (h.ah d)<|h.sD d
def cJ.dL{w:Z}{db:R}{K:DK}(h:cJ w db K){f:dj}(a:f∈K.ah):y f.bB<=1099511627776:=(h.ah f a).2.2.2.2.2
theorem DK.D{b:dj}(a:b∈f.ah):b∈f.ah++f.qP:=gY _ a
def DK.A{b:dj}(a:b∈f.qP):b∈f.ah++f.qP:=oQ _ a
def sB.aA{S:fC}{w w':Z}{f:dj}(h:sB w f)(a:I S w w')(c:¬S f.l)(d:∀k,cN f.A=M k->¬S k):sB w' f:=⟨(a.A _ (az h.1) c).trans h.1,a.aZ h.2.1 d,h.2.2⟩
def vR.aA{S:fC}{w w':Z}{x:ae×cy Mv}(h:vR w x)(e:I S w w')(c:∀k,cN x.1=M k->¬S k):vR w' x:=by
 let⟨m,n,o⟩:=h;refine⟨e.bV m<|λk g=>⟨c k g,?_⟩,n,λk g=>?_⟩;grind
 let⟨a,j,d⟩:=o k g;exact⟨a,j,(e.A k (az d)<|c k g).trans d⟩
def iP.aA{S:fC}{w w':Z}{b:R}{m:gU}(h:iP w b m)(j:I S w w')(e:¬S b):iP w' b m:=by
 let⟨d,c,a,g⟩:=h;exact⟨d,c,(j.A b (az a) e).trans a,g⟩
def iP.qd{m:gU}(h:iP a b m){d:Array ae}{e:R×R}(j:a.heap[k]?=M (aK d c e)):k≠b:=by
 let⟨g,f,i,_⟩:=h;grind
theorem lk{d e:Array ae}{f g:R×R}(i:a.heap[b]?=M (aK d k f))(j:a.heap[c]?=M (aK e n g))(h:k≠n):b≠c:=by
 grind
def cJ.lt{w:Z}{db:R}{K:DK}(h:cJ w db K):∀k,K.j db k->k<G (H w):=by
 rintro k(rfl|rfl|rfl|e|⟨x,d,e⟩|⟨f,a,rfl|e⟩);exact az h.S;exact h.l.lt;exact h.D.lt;exact(aS h.o k e).2;let⟨_,_,c⟩:=(h.bZ x d).2.2 k e;exact az c;exact az (h.dq a).1;exact(aS (h.dq a).2.1 k e).2
def cJ.aA{S:fC}{w w':Z}{db:R}{K:DK}(h:cJ w db K)(c:I S w w')(a:∀k,K.j db k->¬S k):cJ w' db K where
 S:=(c.A db (az h.S)<|a _<|J z).trans h.S
 l:=h.l.aA c<|a _<|bu<|J z
 D:=h.D.aA c<|a _<|bu<|bu<|J z
 ne:=h.ne
 o:=c.aZ h.o<|λ_ e=>a _<|bu<|bu<|bu<|J e
 bZ x hx:=(h.bZ x hx).aA c<|λ_ e=>a _<|bu<|bu<|bu<|bu<|J ⟨x,hx,e⟩
 ah f hf:=(h.ah f hf).aA c (a _<|bu<|bu<|bu<|bu<|bu ⟨f,DK.D hf,J z⟩)<|λ_ e=>a _<|bu<|bu<|bu<|bu<|bu ⟨f,DK.D hf,bu e⟩
 fq:=h.fq
 L:=h.L
 d:=h.d
 v:=h.v
 sD f hf:=(h.sD f hf).aA c (a _<|bu<|bu<|bu<|bu<|bu ⟨f,DK.A hf,J z⟩)<|λ_ e=>a _<|bu<|bu<|bu<|bu<|bu ⟨f,DK.A hf,bu e⟩
 i:=h.i
 n:=h.n
def cJ.aE{w:Z}{db:R}{K:DK}(h:cJ w db K)(o:Obj):cJ (dw w o) db K:=h.aA ((I.bI aC w).aE o)<|λ_ _=>id
def cJ.p{K:DK}{N:cy Mv}{o r:cy dj}(h:cJ a b K)(j:Is a e b K.nb K.sb K.mv K.fx (o.map dj.nm) (y K.l+1) (K.l.map (·.1)++[d]) w)(Q:vR a (d,N))(u:∀n∈o,sB a n)(F:o.Pairwise mG)(L:fw o<=fw K.ah)(v:∀n∈r,sB a n)(t:∀O∈r,∀n∈o,mG n O)(x:r.Pairwise mG):cJ e b {K with mv:=w,ah:=o,l:=K.l++[(d,N)],qP:=r}:=by
 have i:∀{q D:R}{B:Array ae}{s:R×R},a.heap[q]?=M (aK B D s)->D≠89->D≠135->¬(q=b\/q=K.nb\/cN K.mv=M q):=by rintro q D B s C E P(g|g|g);exact lk C h.S E g;exact h.l.qd C g;let⟨f,p⟩:=gh h.o g;grind
 have m:∀A,vR a A->vR e A:=λA k=>k.aA j.aA (λq g=>by let⟨f,s,B⟩:=k.2.2 q g;grind);refine⟨j.S,j.l,h.D.aA j.aA ?_,h.ne,?_,?_,?_,F,h.L,aR L h.d,h.v,?_,t,x⟩;rintro(g|g|g);exact h.D.qd h.S g.symm;exact h.ne g.symm;let⟨f,p⟩:=gh h.o g;exact h.D.qd p z;have:=j.o;grind
 intro A k;obtain k|k:=aP.1 k;exact m A<|h.bZ A k;grind
 intro n c;refine(u n c).aA j.aA (i (u n c).1 cg cg)<|λq g=>?_;let⟨f,p⟩:=gh (u n c).2.1 g;grind
 intro n c;refine(v n c).aA j.aA (i (v n c).1 cg cg)<|λq g=>?_;let⟨f,p⟩:=gh (v n c).2.1 g;grind
def Is.j{w p:Z}{db:R}{K:DK}{e:ae}{u:cy Mv}{i j:cy dj}{v:gU}(n:Is w p db K.nb K.sb K.mv K.fx v c Q e)(q:k<=G (H w))(t:∀a,cN d=M a->k<=a)(r:∀f∈i++j,∀a,(f.l=a\/cN f.A=M a)->K.j db a\/k<=a):∀a,({K with mv:=e,ah:=i,l:=K.l++[(d,u)],qP:=j}:DK).j db a->K.j db a\/k<=a:=by
 rintro a(rfl|rfl|rfl|m|⟨x,g,m⟩|⟨f,o,m⟩);exact J<|J z;exact J<|bu<|J z;exact J<|bu<|bu<|J z;obtain h|⟨A,h,s⟩:=n.aZ;exact J<|bu<|bu<|bu<|J<|h.symm.trans m;grind
 obtain g|g:=aP.1 g;exact J<|bu<|bu<|bu<|bu<|J ⟨x,g,m⟩;grind
 grind
def ij:cy dj->af->Option dj
 |[],_=>dE
 |f::r,n=>if f.dA=n then M f else ij r n
def mK:cy dj->af->cy dj
 |[],_=>[]
 |f::r,n=>if f.dA=n then r else f::mK r n
def po:cy dj->dj->cy dj
 |[],f=>[f]
 |g::r,f=>if g.dA=f.dA then f::r else g::po r f
def PS(a:cy dj)(n:af):(mK a n).map dj.nm=gU.dP (a.map dj.nm) n:=by
 induction a with
 |nil=>rfl
 |cons f r b=>by_cases h:f.dA=n<;>simp[mK,gU.dP,dj.nm,h,<-b]
def Oj(a:cy dj)(f:dj):(po a f).map dj.nm=gU.gL (a.map dj.nm) f.dA (lq<|M f.l):=by
 induction a with
 |nil=>rfl
 |cons g r b=>by_cases h:g.dA=f.dA<;>simp[po,gU.gL,dj.nm,h,<-b]
def eM{a:cy dj}{f:dj}(h:ij a B=M f):f.dA=B/\f∈a/\gU.jo (a.map dj.nm) B=M (lq<|M f.l):=by
 induction a with
 |nil=>cases h
 |cons i r g=>
  by_cases e:i.dA=B
  .simp[ij,e]at h;subst h;exact⟨e,ar,by simp[gU.jo,dj.nm,e]⟩
  .simp[ij,e]at h;let⟨b,c,d⟩:=g h;exact⟨b,by simp[c],by simpa[gU.jo,dj.nm,e]using d⟩
def AR{a:cy dj}(h:ij a B=dE):gU.jo (a.map dj.nm) B=dE:=by
 induction a with
 |nil=>rfl
 |cons g r b=>
  by_cases e:g.dA=B
  .simp[ij,e]at h
  .simp[ij,e]at h;simpa[gU.jo,dj.nm,e]using b h
theorem oH(a:cy dj)(n:af):(mK a n).Sublist a:=by
 induction a with
 |nil=>exact kK _
 |cons f r b=>
  by_cases h:f.dA=n
  .simp[mK,h]
  .simpa[mK,h]using b
def vK{a:cy dj}{f:dj}(d:a.Pairwise mG)(h:ij a B=M f):∀g∈mK a B,mG f g:=by
 induction a with
 |nil=>cases h
 |cons g r j=>
  let⟨c,i⟩:=dp.1 d;by_cases e:g.dA=B
  .simp[ij,e]at h;subst h;simpa[mK,e]using c
  .simp[ij,e]at h;intro x b;simp[mK,e]at b;obtain rfl|b:=b
   .exact(c f (eM h).2.1).zC
   grind
def xI{a:cy dj}{f x:dj}(h:x∈po a f):x=f\/x∈mK a f.dA:=by
 induction a with
 |nil=>left;simpa[po]using h
 |cons g r b=>
  by_cases e:g.dA=f.dA
  .simp[po,e]at h;simpa[mK,e]using h
  .simp[po,e]at h;simp[mK,e];grind
def GF{a:cy dj}{f:dj}(b:(mK a f.dA).Pairwise mG)(h:∀g∈mK a f.dA,mG f g):(po a f).Pairwise mG:=by
 induction a with
 |nil=>simp[po]
 |cons g r j=>
  by_cases e:g.dA=f.dA
  .simp only[mK,e,mT]at b h;simp only[po,e,mT];simp_all
  .simp only[mK,e,mA]at b h;simp only[po,e,mA];let⟨d,i⟩:=dp.1 b;refine dp.2 ⟨λx c=>?_,aI⟩;obtain rfl|c:=xI c
   .exact(h g ar).zC
   grind
def WE{b:cy dj}{f:dj}(a:f.dA≠B):mK (po b f) B=po (mK b B) f:=by
 induction b with
 |nil=>simp[mK,po,a]
 |cons g r d=>
  by_cases e:g.dA=f.dA
  .have:g.dA≠B:=by rwa[e]
   simp[mK,po,e,a]
  .by_cases c:g.dA=B
   .have:¬B=f.dA:=λh=>a h.symm;simp[mK,po,c,this]
   .simp[mK,po,e,c,d]
def LX{m:gU}(h:m.jo B=dE)(v:ae):m.gL B v=m++[(B,v)]:=by
 induction m with
 |nil=>rfl
 |cons p r b=>
  by_cases a:p.1=B
  .simp[gU.jo,a]at h
  .simp[gU.jo,a]at h;simp[gU.gL,a,b h]
structure pT(w w':Z)(db:R)(K K':DK):Prop where
 ok:cJ w' db K'
 aA:I (K.j db) w w'
 j:∀k,K'.j db k->K.j db k\/G (H w)<=k
 fx:Fx K.fx K'.fx
def pT.aj{w w' c:Z}{db:R}{K d a:DK}(h:pT w w' db K d)(k:pT w' c db d a):pT w c db K a:=⟨k.ok,h.aA.aj k.aA h.j,λx e=>(k.j x e).elim (h.j x)<|λg=>.inr<|aR h.aA.D g,h.fx.aj k.fx⟩
def pT.bI{w:Z}{db:R}{K:DK}(h:cJ w db K):pT w w db K K:=⟨h,I.bI _ _,λ_ c=>.inl c,Fx.bI _⟩
def pT.bH(h:pT a e b f x)(c:I aC e P):pT a P b f x:=⟨h.ok.aA c<|λ_ _=>id,h.aA.t c,h.j,h.fx⟩
def GV(m:gU)(x:Mv):qR m [x]=OF m x:=rfl
def cJ.Nt(h:cJ a b f){k:R}(e:cN f.mv=M k):k≠f.sb/\k≠f.nb/\k≠b:=by
 let⟨d,c⟩:=gh h.o e;exact⟨h.D.qd c,h.l.qd c,lk c h.S cg⟩
def cJ.R9{K:DK}{j:Fg}(h:cJ a b K)(m:lV e b K.nb K.sb K.mv j)(d:I (λk=>k=b) a e)(f:Fx K.fx j):pT a e b K {K with fx:=j}:=by
 refine⟨⟨m,h.l.aA d ?_,h.D.aA d ?_,h.ne,d.aZ h.o ?_,?_,?_,h.fq,f.ok h.L,h.d,f.d▸h.v,?_,h.i,h.n⟩,d.aT<|λx c=>.inl<|.inl c,λk c=>.inl c,f⟩;exactλc=>h.l.qd h.S c.symm;exactλc=>h.D.qd h.S c.symm;exactλk c=>(h.Nt c).2.2;intro x l;refine(h.bZ x l).aA d<|λk c=>?_;let⟨g,n,i⟩:=(h.bZ x l).2.2 k c;exact lk i h.S cg;intro j f;have hF:=h.ah j f;refine hF.aA d (lk hF.1 h.S cg)<|λk c=>?_;let⟨g,i⟩:=gh hF.2.1 c;exact lk i h.S cg;intro j f;have hF:=h.sD j f;refine hF.aA d (lk hF.1 h.S cg)<|λk c=>?_;let⟨g,i⟩:=gh hF.2.1 c;exact lk i h.S cg
abbrev qG:=af⊕af×eD⊕af⊕af×af⊕af⊕Unit
abbrev qG.cr(n:af):qG:=.inl n
abbrev qG.ap(n:af)(a:eD):qG:=.inr<|.inl (n,a)
abbrev qG.sy(n:af):qG:=.inr<|.inr<|.inl n
abbrev qG.rn(a b:af):qG:=.inr<|.inr<|.inr<|.inl (a,b)
abbrev qG.rm(n:af):qG:=.inr<|.inr<|.inr<|.inr<|.inl n
abbrev qG.sd:qG:=.inr<|.inr<|.inr<|.inr<|.inr ()
def Qs:qG->DK->DK->Prop
 | .inl n,K,a=>∃g b,a.ah=K.ah++[⟨n,g,aF,[],0⟩]/\(a.sm,a.qP)=(K.sm,K.qP)/\a.l=K.l++[(b,[(n,M g)])]/\ij K.ah n=dE
 | .inr (.inl (n,e)),K,a=>∃F x,ij K.ah n=M F/\a.ah=po K.ah {F with A:=x,bB:=F.bB++e}/\(a.sm,a.qP)=(K.sm,K.qP)/\a.l=K.l
 | .inr (.inr<|.inl n),K,a=>∃F,ij K.ah n=M F/\a.ah=po K.ah {F with D:=y F.bB}/\(a.sm,a.qP)=(K.sm,K.qP)/\a.l=K.l
 | .inr (.inr<|.inr<|.inl (c,d)),K,a=>∃F b,ij K.ah c=M F/\a.ah=po (mK K.ah c) {F with dA:=d}/\(a.sm,a.qP)=(K.sm,K.qP++(ij K.ah d).toList)/\a.l=K.l++[(b,[(d,M F.l),(c,dE)])]
 | .inr (.inr<|.inr<|.inr<|.inl n),K,a=>∃F b,ij K.ah n=M F/\a.ah=mK K.ah n/\(a.sm,a.qP)=(K.sm,K.qP++[F])/\a.l=K.l++[(b,[(n,dE)])]
 | .inr (.inr<|.inr<|.inr<|.inr _),K,a=>a.ah=K.ah/\(a.sm,a.qP)=((K.l.map (·.2)).foldl qR K.sm,K.qP)/\a.l=[]
def wS(K a:DK):Prop:=a.ah=K.ah/\(a.sm,a.qP)=(K.sm,K.qP)/\a.l=K.l
def mu:cy qG->DK->DK->Prop
 |[],K,a=>wS K a
 |o::l,K,a=>∃b,Qs o K b/\mu l b a
def wS.aj{K c a:DK}(h:wS K c)(k:wS c a):wS K a:=⟨k.1.trans h.1,k.2.1.trans h.2.1,k.2.2.trans h.2.2⟩
def Qs.ph{o:qG}{a:DK}(h:wS f x)(k:Qs o x a):Qs o f a:=by
 let⟨c,d,e⟩:=h;let⟨g,i⟩:=Prod.mk.inj d;obtain _|⟨_,_⟩|_|⟨_,_⟩|_|_:=o<;>(simp only[Qs,c,g,i,e]at k|-;exact k)
def mu.ph{l:cy qG}{a:DK}(h:wS f x)(k:mu l x a):mu l f a:=by
 cases l with
 |nil=>exact h.aj k
 |cons o l=>
  let⟨c,d,e⟩:=k;exact⟨c,d.ph h,e⟩
def mu.Fa{l m:cy qG}{a:DK}(h:mu l f x)(k:mu m x a):mu (l++m) f a:=by
 induction l generalizing f with
 |nil=>exact k.ph h
 |cons o l e=>
  let⟨b,c,d⟩:=h;exact⟨b,c,e d⟩
def mu.pK{o:qG}{K a:DK}(h:Qs o K a):mu [o] K a:=⟨a,h,rfl,rfl,rfl⟩
def Xn(f:Fg)(c:Y):Prop:=c=8/\0<f.bd\/(c=9\/c=10\/c=11)/\qu f
structure vU(w w':Z)(db:R)(K K':DK)(full:cy qG)(v:ae):Prop where
 D:pT w w' db K K'
 d:(v=ic/\mu full K K')\/∃l q c,l<+:full/\mu l K K'/\v=eW q/\rE w' q c/\Xn K.fx c
def wU(w d:Z)(c:R)(K:DK)(a:cy qG)(e:Ending):Prop:=∃v b,e=aN v/\vU w d c K b a v
def vU.ok{w w':Z}{db:R}{K a:DK}{o:qG}(h:pT w w' db K a)(k:Qs o K a):vU w w' db K a [o] ic:=⟨h,.inl ⟨rfl,mu.pK k⟩⟩
def vU.A{b q:R}{l:cy qG}(h:pT a e b f x)(k:wS f x)(d:rE e q r)(c:Xn f.fx r):vU a e b f x l (eW q):=⟨h,.inr ⟨[],q,r,List.nil_prefix,k,rfl,d,c⟩⟩
def Fx.A{f g:Fg}(b:Fx f g)(a:f.ok)(h:Xn g r):Xn f r:=h.imp (λq=>⟨q.1,b.p a q.2⟩)<|λq=>⟨q.1,b.t q.2⟩
def vU.t{c:DK}{o r:cy qG}(l:f.fx.ok)(h:pT a e b f x)(g:mu o f x)(k:vU e P b x c r d):vU a P b f c (o++r) d:=by
 refine⟨h.aj k.D,?_⟩;obtain⟨i,k⟩|⟨p,q,s,m,k,i,n,j⟩:=k.d;exact .inl ⟨i,g.Fa k⟩;exact .inr ⟨o++p,q,s,iw _|>.2 m,g.Fa k,i,n,h.fx.A l j⟩
def vU.jl{c q:R}{b:DK}{l m:cy qG}(h:vU a e c f b l (eW q)):vU a e c f b (l++m) (eW q):=by
 refine⟨h.D,?_⟩;obtain⟨n,_⟩|⟨g,j,k,d,o⟩:=h.d;cases n;exact .inr ⟨g,j,k,d.trans<|qK _ _,o⟩
def zfd(w a:Z)(b:R)(K:DK)(e:Ending):Prop:=∃c f,e=aN (aO c)/\pT w a b K {K with fx:=f}/\I (λk=>k=b) w a/\G (H a)=G (H w)/\(c=cz->0<K.fx.bd)
def CX(h:cJ a b f):cR bN 66 #[aJ b] a λk d=>zfd a d b f k:=by
 go_call Ws h.S h.L as k d⟨l,m,rfl,e,c,g,i,j⟩;exact⟨l,m,z,h.R9 e c i,c,g,j⟩
def zfb(w b:Z)(c:R)(K:DK)(a:af)(e:Ending):Prop:=∃f,pT w b c K {K with fx:=f}/\I (λk=>k=c) w b/\((∃F,ij K.ah a=M F/\e=aN (de #[aJ F.l,ic]))\/(ij K.ah a=dE/\∃q,e=aN (de #[ee dE,eW q])/\rE b q 10)\/(0<K.fx.bd/\∃q,e=aN (de #[ee dE,eW q])/\rE b q 8))
def tA(c:af)(h:cJ a b f)(d:Nm c):cR bN 64 #[aJ b,aw c] a λp r=>zfb a r b f c p:=by
 let⟨t,q,m,_,_⟩:=cZ ru;have j:=rh underlying86 underlying9 q m h.l c;have:=aX h.S 0;have i:=CX h;rcases hg:ij f.ah c with _|F;(.rw[AR hg]at j;simp only[sR]at j;(go_in);go_wp21;go_call i as p s⟨o,n,rfl,e,g,l,k⟩;clear l i;cases o;(.go_wp2;(go_ret2);exact⟨n,e.bH<|cI _ _,g.aE _,.inr<|.inl ⟨hg,_,z,rE.lY _ _ d⟩⟩);go_wp2;(go_ret2);exact⟨n,e.bH<|cI _ _,g.aE _,.inr<|.inr ⟨k trivial,_,z,rE.lY _ _ d⟩⟩);rw[(eM hg).2.2]at j;simp only[lf,lq]at j;(go_in);go_wp21;go_call i as p s⟨o,n,rfl,e,g,l,k⟩;clear l i;cases o;(.go_wp2;(go_ret2);exact⟨n,e,g,.inl ⟨F,hg,z⟩⟩);go_wp2;(go_ret2);exact⟨n,e.bH<|cI _ _,g.aE _,.inr<|.inr ⟨k trivial,_,z,rE.lY _ _ d⟩⟩
def Kg{K:DK}{E:cy Mv}{c os:cy dj}(h:cJ a b K)(k:∀S,I S a e)(j:Is e P b K.nb K.sb K.mv K.fx (c.map dj.nm) (y K.l+1) (K.l.map (·.1)++[d]) w)(B:vR e (d,E))(x:∀C,cN d=M C->G (H a)<=C)(q:∀g∈c++os,∃i∈K.ah++K.qP,g.l=i.l/\g.A=i.A/\g.bB=i.bB/\g.D=i.D)(v:c.Pairwise mG)(A:fw c<=fw K.ah)(m:∀i∈os,∀g∈c,mG g i)(n:os.Pairwise mG):pT a P b K {K with mv:=w,ah:=c,l:=K.l++[(d,E)],qP:=os}:=by
 have s:cJ e b K:=h.aA (k aC)<|λ_ _=>id;have F:∀g∈c++os,sB e g:=λg f=>by let⟨i,r,o,p,t,u⟩:=q g f;have:=s.dq r;unfold sB at*;rwa[o,p,t,u]
 refine⟨s.p j B aI v A aI m n,?_,?_,Fx.bI _⟩
 .exact(k _).aj j.aA (by
   rintro t(rfl|rfl|D)
   .exact J<|J z
   .exact J<|bu<|J z
   .exact J (bu (bu (bu (J D)))))
 refine j.j (k aC).D x<|λg f C D=>J ?_;let⟨i,r,o,p,_⟩:=q g f;exact bu aI
def Jg(a:cy dj)(n:af):fw (mK a n)<=fw a:=by
 induction a with
 |nil=>exact aq _
 |cons f r b=>by_cases h:f.dA=n<;>simp[mK,fw,h]at b|-<;>omega
theorem uG(a:cy dj)(f:dj):fw (po a f)<=fw (mK a f.dA)+y f.bB:=by
 induction a with
 |nil=>simp[po,mK,fw]
 |cons g r b=>by_cases h:g.dA=f.dA<;>simp[po,mK,fw,h]at b|-<;>omega
def sW{a:cy dj}{f:dj}(h:ij a B=M f):fw (mK a B)+y f.bB=fw a:=by
 induction a with
 |nil=>cases h
 |cons g r b=>
  by_cases e:g.dA=B
  .simp[ij,e]at h;subst h;simp[mK,fw,e];omega
  .simp[ij,e]at h;have:=b h;simp[mK,fw,e]at this|-;omega
def J2{K:DK}(c:af)(h:cJ a b K)(o:gU.jo (K.ah.map dj.nm) c=dE)(r:ij K.ah c=dE)(B:y K.l<=1000000000000):∃W:Z,W=dw (dw a<|aK #[aF,ay 0] 93) (aK #[aw c,aJ<|G<|H a] 154)/\cR bN 65 #[aJ b,bX (G (H a)+1) 0 1 1] W λe t=>e=aN (de #[])/\∃u,pT a t b K u/\Qs (.cr c) K u:=by
 refine⟨_,z,?_⟩;have g:=(h.aE<|aK #[aF,ay 0] 93).aE<|aK #[aw c,aJ<|G<|H a] 154;have j:(dw a<|aK #[aF,ay 0] 93).heap[G<|H a]?=M (aK #[aF,ay 0] 93 (0,0)):=jp _ _;have f:=(Below.heap_alloc (dw a<|aK #[aF,ay 0] 93) (aK #[aw c,aJ<|G<|H a] 154) (G<|H a) ar).trans j;have s:(dw (dw a<|aK #[aF,ay 0] 93)<|aK #[aw c,aJ<|G<|H a] 154).heap[G (H a)+1]?=M (aK #[aw c,aJ<|G<|H a] 154 (0,0)):=by have:=jp (dw a<|aK #[aF,ay 0] 93)<|aK #[aw c,aJ<|G<|H a] 154;simp_all
 generalize w:(dw (dw a<|aK #[aF,ay 0] 93)<|aK #[aw c,aJ<|G<|H a] 154)=W at*;have k:∀S,I S a W:=λS=>w▸(cI S a).aE _;have m:vR W (bX (G (H a)+1) 0 1 1,[(c,M<|G<|H a)]):=by refine⟨show Row _ _ _ _ _ from⟨z,bu ⟨G (H a)+1,0,1,z,aq _,λA C x=>?_⟩⟩,ar,λv e=>?_⟩;rw[ez,cE s];simpa[tR,AM,lq]using x;cases e;grind
 go_call GU (K.ah.map dj.nm) [(c,M<|G<|H a)] g.S g.l m.1 ar g.o B as e t⟨rfl,n,q⟩;refine⟨z,{K with mv:=n,ah:=K.ah++[dj.mk c (G<|H a) aF [] 0],l:=K.l++[(bX (G (H a)+1) 0 1 1,[(c,M<|G<|H a)])]},?_,_,_,rfl,rfl,rfl,r⟩;have i:Is W t b K.nb K.sb K.mv K.fx ((K.ah++[dj.mk c (G<|H a) aF [] 0]).map dj.nm) (y K.l+1) (K.l.map (·.1)++[bX (G (H a)+1) 0 1 1]) n:=by rw[GV]at q;simp only[OF,LX o]at q;simpa[dj.nm]using q
 refine⟨g.p i m ?_ ?_ (by simp[fw]) g.sD ?_ g.n,?_,?_,Fx.bI _⟩;intro p d;obtain d|d:=aP.1 d;exact g.ah p d;obtain rfl:p=⟨c,G<|H a,aF,[],0⟩:=dV d;exact⟨f,fA.km _ _,by intro E x;simp at x,ar,ar,ar⟩;refine eH.2 ⟨h.fq,ar,λC x D A=>?_⟩;obtain rfl:D=⟨c,G<|H a,aF,[],0⟩:=dV A;refine⟨λe=>?_,λv _ e=>by cases e⟩;have:=az (h.ah C x).1;grind
 intro x o p d;obtain d|d:=aP.1 d;exact g.i x o p d;obtain rfl:p=⟨c,G<|H a,aF,[],0⟩:=dV d;refine⟨λe=>?_,λv e=>by cases e⟩;have:=az (h.sD x o).1;grind
 .exact(k _).aj i.aA (by
   rintro E(rfl|rfl|e)
   .exact J<|J z
   .exact J<|bu<|J z
   .exact J (bu (bu (bu (J e)))))
 (.refine i.j (k aC).D (λv e=>by cases e;grind)<|λp d v e=>?_;obtain d|d:=aP.1 d;obtain d|d:=aP.1 d;exact J<|bu aI;rotate_left;exact J<|bu aI;obtain rfl:p=⟨c,G<|H a,aF,[],0⟩:=dV d;obtain e|e:=e;(grind);cases e)
def Tb{K:DK}(c:af)(h:cJ a b K)(f:ij K.ah c=dE)(D:y K.l<=1000000000000)(l:Nm c):cR bN 24 #[aJ b,aw c] a λA E=>wU a E b K [.cr c] A:=by
 let⟨L,C,m,_,_⟩:=cZ ru;have k:=λ(d:Z)o(g:cJ d b {K with fx:=o})=>rh underlying86 underlying9 C m g.l c;simp only[AR f,sR]at k;have j:=CX h;have v:=ak<|λ(d:Z)o(g:cJ d b {K with fx:=o})=>J2 c g (AR f) f D;have w:=ak k;have:=ak h.L;clear h f k;go_in
 go_wp21;go_call j as A d⟨F,o,rfl,e,r,s,i⟩;cases F
 .have:=aX e.ok.S 0;have:=w d o e.ok;let⟨W,B,n⟩:=v d o e.ok;clear r s i j;go_wp2_with(first
   |(go_at_call 65;subst B;refine sU (dV n) ?_;rintro A N⟨rfl,x,p,q⟩;have t:=ak p;have u:=ak q;clear p q))
  go_ret;exact⟨_,x,z,e.aj t,J ⟨z,mu.ph ⟨z,z,z⟩<|mu.pK<|ag u⟩⟩
 have HB:=ak<|i z;clear r s i j;go_wp2;go_ret;exact⟨_,_,z,vU.A (e.bH<|cI _ _) ⟨z,z,z⟩ (rE.lY _ _ l)<|J ⟨z,ag HB⟩⟩
def Eh{K:DK}(c:af)(h:cJ a b K)(m:ij K.ah c≠dE->qu K.fx)(s:y K.l<=1000000000000)(d:Nm c):cR bN 24 #[aJ b,aw c] a λu t=>wU a t b K [.cr c] u:=by
 rcases hg:ij K.ah c with _|F;exact Tb c h hg s d;have q:=m (by rw[hg];simp);let⟨w,r,j,_,_⟩:=cZ ru;have i:=λ(k:Z)p(d:cJ k b {K with fx:=p})=>rh underlying86 underlying9 r j d.l c;simp only[(eM hg).2.2,lf,lq]at i;have g:=CX h;have o:=ak i;clear h hg i m;go_in
 go_wp21;go_call g as u k⟨v,p,rfl,e,l,n,f⟩;cases v;(.have:=aX e.ok.S 0;have:=o k p e.ok;clear l n f g;go_wp2;go_ret;exact⟨_,_,z,vU.A (e.bH<|cI _ _) ⟨z,z,z⟩ (rE.lY _ _ d)<|bu ⟨bu<|bu z,q⟩⟩);have HB:=ak<|f z;clear l n f g;go_wp2;go_ret;exact⟨_,_,z,vU.A (e.bH<|cI _ _) ⟨z,z,z⟩ (rE.lY _ _ d)<|J ⟨z,ag HB⟩⟩
section
open ChangeMaps (setBlock)
def qg(w:Z)(h r:R)(m left:gU):Prop:=∃e d b seen g,w.heap[h]?=M (.map e d)/\Fits e.toList m/\MapKept.Stamped e d/\w.heap[r]?=M (.mapIter (M h) b seen g)/\(∀x∈e.toList,x.born<b)/\b<=g/\b<=d/\Fits (leftOf e seen).toList left
theorem qg.ne{w:Z}{d r:R}{m left:gU}(h:qg w d r m left):r≠d:=by
 let⟨e,b,_,_,_,g,_,_,i,_⟩:=h;grind
theorem qg.lt{w:Z}{b r:R}{m left:gU}(h:qg w b r m left):r<G (H w):=by
 let⟨g,d,_,_,_,_,_,_,e,_⟩:=h;exact az e
theorem qg.qT{w e:Z}{g r:R}{t left:gU}(h:qg w g r t left)(q:e.heap[g]?=w.heap[g]?)(s:e.heap[r]?=w.heap[r]?):qg e g r t left:=by
 let⟨j,b,d,seen,i,k,l,m,n,p⟩:=h;exact⟨j,b,d,seen,i,q.trans k,l,m,s.trans n,p⟩
theorem Fits.KP{e:cy MapEntry}{m:gU}{d b:cy MapEntry}{g:MapEntry}(h:Fits e m)(l:e=d++g::b):∃a p f,m=a++p::f/\Fits d a/\g.key=aw p.1/\g.val=p.2/\Fits b f:=by
 subst l;unfold Fits at h;rw[bz,bO]at h;obtain⟨a,q,rfl,i,j⟩:=jz.1 h.symm;obtain⟨p,f,rfl,n,k⟩:=py.1 j;exact⟨a,p,f,z,i.symm,aI,aI,k.symm⟩
theorem Fits.jO{b d:cy MapEntry}{m n:gU}(h:Fits b m)(k:Fits d n):Fits (b++d) (m++n):=by
 unfold Fits at*;rw[bz,bz,h,k]
theorem JM{d:Array MapEntry}{seen:Array R}{f e:cy MapEntry}{g:MapEntry}(l:(d.toList.map (·.born)).Nodup)(h:(leftOf d seen).toList=f++g::e):(leftOf d<|seen.push g.born).toList=f++e:=by
 have i:(leftOf d<|seen.push g.born).toList=(leftOf d seen).toList.filter (λx=>!(x.born==g.born)):=by simp only[leftOf,Array.toList_filter,List.filter_filter];grind
 have b:((leftOf d seen).toList.map (·.born)).Nodup:=by(have:(leftOf d seen).toList.Sublist d.toList:=by simp[leftOf]);grind
 rw[i,h];rw[h]at b;simp only[bz,bO]at b;let⟨_,j,k⟩:=rO.1 b;grind[nodup_cons,filter_cons_of_neg,filter_eq_self]
theorem Ru{P:Program}{w:Z}{mt k i g:R}{n:gU}(m:P.underlying mt=M (.map k i))(h:iP w g n):∃e,(Instr.range mt<|.map<|M g).run P w=.ok (aJ<|G<|H w) e/\qg e g (G<|H w) n n/\w.grownBy e dE/\G (H e)=G (H w)+1:=by
 let⟨d,b,f,l,j⟩:=h;refine⟨_,run_range_map w mt k i g d b m f,⟨d,b,b,#[],b,((qJ w _).2 g<|az f).trans f,l,j,(qJ w _).1,j.1,aq _,aq _,?_⟩,eR w _ dE,ar⟩;have:leftOf d #[]=d:=by simp[leftOf]
 rwa[this]
theorem Va{P:Program}{w:Z}{v r:R}{aa left:gU}(h:qg w v r aa left)(N:TypeId):(left=[]/\(Instr.next (aJ r) bD N).run P w=.ok (de #[aO bD]) w)\/∃n L f p,left=n++L::f/\(Instr.next (aJ r) bD N).run P w=.ok (de #[aO cz,aw L.1,L.2]) p/\qg p v r aa (n++f)/\w.grownBy p (M r)/\G (H p)=G (H w)/\(Instr.entry<|aJ r).run P p=.ok (de #[aw L.1,L.2]) p:=by
 have E:=h.ne;let⟨l,b,d,seen,O,S,hf,F,T,k,K,t,D⟩:=h;obtain⟨h0,e⟩|⟨B,he,A,g,e⟩:=run_next_at (P:=P) w N r v d O seen l b T S k K;refine J ⟨?_,e⟩;have:(leftOf l seen).toList=[]:=aI;rw[this]at D;simpa[Fits]using D;let⟨n,f,u⟩:=ve he;obtain⟨a,L,ab,rfl,W,x,V,hc⟩:=D.KP u;(have i:A.heap=w.heap:=by obtain rfl|rfl:=g<;>rfl);have s:A.heap[r]?=M (.mapIter (M v) d seen O):=i▸T;have j:(setBlock A r<|.mapIter (M v) d (seen.push B.born) b).heap[r]?=M (.mapIter (M v) d (seen.push B.born) b):=(ib s).1;have m:∀k,k≠r->(setBlock A r<|.mapIter (M v) d (seen.push B.born) b).heap[k]?=w.heap[k]?:=λk x=>((ib s).2 k x).trans (by rw[i]);have q:=(m v<|λB=>E B.symm).trans S;(have C:B∈l.toList:=by(have:(leftOf l seen).toList.Sublist l.toList:=by simp[leftOf]);grind);refine bu ⟨a,L,ab,_,z,x▸V▸e,⟨l,b,d,_,b,q,hf,F,j,k,t,t,JM F.2.1 u▸W.jO hc⟩,⟨?_,?_,?_,?_,aI⟩,?_,?_⟩;obtain rfl|rfl:=g<;>rfl;obtain rfl|rfl:=g<;>rfl;obtain rfl|rfl:=g<;>rfl;simp[setBlock,i];simp[setBlock,i];rw[<-x,<-V];exact run_entry_at _ r v d seen l b B j q C F.2.1
section
variable{P:Program}(w:Z){c:Array Oper}{rest:cy Oper}{o:Oper}{a:Act}{Q:Exit->Act->Z->Prop}
theorem oK(l:o.guard=dE)(i:Operand)(t:TypeId)(g:o.op=Op.range t i)(x v:TypeId)(n:P.underlying t=M (.map x v))(j:R)(p:gU)(m:a.eval i=.map (M j))(h:iP w j p)(k:∀b,qg b j (G<|H w) p p->w.grownBy b dE->G (H b)=G (H w)+1->wpList P c Q rest (a.put o.dst<|aJ<|G<|H w) b):wpList P c Q (o::rest) a w:=by
 refine lz l λu e=>?_;let⟨b,d,q,r,s⟩:=Ru n h;unfold Oper.wp;simp[execOp,g,m,d,Result.andThen];exact e _ _<|k b q r s
theorem ot(q:o.guard=dE)(m:Operand)(k:o.op=Op.next m bD)(s r:R)(t left:gU)(QF:a.eval m=aJ r)(h:qg w s r t left)(e:left=[]->wpList P c Q rest (a.put o.dst<|de #[aO bD]) w)(l:∀g p d i,left=g++p::d->qg i s r t (g++d)->w.grownBy i (M r)->G (H i)=G (H w)->(Instr.entry<|aJ r).run P i=.ok (de #[aw p.1,p.2]) i->wpList P c Q rest (a.put o.dst<|de #[aO cz,aw p.1,p.2]) i):wpList P c Q (o::rest) a w:=by
 refine lz q λu j=>?_;unfold Oper.wp;obtain⟨n,b⟩|⟨g,p,d,i,C,b,v,x,A,B⟩:=Va (P:=P) h o.type;simp[execOp,k,QF,b,Result.andThen];exact j _ _<|e n;simp[execOp,k,QF,b,Result.andThen];exact j _ _ aI
end
end
section
open ChangeMaps (setBlock)
abbrev ia:=cy<|Y×ae
def ia.jo(m:ia)(k:Y):Option ae:=match m with
 |[]=>dE
 |p::r=>if p.1=k then M p.2 else ia.jo r k
def kX(b:cy MapEntry)(m:ia):Prop:=b.map (λe=>(e.key,e.val))=m.map (λp=>(ay p.1,p.2))
theorem kX.km:kX [] []:=rfl
theorem kX.vM{e:MapEntry}{b:cy MapEntry}{m:ia}(h:kX (e::b) m):∃p r,m=p::r/\e.key=ay p.1/\e.val=p.2/\kX b r:=by
 cases m with
 |nil=>simp[kX]at h
 |cons p r=>
  simp[kX]at h;exact⟨p,r,z,h.1.1,h.1.2,h.2⟩
theorem IV(k:Y):∀(b:cy MapEntry)(m:ia)(i:R),kX b m->∃n,Instr.findNow (.int .i64) (ay k) b i=M ((m.jo k).map λv=>(n,v)):=by
 intro b;induction b with
 |nil=>
  intro m i h;obtain rfl:m=[]:=by simpa[kX]using h
  exact⟨0,z⟩
 |cons q b l=>
  intro m i h;obtain⟨p,r,rfl,d,j,g⟩:=h.vM;by_cases e:p.1=k
  .refine⟨i,?_⟩;simp[Instr.findNow,Instr.sameNow,d,ia.jo,e,j]
  .let⟨n,f⟩:=l r (i+1) g;refine⟨n,?_⟩;simp[Instr.findNow,Instr.sameNow,d,ia.jo,e,(aI:(k==p.1)=bD),f]
def kP(w:Z)(e:R)(m:ia):Prop:=∃d b,w.heap[e]?=M (.map d b)/\kX d.toList m/\MapKept.Stamped d b
def ia.gL(m:ia)(k:Y)(v:ae):ia:=match m with
 |[]=>[(k,v)]
 |p::r=>if p.1=k then(k,v)::r else p::ia.gL r k v
def ia.dP(m:ia)(k:Y):ia:=match m with
 |[]=>[]
 |p::r=>if p.1=k then r else p::ia.dP r k
theorem kX.Al{e:MapEntry}{b:cy MapEntry}{p:Y×ae}{m:ia}(d:e.key=ay p.1)(f:e.val=p.2)(h:kX b m):kX (e::b) (p::m):=by
 simp[kX,d,f];exact h
theorem Hy(k:Y):∀(d:cy MapEntry)(m:ia)(r:R),kX d m->(Instr.findNow (.int .i64) (ay k) d r=M dE/\m.jo k=dE/\(∀e∈d,e.key≠ay k)/\m.dP k=m/\∀v,m.gL k v=m++[(k,v)])\/∃s e,Instr.findNow (.int .i64) (ay k) d r=M (M (r+s,e.val))/\d[s]?=M e/\e.key=ay k/\m.jo k=M e.val/\(∀v,kX (d.modify s λe=>{e with key:=ay k,val:=v})<|m.gL k v)/\kX (d.eraseIdx s) (m.dP k):=by
 intro d;induction d with
 |nil=>
  intro m r h;obtain rfl:m=[]:=by simpa[kX]using h
  exact J ⟨z,z,ar,z,λ_=>rfl⟩
 |cons e d A=>
  intro m r h;obtain⟨B,C,rfl,f,q,p⟩:=h.vM;by_cases b:B.1=k
  .refine bu ⟨0,e,?_,z,by rw[f,b],?_,?_,?_⟩
   .simp[Instr.findNow,Instr.sameNow,f,b]
   .simp[ia.jo,b,q]
   .intro v;simp only[ia.gL,b,mT,sI];exact kX.Al z z p
   .simpa[ia.dP,b]using p
  .have g:(k==B.1)=bD:=aI;obtain⟨i,j,t,l,n⟩|⟨s,u,i,j,t,l,n,x⟩:=A C (r+1) p
   .refine J ⟨?_,?_,?_,?_,?_⟩
    .simp[Instr.findNow,Instr.sameNow,f,g,i]
    .simp[ia.jo,b,j]
    .grind
    .simp[ia.dP,b,l]
    .intro v;simp[ia.gL,b,n]
   .refine bu ⟨s+1,u,?_,dV j,t,?_,?_,?_⟩
    .simp[Instr.findNow,Instr.sameNow,f,g,i];omega
    .simp[ia.jo,b,l]
    .intro v;simp only[ia.gL,b,mA,sJ];exact kX.Al f q<|n v
    .simp only[ia.dP,b,mA,xz];exact kX.Al f q x
theorem ND{P:Program}{w:Z}{mt x B q:R}{C:ia}(v:P.underlying mt=M (.map x B))(i:P.underlying x=M (.int .i64))(h:kP w q C)(k:Y)(A:ae):∃j,(Instr.mapUpdate mt (.map<|M q) (ay k) A).run P w=.ok () j/\kP j q (C.gL k A)/\w.grownBy j (M q)/\G (H j)=G (H w):=by
 let⟨g,b,f,p,u⟩:=h;have d:=kJ (P:=P) f;obtain⟨l,r,m,_,s⟩|⟨D,e,l,r,m,F,s,_⟩:=Hy k g.toList C 0 p;refine⟨setBlock w q<|.map (g.push {key:=ay k,val:=A,born:=b})<|b+1,?_,?_,jX _ _ _,by simp[setBlock]⟩;simp[Instr.mapUpdate,eV v,d,fT i (show MapKept.IsKey (.int .i64) (ay k)by rfl),fR i l,gV _ f,Result.andThen,setBlock];refine⟨_,_,(ib f).1,?_,tI u m⟩;rw[s];simp[kX]at p|-;exact p;have t:g[D]?=M e:=dV r;refine⟨setBlock w q<|.map (g.modify D λe=>{e with key:=ay k,val:=A}) b,?_,?_,jX _ _ _,by simp[setBlock]⟩;simp[Instr.mapUpdate,eV v,d,fT i (show MapKept.IsKey (.int .i64) (ay k)by rfl),fR i l,t,m,qw (show MapKept.IsKey (.int .i64) (ay k)by rfl),gV _ f,Result.andThen,setBlock];refine⟨_,_,(ib f).1,?_,rL u _ _ (λ_ _=>rfl) (λE _ n=>by rw[t]at n;grind)⟩;grind
theorem NH{P:Program}{w:Z}{mt l t m:R}{A:ia}(r:P.underlying mt=M (.map l t))(g:P.underlying l=M (.int .i64))(h:kP w m A)(s:Y)(B:TypeId):∃i,(Builtin.delete_ #[mt,l] B #[.map<|M m,ay s]).run P w=.ok (de #[]) i/\kP i m (A.dP s)/\w.grownBy i (M m)/\G (H i)=G (H w):=by
 let⟨d,b,f,p,q⟩:=h;have e:=kJ (P:=P) f;obtain⟨j,k,u,n,v⟩|⟨x,C,j,k,u,n,v,D⟩:=Hy s d.toList A 0 p;refine⟨setBlock w m<|.map d b,?_,?_,jX _ _ _,by simp[setBlock]⟩;simp[Builtin.delete_,eV r,e,fT g (show MapKept.IsKey (.int .i64) (ay s)by rfl),fR g j,gV _ f,Result.andThen,setBlock];rw[n];exact⟨_,_,(ib f).1,p,q⟩;have:d[x]?=M C:=dV k;(have:x<d.size:=by have:=ir.1 k;grind);refine⟨setBlock w m<|.map (d.eraseIdxIfInBounds x) b,?_,?_,jX _ _ _,by simp[setBlock]⟩;simp[Builtin.delete_,eV r,e,fT g (show MapKept.IsKey (.int .i64) (ay s)by rfl),fR g j,gV _ f,Result.andThen,setBlock];refine⟨_,_,(ib f).1,?_,zg q _⟩;simp_all
theorem kP.qT{w i:Z}{j:R}{p:ia}{d:Option R}(h:kP w j p)(m:w.grownBy i d)(e:M j≠d):kP i j p:=by
 let⟨k,b,g,l,n⟩:=h;exact⟨k,b,(m.block j (az g) e).trans g,l,n⟩
theorem kP.aE{w:Z}{b:R}{m:ia}(h:kP w b m)(o:Obj):kP (dw w o) b m:=h.qT (eR w o dE) ar
theorem kP.lt{w:Z}{b:R}{m:ia}(h:kP w b m):b<G (H w):=by
 let⟨_,_,d,_⟩:=h;exact az d
section
variable{P:Program}(w:Z){c:Array Oper}{rest:cy Oper}{o:Oper}{a:Act}{Q:Exit->Act->Z->Prop}
theorem FR(l:o.guard=dE)(i x:Operand)(v r:TypeId)(g:o.op=Op.call {callee:=Callee.builtin Builtin.delete,args:=#[i,x],argTypes:=#[v,r]})(B:TypeId)(p:P.underlying v=M (.map r B))(m:P.underlying r=M (.int .i64))(j:R)(u:ia)(n:a.eval i=.map (M j))(h:kP w j u)(b:Y)(q:a.eval x=ay b)(k:∀e,kP e j (u.dP b)->w.grownBy e (M j)->wpList P c Q rest (a.put o.dst<|de #[]) e):wpList P c Q (o::rest) a w:=by
 refine lz l λA f=>?_;let⟨e,d,s,t,_⟩:=NH p m h b o.type;unfold Oper.wp;simp[execOp,g,resolve,invoke,builtin,n,q,d,Result.andThen];exact f _ _<|k e s t
end
def sA(w:Z)(g r:R)(m left:ia):Prop:=∃e d b seen f,w.heap[g]?=M (.map e d)/\kX e.toList m/\MapKept.Stamped e d/\w.heap[r]?=M (.mapIter (M g) b seen f)/\(∀x∈e.toList,x.born<b)/\b<=f/\b<=d/\kX (leftOf e seen).toList left
theorem sA.ne{w:Z}{d r:R}{m left:ia}(h:sA w d r m left):r≠d:=by
 let⟨e,b,_,_,_,g,_,_,i,_⟩:=h;grind
theorem sA.lt{w:Z}{b r:R}{m left:ia}(h:sA w b r m left):r<G (H w):=by
 let⟨g,d,_,_,_,_,_,_,e,_⟩:=h;exact az e
theorem sA.qT{w e:Z}{g r:R}{t left:ia}(h:sA w g r t left)(q:e.heap[g]?=w.heap[g]?)(s:e.heap[r]?=w.heap[r]?):sA e g r t left:=by
 let⟨j,b,d,seen,i,k,l,m,n,p⟩:=h;exact⟨j,b,d,seen,i,q.trans k,l,m,s.trans n,p⟩
theorem kX.KP{e:cy MapEntry}{m:ia}{d b:cy MapEntry}{g:MapEntry}(h:kX e m)(l:e=d++g::b):∃a p f,m=a++p::f/\kX d a/\g.key=ay p.1/\g.val=p.2/\kX b f:=by
 subst l;unfold kX at h;rw[bz,bO]at h;obtain⟨a,q,rfl,i,j⟩:=jz.1 h.symm;obtain⟨p,f,rfl,n,k⟩:=py.1 j;exact⟨a,p,f,z,i.symm,aI,aI,k.symm⟩
theorem kX.jO{b d:cy MapEntry}{m n:ia}(h:kX b m)(k:kX d n):kX (b++d) (m++n):=by
 unfold kX at*;rw[bz,bz,h,k]
theorem Rv{P:Program}{w:Z}{mt k i g:R}{n:ia}(m:P.underlying mt=M (.map k i))(h:kP w g n):∃e,(Instr.range mt<|.map<|M g).run P w=.ok (aJ<|G<|H w) e/\sA e g (G<|H w) n n/\w.grownBy e dE/\G (H e)=G (H w)+1:=by
 let⟨d,b,f,l,j⟩:=h;refine⟨_,run_range_map w mt k i g d b m f,⟨d,b,b,#[],b,((qJ w _).2 g<|az f).trans f,l,j,(qJ w _).1,j.1,aq _,aq _,?_⟩,eR w _ dE,ar⟩;have:leftOf d #[]=d:=by simp[leftOf]
 rwa[this]
theorem Vb{P:Program}{w:Z}{v r:R}{aa left:ia}(h:sA w v r aa left)(L:TypeId):(left=[]/\(Instr.next (aJ r) bD L).run P w=.ok (de #[aO bD]) w)\/∃n K f p,left=n++K::f/\(Instr.next (aJ r) bD L).run P w=.ok (de #[aO cz,ay K.1,K.2]) p/\sA p v r aa (n++f)/\w.grownBy p (M r)/\G (H p)=G (H w)/\(Instr.entry<|aJ r).run P p=.ok (de #[ay K.1,K.2]) p:=by
 let⟨l,b,d,seen,N,O,hf,E,S,k,F,t,D⟩:=h;obtain⟨h0,e⟩|⟨B,he,A,g,e⟩:=run_next_at (P:=P) w L r v d N seen l b S O k F;refine J ⟨?_,e⟩;have:(leftOf l seen).toList=[]:=aI;rw[this]at D;simpa[kX]using D;let⟨n,f,u⟩:=ve he;obtain⟨a,K,ab,rfl,V,x,T,W⟩:=D.KP u;(have i:A.heap=w.heap:=by obtain rfl|rfl:=g<;>rfl);have s:A.heap[r]?=M (.mapIter (M v) d seen N):=i▸S;have j:(setBlock A r<|.mapIter (M v) d (seen.push B.born) b).heap[r]?=M (.mapIter (M v) d (seen.push B.born) b):=(ib s).1;have m:∀k,k≠r->(setBlock A r<|.mapIter (M v) d (seen.push B.born) b).heap[k]?=w.heap[k]?:=λk x=>((ib s).2 k x).trans (by rw[i]);have q:=(m v<|λB=>h.ne B.symm).trans O;(have C:B∈l.toList:=by(have:(leftOf l seen).toList.Sublist l.toList:=by simp[leftOf]);grind);refine bu ⟨a,K,ab,_,z,x▸T▸e,⟨l,b,d,_,b,q,hf,E,j,k,t,t,JM E.2.1 u▸V.jO W⟩,⟨?_,?_,?_,?_,aI⟩,?_,?_⟩;obtain rfl|rfl:=g<;>rfl;obtain rfl|rfl:=g<;>rfl;obtain rfl|rfl:=g<;>rfl;simp[setBlock,i];simp[setBlock,i];rw[<-x,<-T];exact run_entry_at _ r v d seen l b B j q C E.2.1
section
variable{P:Program}(w:Z){c:Array Oper}{rest:cy Oper}{o:Oper}{a:Act}{Q:Exit->Act->Z->Prop}
end
theorem G3{P:Program}{w:Z}{mt g e i:R}{m:ia}{s:TypeInfo}{m9:ae}(q:P.underlying mt=M (.map g e))(f:P.underlying g=M (.int .i64))(n:P.info? e=M s)(r:s.zero=M m9)(h:kP w i m)(k:Y):(Instr.lookup mt (.map<|M i) (ay k) cz).run P w=.ok (de #[(m.jo k).getD m9,aO (m.jo k).isSome]) w:=by
 let⟨d,b,l,j,_⟩:=h;let⟨t,p⟩:=IV k d.toList m 0 j;unfold Instr.lookup;rw[jy,eV q];simp only[kI,jy,(by simp[getObj,Sem.run,l]:(getObj i).run P w=.ok (.map d b) w),rJ];rw[show(10000:R)=9999+1 from rfl,(fT (P:=P) (w:=w) (k:=ay k) f (by rfl) d.isEmpty 9999)];simp only[kI,(fR (P:=P) (w:=w) f p)];cases hg:m.jo k with
 |none=>simp[zeroValue,typeInfo,n,r]
 |some v=>simp
theorem kX.xN{b:cy MapEntry}{m:ia}(h:kX b m):y b=y m:=by
 have:=cD y h;grind
theorem NE{P:Program}{w:Z}{mt j e l:R}{m:ia}(i:P.underlying mt=M (.map j e))(h:kP w l m)(k:TypeId):(Builtin.len_ #[mt] k #[.map<|M l]).run P w=.ok (ay<|y m) w:=by
 let⟨n,b,g,f,_⟩:=h;have d:=f.xN;rw[nH]at d;simp[Builtin.len_,eV i,(kJ (P:=P) g),goInt,Result.andThen,d]
theorem kP.lY(w:Z):kP (dw w<|.map #[] 0) (G<|H w) []:=by
 refine⟨#[],0,?_,kX.km,sG 0⟩;show(w.heap.push _)[G<|H w]?=_;simp
theorem kP.dU{w w':Z}{b:R}{m:ia}(h:kP w b m)(i:w'.heap[b]?=w.heap[b]?):kP w' b m:=by
 let⟨e,d,f,g⟩:=h;exact⟨e,d,i.trans f,g⟩
end
section
open ChangeMaps (setBlock)
def mL(w:Z)(f:R)(g:TypeDesc)(e:ae->Prop):Prop:=∃d b,w.heap[f]?=M (.map d b)/\MapKept.Stamped d b/\(∀x∈d.toList,MapKept.IsKey g x.key)/\(∀x∈d.toList,x.val=ef #[])/\∀k,e k↔∃x∈d.toList,x.key=k
theorem mL.lt{w:Z}{b:R}{g:TypeDesc}{e:ae->Prop}(h:mL w b g e):b<G (H w):=by
 let⟨_,_,d,_⟩:=h;exact az d
theorem mL.dU{w w':Z}{b:R}{j:TypeDesc}{e:ae->Prop}(h:mL w b j e)(k:w'.heap[b]?=w.heap[b]?):mL w' b j e:=by
 let⟨f,d,g,i⟩:=h;exact⟨f,d,k.trans g,i⟩
theorem mL.lY(w:Z)(d:TypeDesc):mL (dw w<|.map #[] 0) (G<|H w) d aC:=by
 refine⟨#[],0,?_,⟨ar,ar,ar⟩,ar,ar,ar⟩;show(w.heap.push _)[G<|H w]?=_;simp
theorem mL.yM{w:Z}{n:R}{p:TypeDesc}{e d:ae->Prop}(h:mL w n p e)(q:∀k,d k↔e k):mL w n p d:=by
 let⟨f,b,g,i,j,l,m⟩:=h;exact⟨f,b,g,i,j,l,λk=>(q k).trans<|m k⟩
theorem DH{P:Program}{w:Z}{mt r m t:R}{u:TypeDesc}{q:ae->Prop}{C:TypeInfo}(A:P.underlying mt=M (.map r m))(k:P.underlying r=M u)(x:P.info? m=M C)(B:C.zero=M (ef #[]))(h:mL w t u q)(p:ae)(d:MapKept.IsKey u p)(s:eN)(K:s=cz↔q p):(Instr.lookup mt (.map<|M t) p cz).run P w=.ok (de #[ef #[],aO s]) w:=by
 let⟨e,b,v,L,l,N,F⟩:=h;have g:=fT (P:=P) (w:=w) (k:=p) k d e.isEmpty 9999;have j:(getObj t).run P w=.ok (.map e b) w:=by simp[getObj,Sem.run,v]
 unfold Instr.lookup;rw[jy,eV A];simp only[kI,jy,j,rJ];rw[show(10000:R)=9999+1 from rfl,g];simp only[kI];obtain⟨f,n⟩|⟨O,D,f,n,E⟩:=MapKept.findNow_spec d e.toList 0 l;have i:=fR (P:=P) (w:=w) k f;(have:s=bD:=by grind);simp[i,zeroValue,typeInfo,x,B,this];have:=fR (P:=P) (w:=w) k f;have:D∈e.toList:=iz n;have:s=cz:=aI;simp_all
theorem BF{P:Program}{w:Z}{mt C E t:R}{D:TypeDesc}{B:ae->Prop}(v:P.underlying mt=M (.map C E))(n:P.underlying C=M D)(h:mL w t D B)(q:ae)(g:MapKept.IsKey D q):∃p,(Instr.mapUpdate mt (.map<|M t) q<|ef #[]).run P w=.ok () p/\mL p t D (λx=>B x\/x=q)/\w.grownBy p (M t)/\G (H p)=G (H w):=by
 let⟨d,b,k,u,l,N,L⟩:=h;have j:=kJ (P:=P) k;obtain⟨r,m⟩|⟨A,e,r,m,F⟩:=MapKept.findNow_spec g d.toList 0 l;refine⟨setBlock w t<|.map (d.push {key:=q,val:=ef #[],born:=b})<|b+1,?_,?_,jX _ _ _,by simp[setBlock]⟩;simp[Instr.mapUpdate,eV v,j,fT n g,fR n r,gV _ k,Result.andThen,setBlock];refine⟨_,_,(ib k).1,tI u m,?_,?_,?_⟩;(grind);(grind);intro x;simp only[Array.toList_push,aP,bY];grind
 have K:d[A]?=M e:=dV m;have:e∈d.toList:=iz m;refine⟨setBlock w t<|.map (d.modify A λe=>{e with key:=q,val:=ef #[]}) b,?_,?_,jX _ _ _,by simp[setBlock]⟩;simp[Instr.mapUpdate,eV v,j,fT n g,fR n r,K,F,qw g,gV _ k,Result.andThen,setBlock];have:∀b,d[A]?=M b->b.key=q:=aI;refine⟨_,_,(ib k).1,rL u _ _ (λ_ _=>rfl) aI,MapKept.isKey_modify l _ _ aI,?_,?_⟩;(grind[Array.toList_modify,getElem?_of_mem,mem_of_getElem?]);intro x;have i:((d.modify A λe=>{e with key:=q,val:=ef #[]}).toList.map (·.key))=d.toList.map (·.key):=MapKept.modify_keys _ _ aI;(have s:(∃b∈(d.modify A λe=>{e with key:=q,val:=ef #[]}).toList,b.key=x)↔∃b∈d.toList,b.key=x:=by rw[<-cC (f:=λb:MapEntry=>b.key),<-cC (f:=λb:MapEntry=>b.key),i]);rw[s,<-L x];grind
section
variable{P:Program}(w:Z){c:Array Oper}{rest:cy Oper}{o:Oper}{a:Act}{Q:Exit->Act->Z->Prop}
theorem wH(p:o.guard=dE)(j x k:Operand)(C:TypeId)(g:o.op=Op.mapUpdate C j x k)(B E:TypeId)(s:P.underlying C=M (.map B E))(m:TypeDesc)(q:P.underlying B=M m)(l:R)(i:ae->Prop)(r:a.eval j=.map (M l))(h:mL w l m i)(b:ae)(f:MapKept.IsKey m b)(u:a.eval x=b)(t:a.eval k=ef #[])(n:∀w',mL w' l m (λx=>i x\/x=b)->w.grownBy w' (M l)->wpList P c Q rest (a.put o.dst jn) w'):wpList P c Q (o::rest) a w:=by
 refine lz p λD e=>?_;let⟨w',d,v,A,_⟩:=BF s q h b f;unfold Oper.wp;simp[execOp,g,r,u,t,d,Result.andThen];exact e _ _<|n w' v A
end
end
