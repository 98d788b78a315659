import Derived.BigQuiet
import Derived.Conc.MuLone
import Derived.Deep.QuietTactic
import Derived.Deep.RegionHeld3
import Derived.Deep.RegionLawGrows
import Derived.Deep.RegionWith
import Derived.Defers
import Derived.LaidEql
import Derived.Laws.BitsLemmas
import Derived.Laws.Entries
import Derived.Laws.IdiomStrings
import Derived.Lib.BufferRead
import Derived.Lib.EndianBits
import Derived.MapKept
import Derived.OpenShut
import Derived.OrdersHeld
import Derived.OrdersIn
import Derived.Outline
import Derived.OwnWalk
import Derived.OwnWalkIn
import Derived.RangeFuncCalls
import Derived.RowKitTokens
import Derived.Stop.Asserts
import Derived.Test.YtbgjhlkoccmfaaaGreatDoorChecked
import Derived.WalkLawsBesides
import Derived.Test.YtbgjhlkoccmfaaaGreatDoorC0
open _root_ renaming List.length→y,Option.some→M,Array.size→G,Go.World.heap→H,Go.Value.ownBlock→cN,Go.World.cell?→bA,Go.World.setCell→cP,Go.World.alloc→dw,Bool.false→bD,Bool.true→cz,Nat→R,Int→Y,List→cy,Go.Calls→cR,Go.undef→jm,Go.Proofs.Tryz.prog→bN,Go.Value.slice→am,Go.Value.string→aw,Go.Value.bool→aO,Go.Value.pointer→ee,Go.Value.tuple→de,Go.Value.agg→ef,Go.World.frozen?→iH,Go.World.ownsRow→fD,Go.Value.nilIface→ib,Go.RowKit.Below→gC,Bool→eN,Option.none→dE,rfl→z,Or.inl→J,Or.inr→bj
namespace Go.Proofs.YtbgjhlkoccmfaaaGreatDoor
open ChangeShapes WideShapes RowKit Proofs.Tryz List
set_option maxHeartbeats 16000000
set_option linter.all false
set_option maxRecDepth 100000
variable{a e P:Z}{b c k n:R}{d w:ae}{m:eD}{W:fB}{r:Y}{B:af}{Q:iE}{V:eN}
abbrev KV:=af×af
abbrev kV:=cy KV
def rZ(p:KV):iE:=[aw p.1,aw p.2]
def iR(l:cy KV):iE:=l.flatMap rZ
def pX(l:cy KV)(i:R)(h:i<y l):(iR l)[i*2]?=M (aw l[i].1)/\(iR l)[i*2+1]?=M (aw l[i].2):=by
 induction l generalizing i with
 |nil=>simp at h
 |cons p r a=>
  cases i with
  |zero=>simp[iR,rZ]
  |succ i=>
   have:=a i<|dV h;rw[(U:(i+1)*2=i*2+2)];simpa[iR,rZ]using this
def Row(w:Z)(c:R)(v:ae)(n:R)(d:iE):Prop:=y d=n*c/\((v=aF/\n=0)\/∃e a b,v=bX e a n b/\n<=b/\∀j u,d[j]?=M u->bA w (X e<|a+j)=M u)
def mE(w:Z)(v:ae)(l:cy KV):Prop:=Row w 2 v (y l)<|iR l
def Ho:(prog.info? 227).map (λi=>(i.zero,i.size,i.bytes))=M (M<|ef #[aw ⟨#[]⟩,aw ⟨#[]⟩],2,32):=aH
theorem toList_inj{b:af}(h:B.toList=b.toList):B=b:=by
 rw[uo,uo]at h;exact bytes_inj h
def BH{b:af}(h:¬B=b):(B.toList==b.toList)=bD:=by
 rw[nD];grind[toList_inj]
def QH(a k:af):eN:=!Op.bytesLess a.toList k.toList
def kA(k v:af)(a:cy KV×eN)(p:KV):cy KV×eN:=let b:=if !a.2&&QH p.1 k then a.1++[(k,v)]else a.1;(if p.1=k then b else b++[p],a.2||QH p.1 k)
def tL(k v:af)(d:eN)(l:cy KV):cy KV×eN:=l.foldl (kA k v) ([],d)
def ND(l:cy KV)(k v:af)(d:eN):cy KV:=if(tL k v d l).2 then(tL k v d l).1 else(tL k v d l).1++[(k,v)]
def Rs(k v:af)(d:eN)(l:cy KV)(n:R)(h:n<y l):tL k v d (l.take<|n+1)=kA k v (tL k v d<|l.take n) l[n]:=by
 unfold tL;rw[aG h,jR];rfl
theorem Gm(k v:af)(a:cy KV×eN)(p:KV):y (kA k v a p).1<=y a.1+2:=by
 unfold kA;grind
def UJ{v b c:af}{a:cy KV}(h:b=B):kA B v (a,cz) (b,c)=(a,cz):=by simp[kA,h]
def UI{v b c:af}{a:cy KV}(h:¬b=B):kA B v (a,cz) (b,c)=(a++[(b,c)],cz):=by simp[kA,h]
def UN{v b c:af}{a:cy KV}(d:Op.bytesLess b.toList B.toList=cz)(h:b=B):kA B v (a,bD) (b,c)=(a,bD):=by
 unfold kA QH;grind
def UM{v b c:af}{a:cy KV}(d:Op.bytesLess b.toList B.toList=cz)(h:¬b=B):kA B v (a,bD) (b,c)=(a++[(b,c)],bD):=by
 unfold kA QH;grind
def UP{v b c:af}{a:cy KV}(d:Op.bytesLess b.toList B.toList=bD)(h:b=B):kA B v (a,bD) (b,c)=(a++[(B,v)],cz):=by
 unfold kA QH;grind
def UO{v b c:af}{a:cy KV}(d:Op.bytesLess b.toList B.toList=bD)(h:¬b=B):kA B v (a,bD) (b,c)=(a++[(B,v)]++[(b,c)],cz):=by
 unfold kA QH;grind
def KX(k v:af)(d:eN)(l:cy KV):y (tL k v d l).1<=2*y l:=by
 unfold tL
 have:∀(l:cy KV)(a:cy KV×eN),y (l.foldl (kA k v) a).1<=y a.1+2*y l:=by
  intro l;induction l with
  |nil=>intro a;simp
  |cons p r b=>grind[length_cons,Gm]
 grind
def kh(a b:cy KV):iR (a++b)=iR a++iR b:=by simp[iR]
def kr(h:fD a b c k d n Q)(f:e.heap=a.heap):fD e b c k d n Q:=by
 unfold World.ownsRow at*;rwa[f]
def lH{i wr W c:Z}(f:gC b i wr)(a:b<=G (H wr))(h:fm W c d w)(O:Obj)(e:(W.os,W.tape,W.output,W.heap)=((dw wr O).os,(dw wr O).tape,(dw wr O).output,(dw wr O).heap))(g:∀k,cN d=M k->b<=k):gC b i c:=(Below.of_heap (f.alloc a O) e).grown h.dF (by simp only[js]at e;rw[e.2.2.2];simp;omega) g
def qD(w:Z)(a:R)(o:ae)(l:cy KV):Prop:=fD w a 227 2 o (y l)<|iR l
def qD.of{w:Z}{l:cy KV}(h:fD w b 227 2 d c Q)(a:c=y l)(e:Q=iR l):qD w b d l:=by subst a;subst e;exact h
def np(w:Z)(x a:ae)(t:TypeId):∀j u,[x,a][j]?=M u->bA (dw w<|aK #[x,a] t) (((X (G<|H w) 0):Addr).add j)=M u:=by
 intro j u b;rw[dS];simp_all
def Ye(o:cy KV)(ab c ac:R)(k v:af)(L:eN)(w:Z)(hr:y o<=1000000000000)(hc:∀g,g<y o->bA w (X ab<|c+g*2)=M (aw (o[g]?.getD (⟨#[]⟩,⟨#[]⟩)).1)/\bA w (X ab<|c+g*2+1)=M (aw (o[g]?.getD (⟨#[]⟩,⟨#[]⟩)).2))(hb:ab<G (H w)):cR bN 141 #[bX ab c (y o) ac,ef #[aw k,aw v,aO L]] w λan w'=>∃v',an=aN v'/\qD w' (G (H w)+1) v' (ND o k v L)/\gC (G<|H w) w w':=by
 let⟨i0,T,t,u,x⟩:=cZ Ho;go_in
 go_wp2;go_loopw [5,6,7] (λa ad g wr=>∃(n:R),n<=y o/\g=ay n/\ad=aO (tL k v L<|o.take n).2/\qD wr (G (H w)+1) a (tL k v L<|o.take n).1/\gC (G (H w)+1) (dw w<|aK #[aw k,aw v,aO L] 201) wr) (λ_ _ g _=>y o-(intOf g).toNat)
 exact⟨0,bQ _,z,z,ct _ _ _ _,Below.refl _ _⟩
 .obtain⟨n,hn,rfl,rfl,b,a⟩:=hrel;have:bA wr (X (G<|H w) 0)=M (aw k):=by rw[a.cell ar];simp
  have:bA wr (X (G<|H w) 1)=M (aw v):=by rw[a.cell ar];simp
  have p:y (tL k v L<|o.take n).1<=2*n:=zY<|KX k v L<|o.take n;have E:G (H w)+1<=G (H wr):=by have:=a.size;simp_all
  by_cases D:n<y o
  .have V:bA wr (X ab<|c+n*2)=M (aw (o[n]?.getD (⟨#[]⟩,⟨#[]⟩)).1):=by rw[a.cell dW,gP hb];exact(hc n D).1
   have W:bA wr (X ab<|c+n*2+1)=M (aw (o[n]?.getD (⟨#[]⟩,⟨#[]⟩)).2):=by rw[a.cell dW,gP hb];exact(hc n D).2
   have P:=ak<|Rs k v L o n D;generalize tL k v L (o.take n)=A at*;let⟨O,q⟩:=A;rw[(by simp[D]:o[n]?.getD (⟨#[]⟩,⟨#[]⟩)=o[n])]at V W;generalize o[n]=ad at*;let⟨f,B⟩:=ad;simp only at V W p;cases q with
   |true=>
    go_wp21;go_quiet(fail)
    go_wp21;by_cases m:f=k
    .have C:(f.toList==k.toList)=cz:=by rw[m];simp
     have i:=ak<|P.trans<|UJ m;go_quiet(fail)
     go_wp2;go_roundw
     .exact⟨n+1,U,dM,by rw[ag i],ag i▸kr b rfl,Below.of_heap a rfl⟩
     .simp[intOf];omega
    .have C:(f.toList==k.toList)=bD:=BH m;have i:=ak<|P.trans<|UI m;go_quiet(fail)
     go_wp2_with(first
      |(at_builtin;refine cq _ z (.tmp 44) (.tmp 49) 51 z (G (H w)+1) 227 i0 (.agg #[.string ⟨#[]⟩,.string ⟨#[]⟩]) 2 32 underlying51 T t u x z cg _ _ _ z (kr (bC b (.cells #[.string f,.string B] 227)) ?chT) (X (G (H wr)) 0) 1 1 [.string f,.string B] z z ?c1T ?c2T ?c3T ?c4T ?c5T ?_))
     .rfl
     .exact np _ _ _ _
     .intro al r;simp at r;obtain rfl|rfl:=r<;>rfl
     .first|omega|(simp;omega)
     .first|omega|(simp;omega)
     .simp;omega
     intro o2 Q e j;go_wp2;go_roundw
     .exact⟨n+1,U,dM,by rw[ag i],ag i▸qD.of e ar (by simp[kh];rfl),lH a E j (aK #[aw f,aw B] 227) z<|λF g=>(aS b F g).1⟩
     .simp[intOf];omega
   |false=>
    by_cases hL:Op.bytesLess f.toList k.toList=cz
    .have d:=ak hL;go_wp21;go_quiet(fail)
     go_wp21;by_cases m:f=k
     .have C:(f.toList==k.toList)=cz:=by rw[m];simp
      have i:=ak<|P.trans<|UN d m;go_quiet(fail)
      go_wp2;go_roundw
      .exact⟨n+1,U,dM,by rw[ag i],ag i▸kr b rfl,Below.of_heap a rfl⟩
      .simp[intOf];omega
     .have C:(f.toList==k.toList)=bD:=BH m;have i:=ak<|P.trans<|UM d m;go_quiet(fail)
      go_wp2_with(first
       |(at_builtin;refine cq _ z (.tmp 44) (.tmp 49) 51 z (G (H w)+1) 227 i0 (.agg #[.string ⟨#[]⟩,.string ⟨#[]⟩]) 2 32 underlying51 T t u x z cg _ _ _ z (kr (bC b (.cells #[.string f,.string B] 227)) ?chL) (X (G (H wr)) 0) 1 1 [.string f,.string B] z z ?c1L ?c2L ?c3L ?c4L ?c5L ?_))
      .rfl
      .exact np _ _ _ _
      .intro al r;simp at r;obtain rfl|rfl:=r<;>rfl
      .first|omega|(simp;omega)
      .first|omega|(simp;omega)
      .simp;omega
      intro o2 Q e j;go_wp2;go_roundw
      .exact⟨n+1,U,dM,by rw[ag i],ag i▸qD.of e ar (by simp[kh];rfl),lH a E j (aK #[aw f,aw B] 227) z<|λF g=>(aS b F g).1⟩
      .simp[intOf];omega
    .have S:Op.bytesLess f.toList k.toList=bD:=dV hL;go_wp21;go_quiet(fail)
     go_wp2_with(first
      |(at_builtin;refine cq _ z (.tmp 28) (.tmp 34) 51 z (G (H w)+1) 227 i0 (.agg #[.string ⟨#[]⟩,.string ⟨#[]⟩]) 2 32 underlying51 T t u x z cg _ _ _ z (kr (bC b (.cells #[.string k,.string v] 227)) ?chY) (X (G (H wr)) 0) 1 1 [.string k,.string v] z z ?c1Y ?c2Y ?c3Y ?c4Y ?c5Y ?_))
     .rfl
     .exact np _ _ _ _
     .intro al r;simp at r;obtain rfl|rfl:=r<;>rfl
     .first|omega|(simp;omega)
     .first|omega|(simp;omega)
     .simp;omega
     intro o1 K l s;have d:gC (G (H w)+1) (dw w<|aK #[aw k,aw v,aO L] 201) K:=lH a E s (aK #[aw k,aw v] 227) z<|λF g=>(aS b F g).1;have:bA K (X (G<|H w) 0)=M (aw k):=by rw[d.cell ar];simp
     have:bA K (X ab<|c+n*2)=M (aw f):=by rwa[d.cell dW,<-a.cell dW]
     have:bA K (X ab<|c+n*2+1)=M (aw B):=by rwa[d.cell dW,<-a.cell dW]
     have aa:G (H w)+1<=G (H K):=by have:=d.size;simp_all
     have N:qD K (G (H w)+1) o1 (O++[(k,v)]):=qD.of l ar (by simp[kh];rfl);have:y (O++[(k,v)])<=2*n+1:=by simp;omega
     go_wp21;by_cases m:f=k
     .have C:(f.toList==k.toList)=cz:=by rw[m];simp
      have i:=ak<|P.trans<|UP S m;go_quiet(fail)
      go_wp2;go_roundw
      .exact⟨n+1,U,dM,by rw[ag i],ag i▸kr N rfl,Below.of_heap d rfl⟩
      .simp[intOf];omega
     .have:(f.toList==k.toList)=bD:=BH m;have i:=ak<|P.trans<|UO S m;go_quiet(fail)
      go_wp2_with(first
       |(at_builtin;refine cq _ z (.tmp 44) (.tmp 49) 51 z (G (H w)+1) 227 i0 (.agg #[.string ⟨#[]⟩,.string ⟨#[]⟩]) 2 32 underlying51 T t u x z cg _ _ _ z (kr (bC N (.cells #[.string f,.string B] 227)) ?chZ) (X (G (H K)) 0) 1 1 [.string f,.string B] z z ?c1Z ?c2Z ?c3Z ?c4Z ?c5Z ?_))
      .rfl
      .exact np _ _ _ _
      .intro al r;simp at r;obtain rfl|rfl:=r<;>rfl
      .first|omega|(simp;omega)
      .first|omega|(simp;omega)
      .simp;omega
      intro o2 Q e j;go_wp2;go_roundw
      .exact⟨n+1,U,dM,by rw[ag i],ag i▸qD.of e ar (by simp[kh];rfl),lH d aa j (aK #[aw f,aw B] 227) z<|λF g=>(aS N F g).1⟩
      .simp[intOf];omega
  .have d:o.take n=o:=aI;rw[d]at b p|-;have f:=ak<|show ND o k v L=if(tL k v L o).2 then(tL k v L o).1 else(tL k v L o).1++[(k,v)]from rfl;generalize tL k v L o=A at*;let⟨O,q⟩:=A;simp only at p;have e:∀Q,gC (G (H w)+1) (dw w<|aK #[aw k,aw v,aO L] 201) Q->gC (G<|H w) w Q:=λQ h=>((Below.refl _ w).alloc (aq _) _).trans<|h.mono U;cases q with
   |true=>
    go_wp2;go_ret;exact⟨_,z,ag f▸b,e _ a⟩
   |false=>
    go_wp2_with(first
     |(at_builtin;refine cq _ z (.tmp 53) (.tmp 59) 51 z (G (H w)+1) 227 i0 (.agg #[.string ⟨#[]⟩,.string ⟨#[]⟩]) 2 32 underlying51 T t u x z cg _ _ _ z (kr (bC b (.cells #[.string k,.string v] 227)) ?chX) (X (G (H wr)) 0) 1 1 [.string k,.string v] z z ?c1X ?c2X ?c3X ?c4X ?c5X ?_))
    .rfl
    try(case c1X=>exact np _ _ _ _)
    .exact⟨z,z⟩
    .omega
    .omega
    .omega
    intro o1 K l s;go_wp2;go_ret;exact⟨_,z,ag f▸qD.of l ar (by simp[kh];rfl),e _<|lH a E s (aK #[aw k,aw v] 227) z<|λF g=>(aS b F g).1⟩
theorem G0(k v:af)(l:eN)(w:Z):cR bN 141 #[aF,ef #[aw k,aw v,aO l]] w λr o=>∃n,r=aN n/\qD o (G (H w)+1) n (ND [] k v l)/\gC (G<|H w) w o:=by
 let⟨q,p,f,i,j⟩:=cZ Ho;go_in
 go_wp2;go_loopw [5,6,7] (λa p i wr=>i=ay 0/\p=aO l/\a=aF/\gC (G (H w)+1) (dw w<|aK #[aw k,aw v,aO l] 201) wr) (λ_ _ _ _=>0)
 grind[Below.refl]
 .obtain⟨rfl,rfl,rfl,a⟩:=hrel;have:bA wr (X (G<|H w) 0)=M (aw k):=by rw[a.cell ar];simp
  have:bA wr (X (G<|H w) 1)=M (aw v):=by rw[a.cell ar];simp
  have g:G (H w)+1<=G (H wr):=by have:=a.size;simp_all
  have b:qD wr (G (H w)+1) aF []:=ct _ _ _ _;have d:∀a,gC (G (H w)+1) (dw w<|aK #[aw k,aw v,aO l] 201) a->gC (G<|H w) w a:=λa h=>((Below.refl _ w).alloc (aq _) _).trans<|h.mono U;cases l with
  |true=>
   go_wp2;go_ret;exact⟨_,z,b,d _ a⟩
  |false=>
   go_wp2_with(first
    |(at_builtin;refine cq _ z (.tmp 53) (.tmp 59) 51 z (G (H w)+1) 227 q (.agg #[.string ⟨#[]⟩,.string ⟨#[]⟩]) 2 32 underlying51 p f i j z cg _ _ _ z (kr (bC b (.cells #[.string k,.string v] 227)) ?chX) (X (G (H wr)) 0) 1 1 [.string k,.string v] z z ?c1X ?c2X ?c3X ?c4X ?c5X ?_))
   .rfl
   try(case c1X=>exact np _ _ _ _)
   .intro u m;simp at m;obtain rfl|rfl:=m<;>rfl
   .simp_all
   .simp_all
   .first|omega|(simp;omega)
   intro s t c e;go_wp2;go_ret;exact⟨_,z,qD.of c z z,d _<|lH a g e (aK #[aw k,aw v] 227) z<|λi f=>(aS b i f).1⟩
def dQ{w:Z}{j:R}(h:fD w c k n d j Q):Row w n d j Q:=by
 refine⟨h.1,?_⟩;obtain⟨rfl,l⟩|⟨g,a,f,rfl,_,_,e,_⟩:=h.2;grind
 refine bj ⟨g,0,a,z,e,λm u i=>?_⟩;have:=h.cells (g:=g) z m u i;rwa[dS]at this
def qD.Ov{l:cy KV}(h:qD a b d l):mE a d l:=dQ h
def G1(l:cy KV)(n v:af)(g:eN)(k:mE a d l)(j:∀p,cN d=M p->p<G (H a))(m:y l<=1000000000000):cR bN 141 #[d,ef #[aw n,aw v,aO g]] a λq f=>∃e,q=aN e/\qD f (G (H a)+1) e (ND l n v g)/\gC (G<|H a) a f:=by
 obtain⟨s,⟨rfl,r⟩|⟨o,b,c,rfl,i,t⟩⟩:=k;grind[eq_nil_of_length_eq_zero,G0]
 refine Ye l o b c n v g a m (λu h=>?_)<|j o z;have:=pX l u h;grind
structure Na where
 D:af
 l:af
 dP:eN
abbrev vW:=cy Na
def oH(c:Na):iE:=[aw c.D,aw c.l,aO c.dP]
def gL(l:cy Na):iE:=l.flatMap oH
def nk(l:cy Na)(i:R)(h:i<y l):(gL l)[i*3]?=M (aw l[i].D)/\(gL l)[i*3+1]?=M (aw l[i].l)/\(gL l)[i*3+2]?=M (aO l[i].dP):=by
 induction l generalizing i with
 |nil=>simp at h
 |cons p r a=>
  cases i with
  |zero=>simp[gL,oH]
  |succ i=>
   have:=a i<|dV h;have e:(i+1)*3=i*3+3:=U;rw[e];simpa[gL,oH]using this
def Ce(w:Z)(v:ae)(l:cy Na):Prop:=Row w 3 v (y l)<|gL l
def wt:eN->R
 |true=>0
 |false=>1
def Gl(k v:af)(a:kV×eN)(p:KV):y (kA k v a p).1+wt (kA k v a p).2<=y a.1+wt a.2+1:=by
 let⟨c,q⟩:=a;let⟨b,d⟩:=p;cases q<;>cases hg:QH b k<;>by_cases h:b=k<;>(simp only[kA,hg];simp[h,wt])
theorem NC(l:kV)(k v:af)(d:eN):y (ND l k v d)<=y l+1:=by
 have u7:∀(l:kV)(a:kV×eN),y (l.foldl (kA k v) a).1+wt (l.foldl (kA k v) a).2<=y a.1+wt a.2+y l:=by
  intro l;induction l with
  |nil=>intro a;simp
  |cons p r b=>intro a;simp only[yV,bK];have:=b<|kA k v a p;have:=Gl k v a p;omega
 have h:=u7 l ([],d);have:wt d<=1:=by cases d<;>simp[wt]
 simp only[eE]at h;unfold ND tL;split<;>rename_i e;omega;have a:(List.foldl (kA k v) ([],d) l).2=bD:=dV e;rw[a,show wt bD=1 from rfl]at h;rw[ai];grind
def WE(l:kV)(a:cy Na):kV:=a.foldl (λl c=>ND l c.D c.l c.dP) l
def ZY(l:kV)(a:cy Na)(n:R)(h:n<y a):WE l (a.take<|n+1)=ND (WE l<|a.take n) a[n].D a[n].l a[n].dP:=by
 unfold WE;rw[aG h,jR];rfl
def yJ(l:kV)(a:cy Na):y (WE l a)<=y l+y a:=by
 unfold WE;induction a generalizing l with
 |nil=>simp
 |cons c r b=>grind[length_cons,NC]
def ZX{D:kV}(c:cy Na)(N:mE a d D)(L:∀g,cN d=M g->g<G (H a))(hc:Ce a w c)(x:∀g,cN w=M g->g<G (H a))(hr:y D+y c<=1000000000000):cR bN 92 #[d,w] a λad E=>∃p,ad=aN p/\mE E p (WE D c)/\(∀g,cN p=M g->g<G (H E))/\(cN p=cN d\/∀g,cN p=M g->G (H a)<=g)/\gC (G<|H a) a E:=by
 obtain⟨h1,⟨rfl,h0⟩|⟨K,e,aa,rfl,ac,A⟩⟩:=hc;(.obtain rfl:c=[]:=bG h0;(go_in);go_wp2;(go_loopw [0,5] (λF O wr=>O=ay 0/\F=d/\wr=a) (λ_ _ _=>0));(grind);obtain⟨rfl,rfl,rfl⟩:=hrel;go_wp2;go_ret;exact⟨_,z,N,L,J z,Below.refl _ _⟩)
 .have f:K<G (H a):=x K z;let⟨V,S,q⟩:=eU N L A;go_in
  go_wp2;go_loopw [0,5] (λF O wr=>∃n:R,n<=y c/\O=ay n/\mE wr F (WE D<|c.take n)/\(∀g,cN F=M g->g<G (H wr))/\(cN F=cN d\/∀g,cN F=M g->G (H a)<=g)/\gC (G<|H a) a wr) (λ_ O _=>y c-(intOf O).toNat)
  .exact⟨0,bQ _,z,V,S,J z,Below.refl _ _⟩
  .obtain⟨n,hn,rfl,k,o,C,b⟩:=hrel;by_cases m:n<y c
   .have i:=nk c n m;have t:bA wr (X K<|e+n*3)=M (aw c[n].D):=(b.cell<|by exact f).trans<|q _ _ i.1;have u:bA wr (X K<|e+n*3+1)=M (aw c[n].l):=(b.cell<|by exact f).trans (by rw[bJ];exact q _ _ i.2.1);have v:bA wr (X K<|e+n*3+2)=M (aO c[n].dP):=(b.cell<|by exact f).trans (by rw[bJ];exact q _ _ i.2.2);have W:=ak<|ZY D c n m;have l:y (WE D<|c.take n)<=1000000000000:=zY<|yJ D<|c.take n;generalize ab:c[n]=ce at*;let⟨ck,cv,cd⟩:=ce;simp only at t u v;go_wp2_with(first
     |(go_at_call 141;refine(G1 _ ck cv cd k o l).mono ?_;rintro ad Q⟨P,rfl,j,r⟩))
    have s:gC (G<|H a) a Q:=b.trans<|r.mono b.size;have B:∀g,cN P=M g->g<G (H Q):=λg i=>(aS j g i).2;let⟨K1,K2,K3,K4⟩:=jr j.Ov s B (show∀g,cN P=M g->G (H a)<=g fromλg i=>gV ((aS j g i).1) b.size);go_wp2;go_roundw
    .exact⟨n+1,U,dM,ag W▸K1,K3,bj K4,K2⟩
    .simp[intOf];omega
   .have i:c.take n=c:=aI;rw[i]at k;go_wp2;go_ret;exact⟨_,z,k,o,C,b⟩
def vD(l:kV)(k:af):af×eN:=match l with
 |[]=>(⟨#[]⟩,bD)
 |p::r=>if p.1=k then(p.2,cz)else vD r k
def VK{l:kV}(h:b<y l)(e:l[b].1=B):vD (l.drop b) B=(l[b].2,cz):=by
 rw[dm h];simp[vD,e]
def St{l:kV}(h:b<y l)(e:¬l[b].1=B):vD (l.drop b) B=vD (l.drop<|b+1) B:=by
 rw[dm h];simp[vD,e]
def OR{l:kV}(k:af)(x:mE a d l)(L:y l<=1000000000000):cR bN 58 #[d,aw k] a λE C=>E=aN (de #[aw (vD l k).1,aO (vD l k).2])/\C=a:=by
 obtain⟨F,⟨rfl,t⟩|⟨D,b,s,rfl,w,v⟩⟩:=x;(.obtain rfl:l=[]:=bG t;(go_in);go_wp2;(go_loop [6] (λr=>r=ay 0) (λ_=>0));rfl;obtain rfl:=hrel;go_wp2;(go_ret2);exact⟨z,z⟩);have p:=ak v;(go_in);go_wp2;(go_loop [6] (λr=>∃n:R,n<=y l/\r=ay n/\vD l k=vD (l.drop n) k) (λr=>y l-(intOf r).toNat));(grind);obtain⟨n,K,rfl,q⟩:=hrel;have i:=ak q;clear q;by_cases e:n<y l;(.have m:=pX l n e;have f:bA a (X D<|b+n*2)=M (aw l[n].1):=p _ _ m.1;(have g:bA a (X D<|b+n*2+1)=M (aw l[n].2):=by rw[bJ];exact p _ _ m.2);clear m;by_cases c:l[n].1=k;(.have j:=ak<|i.trans<|VK e c;generalize l[n]=A at*;let⟨o,B⟩:=A;simp only at f g c;(have u:(o.toList==k.toList)=cz:=by rw[c];simp);clear c;go_wp2;(go_ret2);exact⟨by rw[ag j];rfl,z⟩);have j:=ak<|i.trans<|St e c;generalize l[n]=A at*;let⟨o,B⟩:=A;simp only at f g c;have:(o.toList==k.toList)=bD:=BH c;clear c;go_wp2;(go_round);exact⟨n+1,U,dM,j⟩;simp[intOf];omega);(have c:l.drop n=[]:=by simp;omega);go_wp2;(go_ret2);exact⟨by rw[ag i,c];rfl,z⟩
def ml:vW->Y
 |[]=>0
 |c::r=>if c.D.size=0\/8<c.D.size then 3 else if c.dP=bD/\16<c.l.size then 4 else ml r
def gS(a:vW):Y:=if 8<y a then 2 else ml a
def ES{a:vW}(h:b<y a)(e:a[b].D.size=0\/8<a[b].D.size):ml (a.drop b)=3:=by
 rw[dm h,ml,fV e]
def ER{a:vW}(h:b<y a)(e:¬(a[b].D.size=0\/8<a[b].D.size))(f:a[b].dP=bD/\16<a[b].l.size):ml (a.drop b)=4:=by
 rw[dm h,ml,fM e,fV f]
def Il{a:vW}(h:b<y a)(e:¬(a[b].D.size=0\/8<a[b].D.size))(f:¬(a[b].dP=bD/\16<a[b].l.size)):ml (a.drop b)=ml (a.drop<|b+1):=by
 rw[dm h,ml,fM e,fM f]
def Ej{b:vW}(N:Ce a d b)(T:y b<=1000000000000):cR bN 61 #[d] a λQ P=>Q=aN (ay<|gS b)/\P=a:=by
 obtain⟨F,⟨rfl,E⟩|⟨C,c,D,rfl,L,w⟩⟩:=N;(.obtain rfl:b=[]:=bG E;(go_in);go_wp2;(go_loop [3] (λA=>A=ay 0) (λ_=>0));rfl;obtain rfl:=hrel;go_wp2;go_ret;exact⟨z,z⟩)
 .have r:=ak w;clear w F;by_cases v:8<y b
  .have s:=ak (show gS b=2 by unfold gS;rw[fV v]);go_in
   go_wp2;go_ret;exact⟨by rw[ag s];rfl,z⟩
  .have s:=ak (show gS b=ml b by unfold gS;rw[fM v]);go_in
   go_wp2;go_loop [3] (λA=>∃n:R,n<=y b/\A=ay n/\gS b=ml (b.drop n)) (λA=>y b-(intOf A).toNat)
   .exact⟨0,bQ _,z,s⟩
   .obtain⟨n,S,rfl,x⟩:=hrel;have p:=ak x;clear x;by_cases f:n<y b
    .have q:=nk b n f;have k:bA a (X C<|c+n*3)=M (aw b[n].D):=r _ _ q.1;have l:bA a (X C<|c+n*3+1)=M (aw b[n].l):=by rw[bJ];exact r _ _ q.2.1
     have m:bA a (X C<|c+n*3+2)=M (aO b[n].dP):=by rw[bJ];exact r _ _ q.2.2
     clear q;by_cases e:b[n].D.size=0\/8<b[n].D.size
     .have j:=ak<|p.trans<|ES f e;generalize b[n]=B at*;let⟨i,u,t⟩:=B;simp only at k l m e;obtain e|e:=e
      .have o:((i.size:Y)==0)=cz:=by simp[e]
       go_wp2;go_ret;exact⟨by rw[ag j];rfl,z⟩
      .have o:((i.size:Y)==0)=bD:=aI;go_wp2;go_ret;exact⟨by rw[ag j];rfl,z⟩
     .by_cases g:b[n].dP=bD/\16<b[n].l.size
      .have j:=ak<|p.trans<|ER f e g;generalize b[n]=B at*;let⟨i,u,t⟩:=B;simp only at k l m e g;obtain⟨rfl,O⟩:=g;have o:((i.size:Y)==0)=bD:=aI;have K:¬8<i.size:=U;clear e;go_wp2;go_ret;exact⟨by rw[ag j];rfl,z⟩
      .have j:=ak<|p.trans<|Il f e g;generalize b[n]=B at*;let⟨i,u,t⟩:=B;simp only at k l m e g;have:((i.size:Y)==0)=bD:=aI;have:¬8<i.size:=U;clear e;cases t with
       |true=>
        clear g;go_wp2;go_round
        .exact⟨n+1,U,dM,j⟩
        .simp[intOf];omega
       |false=>
        have:¬16<u.size:=dV g;clear g;go_wp2;go_round
        .exact⟨n+1,U,dM,j⟩
        .simp[intOf];omega
    .have e:b.drop n=[]:=by simp;omega
     go_wp2;go_ret;exact⟨by rw[ag p,e];rfl,z⟩
def xP(c b:af)(a:Y)(n:R)(p:KV):eN:=QH p.1 c&&((b.toList==[])||Op.bytesLess p.1.toList b.toList)&&(decide (a<=0)||decide ((n:Y)<a))
def tA(d c:af)(a:Y)(b:kV)(p:KV):kV:=if xP d c a (y b) p then b++[p]else b
def AZ(l:kV)(c b:af)(a:Y):kV:=l.foldl (tA c b a) []
def WX(l:kV)(c b:af)(a:Y)(n:R)(h:n<y l):AZ (l.take<|n+1) c b a=tA c b a (AZ (l.take n) c b a) l[n]:=by
 unfold AZ;rw[aG h,jR];rfl
def Am(l:kV)(d c:af)(a:Y):y (AZ l d c a)<=y l:=by
 have u7:∀(l b:kV),y (l.foldl (tA d c a) b)<=y b+y l:=by
  intro l;induction l with
  |nil=>intro b;simp
  |cons p r e=>
   intro b;simp only[yV,bK];have f:=e<|tA d c a b p;have g:y (tA d c a b p)<=y b+1:=by unfold tA;split<;>simp
   omega
 have:=u7 l [];simpa[AZ]using this
def N7{b:af}{a:kV}{p:KV}(h:xP B b r (y a) p=cz):tA B b r a p=a++[p]:=by unfold tA;rw[fV h]
def zaf{b:af}{a:kV}{p:KV}(h:xP B b r (y a) p=bD):tA B b r a p=a:=by unfold tA;rw[fM<|by simp[h]]
def MA(p:kV)(W g L:R)(m l:af)(a:Y)(x:Z)(hr:y p<=1000000000000)(hb:W<G (H x))(w:∀ac T,(iR p)[ac]?=M T->bA x (X W<|g+ac)=M T):cR bN 138 #[bX W g (y p) L,aw m,aw l,ay a] x λaa w'=>∃v',aa=aN v'/\qD w' (G<|H x) v' (AZ p m l a)/\gC (G<|H x) x w':=by
 let⟨F,q,s,t,u⟩:=cZ Ho;have V:=ak w;clear w;go_in
 go_wp2;go_loopw [9,10] (λo i wr=>∃n:R,n<=y p/\i=ay n/\qD wr (G<|H x) o (AZ (p.take n) m l a)/\gC (G<|H x) x wr) (λ_ i _=>y p-(intOf i).toNat)
 exact⟨0,bQ _,z,ct _ _ _ _,Below.refl _ _⟩
 .obtain⟨n,D,rfl,b,c⟩:=hrel;have r:G (H x)<=G (H wr):=c.size;by_cases E:n<y p
  .have N:=pX p n E;have O:bA wr (X W<|g+n*2)=M (aw p[n].1):=(c.cell<|by exact hb).trans<|V _ _ N.1;have P:bA wr (X W<|g+n*2+1)=M (aw p[n].2):=(c.cell<|by exact hb).trans (by rw[bJ];exact V _ _ N.2);clear N;have:y (AZ (p.take n) m l a)<=n:=zY<|Am (p.take n) m l a;have K:=ak<|WX p m l a n E;have ho:∃ad ab,u9=am ad (y<|AZ (p.take n) m l a) ab:=by
    obtain⟨aa,o⟩|⟨A,e,d,aa,_⟩:=b.2
    .grind
    grind
   generalize AZ (p.take n) m l a=f at*;generalize p[n]=al at*;let⟨i,k⟩:=al;simp only at O P;obtain⟨ad,ab,rfl⟩:=ho;have no:∀(D:xP m l a (y f) (i,k)=bD),AZ (p.take<|n+1) m l a=f:=λD=>K.trans<|zaf D;have v:∀(D:xP m l a (y f) (i,k)=cz),AZ (p.take<|n+1) m l a=f++[(i,k)]:=λD=>K.trans<|N7 D;clear K;cases hA:Op.bytesLess i.toList m.toList with
   |true=>
    have j:=ak (no<|by simp[xP,QH, *]);go_wp2;go_roundw
    .exact⟨n+1,U,dM,ag j▸b,c⟩
    .simp[intOf];omega
   |false=>
    cases hH:(l.toList==[])with
    |true=>
     by_cases A:a<=0
     .have B:decide (a<=0)=cz:=by simp[A]
      have j:=ak (v<|by simp[xP,QH, *]);go_wp2_with(first
       |(at_builtin;refine cq _ z (.tmp 47) (.tmp 52) 51 z (G (H x)) 227 F (.agg #[.string ⟨#[]⟩,.string ⟨#[]⟩]) 2 32 underlying51 q s t u z cg _ _ _ z (kr (bC b (.cells #[.string i,.string k] 227)) ?chQ1) (X (G (H wr)) 0) 1 1 [.string i,.string k] z z ?c1Q1 ?c2Q1 ?c3Q1 ?c4Q1 ?c5Q1 ?_))
      .rfl
      try(case c1Q1=>exact np _ _ _ _)
      .first|exact⟨z,z⟩|(intro T o;simp at o;obtain rfl|rfl:=o<;>rfl)
      .first|omega|(simp;omega)
      .first|omega|(simp;omega)
      .first|omega|(simp;omega)
      intro Q S d e;go_wp2;go_roundw
      .exact⟨n+1,U,dM,ag j▸qD.of d ar (by simp[kh];rfl),lH c r e (aK #[aw i,aw k] 227) z<|λm g=>(aS b m g).1⟩
      .simp[intOf];omega
     .have B:decide (a<=0)=bD:=by simp[A]
      by_cases w:(y f:Y)<a
      .have C:decide ((y f:Y)<a)=cz:=by simp[w]
       have j:=ak (v<|by simp[xP,QH, *]);go_wp2_with(first
        |(at_builtin;refine cq _ z (.tmp 47) (.tmp 52) 51 z (G (H x)) 227 F (.agg #[.string ⟨#[]⟩,.string ⟨#[]⟩]) 2 32 underlying51 q s t u z cg _ _ _ z (kr (bC b (.cells #[.string i,.string k] 227)) ?chQ2) (X (G (H wr)) 0) 1 1 [.string i,.string k] z z ?c1Q2 ?c2Q2 ?c3Q2 ?c4Q2 ?c5Q2 ?_))
       .rfl
       try(case c1Q2=>exact np _ _ _ _)
       .first|exact⟨z,z⟩|(intro T o;simp at o;obtain rfl|rfl:=o<;>rfl)
       .first|omega|(simp;omega)
       .first|omega|(simp;omega)
       .first|omega|(simp;omega)
       intro Q S d e;go_wp2;go_roundw
       .exact⟨n+1,U,dM,ag j▸qD.of d ar (by simp[kh];rfl),lH c r e (aK #[aw i,aw k] 227) z<|λm g=>(aS b m g).1⟩
       .simp[intOf];omega
      .have C:decide ((y f:Y)<a)=bD:=by simp[w]
       have j:=ak (no<|by simp[xP,QH, *]);go_wp2;go_roundw
       .exact⟨n+1,U,dM,ag j▸b,c⟩
       .simp[intOf];omega
    |false=>
     cases hT:Op.bytesLess i.toList l.toList with
     |true=>
      by_cases A:a<=0
      .have B:decide (a<=0)=cz:=by simp[A]
       have j:=ak (v<|by simp[xP,QH, *]);go_wp2_with(first
        |(at_builtin;refine cq _ z (.tmp 47) (.tmp 52) 51 z (G (H x)) 227 F (.agg #[.string ⟨#[]⟩,.string ⟨#[]⟩]) 2 32 underlying51 q s t u z cg _ _ _ z (kr (bC b (.cells #[.string i,.string k] 227)) ?chQ3) (X (G (H wr)) 0) 1 1 [.string i,.string k] z z ?c1Q3 ?c2Q3 ?c3Q3 ?c4Q3 ?c5Q3 ?_))
       .rfl
       try(case c1Q3=>exact np _ _ _ _)
       .first|exact⟨z,z⟩|(intro T o;simp at o;obtain rfl|rfl:=o<;>rfl)
       .first|omega|(simp;omega)
       .first|omega|(simp;omega)
       .first|omega|(simp;omega)
       intro Q S d e;go_wp2;go_roundw
       .exact⟨n+1,U,dM,ag j▸qD.of d ar (by simp[kh];rfl),lH c r e (aK #[aw i,aw k] 227) z<|λm g=>(aS b m g).1⟩
       .simp[intOf];omega
      .have:decide (a<=0)=bD:=by simp[A]
       by_cases w:(y f:Y)<a
       .have C:decide ((y f:Y)<a)=cz:=by simp[w]
        have j:=ak (v<|by simp[xP,QH, *]);go_wp2_with(first
         |(at_builtin;refine cq _ z (.tmp 47) (.tmp 52) 51 z (G (H x)) 227 F (.agg #[.string ⟨#[]⟩,.string ⟨#[]⟩]) 2 32 underlying51 q s t u z cg _ _ _ z (kr (bC b (.cells #[.string i,.string k] 227)) ?chQ4) (X (G (H wr)) 0) 1 1 [.string i,.string k] z z ?c1Q4 ?c2Q4 ?c3Q4 ?c4Q4 ?c5Q4 ?_))
        .rfl
        try(case c1Q4=>exact np _ _ _ _)
        .first|exact⟨z,z⟩|(intro T o;simp at o;obtain rfl|rfl:=o<;>rfl)
        .first|omega|(simp;omega)
        .first|omega|(simp;omega)
        .first|omega|(simp;omega)
        intro Q S d e;go_wp2;go_roundw
        .exact⟨n+1,U,dM,ag j▸qD.of d ar (by simp[kh];rfl),lH c r e (aK #[aw i,aw k] 227) z<|λm g=>(aS b m g).1⟩
        .simp[intOf];omega
       .have:decide ((y f:Y)<a)=bD:=by simp[w]
        have j:=ak (no<|by simp[xP,QH, *]);go_wp2;go_roundw
        .exact⟨n+1,U,dM,ag j▸b,c⟩
        .simp[intOf];omega
     |false=>
      have j:=ak (no<|by simp[xP,QH, *]);go_wp2;go_roundw
      .exact⟨n+1,U,dM,ag j▸b,c⟩
      .simp[intOf];omega
  .have d:p.take n=p:=fA U;rw[d]at b;go_wp2;go_ret;exact⟨_,z,b,c⟩
theorem Qj(c b:af)(a:Y)(w:Z):cR bN 138 #[aF,.string c,.string b,.int .i64 a] w λf e=>∃d,f=.returned d/\qD e (G<|H w) d (AZ [] c b a)/\gC (G<|H w) w e:=by
 go_in
 go_wp2;go_loop [9,10] (λo i=>i=.int .i64 0/\o=aF) (λ_ _=>0)
 grind
 obtain⟨rfl,rfl⟩:=hrel;go_wp2;go_ret;exact⟨_,z,ct _ _ _ _,Below.refl _ _⟩
def EV{l:kV}(g f:af)(b:Y)(n:mE a d l)(m:∀q,cN d=M q->q<G (H a))(o:y l<=1000000000000):cR bN 138 #[d,.string g,.string f,.int .i64 b] a λr i=>∃h,r=.returned h/\qD i (G<|H a) h (AZ l g f b)/\gC (G<|H a) a i:=by
 obtain⟨t,⟨rfl,s⟩|⟨p,c,e,rfl,k,j⟩⟩:=n;grind[eq_nil_of_length_eq_zero,Qj]
 exact MA l p c e g f b a o (m p z) j
def Row.fR(h:Row a b d c Q):d=aF\/∃g e f,d=bX g e c f:=by
 obtain⟨j,_⟩|⟨g,e,f,j,_⟩:=h.2;exact J j;grind
def Qk(h:gC (G<|H a) a e)(b:Option R):a.grownBy e b:=⟨h.os,h.tape,h.output,h.size,λk c _=>h.block k c⟩
def Row.dF{w w':Z}{e:Option R}(h:Row w b d c Q)(m:w.grownBy w' e)(i:cN d≠e\/cN d=dE):Row w' b d c Q:=by
 let⟨j,k⟩:=h;refine⟨j,?_⟩;obtain⟨rfl,p⟩|⟨o,a,f,rfl,g,l⟩:=k;grind
 refine bj ⟨o,a,f,z,g,λq u n=>m.cell (l q u n) ?_⟩;obtain h|h:=i;exact h;simp[cN]at h
def CR(l:kV)(k:af):af×eN×Y:=if k.size=0\/8<k.size then(⟨#[]⟩,bD,3)else((vD l k).1,(vD l k).2,0)
def Uf{l:kV}(k:af)(g:mE a d l)(i:y l<=1000000000000)(f:k.size<=140737488351232):cR bN 137 #[d,.string k] a λm j=>m=.returned (.tuple #[.string (CR l k).1,.bool (CR l k).2.1,.int .i64 (CR l k).2.2])/\j=a:=by
 by_cases c:k.size=0;(.have b:=ak (show CR l k=(⟨#[]⟩,bD,3)by unfold CR;rw[fV<|J c]);(have e:((k.size:Y)==0)=cz:=by rw[c];rfl);(go_in);go_wp2;(go_ret3);exact⟨by rw[ag b];rfl,z⟩)
 .have:((k.size:Y)==0)=bD:=nD.2 U;by_cases e:8<k.size
  .have b:=ak (show CR l k=(⟨#[]⟩,bD,3)by unfold CR;rw[fV<|bj e]);go_in
   go_wp2;go_ret3
   exact⟨by rw[ag b];rfl,z⟩
  .have b:=ak (show CR l k=((vD l k).1,(vD l k).2,0)by unfold CR;rw[fM U]);go_in
   go_wp2_with(first
    |(go_at_call 58;refine(OR k g i).mono ?_;rintro m n⟨rfl,rfl⟩))
   go_ret3
   exact⟨by rw[ag b];rfl,z⟩
structure tX(w:Z)(rb:R)(pb:Option R)(l:kV)(closed:eN)(sv:ae):Prop where
 S:∃v,w.heap[rb]?=M (.cells #[v,sv,.bool closed] 54 (0,0))/\mE w v l/\cN v=pb
 ne:pb≠M rb
 lt:∀g,pb=M g->g<G (H w)
def RK(m:Option R){l:kV}(k:af)(h:tX a b m l V d)(j:y l<=1000000000000)(e:k.size<=140737488351232):cR bN 84 #[aJ b,.string k] a λo n=>
 o=.returned (if V then .tuple #[.string ⟨#[]⟩,.bool bD,.int .i64 6]else .tuple #[.string (CR l k).1,.bool (CR l k).2.1,.int .i64 (CR l k).2.2])/\n=a:=by
 let⟨⟨v,c,g,_⟩,_,_⟩:=h
 have:=aX c 0
 have:=aX c 2
 clear c
 cases V with
 |true=>
  go_in
  go_wp2;go_ret3
  simp_all
 |false=>
  obtain rfl|⟨q,f,i,rfl⟩:=g.fR;all_goals
   go_in
   go_wp2_with(first
    |(go_at_call 137;refine(Uf k g j e).mono ?_;rintro o p⟨rfl,rfl⟩))
   go_ret3
   simp_all
def Oe(v:Option R){u:kV}(k j:af)(c:Y)(h:tX a b v u V d)(t:y u<=1000000000000):cR bN 85 #[aJ b,.string k,.string j,.int .i64 c] a λw o=>
 ∃e,w=.returned (.tuple #[e,.int .i64<|if V then 6 else 0])/\qD o (G<|H a) e (if V then []else AZ u k j c)/\gC (G<|H a) a o:=by
 let⟨⟨x,i,m,n⟩,_,f⟩:=h
 have:=aX i 0
 have:=aX i 2
 have r:=ak (show∀g,cN x=M g->g<G (H a)fromλg c=>f g<|n▸c)
 clear i n f
 cases V with
 |true=>
  go_in
  go_wp2;go_ret2
  exact⟨_,z,ct _ _ _ _,Below.refl _ _⟩
 |false=>
  obtain rfl|⟨C,l,s,rfl⟩:=m.fR;all_goals
   go_in
   go_wp2_with(first
    |(go_at_call 138;refine(EV k j c m r t).mono ?_;rintro w B⟨A,rfl,g,e⟩;have p:=ak g;have q:=ak e;clear g e))
   go_ret2
   exact⟨_,z,p,q⟩
def Lk(m:Option R){p:kV}(h:tX a b m p V d):cR bN 45 #[aJ b] a λo n=>
 o=.returned (.int .i64<|if V then 6 else 0)/\tX n b m p cz d/\a.grownBy n (M b):=by
 let⟨⟨v,f,j,g⟩,c,e⟩:=h
 have:=aX f 2
 have:=cV (i:=2) f
 cases V with
 |true=>
  have k:=ak<|tX.mk ⟨v,f,j,g⟩ c e;clear f j g c e;go_in
  go_wp2;go_ret;exact⟨z,k,vF _ _⟩
 |false=>
  have l:=eG a b 2<|.bool cz;have k:=ak<|show tX (cP a (X b 2)<|.bool cz) b m p cz d from⟨⟨v,by rw[aY f];rfl,Row.dF j l<|J<|g▸c,g⟩,c,λn o=>au (e n o) l.size⟩;clear f j g c e;go_in
  go_wp2;go_ret;exact⟨z,k,l⟩
structure I(S:fB)(w w':Z):Prop where
 os:w'.os=w.os
 l:w'.tape=w.tape
 f:w'.output=w.output
 D:G (H w)<=G (H w')
 A:∀k,k<G (H w)->¬S k->w'.heap[k]?=w.heap[k]?
theorem I.bI(S:fB)(w:Z):I S w w:=⟨rfl,rfl,rfl,aq _,λ_ _ _=>rfl⟩
def I.aj{S T:fB}{c b e:Z}(h:I S c b)(k:I T b e)(g:∀x,T x->S x\/G (H c)<=x):I S c e:=⟨k.os.trans h.os,k.l.trans h.l,k.f.trans h.f,aR h.D k.D,λi a d=>(k.A i (au a h.D) (λj=>by
 grind)).trans (h.A i a d)⟩
def I.t{S:fB}{a b c:Z}(h:I S a b)(k:I aC b c):I S a c:=h.aj k cY
def I.aT{S T:fB}{a b:Z}(h:I S a b)(d:∀x,S x->T x\/G (H a)<=x):I T a b:=⟨h.os,h.l,h.f,h.D,λi c e=>h.A i c (λg=>by
 grind)⟩
def I.eF{S:fB}{b:Option R}(h:a.grownBy e b)(g:∀k,b=M k->S k\/G (H a)<=k):I S a e:=⟨h.os,h.tape,h.output,h.size,λi c d=>h.block i c (λj=>by
 grind)⟩
theorem I.p{S:fB}(h:gC (G<|H a) a e):I S a e:=⟨h.os,h.tape,h.output,h.size,λi b _=>h.block i b⟩
def I.dD{B:R}(h:I W a e)(b:B<=G (H a))(c:∀k,W k->B<=k):gC B a e:=⟨h.os,h.l,h.f,h.D,λk d=>h.A k U aI⟩
def I.u{a b:Z}(h:I W a b){k i:R}(c:bA a (X k i)=M d)(g:¬W k)(e:k<G (H a)):bA b (X k i)=M d:=(dZ (w:=a)<|h.A k e g).trans c
def I.aE{S:fB}(h:I S a e)(o:Obj):I S a (e.alloc o):=h.aj (I.eF (S:=aC) (eR e o dE) ar) ar
def gH(h:a.grownBy e (M b)):I (λk=>k=b) a e:=I.eF h aI
def I.aL(h:I W a e)(k i:R)(u:ae)(b:W k\/G (H a)<=k):I W a (e.setCell (X k i) u):=h.aj (I.eF (S:=λx=>x=k) (eG e k i u) aI) aI
theorem cI(S:fB)(w:Z){o:Obj}:I S w (dw w o):=(I.bI S w).aE o
def iP(b:R)(w:Z){i:R}{u:ae}:I (λk=>k=b) w (cP w (X b i) u):=(I.bI _ w).aL b i u<|J rfl
def I.aZ{u b:Z}(h:I W u b){x:R}(s:u.ownsRow c k n d x Q)(r:∀v,cN d=M v->¬W v):b.ownsRow c k n d x Q:=by
 let⟨m,o⟩:=s;refine⟨m,?_⟩;obtain⟨rfl,A⟩|⟨j,a,e,rfl,p,g,t⟩:=o;grind
 exact bj ⟨j,a,e,z,p,(h.A j (az g)<|r j z).trans g,t⟩
def I.bV(h:I W a e)(p:Row a b d c Q)(k:∀q,cN d=M q->¬W q/\q<G (H a)):Row e b d c Q:=by
 let⟨m,n⟩:=p;refine⟨m,?_⟩;obtain⟨rfl,r⟩|⟨l,f,g,rfl,i,o⟩:=n;grind
 exact bj ⟨l,f,g,z,i,λj u m=>h.u (o j u m) (k l z).1 (k l z).2⟩
def aM{w:Z}{g:R}(h:fD w c k n d g Q):∃x i,d=.slice x g i:=by
 obtain⟨rfl,rfl⟩|⟨j,a,e,rfl,_⟩:=h.2;grind
 grind
def cG(h:Row a c d k Q):∃x g,d=.slice x k g:=by
 obtain⟨rfl,rfl⟩|⟨b,e,f,rfl,_⟩:=h.2;grind
 grind
theorem fZ{j:R}(h:fD a b c n d j Q){k:R}(f:cN d=M k):∃e,a.heap[k]?=M (.cells e c (0,0)):=by
 obtain⟨rfl,_⟩|⟨l,g,e,rfl,_,i,_⟩:=h.2;cases f;cases f;grind
theorem ud(h:fD a b c k d n Q){i:R}{e:Array ae}{t:R}{f:R×R}(j:a.heap[i]?=M (.cells e t f))(g:t≠c):cN d≠M i:=by
 grind[fZ]
def eh:(∀(l:iE)(i:R)(x:ae),l.toArray.setIfInBounds i x=(l.set i x).toArray)/\(∀(x c:ae)(l:iE),(x::l).set 0 c=c::l)/\∀(x c:ae)(l:iE)(n:R),(x::l).set (n+1) c=x::l.set n c:=ar
def fT:(∀(l:iE)(i:R)(h:i<l.toArray.size),l.toArray[i]=l[i]'(dV h))/\(∀(x:ae)(l:iE)(i:R)(h:i+1<y (x::l)),(x::l)[i+1]=l[i]'(dV h))/\∀(x:ae)(l:iE)(h:0<y (x::l)),(x::l)[0]=x:=ar
section
variable{P:Program}{a:Array Oper}{Q:Exit->Act->Z->Prop}{md:Region.Mode}{S:Z->Prop}
def mh(P:Program)(md:Region.Mode)(a:Array Oper)(Q:Exit->Act->Z->Prop)(S:Z->Prop)(m:R):R->Array eN->Act->Z->Prop
 |0,b,d,w=>Region.ready md a b=[]/\Q .normal d w
 |fuel+1,b,d,w=>
  (Region.ready md a b=[]->Q .normal d w)/\∀i∈Region.ready md a b,wpOp P a Q i (λe c=>(i≠m->S c)/\mh P md a Q S m fuel (b.setIfInBounds i cz) e c) d w
def qx{m:R}:∀(b:R)(c:Array eN)(i:Act)(w:Z),mh P md a Q S m b c i w->wpAny P md a Q b c i w
 |0,_,_,_,h=>h
 |b+1,_,_,_,h=>⟨h.1,λj f=>wX (λd g e=>qx b _ d g e.2)<|h.2 j f⟩
def Kw{l D:R}{h C:Oper}{N:ae}(x:a[l]?=M h)(V:a[D]?=M C)(L:∃g∈C.after,Region.binds md g=cz/\g.on=l)(B:∀(j:R)(T:Oper)cs b,a[j]?=M T->T.op≠ .select cs b)(E:∀O p w,Q (.panic O) (p.put h.dst N) w->Q (.panic O) p w):∀(d:R)(c:Array eN)(p:Act)(w:Z),(∀j m,a[j]?=M m->j≠l->c.getD j cz=bD->(∀g∈m.after,Region.binds md g=cz->g.on≠l)->h.apart a m=cz)->l∈Region.ready md a c->YieldsIf P a S h N p->S w->mh P md a Q S D d (c.setIfInBounds l cz) (p.put h.dst N) w->mh P md a Q S D (d+1) c p w:=by
 intro d;induction d with
 |zero=>
  intro c p w _ u o i u7;refine⟨aI,λj n=>?_⟩;by_cases e:j=l
  .subst e;exact o.wpOp x i ⟨λ_=>i,u7⟩
  .have:=uQ n e;rw[u7.1]at this;cases this
 |succ d W=>
  intro c p w f u o i u7;refine⟨aI,λj n=>?_⟩;by_cases e:j=l
  .subst e;exact o.wpOp x i ⟨λ_=>i,u7⟩
  .have q:=u7.2 j<|uQ n e;let⟨A,m,t,k⟩:=Aw.1 n;have:∀g∈m.after,Region.binds md g=cz->g.on≠l:=λg v s r=>by
    have q:=k g v s;have:=(Aw.1 u).1;rw[r]at q;grind
   have:=wpOp_putIf t aI aI aI E o q;have:∀v ok,a[v]?=M ok->v≠l->(c.setIfInBounds j cz).getD v cz=bD->(∀g∈ok.after,Region.binds md g=cz->g.on≠l)->h.apart a ok=cz:=λv ok K r d s=>by
    refine f v ok K r ?_ s;by_cases F:j=v
    .grind
    simp_all
   have:=uQ u<|FA e;have:j≠D:=λg=>by
    grind
   grind[wpOp_mono,Array.setIfInBounds_comm]
def mW{i s:R}{d j:Oper}{v:ae}{c:R}{b:Array eN}{e:Act}{w:Z}(g:a[i]?=M d)(n:a[s]?=M j)(o:(j.after.any λu=>Region.binds md u&&u.on==i)=cz)(q:Region.noSelect a=cz)(m:Region.free md a b i=cz)(p:(Region.ready md a b).contains i=cz)(k:∀t e w,Q (.panic t) (e.put d.dst v) w->Q (.panic t) e w)(r:YieldsIf P a S d v e)(l:S w)(h:mh P md a Q S s c (b.setIfInBounds i cz) (e.put d.dst v) w):mh P md a Q S s (c+1) b e w:=Kw g n (by
 grind) (Region.noSelect_spec q) k c b e w (Region.free_spec g m) (dV p) r l h
def aW(i:R){n:R}{o:Oper}{c:R}{b:Array eN}{g:Act}{w:Z}(h:∀K:Act->Z->Prop,(∀d w',(i≠n->S w')->mh P md a Q S n c (b.setIfInBounds i cz) d w'->K d w')->Oper.wp P o g w K Q)(k:a[i]?=M o:=by rfl)(j:o.guard=dE:=by rfl)(l:Region.ready md a b=[i]:=by kernel_rfl):mh P md a Q S n (c+1) b g w:=by
 refine⟨aI,λp e=>?_⟩;rw[l]at e;obtain rfl:p=i:=dV e;unfold wpOp;simp only[k];have m:Region.wanted o (yielded a g.tmps)=cz:=by simp[Region.wanted,j]
 rw[fV m];grind
def dG{m:R}{b:Array eN}{e:Act}{w:Z}(d:Region.ready md a b=[])(h:Q .normal e w):∀c,mh P md a Q S m c b e w
 |0=>⟨d,h⟩
 |_+1=>⟨λ_=>h,by rw[d];simp⟩
def cX(S:Z->Prop)(m:R){id:R}{c:Act}{w:Z}(b:P.follows .mixedOrders=cz)(h:mh P .any a Q S m a.size (Array.replicate a.size bD) c w.drew):(Code.region id a cz).wp P Q c w:=Bc b<|qx _ _ _ _ h
end
section
variable{P:Program}{a:Array Oper}{Q:Exit->Act->Z->Prop}{md:Region.Mode}{S:Z->Prop}
def qF(P:Program)(md:Region.Mode)(a:Array Oper)(Q:Exit->Act->Z->Prop)(S:Z->Prop)(_ c:R)(b:Array eN)(d:Act)(w:Z):Prop:=wpAnyH P md a Q S c b d w
def CE(md:Region.Mode)(a:Array Oper)(b:Array eN)(k:R):eN:=Region.noSelect a&&Region.free md a b k&&(Region.ready md a b).contains k
def Nf{k:R}{e:Oper}{v:ae}{d:R}{b:Array eN}{f:Act}{w:Z}(i:S w)(j:a[k]?=M e)(c:CE md a b k=cz)(g:∀m f w,Q (.panic m) (f.put e.dst v) w->Q (.panic m) f w)(l:YieldsIf P a S e v f)(h:qF P md a Q S (k+1) d (b.setIfInBounds k cz) (f.put e.dst v) w):qF P md a Q S k (d+1) b f w:=by
 unfold CE at c;simp only[nN]at c;exact wpAnyH_take j c.1.1 c.1.2 c.2 g l i h
def U0{k:R}{d:Oper}{v:ae}{c:R}{b:Array eN}{e:Act}{w:Z}(i:S w)(l:a[k]?=M d)(f:CE md a b k=cz)(g:∀n e w,Q (.panic n) (e.put d.dst v) w->Q (.panic n) e w)(j:Region.wanted d (yielded a e.tmps)=cz)(m:∀w,S w->(execOp e.eval d).run P w=.ok (.value v) w)(h:qF P md a Q S (k+1) c (b.setIfInBounds k cz) (e.put d.dst v) w):qF P md a Q S k (c+1) b e w:=Nf i l f g (J ⟨j,m⟩) h
def qh{k:R}{d:Oper}{v:ae}{c:R}{b:Array eN}{e:Act}{w:Z}(i:S w)(h:qF P md a Q S (k+1) c (b.setIfInBounds k cz) (e.put d.dst v) w)(l:a[k]?=M d:=by rfl)(f:CE md a b k=cz:=by kernel_rfl)(g:∀n e w,Q (.panic n) (e.put d.dst v) w->Q (.panic n) e w:=by exact wO)(j:Region.wanted d (yielded a e.tmps)=cz:=by kernel_rfl)(m:∀w,S w->(execOp e.eval d).run P w=.ok (.value v) w:=by intro o m9;(repeat obtain⟨_,m9⟩:=m9);go_simp;try rfl):qF P md a Q S k (c+1) b e w:=U0 i l f g j m h
def Br{k:R}{d:Oper}{c:R}{b:Array eN}{f:Act}{w:Z}(i:S w)(l:a[k]?=M d)(e:CE md a b k=cz)(g:∀m f w,Q (.panic m) (f.put d.dst jm) w->Q (.panic m) f w)(j:Region.wanted d (yielded a f.tmps)=bD)(h:qF P md a Q S (k+1) c (b.setIfInBounds k cz) (f.put d.dst jm) w):qF P md a Q S k (c+1) b f w:=Nf i l e g (bj ⟨j,z⟩) h
def Cm{i:R}{o:Oper}{c:R}{b:Array eN}{f:Act}{w:Z}(j:a[i]?=M o)(l:Region.wanted o (yielded a f.tmps)=cz)(k:Region.ready md a b=[i])(h:∀K:Act->Z->Prop,(∀e d,S d->qF P md a Q S (i+1) c (b.setIfInBounds i cz) e d->K e d)->Oper.wp P o f w K Q):qF P md a Q S i (c+1) b f w:=by
 refine wpAnyH_all k ar λm g=>?_;obtain rfl:m=i:=dV g;unfold wpOp;simp only[j];rw[fV l];exact J<|h (λe d=>S d/\wpAnyH P md a Q S c (b.setIfInBounds m cz) e d)<|λe d g j=>⟨g,j⟩
def zt{k:R}{b:Array eN}{e:Act}{w:Z}(d:Region.ready md a b=[])(h:Q .normal e w)(c:R):qF P md a Q S k c b e w:=wpAnyH_done d h c
def zp(S:Z->Prop){id:R}{c:Act}{w:Z}(b:P.follows .mixedOrders=cz)(h:qF P .any a Q S 0 a.size (Array.replicate a.size bD) c w.drew):(Code.region id a cz).wp P Q c w:=wp_region_held b h
end
def mI(n:Y)(w:Z):cR bN 34 #[ay n] w λe a=>e=aN (ay n)/\a=w:=by
 go_in
 go_wp2;go_ret;simp_all
def Ed(w:Z)(a b:R):(w.drewN a).drewN b=w.drewN (a+b):=sM
def UB{l m:kV}(a:b<y l)(c:b<y m)(h:l.take b=m.take b)(e:l[b]=m[b]):l.take (b+1)=m.take (b+1):=by
 rw[aG a,aG c,h,e]
def nh{l m:kV}(hx:mE a d l)(N:mE a w m)(hl:y l<=1000000000000)(hm:y m<=1000000000000):cR bN 60 #[d,w] a λac w'=>ac=aN (aO<|decide<|l=m)/\∃s,w'=a.drewN s:=by
 by_cases e:y l=y m;(.obtain⟨h1,⟨rfl,u⟩|⟨ab,b,A,rfl,al,hc⟩⟩:=hx;(.obtain rfl:l=[]:=bG u;obtain rfl:m=[]:=aI;have g:=N.fR;obtain rfl|⟨t,c,f,rfl⟩:=g;(all_goals(go_in);go_wp2;(go_loopw [5] (λO wr=>O=ay 0/\∃s,wr=a.drewN s) (λ_ _=>0));exact⟨z,0,z⟩;obtain⟨rfl,s,rfl⟩:=hrel;go_wp2;go_ret;exact⟨z,s,z⟩));obtain⟨ad,⟨rfl,u⟩|⟨t,c,f,rfl,aa,k⟩⟩:=N;(.obtain rfl:m=[]:=bG u;obtain rfl:l=[]:=aI;(go_in);go_wp2;(go_loopw [5] (λO wr=>O=ay 0/\∃s,wr=a.drewN s) (λ_ _=>0));exact⟨z,0,z⟩;obtain⟨rfl,s,rfl⟩:=hrel;go_wp2;go_ret;exact⟨z,s,z⟩);have V:=ak hc;(have o:((y l:Y)!=(y m:Y))=bD:=by simp[e]);(go_in);go_wp2;(go_loopw [5] (λO wr=>∃n:R,n<=y l/\O=ay n/\l.take n=m.take n/\∃s,wr=a.drewN s) (λO _=>y l-(intOf O).toNat));exact⟨0,bQ _,z,z,0,z⟩;obtain⟨n,hn,rfl,ht,kk,rfl⟩:=hrel;have W:=ak ht;by_cases p:n<y l;(.have g:n<y m:=bP e;have B:=pX l n p;have j:=pX m n g;have D:bA a (X ab<|b+n*2)=M (aw l[n].1):=V _ _ B.1;(have E:bA a (X ab<|b+n*2+1)=M (aw l[n].2):=by rw[bJ];exact V _ _ B.2);have F:bA a (X t<|c+n*2)=M (aw m[n].1):=k _ _ j.1;(have K:bA a (X t<|c+n*2+1)=M (aw m[n].2):=by rw[bJ];exact k _ _ j.2);clear B j;have r:l[n]≠m[n]->decide (l=m)=bD:=λh=>aI;have HY:=ak<|λac=>UB p g W ac;generalize l[n]=an at*;generalize m[n]=q at*;let⟨P,Q⟩:=an;let⟨S,T⟩:=q;simp only at D E F K;by_cases v:P=S;(·(have C:(!P.toList==S.toList)=bD:=by rw[v];simp);by_cases x:Q=T;(·(have L:(Q.toList==T.toList)=cz:=by rw[x];simp);have i:=ak (HY<|by rw[v,x]);clear v x;go_wp21;(go_quiet(fail));go_wp2;go_roundw;exact⟨n+1,U,dM,i,aI⟩;simp[intOf];omega);have L:(Q.toList==T.toList)=bD:=BH x;have i:=ak<|r aI;go_wp21;(go_quiet(fail));go_wp2;go_ret;exact⟨by rw[ag i];rfl,by first|exact⟨_,z⟩|exact⟨_,Ed _ _ _⟩⟩);(have C:(!P.toList==S.toList)=cz:=by rw[BH v];rfl);have i:=ak<|r aI;go_wp21;(go_quiet(fail));go_wp2;go_ret;exact⟨by rw[ag i];rfl,by first|exact⟨_,z⟩|exact⟨_,Ed _ _ _⟩⟩);have i:=ak (show decide (l=m)=cz by have h1:l.take n=l:=fA U;have g:m.take n=m:=fA<|bP e;have:=ag W;rw[h1,g]at this;grind);go_wp2;go_ret;exact⟨by rw[ag i];rfl,aI⟩);have i:decide (l=m)=bD:=aI;rw[i];obtain⟨_,⟨rfl,u⟩|⟨ab,b,A,rfl,_,_⟩⟩:=hx<;>obtain⟨_,⟨rfl,g⟩|⟨t,c,f,rfl,_,_⟩⟩:=N;omega;(·(have o:((0:Y)!=(y m:Y))=cz:=by rw[Bo];omega);(go_in);go_wp2;go_ret;exact⟨z,0,z⟩);(·(have o:((y l:Y)!=(0:Y))=cz:=by rw[Bo];omega);(go_in);go_wp2;go_ret;exact⟨z,0,z⟩);(have:((y l:Y)!=(y m:Y))=cz:=by rw[Bo];omega);(go_in);go_wp2;go_ret;exact⟨z,0,z⟩
def Jy(a k:Y)(b:0<k)(c:k<=100):0<=wrap64 ((IntKind.u64.wrap a).tmod k)/\wrap64 ((IntKind.u64.wrap a).tmod k)<k:=by
 rw[dY,ve<|yW _ cg];have:=yW (a%18446744073709551616) (show k≠0 by omega);have:=Int.emod_lt_of_pos (a%18446744073709551616) b;generalize a%18446744073709551616%k=x at*;have e:wrap64 x=x:=by unfold wrap64;omega
 rw[e];grind
def Cs{P:Program}{i:Array Oper}{r:Oper}{t:Act}{aa:Act->Z->Prop}{an:Exit->Act->Z->Prop}{E:Prop}(O:r.guard=dE)(ad al:Operand)(A:TypeId)(o:r.op=Op.call {callee:=Callee.builtin Builtin.append,args:=#[ad,al],argTypes:=#[A,A]})(l:R)(v:TypeId)(w:TypeInfo)(m9:ae)(b bytes:R)(W:P.underlying A=M (.slice v))(Q:P.info? v=M w)(hz:w.zero=M m9)(g:w.size=b)(n:w.bytes=bytes)(q:m9.cells.size=b)(p:0<b)(C:ae)(x:R)(s:iE)(V:t.eval ad=C)(h:fD a l v b C x s)(m:Addr)(u ab:R)(c:iE)(hx:t.eval al=am (M m) u ab)(S:y c=u*b)(f:∀ac B,c[ac]?=M B->bA a (m.add ac)=M B)(D:∀B∈c,B.oneCell'=cz)(hn:x+u<=140737488355328)(d:(x+u)*bytes<=140737488355328)(e:l<=G (H a))(N:∀j k,fD k l v b j (x+u) (s++c)->fm a k C j->aa (t.put r.dst j) k):if Region.wanted r (yielded i t.tmps)=cz then Oper.wp P r t a aa an else E:=by
 have hw:Region.wanted r (yielded i t.tmps)=cz:=by simp[Region.wanted,O]
 rw[fV hw];let⟨j,k,T,F,K,_,L⟩:=oW (P:=P) a l A r.type v w m9 b bytes W Q hz g n q p C x s h m u ab c S f D (by unfold maxLen;omega) d e;unfold Oper.wp;simp[execOp,o,resolve,invoke,builtin,V,hx,T,Result.andThen];exact N j k F<|fm.of K L
def SD:(prog.info? 201).map (λi=>(i.zero,i.size,i.bytes))=M (M<|ef #[aw ⟨#[]⟩,aw ⟨#[]⟩,aO bD],3,40):=aH
def MS(w:Z)(a:R)(o:ae)(l:vW):Prop:=fD w a 201 3 o (y l)<|gL l
def Tl(w:Z)(x a m9:ae)(t:TypeId):∀j u,[x,a,m9][j]?=M u->bA (dw w<|aK #[x,a,m9] t) (((X (G<|H w) 0):Addr).add j)=M u:=by
 intro j u b;rw[dS];simp_all
def Nk(l:vW)(v a j:R)(w:Z)(P:y l<=1000000000000)(k:v<G (H w))(m:∀K L,(gL l)[K]?=M L->bA w (X v<|a+K)=M L):cR bN 38 #[bX v a (y l) j] w λO A=>∃x,O=aN x/\MS A (G<|H w) x l/\gC (G<|H w) w A:=by
 let⟨F,p,s,t,u⟩:=cZ SD;go_in
 go_wp2;go_loopw [3,4] (λo i wr=>∃n:R,n<=y l/\i=ay n/\MS wr (G<|H w) o (l.take n)/\gC (G<|H w) w wr) (λ_ i _=>y l-(intOf i).toNat)
 exact⟨0,bQ _,z,ct _ _ _ _,Below.refl _ _⟩;(.obtain⟨n,D,rfl,d,b⟩:=hrel;have r:G (H w)<=G (H wr):=b.size;by_cases f:n<y l;(.have o:=nk l n f;have:bA wr (X v<|a+n*3)=M (aw l[n].D):=(b.cell<|by exact k).trans<|m _ _ o.1;have:bA wr (X v<|a+n*3+1)=M (aw l[n].l):=(b.cell<|by exact k).trans (by rw[bJ];exact m _ _ o.2.1);have E:bA wr (X v<|a+n*3+2)=M (aO l[n].dP):=(b.cell<|by exact k).trans (by rw[bJ];exact m _ _ o.2.2);(have c:fD wr (G<|H w) 201 3 u3 n (gL<|l.take n):=by have C:fD wr (G<|H w) 201 3 u3 (y<|l.take n) (gL<|l.take n):=d;rwa[dX,yT D]at C);let⟨T,N,q⟩:=aM c;subst q;have B:=ak (show gL (l.take<|n+1)=gL (l.take n)++[aw l[n].D,aw l[n].l,aO l[n].dP]by unfold gL;rw[aG f,gR];simp[oH]);go_wp2;(go_region_law (refine Cs z (.tmp 11) (.tmp 28) 123 z (G<|H w) 201 F (ef #[aw ⟨#[]⟩,aw ⟨#[]⟩,aO bD]) 3 40 underlying123 p s t u z cg (am T n N) n (gL<|l.take n) (by simp[Act.eval]) (kr (bC c<|aK #[aw l[n].D,aw l[n].l,aO l[n].dP] 201) rfl) (X (G<|H wr) 0) 1 1 [aw l[n].D,aw l[n].l,aO l[n].dP] (by simp[Act.eval]) rfl (Tl _ _ _ _ _) (by simp[Value.oneCell']) U U dW ?_;intro Q S e g;obtain⟨V,c2,rfl⟩:=aM e;have i:=ak g));go_wp2;(all_goals go_roundw;exact⟨n+1,U,dM,by unfold MS;rwa[dX,yT U,ag B],lH b r i (aK #[aw l[n].D,aw l[n].l,aO l[n].dP] 201) z<|λd a=>(aS c d a).1⟩;simp[intOf];omega));have c:n=y l:=U;subst c;rw[cQ]at d;go_wp2;go_ret;exact⟨_,z,d,b⟩)
theorem QT(w:Z):cR bN 38 #[aF] w λe b=>∃a,e=aN a/\MS b (G<|H w) a []/\gC (G<|H w) w b:=by
 go_in
 go_wp2;go_loopw [3,4] (λo i wr=>i=ay 0/\o=aF/\wr=w) (λ_ _ _=>0)
 grind
 obtain⟨rfl,rfl,rfl⟩:=hrel;go_wp2;go_ret;exact⟨_,z,ct _ _ _ _,Below.refl _ _⟩
def ye(l:vW)(v:ae)(w:Z)(g:y l<=1000000000000)(h:Ce w v l)(e:∀k,cN v=M k->k<G (H w)):cR bN 38 #[v] w λj d=>∃c,j=aN c/\MS d (G<|H w) c l/\gC (G<|H w) w d:=by
 obtain⟨_,⟨rfl,m⟩|⟨i,a,b,rfl,_,f⟩⟩:=h;grind[eq_nil_of_length_eq_zero,QT]
 exact Nk l i a b w g (e i z) f
section
variable{P:Program}{a:Array Oper}{Q:Exit->Act->Z->Prop}{md:Region.Mode}{S:Z->Prop}
def Lx(md:Region.Mode)(a:Array Oper)(b:Array eN)(m i:R):eN:=match a[m]? with
 |some c=>(c.after.any λe=>Region.binds md e&&e.on==i)&&Region.noSelect a&&Region.free md a b i&&(Region.ready md a b).contains i
 |none=>bD
def zv(P:Program)(md:Region.Mode)(a:Array Oper)(Q:Exit->Act->Z->Prop)(S:Z->Prop)(m _ c:R)(b:Array eN)(d:Act)(w:Z):Prop:=mh P md a Q S m c b d w
def dH(k:R){m c:R}{b:Array eN}{d:Act}{w:Z}(h:zv P md a Q S m k c b d w):mh P md a Q S m c b d w:=h
def eS{k m c:R}{b:Array eN}{d:Act}{w:Z}(h:mh P md a Q S m c b d w):zv P md a Q S m k c b d w:=h
def zq{k o:R}{e:Oper}{v:ae}{d:R}{b:Array eN}{g:Act}{w:Z}(j:S w)(l:a[k]?=M e)(c:Lx md a b o k=cz)(i:∀p g w,Q (.panic p) (g.put e.dst v) w->Q (.panic p) g w)(n:YieldsIf P a S e v g)(h:zv P md a Q S o (k+1) d (b.setIfInBounds k cz) (g.put e.dst v) w):zv P md a Q S o k (d+1) b g w:=by
 unfold Lx at c;split at c;rename_i q m;simp only[nN]at c;exact mW l m c.1.1.1 c.1.1.2 c.1.2 c.2 i n j h;cases c
def vf{k n:R}{d:Oper}{v:ae}{c:R}{b:Array eN}{e:Act}{w:Z}(i:S w)(l:a[k]?=M d)(f:Lx md a b n k=cz)(g:∀o e w,Q (.panic o) (e.put d.dst v) w->Q (.panic o) e w)(j:Region.wanted d (yielded a e.tmps)=cz)(m:∀w,S w->(execOp e.eval d).run P w=.ok (.value v) w)(h:zv P md a Q S n (k+1) c (b.setIfInBounds k cz) (e.put d.dst v) w):zv P md a Q S n k (c+1) b e w:=zq i l f g (J ⟨j,m⟩) h
def fW{k n:R}{d:Oper}{v:ae}{c:R}{b:Array eN}{e:Act}{w:Z}(i:S w)(h:zv P md a Q S n (k+1) c (b.setIfInBounds k cz) (e.put d.dst v) w)(l:a[k]?=M d:=by rfl)(f:Lx md a b n k=cz:=by kernel_rfl)(g:∀o e w,Q (.panic o) (e.put d.dst v) w->Q (.panic o) e w:=by exact wO)(j:Region.wanted d (yielded a e.tmps)=cz:=by rfl)(m:∀w,S w->(execOp e.eval d).run P w=.ok (.value v) w:=by intro p m9;(repeat obtain⟨_,m9⟩:=m9);go_simp;try rfl):zv P md a Q S n k (c+1) b e w:=vf i l f g j m h
end
section
variable{P:Program}{a:Array Oper}{Q:Exit->Act->Z->Prop}{md:Region.Mode}{S:Z->Prop}
def vi{i j m:R}{f g:Oper}{c:R}{b:Array eN}{k:Act}{w:Z}(o:a[i]?=M f)(p:a[j]?=M g)(l:f.guard=dE)(n:g.guard=dE)(q:Region.ready md a b=[i,j])(r:∀K:Act->Z->Prop,(∀d w',(i≠m->S w')->mh P md a Q S m c (b.setIfInBounds i cz) d w'->K d w')->Oper.wp P f k w K Q)(s:∀K:Act->Z->Prop,(∀d w',(j≠m->S w')->mh P md a Q S m c (b.setIfInBounds j cz) d w'->K d w')->Oper.wp P g k w K Q):mh P md a Q S m (c+1) b k w:=by
 refine⟨aI,λt e=>?_⟩;rw[q]at e;obtain rfl|e:=dy.1 e;unfold wpOp;simp only[o];(have h:Region.wanted f (yielded a k.tmps)=cz:=by simp[Region.wanted,l]);rw[fV h];grind
 obtain rfl:t=j:=dV e;unfold wpOp;simp only[p];(have h:Region.wanted g (yielded a k.tmps)=cz:=by simp[Region.wanted,n]);rw[fV h];grind
def wl{α:Type}(h:α->Z->Prop)(A:α->Act)(b:Array eN)(d:R){m e:R}{c:Array eN}{i:Act}{w:Z}(f:(∀x W,h x W->mh P md a Q S m d b (A x) W)->mh P md a Q S m e c i w)(g:∀x W,h x W->mh P md a Q S m d b (A x) W):mh P md a Q S m e c i w:=f g
def lB{m b:R}{l c:Array eN}{d:Act}{w:Z}(h:mh P md a Q S m b l d w)(e:l=c):mh P md a Q S m b c d w:=e▸h
end
section
variable{P:Program}{a:Array Oper}{Q:Exit->Act->Z->Prop}{md:Region.Mode}
def NK{l n:R}{c:String}{b:Array ae}{w:Z}{m8:ae->Z->Prop}(h:Rows P c b w m8):RowsIn (Fence.wide.inRound l) n P c b w m8:=λf d _=>let⟨v,e,r,s⟩:=h f d;⟨v,e,r,stepsIn_wide.2 s⟩
theorem Oper.QN{o:Oper}{b:Act}{w:Z}{K:Act->Z->Prop}(l n:R)(d:∀c,o.op≠ .defer c)(h:o.wp P b w K Q):o.wpIn (Fence.wide.inRound l) n P b w K Q:=by
 unfold Oper.wpIn;refine⟨λf _=>trivial,?_⟩;rw[Oper.semAt_plain (Fence.wide.inRound l) _ _ d];unfold Oper.wp at h;generalize(execOp b.eval o).run P w=r at*;cases r with
 |ok x e=>
  cases x<;>simp only[Oper.upon,Oper.uponIn]at h|-<;>first
   |exact h
   |exact⟨(λc=>(by cases c)),CallsIn.inRound l<|ew.2 h⟩
   |exact⟨(λc=>(by cases c)),NK h⟩
   |exact h.elim
 |halt x e=>cases x<;>simp only[Oper.upon,Oper.uponIn]at h|-<;>exact h
def Bt{l n:R}(k:∀(i:R)(o:Oper)c,a[i]?=M o->o.op≠ .defer c)(j:¬LetsOut Q):∀(b:R)(d:Array eN)(p:Act)(w:Z),wpAny P md a Q b d p w->wpAnyIn (Fence.wide.inRound l) n P md a Q b d p w
 |0,_,_,_,h=>h
 |b+1,_,_,_,h=>⟨h.1,λi m=>by
  have e:=wX (λf o g=>Bt (l:=l) (n:=n) k j b _ f o g)<|h.2 i m;unfold wpOp at e;unfold wpOpIn;cases ho:a[i]? with
  |none=>grind
  |some o=>
   simp only[ho]at e|-;split
   .rename_i f;simp only[f,mS]at e;grind[Oper.QN]
   .rename_i f;simp only[f]at e;exact⟨λ_ _=>trivial,e⟩⟩
def FE(a:Array Oper):eN:=a.all λo=>match o.op with| .defer _=>bD|_=>cz
def yu(h:FE a=cz):∀(i:R)(o:Oper)d,a[i]?=M o->o.op≠ .defer d:=by
 intro i o d c e;obtain⟨b,rfl⟩:=pC.1 c;have:=Array.all_eq_true.1 h i b;rw[e]at this;cases this
def wk(S:Z->Prop)(m:R){l n id:R}{b:Act}{w:Z}(e:P.follows .mixedOrders=cz)(d:FE a=cz)(c:∀b w,¬Q .outgrown b w)(h:mh P .any a Q S m a.size (Array.replicate a.size bD) b w.drew):(Code.region id a cz).wpIn (Fence.wide.inRound l) n P Q b w:=wpIn_region_any e<|Bt (yu d) (λ⟨b,w,h⟩=>c b w h) _ _ _ _<|qx _ _ _ _ h
end
def Du{P:Program}{r n id:R}{Q:Exit->Act->Z->Prop}{c:Act}{l:cy Oper}(i:P.follows .mixedOrders=cz)(e:Region.lexB .any l.toArray=cz)(g:FE l.toArray=cz)(f:∀c a,¬Q .outgrown c a)(h:wpQuiet P l.toArray (λb=>∃n,b=a.drewN n) (λd=>∀b,(∃n,b=a.drewN n)->Q .normal d b) l c):(Code.region id l.toArray cz).wpIn (Fence.wide.inRound r) n P Q c a:=by
 simp only[Region.lexB,nN]at e;refine wpIn_region_any i<|Bt (yu g) (λ⟨c,a,h⟩=>f c a h) _ _ _ _<|wpAny_of_quiet (C:=λb=>∃n,b=a.drewN n) (Q:=λd=>∀b,(∃n,b=a.drewN n)->Q .normal d b) aI _ _ _ _ ⟨1,z⟩ ?_;have:=wpAnyQ_lex (C:=λb=>∃n,b=a.drewN n) (md:=.any) e.1 l 0 (Array.replicate l.toArray.size bD) c ar aI h;grind
section
open Extern.Stop Stop Extern
theorem ow(w:Z):cR bN 11 #[ib] w λe a=>e=aN (ay 0)/\gC (G<|H w) w a:=by
 go_in
 go_wp2;go_ret;exact⟨z,(Below.refl _ w).alloc (aq _) _⟩
def EE(t:Addr)(w:Z):(ReflectliteValue.unpack<|.iface 113<|ee<|M t).run bN w=.ok (ef #[ee<|M<|X (7) 113,aJ<|G<|H w,bw 150]) (dw w<|aK #[ee<|M t] 113):=aH
def NO(a:Addr)(w:Z):(ReflectliteValue.methodAny (ReflectliteValue.valueError "reflectlite.Value.Type" 0) (λt _ _ _=>ReflectliteType.toType t) #[ef #[ee<|M<|X (7) 113,ee<|M a,bw 150]]).run bN w=.ok (.iface 256<|ef #[ee<|M<|X (7) 113]) w:=aH
def wI(h:ae)(w:Z):(Go.method 577 256 (ef #[h]) "Kind").run bN w=.ok (326,h) w:=aH
def NR(w:Z):((ReflectliteType.abiMethod λt=>(λa:R=>Value.int IntKind.u8 (a:Y))<$>Rtype.kind t) #[ee<|M<|X (7) 113]).run bN w=.ok (sA 22) w:=aH
def NS(w:Z):((ReflectliteType.abiMethod λt=>(λa:R=>Value.int IntKind.u8 (a:Y))<$>Rtype.kind t) #[ee<|M<|X (7) 47]).run bN w=.ok (sA 2) w:=aH
def rlm(m9:Sem ae)(f:TypeId->Addr->R->R->Sem ae)(v:ae):ReflectliteValue.method m9 f #[v]=(do match<-ReflectliteValue.parts v with|none=>m9|some (t,b,a)=>f t b a<|a%32):=rfl
def Jr(a:Addr)(w:Z):(ReflectliteValue.parts<|ef #[ee<|M<|X (7) 113,ee<|M a,bw 150]).run bN w=.ok (M (113,a,150)) w:=aH
def Js(b p:Addr)(W:Z)(a:bA W b=M (ee<|M p)):(ReflectliteValue.method (ReflectliteValue.valueError "reflectlite.Value.IsNil" 0) ReflectliteValue.isNil #[ef #[ee<|M<|X (7) 113,ee<|M b,bw 150]]).run bN W=.ok (aO bD) W:=by
 rw[rlm];simp only[jx,Jr,Result.andThen];simp[ReflectliteValue.isNil,loadVar,isAgg,underlying,underlying113,a,Result.andThen]
def wJ(h:ae)(w:Z):(Go.method 577 256 (ef #[h]) "Elem").run bN w=.ok (356,ef #[h]) w:=aH
def ql(h:ae)(w:Z):(Go.method 577 256 (ef #[h]) "Implements").run bN w=.ok (357,ef #[h]) w:=aH
def oU(h:ae)(w:Z):(Go.method 577 256 (ef #[h]) "AssignableTo").run bN w=.ok (354,ef #[h]) w:=aH
def NU(w:Z):(ReflectliteType.method ReflectliteType.elem #[ef #[ee<|M<|X (7) 113]]).run bN w=.ok (.iface 256<|ef #[ee<|M<|X (7) 47]) w:=aH
def zF(w:Z):(ReflectliteType.relation "Implements" ReflectliteType.implements_ #[ef #[ee<|M<|X (7) 47],.iface 256<|ef #[ee<|M<|X (7) 44]]).run bN w=.ok (aO cz) w:=aH
def yl(v:ae)(w:Z):(ReflectliteType.typeOf #[.iface 47 v]).run bN w=.ok (.iface 256<|ef #[ee<|M<|X (7) 47]) w:=aH
def zG(w:Z):(ReflectliteType.relation "AssignableTo" ReflectliteType.assignableTo #[ef #[ee<|M<|X (7) 47],.iface 256<|ef #[ee<|M<|X (7) 47]]).run bN w=.ok (aO cz) w:=aH
def EF(n:Y)(w:Z):(ReflectliteValue.unpack<|.iface 47<|ay n).run bN w=.ok (ef #[ee<|M<|X (7) 47,aJ<|G<|H w,bw 130]) (dw w<|aK #[ay n] 47):=aH
def RF(w:Z):(Rtype.elem? 113).run bN w=.ok (M 47) w:=aH
def X0(p:Addr)(w:Z):(ReflectliteValue.mk 47 p ReflectliteValue.flagAddr).run bN w=.ok (ef #[ee<|M<|X (7) 47,ee<|M p,bw 386]) w:=aH
def Jt(b p:Addr)(W:Z)(a:bA W b=M (ee<|M p)):(ReflectliteValue.method (ReflectliteValue.valueError "reflectlite.Value.Elem" 0) ReflectliteValue.elem #[ef #[ee<|M<|X (7) 113,ee<|M b,bw 150]]).run bN W=.ok (ef #[ee<|M<|X (7) 47,ee<|M p,bw 386]) W:=by
 rw[rlm];simp only[jx,Jr,Result.andThen];simp[ReflectliteValue.elem,loadVar,isAgg,underlying,underlying113,a,Result.andThen,RF,X0]
def rls(v x:ae):ReflectliteValue.set #[v,x]=(do
 let(M (dst,a,fl),M (src,b,_)):=(<-ReflectliteValue.parts v,<-ReflectliteValue.parts x)
  |unsupported (.noEntry "extern/(internal/reflectlite.Value).Set.zeroValue")
 if fl/ReflectliteValue.flagAddr%2==0 then unsupported (.noEntry "extern/(internal/reflectlite.Value).Set.unaddressable")
 let c<-loadVar src b;if<-Rtype.directlyAssignable dst src then storeVar dst a c
 else if<-Rtype.implements dst src then
  if(<-Rtype.kind src)==20 then
   match c with
   | .nilIface=>unsupported<|.noEntry "extern/reflectlite: a nil value of one interface type handed on as a value of another"
   |_=>storeVar dst a c
  else storeVar dst a (.iface src c)
 else panicString ("reflectlite.Set: value of type " ++(<-Rtype.spelt src)++ " is not assignable to type " ++(<-Rtype.spelt dst))
 pure (de #[])):=rfl
def RA(a:Addr)(w:Z):(ReflectliteValue.parts<|ef #[ee<|M<|X (7) 47,ee<|M a,bw 386]).run bN w=.ok (M (47,a,386)) w:=aH
def Vf(a:Addr)(w:Z):(ReflectliteValue.parts<|ef #[ee<|M<|X (7) 47,ee<|M a,bw 130]).run bN w=.ok (M (47,a,130)) w:=aH
def RG(w:Z):(Rtype.directlyAssignable 47 47).run bN w=.ok cz w:=aH
def TM(a e:Addr)(n:Y)(qN:ae)(W:Z)(b:bA W e=M (ay n))(d:bA W a=M qN)(c:iH W a=bD):(ReflectliteValue.set #[ef #[ee<|M<|X (7) 47,ee<|M a,bw 386],ef #[ee<|M<|X (7) 47,ee<|M e,bw 130]]).run bN W=.ok (de #[]) (cP W a<|ay n):=by
 rw[rls];simp only[jx,RA,Vf,Result.andThen];simp[ReflectliteValue.flagAddr,loadVar,isAgg,underlying,underlying47,b,Result.andThen,RG,storeVar,Value.cells,storeCells,Addr.add];rw[Dr bN W a _ _<|by rfl];simp[d,c]
def jO(w:Z):Prop:=bA w (X 0 0)=M (.iface 256<|ef #[ee<|M<|X (7) 44])
def rx6:=@fF bN 79 _ (λa=>ReflectliteValue.unpack<|a.getD 0<|de #[]) func79 aH aH aH aH
def rx7:=@fF bN 80 _ (ReflectliteValue.methodAny (ReflectliteValue.valueError "reflectlite.Value.Type" 0)<|λt _ _ _=>ReflectliteType.toType t) func80 aH aH aH aH
def rx8:=@fF bN 81 _ (ReflectliteValue.method (ReflectliteValue.valueError "reflectlite.Value.IsNil" 0) ReflectliteValue.isNil) func81 aH aH aH aH
def V4:=@fF bN 326 _ (ReflectliteType.abiMethod λt=>do pure (sA<|<-Rtype.kind t)) func326 aH aH aH aH
def V2:=@fF bN 356 _ (ReflectliteType.method ReflectliteType.elem) func356 aH aH aH aH
def V1:=@fF bN 357 _ (ReflectliteType.relation "Implements" ReflectliteType.implements_) func357 aH aH aH aH
def V7:=@fF bN 122 _ ReflectliteType.typeOf func122 aH aH aH aH
def V3:=@fF bN 354 _ (ReflectliteType.relation "AssignableTo" ReflectliteType.assignableTo) func354 aH aH aH aH
def V6:=@fF bN 134 _ (ReflectliteValue.method (ReflectliteValue.valueError "reflectlite.Value.Elem" 0) ReflectliteValue.elem) func134 aH aH aH aH
def V5:=@fF bN 135 _ ReflectliteValue.set func135 aH aH aH aH
abbrev asV(T:TypeId)(w:Z):Obj:=aK #[ee<|M<|X (7) T,aJ<|G<|H w,bw 150] 182
abbrev asA(T:TypeId)(t:Addr)(w:Z):Z:=dw (dw w<|aK #[ee<|M t] T)<|asV T w
abbrev A6(T:TypeId)(t:Addr)(w:Z):Z:=(asA T t w).alloc<|asV T w
def Cb(T:TypeId)(t:Addr)(o:Obj){p:Addr}(h:p.block<G (H a)):bA (asA T t a) p=bA a p/\bA (A6 T t a) p=bA a p/\bA ((A6 T t a).alloc o) p=bA a p/\iH ((A6 T t a).alloc o) p=iH a p:=by
 refine⟨?_,?_,?_,?_⟩<;>simp(disch:=((try simp)<;>omega))only[eZ,World.frozen?_alloc_old]
def Tn(T:TypeId)(t:Addr):bA (A6 T t a) (X (G<|H a) 0)=M (ee<|M t):=by
 rw[eZ _ _ (X (G<|H a) 0) dW];simp
def zak(n:Y)(t:Addr)(qN:ae)(d:jO a)(b:bA a t=M qN)(c:iH a t=bD):cR bN 32 #[.iface 47<|ay n,.iface 113<|ee<|M t] a λf g=>f=aN (aO cz)/\g=((A6 113 t a).alloc<|aK #[ay n] 47).setCell t (ay n):=by
 unfold jO at d;have:=rx6;have:=rx7;have:=rx8;have:=V4;have:=V2;have:=V1;have:=V7;have:=V3;have:=V6;have:=V5;have:=yl;have:=oU;have:=zG;have:=EF;have:=EE;have:=NO;have:=wI;have:=wJ;have:=ql;have:=NR;have:=NS;have:=NU;have:=zF;have:=Js (X (G<|H a) 0) t (asA 113 t a) ar;have:=(Cb 113 t (aK #[] 0)<|cA _ _ d).1.trans d;have:=Jt (X (G<|H a) 0) t _<|Tn 113 t;have e:=Cb 113 t (aK #[ay n] 47)<|cA _ _ b;have:=TM t (X (G (H a)+1+1+1) 0) n qN ((A6 113 t a).alloc<|aK #[ay n] 47) (by rw[tE _ _ _ _ ar];rfl) (e.2.2.1.trans b)<|e.2.2.2.trans c;go_in
 go_wp2;apply iW 1;rw[im];go_wp2;go_ret;simp_all
end
def jO.aE{w:Z}(h:jO w)(o:Obj):jO (dw w o):=by
 unfold jO at*;rwa[eZ _ _ _<|cA _ _ h]
theorem QU(n:Y)(i:jO a):cR bN 11 #[.iface 47<|ay n] a λk j=>k=aN (ay n)/\gC (G<|H a) a j:=by
 have e:bA (dw a<|aK #[ay 0] 47) (X (G<|H a) 0)=M (ay 0):=ar;have d:iH (dw a<|aK #[ay 0] 47) (X (G<|H a) 0)=bD:=ar;have g:=zak n (X (G<|H a) 0) (ay 0) (i.aE _) e d;clear e d;go_in
 go_wp2_with(go_at_call 32;refine g.mono ?_;rintro k f⟨rfl,b⟩;have c:gC (G<|H a) a f:=(b▸((((((Below.refl _ a).alloc (aq _) _).alloc ar _).alloc dW _).alloc dW _).alloc dW _).setCell (p:=(X (G<|H a) 0)) (aq _) _);have:bA f (X (G<|H a) 0)=M (ay n):=(b▸pY _ _ _ (by rw[eZ _ _ _ dW,eZ _ _ _ dW,eZ _ _ _ dW,eZ _ _ _ ar];simp));have HB:=ak c;clear b c)
 go_ret;exact⟨z,HB⟩
section
open Extern.Stop Stop Extern
def AT(a:TypeId)(v:ae)(w:Z):(binOp .eql 44 (.iface a v) ib).run bN w=.ok (aO bD) w:=by
 have h:∀d:R,(Op.equalIn (d+1) 44 (.iface a v) ib).run bN w=.ok bD w:=λd=>by simp[Op.equalIn,eV underlying44]
 simp only[binOp];simp[Op.equal,Op.maxDepth,h 9999]
def PK:(prog.info? 47).map (·.comparable)=M cz:=aH
def Zh(n:Y)(w:Z):cR bN 71 #[ib,.iface 47<|ay n] w λe a=>e=aN (aO bD)/\a=w:=by
 have:∀w,(binOp .eql 44 ib<|.iface 47<|ay n).run bN w=.ok (aO bD) w:=λw=>run_eql_iface_nil_left w _ _ underlying44;go_in
 go_wp2;go_ret;simp_all
def uq(h:ae)(w:Z):(Go.method 577 256 (ef #[h]) "Comparable").run bN w=.ok (355,ef #[h]) w:=aH
def zU(w:Z):(ReflectliteType.method (λt=>do Rtype.noPackHeld "Comparable" t;(λa:TypeInfo=>aO a.comparable)<$>typeInfo t) #[ef #[ee<|M<|X (7) 47]]).run bN w=.ok (aO cz) w:=aH
def zcc(v:ae)(a:TypeId)(w:Z):(Instr.typeAssert (.iface 155 v) a 324 cz).run bN w=.ok (de #[ib,aO bD]) w:=run_typeAssert_lacksB underlying324 aH aH v a w
def KB(v:ae)(a:TypeId)(w:Z):(Instr.typeAssert (.iface 155 v) a 263 cz).run bN w=.ok (de #[.iface 155 v,aO cz]) w:=run_typeAssert_hasB underlying263 aH v a w
def yy(v:ae)(w:Z):(Go.method 577 155 v "Unwrap").run bN w=.ok (349,v) w:=aH
def Bu(a:R)(n:Y)(w:Z)(h:bA w (X a 1)=M (ay n)):cR bN 349 #[aJ a] w λe b=>e=aN (.iface 47<|ay n)/\b=w:=by
 go_in
 go_wp2;go_ret;simp_all
def Wv(n:Y)(w:Z):(binOp .eql 44 (.iface 47<|ay n)<|.iface 47<|ay n).run bN w=.ok (aO cz) w:=by
 let⟨i,b,a⟩:=rI.1 PK;have h:∀d:R,(Op.equalIn (d+2) 44 (.iface 47<|ay n)<|.iface 47<|ay n).run bN w=.ok cz w:=λd=>by simp[Op.equalIn,eV underlying44,eV underlying47,typeInfo,b,a]
 simp only[binOp];simp[Op.equal,Op.maxDepth,h 9998]
def VV(a:R)(n:Y)(w:Z)(h:bA w (X a 1)=M (ay n)):cR bN 123 #[.iface 155<|aJ a,.iface 47<|ay n,aO cz] w λe b=>e=aN (aO cz)/\b=w:=by
 have:∀w,(binOp .eql 44 (.iface 155<|aJ a)<|.iface 47<|ay n).run bN w=.ok (aO bD) w:=λw=>run_eql_iface_types _ _ _ _ underlying44 cg w;have:=Wv n;have:=AT;have:=zcc;have:=KB;have:=yy;have c:=Bu a n w h;go_in
 go_wp2;refine iW 2 ?_;rw[im];go_wp21;go_call c as e b⟨rfl,rfl⟩;go_wp2;rw[im];go_wp2;go_ret;simp_all
def Ub(a:R)(n:Y)(w:Z)(h:bA w (X a 1)=M (ay n)):cR bN 71 #[.iface 155<|aJ a,.iface 47<|ay n] w λe b=>e=aN (aO cz)/\b=w:=by
 have:=AT;have:=@fF bN 122 _ ReflectliteType.typeOf func122 aH aH aH aH;have:=@fF bN 355 _ (ReflectliteType.method (λt=>do Rtype.noPackHeld "Comparable" t;pure (aO (<-typeInfo t).comparable))) func355 aH aH aH aH;have:=yl;have:=uq;have:=zU;have c:=VV a n w h;go_in
 go_wp21;go_call c as e b⟨rfl,rfl⟩;go_wp2;go_ret;simp_all
end
section
variable{P:Program}{a:Array Oper}{Q:Exit->Act->Z->Prop}{md:Region.Mode}{S:Z->Prop}
def Cy(md:Region.Mode)(a:Array Oper)(i:R):R->R->eN
 |0,_=>bD
 |n+1,j=>match a[j]? with
  |none=>bD
  |some o=>o.after.any λe=>Region.binds md e&&(e.on==i||Cy md a i n e.on)
def Er(md:Region.Mode)(a:Array Oper)(b:Array eN):Prop:=∀j o,a[j]?=M o->b.getD j bD=cz->∀e∈o.after,Region.binds md e=cz->b.getD e.on bD=cz
def FL(md:Region.Mode)(a:Array Oper)(b:Array eN):eN:=(List.range a.size).all λj=>match a[j]? with
 |none=>cz
 |some o=>!b.getD j bD||o.after.all λe=>!Region.binds md e||b.getD e.on bD
def WJ{b:Array eN}(h:FL md a b=cz):Er md a b:=by
 intro j o d e i g f;unfold FL at h;rw[List.all_eq_true]at h;have c:=h j<|zm.2 (pC.1 d).1;simp only[d,e,tj,Bd]at c;rw[Array.all_eq_true]at c;grind[Array.mem_iff_getElem]
def Er.gq{b:Array eN}{o:R}(h:Er md a b)(l:o∈Region.ready md a b):Er md a (b.setIfInBounds o cz):=by
 intro x r n f p k j;let⟨q,s,m,e⟩:=Aw.1 l;by_cases c:o=x;grind[getD_set_true]
 rw[getD_set_ne bD c]at f;exact getD_set_true<|h x r n f p k j
theorem Cx{p:R}{b:Array eN}(i:Er md a b):∀(n m:R)(o:Oper),a[m]?=M o->(∀f∈o.after,Region.binds md f=cz->b.getD f.on bD=cz)->Cy md a p n m=cz->b.getD p bD=cz
 |0,_,_,_,_,h=>by simp[Cy]at h
 |n+1,m,o,k,c,h=>by
  unfold Cy at h;simp only[k]at h;let⟨x,l,g⟩:=Array.any_eq_true.1 h;simp only[nN,yX,beq_iff_eq]at g;have j:=c _ (Array.getElem_mem l) g.1;obtain f|f:=g.2
  .rwa[<-f]
  .have hex:∃e,a[(o.after[x]).on]?=M e:=by
    cases n with
    |zero=>simp[Cy]at f
    |succ n=>
     unfold Cy at f;grind
   let⟨e,d⟩:=hex;exact Cx i n _ e d (i _ e d j) f
def oR(P:Program)(md:Region.Mode)(a:Array Oper)(Q:Exit->Act->Z->Prop)(S:Z->Prop)(m:R):R->Array eN->Act->Z->Prop
 |0,b,d,w=>Region.ready md a b=[]/\Q .normal d w
 |fuel+1,b,d,w=>
  (Region.ready md a b=[]->Q .normal d w)/\∀i∈Region.ready md a b,wpOp P a Q i (λe c=>(i<m->S c)/\oR P md a Q S m fuel (b.setIfInBounds i cz) e c) d w
def Cn{m:R}:∀(b:R)(c:Array eN)(i:Act)(w:Z),oR P md a Q S m b c i w->wpAny P md a Q b c i w
 |0,_,_,_,h=>h
 |b+1,_,_,_,h=>⟨h.1,λj f=>wX (λd g e=>Cn b _ d g e.2)<|h.2 j f⟩
def Ky{i L:R}{h:Oper}{ac:ae}(E:a[i]?=M h)(W:i<L)(ab:∀j,L<=j->j<a.size->Cy md a i a.size j=cz)(K:∀(j:R)(al:Oper)cs b,a[j]?=M al->al.op≠ .select cs b)(V:∀ad r w,Q (.panic ad) (r.put h.dst ac) w->Q (.panic ad) r w):∀(d:R)(c:Array eN)(r:Act)(w:Z),Er md a c->(∀j n,a[j]?=M n->j≠i->c.getD j cz=bD->(∀s∈n.after,Region.binds md s=cz->s.on≠i)->h.apart a n=cz)->i∈Region.ready md a c->YieldsIf P a S h ac r->S w->oR P md a Q S L d (c.setIfInBounds i cz) (r.put h.dst ac) w->oR P md a Q S L (d+1) c r w:=by
 intro d;induction d with
 |zero=>
  intro c r w _ _ A p k u7;refine⟨aI,λj l=>?_⟩;by_cases e:j=i
  .subst e;exact p.wpOp E k ⟨λ_=>k,u7⟩
  .have:=uQ l e;rw[u7.1]at this;cases this
 |succ d ih=>
  intro c r w t g A p k u7;refine⟨aI,λj l=>?_⟩;by_cases e:j=i
  .subst e;exact p.wpOp E k ⟨λ_=>k,u7⟩
  .have O:=u7.2 j<|uQ l e;let⟨F,n,x,D⟩:=Aw.1 l;have:c.getD i bD=cz->False:=λq=>by
    have:=(Aw.1 A).1;grind
   have:∀s∈n.after,Region.binds md s=cz->s.on≠i:=aI;have T:=wpOp_putIf x aI aI aI V p O;have f:∀C ok,a[C]?=M ok->C≠i->(c.setIfInBounds j cz).getD C cz=bD->(∀s∈ok.after,Region.binds md s=cz->s.on≠i)->h.apart a ok=cz:=λC ok hk u d v=>by
    refine g C ok hk u ?_ v;by_cases aa:j=C
    .grind
    simp_all
   have B:=uQ A<|FA e;have m:j<L:=by
    grind[Nat.lt_or_ge,Cx,Array.getElem?_eq_some_iff]
   refine wX (λN w' o=>⟨λ_=>o.2.1 m,ih (c.setIfInBounds j cz) N w' (t.gq l) f B o.1 (o.2.1 m) ?_⟩) T;rw[wF _ _ e];exact o.2.2
def Ng{i m:R}{d:Oper}{v:ae}{c:R}{b:Array eN}{e:Act}{w:Z}(j:a[i]?=M d)(g:i<m)(o:((List.range a.size).all λt=>decide (t<m)||Cy md a i a.size t)=cz)(q:Region.noSelect a=cz)(n:Region.free md a b i=cz)(p:(Region.ready md a b).contains i=cz)(f:FL md a b=cz)(k:∀s e w,Q (.panic s) (e.put d.dst v) w->Q (.panic s) e w)(r:YieldsIf P a S d v e)(l:S w)(h:oR P md a Q S m c (b.setIfInBounds i cz) (e.put d.dst v) w):oR P md a Q S m (c+1) b e w:=Ky j g aI (Region.noSelect_spec q) k c b e w (WJ f) (Region.free_spec j n) (dV p) r l h
def gN(i:R){q:R}{o:Oper}{d:R}{c:Array eN}{j:Act}{w:Z}(h:∀K:Act->Z->Prop,(∀f e,(i<q->S e)->oR P md a Q S q d (c.setIfInBounds i cz) f e->K f e)->Oper.wp P o j w K Q)(l:a[i]?=M o:=by rfl)(k:o.guard=dE:=by rfl)(m:Region.ready md a c=[i]:=by kernel_rfl):oR P md a Q S q (d+1) c j w:=by
 refine⟨aI,λr g=>?_⟩;rw[m]at g;obtain rfl:r=i:=dV g;unfold wpOp;simp only[l];have n:Region.wanted o (yielded a j.tmps)=cz:=by simp[Region.wanted,k]
 rw[fV n];grind
def kR{m:R}{c:Array eN}{f:Act}{w:Z}(e:Region.ready md a c=[])(h:Q .normal f w):∀d,oR P md a Q S m d c f w
 |0=>⟨e,h⟩
 |_+1=>⟨λ_=>h,by rw[e];simp⟩
def kF(S:Z->Prop)(m:R){id:R}{d:Act}{w:Z}(c:P.follows .mixedOrders=cz)(h:oR P .any a Q S m a.size (Array.replicate a.size bD) d w.drew):(Code.region id a cz).wp P Q d w:=Bc c<|Cn _ _ _ _ h
end
section
variable{P:Program}{a:Array Oper}{Q:Exit->Act->Z->Prop}{md:Region.Mode}{S:Z->Prop}
def wo(P:Program)(md:Region.Mode)(a:Array Oper)(Q:Exit->Act->Z->Prop)(S:Z->Prop)(m _ c:R)(b:Array eN)(d:Act)(w:Z):Prop:=oR P md a Q S m c b d w
def FF(md:Region.Mode)(a:Array Oper)(b:Array eN)(m k:R):eN:=decide (k<m)&&((List.range a.size).all λj=>decide (j<m)||Cy md a k a.size j)&&Region.noSelect a&&Region.free md a b k&&(Region.ready md a b).contains k&&FL md a b
def lW(k:R){m d:R}{c:Array eN}{e:Act}{w:Z}(h:wo P md a Q S m k d c e w):oR P md a Q S m d c e w:=h
def qi{k m d:R}{c:Array eN}{e:Act}{w:Z}(h:oR P md a Q S m d c e w):wo P md a Q S m k d c e w:=h
def vh{k m:R}{e:Oper}{v:ae}{d:R}{b:Array eN}{f:Act}{w:Z}(i:S w)(j:a[k]?=M e)(c:FF md a b m k=cz)(g:∀n f w,Q (.panic n) (f.put e.dst v) w->Q (.panic n) f w)(l:YieldsIf P a S e v f)(h:wo P md a Q S m (k+1) d (b.setIfInBounds k cz) (f.put e.dst v) w):wo P md a Q S m k (d+1) b f w:=by
 unfold FF at c;simp only[nN,rD]at c;exact Ng j c.1.1.1.1.1 c.1.1.1.1.2 c.1.1.1.2 c.1.1.2 c.1.2 c.2 g l i h
def QO{k o:R}{e:Oper}{v:ae}{d:R}{c:Array eN}{f:Act}{w:Z}(j:S w)(m:a[k]?=M e)(g:FF md a c o k=cz)(i:∀p f w,Q (.panic p) (f.put e.dst v) w->Q (.panic p) f w)(l:Region.wanted e (yielded a f.tmps)=cz)(n:∀w,S w->(execOp f.eval e).run P w=.ok (.value v) w)(h:wo P md a Q S o (k+1) d (c.setIfInBounds k cz) (f.put e.dst v) w):wo P md a Q S o k (d+1) c f w:=vh j m g i (J ⟨l,n⟩) h
def zu{k n:R}{d:Oper}{v:ae}{c:R}{b:Array eN}{e:Act}{w:Z}(i:S w)(h:wo P md a Q S n (k+1) c (b.setIfInBounds k cz) (e.put d.dst v) w)(l:a[k]?=M d:=by rfl)(f:FF md a b n k=cz:=by kernel_rfl)(g:∀o e w,Q (.panic o) (e.put d.dst v) w->Q (.panic o) e w:=by exact wO)(j:Region.wanted d (yielded a e.tmps)=cz:=by rfl)(m:∀w,S w->(execOp e.eval d).run P w=.ok (.value v) w:=by intro q m9;(repeat obtain⟨_,m9⟩:=m9);go_simp;try rfl):wo P md a Q S n k (c+1) b e w:=QO i l f g j m h
end
section
open Conc.Locks
def Y5:MuLink where
 lock:=47
 unlock:=48
 ilock:=101
 iunlock:=102
 lockSlow:=155
 unlockSlow:=158
 disable:=151
 enable:=153
 acquire:=154
 relMerge:=156
 cas32:=152
 add32:=157
 tMutex:=101
 tIMutex:=99
 tPMutex:=214
 tPIMutex:=292
 tPI32:=294
 tUP:=179
 tNoCopy:=96
 tU32:=97
def R6:MuLib bN Y5:=by
 constructor<;>first|kernel_rfl|(intro w;kernel_rfl)
def mZ(a:Addr)(w:Z)(b:bA w a=M (iC 0))(c:iH w a=bD):cR bN 47 #[ee<|M a] w λe d=>e=aN (de #[])/\d=cP w a (iC 1):=MuLone.lock_free R6 a w b c
def zbh(a:Addr)(u:FrameMode)(w:Z)(b:bA w a=M (iC 1))(c:iH w a=bD):CallsD bN 48 #[ee<|M a] u w λf d e=>d=u/\(f=aN (de #[])/\e=cP w a (iC 0)):=MuLone.unlock_deferred R6 a u w b c
def fC{f:Func}{d:Array ae}{m8:Ending->Z->Prop}{g:Fn}{e c:Array ae}(k:bA a (X b 0)=M (iC 1))(l:iH a (X b 0)=bD)(h:Leaves bN f d m8 [] (settle .returning) (cP a (X b 0)<|iC 0))(i:(invoke (.fn g e) c).run bN a=.ok (.enter 48 #[aJ b]) a:=by(simp[go_sem])):Leaves bN f d m8 [{target:=.fn g e,args:=c}] .returning a:=leaves_cons ar i<|(zbh (X b 0) .returning _ k l).mono (by rintro n m j⟨rfl,rfl,rfl⟩;exact h)
end
def FU{P:Program}{d:Array Oper}{Q:Exit->Act->Z->Prop}{h:Region.Mode}{S:Z->Prop}{i j m:R}{k l:Oper}{c:Array eN}{n:Act}(q:d[i]?=M k)(r:d[j]?=M l)(o:k.guard=dE)(p:l.guard=dE)(s:Region.ready h d c=[i,j])(t:∀K:Act->Z->Prop,(∀f e,(i<m->S e)->oR P h d Q S m b (c.setIfInBounds i cz) f e->K f e)->Oper.wp P k n a K Q)(u:∀K:Act->Z->Prop,(∀f e,(j<m->S e)->oR P h d Q S m b (c.setIfInBounds j cz) f e->K f e)->Oper.wp P l n a K Q):oR P h d Q S m (b+1) c n a:=by
 refine⟨aI,λv g=>?_⟩;rw[s]at g;obtain rfl|g:=dy.1 g;unfold wpOp;simp only[q];rw[fV<|by simp[Region.wanted,o]];grind
 obtain rfl:v=j:=dV g;unfold wpOp;simp only[r];rw[fV<|by simp[Region.wanted,p]];grind
section
variable{P:Program}{a:Array Oper}{Q:Exit->Act->Z->Prop}{md:Region.Mode}
def La{n:R}{c:String}{b:Array ae}{w:Z}{m8:ae->Z->Prop}(h:Rows P c b w m8):RowsIn Fence.wide n P c b w m8:=λf d _=>let⟨v,e,r,s⟩:=h f d;⟨v,e,r,stepsIn_wide.2 s⟩
theorem Oper.Nd{o:Oper}{b:Act}{w:Z}{K:Act->Z->Prop}(n:R)(d:∀c,o.op≠ .defer c)(h:o.wp P b w K Q):o.wpIn Fence.wide n P b w K Q:=by
 unfold Oper.wpIn;refine⟨λf _=>trivial,?_⟩;rw[Oper.semAt_plain Fence.wide _ _ d];unfold Oper.wp at h;generalize(execOp b.eval o).run P w=r at*;cases r with
 |ok x e=>
  cases x<;>simp only[Oper.upon,Oper.uponIn]at h|-<;>first
   |exact h
   |exact⟨(λc=>(by cases c)),ew.2 h⟩
   |exact⟨(λc=>(by cases c)),La h⟩
   |exact h.elim
 |halt x e=>cases x<;>simp only[Oper.upon,Oper.uponIn]at h|-<;>exact h
def Ev{n:R}(k:∀(i:R)(o:Oper)c,a[i]?=M o->o.op≠ .defer c)(j:¬LetsOut Q):∀(b:R)(d:Array eN)(p:Act)(w:Z),wpAny P md a Q b d p w->wpAnyIn Fence.wide n P md a Q b d p w
 |0,_,_,_,h=>h
 |b+1,_,_,_,h=>⟨h.1,λi l=>by
  have e:=wX (λf m g=>Ev (n:=n) k j b _ f m g)<|h.2 i l;unfold wpOp at e;unfold wpOpIn;cases ho:a[i]? with
  |none=>grind
  |some o=>
   simp only[ho]at e|-;split
   .rename_i f;simp only[f,mS]at e;grind[Oper.Nd]
   .rename_i f;simp only[f]at e;exact⟨λ_ _=>trivial,e⟩⟩
def Dt(S:Z->Prop)(m:R){n id:R}{b:Act}{w:Z}(e:P.follows .mixedOrders=cz)(d:FE a=cz)(c:∀b w,¬Q .outgrown b w)(h:mh P .any a Q S m a.size (Array.replicate a.size bD) b w.drew):(Code.region id a cz).wpIn Fence.wide n P Q b w:=wpIn_region_any e<|Ev (yu d) (λ⟨b,w,h⟩=>c b w h) _ _ _ _<|qx _ _ _ _ h
end
section
open Extern.Stop Stop Extern
def Mg(m n:Y)(a:m≠n)(w:Z):(binOp .eql 44 (.iface 47<|ay m)<|.iface 47<|ay n).run bN w=.ok (aO bD) w:=by
 let⟨i,c,b⟩:=rI.1 PK;have h:∀d:R,(Op.equalIn (d+2) 44 (.iface 47<|ay m)<|.iface 47<|ay n).run bN w=.ok bD w:=λd=>by simp[Op.equalIn,eV underlying44,eV underlying47,typeInfo,c,b,a]
 simp only[binOp];simp[Op.equal,Op.maxDepth,h 9998]
def zcb(v:ae)(a:TypeId)(w:Z):(Instr.typeAssert (.iface 47 v) a 324 cz).run bN w=.ok (de #[ib,aO bD]) w:=run_typeAssert_lacksB underlying324 aH aH v a w
def zca(v:ae)(a:TypeId)(w:Z):(Instr.typeAssert (.iface 47 v) a 263 cz).run bN w=.ok (de #[ib,aO bD]) w:=run_typeAssert_lacksB underlying263 aH aH v a w
def zbz(v:ae)(a:TypeId)(w:Z):(Instr.typeAssert (.iface 47 v) a 264 cz).run bN w=.ok (de #[ib,aO bD]) w:=run_typeAssert_lacksB underlying264 aH aH v a w
def Sz(a:R)(m n:Y)(b:m≠n)(w:Z)(h:bA w (X a 1)=M (ay m)):cR bN 123 #[.iface 155<|aJ a,.iface 47<|ay n,aO cz] w λe c=>e=aN (aO bD)/\c=w:=by
 have:∀w,(binOp .eql 44 (.iface 155<|aJ a)<|.iface 47<|ay n).run bN w=.ok (aO bD) w:=λw=>run_eql_iface_types _ _ _ _ underlying44 cg w;have:=Mg m n b;have:=AT;have:=zcc;have:=KB;have:=zcb;have:=zca;have:=zbz;have:=yy;have d:=Bu a m w h;go_in
 go_wp2;refine iW 2 ?_;rw[im];go_wp21;go_call d as e c⟨rfl,rfl⟩;go_wp2;rw[im];go_wp2;go_ret;simp_all
def CQ(a:R)(m n:Y)(b:m≠n)(w:Z)(h:bA w (X a 1)=M (ay m)):cR bN 71 #[.iface 155<|aJ a,.iface 47<|ay n] w λe c=>e=aN (aO bD)/\c=w:=by
 have:=AT;have:=@fF bN 122 _ ReflectliteType.typeOf func122 aH aH aH aH;have:=@fF bN 355 _ (ReflectliteType.method (λt=>do Rtype.noPackHeld "Comparable" t;pure (aO (<-typeInfo t).comparable))) func355 aH aH aH aH;have:=yl;have:=uq;have:=zU;have d:=Sz a m n b w h;go_in
 go_wp21;go_call d as e c⟨rfl,rfl⟩;go_wp2;go_ret;simp_all
end
def tX.gq{v u:ae}{o:kV}(l:e.heap[b]?=M (aK #[v,w,aO V] 54 (0,0)))(k:gC (G<|H e) e P)(m:mE P u o)(n:∀g,cN u=M g->g<G (H P))(f:cN u≠M b):tX (cP P (X b 0) u) b (cN u) o V w/\e.grownBy (cP P (X b 0) u) (M b):=by
 have h:=eG P b 0 u;have j:P.heap[b]?=M (aK #[v,w,aO V] 54 (0,0)):=k.block b (az l)▸l;exact⟨⟨⟨u,by rw[aY j];rfl,Row.dF m h<|J f,z⟩,f,λg b=>au (n g b) h.size⟩,zZ (Qk k _) h⟩
def Lg(r:Option R){aa:kV}{c:vW}(h:tX a b r aa V w)(Q:Ce a d c)(m:∀k,cN d=M k->k<G (H a))(hr:y aa+y c<=1000000000000):cR bN 39 #[aJ b,d] a λu W=>
 u=aN (ay<|if V then 6 else gS c)/\(∃e,tX W b e (if V=bD/\gS c=0 then WE aa c else aa) V w/\(e=r\/∀k,e=M k->G (H a)<=k))/\a.grownBy W (M b):=by
 have O:=ak h
 let⟨⟨ad,l,S,t⟩,p,o⟩:=h
 have C:=aX l 0
 have:=aX l 2
 have D:=cV (i:=0) l
 have q:b<G (H a):=az l
 let⟨HH,N,HL,v,x,A,B⟩:=zX l S (show∀k,cN ad=M k->k<G (H a)fromλk c=>o k<|t▸c) Q m (show cN ad≠M b from t▸p) t
 clear l S t o Q m p
 cases V with
 |true=>
  go_in
  go_wp2;go_ret;exact⟨z,⟨r,O,J z⟩,vF _ _⟩
 |false=>
  by_cases s:gS c=0
  .have ac:(gS c==0)=cz:=by rw[s];rfl
   have:gS c=0:=s;clear s;obtain rfl|⟨al,F,ab,rfl⟩:=N.fR;all_goals
    go_in
    go_wp21;go_call Ej v U as u w0⟨rfl,rfl⟩;go_wp21;go_call ZX c N HL v x hr as u w1⟨K,rfl,g,n,j,e⟩;have:iH w1 (X b 0)=bD:=(e.frozen<|by exact q).trans D;have:bA w1 (X b 0)=_:=(e.cell<|by exact q).trans C;have f:cN K≠M b:=λu=>by obtain h|h:=j;exact A<|h▸u;grind
    have L:=ak<|tX.gq HH e g n f;have E:=g.fR;have HOr:=ak (show cN K=r\/∀k,cN K=M k->G (H w0)<=k from j.imp (λu=>u.trans B) id);clear g n e f j;obtain rfl|⟨b1,T,P,rfl⟩:=E;all_goals
     go_wp2;go_ret;exact⟨z,⟨_,L.1,HOr⟩,L.2⟩
  .have:(gS c==0)=bD:=nD.2 s;go_in
   go_wp21;go_call Ej v U as u w0⟨rfl,rfl⟩;go_wp2;go_ret;exact⟨z,⟨r,O,J z⟩,vF _ _⟩
def pL:(prog.info? 5).map (λi=>(i.zero,i.size,i.bytes))=M (M<|sA 0,1,1):=aH
def fy(w:Z)(b:R)(v:ae)(a:eD):Prop:=fD w b 5 1 v (y a)<|a.map<|Value.int .u8
def fy.of{w:Z}{bs:eD}(h:fD w b 5 1 d c Q)(a:c=y bs)(e:Q=bs.map (Value.int .u8)):fy w b d bs:=by
 subst a;subst e;exact h
def fy.kj(w:Z)(a:R):fy w a aF []:=ct w a _ 1
def fy.aE{w:Z}{bs:eD}(h:fy w b d bs)(o:Obj):fy (dw w o) b d bs:=bC h o
def le:R->Y->eD
 |0,_=>[]
 |k+1,n=>n%256::le k (n/256)
theorem dh(k:R):∀n,y (le k n)=k:=by
 induction k with
 |zero=>intro n;rfl
 |succ k a=>intro n;simp[le,a]
def km(s:af):eD:=s.data.toList.map λb=>(b.toNat:Y)
def strCells_eq(s:af):Lib.strCells s=(km s).map (Value.int .u8):=by simp[Lib.strCells,km]
theorem iw(s:af):y (km s)=s.size:=by simp[km]
def wu(e:R)(v:ae)(f:eD)(o:Y)(w:Z)(c:fy w e v f)(q:e<=G (H w))(r:y f<=70368744177664):cR bN 225 #[v,sA o] w λp l=>∃d,p=aN d/\fy l e d (f++[o])/\fm w l v d:=by
 let⟨n,m,g,i,j⟩:=cZ pL;go_in
 go_wp2_with(first
  |(at_builtin;refine cq _ z _ _ 31 z e 5 n (.int .u8 0) 1 1 underlying31 m g i j z cg _ _ _ z (c.aE _) (X (G (H w)) 0) 1 1 [.int .u8 o] z z (rE _ _ _) ?c2 ?c3 ?c4 ?c5 ?_))
 intro u k;simp at k;subst k;rfl;omega;omega;simp;omega;intro d s b a;go_wp2;go_ret;exact⟨d,z,fy.of b ar ar,a.aE _⟩
def Kp(w:Z)(a:iE)(t:TypeId):∀j u,a[j]?=M u->bA (dw w<|aK a.toArray t) (((X (G<|H w) 0):Addr).add j)=M u:=by
 intro j u b;rw[dS];simp_all
def kT{n6:R}{v:ae}{bs:eD}(n:Y){w:Z}(c:fy w n6 v bs)(q:n6<=G (H w))(r:y bs<=70368744177664)(o:0<=n)(p:n<4294967296):cR bN 227 #[v,eI n] w λk j=>∃d,k=aN d/\fy j n6 d (bs++le 4 n)/\fm w j v d:=by
 let⟨m,l,e,f,g⟩:=cZ pL;go_in
 go_wp2_with(first
  |(at_builtin;refine cq _ z _ _ 31 z n6 5 m (.int .u8 0) 1 1 underlying31 l e f g z cg _ _ _ z (c.aE _) (X (G (H w)) 0) 4 4 ((le 4 n).map (Value.int .u8)) z z ?c1 ?c2 ?c3 ?c4 ?c5 ?_))
 (have k:(#[Value.int IntKind.u8<|n%256,Value.int IntKind.u8<|n/256%256,Value.int IntKind.u8<|n/65536%256,Value.int IntKind.u8<|n/16777216]:Array ae)=((le 4 n).map<|Value.int .u8).toArray:=by simp[le];omega);rw[k];exact Kp _ _ _;intro u i;simp[le]at i;obtain rfl|rfl|rfl|rfl:=i<;>rfl
 omega;omega;simp;omega;intro d s b a;go_wp2;go_ret;exact⟨d,z,fy.of b (by simp[le]) ar,a.aE _⟩
def rf(e:R)(v:ae)(g:eD)(s:af)(w:Z)(c:fy w e v g)(n:e<=G (H w))(p:y g<=70368744177664)(t:s.size<=255):cR bN 267 #[v,aw s] w λr m=>∃f,r=aN f/\fy m e f (g++(s.size:Y)::km s)/\fm w m v f:=by
 let⟨q,o,j,k,l⟩:=cZ pL;go_in
 go_wp21;go_call wu e v g s.size w c n p as r x⟨u,rfl,i,d⟩
 go_wp2_with(first
  |(at_builtin;refine vg _ z _ _ 31 9 z e 5 q underlying31 underlying9 o j k l _ _ _ z i s z ?c1 ?c2 ?_))
 simp;omega;have:=d.dF.size;omega;intro f A b a;go_wp2;go_ret;exact⟨f,z,fy.of b (by simp[iw];omega) (by simp[strCells_eq]),d.aj a⟩
def QK(a b:Y):0<=bits .xor .u32 a b:=(bounds_u32<|wf_bits .xor .u32 a b).1
def QL(a b:Y):bits .xor .u32 a b<4294967296:=bP<|(bounds_u32<|wf_bits .xor .u32 a b).2
def zam(x:Y)(a:0<=x)(b:x<4294967296):bits .and .u32 x 15=x%16:=by
 have:=bits_mask .u32 32 cg wraps_u32 4 cg x a U;grind
def N0(k:R):Y:=([0,498536548,997073096,651767980,1994146192,1802195444,1303535960,1342533948,3988292384,4027552580,3604390888,3412177804,2607071920,2262029012,2685067896,3183342108]:eD).getD k 0
def Steps(w:Z):Prop:=∀k,k<16->bA w (X 1 k)=M (eI<|N0 k)
def Steps.dD{B:R}(h:Steps a)(c:gC B a e)(b:1<B):Steps e:=λk d=>(c.cell<|by exact b).trans<|h k d
def Uk(c:Y):Y:=bits .xor .u32 (c/16)<|N0 (c%16).toNat
def Df(m9 x:Y):Y:=Uk<|Uk<|bits .xor .u32 m9<|x%4294967296
def Ai(a:eD):Y:=a.foldl Df 4294967295
def pt(a:eD):Y:=bits .xor .u32 IntKind.u32.max<|Ai a
def Te(m9 x:Y):0<=Df m9 x:=QK _ _
def Tf(m9 x:Y):Df m9 x<4294967296:=QL _ _
def PW(a:eD):0<=Ai a/\Ai a<4294967296:=by
 unfold Ai;obtain rfl|⟨l,x,rfl⟩:=zg a;simp;rw[zh,jR];exact⟨Te _ _,Tf _ _⟩
def Ii(a:eD):0<=pt a:=QK _ _
def Mq(a:eD):pt a<4294967296:=QL _ _
def Td(a:eD)(k:R)(h:k<y a):Ai (a.take<|k+1)=Df (Ai<|a.take k) a[k]:=by
 unfold Ai;rw[aG h,jR];rfl
theorem D8(m c:R)(b:eD)(g:R)(i:Steps a)(j:∀k,k<y b->bA a (X m<|c+k)=M (sA<|b[k]?.getD 0))(f:y b<=140737488351232):cR bN 186 #[bX m c (y b) g] a λn l=>n=aN (eI<|pt b)/\l=a:=by
 have:=QK;have:=QL;have:=zam;have:∀x:Y,bA a (X 1<|(x%16).toNat)=M (eI<|N0 (x%16).toNat):=λx=>i _ U;go_in
 go_wp2;go_loop [3,8,5] (λa i x=>∃(k:R),k<=y b/\i=ay k/\a=eI (Ai<|b.take k)) (λ_ i _=>y b-(intOf i).toNat)
 exact⟨0,bQ _,z,z⟩;obtain⟨k,o,rfl,rfl⟩:=hrel;have:=PW<|b.take k;by_cases e:k<y b;(.have:=j k e;have d:Hid (Ai (b.take<|k+1)=Df (Ai<|b.take k) b[k]):=Td b k e;generalize Ai (b.take k)=m9 at*;go_wp2;(go_round);exact⟨k+1,U,dM,by rw[d.out];rfl⟩;simp[intOf];omega);go_wp2;go_ret;have d:b.take k=b:=aI;rw[d];exact⟨z,z⟩
def Bytes(w:Z)(v:ae)(b:eD):Prop:=(v=aF/\b=[])\/∃d a c,v=bX d a (y b) c/\y b<=c/\∀k,k<y b->bA w (X d<|a+k)=M (sA<|b[k]?.getD 0)
def fy.bB{w:Z}{bs:eD}(h:fy w b d bs):Bytes w d bs:=by
 unfold fy at h;obtain⟨rfl,i⟩|⟨g,a,e,rfl,_,_,c,_⟩:=h.2;exact J ⟨z,bG i⟩;refine bj ⟨g,0,a,z,c,λk j=>?_⟩;have:=h.cells (g:=g) z k (sA<|bs[k]?.getD 0) (by simp[j]);grind[Addr.add_lit]
def Bytes.dD{B:R}(h:Bytes a d m)(i:gC B a e)(g:∀k,cN d=M k->k<B):Bytes e d m:=by
 obtain⟨rfl,rfl⟩|⟨o,b,c,rfl,f,j⟩:=h;exact J ⟨z,z⟩;exact bj ⟨o,b,c,z,f,λk n=>(i.cell<|by exact g o z).trans<|j k n⟩
def sum_nil(w:Z):cR bN 186 #[aF] w λe a=>e=aN (eI<|pt [])/\a=w:=by
 go_in
 go_wp2;go_loop [3,8,5] (λc i x=>i=ay 0/\c=eI 4294967295) (λ_ _ _=>0)
 grind
 obtain⟨rfl,rfl⟩:=hrel;go_wp2;go_ret;exact⟨z,z⟩
def sV(v:ae)(b:eD)(w:Z)(h:Steps w)(e:Bytes w v b)(a:y b<=140737488351232):cR bN 186 #[v] w λg f=>g=aN (eI<|pt b)/\f=w:=by
 obtain⟨rfl,rfl⟩|⟨j,c,d,rfl,_,i⟩:=e;exact sum_nil w;grind[D8]
def zed(n:Y):le 4 (n%4294967296)++le 4 (n/4294967296)=le 8 n:=by
 simp[le];omega
def rh{n6:R}{v:ae}{bs:eD}(n:Y){w:Z}(a:fy w n6 v bs)(k:n6<=G (H w))(p:y bs<=35184372088832)(m:0<=n)(o:n<18446744073709551616):cR bN 224 #[v,bw n] w λj g=>∃f,j=aN f/\fy g n6 f (bs++le 8 n)/\fm w g v f:=by
 have i:Hid (le 4 (n%4294967296)++le 4 (n/4294967296)=le 8 n):=zed n;go_in
 go_wp21;go_call kT (n%4294967296) a k U U U as j r⟨q,rfl,c,b⟩;go_wp21;refine(kT (n/4294967296) c (bP b.dF.size) (by simp[dh];omega) U U).mono ?_;rintro j s⟨l,rfl,d,e⟩;go_wp2;go_ret;refine⟨l,z,?_,b.aj e⟩;rwa[cw,i.out]at d
def Gr(j:Steps a)(c:fy a b d m)(k:b<=G (H a))(o:y m<=35184372088832):cR bN 228 #[d] a λi f=>∃e,i=aN e/\fy f b e (m++le 4 (pt m))/\fm a f d e:=by
 have g:=Ii m;have c1:=Mq m;go_in
 go_wp21;go_call sV d m a j c.bB U as i q⟨rfl,rfl⟩;go_wp21;go_call kT (pt m) c k U g c1 as i r⟨p,rfl,l,n⟩;go_wp2;go_ret;simp_all
def Gq(n:Y)(w:Z)(b:0<=n)(c:n<=140737488351232):cR bN 254 #[ay n] w λe a=>e=aN (ay<|n+4)/\a=w:=by
 go_in
 go_wp2;go_ret;simp_all
def Rd(w:Z)(b:R)(a:eD)(m6:eN):Prop:=∃v,w.heap[b]?=M (aK #[v,aO m6] 380 (0,0))/\Bytes w v a/\∀k,cN v=M k->k<b
def Bytes.dF{w w':Z}{b:Option R}(h:Bytes w d m)(i:w.grownBy w' b)(f:cN d≠b\/cN d=dE):Bytes w' d m:=by
 obtain⟨rfl,rfl⟩|⟨k,a,c,rfl,e,g⟩:=h;exact J ⟨z,z⟩;refine bj ⟨k,a,c,z,e,λl j=>i.cell (g l j) ?_⟩;obtain h|h:=f;exact h;simp[cN]at h
def Bytes.aE{w:Z}{bs:eD}(h:Bytes w d bs)(o:Obj):Bytes (dw w o) d bs:=by
 obtain⟨rfl,rfl⟩|⟨g,a,b,rfl,c,j⟩:=h;exact J ⟨z,z⟩;refine bj ⟨g,a,b,z,c,λn k=>?_⟩;have e:=j n k;(have m:g<G (H w):=by by_cases i:g<G (H w);exact i;have:w.heap[g]?=dE:=aI;simp[World.cell?,this]at e);rw[<-e];grind[World.cell?_of_block,Below.heap_alloc]
def Bytes.ot{f b c n:R}{bs:eD}(h:Bytes a (bX f b (y bs) c) bs)(m:n<=y bs):Bytes a (bX f b n c) (bs.take n):=by
 obtain⟨h,_⟩|⟨j,e,d,h,i,g⟩:=h;cases h;cases h;(have k:y (bs.take n)=n:=by simp;omega);refine bj ⟨f,b,c,by rw[k],U,λo l=>?_⟩;rw[g o U,qw U]
def Bytes.Ec{f b c n:R}(h:Bytes a (bX f b (y m) c) m)(l:n<=y m):Bytes a (bX f (b+n) (y m-n)<|c-n) (m.drop n):=by
 obtain⟨h,_⟩|⟨i,e,d,h,g,j⟩:=h;cases h;cases h;refine bj ⟨f,b+n,c-n,ar,by simp;omega,λo k=>?_⟩;grind
def Bytes.lt{w:Z}{bs:eD}(h:Bytes w d bs)(n:bs≠[]):∀k,cN d=M k->k<G (H w):=by
 obtain⟨rfl,rfl⟩|⟨b,a,e,rfl,m,j⟩:=h;grind
 intro k c;simp[cN]at c;subst c;have g:=j 0 (by cases bs<;>simp_all);by_cases i:b<G (H w);exact i;have:w.heap[b]?=dE:=aI;simp[World.cell?,this]at g
def Vz{a:Addr}(h:cN (am (M a) b c)=M k):a.block=k:=by simpa[cN]using h
def oM(g:Bytes a d m)(e:∀k,cN d=M k->k<G (H a)):cR bN 176 #[d] a λl b=>l=aN (aJ<|G<|H a)/\Rd b (G<|H a) m bD/\b=dw a (aK #[d,aO bD] 380):=by
 have c:∀b,b=dw a (aK #[d,aO bD] 380)->Rd b (G<|H a) m bD:=by rintro b rfl;exact⟨d,jo _ _,g.aE _,e⟩
 have F:Hid (∀b,b=dw a (aK #[d,aO bD] 380)->Rd b (G<|H a) m bD):=c;obtain⟨rfl,rfl⟩|⟨o,f,i,rfl,j,n⟩:=g;(.clear e;(go_in);go_wp2;go_ret;exact⟨z,F.out _ z,z⟩);clear e;(go_in);go_wp2;go_ret;exact⟨z,F.out _ z,z⟩
def fY(a:eD)(m6:eN)(n:R):eD×eN×eD:=if m6=cz\/y a<n then(a,cz,[])else(a.drop n,bD,a.take n)
def Rd.F7{m6:eN}(f:a.heap[b]?=M (aK #[d,aO m6] 380 (0,0)))(e:Bytes a d m)(c:∀k,cN d=M k->k<b):Rd (cP a (X b 1)<|aO cz) b m cz:=⟨d,by rw[aY f];rfl,e.dF (eG a b 1 _) aI,c⟩
def Rd.YJ{m6:eN}(f:a.heap[b]?=M (aK #[d,aO m6] 380 (0,0)))(e:Bytes a w m)(c:∀k,cN w=M k->k<b):Rd (cP a (X b 0) w) b m m6:=⟨w,by rw[aY f];rfl,e.dF (eG a b 0 _) aI,c⟩
def Nl{m6:eN}(n:R)(h:Rd a b m m6)(O:y m<=140737488351232)(L:n<=1000000):cR bN 276 #[aJ b,ay n] a λj A=>∃x,j=aN x/\Rd A b (fY m m6 n).1 (fY m m6 n).2.1/\Bytes A x (fY m m6 n).2.2/\cN x≠M b/\a.grownBy A (M b):=by
 let⟨K,k,q,t⟩:=h;have HB:Hid (Bytes a K m):=q;have:=aX k 0;have:=aX k 1;have:=cV (i:=0) k;have:=cV (i:=1) k;have p:Hid (a.heap[b]?=M (aK #[K,aO m6] 380 (0,0))):=k;have f:Hid (∀k,cN K=M k->k<b):=t;by_cases g:m6=cz\/y m<n
 .have e:Hid (fY m m6 n=(m,cz,[])):=by unfold Hid fY;rw[fV g]
  have o:Rd (cP a (X b 1)<|aO cz) b m cz/\a.grownBy (cP a (X b 1)<|aO cz) (M b):=⟨Rd.F7 p.out HB.out f.out,eG _ _ _ _⟩;have F:Hid (Rd (cP a (X b 1)<|aO cz) b m cz/\a.grownBy (cP a (X b 1)<|aO cz) (M b)):=o;have w:Bytes (cP a (X b 1)<|aO cz) aF []:=J ⟨z,z⟩;have N:Hid (Bytes (cP a (X b 1)<|aO cz) aF []):=w;cases m6 with
  |true=>
   go_in
   go_wp2;go_ret;exact⟨_,z,e.out▸F.out.1,e.out▸N.out,by simp[cN],F.out.2⟩
  |false=>
   have l:y m<n:=dV g;obtain⟨rfl,rfl⟩|⟨B,c,d,rfl,s,D⟩:=q;all_goals
    go_in
    go_wp2;go_ret;exact⟨_,z,e.out▸F.out.1,e.out▸N.out,by simp[cN],F.out.2⟩
 (have e:Hid (fY m m6 n=(m.drop n,bD,m.take n)):=by unfold Hid fY;rw[fM g]);let⟨E,l⟩:=not_or.1 g;obtain rfl:m6=bD:=dV E;obtain⟨rfl,rfl⟩|⟨B,c,d,rfl,s,D⟩:=q;(.obtain rfl:n=0:=dV l;have w:Bytes a aF []:=J ⟨z,z⟩;have o:=Rd.YJ p.out w f.out;(go_in);go_wp2;go_ret;exact⟨_,z,e.out▸o,e.out▸J ⟨z,z⟩,λj=>tg _<|f.out _ j,eG _ _ _ _⟩);by_cases r:d=n;(.subst r;(have C:m.drop d=[]:=by simp;omega);have:y m=d:=U;have u:Bytes a (bX B c 0 0) (m.drop d):=bj ⟨B,c,0,by rw[C];rfl,by rw[C];simp,aI⟩;have v:=(Bytes.ot HB.out (n:=d) U).dF (eG a b 0<|bX B c 0 0)<|J<|λj=>tg _<|f.out _ j;have o:=Rd.YJ p.out u f.out;(go_in);go_wp2;go_ret;exact⟨_,z,e.out▸o,e.out▸v,λj=>tg _<|f.out _ j,eG _ _ _ _⟩);have u:=Bytes.Ec HB.out (n:=n) U;have v:=(Bytes.ot HB.out (n:=n) U).dF (eG a b 0<|bX B (c+n) (y m-n)<|d-n)<|J<|λj=>tg _<|f.out _ j;have o:=Rd.YJ p.out u f.out;(go_in);go_wp2;go_ret;exact⟨_,z,e.out▸o,e.out▸v,λj=>tg _<|f.out _ j,eG _ _ _ _⟩
def ki(bs:eD):Prop:=∀x∈bs,0<=x/\x<256
def ki.ot{bs:eD}(h:ki bs)(n:R):ki (bs.take n):=λx a=>h x<|ix a
def ki.pM(h:ki m)(n:R):ki (m.drop n):=λx a=>h x<|mU a
def ki.jN{b:eD}(h:ki m)(k:ki b):ki (m++b):=λx a=>(aP.1 a).elim (h x)<|k x
def ki.lO{m6:eN}{n:R}(h:ki m):ki (fY m m6 n).1/\ki (fY m m6 n).2.2:=by
 unfold fY;split;exact⟨h,λx a=>by cases a⟩;exact⟨h.pM n,h.ot n⟩
def jd(a:eD)(m6:eN)(n:R):y (fY a m6 n).1<=y a/\y (fY a m6 n).2.2<=n:=by
 unfold fY;grind
def ki.le(k:R):∀n,ki (le k n):=by
 induction k with
 |zero=>intro n x a;cases a
 |succ k b=>
  intro n x a;obtain rfl|a:=dy.1 a
  .omega
  .exact b _ x a
def ki.XJ(s:af):ki (km s):=by
 intro x a;obtain⟨b,_,rfl⟩:=cC.1 a;have:=b.toNat_lt;omega
def jv:eD->Y
 |[]=>0
 |x::r=>x+256*jv r
def wA:∀(l:eD),ki l->0<=jv l/\jv l<256^y l
 |[],_=>by simp[jv]
 |x::r,h=>by
  have:=h x<|.head _;have:=wA r<|λa b=>h a<|.tail _ b;simp only[jv,bK,Ck];omega
def Hj:∀(l:eD)(x:Y),jv (l++[x])=jv l+x*256^y l
 |[],x=>by simp[jv]
 |g9::r,x=>by
  simp only[dt,jv,bK,Ck,Hj r x];grind
def xO:∀(k:R)(n:Y),0<=n->jv (le k n)=n%256^k
 |0,n,_=>by simp[jv,le]
 |k+1,n,h=>by
  simp only[le,jv,xO k (n/256) U,Ck];obtain⟨m,rfl⟩:=lK h;have:=Nat.mod_mul (x:=m) (a:=256) (b:=256^k);rw[Int.mul_comm (256^k) 256];grind
def H9(h:ki m)(i:y m<=8)(k:R)(d:k<y m):jv (m.take<|k+1)=bits .or .u64 (jv<|m.take k) (IntKind.u64.wrap<|m[k]*2^(8*k)):=by
 have c:=wA (m.take k)<|h.ot k;have e:y (m.take k)=k:=by simp;omega
 rw[aG d,Hj,e];rw[e]at c;have l:=h m[k]<|aB d;have g:(256:Y)^k=2^(8*k):=by rw[Int.pow_mul];rfl
 rw[g]at c|-;have j:(0:Y)<2^(8*k):=Int.pow_pos cg;have f:(2:Y)^(8*k)*256<=2^64:=by(have:(2:Y)^(8*k)*256=2^(8*k+8):=by rw[Int.pow_add];rfl);rw[this];exact_mod_cast Nat.pow_le_pow_right cg U
 have:m[k]*2^(8*k)<=255*2^(8*k):=Int.mul_le_mul_of_nonneg_right U U;have a:0<=m[k]*2^(8*k):=Int.mul_nonneg U U;have b:m[k]*2^(8*k)<2^64:=U;rw[wraps_u64 _ a b,bits_join_low .u64 64 cg wraps_u64 (8*k) _ _ c.1 c.2 U a (Int.mul_emod_left _ _) b]
def GQ{m6:eN}(n:R)(h:Rd a b m m6)(g:ki m)(C:y m<=140737488351232)(F:n<=8):cR bN 240 #[aJ b,ay n] a λD t=>D=aN (bw<|jv (fY m m6 n).2.2)/\Rd t b (fY m m6 n).1 (fY m m6 n).2.1/\a.grownBy t (M b):=by
 go_in
 go_wp21;go_call Nl n h C U as D L⟨K,rfl,i,f,B,x⟩;have:=(jd m m6 n).2;let⟨q,p,o⟩:=eU (g.lO (m6:=m6) (n:=n)).2 i x;generalize r:(fY m m6 n).2.2=c at*;have l:=ak r;clear r;obtain⟨rfl,rfl⟩|⟨N,j,v,rfl,A,w⟩:=f;(.go_wp2;(go_loop [5,12,6,7] (λu s _ _=>s=ay 0/\u=bw 0) (λ_ _ _ _=>0));(grind);obtain⟨rfl,rfl⟩:=hrel;go_wp2;go_ret;exact⟨by rw[ag l];rfl,p,o⟩);go_wp2;(go_loop [5,12,6,7] (λu s _ _=>∃(k:R),k<=y c/\s=ay k/\u=bw (jv<|c.take k)) (λ_ s _ _=>y c-(intOf s).toNat));exact⟨0,bQ _,z,z⟩;obtain⟨k,E,rfl,rfl⟩:=hrel;by_cases e:k<y c;(.have:=w k e;have:=q c[k]<|aB e;have d:=ak<|H9 q U k e;generalize jv (c.take k)=m9 at*;go_wp2;(go_round);exact⟨k+1,U,dM,by rw[ag d]⟩;simp[intOf];omega);go_wp2;go_ret;have d:c.take k=c:=aI;rw[d];exact⟨by rw[ag l];rfl,p,o⟩
def Zb(h:ki m)(a:y m<=b):jv m<256^b:=by
 have:=(wA m h).2;have:(256:Y)^y m<=256^b:=by exact_mod_cast Nat.pow_le_pow_right cg a
 omega
def dz(a:eD)(m6:eN)(n:R):Y:=jv (fY a m6 n).2.2
def jU{m6:eN}{n:R}(h:ki m):0<=dz m m6 n/\dz m m6 n<256^n:=⟨(wA _ h.lO.2).1,Zb h.lO.2 (jd m m6 n).2⟩
def Hf{m6:eN}(h:Rd a b m m6)(c:ki m)(g:y m<=140737488351232):cR bN 177 #[aJ b] a λi d=>i=aN (bw<|dz m m6 8)/\Rd d b (fY m m6 8).1 (fY m m6 8).2.1/\a.grownBy d (M b):=by
 go_in
 go_wp21;go_call GQ 8 h c g U as i j⟨rfl,e,f⟩;go_wp2;go_ret;exact⟨z,e,f⟩
def GP{m6:eN}(n:R)(h:Rd a b m m6)(c:ki m)(f:y m<=140737488351232)(e:n<=8):cR bN 240 #[aJ b,ay n] a λg d=>g=aN (bw<|dz m m6 n)/\Rd d b (fY m m6 n).1 (fY m m6 n).2.1/\a.grownBy d (M b):=GQ n h c f e
def TN{k:IntKind}{b:Y}(h:r=b):Ending.returned (.int k r)=aN (.int k b):=by rw[h]
def vk(b:R)(m6:eN)(w:Z)(h:Rd w b m m6)(a:ki m)(f:y m<=140737488351232):cR bN 178 #[aJ b] w λg c=>g=aN (eI<|dz m m6 4)/\Rd c b (fY m m6 4).1 (fY m m6 4).2.1/\w.grownBy c (M b):=by
 have:0<=dz m m6 4:=(jU a).1;have:dz m m6 4<4294967296:=(jU a).2;go_in
 go_wp21;go_call GP 4 h a f U as g i⟨rfl,d,e⟩;go_wp2;go_ret;exact⟨TN U,d,e⟩
def Io{m6:eN}(h:Rd a b m m6)(c:ki m)(g:y m<=140737488351232):cR bN 187 #[aJ b] a λi d=>i=aN (sA<|dz m m6 1)/\Rd d b (fY m m6 1).1 (fY m m6 1).2.1/\a.grownBy d (M b):=by
 have:0<=dz m m6 1:=(jU c).1;have:dz m m6 1<256:=(jU c).2;go_in
 go_wp21;go_call GP 1 h c g U as i j⟨rfl,e,f⟩;go_wp2;go_ret;exact⟨TN U,e,f⟩
def Jn{m6:eN}(h:Rd a b m m6):cR bN 179 #[aJ b] a λf e=>f=aN (aO m6)/\e=a:=by
 let⟨v,c,g,d⟩:=h;have:=aX c 1;go_in
 go_wp2;go_ret;simp_all
def Ae{m6:eN}(h:Rd a b m m6)(n:y m<=140737488351232):cR bN 180 #[aJ b] a λk j=>k=aN (aO<|!m6&&m.isEmpty)/\j=a:=by
 let⟨v,d,f,i⟩:=h;have:=aX d 0;have:=aX d 1;cases m6 with
 |true=>
  go_in
  go_wp2;go_ret;simp_all
 |false=>
  obtain⟨rfl,rfl⟩|⟨o,c,e,rfl,g,l⟩:=f
  .go_in
   go_wp2;go_ret;simp_all
  .cases m with
   |nil=>
    go_in
    go_wp2;go_ret;simp_all
   |cons x r=>
    have:((y (x::r):Y)==0)=bD:=by simp;omega
    go_in
    go_wp2;go_ret;simp_all
def qK(a:eD):af:=⟨(a.map λx=>UInt8.ofNat x.toNat).toArray⟩
def yh(s:af):qK (km s)=s:=by
 have e:((λx:Y=>UInt8.ofNat x.toNat)∘λb:UInt8=>(b.toNat:Y))=id:=by funext b;simp
 unfold qK km;rw[iV,e,we]
def nP(a:eD)(m6:eN):eD×eN×eD:=let b:=fY a m6 1;fY b.1 b.2.1 (dz a m6 1).toNat
def Tg(g:Bytes a d m)(f:ki m):(convert 31 9 d).run bN a=.ok (aw<|qK m) a:=by
 obtain⟨rfl,rfl⟩|⟨k,b,e,rfl,i,h⟩:=g;exact Lib.run_convert_nil_bytes a _ _ 5 0 underlying31 underlying5 underlying9;have:=xU (P:=bN) a 31 9 5 (X k b) e (m.map λx=>UInt8.ofNat x.toNat) underlying31 underlying5 underlying9 (λj c=>by simp at c;rw[dS,h j c];have l:=f m[j]<|aB c;simp[c];omega);simpa[qK]using this
def Cp{m6:eN}(h:Rd a b m m6)(c:ki m)(s:y m<=140737488351232):cR bN 241 #[aJ b] a λk g=>k=aN (aw<|qK (nP m m6).2.2)/\Rd g b (nP m m6).1 (nP m m6).2.1/\a.grownBy g (M b):=by
 have d:0<=dz m m6 1:=(jU c).1;have:dz m m6 1<256:=(jU c).2;go_in
 go_wp21;go_call Io h c s as k v⟨rfl,l,o⟩;let⟨n,e⟩:=lK d;have f:(nP m m6)=fY (fY m m6 1).1 (fY m m6 1).2.1 n:=by unfold nP;simp[e]
 have:=(jd m m6 1).1;have i:=ak (c.lO (m6:=m6) (n:=1)).1;have:n<256:=U;have j:=ak e;clear e;go_wp21;rw[ag j];go_call Nl n l U U as k w⟨u,rfl,p,q,t,r⟩;have:=Tg q i.lO.2;go_wp2;go_ret;exact⟨by rw[f];rfl,by rw[f];exact p,zZ o r⟩
def Bytes.df{w w':Z}(h:Bytes w d m)(n:w'.heap=w.heap):Bytes w' d m:=by
 obtain⟨rfl,rfl⟩|⟨k,b,e,rfl,g,i⟩:=h;exact J ⟨z,z⟩;exact bj ⟨k,b,e,z,g,λl j=>by rw[<-i l j];grind[World.cell?_of_block]⟩
def Rd.df{w w':Z}{m6:eN}(h:Rd w b m m6)(i:w'.heap=w.heap):Rd w' b m m6:=by
 let⟨v,d,e,g⟩:=h;exact⟨v,i▸d,e.df i,g⟩
def Steps.df{w w':Z}(h:Steps w)(e:w'.heap=w.heap):Steps w':=λk b=>by
 rw[<-h k b];grind[World.cell?_of_block]
def Steps.dF{w w':Z}{a:Option R}(h:Steps w)(c:w.grownBy w' a)(b:a≠M 1):Steps w':=λk d=>c.cell (h k d)<|λe=>b e.symm
def Steps.aE{w:Z}(h:Steps w)(o:Obj):Steps (dw w o):=λk c=>by
 have a:=h k c;have d:1<G (H w):=by by_cases b:1<G (H w);exact b;have:w.heap[(1:R)]?=dE:=aI;simp[World.cell?,this]at a
 rw[<-a];grind[World.cell?_of_block,Below.heap_alloc]
def Steps.lt{w:Z}(h:Steps w):1<G (H w):=by
 have a:=h 0 cg;by_cases c:1<G (H w);exact c;have:w.heap[(1:R)]?=dE:=aI;simp[World.cell?,this]at a
def P5(u:ae):Prop:=(∃b,u=aO b)\/∃x n c,u=am x n c
def yP(w:Z)(v:ae):Prop:=∀k a t b,cN v=M k->w.heap[k]?=M (aK a t b)->∀u∈a.toList,P5 u
def yP.aA{S:fB}{w w':Z}(h:yP w d)(n:I S w w')(g:∀k,cN d=M k->¬S k)(m:∀k,cN d=M k->k<G (H w)):yP w' d:=λk a t e c j=>h k a t e c<|(n.A k (m k c)<|g k c).symm.trans j
theorem Jf{m9:Array ae}(g:∀x∈m9.toList,P5 x)(e:0<m9.size)(a:d∈(Builtin.zeroCells m9 b).toList):P5 d:=by
 unfold Builtin.zeroCells at a;let⟨i,_,f⟩:=Array.mem_map.1<|Array.mem_toList_iff.1 a;have c:i%m9.size<m9.size:=oh _ e;rw[Array.getElem!_eq_getD,Array.getD_eq_getD_getElem?,Array.getElem?_eq_getElem c,ld]at f;rw[<-f];grind
theorem xF{P:Program}{al:Oper}{ax:Act}{bb:Act->Z->Prop}{bf:Exit->Act->Z->Prop}(bd aD:Operand)(an:TypeId)(aa:al.op=Op.call {callee:=Callee.builtin Builtin.append,args:=#[bd,aD],argTypes:=#[an,an]})(T:R)(F:TypeId)(Q:TypeInfo)(m9:ae)(c bytes:R)(O:P.underlying an=M (.slice F))(L:P.info? F=M Q)(hz:Q.zero=M m9)(j:Q.size=c)(B:Q.bytes=bytes)(ad:m9.cells.size=c)(ab:0<c)(av:ae)(S:R)(v:iE)(hs:ax.eval bd=av)(h:fD a T F c av S v)(s:Addr)(E ao:R)(b:iE)(hx:ax.eval aD=am (M s) E ao)(D:y b=E*c)(e:∀ap u,b[ap]?=M u->bA a (s.add ap)=M u)(h1:∀u∈b,u.oneCell'=cz)(hn:S+E<=140737488355328)(d:(S+E)*bytes<=140737488355328)(m:T<=G (H a))(hm:0<E)(kz:∀u∈m9.cells.toList,P5 u)(kn:∀u∈b,P5 u)(ko:yP a av)(hK:∀q r,fD r T F c q (S+E) (v++b)->fm a r av q->yP r q->bb (ax.put al.dst q) r):Oper.wp P al ax a bb bf:=by
 let⟨q,r,N,h2,h3,_,h5⟩:=oW (P:=P) a T an al.type F Q m9 c bytes O L hz j B ad ab av S v h s E ao b D e h1 (by unfold maxLen;omega) d m;have n:yP r q:=by subst j;subst B;obtain⟨rfl,rfl⟩|⟨V,l,g,rfl,aU,K,ba,aV,W,p⟩:=h.2;(have f:=run_append_nil (P:=P) a an al.type F Q m9 O L hz s E ao b D e hm U<|zY d;rw[N]at f;injection f with x A;intro bc g t' fr n t u k;subst x A;cases n;have C:=(jo a.drew _).symm.trans t;grind[Array.toList_append,Jf]);by_cases i:S+E<=l;((have o:S*Q.size+y b<=g.size:=by rw[D,W,<-Nat.add_mul];exact Nat.mul_le_mul_right _ i);have f:=run_append_room (P:=P) a an al.type F Q O L V S l g K s E ao b D e h1 i o;rw[N]at f;injection f with x A;intro bc w t' fr n t u k;subst x A;cases n;rw[vY a V g _ F _ K]at t;cases t;have:∀aD∈g.toList,P5 aD:=ko V g _ _ z K;grind);have o:∀ap u,v[ap]?=M u->bA a (((X V 0):Addr).add ap)=M u:=h.cells (g:=V) z;have f:=run_append_grow (P:=P) a an al.type F Q m9 O L hz (X V 0) S l v h.1 o s E ao b D e U U<|uS U d;rw[N]at f;injection f with x A;intro bc w t' fr n t u k;subst x A;cases n;have C:=(jo a.drew _).symm.trans t;cases C;rw[nF,aP,nF,aP]at k;obtain(k|k)|k:=k;have ac:u∈v:=dV k;rw[<-p]at ac;exact ko V g _ _ z K u aI;(grind);grind[Jf]
 unfold Oper.wp;simp[execOp,aa,resolve,invoke,builtin,hs,hx,N,Result.andThen];exact hK q r h2 (fm.of h3 h5) n
def Bq{P:Program}(w:Z){d:Array Oper}{c:cy Oper}{v:Oper}{q:Act}{Q:Exit->Act->Z->Prop}(B:v.guard=dE)(L N:Operand)(F:TypeId)(C:v.op=Op.call {callee:=Callee.builtin Builtin.append,args:=#[L,N],argTypes:=#[F,F]})(l:R)(r:TypeId)(s:TypeInfo)(m9:ae)(a bytes:R)(ht:P.underlying F=M (.slice r))(V:P.info? r=M s)(hz:s.zero=M m9)(k:s.size=a)(A:s.bytes=bytes)(E:m9.cells.size=a)(D:0<a)(x:ae)(t:R)(p:iE)(hs:q.eval L=x)(o:fD w l r a x t p)(n:Addr)(m O:R)(b:iE)(hx:q.eval N=am (M n) m O)(W:y b=m*a)(j:∀K u,b[K]?=M u->bA w (n.add K)=M u)(S:∀u∈b,u.oneCell'=cz)(hn:t+m<=140737488355328)(e:(t+m)*bytes<=140737488355328)(i:l<=G (H w))(hm:0<m)(kz:∀u∈m9.cells.toList,P5 u)(kn:∀u∈b,P5 u)(ko:yP w x)(h:∀f g,fD g l r a f (t+m) (p++b)->fm w g x f->yP g f->wpList P d Q c (q.put v.dst f) g):wpList P d Q (v::c) q w:=by
 grind[wpList_plain,xF]
structure ut where
 f:eN
 v:ae
 l:kV
def IH:cy ut->iE
 |[]=>[]
 |x::r=>.bool x.f::x.v::IH r
def Rh(a:cy ut):y (IH a)=y a*2:=by
 induction a with
 |nil=>rfl
 |cons x r b=>simp only[IH,bK,b];omega
theorem Cu:∀(a:cy ut)(j:R)(h:j<y a),(IH a)[j*2]?=M (aO a[j].f)/\(IH a)[j*2+1]?=M a[j].v
 |[],j,h=>absurd h<|yS _
 |x::r,0,_=>⟨z,z⟩
 |x::r,j+1,h=>by
  have b:=Cu r j<|dV h;have e:(j+1)*2=j*2+1+1:=U;rw[e];simp only[IH,qV,cF];exact b
structure Qu(w:Z)(sv:ae)(ss:cy ut):Prop where
 bV:Row w 2 sv (y ss) (IH ss)
 bZ:∀x∈ss,x.f=cz->mE w x.v x.l/\∀g,cN x.v=M g->g<G (H w)
 fR:∀x∈ss,∃p n c,x.v=am p n c
 f:y ss<=1000000000
def yP.gq{v u:ae}{g i:R}{m:Array ae}{t:TypeId}{o:R×R}(h:yP e v)(k:cN v=M g)(f:e.heap[g]?=M (aK m t o))(r:P5 u):yP (cP e (X g i) u) v:=by
 intro w n s p j b x l;rw[k]at j;cases j;rw[aY f]at b;cases b;rw[pz]at l;obtain q|q:=jL l;exact h g _ _ _ k f x q;grind
def MG(a:cy ut)(n:Y):Option ut:=if n<1 then dE else match a[(n-1).toNat]? with
 |some x=>if x.f then M x else dE
 |none=>dE
def IY(a:cy ut)(n:Y):ae:=match MG a n with
 |some x=>.tuple #[x.v,.int .i64 0]
 |none=>.tuple #[aF,.int .i64 5]
def AJ(C:Option R){N:kV}(c:cy ut)(t:Y)(h:tX a b C N V d)(e:Qu a d c):cR bN 96 #[aJ b,ay t] a λL F=>L=aN (if V then .tuple #[aF,ay 6]else IY c t)/\F=a:=by
 let⟨⟨P,s,A,_⟩,_,_⟩:=h;have:=aX s 1;have:=aX s 2;have:=e.f;clear s A;cases V with
 |true=>
  clear e;go_in
  go_wp2;go_ret2
  simp_all
 |false=>
  by_cases n:t<1
  .have k:=ak (show IY c t=de #[aF,ay 5]by unfold IY MG;rw[fV n]);clear e;go_in
   go_wp2;go_ret2
   exact⟨k▸rfl,z⟩
  .obtain⟨j,rfl⟩:∃j:R,t=(j:Y)+1:=⟨(t-1).toNat,U⟩;have l:((j:Y)+1-1).toNat=j:=U;by_cases o:j<y c
   .let⟨q,r⟩:=Cu c j o;let⟨O,E,D,p⟩:=e.fR c[j]<|aB o;obtain⟨_,u⟩|⟨K,f,m,rfl,x,g⟩:=e.bV.2
    .omega
    have v:=g _ _ q;have B:=g _ _ r;rw[p,<-bJ]at B;have w:¬((y c:Y)<(j:Y)+1):=U;have:IntKind.i64.wrap ((j:Y)+1-1)=j:=by rw[bR];omega
    have:(j:Y)+1-1=j:=U;have:(j:Y)<(y c:Y):=U;have:¬((j:Y)+1<1):=n;cases hlv:c[j].f with
    |true=>
     have k:=ak (show IY c ((j:Y)+1)=de #[am O E D,ay 0]by unfold IY MG;rw[fM n,l,bF o];simp[hlv,p]);rw[hlv]at v;clear e g q r p hlv l;go_in
     go_wp2;go_ret2
     exact⟨k▸rfl,z⟩
    |false=>
     have k:=ak (show IY c ((j:Y)+1)=de #[aF,ay 5]by unfold IY MG;rw[fM n,l,bF o];simp[hlv]);rw[hlv]at v;clear e g q r p hlv l;go_in
     go_wp2;go_ret2
     exact⟨k▸rfl,z⟩
   .have k:=ak (show IY c ((j:Y)+1)=de #[aF,ay 5]by unfold IY MG;rw[fM n,l,mH U]);have:(y c:Y)<(j:Y)+1:=U;obtain rfl|⟨K,f,m,rfl⟩:=e.bV.fR
    .have:y c=0:=by
      obtain⟨_,u⟩|⟨K,f,m,g,_⟩:=e.bV.2
      .exact u
      .cases g
     have:(0:Y)<(j:Y)+1:=U;clear e l;go_in
     go_wp2;go_ret2
     exact⟨k▸rfl,z⟩
    .clear e l;go_in
     go_wp2;go_ret2
     exact⟨k▸rfl,z⟩
def FM{a:cy ut}{x:ut}(h:MG a r=M x):x∈a/\x.f=cz:=by
 unfold MG at h;split at h;cases h;split at h;rename_i d c;split at h;rename_i b;cases h;exact⟨iy c,b⟩;cases h;cases h
def BV(a:cy ut)(n:Y)(k:af):af×eN×Y:=match MG a n with
 |some x=>CR x.l k
 |none=>(⟨#[]⟩,bD,5)
def Lj(r:Option R){v:kV}(e:cy ut)(n:Y)(k:af)(h:tX a b r v V d)(f:Qu a d e)(t:∀x∈e,y x.l<=1000000000000)(l:k.size<=140737488351232):cR bN 89 #[aJ b,ay n,aw k] a λm u=>
 m=aN (if V then .tuple #[aw ⟨#[]⟩,aO bD,ay 6]else .tuple #[aw (BV e n k).1,aO (BV e n k).2.1,ay (BV e n k).2.2])/\u=a:=by
 have c:=AJ r e n h f
 clear h
 cases V with
 |true=>
  simp only[mS]at c|-;clear f;go_in
  go_wp21;go_call c as m s⟨rfl,rfl⟩;go_wp2;go_ret3
  simp_all
 |false=>
  simp only[li,mz]at c|-;cases hx:MG e n with
  |none=>
   have j:=ak (show BV e n k=(⟨#[]⟩,bD,5)by unfold BV;rw[hx]);have g:IY e n=de #[aF,ay 5]:=by unfold IY;rw[hx]
   rw[g]at c;clear f g hx;go_in
   go_wp21;go_call c as m s⟨rfl,rfl⟩;go_wp2;go_ret3
   exact⟨by rw[ag j];rfl,z⟩
  |some x=>
   let⟨i,p⟩:=FM hx;have j:=ak (show BV e n k=CR x.l k by unfold BV;rw[hx]);have g:IY e n=de #[x.v,ay 0]:=by unfold IY;rw[hx]
   rw[g]at c;have o:=Uf k (f.bZ x i p).1 (t x i) l;let⟨C,A,w,q⟩:=f.fR x i;rw[q]at c o;clear f g hx i p q;go_in
   go_wp21;go_call c as m s⟨rfl,rfl⟩;go_wp21;go_call o as m B⟨rfl,rfl⟩;go_wp2;go_ret3
   exact⟨by rw[ag j];rfl,z⟩
def IK(t:Option R){B:kV}(f:cy ut)(p:Y)(o m:af)(c:Y)(h:tX a b t B V d)(g:Qu a d f)(A:∀x∈f,y x.l<=1000000000000):cR bN 91 #[aJ b,ay p,aw o,aw m,ay c] a λq u=>
 ∃e,q=.returned (.tuple #[e,.int .i64<|if V then 6 else if(MG f p).isSome then 0 else 5])/\qD u (G<|H a) e (if V then []else match MG f p with|some x=>AZ x.l o m c|none=>[])/\gC (G<|H a) a u:=by
 have e:=AJ t f p h g
 clear h
 cases V with
 |true=>
  simp only[mS]at e|-;clear g;go_in
  go_wp21;go_call e as q v⟨rfl,rfl⟩;go_wp2;go_ret2
  exact⟨_,z,ct _ _ _ _,Below.refl _ _⟩
 |false=>
  simp only[li,mz]at e|-;cases hx:MG f p with
  |none=>
   have l:IY f p=de #[aF,ay 5]:=by unfold IY;rw[hx]
   rw[l]at e;clear g l hx;simp only[Option.isSome_none,li,mz];go_in
   go_wp21;go_call e as q v⟨rfl,rfl⟩;go_wp2;go_ret2
   exact⟨_,z,ct _ _ _ _,Below.refl _ _⟩
  |some x=>
   let⟨k,n⟩:=FM hx;have l:IY f p=de #[x.v,ay 0]:=by unfold IY;rw[hx]
   rw[l]at e;have r:=EV o m c (g.bZ x k n).1 (g.bZ x k n).2<|A x k;let⟨N,D,C,s⟩:=g.fR x k;rw[s]at e r;clear g l hx k n s;simp only[Option.isSome_some,mS];go_in
   go_wp21;go_call e as q v⟨rfl,rfl⟩;go_wp21;go_call r as q L⟨K,rfl,i,j⟩;obtain⟨F,E,rfl⟩:=aM i;have w:=ak<|And.intro i j;clear i j;go_wp2;go_ret2
   exact⟨_,z,w⟩
theorem TF:∀(a:cy ut)(j:R)(x:ut),j<y a->IH (a.set j x)=((IH a).set (j*2)<|aO x.f).set (j*2+1) x.v
 |[],j,x,h=>absurd h<|yS _
 |g9::r,0,x,_=>rfl
 |g9::r,j+1,x,h=>by
  have b:=TF r j x<|dV h;have e:(j+1)*2=j*2+1+1:=U;rw[e];simp only[IH,eO,b]
def Db:ut:=⟨bD,aF,[]⟩
def Yw{d:cy ut}(x:ut)(o:fD a b 204 2 (bX c 0 (y d) k) (y d) (IH d))(t:n<y d):fD (cP (cP a (X c<|n*2)<|aO x.f) (X c<|n*2+1) x.v) b 204 2 (bX c 0 (y d) k) (y<|d.set n x) (IH<|d.set n x):=by
 refine⟨Rh _,bj ?_⟩;obtain⟨f,s⟩|⟨r,l,q,f,h,m,e,j,g,p⟩:=o.2;cases f;cases f;refine⟨c,k,_,by rw[gz],h,aY<|aY m,by rw[gz];exact e,j,dV g,?_⟩;grind[Array.toList_setIfInBounds,take_set,length_set,TF]
def IL(k:Option R){p:kV}(f:cy ut)(n:Y)(h:tX a b k p V d)(g:Qu a d f)(j:V=cz\/MG f n=dE):cR bN 43 #[aJ b,ay n] a λl m=>l=aN (ay<|if V then 6 else 5)/\m=a:=by
 have c:=AJ k f n h g;clear h g;cases V with
 |true=>
  simp only[mS]at c|-;go_in
  go_wp21;go_call c as l o⟨rfl,rfl⟩;go_wp2;go_ret;simp_all
 |false=>
  have e:MG f n=dE:=j.elim (λq=>by cases q) id;have i:IY f n=de #[aF,ay 5]:=by unfold IY;rw[e]
  simp only[li,mz]at c|-;rw[i]at c;clear j e i;go_in
  go_wp21;go_call c as l o⟨rfl,rfl⟩;go_wp2;go_ret;simp_all
def GA(F:Option R){ab:kV}(e:cy ut)(j:R)(W:ut)(h:tX a b F ab bD d)(l:Qu a d e)(p:MG e ((j:Y)+1)=M W)(A:j<y e)(o:fD a c 204 2 d (y e) (IH e))(B:yP a d):cR bN 43 #[aJ b,ay<|(j:Y)+1] a λaa t=>aa=aN (ay 0)/\fD t c 204 2 d (y<|e.set j Db) (IH<|e.set j Db)/\a.grownBy t (cN d)/\yP t d:=by
 have f:=AJ F e ((j:Y)+1) h l;have E:IY e ((j:Y)+1)=de #[W.v,ay 0]:=by unfold IY;rw[p]
 simp only[li,mz]at f;let⟨ad,pn,pc,D⟩:=l.fR W (FM p).1;rw[E,D]at f;let⟨⟨al,x,_,_⟩,_,_⟩:=h;have:=aX x 1;have:=l.f;obtain⟨_,h0⟩|⟨N,L,V,rfl,O,m,P,Q,n,r⟩:=o.2;omega;let⟨v,w⟩:=Cu e j A;have k:∀i,iH a (X N i)=bD:=λi=>cV m;have:=k<|j*2;have:=k<|j*2+1;obtain⟨q,_⟩|⟨ac,s,u,q,C,g⟩:=l.bV.2;cases q;cases q;have S:=g _ _ v;have T:=g _ _ w;rw[ez]at S T;have K:=ak<|And.intro (Yw Db o A) (And.intro (zZ (eG a N (j*2)<|aO Db.f)<|eG _ N (j*2+1) Db.v) ((B.gq (i:=j*2) z m<|J ⟨Db.f,z⟩).gq (i:=j*2+1) z (aY m)<|bj ⟨dE,0,0,z⟩));have:IntKind.i64.wrap ((j:Y)+1-1)=j:=by rw[bR];omega
 have:(j:Y)+1-1=j:=U;have:(j:Y)<(y e:Y):=U;clear l p E D x o m n r g v w k B;go_in
 go_wp21;go_call f as aa w1⟨rfl,rfl⟩;clear f;go_wp2;go_ret;exact⟨z,K⟩
structure E where
 D:af
 l:af
 dP:eN
 f:Y
abbrev dB:=cy E
abbrev iF:=cy<|cy E
variable{S:E}
def e00:E:=⟨⟨#[]⟩,⟨#[]⟩,bD,0⟩
def kG(a b:af):eN:=Op.bytesLess a.toList b.toList
def Qi:∀(x b:cy UInt8),Op.bytesLess x b=decide (x<b)
 |[],[]=>by simp[Op.bytesLess]
 |_::_,[]=>by simp[Op.bytesLess]
 |[],_::_=>by simp[Op.bytesLess]
 |a::x,c::b=>by
  rw[Op.bytesLess,Qi x b];grind[cons_lt_cons_iff]
theorem An{b:af}(h:B.toList=b.toList):B=b:=by
 have u7:∀x:af,x.toList=x.data.toList:=λx=>uo x;rw[u7,u7]at h;cases B;simp_all
theorem jq(a:af):kG a a=bD:=by
 unfold kG;rw[Qi];simp
theorem my{b c:af}(h:kG B b=cz)(k:kG b c=cz):kG B c=cz:=by
 unfold kG at*;rw[Qi]at*;grind
theorem sY{b:af}(h:kG B b=cz):kG b B=bD:=by
 grind[my,jq]
theorem ou{b:af}(h:kG B b=bD)(k:kG b B=bD):B=b:=by
 unfold kG at*;rw[Qi]at*;grind[An,List.le_antisymm]
theorem DV{b:af}(h:kG B b=cz):B≠b:=by
 grind[jq]
def DW{b c:af}(h:kG b B=bD)(k:kG b c=cz):kG B c=cz:=by
 grind[my,ou]
theorem BR{b c:af}(h:kG B b=cz)(k:kG c b=bD):kG B c=cz:=by
 grind[my,ou]
def VT{b c:af}(h:kG b B=bD)(k:kG c b=bD):kG c B=bD:=by
 grind[BR]
def LO(a:af):kG a ⟨#[]⟩=bD:=by
 unfold kG;rw[Qi];simp_all
def Tq(l:cy E):Prop:=l.Pairwise<|λa b=>kG a.D b.D=cz
def Tq.kj:Tq []:=List.Pairwise.nil
def Tq.U4{l:cy E}(h:Tq (S::l)):Tq l:=(dp.1 h).2
def Tq.qo{l:cy E}(h:Tq (S::l)):∀b∈l,kG S.D b.D=cz:=(dp.1 h).1
def Tq.kD{l m:cy E}(h:Tq m)(s:l.Sublist m):Tq l:=oQ s h
def Tq.Xy{l:cy E}(h:Tq l){e:E}(c:S∈l)(d:e∈l)(f:S.D=e.D):S=e:=by
 induction l with
 |nil=>cases c
 |cons x r g=>
  obtain b|b:=dy.1 c
  .obtain a|a:=dy.1 d
   .rw[b,a]
   .rw[b]at f;exact absurd f<|DV<|h.qo e a
  .obtain a|a:=dy.1 d
   .rw[a]at f;exact absurd f.symm<|DV<|h.qo S b
   .exact g h.U4 b a
variable{i:dB}{O:iF}
def ahead(a b:E):eN:=kG a.D b.D||(decide (a.D=b.D)&&decide (b.f<a.f))
theorem iS{b:E}:ahead S b=cz↔kG S.D b.D=cz\/(S.D=b.D/\b.f<S.f):=by
 unfold ahead;simp
theorem tW{b c:E}(h:ahead S b=cz)(k:ahead b c=cz):ahead S c=cz:=by
 rw[iS]at*;obtain h|⟨h,a⟩:=h<;>obtain k|⟨k,d⟩:=k;exact J<|my h k;rw[<-k];exact J h;rw[h];exact J k;grind
theorem Dh(a:E):ahead a a=bD:=by unfold ahead;simp[jq]
theorem ng{b:E}(h:ahead S b=cz):ahead b S=bD:=by
 grind[tW,Dh]
theorem oK{b:E}(h:ahead b S=bD):kG b.D S.D=bD/\(b.D=S.D->b.f<=S.f):=by
 unfold ahead at h;grind
def VF{b:E}(h:kG b.D S.D=bD)(k:b.D=S.D->b.f<=S.f):ahead b S=bD:=by
 unfold ahead;grind
theorem yx{d g:E}(h:ahead d S=bD)(k:ahead g d=bD):ahead g S=bD:=by
 let⟨b,e⟩:=oK h;let⟨a,f⟩:=oK k;refine VF (VT b a)<|λi=>?_;have c:d.D=S.D:=by rw[i]at a;exact ou b a
 have:=e c;have:=f<|i.trans c.symm;omega
def nA(a:iF)(i:R):Option E:=(a[i]?.getD []).head?
def mq(a:iF):R->Option R
 |0=>dE
 |n+1=>match nA a n with
  |none=>mq a n
  |some e=>match mq a n with
   |none=>M n
   |some b=>if ahead e ((nA a b).getD e00)then M n else M b
theorem EW(h:mq O b=dE):∀i,i<b->nA O i=dE:=by
 induction b with
 |zero=>grind
 |succ b c=>
  intro i a;unfold mq at h;grind
def wD(h:mq O b=M c):c<b/\∃e,nA O c=M e/\∀i,i<b->∀f,nA O i=M f->ahead f e=bD:=by
 induction b generalizing c with
 |zero=>cases h
 |succ b a=>
  unfold mq at h;grind[Dh,EW,yx,ng]
def FW(a:iF):R:=y a.flatten
def zQ(h:nA O b=M S):O.flatten.Perm (S::(O.modify b List.tail).flatten):=by
 induction O generalizing b with
 |nil=>simp[nA]at h
 |cons r d c=>
  cases b with
  |zero=>
   cases r with
   |nil=>simp[nA]at h
   |cons x t=>
    simp only[nA,List.getElem?_cons_zero,ld,List.head?_cons,vZ]at h;simp_all
  |succ b=>
   have a:nA d b=M S:=by simpa[nA]using h
   simp only[di,sH];refine((c a).append_left r).trans ?_;simp_all
def ya(h:nA O b=M S):FW O=FW (O.modify b List.tail)+1:=by
 have:=(zQ h).length_eq;unfold FW;rw[this];simp
def LF:R->iF->dB
 |0,_=>[]
 |n+1,a=>match mq a (y a)with
  |none=>[]
  |some b=>(nA a b).getD e00::LF n (a.modify b List.tail)
def eL(a:iF):dB:=LF (FW a) a
def zS{hs:iF}(h:mq hs (y hs)=dE):eL hs=[]:=by
 unfold eL;cases e:FW hs with
 |zero=>rfl
 |succ n=>unfold LF;rw[h]
def Wj(h:∀i,i<y O->nA O i=dE):O.flatten=[]:=by
 induction O with
 |nil=>rfl
 |cons r c b=>
  have a:=h 0 ar;cases r with
  |cons x t=>simp[nA]at a
  |nil=>
   simp only[di,ep];exact b (λi a=>by have:=h (i+1) dW;simpa[nA]using this)
def zR{hs:iF}(h:mq hs (y hs)=M b)(a:nA hs b=M S):eL hs=S::eL (hs.modify b List.tail):=by
 unfold eL;rw[ya a];conv=>lhs;unfold LF
 rw[h];grind
def ku(a:iF):(eL a).Perm a.flatten:=by
 generalize d:FW a=n;induction n generalizing a with
 |zero=>
  have:a.flatten=[]:=bG d;unfold eL;rw[d,this];exact List.Perm.nil
 |succ n e=>
  cases hb:mq a (y a)with
  |none=>
   have:=Wj<|EW hb;rw[zS hb,this]
  |some b=>
   let⟨_,f,c,_⟩:=wD hb;rw[zR hb c];have:=ya c;exact((e _ U).cons f).trans (zQ c).symm
def sh(a:af):dB->dB
 |[]=>[]
 |e::r=>if e.D=a then sh e.D r else e::sh e.D r
def Top(a:dB)(x:E):Prop:=x∈a/\∀b∈a,b.D=x.D->b.f<=x.f
def zcq(a:dB):Prop:=∀b∈a,∀c∈a,b.D=c.D->b.f=c.f->b=c
def PG(a:af)(s:i.Pairwise (λd b=>ahead b d=bD))(m:zcq i)(r:∀x∈i,kG x.D a=bD):Tq (sh a i)/\∀x,x∈sh a i↔x.D≠a/\Top i x:=by
 induction i generalizing a with
 |nil=>exact⟨Tq.kj,λx=>by simp[sh,Top]⟩
 |cons l u t=>
  let⟨f,q⟩:=dp.1 s;let⟨n,k⟩:=t l.D q (λd a b c=>m d (by simp[a]) b<|by simp[c])<|λx j=>(oK<|f x j).1;unfold sh;split
  .rename_i g;refine⟨n,λx=>(k x).trans ?_⟩;rw[g];constructor
   .rintro⟨d,b,o⟩;refine⟨d,iz _ b,λe c h=>?_⟩;grind
   .rintro⟨d,b,o⟩;refine⟨d,?_,aI⟩;grind
  .rename_i g;have:kG l.D a=bD:=r l ar;refine⟨dp.2 ⟨λx j=>?_,n⟩,λx=>?_⟩
   .let⟨d,b,_⟩:=(k x).1 j;grind[ou,oK]
   .rw[dy,k];constructor
    .rintro(rfl|⟨d,b,o⟩)
     .refine⟨g,ar,λe c h=>?_⟩;obtain rfl|c:=dy.1 c
      .grind
      .exact(oK<|f e c).2 h
     .refine⟨?_,iz _ b,λe c h=>?_⟩
      .grind[oK,ou]
      grind
    .rintro⟨d,b,o⟩;obtain rfl|b:=dy.1 b
     .exact J z
     .by_cases p:x.D=l.D
      .left;have:=o l ar p.symm;have:=(oK<|f x b).2 p;exact m x (by simp[b]) l ar p U
      .exact bj ⟨p,b,aI⟩
def iX(a:af)(l:dB):dB:=l.filter<|λe=>!kG e.D a
def zci(l:dB)(k:af):Option E:=l.find?<|λe=>decide<|e.D=k
def QG(a:iF)(k:af):Option E:=a.findSome?<|λr=>zci r k
def Over(r s:dB):Prop:=∀a∈r,∀b∈s,a.D=b.D->b.f<a.f
def T4(a:iF):Prop:=a.Pairwise Over
def seen(a:iF)(k:af):Option af:=(QG a k).bind<|λe=>if e.dP then dE else M e.l

def gF(l:dB):Prop:=l.Pairwise<|λa b=>ahead a b=cz
def gF.kj:gF []:=List.Pairwise.nil
def gF.kD{m:dB}(h:gF m)(s:i.Sublist m):gF i:=oQ s h
def gF.zx(h:gF i):i.Pairwise (λa b=>ahead b a=bD):=h.imp<|λh=>ng h
def gF.Xy(h:gF i):zcq i:=by
 induction i with
 |nil=>intro k a;cases a
 |cons l r j=>
  let⟨n,d⟩:=dp.1 h;have:∀x∈r,x.D=l.D->x.f=l.f->False:=by
   grind[iS,jq]
  intro k a m e f g;obtain rfl|b:=dy.1 a<;>obtain rfl|c:=dy.1 e
  .rfl
  .grind
  .grind
  .exact j d k b m c f g
structure vR(l:dB):Prop where
 o:gF l
 D:∀e∈l,e.D≠⟨#[]⟩
def vR.kj:vR []:=⟨gF.kj,λ_ h=>by cases h⟩
def vR.kD{m:dB}(h:vR m)(s:i.Sublist m):vR i:=⟨h.o.kD s,λe a=>h.D e<|s.subset a⟩
def atR(b:Y)(r:dB):dB:=sh ⟨#[]⟩<|r.filter<|λe=>decide<|e.f<=b
def N8(h:vR i)(b:Y):Tq (atR b i)/\∀x,x∈atR b i↔x∈i/\x.f<=b/\∀a∈i,a.D=x.D->a.f<=b->a.f<=x.f:=by
 have c:gF (i.filter<|λe=>decide<|e.f<=b):=h.o.kD um;let⟨s,m⟩:=PG ⟨#[]⟩ c.zx c.Xy<|λx _=>LO x.D;refine⟨s,λx=>?_⟩;unfold atR;rw[m];constructor;rintro⟨_,d,e⟩;grind
 rintro⟨d,f,e⟩;exact⟨h.D x d,aI,aI⟩
def Y7(h:vR i):S∈atR r i↔S∈i/\S.f<=r/\∀a∈i,a.D=S.D->a.f<=r->a.f<=S.f:=(N8 h r).2 S
def A5(h:vR i)(a:S∈atR r i):S∈i:=((Y7 h).1 a).1
def kC(b:Y)(r:dB)(k:af):Option E:=r.find?<|λe=>decide (e.D=k)&&decide (e.f<=b)
def Over.at{r s:dB}(h:Over r s)(c:vR r)(d:vR s)(b:Y):Over (atR b r) (atR b s):=λx e a g j=>h x (A5 c e) a (A5 d g) j
def ww(a:cy Y)(p:Option E)(e:E):eN:=match p with
 |none=>cz
 |some p=>!decide (p.D=e.D)||a.any (λm=>decide (e.f<=m)&&decide (m<p.f))
def nR(a:cy Y):Option E->dB->dB
 |_,[]=>[]
 |p,e::r=>if ww a p e then e::nR a (M e) r else nR a (M e) r
def gu(a:cy Y)(l:dB):dB:=nR a dE l
def VE(a:cy Y)(l:dB):∀p,(nR a p l).Sublist l:=by
 induction l with
 |nil=>intro p;exact kJ _
 |cons e r b=>
  intro p;unfold nR;grind
theorem oE(a:cy Y)(l:dB):(gu a l).Sublist l:=VE a l dE
def vR.A(h:vR i)(a:cy Y):vR (gu a i):=h.kD<|oE a i
def Nv(h:∀r∈O,gF r):∀r∈O.modify b List.tail,gF r:=by
 intro r a;induction O generalizing b with
 |nil=>simp at a
 |cons x d c=>
  cases b with
  |zero=>
   simp only[sG,dy]at a;obtain rfl|a:=a
   .exact(h x ar).kD<|List.tail_sublist x
   grind
  |succ b=>
   grind
def YL(h:∀r∈O,gF r)(k:∀i,i<y O->∀f,nA O i=M f->ahead f S=bD):∀x∈O.flatten,ahead x S=bD:=by
 intro x l;let⟨r,g,a⟩:=dO.1 l;obtain⟨i,e,rfl⟩:=dJ g;have b:=h _ g;cases hc:O[i]with
 |nil=>rw[hc]at a;cases a
 |cons f t=>
  have j:nA O i=M f:=by simp[nA,e,hc]
  have d:=k i e f j;rw[hc]at a b;obtain rfl|c:=dy.1 a
  .exact d
  .exact yx d<|ng<|(dp.1 b).1 x c
def wz(a:iF)(h:∀r∈a,gF r):(eL a).Pairwise (λi b=>ahead b i=bD):=by
 generalize e:FW a=n;induction n generalizing a with
 |zero=>unfold eL;rw[e];exact List.Pairwise.nil
 |succ n g=>
  cases hb:mq a (y a)with
  |none=>rw[zS hb];simp_all
  |some b=>
   let⟨_,j,c,d⟩:=wD hb;rw[zR hb c];have:=ya c;refine dp.2 ⟨λx f=>?_,g _ (Nv h) U⟩;have:x∈(a.modify b List.tail).flatten:=(ku _).mem_iff.1 f;exact YL h d x<|(zQ c).mem_iff.2 aI
theorem Ks{b:E}(h:ahead b S=bD)(k:¬(S.D=b.D/\S.f=b.f)):ahead S b=cz:=by
 let⟨d,a⟩:=oK h;refine iS.2 ?_;by_cases c:S.D=b.D;have:=a c.symm;grind
 grind[ou]
def kM:dB->dB
 |[]=>[]
 |e::r=>if e.dP&&!((kM r).any λa=>decide<|a.D=e.D)then kM r else e::kM r
theorem nU(l:dB):(kM l).Sublist l:=by
 induction l with
 |nil=>exact kJ _
 |cons e r a=>
  unfold kM;grind
def vR.t(h:vR i):vR (kM i):=h.kD<|nU i
def qy(l:dB)(e:E):dB:=l.filter (λx=>ahead x e)++e::l.filter (λx=>ahead e x)
theorem JK{x:E}:x∈qy i S↔x=S\/(x∈i/\¬(x.D=S.D/\x.f=S.f)):=by
 unfold qy;simp only[aP,dy,lQ];grind[iS,jq,Ks]
def gF.qy(h:gF i)(e:E):gF (qy i e):=by
 unfold Go.Proofs.YtbgjhlkoccmfaaaGreatDoor.qy;refine eH.2 ⟨h.kD um,dp.2 ⟨ar,h.kD um⟩,λc a d b=>?_⟩;have:=(lQ.1 a).2;grind[tW]
def vR.qy(h:vR i)(a:S.D≠⟨#[]⟩):vR (qy i S):=by
 refine⟨h.o.qy S,λx b=>?_⟩;obtain rfl|⟨c,_⟩:=JK.1 b;exact a;exact h.D x c
def jJ(l m:dB):dB:=m.foldl qy l
def vR.jJ{m:dB}(h:vR i)(a:∀e∈m,e.D≠⟨#[]⟩):vR (jJ i m):=by
 induction m generalizing i with
 |nil=>exact h
 |cons e r b=>exact b (h.qy<|a e ar) aI
def OK{m:dB}(a:S∈jJ i m):S∈i\/S∈m:=by
 induction m generalizing i with
 |nil=>exact J a
 |cons e r b=>
  obtain q|q:=b a
  .grind[JK]
  grind
def vE(e:E):iF->iF
 |(x::g)::a=>if x.D=e.D then(e::x::g)::a else [e]::(x::g)::a
 |a=>[e]::a
def jh:dB->iF
 |[]=>[]
 |e::r=>vE e<|jh r
def FK(l:dB):∀g∈jh l,g≠[]:=by
 induction l with
 |nil=>intro g a;cases a
 |cons e r b=>
  intro g a;unfold jh vE at a;grind
def rk(l:dB):(jh l).flatten=l:=by
 induction l with
 |nil=>rfl
 |cons e r a=>
  unfold jh vE;grind
theorem AO(l:dB):∀g∈jh l,∀x∈g,∀a∈g,x.D=a.D:=by
 induction l with
 |nil=>intro g b;cases b
 |cons e r c=>
  intro g b;have:∀x∈[e],∀a∈[e],x.D=a.D:=ar;unfold jh vE at b;grind
def JP(e:E)(r:dB):∃g a,jh (e::r)=(e::g)::a:=by
 unfold jh vE;split;split;(grind);grind
 grind
def LQ(e:E)(a b:iF)(h:a≠[]):vE e (a++b)=vE e a++b:=by
 cases a with
 |nil=>grind
 |cons g a=>
  cases g with
  |nil=>rfl
  |cons x g=>
   simp only[dt,vE];split<;>rfl
def Ph(p s:dB)(h:∀c∈p.getLast?,∀b∈s.head?,c.D≠b.D):jh (p++s)=jh p++jh s:=by
 induction p with
 |nil=>rfl
 |cons e r g=>
  cases r with
  |nil=>
   cases s with
   |nil=>rfl
   |cons b s=>
    have f:e.D≠b.D:=h e ar b ar;let⟨i,d,a⟩:=JP b s;show vE e (jh<|b::s)=[[e]]++jh (b::s);rw[a];simp only[vE];rw[fM<|λc=>f c.symm];rfl
  |cons x r=>
   have:=g<|λc a b d=>h c (dV a) b d;show vE e (jh<|(x::r)++s)=vE e (jh<|x::r)++jh s;rw[this,LQ];let⟨i,d,a⟩:=JP x r;rw[a];simp
def Zf(h:i≠[])(a:∀x∈i,∀b∈i,x.D=b.D):jh i=[i]:=by
 induction i with
 |nil=>grind
 |cons e r c=>
  cases r with
  |nil=>rfl
  |cons x r=>
   have:=c ar<|λd f e g=>a d aI e aI;show vE e (jh<|x::r)=_;rw[this];simp only[vE];rw[fV<|a x ar e ar]
theorem qO(a:cy Y)(p:Option E)(e:E)(r:dB):nR a p (e::r)=if ww a p e then e::nR a (M e) r else nR a (M e) r:=rfl
def Ca(e:E)(r:dB):kM (e::r)=if e.dP&&!((kM r).any λa=>decide<|a.D=e.D)then kM r else e::kM r:=rfl
def Lz(a:cy Y)(l s:dB):∀p:Option E,(∀c,(p.toList++l).getLast?=M c->∀b∈s.head?,c.D≠b.D)->nR a p (l++s)=nR a p l++nR a dE s:=by
 induction l with
 |nil=>
  intro p h;cases s with
  |nil=>rfl
  |cons b s=>
   cases p with
   |none=>rfl
   |some q=>
    have f:q.D≠b.D:=h q ar b ar;show nR a (M q) (b::s)=nR a dE (b::s);have d:ww a (M q) b=cz:=by simp[ww,f]
    have e:ww a dE b=cz:=rfl;rw[qO,qO,fV d,fV e]
 |cons i r g=>
  intro p h;have:=g (M i) (λc a b d=>h c (by
   grind) b d)
  grind[qO]
def EJ(a:cy Y)(l s:dB)(h:∀b∈l.getLast?,∀c∈s.head?,b.D≠c.D):gu a (l++s)=gu a l++gu a s:=Lz a l s dE aI
def Ql(l s:dB)(h:∀a∈l,∀f∈s,a.D≠f.D):kM (l++s)=kM l++kM s:=by
 induction l with
 |nil=>rfl
 |cons e r d=>
  have b:=d (λa c=>h a<|by simp[c]);show kM (e::(r++s))=_;rw[Ca,Ca,b,List.any_append];have c:((kM s).any λa=>decide<|a.D=e.D)=bD:=by
   rw[List.any_eq_false];grind[nU]
  rw[c,Bool.or_false];split<;>rfl
def xA(g:dB):dB:=(g.reverse.dropWhile<|λe=>e.dP).reverse
def Jg(g:dB)(e:E):xA (g++[e])=if e.dP then xA g else g++[e]:=by
 unfold xA;simp only[List.reverse_append,wa,List.reverse_nil,ep,mG,List.dropWhile_cons];split<;>simp
def Uz(e:E)(g:dB):xA (e::g)=if xA g=[]then(if e.dP then []else [e])else e::xA g:=by
 unfold xA;rw[wa,List.dropWhile_append];cases hq:g.reverse.dropWhile (λe=>e.dP)with
 |nil=>
  simp[List.dropWhile_cons];split<;>simp_all
 |cons x r=>simp
def z8(d:∀x∈i,∀a∈i,x.D=a.D):kM i=xA i:=by
 induction i with
 |nil=>rfl
 |cons f r e=>
  have c:=e (λf a g b=>d f (by simp[a]) g<|by simp[b]);rw[Ca,c,Uz];have b:∀a∈xA r,a.D=f.D:=λa e=>d a (by rw[<-c]at e;simp[(nU r).subset e]) f ar;cases ht:xA r with
  |nil=>simp
  |cons x t=>
   have:x.D=f.D:=b x (by rw[ht];simp);simp[this]
def E.t(e:E):ae:=ef #[aw e.D,aw e.l,aO e.dP,bw e.f]
def E.bU(e:E):iE:=[aw e.D,aw e.l,aO e.dP,bw e.f]
def qn(d:eN):Y:=if d then 1 else 0
def iM(s:af):eD:=(s.size:Y)::km s
def oz(e:E):eD:=qn e.dP::(iM e.D++iM e.l)
def fm.ne{w c:Z}{a:ae}(h:fm w c d a)(g:cN d≠M b)(e:b<G (H w)):cN a≠M b:=by
 grind[fm.f]
def fm.u{w w':Z}{e:ae}(h:fm w w' d e){N i:R}{u:ae}(a:bA w (X N i)=M u)(c:cN d≠M N):bA w' (X N i)=M u:=h.dF.cell a<|λg=>c g.symm
def fy.lt{w:Z}{bs:eD}(h:fy w c d bs):∀k,cN d=M k->c<=k/\k<G (H w):=aS h
def fy.df{w w':Z}(h:fy w b d m)(e:w'.heap=w.heap):fy w' b d m:=by
 unfold fy World.ownsRow at*;rwa[e]
def fm.df{a g w':Z}(h:fm g w' d w)(e:(a.os,a.tape,a.output,a.heap)=(g.os,g.tape,g.output,g.heap)):fm a w' d w:=by
 simp only[js]at e;let⟨i,j,k,b⟩:=e;refine⟨⟨by rw[h.dF.os,i],by rw[h.dF.tape,j],by rw[h.dF.output,k],b▸h.dF.size,λm e l=>by rw[b]at e|-;exact h.dF.block m e l⟩,b▸h.f⟩
def fm.D{o:Obj}(h:fm (a.alloc o).drew e d w):fm a e d w:=(fm.df (a:=a.alloc o) h rfl).aE o
def TQ(n:R)(aa:ae)(m:eD)(ab:E)(w:Z)(o:fy w n aa m)(hb:n<=G (H w))(hl:y m<=35184372088832)(S:ab.D.size<=255)(T:ab.l.size<=255):cR bN 226 #[aa,ab.t] w λD w'=>∃V,D=aN V/\fy w' n V (m++oz ab)/\fm w w' aa V:=by
 let⟨a,d,A,i⟩:=ab;simp only at S T;unfold E.t;simp only;have g:cN aa≠M (G<|H w):=λD=>bP<|(o.lt _ D).2;have O0:=ak<|o.aE<|aK #[aw a,aw d,aO A,bw i] 223;cases A with
 |true=>
  go_in
  go_wp21;go_region_held3(λB=>bA B (X (G<|H w) 0)=M (aw a)/\bA B (X (G<|H w) 1)=M (aw d)) (first|assumption|go_keep) (first
   |(go_at_call 225;refine(wu n aa m 1 _ ?_ dW U).mono ?_;exact O0.df z;rintro D v⟨t,rfl,p,b⟩;have e:cN t≠M (G<|H w):=b.ne g ar;have k:bA v (X (G<|H w) 0)=M (.string a)/\bA v (X (G<|H w) 1)=M (.string d):=⟨b.u ar g,b.u ar g⟩;have s:G (H w)<G (H v):=(by have:=b.dF.size;simp at this;omega);have F:=ak p;have N:=ak b)
   |(go_at_call_of 267 t;refine(rf n t (m++[1]) a _ ?_ U ?_ S).mono ?_;exact F.df z;(simp;omega);rintro D x⟨u,rfl,q,c⟩;have j:cN u≠M (G<|H w):=c.ne e s;have l:bA x (X (G<|H w) 0)=M (.string a)/\bA x (X (G<|H w) 1)=M (.string d):=⟨c.u k.1 e,c.u k.2 e⟩;have ad:G (H w)<G (H x):=(bP c.dF.size);have K:=ak q;have O:=ak<|N.aj c)
   |(go_at_call_of 267 u;refine(rf n u (m++[1]++iM a) d _ ?_ U ?_ T).mono ?_;exact K.df z;(simp[iM,iw];omega);rintro D C⟨W,rfl,r,f⟩;have ac:bA C (X (G (H w)) 0)=M (.string a)/\bA C (X (G (H w)) 1)=M (.string d):=⟨f.u l.1 j,f.u l.2 j⟩;have L:=ak r;have P:=ak (O.aj f)))
  go_wp2;go_ret;refine⟨W,z,?_,P.D⟩;have Q:=ag L;simpa[oz,qn,iM,cw]using Q
 |false=>
  go_in
  go_wp21;go_region_held3(λB=>bA B (X (G<|H w) 0)=M (aw a)/\bA B (X (G<|H w) 1)=M (aw d)) (first|assumption|go_keep) (first
   |(go_at_call 225;refine(wu n aa m 0 _ ?_ dW U).mono ?_;exact O0.df z;rintro D v⟨t,rfl,p,b⟩;have e:cN t≠M (G<|H w):=b.ne g ar;have k:bA v (X (G<|H w) 0)=M (.string a)/\bA v (X (G<|H w) 1)=M (.string d):=⟨b.u ar g,b.u ar g⟩;have s:G (H w)<G (H v):=(by have:=b.dF.size;simp at this;omega);have F:=ak p;have N:=ak b)
   |(go_at_call_of 267 t;refine(rf n t (m++[0]) a _ ?_ U ?_ S).mono ?_;exact F.df z;(simp;omega);rintro D x⟨u,rfl,q,c⟩;have j:cN u≠M (G<|H w):=c.ne e s;have l:bA x (X (G<|H w) 0)=M (.string a)/\bA x (X (G<|H w) 1)=M (.string d):=⟨c.u k.1 e,c.u k.2 e⟩;have:G (H w)<G (H x):=(bP c.dF.size);have K:=ak q;have O:=ak<|N.aj c)
   |(go_at_call_of 267 u;refine(rf n u (m++[0]++iM a) d _ ?_ U ?_ T).mono ?_;exact K.df z;(simp[iM,iw];omega);rintro D C⟨W,rfl,r,f⟩;have:bA C (X (G (H w)) 0)=M (.string a)/\bA C (X (G (H w)) 1)=M (.string d):=⟨f.u l.1 j,f.u l.2 j⟩;have L:=ak r;have P:=ak (O.aj f)))
  go_wp2;go_ret;refine⟨W,z,?_,P.D⟩;have Q:=ag L;simpa[oz,qn,iM,cw]using Q
def uy(b:cy Y)(a:eN)(c:iF):dB:=if a then kM (gu b<|eL c)else gu b (eL c)
abbrev yO(l:dB):Prop:=l.Pairwise<|λa b=>ahead b a=bD
def En{b:E}(h:ahead b S=bD):kG b.D S.D=bD:=by
 cases q:kG b.D S.D with
 |false=>rfl
 |true=>rw[iS.2<|J q]at h;cases h
def lI(g h:dB):Prop:=∀x∈g,∀a∈h,kG x.D a.D=cz
def DX(h:yO i):(jh i).Pairwise lI:=by
 induction i with
 |nil=>exact List.Pairwise.nil
 |cons u r b=>
  let⟨n,o⟩:=dp.1 h;have b:=b o;unfold jh vE;split
  .rename_i x k f e;have g:(x::k)++f.flatten=r:=by have:=rk r;rw[e]at this;grind
   have a:∀b∈x::k,b.D=x.D:=λb c=>AO r (x::k) (by rw[e];simp) b c x ar;rw[e]at b;split
   .rename_i j;let⟨p,s⟩:=dp.1 b;refine dp.2 ⟨λt c v l m d=>?_,s⟩;have:=p t c x ar m d;grind
   .rename_i j;refine dp.2 ⟨λt c v l m d=>?_,b⟩;rw[bY.1 l];have p:kG u.D x.D=cz:=by
     have s:=En<|n x (by rw[<-g];simp);cases q:kG u.D x.D with
     |true=>rfl
     |false=>exact absurd (ou q s) aI
    obtain rfl|c:=dy.1 c
    .rwa[a m d]
    .exact my p<|(dp.1 b).1 t c x ar m d
  .rename_i f e;have a:jh r=[]:=by
    cases j:jh r with
    |nil=>rfl
    |cons k f=>
     cases k with
     |nil=>exact absurd z<|FK r [] (by rw[j];simp)
     |cons x k=>grind
   rw[a];grind
def lR(n L:R):R->R->dB->iF->iF
 |_,_,_,[]=>[]
 |k,b,a,g::c=>
  if(k+1)*L/n<=b+y g then(a++g)::lR n L (k+1) (b+y g) [] c
  else lR n L k (b+y g) (a++g) c
theorem qY(n L k b:R)(a g:dB)(c:iF):lR n L k b a (g::c)=if(k+1)*L/n<=b+y g then(a++g)::lR n L (k+1) (b+y g) [] c else lR n L k (b+y g) (a++g) c:=rfl
def Rf{n L:R}(i:0<n):∀(c:iF)(k d:R)(a:dB),d+y c.flatten=L->(k<n\/(c.flatten=[]/\a=[]))->(a≠[]->d<(k+1)*L/n)->(lR n L k d a c).flatten=a++c.flatten:=by
 intro c;induction c with
 |nil=>
  intro k d a f b g;have:a=[]:=by
   obtain b|b:=b
   .by_cases e:a=[]
    .exact e
    .have:=g e;have h:(k+1)*L/n<=L:=Nat.div_le_of_le_mul<|Nat.mul_le_mul_right L b;grind
   .exact b.2
  rw[this];rfl
 |cons m c j=>
  intro k d a f b g;simp only[di,ai]at f b;rw[qY];split
  .rename_i e;rw[di,j (k+1) (d+y m) [] U ?_<|absurd rfl]
   .simp
   .obtain b|b:=b
    .by_cases h:k+1<n
     .exact J h
     .have l:k+1=n:=U;rw[l,Nat.mul_div_cancel_left L i]at e;exact bj ⟨bG U,z⟩
    grind[append_eq_nil_iff]
  grind[append_eq_nil_iff]
def Nw:∀(d:iF)(k e:R)(a:dB),(∀g∈d,g≠[])->∀p∈lR b c k e a d,p≠[]:=by
 intro d;induction d with
 |nil=>intro k e a _ p f;cases f
 |cons g d h=>
  grind[qY,append_eq_nil_iff]
def US{n L F V:R}(l:0<n)(hF:L<=n*F)(h:0<F):∀(c:iF)(k e:R)(a:dB),(∀g∈c,y g<=V+1)->k*L/n+y a<=e->(a≠[]->e<(k+1)*L/n)->∀p∈lR n L k e a c,y p<=F+V:=by
 intro c;induction c with
 |nil=>intro k e a _ _ _ p b;cases b
 |cons g c r=>
  intro k e a i m o p b;have j:=i g ar;have f:(k+1)*L/n<=k*L/n+F:=by
   have:(k+1)*L<=k*L+n*F:=by rw[Nat.add_mul,Nat.one_mul];omega
   exact aR (Nat.div_le_div_right this)<|Nat.le_of_eq<|Nat.add_mul_div_left _ _ l
  rw[qY]at b;split at b
  .rename_i q;obtain rfl|b:=dy.1 b
   .rw[ai];by_cases d:a=[]
    .rw[d];simp;omega
    grind
   grind
  grind
def Re:∀(e:iF)(n g:R)(a:dB),e.Pairwise lI->(∀o∈e,lI a o)->(lR b c n g a e).Pairwise lI/\∀w∈lR b c n g a e,∀x∈w,x∈a\/x∈e.flatten:=by
 intro e;induction e with
 |nil=>intro n g a _ _;exact⟨List.Pairwise.nil,λw k=>by cases k⟩
 |cons o e s=>
  intro n g a k p;let⟨t,u⟩:=dp.1 k;rw[qY];split
  .let⟨r,v⟩:=s (n+1) (g+y o) [] u (λ_ _ x d=>by cases d);refine⟨dp.2 ⟨λq A x d f l=>?_,r⟩,λw k x d=>?_⟩
   .have m:f∈e.flatten:=aI;let⟨h,i,j⟩:=dO.1 m;obtain d|d:=aP.1 d
    .exact p h (by simp[i]) x d f j
    .exact t h i x d f j
   grind
  .let⟨r,v⟩:=s n (g+y o) (a++o) u (λh i x d f l=>by
    obtain d|d:=aP.1 d
    .exact p h (by simp[i]) x d f l
    .exact t h i x d f l)
   grind
def Ly(a:cy Y)(h:yO i)(f:∀x∈i,∀g∈i,x.D=g.D):∀p:Option E,yO (p.toList++i)->(∀q∈p,∀x∈i,q.D=x.D)->y (nR a p i)<=y (a.filter (λm=>match p with|none=>cz|some q=>decide<|m<q.f))+(if p=dE then 1 else 0):=by
 induction i with
 |nil=>intro p _ _;simp[nR]
 |cons e r d=>
  intro p k c;have d:=d (oQ ar h) aI (M e) h aI;simp only[reduceCtorEq,mz,ma]at d;rw[qO];cases p with
  |none=>
   have b:ww a dE e=cz:=rfl;rw[fV b];simp only[bK,mS];grind[filter_eq_self,length_filter_le,Nat.succ_le_succ,Nat.le_trans]
  |some q=>
   have:e.f<=q.f:=by
    have j:=(eH.1 k).2.2 q ar e ar;have f:=c q z e ar;by_cases c2:q.f<e.f
    .rw[iS.2<|bj ⟨f.symm,c2⟩]at j;cases j
    .omega
   have:y (nR a (M e) r)<=y (a.filter<|λm=>decide<|m<e.f):=d;simp only[reduceCtorEq,mz,ma];show _<=y (a.filter<|λm=>decide<|m<q.f);have b:∀a:cy Y,y (a.filter<|λm=>decide<|m<e.f)+y (a.filter<|λm=>decide (e.f<=m)&&decide (m<q.f))=y (a.filter<|λm=>decide<|m<q.f):=by
    intro a;induction a with
    |nil=>rfl
    |cons m a j=>
     grind
   have:=b a;split
   .rename_i j;simp only[ww,c q rfl e ar,zk,tj,Bd]at j;have:0<y (a.filter<|λm=>decide (e.f<=m)&&decide (m<q.f)):=by
     simp_all
    grind
   .omega
def Xa{b c:E}(h:ahead b S=bD)(k:ahead b c=cz):ahead S c=cz:=by
 cases q:ahead S c with
 |true=>rfl
 |false=>
  have a:=En h;obtain c1|⟨c1,c2⟩:=iS.1 k
  .have:kG S.D c.D=cz:=by
    cases q2:kG S.D b.D with
    |true=>exact my q2 c1
    |false=>rwa[ou q2 a]
   rw[iS.2<|J this]at q;cases q
  .cases q2:kG S.D b.D with
   |true=>rw[iS.2<|J<|c1▸q2]at q;cases q
   |false=>
    have e:=ou q2 a;by_cases c3:S.f<b.f
    .rw[iS.2<|bj ⟨e.symm,c3⟩]at h;cases h
    .rw[iS.2<|bj ⟨e.trans c1,U⟩]at q;cases q
def JI(f:cy Y):∀(l:dB)(p:Option E),yO (p.toList++l)->gF (nR f p l)/\∀q∈p,∀x∈nR f p l,ahead q x=cz
 |[],_,_=>⟨List.Pairwise.nil,by intro q _ x a;cases a⟩
 |e::r,p,h=>by
  have k:yO (e::r):=oQ ar h;let⟨g,i⟩:=JI f r (M e) k;have d:∀q∈p,ahead e q=bD:=λq d=>by
   subst d;exact(dp.1 h).1 e ar
  have j:∀q∈p,∀x∈nR f (M e) r,ahead q x=cz:=λq c x a=>Xa (d q c)<|i e z x a;rw[qO];split
  .rename_i b;refine⟨dp.2 ⟨λx a=>i e z x a,g⟩,λq c x a=>?_⟩;obtain rfl|a:=dy.1 a
   .subst c;unfold ww at b;simp only[yX,nL,nN,rD,Bool.not_eq_true',decide_eq_false_iff_not]at b;have m:=En<|d q z;cases q2:kG q.D x.D with
    |true=>exact iS.2<|J q2
    |false=>
     have e:=ou q2 m;obtain b|⟨s,_,n,o⟩:=b
     .exact absurd e b
     .exact iS.2<|bj ⟨e,U⟩
   .exact j q c x a
  .exact⟨g,j⟩
def zP(h:yO i)(a:cy Y):gF (gu a i):=(JI a i dE h).1
theorem rU{b:eN}(h:V=b):Ending.returned (aO V)=aN (aO b):=by rw[h]
theorem rl(s:af)(w:Z)(f:s.size<=140737488351232):cR bN 104 #[aw s] w λe d=>e=aN (aO<|decide<|1<=s.size/\s.size<=8)/\d=w:=by
 by_cases b:1<=s.size;(.by_cases c:s.size<=8;(·(have a:decide (1<=s.size/\s.size<=8)=cz:=by simp[b,c]);rw[a];(go_in);go_wp2;go_ret;exact⟨rU dW,z⟩);(have a:decide (1<=s.size/\s.size<=8)=bD:=by simp[b,c]);rw[a];(go_in);go_wp2;go_ret;exact⟨rU dW,z⟩);(have a:decide (1<=s.size/\s.size<=8)=bD:=by simp[b]);rw[a];(go_in);go_wp2;go_ret;simp_all
theorem zV(s:af)(w:Z)(d:s.size<=140737488351232):cR bN 105 #[aw s] w λe c=>e=aN (aO<|decide<|s.size<=16)/\c=w:=by
 by_cases b:s.size<=16;(·(have a:decide (s.size<=16)=cz:=by simp[b]);rw[a];(go_in);go_wp2;go_ret;exact⟨rU dW,z⟩);(have a:decide (s.size<=16)=bD:=by simp[b]);rw[a];(go_in);go_wp2;go_ret;exact⟨rU dW,z⟩
structure E.Good(x:E):Prop where
 L:1<=x.D.size
 f:x.D.size<=8
 l:x.l.size<=16
 dP:x.dP=cz->x.l=⟨#[]⟩
 b0:0<=x.f
 b1:x.f<18446744073709551616
theorem rR(a b:eD):fY (a++b) bD (y a)=(b,bD,a):=by
 unfold fY;rw[fM ar];simp
def yg(s:af)(b:eD):nP (iM s++b) bD=(b,bD,km s)/\dz (iM s++b) bD 1=s.size:=by
 have a:fY (iM s++b) bD 1=(km s++b,bD,[(s.size:Y)]):=by have:=rR [(s.size:Y)]<|km s++b;simpa[iM]using this
 have c:dz (iM s++b) bD 1=s.size:=by unfold dz;rw[a];simp[jv]
 refine⟨?_,c⟩;unfold nP;grind[rR,iw]
def EN(d:eN)(b:eD):fY (qn d::b) bD 1=(b,bD,[qn d])/\dz (qn d::b) bD 1=qn d:=by
 have h:=rR [qn d] b;have a:fY (qn d::b) bD 1=(b,bD,[qn d]):=dV h;exact⟨a,by unfold dz;rw[a];simp[jv]⟩
def l9{α:Type}{l:cy α}{p:α->eN}(h:l.Pairwise (λa b=>p b=cz->p a=cz)):l.take (l.countP p)=l.filter p/\l.drop (l.countP p)=l.filter (λx=>!p x):=by
 induction l with
 |nil=>simp
 |cons x r e=>
  let⟨c,d⟩:=dp.1 h;grind
def mO(l:dB)(e:E):R:=l.countP<|λx=>ahead x e
def Lq(l:dB)(e:E):mO l e<=y l:=List.countP_le_length
def gF.ur(h:gF i)(e:E):i.take (mO i e)=i.filter (λx=>ahead x e)/\i.drop (mO i e)=i.filter (λx=>!ahead x e):=l9<|h.imp λ{_ _}q c=>tW q c
def gF.aT{l:dB}(h:gF l){i j:R}(a:i<=j)(c:j<y l){g:E}(d:ahead l[j] g=cz):ahead (l[i]'U) g=cz:=by
 obtain e|e:=ol a;exact tW (cW.1 h i j U c e) d;grind
def H6(e:b<=y i)(c:∀t(a:t<y i),t<b->ahead i[t] S=cz)(d:∀t(a:t<y i),b<=t->ahead i[t] S=bD):mO i S=b:=by
 unfold mO;rw[<-du b i,List.countP_append];have:(i.take b).countP (λx=>ahead x S)=b:=by rw[List.countP_eq_length.2];simp;omega;grind[getElem_of_mem]
 grind[countP_eq_zero,getElem_of_mem]
def SL(h:gF i)(k v:af)(e:eN)(b:Y):kC b i k=if c:∃a:mO i ⟨k,v,e,b⟩<y i,i[mO i ⟨k,v,e,b⟩].D=k then M (i[mO i ⟨k,v,e,b⟩]'c.1)else dE:=by
 induction i with
 |nil=>simp[kC]
 |cons x r d=>
  let⟨m,g⟩:=dp.1 h;have d:=d g;unfold kC at d|-;cases ha:ahead x ⟨k,v,e,b⟩with
  |true=>
   have a:mO (x::r) ⟨k,v,e,b⟩=mO r ⟨k,v,e,b⟩+1:=List.countP_cons_of_pos (p:=λx=>ahead x ⟨k,v,e,b⟩) ha;have f:(decide (x.D=k)&&decide (x.f<=b))=bD:=by
    grind[iS,DV]
   rw[List.find?_cons_of_neg<|dV f,d];simp[a]
  |false=>
   have a:mO (x::r) ⟨k,v,e,b⟩=0:=by
    refine List.countP_eq_zero.2 λl n=>?_;grind[yx,ng]
   let⟨o,j⟩:=oK ha;by_cases f:x.D=k
   .have:=j f;rw[List.find?_cons_of_pos aI];simp[a,f]
   grind[ou,iS,sY,find?_eq_none]
def Vp(h:gF i)(a v:af)(d:eN)(b:∀x∈i,x.f<=r):i.drop (mO i ⟨a,v,d,r⟩)=iX a i:=by
 rw[(h.ur _).2];refine wg λx c=>?_;congr 1;rw[Bool.eq_iff_iff,iS];grind
def Uu(h:gF i)(e:E)(a:mO i e<y i)(d:i[mO i e].D=e.D)(b:i[mO i e].f=e.f):i.set (mO i e) e=qy i e:=by
 unfold qy;rw[kB,fV a,(h.ur e).1];congr 2;have c:=(h.ur e).2;rw[dm a]at c;have j:gF (i[mO i e]::i.drop (mO i e+1)):=dm a▸h.kD (mV _ _);have:=(dp.1 j).1;have g:ahead e i[mO i e]=bD:=by unfold ahead;simp[d,b,jq]
 have:∀a,ahead i[mO i e] a=ahead e a:=λa=>by unfold ahead;rw[d,b]
 generalize i[mO i e]=m9 at*;have f:i.filter (ahead e)=(i.filter<|λx=>!ahead x e).filter (ahead e):=by rw[List.filter_filter];grind[filter_congr,ng]
 rw[f,<-c,qW (by simp[g]),nE.2];grind
def Uw(h:gF i)(e:E)(a:∀x∈i,¬(x.D=e.D/\x.f=e.f)):i.take (mO i e)++e::i.drop (mO i e)=qy i e:=by
 unfold qy;rw[(h.ur e).1,(h.ur e).2];grind[filter_congr,ng,Ks]
def gF.zap(h:gF i)(e:E)(j:∀b:mO i e<y i,¬(i[mO i e].D=e.D/\i[mO i e].f=e.f)):∀x∈i,¬(x.D=e.D/\x.f=e.f):=by
 rintro x n⟨g,f⟩;have c:ahead x e=bD:=by unfold ahead;simp[g,f,jq]
 have a:x∈i.drop (mO i e):=by rw[(h.ur e).2];simp[n,c]
 have b:mO i e<y i:=by grind[Nat.lt_or_ge,drop_eq_nil_of_le]
 have o:=(h.ur e).2;rw[dm b]at a o;have d:ahead i[mO i e] e=bD:=by grind[mem_cons_self]
 have m:gF (i[mO i e]::i.drop (mO i e+1)):=dm b▸h.kD (mV _ _);have k:=j b;generalize i[mO i e]=m9 at*;obtain rfl|a:=dy.1 a;grind
 have:=(dp.1 m).1 x a;(have l:ahead m9 x=ahead m9 e:=by unfold ahead;rw[g,f]);rw[l,d]at this;cases this
def gF.Zg(h:gF i)(a:b<=c)(e:c<y i):kG i[c].D (i[b]'U).D=bD:=by
 obtain d|d:=ol a;exact(oK<|ng<|cW.1 h b c U e d).1;subst d;exact jq _
def gF.FJ(h:gF i)(a:0<y i)(b:S∈i):kG (i[y i-1]'U).D S.D=bD:=by
 obtain⟨d,c,rfl⟩:=dJ b;exact h.Zg U U
def gF.xS(h:gF i)(a:0<y i)(c:S∈i):kG S.D (i[0]'a).D=bD:=by
 obtain⟨d,b,rfl⟩:=dJ c;exact h.Zg (bQ d) b
def Bg(b:Y)(l s:dB)(k:af):kC b (l++s) k=(kC b l k).or (kC b s k):=List.find?_append
def tv{l:dB}(h:∀x∈l,x.D≠B):kC r l B=dE:=List.find?_eq_none.2 aI
def CU{cs:iF}{k:af}{i:R}(f:i<y cs)(h:∀x∈cs.flatten,x.D=k->∃q:i<y cs,x∈cs[i])(e:cs.Pairwise lI)(o:Y):kC o cs.flatten k=kC o cs[i] k:=by
 have p:cs.flatten=(cs.take i).flatten++(cs[i]++(cs.drop<|i+1).flatten):=by grind[take_append_drop,drop_eq_getElem_cons,flatten_append,flatten_cons]
 have n:∀j(b:j<y cs),j≠i->∀x∈cs[j],x.D≠k:=by intro j b c x d m;let⟨_,a⟩:=h x (dO.2 ⟨_,aB b,d⟩) m;obtain g|g:=Nat.lt_or_gt_of_ne c;have:=cW.1 e j i b f g x d x a;rw[jq]at this;cases this;have:=cW.1 e i j f b g x a x d;rw[jq]at this;cases this
 rw[p,Bg,Bg,tv,tv (l:=(cs.drop<|i+1).flatten)];simp;grind[mem_flatten,getElem_of_mem]
 grind[mem_flatten,getElem_of_mem]
def zet(l:kV):Prop:=l.Pairwise<|λa b=>kG a.1 b.1=cz
def zax(a:iF)(l:kV):Prop:=zet l/\∀k v,(k,v)∈l↔seen a k=M v
def zax.yL{a:iF}{l:kV}(h:zax O l)(e:∀k,seen a k=seen O k):zax a l:=⟨h.1,λk v=>by rw[e k];exact h.2 k v⟩
def BQ(e:E):KV:=(e.D,e.l)
def Ee(c:af)(a:Y):kV->kV->kV
 |b,[]=>b
 |b,p::r=>if(!(c.toList==[])&&!kG p.1 c)=cz then b else if((y b:Y)+1==a)=cz then b++[p]else Ee c a (b++[p]) r
def pK:R->iF->cy (R×dB)
 |_,[]=>[]
 |n,g::a=>(n,g)::pK (n+y g) a
def ji(a:cy (R×dB)):dB:=(a.map (·.2)).flatten
def DY:∀(n:R)(a:iF),(pK n a).map (·.2)=a
 |_,[]=>rfl
 |n,g::a=>by rw[pK,bO,DY]
def CS(l:dB):ji (pK 0<|jh l)=l:=by unfold ji;rw[DY,rk]
def AP:∀(b:iF)(k n:R)(a:cy (R×dB))(g:dB),(a++[(n,g)])<+:pK k b->n=k+y (ji a)/\(a.map (·.2)++[g])<+:b
 |[],k,n,a,g,h=>by
  have:=h.length_le;simp[pK]at this
 |g0::b,k,n,a,g,h=>by
  rw[pK]at h;cases a with
  |nil=>
   let⟨s,c⟩:=h;simp at c;obtain⟨⟨rfl,rfl⟩,c⟩:=c;exact⟨by simp[ji],ar⟩
  |cons p a=>
   rw[dt,List.cons_prefix_cons]at h;obtain⟨e,f⟩:=h;obtain⟨c,d⟩:=AP b _ n a g f;subst e;refine⟨?_,?_⟩
   .rw[c];simp[ji];omega
   .simp[d]
structure Qx(l p g s:dB):Prop where
 dq:l=p++g++s
 ne:g≠[]
 bM:∀x∈g,∀g9∈g,x.D=g9.D
 da:lI p g
 xQ:lI g s
def LP(o:yO i){a:cy (R×dB)}{g:dB}(h:(a++[(b,g)])<+:pK 0 (jh i)):b=y (ji a)/\∃u,Qx i (ji a) g u:=by
 let⟨s,t,k⟩:=AP _ _ _ _ _ h;have j:=DX o;have m:g∈jh i:=by rw[<-k];simp
 have l:=rk i;rw[<-k]at j l;rw[cw]at j;let⟨_,p,q⟩:=eH.1 j;refine⟨U,t.flatten,⟨by rw[<-l];simp[ji],FK i g m,AO i g m,λx c e d=>?_,λx c e d=>?_⟩⟩;let⟨n,f,c⟩:=dO.1 c;exact q n f g ar x c e d;let⟨n,f,d⟩:=dO.1 d;have r:(g::t).Pairwise lI:=dV p;exact(dp.1 r).1 n f x c e d
def vG(a:cy (R×dB))(n:R)(g:dB):ji (a++[(n,g)])=ji a++g:=by simp[ji]
def lI.ne{g:dB}(h:lI i g):∀a∈i,∀b∈g,a.D≠b.D:=λa c b d=>DV<|h a c b d
def Qx.A{p g s:dB}(h:Qx i p g s)(a:cy Y):gu a (p++g)=gu a p++gu a g:=EJ a p g<|λd b e c=>h.da.ne d (List.mem_of_getLast? b) e<|List.mem_of_head? c
def Qx.t{p g s:dB}(h:Qx i p g s):kM (p++g)=kM p++xA g:=by rw[Ql p g h.da.ne,z8 h.bM]
def Sl(a:cy Y)(l:dB)(x:E):∀p:Option E,nR a p (l++[x])=nR a p l++(if ww a ((p.toList++l).getLast?) x then [x]else []):=by
 induction l with
 |nil=>intro p;cases p<;>simp[nR]
 |cons e r b=>
  intro p;rw[dt,qO,qO,b<|M e];have:(p.toList++e::r).getLast?=((M e).toList++r).getLast?:=aI;rw[this];split<;>simp
def wanted(a:cy Y)(g:dB)(i:R)(h:i<y g):eN:=decide (i=0)||a.any (λm=>decide (g[i].f<=m)&&decide (m<(g[i-1]'U).f))
def VD{ms:cy Y}(c:∀x∈i,∀a∈i,x.D=a.D)(h:b<y i):gu ms (i.take<|b+1)=gu ms (i.take b)++(if wanted ms i b h then [i[b]]else []):=by
 rw[aG h];unfold gu;rw[Sl];congr 2;simp only[Option.toList_none,ep];cases b with
 |zero=>simp[ww,wanted]
 |succ b=>
  have d:(i.take<|b+1).getLast?=M i[b]:=by
   grind
  rw[d];have:=c i[b] (aB _) i[b+1]<|aB _;simp[ww,wanted,this]
def Ux(e:b<=y i)(h:xA i=xA (i.take b))(a:b=0\/∃h:b-1<y i,i[b-1].dP=bD):xA i=i.take b:=by
 rw[h];obtain rfl|⟨c,d⟩:=a;simp[xA]
 .cases b with
  |zero=>simp[xA]
  |succ b=>
   rw[aG U,Jg];grind
def Uy(c:b<y i)(a:i[b].dP=cz):xA (i.take<|b+1)=xA (i.take b):=by
 rw[aG c,Jg,fV a]
def sk(n:R)(l:dB):Prop:=∀k,y (l.filter<|λx=>decide<|x.D=k)<=n
def sk.kD{m:dB}(h:sk b m)(s:i.Sublist m):sk b i:=λk=>aR (s.filter _).length_le<|h k
def sk.aT{l:dB}(h:sk c l)(a:c<=k):sk k l:=λd=>aR (h d) a
def sk.kj(n:R):sk n []:=λ_=>bQ _
def sk.Hm(h:sk b i):∀g∈jh i,y g<=b:=by
 intro g c;have d:g.Sublist i:=by have:=eC c;rwa[rk]at this
 cases g with
 |nil=>grind
 |cons e r=>
  have a:=h.kD d e.D;rwa[nE.2<|λx c=>by grind[AO]]at a
def OE(c:cy Y):∀a:iF,a.Pairwise lI->gu c a.flatten=(a.map<|gu c).flatten:=by
 intro a;induction a with
 |nil=>intro _;rfl
 |cons m a i=>
  intro h;let⟨d,e⟩:=dp.1 h;rw[di,bO,di,<-i e];refine EJ c _ _<|λj l k f=>?_;let⟨q,g,b⟩:=dO.1<|List.mem_of_mem_head? f;exact DV<|d q g j aI k b
def AC{a:cy Y}(n:yO i):sk (y a+1) (gu a i):=by
 have m:=DX n;have l:=AO i;have b:∀g∈jh i,yO g:=λg a=>n.sublist (by have:=eC a;rwa[rk]at this);intro r;rw[<-rk i,OE a _ m];generalize jh i=d at*;induction d with
 |nil=>simp
 |cons g d h=>
  let⟨t,u⟩:=dp.1 m;have h:=h u (λq c=>l q<|by simp[c]) (λq c=>b q<|by simp[c]);rw[bO,di,mA,ai];by_cases A:∃x∈g,x.D=r
  .let⟨x,v,w⟩:=A;have s:(d.map<|gu a).flatten.filter (λx=>decide<|x.D=r)=[]:=by
    rw[oo];intro j o;let⟨q,c,f⟩:=dO.1 o;obtain⟨p,e,rfl⟩:=cC.1 c;have:=DV<|t p e x v j<|(oE a p).subset f;grind
   rw[s];have k:=Ly a (b g ar) (l g ar) dE aI (λq c=>by cases c);have:=gM (λx=>decide<|x.D=r)<|gu a g;have:y (a.filter<|λ_=>cz)<=y a:=gM _ _;simp only[mS]at k;have:y (gu a g)<=y (a.filter<|λ_=>cz)+1:=k;grind
  .have s:(gu a g).filter (λx=>decide<|x.D=r)=[]:=by
    rw[oo];intro j o;simp only[rD];grind[oE]
   rw[s];simpa using h
def wM(L:R):R:=(L+95)/96
def jp(l:dB):iF:=lR (wM<|y l) (y l) 0 0 []<|jh l
def BI(h:i≠[]):0<wM (y i):=by
 have:=iZ.2 h;unfold wM;omega
def yq(l:dB):(jp l).flatten=l:=by
 by_cases c:l=[];subst c;rfl;have h:=Rf (n:=wM<|y l) (L:=y l) (BI c) (jh l) 0 0 [] (by rw[rk];simp) (J<|BI c)<|absurd rfl;rw[rk]at h;simpa[jp]using h
def GL(l:dB):∀p∈jp l,p≠[]:=Nw _ _ _ _<|FK l
def DR{p:dB}(h:p∈jp i):p.Sublist i:=by
 have:=eC h;rwa[yq]at this
def RZ(h:gF i):(jp i).Pairwise lI:=(Re _ _ _ _ (DX h.zx)<|λ_ _ x a=>by cases a).1
def JA(h:sk 5 i):∀p∈jp i,y p<=100:=by
 by_cases c:i=[];subst c;intro p a;cases a;(have a:y i<=wM (y i)*96:=by unfold wM;omega);exact US (F:=96) (V:=4) (BI c) a U _ 0 0 [] h.Hm ar<|absurd z
def EL{ps:iF}(h:∀p∈ps,p≠[]):y ps<=y ps.flatten:=by
 induction ps with
 |nil=>grind
 |cons p r b=>
  have:=iZ.2<|h p ar;have:=b (λq a=>h q<|by simp[a]);grind
def zL(l:dB):y (jp l)<=y l:=by
 have:=EL<|GL l;rwa[yq]at this
def ue(n:Y):ae:=if n=0 then ib else .iface 47 (ay n)
def OO{b:vW}(W:Ce a d b)(hv:∀aa,cN d=M aa->aa<G (H a))(hr:y b<=1000000000000)(hz:∀Q∈b,Q.D.size<=140737488351232/\Q.l.size<=140737488351232):cR bN 50 #[d] a λo k=>o=aN (ue<|gS b)/\I aC a k:=by
 have:∀(Q:eN)(a:Z),(Op.unary .not<|aO Q).run bN a=.ok (aO<|!Q) a:=λ_ _=>rfl;obtain⟨h1,⟨rfl,T⟩|⟨K,f,S,rfl,V,C⟩⟩:=W;(.obtain rfl:b=[]:=bG T;(go_in);go_wp2;(go_loopw [11] (λO wr=>O=ay 0/\wr=a) (λ_ _=>0));(grind);obtain⟨rfl,c⟩:=hrel;subst wr;go_wp2;go_ret;exact⟨z,I.bI _ _⟩)
 .have B:K<G (H a):=hv K z;by_cases L:8<y b
  .have A:=ak (show gS b=2 by unfold gS;rw[fV L]);have c:(8:Y)<(y b:Y):=U;go_in
   go_wp2;go_ret;exact⟨by rw[ag A];rfl,I.bI _ _⟩
  .have A:=ak (show gS b=ml b by unfold gS;rw[fM L]);have:¬(8:Y)<(y b:Y):=U;go_in
   go_wp2;go_loopw [11] (λO wr=>∃n:R,n<=y b/\O=ay n/\gS b=ml (b.drop n)/\I aC a wr) (λO _=>y b-(intOf O).toNat)
   .exact⟨0,bQ _,z,A,I.bI _ _⟩
   .obtain⟨n,hn,rfl,E,c⟩:=hrel;have x:=ak E;by_cases e:n<y b
    .have D:=nk b n e;have p:bA wr (X K<|f+n*3)=M (aw b[n].D):=c.u (C _ _ D.1) id B;have q:bA wr (X K<|f+n*3+1)=M (aw b[n].l):=c.u (by rw[bJ];exact C _ _ D.2.1) id B;have r:bA wr (X K<|f+n*3+2)=M (aO b[n].dP):=c.u (by rw[bJ];exact C _ _ D.2.2) id B;have t:=hz _<|aB e;by_cases u:b[n].D.size=0\/8<b[n].D.size
     .have m:=ak<|x.trans<|ES e u;generalize b[n]=P at*;let⟨v,w,F⟩:=P;simp only at p q r u t;have g:∀W,cR bN 104 #[aw v] W λo k=>o=aN (aO bD)/\k=W:=by
       grind[rl,rU]
      go_wp21;go_call g _ as o l⟨rfl,j⟩;subst l;go_wp2;go_ret;exact⟨by rw[ag m];rfl,c.aE _⟩
     .by_cases i:b[n].dP=bD/\16<b[n].l.size
      .have m:=ak<|x.trans<|ER e u i;generalize b[n]=P at*;let⟨v,w,F⟩:=P;simp only at p q r u i t;obtain⟨rfl,N⟩:=i;have g:∀W,cR bN 104 #[aw v] W λo k=>o=aN (aO cz)/\k=W:=by
        grind[rl,rU]
       have s:∀W,cR bN 105 #[aw w] W λo k=>o=aN (aO bD)/\k=W:=by
        grind[zV,rU]
       go_wp21;go_call g _ as o l⟨rfl,j⟩;subst l;go_wp21;go_call s _ as o l⟨rfl,j⟩;subst l;go_wp2;go_ret;exact⟨by rw[ag m];rfl,c.aE _⟩
      .have m:=ak<|x.trans<|Il e u i;generalize b[n]=P at*;let⟨v,w,F⟩:=P;simp only at p q r u i t;have g:∀W,cR bN 104 #[aw v] W λo k=>o=aN (aO cz)/\k=W:=by
        grind[rl,rU]
       cases F with
       |true=>
        go_wp21;go_call g _ as o l⟨rfl,j⟩;subst l;go_wp2;go_roundw
        .exact⟨n+1,e,dM,m,c.aE _⟩
        .simp[intOf];omega
       |false=>
        have:w.size<=16:=aI;have s:∀W,cR bN 105 #[aw w] W λo k=>o=aN (aO cz)/\k=W:=by
         grind[zV,rU]
        go_wp21;go_call g _ as o l⟨rfl,j⟩;subst l;go_wp21;go_call s _ as o l⟨rfl,j⟩;subst l;go_wp2;go_roundw
        .exact⟨n+1,e,dM,m,c.aE _⟩
        .simp[intOf];omega
    .have g:n=y b:=U;have m:=ak (show gS b=0 by rw[E,g,lh];rfl);have:¬(n:Y)<(y b:Y):=U;clear E g;go_wp2;go_ret;exact⟨by rw[ag m];rfl,c⟩
def Hv(l:dB):∀a,(sh a l).Sublist l:=by
 induction l with
 |nil=>intro a;exact List.Sublist.slnil
 |cons e r b=>
  intro a;unfold sh;grind
def ZF(b:af)(a:iF):y (a.map<|iX b).flatten<=y a.flatten:=by
 induction a with
 |nil=>simp
 |cons r a c=>
  have:y (iX b r)<=y r:=gM _ _;grind

def ME(b c:af):(b==c)=decide (b=c):=by
 let⟨x⟩:=b;let⟨a⟩:=c;show(x==a)=_;by_cases h:x=a;simp[h];simp[h]
abbrev gT:=cy<|af×ae
def gT.jn(m:gT)(k:af):Option ae:=match m with
 |[]=>dE
 |p::r=>if p.1=k then M p.2 else gT.jn r k
def Fits(a:cy MapEntry)(m:gT):Prop:=a.map (λe=>(e.key,e.val))=m.map (λp=>(aw p.1,p.2))
def Fits.vL{e:MapEntry}{a:cy MapEntry}{m:gT}(h:Fits (e::a) m):∃p r,m=p::r/\e.key=aw p.1/\e.val=p.2/\Fits a r:=by
 cases m with
 |nil=>simp[Fits]at h
 |cons p r=>
  simp[Fits]at h;exact⟨p,r,z,h.1.1,h.1.2,h.2⟩
def Mc(k:af):∀(a:cy MapEntry)(m:gT)(i:R),Fits a m->∃l,Instr.findNow .string (aw k) a i=M ((m.jn k).map λv=>(l,v)):=by
 intro a;induction a with
 |nil=>
  intro m i h;obtain rfl:m=[]:=by simpa[Fits]using h
  exact⟨0,z⟩
 |cons n a j=>
  intro m i h;obtain⟨p,r,rfl,c,g,f⟩:=h.vL;by_cases d:p.1=k
  .refine⟨i,?_⟩;simp[Instr.findNow,Instr.sameNow,c,gT.jn,d,g,ME]
  .let⟨l,e⟩:=j r (i+1) f;refine⟨l,?_⟩;have b:(k==p.1)=bD:=by rw[ME];grind
   simp[Instr.findNow,Instr.sameNow,c,gT.jn,d,b,e]
def iO(w:Z)(c:R)(m:gT):Prop:=∃b a,w.heap[c]?=M (.map b a)/\Fits b.toList m/\MapKept.Stamped b a
def qZ{P:Program}{mt l i n:R}{m:gT}{u:TypeInfo}{m9:ae}(s:P.underlying mt=M (.map l i))(j:P.underlying l=M .string)(q:P.info? i=M u)(t:u.zero=M m9)(h:iO a n m)(k:af):(Instr.lookup mt (.map<|M n) (aw k) bD).run P a=.ok ((m.jn k).getD m9) a:=by
 let⟨c,b,p,o,_⟩:=h;let⟨v,r⟩:=Mc k c.toList m 0 o;have d:=fS (P:=P) (w:=a) (k:=aw k) j (by trivial) c.isEmpty 9999;have e:=fQ (P:=P) (w:=a) j r;have g:(getObj n).run P a=.ok (.map c b) a:=by simp[getObj,Sem.run,p]
 unfold Instr.lookup;rw[jx,eV s];simp only[kH,jx,g,rH];rw[show(10000:R)=9999+1 from rfl,d];simp only[kH,e];cases hg:m.jn k with
 |none=>simp[zeroValue,typeInfo,q,t]
 |some w=>simp
def rp:(prog.info? 90).map (λi=>(i.zero,i.size,i.bytes))=M (M<|ee dE,1,8):=aH
abbrev eW(q:R):ae:=.iface 155<|aJ q
def Nm(n:af):Prop:=n.size<=2000000
def rC(w:Z)(q:R)(c:Y):Prop:=∃n,w.heap[q]?=M (aK #[aw n,ay c] 157 (0,0))/\Nm n
def rC.lX(w:Z)(c:Y)(h:Nm B):rC (dw w<|aK #[aw B,ay c] 157) (G<|H w) c:=⟨B,jo _ _,h⟩
structure Ff where
 d:Y
 wt:Y
 bd:Y
 L:Y
 f:Y
 l:eN
def Ff.ok(f:Ff):Prop:=(0<=f.wt/\f.wt<=9223372036854775807)/\0<=f.bd/\f.bd<=9223372036854775807
structure Fx(f f':Ff):Prop where
 ok:f.ok->f'.ok
 d:f'.d=f.d
 bd:f.bd=0->f'.bd=0
 l:f'.l=f.l
def Fx.bI(f:Ff):Fx f f:=⟨id,rfl,id,rfl⟩
def Fx.aj{f g h:Ff}(a:Fx f g)(b:Fx g h):Fx f h:=⟨λq=>b.ok<|a.ok q,b.d.trans a.d,λq=>b.bd<|a.bd q,b.l.trans a.l⟩
def qp(f:Ff):Prop:=f.l=cz\/f.d<1000000000
def Fx.D{f g:Ff}(a:Fx f g)(h:qp f):qp g:=by
 unfold qp;rwa[a.l,a.d]
def Fx.t{f g:Ff}(a:Fx f g)(h:qp g):qp f:=by
 unfold qp at h;rwa[a.l,a.d]at h
def Fx.p{f g:Ff}(b:Fx f g)(a:f.ok)(h:0<g.bd):0<f.bd:=by
 have:=a.2.1;have:=b.bd;omega
def lU(w:Z)(a d b:R)(c:ae)(f:Ff):Prop:=w.heap[a]?=M (aK #[.map<|M d,.map<|M b,c,ay f.d,ay f.wt,ay f.bd,ay f.L,ay f.f] 89 (0,0))
def zfd(w a:Z)(b f d:R)(e:ae)(c:Ff)(i:Ending):Prop:=∃g h,i=aN (aO g)/\lU a b f d e h/\I (λk=>k=b) w a/\G (H a)=G (H w)/\Fx c h/\(g=cz->0<c.bd)
def Wt{l:Ff}(h:lU a b c k d l)(s:l.ok):cR bN 66 #[aJ b] a λw v=>zfd a v b c k d l w:=by
 let⟨g,wt,i,f,e,j⟩:=l;let⟨⟨t,u⟩,m,n⟩:=s;simp only at t u m n;have c4:=aX h 4;have c5:=aX h 5;have:iH a (X b 4)=bD:=cV h;have:iH a (X b 5)=bD:=cV h;simp only at c4 c5;by_cases x:0<wt;(·(have o:IntKind.i64.wrap (wt-1)=wt-1:=by rw[bR];omega);(go_in);go_wp2;go_ret;refine⟨bD,⟨g,wt-1,i,f,e,j⟩,z,?_,iP b a,ar,⟨λ_=>⟨⟨aI,aI⟩,m,n⟩,z,id,z⟩,λq=>by cases q⟩;unfold lU;rw[aY h];rfl);have o:wt=0:=U;subst o;by_cases p:0<i;(·(have:IntKind.i64.wrap (i-1)=i-1:=by rw[bR];omega);(go_in);go_wp2;go_ret;refine⟨cz,⟨g,0,i-1,f,e,j⟩,z,?_,iP b a,ar,⟨λ_=>⟨⟨Int.le_refl _,aI⟩,aI,aI⟩,z,aI,z⟩,λ_=>p⟩;unfold lU;rw[aY h];rfl);have r:i=0:=U;subst r;(go_in);go_wp2;go_ret;exact⟨bD,_,z,h,I.bI _ _,z,Fx.bI _,λq=>by cases q⟩
def Bytes.fR(h:Bytes a d m):d=aF/\m=[]\/∃f b c,d=bX f b (y m) c/\y m<=c:=by
 obtain h|⟨f,b,c,h,e,_⟩:=h;exact J h;grind
