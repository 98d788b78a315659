import Derived.BigQuiet
import Derived.Conc.MuLone
import Derived.Deep.QuietTactic
import Derived.Deep.RegionLawGrows
import Derived.Lib.EndianBits
import Derived.OrdersHeld
import Derived.OrdersIn
import Derived.Outline
import Derived.OwnWalkIn
import Derived.RangeFuncCalls
import Derived.Test.YtojeeoclojldpaaGreatDoorChecked
import Derived.WalkLawsBesides
import Derived.Test.YtojeeoclojldpaaGreatDoorC0
open _root_ renaming List.length→y,Option.some→H,Array.size→z,Go.World.heap→G,Go.Value.ownBlock→bV,Go.World.cell?→aT,Go.World.setCell→bZ,Go.World.alloc→ct,Bool.false→bF,Bool.true→bW,Nat→M,Int→Z,List→cr,Go.Calls→cy,Go.Proofs.Tryz.prog→bG,Go.Value.slice→J,Go.Value.string→ai,Go.Value.bool→aL,Go.Value.pointer→fp,Go.Value.tuple→dB,Go.Value.agg→eC
namespace Go.Proofs.YtojeeoclojldpaaGreatDoor
open ChangeShapes WideShapes RowKit Proofs.Tryz
set_option maxHeartbeats 16000000
set_option linter.all false
set_option maxRecDepth 100000
variable{a f C:I}{b c g l B P:M}{d s:aa}{m:Z}{X:fJ}{v W:ab}{x:iU}{D:Bool}{V:Array aa}
abbrev KV:=ab×ab
abbrev iH:=cr KV
def qg(p:KV):iU:=[ai p.1,ai p.2]
def ib(l:cr KV):iU:=l.flatMap qg
def nM(l:cr KV)(i:M)(h:i<y l):(ib l)[i*2]?=H (ai l[i].1)/\(ib l)[i*2+1]?=H (ai l[i].2):=by
 induction l generalizing i with
 |nil=>simp at h
 |cons p r a=>
  cases i with
  |zero=>simp[ib,qg]
  |succ i=>
   have:=a i (by simpa using h);have e:(i+1)*2=i*2+2:=by omega
   rw[e];simpa[ib,qg]using this
def Row(w:I)(c:M)(v:aa)(n:M)(d:iU):Prop:=y d=n*c/\((v=aK/\n=0)\/∃e a b,v=bD e a n b/\n<=b/\∀j u,d[j]?=H u->aT w (R e<|a+j)=H u)
def jQ(w:I)(v:aa)(l:cr KV):Prop:=Row w 2 v (y l)<|ib l
def EK:(prog.info? 69).map (λi=>(i.zero,i.size,i.bytes))=H (H<|eC #[ai ⟨#[]⟩,ai ⟨#[]⟩],2,32):=by kernel_rfl
def MN(h:v.toList=W.toList):v=W:=by
 rw[nU,nU]at h;exact bytes_inj h
def zp(h:¬v=W):(v.toList==W.toList)=bF:=by
 rw[kL];exactλe=>h<|MN e
def EN(a k:ab):Bool:=!Op.bytesLess a.toList k.toList
def fQ(k v:ab)(a:cr KV×Bool)(p:KV):cr KV×Bool:=let b:=if !a.2&&EN p.1 k then a.1++[(k,v)]else a.1;(if p.1=k then b else b++[p],a.2||EN p.1 k)
def pW(k v:ab)(d:Bool)(l:cr KV):cr KV×Bool:=l.foldl (fQ k v) ([],d)
def vL(l:cr KV)(k v:ab)(d:Bool):cr KV:=if(pW k v d l).2 then(pW k v d l).1 else(pW k v d l).1++[(k,v)]
def Nf(k v:ab)(d:Bool)(l:cr KV)(n:M)(h:n<y l):pW k v d (l.take<|n+1)=fQ k v (pW k v d<|l.take n) l[n]:=by
 unfold pW;rw[aj h,iJ];rfl
def DD(k v:ab)(a:cr KV×Bool)(p:KV):y (fQ k v a p).1<=y a.1+2:=by
 unfold fQ;simp only;split<;>split<;>simp<;>omega
def Gp{b c:ab}{a:cr KV}(h:b=v):fQ v W (a,bW) (b,c)=(a,bW):=by simp[fQ,h]
def Gn{b c:ab}{a:cr KV}(h:¬b=v):fQ v W (a,bW) (b,c)=(a++[(b,c)],bW):=by simp[fQ,h]
def Qf{b d:ab}{a:cr KV}(c:Op.bytesLess b.toList v.toList=bW)(h:b=v):fQ v W (a,bF) (b,d)=(a,bF):=by
 unfold fQ EN;simp only[c];simp[h]
def Qe{b c:ab}{a:cr KV}(d:Op.bytesLess b.toList v.toList=bW)(h:¬b=v):fQ v W (a,bF) (b,c)=(a++[(b,c)],bF):=by
 unfold fQ EN;simp only[d];simp[h]
def Qh{b d:ab}{a:cr KV}(c:Op.bytesLess b.toList v.toList=bF)(h:b=v):fQ v W (a,bF) (b,d)=(a++[(v,W)],bW):=by
 unfold fQ EN;simp only[c];simp[h]
def Qg{b c:ab}{a:cr KV}(d:Op.bytesLess b.toList v.toList=bF)(h:¬b=v):fQ v W (a,bF) (b,c)=(a++[(v,W)]++[(b,c)],bW):=by
 unfold fQ EN;simp only[d];simp[h]
def Iq(k v:ab)(d:Bool)(l:cr KV):y (pW k v d l).1<=2*y l:=by
 unfold pW
 have:∀(l:cr KV)(a:cr KV×Bool),y (l.foldl (fQ k v) a).1<=y a.1+2*y l:=by
  intro l;induction l with
  |nil=>intro a;simp
  |cons p r b=>intro a;simp only[fP,ay];have:=b<|fQ k v a p;have:=DD k v a p;omega
 simpa using this l ([],d)
def iR(a b:cr KV):ib (a++b)=ib a++ib b:=by simp[ib]
def jb(h:a.ownsRow b c g d l x)(e:f.heap=a.heap):f.ownsRow b c g d l x:=by
 unfold World.ownsRow at*;rw[e];exact h
def kr{h wr W c:I}(f:Below b h wr)(a:b<=z (G wr))(i:eP W c d s)(O:Obj)(e:(W.os,W.tape,W.output,W.heap)=((ct wr O).os,(ct wr O).tape,(ct wr O).output,(ct wr O).heap))(g:∀k,bV d=H k->b<=k):Below b h c:=(Below.of_heap (f.alloc a O) e).grown i.grown (by simp only[gT]at e;rw[e.2.2.2];simp;omega) g
def pC(w:I)(a:M)(o:aa)(l:cr KV):Prop:=w.ownsRow a 69 2 o (y l)<|ib l
def pC.of{l:cr KV}(h:a.ownsRow b 69 2 d c x)(e:c=y l)(f:x=ib l):pC a b d l:=by subst e;subst f;exact h
def lP(w:I)(x a:aa)(t:TypeId):∀j u,[x,a][j]?=H u->aT (ct w<|ar #[x,a] t) (((R (z<|G w) 0):Addr).add j)=H u:=by
 intro j u b;rw[dt];unfold World.cell?;rw[ft];simpa using b
def Tf(p:cr KV)(an b ao:M)(k v:ab)(Q:Bool)(w:I)(hr:y p<=1000000000000)(O:∀j,j<y p->aT w (R an<|b+j*2)=H (ai (p[j]?.getD (⟨#[]⟩,⟨#[]⟩)).1)/\aT w (R an<|b+j*2+1)=H (ai (p[j]?.getD (⟨#[]⟩,⟨#[]⟩)).2))(hb:an<z (G w)):cy bG 74 #[bD an b (y p) ao,eC #[ai k,ai v,aL Q]] w λbi w'=>∃v',bi=aO v'/\pC w' (z (G w)+1) v' (vL p k v Q)/\Below (z<|G w) w w':=by
 obtain⟨i0,hi,B,C,D⟩:=cz EK;have HC:=U O;clear O;go_in
 go_wp2;go_loopw [5,6,7] (λa bg j wr=>∃(o:M),o<=y p/\j=ap o/\bg=aL (pW k v Q<|p.take o).2/\pC wr (z (G w)+1) a (pW k v Q<|p.take o).1/\Below (z (G w)+1) (ct w<|ar #[ai k,ai v,aL Q] 113) wr) (λ_ _ j _=>y p-(intOf j).toNat)
 case atStart=>exact⟨0,bA _,rfl,rfl,bK _ _ _ _,Below.refl _ _⟩
 case round=>
  obtain⟨o,hn,rfl,rfl,m,c⟩:=hrel;have bd:aT wr (R (z<|G w) 0)=H (ai k):=by rw[c.cell<|by simp];simp
  have bf:aT wr (R (z<|G w) 1)=H (ai v):=by rw[c.cell<|by simp];simp
  have x:y (pW k v Q<|p.take o).1<=2*o:=by have:=Iq k v Q<|p.take o;simp at this;omega
  have N:z (G w)+1<=z (G wr):=by have:=c.size;simpa using this
  by_cases L:o<y p
  .have T:aT wr (R an<|b+o*2)=H (ai (p[o]?.getD (⟨#[]⟩,⟨#[]⟩)).1):=by rw[c.cell (by simp;omega),fm hb];exact(HC o L).1
   have V:aT wr (R an<|b+o*2+1)=H (ai (p[o]?.getD (⟨#[]⟩,⟨#[]⟩)).2):=by rw[c.cell (by simp;omega),fm hb];exact(HC o L).2
   have X:=U<|Nf k v Q p o L;generalize pW k v Q (p.take o)=E at*;obtain⟨W,q⟩:=E;have r:=U m;have F:=U c;clear m c;have av:p[o]?.getD (⟨#[]⟩,⟨#[]⟩)=p[o]:=by simp[L]
   rw[av]at T V;generalize p[o]=bg at*;obtain⟨g,K⟩:=bg;simp only at T V x;cases q with
   |true=>
    go_wp2_with fail
    go_quiet(fail)
    go_wp2_with fail
    by_cases i:g=k
    .have u:(g.toList==k.toList)=bW:=by rw[i];simp
     have l:=U<|X.trans<|Gp i;clear i;go_quiet(fail)
     go_wp2;go_roundw;case rel=>exact⟨o+1,by omega,by go_num,by rw[ae l],by rw[ae l];exact jb r rfl,Below.of_heap F rfl⟩
     case measure=>simp[intOf];omega
    .have u:(g.toList==k.toList)=bF:=zp i;have l:=U<|X.trans<|Gn i;clear i;go_quiet(fail)
     go_wp2_with(first
      |(at_builtin;refine bS _ rfl (.tmp 44) (.tmp 49) 38 rfl (z (G w)+1) 69 i0 (.agg #[.string ⟨#[]⟩,.string ⟨#[]⟩]) 2 32 underlying38 hi B C D rfl (by decide) _ _ _ rfl (jb (aS r (.cells #[.string g,.string K] 69)) ?chT) (R (z (G wr)) 0) 1 1 [.string g,.string K] rfl rfl ?c1T ?c2T ?c3T ?c4T ?c5T ?_))
     case chT=>rfl
     case c1T=>exact lP _ _ _ _
     case c2T=>intro bh A;simp at A;rcases A with rfl|rfl<;>rfl
     case c3T=>first|omega|(simp;omega)
     case c4T=>first|omega|(simp;omega)
     case c5T=>simp;omega
     intro o2 w2 a e;have t:=U a;have S:=U e;clear a e;go_wp2;go_roundw;case rel=>exact⟨o+1,by omega,by go_num,by rw[ae l],by rw[ae l];exact pC.of t (by simp) (by simp[iR];rfl),kr F N S (ar #[ai g,ai K] 69) rfl<|λO j=>(aI r O j).1⟩
     case measure=>simp[intOf];omega
   |false=>
    by_cases hL:Op.bytesLess g.toList k.toList=bW
    .have HG:=U hL;go_wp2_with fail
     go_quiet(fail)
     go_wp2_with fail
     by_cases i:g=k
     .have u:(g.toList==k.toList)=bW:=by rw[i];simp
      have l:=U<|X.trans<|Qf HG i;clear i;go_quiet(fail)
      go_wp2;go_roundw;case rel=>exact⟨o+1,by omega,by go_num,by rw[ae l],by rw[ae l];exact jb r rfl,Below.of_heap F rfl⟩
      case measure=>simp[intOf];omega
     .have u:(g.toList==k.toList)=bF:=zp i;have l:=U<|X.trans<|Qe HG i;clear i;go_quiet(fail)
      go_wp2_with(first
       |(at_builtin;refine bS _ rfl (.tmp 44) (.tmp 49) 38 rfl (z (G w)+1) 69 i0 (.agg #[.string ⟨#[]⟩,.string ⟨#[]⟩]) 2 32 underlying38 hi B C D rfl (by decide) _ _ _ rfl (jb (aS r (.cells #[.string g,.string K] 69)) ?chL) (R (z (G wr)) 0) 1 1 [.string g,.string K] rfl rfl ?c1L ?c2L ?c3L ?c4L ?c5L ?_))
      case chL=>rfl
      case c1L=>exact lP _ _ _ _
      case c2L=>intro bh A;simp at A;rcases A with rfl|rfl<;>rfl
      case c3L=>first|omega|(simp;omega)
      case c4L=>first|omega|(simp;omega)
      case c5L=>simp;omega
      intro o2 w2 a e;have t:=U a;have S:=U e;clear a e;go_wp2;go_roundw;case rel=>exact⟨o+1,by omega,by go_num,by rw[ae l],by rw[ae l];exact pC.of t (by simp) (by simp[iR];rfl),kr F N S (ar #[ai g,ai K] 69) rfl<|λO j=>(aI r O j).1⟩
      case measure=>simp[intOf];omega
    .have au:Op.bytesLess g.toList k.toList=bF:=by simpa using hL
     clear hL;have HG:=U au;go_wp2_with fail
     go_quiet(fail)
     go_wp2_with(first
      |(at_builtin;refine bS _ rfl (.tmp 28) (.tmp 34) 38 rfl (z (G w)+1) 69 i0 (.agg #[.string ⟨#[]⟩,.string ⟨#[]⟩]) 2 32 underlying38 hi B C D rfl (by decide) _ _ _ rfl (jb (aS r (.cells #[.string k,.string v] 69)) ?chY) (R (z (G wr)) 0) 1 1 [.string k,.string v] rfl rfl ?c1Y ?c2Y ?c3Y ?c4Y ?c5Y ?_))
     case chY=>rfl
     case c1Y=>exact lP _ _ _ _
     case c2Y=>intro bh A;simp at A;rcases A with rfl|rfl<;>rfl
     case c3Y=>first|omega|(simp;omega)
     case c4Y=>first|omega|(simp;omega)
     case c5Y=>simp;omega
     intro o1 P f n;have d:Below (z (G w)+1) (ct w<|ar #[ai k,ai v,aL Q] 113) P:=kr F N n (ar #[ai k,ai v] 69) rfl<|λO j=>(aI r O j).1;have ba:aT P (R (z<|G w) 0)=H (ai k):=by rw[d.cell<|by simp];simp
     have bb:aT P (R an<|b+o*2)=H (ai g):=by rw[d.cell (by simp;omega),<-(ae F).cell (by simp;omega)];exact T
     have bc:aT P (R an<|b+o*2+1)=H (ai K):=by rw[d.cell (by simp;omega),<-(ae F).cell (by simp;omega)];exact V
     have al:z (G w)+1<=z (G P):=by have:=d.size;simpa using this
     have ad:pC P (z (G w)+1) o1 (W++[(k,v)]):=pC.of f (by simp) (by simp[iR];rfl);have ax:y (W++[(k,v)])<=2*o+1:=by simp;omega
     have s:=U ad;have ac:=U d;clear f n d ad;go_wp2_with fail
     by_cases i:g=k
     .have u:(g.toList==k.toList)=bW:=by rw[i];simp
      have l:=U<|X.trans<|Qh HG i;clear i;go_quiet(fail)
      go_wp2;go_roundw;case rel=>exact⟨o+1,by omega,by go_num,by rw[ae l],by rw[ae l];exact jb s rfl,Below.of_heap ac rfl⟩
      case measure=>simp[intOf];omega
     .have u:(g.toList==k.toList)=bF:=zp i;have l:=U<|X.trans<|Qg HG i;clear i;go_quiet(fail)
      go_wp2_with(first
       |(at_builtin;refine bS _ rfl (.tmp 44) (.tmp 49) 38 rfl (z (G w)+1) 69 i0 (.agg #[.string ⟨#[]⟩,.string ⟨#[]⟩]) 2 32 underlying38 hi B C D rfl (by decide) _ _ _ rfl (jb (aS s (.cells #[.string g,.string K] 69)) ?chZ) (R (z (G P)) 0) 1 1 [.string g,.string K] rfl rfl ?c1Z ?c2Z ?c3Z ?c4Z ?c5Z ?_))
      case chZ=>rfl
      case c1Z=>exact lP _ _ _ _
      case c2Z=>intro bh A;simp at A;rcases A with rfl|rfl<;>rfl
      case c3Z=>first|omega|(simp;omega)
      case c4Z=>first|omega|(simp;omega)
      case c5Z=>simp;omega
      intro o2 w2 a e;have t:=U a;have S:=U e;clear a e;go_wp2;go_roundw;case rel=>exact⟨o+1,by omega,by go_num,by rw[ae l],by rw[ae l];exact pC.of t (by simp) (by simp[iR];rfl),kr ac al S (ar #[ai g,ai K] 69) rfl<|λO j=>(aI s O j).1⟩
      case measure=>simp[intOf];omega
  .have a:p.take o=p:=cR (by omega);rw[a]at m x|-;have e:=U<|show vL p k v Q=if(pW k v Q p).2 then(pW k v Q p).1 else(pW k v Q p).1++[(k,v)]from rfl;generalize pW k v Q p=E at*;obtain⟨W,q⟩:=E;simp only at x;have r:=U m;have F:=U c;clear m c;have fin:∀w2,Below (z (G w)+1) (ct w<|ar #[ai k,ai v,aL Q] 113) w2->Below (z<|G w) w w2:=λw2 h=>((Below.refl _ w).alloc (ah _) _).trans (h.mono<|by omega);have d:=U fin;clear fin;cases q with
   |true=>
    go_wp2;go_ret;exact⟨_,rfl,by rw[ae e];exact r,ae d _ F⟩
   |false=>
    go_wp2_with(first
     |(at_builtin;refine bS _ rfl (.tmp 53) (.tmp 59) 38 rfl (z (G w)+1) 69 i0 (.agg #[.string ⟨#[]⟩,.string ⟨#[]⟩]) 2 32 underlying38 hi B C D rfl (by decide) _ _ _ rfl (jb (aS r (.cells #[.string k,.string v] 69)) ?chX) (R (z (G wr)) 0) 1 1 [.string k,.string v] rfl rfl ?c1X ?c2X ?c3X ?c4X ?c5X ?_))
    case chX=>rfl
    try(case c1X=>exact lP _ _ _ _)
    case c2X=>exact⟨rfl,rfl⟩
    case c3X=>omega
    case c4X=>omega
    case c5X=>omega
    intro o1 P f n;have s:=U f;have S:=U n;clear f n;go_wp2;go_ret;exact⟨_,rfl,by rw[ae e];exact pC.of s (by simp) (by simp[iR];rfl),ae d _<|kr F N S (ar #[ai k,ai v] 69) rfl<|λO j=>(aI r O j).1⟩
def VD(k v:ab)(m:Bool)(w:I):cy bG 74 #[aK,eC #[ai k,ai v,aL m]] w λB r=>∃q,B=aO q/\pC r (z (G w)+1) q (vL [] k v m)/\Below (z<|G w) w r:=by
 obtain⟨A,t,i,j,l⟩:=cz EK;go_in
 go_wp2;go_loopw [5,6,7] (λo p i wr=>i=ap 0/\p=aL m/\o=aK/\Below (z (G w)+1) (ct w<|ar #[ai k,ai v,aL m] 113) wr) (λ_ _ _ _=>0)
 case atStart=>exact⟨rfl,rfl,rfl,Below.refl _ _⟩
 case round=>
  obtain⟨rfl,rfl,rfl,a⟩:=hrel;have u:aT wr (R (z<|G w) 0)=H (ai k):=by rw[a.cell<|by simp];simp
  have x:aT wr (R (z<|G w) 1)=H (ai v):=by rw[a.cell<|by simp];simp
  have g:z (G w)+1<=z (G wr):=by have:=a.size;simpa using this
  have c:pC wr (z (G w)+1) aK []:=bK _ _ _ _;have e:=U c;have n:=U a;clear c a;have fin:∀a,Below (z (G w)+1) (ct w<|ar #[ai k,ai v,aL m] 113) a->Below (z<|G w) w a:=λa h=>((Below.refl _ w).alloc (ah _) _).trans (h.mono<|by omega);have o:=U fin;clear fin;cases m with
  |true=>
   go_wp2;go_ret;exact⟨_,rfl,e,ae o _ n⟩
  |false=>
   go_wp2_with(first
    |(at_builtin;refine bS _ rfl (.tmp 53) (.tmp 59) 38 rfl (z (G w)+1) 69 A (.agg #[.string ⟨#[]⟩,.string ⟨#[]⟩]) 2 32 underlying38 t i j l rfl (by decide) _ _ _ rfl (jb (aS e (.cells #[.string k,.string v] 69)) ?chX) (R (z (G wr)) 0) 1 1 [.string k,.string v] rfl rfl ?c1X ?c2X ?c3X ?c4X ?c5X ?_))
   case chX=>rfl
   try(case c1X=>exact lP _ _ _ _)
   case c2X=>intro E p;simp at p;rcases p with rfl|rfl<;>rfl
   case c3X=>first|omega|(simp;omega)|simp
   case c4X=>first|omega|(simp;omega)|simp
   case c5X=>first|omega|(simp;omega)
   intro C D b d;have f:=U b;have s:=U d;clear b d;go_wp2;go_ret;exact⟨_,rfl,pC.of f rfl rfl,ae o _<|kr n g s (ar #[ai k,ai v] 69) rfl<|λb a=>(aI e b a).1⟩
def dH(j:a.ownsRow b c g d l x):Row a g d l x:=by
 refine⟨j.1,?_⟩;rcases j.2 with⟨rfl,k⟩|⟨i,e,h,rfl,_,_,f,_⟩;exact .inl ⟨rfl,k⟩;refine .inr ⟨i,0,e,rfl,f,λn u m=>?_⟩;have:=j.cells (g:=i) rfl n u m;rwa[dt]at this
def pC.Pm{l:cr KV}(h:pC a b d l):jQ a d l:=dH h
def VE(l:cr KV)(k v:ab)(j:Bool)(p:jQ a d l)(o:∀s,bV d=H s->s<z (G a))(q:y l<=1000000000000):cy bG 74 #[d,eC #[ai k,ai v,aL j]] a λt i=>∃h,t=aO h/\pC i (z (G a)+1) h (vL l k v j)/\Below (z<|G a) a i:=by
 obtain⟨u,⟨rfl,m⟩|⟨r,b,c,rfl,n,f⟩⟩:=p;obtain rfl:l=[]:=aQ m;exact VD k v j a;refine Tf l r b c k v j a q (λw e=>?_)<|o r rfl;have g:=nM l w e;refine⟨?_,?_⟩;rw[f _ _ g.1];simp[e];rw[aV,f _ _ g.2];simp[e]
structure OS where
 key:ab
 val:ab
 del:Bool
abbrev uz:=cr OS
variable{K:iH}
def oD(c:OS):iU:=[ai c.key,ai c.val,aL c.del]
def eO(l:cr OS):iU:=l.flatMap oD
def kU(l:cr OS)(i:M)(h:i<y l):(eO l)[i*3]?=H (ai l[i].key)/\(eO l)[i*3+1]?=H (ai l[i].val)/\(eO l)[i*3+2]?=H (aL l[i].del):=by
 induction l generalizing i with
 |nil=>simp at h
 |cons p r a=>
  cases i with
  |zero=>simp[eO,oD]
  |succ i=>
   have:=a i (by simpa using h);have e:(i+1)*3=i*3+3:=by omega
   rw[e];simpa[eO,oD]using this
def xV(w:I)(v:aa)(l:cr OS):Prop:=Row w 3 v (y l)<|eO l
def wt:Bool->M
 |true=>0
 |false=>1
def DC(k v:ab)(a:iH×Bool)(p:KV):y (fQ k v a p).1+wt (fQ k v a p).2<=y a.1+wt a.2+1:=by
 obtain⟨c,q⟩:=a;obtain⟨b,d⟩:=p;cases q<;>cases hg:EN b k<;>by_cases h:b=k<;>(simp only[fQ,hg];simp[h,wt])
def Kl(l:iH)(k v:ab)(d:Bool):y (vL l k v d)<=y l+1:=by
 have b:∀(l:iH)(a:iH×Bool),y (l.foldl (fQ k v) a).1+wt (l.foldl (fQ k v) a).2<=y a.1+wt a.2+y l:=by
  intro l;induction l with
  |nil=>intro a;simp
  |cons p r c=>intro a;simp only[fP,ay];have:=c<|fQ k v a p;have:=DC k v a p;omega
 have h:=b l ([],d);have f:wt d<=1:=by cases d<;>simp[wt]
 simp only[cL]at h;unfold vL pW;split<;>rename_i e;omega;(have a:(List.foldl (fQ k v) ([],d) l).2=bF:=by simpa using e);rw[a,show wt bF=1 from rfl]at h;rw[af];simp only[ay,cL];omega
def SE(l:iH)(a:cr OS):iH:=a.foldl (λl c=>vL l c.key c.val c.del) l
def UL(l:iH)(a:cr OS)(n:M)(h:n<y a):SE l (a.take<|n+1)=vL (SE l<|a.take n) a[n].key a[n].val a[n].del:=by
 unfold SE;rw[aj h,iJ];rfl
def EV(l:iH)(a:cr OS):y (SE l a)<=y l+y a:=by
 unfold SE;induction a generalizing l with
 |nil=>simp
 |cons c r b=>simp only[fP,ay];have:=b<|vL l c.key c.val c.del;have:=Kl l c.key c.val c.del;omega
def Xw(c:cr OS)(B:jQ a d K)(A:∀g,bV d=H g->g<z (G a))(hc:xV a s c)(m:∀g,bV s=H g->g<z (G a))(hr:y K+y c<=1000000000000):cy bG 46 #[d,s] a λal S=>∃x,al=aO x/\jQ S x (SE K c)/\(∀g,bV x=H g->g<z (G S))/\(bV x=bV d\/∀g,bV x=H g->z (G a)<=g)/\Below (z<|G a) a S:=by
 obtain⟨h1,⟨rfl,h0⟩|⟨V,e,ac,rfl,ad,t⟩⟩:=hc;(.obtain rfl:c=[]:=aQ h0;have L:=U B;have F:=U A;clear B A m;(go_in);go_wp2;(go_loopw [0,5] (λT W wr=>W=ap 0/\T=d/\wr=a) (λ_ _ _=>0));(case atStart=>exact⟨rfl,rfl,rfl⟩);(case round=>obtain⟨rfl,rfl,rfl⟩:=hrel;go_wp2;go_ret;exact⟨_,rfl,L,F,.inl rfl,Below.refl _ _⟩))
 .have l:V<z (G a):=m V rfl;obtain⟨L,F,E⟩:=dC B A t;clear B A m t;go_in
  go_wp2;go_loopw [0,5] (λT W wr=>∃n:M,n<=y c/\W=ap n/\jQ wr T (SE K<|c.take n)/\(∀g,bV T=H g->g<z (G wr))/\(bV T=bV d\/∀g,bV T=H g->z (G a)<=g)/\Below (z<|G a) a wr) (λ_ W _=>y c-(intOf W).toNat)
  case atStart=>exact⟨0,bA _,rfl,L,F,.inl rfl,Below.refl _ _⟩
  case round=>
   obtain⟨n,hn,rfl,f,j,o,b⟩:=hrel;by_cases w:n<y c
   .have k:=kU c n w;have N:aT wr (R V<|e+n*3)=H (ai c[n].key):=(b.cell<|by exact l).trans<|E _ _ k.1;have O:aT wr (R V<|e+n*3+1)=H (ai c[n].val):=(b.cell<|by exact l).trans (by rw[aV];exact E _ _ k.2.1);have P:aT wr (R V<|e+n*3+2)=H (aL c[n].del):=(b.cell<|by exact l).trans (by rw[aV];exact E _ _ k.2.2);have HS:=U<|UL K c n w;have v:y (SE K<|c.take n)<=1000000000000:=by have:=EV K<|c.take n;simp at this;omega
    obtain⟨C,D,p⟩:=dC f j b;clear k f j b o;generalize Q:c[n]=ce at*;obtain⟨ck,cv,cd⟩:=ce;clear Q;simp only at N O P;go_wp2_with(first
     |(go_at_call 74;refine(VE _ ck cv cd C D v).mono ?_;rintro al w1⟨X,rfl,i,q⟩))
    have r:Below (z<|G a) a w1:=p.trans<|q.mono p.size;have u:∀g,bV X=H g->g<z (G w1):=λg k=>(aI i g k).2;obtain⟨K1,K2,K3,K4⟩:=gx i.Pm r u (show∀g,bV X=H g->z (G a)<=g fromλg k=>by have:=(aI i g k).1;have:=p.size;omega);clear i q r u;go_wp2;go_roundw;case rel=>exact⟨n+1,by omega,by go_num,by rw[ae HS];exact K1,K3,.inr K4,K2⟩
    case measure=>simp[intOf];omega
   .have i:c.take n=c:=cR (by omega);rw[i]at f;obtain⟨C,D,p,k⟩:=gx f j b o;clear f j b o;go_wp2;go_ret;exact⟨_,rfl,C,D,k,p⟩
def qf(l:iH)(k:ab):ab×Bool:=match l with
 |[]=>(⟨#[]⟩,bF)
 |p::r=>if p.1=k then(p.2,bW)else qf r k
def Rl(h:b<y K)(e:K[b].1=v):qf (K.drop b) v=(K[b].2,bW):=by
 rw[bE h];simp[qf,e]
def NM(h:b<y K)(e:¬K[b].1=v):qf (K.drop b) v=qf (K.drop<|b+1) v:=by
 rw[bE h];simp[qf,e]
def TV(k:ab)(x:jQ a d K)(L:y K<=1000000000000):cy bG 104 #[d,ai k] a λE C=>E=aO (dB #[ai (qf K k).1,aL (qf K k).2])/\C=a:=by
 obtain⟨v,⟨rfl,u⟩|⟨D,b,t,rfl,w,q⟩⟩:=x;(.obtain rfl:K=[]:=aQ u;(go_in);go_wp2;(go_loop [6] (λs=>s=ap 0) (λ_=>0));(case atStart=>rfl);(case round=>obtain rfl:=hrel;go_wp2;(go_ret2);exact⟨rfl,rfl⟩));(.have p:=U q;clear q v;(go_in);go_wp2;(go_loop [6] (λs=>∃n:M,n<=y K/\s=ap n/\qf K k=qf (K.drop n) k) (λs=>y K-(intOf s).toNat));(case atStart=>exact⟨0,bA _,rfl,rfl⟩);(case round=>obtain⟨n,F,rfl,r⟩:=hrel;have i:=U r;clear r;by_cases e:n<y K;(.have m:=nM K n e;have f:aT a (R D<|b+n*2)=H (ai K[n].1):=p _ _ m.1;(have g:aT a (R D<|b+n*2+1)=H (ai K[n].2):=by rw[aV];exact p _ _ m.2);clear m;by_cases c:K[n].1=k;(.have j:=U<|i.trans<|Rl e c;generalize K[n]=A at*;obtain⟨o,B⟩:=A;simp only at f g c;(have l:(o.toList==k.toList)=bW:=by rw[c];simp);clear c;go_wp2;(go_ret2);exact⟨by rw[ae j];rfl,rfl⟩);(.have j:=U<|i.trans<|NM e c;generalize K[n]=A at*;obtain⟨o,B⟩:=A;simp only at f g c;have l:(o.toList==k.toList)=bF:=zp c;clear c;go_wp2;(go_round);(case rel=>exact⟨n+1,by omega,by go_num,j⟩);case measure=>simp[intOf];omega));(have c:K.drop n=[]:=by simp;omega);go_wp2;(go_ret2);exact⟨by rw[ae i,c];rfl,rfl⟩))
def oz(m t:Z):Z:=if m<1\/32<m\/t<2\/6<t then 1 else 0
def Cf(m t:Z)(w:I):cy bG 27 #[ap m,ap t] w λe b=>e=aO (ap<|oz m t)/\b=w:=by
 by_cases c:m<1;(.have a:=U (show oz m t=1 by unfold oz;rw[dw<|by omega]);(go_in);go_wp2;go_ret;exact⟨by rw[ae a];rfl,rfl⟩);by_cases d:32<m;(.have a:=U (show oz m t=1 by unfold oz;rw[dw<|by omega]);(go_in);go_wp2;go_ret;exact⟨by rw[ae a];rfl,rfl⟩);by_cases f:t<2;(.have a:=U (show oz m t=1 by unfold oz;rw[dw<|by omega]);(go_in);go_wp2;go_ret;exact⟨by rw[ae a];rfl,rfl⟩);by_cases g:6<t;(.have a:=U (show oz m t=1 by unfold oz;rw[dw<|by omega]);(go_in);go_wp2;go_ret;exact⟨by rw[ae a];rfl,rfl⟩);have a:=U (show oz m t=0 by unfold oz;rw[cW<|by omega]);(go_in);go_wp2;go_ret;exact⟨by rw[ae a];rfl,rfl⟩
def lL:uz->Z
 |[]=>0
 |c::r=>if c.key.size=0\/8<c.key.size then 3 else if c.del=bF/\16<c.val.size then 4 else lL r
def fY(a:uz):Z:=if 8<y a then 2 else lL a
def Cx{a:uz}(h:b<y a)(e:a[b].key.size=0\/8<a[b].key.size):lL (a.drop b)=3:=by
 rw[bE h,lL,dw e]
def Cw{a:uz}(h:b<y a)(e:¬(a[b].key.size=0\/8<a[b].key.size))(f:a[b].del=bF/\16<a[b].val.size):lL (a.drop b)=4:=by
 rw[bE h,lL,cW e,dw f]
def Fb{a:uz}(h:b<y a)(e:¬(a[b].key.size=0\/8<a[b].key.size))(f:¬(a[b].del=bF/\16<a[b].val.size)):lL (a.drop b)=lL (a.drop<|b+1):=by
 rw[bE h,lL,cW e,cW f]
def Hp{b:uz}(O:xV a d b)(T:y b<=1000000000000):cy bG 45 #[d] a λQ P=>Q=aO (ap<|fY b)/\P=a:=by
 obtain⟨L,⟨rfl,K⟩|⟨E,c,F,rfl,N,x⟩⟩:=O;(.obtain rfl:b=[]:=aQ K;(go_in);go_wp2;(go_loop [3] (λC=>C=ap 0) (λ_=>0));(case atStart=>rfl);(case round=>obtain rfl:=hrel;go_wp2;go_ret;exact⟨rfl,rfl⟩))
 .have r:=U x;clear x L;by_cases w:8<y b
  .have s:=U (show fY b=2 by unfold fY;rw[dw w]);go_in
   go_wp2;go_ret;exact⟨by rw[ae s];rfl,rfl⟩
  .have s:=U (show fY b=lL b by unfold fY;rw[cW w]);go_in
   go_wp2;go_loop [3] (λC=>∃n:M,n<=y b/\C=ap n/\fY b=lL (b.drop n)) (λC=>y b-(intOf C).toNat)
   case atStart=>exact⟨0,bA _,rfl,s⟩
   case round=>
    obtain⟨n,S,rfl,A⟩:=hrel;have p:=U A;clear A;by_cases f:n<y b
    .have q:=kU b n f;have k:aT a (R E<|c+n*3)=H (ai b[n].key):=r _ _ q.1;have l:aT a (R E<|c+n*3+1)=H (ai b[n].val):=by rw[aV];exact r _ _ q.2.1
     have m:aT a (R E<|c+n*3+2)=H (aL b[n].del):=by rw[aV];exact r _ _ q.2.2
     clear q;by_cases e:b[n].key.size=0\/8<b[n].key.size
     .have j:=U<|p.trans<|Cx f e;generalize b[n]=D at*;obtain⟨i,v,u⟩:=D;simp only at k l m e;rcases e with e|e
      .have o:((i.size:Z)==0)=bW:=by simp[e]
       go_wp2;go_ret;exact⟨by rw[ae j];rfl,rfl⟩
      .have o:((i.size:Z)==0)=bF:=kL.2 (by omega);go_wp2;go_ret;exact⟨by rw[ae j];rfl,rfl⟩
     .by_cases g:b[n].del=bF/\16<b[n].val.size
      .have j:=U<|p.trans<|Cw f e g;generalize b[n]=D at*;obtain⟨i,v,u⟩:=D;simp only at k l m e g;obtain⟨rfl,B⟩:=g;have o:((i.size:Z)==0)=bF:=kL.2 (by omega);have t:¬8<i.size:=by omega
       clear e;go_wp2;go_ret;exact⟨by rw[ae j];rfl,rfl⟩
      .have j:=U<|p.trans<|Fb f e g;generalize b[n]=D at*;obtain⟨i,v,u⟩:=D;simp only at k l m e g;have o:((i.size:Z)==0)=bF:=kL.2 (by omega);have t:¬8<i.size:=by omega
       clear e;cases u with
       |true=>
        clear g;go_wp2;go_round
        case rel=>exact⟨n+1,by omega,by go_num,j⟩
        case measure=>simp[intOf];omega
       |false=>
        have B:¬16<v.size:=by simpa using g
        clear g;go_wp2;go_round
        case rel=>exact⟨n+1,by omega,by go_num,j⟩
        case measure=>simp[intOf];omega
    .have e:b.drop n=[]:=by simp;omega
     go_wp2;go_ret;exact⟨by rw[ae p,e];rfl,rfl⟩
def rD(c b:ab)(a:Z)(n:M)(p:KV):Bool:=EN p.1 c&&((b.toList==[])||Op.bytesLess p.1.toList b.toList)&&(decide (a<=0)||decide ((n:Z)<a))
def jL(d c:ab)(a:Z)(b:iH)(p:KV):iH:=if rD d c a (y b) p then b++[p]else b
def mO(l:iH)(c b:ab)(a:Z):iH:=l.foldl (jL c b a) []
def Su(l:iH)(c b:ab)(a:Z)(n:M)(h:n<y l):mO (l.take<|n+1) c b a=jL c b a (mO (l.take n) c b a) l[n]:=by
 unfold mO;rw[aj h,iJ];rfl
def nC(l:iH)(d c:ab)(a:Z):y (mO l d c a)<=y l:=by
 have e:∀(l b:iH),y (l.foldl (jL d c a) b)<=y b+y l:=by
  intro l;induction l with
  |nil=>intro b;simp
  |cons p r f=>
   intro b;simp only[fP,ay];have g:=f<|jL d c a b p;have h:y (jL d c a b p)<=y b+1:=by unfold jL;split<;>simp
   omega
 have:=e l [];simpa[mO]using this
def Ws{p:KV}(h:rD v W m (y K) p=bW):jL v W m K p=K++[p]:=by unfold jL;rw[dw h]
def Xz{p:KV}(h:rD v W m (y K) p=bF):jL v W m K p=K:=by unfold jL;rw[cW<|by simp[h]]
def Ju(s:iH)(ad g T:M)(p n:ab)(a:Z)(F:I)(hr:y s<=1000000000000)(hb:ad<z (G F))(B:∀au ac,(ib s)[au]?=H ac->aT F (R ad<|g+au)=H ac):cy bG 62 #[bD ad g (y s) T,ai p,ai n,ap a] F λal w'=>∃v',al=aO v'/\pC w' (z<|G F) v' (mO s p n a)/\Below (z<|G F) F w':=by
 obtain⟨Q,u,w,x,A⟩:=cz EK;have HC:=U B;clear B;go_in
 go_wp2;go_loopw [9,10] (λb i wr=>∃o:M,o<=y s/\i=ap o/\pC wr (z<|G F) b (mO (s.take o) p n a)/\Below (z<|G F) F wr) (λ_ i _=>y s-(intOf i).toNat)
 case atStart=>exact⟨0,bA _,rfl,bK _ _ _ _,Below.refl _ _⟩
 case round=>
  obtain⟨o,L,rfl,f,d⟩:=hrel;have v:z (G F)<=z (G wr):=d.size;by_cases N:o<y s
  .have V:=nM s o N;have W:aT wr (R ad<|g+o*2)=H (ai s[o].1):=(d.cell<|by exact hb).trans<|HC _ _ V.1;have X:aT wr (R ad<|g+o*2+1)=H (ai s[o].2):=(d.cell<|by exact hb).trans (by rw[aV];exact HC _ _ V.2);clear V;have an:y (mO (s.take o) p n a)<=o:=by have:=nC (s.take o) p n a;simp at this;omega
   have S:=U<|Su s p n a o N;have ho:∃av ao,u9=J av (y<|mO (s.take o) p n a) ao:=by
    rcases f.2 with⟨al,c⟩|⟨q,k,b,al,_⟩
    .exact⟨none,0,by rw[al,c]⟩
    .exact⟨_,_,al⟩
   generalize mO (s.take o) p n a=e at*;generalize s[o]=ax at*;obtain⟨i,l⟩:=ax;simp only at W X;have m:=U f;have r:=U d;clear f d;obtain⟨av,ao,rfl⟩:=ho;have no:∀(L:rD p n a (y e) (i,l)=bF),mO (s.take<|o+1) p n a=e:=λL=>S.trans<|Xz L;have O:∀(L:rD p n a (y e) (i,l)=bW),mO (s.take<|o+1) p n a=e++[(i,l)]:=λL=>S.trans<|Ws L;have P:=U no;have t:=U O;clear no O S;cases hA:Op.bytesLess i.toList p.toList with
   |true=>
    have j:=U (ae P<|by simp[rD,EN, *]);go_wp2;go_roundw;case rel=>exact⟨o+1,by omega,by go_num,by rw[ae j];exact m,r⟩
    case measure=>simp[intOf];omega
   |false=>
    cases hH:(n.toList==[])with
    |true=>
     by_cases K:a<=0
     .have D:decide (a<=0)=bW:=by simp[K]
      have j:=U (ae t<|by simp[rD,EN, *]);go_wp2_with(first
       |(at_builtin;refine bS _ rfl (.tmp 47) (.tmp 52) 38 rfl (z (G F)) 69 Q (.agg #[.string ⟨#[]⟩,.string ⟨#[]⟩]) 2 32 underlying38 u w x A rfl (by decide) _ _ _ rfl (jb (aS m (.cells #[.string i,.string l] 69)) ?chQ1) (R (z (G wr)) 0) 1 1 [.string i,.string l] rfl rfl ?c1Q1 ?c2Q1 ?c3Q1 ?c4Q1 ?c5Q1 ?_))
      case chQ1=>rfl
      try(case c1Q1=>exact lP _ _ _ _)
      case c2Q1=>first|exact⟨rfl,rfl⟩|(intro ac q;simp at q;rcases q with rfl|rfl<;>rfl)
      case c3Q1=>first|omega|(simp;omega)
      case c4Q1=>first|omega|(simp;omega)
      case c5Q1=>first|omega|(simp;omega)
      intro o2 w2 b c;have k:=U b;have C:=U c;clear b c;go_wp2;go_roundw;case rel=>exact⟨o+1,by omega,by go_num,by rw[ae j];exact pC.of k (by simp) (by simp[iR];rfl),kr r v C (ar #[ai i,ai l] 69) rfl<|λf d=>(aI m f d).1⟩
      case measure=>simp[intOf];omega
     .have D:decide (a<=0)=bF:=by simp[K]
      by_cases B:(y e:Z)<a
      .have E:decide ((y e:Z)<a)=bW:=by simp[B]
       have j:=U (ae t<|by simp[rD,EN, *]);go_wp2_with(first
        |(at_builtin;refine bS _ rfl (.tmp 47) (.tmp 52) 38 rfl (z (G F)) 69 Q (.agg #[.string ⟨#[]⟩,.string ⟨#[]⟩]) 2 32 underlying38 u w x A rfl (by decide) _ _ _ rfl (jb (aS m (.cells #[.string i,.string l] 69)) ?chQ2) (R (z (G wr)) 0) 1 1 [.string i,.string l] rfl rfl ?c1Q2 ?c2Q2 ?c3Q2 ?c4Q2 ?c5Q2 ?_))
       case chQ2=>rfl
       try(case c1Q2=>exact lP _ _ _ _)
       case c2Q2=>first|exact⟨rfl,rfl⟩|(intro ac q;simp at q;rcases q with rfl|rfl<;>rfl)
       case c3Q2=>first|omega|(simp;omega)
       case c4Q2=>first|omega|(simp;omega)
       case c5Q2=>first|omega|(simp;omega)
       intro o2 w2 b c;have k:=U b;have C:=U c;clear b c;go_wp2;go_roundw;case rel=>exact⟨o+1,by omega,by go_num,by rw[ae j];exact pC.of k (by simp) (by simp[iR];rfl),kr r v C (ar #[ai i,ai l] 69) rfl<|λf d=>(aI m f d).1⟩
       case measure=>simp[intOf];omega
      .have E:decide ((y e:Z)<a)=bF:=by simp[B]
       have j:=U (ae P<|by simp[rD,EN, *]);go_wp2;go_roundw;case rel=>exact⟨o+1,by omega,by go_num,by rw[ae j];exact m,r⟩
       case measure=>simp[intOf];omega
    |false=>
     cases hT:Op.bytesLess i.toList n.toList with
     |true=>
      by_cases K:a<=0
      .have D:decide (a<=0)=bW:=by simp[K]
       have j:=U (ae t<|by simp[rD,EN, *]);go_wp2_with(first
        |(at_builtin;refine bS _ rfl (.tmp 47) (.tmp 52) 38 rfl (z (G F)) 69 Q (.agg #[.string ⟨#[]⟩,.string ⟨#[]⟩]) 2 32 underlying38 u w x A rfl (by decide) _ _ _ rfl (jb (aS m (.cells #[.string i,.string l] 69)) ?chQ3) (R (z (G wr)) 0) 1 1 [.string i,.string l] rfl rfl ?c1Q3 ?c2Q3 ?c3Q3 ?c4Q3 ?c5Q3 ?_))
       case chQ3=>rfl
       try(case c1Q3=>exact lP _ _ _ _)
       case c2Q3=>first|exact⟨rfl,rfl⟩|(intro ac q;simp at q;rcases q with rfl|rfl<;>rfl)
       case c3Q3=>first|omega|(simp;omega)
       case c4Q3=>first|omega|(simp;omega)
       case c5Q3=>first|omega|(simp;omega)
       intro o2 w2 b c;have k:=U b;have C:=U c;clear b c;go_wp2;go_roundw;case rel=>exact⟨o+1,by omega,by go_num,by rw[ae j];exact pC.of k (by simp) (by simp[iR];rfl),kr r v C (ar #[ai i,ai l] 69) rfl<|λf d=>(aI m f d).1⟩
       case measure=>simp[intOf];omega
      .have D:decide (a<=0)=bF:=by simp[K]
       by_cases B:(y e:Z)<a
       .have E:decide ((y e:Z)<a)=bW:=by simp[B]
        have j:=U (ae t<|by simp[rD,EN, *]);go_wp2_with(first
         |(at_builtin;refine bS _ rfl (.tmp 47) (.tmp 52) 38 rfl (z (G F)) 69 Q (.agg #[.string ⟨#[]⟩,.string ⟨#[]⟩]) 2 32 underlying38 u w x A rfl (by decide) _ _ _ rfl (jb (aS m (.cells #[.string i,.string l] 69)) ?chQ4) (R (z (G wr)) 0) 1 1 [.string i,.string l] rfl rfl ?c1Q4 ?c2Q4 ?c3Q4 ?c4Q4 ?c5Q4 ?_))
        case chQ4=>rfl
        try(case c1Q4=>exact lP _ _ _ _)
        case c2Q4=>first|exact⟨rfl,rfl⟩|(intro ac q;simp at q;rcases q with rfl|rfl<;>rfl)
        case c3Q4=>first|omega|(simp;omega)
        case c4Q4=>first|omega|(simp;omega)
        case c5Q4=>first|omega|(simp;omega)
        intro o2 w2 b c;have k:=U b;have C:=U c;clear b c;go_wp2;go_roundw;case rel=>exact⟨o+1,by omega,by go_num,by rw[ae j];exact pC.of k (by simp) (by simp[iR];rfl),kr r v C (ar #[ai i,ai l] 69) rfl<|λf d=>(aI m f d).1⟩
        case measure=>simp[intOf];omega
       .have E:decide ((y e:Z)<a)=bF:=by simp[B]
        have j:=U (ae P<|by simp[rD,EN, *]);go_wp2;go_roundw;case rel=>exact⟨o+1,by omega,by go_num,by rw[ae j];exact m,r⟩
        case measure=>simp[intOf];omega
     |false=>
      have j:=U (ae P<|by simp[rD,EN, *]);go_wp2;go_roundw;case rel=>exact⟨o+1,by omega,by go_num,by rw[ae j];exact m,r⟩
      case measure=>simp[intOf];omega
  .have b:s.take o=s:=cR (by omega);rw[b]at f;have m:=U f;have r:=U d;clear f d;go_wp2;go_ret;exact⟨_,rfl,m,r⟩
def Ml(c b:ab)(a:Z)(w:I):cy bG 62 #[aK,.string c,.string b,.int .i64 a] w λf e=>∃d,f=.returned d/\pC e (z<|G w) d (mO [] c b a)/\Below (z<|G w) w e:=by
 go_in
 go_wp2;go_loop [9,10] (λo i=>i=.int .i64 0/\o=aK) (λ_ _=>0)
 case atStart=>exact⟨rfl,rfl⟩
 (case round=>obtain⟨rfl,rfl⟩:=hrel;go_wp2;go_ret;exact⟨_,rfl,bK _ _ _ _,Below.refl _ _⟩)
def CD(f e:ab)(b:Z)(n:jQ a d K)(m:∀q,bV d=H q->q<z (G a))(o:y K<=1000000000000):cy bG 62 #[d,.string f,.string e,.int .i64 b] a λr i=>∃h,r=.returned h/\pC i (z<|G a) h (mO K f e b)/\Below (z<|G a) a i:=by
 obtain⟨s,⟨rfl,j⟩|⟨p,c,g,rfl,l,k⟩⟩:=n;obtain rfl:K=[]:=aQ j;exact Ml f e b a;exact Ju K p c g f e b a o (m p rfl) k
def Row.shape(j:Row a b d c x):d=aK\/∃g e f,d=bD g e c f:=by
 rcases j.2 with⟨h,_⟩|⟨g,e,f,h,_⟩;exact .inl h;exact .inr ⟨g,e,f,h⟩
def Mm(h:Below (z<|G a) a f)(b:Option M):a.grownBy f b:=⟨h.os,h.tape,h.output,h.size,λk c _=>h.block k c⟩
def Row.grown{g:Option M}(k:Row a b d c x)(p:a.grownBy f g)(j:bV d≠g\/bV d=none):Row f b d c x:=by
 obtain⟨m,n⟩:=k;refine⟨m,?_⟩;rcases n with⟨rfl,l⟩|⟨r,e,h,rfl,i,o⟩;exact .inl ⟨rfl,l⟩;refine .inr ⟨r,e,h,rfl,i,λs u q=>p.cell (o s u q) ?_⟩;rcases j with k|k;exact k;simp[bV]at k
def sf(l:iH)(k:ab):ab×Bool×Z:=if k.size=0\/8<k.size then(⟨#[]⟩,bF,3)else((qf l k).1,(qf l k).2,0)
def Pu(k:ab)(e:jQ a d K)(l:y K<=1000000000000)(j:k.size<=140737488351232):cy bG 60 #[d,.string k] a λn m=>n=.returned (.tuple #[.string (sf K k).1,.bool (sf K k).2.1,.int .i64 (sf K k).2.2])/\m=a:=by
 have f:=U e;clear e;by_cases c:k.size=0;(.have b:=U (show sf K k=(⟨#[]⟩,bF,3)by unfold sf;rw[dw<|.inl c]);(have i:((k.size:Z)==0)=bW:=by rw[c];rfl);(go_in);go_wp2;(go_ret3);exact⟨by rw[ae b];rfl,rfl⟩)
 .have i:((k.size:Z)==0)=bF:=kL.2 (by omega);by_cases g:8<k.size
  .have b:=U (show sf K k=(⟨#[]⟩,bF,3)by unfold sf;rw[dw<|.inr g]);go_in
   go_wp2;go_ret3
   exact⟨by rw[ae b];rfl,rfl⟩
  .have b:=U (show sf K k=((qf K k).1,(qf K k).2,0)by unfold sf;rw[cW<|by omega]);go_in
   go_wp2_with(first
    |(go_at_call 104;refine(TV k f l).mono ?_;rintro n o⟨rfl,rfl⟩))
   go_ret3
   exact⟨by rw[ae b];rfl,rfl⟩
structure mj(w:I)(rb:M)(pb:Option M)(l:iH)(closed:Bool)(sv:aa):Prop where
 iG:∃v,w.heap[rb]?=H (.cells #[v,sv,.bool closed] 46 (0,0))/\jQ w v l/\bV v=pb
 ne:pb≠H rb
 lt:∀g,pb=H g->g<z (G w)
def Nr(o:Option M)(k:ab)(h:mj a b o K D d)(n:y K<=1000000000000)(e:k.size<=140737488351232):cy bG 30 #[aA b,.string k] a λq p=>
 q=.returned (if D then .tuple #[.string ⟨#[]⟩,.bool bF,.int .i64 6]else .tuple #[.string (sf K k).1,.bool (sf K k).2.1,.int .i64 (sf K k).2.2])/\p=a:=by
 obtain⟨⟨v,c,i,_⟩,_,_⟩:=h
 have l:=cellAt c 0 rfl
 have m:=cellAt c 2 rfl
 have g:=U i
 clear c i
 cases D with
 |true=>
  go_in
  go_wp2;go_ret3
  exact⟨rfl,rfl⟩
 |false=>
  rcases g.shape with rfl|⟨s,f,j,rfl⟩;all_goals
   go_in
   go_wp2_with(first
    |(go_at_call 60;refine(Pu k g n e).mono ?_;rintro q r⟨rfl,rfl⟩))
   go_ret3
   exact⟨rfl,rfl⟩
def tS(x:Option M)(k j:ab)(c:Z)(h:mj a b x K D d)(w:y K<=1000000000000):cy bG 32 #[aA b,.string k,.string j,.int .i64 c] a λA p=>
 ∃e,A=.returned (.tuple #[e,.int .i64<|if D then 6 else 0])/\pC p (z<|G a) e (if D then []else mO K k j c)/\Below (z<|G a) a p:=by
 obtain⟨⟨B,i,n,o⟩,_,f⟩:=h
 have u:=cellAt i 0 rfl
 have v:=cellAt i 2 rfl
 have m:=U n
 have s:=U (show∀g,bV B=H g->g<z (G a)fromλg c=>f g<|o▸c)
 clear i n o f
 cases D with
 |true=>
  go_in
  go_wp2;go_ret2
  exact⟨_,rfl,bK _ _ _ _,Below.refl _ _⟩
 |false=>
  rcases m.shape with rfl|⟨F,l,t,rfl⟩;all_goals
   go_in
   go_wp2_with(first
    |(go_at_call 62;refine(CD k j c m s w).mono ?_;rintro A E⟨C,rfl,g,e⟩;have q:=U g;have r:=U e;clear g e))
   go_ret2
   exact⟨_,rfl,q,r⟩
def zX(m:Option M)(h:mj a b m K D d):cy bG 23 #[aA b] a λp n=>
 p=.returned (.int .i64<|if D then 6 else 0)/\mj n b m K bW d/\a.grownBy n (H b):=by
 obtain⟨⟨v,f,k,g⟩,c,e⟩:=h
 have q:=cellAt f 2 rfl
 have r:=dK (i:=2) f
 cases D with
 |true=>
  have l:=U<|mj.mk ⟨v,f,k,g⟩ c e;clear f k g c e;go_in
  go_wp2;go_ret;exact⟨rfl,l,sZ _ _⟩
 |false=>
  have j:=cV a b 2<|.bool bW;have l:=U<|show mj (bZ a (R b 2)<|.bool bW) b m K bW d from⟨⟨v,by rw[aR f];rfl,Row.grown k j<|.inl (by rw[g];exact c),g⟩,c,λn p=>ag (e n p) j.size⟩;have o:=U j;clear f k g c e j;go_in
  go_wp2;go_ret;exact⟨rfl,l,o⟩
structure Y(S:fJ)(w w':I):Prop where
 os:w'.os=w.os
 tape:w'.tape=w.tape
 output:w'.output=w.output
 size:z (G w)<=z (G w')
 block:∀k,k<z (G w)->¬S k->w'.heap[k]?=w.heap[k]?
def Y.refl(S:fJ)(w:I):Y S w w:=⟨rfl,rfl,rfl,ah _,λ_ _ _=>rfl⟩
def Y.trans{S T:fJ}{e b l:I}(h:Y S e b)(k:Y T b l)(g:∀x,T x->S x\/z (G e)<=x):Y S e l:=⟨k.os.trans h.os,k.tape.trans h.tape,k.output.trans h.output,aE h.size k.size,λj c d=>(k.block j (ag c h.size) (λi=>by
 rcases g j i with a|a
 .exact d a
 .omega)).trans (h.block j c d)⟩
def Y.ci{S:fJ}{c:I}(h:Y S a C)(k:Y aB C c):Y S a c:=h.trans k cG
def Y.mono{S T:fJ}(h:Y S a C)(c:∀x,S x->T x\/z (G a)<=x):Y T a C:=⟨h.os,h.tape,h.output,h.size,λi d e=>h.block i d (λg=>by
 rcases c i g with b|b
 .exact e b
 .omega)⟩
def Y.dN{S:fJ}{b:Option M}(h:a.grownBy C b)(g:∀k,b=H k->S k\/z (G a)<=k):Y S a C:=⟨h.os,h.tape,h.output,h.size,λi d e=>h.block i d (λj=>by
 rcases g i j.symm with c|c
 .exact e c
 .omega)⟩
def Y.aW{S:fJ}(h:Below (z<|G a) a C):Y S a C:=⟨h.os,h.tape,h.output,h.size,λi b _=>h.block i b⟩
def Y.below{B:M}(h:Y X a f)(b:B<=z (G a))(c:∀k,X k->B<=k):Below B a f:=⟨h.os,h.tape,h.output,h.size,λk d=>h.block k (ag d b) (λe=>by have:=c k e;omega)⟩
def Y.cell(h:Y X a C){k i:M}(b:aT a (R k i)=H d)(e:¬X k)(c:k<z (G a)):aT C (R k i)=H d:=(cH (w:=a)<|h.block k c e).trans b
def Y.alloc{S:fJ}{a b:I}(h:Y S a b)(o:Obj):Y S a (b.alloc o):=h.trans (Y.dN (S:=aB) (dr b o none)<|by simp)<|by simp
def fg(h:a.grownBy C (H b)):Y (λk=>k=b) a C:=Y.dN h (by rintro k⟨⟩;exact .inl rfl)
def Y.setCell(h:Y X a f)(k i:M)(u:aa)(b:X k\/z (G a)<=k):Y X a (f.setCell (R k i) u):=h.trans (Y.dN (S:=λx=>x=k) (cV f k i u) (by rintro _⟨⟩;exact .inl rfl)) (by rintro x rfl;exact b)
def Y.own(v:Y X a C)(s:a.ownsRow b c g d l x)(r:∀u,bV d=H u->¬X u):C.ownsRow b c g d l x:=by
 obtain⟨n,o⟩:=s;refine⟨n,?_⟩;rcases o with⟨rfl,m⟩|⟨k,e,h,rfl,p,j,t⟩;exact .inl ⟨rfl,m⟩;exact .inr ⟨k,e,h,rfl,p,(v.block k (ak j)<|r k rfl).trans j,t⟩
def Y.row(s:Y X a f)(q:Row a b d c x)(k:∀r,bV d=H r->¬X r/\r<z (G a)):Row f b d c x:=by
 obtain⟨n,o⟩:=q;refine⟨n,?_⟩;rcases o with⟨rfl,m⟩|⟨l,e,g,rfl,h,p⟩;exact .inl ⟨rfl,m⟩;exact .inr ⟨l,e,g,rfl,h,λj u m=>s.cell (p j u m) (k l rfl).1 (k l rfl).2⟩
def aC(j:a.ownsRow b c g d l x):∃k i,d=.slice k l i:=by
 rcases j.2 with⟨rfl,rfl⟩|⟨m,e,h,rfl,_⟩;exact⟨none,0,rfl⟩;exact⟨_,_,rfl⟩
def bM(h:Row a b d c x):∃i g,d=.slice i c g:=by
 rcases h.2 with⟨rfl,rfl⟩|⟨j,e,f,rfl,_⟩;exact⟨none,0,rfl⟩;exact⟨_,_,rfl⟩
def fD(j:a.ownsRow b c g d l x){k:M}(f:bV d=H k):∃e,a.heap[k]?=H (.cells e c (0,0)):=by
 rcases j.2 with⟨rfl,_⟩|⟨m,h,e,rfl,_,i,_⟩;cases f;cases f;exact⟨e,i⟩
def zl(m:a.ownsRow b c g d l x){j:M×M}(k:a.heap[B]?=H (.cells V P j))(e:P≠c):bV d≠H B:=by
 intro i;obtain⟨h,f⟩:=fD m i;rw[k]at f;cases f;exact e rfl
def qV(n:Z)(w:I):cy bG 16 #[ap n] w λe a=>e=aO (ap n)/\a=w:=by
 go_in
 go_wp2;go_ret;exact⟨rfl,rfl⟩
def vk(w:I)(a b:M):(w.drewN a).drewN b=w.drewN (a+b):=by simp[World.drewN,aV]
def Qa{m:iH}(a:b<y K)(c:b<y m)(h:K.take b=m.take b)(e:K[b]=m[b]):K.take (b+1)=m.take (b+1):=by
 rw[aj a,aj c,h,e]
def ou{l m:iH}(hx:jQ a d l)(D:jQ a s m)(hl:y l<=1000000000000)(hm:y m<=1000000000000):cy bG 8 #[d,s] a λu w'=>u=aO (aL<|decide<|l=m)/\∃A,w'=a.drewN A:=by
 by_cases b:y l=y m;(.obtain⟨F,⟨rfl,C⟩|⟨ad,c,E,rfl,al,L⟩⟩:=hx;(.obtain rfl:l=[]:=aQ C;obtain rfl:m=[]:=aQ (by simpa using b.symm);have f:=D.shape;clear D;rcases f with rfl|⟨B,e,g,rfl⟩;(all_goals(go_in);go_wp2;(go_loopw [5] (λW wr=>W=ap 0/\∃A,wr=a.drewN A) (λ_ _=>0));(case atStart=>exact⟨rfl,0,rfl⟩);(case round=>obtain⟨rfl,A,rfl⟩:=hrel;go_wp2;go_ret;exact⟨rfl,A,rfl⟩)));(.obtain⟨K,⟨rfl,C⟩|⟨B,e,g,rfl,ac,v⟩⟩:=D;(.obtain rfl:m=[]:=aQ C;obtain rfl:l=[]:=aQ (by simpa using b);clear L;(go_in);go_wp2;(go_loopw [5] (λW wr=>W=ap 0/\∃A,wr=a.drewN A) (λ_ _=>0));(case atStart=>exact⟨rfl,0,rfl⟩);(case round=>obtain⟨rfl,A,rfl⟩:=hrel;go_wp2;go_ret;exact⟨rfl,A,rfl⟩));(.have HC:=U L;have t:=U v;(have p:((y l:Z)!=(y m:Z))=bF:=by simp[b]);have f:=U b;clear L v F K b;(go_in);go_wp2;(go_loopw [5] (λW wr=>∃n:M,n<=y l/\W=ap n/\l.take n=m.take n/\∃A,wr=a.drewN A) (λW _=>y l-(intOf W).toNat));(case atStart=>exact⟨0,bA _,rfl,rfl,0,rfl⟩);(case round=>obtain⟨n,hn,rfl,ht,kk,rfl⟩:=hrel;have HT:=U ht;clear ht;by_cases w:n<y l;(·(have i:n<y m:=by have:=ae f;omega);have N:=nM l n w;have k:=nM m n i;have P:aT a (R ad<|c+n*2)=H (ai l[n].1):=HC _ _ N.1;(have Q:aT a (R ad<|c+n*2+1)=H (ai l[n].2):=by rw[aV];exact HC _ _ N.2);have S:aT a (R B<|e+n*2)=H (ai m[n].1):=t _ _ k.1;(have T:aT a (R B<|e+n*2+1)=H (ai m[n].2):=by rw[aV];exact t _ _ k.2);clear N k;(have x:l[n]≠m[n]->decide (l=m)=bF:=λh=>by simp;intro u;subst u;exact h rfl);have HN:=U x;have HY:=U<|λu=>Qa w i HT u;clear x;generalize l[n]=an at*;generalize m[n]=q at*;obtain⟨X,pv⟩:=an;obtain⟨qk,qv⟩:=q;simp only at P Q S T;by_cases o:X=qk;(·(have O:(!X.toList==qk.toList)=bF:=by rw[o];simp);by_cases r:pv=qv;(·(have V:(pv.toList==qv.toList)=bW:=by rw[r];simp);have j:=U (HY<|by rw[o,r]);clear o r;(go_wp2_with fail);(go_quiet(fail));go_wp2;go_roundw;(case rel=>exact⟨n+1,by omega,by go_num,j,by first|exact⟨_,rfl⟩|exact⟨_,vk _ _ _⟩⟩);case measure=>simp[intOf];omega);have V:(pv.toList==qv.toList)=bF:=zp r;have j:=U<|HN (by intro u;exact r (Prod.mk.inj u).2);clear o r;(go_wp2_with fail);(go_quiet(fail));go_wp2;go_ret;exact⟨by rw[ae j];rfl,by first|exact⟨_,rfl⟩|exact⟨_,vk _ _ _⟩⟩);(have O:(!X.toList==qk.toList)=bW:=by rw[zp o];rfl);have j:=U<|HN (by intro u;exact o (Prod.mk.inj u).1);clear o;(go_wp2_with fail);(go_quiet(fail));go_wp2;go_ret;exact⟨by rw[ae j];rfl,by first|exact⟨_,rfl⟩|exact⟨_,vk _ _ _⟩⟩);have j:=U (show decide (l=m)=bW by have F:l.take n=l:=cR (by omega);have i:m.take n=m:=cR (by have:=ae f;omega);have:=ae HT;rw[F,i]at this;simpa using this);go_wp2;go_ret;exact⟨by rw[ae j];rfl,by first|exact⟨_,rfl⟩|exact⟨_,vk _ _ _⟩⟩))));(have f:decide (l=m)=bF:=by simp;intro u;exact b<|by rw[u]);rw[f];clear f;obtain⟨_,⟨rfl,C⟩|⟨ad,c,E,rfl,_,_⟩⟩:=hx<;>obtain⟨_,⟨rfl,i⟩|⟨B,e,g,rfl,_,_⟩⟩:=D;omega;(·(have p:((0:Z)!=(y m:Z))=bW:=by rw[bne_iff_ne];omega);(go_in);go_wp2;go_ret;exact⟨rfl,0,rfl⟩);(·(have p:((y l:Z)!=(0:Z))=bW:=by rw[bne_iff_ne];omega);(go_in);go_wp2;go_ret;exact⟨rfl,0,rfl⟩);(have p:((y l:Z)!=(y m:Z))=bW:=by rw[bne_iff_ne];omega);(go_in);go_wp2;go_ret;exact⟨rfl,0,rfl⟩
def GB(a k:Z)(d:0<k)(e:k<=100):0<=wrap64 ((IntKind.u64.wrap a).tmod k)/\wrap64 ((IntKind.u64.wrap a).tmod k)<k:=by
 rw[gV,Int.tmod_eq_emod_of_nonneg<|Int.emod_nonneg _<|by decide];have b:=Int.emod_nonneg (a%18446744073709551616) (show k≠0 by omega);have c:=Int.emod_lt_of_pos (a%18446744073709551616) d;generalize a%18446744073709551616%k=x at*;have f:wrap64 x=x:=by unfold wrap64;omega
 rw[f];exact⟨b,c⟩
def rZ(a k:Z):Z:=wrap64<|(IntKind.u64.wrap a).tmod k
def Pg(b c:Z)(w:I):cy bG 25 #[ap b,ap c] w λe a=>e=aO (dB #[ap<|rZ b 34,ap<|rZ c 8])/\a=w:=by
 go_in
 go_wp2;go_ret2
 exact⟨rfl,rfl⟩
theorem du:(∀(l:iU)(i:M)(x:aa),l.toArray.setIfInBounds i x=(l.set i x).toArray)/\(∀(x b:aa)(l:iU),(x::l).set 0 b=b::l)/\∀(x b:aa)(l:iU)(n:M),(x::l).set (n+1) b=x::l.set n b:=⟨λ_ _ _=>by simp,λ_ _ _=>rfl,λ_ _ _ _=>rfl⟩
theorem iy:(∀(l:iU)(i:M)(h:i<l.toArray.size),l.toArray[i]=l[i]'(by simpa using h))/\(∀(x:aa)(l:iU)(i:M)(h:i+1<y (x::l)),(x::l)[i+1]=l[i]'(by simpa using h))/\∀(x:aa)(l:iU)(h:0<y (x::l)),(x::l)[0]=x:=⟨λ_ _ _=>rfl,λ_ _ _ _=>rfl,λ_ _ _=>rfl⟩
section
variable{P:Program}{a:Array Oper}{Q:Exit->Act->I->Prop}{md:Region.Mode}{S:I->Prop}
def kS(P:Program)(md:Region.Mode)(a:Array Oper)(Q:Exit->Act->I->Prop)(S:I->Prop)(m:M):M->Array Bool->Act->I->Prop
 |0,b,d,w=>Region.ready md a b=[]/\Q .normal d w
 |fuel+1,b,d,w=>
  (Region.ready md a b=[]->Q .normal d w)/\∀i∈Region.ready md a b,wpOp P a Q i (λe c=>(i≠m->S c)/\kS P md a Q S m fuel (b.setIfInBounds i bW) e c) d w
theorem ot{m:M}:∀(b:M)(c:Array Bool)(i:Act)(w:I),kS P md a Q S m b c i w->wpAny P md a Q b c i w
 |0,_,_,_,h=>h
 |b+1,_,_,_,h=>⟨h.1,λj f=>uA (λd g e=>ot b _ d g e.2)<|h.2 j f⟩
theorem Ic{r ac:M}{p X:Oper}{al:aa}(K:a[r]?=H p)(hm:a[ac]?=H X)(N:∃m∈X.after,Region.binds md m=bW/\m.on=r)(k:∀(l:M)(ao:Oper)s W,a[l]?=H ao->ao.op≠ .select s W)(hQ:∀an D E,Q (.panic an) (D.put p.dst al) E->Q (.panic an) D E):∀(c:M)(b:Array Bool)(D:Act)(E:I),(∀l q,a[l]?=H q->l≠r->b.getD l bW=bF->(∀m∈q.after,Region.binds md m=bW->m.on≠r)->p.apart a q=bW)->r∈Region.ready md a b->YieldsIf P a S p al D->S E->kS P md a Q S ac c (b.setIfInBounds r bW) (D.put p.dst al) E->kS P md a Q S ac (c+1) b D E:=by
 intro c;induction c with
 |zero=>
  intro b D E _ o C t e;refine⟨λad=>(by rw[ad]at o;cases o),λl B=>?_⟩;by_cases d:l=r
  .subst d;exact C.wpOp K t ⟨λ_=>t,e⟩
  .have:=sy B d;rw[e.1]at this;cases this
 |succ c ih=>
  intro b D E f o C t e;refine⟨λad=>(by rw[ad]at o;cases o),λl B=>?_⟩;by_cases d:l=r
  .subst d;exact C.wpOp K t ⟨λ_=>t,e⟩
  .have n:=e.2 l<|sy B d;obtain⟨i,q,g,u⟩:=xW.1 B;have j:∀m∈q.after,Region.binds md m=bW->m.on≠r:=λm O F x=>by
    have n:=u m O F;have L:=(xW.1 o).1;rw[x]at n;rcases dF r b.size with v|v
    .simp[v]at L n;rw[L]at n;cases n
    .simp[eD v]at n
   have h2:=wpOp_putIf g (f l q g d i j) (λs W=>k r p s W K) (λs W=>k l q s W g) hQ C n;have h:∀V ok,a[V]?=H ok->V≠r->(b.setIfInBounds l bW).getD V bW=bF->(∀m∈ok.after,Region.binds md m=bW->m.on≠r)->p.apart a ok=bW:=λV ok hk L x O=>by
    refine f V ok hk L ?_ O;by_cases v:l=V
    .subst v;exact i
    .rw[getD_set_ne bW v]at x;exact x
   have T:=sy o<|Ne.symm d;have w:l≠ac:=λm=>by
    subst m;obtain⟨L,x,F,v⟩:=N;rw[hm]at g;cases g;exact j L x F v
   refine uA (λa' w' A=>⟨λ_=>A.2.1 w,ih (b.setIfInBounds l bW) a' w' h T A.1 (A.2.1 w) ?_⟩) h2;rw[uh _ _ d];exact A.2.2
theorem lJ{i t:M}{d k:Oper}{v:aa}{c:M}{b:Array Bool}{e:Act}{w:I}(j:a[i]?=H d)(p:a[t]?=H k)(g:(k.after.any λx=>Region.binds md x&&x.on==i)=bW)(r:Region.noSelect a=bW)(n:Region.free md a b i=bW)(q:(Region.ready md a b).contains i=bW)(l:∀u e w,Q (.panic u) (e.put d.dst v) w->Q (.panic u) e w)(s:YieldsIf P a S d v e)(m:S w)(A:kS P md a Q S t c (b.setIfInBounds i bW) (e.put d.dst v) w):kS P md a Q S t (c+1) b e w:=Ic j p (by
 obtain⟨B,o,h⟩:=Array.any_eq_true.1 g;simp only[jT,beq_iff_eq]at h;exact⟨_,tK o,h.1,h.2⟩) (Region.noSelect_spec r) l c b e w (Region.free_spec j n) (by simpa using q) s m A
theorem aP{i n:M}{o:Oper}{c:M}{b:Array Bool}{j:Act}{w:I}(l:a[i]?=H o)(k:o.guard=none)(h:Region.ready md a b=[i])(p:∀K:Act->I->Prop,(∀d w',(i≠n->S w')->kS P md a Q S n c (b.setIfInBounds i bW) d w'->K d w')->Oper.wp P o j w K Q):kS P md a Q S n (c+1) b j w:=by
 refine⟨λe=>(by rw[h]at e;cases e),λq g=>?_⟩;rw[h]at g;obtain rfl:q=i:=by simpa using g
 unfold wpOp;simp only[l];have m:Region.wanted o (yielded a j.tmps)=bW:=by simp[Region.wanted,k]
 rw[dw m];exact .inl<|p _<|λd w' e g=>⟨e,g⟩
theorem dp{m:M}{b:Array Bool}{e:Act}{w:I}(d:Region.ready md a b=[])(h:Q .normal e w):∀c,kS P md a Q S m c b e w
 |0=>⟨d,h⟩
 |_+1=>⟨λ_=>h,by rw[d];simp⟩
theorem cJ(S:I->Prop)(m:M){id:M}{c:Act}{w:I}(b:P.follows .mixedOrders=bW)(h:kS P .any a Q S m a.size (Array.replicate a.size bF) c w.drew):(Code.region id a bW).wp P Q c w:=yH b<|ot _ _ _ _ h
end
def zP{P:Program}{k:Array Oper}{s:Oper}{u:Act}{ac:Act->I->Prop}{au:Exit->Act->I->Prop}{E:Prop}(Q:s.guard=none)(an ao:Operand)(B:TypeId)(p:s.op=Op.call {callee:=Callee.builtin Builtin.append,args:=#[an,ao],argTypes:=#[B,B]})(b:M)(w:TypeId)(x:TypeInfo)(i:aa)(c bytes:M)(X:P.underlying B=H (.slice w))(S:P.info? w=H x)(hz:x.zero=H i)(h:x.size=c)(o:x.bytes=bytes)(r:i.cells.size=c)(q:0<c)(D:aa)(A:M)(t:iU)(W:u.eval an=D)(j:a.ownsRow b w c D A t)(n:Addr)(v ad:M)(d:iU)(hx:u.eval ao=J (H n) v ad)(T:y d=v*c)(g:∀al C,d[al]?=H C->aT a (n.add al)=H C)(F:∀C∈d,C.oneCell'=bW)(hn:A+v<=140737488355328)(e:(A+v)*bytes<=140737488355328)(f:b<=z (G a))(O:∀l m,m.ownsRow b w c l (A+v) (t++d)->eP a m D l->ac (u.put s.dst l) m):if Region.wanted s (yielded k u.tmps)=bW then Oper.wp P s u a ac au else E:=by
 have hw:Region.wanted s (yielded k u.tmps)=bW:=by simp[Region.wanted,Q]
 rw[dw hw];obtain⟨l,m,V,K,L,_,N⟩:=mV (P:=P) a b B s.type w x i c bytes X S hz h o r q D A t j n v ad d T g F (by unfold maxLen;omega) e f;unfold Oper.wp;simp[execOp,p,resolve,invoke,builtin,W,hx,V,Result.andThen];exact O l m K<|eP.of L N
def Oa:(prog.info? 113).map (λi=>(i.zero,i.size,i.bytes))=H (H<|eC #[ai ⟨#[]⟩,ai ⟨#[]⟩,aL bF],3,40):=by kernel_rfl
def My(w:I)(a:M)(o:aa)(l:uz):Prop:=w.ownsRow a 113 3 o (y l)<|eO l
def OM(w:I)(x a b:aa)(t:TypeId):∀j u,[x,a,b][j]?=H u->aT (ct w<|ar #[x,a,b] t) (((R (z<|G w) 0):Addr).add j)=H u:=by
 intro j u c;rw[dt];unfold World.cell?;rw[ft];simpa using c
def JY(l:uz)(B b q:M)(w:I)(X:y l<=1000000000000)(r:B<z (G w))(C:∀S T,(eO l)[S]?=H T->aT w (R B<|b+S)=H T):cy bG 13 #[bD B b (y l) q] w λW E=>∃D,W=aO D/\My E (z<|G w) D l/\Below (z<|G w) w E:=by
 obtain⟨Q,s,v,x,A⟩:=cz Oa;have m:=U C;clear C;go_in
 go_wp2;go_loopw [3,4] (λo i wr=>∃n:M,n<=y l/\i=ap n/\My wr (z<|G w) o (l.take n)/\Below (z<|G w) w wr) (λ_ i _=>y l-(intOf i).toNat)
 case atStart=>exact⟨0,bA _,rfl,bK _ _ _ _,Below.refl _ _⟩
 (case round=>obtain⟨n,L,rfl,c,a⟩:=hrel;have u:z (G w)<=z (G wr):=a.size;by_cases g:n<y l;(.have j:=kU l n g;have N:aT wr (R B<|b+n*3)=H (ai l[n].key):=(a.cell<|by exact r).trans<|m _ _ j.1;have O:aT wr (R B<|b+n*3+1)=H (ai l[n].val):=(a.cell<|by exact r).trans (by rw[aV];exact m _ _ j.2.1);have P:aT wr (R B<|b+n*3+2)=H (aL l[n].del):=(a.cell<|by exact r).trans (by rw[aV];exact m _ _ j.2.2);clear j;(have d:wr.ownsRow (z<|G w) 113 3 u3 n (eO<|l.take n):=by have K:wr.ownsRow (z<|G w) 113 3 u3 (y<|l.take n) (eO<|l.take n):=c;rwa[dL,Nat.min_eq_left L]at K);obtain⟨ac,V,t⟩:=aC d;subst t;have i:=U d;have F:=U (show eO (l.take<|n+1)=eO (l.take n)++[ai l[n].key,ai l[n].val,aL l[n].del]by unfold eO;rw[aj g,fZ];simp[oD]);clear d;have k:=U a;clear c a;go_wp2;(go_region_law (refine zP rfl (.tmp 11) (.tmp 28) 52 rfl (z<|G w) 113 Q (eC #[ai ⟨#[]⟩,ai ⟨#[]⟩,aL bF]) 3 40 underlying52 s v x A rfl (by decide) (J ac n V) n (eO<|l.take n) (by simp[Act.eval]) (jb (aS i<|ar #[ai l[n].key,ai l[n].val,aL l[n].del] 113) rfl) (R (z<|G wr) 0) 1 1 [ai l[n].key,ai l[n].val,aL l[n].del] (by simp[Act.eval]) rfl (OM _ _ _ _ _) (by simp[Value.oneCell']) (by omega) (by omega) (by simp;omega) ?_;intro v2 w2 e f;obtain⟨x2,c2,rfl⟩:=aC e;have o:=U e;have p:=U f;clear e f));go_wp2;(all_goals go_roundw;(case rel=>exact⟨n+1,by omega,by go_num,by unfold My;rw[dL,Nat.min_eq_left (by omega),ae F];exact o,kr k u p (ar #[ai l[n].key,ai l[n].val,aL l[n].del] 113) rfl<|λb a=>(aI i b a).1⟩);case measure=>simp[intOf];omega));(have d:n=y l:=by omega);subst d;rw[bP]at c;have i:=U c;have k:=U a;clear c a;go_wp2;go_ret;exact⟨_,rfl,i,k⟩)
def MO(w:I):cy bG 13 #[aK] w λe b=>∃a,e=aO a/\My b (z<|G w) a []/\Below (z<|G w) w b:=by
 go_in
 go_wp2;go_loopw [3,4] (λo i wr=>i=ap 0/\o=aK/\wr=w) (λ_ _ _=>0)
 case atStart=>exact⟨rfl,rfl,rfl⟩
 (case round=>obtain⟨rfl,rfl,rfl⟩:=hrel;go_wp2;go_ret;exact⟨_,rfl,bK _ _ _ _,Below.refl _ _⟩)
def zb(l:uz)(v:aa)(w:I)(h:y l<=1000000000000)(i:xV w v l)(f:∀k,bV v=H k->k<z (G w)):cy bG 13 #[v] w λm d=>∃c,m=aO c/\My d (z<|G w) c l/\Below (z<|G w) w d:=by
 obtain⟨_,⟨rfl,e⟩|⟨j,a,b,rfl,_,g⟩⟩:=i;obtain rfl:l=[]:=aQ e;exact MO w;exact JY l j a b w h (f j rfl) g
section
variable{P:Program}{a:Array Oper}{Q:Exit->Act->I->Prop}{md:Region.Mode}{S:I->Prop}
def ND(md:Region.Mode)(a:Array Oper)(b:Array Bool)(m i:M):Bool:=match a[m]? with
 |some c=>(c.after.any λe=>Region.binds md e&&e.on==i)&&Region.noSelect a&&Region.free md a b i&&(Region.ready md a b).contains i
 |none=>bF
def AS(P:Program)(md:Region.Mode)(a:Array Oper)(Q:Exit->Act->I->Prop)(S:I->Prop)(m _ c:M)(b:Array Bool)(d:Act)(w:I):Prop:=kS P md a Q S m c b d w
theorem dA(k:M){m c:M}{b:Array Bool}{d:Act}{w:I}(h:AS P md a Q S m k c b d w):kS P md a Q S m c b d w:=h
theorem eX{k m c:M}{b:Array Bool}{d:Act}{w:I}(h:kS P md a Q S m c b d w):AS P md a Q S m k c b d w:=h
theorem wU{k n:M}{e:Oper}{v:aa}{d:M}{b:Array Bool}{g:Act}{w:I}(i:S w)(j:a[k]?=H e)(c:ND md a b n k=bW)(h:∀o g w,Q (.panic o) (g.put e.dst v) w->Q (.panic o) g w)(m:YieldsIf P a S e v g)(p:AS P md a Q S n (k+1) d (b.setIfInBounds k bW) (g.put e.dst v) w):AS P md a Q S n k (d+1) b g w:=by
 unfold ND at c;split at c;rename_i q l;simp only[jT]at c;exact lJ j l c.1.1.1 c.1.1.2 c.1.2 c.2 h m i p;cases c
theorem fw{k m:M}{d:Oper}{v:aa}{c:M}{b:Array Bool}{e:Act}{w:I}(h:S w)(j:a[k]?=H d)(f:ND md a b m k=bW)(g:∀n e w,Q (.panic n) (e.put d.dst v) w->Q (.panic n) e w)(i:Region.wanted d (yielded a e.tmps)=bW)(l:∀w,S w->(execOp e.eval d).run P w=.ok (.value v) w)(o:AS P md a Q S m (k+1) c (b.setIfInBounds k bW) (e.put d.dst v) w):AS P md a Q S m k (c+1) b e w:=wU h j f g (.inl ⟨i,l⟩) o
end
section
variable{P:Program}{a:Array Oper}{Q:Exit->Act->I->Prop}{md:Region.Mode}{S:I->Prop}
theorem sK{i j p:M}{h k:Oper}{c:M}{b:Array Bool}{m:Act}{w:I}(s:a[i]?=H h)(t:a[j]?=H k)(q:h.guard=none)(r:k.guard=none)(o:Region.ready md a b=[i,j])(e:∀K:Act->I->Prop,(∀d w',(i≠p->S w')->kS P md a Q S p c (b.setIfInBounds i bW) d w'->K d w')->Oper.wp P h m w K Q)(f:∀K:Act->I->Prop,(∀d w',(j≠p->S w')->kS P md a Q S p c (b.setIfInBounds j bW) d w'->K d w')->Oper.wp P k m w K Q):kS P md a Q S p (c+1) b m w:=by
 refine⟨λn=>(by rw[o]at n;cases n),λu g=>?_⟩;rw[o]at g;rcases az.1 g with rfl|g;unfold wpOp;simp only[s];(have l:Region.wanted h (yielded a m.tmps)=bW:=by simp[Region.wanted,q]);rw[dw l];exact .inl<|e _<|λd w' e f=>⟨e,f⟩;(obtain rfl:u=j:=by simpa using g);unfold wpOp;simp only[t];(have l:Region.wanted k (yielded a m.tmps)=bW:=by simp[Region.wanted,r]);rw[dw l];exact .inl<|f _<|λd w' e f=>⟨e,f⟩
theorem tM{α:Type}(g:α->I->Prop)(A:α->Act)(b:Array Bool)(d:M){m e:M}{c:Array Bool}{i:Act}{w:I}(f:(∀x W,g x W->kS P md a Q S m d b (A x) W)->kS P md a Q S m e c i w)(h:∀x W,g x W->kS P md a Q S m d b (A x) W):kS P md a Q S m e c i w:=f h
theorem jY{m b:M}{l c:Array Bool}{d:Act}{w:I}(h:kS P md a Q S m b l d w)(e:l=c):kS P md a Q S m b c d w:=e▸h
end
section
variable{P:Program}{a:Array Oper}{Q:Exit->Act->I->Prop}{md:Region.Mode}
theorem Ku{l n:M}{d:String}{b:Array aa}{w:I}{c:aa->I->Prop}(h:Rows P d b w c):RowsIn (Fence.wide.inRound l) n P d b w c:=λg e _=>let⟨v,f,r,s⟩:=h g e;⟨v,f,r,stepsIn_wide.2 s⟩
theorem Oper.MI{o:Oper}{b:Act}{w:I}{K:Act->I->Prop}(l n:M)(d:∀c,o.op≠ .defer c)(h:o.wp P b w K Q):o.wpIn (Fence.wide.inRound l) n P b w K Q:=by
 unfold Oper.wpIn;refine⟨λf _=>trivial,?_⟩;rw[Oper.semAt_plain (Fence.wide.inRound l) _ _ d];unfold Oper.wp at h;generalize(execOp b.eval o).run P w=r at*;cases r with
 |ok x e=>
  cases x<;>simp only[Oper.upon,Oper.uponIn]at h|-<;>first
   |exact h
   |exact⟨(λc=>(by cases c)),CallsIn.inRound l<|cX.2 h⟩
   |exact⟨(λc=>(by cases c)),Ku h⟩
   |exact h.elim
 |halt x e=>cases x<;>simp only[Oper.upon,Oper.uponIn]at h|-<;>exact h
theorem yZ{l n:M}(g:∀(i:M)(o:Oper)j,a[i]?=H o->o.op≠ .defer j)(f:¬LetsOut Q):∀(b:M)(c:Array Bool)(p:Act)(w:I),wpAny P md a Q b c p w->wpAnyIn (Fence.wide.inRound l) n P md a Q b c p w
 |0,_,_,_,h=>h
 |b+1,_,_,_,h=>⟨h.1,λi k=>by
  have d:=uA (λe m j=>yZ (l:=l) (n:=n) g f b _ e m j)<|h.2 i k;unfold wpOp at d;unfold wpOpIn;cases ho:a[i]? with
  |none=>simpa[ho]using d
  |some o=>
   simp only[ho]at d|-;split
   .rename_i e;simp only[e,je]at d;rcases d with d|d
    .exact Oper.MI l n (λj=>g i o j ho) d
    .exact absurd d.2 f
   .rename_i e;simp only[e]at d;exact⟨λ_ _=>trivial,d⟩⟩
def CW(a:Array Oper):Bool:=a.all λo=>match o.op with| .defer _=>bF|_=>bW
theorem vP(h:CW a=bW):∀(i:M)(o:Oper)d,a[i]?=H o->o.op≠ .defer d:=by
 intro i o d c e;obtain⟨b,rfl⟩:=nr.1 c;have:=Array.all_eq_true.1 h i b;rw[e]at this;cases this
theorem tL(S:I->Prop)(m:M){l n id:M}{b:Act}{w:I}(e:P.follows .mixedOrders=bW)(d:CW a=bW)(c:∀b w,¬Q .outgrown b w)(h:kS P .any a Q S m a.size (Array.replicate a.size bF) b w.drew):(Code.region id a bW).wpIn (Fence.wide.inRound l) n P Q b w:=wpIn_region_any e<|yZ (vP d) (λ⟨b,w,h⟩=>c b w h) _ _ _ _<|ot _ _ _ _ h
end
def AP{P:Program}{r n id:M}{Q:Exit->Act->I->Prop}{c:Act}{l:cr Oper}(j:P.follows .mixedOrders=bW)(e:Region.lexB .any l.toArray=bW)(i:CW l.toArray=bW)(g:∀c a,¬Q .outgrown c a)(h:wpQuiet P l.toArray (λb=>∃n,b=a.drewN n) (λd=>∀b,(∃n,b=a.drewN n)->Q .normal d b) l c):(Code.region id l.toArray bW).wpIn (Fence.wide.inRound r) n P Q c a:=by
 simp only[Region.lexB,jT]at e;refine wpIn_region_any j<|yZ (vP i) (λ⟨c,a,h⟩=>g c a h) _ _ _ _<|wpAny_of_quiet (C:=λb=>∃n,b=a.drewN n) (Q:=λd=>∀b,(∃n,b=a.drewN n)->Q .normal d b) (λ_ b f h=>h b f) _ _ _ _ ⟨1,rfl⟩ ?_;have:=wpAnyQ_lex (C:=λb=>∃n,b=a.drewN n) (md:=.any) e.1 l 0 (Array.replicate l.toArray.size bF) c (by simp) (by simpa using e.2) h;simpa using this
section
open Go.Conc.Locks
def Xo:MuLink where
 lock:=39
 unlock:=40
 ilock:=65
 iunlock:=66
 lockSlow:=113
 unlockSlow:=116
 disable:=109
 enable:=111
 acquire:=112
 relMerge:=114
 cas32:=110
 add32:=115
 tMutex:=100
 tIMutex:=98
 tPMutex:=139
 tPIMutex:=213
 tPI32:=215
 tUP:=146
 tNoCopy:=95
 tU32:=96
def WP:MuLib bG Xo:=by
 constructor<;>first|kernel_rfl|(intro w;kernel_rfl)
def lock_free(a:Addr)(w:I)(b:aT w a=H (jk 0))(c:w.frozen? a=bF):cy bG 39 #[fp<|H a] w λe d=>e=aO (dB #[])/\d=bZ w a (jk 1):=MuLone.lock_free WP a w b c
def unlock_deferred(a:Addr)(u:FrameMode)(w:I)(b:aT w a=H (jk 1))(c:w.frozen? a=bF):CallsD bG 40 #[fp<|H a] u w λf d e=>d=u/\(f=aO (dB #[])/\e=bZ w a (jk 0)):=MuLone.unlock_deferred WP a u w b c
end
section
variable{P:Program}{a:Array Oper}{Q:Exit->Act->I->Prop}{md:Region.Mode}{S:I->Prop}
def zZ(md:Region.Mode)(a:Array Oper)(i:M):M->M->Bool
 |0,_=>bF
 |n+1,j=>match a[j]? with
  |none=>bF
  |some o=>o.after.any λe=>Region.binds md e&&(e.on==i||zZ md a i n e.on)
def BP(md:Region.Mode)(a:Array Oper)(b:Array Bool):Prop:=∀j o,a[j]?=H o->b.getD j bF=bW->∀e∈o.after,Region.binds md e=bW->b.getD e.on bF=bW
def Db(md:Region.Mode)(a:Array Oper)(b:Array Bool):Bool:=(List.range a.size).all λj=>match a[j]? with
 |none=>bW
 |some o=>!b.getD j bF||o.after.all λe=>!Region.binds md e||b.getD e.on bF
theorem Sn{b:Array Bool}(h:Db md a b=bW):BP md a b:=by
 intro l o d j m g f;unfold Db at h;rw[nI]at h;have c:=h l<|lY.2 (nr.1 d).1;simp only[d,j,uf,yK]at c;rw[Array.all_eq_true]at c;obtain⟨k,i,rfl⟩:=Array.mem_iff_getElem.1 g;have e:=c k i;simpa[f]using e
theorem BP.set{b:Array Bool}{k:M}(n:BP md a b)(j:k∈Region.ready md a b):BP md a (b.setIfInBounds k bW):=by
 intro x p h g m f e;obtain⟨o,q,d,c⟩:=xW.1 j;by_cases l:k=x;subst l;rw[h]at d;cases d;exact getD_set_true<|c m f e;rw[getD_set_ne bF l]at g;exact getD_set_true<|n x p h g m f e
theorem zY{p:M}{b:Array Bool}(j:BP md a b):∀(n m:M)(o:Oper),a[m]?=H o->(∀f∈o.after,Region.binds md f=bW->b.getD f.on bF=bW)->zZ md a p n m=bW->b.getD p bF=bW
 |0,_,_,_,_,h=>by simp[zZ]at h
 |n+1,m,o,k,d,h=>by
  unfold zZ at h;simp only[k]at h;obtain⟨x,l,g⟩:=Array.any_eq_true.1 h;simp only[jT,wk,beq_iff_eq]at g;have i:=d _ (tK l) g.1;rcases g.2 with f|f
  .rw[<-f];exact i
  .have hex:∃c,a[(o.after[x]).on]?=H c:=by
    cases n with
    |zero=>simp[zZ]at f
    |succ n=>
     unfold zZ at f;cases q:a[(o.after[x]).on]? with
     |none=>simp[q]at f
     |some c=>exact⟨c,rfl⟩
   obtain⟨c,e⟩:=hex;exact zY j n _ c e (λh g d=>j _ c e i h g d) f
def nW(P:Program)(md:Region.Mode)(a:Array Oper)(Q:Exit->Act->I->Prop)(S:I->Prop)(m:M):M->Array Bool->Act->I->Prop
 |0,b,d,w=>Region.ready md a b=[]/\Q .normal d w
 |fuel+1,b,d,w=>
  (Region.ready md a b=[]->Q .normal d w)/\∀i∈Region.ready md a b,wpOp P a Q i (λe c=>(i<m->S c)/\nW P md a Q S m fuel (b.setIfInBounds i bW) e c) d w
theorem zM{m:M}:∀(b:M)(c:Array Bool)(i:Act)(w:I),nW P md a Q S m b c i w->wpAny P md a Q b c i w
 |0,_,_,_,h=>h
 |b+1,_,_,_,h=>⟨h.1,λj f=>uA (λd g e=>zM b _ d g e.2)<|h.2 j f⟩
theorem Ie{o ad:M}{p:Oper}{au:aa}(N:a[o]?=H p)(ao:o<ad)(T:∀j,ad<=j->j<a.size->zZ md a o a.size j=bW)(l:∀(j:M)(av:Oper)r al,a[j]?=H av->av.op≠ .select r al)(hQ:∀X K L,Q (.panic X) (K.put p.dst au) L->Q (.panic X) K L):∀(c:M)(b:Array Bool)(K:Act)(L:I),BP md a b->(∀j m,a[j]?=H m->j≠o->b.getD j bW=bF->(∀C∈m.after,Region.binds md C=bW->C.on≠o)->p.apart a m=bW)->o∈Region.ready md a b->YieldsIf P a S p au K->S L->nW P md a Q S ad c (b.setIfInBounds o bW) (K.put p.dst au) L->nW P md a Q S ad (c+1) b K L:=by
 intro c;induction c with
 |zero=>
  intro b K L _ _ n F s e;refine⟨λan=>(by rw[an]at n;cases n),λj u=>?_⟩;by_cases d:j=o
  .subst d;exact F.wpOp N s ⟨λ_=>s,e⟩
  .have:=sy u d;rw[e.1]at this;cases this
 |succ c ih=>
  intro b K L t f n F s e;refine⟨λan=>(by rw[an]at n;cases n),λj u=>?_⟩;by_cases d:j=o
  .subst d;exact F.wpOp N s ⟨λ_=>s,e⟩
  .have D:=e.2 j<|sy u d;obtain⟨k,m,g,i⟩:=xW.1 u;have x:b.getD o bF=bW->False:=λq=>by
    have B:=(xW.1 n).1;rcases dF o b.size with v|v
    .simp[v]at B q;rw[B]at q;cases q
    .simp[eD v]at q
   have A:∀C∈m.after,Region.binds md C=bW->C.on≠o:=λC O B v=>by
    have D:=i C O B;rw[v]at D;exact x D
   have h2:=wpOp_putIf g (f j m g d k A) (λr al=>l o p r al N) (λr al=>l j m r al g) hQ F D;have h:∀ac ok,a[ac]?=H ok->ac≠o->(b.setIfInBounds j bW).getD ac bW=bF->(∀C∈ok.after,Region.binds md C=bW->C.on≠o)->p.apart a ok=bW:=λac ok hk O B V=>by
    refine f ac ok hk O ?_ V;by_cases v:j=ac
    .subst v;exact k
    .rw[getD_set_ne bW v]at B;exact B
   have W:=sy n<|Ne.symm d;have w:j<ad:=by
    rcases dF j ad with X|X
    .exact X
    .exact(x<|zY t a.size j m g i<|T j X (nr.1 g).1).elim
   refine uA (λa' w' E=>⟨λ_=>E.2.1 w,ih (b.setIfInBounds j bW) a' w' (t.set u) h W E.1 (E.2.1 w) ?_⟩) h2;rw[uh _ _ d];exact E.2.2
theorem JR{i m:M}{d:Oper}{v:aa}{c:M}{b:Array Bool}{e:Act}{w:I}(k:a[i]?=H d)(g:i<m)(h:((List.range a.size).all λl=>decide (l<m)||zZ md a i a.size l)=bW)(s:Region.noSelect a=bW)(q:Region.free md a b i=bW)(r:(Region.ready md a b).contains i=bW)(f:Db md a b=bW)(o:∀j e w,Q (.panic j) (e.put d.dst v) w->Q (.panic j) e w)(t:YieldsIf P a S d v e)(p:S w)(u:nW P md a Q S m c (b.setIfInBounds i bW) (e.put d.dst v) w):nW P md a Q S m (c+1) b e w:=Ie k g (λl x n=>by
 have:=nI.1 h l<|lY.2 n;simp only[wk,jl]at this;rcases this with j|j
 .omega
 .exact j) (Region.noSelect_spec s) o c b e w (Sn f) (Region.free_spec k q) (by simpa using r) t p u
theorem dM{i n:M}{o:Oper}{c:M}{b:Array Bool}{j:Act}{w:I}(l:a[i]?=H o)(k:o.guard=none)(h:Region.ready md a b=[i])(p:∀K:Act->I->Prop,(∀e d,(i<n->S d)->nW P md a Q S n c (b.setIfInBounds i bW) e d->K e d)->Oper.wp P o j w K Q):nW P md a Q S n (c+1) b j w:=by
 refine⟨λf=>(by rw[h]at f;cases f),λq g=>?_⟩;rw[h]at g;obtain rfl:q=i:=by simpa using g
 unfold wpOp;simp only[l];have m:Region.wanted o (yielded a j.tmps)=bW:=by simp[Region.wanted,k]
 rw[dw m];exact .inl<|p _<|λe d f g=>⟨f,g⟩
theorem ki{m:M}{b:Array Bool}{e:Act}{w:I}(d:Region.ready md a b=[])(h:Q .normal e w):∀c,nW P md a Q S m c b e w
 |0=>⟨d,h⟩
 |_+1=>⟨λ_=>h,by rw[d];simp⟩
theorem oq(S:I->Prop)(m:M){id:M}{c:Act}{w:I}(b:P.follows .mixedOrders=bW)(h:nW P .any a Q S m a.size (Array.replicate a.size bF) c w.drew):(Code.region id a bW).wp P Q c w:=yH b<|zM _ _ _ _ h
end
section
variable{P:Program}{a:Array Oper}{Q:Exit->Act->I->Prop}{md:Region.Mode}{S:I->Prop}
def xX(P:Program)(md:Region.Mode)(a:Array Oper)(Q:Exit->Act->I->Prop)(S:I->Prop)(m _ c:M)(b:Array Bool)(d:Act)(w:I):Prop:=nW P md a Q S m c b d w
def IH(md:Region.Mode)(a:Array Oper)(b:Array Bool)(m k:M):Bool:=decide (k<m)&&((List.range a.size).all λj=>decide (j<m)||zZ md a k a.size j)&&Region.noSelect a&&Region.free md a b k&&(Region.ready md a b).contains k&&Db md a b
theorem uL(k:M){m c:M}{b:Array Bool}{d:Act}{w:I}(h:xX P md a Q S m k c b d w):nW P md a Q S m c b d w:=h
theorem AQ{k m c:M}{b:Array Bool}{d:Act}{w:I}(h:nW P md a Q S m c b d w):xX P md a Q S m k c b d w:=h
theorem SJ{k m:M}{e:Oper}{v:aa}{d:M}{b:Array Bool}{f:Act}{w:I}(h:S w)(i:a[k]?=H e)(c:IH md a b m k=bW)(g:∀l f w,Q (.panic l) (f.put e.dst v) w->Q (.panic l) f w)(j:YieldsIf P a S e v f)(n:xX P md a Q S m (k+1) d (b.setIfInBounds k bW) (f.put e.dst v) w):xX P md a Q S m k (d+1) b f w:=by
 unfold IH at c;simp only[jT,jl]at c;exact JR i c.1.1.1.1.1 c.1.1.1.1.2 c.1.1.1.2 c.1.1.2 c.1.2 c.2 g j h n
theorem AR{k m:M}{d:Oper}{v:aa}{c:M}{b:Array Bool}{e:Act}{w:I}(h:S w)(j:a[k]?=H d)(f:IH md a b m k=bW)(g:∀n e w,Q (.panic n) (e.put d.dst v) w->Q (.panic n) e w)(i:Region.wanted d (yielded a e.tmps)=bW)(l:∀w,S w->(execOp e.eval d).run P w=.ok (.value v) w)(o:xX P md a Q S m (k+1) c (b.setIfInBounds k bW) (e.put d.dst v) w):xX P md a Q S m k (c+1) b e w:=SJ h j f g (.inl ⟨i,l⟩) o
end
def qH{P:Program}{d:Array Oper}{Q:Exit->Act->I->Prop}{h:Region.Mode}{S:I->Prop}{i j q:M}{k l:Oper}{c:Array Bool}{r:Act}(w:d[i]?=H k)(x:d[j]?=H l)(s:k.guard=none)(t:l.guard=none)(p:Region.ready h d c=[i,j])(u:∀K:Act->I->Prop,(∀f e,(i<q->S e)->nW P h d Q S q b (c.setIfInBounds i bW) f e->K f e)->Oper.wp P k r a K Q)(v:∀K:Act->I->Prop,(∀f e,(j<q->S e)->nW P h d Q S q b (c.setIfInBounds j bW) f e->K f e)->Oper.wp P l r a K Q):nW P h d Q S q (b+1) c r a:=by
 refine⟨λo=>(by rw[p]at o;cases o),λA g=>?_⟩;rw[p]at g;rcases az.1 g with rfl|g;unfold wpOp;simp only[w];rw[dw<|by simp[Region.wanted,s]];exact .inl<|u _<|λf e m n=>⟨m,n⟩;(obtain rfl:A=j:=by simpa using g);unfold wpOp;simp only[x];rw[dw<|by simp[Region.wanted,t]];exact .inl<|v _<|λf e m n=>⟨m,n⟩
