import Derived.BigQuiet
import Derived.Deep.QuietTactic
import Derived.Deep.RegionLawGrows
import Derived.Lib.EndianBits
import Derived.OrdersHeld
import Derived.Outline
import Derived.Test.YtophdnlmpfmeiaaGreatDoorChecked
import Derived.WalkLawsBesides
import Derived.Test.YtophdnlmpfmeiaaGreatDoorC0
namespace Go.Proofs.YtophdnlmpfmeiaaGreatDoor
open ChangeShapes WideShapes RowKit Proofs.Tryz
set_option maxHeartbeats 16000000
set_option linter.all false
set_option maxRecDepth 100000
abbrev KV:=aa×aa
def lj(p:KV):List M:=[.string p.1,.string p.2]
def eQ(l:List KV):List M:=l.flatMap lj
def Ki(l:List KV):(eQ l).length=l.length*2:=by
 induction l with
 |nil=>rfl
 |cons p r a=>simp[eQ,lj]at*;omega
def kH(l:List KV)(i:Nat)(h:i<l.length):(eQ l)[i*2]?=some (.string l[i].1)/\(eQ l)[i*2+1]?=some (.string l[i].2):=by
 induction l generalizing i with
 |nil=>simp at h
 |cons p r a=>
  cases i with
  |zero=>simp[eQ,lj]
  |succ i=>
   have:=a i (by simpa using h);have e:(i+1)*2=i*2+2:=by omega
   rw[e];simpa[eQ,lj]using this
def Row(w:J)(c:Nat)(v:M)(n:Nat)(d:List M):Prop:=d.length=n*c/\((v=.slice none 0 0/\n=0)\/∃e b a,v=.slice (some ⟨e,b,none⟩) n a/\n<=a/\∀j u,d[j]?=some u->w.cell? ⟨e,b+j,none⟩=some u)
def iz(w:J)(v:M)(l:List KV):Prop:=Row w 2 v l.length (eQ l)
def zu:(prog.info? 69).map (λi=>(i.zero,i.size,i.bytes))=some (some (.agg #[.string ⟨#[]⟩,.string ⟨#[]⟩]),2,32):=by kernel_rfl
def Ff{a b:aa}(h:a.toList=b.toList):a=b:=by
 rw[iD,iD]at h;exact bytes_inj h
def ut{a b:aa}(h:¬a=b):(a.toList==b.toList)=false:=by
 rw[iC];exactλe=>h (Ff e)
def zw(a k:aa):Bool:=!Op.bytesLess a.toList k.toList
def dR(k v:aa)(st:List KV×Bool)(p:KV):List KV×Bool:=let a:=if !st.2&&zw p.1 k then st.1++[(k,v)]else st.1;(if p.1=k then a else a++[p],st.2||zw p.1 k)
def mh(k v:aa)(d:Bool)(l:List KV):List KV×Bool:=l.foldl (dR k v) ([],d)
def rC(l:List KV)(k v:aa)(d:Bool):List KV:=if(mh k v d l).2 then(mh k v d l).1 else(mh k v d l).1++[(k,v)]
def Fw(k v:aa)(d:Bool)(l:List KV)(n:Nat)(h:n<l.length):mh k v d (l.take (n+1))=dR k v (mh k v d (l.take n)) l[n]:=by
 unfold mh;rw[aq h,fR];rfl
def yC(k v:aa)(st:List KV×Bool)(p:KV):(dR k v st p).1.length<=st.1.length+2:=by
 unfold dR;simp only;split<;>split<;>simp<;>omega
def Ax{k v b c:aa}{a:List KV}(h:b=k):dR k v (a,true) (b,c)=(a,true):=by simp[dR,h]
def Aw{k v b c:aa}{a:List KV}(h:¬b=k):dR k v (a,true) (b,c)=(a++[(b,c)],true):=by simp[dR,h]
def If{k v b d:aa}{a:List KV}(c:Op.bytesLess b.toList k.toList=true)(h:b=k):dR k v (a,false) (b,d)=(a,false):=by
 unfold dR zw;simp only[c];simp[h]
def Ie{k v b c:aa}{a:List KV}(d:Op.bytesLess b.toList k.toList=true)(h:¬b=k):dR k v (a,false) (b,c)=(a++[(b,c)],false):=by
 unfold dR zw;simp only[d];simp[h]
def Ih{k v b d:aa}{a:List KV}(c:Op.bytesLess b.toList k.toList=false)(h:b=k):dR k v (a,false) (b,d)=(a++[(k,v)],true):=by
 unfold dR zw;simp only[c];simp[h]
def Ig{k v b c:aa}{a:List KV}(d:Op.bytesLess b.toList k.toList=false)(h:¬b=k):dR k v (a,false) (b,c)=(a++[(k,v)]++[(b,c)],true):=by
 unfold dR zw;simp only[d];simp[h]
def BE(k v:aa)(d:Bool)(l:List KV):(mh k v d l).1.length<=2*l.length:=by
 unfold mh;have:∀(l:List KV)(st:List KV×Bool),(l.foldl (dR k v) st).1.length<=st.1.length+2*l.length:=by
  intro l;induction l with
  |nil=>intro st;simp
  |cons p r a=>intro st;simp only[eh,aE];have:=a (dR k v st p);have:=yC k v st p;omega
 simpa using this l ([],d)
def fZ(a b:List KV):eQ (a++b)=eQ a++eQ b:=by simp[eQ]
def hZ{w b:J}{base f a n:Nat}{o:M}{d:List M}(h:w.ownsRow base f a o n d)(e:b.heap=w.heap):b.ownsRow base f a o n d:=by
 unfold World.ownsRow at*;rw[e];exact h
def io{B:Nat}{f wr W b:J}{u o:M}(c:Below B f wr)(a:B<=wr.heap.size)(h:du W b u o)(O:Obj)(e:(W.os,W.tape,W.output,W.heap)=((wr.alloc O).os,(wr.alloc O).tape,(wr.alloc O).output,(wr.alloc O).heap))(d:∀k,u.ownBlock=some k->B<=k):Below B f b:=(Below.of_heap (c.alloc a O) e).grown h.grown (by simp only[eY]at e;rw[e.2.2.2];simp;omega) d
def mH(w:J)(base:Nat)(o:M)(l:List KV):Prop:=w.ownsRow base 69 2 o l.length (eQ l)
def mH.of{w:J}{base n:Nat}{o:M}{a:List M}{l:List KV}(h:w.ownsRow base 69 2 o n a)(b:n=l.length)(d:a=eQ l):mH w base o l:=by subst b;subst d;exact h
def jr(w:J)(x y:M)(t:TypeId):∀j u,[x,y][j]?=some u->(w.alloc (.cells #[x,y] t)).cell? ((⟨w.heap.size,0,none⟩:Addr).add j)=some u:=by
 intro j u a;rw[ct];unfold World.cell?;rw[ew];simpa using a
def KF(o:List KV)(W m X:Nat)(k v:aa)(G:Bool)(w:J)(hr:o.length<=1000000000000)(E:∀h,h<o.length->w.cell? ⟨W,m+h*2,none⟩=some (.string (o[h]?.getD (⟨#[]⟩,⟨#[]⟩)).1)/\w.cell? ⟨W,m+h*2+1,none⟩=some (.string (o[h]?.getD (⟨#[]⟩,⟨#[]⟩)).2))(hb:W<w.heap.size):Calls prog 69 #[.slice (some ⟨W,m,none⟩) o.length X,.agg #[.string k,.string v,.bool G]] w λbg w'=>∃v',bg=.returned v'/\mH w' (w.heap.size+1) v' (rC o k v G)/\Below w.heap.size w w':=by
 obtain⟨V,T,x,y,z⟩:=bK zu;have HC:=Z E;clear E;go_enter func69,ntmps69
 go_wp2;go_loopw [5,6,7] (λa bc h wr=>∃(n:Nat),n<=o.length/\h=.int .i64 n/\bc=.bool (mh k v G (o.take n)).2/\mH wr (w.heap.size+1) a (mh k v G (o.take n)).1/\Below (w.heap.size+1) (w.alloc (.cells #[.string k,.string v,.bool G] 111)) wr) (λ_ _ h _=>o.length-(intOf h).toNat)
 case atStart=>exact⟨0,aU _,rfl,rfl,bC _ _ _ _,Below.refl _ _⟩
 case round=>
  obtain⟨n,hn,rfl,rfl,j,b⟩:=hrel;have ba:wr.cell? ⟨w.heap.size,0,none⟩=some (.string k):=by rw[b.cell (by simp)];simp
  have bb:wr.cell? ⟨w.heap.size,1,none⟩=some (.string v):=by rw[b.cell (by simp)];simp
  have t:(mh k v G (o.take n)).1.length<=2*n:=by have:=BE k v G (o.take n);simp at this;omega
  have D:w.heap.size+1<=wr.heap.size:=by have:=b.size;simpa using this
  by_cases C:n<o.length
  ·have K:wr.cell? ⟨W,m+n*2,none⟩=some (.string (o[n]?.getD (⟨#[]⟩,⟨#[]⟩)).1):=by rw[b.cell (by simp;omega),dE hb];exact((Y HC) n C).1
   have L:wr.cell? ⟨W,m+n*2+1,none⟩=some (.string (o[n]?.getD (⟨#[]⟩,⟨#[]⟩)).2):=by rw[b.cell (by simp;omega),dE hb];exact((Y HC) n C).2
   have O:=Z (Fw k v G o n C);generalize mh k v G (o.take n)=st at*;obtain⟨N,bd⟩:=st;have p:=Z j;have A:=Z b;clear j b;have ad:o[n]?.getD (⟨#[]⟩,⟨#[]⟩)=o[n]:=by simp[C]
   rw[ad]at K L;generalize o[n]=bc at*;obtain⟨f,B⟩:=bc;simp only at K L t;cases bd with
   |true=>
    go_wp2_with fail
    go_quiet(fail)
    go_wp2_with fail
    by_cases g:f=k
    ·have s:(f.toList==k.toList)=true:=by rw[g];simp
     have i:=Z ((Y O).trans (Ax g));clear g;go_quiet(fail)
     go_wp2;go_roundw;case rel=>exact⟨n+1,by omega,by go_num,by rw[Y i],by rw[Y i];exact hZ (Y p) rfl,Below.of_heap (Y A) rfl⟩
     case measure=>simp[intOf];omega
    ·have s:(f.toList==k.toList)=false:=ut g;have i:=Z ((Y O).trans (Aw g));clear g;go_quiet(fail)
     go_wp2_with(first
      |(at_builtin;refine aX _ rfl (.tmp 44) (.tmp 49) 38 rfl (w.heap.size+1) 69 V (.agg #[.string ⟨#[]⟩,.string ⟨#[]⟩]) 2 32 underlying38 T x y z rfl (by decide) _ _ _ rfl (hZ (aM (Y p) (.cells #[.string f,.string B] 69)) ?chT) ⟨wr.heap.size,0,none⟩ 1 1 [.string f,.string B] rfl rfl ?c1T ?c2T ?c3T ?c4T ?c5T ?_))
     case chT=>rfl
     case c1T=>exact jr _ _ _ _
     case c2T=>intro bf u;simp at u;rcases u with rfl|rfl<;>rfl
     case c3T=>first|omega|(simp;omega)
     case c4T=>first|omega|(simp;omega)
     case c5T=>simp;omega
     intro o2 P a d;have r:=Z a;have H:=Z d;clear a d;go_wp2;go_roundw;case rel=>exact⟨n+1,by omega,by go_num,by rw[Y i],by rw[Y i];exact mH.of (Y r) (by simp) (by simp[fZ];rfl),io (Y A) D (Y H) (.cells #[.string f,.string B] 69) rfl (λE h=>(aK (Y p) E h).1)⟩
     case measure=>simp[intOf];omega
   |false=>
    by_cases hL:Op.bytesLess f.toList k.toList=true
    ·have R:=Z hL;go_wp2_with fail
     go_quiet(fail)
     go_wp2_with fail
     by_cases g:f=k
     ·have s:(f.toList==k.toList)=true:=by rw[g];simp
      have i:=Z ((Y O).trans (If (Y R) g));clear g;go_quiet(fail)
      go_wp2;go_roundw;case rel=>exact⟨n+1,by omega,by go_num,by rw[Y i],by rw[Y i];exact hZ (Y p) rfl,Below.of_heap (Y A) rfl⟩
      case measure=>simp[intOf];omega
     ·have s:(f.toList==k.toList)=false:=ut g;have i:=Z ((Y O).trans (Ie (Y R) g));clear g;go_quiet(fail)
      go_wp2_with(first
       |(at_builtin;refine aX _ rfl (.tmp 44) (.tmp 49) 38 rfl (w.heap.size+1) 69 V (.agg #[.string ⟨#[]⟩,.string ⟨#[]⟩]) 2 32 underlying38 T x y z rfl (by decide) _ _ _ rfl (hZ (aM (Y p) (.cells #[.string f,.string B] 69)) ?chL) ⟨wr.heap.size,0,none⟩ 1 1 [.string f,.string B] rfl rfl ?c1L ?c2L ?c3L ?c4L ?c5L ?_))
      case chL=>rfl
      case c1L=>exact jr _ _ _ _
      case c2L=>intro bf u;simp at u;rcases u with rfl|rfl<;>rfl
      case c3L=>first|omega|(simp;omega)
      case c4L=>first|omega|(simp;omega)
      case c5L=>simp;omega
      intro o2 P a d;have r:=Z a;have H:=Z d;clear a d;go_wp2;go_roundw;case rel=>exact⟨n+1,by omega,by go_num,by rw[Y i],by rw[Y i];exact mH.of (Y r) (by simp) (by simp[fZ];rfl),io (Y A) D (Y H) (.cells #[.string f,.string B] 69) rfl (λE h=>(aK (Y p) E h).1)⟩
      case measure=>simp[intOf];omega
    ·have ac:Op.bytesLess f.toList k.toList=false:=by simpa using hL
     clear hL;have R:=Z ac;go_wp2_with fail
     go_quiet(fail)
     go_wp2_with(first
      |(at_builtin;refine aX _ rfl (.tmp 28) (.tmp 34) 38 rfl (w.heap.size+1) 69 V (.agg #[.string ⟨#[]⟩,.string ⟨#[]⟩]) 2 32 underlying38 T x y z rfl (by decide) _ _ _ rfl (hZ (aM (Y p) (.cells #[.string k,.string v] 69)) ?chY) ⟨wr.heap.size,0,none⟩ 1 1 [.string k,.string v] rfl rfl ?c1Y ?c2Y ?c3Y ?c4Y ?c5Y ?_))
     case chY=>rfl
     case c1Y=>exact jr _ _ _ _
     case c2Y=>intro bf u;simp at u;rcases u with rfl|rfl<;>rfl
     case c3Y=>first|omega|(simp;omega)
     case c4Y=>first|omega|(simp;omega)
     case c5Y=>simp;omega
     intro o1 F e l;have c:Below (w.heap.size+1) (w.alloc (.cells #[.string k,.string v,.bool G] 111)) F:=io (Y A) D l (.cells #[.string k,.string v] 69) rfl (λE h=>(aK (Y p) E h).1);have an:F.cell? ⟨w.heap.size,0,none⟩=some (.string k):=by rw[c.cell (by simp)];simp
     have ao:F.cell? ⟨W,m+n*2,none⟩=some (.string f):=by rw[c.cell (by simp;omega),<-(Y A).cell (by simp;omega)];exact K
     have ax:F.cell? ⟨W,m+n*2+1,none⟩=some (.string B):=by rw[c.cell (by simp;omega),<-(Y A).cell (by simp;omega)];exact L
     have U:w.heap.size+1<=F.heap.size:=by have:=c.size;simpa using this
     have S:mH F (w.heap.size+1) o1 (N++[(k,v)]):=mH.of e (by simp) (by simp[fZ];rfl);have al:(N++[(k,v)]).length<=2*n+1:=by simp;omega
     have q:=Z S;have Q:=Z c;clear e l c S;go_wp2_with fail
     by_cases g:f=k
     ·have s:(f.toList==k.toList)=true:=by rw[g];simp
      have i:=Z ((Y O).trans (Ih (Y R) g));clear g;go_quiet(fail)
      go_wp2;go_roundw;case rel=>exact⟨n+1,by omega,by go_num,by rw[Y i],by rw[Y i];exact hZ (Y q) rfl,Below.of_heap (Y Q) rfl⟩
      case measure=>simp[intOf];omega
     ·have s:(f.toList==k.toList)=false:=ut g;have i:=Z ((Y O).trans (Ig (Y R) g));clear g;go_quiet(fail)
      go_wp2_with(first
       |(at_builtin;refine aX _ rfl (.tmp 44) (.tmp 49) 38 rfl (w.heap.size+1) 69 V (.agg #[.string ⟨#[]⟩,.string ⟨#[]⟩]) 2 32 underlying38 T x y z rfl (by decide) _ _ _ rfl (hZ (aM (Y q) (.cells #[.string f,.string B] 69)) ?chZ) ⟨F.heap.size,0,none⟩ 1 1 [.string f,.string B] rfl rfl ?c1Z ?c2Z ?c3Z ?c4Z ?c5Z ?_))
      case chZ=>rfl
      case c1Z=>exact jr _ _ _ _
      case c2Z=>intro bf u;simp at u;rcases u with rfl|rfl<;>rfl
      case c3Z=>first|omega|(simp;omega)
      case c4Z=>first|omega|(simp;omega)
      case c5Z=>simp;omega
      intro o2 P a d;have r:=Z a;have H:=Z d;clear a d;go_wp2;go_roundw;case rel=>exact⟨n+1,by omega,by go_num,by rw[Y i],by rw[Y i];exact mH.of (Y r) (by simp) (by simp[fZ];rfl),io (Y Q) U (Y H) (.cells #[.string f,.string B] 69) rfl (λE h=>(aK (Y q) E h).1)⟩
      case measure=>simp[intOf];omega
  ·have a:o.take n=o:=bP (by omega);rw[a]at j t|-;have d:=Z (show rC o k v G=if(mh k v G o).2 then(mh k v G o).1 else(mh k v G o).1++[(k,v)]from rfl);generalize mh k v G o=st at*;obtain⟨N,bd⟩:=st;simp only at t;have p:=Z j;have A:=Z b;clear j b;have fin:∀P,Below (w.heap.size+1) (w.alloc (.cells #[.string k,.string v,.bool G] 111)) P->Below w.heap.size w P:=λP a=>((Below.refl _ w).alloc (ai _) _).trans (a.mono (by omega));have c:=Z fin;clear fin;cases bd with
   |true=>
    go_wp2;go_ret;exact⟨_,rfl,by rw[Y d];exact Y p,Y c _ (Y A)⟩
   |false=>
    go_wp2_with(first
     |(at_builtin;refine aX _ rfl (.tmp 53) (.tmp 59) 38 rfl (w.heap.size+1) 69 V (.agg #[.string ⟨#[]⟩,.string ⟨#[]⟩]) 2 32 underlying38 T x y z rfl (by decide) _ _ _ rfl (hZ (aM (Y p) (.cells #[.string k,.string v] 69)) ?chX) ⟨wr.heap.size,0,none⟩ 1 1 [.string k,.string v] rfl rfl ?c1X ?c2X ?c3X ?c4X ?c5X ?_))
    case chX=>rfl
    try(case c1X=>exact jr _ _ _ _)
    case c2X=>exact⟨rfl,rfl⟩
    case c3X=>omega
    case c4X=>omega
    case c5X=>omega
    intro o1 F e l;have q:=Z e;have H:=Z l;clear e l;go_wp2;go_ret;exact⟨_,rfl,by rw[Y d];exact mH.of (Y q) (by simp) (by simp[fZ];rfl),Y c _ (io (Y A) D (Y H) (.cells #[.string k,.string v] 69) rfl (λE h=>(aK (Y p) E h).1))⟩
def Nf(k v:aa)(l:Bool)(w:J):Calls prog 69 #[.slice none 0 0,.agg #[.string k,.string v,.bool l]] w λy q=>∃p,y=.returned p/\mH q (w.heap.size+1) p (rC [] k v l)/\Below w.heap.size w q:=by
 obtain⟨x,s,h,i,j⟩:=bK zu;go_enter func69,ntmps69
 go_wp2;go_loopw [5,6,7] (λo a i wr=>i=.int .i64 0/\a=.bool l/\o=.slice none 0 0/\Below (w.heap.size+1) (w.alloc (.cells #[.string k,.string v,.bool l] 111)) wr) (λ_ _ _ _=>0)
 case atStart=>exact⟨rfl,rfl,rfl,Below.refl _ _⟩
 case round=>
  obtain⟨rfl,rfl,rfl,a⟩:=hrel;have t:wr.cell? ⟨w.heap.size,0,none⟩=some (.string k):=by rw[a.cell (by simp)];simp
  have u:wr.cell? ⟨w.heap.size,1,none⟩=some (.string v):=by rw[a.cell (by simp)];simp
  have g:w.heap.size+1<=wr.heap.size:=by have:=a.size;simpa using this
  have c:mH wr (w.heap.size+1) (.slice none 0 0) []:=bC _ _ _ _;have e:=Z c;have m:=Z a;clear c a;have fin:∀a,Below (w.heap.size+1) (w.alloc (.cells #[.string k,.string v,.bool l] 111)) a->Below w.heap.size w a:=λa h=>((Below.refl _ w).alloc (ai _) _).trans (h.mono (by omega));have n:=Z fin;clear fin;cases l with
  |true=>
   go_wp2;go_ret;exact⟨_,rfl,Y e,Y n _ (Y m)⟩
  |false=>
   go_wp2_with(first
    |(at_builtin;refine aX _ rfl (.tmp 53) (.tmp 59) 38 rfl (w.heap.size+1) 69 x (.agg #[.string ⟨#[]⟩,.string ⟨#[]⟩]) 2 32 underlying38 s h i j rfl (by decide) _ _ _ rfl (hZ (aM (Y e) (.cells #[.string k,.string v] 69)) ?chX) ⟨wr.heap.size,0,none⟩ 1 1 [.string k,.string v] rfl rfl ?c1X ?c2X ?c3X ?c4X ?c5X ?_))
   case chX=>rfl
   try(case c1X=>exact jr _ _ _ _)
   case c2X=>intro B o;simp at o;rcases o with rfl|rfl<;>rfl
   case c3X=>first|omega|(simp;omega)|simp
   case c4X=>first|omega|(simp;omega)|simp
   case c5X=>first|omega|(simp;omega)
   intro z A b d;have f:=Z b;have r:=Z d;clear b d;go_wp2;go_ret;exact⟨_,rfl,mH.of (Y f) rfl rfl,Y n _ (io (Y m) g (Y r) (.cells #[.string k,.string v] 69) rfl (λb a=>(aK (Y e) b a).1))⟩
def Row.below{B:Nat}{w g:J}{a n:Nat}{v:M}{h:List M}(A:Row w a v n h)(x:Below B w g)(s:∀k,v.ownBlock=some k->k<B):Row g a v n h:=by
 obtain⟨q,r⟩:=A;refine⟨q,?_⟩;rcases r with⟨rfl,o⟩|⟨z,e,b,rfl,d,y⟩
 ·exact .inl ⟨rfl,o⟩
 ·exact .inr ⟨z,e,b,rfl,d,λj u o=>(x.cell (by exact s z rfl)).trans (y j u o)⟩
def cW{w:J}{base r a n:Nat}{v:M}{e:List M}(j:w.ownsRow base r a v n e):Row w a v n e:=by
 refine⟨j.1,?_⟩;rcases j.2 with⟨rfl,o⟩|⟨g,b,h,rfl,_,_,d,_⟩
 ·exact .inl ⟨rfl,o⟩
 ·refine .inr ⟨g,0,b,rfl,d,λt u q=>?_⟩;have:=j.cells (g:=g) rfl t u q;rwa[ct]at this
def mH.Hb{w:J}{base:Nat}{o:M}{l:List KV}(h:mH w base o l):iz w o l:=cW h
def Ng(p:M)(l:List KV)(k v:aa)(h:Bool)(w:J)(n:iz w p l)(m:∀r,p.ownBlock=some r->r<w.heap.size)(o:l.length<=1000000000000):Calls prog 69 #[p,.agg #[.string k,.string v,.bool h]] w λs g=>∃f,s=.returned f/\mH g (w.heap.size+1) f (rC l k v h)/\Below w.heap.size w g:=by
 obtain⟨t,⟨rfl,i⟩|⟨q,c,a,rfl,j,d⟩⟩:=n
 ·obtain rfl:l=[]:=aG i;exact Nf k v h w
 ·refine KF l q c a k v h w o (λu b=>?_) (m q rfl);have e:=kH l u b;refine⟨?_,?_⟩
  ·rw[d _ _ e.1];simp[b]
  ·rw[aP,d _ _ e.2];simp[b]
structure nk where
 key:aa
 val:aa
 del:Bool
def ky(c:nk):List M:=[.string c.key,.string c.val,.bool c.del]
def cZ(l:List nk):List M:=l.flatMap ky
def iO(l:List nk)(i:Nat)(h:i<l.length):(cZ l)[i*3]?=some (.string l[i].key)/\(cZ l)[i*3+1]?=some (.string l[i].val)/\(cZ l)[i*3+2]?=some (.bool l[i].del):=by
 induction l generalizing i with
 |nil=>simp at h
 |cons p r a=>
  cases i with
  |zero=>simp[cZ,ky]
  |succ i=>
   have:=a i (by simpa using h);have e:(i+1)*3=i*3+3:=by omega
   rw[e];simpa[cZ,ky]using this
def tD(w:J)(v:M)(l:List nk):Prop:=Row w 3 v l.length (cZ l)
def wt:Bool->Nat
 |true=>0
 |false=>1
def yB(k v:aa)(st:List KV×Bool)(p:KV):(dR k v st p).1.length+wt (dR k v st p).2<=st.1.length+wt st.2+1:=by
 obtain⟨b,q⟩:=st;obtain⟨a,c⟩:=p;cases q<;>cases hg:zw a k<;>by_cases h:a=k<;>(simp only[dR,hg];simp[h,wt])
def Dd(l:List KV)(k v:aa)(d:Bool):(rC l k v d).length<=l.length+1:=by
 have H:∀(l:List KV)(st:List KV×Bool),(l.foldl (dR k v) st).1.length+wt (l.foldl (dR k v) st).2<=st.1.length+wt st.2+l.length:=by
  intro l;induction l with
  |nil=>intro st;simp
  |cons p r a=>intro st;simp only[eh,aE];have:=a (dR k v st p);have:=yB k v st p;omega
 have h:=H l ([],d);have b:wt d<=1:=by cases d<;>simp[wt]
 simp only[cH]at h;unfold rC mh;split<;>rename_i e
 ·omega
 ·have a:(List.foldl (dR k v) ([],d) l).2=false:=by simpa using e
  rw[a,show wt false=1 from rfl]at h;rw[ag];simp only[aE,cH];omega
def Kk(l:List KV)(a:List nk):List KV:=a.foldl (λl c=>rC l c.key c.val c.del) l
def Mk(l:List KV)(a:List nk)(n:Nat)(h:n<a.length):Kk l (a.take (n+1))=rC (Kk l (a.take n)) a[n].key a[n].val a[n].del:=by
 unfold Kk;rw[aq h,fR];rfl
def zD(l:List KV)(a:List nk):(Kk l a).length<=l.length+a.length:=by
 unfold Kk;induction a generalizing l with
 |nil=>simp
 |cons c r b=>simp only[eh,aE];have:=b (rC l c.key c.val c.del);have:=Dd l c.key c.val c.del;omega
def OU(K W:M)(G:List KV)(b:List nk)(w:J)(v:iz w K G)(u:∀g,K.ownBlock=some g->g<w.heap.size)(hc:tD w W b)(i:∀g,W.ownBlock=some g->g<w.heap.size)(hr:G.length+b.length<=1000000000000):Calls prog 45 #[K,W] w λad H=>∃t,ad=.returned t/\iz H t (Kk G b)/\(∀g,t.ownBlock=some g->g<H.heap.size)/\(t.ownBlock=K.ownBlock\/∀g,t.ownBlock=some g->w.heap.size<=g)/\Below w.heap.size w H:=by
 obtain⟨h1,⟨rfl,h0⟩|⟨N,k,X,rfl,ac,p⟩⟩:=hc
 ·obtain rfl:b=[]:=aG h0;have B:=Z v;have A:=Z u;clear v u i;go_enter func45,ntmps45
  go_wp2;go_loopw [0,5] (λL O wr=>O=.int .i64 0/\L=K/\wr=w) (λ_ _ _=>0)
  case atStart=>exact⟨rfl,rfl,rfl⟩
  case round=>
   obtain⟨rfl,rfl,rfl⟩:=hrel;go_wp2;go_ret;exact⟨_,rfl,Y B,Y A,.inl rfl,Below.refl _ _⟩
 ·have h:N<w.heap.size:=i N rfl;have B:=Z v;have A:=Z u;have z:=Z p;clear v u i p;go_enter func45,ntmps45
  go_wp2;go_loopw [0,5] (λL O wr=>∃n:Nat,n<=b.length/\O=.int .i64 n/\iz wr L (Kk G (b.take n))/\(∀g,L.ownBlock=some g->g<wr.heap.size)/\(L.ownBlock=K.ownBlock\/∀g,L.ownBlock=some g->w.heap.size<=g)/\Below w.heap.size w wr) (λ_ O _=>b.length-(intOf O).toNat)
  case atStart=>exact⟨0,aU _,rfl,Y B,Y A,.inl rfl,Below.refl _ _⟩
  case round=>
   obtain⟨n,hn,rfl,c,e,j,a⟩:=hrel;by_cases s:n<b.length
   ·have f:=iO b n s;have C:wr.cell? ⟨N,k+n*3,none⟩=some (.string b[n].key):=(a.cell (by exact h)).trans ((Y z) _ _ f.1);have D:wr.cell? ⟨N,k+n*3+1,none⟩=some (.string b[n].val):=(a.cell (by exact h)).trans (by rw[aP];exact(Y z) _ _ f.2.1);have E:wr.cell? ⟨N,k+n*3+2,none⟩=some (.bool b[n].del):=(a.cell (by exact h)).trans (by rw[aP];exact(Y z) _ _ f.2.2);have R:=Z (Mk G b n s);have r:(Kk G (b.take n)).length<=1000000000000:=by have:=zD G (b.take n);simp at this;omega
    have x:=Z c;have y:=Z e;have l:=Z a;clear f c e a j;generalize F:b[n]=ce at*;obtain⟨ck,cv,cd⟩:=ce;clear F;simp only at C D E;go_wp2_with(first
     |(go_at_call 69;refine(Ng _ _ ck cv cd _ (Y x) (Y y) r).mono ?_;rintro ad Q⟨P,rfl,d,m⟩))
    have o:Below w.heap.size w Q:=(Y l).trans (m.mono (Y l).size);have q:∀g,P.ownBlock=some g->g<Q.heap.size:=λg f=>(aK d g f).2;have S:=Z d.Hb;have T:=Z o;have U:=Z q;have V:=Z (show∀g,P.ownBlock=some g->w.heap.size<=g fromλg f=>by have:=(aK d g f).1;have:=(Y l).size;omega);clear d m o q;go_wp2;go_roundw;case rel=>exact⟨n+1,by omega,by go_num,by rw[Y R];exact Y S,Y U,.inr (Y V),Y T⟩
    case measure=>simp[intOf];omega
   ·have d:b.take n=b:=bP (by omega);rw[d]at c;have x:=Z c;have y:=Z e;have l:=Z a;have f:=Z j;clear c e a j;go_wp2;go_ret;exact⟨_,rfl,Y x,Y y,Y f,Y l⟩
def kZ(l:List KV)(k:aa):aa×Bool:=match l with
 |[]=>(⟨#[]⟩,false)
 |p::r=>if p.1=k then(p.2,true)else kZ r k
def Ja{l:List KV}{k:aa}{n:Nat}(h:n<l.length)(e:l[n].1=k):kZ (l.drop n) k=(l[n].2,true):=by
 rw[bm h];simp[kZ,e]
def FY{l:List KV}{k:aa}{n:Nat}(h:n<l.length)(e:¬l[n].1=k):kZ (l.drop n) k=kZ (l.drop (n+1)) k:=by
 rw[bm h];simp[kZ,e]
def PN{a b c d:M}(h:a=c)(k:b=d):Ending.returned (.tuple #[a,b])=.returned (.tuple #[c,d]):=by rw[h,k]
def Lw(B:M)(l:List KV)(k:aa)(w:J)(v:iz w B l)(E:l.length<=1000000000000):Calls prog 89 #[B,.string k] w λC z=>C=.returned (.tuple #[.string (kZ l k).1,.bool (kZ l k).2])/\z=w:=by
 obtain⟨t,⟨rfl,s⟩|⟨A,e,r,rfl,u,o⟩⟩:=v
 ·obtain rfl:l=[]:=aG s;go_enter func89,ntmps89
  go_wp2;go_loop [6] (λq=>q=.int .i64 0) (λ_=>0)
  case atStart=>rfl
  case round=>
   obtain rfl:=hrel;go_wp2;go_ret2
   exact⟨rfl,rfl⟩
 ·have m:=Z o;clear o t;go_enter func89,ntmps89
  go_wp2;go_loop [6] (λq=>∃n:Nat,n<=l.length/\q=.int .i64 n/\kZ l k=kZ (l.drop n) k) (λq=>l.length-(intOf q).toNat)
  case atStart=>exact⟨0,aU _,rfl,rfl⟩
  case round=>
   obtain⟨n,D,rfl,p⟩:=hrel;have f:=Z p;clear p;by_cases b:n<l.length
   ·have i:=kH l n b;have c:w.cell? ⟨A,e+n*2,none⟩=some (.string l[n].1):=(Y m) _ _ i.1;have d:w.cell? ⟨A,e+n*2+1,none⟩=some (.string l[n].2):=by rw[aP];exact(Y m) _ _ i.2
    clear i;by_cases a:l[n].1=k
    ·have g:=Z ((Y f).trans (Ja b a));generalize l[n]=x at*;obtain⟨j,y⟩:=x;simp only at c d a;have h:(j.toList==k.toList)=true:=by rw[a];simp
     clear a;go_wp2;go_ret2
     exact⟨by rw[Y g];rfl,rfl⟩
    ·have g:=Z ((Y f).trans (FY b a));generalize l[n]=x at*;obtain⟨j,y⟩:=x;simp only at c d a;have h:(j.toList==k.toList)=false:=ut a;clear a;go_wp2;go_round
     case rel=>exact⟨n+1,by omega,by go_num,Y g⟩
     case measure=>simp[intOf];omega
   ·have a:l.drop n=[]:=by simp;omega
    go_wp2;go_ret2
    exact⟨by rw[Y f,a];rfl,rfl⟩
def kX(m t:Int):Int:=if m<1\/32<m\/t<2\/6<t then 1 else 0
def wZ(m t:Int)(w:J):Calls prog 27 #[.int .i64 m,.int .i64 t] w λe b=>e=.returned (.int .i64 (kX m t))/\b=w:=by
 by_cases c:m<1
 ·have a:=Z (show kX m t=1 by unfold kX;rw[dr (by omega)]);go_enter func27,ntmps27
  go_wp2;go_ret;exact⟨by rw[Y a];rfl,rfl⟩
 ·by_cases d:32<m
  ·have a:=Z (show kX m t=1 by unfold kX;rw[dr (by omega)]);go_enter func27,ntmps27
   go_wp2;go_ret;exact⟨by rw[Y a];rfl,rfl⟩
  ·by_cases f:t<2
   ·have a:=Z (show kX m t=1 by unfold kX;rw[dr (by omega)]);go_enter func27,ntmps27
    go_wp2;go_ret;exact⟨by rw[Y a];rfl,rfl⟩
   ·by_cases g:6<t
    ·have a:=Z (show kX m t=1 by unfold kX;rw[dr (by omega)]);go_enter func27,ntmps27
     go_wp2;go_ret;exact⟨by rw[Y a];rfl,rfl⟩
    ·have a:=Z (show kX m t=0 by unfold kX;rw[dd (by omega)]);go_enter func27,ntmps27
     go_wp2;go_ret;exact⟨by rw[Y a];rfl,rfl⟩
def jo:List nk->Int
 |[]=>0
 |c::r=>if c.key.size=0\/8<c.key.size then 3 else if c.del=false/\16<c.val.size then 4 else jo r
def eB(a:List nk):Int:=if 8<a.length then 2 else jo a
def xC{a:List nk}{n:Nat}(h:n<a.length)(e:a[n].key.size=0\/8<a[n].key.size):jo (a.drop n)=3:=by
 rw[bm h,jo,dr e]
def xB{a:List nk}{n:Nat}(h:n<a.length)(e:¬(a[n].key.size=0\/8<a[n].key.size))(f:a[n].del=false/\16<a[n].val.size):jo (a.drop n)=4:=by
 rw[bm h,jo,dd e,dr f]
def zJ{a:List nk}{n:Nat}(h:n<a.length)(e:¬(a[n].key.size=0\/8<a[n].key.size))(f:¬(a[n].del=false/\16<a[n].val.size)):jo (a.drop n)=jo (a.drop (n+1)):=by
 rw[bm h,jo,dd e,dd f]
def Bf(H:M)(a:List nk)(w:J)(F:tD w H a)(N:a.length<=1000000000000):Calls prog 44 #[H] w λK G=>K=.returned (.int .i64 (eB a))/\G=w:=by
 obtain⟨D,⟨rfl,C⟩|⟨A,k,B,rfl,E,u⟩⟩:=F
 ·obtain rfl:a=[]:=aG C;go_enter func44,ntmps44
  go_wp2;go_loop [3] (λy=>y=.int .i64 0) (λ_=>0)
  case atStart=>rfl
  case round=>
   obtain rfl:=hrel;go_wp2;go_ret;exact⟨rfl,rfl⟩
 ·have o:=Z u;clear u D;by_cases t:8<a.length
  ·have p:=Z (show eB a=2 by unfold eB;rw[dr t]);go_enter func44,ntmps44
   go_wp2;go_ret;exact⟨by rw[Y p];rfl,rfl⟩
  ·have p:=Z (show eB a=jo a by unfold eB;rw[dd t]);go_enter func44,ntmps44
   go_wp2;go_loop [3] (λy=>∃n:Nat,n<=a.length/\y=.int .i64 n/\eB a=jo (a.drop n)) (λy=>a.length-(intOf y).toNat)
   case atStart=>exact⟨0,aU _,rfl,Y p⟩
   case round=>
    obtain⟨n,L,rfl,v⟩:=hrel;have l:=Z v;clear v;by_cases c:n<a.length
    ·have m:=iO a n c;have g:w.cell? ⟨A,k+n*3,none⟩=some (.string a[n].key):=(Y o) _ _ m.1;have h:w.cell? ⟨A,k+n*3+1,none⟩=some (.string a[n].val):=by rw[aP];exact(Y o) _ _ m.2.1
     have i:w.cell? ⟨A,k+n*3+2,none⟩=some (.bool a[n].del):=by rw[aP];exact(Y o) _ _ m.2.2
     clear m;by_cases b:a[n].key.size=0\/8<a[n].key.size
     ·have f:=Z ((Y l).trans (xC c b));generalize a[n]=z at*;obtain⟨e,s,r⟩:=z;simp only at g h i b;rcases b with b|b
      ·have j:((e.size:Int)==0)=true:=by simp[b]
       go_wp2;go_ret;exact⟨by rw[Y f];rfl,rfl⟩
      ·have j:((e.size:Int)==0)=false:=iC.2 (by omega);go_wp2;go_ret;exact⟨by rw[Y f];rfl,rfl⟩
     ·by_cases d:a[n].del=false/\16<a[n].val.size
      ·have f:=Z ((Y l).trans (xB c b d));generalize a[n]=z at*;obtain⟨e,s,r⟩:=z;simp only at g h i b d;obtain⟨rfl,x⟩:=d;have j:((e.size:Int)==0)=false:=iC.2 (by omega);have q:¬8<e.size:=by omega
       clear b;go_wp2;go_ret;exact⟨by rw[Y f];rfl,rfl⟩
      ·have f:=Z ((Y l).trans (zJ c b d));generalize a[n]=z at*;obtain⟨e,s,r⟩:=z;simp only at g h i b d;have j:((e.size:Int)==0)=false:=iC.2 (by omega);have q:¬8<e.size:=by omega
       clear b;cases r with
       |true=>
        clear d;go_wp2;go_round
        case rel=>exact⟨n+1,by omega,by go_num,Y f⟩
        case measure=>simp[intOf];omega
       |false=>
        have x:¬16<s.size:=by simpa using d
        clear d;go_wp2;go_round
        case rel=>exact⟨n+1,by omega,by go_num,Y f⟩
        case measure=>simp[intOf];omega
    ·have b:a.drop n=[]:=by simp;omega
     go_wp2;go_ret;exact⟨by rw[Y l,b];rfl,rfl⟩
def nD(b a:aa)(limit:Int)(n:Nat)(p:KV):Bool:=zw p.1 b&&((a.toList==[])||Op.bytesLess p.1.toList a.toList)&&(decide (limit<=0)||decide ((n:Int)<limit))
def gW(c b:aa)(limit:Int)(a:List KV)(p:KV):List KV:=if nD c b limit a.length p then a++[p]else a
def jV(l:List KV)(b a:aa)(limit:Int):List KV:=l.foldl (gW b a limit) []
def JZ(l:List KV)(b a:aa)(limit:Int)(n:Nat)(h:n<l.length):jV (l.take (n+1)) b a limit=gW b a limit (jV (l.take n) b a limit) l[n]:=by
 unfold jV;rw[aq h,fR];rfl
def kz(l:List KV)(c b:aa)(limit:Int):(jV l c b limit).length<=l.length:=by
 have H:∀(l a:List KV),(l.foldl (gW c b limit) a).length<=a.length+l.length:=by
  intro l;induction l with
  |nil=>intro a;simp
  |cons p r d=>
   intro a;simp only[eh,aE];have e:=d (gW c b limit a p);have f:(gW c b limit a p).length<=a.length+1:=by unfold gW;split<;>simp
   omega
 have:=H l [];simpa[jV]using this
def NS{c b:aa}{limit:Int}{a:List KV}{p:KV}(h:nD c b limit a.length p=true):gW c b limit a p=a++[p]:=by unfold gW;rw[dr h]
def OZ{c b:aa}{limit:Int}{a:List KV}{p:KV}(h:nD c b limit a.length p=false):gW c b limit a p=a:=by unfold gW;rw[dd (by simp[h])]
def Cu(p:List KV)(U w L:Nat)(l k:aa)(limit:Int)(B:J)(hr:p.length<=1000000000000)(W:U<B.heap.size)(x:∀ad S,(eQ p)[ad]?=some S->B.cell? ⟨U,w+ad,none⟩=some S):Calls prog 58 #[.slice (some ⟨U,w,none⟩) p.length L,.string l,.string k,.int .i64 limit] B λV w'=>∃v',V=.returned v'/\mH w' B.heap.size v' (jV p l k limit)/\Below B.heap.size B w':=by
 obtain⟨H,r,t,u,v⟩:=bK zu;have T:=Z x;clear x;go_enter func58,ntmps58
 go_wp2;go_loopw [9,10] (λo i wr=>∃n:Nat,n<=p.length/\i=.int .i64 n/\mH wr B.heap.size o (jV (p.take n) l k limit)/\Below B.heap.size B wr) (λ_ i _=>p.length-(intOf i).toNat)
 case atStart=>exact⟨0,aU _,rfl,bC _ _ _ _,Below.refl _ _⟩
 case round=>
  obtain⟨n,D,rfl,e,c⟩:=hrel;have s:B.heap.size<=wr.heap.size:=c.size;by_cases E:n<p.length
  ·have N:=kH p n E;have O:wr.cell? ⟨U,w+n*2,none⟩=some (.string p[n].1):=(c.cell (by exact W)).trans ((Y T) _ _ N.1);have P:wr.cell? ⟨U,w+n*2+1,none⟩=some (.string p[n].2):=(c.cell (by exact W)).trans (by rw[aP];exact(Y T) _ _ N.2);clear N;have X:(jV (p.take n) l k limit).length<=n:=by have:=kz (p.take n) l k limit;simp at this;omega
   have K:=Z (JZ p l k limit n E);have ho:∃al ac,u9=.slice al (jV (p.take n) l k limit).length ac:=by
    rcases e.2 with⟨V,b⟩|⟨m,h,a,V,_⟩
    ·exact⟨none,0,by rw[V,b]⟩
    ·exact⟨_,_,V⟩
   generalize jV (p.take n) l k limit=d at*;generalize p[n]=an at*;obtain⟨f,i⟩:=an;simp only at O P;have j:=Z e;have o:=Z c;clear e c;obtain⟨al,ac,rfl⟩:=ho;have no:∀(D:nD l k limit d.length (f,i)=false),jV (p.take (n+1)) l k limit=d:=λD=>(Y K).trans (OZ D);have F:∀(D:nD l k limit d.length (f,i)=true),jV (p.take (n+1)) l k limit=d++[(f,i)]:=λD=>(Y K).trans (NS D);have G:=Z no;have q:=Z F;clear no F K;cases hA:Op.bytesLess f.toList l.toList with
   |true=>
    have g:=Z (Y G (by simp[nD,zw, *]));go_wp2;go_roundw;case rel=>exact⟨n+1,by omega,by go_num,by rw[Y g];exact Y j,Y o⟩
    case measure=>simp[intOf];omega
   |false=>
    cases hH:(k.toList==[])with
    |true=>
     by_cases C:limit<=0
     ·have z:decide (limit<=0)=true:=by simp[C]
      have g:=Z (Y q (by simp[nD,zw, *]));go_wp2_with(first
       |(at_builtin;refine aX _ rfl (.tmp 47) (.tmp 52) 38 rfl B.heap.size 69 H (.agg #[.string ⟨#[]⟩,.string ⟨#[]⟩]) 2 32 underlying38 r t u v rfl (by decide) _ _ _ rfl (hZ (aM (Y j) (.cells #[.string f,.string i] 69)) ?chQ1) ⟨wr.heap.size,0,none⟩ 1 1 [.string f,.string i] rfl rfl ?c1Q1 ?c2Q1 ?c3Q1 ?c4Q1 ?c5Q1 ?_))
      case chQ1=>rfl
      try(case c1Q1=>exact jr _ _ _ _)
      case c2Q1=>first|exact⟨rfl,rfl⟩|(intro S m;simp at m;rcases m with rfl|rfl<;>rfl)
      case c3Q1=>first|omega|(simp;omega)
      case c4Q1=>first|omega|(simp;omega)
      case c5Q1=>first|omega|(simp;omega)
      intro Q R a b;have h:=Z a;have y:=Z b;clear a b;go_wp2;go_roundw;case rel=>exact⟨n+1,by omega,by go_num,by rw[Y g];exact mH.of (Y h) (by simp) (by simp[fZ];rfl),io (Y o) s (Y y) (.cells #[.string f,.string i] 69) rfl (λe c=>(aK (Y j) e c).1)⟩
      case measure=>simp[intOf];omega
     ·have z:decide (limit<=0)=false:=by simp[C]
      by_cases x:(d.length:Int)<limit
      ·have A:decide ((d.length:Int)<limit)=true:=by simp[x]
       have g:=Z (Y q (by simp[nD,zw, *]));go_wp2_with(first
        |(at_builtin;refine aX _ rfl (.tmp 47) (.tmp 52) 38 rfl B.heap.size 69 H (.agg #[.string ⟨#[]⟩,.string ⟨#[]⟩]) 2 32 underlying38 r t u v rfl (by decide) _ _ _ rfl (hZ (aM (Y j) (.cells #[.string f,.string i] 69)) ?chQ2) ⟨wr.heap.size,0,none⟩ 1 1 [.string f,.string i] rfl rfl ?c1Q2 ?c2Q2 ?c3Q2 ?c4Q2 ?c5Q2 ?_))
       case chQ2=>rfl
       try(case c1Q2=>exact jr _ _ _ _)
       case c2Q2=>first|exact⟨rfl,rfl⟩|(intro S m;simp at m;rcases m with rfl|rfl<;>rfl)
       case c3Q2=>first|omega|(simp;omega)
       case c4Q2=>first|omega|(simp;omega)
       case c5Q2=>first|omega|(simp;omega)
       intro Q R a b;have h:=Z a;have y:=Z b;clear a b;go_wp2;go_roundw;case rel=>exact⟨n+1,by omega,by go_num,by rw[Y g];exact mH.of (Y h) (by simp) (by simp[fZ];rfl),io (Y o) s (Y y) (.cells #[.string f,.string i] 69) rfl (λe c=>(aK (Y j) e c).1)⟩
       case measure=>simp[intOf];omega
      ·have A:decide ((d.length:Int)<limit)=false:=by simp[x]
       have g:=Z (Y G (by simp[nD,zw, *]));go_wp2;go_roundw;case rel=>exact⟨n+1,by omega,by go_num,by rw[Y g];exact Y j,Y o⟩
       case measure=>simp[intOf];omega
    |false=>
     cases hT:Op.bytesLess f.toList k.toList with
     |true=>
      by_cases C:limit<=0
      ·have z:decide (limit<=0)=true:=by simp[C]
       have g:=Z (Y q (by simp[nD,zw, *]));go_wp2_with(first
        |(at_builtin;refine aX _ rfl (.tmp 47) (.tmp 52) 38 rfl B.heap.size 69 H (.agg #[.string ⟨#[]⟩,.string ⟨#[]⟩]) 2 32 underlying38 r t u v rfl (by decide) _ _ _ rfl (hZ (aM (Y j) (.cells #[.string f,.string i] 69)) ?chQ3) ⟨wr.heap.size,0,none⟩ 1 1 [.string f,.string i] rfl rfl ?c1Q3 ?c2Q3 ?c3Q3 ?c4Q3 ?c5Q3 ?_))
       case chQ3=>rfl
       try(case c1Q3=>exact jr _ _ _ _)
       case c2Q3=>first|exact⟨rfl,rfl⟩|(intro S m;simp at m;rcases m with rfl|rfl<;>rfl)
       case c3Q3=>first|omega|(simp;omega)
       case c4Q3=>first|omega|(simp;omega)
       case c5Q3=>first|omega|(simp;omega)
       intro Q R a b;have h:=Z a;have y:=Z b;clear a b;go_wp2;go_roundw;case rel=>exact⟨n+1,by omega,by go_num,by rw[Y g];exact mH.of (Y h) (by simp) (by simp[fZ];rfl),io (Y o) s (Y y) (.cells #[.string f,.string i] 69) rfl (λe c=>(aK (Y j) e c).1)⟩
       case measure=>simp[intOf];omega
      ·have z:decide (limit<=0)=false:=by simp[C]
       by_cases x:(d.length:Int)<limit
       ·have A:decide ((d.length:Int)<limit)=true:=by simp[x]
        have g:=Z (Y q (by simp[nD,zw, *]));go_wp2_with(first
         |(at_builtin;refine aX _ rfl (.tmp 47) (.tmp 52) 38 rfl B.heap.size 69 H (.agg #[.string ⟨#[]⟩,.string ⟨#[]⟩]) 2 32 underlying38 r t u v rfl (by decide) _ _ _ rfl (hZ (aM (Y j) (.cells #[.string f,.string i] 69)) ?chQ4) ⟨wr.heap.size,0,none⟩ 1 1 [.string f,.string i] rfl rfl ?c1Q4 ?c2Q4 ?c3Q4 ?c4Q4 ?c5Q4 ?_))
        case chQ4=>rfl
        try(case c1Q4=>exact jr _ _ _ _)
        case c2Q4=>first|exact⟨rfl,rfl⟩|(intro S m;simp at m;rcases m with rfl|rfl<;>rfl)
        case c3Q4=>first|omega|(simp;omega)
        case c4Q4=>first|omega|(simp;omega)
        case c5Q4=>first|omega|(simp;omega)
        intro Q R a b;have h:=Z a;have y:=Z b;clear a b;go_wp2;go_roundw;case rel=>exact⟨n+1,by omega,by go_num,by rw[Y g];exact mH.of (Y h) (by simp) (by simp[fZ];rfl),io (Y o) s (Y y) (.cells #[.string f,.string i] 69) rfl (λe c=>(aK (Y j) e c).1)⟩
        case measure=>simp[intOf];omega
       ·have A:decide ((d.length:Int)<limit)=false:=by simp[x]
        have g:=Z (Y G (by simp[nD,zw, *]));go_wp2;go_roundw;case rel=>exact⟨n+1,by omega,by go_num,by rw[Y g];exact Y j,Y o⟩
        case measure=>simp[intOf];omega
     |false=>
      have g:=Z (Y G (by simp[nD,zw, *]));go_wp2;go_roundw;case rel=>exact⟨n+1,by omega,by go_num,by rw[Y g];exact Y j,Y o⟩
      case measure=>simp[intOf];omega
  ·have a:p.take n=p:=bP (by omega);rw[a]at e;have j:=Z e;have o:=Z c;clear e c;go_wp2;go_ret;exact⟨_,rfl,Y j,Y o⟩
def EJ(b a:aa)(limit:Int)(w:J):Calls prog 58 #[.slice none 0 0,.string b,.string a,.int .i64 limit] w λe d=>∃c,e=.returned c/\mH d w.heap.size c (jV [] b a limit)/\Below w.heap.size w d:=by
 go_enter func58,ntmps58
 go_wp2;go_loop [9,10] (λo i=>i=.int .i64 0/\o=.slice none 0 0) (λ_ _=>0)
 case atStart=>exact⟨rfl,rfl⟩
 case round=>
  obtain⟨rfl,rfl⟩:=hrel;go_wp2;go_ret;exact⟨_,rfl,bC _ _ _ _,Below.refl _ _⟩
def EK(o:M)(l:List KV)(b a:aa)(limit:Int)(w:J)(k:iz w o l)(j:∀p,o.ownBlock=some p->p<w.heap.size)(m:l.length<=1000000000000):Calls prog 58 #[o,.string b,.string a,.int .i64 limit] w λq f=>∃e,q=.returned e/\mH f w.heap.size e (jV l b a limit)/\Below w.heap.size w f:=by
 obtain⟨r,⟨rfl,g⟩|⟨n,d,c,rfl,i,h⟩⟩:=k
 ·obtain rfl:l=[]:=aG g;exact EJ b a limit w
 ·exact Cu l n d c b a limit w m (j n rfl) h
def Row.shape{w:J}{c n:Nat}{v:M}{f:List M}(h:Row w c v n f):v=.slice none 0 0\/∃d b a,v=.slice (some ⟨d,b,none⟩) n a:=by
 rcases h.2 with⟨e,_⟩|⟨d,b,a,e,_⟩
 ·exact .inl e
 ·exact .inr ⟨d,b,a,e⟩
def EL{w b:J}(h:Below w.heap.size w b)(a:Option Nat):w.grownBy b a:=⟨h.os,h.tape,h.output,h.size,λk c _=>h.block k c⟩
def Row.grown{w o:J}{b n:Nat}{v:M}{q:List M}{d:Option Nat}(k:Row w b v n q)(x:w.grownBy o d)(g:v.ownBlock≠d\/v.ownBlock=none):Row o b v n q:=by
 obtain⟨s,t⟩:=k;refine⟨s,?_⟩;rcases t with⟨rfl,r⟩|⟨z,h,e,rfl,f,u⟩
 ·exact .inl ⟨rfl,r⟩
 ·refine .inr ⟨z,h,e,rfl,f,λj A y=>x.cell (u j A y) ?_⟩;rcases g with k|k
  ·exact k
  ·simp[Value.ownBlock]at k
def sj(l:List KV)(k:aa):aa×Bool×Int:=if k.size=0\/8<k.size then(⟨#[]⟩,false,3)else((kZ l k).1,(kZ l k).2,0)
def ND(o:M)(l:List KV)(k:aa)(w:J)(c:iz w o l)(h:l.length<=1000000000000)(g:k.size<=140737488351232):Calls prog 56 #[o,.string k] w λj i=>j=.returned (.tuple #[.string (sj l k).1,.bool (sj l k).2.1,.int .i64 (sj l k).2.2])/\i=w:=by
 have d:=Z c;clear c;by_cases b:k.size=0
 ·have a:=Z (show sj l k=(⟨#[]⟩,false,3)by unfold sj;rw[dr (.inl b)]);have f:((k.size:Int)==0)=true:=by rw[b];rfl
  go_enter func56,ntmps56
  go_wp2;go_ret3
  exact⟨by rw[Y a];rfl,rfl⟩
 ·have f:((k.size:Int)==0)=false:=iC.2 (by omega);by_cases e:8<k.size
  ·have a:=Z (show sj l k=(⟨#[]⟩,false,3)by unfold sj;rw[dr (.inr e)]);go_enter func56,ntmps56
   go_wp2;go_ret3
   exact⟨by rw[Y a];rfl,rfl⟩
  ·have a:=Z (show sj l k=((kZ l k).1,(kZ l k).2,0)by unfold sj;rw[dd (by omega)]);go_enter func56,ntmps56
   go_wp2_with(first
    |(go_at_call 89;refine(Lw o l k _ (Y d) h).mono ?_;rintro j m⟨rfl,rfl⟩))
   go_ret3
   exact⟨by rw[Y a];rfl,rfl⟩
structure kO(w:J)(rb:Nat)(pb:Option Nat)(l:List KV)(closed:Bool):Prop where
 fN:∃v,w.heap[rb]?=some (.cells #[v,.slice none 0 0,.bool closed] 46 (0,0))/\iz w v l/\v.ownBlock=pb
 ne:pb≠some rb
 lt:∀g,pb=some g->g<w.heap.size
def FF(b:Nat)(n:Option Nat)(l:List KV)(a:Bool)(k:aa)(w:J)(q:kO w b n l a)(j:l.length<=1000000000000)(d:k.size<=140737488351232):Calls prog 30 #[.pointer (some ⟨b,0,none⟩),.string k] w λp o=>
 p=.returned (if a then .tuple #[.string ⟨#[]⟩,.bool false,.int .i64 6]else .tuple #[.string (sj l k).1,.bool (sj l k).2.1,.int .i64 (sj l k).2.2])/\o=w:=by
 obtain⟨⟨v,c,f,_⟩,_,_⟩:=q
 have h:w.cell? ⟨b,0,none⟩=some v:=by rw[aj c];rfl
 have i:w.cell? ⟨b,2,none⟩=some (.bool a):=by rw[aj c];rfl
 have e:=Z f
 clear c f
 cases a with
 |true=>
  go_enter func30,ntmps30
  go_wp2;go_ret3
  exact⟨rfl,rfl⟩
 |false=>
  rcases(Y e).shape with rfl|⟨s,m,g,rfl⟩;all_goals
   go_enter func30,ntmps30
   go_wp2_with(first
    |(go_at_call 56;refine(ND _ l k _ (Y e) j d).mono ?_;rintro p r⟨rfl,rfl⟩))
   go_ret3
   exact⟨rfl,rfl⟩
def pM(e:Nat)(y:Option Nat)(n:List KV)(a:Bool)(h g:aa)(limit:Int)(w:J)(A:kO w e y n a)(u:n.length<=1000000000000):Calls prog 32 #[.pointer (some ⟨e,0,none⟩),.string h,.string g,.int .i64 limit] w λz m=>
 ∃b,z=.returned (.tuple #[b,.int .i64 (if a then 6 else 0)])/\mH m w.heap.size b (if a then []else jV n h g limit)/\Below w.heap.size w m:=by
 obtain⟨⟨v,f,k,l⟩,_,c⟩:=A
 have s:w.cell? ⟨e,0,none⟩=some v:=by rw[aj f];rfl
 have t:w.cell? ⟨e,2,none⟩=some (.bool a):=by rw[aj f];rfl
 have j:=Z k
 have q:=Z (show∀g,v.ownBlock=some g->g<w.heap.size fromλg a=>c g (l▸a))
 clear f k l c
 cases a with
 |true=>
  go_enter func32,ntmps32
  go_wp2;go_ret2
  exact⟨_,rfl,bC _ _ _ _,Below.refl _ _⟩
 |false=>
  rcases(Y j).shape with rfl|⟨D,x,r,rfl⟩;all_goals
   go_enter func32,ntmps32
   go_wp2_with(first
    |(go_at_call 58;refine(EK _ n h g limit _ (Y j) (Y q) u).mono ?_;rintro z C⟨B,rfl,d,b⟩;have o:=Z d;have p:=Z b;clear d b))
   go_ret2
   exact⟨_,rfl,Y o,Y p⟩
def uS(d:Nat)(j:Option Nat)(p:List KV)(a:Bool)(w:J)(q:kO w d j p a):Calls prog 23 #[.pointer (some ⟨d,0,none⟩)] w λm k=>
 m=.returned (.int .i64 (if a then 6 else 0))/\kO k d j p true/\w.grownBy k (some d):=by
 obtain⟨⟨v,e,h,f⟩,b,c⟩:=q
 have n:w.cell? ⟨d,2,none⟩=some (.bool a):=by rw[aj e];rfl
 have o:w.frozen? ⟨d,2,none⟩=false:=cG e
 cases a with
 |true=>
  have i:=Z (kO.mk ⟨v,e,h,f⟩ b c);clear e h f b c;go_enter func23,ntmps23
  go_wp2;go_ret;exact⟨rfl,Y i,pa _ _⟩
 |false=>
  have g:=co w d 2 (.bool true);have i:=Z (show kO (w.setCell ⟨d,2,none⟩ (.bool true)) d j p true from⟨⟨v,by rw[aL e];rfl,Row.grown h g (.inl (by rw[f];exact b)),f⟩,b,λa m=>ah (c a m) g.size⟩);have l:=Z g;clear e h f b c g;go_enter func23,ntmps23
  go_wp2;go_ret;exact⟨rfl,Y i,Y l⟩
structure I(S:Nat->Prop)(w w':J):Prop where
 os:w'.os=w.os
 tape:w'.tape=w.tape
 output:w'.output=w.output
 size:w.heap.size<=w'.heap.size
 block:∀k,k<w.heap.size->¬S k->w'.heap[k]?=w.heap[k]?
def I.refl(S:Nat->Prop)(w:J):I S w w:=⟨rfl,rfl,rfl,ai _,λ_ _ _=>rfl⟩
def I.trans{S T:Nat->Prop}{a b c:J}(h:I S a b)(k:I T b c)(r:∀x,T x->S x\/a.heap.size<=x):I S a c:=⟨k.os.trans h.os,k.tape.trans h.tape,k.output.trans h.output,aB h.size k.size,λi g o=>(k.block i (ah g h.size) (λy=>by
 rcases r i y with d|d
 ·exact o d
 ·omega)).trans (h.block i g o)⟩
def I.mono{S T:Nat->Prop}{a b:J}(h:I S a b)(e:∀x,S x->T x\/a.heap.size<=x):I T a b:=⟨h.os,h.tape,h.output,h.size,λi g o=>h.block i g (λhs=>by
 rcases e i hs with d|d
 ·exact o d
 ·omega)⟩
def I.bz{S:Nat->Prop}{a p:J}{b:Option Nat}(h:a.grownBy p b)(o:∀k,b=some k->S k\/a.heap.size<=k):I S a p:=⟨h.os,h.tape,h.output,h.size,λi e g=>h.block i e (λq=>by
 rcases o i q.symm with d|d
 ·exact g d
 ·omega)⟩
def I.aR{S:Nat->Prop}{a d:J}(h:Below a.heap.size a d):I S a d:=⟨h.os,h.tape,h.output,h.size,λi b _=>h.block i b⟩
def I.below{S:Nat->Prop}{a o:J}{B:Nat}(h:I S a o)(b:B<=a.heap.size)(d:∀k,S k->B<=k):Below B a o:=⟨h.os,h.tape,h.output,h.size,λk e=>h.block k (ah e b) (λg=>by have:=d k g;omega)⟩
def I.cell{S:Nat->Prop}{a b:J}(h:I S a b){k i:Nat}{u:M}(d:a.cell? ⟨k,i,none⟩=some u)(g:¬S k)(e:k<a.heap.size):b.cell? ⟨k,i,none⟩=some u:=(bI (w:=a) (h.block k e g)).trans d
def I.alloc{S:Nat->Prop}{a b:J}(h:I S a b)(o:Obj):I S a (b.alloc o):=h.trans (I.bz (S:=λ_=>False) (cD b o none) (by simp)) (by simp)
def I.setCell{S:Nat->Prop}{a b:J}(h:I S a b)(k i:Nat)(u:M)(c:S k\/a.heap.size<=k):I S a (b.setCell ⟨k,i,none⟩ u):=h.trans (I.bz (S:=λx=>x=k) (co b k i u) (by rintro _⟨⟩;exact .inl rfl)) (by rintro x rfl;exact c)
def I.own{S:Nat->Prop}{B D:J}(F:I S B D){base E a n:Nat}{v:M}{g:List M}(z:B.ownsRow base E a v n g)(y:∀k,v.ownBlock=some k->¬S k):D.ownsRow base E a v n g:=by
 obtain⟨p,r⟩:=z;refine⟨p,?_⟩;rcases r with⟨rfl,o⟩|⟨h,b,d,rfl,s,e,A⟩
 ·exact .inl ⟨rfl,o⟩
 ·exact .inr ⟨h,b,d,rfl,s,(F.block h (ak e) (y h rfl)).trans e,A⟩
def I.row{S:Nat->Prop}{o b:J}(B:I S o b){a n:Nat}{v:M}{h:List M}(A:Row o a v n h)(g:∀k,v.ownBlock=some k->¬S k/\k<o.heap.size):Row b a v n h:=by
 obtain⟨t,y⟩:=A;refine⟨t,?_⟩;rcases y with⟨rfl,s⟩|⟨r,e,c,rfl,d,z⟩
 ·exact .inl ⟨rfl,s⟩
 ·exact .inr ⟨r,e,c,rfl,d,λj u s=>B.cell (z j u s) (g r rfl).1 (g r rfl).2⟩
def aC{w:J}{base h b n:Nat}{v:M}{g:List M}(o:w.ownsRow base h b v n g):∃x c,v=.slice x n c:=by
 rcases o.2 with⟨rfl,rfl⟩|⟨q,d,e,rfl,_⟩
 ·exact⟨none,0,rfl⟩
 ·exact⟨_,_,rfl⟩
def bA{w:J}{b n:Nat}{v:M}{e:List M}(h:Row w b v n e):∃x g,v=.slice x n g:=by
 rcases h.2 with⟨rfl,rfl⟩|⟨o,d,c,rfl,_⟩
 ·exact⟨none,0,rfl⟩
 ·exact⟨_,_,rfl⟩
def dS{w:J}{base j d n:Nat}{v:M}{h:List M}(l:w.ownsRow base j d v n h){k:Nat}(e:v.ownBlock=some k):∃b,w.heap[k]?=some (.cells b j (0,0)):=by
 rcases l.2 with⟨rfl,_⟩|⟨m,f,b,rfl,_,g,_⟩
 ·cases e
 ·cases e;exact⟨b,g⟩
def um{w:J}{base l b n:Nat}{v:M}{j:List M}(m:w.ownsRow base l b v n j){k:Nat}{e:Array M}{t:Nat}{h:Nat×Nat}(i:w.heap[k]?=some (.cells e t h))(c:t≠l):v.ownBlock≠some k:=by
 intro g;obtain⟨f,d⟩:=dS m g;rw[i]at d;cases d;exact c rfl
def nr(n:Int)(w:J):Calls prog 16 #[.int .i64 n] w λe a=>e=.returned (.int .i64 n)/\a=w:=by
 go_enter func16,ntmps16
 go_wp2;go_ret;exact⟨rfl,rfl⟩
def qX(w:J)(a b:Nat):(w.drewN a).drewN b=w.drewN (a+b):=by simp[World.drewN,aP]
def Ia{l m:List KV}{n:Nat}(a:n<l.length)(b:n<m.length)(h:l.take n=m.take n)(e:l[n]=m[n]):l.take (n+1)=m.take (n+1):=by
 rw[aq a,aq b,h,e]
def kV(al an:M)(l m:List KV)(w:J)(hx:iz w al l)(z:iz w an m)(hl:l.length<=1000000000000)(hm:m.length<=1000000000000):Calls prog 8 #[al,an] w λq w'=>q=.returned (.bool (decide (l=m)))/\∃u,w'=w.drewN u:=by
 by_cases a:l.length=m.length
 ·obtain⟨B,⟨rfl,y⟩|⟨ac,k,A,rfl,ad,D⟩⟩:=hx
  ·obtain rfl:l=[]:=aG y;obtain rfl:m=[]:=aG (by simpa using a.symm);have c:=z.shape;clear z;rcases c with rfl|⟨x,b,d,rfl⟩;all_goals
    go_enter func8,ntmps8
    go_wp2;go_loopw [5] (λi wr=>i=.int .i64 0/\∃u,wr=w.drewN u) (λ_ _=>0)
    case atStart=>exact⟨rfl,0,rfl⟩
    case round=>
     obtain⟨rfl,u,rfl⟩:=hrel;go_wp2;go_ret;exact⟨rfl,u,rfl⟩
  ·obtain⟨C,⟨rfl,y⟩|⟨x,b,d,rfl,W,r⟩⟩:=z
   ·obtain rfl:m=[]:=aG y;obtain rfl:l=[]:=aG (by simpa using a);clear D;go_enter func8,ntmps8
    go_wp2;go_loopw [5] (λi wr=>i=.int .i64 0/\∃u,wr=w.drewN u) (λ_ _=>0)
    case atStart=>exact⟨rfl,0,rfl⟩
    case round=>
     obtain⟨rfl,u,rfl⟩:=hrel;go_wp2;go_ret;exact⟨rfl,u,rfl⟩
   ·have T:=Z D;have p:=Z r;have j:((l.length:Int)!=(m.length:Int))=false:=by simp[a]
    have c:=Z a;clear D r B C a;go_enter func8,ntmps8
    go_wp2;go_loopw [5] (λi wr=>∃n:Nat,n<=l.length/\i=.int .i64 n/\l.take n=m.take n/\∃u,wr=w.drewN u) (λi _=>l.length-(intOf i).toNat)
    case atStart=>exact⟨0,aU _,rfl,rfl,0,rfl⟩
    case round=>
     obtain⟨n,hn,rfl,X,kk,rfl⟩:=hrel;have V:=Z X;clear X;by_cases s:n<l.length
     ·have e:n<m.length:=by have:=Y c;omega
      have E:=kH l n s;have g:=kH m n e;have G:w.cell? ⟨ac,k+n*2,none⟩=some (.string l[n].1):=(Y T) _ _ E.1;have H:w.cell? ⟨ac,k+n*2+1,none⟩=some (.string l[n].2):=by rw[aP];exact(Y T) _ _ E.2
      have K:w.cell? ⟨x,b+n*2,none⟩=some (.string m[n].1):=(Y p) _ _ g.1;have L:w.cell? ⟨x,b+n*2+1,none⟩=some (.string m[n].2):=by rw[aP];exact(Y p) _ _ g.2
      clear E g;have t:l[n]≠m[n]->decide (l=m)=false:=λh=>by simp;intro q;subst q;exact h rfl
      have U:=Z t;have HY:=Z (λq=>Ia s e (Y V) q);clear t;generalize l[n]=ao at*;generalize m[n]=ax at*;obtain⟨O,P⟩:=ao;obtain⟨Q,R⟩:=ax;simp only at G H K L;by_cases h:O=Q
      ·have F:(!O.toList==Q.toList)=false:=by rw[h];simp
       by_cases o:P=R
       ·have N:(P.toList==R.toList)=true:=by rw[o];simp
        have f:=Z ((Y HY) (by rw[h,o]));clear h o;go_wp2_with fail
        go_quiet(fail)
        go_wp2;go_roundw;case rel=>exact⟨n+1,by omega,by go_num,Y f,by first|exact⟨_,rfl⟩|exact⟨_,qX _ _ _⟩⟩
        case measure=>simp[intOf];omega
       ·have N:(P.toList==R.toList)=false:=ut o;have f:=Z ((Y U) (by intro q;exact o (Prod.mk.inj q).2));clear h o;go_wp2_with fail
        go_quiet(fail)
        go_wp2;go_ret;exact⟨by rw[Y f];rfl,by first|exact⟨_,rfl⟩|exact⟨_,qX _ _ _⟩⟩
      ·have F:(!O.toList==Q.toList)=true:=by rw[ut h];rfl
       have f:=Z ((Y U) (by intro q;exact h (Prod.mk.inj q).1));clear h;go_wp2_with fail
       go_quiet(fail)
       go_wp2;go_ret;exact⟨by rw[Y f];rfl,by first|exact⟨_,rfl⟩|exact⟨_,qX _ _ _⟩⟩
     ·have f:=Z (show decide (l=m)=true by
       have B:l.take n=l:=bP (by omega);have e:m.take n=m:=bP (by have:=Y c;omega);have:=Y V;rw[B,e]at this;simpa using this)
      go_wp2;go_ret;exact⟨by rw[Y f];rfl,by first|exact⟨_,rfl⟩|exact⟨_,qX _ _ _⟩⟩
 ·have c:decide (l=m)=false:=by simp;intro q;exact a (by rw[q])
  rw[c];clear c;obtain⟨_,⟨rfl,y⟩|⟨ac,k,A,rfl,_,_⟩⟩:=hx<;>obtain⟨_,⟨rfl,e⟩|⟨x,b,d,rfl,_,_⟩⟩:=z
  ·omega
  ·have j:((0:Int)!=(m.length:Int))=true:=by rw[bne_iff_ne];omega
   go_enter func8,ntmps8
   go_wp2;go_ret;exact⟨rfl,0,rfl⟩
  ·have j:((l.length:Int)!=(0:Int))=true:=by rw[bne_iff_ne];omega
   go_enter func8,ntmps8
   go_wp2;go_ret;exact⟨rfl,0,rfl⟩
  ·have j:((l.length:Int)!=(m.length:Int))=true:=by rw[bne_iff_ne];omega
   go_enter func8,ntmps8
   go_wp2;go_ret;exact⟨rfl,0,rfl⟩
def AH(a k:Int)(d:0<k)(e:k<=100):0<=wrap64 ((IntKind.u64.wrap a).tmod k)/\wrap64 ((IntKind.u64.wrap a).tmod k)<k:=by
 rw[eZ,Int.tmod_eq_emod_of_nonneg (Int.emod_nonneg _ (by decide))];have b:=Int.emod_nonneg (a%18446744073709551616) (show k≠0 by omega);have c:=Int.emod_lt_of_pos (a%18446744073709551616) d;generalize a%18446744073709551616%k=x at*;have f:wrap64 x=x:=by unfold wrap64;omega
 rw[f];exact⟨b,c⟩
def og(a k:Int):Int:=wrap64 ((IntKind.u64.wrap a).tmod k)
def GY(b c:Int)(w:J):Calls prog 25 #[.int .i64 b,.int .i64 c] w λe a=>e=.returned (.tuple #[.int .i64 (og b 34),.int .i64 (og c 8)])/\a=w:=by
 go_enter func25,ntmps25
 go_wp2;go_ret2
 exact⟨rfl,rfl⟩
def uM{P:Program}{h:Array Oper}{p:Oper}{r:Act}{w:J}{U:Act->J->Prop}{ad:Exit->Act->J->Prop}{E:Prop}(G:p.guard=none)(X ac:Operand)(x:TypeId)(m:p.op=Op.call {callee:=Callee.builtin Builtin.append,args:=#[X,ac],argTypes:=#[x,x]})(base:Nat)(t:TypeId)(u:TypeInfo)(T:M)(a bytes:Nat)(O:P.underlying x=some (.slice t))(H:P.info? t=some u)(S:u.zero=some T)(f:u.size=a)(l:u.bytes=bytes)(o:T.cells.size=a)(n:0<a)(z:M)(v:Nat)(q:List M)(N:r.eval X=z)(g:w.ownsRow base t a z v q)(k:Addr)(s V:Nat)(b:List M)(R:r.eval ac=.slice (some k) s V)(K:b.length=s*a)(e:∀W y,b[W]?=some y->w.cell? (k.add W)=some y)(A:∀y∈b,y.oneCell'=true)(hn:v+s<=140737488355328)(c:(v+s)*bytes<=140737488355328)(d:base<=w.heap.size)(F:∀i j,j.ownsRow base t a i (v+s) (q++b)->du w j z i->U (r.put p.dst i) j):if Region.wanted p (yielded h r.tmps)=true then Oper.wp P p r w U ad else E:=by
 have Q:Region.wanted p (yielded h r.tmps)=true:=by simp[Region.wanted,G]
 rw[dr Q];obtain⟨i,j,L,B,C,_,D⟩:=lP (P:=P) w base x p.type t u T a bytes O H S f l o n z v q g k s V b K e A (by unfold maxLen;omega) c d;unfold Oper.wp;simp[execOp,m,resolve,invoke,builtin,N,R,L,Result.andThen];exact F i j B (du.of C D)
def Gi:(prog.info? 111).map (λi=>(i.zero,i.size,i.bytes))=some (some (.agg #[.string ⟨#[]⟩,.string ⟨#[]⟩,.bool false]),3,40):=by kernel_rfl
def ES(w:J)(base:Nat)(o:M)(l:List nk):Prop:=w.ownsRow base 111 3 o l.length (cZ l)
def GM(w:J)(x y z:M)(t:TypeId):∀j u,[x,y,z][j]?=some u->(w.alloc (.cells #[x,y,z] t)).cell? ((⟨w.heap.size,0,none⟩:Addr).add j)=some u:=by
 intro j u a;rw[ct];unfold World.cell?;rw[ew];simpa using a
def CU(l:List nk)(y e p:Nat)(w:J)(Q:l.length<=1000000000000)(q:y<w.heap.size)(z:∀L N,(cZ l)[L]?=some N->w.cell? ⟨y,e+L,none⟩=some N):Calls prog 13 #[.slice (some ⟨y,e,none⟩) l.length p] w λP B=>∃A,P=.returned A/\ES B w.heap.size A l/\Below w.heap.size w B:=by
 obtain⟨K,r,u,v,x⟩:=bK Gi;have k:=Z z;clear z;go_enter func13,ntmps13
 go_wp2;go_loopw [3,4] (λo i wr=>∃n:Nat,n<=l.length/\i=.int .i64 n/\ES wr w.heap.size o (l.take n)/\Below w.heap.size w wr) (λ_ i _=>l.length-(intOf i).toNat)
 case atStart=>exact⟨0,aU _,rfl,bC _ _ _ _,Below.refl _ _⟩
 case round=>
  obtain⟨n,E,rfl,b,a⟩:=hrel;have t:w.heap.size<=wr.heap.size:=a.size;by_cases g:n<l.length
  ·have i:=iO l n g;have F:wr.cell? ⟨y,e+n*3,none⟩=some (.string l[n].key):=(a.cell (by exact q)).trans ((Y k) _ _ i.1);have G:wr.cell? ⟨y,e+n*3+1,none⟩=some (.string l[n].val):=(a.cell (by exact q)).trans (by rw[aP];exact(Y k) _ _ i.2.1);have H:wr.cell? ⟨y,e+n*3+2,none⟩=some (.bool l[n].del):=(a.cell (by exact q)).trans (by rw[aP];exact(Y k) _ _ i.2.2);clear i;have c:wr.ownsRow w.heap.size 111 3 u3 n (cZ (l.take n)):=by
    have D:wr.ownsRow w.heap.size 111 3 u3 (l.take n).length (cZ (l.take n)):=b;rwa[cU,rS E]at D
   obtain⟨T,O,s⟩:=aC c;subst s;have h:=Z c;have C:=Z (show cZ (l.take (n+1))=cZ (l.take n)++[.string l[n].key,.string l[n].val,.bool l[n].del]by
    unfold cZ;rw[aq g,dZ];simp[ky])
   clear c;have j:=Z a;clear b a;go_wp2;go_region_law (refine uM rfl (.tmp 11) (.tmp 28) 52 rfl w.heap.size 111 K (.agg #[.string ⟨#[]⟩,.string ⟨#[]⟩,.bool false]) 3 40 underlying52 r u v x rfl (by decide) (.slice T n O) n (cZ (l.take n)) (by simp[Act.eval]) (hZ (aM (Y h) (.cells #[.string l[n].key,.string l[n].val,.bool l[n].del] 111)) rfl) ⟨wr.heap.size,0,none⟩ 1 1 [.string l[n].key,.string l[n].val,.bool l[n].del] (by simp[Act.eval]) rfl (GM _ _ _ _ _) (by simp[Value.oneCell']) (by omega) (by omega) (by simp;omega) ?_;intro R S d f;obtain⟨U,c2,rfl⟩:=aC d;have m:=Z d;have o:=Z f;clear d f)
   go_wp2;all_goals
    go_roundw;case rel=>exact⟨n+1,by omega,by go_num,by unfold ES;rw[cU,rS (by omega),Y C];exact Y m,io (Y j) t (Y o) (.cells #[.string l[n].key,.string l[n].val,.bool l[n].del] 111) rfl (λb a=>(aK (Y h) b a).1)⟩
    case measure=>simp[intOf];omega
  ·have c:n=l.length:=by omega
   subst c;rw[bD]at b;have h:=Z b;have j:=Z a;clear b a;go_wp2;go_ret;exact⟨_,rfl,Y h,Y j⟩
def Fg(w:J):Calls prog 13 #[.slice none 0 0] w λe b=>∃a,e=.returned a/\ES b w.heap.size a []/\Below w.heap.size w b:=by
 go_enter func13,ntmps13
 go_wp2;go_loopw [3,4] (λo i wr=>i=.int .i64 0/\o=.slice none 0 0/\wr=w) (λ_ _ _=>0)
 case atStart=>exact⟨rfl,rfl,rfl⟩
 case round=>
  obtain⟨rfl,rfl,rfl⟩:=hrel;go_wp2;go_ret;exact⟨_,rfl,bC _ _ _ _,Below.refl _ _⟩
def ug(l:List nk)(v:M)(w:J)(h:l.length<=1000000000000)(j:tD w v l)(f:∀m,v.ownBlock=some m->m<w.heap.size):Calls prog 13 #[v] w λn d=>∃c,n=.returned c/\ES d w.heap.size c l/\Below w.heap.size w d:=by
 obtain⟨_,⟨rfl,e⟩|⟨k,b,a,rfl,_,g⟩⟩:=j
 ·obtain rfl:l=[]:=aG e;exact Fg w
 ·exact CU l k b a w h (f k rfl) g
section
variable{P:Program}{a:Array Oper}{Q:Exit->Act->J->Prop}{b:Region.Mode}{S:J->Prop}
def iK(P:Program)(b:Region.Mode)(a:Array Oper)(Q:Exit->Act->J->Prop)(S:J->Prop)(m:Nat):Nat->Array Bool->Act->J->Prop
 |0,c,e,w=>Region.ready b a c=[]/\Q .normal e w
 |fuel+1,c,e,w=>
  (Region.ready b a c=[]->Q .normal e w)/\∀i∈Region.ready b a c,wpOp P a Q i (λf d=>(i≠m->S d)/\iK P b a Q S m fuel (c.setIfInBounds i true) f d) e w
theorem kU{m:Nat}:∀(c:Nat)(d:Array Bool)(n:Act)(w:J),iK P b a Q S m c d n w->wpAny P b a Q c d n w
 |0,_,_,_,h=>h
 |c+1,_,_,_,h=>⟨h.1,λi g=>qt (λe l f=>kU c _ e l f.2) (h.2 i g)⟩
theorem Bt{r T:Nat}{p R:Oper}{ac:M}(E:a[r]?=some p)(hm:a[T]?=some R)(G:∃m∈R.after,Region.binds b m=true/\m.on=r)(k:∀(l:Nat)(al:Oper)s O,a[l]?=some al->al.op≠ .select s O)(X:∀ad B C,Q (.panic ad) (B.put p.dst ac) C->Q (.panic ad) B C):∀(d:Nat)(c:Array Bool)(B:Act)(C:J),(∀l q,a[l]?=some q->l≠r->c.getD l true=false->(∀m∈q.after,Region.binds b m=true->m.on≠r)->p.apart a q=true)->r∈Region.ready b a c->YieldsIf P a S p ac B->S C->iK P b a Q S T d (c.setIfInBounds r true) (B.put p.dst ac) C->iK P b a Q S T (d+1) c B C:=by
 intro d;induction d with
 |zero=>
  intro c B C _ o A t N;refine⟨λV=>(by rw[V]at o;cases o),λl z=>?_⟩;by_cases e:l=r
  ·subst e;exact A.wpOp E t ⟨λ_=>t,N⟩
  ·have:=oD z e;rw[N.1]at this;cases this
 |succ d ih=>
  intro c B C f o A t N;refine⟨λV=>(by rw[V]at o;cases o),λl z=>?_⟩;by_cases e:l=r
  ·subst e;exact A.wpOp E t ⟨λ_=>t,N⟩
  ·have n:=N.2 l (oD z e);obtain⟨i,q,g,u⟩:=tE.1 z;have j:∀m∈q.after,Region.binds b m=true->m.on≠r:=λm H D x=>by
    have n:=u m H D;have F:=(tE.1 o).1;rw[x]at n;rcases cJ r c.size with v|v
    ·simp[v]at F n;rw[F]at n;cases n
    ·simp[dy v]at n
   have W:=wpOp_putIf g (f l q g e i j) (λs O=>k r p s O E) (λs O=>k l q s O g) X A n;have h:∀L ok,a[L]?=some ok->L≠r->(c.setIfInBounds l true).getD L true=false->(∀m∈ok.after,Region.binds b m=true->m.on≠r)->p.apart a ok=true:=λL ok hk F x H=>by
    refine f L ok hk F ?_ H;by_cases v:l=L
    ·subst v;exact i
    ·rw[getD_set_ne true v]at x;exact x
   have K:=oD o (Ne.symm e);have w:l≠T:=λm=>by
    subst m;obtain⟨F,x,D,v⟩:=G;rw[hm]at g;cases g;exact j F x D v
   refine qt (λU w' y=>⟨λ_=>y.2.1 w,ih (c.setIfInBounds l true) U w' h K y.1 (y.2.1 w) ?_⟩) W;rw[pZ _ _ e];exact y.2.2
theorem da{i m:Nat}{e o:Oper}{v:M}{d:Nat}{c:Array Bool}{g:Act}{w:J}(n:a[i]?=some e)(x:a[m]?=some o)(h:(o.after.any λC=>Region.binds b C&&C.on==i)=true)(z:Region.noSelect a=true)(s:Region.free b a c i=true)(y:(Region.ready b a c).contains i=true)(q:∀B g w,Q (.panic B) (g.put e.dst v) w->Q (.panic B) g w)(A:YieldsIf P a S e v g)(r:S w)(D:iK P b a Q S m d (c.setIfInBounds i true) (g.put e.dst v) w):iK P b a Q S m (d+1) c g w:=Bt n x (by
 obtain⟨k,t,l⟩:=Array.any_eq_true.1 h;simp only[mU,ri]at l;exact⟨_,Array.getElem_mem t,l.1,l.2⟩) (Region.noSelect_spec z) q d c g w (Region.free_spec n s) (by simpa using y) A r D
theorem aI{i m:Nat}{q:Oper}{e:Nat}{d:Array Bool}{r:Act}{w:J}(t:a[i]?=some q)(s:q.guard=none)(o:Region.ready b a d=[i])(y:∀K:Act->J->Prop,(∀a' w',(i≠m->S w')->iK P b a Q S m e (d.setIfInBounds i true) a' w'->K a' w')->Oper.wp P q r w K Q):iK P b a Q S m (e+1) d r w:=by
 refine⟨λg=>(by rw[o]at g;cases g),λj h=>?_⟩;rw[o]at h;obtain rfl:j=i:=by simpa using h
 unfold wpOp;simp only[t];have x:Region.wanted q (yielded a r.tmps)=true:=by simp[Region.wanted,s]
 rw[dr x];exact .inl (y _ (λa' w' g h=>⟨g,h⟩))
theorem cr{m:Nat}{d:Array Bool}{h:Act}{w:J}(g:Region.ready b a d=[])(o:Q .normal h w):∀e,iK P b a Q S m e d h w
 |0=>⟨g,o⟩
 |_+1=>⟨λ_=>o,by rw[g];simp⟩
theorem bM(S:J->Prop)(m:Nat){id:Nat}{e:Act}{w:J}(d:P.follows .mixedOrders=true)(h:iK P .any a Q S m a.size (Array.replicate a.size false) e w.drew):(Code.region id a true).wp P Q e w:=tU d (kU _ _ _ _ h)
end
section
variable{P:Program}{a:Array Oper}{Q:Exit->Act->J->Prop}{b:Region.Mode}{S:J->Prop}
def Ln(b:Region.Mode)(a:Array Oper)(c:Array Bool)(m i:Nat):Bool:=match a[m]? with
 |some d=>(d.after.any λe=>Region.binds b e&&e.on==i)&&Region.noSelect a&&Region.free b a c i&&(Region.ready b a c).contains i
 |none=>false
def Bs(P:Program)(b:Region.Mode)(a:Array Oper)(Q:Exit->Act->J->Prop)(S:J->Prop)(m _ d:Nat)(c:Array Bool)(e:Act)(w:J):Prop:=iK P b a Q S m d c e w
theorem cz(k:Nat){m e:Nat}{d:Array Bool}{g:Act}{w:J}(h:Bs P b a Q S m k e d g w):iK P b a Q S m e d g w:=h
theorem dG{k m e:Nat}{d:Array Bool}{g:Act}{w:J}(h:iK P b a Q S m e d g w):Bs P b a Q S m k e d g w:=h
theorem cy{k m:Nat}{h:Oper}{v:M}{g:Nat}{d:Array Bool}{o:Act}{w:J}(r:S w)(s:a[k]?=some h)(e:Ln b a d m k=true)(q:∀c o w,Q (.panic c) (o.put h.dst v) w->Q (.panic c) o w)(x:YieldsIf P a S h v o)(y:Bs P b a Q S m (k+1) g (d.setIfInBounds k true) (o.put h.dst v) w):Bs P b a Q S m k (g+1) d o w:=by
 unfold Ln at e;split at e
 ·rename_i z t;simp only[mU]at e;exact da s t e.1.1.1 e.1.1.2 e.1.2 e.2 q x r y
 ·cases e
end
section
variable{P:Program}{a:Array Oper}{Q:Exit->Act->J->Prop}{b:Region.Mode}{S:J->Prop}
theorem oN{i j q:Nat}{k l:Oper}{d:Nat}{c:Array Bool}{n:Act}{w:J}(t:a[i]?=some k)(u:a[j]?=some l)(r:k.guard=none)(s:l.guard=none)(p:Region.ready b a c=[i,j])(f:∀K:Act->J->Prop,(∀e w',(i≠q->S w')->iK P b a Q S q d (c.setIfInBounds i true) e w'->K e w')->Oper.wp P k n w K Q)(g:∀K:Act->J->Prop,(∀e w',(j≠q->S w')->iK P b a Q S q d (c.setIfInBounds j true) e w'->K e w')->Oper.wp P l n w K Q):iK P b a Q S q (d+1) c n w:=by
 refine⟨λo=>(by rw[p]at o;cases o),λx h=>?_⟩;rw[p]at h;rcases aD.1 h with rfl|h
 ·unfold wpOp;simp only[t];have m:Region.wanted k (yielded a n.tmps)=true:=by simp[Region.wanted,r]
  rw[dr m];exact .inl (f _ (λe w' f g=>⟨f,g⟩))
 ·obtain rfl:x=j:=by simpa using h
  unfold wpOp;simp only[u];have m:Region.wanted l (yielded a n.tmps)=true:=by simp[Region.wanted,s]
  rw[dr m];exact .inl (g _ (λe w' f g=>⟨f,g⟩))
theorem pK{α:Type}(G:α->J->Prop)(A:α->Act)(c:Array Bool)(e:Nat){m f:Nat}{d:Array Bool}{k:Act}{w:J}(g:(∀x W,G x W->iK P b a Q S m e c (A x) W)->iK P b a Q S m f d k w)(h:∀x W,G x W->iK P b a Q S m e c (A x) W):iK P b a Q S m f d k w:=g h
theorem ie{m c:Nat}{l d:Array Bool}{e:Act}{w:J}(h:iK P b a Q S m c l e w)(f:l=d):iK P b a Q S m c d e w:=f▸h
end
end Go.Proofs.YtophdnlmpfmeiaaGreatDoor
