import Derived.BigQuiet
import Derived.Conc.MuLone
import Derived.Deep.QuietTactic
import Derived.Deep.RegionLawGrows
import Derived.LaidEql
import Derived.Lib.EndianBits
import Derived.OrdersHeld
import Derived.OrdersIn
import Derived.Outline
import Derived.OwnWalkIn
import Derived.RangeFuncCalls
import Derived.RowKitTokens
import Derived.Stop.Asserts
import Derived.Test.YtceammfgahaodaaGreatDoorChecked
import Derived.WalkLawsBesides
import Derived.Test.YtceammfgahaodaaGreatDoorC0
open _root_ renaming List.length→z,Option.some→M,Array.size→G,Go.World.heap→H,Go.Value.ownBlock→bY,Go.World.cell?→aS,Go.World.setCell→ct,Go.World.alloc→cF,Bool.false→bF,Bool.true→bX,Nat→R,Int→Y,List→cD,Go.Calls→cA,Go.Proofs.Tryz.prog→bG,Go.Value.slice→ah,Go.Value.string→aj,Go.Value.bool→aO,Go.Value.pointer→fA,Go.Value.tuple→dE,Go.Value.agg→eB
namespace Go.Proofs.YtceammfgahaodaaGreatDoor
open ChangeShapes WideShapes RowKit Proofs.Tryz
set_option maxHeartbeats 16000000
set_option linter.all false
set_option maxRecDepth 100000
variable{a f B:I}{b c g l y P:R}{d t L:aa}{m D:Y}{X:fN}{v W:ab}{x:jd}{C:Bool}{S:Type}{T:Array aa}
structure E where
 key:ab
 val:ab
 del:Bool
 bK:Y
abbrev cK:=cD E
abbrev dX:=cD<|cD E
variable{w:E}
def Zv:E:=⟨⟨#[]⟩,⟨#[]⟩,bF,0⟩
def im(a b:ab):Bool:=Op.bytesLess a.toList b.toList
def MK:∀(x b:cD UInt8),Op.bytesLess x b=decide (x<b)
 |[],[]=>by simp[Op.bytesLess]
 |_::_,[]=>by simp[Op.bytesLess]
 |[],_::_=>by simp[Op.bytesLess]
 |a::x,f::b=>by
  rw[Op.bytesLess,MK x b];simp only[List.cons_lt_cons_iff];by_cases c:a<f<;>by_cases d:a=f<;>by_cases e:x<b<;>simp[c,d,e]
def JT(h:v.toList=W.toList):v=W:=by
 have a:∀x:ab,x.toList=x.data.toList:=λx=>oz x;rw[a,a]at h;cases v;cases W;simpa using h
def fD(a:ab):im a a=bF:=by
 unfold im;rw[MK];simp
def lP{c:ab}(h:im v W=bX)(k:im W c=bX):im v c=bX:=by
 unfold im at*;rw[MK]at*;simp at*;exact List.lt_trans h k
def lQ(h:im v W=bX):im W v=bF:=by
 cases e:im W v with
 |false=>rfl
 |true=>have:=lP h e;rw[fD]at this;cases this
def oq(h:im v W=bF)(k:im W v=bF):v=W:=by
 unfold im at*;rw[MK]at*;simp at*;exact JT<|List.le_antisymm k h
def oF(h:im v W=bX):v≠W:=by
 rintro rfl;rw[fD]at h;cases h
def xP{c:ab}(h:im W v=bF)(k:im W c=bX):im v c=bX:=by
 cases e:im v c with
 |true=>rfl
 |false=>
  cases f:im c v with
  |true=>have:=lP k f;rw[h]at this;cases this
  |false=>rw[oq e f,k]at h;cases h
def OF{c:ab}(h:im v W=bX)(k:im c W=bF):im v c=bX:=by
 cases e:im v c with
 |true=>rfl
 |false=>
  cases f:im c v with
  |true=>have:=lP f h;rw[k]at this;cases this
  |false=>rw[<-oq e f,h]at k;cases k
def Sa{c:ab}(h:im W v=bF)(k:im c W=bF):im c v=bF:=by
 cases e:im c v with
 |false=>rfl
 |true=>have:=OF e h;rw[k]at this;cases this
def Jp(a:ab):im a ⟨#[]⟩=bF:=by
 unfold im;rw[MK];have:(⟨#[]⟩:ab).toList=[]:=by rw[oz]
 rw[this];simp
def wV(l:cD E):Prop:=l.Pairwise<|λa b=>im a.key b.key=bX
def wV.nil:wV []:=List.Pairwise.nil
def wV.tail{l:cD E}(h:wV (w::l)):wV l:=(bA.1 h).2
def wV.head{l:cD E}(h:wV (w::l)):∀b∈l,im w.key b.key=bX:=(bA.1 h).1
def wV.sub{l m:cD E}(h:wV m)(s:l.Sublist m):wV l:=lF s h
def wV.Qv{l:cD E}(h:wV l){e:E}(c:w∈l)(d:e∈l)(f:w.key=e.key):w=e:=by
 induction l with
 |nil=>cases c
 |cons x r g=>
  rcases aD.1 c with b|b
  .rcases aD.1 d with a|a
   .rw[b,a]
   .rw[b]at f;exact absurd f<|oF<|h.head e a
  .rcases aD.1 d with a|a
   .rw[a]at f;exact absurd f.symm<|oF<|h.head w b
   .exact g h.tail b a
def wV.ext{l m:cD E}(h:wV l)(k:wV m)(g:∀x,x∈l↔x∈m):l=m:=by
 induction l generalizing m with
 |nil=>
  cases m with
  |nil=>rfl
  |cons a r=>exact absurd ((g a).2<|by simp)<|by simp
 |cons x r i=>
  cases m with
  |nil=>exact absurd ((g x).1<|by simp)<|by simp
  |cons a s=>
   have f:x=a:=by
    rcases aD.1 ((g x).1<|by simp)with c|c
    .exact c
    .rcases aD.1 ((g a).2<|by simp)with e|e
     .exact e.symm
     .have n:=k.head x c;have j:=h.head a e;rw[lQ n]at j;cases j
   subst f;congr 1;refine i h.tail k.tail<|λb=>⟨λd=>?_,λd=>?_⟩
   .rcases aD.1 ((g b).1<|aJ _ d)with rfl|c
    .have:=h.head b d;rw[fD]at this;cases this
    .exact c
   .rcases aD.1 ((g b).2<|aJ _ d)with rfl|c
    .have:=k.head b d;rw[fD]at this;cases this
    .exact c
def tg(l:cD E)(e:E):cD E:=l.filter (λx=>im x.key e.key)++e::l.filter (λx=>im e.key x.key)
def yD{l:cD E}{x:E}:x∈tg l w↔x=w\/(x∈l/\x.key≠w.key):=by
 unfold tg;simp only[ap,de,aD];constructor;rintro(⟨h,k⟩|h|⟨h,k⟩);exact .inr ⟨h,oF k⟩;exact .inl h;exact .inr ⟨h,λc=>oF k c.symm⟩
 .rintro(h|⟨h,k⟩)
  .exact .inr<|.inl h
  .cases c:im x.key w.key with
   |true=>exact .inl ⟨h,rfl⟩
   |false=>
    cases d:im w.key x.key with
    |true=>exact .inr<|.inr ⟨h,rfl⟩
    |false=>exact absurd (oq c d) k
def wV.tg{l:cD E}(h:wV l)(e:E):wV (tg l e):=by
 unfold Go.Proofs.YtceammfgahaodaaGreatDoor.tg;refine bR.2 ⟨h.sub fg,bA.2 ⟨?_,h.sub fg⟩,?_⟩;intro c a;simp at a;exact a.2;intro d b c a;simp at b;rcases aD.1 a with rfl|a;exact b.2;simp at a;exact lP b.2 a.2
def gQ(l m:cD E):cD E:=m.foldl tg l
def wV.gQ{l:cD E}(h:wV l)(m:cD E):wV (gQ l m):=by
 induction m generalizing l with
 |nil=>exact h
 |cons e r a=>exact a<|h.tg e
variable{e K:cK}{k:dX}
def ahead(a b:E):Bool:=im a.key b.key||(decide (a.key=b.key)&&decide (b.bK<a.bK))
def jl{b:E}:ahead w b=bX↔im w.key b.key=bX\/(w.key=b.key/\b.bK<w.bK):=by
 unfold ahead;simp
def ur{b c:E}(h:ahead w b=bX)(k:ahead b c=bX):ahead w c=bX:=by
 rw[jl]at*;rcases h with h|⟨h,a⟩<;>rcases k with k|⟨k,d⟩;exact .inl<|lP h k;rw[<-k];exact .inl h;rw[h];exact .inl k;exact .inr ⟨h.trans k,by omega⟩
def wz(a:E):ahead a a=bF:=by unfold ahead;simp[fD]
def lV{b:E}(h:ahead w b=bX):ahead b w=bF:=by
 cases e:ahead b w with
 |false=>rfl
 |true=>have:=ur h e;rw[wz]at this;cases this
def nt{b:E}(h:ahead b w=bF):im b.key w.key=bF/\(b.key=w.key->b.bK<=w.bK):=by
 unfold ahead at h;simp at h;exact⟨h.1,λe=>h.2 e⟩
def RH{b:E}(h:im b.key w.key=bF)(k:b.key=w.key->b.bK<=w.bK):ahead b w=bF:=by
 unfold ahead;simp[h];exact k
def we{d g:E}(i:ahead d w=bF)(k:ahead g d=bF):ahead g w=bF:=by
 obtain⟨b,e⟩:=nt i;obtain⟨a,f⟩:=nt k;refine RH (Sa b a)<|λh=>?_;have c:d.key=w.key:=by rw[h]at a;exact oq b a
 have:=e c;have:=f<|h.trans c.symm;omega
def lI(a:dX)(i:R):Option E:=(a[i]?.getD []).head?
def kE(a:dX):R->Option R
 |0=>none
 |n+1=>match lI a n with
  |none=>kE a n
  |some e=>match kE a n with
   |none=>M n
   |some b=>if ahead e ((lI a b).getD Zv)then M n else M b
def CW(h:kE k b=none):∀i,i<b->lI k i=none:=by
 induction b with
 |zero=>intro i a;omega
 |succ b c=>
  intro i a;unfold kE at h;cases hf:lI k b with
  |none=>
   rw[hf]at h;by_cases d:i=b
   .rw[d];exact hf
   .exact c h i<|by omega
  |some e=>
   rw[hf]at h;cases hb:kE k b with
   |none=>rw[hb]at h;cases h
   |some d=>rw[hb]at h;simp only at h;split at h<;>cases h
def um(h:kE k b=M c):c<b/\∃j,lI k c=M j/\∀i,i<b->∀f,lI k i=M f->ahead f j=bF:=by
 induction b generalizing c with
 |zero=>cases h
 |succ b n=>
  unfold kE at h;cases hf:lI k b with
  |none=>
   rw[hf]at h;obtain⟨p,j,d,e⟩:=n h;refine⟨by omega,j,d,λi m f a=>?_⟩;by_cases g:i=b
   .rw[g,hf]at a;cases a
   .exact e i (by omega) f a
  |some j=>
   rw[hf]at h;cases hb:kE k b with
   |none=>
    rw[hb]at h;cases h;refine⟨by omega,j,hf,λi m f a=>?_⟩;by_cases g:i=b
    .rw[g,hf]at a;cases a;exact wz _
    .rw[CW hb i<|by omega]at a;cases a
   |some q=>
    rw[hb]at h;obtain⟨p,o,d,e⟩:=n hb;simp only[d,ia]at h;split at h
    .rename_i l;cases h;refine⟨by omega,j,hf,λi m f a=>?_⟩;by_cases g:i=b
     .rw[g,hf]at a;cases a;exact wz _
     .exact we (lV l)<|e i (by omega) f a
    .rename_i l;cases h;refine⟨by omega,o,d,λi m f a=>?_⟩;by_cases g:i=b
     .rw[g,hf]at a;cases a;simpa using l
     .exact e i (by omega) f a
def total(a:dX):R:=z a.flatten
def xI(h:lI k b=M w):k.flatten.Perm (w::(k.modify b List.tail).flatten):=by
 induction k generalizing b with
 |nil=>simp[lI]at h
 |cons r d c=>
  cases b with
  |zero=>
   cases r with
   |nil=>simp[lI]at h
   |cons x t=>
    simp only[lI,List.getElem?_cons_zero,ia,List.head?_cons,tT]at h;subst h;simp
  |succ b=>
   have a:lI d b=M w:=by simpa[lI]using h
   simp only[aX,nw];refine((c a).append_left r).trans ?_;exact lj
def vO(h:lI k b=M w):total k=total (k.modify b List.tail)+1:=by
 have:=(xI h).length_eq;unfold total;rw[this];simp
def Jh:R->dX->cK
 |0,_=>[]
 |n+1,a=>match kE a (z a)with
  |none=>[]
  |some b=>(lI a b).getD Zv::Jh n (a.modify b List.tail)
def cQ(a:dX):cK:=Jh (total a) a
def xK{hs:dX}(h:kE hs (z hs)=none):cQ hs=[]:=by
 unfold cQ;cases e:total hs with
 |zero=>rfl
 |succ n=>unfold Jh;rw[h]
def Sr(h:∀i,i<z k->lI k i=none):k.flatten=[]:=by
 induction k with
 |nil=>rfl
 |cons r c b=>
  have a:=h 0 (by simp);cases r with
  |cons x t=>simp[lI]at a
  |nil=>
   simp only[aX,cJ];exact b (λi a=>by have:=h (i+1) (by simp;omega);simpa[lI]using this)
def xJ{hs:dX}(h:kE hs (z hs)=M b)(a:lI hs b=M w):cQ hs=w::cQ (hs.modify b List.tail):=by
 unfold cQ;rw[vO a];conv=>lhs;unfold Jh
 rw[h];simp only[a,ia]
def eK(a:dX):(cQ a).Perm a.flatten:=by
 generalize d:total a=n;induction n generalizing a with
 |zero=>
  have:a.flatten=[]:=aR d;unfold cQ;rw[d,this];exact List.Perm.nil
 |succ n e=>
  cases hb:kE a (z a)with
  |none=>
   have:=Sr<|CW hb;rw[xK hb,this]
  |some b=>
   obtain⟨_,f,c,_⟩:=um hb;rw[xJ hb c];have g:=vO c;exact((e _<|by omega).cons f).trans (xI c).symm
def nA(a:ab):cK->cK
 |[]=>[]
 |e::r=>if e.key=a then nA e.key r else e::nA e.key r
def YX(b:cK)(x:E):Prop:=x∈b/\∀a∈b,a.key=x.key->a.bK<=x.bK
def YP(a:cK):Prop:=∀b∈a,∀c∈a,b.key=c.key->b.bK=c.bK->b=c
def Mr(a:ab)(t:e.Pairwise (λg f=>ahead f g=bF))(p:YP e)(s:∀x∈e,im x.key a=bF):wV (nA a e)/\∀x,x∈nA a e↔x.key≠a/\YX e x:=by
 induction e generalizing a with
 |nil=>exact⟨wV.nil,λx=>by simp[nA,YX]⟩
 |cons m y u=>
  obtain⟨j,r⟩:=bA.1 t;obtain⟨q,o⟩:=u m.key r (λg a f b=>p g (by simp[a]) f<|by simp[b])<|λx i=>(nt<|j x i).1;unfold nA;split
  .rename_i h;refine⟨q,λx=>(o x).trans ?_⟩;rw[h];constructor
   .rintro⟨g,f,k⟩;refine⟨g,aJ _ f,λb c d=>?_⟩;rcases aD.1 c with rfl|c
    .exact absurd (d.symm.trans h) g
    .exact k b c d
   .rintro⟨g,f,k⟩;refine⟨g,?_,λb c d=>k b (aJ _ c) d⟩;rcases aD.1 f with rfl|f
    .exact absurd h g
    .exact f
  .rename_i h;have n:im m.key a=bF:=s m (by simp);refine⟨bA.2 ⟨λx i=>?_,q⟩,λx=>?_⟩
   .obtain⟨g,f,_⟩:=(o x).1 i;cases l:im m.key x.key with
    |true=>rfl
    |false=>exact absurd (oq (nt<|j x f).1 l) g
   .rw[aD,o];constructor
    .rintro(rfl|⟨g,f,k⟩)
     .refine⟨h,by simp,λb c d=>?_⟩;rcases aD.1 c with rfl|c
      .exact pB _
      .exact(nt<|j b c).2 d
     .refine⟨?_,aJ _ f,λb c d=>?_⟩
      .intro l;have i:=(nt<|j x f).1;rw[l]at i;exact h<|oq n i
      .rcases aD.1 c with rfl|c
       .exact absurd d.symm g
       .exact k b c d
    .rintro⟨g,f,k⟩;rcases aD.1 f with rfl|f
     .exact .inl rfl
     .by_cases l:x.key=m.key
      .left;have v:=k m (by simp) l.symm;have w:=(nt<|j x f).2 l;exact p x (by simp[f]) m (by simp) l<|by omega
      .exact .inr ⟨l,f,λb c d=>k b (aJ _ c) d⟩
def fX(a:ab)(l:cK):cK:=l.filter<|λe=>!im e.key a
def Uv:w∈(k.map<|fX v).flatten↔w∈k.flatten/\im w.key v=bF:=by
 simp only[bC,bz];constructor;rintro⟨l,⟨r,b,rfl⟩,a⟩;unfold fX at a;rw[de]at a;exact⟨⟨r,b,a.1⟩,by simpa using a.2⟩;rintro⟨⟨r,b,a⟩,h⟩;exact⟨_,⟨r,b,rfl⟩,by unfold fX;rw[de];exact⟨a,by simp[h]⟩⟩
def nG(l:cK)(k:ab):Option E:=l.find?<|λe=>decide<|e.key=k
def nW(h:wV e):nG e v=M w↔w∈e/\w.key=v:=by
 unfold nG;constructor;intro a;exact⟨jR a,by have:=rZ a;simpa using this⟩
 .rintro⟨b,c⟩;cases a:e.find? (λw=>decide<|w.key=v)with
  |none=>
   rw[mX]at a;exact absurd c<|by simpa using a w b
  |some x=>
   have d:=jR a;have f:x.key=v:=by have:=rZ a;simpa using this
   rw[h.Qv d b<|f.trans c.symm]
def nX:nG e v=none↔∀a∈e,a.key≠v:=by
 unfold nG;rw[mX];simp
def Sy(h:wV e)(c:wV K)(f:∀x,x.key=v->(x∈e↔x∈K)):nG e v=nG K v:=by
 cases hm:nG K v with
 |none=>
  rw[nX]at hm|-;intro x d b;exact hm x ((f x b).1 d) b
 |some a=>
  rw[nW c]at hm;exact(nW h).2 ⟨(f a hm.2).2 hm.1,hm.2⟩
def Mt(h:wV e)(c:E)(k:ab):nG (tg e c) k=if k=c.key then M c else nG e k:=by
 split;rename_i a;exact(nW<|h.tg c).2 ⟨yD.2<|.inl rfl,a.symm⟩;rename_i a;refine Sy (h.tg c) h<|λx d=>?_;rw[yD];constructor;rintro(rfl|b);exact absurd d.symm a;exact b.1;intro b;exact .inr ⟨b,λc=>a<|d.symm.trans c⟩
def ri(a:dX)(k:ab):Option E:=a.findSome?<|λr=>nG r k
def yJ(k:ab):ri [] k=none:=rfl
def qD(r:cK)(a:dX)(k:ab):ri (r::a) k=(nG r k).or (ri a k):=by
 unfold ri;rw[sj];cases nG r k<;>rfl
def wk(a b:dX)(k:ab):ri (a++b) k=(ri a k).or (ri b k):=by
 induction a with
 |nil=>simp[yJ]
 |cons r a c=>rw[cC,qD,qD,c,Option.or_assoc]
def Sx(k:ab):nG [] k=none:=rfl
def Over(r s:cK):Prop:=∀a∈r,∀b∈s,a.key=b.key->b.bK<a.bK
def ki(a:dX):Prop:=a.Pairwise Over
def ki.over(h:ki (e::k)):Over e k.flatten:=by
 intro f b g a c;obtain⟨s,d,a⟩:=bC.1 a;exact(bA.1 h).1 s d f b g a c
def PX(m:∀r∈k,wV r)(l:ki k):ri k v=M w↔YX k.flatten w/\w.key=v:=by
 induction k with
 |nil=>simp[yJ,YX]
 |cons r k n=>
  have j:=n (λr a=>m r<|by simp[a]) (bA.1 l).2;have i:=l.over;have g:=m r (by simp);rw[qD];cases hf:nG r v with
  |some x=>
   have b:=(nW g).1 hf;simp only[Option.some_or,tT,aX];constructor
   .rintro rfl;refine⟨⟨iz _ b.1,λd c f=>?_⟩,b.2⟩;rcases ap.1 c with c|c
    .rw[g.Qv c b.1 f];exact pB _
    .exact Int.le_of_lt<|i x b.1 d c f.symm
   .rintro⟨⟨a,h⟩,e⟩;rcases ap.1 a with a|a
    .exact g.Qv b.1 a<|b.2.trans e.symm
    .have o:=h x (iz _ b.1)<|b.2.trans e.symm;have p:=i x b.1 w a<|b.2.trans e.symm;omega
  |none=>
   have b:=nX.1 hf;simp only[mB,aX];rw[j];constructor
   .rintro⟨⟨a,h⟩,e⟩;refine⟨⟨ii _ a,λd c f=>?_⟩,e⟩;rcases ap.1 c with c|c
    .exact absurd (f.trans e)<|b d c
    .exact h d c f
   .rintro⟨⟨a,h⟩,e⟩;refine⟨⟨?_,λd c f=>h d (ii _ c) f⟩,e⟩;rcases ap.1 a with a|a
    .exact absurd e<|b w a
    .exact a
def seen(a:dX)(k:ab):Option ab:=(ri a k).bind<|λe=>if e.del then none else M e.val
def RC{a h D:dX}(y:ki (k++a++D))(w:ki h)(f:∀A∈h.flatten,A∈a.flatten):ki (k++h++D):=by
 obtain⟨s,t,o⟩:=bR.1 y;obtain⟨u,_,v⟩:=bR.1 s;have d:∀g∈h,∀i∈g,∃p∈a,i∈p:=λg e i c=>bC.1<|f i<|bC.2 ⟨g,e,c⟩;refine bR.2 ⟨bR.2 ⟨u,w,?_⟩,t,?_⟩;intro r b g n q j i c m;obtain⟨p,e,l⟩:=d g n i c;exact v r b p e q j i l m;intro r b x n;rcases ap.1 b with b|b;exact o r (iz _ b) x n;intro q j i c m;obtain⟨p,e,l⟩:=d r b q j;exact o p (ii _ e) x n q l i c m
def Bc(a b D:dX):Prop:=∀k,ri b k=ri a k\/(ri D k=none/\ri b k=none/\∃e,ri a k=M e/\e.del=bX)
def TL{a b D:dX}(h:Bc a b D)(c:ab):seen (k++b++D) c=seen (k++a++D) c:=by
 unfold seen;rw[wk,wk,wk,wk];rcases h c with h|⟨d,e,i,f,g⟩;rw[h]
 .rw[d,e,f];cases ri k c with
  |some x=>simp
  |none=>simp[g]
def dS(l:cK):Prop:=l.Pairwise<|λa b=>ahead a b=bX
def dS.nil:dS []:=List.Pairwise.nil
def dS.sub(h:dS K)(s:e.Sublist K):dS e:=lF s h
def dS.Nl(h:dS e):e.Pairwise (λa b=>ahead b a=bF):=h.imp<|λh=>lV h
def dS.Qv(q:dS e):YP e:=by
 induction e with
 |nil=>intro i d;cases d
 |cons p r n=>
  obtain⟨k,l⟩:=bA.1 q;have h:∀x∈r,x.key=p.key->x.bK=p.bK->False:=by
   intro x m c g;rcases jl.1 (k x m)with j|⟨_,j⟩
   .rw[c,fD]at j;cases j
   .omega
  intro i d o g c f;rcases aD.1 d with rfl|a<;>rcases aD.1 g with rfl|b
  .rfl
  .exact(h o b c.symm f.symm).elim
  .exact(h i a c f).elim
  .exact n l i a o b c f
structure gT(l:cK):Prop where
 mr:dS l
 key:∀e∈l,e.key≠⟨#[]⟩
def gT.nil:gT []:=⟨dS.nil,λ_ h=>by cases h⟩
def gT.sub(h:gT K)(s:e.Sublist K):gT e:=⟨h.mr.sub s,λb a=>h.key b<|s.subset a⟩
def kr(b:Y)(r:cK):cK:=nA ⟨#[]⟩<|r.filter<|λe=>decide<|e.bK<=b
def Qj(j:gT e)(h:Y):wV (kr h e)/\∀x,x∈kr h e↔x∈e/\x.bK<=h/\∀a∈e,a.key=x.key->a.bK<=h->a.bK<=x.bK:=by
 have i:dS (e.filter<|λa=>decide<|a.bK<=h):=j.mr.sub fg;obtain⟨s,m⟩:=Mr ⟨#[]⟩ i.Nl i.Qv<|λx _=>Jp x.key;refine⟨s,λx=>?_⟩;unfold kr;rw[m];constructor;rintro⟨_,b,g⟩;obtain⟨b,d⟩:=de.1 b;exact⟨b,pW d,λa c f e=>g a (de.2 ⟨c,nH e⟩) f⟩;rintro⟨b,d,g⟩;exact⟨j.key x b,de.2 ⟨b,nH d⟩,λa c f=>g a (de.1 c).1 f<|pW (de.1 c).2⟩
def nh(h:gT e)(b:Y):wV (kr b e):=(Qj h b).1
def jp(h:gT e):w∈kr m e↔w∈e/\w.bK<=m/\∀a∈e,a.key=w.key->a.bK<=m->a.bK<=w.bK:=(Qj h m).2 w
def ye(h:gT e)(a:w∈kr m e):w∈e:=((jp h).1 a).1
def iH(b:Y)(r:cK)(k:ab):Option E:=r.find?<|λe=>decide (e.key=k)&&decide (e.bK<=b)
def CI(n:gT e)(k:iH m e v=M w):w∈kr m e/\w.key=v:=by
 obtain⟨b,o,p,c,l⟩:=List.find?_eq_some_iff_append.1 k;simp only[jZ,js]at b;refine⟨(jp n).2 ⟨by rw[c];simp,b.2,λa g d j=>?_⟩,b.1⟩;rw[c]at g;rcases ap.1 g with q|q;have:=l a q;simp[d,b.1,j]at this;rcases aD.1 q with rfl|q;exact pB _;have f:=n.mr;rw[c]at f;have i:=(bR.1 f).2.1;rcases jl.1 ((bA.1 i).1 a q)with h|⟨_,h⟩;rw[d,fD]at h;cases h;omega
def CJ(d:iH m e v=none):∀a∈e,a.key=v->¬a.bK<=m:=by
 intro a c f b;have:=mX.1 d a c;simp[f,b]at this
def SA(h:gT e)(b:Y)(k:ab):iH b e k=nG (kr b e) k:=by
 cases hf:iH b e k with
 |some g=>exact((nW<|nh h b).2<|CI h hf).symm
 |none=>
  refine(nX.2 λg d f=>?_).symm;obtain⟨a,c,_⟩:=(jp h).1 d;exact CJ hf g a f c
def VL(h:gT e)(f:w∈e)(d:w.bK<=m):∃a∈kr m e,a.key=w.key/\w.bK<=a.bK:=by
 cases hf:iH m e w.key with
 |some a=>
  obtain⟨b,c⟩:=CI h hf;exact⟨a,b,c,((jp h).1 b).2.2 w f c.symm d⟩
 |none=>exact absurd d<|CJ hf w f rfl
def Over.at(k:Over e K)(c:gT e)(d:gT K)(b:Y):Over (kr b e) (kr b K):=λx g a h j=>k x (ye c g) a (ye d h) j
def Lu(h:ki k)(b:∀r∈k,gT r)(f:Y):ki (k.map<|kr f):=by
 unfold ki;rw[jw];induction k with
 |nil=>exact List.Pairwise.nil
 |cons r k e=>
  obtain⟨c,d⟩:=bA.1 h;exact bA.2 ⟨λs a=>(c s a).at (b r<|by simp) (b s<|by simp[a]) f,e d<|λs a=>b s<|by simp[a]⟩
def pN(a:cD Y)(p:Option E)(e:E):Bool:=match p with
 |none=>bX
 |some p=>!decide (p.key=e.key)||a.any (λm=>decide (e.bK<=m)&&decide (m<p.bK))
def kV(a:cD Y):Option E->cK->cK
 |_,[]=>[]
 |p,e::r=>if pN a p e then e::kV a (M e) r else kV a (M e) r
def dV(a:cD Y)(l:cK):cK:=kV a none l
def RE(b:cD Y)(l:cK):∀p,(kV b p l).Sublist l:=by
 induction l with
 |nil=>intro p;exact eF _
 |cons e r a=>
  intro p;unfold kV;split
  .exact(a<|M e).cons_cons e
  .exact(a<|M e).cons e
def jy(a:cD Y)(l:cK):(dV a l).Sublist l:=RE a l none
def gT.Ly(h:gT e)(a:cD Y):gT (dV a e):=h.sub<|jy a e
def RG{e:cD Y}(l:cK):∀p:Option E,dS (p.toList++l)->w∈l->((∀a∈p.toList++l,a.key=w.key->a.bK<=w.bK)\/∃m∈e,w.bK<=m/\∀a∈p.toList++l,a.key=w.key->a.bK<=m->a.bK<=w.bK)->w∈kV e p l:=by
 induction l with
 |nil=>intro p _ c;cases c
 |cons x s r=>
  intro p k c b;have i:dS (x::s):=(bR.1 k).2.1;unfold kV;rcases aD.1 c with rfl|c
  .have o:pN e p w=bX:=by
    cases p with
    |none=>rfl
    |some q=>
     unfold pN;by_cases d:q.key=w.key
     .have n:ahead q w=bX:=(bR.1 k).2.2 q (by simp) w (by simp);have t:w.bK<q.bK:=by
       rcases jl.1 n with j|⟨_,j⟩
       .rw[d,fD]at j;cases j
       .exact j
      rcases b with b|⟨m,h,f,g⟩
      .have:=b q (by simp) d;omega
      .have:¬q.bK<=m:=λj=>by have:=g q (by simp) d j;omega
       rw[wB];exact .inr<|ji.2 ⟨m,h,by simp[f];omega⟩
     .simp[d]
   rw[dt o];simp
  .have j:w∈kV e (M x) s:=r (M x) i c (by
    rcases b with b|⟨m,h,f,g⟩
    .exact .inl λa d=>b a (by simp at d|-;exact .inr d)
    .exact .inr ⟨m,h,f,λa d=>g a (by simp at d|-;exact .inr d)⟩)
   split
   .exact aJ _ j
   .exact j
def yN(l:gT e){c:cD Y}(h:m∈c\/∀x∈e,x.bK<=m):kr m (dV c e)=kr m e:=by
 have i:∀x∈kr m e,x∈dV c e:=by intro x f;obtain⟨n,g,d⟩:=(jp l).1 f;refine RG e none l.mr n ?_;rcases h with h|h;exact .inr ⟨m,h,g,λa b j o=>d a (by simpa using b) j o⟩;exact .inl λa b j=>d a (by simpa using b) j<|h a<|by simpa using b
 refine(nh (l.Ly c) m).ext (nh l m) λx=>?_;constructor;intro f;obtain⟨n,g,d⟩:=(jp<|l.Ly c).1 f;have p:=(jy c e).subset n;refine(jp l).2 ⟨p,g,λa b j o=>?_⟩;obtain⟨k,r,q,s⟩:=VL l b o;have:=d k (i k r) (q.trans j) ((jp l).1 r).2.1;omega;intro f;obtain⟨n,g,d⟩:=(jp l).1 f;exact(jp<|l.Ly c).2 ⟨i x f,g,λa b=>d a<|(jy c e).subset b⟩
def Kz(h:∀r∈k,dS r):∀r∈k.modify b List.tail,dS r:=by
 intro r a;induction k generalizing b with
 |nil=>simp at a
 |cons x d c=>
  cases b with
  |zero=>
   simp only[qN,aD]at a;rcases a with rfl|a
   .exact(h x<|by simp).sub<|List.tail_sublist x
   .exact h r<|by simp[a]
  |succ b=>
   simp only[nw,aD]at a;rcases a with rfl|a
   .exact h r<|by simp
   .exact c (λr a=>h r<|by simp[a]) a
def Ut(m:∀r∈k,dS r)(j:∀i,i<z k->∀f,lI k i=M f->ahead f w=bF):∀x∈k.flatten,ahead x w=bF:=by
 intro x l;obtain⟨r,g,a⟩:=bC.1 l;obtain⟨i,e,rfl⟩:=dY g;have b:=m _ g;cases hc:k[i]with
 |nil=>rw[hc]at a;cases a
 |cons f t=>
  have h:lI k i=M f:=by simp[lI,e,hc]
  have d:=j i e f h;rw[hc]at a b;rcases aD.1 a with rfl|c
  .exact d
  .exact we d<|lV<|(bA.1 b).1 x c
def Cz(a:dX)(i:∀r∈a,dS r):(cQ a).Pairwise (λj c=>ahead c j=bF):=by
 generalize f:total a=n;induction n generalizing a with
 |zero=>unfold cQ;rw[f];exact List.Pairwise.nil
 |succ n h=>
  cases hb:kE a (z a)with
  |none=>rw[xK hb];exact List.Pairwise.nil
  |some c=>
   obtain⟨_,l,b,e⟩:=um hb;rw[xJ hb b];have k:=vO b;refine bA.2 ⟨λx g=>?_,h _ (Kz i)<|by omega⟩;have d:x∈(a.modify c List.tail).flatten:=(eK _).mem_iff.1 g;exact Ut i e x<|(xI b).mem_iff.2<|aJ _ d
def Kb(l:cK):Prop:=l.Pairwise<|λa b=>¬(a.key=b.key/\a.bK=b.bK)
def dS.XP(h:dS e):Kb e:=h.imp λ{a b}q=>by
 rintro⟨c,d⟩;rcases jl.1 q with q|⟨_,q⟩;rw[c,fD]at q;cases q;omega
def Aw(b:∀r∈k,dS r)(a:ki k):Kb k.flatten:=by
 induction k with
 |nil=>exact List.Pairwise.nil
 |cons r k f=>
  rw[aX];refine bR.2 ⟨(b r<|by simp).XP,f (λs e=>b s<|by simp[e]) (bA.1 a).2,λg c h d q=>?_⟩;have:=a.over g c h d q.1;omega
def yP{b:E}(h:ahead b w=bF)(k:¬(w.key=b.key/\w.bK=b.bK)):ahead w b=bX:=by
 obtain⟨a,e⟩:=nt h;refine jl.2 ?_;by_cases c:w.key=b.key;have:=e c.symm;exact .inr ⟨c,by have:w.bK≠b.bK:=λd=>k ⟨c,d⟩;omega⟩
 .left;cases d:im w.key b.key with
  |true=>rfl
  |false=>exact absurd (oq d a) c
def ph(a:∀r∈k,dS r)(e:ki k):dS (cQ k):=by
 have c:=Cz k a;have d:Kb (cQ k):=((eK k).pairwise_iff<|λ{f b}q c=>q ⟨c.1.symm,c.2.symm⟩).2<|Aw a e;exact List.Pairwise.imp₂ (λf b q k=>yP q k) c d
def nU(a:∀r∈k,gT r)(e:ki k):gT (cQ k):=by
 refine⟨ph (λr h=>(a r h).mr) e,λf d=>?_⟩;obtain⟨r,b,c⟩:=bC.1<|(eK k).mem_iff.1 d;exact(a r b).key f c
def xM(d:∀r∈k,gT r)(u:ki k):w∈kr m (cQ k)↔ri (k.map<|kr m) w.key=M w:=by
 have t:=nU d u;have b:∀a,a∈cQ k↔∃r∈k,a∈r:=λa=>((eK k).mem_iff).trans bC;rw[PX (λr h=>by obtain⟨B,e,rfl⟩:=bz.1 h;exact nh (d B e) m)<|Lu u d m];constructor;intro s;obtain⟨j,l,q⟩:=(jp t).1 s;obtain⟨r,c,o⟩:=(b w).1 j;refine⟨⟨bC.2 ⟨_,bz.2 ⟨r,c,rfl⟩,(jp<|d r c).2 ⟨o,l,λa g=>q a<|(b a).2 ⟨r,c,g⟩⟩⟩,λa g n=>?_⟩,rfl⟩;obtain⟨B,e,p⟩:=bC.1 g;obtain⟨v,f,rfl⟩:=bz.1 e;obtain⟨h,i,_⟩:=(jp<|d v f).1 p;exact q a ((b a).2 ⟨v,f,h⟩) n i;rintro⟨⟨j,l⟩,_⟩;obtain⟨B,e,o⟩:=bC.1 j;obtain⟨v,f,rfl⟩:=bz.1 e;obtain⟨h,i,_⟩:=(jp<|d v f).1 o;refine(jp t).2 ⟨(b w).2 ⟨v,f,h⟩,i,λa g n x=>?_⟩;obtain⟨r,c,p⟩:=(b a).1 g;obtain⟨s,y,q,A⟩:=VL (d r c) p x;have:=l s (bC.2 ⟨_,bz.2 ⟨r,c,rfl⟩,y⟩)<|q.trans n;omega
def iw:cK->cK
 |[]=>[]
 |e::r=>if e.del&&!((iw r).any λa=>decide<|a.key=e.key)then iw r else e::iw r
def kO(l:cK):(iw l).Sublist l:=by
 induction l with
 |nil=>exact eF _
 |cons e r a=>
  unfold iw;split
  .exact a.cons e
  .exact a.cons_cons e
def Hh(A:dS e):w∈iw e↔w∈e/\(w.del=bF\/∃a∈e,a.key=w.key/\a.bK<w.bK/\a.del=bF):=by
 induction e generalizing w with
 |nil=>simp[iw]
 |cons p r m=>
  obtain⟨u,l⟩:=bA.1 A;have j:∀a∈r,a.key=p.key->a.bK<p.bK:=λa c i=>by
   rcases jl.1 (u a c)with h|⟨_,h⟩
   .rw[i,fD]at h;cases h
   .exact h
  have s:∀{w:E},w∈r->(w.del=bF\/∃a∈p::r,a.key=w.key/\a.bK<w.bK/\a.del=bF)->w∈iw r:=by
   intro w d f;refine(m l).2 ⟨d,f.imp_right ?_⟩;rintro⟨a,c,k,n,h⟩;rcases aD.1 c with rfl|c
   .have:=j w d k.symm;omega
   .exact⟨a,c,k,n,h⟩
  have t:∀{w:E},w∈iw r->w∈p::r/\(w.del=bF\/∃a∈p::r,a.key=w.key/\a.bK<w.bK/\a.del=bF):=by
   intro w d;obtain⟨k,n⟩:=(m l).1 d;exact⟨aJ _ k,n.imp_right λ⟨a,c,q⟩=>⟨a,aJ _ c,q⟩⟩
  unfold iw;split
  .rename_i f;simp only[jZ,Bool.not_eq_true',List.any_eq_false,js]at f;refine⟨t,?_⟩;rintro⟨d,b⟩;rcases aD.1 d with rfl|g
   .exfalso;rcases b with h|⟨a,c,k,n,h⟩
    .rw[f.1]at h;cases h
    .rcases aD.1 c with rfl|o
     .omega
     .exact f.2 a ((m l).2 ⟨o,.inl h⟩) k
   .exact s g b
  .rename_i f;rw[aD];constructor
   .rintro(rfl|d)
    .refine⟨by simp,?_⟩;cases hd:w.del with
     |false=>exact .inl rfl
     |true=>
      right;simp only[hd,yX,Bool.not_eq_true',Bool.not_eq_false,ji,js]at f;obtain⟨a,c,i⟩:=f;obtain⟨k,n⟩:=(m l).1 c;have v:=j a k i;rcases n with n|⟨o,x,h,B,y⟩
      .exact⟨a,aJ _ k,i,v,n⟩
      .exact⟨o,aJ _ x,h.trans i,by omega,y⟩
    .exact t d
   .rintro⟨d,b⟩;rcases aD.1 d with rfl|g
    .exact .inl rfl
    .exact .inr<|s g b
def gT.bare(h:gT e):gT (iw e):=h.sub<|kO e
def OG(h:gT e)(A:∀v,ri k v=none)(s:Y):Bc [kr s e] [kr s<|iw e] k:=by
 intro v;simp only[qD,yJ,sO];cases hf:nG (kr s e) v with
 |none=>
  left;refine nX.2 λf n d=>?_;obtain⟨i,l,_⟩:=(jp h.bare).1 n;obtain⟨b,c,a,_⟩:=VL h ((kO e).subset i) l;exact nX.1 hf b c<|a.trans d
 |some f=>
  obtain⟨n,d⟩:=(nW<|nh h s).1 hf;obtain⟨i,l,u⟩:=(jp h).1 n;by_cases m:f∈iw e
  .left;exact(nW<|nh h.bare s).2 ⟨(jp h.bare).2 ⟨m,l,λa r=>u a<|(kO e).subset r⟩,d⟩
  .right;have b:¬(f.del=bF\/∃a∈e,a.key=f.key/\a.bK<f.bK/\a.del=bF):=λg=>m<|(Hh h.mr).2 ⟨i,g⟩;refine⟨A v,nX.2 λx B c=>?_,f,rfl,by cases hd:f.del with|true=>rfl|false=>exact(b<|.inl hd).elim⟩;obtain⟨t,w,_⟩:=(jp h.bare).1 B;obtain⟨j,y⟩:=(Hh h.mr).1 t;have o:=u x j (c.trans d.symm) w;have q:x≠f:=λg=>m<|g▸t;have p:x.bK<f.bK:=by
    rcases Int.lt_or_eq_of_le o with g|g
    .exact g
    .exact absurd (h.mr.Qv x j f i (c.trans d.symm) g) q
   rcases y with g|⟨a,r,C,E,D⟩
   .exact b<|.inr ⟨x,j,c.trans d.symm,p,g⟩
   .exact b<|.inr ⟨a,r,C.trans<|c.trans d.symm,by omega,D⟩
def lH(l:cK)(e:E):cK:=l.filter (λx=>ahead x e)++e::l.filter (λx=>ahead e x)
def mL{x:E}:x∈lH e w↔x=w\/(x∈e/\¬(x.key=w.key/\x.bK=w.bK)):=by
 unfold lH;simp only[ap,aD,de];constructor;rintro(⟨a,b⟩|rfl|⟨a,b⟩);refine .inr ⟨a,λq=>?_⟩;rcases jl.1 b with c|⟨_,c⟩;rw[q.1,fD]at c;cases c;omega;exact .inl rfl;refine .inr ⟨a,λq=>?_⟩;rcases jl.1 b with c|⟨_,c⟩;rw[q.1,fD]at c;cases c;omega
 .rintro(rfl|⟨a,b⟩)
  .exact .inr<|.inl rfl
  .cases c:ahead x w with
   |true=>exact .inl ⟨a,rfl⟩
   |false=>exact .inr<|.inr ⟨a,yP c<|λq=>b ⟨q.1.symm,q.2.symm⟩⟩
def dS.lH(h:dS e)(f:E):dS (lH e f):=by
 unfold Go.Proofs.YtceammfgahaodaaGreatDoor.lH;refine bR.2 ⟨h.sub fg,bA.2 ⟨λx d=>(de.1 d).2,h.sub fg⟩,λg c i a=>?_⟩;have b:=(de.1 c).2;rcases aD.1 a with rfl|a;exact b;exact ur b (de.1 a).2
def gT.lH(h:gT e)(a:w.key≠⟨#[]⟩):gT (lH e w):=by
 refine⟨h.mr.lH w,λx b=>?_⟩;rcases mL.1 b with rfl|⟨c,_⟩;exact a;exact h.key x c
def MQ(j:gT e)(i:w.key≠⟨#[]⟩)(l:m<w.bK):kr m (lH e w)=kr m e:=by
 refine(nh (j.lH i) m).ext (nh j m) λx=>?_;rw[jp<|j.lH i,jp j];have c:∀a:E,a.bK<=m->(a∈lH e w↔a∈e):=by intro a d;rw[mL];constructor;rintro(rfl|⟨f,_⟩);omega;exact f;exactλf=>.inr ⟨f,λq=>by omega⟩
 constructor;rintro⟨f,h,k⟩;exact⟨(c x h).1 f,h,λa d g b=>k a ((c a b).2 d) g b⟩;rintro⟨f,h,k⟩;exact⟨(c x h).2 f,h,λa d g b=>k a ((c a b).1 d) g b⟩
def MR(m:gT e)(j:w.key≠⟨#[]⟩){b:Y}(i:w.bK<=b)(k:∀x∈e,x.key=w.key->x.bK<=w.bK):kr b (lH e w)=tg (kr b e) w:=by
 refine(nh (m.lH j) b).ext ((nh m b).tg w) λx=>?_;rw[jp<|m.lH j,yD,jp m];constructor;rintro⟨g,o,l⟩;rcases mL.1 g with rfl|⟨g,q⟩;exact .inl rfl;by_cases d:x.key=w.key;have n:=l w (mL.2<|.inl rfl) d.symm i;have r:=k x g d;exact absurd ⟨d,by omega⟩ q;exact .inr ⟨⟨g,o,λc f a h=>l c (mL.2<|.inr ⟨f,λp=>d<|a.symm.trans p.1⟩) a h⟩,d⟩;rintro(rfl|⟨⟨g,o,l⟩,d⟩);refine⟨mL.2<|.inl rfl,i,λc f a _=>?_⟩;rcases mL.1 f with rfl|⟨g,_⟩;exact pB _;exact k c g a;refine⟨mL.2<|.inr ⟨g,λp=>d p.1⟩,o,λc f a h=>?_⟩;rcases mL.1 f with rfl|⟨n,_⟩;exact absurd a.symm d;exact l c n a h
def fJ(l m:cK):cK:=m.foldl lH l
def gT.fJ(h:gT e)(a:∀b∈K,b.key≠⟨#[]⟩):gT (fJ e K):=by
 induction K generalizing e with
 |nil=>exact h
 |cons b r d=>exact d (h.lH<|a b<|by simp)<|λx c=>a x<|by simp[c]
def xL(a:w∈fJ e K):w∈e\/w∈K:=by
 induction K generalizing e with
 |nil=>exact .inl a
 |cons d r b=>
  rcases b a with q|q
  .rcases mL.1 q with rfl|⟨c,_⟩
   .exact .inr<|by simp
   .exact .inl c
  .exact .inr<|by simp[q]
def Pv(i:gT e)(f:∀b∈K,b.key≠⟨#[]⟩)(c:∀b∈K,b.bK=m)(g:D<m):kr D (fJ e K)=kr D e:=by
 induction K generalizing e with
 |nil=>rfl
 |cons b r h=>
  have d:=f b (by simp);exact(h (i.lH d) (λx a=>f x<|by simp[a])<|λx a=>c x<|by simp[a]).trans<|MQ i d (by rw[c b<|by simp];exact g)
def Pw(k:gT e)(g:∀b∈K,b.key≠⟨#[]⟩)(c:∀b∈K,b.bK=m)(n:m<=D)(f:∀x∈e,x.bK<=m):kr D (fJ e K)=gQ (kr D e) K:=by
 induction K generalizing e with
 |nil=>rfl
 |cons b r j=>
  have d:=g b (by simp);have o:=c b (by simp);have h:=j (k.lH d) (λx a=>g x<|by simp[a]) (λx a=>c x<|by simp[a]) (λx a=>by
   rcases mL.1 a with rfl|⟨l,_⟩
   .omega
   .exact f x l)
  have i:=MR k d (b:=D) (by omega) (λx a _=>by have:=f x a;omega);exact h.trans (by rw[i];rfl)
def Ql(h:gT e)(c:∀x∈e,x.bK<=m)(i:m<=D):kr D e=kr m e:=by
 refine(nh h D).ext (nh h m) λx=>?_;rw[jp h,jp h];constructor;rintro⟨f,_,g⟩;exact⟨f,c x f,λa b d _=>g a b d (by have:=c a b;omega)⟩;rintro⟨f,_,g⟩;exact⟨f,by have:=c x f;omega,λa b d _=>g a b d<|c a b⟩
def tv(e:E):dX->dX
 |(x::g)::a=>if x.key=e.key then(e::x::g)::a else [e]::(x::g)::a
 |a=>[e]::a
def io:cK->dX
 |[]=>[]
 |e::r=>tv e<|io r
def Do(l:cK):∀g∈io l,g≠[]:=by
 induction l with
 |nil=>intro g a;cases a
 |cons f r b=>
  intro g a;unfold io tv at a;split at a
  .rename_i x d e c;rw[c]at b;split at a
   .rcases aD.1 a with rfl|a
    .simp
    .exact b g<|by simp[a]
   .rcases aD.1 a with rfl|a
    .simp
    .exact b g a
  .rcases aD.1 a with rfl|a
   .simp
   .exact b g a
def pO(l:cK):(io l).flatten=l:=by
 induction l with
 |nil=>rfl
 |cons e r a=>
  unfold io tv;split
  .rename_i x g c b;rw[b]at a;split<;>simp[<-a]
  .simp[a]
def yH(r:cK):∀g∈io r,∀x∈g,∀a∈g,x.key=a.key:=by
 induction r with
 |nil=>intro g b;cases b
 |cons f t c=>
  intro g b;have h:∀x∈[f],∀a∈[f],x.key=a.key:=by simp
  unfold io tv at b;split at b
  .rename_i x j s n;rw[n]at c;split at b
   .rename_i m;rcases aD.1 b with rfl|b
    .have i:∀a∈x::j,a.key=f.key:=λa b=>(c _ (by simp) a b x<|by simp).trans m;intro o k p l;have d:o.key=f.key:=(aD.1 k).elim (λq=>by rw[q])<|λq=>i o q;have e:p.key=f.key:=(aD.1 l).elim (λq=>by rw[q])<|λq=>i p q;exact d.trans e.symm
    .exact c g<|by simp[b]
   .rcases aD.1 b with rfl|b
    .exact h
    .exact c g b
  .rcases aD.1 b with rfl|b
   .exact h
   .exact c g b
def Hp(e:E)(r:cK):∃g a,io (e::r)=(e::g)::a:=by
 unfold io tv;split;split;exact⟨_,_,rfl⟩;exact⟨[],_,rfl⟩;exact⟨[],_,rfl⟩
def Jr(e:E)(a b:dX)(h:a≠[]):tv e (a++b)=tv e a++b:=by
 cases a with
 |nil=>exact absurd rfl h
 |cons g a=>
  cases g with
  |nil=>rfl
  |cons x g=>
   simp only[cC,tv];split<;>rfl
def Md(p s:cK)(h:∀c∈p.getLast?,∀b∈s.head?,c.key≠b.key):io (p++s)=io p++io s:=by
 induction p with
 |nil=>rfl
 |cons e r g=>
  cases r with
  |nil=>
   cases s with
   |nil=>rfl
   |cons b s=>
    have f:e.key≠b.key:=h e (by simp) b (by simp);obtain⟨i,d,a⟩:=Hp b s;show tv e (io<|b::s)=[[e]]++io (b::s);rw[a];simp only[tv];rw[dh<|λc=>f c.symm];rfl
  |cons x r=>
   have:=g<|λc a b d=>h c (by simpa using a) b d;show tv e (io<|(x::r)++s)=tv e (io<|x::r)++io s;rw[this,Jr];obtain⟨i,d,a⟩:=Hp x r;rw[a];simp
def UM(b:e≠[])(d:∀x∈e,∀a∈e,x.key=a.key):io e=[e]:=by
 induction e with
 |nil=>exact absurd rfl b
 |cons c r f=>
  cases r with
  |nil=>rfl
  |cons x r=>
   have:=f (by simp)<|λe b g c=>d e (by simp at b|-;exact .inr b) g (by simp at c|-;exact .inr c);show tv c (io<|x::r)=_;rw[this];simp only[tv];rw[dt<|d x (by simp) c<|by simp]
def pa(a:cD Y)(p:Option E)(e:E)(r:cK):kV a p (e::r)=if pN a p e then e::kV a (M e) r else kV a (M e) r:=rfl
def zR(e:E)(r:cK):iw (e::r)=if e.del&&!((iw r).any λa=>decide<|a.key=e.key)then iw r else e::iw r:=rfl
def Je(a:cD Y)(l s:cK):∀p:Option E,(∀c,(p.toList++l).getLast?=M c->∀b∈s.head?,c.key≠b.key)->kV a p (l++s)=kV a p l++kV a none s:=by
 induction l with
 |nil=>
  intro p h;cases s with
  |nil=>rfl
  |cons b s=>
   cases p with
   |none=>rfl
   |some q=>
    have g:q.key≠b.key:=h q (by simp) b (by simp);show kV a (M q) (b::s)=kV a none (b::s);have d:pN a (M q) b=bX:=by simp[pN,g]
    have f:pN a none b=bX:=rfl;rw[pa,pa,dt d,dt f]
 |cons e r i=>
  intro p h;have:=i (M e) (λc f b g=>h c (by
   have d:(p.toList++e::r).getLast?=(e::r).getLast?:=by cases p with|none=>rfl|some q=>exact uT
   rw[d];exact f) b g)
  show kV a p (e::(r++s))=kV a p (e::r)++kV a none s;rw[pa,pa,this];split<;>rfl
def Cx(a:cD Y)(l s:cK)(h:∀b∈l.getLast?,∀d∈s.head?,b.key≠d.key):dV a (l++s)=dV a l++dV a s:=Je a l s none<|λb c=>h b<|by simpa using c
def MO(l s:cK)(h:∀b∈l,∀i∈s,b.key≠i.key):iw (l++s)=iw l++iw s:=by
 induction l with
 |nil=>rfl
 |cons e r g=>
  have c:=g (λb a=>h b<|by simp[a]);show iw (e::(r++s))=_;rw[zR,zR,c,List.any_append];have d:((iw s).any λa=>decide<|a.key=e.key)=bF:=by
   rw[List.any_eq_false];intro a f;simpa usingλc=>h e (by simp) a ((kO s).subset f) (c:a.key=e.key).symm
  rw[d,Bool.or_false];split<;>rfl
def ve(g:cK):cK:=(g.reverse.dropWhile<|λe=>e.del).reverse
def GB(g:cK)(e:E):ve (g++[e])=if e.del then ve g else g++[e]:=by
 unfold ve;simp only[List.reverse_append,tV,List.reverse_nil,cJ,jU,List.dropWhile_cons];split<;>simp
def Qy(e:E)(g:cK):ve (e::g)=if ve g=[]then(if e.del then []else [e])else e::ve g:=by
 unfold ve;rw[tV,List.dropWhile_append];cases hq:g.reverse.dropWhile (λe=>e.del)with
 |nil=>
  simp[List.dropWhile_cons];split<;>simp_all
 |cons x r=>simp
def VJ(d:∀x∈e,∀a∈e,x.key=a.key):iw e=ve e:=by
 induction e with
 |nil=>rfl
 |cons f r g=>
  have c:=g (λe a f b=>d e (by simp[a]) f<|by simp[b]);rw[zR,c,Qy];have b:∀a∈ve r,a.key=f.key:=λa e=>d a (by rw[<-c]at e;simp[(kO r).subset e]) f (by simp);cases ht:ve r with
  |nil=>simp
  |cons x t=>
   have:x.key=f.key:=b x (by rw[ht];simp);simp[this]
def DZ{b:cD Y}(h:gT e)(a:∀c∈K,c.key≠⟨#[]⟩)(d:∀c∈K,c.bK=m+1)(f:D∈b)(g:D<=m):(dV b (fJ e K)::k).map (kr D)=(e::k).map (kr D):=by
 simp only[aZ];rw[yN (h.fJ a)<|.inl f,Pv h a d<|by omega]
def xC{rest:dX}{ms:cD Y}(h:gT e)(j:∀r∈rest,gT r)(d:∀f∈K,f.key≠⟨#[]⟩)(c:∀f∈K,f.bK=m+1)(a:∀x∈e,x.bK<=m)(i:∀r∈rest,∀x∈r,x.bK<=m):(dV ms (fJ e K)::rest).map (kr<|m+1)=gQ (kr m e) K::rest.map (kr m):=by
 simp only[aZ];have g:∀x∈fJ e K,x.bK<=m+1:=by intro x b;rcases xL b with q|q;have:=a x q;omega;have:=c x q;omega
 rw[yN (h.fJ d)<|.inr g,Pw h d c (pB _) (λx b=>by have:=a x b;omega),Ql h a<|by omega];congr 1;exact mu λr a=>Ql (j r a) (i r a)<|by omega
def IL{a:cD Y}(h:gT e)(b:m∈a\/∀x∈e,x.bK<=m):(dV a e::k).map (kr m)=(e::k).map (kr m):=by
 simp only[aZ];rw[yN h b]
def Sn(b:∀r∈k,gT r)(c:ki k)(d:Y)(e:ab):ri [kr d<|cQ k] e=ri (k.map<|kr d) e:=by
 have l:∀r∈k.map (kr d),wV r:=λr h=>by obtain⟨s,g,rfl⟩:=bz.1 h;exact nh (b s g) d
 have a:∀e f,ri (k.map<|kr d) e=M f->f.key=e:=λe f q=>((PX l<|Lu c b d).1 q).2;rw[qD,yJ,sO];have h:=nU b c;cases hf:ri (k.map<|kr d) e with
 |some f=>
  have:=a e f hf;exact(nW<|nh h d).2 ⟨(xM b c).2 (by rw[this];exact hf),this⟩
 |none=>
  refine nX.2 λf i j=>?_;have:=(xM b c).1 i;rw[j,hf]at this;cases this
def gO(b:cD Y)(a:Bool)(c:dX):cK:=if a then iw (dV b<|cQ c)else dV b (cQ c)
def zJ(d:cD Y)(a:Bool)(c:dX):∀x∈gO d a c,x∈c.flatten:=by
 intro x b;have e:x∈dV d (cQ c):=by unfold gO at b;split at b;exact(kO _).subset b;exact b
 exact(eK c).mem_iff.1<|(jy d _).subset e
def EG(d:∀r∈k,gT r)(c:ki k)(b:cD Y)(a:Bool):gT (gO b a k):=by
 unfold gO;split;exact((nU d c).Ly b).bare;exact(nU d c).Ly b
def Ax{D:dX}(e:∀r∈k,gT r)(d:ki k){a:cD Y}(i:m∈a\/∀x∈k.flatten,x.bK<=m)(h:C=bX->∀f,ri (D.map<|kr m) f=none):Bc (k.map<|kr m) [kr m<|gO a C k] (D.map<|kr m):=by
 have c:=nU e d;have b:m∈a\/∀x∈cQ k,x.bK<=m:=i.imp_right λq x c=>q x<|(eK k).mem_iff.1 c;have g:kr m (dV a<|cQ k)=kr m (cQ k):=yN c b;intro f;rw[<-Sn e d m f,<-g];unfold gO;cases C with
 |false=>exact .inl rfl
 |true=>exact OG (c.Ly a) (h rfl) m f
def BY(n:gT (e++K))(k:∀d∈e,∀g∈K,d.key≠g.key)(g:Y):kr g (e++K)=kr g e++kr g K:=by
 have i:gT e:=n.sub<|oJ _ _;have j:gT K:=n.sub<|gl _ _;have f:wV (kr g e++kr g K):=by refine bR.2 ⟨nh i g,nh j g,λx c a b=>?_⟩;rcases jl.1 ((bR.1 n.mr).2.2 x (ye i c) a<|ye j b)with h|⟨h,_⟩;exact h;exact absurd h<|k x (ye i c) a<|ye j b
 refine(nh n g).ext f λx=>?_;rw[ap,jp n,jp i,jp j];constructor;rintro⟨d,h,m⟩;rcases ap.1 d with d|d;exact .inl ⟨d,h,λa b=>m a<|by simp[b]⟩;exact .inr ⟨d,h,λa b=>m a<|by simp[b]⟩;rintro(⟨d,h,m⟩|⟨d,h,m⟩);refine⟨by simp[d],h,λa b c l=>?_⟩;rcases ap.1 b with b|b;exact m a b c l;exact absurd c.symm<|k x d a b;refine⟨by simp[d],h,λa b c l=>?_⟩;rcases ap.1 b with b|b;exact absurd c<|k a b x d;exact m a b c l
def Xh(n:∀r∈k,gT r)(j:ki k)(c:ab)(u:Y):∀x,x∈nA ⟨#[]⟩ ((cQ<|k.map<|fX c).filter<|λy=>decide<|y.bK<=u)↔ri (k.map<|kr u) x.key=M x/\im x.key c=bF:=by
 have d:∀r∈k.map (fX c),∃s∈k,r=fX c s:=λr A=>by obtain⟨s,h,rfl⟩:=bz.1 A;exact⟨s,h,rfl⟩
 have o:∀r∈k.map (fX c),gT r:=λr A=>by obtain⟨s,h,rfl⟩:=d r A;exact(n s h).sub fg
 have l:ki (k.map<|fX c):=by unfold ki;rw[jw];exact j.imp λ{r s}q x b a e y=>q x (de.1 b).1 a (de.1 e).1 y
 intro x;have B:=nU o l;have i:=nU n j;have b:∀a,a∈cQ (k.map<|fX c)↔a∈cQ k/\im a.key c=bF:=λa=>((eK _).mem_iff.trans Uv).trans<|and_congr_left λ_=>(eK k).mem_iff.symm;show x∈kr u (cQ<|k.map<|fX c)↔_;rw[<-xM n j,jp B,jp i];constructor;rintro⟨p,v,w⟩;obtain⟨t,f⟩:=(b x).1 p;exact⟨⟨t,v,λa e g m=>w a ((b a).2 ⟨e,by rw[g];exact f⟩) g m⟩,f⟩;rintro⟨⟨p,v,w⟩,f⟩;exact⟨(b x).2 ⟨p,f⟩,v,λa e g m=>w a ((b a).1 e).1 g m⟩
def gZ(g h:cK):Prop:=∀x∈g,∀a∈h,im x.key a.key=bX
def BG(u:dS e):(io e).Pairwise gZ:=by
 induction e with
 |nil=>exact List.Pairwise.nil
 |cons t r d=>
  obtain⟨o,p⟩:=bA.1 u;have d:=d p;unfold io tv;split
  .rename_i x j h g;have k:(x::j)++h.flatten=r:=by have:=pO r;rw[g]at this;simpa using this
   have a:∀b∈x::j,b.key=x.key:=λb c=>yH r (x::j) (by rw[g];simp) b c x (by simp);rw[g]at d;split
   .rename_i c;obtain⟨l,n⟩:=bA.1 d;refine bA.2 ⟨λs b q f m i=>?_,n⟩;have:=l s b x (by simp) m i;rcases aD.1 f with rfl|f
    .rw[<-c];exact this
    .rw[a q f];exact this
   .rename_i c;refine bA.2 ⟨λs b q f m i=>?_,d⟩;rw[bI.1 f];have l:im t.key x.key=bX:=by
     rcases jl.1 (o x (by rw[<-k];simp))with n|⟨n,_⟩
     .exact n
     .exact absurd n.symm c
    rcases aD.1 b with rfl|b
    .rw[a m i];exact l
    .exact lP l<|(bA.1 d).1 s b x (by simp) m i
  .rename_i h g;have a:io r=[]:=by
    cases c:io r with
    |nil=>rfl
    |cons j h=>
     cases j with
     |nil=>exact absurd rfl<|Do r [] (by rw[c];simp)
     |cons x j=>exact(g x j h c).elim
   rw[a];exact bA.2 ⟨λs b=>(by cases b),List.Pairwise.nil⟩
def kQ(n L:R):R->R->cK->dX->dX
 |_,_,_,[]=>[]
 |k,b,a,g::c=>
  if(k+1)*L/n<=b+z g then(a++g)::kQ n L (k+1) (b+z g) [] c
  else kQ n L k (b+z g) (a++g) c
def pC(n L k b:R)(a g:cK)(c:dX):kQ n L k b a (g::c)=if(k+1)*L/n<=b+z g then(a++g)::kQ n L (k+1) (b+z g) [] c else kQ n L k (b+z g) (a++g) c:=rfl
def Ny{n L:R}(l:0<n):∀(c:dX)(k d:R)(a:cK),d+z c.flatten=L->(k<n\/(c.flatten=[]/\a=[]))->(a≠[]->d<(k+1)*L/n)->(kQ n L k d a c).flatten=a++c.flatten:=by
 intro c;induction c with
 |nil=>
  intro k d a f b g;have:a=[]:=by
   rcases b with b|b
   .by_cases e:a=[]
    .exact e
    .have:=g e;have j:(k+1)*L/n<=L:=Nat.div_le_of_le_mul<|kA L b;simp at f;omega
   .exact b.2
  rw[this];rfl
 |cons i c h=>
  intro k d a f b g;simp only[aX,af]at f b;rw[pC];split
  .rename_i e;rw[aX,h (k+1) (d+z i) [] (by omega) ?_<|λq=>absurd rfl q]
   .simp
   .rcases b with b|b
    .by_cases j:k+1<n
     .exact .inl j
     .have m:k+1=n:=by omega
      rw[m,Nat.mul_div_cancel_left L l]at e;exact .inr ⟨aR (by omega),rfl⟩
    .exact .inr ⟨(ld.1 b.1).2,rfl⟩
  .rename_i e;rw[h k (d+z i) (a++i) (by omega) ?_<|λ_=>by omega]
   .simp
   .rcases b with b|b
    .exact .inl b
    .exact .inr ⟨(ld.1 b.1).2,by rw[b.2,(ld.1 b.1).1];rfl⟩
def KB:∀(e:dX)(k h:R)(d:cK),(∀j∈e,j≠[])->∀p∈kQ b c k h d e,p≠[]:=by
 intro e;induction e with
 |nil=>intro k h d _ p a;cases a
 |cons j e i=>
  intro k h d f p a;rw[pC]at a;split at a
  .rcases aD.1 a with rfl|a
   .intro l;exact f j (by simp) (ld.1 l).2
   .exact i _ _ _ (λx g=>f x<|by simp[g]) p a
  .exact i _ _ _ (λx g=>f x<|by simp[g]) p a
def QK{n L F V:R}(s:0<n)(hF:L<=n*F)(o:0<F):∀(e:dX)(k d:R)(a:cK),(∀i∈e,z i<=V+1)->k*L/n+z a<=d->(a≠[]->d<(k+1)*L/n)->∀p∈kQ n L k d a e,z p<=F+V:=by
 intro e;induction e with
 |nil=>intro k d a _ _ _ p c;cases c
 |cons i e l=>
  intro k d a f t m p c;have r:=f i (by simp);have g:(k+1)*L/n<=k*L/n+F:=by
   have:(k+1)*L<=k*L+n*F:=by rw[xe,Nat.one_mul];omega
   exact aF (Nat.div_le_div_right this)<|Nat.le_of_eq<|Nat.add_mul_div_left _ _ s
  rw[pC]at c;split at c
  .rename_i j;rcases aD.1 c with rfl|c
   .rw[af];by_cases b:a=[]
    .rw[b];simp;omega
    .have:=m b;omega
   .exact l (k+1) (d+z i) [] (λx h=>f x<|by simp[h]) (by simpa using j) (λq=>absurd rfl q) p c
  .rename_i j;exact l k (d+z i) (a++i) (λx h=>f x<|by simp[h]) (by rw[af];omega) (λ_=>by omega) p c
def Nx:∀(f:dX)(o h:R)(d:cK),f.Pairwise gZ->(∀r∈f,gZ d r)->(kQ b c o h d f).Pairwise gZ/\∀p∈kQ b c o h d f,∀x∈p,x∈d\/x∈f.flatten:=by
 intro f;induction f with
 |nil=>intro o h d _ _;exact⟨List.Pairwise.nil,λp g=>by cases g⟩
 |cons r f u=>
  intro o h d g t;obtain⟨v,w⟩:=bA.1 g;rw[pC];split
  .obtain⟨n,l⟩:=u (o+1) (h+z r) [] w (λ_ _ x a=>by cases a);refine⟨bA.2 ⟨λq y x a e k=>?_,n⟩,λp g x a=>?_⟩
   .have m:e∈f.flatten:=(l q y e k).resolve_left (by simp);obtain⟨s,i,j⟩:=bC.1 m;rcases ap.1 a with a|a
    .exact t s (by simp[i]) x a e j
    .exact v s i x a e j
   .rcases aD.1 g with rfl|g
    .rcases ap.1 a with a|a
     .exact .inl a
     .exact .inr<|by simp[a]
    .exact .inr (by rw[aX];exact ii _<|(l p g x a).resolve_left<|by simp)
  .obtain⟨n,l⟩:=u o (h+z r) (d++r) w (λs i x a e k=>by
    rcases ap.1 a with a|a
    .exact t s (by simp[i]) x a e k
    .exact v s i x a e k)
   refine⟨n,λp g x a=>?_⟩;rcases l p g x a with q|q
   .rcases ap.1 q with q|q
    .exact .inl q
    .exact .inr<|by simp[q]
   .exact .inr (by rw[aX];exact ii _ q)
def Jd(a:cD Y)(r:dS e)(l:∀x∈e,∀j∈e,x.key=j.key):∀p:Option E,dS (p.toList++e)->(∀q∈p,∀x∈e,q.key=x.key)->z (kV a p e)<=z (a.filter (λm=>match p with|none=>bX|some q=>decide<|m<q.bK))+(if p=none then 1 else 0):=by
 induction e with
 |nil=>intro p _ _;simp[kV]
 |cons b s g=>
  intro p o f;have g:=g (r.sub<|qe _ _) (λe a f k=>l e (by simp[a]) f<|by simp[k]) (M b) r (λq c x d=>by cases c;exact l _ (by simp) x<|by simp[d]);simp only[reduceCtorEq,jT,ju]at g;rw[pa];cases p with
  |none=>
   have c:pN a none b=bX:=rfl;rw[dt c];simp only[aC,iO];have d:z (a.filter<|λm=>decide<|m<b.bK)<=z (a.filter<|λ_=>bX):=by rw[fh.2<|λ_ _=>rfl];exact fB _ _
   have h:z (kV a (M b) s)<=z (a.filter<|λm=>decide<|m<b.bK):=g;exact Nat.succ_le_succ<|aF h d
  |some q=>
   have k:b.bK<q.bK:=by
    rcases jl.1 ((bR.1 o).2.2 q (by simp) b<|by simp)with d|⟨_,d⟩
    .rw[f q rfl b (by simp),fD]at d;cases d
    .exact d
   have h:z (kV a (M b) s)<=z (a.filter<|λm=>decide<|m<b.bK):=g;simp only[reduceCtorEq,jT,ju];show _<=z (a.filter<|λm=>decide<|m<q.bK);have c:∀a:cD Y,z (a.filter<|λm=>decide<|m<b.bK)+z (a.filter<|λm=>decide (b.bK<=m)&&decide (m<q.bK))=z (a.filter<|λm=>decide<|m<q.bK):=by
    intro a;induction a with
    |nil=>rfl
    |cons m a d=>
     simp only[List.filter_cons];by_cases c1:m<b.bK
     .have c2:m<q.bK:=by omega
      have c3:¬b.bK<=m:=by omega
      simp[c1,c2,c3]at d|-;omega
     .have c3:b.bK<=m:=by omega
      by_cases c2:m<q.bK
      .simp[c1,c2,c3]at d|-;omega
      .simp[c1,c2,c3]at d|-;omega
   have t:=c a;split
   .rename_i n;simp only[pN,f q rfl b (by simp),mR,uu,yY]at n;have:0<z (a.filter<|λm=>decide (b.bK<=m)&&decide (m<q.bK)):=by
     obtain⟨m,d,i⟩:=ji.1 n;exact vK<|de.2 ⟨d,i⟩
    simp only[aC];omega
   .omega
def Vv{l:cD S}{p:S->Bool}(k:l.Pairwise (λi j=>p j=bX->p i=bX)):l.take (l.countP p)=l.filter p/\l.drop (l.countP p)=l.filter (λx=>!p x):=by
 induction l with
 |nil=>simp
 |cons x r h=>
  obtain⟨d,e⟩:=bA.1 k;obtain⟨f,g⟩:=h e;cases hx:p x with
  |true=>
   rw[uW hx,eW hx,dl<|by simp[hx]];exact⟨by simp[f],by simp[g]⟩
  |false=>
   have m:∀a∈r,p a=bF:=λa b=>by
    cases c:p a with
    |false=>rfl
    |true=>rw[d a b c]at hx;cases hx
   rw[sk.2 (λa b=>by rcases aD.1 b with rfl|b<;>simp[*])];refine⟨?_,?_⟩
   .rw[gU.2 (λa b=>by rcases aD.1 b with rfl|b<;>simp[*])];rfl
   .rw[fh.2 (λa b=>by rcases aD.1 b with rfl|b<;>simp[*])];rfl
def ly(l:cK)(e:E):R:=l.countP<|λx=>ahead x e
def IX(l:cK)(e:E):ly l e<=z l:=List.countP_le_length
def dS.cut(h:dS e)(a:E):e.take (ly e a)=e.filter (λx=>ahead x a)/\e.drop (ly e a)=e.filter (λx=>!ahead x a):=Vv<|h.imp λ{_ _}q c=>ur q c
def dS.mono(h:dS e){i j:R}(a:i<=j)(g:j<z e)(c:ahead e[j] w=bX):ahead (e[i]'(by omega)) w=bX:=by
 rcases lu a with d|d;exact ur (cG.1 h i j (by omega) g d) c;subst d;exact c
def Wv(j:b<=z e)(f:∀t(h:t<z e),t<b->ahead e[t] w=bX)(g:∀t(h:t<z e),b<=t->ahead e[t] w=bF):ly e w=b:=by
 unfold ly;rw[<-ci b e,List.countP_append];have k:(e.take b).countP (λx=>ahead x w)=b:=by rw[List.countP_eq_length.2];simp;omega;intro x d;obtain⟨i,c,rfl⟩:=dY d;rw[gB];(have a:i<b/\i<z e:=by simp at c;omega);exact f i a.2 a.1
 have l:(e.drop b).countP (λx=>ahead x w)=0:=by rw[sk];intro x d;obtain⟨i,c,rfl⟩:=dY d;rw[nD];(have a:i<z e-b:=by simpa using c);rw[g (b+i) (by omega)<|by omega];simp
 omega
def OQ(t:dS e)(k v:ab)(j:Bool)(d:Y):iH d e k=if h:∃g:ly e ⟨k,v,j,d⟩<z e,e[ly e ⟨k,v,j,d⟩].key=k then M (e[ly e ⟨k,v,j,d⟩]'h.1)else none:=by
 induction e with
 |nil=>simp[iH]
 |cons x r i=>
  obtain⟨m,n⟩:=bA.1 t;have i:=i n;unfold iH at i|-;cases ha:ahead x ⟨k,v,j,d⟩with
  |true=>
   have g:ly (x::r) ⟨k,v,j,d⟩=ly r ⟨k,v,j,d⟩+1:=uW (p:=λx=>ahead x ⟨k,v,j,d⟩) ha;have l:(decide (x.key=k)&&decide (x.bK<=d))=bF:=by
    rcases jl.1 ha with h|⟨h,c2⟩
    .simp[oF h]
    .have:¬x.bK<=d:=by simp at c2;omega
     simp[this]
   rw[List.find?_cons_of_neg (by simpa using l),i];simp[g]
  |false=>
   have g:ly (x::r) ⟨k,v,j,d⟩=0:=by
    refine sk.2 λa b=>?_;rcases aD.1 b with rfl|b
    .simp[ha]
    .have:=we ha<|lV<|m a b;simp[this]
   obtain⟨o,s⟩:=nt ha;by_cases c:x.key=k
   .have f:=s c;rw[List.find?_cons_of_pos (by simp[c];exact f)];simp[g,c]
   .have l:∀a∈x::r,a.key≠k:=by
     intro a b;have f:im k x.key=bX:=by
      cases h:im k x.key with
      |true=>rfl
      |false=>exact absurd (oq o h) c
     rcases aD.1 b with rfl|b
     .exact c
     .intro h;rcases jl.1 (m a b)with q|⟨q,_⟩
      .rw[h]at q;rw[lQ q]at f;cases f
      .exact c<|q.trans h
    rw[mX.2<|λa b=>by simp[l a b]];simp[g,c]
def Rp(h:dS e)(a v:ab)(f:Bool)(b:∀x∈e,x.bK<=m):e.drop (ly e ⟨a,v,f,m⟩)=fX a e:=by
 rw[(h.cut _).2];refine tW λx d=>?_;congr 1;rw[wC,jl];constructor;rintro(c|⟨_,c⟩);exact c;have:=b x d;simp at c;omega;exact .inl
def Qs(j:dS e)(b:E)(d:ly e b<z e)(h:e[ly e b].key=b.key)(f:e[ly e b].bK=b.bK):e.set (ly e b) b=lH e b:=by
 unfold lH;rw[jn,dt d,(j.cut b).1];congr 2;have g:=(j.cut b).2;rw[bH d]at g;have n:dS (e[ly e b]::e.drop (ly e b+1)):=by rw[<-bH d];exact j.sub<|kI _ _
 have k:=(bA.1 n).1;have l:ahead b e[ly e b]=bF:=by unfold ahead;simp[h,f,fD]
 have m:∀a,ahead e[ly e b] a=ahead b a:=λa=>by unfold ahead;rw[h,f]
 generalize e[ly e b]=p at*
 have i:e.filter (λx=>ahead b x)=(e.filter<|λx=>!ahead x b).filter (λx=>ahead b x):=by
  rw[List.filter_filter];refine tW λx _=>?_;cases c:ahead b x with
  |true=>simp[lV c]
  |false=>simp
 rw[i,<-g,dl (by simp[l]),fh.2];intro a o;rw[<-m];exact k a o
def Qu(h:dS e)(a:E)(b:∀x∈e,¬(x.key=a.key/\x.bK=a.bK)):e.take (ly e a)++a::e.drop (ly e a)=lH e a:=by
 unfold lH;rw[(h.cut a).1,(h.cut a).2];congr 2;refine tW λx d=>?_;cases c:ahead a x with
 |true=>simp[lV c]
 |false=>
  have:=yP c<|λq=>b x d ⟨q.1,q.2⟩;simp[this]
def dS.Yo(m:dS e)(a:E)(n:∀d:ly e a<z e,¬(e[ly e a].key=a.key/\e[ly e a].bK=a.bK)):∀x∈e,¬(x.key=a.key/\x.bK=a.bK):=by
 rintro x p⟨g,f⟩;have i:ahead x a=bF:=by unfold ahead;simp[g,f,fD]
 have b:x∈e.drop (ly e a):=by rw[(m.cut a).2];simp[p,i]
 have d:ly e a<z e:=by rcases dK (ly e a) (z e)with l|l;exact l;rw[qh l]at b;cases b
 have k:=(m.cut a).2;rw[bH d]at b k;have j:ahead e[ly e a] a=bF:=by(have:e[ly e a]∈e.filter (λx=>!ahead x a):=by rw[<-k];exact dC);simpa using(de.1 this).2
 have o:dS (e[ly e a]::e.drop (ly e a+1)):=by rw[<-bH d];exact m.sub<|kI _ _
 have h:=n d;generalize e[ly e a]=c at*;rcases aD.1 b with rfl|b;exact h ⟨g,f⟩;have:=(bA.1 o).1 x b;(have l:ahead c x=ahead c a:=by unfold ahead;rw[g,f]);rw[l,j]at this;cases this
def dS.UN(h:dS e)(a:b<=c)(f:c<z e):im e[c].key (e[b]'(by omega)).key=bF:=by
 rcases lu a with d|d;exact(nt<|lV<|cG.1 h b c (by omega) f d).1;subst d;exact fD _
def dS.Dm(h:dS e)(a:0<z e)(b:w∈e):im (e[z e-1]'(by omega)).key w.key=bF:=by
 obtain⟨i,c,rfl⟩:=dY b;exact h.UN (by omega)<|by omega
def dS.xW(h:dS e)(a:0<z e)(c:w∈e):im w.key (e[0]'a).key=bF:=by
 obtain⟨i,b,rfl⟩:=dY c;exact h.UN (bB i) b
def zh(b:Y)(l s:cK)(k:ab):iH b (l++s) k=(iH b l k).or (iH b s k):=List.find?_append
def rC{l:cK}(h:∀x∈l,x.key≠v):iH m l v=none:=mX.2<|λx a=>by simp[h x a]
def AO{cs:dX}{k:ab}{i:R}(g:i<z cs)(r:∀x∈cs.flatten,x.key=k->∃f:i<z cs,x∈cs[i])(n:cs.Pairwise gZ)(p:Y):iH p cs.flatten k=iH p cs[i] k:=by
 have q:cs.flatten=(cs.take i).flatten++(cs[i]++(cs.drop<|i+1).flatten):=by(conv=>lhs;rw[<-ci i cs,bH g]);rw[dQ,aX]
 have d:∀j(b:j<z cs),j≠i->∀x∈cs[j],x.key≠k:=by intro j b h x c o;obtain⟨_,e⟩:=r x (bC.2 ⟨_,ar b,c⟩) o;rcases Nat.lt_or_gt_of_ne h with m|m;have:=cG.1 n j i b g m x c x e;rw[fD]at this;cases this;have:=cG.1 n i j g b m x e x c;rw[fD]at this;cases this
 rw[q,zh,zh,rC,rC (l:=(cs.drop<|i+1).flatten)];simp;intro x c;obtain⟨m,f,a⟩:=bC.1 c;obtain⟨j,b,rfl⟩:=dY f;rw[nD]at a;exact d _ _ (by omega) x a;intro x c;obtain⟨m,f,a⟩:=bC.1 c;obtain⟨j,b,rfl⟩:=dY f;rw[gB]at a;exact d _ _ (by simp at b;omega) x a
def nV:R->dX->cD (R×cK)
 |_,[]=>[]
 |n,g::a=>(n,g)::nV (n+z g) a
def iq(a:cD (R×cK)):cK:=(a.map (·.2)).flatten
def BH:∀(n:R)(a:dX),(nV n a).map (·.2)=a
 |_,[]=>rfl
 |n,g::a=>by rw[nV,aZ,BH]
def AM(l:cK):iq (nV 0<|io l)=l:=by unfold iq;rw[BH,pO]
def yI:∀(b:dX)(k n:R)(a:cD (R×cK))(g:cK),(a++[(n,g)])<+:nV k b->n=k+z (iq a)/\(a.map (·.2)++[g])<+:b
 |[],k,n,a,g,h=>by
  have:=h.length_le;simp[nV]at this
 |g0::b,k,n,a,g,h=>by
  rw[nV]at h;cases a with
  |nil=>
   obtain⟨s,c⟩:=h;simp at c;obtain⟨⟨rfl,rfl⟩,c⟩:=c;exact⟨by simp[iq],by simp⟩
  |cons p a=>
   rw[cC,List.cons_prefix_cons]at h;obtain⟨e,f⟩:=h;obtain⟨c,d⟩:=yI b _ n a g f;subst e;refine⟨?_,?_⟩
   .rw[c];simp[iq];omega
   .simp[d]
structure Nb(l p g s:cK):Prop where
 all:l=p++g++s
 ne:g≠[]
 same:∀x∈g,∀yqq∈g,x.key=yqq.key
 low:gZ p g
 vt:gZ g s
def Jq(m:dS e){a:cD (R×cK)}(r:(a++[(b,K)])<+:nV 0 (io e)):b=z (iq a)/\∃s,Nb e (iq a) K s:=by
 obtain⟨q,t,i⟩:=yI _ _ _ _ _ r;have h:=BG m;have k:K∈io e:=by rw[<-i];simp
 have j:=pO e;rw[<-i]at h j;rw[aW]at h;obtain⟨_,n,o⟩:=bR.1 h;refine⟨by omega,t.flatten,⟨by rw[<-j];simp[iq],Do e K k,yH e K k,λx d c f=>?_,λx d c f=>?_⟩⟩;obtain⟨l,g,d⟩:=bC.1 d;exact o l g K (by simp) x d c f;obtain⟨l,g,f⟩:=bC.1 f;(have p:(K::t).Pairwise gZ:=by simpa using n);exact(bA.1 p).1 l g x d c f
def tF(a:cD (R×cK))(n:R)(g:cK):iq (a++[(n,g)])=iq a++g:=by simp[iq]
def gZ.ne(h:gZ e K):∀a∈e,∀b∈K,a.key≠b.key:=λa c b d=>oF<|h a c b d
def Nb.Ly{g s:cK}(h:Nb e K g s)(a:cD Y):dV a (K++g)=dV a K++dV a g:=Cx a K g<|λd b f c=>h.low.ne d (List.mem_of_getLast? b) f<|List.mem_of_head? c
def Nb.bare{g s:cK}(h:Nb e K g s):iw (K++g)=iw K++ve g:=by rw[MO K g h.low.ne,VJ h.same]
def Oq(a:cD Y)(l:cK)(x:E):∀p:Option E,kV a p (l++[x])=kV a p l++(if pN a ((p.toList++l).getLast?) x then [x]else []):=by
 induction l with
 |nil=>intro p;cases p<;>simp[kV]
 |cons e r b=>
  intro p;rw[cC,pa,pa,b<|M e];have:(p.toList++e::r).getLast?=((M e).toList++r).getLast?:=by cases p with
   |none=>rfl
   |some q=>exact uT
  rw[this];split<;>simp
def wanted(a:cD Y)(g:cK)(i:R)(h:i<z g):Bool:=decide (i=0)||a.any (λm=>decide (g[i].bK<=m)&&decide (m<(g[i-1]'(by omega)).bK))
def RD{ms:cD Y}(d:∀x∈e,∀a∈e,x.key=a.key)(h:b<z e):dV ms (e.take<|b+1)=dV ms (e.take b)++(if wanted ms e b h then [e[b]]else []):=by
 rw[ak h];unfold dV;rw[Oq];congr 2;simp only[Option.toList_none,cJ];cases b with
 |zero=>simp[pN,wanted]
 |succ b=>
  have f:(e.take<|b+1).getLast?=M e[b]:=by
   have c:b<z e:=by omega
   rw[ak c];simp only[List.getLast?_append,List.getLast?_singleton,Option.some_or]
  rw[f];have:=d e[b] (ar _) e[b+1]<|ar _;simp[pN,wanted,this]
def Qw(f:b<=z e)(h:ve e=ve (e.take b))(c:b=0\/∃h:b-1<z e,e[b-1].del=bF):ve e=e.take b:=by
 rw[h];rcases c with rfl|⟨d,a⟩;simp[ve]
 .cases b with
  |zero=>simp[ve]
  |succ b=>
   rw[ak (by omega),GB];simp only[sP]at a;simp[a]
def Qx(c:b<z e)(a:e[b].del=bX):ve (e.take<|b+1)=ve (e.take b):=by
 rw[ak c,GB,dt a]
def rm(n:R)(l:cK):Prop:=∀k,z (l.filter<|λx=>decide<|x.key=k)<=n
def rm.sub(h:rm b K)(s:e.Sublist K):rm b e:=λk=>aF (s.filter _).length_le<|h k
def rm.mono(h:rm c e)(a:c<=g):rm g e:=λk=>aF (h k) a
def rm.nil(n:R):rm n []:=λ_=>bB _
def rm.keys(h:rm b e):∀g∈io e,z g<=b:=by
 intro g c;have d:g.Sublist e:=by have:=cW c;rwa[pO]at this
 cases g with
 |nil=>exact bB _
 |cons f r=>
  have a:=h.sub d f.key;rw[fh.2<|λx d=>by simpa using yH e _ c x d f (by simp)]at a;exact a
def Lx(c:cD Y):∀a:dX,a.Pairwise gZ->dV c a.flatten=(a.map<|dV c).flatten:=by
 intro a;induction a with
 |nil=>intro _;rfl
 |cons m a i=>
  intro l;obtain⟨d,e⟩:=bA.1 l;rw[aX,aZ,aX,<-i e];refine Cx c _ _<|λj f k g=>?_;obtain⟨q,h,b⟩:=bC.1<|List.mem_of_mem_head? g;exact oF<|d q h j (List.mem_of_mem_getLast? f) k b
def yt{a:cD Y}(p:dS e):rm (z a+1) (dV a e):=by
 have o:=BG p;have n:=yH e;have b:∀g∈io e,dS g:=λg a=>p.sub (by have:=cW a;rwa[pO]at this);intro t;rw[<-pO e,Lx a _ o];generalize io e=f at*;induction f with
 |nil=>simp
 |cons g f l=>
  obtain⟨v,w⟩:=bA.1 o;have l:=l w (λq c=>n q<|by simp[c]) (λq c=>b q<|by simp[c]);rw[aZ,aX,je,af];by_cases s:∃x∈g,x.key=t
  .obtain⟨x,y,i⟩:=s;have u:(f.map<|dV a).flatten.filter (λx=>decide<|x.key=t)=[]:=by
    rw[gU];intro d j;obtain⟨q,c,k⟩:=bC.1 j;obtain⟨r,h,rfl⟩:=bz.1 c;have:=oF<|v r h x y d<|(jy a r).subset k;simp only[js];intro s;exact this<|i.trans s.symm
   rw[u];have m:=Jd a (b g<|by simp) (n g<|by simp) none (by simpa using b g (by simp)) (λq c=>by cases c);have A:=fB (λx=>decide<|x.key=t)<|dV a g;have B:z (a.filter<|λ_=>bX)<=z a:=fB _ _;simp only[iO]at m;have C:z (dV a g)<=z (a.filter<|λ_=>bX)+1:=m;simp only[cS,ju];omega
  .have u:(dV a g).filter (λx=>decide<|x.key=t)=[]:=by
    rw[gU];intro d j;simp only[js];intro q;exact s ⟨d,(jy a g).subset j,q⟩
   rw[u];simpa using l
def uE(L:R):R:=(L+95)/96
def gR(l:cK):dX:=kQ (uE<|z l) (z l) 0 0 []<|io l
def zI(h:e≠[]):0<uE (z e):=by
 have:=gJ.2 h;unfold uE;omega
def vX(l:cK):(gR l).flatten=l:=by
 by_cases c:l=[];subst c;rfl;have h:=Ny (n:=uE<|z l) (L:=z l) (zI c) (io l) 0 0 [] (by rw[pO];simp) (.inl<|zI c)<|λq=>absurd rfl q;rw[pO]at h;simpa[gR]using h
def Eu(l:cK):∀p∈gR l,p≠[]:=KB _ _ _ _<|Do l
def Bx(h:K∈gR e):K.Sublist e:=by
 have:=cW h;rwa[vX]at this
def Et(h:dS e):(gR e).Pairwise gZ:=(Nx _ _ _ _ (BG h)<|λ_ _ x a=>by cases a).1
def Rr(h:rm 5 e):∀p∈gR e,z p<=100:=by
 by_cases c:e=[];subst c;intro p a;cases a;(have a:z e<=uE (z e)*96:=by unfold uE;omega);exact QK (F:=96) (V:=4) (zI c) a (by omega) _ 0 0 [] h.keys (by simp)<|λq=>absurd rfl q
def CD{ps:dX}(h:∀p∈ps,p≠[]):z ps<=z ps.flatten:=by
 induction ps with
 |nil=>exact ai _
 |cons p r b=>
  have a:=gJ.2 (h p<|by simp);have c:=b (λq a=>h q<|by simp[a]);simp only[aX,af,aC];omega
def xG(l:cK):z (gR l)<=z l:=by
 have:=CD<|Eu l;rwa[vX]at this
def zO(l:cK):∀a,(nA a l).Sublist l:=by
 induction l with
 |nil=>intro a;exact List.Sublist.slnil
 |cons e r b=>
  intro a;unfold nA;split
  .exact(b _).cons _
  .exact(b _).cons_cons _
def Vd(b:ab)(a:dX):z (a.map<|fX b).flatten<=z a.flatten:=by
 induction a with
 |nil=>simp
 |cons r a c=>
  have h:z (fX b r)<=z r:=fB _ _;simp only[aZ,aX,af];omega
def WR(h:ri k v=M w):w.key=v:=by
 unfold ri at h;obtain⟨r,_,a⟩:=qg h;have:=rZ a;simpa using this
def PY(h:ri k v=M w):w∈k.flatten:=by
 unfold ri at h;obtain⟨r,b,a⟩:=qg h;exact bC.2 ⟨r,b,jR a⟩
def Sp(h:∀r∈k,r=[])(d:ab):ri k d=none:=by
 cases c:ri k d with
 |none=>rfl
 |some e=>
  obtain⟨r,b,a⟩:=bC.1<|PY c;rw[h r b]at a;cases a
abbrev KV:=ab×ab
abbrev iI:=cD KV
def qB(p:KV):jd:=[aj p.1,aj p.2]
def ik(l:cD KV):jd:=l.flatMap qB
def oo(l:cD KV)(i:R)(h:i<z l):(ik l)[i*2]?=M (aj l[i].1)/\(ik l)[i*2+1]?=M (aj l[i].2):=by
 induction l generalizing i with
 |nil=>simp at h
 |cons p r a=>
  cases i with
  |zero=>simp[ik,qB]
  |succ i=>
   have:=a i (by simpa using h);have e:(i+1)*2=i*2+2:=by omega
   rw[e];simpa[ik,qB]using this
def Row(w:I)(c:R)(v:aa)(n:R)(d:jd):Prop:=z d=n*c/\((v=aG/\n=0)\/∃e a b,v=bE e a n b/\n<=b/\∀j u,d[j]?=M u->aS w (U e<|a+j)=M u)
def jq(w:I)(v:aa)(l:cD KV):Prop:=Row w 2 v (z l)<|ik l
def Fa:(prog.info? 69).map (λi=>(i.zero,i.size,i.bytes))=M (M<|eB #[aj ⟨#[]⟩,aj ⟨#[]⟩],2,32):=by kernel_rfl
def Np(h:v.toList=W.toList):v=W:=by
 rw[oz,oz]at h;exact bytes_inj h
def zH(h:¬v=W):(v.toList==W.toList)=bF:=by
 rw[kT];exactλe=>h<|Np e
def Fe(a k:ab):Bool:=!Op.bytesLess a.toList k.toList
def fV(k v:ab)(a:cD KV×Bool)(p:KV):cD KV×Bool:=let b:=if !a.2&&Fe p.1 k then a.1++[(k,v)]else a.1;(if p.1=k then b else b++[p],a.2||Fe p.1 k)
def qo(k v:ab)(d:Bool)(l:cD KV):cD KV×Bool:=l.foldl (fV k v) ([],d)
def vU(l:cD KV)(k v:ab)(d:Bool):cD KV:=if(qo k v d l).2 then(qo k v d l).1 else(qo k v d l).1++[(k,v)]
def NF(k v:ab)(d:Bool)(l:cD KV)(n:R)(h:n<z l):qo k v d (l.take<|n+1)=fV k v (qo k v d<|l.take n) l[n]:=by
 unfold qo;rw[ak h,iQ];rfl
def DW(k v:ab)(a:cD KV×Bool)(p:KV):z (fV k v a p).1<=z a.1+2:=by
 unfold fV;simp only;split<;>split<;>simp<;>omega
def GH{b c:ab}{a:cD KV}(h:b=v):fV v W (a,bX) (b,c)=(a,bX):=by simp[fV,h]
def GG{b c:ab}{a:cD KV}(h:¬b=v):fV v W (a,bX) (b,c)=(a++[(b,c)],bX):=by simp[fV,h]
def QF{b d:ab}{a:cD KV}(c:Op.bytesLess b.toList v.toList=bX)(h:b=v):fV v W (a,bF) (b,d)=(a,bF):=by
 unfold fV Fe;simp only[c];simp[h]
def QE{b c:ab}{a:cD KV}(d:Op.bytesLess b.toList v.toList=bX)(h:¬b=v):fV v W (a,bF) (b,c)=(a++[(b,c)],bF):=by
 unfold fV Fe;simp only[d];simp[h]
def QH{b d:ab}{a:cD KV}(c:Op.bytesLess b.toList v.toList=bF)(h:b=v):fV v W (a,bF) (b,d)=(a++[(v,W)],bX):=by
 unfold fV Fe;simp only[c];simp[h]
def QG{b c:ab}{a:cD KV}(d:Op.bytesLess b.toList v.toList=bF)(h:¬b=v):fV v W (a,bF) (b,c)=(a++[(v,W)]++[(b,c)],bX):=by
 unfold fV Fe;simp only[d];simp[h]
def IJ(k v:ab)(d:Bool)(l:cD KV):z (qo k v d l).1<=2*z l:=by
 unfold qo
 have:∀(l:cD KV)(a:cD KV×Bool),z (l.foldl (fV k v) a).1<=z a.1+2*z l:=by
  intro l;induction l with
  |nil=>intro a;simp
  |cons p r b=>intro a;simp only[fU,aC];have:=b<|fV k v a p;have:=DW k v a p;omega
 simpa using this l ([],d)
def ja(a b:cD KV):ik (a++b)=ik a++ik b:=by simp[ik]
def jk(h:a.ownsRow b c g d l x)(e:f.heap=a.heap):f.ownsRow b c g d l x:=by
 unfold World.ownsRow at*;rw[e];exact h
def kF{h wr W c:I}(f:Below b h wr)(a:b<=G (H wr))(i:eY W c d t)(O:Obj)(e:(W.os,W.tape,W.output,W.heap)=((cF wr O).os,(cF wr O).tape,(cF wr O).output,(cF wr O).heap))(g:∀k,bY d=M k->b<=k):Below b h c:=(Below.of_heap (f.alloc a O) e).grown i.grown (by simp only[hZ]at e;rw[e.2.2.2];simp;omega) g
def py(w:I)(a:R)(o:aa)(l:cD KV):Prop:=w.ownsRow a 69 2 o (z l)<|ik l
def py.of{l:cD KV}(h:a.ownsRow b 69 2 d c x)(e:c=z l)(f:x=ik l):py a b d l:=by subst e;subst f;exact h
def lZ(w:I)(x a:aa)(t:TypeId):∀j u,[x,a][j]?=M u->aS (cF w<|aw #[x,a] t) (((U (G<|H w) 0):Addr).add j)=M u:=by
 intro j u b;rw[dB];unfold World.cell?;rw[fG];simpa using b
def TI(p:cD KV)(an b ao:R)(k v:ab)(P:Bool)(w:I)(hr:z p<=1000000000000)(N:∀j,j<z p->aS w (U an<|b+j*2)=M (aj (p[j]?.getD (⟨#[]⟩,⟨#[]⟩)).1)/\aS w (U an<|b+j*2+1)=M (aj (p[j]?.getD (⟨#[]⟩,⟨#[]⟩)).2))(hb:an<G (H w)):cA bG 74 #[bE an b (z p) ao,eB #[aj k,aj v,aO P]] w λbi w'=>∃v',bi=aP v'/\py w' (G (H w)+1) v' (vU p k v P)/\Below (G<|H w) w w':=by
 obtain⟨i0,hi,A,B,C⟩:=cL Fa;have HC:=Z N;clear N;go_in
 go_wp2;go_loopw [5,6,7] (λa bg j wr=>∃(o:R),o<=z p/\j=aq o/\bg=aO (qo k v P<|p.take o).2/\py wr (G (H w)+1) a (qo k v P<|p.take o).1/\Below (G (H w)+1) (cF w<|aw #[aj k,aj v,aO P] 113) wr) (λ_ _ j _=>z p-(intOf j).toNat)
 case atStart=>exact⟨0,bB _,rfl,rfl,bN _ _ _ _,Below.refl _ _⟩
 case round=>
  obtain⟨o,hn,rfl,rfl,m,c⟩:=hrel;have bd:aS wr (U (G<|H w) 0)=M (aj k):=by rw[c.cell<|by simp];simp
  have bf:aS wr (U (G<|H w) 1)=M (aj v):=by rw[c.cell<|by simp];simp
  have x:z (qo k v P<|p.take o).1<=2*o:=by have:=IJ k v P<|p.take o;simp at this;omega
  have L:G (H w)+1<=G (H wr):=by have:=c.size;simpa using this
  by_cases K:o<z p
  .have S:aS wr (U an<|b+o*2)=M (aj (p[o]?.getD (⟨#[]⟩,⟨#[]⟩)).1):=by rw[c.cell (by simp;omega),fE hb];exact(HC o K).1
   have T:aS wr (U an<|b+o*2+1)=M (aj (p[o]?.getD (⟨#[]⟩,⟨#[]⟩)).2):=by rw[c.cell (by simp;omega),fE hb];exact(HC o K).2
   have W:=Z<|NF k v P p o K;generalize qo k v P (p.take o)=D at*;obtain⟨V,q⟩:=D;have r:=Z m;have E:=Z c;clear m c;have av:p[o]?.getD (⟨#[]⟩,⟨#[]⟩)=p[o]:=by simp[K]
   rw[av]at S T;generalize p[o]=bg at*;obtain⟨g,F⟩:=bg;simp only at S T x;cases q with
   |true=>
    go_wp2_with fail
    go_quiet(fail)
    go_wp2_with fail
    by_cases i:g=k
    .have u:(g.toList==k.toList)=bX:=by rw[i];simp
     have l:=Z<|W.trans<|GH i;clear i;go_quiet(fail)
     go_wp2;go_roundw;case rel=>exact⟨o+1,by omega,by go_num,by rw[ae l],by rw[ae l];exact jk r rfl,Below.of_heap E rfl⟩
     case measure=>simp[intOf];omega
    .have u:(g.toList==k.toList)=bF:=zH i;have l:=Z<|W.trans<|GG i;clear i;go_quiet(fail)
     go_wp2_with(first
      |(at_builtin;refine bV _ rfl (.tmp 44) (.tmp 49) 38 rfl (G (H w)+1) 69 i0 (.agg #[.string ⟨#[]⟩,.string ⟨#[]⟩]) 2 32 underlying38 hi A B C rfl (by decide) _ _ _ rfl (jk (aU r (.cells #[.string g,.string F] 69)) ?chT) (U (G (H wr)) 0) 1 1 [.string g,.string F] rfl rfl ?c1T ?c2T ?c3T ?c4T ?c5T ?_))
     case chT=>rfl
     case c1T=>exact lZ _ _ _ _
     case c2T=>intro bh y;simp at y;rcases y with rfl|rfl<;>rfl
     case c3T=>first|omega|(simp;omega)
     case c4T=>first|omega|(simp;omega)
     case c5T=>simp;omega
     intro o2 X a e;have t:=Z a;have Q:=Z e;clear a e;go_wp2;go_roundw;case rel=>exact⟨o+1,by omega,by go_num,by rw[ae l],by rw[ae l];exact py.of t (by simp) (by simp[ja];rfl),kF E L Q (aw #[aj g,aj F] 69) rfl<|λN j=>(aI r N j).1⟩
     case measure=>simp[intOf];omega
   |false=>
    by_cases hL:Op.bytesLess g.toList k.toList=bX
    .have HG:=Z hL;go_wp2_with fail
     go_quiet(fail)
     go_wp2_with fail
     by_cases i:g=k
     .have u:(g.toList==k.toList)=bX:=by rw[i];simp
      have l:=Z<|W.trans<|QF HG i;clear i;go_quiet(fail)
      go_wp2;go_roundw;case rel=>exact⟨o+1,by omega,by go_num,by rw[ae l],by rw[ae l];exact jk r rfl,Below.of_heap E rfl⟩
      case measure=>simp[intOf];omega
     .have u:(g.toList==k.toList)=bF:=zH i;have l:=Z<|W.trans<|QE HG i;clear i;go_quiet(fail)
      go_wp2_with(first
       |(at_builtin;refine bV _ rfl (.tmp 44) (.tmp 49) 38 rfl (G (H w)+1) 69 i0 (.agg #[.string ⟨#[]⟩,.string ⟨#[]⟩]) 2 32 underlying38 hi A B C rfl (by decide) _ _ _ rfl (jk (aU r (.cells #[.string g,.string F] 69)) ?chL) (U (G (H wr)) 0) 1 1 [.string g,.string F] rfl rfl ?c1L ?c2L ?c3L ?c4L ?c5L ?_))
      case chL=>rfl
      case c1L=>exact lZ _ _ _ _
      case c2L=>intro bh y;simp at y;rcases y with rfl|rfl<;>rfl
      case c3L=>first|omega|(simp;omega)
      case c4L=>first|omega|(simp;omega)
      case c5L=>simp;omega
      intro o2 X a e;have t:=Z a;have Q:=Z e;clear a e;go_wp2;go_roundw;case rel=>exact⟨o+1,by omega,by go_num,by rw[ae l],by rw[ae l];exact py.of t (by simp) (by simp[ja];rfl),kF E L Q (aw #[aj g,aj F] 69) rfl<|λN j=>(aI r N j).1⟩
      case measure=>simp[intOf];omega
    .have au:Op.bytesLess g.toList k.toList=bF:=by simpa using hL
     clear hL;have HG:=Z au;go_wp2_with fail
     go_quiet(fail)
     go_wp2_with(first
      |(at_builtin;refine bV _ rfl (.tmp 28) (.tmp 34) 38 rfl (G (H w)+1) 69 i0 (.agg #[.string ⟨#[]⟩,.string ⟨#[]⟩]) 2 32 underlying38 hi A B C rfl (by decide) _ _ _ rfl (jk (aU r (.cells #[.string k,.string v] 69)) ?chY) (U (G (H wr)) 0) 1 1 [.string k,.string v] rfl rfl ?c1Y ?c2Y ?c3Y ?c4Y ?c5Y ?_))
     case chY=>rfl
     case c1Y=>exact lZ _ _ _ _
     case c2Y=>intro bh y;simp at y;rcases y with rfl|rfl<;>rfl
     case c3Y=>first|omega|(simp;omega)
     case c4Y=>first|omega|(simp;omega)
     case c5Y=>simp;omega
     intro o1 O f n;have d:Below (G (H w)+1) (cF w<|aw #[aj k,aj v,aO P] 113) O:=kF E L n (aw #[aj k,aj v] 69) rfl<|λN j=>(aI r N j).1;have ba:aS O (U (G<|H w) 0)=M (aj k):=by rw[d.cell<|by simp];simp
     have bb:aS O (U an<|b+o*2)=M (aj g):=by rw[d.cell (by simp;omega),<-(ae E).cell (by simp;omega)];exact S
     have bc:aS O (U an<|b+o*2+1)=M (aj F):=by rw[d.cell (by simp;omega),<-(ae E).cell (by simp;omega)];exact T
     have al:G (H w)+1<=G (H O):=by have:=d.size;simpa using this
     have ad:py O (G (H w)+1) o1 (V++[(k,v)]):=py.of f (by simp) (by simp[ja];rfl);have ax:z (V++[(k,v)])<=2*o+1:=by simp;omega
     have s:=Z ad;have ac:=Z d;clear f n d ad;go_wp2_with fail
     by_cases i:g=k
     .have u:(g.toList==k.toList)=bX:=by rw[i];simp
      have l:=Z<|W.trans<|QH HG i;clear i;go_quiet(fail)
      go_wp2;go_roundw;case rel=>exact⟨o+1,by omega,by go_num,by rw[ae l],by rw[ae l];exact jk s rfl,Below.of_heap ac rfl⟩
      case measure=>simp[intOf];omega
     .have u:(g.toList==k.toList)=bF:=zH i;have l:=Z<|W.trans<|QG HG i;clear i;go_quiet(fail)
      go_wp2_with(first
       |(at_builtin;refine bV _ rfl (.tmp 44) (.tmp 49) 38 rfl (G (H w)+1) 69 i0 (.agg #[.string ⟨#[]⟩,.string ⟨#[]⟩]) 2 32 underlying38 hi A B C rfl (by decide) _ _ _ rfl (jk (aU s (.cells #[.string g,.string F] 69)) ?chZ) (U (G (H O)) 0) 1 1 [.string g,.string F] rfl rfl ?c1Z ?c2Z ?c3Z ?c4Z ?c5Z ?_))
      case chZ=>rfl
      case c1Z=>exact lZ _ _ _ _
      case c2Z=>intro bh y;simp at y;rcases y with rfl|rfl<;>rfl
      case c3Z=>first|omega|(simp;omega)
      case c4Z=>first|omega|(simp;omega)
      case c5Z=>simp;omega
      intro o2 X a e;have t:=Z a;have Q:=Z e;clear a e;go_wp2;go_roundw;case rel=>exact⟨o+1,by omega,by go_num,by rw[ae l],by rw[ae l];exact py.of t (by simp) (by simp[ja];rfl),kF ac al Q (aw #[aj g,aj F] 69) rfl<|λN j=>(aI s N j).1⟩
      case measure=>simp[intOf];omega
  .have a:p.take o=p:=da (by omega);rw[a]at m x|-;have e:=Z<|show vU p k v P=if(qo k v P p).2 then(qo k v P p).1 else(qo k v P p).1++[(k,v)]from rfl;generalize qo k v P p=D at*;obtain⟨V,q⟩:=D;simp only at x;have r:=Z m;have E:=Z c;clear m c;have fin:∀X,Below (G (H w)+1) (cF w<|aw #[aj k,aj v,aO P] 113) X->Below (G<|H w) w X:=λX h=>((Below.refl _ w).alloc (ai _) _).trans (h.mono<|by omega);have d:=Z fin;clear fin;cases q with
   |true=>
    go_wp2;go_ret;exact⟨_,rfl,by rw[ae e];exact r,ae d _ E⟩
   |false=>
    go_wp2_with(first
     |(at_builtin;refine bV _ rfl (.tmp 53) (.tmp 59) 38 rfl (G (H w)+1) 69 i0 (.agg #[.string ⟨#[]⟩,.string ⟨#[]⟩]) 2 32 underlying38 hi A B C rfl (by decide) _ _ _ rfl (jk (aU r (.cells #[.string k,.string v] 69)) ?chX) (U (G (H wr)) 0) 1 1 [.string k,.string v] rfl rfl ?c1X ?c2X ?c3X ?c4X ?c5X ?_))
    case chX=>rfl
    try(case c1X=>exact lZ _ _ _ _)
    case c2X=>exact⟨rfl,rfl⟩
    case c3X=>omega
    case c4X=>omega
    case c5X=>omega
    intro o1 O f n;have s:=Z f;have Q:=Z n;clear f n;go_wp2;go_ret;exact⟨_,rfl,by rw[ae e];exact py.of s (by simp) (by simp[ja];rfl),ae d _<|kF E L Q (aw #[aj k,aj v] 69) rfl<|λN j=>(aI r N j).1⟩
def Wo(k v:ab)(m:Bool)(w:I):cA bG 74 #[aG,eB #[aj k,aj v,aO m]] w λA r=>∃q,A=aP q/\py r (G (H w)+1) q (vU [] k v m)/\Below (G<|H w) w r:=by
 obtain⟨y,t,i,j,l⟩:=cL Fa;go_in
 go_wp2;go_loopw [5,6,7] (λo p i wr=>i=aq 0/\p=aO m/\o=aG/\Below (G (H w)+1) (cF w<|aw #[aj k,aj v,aO m] 113) wr) (λ_ _ _ _=>0)
 case atStart=>exact⟨rfl,rfl,rfl,Below.refl _ _⟩
 case round=>
  obtain⟨rfl,rfl,rfl,a⟩:=hrel;have u:aS wr (U (G<|H w) 0)=M (aj k):=by rw[a.cell<|by simp];simp
  have x:aS wr (U (G<|H w) 1)=M (aj v):=by rw[a.cell<|by simp];simp
  have g:G (H w)+1<=G (H wr):=by have:=a.size;simpa using this
  have c:py wr (G (H w)+1) aG []:=bN _ _ _ _;have e:=Z c;have n:=Z a;clear c a;have fin:∀a,Below (G (H w)+1) (cF w<|aw #[aj k,aj v,aO m] 113) a->Below (G<|H w) w a:=λa h=>((Below.refl _ w).alloc (ai _) _).trans (h.mono<|by omega);have o:=Z fin;clear fin;cases m with
  |true=>
   go_wp2;go_ret;exact⟨_,rfl,e,ae o _ n⟩
  |false=>
   go_wp2_with(first
    |(at_builtin;refine bV _ rfl (.tmp 53) (.tmp 59) 38 rfl (G (H w)+1) 69 y (.agg #[.string ⟨#[]⟩,.string ⟨#[]⟩]) 2 32 underlying38 t i j l rfl (by decide) _ _ _ rfl (jk (aU e (.cells #[.string k,.string v] 69)) ?chX) (U (G (H wr)) 0) 1 1 [.string k,.string v] rfl rfl ?c1X ?c2X ?c3X ?c4X ?c5X ?_))
   case chX=>rfl
   try(case c1X=>exact lZ _ _ _ _)
   case c2X=>intro D p;simp at p;rcases p with rfl|rfl<;>rfl
   case c3X=>first|omega|(simp;omega)|simp
   case c4X=>first|omega|(simp;omega)|simp
   case c5X=>first|omega|(simp;omega)
   intro B C b d;have f:=Z b;have s:=Z d;clear b d;go_wp2;go_ret;exact⟨_,rfl,py.of f rfl rfl,ae o _<|kF n g s (aw #[aj k,aj v] 69) rfl<|λb a=>(aI e b a).1⟩
def dr(j:a.ownsRow c g l d y x):Row a l d y x:=by
 refine⟨j.1,?_⟩;rcases j.2 with⟨rfl,k⟩|⟨i,e,h,rfl,_,_,f,_⟩;exact .inl ⟨rfl,k⟩;refine .inr ⟨i,0,e,rfl,f,λn u m=>?_⟩;have:=j.cells (g:=i) rfl n u m;rwa[dB]at this
def py.Lp{l:cD KV}(h:py a b d l):jq a d l:=dr h
def Wp(l:cD KV)(k v:ab)(j:Bool)(p:jq a d l)(o:∀s,bY d=M s->s<G (H a))(q:z l<=1000000000000):cA bG 74 #[d,eB #[aj k,aj v,aO j]] a λt i=>∃h,t=aP h/\py i (G (H a)+1) h (vU l k v j)/\Below (G<|H a) a i:=by
 obtain⟨u,⟨rfl,m⟩|⟨r,b,c,rfl,n,f⟩⟩:=p;obtain rfl:l=[]:=aR m;exact Wo k v j a;refine TI l r b c k v j a q (λw e=>?_)<|o r rfl;have g:=oo l w e;refine⟨?_,?_⟩;rw[f _ _ g.1];simp[e];rw[aY,f _ _ g.2];simp[e]
structure Py where
 key:ab
 val:ab
 del:Bool
abbrev uN:=cD Py
variable{F:iI}
def oR(c:Py):jd:=[aj c.key,aj c.val,aO c.del]
def eX(l:cD Py):jd:=l.flatMap oR
def li(l:cD Py)(i:R)(h:i<z l):(eX l)[i*3]?=M (aj l[i].key)/\(eX l)[i*3+1]?=M (aj l[i].val)/\(eX l)[i*3+2]?=M (aO l[i].del):=by
 induction l generalizing i with
 |nil=>simp at h
 |cons p r a=>
  cases i with
  |zero=>simp[eX,oR]
  |succ i=>
   have:=a i (by simpa using h);have e:(i+1)*3=i*3+3:=by omega
   rw[e];simpa[eX,oR]using this
def ym(w:I)(v:aa)(l:cD Py):Prop:=Row w 3 v (z l)<|eX l
def wt:Bool->R
 |true=>0
 |false=>1
def DV(k v:ab)(a:iI×Bool)(p:KV):z (fV k v a p).1+wt (fV k v a p).2<=z a.1+wt a.2+1:=by
 obtain⟨c,q⟩:=a;obtain⟨b,d⟩:=p;cases q<;>cases hg:Fe b k<;>by_cases h:b=k<;>(simp only[fV,hg];simp[h,wt])
def KG(l:iI)(k v:ab)(d:Bool):z (vU l k v d)<=z l+1:=by
 have b:∀(l:iI)(a:iI×Bool),z (l.foldl (fV k v) a).1+wt (l.foldl (fV k v) a).2<=z a.1+wt a.2+z l:=by
  intro l;induction l with
  |nil=>intro a;simp
  |cons p r c=>intro a;simp only[fU,aC];have:=c<|fV k v a p;have:=DV k v a p;omega
 have h:=b l ([],d);have f:wt d<=1:=by cases d<;>simp[wt]
 simp only[cS]at h;unfold vU qo;split<;>rename_i e;omega;(have a:(List.foldl (fV k v) ([],d) l).2=bF:=by simpa using e);rw[a,show wt bF=1 from rfl]at h;rw[af];simp only[aC,cS];omega
def Tk(l:iI)(a:cD Py):iI:=a.foldl (λl c=>vU l c.key c.val c.del) l
def Vs(l:iI)(a:cD Py)(n:R)(h:n<z a):Tk l (a.take<|n+1)=vU (Tk l<|a.take n) a[n].key a[n].val a[n].del:=by
 unfold Tk;rw[ak h,iQ];rfl
def Fm(l:iI)(a:cD Py):z (Tk l a)<=z l+z a:=by
 unfold Tk;induction a generalizing l with
 |nil=>simp
 |cons c r b=>simp only[fU,aC];have:=b<|vU l c.key c.val c.del;have:=KG l c.key c.val c.del;omega
def Yd(c:cD Py)(A:jq a d F)(y:∀g,bY d=M g->g<G (H a))(hc:ym a t c)(m:∀g,bY t=M g->g<G (H a))(hr:z F+z c<=1000000000000):cA bG 46 #[d,t] a λal Q=>∃x,al=aP x/\jq Q x (Tk F c)/\(∀g,bY x=M g->g<G (H Q))/\(bY x=bY d\/∀g,bY x=M g->G (H a)<=g)/\Below (G<|H a) a Q:=by
 obtain⟨h1,⟨rfl,h0⟩|⟨T,e,ac,rfl,ad,s⟩⟩:=hc;(.obtain rfl:c=[]:=aR h0;have K:=Z A;have E:=Z y;clear A y m;(go_in);go_wp2;(go_loopw [0,5] (λS V wr=>V=aq 0/\S=d/\wr=a) (λ_ _ _=>0));(case atStart=>exact⟨rfl,rfl,rfl⟩);(case round=>obtain⟨rfl,rfl,rfl⟩:=hrel;go_wp2;go_ret;exact⟨_,rfl,K,E,.inl rfl,Below.refl _ _⟩))
 .have l:T<G (H a):=m T rfl;obtain⟨K,E,D⟩:=dI A y s;clear A y m s;go_in
  go_wp2;go_loopw [0,5] (λS V wr=>∃n:R,n<=z c/\V=aq n/\jq wr S (Tk F<|c.take n)/\(∀g,bY S=M g->g<G (H wr))/\(bY S=bY d\/∀g,bY S=M g->G (H a)<=g)/\Below (G<|H a) a wr) (λ_ V _=>z c-(intOf V).toNat)
  case atStart=>exact⟨0,bB _,rfl,K,E,.inl rfl,Below.refl _ _⟩
  case round=>
   obtain⟨n,hn,rfl,f,j,o,b⟩:=hrel;by_cases w:n<z c
   .have k:=li c n w;have L:aS wr (U T<|e+n*3)=M (aj c[n].key):=(b.cell<|by exact l).trans<|D _ _ k.1;have N:aS wr (U T<|e+n*3+1)=M (aj c[n].val):=(b.cell<|by exact l).trans (by rw[aY];exact D _ _ k.2.1);have O:aS wr (U T<|e+n*3+2)=M (aO c[n].del):=(b.cell<|by exact l).trans (by rw[aY];exact D _ _ k.2.2);have HS:=Z<|Vs F c n w;have v:z (Tk F<|c.take n)<=1000000000000:=by have:=Fm F<|c.take n;simp at this;omega
    obtain⟨B,C,p⟩:=dI f j b;clear k f j b o;generalize P:c[n]=ce at*;obtain⟨ck,cv,cd⟩:=ce;clear P;simp only at L N O;go_wp2_with(first
     |(go_at_call 74;refine(Wp _ ck cv cd B C v).mono ?_;rintro al X⟨W,rfl,i,q⟩))
    have r:Below (G<|H a) a X:=p.trans<|q.mono p.size;have u:∀g,bY W=M g->g<G (H X):=λg k=>(aI i g k).2;obtain⟨K1,K2,K3,K4⟩:=gD i.Lp r u (show∀g,bY W=M g->G (H a)<=g fromλg k=>by have:=(aI i g k).1;have:=p.size;omega);clear i q r u;go_wp2;go_roundw;case rel=>exact⟨n+1,by omega,by go_num,by rw[ae HS];exact K1,K3,.inr K4,K2⟩
    case measure=>simp[intOf];omega
   .have i:c.take n=c:=da (by omega);rw[i]at f;obtain⟨B,C,p,k⟩:=gD f j b o;clear f j b o;go_wp2;go_ret;exact⟨_,rfl,B,C,k,p⟩
def qA(l:iI)(k:ab):ab×Bool:=match l with
 |[]=>(⟨#[]⟩,bF)
 |p::r=>if p.1=k then(p.2,bX)else qA r k
def RO(h:b<z F)(e:F[b].1=v):qA (F.drop b) v=(F[b].2,bX):=by
 rw[bH h];simp[qA,e]
def Oy(h:b<z F)(e:¬F[b].1=v):qA (F.drop b) v=qA (F.drop<|b+1) v:=by
 rw[bH h];simp[qA,e]
def UB(k:ab)(x:jq a d F)(K:z F<=1000000000000):cA bG 104 #[d,aj k] a λD B=>D=aP (dE #[aj (qA F k).1,aO (qA F k).2])/\B=a:=by
 obtain⟨v,⟨rfl,u⟩|⟨C,b,t,rfl,w,q⟩⟩:=x;(.obtain rfl:F=[]:=aR u;(go_in);go_wp2;(go_loop [6] (λs=>s=aq 0) (λ_=>0));(case atStart=>rfl);(case round=>obtain rfl:=hrel;go_wp2;(go_ret2);exact⟨rfl,rfl⟩));(.have p:=Z q;clear q v;(go_in);go_wp2;(go_loop [6] (λs=>∃n:R,n<=z F/\s=aq n/\qA F k=qA (F.drop n) k) (λs=>z F-(intOf s).toNat));(case atStart=>exact⟨0,bB _,rfl,rfl⟩);(case round=>obtain⟨n,E,rfl,r⟩:=hrel;have i:=Z r;clear r;by_cases e:n<z F;(.have m:=oo F n e;have f:aS a (U C<|b+n*2)=M (aj F[n].1):=p _ _ m.1;(have g:aS a (U C<|b+n*2+1)=M (aj F[n].2):=by rw[aY];exact p _ _ m.2);clear m;by_cases c:F[n].1=k;(.have j:=Z<|i.trans<|RO e c;generalize F[n]=y at*;obtain⟨o,A⟩:=y;simp only at f g c;(have l:(o.toList==k.toList)=bX:=by rw[c];simp);clear c;go_wp2;(go_ret2);exact⟨by rw[ae j];rfl,rfl⟩);(.have j:=Z<|i.trans<|Oy e c;generalize F[n]=y at*;obtain⟨o,A⟩:=y;simp only at f g c;have l:(o.toList==k.toList)=bF:=zH c;clear c;go_wp2;(go_round);(case rel=>exact⟨n+1,by omega,by go_num,j⟩);case measure=>simp[intOf];omega));(have c:F.drop n=[]:=by simp;omega);go_wp2;(go_ret2);exact⟨by rw[ae i,c];rfl,rfl⟩))
def oP(m t:Y):Y:=if m<1\/32<m\/t<2\/6<t then 1 else 0
def Cu(m t:Y)(w:I):cA bG 27 #[aq m,aq t] w λe b=>e=aP (aq<|oP m t)/\b=w:=by
 by_cases c:m<1;(.have a:=Z (show oP m t=1 by unfold oP;rw[dt<|by omega]);(go_in);go_wp2;go_ret;exact⟨by rw[ae a];rfl,rfl⟩);by_cases d:32<m;(.have a:=Z (show oP m t=1 by unfold oP;rw[dt<|by omega]);(go_in);go_wp2;go_ret;exact⟨by rw[ae a];rfl,rfl⟩);by_cases f:t<2;(.have a:=Z (show oP m t=1 by unfold oP;rw[dt<|by omega]);(go_in);go_wp2;go_ret;exact⟨by rw[ae a];rfl,rfl⟩);by_cases g:6<t;(.have a:=Z (show oP m t=1 by unfold oP;rw[dt<|by omega]);(go_in);go_wp2;go_ret;exact⟨by rw[ae a];rfl,rfl⟩);have a:=Z (show oP m t=0 by unfold oP;rw[dh<|by omega]);(go_in);go_wp2;go_ret;exact⟨by rw[ae a];rfl,rfl⟩
def lU:uN->Y
 |[]=>0
 |c::r=>if c.key.size=0\/8<c.key.size then 3 else if c.del=bF/\16<c.val.size then 4 else lU r
def gd(a:uN):Y:=if 8<z a then 2 else lU a
def CQ{a:uN}(h:b<z a)(e:a[b].key.size=0\/8<a[b].key.size):lU (a.drop b)=3:=by
 rw[bH h,lU,dt e]
def CP{a:uN}(h:b<z a)(e:¬(a[b].key.size=0\/8<a[b].key.size))(f:a[b].del=bF/\16<a[b].val.size):lU (a.drop b)=4:=by
 rw[bH h,lU,dh e,dt f]
def Fv{a:uN}(h:b<z a)(e:¬(a[b].key.size=0\/8<a[b].key.size))(f:¬(a[b].del=bF/\16<a[b].val.size)):lU (a.drop b)=lU (a.drop<|b+1):=by
 rw[bH h,lU,dh e,dh f]
def Ih{b:uN}(N:ym a d b)(S:z b<=1000000000000):cA bG 45 #[d] a λP O=>P=aP (aq<|gd b)/\O=a:=by
 obtain⟨K,⟨rfl,F⟩|⟨D,c,E,rfl,L,x⟩⟩:=N;(.obtain rfl:b=[]:=aR F;(go_in);go_wp2;(go_loop [3] (λB=>B=aq 0) (λ_=>0));(case atStart=>rfl);(case round=>obtain rfl:=hrel;go_wp2;go_ret;exact⟨rfl,rfl⟩))
 .have r:=Z x;clear x K;by_cases w:8<z b
  .have s:=Z (show gd b=2 by unfold gd;rw[dt w]);go_in
   go_wp2;go_ret;exact⟨by rw[ae s];rfl,rfl⟩
  .have s:=Z (show gd b=lU b by unfold gd;rw[dh w]);go_in
   go_wp2;go_loop [3] (λB=>∃n:R,n<=z b/\B=aq n/\gd b=lU (b.drop n)) (λB=>z b-(intOf B).toNat)
   case atStart=>exact⟨0,bB _,rfl,s⟩
   case round=>
    obtain⟨n,Q,rfl,y⟩:=hrel;have p:=Z y;clear y;by_cases f:n<z b
    .have q:=li b n f;have k:aS a (U D<|c+n*3)=M (aj b[n].key):=r _ _ q.1;have l:aS a (U D<|c+n*3+1)=M (aj b[n].val):=by rw[aY];exact r _ _ q.2.1
     have m:aS a (U D<|c+n*3+2)=M (aO b[n].del):=by rw[aY];exact r _ _ q.2.2
     clear q;by_cases e:b[n].key.size=0\/8<b[n].key.size
     .have j:=Z<|p.trans<|CQ f e;generalize b[n]=C at*;obtain⟨i,v,u⟩:=C;simp only at k l m e;rcases e with e|e
      .have o:((i.size:Y)==0)=bX:=by simp[e]
       go_wp2;go_ret;exact⟨by rw[ae j];rfl,rfl⟩
      .have o:((i.size:Y)==0)=bF:=kT.2 (by omega);go_wp2;go_ret;exact⟨by rw[ae j];rfl,rfl⟩
     .by_cases g:b[n].del=bF/\16<b[n].val.size
      .have j:=Z<|p.trans<|CP f e g;generalize b[n]=C at*;obtain⟨i,v,u⟩:=C;simp only at k l m e g;obtain⟨rfl,A⟩:=g;have o:((i.size:Y)==0)=bF:=kT.2 (by omega);have t:¬8<i.size:=by omega
       clear e;go_wp2;go_ret;exact⟨by rw[ae j];rfl,rfl⟩
      .have j:=Z<|p.trans<|Fv f e g;generalize b[n]=C at*;obtain⟨i,v,u⟩:=C;simp only at k l m e g;have o:((i.size:Y)==0)=bF:=kT.2 (by omega);have t:¬8<i.size:=by omega
       clear e;cases u with
       |true=>
        clear g;go_wp2;go_round
        case rel=>exact⟨n+1,by omega,by go_num,j⟩
        case measure=>simp[intOf];omega
       |false=>
        have A:¬16<v.size:=by simpa using g
        clear g;go_wp2;go_round
        case rel=>exact⟨n+1,by omega,by go_num,j⟩
        case measure=>simp[intOf];omega
    .have e:b.drop n=[]:=by simp;omega
     go_wp2;go_ret;exact⟨by rw[ae p,e];rfl,rfl⟩
def rR(c b:ab)(a:Y)(n:R)(p:KV):Bool:=Fe p.1 c&&((b.toList==[])||Op.bytesLess p.1.toList b.toList)&&(decide (a<=0)||decide ((n:Y)<a))
def jS(d c:ab)(a:Y)(b:iI)(p:KV):iI:=if rR d c a (z b) p then b++[p]else b
def ng(l:iI)(c b:ab)(a:Y):iI:=l.foldl (jS c b a) []
def Ta(l:iI)(c b:ab)(a:Y)(n:R)(h:n<z l):ng (l.take<|n+1) c b a=jS c b a (ng (l.take n) c b a) l[n]:=by
 unfold ng;rw[ak h,iQ];rfl
def mT(l:iI)(d c:ab)(a:Y):z (ng l d c a)<=z l:=by
 have e:∀(l b:iI),z (l.foldl (jS d c a) b)<=z b+z l:=by
  intro l;induction l with
  |nil=>intro b;simp
  |cons p r f=>
   intro b;simp only[fU,aC];have g:=f<|jS d c a b p;have h:z (jS d c a b p)<=z b+1:=by unfold jS;split<;>simp
   omega
 have:=e l [];simpa[ng]using this
def Xf{p:KV}(h:rR v W m (z F) p=bX):jS v W m F p=F++[p]:=by unfold jS;rw[dt h]
def Yh{p:KV}(h:rR v W m (z F) p=bF):jS v W m F p=F:=by unfold jS;rw[dh<|by simp[h]]
def JP(s:iI)(ad g S:R)(p n:ab)(a:Y)(E:I)(hr:z s<=1000000000000)(hb:ad<G (H E))(A:∀au ac,(ik s)[au]?=M ac->aS E (U ad<|g+au)=M ac):cA bG 62 #[bE ad g (z s) S,aj p,aj n,aq a] E λal w'=>∃v',al=aP v'/\py w' (G<|H E) v' (ng s p n a)/\Below (G<|H E) E w':=by
 obtain⟨P,u,w,x,y⟩:=cL Fa;have HC:=Z A;clear A;go_in
 go_wp2;go_loopw [9,10] (λb i wr=>∃o:R,o<=z s/\i=aq o/\py wr (G<|H E) b (ng (s.take o) p n a)/\Below (G<|H E) E wr) (λ_ i _=>z s-(intOf i).toNat)
 case atStart=>exact⟨0,bB _,rfl,bN _ _ _ _,Below.refl _ _⟩
 case round=>
  obtain⟨o,K,rfl,f,d⟩:=hrel;have v:G (H E)<=G (H wr):=d.size;by_cases L:o<z s
  .have T:=oo s o L;have V:aS wr (U ad<|g+o*2)=M (aj s[o].1):=(d.cell<|by exact hb).trans<|HC _ _ T.1;have W:aS wr (U ad<|g+o*2+1)=M (aj s[o].2):=(d.cell<|by exact hb).trans (by rw[aY];exact HC _ _ T.2);clear T;have an:z (ng (s.take o) p n a)<=o:=by have:=mT (s.take o) p n a;simp at this;omega
   have Q:=Z<|Ta s p n a o L;have ho:∃av ao,u9=ah av (z<|ng (s.take o) p n a) ao:=by
    rcases f.2 with⟨al,c⟩|⟨q,k,b,al,_⟩
    .exact⟨none,0,by rw[al,c]⟩
    .exact⟨_,_,al⟩
   generalize ng (s.take o) p n a=e at*;generalize s[o]=ax at*;obtain⟨i,l⟩:=ax;simp only at V W;have m:=Z f;have r:=Z d;clear f d;obtain⟨av,ao,rfl⟩:=ho;have no:∀(K:rR p n a (z e) (i,l)=bF),ng (s.take<|o+1) p n a=e:=λK=>Q.trans<|Yh K;have N:∀(K:rR p n a (z e) (i,l)=bX),ng (s.take<|o+1) p n a=e++[(i,l)]:=λK=>Q.trans<|Xf K;have O:=Z no;have t:=Z N;clear no N Q;cases hA:Op.bytesLess i.toList p.toList with
   |true=>
    have j:=Z (ae O<|by simp[rR,Fe, *]);go_wp2;go_roundw;case rel=>exact⟨o+1,by omega,by go_num,by rw[ae j];exact m,r⟩
    case measure=>simp[intOf];omega
   |false=>
    cases hH:(n.toList==[])with
    |true=>
     by_cases F:a<=0
     .have C:decide (a<=0)=bX:=by simp[F]
      have j:=Z (ae t<|by simp[rR,Fe, *]);go_wp2_with(first
       |(at_builtin;refine bV _ rfl (.tmp 47) (.tmp 52) 38 rfl (G (H E)) 69 P (.agg #[.string ⟨#[]⟩,.string ⟨#[]⟩]) 2 32 underlying38 u w x y rfl (by decide) _ _ _ rfl (jk (aU m (.cells #[.string i,.string l] 69)) ?chQ1) (U (G (H wr)) 0) 1 1 [.string i,.string l] rfl rfl ?c1Q1 ?c2Q1 ?c3Q1 ?c4Q1 ?c5Q1 ?_))
      case chQ1=>rfl
      try(case c1Q1=>exact lZ _ _ _ _)
      case c2Q1=>first|exact⟨rfl,rfl⟩|(intro ac q;simp at q;rcases q with rfl|rfl<;>rfl)
      case c3Q1=>first|omega|(simp;omega)
      case c4Q1=>first|omega|(simp;omega)
      case c5Q1=>first|omega|(simp;omega)
      intro X w2 b c;have k:=Z b;have B:=Z c;clear b c;go_wp2;go_roundw;case rel=>exact⟨o+1,by omega,by go_num,by rw[ae j];exact py.of k (by simp) (by simp[ja];rfl),kF r v B (aw #[aj i,aj l] 69) rfl<|λf d=>(aI m f d).1⟩
      case measure=>simp[intOf];omega
     .have C:decide (a<=0)=bF:=by simp[F]
      by_cases A:(z e:Y)<a
      .have D:decide ((z e:Y)<a)=bX:=by simp[A]
       have j:=Z (ae t<|by simp[rR,Fe, *]);go_wp2_with(first
        |(at_builtin;refine bV _ rfl (.tmp 47) (.tmp 52) 38 rfl (G (H E)) 69 P (.agg #[.string ⟨#[]⟩,.string ⟨#[]⟩]) 2 32 underlying38 u w x y rfl (by decide) _ _ _ rfl (jk (aU m (.cells #[.string i,.string l] 69)) ?chQ2) (U (G (H wr)) 0) 1 1 [.string i,.string l] rfl rfl ?c1Q2 ?c2Q2 ?c3Q2 ?c4Q2 ?c5Q2 ?_))
       case chQ2=>rfl
       try(case c1Q2=>exact lZ _ _ _ _)
       case c2Q2=>first|exact⟨rfl,rfl⟩|(intro ac q;simp at q;rcases q with rfl|rfl<;>rfl)
       case c3Q2=>first|omega|(simp;omega)
       case c4Q2=>first|omega|(simp;omega)
       case c5Q2=>first|omega|(simp;omega)
       intro X w2 b c;have k:=Z b;have B:=Z c;clear b c;go_wp2;go_roundw;case rel=>exact⟨o+1,by omega,by go_num,by rw[ae j];exact py.of k (by simp) (by simp[ja];rfl),kF r v B (aw #[aj i,aj l] 69) rfl<|λf d=>(aI m f d).1⟩
       case measure=>simp[intOf];omega
      .have D:decide ((z e:Y)<a)=bF:=by simp[A]
       have j:=Z (ae O<|by simp[rR,Fe, *]);go_wp2;go_roundw;case rel=>exact⟨o+1,by omega,by go_num,by rw[ae j];exact m,r⟩
       case measure=>simp[intOf];omega
    |false=>
     cases hT:Op.bytesLess i.toList n.toList with
     |true=>
      by_cases F:a<=0
      .have C:decide (a<=0)=bX:=by simp[F]
       have j:=Z (ae t<|by simp[rR,Fe, *]);go_wp2_with(first
        |(at_builtin;refine bV _ rfl (.tmp 47) (.tmp 52) 38 rfl (G (H E)) 69 P (.agg #[.string ⟨#[]⟩,.string ⟨#[]⟩]) 2 32 underlying38 u w x y rfl (by decide) _ _ _ rfl (jk (aU m (.cells #[.string i,.string l] 69)) ?chQ3) (U (G (H wr)) 0) 1 1 [.string i,.string l] rfl rfl ?c1Q3 ?c2Q3 ?c3Q3 ?c4Q3 ?c5Q3 ?_))
       case chQ3=>rfl
       try(case c1Q3=>exact lZ _ _ _ _)
       case c2Q3=>first|exact⟨rfl,rfl⟩|(intro ac q;simp at q;rcases q with rfl|rfl<;>rfl)
       case c3Q3=>first|omega|(simp;omega)
       case c4Q3=>first|omega|(simp;omega)
       case c5Q3=>first|omega|(simp;omega)
       intro X w2 b c;have k:=Z b;have B:=Z c;clear b c;go_wp2;go_roundw;case rel=>exact⟨o+1,by omega,by go_num,by rw[ae j];exact py.of k (by simp) (by simp[ja];rfl),kF r v B (aw #[aj i,aj l] 69) rfl<|λf d=>(aI m f d).1⟩
       case measure=>simp[intOf];omega
      .have C:decide (a<=0)=bF:=by simp[F]
       by_cases A:(z e:Y)<a
       .have D:decide ((z e:Y)<a)=bX:=by simp[A]
        have j:=Z (ae t<|by simp[rR,Fe, *]);go_wp2_with(first
         |(at_builtin;refine bV _ rfl (.tmp 47) (.tmp 52) 38 rfl (G (H E)) 69 P (.agg #[.string ⟨#[]⟩,.string ⟨#[]⟩]) 2 32 underlying38 u w x y rfl (by decide) _ _ _ rfl (jk (aU m (.cells #[.string i,.string l] 69)) ?chQ4) (U (G (H wr)) 0) 1 1 [.string i,.string l] rfl rfl ?c1Q4 ?c2Q4 ?c3Q4 ?c4Q4 ?c5Q4 ?_))
        case chQ4=>rfl
        try(case c1Q4=>exact lZ _ _ _ _)
        case c2Q4=>first|exact⟨rfl,rfl⟩|(intro ac q;simp at q;rcases q with rfl|rfl<;>rfl)
        case c3Q4=>first|omega|(simp;omega)
        case c4Q4=>first|omega|(simp;omega)
        case c5Q4=>first|omega|(simp;omega)
        intro X w2 b c;have k:=Z b;have B:=Z c;clear b c;go_wp2;go_roundw;case rel=>exact⟨o+1,by omega,by go_num,by rw[ae j];exact py.of k (by simp) (by simp[ja];rfl),kF r v B (aw #[aj i,aj l] 69) rfl<|λf d=>(aI m f d).1⟩
        case measure=>simp[intOf];omega
       .have D:decide ((z e:Y)<a)=bF:=by simp[A]
        have j:=Z (ae O<|by simp[rR,Fe, *]);go_wp2;go_roundw;case rel=>exact⟨o+1,by omega,by go_num,by rw[ae j];exact m,r⟩
        case measure=>simp[intOf];omega
     |false=>
      have j:=Z (ae O<|by simp[rR,Fe, *]);go_wp2;go_roundw;case rel=>exact⟨o+1,by omega,by go_num,by rw[ae j];exact m,r⟩
      case measure=>simp[intOf];omega
  .have b:s.take o=s:=da (by omega);rw[b]at f;have m:=Z f;have r:=Z d;clear f d;go_wp2;go_ret;exact⟨_,rfl,m,r⟩
def MM(c b:ab)(a:Y)(w:I):cA bG 62 #[aG,.string c,.string b,.int .i64 a] w λf e=>∃d,f=.returned d/\py e (G<|H w) d (ng [] c b a)/\Below (G<|H w) w e:=by
 go_in
 go_wp2;go_loop [9,10] (λo i=>i=.int .i64 0/\o=aG) (λ_ _=>0)
 case atStart=>exact⟨rfl,rfl⟩
 (case round=>obtain⟨rfl,rfl⟩:=hrel;go_wp2;go_ret;exact⟨_,rfl,bN _ _ _ _,Below.refl _ _⟩)
def CV(f e:ab)(b:Y)(n:jq a d F)(m:∀q,bY d=M q->q<G (H a))(o:z F<=1000000000000):cA bG 62 #[d,.string f,.string e,.int .i64 b] a λr i=>∃h,r=.returned h/\py i (G<|H a) h (ng F f e b)/\Below (G<|H a) a i:=by
 obtain⟨s,⟨rfl,j⟩|⟨p,c,g,rfl,l,k⟩⟩:=n;obtain rfl:F=[]:=aR j;exact MM f e b a;exact JP F p c g f e b a o (m p rfl) k
def Row.shape(j:Row a b d c x):d=aG\/∃g e f,d=bE g e c f:=by
 rcases j.2 with⟨h,_⟩|⟨g,e,f,h,_⟩;exact .inl h;exact .inr ⟨g,e,f,h⟩
def MN(h:Below (G<|H a) a f)(b:Option R):a.grownBy f b:=⟨h.os,h.tape,h.output,h.size,λk c _=>h.block k c⟩
def Row.grown{g:Option R}(k:Row a b d c x)(p:a.grownBy f g)(j:bY d≠g\/bY d=none):Row f b d c x:=by
 obtain⟨m,n⟩:=k;refine⟨m,?_⟩;rcases n with⟨rfl,l⟩|⟨r,e,h,rfl,i,o⟩;exact .inl ⟨rfl,l⟩;refine .inr ⟨r,e,h,rfl,i,λs u q=>p.cell (o s u q) ?_⟩;rcases j with k|k;exact k;simp[bY]at k
def sB(l:iI)(k:ab):ab×Bool×Y:=if k.size=0\/8<k.size then(⟨#[]⟩,bF,3)else((qA l k).1,(qA l k).2,0)
def Qa(k:ab)(e:jq a d F)(l:z F<=1000000000000)(j:k.size<=140737488351232):cA bG 60 #[d,.string k] a λn m=>n=.returned (.tuple #[.string (sB F k).1,.bool (sB F k).2.1,.int .i64 (sB F k).2.2])/\m=a:=by
 have f:=Z e;clear e;by_cases c:k.size=0;(.have b:=Z (show sB F k=(⟨#[]⟩,bF,3)by unfold sB;rw[dt<|.inl c]);(have i:((k.size:Y)==0)=bX:=by rw[c];rfl);(go_in);go_wp2;(go_ret3);exact⟨by rw[ae b];rfl,rfl⟩)
 .have i:((k.size:Y)==0)=bF:=kT.2 (by omega);by_cases g:8<k.size
  .have b:=Z (show sB F k=(⟨#[]⟩,bF,3)by unfold sB;rw[dt<|.inr g]);go_in
   go_wp2;go_ret3
   exact⟨by rw[ae b];rfl,rfl⟩
  .have b:=Z (show sB F k=((qA F k).1,(qA F k).2,0)by unfold sB;rw[dh<|by omega]);go_in
   go_wp2_with(first
    |(go_at_call 104;refine(UB k f l).mono ?_;rintro n o⟨rfl,rfl⟩))
   go_ret3
   exact⟨by rw[ae b];rfl,rfl⟩
structure mO(w:I)(rb:R)(pb:Option R)(l:iI)(closed:Bool)(sv:aa):Prop where
 iN:∃v,w.heap[rb]?=M (.cells #[v,sv,.bool closed] 46 (0,0))/\jq w v l/\bY v=pb
 ne:pb≠M rb
 lt:∀g,pb=M g->g<G (H w)
def NX(o:Option R)(k:ab)(h:mO a b o F C d)(n:z F<=1000000000000)(e:k.size<=140737488351232):cA bG 30 #[aA b,.string k] a λq p=>
 q=.returned (if C then .tuple #[.string ⟨#[]⟩,.bool bF,.int .i64 6]else .tuple #[.string (sB F k).1,.bool (sB F k).2.1,.int .i64 (sB F k).2.2])/\p=a:=by
 obtain⟨⟨v,c,i,_⟩,_,_⟩:=h
 have l:=cellAt c 0 rfl
 have m:=cellAt c 2 rfl
 have g:=Z i
 clear c i
 cases C with
 |true=>
  go_in
  go_wp2;go_ret3
  exact⟨rfl,rfl⟩
 |false=>
  rcases g.shape with rfl|⟨s,f,j,rfl⟩;all_goals
   go_in
   go_wp2_with(first
    |(go_at_call 60;refine(Qa k g n e).mono ?_;rintro q r⟨rfl,rfl⟩))
   go_ret3
   exact⟨rfl,rfl⟩
def ud(x:Option R)(k j:ab)(c:Y)(h:mO a b x F C d)(w:z F<=1000000000000):cA bG 32 #[aA b,.string k,.string j,.int .i64 c] a λy p=>
 ∃e,y=.returned (.tuple #[e,.int .i64<|if C then 6 else 0])/\py p (G<|H a) e (if C then []else ng F k j c)/\Below (G<|H a) a p:=by
 obtain⟨⟨A,i,n,o⟩,_,f⟩:=h
 have u:=cellAt i 0 rfl
 have v:=cellAt i 2 rfl
 have m:=Z n
 have s:=Z (show∀g,bY A=M g->g<G (H a)fromλg c=>f g<|o▸c)
 clear i n o f
 cases C with
 |true=>
  go_in
  go_wp2;go_ret2
  exact⟨_,rfl,bN _ _ _ _,Below.refl _ _⟩
 |false=>
  rcases m.shape with rfl|⟨E,l,t,rfl⟩;all_goals
   go_in
   go_wp2_with(first
    |(go_at_call 62;refine(CV k j c m s w).mono ?_;rintro y D⟨B,rfl,g,e⟩;have q:=Z g;have r:=Z e;clear g e))
   go_ret2
   exact⟨_,rfl,q,r⟩
def Am(m:Option R)(h:mO a b m F C d):cA bG 23 #[aA b] a λp n=>
 p=.returned (.int .i64<|if C then 6 else 0)/\mO n b m F bX d/\a.grownBy n (M b):=by
 obtain⟨⟨v,f,k,g⟩,c,e⟩:=h
 have q:=cellAt f 2 rfl
 have r:=dW (i:=2) f
 cases C with
 |true=>
  have l:=Z<|mO.mk ⟨v,f,k,g⟩ c e;clear f k g c e;go_in
  go_wp2;go_ret;exact⟨rfl,l,tz _ _⟩
 |false=>
  have j:=df a b 2<|.bool bX;have l:=Z<|show mO (ct a (U b 2)<|.bool bX) b m F bX d from⟨⟨v,by rw[aT f];rfl,Row.grown k j<|.inl (by rw[g];exact c),g⟩,c,λn p=>ag (e n p) j.size⟩;have o:=Z j;clear f k g c e j;go_in
  go_wp2;go_ret;exact⟨rfl,l,o⟩
def zT(l:iI):Prop:=l.Pairwise<|λa b=>im a.1 b.1=bX
def AJ(a k:ab):Fe a k=!im a k:=rfl
def DU(k v:ab)(l a:iI):l.foldl (fV k v) (a,bX)=(a++l.filter (λp=>!decide (p.1=k)),bX):=by
 induction l generalizing a with
 |nil=>simp
 |cons p r b=>
  rw[fU];by_cases h:p.1=k
  .have:fV k v (a,bX) p=(a,bX):=by simp[fV,h]
   rw[this,b];simp[h]
  .have:fV k v (a,bX) p=(a++[p],bX):=by simp[fV,h]
   rw[this,b];simp[h]
def QS(k v:ab)(a:iI)(s:zT F):F.foldl (fV k v) (a,bF)=if F.all (λp=>im p.1 k)then(a++F,bF)else(a++F.filter (λp=>im p.1 k)++[(k,v)]++F.filter (λp=>im k p.1),bX):=by
 induction F generalizing a with
 |nil=>simp
 |cons p r o=>
  obtain⟨l,m⟩:=bA.1 s;rw[fU];cases c:im p.1 k with
  |true=>
   have b:=oF c;have h:Fe p.1 k=bF:=by rw[AJ,c];rfl
   have:fV k v (a,bF) p=(a++[p],bF):=by simp[fV,b,h]
   rw[this,o _ m];simp only[ut,c,yX];split
   .simp
   .rw[eW (by simp[c]),dl<|by simp[lQ c]];simp
  |false=>
   have h:Fe p.1 k=bX:=by rw[AJ,c];rfl
   have d:∀q∈r,im k q.1=bX:=λq b=>xP c<|l q b;have e:r.filter (λp=>im p.1 k)=[]:=gU.2 (λq b=>by simp[lQ<|d q b]);have f:r.filter (λp=>im k p.1)=r:=fh.2<|λq b=>d q b;have g:r.filter (λp=>!decide (p.1=k))=r:=fh.2 (λq b=>by have:=oF<|d q b;simp;exactλj=>this j.symm);by_cases i:p.1=k
   .have:fV k v (a,bF) p=(a++[(k,v)],bX):=by
     unfold fV;simp only[h];simp[i]
    rw[this,DU,g];simp only[ut,c,ql];rw[dl (by simp[c]),e,dl (by rw[i,fD];simp),f];simp
   .have:fV k v (a,bF) p=(a++[(k,v)]++[p],bX):=by simp[fV,h,i]
    have n:im k p.1=bX:=by
     cases j:im k p.1 with
     |true=>rfl
     |false=>exact absurd (oq c j) i
    rw[this,DU,g];simp only[ut,c,ql];rw[dl (by simp[c]),e,eW (by simp[n]),f];simp
def PI(o:zT F)(k v:ab)(g:Bool):vU F k v g=F.filter (λp=>im p.1 k)++(if g then []else [(k,v)])++F.filter (λp=>im k p.1):=by
 have h:F.filter (λp=>!decide (p.1=k))=F.filter (λp=>im p.1 k)++F.filter (λp=>im k p.1):=by
  clear v g;induction F with
  |nil=>rfl
  |cons p r n=>
   obtain⟨j,l⟩:=bA.1 o;cases e:im p.1 k with
   |true=>
    rw[eW (by simp[oF e]),eW (by simp[e]),dl (by simp[lQ e]),n l];rfl
   |false=>
    have d:∀q∈r,im k q.1=bX:=λq c=>xP e<|j q c;have a:r.filter (λp=>im p.1 k)=[]:=gU.2 (λq c=>by simp[lQ<|d q c]);have b:r.filter (λp=>im k p.1)=r:=fh.2<|λq c=>d q c;have f:r.filter (λp=>!decide (p.1=k))=r:=fh.2 (λq c=>by have:=oF<|d q c;simp;exactλi=>this i.symm);by_cases g:p.1=k
    .rw[dl (by simp[g]),dl (by simp[e]),dl (by rw[g,fD];simp),a,b,f];rfl
    .have m:im k p.1=bX:=by
      cases i:im k p.1 with
      |true=>rfl
      |false=>exact absurd (oq e i) g
     rw[eW (by simp[g]),dl (by simp[e]),eW (by simp[m]),a,b,f];rfl
 unfold vU qo;cases g with
 |true=>
  rw[DU];simp only[cJ,ite_true,dO];exact h
 |false=>
  rw[QS k v [] o];by_cases e:F.all (λp=>im p.1 k)=bX
  .rw[dt e];rw[og]at e;have a:F.filter (λp=>im p.1 k)=F:=fh.2 e;have b:F.filter (λp=>im k p.1)=[]:=gU.2 (λq c=>by simp[lQ<|e q c]);rw[a,b];simp
  .rw[dh e];simp
def TJ(h:zT F)(k v:ab)(d:Bool):zT (vU F k v d):=by
 rw[PI h];refine bR.2 ⟨bR.2 ⟨lF fg h,?_,?_⟩,lF fg h,?_⟩;cases d<;>simp
 .intro c a e b;cases d with
  |true=>simp at b
  |false=>simp at a b;rw[b];exact a.2
 .intro c a e b;simp only[de]at b;rcases ap.1 a with a|a
  .simp only[de]at a;exact lP a.2 b.2
  .cases d with
   |true=>simp at a
   |false=>simp at a;rw[a];exact b.2
def Uu(h:zT F){p:KV}:p∈vU F v W C↔(p.1≠v/\p∈F)\/(C=bF/\p=(v,W)):=by
 rw[PI h];simp only[ap,de];constructor
 .rintro((⟨a,b⟩|a)|⟨a,b⟩)
  .exact .inl ⟨oF b,a⟩
  .cases C with
   |true=>simp at a
   |false=>simp at a;exact .inr ⟨rfl,a⟩
  .exact .inl ⟨λe=>oF b e.symm,a⟩
 .rintro(⟨a,b⟩|⟨rfl,rfl⟩)
  .cases c:im p.1 v with
   |true=>exact .inl<|.inl ⟨b,rfl⟩
   |false=>
    cases e:im v p.1 with
    |true=>exact .inr ⟨b,rfl⟩
    |false=>exact absurd (oq c e) a
  .exact .inl<|.inr<|by simp
def zT.ext{m:iI}(n:zT F)(o:zT m)(e:∀x,x∈F↔x∈m):F=m:=by
 induction F generalizing m with
 |nil=>
  cases m with
  |nil=>rfl
  |cons a r=>exact absurd ((e a).2<|by simp)<|by simp
 |cons x r i=>
  cases m with
  |nil=>exact absurd ((e x).1<|by simp)<|by simp
  |cons a s=>
   obtain⟨f,h⟩:=bA.1 n;obtain⟨g,j⟩:=bA.1 o;have d:x=a:=by
    rcases aD.1 ((e x).1<|by simp)with p|p
    .exact p
    .rcases aD.1 ((e a).2<|by simp)with q|q
     .exact q.symm
     .have l:=g x p;have k:=f a q;rw[lQ l]at k;cases k
   subst d;congr 1;refine i h j<|λb=>⟨λc=>?_,λc=>?_⟩
   .rcases aD.1 ((e b).1<|aJ _ c)with p|p
    .have:=f b c;rw[p,fD]at this;cases this
    .exact p
   .rcases aD.1 ((e b).2<|aJ _ c)with p|p
    .have:=g b c;rw[p,fD]at this;cases this
    .exact p
def vF(a:dX)(l:iI):Prop:=zT l/\∀k v,(k,v)∈l↔seen a k=M v
def vF.congr{b:dX}(h:vF k F)(e:∀a,seen b a=seen k a):vF b F:=⟨h.1,λa v=>by rw[e a];exact h.2 a v⟩
def VA(h:∀r∈k,r=[]):vF k []:=by
 refine⟨List.Pairwise.nil,λb v=>?_⟩;have:ri k b=none:=by unfold ri;rw[List.findSome?_eq_none_iff];intro r a;rw[h r a];rfl
 simp[seen,this]
def Vz(g:wV e)(h:vF (e::k) F)(b:E):vF (tg e b::k) (vU F b.key b.val b.del):=by
 refine⟨TJ h.1 _ _ _,λf v=>?_⟩;rw[Uu h.1];simp only;have a:seen (tg e b::k) f=if f=b.key then(if b.del then none else M b.val)else seen (e::k) f:=by unfold seen;rw[qD,qD,Mt g];split;simp;rfl
 rw[a,h.2 f v];by_cases d:f=b.key
 .rw[dt d];cases hd:b.del with
  |true=>simp[d]
  |false=>simp[d];exact eq_comm
 rw[dh d];constructor;rintro(⟨_,c⟩|⟨_,c⟩);exact c;simp only[hZ]at c;exact absurd c.1 d;intro c;exact .inl ⟨d,c⟩
def SQ(i:vF k F)(b:ab):qA F b=match seen k b with|some v=>(v,bX)|none=>(⟨#[]⟩,bF):=by
 have c:∀m:iI,(∀p∈m,p∈F)->(∀v,seen k b=M v->(b,v)∈m)->qA m b=match seen k b with|some v=>(v,bX)|none=>(⟨#[]⟩,bF):=by
  intro m;induction m with
  |nil=>
   intro _ d;cases hs:seen k b with
   |none=>rfl
   |some v=>exact absurd (d v hs)<|by simp
  |cons p r h=>
   intro f d;unfold qA;split
   .rename_i a;have:seen k b=M p.2:=(i.2 b p.2).1 (by rw[<-a];exact f p<|by simp);rw[this]
   .rename_i a;refine h (λq g=>f q<|by simp[g])<|λv e=>?_;rcases aD.1 (d v e)with q|q
    .rw[<-q]at a;exact absurd rfl a
    .exact q
 exact c F (λp a=>a)<|λv e=>(i.2 b v).2 e
def zg(e:E):KV:=(e.key,e.val)
def SP(o:vF k F)(l:∀g j,ri k g=M j->j.key=g)(i:ab)(m:wV e)(h:∀x,x∈e↔ri k x.key=M x/\im x.key i=bF):(e.filter<|λj=>!j.del).map zg=F.filter (λp=>Fe p.1 i):=by
 refine zT.ext ?_ (lF fg o.1)<|λp=>?_;unfold zT;rw[jw];exact m.sub fg
 .obtain⟨g,v⟩:=p;simp only[bz,de,AJ];rw[o.2 g v];constructor
  .rintro⟨x,⟨n,c⟩,b⟩;obtain⟨a,d⟩:=(h x).1 n;simp only[zg,hZ]at b;obtain⟨rfl,rfl⟩:=b;have f:x.del=bF:=by simpa using c
   exact⟨by simp[seen,a,f],by simp[d]⟩
  .rintro⟨a,d⟩;unfold seen at a;cases hh:ri k g with
   |none=>rw[hh]at a;cases a
   |some x=>
    rw[hh]at a;simp only[qU]at a;have b:=l g x hh;cases c:x.del with
    |true=>rw[c]at a;cases a
    |false=>
     rw[c]at a;refine⟨x,⟨(h x).2 ⟨by rw[b];exact hh,by rw[b];simpa using d⟩,by simp[c]⟩,?_⟩;simp only[zg,hZ];refine⟨b,?_⟩;simpa using a
def wv(c:ab)(a:Y):iI->iI->iI
 |b,[]=>b
 |b,p::r=>if(!(c.toList==[])&&!im p.1 c)=bX then b else if((z b:Y)+1==a)=bX then b++[p]else wv c a (b++[p]) r
def VH{r:iI}(h:0<m)(d:m<=z F):r.foldl (jS v W m) F=F:=by
 induction r with
 |nil=>rfl
 |cons p r c=>
  rw[fU];have:jS v W m F p=F:=by
   unfold jS rR;have a:decide (m<=0)=bF:=by simp;omega
   have b:decide ((z F:Y)<m)=bF:=by simp;omega
   rw[a,b];simp
  rw[this,c]
def Yi{r:iI}(c:(W.toList==[])=bF)(a:∀p∈r,im p.1 W=bF):r.foldl (jS v W m) F=F:=by
 induction r with
 |nil=>rfl
 |cons p r d=>
  rw[fU];have:jS v W m F p=F:=by
   unfold jS rR;have b:Op.bytesLess p.1.toList W.toList=bF:=a p (by simp);rw[c,b];simp
  rw[this,d<|λp b=>a p<|by simp[b]]
def WW{a:iI}(n:zT F)(h:∀p∈F,im p.1 v=bF)(k:m<=0\/(z a:Y)<m):wv W m a F=F.foldl (jS v W m) a:=by
 induction F generalizing a with
 |nil=>rfl
 |cons p r o=>
  obtain⟨i,j⟩:=bA.1 n;have l:Fe p.1 v=bX:=by rw[AJ,h p<|by simp];rfl
  have e:(decide (m<=0)||decide ((z a:Y)<m))=bX:=by simpa using k
  unfold wv;split
  .rename_i b;simp at b;refine(Yi (by simpa using b.1) ?_).symm;intro q f;rcases aD.1 f with c|c
   .rw[c];exact b.2
   .cases d:im q.1 W with
    |false=>rfl
    |true=>have:=lP (i q c) d;rw[b.2]at this;cases this
  .rename_i b;have g:jS v W m a p=a++[p]:=by
    unfold jS rR;rw[l,e];have:((W.toList==[])||Op.bytesLess p.1.toList W.toList)=bX:=by
     cases d:(W.toList==[])with
     |true=>rfl
     |false=>
      rw[d]at b;show(bF||im p.1 W)=bX;simpa using b
    rw[this];rfl
   rw[fU,g];split
   .rename_i c;have:(z a:Y)+1=m:=by simpa using c
    exact(VH (by omega) (by simp;omega)).symm
   .rename_i c;refine o j (λq f=>h q<|by simp[f]) ?_;have:¬(z a:Y)+1=m:=by simpa using c
    simp;omega
def VI(l:iI)(d e:ab)(a:Y):ng l d e a=(l.filter<|λp=>Fe p.1 d).foldl (jS d e a) []:=by
 unfold ng;generalize([]:iI)=b;induction l generalizing b with
 |nil=>rfl
 |cons p r f=>
  cases c:Fe p.1 d with
  |true=>rw[eW (by simp[c]),fU,fU,f]
  |false=>
   have:jS d e a b p=b:=by unfold jS rR;rw[c];simp
   rw[dl (by simp[c]),fU,this,f]
def Pm(l:vF k F)(h:∀j b,ri k j=M b->b.key=j)(c d:ab)(a:Y)(g:wV e)(i:∀x,x∈e↔ri k x.key=M x/\im x.key c=bF):wv d a [] ((e.filter<|λb=>!b.del).map zg)=ng F c d a:=by
 have b:=SP l h c g i;rw[VI,<-b];refine WW ?_ ?_ ?_;unfold zT;rw[jw];exact g.sub fg;intro p f;rw[b,de,AJ]at f;simpa using f.2;simp only[cS];omega
structure J(S:fN)(w w':I):Prop where
 os:w'.os=w.os
 tape:w'.tape=w.tape
 output:w'.output=w.output
 size:G (H w)<=G (H w')
 block:∀k,k<G (H w)->¬S k->w'.heap[k]?=w.heap[k]?
def J.refl(S:fN)(w:I):J S w w:=⟨rfl,rfl,rfl,ai _,λ_ _ _=>rfl⟩
def J.trans{S T:fN}{e b l:I}(h:J S e b)(k:J T b l)(g:∀x,T x->S x\/G (H e)<=x):J S e l:=⟨k.os.trans h.os,k.tape.trans h.tape,k.output.trans h.output,aF h.size k.size,λj c d=>(k.block j (ag c h.size) (λi=>by
 rcases g j i with a|a
 .exact d a
 .omega)).trans (h.block j c d)⟩
def J.cw{S:fN}{a b c:I}(h:J S a b)(k:J az b c):J S a c:=h.trans k cN
def J.mono{S T:fN}{c b:I}(h:J S c b)(d:∀x,S x->T x\/G (H c)<=x):J T c b:=⟨h.os,h.tape,h.output,h.size,λi e g=>h.block i e (λj=>by
 rcases d i j with a|a
 .exact g a
 .omega)⟩
def J.dR{S:fN}{b:Option R}(h:a.grownBy B b)(g:∀k,b=M k->S k\/G (H a)<=k):J S a B:=⟨h.os,h.tape,h.output,h.size,λi d e=>h.block i d (λj=>by
 rcases g i j.symm with c|c
 .exact e c
 .omega)⟩
def J.aV{S:fN}(h:Below (G<|H a) a B):J S a B:=⟨h.os,h.tape,h.output,h.size,λi b _=>h.block i b⟩
def J.below{B:R}(h:J X a f)(b:B<=G (H a))(c:∀k,X k->B<=k):Below B a f:=⟨h.os,h.tape,h.output,h.size,λk d=>h.block k (ag d b) (λe=>by have:=c k e;omega)⟩
def J.cell{a b:I}(h:J X a b){k i:R}(c:aS a (U k i)=M d)(g:¬X k)(e:k<G (H a)):aS b (U k i)=M d:=(cP (w:=a)<|h.block k e g).trans c
def J.alloc{a b:I}(h:J X a b)(o:Obj):J X a (b.alloc o):=h.trans (J.dR (S:=az) (dA b o none)<|by simp)<|by simp
def fy(h:a.grownBy B (M b)):J (λk=>k=b) a B:=J.dR h (by rintro k⟨⟩;exact .inl rfl)
def J.setCell(h:J X a f)(k i:R)(u:aa)(b:X k\/G (H a)<=k):J X a (f.setCell (U k i) u):=h.trans (J.dR (S:=λx=>x=k) (df f k i u) (by rintro _⟨⟩;exact .inl rfl)) (by rintro x rfl;exact b)
def cI(S:fN)(w:I){o:Obj}:J S w (cF w o):=(J.refl S w).alloc o
def ij(a:R)(w:I):J (λk=>k=a) w (ct w (U a b) d):=(J.refl _ w).setCell a b d<|.inl rfl
def J.own{t b:I}(v:J X t b)(r:t.ownsRow c g l d y x)(p:∀u,bY d=M u->¬X u):b.ownsRow c g l d y x:=by
 obtain⟨m,n⟩:=r;refine⟨m,?_⟩;rcases n with⟨rfl,k⟩|⟨j,a,e,rfl,o,h,s⟩;exact .inl ⟨rfl,k⟩;exact .inr ⟨j,a,e,rfl,o,(v.block j (am h)<|p j rfl).trans h,s⟩
def J.row(s:J X a f)(q:Row a b d c x)(k:∀r,bY d=M r->¬X r/\r<G (H a)):Row f b d c x:=by
 obtain⟨n,o⟩:=q;refine⟨n,?_⟩;rcases o with⟨rfl,m⟩|⟨l,e,g,rfl,h,p⟩;exact .inl ⟨rfl,m⟩;exact .inr ⟨l,e,g,rfl,h,λj u m=>s.cell (p j u m) (k l rfl).1 (k l rfl).2⟩
def aB(j:a.ownsRow c g l d y x):∃k i,d=.slice k y i:=by
 rcases j.2 with⟨rfl,rfl⟩|⟨m,e,h,rfl,_⟩;exact⟨none,0,rfl⟩;exact⟨_,_,rfl⟩
def bS(i:Row a c d g x):∃j h,d=.slice j g h:=by
 rcases i.2 with⟨rfl,rfl⟩|⟨b,e,f,rfl,_⟩;exact⟨none,0,rfl⟩;exact⟨_,_,rfl⟩
def fK(j:a.ownsRow b c g d l x){k:R}(f:bY d=M k):∃e,a.heap[k]?=M (.cells e c (0,0)):=by
 rcases j.2 with⟨rfl,_⟩|⟨m,h,e,rfl,_,i,_⟩;cases f;cases f;exact⟨e,i⟩
def zC(n:a.ownsRow b c g d l x){h:Array aa}{k:R×R}(m:a.heap[y]?=M (.cells h P k))(e:P≠c):bY d≠M y:=by
 intro j;obtain⟨i,f⟩:=fK n j;rw[m]at f;cases f;exact e rfl
def lT(n:Y)(w:I):cA bG 16 #[aq n] w λe a=>e=aP (aq n)/\a=w:=by
 go_in
 go_wp2;go_ret;exact⟨rfl,rfl⟩
def vB(w:I)(a b:R):(w.drewN a).drewN b=w.drewN (a+b):=by simp[World.drewN,aY]
def Qz{m:iI}(a:b<z F)(c:b<z m)(h:F.take b=m.take b)(e:F[b]=m[b]):F.take (b+1)=m.take (b+1):=by
 rw[ak a,ak c,h,e]
def nr{l m:iI}(hx:jq a d l)(C:jq a t m)(hl:z l<=1000000000000)(hm:z m<=1000000000000):cA bG 8 #[d,t] a λu w'=>u=aP (aO<|decide<|l=m)/\∃y,w'=a.drewN y:=by
 by_cases b:z l=z m;(.obtain⟨E,⟨rfl,B⟩|⟨ad,c,D,rfl,al,K⟩⟩:=hx;(.obtain rfl:l=[]:=aR B;obtain rfl:m=[]:=aR (by simpa using b.symm);have f:=C.shape;clear C;rcases f with rfl|⟨A,e,g,rfl⟩;(all_goals(go_in);go_wp2;(go_loopw [5] (λV wr=>V=aq 0/\∃y,wr=a.drewN y) (λ_ _=>0));(case atStart=>exact⟨rfl,0,rfl⟩);(case round=>obtain⟨rfl,y,rfl⟩:=hrel;go_wp2;go_ret;exact⟨rfl,y,rfl⟩)));(.obtain⟨F,⟨rfl,B⟩|⟨A,e,g,rfl,ac,v⟩⟩:=C;(.obtain rfl:m=[]:=aR B;obtain rfl:l=[]:=aR (by simpa using b);clear K;(go_in);go_wp2;(go_loopw [5] (λV wr=>V=aq 0/\∃y,wr=a.drewN y) (λ_ _=>0));(case atStart=>exact⟨rfl,0,rfl⟩);(case round=>obtain⟨rfl,y,rfl⟩:=hrel;go_wp2;go_ret;exact⟨rfl,y,rfl⟩));(.have HC:=Z K;have s:=Z v;(have p:((z l:Y)!=(z m:Y))=bF:=by simp[b]);have f:=Z b;clear K v E F b;(go_in);go_wp2;(go_loopw [5] (λV wr=>∃n:R,n<=z l/\V=aq n/\l.take n=m.take n/\∃y,wr=a.drewN y) (λV _=>z l-(intOf V).toNat));(case atStart=>exact⟨0,bB _,rfl,rfl,0,rfl⟩);(case round=>obtain⟨n,hn,rfl,ht,kk,rfl⟩:=hrel;have HT:=Z ht;clear ht;by_cases w:n<z l;(·(have i:n<z m:=by have:=ae f;omega);have L:=oo l n w;have k:=oo m n i;have O:aS a (U ad<|c+n*2)=M (aj l[n].1):=HC _ _ L.1;(have P:aS a (U ad<|c+n*2+1)=M (aj l[n].2):=by rw[aY];exact HC _ _ L.2);have Q:aS a (U A<|e+n*2)=M (aj m[n].1):=s _ _ k.1;(have S:aS a (U A<|e+n*2+1)=M (aj m[n].2):=by rw[aY];exact s _ _ k.2);clear L k;(have x:l[n]≠m[n]->decide (l=m)=bF:=λh=>by simp;intro u;subst u;exact h rfl);have HN:=Z x;have HY:=Z<|λu=>Qz w i HT u;clear x;generalize l[n]=an at*;generalize m[n]=q at*;obtain⟨W,X⟩:=an;obtain⟨qk,qv⟩:=q;simp only at O P Q S;by_cases o:W=qk;(·(have N:(!W.toList==qk.toList)=bF:=by rw[o];simp);by_cases r:X=qv;(·(have T:(X.toList==qv.toList)=bX:=by rw[r];simp);have j:=Z (HY<|by rw[o,r]);clear o r;(go_wp2_with fail);(go_quiet(fail));go_wp2;go_roundw;(case rel=>exact⟨n+1,by omega,by go_num,j,by first|exact⟨_,rfl⟩|exact⟨_,vB _ _ _⟩⟩);case measure=>simp[intOf];omega);have T:(X.toList==qv.toList)=bF:=zH r;have j:=Z<|HN (by intro u;exact r (Prod.mk.inj u).2);clear o r;(go_wp2_with fail);(go_quiet(fail));go_wp2;go_ret;exact⟨by rw[ae j];rfl,by first|exact⟨_,rfl⟩|exact⟨_,vB _ _ _⟩⟩);(have N:(!W.toList==qk.toList)=bX:=by rw[zH o];rfl);have j:=Z<|HN (by intro u;exact o (Prod.mk.inj u).1);clear o;(go_wp2_with fail);(go_quiet(fail));go_wp2;go_ret;exact⟨by rw[ae j];rfl,by first|exact⟨_,rfl⟩|exact⟨_,vB _ _ _⟩⟩);have j:=Z (show decide (l=m)=bX by have E:l.take n=l:=da (by omega);have i:m.take n=m:=da (by have:=ae f;omega);have:=ae HT;rw[E,i]at this;simpa using this);go_wp2;go_ret;exact⟨by rw[ae j];rfl,by first|exact⟨_,rfl⟩|exact⟨_,vB _ _ _⟩⟩))));(have f:decide (l=m)=bF:=by simp;intro u;exact b<|by rw[u]);rw[f];clear f;obtain⟨_,⟨rfl,B⟩|⟨ad,c,D,rfl,_,_⟩⟩:=hx<;>obtain⟨_,⟨rfl,i⟩|⟨A,e,g,rfl,_,_⟩⟩:=C;omega;(·(have p:((0:Y)!=(z m:Y))=bX:=by rw[zl];omega);(go_in);go_wp2;go_ret;exact⟨rfl,0,rfl⟩);(·(have p:((z l:Y)!=(0:Y))=bX:=by rw[zl];omega);(go_in);go_wp2;go_ret;exact⟨rfl,0,rfl⟩);(have p:((z l:Y)!=(z m:Y))=bX:=by rw[zl];omega);(go_in);go_wp2;go_ret;exact⟨rfl,0,rfl⟩
def GS(a k:Y)(d:0<k)(e:k<=100):0<=wrap64 ((IntKind.u64.wrap a).tmod k)/\wrap64 ((IntKind.u64.wrap a).tmod k)<k:=by
 rw[ib,Int.tmod_eq_emod_of_nonneg<|Int.emod_nonneg _<|by decide];have b:=Int.emod_nonneg (a%18446744073709551616) (show k≠0 by omega);have c:=Int.emod_lt_of_pos (a%18446744073709551616) d;generalize a%18446744073709551616%k=x at*;have f:wrap64 x=x:=by unfold wrap64;omega
 rw[f];exact⟨b,c⟩
def su(a k:Y):Y:=wrap64<|(IntKind.u64.wrap a).tmod k
def PO(b c:Y)(w:I):cA bG 25 #[aq b,aq c] w λe a=>e=aP (dE #[aq<|su b 34,aq<|su c 8])/\a=w:=by
 go_in
 go_wp2;go_ret2
 exact⟨rfl,rfl⟩
theorem dG:(∀(l:jd)(i:R)(x:aa),l.toArray.setIfInBounds i x=(l.set i x).toArray)/\(∀(x c:aa)(l:jd),(x::l).set 0 c=c::l)/\∀(x c:aa)(l:jd)(n:R),(x::l).set (n+1) c=x::l.set n c:=⟨λ_ _ _=>by simp,λ_ _ _=>rfl,λ_ _ _ _=>rfl⟩
theorem gp:(∀(l:jd)(i:R)(h:i<l.toArray.size),l.toArray[i]=l[i]'(by simpa using h))/\(∀(x:aa)(l:jd)(i:R)(h:i+1<z (x::l)),(x::l)[i+1]=l[i]'(by simpa using h))/\∀(x:aa)(l:jd)(h:0<z (x::l)),(x::l)[0]=x:=⟨λ_ _ _=>rfl,λ_ _ _ _=>rfl,λ_ _ _=>rfl⟩
section
variable{P:Program}{a:Array Oper}{Q:Exit->Act->I->Prop}{md:Region.Mode}{S:I->Prop}
def lf(P:Program)(md:Region.Mode)(a:Array Oper)(Q:Exit->Act->I->Prop)(S:I->Prop)(m:R):R->Array Bool->Act->I->Prop
 |0,b,d,w=>Region.ready md a b=[]/\Q .normal d w
 |fuel+1,b,d,w=>
  (Region.ready md a b=[]->Q .normal d w)/\∀i∈Region.ready md a b,wpOp P a Q i (λe c=>(i≠m->S c)/\lf P md a Q S m fuel (b.setIfInBounds i bX) e c) d w
theorem oM{m:R}:∀(b:R)(c:Array Bool)(i:Act)(w:I),lf P md a Q S m b c i w->wpAny P md a Q b c i w
 |0,_,_,_,h=>h
 |b+1,_,_,_,h=>⟨h.1,λj f=>uO (λd g e=>oM b _ d g e.2)<|h.2 j f⟩
theorem Iu{r X:R}{p W:Oper}{ad:aa}(F:a[r]?=M p)(hm:a[X]?=M W)(L:∃m∈W.after,Region.binds md m=bX/\m.on=r)(k:∀(l:R)(an:Oper)s V,a[l]?=M an->an.op≠ .select s V)(hQ:∀al C D,Q (.panic al) (C.put p.dst ad) D->Q (.panic al) C D):∀(c:R)(b:Array Bool)(C:Act)(D:I),(∀l q,a[l]?=M q->l≠r->b.getD l bX=bF->(∀m∈q.after,Region.binds md m=bX->m.on≠r)->p.apart a q=bX)->r∈Region.ready md a b->YieldsIf P a S p ad C->S D->lf P md a Q S X c (b.setIfInBounds r bX) (C.put p.dst ad) D->lf P md a Q S X (c+1) b C D:=by
 intro c;induction c with
 |zero=>
  intro b C D _ o B t e;refine⟨λac=>(by rw[ac]at o;cases o),λl A=>?_⟩;by_cases d:l=r
  .subst d;exact B.wpOp F t ⟨λ_=>t,e⟩
  .have:=sK A d;rw[e.1]at this;cases this
 |succ c ih=>
  intro b C D f o B t e;refine⟨λac=>(by rw[ac]at o;cases o),λl A=>?_⟩;by_cases d:l=r
  .subst d;exact B.wpOp F t ⟨λ_=>t,e⟩
  .have n:=e.2 l<|sK A d;obtain⟨i,q,g,u⟩:=yn.1 A;have j:∀m∈q.after,Region.binds md m=bX->m.on≠r:=λm N E x=>by
    have n:=u m N E;have K:=(yn.1 o).1;rw[x]at n;rcases dK r b.size with v|v
    .simp[v]at K n;rw[K]at n;cases n
    .simp[eL v]at n
   have h2:=wpOp_putIf g (f l q g d i j) (λs V=>k r p s V F) (λs V=>k l q s V g) hQ B n;have h:∀T ok,a[T]?=M ok->T≠r->(b.setIfInBounds l bX).getD T bX=bF->(∀m∈ok.after,Region.binds md m=bX->m.on≠r)->p.apart a ok=bX:=λT ok hk K x N=>by
    refine f T ok hk K ?_ N;by_cases v:l=T
    .subst v;exact i
    .rw[getD_set_ne bX v]at x;exact x
   have O:=sK o<|Ne.symm d;have w:l≠X:=λm=>by
    subst m;obtain⟨K,x,E,v⟩:=L;rw[hm]at g;cases g;exact j K x E v
   refine uO (λa' w' y=>⟨λ_=>y.2.1 w,ih (b.setIfInBounds l bX) a' w' h O y.1 (y.2.1 w) ?_⟩) h2;rw[uw _ _ d];exact y.2.2
theorem lR{i t:R}{d k:Oper}{v:aa}{c:R}{b:Array Bool}{e:Act}{w:I}(j:a[i]?=M d)(p:a[t]?=M k)(g:(k.after.any λx=>Region.binds md x&&x.on==i)=bX)(r:Region.noSelect a=bX)(n:Region.free md a b i=bX)(q:(Region.ready md a b).contains i=bX)(l:∀u e w,Q (.panic u) (e.put d.dst v) w->Q (.panic u) e w)(s:YieldsIf P a S d v e)(m:S w)(y:lf P md a Q S t c (b.setIfInBounds i bX) (e.put d.dst v) w):lf P md a Q S t (c+1) b e w:=Iu j p (by
 obtain⟨A,o,h⟩:=Array.any_eq_true.1 g;simp only[jZ,beq_iff_eq]at h;exact⟨_,tY o,h.1,h.2⟩) (Region.noSelect_spec r) l c b e w (Region.free_spec j n) (by simpa using q) s m y
theorem aM{i n:R}{o:Oper}{c:R}{b:Array Bool}{j:Act}{w:I}(l:a[i]?=M o)(k:o.guard=none)(h:Region.ready md a b=[i])(p:∀K:Act->I->Prop,(∀d w',(i≠n->S w')->lf P md a Q S n c (b.setIfInBounds i bX) d w'->K d w')->Oper.wp P o j w K Q):lf P md a Q S n (c+1) b j w:=by
 refine⟨λe=>(by rw[h]at e;cases e),λq g=>?_⟩;rw[h]at g;obtain rfl:q=i:=by simpa using g
 unfold wpOp;simp only[l];have m:Region.wanted o (yielded a j.tmps)=bX:=by simp[Region.wanted,k]
 rw[dt m];exact .inl<|p _<|λd w' e g=>⟨e,g⟩
theorem cX{m:R}{b:Array Bool}{e:Act}{w:I}(d:Region.ready md a b=[])(h:Q .normal e w):∀c,lf P md a Q S m c b e w
 |0=>⟨d,h⟩
 |_+1=>⟨λ_=>h,by rw[d];simp⟩
theorem cz(S:I->Prop)(m:R){id:R}{c:Act}{w:I}(b:P.follows .mixedOrders=bX)(h:lf P .any a Q S m a.size (Array.replicate a.size bF) c w.drew):(Code.region id a bX).wp P Q c w:=yV b<|oM _ _ _ _ h
end
def Af{P:Program}{k:Array Oper}{s:Oper}{u:Act}{ac:Act->I->Prop}{au:Exit->Act->I->Prop}{E:Prop}(O:s.guard=none)(an ao:Operand)(A:TypeId)(p:s.op=Op.call {callee:=Callee.builtin Builtin.append,args:=#[an,ao],argTypes:=#[A,A]})(b:R)(w:TypeId)(x:TypeInfo)(i:aa)(c bytes:R)(W:P.underlying A=M (.slice w))(Q:P.info? w=M x)(hz:x.zero=M i)(h:x.size=c)(o:x.bytes=bytes)(r:i.cells.size=c)(q:0<c)(C:aa)(y:R)(t:jd)(V:u.eval an=C)(j:a.ownsRow b w c C y t)(n:Addr)(v ad:R)(d:jd)(hx:u.eval ao=ah (M n) v ad)(S:z d=v*c)(g:∀al B,d[al]?=M B->aS a (n.add al)=M B)(D:∀B∈d,B.oneCell'=bX)(hn:y+v<=140737488355328)(e:(y+v)*bytes<=140737488355328)(f:b<=G (H a))(N:∀l m,m.ownsRow b w c l (y+v) (t++d)->eY a m C l->ac (u.put s.dst l) m):if Region.wanted s (yielded k u.tmps)=bX then Oper.wp P s u a ac au else E:=by
 have X:Region.wanted s (yielded k u.tmps)=bX:=by simp[Region.wanted,O]
 rw[dt X];obtain⟨l,m,T,F,K,_,L⟩:=nB (P:=P) a b A s.type w x i c bytes W Q hz h o r q C y t j n v ad d S g D (by unfold maxLen;omega) e f;unfold Oper.wp;simp[execOp,p,resolve,invoke,builtin,V,hx,T,Result.andThen];exact N l m F<|eY.of K L
def OJ:(prog.info? 113).map (λi=>(i.zero,i.size,i.bytes))=M (M<|eB #[aj ⟨#[]⟩,aj ⟨#[]⟩,aO bF],3,40):=by kernel_rfl
def MZ(w:I)(a:R)(o:aa)(l:uN):Prop:=w.ownsRow a 113 3 o (z l)<|eX l
def Ps(w:I)(x a b:aa)(t:TypeId):∀j u,[x,a,b][j]?=M u->aS (cF w<|aw #[x,a,b] t) (((U (G<|H w) 0):Addr).add j)=M u:=by
 intro j u c;rw[dB];unfold World.cell?;rw[fG];simpa using c
def Kr(l:uN)(A b q:R)(w:I)(W:z l<=1000000000000)(r:A<G (H w))(B:∀Q S,(eX l)[Q]?=M S->aS w (U A<|b+Q)=M S):cA bG 13 #[bE A b (z l) q] w λV D=>∃C,V=aP C/\MZ D (G<|H w) C l/\Below (G<|H w) w D:=by
 obtain⟨P,s,v,x,y⟩:=cL OJ;have m:=Z B;clear B;go_in
 go_wp2;go_loopw [3,4] (λo i wr=>∃n:R,n<=z l/\i=aq n/\MZ wr (G<|H w) o (l.take n)/\Below (G<|H w) w wr) (λ_ i _=>z l-(intOf i).toNat)
 case atStart=>exact⟨0,bB _,rfl,bN _ _ _ _,Below.refl _ _⟩
 (case round=>obtain⟨n,K,rfl,c,a⟩:=hrel;have u:G (H w)<=G (H wr):=a.size;by_cases g:n<z l;(.have j:=li l n g;have L:aS wr (U A<|b+n*3)=M (aj l[n].key):=(a.cell<|by exact r).trans<|m _ _ j.1;have N:aS wr (U A<|b+n*3+1)=M (aj l[n].val):=(a.cell<|by exact r).trans (by rw[aY];exact m _ _ j.2.1);have O:aS wr (U A<|b+n*3+2)=M (aO l[n].del):=(a.cell<|by exact r).trans (by rw[aY];exact m _ _ j.2.2);clear j;(have d:wr.ownsRow (G<|H w) 113 3 u3 n (eX<|l.take n):=by have F:wr.ownsRow (G<|H w) 113 3 u3 (z<|l.take n) (eX<|l.take n):=c;rwa[dP,Nat.min_eq_left K]at F);obtain⟨ac,T,t⟩:=aB d;subst t;have i:=Z d;have E:=Z (show eX (l.take<|n+1)=eX (l.take n)++[aj l[n].key,aj l[n].val,aO l[n].del]by unfold eX;rw[ak g,gh];simp[oR]);clear d;have k:=Z a;clear c a;go_wp2;(go_region_law (refine Af rfl (.tmp 11) (.tmp 28) 52 rfl (G<|H w) 113 P (eB #[aj ⟨#[]⟩,aj ⟨#[]⟩,aO bF]) 3 40 underlying52 s v x y rfl (by decide) (ah ac n T) n (eX<|l.take n) (by simp[Act.eval]) (jk (aU i<|aw #[aj l[n].key,aj l[n].val,aO l[n].del] 113) rfl) (U (G<|H wr) 0) 1 1 [aj l[n].key,aj l[n].val,aO l[n].del] (by simp[Act.eval]) rfl (Ps _ _ _ _ _) (by simp[Value.oneCell']) (by omega) (by omega) (by simp;omega) ?_;intro X w2 e f;obtain⟨x2,c2,rfl⟩:=aB e;have o:=Z e;have p:=Z f;clear e f));go_wp2;(all_goals go_roundw;(case rel=>exact⟨n+1,by omega,by go_num,by unfold MZ;rw[dP,Nat.min_eq_left (by omega),ae E];exact o,kF k u p (aw #[aj l[n].key,aj l[n].val,aO l[n].del] 113) rfl<|λb a=>(aI i b a).1⟩);case measure=>simp[intOf];omega));(have d:n=z l:=by omega);subst d;rw[bP]at c;have i:=Z c;have k:=Z a;clear c a;go_wp2;go_ret;exact⟨_,rfl,i,k⟩)
def Nq(w:I):cA bG 13 #[aG] w λe b=>∃a,e=aP a/\MZ b (G<|H w) a []/\Below (G<|H w) w b:=by
 go_in
 go_wp2;go_loopw [3,4] (λo i wr=>i=aq 0/\o=aG/\wr=w) (λ_ _ _=>0)
 case atStart=>exact⟨rfl,rfl,rfl⟩
 (case round=>obtain⟨rfl,rfl,rfl⟩:=hrel;go_wp2;go_ret;exact⟨_,rfl,bN _ _ _ _,Below.refl _ _⟩)
def zq(l:uN)(v:aa)(w:I)(h:z l<=1000000000000)(i:ym w v l)(f:∀k,bY v=M k->k<G (H w)):cA bG 13 #[v] w λm d=>∃c,m=aP c/\MZ d (G<|H w) c l/\Below (G<|H w) w d:=by
 obtain⟨_,⟨rfl,e⟩|⟨j,a,b,rfl,_,g⟩⟩:=i;obtain rfl:l=[]:=aR e;exact Nq w;exact Kr l j a b w h (f j rfl) g
section
variable{P:Program}{a:Array Oper}{Q:Exit->Act->I->Prop}{md:Region.Mode}{S:I->Prop}
def Om(md:Region.Mode)(a:Array Oper)(b:Array Bool)(m i:R):Bool:=match a[m]? with
 |some c=>(c.after.any λe=>Region.binds md e&&e.on==i)&&Region.noSelect a&&Region.free md a b i&&(Region.ready md a b).contains i
 |none=>bF
def Bi(P:Program)(md:Region.Mode)(a:Array Oper)(Q:Exit->Act->I->Prop)(S:I->Prop)(m _ c:R)(b:Array Bool)(d:Act)(w:I):Prop:=lf P md a Q S m c b d w
theorem cY(k:R){m c:R}{b:Array Bool}{d:Act}{w:I}(h:Bi P md a Q S m k c b d w):lf P md a Q S m c b d w:=h
theorem eA{k m c:R}{b:Array Bool}{d:Act}{w:I}(h:lf P md a Q S m c b d w):Bi P md a Q S m k c b d w:=h
theorem xq{k n:R}{e:Oper}{v:aa}{d:R}{b:Array Bool}{g:Act}{w:I}(i:S w)(j:a[k]?=M e)(c:Om md a b n k=bX)(h:∀o g w,Q (.panic o) (g.put e.dst v) w->Q (.panic o) g w)(m:YieldsIf P a S e v g)(p:Bi P md a Q S n (k+1) d (b.setIfInBounds k bX) (g.put e.dst v) w):Bi P md a Q S n k (d+1) b g w:=by
 unfold Om at c;split at c;rename_i q l;simp only[jZ]at c;exact lR j l c.1.1.1 c.1.1.2 c.1.2 c.2 h m i p;cases c
theorem eJ{k m:R}{d:Oper}{v:aa}{c:R}{b:Array Bool}{e:Act}{w:I}(h:S w)(j:a[k]?=M d)(f:Om md a b m k=bX)(g:∀n e w,Q (.panic n) (e.put d.dst v) w->Q (.panic n) e w)(i:Region.wanted d (yielded a e.tmps)=bX)(l:∀w,S w->(execOp e.eval d).run P w=.ok (.value v) w)(o:Bi P md a Q S m (k+1) c (b.setIfInBounds k bX) (e.put d.dst v) w):Bi P md a Q S m k (c+1) b e w:=xq h j f g (.inl ⟨i,l⟩) o
end
section
variable{P:Program}{a:Array Oper}{Q:Exit->Act->I->Prop}{md:Region.Mode}{S:I->Prop}
theorem sX{i j p:R}{h k:Oper}{c:R}{b:Array Bool}{m:Act}{w:I}(s:a[i]?=M h)(t:a[j]?=M k)(q:h.guard=none)(r:k.guard=none)(o:Region.ready md a b=[i,j])(e:∀K:Act->I->Prop,(∀d w',(i≠p->S w')->lf P md a Q S p c (b.setIfInBounds i bX) d w'->K d w')->Oper.wp P h m w K Q)(f:∀K:Act->I->Prop,(∀d w',(j≠p->S w')->lf P md a Q S p c (b.setIfInBounds j bX) d w'->K d w')->Oper.wp P k m w K Q):lf P md a Q S p (c+1) b m w:=by
 refine⟨λn=>(by rw[o]at n;cases n),λu g=>?_⟩;rw[o]at g;rcases aD.1 g with rfl|g;unfold wpOp;simp only[s];(have l:Region.wanted h (yielded a m.tmps)=bX:=by simp[Region.wanted,q]);rw[dt l];exact .inl<|e _<|λd w' e f=>⟨e,f⟩;(obtain rfl:u=j:=by simpa using g);unfold wpOp;simp only[t];(have l:Region.wanted k (yielded a m.tmps)=bX:=by simp[Region.wanted,r]);rw[dt l];exact .inl<|f _<|λd w' e f=>⟨e,f⟩
theorem ua{α:Type}(g:α->I->Prop)(A:α->Act)(b:Array Bool)(d:R){m e:R}{c:Array Bool}{i:Act}{w:I}(f:(∀x W,g x W->lf P md a Q S m d b (A x) W)->lf P md a Q S m e c i w)(h:∀x W,g x W->lf P md a Q S m d b (A x) W):lf P md a Q S m e c i w:=f h
theorem km{m b:R}{l c:Array Bool}{d:Act}{w:I}(h:lf P md a Q S m b l d w)(e:l=c):lf P md a Q S m b c d w:=e▸h
end
section
variable{P:Program}{a:Array Oper}{Q:Exit->Act->I->Prop}{md:Region.Mode}
theorem KS{l n:R}{d:String}{b:Array aa}{w:I}{c:aa->I->Prop}(h:Rows P d b w c):RowsIn (Fence.wide.inRound l) n P d b w c:=λg e _=>let⟨v,f,r,s⟩:=h g e;⟨v,f,r,stepsIn_wide.2 s⟩
theorem Oper.Nk{o:Oper}{b:Act}{w:I}{K:Act->I->Prop}(l n:R)(d:∀c,o.op≠ .defer c)(h:o.wp P b w K Q):o.wpIn (Fence.wide.inRound l) n P b w K Q:=by
 unfold Oper.wpIn;refine⟨λf _=>trivial,?_⟩;rw[Oper.semAt_plain (Fence.wide.inRound l) _ _ d];unfold Oper.wp at h;generalize(execOp b.eval o).run P w=r at*;cases r with
 |ok x e=>
  cases x<;>simp only[Oper.upon,Oper.uponIn]at h|-<;>first
   |exact h
   |exact⟨(λc=>(by cases c)),CallsIn.inRound l<|di.2 h⟩
   |exact⟨(λc=>(by cases c)),KS h⟩
   |exact h.elim
 |halt x e=>cases x<;>simp only[Oper.upon,Oper.uponIn]at h|-<;>exact h
theorem zo{l n:R}(g:∀(i:R)(o:Oper)j,a[i]?=M o->o.op≠ .defer j)(f:¬LetsOut Q):∀(b:R)(c:Array Bool)(p:Act)(w:I),wpAny P md a Q b c p w->wpAnyIn (Fence.wide.inRound l) n P md a Q b c p w
 |0,_,_,_,h=>h
 |b+1,_,_,_,h=>⟨h.1,λi k=>by
  have d:=uO (λe m j=>zo (l:=l) (n:=n) g f b _ e m j)<|h.2 i k;unfold wpOp at d;unfold wpOpIn;cases ho:a[i]? with
  |none=>simpa[ho]using d
  |some o=>
   simp only[ho]at d|-;split
   .rename_i e;simp only[e,iO]at d;rcases d with d|d
    .exact Oper.Nk l n (λj=>g i o j ho) d
    .exact absurd d.2 f
   .rename_i e;simp only[e]at d;exact⟨λ_ _=>trivial,d⟩⟩
def Dl(a:Array Oper):Bool:=a.all λo=>match o.op with| .defer _=>bF|_=>bX
theorem vZ(h:Dl a=bX):∀(i:R)(o:Oper)d,a[i]?=M o->o.op≠ .defer d:=by
 intro i o d c e;obtain⟨b,rfl⟩:=nP.1 c;have:=Array.all_eq_true.1 h i b;rw[e]at this;cases this
theorem tZ(S:I->Prop)(m:R){l n id:R}{b:Act}{w:I}(e:P.follows .mixedOrders=bX)(d:Dl a=bX)(c:∀b w,¬Q .outgrown b w)(h:lf P .any a Q S m a.size (Array.replicate a.size bF) b w.drew):(Code.region id a bX).wpIn (Fence.wide.inRound l) n P Q b w:=wpIn_region_any e<|zo (vZ d) (λ⟨b,w,h⟩=>c b w h) _ _ _ _<|oM _ _ _ _ h
end
def Bg{P:Program}{r n id:R}{Q:Exit->Act->I->Prop}{c:Act}{l:cD Oper}(j:P.follows .mixedOrders=bX)(e:Region.lexB .any l.toArray=bX)(i:Dl l.toArray=bX)(g:∀c a,¬Q .outgrown c a)(h:wpQuiet P l.toArray (λb=>∃n,b=a.drewN n) (λd=>∀b,(∃n,b=a.drewN n)->Q .normal d b) l c):(Code.region id l.toArray bX).wpIn (Fence.wide.inRound r) n P Q c a:=by
 simp only[Region.lexB,jZ]at e;refine wpIn_region_any j<|zo (vZ i) (λ⟨c,a,h⟩=>g c a h) _ _ _ _<|wpAny_of_quiet (C:=λb=>∃n,b=a.drewN n) (Q:=λd=>∀b,(∃n,b=a.drewN n)->Q .normal d b) (λ_ b f h=>h b f) _ _ _ _ ⟨1,rfl⟩ ?_;have:=wpAnyQ_lex (C:=λb=>∃n,b=a.drewN n) (md:=.any) e.1 l 0 (Array.replicate l.toArray.size bF) c (by simp) (by simpa using e.2) h;simpa using this
def KA:∀{l m:cK},dS l->dS m->l.Perm m->l=m
 |[],m,_,_,h=>(List.nil_perm.1 h).symm
 |a::l,[],_,_,h=>by have:=h.length_eq;simp at this
 |a::l,k::m,i,j,h=>by
  obtain⟨b,e⟩:=bA.1 i;obtain⟨f,g⟩:=bA.1 j;have n:a=k:=by
   rcases aD.1 (h.mem_iff.1<|dC ..)with c|c
   .exact c
   .rcases aD.1 (h.mem_iff.2<|dC ..)with d|d
    .exact d.symm
    .have:=lV<|f a c;rw[b k d]at this;cases this
  subst n;rw[KA e g<|(List.perm_cons a).1 h]
def tq{a:dX}(b:∀r∈k,dS r)(d:ki k)(e:a.Perm k):cQ a=cQ k:=by
 have h:∀r∈a,dS r:=λr c=>b r<|e.mem_iff.1 c;have c:a.flatten.Perm k.flatten:=e.flatten;have f:=Cz a h;have g:Kb (cQ a):=(((eK a).trans c).pairwise_iff<|λ{i j}q e=>q ⟨e.1.symm,e.2.symm⟩).2<|Aw b d;exact KA (List.Pairwise.imp₂ (λi j q e=>yP q e) f g) (ph b d)<|((eK a).trans c).trans (eK k).symm
def Cy{c:dX}(f:∀r∈k,dS r)(d:ki k)(e:c.Perm k)(b:eP)(a:Bool):gO b a c=gO b a k:=by
 unfold gO;rw[tq f d e]
def Sz(l s:cK)(k:ab):nG (l++s) k=(nG l k).or (nG s k):=List.find?_append
def Sc{m f W g O:cK}(F:Bc [K,W] [O] k)(w:∀a∈e,∀n∈K,a.key≠n.key)(x:∀a∈K,∀n∈m,a.key≠n.key)(y:∀a∈f,∀n∈K,a.key≠n.key)(A:∀a∈K,∀n∈g,a.key≠n.key)(B:∀a∈f,∀n∈W,a.key≠n.key)(C:∀a∈W,∀n∈g,a.key≠n.key):Bc [e++K++m,f++W++g] [e++m,f++O++g] k:=by
 intro p;have d:=F p;simp only[qD,yJ,sO,Sz]at d|-;have o:∀{l:cK}{c:E},nG l p=M c->c∈l/\c.key=p:=λ{l c}v=>⟨jR v,by simpa using rZ v⟩;have j:∀{l:cK}{c:E},(∀a∈l,a.key≠c.key)->c.key=p->nG l p=none:=λ{l c}v q=>nX.2<|λa b r=>v a b<|r.trans q.symm;cases ht:nG K p with
 |some c=>
  obtain⟨h,i⟩:=o ht;rw[j (λa b=>w a b c h) i,j (l:=m) (λa b r=>x c h a b r.symm) i,j (l:=f) (λa b=>y a b c h) i,j (l:=g) (λa b r=>A c h a b r.symm) i];rw[ht]at d;simpa using d
 |none=>
  rw[ht]at d;simp only[mB,sO]at d|-;rcases d with d|⟨h,i,c,s,D⟩
  .left;rw[d]
  .obtain⟨t,u⟩:=o s;rw[j (l:=f) (λa b=>B a b c t) u,j (l:=g) (λa b r=>C c t a b r.symm) u,i,s];cases hx:(nG e p).or (nG m p)with
   |some L=>left;simp
   |none=>right;exact⟨h,by simp,c,by simp,D⟩
def zn{A:dX}{b:cK}{ms:eP}{lowest:Bool}(f:∀r∈A,gT r)(e:gT b)(a:ki (A.reverse++[b])):dS (cQ<|b::A)/\dS (gO ms lowest<|b::A)/\∀(t:Y)(D:dX),(t∈ms\/∀x∈(A.reverse++[b]).flatten,x.bK<=t)->(lowest=bX->∀k,ri (D.map<|kr t) k=none)->Bc ((A.reverse++[b]).map<|kr t) [kr t<|gO ms lowest<|b::A] (D.map<|kr t):=by
 have c:∀r∈A.reverse++[b],gT r:=by intro r h;simp only[ap,jh,aD,eO,kS]at h;rcases h with h|rfl;exact f r h;exact e
 have d:(b::A).Perm (A.reverse++[b]):=((List.perm_append_singleton b A.reverse).trans<|(tU A).cons b).symm;rw[tq (λr h=>(c r h).mr) a d,Cy (λr h=>(c r h).mr) a d];exact⟨ph (λr h=>(c r h).mr) a,(EG c a ms lowest).mr,λt D e d=>Ax c a e d⟩
def FA{c:cK}(i:gT (e++K++c))(d:∀x∈e,∀a∈K,x.key≠a.key)(f:∀x∈e,∀a∈c,x.key≠a.key)(g:∀x∈K,∀a∈c,x.key≠a.key)(t:Y):kr t (e++K++c)=kr t e++kr t K++kr t c:=by
 rw[BY i (λx h a b=>(ap.1 h).elim (λq=>f x q a b)<|λq=>g x q a b) t,BY (i.sub<|oJ _ _) d t]
def RA{k d W f:cK}{ms:eP}{lowest:Bool}(s:gT (e++K++k))(m:gT (d++W++f))(v:Over (e++K++k) (d++W++f))(E:gZ e K)(x2:gZ e k)(F:gZ K k)(L:gZ d W)(N:gZ d f)(O:gZ W f)(Q:gZ d K)(S:gZ K f):dS (cQ [W,K])/\gT (d++gO ms lowest [W,K]++f)/\gZ d (gO ms lowest [W,K])/\gZ (gO ms lowest [W,K]) f/\Over (e++k) (d++gO ms lowest [W,K]++f)/\∀(h:Y)(ac:dX),(h∈ms\/∀x∈K++W,x.bK<=h)->(lowest=bX->∀ad,ri (ac.map<|kr h) ad=none)->Bc [kr h<|e++K++k,kr h<|d++W++f] [kr h<|e++k,kr h<|d++gO ms lowest [W,K]++f] (ac.map<|kr h):=by
 have r:gT K:=s.sub (by simp);have B:gT W:=m.sub (by simp);have hX:gT (e++k):=s.sub (by simp);have p:∀w∈[K,W],gT w:=by intro w u;simp only[aD,eO,kS]at u;rcases u with rfl|rfl;exact r;exact B
 have o:ki [K,W]:=by unfold ki;simp only[bA,aD,eO,kS,forall_eq,List.Pairwise.nil,sN,false_implies,implies_true];exactλc a h g=>v c (by simp[a]) h<|by simp[g]
 have X:([W,K]:dX).Perm [K,W]:=List.Perm.swap _ _ _;have em:=tq (λw u=>(p w u).mr) o X;have eo:=Cy (λw u=>(p w u).mr) o X ms lowest;have V:=EG p o ms lowest;have j:∀x∈gO ms lowest [K,W],x∈K\/x∈W:=λx t=>by simpa using zJ ms lowest [K,W] x t
 rw[em,eo];have y:gZ d (gO ms lowest [K,W]):=λc a h g=>(j h g).elim (Q c a h)<|L c a h;have A:gZ (gO ms lowest [K,W]) f:=λc a h g=>(j c a).elim (λq=>S c q h g)<|λq=>O c q h g;have T:gT (d++gO ms lowest [K,W]++f):=by refine⟨bR.2 ⟨bR.2 ⟨m.mr.sub (by simp),V.mr,λc a h g=>jl.2<|.inl<|y c a h g⟩,m.mr.sub (by simp),λc a h g=>jl.2<|.inl<|(ap.1 a).elim (λq=>N c q h g)<|λq=>A c q h g⟩,λP l=>?_⟩;rcases ap.1 l with l|l;rcases ap.1 l with l|l;exact m.key P (by simp[l]);exact V.key P l;exact m.key P<|by simp[l]
 refine⟨ph (λw u=>(p w u).mr) o,T,y,A,?_,λh ac g hD=>?_⟩;intro c a i b n;(have l:c∈e++K++k:=by simp only[ap]at a|-;rcases a with q|q;exact .inl<|.inl q;exact .inr q);have C:∀b∈K,c.key≠b.key:=λb d=>(ap.1 a).elim (λq=>oF<|E c q b d)<|λq P=>oF (F b d c q) P.symm;rcases ap.1 b with b|b;rcases ap.1 b with b|b;exact v c l i (by simp[b]) n;rcases j i b with q|q;exact absurd n<|C i q;exact v c l i (by simp[q]) n;exact v c l i (by simp[b]) n;rw[FA s E.ne x2.ne F.ne,FA m L.ne N.ne O.ne,BY hX x2.ne,FA T y.ne N.ne A.ne];have sub:∀{l:cK},gT l->∀x∈kr h l,x∈l:=λu x t=>ye u t;have C:gT e:=s.sub (by simp);have D:gT k:=s.sub (by simp);have l:gT d:=m.sub (by simp);have n:gT f:=m.sub (by simp);refine Sc ?_ (λc a i b=>E.ne c (sub C c a) i<|sub r i b) (λc a i b=>F.ne c (sub r c a) i<|sub D i b) (λc a i b=>Q.ne c (sub l c a) i<|sub r i b) (λc a i b=>S.ne c (sub r c a) i<|sub n i b) (λc a i b=>L.ne c (sub l c a) i<|sub B i b)<|λc a i b=>O.ne c (sub B c a) i<|sub n i b;exact Ax p o (g.imp_right<|λq x t=>q x<|by simpa using t) hD
section
open Go.Conc.Locks
def XW:MuLink where
 lock:=39
 unlock:=40
 ilock:=65
 iunlock:=66
 lockSlow:=113
 unlockSlow:=116
 disable:=109
 enable:=111
 acquire:=112
 relMerge:=114
 cas32:=110
 add32:=115
 tMutex:=100
 tIMutex:=98
 tPMutex:=139
 tPIMutex:=213
 tPI32:=215
 tUP:=146
 tNoCopy:=95
 tU32:=96
def Xz:MuLib bG XW:=by
 constructor<;>first|kernel_rfl|(intro w;kernel_rfl)
def lock_free(a:Addr)(w:I)(b:aS w a=M (jo 0))(c:w.frozen? a=bF):cA bG 39 #[fA<|M a] w λe d=>e=aP (dE #[])/\d=ct w a (jo 1):=MuLone.lock_free Xz a w b c
def unlock_deferred(a:Addr)(u:FrameMode)(w:I)(b:aS w a=M (jo 1))(c:w.frozen? a=bF):CallsD bG 40 #[fA<|M a] u w λf d e=>d=u/\(f=aP (dE #[])/\e=ct w a (jo 0)):=MuLone.unlock_deferred Xz a u w b c
end
section
variable{P:Program}{a:Array Oper}{Q:Exit->Act->I->Prop}{md:Region.Mode}{S:I->Prop}
def Ao(md:Region.Mode)(a:Array Oper)(i:R):R->R->Bool
 |0,_=>bF
 |n+1,j=>match a[j]? with
  |none=>bF
  |some o=>o.after.any λe=>Region.binds md e&&(e.on==i||Ao md a i n e.on)
def Cd(md:Region.Mode)(a:Array Oper)(b:Array Bool):Prop:=∀j o,a[j]?=M o->b.getD j bF=bX->∀e∈o.after,Region.binds md e=bX->b.getD e.on bF=bX
def Dr(md:Region.Mode)(a:Array Oper)(b:Array Bool):Bool:=(List.range a.size).all λj=>match a[j]? with
 |none=>bX
 |some o=>!b.getD j bF||o.after.all λe=>!Region.binds md e||b.getD e.on bF
theorem SS{b:Array Bool}(h:Dr md a b=bX):Cd md a b:=by
 intro l o d j m g f;unfold Dr at h;rw[og]at h;have c:=h l<|mD.2 (nP.1 d).1;simp only[d,j,uu,yY]at c;rw[Array.all_eq_true]at c;obtain⟨k,i,rfl⟩:=Array.mem_iff_getElem.1 g;have e:=c k i;simpa[f]using e
theorem Cd.set{b:Array Bool}{k:R}(n:Cd md a b)(j:k∈Region.ready md a b):Cd md a (b.setIfInBounds k bX):=by
 intro x p h g m f e;obtain⟨o,q,d,c⟩:=yn.1 j;by_cases l:k=x;subst l;rw[h]at d;cases d;exact getD_set_true<|c m f e;rw[getD_set_ne bF l]at g;exact getD_set_true<|n x p h g m f e
theorem An{p:R}{b:Array Bool}(j:Cd md a b):∀(n m:R)(o:Oper),a[m]?=M o->(∀f∈o.after,Region.binds md f=bX->b.getD f.on bF=bX)->Ao md a p n m=bX->b.getD p bF=bX
 |0,_,_,_,_,h=>by simp[Ao]at h
 |n+1,m,o,k,d,h=>by
  unfold Ao at h;simp only[k]at h;obtain⟨x,l,g⟩:=Array.any_eq_true.1 h;simp only[jZ,wB,beq_iff_eq]at g;have i:=d _ (tY l) g.1;rcases g.2 with f|f
  .rw[<-f];exact i
  .have hex:∃c,a[(o.after[x]).on]?=M c:=by
    cases n with
    |zero=>simp[Ao]at f
    |succ n=>
     unfold Ao at f;cases q:a[(o.after[x]).on]? with
     |none=>simp[q]at f
     |some c=>exact⟨c,rfl⟩
   obtain⟨c,e⟩:=hex;exact An j n _ c e (λh g d=>j _ c e i h g d) f
def nz(P:Program)(md:Region.Mode)(a:Array Oper)(Q:Exit->Act->I->Prop)(S:I->Prop)(m:R):R->Array Bool->Act->I->Prop
 |0,b,d,w=>Region.ready md a b=[]/\Q .normal d w
 |fuel+1,b,d,w=>
  (Region.ready md a b=[]->Q .normal d w)/\∀i∈Region.ready md a b,wpOp P a Q i (λe c=>(i<m->S c)/\nz P md a Q S m fuel (b.setIfInBounds i bX) e c) d w
theorem Ac{m:R}:∀(b:R)(c:Array Bool)(i:Act)(w:I),nz P md a Q S m b c i w->wpAny P md a Q b c i w
 |0,_,_,_,h=>h
 |b+1,_,_,_,h=>⟨h.1,λj f=>uO (λd g e=>Ac b _ d g e.2)<|h.2 j f⟩
theorem Iv{o ac:R}{p:Oper}{ao:aa}(L:a[o]?=M p)(an:o<ac)(O:∀j,ac<=j->j<a.size->Ao md a o a.size j=bX)(l:∀(j:R)(au:Oper)r ad,a[j]?=M au->au.op≠ .select r ad)(hQ:∀W F K,Q (.panic W) (F.put p.dst ao) K->Q (.panic W) F K):∀(c:R)(b:Array Bool)(F:Act)(K:I),Cd md a b->(∀j m,a[j]?=M m->j≠o->b.getD j bX=bF->(∀B∈m.after,Region.binds md B=bX->B.on≠o)->p.apart a m=bX)->o∈Region.ready md a b->YieldsIf P a S p ao F->S K->nz P md a Q S ac c (b.setIfInBounds o bX) (F.put p.dst ao) K->nz P md a Q S ac (c+1) b F K:=by
 intro c;induction c with
 |zero=>
  intro b F K _ _ n E s e;refine⟨λal=>(by rw[al]at n;cases n),λj u=>?_⟩;by_cases d:j=o
  .subst d;exact E.wpOp L s ⟨λ_=>s,e⟩
  .have:=sK u d;rw[e.1]at this;cases this
 |succ c ih=>
  intro b F K t f n E s e;refine⟨λal=>(by rw[al]at n;cases n),λj u=>?_⟩;by_cases d:j=o
  .subst d;exact E.wpOp L s ⟨λ_=>s,e⟩
  .have C:=e.2 j<|sK u d;obtain⟨k,m,g,i⟩:=yn.1 u;have x:b.getD o bF=bX->False:=λq=>by
    have A:=(yn.1 n).1;rcases dK o b.size with v|v
    .simp[v]at A q;rw[A]at q;cases q
    .simp[eL v]at q
   have y:∀B∈m.after,Region.binds md B=bX->B.on≠o:=λB N A v=>by
    have C:=i B N A;rw[v]at C;exact x C
   have h2:=wpOp_putIf g (f j m g d k y) (λr ad=>l o p r ad L) (λr ad=>l j m r ad g) hQ E C;have h:∀X ok,a[X]?=M ok->X≠o->(b.setIfInBounds j bX).getD X bX=bF->(∀B∈ok.after,Region.binds md B=bX->B.on≠o)->p.apart a ok=bX:=λX ok hk N A T=>by
    refine f X ok hk N ?_ T;by_cases v:j=X
    .subst v;exact k
    .rw[getD_set_ne bX v]at A;exact A
   have V:=sK n<|Ne.symm d;have w:j<ac:=by
    rcases dK j ac with W|W
    .exact W
    .exact(x<|An t a.size j m g i<|O j W (nP.1 g).1).elim
   refine uO (λa' w' D=>⟨λ_=>D.2.1 w,ih (b.setIfInBounds j bX) a' w' (t.set u) h V D.1 (D.2.1 w) ?_⟩) h2;rw[uw _ _ d];exact D.2.2
theorem Kk{i m:R}{d:Oper}{v:aa}{c:R}{b:Array Bool}{e:Act}{w:I}(k:a[i]?=M d)(g:i<m)(h:((List.range a.size).all λl=>decide (l<m)||Ao md a i a.size l)=bX)(s:Region.noSelect a=bX)(q:Region.free md a b i=bX)(r:(Region.ready md a b).contains i=bX)(f:Dr md a b=bX)(o:∀j e w,Q (.panic j) (e.put d.dst v) w->Q (.panic j) e w)(t:YieldsIf P a S d v e)(p:S w)(u:nz P md a Q S m c (b.setIfInBounds i bX) (e.put d.dst v) w):nz P md a Q S m (c+1) b e w:=Iv k g (λl x n=>by
 have:=og.1 h l<|mD.2 n;simp only[wB,js]at this;rcases this with j|j
 .omega
 .exact j) (Region.noSelect_spec s) o c b e w (SS f) (Region.free_spec k q) (by simpa using r) t p u
theorem gW{i p:R}{o:Oper}{d:R}{c:Array Bool}{k:Act}{w:I}(m:a[i]?=M o)(l:o.guard=none)(j:Region.ready md a c=[i])(q:∀K:Act->I->Prop,(∀f e,(i<p->S e)->nz P md a Q S p d (c.setIfInBounds i bX) f e->K f e)->Oper.wp P o k w K Q):nz P md a Q S p (d+1) c k w:=by
 refine⟨λg=>(by rw[j]at g;cases g),λr h=>?_⟩;rw[j]at h;obtain rfl:r=i:=by simpa using h
 unfold wpOp;simp only[m];have n:Region.wanted o (yielded a k.tmps)=bX:=by simp[Region.wanted,l]
 rw[dt n];exact .inl<|q _<|λf e g h=>⟨g,h⟩
theorem lS{m:R}{c:Array Bool}{f:Act}{w:I}(e:Region.ready md a c=[])(h:Q .normal f w):∀d,nz P md a Q S m d c f w
 |0=>⟨e,h⟩
 |_+1=>⟨λ_=>h,by rw[e];simp⟩
theorem lX(S:I->Prop)(m:R){id:R}{d:Act}{w:I}(c:P.follows .mixedOrders=bX)(h:nz P .any a Q S m a.size (Array.replicate a.size bF) d w.drew):(Code.region id a bX).wp P Q d w:=yV c<|Ac _ _ _ _ h
end
section
variable{P:Program}{a:Array Oper}{Q:Exit->Act->I->Prop}{md:Region.Mode}{S:I->Prop}
def yo(P:Program)(md:Region.Mode)(a:Array Oper)(Q:Exit->Act->I->Prop)(S:I->Prop)(m _ c:R)(b:Array Bool)(d:Act)(w:I):Prop:=nz P md a Q S m c b d w
def Jc(md:Region.Mode)(a:Array Oper)(b:Array Bool)(m k:R):Bool:=decide (k<m)&&((List.range a.size).all λj=>decide (j<m)||Ao md a k a.size j)&&Region.noSelect a&&Region.free md a b k&&(Region.ready md a b).contains k&&Dr md a b
theorem nk(k:R){m d:R}{c:Array Bool}{e:Act}{w:I}(h:yo P md a Q S m k d c e w):nz P md a Q S m d c e w:=h
theorem sa{k m d:R}{c:Array Bool}{e:Act}{w:I}(h:nz P md a Q S m d c e w):yo P md a Q S m k d c e w:=h
theorem sW{k m:R}{e:Oper}{v:aa}{d:R}{b:Array Bool}{f:Act}{w:I}(h:S w)(i:a[k]?=M e)(c:Jc md a b m k=bX)(g:∀l f w,Q (.panic l) (f.put e.dst v) w->Q (.panic l) f w)(j:YieldsIf P a S e v f)(n:yo P md a Q S m (k+1) d (b.setIfInBounds k bX) (f.put e.dst v) w):yo P md a Q S m k (d+1) b f w:=by
 unfold Jc at c;simp only[jZ,js]at c;exact Kk i c.1.1.1.1.1 c.1.1.1.1.2 c.1.1.1.2 c.1.1.2 c.1.2 c.2 g j h n
theorem Bh{k n:R}{e:Oper}{v:aa}{d:R}{c:Array Bool}{f:Act}{w:I}(i:S w)(l:a[k]?=M e)(g:Jc md a c n k=bX)(h:∀o f w,Q (.panic o) (f.put e.dst v) w->Q (.panic o) f w)(j:Region.wanted e (yielded a f.tmps)=bX)(m:∀w,S w->(execOp f.eval e).run P w=.ok (.value v) w)(p:yo P md a Q S n (k+1) d (c.setIfInBounds k bX) (f.put e.dst v) w):yo P md a Q S n k (d+1) c f w:=sW i l g h (.inl ⟨j,m⟩) p
end
def DB{P:Program}{d:Array Oper}{Q:Exit->Act->I->Prop}{h:Region.Mode}{S:I->Prop}{i j q:R}{k l:Oper}{c:Array Bool}{r:Act}(w:d[i]?=M k)(x:d[j]?=M l)(s:k.guard=none)(t:l.guard=none)(p:Region.ready h d c=[i,j])(u:∀K:Act->I->Prop,(∀f e,(i<q->S e)->nz P h d Q S q b (c.setIfInBounds i bX) f e->K f e)->Oper.wp P k r a K Q)(v:∀K:Act->I->Prop,(∀f e,(j<q->S e)->nz P h d Q S q b (c.setIfInBounds j bX) f e->K f e)->Oper.wp P l r a K Q):nz P h d Q S q (b+1) c r a:=by
 refine⟨λo=>(by rw[p]at o;cases o),λy g=>?_⟩;rw[p]at g;rcases aD.1 g with rfl|g;unfold wpOp;simp only[w];rw[dt<|by simp[Region.wanted,s]];exact .inl<|u _<|λf e m n=>⟨m,n⟩;(obtain rfl:y=j:=by simpa using g);unfold wpOp;simp only[x];rw[dt<|by simp[Region.wanted,t]];exact .inl<|v _<|λf e m n=>⟨m,n⟩
section
open Go.Extern.Stop Go.Stop Go.Extern
def Ks(w:I):cA bG 15 #[.nilIface] w λe a=>e=aP (aq 0)/\Below (G<|H w) w a:=by
 go_in
 go_wp2;go_ret;exact⟨rfl,(Below.refl _ w).alloc (ai _) _⟩
def KU(t:Addr)(w:I):(ReflectliteValue.unpack<|.iface 116<|fA<|M t).run bG w=.ok (eB #[fA<|M<|U (7) 116,aA<|G<|H w,aL 150]) (cF w<|aw #[fA<|M t] 116):=by kernel_rfl
def TQ(a:Addr)(w:I):(ReflectliteValue.methodAny (ReflectliteValue.valueError "reflectlite.Value.Type" 0) (λt _ _ _=>ReflectliteType.toType t) #[eB #[fA<|M<|U (7) 116,fA<|M a,aL 150]]).run bG w=.ok (.iface 230<|eB #[fA<|M<|U (7) 116]) w:=by kernel_rfl
def FY(h:aa)(w:I):(Go.method 545 230 (eB #[h]) "Kind").run bG w=.ok (310,h) w:=by kernel_rfl
def TR(w:I):((ReflectliteType.abiMethod λt=>(λa:R=>Value.int IntKind.u8 (a:Y))<$>Rtype.kind t) #[fA<|M<|U (7) 116]).run bG w=.ok (tP 22) w:=by kernel_rfl
def TS(w:I):((ReflectliteType.abiMethod λt=>(λa:R=>Value.int IntKind.u8 (a:Y))<$>Rtype.kind t) #[fA<|M<|U (7) 55]).run bG w=.ok (tP 2) w:=by kernel_rfl
def Zu(a:Sem aa)(f:TypeId->Addr->R->R->Sem aa)(v:aa):ReflectliteValue.method a f #[v]=(do match<-ReflectliteValue.parts v with|none=>a|some (t,c,b)=>f t c b<|b%32):=rfl
def GP(a:Addr)(w:I):(ReflectliteValue.parts<|eB #[fA<|M<|U (7) 116,fA<|M a,aL 150]).run bG w=.ok (M (116,a,150)) w:=by kernel_rfl
def Rc(b p:Addr)(W:I)(a:aS W b=M (fA<|M p)):(ReflectliteValue.method (ReflectliteValue.valueError "reflectlite.Value.IsNil" 0) ReflectliteValue.isNil #[eB #[fA<|M<|U (7) 116,fA<|M b,aL 150]]).run bG W=.ok (aO bF) W:=by
 rw[Zu];simp only[kj,GP,Result.andThen];simp[ReflectliteValue.isNil,loadVar,isAgg,underlying,underlying116,a,Result.andThen]
def FZ(h:aa)(w:I):(Go.method 545 230 (eB #[h]) "Elem").run bG w=.ok (340,eB #[h]) w:=by kernel_rfl
def yQ(h:aa)(w:I):(Go.method 545 230 (eB #[h]) "Implements").run bG w=.ok (341,eB #[h]) w:=by kernel_rfl
def wR(h:aa)(w:I):(Go.method 545 230 (eB #[h]) "AssignableTo").run bG w=.ok (338,eB #[h]) w:=by kernel_rfl
def TT(w:I):(ReflectliteType.method ReflectliteType.elem #[eB #[fA<|M<|U (7) 116]]).run bG w=.ok (.iface 230<|eB #[fA<|M<|U (7) 55]) w:=by kernel_rfl
def Ee(w:I):(ReflectliteType.relation "Implements" ReflectliteType.implements_ #[eB #[fA<|M<|U (7) 55],.iface 230<|eB #[fA<|M<|U (7) 50]]).run bG w=.ok (aO bX) w:=by kernel_rfl
def Ed(v:aa)(w:I):(ReflectliteType.typeOf #[.iface 55 v]).run bG w=.ok (.iface 230<|eB #[fA<|M<|U (7) 55]) w:=by kernel_rfl
def Ef(w:I):(ReflectliteType.relation "AssignableTo" ReflectliteType.assignableTo #[eB #[fA<|M<|U (7) 55],.iface 230<|eB #[fA<|M<|U (7) 55]]).run bG w=.ok (aO bX) w:=by kernel_rfl
def KX(n:Y)(w:I):(ReflectliteValue.unpack<|.iface 55<|aq n).run bG w=.ok (eB #[fA<|M<|U (7) 55,aA<|G<|H w,aL 130]) (cF w<|aw #[aq n] 55):=by kernel_rfl
def NP(w:I):(Rtype.elem? 116).run bG w=.ok (M 55) w:=by kernel_rfl
def XL(p:Addr)(w:I):(ReflectliteValue.mk 55 p ReflectliteValue.flagAddr).run bG w=.ok (eB #[fA<|M<|U (7) 55,fA<|M p,aL 386]) w:=by kernel_rfl
def Re(b p:Addr)(W:I)(a:aS W b=M (fA<|M p)):(ReflectliteValue.method (ReflectliteValue.valueError "reflectlite.Value.Elem" 0) ReflectliteValue.elem #[eB #[fA<|M<|U (7) 116,fA<|M b,aL 150]]).run bG W=.ok (eB #[fA<|M<|U (7) 55,fA<|M p,aL 386]) W:=by
 rw[Zu];simp only[kj,GP,Result.andThen];simp[ReflectliteValue.elem,loadVar,isAgg,underlying,underlying116,a,Result.andThen,NP,XL]
def Zw(v x:aa):ReflectliteValue.set #[v,x]=(do
 let(M (dst,a,fl),M (src,b,_)):=(<-ReflectliteValue.parts v,<-ReflectliteValue.parts x)
  |unsupported (.noEntry "extern/(internal/reflectlite.Value).Set.zeroValue")
 if fl/ReflectliteValue.flagAddr%2==0 then unsupported (.noEntry "extern/(internal/reflectlite.Value).Set.unaddressable")
 let c<-loadVar src b
 if<-Rtype.directlyAssignable dst src then storeVar dst a c
 else if<-Rtype.implements dst src then
  if(<-Rtype.kind src)==20 then
   match c with
   | .nilIface=>unsupported<|.noEntry "extern/reflectlite: a nil value of one interface type handed on as a value of another"
   |_=>storeVar dst a c
  else storeVar dst a (.iface src c)
 else panicString ("reflectlite.Set: value of type " ++(<-Rtype.spelt src)++ " is not assignable to type " ++(<-Rtype.spelt dst))
 pure (dE #[])):=rfl
def NM(a:Addr)(w:I):(ReflectliteValue.parts<|eB #[fA<|M<|U (7) 55,fA<|M a,aL 386]).run bG w=.ok (M (55,a,386)) w:=by kernel_rfl
def Rb(a:Addr)(w:I):(ReflectliteValue.parts<|eB #[fA<|M<|U (7) 55,fA<|M a,aL 130]).run bG w=.ok (M (55,a,130)) w:=by kernel_rfl
def NQ(w:I):(Rtype.directlyAssignable 55 55).run bG w=.ok bX w:=by kernel_rfl
def Wt(a e:Addr)(n:Y)(Df:aa)(W:I)(b:aS W e=M (aq n))(d:aS W a=M Df)(c:W.frozen? a=bF):(ReflectliteValue.set #[eB #[fA<|M<|U (7) 55,fA<|M a,aL 386],eB #[fA<|M<|U (7) 55,fA<|M e,aL 130]]).run bG W=.ok (dE #[]) (ct W a<|aq n):=by
 rw[Zw];simp only[kj,NM,Rb,Result.andThen];simp[ReflectliteValue.flagAddr,loadVar,isAgg,underlying,underlying55,b,Result.andThen,NQ,storeVar,Value.cells,storeCells,Addr.add];rw[run_store bG W a _ _<|by rfl];simp[d,c]
def pU(w:I):Prop:=aS w (U 0 0)=M (.iface 230<|eB #[fA<|M<|U (7) 50])
def Yl(n:Y)(t:Addr)(Df:aa)(e:pU a)(b:aS a t=M Df)(d:a.frozen? t=bF):cA bG 47 #[.iface 55<|aq n,.iface 116<|fA<|M t] a λk B=>k=aP (aO bX)/\B=ct (cF (cF (cF (cF a<|aw #[fA<|M t] 116)<|aw #[fA<|M<|U (7) 116,aA<|G<|H a,aL 150] 149)<|aw #[fA<|M<|U (7) 116,aA<|G<|H a,aL 150] 149)<|aw #[aq n] 55) t (aq n):=by
 unfold pU at e;have F:=@fc bG 75 _ (λa=>ReflectliteValue.unpack<|a.getD 0<|dE #[]) func75 (by kernel_rfl) (by kernel_rfl) (by kernel_rfl) (by kernel_rfl);have K:=@fc bG 76 _ (ReflectliteValue.methodAny (ReflectliteValue.valueError "reflectlite.Value.Type" 0)<|λt _ _ _=>ReflectliteType.toType t) func76 (by kernel_rfl) (by kernel_rfl) (by kernel_rfl) (by kernel_rfl);have L:=@fc bG 77 _ (ReflectliteValue.method (ReflectliteValue.valueError "reflectlite.Value.IsNil" 0) ReflectliteValue.isNil) func77 (by kernel_rfl) (by kernel_rfl) (by kernel_rfl) (by kernel_rfl);have q:=@fc bG 310 _ (ReflectliteType.abiMethod λt=>do pure (tP<|<-Rtype.kind t)) func310 (by kernel_rfl) (by kernel_rfl) (by kernel_rfl) (by kernel_rfl);have s:=@fc bG 340 _ (ReflectliteType.method ReflectliteType.elem) func340 (by kernel_rfl) (by kernel_rfl) (by kernel_rfl) (by kernel_rfl);have u:=@fc bG 341 _ (ReflectliteType.relation "Implements" ReflectliteType.implements_) func341 (by kernel_rfl) (by kernel_rfl) (by kernel_rfl) (by kernel_rfl);have l:=@fc bG 124 _ ReflectliteType.typeOf func124 (by kernel_rfl) (by kernel_rfl) (by kernel_rfl) (by kernel_rfl);have r:=@fc bG 338 _ (ReflectliteType.relation "AssignableTo" ReflectliteType.assignableTo) func338 (by kernel_rfl) (by kernel_rfl) (by kernel_rfl) (by kernel_rfl);have m:=@fc bG 125 _ (ReflectliteValue.method (ReflectliteValue.valueError "reflectlite.Value.Elem" 0) ReflectliteValue.elem) func125 (by kernel_rfl) (by kernel_rfl) (by kernel_rfl) (by kernel_rfl);have o:=@fc bG 126 _ ReflectliteValue.set func126 (by kernel_rfl) (by kernel_rfl) (by kernel_rfl) (by kernel_rfl);have T:=Ed;have N:=wR;have i:=Ef;have A:=KX;have D:=KU;have E:=TQ;have Q:=FY;have O:=FZ;have P:=yQ;have y:=TR;have x:=TS;have j:=TT;have w:=Ee;have S:=Rc (U (G<|H a) 0) t (cF (cF a<|aw #[fA<|M t] 116)<|aw #[fA<|M<|U (7) 116,aA<|G<|H a,aL 150] 149) (by simp);have f:0<G (H a):=dj _ _ e;have v:aS (cF (cF a<|aw #[fA<|M t] 116)<|aw #[fA<|M<|U (7) 116,aA<|G<|H a,aL 150] 149) (U 0 0)=M (.iface 230<|eB #[fA<|M<|U (7) 50]):=by rw[fo _ _ (U 0 0) (by first|(simp;done)|(simp;omega)),fo _ _ (U 0 0) f];exact e
 have c:t.block<G (H a):=dj _ _ b;have C:=Re (U (G<|H a) 0) t (cF (cF (cF a<|aw #[fA<|M t] 116)<|aw #[fA<|M<|U (7) 116,aA<|G<|H a,aL 150] 149)<|aw #[fA<|M<|U (7) 116,aA<|G<|H a,aL 150] 149) (by rw[fo _ _ (U (G<|H a) 0) (by simp;omega)];simp);have g:=Wt t (U (G (H a)+1+1+1) 0) n Df (cF (cF (cF (cF a<|aw #[fA<|M t] 116)<|aw #[fA<|M<|U (7) 116,aA<|G<|H a,aL 150] 149)<|aw #[fA<|M<|U (7) 116,aA<|G<|H a,aL 150] 149)<|aw #[aq n] 55) (by rw[World.cell?_alloc_at _ _ _ _<|by simp];rfl) (by rw[fo _ _ t (by simp;omega),fo _ _ t (by simp;omega),fo _ _ t (by simp;omega),fo _ _ t c];exact b) (by rw[mz _ _ t (by simp;omega),mz _ _ t (by simp;omega),mz _ _ t (by simp;omega),mz _ _ t<|Nat.ne_of_lt c];exact d);go_in
 go_wp2;refine my 1 ?_;rw[kw];go_wp2;go_ret;exact⟨rfl,rfl⟩
end
section
variable{P:Program}{a:Array Oper}{Q:Exit->Act->I->Prop}{md:Region.Mode}
theorem IM{n:R}{d:String}{b:Array aa}{w:I}{c:aa->I->Prop}(h:Rows P d b w c):RowsIn Fence.wide n P d b w c:=λg e _=>let⟨v,f,r,s⟩:=h g e;⟨v,f,r,stepsIn_wide.2 s⟩
theorem Oper.Kj{o:Oper}{b:Act}{w:I}{K:Act->I->Prop}(n:R)(d:∀c,o.op≠ .defer c)(h:o.wp P b w K Q):o.wpIn Fence.wide n P b w K Q:=by
 unfold Oper.wpIn;refine⟨λf _=>trivial,?_⟩;rw[Oper.semAt_plain Fence.wide _ _ d];unfold Oper.wp at h;generalize(execOp b.eval o).run P w=r at*;cases r with
 |ok x e=>
  cases x<;>simp only[Oper.upon,Oper.uponIn]at h|-<;>first
   |exact h
   |exact⟨(λc=>(by cases c)),di.2 h⟩
   |exact⟨(λc=>(by cases c)),IM h⟩
   |exact h.elim
 |halt x e=>cases x<;>simp only[Oper.upon,Oper.uponIn]at h|-<;>exact h
theorem Ch{n:R}(g:∀(i:R)(o:Oper)j,a[i]?=M o->o.op≠ .defer j)(f:¬LetsOut Q):∀(b:R)(c:Array Bool)(m:Act)(w:I),wpAny P md a Q b c m w->wpAnyIn Fence.wide n P md a Q b c m w
 |0,_,_,_,h=>h
 |b+1,_,_,_,h=>⟨h.1,λi k=>by
  have d:=uO (λe l j=>Ch (n:=n) g f b _ e l j)<|h.2 i k;unfold wpOp at d;unfold wpOpIn;cases ho:a[i]? with
  |none=>simpa[ho]using d
  |some o=>
   simp only[ho]at d|-;split
   .rename_i e;simp only[e,iO]at d;rcases d with d|d
    .exact Oper.Kj n (λj=>g i o j ho) d
    .exact absurd d.2 f
   .rename_i e;simp only[e]at d;exact⟨λ_ _=>trivial,d⟩⟩
theorem Bf(S:I->Prop)(m:R){n id:R}{b:Act}{w:I}(e:P.follows .mixedOrders=bX)(d:Dl a=bX)(c:∀b w,¬Q .outgrown b w)(h:lf P .any a Q S m a.size (Array.replicate a.size bF) b w.drew):(Code.region id a bX).wpIn Fence.wide n P Q b w:=wpIn_region_any e<|Ch (vZ d) (λ⟨b,w,h⟩=>c b w h) _ _ _ _<|oM _ _ _ _ h
end
def pU.alloc{w:I}(h:pU w)(o:Obj):pU (cF w o):=by
 unfold pU at*;rw[fo _ _ _<|dj _ _ h];exact h
def Nr(n:Y)(k:pU a):cA bG 15 #[.iface 55<|aq n] a λm l=>m=aP (aq n)/\Below (G<|H a) a l:=by
 have e:aS (cF a<|aw #[aq 0] 55) (U (G<|H a) 0)=M (aq 0):=by simp
 have d:(cF a<|aw #[aq 0] 55).frozen? (U (G<|H a) 0)=bF:=by simp
 have i:=Yl n (U (G<|H a) 0) (aq 0) (k.alloc _) e d;clear e d;go_in
 go_wp2_with(go_at_call 47;refine i.mono ?_;rintro m f⟨rfl,b⟩;have c:Below (G<|H a) a f:=(by rw[b];exact((((((Below.refl _ a).alloc (ai _) _).alloc (by simp) _).alloc (by simp;omega) _).alloc (by simp;omega) _).alloc (by simp;omega) _).setCell (p:=(U (G<|H a) 0)) (ai _) _);have j:aS f (U (G<|H a) 0)=M (aq n):=(by rw[b];exact World.cell?_setCell_same' _ _ _ (by rw[fo _ _ _ (by simp;omega),fo _ _ _ (by simp;omega),fo _ _ _ (by simp;omega),fo _ _ _<|by simp];simp));have g:=Z c;clear b c)
 go_ret;exact⟨rfl,g⟩
section
open Go.Extern.Stop Go.Stop Go.Extern
def Qb(a:TypeId)(v:aa)(w:I):(binOp .eql 50 (.iface a v) .nilIface).run bG w=.ok (aO bF) w:=by
 have h:∀d:R,(Op.equalIn (d+1) 50 (.iface a v) .nilIface).run bG w=.ok bF w:=λd=>by simp[Op.equalIn,eH underlying50]
 simp only[binOp];simp[Op.equal,Op.maxDepth,h 9999]
def Vo:(prog.info? 55).map (·.comparable)=M bX:=by kernel_rfl
def UP(n:Y)(w:I):cA bG 97 #[.nilIface,.iface 55<|aq n] w λe a=>e=aP (aO bF)/\a=w:=by
 have b:∀w,(binOp .eql 50 .nilIface<|.iface 55<|aq n).run bG w=.ok (aO bF) w:=λw=>run_eql_iface_nil_left w _ _ underlying50;go_in
 go_wp2;go_ret;exact⟨rfl,rfl⟩
def yT(h:aa)(w:I):(Go.method 545 230 (eB #[h]) "Comparable").run bG w=.ok (339,eB #[h]) w:=by kernel_rfl
def EW(w:I):(ReflectliteType.method (λt=>do Rtype.noPackHeld "Comparable" t;(λa:TypeInfo=>aO a.comparable)<$>typeInfo t) #[eB #[fA<|M<|U (7) 55]]).run bG w=.ok (aO bX) w:=by kernel_rfl
def Ze(v:aa)(a:TypeId)(w:I):(Instr.typeAssert (.iface 219 v) a 337 bX).run bG w=.ok (dE #[.nilIface,aO bF]) w:=run_typeAssert_lacksB underlying337 (by kernel_rfl) (by kernel_rfl) v a w
def We(v:aa)(a:TypeId)(w:I):(Instr.typeAssert (.iface 219 v) a 238 bX).run bG w=.ok (dE #[.iface 219 v,aO bX]) w:=run_typeAssert_hasB underlying238 (by kernel_rfl) v a w
def Jg(v:aa)(w:I):(Go.method 545 219 v "Unwrap").run bG w=.ok (336,v) w:=by kernel_rfl
def Nn(a:R)(n:Y)(w:I)(h:aS w (U a 1)=M (aq n)):cA bG 336 #[aA a] w λe b=>e=aP (.iface 55<|aq n)/\b=w:=by
 go_in
 go_wp2;go_ret;exact⟨rfl,rfl⟩
def SF(n:Y)(w:I):(binOp .eql 50 (.iface 55<|aq n)<|.iface 55<|aq n).run bG w=.ok (aO bX) w:=by
 obtain⟨i,b,a⟩:=qa.1 Vo;have h:∀d:R,(Op.equalIn (d+2) 50 (.iface 55<|aq n)<|.iface 55<|aq n).run bG w=.ok bX w:=λd=>by simp[Op.equalIn,eH underlying50,eH underlying55,typeInfo,b,a]
 simp only[binOp];simp[Op.equal,Op.maxDepth,h 9998]
def Se(a:R)(n:Y)(w:I)(h:aS w (U a 1)=M (aq n)):cA bG 155 #[.iface 219<|aA a,.iface 55<|aq n,aO bX] w λe b=>e=aP (aO bX)/\b=w:=by
 have g:∀w,(binOp .eql 50 (.iface 219<|aA a)<|.iface 55<|aq n).run bG w=.ok (aO bF) w:=λw=>run_eql_iface_types _ _ _ _ underlying50 (by decide) w;have i:=SF n;have j:=Qb;have d:=Ze;have f:=We;have m1:=Jg;have c:=Nn a n w h;go_in
 go_wp2;refine my 2 ?_;rw[kw];go_wp2_with fail
 apply c.mono;rintro e b⟨rfl,rfl⟩;go_wp2;rw[kw];go_wp2;go_ret;exact⟨rfl,rfl⟩
def PV(a:R)(n:Y)(w:I)(h:aS w (U a 1)=M (aq n)):cA bG 97 #[.iface 219<|aA a,.iface 55<|aq n] w λf b=>f=aP (aO bX)/\b=w:=by
 have i:=Qb;have c:=@fc bG 124 _ ReflectliteType.typeOf func124 (by kernel_rfl) (by kernel_rfl) (by kernel_rfl) (by kernel_rfl);have d:=@fc bG 339 _ (ReflectliteType.method (λt=>do Rtype.noPackHeld "Comparable" t;pure (aO (<-typeInfo t).comparable))) func339 (by kernel_rfl) (by kernel_rfl) (by kernel_rfl) (by kernel_rfl);have k:=Ed;have j:=yT;have g:=EW;have e:=Se a n w h;go_in
 go_wp2_with fail
 apply e.mono;rintro f b⟨rfl,rfl⟩;go_wp2;go_ret;exact⟨rfl,rfl⟩
end
structure pu where
 live:Bool
 v:aa
 l:iI
def FU:cD pu->jd
 |[]=>[]
 |x::r=>.bool x.live::x.v::FU r
def NA(a:cD pu):z (FU a)=z a*2:=by
 induction a with
 |nil=>rfl
 |cons x r b=>simp only[FU,aC,b];omega
def Ag:∀(a:cD pu)(j:R)(h:j<z a),(FU a)[j*2]?=M (aO a[j].live)/\(FU a)[j*2+1]?=M a[j].v
 |[],j,h=>absurd h<|gL _
 |x::r,0,_=>⟨rfl,rfl⟩
 |x::r,j+1,h=>by
  have b:=Ag r j (by simpa using h);have e:(j+1)*2=j*2+1+1:=by omega
  rw[e];simp only[FU,pA,bU];exact b
structure MX(w:I)(sv:aa)(ss:cD pu):Prop where
 row:Row w 2 sv (z ss) (FU ss)
 each:∀x∈ss,x.live=bX->jq w x.v x.l/\∀g,bY x.v=M g->g<G (H w)
 shape:∀x∈ss,∃p n c,x.v=ah p n c
 small:z ss<=1000000000
def Yp(u:aa):Prop:=(∃b,u=aO b)\/∃x n c,u=ah x n c
def zU(w:I)(v:aa):Prop:=∀k a t b,bY v=M k->w.heap[k]?=M (aw a t b)->∀u∈a.toList,Yp u
def zU.ay{S:fN}{w w':I}(m:zU w d)(l:J S w w')(g:∀k,bY d=M k->¬S k)(j:∀k,bY d=M k->k<G (H w)):zU w' d:=λk a t e c h=>m k a t e c<|(l.block k (j k c)<|g k c).symm.trans h
def zU.set{h i:R}{o:TypeId}{k:R×R}(n:zU a d)(f:bY d=M h)(c:a.heap[h]?=M (aw T o k))(m:Yp t):zU (ct a (U h i) t) d:=by
 intro r j p l e b x g;rw[f]at e;cases e;rw[aT c]at b;cases b;rw[nM]at g;rcases jQ g with q|q;exact n h _ _ _ f c x q;rw[q];exact m
def JV(a:cD pu)(n:Y):Option pu:=if n<1 then none else match a[(n-1).toNat]? with
 |some x=>if x.live then M x else none
 |none=>none
def Gr(a:cD pu)(n:Y):aa:=match JV a n with
 |some x=>.tuple #[x.v,.int .i64 0]
 |none=>.tuple #[aG,.int .i64 5]
def yz(P:Option R)(c:cD pu)(u:Y)(h:mO a b P F C d)(e:MX a d c):cA bG 51 #[aA b,aq u] a λW T=>W=aP (if C then .tuple #[aG,aq 6]else Gr c u)/\T=a:=by
 obtain⟨⟨ac,t,L,_⟩,_,_⟩:=h;have y:=cellAt t 1 rfl;have A:=cellAt t 2 rfl;have N:=e.small;clear t L;cases C with
 |true=>
  clear e;go_in
  go_wp2;go_ret2
  exact⟨rfl,rfl⟩
 |false=>
  by_cases n:u<1
  .have k:=Z (show Gr c u=dE #[aG,aq 5]by unfold Gr JV;rw[dt n]);clear e;go_in
   go_wp2;go_ret2
   exact⟨k▸rfl,rfl⟩
  .obtain⟨j,rfl⟩:∃j:R,u=(j:Y)+1:=⟨(u-1).toNat,by omega⟩;have l:((j:Y)+1-1).toNat=j:=by omega
   by_cases o:j<z c
   .obtain⟨q,r⟩:=Ag c j o;obtain⟨X,S,Q,p⟩:=e.shape c[j]<|ar o;rcases e.row.2 with⟨_,v⟩|⟨V,f,m,rfl,K,g⟩
    .omega
    have w:=g _ _ q;have O:=g _ _ r;rw[p,<-aY]at O;have s:¬((z c:Y)<(j:Y)+1):=by omega
    have B:IntKind.i64.wrap ((j:Y)+1-1)=j:=by rw[bQ];omega
    have D:(j:Y)+1-1=j:=by omega
    have E:(j:Y)<(z c:Y):=by omega
    have x:¬((j:Y)+1<1):=n;cases hlv:c[j].live with
    |true=>
     have k:=Z (show Gr c ((j:Y)+1)=dE #[ah X S Q,aq 0]by unfold Gr JV;rw[dh n,l,aK o];simp[hlv,p]);rw[hlv]at w;clear e g q r p hlv l;go_in
     go_wp2;go_ret2
     exact⟨k▸rfl,rfl⟩
    |false=>
     have k:=Z (show Gr c ((j:Y)+1)=dE #[aG,aq 5]by unfold Gr JV;rw[dh n,l,aK o];simp[hlv]);rw[hlv]at w;clear e g q r p hlv l;go_in
     go_wp2;go_ret2
     exact⟨k▸rfl,rfl⟩
   .have k:=Z (show Gr c ((j:Y)+1)=dE #[aG,aq 5]by unfold Gr JV;rw[dh n,l,dy<|by omega]);have s:(z c:Y)<(j:Y)+1:=by omega
    rcases e.row.shape with rfl|⟨V,f,m,rfl⟩
    .have q:z c=0:=by
      rcases e.row.2 with⟨_,v⟩|⟨V,f,m,p,_⟩
      .exact v
      .cases p
     have g:(0:Y)<(j:Y)+1:=by omega
     clear e l;go_in
     go_wp2;go_ret2
     exact⟨k▸rfl,rfl⟩
    .clear e l;go_in
     go_wp2;go_ret2
     exact⟨k▸rfl,rfl⟩
def Dt{a:cD pu}{x:pu}(h:JV a m=M x):x∈a/\x.live=bX:=by
 unfold JV at h;split at h;cases h;split at h;rename_i d c;split at h;rename_i b;cases h;exact⟨gz c,b⟩;cases h;cases h
def xV(a:cD pu)(n:Y)(k:ab):ab×Bool×Y:=match JV a n with
 |some x=>sB x.l k
 |none=>(⟨#[]⟩,bF,5)
def IU(r:Option R)(e:cD pu)(n:Y)(k:ab)(h:mO a b r F C d)(f:MX a d e)(t:∀x∈e,z x.l<=1000000000000)(l:k.size<=140737488351232):cA bG 36 #[aA b,aq n,aj k] a λm u=>
 m=aP (if C then .tuple #[aj ⟨#[]⟩,aO bF,aq 6]else .tuple #[aj (xV e n k).1,aO (xV e n k).2.1,aq (xV e n k).2.2])/\u=a:=by
 have c:=yz r e n h f
 clear h
 cases C with
 |true=>
  simp only[iO]at c|-;clear f;go_in
  go_wp2_with fail
  apply c.mono;rintro m s⟨rfl,rfl⟩;go_wp2;go_ret3
  exact⟨rfl,rfl⟩
 |false=>
  simp only[gV,jT]at c|-;cases hx:JV e n with
  |none=>
   have j:=Z (show xV e n k=(⟨#[]⟩,bF,5)by unfold xV;rw[hx]);have g:Gr e n=dE #[aG,aq 5]:=by unfold Gr;rw[hx]
   rw[g]at c;clear f g hx;go_in
   go_wp2_with fail
   apply c.mono;rintro m s⟨rfl,rfl⟩;go_wp2;go_ret3
   exact⟨by rw[ae j];rfl,rfl⟩
  |some x=>
   obtain⟨i,p⟩:=Dt hx;have j:=Z (show xV e n k=sB x.l k by unfold xV;rw[hx]);have g:Gr e n=dE #[x.v,aq 0]:=by unfold Gr;rw[hx]
   rw[g]at c;have o:=Qa k (f.each x i p).1 (t x i) l;obtain⟨A,w,v,q⟩:=f.shape x i;rw[q]at c o;clear f g hx i p q;go_in
   go_wp2_with fail
   apply c.mono;rintro m s⟨rfl,rfl⟩;go_wp2_with fail
   apply o.mono;rintro m y⟨rfl,rfl⟩;go_wp2;go_ret3
   exact⟨by rw[ae j];rfl,rfl⟩
def Ga(t:Option R)(f:cD pu)(p:Y)(o m:ab)(c:Y)(h:mO a b t F C d)(g:MX a d f)(y:∀x∈f,z x.l<=1000000000000):cA bG 38 #[aA b,aq p,aj o,aj m,aq c] a λq u=>
 ∃e,q=.returned (.tuple #[e,.int .i64<|if C then 6 else if(JV f p).isSome then 0 else 5])/\py u (G<|H a) e (if C then []else match JV f p with|some x=>ng x.l o m c|none=>[])/\Below (G<|H a) a u:=by
 have e:=yz t f p h g
 clear h
 cases C with
 |true=>
  simp only[iO]at e|-;clear g;go_in
  go_wp2_with fail
  apply e.mono;rintro q v⟨rfl,rfl⟩;go_wp2;go_ret2
  exact⟨_,rfl,bN _ _ _ _,Below.refl _ _⟩
 |false=>
  simp only[gV,jT]at e|-;cases hx:JV f p with
  |none=>
   have l:Gr f p=dE #[aG,aq 5]:=by unfold Gr;rw[hx]
   rw[l]at e;clear g l hx;simp only[Option.isSome_none,gV,jT];go_in
   go_wp2_with fail
   apply e.mono;rintro q v⟨rfl,rfl⟩;go_wp2;go_ret2
   exact⟨_,rfl,bN _ _ _ _,Below.refl _ _⟩
  |some x=>
   obtain⟨k,n⟩:=Dt hx;have l:Gr f p=dE #[x.v,aq 0]:=by unfold Gr;rw[hx]
   rw[l]at e;have r:=CV o m c (g.each x k n).1 (g.each x k n).2<|y x k;obtain⟨N,B,A,s⟩:=g.shape x k;rw[s]at e r;clear g l hx k n s;simp only[Option.isSome_some,iO];go_in
   go_wp2_with fail
   apply e.mono;rintro q v⟨rfl,rfl⟩;go_wp2_with fail
   apply r.mono;rintro q L⟨K,rfl,i,j⟩;obtain⟨E,D,rfl⟩:=aB i;have w:=Z<|And.intro i j;clear i j;go_wp2;go_ret2
   exact⟨_,rfl,w⟩
def PG:∀(a:cD pu)(j:R)(x:pu),j<z a->FU (a.set j x)=((FU a).set (j*2)<|aO x.live).set (j*2+1) x.v
 |[],j,x,h=>absurd h<|gL _
 |yqq::r,0,x,_=>rfl
 |yqq::r,j+1,x,h=>by
  have b:=PG r j x (by simpa using h);have e:(j+1)*2=j*2+1+1:=by omega
  rw[e];simp only[FU,dH,b]
def AU:pu:=⟨bF,aG,[]⟩
def Uh{d:cD pu}(x:pu)(q:a.ownsRow b 118 2 (bE c 0 (z d) g) (z d) (FU d))(p:l<z d):(ct (ct a (U c<|l*2)<|aO x.live) (U c<|l*2+1) x.v).ownsRow b 118 2 (bE c 0 (z d) g) (z<|d.set l x) (FU<|d.set l x):=by
 refine⟨NA _,.inr ?_⟩;rcases q.2 with⟨f,t⟩|⟨s,n,r,f,j,o,e,k,h,m⟩;cases f;cases f;refine⟨c,g,_,by rw[eT],j,aT<|aT o,by rw[eT];exact e,k,by simpa using h,?_⟩;simp only[nM,List.take_set,eT,m];exact(PG d l x p).symm
def zc(k:Option R)(f:cD pu)(n:Y)(h:mO a b k F C d)(g:MX a d f)(j:C=bX\/JV f n=none):cA bG 20 #[aA b,aq n] a λl m=>l=aP (aq<|if C then 6 else 5)/\m=a:=by
 have c:=yz k f n h g;clear h g;cases C with
 |true=>
  simp only[iO]at c|-;go_in
  go_wp2_with fail
  apply c.mono;rintro l o⟨rfl,rfl⟩;go_wp2;go_ret;exact⟨rfl,rfl⟩
 |false=>
  have e:JV f n=none:=j.elim (λq=>by cases q) id;have i:Gr f n=dE #[aG,aq 5]:=by unfold Gr;rw[e]
  simp only[gV,jT]at c|-;rw[i]at c;clear j e i;go_in
  go_wp2_with fail
  apply c.mono;rintro l o⟨rfl,rfl⟩;go_wp2;go_ret;exact⟨rfl,rfl⟩
def Ej(E:Option R)(e:cD pu)(j:R)(ad:pu)(h:mO a b E F bF d)(l:MX a d e)(p:JV e ((j:Y)+1)=M ad)(y:j<z e)(o:a.ownsRow c 118 2 d (z e) (FU e))(A:zU a d):cA bG 20 #[aA b,aq<|(j:Y)+1] a λal t=>al=aP (aq 0)/\t.ownsRow c 118 2 d (z<|e.set j AU) (FU<|e.set j AU)/\a.grownBy t (bY d)/\zU t d:=by
 have f:=yz E e ((j:Y)+1) h l;have D:Gr e ((j:Y)+1)=dE #[ad.v,aq 0]:=by unfold Gr;rw[p]
 simp only[gV,jT]at f;obtain⟨ao,pn,pc,C⟩:=l.shape ad (Dt p).1;rw[D,C]at f;obtain⟨⟨au,x,_,_⟩,_,_⟩:=h;have O:=cellAt x 1 rfl;have X:=l.small;rcases o.2 with⟨_,h0⟩|⟨N,L,ac,rfl,P,m,V,W,n,r⟩;omega;obtain⟨v,w⟩:=Ag e j y;have k:∀i,a.frozen? (U N i)=bF:=λi=>dW m;have f0:=k<|j*2;have f1:=k<|j*2+1;rcases l.row.2 with⟨q,_⟩|⟨an,s,u,q,B,g⟩;cases q;cases q;have k0:=g _ _ v;have k1:=g _ _ w;rw[cZ]at k0 k1;have K:=Z<|And.intro (Uh AU o y) (And.intro (xU (df a N (j*2)<|aO AU.live)<|df _ N (j*2+1) AU.v) ((A.set (i:=j*2) rfl m<|.inl ⟨AU.live,rfl⟩).set (i:=j*2+1) rfl (aT m)<|.inr ⟨none,0,0,rfl⟩));have Q:IntKind.i64.wrap ((j:Y)+1-1)=j:=by rw[bQ];omega
 have S:(j:Y)+1-1=j:=by omega
 have T:(j:Y)<(z e:Y):=by omega
 clear l p D C x o m n r g v w k A;go_in
 go_wp2_with fail
 apply f.mono;rintro al w1⟨rfl,rfl⟩;clear f;go_wp2;go_ret;exact⟨rfl,K⟩
def mO.set(j:a.heap[b]?=M (aw #[d,L,aO C] 46 (0,0)))(h:Below (G<|H a) a f)(l:jq f t F)(m:∀k,bY t=M k->k<G (H f))(c:bY t≠M b):mO (ct f (U b 0) t) b (bY t) F C L/\a.grownBy (ct f (U b 0) t) (M b):=by
 have e:=df f b 0 t;have g:f.heap[b]?=M (aw #[d,L,aO C] 46 (0,0)):=by rw[h.block b<|am j];exact j
 exact⟨⟨⟨t,by rw[aT g];rfl,Row.grown l e<|.inl c,rfl⟩,c,λk b=>ag (m k b) e.size⟩,xU (MN h _) e⟩
def sr(r:Option R){c:uN}(h:mO a b r F C t)(T:ym a d c)(m:∀k,bY d=M k->k<G (H a))(hr:z F+z c<=1000000000000):cA bG 14 #[aA b,d] a λs X=>
 s=aP (aq<|if C then 6 else gd c)/\(∃e,mO X b e (if C=bF/\gd c=0 then Tk F c else F) C t/\(e=r\/∀k,e=M k->G (H a)<=k))/\a.grownBy X (M b):=by
 have Q:=Z h
 obtain⟨⟨au,l,V,v⟩,p,o⟩:=h
 have B:=cellAt l 0 rfl
 have al:=cellAt l 2 rfl
 have D:=dW (i:=0) l
 have q:b<G (H a):=am l
 obtain⟨HH,P,HL,w,x,y,A⟩:=wI l V (show∀k,bY au=M k->k<G (H a)fromλk c=>o k<|v▸c) T m (show bY au≠M b from v▸p) v
 clear l V v o T m p
 cases C with
 |true=>
  go_in
  go_wp2;go_ret;exact⟨rfl,⟨r,Q,.inl rfl⟩,tz _ _⟩
 |false=>
  by_cases u:gd c=0
  .have E:(gd c==0)=bX:=by rw[u];rfl
   have ao:gd c=0:=u;clear u;rcases P.shape with rfl|⟨av,L,ac,rfl⟩;all_goals
    go_in
    go_wp2_with fail
    apply(Ih w<|by omega).mono;rintro s w0⟨rfl,rfl⟩;go_wp2_with fail
    apply(Yd c P HL w x hr).mono;rintro s w1⟨N,rfl,g,n,j,e⟩;have an:w1.frozen? (U b 0)=bF:=(e.frozen<|by exact q).trans D;have ad:aS w1 (U b 0)=_:=(e.cell<|by exact q).trans B;have f:bY N≠M b:=λs=>by rcases j with h|h;exact y<|h▸s;exact absurd (h b s)<|by omega
    have O:=Z<|mO.set HH e g n f;have K:=g.shape;have HOr:=Z (show bY N=r\/∀k,bY N=M k->G (H w0)<=k from j.imp (λs=>s.trans A) id);clear g n e f j;rcases K with rfl|⟨b1,W,S,rfl⟩;all_goals
     go_wp2;go_ret;exact⟨rfl,⟨_,O.1,HOr⟩,O.2⟩
  .have E:(gd c==0)=bF:=kT.2 u;go_in
   go_wp2_with fail
   apply(Ih w<|by omega).mono;rintro s w0⟨rfl,rfl⟩;go_wp2;go_ret;exact⟨rfl,⟨r,Q,.inl rfl⟩,tz _ _⟩
def Le(k:Option R)(h:mO a b k F C d):cA bG 28 #[aA b] a λl o=>
 l=aP (aA<|G<|H a)/\mO o (G<|H a) k F bF aG/\∃c,o=cF a c:=by
 obtain⟨⟨v,m,f,n⟩,i,c⟩:=h
 have q:=cellAt m 0 rfl
 have fin:mO (cF a<|aw #[v,aG,aO bF] 46) (G<|H a) k F bF aG:=⟨⟨v,fG _ _,Row.grown f (dA a _ none) (by rcases f.shape with rfl|⟨r,e,g,rfl⟩;exact .inr rfl;exact .inl<|by simp[bY]),n⟩,λl=>by have:=c _ l;omega,λi l=>by have:=c i l;simp;omega⟩
 have p:=Z fin
 have j:=f.shape
 clear fin m f n i c
 rcases j with rfl|⟨r,e,g,rfl⟩
 all_goals
  go_in
  go_wp2;go_ret;exact⟨rfl,p,_,rfl⟩
structure Gv where
 kd:Y
 A:Y
 B:Y
 S:ab
 T:ab
 L:aa
 cs:uN
def Gv.cells(o:Gv):jd:=[aq o.kd,aq o.A,aq o.B,aj o.S,aj o.T,o.L]
def rK(a:cD Gv):jd:=a.flatMap Gv.cells
def qz(a:cD Gv)(i:R)(h:i<z a)(j:R)(d:j<6):(rK a)[i*6+j]?=a[i].cells[j]?:=by
 induction a generalizing i with
 |nil=>simp at h
 |cons o a c=>
  have e:rK (o::a)=o.cells++rK a:=rfl;have b:z o.cells=6:=rfl;rcases i with _|i
  .rw[e,gm (by rw[b];omega)];simp
  .rw[e,dJ (by rw[b];omega),b];have:(i+1)*6+j-6=i*6+j:=by omega
   rw[this,c i<|by simpa using h];rfl
def Gx(a:uN):R:=(a.map<|λc=>1+c.key.size+c.val.size).sum
def Yq(o:Gv):R:=o.S.size+o.T.size+Gx o.cs
def FM(a:cD Gv):R:=(a.map Yq).sum
def Wc(w:I)(v:aa)(a:uN):Prop:=(ym w v a/\∀k,bY v=M k->k<G (H w))\/(a=[]/\∃(b:Addr)(c:R),v=ah (M b) 0 c)
def BB{e:uN}(j:Wc a d e):∃x h,d=ah x (z e) h:=by
 rcases j with⟨⟨k,⟨b,g⟩|⟨i,f,c,b,_⟩⟩,_⟩|⟨rfl,l,h,rfl⟩;exact⟨none,0,by rw[b,g]⟩;exact⟨_,_,b⟩;exact⟨_,_,rfl⟩
def Wc.ay{w w':I}{c:uN}(h:Wc w d c)(g:J az w w'):Wc w' d c:=by
 rcases h with⟨j,e⟩|h;exact .inl ⟨g.row j<|λk a=>⟨id,e k a⟩,λk a=>ag (e k a) g.size⟩;exact .inr h
structure FD(w:I)(v:aa)(os:cD Gv):Prop where
 row:Row w 6 v (z os) (rK os)
 VE:∀o∈os,Wc w o.L o.cs
 lt:∀k,bY v=M k->k<G (H w)
 str:∀o∈os,o.S.size<=140737488351232/\o.T.size<=140737488351232
 Zt:∀o∈os,∀c∈o.cs,c.key.size<=140737488351232/\c.val.size<=140737488351232
 len:z os<=10000000000000
 lens:∀o∈os,z o.cs<=10000000000000
def Tn(a:uN)(k:R)(h:k<z a):Gx (a.take<|k+1)=Gx (a.take k)+(1+a[k].key.size+a[k].val.size):=by
 unfold Gx;rw[ak h,aQ,gw];simp
def Ki(a:cD Gv)(i:R)(h:i<z a):FM (a.take<|i+1)=FM (a.take i)+Yq a[i]:=by
 unfold FM;rw[ak h,aQ,gw];simp
def To(a:uN)(k:R):Gx (a.take k)<=Gx a:=by
 unfold Gx;conv=>rhs;rw[<-ci k a,aQ,gw]
 omega
def Tm(a:cD Gv)(k:R):FM (a.take k)<=FM a:=by
 unfold FM;conv=>rhs;rw[<-ci k a,aQ,gw]
 omega
def NB(bc d bl:R)(b:cD Gv)(h:FD a (bE bc d (z b) bl) b):cA bG 5 #[bE bc d (z b) bl] a λbp w'=>bp=aP (aO<|decide<|z b+FM b<=1048576)/\∃q,w'=a.drewN q:=by
 by_cases bi:1048576<z b;(·(have e1:(1048576:Y)<(z b:Y):=by omega);(have F:decide (z b+FM b<=1048576)=bF:=by simp;omega);rw[F];clear h;(go_in);go_wp2;go_ret;exact⟨rfl,0,rfl⟩);(·(have e1:¬((1048576:Y)<(z b:Y)):=by omega);(have m:∀W:I,W.heap=a.heap->∀k(T:k<z b),aS W (U bc<|d+k*6+3)=M (aj b[k].S)/\aS W (U bc<|d+k*6+4)=M (aj b[k].T)/\aS W (U bc<|d+k*6+5)=M b[k].L:=λW g k T=>by obtain⟨r,⟨K,p⟩|⟨o,f,e,K,i,l⟩⟩:=h.row;cases K;(have c:∀j u,(rK b)[j]?=M u->aS W (U bc<|d+j)=M u:=λj u n=>by cases K;rw[cP (w:=a)<|by rw[g]];exact l j u n);refine⟨?_,?_,?_⟩;rw[aY];exact c _ _<|(qz b k T 3<|by omega).trans rfl;rw[aY];exact c _ _<|(qz b k T 4<|by omega).trans rfl;rw[aY];exact c _ _<|(qz b k T 5<|by omega).trans rfl);have A:=Z m;have HS:=Z h;clear h m;(go_in);(go_wp2_with fail);(go_loopw [3,4] (λnv c wr=>∃k:R,k<=z b/\c=aq k/\nv=aq (z b+FM (b.take k):R)/\z b+FM (b.take k)<=1048576/\∃q,wr=a.drewN q) (λ_ c _=>z b-(intOf c).toNat));(case atStart=>exact⟨0,bB _,rfl,by simp[FM],by simp[FM];omega,0,rfl⟩);(case round=>obtain⟨k,T,rfl,rfl,o,q,rfl⟩:=hrel;by_cases t:k<z b;(.have j:=ar t;obtain⟨c3,c4,c5⟩:=A a rfl k t;have ac:=HS.str _ j;have C:=HS.Zt _ j;have n:=HS.VE _ j;have av:=HS.lens _ j;have X:=Ki b k t;have W:=Tm b<|k+1;have u:Yq b[k]=b[k].S.size+b[k].T.size+Gx b[k].cs:=rfl;have ax:∃x lc,b[k].L=ah x (z b[k].cs) lc:=BB n;obtain⟨lx,lc,hL⟩:=ax;rw[hL]at c5 n;generalize b[k]=bq at*;obtain⟨bo,oA,oB,oS,oT,oL,c⟩:=bq;simp only at c3 c4 c5 ac C n av u hL;obtain⟨p,ba⟩:∃p,oS.size=p:=⟨_,rfl⟩;obtain⟨y,bb⟩:∃y,oT.size=y:=⟨_,rfl⟩;obtain⟨e,hM⟩:∃e,z b+FM (b.take k)=e:=⟨_,rfl⟩;rw[hM]at o|-;rw[ba,bb]at ac u;(have a1:IntKind.i64.wrap ((e:Y)+(p:Y))=(e:Y)+p:=by rw[bQ];omega);(have a2:IntKind.i64.wrap ((e:Y)+(p:Y)+(y:Y))=(e:Y)+p+y:=by rw[bQ];omega);(have e2:(k:Y)<(z b:Y):=by omega);(have e3:(0:Y)<=(k:Y):=by omega);obtain⟨N,L,O,HM,an,ad⟩:=kD X W u hM C n;clear X W u hM C n j;(go_wp2_with fail);(go_quiet(fail));rename_i nq;(go_wp2_with fail);(go_loopw [3,5] (λnv b wr=>∃l:R,l<=z c/\b=aq l/\nv=aq (e+p+y+Gx (c.take l):R)/\(0<l->e+p+y+Gx (c.take l)<=1048576)/\∃q,wr=a.drewN q) (λ_ b _=>z c-(intOf b).toNat));(case atStart=>exact⟨0,bB _,rfl,by simp[Gx],λbl=>absurd bl (by omega),q+nq,vB a q nq⟩);(case round=>obtain⟨l,hk,rfl,rfl,i,K,rfl⟩:=hrel;by_cases f:l<z c;(·(have hx:∃E g,lx=M (U E g)/\aS a (U E<|g+l*3)=M (aj c[l].key)/\aS a (U E<|g+l*3+1)=M (aj c[l].val):=by rcases ae ad with⟨⟨z1,⟨z2,z0⟩|⟨E,g,bd,z2,bk,S⟩⟩,_⟩|⟨z3,_⟩;omega;cases z2;obtain⟨w1,w2,_⟩:=li c l f;exact⟨E,g,rfl,S _ _ w1,by rw[aY];exact S _ _ w2⟩;rw[z3]at f;simp at f);obtain⟨E,g,V,d0,d1⟩:=hx;subst V;have au:=an _<|ar f;have s:=Tn c l f;have B:=To c<|l+1;obtain⟨v,w⟩:∃v,c[l].key.size=v:=⟨_,rfl⟩;obtain⟨D,x⟩:∃D,c[l].val.size=D:=⟨_,rfl⟩;rw[w,x]at au s;obtain⟨P,r⟩:∃P,e+p+y+Gx (c.take l)=P:=⟨_,rfl⟩;rw[r]at i|-;(have bn:P<=281474977759232:=by rcases l with _|l;simp[Gx]at r;omega;have:=i (by omega);omega);generalize c[l]=cc at*;obtain⟨bg,bh,bf⟩:=cc;simp only at d0 d1 w x;(have b1:IntKind.i64.wrap ((P:Y)+1)=(P:Y)+1:=by rw[bQ];omega);(have b2:IntKind.i64.wrap ((P:Y)+1+(v:Y))=(P:Y)+1+v:=by rw[bQ];omega);(have b3:IntKind.i64.wrap ((P:Y)+1+(v:Y)+(D:Y))=(P:Y)+1+v+D:=by rw[bQ];omega);(have f1:(l:Y)<(z c:Y):=by omega);(have f0:(0:Y)<=(l:Y):=by omega);obtain⟨HP,al,bm⟩:=dI r s B;by_cases ao:1048576<P+1+v+D;(·(have F:decide (z b+FM b<=1048576)=bF:=by have h1:=ae N;have Q:=ae L;have h3:=ae O;have h4:=ae HM;simp;omega);(have f2:(1048576:Y)<(P:Y)+1+v+D:=by omega);clear r s B i;(go_wp2_with fail);(go_quiet(fail));go_wp2;go_ret;exact⟨(by first|rfl|(rw[F];rfl)),_,rfl⟩);(·(have f2:¬((1048576:Y)<(P:Y)+1+v+D):=by omega);clear r s B i;(go_wp2_with fail);(go_quiet(fail));rename_i S;go_wp2;go_roundw;(case rel=>have h1:=ae HP;have Q:=ae al;refine⟨l+1,f,by go_num,?_,λ_=>by omega,_,rfl⟩;rw[Q];congr 1;omega);case measure=>simp[intOf];omega));(·(have g:l=z c:=by omega);subst g;rw[bP]at i|-;obtain⟨P,r⟩:∃P,e+p+y+Gx c=P:=⟨_,rfl⟩;rw[r]at i|-;(have f1:¬((z c:Y)<(z c:Y)):=by omega);have h1:=ae N;have Q:=ae L;have h3:=ae O;have h4:=ae HM;by_cases ao:1048576<P;(·(have F:decide (z b+FM b<=1048576)=bF:=by simp;omega);(have f2:(1048576:Y)<(P:Y):=by omega);clear h1 Q h3 h4 r i;go_wp2;go_ret;exact⟨(by first|rfl|(rw[F];rfl)),K,rfl⟩);(·(have f2:¬((1048576:Y)<(P:Y)):=by omega);(have v:z b+FM (b.take<|k+1)=P:=by omega);have s:=Z v;clear h1 Q h3 h4 r i v;go_wp2;go_roundw;(case rel=>exact⟨k+1,t,by go_num,by rw[ae s],by rw[ae s];omega,K,rfl⟩);case measure=>simp[intOf];omega))));(have c:k=z b:=by omega);subst c;rw[bP]at o|-;(have e2:¬((z b:Y)<(z b:Y)):=by omega);(have F:decide (z b+FM b<=1048576)=bX:=by simp;exact o);go_wp2;go_ret;exact⟨rfl,q,rfl⟩))
