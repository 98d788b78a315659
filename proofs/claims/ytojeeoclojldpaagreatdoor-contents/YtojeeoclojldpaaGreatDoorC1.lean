import Derived.Test.YtojeeoclojldpaaGreatDoorC0
open _root_ renaming List.length→y,Option.some→H,Bool.false→bF,Bool.true→bW,Nat→M,Int→Z,List→cr
namespace Go.Proofs.YtojeeoclojldpaaGreatDoor
open ChangeShapes WideShapes RowKit
set_option maxHeartbeats 16000000
set_option linter.all false
set_option maxRecDepth 100000
variable{b c:M}{m F:Z}{v W:ab}{D:Bool}{T:Type}
structure E where
 key:ab
 val:ab
 del:Bool
 bI:Z
abbrev cA:=cr E
abbrev dW:=cr<|cr E
variable{w:E}
def YS:E:=⟨⟨#[]⟩,⟨#[]⟩,bF,0⟩
def ic(a b:ab):Bool:=Op.bytesLess a.toList b.toList
def Mk:∀(x b:cr UInt8),Op.bytesLess x b=decide (x<b)
 |[],[]=>by simp[Op.bytesLess]
 |_::_,[]=>by simp[Op.bytesLess]
 |[],_::_=>by simp[Op.bytesLess]
 |a::x,f::b=>by
  rw[Op.bytesLess,Mk x b];simp only[List.cons_lt_cons_iff];by_cases c:a<f<;>by_cases d:a=f<;>by_cases e:x<b<;>simp[c,d,e]
def Jz(h:v.toList=W.toList):v=W:=by
 have a:∀x:ab,x.toList=x.data.toList:=λx=>nU x;rw[a,a]at h;cases v;cases W;simpa using h
def fj(a:ab):ic a a=bF:=by
 unfold ic;rw[Mk];simp
def lH{c:ab}(h:ic v W=bW)(k:ic W c=bW):ic v c=bW:=by
 unfold ic at*;rw[Mk]at*;simp at*;exact List.lt_trans h k
def lI(h:ic v W=bW):ic W v=bF:=by
 cases e:ic W v with
 |false=>rfl
 |true=>have:=lH h e;rw[fj]at this;cases this
def nN(h:ic v W=bF)(k:ic W v=bF):v=W:=by
 unfold ic at*;rw[Mk]at*;simp at*;exact Jz<|List.le_antisymm k h
def nZ(h:ic v W=bW):v≠W:=by
 rintro rfl;rw[fj]at h;cases h
def xD{c:ab}(h:ic W v=bF)(k:ic W c=bW):ic v c=bW:=by
 cases e:ic v c with
 |true=>rfl
 |false=>
  cases f:ic c v with
  |true=>have:=lH k f;rw[h]at this;cases this
  |false=>rw[nN e f,k]at h;cases h
def NW{c:ab}(h:ic v W=bW)(k:ic c W=bF):ic v c=bW:=by
 cases e:ic v c with
 |true=>rfl
 |false=>
  cases f:ic c v with
  |true=>have:=lH f h;rw[k]at this;cases this
  |false=>rw[<-nN e f,h]at k;cases k
def Rv{c:ab}(h:ic W v=bF)(k:ic c W=bF):ic c v=bF:=by
 cases e:ic c v with
 |false=>rfl
 |true=>have:=NW e h;rw[k]at this;cases this
def IV(a:ab):ic a ⟨#[]⟩=bF:=by
 unfold ic;rw[Mk];have:(⟨#[]⟩:ab).toList=[]:=by rw[nU]
 rw[this];simp
def wM(l:cr E):Prop:=l.Pairwise<|λa b=>ic a.key b.key=bW
def wM.nil:wM []:=List.Pairwise.nil
def wM.tail{l:cr E}(h:wM (w::l)):wM l:=(bw.1 h).2
def wM.head{l:cr E}(h:wM (w::l)):∀b∈l,ic w.key b.key=bW:=(bw.1 h).1
def wM.sub{l m:cr E}(h:wM m)(s:l.Sublist m):wM l:=lA s h
def wM.PW{l:cr E}(h:wM l){e:E}(c:w∈l)(d:e∈l)(f:w.key=e.key):w=e:=by
 induction l with
 |nil=>cases c
 |cons x r g=>
  rcases az.1 c with b|b
  .rcases az.1 d with a|a
   .rw[b,a]
   .rw[b]at f;exact absurd f<|nZ<|h.head e a
  .rcases az.1 d with a|a
   .rw[a]at f;exact absurd f.symm<|nZ<|h.head w b
   .exact g h.tail b a
def wM.ext{l m:cr E}(h:wM l)(k:wM m)(g:∀x,x∈l↔x∈m):l=m:=by
 induction l generalizing m with
 |nil=>
  cases m with
  |nil=>rfl
  |cons a r=>exact absurd ((g a).2<|by simp)<|by simp
 |cons x r i=>
  cases m with
  |nil=>exact absurd ((g x).1<|by simp)<|by simp
  |cons a s=>
   have f:x=a:=by
    rcases az.1 ((g x).1<|by simp)with c|c
    .exact c
    .rcases az.1 ((g a).2<|by simp)with e|e
     .exact e.symm
     .have n:=k.head x c;have j:=h.head a e;rw[lI n]at j;cases j
   subst f;congr 1;refine i h.tail k.tail<|λb=>⟨λd=>?_,λd=>?_⟩
   .rcases az.1 ((g b).1<|aJ _ d)with rfl|c
    .have:=h.head b d;rw[fj]at this;cases this
    .exact c
   .rcases az.1 ((g b).2<|aJ _ d)with rfl|c
    .have:=k.head b d;rw[fj]at this;cases this
    .exact c
def sP(l:cr E)(e:E):cr E:=l.filter (λx=>ic x.key e.key)++e::l.filter (λx=>ic e.key x.key)
def yn{l:cr E}{x:E}:x∈sP l w↔x=w\/(x∈l/\x.key≠w.key):=by
 unfold sP;simp only[am,cS,az];constructor;rintro(⟨h,k⟩|h|⟨h,k⟩);exact .inr ⟨h,nZ k⟩;exact .inl h;exact .inr ⟨h,λc=>nZ k c.symm⟩
 .rintro(h|⟨h,k⟩)
  .exact .inr<|.inl h
  .cases c:ic x.key w.key with
   |true=>exact .inl ⟨h,rfl⟩
   |false=>
    cases d:ic w.key x.key with
    |true=>exact .inr<|.inr ⟨h,rfl⟩
    |false=>exact absurd (nN c d) k
def wM.sP{l:cr E}(h:wM l)(e:E):wM (sP l e):=by
 unfold Go.Proofs.YtojeeoclojldpaaGreatDoor.sP;refine bR.2 ⟨h.sub eU,bw.2 ⟨?_,h.sub eU⟩,?_⟩;intro c a;simp at a;exact a.2;intro d b c a;simp at b;rcases az.1 a with rfl|a;exact b.2;simp at a;exact lH b.2 a.2
def gJ(l m:cr E):cr E:=m.foldl sP l
def wM.gJ{l:cr E}(h:wM l)(m:cr E):wM (gJ l m):=by
 induction m generalizing l with
 |nil=>exact h
 |cons e r a=>exact a<|h.sP e
variable{e L:cA}{k:dW}
def ahead(a b:E):Bool:=ic a.key b.key||(decide (a.key=b.key)&&decide (b.bI<a.bI))
def jd{b:E}:ahead w b=bW↔ic w.key b.key=bW\/(w.key=b.key/\b.bI<w.bI):=by
 unfold ahead;simp
def ud{b c:E}(h:ahead w b=bW)(k:ahead b c=bW):ahead w c=bW:=by
 rw[jd]at*;rcases h with h|⟨h,a⟩<;>rcases k with k|⟨k,d⟩;exact .inl<|lH h k;rw[<-k];exact .inl h;rw[h];exact .inl k;exact .inr ⟨h.trans k,by omega⟩
def wg(a:E):ahead a a=bF:=by unfold ahead;simp[fj]
def lM{b:E}(h:ahead w b=bW):ahead b w=bF:=by
 cases e:ahead b w with
 |false=>rfl
 |true=>have:=ud h e;rw[wg]at this;cases this
def mQ{b:E}(h:ahead b w=bF):ic b.key w.key=bF/\(b.key=w.key->b.bI<=w.bI):=by
 unfold ahead at h;simp at h;exact⟨h.1,λe=>h.2 e⟩
def Rh{b:E}(h:ic b.key w.key=bF)(k:b.key=w.key->b.bI<=w.bI):ahead b w=bF:=by
 unfold ahead;simp[h];exact k
def vQ{d g:E}(i:ahead d w=bF)(k:ahead g d=bF):ahead g w=bF:=by
 obtain⟨b,e⟩:=mQ i;obtain⟨a,f⟩:=mQ k;refine Rh (Rv b a)<|λh=>?_;have c:d.key=w.key:=by rw[h]at a;exact nN b a
 have:=e c;have:=f<|h.trans c.symm;omega
def lC(a:dW)(i:M):Option E:=(a[i]?.getD []).head?
def kp(a:dW):M->Option M
 |0=>none
 |n+1=>match lC a n with
  |none=>kp a n
  |some e=>match kp a n with
   |none=>H n
   |some b=>if ahead e ((lC a b).getD YS)then H n else H b
def CE(h:kp k b=none):∀i,i<b->lC k i=none:=by
 induction b with
 |zero=>intro i a;omega
 |succ b c=>
  intro i a;unfold kp at h;cases hf:lC k b with
  |none=>
   rw[hf]at h;by_cases d:i=b
   .rw[d];exact hf
   .exact c h i<|by omega
  |some e=>
   rw[hf]at h;cases hb:kp k b with
   |none=>rw[hb]at h;cases h
   |some d=>rw[hb]at h;simp only at h;split at h<;>cases h
def ua(h:kp k b=H c):c<b/\∃j,lC k c=H j/\∀i,i<b->∀f,lC k i=H f->ahead f j=bF:=by
 induction b generalizing c with
 |zero=>cases h
 |succ b n=>
  unfold kp at h;cases hf:lC k b with
  |none=>
   rw[hf]at h;obtain⟨p,j,d,e⟩:=n h;refine⟨by omega,j,d,λi m f a=>?_⟩;by_cases g:i=b
   .rw[g,hf]at a;cases a
   .exact e i (by omega) f a
  |some j=>
   rw[hf]at h;cases hb:kp k b with
   |none=>
    rw[hb]at h;cases h;refine⟨by omega,j,hf,λi m f a=>?_⟩;by_cases g:i=b
    .rw[g,hf]at a;cases a;exact wg _
    .rw[CE hb i<|by omega]at a;cases a
   |some q=>
    rw[hb]at h;obtain⟨p,o,d,e⟩:=n hb;simp only[d,gU]at h;split at h
    .rename_i l;cases h;refine⟨by omega,j,hf,λi m f a=>?_⟩;by_cases g:i=b
     .rw[g,hf]at a;cases a;exact wg _
     .exact vQ (lM l)<|e i (by omega) f a
    .rename_i l;cases h;refine⟨by omega,o,d,λi m f a=>?_⟩;by_cases g:i=b
     .rw[g,hf]at a;cases a;simpa using l
     .exact e i (by omega) f a
def total(a:dW):M:=y a.flatten
def xw(h:lC k b=H w):k.flatten.Perm (w::(k.modify b List.tail).flatten):=by
 induction k generalizing b with
 |nil=>simp[lC]at h
 |cons r d c=>
  cases b with
  |zero=>
   cases r with
   |nil=>simp[lC]at h
   |cons x t=>
    simp only[lC,List.getElem?_cons_zero,gU,List.head?_cons,tG]at h;subst h;simp
  |succ b=>
   have a:lC d b=H w:=by simpa[lC]using h
   simp only[aX,mS];refine((c a).append_left r).trans ?_;exact kV
def vF(h:lC k b=H w):total k=total (k.modify b List.tail)+1:=by
 have:=(xw h).length_eq;unfold total;rw[this];simp
def IM:M->dW->cA
 |0,_=>[]
 |n+1,a=>match kp a (y a)with
  |none=>[]
  |some b=>(lC a b).getD YS::IM n (a.modify b List.tail)
def df(a:dW):cA:=IM (total a) a
def xy{hs:dW}(h:kp hs (y hs)=none):df hs=[]:=by
 unfold df;cases e:total hs with
 |zero=>rfl
 |succ n=>unfold IM;rw[h]
def RO(h:∀i,i<y k->lC k i=none):k.flatten=[]:=by
 induction k with
 |nil=>rfl
 |cons r c b=>
  have a:=h 0 (by simp);cases r with
  |cons x t=>simp[lC]at a
  |nil=>
   simp only[aX,cC];exact b (λi a=>by have:=h (i+1) (by simp;omega);simpa[lC]using this)
def xx{hs:dW}(h:kp hs (y hs)=H b)(a:lC hs b=H w):df hs=w::df (hs.modify b List.tail):=by
 unfold df;rw[vF a];conv=>lhs;unfold IM
 rw[h];simp only[a,gU]
def fH(a:dW):(df a).Perm a.flatten:=by
 generalize c:total a=n;induction n generalizing a with
 |zero=>
  have:a.flatten=[]:=aQ c;unfold df;rw[c,this];exact List.Perm.nil
 |succ n d=>
  cases hb:kp a (y a)with
  |none=>
   have:=RO<|CE hb;rw[xy hb,this]
  |some g=>
   obtain⟨_,e,b,_⟩:=ua hb;rw[xx hb b];have f:=vF b;exact((d _<|by omega).cons e).trans (xw b).symm
def mU(a:ab):cA->cA
 |[]=>[]
 |e::r=>if e.key=a then mU e.key r else e::mU e.key r
def Ys(b:cA)(x:E):Prop:=x∈b/\∀a∈b,a.key=x.key->a.bI<=x.bI
def Yj(a:cA):Prop:=∀b∈a,∀c∈a,b.key=c.key->b.bI=c.bI->b=c
def LR(a:ab)(t:e.Pairwise (λg f=>ahead f g=bF))(p:Yj e)(s:∀x∈e,ic x.key a=bF):wM (mU a e)/\∀x,x∈mU a e↔x.key≠a/\Ys e x:=by
 induction e generalizing a with
 |nil=>exact⟨wM.nil,λx=>by simp[mU,Ys]⟩
 |cons m A u=>
  obtain⟨j,r⟩:=bw.1 t;obtain⟨q,o⟩:=u m.key r (λg a f b=>p g (by simp[a]) f<|by simp[b])<|λx i=>(mQ<|j x i).1;unfold mU;split
  .rename_i h;refine⟨q,λx=>(o x).trans ?_⟩;rw[h];constructor
   .rintro⟨g,f,k⟩;refine⟨g,aJ _ f,λb c d=>?_⟩;rcases az.1 c with rfl|c
    .exact absurd (d.symm.trans h) g
    .exact k b c d
   .rintro⟨g,f,k⟩;refine⟨g,?_,λb c d=>k b (aJ _ c) d⟩;rcases az.1 f with rfl|f
    .exact absurd h g
    .exact f
  .rename_i h;have n:ic m.key a=bF:=s m (by simp);refine⟨bw.2 ⟨λx i=>?_,q⟩,λx=>?_⟩
   .obtain⟨g,f,_⟩:=(o x).1 i;cases l:ic m.key x.key with
    |true=>rfl
    |false=>exact absurd (nN (mQ<|j x f).1 l) g
   .rw[az,o];constructor
    .rintro(rfl|⟨g,f,k⟩)
     .refine⟨h,by simp,λb c d=>?_⟩;rcases az.1 c with rfl|c
      .exact ri _
      .exact(mQ<|j b c).2 d
     .refine⟨?_,aJ _ f,λb c d=>?_⟩
      .intro l;have i:=(mQ<|j x f).1;rw[l]at i;exact h<|nN n i
      .rcases az.1 c with rfl|c
       .exact absurd d.symm g
       .exact k b c d
    .rintro⟨g,f,k⟩;rcases az.1 f with rfl|f
     .exact .inl rfl
     .by_cases l:x.key=m.key
      .left;have v:=k m (by simp) l.symm;have w:=(mQ<|j x f).2 l;exact p x (by simp[f]) m (by simp) l<|by omega
      .exact .inr ⟨l,f,λb c d=>k b (aJ _ c) d⟩
def fR(a:ab)(l:cA):cA:=l.filter<|λe=>!ic e.key a
def TQ:w∈(k.map<|fR v).flatten↔w∈k.flatten/\ic w.key v=bF:=by
 simp only[bz,aZ];constructor;rintro⟨l,⟨r,b,rfl⟩,a⟩;unfold fR at a;rw[cS]at a;exact⟨⟨r,b,a.1⟩,by simpa using a.2⟩;rintro⟨⟨r,b,a⟩,h⟩;exact⟨_,⟨r,b,rfl⟩,by unfold fR;rw[cS];exact⟨a,by simp[h]⟩⟩
def ng(l:cA)(k:ab):Option E:=l.find?<|λe=>decide<|e.key=k
def nA(h:wM e):ng e v=H w↔w∈e/\w.key=v:=by
 unfold ng;constructor;intro a;exact⟨jJ a,by have:=rI a;simpa using this⟩
 .rintro⟨b,c⟩;cases a:e.find? (λw=>decide<|w.key=v)with
  |none=>
   rw[mB]at a;exact absurd c<|by simpa using a w b
  |some x=>
   have d:=jJ a;have f:x.key=v:=by have:=rI a;simpa using this
   rw[h.PW d b<|f.trans c.symm]
def nB:ng e v=none↔∀a∈e,a.key≠v:=by
 unfold ng;rw[mB];simp
def RV(h:wM e)(c:wM L)(f:∀x,x.key=v->(x∈e↔x∈L)):ng e v=ng L v:=by
 cases hm:ng L v with
 |none=>
  rw[nB]at hm|-;intro x d b;exact hm x ((f x b).1 d) b
 |some a=>
  rw[nA c]at hm;exact(nA h).2 ⟨(f a hm.2).2 hm.1,hm.2⟩
def LU(h:wM e)(c:E)(k:ab):ng (sP e c) k=if k=c.key then H c else ng e k:=by
 split;rename_i a;exact(nA<|h.sP c).2 ⟨yn.2<|.inl rfl,a.symm⟩;rename_i a;refine RV (h.sP c) h<|λx d=>?_;rw[yn];constructor;rintro(rfl|b);exact absurd d.symm a;exact b.1;intro b;exact .inr ⟨b,λc=>a<|d.symm.trans c⟩
def qL(a:dW)(k:ab):Option E:=a.findSome?<|λr=>ng r k
def yu(k:ab):qL [] k=none:=rfl
def qi(r:cA)(a:dW)(k:ab):qL (r::a) k=(ng r k).or (qL a k):=by
 unfold qL;rw[rS];cases ng r k<;>rfl
def vV(a b:dW)(k:ab):qL (a++b) k=(qL a k).or (qL b k):=by
 induction a with
 |nil=>simp[yu]
 |cons r a c=>rw[cq,qi,qi,c,Option.or_assoc]
def RU(k:ab):ng [] k=none:=rfl
def Over(r s:cA):Prop:=∀a∈r,∀b∈s,a.key=b.key->b.bI<a.bI
def ku(a:dW):Prop:=a.Pairwise Over
def ku.over(h:ku (e::k)):Over e k.flatten:=by
 intro f b g a c;obtain⟨s,d,a⟩:=bz.1 a;exact(bw.1 h).1 s d f b g a c
def Pr(m:∀r∈k,wM r)(l:ku k):qL k v=H w↔Ys k.flatten w/\w.key=v:=by
 induction k with
 |nil=>simp[yu,Ys]
 |cons r k n=>
  have j:=n (λr a=>m r<|by simp[a]) (bw.1 l).2;have i:=l.over;have g:=m r (by simp);rw[qi];cases hf:ng r v with
  |some x=>
   have b:=(nA g).1 hf;simp only[Option.some_or,tG,aX];constructor
   .rintro rfl;refine⟨⟨ik _ b.1,λd c f=>?_⟩,b.2⟩;rcases am.1 c with c|c
    .rw[g.PW c b.1 f];exact ri _
    .exact Int.le_of_lt<|i x b.1 d c f.symm
   .rintro⟨⟨a,h⟩,e⟩;rcases am.1 a with a|a
    .exact g.PW b.1 a<|b.2.trans e.symm
    .have o:=h x (ik _ b.1)<|b.2.trans e.symm;have p:=i x b.1 w a<|b.2.trans e.symm;omega
  |none=>
   have b:=nB.1 hf;simp only[lX,aX];rw[j];constructor
   .rintro⟨⟨a,h⟩,e⟩;refine⟨⟨hZ _ a,λd c f=>?_⟩,e⟩;rcases am.1 c with c|c
    .exact absurd (f.trans e)<|b d c
    .exact h d c f
   .rintro⟨⟨a,h⟩,e⟩;refine⟨⟨?_,λd c f=>h d (hZ _ c) f⟩,e⟩;rcases am.1 a with a|a
    .exact absurd e<|b w a
    .exact a
def seen(a:dW)(k:ab):Option ab:=(qL a k).bind<|λe=>if e.del then none else H e.val
def Rb{a h D:dW}(A:ku (k++a++D))(w:ku h)(f:∀B∈h.flatten,B∈a.flatten):ku (k++h++D):=by
 obtain⟨s,t,o⟩:=bR.1 A;obtain⟨u,_,v⟩:=bR.1 s;have d:∀g∈h,∀i∈g,∃p∈a,i∈p:=λg e i c=>bz.1<|f i<|bz.2 ⟨g,e,c⟩;refine bR.2 ⟨bR.2 ⟨u,w,?_⟩,t,?_⟩;intro r b g n q j i c m;obtain⟨p,e,l⟩:=d g n i c;exact v r b p e q j i l m;intro r b x n;rcases am.1 b with b|b;exact o r (ik _ b) x n;intro q j i c m;obtain⟨p,e,l⟩:=d r b q j;exact o p (hZ _ e) x n q l i c m
def AL(a b D:dW):Prop:=∀k,qL b k=qL a k\/(qL D k=none/\qL b k=none/\∃e,qL a k=H e/\e.del=bW)
def Ti{a b D:dW}(h:AL a b D)(c:ab):seen (k++b++D) c=seen (k++a++D) c:=by
 unfold seen;rw[vV,vV,vV,vV];rcases h c with h|⟨d,e,i,f,g⟩;rw[h]
 .rw[d,e,f];cases qL k c with
  |some x=>simp
  |none=>simp[g]
def dQ(l:cA):Prop:=l.Pairwise<|λa b=>ahead a b=bW
def dQ.nil:dQ []:=List.Pairwise.nil
def dQ.sub(h:dQ L)(s:e.Sublist L):dQ e:=lA s h
def dQ.MJ(h:dQ e):e.Pairwise (λa b=>ahead b a=bF):=h.imp<|λh=>lM h
def dQ.PW(q:dQ e):Yj e:=by
 induction e with
 |nil=>intro i d;cases d
 |cons p r n=>
  obtain⟨k,l⟩:=bw.1 q;have h:∀x∈r,x.key=p.key->x.bI=p.bI->False:=by
   intro x m c g;rcases jd.1 (k x m)with j|⟨_,j⟩
   .rw[c,fj]at j;cases j
   .omega
  intro i d o g c f;rcases az.1 d with rfl|a<;>rcases az.1 g with rfl|b
  .rfl
  .exact(h o b c.symm f.symm).elim
  .exact(h i a c f).elim
  .exact n l i a o b c f
structure gM(l:cA):Prop where
 mq:dQ l
 key:∀e∈l,e.key≠⟨#[]⟩
def gM.nil:gM []:=⟨dQ.nil,λ_ h=>by cases h⟩
def gM.sub(h:gM L)(s:e.Sublist L):gM e:=⟨h.mq.sub s,λb a=>h.key b<|s.subset a⟩
def ke(b:Z)(r:cA):cA:=mU ⟨#[]⟩<|r.filter<|λe=>decide<|e.bI<=b
def PH(j:gM e)(h:Z):wM (ke h e)/\∀x,x∈ke h e↔x∈e/\x.bI<=h/\∀a∈e,a.key=x.key->a.bI<=h->a.bI<=x.bI:=by
 have i:dQ (e.filter<|λa=>decide<|a.bI<=h):=j.mq.sub eU;obtain⟨s,m⟩:=LR ⟨#[]⟩ i.MJ i.PW<|λx _=>IV x.key;refine⟨s,λx=>?_⟩;unfold ke;rw[m];constructor;rintro⟨_,b,g⟩;obtain⟨b,d⟩:=cS.1 b;exact⟨b,pF d,λa c f e=>g a (cS.2 ⟨c,pG e⟩) f⟩;rintro⟨b,d,g⟩;exact⟨j.key x b,cS.2 ⟨b,pG d⟩,λa c f=>g a (cS.1 c).1 f<|pF (cS.1 c).2⟩
def mG(h:gM e)(b:Z):wM (ke b e):=(PH h b).1
def jg(h:gM e):w∈ke m e↔w∈e/\w.bI<=m/\∀a∈e,a.key=w.key->a.bI<=m->a.bI<=w.bI:=(PH h m).2 w
def xP(h:gM e)(a:w∈ke m e):w∈e:=((jg h).1 a).1
def iA(b:Z)(r:cA)(k:ab):Option E:=r.find?<|λe=>decide (e.key=k)&&decide (e.bI<=b)
def Cr(n:gM e)(k:iA m e v=H w):w∈ke m e/\w.key=v:=by
 obtain⟨b,o,p,c,l⟩:=List.find?_eq_some_iff_append.1 k;simp only[jT,jl]at b;refine⟨(jg n).2 ⟨by rw[c];simp,b.2,λa g d j=>?_⟩,b.1⟩;rw[c]at g;rcases am.1 g with q|q;have:=l a q;simp[d,b.1,j]at this;rcases az.1 q with rfl|q;exact ri _;have f:=n.mq;rw[c]at f;have i:=(bR.1 f).2.1;rcases jd.1 ((bw.1 i).1 a q)with h|⟨_,h⟩;rw[d,fj]at h;cases h;omega
def Cs(d:iA m e v=none):∀a∈e,a.key=v->¬a.bI<=m:=by
 intro a c f b;have:=mB.1 d a c;simp[f,b]at this
def RX(h:gM e)(b:Z)(k:ab):iA b e k=ng (ke b e) k:=by
 cases hf:iA b e k with
 |some g=>exact((nA<|mG h b).2<|Cr h hf).symm
 |none=>
  refine(nB.2 λg d f=>?_).symm;obtain⟨a,c,_⟩:=(jg h).1 d;exact Cs hf g a f c
def Vf(h:gM e)(f:w∈e)(d:w.bI<=m):∃a∈ke m e,a.key=w.key/\w.bI<=a.bI:=by
 cases hf:iA m e w.key with
 |some a=>
  obtain⟨b,c⟩:=Cr h hf;exact⟨a,b,c,((jg h).1 b).2.2 w f c.symm d⟩
 |none=>exact absurd d<|Cs hf w f rfl
def Over.at(k:Over e L)(b:gM e)(c:gM L)(h:Z):Over (ke h e) (ke h L):=λx d a g j=>k x (xP b d) a (xP c g) j
def KX(h:ku k)(b:∀r∈k,gM r)(f:Z):ku (k.map<|ke f):=by
 unfold ku;rw[jp];induction k with
 |nil=>exact List.Pairwise.nil
 |cons r k e=>
  obtain⟨c,d⟩:=bw.1 h;exact bw.2 ⟨λs a=>(c s a).at (b r<|by simp) (b s<|by simp[a]) f,e d<|λs a=>b s<|by simp[a]⟩
def po(a:cr Z)(p:Option E)(e:E):Bool:=match p with
 |none=>bW
 |some p=>!decide (p.key=e.key)||a.any (λm=>decide (e.bI<=m)&&decide (m<p.bI))
def kN(a:cr Z):Option E->cA->cA
 |_,[]=>[]
 |p,e::r=>if po a p e then e::kN a (H e) r else kN a (H e) r
def eE(a:cr Z)(l:cA):cA:=kN a none l
def Re(b:cr Z)(l:cA):∀p,(kN b p l).Sublist l:=by
 induction l with
 |nil=>intro p;exact ew _
 |cons e r a=>
  intro p;unfold kN;split
  .exact(a<|H e).cons_cons e
  .exact(a<|H e).cons e
def mf(a:cr Z)(l:cA):(eE a l).Sublist l:=Re a l none
def gM.Lb(h:gM e)(a:cr Z):gM (eE a e):=h.sub<|mf a e
def Rg{e:cr Z}(l:cA):∀p:Option E,dQ (p.toList++l)->w∈l->((∀a∈p.toList++l,a.key=w.key->a.bI<=w.bI)\/∃m∈e,w.bI<=m/\∀a∈p.toList++l,a.key=w.key->a.bI<=m->a.bI<=w.bI)->w∈kN e p l:=by
 induction l with
 |nil=>intro p _ c;cases c
 |cons x s r=>
  intro p k c b;have i:dQ (x::s):=(bR.1 k).2.1;unfold kN;rcases az.1 c with rfl|c
  .have o:po e p w=bW:=by
    cases p with
    |none=>rfl
    |some q=>
     unfold po;by_cases d:q.key=w.key
     .have n:ahead q w=bW:=(bR.1 k).2.2 q (by simp) w (by simp);have t:w.bI<q.bI:=by
       rcases jd.1 n with j|⟨_,j⟩
       .rw[d,fj]at j;cases j
       .exact j
      rcases b with b|⟨m,h,f,g⟩
      .have:=b q (by simp) d;omega
      .have:¬q.bI<=m:=λj=>by have:=g q (by simp) d j;omega
       rw[wk];exact .inr<|iY.2 ⟨m,h,by simp[f];omega⟩
     .simp[d]
   rw[dw o];simp
  .have j:w∈kN e (H x) s:=r (H x) i c (by
    rcases b with b|⟨m,h,f,g⟩
    .exact .inl λa d=>b a (by simp at d|-;exact .inr d)
    .exact .inr ⟨m,h,f,λa d=>g a (by simp at d|-;exact .inr d)⟩)
   split
   .exact aJ _ j
   .exact j
def yz(l:gM e){c:cr Z}(h:m∈c\/∀x∈e,x.bI<=m):ke m (eE c e)=ke m e:=by
 have i:∀x∈ke m e,x∈eE c e:=by intro x f;obtain⟨n,g,d⟩:=(jg l).1 f;refine Rg e none l.mq n ?_;rcases h with h|h;exact .inr ⟨m,h,g,λa b j o=>d a (by simpa using b) j o⟩;exact .inl λa b j=>d a (by simpa using b) j<|h a<|by simpa using b
 refine(mG (l.Lb c) m).ext (mG l m) λx=>?_;constructor;intro f;obtain⟨n,g,d⟩:=(jg<|l.Lb c).1 f;have p:=(mf c e).subset n;refine(jg l).2 ⟨p,g,λa b j o=>?_⟩;obtain⟨k,r,q,s⟩:=Vf l b o;have:=d k (i k r) (q.trans j) ((jg l).1 r).2.1;omega;intro f;obtain⟨n,g,d⟩:=(jg l).1 f;exact(jg<|l.Lb c).2 ⟨i x f,g,λa b=>d a<|(mf c e).subset b⟩
def Kf(h:∀r∈k,dQ r):∀r∈k.modify b List.tail,dQ r:=by
 intro r a;induction k generalizing b with
 |nil=>simp at a
 |cons x d c=>
  cases b with
  |zero=>
   simp only[qu,az]at a;rcases a with rfl|a
   .exact(h x<|by simp).sub<|List.tail_sublist x
   .exact h r<|by simp[a]
  |succ b=>
   simp only[mS,az]at a;rcases a with rfl|a
   .exact h r<|by simp
   .exact c (λr a=>h r<|by simp[a]) a
def TO(m:∀r∈k,dQ r)(j:∀i,i<y k->∀f,lC k i=H f->ahead f w=bF):∀x∈k.flatten,ahead x w=bF:=by
 intro x l;obtain⟨r,g,a⟩:=bz.1 l;obtain⟨i,e,rfl⟩:=dO g;have b:=m _ g;cases hc:k[i]with
 |nil=>rw[hc]at a;cases a
 |cons f t=>
  have h:lC k i=H f:=by simp[lC,e,hc]
  have d:=j i e f h;rw[hc]at a b;rcases az.1 a with rfl|c
  .exact d
  .exact vQ d<|lM<|(bw.1 b).1 x c
def Ck(a:dW)(i:∀r∈a,dQ r):(df a).Pairwise (λj c=>ahead c j=bF):=by
 generalize f:total a=n;induction n generalizing a with
 |zero=>unfold df;rw[f];exact List.Pairwise.nil
 |succ n h=>
  cases hb:kp a (y a)with
  |none=>rw[xy hb];exact List.Pairwise.nil
  |some c=>
   obtain⟨_,l,b,e⟩:=ua hb;rw[xx hb b];have k:=vF b;refine bw.2 ⟨λx g=>?_,h _ (Kf i)<|by omega⟩;have d:x∈(a.modify c List.tail).flatten:=(fH _).mem_iff.1 g;exact TO i e x<|(xw b).mem_iff.2<|aJ _ d
def JI(l:cA):Prop:=l.Pairwise<|λa b=>¬(a.key=b.key/\a.bI=b.bI)
def dQ.Xi(h:dQ e):JI e:=h.imp λ{a b}q=>by
 rintro⟨c,d⟩;rcases jd.1 q with q|⟨_,q⟩;rw[c,fj]at q;cases q;omega
def Ag(b:∀r∈k,dQ r)(a:ku k):JI k.flatten:=by
 induction k with
 |nil=>exact List.Pairwise.nil
 |cons r k f=>
  rw[aX];refine bR.2 ⟨(b r<|by simp).Xi,f (λs e=>b s<|by simp[e]) (bw.1 a).2,λg c h d q=>?_⟩;have:=a.over g c h d q.1;omega
def yB{b:E}(h:ahead b w=bF)(k:¬(w.key=b.key/\w.bI=b.bI)):ahead w b=bW:=by
 obtain⟨a,e⟩:=mQ h;refine jd.2 ?_;by_cases c:w.key=b.key;have:=e c.symm;exact .inr ⟨c,by have:w.bI≠b.bI:=λd=>k ⟨c,d⟩;omega⟩
 .left;cases d:ic w.key b.key with
  |true=>rfl
  |false=>exact absurd (nN d a) c
def sU(a:∀r∈k,dQ r)(d:ku k):dQ (df k):=by
 have b:=Ck k a;have c:JI (df k):=((fH k).pairwise_iff<|λ{e f}q b=>q ⟨b.1.symm,b.2.symm⟩).2<|Ag a d;exact List.Pairwise.imp₂ (λe f q k=>yB q k) b c
def ny(a:∀r∈k,gM r)(e:ku k):gM (df k):=by
 refine⟨sU (λr h=>(a r h).mq) e,λf d=>?_⟩;obtain⟨r,b,c⟩:=bz.1<|(fH k).mem_iff.1 d;exact(a r b).key f c
def xA(d:∀r∈k,gM r)(u:ku k):w∈ke m (df k)↔qL (k.map<|ke m) w.key=H w:=by
 have t:=ny d u;have b:∀a,a∈df k↔∃r∈k,a∈r:=λa=>((fH k).mem_iff).trans bz;rw[Pr (λr h=>by obtain⟨C,e,rfl⟩:=aZ.1 h;exact mG (d C e) m)<|KX u d m];constructor;intro s;obtain⟨j,l,q⟩:=(jg t).1 s;obtain⟨r,c,o⟩:=(b w).1 j;refine⟨⟨bz.2 ⟨_,aZ.2 ⟨r,c,rfl⟩,(jg<|d r c).2 ⟨o,l,λa g=>q a<|(b a).2 ⟨r,c,g⟩⟩⟩,λa g n=>?_⟩,rfl⟩;obtain⟨C,e,p⟩:=bz.1 g;obtain⟨v,f,rfl⟩:=aZ.1 e;obtain⟨h,i,_⟩:=(jg<|d v f).1 p;exact q a ((b a).2 ⟨v,f,h⟩) n i;rintro⟨⟨j,l⟩,_⟩;obtain⟨C,e,o⟩:=bz.1 j;obtain⟨v,f,rfl⟩:=aZ.1 e;obtain⟨h,i,_⟩:=(jg<|d v f).1 o;refine(jg t).2 ⟨(b w).2 ⟨v,f,h⟩,i,λa g n x=>?_⟩;obtain⟨r,c,p⟩:=(b a).1 g;obtain⟨s,A,q,B⟩:=Vf (d r c) p x;have:=l s (bz.2 ⟨_,aZ.2 ⟨r,c,rfl⟩,A⟩)<|q.trans n;omega
def jh:cA->cA
 |[]=>[]
 |e::r=>if e.del&&!((jh r).any λa=>decide<|a.key=e.key)then jh r else e::jh r
def pz(l:cA):(jh l).Sublist l:=by
 induction l with
 |nil=>exact ew _
 |cons e r a=>
  unfold jh;split
  .exact a.cons e
  .exact a.cons_cons e
def GN(B:dQ e):w∈jh e↔w∈e/\(w.del=bF\/∃a∈e,a.key=w.key/\a.bI<w.bI/\a.del=bF):=by
 induction e generalizing w with
 |nil=>simp[jh]
 |cons p r m=>
  obtain⟨u,l⟩:=bw.1 B;have j:∀a∈r,a.key=p.key->a.bI<p.bI:=λa c i=>by
   rcases jd.1 (u a c)with h|⟨_,h⟩
   .rw[i,fj]at h;cases h
   .exact h
  have s:∀{w:E},w∈r->(w.del=bF\/∃a∈p::r,a.key=w.key/\a.bI<w.bI/\a.del=bF)->w∈jh r:=by
   intro w d f;refine(m l).2 ⟨d,f.imp_right ?_⟩;rintro⟨a,c,k,n,h⟩;rcases az.1 c with rfl|c
   .have:=j w d k.symm;omega
   .exact⟨a,c,k,n,h⟩
  have t:∀{w:E},w∈jh r->w∈p::r/\(w.del=bF\/∃a∈p::r,a.key=w.key/\a.bI<w.bI/\a.del=bF):=by
   intro w d;obtain⟨k,n⟩:=(m l).1 d;exact⟨aJ _ k,n.imp_right λ⟨a,c,q⟩=>⟨a,aJ _ c,q⟩⟩
  unfold jh;split
  .rename_i f;simp only[jT,Bool.not_eq_true',List.any_eq_false,jl]at f;refine⟨t,?_⟩;rintro⟨d,b⟩;rcases az.1 d with rfl|g
   .exfalso;rcases b with h|⟨a,c,k,n,h⟩
    .rw[f.1]at h;cases h
    .rcases az.1 c with rfl|o
     .omega
     .exact f.2 a ((m l).2 ⟨o,.inl h⟩) k
   .exact s g b
  .rename_i f;rw[az];constructor
   .rintro(rfl|d)
    .refine⟨by simp,?_⟩;cases hd:w.del with
     |false=>exact .inl rfl
     |true=>
      right;simp only[hd,yJ,Bool.not_eq_true',Bool.not_eq_false,iY,jl]at f;obtain⟨a,c,i⟩:=f;obtain⟨k,n⟩:=(m l).1 c;have v:=j a k i;rcases n with n|⟨o,x,h,C,A⟩
      .exact⟨a,aJ _ k,i,v,n⟩
      .exact⟨o,aJ _ x,h.trans i,by omega,A⟩
    .exact t d
   .rintro⟨d,b⟩;rcases az.1 d with rfl|g
    .exact .inl rfl
    .exact .inr<|s g b
def gM.bare(h:gM e):gM (jh e):=h.sub<|pz e
def NX(h:gM e)(B:∀v,qL k v=none)(s:Z):AL [ke s e] [ke s<|jh e] k:=by
 intro v;simp only[qi,yu,sD];cases hf:ng (ke s e) v with
 |none=>
  left;refine nB.2 λf n d=>?_;obtain⟨i,l,_⟩:=(jg h.bare).1 n;obtain⟨b,c,a,_⟩:=Vf h ((pz e).subset i) l;exact nB.1 hf b c<|a.trans d
 |some f=>
  obtain⟨n,d⟩:=(nA<|mG h s).1 hf;obtain⟨i,l,u⟩:=(jg h).1 n;by_cases m:f∈jh e
  .left;exact(nA<|mG h.bare s).2 ⟨(jg h.bare).2 ⟨m,l,λa r=>u a<|(pz e).subset r⟩,d⟩
  .right;have b:¬(f.del=bF\/∃a∈e,a.key=f.key/\a.bI<f.bI/\a.del=bF):=λg=>m<|(GN h.mq).2 ⟨i,g⟩;refine⟨B v,nB.2 λx C c=>?_,f,rfl,by cases hd:f.del with|true=>rfl|false=>exact(b<|.inl hd).elim⟩;obtain⟨t,w,_⟩:=(jg h.bare).1 C;obtain⟨j,A⟩:=(GN h.mq).1 t;have o:=u x j (c.trans d.symm) w;have q:x≠f:=λg=>m<|g▸t;have p:x.bI<f.bI:=by
    rcases Int.lt_or_eq_of_le o with g|g
    .exact g
    .exact absurd (h.mq.PW x j f i (c.trans d.symm) g) q
   rcases A with g|⟨a,r,D,F,E⟩
   .exact b<|.inr ⟨x,j,c.trans d.symm,p,g⟩
   .exact b<|.inr ⟨a,r,D.trans<|c.trans d.symm,by omega,E⟩
def lB(l:cA)(e:E):cA:=l.filter (λx=>ahead x e)++e::l.filter (λx=>ahead e x)
def mh{x:E}:x∈lB e w↔x=w\/(x∈e/\¬(x.key=w.key/\x.bI=w.bI)):=by
 unfold lB;simp only[am,az,cS];constructor;rintro(⟨a,b⟩|rfl|⟨a,b⟩);refine .inr ⟨a,λq=>?_⟩;rcases jd.1 b with c|⟨_,c⟩;rw[q.1,fj]at c;cases c;omega;exact .inl rfl;refine .inr ⟨a,λq=>?_⟩;rcases jd.1 b with c|⟨_,c⟩;rw[q.1,fj]at c;cases c;omega
 .rintro(rfl|⟨a,b⟩)
  .exact .inr<|.inl rfl
  .cases c:ahead x w with
   |true=>exact .inl ⟨a,rfl⟩
   |false=>exact .inr<|.inr ⟨a,yB c<|λq=>b ⟨q.1.symm,q.2.symm⟩⟩
def dQ.lB(h:dQ e)(f:E):dQ (lB e f):=by
 unfold Go.Proofs.YtojeeoclojldpaaGreatDoor.lB;refine bR.2 ⟨h.sub eU,bw.2 ⟨λx d=>(cS.1 d).2,h.sub eU⟩,λg c i a=>?_⟩;have b:=(cS.1 c).2;rcases az.1 a with rfl|a;exact b;exact ud b (cS.1 a).2
def gM.lB(h:gM e)(a:w.key≠⟨#[]⟩):gM (lB e w):=by
 refine⟨h.mq.lB w,λx b=>?_⟩;rcases mh.1 b with rfl|⟨c,_⟩;exact a;exact h.key x c
def Mo(j:gM e)(i:w.key≠⟨#[]⟩)(l:m<w.bI):ke m (lB e w)=ke m e:=by
 refine(mG (j.lB i) m).ext (mG j m) λx=>?_;rw[jg<|j.lB i,jg j];have c:∀a:E,a.bI<=m->(a∈lB e w↔a∈e):=by intro a d;rw[mh];constructor;rintro(rfl|⟨f,_⟩);omega;exact f;exactλf=>.inr ⟨f,λq=>by omega⟩
 constructor;rintro⟨f,h,k⟩;exact⟨(c x h).1 f,h,λa d g b=>k a ((c a b).2 d) g b⟩;rintro⟨f,h,k⟩;exact⟨(c x h).2 f,h,λa d g b=>k a ((c a b).1 d) g b⟩
def Mq(m:gM e)(j:w.key≠⟨#[]⟩){b:Z}(i:w.bI<=b)(k:∀x∈e,x.key=w.key->x.bI<=w.bI):ke b (lB e w)=sP (ke b e) w:=by
 refine(mG (m.lB j) b).ext ((mG m b).sP w) λx=>?_;rw[jg<|m.lB j,yn,jg m];constructor;rintro⟨g,o,l⟩;rcases mh.1 g with rfl|⟨g,q⟩;exact .inl rfl;by_cases d:x.key=w.key;have n:=l w (mh.2<|.inl rfl) d.symm i;have r:=k x g d;exact absurd ⟨d,by omega⟩ q;exact .inr ⟨⟨g,o,λc f a h=>l c (mh.2<|.inr ⟨f,λp=>d<|a.symm.trans p.1⟩) a h⟩,d⟩;rintro(rfl|⟨⟨g,o,l⟩,d⟩);refine⟨mh.2<|.inl rfl,i,λc f a _=>?_⟩;rcases mh.1 f with rfl|⟨g,_⟩;exact ri _;exact k c g a;refine⟨mh.2<|.inr ⟨g,λp=>d p.1⟩,o,λc f a h=>?_⟩;rcases mh.1 f with rfl|⟨n,_⟩;exact absurd a.symm d;exact l c n a h
def fB(l m:cA):cA:=m.foldl lB l
def gM.fB(h:gM e)(a:∀b∈L,b.key≠⟨#[]⟩):gM (fB e L):=by
 induction L generalizing e with
 |nil=>exact h
 |cons b r d=>exact d (h.lB<|a b<|by simp)<|λx c=>a x<|by simp[c]
def xz(a:w∈fB e L):w∈e\/w∈L:=by
 induction L generalizing e with
 |nil=>exact .inl a
 |cons d r b=>
  rcases b a with q|q
  .rcases mh.1 q with rfl|⟨c,_⟩
   .exact .inr<|by simp
   .exact .inl c
  .exact .inr<|by simp[q]
def OP(i:gM e)(f:∀b∈L,b.key≠⟨#[]⟩)(c:∀b∈L,b.bI=m)(g:F<m):ke F (fB e L)=ke F e:=by
 induction L generalizing e with
 |nil=>rfl
 |cons b r h=>
  have d:=f b (by simp);exact(h (i.lB d) (λx a=>f x<|by simp[a])<|λx a=>c x<|by simp[a]).trans<|Mo i d (by rw[c b<|by simp];exact g)
def OQ(k:gM e)(g:∀b∈L,b.key≠⟨#[]⟩)(c:∀b∈L,b.bI=m)(n:m<=F)(f:∀x∈e,x.bI<=m):ke F (fB e L)=gJ (ke F e) L:=by
 induction L generalizing e with
 |nil=>rfl
 |cons b r j=>
  have d:=g b (by simp);have o:=c b (by simp);have h:=j (k.lB d) (λx a=>g x<|by simp[a]) (λx a=>c x<|by simp[a]) (λx a=>by
   rcases mh.1 a with rfl|⟨l,_⟩
   .omega
   .exact f x l)
  have i:=Mq k d (b:=F) (by omega) (λx a _=>by have:=f x a;omega);exact h.trans (by rw[i];rfl)
def PJ(h:gM e)(c:∀x∈e,x.bI<=m)(i:m<=F):ke F e=ke m e:=by
 refine(mG h F).ext (mG h m) λx=>?_;rw[jg h,jg h];constructor;rintro⟨f,_,g⟩;exact⟨f,c x f,λa b d _=>g a b d (by have:=c a b;omega)⟩;rintro⟨f,_,g⟩;exact⟨f,by have:=c x f;omega,λa b d _=>g a b d<|c a b⟩
def sX(e:E):dW->dW
 |(x::g)::a=>if x.key=e.key then(e::x::g)::a else [e]::(x::g)::a
 |a=>[e]::a
def ie:cA->dW
 |[]=>[]
 |e::r=>sX e<|ie r
def CZ(l:cA):∀g∈ie l,g≠[]:=by
 induction l with
 |nil=>intro g a;cases a
 |cons f r b=>
  intro g a;unfold ie sX at a;split at a
  .rename_i x d e c;rw[c]at b;split at a
   .rcases az.1 a with rfl|a
    .simp
    .exact b g<|by simp[a]
   .rcases az.1 a with rfl|a
    .simp
    .exact b g a
  .rcases az.1 a with rfl|a
   .simp
   .exact b g a
def pq(l:cA):(ie l).flatten=l:=by
 induction l with
 |nil=>rfl
 |cons e r a=>
  unfold ie sX;split
  .rename_i x g c b;rw[b]at a;split<;>simp[<-a]
  .simp[a]
def yr(r:cA):∀g∈ie r,∀x∈g,∀a∈g,x.key=a.key:=by
 induction r with
 |nil=>intro g b;cases b
 |cons f t c=>
  intro g b;have h:∀x∈[f],∀a∈[f],x.key=a.key:=by simp
  unfold ie sX at b;split at b
  .rename_i x j s n;rw[n]at c;split at b
   .rename_i m;rcases az.1 b with rfl|b
    .have i:∀a∈x::j,a.key=f.key:=λa b=>(c _ (by simp) a b x<|by simp).trans m;intro o k p l;have d:o.key=f.key:=(az.1 k).elim (λq=>by rw[q])<|λq=>i o q;have e:p.key=f.key:=(az.1 l).elim (λq=>by rw[q])<|λq=>i p q;exact d.trans e.symm
    .exact c g<|by simp[b]
   .rcases az.1 b with rfl|b
    .exact h
    .exact c g b
  .rcases az.1 b with rfl|b
   .exact h
   .exact c g b
def GV(e:E)(r:cA):∃g a,ie (e::r)=(e::g)::a:=by
 unfold ie sX;split;split;exact⟨_,_,rfl⟩;exact⟨[],_,rfl⟩;exact⟨[],_,rfl⟩
def IX(e:E)(a b:dW)(h:a≠[]):sX e (a++b)=sX e a++b:=by
 cases a with
 |nil=>exact absurd rfl h
 |cons g a=>
  cases g with
  |nil=>rfl
  |cons x g=>
   simp only[cq,sX];split<;>rfl
def LB(p s:cA)(h:∀c∈p.getLast?,∀b∈s.head?,c.key≠b.key):ie (p++s)=ie p++ie s:=by
 induction p with
 |nil=>rfl
 |cons e r g=>
  cases r with
  |nil=>
   cases s with
   |nil=>rfl
   |cons b s=>
    have f:e.key≠b.key:=h e (by simp) b (by simp);obtain⟨i,d,a⟩:=GV b s;show sX e (ie<|b::s)=[[e]]++ie (b::s);rw[a];simp only[sX];rw[cW<|λc=>f c.symm];rfl
  |cons x r=>
   have:=g<|λc a b d=>h c (by simpa using a) b d;show sX e (ie<|(x::r)++s)=sX e (ie<|x::r)++ie s;rw[this,IX];obtain⟨i,d,a⟩:=GV x r;rw[a];simp
def Uf(b:e≠[])(d:∀x∈e,∀a∈e,x.key=a.key):ie e=[e]:=by
 induction e with
 |nil=>exact absurd rfl b
 |cons c r f=>
  cases r with
  |nil=>rfl
  |cons x r=>
   have:=f (by simp)<|λe b g c=>d e (by simp at b|-;exact .inr b) g (by simp at c|-;exact .inr c);show sX c (ie<|x::r)=_;rw[this];simp only[sX];rw[dw<|d x (by simp) c<|by simp]
def oJ(a:cr Z)(p:Option E)(e:E)(r:cA):kN a p (e::r)=if po a p e then e::kN a (H e) r else kN a (H e) r:=rfl
def zA(e:E)(r:cA):jh (e::r)=if e.del&&!((jh r).any λa=>decide<|a.key=e.key)then jh r else e::jh r:=rfl
def IJ(a:cr Z)(l s:cA):∀p:Option E,(∀c,(p.toList++l).getLast?=H c->∀b∈s.head?,c.key≠b.key)->kN a p (l++s)=kN a p l++kN a none s:=by
 induction l with
 |nil=>
  intro p h;cases s with
  |nil=>rfl
  |cons b s=>
   cases p with
   |none=>rfl
   |some q=>
    have g:q.key≠b.key:=h q (by simp) b (by simp);show kN a (H q) (b::s)=kN a none (b::s);have d:po a (H q) b=bW:=by simp[po,g]
    have f:po a none b=bW:=rfl;rw[oJ,oJ,dw d,dw f]
 |cons e r i=>
  intro p h;have:=i (H e) (λc f b g=>h c (by
   have d:(p.toList++e::r).getLast?=(e::r).getLast?:=by cases p with|none=>rfl|some q=>exact uF
   rw[d];exact f) b g)
  show kN a p (e::(r++s))=kN a p (e::r)++kN a none s;rw[oJ,oJ,this];split<;>rfl
def Ci(a:cr Z)(l s:cA)(h:∀b∈l.getLast?,∀d∈s.head?,b.key≠d.key):eE a (l++s)=eE a l++eE a s:=IJ a l s none<|λb c=>h b<|by simpa using c
def Mn(l s:cA)(h:∀b∈l,∀i∈s,b.key≠i.key):jh (l++s)=jh l++jh s:=by
 induction l with
 |nil=>rfl
 |cons e r g=>
  have c:=g (λb a=>h b<|by simp[a]);show jh (e::(r++s))=_;rw[zA,zA,c,List.any_append];have d:((jh s).any λa=>decide<|a.key=e.key)=bF:=by
   rw[List.any_eq_false];intro a f;simpa usingλc=>h e (by simp) a ((pz s).subset f) (c:a.key=e.key).symm
  rw[d,Bool.or_false];split<;>rfl
def uO(g:cA):cA:=(g.reverse.dropWhile<|λe=>e.del).reverse
def Gj(g:cA)(e:E):uO (g++[e])=if e.del then uO g else g++[e]:=by
 unfold uO;simp only[List.reverse_append,tH,List.reverse_nil,cC,jM,List.dropWhile_cons];split<;>simp
def PZ(e:E)(g:cA):uO (e::g)=if uO g=[]then(if e.del then []else [e])else e::uO g:=by
 unfold uO;rw[tH,List.dropWhile_append];cases hq:g.reverse.dropWhile (λe=>e.del)with
 |nil=>
  simp[List.dropWhile_cons];split<;>simp_all
 |cons x r=>simp
def Vc(d:∀x∈e,∀a∈e,x.key=a.key):jh e=uO e:=by
 induction e with
 |nil=>rfl
 |cons f r g=>
  have c:=g (λe a f b=>d e (by simp[a]) f<|by simp[b]);rw[zA,c,PZ];have b:∀a∈uO r,a.key=f.key:=λa e=>d a (by rw[<-c]at e;simp[(pz r).subset e]) f (by simp);cases ht:uO r with
  |nil=>simp
  |cons x t=>
   have:x.key=f.key:=b x (by rw[ht];simp);simp[this]
def DH{b:cr Z}(h:gM e)(a:∀c∈L,c.key≠⟨#[]⟩)(d:∀c∈L,c.bI=m+1)(f:F∈b)(g:F<=m):(eE b (fB e L)::k).map (ke F)=(e::k).map (ke F):=by
 simp only[aY];rw[yz (h.fB a)<|.inl f,OP h a d<|by omega]
def xh{rest:dW}{ms:cr Z}(h:gM e)(j:∀r∈rest,gM r)(d:∀f∈L,f.key≠⟨#[]⟩)(c:∀f∈L,f.bI=m+1)(a:∀x∈e,x.bI<=m)(i:∀r∈rest,∀x∈r,x.bI<=m):(eE ms (fB e L)::rest).map (ke<|m+1)=gJ (ke m e) L::rest.map (ke m):=by
 simp only[aY];have g:∀x∈fB e L,x.bI<=m+1:=by intro x b;rcases xz b with q|q;have:=a x q;omega;have:=c x q;omega
 rw[yz (h.fB d)<|.inr g,OQ h d c (ri _) (λx b=>by have:=a x b;omega),PJ h a<|by omega];congr 1;exact nT λr a=>PJ (j r a) (i r a)<|by omega
def Is{a:cr Z}(h:gM e)(b:m∈a\/∀x∈e,x.bI<=m):(eE a e::k).map (ke m)=(e::k).map (ke m):=by
 simp only[aY];rw[yz h b]
def RJ(b:∀r∈k,gM r)(c:ku k)(d:Z)(e:ab):qL [ke d<|df k] e=qL (k.map<|ke d) e:=by
 have l:∀r∈k.map (ke d),wM r:=λr h=>by obtain⟨s,g,rfl⟩:=aZ.1 h;exact mG (b s g) d
 have a:∀e f,qL (k.map<|ke d) e=H f->f.key=e:=λe f q=>((Pr l<|KX c b d).1 q).2;rw[qi,yu,sD];have h:=ny b c;cases hf:qL (k.map<|ke d) e with
 |some f=>
  have:=a e f hf;exact(nA<|mG h d).2 ⟨(xA b c).2 (by rw[this];exact hf),this⟩
 |none=>
  refine nB.2 λf i j=>?_;have:=(xA b c).1 i;rw[j,hf]at this;cases this
def gS(b:cr Z)(a:Bool)(c:dW):cA:=if a then jh (eE b<|df c)else eE b (df c)
def zr(d:cr Z)(a:Bool)(c:dW):∀x∈gS d a c,x∈c.flatten:=by
 intro x b;have e:x∈eE d (df c):=by unfold gS at b;split at b;exact(pz _).subset b;exact b
 exact(fH c).mem_iff.1<|(mf d _).subset e
def Er(d:∀r∈k,gM r)(c:ku k)(b:cr Z)(a:Bool):gM (gS b a k):=by
 unfold gS;split;exact((ny d c).Lb b).bare;exact(ny d c).Lb b
def Ah{j:dW}(e:∀r∈k,gM r)(d:ku k){a:cr Z}(i:m∈a\/∀x∈k.flatten,x.bI<=m)(h:D=bW->∀f,qL (j.map<|ke m) f=none):AL (k.map<|ke m) [ke m<|gS a D k] (j.map<|ke m):=by
 have c:=ny e d;have b:m∈a\/∀x∈df k,x.bI<=m:=i.imp_right λq x c=>q x<|(fH k).mem_iff.1 c;have g:ke m (eE a<|df k)=ke m (df k):=yz c b;intro f;rw[<-RJ e d m f,<-g];unfold gS;cases D with
 |false=>exact .inl rfl
 |true=>exact NX (c.Lb a) (h rfl) m f
def BI(n:gM (e++L))(k:∀d∈e,∀g∈L,d.key≠g.key)(g:Z):ke g (e++L)=ke g e++ke g L:=by
 have i:gM e:=n.sub<|oh _ _;have j:gM L:=n.sub<|ga _ _;have f:wM (ke g e++ke g L):=by refine bR.2 ⟨mG i g,mG j g,λx c a b=>?_⟩;rcases jd.1 ((bR.1 n.mq).2.2 x (xP i c) a<|xP j b)with h|⟨h,_⟩;exact h;exact absurd h<|k x (xP i c) a<|xP j b
 refine(mG n g).ext f λx=>?_;rw[am,jg n,jg i,jg j];constructor;rintro⟨d,h,m⟩;rcases am.1 d with d|d;exact .inl ⟨d,h,λa b=>m a<|by simp[b]⟩;exact .inr ⟨d,h,λa b=>m a<|by simp[b]⟩;rintro(⟨d,h,m⟩|⟨d,h,m⟩);refine⟨by simp[d],h,λa b c l=>?_⟩;rcases am.1 b with b|b;exact m a b c l;exact absurd c.symm<|k x d a b;refine⟨by simp[d],h,λa b c l=>?_⟩;rcases am.1 b with b|b;exact absurd c<|k a b x d;exact m a b c l
def Wu(n:∀r∈k,gM r)(j:ku k)(c:ab)(u:Z):∀x,x∈mU ⟨#[]⟩ ((df<|k.map<|fR c).filter<|λA=>decide<|A.bI<=u)↔qL (k.map<|ke u) x.key=H x/\ic x.key c=bF:=by
 have d:∀r∈k.map (fR c),∃s∈k,r=fR c s:=λr B=>by obtain⟨s,h,rfl⟩:=aZ.1 B;exact⟨s,h,rfl⟩
 have o:∀r∈k.map (fR c),gM r:=λr B=>by obtain⟨s,h,rfl⟩:=d r B;exact(n s h).sub eU
 have l:ku (k.map<|fR c):=by unfold ku;rw[jp];exact j.imp λ{r s}q x b a e A=>q x (cS.1 b).1 a (cS.1 e).1 A
 intro x;have C:=ny o l;have i:=ny n j;have b:∀a,a∈df (k.map<|fR c)↔a∈df k/\ic a.key c=bF:=λa=>((fH _).mem_iff.trans TQ).trans<|and_congr_left λ_=>(fH k).mem_iff.symm;show x∈ke u (df<|k.map<|fR c)↔_;rw[<-xA n j,jg C,jg i];constructor;rintro⟨p,v,w⟩;obtain⟨t,f⟩:=(b x).1 p;exact⟨⟨t,v,λa e g m=>w a ((b a).2 ⟨e,by rw[g];exact f⟩) g m⟩,f⟩;rintro⟨⟨p,v,w⟩,f⟩;exact⟨(b x).2 ⟨p,f⟩,v,λa e g m=>w a ((b a).1 e).1 g m⟩
def gQ(g h:cA):Prop:=∀x∈g,∀a∈h,ic x.key a.key=bW
def Bq(u:dQ e):(ie e).Pairwise gQ:=by
 induction e with
 |nil=>exact List.Pairwise.nil
 |cons t r d=>
  obtain⟨o,p⟩:=bw.1 u;have d:=d p;unfold ie sX;split
  .rename_i x j h g;have k:(x::j)++h.flatten=r:=by have:=pq r;rw[g]at this;simpa using this
   have a:∀b∈x::j,b.key=x.key:=λb c=>yr r (x::j) (by rw[g];simp) b c x (by simp);rw[g]at d;split
   .rename_i c;obtain⟨l,n⟩:=bw.1 d;refine bw.2 ⟨λs b q f m i=>?_,n⟩;have:=l s b x (by simp) m i;rcases az.1 f with rfl|f
    .rw[<-c];exact this
    .rw[a q f];exact this
   .rename_i c;refine bw.2 ⟨λs b q f m i=>?_,d⟩;rw[bH.1 f];have l:ic t.key x.key=bW:=by
     rcases jd.1 (o x (by rw[<-k];simp))with n|⟨n,_⟩
     .exact n
     .exact absurd n.symm c
    rcases az.1 b with rfl|b
    .rw[a m i];exact l
    .exact lH l<|(bw.1 d).1 s b x (by simp) m i
  .rename_i h g;have a:ie r=[]:=by
    cases c:ie r with
    |nil=>rfl
    |cons j h=>
     cases j with
     |nil=>exact absurd rfl<|CZ r [] (by rw[c];simp)
     |cons x j=>exact(g x j h c).elim
   rw[a];exact bw.2 ⟨λs b=>(by cases b),List.Pairwise.nil⟩
def kJ(n L:M):M->M->cA->dW->dW
 |_,_,_,[]=>[]
 |k,b,a,g::c=>
  if(k+1)*L/n<=b+y g then(a++g)::kJ n L (k+1) (b+y g) [] c
  else kJ n L k (b+y g) (a++g) c
def oU(n L k b:M)(a g:cA)(c:dW):kJ n L k b a (g::c)=if(k+1)*L/n<=b+y g then(a++g)::kJ n L (k+1) (b+y g) [] c else kJ n L k (b+y g) (a++g) c:=rfl
def MW{n L:M}(l:0<n):∀(c:dW)(k d:M)(a:cA),d+y c.flatten=L->(k<n\/(c.flatten=[]/\a=[]))->(a≠[]->d<(k+1)*L/n)->(kJ n L k d a c).flatten=a++c.flatten:=by
 intro c;induction c with
 |nil=>
  intro k d a f b g;have:a=[]:=by
   rcases b with b|b
   .by_cases e:a=[]
    .exact e
    .have:=g e;have j:(k+1)*L/n<=L:=Nat.div_le_of_le_mul<|kh L b;simp at f;omega
   .exact b.2
  rw[this];rfl
 |cons i c h=>
  intro k d a f b g;simp only[aX,af]at f b;rw[oU];split
  .rename_i e;rw[aX,h (k+1) (d+y i) [] (by omega) ?_<|λq=>absurd rfl q]
   .simp
   .rcases b with b|b
    .by_cases j:k+1<n
     .exact .inl j
     .have m:k+1=n:=by omega
      rw[m,Nat.mul_div_cancel_left L l]at e;exact .inr ⟨aQ (by omega),rfl⟩
    .exact .inr ⟨(kR.1 b.1).2,rfl⟩
  .rename_i e;rw[h k (d+y i) (a++i) (by omega) ?_<|λ_=>by omega]
   .simp
   .rcases b with b|b
    .exact .inl b
    .exact .inr ⟨(kR.1 b.1).2,by rw[b.2,(kR.1 b.1).1];rfl⟩
def Kh:∀(e:dW)(k h:M)(d:cA),(∀j∈e,j≠[])->∀p∈kJ b c k h d e,p≠[]:=by
 intro e;induction e with
 |nil=>intro k h d _ p a;cases a
 |cons j e i=>
  intro k h d f p a;rw[oU]at a;split at a
  .rcases az.1 a with rfl|a
   .intro l;exact f j (by simp) (kR.1 l).2
   .exact i _ _ _ (λx g=>f x<|by simp[g]) p a
  .exact i _ _ _ (λx g=>f x<|by simp[g]) p a
def Qk{n L F V:M}(s:0<n)(hF:L<=n*F)(o:0<F):∀(e:dW)(k d:M)(a:cA),(∀i∈e,y i<=V+1)->k*L/n+y a<=d->(a≠[]->d<(k+1)*L/n)->∀p∈kJ n L k d a e,y p<=F+V:=by
 intro e;induction e with
 |nil=>intro k d a _ _ _ p c;cases c
 |cons i e l=>
  intro k d a f t m p c;have r:=f i (by simp);have g:(k+1)*L/n<=k*L/n+F:=by
   have:(k+1)*L<=k*L+n*F:=by rw[wR,Nat.one_mul];omega
   exact aE (Nat.div_le_div_right this)<|Nat.le_of_eq<|Nat.add_mul_div_left _ _ s
  rw[oU]at c;split at c
  .rename_i j;rcases az.1 c with rfl|c
   .rw[af];by_cases b:a=[]
    .rw[b];simp;omega
    .have:=m b;omega
   .exact l (k+1) (d+y i) [] (λx h=>f x<|by simp[h]) (by simpa using j) (λq=>absurd rfl q) p c
  .rename_i j;exact l k (d+y i) (a++i) (λx h=>f x<|by simp[h]) (by rw[af];omega) (λ_=>by omega) p c
def MV:∀(f:dW)(o h:M)(d:cA),f.Pairwise gQ->(∀r∈f,gQ d r)->(kJ b c o h d f).Pairwise gQ/\∀p∈kJ b c o h d f,∀x∈p,x∈d\/x∈f.flatten:=by
 intro f;induction f with
 |nil=>intro o h d _ _;exact⟨List.Pairwise.nil,λp g=>by cases g⟩
 |cons r f u=>
  intro o h d g t;obtain⟨v,w⟩:=bw.1 g;rw[oU];split
  .obtain⟨n,l⟩:=u (o+1) (h+y r) [] w (λ_ _ x a=>by cases a);refine⟨bw.2 ⟨λq A x a e k=>?_,n⟩,λp g x a=>?_⟩
   .have m:e∈f.flatten:=(l q A e k).resolve_left (by simp);obtain⟨s,i,j⟩:=bz.1 m;rcases am.1 a with a|a
    .exact t s (by simp[i]) x a e j
    .exact v s i x a e j
   .rcases az.1 g with rfl|g
    .rcases am.1 a with a|a
     .exact .inl a
     .exact .inr<|by simp[a]
    .exact .inr (by rw[aX];exact hZ _<|(l p g x a).resolve_left<|by simp)
  .obtain⟨n,l⟩:=u o (h+y r) (d++r) w (λs i x a e k=>by
    rcases am.1 a with a|a
    .exact t s (by simp[i]) x a e k
    .exact v s i x a e k)
   refine⟨n,λp g x a=>?_⟩;rcases l p g x a with q|q
   .rcases am.1 q with q|q
    .exact .inl q
    .exact .inr<|by simp[q]
   .exact .inr (by rw[aX];exact hZ _ q)
def II(a:cr Z)(r:dQ e)(l:∀x∈e,∀j∈e,x.key=j.key):∀p:Option E,dQ (p.toList++e)->(∀q∈p,∀x∈e,q.key=x.key)->y (kN a p e)<=y (a.filter (λm=>match p with|none=>bW|some q=>decide<|m<q.bI))+(if p=none then 1 else 0):=by
 induction e with
 |nil=>intro p _ _;simp[kN]
 |cons b s g=>
  intro p o f;have g:=g (r.sub<|pN _ _) (λe a f k=>l e (by simp[a]) f<|by simp[k]) (H b) r (λq c x d=>by cases c;exact l _ (by simp) x<|by simp[d]);simp only[reduceCtorEq,kg,jn]at g;rw[oJ];cases p with
  |none=>
   have c:po a none b=bW:=rfl;rw[dw c];simp only[ay,je];have d:y (a.filter<|λm=>decide<|m<b.bI)<=y (a.filter<|λ_=>bW):=by rw[eV.2<|λ_ _=>rfl];exact fh _ _
   have h:y (kN a (H b) s)<=y (a.filter<|λm=>decide<|m<b.bI):=g;exact Nat.succ_le_succ<|aE h d
  |some q=>
   have k:b.bI<q.bI:=by
    rcases jd.1 ((bR.1 o).2.2 q (by simp) b<|by simp)with d|⟨_,d⟩
    .rw[f q rfl b (by simp),fj]at d;cases d
    .exact d
   have h:y (kN a (H b) s)<=y (a.filter<|λm=>decide<|m<b.bI):=g;simp only[reduceCtorEq,kg,jn];show _<=y (a.filter<|λm=>decide<|m<q.bI);have c:∀a:cr Z,y (a.filter<|λm=>decide<|m<b.bI)+y (a.filter<|λm=>decide (b.bI<=m)&&decide (m<q.bI))=y (a.filter<|λm=>decide<|m<q.bI):=by
    intro a;induction a with
    |nil=>rfl
    |cons m a d=>
     simp only[List.filter_cons];by_cases c1:m<b.bI
     .have c2:m<q.bI:=by omega
      have c3:¬b.bI<=m:=by omega
      simp[c1,c2,c3]at d|-;omega
     .have c3:b.bI<=m:=by omega
      by_cases c2:m<q.bI
      .simp[c1,c2,c3]at d|-;omega
      .simp[c1,c2,c3]at d|-;omega
   have t:=c a;split
   .rename_i n;simp only[po,f q rfl b (by simp),nh,uf,yK]at n;have:0<y (a.filter<|λm=>decide (b.bI<=m)&&decide (m<q.bI)):=by
     obtain⟨m,d,i⟩:=iY.1 n;exact vC<|cS.2 ⟨d,i⟩
    simp only[ay];omega
   .omega
def UO{l:cr T}{p:T->Bool}(k:l.Pairwise (λi j=>p j=bW->p i=bW)):l.take (l.countP p)=l.filter p/\l.drop (l.countP p)=l.filter (λx=>!p x):=by
 induction l with
 |nil=>simp
 |cons x r h=>
  obtain⟨d,e⟩:=bw.1 k;obtain⟨f,g⟩:=h e;cases hx:p x with
  |true=>
   rw[uI hx,eN hx,cZ<|by simp[hx]];exact⟨by simp[f],by simp[g]⟩
  |false=>
   have m:∀a∈r,p a=bF:=λa b=>by
    cases c:p a with
    |false=>rfl
    |true=>rw[d a b c]at hx;cases hx
   rw[rU.2 (λa b=>by rcases az.1 b with rfl|b<;>simp[*])];refine⟨?_,?_⟩
   .rw[gN.2 (λa b=>by rcases az.1 b with rfl|b<;>simp[*])];rfl
   .rw[eV.2 (λa b=>by rcases az.1 b with rfl|b<;>simp[*])];rfl
def li(l:cA)(e:E):M:=l.countP<|λx=>ahead x e
def ID(l:cA)(e:E):li l e<=y l:=List.countP_le_length
def dQ.cut(h:dQ e)(a:E):e.take (li e a)=e.filter (λx=>ahead x a)/\e.drop (li e a)=e.filter (λx=>!ahead x a):=UO<|h.imp λ{_ _}q c=>ud q c
def dQ.mono(h:dQ e){i j:M}(a:i<=j)(d:j<y e)(b:ahead e[j] w=bW):ahead (e[i]'(by omega)) w=bW:=by
 rcases lf a with c|c;exact ud (cw.1 h i j (by omega) d c) b;subst c;exact b
def VI(j:b<=y e)(f:∀t(h:t<y e),t<b->ahead e[t] w=bW)(g:∀t(h:t<y e),b<=t->ahead e[t] w=bF):li e w=b:=by
 unfold li;rw[<-bX b e,List.countP_append];have k:(e.take b).countP (λx=>ahead x w)=b:=by rw[List.countP_eq_length.2];simp;omega;intro x d;obtain⟨i,c,rfl⟩:=dO d;rw[gq];(have a:i<b/\i<y e:=by simp at c;omega);exact f i a.2 a.1
 have l:(e.drop b).countP (λx=>ahead x w)=0:=by rw[rU];intro x d;obtain⟨i,c,rfl⟩:=dO d;rw[mX];(have a:i<y e-b:=by simpa using c);rw[g (b+i) (by omega)<|by omega];simp
 omega
def Oi(t:dQ e)(k v:ab)(j:Bool)(d:Z):iA d e k=if h:∃g:li e ⟨k,v,j,d⟩<y e,e[li e ⟨k,v,j,d⟩].key=k then H (e[li e ⟨k,v,j,d⟩]'h.1)else none:=by
 induction e with
 |nil=>simp[iA]
 |cons x r i=>
  obtain⟨m,n⟩:=bw.1 t;have i:=i n;unfold iA at i|-;cases ha:ahead x ⟨k,v,j,d⟩with
  |true=>
   have g:li (x::r) ⟨k,v,j,d⟩=li r ⟨k,v,j,d⟩+1:=uI (p:=λx=>ahead x ⟨k,v,j,d⟩) ha;have l:(decide (x.key=k)&&decide (x.bI<=d))=bF:=by
    rcases jd.1 ha with h|⟨h,c2⟩
    .simp[nZ h]
    .have:¬x.bI<=d:=by simp at c2;omega
     simp[this]
   rw[List.find?_cons_of_neg (by simpa using l),i];simp[g]
  |false=>
   have g:li (x::r) ⟨k,v,j,d⟩=0:=by
    refine rU.2 λa b=>?_;rcases az.1 b with rfl|b
    .simp[ha]
    .have:=vQ ha<|lM<|m a b;simp[this]
   obtain⟨o,s⟩:=mQ ha;by_cases c:x.key=k
   .have f:=s c;rw[List.find?_cons_of_pos (by simp[c];exact f)];simp[g,c]
   .have l:∀a∈x::r,a.key≠k:=by
     intro a b;have f:ic k x.key=bW:=by
      cases h:ic k x.key with
      |true=>rfl
      |false=>exact absurd (nN o h) c
     rcases az.1 b with rfl|b
     .exact c
     .intro h;rcases jd.1 (m a b)with q|⟨q,_⟩
      .rw[h]at q;rw[lI q]at f;cases f
      .exact c<|q.trans h
    rw[mB.2<|λa b=>by simp[l a b]];simp[g,c]
def QO(h:dQ e)(a v:ab)(f:Bool)(b:∀x∈e,x.bI<=m):e.drop (li e ⟨a,v,f,m⟩)=fR a e:=by
 rw[(h.cut _).2];refine tI λx d=>?_;congr 1;rw[wl,jd];constructor;rintro(c|⟨_,c⟩);exact c;have:=b x d;simp at c;omega;exact .inl
def PT(j:dQ e)(b:E)(d:li e b<y e)(h:e[li e b].key=b.key)(f:e[li e b].bI=b.bI):e.set (li e b) b=lB e b:=by
 unfold lB;rw[jf,dw d,(j.cut b).1];congr 2;have g:=(j.cut b).2;rw[bE d]at g;have n:dQ (e[li e b]::e.drop (li e b+1)):=by rw[<-bE d];exact j.sub<|kC _ _
 have k:=(bw.1 n).1;have l:ahead b e[li e b]=bF:=by unfold ahead;simp[h,f,fj]
 have m:∀a,ahead e[li e b] a=ahead b a:=λa=>by unfold ahead;rw[h,f]
 generalize e[li e b]=p at*
 have i:e.filter (λx=>ahead b x)=(e.filter<|λx=>!ahead x b).filter (λx=>ahead b x):=by
  rw[List.filter_filter];refine tI λx _=>?_;cases c:ahead b x with
  |true=>simp[lM c]
  |false=>simp
 rw[i,<-g,cZ (by simp[l]),eV.2];intro a o;rw[<-m];exact k a o
def PV(h:dQ e)(a:E)(b:∀x∈e,¬(x.key=a.key/\x.bI=a.bI)):e.take (li e a)++a::e.drop (li e a)=lB e a:=by
 unfold lB;rw[(h.cut a).1,(h.cut a).2];congr 2;refine tI λx d=>?_;cases c:ahead a x with
 |true=>simp[lM c]
 |false=>
  have:=yB c<|λq=>b x d ⟨q.1,q.2⟩;simp[this]
def dQ.XG(m:dQ e)(a:E)(n:∀d:li e a<y e,¬(e[li e a].key=a.key/\e[li e a].bI=a.bI)):∀x∈e,¬(x.key=a.key/\x.bI=a.bI):=by
 rintro x p⟨g,f⟩;have i:ahead x a=bF:=by unfold ahead;simp[g,f,fj]
 have b:x∈e.drop (li e a):=by rw[(m.cut a).2];simp[p,i]
 have d:li e a<y e:=by rcases dF (li e a) (y e)with l|l;exact l;rw[pQ l]at b;cases b
 have k:=(m.cut a).2;rw[bE d]at b k;have j:ahead e[li e a] a=bF:=by(have:e[li e a]∈e.filter (λx=>!ahead x a):=by rw[<-k];exact dy);simpa using(cS.1 this).2
 have o:dQ (e[li e a]::e.drop (li e a+1)):=by rw[<-bE d];exact m.sub<|kC _ _
 have h:=n d;generalize e[li e a]=c at*;rcases az.1 b with rfl|b;exact h ⟨g,f⟩;have:=(bw.1 o).1 x b;(have l:ahead c x=ahead c a:=by unfold ahead;rw[g,f]);rw[l,j]at this;cases this
def dQ.Ug(h:dQ e)(a:b<=c)(f:c<y e):ic e[c].key (e[b]'(by omega)).key=bF:=by
 rcases lf a with d|d;exact(mQ<|lM<|cw.1 h b c (by omega) f d).1;subst d;exact fj _
def dQ.CX(h:dQ e)(a:0<y e)(b:w∈e):ic (e[y e-1]'(by omega)).key w.key=bF:=by
 obtain⟨i,c,rfl⟩:=dO b;exact h.Ug (by omega)<|by omega
def dQ.xJ(h:dQ e)(a:0<y e)(c:w∈e):ic w.key (e[0]'a).key=bF:=by
 obtain⟨i,b,rfl⟩:=dO c;exact h.Ug (bA i) b
def yU(b:Z)(l s:cA)(k:ab):iA b (l++s) k=(iA b l k).or (iA b s k):=List.find?_append
def qY{l:cA}(h:∀x∈l,x.key≠v):iA m l v=none:=mB.2<|λx a=>by simp[h x a]
def Ay{cs:dW}{k:ab}{i:M}(g:i<y cs)(r:∀x∈cs.flatten,x.key=k->∃f:i<y cs,x∈cs[i])(n:cs.Pairwise gQ)(p:Z):iA p cs.flatten k=iA p cs[i] k:=by
 have q:cs.flatten=(cs.take i).flatten++(cs[i]++(cs.drop<|i+1).flatten):=by(conv=>lhs;rw[<-bX i cs,bE g]);rw[dP,aX]
 have d:∀j(b:j<y cs),j≠i->∀x∈cs[j],x.key≠k:=by intro j b h x c o;obtain⟨_,e⟩:=r x (bz.2 ⟨_,aq b,c⟩) o;rcases Nat.lt_or_gt_of_ne h with m|m;have:=cw.1 n j i b g m x c x e;rw[fj]at this;cases this;have:=cw.1 n i j g b m x e x c;rw[fj]at this;cases this
 rw[q,yU,yU,qY,qY (l:=(cs.drop<|i+1).flatten)];simp;intro x c;obtain⟨m,f,a⟩:=bz.1 c;obtain⟨j,b,rfl⟩:=dO f;rw[mX]at a;exact d _ _ (by omega) x a;intro x c;obtain⟨m,f,a⟩:=bz.1 c;obtain⟨j,b,rfl⟩:=dO f;rw[gq]at a;exact d _ _ (by simp at b;omega) x a
def nz:M->dW->cr (M×cA)
 |_,[]=>[]
 |n,g::a=>(n,g)::nz (n+y g) a
def ig(a:cr (M×cA)):cA:=(a.map (·.2)).flatten
def Br:∀(n:M)(a:dW),(nz n a).map (·.2)=a
 |_,[]=>rfl
 |n,g::a=>by rw[nz,aY,Br]
def Aw(l:cA):ig (nz 0<|ie l)=l:=by unfold ig;rw[Br,pq]
def yt:∀(b:dW)(k n:M)(a:cr (M×cA))(g:cA),(a++[(n,g)])<+:nz k b->n=k+y (ig a)/\(a.map (·.2)++[g])<+:b
 |[],k,n,a,g,h=>by
  have:=h.length_le;simp[nz]at this
 |g0::b,k,n,a,g,h=>by
  rw[nz]at h;cases a with
  |nil=>
   obtain⟨s,c⟩:=h;simp at c;obtain⟨⟨rfl,rfl⟩,c⟩:=c;exact⟨by simp[ig],by simp⟩
  |cons p a=>
   rw[cq,List.cons_prefix_cons]at h;obtain⟨e,f⟩:=h;obtain⟨c,d⟩:=yt b _ n a g f;subst e;refine⟨?_,?_⟩
   .rw[c];simp[ig];omega
   .simp[d]
structure MA(l p g s:cA):Prop where
 all:l=p++g++s
 ne:g≠[]
 same:∀x∈g,∀yqq∈g,x.key=yqq.key
 low:gQ p g
 uZ:gQ g s
def IW(m:dQ e){a:cr (M×cA)}(r:(a++[(b,L)])<+:nz 0 (ie e)):b=y (ig a)/\∃s,MA e (ig a) L s:=by
 obtain⟨q,t,i⟩:=yt _ _ _ _ _ r;have h:=Bq m;have k:L∈ie e:=by rw[<-i];simp
 have j:=pq e;rw[<-i]at h j;rw[aU]at h;obtain⟨_,n,o⟩:=bR.1 h;refine⟨by omega,t.flatten,⟨by rw[<-j];simp[ig],CZ e L k,yr e L k,λx d c f=>?_,λx d c f=>?_⟩⟩;obtain⟨l,g,d⟩:=bz.1 d;exact o l g L (by simp) x d c f;obtain⟨l,g,f⟩:=bz.1 f;(have p:(L::t).Pairwise gQ:=by simpa using n);exact(bw.1 p).1 l g x d c f
def th(a:cr (M×cA))(n:M)(g:cA):ig (a++[(n,g)])=ig a++g:=by simp[ig]
def gQ.ne(h:gQ e L):∀a∈e,∀b∈L,a.key≠b.key:=λa c b d=>nZ<|h a c b d
def MA.Lb{g s:cA}(h:MA e L g s)(a:cr Z):eE a (L++g)=eE a L++eE a g:=Ci a L g<|λd b f c=>h.low.ne d (List.mem_of_getLast? b) f<|List.mem_of_head? c
def MA.bare{g s:cA}(h:MA e L g s):jh (L++g)=jh L++uO g:=by rw[Mn L g h.low.ne,Vc h.same]
def NG(a:cr Z)(l:cA)(x:E):∀p:Option E,kN a p (l++[x])=kN a p l++(if po a ((p.toList++l).getLast?) x then [x]else []):=by
 induction l with
 |nil=>intro p;cases p<;>simp[kN]
 |cons e r b=>
  intro p;rw[cq,oJ,oJ,b<|H e];have:(p.toList++e::r).getLast?=((H e).toList++r).getLast?:=by cases p with
   |none=>rfl
   |some q=>exact uF
  rw[this];split<;>simp
def wanted(a:cr Z)(g:cA)(i:M)(h:i<y g):Bool:=decide (i=0)||a.any (λm=>decide (g[i].bI<=m)&&decide (m<(g[i-1]'(by omega)).bI))
def Rc{ms:cr Z}(d:∀x∈e,∀a∈e,x.key=a.key)(h:b<y e):eE ms (e.take<|b+1)=eE ms (e.take b)++(if wanted ms e b h then [e[b]]else []):=by
 rw[aj h];unfold eE;rw[NG];congr 2;simp only[Option.toList_none,cC];cases b with
 |zero=>simp[po,wanted]
 |succ b=>
  have f:(e.take<|b+1).getLast?=H e[b]:=by
   have c:b<y e:=by omega
   rw[aj c];simp only[List.getLast?_append,List.getLast?_singleton,Option.some_or]
  rw[f];have:=d e[b] (aq _) e[b+1]<|aq _;simp[po,wanted,this]
def PX(f:b<=y e)(h:uO e=uO (e.take b))(c:b=0\/∃h:b-1<y e,e[b-1].del=bF):uO e=e.take b:=by
 rw[h];rcases c with rfl|⟨d,a⟩;simp[uO]
 .cases b with
  |zero=>simp[uO]
  |succ b=>
   rw[aj (by omega),Gj];simp only[sE]at a;simp[a]
def PY(c:b<y e)(a:e[b].del=bW):uO (e.take<|b+1)=uO (e.take b):=by
 rw[aj c,Gj,dw a]
def rN(n:M)(l:cA):Prop:=∀k,y (l.filter<|λx=>decide<|x.key=k)<=n
def rN.sub(h:rN b L)(s:e.Sublist L):rN b e:=λk=>aE (s.filter _).length_le<|h k
def rN.mono(h:rN b e)(a:b<=c):rN c e:=λk=>aE (h k) a
def rN.nil(n:M):rN n []:=λ_=>bA _
def rN.keys(h:rN b e):∀g∈ie e,y g<=b:=by
 intro g c;have d:g.Sublist e:=by have:=cN c;rwa[pq]at this
 cases g with
 |nil=>exact bA _
 |cons f r=>
  have a:=h.sub d f.key;rw[eV.2<|λx d=>by simpa using yr e _ c x d f (by simp)]at a;exact a
def La(c:cr Z):∀a:dW,a.Pairwise gQ->eE c a.flatten=(a.map<|eE c).flatten:=by
 intro a;induction a with
 |nil=>intro _;rfl
 |cons m a i=>
  intro l;obtain⟨d,e⟩:=bw.1 l;rw[aX,aY,aX,<-i e];refine Ci c _ _<|λj f k g=>?_;obtain⟨q,h,b⟩:=bz.1<|List.mem_of_mem_head? g;exact nZ<|d q h j (List.mem_of_mem_getLast? f) k b
def Gh{a:cr Z}(p:dQ e):rN (y a+1) (eE a e):=by
 have o:=Bq p;have n:=yr e;have b:∀g∈ie e,dQ g:=λg a=>p.sub (by have:=cN a;rwa[pq]at this);intro t;rw[<-pq e,La a _ o];generalize ie e=f at*;induction f with
 |nil=>simp
 |cons g f l=>
  obtain⟨v,w⟩:=bw.1 o;have l:=l w (λq c=>n q<|by simp[c]) (λq c=>b q<|by simp[c]);rw[aY,aX,iV,af];by_cases s:∃x∈g,x.key=t
  .obtain⟨x,A,i⟩:=s;have u:(f.map<|eE a).flatten.filter (λx=>decide<|x.key=t)=[]:=by
    rw[gN];intro d j;obtain⟨q,c,k⟩:=bz.1 j;obtain⟨r,h,rfl⟩:=aZ.1 c;have:=nZ<|v r h x A d<|(mf a r).subset k;simp only[jl];intro s;exact this<|i.trans s.symm
   rw[u];have m:=II a (b g<|by simp) (n g<|by simp) none (by simpa using b g (by simp)) (λq c=>by cases c);have B:=fh (λx=>decide<|x.key=t)<|eE a g;have C:y (a.filter<|λ_=>bW)<=y a:=fh _ _;simp only[je]at m;have D:y (eE a g)<=y (a.filter<|λ_=>bW)+1:=m;simp only[cL,jn];omega
  .have u:(eE a g).filter (λx=>decide<|x.key=t)=[]:=by
    rw[gN];intro d j;simp only[jl];intro q;exact s ⟨d,(mf a g).subset j,q⟩
   rw[u];simpa using l
def uo(L:M):M:=(L+95)/96
def iz(l:cA):dW:=kJ (uo<|y l) (y l) 0 0 []<|ie l
def zq(h:e≠[]):0<uo (y e):=by
 have:=gF.2 h;unfold uo;omega
def vO(l:cA):(iz l).flatten=l:=by
 by_cases c:l=[];subst c;rfl;have h:=MW (n:=uo<|y l) (L:=y l) (zq c) (ie l) 0 0 [] (by rw[pq];simp) (.inl<|zq c)<|λq=>absurd rfl q;rw[pq]at h;simpa[iz]using h
def Ec(l:cA):∀p∈iz l,p≠[]:=Kh _ _ _ _<|CZ l
def Bh(h:L∈iz e):L.Sublist e:=by
 have:=cN h;rwa[vO]at this
def Eb(h:dQ e):(iz e).Pairwise gQ:=(MV _ _ _ _ (Bq h)<|λ_ _ x a=>by cases a).1
def QR(h:rN 5 e):∀p∈iz e,y p<=100:=by
 by_cases c:e=[];subst c;intro p a;cases a;(have a:y e<=uo (y e)*96:=by unfold uo;omega);exact Qk (F:=96) (V:=4) (zq c) a (by omega) _ 0 0 [] h.keys (by simp)<|λq=>absurd rfl q
def Cn{ps:dW}(h:∀p∈ps,p≠[]):y ps<=y ps.flatten:=by
 induction ps with
 |nil=>exact ah _
 |cons p r b=>
  have a:=gF.2 (h p<|by simp);have c:=b (λq a=>h q<|by simp[a]);simp only[aX,af,ay];omega
def xu(l:cA):y (iz l)<=y l:=by
 have:=Cn<|Ec l;rwa[vO]at this
def zw(l:cA):∀a,(mU a l).Sublist l:=by
 induction l with
 |nil=>intro a;exact List.Sublist.slnil
 |cons e r b=>
  intro a;unfold mU;split
  .exact(b _).cons _
  .exact(b _).cons_cons _
def Ux(b:ab)(a:dW):y (a.map<|fR b).flatten<=y a.flatten:=by
 induction a with
 |nil=>simp
 |cons r a c=>
  have h:y (fR b r)<=y r:=fh _ _;simp only[aY,aX,af];omega
def Wd(h:qL k v=H w):w.key=v:=by
 unfold qL at h;obtain⟨r,_,a⟩:=pP h;have:=rI a;simpa using this
def Ps(h:qL k v=H w):w∈k.flatten:=by
 unfold qL at h;obtain⟨r,b,a⟩:=pP h;exact bz.2 ⟨r,b,jJ a⟩
def RK(h:∀r∈k,r=[])(d:ab):qL k d=none:=by
 cases c:qL k d with
 |none=>rfl
 |some e=>
  obtain⟨r,b,a⟩:=bz.1<|Ps c;rw[h r b]at a;cases a
