import Derived.Test.YtnfehfmncheoiaaGreatDoorC0
open _root_ renaming List.length→y,Option.some→H,Bool.false→bE,Bool.true→bU,Nat→M,Int→X,List→cr
namespace Go.Proofs.YtnfehfmncheoiaaGreatDoor
open ChangeShapes WideShapes RowKit
set_option maxHeartbeats 16000000
set_option linter.all false
set_option maxRecDepth 100000
variable{b c:M}{m F:X}{v:ab}{D:Bool}{T:Type}
structure E where
 key:ab
 val:ab
 del:Bool
 bH:X
abbrev cA:=cr E
abbrev dW:=cr<|cr E
variable{w:E}
def YW:E:=⟨⟨#[]⟩,⟨#[]⟩,bE,0⟩
def ie(a b:ab):Bool:=Op.bytesLess a.toList b.toList
def Mk:∀(x b:cr UInt8),Op.bytesLess x b=decide (x<b)
 |[],[]=>by simp[Op.bytesLess]
 |_::_,[]=>by simp[Op.bytesLess]
 |[],_::_=>by simp[Op.bytesLess]
 |a::x,f::b=>by
  rw[Op.bytesLess,Mk x b];simp only[List.cons_lt_cons_iff];by_cases c:a<f<;>by_cases d:a=f<;>by_cases e:x<b<;>simp[c,d,e]
def Jy{b:ab}(h:v.toList=b.toList):v=b:=by
 have a:∀x:ab,x.toList=x.data.toList:=λx=>nV x;rw[a,a]at h;cases v;cases b;simpa using h
def fo(a:ab):ie a a=bE:=by
 unfold ie;rw[Mk];simp
def lH{b c:ab}(h:ie v b=bU)(k:ie b c=bU):ie v c=bU:=by
 unfold ie at*;rw[Mk]at*;simp at*;exact List.lt_trans h k
def lI{b:ab}(h:ie v b=bU):ie b v=bE:=by
 cases e:ie b v with
 |false=>rfl
 |true=>have:=lH h e;rw[fo]at this;cases this
def nP{b:ab}(h:ie v b=bE)(k:ie b v=bE):v=b:=by
 unfold ie at*;rw[Mk]at*;simp at*;exact Jy<|List.le_antisymm k h
def oa{b:ab}(h:ie v b=bU):v≠b:=by
 rintro rfl;rw[fo]at h;cases h
def xE{b c:ab}(h:ie b v=bE)(k:ie b c=bU):ie v c=bU:=by
 cases e:ie v c with
 |true=>rfl
 |false=>
  cases f:ie c v with
  |true=>have:=lH k f;rw[h]at this;cases this
  |false=>rw[nP e f,k]at h;cases h
def Ob{b c:ab}(h:ie v b=bU)(k:ie c b=bE):ie v c=bU:=by
 cases e:ie v c with
 |true=>rfl
 |false=>
  cases f:ie c v with
  |true=>have:=lH f h;rw[k]at this;cases this
  |false=>rw[<-nP e f,h]at k;cases k
def RF{b c:ab}(h:ie b v=bE)(k:ie c b=bE):ie c v=bE:=by
 cases e:ie c v with
 |false=>rfl
 |true=>have:=Ob e h;rw[k]at this;cases this
def IV(a:ab):ie a ⟨#[]⟩=bE:=by
 unfold ie;rw[Mk];have:(⟨#[]⟩:ab).toList=[]:=by rw[nV]
 rw[this];simp
def wM(l:cr E):Prop:=l.Pairwise<|λa b=>ie a.key b.key=bU
def wM.nil:wM []:=List.Pairwise.nil
def wM.tail{l:cr E}(h:wM (w::l)):wM l:=(bj.1 h).2
def wM.head{l:cr E}(h:wM (w::l)):∀b∈l,ie w.key b.key=bU:=(bj.1 h).1
def wM.sub{l m:cr E}(h:wM m)(s:l.Sublist m):wM l:=lA s h
def wM.Qa{l:cr E}(h:wM l){e:E}(c:w∈l)(d:e∈l)(f:w.key=e.key):w=e:=by
 induction l with
 |nil=>cases c
 |cons x r g=>
  rcases aA.1 c with b|b
  .rcases aA.1 d with a|a
   .rw[b,a]
   .rw[b]at f;exact absurd f<|oa<|h.head e a
  .rcases aA.1 d with a|a
   .rw[a]at f;exact absurd f.symm<|oa<|h.head w b
   .exact g h.tail b a
def wM.ext{l m:cr E}(h:wM l)(k:wM m)(g:∀x,x∈l↔x∈m):l=m:=by
 induction l generalizing m with
 |nil=>
  cases m with
  |nil=>rfl
  |cons a r=>exact absurd ((g a).2<|by simp)<|by simp
 |cons x r i=>
  cases m with
  |nil=>exact absurd ((g x).1<|by simp)<|by simp
  |cons a s=>
   have f:x=a:=by
    rcases aA.1 ((g x).1<|by simp)with c|c
    .exact c
    .rcases aA.1 ((g a).2<|by simp)with e|e
     .exact e.symm
     .have n:=k.head x c;have j:=h.head a e;rw[lI n]at j;cases j
   subst f;congr 1;refine i h.tail k.tail<|λb=>⟨λd=>?_,λd=>?_⟩
   .rcases aA.1 ((g b).1<|aG _ d)with rfl|c
    .have:=h.head b d;rw[fo]at this;cases this
    .exact c
   .rcases aA.1 ((g b).2<|aG _ d)with rfl|c
    .have:=k.head b d;rw[fo]at this;cases this
    .exact c
def sQ(l:cr E)(e:E):cr E:=l.filter (λx=>ie x.key e.key)++e::l.filter (λx=>ie e.key x.key)
def yo{l:cr E}{x:E}:x∈sQ l w↔x=w\/(x∈l/\x.key≠w.key):=by
 unfold sQ;simp only[ak,cU,aA];constructor;rintro(⟨h,k⟩|h|⟨h,k⟩);exact .inr ⟨h,oa k⟩;exact .inl h;exact .inr ⟨h,λc=>oa k c.symm⟩
 .rintro(h|⟨h,k⟩)
  .exact .inr<|.inl h
  .cases c:ie x.key w.key with
   |true=>exact .inl ⟨h,rfl⟩
   |false=>
    cases d:ie w.key x.key with
    |true=>exact .inr<|.inr ⟨h,rfl⟩
    |false=>exact absurd (nP c d) k
def wM.sQ{l:cr E}(h:wM l)(e:E):wM (sQ l e):=by
 unfold Go.Proofs.YtnfehfmncheoiaaGreatDoor.sQ;refine bP.2 ⟨h.sub eW,bj.2 ⟨?_,h.sub eW⟩,?_⟩;intro c a;simp at a;exact a.2;intro d b c a;simp at b;rcases aA.1 a with rfl|a;exact b.2;simp at a;exact lH b.2 a.2
def gK(l m:cr E):cr E:=m.foldl sQ l
def wM.gK{l:cr E}(h:wM l)(m:cr E):wM (gK l m):=by
 induction m generalizing l with
 |nil=>exact h
 |cons e r a=>exact a<|h.sQ e
variable{e L:cA}{k:dW}
def ahead(a b:E):Bool:=ie a.key b.key||(decide (a.key=b.key)&&decide (b.bH<a.bH))
def je{b:E}:ahead w b=bU↔ie w.key b.key=bU\/(w.key=b.key/\b.bH<w.bH):=by
 unfold ahead;simp
def ud{b c:E}(h:ahead w b=bU)(k:ahead b c=bU):ahead w c=bU:=by
 rw[je]at*;rcases h with h|⟨h,a⟩<;>rcases k with k|⟨k,d⟩;exact .inl<|lH h k;rw[<-k];exact .inl h;rw[h];exact .inl k;exact .inr ⟨h.trans k,by omega⟩
def we(a:E):ahead a a=bE:=by unfold ahead;simp[fo]
def lM{b:E}(h:ahead w b=bU):ahead b w=bE:=by
 cases e:ahead b w with
 |false=>rfl
 |true=>have:=ud h e;rw[we]at this;cases this
def mT{b:E}(h:ahead b w=bE):ie b.key w.key=bE/\(b.key=w.key->b.bH<=w.bH):=by
 unfold ahead at h;simp at h;exact⟨h.1,λe=>h.2 e⟩
def Rp{b:E}(h:ie b.key w.key=bE)(k:b.key=w.key->b.bH<=w.bH):ahead b w=bE:=by
 unfold ahead;simp[h];exact k
def vP{d g:E}(i:ahead d w=bE)(k:ahead g d=bE):ahead g w=bE:=by
 obtain⟨b,e⟩:=mT i;obtain⟨a,f⟩:=mT k;refine Rp (RF b a)<|λh=>?_;have c:d.key=w.key:=by rw[h]at a;exact nP b a
 have:=e c;have:=f<|h.trans c.symm;omega
def lC(a:dW)(i:M):Option E:=(a[i]?.getD []).head?
def km(a:dW):M->Option M
 |0=>none
 |n+1=>match lC a n with
  |none=>km a n
  |some e=>match km a n with
   |none=>H n
   |some b=>if ahead e ((lC a b).getD YW)then H n else H b
def CH(h:km k b=none):∀i,i<b->lC k i=none:=by
 induction b with
 |zero=>intro i a;omega
 |succ b c=>
  intro i a;unfold km at h;cases hf:lC k b with
  |none=>
   rw[hf]at h;by_cases d:i=b
   .rw[d];exact hf
   .exact c h i<|by omega
  |some e=>
   rw[hf]at h;cases hb:km k b with
   |none=>rw[hb]at h;cases h
   |some d=>rw[hb]at h;simp only at h;split at h<;>cases h
def ua(h:km k b=H c):c<b/\∃j,lC k c=H j/\∀i,i<b->∀f,lC k i=H f->ahead f j=bE:=by
 induction b generalizing c with
 |zero=>cases h
 |succ b n=>
  unfold km at h;cases hf:lC k b with
  |none=>
   rw[hf]at h;obtain⟨p,j,d,e⟩:=n h;refine⟨by omega,j,d,λi m f a=>?_⟩;by_cases g:i=b
   .rw[g,hf]at a;cases a
   .exact e i (by omega) f a
  |some j=>
   rw[hf]at h;cases hb:km k b with
   |none=>
    rw[hb]at h;cases h;refine⟨by omega,j,hf,λi m f a=>?_⟩;by_cases g:i=b
    .rw[g,hf]at a;cases a;exact we _
    .rw[CH hb i<|by omega]at a;cases a
   |some q=>
    rw[hb]at h;obtain⟨p,o,d,e⟩:=n hb;simp only[d,gW]at h;split at h
    .rename_i l;cases h;refine⟨by omega,j,hf,λi m f a=>?_⟩;by_cases g:i=b
     .rw[g,hf]at a;cases a;exact we _
     .exact vP (lM l)<|e i (by omega) f a
    .rename_i l;cases h;refine⟨by omega,o,d,λi m f a=>?_⟩;by_cases g:i=b
     .rw[g,hf]at a;cases a;simpa using l
     .exact e i (by omega) f a
def total(a:dW):M:=y a.flatten
def xx(h:lC k b=H w):k.flatten.Perm (w::(k.modify b List.tail).flatten):=by
 induction k generalizing b with
 |nil=>simp[lC]at h
 |cons r d c=>
  cases b with
  |zero=>
   cases r with
   |nil=>simp[lC]at h
   |cons x t=>
    simp only[lC,List.getElem?_cons_zero,gW,List.head?_cons,tH]at h;subst h;simp
  |succ b=>
   have a:lC d b=H w:=by simpa[lC]using h
   simp only[aW,mV];refine((c a).append_left r).trans ?_;exact kU
def vE(h:lC k b=H w):total k=total (k.modify b List.tail)+1:=by
 have:=(xx h).length_eq;unfold total;rw[this];simp
def IM:M->dW->cA
 |0,_=>[]
 |n+1,a=>match km a (y a)with
  |none=>[]
  |some b=>(lC a b).getD YW::IM n (a.modify b List.tail)
def di(a:dW):cA:=IM (total a) a
def xz{hs:dW}(h:km hs (y hs)=none):di hs=[]:=by
 unfold di;cases e:total hs with
 |zero=>rfl
 |succ n=>unfold IM;rw[h]
def RX(h:∀i,i<y k->lC k i=none):k.flatten=[]:=by
 induction k with
 |nil=>rfl
 |cons r c b=>
  have a:=h 0 (by simp);cases r with
  |cons x t=>simp[lC]at a
  |nil=>
   simp only[aW,cC];exact b (λi a=>by have:=h (i+1) (by simp;omega);simpa[lC]using this)
def xy{hs:dW}(h:km hs (y hs)=H b)(a:lC hs b=H w):di hs=w::di (hs.modify b List.tail):=by
 unfold di;rw[vE a];conv=>lhs;unfold IM
 rw[h];simp only[a,gW]
def fG(a:dW):(di a).Perm a.flatten:=by
 generalize c:total a=n;induction n generalizing a with
 |zero=>
  have:a.flatten=[]:=aP c;unfold di;rw[c,this];exact List.Perm.nil
 |succ n d=>
  cases hb:km a (y a)with
  |none=>
   have:=RX<|CH hb;rw[xz hb,this]
  |some g=>
   obtain⟨_,e,b,_⟩:=ua hb;rw[xy hb b];have f:=vE b;exact((d _<|by omega).cons e).trans (xx b).symm
def mX(a:ab):cA->cA
 |[]=>[]
 |e::r=>if e.key=a then mX e.key r else e::mX e.key r
def Yw(b:cA)(x:E):Prop:=x∈b/\∀a∈b,a.key=x.key->a.bH<=x.bH
def Yo(a:cA):Prop:=∀b∈a,∀c∈a,b.key=c.key->b.bH=c.bH->b=c
def LR(a:ab)(t:e.Pairwise (λg f=>ahead f g=bE))(p:Yo e)(s:∀x∈e,ie x.key a=bE):wM (mX a e)/\∀x,x∈mX a e↔x.key≠a/\Yw e x:=by
 induction e generalizing a with
 |nil=>exact⟨wM.nil,λx=>by simp[mX,Yw]⟩
 |cons m A u=>
  obtain⟨j,r⟩:=bj.1 t;obtain⟨q,o⟩:=u m.key r (λg a f b=>p g (by simp[a]) f<|by simp[b])<|λx i=>(mT<|j x i).1;unfold mX;split
  .rename_i h;refine⟨q,λx=>(o x).trans ?_⟩;rw[h];constructor
   .rintro⟨g,f,k⟩;refine⟨g,aG _ f,λb c d=>?_⟩;rcases aA.1 c with rfl|c
    .exact absurd (d.symm.trans h) g
    .exact k b c d
   .rintro⟨g,f,k⟩;refine⟨g,?_,λb c d=>k b (aG _ c) d⟩;rcases aA.1 f with rfl|f
    .exact absurd h g
    .exact f
  .rename_i h;have n:ie m.key a=bE:=s m (by simp);refine⟨bj.2 ⟨λx i=>?_,q⟩,λx=>?_⟩
   .obtain⟨g,f,_⟩:=(o x).1 i;cases l:ie m.key x.key with
    |true=>rfl
    |false=>exact absurd (nP (mT<|j x f).1 l) g
   .rw[aA,o];constructor
    .rintro(rfl|⟨g,f,k⟩)
     .refine⟨h,by simp,λb c d=>?_⟩;rcases aA.1 c with rfl|c
      .exact ri _
      .exact(mT<|j b c).2 d
     .refine⟨?_,aG _ f,λb c d=>?_⟩
      .intro l;have i:=(mT<|j x f).1;rw[l]at i;exact h<|nP n i
      .rcases aA.1 c with rfl|c
       .exact absurd d.symm g
       .exact k b c d
    .rintro⟨g,f,k⟩;rcases aA.1 f with rfl|f
     .exact .inl rfl
     .by_cases l:x.key=m.key
      .left;have v:=k m (by simp) l.symm;have w:=(mT<|j x f).2 l;exact p x (by simp[f]) m (by simp) l<|by omega
      .exact .inr ⟨l,f,λb c d=>k b (aG _ c) d⟩
def fQ(a:ab)(l:cA):cA:=l.filter<|λe=>!ie e.key a
def Ua:w∈(k.map<|fQ v).flatten↔w∈k.flatten/\ie w.key v=bE:=by
 simp only[bz,aY];constructor;rintro⟨l,⟨r,b,rfl⟩,a⟩;unfold fQ at a;rw[cU]at a;exact⟨⟨r,b,a.1⟩,by simpa using a.2⟩;rintro⟨⟨r,b,a⟩,h⟩;exact⟨_,⟨r,b,rfl⟩,by unfold fQ;rw[cU];exact⟨a,by simp[h]⟩⟩
def nk(l:cA)(k:ab):Option E:=l.find?<|λe=>decide<|e.key=k
def nD(h:wM e):nk e v=H w↔w∈e/\w.key=v:=by
 unfold nk;constructor;intro a;exact⟨jM a,by have:=rI a;simpa using this⟩
 .rintro⟨b,c⟩;cases a:e.find? (λw=>decide<|w.key=v)with
  |none=>
   rw[mF]at a;exact absurd c<|by simpa using a w b
  |some x=>
   have d:=jM a;have f:x.key=v:=by have:=rI a;simpa using this
   rw[h.Qa d b<|f.trans c.symm]
def nE:nk e v=none↔∀a∈e,a.key≠v:=by
 unfold nk;rw[mF];simp
def Se(h:wM e)(c:wM L)(f:∀x,x.key=v->(x∈e↔x∈L)):nk e v=nk L v:=by
 cases hm:nk L v with
 |none=>
  rw[nE]at hm|-;intro x d b;exact hm x ((f x b).1 d) b
 |some a=>
  rw[nD c]at hm;exact(nD h).2 ⟨(f a hm.2).2 hm.1,hm.2⟩
def LU(h:wM e)(c:E)(k:ab):nk (sQ e c) k=if k=c.key then H c else nk e k:=by
 split;rename_i a;exact(nD<|h.sQ c).2 ⟨yo.2<|.inl rfl,a.symm⟩;rename_i a;refine Se (h.sQ c) h<|λx d=>?_;rw[yo];constructor;rintro(rfl|b);exact absurd d.symm a;exact b.1;intro b;exact .inr ⟨b,λc=>a<|d.symm.trans c⟩
def qM(a:dW)(k:ab):Option E:=a.findSome?<|λr=>nk r k
def yw(k:ab):qM [] k=none:=rfl
def qi(r:cA)(a:dW)(k:ab):qM (r::a) k=(nk r k).or (qM a k):=by
 unfold qM;rw[rS];cases nk r k<;>rfl
def vU(a b:dW)(k:ab):qM (a++b) k=(qM a k).or (qM b k):=by
 induction a with
 |nil=>simp[yw]
 |cons r a c=>rw[cq,qi,qi,c,Option.or_assoc]
def Sd(k:ab):nk [] k=none:=rfl
def Over(r s:cA):Prop:=∀a∈r,∀b∈s,a.key=b.key->b.bH<a.bH
def kr(a:dW):Prop:=a.Pairwise Over
def kr.over(h:kr (e::k)):Over e k.flatten:=by
 intro f b g a c;obtain⟨s,d,a⟩:=bz.1 a;exact(bj.1 h).1 s d f b g a c
def Pv(m:∀r∈k,wM r)(l:kr k):qM k v=H w↔Yw k.flatten w/\w.key=v:=by
 induction k with
 |nil=>simp[yw,Yw]
 |cons r k n=>
  have j:=n (λr a=>m r<|by simp[a]) (bj.1 l).2;have i:=l.over;have g:=m r (by simp);rw[qi];cases hf:nk r v with
  |some x=>
   have b:=(nD g).1 hf;simp only[Option.some_or,tH,aW];constructor
   .rintro rfl;refine⟨⟨im _ b.1,λd c f=>?_⟩,b.2⟩;rcases ak.1 c with c|c
    .rw[g.Qa c b.1 f];exact ri _
    .exact Int.le_of_lt<|i x b.1 d c f.symm
   .rintro⟨⟨a,h⟩,e⟩;rcases ak.1 a with a|a
    .exact g.Qa b.1 a<|b.2.trans e.symm
    .have o:=h x (im _ b.1)<|b.2.trans e.symm;have p:=i x b.1 w a<|b.2.trans e.symm;omega
  |none=>
   have b:=nE.1 hf;simp only[lX,aW];rw[j];constructor
   .rintro⟨⟨a,h⟩,e⟩;refine⟨⟨ib _ a,λd c f=>?_⟩,e⟩;rcases ak.1 c with c|c
    .exact absurd (f.trans e)<|b d c
    .exact h d c f
   .rintro⟨⟨a,h⟩,e⟩;refine⟨⟨?_,λd c f=>h d (ib _ c) f⟩,e⟩;rcases ak.1 a with a|a
    .exact absurd e<|b w a
    .exact a
def seen(a:dW)(k:ab):Option ab:=(qM a k).bind<|λe=>if e.del then none else H e.val
def Rk{a h D:dW}(A:kr (k++a++D))(w:kr h)(f:∀B∈h.flatten,B∈a.flatten):kr (k++h++D):=by
 obtain⟨s,t,o⟩:=bP.1 A;obtain⟨u,_,v⟩:=bP.1 s;have d:∀g∈h,∀i∈g,∃p∈a,i∈p:=λg e i c=>bz.1<|f i<|bz.2 ⟨g,e,c⟩;refine bP.2 ⟨bP.2 ⟨u,w,?_⟩,t,?_⟩;intro r b g n q j i c m;obtain⟨p,e,l⟩:=d g n i c;exact v r b p e q j i l m;intro r b x n;rcases ak.1 b with b|b;exact o r (im _ b) x n;intro q j i c m;obtain⟨p,e,l⟩:=d r b q j;exact o p (ib _ e) x n q l i c m
def AP(a b D:dW):Prop:=∀k,qM b k=qM a k\/(qM D k=none/\qM b k=none/\∃e,qM a k=H e/\e.del=bU)
def Tr{a b D:dW}(h:AP a b D)(c:ab):seen (k++b++D) c=seen (k++a++D) c:=by
 unfold seen;rw[vU,vU,vU,vU];rcases h c with h|⟨d,e,i,f,g⟩;rw[h]
 .rw[d,e,f];cases qM k c with
  |some x=>simp
  |none=>simp[g]
def dQ(l:cA):Prop:=l.Pairwise<|λa b=>ahead a b=bU
def dQ.nil:dQ []:=List.Pairwise.nil
def dQ.sub(h:dQ L)(s:e.Sublist L):dQ e:=lA s h
def dQ.MJ(h:dQ e):e.Pairwise (λa b=>ahead b a=bE):=h.imp<|λh=>lM h
def dQ.Qa(q:dQ e):Yo e:=by
 induction e with
 |nil=>intro i d;cases d
 |cons p r n=>
  obtain⟨k,l⟩:=bj.1 q;have h:∀x∈r,x.key=p.key->x.bH=p.bH->False:=by
   intro x m c g;rcases je.1 (k x m)with j|⟨_,j⟩
   .rw[c,fo]at j;cases j
   .omega
  intro i d o g c f;rcases aA.1 d with rfl|a<;>rcases aA.1 g with rfl|b
  .rfl
  .exact(h o b c.symm f.symm).elim
  .exact(h i a c f).elim
  .exact n l i a o b c f
structure gN(l:cA):Prop where
 mq:dQ l
 key:∀e∈l,e.key≠⟨#[]⟩
def gN.nil:gN []:=⟨dQ.nil,λ_ h=>by cases h⟩
def gN.sub(h:gN L)(s:e.Sublist L):gN e:=⟨h.mq.sub s,λb a=>h.key b<|s.subset a⟩
def jZ(b:X)(r:cA):cA:=mX ⟨#[]⟩<|r.filter<|λe=>decide<|e.bH<=b
def PM(j:gN e)(h:X):wM (jZ h e)/\∀x,x∈jZ h e↔x∈e/\x.bH<=h/\∀a∈e,a.key=x.key->a.bH<=h->a.bH<=x.bH:=by
 have i:dQ (e.filter<|λa=>decide<|a.bH<=h):=j.mq.sub eW;obtain⟨s,m⟩:=LR ⟨#[]⟩ i.MJ i.Qa<|λx _=>IV x.key;refine⟨s,λx=>?_⟩;unfold jZ;rw[m];constructor;rintro⟨_,b,g⟩;obtain⟨b,d⟩:=cU.1 b;exact⟨b,pF d,λa c f e=>g a (cU.2 ⟨c,pG e⟩) f⟩;rintro⟨b,d,g⟩;exact⟨j.key x b,cU.2 ⟨b,pG d⟩,λa c f=>g a (cU.1 c).1 f<|pF (cU.1 c).2⟩
def mL(h:gN e)(b:X):wM (jZ b e):=(PM h b).1
def jh(h:gN e):w∈jZ m e↔w∈e/\w.bH<=m/\∀a∈e,a.key=w.key->a.bH<=m->a.bH<=w.bH:=(PM h m).2 w
def xQ(h:gN e)(a:w∈jZ m e):w∈e:=((jh h).1 a).1
def iA(b:X)(r:cA)(k:ab):Option E:=r.find?<|λe=>decide (e.key=k)&&decide (e.bH<=b)
def Ct(n:gN e)(k:iA m e v=H w):w∈jZ m e/\w.key=v:=by
 obtain⟨b,o,p,c,l⟩:=List.find?_eq_some_iff_append.1 k;simp only[jT,jo]at b;refine⟨(jh n).2 ⟨by rw[c];simp,b.2,λa g d j=>?_⟩,b.1⟩;rw[c]at g;rcases ak.1 g with q|q;have:=l a q;simp[d,b.1,j]at this;rcases aA.1 q with rfl|q;exact ri _;have f:=n.mq;rw[c]at f;have i:=(bP.1 f).2.1;rcases je.1 ((bj.1 i).1 a q)with h|⟨_,h⟩;rw[d,fo]at h;cases h;omega
def Cu(d:iA m e v=none):∀a∈e,a.key=v->¬a.bH<=m:=by
 intro a c f b;have:=mF.1 d a c;simp[f,b]at this
def Sg(h:gN e)(b:X)(k:ab):iA b e k=nk (jZ b e) k:=by
 cases hf:iA b e k with
 |some g=>exact((nD<|mL h b).2<|Ct h hf).symm
 |none=>
  refine(nE.2 λg d f=>?_).symm;obtain⟨a,c,_⟩:=(jh h).1 d;exact Cu hf g a f c
def Vq(h:gN e)(f:w∈e)(d:w.bH<=m):∃a∈jZ m e,a.key=w.key/\w.bH<=a.bH:=by
 cases hf:iA m e w.key with
 |some a=>
  obtain⟨b,c⟩:=Ct h hf;exact⟨a,b,c,((jh h).1 b).2.2 w f c.symm d⟩
 |none=>exact absurd d<|Cu hf w f rfl
def Over.at(k:Over e L)(b:gN e)(c:gN L)(h:X):Over (jZ h e) (jZ h L):=λx d a g j=>k x (xQ b d) a (xQ c g) j
def KX(h:kr k)(b:∀r∈k,gN r)(f:X):kr (k.map<|jZ f):=by
 unfold kr;rw[js];induction k with
 |nil=>exact List.Pairwise.nil
 |cons r k e=>
  obtain⟨c,d⟩:=bj.1 h;exact bj.2 ⟨λs a=>(c s a).at (b r<|by simp) (b s<|by simp[a]) f,e d<|λs a=>b s<|by simp[a]⟩
def pq(a:cr X)(p:Option E)(e:E):Bool:=match p with
 |none=>bU
 |some p=>!decide (p.key=e.key)||a.any (λm=>decide (e.bH<=m)&&decide (m<p.bH))
def kM(a:cr X):Option E->cA->cA
 |_,[]=>[]
 |p,e::r=>if pq a p e then e::kM a (H e) r else kM a (H e) r
def eG(a:cr X)(l:cA):cA:=kM a none l
def Rm(b:cr X)(l:cA):∀p,(kM b p l).Sublist l:=by
 induction l with
 |nil=>intro p;exact ez _
 |cons e r a=>
  intro p;unfold kM;split
  .exact(a<|H e).cons_cons e
  .exact(a<|H e).cons e
def mf(a:cr X)(l:cA):(eG a l).Sublist l:=Rm a l none
def gN.Lb(h:gN e)(a:cr X):gN (eG a e):=h.sub<|mf a e
def Ro{e:cr X}(l:cA):∀p:Option E,dQ (p.toList++l)->w∈l->((∀a∈p.toList++l,a.key=w.key->a.bH<=w.bH)\/∃m∈e,w.bH<=m/\∀a∈p.toList++l,a.key=w.key->a.bH<=m->a.bH<=w.bH)->w∈kM e p l:=by
 induction l with
 |nil=>intro p _ c;cases c
 |cons x s r=>
  intro p k c b;have i:dQ (x::s):=(bP.1 k).2.1;unfold kM;rcases aA.1 c with rfl|c
  .have o:pq e p w=bU:=by
    cases p with
    |none=>rfl
    |some q=>
     unfold pq;by_cases d:q.key=w.key
     .have n:ahead q w=bU:=(bP.1 k).2.2 q (by simp) w (by simp);have t:w.bH<q.bH:=by
       rcases je.1 n with j|⟨_,j⟩
       .rw[d,fo]at j;cases j
       .exact j
      rcases b with b|⟨m,h,f,g⟩
      .have:=b q (by simp) d;omega
      .have:¬q.bH<=m:=λj=>by have:=g q (by simp) d j;omega
       rw[wi];exact .inr<|iZ.2 ⟨m,h,by simp[f];omega⟩
     .simp[d]
   rw[dw o];simp
  .have j:w∈kM e (H x) s:=r (H x) i c (by
    rcases b with b|⟨m,h,f,g⟩
    .exact .inl λa d=>b a (by simp at d|-;exact .inr d)
    .exact .inr ⟨m,h,f,λa d=>g a (by simp at d|-;exact .inr d)⟩)
   split
   .exact aG _ j
   .exact j
def yA(l:gN e){c:cr X}(h:m∈c\/∀x∈e,x.bH<=m):jZ m (eG c e)=jZ m e:=by
 have i:∀x∈jZ m e,x∈eG c e:=by intro x f;obtain⟨n,g,d⟩:=(jh l).1 f;refine Ro e none l.mq n ?_;rcases h with h|h;exact .inr ⟨m,h,g,λa b j o=>d a (by simpa using b) j o⟩;exact .inl λa b j=>d a (by simpa using b) j<|h a<|by simpa using b
 refine(mL (l.Lb c) m).ext (mL l m) λx=>?_;constructor;intro f;obtain⟨n,g,d⟩:=(jh<|l.Lb c).1 f;have p:=(mf c e).subset n;refine(jh l).2 ⟨p,g,λa b j o=>?_⟩;obtain⟨k,r,q,s⟩:=Vq l b o;have:=d k (i k r) (q.trans j) ((jh l).1 r).2.1;omega;intro f;obtain⟨n,g,d⟩:=(jh l).1 f;exact(jh<|l.Lb c).2 ⟨i x f,g,λa b=>d a<|(mf c e).subset b⟩
def Kd(h:∀r∈k,dQ r):∀r∈k.modify b List.tail,dQ r:=by
 intro r a;induction k generalizing b with
 |nil=>simp at a
 |cons x d c=>
  cases b with
  |zero=>
   simp only[qu,aA]at a;rcases a with rfl|a
   .exact(h x<|by simp).sub<|List.tail_sublist x
   .exact h r<|by simp[a]
  |succ b=>
   simp only[mV,aA]at a;rcases a with rfl|a
   .exact h r<|by simp
   .exact c (λr a=>h r<|by simp[a]) a
def TY(m:∀r∈k,dQ r)(j:∀i,i<y k->∀f,lC k i=H f->ahead f w=bE):∀x∈k.flatten,ahead x w=bE:=by
 intro x l;obtain⟨r,g,a⟩:=bz.1 l;obtain⟨i,e,rfl⟩:=dO g;have b:=m _ g;cases hc:k[i]with
 |nil=>rw[hc]at a;cases a
 |cons f t=>
  have h:lC k i=H f:=by simp[lC,e,hc]
  have d:=j i e f h;rw[hc]at a b;rcases aA.1 a with rfl|c
  .exact d
  .exact vP d<|lM<|(bj.1 b).1 x c
def Cm(a:dW)(i:∀r∈a,dQ r):(di a).Pairwise (λj c=>ahead c j=bE):=by
 generalize f:total a=n;induction n generalizing a with
 |zero=>unfold di;rw[f];exact List.Pairwise.nil
 |succ n h=>
  cases hb:km a (y a)with
  |none=>rw[xz hb];exact List.Pairwise.nil
  |some c=>
   obtain⟨_,l,b,e⟩:=ua hb;rw[xy hb b];have k:=vE b;refine bj.2 ⟨λx g=>?_,h _ (Kd i)<|by omega⟩;have d:x∈(a.modify c List.tail).flatten:=(fG _).mem_iff.1 g;exact TY i e x<|(xx b).mem_iff.2<|aG _ d
def JG(l:cA):Prop:=l.Pairwise<|λa b=>¬(a.key=b.key/\a.bH=b.bH)
def dQ.Xs(h:dQ e):JG e:=h.imp λ{a b}q=>by
 rintro⟨c,d⟩;rcases je.1 q with q|⟨_,q⟩;rw[c,fo]at q;cases q;omega
def Ai(b:∀r∈k,dQ r)(a:kr k):JG k.flatten:=by
 induction k with
 |nil=>exact List.Pairwise.nil
 |cons r k f=>
  rw[aW];refine bP.2 ⟨(b r<|by simp).Xs,f (λs e=>b s<|by simp[e]) (bj.1 a).2,λg c h d q=>?_⟩;have:=a.over g c h d q.1;omega
def yC{b:E}(h:ahead b w=bE)(k:¬(w.key=b.key/\w.bH=b.bH)):ahead w b=bU:=by
 obtain⟨a,e⟩:=mT h;refine je.2 ?_;by_cases c:w.key=b.key;have:=e c.symm;exact .inr ⟨c,by have:w.bH≠b.bH:=λd=>k ⟨c,d⟩;omega⟩
 .left;cases d:ie w.key b.key with
  |true=>rfl
  |false=>exact absurd (nP d a) c
def sV(a:∀r∈k,dQ r)(d:kr k):dQ (di k):=by
 have b:=Cm k a;have c:JG (di k):=((fG k).pairwise_iff<|λ{e f}q b=>q ⟨b.1.symm,b.2.symm⟩).2<|Ai a d;exact List.Pairwise.imp₂ (λe f q k=>yC q k) b c
def nB(a:∀r∈k,gN r)(e:kr k):gN (di k):=by
 refine⟨sV (λr h=>(a r h).mq) e,λf d=>?_⟩;obtain⟨r,b,c⟩:=bz.1<|(fG k).mem_iff.1 d;exact(a r b).key f c
def xB(d:∀r∈k,gN r)(u:kr k):w∈jZ m (di k)↔qM (k.map<|jZ m) w.key=H w:=by
 have t:=nB d u;have b:∀a,a∈di k↔∃r∈k,a∈r:=λa=>((fG k).mem_iff).trans bz;rw[Pv (λr h=>by obtain⟨C,e,rfl⟩:=aY.1 h;exact mL (d C e) m)<|KX u d m];constructor;intro s;obtain⟨j,l,q⟩:=(jh t).1 s;obtain⟨r,c,o⟩:=(b w).1 j;refine⟨⟨bz.2 ⟨_,aY.2 ⟨r,c,rfl⟩,(jh<|d r c).2 ⟨o,l,λa g=>q a<|(b a).2 ⟨r,c,g⟩⟩⟩,λa g n=>?_⟩,rfl⟩;obtain⟨C,e,p⟩:=bz.1 g;obtain⟨v,f,rfl⟩:=aY.1 e;obtain⟨h,i,_⟩:=(jh<|d v f).1 p;exact q a ((b a).2 ⟨v,f,h⟩) n i;rintro⟨⟨j,l⟩,_⟩;obtain⟨C,e,o⟩:=bz.1 j;obtain⟨v,f,rfl⟩:=aY.1 e;obtain⟨h,i,_⟩:=(jh<|d v f).1 o;refine(jh t).2 ⟨(b w).2 ⟨v,f,h⟩,i,λa g n x=>?_⟩;obtain⟨r,c,p⟩:=(b a).1 g;obtain⟨s,A,q,B⟩:=Vq (d r c) p x;have:=l s (bz.2 ⟨_,aY.2 ⟨r,c,rfl⟩,A⟩)<|q.trans n;omega
def jj:cA->cA
 |[]=>[]
 |e::r=>if e.del&&!((jj r).any λa=>decide<|a.key=e.key)then jj r else e::jj r
def pA(l:cA):(jj l).Sublist l:=by
 induction l with
 |nil=>exact ez _
 |cons e r a=>
  unfold jj;split
  .exact a.cons e
  .exact a.cons_cons e
def GM(B:dQ e):w∈jj e↔w∈e/\(w.del=bE\/∃a∈e,a.key=w.key/\a.bH<w.bH/\a.del=bE):=by
 induction e generalizing w with
 |nil=>simp[jj]
 |cons p r m=>
  obtain⟨u,l⟩:=bj.1 B;have j:∀a∈r,a.key=p.key->a.bH<p.bH:=λa c i=>by
   rcases je.1 (u a c)with h|⟨_,h⟩
   .rw[i,fo]at h;cases h
   .exact h
  have s:∀{w:E},w∈r->(w.del=bE\/∃a∈p::r,a.key=w.key/\a.bH<w.bH/\a.del=bE)->w∈jj r:=by
   intro w d f;refine(m l).2 ⟨d,f.imp_right ?_⟩;rintro⟨a,c,k,n,h⟩;rcases aA.1 c with rfl|c
   .have:=j w d k.symm;omega
   .exact⟨a,c,k,n,h⟩
  have t:∀{w:E},w∈jj r->w∈p::r/\(w.del=bE\/∃a∈p::r,a.key=w.key/\a.bH<w.bH/\a.del=bE):=by
   intro w d;obtain⟨k,n⟩:=(m l).1 d;exact⟨aG _ k,n.imp_right λ⟨a,c,q⟩=>⟨a,aG _ c,q⟩⟩
  unfold jj;split
  .rename_i f;simp only[jT,Bool.not_eq_true',List.any_eq_false,jo]at f;refine⟨t,?_⟩;rintro⟨d,b⟩;rcases aA.1 d with rfl|g
   .exfalso;rcases b with h|⟨a,c,k,n,h⟩
    .rw[f.1]at h;cases h
    .rcases aA.1 c with rfl|o
     .omega
     .exact f.2 a ((m l).2 ⟨o,.inl h⟩) k
   .exact s g b
  .rename_i f;rw[aA];constructor
   .rintro(rfl|d)
    .refine⟨by simp,?_⟩;cases hd:w.del with
     |false=>exact .inl rfl
     |true=>
      right;simp only[hd,yL,Bool.not_eq_true',Bool.not_eq_false,iZ,jo]at f;obtain⟨a,c,i⟩:=f;obtain⟨k,n⟩:=(m l).1 c;have v:=j a k i;rcases n with n|⟨o,x,h,C,A⟩
      .exact⟨a,aG _ k,i,v,n⟩
      .exact⟨o,aG _ x,h.trans i,by omega,A⟩
    .exact t d
   .rintro⟨d,b⟩;rcases aA.1 d with rfl|g
    .exact .inl rfl
    .exact .inr<|s g b
def gN.bare(h:gN e):gN (jj e):=h.sub<|pA e
def Oc(h:gN e)(B:∀v,qM k v=none)(s:X):AP [jZ s e] [jZ s<|jj e] k:=by
 intro v;simp only[qi,yw,sD];cases hf:nk (jZ s e) v with
 |none=>
  left;refine nE.2 λf n d=>?_;obtain⟨i,l,_⟩:=(jh h.bare).1 n;obtain⟨b,c,a,_⟩:=Vq h ((pA e).subset i) l;exact nE.1 hf b c<|a.trans d
 |some f=>
  obtain⟨n,d⟩:=(nD<|mL h s).1 hf;obtain⟨i,l,u⟩:=(jh h).1 n;by_cases m:f∈jj e
  .left;exact(nD<|mL h.bare s).2 ⟨(jh h.bare).2 ⟨m,l,λa r=>u a<|(pA e).subset r⟩,d⟩
  .right;have b:¬(f.del=bE\/∃a∈e,a.key=f.key/\a.bH<f.bH/\a.del=bE):=λg=>m<|(GM h.mq).2 ⟨i,g⟩;refine⟨B v,nE.2 λx C c=>?_,f,rfl,by cases hd:f.del with|true=>rfl|false=>exact(b<|.inl hd).elim⟩;obtain⟨t,w,_⟩:=(jh h.bare).1 C;obtain⟨j,A⟩:=(GM h.mq).1 t;have o:=u x j (c.trans d.symm) w;have q:x≠f:=λg=>m<|g▸t;have p:x.bH<f.bH:=by
    rcases Int.lt_or_eq_of_le o with g|g
    .exact g
    .exact absurd (h.mq.Qa x j f i (c.trans d.symm) g) q
   rcases A with g|⟨a,r,D,F,E⟩
   .exact b<|.inr ⟨x,j,c.trans d.symm,p,g⟩
   .exact b<|.inr ⟨a,r,D.trans<|c.trans d.symm,by omega,E⟩
def lB(l:cA)(e:E):cA:=l.filter (λx=>ahead x e)++e::l.filter (λx=>ahead e x)
def mh{x:E}:x∈lB e w↔x=w\/(x∈e/\¬(x.key=w.key/\x.bH=w.bH)):=by
 unfold lB;simp only[ak,aA,cU];constructor;rintro(⟨a,b⟩|rfl|⟨a,b⟩);refine .inr ⟨a,λq=>?_⟩;rcases je.1 b with c|⟨_,c⟩;rw[q.1,fo]at c;cases c;omega;exact .inl rfl;refine .inr ⟨a,λq=>?_⟩;rcases je.1 b with c|⟨_,c⟩;rw[q.1,fo]at c;cases c;omega
 .rintro(rfl|⟨a,b⟩)
  .exact .inr<|.inl rfl
  .cases c:ahead x w with
   |true=>exact .inl ⟨a,rfl⟩
   |false=>exact .inr<|.inr ⟨a,yC c<|λq=>b ⟨q.1.symm,q.2.symm⟩⟩
def dQ.lB(h:dQ e)(f:E):dQ (lB e f):=by
 unfold Go.Proofs.YtnfehfmncheoiaaGreatDoor.lB;refine bP.2 ⟨h.sub eW,bj.2 ⟨λx d=>(cU.1 d).2,h.sub eW⟩,λg c i a=>?_⟩;have b:=(cU.1 c).2;rcases aA.1 a with rfl|a;exact b;exact ud b (cU.1 a).2
def gN.lB(h:gN e)(a:w.key≠⟨#[]⟩):gN (lB e w):=by
 refine⟨h.mq.lB w,λx b=>?_⟩;rcases mh.1 b with rfl|⟨c,_⟩;exact a;exact h.key x c
def Mo(j:gN e)(i:w.key≠⟨#[]⟩)(l:m<w.bH):jZ m (lB e w)=jZ m e:=by
 refine(mL (j.lB i) m).ext (mL j m) λx=>?_;rw[jh<|j.lB i,jh j];have c:∀a:E,a.bH<=m->(a∈lB e w↔a∈e):=by intro a d;rw[mh];constructor;rintro(rfl|⟨f,_⟩);omega;exact f;exactλf=>.inr ⟨f,λq=>by omega⟩
 constructor;rintro⟨f,h,k⟩;exact⟨(c x h).1 f,h,λa d g b=>k a ((c a b).2 d) g b⟩;rintro⟨f,h,k⟩;exact⟨(c x h).2 f,h,λa d g b=>k a ((c a b).1 d) g b⟩
def Mq(m:gN e)(j:w.key≠⟨#[]⟩){b:X}(i:w.bH<=b)(k:∀x∈e,x.key=w.key->x.bH<=w.bH):jZ b (lB e w)=sQ (jZ b e) w:=by
 refine(mL (m.lB j) b).ext ((mL m b).sQ w) λx=>?_;rw[jh<|m.lB j,yo,jh m];constructor;rintro⟨g,o,l⟩;rcases mh.1 g with rfl|⟨g,q⟩;exact .inl rfl;by_cases d:x.key=w.key;have n:=l w (mh.2<|.inl rfl) d.symm i;have r:=k x g d;exact absurd ⟨d,by omega⟩ q;exact .inr ⟨⟨g,o,λc f a h=>l c (mh.2<|.inr ⟨f,λp=>d<|a.symm.trans p.1⟩) a h⟩,d⟩;rintro(rfl|⟨⟨g,o,l⟩,d⟩);refine⟨mh.2<|.inl rfl,i,λc f a _=>?_⟩;rcases mh.1 f with rfl|⟨g,_⟩;exact ri _;exact k c g a;refine⟨mh.2<|.inr ⟨g,λp=>d p.1⟩,o,λc f a h=>?_⟩;rcases mh.1 f with rfl|⟨n,_⟩;exact absurd a.symm d;exact l c n a h
def fB(l m:cA):cA:=m.foldl lB l
def gN.fB(h:gN e)(a:∀b∈L,b.key≠⟨#[]⟩):gN (fB e L):=by
 induction L generalizing e with
 |nil=>exact h
 |cons b r d=>exact d (h.lB<|a b<|by simp)<|λx c=>a x<|by simp[c]
def xA(a:w∈fB e L):w∈e\/w∈L:=by
 induction L generalizing e with
 |nil=>exact .inl a
 |cons d r b=>
  rcases b a with q|q
  .rcases mh.1 q with rfl|⟨c,_⟩
   .exact .inr<|by simp
   .exact .inl c
  .exact .inr<|by simp[q]
def OU(i:gN e)(f:∀b∈L,b.key≠⟨#[]⟩)(c:∀b∈L,b.bH=m)(g:F<m):jZ F (fB e L)=jZ F e:=by
 induction L generalizing e with
 |nil=>rfl
 |cons b r h=>
  have d:=f b (by simp);exact(h (i.lB d) (λx a=>f x<|by simp[a])<|λx a=>c x<|by simp[a]).trans<|Mo i d (by rw[c b<|by simp];exact g)
def OV(k:gN e)(g:∀b∈L,b.key≠⟨#[]⟩)(c:∀b∈L,b.bH=m)(n:m<=F)(f:∀x∈e,x.bH<=m):jZ F (fB e L)=gK (jZ F e) L:=by
 induction L generalizing e with
 |nil=>rfl
 |cons b r j=>
  have d:=g b (by simp);have o:=c b (by simp);have h:=j (k.lB d) (λx a=>g x<|by simp[a]) (λx a=>c x<|by simp[a]) (λx a=>by
   rcases mh.1 a with rfl|⟨l,_⟩
   .omega
   .exact f x l)
  have i:=Mq k d (b:=F) (by omega) (λx a _=>by have:=f x a;omega);exact h.trans (by rw[i];rfl)
def PO(h:gN e)(c:∀x∈e,x.bH<=m)(i:m<=F):jZ F e=jZ m e:=by
 refine(mL h F).ext (mL h m) λx=>?_;rw[jh h,jh h];constructor;rintro⟨f,_,g⟩;exact⟨f,c x f,λa b d _=>g a b d (by have:=c a b;omega)⟩;rintro⟨f,_,g⟩;exact⟨f,by have:=c x f;omega,λa b d _=>g a b d<|c a b⟩
def sY(e:E):dW->dW
 |(x::g)::a=>if x.key=e.key then(e::x::g)::a else [e]::(x::g)::a
 |a=>[e]::a
def ig:cA->dW
 |[]=>[]
 |e::r=>sY e<|ig r
def Da(l:cA):∀g∈ig l,g≠[]:=by
 induction l with
 |nil=>intro g a;cases a
 |cons f r b=>
  intro g a;unfold ig sY at a;split at a
  .rename_i x d e c;rw[c]at b;split at a
   .rcases aA.1 a with rfl|a
    .simp
    .exact b g<|by simp[a]
   .rcases aA.1 a with rfl|a
    .simp
    .exact b g a
  .rcases aA.1 a with rfl|a
   .simp
   .exact b g a
def pt(l:cA):(ig l).flatten=l:=by
 induction l with
 |nil=>rfl
 |cons e r a=>
  unfold ig sY;split
  .rename_i x g c b;rw[b]at a;split<;>simp[<-a]
  .simp[a]
def yt(r:cA):∀g∈ig r,∀x∈g,∀a∈g,x.key=a.key:=by
 induction r with
 |nil=>intro g b;cases b
 |cons f t c=>
  intro g b;have h:∀x∈[f],∀a∈[f],x.key=a.key:=by simp
  unfold ig sY at b;split at b
  .rename_i x j s n;rw[n]at c;split at b
   .rename_i m;rcases aA.1 b with rfl|b
    .have i:∀a∈x::j,a.key=f.key:=λa b=>(c _ (by simp) a b x<|by simp).trans m;intro o k p l;have d:o.key=f.key:=(aA.1 k).elim (λq=>by rw[q])<|λq=>i o q;have e:p.key=f.key:=(aA.1 l).elim (λq=>by rw[q])<|λq=>i p q;exact d.trans e.symm
    .exact c g<|by simp[b]
   .rcases aA.1 b with rfl|b
    .exact h
    .exact c g b
  .rcases aA.1 b with rfl|b
   .exact h
   .exact c g b
def GU(e:E)(r:cA):∃g a,ig (e::r)=(e::g)::a:=by
 unfold ig sY;split;split;exact⟨_,_,rfl⟩;exact⟨[],_,rfl⟩;exact⟨[],_,rfl⟩
def IX(e:E)(a b:dW)(h:a≠[]):sY e (a++b)=sY e a++b:=by
 cases a with
 |nil=>exact absurd rfl h
 |cons g a=>
  cases g with
  |nil=>rfl
  |cons x g=>
   simp only[cq,sY];split<;>rfl
def LD(p s:cA)(h:∀c∈p.getLast?,∀b∈s.head?,c.key≠b.key):ig (p++s)=ig p++ig s:=by
 induction p with
 |nil=>rfl
 |cons e r g=>
  cases r with
  |nil=>
   cases s with
   |nil=>rfl
   |cons b s=>
    have f:e.key≠b.key:=h e (by simp) b (by simp);obtain⟨i,d,a⟩:=GU b s;show sY e (ig<|b::s)=[[e]]++ig (b::s);rw[a];simp only[sY];rw[cY<|λc=>f c.symm];rfl
  |cons x r=>
   have:=g<|λc a b d=>h c (by simpa using a) b d;show sY e (ig<|(x::r)++s)=sY e (ig<|x::r)++ig s;rw[this,IX];obtain⟨i,d,a⟩:=GU x r;rw[a];simp
def Uq(b:e≠[])(d:∀x∈e,∀a∈e,x.key=a.key):ig e=[e]:=by
 induction e with
 |nil=>exact absurd rfl b
 |cons c r f=>
  cases r with
  |nil=>rfl
  |cons x r=>
   have:=f (by simp)<|λe b g c=>d e (by simp at b|-;exact .inr b) g (by simp at c|-;exact .inr c);show sY c (ig<|x::r)=_;rw[this];simp only[sY];rw[dw<|d x (by simp) c<|by simp]
def oJ(a:cr X)(p:Option E)(e:E)(r:cA):kM a p (e::r)=if pq a p e then e::kM a (H e) r else kM a (H e) r:=rfl
def zC(e:E)(r:cA):jj (e::r)=if e.del&&!((jj r).any λa=>decide<|a.key=e.key)then jj r else e::jj r:=rfl
def IJ(a:cr X)(l s:cA):∀p:Option E,(∀c,(p.toList++l).getLast?=H c->∀b∈s.head?,c.key≠b.key)->kM a p (l++s)=kM a p l++kM a none s:=by
 induction l with
 |nil=>
  intro p h;cases s with
  |nil=>rfl
  |cons b s=>
   cases p with
   |none=>rfl
   |some q=>
    have g:q.key≠b.key:=h q (by simp) b (by simp);show kM a (H q) (b::s)=kM a none (b::s);have d:pq a (H q) b=bU:=by simp[pq,g]
    have f:pq a none b=bU:=rfl;rw[oJ,oJ,dw d,dw f]
 |cons e r i=>
  intro p h;have:=i (H e) (λc f b g=>h c (by
   have d:(p.toList++e::r).getLast?=(e::r).getLast?:=by cases p with|none=>rfl|some q=>exact uF
   rw[d];exact f) b g)
  show kM a p (e::(r++s))=kM a p (e::r)++kM a none s;rw[oJ,oJ,this];split<;>rfl
def Ck(a:cr X)(l s:cA)(h:∀b∈l.getLast?,∀d∈s.head?,b.key≠d.key):eG a (l++s)=eG a l++eG a s:=IJ a l s none<|λb c=>h b<|by simpa using c
def Mn(l s:cA)(h:∀b∈l,∀i∈s,b.key≠i.key):jj (l++s)=jj l++jj s:=by
 induction l with
 |nil=>rfl
 |cons e r g=>
  have c:=g (λb a=>h b<|by simp[a]);show jj (e::(r++s))=_;rw[zC,zC,c,List.any_append];have d:((jj s).any λa=>decide<|a.key=e.key)=bE:=by
   rw[List.any_eq_false];intro a f;simpa usingλc=>h e (by simp) a ((pA s).subset f) (c:a.key=e.key).symm
  rw[d,Bool.or_false];split<;>rfl
def uO(g:cA):cA:=(g.reverse.dropWhile<|λe=>e.del).reverse
def Gi(g:cA)(e:E):uO (g++[e])=if e.del then uO g else g++[e]:=by
 unfold uO;simp only[List.reverse_append,tI,List.reverse_nil,cC,jO,List.dropWhile_cons];split<;>simp
def Qd(e:E)(g:cA):uO (e::g)=if uO g=[]then(if e.del then []else [e])else e::uO g:=by
 unfold uO;rw[tI,List.dropWhile_append];cases hq:g.reverse.dropWhile (λe=>e.del)with
 |nil=>
  simp[List.dropWhile_cons];split<;>simp_all
 |cons x r=>simp
def Vn(d:∀x∈e,∀a∈e,x.key=a.key):jj e=uO e:=by
 induction e with
 |nil=>rfl
 |cons f r g=>
  have c:=g (λe a f b=>d e (by simp[a]) f<|by simp[b]);rw[zC,c,Qd];have b:∀a∈uO r,a.key=f.key:=λa e=>d a (by rw[<-c]at e;simp[(pA r).subset e]) f (by simp);cases ht:uO r with
  |nil=>simp
  |cons x t=>
   have:x.key=f.key:=b x (by rw[ht];simp);simp[this]
def DH{b:cr X}(h:gN e)(a:∀c∈L,c.key≠⟨#[]⟩)(d:∀c∈L,c.bH=m+1)(f:F∈b)(g:F<=m):(eG b (fB e L)::k).map (jZ F)=(e::k).map (jZ F):=by
 simp only[aX];rw[yA (h.fB a)<|.inl f,OU h a d<|by omega]
def xp{rest:dW}{ms:cr X}(h:gN e)(j:∀r∈rest,gN r)(d:∀f∈L,f.key≠⟨#[]⟩)(c:∀f∈L,f.bH=m+1)(a:∀x∈e,x.bH<=m)(i:∀r∈rest,∀x∈r,x.bH<=m):(eG ms (fB e L)::rest).map (jZ<|m+1)=gK (jZ m e) L::rest.map (jZ m):=by
 simp only[aX];have g:∀x∈fB e L,x.bH<=m+1:=by intro x b;rcases xA b with q|q;have:=a x q;omega;have:=c x q;omega
 rw[yA (h.fB d)<|.inr g,OV h d c (ri _) (λx b=>by have:=a x b;omega),PO h a<|by omega];congr 1;exact nU λr a=>PO (j r a) (i r a)<|by omega
def Is{a:cr X}(h:gN e)(b:m∈a\/∀x∈e,x.bH<=m):(eG a e::k).map (jZ m)=(e::k).map (jZ m):=by
 simp only[aX];rw[yA h b]
def RU(b:∀r∈k,gN r)(c:kr k)(d:X)(e:ab):qM [jZ d<|di k] e=qM (k.map<|jZ d) e:=by
 have l:∀r∈k.map (jZ d),wM r:=λr h=>by obtain⟨s,g,rfl⟩:=aY.1 h;exact mL (b s g) d
 have a:∀e f,qM (k.map<|jZ d) e=H f->f.key=e:=λe f q=>((Pv l<|KX c b d).1 q).2;rw[qi,yw,sD];have h:=nB b c;cases hf:qM (k.map<|jZ d) e with
 |some f=>
  have:=a e f hf;exact(nD<|mL h d).2 ⟨(xB b c).2 (by rw[this];exact hf),this⟩
 |none=>
  refine nE.2 λf i j=>?_;have:=(xB b c).1 i;rw[j,hf]at this;cases this
def gU(b:cr X)(a:Bool)(c:dW):cA:=if a then jj (eG b<|di c)else eG b (di c)
def zu(d:cr X)(a:Bool)(c:dW):∀x∈gU d a c,x∈c.flatten:=by
 intro x b;have e:x∈eG d (di c):=by unfold gU at b;split at b;exact(pA _).subset b;exact b
 exact(fG c).mem_iff.1<|(mf d _).subset e
def Er(d:∀r∈k,gN r)(c:kr k)(b:cr X)(a:Bool):gN (gU b a k):=by
 unfold gU;split;exact((nB d c).Lb b).bare;exact(nB d c).Lb b
def Aj{j:dW}(e:∀r∈k,gN r)(d:kr k){a:cr X}(i:m∈a\/∀x∈k.flatten,x.bH<=m)(h:D=bU->∀f,qM (j.map<|jZ m) f=none):AP (k.map<|jZ m) [jZ m<|gU a D k] (j.map<|jZ m):=by
 have c:=nB e d;have b:m∈a\/∀x∈di k,x.bH<=m:=i.imp_right λq x c=>q x<|(fG k).mem_iff.1 c;have g:jZ m (eG a<|di k)=jZ m (di k):=yA c b;intro f;rw[<-RU e d m f,<-g];unfold gU;cases D with
 |false=>exact .inl rfl
 |true=>exact Oc (c.Lb a) (h rfl) m f
def BM(n:gN (e++L))(k:∀d∈e,∀g∈L,d.key≠g.key)(g:X):jZ g (e++L)=jZ g e++jZ g L:=by
 have i:gN e:=n.sub<|oo _ _;have j:gN L:=n.sub<|ga _ _;have f:wM (jZ g e++jZ g L):=by refine bP.2 ⟨mL i g,mL j g,λx c a b=>?_⟩;rcases je.1 ((bP.1 n.mq).2.2 x (xQ i c) a<|xQ j b)with h|⟨h,_⟩;exact h;exact absurd h<|k x (xQ i c) a<|xQ j b
 refine(mL n g).ext f λx=>?_;rw[ak,jh n,jh i,jh j];constructor;rintro⟨d,h,m⟩;rcases ak.1 d with d|d;exact .inl ⟨d,h,λa b=>m a<|by simp[b]⟩;exact .inr ⟨d,h,λa b=>m a<|by simp[b]⟩;rintro(⟨d,h,m⟩|⟨d,h,m⟩);refine⟨by simp[d],h,λa b c l=>?_⟩;rcases ak.1 b with b|b;exact m a b c l;exact absurd c.symm<|k x d a b;refine⟨by simp[d],h,λa b c l=>?_⟩;rcases ak.1 b with b|b;exact absurd c<|k a b x d;exact m a b c l
def WI(n:∀r∈k,gN r)(j:kr k)(c:ab)(u:X):∀x,x∈mX ⟨#[]⟩ ((di<|k.map<|fQ c).filter<|λA=>decide<|A.bH<=u)↔qM (k.map<|jZ u) x.key=H x/\ie x.key c=bE:=by
 have d:∀r∈k.map (fQ c),∃s∈k,r=fQ c s:=λr B=>by obtain⟨s,h,rfl⟩:=aY.1 B;exact⟨s,h,rfl⟩
 have o:∀r∈k.map (fQ c),gN r:=λr B=>by obtain⟨s,h,rfl⟩:=d r B;exact(n s h).sub eW
 have l:kr (k.map<|fQ c):=by unfold kr;rw[js];exact j.imp λ{r s}q x b a e A=>q x (cU.1 b).1 a (cU.1 e).1 A
 intro x;have C:=nB o l;have i:=nB n j;have b:∀a,a∈di (k.map<|fQ c)↔a∈di k/\ie a.key c=bE:=λa=>((fG _).mem_iff.trans Ua).trans<|and_congr_left λ_=>(fG k).mem_iff.symm;show x∈jZ u (di<|k.map<|fQ c)↔_;rw[<-xB n j,jh C,jh i];constructor;rintro⟨p,v,w⟩;obtain⟨t,f⟩:=(b x).1 p;exact⟨⟨t,v,λa e g m=>w a ((b a).2 ⟨e,by rw[g];exact f⟩) g m⟩,f⟩;rintro⟨⟨p,v,w⟩,f⟩;exact⟨(b x).2 ⟨p,f⟩,v,λa e g m=>w a ((b a).1 e).1 g m⟩
def gS(g h:cA):Prop:=∀x∈g,∀a∈h,ie x.key a.key=bU
def Bt(u:dQ e):(ig e).Pairwise gS:=by
 induction e with
 |nil=>exact List.Pairwise.nil
 |cons t r d=>
  obtain⟨o,p⟩:=bj.1 u;have d:=d p;unfold ig sY;split
  .rename_i x j h g;have k:(x::j)++h.flatten=r:=by have:=pt r;rw[g]at this;simpa using this
   have a:∀b∈x::j,b.key=x.key:=λb c=>yt r (x::j) (by rw[g];simp) b c x (by simp);rw[g]at d;split
   .rename_i c;obtain⟨l,n⟩:=bj.1 d;refine bj.2 ⟨λs b q f m i=>?_,n⟩;have:=l s b x (by simp) m i;rcases aA.1 f with rfl|f
    .rw[<-c];exact this
    .rw[a q f];exact this
   .rename_i c;refine bj.2 ⟨λs b q f m i=>?_,d⟩;rw[bG.1 f];have l:ie t.key x.key=bU:=by
     rcases je.1 (o x (by rw[<-k];simp))with n|⟨n,_⟩
     .exact n
     .exact absurd n.symm c
    rcases aA.1 b with rfl|b
    .rw[a m i];exact l
    .exact lH l<|(bj.1 d).1 s b x (by simp) m i
  .rename_i h g;have a:ig r=[]:=by
    cases c:ig r with
    |nil=>rfl
    |cons j h=>
     cases j with
     |nil=>exact absurd rfl<|Da r [] (by rw[c];simp)
     |cons x j=>exact(g x j h c).elim
   rw[a];exact bj.2 ⟨λs b=>(by cases b),List.Pairwise.nil⟩
def kI(n L:M):M->M->cA->dW->dW
 |_,_,_,[]=>[]
 |k,b,a,g::c=>
  if(k+1)*L/n<=b+y g then(a++g)::kI n L (k+1) (b+y g) [] c
  else kI n L k (b+y g) (a++g) c
def oV(n L k b:M)(a g:cA)(c:dW):kI n L k b a (g::c)=if(k+1)*L/n<=b+y g then(a++g)::kI n L (k+1) (b+y g) [] c else kI n L k (b+y g) (a++g) c:=rfl
def MW{n L:M}(l:0<n):∀(c:dW)(k d:M)(a:cA),d+y c.flatten=L->(k<n\/(c.flatten=[]/\a=[]))->(a≠[]->d<(k+1)*L/n)->(kI n L k d a c).flatten=a++c.flatten:=by
 intro c;induction c with
 |nil=>
  intro k d a f b g;have:a=[]:=by
   rcases b with b|b
   .by_cases e:a=[]
    .exact e
    .have:=g e;have j:(k+1)*L/n<=L:=Nat.div_le_of_le_mul<|kg L b;simp at f;omega
   .exact b.2
  rw[this];rfl
 |cons i c h=>
  intro k d a f b g;simp only[aW,af]at f b;rw[oV];split
  .rename_i e;rw[aW,h (k+1) (d+y i) [] (by omega) ?_<|λq=>absurd rfl q]
   .simp
   .rcases b with b|b
    .by_cases j:k+1<n
     .exact .inl j
     .have m:k+1=n:=by omega
      rw[m,Nat.mul_div_cancel_left L l]at e;exact .inr ⟨aP (by omega),rfl⟩
    .exact .inr ⟨(kQ.1 b.1).2,rfl⟩
  .rename_i e;rw[h k (d+y i) (a++i) (by omega) ?_<|λ_=>by omega]
   .simp
   .rcases b with b|b
    .exact .inl b
    .exact .inr ⟨(kQ.1 b.1).2,by rw[b.2,(kQ.1 b.1).1];rfl⟩
def Kf:∀(e:dW)(k h:M)(d:cA),(∀j∈e,j≠[])->∀p∈kI b c k h d e,p≠[]:=by
 intro e;induction e with
 |nil=>intro k h d _ p a;cases a
 |cons j e i=>
  intro k h d f p a;rw[oV]at a;split at a
  .rcases aA.1 a with rfl|a
   .intro l;exact f j (by simp) (kQ.1 l).2
   .exact i _ _ _ (λx g=>f x<|by simp[g]) p a
  .exact i _ _ _ (λx g=>f x<|by simp[g]) p a
def Qp{n L F V:M}(s:0<n)(hF:L<=n*F)(o:0<F):∀(e:dW)(k d:M)(a:cA),(∀i∈e,y i<=V+1)->k*L/n+y a<=d->(a≠[]->d<(k+1)*L/n)->∀p∈kI n L k d a e,y p<=F+V:=by
 intro e;induction e with
 |nil=>intro k d a _ _ _ p c;cases c
 |cons i e l=>
  intro k d a f t m p c;have r:=f i (by simp);have g:(k+1)*L/n<=k*L/n+F:=by
   have:(k+1)*L<=k*L+n*F:=by rw[wS,Nat.one_mul];omega
   exact aD (Nat.div_le_div_right this)<|Nat.le_of_eq<|Nat.add_mul_div_left _ _ s
  rw[oV]at c;split at c
  .rename_i j;rcases aA.1 c with rfl|c
   .rw[af];by_cases b:a=[]
    .rw[b];simp;omega
    .have:=m b;omega
   .exact l (k+1) (d+y i) [] (λx h=>f x<|by simp[h]) (by simpa using j) (λq=>absurd rfl q) p c
  .rename_i j;exact l k (d+y i) (a++i) (λx h=>f x<|by simp[h]) (by rw[af];omega) (λ_=>by omega) p c
def MV:∀(f:dW)(o h:M)(d:cA),f.Pairwise gS->(∀r∈f,gS d r)->(kI b c o h d f).Pairwise gS/\∀p∈kI b c o h d f,∀x∈p,x∈d\/x∈f.flatten:=by
 intro f;induction f with
 |nil=>intro o h d _ _;exact⟨List.Pairwise.nil,λp g=>by cases g⟩
 |cons r f u=>
  intro o h d g t;obtain⟨v,w⟩:=bj.1 g;rw[oV];split
  .obtain⟨n,l⟩:=u (o+1) (h+y r) [] w (λ_ _ x a=>by cases a);refine⟨bj.2 ⟨λq A x a e k=>?_,n⟩,λp g x a=>?_⟩
   .have m:e∈f.flatten:=(l q A e k).resolve_left (by simp);obtain⟨s,i,j⟩:=bz.1 m;rcases ak.1 a with a|a
    .exact t s (by simp[i]) x a e j
    .exact v s i x a e j
   .rcases aA.1 g with rfl|g
    .rcases ak.1 a with a|a
     .exact .inl a
     .exact .inr<|by simp[a]
    .exact .inr (by rw[aW];exact ib _<|(l p g x a).resolve_left<|by simp)
  .obtain⟨n,l⟩:=u o (h+y r) (d++r) w (λs i x a e k=>by
    rcases ak.1 a with a|a
    .exact t s (by simp[i]) x a e k
    .exact v s i x a e k)
   refine⟨n,λp g x a=>?_⟩;rcases l p g x a with q|q
   .rcases ak.1 q with q|q
    .exact .inl q
    .exact .inr<|by simp[q]
   .exact .inr (by rw[aW];exact ib _ q)
def II(a:cr X)(r:dQ e)(l:∀x∈e,∀j∈e,x.key=j.key):∀p:Option E,dQ (p.toList++e)->(∀q∈p,∀x∈e,q.key=x.key)->y (kM a p e)<=y (a.filter (λm=>match p with|none=>bU|some q=>decide<|m<q.bH))+(if p=none then 1 else 0):=by
 induction e with
 |nil=>intro p _ _;simp[kM]
 |cons b s g=>
  intro p o f;have g:=g (r.sub<|pN _ _) (λe a f k=>l e (by simp[a]) f<|by simp[k]) (H b) r (λq c x d=>by cases c;exact l _ (by simp) x<|by simp[d]);simp only[reduceCtorEq,ke,jq]at g;rw[oJ];cases p with
  |none=>
   have c:pq a none b=bU:=rfl;rw[dw c];simp only[ay,jf];have d:y (a.filter<|λm=>decide<|m<b.bH)<=y (a.filter<|λ_=>bU):=by rw[eX.2<|λ_ _=>rfl];exact fj _ _
   have h:y (kM a (H b) s)<=y (a.filter<|λm=>decide<|m<b.bH):=g;exact Nat.succ_le_succ<|aD h d
  |some q=>
   have k:b.bH<q.bH:=by
    rcases je.1 ((bP.1 o).2.2 q (by simp) b<|by simp)with d|⟨_,d⟩
    .rw[f q rfl b (by simp),fo]at d;cases d
    .exact d
   have h:y (kM a (H b) s)<=y (a.filter<|λm=>decide<|m<b.bH):=g;simp only[reduceCtorEq,ke,jq];show _<=y (a.filter<|λm=>decide<|m<q.bH);have c:∀a:cr X,y (a.filter<|λm=>decide<|m<b.bH)+y (a.filter<|λm=>decide (b.bH<=m)&&decide (m<q.bH))=y (a.filter<|λm=>decide<|m<q.bH):=by
    intro a;induction a with
    |nil=>rfl
    |cons m a d=>
     simp only[List.filter_cons];by_cases c1:m<b.bH
     .have c2:m<q.bH:=by omega
      have c3:¬b.bH<=m:=by omega
      simp[c1,c2,c3]at d|-;omega
     .have c3:b.bH<=m:=by omega
      by_cases c2:m<q.bH
      .simp[c1,c2,c3]at d|-;omega
      .simp[c1,c2,c3]at d|-;omega
   have t:=c a;split
   .rename_i n;simp only[pq,f q rfl b (by simp),mu,uf,yM]at n;have:0<y (a.filter<|λm=>decide (b.bH<=m)&&decide (m<q.bH)):=by
     obtain⟨m,d,i⟩:=iZ.1 n;exact vB<|cU.2 ⟨d,i⟩
    simp only[ay];omega
   .omega
def UZ{l:cr T}{p:T->Bool}(k:l.Pairwise (λi j=>p j=bU->p i=bU)):l.take (l.countP p)=l.filter p/\l.drop (l.countP p)=l.filter (λx=>!p x):=by
 induction l with
 |nil=>simp
 |cons x r h=>
  obtain⟨d,e⟩:=bj.1 k;obtain⟨f,g⟩:=h e;cases hx:p x with
  |true=>
   rw[uI hx,eP hx,de<|by simp[hx]];exact⟨by simp[f],by simp[g]⟩
  |false=>
   have m:∀a∈r,p a=bE:=λa b=>by
    cases c:p a with
    |false=>rfl
    |true=>rw[d a b c]at hx;cases hx
   rw[rU.2 (λa b=>by rcases aA.1 b with rfl|b<;>simp[*])];refine⟨?_,?_⟩
   .rw[gO.2 (λa b=>by rcases aA.1 b with rfl|b<;>simp[*])];rfl
   .rw[eX.2 (λa b=>by rcases aA.1 b with rfl|b<;>simp[*])];rfl
def li(l:cA)(e:E):M:=l.countP<|λx=>ahead x e
def ID(l:cA)(e:E):li l e<=y l:=List.countP_le_length
def dQ.cut(h:dQ e)(a:E):e.take (li e a)=e.filter (λx=>ahead x a)/\e.drop (li e a)=e.filter (λx=>!ahead x a):=UZ<|h.imp λ{_ _}q c=>ud q c
def dQ.mono(h:dQ e){i j:M}(a:i<=j)(d:j<y e)(b:ahead e[j] w=bU):ahead (e[i]'(by omega)) w=bU:=by
 rcases lf a with c|c;exact ud (cy.1 h i j (by omega) d c) b;subst c;exact b
def VV(j:b<=y e)(f:∀t(h:t<y e),t<b->ahead e[t] w=bU)(g:∀t(h:t<y e),b<=t->ahead e[t] w=bE):li e w=b:=by
 unfold li;rw[<-bW b e,List.countP_append];have k:(e.take b).countP (λx=>ahead x w)=b:=by rw[List.countP_eq_length.2];simp;omega;intro x d;obtain⟨i,c,rfl⟩:=dO d;rw[gq];(have a:i<b/\i<y e:=by simp at c;omega);exact f i a.2 a.1
 have l:(e.drop b).countP (λx=>ahead x w)=0:=by rw[rU];intro x d;obtain⟨i,c,rfl⟩:=dO d;rw[ng];(have a:i<y e-b:=by simpa using c);rw[g (b+i) (by omega)<|by omega];simp
 omega
def Oo(t:dQ e)(k v:ab)(j:Bool)(d:X):iA d e k=if h:∃g:li e ⟨k,v,j,d⟩<y e,e[li e ⟨k,v,j,d⟩].key=k then H (e[li e ⟨k,v,j,d⟩]'h.1)else none:=by
 induction e with
 |nil=>simp[iA]
 |cons x r i=>
  obtain⟨m,n⟩:=bj.1 t;have i:=i n;unfold iA at i|-;cases ha:ahead x ⟨k,v,j,d⟩with
  |true=>
   have g:li (x::r) ⟨k,v,j,d⟩=li r ⟨k,v,j,d⟩+1:=uI (p:=λx=>ahead x ⟨k,v,j,d⟩) ha;have l:(decide (x.key=k)&&decide (x.bH<=d))=bE:=by
    rcases je.1 ha with h|⟨h,c2⟩
    .simp[oa h]
    .have:¬x.bH<=d:=by simp at c2;omega
     simp[this]
   rw[List.find?_cons_of_neg (by simpa using l),i];simp[g]
  |false=>
   have g:li (x::r) ⟨k,v,j,d⟩=0:=by
    refine rU.2 λa b=>?_;rcases aA.1 b with rfl|b
    .simp[ha]
    .have:=vP ha<|lM<|m a b;simp[this]
   obtain⟨o,s⟩:=mT ha;by_cases c:x.key=k
   .have f:=s c;rw[List.find?_cons_of_pos (by simp[c];exact f)];simp[g,c]
   .have l:∀a∈x::r,a.key≠k:=by
     intro a b;have f:ie k x.key=bU:=by
      cases h:ie k x.key with
      |true=>rfl
      |false=>exact absurd (nP o h) c
     rcases aA.1 b with rfl|b
     .exact c
     .intro h;rcases je.1 (m a b)with q|⟨q,_⟩
      .rw[h]at q;rw[lI q]at f;cases f
      .exact c<|q.trans h
    rw[mF.2<|λa b=>by simp[l a b]];simp[g,c]
def QX(h:dQ e)(a v:ab)(f:Bool)(b:∀x∈e,x.bH<=m):e.drop (li e ⟨a,v,f,m⟩)=fQ a e:=by
 rw[(h.cut _).2];refine tJ λx d=>?_;congr 1;rw[wk,je];constructor;rintro(c|⟨_,c⟩);exact c;have:=b x d;simp at c;omega;exact .inl
def PX(j:dQ e)(b:E)(d:li e b<y e)(h:e[li e b].key=b.key)(f:e[li e b].bH=b.bH):e.set (li e b) b=lB e b:=by
 unfold lB;rw[jg,dw d,(j.cut b).1];congr 2;have g:=(j.cut b).2;rw[bD d]at g;have n:dQ (e[li e b]::e.drop (li e b+1)):=by rw[<-bD d];exact j.sub<|kB _ _
 have k:=(bj.1 n).1;have l:ahead b e[li e b]=bE:=by unfold ahead;simp[h,f,fo]
 have m:∀a,ahead e[li e b] a=ahead b a:=λa=>by unfold ahead;rw[h,f]
 generalize e[li e b]=p at*
 have i:e.filter (λx=>ahead b x)=(e.filter<|λx=>!ahead x b).filter (λx=>ahead b x):=by
  rw[List.filter_filter];refine tJ λx _=>?_;cases c:ahead b x with
  |true=>simp[lM c]
  |false=>simp
 rw[i,<-g,de (by simp[l]),eX.2];intro a o;rw[<-m];exact k a o
def PZ(h:dQ e)(a:E)(b:∀x∈e,¬(x.key=a.key/\x.bH=a.bH)):e.take (li e a)++a::e.drop (li e a)=lB e a:=by
 unfold lB;rw[(h.cut a).1,(h.cut a).2];congr 2;refine tJ λx d=>?_;cases c:ahead a x with
 |true=>simp[lM c]
 |false=>
  have:=yC c<|λq=>b x d ⟨q.1,q.2⟩;simp[this]
def dQ.XP(m:dQ e)(a:E)(n:∀d:li e a<y e,¬(e[li e a].key=a.key/\e[li e a].bH=a.bH)):∀x∈e,¬(x.key=a.key/\x.bH=a.bH):=by
 rintro x p⟨g,f⟩;have i:ahead x a=bE:=by unfold ahead;simp[g,f,fo]
 have b:x∈e.drop (li e a):=by rw[(m.cut a).2];simp[p,i]
 have d:li e a<y e:=by rcases dE (li e a) (y e)with l|l;exact l;rw[pQ l]at b;cases b
 have k:=(m.cut a).2;rw[bD d]at b k;have j:ahead e[li e a] a=bE:=by(have:e[li e a]∈e.filter (λx=>!ahead x a):=by rw[<-k];exact dy);simpa using(cU.1 this).2
 have o:dQ (e[li e a]::e.drop (li e a+1)):=by rw[<-bD d];exact m.sub<|kB _ _
 have h:=n d;generalize e[li e a]=c at*;rcases aA.1 b with rfl|b;exact h ⟨g,f⟩;have:=(bj.1 o).1 x b;(have l:ahead c x=ahead c a:=by unfold ahead;rw[g,f]);rw[l,j]at this;cases this
def dQ.Ur(h:dQ e)(a:b<=c)(f:c<y e):ie e[c].key (e[b]'(by omega)).key=bE:=by
 rcases lf a with d|d;exact(mT<|lM<|cy.1 h b c (by omega) f d).1;subst d;exact fo _
def dQ.CY(h:dQ e)(a:0<y e)(b:w∈e):ie (e[y e-1]'(by omega)).key w.key=bE:=by
 obtain⟨i,c,rfl⟩:=dO b;exact h.Ur (by omega)<|by omega
def dQ.xK(h:dQ e)(a:0<y e)(c:w∈e):ie w.key (e[0]'a).key=bE:=by
 obtain⟨i,b,rfl⟩:=dO c;exact h.Ur (bw i) b
def yW(b:X)(l s:cA)(k:ab):iA b (l++s) k=(iA b l k).or (iA b s k):=List.find?_append
def qY{l:cA}(h:∀x∈l,x.key≠v):iA m l v=none:=mF.2<|λx a=>by simp[h x a]
def AA{cs:dW}{k:ab}{i:M}(g:i<y cs)(r:∀x∈cs.flatten,x.key=k->∃f:i<y cs,x∈cs[i])(n:cs.Pairwise gS)(p:X):iA p cs.flatten k=iA p cs[i] k:=by
 have q:cs.flatten=(cs.take i).flatten++(cs[i]++(cs.drop<|i+1).flatten):=by(conv=>lhs;rw[<-bW i cs,bD g]);rw[dP,aW]
 have d:∀j(b:j<y cs),j≠i->∀x∈cs[j],x.key≠k:=by intro j b h x c o;obtain⟨_,e⟩:=r x (bz.2 ⟨_,ap b,c⟩) o;rcases Nat.lt_or_gt_of_ne h with m|m;have:=cy.1 n j i b g m x c x e;rw[fo]at this;cases this;have:=cy.1 n i j g b m x e x c;rw[fo]at this;cases this
 rw[q,yW,yW,qY,qY (l:=(cs.drop<|i+1).flatten)];simp;intro x c;obtain⟨m,f,a⟩:=bz.1 c;obtain⟨j,b,rfl⟩:=dO f;rw[ng]at a;exact d _ _ (by omega) x a;intro x c;obtain⟨m,f,a⟩:=bz.1 c;obtain⟨j,b,rfl⟩:=dO f;rw[gq]at a;exact d _ _ (by simp at b;omega) x a
def nC:M->dW->cr (M×cA)
 |_,[]=>[]
 |n,g::a=>(n,g)::nC (n+y g) a
def ii(a:cr (M×cA)):cA:=(a.map (·.2)).flatten
def Bu:∀(n:M)(a:dW),(nC n a).map (·.2)=a
 |_,[]=>rfl
 |n,g::a=>by rw[nC,aX,Bu]
def Ay(l:cA):ii (nC 0<|ig l)=l:=by unfold ii;rw[Bu,pt]
def yu:∀(b:dW)(k n:M)(a:cr (M×cA))(g:cA),(a++[(n,g)])<+:nC k b->n=k+y (ii a)/\(a.map (·.2)++[g])<+:b
 |[],k,n,a,g,h=>by
  have:=h.length_le;simp[nC]at this
 |g0::b,k,n,a,g,h=>by
  rw[nC]at h;cases a with
  |nil=>
   obtain⟨s,c⟩:=h;simp at c;obtain⟨⟨rfl,rfl⟩,c⟩:=c;exact⟨by simp[ii],by simp⟩
  |cons p a=>
   rw[cq,List.cons_prefix_cons]at h;obtain⟨e,f⟩:=h;obtain⟨c,d⟩:=yu b _ n a g f;subst e;refine⟨?_,?_⟩
   .rw[c];simp[ii];omega
   .simp[d]
structure MA(l p g s:cA):Prop where
 all:l=p++g++s
 ne:g≠[]
 same:∀x∈g,∀yqq∈g,x.key=yqq.key
 low:gS p g
 uY:gS g s
def IW(m:dQ e){a:cr (M×cA)}(r:(a++[(b,L)])<+:nC 0 (ig e)):b=y (ii a)/\∃s,MA e (ii a) L s:=by
 obtain⟨q,t,i⟩:=yu _ _ _ _ _ r;have h:=Bt m;have k:L∈ig e:=by rw[<-i];simp
 have j:=pt e;rw[<-i]at h j;rw[aU]at h;obtain⟨_,n,o⟩:=bP.1 h;refine⟨by omega,t.flatten,⟨by rw[<-j];simp[ii],Da e L k,yt e L k,λx d c f=>?_,λx d c f=>?_⟩⟩;obtain⟨l,g,d⟩:=bz.1 d;exact o l g L (by simp) x d c f;obtain⟨l,g,f⟩:=bz.1 f;(have p:(L::t).Pairwise gS:=by simpa using n);exact(bj.1 p).1 l g x d c f
def tj(a:cr (M×cA))(n:M)(g:cA):ii (a++[(n,g)])=ii a++g:=by simp[ii]
def gS.ne(h:gS e L):∀a∈e,∀b∈L,a.key≠b.key:=λa c b d=>oa<|h a c b d
def MA.Lb{g s:cA}(h:MA e L g s)(a:cr X):eG a (L++g)=eG a L++eG a g:=Ck a L g<|λd b f c=>h.low.ne d (List.mem_of_getLast? b) f<|List.mem_of_head? c
def MA.bare{g s:cA}(h:MA e L g s):jj (L++g)=jj L++uO g:=by rw[Mn L g h.low.ne,Vn h.same]
def NK(a:cr X)(l:cA)(x:E):∀p:Option E,kM a p (l++[x])=kM a p l++(if pq a ((p.toList++l).getLast?) x then [x]else []):=by
 induction l with
 |nil=>intro p;cases p<;>simp[kM]
 |cons e r b=>
  intro p;rw[cq,oJ,oJ,b<|H e];have:(p.toList++e::r).getLast?=((H e).toList++r).getLast?:=by cases p with
   |none=>rfl
   |some q=>exact uF
  rw[this];split<;>simp
def wanted(a:cr X)(g:cA)(i:M)(h:i<y g):Bool:=decide (i=0)||a.any (λm=>decide (g[i].bH<=m)&&decide (m<(g[i-1]'(by omega)).bH))
def Rl{ms:cr X}(d:∀x∈e,∀a∈e,x.key=a.key)(h:b<y e):eG ms (e.take<|b+1)=eG ms (e.take b)++(if wanted ms e b h then [e[b]]else []):=by
 rw[ai h];unfold eG;rw[NK];congr 2;simp only[Option.toList_none,cC];cases b with
 |zero=>simp[pq,wanted]
 |succ b=>
  have f:(e.take<|b+1).getLast?=H e[b]:=by
   have c:b<y e:=by omega
   rw[ai c];simp only[List.getLast?_append,List.getLast?_singleton,Option.some_or]
  rw[f];have:=d e[b] (ap _) e[b+1]<|ap _;simp[pq,wanted,this]
def Qb(f:b<=y e)(h:uO e=uO (e.take b))(c:b=0\/∃h:b-1<y e,e[b-1].del=bE):uO e=e.take b:=by
 rw[h];rcases c with rfl|⟨d,a⟩;simp[uO]
 .cases b with
  |zero=>simp[uO]
  |succ b=>
   rw[ai (by omega),Gi];simp only[sE]at a;simp[a]
def Qc(c:b<y e)(a:e[b].del=bU):uO (e.take<|b+1)=uO (e.take b):=by
 rw[ai c,Gi,dw a]
def rN(n:M)(l:cA):Prop:=∀k,y (l.filter<|λx=>decide<|x.key=k)<=n
def rN.sub(h:rN b L)(s:e.Sublist L):rN b e:=λk=>aD (s.filter _).length_le<|h k
def rN.mono(h:rN b e)(a:b<=c):rN c e:=λk=>aD (h k) a
def rN.nil(n:M):rN n []:=λ_=>bw _
def rN.keys(h:rN b e):∀g∈ig e,y g<=b:=by
 intro g c;have d:g.Sublist e:=by have:=cL c;rwa[pt]at this
 cases g with
 |nil=>exact bw _
 |cons f r=>
  have a:=h.sub d f.key;rw[eX.2<|λx d=>by simpa using yt e _ c x d f (by simp)]at a;exact a
def La(c:cr X):∀a:dW,a.Pairwise gS->eG c a.flatten=(a.map<|eG c).flatten:=by
 intro a;induction a with
 |nil=>intro _;rfl
 |cons m a i=>
  intro l;obtain⟨d,e⟩:=bj.1 l;rw[aW,aX,aW,<-i e];refine Ck c _ _<|λj f k g=>?_;obtain⟨q,h,b⟩:=bz.1<|List.mem_of_mem_head? g;exact oa<|d q h j (List.mem_of_mem_getLast? f) k b
def Gg{a:cr X}(p:dQ e):rN (y a+1) (eG a e):=by
 have o:=Bt p;have n:=yt e;have b:∀g∈ig e,dQ g:=λg a=>p.sub (by have:=cL a;rwa[pt]at this);intro t;rw[<-pt e,La a _ o];generalize ig e=f at*;induction f with
 |nil=>simp
 |cons g f l=>
  obtain⟨v,w⟩:=bj.1 o;have l:=l w (λq c=>n q<|by simp[c]) (λq c=>b q<|by simp[c]);rw[aX,aW,iW,af];by_cases s:∃x∈g,x.key=t
  .obtain⟨x,A,i⟩:=s;have u:(f.map<|eG a).flatten.filter (λx=>decide<|x.key=t)=[]:=by
    rw[gO];intro d j;obtain⟨q,c,k⟩:=bz.1 j;obtain⟨r,h,rfl⟩:=aY.1 c;have:=oa<|v r h x A d<|(mf a r).subset k;simp only[jo];intro s;exact this<|i.trans s.symm
   rw[u];have m:=II a (b g<|by simp) (n g<|by simp) none (by simpa using b g (by simp)) (λq c=>by cases c);have B:=fj (λx=>decide<|x.key=t)<|eG a g;have C:y (a.filter<|λ_=>bU)<=y a:=fj _ _;simp only[jf]at m;have D:y (eG a g)<=y (a.filter<|λ_=>bU)+1:=m;simp only[cK,jq];omega
  .have u:(eG a g).filter (λx=>decide<|x.key=t)=[]:=by
    rw[gO];intro d j;simp only[jo];intro q;exact s ⟨d,(mf a g).subset j,q⟩
   rw[u];simpa using l
def uo(L:M):M:=(L+95)/96
def iz(l:cA):dW:=kI (uo<|y l) (y l) 0 0 []<|ig l
def zt(h:e≠[]):0<uo (y e):=by
 have:=gG.2 h;unfold uo;omega
def vN(l:cA):(iz l).flatten=l:=by
 by_cases c:l=[];subst c;rfl;have h:=MW (n:=uo<|y l) (L:=y l) (zt c) (ig l) 0 0 [] (by rw[pt];simp) (.inl<|zt c)<|λq=>absurd rfl q;rw[pt]at h;simpa[iz]using h
def Ec(l:cA):∀p∈iz l,p≠[]:=Kf _ _ _ _<|Da l
def Bk(h:L∈iz e):L.Sublist e:=by
 have:=cL h;rwa[vN]at this
def Eb(h:dQ e):(iz e).Pairwise gS:=(MV _ _ _ _ (Bt h)<|λ_ _ x a=>by cases a).1
def QZ(h:rN 5 e):∀p∈iz e,y p<=100:=by
 by_cases c:e=[];subst c;intro p a;cases a;(have a:y e<=uo (y e)*96:=by unfold uo;omega);exact Qp (F:=96) (V:=4) (zt c) a (by omega) _ 0 0 [] h.keys (by simp)<|λq=>absurd rfl q
def Cp{ps:dW}(h:∀p∈ps,p≠[]):y ps<=y ps.flatten:=by
 induction ps with
 |nil=>exact ah _
 |cons p r b=>
  have a:=gG.2 (h p<|by simp);have c:=b (λq a=>h q<|by simp[a]);simp only[aW,af,ay];omega
def xw(l:cA):y (iz l)<=y l:=by
 have:=Cp<|Ec l;rwa[vN]at this
def zy(l:cA):∀a,(mX a l).Sublist l:=by
 induction l with
 |nil=>intro a;exact List.Sublist.slnil
 |cons e r b=>
  intro a;unfold mX;split
  .exact(b _).cons _
  .exact(b _).cons_cons _
def UI(b:ab)(a:dW):y (a.map<|fQ b).flatten<=y a.flatten:=by
 induction a with
 |nil=>simp
 |cons r a c=>
  have h:y (fQ b r)<=y r:=fj _ _;simp only[aX,aW,af];omega
def Wq(h:qM k v=H w):w.key=v:=by
 unfold qM at h;obtain⟨r,_,a⟩:=pP h;have:=rI a;simpa using this
def Pw(h:qM k v=H w):w∈k.flatten:=by
 unfold qM at h;obtain⟨r,b,a⟩:=pP h;exact bz.2 ⟨r,b,jM a⟩
def RV(h:∀r∈k,r=[])(d:ab):qM k d=none:=by
 cases c:qM k d with
 |none=>rfl
 |some e=>
  obtain⟨r,b,a⟩:=bz.1<|Pw c;rw[h r b]at a;cases a
