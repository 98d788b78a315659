import Derived.Test.YtophdnlmpfmeiaaGreatDoorC0
namespace Go.Proofs.YtophdnlmpfmeiaaGreatDoor
open ChangeShapes WideShapes RowKit
set_option maxHeartbeats 16000000
set_option linter.all false
set_option maxRecDepth 100000
structure E where
 key:aa
 val:aa
 del:Bool
 bV:Int
def Qw:E:=⟨⟨#[]⟩,⟨#[]⟩,false,0⟩
def ep(a b:aa):Bool:=Op.bytesLess a.toList b.toList
def Bj:∀(x y:List UInt8),Op.bytesLess x y=decide (x<y)
 |[],[]=>by simp[Op.bytesLess]
 |_::_,[]=>by simp[Op.bytesLess]
 |[],_::_=>by simp[Op.bytesLess]
 |a::x,e::y=>by
  rw[Op.bytesLess,Bj x y];simp only[sf];by_cases b:a<e<;>by_cases c:a=e<;>by_cases d:x<y<;>simp[b,c,d]
def Cy{a b:aa}(h:a.toList=b.toList):a=b:=by
 have H:∀x:aa,x.toList=x.data.toList:=λx=>iD x;rw[H,H]at h;cases a;cases b;simpa using h
def eT(a:aa):ep a a=false:=by
 unfold ep;rw[Bj];simp
def iR{a b c:aa}(h:ep a b=true)(k:ep b c=true):ep a c=true:=by
 unfold ep at*;rw[Bj]at*;simp at*;exact List.lt_trans h k
def fV{a b:aa}(h:ep a b=true):ep b a=false:=by
 cases e:ep b a with
 |false=>rfl
 |true=>have:=iR h e;rw[eT]at this;cases this
def lk{a b:aa}(h:ep a b=false)(k:ep b a=false):a=b:=by
 unfold ep at*;rw[Bj]at*;simp at*;exact Cy (List.le_antisymm k h)
def kp{a b:aa}(h:ep a b=true):a≠b:=by
 rintro rfl;rw[eT]at h;cases h
def sZ{a b c:aa}(h:ep b a=false)(k:ep b c=true):ep a c=true:=by
 cases e:ep a c with
 |true=>rfl
 |false=>
  cases f:ep c a with
  |true=>have:=iR k f;rw[h]at this;cases this
  |false=>rw[lk e f,k]at h;cases h
def Gf{a b c:aa}(h:ep a b=true)(k:ep c b=false):ep a c=true:=by
 cases e:ep a c with
 |true=>rfl
 |false=>
  cases f:ep c a with
  |true=>have:=iR f h;rw[k]at this;cases this
  |false=>rw[<-lk e f,h]at k;cases k
def Jk{a b c:aa}(h:ep b a=false)(k:ep c b=false):ep c a=false:=by
 cases e:ep c a with
 |false=>rfl
 |true=>have:=Gf e h;rw[k]at this;cases this
def vq(a:aa):ep a ⟨#[]⟩=false:=by
 unfold ep;rw[Bj];have:(⟨#[]⟩:aa).toList=[]:=by rw[iD]
 rw[this];simp
def fG(l:List E):Prop:=l.Pairwise (λa b=>ep a.key b.key=true)
def fG.nil:fG []:=dK
def fG.tail{a:E}{l:List E}(h:fG (a::l)):fG l:=(bL.1 h).2
def fG.head{a:E}{l:List E}(h:fG (a::l)):∀b∈l,ep a.key b.key=true:=(bL.1 h).1
def fG.sub{l m:List E}(h:fG m)(s:l.Sublist m):fG l:=jS s h
def fG.zW{l:List E}(h:fG l){e f:E}(c:e∈l)(d:f∈l)(g:e.key=f.key):e=f:=by
 induction l with
 |nil=>cases c
 |cons x r i=>
  rcases aD.1 c with b|b
  ·rcases aD.1 d with a|a
   ·rw[b,a]
   ·rw[b]at g;exact absurd g (kp (h.head f a))
  ·rcases aD.1 d with a|a
   ·rw[a]at g;exact absurd g.symm (kp (h.head e b))
   ·exact i h.tail b a
def fG.ext{l m:List E}(h:fG l)(k:fG m)(e:∀x,x∈l↔x∈m):l=m:=by
 induction l generalizing m with
 |nil=>
  cases m with
  |nil=>rfl
  |cons y r=>exact absurd ((e y).2 (by simp)) (by simp)
 |cons x r f=>
  cases m with
  |nil=>exact absurd ((e x).1 (by simp)) (by simp)
  |cons y s=>
   have d:x=y:=by
    rcases aD.1 ((e x).1 (by simp))with a|a
    ·exact a
    ·rcases aD.1 ((e y).2 (by simp))with c|c
     ·exact c.symm
     ·have i:=k.head x a;have g:=h.head y c;rw[fV i]at g;cases g
   subst d;congr 1;refine f h.tail k.tail (λz=>⟨λb=>?_,λb=>?_⟩)
   ·rcases aD.1 ((e z).1 (aJ _ b))with rfl|a
    ·have:=h.head z b;rw[eT]at this;cases this
    ·exact a
   ·rcases aD.1 ((e z).2 (aJ _ b))with rfl|a
    ·have:=k.head z b;rw[eT]at this;cases this
    ·exact a
def pos(l:List E)(k:aa):Nat:=l.countP (λe=>ep e.key k)
def Le(l:List E)(k:aa):pos l k<=l.length:=List.countP_le_length
def PO(l:List E):pos l ⟨#[]⟩=0:=by
 unfold pos;rw[nV];intro a _;rw[vq];simp
def fG.cut{l:List E}(m:fG l)(k:aa):l.take (pos l k)=l.filter (λe=>ep e.key k)/\l.drop (pos l k)=l.filter (λe=>!ep e.key k):=by
 induction l with
 |nil=>simp[pos]
 |cons x r j=>
  obtain⟨g,h⟩:=j m.tail;cases hx:ep x.key k with
  |true=>
   have:pos (x::r) k=pos r k+1:=by unfold pos;simp[hx]
   rw[this];simp[hx,g,h]
  |false=>
   have b:∀d∈r,ep d.key k=false:=by
    intro d f;cases e:ep d.key k with
    |false=>rfl
    |true=>have:=iR (m.head d f) e;rw[hx]at this;cases this
   have:pos (x::r) k=0:=by
    unfold pos;rw[nV];intro c a;rcases aD.1 a with rfl|a
    ·simp[hx]
    ·simp[b c a]
   rw[this];refine⟨?_,?_⟩
   ·simp only[oH];symm;rw[gF];intro c a;rcases aD.1 a with rfl|a
    ·simp[hx]
    ·simp[b c a]
   ·simp only[sE];symm;rw[ff];intro c a;rcases aD.1 a with rfl|a
    ·simp[hx]
    ·simp[b c a]
def fG.Pb{l:List E}(m:fG l){e:E}(k:e∈l):∃n:pos l e.key<l.length,l[pos l e.key]=e:=by
 have g:=(m.cut e.key).2;have b:e∈l.drop (pos l e.key):=by rw[g];simp[k,eT]
 have h:fG (l.drop (pos l e.key)):=m.sub (jk _ _);have a:pos l e.key<l.length:=by
  by_cases d:pos l e.key<l.length
  ·exact d
  ·rw[jH (by omega)]at b;cases b
 refine⟨a,?_⟩;rw[bm a]at b h;rcases aD.1 b with c|c
 ·exact c.symm
 ·have i:=h.head e c;have d:l[pos l e.key]∈l.drop (pos l e.key):=by
   have j:=bm a;rw[j];exact cK
  rw[g,eH]at d;have f:=d.2;rw[i]at f;cases f
def kn(l:List E)(e:E):List E:=l.filter (λx=>ep x.key e.key)++e::l.filter (λx=>ep e.key x.key)
def wa{l:List E}{e x:E}:x∈kn l e↔x=e\/(x∈l/\x.key≠e.key):=by
 unfold kn;simp only[aw,eH,aD];constructor
 ·rintro(⟨h,k⟩|h|⟨h,k⟩)
  ·exact .inr ⟨h,kp k⟩
  ·exact .inl h
  ·exact .inr ⟨h,λc=>kp k c.symm⟩
 ·rintro(h|⟨h,k⟩)
  ·exact .inr (.inl h)
  ·cases c:ep x.key e.key with
   |true=>exact .inl ⟨h,rfl⟩
   |false=>
    cases d:ep e.key x.key with
    |true=>exact .inr (.inr ⟨h,rfl⟩)
    |false=>exact absurd (lk c d) k
def fG.kn{l:List E}(h:fG l)(e:E):fG (kn l e):=by
 unfold Go.Proofs.YtophdnlmpfmeiaaGreatDoor.kn;refine bU.2 ⟨h.sub eE,bL.2 ⟨?_,h.sub eE⟩,?_⟩
 ·intro c a;simp at a;exact a.2
 ·intro d b c a;simp at b;rcases aD.1 a with rfl|a
  ·exact b.2
  ·simp at a;exact iR b.2 a.2
def fG.Nd{l:List E}(h:fG l)(e:E)(a:pos l e.key<l.length)(d:l[pos l e.key].key=e.key):l.set (pos l e.key) e=Go.Proofs.YtophdnlmpfmeiaaGreatDoor.kn l e:=by
 unfold Go.Proofs.YtophdnlmpfmeiaaGreatDoor.kn;rw[gx,dr a,(h.cut e.key).1];congr 2;have b:=(h.cut e.key).2;have f:fG (l.drop (pos l e.key)):=h.sub (jk _ _);rw[bm a]at b f;have g:∀x∈l.drop (pos l e.key+1),ep e.key x.key=true:=λx a=>by have:=f.head x a;rwa[d]at this
 have i:l.filter (λx=>ep e.key x.key)=(l.filter (λx=>!ep x.key e.key)).filter (λx=>ep e.key x.key):=by
  rw[List.filter_filter];refine List.filter_congr (λx _=>?_);cases c:ep e.key x.key with
  |false=>simp
  |true=>simp[fV c]
 rw[i,<-b,cA (by rw[d,eT];simp)];exact(ff.2 g).symm
def fG.Nz{l:List E}(h:fG l)(e:E)(a:∀x∈l,x.key≠e.key):l.take (pos l e.key)++e::l.drop (pos l e.key)=Go.Proofs.YtophdnlmpfmeiaaGreatDoor.kn l e:=by
 unfold Go.Proofs.YtophdnlmpfmeiaaGreatDoor.kn;rw[(h.cut e.key).1,(h.cut e.key).2];congr 2;refine List.filter_congr (λx b=>?_);cases c:ep e.key x.key with
 |true=>simp[fV c]
 |false=>
  cases d:ep x.key e.key with
  |true=>rfl
  |false=>exact absurd (lk d c) (a x b)
def fG.MK{l:List E}(h:fG l)(k:aa)(b:∀a:pos l k<l.length,l[pos l k].key≠k):∀x∈l,x.key≠k:=by
 rintro x c rfl;obtain⟨a,e⟩:=h.Pb c;exact b a (by rw[e])
def cq(l m:List E):List E:=m.foldl kn l
def fG.cq{l:List E}(h:fG l)(m:List E):fG (cq l m):=by
 induction m generalizing l with
 |nil=>exact h
 |cons e r a=>exact a (h.kn e)
def ahead(a b:E):Bool:=ep a.key b.key||(decide (a.key=b.key)&&decide (b.bV<a.bV))
def Kb{a b:E}:ahead a b=true↔ep a.key b.key=true\/(a.key=b.key/\b.bV<a.bV):=by
 unfold ahead;simp
def EP{a b c:E}(h:ahead a b=true)(k:ahead b c=true):ahead a c=true:=by
 rw[Kb]at*;rcases h with h|⟨h,d⟩<;>rcases k with k|⟨k,e⟩
 ·exact .inl (iR h k)
 ·rw[<-k];exact .inl h
 ·rw[h];exact .inl k
 ·exact .inr ⟨h.trans k,by omega⟩
def rR(a:E):ahead a a=false:=by unfold ahead;simp[eT]
def EQ{a b:E}(h:ahead a b=true):ahead b a=false:=by
 cases e:ahead b a with
 |false=>rfl
 |true=>have:=EP h e;rw[rR]at this;cases this
def mW{a b:E}(h:ahead b a=false):ep b.key a.key=false/\(b.key=a.key->b.bV<=a.bV):=by
 unfold ahead at h;simp at h;exact⟨h.1,λe=>h.2 e⟩
def AN{a b:E}(h:ep b.key a.key=false)(k:b.key=a.key->b.bV<=a.bV):ahead b a=false:=by
 unfold ahead;simp[h];exact k
def ve{d e h:E}(j:ahead e d=false)(k:ahead h e=false):ahead h d=false:=by
 obtain⟨b,f⟩:=mW j;obtain⟨a,g⟩:=mW k;refine AN (Jk b a) (λi=>?_);have c:e.key=d.key:=by
  rw[i]at a;exact lk b a
 have:=f c;have:=g (i.trans c.symm);omega
def jc(hs:List (List E))(i:Nat):Option E:=(hs[i]?.getD []).head?
def im(hs:List (List E)):Nat->Option Nat
 |0=>none
 |n+1=>match jc hs n with
  |none=>im hs n
  |some e=>match im hs n with
   |none=>some n
   |some b=>if ahead e ((jc hs b).getD Qw)then some n else some b
def xG{a:List (List E)}{n:Nat}(h:im a n=none):∀i,i<n->jc a i=none:=by
 induction n with
 |zero=>intro i b;omega
 |succ n c=>
  intro i b;unfold im at h;cases hf:jc a n with
  |none=>
   rw[hf]at h;by_cases d:i=n
   ·rw[d];exact hf
   ·exact c h i (by omega)
  |some e=>
   rw[hf]at h;cases hb:im a n with
   |none=>rw[hb]at h;cases h
   |some d=>rw[hb]at h;simp only at h;split at h<;>cases h
def pT{hs:List (List E)}{n l:Nat}(h:im hs n=some l):l<n/\∃e,jc hs l=some e/\∀i,i<n->∀f,jc hs i=some f->ahead f e=false:=by
 induction n generalizing l with
 |zero=>cases h
 |succ n k=>
  unfold im at h;cases hf:jc hs n with
  |none=>
   rw[hf]at h;obtain⟨o,e,b,c⟩:=k h;refine⟨by omega,e,b,λi j f a=>?_⟩;by_cases d:i=n
   ·rw[d,hf]at a;cases a
   ·exact c i (by omega) f a
  |some e=>
   rw[hf]at h;cases hb:im hs n with
   |none=>
    rw[hb]at h;cases h;refine⟨by omega,e,hf,λi j f a=>?_⟩;by_cases d:i=n
    ·rw[d,hf]at a;cases a;exact rR _
    ·rw[xG hb i (by omega)]at a;cases a
   |some p=>
    rw[hb]at h;obtain⟨o,m,b,c⟩:=k hb;simp only[b,gg]at h;split at h
    ·rename_i g;cases h;refine⟨by omega,e,hf,λi j f a=>?_⟩;by_cases d:i=n
     ·rw[d,hf]at a;cases a;exact rR _
     ·exact ve (EQ g) (c i (by omega) f a)
    ·rename_i g;cases h;refine⟨by omega,m,b,λi j f a=>?_⟩;by_cases d:i=n
     ·rw[d,hf]at a;cases a;simpa using g
     ·exact c i (by omega) f a
def total(a:List (List E)):Nat:=a.flatten.length
def sR{a:List (List E)}{b:Nat}{e:E}(h:jc a b=some e):a.flatten.Perm (e::(a.modify b List.tail).flatten):=by
 induction a generalizing b with
 |nil=>simp[jc]at h
 |cons r f d=>
  cases b with
  |zero=>
   cases r with
   |nil=>simp[jc]at h
   |cons x t=>
    simp only[jc,List.getElem?_cons_zero,gg,List.head?_cons,lT]at h;subst h;simp
  |succ b=>
   have c:jc f b=some e:=by simpa[jc]using h
   simp only[aT,mJ];refine((d c).append_left r).trans ?_;exact jy
def rp{a:List (List E)}{b:Nat}{e:E}(h:jc a b=some e):total a=total (a.modify b List.tail)+1:=by
 have:=(sR h).length_eq;unfold total;rw[this];simp
def BS:Nat->List (List E)->List E
 |0,_=>[]
 |n+1,a=>match im a a.length with
  |none=>[]
  |some b=>(jc a b).getD Qw::BS n (a.modify b List.tail)
def iU(hs:List (List E)):List E:=BS (total hs) hs
def sU{hs:List (List E)}(h:im hs hs.length=none):iU hs=[]:=by
 unfold iU;cases e:total hs with
 |zero=>rfl
 |succ n=>unfold BS;rw[h]
def Jv{a:List (List E)}(h:∀i,i<a.length->jc a i=none):a.flatten=[]:=by
 induction a with
 |nil=>rfl
 |cons r d c=>
  have b:=h 0 (by simp);cases r with
  |cons x t=>simp[jc]at b
  |nil=>
   simp only[aT,cL];exact c (λi a=>by have:=h (i+1) (by simp;omega);simpa[jc]using this)
def sS{hs:List (List E)}{b:Nat}{e:E}(h:im hs hs.length=some b)(a:jc hs b=some e):iU hs=e::iU (hs.modify b List.tail):=by
 unfold iU;rw[rp a];conv=>lhs;unfold BS
 rw[h];simp only[a,gg]
def pP(a:List (List E)):(iU a).Perm a.flatten:=by
 generalize c:total a=n;induction n generalizing a with
 |zero=>
  have:a.flatten=[]:=aG c;unfold iU;rw[c,this];exact List.Perm.nil
 |succ n d=>
  cases hb:im a a.length with
  |none=>
   have:=Jv (xG hb);rw[sU hb,this]
  |some g=>
   obtain⟨_,e,b,_⟩:=pT hb;rw[sS hb b];have f:=rp b;exact((d _ (by omega)).cons e).trans (sR b).symm
def Fm{b:List (List E)}{c:Nat}(h:∀r∈b,fG r):∀r∈b.modify c List.tail,fG r:=by
 intro r a;induction b generalizing c with
 |nil=>simp at a
 |cons x e d=>
  cases c with
  |zero=>
   simp only[sd,aD]at a;rcases a with rfl|a
   ·exact(h x (by simp)).sub (List.tail_sublist x)
   ·exact h r (by simp[a])
  |succ c=>
   simp only[mJ,aD]at a;rcases a with rfl|a
   ·exact h r (by simp)
   ·exact d (λr a=>h r (by simp[a])) a
def Nt{b:List (List E)}{n:E}(o:∀r∈b,fG r)(l:∀i,i<b.length->∀f,jc b i=some f->ahead f n=false):∀x∈b.flatten,ahead x n=false:=by
 intro x m;obtain⟨r,j,a⟩:=bH.1 m;obtain⟨i,h,rfl⟩:=dj j;have c:=o _ j;cases hc:b[i]with
 |nil=>rw[hc]at a;cases a
 |cons f t=>
  have k:jc b i=some f:=by simp[jc,h,hc]
  have e:=l i h f k;rw[hc]at a c;rcases aD.1 a with rfl|d
  ·exact e
  ·have g:=c.head x d;exact ve e (AN (fV g) (λc=>absurd c.symm (kp g)))
def Ai(a:List (List E))(i:∀r∈a,fG r):(iU a).Pairwise (λj c=>ahead c j=false):=by
 generalize f:total a=n;induction n generalizing a with
 |zero=>unfold iU;rw[f];exact dK
 |succ n h=>
  cases hb:im a a.length with
  |none=>rw[sU hb];exact dK
  |some c=>
   obtain⟨_,l,b,e⟩:=pT hb;rw[sS hb b];have k:=rp b;refine bL.2 ⟨λx g=>?_,h _ (Fm i) (by omega)⟩;have d:x∈(a.modify c List.tail).flatten:=(pP _).mem_iff.1 g;exact Nt i e x ((sR b).mem_iff.2 (aJ _ d))
def mZ(a:aa):List E->List E
 |[]=>[]
 |e::r=>if e.key=a then mZ e.key r else e::mZ e.key r
def Om(a:List E)(x:E):Prop:=x∈a/\∀y∈a,y.key=x.key->y.bV<=x.bV
def NV(a:List E):Prop:=∀b∈a,∀c∈a,b.key=c.key->b.bV=c.bV->b=c
def Eo(n:List E)(a:aa)(s:n.Pairwise (λe d=>ahead d e=false))(o:NV n)(r:∀x∈n,ep x.key a=false):fG (mZ a n)/\∀x,x∈mZ a n↔x.key≠a/\Om n x:=by
 induction n generalizing a with
 |nil=>exact⟨fG.nil,λx=>by simp[mZ,Om]⟩
 |cons k w t=>
  obtain⟨h,q⟩:=bL.1 s;obtain⟨p,m⟩:=t k.key q (λe a d b=>o e (by simp[a]) d (by simp[b])) (λx g=>(mW (h x g)).1);unfold mZ;split
  ·rename_i f;refine⟨p,λx=>(m x).trans ?_⟩;rw[f];constructor
   ·rintro⟨e,d,i⟩;refine⟨e,aJ _ d,λy b c=>?_⟩;rcases aD.1 b with rfl|b
    ·exact absurd (c.symm.trans f) e
    ·exact i y b c
   ·rintro⟨e,d,i⟩;refine⟨e,?_,λy b c=>i y (aJ _ b) c⟩;rcases aD.1 d with rfl|d
    ·exact absurd f e
    ·exact d
  ·rename_i f;have l:ep k.key a=false:=r k (by simp);refine⟨bL.2 ⟨λx g=>?_,p⟩,λx=>?_⟩
   ·obtain⟨e,d,_⟩:=(m x).1 g;cases j:ep k.key x.key with
    |true=>rfl
    |false=>exact absurd (lk (mW (h x d)).1 j) e
   ·rw[aD,m];constructor
    ·rintro(rfl|⟨e,d,i⟩)
     ·refine⟨f,by simp,λy b c=>?_⟩;rcases aD.1 b with rfl|b
      ·exact Int.le_refl _
      ·exact(mW (h y b)).2 c
     ·refine⟨?_,aJ _ d,λy b c=>?_⟩
      ·intro j;have g:=(mW (h x d)).1;rw[j]at g;exact f (lk l g)
      ·rcases aD.1 b with rfl|b
       ·exact absurd c.symm e
       ·exact i y b c
    ·rintro⟨e,d,i⟩;rcases aD.1 d with rfl|d
     ·exact .inl rfl
     ·by_cases j:x.key=k.key
      ·left;have u:=i k (by simp) j.symm;have v:=(mW (h x d)).2 j;exact o x (by simp[d]) k (by simp) j (by omega)
      ·exact .inr ⟨j,d,λy b c=>i y (aJ _ b) c⟩
def eX(a:aa)(l:List E):List E:=l.filter (λe=>!ep e.key a)
def DM{d:List (List E)}{c:aa}{x:E}:x∈(d.map (eX c)).flatten↔x∈d.flatten/\ep x.key c=false:=by
 simp only[bH,aZ];constructor
 ·rintro⟨l,⟨r,b,rfl⟩,a⟩;unfold eX at a;rw[eH]at a;exact⟨⟨r,b,a.1⟩,by simpa using a.2⟩
 ·rintro⟨⟨r,b,a⟩,h⟩;exact⟨_,⟨r,b,rfl⟩,by unfold eX;rw[eH];exact⟨a,by simp[h]⟩⟩
def dt(a:aa)(b:List (List E)):List E:=mZ ⟨#[]⟩ (iU (b.map (eX a)))
def DE(b:List (List E))(d:aa)(o:∀r∈b,fG r)(m:∀q∈b.flatten,q.key≠⟨#[]⟩)(p:NV b.flatten):fG (dt d b)/\∀x,x∈dt d b↔Om b.flatten x/\ep x.key d=false:=by
 have n:=pP (b.map (eX d));have a:∀x,x∈iU (b.map (eX d))↔x∈b.flatten/\ep x.key d=false:=λx=>n.mem_iff.trans DM;have f:∀r∈b.map (eX d),fG r:=by
  intro r i;obtain⟨s,h,rfl⟩:=aZ.1 i;exact(o s h).sub eE
 obtain⟨k,l⟩:=Eo _ ⟨#[]⟩ (Ai _ f) (λh b e d=>p h ((a h).1 b).1 e ((a e).1 d).1) (λx _=>vq _);refine⟨k,λx=>(l x).trans ?_⟩;constructor
 ·rintro⟨_,e,j⟩;obtain⟨i,h⟩:=(a x).1 e;exact⟨⟨i,λy g c=>j y ((a y).2 ⟨g,by rw[c];exact h⟩) c⟩,h⟩
 ·rintro⟨⟨e,j⟩,h⟩;exact⟨m x e,(a x).2 ⟨e,h⟩,λy g c=>j y ((a y).1 g).1 c⟩
def fD(l:List E)(k:aa):Option E:=l.find? (λe=>decide (e.key=k))
def fO{l:List E}(h:fG l){k:aa}{e:E}:fD l k=some e↔e∈l/\e.key=k:=by
 unfold fD;constructor
 ·intro a;exact⟨je a,by have:=rV a;simpa using this⟩
 ·rintro⟨b,c⟩;cases a:l.find? (λe=>decide (e.key=k))with
  |none=>
   rw[List.find?_eq_none]at a;exact absurd c (by simpa using a e b)
  |some x=>
   have d:=je a;have f:x.key=k:=by have:=rV a;simpa using this
   rw[h.zW d b (f.trans c.symm)]
def gd{l:List E}{k:aa}:fD l k=none↔∀e∈l,e.key≠k:=by
 unfold fD;rw[List.find?_eq_none];simp
def qT{l m:List E}(h:fG l)(b:fG m){k:aa}(e:∀x,x.key=k->(x∈l↔x∈m)):fD l k=fD m k:=by
 cases hm:fD m k with
 |none=>
  rw[gd]at hm|-;intro x c a;exact hm x ((e x a).1 c) a
 |some y=>
  rw[fO b]at hm;exact(fO h).2 ⟨(e y hm.2).2 hm.1,hm.2⟩
def Er{l:List E}(h:fG l)(e:E)(k:aa):fD (kn l e) k=if k=e.key then some e else fD l k:=by
 split
 ·rename_i a;exact(fO (h.kn e)).2 ⟨wa.2 (.inl rfl),a.symm⟩
 ·rename_i a;refine qT (h.kn e) h (λx c=>?_);rw[wa];constructor
  ·rintro(rfl|b)
   ·exact absurd c.symm a
   ·exact b.1
  ·intro b;exact .inr ⟨b,λd=>a (c.symm.trans d)⟩
def nu(a:List (List E))(k:aa):Option E:=a.findSome? (λr=>fD r k)
def tK(k:aa):nu [] k=none:=rfl
def ld(r:List E)(a:List (List E))(k:aa):nu (r::a) k=(fD r k).or (nu a k):=by
 unfold nu;rw[List.findSome?_cons];cases fD r k<;>rfl
def rL(a b:List (List E))(k:aa):nu (a++b) k=(nu a k).or (nu b k):=by
 induction a with
 |nil=>simp[tK]
 |cons r a c=>rw[dI,ld,ld,c,Option.or_assoc]
def JC(k:aa):fD [] k=none:=rfl
def Over(r s:List E):Prop:=∀a∈r,∀b∈s,a.key=b.key->b.bV<a.bV
def mF(a:List (List E)):Prop:=a.Pairwise Over
def mF.over{r:List E}{b:List (List E)}(h:mF (r::b)):Over r b.flatten:=by
 intro f c g a d;obtain⟨s,e,a⟩:=bH.1 a;exact(bL.1 h).1 s e f c g a d
def NB{g:List (List E)}(m:∀r∈g,fG r)(l:mF g){o:aa}{k:E}:nu g o=some k↔Om g.flatten k/\k.key=o:=by
 induction g with
 |nil=>simp[tK,Om]
 |cons r g n=>
  have j:=n (λr a=>m r (by simp[a])) (bL.1 l).2;have i:=l.over;have f:=m r (by simp);rw[ld];cases hf:fD r o with
  |some x=>
   have b:=(fO f).1 hf;simp only[sB,lT,aT];constructor
   ·rintro rfl;refine⟨⟨cX _ b.1,λy c e=>?_⟩,b.2⟩;rcases aw.1 c with c|c
    ·rw[f.zW c b.1 e];exact Int.le_refl _
    ·exact Int.le_of_lt (i x b.1 y c e.symm)
   ·rintro⟨⟨a,h⟩,d⟩;rcases aw.1 a with a|a
    ·exact f.zW b.1 a (b.2.trans d.symm)
    ·have p:=h x (cX _ b.1) (b.2.trans d.symm);have q:=i x b.1 k a (b.2.trans d.symm);omega
  |none=>
   have b:=gd.1 hf;simp only[ik,aT];rw[j];constructor
   ·rintro⟨⟨a,h⟩,d⟩;refine⟨⟨dV _ a,λy c e=>?_⟩,d⟩;rcases aw.1 c with c|c
    ·exact absurd (e.trans d) (b y c)
    ·exact h y c e
   ·rintro⟨⟨a,h⟩,d⟩;refine⟨⟨?_,λy c e=>h y (dV _ c) e⟩,d⟩;rcases aw.1 a with a|a
    ·exact absurd d (b k a)
    ·exact a
def FU{d:List (List E)}(i:∀r∈d,fG r)(h:mF d):NV d.flatten:=by
 induction d with
 |nil=>intro j a;simp at a
 |cons r d m=>
  have g:=m (λr a=>i r (by simp[a])) (bL.1 h).2;have c:=h.over;have f:=i r (by simp);intro j a k b e l;rw[aT]at a b;rcases aw.1 a with a|a<;>rcases aw.1 b with b|b
  ·exact f.zW a b e
  ·have:=c j a k b e;omega
  ·have:=c k b j a e.symm;omega
  ·exact g j a k b e l
def HU{b c:List E}(h:∀x,x∈b↔x∈c){x:E}:Om b x↔Om c x:=by
 unfold Om;rw[h x];constructor
 ·rintro⟨d,e⟩;exact⟨d,λy a=>e y ((h y).2 a)⟩
 ·rintro⟨d,e⟩;exact⟨d,λy a=>e y ((h y).1 a)⟩
def ur{b a:List (List E)}(g:∀r∈b,fG r)(f:mF b)(e:∀r∈a,fG r)(k:∀h∈b.flatten,h.key≠⟨#[]⟩)(c:∀x,x∈b.flatten↔x∈a.flatten)(d:aa):fG (dt d a)/\(∀x,x∈dt d a↔nu b x.key=some x/\ep x.key d=false):=by
 have l:NV a.flatten:=λh d i e=>FU g f h ((c h).2 d) i ((c i).2 e);obtain⟨i,j⟩:=DE a d e (λh f=>k h ((c h).2 f)) l;refine⟨i,λx=>(j x).trans ?_⟩;rw[NB g f,HU c];simp
def seen(a:List (List E))(k:aa):Option aa:=(nu a k).bind (λe=>if e.del then none else some e.val)
def IW{C q g D:List (List E)}(x:mF (C++q++D))(v:mF g)(e:∀y∈g.flatten,y∈q.flatten):mF (C++g++D):=by
 obtain⟨r,s,m⟩:=bU.1 x;obtain⟨t,_,u⟩:=bU.1 r;have c:∀f∈g,∀h∈f,∃n∈q,h∈n:=λf d h b=>bH.1 (e h (bH.2 ⟨f,d,b⟩));refine bU.2 ⟨bU.2 ⟨t,v,?_⟩,s,?_⟩
 ·intro p a f l o i h b k;obtain⟨n,d,j⟩:=c f l h b;exact u p a n d o i h j k
 ·intro p a w l;rcases aw.1 a with a|a
  ·exact m p (cX _ a) w l
  ·intro o i h b k;obtain⟨n,d,j⟩:=c p a o i;exact m n (dV _ d) w l o j h b k
def Bp(b a D:List (List E)):Prop:=∀k,nu a k=nu b k\/(nu D k=none/\nu a k=none/\∃e,nu b k=some e/\e.del=true)
def yD{C f a D:List (List E)}(h:Bp f a D)(k:aa):seen (C++a++D) k=seen (C++f++D) k:=by
 unfold seen;rw[rL,rL,rL,rL];rcases h k with h|⟨b,c,g,d,e⟩
 ·rw[h]
 ·rw[b,c,d];cases nu C k with
  |some x=>simp
  |none=>simp[e]
def pE(a:Bool)(l:List E):List E:=if a then l.filter (λe=>!e.del)else l
def iE(a:Bool)(l:List E):(pE a l).Sublist l:=by
 unfold pE;split
 ·exact eE
 ·exact dJ _
def oX{a:Bool}{l:List E}{x:E}:x∈pE a l↔x∈l/\(a=true->x.del=false):=by
 unfold pE;cases a<;>simp
def JL{m D:List (List E)}{b:List E}{a:Bool}(c:fG b)(n:∀x,x∈b↔nu m x.key=some x)(p:∀k e,nu m k=some e->e.key=k)(o:a=true->∀k,nu D k=none):Bp m [pE a b] D:=by
 intro k;have d:fD b k=nu m k:=by
  cases h:nu m k with
  |none=>
   rw[gd];rintro e g rfl;rw[(n e).1 g]at h;cases h
  |some e=>
   have:=p k e h;exact(fO c).2 ⟨(n e).2 (by rw[this];exact h),this⟩
 have i:fG (pE a b):=c.sub (iE _ _);rw[ld,tK,sC];cases h:nu m k with
 |none=>
  left;rw[h,gd]at d;rw[gd];intro e g;exact d e ((iE _ _).subset g)
 |some e=>
  rw[h,fO c]at d;by_cases f:a=true/\e.del=true
  ·right;refine⟨o f.1 k,?_,e,rfl,f.2⟩;rw[gd];intro x j l;rw[oX]at j;rw[c.zW d.1 j.1 (d.2.trans l.symm)]at f;rw[j.2 f.1]at f;cases f.2
  ·left;refine(fO i).2 ⟨oX.2 ⟨d.1,λj=>?_⟩,d.2⟩;cases hd:e.del with
   |false=>rfl
   |true=>exact absurd ⟨j,hd⟩ f
def Mi{X t g W i L:List E}{U:List (List E)}{d:List E}{b:Bool}(F:fG L)(P:fG X)(C:fG t)(k:∀x,x∈L↔x∈X\/x∈t)(B:∀x∈X,∀y∈t,x.key≠y.key)(m:fG (g++W++i))(l:fG (g++pE b d++i))(q:fG d)(Q:∀x,x∈d↔nu [t,W] x.key=some x)(D:b=true->∀n,nu U n=none)(N:∀H∈g,∀K∈t,H.key≠K.key)(O:∀H∈t,∀K∈i,H.key≠K.key):Bp [L,g++W++i] [X,g++pE b d++i] U:=by
 intro n;have G:fG W:=m.sub (by simp);simp only[ld,tK,sC];have e:∀x,x∈d↔(x∈t\/(x∈W/\∀y∈t,y.key≠x.key)):=by
  intro x;rw[Q x,ld,ld,tK,sC];cases hf:fD t x.key with
  |some y=>
   rw[fO C]at hf;simp only[sB,lT];constructor
   ·rintro rfl;exact .inl hf.1
   ·rintro(h|⟨_,h⟩)
    ·exact C.zW hf.1 h hf.2
    ·exact absurd hf.2 (h y hf.1)
  |none=>
   rw[gd]at hf;simp only[ik];rw[fO G];constructor
   ·rintro⟨h,_⟩;exact .inr ⟨h,hf⟩
   ·rintro(h|⟨h,_⟩)
    ·exact absurd rfl (hf x h)
    ·exact⟨h,rfl⟩
 cases hf:fD t n with
 |some o=>
  rw[fO C]at hf;have f:fD L n=some o:=(fO F).2 ⟨(k o).2 (.inr hf.1),hf.2⟩;have p:fD X n=none:=gd.2 (λx a j=>B x a o hf.1 (j.trans hf.2.symm));rw[f,p];simp only[ik,sB];by_cases j:b=true/\o.del=true
  ·right;refine⟨D j.1 n,?_,o,rfl,j.2⟩;rw[gd];intro x a c;rcases aw.1 a with a|a
   ·rcases aw.1 a with a|a
    ·exact N x a o hf.1 (c.trans hf.2.symm)
    ·rw[oX]at a;have w:x=o:=q.zW a.1 ((e o).2 (.inl hf.1)) (c.trans hf.2.symm);rw[w]at a;rw[a.2 j.1]at j;cases j.2
   ·exact O o hf.1 x a (hf.2.trans c.symm)
  ·left;refine(fO l).2 ⟨?_,hf.2⟩;refine cX _ (dV _ (oX.2 ⟨(e o).2 (.inl hf.1),λA=>?_⟩));cases hd:o.del with
   |false=>rfl
   |true=>exact absurd ⟨A,hd⟩ j
 |none=>
  rw[gd]at hf;have u:fD L n=fD X n:=qT F P (λx a=>by
   rw[k x];constructor
   ·rintro(h|h)
    ·exact h
    ·exact absurd a (hf x h)
   ·exact .inl)
  rw[u];cases fD X n with
  |some y=>left;simp
  |none=>
   simp only[ik];cases hw:fD W n with
   |none=>
    left;rw[gd]at hw;refine qT l m (λx a=>?_);simp only[aw];constructor
    ·rintro((h|h)|h)
     ·exact .inl (.inl h)
     ·rw[oX,e]at h;rcases h.1 with h|⟨h,_⟩
      ·exact absurd a (hf x h)
      ·exact .inl (.inr h)
     ·exact .inr h
    ·rintro((h|h)|h)
     ·exact .inl (.inl h)
     ·exact absurd a (hw x h)
     ·exact .inr h
   |some y=>
    rw[fO G]at hw;have v:fD (g++W++i) n=some y:=(fO m).2 ⟨cX _ (dV _ hw.1),hw.2⟩;have s:y∈d:=(e y).2 (.inr ⟨hw.1,λz f j=>hf z f (j.trans hw.2)⟩);rw[v];by_cases j:b=true/\y.del=true
    ·right;refine⟨D j.1 n,?_,y,rfl,j.2⟩;rw[gd];intro x a c;have r:∀z∈g++W++i,z.key=n->z=y:=λz f a=>m.zW f (cX _ (dV _ hw.1)) (a.trans hw.2.symm);have p:∀z,z=y->z∈g\/z∈i->False:=by
      rintro z rfl f;rw[aV]at m;obtain⟨_,R,S⟩:=bU.1 m;obtain⟨_,_,T⟩:=bU.1 R;rcases f with f|f
      ·have:=S z f z (cX _ hw.1);rw[eT]at this;cases this
      ·have:=T z hw.1 z f;rw[eT]at this;cases this
     rcases aw.1 a with a|a
     ·rcases aw.1 a with a|a
      ·exact p x (r x (cX _ (cX _ a)) c) (.inl a)
      ·rw[oX]at a;have w:x=y:=q.zW a.1 s (c.trans hw.2.symm);rw[w]at a;rw[a.2 j.1]at j;cases j.2
     ·exact p x (r x (dV _ a) c) (.inr a)
    ·left;refine(fO l).2 ⟨cX _ (dV _ (oX.2 ⟨s,λA=>?_⟩)),hw.2⟩;cases hd:y.del with
     |false=>rfl
     |true=>exact absurd ⟨A,hd⟩ j
def zx(l:List E):∀a,(mZ a l).Sublist l:=by
 induction l with
 |nil=>intro a;exact List.Sublist.slnil
 |cons e r b=>
  intro a;unfold mZ;split
  ·exact(b _).cons _
  ·exact(b _).cons_cons _
def lq{d:aa}{a:List (List E)}{x:E}(h:x∈dt d a):x∈a.flatten:=by
 unfold dt at h;have b:=(zx _ _).subset h;have c:=(pP _).mem_iff.1 b;exact(DM.1 c).1
def LX(b:aa)(a:List (List E)):(a.map (eX b)).flatten.length<=a.flatten.length:=by
 induction a with
 |nil=>simp
 |cons r a c=>
  have h:(eX b r).length<=r.length:=gY _ _;simp only[aY,aT,ag];omega
def lu(b:aa)(a:List (List E)):(dt b a).length<=a.flatten.length:=by
 unfold dt;have c:=(zx (iU (a.map (eX b))) ⟨#[]⟩).length_le;have d:=(pP (a.map (eX b))).length_eq;have e:=LX b a;omega
def EM(b:Bool)(l:List E):(pE b l).length<=l.length:=(iE b l).length_le
def Hi{b:List (List E)}{k:aa}{e:E}(h:nu b k=some e):e.key=k:=by
 unfold nu at h;obtain⟨r,_,a⟩:=lY h;have:=rV a;simpa using this
def Hh{a:List (List E)}{k:aa}{e:E}(h:nu a k=some e):e∈a.flatten:=by
 unfold nu at h;obtain⟨r,c,b⟩:=lY h;exact bH.2 ⟨r,c,je b⟩
def AT{a:List (List E)}(h:∀r∈a,r=[])(k:aa):nu a k=none:=by
 cases c:nu a k with
 |none=>rfl
 |some e=>
  obtain⟨r,d,b⟩:=bH.1 (Hh c);rw[h r d]at b;cases b
def Hx{A:List (List E)}{c:List E}{D:List (List E)}{a:Bool}(j:∀r∈A,fG r)(i:fG c)(p:mF (A.reverse++[c]))(n:∀q∈(A.reverse++[c]).flatten,q.key≠⟨#[]⟩)(m:a=true->∀s,nu D s=none):fG (pE a (dt ⟨#[]⟩ (c::A)))/\Bp (A.reverse++[c]) [pE a (dt ⟨#[]⟩ (c::A))] D:=by
 have e:∀r∈A.reverse++[c],fG r:=by
  intro r d;simp only[aw,gh,aD,cS,gX]at d;rcases d with h|rfl
  ·exact j r h
  ·exact i
 have f:∀r∈c::A,fG r:=by
  intro r d;rcases aD.1 d with rfl|h
  ·exact i
  ·exact j r h
 have o:∀x,x∈(A.reverse++[c]).flatten↔x∈(c::A).flatten:=by
  intro x;simp only[bH,aw,gh,aD,cS,gX];constructor
  ·rintro⟨l,h|h,b⟩
   ·exact⟨l,.inr h,b⟩
   ·exact⟨l,.inl h,b⟩
  ·rintro⟨l,h|h,b⟩
   ·exact⟨l,.inr h,b⟩
   ·exact⟨l,.inl h,b⟩
 obtain⟨g,k⟩:=ur e p f n o ⟨#[]⟩;refine⟨g.sub (iE _ _),JL g (λx=>?_) (λs q h=>Hi h) m⟩;rw[k x];exact⟨λh=>h.1,λh=>⟨h,vq _⟩⟩
def Lj{l t m i W j:List E}{T:List (List E)}{a:Bool}(u:fG (l++t++m))(z:fG (i++W++j))(s:Over (l++t++m) (i++W++j))(P:∀r∈t++W,r.key≠⟨#[]⟩)(D:∀d∈i,∀e∈t,ep d.key e.key=true)(F:∀d∈t,∀e∈j,ep d.key e.key=true)(L:a=true->∀U,nu T U=none):fG (pE a (dt ⟨#[]⟩ [W,t]))/\fG (i++pE a (dt ⟨#[]⟩ [W,t])++j)/\Bp [l++t++m,i++W++j] [l++m,i++pE a (dt ⟨#[]⟩ [W,t])++j] T/\Over (l++m) (i++pE a (dt ⟨#[]⟩ [W,t])++j):=by
 have G:fG t:=u.sub (by simp);have N:fG W:=z.sub (by simp);have O:fG (l++m):=u.sub (by simp);have q:∀C∈[t,W],fG C:=by
  intro C p;simp only[aD,cS,gX]at p;rcases p with rfl|rfl
  ·exact G
  ·exact N
 have y:∀C∈[W,t],fG C:=λC p=>q C (by simp only[aD,cS,gX]at p|-;exact p.symm);have R:mF [t,W]:=by
  unfold mF;simp only[bL,aD,cS,gX,forall_eq,dK,oG,false_implies,implies_true];exactλd b e c=>s d (by simp[b]) e (by simp[c])
 have Q:∀x,x∈[t,W].flatten↔x∈[W,t].flatten:=by
  intro x;simp[or_comm]
 obtain⟨B,S⟩:=ur q R y (λr a=>P r (by simpa using a)) Q ⟨#[]⟩;have h:∀x∈pE a (dt ⟨#[]⟩ [W,t]),x∈t\/x∈W:=by
  intro x A;have:=lq ((iE _ _).subset A);simp at this;exact this.symm
 have o:∀x∈l++m,∀K∈t,x.key≠K.key:=by
  intro x A K H;have k:=u;unfold fG at k;rw[bU,bU]at k;rcases aw.1 A with g|g
  ·exact kp (k.1.2.2 x g K H)
  ·exactλr=>kp (k.2.2 K (by simp[H]) x g) r.symm
 have f:=z;unfold fG at f;rw[bU,bU]at f;have v:∀d∈i,∀e,(e∈t\/e∈W)->ep d.key e.key=true:=by
  rintro d b e(c|c)
  ·exact D d b e c
  ·exact f.1.2.2 d b e c
 have w:∀d,(d∈t\/d∈W)->∀e∈j,ep d.key e.key=true:=by
  rintro d(b|b)e c
  ·exact F d b e c
  ·exact f.2.2 d (by simp[b]) e c
 have n:fG (i++pE a (dt ⟨#[]⟩ [W,t])++j):=by
  unfold fG;rw[bU,bU];refine⟨⟨f.1.1,B.sub (iE _ _),λd b e c=>v d b e (h e c)⟩,f.2.1,λd b e c=>?_⟩;rcases aw.1 b with g|g
  ·exact f.2.2 d (by simp[g]) e c
  ·exact w d (h d g) e c
 refine⟨B.sub (iE _ _),n,?_,?_⟩
 ·refine Mi u O G (λx=>?_) o z n B (λx=>?_) L (λd b e c=>kp (D d b e c)) (λd b e c=>kp (F d b e c))
  ·simp only[aw];constructor
   ·rintro((g|g)|g)
    ·exact .inl (.inl g)
    ·exact .inr g
    ·exact .inl (.inr g)
   ·rintro((g|g)|g)
    ·exact .inl (.inl g)
    ·exact .inr g
    ·exact .inl (.inr g)
  ·rw[S x];exact⟨λh=>h.1,λh=>⟨h,vq _⟩⟩
 ·intro d b e c r;have k:d∈l++t++m:=by
   rcases aw.1 b with g|g<;>simp[g]
  rcases aw.1 c with g|g
  ·rcases aw.1 g with g|g
   ·exact s d k e (by simp[g]) r
   ·rcases h e g with H|H
    ·exact absurd r (o d b e H)
    ·exact s d k e (by simp[H]) r
  ·exact s d k e (by simp[g]) r
end Go.Proofs.YtophdnlmpfmeiaaGreatDoor
