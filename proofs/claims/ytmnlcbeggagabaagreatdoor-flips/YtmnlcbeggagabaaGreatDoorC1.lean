import Derived.Test.YtmnlcbeggagabaaGreatDoorC0
open _root_ renaming List.length→y,Option.some→H,Bool.false→bj,Bool.true→cq,Nat→M,Int→U,List→cS
namespace Go.Proofs.YtmnlcbeggagabaaGreatDoor
open ChangeShapes WideShapes RowKit List
set_option maxHeartbeats 16000000
set_option linter.all false
set_option maxRecDepth 100000
variable{b c g:M}{k D:U}{v:ae}{K:Bool}{W:Type}
structure E where
 key:ae
 val:ae
 del:Bool
 bL:U
abbrev cI:=cS E
abbrev dK:=cS<|cS E
variable{w:E}
def Ze:E:=⟨⟨#[]⟩,⟨#[]⟩,bj,0⟩
def iZ(a b:ae):Bool:=Op.bytesLess a.toList b.toList
def LH:∀(x b:cS UInt8),Op.bytesLess x b=decide (x<b)
 |[],[]=>by simp[Op.bytesLess]
 |_::_,[]=>by simp[Op.bytesLess]
 |[],_::_=>by simp[Op.bytesLess]
 |a::x,c::b=>by
  rw[Op.bytesLess,LH x b];grind[cons_lt_cons_iff]
theorem IQ{b:ae}(h:v.toList=b.toList):v=b:=by
 have a:∀x:ae,x.toList=x.data.toList:=λx=>rH x;rw[a,a]at h;cases v;simp_all
theorem fO(a:ae):iZ a a=bj:=by
 unfold iZ;rw[LH];simp
theorem lu{b c:ae}(h:iZ v b=cq)(k:iZ b c=cq):iZ v c=cq:=by
 unfold iZ at*;rw[LH]at*;grind
theorem lw{b:ae}(h:iZ v b=cq):iZ b v=bj:=by
 grind[lu,fO]
theorem nV{b:ae}(h:iZ v b=bj)(k:iZ b v=bj):v=b:=by
 unfold iZ at*;rw[LH]at*;grind[IQ,List.le_antisymm]
theorem oe{b:ae}(h:iZ v b=cq):v≠b:=by
 grind[fO]
def wW{b c:ae}(h:iZ b v=bj)(k:iZ b c=cq):iZ v c=cq:=by
 grind[lu,nV]
theorem Np{b c:ae}(h:iZ v b=cq)(k:iZ c b=bj):iZ v c=cq:=by
 grind[lu,nV]
def QE{b c:ae}(h:iZ b v=bj)(k:iZ c b=bj):iZ c v=bj:=by
 grind[Np]
def Ii(a:ae):iZ a ⟨#[]⟩=bj:=by
 unfold iZ;rw[LH];simp_all
def vX(l:cS E):Prop:=l.Pairwise<|λa b=>iZ a.key b.key=cq
def vX.nil:vX []:=List.Pairwise.nil
def vX.tail{l:cS E}(h:vX (w::l)):vX l:=(bA.1 h).2
def vX.head{l:cS E}(h:vX (w::l)):∀b∈l,iZ w.key b.key=cq:=(bA.1 h).1
def vX.sub{l m:cS E}(h:vX m)(s:l.Sublist m):vX l:=kZ s h
def vX.Pd{l:cS E}(h:vX l){e:E}(c:w∈l)(d:e∈l)(f:w.key=e.key):w=e:=by
 induction l with
 |nil=>cases c
 |cons x r g=>
  rcases bD.1 c with b|b
  .rcases bD.1 d with a|a
   .rw[b,a]
   .rw[b]at f;exact absurd f<|oe<|h.head e a
  .rcases bD.1 d with a|a
   .rw[a]at f;exact absurd f.symm<|oe<|h.head w b
   .exact g h.tail b a
def vX.ext{l m:cS E}(h:vX l)(k:vX m)(g:∀x,x∈l↔x∈m):l=m:=by
 induction l generalizing m with
 |nil=>
  cases m with
  |nil=>rfl
  |cons a r=>exact absurd ((g a).2<|by simp)<|by simp
 |cons x r i=>
  cases m with
  |nil=>exact absurd ((g x).1<|by simp)<|by simp
  |cons a s=>
   have f:x=a:=by
    rcases bD.1 ((g x).1<|by simp)with c|c
    .exact c
    .rcases bD.1 ((g a).2<|by simp)with e|e
     .exact e.symm
     .have n:=k.head x c;have j:=h.head a e;rw[lw n]at j;cases j
   subst f;congr 1;refine i h.tail k.tail<|λb=>⟨λd=>?_,λd=>?_⟩
   .rcases bD.1 ((g b).1<|dD _ d)with rfl|c
    .have:=h.head b d;rw[fO]at this;cases this
    .exact c
   .rcases bD.1 ((g b).2<|dD _ d)with rfl|c
    .have:=k.head b d;rw[fO]at this;cases this
    .exact c
def sH(l:cS E)(e:E):cS E:=l.filter (λx=>iZ x.key e.key)++e::l.filter (λx=>iZ e.key x.key)
theorem xM{l:cS E}{x:E}:x∈sH l w↔x=w\/(x∈l/\x.key≠w.key):=by
 unfold sH;simp only[aE,dC,bD];constructor;rintro(⟨h,k⟩|h|⟨h,k⟩);exact .inr ⟨h,oe k⟩;exact .inl h;exact .inr ⟨h,λc=>oe k c.symm⟩;grind[nV]
def vX.sH{l:cS E}(h:vX l)(e:E):vX (sH l e):=by
 unfold Go.Proofs.YtmnlcbeggagabaaGreatDoor.sH;refine bQ.2 ⟨h.sub eS,bA.2 ⟨?_,h.sub eS⟩,?_⟩;grind
 grind[mem_cons,lu]
def gq(l m:cS E):cS E:=m.foldl sH l
def vX.gq{l:cS E}(h:vX l)(m:cS E):vX (gq l m):=by
 induction m generalizing l with
 |nil=>exact h
 |cons e r a=>exact a<|h.sH e
variable{e N:cI}{l:dK}
def ahead(a b:E):Bool:=iZ a.key b.key||(decide (a.key=b.key)&&decide (b.bL<a.bL))
theorem jq{b:E}:ahead w b=cq↔iZ w.key b.key=cq\/(w.key=b.key/\b.bL<w.bL):=by
 unfold ahead;simp
theorem tP{b c:E}(h:ahead w b=cq)(k:ahead b c=cq):ahead w c=cq:=by
 rw[jq]at*;rcases h with h|⟨h,a⟩<;>rcases k with k|⟨k,d⟩;exact .inl<|lu h k;rw[<-k];exact .inl h;rw[h];exact .inl k;grind
theorem Aw(a:E):ahead a a=bj:=by unfold ahead;simp[fO]
theorem lE{b:E}(h:ahead w b=cq):ahead b w=bj:=by
 grind[tP,Aw]
theorem mQ{b:E}(h:ahead b w=bj):iZ b.key w.key=bj/\(b.key=w.key->b.bL<=w.bL):=by
 unfold ahead at h;grind
def Qn{b:E}(h:iZ b.key w.key=bj)(k:b.key=w.key->b.bL<=w.bL):ahead b w=bj:=by
 unfold ahead;grind
theorem vp{d g:E}(i:ahead d w=bj)(k:ahead g d=bj):ahead g w=bj:=by
 obtain⟨b,e⟩:=mQ i;obtain⟨a,f⟩:=mQ k;refine Qn (QE b a)<|λh=>?_;have c:d.key=w.key:=by rw[h]at a;exact nV b a
 have:=e c;have:=f<|h.trans c.symm;omega
def lO(a:dK)(i:M):Option E:=(a[i]?.getD []).head?
def kH(a:dK):M->Option M
 |0=>none
 |n+1=>match lO a n with
  |none=>kH a n
  |some e=>match kH a n with
   |none=>H n
   |some b=>if ahead e ((lO a b).getD Ze)then H n else H b
theorem Cp(h:kH l b=none):∀i,i<b->lO l i=none:=by
 induction b with
 |zero=>grind
 |succ b c=>
  intro i a;unfold kH at h;grind
def tM(h:kH l b=H c):c<b/\∃e,lO l c=H e/\∀i,i<b->∀f,lO l i=H f->ahead f e=bj:=by
 induction b generalizing c with
 |zero=>cases h
 |succ b a=>
  unfold kH at h;grind[Aw,Cp,Option.getD_some,vp,lE]
def total(a:dK):M:=y a.flatten
def wN(h:lO l b=H w):l.flatten.Perm (w::(l.modify b List.tail).flatten):=by
 induction l generalizing b with
 |nil=>simp[lO]at h
 |cons r d c=>
  cases b with
  |zero=>
   cases r with
   |nil=>simp[lO]at h
   |cons x t=>
    simp only[lO,List.getElem?_cons_zero,kO,List.head?_cons,tw]at h;simp_all
  |succ b=>
   have a:lO d b=H w:=by simpa[lO]using h
   simp only[bP,qa];refine((c a).append_left r).trans ?_;simp_all
def uY(h:lO l b=H w):total l=total (l.modify b List.tail)+1:=by
 have:=(wN h).length_eq;unfold total;rw[this];simp
def Hw:M->dK->cI
 |0,_=>[]
 |n+1,a=>match kH a (y a)with
  |none=>[]
  |some b=>(lO a b).getD Ze::Hw n (a.modify b List.tail)
def cL(a:dK):cI:=Hw (total a) a
def wP{hs:dK}(h:kH hs (y hs)=none):cL hs=[]:=by
 unfold cL;cases e:total hs with
 |zero=>rfl
 |succ n=>unfold Hw;rw[h]
def QU(h:∀i,i<y l->lO l i=none):l.flatten=[]:=by
 induction l with
 |nil=>rfl
 |cons r c b=>
  have a:=h 0 (by simp);cases r with
  |cons x t=>simp[lO]at a
  |nil=>
   simp only[bP,de];exact b (λi a=>by have:=h (i+1) (by simp;omega);simpa[lO]using this)
def wO{hs:dK}(h:kH hs (y hs)=H b)(a:lO hs b=H w):cL hs=w::cL (hs.modify b List.tail):=by
 unfold cL;rw[uY a];conv=>lhs;unfold Hw
 rw[h];grind
theorem eH(a:dK):(cL a).Perm a.flatten:=by
 generalize d:total a=n;induction n generalizing a with
 |zero=>
  have:a.flatten=[]:=aQ d;unfold cL;rw[d,this];exact List.Perm.nil
 |succ n e=>
  cases hb:kH a (y a)with
  |none=>
   have:=QU<|Cp hb;rw[wP hb,this]
  |some b=>
   obtain⟨_,f,c,_⟩:=tM hb;rw[wO hb c];have g:=uY c;exact((e _<|by omega).cons f).trans (wN c).symm
def mX(a:ae):cI->cI
 |[]=>[]
 |e::r=>if e.key=a then mX e.key r else e::mX e.key r
def Yx(b:cI)(x:E):Prop:=x∈b/\∀a∈b,a.key=x.key->a.bL<=x.bL
def Yi(a:cI):Prop:=∀b∈a,∀c∈a,b.key=c.key->b.bL=c.bL->b=c
def Li(a:ae)(t:e.Pairwise (λg d=>ahead d g=bj))(n:Yi e)(r:∀x∈e,iZ x.key a=bj):vX (mX a e)/\∀x,x∈mX a e↔x.key≠a/\Yx e x:=by
 induction e generalizing a with
 |nil=>exact⟨vX.nil,λx=>by simp[mX,Yx]⟩
 |cons m A u=>
  obtain⟨h,q⟩:=bA.1 t;obtain⟨o,k⟩:=u m.key q (λg a d b=>n g (by simp[a]) d<|by simp[b])<|λx j=>(mQ<|h x j).1;unfold mX;split
  .rename_i i;refine⟨o,λx=>(k x).trans ?_⟩;rw[i];constructor
   .rintro⟨g,d,l⟩;refine⟨g,dD _ d,λb c f=>?_⟩;grind
   .rintro⟨g,d,l⟩;refine⟨g,?_,λb c f=>l b (dD _ c) f⟩;grind
  .rename_i i;have s:iZ m.key a=bj:=r m (by simp);refine⟨bA.2 ⟨λx j=>?_,o⟩,λx=>?_⟩
   .obtain⟨g,d,_⟩:=(k x).1 j;grind[nV,mQ]
   .rw[bD,k];constructor
    .rintro(rfl|⟨g,d,l⟩)
     .refine⟨i,by simp,λb c f=>?_⟩;rcases bD.1 c with rfl|c
      .grind
      .exact(mQ<|h b c).2 f
     .refine⟨?_,dD _ d,λb c f=>?_⟩
      .grind[mQ,nV]
      grind
    .rintro⟨g,d,l⟩;rcases bD.1 d with rfl|d
     .exact .inl rfl
     .by_cases p:x.key=m.key
      .left;have v:=l m (by simp) p.symm;have w:=(mQ<|h x d).2 p;exact n x (by simp[d]) m (by simp) p<|by omega
      .exact .inr ⟨p,d,λb c f=>l b (dD _ c) f⟩
def fP(a:ae)(l:cI):cI:=l.filter<|λe=>!iZ e.key a
def Tg:w∈(l.map<|fP v).flatten↔w∈l.flatten/\iZ w.key v=bj:=by
 simp only[bB,bJ];constructor;rintro⟨c,⟨r,b,rfl⟩,a⟩;unfold fP at a;rw[dC]at a;grind
 rintro⟨⟨r,b,a⟩,h⟩;exact⟨_,⟨r,b,rfl⟩,by unfold fP;rw[dC];grind⟩
def nn(l:cI)(k:ae):Option E:=l.find?<|λe=>decide<|e.key=k
theorem nF(h:vX e):nn e v=H w↔w∈e/\w.key=v:=by
 unfold nn;constructor;grind
 .rintro⟨a,b⟩;cases hf:e.find? (λw=>decide<|w.key=v)with
  |none=>
   rw[mB]at hf;grind
  |some x=>
   have c:=li hf;have d:x.key=v:=by have:=vN hf;grind
   rw[h.Pd c a<|d.trans b.symm]
theorem oK:nn e v=none↔∀a∈e,a.key≠v:=by
 unfold nn;rw[mB];simp
def Rf(h:vX e)(a:vX N)(c:∀x,x.key=v->(x∈e↔x∈N)):nn e v=nn N v:=by
 cases hm:nn N v with
 |none=>
  rw[oK]at hm|-;grind
 |some b=>
  rw[nF a]at hm;grind[nF]
def Lj(h:vX e)(a:E)(k:ae):nn (sH e a) k=if k=a.key then H a else nn e k:=by
 split;rename_i b;exact(nF<|h.sH a).2 ⟨xM.2<|.inl rfl,b.symm⟩;rename_i b;refine Rf (h.sH a) h<|λx c=>?_;rw[xM];grind
def rk(a:dK)(k:ae):Option E:=a.findSome?<|λr=>nn r k
def xS(k:ae):rk [] k=none:=rfl
def pN(r:cI)(a:dK)(k:ae):rk (r::a) k=(nn r k).or (rk a k):=by
 unfold rk;rw[List.findSome?_cons];cases nn r k<;>rfl
def vy(a b:dK)(k:ae):rk (a++b) k=(rk a k).or (rk b k):=by
 induction a with
 |nil=>simp[xS]
 |cons r a c=>rw[dl,pN,pN,c,Option.or_assoc]
def Re(k:ae):nn [] k=none:=rfl
def Over(r s:cI):Prop:=∀a∈r,∀b∈s,a.key=b.key->b.bL<a.bL
def jO(a:dK):Prop:=a.Pairwise Over
def jO.over(h:jO (e::l)):Over e l.flatten:=by
 intro f b g a c;obtain⟨s,d,a⟩:=bB.1 a;exact(bA.1 h).1 s d f b g a c
def OH(m:∀r∈l,vX r)(k:jO l):rk l v=H w↔Yx l.flatten w/\w.key=v:=by
 induction l with
 |nil=>simp[xS,Yx]
 |cons r l n=>
  have j:=n (λr a=>m r<|by simp[a]) (bA.1 k).2;have h:=k.over;have f:=m r (by simp);rw[pN];cases hf:nn r v with
  |some x=>
   have a:=(nF f).1 hf;simp only[Option.some_or,tw,bP];constructor
   .rintro rfl;refine⟨⟨jU _ a.1,λb d g=>?_⟩,a.2⟩;rcases aE.1 d with d|d
    .rw[f.Pd d a.1 g];grind
    .exact Int.le_of_lt<|h x a.1 b d g.symm
   .rintro⟨⟨c,i⟩,e⟩;rcases aE.1 c with c|c
    .exact f.Pd a.1 c<|a.2.trans e.symm
    .have o:=i x (jU _ a.1)<|a.2.trans e.symm;have p:=h x a.1 w c<|a.2.trans e.symm;omega
  |none=>
   have a:=oK.1 hf;simp only[lS,bP];rw[j];constructor
   .rintro⟨⟨c,i⟩,e⟩;refine⟨⟨kY _ c,λb d g=>?_⟩,e⟩;grind
   .rintro⟨⟨c,i⟩,e⟩;refine⟨⟨?_,λb d g=>i b (kY _ d) g⟩,e⟩;grind
def seen(a:dK)(k:ae):Option ae:=(rk a k).bind<|λe=>if e.del then none else H e.val
def Qi{a h D:dK}(A:jO (l++a++D))(w:jO h)(f:∀B∈h.flatten,B∈a.flatten):jO (l++h++D):=by
 obtain⟨r,s,t⟩:=bQ.1 A;obtain⟨u,_,v⟩:=bQ.1 r;have d:∀g∈h,∀i∈g,∃o∈a,i∈o:=λg e i c=>bB.1<|f i<|bB.2 ⟨g,e,c⟩;refine bQ.2 ⟨bQ.2 ⟨u,w,?_⟩,s,?_⟩;intro q b g n p j i c m;obtain⟨o,e,k⟩:=d g n i c;exact v q b o e p j i k m;intro q b x n;rcases aE.1 b with b|b;(grind);intro p j i c m;obtain⟨o,e,k⟩:=d q b p j;exact t o (kY _ e) x n p k i c m
def AB(a b D:dK):Prop:=∀k,rk b k=rk a k\/(rk D k=none/\rk b k=none/\∃e,rk a k=H e/\e.del=cq)
theorem Sx{a b D:dK}(h:AB a b D)(k:ae):seen (l++b++D) k=seen (l++a++D) k:=by
 unfold seen;rw[vy,vy,vy,vy];rcases h k with h|⟨c,d,g,e,f⟩;rw[h]
 .rw[c,d,e];cases rk l k with
  |some x=>simp
  |none=>simp[f]
def dL(l:cI):Prop:=l.Pairwise<|λa b=>ahead a b=cq
def dL.nil:dL []:=List.Pairwise.nil
def dL.sub(h:dL N)(s:e.Sublist N):dL e:=kZ s h
def dL.Mj(h:dL e):e.Pairwise (λa b=>ahead b a=bj):=h.imp<|λh=>lE h
def dL.Pd(m:dL e):Yi e:=by
 induction e with
 |nil=>intro j a;cases a
 |cons k r i=>
  obtain⟨n,d⟩:=bA.1 m;have o:∀x∈r,x.key=k.key->x.bL=k.bL->False:=by
   grind[jq,fO]
  intro j a l f g h;rcases bD.1 a with rfl|b<;>rcases bD.1 f with rfl|c
  .rfl
  .grind
  .grind
  .exact i d j b l c g h
structure gL(l:cI):Prop where
 mq:dL l
 key:∀e∈l,e.key≠⟨#[]⟩
def gL.nil:gL []:=⟨dL.nil,λ_ h=>by cases h⟩
def gL.sub(h:gL N)(s:e.Sublist N):gL e:=⟨h.mq.sub s,λb a=>h.key b<|s.subset a⟩
def jR(b:U)(r:cI):cI:=mX ⟨#[]⟩<|r.filter<|λe=>decide<|e.bL<=b
def OS(h:gL e)(c:U):vX (jR c e)/\∀x,x∈jR c e↔x∈e/\x.bL<=c/\∀a∈e,a.key=x.key->a.bL<=c->a.bL<=x.bL:=by
 have d:dL (e.filter<|λa=>decide<|a.bL<=c):=h.mq.sub eS;obtain⟨s,m⟩:=Li ⟨#[]⟩ d.Mj d.Pd<|λx _=>Ii x.key;refine⟨s,λx=>?_⟩;unfold jR;rw[m];constructor;rintro⟨_,b,f⟩;grind
 rintro⟨b,g,f⟩;exact⟨h.key x b,dC.2 ⟨b,vZ g⟩,λa c d=>f a (dC.1 c).1 d<|tv (dC.1 c).2⟩
theorem mH(h:gL e)(b:U):vX (jR b e):=(OS h b).1
theorem jk(h:gL e):w∈jR k e↔w∈e/\w.bL<=k/\∀a∈e,a.key=w.key->a.bL<=k->a.bL<=w.bL:=(OS h k).2 w
theorem zf(h:gL e)(a:w∈jR k e):w∈e:=((jk h).1 a).1
def iy(b:U)(r:cI)(k:ae):Option E:=r.find?<|λe=>decide (e.key=k)&&decide (e.bL<=b)
theorem Cg(i:gL e)(g:iy k e v=H w):w∈jR k e/\w.key=v:=by
 obtain⟨b,j,l,a,h⟩:=List.find?_eq_some_iff_append.1 g;simp only[lW,pu]at b;refine⟨(jk i).2 ⟨by rw[a];simp,b.2,λc f o n=>?_⟩,b.1⟩;rw[a]at f;rcases aE.1 f with q|q;have:=h c q;grind
 rcases bD.1 q with rfl|q;(grind);have d:=i.mq;rw[a]at d;have m:=(bQ.1 d).2.1;grind[jq,pairwise_cons,fO]
def Ch(c:iy k e v=none):∀a∈e,a.key=v->¬a.bL<=k:=by
 intro a b f d;have:=mB.1 c a b;grind
theorem Rh(h:gL e)(b:U)(k:ae):iy b e k=nn (jR b e) k:=by
 cases hf:iy b e k with
 |some g=>grind[nF,mH,Cg]
 |none=>
  refine(oK.2 λg d f=>?_).symm;obtain⟨a,c,_⟩:=(jk h).1 d;exact Ch hf g a f c
theorem UE(h:gL e)(f:w∈e)(d:w.bL<=k):∃a∈jR k e,a.key=w.key/\w.bL<=a.bL:=by
 cases hf:iy k e w.key with
 |some a=>
  obtain⟨b,c⟩:=Cg h hf;exact⟨a,b,c,((jk h).1 b).2.2 w f c.symm d⟩
 |none=>exact absurd d<|Ch hf w f rfl
def Over.at(k:Over e N)(c:gL e)(d:gL N)(b:U):Over (jR b e) (jR b N):=λx g a h j=>k x (zf c g) a (zf d h) j
def Kh(h:jO l)(b:∀r∈l,gL r)(f:U):jO (l.map<|jR f):=by
 unfold jO;rw[ke];induction l with
 |nil=>simp_all
 |cons r l e=>
  obtain⟨c,d⟩:=bA.1 h;exact bA.2 ⟨λs a=>(c s a).at (b r<|by simp) (b s<|by simp[a]) f,e d<|λs a=>b s<|by simp[a]⟩
def pj(a:cS U)(p:Option E)(e:E):Bool:=match p with
 |none=>cq
 |some p=>!decide (p.key=e.key)||a.any (λm=>decide (e.bL<=m)&&decide (m<p.bL))
def lN(a:cS U):Option E->cI->cI
 |_,[]=>[]
 |p,e::r=>if pj a p e then e::lN a (H e) r else lN a (H e) r
def dH(a:cS U)(l:cI):cI:=lN a none l
def Qk(a:cS U)(l:cI):∀p,(lN a p l).Sublist l:=by
 induction l with
 |nil=>intro p;exact gN _
 |cons e r b=>
  intro p;unfold lN;grind
theorem jj(a:cS U)(l:cI):(dH a l).Sublist l:=Qk a l none
def gL.Kl(h:gL e)(a:cS U):gL (dH a e):=h.sub<|jj a e
def Qm{c:cS U}(l:cI):∀p:Option E,dL (p.toList++l)->w∈l->((∀a∈p.toList++l,a.key=w.key->a.bL<=w.bL)\/∃m∈c,w.bL<=m/\∀a∈p.toList++l,a.key=w.key->a.bL<=m->a.bL<=w.bL)->w∈lN c p l:=by
 induction l with
 |nil=>grind
 |cons x s r=>
  intro p f d b;have h:dL (x::s):=(bQ.1 f).2.1;unfold lN;rcases bD.1 d with rfl|d
  .have g:pj c p w=cq:=by
    cases p with
    |none=>rfl
    |some q=>
     unfold pj;by_cases e:q.key=w.key
     .have k:ahead q w=cq:=(bQ.1 f).2.2 q (by simp) w (by simp);have n:w.bL<q.bL:=by
       grind[jq,fO]
      rcases b with b|⟨m,o,i,j⟩
      .have:=b q (by simp) e;omega
      grind
     .simp[e]
   rw[dW g];simp
  grind
theorem Av(h:gL e){a:cS U}(j:k∈a\/∀x∈e,x.bL<=k):jR k (dH a e)=jR k e:=by
 have g:∀x∈jR k e,x∈dH a e:=by intro x b;obtain⟨c,d,f⟩:=(jk h).1 b;refine Qm e none h.mq c ?_;grind
 refine(mH (h.Kl a) k).ext (mH h k) λx=>?_;constructor;intro b;obtain⟨c,d,f⟩:=(jk<|h.Kl a).1 b;have i:=(jj a e).subset c;grind[jk,UE]
 intro b;obtain⟨c,d,f⟩:=(jk h).1 b;exact(jk<|h.Kl a).2 ⟨g x b,d,λc i=>f c<|(jj a e).subset i⟩
def Jw(h:∀r∈l,dL r):∀r∈l.modify b List.tail,dL r:=by
 intro r a;induction l generalizing b with
 |nil=>simp at a
 |cons x d c=>
  cases b with
  |zero=>
   simp only[pZ,bD]at a;rcases a with rfl|a
   .exact(h x<|by simp).sub<|List.tail_sublist x
   grind
  |succ b=>
   grind
def Te(m:∀r∈l,dL r)(j:∀i,i<y l->∀f,lO l i=H f->ahead f w=bj):∀x∈l.flatten,ahead x w=bj:=by
 intro x k;obtain⟨r,g,a⟩:=bB.1 k;obtain⟨i,e,rfl⟩:=dS g;have b:=m _ g;cases hc:l[i]with
 |nil=>rw[hc]at a;cases a
 |cons f t=>
  have h:lO l i=H f:=by simp[lO,e,hc]
  have d:=j i e f h;rw[hc]at a b;rcases bD.1 a with rfl|c
  .exact d
  .exact vp d<|lE<|(bA.1 b).1 x c
def BY(a:dK)(i:∀r∈a,dL r):(cL a).Pairwise (λj c=>ahead c j=bj):=by
 generalize f:total a=n;induction n generalizing a with
 |zero=>unfold cL;rw[f];exact List.Pairwise.nil
 |succ n h=>
  cases hb:kH a (y a)with
  |none=>rw[wP hb];simp_all
  |some c=>
   obtain⟨_,l,b,e⟩:=tM hb;rw[wO hb b];have k:=uY b;refine bA.2 ⟨λx g=>?_,h _ (Jw i)<|by omega⟩;have d:x∈(a.modify c List.tail).flatten:=(eH _).mem_iff.1 g;exact Te i e x<|(wN b).mem_iff.2<|dD _ d
def IX(l:cI):Prop:=l.Pairwise<|λa b=>¬(a.key=b.key/\a.bL=b.bL)
def dL.WQ(h:dL e):IX e:=h.imp λ{a b}q=>by
 grind[jq,fO]
def zS(b:∀r∈l,dL r)(a:jO l):IX l.flatten:=by
 induction l with
 |nil=>exact List.Pairwise.nil
 |cons r l f=>
  rw[bP];refine bQ.2 ⟨(b r<|by simp).WQ,f (λs e=>b s<|by simp[e]) (bA.1 a).2,λg c h d q=>?_⟩;have:=a.over g c h d q.1;omega
theorem xY{b:E}(h:ahead b w=bj)(k:¬(w.key=b.key/\w.bL=b.bL)):ahead w b=cq:=by
 obtain⟨d,a⟩:=mQ h;refine jq.2 ?_;by_cases c:w.key=b.key;have:=a c.symm;grind
 grind[nV]
def oI(a:∀r∈l,dL r)(e:jO l):dL (cL l):=by
 have c:=BY l a;have d:IX (cL l):=((eH l).pairwise_iff<|λ{f b}q c=>q ⟨c.1.symm,c.2.symm⟩).2<|zS a e;exact List.Pairwise.imp₂ (λf b q k=>xY q k) c d
def nC(a:∀r∈l,gL r)(e:jO l):gL (cL l):=by
 refine⟨oI (λr h=>(a r h).mq) e,λf d=>?_⟩;obtain⟨r,b,c⟩:=bB.1<|(eH l).mem_iff.1 d;exact(a r b).key f c
theorem wR(d:∀r∈l,gL r)(j:jO l):w∈jR k (cL l)↔rk (l.map<|jR k) w.key=H w:=by
 have i:=nC d j;have b:∀a,a∈cL l↔∃r∈l,a∈r:=λa=>((eH l).mem_iff).trans bB;rw[OH (λr h=>by grind[mem_map,mH])<|Kh j d k];constructor;intro n;obtain⟨e,h,m⟩:=(jk i).1 n;obtain⟨r,c,f⟩:=(b w).1 e;refine⟨⟨bB.2 ⟨_,bJ.2 ⟨r,c,rfl⟩,(jk<|d r c).2 ⟨f,h,λa g=>m a<|(b a).2 ⟨r,c,g⟩⟩⟩,λa g o=>?_⟩,rfl⟩;grind[mem_flatten,mem_map,jk]
 rintro⟨⟨e,h⟩,_⟩;obtain⟨s,p,c⟩:=bB.1 e;obtain⟨t,f,rfl⟩:=bJ.1 p;obtain⟨m,n,_⟩:=(jk<|d t f).1 c;refine(jk i).2 ⟨(b w).2 ⟨t,f,m⟩,n,λa g o q=>?_⟩;grind[UE,mem_flatten,mem_map]
def gK:cI->cI
 |[]=>[]
 |e::r=>if e.del&&!((gK r).any λa=>decide<|a.key=e.key)then gK r else e::gK r
theorem km(l:cI):(gK l).Sublist l:=by
 induction l with
 |nil=>exact gN _
 |cons e r a=>
  unfold gK;grind
def Gc(i:dL e):w∈gK e↔w∈e/\(w.del=bj\/∃a∈e,a.key=w.key/\a.bL<w.bL/\a.del=bj):=by
 induction e generalizing w with
 |nil=>simp[gK]
 |cons c r f=>
  obtain⟨j,d⟩:=bA.1 i;have h:∀a∈r,a.key=c.key->a.bL<c.bL:=λa d b=>by
   grind[jq,fO]
  have k:∀{w:E},w∈r->(w.del=bj\/∃a∈c::r,a.key=w.key/\a.bL<w.bL/\a.del=bj)->w∈gK r:=by
   intro w b g;refine(f d).2 ⟨b,g.imp_right ?_⟩;grind
  have l:∀{w:E},w∈gK r->w∈c::r/\(w.del=bj\/∃a∈c::r,a.key=w.key/\a.bL<w.bL/\a.del=bj):=by
   intro w b;obtain⟨g,m⟩:=(f d).1 b;grind
  unfold gK;grind
theorem gL.bare(h:gL e):gL (gK e):=h.sub<|km e
def Nq(h:gL e)(s:∀p,rk l p=none)(o:U):AB [jR o e] [jR o<|gK e] l:=by
 intro p;simp only[pN,xS,sj];cases hf:nn (jR o e) p with
 |none=>
  grind[oK,jk,gL.bare,UE,km]
 |some b=>
  obtain⟨t,m⟩:=(nF<|mH h o).1 hf;obtain⟨j,A,r⟩:=(jk h).1 t;by_cases k:b∈gK e
  .grind[nF,mH,gL.bare,jk,km]
  .right;have n:¬(b.del=bj\/∃a∈e,a.key=b.key/\a.bL<b.bL/\a.del=bj):=λc=>k<|(Gc h.mq).2 ⟨j,c⟩;refine⟨s p,oK.2 λx v a=>?_,b,rfl,by grind⟩;obtain⟨g,q,_⟩:=(jk h.bare).1 v;obtain⟨i,w⟩:=(Gc h.mq).1 g;have d:=r x i (a.trans m.symm) q;have f:x≠b:=λc=>k<|c▸g;have u:x.bL<b.bL:=by
    rcases Int.lt_or_eq_of_le d with c|c
    .exact c
    .exact absurd (h.mq.Pd x i b j (a.trans m.symm) c) f
   grind
def lB(l:cI)(e:E):cI:=l.filter (λx=>ahead x e)++e::l.filter (λx=>ahead e x)
theorem mf{x:E}:x∈lB e w↔x=w\/(x∈e/\¬(x.key=w.key/\x.bL=w.bL)):=by
 unfold lB;simp only[aE,bD,dC];grind[jq,fO,xY]
def dL.lB(h:dL e)(c:E):dL (lB e c):=by
 unfold Go.Proofs.YtmnlcbeggagabaaGreatDoor.lB;refine bQ.2 ⟨h.sub eS,bA.2 ⟨λx b=>(dC.1 b).2,h.sub eS⟩,λg a i f=>?_⟩;have d:=(dC.1 a).2;grind[mem_cons,tP,mem_filter]
def gL.lB(h:gL e)(a:w.key≠⟨#[]⟩):gL (lB e w):=by
 refine⟨h.mq.lB w,λx b=>?_⟩;rcases mf.1 b with rfl|⟨c,_⟩;exact a;exact h.key x c
def LK(h:gL e)(a:w.key≠⟨#[]⟩)(b:k<w.bL):jR k (lB e w)=jR k e:=by
 refine(mH (h.lB a) k).ext (mH h k) λx=>?_;rw[jk<|h.lB a,jk h];grind[mf]
def LM(j:gL e)(i:w.key≠⟨#[]⟩){b:U}(h:w.bL<=b)(k:∀x∈e,x.key=w.key->x.bL<=w.bL):jR b (lB e w)=sH (jR b e) w:=by
 refine(mH (j.lB i) b).ext ((mH j b).sH w) λx=>?_;rw[jk<|j.lB i,xM,jk j];constructor;rintro⟨g,l,m⟩;rcases mf.1 g with rfl|⟨g,q⟩;exact .inl rfl;by_cases a:x.key=w.key;(have c:=m w (mf.2<|.inl rfl) a.symm h;have d:=k x g a;grind);grind[mf]
 rintro(rfl|⟨⟨g,l,m⟩,a⟩);(refine⟨mf.2<|.inl rfl,h,λf c d _=>?_⟩;rcases mf.1 c with rfl|⟨g,_⟩;(grind);grind);refine⟨mf.2<|.inr ⟨g,λo=>a o.1⟩,l,λf c d p=>?_⟩;rcases mf.1 c with rfl|⟨n,_⟩;(grind);grind
def fC(l m:cI):cI:=m.foldl lB l
def gL.fC(h:gL e)(a:∀b∈N,b.key≠⟨#[]⟩):gL (fC e N):=by
 induction N generalizing e with
 |nil=>exact h
 |cons b r d=>exact d (h.lB<|a b<|by simp)<|λx c=>a x<|by simp[c]
theorem wQ(a:w∈fC e N):w∈e\/w∈N:=by
 induction N generalizing e with
 |nil=>exact .inl a
 |cons c r b=>
  rcases b a with q|q
  .grind[mf]
  grind
def Oh(i:gL e)(f:∀b∈N,b.key≠⟨#[]⟩)(c:∀b∈N,b.bL=k)(g:D<k):jR D (fC e N)=jR D e:=by
 induction N generalizing e with
 |nil=>rfl
 |cons b r h=>
  have d:=f b (by simp);exact(h (i.lB d) (λx a=>f x<|by simp[a])<|λx a=>c x<|by simp[a]).trans<|LK i d (by rw[c b<|by simp];exact g)
def Oi(l:gL e)(f:∀b∈N,b.key≠⟨#[]⟩)(c:∀b∈N,b.bL=k)(m:k<=D)(i:∀x∈e,x.bL<=k):jR D (fC e N)=gq (jR D e) N:=by
 induction N generalizing e with
 |nil=>rfl
 |cons b r j=>
  have d:=f b (by simp);have n:=c b (by simp);have g:=j (l.lB d) (λx a=>f x<|by simp[a]) (λx a=>c x<|by simp[a]) (λx a=>by
   grind[mf])
  have h:=LM l d (b:=D) (by omega) (λx a _=>by have:=i x a;omega);exact g.trans (by rw[h];rfl)
theorem OU(h:gL e)(a:∀x∈e,x.bL<=k)(b:k<=D):jR D e=jR k e:=by
 refine(mH h D).ext (mH h k) λx=>?_;rw[jk h,jk h];grind
def sO(e:E):dK->dK
 |(x::g)::a=>if x.key=e.key then(e::x::g)::a else [e]::(x::g)::a
 |a=>[e]::a
def ii:cI->dK
 |[]=>[]
 |e::r=>sO e<|ii r
def CH(l:cI):∀g∈ii l,g≠[]:=by
 induction l with
 |nil=>intro g a;cases a
 |cons e r b=>
  intro g a;unfold ii sO at a;grind
def pm(l:cI):(ii l).flatten=l:=by
 induction l with
 |nil=>rfl
 |cons e r a=>
  unfold ii sO;grind
theorem xQ(l:cI):∀g∈ii l,∀x∈g,∀a∈g,x.key=a.key:=by
 induction l with
 |nil=>intro g b;cases b
 |cons e r d=>
  intro g b;have c:∀x∈[e],∀a∈[e],x.key=a.key:=by simp
  unfold ii sO at b;grind
def Gj(e:E)(r:cI):∃g a,ii (e::r)=(e::g)::a:=by
 unfold ii sO;split;split;(grind);grind
 grind
def Ik(e:E)(a b:dK)(h:a≠[]):sO e (a++b)=sO e a++b:=by
 cases a with
 |nil=>grind
 |cons g a=>
  cases g with
  |nil=>rfl
  |cons x g=>
   simp only[dl,sO];split<;>rfl
def KN(p s:cI)(h:∀c∈p.getLast?,∀b∈s.head?,c.key≠b.key):ii (p++s)=ii p++ii s:=by
 induction p with
 |nil=>rfl
 |cons e r g=>
  cases r with
  |nil=>
   cases s with
   |nil=>rfl
   |cons b s=>
    have f:e.key≠b.key:=h e (by simp) b (by simp);obtain⟨i,d,a⟩:=Gj b s;show sO e (ii<|b::s)=[[e]]++ii (b::s);rw[a];simp only[sO];rw[eI<|λc=>f c.symm];rfl
  |cons x r=>
   have:=g<|λc a b d=>h c (by simpa using a) b d;show sO e (ii<|(x::r)++s)=sO e (ii<|x::r)++ii s;rw[this,Ik];obtain⟨i,d,a⟩:=Gj x r;rw[a];simp
def Ty(h:e≠[])(b:∀x∈e,∀a∈e,x.key=a.key):ii e=[e]:=by
 induction e with
 |nil=>grind
 |cons d r c=>
  cases r with
  |nil=>rfl
  |cons x r=>
   have:=c (by simp) (λd f e g=>b d (by grind) e<|by grind);show sO d (ii<|x::r)=_;rw[this];simp only[sO];rw[dW<|b x (by simp) d<|by simp]
theorem qA(a:cS U)(p:Option E)(e:E)(r:cI):lN a p (e::r)=if pj a p e then e::lN a (H e) r else lN a (H e) r:=rfl
def ze(e:E)(r:cI):gK (e::r)=if e.del&&!((gK r).any λa=>decide<|a.key=e.key)then gK r else e::gK r:=rfl
def Ht(a:cS U)(l s:cI):∀p:Option E,(∀c,(p.toList++l).getLast?=H c->∀b∈s.head?,c.key≠b.key)->lN a p (l++s)=lN a p l++lN a none s:=by
 induction l with
 |nil=>
  intro p h;cases s with
  |nil=>rfl
  |cons b s=>
   cases p with
   |none=>rfl
   |some q=>
    have f:q.key≠b.key:=h q (by simp) b (by simp);show lN a (H q) (b::s)=lN a none (b::s);have d:pj a (H q) b=cq:=by simp[pj,f]
    have e:pj a none b=cq:=rfl;rw[qA,qA,dW d,dW e]
 |cons i r g=>
  intro p h;have:=g (H i) (λc a b d=>h c (by
   grind) b d)
  grind[qA]
def BW(a:cS U)(l s:cI)(h:∀b∈l.getLast?,∀d∈s.head?,b.key≠d.key):dH a (l++s)=dH a l++dH a s:=Ht a l s none<|λb c=>h b<|by simpa using c
def LI(l s:cI)(h:∀a∈l,∀f∈s,a.key≠f.key):gK (l++s)=gK l++gK s:=by
 induction l with
 |nil=>rfl
 |cons e r d=>
  have b:=d (λa c=>h a<|by simp[c]);show gK (e::(r++s))=_;rw[ze,ze,b,List.any_append];have c:((gK s).any λa=>decide<|a.key=e.key)=bj:=by
   rw[List.any_eq_false];grind[km]
  rw[c,Bool.or_false];split<;>rfl
def uv(g:cI):cI:=(g.reverse.dropWhile<|λe=>e.del).reverse
def FA(g:cI)(e:E):uv (g++[e])=if e.del then uv g else g++[e]:=by
 unfold uv;simp only[List.reverse_append,tA,List.reverse_nil,de,jw,List.dropWhile_cons];split<;>simp
def Pg(e:E)(g:cI):uv (e::g)=if uv g=[]then(if e.del then []else [e])else e::uv g:=by
 unfold uv;rw[tA,List.dropWhile_append];cases hq:g.reverse.dropWhile (λe=>e.del)with
 |nil=>
  simp[List.dropWhile_cons];split<;>simp_all
 |cons x r=>simp
def UC(d:∀x∈e,∀a∈e,x.key=a.key):gK e=uv e:=by
 induction e with
 |nil=>rfl
 |cons f r g=>
  have c:=g (λe a f b=>d e (by simp[a]) f<|by simp[b]);rw[ze,c,Pg];have b:∀a∈uv r,a.key=f.key:=λa e=>d a (by rw[<-c]at e;simp[(km r).subset e]) f (by simp);cases ht:uv r with
  |nil=>simp
  |cons x t=>
   have:x.key=f.key:=b x (by rw[ht];simp);simp[this]
def Dp{b:cS U}(h:gL e)(a:∀c∈N,c.key≠⟨#[]⟩)(d:∀c∈N,c.bL=k+1)(f:D∈b)(g:D<=k):(dH b (fC e N)::l).map (jR D)=(e::l).map (jR D):=by
 simp only[bV];rw[Av (h.fC a)<|.inl f,Oh h a d<|by omega]
def wC{rest:dK}{ms:cS U}(h:gL e)(i:∀r∈rest,gL r)(a:∀c∈N,c.key≠⟨#[]⟩)(f:∀c∈N,c.bL=k+1)(b:∀x∈e,x.bL<=k)(g:∀r∈rest,∀x∈r,x.bL<=k):(dH ms (fC e N)::rest).map (jR<|k+1)=gq (jR k e) N::rest.map (jR k):=by
 simp only[bV];have d:∀x∈fC e N,x.bL<=k+1:=by grind[wQ]
 rw[Av (h.fC a)<|.inr d,Oi h a f (Int.le_refl _) (λx e=>by have:=b x e;omega),OU h b<|by omega];grind[map_congr_left,OU]
def Hj{a:cS U}(h:gL e)(b:k∈a\/∀x∈e,x.bL<=k):(dH a e::l).map (jR k)=(e::l).map (jR k):=by
 grind[map_cons,Av]
def QR(d:∀r∈l,gL r)(c:jO l)(b:U)(k:ae):rk [jR b<|cL l] k=rk (l.map<|jR b) k:=by
 have f:∀r∈l.map (jR b),vX r:=λr h=>by grind[mem_map,mH]
 have a:∀k e,rk (l.map<|jR b) k=H e->e.key=k:=λk e q=>((OH f<|Kh c d b).1 q).2;rw[pN,xS,sj];have g:=nC d c;cases hf:rk (l.map<|jR b) k with
 |some e=>
  have:=a k e hf;grind[nF,mH,wR]
 |none=>
  grind[oK,wR]
def gO(b:cS U)(a:Bool)(c:dK):cI:=if a then gK (dH b<|cL c)else dH b (cL c)
def yW(c:cS U)(a:Bool)(b:dK):∀x∈gO c a b,x∈b.flatten:=by
 intro x d;have e:x∈dH c (cL b):=by unfold gO at d;grind[km]
 grind[eH,jj]
def DT(d:∀r∈l,gL r)(c:jO l)(b:cS U)(a:Bool):gL (gO b a l):=by
 unfold gO;split;exact((nC d c).Kl b).bare;exact(nC d c).Kl b
def zU{D:dK}(e:∀r∈l,gL r)(d:jO l){a:cS U}(i:k∈a\/∀x∈l.flatten,x.bL<=k)(h:K=cq->∀f,rk (D.map<|jR k) f=none):AB (l.map<|jR k) [jR k<|gO a K l] (D.map<|jR k):=by
 have c:=nC e d;have b:k∈a\/∀x∈cL l,x.bL<=k:=i.imp_right λq x c=>q x<|(eH l).mem_iff.1 c;have g:jR k (dH a<|cL l)=jR k (cL l):=Av c b;intro f;rw[<-QR e d k f,<-g];unfold gO;cases K with
 |false=>exact .inl rfl
 |true=>exact Nq (c.Kl a) (h rfl) k f
def By(h:gL (e++N))(l:∀k∈e,∀b∈N,k.key≠b.key)(b:U):jR b (e++N)=jR b e++jR b N:=by
 have c:gL e:=h.sub<|oq _ _;have d:gL N:=h.sub<|gS _ _;have a:vX (jR b e++jR b N):=by refine bQ.2 ⟨mH c b,mH d b,λx g f i=>?_⟩;rcases jq.1 ((bQ.1 h.mq).2.2 x (zf c g) f<|zf d i)with j|⟨j,_⟩;exact j;grind[zf]
 refine(mH h b).ext a λx=>?_;rw[aE,jk h,jk c,jk d];grind
def VQ(g:∀r∈l,gL r)(e:jO l)(b:ae)(j:U):∀x,x∈mX ⟨#[]⟩ ((cL<|l.map<|fP b).filter<|λk=>decide<|k.bL<=j)↔rk (l.map<|jR j) x.key=H x/\iZ x.key b=bj:=by
 have c:∀r∈l.map (fP b),∃s∈l,r=fP b s:=λr o=>by grind
 have h:∀r∈l.map (fP b),gL r:=λr o=>by obtain⟨s,m,rfl⟩:=c r o;exact(g s m).sub eS
 have f:jO (l.map<|fP b):=by unfold jO;rw[ke];exact e.imp λ{r s}q x b a c k=>q x (dC.1 b).1 a (dC.1 c).1 k
 intro x;have n:=nC h f;have d:=nC g e;have i:∀a,a∈cL (l.map<|fP b)↔a∈cL l/\iZ a.key b=bj:=λa=>((eH _).mem_iff.trans Tg).trans<|and_congr_left λ_=>(eH l).mem_iff.symm;show x∈jR j (cL<|l.map<|fP b)↔_;rw[<-wR g e,jk n,jk d];grind
def gV(g h:cI):Prop:=∀x∈g,∀a∈h,iZ x.key a.key=cq
def Bg(u:dL e):(ii e).Pairwise gV:=by
 induction e with
 |nil=>exact List.Pairwise.nil
 |cons t r b=>
  obtain⟨n,o⟩:=bA.1 u;have b:=b o;unfold ii sO;split
  .rename_i x j g f;have h:(x::j)++g.flatten=r:=by have:=pm r;rw[f]at this;grind
   have a:∀b∈x::j,b.key=x.key:=λb c=>xQ r (x::j) (by rw[f];simp) b c x (by simp);rw[f]at b;split
   .rename_i i;obtain⟨l,p⟩:=bA.1 b;refine bA.2 ⟨λs c q k m d=>?_,p⟩;have:=l s c x (by simp) m d;grind
   .rename_i i;refine bA.2 ⟨λs c q k m d=>?_,b⟩;rw[dA.1 k];have l:iZ t.key x.key=cq:=by
     rcases jq.1 (n x (by rw[<-h];simp))with p|⟨p,_⟩
     .exact p
     grind
    rcases bD.1 c with rfl|c
    .rw[a m d];exact l
    .exact lu l<|(bA.1 b).1 s c x (by simp) m d
  .rename_i g f;have a:ii r=[]:=by
    cases i:ii r with
    |nil=>rfl
    |cons j g=>
     cases j with
     |nil=>exact absurd rfl<|CH r [] (by rw[i];simp)
     |cons x j=>grind
   rw[a];grind
def ku(n L:M):M->M->cI->dK->dK
 |_,_,_,[]=>[]
 |k,b,a,g::c=>
  if(k+1)*L/n<=b+y g then(a++g)::ku n L (k+1) (b+y g) [] c
  else ku n L k (b+y g) (a++g) c
theorem oS(n L k b:M)(a g:cI)(c:dK):ku n L k b a (g::c)=if(k+1)*L/n<=b+y g then(a++g)::ku n L (k+1) (b+y g) [] c else ku n L k (b+y g) (a++g) c:=rfl
def Mw{n L:M}(i:0<n):∀(c:dK)(k d:M)(a:cI),d+y c.flatten=L->(k<n\/(c.flatten=[]/\a=[]))->(a≠[]->d<(k+1)*L/n)->(ku n L k d a c).flatten=a++c.flatten:=by
 intro c;induction c with
 |nil=>
  intro k d a f b g;have:a=[]:=by
   rcases b with b|b
   .by_cases e:a=[]
    .exact e
    .have:=g e;have h:(k+1)*L/n<=L:=Nat.div_le_of_le_mul<|jT L b;grind
   .exact b.2
  rw[this];rfl
 |cons m c j=>
  intro k d a f b g;simp only[bP,ag]at f b;rw[oS];split
  .rename_i e;rw[bP,j (k+1) (d+y m) [] (by omega) ?_<|λq=>absurd rfl q]
   .simp
   .rcases b with b|b
    .by_cases h:k+1<n
     .exact .inl h
     .have l:k+1=n:=by omega
      rw[l,Nat.mul_div_cancel_left L i]at e;exact .inr ⟨aQ (by omega),rfl⟩
    grind[append_eq_nil_iff]
  grind[append_eq_nil_iff]
def Jz:∀(d:dK)(k e:M)(a:cI),(∀g∈d,g≠[])->∀p∈ku b c k e a d,p≠[]:=by
 intro d;induction d with
 |nil=>intro k e a _ p f;cases f
 |cons g d h=>
  grind[oS,mem_cons,append_eq_nil_iff]
def Pt{n L F V:M}(l:0<n)(hF:L<=n*F)(h:0<F):∀(c:dK)(k e:M)(a:cI),(∀g∈c,y g<=V+1)->k*L/n+y a<=e->(a≠[]->e<(k+1)*L/n)->∀p∈ku n L k e a c,y p<=F+V:=by
 intro c;induction c with
 |nil=>intro k e a _ _ _ p b;cases b
 |cons g c r=>
  intro k e a i m o p b;have j:=i g (by simp);have f:(k+1)*L/n<=k*L/n+F:=by
   have:(k+1)*L<=k*L+n*F:=by rw[we,Nat.one_mul];omega
   exact aB (Nat.div_le_div_right this)<|Nat.le_of_eq<|Nat.add_mul_div_left _ _ l
  rw[oS]at b;split at b
  .rename_i q;rcases bD.1 b with rfl|b
   .rw[ag];by_cases d:a=[]
    .rw[d];simp;omega
    grind
   grind
  grind
def Mu:∀(f:dK)(m g:M)(a:cI),f.Pairwise gV->(∀n∈f,gV a n)->(ku b c m g a f).Pairwise gV/\∀A∈ku b c m g a f,∀x∈A,x∈a\/x∈f.flatten:=by
 intro f;induction f with
 |nil=>intro m g a _ _;exact⟨List.Pairwise.nil,λA j=>by cases j⟩
 |cons n f t=>
  intro m g a j p;obtain⟨u,v⟩:=bA.1 j;rw[oS];split
  .obtain⟨r,s⟩:=t (m+1) (g+y n) [] v (λ_ _ x e=>by cases e);refine⟨bA.2 ⟨λq w x e d k=>?_,r⟩,λA j x e=>?_⟩
   .have l:d∈f.flatten:=(s q w d k).resolve_left (by simp);obtain⟨o,h,i⟩:=bB.1 l;rcases aE.1 e with e|e
    .exact p o (by simp[h]) x e d i
    .exact u o h x e d i
   grind
  .obtain⟨r,s⟩:=t m (g+y n) (a++n) v (λo h x e d k=>by
    rcases aE.1 e with e|e
    .exact p o (by simp[h]) x e d k
    .exact u o h x e d k)
   grind
def Hs(a:cS U)(n:dL e)(j:∀x∈e,∀g∈e,x.key=g.key):∀p:Option E,dL (p.toList++e)->(∀q∈p,∀x∈e,q.key=x.key)->y (lN a p e)<=y (a.filter (λm=>match p with|none=>cq|some q=>decide<|m<q.bL))+(if p=none then 1 else 0):=by
 induction e with
 |nil=>intro p _ _;simp[lN]
 |cons c r f=>
  intro p k d;have f:=f (n.sub<|List.sublist_cons_self _ _) (λb a d h=>j b (by simp[a]) d<|by simp[h]) (H c) n (λq e x i=>by grind);simp only[reduceCtorEq,np,lz]at f;rw[qA];cases p with
  |none=>
   have b:pj a none c=cq:=rfl;rw[dW b];simp only[aW,ly];grind[filter_eq_self,length_filter_le,Nat.succ_le_succ,Nat.le_trans]
  |some q=>
   have h:c.bL<q.bL:=by
    rcases jq.1 ((bQ.1 k).2.2 q (by simp) c<|by simp)with i|⟨_,i⟩
    .rw[d q rfl c (by simp),fO]at i;cases i
    .exact i
   have l:y (lN a (H c) r)<=y (a.filter<|λm=>decide<|m<c.bL):=f;simp only[reduceCtorEq,np,lz];show _<=y (a.filter<|λm=>decide<|m<q.bL);have b:∀a:cS U,y (a.filter<|λm=>decide<|m<c.bL)+y (a.filter<|λm=>decide (c.bL<=m)&&decide (m<q.bL))=y (a.filter<|λm=>decide<|m<q.bL):=by
    intro a;induction a with
    |nil=>rfl
    |cons m a i=>
     grind
   have o:=b a;split
   .rename_i i;simp only[pj,d q rfl c (by simp),qT,qK,yl]at i;have:0<y (a.filter<|λm=>decide (c.bL<=m)&&decide (m<q.bL)):=by
     simp_all
    grind
   .omega
def Uq{l:cS W}{p:W->Bool}(h:l.Pairwise (λa b=>p b=cq->p a=cq)):l.take (l.countP p)=l.filter p/\l.drop (l.countP p)=l.filter (λx=>!p x):=by
 induction l with
 |nil=>simp
 |cons x r e=>
  obtain⟨c,d⟩:=bA.1 h;grind
def lq(l:cI)(e:E):M:=l.countP<|λx=>ahead x e
def Hn(l:cI)(e:E):lq l e<=y l:=List.countP_le_length
def dL.cut(h:dL e)(a:E):e.take (lq e a)=e.filter (λx=>ahead x a)/\e.drop (lq e a)=e.filter (λx=>!ahead x a):=Uq<|h.imp λ{_ _}q c=>tP q c
def dL.mono(h:dL e){i j:M}(a:i<=j)(c:j<y e)(d:ahead e[j] w=cq):ahead (e[i]'(by omega)) w=cq:=by
 rcases my a with g|g;exact tP (cJ.1 h i j (by omega) c g) d;grind
def Vj(f:b<=y e)(c:∀t(a:t<y e),t<b->ahead e[t] w=cq)(d:∀t(a:t<y e),b<=t->ahead e[t] w=bj):lq e w=b:=by
 unfold lq;rw[<-bY b e,List.countP_append];have g:(e.take b).countP (λx=>ahead x w)=b:=by rw[List.countP_eq_length.2];simp;omega;grind[getElem_of_mem,getElem_take]
 grind[countP_eq_zero,getElem_of_mem,getElem_drop]
def Nx(l:dL e)(k v:ae)(f:Bool)(b:U):iy b e k=if c:∃a:lq e ⟨k,v,f,b⟩<y e,e[lq e ⟨k,v,f,b⟩].key=k then H (e[lq e ⟨k,v,f,b⟩]'c.1)else none:=by
 induction e with
 |nil=>simp[iy]
 |cons x r d=>
  obtain⟨m,h⟩:=bA.1 l;have d:=d h;unfold iy at d|-;cases ha:ahead x ⟨k,v,f,b⟩with
  |true=>
   have a:lq (x::r) ⟨k,v,f,b⟩=lq r ⟨k,v,f,b⟩+1:=List.countP_cons_of_pos (p:=λx=>ahead x ⟨k,v,f,b⟩) ha;have g:(decide (x.key=k)&&decide (x.bL<=b))=bj:=by
    grind[jq,oe]
   rw[List.find?_cons_of_neg (by simpa using g),d];simp[a]
  |false=>
   have a:lq (x::r) ⟨k,v,f,b⟩=0:=by
    refine List.countP_eq_zero.2 λj n=>?_;grind[mem_cons,vp,lE]
   obtain⟨o,i⟩:=mQ ha;by_cases g:x.key=k
   .have j:=i g;rw[List.find?_cons_of_pos<|by grind];simp[a,g]
   grind[nV,mem_cons,jq,lw,find?_eq_none]
def PU(h:dL e)(a v:ae)(d:Bool)(b:∀x∈e,x.bL<=k):e.drop (lq e ⟨a,v,d,k⟩)=fP a e:=by
 rw[(h.cut _).2];refine tB λx c=>?_;congr 1;rw[vO,jq];grind
def Pa(h:dL e)(a:E)(b:lq e a<y e)(f:e[lq e a].key=a.key)(c:e[lq e a].bL=a.bL):e.set (lq e a) a=lB e a:=by
 unfold lB;rw[gY,dW b,(h.cut a).1];congr 2;have d:=(h.cut a).2;rw[bF b]at d;have j:dL (e[lq e a]::e.drop (lq e a+1)):=by rw[<-bF b];exact h.sub<|kh _ _
 have l:=(bA.1 j).1;have i:ahead a e[lq e a]=bj:=by unfold ahead;simp[f,c,fO]
 have m:∀b,ahead e[lq e a] b=ahead a b:=λb=>by unfold ahead;rw[f,c]
 generalize e[lq e a]=k at*;have g:e.filter (λx=>ahead a x)=(e.filter<|λx=>!ahead x a).filter (λx=>ahead a x):=by rw[List.filter_filter];grind[filter_congr,lE]
 rw[g,<-d,fh (by simp[i]),fX.2];grind
def Pc(h:dL e)(a:E)(b:∀x∈e,¬(x.key=a.key/\x.bL=a.bL)):e.take (lq e a)++a::e.drop (lq e a)=lB e a:=by
 unfold lB;rw[(h.cut a).1,(h.cut a).2];grind[filter_congr,lE,xY]
def dL.Xs(j:dL e)(a:E)(k:∀d:lq e a<y e,¬(e[lq e a].key=a.key/\e[lq e a].bL=a.bL)):∀x∈e,¬(x.key=a.key/\x.bL=a.bL):=by
 rintro x o⟨i,h⟩;have f:ahead x a=bj:=by unfold ahead;simp[i,h,fO]
 have c:x∈e.drop (lq e a):=by rw[(j.cut a).2];simp[o,f]
 have d:lq e a<y e:=by grind[Nat.lt_or_ge,drop_eq_nil_of_le]
 have p:=(j.cut a).2;rw[bF d]at c p;have g:ahead e[lq e a] a=bj:=by grind[mem_cons_self,mem_filter]
 have n:dL (e[lq e a]::e.drop (lq e a+1)):=by rw[<-bF d];exact j.sub<|kh _ _
 have l:=k d;generalize e[lq e a]=b at*;rcases bD.1 c with rfl|c;grind
 have:=(bA.1 n).1 x c;(have m:ahead b x=ahead b a:=by unfold ahead;rw[i,h]);rw[m,g]at this;cases this
def dL.Tz(h:dL e)(a:b<=c)(f:c<y e):iZ e[c].key (e[b]'(by omega)).key=bj:=by
 rcases my a with d|d;exact(mQ<|lE<|cJ.1 h b c (by omega) f d).1;subst d;exact fO _
def dL.CE(h:dL e)(a:0<y e)(b:w∈e):iZ (e[y e-1]'(by omega)).key w.key=bj:=by
 obtain⟨i,c,rfl⟩:=dS b;exact h.Tz (by omega)<|by omega
def dL.xe(h:dL e)(a:0<y e)(c:w∈e):iZ w.key (e[0]'a).key=bj:=by
 obtain⟨i,b,rfl⟩:=dS c;exact h.Tz (bH i) b
def yw(b:U)(l s:cI)(k:ae):iy b (l++s) k=(iy b l k).or (iy b s k):=List.find?_append
def qQ{l:cI}(h:∀x∈l,x.key≠v):iy k l v=none:=mB.2<|λx a=>by simp[h x a]
def Am{cs:dK}{k:ae}{i:M}(f:i<y cs)(p:∀x∈cs.flatten,x.key=k->∃q:i<y cs,x∈cs[i])(e:cs.Pairwise gV)(n:U):iy n cs.flatten k=iy n cs[i] k:=by
 have o:cs.flatten=(cs.take i).flatten++(cs[i]++(cs.drop<|i+1).flatten):=by grind[take_append_drop,drop_eq_getElem_cons,flatten_append,flatten_cons]
 have m:∀j(b:j<y cs),j≠i->∀x∈cs[j],x.key≠k:=by intro j b c x d h;obtain⟨_,a⟩:=p x (bB.2 ⟨_,ak b,d⟩) h;rcases Nat.lt_or_gt_of_ne c with g|g;have:=cJ.1 e j i b f g x d x a;rw[fO]at this;cases this;have:=cJ.1 e i j f b g x a x d;rw[fO]at this;cases this
 rw[o,yw,yw,qQ,qQ (l:=(cs.drop<|i+1).flatten)];simp;grind[mem_flatten,getElem_of_mem,getElem_drop]
 grind[mem_flatten,getElem_of_mem,getElem_take]
def nD:M->dK->cS (M×cI)
 |_,[]=>[]
 |n,g::a=>(n,g)::nD (n+y g) a
def ij(a:cS (M×cI)):cI:=(a.map (·.2)).flatten
def Bh:∀(n:M)(a:dK),(nD n a).map (·.2)=a
 |_,[]=>rfl
 |n,g::a=>by rw[nD,bV,Bh]
def Ak(l:cI):ij (nD 0<|ii l)=l:=by unfold ij;rw[Bh,pm]
def xR:∀(b:dK)(k n:M)(a:cS (M×cI))(g:cI),(a++[(n,g)])<+:nD k b->n=k+y (ij a)/\(a.map (·.2)++[g])<+:b
 |[],k,n,a,g,h=>by
  have:=h.length_le;simp[nD]at this
 |g0::b,k,n,a,g,h=>by
  rw[nD]at h;cases a with
  |nil=>
   obtain⟨s,c⟩:=h;simp at c;obtain⟨⟨rfl,rfl⟩,c⟩:=c;exact⟨by simp[ij],by simp⟩
  |cons p a=>
   rw[dl,List.cons_prefix_cons]at h;obtain⟨e,f⟩:=h;obtain⟨c,d⟩:=xR b _ n a g f;subst e;refine⟨?_,?_⟩
   .rw[c];simp[ij];omega
   .simp[d]
structure LZ(l p g s:cI):Prop where
 all:l=p++g++s
 ne:g≠[]
 same:∀x∈g,∀yqq∈g,x.key=yqq.key
 low:gV p g
 uJ:gV g s
def Ij(m:dL e){a:cS (M×cI)}(r:(a++[(b,N)])<+:nD 0 (ii e)):b=y (ij a)/\∃s,LZ e (ij a) N s:=by
 obtain⟨q,t,i⟩:=xR _ _ _ _ _ r;have h:=Bg m;have k:N∈ii e:=by rw[<-i];simp
 have j:=pm e;rw[<-i]at h j;rw[bz]at h;obtain⟨_,n,o⟩:=bQ.1 h;refine⟨by omega,t.flatten,⟨by rw[<-j];simp[ij],CH e N k,xQ e N k,λx d c f=>?_,λx d c f=>?_⟩⟩;obtain⟨l,g,d⟩:=bB.1 d;exact o l g N (by simp) x d c f;obtain⟨l,g,f⟩:=bB.1 f;(have p:(N::t).Pairwise gV:=by simpa using n);exact(bA.1 p).1 l g x d c f
def sR(a:cS (M×cI))(n:M)(g:cI):ij (a++[(n,g)])=ij a++g:=by simp[ij]
def gV.ne(h:gV e N):∀a∈e,∀b∈N,a.key≠b.key:=λa c b d=>oe<|h a c b d
def LZ.Kl{g s:cI}(h:LZ e N g s)(a:cS U):dH a (N++g)=dH a N++dH a g:=BW a N g<|λd b f c=>h.low.ne d (List.mem_of_getLast? b) f<|List.mem_of_head? c
def LZ.bare{g s:cI}(h:LZ e N g s):gK (N++g)=gK N++uv g:=by rw[LI N g h.low.ne,UC h.same]
def Nf(a:cS U)(l:cI)(x:E):∀p:Option E,lN a p (l++[x])=lN a p l++(if pj a ((p.toList++l).getLast?) x then [x]else []):=by
 induction l with
 |nil=>intro p;cases p<;>simp[lN]
 |cons e r b=>
  intro p;rw[dl,qA,qA,b<|H e];have:(p.toList++e::r).getLast?=((H e).toList++r).getLast?:=by grind
  rw[this];split<;>simp
def wanted(a:cS U)(g:cI)(i:M)(h:i<y g):Bool:=decide (i=0)||a.any (λm=>decide (g[i].bL<=m)&&decide (m<(g[i-1]'(by omega)).bL))
def Qj{ms:cS U}(c:∀x∈e,∀a∈e,x.key=a.key)(h:b<y e):dH ms (e.take<|b+1)=dH ms (e.take b)++(if wanted ms e b h then [e[b]]else []):=by
 rw[aj h];unfold dH;rw[Nf];congr 2;simp only[Option.toList_none,de];cases b with
 |zero=>simp[pj,wanted]
 |succ b=>
  have d:(e.take<|b+1).getLast?=H e[b]:=by
   grind
  rw[d];have:=c e[b] (ak _) e[b+1]<|ak _;simp[pj,wanted,this]
def Pe(f:b<=y e)(h:uv e=uv (e.take b))(a:b=0\/∃h:b-1<y e,e[b-1].del=bj):uv e=e.take b:=by
 rw[h];rcases a with rfl|⟨c,d⟩;simp[uv]
 .cases b with
  |zero=>simp[uv]
  |succ b=>
   rw[aj (by omega),FA];grind
def Pf(c:b<y e)(a:e[b].del=cq):uv (e.take<|b+1)=uv (e.take b):=by
 rw[aj c,FA,dW a]
def qF(n:M)(l:cI):Prop:=∀k,y (l.filter<|λx=>decide<|x.key=k)<=n
def qF.sub(h:qF b N)(s:e.Sublist N):qF b e:=λk=>aB (s.filter _).length_le<|h k
def qF.mono(h:qF c e)(a:c<=g):qF g e:=λk=>aB (h k) a
def qF.nil(n:M):qF n []:=λ_=>bH _
def qF.keys(h:qF b e):∀g∈ii e,y g<=b:=by
 intro g c;have d:g.Sublist e:=by have:=cV c;rwa[pm]at this
 cases g with
 |nil=>grind
 |cons f r=>
  have a:=h.sub d f.key;rw[fX.2<|λx c=>by grind[xQ]]at a;exact a
def Kk(c:cS U):∀a:dK,a.Pairwise gV->dH c a.flatten=(a.map<|dH c).flatten:=by
 intro a;induction a with
 |nil=>intro _;rfl
 |cons m a i=>
  intro l;obtain⟨d,e⟩:=bA.1 l;rw[bP,bV,bP,<-i e];refine BW c _ _<|λj f k g=>?_;obtain⟨q,h,b⟩:=bB.1<|List.mem_of_mem_head? g;exact oe<|d q h j (List.mem_of_mem_getLast? f) k b
def xH{a:cS U}(n:dL e):qF (y a+1) (dH a e):=by
 have m:=Bg n;have l:=xQ e;have b:∀g∈ii e,dL g:=λg a=>n.sub (by have:=cV a;rwa[pm]at this);intro r;rw[<-pm e,Kk a _ m];generalize ii e=f at*;induction f with
 |nil=>simp
 |cons g f j=>
  obtain⟨t,u⟩:=bA.1 m;have j:=j u (λq c=>l q<|by simp[c]) (λq c=>b q<|by simp[c]);rw[bV,bP,kS,ag];by_cases A:∃x∈g,x.key=r
  .obtain⟨x,v,w⟩:=A;have s:(f.map<|dH a).flatten.filter (λx=>decide<|x.key=r)=[]:=by
    rw[iE];intro d o;obtain⟨q,c,i⟩:=bB.1 o;obtain⟨p,h,rfl⟩:=bJ.1 c;have:=oe<|t p h x v d<|(jj a p).subset i;grind
   rw[s];have k:=Hs a (b g<|by simp) (l g<|by simp) none (by grind) (λq c=>by cases c);have B:=fQ (λx=>decide<|x.key=r)<|dH a g;have C:y (a.filter<|λ_=>cq)<=y a:=fQ _ _;simp only[ly]at k;have D:y (dH a g)<=y (a.filter<|λ_=>cq)+1:=k;grind
  .have s:(dH a g).filter (λx=>decide<|x.key=r)=[]:=by
    rw[iE];intro d o;simp only[pu];grind[jj]
   rw[s];simpa using j
def uc(L:M):M:=(L+95)/96
def gP(l:cI):dK:=ku (uc<|y l) (y l) 0 0 []<|ii l
def yV(h:e≠[]):0<uc (y e):=by
 have:=gD.2 h;unfold uc;omega
def vi(l:cI):(gP l).flatten=l:=by
 by_cases c:l=[];subst c;rfl;have h:=Mw (n:=uc<|y l) (L:=y l) (yV c) (ii l) 0 0 [] (by rw[pm];simp) (.inl<|yV c)<|λq=>absurd rfl q;rw[pm]at h;simpa[gP]using h
def DF(l:cI):∀p∈gP l,p≠[]:=Jz _ _ _ _<|CH l
def Ba(h:N∈gP e):N.Sublist e:=by
 have:=cV h;rwa[vi]at this
def DE(h:dL e):(gP e).Pairwise gV:=(Mu _ _ _ _ (Bg h)<|λ_ _ x a=>by cases a).1
def PV(h:qF 5 e):∀p∈gP e,y p<=100:=by
 by_cases c:e=[];subst c;intro p a;cases a;(have a:y e<=uc (y e)*96:=by unfold uc;omega);exact Pt (F:=96) (V:=4) (yV c) a (by omega) _ 0 0 [] h.keys (by simp)<|λq=>absurd rfl q
def Cb{ps:dK}(h:∀p∈ps,p≠[]):y ps<=y ps.flatten:=by
 induction ps with
 |nil=>grind
 |cons p r b=>
  have a:=gD.2 (h p<|by simp);have c:=b (λq a=>h q<|by simp[a]);grind
def wJ(l:cI):y (gP l)<=y l:=by
 have:=Cb<|DF l;rwa[vi]at this
def za(l:cI):∀a,(mX a l).Sublist l:=by
 induction l with
 |nil=>intro a;exact List.Sublist.slnil
 |cons e r b=>
  intro a;unfold mX;grind
def TR(b:ae)(a:dK):y (a.map<|fP b).flatten<=y a.flatten:=by
 induction a with
 |nil=>simp
 |cons r a c=>
  have h:y (fP b r)<=y r:=fQ _ _;grind
def VA(h:rk l v=H w):w.key=v:=by
 unfold rk at h;obtain⟨r,_,a⟩:=pD h;have:=vN a;grind
def OI(h:rk l v=H w):w∈l.flatten:=by
 unfold rk at h;obtain⟨r,b,a⟩:=pD h;exact bB.2 ⟨r,b,li a⟩
def QS(h:∀r∈l,r=[])(k:ae):rk l k=none:=by
 cases c:rk l k with
 |none=>rfl
 |some e=>
  obtain⟨r,b,a⟩:=bB.1<|OI c;rw[h r b]at a;cases a
