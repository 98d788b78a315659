import Derived.Test.YtmnlcbeggagabaaGreatDoorC0
open _root_ renaming List.length→y,Option.some→H,Bool.false→bj,Bool.true→ci,Nat→M,Int→U,List→cS
namespace Go.Proofs.YtmnlcbeggagabaaGreatDoor
open ChangeShapes WideShapes RowKit List
set_option maxHeartbeats 16000000
set_option linter.all false
set_option maxRecDepth 100000
variable{b c g:M}{k D:U}{v:ae}{K:Bool}{W:Type}
structure E where
 key:ae
 val:ae
 del:Bool
 bJ:U
abbrev cI:=cS E
abbrev dJ:=cS<|cS E
variable{w:E}
def Zd:E:=⟨⟨#[]⟩,⟨#[]⟩,bj,0⟩
def iX(a b:ae):Bool:=Op.bytesLess a.toList b.toList
def LG:∀(x b:cS UInt8),Op.bytesLess x b=decide (x<b)
 |[],[]=>by simp[Op.bytesLess]
 |_::_,[]=>by simp[Op.bytesLess]
 |[],_::_=>by simp[Op.bytesLess]
 |a::x,c::b=>by
  rw[Op.bytesLess,LG x b];grind[cons_lt_cons_iff]
theorem IP{b:ae}(h:v.toList=b.toList):v=b:=by
 have a:∀x:ae,x.toList=x.data.toList:=λx=>rF x;rw[a,a]at h;cases v;simp_all
theorem fN(a:ae):iX a a=bj:=by
 unfold iX;rw[LG];simp
theorem li{b c:ae}(h:iX v b=ci)(k:iX b c=ci):iX v c=ci:=by
 unfold iX at*;rw[LG]at*;grind
theorem lj{b:ae}(h:iX v b=ci):iX b v=bj:=by
 grind[li,fN]
theorem nR{b:ae}(h:iX v b=bj)(k:iX b v=bj):v=b:=by
 unfold iX at*;rw[LG]at*;grind[IP,List.le_antisymm]
theorem nY{b:ae}(h:iX v b=ci):v≠b:=by
 grind[fN]
def wV{b c:ae}(h:iX b v=bj)(k:iX b c=ci):iX v c=ci:=by
 grind[li,nR]
theorem No{b c:ae}(h:iX v b=ci)(k:iX c b=bj):iX v c=ci:=by
 grind[li,nR]
def QD{b c:ae}(h:iX b v=bj)(k:iX c b=bj):iX c v=bj:=by
 grind[No]
def Ih(a:ae):iX a ⟨#[]⟩=bj:=by
 unfold iX;rw[LG];simp_all
def vW(l:cS E):Prop:=l.Pairwise<|λa b=>iX a.key b.key=ci
def vW.nil:vW []:=List.Pairwise.nil
def vW.tail{l:cS E}(h:vW (w::l)):vW l:=(bA.1 h).2
def vW.head{l:cS E}(h:vW (w::l)):∀b∈l,iX w.key b.key=ci:=(bA.1 h).1
def vW.sub{l m:cS E}(h:vW m)(s:l.Sublist m):vW l:=kV s h
def vW.Pc{l:cS E}(h:vW l){e:E}(c:w∈l)(d:e∈l)(f:w.key=e.key):w=e:=by
 induction l with
 |nil=>cases c
 |cons x r g=>
  rcases bR.1 c with b|b
  .rcases bR.1 d with a|a
   .rw[b,a]
   .rw[b]at f;exact absurd f<|nY<|h.head e a
  .rcases bR.1 d with a|a
   .rw[a]at f;exact absurd f.symm<|nY<|h.head w b
   .exact g h.tail b a
def vW.ext{l m:cS E}(h:vW l)(k:vW m)(g:∀x,x∈l↔x∈m):l=m:=by
 induction l generalizing m with
 |nil=>
  cases m with
  |nil=>rfl
  |cons a r=>exact absurd ((g a).2<|by simp)<|by simp
 |cons x r i=>
  cases m with
  |nil=>exact absurd ((g x).1<|by simp)<|by simp
  |cons a s=>
   have f:x=a:=by
    rcases bR.1 ((g x).1<|by simp)with c|c
    .exact c
    .rcases bR.1 ((g a).2<|by simp)with e|e
     .exact e.symm
     .have n:=k.head x c;have j:=h.head a e;rw[lj n]at j;cases j
   subst f;congr 1;refine i h.tail k.tail<|λb=>⟨λd=>?_,λd=>?_⟩
   .rcases bR.1 ((g b).1<|dC _ d)with rfl|c
    .have:=h.head b d;rw[fN]at this;cases this
    .exact c
   .rcases bR.1 ((g b).2<|dC _ d)with rfl|c
    .have:=k.head b d;rw[fN]at this;cases this
    .exact c
def sF(l:cS E)(e:E):cS E:=l.filter (λx=>iX x.key e.key)++e::l.filter (λx=>iX e.key x.key)
theorem xL{l:cS E}{x:E}:x∈sF l w↔x=w\/(x∈l/\x.key≠w.key):=by
 unfold sF;simp only[aG,dY,bR];constructor;rintro(⟨h,k⟩|h|⟨h,k⟩);exact .inr ⟨h,nY k⟩;exact .inl h;exact .inr ⟨h,λc=>nY k c.symm⟩;grind[nR]
def vW.sF{l:cS E}(h:vW l)(e:E):vW (sF l e):=by
 unfold Go.Proofs.YtmnlcbeggagabaaGreatDoor.sF;refine bP.2 ⟨h.sub eS,bA.2 ⟨?_,h.sub eS⟩,?_⟩;grind
 grind[li]
def gp(l m:cS E):cS E:=m.foldl sF l
def vW.gp{l:cS E}(h:vW l)(m:cS E):vW (gp l m):=by
 induction m generalizing l with
 |nil=>exact h
 |cons e r a=>exact a<|h.sF e
variable{e N:cI}{l:dJ}
def ahead(a b:E):Bool:=iX a.key b.key||(decide (a.key=b.key)&&decide (b.bJ<a.bJ))
theorem jo{b:E}:ahead w b=ci↔iX w.key b.key=ci\/(w.key=b.key/\b.bJ<w.bJ):=by
 unfold ahead;simp
theorem tM{b c:E}(h:ahead w b=ci)(k:ahead b c=ci):ahead w c=ci:=by
 rw[jo]at*;rcases h with h|⟨h,a⟩<;>rcases k with k|⟨k,d⟩;exact .inl<|li h k;rw[<-k];exact .inl h;rw[h];exact .inl k;grind
theorem Av(a:E):ahead a a=bj:=by unfold ahead;simp[fN]
theorem lA{b:E}(h:ahead w b=ci):ahead b w=bj:=by
 grind[tM,Av]
theorem mM{b:E}(h:ahead b w=bj):iX b.key w.key=bj/\(b.key=w.key->b.bJ<=w.bJ):=by
 unfold ahead at h;grind
def Qm{b:E}(h:iX b.key w.key=bj)(k:b.key=w.key->b.bJ<=w.bJ):ahead b w=bj:=by
 unfold ahead;grind
theorem vk{d g:E}(i:ahead d w=bj)(k:ahead g d=bj):ahead g w=bj:=by
 obtain⟨b,e⟩:=mM i;obtain⟨a,f⟩:=mM k;refine Qm (QD b a)<|λh=>?_;have c:d.key=w.key:=by rw[h]at a;exact nR b a
 have:=e c;have:=f<|h.trans c.symm;omega
def lK(a:dJ)(i:M):Option E:=(a[i]?.getD []).head?
def kE(a:dJ):M->Option M
 |0=>none
 |n+1=>match lK a n with
  |none=>kE a n
  |some e=>match kE a n with
   |none=>H n
   |some b=>if ahead e ((lK a b).getD Zd)then H n else H b
theorem Co(h:kE l b=none):∀i,i<b->lK l i=none:=by
 induction b with
 |zero=>grind
 |succ b c=>
  intro i a;unfold kE at h;grind
def tK(h:kE l b=H c):c<b/\∃e,lK l c=H e/\∀i,i<b->∀f,lK l i=H f->ahead f e=bj:=by
 induction b generalizing c with
 |zero=>cases h
 |succ b a=>
  unfold kE at h;grind[Av,Co,vk,lA]
def total(a:dJ):M:=y a.flatten
def wM(h:lK l b=H w):l.flatten.Perm (w::(l.modify b List.tail).flatten):=by
 induction l generalizing b with
 |nil=>simp[lK]at h
 |cons r d c=>
  cases b with
  |zero=>
   cases r with
   |nil=>simp[lK]at h
   |cons x t=>
    simp only[lK,List.getElem?_cons_zero,lP,List.head?_cons,tu]at h;simp_all
  |succ b=>
   have a:lK d b=H w:=by simpa[lK]using h
   simp only[bO,pZ];refine((c a).append_left r).trans ?_;simp_all
def uX(h:lK l b=H w):total l=total (l.modify b List.tail)+1:=by
 have:=(wM h).length_eq;unfold total;rw[this];simp
def Hv:M->dJ->cI
 |0,_=>[]
 |n+1,a=>match kE a (y a)with
  |none=>[]
  |some b=>(lK a b).getD Zd::Hv n (a.modify b List.tail)
def cL(a:dJ):cI:=Hv (total a) a
def wO{hs:dJ}(h:kE hs (y hs)=none):cL hs=[]:=by
 unfold cL;cases e:total hs with
 |zero=>rfl
 |succ n=>unfold Hv;rw[h]
def QT(h:∀i,i<y l->lK l i=none):l.flatten=[]:=by
 induction l with
 |nil=>rfl
 |cons r c b=>
  have a:=h 0 (by simp);cases r with
  |cons x t=>simp[lK]at a
  |nil=>
   simp only[bO,de];exact b (λi a=>by have:=h (i+1) (by simp;omega);simpa[lK]using this)
def wN{hs:dJ}(h:kE hs (y hs)=H b)(a:lK hs b=H w):cL hs=w::cL (hs.modify b List.tail):=by
 unfold cL;rw[uX a];conv=>lhs;unfold Hv
 rw[h];grind
theorem eH(a:dJ):(cL a).Perm a.flatten:=by
 generalize d:total a=n;induction n generalizing a with
 |zero=>
  have:a.flatten=[]:=aP d;unfold cL;rw[d,this];exact List.Perm.nil
 |succ n e=>
  cases hb:kE a (y a)with
  |none=>
   have:=QT<|Co hb;rw[wO hb,this]
  |some b=>
   obtain⟨_,f,c,_⟩:=tK hb;rw[wN hb c];have g:=uX c;exact((e _<|by omega).cons f).trans (wM c).symm
def mT(a:ae):cI->cI
 |[]=>[]
 |e::r=>if e.key=a then mT e.key r else e::mT e.key r
def Yw(b:cI)(x:E):Prop:=x∈b/\∀a∈b,a.key=x.key->a.bJ<=x.bJ
def Yh(a:cI):Prop:=∀b∈a,∀c∈a,b.key=c.key->b.bJ=c.bJ->b=c
def Lh(a:ae)(t:e.Pairwise (λg d=>ahead d g=bj))(n:Yh e)(r:∀x∈e,iX x.key a=bj):vW (mT a e)/\∀x,x∈mT a e↔x.key≠a/\Yw e x:=by
 induction e generalizing a with
 |nil=>exact⟨vW.nil,λx=>by simp[mT,Yw]⟩
 |cons m A u=>
  obtain⟨h,q⟩:=bA.1 t;obtain⟨o,k⟩:=u m.key q (λg a d b=>n g (by simp[a]) d<|by simp[b])<|λx j=>(mM<|h x j).1;unfold mT;split
  .rename_i i;refine⟨o,λx=>(k x).trans ?_⟩;rw[i];constructor
   .rintro⟨g,d,l⟩;refine⟨g,dC _ d,λb c f=>?_⟩;grind
   .rintro⟨g,d,l⟩;refine⟨g,?_,λb c f=>l b (dC _ c) f⟩;grind
  .rename_i i;have s:iX m.key a=bj:=r m (by simp);refine⟨bA.2 ⟨λx j=>?_,o⟩,λx=>?_⟩
   .obtain⟨g,d,_⟩:=(k x).1 j;grind[nR,mM]
   .rw[bR,k];constructor
    .rintro(rfl|⟨g,d,l⟩)
     .refine⟨i,by simp,λb c f=>?_⟩;rcases bR.1 c with rfl|c
      .grind
      .exact(mM<|h b c).2 f
     .refine⟨?_,dC _ d,λb c f=>?_⟩
      .grind[mM,nR]
      grind
    .rintro⟨g,d,l⟩;rcases bR.1 d with rfl|d
     .exact .inl rfl
     .by_cases p:x.key=m.key
      .left;have v:=l m (by simp) p.symm;have w:=(mM<|h x d).2 p;exact n x (by simp[d]) m (by simp) p<|by omega
      .exact .inr ⟨p,d,λb c f=>l b (dC _ c) f⟩
def fO(a:ae)(l:cI):cI:=l.filter<|λe=>!iX e.key a
def Tf:w∈(l.map<|fO v).flatten↔w∈l.flatten/\iX w.key v=bj:=by
 simp only[bB,bM];constructor;rintro⟨c,⟨r,b,rfl⟩,a⟩;unfold fO at a;rw[dY]at a;grind
 rintro⟨⟨r,b,a⟩,h⟩;exact⟨_,⟨r,b,rfl⟩,by unfold fO;rw[dY];grind⟩
def ni(l:cI)(k:ae):Option E:=l.find?<|λe=>decide<|e.key=k
theorem nC(h:vW e):ni e v=H w↔w∈e/\w.key=v:=by
 unfold ni;constructor;grind
 .rintro⟨a,b⟩;cases hf:e.find? (λw=>decide<|w.key=v)with
  |none=>
   rw[mu]at hf;grind
  |some x=>
   have c:=la hf;have d:x.key=v:=by have:=vM hf;grind
   rw[h.Pc c a<|d.trans b.symm]
theorem oH:ni e v=none↔∀a∈e,a.key≠v:=by
 unfold ni;rw[mu];simp
def Re(h:vW e)(a:vW N)(c:∀x,x.key=v->(x∈e↔x∈N)):ni e v=ni N v:=by
 cases hm:ni N v with
 |none=>
  rw[oH]at hm|-;grind
 |some b=>
  rw[nC a]at hm;grind[nC]
def Li(h:vW e)(a:E)(k:ae):ni (sF e a) k=if k=a.key then H a else ni e k:=by
 split;rename_i b;exact(nC<|h.sF a).2 ⟨xL.2<|.inl rfl,b.symm⟩;rename_i b;refine Re (h.sF a) h<|λx c=>?_;rw[xL];grind
def ri(a:dJ)(k:ae):Option E:=a.findSome?<|λr=>ni r k
def xR(k:ae):ri [] k=none:=rfl
def pM(r:cI)(a:dJ)(k:ae):ri (r::a) k=(ni r k).or (ri a k):=by
 unfold ri;rw[List.findSome?_cons];cases ni r k<;>rfl
def vu(a b:dJ)(k:ae):ri (a++b) k=(ri a k).or (ri b k):=by
 induction a with
 |nil=>simp[xR]
 |cons r a c=>rw[dl,pM,pM,c,Option.or_assoc]
def Rc(k:ae):ni [] k=none:=rfl
def Over(r s:cI):Prop:=∀a∈r,∀b∈s,a.key=b.key->b.bJ<a.bJ
def jL(a:dJ):Prop:=a.Pairwise Over
def jL.over(h:jL (e::l)):Over e l.flatten:=by
 intro f b g a c;obtain⟨s,d,a⟩:=bB.1 a;exact(bA.1 h).1 s d f b g a c
def OG(m:∀r∈l,vW r)(k:jL l):ri l v=H w↔Yw l.flatten w/\w.key=v:=by
 induction l with
 |nil=>simp[xR,Yw]
 |cons r l n=>
  have j:=n (λr a=>m r<|by simp[a]) (bA.1 k).2;have h:=k.over;have f:=m r (by simp);rw[pM];cases hf:ni r v with
  |some x=>
   have a:=(nC f).1 hf;simp only[Option.some_or,tu,bO];constructor
   .rintro rfl;refine⟨⟨jR _ a.1,λb d g=>?_⟩,a.2⟩;rcases aG.1 d with d|d
    .rw[f.Pc d a.1 g];grind
    .exact Int.le_of_lt<|h x a.1 b d g.symm
   .rintro⟨⟨c,i⟩,e⟩;rcases aG.1 c with c|c
    .exact f.Pc a.1 c<|a.2.trans e.symm
    .have o:=i x (jR _ a.1)<|a.2.trans e.symm;have p:=h x a.1 w c<|a.2.trans e.symm;omega
  |none=>
   have a:=oH.1 hf;simp only[lO,bO];rw[j];constructor
   .rintro⟨⟨c,i⟩,e⟩;refine⟨⟨kU _ c,λb d g=>?_⟩,e⟩;grind
   .rintro⟨⟨c,i⟩,e⟩;refine⟨⟨?_,λb d g=>i b (kU _ d) g⟩,e⟩;grind
def seen(a:dJ)(k:ae):Option ae:=(ri a k).bind<|λe=>if e.del then none else H e.val
def Qh{a h D:dJ}(A:jL (l++a++D))(w:jL h)(f:∀B∈h.flatten,B∈a.flatten):jL (l++h++D):=by
 obtain⟨r,s,t⟩:=bP.1 A;obtain⟨u,_,v⟩:=bP.1 r;have d:∀g∈h,∀i∈g,∃o∈a,i∈o:=λg e i c=>bB.1<|f i<|bB.2 ⟨g,e,c⟩;refine bP.2 ⟨bP.2 ⟨u,w,?_⟩,s,?_⟩;intro q b g n p j i c m;obtain⟨o,e,k⟩:=d g n i c;exact v q b o e p j i k m;intro q b x n;rcases aG.1 b with b|b;(grind);intro p j i c m;obtain⟨o,e,k⟩:=d q b p j;exact t o (kU _ e) x n p k i c m
def AA(a b D:dJ):Prop:=∀k,ri b k=ri a k\/(ri D k=none/\ri b k=none/\∃e,ri a k=H e/\e.del=ci)
theorem Sw{a b D:dJ}(h:AA a b D)(k:ae):seen (l++b++D) k=seen (l++a++D) k:=by
 unfold seen;rw[vu,vu,vu,vu];rcases h k with h|⟨c,d,g,e,f⟩;rw[h]
 .rw[c,d,e];cases ri l k with
  |some x=>simp
  |none=>simp[f]
def dK(l:cI):Prop:=l.Pairwise<|λa b=>ahead a b=ci
def dK.nil:dK []:=List.Pairwise.nil
def dK.sub(h:dK N)(s:e.Sublist N):dK e:=kV s h
def dK.Mi(h:dK e):e.Pairwise (λa b=>ahead b a=bj):=h.imp<|λh=>lA h
def dK.Pc(m:dK e):Yh e:=by
 induction e with
 |nil=>intro j a;cases a
 |cons k r i=>
  obtain⟨n,d⟩:=bA.1 m;have o:∀x∈r,x.key=k.key->x.bJ=k.bJ->False:=by
   grind[jo,fN]
  intro j a l f g h;rcases bR.1 a with rfl|b<;>rcases bR.1 f with rfl|c
  .rfl
  .grind
  .grind
  .exact i d j b l c g h
structure gJ(l:cI):Prop where
 mh:dK l
 key:∀e∈l,e.key≠⟨#[]⟩
def gJ.nil:gJ []:=⟨dK.nil,λ_ h=>by cases h⟩
def gJ.sub(h:gJ N)(s:e.Sublist N):gJ e:=⟨h.mh.sub s,λb a=>h.key b<|s.subset a⟩
def jO(b:U)(r:cI):cI:=mT ⟨#[]⟩<|r.filter<|λe=>decide<|e.bJ<=b
def OR(h:gJ e)(c:U):vW (jO c e)/\∀x,x∈jO c e↔x∈e/\x.bJ<=c/\∀a∈e,a.key=x.key->a.bJ<=c->a.bJ<=x.bJ:=by
 have d:dK (e.filter<|λa=>decide<|a.bJ<=c):=h.mh.sub eS;obtain⟨s,m⟩:=Lh ⟨#[]⟩ d.Mi d.Pc<|λx _=>Ih x.key;refine⟨s,λx=>?_⟩;unfold jO;rw[m];constructor;rintro⟨_,b,f⟩;grind
 rintro⟨b,g,f⟩;exact⟨h.key x b,dY.2 ⟨b,vY g⟩,λa c d=>f a (dY.1 c).1 d<|tr (dY.1 c).2⟩
theorem mD(h:gJ e)(b:U):vW (jO b e):=(OR h b).1
theorem ji(h:gJ e):w∈jO k e↔w∈e/\w.bJ<=k/\∀a∈e,a.key=w.key->a.bJ<=k->a.bJ<=w.bJ:=(OR h k).2 w
theorem ze(h:gJ e)(a:w∈jO k e):w∈e:=((ji h).1 a).1
def ir(b:U)(r:cI)(k:ae):Option E:=r.find?<|λe=>decide (e.key=k)&&decide (e.bJ<=b)
theorem Cf(i:gJ e)(g:ir k e v=H w):w∈jO k e/\w.key=v:=by
 obtain⟨b,j,l,a,h⟩:=List.find?_eq_some_iff_append.1 g;simp only[lS,po]at b;refine⟨(ji i).2 ⟨by rw[a];simp,b.2,λc f o n=>?_⟩,b.1⟩;rw[a]at f;rcases aG.1 f with q|q;have:=h c q;grind
 rcases bR.1 q with rfl|q;(grind);have d:=i.mh;rw[a]at d;have m:=(bP.1 d).2.1;grind[jo,pairwise_cons,fN]
def Cg(c:ir k e v=none):∀a∈e,a.key=v->¬a.bJ<=k:=by
 intro a b f d;have:=mu.1 c a b;grind
theorem Rg(h:gJ e)(b:U)(k:ae):ir b e k=ni (jO b e) k:=by
 cases hf:ir b e k with
 |some g=>grind[nC,mD,Cf]
 |none=>
  refine(oH.2 λg d f=>?_).symm;obtain⟨a,c,_⟩:=(ji h).1 d;exact Cg hf g a f c
theorem UD(h:gJ e)(f:w∈e)(d:w.bJ<=k):∃a∈jO k e,a.key=w.key/\w.bJ<=a.bJ:=by
 cases hf:ir k e w.key with
 |some a=>
  obtain⟨b,c⟩:=Cf h hf;exact⟨a,b,c,((ji h).1 b).2.2 w f c.symm d⟩
 |none=>exact absurd d<|Cg hf w f rfl
def Over.at(k:Over e N)(c:gJ e)(d:gJ N)(b:U):Over (jO b e) (jO b N):=λx g a h j=>k x (ze c g) a (ze d h) j
def Kg(h:jL l)(b:∀r∈l,gJ r)(f:U):jL (l.map<|jO f):=by
 unfold jL;rw[jX];induction l with
 |nil=>simp_all
 |cons r l e=>
  obtain⟨c,d⟩:=bA.1 h;exact bA.2 ⟨λs a=>(c s a).at (b r<|by simp) (b s<|by simp[a]) f,e d<|λs a=>b s<|by simp[a]⟩
def oZ(a:cS U)(p:Option E)(e:E):Bool:=match p with
 |none=>ci
 |some p=>!decide (p.key=e.key)||a.any (λm=>decide (e.bJ<=m)&&decide (m<p.bJ))
def lJ(a:cS U):Option E->cI->cI
 |_,[]=>[]
 |p,e::r=>if oZ a p e then e::lJ a (H e) r else lJ a (H e) r
def dG(a:cS U)(l:cI):cI:=lJ a none l
def Qj(a:cS U)(l:cI):∀p,(lJ a p l).Sublist l:=by
 induction l with
 |nil=>intro p;exact pD _
 |cons e r b=>
  intro p;unfold lJ;grind
theorem jh(a:cS U)(l:cI):(dG a l).Sublist l:=Qj a l none
def gJ.Kk(h:gJ e)(a:cS U):gJ (dG a e):=h.sub<|jh a e
def Ql{c:cS U}(l:cI):∀p:Option E,dK (p.toList++l)->w∈l->((∀a∈p.toList++l,a.key=w.key->a.bJ<=w.bJ)\/∃m∈c,w.bJ<=m/\∀a∈p.toList++l,a.key=w.key->a.bJ<=m->a.bJ<=w.bJ)->w∈lJ c p l:=by
 induction l with
 |nil=>grind
 |cons x s r=>
  intro p f d b;have h:dK (x::s):=(bP.1 f).2.1;unfold lJ;rcases bR.1 d with rfl|d
  .have g:oZ c p w=ci:=by
    cases p with
    |none=>rfl
    |some q=>
     unfold oZ;by_cases e:q.key=w.key
     .have k:ahead q w=ci:=(bP.1 f).2.2 q (by simp) w (by simp);have n:w.bJ<q.bJ:=by
       grind[jo,fN]
      rcases b with b|⟨m,o,i,j⟩
      .have:=b q (by simp) e;omega
      grind
     .simp[e]
   rw[dV g];simp
  grind
theorem Au(h:gJ e){a:cS U}(j:k∈a\/∀x∈e,x.bJ<=k):jO k (dG a e)=jO k e:=by
 have g:∀x∈jO k e,x∈dG a e:=by intro x b;obtain⟨c,d,f⟩:=(ji h).1 b;refine Ql e none h.mh c ?_;grind
 refine(mD (h.Kk a) k).ext (mD h k) λx=>?_;constructor;intro b;obtain⟨c,d,f⟩:=(ji<|h.Kk a).1 b;have i:=(jh a e).subset c;grind[ji,UD]
 intro b;obtain⟨c,d,f⟩:=(ji h).1 b;exact(ji<|h.Kk a).2 ⟨g x b,d,λc i=>f c<|(jh a e).subset i⟩
def Jv(h:∀r∈l,dK r):∀r∈l.modify b List.tail,dK r:=by
 intro r a;induction l generalizing b with
 |nil=>simp at a
 |cons x d c=>
  cases b with
  |zero=>
   simp only[pY,bR]at a;rcases a with rfl|a
   .exact(h x<|by simp).sub<|List.tail_sublist x
   grind
  |succ b=>
   grind
def Td(m:∀r∈l,dK r)(j:∀i,i<y l->∀f,lK l i=H f->ahead f w=bj):∀x∈l.flatten,ahead x w=bj:=by
 intro x k;obtain⟨r,g,a⟩:=bB.1 k;obtain⟨i,e,rfl⟩:=dR g;have b:=m _ g;cases hc:l[i]with
 |nil=>rw[hc]at a;cases a
 |cons f t=>
  have h:lK l i=H f:=by simp[lK,e,hc]
  have d:=j i e f h;rw[hc]at a b;rcases bR.1 a with rfl|c
  .exact d
  .exact vk d<|lA<|(bA.1 b).1 x c
def BX(a:dJ)(i:∀r∈a,dK r):(cL a).Pairwise (λj c=>ahead c j=bj):=by
 generalize f:total a=n;induction n generalizing a with
 |zero=>unfold cL;rw[f];exact List.Pairwise.nil
 |succ n h=>
  cases hb:kE a (y a)with
  |none=>rw[wO hb];simp_all
  |some c=>
   obtain⟨_,l,b,e⟩:=tK hb;rw[wN hb b];have k:=uX b;refine bA.2 ⟨λx g=>?_,h _ (Jv i)<|by omega⟩;have d:x∈(a.modify c List.tail).flatten:=(eH _).mem_iff.1 g;exact Td i e x<|(wM b).mem_iff.2<|dC _ d
def IW(l:cI):Prop:=l.Pairwise<|λa b=>¬(a.key=b.key/\a.bJ=b.bJ)
def dK.WP(h:dK e):IW e:=h.imp λ{a b}q=>by
 grind[jo,fN]
def zR(b:∀r∈l,dK r)(a:jL l):IW l.flatten:=by
 induction l with
 |nil=>exact List.Pairwise.nil
 |cons r l f=>
  rw[bO];refine bP.2 ⟨(b r<|by simp).WP,f (λs e=>b s<|by simp[e]) (bA.1 a).2,λg c h d q=>?_⟩;have:=a.over g c h d q.1;omega
theorem xX{b:E}(h:ahead b w=bj)(k:¬(w.key=b.key/\w.bJ=b.bJ)):ahead w b=ci:=by
 obtain⟨d,a⟩:=mM h;refine jo.2 ?_;by_cases c:w.key=b.key;have:=a c.symm;grind
 grind[nR]
def oF(a:∀r∈l,dK r)(e:jL l):dK (cL l):=by
 have c:=BX l a;have d:IW (cL l):=((eH l).pairwise_iff<|λ{f b}q c=>q ⟨c.1.symm,c.2.symm⟩).2<|zR a e;exact List.Pairwise.imp₂ (λf b q k=>xX q k) c d
def ny(a:∀r∈l,gJ r)(e:jL l):gJ (cL l):=by
 refine⟨oF (λr h=>(a r h).mh) e,λf d=>?_⟩;obtain⟨r,b,c⟩:=bB.1<|(eH l).mem_iff.1 d;exact(a r b).key f c
theorem wQ(d:∀r∈l,gJ r)(j:jL l):w∈jO k (cL l)↔ri (l.map<|jO k) w.key=H w:=by
 have i:=ny d j;have b:∀a,a∈cL l↔∃r∈l,a∈r:=λa=>((eH l).mem_iff).trans bB;rw[OG (λr h=>by grind[mD])<|Kg j d k];constructor;intro n;obtain⟨e,h,m⟩:=(ji i).1 n;obtain⟨r,c,f⟩:=(b w).1 e;refine⟨⟨bB.2 ⟨_,bM.2 ⟨r,c,rfl⟩,(ji<|d r c).2 ⟨f,h,λa g=>m a<|(b a).2 ⟨r,c,g⟩⟩⟩,λa g o=>?_⟩,rfl⟩;grind[mem_flatten,ji]
 rintro⟨⟨e,h⟩,_⟩;obtain⟨s,p,c⟩:=bB.1 e;obtain⟨t,f,rfl⟩:=bM.1 p;obtain⟨m,n,_⟩:=(ji<|d t f).1 c;refine(ji i).2 ⟨(b w).2 ⟨t,f,m⟩,n,λa g o q=>?_⟩;grind[UD,mem_flatten]
def gI:cI->cI
 |[]=>[]
 |e::r=>if e.del&&!((gI r).any λa=>decide<|a.key=e.key)then gI r else e::gI r
theorem kh(l:cI):(gI l).Sublist l:=by
 induction l with
 |nil=>exact pD _
 |cons e r a=>
  unfold gI;grind
def Gb(i:dK e):w∈gI e↔w∈e/\(w.del=bj\/∃a∈e,a.key=w.key/\a.bJ<w.bJ/\a.del=bj):=by
 induction e generalizing w with
 |nil=>simp[gI]
 |cons c r f=>
  obtain⟨j,d⟩:=bA.1 i;have h:∀a∈r,a.key=c.key->a.bJ<c.bJ:=λa d b=>by
   grind[jo,fN]
  have k:∀{w:E},w∈r->(w.del=bj\/∃a∈c::r,a.key=w.key/\a.bJ<w.bJ/\a.del=bj)->w∈gI r:=by
   intro w b g;refine(f d).2 ⟨b,g.imp_right ?_⟩;grind
  have l:∀{w:E},w∈gI r->w∈c::r/\(w.del=bj\/∃a∈c::r,a.key=w.key/\a.bJ<w.bJ/\a.del=bj):=by
   intro w b;obtain⟨g,m⟩:=(f d).1 b;grind
  unfold gI;grind
theorem gJ.bare(h:gJ e):gJ (gI e):=h.sub<|kh e
def Np(h:gJ e)(s:∀p,ri l p=none)(o:U):AA [jO o e] [jO o<|gI e] l:=by
 intro p;simp only[pM,xR,sh];cases hf:ni (jO o e) p with
 |none=>
  grind[oH,ji,gJ.bare,UD,kh]
 |some b=>
  obtain⟨t,m⟩:=(nC<|mD h o).1 hf;obtain⟨j,A,r⟩:=(ji h).1 t;by_cases k:b∈gI e
  .grind[nC,mD,gJ.bare,ji,kh]
  .right;have n:¬(b.del=bj\/∃a∈e,a.key=b.key/\a.bJ<b.bJ/\a.del=bj):=λc=>k<|(Gb h.mh).2 ⟨j,c⟩;refine⟨s p,oH.2 λx v a=>?_,b,rfl,by grind⟩;obtain⟨g,q,_⟩:=(ji h.bare).1 v;obtain⟨i,w⟩:=(Gb h.mh).1 g;have d:=r x i (a.trans m.symm) q;have f:x≠b:=λc=>k<|c▸g;have u:x.bJ<b.bJ:=by
    rcases Int.lt_or_eq_of_le d with c|c
    .exact c
    .exact absurd (h.mh.Pc x i b j (a.trans m.symm) c) f
   grind
def lw(l:cI)(e:E):cI:=l.filter (λx=>ahead x e)++e::l.filter (λx=>ahead e x)
theorem lX{x:E}:x∈lw e w↔x=w\/(x∈e/\¬(x.key=w.key/\x.bJ=w.bJ)):=by
 unfold lw;simp only[aG,bR,dY];grind[jo,fN,xX]
def dK.lw(h:dK e)(c:E):dK (lw e c):=by
 unfold Go.Proofs.YtmnlcbeggagabaaGreatDoor.lw;refine bP.2 ⟨h.sub eS,bA.2 ⟨λx b=>(dY.1 b).2,h.sub eS⟩,λg a i f=>?_⟩;have d:=(dY.1 a).2;grind[tM]
def gJ.lw(h:gJ e)(a:w.key≠⟨#[]⟩):gJ (lw e w):=by
 refine⟨h.mh.lw w,λx b=>?_⟩;rcases lX.1 b with rfl|⟨c,_⟩;exact a;exact h.key x c
def LJ(h:gJ e)(a:w.key≠⟨#[]⟩)(b:k<w.bJ):jO k (lw e w)=jO k e:=by
 refine(mD (h.lw a) k).ext (mD h k) λx=>?_;rw[ji<|h.lw a,ji h];grind[lX]
def LK(j:gJ e)(i:w.key≠⟨#[]⟩){b:U}(h:w.bJ<=b)(k:∀x∈e,x.key=w.key->x.bJ<=w.bJ):jO b (lw e w)=sF (jO b e) w:=by
 refine(mD (j.lw i) b).ext ((mD j b).sF w) λx=>?_;rw[ji<|j.lw i,xL,ji j];constructor;rintro⟨g,l,m⟩;rcases lX.1 g with rfl|⟨g,q⟩;exact .inl rfl;by_cases a:x.key=w.key;(have c:=m w (lX.2<|.inl rfl) a.symm h;have d:=k x g a;grind);grind[lX]
 rintro(rfl|⟨⟨g,l,m⟩,a⟩);(refine⟨lX.2<|.inl rfl,h,λf c d _=>?_⟩;rcases lX.1 c with rfl|⟨g,_⟩;(grind);grind);refine⟨lX.2<|.inr ⟨g,λo=>a o.1⟩,l,λf c d p=>?_⟩;rcases lX.1 c with rfl|⟨n,_⟩;(grind);grind
def fB(l m:cI):cI:=m.foldl lw l
def gJ.fB(h:gJ e)(a:∀b∈N,b.key≠⟨#[]⟩):gJ (fB e N):=by
 induction N generalizing e with
 |nil=>exact h
 |cons b r d=>exact d (h.lw<|a b<|by simp)<|λx c=>a x<|by simp[c]
theorem wP(a:w∈fB e N):w∈e\/w∈N:=by
 induction N generalizing e with
 |nil=>exact .inl a
 |cons c r b=>
  rcases b a with q|q
  .grind[lX]
  grind
def Og(i:gJ e)(f:∀b∈N,b.key≠⟨#[]⟩)(c:∀b∈N,b.bJ=k)(g:D<k):jO D (fB e N)=jO D e:=by
 induction N generalizing e with
 |nil=>rfl
 |cons b r h=>
  have d:=f b (by simp);exact(h (i.lw d) (λx a=>f x<|by simp[a])<|λx a=>c x<|by simp[a]).trans<|LJ i d (by rw[c b<|by simp];exact g)
def Oh(l:gJ e)(f:∀b∈N,b.key≠⟨#[]⟩)(c:∀b∈N,b.bJ=k)(m:k<=D)(i:∀x∈e,x.bJ<=k):jO D (fB e N)=gp (jO D e) N:=by
 induction N generalizing e with
 |nil=>rfl
 |cons b r j=>
  have d:=f b (by simp);have n:=c b (by simp);have g:=j (l.lw d) (λx a=>f x<|by simp[a]) (λx a=>c x<|by simp[a]) (λx a=>by
   grind[lX])
  have h:=LK l d (b:=D) (by omega) (λx a _=>by have:=i x a;omega);exact g.trans (by rw[h];rfl)
theorem OT(h:gJ e)(a:∀x∈e,x.bJ<=k)(b:k<=D):jO D e=jO k e:=by
 refine(mD h D).ext (mD h k) λx=>?_;rw[ji h,ji h];grind
def sM(e:E):dJ->dJ
 |(x::g)::a=>if x.key=e.key then(e::x::g)::a else [e]::(x::g)::a
 |a=>[e]::a
def ic:cI->dJ
 |[]=>[]
 |e::r=>sM e<|ic r
def CG(l:cI):∀g∈ic l,g≠[]:=by
 induction l with
 |nil=>intro g a;cases a
 |cons e r b=>
  intro g a;unfold ic sM at a;grind
def pa(l:cI):(ic l).flatten=l:=by
 induction l with
 |nil=>rfl
 |cons e r a=>
  unfold ic sM;grind
theorem xP(l:cI):∀g∈ic l,∀x∈g,∀a∈g,x.key=a.key:=by
 induction l with
 |nil=>intro g b;cases b
 |cons e r d=>
  intro g b;have c:∀x∈[e],∀a∈[e],x.key=a.key:=by simp
  unfold ic sM at b;grind
def Gi(e:E)(r:cI):∃g a,ic (e::r)=(e::g)::a:=by
 unfold ic sM;split;split;(grind);grind
 grind
def Ij(e:E)(a b:dJ)(h:a≠[]):sM e (a++b)=sM e a++b:=by
 cases a with
 |nil=>grind
 |cons g a=>
  cases g with
  |nil=>rfl
  |cons x g=>
   simp only[dl,sM];split<;>rfl
def KM(p s:cI)(h:∀c∈p.getLast?,∀b∈s.head?,c.key≠b.key):ic (p++s)=ic p++ic s:=by
 induction p with
 |nil=>rfl
 |cons e r g=>
  cases r with
  |nil=>
   cases s with
   |nil=>rfl
   |cons b s=>
    have f:e.key≠b.key:=h e (by simp) b (by simp);obtain⟨i,d,a⟩:=Gi b s;show sM e (ic<|b::s)=[[e]]++ic (b::s);rw[a];simp only[sM];rw[eI<|λc=>f c.symm];rfl
  |cons x r=>
   have:=g<|λc a b d=>h c (by simpa using a) b d;show sM e (ic<|(x::r)++s)=sM e (ic<|x::r)++ic s;rw[this,Ij];obtain⟨i,d,a⟩:=Gi x r;rw[a];simp
def Tx(h:e≠[])(b:∀x∈e,∀a∈e,x.key=a.key):ic e=[e]:=by
 induction e with
 |nil=>grind
 |cons d r c=>
  cases r with
  |nil=>rfl
  |cons x r=>
   have:=c (by simp) (λd f e g=>b d (by grind) e<|by grind);show sM d (ic<|x::r)=_;rw[this];simp only[sM];rw[dV<|b x (by simp) d<|by simp]
theorem qz(a:cS U)(p:Option E)(e:E)(r:cI):lJ a p (e::r)=if oZ a p e then e::lJ a (H e) r else lJ a (H e) r:=rfl
def zd(e:E)(r:cI):gI (e::r)=if e.del&&!((gI r).any λa=>decide<|a.key=e.key)then gI r else e::gI r:=rfl
def Hs(a:cS U)(l s:cI):∀p:Option E,(∀c,(p.toList++l).getLast?=H c->∀b∈s.head?,c.key≠b.key)->lJ a p (l++s)=lJ a p l++lJ a none s:=by
 induction l with
 |nil=>
  intro p h;cases s with
  |nil=>rfl
  |cons b s=>
   cases p with
   |none=>rfl
   |some q=>
    have f:q.key≠b.key:=h q (by simp) b (by simp);show lJ a (H q) (b::s)=lJ a none (b::s);have d:oZ a (H q) b=ci:=by simp[oZ,f]
    have e:oZ a none b=ci:=rfl;rw[qz,qz,dV d,dV e]
 |cons i r g=>
  intro p h;have:=g (H i) (λc a b d=>h c (by
   grind) b d)
  grind[qz]
def BV(a:cS U)(l s:cI)(h:∀b∈l.getLast?,∀d∈s.head?,b.key≠d.key):dG a (l++s)=dG a l++dG a s:=Hs a l s none<|λb c=>h b<|by simpa using c
def LH(l s:cI)(h:∀a∈l,∀f∈s,a.key≠f.key):gI (l++s)=gI l++gI s:=by
 induction l with
 |nil=>rfl
 |cons e r d=>
  have b:=d (λa c=>h a<|by simp[c]);show gI (e::(r++s))=_;rw[zd,zd,b,List.any_append];have c:((gI s).any λa=>decide<|a.key=e.key)=bj:=by
   rw[List.any_eq_false];grind[kh]
  rw[c,Bool.or_false];split<;>rfl
def uu(g:cI):cI:=(g.reverse.dropWhile<|λe=>e.del).reverse
def Fz(g:cI)(e:E):uu (g++[e])=if e.del then uu g else g++[e]:=by
 unfold uu;simp only[List.reverse_append,tw,List.reverse_nil,de,ju,List.dropWhile_cons];split<;>simp
def Pf(e:E)(g:cI):uu (e::g)=if uu g=[]then(if e.del then []else [e])else e::uu g:=by
 unfold uu;rw[tw,List.dropWhile_append];cases hq:g.reverse.dropWhile (λe=>e.del)with
 |nil=>
  simp[List.dropWhile_cons];split<;>simp_all
 |cons x r=>simp
def UB(d:∀x∈e,∀a∈e,x.key=a.key):gI e=uu e:=by
 induction e with
 |nil=>rfl
 |cons f r g=>
  have c:=g (λe a f b=>d e (by simp[a]) f<|by simp[b]);rw[zd,c,Pf];have b:∀a∈uu r,a.key=f.key:=λa e=>d a (by rw[<-c]at e;simp[(kh r).subset e]) f (by simp);cases ht:uu r with
  |nil=>simp
  |cons x t=>
   have:x.key=f.key:=b x (by rw[ht];simp);simp[this]
def Do{b:cS U}(h:gJ e)(a:∀c∈N,c.key≠⟨#[]⟩)(d:∀c∈N,c.bJ=k+1)(f:D∈b)(g:D<=k):(dG b (fB e N)::l).map (jO D)=(e::l).map (jO D):=by
 simp only[cr];rw[Au (h.fB a)<|.inl f,Og h a d<|by omega]
def wB{rest:dJ}{ms:cS U}(h:gJ e)(i:∀r∈rest,gJ r)(a:∀c∈N,c.key≠⟨#[]⟩)(f:∀c∈N,c.bJ=k+1)(b:∀x∈e,x.bJ<=k)(g:∀r∈rest,∀x∈r,x.bJ<=k):(dG ms (fB e N)::rest).map (jO<|k+1)=gp (jO k e) N::rest.map (jO k):=by
 simp only[cr];have d:∀x∈fB e N,x.bJ<=k+1:=by grind[wP]
 rw[Au (h.fB a)<|.inr d,Oh h a f (Int.le_refl _) (λx e=>by have:=b x e;omega),OT h b<|by omega];grind[map_congr_left,OT]
def Hi{a:cS U}(h:gJ e)(b:k∈a\/∀x∈e,x.bJ<=k):(dG a e::l).map (jO k)=(e::l).map (jO k):=by
 grind[Au]
def QP(d:∀r∈l,gJ r)(c:jL l)(b:U)(k:ae):ri [jO b<|cL l] k=ri (l.map<|jO b) k:=by
 have f:∀r∈l.map (jO b),vW r:=λr h=>by grind[mD]
 have a:∀k e,ri (l.map<|jO b) k=H e->e.key=k:=λk e q=>((OG f<|Kg c d b).1 q).2;rw[pM,xR,sh];have g:=ny d c;cases hf:ri (l.map<|jO b) k with
 |some e=>
  have:=a k e hf;grind[nC,mD,wQ]
 |none=>
  grind[oH,wQ]
def gK(b:cS U)(a:Bool)(c:dJ):cI:=if a then gI (dG b<|cL c)else dG b (cL c)
def yV(c:cS U)(a:Bool)(b:dJ):∀x∈gK c a b,x∈b.flatten:=by
 intro x d;have e:x∈dG c (cL b):=by unfold gK at d;grind[kh]
 grind[eH,jh]
def DS(d:∀r∈l,gJ r)(c:jL l)(b:cS U)(a:Bool):gJ (gK b a l):=by
 unfold gK;split;exact((ny d c).Kk b).bare;exact(ny d c).Kk b
def zT{D:dJ}(e:∀r∈l,gJ r)(d:jL l){a:cS U}(i:k∈a\/∀x∈l.flatten,x.bJ<=k)(h:K=ci->∀f,ri (D.map<|jO k) f=none):AA (l.map<|jO k) [jO k<|gK a K l] (D.map<|jO k):=by
 have c:=ny e d;have b:k∈a\/∀x∈cL l,x.bJ<=k:=i.imp_right λq x c=>q x<|(eH l).mem_iff.1 c;have g:jO k (dG a<|cL l)=jO k (cL l):=Au c b;intro f;rw[<-QP e d k f,<-g];unfold gK;cases K with
 |false=>exact .inl rfl
 |true=>exact Np (c.Kk a) (h rfl) k f
def Bx(h:gJ (e++N))(l:∀k∈e,∀b∈N,k.key≠b.key)(b:U):jO b (e++N)=jO b e++jO b N:=by
 have c:gJ e:=h.sub<|oh _ _;have d:gJ N:=h.sub<|gO _ _;have a:vW (jO b e++jO b N):=by refine bP.2 ⟨mD c b,mD d b,λx g f i=>?_⟩;rcases jo.1 ((bP.1 h.mh).2.2 x (ze c g) f<|ze d i)with j|⟨j,_⟩;exact j;grind[ze]
 refine(mD h b).ext a λx=>?_;rw[aG,ji h,ji c,ji d];grind
def VP(g:∀r∈l,gJ r)(e:jL l)(b:ae)(j:U):∀x,x∈mT ⟨#[]⟩ ((cL<|l.map<|fO b).filter<|λk=>decide<|k.bJ<=j)↔ri (l.map<|jO j) x.key=H x/\iX x.key b=bj:=by
 have c:∀r∈l.map (fO b),∃s∈l,r=fO b s:=λr o=>by grind
 have h:∀r∈l.map (fO b),gJ r:=λr o=>by obtain⟨s,m,rfl⟩:=c r o;exact(g s m).sub eS
 have f:jL (l.map<|fO b):=by unfold jL;rw[jX];exact e.imp λ{r s}q x b a c k=>q x (dY.1 b).1 a (dY.1 c).1 k
 intro x;have n:=ny h f;have d:=ny g e;have i:∀a,a∈cL (l.map<|fO b)↔a∈cL l/\iX a.key b=bj:=λa=>((eH _).mem_iff.trans Tf).trans<|and_congr_left λ_=>(eH l).mem_iff.symm;show x∈jO j (cL<|l.map<|fO b)↔_;rw[<-wQ g e,ji n,ji d];grind
def gS(g h:cI):Prop:=∀x∈g,∀a∈h,iX x.key a.key=ci
def Bf(u:dK e):(ic e).Pairwise gS:=by
 induction e with
 |nil=>exact List.Pairwise.nil
 |cons t r b=>
  obtain⟨n,o⟩:=bA.1 u;have b:=b o;unfold ic sM;split
  .rename_i x j g f;have h:(x::j)++g.flatten=r:=by have:=pa r;rw[f]at this;grind
   have a:∀b∈x::j,b.key=x.key:=λb c=>xP r (x::j) (by rw[f];simp) b c x (by simp);rw[f]at b;split
   .rename_i i;obtain⟨l,p⟩:=bA.1 b;refine bA.2 ⟨λs c q k m d=>?_,p⟩;have:=l s c x (by simp) m d;grind
   .rename_i i;refine bA.2 ⟨λs c q k m d=>?_,b⟩;rw[dA.1 k];have l:iX t.key x.key=ci:=by
     rcases jo.1 (n x (by rw[<-h];simp))with p|⟨p,_⟩
     .exact p
     grind
    rcases bR.1 c with rfl|c
    .rw[a m d];exact l
    .exact li l<|(bA.1 b).1 s c x (by simp) m d
  .rename_i g f;have a:ic r=[]:=by
    cases i:ic r with
    |nil=>rfl
    |cons j g=>
     cases j with
     |nil=>exact absurd rfl<|CG r [] (by rw[i];simp)
     |cons x j=>grind
   rw[a];grind
def kp(n L:M):M->M->cI->dJ->dJ
 |_,_,_,[]=>[]
 |k,b,a,g::c=>
  if(k+1)*L/n<=b+y g then(a++g)::kp n L (k+1) (b+y g) [] c
  else kp n L k (b+y g) (a++g) c
theorem oP(n L k b:M)(a g:cI)(c:dJ):kp n L k b a (g::c)=if(k+1)*L/n<=b+y g then(a++g)::kp n L (k+1) (b+y g) [] c else kp n L k (b+y g) (a++g) c:=rfl
def Mu{n L:M}(i:0<n):∀(c:dJ)(k d:M)(a:cI),d+y c.flatten=L->(k<n\/(c.flatten=[]/\a=[]))->(a≠[]->d<(k+1)*L/n)->(kp n L k d a c).flatten=a++c.flatten:=by
 intro c;induction c with
 |nil=>
  intro k d a f b g;have:a=[]:=by
   rcases b with b|b
   .by_cases e:a=[]
    .exact e
    .have:=g e;have h:(k+1)*L/n<=L:=Nat.div_le_of_le_mul<|jQ L b;grind
   .exact b.2
  rw[this];rfl
 |cons m c j=>
  intro k d a f b g;simp only[bO,ag]at f b;rw[oP];split
  .rename_i e;rw[bO,j (k+1) (d+y m) [] (by omega) ?_<|λq=>absurd rfl q]
   .simp
   .rcases b with b|b
    .by_cases h:k+1<n
     .exact .inl h
     .have l:k+1=n:=by omega
      rw[l,Nat.mul_div_cancel_left L i]at e;exact .inr ⟨aP (by omega),rfl⟩
    grind[append_eq_nil_iff]
  grind[append_eq_nil_iff]
def Jy:∀(d:dJ)(k e:M)(a:cI),(∀g∈d,g≠[])->∀p∈kp b c k e a d,p≠[]:=by
 intro d;induction d with
 |nil=>intro k e a _ p f;cases f
 |cons g d h=>
  grind[oP,append_eq_nil_iff]
def Ps{n L F V:M}(l:0<n)(hF:L<=n*F)(h:0<F):∀(c:dJ)(k e:M)(a:cI),(∀g∈c,y g<=V+1)->k*L/n+y a<=e->(a≠[]->e<(k+1)*L/n)->∀p∈kp n L k e a c,y p<=F+V:=by
 intro c;induction c with
 |nil=>intro k e a _ _ _ p b;cases b
 |cons g c r=>
  intro k e a i m o p b;have j:=i g (by simp);have f:(k+1)*L/n<=k*L/n+F:=by
   have:(k+1)*L<=k*L+n*F:=by rw[wb,Nat.one_mul];omega
   exact aB (Nat.div_le_div_right this)<|Nat.le_of_eq<|Nat.add_mul_div_left _ _ l
  rw[oP]at b;split at b
  .rename_i q;rcases bR.1 b with rfl|b
   .rw[ag];by_cases d:a=[]
    .rw[d];simp;omega
    grind
   grind
  grind
def Mt:∀(f:dJ)(m g:M)(a:cI),f.Pairwise gS->(∀n∈f,gS a n)->(kp b c m g a f).Pairwise gS/\∀A∈kp b c m g a f,∀x∈A,x∈a\/x∈f.flatten:=by
 intro f;induction f with
 |nil=>intro m g a _ _;exact⟨List.Pairwise.nil,λA j=>by cases j⟩
 |cons n f t=>
  intro m g a j p;obtain⟨u,v⟩:=bA.1 j;rw[oP];split
  .obtain⟨r,s⟩:=t (m+1) (g+y n) [] v (λ_ _ x e=>by cases e);refine⟨bA.2 ⟨λq w x e d k=>?_,r⟩,λA j x e=>?_⟩
   .have l:d∈f.flatten:=(s q w d k).resolve_left (by simp);obtain⟨o,h,i⟩:=bB.1 l;rcases aG.1 e with e|e
    .exact p o (by simp[h]) x e d i
    .exact u o h x e d i
   grind
  .obtain⟨r,s⟩:=t m (g+y n) (a++n) v (λo h x e d k=>by
    rcases aG.1 e with e|e
    .exact p o (by simp[h]) x e d k
    .exact u o h x e d k)
   grind
def Hr(a:cS U)(n:dK e)(j:∀x∈e,∀g∈e,x.key=g.key):∀p:Option E,dK (p.toList++e)->(∀q∈p,∀x∈e,q.key=x.key)->y (lJ a p e)<=y (a.filter (λm=>match p with|none=>ci|some q=>decide<|m<q.bJ))+(if p=none then 1 else 0):=by
 induction e with
 |nil=>intro p _ _;simp[lJ]
 |cons c r f=>
  intro p k d;have f:=f (n.sub<|List.sublist_cons_self _ _) (λb a d h=>j b (by simp[a]) d<|by simp[h]) (H c) n (λq e x i=>by grind);simp only[reduceCtorEq,nj,lq]at f;rw[qz];cases p with
  |none=>
   have b:oZ a none c=ci:=rfl;rw[dV b];simp only[aW,lk];grind[filter_eq_self,length_filter_le,Nat.succ_le_succ,Nat.le_trans]
  |some q=>
   have h:c.bJ<q.bJ:=by
    rcases jo.1 ((bP.1 k).2.2 q (by simp) c<|by simp)with i|⟨_,i⟩
    .rw[d q rfl c (by simp),fN]at i;cases i
    .exact i
   have l:y (lJ a (H c) r)<=y (a.filter<|λm=>decide<|m<c.bJ):=f;simp only[reduceCtorEq,nj,lq];show _<=y (a.filter<|λm=>decide<|m<q.bJ);have b:∀a:cS U,y (a.filter<|λm=>decide<|m<c.bJ)+y (a.filter<|λm=>decide (c.bJ<=m)&&decide (m<q.bJ))=y (a.filter<|λm=>decide<|m<q.bJ):=by
    intro a;induction a with
    |nil=>rfl
    |cons m a i=>
     grind
   have o:=b a;split
   .rename_i i;simp only[oZ,d q rfl c (by simp),qR,qI,yj]at i;have:0<y (a.filter<|λm=>decide (c.bJ<=m)&&decide (m<q.bJ)):=by
     simp_all
    grind
   .omega
def Up{l:cS W}{p:W->Bool}(h:l.Pairwise (λa b=>p b=ci->p a=ci)):l.take (l.countP p)=l.filter p/\l.drop (l.countP p)=l.filter (λx=>!p x):=by
 induction l with
 |nil=>simp
 |cons x r e=>
  obtain⟨c,d⟩:=bA.1 h;grind
def lh(l:cI)(e:E):M:=l.countP<|λx=>ahead x e
def Hm(l:cI)(e:E):lh l e<=y l:=List.countP_le_length
def dK.cut(h:dK e)(a:E):e.take (lh e a)=e.filter (λx=>ahead x a)/\e.drop (lh e a)=e.filter (λx=>!ahead x a):=Up<|h.imp λ{_ _}q c=>tM q c
def dK.mono(h:dK e){i j:M}(a:i<=j)(c:j<y e)(d:ahead e[j] w=ci):ahead (e[i]'(by omega)) w=ci:=by
 rcases mq a with g|g;exact tM (cJ.1 h i j (by omega) c g) d;grind
def Vi(f:b<=y e)(c:∀t(a:t<y e),t<b->ahead e[t] w=ci)(d:∀t(a:t<y e),b<=t->ahead e[t] w=bj):lh e w=b:=by
 unfold lh;rw[<-bX b e,List.countP_append];have g:(e.take b).countP (λx=>ahead x w)=b:=by rw[List.countP_eq_length.2];simp;omega;grind[getElem_of_mem]
 grind[countP_eq_zero,getElem_of_mem]
def Nw(l:dK e)(k v:ae)(f:Bool)(b:U):ir b e k=if c:∃a:lh e ⟨k,v,f,b⟩<y e,e[lh e ⟨k,v,f,b⟩].key=k then H (e[lh e ⟨k,v,f,b⟩]'c.1)else none:=by
 induction e with
 |nil=>simp[ir]
 |cons x r d=>
  obtain⟨m,h⟩:=bA.1 l;have d:=d h;unfold ir at d|-;cases ha:ahead x ⟨k,v,f,b⟩with
  |true=>
   have a:lh (x::r) ⟨k,v,f,b⟩=lh r ⟨k,v,f,b⟩+1:=List.countP_cons_of_pos (p:=λx=>ahead x ⟨k,v,f,b⟩) ha;have g:(decide (x.key=k)&&decide (x.bJ<=b))=bj:=by
    grind[jo,nY]
   rw[List.find?_cons_of_neg (by simpa using g),d];simp[a]
  |false=>
   have a:lh (x::r) ⟨k,v,f,b⟩=0:=by
    refine List.countP_eq_zero.2 λj n=>?_;grind[vk,lA]
   obtain⟨o,i⟩:=mM ha;by_cases g:x.key=k
   .have j:=i g;rw[List.find?_cons_of_pos<|by grind];simp[a,g]
   grind[nR,jo,lj,find?_eq_none]
def PT(h:dK e)(a v:ae)(d:Bool)(b:∀x∈e,x.bJ<=k):e.drop (lh e ⟨a,v,d,k⟩)=fO a e:=by
 rw[(h.cut _).2];refine tz λx c=>?_;congr 1;rw[vN,jo];grind
def OZ(h:dK e)(a:E)(b:lh e a<y e)(f:e[lh e a].key=a.key)(c:e[lh e a].bJ=a.bJ):e.set (lh e a) a=lw e a:=by
 unfold lw;rw[gV,dV b,(h.cut a).1];congr 2;have d:=(h.cut a).2;rw[bD b]at d;have j:dK (e[lh e a]::e.drop (lh e a+1)):=by rw[<-bD b];exact h.sub<|jZ _ _
 have l:=(bA.1 j).1;have i:ahead a e[lh e a]=bj:=by unfold ahead;simp[f,c,fN]
 have m:∀b,ahead e[lh e a] b=ahead a b:=λb=>by unfold ahead;rw[f,c]
 generalize e[lh e a]=k at*;have g:e.filter (λx=>ahead a x)=(e.filter<|λx=>!ahead x a).filter (λx=>ahead a x):=by rw[List.filter_filter];grind[filter_congr,lA]
 rw[g,<-d,fh (by simp[i]),fW.2];grind
def Pb(h:dK e)(a:E)(b:∀x∈e,¬(x.key=a.key/\x.bJ=a.bJ)):e.take (lh e a)++a::e.drop (lh e a)=lw e a:=by
 unfold lw;rw[(h.cut a).1,(h.cut a).2];grind[filter_congr,lA,xX]
def dK.Xr(j:dK e)(a:E)(k:∀d:lh e a<y e,¬(e[lh e a].key=a.key/\e[lh e a].bJ=a.bJ)):∀x∈e,¬(x.key=a.key/\x.bJ=a.bJ):=by
 rintro x o⟨i,h⟩;have f:ahead x a=bj:=by unfold ahead;simp[i,h,fN]
 have c:x∈e.drop (lh e a):=by rw[(j.cut a).2];simp[o,f]
 have d:lh e a<y e:=by grind[Nat.lt_or_ge,drop_eq_nil_of_le]
 have p:=(j.cut a).2;rw[bD d]at c p;have g:ahead e[lh e a] a=bj:=by grind[mem_cons_self]
 have n:dK (e[lh e a]::e.drop (lh e a+1)):=by rw[<-bD d];exact j.sub<|jZ _ _
 have l:=k d;generalize e[lh e a]=b at*;rcases bR.1 c with rfl|c;grind
 have:=(bA.1 n).1 x c;(have m:ahead b x=ahead b a:=by unfold ahead;rw[i,h]);rw[m,g]at this;cases this
def dK.Ty(h:dK e)(a:b<=c)(f:c<y e):iX e[c].key (e[b]'(by omega)).key=bj:=by
 rcases mq a with d|d;exact(mM<|lA<|cJ.1 h b c (by omega) f d).1;subst d;exact fN _
def dK.CD(h:dK e)(a:0<y e)(b:w∈e):iX (e[y e-1]'(by omega)).key w.key=bj:=by
 obtain⟨i,c,rfl⟩:=dR b;exact h.Ty (by omega)<|by omega
def dK.wZ(h:dK e)(a:0<y e)(c:w∈e):iX w.key (e[0]'a).key=bj:=by
 obtain⟨i,b,rfl⟩:=dR c;exact h.Ty (bG i) b
def yu(b:U)(l s:cI)(k:ae):ir b (l++s) k=(ir b l k).or (ir b s k):=List.find?_append
def qO{l:cI}(h:∀x∈l,x.key≠v):ir k l v=none:=mu.2<|λx a=>by simp[h x a]
def Al{cs:dJ}{k:ae}{i:M}(f:i<y cs)(p:∀x∈cs.flatten,x.key=k->∃q:i<y cs,x∈cs[i])(e:cs.Pairwise gS)(n:U):ir n cs.flatten k=ir n cs[i] k:=by
 have o:cs.flatten=(cs.take i).flatten++(cs[i]++(cs.drop<|i+1).flatten):=by grind[take_append_drop,drop_eq_getElem_cons,flatten_append,flatten_cons]
 have m:∀j(b:j<y cs),j≠i->∀x∈cs[j],x.key≠k:=by intro j b c x d h;obtain⟨_,a⟩:=p x (bB.2 ⟨_,ak b,d⟩) h;rcases Nat.lt_or_gt_of_ne c with g|g;have:=cJ.1 e j i b f g x d x a;rw[fN]at this;cases this;have:=cJ.1 e i j f b g x a x d;rw[fN]at this;cases this
 rw[o,yu,yu,qO,qO (l:=(cs.drop<|i+1).flatten)];simp;grind[mem_flatten,getElem_of_mem]
 grind[mem_flatten,getElem_of_mem]
def nz:M->dJ->cS (M×cI)
 |_,[]=>[]
 |n,g::a=>(n,g)::nz (n+y g) a
def ie(a:cS (M×cI)):cI:=(a.map (·.2)).flatten
def Bg:∀(n:M)(a:dJ),(nz n a).map (·.2)=a
 |_,[]=>rfl
 |n,g::a=>by rw[nz,cr,Bg]
def Aj(l:cI):ie (nz 0<|ic l)=l:=by unfold ie;rw[Bg,pa]
def xQ:∀(b:dJ)(k n:M)(a:cS (M×cI))(g:cI),(a++[(n,g)])<+:nz k b->n=k+y (ie a)/\(a.map (·.2)++[g])<+:b
 |[],k,n,a,g,h=>by
  have:=h.length_le;simp[nz]at this
 |g0::b,k,n,a,g,h=>by
  rw[nz]at h;cases a with
  |nil=>
   obtain⟨s,c⟩:=h;simp at c;obtain⟨⟨rfl,rfl⟩,c⟩:=c;exact⟨by simp[ie],by simp⟩
  |cons p a=>
   rw[dl,List.cons_prefix_cons]at h;obtain⟨e,f⟩:=h;obtain⟨c,d⟩:=xQ b _ n a g f;subst e;refine⟨?_,?_⟩
   .rw[c];simp[ie];omega
   .simp[d]
structure LY(l p g s:cI):Prop where
 all:l=p++g++s
 ne:g≠[]
 same:∀x∈g,∀yqq∈g,x.key=yqq.key
 low:gS p g
 uI:gS g s
def Ii(m:dK e){a:cS (M×cI)}(r:(a++[(b,N)])<+:nz 0 (ic e)):b=y (ie a)/\∃s,LY e (ie a) N s:=by
 obtain⟨q,t,i⟩:=xQ _ _ _ _ _ r;have h:=Bf m;have k:N∈ic e:=by rw[<-i];simp
 have j:=pa e;rw[<-i]at h j;rw[bz]at h;obtain⟨_,n,o⟩:=bP.1 h;refine⟨by omega,t.flatten,⟨by rw[<-j];simp[ie],CG e N k,xP e N k,λx d c f=>?_,λx d c f=>?_⟩⟩;obtain⟨l,g,d⟩:=bB.1 d;exact o l g N (by simp) x d c f;obtain⟨l,g,f⟩:=bB.1 f;(have p:(N::t).Pairwise gS:=by simpa using n);exact(bA.1 p).1 l g x d c f
def sP(a:cS (M×cI))(n:M)(g:cI):ie (a++[(n,g)])=ie a++g:=by simp[ie]
def gS.ne(h:gS e N):∀a∈e,∀b∈N,a.key≠b.key:=λa c b d=>nY<|h a c b d
def LY.Kk{g s:cI}(h:LY e N g s)(a:cS U):dG a (N++g)=dG a N++dG a g:=BV a N g<|λd b f c=>h.low.ne d (List.mem_of_getLast? b) f<|List.mem_of_head? c
def LY.bare{g s:cI}(h:LY e N g s):gI (N++g)=gI N++uu g:=by rw[LH N g h.low.ne,UB h.same]
def Nd(a:cS U)(l:cI)(x:E):∀p:Option E,lJ a p (l++[x])=lJ a p l++(if oZ a ((p.toList++l).getLast?) x then [x]else []):=by
 induction l with
 |nil=>intro p;cases p<;>simp[lJ]
 |cons e r b=>
  intro p;rw[dl,qz,qz,b<|H e];have:(p.toList++e::r).getLast?=((H e).toList++r).getLast?:=by grind
  rw[this];split<;>simp
def wanted(a:cS U)(g:cI)(i:M)(h:i<y g):Bool:=decide (i=0)||a.any (λm=>decide (g[i].bJ<=m)&&decide (m<(g[i-1]'(by omega)).bJ))
def Qi{ms:cS U}(c:∀x∈e,∀a∈e,x.key=a.key)(h:b<y e):dG ms (e.take<|b+1)=dG ms (e.take b)++(if wanted ms e b h then [e[b]]else []):=by
 rw[aj h];unfold dG;rw[Nd];congr 2;simp only[Option.toList_none,de];cases b with
 |zero=>simp[oZ,wanted]
 |succ b=>
  have d:(e.take<|b+1).getLast?=H e[b]:=by
   grind
  rw[d];have:=c e[b] (ak _) e[b+1]<|ak _;simp[oZ,wanted,this]
def Pd(f:b<=y e)(h:uu e=uu (e.take b))(a:b=0\/∃h:b-1<y e,e[b-1].del=bj):uu e=e.take b:=by
 rw[h];rcases a with rfl|⟨c,d⟩;simp[uu]
 .cases b with
  |zero=>simp[uu]
  |succ b=>
   rw[aj (by omega),Fz];grind
def Pe(c:b<y e)(a:e[b].del=ci):uu (e.take<|b+1)=uu (e.take b):=by
 rw[aj c,Fz,dV a]
def qE(n:M)(l:cI):Prop:=∀k,y (l.filter<|λx=>decide<|x.key=k)<=n
def qE.sub(h:qE b N)(s:e.Sublist N):qE b e:=λk=>aB (s.filter _).length_le<|h k
def qE.mono(h:qE c e)(a:c<=g):qE g e:=λk=>aB (h k) a
def qE.nil(n:M):qE n []:=λ_=>bG _
def qE.keys(h:qE b e):∀g∈ic e,y g<=b:=by
 intro g c;have d:g.Sublist e:=by have:=cV c;rwa[pa]at this
 cases g with
 |nil=>grind
 |cons f r=>
  have a:=h.sub d f.key;rw[fW.2<|λx c=>by grind[xP]]at a;exact a
def Kj(c:cS U):∀a:dJ,a.Pairwise gS->dG c a.flatten=(a.map<|dG c).flatten:=by
 intro a;induction a with
 |nil=>intro _;rfl
 |cons m a i=>
  intro l;obtain⟨d,e⟩:=bA.1 l;rw[bO,cr,bO,<-i e];refine BV c _ _<|λj f k g=>?_;obtain⟨q,h,b⟩:=bB.1<|List.mem_of_mem_head? g;exact nY<|d q h j (List.mem_of_mem_getLast? f) k b
def xG{a:cS U}(n:dK e):qE (y a+1) (dG a e):=by
 have m:=Bf n;have l:=xP e;have b:∀g∈ic e,dK g:=λg a=>n.sub (by have:=cV a;rwa[pa]at this);intro r;rw[<-pa e,Kj a _ m];generalize ic e=f at*;induction f with
 |nil=>simp
 |cons g f j=>
  obtain⟨t,u⟩:=bA.1 m;have j:=j u (λq c=>l q<|by simp[c]) (λq c=>b q<|by simp[c]);rw[cr,bO,mw,ag];by_cases A:∃x∈g,x.key=r
  .obtain⟨x,v,w⟩:=A;have s:(f.map<|dG a).flatten.filter (λx=>decide<|x.key=r)=[]:=by
    rw[iB];intro d o;obtain⟨q,c,i⟩:=bB.1 o;obtain⟨p,h,rfl⟩:=bM.1 c;have:=nY<|t p h x v d<|(jh a p).subset i;grind
   rw[s];have k:=Hr a (b g<|by simp) (l g<|by simp) none (by grind) (λq c=>by cases c);have B:=fP (λx=>decide<|x.key=r)<|dG a g;have C:y (a.filter<|λ_=>ci)<=y a:=fP _ _;simp only[lk]at k;have D:y (dG a g)<=y (a.filter<|λ_=>ci)+1:=k;grind
  .have s:(dG a g).filter (λx=>decide<|x.key=r)=[]:=by
    rw[iB];intro d o;simp only[po];grind[jh]
   rw[s];simpa using j
def ub(L:M):M:=(L+95)/96
def gL(l:cI):dJ:=kp (ub<|y l) (y l) 0 0 []<|ic l
def yU(h:e≠[]):0<ub (y e):=by
 have:=gB.2 h;unfold ub;omega
def vh(l:cI):(gL l).flatten=l:=by
 by_cases c:l=[];subst c;rfl;have h:=Mu (n:=ub<|y l) (L:=y l) (yU c) (ic l) 0 0 [] (by rw[pa];simp) (.inl<|yU c)<|λq=>absurd rfl q;rw[pa]at h;simpa[gL]using h
def DE(l:cI):∀p∈gL l,p≠[]:=Jy _ _ _ _<|CG l
def AZ(h:N∈gL e):N.Sublist e:=by
 have:=cV h;rwa[vh]at this
def DD(h:dK e):(gL e).Pairwise gS:=(Mt _ _ _ _ (Bf h)<|λ_ _ x a=>by cases a).1
def PU(h:qE 5 e):∀p∈gL e,y p<=100:=by
 by_cases c:e=[];subst c;intro p a;cases a;(have a:y e<=ub (y e)*96:=by unfold ub;omega);exact Ps (F:=96) (V:=4) (yU c) a (by omega) _ 0 0 [] h.keys (by simp)<|λq=>absurd rfl q
def Ca{ps:dJ}(h:∀p∈ps,p≠[]):y ps<=y ps.flatten:=by
 induction ps with
 |nil=>grind
 |cons p r b=>
  have a:=gB.2 (h p<|by simp);have c:=b (λq a=>h q<|by simp[a]);grind
def wI(l:cI):y (gL l)<=y l:=by
 have:=Ca<|DE l;rwa[vh]at this
def yZ(l:cI):∀a,(mT a l).Sublist l:=by
 induction l with
 |nil=>intro a;exact List.Sublist.slnil
 |cons e r b=>
  intro a;unfold mT;grind
def TQ(b:ae)(a:dJ):y (a.map<|fO b).flatten<=y a.flatten:=by
 induction a with
 |nil=>simp
 |cons r a c=>
  have h:y (fO b r)<=y r:=fP _ _;grind
def Vz(h:ri l v=H w):w.key=v:=by
 unfold ri at h;obtain⟨r,_,a⟩:=pB h;have:=vM a;grind
def OH(h:ri l v=H w):w∈l.flatten:=by
 unfold ri at h;obtain⟨r,b,a⟩:=pB h;exact bB.2 ⟨r,b,la a⟩
def QR(h:∀r∈l,r=[])(k:ae):ri l k=none:=by
 cases c:ri l k with
 |none=>rfl
 |some e=>
  obtain⟨r,b,a⟩:=bB.1<|OH c;rw[h r b]at a;cases a
