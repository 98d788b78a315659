import Derived.BigQuiet
import Derived.Conc.MuLone
import Derived.Deep.QuietTactic
import Derived.Deep.RegionLawGrows
import Derived.LaidEql
import Derived.Lib.EndianBits
import Derived.OrdersHeld
import Derived.OrdersIn
import Derived.Outline
import Derived.OwnWalkIn
import Derived.RangeFuncCalls
import Derived.RowKitTokens
import Derived.Stop.Asserts
import Derived.Test.YtbiejblbclolmaaGreatDoorChecked
import Derived.WalkLawsBesides
import Derived.Test.YtbiejblbclolmaaGreatDoorC0
open _root_ renaming List.length→y,Option.some→H,Array.size→z,Go.World.heap→G,Go.Value.ownBlock→cI,Go.World.cell?→aW,Go.World.setCell→cH,Go.World.alloc→dd,Bool.false→bw,Bool.true→cf,Nat→M,Int→U,List→ci,Go.Calls→cY,Go.Proofs.Tryz.prog→bA,Go.Value.slice→I,Go.Value.string→am,Go.Value.bool→aM,Go.Value.pointer→dC,Go.Value.tuple→dA,Go.Value.agg→dL
namespace Go.Proofs.YtbiejblbclolmaaGreatDoor
open ChangeShapes WideShapes RowKit Proofs.Tryz List
set_option maxHeartbeats 16000000
set_option linter.all false
set_option maxRecDepth 100000
variable{a f A:Y}{b c i l F V:M}{d t:ab}{k N:U}{o:fh}{r:ae}{B:ix}{S:Bool}
structure E where
 key:ae
 val:ae
 del:Bool
 bQ:U
abbrev cU:=ci E
abbrev dX:=ci<|ci E
variable{w:E}
def Y5:E:=⟨⟨#[]⟩,⟨#[]⟩,bw,0⟩
def jj(a b:ae):Bool:=Op.bytesLess a.toList b.toList
def OC:∀(x b:ci UInt8),Op.bytesLess x b=decide (x<b)
 |[],[]=>by simp[Op.bytesLess]
 |_::_,[]=>by simp[Op.bytesLess]
 |[],_::_=>by simp[Op.bytesLess]
 |a::x,c::b=>by
  rw[Op.bytesLess,OC x b];grind[cons_lt_cons_iff]
theorem GU{b:ae}(h:r.toList=b.toList):r=b:=by
 have a:∀x:ae,x.toList=x.data.toList:=λx=>sR x;rw[a,a]at h;cases r;simp_all
theorem fT(a:ae):jj a a=bw:=by
 unfold jj;rw[OC];simp
theorem la{b c:ae}(h:jj r b=cf)(k:jj b c=cf):jj r c=cf:=by
 unfold jj at*;rw[OC]at*;grind
theorem lH{b:ae}(h:jj r b=cf):jj b r=bw:=by
 grind[la,fT]
theorem nN{b:ae}(h:jj r b=bw)(k:jj b r=bw):r=b:=by
 unfold jj at*;rw[OC]at*;grind[GU,List.le_antisymm]
theorem qE{b:ae}(h:jj r b=cf):r≠b:=by
 grind[fT]
def yQ{b c:ae}(h:jj b r=bw)(k:jj b c=cf):jj r c=cf:=by
 grind[la,nN]
theorem Qq{b c:ae}(h:jj r b=cf)(k:jj c b=bw):jj r c=cf:=by
 grind[la,nN]
def Ub{b c:ae}(h:jj b r=bw)(k:jj c b=bw):jj c r=bw:=by
 grind[Qq]
def Kz(a:ae):jj a ⟨#[]⟩=bw:=by
 unfold jj;rw[OC];simp_all
def wH(l:ci E):Prop:=l.Pairwise<|λa b=>jj a.key b.key=cf
def wH.nil:wH []:=List.Pairwise.nil
def wH.tail{l:ci E}(h:wH (w::l)):wH l:=(bz.1 h).2
def wH.head{l:ci E}(h:wH (w::l)):∀b∈l,jj w.key b.key=cf:=(bz.1 h).1
def wH.sub{l m:ci E}(h:wH m)(s:l.Sublist m):wH l:=lz s h
def wH.Su{l:ci E}(h:wH l){e:E}(c:w∈l)(d:e∈l)(f:w.key=e.key):w=e:=by
 induction l with
 |nil=>cases c
 |cons x r g=>
  rcases bM.1 c with b|b
  .rcases bM.1 d with a|a
   .rw[b,a]
   .rw[b]at f;exact absurd f<|qE<|h.head e a
  .rcases bM.1 d with a|a
   .rw[a]at f;exact absurd f.symm<|qE<|h.head w b
   .exact g h.tail b a
def wH.ext{l m:ci E}(h:wH l)(k:wH m)(g:∀x,x∈l↔x∈m):l=m:=by
 induction l generalizing m with
 |nil=>
  cases m with
  |nil=>rfl
  |cons a r=>exact absurd ((g a).2<|by simp)<|by simp
 |cons x r i=>
  cases m with
  |nil=>exact absurd ((g x).1<|by simp)<|by simp
  |cons a s=>
   have f:x=a:=by
    rcases bM.1 ((g x).1<|by simp)with c|c
    .exact c
    .rcases bM.1 ((g a).2<|by simp)with e|e
     .exact e.symm
     .have n:=k.head x c;have j:=h.head a e;rw[lH n]at j;cases j
   subst f;congr 1;refine i h.tail k.tail<|λb=>⟨λd=>?_,λd=>?_⟩
   .rcases bM.1 ((g b).1<|dQ _ d)with rfl|c
    .have:=h.head b d;rw[fT]at this;cases this
    .exact c
   .rcases bM.1 ((g b).2<|dQ _ d)with rfl|c
    .have:=k.head b d;rw[fT]at this;cases this
    .exact c
def qY(l:ci E)(e:E):ci E:=l.filter (λx=>jj x.key e.key)++e::l.filter (λx=>jj e.key x.key)
theorem zr{l:ci E}{x:E}:x∈qY l w↔x=w\/(x∈l/\x.key≠w.key):=by
 unfold qY;simp only[aA,eK,bM];constructor;rintro(⟨h,k⟩|h|⟨h,k⟩);exact .inr ⟨h,qE k⟩;exact .inl h;exact .inr ⟨h,λc=>qE k c.symm⟩;grind[nN]
def wH.qY{l:ci E}(h:wH l)(e:E):wH (qY l e):=by
 unfold Go.Proofs.YtbiejblbclolmaaGreatDoor.qY;refine aZ.2 ⟨h.sub eY,bz.2 ⟨?_,h.sub eY⟩,?_⟩;grind
 grind[la]
def gT(l m:ci E):ci E:=m.foldl qY l
def wH.gT{l:ci E}(h:wH l)(m:ci E):wH (gT l m):=by
 induction m generalizing l with
 |nil=>exact h
 |cons e r a=>exact a<|h.qY e
variable{e K:cU}{m:dX}
def ahead(a b:E):Bool:=jj a.key b.key||(decide (a.key=b.key)&&decide (b.bQ<a.bQ))
theorem jL{b:E}:ahead w b=cf↔jj w.key b.key=cf\/(w.key=b.key/\b.bQ<w.bQ):=by
 unfold ahead;simp
theorem vp{b c:E}(h:ahead w b=cf)(k:ahead b c=cf):ahead w c=cf:=by
 rw[jL]at*;rcases h with h|⟨h,a⟩<;>rcases k with k|⟨k,d⟩;exact .inl<|la h k;rw[<-k];exact .inl h;rw[h];exact .inl k;grind
theorem Ci(a:E):ahead a a=bw:=by unfold ahead;simp[fT]
theorem lS{b:E}(h:ahead w b=cf):ahead b w=bw:=by
 grind[vp,Ci]
theorem ny{b:E}(h:ahead b w=bw):jj b.key w.key=bw/\(b.key=w.key->b.bQ<=w.bQ):=by
 unfold ahead at h;grind
def TI{b:E}(h:jj b.key w.key=bw)(k:b.key=w.key->b.bQ<=w.bQ):ahead b w=bw:=by
 unfold ahead;grind
theorem xp{d g:E}(i:ahead d w=bw)(k:ahead g d=bw):ahead g w=bw:=by
 obtain⟨b,e⟩:=ny i;obtain⟨a,f⟩:=ny k;refine TI (Ub b a)<|λh=>?_;have c:d.key=w.key:=by rw[h]at a;exact nN b a
 have:=e c;have:=f<|h.trans c.symm;omega
def ml(a:dX)(i:M):Option E:=(a[i]?.getD []).head?
def kR(a:dX):M->Option M
 |0=>none
 |n+1=>match ml a n with
  |none=>kR a n
  |some e=>match kR a n with
   |none=>H n
   |some b=>if ahead e ((ml a b).getD Y5)then H n else H b
theorem Et(h:kR m b=none):∀i,i<b->ml m i=none:=by
 induction b with
 |zero=>grind
 |succ b c=>
  intro i a;unfold kR at h;grind
def vh(h:kR m b=H c):c<b/\∃e,ml m c=H e/\∀i,i<b->∀f,ml m i=H f->ahead f e=bw:=by
 induction b generalizing c with
 |zero=>cases h
 |succ b a=>
  unfold kR at h;grind[Ci,Et,xp,lS]
def total(a:dX):M:=y a.flatten
def yI(h:ml m b=H w):m.flatten.Perm (w::(m.modify b List.tail).flatten):=by
 induction m generalizing b with
 |nil=>simp[ml]at h
 |cons r d c=>
  cases b with
  |zero=>
   cases r with
   |nil=>simp[ml]at h
   |cons x t=>
    simp only[ml,List.getElem?_cons_zero,oJ,List.head?_cons,uK]at h;simp_all
  |succ b=>
   have a:ml d b=H w:=by simpa[ml]using h
   simp only[bW,xS];refine((c a).append_left r).trans ?_;simp_all
def wP(h:ml m b=H w):total m=total (m.modify b List.tail)+1:=by
 have:=(yI h).length_eq;unfold total;rw[this];simp
def Kp:M->dX->cU
 |0,_=>[]
 |n+1,a=>match kR a (y a)with
  |none=>[]
  |some b=>(ml a b).getD Y5::Kp n (a.modify b List.tail)
def de(a:dX):cU:=Kp (total a) a
def yK{hs:dX}(h:kR hs (y hs)=none):de hs=[]:=by
 unfold de;cases e:total hs with
 |zero=>rfl
 |succ n=>unfold Kp;rw[h]
def Us(h:∀i,i<y m->ml m i=none):m.flatten=[]:=by
 induction m with
 |nil=>rfl
 |cons r c b=>
  have a:=h 0 (by simp);cases r with
  |cons x t=>simp[ml]at a
  |nil=>
   simp only[bW,du];exact b (λi a=>by have:=h (i+1) (by simp;omega);simpa[ml]using this)
def yJ{hs:dX}(h:kR hs (y hs)=H b)(a:ml hs b=H w):de hs=w::de (hs.modify b List.tail):=by
 unfold de;rw[wP a];conv=>lhs;unfold Kp
 rw[h];grind
theorem fi(a:dX):(de a).Perm a.flatten:=by
 generalize d:total a=n;induction n generalizing a with
 |zero=>
  have:a.flatten=[]:=aS d;unfold de;rw[d,this];exact List.Perm.nil
 |succ n e=>
  cases hb:kR a (y a)with
  |none=>
   have:=Us<|Et hb;rw[yK hb,this]
  |some b=>
   obtain⟨_,f,c,_⟩:=vh hb;rw[yJ hb c];have g:=wP c;exact((e _<|by omega).cons f).trans (yI c).symm
def oA(a:ae):cU->cU
 |[]=>[]
 |e::r=>if e.key=a then oA e.key r else e::oA e.key r
def R9(b:cU)(x:E):Prop:=x∈b/\∀a∈b,a.key=x.key->a.bQ<=x.bQ
def P5(a:cU):Prop:=∀b∈a,∀c∈a,b.key=c.key->b.bQ=c.bQ->b=c
def NY(a:ae)(t:e.Pairwise (λf b=>ahead b f=bw))(m:P5 e)(r:∀x∈e,jj x.key a=bw):wH (oA a e)/\∀x,x∈oA a e↔x.key≠a/\R9 e x:=by
 induction e generalizing a with
 |nil=>exact⟨wH.nil,λx=>by simp[oA,R9]⟩
 |cons l A u=>
  obtain⟨g,q⟩:=bz.1 t;obtain⟨n,k⟩:=u l.key q (λf a b c=>m f (by simp[a]) b<|by simp[c])<|λx j=>(ny<|g x j).1;unfold oA;split
  .rename_i h;refine⟨n,λx=>(k x).trans ?_⟩;rw[h];constructor
   .rintro⟨f,b,o⟩;refine⟨f,dQ _ b,λc d i=>?_⟩;grind
   .rintro⟨f,b,o⟩;refine⟨f,?_,(by grind)⟩;grind
  .rename_i h;have s:jj l.key a=bw:=r l (by simp);refine⟨bz.2 ⟨λx j=>?_,n⟩,λx=>?_⟩
   .obtain⟨f,b,_⟩:=(k x).1 j;grind[nN,ny]
   .rw[bM,k];constructor
    .rintro(rfl|⟨f,b,o⟩)
     .refine⟨h,by simp,λc d i=>?_⟩;rcases bM.1 d with rfl|d
      .grind
      .exact(ny<|g c d).2 i
     .refine⟨?_,dQ _ b,λc d i=>?_⟩
      .grind[ny,nN]
      grind
    .rintro⟨f,b,o⟩;rcases bM.1 b with rfl|b
     .exact .inl rfl
     .by_cases p:x.key=l.key
      .left;have v:=o l (by simp) p.symm;have w:=(ny<|g x b).2 p;exact m x (by simp[b]) l (by simp) p<|by omega
      .exact .inr ⟨p,b,(by grind)⟩
def gm(a:ae)(l:cU):cU:=l.filter<|λe=>!jj e.key a
def Wu:w∈(m.map<|gm r).flatten↔w∈m.flatten/\jj w.key r=bw:=by
 simp only[bC,bH];constructor;rintro⟨l,⟨c,b,rfl⟩,a⟩;unfold gm at a;rw[eK]at a;grind
 rintro⟨⟨c,b,a⟩,h⟩;exact⟨_,⟨c,b,rfl⟩,by unfold gm;rw[eK];grind⟩
def nQ(l:cU)(k:ae):Option E:=l.find?<|λe=>decide<|e.key=k
theorem oB(h:wH e):nQ e r=H w↔w∈e/\w.key=r:=by
 unfold nQ;constructor;grind
 .rintro⟨a,b⟩;cases hf:e.find? (λw=>decide<|w.key=r)with
  |none=>
   rw[mS]at hf;grind
  |some x=>
   have c:=lE hf;have d:x.key=r:=by have:=xJ hf;grind
   rw[h.Su c a<|d.trans b.symm]
theorem pJ:nQ e r=none↔∀a∈e,a.key≠r:=by
 unfold nQ;rw[mS];simp
def UA(h:wH e)(a:wH K)(c:∀x,x.key=r->(x∈e↔x∈K)):nQ e r=nQ K r:=by
 cases hm:nQ K r with
 |none=>
  rw[pJ]at hm|-;grind
 |some b=>
  rw[oB a]at hm;grind[oB]
def NZ(h:wH e)(a:E)(k:ae):nQ (qY e a) k=if k=a.key then H a else nQ e k:=by
 split;rename_i b;exact(oB<|h.qY a).2 ⟨zr.2<|.inl rfl,b.symm⟩;rename_i b;refine UA (h.qY a) h<|λx c=>?_;rw[zr];grind
def sK(a:dX)(k:ae):Option E:=a.findSome?<|λr=>nQ r k
def zA(k:ae):sK [] k=none:=rfl
def qH(r:cU)(a:dX)(k:ae):sK (r::a) k=(nQ r k).or (sK a k):=by
 unfold sK;rw[List.findSome?_cons];cases nQ r k<;>rfl
def xC(a b:dX)(k:ae):sK (a++b) k=(sK a k).or (sK b k):=by
 induction a with
 |nil=>simp[zA]
 |cons r a c=>rw[cR,qH,qH,c,Option.or_assoc]
def Uz(k:ae):nQ [] k=none:=rfl
def Over(r s:cU):Prop:=∀a∈r,∀b∈s,a.key=b.key->b.bQ<a.bQ
def jX(a:dX):Prop:=a.Pairwise Over
def jX.over(h:jX (e::m)):Over e m.flatten:=by
 intro f b g a c;obtain⟨s,d,a⟩:=bC.1 a;exact(bz.1 h).1 s d f b g a c
def RW(n:∀l∈m,wH l)(k:jX m):sK m r=H w↔R9 m.flatten w/\w.key=r:=by
 induction m with
 |nil=>simp[zA,R9]
 |cons l m o=>
  have j:=o (by grind) (bz.1 k).2;have f:=k.over;have d:=n l (by simp);rw[qH];cases hf:nQ l r with
  |some x=>
   have a:=(oB d).1 hf;simp only[Option.some_or,uK,bW];constructor
   .rintro rfl;refine⟨⟨(by grind),λg e i=>?_⟩,a.2⟩;rcases aA.1 e with e|e
    .rw[d.Su e a.1 i];grind
    .exact Int.le_of_lt<|f x a.1 g e i.symm
   .rintro⟨⟨b,h⟩,c⟩;rcases aA.1 b with b|b
    .exact d.Su a.1 b<|a.2.trans c.symm
    .have p:=h x (ib _ a.1)<|a.2.trans c.symm;have q:=f x a.1 w b<|a.2.trans c.symm;omega
  |none=>
   have a:=pJ.1 hf;simp only[jv,bW];rw[j];constructor
   .rintro⟨⟨b,h⟩,c⟩;refine⟨⟨qT _ b,λg e i=>?_⟩,c⟩;grind
   .rintro⟨⟨b,h⟩,c⟩;refine⟨⟨?_,(by grind)⟩,c⟩;grind
def seen(a:dX)(k:ae):Option ae:=(sK a k).bind<|λe=>if e.del then none else H e.val
def TD{a g D:dX}(A:jX (m++a++D))(w:jX g)(e:∀B∈g.flatten,B∈a.flatten):jX (m++g++D):=by
 obtain⟨r,s,t⟩:=aZ.1 A;obtain⟨u,_,v⟩:=aZ.1 r;have d:∀f∈g,∀i∈f,∃o∈a,i∈o:=λf h i c=>bC.1<|e i<|bC.2 ⟨f,h,c⟩;refine aZ.2 ⟨aZ.2 ⟨u,w,?_⟩,s,?_⟩;intro q b f n p j i c l;obtain⟨o,h,k⟩:=d f n i c;exact v q b o h p j i k l;intro q b x n;rcases aA.1 b with b|b;(grind);intro p j i c l;obtain⟨o,h,k⟩:=d q b p j;exact t o (by grind) x n p k i c l
def Co(a b D:dX):Prop:=∀k,sK b k=sK a k\/(sK D k=none/\sK b k=none/\∃e,sK a k=H e/\e.del=cf)
theorem VN{a b D:dX}(h:Co a b D)(k:ae):seen (m++b++D) k=seen (m++a++D) k:=by
 unfold seen;rw[xC,xC,xC,xC];rcases h k with h|⟨c,d,g,e,f⟩;rw[h]
 .rw[c,d,e];cases sK m k with
  |some x=>simp
  |none=>simp[f]
def eh(l:cU):Prop:=l.Pairwise<|λa b=>ahead a b=cf
def eh.nil:eh []:=List.Pairwise.nil
def eh.sub(h:eh K)(s:e.Sublist K):eh e:=lz s h
def eh.Pa(h:eh e):e.Pairwise (λa b=>ahead b a=bw):=h.imp<|λh=>lS h
def eh.Su(m:eh e):P5 e:=by
 induction e with
 |nil=>intro j a;cases a
 |cons k r i=>
  obtain⟨n,d⟩:=bz.1 m;have o:∀x∈r,x.key=k.key->x.bQ=k.bQ->False:=by
   grind[jL,fT]
  intro j a l f g h;rcases bM.1 a with rfl|b<;>rcases bM.1 f with rfl|c
  .rfl
  .grind
  .grind
  .exact i d j b l c g h
structure gV(l:cU):Prop where
 mJ:eh l
 key:∀e∈l,e.key≠⟨#[]⟩
def gV.nil:gV []:=⟨eh.nil,λ_ h=>by cases h⟩
def gV.sub(h:gV K)(s:e.Sublist K):gV e:=⟨h.mJ.sub s,λb a=>h.key b<|s.subset a⟩
def kq(b:U)(r:cU):cU:=oA ⟨#[]⟩<|r.filter<|λe=>decide<|e.bQ<=b
def Sg(h:gV e)(b:U):wH (kq b e)/\∀x,x∈kq b e↔x∈e/\x.bQ<=b/\∀a∈e,a.key=x.key->a.bQ<=b->a.bQ<=x.bQ:=by
 have c:eh (e.filter<|λd=>decide<|d.bQ<=b):=h.mJ.sub eY;obtain⟨s,m⟩:=NY ⟨#[]⟩ c.Pa c.Su<|λx _=>Kz x.key;refine⟨s,λx=>?_⟩;unfold kq;rw[m];constructor;rintro⟨_,d,f⟩;grind
 rintro⟨d,g,f⟩;exact⟨h.key x d,(by grind),(by grind)⟩
theorem mZ(h:gV e)(b:U):wH (kq b e):=(Sg h b).1
theorem jz(h:gV e):w∈kq k e↔w∈e/\w.bQ<=k/\∀a∈e,a.key=w.key->a.bQ<=k->a.bQ<=w.bQ:=(Sg h k).2 w
theorem AL(h:gV e)(a:w∈kq k e):w∈e:=((jz h).1 a).1
def iI(b:U)(r:cU)(k:ae):Option E:=r.find?<|λe=>decide (e.key=k)&&decide (e.bQ<=b)
theorem Ej(i:gV e)(g:iI k e r=H w):w∈kq k e/\w.key=r:=by
 obtain⟨b,j,l,a,h⟩:=List.find?_eq_some_iff_append.1 g;simp only[my,qe]at b;refine⟨(jz i).2 ⟨by rw[a];simp,b.2,λc f o n=>?_⟩,b.1⟩;rw[a]at f;rcases aA.1 f with q|q;have:=h c q;grind
 rcases bM.1 q with rfl|q;(grind);have d:=i.mJ;rw[a]at d;have m:=(aZ.1 d).2.1;grind[jL,pairwise_cons,fT]
def Ek(c:iI k e r=none):∀a∈e,a.key=r->¬a.bQ<=k:=by
 intro a b f d;have:=mS.1 c a b;grind
theorem UC(h:gV e)(b:U)(k:ae):iI b e k=nQ (kq b e) k:=by
 cases hf:iI b e k with
 |some g=>grind[oB,mZ,Ej]
 |none=>
  refine(pJ.2 λg d f=>?_).symm;obtain⟨a,c,_⟩:=(jz h).1 d;exact Ek hf g a f c
theorem Yf(h:gV e)(f:w∈e)(d:w.bQ<=k):∃a∈kq k e,a.key=w.key/\w.bQ<=a.bQ:=by
 cases hf:iI k e w.key with
 |some a=>
  obtain⟨b,c⟩:=Ej h hf;exact⟨a,b,c,((jz h).1 b).2.2 w f c.symm d⟩
 |none=>exact absurd d<|Ek hf w f rfl
def Over.at(k:Over e K)(c:gV e)(d:gV K)(b:U):Over (kq b e) (kq b K):=λx g a h j=>k x (AL c g) a (AL d h) j
def MW(h:jX m)(a:∀r∈m,gV r)(f:U):jX (m.map<|kq f):=by
 unfold jX;rw[gW];induction m with
 |nil=>simp_all
 |cons r m e=>
  obtain⟨c,d⟩:=bz.1 h;exact bz.2 ⟨λs b=>(c s b).at (a r<|by simp) (a s<|by simp[b]) f,e d<|by grind⟩
def pX(a:ci U)(p:Option E)(e:E):Bool:=match p with
 |none=>cf
 |some p=>!decide (p.key=e.key)||a.any (λm=>decide (e.bQ<=m)&&decide (m<p.bQ))
def mj(a:ci U):Option E->cU->cU
 |_,[]=>[]
 |p,e::r=>if pX a p e then e::mj a (H e) r else mj a (H e) r
def dZ(a:ci U)(l:cU):cU:=mj a none l
def TF(a:ci U)(l:cU):∀p,(mj a p l).Sublist l:=by
 induction l with
 |nil=>intro p;exact kB _
 |cons e r b=>
  intro p;unfold mj;grind
theorem jy(a:ci U)(l:cU):(dZ a l).Sublist l:=TF a l none
def gV.Na(h:gV e)(a:ci U):gV (dZ a e):=h.sub<|jy a e
def TH{c:ci U}(l:cU):∀p:Option E,eh (p.toList++l)->w∈l->((∀a∈p.toList++l,a.key=w.key->a.bQ<=w.bQ)\/∃m∈c,w.bQ<=m/\∀a∈p.toList++l,a.key=w.key->a.bQ<=m->a.bQ<=w.bQ)->w∈mj c p l:=by
 induction l with
 |nil=>grind
 |cons x s r=>
  intro p f d b;have h:eh (x::s):=(aZ.1 f).2.1;unfold mj;rcases bM.1 d with rfl|d
  .have g:pX c p w=cf:=by
    cases p with
    |none=>rfl
    |some q=>
     unfold pX;by_cases e:q.key=w.key
     .have k:ahead q w=cf:=(aZ.1 f).2.2 q (by simp) w (by simp);have n:w.bQ<q.bQ:=by
       grind[jL,fT]
      rcases b with b|⟨m,o,i,j⟩
      .have:=b q (by simp) e;omega
      grind
     .simp[e]
   rw[di g];simp
  grind
theorem Ch(h:gV e){a:ci U}(j:k∈a\/∀x∈e,x.bQ<=k):kq k (dZ a e)=kq k e:=by
 have g:∀x∈kq k e,x∈dZ a e:=by intro x b;obtain⟨c,d,f⟩:=(jz h).1 b;refine TH e none h.mJ c ?_;grind
 refine(mZ (h.Na a) k).ext (mZ h k) λx=>?_;constructor;intro b;obtain⟨c,d,f⟩:=(jz<|h.Na a).1 b;have i:=(jy a e).subset c;grind[jz,Yf]
 intro b;obtain⟨c,d,f⟩:=(jz h).1 b;exact(jz<|h.Na a).2 ⟨g x b,d,λc i=>f c<|(jy a e).subset i⟩
def Mb(h:∀r∈m,eh r):∀r∈m.modify b List.tail,eh r:=by
 intro r a;induction m generalizing b with
 |nil=>simp at a
 |cons x d c=>
  cases b with
  |zero=>
   simp only[xR,bM]at a;rcases a with rfl|a
   .exact(h x<|by simp).sub<|List.tail_sublist x
   grind
  |succ b=>
   grind
def Ws(l:∀r∈m,eh r)(j:∀i,i<y m->∀f,ml m i=H f->ahead f w=bw):∀x∈m.flatten,ahead x w=bw:=by
 intro x k;obtain⟨r,g,a⟩:=bC.1 k;obtain⟨i,e,rfl⟩:=eC g;have b:=l _ g;cases hc:m[i]with
 |nil=>rw[hc]at a;cases a
 |cons f t=>
  have h:ml m i=H f:=by simp[ml,e,hc]
  have d:=j i e f h;rw[hc]at a b;rcases bM.1 a with rfl|c
  .exact d
  .exact xp d<|lS<|(bz.1 b).1 x c
def Eb(a:dX)(h:∀r∈a,eh r):(de a).Pairwise (λi c=>ahead c i=bw):=by
 generalize e:total a=n;induction n generalizing a with
 |zero=>unfold de;rw[e];exact List.Pairwise.nil
 |succ n g=>
  cases hb:kR a (y a)with
  |none=>rw[yK hb];simp_all
  |some c=>
   obtain⟨_,l,b,d⟩:=vh hb;rw[yJ hb b];have j:=wP b;refine bz.2 ⟨λx f=>?_,g _ (Mb h)<|by omega⟩;have k:x∈(a.modify c List.tail).flatten:=(fi _).mem_iff.1 f;exact Ws h d x<|(yI b).mem_iff.2<|by grind
def Lz(l:cU):Prop:=l.Pairwise<|λa b=>¬(a.key=b.key/\a.bQ=b.bQ)
def eh.D6(h:eh e):Lz e:=h.imp λ{a b}q=>by
 grind[jL,fT]
def BC(d:∀r∈m,eh r)(a:jX m):Lz m.flatten:=by
 induction m with
 |nil=>exact List.Pairwise.nil
 |cons r m e=>
  rw[bW];refine aZ.2 ⟨(d r<|by simp).D6,e (by grind) (bz.1 a).2,λf b g c q=>?_⟩;have:=a.over f b g c q.1;omega
theorem zI{b:E}(h:ahead b w=bw)(k:¬(w.key=b.key/\w.bQ=b.bQ)):ahead w b=cf:=by
 obtain⟨d,a⟩:=ny h;refine jL.2 ?_;by_cases c:w.key=b.key;have:=a c.symm;grind
 grind[nN]
def pH(a:∀r∈m,eh r)(e:jX m):eh (de m):=by
 have c:=Eb m a;have d:Lz (de m):=((fi m).pairwise_iff<|by grind).2<|BC a e;exact List.Pairwise.imp₂ (λa b q k=>zI q k) c d
def oq(a:∀r∈m,gV r)(e:jX m):gV (de m):=by
 refine⟨pH (λr h=>(a r h).mJ) e,λf d=>?_⟩;obtain⟨r,b,c⟩:=bC.1<|(fi m).mem_iff.1 d;exact(a r b).key f c
theorem yM(d:∀r∈m,gV r)(g:jX m):w∈kq k (de m)↔sK (m.map<|kq k) w.key=H w:=by
 have f:=oq d g;have b:∀a,a∈de m↔∃r∈m,a∈r:=λa=>((fi m).mem_iff).trans bC;rw[RW (λr h=>by grind[mZ])<|MW g d k];constructor;intro h;obtain⟨e,i,n⟩:=(jz f).1 h;obtain⟨r,c,l⟩:=(b w).1 e;refine⟨⟨bC.2 ⟨_,bH.2 ⟨r,c,rfl⟩,(jz<|d r c).2<|by grind⟩,λa o j=>?_⟩,rfl⟩;grind[mem_flatten,jz]
 rintro⟨⟨e,i⟩,_⟩;obtain⟨s,l,c⟩:=bC.1 e;obtain⟨t,n,rfl⟩:=bH.1 l;obtain⟨p,h,_⟩:=(jz<|d t n).1 c;refine(jz f).2 ⟨(by grind),h,λa o j q=>?_⟩;grind[Yf,mem_flatten]
def ij:cU->cU
 |[]=>[]
 |e::r=>if e.del&&!((ij r).any λa=>decide<|a.key=e.key)then ij r else e::ij r
theorem kF(l:cU):(ij l).Sublist l:=by
 induction l with
 |nil=>exact kB _
 |cons e r a=>
  unfold ij;grind
def Ja(i:eh e):w∈ij e↔w∈e/\(w.del=bw\/∃a∈e,a.key=w.key/\a.bQ<w.bQ/\a.del=bw):=by
 induction e generalizing w with
 |nil=>simp[ij]
 |cons c r f=>
  obtain⟨j,d⟩:=bz.1 i;have h:∀a∈r,a.key=c.key->a.bQ<c.bQ:=λa d b=>by
   grind[jL,fT]
  have k:∀{w:E},w∈r->(w.del=bw\/∃a∈c::r,a.key=w.key/\a.bQ<w.bQ/\a.del=bw)->w∈ij r:=by
   intro w b g;refine(f d).2 ⟨b,g.imp_right ?_⟩;grind
  have l:∀{w:E},w∈ij r->w∈c::r/\(w.del=bw\/∃a∈c::r,a.key=w.key/\a.bQ<w.bQ/\a.del=bw):=by
   intro w b;obtain⟨g,m⟩:=(f d).1 b;grind
  unfold ij;grind
theorem gV.bare(h:gV e):gV (ij e):=h.sub<|kF e
def Qr(h:gV e)(s:∀p,sK m p=none)(o:U):Co [kq o e] [kq o<|ij e] m:=by
 intro p;simp only[qH,zA,tN];cases hf:nQ (kq o e) p with
 |none=>
  grind[pJ,jz,gV.bare,Yf,kF]
 |some b=>
  obtain⟨t,l⟩:=(oB<|mZ h o).1 hf;obtain⟨j,A,r⟩:=(jz h).1 t;by_cases k:b∈ij e
  .grind[oB,mZ,gV.bare,jz,kF]
  .right;have n:¬(b.del=bw\/∃a∈e,a.key=b.key/\a.bQ<b.bQ/\a.del=bw):=λc=>k<|(Ja h.mJ).2 ⟨j,c⟩;refine⟨s p,pJ.2 λx v a=>?_,b,rfl,by grind⟩;obtain⟨g,q,_⟩:=(jz h.bare).1 v;obtain⟨i,w⟩:=(Ja h.mJ).1 g;have d:=r x i (a.trans l.symm) q;have f:x≠b:=λc=>k<|c▸g;have u:x.bQ<b.bQ:=by
    rcases Int.lt_or_eq_of_le d with c|c
    .exact c
    .exact absurd (h.mJ.Su x i b j (a.trans l.symm) c) f
   grind
def lO(l:cU)(e:E):cU:=l.filter (λx=>ahead x e)++e::l.filter (λx=>ahead e x)
theorem mD{x:E}:x∈lO e w↔x=w\/(x∈e/\¬(x.key=w.key/\x.bQ=w.bQ)):=by
 unfold lO;simp only[aA,bM,eK];grind[jL,fT,zI]
def eh.lO(h:eh e)(b:E):eh (lO e b):=by
 unfold Go.Proofs.YtbiejblbclolmaaGreatDoor.lO;refine aZ.2 ⟨h.sub eY,bz.2 ⟨(by simp),h.sub eY⟩,λf a g d=>?_⟩;have c:=(eK.1 a).2;grind[vp]
def gV.lO(h:gV e)(a:w.key≠⟨#[]⟩):gV (lO e w):=by
 refine⟨h.mJ.lO w,λx b=>?_⟩;rcases mD.1 b with rfl|⟨c,_⟩;exact a;exact h.key x c
def OG(h:gV e)(a:w.key≠⟨#[]⟩)(b:k<w.bQ):kq k (lO e w)=kq k e:=by
 refine(mZ (h.lO a) k).ext (mZ h k) λx=>?_;rw[jz<|h.lO a,jz h];grind[mD]
def OH(j:gV e)(i:w.key≠⟨#[]⟩){b:U}(h:w.bQ<=b)(k:∀x∈e,x.key=w.key->x.bQ<=w.bQ):kq b (lO e w)=qY (kq b e) w:=by
 refine(mZ (j.lO i) b).ext ((mZ j b).qY w) λx=>?_;rw[jz<|j.lO i,zr,jz j];constructor;rintro⟨g,l,m⟩;rcases mD.1 g with rfl|⟨g,q⟩;exact .inl rfl;by_cases a:x.key=w.key;(have c:=m w (mD.2<|.inl rfl) a.symm h;have d:=k x g a;grind);grind[mD]
 rintro(rfl|⟨⟨g,l,m⟩,a⟩);(refine⟨mD.2<|.inl rfl,h,λf c d _=>?_⟩;rcases mD.1 c with rfl|⟨g,_⟩;(grind);grind);refine⟨mD.2 (by grind),l,λf c d o=>?_⟩;rcases mD.1 c with rfl|⟨n,_⟩;(grind);grind
def fQ(l m:cU):cU:=m.foldl lO l
def gV.fQ(h:gV e)(b:∀a∈K,a.key≠⟨#[]⟩):gV (fQ e K):=by
 induction K generalizing e with
 |nil=>exact h
 |cons a r c=>exact c (h.lO<|b a<|by simp)<|by grind
theorem yL(a:w∈fQ e K):w∈e\/w∈K:=by
 induction K generalizing e with
 |nil=>exact .inl a
 |cons c r b=>
  rcases b a with q|q
  .grind[mD]
  grind
def Rl(h:gV e)(f:∀a∈K,a.key≠⟨#[]⟩)(c:∀a∈K,a.bQ=k)(d:N<k):kq N (fQ e K)=kq N e:=by
 induction K generalizing e with
 |nil=>rfl
 |cons a r g=>
  have b:=f a (by simp);exact(g (h.lO b) (by grind)<|by grind).trans<|OG h b (by rw[c a<|by simp];exact d)
def Rn(i:gV e)(g:∀a∈K,a.key≠⟨#[]⟩)(f:∀a∈K,a.bQ=k)(j:k<=N)(l:∀x∈e,x.bQ<=k):kq N (fQ e K)=gT (kq N e) K:=by
 induction K generalizing e with
 |nil=>rfl
 |cons a r h=>
  have b:=g a (by simp);have m:=f a (by simp);have c:=h (i.lO b) (by grind) (by grind) (λx a=>by
   grind[mD])
  have d:=OH i b (b:=N) (by omega) (by grind);exact c.trans (by rw[d];rfl)
theorem Si(h:gV e)(a:∀x∈e,x.bQ<=k)(b:k<=N):kq N e=kq k e:=by
 refine(mZ h N).ext (mZ h k) λx=>?_;rw[jz h,jz h];grind
def uu(e:E):dX->dX
 |(x::g)::a=>if x.key=e.key then(e::x::g)::a else [e]::(x::g)::a
 |a=>[e]::a
def iA:cU->dX
 |[]=>[]
 |e::r=>uu e<|iA r
theorem BM(l:cU):∀g∈iA l,g≠[]:=by
 induction l with
 |nil=>intro g a;cases a
 |cons e r b=>
  intro g a;unfold iA uu at a;grind
theorem oN(l:cU):(iA l).flatten=l:=by
 induction l with
 |nil=>rfl
 |cons e r a=>
  unfold iA uu;grind
theorem zx(l:cU):∀g∈iA l,∀x∈g,∀a∈g,x.key=a.key:=by
 induction l with
 |nil=>intro g b;cases b
 |cons e r d=>
  intro g b;have c:∀x∈[e],∀a∈[e],x.key=a.key:=by simp
  unfold iA uu at b;grind
def Jh(e:E)(r:cU):∃g a,iA (e::r)=(e::g)::a:=by
 unfold iA uu;split;split;(grind);grind
 grind
def KC(e:E)(a b:dX)(h:a≠[]):uu e (a++b)=uu e a++b:=by
 cases a with
 |nil=>grind
 |cons g a=>
  cases g with
  |nil=>rfl
  |cons x g=>
   simp only[cR,uu];split<;>rfl
def NF(p s:cU)(h:∀c∈p.getLast?,∀b∈s.head?,c.key≠b.key):iA (p++s)=iA p++iA s:=by
 induction p with
 |nil=>rfl
 |cons e r g=>
  cases r with
  |nil=>
   cases s with
   |nil=>rfl
   |cons b s=>
    have f:e.key≠b.key:=h e (by simp) b (by simp);obtain⟨i,d,a⟩:=Jh b s;show uu e (iA<|b::s)=[[e]]++iA (b::s);rw[a];simp only[uu];rw[dt<|λc=>f c.symm];rfl
  |cons x r=>
   have:=g<|λc a b d=>h c (by simpa using a) b d;show uu e (iA<|(x::r)++s)=uu e (iA<|x::r)++iA s;rw[this,KC];obtain⟨i,d,a⟩:=Jh x r;rw[a];simp
def WN(h:e≠[])(b:∀x∈e,∀a∈e,x.key=a.key):iA e=[e]:=by
 induction e with
 |nil=>grind
 |cons d r c=>
  cases r with
  |nil=>rfl
  |cons x r=>
   have:=c (by simp) (λd f e g=>b d (by grind) e<|by grind);show uu d (iA<|x::r)=_;rw[this];simp only[uu];rw[di<|b x (by simp) d<|by simp]
theorem rB(a:ci U)(p:Option E)(e:E)(r:cU):mj a p (e::r)=if pX a p e then e::mj a (H e) r else mj a (H e) r:=rfl
def AK(e:E)(r:cU):ij (e::r)=if e.del&&!((ij r).any λa=>decide<|a.key=e.key)then ij r else e::ij r:=rfl
def Km(a:ci U)(l s:cU):∀p:Option E,(∀c,(p.toList++l).getLast?=H c->∀b∈s.head?,c.key≠b.key)->mj a p (l++s)=mj a p l++mj a none s:=by
 induction l with
 |nil=>
  intro p h;cases s with
  |nil=>rfl
  |cons b s=>
   cases p with
   |none=>rfl
   |some q=>
    have f:q.key≠b.key:=h q (by simp) b (by simp);show mj a (H q) (b::s)=mj a none (b::s);have d:pX a (H q) b=cf:=by simp[pX,f]
    have e:pX a none b=cf:=rfl;rw[rB,rB,di d,di e]
 |cons i r g=>
  intro p h;have:=g (H i) (λc a b d=>h c (by
   grind) b d)
  grind[rB]
def DZ(a:ci U)(l s:cU)(h:∀b∈l.getLast?,∀c∈s.head?,b.key≠c.key):dZ a (l++s)=dZ a l++dZ a s:=Km a l s none<|by grind
def OE(l s:cU)(h:∀a∈l,∀f∈s,a.key≠f.key):ij (l++s)=ij l++ij s:=by
 induction l with
 |nil=>rfl
 |cons e r d=>
  have b:=d (λa c=>h a<|by simp[c]);show ij (e::(r++s))=_;rw[AK,AK,b,List.any_append];have c:((ij s).any λa=>decide<|a.key=e.key)=bw:=by
   rw[List.any_eq_false];grind[kF]
  rw[c,Bool.or_false];split<;>rfl
def vZ(g:cU):cU:=(g.reverse.dropWhile<|λe=>e.del).reverse
def Iq(g:cU)(e:E):vZ (g++[e])=if e.del then vZ g else g++[e]:=by
 unfold vZ;simp only[List.reverse_append,uL,List.reverse_nil,du,jQ,List.dropWhile_cons];split<;>simp
def Sx(e:E)(g:cU):vZ (e::g)=if vZ g=[]then(if e.del then []else [e])else e::vZ g:=by
 unfold vZ;rw[uL,List.dropWhile_append];cases hq:g.reverse.dropWhile (λe=>e.del)with
 |nil=>
  simp[List.dropWhile_cons];split<;>simp_all
 |cons x r=>simp
def Yc(d:∀x∈e,∀a∈e,x.key=a.key):ij e=vZ e:=by
 induction e with
 |nil=>rfl
 |cons f r g=>
  have c:=g (λe a f b=>d e (by simp[a]) f<|by simp[b]);rw[AK,c,Sx];have b:∀a∈vZ r,a.key=f.key:=λa e=>d a (by rw[<-c]at e;simp[(kF r).subset e]) f (by simp);cases ht:vZ r with
  |nil=>simp
  |cons x t=>
   have:x.key=f.key:=b x (by rw[ht];simp);simp[this]
def FA{rest:dX}{b:ci U}(h:gV e)(a:∀c∈K,c.key≠⟨#[]⟩)(d:∀c∈K,c.bQ=k+1)(f:N∈b)(g:N<=k):(dZ b (fQ e K)::rest).map (kq N)=(e::rest).map (kq N):=by
 simp only[bR];rw[Ch (h.fQ a)<|.inl f,Rl h a d<|by omega]
def yw{rest:dX}{ms:ci U}(h:gV e)(i:∀r∈rest,gV r)(a:∀b∈K,b.key≠⟨#[]⟩)(d:∀b∈K,b.bQ=k+1)(f:∀x∈e,x.bQ<=k)(g:∀r∈rest,∀x∈r,x.bQ<=k):(dZ ms (fQ e K)::rest).map (kq<|k+1)=gT (kq k e) K::rest.map (kq k):=by
 simp only[bR];have c:∀x∈fQ e K,x.bQ<=k+1:=by grind[yL]
 rw[Ch (h.fQ a)<|.inr c,Rn h a d (sa _) (by grind),Si h f<|by omega];grind[map_congr_left,Si]
def JX{rest:dX}{a:ci U}(h:gV e)(b:k∈a\/∀x∈e,x.bQ<=k):(dZ a e::rest).map (kq k)=(e::rest).map (kq k):=by
 grind[Ch]
def Uo(d:∀r∈m,gV r)(c:jX m)(b:U)(k:ae):sK [kq b<|de m] k=sK (m.map<|kq b) k:=by
 have f:∀r∈m.map (kq b),wH r:=λr h=>by grind[mZ]
 have a:∀k e,sK (m.map<|kq b) k=H e->e.key=k:=λk e q=>((RW f<|MW c d b).1 q).2;rw[qH,zA,tN];have g:=oq d c;cases hf:sK (m.map<|kq b) k with
 |some e=>
  have:=a k e hf;grind[oB,mZ,yM]
 |none=>
  grind[pJ,yM]
def gX(b:ci U)(a:Bool)(c:dX):cU:=if a then ij (dZ b<|de c)else dZ b (de c)
def Az(c:ci U)(a:Bool)(b:dX):∀x∈gX c a b,x∈b.flatten:=by
 intro x d;have e:x∈dZ c (de b):=by unfold gX at d;grind[kF]
 grind[fi,jy]
def Gf(d:∀r∈m,gV r)(c:jX m)(b:ci U)(a:Bool):gV (gX b a m):=by
 unfold gX;split;exact((oq d c).Na b).bare;exact(oq d c).Na b
def BD{D:dX}(e:∀r∈m,gV r)(d:jX m){a:ci U}(i:k∈a\/∀x∈m.flatten,x.bQ<=k)(h:S=cf->∀f,sK (D.map<|kq k) f=none):Co (m.map<|kq k) [kq k<|gX a S m] (D.map<|kq k):=by
 have c:=oq e d;have b:k∈a\/∀x∈de m,x.bQ<=k:=i.imp_right λq x c=>q x<|(fi m).mem_iff.1 c;have g:kq k (dZ a<|de m)=kq k (de m):=Ch c b;intro f;rw[<-Uo e d k f,<-g];unfold gX;cases S with
 |false=>exact .inl rfl
 |true=>exact Qr (c.Na a) (h rfl) k f
def DB(h:gV (e++K))(l:∀k∈e,∀b∈K,k.key≠b.key)(b:U):kq b (e++K)=kq b e++kq b K:=by
 have c:gV e:=h.sub (by simp);have d:gV K:=h.sub (by simp);have a:wH (kq b e++kq b K):=by refine aZ.2 ⟨mZ c b,mZ d b,λx g f i=>?_⟩;rcases jL.1 ((aZ.1 h.mJ).2.2 x (AL c g) f<|AL d i)with j|⟨j,_⟩;exact j;grind[AL]
 refine(mZ h b).ext a λx=>?_;rw[aA,jz h,jz c,jz d];grind
def ZM(g:∀r∈m,gV r)(e:jX m)(b:ae)(j:U):∀x,x∈oA ⟨#[]⟩ ((de<|m.map<|gm b).filter<|λk=>decide<|k.bQ<=j)↔sK (m.map<|kq j) x.key=H x/\jj x.key b=bw:=by
 have c:∀r∈m.map (gm b),∃s∈m,r=gm b s:=λr o=>by grind
 have h:∀r∈m.map (gm b),gV r:=λr o=>by obtain⟨s,l,rfl⟩:=c r o;exact(g s l).sub eY
 have f:jX (m.map<|gm b):=by unfold jX;rw[gW];exact e.imp λ{r s}q x b a c k=>q x (eK.1 b).1 a (eK.1 c).1 k
 intro x;have n:=oq h f;have d:=oq g e;have i:∀a,a∈de (m.map<|gm b)↔a∈de m/\jj a.key b=bw:=λa=>((fi _).mem_iff.trans Wu).trans<|and_congr_left λ_=>(fi m).mem_iff.symm;show x∈kq j (de<|m.map<|gm b)↔_;rw[<-yM g e,jz n,jz d];grind
def ii(g h:cU):Prop:=∀x∈g,∀a∈h,jj x.key a.key=cf
def Dh(u:eh e):(iA e).Pairwise ii:=by
 induction e with
 |nil=>exact List.Pairwise.nil
 |cons t r b=>
  obtain⟨n,o⟩:=bz.1 u;have b:=b o;unfold iA uu;split
  .rename_i x j g f;have h:(x::j)++g.flatten=r:=by have:=oN r;rw[f]at this;grind
   have a:∀b∈x::j,b.key=x.key:=λb c=>zx r (x::j) (by rw[f];simp) b c x (by simp);rw[f]at b;split
   .rename_i i;obtain⟨l,p⟩:=bz.1 b;refine bz.2 ⟨λs c q k m d=>?_,p⟩;have:=l s c x (by simp) m d;grind
   .rename_i i;refine bz.2 ⟨λs c q k m d=>?_,b⟩;rw[cL.1 k];have l:jj t.key x.key=cf:=by
     rcases jL.1 (n x (by rw[<-h];simp))with p|⟨p,_⟩
     .exact p
     grind
    rcases bM.1 c with rfl|c
    .rw[a m d];exact l
    .exact la l<|(bz.1 b).1 s c x (by simp) m d
  .rename_i g f;have a:iA r=[]:=by
    cases i:iA r with
    |nil=>rfl
    |cons j g=>
     cases j with
     |nil=>exact absurd rfl<|BM r [] (by rw[i];simp)
     |cons x j=>grind
   rw[a];grind
def jO(n L:M):M->M->cU->dX->dX
 |_,_,_,[]=>[]
 |k,b,a,g::c=>
  if(k+1)*L/n<=b+y g then(a++g)::jO n L (k+1) (b+y g) [] c
  else jO n L k (b+y g) (a++g) c
theorem oo(n L k b:M)(a g:cU)(c:dX):jO n L k b a (g::c)=if(k+1)*L/n<=b+y g then(a++g)::jO n L (k+1) (b+y g) [] c else jO n L k (b+y g) (a++g) c:=rfl
def Pm{n L:M}(i:0<n):∀(c:dX)(k d:M)(a:cU),d+y c.flatten=L->(k<n\/(c.flatten=[]/\a=[]))->(a≠[]->d<(k+1)*L/n)->(jO n L k d a c).flatten=a++c.flatten:=by
 intro c;induction c with
 |nil=>
  intro k d a f b g;have:a=[]:=by
   rcases b with b|b
   .by_cases e:a=[]
    .exact e
    .have:=g e;have h:(k+1)*L/n<=L:=Nat.div_le_of_le_mul<|Nat.mul_le_mul_right L b;grind
   .exact b.2
  rw[this];rfl
 |cons m c j=>
  intro k d a f b g;simp only[bW,af]at f b;rw[oo];split
  .rename_i e;rw[bW,j (k+1) (d+y m) [] (by omega) ?_<|λq=>absurd rfl q]
   .simp
   .rcases b with b|b
    .by_cases h:k+1<n
     .exact .inl h
     .have l:k+1=n:=by omega
      rw[l,Nat.mul_div_cancel_left L i]at e;exact .inr ⟨aS (by omega),rfl⟩
    grind[append_eq_nil_iff]
  grind[append_eq_nil_iff]
def Md:∀(d:dX)(k e:M)(a:cU),(∀g∈d,g≠[])->∀p∈jO b c k e a d,p≠[]:=by
 intro d;induction d with
 |nil=>intro k e a _ p f;cases f
 |cons g d h=>
  grind[oo,append_eq_nil_iff]
def SI{n L F V:M}(l:0<n)(hF:L<=n*F)(h:0<F):∀(c:dX)(k e:M)(a:cU),(∀g∈c,y g<=V+1)->k*L/n+y a<=e->(a≠[]->e<(k+1)*L/n)->∀p∈jO n L k e a c,y p<=F+V:=by
 intro c;induction c with
 |nil=>intro k e a _ _ _ p b;cases b
 |cons g c r=>
  intro k e a i m o p b;have j:=i g (by simp);have f:(k+1)*L/n<=k*L/n+F:=by
   have:(k+1)*L<=k*L+n*F:=by rw[Nat.add_mul,Nat.one_mul];omega
   exact aB (Nat.div_le_div_right this)<|AZ<|Nat.add_mul_div_left _ _ l
  rw[oo]at b;split at b
  .rename_i q;rcases bM.1 b with rfl|b
   .rw[af];by_cases d:a=[]
    .rw[d];simp;omega
    grind
   grind
  grind
def Pk:∀(f:dX)(m g:M)(a:cU),f.Pairwise ii->(∀n∈f,ii a n)->(jO b c m g a f).Pairwise ii/\∀w∈jO b c m g a f,∀x∈w,x∈a\/x∈f.flatten:=by
 intro f;induction f with
 |nil=>intro m g a _ _;exact⟨List.Pairwise.nil,λw j=>by cases j⟩
 |cons n f s=>
  intro m g a j p;obtain⟨t,u⟩:=bz.1 j;rw[oo];split
  .obtain⟨r,v⟩:=s (m+1) (g+y n) [] u (λ_ _ x d=>by cases d);refine⟨bz.2 ⟨λq A x d e k=>?_,r⟩,λw j x d=>?_⟩
   .have l:e∈f.flatten:=(by grind);obtain⟨o,h,i⟩:=bC.1 l;rcases aA.1 d with d|d
    .exact p o (by simp[h]) x d e i
    .exact t o h x d e i
   grind
  .obtain⟨r,v⟩:=s m (g+y n) (a++n) u (λo h x d e k=>by
    rcases aA.1 d with d|d
    .exact p o (by simp[h]) x d e k
    .exact t o h x d e k)
   grind
def Kl(a:ci U)(k:eh e)(n:∀x∈e,∀g∈e,x.key=g.key):∀p:Option E,eh (p.toList++e)->(∀q∈p,∀x∈e,q.key=x.key)->y (mj a p e)<=y (a.filter (λm=>match p with|none=>cf|some q=>decide<|m<q.bQ))+(if p=none then 1 else 0):=by
 induction e with
 |nil=>intro p _ _;simp[mj]
 |cons c r f=>
  intro p i d;have f:=f (k.sub<|by simp) (by grind) (H c) k (by grind);simp only[reduceCtorEq,rX,kL]at f;rw[rB];cases p with
  |none=>
   have b:pX a none c=cf:=rfl;rw[di b];simp only[aO,nH];grind[filter_eq_self,length_filter_le,Nat.succ_le_succ,Nat.le_trans]
  |some q=>
   have l:c.bQ<q.bQ:=by
    rcases jL.1 ((aZ.1 i).2.2 q (by simp) c<|by simp)with h|⟨_,h⟩
    .rw[d q rfl c (by simp),fT]at h;cases h
    .exact h
   have j:y (mj a (H c) r)<=y (a.filter<|λm=>decide<|m<c.bQ):=f;simp only[reduceCtorEq,rX,kL];show _<=y (a.filter<|λm=>decide<|m<q.bQ);have b:∀a:ci U,y (a.filter<|λm=>decide<|m<c.bQ)+y (a.filter<|λm=>decide (c.bQ<=m)&&decide (m<q.bQ))=y (a.filter<|λm=>decide<|m<q.bQ):=by
    intro a;induction a with
    |nil=>rfl
    |cons m a h=>
     grind
   have o:=b a;split
   .rename_i h;simp only[pX,d q rfl c (by simp),uJ,vz,zR]at h;have:0<y (a.filter<|λm=>decide (c.bQ<=m)&&decide (m<q.bQ)):=by
     simp_all
    grind
   .omega
def XI{α:Type}{l:ci α}{p:α->Bool}(h:l.Pairwise (λa b=>p b=cf->p a=cf)):l.take (l.countP p)=l.filter p/\l.drop (l.countP p)=l.filter (λx=>!p x):=by
 induction l with
 |nil=>simp
 |cons x r e=>
  obtain⟨c,d⟩:=bz.1 h;grind
def lF(l:cU)(e:E):M:=l.countP<|λx=>ahead x e
def Kd(l:cU)(e:E):lF l e<=y l:=List.countP_le_length
def eh.cut(h:eh e)(a:E):e.take (lF e a)=e.filter (λx=>ahead x a)/\e.drop (lF e a)=e.filter (λx=>!ahead x a):=XI<|h.imp λ{_ _}q c=>vp q c
def eh.mono(h:eh e){i j:M}(a:i<=j)(c:j<y e)(d:ahead e[j] w=cf):ahead (e[i]'(by omega)) w=cf:=by
 rcases mR a with g|g;exact vp (cV.1 h i j (by omega) c g) d;grind
def YU(f:b<=y e)(c:∀t(a:t<y e),t<b->ahead e[t] w=cf)(d:∀t(a:t<y e),b<=t->ahead e[t] w=bw):lF e w=b:=by
 unfold lF;rw[<-bO b e,List.countP_append];have g:(e.take b).countP (λx=>ahead x w)=b:=by rw[List.countP_eq_length.2];simp;omega;grind[getElem_of_mem]
 grind[countP_eq_zero,getElem_of_mem]
def QE(l:eh e)(k v:ae)(f:Bool)(b:U):iI b e k=if c:∃a:lF e ⟨k,v,f,b⟩<y e,e[lF e ⟨k,v,f,b⟩].key=k then H (e[lF e ⟨k,v,f,b⟩]'c.1)else none:=by
 induction e with
 |nil=>simp[iI]
 |cons x r d=>
  obtain⟨m,h⟩:=bz.1 l;have d:=d h;unfold iI at d|-;cases ha:ahead x ⟨k,v,f,b⟩with
  |true=>
   have a:lF (x::r) ⟨k,v,f,b⟩=lF r ⟨k,v,f,b⟩+1:=List.countP_cons_of_pos (p:=λx=>ahead x ⟨k,v,f,b⟩) ha;have g:(decide (x.key=k)&&decide (x.bQ<=b))=bw:=by
    grind[jL,qE]
   rw[List.find?_cons_of_neg (by simpa using g),d];simp[a]
  |false=>
   have a:lF (x::r) ⟨k,v,f,b⟩=0:=by
    refine List.countP_eq_zero.2 λj n=>?_;grind[xp,lS]
   obtain⟨o,i⟩:=ny ha;by_cases g:x.key=k
   .have j:=i g;rw[List.find?_cons_of_pos<|by grind];simp[a,g]
   grind[nN,jL,lH,find?_eq_none]
def Tq(h:eh e)(a v:ae)(d:Bool)(b:∀x∈e,x.bQ<=k):e.drop (lF e ⟨a,v,d,k⟩)=gm a e:=by
 rw[(h.cut _).2];refine uM λx c=>?_;congr 1;rw[Bool.eq_iff_iff,jL];grind
def Sq(h:eh e)(a:E)(b:lF e a<y e)(f:e[lF e a].key=a.key)(c:e[lF e a].bQ=a.bQ):e.set (lF e a) a=lO e a:=by
 unfold lO;rw[jq,di b,(h.cut a).1];congr 2;have d:=(h.cut a).2;rw[bJ b]at d;have j:eh (e[lF e a]::e.drop (lF e a+1)):=by rw[<-bJ b];exact h.sub<|lM _ _
 have l:=(bz.1 j).1;have i:ahead a e[lF e a]=bw:=by unfold ahead;simp[f,c,fT]
 have m:∀b,ahead e[lF e a] b=ahead a b:=λb=>by unfold ahead;rw[f,c]
 generalize e[lF e a]=k at*;have g:e.filter (λx=>ahead a x)=(e.filter<|λx=>!ahead x a).filter (λx=>ahead a x):=by rw[List.filter_filter];grind[filter_congr,lS]
 rw[g,<-d,fC (by simp[i]),fK.2];grind
def Ss(h:eh e)(a:E)(b:∀x∈e,¬(x.key=a.key/\x.bQ=a.bQ)):e.take (lF e a)++a::e.drop (lF e a)=lO e a:=by
 unfold lO;rw[(h.cut a).1,(h.cut a).2];grind[filter_congr,lS,zI]
def eh.G7(j:eh e)(a:E)(k:∀d:lF e a<y e,¬(e[lF e a].key=a.key/\e[lF e a].bQ=a.bQ)):∀x∈e,¬(x.key=a.key/\x.bQ=a.bQ):=by
 rintro x o⟨i,h⟩;have f:ahead x a=bw:=by unfold ahead;simp[i,h,fT]
 have c:x∈e.drop (lF e a):=by rw[(j.cut a).2];simp[o,f]
 have d:lF e a<y e:=by grind[Nat.lt_or_ge,drop_eq_nil_of_le]
 have p:=(j.cut a).2;rw[bJ d]at c p;have g:ahead e[lF e a] a=bw:=by grind[mem_cons_self]
 have n:eh (e[lF e a]::e.drop (lF e a+1)):=by rw[<-bJ d];exact j.sub<|lM _ _
 have l:=k d;generalize e[lF e a]=b at*;rcases bM.1 c with rfl|c;grind
 have:=(bz.1 n).1 x c;(have m:ahead b x=ahead b a:=by unfold ahead;rw[i,h]);rw[m,g]at this;cases this
def eh.WO(h:eh e)(a:b<=c)(f:c<y e):jj e[c].key (e[b]'(by omega)).key=bw:=by
 rcases mR a with d|d;exact(ny<|lS<|cV.1 h b c (by omega) f d).1;subst d;exact fT _
def eh.EN(h:eh e)(a:0<y e)(b:w∈e):jj (e[y e-1]'(by omega)).key w.key=bw:=by
 obtain⟨i,c,rfl⟩:=eC b;exact h.WO (by omega)<|by omega
def eh.yW(h:eh e)(a:0<y e)(c:w∈e):jj w.key (e[0]'a).key=bw:=by
 obtain⟨i,b,rfl⟩:=eC c;exact h.WO (bK i) b
def Aa(b:U)(l s:cU)(k:ae):iI b (l++s) k=(iI b l k).or (iI b s k):=List.find?_append
def rQ{l:cU}(h:∀x∈l,x.key≠r):iI k l r=none:=mS.2<|by grind
def BX{cs:dX}{k:ae}{i:M}(f:i<y cs)(p:∀x∈cs.flatten,x.key=k->∃q:i<y cs,x∈cs[i])(e:cs.Pairwise ii)(n:U):iI n cs.flatten k=iI n cs[i] k:=by
 have o:cs.flatten=(cs.take i).flatten++(cs[i]++(cs.drop<|i+1).flatten):=by grind[take_append_drop,drop_eq_getElem_cons,flatten_append,flatten_cons]
 have m:∀j(b:j<y cs),j≠i->∀x∈cs[j],x.key≠k:=by intro j b c x d h;obtain⟨_,a⟩:=p x (bC.2 ⟨_,ar b,d⟩) h;rcases Nat.lt_or_gt_of_ne c with g|g;have:=cV.1 e j i b f g x d x a;rw[fT]at this;cases this;have:=cV.1 e i j f b g x a x d;rw[fT]at this;cases this
 rw[o,Aa,Aa,rQ,rQ (l:=(cs.drop<|i+1).flatten)];simp;grind[mem_flatten,getElem_of_mem]
 grind[mem_flatten,getElem_of_mem]
def ou:M->dX->ci (M×cU)
 |_,[]=>[]
 |n,g::a=>(n,g)::ou (n+y g) a
def iB(a:ci (M×cU)):cU:=(a.map (·.2)).flatten
def Di:∀(n:M)(a:dX),(ou n a).map (·.2)=a
 |_,[]=>rfl
 |n,g::a=>by rw[ou,bR,Di]
def BV(l:cU):iB (ou 0<|iA l)=l:=by unfold iB;rw[Di,oN]
def zy:∀(b:dX)(k n:M)(a:ci (M×cU))(g:cU),(a++[(n,g)])<+:ou k b->n=k+y (iB a)/\(a.map (·.2)++[g])<+:b
 |[],k,n,a,g,h=>by
  have:=h.length_le;simp[ou]at this
 |g0::b,k,n,a,g,h=>by
  rw[ou]at h;cases a with
  |nil=>
   obtain⟨s,c⟩:=h;simp at c;obtain⟨⟨rfl,rfl⟩,c⟩:=c;exact⟨by simp[iB],by simp⟩
  |cons p a=>
   rw[cR,qW]at h;obtain⟨e,f⟩:=h;obtain⟨c,d⟩:=zy b _ n a g f;subst e;refine⟨?_,?_⟩
   .rw[c];simp[iB];omega
   .simp[d]
structure OQ(l p g s:cU):Prop where
 all:l=p++g++s
 ne:g≠[]
 same:∀x∈g,∀yqq∈g,x.key=yqq.key
 low:ii p g
 wz:ii g s
def KB(m:eh e){a:ci (M×cU)}(r:(a++[(b,K)])<+:ou 0 (iA e)):b=y (iB a)/\∃s,OQ e (iB a) K s:=by
 obtain⟨q,t,i⟩:=zy _ _ _ _ _ r;have h:=Dh m;have k:K∈iA e:=by rw[<-i];simp
 have j:=oN e;rw[<-i]at h j;rw[bj]at h;obtain⟨_,n,o⟩:=aZ.1 h;refine⟨by omega,t.flatten,⟨by rw[<-j];simp[iB],BM e K k,zx e K k,λx d c f=>?_,λx d c f=>?_⟩⟩;obtain⟨l,g,d⟩:=bC.1 d;exact o l g K (by simp) x d c f;obtain⟨l,g,f⟩:=bC.1 f;(have p:(K::t).Pairwise ii:=by simpa using n);exact(bz.1 p).1 l g x d c f
def uv(a:ci (M×cU))(n:M)(g:cU):iB (a++[(n,g)])=iB a++g:=by simp[iB]
def ii.ne(h:ii e K):∀a∈e,∀b∈K,a.key≠b.key:=λa c b d=>qE<|h a c b d
def OQ.Na{g s:cU}(h:OQ e K g s)(a:ci U):dZ a (K++g)=dZ a K++dZ a g:=DZ a K g<|λd b f c=>h.low.ne d (List.mem_of_getLast? b) f<|List.mem_of_head? c
def OQ.bare{g s:cU}(h:OQ e K g s):ij (K++g)=ij K++vZ g:=by rw[OE K g h.low.ne,Yc h.same]
def Qe(a:ci U)(l:cU)(x:E):∀p:Option E,mj a p (l++[x])=mj a p l++(if pX a ((p.toList++l).getLast?) x then [x]else []):=by
 induction l with
 |nil=>intro p;cases p<;>simp[mj]
 |cons e r b=>
  intro p;rw[cR,rB,rB,b<|H e];have:(p.toList++e::r).getLast?=((H e).toList++r).getLast?:=by grind
  rw[this];split<;>simp
def wanted(a:ci U)(g:cU)(i:M)(h:i<y g):Bool:=decide (i=0)||a.any (λm=>decide (g[i].bQ<=m)&&decide (m<(g[i-1]'(by omega)).bQ))
def TE{ms:ci U}(c:∀x∈e,∀a∈e,x.key=a.key)(h:b<y e):dZ ms (e.take<|b+1)=dZ ms (e.take b)++(if wanted ms e b h then [e[b]]else []):=by
 rw[ah h];unfold dZ;rw[Qe];congr 2;simp only[Option.toList_none,du];cases b with
 |zero=>simp[pX,wanted]
 |succ b=>
  have d:(e.take<|b+1).getLast?=H e[b]:=by
   grind
  rw[d];have:=c e[b] (ar _) e[b+1]<|ar _;simp[pX,wanted,this]
def Sv(f:b<=y e)(h:vZ e=vZ (e.take b))(a:b=0\/∃h:b-1<y e,e[b-1].del=bw):vZ e=e.take b:=by
 rw[h];rcases a with rfl|⟨c,d⟩;simp[vZ]
 .cases b with
  |zero=>simp[vZ]
  |succ b=>
   rw[ah (by omega),Iq];grind
def Sw(c:b<y e)(a:e[b].del=cf):vZ (e.take<|b+1)=vZ (e.take b):=by
 rw[ah c,Iq,di a]
def rH(n:M)(l:cU):Prop:=∀k,y (l.filter<|λx=>decide<|x.key=k)<=n
def rH.sub(h:rH b K)(s:e.Sublist K):rH b e:=λk=>aB (s.filter _).length_le<|h k
def rH.mono(h:rH c e)(a:c<=l):rH l e:=λk=>aB (h k) a
def rH.nil(n:M):rH n []:=λ_=>bK _
def rH.keys(h:rH b e):∀g∈iA e,y g<=b:=by
 intro g c;have d:g.Sublist e:=by have:=dw c;rwa[oN]at this
 cases g with
 |nil=>grind
 |cons f r=>
  have a:=h.sub d f.key;rw[fK.2<|λx c=>by grind[zx]]at a;exact a
def MZ(c:ci U):∀a:dX,a.Pairwise ii->dZ c a.flatten=(a.map<|dZ c).flatten:=by
 intro a;induction a with
 |nil=>intro _;rfl
 |cons m a h=>
  intro k;obtain⟨d,e⟩:=bz.1 k;rw[bW,bR,bW,<-h e];refine DZ c _ _<|λi l j f=>?_;obtain⟨q,g,b⟩:=bC.1<|List.mem_of_mem_head? f;exact qE<|d q g i (by grind) j b
def zk{a:ci U}(n:eh e):rH (y a+1) (dZ a e):=by
 have m:=Dh n;have l:=zx e;have b:∀g∈iA e,eh g:=λg a=>n.sub (by have:=dw a;rwa[oN]at this);intro r;rw[<-oN e,MZ a _ m];generalize iA e=f at*;induction f with
 |nil=>simp
 |cons g f j=>
  obtain⟨t,u⟩:=bz.1 m;have j:=j u (λq c=>l q<|by simp[c]) (λq c=>b q<|by simp[c]);rw[bR,bW,li,af];by_cases A:∃x∈g,x.key=r
  .obtain⟨x,v,w⟩:=A;have s:(f.map<|dZ a).flatten.filter (λx=>decide<|x.key=r)=[]:=by
    rw[ie];intro d o;obtain⟨q,c,i⟩:=bC.1 o;obtain⟨p,h,rfl⟩:=bH.1 c;have:=qE<|t p h x v d<|(jy a p).subset i;grind
   rw[s];have k:=Kl a (b g<|by simp) (l g<|by simp) none (by grind) (λq c=>by cases c);have B:=eW (λx=>decide<|x.key=r)<|dZ a g;have C:y (a.filter<|λ_=>cf)<=y a:=eW _ _;simp only[nH]at k;have D:y (dZ a g)<=y (a.filter<|λ_=>cf)+1:=k;grind
  .have s:(dZ a g).filter (λx=>decide<|x.key=r)=[]:=by
    rw[ie];intro d o;simp only[qe];grind[jy]
   rw[s];simpa using j
def sJ(L:M):M:=(L+95)/96
def gJ(l:cU):dX:=jO (sJ<|y l) (y l) 0 0 []<|iA l
def xq(h:e≠[]):0<sJ (y e):=by
 have:=gN.2 h;unfold sJ;omega
def wY(l:cU):(gJ l).flatten=l:=by
 by_cases c:l=[];subst c;rfl;have h:=Pm (n:=sJ<|y l) (L:=y l) (xq c) (iA l) 0 0 [] (by rw[oN];simp) (.inl<|xq c)<|λq=>absurd rfl q;rw[oN]at h;simpa[gJ]using h
def FO(l:cU):∀p∈gJ l,p≠[]:=Md _ _ _ _<|BM l
def Da(h:K∈gJ e):K.Sublist e:=by
 have:=dw h;rwa[wY]at this
def FN(h:eh e):(gJ e).Pairwise ii:=(Pk _ _ _ _ (Dh h)<|λ_ _ x a=>by cases a).1
def Tt(h:rH 5 e):∀p∈gJ e,y p<=100:=by
 by_cases c:e=[];subst c;intro p a;cases a;(have a:y e<=sJ (y e)*96:=by unfold sJ;omega);exact SI (F:=96) (V:=4) (xq c) a (by omega) _ 0 0 [] h.keys (by simp)<|λq=>absurd rfl q
def Ed{ps:dX}(h:∀p∈ps,p≠[]):y ps<=y ps.flatten:=by
 induction ps with
 |nil=>grind
 |cons p r b=>
  have a:=gN.2 (h p<|by simp);have c:=b (λq a=>h q<|by simp[a]);grind
def uX(l:cU):y (gJ l)<=y l:=by
 have:=Ed<|FO l;rwa[wY]at this
def xE(l:cU):∀a,(oA a l).Sublist l:=by
 induction l with
 |nil=>intro a;exact List.Sublist.slnil
 |cons e r b=>
  intro a;unfold oA;grind
def Xg(b:ae)(a:dX):y (a.map<|gm b).flatten<=y a.flatten:=by
 induction a with
 |nil=>simp
 |cons r a c=>
  have h:y (gm b r)<=y r:=eW _ _;grind
def Zt(h:sK m r=H w):w.key=r:=by
 unfold sK at h;obtain⟨b,_,a⟩:=qm h;have:=xJ a;grind
def RX(h:sK m r=H w):w∈m.flatten:=by
 unfold sK at h;obtain⟨c,b,a⟩:=qm h;exact bC.2 ⟨c,b,lE a⟩
def Up(h:∀r∈m,r=[])(k:ae):sK m k=none:=by
 cases c:sK m k with
 |none=>rfl
 |some e=>
  obtain⟨r,b,a⟩:=bC.1<|RX c;rw[h r b]at a;cases a
abbrev KV:=ae×ae
abbrev jt:=ci KV
def tj(p:KV):ix:=[am p.1,am p.2]
def jS(l:ci KV):ix:=l.flatMap tj
def qD(l:ci KV)(i:M)(h:i<y l):(jS l)[i*2]?=H (am l[i].1)/\(jS l)[i*2+1]?=H (am l[i].2):=by
 induction l generalizing i with
 |nil=>simp at h
 |cons p r a=>
  cases i with
  |zero=>simp[jS,tj]
  |succ i=>
   have:=a i (by simpa using h);have e:(i+1)*2=i*2+2:=by omega
   rw[e];simpa[jS,tj]using this
def Row(w:Y)(c:M)(v:ab)(n:M)(d:ix):Prop:=y d=n*c/\((v=az/\n=0)\/∃e a b,v=bI e a n b/\n<=b/\∀j u,d[j]?=H u->aW w (R e<|a+j)=H u)
def sC(w:Y)(v:ab)(l:ci KV):Prop:=Row w 2 v (y l)<|jS l
def NJ:(prog.info? 207).map (λi=>(i.zero,i.size,i.bytes))=H (H<|dL #[am ⟨#[]⟩,am ⟨#[]⟩],2,32):=by kernel_rfl
theorem Pb{b:ae}(h:r.toList=b.toList):r=b:=by
 rw[sR,sR]at h;exact bytes_inj h
def Ay{b:ae}(h:¬r=b):(r.toList==b.toList)=bw:=by
 rw[oT];grind[Pb]
def NW(a k:ae):Bool:=!Op.bytesLess a.toList k.toList
def fH(k v:ae)(a:ci KV×Bool)(p:KV):ci KV×Bool:=let b:=if !a.2&&NW p.1 k then a.1++[(k,v)]else a.1;(if p.1=k then b else b++[p],a.2||NW p.1 k)
def oP(k v:ae)(d:Bool)(l:ci KV):ci KV×Bool:=l.foldl (fH k v) ([],d)
def uh(l:ci KV)(k v:ae)(d:Bool):ci KV:=if(oP k v d l).2 then(oP k v d l).1 else(oP k v d l).1++[(k,v)]
def Pu(k v:ae)(d:Bool)(l:ci KV)(n:M)(h:n<y l):oP k v d (l.take<|n+1)=fH k v (oP k v d<|l.take n) l[n]:=by
 unfold oP;rw[ah h,gd];rfl
theorem Fw(k v:ae)(a:ci KV×Bool)(p:KV):y (fH k v a p).1<=y a.1+2:=by
 unfold fH;grind
theorem Iw{v b c:ae}{a:ci KV}(h:b=r):fH r v (a,cf) (b,c)=(a,cf):=by simp[fH,h]
theorem Iv{v b c:ae}{a:ci KV}(h:¬b=r):fH r v (a,cf) (b,c)=(a++[(b,c)],cf):=by simp[fH,h]
def SD{v b c:ae}{a:ci KV}(d:Op.bytesLess b.toList r.toList=cf)(h:b=r):fH r v (a,bw) (b,c)=(a,bw):=by
 unfold fH NW;grind
def Iy{v b c:ae}{a:ci KV}(d:Op.bytesLess b.toList r.toList=cf)(h:¬b=r):fH r v (a,bw) (b,c)=(a++[(b,c)],bw):=by
 unfold fH NW;grind
def SF{v b c:ae}{a:ci KV}(d:Op.bytesLess b.toList r.toList=bw)(h:b=r):fH r v (a,bw) (b,c)=(a++[(r,v)],cf):=by
 unfold fH NW;grind
def SE{v b c:ae}{a:ci KV}(d:Op.bytesLess b.toList r.toList=bw)(h:¬b=r):fH r v (a,bw) (b,c)=(a++[(r,v)]++[(b,c)],cf):=by
 unfold fH NW;grind
def JV(k v:ae)(d:Bool)(l:ci KV):y (oP k v d l).1<=2*y l:=by
 unfold oP
 have:∀(l:ci KV)(a:ci KV×Bool),y (l.foldl (fH k v) a).1<=y a.1+2*y l:=by
  intro l;induction l with
  |nil=>intro a;simp
  |cons p r b=>grind[length_cons,Fw]
 grind
def nr(a b:ci KV):jS (a++b)=jS a++jS b:=by simp[jS]
def kj(h:a.ownsRow b c i d l B)(e:f.heap=a.heap):f.ownsRow b c i d l B:=by
 unfold World.ownsRow at*;rw[e];exact h
def mQ{h wr W c:Y}(f:Below b h wr)(a:b<=z (G wr))(i:eJ W c d t)(O:Obj)(e:(W.os,W.tape,W.output,W.heap)=((dd wr O).os,(dd wr O).tape,(dd wr O).output,(dd wr O).heap))(g:∀k,cI d=H k->b<=k):Below b h c:=(Below.of_heap (f.alloc a O) e).grown i.grown (by simp only[io]at e;rw[e.2.2.2];simp;omega) g
def zP(w:Y)(a:M)(o:ab)(l:ci KV):Prop:=w.ownsRow a 207 2 o (y l)<|jS l
def zP.of{l:ci KV}(h:a.ownsRow b 207 2 d c B)(e:c=y l)(f:B=jS l):zP a b d l:=by subst e;subst f;exact h
def rG(w:Y)(x a:ab)(t:TypeId):∀j u,[x,a][j]?=H u->aW (dd w<|ay #[x,a] t) (((R (z<|G w) 0):Addr).add j)=H u:=by
 intro j u b;rw[dJ];simp_all
def VJ(m:ci KV)(ad a al:M)(k v:ae)(P:Bool)(w:Y)(hr:y m<=1000000000000)(N:∀f,f<y m->aW w (R ad<|a+f*2)=H (am (m[f]?.getD (⟨#[]⟩,⟨#[]⟩)).1)/\aW w (R ad<|a+f*2+1)=H (am (m[f]?.getD (⟨#[]⟩,⟨#[]⟩)).2))(hb:ad<z (G w)):cY bA 100 #[bI ad a (y m) al,dL #[am k,am v,aM P]] w λbc w'=>∃v',bc=aN v'/\zP w' (z (G w)+1) v' (uh m k v P)/\Below (z<|G w) w w':=by
 obtain⟨i0,hi,B,C,D⟩:=dl NJ;have HC:=X N;go_in
 go_wp2;go_loopw [5,6,7] (λo ba f wr=>∃(n:M),n<=y m/\f=aq n/\ba=aM (oP k v P<|m.take n).2/\zP wr (z (G w)+1) o (oP k v P<|m.take n).1/\Below (z (G w)+1) (dd w<|ay #[am k,am v,aM P] 209) wr) (λ_ _ f _=>y m-(intOf f).toNat)
 case atStart=>exact⟨0,bK _,rfl,rfl,cK _ _ _ _,Below.refl _ _⟩
 case round=>
  obtain⟨n,hn,rfl,rfl,u,b⟩:=hrel;have aU:aW wr (R (z<|G w) 0)=H (am k):=by rw[b.cell<|by simp];simp
  have aV:aW wr (R (z<|G w) 1)=H (am v):=by rw[b.cell<|by simp];simp
  have t:y (oP k v P<|m.take n).1<=2*n:=by have:=JV k v P<|m.take n;grind
  have L:z (G w)+1<=z (G wr):=by have:=b.size;simp_all
  by_cases K:n<y m
  .have S:aW wr (R ad<|a+n*2)=H (am (m[n]?.getD (⟨#[]⟩,⟨#[]⟩)).1):=by rw[b.cell (by simp;omega),fE hb];exact(HC n K).1
   have T:aW wr (R ad<|a+n*2+1)=H (am (m[n]?.getD (⟨#[]⟩,⟨#[]⟩)).2):=by rw[b.cell (by simp;omega),fE hb];exact(HC n K).2
   have W:=X<|Pu k v P m n K;generalize oP k v P (m.take n)=E at*;obtain⟨V,q⟩:=E;have o:=X u;have HB:=X b;have ap:m[n]?.getD (⟨#[]⟩,⟨#[]⟩)=m[n]:=by simp[K]
   rw[ap]at S T;generalize m[n]=ba at*;obtain⟨e,F⟩:=ba;simp only at S T t;cases q with
   |true=>
    go_wp2_with fail
    go_quiet(fail)
    go_wp2_with fail
    by_cases l:e=k
    .have s:(e.toList==k.toList)=cf:=by rw[l];simp
     have g:=X<|W.trans<|Iw l;go_quiet(fail)
     go_wp2;go_roundw;case rel=>exact⟨n+1,by omega,by go_num,by rw[J g],by rw[J g];exact kj o rfl,Below.of_heap HB rfl⟩
     case measure=>simp[intOf];omega
    .have s:(e.toList==k.toList)=bw:=Ay l;have g:=X<|W.trans<|Iv l;go_quiet(fail)
     go_wp2_with(first
      |(at_builtin;refine cC _ rfl (.tmp 44) (.tmp 49) 33 rfl (z (G w)+1) 207 i0 (.agg #[.string ⟨#[]⟩,.string ⟨#[]⟩]) 2 32 underlying33 hi B C D rfl (by decide) _ _ _ rfl (kj (aT o (.cells #[.string e,.string F] 207)) ?chT) (R (z (G wr)) 0) 1 1 [.string e,.string F] rfl rfl ?c1T ?c2T ?c3T ?c4T ?c5T ?_))
     case chT=>rfl
     case c1T=>exact rG _ _ _ _
     case c2T=>intro bb x;simp at x;rcases x with rfl|rfl<;>rfl
     case c3T=>first|omega|(simp;omega)
     case c4T=>first|omega|(simp;omega)
     case c5T=>simp;omega
     intro o2 w2 d i;have r:=X d;have Q:=X i;go_wp2;go_roundw;case rel=>exact⟨n+1,by omega,by go_num,by rw[J g],by rw[J g];exact zP.of r (by simp) (by simp[nr];rfl),mQ HB L Q (ay #[am e,am F] 207) rfl<|λN f=>(bN o N f).1⟩
     case measure=>simp[intOf];omega
   |false=>
    by_cases hL:Op.bytesLess e.toList k.toList=cf
    .have HG:=X hL;go_wp2_with fail
     go_quiet(fail)
     go_wp2_with fail
     by_cases l:e=k
     .have s:(e.toList==k.toList)=cf:=by rw[l];simp
      have g:=X<|W.trans<|SD HG l;go_quiet(fail)
      go_wp2;go_roundw;case rel=>exact⟨n+1,by omega,by go_num,by rw[J g],by rw[J g];exact kj o rfl,Below.of_heap HB rfl⟩
      case measure=>simp[intOf];omega
     .have s:(e.toList==k.toList)=bw:=Ay l;have g:=X<|W.trans<|Iy HG l;go_quiet(fail)
      go_wp2_with(first
       |(at_builtin;refine cC _ rfl (.tmp 44) (.tmp 49) 33 rfl (z (G w)+1) 207 i0 (.agg #[.string ⟨#[]⟩,.string ⟨#[]⟩]) 2 32 underlying33 hi B C D rfl (by decide) _ _ _ rfl (kj (aT o (.cells #[.string e,.string F] 207)) ?chL) (R (z (G wr)) 0) 1 1 [.string e,.string F] rfl rfl ?c1L ?c2L ?c3L ?c4L ?c5L ?_))
      case chL=>rfl
      case c1L=>exact rG _ _ _ _
      case c2L=>intro bb x;simp at x;rcases x with rfl|rfl<;>rfl
      case c3L=>first|omega|(simp;omega)
      case c4L=>first|omega|(simp;omega)
      case c5L=>simp;omega
      intro o2 w2 d i;have r:=X d;have Q:=X i;go_wp2;go_roundw;case rel=>exact⟨n+1,by omega,by go_num,by rw[J g],by rw[J g];exact zP.of r (by simp) (by simp[nr];rfl),mQ HB L Q (ay #[am e,am F] 207) rfl<|λN f=>(bN o N f).1⟩
      case measure=>simp[intOf];omega
    .have an:Op.bytesLess e.toList k.toList=bw:=by simpa using hL
     have HG:=X an;go_wp2_with fail
     go_quiet(fail)
     go_wp2_with(first
      |(at_builtin;refine cC _ rfl (.tmp 28) (.tmp 34) 33 rfl (z (G w)+1) 207 i0 (.agg #[.string ⟨#[]⟩,.string ⟨#[]⟩]) 2 32 underlying33 hi B C D rfl (by decide) _ _ _ rfl (kj (aT o (.cells #[.string k,.string v] 207)) ?chY) (R (z (G wr)) 0) 1 1 [.string k,.string v] rfl rfl ?c1Y ?c2Y ?c3Y ?c4Y ?c5Y ?_))
     case chY=>rfl
     case c1Y=>exact rG _ _ _ _
     case c2Y=>intro bb x;simp at x;rcases x with rfl|rfl<;>rfl
     case c3Y=>first|omega|(simp;omega)
     case c4Y=>first|omega|(simp;omega)
     case c5Y=>simp;omega
     intro o1 O j A;have c:Below (z (G w)+1) (dd w<|ay #[am k,am v,aM P] 209) O:=mQ HB L A (ay #[am k,am v] 207) rfl<|λN f=>(bN o N f).1;have av:aW O (R (z<|G w) 0)=H (am k):=by rw[c.cell<|by simp];simp
     have ax:aW O (R ad<|a+n*2)=H (am e):=by rw[c.cell (by simp;omega),<-(J HB).cell (by simp;omega)];exact S
     have aF:aW O (R ad<|a+n*2+1)=H (am F):=by rw[c.cell (by simp;omega),<-(J HB).cell (by simp;omega)];exact T
     have ac:z (G w)+1<=z (G O):=by have:=c.size;simp_all
     have ao:zP O (z (G w)+1) o1 (V++[(k,v)]):=zP.of j (by simp) (by simp[nr];rfl);have au:y (V++[(k,v)])<=2*n+1:=by simp;omega
     have p:=X ao;have aa:=X c;go_wp2_with fail
     by_cases l:e=k
     .have s:(e.toList==k.toList)=cf:=by rw[l];simp
      have g:=X<|W.trans<|SF HG l;go_quiet(fail)
      go_wp2;go_roundw;case rel=>exact⟨n+1,by omega,by go_num,by rw[J g],by rw[J g];exact kj p rfl,Below.of_heap aa rfl⟩
      case measure=>simp[intOf];omega
     .have s:(e.toList==k.toList)=bw:=Ay l;have g:=X<|W.trans<|SE HG l;go_quiet(fail)
      go_wp2_with(first
       |(at_builtin;refine cC _ rfl (.tmp 44) (.tmp 49) 33 rfl (z (G w)+1) 207 i0 (.agg #[.string ⟨#[]⟩,.string ⟨#[]⟩]) 2 32 underlying33 hi B C D rfl (by decide) _ _ _ rfl (kj (aT p (.cells #[.string e,.string F] 207)) ?chZ) (R (z (G O)) 0) 1 1 [.string e,.string F] rfl rfl ?c1Z ?c2Z ?c3Z ?c4Z ?c5Z ?_))
      case chZ=>rfl
      case c1Z=>exact rG _ _ _ _
      case c2Z=>intro bb x;simp at x;rcases x with rfl|rfl<;>rfl
      case c3Z=>first|omega|(simp;omega)
      case c4Z=>first|omega|(simp;omega)
      case c5Z=>simp;omega
      intro o2 w2 d i;have r:=X d;have Q:=X i;go_wp2;go_roundw;case rel=>exact⟨n+1,by omega,by go_num,by rw[J g],by rw[J g];exact zP.of r (by simp) (by simp[nr];rfl),mQ aa ac Q (ay #[am e,am F] 207) rfl<|λN f=>(bN p N f).1⟩
      case measure=>simp[intOf];omega
  .have c:m.take n=m:=(by grind);rw[c]at u t|-;have e:=X<|show uh m k v P=if(oP k v P m).2 then(oP k v P m).1 else(oP k v P m).1++[(k,v)]from rfl;generalize oP k v P m=E at*;obtain⟨V,q⟩:=E;simp only at t;have o:=X u;have HB:=X b;have fin:∀w2,Below (z (G w)+1) (dd w<|ay #[am k,am v,aM P] 209) w2->Below (z<|G w) w w2:=λw2 h=>((Below.refl _ w).alloc (ag _) _).trans (h.mono<|by omega);have d:=X fin;cases q with
   |true=>
    go_wp2;go_ret;exact⟨_,rfl,by rw[J e];exact o,J d _ HB⟩
   |false=>
    go_wp2_with(first
     |(at_builtin;refine cC _ rfl (.tmp 53) (.tmp 59) 33 rfl (z (G w)+1) 207 i0 (.agg #[.string ⟨#[]⟩,.string ⟨#[]⟩]) 2 32 underlying33 hi B C D rfl (by decide) _ _ _ rfl (kj (aT o (.cells #[.string k,.string v] 207)) ?chX) (R (z (G wr)) 0) 1 1 [.string k,.string v] rfl rfl ?c1X ?c2X ?c3X ?c4X ?c5X ?_))
    case chX=>rfl
    try(case c1X=>exact rG _ _ _ _)
    case c2X=>exact⟨rfl,rfl⟩
    case c3X=>omega
    case c4X=>omega
    case c5X=>omega
    intro o1 O j A;have p:=X j;have Q:=X A;go_wp2;go_ret;exact⟨_,rfl,by rw[J e];exact zP.of p (by simp) (by simp[nr];rfl),J d _<|mQ HB L Q (ay #[am k,am v] 207) rfl<|λN f=>(bN o N f).1⟩
theorem YL(k v:ae)(m:Bool)(w:Y):cY bA 100 #[az,dL #[am k,am v,aM m]] w λA q=>∃p,A=aN p/\zP q (z (G w)+1) p (uh [] k v m)/\Below (z<|G w) w q:=by
 obtain⟨x,s,i,j,l⟩:=dl NJ;go_in
 go_wp2;go_loopw [5,6,7] (λo a i wr=>i=aq 0/\a=aM m/\o=az/\Below (z (G w)+1) (dd w<|ay #[am k,am v,aM m] 209) wr) (λ_ _ _ _=>0)
 case atStart=>grind[Below.refl]
 case round=>
  obtain⟨rfl,rfl,rfl,a⟩:=hrel;have t:aW wr (R (z<|G w) 0)=H (am k):=by rw[a.cell<|by simp];simp
  have u:aW wr (R (z<|G w) 1)=H (am v):=by rw[a.cell<|by simp];simp
  have g:z (G w)+1<=z (G wr):=by have:=a.size;simp_all
  have c:zP wr (z (G w)+1) az []:=cK _ _ _ _;have e:=X c;have HB:=X a;have fin:∀a,Below (z (G w)+1) (dd w<|ay #[am k,am v,aM m] 209) a->Below (z<|G w) w a:=λa h=>((Below.refl _ w).alloc (ag _) _).trans (h.mono<|by omega);have n:=X fin;cases m with
  |true=>
   go_wp2;go_ret;exact⟨_,rfl,e,J n _ HB⟩
  |false=>
   go_wp2_with(first
    |(at_builtin;refine cC _ rfl (.tmp 53) (.tmp 59) 33 rfl (z (G w)+1) 207 x (.agg #[.string ⟨#[]⟩,.string ⟨#[]⟩]) 2 32 underlying33 s i j l rfl (by decide) _ _ _ rfl (kj (aT e (.cells #[.string k,.string v] 207)) ?chX) (R (z (G wr)) 0) 1 1 [.string k,.string v] rfl rfl ?c1X ?c2X ?c3X ?c4X ?c5X ?_))
   case chX=>rfl
   try(case c1X=>exact rG _ _ _ _)
   case c2X=>intro D o;simp at o;rcases o with rfl|rfl<;>rfl
   case c3X=>simp_all
   case c4X=>simp_all
   case c5X=>first|omega|(simp;omega)
   intro B C b d;have f:=X b;have r:=X d;go_wp2;go_ret;exact⟨_,rfl,zP.of f rfl rfl,J n _<|mQ HB g r (ay #[am k,am v] 207) rfl<|λb a=>(bN e b a).1⟩
def dR(j:a.ownsRow c i l d F B):Row a l d F B:=by
 refine⟨j.1,?_⟩;rcases j.2 with⟨rfl,m⟩|⟨h,e,g,rfl,_,_,f,_⟩;grind
 refine .inr ⟨h,0,e,rfl,f,λn u k=>?_⟩;have:=j.cells (g:=h) rfl n u k;rwa[dJ]at this
def zP.M2{l:ci KV}(h:zP a b d l):sC a d l:=dR h
def YM(l:ci KV)(n v:ae)(g:Bool)(k:sC a d l)(j:∀p,cI d=H p->p<z (G a))(m:y l<=1000000000000):cY bA 100 #[d,dL #[am n,am v,aM g]] a λq f=>∃e,q=aN e/\zP f (z (G a)+1) e (uh l n v g)/\Below (z<|G a) a f:=by
 obtain⟨s,⟨rfl,r⟩|⟨o,b,c,rfl,i,t⟩⟩:=k;grind[eq_nil_of_length_eq_zero,YL]
 refine VJ l o b c n v g a m (λw h=>?_)<|j o rfl;have u:=qD l w h;grind
structure LH where
 key:ae
 val:ae
 del:Bool
abbrev oR:=ci LH
def sA(c:LH):ix:=[am c.key,am c.val,aM c.del]
def gU(l:ci LH):ix:=l.flatMap sA
theorem lW(l:ci LH)(i:M)(h:i<y l):(gU l)[i*3]?=H (am l[i].key)/\(gU l)[i*3+1]?=H (am l[i].val)/\(gU l)[i*3+2]?=H (aM l[i].del):=by
 induction l generalizing i with
 |nil=>simp at h
 |cons p r a=>
  cases i with
  |zero=>simp[gU,sA]
  |succ i=>
   have:=a i (by simpa using h);have e:(i+1)*3=i*3+3:=by omega
   rw[e];simpa[gU,sA]using this
def Ik(w:Y)(v:ab)(l:ci LH):Prop:=Row w 3 v (y l)<|gU l
def wt:Bool->M
 |true=>0
 |false=>1
def Fv(k v:ae)(a:jt×Bool)(p:KV):y (fH k v a p).1+wt (fH k v a p).2<=y a.1+wt a.2+1:=by
 obtain⟨c,q⟩:=a;obtain⟨b,d⟩:=p;cases q<;>cases hg:NW b k<;>by_cases h:b=k<;>(simp only[fH,hg];simp[h,wt])
theorem Mh(l:jt)(k v:ae)(d:Bool):y (uh l k v d)<=y l+1:=by
 have b:∀(l:jt)(a:jt×Bool),y (l.foldl (fH k v) a).1+wt (l.foldl (fH k v) a).2<=y a.1+wt a.2+y l:=by
  intro l;induction l with
  |nil=>intro a;simp
  |cons p r c=>intro a;simp only[iK,aO];have:=c<|fH k v a p;have:=Fv k v a p;omega
 have h:=b l ([],d);have f:wt d<=1:=by cases d<;>simp[wt]
 simp only[dB]at h;unfold uh oP;split<;>rename_i e;omega;(have a:(List.foldl (fH k v) ([],d) l).2=bw:=by simpa using e);rw[a,show wt bw=1 from rfl]at h;rw[af];grind
def xZ(l:jt)(a:ci LH):jt:=a.foldl (λl c=>uh l c.key c.val c.del) l
def Xy(l:jt)(a:ci LH)(n:M)(h:n<y a):xZ l (a.take<|n+1)=uh (xZ l<|a.take n) a[n].key a[n].val a[n].del:=by
 unfold xZ;rw[ah h,gd];rfl
def AE(l:jt)(a:ci LH):y (xZ l a)<=y l+y a:=by
 unfold xZ;induction a generalizing l with
 |nil=>simp
 |cons c r b=>grind[length_cons,Mh]
def Xx{N:jt}(b:ci LH)(V:sC a d N)(S:∀g,cI d=H g->g<z (G a))(hc:Ik a t b)(E:∀g,cI t=H g->g<z (G a))(hr:y N+y b<=1000000000000):cY bA 53 #[d,t] a λal O=>∃q,al=aN q/\sC O q (xZ N b)/\(∀g,cI q=H g->g<z (G O))/\(cI q=cI d\/∀g,cI q=H g->z (G a)<=g)/\Below (z<|G a) a O:=by
 obtain⟨h1,⟨rfl,h0⟩|⟨Q,e,aa,rfl,ad,F⟩⟩:=hc;(.obtain rfl:b=[]:=aS h0;have w:=X V;have v:=X S;(go_in);go_wp2;(go_loopw [0,5] (λP W wr=>W=aq 0/\P=d/\wr=a) (λ_ _ _=>0));(case atStart=>grind);(case round=>obtain⟨rfl,rfl,rfl⟩:=hrel;go_wp2;go_ret;exact⟨_,rfl,w,v,.inl rfl,Below.refl _ _⟩))
 .have f:Q<z (G a):=E Q rfl;obtain⟨w,v,u⟩:=dF V S F;go_in
  go_wp2;go_loopw [0,5] (λP W wr=>∃n:M,n<=y b/\W=aq n/\sC wr P (xZ N<|b.take n)/\(∀g,cI P=H g->g<z (G wr))/\(cI P=cI d\/∀g,cI P=H g->z (G a)<=g)/\Below (z<|G a) a wr) (λ_ W _=>y b-(intOf W).toNat)
  case atStart=>exact⟨0,bK _,rfl,w,v,.inl rfl,Below.refl _ _⟩
  case round=>
   obtain⟨n,hn,rfl,k,p,L,c⟩:=hrel;by_cases o:n<y b
   .have i:=lW b n o;have B:aW wr (R Q<|e+n*3)=H (am b[n].key):=(c.cell<|by exact f).trans<|u _ _ i.1;have C:aW wr (R Q<|e+n*3+1)=H (am b[n].val):=(c.cell<|by exact f).trans (by rw[bD];exact u _ _ i.2.1);have D:aW wr (R Q<|e+n*3+2)=H (aM b[n].del):=(c.cell<|by exact f).trans (by rw[bD];exact u _ _ i.2.2);have HS:=X<|Xy N b n o;have m:y (xZ N<|b.take n)<=1000000000000:=by have:=AE N<|b.take n;grind
    obtain⟨r,s,l⟩:=dF k p c;generalize ac:b[n]=ce at*;obtain⟨ck,cv,cd⟩:=ce;simp only at B C D;go_wp2_with(first
     |(go_at_call 100;refine(YM _ ck cv cd r s m).mono ?_;rintro al w1⟨v1,rfl,j,x⟩))
    have A:Below (z<|G a) a w1:=l.trans<|x.mono l.size;have K:∀g,cI v1=H g->g<z (G w1):=λg i=>(bN j g i).2;obtain⟨K1,K2,K3,K4⟩:=gw j.M2 A K (show∀g,cI v1=H g->z (G a)<=g fromλg i=>by have:=(bN j g i).1;have:=l.size;omega);go_wp2;go_roundw;case rel=>exact⟨n+1,by omega,by go_num,by rw[J HS];exact K1,K3,.inr K4,K2⟩
    case measure=>simp[intOf];omega
   .have i:b.take n=b:=(by grind);rw[i]at k;obtain⟨r,s,l,j⟩:=gw k p c L;go_wp2;go_ret;exact⟨_,rfl,r,s,j,l⟩
def ot(l:jt)(k:ae):ae×Bool:=match l with
 |[]=>(⟨#[]⟩,bw)
 |p::r=>if p.1=k then(p.2,cf)else ot r k
def TM{l:jt}(h:b<y l)(e:l[b].1=r):ot (l.drop b) r=(l[b].2,cf):=by
 rw[bJ h];simp[ot,e]
def Qk{l:jt}(h:b<y l)(e:¬l[b].1=r):ot (l.drop b) r=ot (l.drop<|b+1) r:=by
 rw[bJ h];simp[ot,e]
def Nl{l:jt}(k:ae)(x:sC a d l)(L:y l<=1000000000000):cY bA 56 #[d,am k] a λE C=>E=aN (dA #[am (ot l k).1,aM (ot l k).2])/\C=a:=by
 obtain⟨F,⟨rfl,u⟩|⟨D,b,t,rfl,w,v⟩⟩:=x;(.obtain rfl:l=[]:=aS u;(go_in);go_wp2;(go_loop [6] (λs=>s=aq 0) (λ_=>0));(case atStart=>rfl);(case round=>obtain rfl:=hrel;go_wp2;(go_ret2);exact⟨rfl,rfl⟩));(.have q:=X v;(go_in);go_wp2;(go_loop [6] (λs=>∃n:M,n<=y l/\s=aq n/\ot l k=ot (l.drop n) k) (λs=>y l-(intOf s).toNat));(case atStart=>grind);(case round=>obtain⟨n,K,rfl,r⟩:=hrel;have i:=X r;clear r;by_cases e:n<y l;(.have o:=qD l n e;have f:aW a (R D<|b+n*2)=H (am l[n].1):=q _ _ o.1;(have g:aW a (R D<|b+n*2+1)=H (am l[n].2):=by rw[bD];exact q _ _ o.2);clear o;by_cases c:l[n].1=k;(.have j:=X<|i.trans<|TM e c;generalize l[n]=A at*;obtain⟨p,B⟩:=A;simp only at f g c;(have m:(p.toList==k.toList)=cf:=by rw[c];simp);clear c;go_wp2;(go_ret2);exact⟨by rw[J j];rfl,rfl⟩);(.have j:=X<|i.trans<|Qk e c;generalize l[n]=A at*;obtain⟨p,B⟩:=A;simp only at f g c;have m:(p.toList==k.toList)=bw:=Ay c;clear c;go_wp2;(go_round);(case rel=>exact⟨n+1,by omega,by go_num,j⟩);case measure=>simp[intOf];omega));(have c:l.drop n=[]:=by simp;omega);go_wp2;(go_ret2);exact⟨by rw[J i,c];rfl,rfl⟩))
def mX:oR->U
 |[]=>0
 |c::r=>if c.key.size=0\/8<c.key.size then 3 else if c.del=bw/\16<c.val.size then 4 else mX r
def fZ(a:oR):U:=if 8<y a then 2 else mX a
def Ep{a:oR}(h:b<y a)(e:a[b].key.size=0\/8<a[b].key.size):mX (a.drop b)=3:=by
 rw[bJ h,mX,di e]
def Eo{a:oR}(h:b<y a)(e:¬(a[b].key.size=0\/8<a[b].key.size))(f:a[b].del=bw/\16<a[b].val.size):mX (a.drop b)=4:=by
 rw[bJ h,mX,dt e,di f]
def GN{a:oR}(h:b<y a)(e:¬(a[b].key.size=0\/8<a[b].key.size))(f:¬(a[b].del=bw/\16<a[b].val.size)):mX (a.drop b)=mX (a.drop<|b+1):=by
 rw[bJ h,mX,dt e,dt f]
def UV{b:oR}(O:Ik a d b)(T:y b<=1000000000000):cY bA 57 #[d] a λQ P=>Q=aN (aq<|fZ b)/\P=a:=by
 obtain⟨L,⟨rfl,K⟩|⟨E,c,F,rfl,N,x⟩⟩:=O;(.obtain rfl:b=[]:=aS K;(go_in);go_wp2;(go_loop [3] (λC=>C=aq 0) (λ_=>0));(case atStart=>rfl);(case round=>obtain rfl:=hrel;go_wp2;go_ret;exact⟨rfl,rfl⟩))
 .have r:=X x;clear x L;by_cases w:8<y b
  .have s:=X (show fZ b=2 by unfold fZ;rw[di w]);go_in
   go_wp2;go_ret;exact⟨by rw[J s];rfl,rfl⟩
  .have s:=X (show fZ b=mX b by unfold fZ;rw[dt w]);go_in
   go_wp2;go_loop [3] (λC=>∃n:M,n<=y b/\C=aq n/\fZ b=mX (b.drop n)) (λC=>y b-(intOf C).toNat)
   case atStart=>exact⟨0,bK _,rfl,s⟩
   case round=>
    obtain⟨n,S,rfl,A⟩:=hrel;have p:=X A;clear A;by_cases f:n<y b
    .have q:=lW b n f;have k:aW a (R E<|c+n*3)=H (am b[n].key):=r _ _ q.1;have l:aW a (R E<|c+n*3+1)=H (am b[n].val):=by rw[bD];exact r _ _ q.2.1
     have m:aW a (R E<|c+n*3+2)=H (aM b[n].del):=by rw[bD];exact r _ _ q.2.2
     clear q;by_cases e:b[n].key.size=0\/8<b[n].key.size
     .have j:=X<|p.trans<|Ep f e;generalize b[n]=D at*;obtain⟨i,v,u⟩:=D;simp only at k l m e;rcases e with e|e
      .have o:((i.size:U)==0)=cf:=by simp[e]
       go_wp2;go_ret;exact⟨by rw[J j];rfl,rfl⟩
      .have o:((i.size:U)==0)=bw:=(by grind);go_wp2;go_ret;exact⟨by rw[J j];rfl,rfl⟩
     .by_cases g:b[n].del=bw/\16<b[n].val.size
      .have j:=X<|p.trans<|Eo f e g;generalize b[n]=D at*;obtain⟨i,v,u⟩:=D;simp only at k l m e g;obtain⟨rfl,B⟩:=g;have o:((i.size:U)==0)=bw:=(by grind);have t:¬8<i.size:=by omega
       clear e;go_wp2;go_ret;exact⟨by rw[J j];rfl,rfl⟩
      .have j:=X<|p.trans<|GN f e g;generalize b[n]=D at*;obtain⟨i,v,u⟩:=D;simp only at k l m e g;have o:((i.size:U)==0)=bw:=(by grind);have t:¬8<i.size:=by omega
       clear e;cases u with
       |true=>
        clear g;go_wp2;go_round
        case rel=>exact⟨n+1,by omega,by go_num,j⟩
        case measure=>simp[intOf];omega
       |false=>
        have B:¬16<v.size:=by simpa using g
        clear g;go_wp2;go_round
        case rel=>exact⟨n+1,by omega,by go_num,j⟩
        case measure=>simp[intOf];omega
    .have e:b.drop n=[]:=by simp;omega
     go_wp2;go_ret;exact⟨by rw[J p,e];rfl,rfl⟩
def Gt(c b:ae)(a:U)(n:M)(p:KV):Bool:=NW p.1 c&&((b.toList==[])||Op.bytesLess p.1.toList b.toList)&&(decide (a<=0)||decide ((n:U)<a))
def mY(d c:ae)(a:U)(b:jt)(p:KV):jt:=if Gt d c a (y b) p then b++[p]else b
def Rj(l:jt)(c b:ae)(a:U):jt:=l.foldl (mY c b a) []
def Row.shape(i:Row a b d c B):d=az\/∃g e f,d=bI g e c f:=by
 rcases i.2 with⟨h,_⟩|⟨g,e,f,h,_⟩;exact .inl h;grind
def zL(l:jt)(k:ae):ae×Bool×U:=if k.size=0\/8<k.size then(⟨#[]⟩,bw,3)else((ot l k).1,(ot l k).2,0)
structure Z(S:fh)(w w':Y):Prop where
 os:w'.os=w.os
 tape:w'.tape=w.tape
 output:w'.output=w.output
 size:z (G w)<=z (G w')
 block:∀k,k<z (G w)->¬S k->w'.heap[k]?=w.heap[k]?
theorem Z.refl(S:fh)(w:Y):Z S w w:=⟨rfl,rfl,rfl,ag _,λ_ _ _=>rfl⟩
def Z.trans{S T:fh}{c b e:Y}(h:Z S c b)(k:Z T b e)(g:∀x,T x->S x\/z (G c)<=x):Z S c e:=⟨k.os.trans h.os,k.tape.trans h.tape,k.output.trans h.output,aB h.size k.size,λi a d=>(k.block i (ai a h.size) (λj=>by
 grind)).trans (h.block i a d)⟩
def Z.cz{S:fh}{a b c:Y}(h:Z S a b)(k:Z aw b c):Z S a c:=h.trans k cJ
def Z.mono{S T:fh}{a b:Y}(h:Z S a b)(d:∀x,S x->T x\/z (G a)<=x):Z T a b:=⟨h.os,h.tape,h.output,h.size,λi c e=>h.block i c (λg=>by
 grind)⟩
def Z.ep{S:fh}{b:Option M}(h:a.grownBy A b)(e:∀k,b=H k->S k\/z (G a)<=k):Z S a A:=⟨h.os,h.tape,h.output,h.size,λi c d=>h.block i c (λg=>by
 grind)⟩
theorem Z.aQ{S:fh}(h:Below (z<|G a) a A):Z S a A:=⟨h.os,h.tape,h.output,h.size,λi b _=>h.block i b⟩
def Z.below{B:M}(h:Z o a f)(b:B<=z (G a))(c:∀k,o k->B<=k):Below B a f:=⟨h.os,h.tape,h.output,h.size,λk d=>h.block k (by omega)<|by grind⟩
def Z.cell{a b:Y}(h:Z o a b){k i:M}(c:aW a (R k i)=H d)(g:¬o k)(e:k<z (G a)):aW b (R k i)=H d:=(dy (w:=a)<|h.block k e g).trans c
def Z.alloc(h:Z o a A)(b:Obj):Z o a (A.alloc b):=h.trans (Z.ep (S:=aw) (dP A b none)<|by simp)<|by simp
def fo(h:a.grownBy A (H b)):Z (λk=>k=b) a A:=Z.ep h<|by grind
def Z.setCell(h:Z o a f)(k i:M)(u:ab)(b:o k\/z (G a)<=k):Z o a (f.setCell (R k i) u):=h.trans (Z.ep (S:=λx=>x=k) (dS f k i u)<|by grind)<|by grind
theorem cO(S:fh)(w:Y){o:Obj}:Z S w (dd w o):=(Z.refl S w).alloc o
def iT(b:M)(w:Y){i:M}{u:ab}:Z (λk=>k=b) w (cH w (R b i) u):=(Z.refl _ w).setCell b i u<|.inl rfl
def Z.own{s b:Y}(u:Z o s b)(p:s.ownsRow c l F d V B)(n:∀t,cI d=H t->¬o t):b.ownsRow c l F d V B:=by
 obtain⟨j,k⟩:=p;refine⟨j,?_⟩;rcases k with⟨rfl,v⟩|⟨h,a,e,rfl,m,g,r⟩;grind
 exact .inr ⟨h,a,e,rfl,m,(u.block h (ak g)<|n h rfl).trans g,r⟩
def Z.row(r:Z o a f)(p:Row a b d c B)(i:∀q,cI d=H q->¬o q/\q<z (G a)):Row f b d c B:=by
 obtain⟨l,m⟩:=p;refine⟨l,?_⟩;rcases m with⟨rfl,s⟩|⟨k,e,g,rfl,h,n⟩;grind
 exact .inr ⟨k,e,g,rfl,h,λj u l=>r.cell (n j u l) (i k rfl).1 (i k rfl).2⟩
def aC(j:a.ownsRow c i l d V B):∃x h,d=.slice x V h:=by
 rcases j.2 with⟨rfl,rfl⟩|⟨k,e,g,rfl,_⟩;grind
 grind
def bZ(h:Row a c d i B):∃x g,d=.slice x i g:=by
 rcases h.2 with⟨rfl,rfl⟩|⟨b,e,f,rfl,_⟩;grind
 grind
theorem eT(h:a.ownsRow b c i d l B){k:M}(f:cI d=H k):∃e,a.heap[k]?=H (.cells e c (0,0)):=by
 rcases h.2 with⟨rfl,_⟩|⟨m,g,e,rfl,_,j,_⟩;cases f;cases f;grind
def FP(j:a.ownsRow b c i d l B){e:Array ab}{t:M}{f:M×M}(h:a.heap[V]?=H (.cells e t f))(g:t≠c):cI d≠H V:=by
 grind[eT]
def zc(l:jt):Prop:=l.Pairwise<|λa b=>jj a.1 b.1=cf
theorem BT(a k:ae):NW a k=!jj a k:=rfl
def Fu(k v:ae)(l a:jt):l.foldl (fH k v) (a,cf)=(a++l.filter (λp=>!decide (p.1=k)),cf):=by
 induction l generalizing a with
 |nil=>simp
 |cons p r b=>
  rw[iK];by_cases h:p.1=k
  .have:fH k v (a,cf) p=(a,cf):=by simp[fH,h]
   rw[this,b];simp[h]
  .have:fH k v (a,cf) p=(a++[p],cf):=by simp[fH,h]
   rw[this,b];simp[h]
def SP(k v:ae){l:jt}(a:jt)(n:zc l):l.foldl (fH k v) (a,bw)=if l.all (λp=>jj p.1 k)then(a++l,bw)else(a++l.filter (λp=>jj p.1 k)++[(k,v)]++l.filter (λp=>jj k p.1),cf):=by
 induction l generalizing a with
 |nil=>simp
 |cons p r j=>
  obtain⟨g,d⟩:=bz.1 n;rw[iK];cases c:jj p.1 k with
  |true=>
   have b:=qE c;have f:NW p.1 k=bw:=by rw[BT,c];rfl
   have:fH k v (a,bw) p=(a++[p],bw):=by simp[fH,b,f]
   rw[this,j _ d];simp only[List.all_cons,c,Bool.true_and];grind[filter_cons_of_pos,filter_cons_of_neg,lH]
  |false=>
   have f:NW p.1 k=cf:=by rw[BT,c];rfl
   have e:∀q∈r,jj k q.1=cf:=λq d=>yQ c<|g q d;have h:r.filter (λp=>jj p.1 k)=[]:=ie.2 (λq d=>by simp[lH<|e q d]);have i:r.filter (λp=>jj k p.1)=r:=fK.2<|λq d=>e q d;have b:r.filter (λp=>!decide (p.1=k))=r:=fK.2 (by grind);by_cases m:p.1=k
   .have:fH k v (a,bw) p=(a++[(k,v)],cf):=by
     unfold fH;grind
    rw[this,Fu,b];grind
   .have:fH k v (a,bw) p=(a++[(k,v)]++[p],cf):=by simp[fH,f,m]
    have o:jj k p.1=cf:=by
     grind[nN]
    rw[this,Fu,b];grind
def RC{l:jt}(n:zc l)(k v:ae)(g:Bool):uh l k v g=l.filter (λp=>jj p.1 k)++(if g then []else [(k,v)])++l.filter (λp=>jj k p.1):=by
 have j:l.filter (λp=>!decide (p.1=k))=l.filter (λp=>jj p.1 k)++l.filter (λp=>jj k p.1):=by
  induction l with
  |nil=>rfl
  |cons p r m=>
   obtain⟨h,i⟩:=bz.1 n;cases e:jj p.1 k with
   |true=>
    rw[iD (by simp[qE e]),iD (by simp[e]),fC (by simp[lH e]),m i];rfl
   |false=>
    have d:∀q∈r,jj k q.1=cf:=λq c=>yQ e<|h q c;have a:r.filter (λp=>jj p.1 k)=[]:=ie.2 (λq c=>by simp[lH<|d q c]);have b:r.filter (λp=>jj k p.1)=r:=fK.2<|λq c=>d q c;have f:r.filter (λp=>!decide (p.1=k))=r:=fK.2 (by grind);by_cases g:p.1=k
    .rw[fC (by simp[g]),fC (by simp[e]),fC (by rw[g,fT];simp),a,b,f];rfl
    grind[nN,filter_cons_of_pos,filter_cons_of_neg]
 unfold uh oP;cases g with
 |true=>
  rw[Fu];grind
 |false=>
  rw[SP k v [] n];by_cases e:l.all (λp=>jj p.1 k)=cf
  .rw[di e];rw[vW]at e;have a:l.filter (λp=>jj p.1 k)=l:=fK.2 e;have b:l.filter (λp=>jj k p.1)=[]:=ie.2 (λq c=>by simp[lH<|e q c]);rw[a,b];simp
  grind
def VK{l:jt}(h:zc l)(k v:ae)(d:Bool):zc (uh l k v d):=by
 rw[RC h];refine aZ.2 ⟨aZ.2 ⟨lz eY h,?_,?_⟩,lz eY h,?_⟩;cases d<;>simp;grind
 grind[la]
def Wt{l:jt}(h:zc l){v:ae}{p:KV}:p∈uh l r v S↔(p.1≠r/\p∈l)\/(S=bw/\p=(r,v)):=by
 rw[RC h];simp only[aA,eK];constructor;rintro((⟨a,b⟩|a)|⟨a,b⟩);exact .inl ⟨qE b,a⟩;(grind);exact .inl ⟨λe=>qE b e.symm,a⟩;grind[nN]
def zc.ext{l m:jt}(i:zc l)(k:zc m)(e:∀x,x∈l↔x∈m):l=m:=by
 induction l generalizing m with
 |nil=>
  cases m with
  |nil=>rfl
  |cons a r=>exact absurd ((e a).2<|by simp)<|by simp
 |cons x r f=>
  cases m with
  |nil=>exact absurd ((e x).1<|by simp)<|by simp
  |cons a s=>
   obtain⟨j,c⟩:=bz.1 i;obtain⟨n,g⟩:=bz.1 k;have b:x=a:=by
    rcases bM.1 ((e x).1<|by simp)with p|p
    .exact p
    .rcases bM.1 ((e a).2<|by simp)with q|q
     .exact q.symm
     grind[lH]
   subst b;congr 1;refine f c g<|λh=>⟨λd=>?_,λd=>?_⟩
   .grind[mem_cons_of_mem,fT]
   grind[mem_cons_of_mem,fT]
def Cr(a:dX)(l:jt):Prop:=zc l/\∀k v,(k,v)∈l↔seen a k=H v
def XQ{rest:dX}{l:jt}(c:wH e)(h:Cr (e::rest) l)(b:E):Cr (qY e b::rest) (uh l b.key b.val b.del):=by
 refine⟨VK h.1 _ _ _,λk v=>?_⟩;rw[Wt h.1];simp only;have a:seen (qY e b::rest) k=if k=b.key then(if b.del then none else H b.val)else seen (e::rest) k:=by unfold seen;rw[qH,qH,NZ c];grind
 rw[a,h.2 k v];by_cases d:k=b.key;rw[di d];grind
 grind
def UR{l:jt}(h:Cr m l)(k:ae):ot l k=match seen m k with|some v=>(v,cf)|none=>(⟨#[]⟩,bw):=by
 have a:∀c:jt,(∀p∈c,p∈l)->(∀v,seen m k=H v->(k,v)∈c)->ot c k=match seen m k with|some v=>(v,cf)|none=>(⟨#[]⟩,bw):=by
  intro c;induction c with
  |nil=>
   intro _ d;cases hs:seen m k with
   |none=>rfl
   |some v=>grind
  |cons p r f=>
   intro e d;unfold ot;split
   .rename_i b;have:seen m k=H p.2:=(h.2 k p.2).1 (by rw[<-b];grind);rw[this]
   grind
 exact a l (λp b=>b)<|λv c=>(h.2 k v).2 c
def zK(e:E):KV:=(e.key,e.val)
def UQ{q:jt}(o:Cr m q)(i:∀k h,sK m k=H h->h.key=k)(g:ae)(l:wH e)(j:∀x,x∈e↔sK m x.key=H x/\jj x.key g=bw):(e.filter<|λh=>!h.del).map zK=q.filter (λp=>NW p.1 g):=by
 refine zc.ext ?_ (lz eY o.1)<|λp=>?_;unfold zc;rw[gW];exact l.sub eY
 .obtain⟨k,v⟩:=p;simp only[bH,eK,BT];rw[o.2 k v];constructor
  .rintro⟨x,⟨n,c⟩,b⟩;obtain⟨a,f⟩:=(j x).1 n;simp only[zK,io]at b;obtain⟨rfl,rfl⟩:=b;have d:x.del=bw:=by simpa using c
   exact⟨by simp[seen,a,d],by simp[f]⟩
  .rintro⟨a,f⟩;unfold seen at a;cases hh:sK m k with
   |none=>rw[hh]at a;cases a
   |some x=>
    rw[hh]at a;simp only[Option.bind_some]at a;have b:=i k x hh;cases c:x.del with
    |true=>rw[c]at a;cases a
    |false=>
     rw[c]at a;refine⟨x,(by grind),?_⟩;simp only[zK,io];grind
def Du(c:ae)(a:U):jt->jt->jt
 |b,[]=>b
 |b,p::r=>if(!(c.toList==[])&&!jj p.1 c)=cf then b else if((y b:U)+1==a)=cf then b++[p]else Du c a (b++[p]) r
theorem Ya{b:ae}{a d:jt}(h:0<k)(e:k<=y a):d.foldl (mY r b k) a=a:=by
 induction d with
 |nil=>rfl
 |cons p d c=>
  rw[iK];have:mY r b k a p=a:=by
   unfold mY Gt;grind
  rw[this,c]
theorem F8{b:ae}{a d:jt}(f:(b.toList==[])=bw)(c:∀p∈d,jj p.1 b=bw):d.foldl (mY r b k) a=a:=by
 induction d with
 |nil=>rfl
 |cons p d g=>
  rw[iK];have:mY r b k a p=a:=by
   unfold mY Gt;have e:Op.bytesLess p.1.toList b.toList=bw:=c p (by simp);rw[f,e];simp
  rw[this,g<|λp a=>c p<|by simp[a]]
def ZA{b:ae}{m a:jt}(n:zc m)(j:∀p∈m,jj p.1 r=bw)(i:k<=0\/(y a:U)<k):Du b k a m=m.foldl (mY r b k) a:=by
 induction m generalizing a with
 |nil=>rfl
 |cons p s o=>
  obtain⟨q,g⟩:=bz.1 n;have l:NW p.1 r=cf:=by rw[BT,j p<|by simp];rfl
  have c:(decide (k<=0)||decide ((y a:U)<k))=cf:=by simpa using i
  unfold Du;split
  .grind[F8,la]
  .rename_i f;have e:mY r b k a p=a++[p]:=by
    unfold mY Gt;rw[l,c];have:((b.toList==[])||Op.bytesLess p.1.toList b.toList)=cf:=by
     cases d:(b.toList==[])with
     |true=>rfl
     |false=>
      rw[d]at f;show(bw||jj p.1 b)=cf;simpa using f
    rw[this];rfl
   rw[iK,e];split
   .grind[Ya]
   .rename_i h;refine o g (by grind) ?_;grind
def Yb(l:jt)(d e:ae)(a:U):Rj l d e a=(l.filter<|λp=>NW p.1 d).foldl (mY d e a) []:=by
 unfold Rj;generalize([]:jt)=b;induction l generalizing b with
 |nil=>rfl
 |cons p r f=>
  cases c:NW p.1 d with
  |true=>rw[iD (by simp[c]),iK,iK,f]
  |false=>
   have:mY d e a b p=b:=by unfold mY Gt;rw[c];simp
   rw[fC (by simp[c]),iK,this,f]
def Rc{l:jt}(i:Cr m l)(g:∀k c,sK m k=H c->c.key=k)(b d:ae)(a:U)(f:wH e)(h:∀x,x∈e↔sK m x.key=H x/\jj x.key b=bw):Du d a [] ((e.filter<|λc=>!c.del).map zK)=Rj l b d a:=by
 have c:=UQ i g b f h;rw[Yb,<-c];refine ZA ?_ ?_ ?_;unfold zc;rw[gW];exact f.sub eY;grind[BT]
 grind
def Zb(n:U)(w:Y):cY bA 58 #[aq n] w λe a=>e=aN (aq n)/\a=w:=by
 go_in
 go_wp2;go_ret;simp_all
def Jt(w:Y)(a b:M):(w.drewN a).drewN b=w.drewN (a+b):=by simp_all
def Sy{l m:jt}(a:b<y l)(c:b<y m)(h:l.take b=m.take b)(e:l[b]=m[b]):l.take (b+1)=m.take (b+1):=by
 rw[ah a,ah c,h,e]
def vE{l m:jt}(hx:sC a d l)(P:sC a t m)(hl:y l<=1000000000000)(hm:y m<=1000000000000):cY bA 52 #[d,t] a λad w'=>ad=aN (aM<|decide<|l=m)/\∃u,w'=a.drewN u:=by
 by_cases g:y l=y m;(.obtain⟨h1,⟨rfl,w⟩|⟨ac,b,B,rfl,an,hc⟩⟩:=hx;(.obtain rfl:l=[]:=aS w;obtain rfl:m=[]:=(by grind);have e:=P.shape;rcases e with rfl|⟨v,c,f,rfl⟩;(all_goals(go_in);go_wp2;(go_loopw [5] (λQ wr=>Q=aq 0/\∃u,wr=a.drewN u) (λ_ _=>0));(case atStart=>exact⟨rfl,0,rfl⟩);(case round=>obtain⟨rfl,u,rfl⟩:=hrel;go_wp2;go_ret;exact⟨rfl,u,rfl⟩)));(.obtain⟨al,⟨rfl,w⟩|⟨v,c,f,rfl,aa,C⟩⟩:=P;(.obtain rfl:m=[]:=aS w;obtain rfl:l=[]:=(by grind);(go_in);go_wp2;(go_loopw [5] (λQ wr=>Q=aq 0/\∃u,wr=a.drewN u) (λ_ _=>0));(case atStart=>exact⟨rfl,0,rfl⟩);(case round=>obtain⟨rfl,u,rfl⟩:=hrel;go_wp2;go_ret;exact⟨rfl,u,rfl⟩));(.have HC:=X hc;have p:=X C;(have o:((y l:U)!=(y m:U))=bw:=by simp[g]);have e:=X g;(go_in);go_wp2;(go_loopw [5] (λQ wr=>∃n:M,n<=y l/\Q=aq n/\l.take n=m.take n/\∃u,wr=a.drewN u) (λQ _=>y l-(intOf Q).toNat));(case atStart=>exact⟨0,bK _,rfl,rfl,0,rfl⟩);(case round=>obtain⟨n,hn,rfl,ht,kk,rfl⟩:=hrel;have HT:=X ht;by_cases r:n<y l;(·(have i:n<y m:=by have:=J e;omega);have D:=qD l n r;have k:=qD m n i;have F:aW a (R ac<|b+n*2)=H (am l[n].1):=HC _ _ D.1;(have K:aW a (R ac<|b+n*2+1)=H (am l[n].2):=by rw[bD];exact HC _ _ D.2);have L:aW a (R v<|c+n*2)=H (am m[n].1):=p _ _ k.1;(have N:aW a (R v<|c+n*2+1)=H (am m[n].2):=by rw[bD];exact p _ _ k.2);clear D k;(have s:l[n]≠m[n]->decide (l=m)=bw:=λh=>by grind);have HN:=X s;have HY:=X<|λad=>Sy r i HT ad;clear s;generalize l[n]=ao at*;generalize m[n]=q at*;obtain⟨S,T⟩:=ao;obtain⟨V,W⟩:=q;simp only at F K L N;by_cases x:S=V;(·(have E:(!S.toList==V.toList)=bw:=by rw[x];simp);by_cases A:T=W;(·(have O:(T.toList==W.toList)=cf:=by rw[A];simp);have j:=X (HY<|by rw[x,A]);clear x A;(go_wp2_with fail);(go_quiet(fail));go_wp2;go_roundw;(case rel=>exact⟨n+1,by omega,by go_num,j,by grind⟩);case measure=>simp[intOf];omega);have O:(T.toList==W.toList)=bw:=Ay A;have j:=X (HN<|by grind);(go_wp2_with fail);(go_quiet(fail));go_wp2;go_ret;exact⟨by rw[J j];rfl,by first|exact⟨_,rfl⟩|exact⟨_,Jt _ _ _⟩⟩);(have E:(!S.toList==V.toList)=cf:=by rw[Ay x];rfl);have j:=X (HN<|by grind);(go_wp2_with fail);(go_quiet(fail));go_wp2;go_ret;exact⟨by rw[J j];rfl,by first|exact⟨_,rfl⟩|exact⟨_,Jt _ _ _⟩⟩);have j:=X (show decide (l=m)=cf by have h1:l.take n=l:=dN (by omega);have i:m.take n=m:=dN (by have:=J e;omega);have:=J HT;rw[h1,i]at this;grind);go_wp2;go_ret;exact⟨by rw[J j];rfl,by grind⟩))));(have i:decide (l=m)=bw:=by grind);rw[i];obtain⟨_,⟨rfl,w⟩|⟨ac,b,B,rfl,_,_⟩⟩:=hx<;>obtain⟨_,⟨rfl,e⟩|⟨v,c,f,rfl,_,_⟩⟩:=P;omega;(·(have o:((0:U)!=(y m:U))=cf:=by rw[Ah];omega);(go_in);go_wp2;go_ret;exact⟨rfl,0,rfl⟩);(·(have o:((y l:U)!=(0:U))=cf:=by rw[Ah];omega);(go_in);go_wp2;go_ret;exact⟨rfl,0,rfl⟩);(have o:((y l:U)!=(y m:U))=cf:=by rw[Ah];omega);(go_in);go_wp2;go_ret;exact⟨rfl,0,rfl⟩
def IP(a k:U)(b:0<k)(c:k<=100):0<=wrap64 ((IntKind.u64.wrap a).tmod k)/\wrap64 ((IntKind.u64.wrap a).tmod k)<k:=by
 rw[eZ,tY<|Int.emod_nonneg _<|by decide];have d:=Int.emod_nonneg (a%18446744073709551616) (show k≠0 by omega);have f:=Int.emod_lt_of_pos (a%18446744073709551616) b;generalize a%18446744073709551616%k=x at*;have e:wrap64 x=x:=by unfold wrap64;omega
 rw[e];grind
def uT{P:Program}{k:Array Oper}{s:Oper}{u:Act}{aa:Act->Y->Prop}{ao:Exit->Act->Y->Prop}{E:Prop}(Q:s.guard=none)(al an:Operand)(B:TypeId)(p:s.op=Op.call {callee:=Callee.builtin Builtin.append,args:=#[al,an],argTypes:=#[B,B]})(b:M)(w:TypeId)(x:TypeInfo)(i:ab)(c bytes:M)(ht:P.underlying B=H (.slice w))(S:P.info? w=H x)(hz:x.zero=H i)(h:x.size=c)(o:x.bytes=bytes)(r:i.cells.size=c)(q:0<c)(D:ab)(A:M)(t:ix)(W:u.eval al=D)(j:a.ownsRow b w c D A t)(n:Addr)(v ac:M)(d:ix)(hx:u.eval an=I (H n) v ac)(T:y d=v*c)(g:∀ad C,d[ad]?=H C->aW a (n.add ad)=H C)(F:∀C∈d,C.oneCell'=cf)(hn:A+v<=140737488355328)(e:(A+v)*bytes<=140737488355328)(f:b<=z (G a))(O:∀l m,m.ownsRow b w c l (A+v) (t++d)->eJ a m D l->aa (u.put s.dst l) m):if Region.wanted s (yielded k u.tmps)=cf then Oper.wp P s u a aa ao else E:=by
 have hw:Region.wanted s (yielded k u.tmps)=cf:=by simp[Region.wanted,Q]
 rw[di hw];obtain⟨l,m,V,K,L,_,N⟩:=nG (P:=P) a b B s.type w x i c bytes ht S hz h o r q D A t j n v ac d T g F (by unfold maxLen;omega) e f;unfold Oper.wp;simp[execOp,p,resolve,invoke,builtin,W,hx,V,Result.andThen];exact O l m K<|eJ.of L N
def Qw:(prog.info? 209).map (λi=>(i.zero,i.size,i.bytes))=H (H<|dL #[am ⟨#[]⟩,am ⟨#[]⟩,aM bw],3,40):=by kernel_rfl
def OO(w:Y)(a:M)(o:ab)(l:oR):Prop:=w.ownsRow a 209 3 o (y l)<|gU l
def GO(w:Y)(x a b:ab)(t:TypeId):∀j u,[x,a,b][j]?=H u->aW (dd w<|ay #[x,a,b] t) (((R (z<|G w) 0):Addr).add j)=H u:=by
 intro j u c;rw[dJ];simp_all
def LV(l:oR)(A a o:M)(w:Y)(W:y l<=1000000000000)(p:A<z (G w))(E:∀Q S,(gU l)[Q]?=H S->aW w (R A<|a+Q)=H S):cY bA 54 #[bI A a (y l) o] w λV C=>∃B,V=aN B/\OO C (z<|G w) B l/\Below (z<|G w) w C:=by
 obtain⟨P,r,u,v,x⟩:=dl Qw;have j:=X E;go_in
 go_wp2;go_loopw [3,4] (λa i wr=>∃n:M,n<=y l/\i=aq n/\OO wr (z<|G w) a (l.take n)/\Below (z<|G w) w wr) (λ_ i _=>y l-(intOf i).toNat)
 case atStart=>exact⟨0,bK _,rfl,cK _ _ _ _,Below.refl _ _⟩
 (case round=>obtain⟨n,K,rfl,c,b⟩:=hrel;have t:z (G w)<=z (G wr):=b.size;by_cases f:n<y l;(.have q:=lW l n f;have L:aW wr (R A<|a+n*3)=H (am l[n].key):=(b.cell<|by exact p).trans<|j _ _ q.1;have N:aW wr (R A<|a+n*3+1)=H (am l[n].val):=(b.cell<|by exact p).trans (by rw[bD];exact j _ _ q.2.1);have O:aW wr (R A<|a+n*3+2)=H (aM l[n].del):=(b.cell<|by exact p).trans (by rw[bD];exact j _ _ q.2.2);(have d:wr.ownsRow (z<|G w) 209 3 u3 n (gU<|l.take n):=by have F:wr.ownsRow (z<|G w) 209 3 u3 (y<|l.take n) (gU<|l.take n):=c;rwa[dp,pA K]at F);obtain⟨aa,T,s⟩:=aC d;subst s;have i:=X d;have D:=X (show gU (l.take<|n+1)=gU (l.take n)++[am l[n].key,am l[n].val,aM l[n].del]by unfold gU;rw[ah f,fJ];simp[sA]);have HB:=X b;go_wp2;(go_region_law (refine uT rfl (.tmp 11) (.tmp 28) 138 rfl (z<|G w) 209 P (dL #[am ⟨#[]⟩,am ⟨#[]⟩,aM bw]) 3 40 underlying138 r u v x rfl (by decide) (I aa n T) n (gU<|l.take n) (by simp[Act.eval]) (kj (aT i<|ay #[am l[n].key,am l[n].val,aM l[n].del] 209) rfl) (R (z<|G wr) 0) 1 1 [am l[n].key,am l[n].val,aM l[n].del] (by simp[Act.eval]) rfl (GO _ _ _ _ _) (by simp[Value.oneCell']) (by omega) (by omega) (by simp;omega) ?_;intro v2 w2 e g;obtain⟨x2,c2,rfl⟩:=aC e;have k:=X e;have m:=X g));go_wp2;(all_goals go_roundw;(case rel=>exact⟨n+1,by omega,by go_num,by unfold OO;rw[dp,pA (by omega),J D];exact k,mQ HB t m (ay #[am l[n].key,am l[n].val,aM l[n].del] 209) rfl<|λb a=>(bN i b a).1⟩);case measure=>simp[intOf];omega));(have d:n=y l:=by omega);subst d;rw[aY]at c;have i:=X c;have HB:=X b;go_wp2;go_ret;exact⟨_,rfl,i,HB⟩)
theorem Pc(w:Y):cY bA 54 #[az] w λe b=>∃a,e=aN a/\OO b (z<|G w) a []/\Below (z<|G w) w b:=by
 go_in
 go_wp2;go_loopw [3,4] (λo i wr=>i=aq 0/\o=az/\wr=w) (λ_ _ _=>0)
 case atStart=>grind
 (case round=>obtain⟨rfl,rfl,rfl⟩:=hrel;go_wp2;go_ret;exact⟨_,rfl,cK _ _ _ _,Below.refl _ _⟩)
def Pd(l:oR)(v:ab)(w:Y)(g:y l<=1000000000000)(h:Ik w v l)(e:∀k,cI v=H k->k<z (G w)):cY bA 54 #[v] w λj d=>∃c,j=aN c/\OO d (z<|G w) c l/\Below (z<|G w) w d:=by
 obtain⟨_,⟨rfl,m⟩|⟨i,a,b,rfl,_,f⟩⟩:=h;grind[eq_nil_of_length_eq_zero,Pc]
 exact LV l i a b w g (e i rfl) f
theorem ig:(∀(l:ix)(i:M)(x:ab),l.toArray.setIfInBounds i x=(l.set i x).toArray)/\(∀(x a:ab)(l:ix),(x::l).set 0 a=a::l)/\∀(x a:ab)(l:ix)(n:M),(x::l).set (n+1) a=x::l.set n a:=(by simp)
theorem rA:(∀(l:ix)(i:M)(h:i<l.toArray.size),l.toArray[i]=l[i]'(by simpa using h))/\(∀(x:ab)(l:ix)(i:M)(h:i+1<y (x::l)),(x::l)[i+1]=l[i]'(by simpa using h))/\∀(x:ab)(l:ix)(h:0<y (x::l)),(x::l)[0]=x:=(by simp)
section
variable{P:Program}{ops:Array Oper}{Q:Exit->Act->Y->Prop}{md:Region.Mode}{S:Y->Prop}
def lj(P:Program)(md:Region.Mode)(ops:Array Oper)(Q:Exit->Act->Y->Prop)(S:Y->Prop)(m:M):M->Array Bool->Act->Y->Prop
 |0,a,c,w=>Region.ready md ops a=[]/\Q .normal c w
 |fuel+1,a,c,w=>
  (Region.ready md ops a=[]->Q .normal c w)/\∀i∈Region.ready md ops a,wpOp P ops Q i (λd b=>(i≠m->S b)/\lj P md ops Q S m fuel (a.setIfInBounds i cf) d b) c w
theorem rN{m:M}:∀(a:M)(b:Array Bool)(g:Act)(w:Y),lj P md ops Q S m a b g w->wpAny P md ops Q a b g w
 |0,_,_,_,h=>h
 |a+1,_,_,_,h=>⟨h.1,λi e=>zf (λc f d=>rN a _ c f d.2)<|h.2 i e⟩
theorem JI{l F:M}{h E:Oper}{W:ab}(A:ops[l]?=H h)(hm:ops[F]?=H E)(T:∃g∈E.after,Region.binds md g=cf/\g.on=l)(D:∀(j:M)(ac:Oper)cs b,ops[j]?=H ac->ac.op≠ .select cs b)(K:∀aa q w,Q (.panic aa) (q.put h.dst W) w->Q (.panic aa) q w):∀(c:M)(a:Array Bool)(q:Act)(w:Y),(∀j m,ops[j]?=H m->j≠l->a.getD j cf=bw->(∀g∈m.after,Region.binds md g=cf->g.on≠l)->h.apart ops m=cf)->l∈Region.ready md ops a->YieldsIf P ops S h W q->S w->lj P md ops Q S F c (a.setIfInBounds l cf) (q.put h.dst W) w->lj P md ops Q S F (c+1) a q w:=by
 intro c;induction c with
 |zero=>
  intro a q w _ v p i e;refine⟨(by grind),λj o=>?_⟩;by_cases d:j=l
  .subst d;exact p.wpOp A i ⟨λ_=>i,e⟩
  .have:=tL o d;rw[e.1]at this;cases this
 |succ c ih=>
  intro a q w f v p i e;refine⟨(by grind),λj o=>?_⟩;by_cases d:j=l
  .subst d;exact p.wpOp A i ⟨λ_=>i,e⟩
  .have r:=e.2 j<|tL o d;obtain⟨B,m,u,k⟩:=zh.1 o;have C:∀g∈m.after,Region.binds md g=cf->g.on≠l:=λg x t s=>by
    have r:=k g x t;have L:=(zh.1 v).1;rw[s]at r;grind
   have h2:=wpOp_putIf u (by grind) (by grind) (by grind) K p r;have n:∀x ok,ops[x]?=H ok->x≠l->(a.setIfInBounds j cf).getD x cf=bw->(∀g∈ok.after,Region.binds md g=cf->g.on≠l)->h.apart ops ok=cf:=λx ok O s c t=>by
    refine f x ok O s ?_ t;by_cases L:j=x
    .grind
    simp_all
   have V:=tL v<|Ne.symm d;have N:j≠F:=λg=>by
    grind
   grind[wpOp_mono,Array.setIfInBounds_comm]
theorem lN{i q:M}{c g:Oper}{v:ab}{b:M}{a:Array Bool}{d:Act}{w:Y}(e:ops[i]?=H c)(l:ops[q]?=H g)(m:(g.after.any λs=>Region.binds md s&&s.on==i)=cf)(o:Region.noSelect ops=cf)(k:Region.free md ops a i=cf)(n:(Region.ready md ops a).contains i=cf)(h:∀r d w,Q (.panic r) (d.put c.dst v) w->Q (.panic r) d w)(p:YieldsIf P ops S c v d)(j:S w)(t:lj P md ops Q S q b (a.setIfInBounds i cf) (d.put c.dst v) w):lj P md ops Q S q (b+1) a d w:=JI e l (by
 grind) (Region.noSelect_spec o) h b a d w (Region.free_spec e k) (by simpa using n) p j t
theorem bG{i m:M}{o:Oper}{b:M}{a:Array Bool}{e:Act}{w:Y}(h:ops[i]?=H o)(g:o.guard=none)(j:Region.ready md ops a=[i])(n:∀K:Act->Y->Prop,(∀c w',(i≠m->S w')->lj P md ops Q S m b (a.setIfInBounds i cf) c w'->K c w')->Oper.wp P o e w K Q):lj P md ops Q S m (b+1) a e w:=by
 refine⟨(by grind),λl d=>?_⟩;rw[j]at d;obtain rfl:l=i:=by simpa using d
 unfold wpOp;simp only[h];have k:Region.wanted o (yielded ops e.tmps)=cf:=by simp[Region.wanted,g]
 rw[di k];grind
theorem fm{m:M}{a:Array Bool}{d:Act}{w:Y}(c:Region.ready md ops a=[])(h:Q .normal d w):∀b,lj P md ops Q S m b a d w
 |0=>⟨c,h⟩
 |_+1=>⟨λ_=>h,by rw[c];simp⟩
theorem eH(S:Y->Prop)(m:M){id:M}{b:Act}{w:Y}(a:P.follows .mixedOrders=cf)(h:lj P .any ops Q S m ops.size (Array.replicate ops.size bw) b w.drew):(Code.region id ops cf).wp P Q b w:=zQ a<|rN _ _ _ _ h
end
section
variable{P:Program}{ops:Array Oper}{Q:Exit->Act->Y->Prop}{md:Region.Mode}{S:Y->Prop}
def Qb(md:Region.Mode)(ops:Array Oper)(a:Array Bool)(m i:M):Bool:=match ops[m]? with
 |some b=>(b.after.any λe=>Region.binds md e&&e.on==i)&&Region.noSelect ops&&Region.free md ops a i&&(Region.ready md ops a).contains i
 |none=>bw
def Cy(P:Program)(md:Region.Mode)(ops:Array Oper)(Q:Exit->Act->Y->Prop)(S:Y->Prop)(m _ b:M)(a:Array Bool)(c:Act)(w:Y):Prop:=lj P md ops Q S m b a c w
theorem fw(k:M){m b:M}{a:Array Bool}{c:Act}{w:Y}(h:Cy P md ops Q S m k b a c w):lj P md ops Q S m b a c w:=h
theorem iG{k m b:M}{a:Array Bool}{c:Act}{w:Y}(h:lj P md ops Q S m b a c w):Cy P md ops Q S m k b a c w:=h
theorem Bc{k m:M}{d:Oper}{v:ab}{c:M}{a:Array Bool}{e:Act}{w:Y}(h:S w)(i:ops[k]?=H d)(b:Qb md ops a m k=cf)(g:∀n e w,Q (.panic n) (e.put d.dst v) w->Q (.panic n) e w)(l:YieldsIf P ops S d v e)(o:Cy P md ops Q S m (k+1) c (a.setIfInBounds k cf) (e.put d.dst v) w):Cy P md ops Q S m k (c+1) a e w:=by
 unfold Qb at b;split at b;rename_i p j;simp only[my]at b;exact lN i j b.1.1.1 b.1.1.2 b.1.2 b.2 g l h o;cases b
theorem iS{k m:M}{c:Oper}{v:ab}{b:M}{a:Array Bool}{d:Act}{w:Y}(g:S w)(i:ops[k]?=H c)(e:Qb md ops a m k=cf)(f:∀l d w,Q (.panic l) (d.put c.dst v) w->Q (.panic l) d w)(h:Region.wanted c (yielded ops d.tmps)=cf)(j:∀w,S w->(execOp d.eval c).run P w=.ok (.value v) w)(n:Cy P md ops Q S m (k+1) b (a.setIfInBounds k cf) (d.put c.dst v) w):Cy P md ops Q S m k (b+1) a d w:=Bc g i e f (.inl ⟨h,j⟩) n
end
section
variable{P:Program}{ops:Array Oper}{Q:Exit->Act->Y->Prop}{md:Region.Mode}{S:Y->Prop}
theorem ue{i j m:M}{e f:Oper}{b:M}{a:Array Bool}{h:Act}{w:Y}(n:ops[i]?=H e)(o:ops[j]?=H f)(k:e.guard=none)(l:f.guard=none)(p:Region.ready md ops a=[i,j])(q:∀K:Act->Y->Prop,(∀c w',(i≠m->S w')->lj P md ops Q S m b (a.setIfInBounds i cf) c w'->K c w')->Oper.wp P e h w K Q)(r:∀K:Act->Y->Prop,(∀c w',(j≠m->S w')->lj P md ops Q S m b (a.setIfInBounds j cf) c w'->K c w')->Oper.wp P f h w K Q):lj P md ops Q S m (b+1) a h w:=by
 refine⟨(by grind),λs d=>?_⟩;rw[p]at d;rcases bM.1 d with rfl|d;unfold wpOp;simp only[n];(have g:Region.wanted e (yielded ops h.tmps)=cf:=by simp[Region.wanted,k]);rw[di g];grind
 (obtain rfl:s=j:=by simpa using d);unfold wpOp;simp only[o];(have g:Region.wanted f (yielded ops h.tmps)=cf:=by simp[Region.wanted,l]);rw[di g];grind
theorem uQ{α:Type}(f:α->Y->Prop)(A:α->Act)(a:Array Bool)(c:M){m d:M}{b:Array Bool}{h:Act}{w:Y}(e:(∀x W,f x W->lj P md ops Q S m c a (A x) W)->lj P md ops Q S m d b h w)(g:∀x W,f x W->lj P md ops Q S m c a (A x) W):lj P md ops Q S m d b h w:=e g
theorem jZ{m a:M}{l b:Array Bool}{c:Act}{w:Y}(h:lj P md ops Q S m a l c w)(e:l=b):lj P md ops Q S m a b c w:=e▸h
end
section
variable{P:Program}{ops:Array Oper}{Q:Exit->Act->Y->Prop}{md:Region.Mode}
theorem Ml{l n:M}{c:String}{a:Array ab}{w:Y}{b:ab->Y->Prop}(h:Rows P c a w b):RowsIn (Fence.wide.inRound l) n P c a w b:=λf d _=>let⟨v,e,r,s⟩:=h f d;⟨v,e,r,stepsIn_wide.2 s⟩
theorem Oper.OZ{o:Oper}{a:Act}{w:Y}{K:Act->Y->Prop}(l n:M)(b:∀c,o.op≠ .defer c)(h:o.wp P a w K Q):o.wpIn (Fence.wide.inRound l) n P a w K Q:=by
 unfold Oper.wpIn;refine⟨λf _=>trivial,?_⟩;rw[Oper.semAt_plain (Fence.wide.inRound l) _ _ b];unfold Oper.wp at h;generalize(execOp a.eval o).run P w=r at*;cases r with
 |ok x d=>
  cases x<;>simp only[Oper.upon,Oper.uponIn]at h|-<;>first
   |exact h
   |exact⟨(λc=>(by cases c)),CallsIn.inRound l<|eD.2 h⟩
   |exact⟨(λc=>(by cases c)),Ml h⟩
   |exact h.elim
 |halt x d=>cases x<;>simp only[Oper.upon,Oper.uponIn]at h|-<;>exact h
theorem Al{l n:M}(j:∀(i:M)(o:Oper)c,ops[i]?=H o->o.op≠ .defer c)(g:¬LetsOut Q):∀(a:M)(b:Array Bool)(p:Act)(w:Y),wpAny P md ops Q a b p w->wpAnyIn (Fence.wide.inRound l) n P md ops Q a b p w
 |0,_,_,_,h=>h
 |a+1,_,_,_,h=>⟨h.1,λi k=>by
  have d:=zf (λe m f=>Al (l:=l) (n:=n) j g a _ e m f)<|h.2 i k;unfold wpOp at d;unfold wpOpIn;cases ho:ops[i]? with
  |none=>grind
  |some o=>
   simp only[ho]at d|-;split
   .rename_i e;simp only[e,nH]at d;grind[Oper.OZ]
   .rename_i e;simp only[e]at d;exact⟨λ_ _=>trivial,d⟩⟩
def Kj(ops:Array Oper):Bool:=ops.all λo=>match o.op with| .defer _=>bw|_=>cf
theorem BA(h:Kj ops=cf):∀(i:M)(o:Oper)c,ops[i]?=H o->o.op≠ .defer c:=by
 intro i o c b e;obtain⟨a,rfl⟩:=nZ.1 b;have:=Array.all_eq_true.1 h i a;rw[e]at this;cases this
theorem uO(S:Y->Prop)(m:M){l n id:M}{a:Act}{w:Y}(d:P.follows .mixedOrders=cf)(c:Kj ops=cf)(b:∀a w,¬Q .outgrown a w)(h:lj P .any ops Q S m ops.size (Array.replicate ops.size bw) a w.drew):(Code.region id ops cf).wpIn (Fence.wide.inRound l) n P Q a w:=wpIn_region_any d<|Al (BA c) (λ⟨a,w,h⟩=>b a w h) _ _ _ _<|rN _ _ _ _ h
end
def Cx{P:Program}{r n id:M}{Q:Exit->Act->Y->Prop}{c:Act}{l:ci Oper}(i:P.follows .mixedOrders=cf)(e:Region.lexB .any l.toArray=cf)(g:Kj l.toArray=cf)(f:∀c a,¬Q .outgrown c a)(h:wpQuiet P l.toArray (λb=>∃n,b=a.drewN n) (λd=>∀b,(∃n,b=a.drewN n)->Q .normal d b) l c):(Code.region id l.toArray cf).wpIn (Fence.wide.inRound r) n P Q c a:=by
 simp only[Region.lexB,my]at e;refine wpIn_region_any i<|Al (BA g) (λ⟨c,a,h⟩=>f c a h) _ _ _ _<|wpAny_of_quiet (C:=λb=>∃n,b=a.drewN n) (Q:=λd=>∀b,(∃n,b=a.drewN n)->Q .normal d b) (by grind) _ _ _ _ ⟨1,rfl⟩ ?_;have:=wpAnyQ_lex (C:=λb=>∃n,b=a.drewN n) (md:=.any) e.1 l 0 (Array.replicate l.toArray.size bw) c (by simp) (by grind) h;grind
section
open Extern.Stop Stop Extern
theorem nj(w:Y):cY bA 13 #[.nilIface] w λe a=>e=aN (aq 0)/\Below (z<|G w) w a:=by
 go_in
 go_wp2;go_ret;exact⟨rfl,(Below.refl _ w).alloc (ag _) _⟩
def DS(t:Addr)(w:Y):(ReflectliteValue.unpack<|.iface 103<|dC<|H t).run bA w=.ok (dL #[dC<|H<|R (7) 103,aD<|z<|G w,aG 150]) (dd w<|ay #[dC<|H t] 103):=by kernel_rfl
def Mo(a:Addr)(w:Y):(ReflectliteValue.methodAny (ReflectliteValue.valueError "reflectlite.Value.Type" 0) (λt _ _ _=>ReflectliteType.toType t) #[dL #[dC<|H<|R (7) 103,dC<|H a,aG 150]]).run bA w=.ok (.iface 214<|dL #[dC<|H<|R (7) 103]) w:=by kernel_rfl
def vG(h:ab)(w:Y):(Go.method 541 214 (dL #[h]) "Kind").run bA w=.ok (300,h) w:=by kernel_rfl
def Mt(w:Y):((ReflectliteType.abiMethod λt=>(λa:M=>Value.int IntKind.u8 (a:U))<$>Rtype.kind t) #[dC<|H<|R (7) 103]).run bA w=.ok (td 22) w:=by kernel_rfl
def Mu(w:Y):((ReflectliteType.abiMethod λt=>(λa:M=>Value.int IntKind.u8 (a:U))<$>Rtype.kind t) #[dC<|H<|R (7) 52]).run bA w=.ok (td 2) w:=by kernel_rfl
def Q4(a:Sem ab)(f:TypeId->Addr->M->M->Sem ab)(v:ab):ReflectliteValue.method a f #[v]=(do match<-ReflectliteValue.parts v with|none=>a|some (t,c,b)=>f t c b<|b%32):=rfl
def II(a:Addr)(w:Y):(ReflectliteValue.parts<|dL #[dC<|H<|R (7) 103,dC<|H a,aG 150]).run bA w=.ok (H (103,a,150)) w:=by kernel_rfl
def IJ(b p:Addr)(W:Y)(a:aW W b=H (dC<|H p)):(ReflectliteValue.method (ReflectliteValue.valueError "reflectlite.Value.IsNil" 0) ReflectliteValue.isNil #[dL #[dC<|H<|R (7) 103,dC<|H b,aG 150]]).run bA W=.ok (aM bw) W:=by
 rw[Q4];simp only[jY,II,Result.andThen];simp[ReflectliteValue.isNil,loadVar,isAgg,underlying,underlying103,a,Result.andThen]
def vH(h:ab)(w:Y):(Go.method 541 214 (dL #[h]) "Elem").run bA w=.ok (329,dL #[h]) w:=by kernel_rfl
def oW(h:ab)(w:Y):(Go.method 541 214 (dL #[h]) "Implements").run bA w=.ok (330,dL #[h]) w:=by kernel_rfl
def nF(h:ab)(w:Y):(Go.method 541 214 (dL #[h]) "AssignableTo").run bA w=.ok (327,dL #[h]) w:=by kernel_rfl
def Mw(w:Y):(ReflectliteType.method ReflectliteType.elem #[dL #[dC<|H<|R (7) 103]]).run bA w=.ok (.iface 214<|dL #[dC<|H<|R (7) 52]) w:=by kernel_rfl
def yy(w:Y):(ReflectliteType.relation "Implements" ReflectliteType.implements_ #[dL #[dC<|H<|R (7) 52],.iface 214<|dL #[dC<|H<|R (7) 41]]).run bA w=.ok (aM cf) w:=by kernel_rfl
def wU(v:ab)(w:Y):(ReflectliteType.typeOf #[.iface 52 v]).run bA w=.ok (.iface 214<|dL #[dC<|H<|R (7) 52]) w:=by kernel_rfl
def yz(w:Y):(ReflectliteType.relation "AssignableTo" ReflectliteType.assignableTo #[dL #[dC<|H<|R (7) 52],.iface 214<|dL #[dC<|H<|R (7) 52]]).run bA w=.ok (aM cf) w:=by kernel_rfl
def DT(n:U)(w:Y):(ReflectliteValue.unpack<|.iface 52<|aq n).run bA w=.ok (dL #[dC<|H<|R (7) 52,aD<|z<|G w,aG 130]) (dd w<|ay #[aq n] 52):=by kernel_rfl
def PF(w:Y):(Rtype.elem? 103).run bA w=.ok (H 52) w:=by kernel_rfl
def C7(p:Addr)(w:Y):(ReflectliteValue.mk 52 p ReflectliteValue.flagAddr).run bA w=.ok (dL #[dC<|H<|R (7) 52,dC<|H p,aG 386]) w:=by kernel_rfl
def IK(b p:Addr)(W:Y)(a:aW W b=H (dC<|H p)):(ReflectliteValue.method (ReflectliteValue.valueError "reflectlite.Value.Elem" 0) ReflectliteValue.elem #[dL #[dC<|H<|R (7) 103,dC<|H b,aG 150]]).run bA W=.ok (dL #[dC<|H<|R (7) 52,dC<|H p,aG 386]) W:=by
 rw[Q4];simp only[jY,II,Result.andThen];simp[ReflectliteValue.elem,loadVar,isAgg,underlying,underlying103,a,Result.andThen,PF,C7]
def Y3(v x:ab):ReflectliteValue.set #[v,x]=(do
 let(H (dst,a,fl),H (src,b,_)):=(<-ReflectliteValue.parts v,<-ReflectliteValue.parts x)
  |unsupported (.noEntry "extern/(internal/reflectlite.Value).Set.zeroValue")
 if fl/ReflectliteValue.flagAddr%2==0 then unsupported (.noEntry "extern/(internal/reflectlite.Value).Set.unaddressable")
 let c<-loadVar src b
 if<-Rtype.directlyAssignable dst src then storeVar dst a c
 else if<-Rtype.implements dst src then
  if(<-Rtype.kind src)==20 then
   match c with
   | .nilIface=>unsupported<|.noEntry "extern/reflectlite: a nil value of one interface type handed on as a value of another"
   |_=>storeVar dst a c
  else storeVar dst a (.iface src c)
 else panicString ("reflectlite.Set: value of type " ++(<-Rtype.spelt src)++ " is not assignable to type " ++(<-Rtype.spelt dst))
 pure (dA #[])):=rfl
def PB(a:Addr)(w:Y):(ReflectliteValue.parts<|dL #[dC<|H<|R (7) 52,dC<|H a,aG 386]).run bA w=.ok (H (52,a,386)) w:=by kernel_rfl
def Tc(a:Addr)(w:Y):(ReflectliteValue.parts<|dL #[dC<|H<|R (7) 52,dC<|H a,aG 130]).run bA w=.ok (H (52,a,130)) w:=by kernel_rfl
def PG(w:Y):(Rtype.directlyAssignable 52 52).run bA w=.ok cf w:=by kernel_rfl
def RE(a e:Addr)(n:U)(nh:ab)(W:Y)(b:aW W e=H (aq n))(d:aW W a=H nh)(c:W.frozen? a=bw):(ReflectliteValue.set #[dL #[dC<|H<|R (7) 52,dC<|H a,aG 386],dL #[dC<|H<|R (7) 52,dC<|H e,aG 130]]).run bA W=.ok (dA #[]) (cH W a<|aq n):=by
 rw[Y3];simp only[jY,PB,Tc,Result.andThen];simp[ReflectliteValue.flagAddr,loadVar,isAgg,underlying,underlying52,b,Result.andThen,PG,storeVar,Value.cells,storeCells,Addr.add];rw[Cw bA W a _ _<|by rfl];simp[d,c]
def oF(w:Y):Prop:=aW w (R 0 0)=H (.iface 214<|dL #[dC<|H<|R (7) 41])
def T4:=@eO bA 63 _ (λa=>ReflectliteValue.unpack<|a.getD 0<|dA #[]) func63 (by kernel_rfl) (by kernel_rfl) (by kernel_rfl)<|by kernel_rfl
def T3:=@eO bA 64 _ (ReflectliteValue.methodAny (ReflectliteValue.valueError "reflectlite.Value.Type" 0)<|λt _ _ _=>ReflectliteType.toType t) func64 (by kernel_rfl) (by kernel_rfl) (by kernel_rfl)<|by kernel_rfl
def T2:=@eO bA 65 _ (ReflectliteValue.method (ReflectliteValue.valueError "reflectlite.Value.IsNil" 0) ReflectliteValue.isNil) func65 (by kernel_rfl) (by kernel_rfl) (by kernel_rfl)<|by kernel_rfl
def C2:=@eO bA 300 _ (ReflectliteType.abiMethod λt=>do pure (td<|<-Rtype.kind t)) func300 (by kernel_rfl) (by kernel_rfl) (by kernel_rfl)<|by kernel_rfl
def B9:=@eO bA 329 _ (ReflectliteType.method ReflectliteType.elem) func329 (by kernel_rfl) (by kernel_rfl) (by kernel_rfl)<|by kernel_rfl
def B8:=@eO bA 330 _ (ReflectliteType.relation "Implements" ReflectliteType.implements_) func330 (by kernel_rfl) (by kernel_rfl) (by kernel_rfl)<|by kernel_rfl
def C5:=@eO bA 84 _ ReflectliteType.typeOf func84 (by kernel_rfl) (by kernel_rfl) (by kernel_rfl)<|by kernel_rfl
def C1:=@eO bA 327 _ (ReflectliteType.relation "AssignableTo" ReflectliteType.assignableTo) func327 (by kernel_rfl) (by kernel_rfl) (by kernel_rfl)<|by kernel_rfl
def C4:=@eO bA 106 _ (ReflectliteValue.method (ReflectliteValue.valueError "reflectlite.Value.Elem" 0) ReflectliteValue.elem) func106 (by kernel_rfl) (by kernel_rfl) (by kernel_rfl)<|by kernel_rfl
def C3:=@eO bA 107 _ ReflectliteValue.set func107 (by kernel_rfl) (by kernel_rfl) (by kernel_rfl)<|by kernel_rfl
abbrev Y6(T:TypeId)(w:Y):Obj:=ay #[dC<|H<|R (7) T,aD<|z<|G w,aG 150] 153
abbrev O7(T:TypeId)(t:Addr)(w:Y):Y:=dd (dd w<|ay #[dC<|H t] T)<|Y6 T w
abbrev Yg(T:TypeId)(t:Addr)(w:Y):Y:=(O7 T t w).alloc<|Y6 T w
def AM(T:TypeId)(t:Addr)(o:Obj){p:Addr}(h:p.block<z (G a)):aW (O7 T t a) p=aW a p/\aW (Yg T t a) p=aW a p/\aW ((Yg T t a).alloc o) p=aW a p/\((Yg T t a).alloc o).frozen? p=a.frozen? p:=by
 refine⟨?_,?_,?_,?_⟩<;>simp(disch:=((try simp)<;>omega))only[eE,World.frozen?_alloc_old]
def Ro(T:TypeId)(t:Addr):aW (Yg T t a) (R (z<|G a) 0)=H (dC<|H t):=by
 rw[eE _ _ (R (z<|G a) 0) (by simp;omega)];simp
def G1(n:U)(t:Addr)(nh:ab)(d:oF a)(b:aW a t=H nh)(c:a.frozen? t=bw):cY bA 29 #[.iface 52<|aq n,.iface 103<|dC<|H t] a λj C=>j=aN (aM cf)/\C=((Yg 103 t a).alloc<|ay #[aq n] 52).setCell t (aq n):=by
 unfold oF at d;have K:=T4;have L:=T3;have N:=T2;have o:=C2;have r:=B9;have s:=B8;have k:=C5;have q:=C1;have l:=C4;have m:=C3;have V:=wU;have O:=nF;have g:=yz;have B:=DT;have E:=DS;have F:=Mo;have S:=vG;have P:=vH;have Q:=oW;have A:=Mt;have x:=Mu;have i:=Mw;have w:=yy;have T:=IJ (R (z<|G a) 0) t (O7 103 t a) (by simp);have v:=cF _ _ d;have u:=(AM 103 t (ay #[] 0) v).1.trans d;have D:=IK (R (z<|G a) 0) t _<|Ro 103 t;have e:=AM 103 t (ay #[aq n] 52)<|cF _ _ b;have f:=RE t (R (z (G a)+1+1+1) 0) n nh ((Yg 103 t a).alloc<|ay #[aq n] 52) (by rw[rY _ _ _ _<|by simp];rfl) (e.2.2.1.trans b)<|e.2.2.2.trans c;go_in
 go_wp2;refine jd 1 ?_;rw[gZ];go_wp2;go_ret;simp_all
end
def oF.alloc{w:Y}(h:oF w)(o:Obj):oF (dd w o):=by
 unfold oF at*;rw[eE _ _ _<|cF _ _ h];exact h
theorem Pe(n:U)(j:oF a):cY bA 13 #[.iface 52<|aq n] a λl k=>l=aN (aq n)/\Below (z<|G a) a k:=by
 have e:aW (dd a<|ay #[aq 0] 52) (R (z<|G a) 0)=H (aq 0):=by simp
 have d:(dd a<|ay #[aq 0] 52).frozen? (R (z<|G a) 0)=bw:=by simp
 have g:=G1 n (R (z<|G a) 0) (aq 0) (j.alloc _) e d;clear e d;go_in
 go_wp2_with(go_at_call 29;refine g.mono ?_;rintro l f⟨rfl,b⟩;have c:Below (z<|G a) a f:=(by rw[b];exact((((((Below.refl _ a).alloc (ag _) _).alloc (by simp) _).alloc (by simp;omega) _).alloc (by simp;omega) _).alloc (by simp;omega) _).setCell (p:=(R (z<|G a) 0)) (ag _) _);have i:aW f (R (z<|G a) 0)=H (aq n):=(by rw[b];exact oO _ _ _ (by rw[eE _ _ _ (by simp;omega),eE _ _ _ (by simp;omega),eE _ _ _ (by simp;omega),eE _ _ _<|by simp];simp));have HB:=X c;clear b c)
 go_ret;exact⟨rfl,HB⟩
section
open Extern.Stop Stop Extern
def zF(a:TypeId)(v:ab)(w:Y):(binOp .eql 41 (.iface a v) .nilIface).run bA w=.ok (aM bw) w:=by
 have h:∀d:M,(Op.equalIn (d+1) 41 (.iface a v) .nilIface).run bA w=.ok bw w:=λd=>by simp[Op.equalIn,fI underlying41]
 simp only[binOp];simp[Op.equal,Op.maxDepth,h 9999]
def Oc:(prog.info? 52).map (·.comparable)=H cf:=by kernel_rfl
def WQ(n:U)(w:Y):cY bA 42 #[.nilIface,.iface 52<|aq n] w λe a=>e=aN (aM bw)/\a=w:=by
 have b:∀w,(binOp .eql 41 .nilIface<|.iface 52<|aq n).run bA w=.ok (aM bw) w:=λw=>run_eql_iface_nil_left w _ _ underlying41;go_in
 go_wp2;go_ret;simp_all
def sU(h:ab)(w:Y):(Go.method 541 214 (dL #[h]) "Comparable").run bA w=.ok (328,dL #[h]) w:=by kernel_rfl
def yR(w:Y):(ReflectliteType.method (λt=>do Rtype.noPackHeld "Comparable" t;(λa:TypeInfo=>aM a.comparable)<$>typeInfo t) #[dL #[dC<|H<|R (7) 52]]).run bA w=.ok (aM cf) w:=by kernel_rfl
def M6(v:ab)(a:TypeId)(w:Y):(Instr.typeAssert (.iface 192 v) a 252 cf).run bA w=.ok (dA #[.nilIface,aM bw]) w:=run_typeAssert_lacksB underlying252 (by kernel_rfl) (by kernel_rfl) v a w
def JN(v:ab)(a:TypeId)(w:Y):(Instr.typeAssert (.iface 192 v) a 221 cf).run bA w=.ok (dA #[.iface 192 v,aM cf]) w:=run_typeAssert_hasB underlying221 (by kernel_rfl) v a w
def xw(v:ab)(w:Y):(Go.method 541 192 v "Unwrap").run bA w=.ok (325,v) w:=by kernel_rfl
def Ao(a:M)(n:U)(w:Y)(h:aW w (R a 1)=H (aq n)):cY bA 325 #[aD a] w λe b=>e=aN (.iface 52<|aq n)/\b=w:=by
 go_in
 go_wp2;go_ret;simp_all
def UH(n:U)(w:Y):(binOp .eql 41 (.iface 52<|aq n)<|.iface 52<|aq n).run bA w=.ok (aM cf) w:=by
 obtain⟨i,b,a⟩:=qh.1 Oc;have h:∀d:M,(Op.equalIn (d+2) 41 (.iface 52<|aq n)<|.iface 52<|aq n).run bA w=.ok cf w:=λd=>by simp[Op.equalIn,fI underlying41,fI underlying52,typeInfo,b,a]
 simp only[binOp];simp[Op.equal,Op.maxDepth,h 9998]
def Ue(a:M)(n:U)(w:Y)(h:aW w (R a 1)=H (aq n)):cY bA 85 #[.iface 192<|aD a,.iface 52<|aq n,aM cf] w λe b=>e=aN (aM cf)/\b=w:=by
 have g:∀w,(binOp .eql 41 (.iface 192<|aD a)<|.iface 52<|aq n).run bA w=.ok (aM bw) w:=λw=>run_eql_iface_types _ _ _ _ underlying41 (by decide) w;have i:=UH n;have j:=zF;have d:=M6;have f:=JN;have m1:=xw;have c:=Ao a n w h;go_in
 go_wp2;refine jd 2 ?_;rw[gZ];go_wp2_with fail
 apply c.mono;rintro e b⟨rfl,rfl⟩;go_wp2;rw[gZ];go_wp2;go_ret;simp_all
def RU(a:M)(n:U)(w:Y)(h:aW w (R a 1)=H (aq n)):cY bA 42 #[.iface 192<|aD a,.iface 52<|aq n] w λf b=>f=aN (aM cf)/\b=w:=by
 have i:=zF;have c:=@eO bA 84 _ ReflectliteType.typeOf func84 (by kernel_rfl) (by kernel_rfl) (by kernel_rfl) (by kernel_rfl);have d:=@eO bA 328 _ (ReflectliteType.method (λt=>do Rtype.noPackHeld "Comparable" t;pure (aM (<-typeInfo t).comparable))) func328 (by kernel_rfl) (by kernel_rfl) (by kernel_rfl) (by kernel_rfl);have k:=wU;have j:=sU;have g:=yR;have e:=Ue a n w h;go_in
 go_wp2_with fail
 apply e.mono;rintro f b⟨rfl,rfl⟩;go_wp2;go_ret;simp_all
end
section
variable{P:Program}{ops:Array Oper}{Q:Exit->Act->Y->Prop}{md:Region.Mode}{S:Y->Prop}
def Bq(md:Region.Mode)(ops:Array Oper)(i:M):M->M->Bool
 |0,_=>bw
 |n+1,j=>match ops[j]? with
  |none=>bw
  |some o=>o.after.any λe=>Region.binds md e&&(e.on==i||Bq md ops i n e.on)
def DH(md:Region.Mode)(ops:Array Oper)(a:Array Bool):Prop:=∀j o,ops[j]?=H o->a.getD j bw=cf->∀e∈o.after,Region.binds md e=cf->a.getD e.on bw=cf
def EP(md:Region.Mode)(ops:Array Oper)(a:Array Bool):Bool:=(List.range ops.size).all λj=>match ops[j]? with
 |none=>cf
 |some o=>!a.getD j bw||o.after.all λe=>!Region.binds md e||a.getD e.on bw
theorem US{a:Array Bool}(h:EP md ops a=cf):DH md ops a:=by
 intro j o c d g f e;unfold EP at h;rw[vW]at h;have b:=h j<|mu.2 (nZ.1 c).1;simp only[c,d,vz,zR]at b;rw[Array.all_eq_true]at b;grind[Array.mem_iff_getElem]
theorem DH.set{a:Array Bool}{j:M}(m:DH md ops a)(f:j∈Region.ready md ops a):DH md ops (a.setIfInBounds j cf):=by
 intro x o h c l e d;obtain⟨n,p,g,b⟩:=zh.1 f;by_cases k:j=x;grind[getD_set_true]
 rw[getD_set_ne bw k]at c;exact getD_set_true<|m x o h c l e d
theorem Bp{m:M}{a:Array Bool}(i:DH md ops a):∀(n l:M)(o:Oper),ops[l]?=H o->(∀e∈o.after,Region.binds md e=cf->a.getD e.on bw=cf)->Bq md ops m n l=cf->a.getD m bw=cf
 |0,_,_,_,_,h=>by simp[Bq]at h
 |n+1,l,o,j,b,h=>by
  unfold Bq at h;simp only[j]at h;obtain⟨x,k,f⟩:=Array.any_eq_true.1 h;simp only[my,Bool.or_eq_true,beq_iff_eq]at f;have g:=b _ (Array.getElem_mem k) f.1;rcases f.2 with e|e
  .rw[<-e];exact g
  .have hex:∃d,ops[(o.after[x]).on]?=H d:=by
    cases n with
    |zero=>simp[Bq]at e
    |succ n=>
     unfold Bq at e;grind
   obtain⟨d,c⟩:=hex;exact Bp i n _ d c (λh f b=>i _ d c g h f b) e
def nD(P:Program)(md:Region.Mode)(ops:Array Oper)(Q:Exit->Act->Y->Prop)(S:Y->Prop)(m:M):M->Array Bool->Act->Y->Prop
 |0,a,c,w=>Region.ready md ops a=[]/\Q .normal c w
 |fuel+1,a,c,w=>
  (Region.ready md ops a=[]->Q .normal c w)/\∀i∈Region.ready md ops a,wpOp P ops Q i (λd b=>(i<m->S b)/\nD P md ops Q S m fuel (a.setIfInBounds i cf) d b) c w
theorem Bd{m:M}:∀(a:M)(b:Array Bool)(g:Act)(w:Y),nD P md ops Q S m a b g w->wpAny P md ops Q a b g w
 |0,_,_,_,h=>h
 |a+1,_,_,_,h=>⟨h.1,λi e=>zf (λc f d=>Bd a _ c f d.2)<|h.2 i e⟩
theorem JJ{i N:M}{h:Oper}{an:ab}(E:ops[i]?=H h)(aa:i<N)(ad:∀j,N<=j->j<ops.size->Bq md ops i ops.size j=cf)(L:∀(j:M)(ap:Oper)cs b,ops[j]?=H ap->ap.op≠ .select cs b)(W:∀ao r w,Q (.panic ao) (r.put h.dst an) w->Q (.panic ao) r w):∀(c:M)(a:Array Bool)(r:Act)(w:Y),DH md ops a->(∀j n,ops[j]?=H n->j≠i->a.getD j cf=bw->(∀s∈n.after,Region.binds md s=cf->s.on≠i)->h.apart ops n=cf)->i∈Region.ready md ops a->YieldsIf P ops S h an r->S w->nD P md ops Q S N c (a.setIfInBounds i cf) (r.put h.dst an) w->nD P md ops Q S N (c+1) a r w:=by
 intro c;induction c with
 |zero=>
  intro a r w _ _ A p k e;refine⟨(by grind),λj l=>?_⟩;by_cases d:j=i
  .subst d;exact p.wpOp E k ⟨λ_=>k,e⟩
  .have:=tL l d;rw[e.1]at this;cases this
 |succ c ih=>
  intro a r w t g A p k e;refine⟨(by grind),λj l=>?_⟩;by_cases d:j=i
  .subst d;exact p.wpOp E k ⟨λ_=>k,e⟩
  .have T:=e.2 j<|tL l d;obtain⟨F,n,x,D⟩:=zh.1 l;have al:a.getD i bw=cf->False:=λq=>by
    have u:=(zh.1 A).1;grind
   have K:∀s∈n.after,Region.binds md s=cf->s.on≠i:=(by grind);have V:=wpOp_putIf x (by grind) (by grind) (by grind) W p T;have f:∀C ok,ops[C]?=H ok->C≠i->(a.setIfInBounds j cf).getD C cf=bw->(∀s∈ok.after,Region.binds md s=cf->s.on≠i)->h.apart ops ok=cf:=λC ok hk u c v=>by
    refine g C ok hk u ?_ v;by_cases ac:j=C
    .grind
    simp_all
   have B:=tL A<|Ne.symm d;have m:j<N:=by
    grind[Nat.lt_or_ge,Bp,Array.getElem?_eq_some_iff]
   refine zf (λO w' o=>⟨λ_=>o.2.1 m,ih (a.setIfInBounds j cf) O w' (t.set l) f B o.1 (o.2.1 m) ?_⟩) V;rw[vB _ _ d];exact o.2.2
theorem LO{i m:M}{c:Oper}{v:ab}{b:M}{a:Array Bool}{d:Act}{w:Y}(g:ops[i]?=H c)(f:i<m)(l:((List.range ops.size).all λr=>decide (r<m)||Bq md ops i ops.size r)=cf)(o:Region.noSelect ops=cf)(k:Region.free md ops a i=cf)(n:(Region.ready md ops a).contains i=cf)(e:EP md ops a=cf)(h:∀q d w,Q (.panic q) (d.put c.dst v) w->Q (.panic q) d w)(p:YieldsIf P ops S c v d)(j:S w)(s:nD P md ops Q S m b (a.setIfInBounds i cf) (d.put c.dst v) w):nD P md ops Q S m (b+1) a d w:=JJ g f (by grind) (Region.noSelect_spec o) h b a d w (US e) (Region.free_spec g k) (by simpa using n) p j s
theorem fD{i m:M}{o:Oper}{c:M}{a:Array Bool}{g:Act}{w:Y}(j:ops[i]?=H o)(h:o.guard=none)(k:Region.ready md ops a=[i])(q:∀K:Act->Y->Prop,(∀e d,(i<m->S d)->nD P md ops Q S m c (a.setIfInBounds i cf) e d->K e d)->Oper.wp P o g w K Q):nD P md ops Q S m (c+1) a g w:=by
 refine⟨(by grind),λn f=>?_⟩;rw[k]at f;obtain rfl:n=i:=by simpa using f
 unfold wpOp;simp only[j];have l:Region.wanted o (yielded ops g.tmps)=cf:=by simp[Region.wanted,h]
 rw[di l];grind
theorem jo{m:M}{a:Array Bool}{e:Act}{w:Y}(d:Region.ready md ops a=[])(h:Q .normal e w):∀c,nD P md ops Q S m c a e w
 |0=>⟨d,h⟩
 |_+1=>⟨λ_=>h,by rw[d];simp⟩
theorem je(S:Y->Prop)(m:M){id:M}{c:Act}{w:Y}(a:P.follows .mixedOrders=cf)(h:nD P .any ops Q S m ops.size (Array.replicate ops.size bw) c w.drew):(Code.region id ops cf).wp P Q c w:=zQ a<|Bd _ _ _ _ h
end
section
variable{P:Program}{ops:Array Oper}{Q:Exit->Act->Y->Prop}{md:Region.Mode}{S:Y->Prop}
def zi(P:Program)(md:Region.Mode)(ops:Array Oper)(Q:Exit->Act->Y->Prop)(S:Y->Prop)(m _ b:M)(a:Array Bool)(c:Act)(w:Y):Prop:=nD P md ops Q S m b a c w
def Kk(md:Region.Mode)(ops:Array Oper)(a:Array Bool)(m k:M):Bool:=decide (k<m)&&((List.range ops.size).all λj=>decide (j<m)||Bq md ops k ops.size j)&&Region.noSelect ops&&Region.free md ops a k&&(Region.ready md ops a).contains k&&EP md ops a
theorem ki(k:M){m c:M}{a:Array Bool}{d:Act}{w:Y}(h:zi P md ops Q S m k c a d w):nD P md ops Q S m c a d w:=h
theorem oe{k m c:M}{a:Array Bool}{d:Act}{w:Y}(h:nD P md ops Q S m c a d w):zi P md ops Q S m k c a d w:=h
theorem ud{k m:M}{d:Oper}{v:ab}{c:M}{a:Array Bool}{e:Act}{w:Y}(g:S w)(h:ops[k]?=H d)(b:Kk md ops a m k=cf)(f:∀j e w,Q (.panic j) (e.put d.dst v) w->Q (.panic j) e w)(i:YieldsIf P ops S d v e)(l:zi P md ops Q S m (k+1) c (a.setIfInBounds k cf) (e.put d.dst v) w):zi P md ops Q S m k (c+1) a e w:=by
 unfold Kk at b;simp only[my,qe]at b;exact LO h b.1.1.1.1.1 b.1.1.1.1.2 b.1.1.1.2 b.1.1.2 b.1.2 b.2 f i g l
theorem uc{k m:M}{d:Oper}{v:ab}{c:M}{a:Array Bool}{e:Act}{w:Y}(h:S w)(j:ops[k]?=H d)(f:Kk md ops a m k=cf)(g:∀n e w,Q (.panic n) (e.put d.dst v) w->Q (.panic n) e w)(i:Region.wanted d (yielded ops e.tmps)=cf)(l:∀w,S w->(execOp e.eval d).run P w=.ok (.value v) w)(o:zi P md ops Q S m (k+1) c (a.setIfInBounds k cf) (e.put d.dst v) w):zi P md ops Q S m k (c+1) a e w:=ud h j f g (.inl ⟨i,l⟩) o
end
def Mc:∀{l m:cU},eh l->eh m->l.Perm m->l=m
 |[],m,_,_,h=>(List.nil_perm.1 h).symm
 |a::l,[],_,_,h=>by have:=h.length_eq;simp at this
 |a::l,i::m,d,e,h=>by
  obtain⟨k,b⟩:=bz.1 d;obtain⟨n,c⟩:=bz.1 e;have j:a=i:=by
   rcases bM.1 (h.mem_iff.1<|lh ..)with f|f
   .exact f
   .rcases bM.1 (h.mem_iff.2<|lh ..)with g|g
    .exact g.symm
    grind[lS]
  subst j;rw[Mc b c<|(List.perm_cons a).1 h]
def ur{a:dX}(d:∀r∈m,eh r)(c:jX m)(g:a.Perm m):de a=de m:=by
 have h:∀r∈a,eh r:=(by grind);have b:a.flatten.Perm m.flatten:=g.flatten;have e:=Eb a h;have f:Lz (de a):=(((fi a).trans b).pairwise_iff<|by grind).2<|BC d c;exact Mc (List.Pairwise.imp₂ (λg h q k=>zI q k) e f) (pH d c)<|((fi a).trans b).trans (fi m).symm
def Ea{c:dX}(f:∀r∈m,eh r)(d:jX m)(e:c.Perm m)(b:eF)(a:Bool):gX b a c=gX b a m:=by
 unfold gX;rw[ur f d e]
def UB(l s:cU)(k:ae):nQ (l++s) k=(nQ l k).or (nQ s k):=List.find?_append
def Ud{i f W g O:cU}(D:Co [K,W] [O] m)(u:∀a∈e,∀j∈K,a.key≠j.key)(v:∀a∈K,∀j∈i,a.key≠j.key)(w:∀a∈f,∀j∈K,a.key≠j.key)(x:∀a∈K,∀j∈g,a.key≠j.key)(A:∀a∈f,∀j∈W,a.key≠j.key)(B:∀a∈W,∀j∈g,a.key≠j.key):Co [e++K++i,f++W++g] [e++i,f++O++g] m:=by
 intro n;have c:=D n;simp only[qH,zA,tN,UB]at c|-;have l:∀{o:cU}{d:E},nQ o n=H d->d∈o/\d.key=n:=λ{o d}C=>⟨lE C,by simpa using xJ C⟩;have no:∀{o:cU}{d:E},(∀a∈o,a.key≠d.key)->d.key=n->nQ o n=none:=λ{o d}C q=>pJ.2 (by grind);cases ht:nQ K n with
 |some d=>
  obtain⟨k,h⟩:=l ht;rw[no (λa b=>u a b d k) h,@no i _ (λa b p=>v d k a b p.symm) h,@no f _ (λa b=>w a b d k) h,@no g _ (λa b p=>x d k a b p.symm) h];rw[ht]at c;simpa using c
 |none=>
  rw[ht]at c;simp only[jv,tN]at c|-;rcases c with c|⟨k,h,d,r,F⟩
  .left;rw[c]
  .obtain⟨s,t⟩:=l r;rw[@no f _ (λa b=>A a b d s) t,@no g _ (λa b p=>B d s a b p.symm) t,h,r];cases hx:(nQ e n).or (nQ i n)with
   |some L=>left;simp
   |none=>grind
def Aj{A:dX}{b:cU}{ms:eF}{lowest:Bool}(g:∀r∈A,gV r)(f:gV b)(a:jX (A.reverse++[b])):eh (de<|b::A)/\eh (gX ms lowest<|b::A)/\∀(t:U)(D:dX),(t∈ms\/∀x∈(A.reverse++[b]).flatten,x.bQ<=t)->(lowest=cf->∀k,sK (D.map<|kq t) k=none)->Co ((A.reverse++[b]).map<|kq t) [kq t<|gX ms lowest<|b::A] (D.map<|kq t):=by
 have c:∀r∈A.reverse++[b],gV r:=by grind
 have d:(b::A).Perm (A.reverse++[b]):=((tP b A.reverse).trans<|by simp).symm;rw[ur (λr h=>(c r h).mJ) a d,Ea (λr h=>(c r h).mJ) a d];exact⟨pH (λr h=>(c r h).mJ) a,(Gf c a ms lowest).mJ,λt D e d=>BD c a e d⟩
def GV{c:cU}(h:gV (e++K++c))(b:∀x∈e,∀a∈K,x.key≠a.key)(d:∀x∈e,∀a∈c,x.key≠a.key)(f:∀x∈K,∀a∈c,x.key≠a.key)(t:U):kq t (e++K++c)=kq t e++kq t K++kq t c:=by
 rw[DB h (by grind) t,DB (h.sub<|by simp) b t]
def TB{k d W f:cU}{ms:eF}{lowest:Bool}(r:gV (e++K++k))(m:gV (d++W++f))(s:Over (e++K++k) (d++W++f))(E:ii e K)(x2:ii e k)(F:ii K k)(L:ii d W)(N:ii d f)(O:ii W f)(Q:ii d K)(S:ii K f):eh (de [W,K])/\gV (d++gX ms lowest [W,K]++f)/\ii d (gX ms lowest [W,K])/\ii (gX ms lowest [W,K]) f/\Over (e++k) (d++gX ms lowest [W,K]++f)/\∀(h:U)(aa:dX),(h∈ms\/∀x∈K++W,x.bQ<=h)->(lowest=cf->∀ac,sK (aa.map<|kq h) ac=none)->Co [kq h<|e++K++k,kq h<|d++W++f] [kq h<|e++k,kq h<|d++gX ms lowest [W,K]++f] (aa.map<|kq h):=by
 have t:gV K:=r.sub (by simp);have hW:gV W:=m.sub (by simp);have hX:gV (e++k):=r.sub (by simp);have p:∀D∈[K,W],gV D:=by grind
 have o:jX [K,W]:=by unfold jX;simp only[bz,bM,gR,nV,forall_eq,List.Pairwise.nil,vR,false_implies,implies_true];exactλc a h g=>s c (by simp[a]) h<|by simp[g]
 have hp:([W,K]:dX).Perm [K,W]:=List.Perm.swap _ _ _;have em:=ur (λD w=>(p D w).mJ) o hp;have eo:=Ea (λD w=>(p D w).mJ) o hp ms lowest;have V:=Gf p o ms lowest;have i:∀x∈gX ms lowest [K,W],x∈K\/x∈W:=λx C=>by simpa using Az ms lowest [K,W] x C
 rw[em,eo];have u:ii d (gX ms lowest [K,W]):=λc a h g=>(i h g).elim (Q c a h)<|L c a h;have v:ii (gX ms lowest [K,W]) f:=λc a h g=>(i c a).elim (λq=>S c q h g)<|λq=>O c q h g;have T:gV (d++gX ms lowest [K,W]++f):=by refine⟨aZ.2 ⟨aZ.2 ⟨m.mJ.sub (by simp),V.mJ,λc a h g=>jL.2<|.inl<|u c a h g⟩,m.mJ.sub (by simp),λc a h g=>jL.2<|.inl<|(aA.1 a).elim (λq=>N c q h g)<|λq=>v c q h g⟩,λP l=>?_⟩;rcases aA.1 l with l|l;rcases aA.1 l with l|l;exact m.key P (by simp[l]);exact V.key P l;exact m.key P<|by simp[l]
 refine⟨pH (λD w=>(p D w).mJ) o,T,u,v,?_,λh aa g hD=>?_⟩;intro c a j b n;(have l:c∈e++K++k:=by grind);have A:∀b∈K,c.key≠b.key:=λb d=>(aA.1 a).elim (λq=>qE<|E c q b d)<|λq P=>qE (F b d c q) P.symm;rcases aA.1 b with b|b;rcases aA.1 b with b|b;exact s c l j (by simp[b]) n;rcases i j b with q|q;(grind);exact s c l j (by simp[q]) n;exact s c l j (by simp[b]) n;rw[GV r E.ne x2.ne F.ne,GV m L.ne N.ne O.ne,DB hX x2.ne,GV T u.ne N.ne v.ne];have sub:∀{l:cU},gV l->∀x∈kq h l,x∈l:=λw x C=>AL w C;have A:gV e:=r.sub (by simp);have B:gV k:=r.sub (by simp);have l:gV d:=m.sub (by simp);have n:gV f:=m.sub (by simp);refine Ud ?_ (λc a j b=>E.ne c (sub A c a) j<|sub t j b) (λc a j b=>F.ne c (sub t c a) j<|sub B j b) (λc a j b=>Q.ne c (sub l c a) j<|sub t j b) (λc a j b=>S.ne c (sub t c a) j<|sub n j b) (λc a j b=>L.ne c (sub l c a) j<|sub hW j b)<|λc a j b=>O.ne c (sub hW c a) j<|sub n j b;exact BD p o (by grind) hD
section
open Conc.Locks
def E2:MuLink where
 lock:=30
 unlock:=31
 ilock:=67
 iunlock:=68
 lockSlow:=112
 unlockSlow:=115
 disable:=108
 enable:=110
 acquire:=111
 relMerge:=113
 cas32:=109
 add32:=114
 tMutex:=71
 tIMutex:=69
 tPMutex:=162
 tPIMutex:=225
 tPI32:=227
 tUP:=150
 tNoCopy:=66
 tU32:=67
def n7:MuLib bA E2:=by
 constructor<;>first|kernel_rfl|(intro w;kernel_rfl)
def lock_free(a:Addr)(w:Y)(b:aW w a=H (nE 0))(c:w.frozen? a=bw):cY bA 30 #[dC<|H a] w λe d=>e=aN (dA #[])/\d=cH w a (nE 1):=MuLone.lock_free n7 a w b c
def unlock_deferred(a:Addr)(u:FrameMode)(w:Y)(b:aW w a=H (nE 1))(c:w.frozen? a=bw):CallsD bA 31 #[dC<|H a] u w λf d e=>d=u/\(f=aN (dA #[])/\e=cH w a (nE 0)):=MuLone.unlock_deferred n7 a u w b c
end
def EW{P:Program}{d:Array Oper}{Q:Exit->Act->Y->Prop}{h:Region.Mode}{S:Y->Prop}{i j m:M}{k l:Oper}{c:Array Bool}{n:Act}(q:d[i]?=H k)(r:d[j]?=H l)(o:k.guard=none)(p:l.guard=none)(s:Region.ready h d c=[i,j])(t:∀K:Act->Y->Prop,(∀f e,(i<m->S e)->nD P h d Q S m b (c.setIfInBounds i cf) f e->K f e)->Oper.wp P k n a K Q)(u:∀K:Act->Y->Prop,(∀f e,(j<m->S e)->nD P h d Q S m b (c.setIfInBounds j cf) f e->K f e)->Oper.wp P l n a K Q):nD P h d Q S m (b+1) c n a:=by
 refine⟨(by grind),λv g=>?_⟩;rw[s]at g;rcases bM.1 g with rfl|g;unfold wpOp;simp only[q];rw[di<|by simp[Region.wanted,o]];grind
 (obtain rfl:v=j:=by simpa using g);unfold wpOp;simp only[r];rw[di<|by simp[Region.wanted,p]];grind
section
open Extern.Stop Stop Extern
def KT(m n:U)(a:m≠n)(w:Y):(binOp .eql 41 (.iface 52<|aq m)<|.iface 52<|aq n).run bA w=.ok (aM bw) w:=by
 obtain⟨i,c,b⟩:=qh.1 Oc;have h:∀d:M,(Op.equalIn (d+2) 41 (.iface 52<|aq m)<|.iface 52<|aq n).run bA w=.ok bw w:=λd=>by simp[Op.equalIn,fI underlying41,fI underlying52,typeInfo,c,b,a]
 simp only[binOp];simp[Op.equal,Op.maxDepth,h 9998]
def M5(v:ab)(a:TypeId)(w:Y):(Instr.typeAssert (.iface 52 v) a 252 cf).run bA w=.ok (dA #[.nilIface,aM bw]) w:=run_typeAssert_lacksB underlying252 (by kernel_rfl) (by kernel_rfl) v a w
def M4(v:ab)(a:TypeId)(w:Y):(Instr.typeAssert (.iface 52 v) a 221 cf).run bA w=.ok (dA #[.nilIface,aM bw]) w:=run_typeAssert_lacksB underlying221 (by kernel_rfl) (by kernel_rfl) v a w
def M3(v:ab)(a:TypeId)(w:Y):(Instr.typeAssert (.iface 52 v) a 222 cf).run bA w=.ok (dA #[.nilIface,aM bw]) w:=run_typeAssert_lacksB underlying222 (by kernel_rfl) (by kernel_rfl) v a w
def Qs(a:M)(m n:U)(b:m≠n)(w:Y)(h:aW w (R a 1)=H (aq m)):cY bA 85 #[.iface 192<|aD a,.iface 52<|aq n,aM cf] w λe c=>e=aN (aM bw)/\c=w:=by
 have l:∀w,(binOp .eql 41 (.iface 192<|aD a)<|.iface 52<|aq n).run bA w=.ok (aM bw) w:=λw=>run_eql_iface_types _ _ _ _ underlying41 (by decide) w;have o:=KT m n b;have p:=zF;have f:=M6;have g:=JN;have i:=M5;have j:=M4;have k:=M3;have m1:=xw;have d:=Ao a m w h;go_in
 go_wp2;refine jd 2 ?_;rw[gZ];go_wp2_with fail
 apply d.mono;rintro e c⟨rfl,rfl⟩;go_wp2;rw[gZ];go_wp2;go_ret;simp_all
def BO(a:M)(m n:U)(b:m≠n)(w:Y)(h:aW w (R a 1)=H (aq m)):cY bA 42 #[.iface 192<|aD a,.iface 52<|aq n] w λg c=>g=aN (aM bw)/\c=w:=by
 have j:=zF;have d:=@eO bA 84 _ ReflectliteType.typeOf func84 (by kernel_rfl) (by kernel_rfl) (by kernel_rfl) (by kernel_rfl);have e:=@eO bA 328 _ (ReflectliteType.method (λt=>do Rtype.noPackHeld "Comparable" t;pure (aM (<-typeInfo t).comparable))) func328 (by kernel_rfl) (by kernel_rfl) (by kernel_rfl) (by kernel_rfl);have l:=wU;have k:=sU;have i:=yR;have f:=Qs a m n b w h;go_in
 go_wp2_with fail
 apply f.mono;rintro g c⟨rfl,rfl⟩;go_wp2;go_ret;simp_all
end
