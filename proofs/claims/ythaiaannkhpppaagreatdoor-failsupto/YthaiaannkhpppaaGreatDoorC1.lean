import Derived.BigQuiet
import Derived.Conc.MuLone
import Derived.Deep.QuietTactic
import Derived.Deep.RegionLawGrows
import Derived.LaidEql
import Derived.Lib.EndianBits
import Derived.OrdersHeld
import Derived.OrdersIn
import Derived.Outline
import Derived.OwnWalkIn
import Derived.RangeFuncCalls
import Derived.RowKitTokens
import Derived.Stop.Asserts
import Derived.Test.YthaiaannkhpppaaGreatDoorChecked
import Derived.WalkLawsBesides
import Derived.Test.YthaiaannkhpppaaGreatDoorC0
open _root_ renaming List.length→y,Option.some→H,Array.size→z,Go.World.heap→G,Go.Value.ownBlock→cK,Go.World.cell?→aW,Go.World.setCell→cq,Go.World.alloc→cN,Bool.false→aX,Bool.true→ci,Nat→M,Int→X,List→cJ,Go.Calls→cY,Go.Proofs.Tryz.prog→aZ,Go.Value.slice→I,Go.Value.string→am,Go.Value.bool→aN,Go.Value.pointer→cX,Go.Value.tuple→dq,Go.Value.agg→dC
namespace Go.Proofs.YthaiaannkhpppaaGreatDoor
open ChangeShapes WideShapes RowKit Proofs.Tryz List
set_option maxHeartbeats 16000000
set_option linter.all false
set_option maxRecDepth 100000
variable{a f A:Y}{b c g m D S:M}{d s:ab}{k N:X}{p:eV}{t:ae}{B:gW}{P:Bool}{T:Type}{V:Array ab}
structure E where
 key:ae
 val:ae
 del:Bool
 bO:X
abbrev cR:=cJ E
abbrev dS:=cJ<|cJ E
variable{w:E}
def J8:E:=⟨⟨#[]⟩,⟨#[]⟩,aX,0⟩
def ja(a b:ae):Bool:=Op.bytesLess a.toList b.toList
def MW:∀(x b:cJ UInt8),Op.bytesLess x b=decide (x<b)
 |[],[]=>by simp[Op.bytesLess]
 |_::_,[]=>by simp[Op.bytesLess]
 |[],_::_=>by simp[Op.bytesLess]
 |a::x,c::b=>by
  rw[Op.bytesLess,MW x b];grind[cons_lt_cons_iff]
theorem FF{b:ae}(h:t.toList=b.toList):t=b:=by
 have a:∀x:ae,x.toList=x.data.toList:=λx=>so x;rw[a,a]at h;cases t;simp_all
theorem fO(a:ae):ja a a=aX:=by
 unfold ja;rw[MW];simp
theorem lq{b c:ae}(h:ja t b=ci)(k:ja b c=ci):ja t c=ci:=by
 unfold ja at*;rw[MW]at*;grind
theorem lu{b:ae}(h:ja t b=ci):ja b t=aX:=by
 grind[lq,fO]
theorem ot{b:ae}(h:ja t b=aX)(k:ja b t=aX):t=b:=by
 unfold ja at*;rw[MW]at*;grind[FF,List.le_antisymm]
theorem oF{b:ae}(h:ja t b=ci):t≠b:=by
 grind[fO]
def ym{b c:ae}(h:ja b t=aX)(k:ja b c=ci):ja t c=ci:=by
 grind[lq,ot]
theorem OK{b c:ae}(h:ja t b=ci)(k:ja c b=aX):ja t c=ci:=by
 grind[lq,ot]
def SD{b c:ae}(h:ja b t=aX)(k:ja c b=aX):ja c t=aX:=by
 grind[OK]
def Jp(a:ae):ja a ⟨#[]⟩=aX:=by
 unfold ja;rw[MW];simp_all
def xx(l:cJ E):Prop:=l.Pairwise<|λa b=>ja a.key b.key=ci
def xx.nil:xx []:=List.Pairwise.nil
def xx.tail{l:cJ E}(h:xx (w::l)):xx l:=(bB.1 h).2
def xx.head{l:cJ E}(h:xx (w::l)):∀b∈l,ja w.key b.key=ci:=(bB.1 h).1
def xx.sub{l m:cJ E}(h:xx m)(s:l.Sublist m):xx l:=kZ s h
def xx.QO{l:cJ E}(h:xx l){e:E}(c:w∈l)(d:e∈l)(f:w.key=e.key):w=e:=by
 induction l with
 |nil=>cases c
 |cons x r g=>
  rcases bJ.1 c with b|b
  .rcases bJ.1 d with a|a
   .rw[b,a]
   .rw[b]at f;exact absurd f<|oF<|h.head e a
  .rcases bJ.1 d with a|a
   .rw[a]at f;exact absurd f.symm<|oF<|h.head w b
   .exact g h.tail b a
def xx.ext{l m:cJ E}(h:xx l)(k:xx m)(g:∀x,x∈l↔x∈m):l=m:=by
 induction l generalizing m with
 |nil=>
  cases m with
  |nil=>rfl
  |cons a r=>exact absurd ((g a).2<|by simp)<|by simp
 |cons x r i=>
  cases m with
  |nil=>exact absurd ((g x).1<|by simp)<|by simp
  |cons a s=>
   have f:x=a:=by
    rcases bJ.1 ((g x).1<|by simp)with c|c
    .exact c
    .rcases bJ.1 ((g a).2<|by simp)with e|e
     .exact e.symm
     .have n:=k.head x c;have j:=h.head a e;rw[lu n]at j;cases j
   subst f;congr 1;refine i h.tail k.tail<|λb=>⟨λd=>?_,λd=>?_⟩
   .rcases bJ.1 ((g b).1<|du _ d)with rfl|c
    .have:=h.head b d;rw[fO]at this;cases this
    .exact c
   .rcases bJ.1 ((g b).2<|du _ d)with rfl|c
    .have:=k.head b d;rw[fO]at this;cases this
    .exact c
def tK(l:cJ E)(e:E):cJ E:=l.filter (λx=>ja x.key e.key)++e::l.filter (λx=>ja e.key x.key)
theorem yN{l:cJ E}{x:E}:x∈tK l w↔x=w\/(x∈l/\x.key≠w.key):=by
 unfold tK;simp only[aG,dL,bJ];constructor;rintro(⟨h,k⟩|h|⟨h,k⟩);exact .inr ⟨h,oF k⟩;exact .inl h;exact .inr ⟨h,λc=>oF k c.symm⟩;grind[ot]
def xx.tK{l:cJ E}(h:xx l)(e:E):xx (tK l e):=by
 unfold Go.Proofs.YthaiaannkhpppaaGreatDoor.tK;refine bQ.2 ⟨h.sub eW,bB.2 ⟨?_,h.sub eW⟩,?_⟩;grind
 grind[lq]
def ia(l m:cJ E):cJ E:=m.foldl tK l
def xx.ia{l:cJ E}(h:xx l)(m:cJ E):xx (ia l m):=by
 induction m generalizing l with
 |nil=>exact h
 |cons e r a=>exact a<|h.tK e
variable{e K:cR}{l:dS}
def ahead(a b:E):Bool:=ja a.key b.key||(decide (a.key=b.key)&&decide (b.bO<a.bO))
theorem jt{b:E}:ahead w b=ci↔ja w.key b.key=ci\/(w.key=b.key/\b.bO<w.bO):=by
 unfold ahead;simp
theorem uJ{b c:E}(h:ahead w b=ci)(k:ahead b c=ci):ahead w c=ci:=by
 rw[jt]at*;rcases h with h|⟨h,a⟩<;>rcases k with k|⟨k,d⟩;exact .inl<|lq h k;rw[<-k];exact .inl h;rw[h];exact .inl k;grind
theorem Bk(a:E):ahead a a=aX:=by unfold ahead;simp[fO]
theorem lD{b:E}(h:ahead w b=ci):ahead b w=aX:=by
 grind[uJ,Bk]
theorem mX{b:E}(h:ahead b w=aX):ja b.key w.key=aX/\(b.key=w.key->b.bO<=w.bO):=by
 unfold ahead at h;grind
def Sh{b:E}(h:ja b.key w.key=aX)(k:b.key=w.key->b.bO<=w.bO):ahead b w=aX:=by
 unfold ahead;grind
theorem wq{d g:E}(i:ahead d w=aX)(k:ahead g d=aX):ahead g w=aX:=by
 obtain⟨b,e⟩:=mX i;obtain⟨a,f⟩:=mX k;refine Sh (SD b a)<|λh=>?_;have c:d.key=w.key:=by rw[h]at a;exact ot b a
 have:=e c;have:=f<|h.trans c.symm;omega
def lM(a:dS)(i:M):Option E:=(a[i]?.getD []).head?
def kN(a:dS):M->Option M
 |0=>none
 |n+1=>match lM a n with
  |none=>kN a n
  |some e=>match kN a n with
   |none=>H n
   |some b=>if ahead e ((lM a b).getD J8)then H n else H b
theorem Dh(h:kN l b=none):∀i,i<b->lM l i=none:=by
 induction b with
 |zero=>grind
 |succ b c=>
  intro i a;unfold kN at h;grind
def uH(h:kN l b=H c):c<b/\∃e,lM l c=H e/\∀i,i<b->∀f,lM l i=H f->ahead f e=aX:=by
 induction b generalizing c with
 |zero=>cases h
 |succ b a=>
  unfold kN at h;grind[Bk,Dh,wq,lD]
def total(a:dS):M:=y a.flatten
def ye(h:lM l b=H w):l.flatten.Perm (w::(l.modify b List.tail).flatten):=by
 induction l generalizing b with
 |nil=>simp[lM]at h
 |cons r d c=>
  cases b with
  |zero=>
   cases r with
   |nil=>simp[lM]at h
   |cons x t=>
    simp only[lM,List.getElem?_cons_zero,oh,List.head?_cons,um]at h;simp_all
  |succ b=>
   have a:lM d b=H w:=by simpa[lM]using h
   simp only[bK,wX];refine((c a).append_left r).trans ?_;simp_all
def vY(h:lM l b=H w):total l=total (l.modify b List.tail)+1:=by
 have:=(ye h).length_eq;unfold total;rw[this];simp
def Jh:M->dS->cR
 |0,_=>[]
 |n+1,a=>match kN a (y a)with
  |none=>[]
  |some b=>(lM a b).getD J8::Jh n (a.modify b List.tail)
def cQ(a:dS):cR:=Jh (total a) a
def yg{hs:dS}(h:kN hs (y hs)=none):cQ hs=[]:=by
 unfold cQ;cases e:total hs with
 |zero=>rfl
 |succ n=>unfold Jh;rw[h]
def SZ(h:∀i,i<y l->lM l i=none):l.flatten=[]:=by
 induction l with
 |nil=>rfl
 |cons r c b=>
  have a:=h 0 (by simp);cases r with
  |cons x t=>simp[lM]at a
  |nil=>
   simp only[bK,cV];exact b (λi a=>by have:=h (i+1) (by simp;omega);simpa[lM]using this)
def yf{hs:dS}(h:kN hs (y hs)=H b)(a:lM hs b=H w):cQ hs=w::cQ (hs.modify b List.tail):=by
 unfold cQ;rw[vY a];conv=>lhs;unfold Jh
 rw[h];grind
theorem eN(a:dS):(cQ a).Perm a.flatten:=by
 generalize d:total a=n;induction n generalizing a with
 |zero=>
  have:a.flatten=[]:=aL d;unfold cQ;rw[d,this];exact List.Perm.nil
 |succ n e=>
  cases hb:kN a (y a)with
  |none=>
   have:=SZ<|Dh hb;rw[yg hb,this]
  |some b=>
   obtain⟨_,f,c,_⟩:=uH hb;rw[yf hb c];have g:=vY c;exact((e _<|by omega).cons f).trans (ye c).symm
def nR(a:ae):cR->cR
 |[]=>[]
 |e::r=>if e.key=a then nR e.key r else e::nR e.key r
def E7(b:cR)(x:E):Prop:=x∈b/\∀a∈b,a.key=x.key->a.bO<=x.bO
def C9(a:cR):Prop:=∀b∈a,∀c∈a,b.key=c.key->b.bO=c.bO->b=c
def Mz(a:ae)(t:e.Pairwise (λg d=>ahead d g=aX))(n:C9 e)(r:∀x∈e,ja x.key a=aX):xx (nR a e)/\∀x,x∈nR a e↔x.key≠a/\E7 e x:=by
 induction e generalizing a with
 |nil=>exact⟨xx.nil,λx=>by simp[nR,E7]⟩
 |cons m A u=>
  obtain⟨h,q⟩:=bB.1 t;obtain⟨o,k⟩:=u m.key q (λg a d b=>n g (by simp[a]) d<|by simp[b])<|λx j=>(mX<|h x j).1;unfold nR;split
  .rename_i i;refine⟨o,λx=>(k x).trans ?_⟩;rw[i];constructor
   .rintro⟨g,d,l⟩;refine⟨g,du _ d,λb c f=>?_⟩;grind
   .rintro⟨g,d,l⟩;refine⟨g,?_,λb c f=>l b (du _ c) f⟩;grind
  .rename_i i;have s:ja m.key a=aX:=r m (by simp);refine⟨bB.2 ⟨λx j=>?_,o⟩,λx=>?_⟩
   .obtain⟨g,d,_⟩:=(k x).1 j;grind[ot,mX]
   .rw[bJ,k];constructor
    .rintro(rfl|⟨g,d,l⟩)
     .refine⟨i,by simp,λb c f=>?_⟩;rcases bJ.1 c with rfl|c
      .grind
      .exact(mX<|h b c).2 f
     .refine⟨?_,du _ d,λb c f=>?_⟩
      .grind[mX,ot]
      grind
    .rintro⟨g,d,l⟩;rcases bJ.1 d with rfl|d
     .exact .inl rfl
     .by_cases p:x.key=m.key
      .left;have v:=l m (by simp) p.symm;have w:=(mX<|h x d).2 p;exact n x (by simp[d]) m (by simp) p<|by omega
      .exact .inr ⟨p,d,λb c f=>l b (du _ c) f⟩
def fZ(a:ae)(l:cR):cR:=l.filter<|λe=>!ja e.key a
def Vk:w∈(l.map<|fZ t).flatten↔w∈l.flatten/\ja w.key t=aX:=by
 simp only[bC,bR];constructor;rintro⟨c,⟨r,b,rfl⟩,a⟩;unfold fZ at a;rw[dL]at a;grind
 rintro⟨⟨r,b,a⟩,h⟩;exact⟨_,⟨r,b,rfl⟩,by unfold fZ;rw[dL];grind⟩
def nB(l:cR)(k:ae):Option E:=l.find?<|λe=>decide<|e.key=k
theorem nT(h:xx e):nB e t=H w↔w∈e/\w.key=t:=by
 unfold nB;constructor;grind
 .rintro⟨a,b⟩;cases hf:e.find? (λw=>decide<|w.key=t)with
  |none=>
   rw[my]at hf;grind
  |some x=>
   have c:=li hf;have d:x.key=t:=by have:=wP hf;grind
   rw[h.QO c a<|d.trans b.symm]
theorem oW:nB e t=none↔∀a∈e,a.key≠t:=by
 unfold nB;rw[my];simp
def Tg(h:xx e)(a:xx K)(c:∀x,x.key=t->(x∈e↔x∈K)):nB e t=nB K t:=by
 cases hm:nB K t with
 |none=>
  rw[oW]at hm|-;grind
 |some b=>
  rw[nT a]at hm;grind[nT]
def MA(h:xx e)(a:E)(k:ae):nB (tK e a) k=if k=a.key then H a else nB e k:=by
 split;rename_i b;exact(nT<|h.tK a).2 ⟨yN.2<|.inl rfl,b.symm⟩;rename_i b;refine Tg (h.tK a) h<|λx c=>?_;rw[yN];grind
def sa(a:dS)(k:ae):Option E:=a.findSome?<|λr=>nB r k
def yU(k:ae):sa [] k=none:=rfl
def qj(r:cR)(a:dS)(k:ae):sa (r::a) k=(nB r k).or (sa a k):=by
 unfold sa;rw[List.findSome?_cons];cases nB r k<;>rfl
def wD(a b:dS)(k:ae):sa (a++b) k=(sa a k).or (sa b k):=by
 induction a with
 |nil=>simp[yU]
 |cons r a c=>rw[df,qj,qj,c,Option.or_assoc]
def Tf(k:ae):nB [] k=none:=rfl
def Over(r s:cR):Prop:=∀a∈r,∀b∈s,a.key=b.key->b.bO<a.bO
def jU(a:dS):Prop:=a.Pairwise Over
def jU.over(h:jU (e::l)):Over e l.flatten:=by
 intro f b g a c;obtain⟨s,d,a⟩:=bC.1 a;exact(bB.1 h).1 s d f b g a c
def Qm(m:∀r∈l,xx r)(k:jU l):sa l t=H w↔E7 l.flatten w/\w.key=t:=by
 induction l with
 |nil=>simp[yU,E7]
 |cons r l n=>
  have j:=n (λr a=>m r<|by simp[a]) (bB.1 k).2;have h:=k.over;have f:=m r (by simp);rw[qj];cases hf:nB r t with
  |some x=>
   have a:=(nT f).1 hf;simp only[Option.some_or,um,bK];constructor
   .rintro rfl;refine⟨⟨jb _ a.1,λb d g=>?_⟩,a.2⟩;rcases aG.1 d with d|d
    .rw[f.QO d a.1 g];grind
    .exact Int.le_of_lt<|h x a.1 b d g.symm
   .rintro⟨⟨c,i⟩,e⟩;rcases aG.1 c with c|c
    .exact f.QO a.1 c<|a.2.trans e.symm
    .have o:=i x (jb _ a.1)<|a.2.trans e.symm;have p:=h x a.1 w c<|a.2.trans e.symm;omega
  |none=>
   have a:=oW.1 hf;simp only[jk,bK];rw[j];constructor
   .rintro⟨⟨c,i⟩,e⟩;refine⟨⟨kY _ c,λb d g=>?_⟩,e⟩;grind
   .rintro⟨⟨c,i⟩,e⟩;refine⟨⟨?_,λb d g=>i b (kY _ d) g⟩,e⟩;grind
def seen(a:dS)(k:ae):Option ae:=(sa a k).bind<|λe=>if e.del then none else H e.val
def Sc{a h D:dS}(A:jU (l++a++D))(w:jU h)(f:∀B∈h.flatten,B∈a.flatten):jU (l++h++D):=by
 obtain⟨r,s,t⟩:=bQ.1 A;obtain⟨u,_,v⟩:=bQ.1 r;have d:∀g∈h,∀i∈g,∃o∈a,i∈o:=λg e i c=>bC.1<|f i<|bC.2 ⟨g,e,c⟩;refine bQ.2 ⟨bQ.2 ⟨u,w,?_⟩,s,?_⟩;intro q b g n p j i c m;obtain⟨o,e,k⟩:=d g n i c;exact v q b o e p j i k m;intro q b x n;rcases aG.1 b with b|b;(grind);intro p j i c m;obtain⟨o,e,k⟩:=d q b p j;exact t o (kY _ e) x n p k i c m
def Bo(a b D:dS):Prop:=∀k,sa b k=sa a k\/(sa D k=none/\sa b k=none/\∃e,sa a k=H e/\e.del=ci)
theorem Uy{a b D:dS}(h:Bo a b D)(k:ae):seen (l++b++D) k=seen (l++a++D) k:=by
 unfold seen;rw[wD,wD,wD,wD];rcases h k with h|⟨c,d,g,e,f⟩;rw[h]
 .rw[c,d,e];cases sa l k with
  |some x=>simp
  |none=>simp[f]
def dV(l:cR):Prop:=l.Pairwise<|λa b=>ahead a b=ci
def dV.nil:dV []:=List.Pairwise.nil
def dV.sub(h:dV K)(s:e.Sublist K):dV e:=kZ s h
def dV.Nx(h:dV e):e.Pairwise (λa b=>ahead b a=aX):=h.imp<|λh=>lD h
def dV.QO(m:dV e):C9 e:=by
 induction e with
 |nil=>intro j a;cases a
 |cons k r i=>
  obtain⟨n,d⟩:=bB.1 m;have o:∀x∈r,x.key=k.key->x.bO=k.bO->False:=by
   grind[jt,fO]
  intro j a l f g h;rcases bJ.1 a with rfl|b<;>rcases bJ.1 f with rfl|c
  .rfl
  .grind
  .grind
  .exact i d j b l c g h
structure gJ(l:cR):Prop where
 mj:dV l
 key:∀e∈l,e.key≠⟨#[]⟩
def gJ.nil:gJ []:=⟨dV.nil,λ_ h=>by cases h⟩
def gJ.sub(h:gJ K)(s:e.Sublist K):gJ e:=⟨h.mj.sub s,λb a=>h.key b<|s.subset a⟩
def jT(b:X)(r:cR):cR:=nR ⟨#[]⟩<|r.filter<|λe=>decide<|e.bO<=b
def Qy(h:gJ e)(c:X):xx (jT c e)/\∀x,x∈jT c e↔x∈e/\x.bO<=c/\∀a∈e,a.key=x.key->a.bO<=c->a.bO<=x.bO:=by
 have d:dV (e.filter<|λa=>decide<|a.bO<=c):=h.mj.sub eW;obtain⟨s,m⟩:=Mz ⟨#[]⟩ d.Nx d.QO<|λx _=>Jp x.key;refine⟨s,λx=>?_⟩;unfold jT;rw[m];constructor;rintro⟨_,b,f⟩;grind
 rintro⟨b,g,f⟩;exact⟨h.key x b,dL.2 ⟨b,xB g⟩,λa c d=>f a (dL.1 c).1 d<|pL (dL.1 c).2⟩
theorem mM(h:gJ e)(b:X):xx (jT b e):=(Qy h b).1
theorem jo(h:gJ e):w∈jT k e↔w∈e/\w.bO<=k/\∀a∈e,a.key=w.key->a.bO<=k->a.bO<=w.bO:=(Qy h k).2 w
theorem Aa(h:gJ e)(a:w∈jT k e):w∈e:=((jo h).1 a).1
def iC(b:X)(r:cR)(k:ae):Option E:=r.find?<|λe=>decide (e.key=k)&&decide (e.bO<=b)
theorem CX(i:gJ e)(g:iC k e t=H w):w∈jT k e/\w.key=t:=by
 obtain⟨b,j,l,a,h⟩:=List.find?_eq_some_iff_append.1 g;simp only[lV,pM]at b;refine⟨(jo i).2 ⟨by rw[a];simp,b.2,λc f o n=>?_⟩,b.1⟩;rw[a]at f;rcases aG.1 f with q|q;have:=h c q;grind
 rcases bJ.1 q with rfl|q;(grind);have d:=i.mj;rw[a]at d;have m:=(bQ.1 d).2.1;grind[jt,pairwise_cons,fO]
def CY(c:iC k e t=none):∀a∈e,a.key=t->¬a.bO<=k:=by
 intro a b f d;have:=my.1 c a b;grind
theorem Ti(h:gJ e)(b:X)(k:ae):iC b e k=nB (jT b e) k:=by
 cases hf:iC b e k with
 |some g=>grind[nT,mM,CX]
 |none=>
  refine(oW.2 λg d f=>?_).symm;obtain⟨a,c,_⟩:=(jo h).1 d;exact CY hf g a f c
theorem WM(h:gJ e)(f:w∈e)(d:w.bO<=k):∃a∈jT k e,a.key=w.key/\w.bO<=a.bO:=by
 cases hf:iC k e w.key with
 |some a=>
  obtain⟨b,c⟩:=CX h hf;exact⟨a,b,c,((jo h).1 b).2.2 w f c.symm d⟩
 |none=>exact absurd d<|CY hf w f rfl
def Over.at(k:Over e K)(c:gJ e)(d:gJ K)(b:X):Over (jT b e) (jT b K):=λx g a h j=>k x (Aa c g) a (Aa d h) j
def Lv(h:jU l)(b:∀r∈l,gJ r)(f:X):jU (l.map<|jT f):=by
 unfold jU;rw[ki];induction l with
 |nil=>simp_all
 |cons r l e=>
  obtain⟨c,d⟩:=bB.1 h;exact bB.2 ⟨λs a=>(c s a).at (b r<|by simp) (b s<|by simp[a]) f,e d<|λs a=>b s<|by simp[a]⟩
def pD(a:cJ X)(p:Option E)(e:E):Bool:=match p with
 |none=>ci
 |some p=>!decide (p.key=e.key)||a.any (λm=>decide (e.bO<=m)&&decide (m<p.bO))
def lL(a:cJ X):Option E->cR->cR
 |_,[]=>[]
 |p,e::r=>if pD a p e then e::lL a (H e) r else lL a (H e) r
def dI(a:cJ X)(l:cR):cR:=lL a none l
def Se(a:cJ X)(l:cR):∀p,(lL a p l).Sublist l:=by
 induction l with
 |nil=>intro p;exact pT _
 |cons e r b=>
  intro p;unfold lL;grind
theorem jn(a:cJ X)(l:cR):(dI a l).Sublist l:=Se a l none
def gJ.Lz(h:gJ e)(a:cJ X):gJ (dI a e):=h.sub<|jn a e
def Sg{c:cJ X}(l:cR):∀p:Option E,dV (p.toList++l)->w∈l->((∀a∈p.toList++l,a.key=w.key->a.bO<=w.bO)\/∃m∈c,w.bO<=m/\∀a∈p.toList++l,a.key=w.key->a.bO<=m->a.bO<=w.bO)->w∈lL c p l:=by
 induction l with
 |nil=>grind
 |cons x s r=>
  intro p f d b;have h:dV (x::s):=(bQ.1 f).2.1;unfold lL;rcases bJ.1 d with rfl|d
  .have g:pD c p w=ci:=by
    cases p with
    |none=>rfl
    |some q=>
     unfold pD;by_cases e:q.key=w.key
     .have k:ahead q w=ci:=(bQ.1 f).2.2 q (by simp) w (by simp);have n:w.bO<q.bO:=by
       grind[jt,fO]
      rcases b with b|⟨m,o,i,j⟩
      .have:=b q (by simp) e;omega
      grind
     .simp[e]
   rw[dH g];simp
  grind
theorem Bj(h:gJ e){a:cJ X}(j:k∈a\/∀x∈e,x.bO<=k):jT k (dI a e)=jT k e:=by
 have g:∀x∈jT k e,x∈dI a e:=by intro x b;obtain⟨c,d,f⟩:=(jo h).1 b;refine Sg e none h.mj c ?_;grind
 refine(mM (h.Lz a) k).ext (mM h k) λx=>?_;constructor;intro b;obtain⟨c,d,f⟩:=(jo<|h.Lz a).1 b;have i:=(jn a e).subset c;grind[jo,WM]
 intro b;obtain⟨c,d,f⟩:=(jo h).1 b;exact(jo<|h.Lz a).2 ⟨g x b,d,λc i=>f c<|(jn a e).subset i⟩
def KB(h:∀r∈l,dV r):∀r∈l.modify b List.tail,dV r:=by
 intro r a;induction l generalizing b with
 |nil=>simp at a
 |cons x d c=>
  cases b with
  |zero=>
   simp only[wW,bJ]at a;rcases a with rfl|a
   .exact(h x<|by simp).sub<|List.tail_sublist x
   grind
  |succ b=>
   grind
def Vi(m:∀r∈l,dV r)(j:∀i,i<y l->∀f,lM l i=H f->ahead f w=aX):∀x∈l.flatten,ahead x w=aX:=by
 intro x k;obtain⟨r,g,a⟩:=bC.1 k;obtain⟨i,e,rfl⟩:=dY g;have b:=m _ g;cases hc:l[i]with
 |nil=>rw[hc]at a;cases a
 |cons f t=>
  have h:lM l i=H f:=by simp[lM,e,hc]
  have d:=j i e f h;rw[hc]at a b;rcases bJ.1 a with rfl|c
  .exact d
  .exact wq d<|lD<|(bB.1 b).1 x c
def CP(a:dS)(i:∀r∈a,dV r):(cQ a).Pairwise (λj c=>ahead c j=aX):=by
 generalize f:total a=n;induction n generalizing a with
 |zero=>unfold cQ;rw[f];exact List.Pairwise.nil
 |succ n h=>
  cases hb:kN a (y a)with
  |none=>rw[yg hb];simp_all
  |some c=>
   obtain⟨_,l,b,e⟩:=uH hb;rw[yf hb b];have k:=vY b;refine bB.2 ⟨λx g=>?_,h _ (KB i)<|by omega⟩;have d:x∈(a.modify c List.tail).flatten:=(eN _).mem_iff.1 g;exact Vi i e x<|(ye b).mem_iff.2<|du _ d
def Kc(l:cR):Prop:=l.Pairwise<|λa b=>¬(a.key=b.key/\a.bO=b.bO)
def dV.Zx(h:dV e):Kc e:=h.imp λ{a b}q=>by
 grind[jt,fO]
def AJ(b:∀r∈l,dV r)(a:jU l):Kc l.flatten:=by
 induction l with
 |nil=>exact List.Pairwise.nil
 |cons r l f=>
  rw[bK];refine bQ.2 ⟨(b r<|by simp).Zx,f (λs e=>b s<|by simp[e]) (bB.1 a).2,λg c h d q=>?_⟩;have:=a.over g c h d q.1;omega
theorem zc{b:E}(h:ahead b w=aX)(k:¬(w.key=b.key/\w.bO=b.bO)):ahead w b=ci:=by
 obtain⟨d,a⟩:=mX h;refine jt.2 ?_;by_cases c:w.key=b.key;have:=a c.symm;grind
 grind[ot]
def oU(a:∀r∈l,dV r)(e:jU l):dV (cQ l):=by
 have c:=CP l a;have d:Kc (cQ l):=((eN l).pairwise_iff<|λ{f b}q c=>q ⟨c.1.symm,c.2.symm⟩).2<|AJ a e;exact List.Pairwise.imp₂ (λf b q k=>zc q k) c d
def nP(a:∀r∈l,gJ r)(e:jU l):gJ (cQ l):=by
 refine⟨oU (λr h=>(a r h).mj) e,λf d=>?_⟩;obtain⟨r,b,c⟩:=bC.1<|(eN l).mem_iff.1 d;exact(a r b).key f c
theorem yi(d:∀r∈l,gJ r)(j:jU l):w∈jT k (cQ l)↔sa (l.map<|jT k) w.key=H w:=by
 have i:=nP d j;have b:∀a,a∈cQ l↔∃r∈l,a∈r:=λa=>((eN l).mem_iff).trans bC;rw[Qm (λr h=>by grind[mM])<|Lv j d k];constructor;intro n;obtain⟨e,h,m⟩:=(jo i).1 n;obtain⟨r,c,f⟩:=(b w).1 e;refine⟨⟨bC.2 ⟨_,bR.2 ⟨r,c,rfl⟩,(jo<|d r c).2 ⟨f,h,λa g=>m a<|(b a).2 ⟨r,c,g⟩⟩⟩,λa g o=>?_⟩,rfl⟩;grind[mem_flatten,jo]
 rintro⟨⟨e,h⟩,_⟩;obtain⟨s,p,c⟩:=bC.1 e;obtain⟨t,f,rfl⟩:=bR.1 p;obtain⟨m,n,_⟩:=(jo<|d t f).1 c;refine(jo i).2 ⟨(b w).2 ⟨t,f,m⟩,n,λa g o q=>?_⟩;grind[WM,mem_flatten]
def gA:cR->cR
 |[]=>[]
 |e::r=>if e.del&&!((gA r).any λa=>decide<|a.key=e.key)then gA r else e::gA r
theorem kq(l:cR):(gA l).Sublist l:=by
 induction l with
 |nil=>exact pT _
 |cons e r a=>
  unfold gA;grind
def Hn(i:dV e):w∈gA e↔w∈e/\(w.del=aX\/∃a∈e,a.key=w.key/\a.bO<w.bO/\a.del=aX):=by
 induction e generalizing w with
 |nil=>simp[gA]
 |cons c r f=>
  obtain⟨j,d⟩:=bB.1 i;have h:∀a∈r,a.key=c.key->a.bO<c.bO:=λa d b=>by
   grind[jt,fO]
  have k:∀{w:E},w∈r->(w.del=aX\/∃a∈c::r,a.key=w.key/\a.bO<w.bO/\a.del=aX)->w∈gA r:=by
   intro w b g;refine(f d).2 ⟨b,g.imp_right ?_⟩;grind
  have l:∀{w:E},w∈gA r->w∈c::r/\(w.del=aX\/∃a∈c::r,a.key=w.key/\a.bO<w.bO/\a.del=aX):=by
   intro w b;obtain⟨g,m⟩:=(f d).1 b;grind
  unfold gA;grind
theorem gJ.bare(h:gJ e):gJ (gA e):=h.sub<|kq e
def OL(h:gJ e)(s:∀p,sa l p=none)(o:X):Bo [jT o e] [jT o<|gA e] l:=by
 intro p;simp only[qj,yU,th];cases hf:nB (jT o e) p with
 |none=>
  grind[oW,jo,gJ.bare,WM,kq]
 |some b=>
  obtain⟨t,m⟩:=(nT<|mM h o).1 hf;obtain⟨j,A,r⟩:=(jo h).1 t;by_cases k:b∈gA e
  .grind[nT,mM,gJ.bare,jo,kq]
  .right;have n:¬(b.del=aX\/∃a∈e,a.key=b.key/\a.bO<b.bO/\a.del=aX):=λc=>k<|(Hn h.mj).2 ⟨j,c⟩;refine⟨s p,oW.2 λx v a=>?_,b,rfl,by grind⟩;obtain⟨g,q,_⟩:=(jo h.bare).1 v;obtain⟨i,w⟩:=(Hn h.mj).1 g;have d:=r x i (a.trans m.symm) q;have f:x≠b:=λc=>k<|c▸g;have u:x.bO<b.bO:=by
    rcases Int.lt_or_eq_of_le d with c|c
    .exact c
    .exact absurd (h.mj.QO x i b j (a.trans m.symm) c) f
   grind
def lA(l:cR)(e:E):cR:=l.filter (λx=>ahead x e)++e::l.filter (λx=>ahead e x)
theorem lY{x:E}:x∈lA e w↔x=w\/(x∈e/\¬(x.key=w.key/\x.bO=w.bO)):=by
 unfold lA;simp only[aG,bJ,dL];grind[jt,fO,zc]
def dV.lA(h:dV e)(c:E):dV (lA e c):=by
 unfold Go.Proofs.YthaiaannkhpppaaGreatDoor.lA;refine bQ.2 ⟨h.sub eW,bB.2 ⟨λx b=>(dL.1 b).2,h.sub eW⟩,λg a i f=>?_⟩;have d:=(dL.1 a).2;grind[uJ]
def gJ.lA(h:gJ e)(a:w.key≠⟨#[]⟩):gJ (lA e w):=by
 refine⟨h.mj.lA w,λx b=>?_⟩;rcases lY.1 b with rfl|⟨c,_⟩;exact a;exact h.key x c
def Na(h:gJ e)(a:w.key≠⟨#[]⟩)(b:k<w.bO):jT k (lA e w)=jT k e:=by
 refine(mM (h.lA a) k).ext (mM h k) λx=>?_;rw[jo<|h.lA a,jo h];grind[lY]
def Nb(j:gJ e)(i:w.key≠⟨#[]⟩){b:X}(h:w.bO<=b)(k:∀x∈e,x.key=w.key->x.bO<=w.bO):jT b (lA e w)=tK (jT b e) w:=by
 refine(mM (j.lA i) b).ext ((mM j b).tK w) λx=>?_;rw[jo<|j.lA i,yN,jo j];constructor;rintro⟨g,l,m⟩;rcases lY.1 g with rfl|⟨g,q⟩;exact .inl rfl;by_cases a:x.key=w.key;(have c:=m w (lY.2<|.inl rfl) a.symm h;have d:=k x g a;grind);grind[lY]
 rintro(rfl|⟨⟨g,l,m⟩,a⟩);(refine⟨lY.2<|.inl rfl,h,λf c d _=>?_⟩;rcases lY.1 c with rfl|⟨g,_⟩;(grind);grind);refine⟨lY.2<|.inr ⟨g,λo=>a o.1⟩,l,λf c d p=>?_⟩;rcases lY.1 c with rfl|⟨n,_⟩;(grind);grind
def fM(l m:cR):cR:=m.foldl lA l
def gJ.fM(h:gJ e)(a:∀b∈K,b.key≠⟨#[]⟩):gJ (fM e K):=by
 induction K generalizing e with
 |nil=>exact h
 |cons b r d=>exact d (h.lA<|a b<|by simp)<|λx c=>a x<|by simp[c]
theorem yh(a:w∈fM e K):w∈e\/w∈K:=by
 induction K generalizing e with
 |nil=>exact .inl a
 |cons c r b=>
  rcases b a with q|q
  .grind[lY]
  grind
def PB(i:gJ e)(f:∀b∈K,b.key≠⟨#[]⟩)(c:∀b∈K,b.bO=k)(g:N<k):jT N (fM e K)=jT N e:=by
 induction K generalizing e with
 |nil=>rfl
 |cons b r h=>
  have d:=f b (by simp);exact(h (i.lA d) (λx a=>f x<|by simp[a])<|λx a=>c x<|by simp[a]).trans<|Na i d (by rw[c b<|by simp];exact g)
def PC(l:gJ e)(f:∀b∈K,b.key≠⟨#[]⟩)(c:∀b∈K,b.bO=k)(m:k<=N)(i:∀x∈e,x.bO<=k):jT N (fM e K)=ia (jT N e) K:=by
 induction K generalizing e with
 |nil=>rfl
 |cons b r j=>
  have d:=f b (by simp);have n:=c b (by simp);have g:=j (l.lA d) (λx a=>f x<|by simp[a]) (λx a=>c x<|by simp[a]) (λx a=>by
   grind[lY])
  have h:=Nb l d (b:=N) (by omega) (λx a _=>by have:=i x a;omega);exact g.trans (by rw[h];rfl)
theorem QA(h:gJ e)(a:∀x∈e,x.bO<=k)(b:k<=N):jT N e=jT k e:=by
 refine(mM h N).ext (mM h k) λx=>?_;rw[jo h,jo h];grind
def tR(e:E):dS->dS
 |(x::g)::a=>if x.key=e.key then(e::x::g)::a else [e]::(x::g)::a
 |a=>[e]::a
def im:cR->dS
 |[]=>[]
 |e::r=>tR e<|im r
def AT(l:cR):∀g∈im l,g≠[]:=by
 induction l with
 |nil=>intro g a;cases a
 |cons e r b=>
  intro g a;unfold im tR at a;grind
def ou(l:cR):(im l).flatten=l:=by
 induction l with
 |nil=>rfl
 |cons e r a=>
  unfold im tR;grind
theorem yS(l:cR):∀g∈im l,∀x∈g,∀a∈g,x.key=a.key:=by
 induction l with
 |nil=>intro g b;cases b
 |cons e r d=>
  intro g b;have c:∀x∈[e],∀a∈[e],x.key=a.key:=by simp
  unfold im tR at b;grind
def Ht(e:E)(r:cR):∃g a,im (e::r)=(e::g)::a:=by
 unfold im tR;split;split;(grind);grind
 grind
def Jr(e:E)(a b:dS)(h:a≠[]):tR e (a++b)=tR e a++b:=by
 cases a with
 |nil=>grind
 |cons g a=>
  cases g with
  |nil=>rfl
  |cons x g=>
   simp only[df,tR];split<;>rfl
def Me(p s:cR)(h:∀c∈p.getLast?,∀b∈s.head?,c.key≠b.key):im (p++s)=im p++im s:=by
 induction p with
 |nil=>rfl
 |cons e r g=>
  cases r with
  |nil=>
   cases s with
   |nil=>rfl
   |cons b s=>
    have f:e.key≠b.key:=h e (by simp) b (by simp);obtain⟨i,d,a⟩:=Ht b s;show tR e (im<|b::s)=[[e]]++im (b::s);rw[a];simp only[tR];rw[dF<|λc=>f c.symm];rfl
  |cons x r=>
   have:=g<|λc a b d=>h c (by simpa using a) b d;show tR e (im<|(x::r)++s)=tR e (im<|x::r)++im s;rw[this,Jr];obtain⟨i,d,a⟩:=Ht x r;rw[a];simp
def Vy(h:e≠[])(b:∀x∈e,∀a∈e,x.key=a.key):im e=[e]:=by
 induction e with
 |nil=>grind
 |cons d r c=>
  cases r with
  |nil=>rfl
  |cons x r=>
   have:=c (by simp) (λd f e g=>b d (by grind) e<|by grind);show tR d (im<|x::r)=_;rw[this];simp only[tR];rw[dH<|b x (by simp) d<|by simp]
theorem qP(a:cJ X)(p:Option E)(e:E)(r:cR):lL a p (e::r)=if pD a p e then e::lL a (H e) r else lL a (H e) r:=rfl
def zZ(e:E)(r:cR):gA (e::r)=if e.del&&!((gA r).any λa=>decide<|a.key=e.key)then gA r else e::gA r:=rfl
def Je(a:cJ X)(l s:cR):∀p:Option E,(∀c,(p.toList++l).getLast?=H c->∀b∈s.head?,c.key≠b.key)->lL a p (l++s)=lL a p l++lL a none s:=by
 induction l with
 |nil=>
  intro p h;cases s with
  |nil=>rfl
  |cons b s=>
   cases p with
   |none=>rfl
   |some q=>
    have f:q.key≠b.key:=h q (by simp) b (by simp);show lL a (H q) (b::s)=lL a none (b::s);have d:pD a (H q) b=ci:=by simp[pD,f]
    have e:pD a none b=ci:=rfl;rw[qP,qP,dH d,dH e]
 |cons i r g=>
  intro p h;have:=g (H i) (λc a b d=>h c (by
   grind) b d)
  grind[qP]
def CN(a:cJ X)(l s:cR)(h:∀b∈l.getLast?,∀d∈s.head?,b.key≠d.key):dI a (l++s)=dI a l++dI a s:=Je a l s none<|λb c=>h b<|by simpa using c
def MY(l s:cR)(h:∀a∈l,∀f∈s,a.key≠f.key):gA (l++s)=gA l++gA s:=by
 induction l with
 |nil=>rfl
 |cons e r d=>
  have b:=d (λa c=>h a<|by simp[c]);show gA (e::(r++s))=_;rw[zZ,zZ,b,List.any_append];have c:((gA s).any λa=>decide<|a.key=e.key)=aX:=by
   rw[List.any_eq_false];grind[kq]
  rw[c,Bool.or_false];split<;>rfl
def vD(g:cR):cR:=(g.reverse.dropWhile<|λe=>e.del).reverse
def GB(g:cR)(e:E):vD (g++[e])=if e.del then vD g else g++[e]:=by
 unfold vD;simp only[List.reverse_append,uq,List.reverse_nil,cV,jF,List.dropWhile_cons];split<;>simp
def QS(e:E)(g:cR):vD (e::g)=if vD g=[]then(if e.del then []else [e])else e::vD g:=by
 unfold vD;rw[uq,List.dropWhile_append];cases hq:g.reverse.dropWhile (λe=>e.del)with
 |nil=>
  simp[List.dropWhile_cons];split<;>simp_all
 |cons x r=>simp
def WI(d:∀x∈e,∀a∈e,x.key=a.key):gA e=vD e:=by
 induction e with
 |nil=>rfl
 |cons f r g=>
  have c:=g (λe a f b=>d e (by simp[a]) f<|by simp[b]);rw[zZ,c,QS];have b:∀a∈vD r,a.key=f.key:=λa e=>d a (by rw[<-c]at e;simp[(kq r).subset e]) f (by simp);cases ht:vD r with
  |nil=>simp
  |cons x t=>
   have:x.key=f.key:=b x (by rw[ht];simp);simp[this]
def Eh{rest:dS}{b:cJ X}(h:gJ e)(a:∀c∈K,c.key≠⟨#[]⟩)(d:∀c∈K,c.bO=k+1)(f:N∈b)(g:N<=k):(dI b (fM e K)::rest).map (jT N)=(e::rest).map (jT N):=by
 simp only[cy];rw[Bj (h.fM a)<|.inl f,PB h a d<|by omega]
def xP{rest:dS}{ms:cJ X}(h:gJ e)(i:∀r∈rest,gJ r)(a:∀c∈K,c.key≠⟨#[]⟩)(f:∀c∈K,c.bO=k+1)(b:∀x∈e,x.bO<=k)(g:∀r∈rest,∀x∈r,x.bO<=k):(dI ms (fM e K)::rest).map (jT<|k+1)=ia (jT k e) K::rest.map (jT k):=by
 simp only[cy];have d:∀x∈fM e K,x.bO<=k+1:=by grind[yh]
 rw[Bj (h.fM a)<|.inr d,PC h a f (Int.le_refl _) (λx e=>by have:=b x e;omega),QA h b<|by omega];grind[map_congr_left,QA]
def IP{rest:dS}{a:cJ X}(h:gJ e)(b:k∈a\/∀x∈e,x.bO<=k):(dI a e::rest).map (jT k)=(e::rest).map (jT k):=by
 grind[Bj]
def SU(d:∀r∈l,gJ r)(c:jU l)(b:X)(k:ae):sa [jT b<|cQ l] k=sa (l.map<|jT b) k:=by
 have f:∀r∈l.map (jT b),xx r:=λr h=>by grind[mM]
 have a:∀k e,sa (l.map<|jT b) k=H e->e.key=k:=λk e q=>((Qm f<|Lv c d b).1 q).2;rw[qj,yU,th];have g:=nP d c;cases hf:sa (l.map<|jT b) k with
 |some e=>
  have:=a k e hf;grind[nT,mM,yi]
 |none=>
  grind[oW,yi]
def gL(b:cJ X)(a:Bool)(c:dS):cR:=if a then gA (dI b<|cQ c)else dI b (cQ c)
def zQ(c:cJ X)(a:Bool)(b:dS):∀x∈gL c a b,x∈b.flatten:=by
 intro x d;have e:x∈dI c (cQ b):=by unfold gL at d;grind[kq]
 grind[eN,jn]
def EO(d:∀r∈l,gJ r)(c:jU l)(b:cJ X)(a:Bool):gJ (gL b a l):=by
 unfold gL;split;exact((nP d c).Lz b).bare;exact(nP d c).Lz b
def AK{D:dS}(e:∀r∈l,gJ r)(d:jU l){a:cJ X}(i:k∈a\/∀x∈l.flatten,x.bO<=k)(h:P=ci->∀f,sa (D.map<|jT k) f=none):Bo (l.map<|jT k) [jT k<|gL a P l] (D.map<|jT k):=by
 have c:=nP e d;have b:k∈a\/∀x∈cQ l,x.bO<=k:=i.imp_right λq x c=>q x<|(eN l).mem_iff.1 c;have g:jT k (dI a<|cQ l)=jT k (cQ l):=Bj c b;intro f;rw[<-SU e d k f,<-g];unfold gL;cases P with
 |false=>exact .inl rfl
 |true=>exact OL (c.Lz a) (h rfl) k f
def Cn(h:gJ (e++K))(l:∀k∈e,∀b∈K,k.key≠b.key)(b:X):jT b (e++K)=jT b e++jT b K:=by
 have c:gJ e:=h.sub<|oI _ _;have d:gJ K:=h.sub<|gQ _ _;have a:xx (jT b e++jT b K):=by refine bQ.2 ⟨mM c b,mM d b,λx g f i=>?_⟩;rcases jt.1 ((bQ.1 h.mj).2.2 x (Aa c g) f<|Aa d i)with j|⟨j,_⟩;exact j;grind[Aa]
 refine(mM h b).ext a λx=>?_;rw[aG,jo h,jo c,jo d];grind
def YB(g:∀r∈l,gJ r)(e:jU l)(b:ae)(j:X):∀x,x∈nR ⟨#[]⟩ ((cQ<|l.map<|fZ b).filter<|λk=>decide<|k.bO<=j)↔sa (l.map<|jT j) x.key=H x/\ja x.key b=aX:=by
 have c:∀r∈l.map (fZ b),∃s∈l,r=fZ b s:=λr o=>by grind
 have h:∀r∈l.map (fZ b),gJ r:=λr o=>by obtain⟨s,m,rfl⟩:=c r o;exact(g s m).sub eW
 have f:jU (l.map<|fZ b):=by unfold jU;rw[ki];exact e.imp λ{r s}q x b a c k=>q x (dL.1 b).1 a (dL.1 c).1 k
 intro x;have n:=nP h f;have d:=nP g e;have i:∀a,a∈cQ (l.map<|fZ b)↔a∈cQ l/\ja a.key b=aX:=λa=>((eN _).mem_iff.trans Vk).trans<|and_congr_left λ_=>(eN l).mem_iff.symm;show x∈jT j (cQ<|l.map<|fZ b)↔_;rw[<-yi g e,jo n,jo d];grind
def gU(g h:cR):Prop:=∀x∈g,∀a∈h,ja x.key a.key=ci
def BV(u:dV e):(im e).Pairwise gU:=by
 induction e with
 |nil=>exact List.Pairwise.nil
 |cons t r b=>
  obtain⟨n,o⟩:=bB.1 u;have b:=b o;unfold im tR;split
  .rename_i x j g f;have h:(x::j)++g.flatten=r:=by have:=ou r;rw[f]at this;grind
   have a:∀b∈x::j,b.key=x.key:=λb c=>yS r (x::j) (by rw[f];simp) b c x (by simp);rw[f]at b;split
   .rename_i i;obtain⟨l,p⟩:=bB.1 b;refine bB.2 ⟨λs c q k m d=>?_,p⟩;have:=l s c x (by simp) m d;grind
   .rename_i i;refine bB.2 ⟨λs c q k m d=>?_,b⟩;rw[dp.1 k];have l:ja t.key x.key=ci:=by
     rcases jt.1 (n x (by rw[<-h];simp))with p|⟨p,_⟩
     .exact p
     grind
    rcases bJ.1 c with rfl|c
    .rw[a m d];exact l
    .exact lq l<|(bB.1 b).1 s c x (by simp) m d
  .rename_i g f;have a:im r=[]:=by
    cases i:im r with
    |nil=>rfl
    |cons j g=>
     cases j with
     |nil=>exact absurd rfl<|AT r [] (by rw[i];simp)
     |cons x j=>grind
   rw[a];grind
def jw(n L:M):M->M->cR->dS->dS
 |_,_,_,[]=>[]
 |k,b,a,g::c=>
  if(k+1)*L/n<=b+y g then(a++g)::jw n L (k+1) (b+y g) [] c
  else jw n L k (b+y g) (a++g) c
theorem nM(n L k b:M)(a g:cR)(c:dS):jw n L k b a (g::c)=if(k+1)*L/n<=b+y g then(a++g)::jw n L (k+1) (b+y g) [] c else jw n L k (b+y g) (a++g) c:=rfl
def NG{n L:M}(i:0<n):∀(c:dS)(k d:M)(a:cR),d+y c.flatten=L->(k<n\/(c.flatten=[]/\a=[]))->(a≠[]->d<(k+1)*L/n)->(jw n L k d a c).flatten=a++c.flatten:=by
 intro c;induction c with
 |nil=>
  intro k d a f b g;have:a=[]:=by
   rcases b with b|b
   .by_cases e:a=[]
    .exact e
    .have:=g e;have h:(k+1)*L/n<=L:=Nat.div_le_of_le_mul<|rC L b;grind
   .exact b.2
  rw[this];rfl
 |cons m c j=>
  intro k d a f b g;simp only[bK,af]at f b;rw[nM];split
  .rename_i e;rw[bK,j (k+1) (d+y m) [] (by omega) ?_<|λq=>absurd rfl q]
   .simp
   .rcases b with b|b
    .by_cases h:k+1<n
     .exact .inl h
     .have l:k+1=n:=by omega
      rw[l,Nat.mul_div_cancel_left L i]at e;exact .inr ⟨aL (by omega),rfl⟩
    grind[append_eq_nil_iff]
  grind[append_eq_nil_iff]
def KD:∀(d:dS)(k e:M)(a:cR),(∀g∈d,g≠[])->∀p∈jw b c k e a d,p≠[]:=by
 intro d;induction d with
 |nil=>intro k e a _ p f;cases f
 |cons g d h=>
  grind[nM,append_eq_nil_iff]
def Rh{n L F V:M}(l:0<n)(hF:L<=n*F)(h:0<F):∀(c:dS)(k e:M)(a:cR),(∀g∈c,y g<=V+1)->k*L/n+y a<=e->(a≠[]->e<(k+1)*L/n)->∀p∈jw n L k e a c,y p<=F+V:=by
 intro c;induction c with
 |nil=>intro k e a _ _ _ p b;cases b
 |cons g c r=>
  intro k e a i m o p b;have j:=i g (by simp);have f:(k+1)*L/n<=k*L/n+F:=by
   have:(k+1)*L<=k*L+n*F:=by rw[xC,Nat.one_mul];omega
   exact aC (Nat.div_le_div_right this)<|Al<|Nat.add_mul_div_left _ _ l
  rw[nM]at b;split at b
  .rename_i q;rcases bJ.1 b with rfl|b
   .rw[af];by_cases d:a=[]
    .rw[d];simp;omega
    grind
   grind
  grind
def NF:∀(f:dS)(m g:M)(a:cR),f.Pairwise gU->(∀n∈f,gU a n)->(jw b c m g a f).Pairwise gU/\∀A∈jw b c m g a f,∀x∈A,x∈a\/x∈f.flatten:=by
 intro f;induction f with
 |nil=>intro m g a _ _;exact⟨List.Pairwise.nil,λA j=>by cases j⟩
 |cons n f t=>
  intro m g a j p;obtain⟨u,v⟩:=bB.1 j;rw[nM];split
  .obtain⟨r,s⟩:=t (m+1) (g+y n) [] v (λ_ _ x e=>by cases e);refine⟨bB.2 ⟨λq w x e d k=>?_,r⟩,λA j x e=>?_⟩
   .have l:d∈f.flatten:=(s q w d k).resolve_left (by simp);obtain⟨o,h,i⟩:=bC.1 l;rcases aG.1 e with e|e
    .exact p o (by simp[h]) x e d i
    .exact u o h x e d i
   grind
  .obtain⟨r,s⟩:=t m (g+y n) (a++n) v (λo h x e d k=>by
    rcases aG.1 e with e|e
    .exact p o (by simp[h]) x e d k
    .exact u o h x e d k)
   grind
def Jd(a:cJ X)(n:dV e)(j:∀x∈e,∀g∈e,x.key=g.key):∀p:Option E,dV (p.toList++e)->(∀q∈p,∀x∈e,q.key=x.key)->y (lL a p e)<=y (a.filter (λm=>match p with|none=>ci|some q=>decide<|m<q.bO))+(if p=none then 1 else 0):=by
 induction e with
 |nil=>intro p _ _;simp[lL]
 |cons c r f=>
  intro p k d;have f:=f (n.sub<|List.sublist_cons_self _ _) (λb a d h=>j b (by simp[a]) d<|by simp[h]) (H c) n (λq e x i=>by grind);simp only[reduceCtorEq,ru,kH]at f;rw[qP];cases p with
  |none=>
   have b:pD a none c=ci:=rfl;rw[dH b];simp only[aY,nk];grind[filter_eq_self,length_filter_le,Nat.succ_le_succ,Nat.le_trans]
  |some q=>
   have h:c.bO<q.bO:=by
    rcases jt.1 ((bQ.1 k).2.2 q (by simp) c<|by simp)with i|⟨_,i⟩
    .rw[d q rfl c (by simp),fO]at i;cases i
    .exact i
   have l:y (lL a (H c) r)<=y (a.filter<|λm=>decide<|m<c.bO):=f;simp only[reduceCtorEq,ru,kH];show _<=y (a.filter<|λm=>decide<|m<q.bO);have b:∀a:cJ X,y (a.filter<|λm=>decide<|m<c.bO)+y (a.filter<|λm=>decide (c.bO<=m)&&decide (m<q.bO))=y (a.filter<|λm=>decide<|m<q.bO):=by
    intro a;induction a with
    |nil=>rfl
    |cons m a i=>
     grind
   have o:=b a;split
   .rename_i i;simp only[pD,d q rfl c (by simp),ul,uO,zk]at i;have:0<y (a.filter<|λm=>decide (c.bO<=m)&&decide (m<q.bO)):=by
     simp_all
    grind
   .omega
def Wp{l:cJ T}{p:T->Bool}(h:l.Pairwise (λa b=>p b=ci->p a=ci)):l.take (l.countP p)=l.filter p/\l.drop (l.countP p)=l.filter (λx=>!p x):=by
 induction l with
 |nil=>simp
 |cons x r e=>
  obtain⟨c,d⟩:=bB.1 h;grind
def lj(l:cR)(e:E):M:=l.countP<|λx=>ahead x e
def IW(l:cR)(e:E):lj l e<=y l:=List.countP_le_length
def dV.cut(h:dV e)(a:E):e.take (lj e a)=e.filter (λx=>ahead x a)/\e.drop (lj e a)=e.filter (λx=>!ahead x a):=Wp<|h.imp λ{_ _}q c=>uJ q c
def dV.mono(h:dV e){i j:M}(a:i<=j)(c:j<y e)(d:ahead e[j] w=ci):ahead (e[i]'(by omega)) w=ci:=by
 rcases mw a with g|g;exact uJ (cU.1 h i j (by omega) c g) d;grind
def XA(f:b<=y e)(c:∀t(a:t<y e),t<b->ahead e[t] w=ci)(d:∀t(a:t<y e),b<=t->ahead e[t] w=aX):lj e w=b:=by
 unfold lj;rw[<-bV b e,List.countP_append];have g:(e.take b).countP (λx=>ahead x w)=b:=by rw[List.countP_eq_length.2];simp;omega;grind[getElem_of_mem]
 grind[countP_eq_zero,getElem_of_mem]
def OW(l:dV e)(k v:ae)(f:Bool)(b:X):iC b e k=if c:∃a:lj e ⟨k,v,f,b⟩<y e,e[lj e ⟨k,v,f,b⟩].key=k then H (e[lj e ⟨k,v,f,b⟩]'c.1)else none:=by
 induction e with
 |nil=>simp[iC]
 |cons x r d=>
  obtain⟨m,h⟩:=bB.1 l;have d:=d h;unfold iC at d|-;cases ha:ahead x ⟨k,v,f,b⟩with
  |true=>
   have a:lj (x::r) ⟨k,v,f,b⟩=lj r ⟨k,v,f,b⟩+1:=List.countP_cons_of_pos (p:=λx=>ahead x ⟨k,v,f,b⟩) ha;have g:(decide (x.key=k)&&decide (x.bO<=b))=aX:=by
    grind[jt,oF]
   rw[List.find?_cons_of_neg (by simpa using g),d];simp[a]
  |false=>
   have a:lj (x::r) ⟨k,v,f,b⟩=0:=by
    refine List.countP_eq_zero.2 λj n=>?_;grind[wq,lD]
   obtain⟨o,i⟩:=mX ha;by_cases g:x.key=k
   .have j:=i g;rw[List.find?_cons_of_pos<|by grind];simp[a,g]
   grind[ot,jt,lu,find?_eq_none]
def RO(h:dV e)(a v:ae)(d:Bool)(b:∀x∈e,x.bO<=k):e.drop (lj e ⟨a,v,d,k⟩)=fZ a e:=by
 rw[(h.cut _).2];refine ur λx c=>?_;congr 1;rw[Bool.eq_iff_iff,jt];grind
def QK(h:dV e)(a:E)(b:lj e a<y e)(f:e[lj e a].key=a.key)(c:e[lj e a].bO=a.bO):e.set (lj e a) a=lA e a:=by
 unfold lA;rw[jg,dH b,(h.cut a).1];congr 2;have d:=(h.cut a).2;rw[bG b]at d;have j:dV (e[lj e a]::e.drop (lj e a+1)):=by rw[<-bG b];exact h.sub<|kj _ _
 have l:=(bB.1 j).1;have i:ahead a e[lj e a]=aX:=by unfold ahead;simp[f,c,fO]
 have m:∀b,ahead e[lj e a] b=ahead a b:=λb=>by unfold ahead;rw[f,c]
 generalize e[lj e a]=k at*;have g:e.filter (λx=>ahead a x)=(e.filter<|λx=>!ahead x a).filter (λx=>ahead a x):=by rw[List.filter_filter];grind[filter_congr,lD]
 rw[g,<-d,ft (by simp[i]),gm.2];grind
def QM(h:dV e)(a:E)(b:∀x∈e,¬(x.key=a.key/\x.bO=a.bO)):e.take (lj e a)++a::e.drop (lj e a)=lA e a:=by
 unfold lA;rw[(h.cut a).1,(h.cut a).2];grind[filter_congr,lD,zc]
def dV.ZZ(j:dV e)(a:E)(k:∀d:lj e a<y e,¬(e[lj e a].key=a.key/\e[lj e a].bO=a.bO)):∀x∈e,¬(x.key=a.key/\x.bO=a.bO):=by
 rintro x o⟨i,h⟩;have f:ahead x a=aX:=by unfold ahead;simp[i,h,fO]
 have c:x∈e.drop (lj e a):=by rw[(j.cut a).2];simp[o,f]
 have d:lj e a<y e:=by grind[Nat.lt_or_ge,drop_eq_nil_of_le]
 have p:=(j.cut a).2;rw[bG d]at c p;have g:ahead e[lj e a] a=aX:=by grind[mem_cons_self]
 have n:dV (e[lj e a]::e.drop (lj e a+1)):=by rw[<-bG d];exact j.sub<|kj _ _
 have l:=k d;generalize e[lj e a]=b at*;rcases bJ.1 c with rfl|c;grind
 have:=(bB.1 n).1 x c;(have m:ahead b x=ahead b a:=by unfold ahead;rw[i,h]);rw[m,g]at this;cases this
def dV.Vz(h:dV e)(a:b<=c)(f:c<y e):ja e[c].key (e[b]'(by omega)).key=aX:=by
 rcases mw a with d|d;exact(mX<|lD<|cU.1 h b c (by omega) f d).1;subst d;exact fO _
def dV.Dz(h:dV e)(a:0<y e)(b:w∈e):ja (e[y e-1]'(by omega)).key w.key=aX:=by
 obtain⟨i,c,rfl⟩:=dY b;exact h.Vz (by omega)<|by omega
def dV.yt(h:dV e)(a:0<y e)(c:w∈e):ja w.key (e[0]'a).key=aX:=by
 obtain⟨i,b,rfl⟩:=dY c;exact h.Vz (bP i) b
def zp(b:X)(l s:cR)(k:ae):iC b (l++s) k=(iC b l k).or (iC b s k):=List.find?_append
def rj{l:cR}(h:∀x∈l,x.key≠t):iC k l t=none:=my.2<|λx a=>by simp[h x a]
def Bd{cs:dS}{k:ae}{i:M}(f:i<y cs)(p:∀x∈cs.flatten,x.key=k->∃q:i<y cs,x∈cs[i])(e:cs.Pairwise gU)(n:X):iC n cs.flatten k=iC n cs[i] k:=by
 have o:cs.flatten=(cs.take i).flatten++(cs[i]++(cs.drop<|i+1).flatten):=by grind[take_append_drop,drop_eq_getElem_cons,flatten_append,flatten_cons]
 have m:∀j(b:j<y cs),j≠i->∀x∈cs[j],x.key≠k:=by intro j b c x d h;obtain⟨_,a⟩:=p x (bC.2 ⟨_,aq b,d⟩) h;rcases Nat.lt_or_gt_of_ne c with g|g;have:=cU.1 e j i b f g x d x a;rw[fO]at this;cases this;have:=cU.1 e i j f b g x a x d;rw[fO]at this;cases this
 rw[o,zp,zp,rj,rj (l:=(cs.drop<|i+1).flatten)];simp;grind[mem_flatten,getElem_of_mem]
 grind[mem_flatten,getElem_of_mem]
def nQ:M->dS->cJ (M×cR)
 |_,[]=>[]
 |n,g::a=>(n,g)::nQ (n+y g) a
def io(a:cJ (M×cR)):cR:=(a.map (·.2)).flatten
def BW:∀(n:M)(a:dS),(nQ n a).map (·.2)=a
 |_,[]=>rfl
 |n,g::a=>by rw[nQ,cy,BW]
def Bb(l:cR):io (nQ 0<|im l)=l:=by unfold io;rw[BW,ou]
def yT:∀(a:dS)(k n:M)(pre:cJ (M×cR))(g:cR),(pre++[(n,g)])<+:nQ k a->n=k+y (io pre)/\(pre.map (·.2)++[g])<+:a
 |[],k,n,pre,g,h=>by
  have:=h.length_le;simp[nQ]at this
 |g0::a,k,n,pre,g,h=>by
  rw[nQ]at h;cases pre with
  |nil=>
   obtain⟨s,b⟩:=h;simp at b;obtain⟨⟨rfl,rfl⟩,b⟩:=b;exact⟨by simp[io],by simp⟩
  |cons p pre=>
   rw[df,ng]at h;obtain⟨d,e⟩:=h;obtain⟨b,c⟩:=yT a _ n pre g e;subst d;refine⟨?_,?_⟩
   .rw[b];simp[io];omega
   .simp[c]
structure Nn(l p g s:cR):Prop where
 all:l=p++g++s
 ne:g≠[]
 same:∀x∈g,∀yqq∈g,x.key=yqq.key
 low:gU p g
 vP:gU g s
def Jq(l:dV e){pre:cJ (M×cR)}(q:(pre++[(b,K)])<+:nQ 0 (im e)):b=y (io pre)/\∃s,Nn e (io pre) K s:=by
 obtain⟨p,t,h⟩:=yT _ _ _ _ _ q;have g:=BV l;have j:K∈im e:=by rw[<-h];simp
 have i:=ou e;rw[<-h]at g i;rw[bA]at g;obtain⟨_,m,n⟩:=bQ.1 g;refine⟨by omega,t.flatten,⟨by rw[<-i];simp[io],AT e K j,yS e K j,λx c a d=>?_,λx c a d=>?_⟩⟩;obtain⟨k,f,c⟩:=bC.1 c;exact n k f K (by simp) x c a d;obtain⟨k,f,d⟩:=bC.1 d;(have o:(K::t).Pairwise gU:=by simpa using m);exact(bB.1 o).1 k f x c a d
def tT(pre:cJ (M×cR))(n:M)(g:cR):io (pre++[(n,g)])=io pre++g:=by simp[io]
def gU.ne(h:gU e K):∀a∈e,∀b∈K,a.key≠b.key:=λa c b d=>oF<|h a c b d
def Nn.Lz{g s:cR}(h:Nn e K g s)(a:cJ X):dI a (K++g)=dI a K++dI a g:=CN a K g<|λd b f c=>h.low.ne d (List.mem_of_getLast? b) f<|List.mem_of_head? c
def Nn.bare{g s:cR}(h:Nn e K g s):gA (K++g)=gA K++vD g:=by rw[MY K g h.low.ne,WI h.same]
def Oz(a:cJ X)(l:cR)(x:E):∀p:Option E,lL a p (l++[x])=lL a p l++(if pD a ((p.toList++l).getLast?) x then [x]else []):=by
 induction l with
 |nil=>intro p;cases p<;>simp[lL]
 |cons e r b=>
  intro p;rw[df,qP,qP,b<|H e];have:(p.toList++e::r).getLast?=((H e).toList++r).getLast?:=by grind
  rw[this];split<;>simp
def wanted(a:cJ X)(g:cR)(i:M)(h:i<y g):Bool:=decide (i=0)||a.any (λm=>decide (g[i].bO<=m)&&decide (m<(g[i-1]'(by omega)).bO))
def Sd{ms:cJ X}(c:∀x∈e,∀a∈e,x.key=a.key)(h:b<y e):dI ms (e.take<|b+1)=dI ms (e.take b)++(if wanted ms e b h then [e[b]]else []):=by
 rw[ai h];unfold dI;rw[Oz];congr 2;simp only[Option.toList_none,cV];cases b with
 |zero=>simp[pD,wanted]
 |succ b=>
  have d:(e.take<|b+1).getLast?=H e[b]:=by
   grind
  rw[d];have:=c e[b] (aq _) e[b+1]<|aq _;simp[pD,wanted,this]
def QP(f:b<=y e)(h:vD e=vD (e.take b))(a:b=0\/∃h:b-1<y e,e[b-1].del=aX):vD e=e.take b:=by
 rw[h];rcases a with rfl|⟨c,d⟩;simp[vD]
 .cases b with
  |zero=>simp[vD]
  |succ b=>
   rw[ai (by omega),GB];grind
def QR(c:b<y e)(a:e[b].del=ci):vD (e.take<|b+1)=vD (e.take b):=by
 rw[ai c,GB,dH a]
def qV(n:M)(l:cR):Prop:=∀k,y (l.filter<|λx=>decide<|x.key=k)<=n
def qV.sub(h:qV b K)(s:e.Sublist K):qV b e:=λk=>aC (s.filter _).length_le<|h k
def qV.mono(h:qV c e)(a:c<=g):qV g e:=λk=>aC (h k) a
def qV.nil(n:M):qV n []:=λ_=>bP _
def qV.keys(h:qV b e):∀g∈im e,y g<=b:=by
 intro g c;have d:g.Sublist e:=by have:=dl c;rwa[ou]at this
 cases g with
 |nil=>grind
 |cons f r=>
  have a:=h.sub d f.key;rw[gm.2<|λx c=>by grind[yS]]at a;exact a
def Ly(c:cJ X):∀a:dS,a.Pairwise gU->dI c a.flatten=(a.map<|dI c).flatten:=by
 intro a;induction a with
 |nil=>intro _;rfl
 |cons m a i=>
  intro l;obtain⟨d,e⟩:=bB.1 l;rw[bK,cy,bK,<-i e];refine CN c _ _<|λj f k g=>?_;obtain⟨q,h,b⟩:=bC.1<|List.mem_of_mem_head? g;exact oF<|d q h j (List.mem_of_mem_getLast? f) k b
def yI{a:cJ X}(n:dV e):qV (y a+1) (dI a e):=by
 have m:=BV n;have l:=yS e;have b:∀g∈im e,dV g:=λg a=>n.sub (by have:=dl a;rwa[ou]at this);intro r;rw[<-ou e,Ly a _ m];generalize im e=f at*;induction f with
 |nil=>simp
 |cons g f j=>
  obtain⟨t,u⟩:=bB.1 m;have j:=j u (λq c=>l q<|by simp[c]) (λq c=>b q<|by simp[c]);rw[cy,bK,kU,af];by_cases A:∃x∈g,x.key=r
  .obtain⟨x,v,w⟩:=A;have s:(f.map<|dI a).flatten.filter (λx=>decide<|x.key=r)=[]:=by
    rw[gS];intro d o;obtain⟨q,c,i⟩:=bC.1 o;obtain⟨p,h,rfl⟩:=bR.1 c;have:=oF<|t p h x v d<|(jn a p).subset i;grind
   rw[s];have k:=Jd a (b g<|by simp) (l g<|by simp) none (by grind) (λq c=>by cases c);have B:=ep (λx=>decide<|x.key=r)<|dI a g;have C:y (a.filter<|λ_=>ci)<=y a:=ep _ _;simp only[nk]at k;have D:y (dI a g)<=y (a.filter<|λ_=>ci)+1:=k;grind
  .have s:(dI a g).filter (λx=>decide<|x.key=r)=[]:=by
    rw[gS];intro d o;simp only[pM];grind[jn]
   rw[s];simpa using j
def rZ(L:M):M:=(L+95)/96
def gC(l:cR):dS:=jw (rZ<|y l) (y l) 0 0 []<|im l
def wu(h:e≠[]):0<rZ (y e):=by
 have:=gl.2 h;unfold rZ;omega
def wk(l:cR):(gC l).flatten=l:=by
 by_cases c:l=[];subst c;rfl;have h:=NG (n:=rZ<|y l) (L:=y l) (wu c) (im l) 0 0 [] (by rw[ou];simp) (.inl<|wu c)<|λq=>absurd rfl q;rw[ou]at h;simpa[gC]using h
def Ew(l:cR):∀p∈gC l,p≠[]:=KD _ _ _ _<|AT l
def BO(h:K∈gC e):K.Sublist e:=by
 have:=dl h;rwa[wk]at this
def Ev(h:dV e):(gC e).Pairwise gU:=(NF _ _ _ _ (BV h)<|λ_ _ x a=>by cases a).1
def RQ(h:qV 5 e):∀p∈gC e,y p<=100:=by
 by_cases c:e=[];subst c;intro p a;cases a;(have a:y e<=rZ (y e)*96:=by unfold rZ;omega);exact Rh (F:=96) (V:=4) (wu c) a (by omega) _ 0 0 [] h.keys (by simp)<|λq=>absurd rfl q
def CR{ps:dS}(h:∀p∈ps,p≠[]):y ps<=y ps.flatten:=by
 induction ps with
 |nil=>grind
 |cons p r b=>
  have a:=gl.2 (h p<|by simp);have c:=b (λq a=>h q<|by simp[a]);grind
def uC(l:cR):y (gC l)<=y l:=by
 have:=CR<|Ew l;rwa[wk]at this
def wG(l:cR):∀a,(nR a l).Sublist l:=by
 induction l with
 |nil=>intro a;exact List.Sublist.slnil
 |cons e r b=>
  intro a;unfold nR;grind
def VP(b:ae)(a:dS):y (a.map<|fZ b).flatten<=y a.flatten:=by
 induction a with
 |nil=>simp
 |cons r a c=>
  have h:y (fZ b r)<=y r:=ep _ _;grind
def Yh(h:sa l t=H w):w.key=t:=by
 unfold sa at h;obtain⟨r,_,a⟩:=pS h;have:=wP a;grind
def Qn(h:sa l t=H w):w∈l.flatten:=by
 unfold sa at h;obtain⟨r,b,a⟩:=pS h;exact bC.2 ⟨r,b,li a⟩
def SW(h:∀r∈l,r=[])(k:ae):sa l k=none:=by
 cases c:sa l k with
 |none=>rfl
 |some e=>
  obtain⟨r,b,a⟩:=bC.1<|Qn c;rw[h r b]at a;cases a
abbrev KV:=ae×ae
abbrev kD:=cJ KV
def sK(p:KV):gW:=[am p.1,am p.2]
def jL(l:cJ KV):gW:=l.flatMap sK
def qh(l:cJ KV)(i:M)(h:i<y l):(jL l)[i*2]?=H (am l[i].1)/\(jL l)[i*2+1]?=H (am l[i].2):=by
 induction l generalizing i with
 |nil=>simp at h
 |cons p r a=>
  cases i with
  |zero=>simp[jL,sK]
  |succ i=>
   have:=a i (by simpa using h);have e:(i+1)*2=i*2+2:=by omega
   rw[e];simpa[jL,sK]using this
def Row(w:Y)(c:M)(v:ab)(n:M)(d:gW):Prop:=y d=n*c/\((v=az/\n=0)\/∃e a b,v=bD e a n b/\n<=b/\∀j u,d[j]?=H u->aW w (R e<|a+j)=H u)
def rU(w:Y)(v:ab)(l:cJ KV):Prop:=Row w 2 v (y l)<|jL l
def Mi:(prog.info? 176).map (λi=>(i.zero,i.size,i.bytes))=H (H<|dC #[am ⟨#[]⟩,am ⟨#[]⟩],2,32):=by kernel_rfl
theorem Ny{b:ae}(h:t.toList=b.toList):t=b:=by
 rw[so,so]at h;exact bytes_inj h
def zP{b:ae}(h:¬t=b):(t.toList==b.toList)=aX:=by
 rw[kE];grind[Ny]
def Nr(a k:ae):Bool:=!Op.bytesLess a.toList k.toList
def fN(k v:ae)(a:cJ KV×Bool)(p:KV):cJ KV×Bool:=let b:=if !a.2&&Nr p.1 k then a.1++[(k,v)]else a.1;(if p.1=k then b else b++[p],a.2||Nr p.1 k)
def oM(k v:ae)(d:Bool)(l:cJ KV):cJ KV×Bool:=l.foldl (fN k v) ([],d)
def ug(l:cJ KV)(k v:ae)(d:Bool):cJ KV:=if(oM k v d l).2 then(oM k v d l).1 else(oM k v d l).1++[(k,v)]
def NQ(k v:ae)(d:Bool)(l:cJ KV)(n:M)(h:n<y l):oM k v d (l.take<|n+1)=fN k v (oM k v d<|l.take n) l[n]:=by
 unfold oM;rw[ai h,gK];rfl
theorem Ee(k v:ae)(a:cJ KV×Bool)(p:KV):y (fN k v a p).1<=y a.1+2:=by
 unfold fN;grind
theorem GI{v b c:ae}{a:cJ KV}(h:b=t):fN t v (a,ci) (b,c)=(a,ci):=by simp[fN,h]
theorem GH{v b c:ae}{a:cJ KV}(h:¬b=t):fN t v (a,ci) (b,c)=(a++[(b,c)],ci):=by simp[fN,h]
def Ra{v b c:ae}{a:cJ KV}(d:Op.bytesLess b.toList t.toList=ci)(h:b=t):fN t v (a,aX) (b,c)=(a,aX):=by
 unfold fN Nr;grind
def GJ{v b c:ae}{a:cJ KV}(d:Op.bytesLess b.toList t.toList=ci)(h:¬b=t):fN t v (a,aX) (b,c)=(a++[(b,c)],aX):=by
 unfold fN Nr;grind
def Rc{v b c:ae}{a:cJ KV}(d:Op.bytesLess b.toList t.toList=aX)(h:b=t):fN t v (a,aX) (b,c)=(a++[(t,v)],ci):=by
 unfold fN Nr;grind
def Rb{v b c:ae}{a:cJ KV}(d:Op.bytesLess b.toList t.toList=aX)(h:¬b=t):fN t v (a,aX) (b,c)=(a++[(t,v)]++[(b,c)],ci):=by
 unfold fN Nr;grind
def IM(k v:ae)(d:Bool)(l:cJ KV):y (oM k v d l).1<=2*y l:=by
 unfold oM
 have:∀(l:cJ KV)(a:cJ KV×Bool),y (l.foldl (fN k v) a).1<=y a.1+2*y l:=by
  intro l;induction l with
  |nil=>intro a;simp
  |cons p r b=>grind[length_cons,Ee]
 grind
def mR(a b:cJ KV):jL (a++b)=jL a++jL b:=by simp[jL]
def ke(h:a.ownsRow b c g d m B)(e:f.heap=a.heap):f.ownsRow b c g d m B:=by
 unfold World.ownsRow at*;rw[e];exact h
def mu{h wr W c:Y}(f:Below b h wr)(a:b<=z (G wr))(i:eE W c d s)(O:Obj)(e:(W.os,W.tape,W.output,W.heap)=((cN wr O).os,(cN wr O).tape,(cN wr O).output,(cN wr O).heap))(g:∀k,cK d=H k->b<=k):Below b h c:=(Below.of_heap (f.alloc a O) e).grown i.grown (by simp only[ib]at e;rw[e.2.2.2];simp;omega) g
def zh(w:Y)(a:M)(o:ab)(l:cJ KV):Prop:=w.ownsRow a 176 2 o (y l)<|jL l
def zh.of{l:cJ KV}(h:a.ownsRow b 176 2 d c B)(e:c=y l)(f:B=jL l):zh a b d l:=by subst e;subst f;exact h
def qU(w:Y)(x a:ab)(t:TypeId):∀j u,[x,a][j]?=H u->aW (cN w<|aw #[x,a] t) (((R (z<|G w) 0):Addr).add j)=H u:=by
 intro j u b;rw[dB];simp_all
def Uv(p:cJ KV)(al b an:M)(k v:ae)(P:Bool)(w:Y)(hr:y p<=1000000000000)(N:∀j,j<y p->aW w (R al<|b+j*2)=H (am (p[j]?.getD (⟨#[]⟩,⟨#[]⟩)).1)/\aW w (R al<|b+j*2+1)=H (am (p[j]?.getD (⟨#[]⟩,⟨#[]⟩)).2))(hb:al<z (G w)):cY aZ 77 #[bD al b (y p) an,dC #[am k,am v,aN P]] w λbb w'=>∃v',bb=aM v'/\zh w' (z (G w)+1) v' (ug p k v P)/\Below (z<|G w) w w':=by
 obtain⟨i0,hi,B,C,D⟩:=di Mi;have HC:=U N;clear N;go_in
 go_wp2;go_loopw [5,6,7] (λa aV j wr=>∃(o:M),o<=y p/\j=ar o/\aV=aN (oM k v P<|p.take o).2/\zh wr (z (G w)+1) a (oM k v P<|p.take o).1/\Below (z (G w)+1) (cN w<|aw #[am k,am v,aN P] 178) wr) (λ_ _ j _=>y p-(intOf j).toNat)
 case atStart=>exact⟨0,bP _,rfl,rfl,cO _ _ _ _,Below.refl _ _⟩
 case round=>
  obtain⟨o,hn,rfl,rfl,m,c⟩:=hrel;have aF:aW wr (R (z<|G w) 0)=H (am k):=by rw[c.cell<|by simp];simp
  have aU:aW wr (R (z<|G w) 1)=H (am v):=by rw[c.cell<|by simp];simp
  have x:y (oM k v P<|p.take o).1<=2*o:=by have:=IM k v P<|p.take o;grind
  have L:z (G w)+1<=z (G wr):=by have:=c.size;simp_all
  by_cases K:o<y p
  .have S:aW wr (R al<|b+o*2)=H (am (p[o]?.getD (⟨#[]⟩,⟨#[]⟩)).1):=by rw[c.cell (by simp;omega),fC hb];exact(HC o K).1
   have T:aW wr (R al<|b+o*2+1)=H (am (p[o]?.getD (⟨#[]⟩,⟨#[]⟩)).2):=by rw[c.cell (by simp;omega),fC hb];exact(HC o K).2
   have W:=U<|NQ k v P p o K;generalize oM k v P (p.take o)=E at*;obtain⟨V,q⟩:=E;have r:=U m;have HB:=U c;clear m c;have ap:p[o]?.getD (⟨#[]⟩,⟨#[]⟩)=p[o]:=by simp[K]
   rw[ap]at S T;generalize p[o]=aV at*;obtain⟨g,F⟩:=aV;simp only at S T x;cases q with
   |true=>
    go_wp2_with fail
    go_quiet(fail)
    go_wp2_with fail
    by_cases i:g=k
    .have u:(g.toList==k.toList)=ci:=by rw[i];simp
     have l:=U<|W.trans<|GI i;clear i;go_quiet(fail)
     go_wp2;go_roundw;case rel=>exact⟨o+1,by omega,by go_num,by rw[J l],by rw[J l];exact ke r rfl,Below.of_heap HB rfl⟩
     case measure=>simp[intOf];omega
    .have u:(g.toList==k.toList)=aX:=zP i;have l:=U<|W.trans<|GH i;clear i;go_quiet(fail)
     go_wp2_with(first
      |(at_builtin;refine cA _ rfl (.tmp 44) (.tmp 49) 33 rfl (z (G w)+1) 176 i0 (.agg #[.string ⟨#[]⟩,.string ⟨#[]⟩]) 2 32 underlying33 hi B C D rfl (by decide) _ _ _ rfl (ke (aT r (.cells #[.string g,.string F] 176)) ?chT) (R (z (G wr)) 0) 1 1 [.string g,.string F] rfl rfl ?c1T ?c2T ?c3T ?c4T ?c5T ?_))
     case chT=>rfl
     case c1T=>exact qU _ _ _ _
     case c2T=>intro ba A;simp at A;rcases A with rfl|rfl<;>rfl
     case c3T=>first|omega|(simp;omega)
     case c4T=>first|omega|(simp;omega)
     case c5T=>simp;omega
     intro o2 w2 a e;have t:=U a;have Q:=U e;clear a e;go_wp2;go_roundw;case rel=>exact⟨o+1,by omega,by go_num,by rw[J l],by rw[J l];exact zh.of t (by simp) (by simp[mR];rfl),mu HB L Q (aw #[am g,am F] 176) rfl<|λN j=>(bM r N j).1⟩
     case measure=>simp[intOf];omega
   |false=>
    by_cases hL:Op.bytesLess g.toList k.toList=ci
    .have HG:=U hL;go_wp2_with fail
     go_quiet(fail)
     go_wp2_with fail
     by_cases i:g=k
     .have u:(g.toList==k.toList)=ci:=by rw[i];simp
      have l:=U<|W.trans<|Ra HG i;clear i;go_quiet(fail)
      go_wp2;go_roundw;case rel=>exact⟨o+1,by omega,by go_num,by rw[J l],by rw[J l];exact ke r rfl,Below.of_heap HB rfl⟩
      case measure=>simp[intOf];omega
     .have u:(g.toList==k.toList)=aX:=zP i;have l:=U<|W.trans<|GJ HG i;clear i;go_quiet(fail)
      go_wp2_with(first
       |(at_builtin;refine cA _ rfl (.tmp 44) (.tmp 49) 33 rfl (z (G w)+1) 176 i0 (.agg #[.string ⟨#[]⟩,.string ⟨#[]⟩]) 2 32 underlying33 hi B C D rfl (by decide) _ _ _ rfl (ke (aT r (.cells #[.string g,.string F] 176)) ?chL) (R (z (G wr)) 0) 1 1 [.string g,.string F] rfl rfl ?c1L ?c2L ?c3L ?c4L ?c5L ?_))
      case chL=>rfl
      case c1L=>exact qU _ _ _ _
      case c2L=>intro ba A;simp at A;rcases A with rfl|rfl<;>rfl
      case c3L=>first|omega|(simp;omega)
      case c4L=>first|omega|(simp;omega)
      case c5L=>simp;omega
      intro o2 w2 a e;have t:=U a;have Q:=U e;clear a e;go_wp2;go_roundw;case rel=>exact⟨o+1,by omega,by go_num,by rw[J l],by rw[J l];exact zh.of t (by simp) (by simp[mR];rfl),mu HB L Q (aw #[am g,am F] 176) rfl<|λN j=>(bM r N j).1⟩
      case measure=>simp[intOf];omega
    .have ao:Op.bytesLess g.toList k.toList=aX:=by simpa using hL
     clear hL;have HG:=U ao;go_wp2_with fail
     go_quiet(fail)
     go_wp2_with(first
      |(at_builtin;refine cA _ rfl (.tmp 28) (.tmp 34) 33 rfl (z (G w)+1) 176 i0 (.agg #[.string ⟨#[]⟩,.string ⟨#[]⟩]) 2 32 underlying33 hi B C D rfl (by decide) _ _ _ rfl (ke (aT r (.cells #[.string k,.string v] 176)) ?chY) (R (z (G wr)) 0) 1 1 [.string k,.string v] rfl rfl ?c1Y ?c2Y ?c3Y ?c4Y ?c5Y ?_))
     case chY=>rfl
     case c1Y=>exact qU _ _ _ _
     case c2Y=>intro ba A;simp at A;rcases A with rfl|rfl<;>rfl
     case c3Y=>first|omega|(simp;omega)
     case c4Y=>first|omega|(simp;omega)
     case c5Y=>simp;omega
     intro o1 O f n;have d:Below (z (G w)+1) (cN w<|aw #[am k,am v,aN P] 178) O:=mu HB L n (aw #[am k,am v] 176) rfl<|λN j=>(bM r N j).1;have av:aW O (R (z<|G w) 0)=H (am k):=by rw[d.cell<|by simp];simp
     have ax:aW O (R al<|b+o*2)=H (am g):=by rw[d.cell (by simp;omega),<-(J HB).cell (by simp;omega)];exact S
     have aD:aW O (R al<|b+o*2+1)=H (am F):=by rw[d.cell (by simp;omega),<-(J HB).cell (by simp;omega)];exact T
     have ad:z (G w)+1<=z (G O):=by have:=d.size;simp_all
     have ac:zh O (z (G w)+1) o1 (V++[(k,v)]):=zh.of f (by simp) (by simp[mR];rfl);have au:y (V++[(k,v)])<=2*o+1:=by simp;omega
     have s:=U ac;have aa:=U d;clear f n d ac;go_wp2_with fail
     by_cases i:g=k
     .have u:(g.toList==k.toList)=ci:=by rw[i];simp
      have l:=U<|W.trans<|Rc HG i;clear i;go_quiet(fail)
      go_wp2;go_roundw;case rel=>exact⟨o+1,by omega,by go_num,by rw[J l],by rw[J l];exact ke s rfl,Below.of_heap aa rfl⟩
      case measure=>simp[intOf];omega
     .have u:(g.toList==k.toList)=aX:=zP i;have l:=U<|W.trans<|Rb HG i;clear i;go_quiet(fail)
      go_wp2_with(first
       |(at_builtin;refine cA _ rfl (.tmp 44) (.tmp 49) 33 rfl (z (G w)+1) 176 i0 (.agg #[.string ⟨#[]⟩,.string ⟨#[]⟩]) 2 32 underlying33 hi B C D rfl (by decide) _ _ _ rfl (ke (aT s (.cells #[.string g,.string F] 176)) ?chZ) (R (z (G O)) 0) 1 1 [.string g,.string F] rfl rfl ?c1Z ?c2Z ?c3Z ?c4Z ?c5Z ?_))
      case chZ=>rfl
      case c1Z=>exact qU _ _ _ _
      case c2Z=>intro ba A;simp at A;rcases A with rfl|rfl<;>rfl
      case c3Z=>first|omega|(simp;omega)
      case c4Z=>first|omega|(simp;omega)
      case c5Z=>simp;omega
      intro o2 w2 a e;have t:=U a;have Q:=U e;clear a e;go_wp2;go_roundw;case rel=>exact⟨o+1,by omega,by go_num,by rw[J l],by rw[J l];exact zh.of t (by simp) (by simp[mR];rfl),mu aa ad Q (aw #[am g,am F] 176) rfl<|λN j=>(bM s N j).1⟩
      case measure=>simp[intOf];omega
  .have a:p.take o=p:=eT (by omega);rw[a]at m x|-;have e:=U<|show ug p k v P=if(oM k v P p).2 then(oM k v P p).1 else(oM k v P p).1++[(k,v)]from rfl;generalize oM k v P p=E at*;obtain⟨V,q⟩:=E;simp only at x;have r:=U m;have HB:=U c;clear m c;have fin:∀w2,Below (z (G w)+1) (cN w<|aw #[am k,am v,aN P] 178) w2->Below (z<|G w) w w2:=λw2 h=>((Below.refl _ w).alloc (ah _) _).trans (h.mono<|by omega);have d:=U fin;clear fin;cases q with
   |true=>
    go_wp2;go_ret;exact⟨_,rfl,by rw[J e];exact r,J d _ HB⟩
   |false=>
    go_wp2_with(first
     |(at_builtin;refine cA _ rfl (.tmp 53) (.tmp 59) 33 rfl (z (G w)+1) 176 i0 (.agg #[.string ⟨#[]⟩,.string ⟨#[]⟩]) 2 32 underlying33 hi B C D rfl (by decide) _ _ _ rfl (ke (aT r (.cells #[.string k,.string v] 176)) ?chX) (R (z (G wr)) 0) 1 1 [.string k,.string v] rfl rfl ?c1X ?c2X ?c3X ?c4X ?c5X ?_))
    case chX=>rfl
    try(case c1X=>exact qU _ _ _ _)
    case c2X=>exact⟨rfl,rfl⟩
    case c3X=>omega
    case c4X=>omega
    case c5X=>omega
    intro o1 O f n;have s:=U f;have Q:=U n;clear f n;go_wp2;go_ret;exact⟨_,rfl,by rw[J e];exact zh.of s (by simp) (by simp[mR];rfl),J d _<|mu HB L Q (aw #[am k,am v] 176) rfl<|λN j=>(bM r N j).1⟩
theorem Xr(k v:ae)(m:Bool)(w:Y):cY aZ 77 #[az,dC #[am k,am v,aN m]] w λA q=>∃p,A=aM p/\zh q (z (G w)+1) p (ug [] k v m)/\Below (z<|G w) w q:=by
 obtain⟨x,s,i,j,l⟩:=di Mi;go_in
 go_wp2;go_loopw [5,6,7] (λo a i wr=>i=ar 0/\a=aN m/\o=az/\Below (z (G w)+1) (cN w<|aw #[am k,am v,aN m] 178) wr) (λ_ _ _ _=>0)
 case atStart=>grind[Below.refl]
 case round=>
  obtain⟨rfl,rfl,rfl,a⟩:=hrel;have t:aW wr (R (z<|G w) 0)=H (am k):=by rw[a.cell<|by simp];simp
  have u:aW wr (R (z<|G w) 1)=H (am v):=by rw[a.cell<|by simp];simp
  have g:z (G w)+1<=z (G wr):=by have:=a.size;simp_all
  have c:zh wr (z (G w)+1) az []:=cO _ _ _ _;have e:=U c;have HB:=U a;clear c a;have fin:∀a,Below (z (G w)+1) (cN w<|aw #[am k,am v,aN m] 178) a->Below (z<|G w) w a:=λa h=>((Below.refl _ w).alloc (ah _) _).trans (h.mono<|by omega);have n:=U fin;clear fin;cases m with
  |true=>
   go_wp2;go_ret;exact⟨_,rfl,e,J n _ HB⟩
  |false=>
   go_wp2_with(first
    |(at_builtin;refine cA _ rfl (.tmp 53) (.tmp 59) 33 rfl (z (G w)+1) 176 x (.agg #[.string ⟨#[]⟩,.string ⟨#[]⟩]) 2 32 underlying33 s i j l rfl (by decide) _ _ _ rfl (ke (aT e (.cells #[.string k,.string v] 176)) ?chX) (R (z (G wr)) 0) 1 1 [.string k,.string v] rfl rfl ?c1X ?c2X ?c3X ?c4X ?c5X ?_))
   case chX=>rfl
   try(case c1X=>exact qU _ _ _ _)
   case c2X=>intro D o;simp at o;rcases o with rfl|rfl<;>rfl
   case c3X=>simp_all
   case c4X=>simp_all
   case c5X=>first|omega|(simp;omega)
   intro B C b d;have f:=U b;have r:=U d;clear b d;go_wp2;go_ret;exact⟨_,rfl,zh.of f rfl rfl,J n _<|mu HB g r (aw #[am k,am v] 176) rfl<|λb a=>(bM e b a).1⟩
def dJ(j:a.ownsRow c g m d D B):Row a m d D B:=by
 refine⟨j.1,?_⟩;rcases j.2 with⟨rfl,l⟩|⟨i,e,h,rfl,_,_,f,_⟩;grind
 refine .inr ⟨i,0,e,rfl,f,λn u k=>?_⟩;have:=j.cells (g:=i) rfl n u k;rwa[dB]at this
def zh.A0{l:cJ KV}(h:zh a b d l):rU a d l:=dJ h
def Xs(l:cJ KV)(n v:ae)(g:Bool)(k:rU a d l)(j:∀p,cK d=H p->p<z (G a))(m:y l<=1000000000000):cY aZ 77 #[d,dC #[am n,am v,aN g]] a λq f=>∃e,q=aM e/\zh f (z (G a)+1) e (ug l n v g)/\Below (z<|G a) a f:=by
 obtain⟨s,⟨rfl,r⟩|⟨o,b,c,rfl,i,t⟩⟩:=k;grind[eq_nil_of_length_eq_zero,Xr]
 refine Uv l o b c n v g a m (λw h=>?_)<|j o rfl;have u:=qh l w h;grind
structure Ki where
 key:ae
 val:ae
 del:Bool
abbrev oa:=cJ Ki
def rS(c:Ki):gW:=[am c.key,am c.val,aN c.del]
def gI(l:cJ Ki):gW:=l.flatMap rS
def lE(l:cJ Ki)(i:M)(h:i<y l):(gI l)[i*3]?=H (am l[i].key)/\(gI l)[i*3+1]?=H (am l[i].val)/\(gI l)[i*3+2]?=H (aN l[i].del):=by
 induction l generalizing i with
 |nil=>simp at h
 |cons p r a=>
  cases i with
  |zero=>simp[gI,rS]
  |succ i=>
   have:=a i (by simpa using h);have e:(i+1)*3=i*3+3:=by omega
   rw[e];simpa[gI,rS]using this
def Gv(w:Y)(v:ab)(l:cJ Ki):Prop:=Row w 3 v (y l)<|gI l
def wt:Bool->M
 |true=>0
 |false=>1
def Ed(k v:ae)(a:kD×Bool)(p:KV):y (fN k v a p).1+wt (fN k v a p).2<=y a.1+wt a.2+1:=by
 obtain⟨c,q⟩:=a;obtain⟨b,d⟩:=p;cases q<;>cases hg:Nr b k<;>by_cases h:b=k<;>(simp only[fN,hg];simp[h,wt])
theorem KH(l:kD)(k v:ae)(d:Bool):y (ug l k v d)<=y l+1:=by
 have b:∀(l:kD)(a:kD×Bool),y (l.foldl (fN k v) a).1+wt (l.foldl (fN k v) a).2<=y a.1+wt a.2+y l:=by
  intro l;induction l with
  |nil=>intro a;simp
  |cons p r c=>intro a;simp only[iF,aY];have:=c<|fN k v a p;have:=Ed k v a p;omega
 have h:=b l ([],d);have f:wt d<=1:=by cases d<;>simp[wt]
 simp only[dG]at h;unfold ug oM;split<;>rename_i e;omega;(have a:(List.foldl (fN k v) ([],d) l).2=aX:=by simpa using e);rw[a,show wt aX=1 from rfl]at h;rw[af];grind
def yx(l:kD)(a:cJ Ki):kD:=a.foldl (λl c=>ug l c.key c.val c.del) l
def Wk(l:kD)(a:cJ Ki)(n:M)(h:n<y a):yx l (a.take<|n+1)=ug (yx l<|a.take n) a[n].key a[n].val a[n].del:=by
 unfold yx;rw[ai h,gK];rfl
def zU(l:kD)(a:cJ Ki):y (yx l a)<=y l+y a:=by
 unfold yx;induction a generalizing l with
 |nil=>simp
 |cons c r b=>grind[length_cons,KH]
def Wj{Q:kD}(c:cJ Ki)(B:rU a d Q)(A:∀g,cK d=H g->g<z (G a))(hc:Gv a s c)(m:∀g,cK s=H g->g<z (G a))(hr:y Q+y c<=1000000000000):cY aZ 40 #[d,s] a λal S=>∃x,al=aM x/\rU S x (yx Q c)/\(∀g,cK x=H g->g<z (G S))/\(cK x=cK d\/∀g,cK x=H g->z (G a)<=g)/\Below (z<|G a) a S:=by
 obtain⟨h1,⟨rfl,h0⟩|⟨W,e,ac,rfl,ad,t⟩⟩:=hc;(.obtain rfl:c=[]:=aL h0;have K:=U B;have F:=U A;clear B A m;(go_in);go_wp2;(go_loopw [0,5] (λV aa wr=>aa=ar 0/\V=d/\wr=a) (λ_ _ _=>0));(case atStart=>grind);(case round=>obtain⟨rfl,rfl,rfl⟩:=hrel;go_wp2;go_ret;exact⟨_,rfl,K,F,.inl rfl,Below.refl _ _⟩))
 .have l:W<z (G a):=m W rfl;obtain⟨K,F,E⟩:=dz B A t;clear B A m t;go_in
  go_wp2;go_loopw [0,5] (λV aa wr=>∃n:M,n<=y c/\aa=ar n/\rU wr V (yx Q<|c.take n)/\(∀g,cK V=H g->g<z (G wr))/\(cK V=cK d\/∀g,cK V=H g->z (G a)<=g)/\Below (z<|G a) a wr) (λ_ aa _=>y c-(intOf aa).toNat)
  case atStart=>exact⟨0,bP _,rfl,K,F,.inl rfl,Below.refl _ _⟩
  case round=>
   obtain⟨n,hn,rfl,f,j,o,b⟩:=hrel;by_cases w:n<y c
   .have k:=lE c n w;have L:aW wr (R W<|e+n*3)=H (am c[n].key):=(b.cell<|by exact l).trans<|E _ _ k.1;have N:aW wr (R W<|e+n*3+1)=H (am c[n].val):=(b.cell<|by exact l).trans (by rw[bw];exact E _ _ k.2.1);have O:aW wr (R W<|e+n*3+2)=H (aN c[n].del):=(b.cell<|by exact l).trans (by rw[bw];exact E _ _ k.2.2);have HS:=U<|Wk Q c n w;have v:y (yx Q<|c.take n)<=1000000000000:=by have:=zU Q<|c.take n;grind
    obtain⟨C,D,p⟩:=dz f j b;clear k f j b o;generalize P:c[n]=ce at*;obtain⟨ck,cv,cd⟩:=ce;clear P;simp only at L N O;go_wp2_with(first
     |(go_at_call 77;refine(Xs _ ck cv cd C D v).mono ?_;rintro al w1⟨v1,rfl,i,q⟩))
    have r:Below (z<|G a) a w1:=p.trans<|q.mono p.size;have u:∀g,cK v1=H g->g<z (G w1):=λg k=>(bM i g k).2;obtain⟨K1,K2,K3,K4⟩:=fY i.A0 r u (show∀g,cK v1=H g->z (G a)<=g fromλg k=>by have:=(bM i g k).1;have:=p.size;omega);clear i q r u;go_wp2;go_roundw;case rel=>exact⟨n+1,by omega,by go_num,by rw[J HS];exact K1,K3,.inr K4,K2⟩
    case measure=>simp[intOf];omega
   .have i:c.take n=c:=eT (by omega);rw[i]at f;obtain⟨C,D,p,k⟩:=fY f j b o;clear f j b o;go_wp2;go_ret;exact⟨_,rfl,C,D,k,p⟩
def oO(l:kD)(k:ae):ae×Bool:=match l with
 |[]=>(⟨#[]⟩,aX)
 |p::r=>if p.1=k then(p.2,ci)else oO r k
def Sm{l:kD}(h:b<y l)(e:l[b].1=t):oO (l.drop b) t=(l[b].2,ci):=by
 rw[bG h];simp[oO,e]
def OE{l:kD}(h:b<y l)(e:¬l[b].1=t):oO (l.drop b) t=oO (l.drop<|b+1) t:=by
 rw[bG h];simp[oO,e]
def LJ{l:kD}(k:ae)(A:rU a d l)(L:y l<=1000000000000):cY aZ 43 #[d,am k] a λF D=>F=aM (dq #[am (oO l k).1,aN (oO l k).2])/\D=a:=by
 obtain⟨w,⟨rfl,v⟩|⟨E,b,u,rfl,x,r⟩⟩:=A;(.obtain rfl:l=[]:=aL v;(go_in);go_wp2;(go_loop [6] (λt=>t=ar 0) (λ_=>0));(case atStart=>rfl);(case round=>obtain rfl:=hrel;go_wp2;(go_ret2);exact⟨rfl,rfl⟩));(.have q:=U r;clear r w;(go_in);go_wp2;(go_loop [6] (λt=>∃n:M,n<=y l/\t=ar n/\oO l k=oO (l.drop n) k) (λt=>y l-(intOf t).toNat));(case atStart=>grind);(case round=>obtain⟨n,K,rfl,s⟩:=hrel;have i:=U s;clear s;by_cases e:n<y l;(.have o:=qh l n e;have f:aW a (R E<|b+n*2)=H (am l[n].1):=q _ _ o.1;(have g:aW a (R E<|b+n*2+1)=H (am l[n].2):=by rw[bw];exact q _ _ o.2);clear o;by_cases c:l[n].1=k;(.have j:=U<|i.trans<|Sm e c;generalize l[n]=B at*;obtain⟨p,C⟩:=B;simp only at f g c;(have m:(p.toList==k.toList)=ci:=by rw[c];simp);clear c;go_wp2;(go_ret2);exact⟨by rw[J j];rfl,rfl⟩);(.have j:=U<|i.trans<|OE e c;generalize l[n]=B at*;obtain⟨p,C⟩:=B;simp only at f g c;have m:(p.toList==k.toList)=aX:=zP c;clear c;go_wp2;(go_round);(case rel=>exact⟨n+1,by omega,by go_num,j⟩);case measure=>simp[intOf];omega));(have c:l.drop n=[]:=by simp;omega);go_wp2;(go_ret2);exact⟨by rw[J i,c];rfl,rfl⟩))
def mJ:oa->X
 |[]=>0
 |c::r=>if c.key.size=0\/8<c.key.size then 3 else if c.del=aX/\16<c.val.size then 4 else mJ r
def ga(a:oa):X:=if 8<y a then 2 else mJ a
def De{a:oa}(h:b<y a)(e:a[b].key.size=0\/8<a[b].key.size):mJ (a.drop b)=3:=by
 rw[bG h,mJ,dH e]
def Dd{a:oa}(h:b<y a)(e:¬(a[b].key.size=0\/8<a[b].key.size))(f:a[b].del=aX/\16<a[b].val.size):mJ (a.drop b)=4:=by
 rw[bG h,mJ,dF e,dH f]
def Fz{a:oa}(h:b<y a)(e:¬(a[b].key.size=0\/8<a[b].key.size))(f:¬(a[b].del=aX/\16<a[b].val.size)):mJ (a.drop b)=mJ (a.drop<|b+1):=by
 rw[bG h,mJ,dF e,dF f]
def TJ{b:oa}(O:Gv a d b)(T:y b<=1000000000000):cY aZ 44 #[d] a λQ P=>Q=aM (ar<|ga b)/\P=a:=by
 obtain⟨L,⟨rfl,K⟩|⟨E,c,F,rfl,N,x⟩⟩:=O;(.obtain rfl:b=[]:=aL K;(go_in);go_wp2;(go_loop [3] (λC=>C=ar 0) (λ_=>0));(case atStart=>rfl);(case round=>obtain rfl:=hrel;go_wp2;go_ret;exact⟨rfl,rfl⟩))
 .have r:=U x;clear x L;by_cases w:8<y b
  .have s:=U (show ga b=2 by unfold ga;rw[dH w]);go_in
   go_wp2;go_ret;exact⟨by rw[J s];rfl,rfl⟩
  .have s:=U (show ga b=mJ b by unfold ga;rw[dF w]);go_in
   go_wp2;go_loop [3] (λC=>∃n:M,n<=y b/\C=ar n/\ga b=mJ (b.drop n)) (λC=>y b-(intOf C).toNat)
   case atStart=>exact⟨0,bP _,rfl,s⟩
   case round=>
    obtain⟨n,S,rfl,A⟩:=hrel;have p:=U A;clear A;by_cases f:n<y b
    .have q:=lE b n f;have k:aW a (R E<|c+n*3)=H (am b[n].key):=r _ _ q.1;have l:aW a (R E<|c+n*3+1)=H (am b[n].val):=by rw[bw];exact r _ _ q.2.1
     have m:aW a (R E<|c+n*3+2)=H (aN b[n].del):=by rw[bw];exact r _ _ q.2.2
     clear q;by_cases e:b[n].key.size=0\/8<b[n].key.size
     .have j:=U<|p.trans<|De f e;generalize b[n]=D at*;obtain⟨i,v,u⟩:=D;simp only at k l m e;rcases e with e|e
      .have o:((i.size:X)==0)=ci:=by simp[e]
       go_wp2;go_ret;exact⟨by rw[J j];rfl,rfl⟩
      .have o:((i.size:X)==0)=aX:=kE.2 (by omega);go_wp2;go_ret;exact⟨by rw[J j];rfl,rfl⟩
     .by_cases g:b[n].del=aX/\16<b[n].val.size
      .have j:=U<|p.trans<|Dd f e g;generalize b[n]=D at*;obtain⟨i,v,u⟩:=D;simp only at k l m e g;obtain⟨rfl,B⟩:=g;have o:((i.size:X)==0)=aX:=kE.2 (by omega);have t:¬8<i.size:=by omega
       clear e;go_wp2;go_ret;exact⟨by rw[J j];rfl,rfl⟩
      .have j:=U<|p.trans<|Fz f e g;generalize b[n]=D at*;obtain⟨i,v,u⟩:=D;simp only at k l m e g;have o:((i.size:X)==0)=aX:=kE.2 (by omega);have t:¬8<i.size:=by omega
       clear e;cases u with
       |true=>
        clear g;go_wp2;go_round
        case rel=>exact⟨n+1,by omega,by go_num,j⟩
        case measure=>simp[intOf];omega
       |false=>
        have B:¬16<v.size:=by simpa using g
        clear g;go_wp2;go_round
        case rel=>exact⟨n+1,by omega,by go_num,j⟩
        case measure=>simp[intOf];omega
    .have e:b.drop n=[]:=by simp;omega
     go_wp2;go_ret;exact⟨by rw[J p,e];rfl,rfl⟩
def Fa(c b:ae)(a:X)(n:M)(p:KV):Bool:=Nr p.1 c&&((b.toList==[])||Op.bytesLess p.1.toList b.toList)&&(decide (a<=0)||decide ((n:X)<a))
def mL(d c:ae)(a:X)(b:kD)(p:KV):kD:=if Fa d c a (y b) p then b++[p]else b
def Py(l:kD)(c b:ae)(a:X):kD:=l.foldl (mL c b a) []
def Row.shape(i:Row a b d c B):d=az\/∃g e f,d=bD g e c f:=by
 rcases i.2 with⟨h,_⟩|⟨g,e,f,h,_⟩;exact .inl h;grind
def Row.grown{w w':Y}{e:Option M}(i:Row w b d c B)(m:w.grownBy w' e)(h:cK d≠e\/cK d=none):Row w' b d c B:=by
 obtain⟨j,k⟩:=i;refine⟨j,?_⟩;rcases k with⟨rfl,p⟩|⟨o,a,f,rfl,g,l⟩;grind
 refine .inr ⟨o,a,f,rfl,g,λq u n=>m.cell (l q u n) ?_⟩;rcases h with i|i;exact i;simp[cK]at i
def AY(l:kD)(k:ae):ae×Bool×X:=if k.size=0\/8<k.size then(⟨#[]⟩,aX,3)else((oO l k).1,(oO l k).2,0)
structure Z(S:eV)(w w':Y):Prop where
 os:w'.os=w.os
 tape:w'.tape=w.tape
 output:w'.output=w.output
 size:z (G w)<=z (G w')
 block:∀k,k<z (G w)->¬S k->w'.heap[k]?=w.heap[k]?
theorem Z.refl(S:eV)(w:Y):Z S w w:=⟨rfl,rfl,rfl,ah _,λ_ _ _=>rfl⟩
def Z.trans{S T:eV}{c b e:Y}(h:Z S c b)(k:Z T b e)(g:∀x,T x->S x\/z (G c)<=x):Z S c e:=⟨k.os.trans h.os,k.tape.trans h.tape,k.output.trans h.output,aC h.size k.size,λi a d=>(k.block i (ag a h.size) (λj=>by
 grind)).trans (h.block i a d)⟩
def Z.cz{S:eV}{a b c:Y}(h:Z S a b)(k:Z ay b c):Z S a c:=h.trans k cL
def Z.mono{S T:eV}{a b:Y}(h:Z S a b)(d:∀x,S x->T x\/z (G a)<=x):Z T a b:=⟨h.os,h.tape,h.output,h.size,λi c e=>h.block i c (λg=>by
 grind)⟩
def Z.ee{S:eV}{b:Option M}(h:a.grownBy A b)(e:∀k,b=H k->S k\/z (G a)<=k):Z S a A:=⟨h.os,h.tape,h.output,h.size,λi c d=>h.block i c (λg=>by
 grind)⟩
def Z.aR{S:eV}(h:Below (z<|G a) a A):Z S a A:=⟨h.os,h.tape,h.output,h.size,λi b _=>h.block i b⟩
def Z.below{S:eV}{B:M}(h:Z S a f)(b:B<=z (G a))(c:∀k,S k->B<=k):Below B a f:=⟨h.os,h.tape,h.output,h.size,λk d=>h.block k (ag d b) (λe=>by have:=c k e;omega)⟩
def Z.cell{S:eV}{a b:Y}(h:Z S a b){k i:M}(c:aW a (R k i)=H d)(g:¬S k)(e:k<z (G a)):aW b (R k i)=H d:=(dt (w:=a)<|h.block k e g).trans c
def Z.alloc{S:eV}(h:Z S a A)(o:Obj):Z S a (A.alloc o):=h.trans (Z.ee (S:=ay) (dD A o none)<|by simp)<|by simp
def fA(h:a.grownBy A (H b)):Z (λk=>k=b) a A:=Z.ee h<|by grind
def Z.setCell{S:eV}(h:Z S a f)(k i:M)(u:ab)(b:S k\/z (G a)<=k):Z S a (f.setCell (R k i) u):=h.trans (Z.ee (S:=λx=>x=k) (dN f k i u)<|by grind)<|by grind
def cF(S:eV)(w:Y){o:Obj}:Z S w (cN w o):=(Z.refl S w).alloc o
def gZ(b:M)(w:Y){i:M}{u:ab}:Z (λk=>k=b) w (cq w (R b i) u):=(Z.refl _ w).setCell b i u<|.inl rfl
def Z.own{t b:Y}(v:Z p t b)(r:t.ownsRow c g m d D B)(o:∀u,cK d=H u->¬p u):b.ownsRow c g m d D B:=by
 obtain⟨k,l⟩:=r;refine⟨k,?_⟩;rcases l with⟨rfl,w⟩|⟨j,a,e,rfl,n,h,s⟩;grind
 exact .inr ⟨j,a,e,rfl,n,(v.block j (ak h)<|o j rfl).trans h,s⟩
def Z.row(r:Z p a f)(o:Row a b d c B)(i:∀q,cK d=H q->¬p q/\q<z (G a)):Row f b d c B:=by
 obtain⟨l,m⟩:=o;refine⟨l,?_⟩;rcases m with⟨rfl,s⟩|⟨k,e,g,rfl,h,n⟩;grind
 exact .inr ⟨k,e,g,rfl,h,λj u l=>r.cell (n j u l) (i k rfl).1 (i k rfl).2⟩
def aB(j:a.ownsRow c g m d D B):∃x i,d=.slice x D i:=by
 rcases j.2 with⟨rfl,rfl⟩|⟨k,e,h,rfl,_⟩;grind
 grind
def bY(i:Row a c d g B):∃x h,d=.slice x g h:=by
 rcases i.2 with⟨rfl,rfl⟩|⟨b,e,f,rfl,_⟩;grind
 grind
theorem fE(i:a.ownsRow b c g d m B){k:M}(f:cK d=H k):∃e,a.heap[k]?=H (.cells e c (0,0)):=by
 rcases i.2 with⟨rfl,_⟩|⟨l,h,e,rfl,_,j,_⟩;cases f;cases f;grind
def zM(i:a.ownsRow b c g d m B){e:M×M}(h:a.heap[D]?=H (.cells V S e))(f:S≠c):cK d≠H D:=by
 grind[fE]
def xw(l:kD):Prop:=l.Pairwise<|λa b=>ja a.1 b.1=ci
theorem AZ(a k:ae):Nr a k=!ja a k:=rfl
def Ec(k v:ae)(l a:kD):l.foldl (fN k v) (a,ci)=(a++l.filter (λp=>!decide (p.1=k)),ci):=by
 induction l generalizing a with
 |nil=>simp
 |cons p r b=>
  rw[iF];by_cases h:p.1=k
  .have:fN k v (a,ci) p=(a,ci):=by simp[fN,h]
   rw[this,b];simp[h]
  .have:fN k v (a,ci) p=(a++[p],ci):=by simp[fN,h]
   rw[this,b];simp[h]
def Ro(k v:ae){l:kD}(a:kD)(o:xw l):l.foldl (fN k v) (a,aX)=if l.all (λp=>ja p.1 k)then(a++l,aX)else(a++l.filter (λp=>ja p.1 k)++[(k,v)]++l.filter (λp=>ja k p.1),ci):=by
 induction l generalizing a with
 |nil=>simp
 |cons p r m=>
  obtain⟨g,h⟩:=bB.1 o;rw[iF];cases c:ja p.1 k with
  |true=>
   have b:=oF c;have f:Nr p.1 k=aX:=by rw[AZ,c];rfl
   have:fN k v (a,aX) p=(a++[p],aX):=by simp[fN,b,f]
   rw[this,m _ h];simp only[List.all_cons,c,Bool.true_and];grind[filter_cons_of_pos,filter_cons_of_neg,lu]
  |false=>
   have f:Nr p.1 k=ci:=by rw[AZ,c];rfl
   have d:∀q∈r,ja k q.1=ci:=λq b=>ym c<|g q b;have i:r.filter (λp=>ja p.1 k)=[]:=gS.2 (λq b=>by simp[lu<|d q b]);have j:r.filter (λp=>ja k p.1)=r:=gm.2<|λq b=>d q b;have e:r.filter (λp=>!decide (p.1=k))=r:=gm.2 (λq b=>by have:=oF<|d q b;grind);by_cases n:p.1=k
   .have:fN k v (a,aX) p=(a++[(k,v)],ci):=by
     unfold fN;grind
    rw[this,Ec,e];grind
   .have:fN k v (a,aX) p=(a++[(k,v)]++[p],ci):=by simp[fN,f,n]
    have s:ja k p.1=ci:=by
     grind[ot]
    rw[this,Ec,e];grind
def PP{l:kD}(n:xw l)(k v:ae)(f:Bool):ug l k v f=l.filter (λp=>ja p.1 k)++(if f then []else [(k,v)])++l.filter (λp=>ja k p.1):=by
 have j:l.filter (λp=>!decide (p.1=k))=l.filter (λp=>ja p.1 k)++l.filter (λp=>ja k p.1):=by
  clear v f;induction l with
  |nil=>rfl
  |cons p r m=>
   obtain⟨h,i⟩:=bB.1 n;cases e:ja p.1 k with
   |true=>
    rw[ir (by simp[oF e]),ir (by simp[e]),ft (by simp[lu e]),m i];rfl
   |false=>
    have d:∀q∈r,ja k q.1=ci:=λq a=>ym e<|h q a;have b:r.filter (λp=>ja p.1 k)=[]:=gS.2 (λq a=>by simp[lu<|d q a]);have c:r.filter (λp=>ja k p.1)=r:=gm.2<|λq a=>d q a;have g:r.filter (λp=>!decide (p.1=k))=r:=gm.2 (λq a=>by have:=oF<|d q a;grind);by_cases f:p.1=k
    .rw[ft (by simp[f]),ft (by simp[e]),ft (by rw[f,fO];simp),b,c,g];rfl
    grind[ot,filter_cons_of_pos,filter_cons_of_neg]
 unfold ug oM;cases f with
 |true=>
  rw[Ec];grind
 |false=>
  rw[Ro k v [] n];by_cases e:l.all (λp=>ja p.1 k)=ci
  .rw[dH e];rw[qI]at e;have b:l.filter (λp=>ja p.1 k)=l:=gm.2 e;have c:l.filter (λp=>ja k p.1)=[]:=gS.2 (λq a=>by simp[lu<|e q a]);rw[b,c];simp
  grind
def Uw{l:kD}(h:xw l)(k v:ae)(d:Bool):xw (ug l k v d):=by
 rw[PP h];refine bQ.2 ⟨bQ.2 ⟨kZ eW h,?_,?_⟩,kZ eW h,?_⟩;cases d<;>simp;grind
 grind[lq]
def Vj{l:kD}(h:xw l){v:ae}{p:KV}:p∈ug l t v P↔(p.1≠t/\p∈l)\/(P=aX/\p=(t,v)):=by
 rw[PP h];simp only[aG,dL];constructor;rintro((⟨a,b⟩|a)|⟨a,b⟩);exact .inl ⟨oF b,a⟩;(grind);exact .inl ⟨λe=>oF b e.symm,a⟩;grind[ot]
def xw.ext{l m:kD}(i:xw l)(k:xw m)(e:∀x,x∈l↔x∈m):l=m:=by
 induction l generalizing m with
 |nil=>
  cases m with
  |nil=>rfl
  |cons a r=>exact absurd ((e a).2<|by simp)<|by simp
 |cons x r f=>
  cases m with
  |nil=>exact absurd ((e x).1<|by simp)<|by simp
  |cons a s=>
   obtain⟨j,c⟩:=bB.1 i;obtain⟨n,g⟩:=bB.1 k;have b:x=a:=by
    rcases bJ.1 ((e x).1<|by simp)with p|p
    .exact p
    .rcases bJ.1 ((e a).2<|by simp)with q|q
     .exact q.symm
     grind[lu]
   subst b;congr 1;refine f c g<|λh=>⟨λd=>?_,λd=>?_⟩
   .grind[mem_cons_of_mem,fO]
   grind[mem_cons_of_mem,fO]
def wN(a:dS)(l:kD):Prop:=xw l/\∀k v,(k,v)∈l↔seen a k=H v
def wN.congr{a:dS}{b:kD}(h:wN l b)(e:∀k,seen a k=seen l k):wN a b:=⟨h.1,λk v=>by rw[e k];exact h.2 k v⟩
def Wv{rest:dS}{l:kD}(c:xx e)(h:wN (e::rest) l)(b:E):wN (tK e b::rest) (ug l b.key b.val b.del):=by
 refine⟨Uw h.1 _ _ _,λk v=>?_⟩;rw[Vj h.1];simp only;have a:seen (tK e b::rest) k=if k=b.key then(if b.del then none else H b.val)else seen (e::rest) k:=by unfold seen;rw[qj,qj,MA c];grind
 rw[a,h.2 k v];by_cases d:k=b.key;rw[dH d];grind
 grind
def TD{c:kD}(h:wN l c)(k:ae):oO c k=match seen l k with|some v=>(v,ci)|none=>(⟨#[]⟩,aX):=by
 have a:∀m:kD,(∀p∈m,p∈c)->(∀v,seen l k=H v->(k,v)∈m)->oO m k=match seen l k with|some v=>(v,ci)|none=>(⟨#[]⟩,aX):=by
  intro m;induction m with
  |nil=>
   intro _ d;cases hs:seen l k with
   |none=>rfl
   |some v=>grind
  |cons p r f=>
   intro e d;unfold oO;split
   .rename_i b;have:seen l k=H p.2:=(h.2 k p.2).1 (by rw[<-b];grind);rw[this]
   grind
 exact a c (λp b=>b)<|λv d=>(h.2 k v).2 d
def ze(e:E):KV:=(e.key,e.val)
def TC{q:kD}(o:wN l q)(j:∀k i,sa l k=H i->i.key=k)(h:ae)(m:xx e)(g:∀x,x∈e↔sa l x.key=H x/\ja x.key h=aX):(e.filter<|λi=>!i.del).map ze=q.filter (λp=>Nr p.1 h):=by
 refine xw.ext ?_ (kZ eW o.1)<|λp=>?_;unfold xw;rw[ki];exact m.sub eW
 .obtain⟨k,v⟩:=p;simp only[bR,dL,AZ];rw[o.2 k v];constructor
  .rintro⟨x,⟨n,b⟩,c⟩;obtain⟨a,d⟩:=(g x).1 n;simp only[ze,ib]at c;obtain⟨rfl,rfl⟩:=c;have f:x.del=aX:=by simpa using b
   exact⟨by simp[seen,a,f],by simp[d]⟩
  .rintro⟨a,d⟩;unfold seen at a;cases hh:sa l k with
   |none=>rw[hh]at a;cases a
   |some x=>
    rw[hh]at a;simp only[Option.bind_some]at a;have c:=j k x hh;cases b:x.del with
    |true=>rw[b]at a;cases a
    |false=>
     rw[b]at a;refine⟨x,⟨(g x).2 ⟨by rw[c];exact hh,by rw[c];simpa using d⟩,by simp[b]⟩,?_⟩;simp only[ze,ib];grind
def Cg(c:ae)(a:X):kD->kD->kD
 |b,[]=>b
 |b,p::r=>if(!(c.toList==[])&&!ja p.1 c)=ci then b else if((y b:X)+1==a)=ci then b++[p]else Cg c a (b++[p]) r
theorem WG{b:ae}{a r:kD}(h:0<k)(d:k<=y a):r.foldl (mL t b k) a=a:=by
 induction r with
 |nil=>rfl
 |cons p r c=>
  rw[iF];have:mL t b k a p=a:=by
   unfold mL Fa;grind
  rw[this,c]
theorem ZR{b:ae}{a r:kD}(e:(b.toList==[])=aX)(c:∀p∈r,ja p.1 b=aX):r.foldl (mL t b k) a=a:=by
 induction r with
 |nil=>rfl
 |cons p r f=>
  rw[iF];have:mL t b k a p=a:=by
   unfold mL Fa;have d:Op.bytesLess p.1.toList b.toList=aX:=c p (by simp);rw[e,d];simp
  rw[this,f<|λp a=>c p<|by simp[a]]
def Yp{b:ae}{m a:kD}(o:xw m)(g:∀p∈m,ja p.1 t=aX)(j:k<=0\/(y a:X)<k):Cg b k a m=m.foldl (mL t b k) a:=by
 induction m generalizing a with
 |nil=>rfl
 |cons p u r=>
  obtain⟨s,h⟩:=bB.1 o;have l:Nr p.1 t=ci:=by rw[AZ,g p<|by simp];rfl
  have c:(decide (k<=0)||decide ((y a:X)<k))=ci:=by simpa using j
  unfold Cg;split
  .grind[ZR,lq]
  .rename_i f;have e:mL t b k a p=a++[p]:=by
    unfold mL Fa;rw[l,c];have:((b.toList==[])||Op.bytesLess p.1.toList b.toList)=ci:=by
     cases d:(b.toList==[])with
     |true=>rfl
     |false=>
      rw[d]at f;show(aX||ja p.1 b)=ci;simpa using f
    rw[this];rfl
   rw[iF,e];split
   .grind[WG]
   .rename_i i;refine r h (λq n=>g q<|by simp[n]) ?_;grind
def WH(l:kD)(d e:ae)(a:X):Py l d e a=(l.filter<|λp=>Nr p.1 d).foldl (mL d e a) []:=by
 unfold Py;generalize([]:kD)=b;induction l generalizing b with
 |nil=>rfl
 |cons p r f=>
  cases c:Nr p.1 d with
  |true=>rw[ir (by simp[c]),iF,iF,f]
  |false=>
   have:mL d e a b p=b:=by unfold mL Fa;rw[c];simp
   rw[ft (by simp[c]),iF,this,f]
def Ps{i:kD}(j:wN l i)(g:∀k c,sa l k=H c->c.key=k)(b d:ae)(a:X)(f:xx e)(h:∀x,x∈e↔sa l x.key=H x/\ja x.key b=aX):Cg d a [] ((e.filter<|λc=>!c.del).map ze)=Py i b d a:=by
 have c:=TC j g b f h;rw[WH,<-c];refine Yp ?_ ?_ ?_;unfold xw;rw[ki];exact f.sub eW;grind[AZ]
 grind
def XM(n:X)(w:Y):cY aZ 45 #[ar n] w λe a=>e=aM (ar n)/\a=w:=by
 go_in
 go_wp2;go_ret;simp_all
def Ii(w:Y)(a b:M):(w.drewN a).drewN b=w.drewN (a+b):=by simp_all
def QV{l m:kD}(a:b<y l)(c:b<y m)(h:l.take b=m.take b)(e:l[b]=m[b]):l.take (b+1)=m.take (b+1):=by
 rw[ai a,ai c,h,e]
def uU{l m:kD}(hx:rU a d l)(C:rU a s m)(hl:y l<=1000000000000)(hm:y m<=1000000000000):cY aZ 39 #[d,s] a λad w'=>ad=aM (aN<|decide<|l=m)/\∃x,w'=a.drewN x:=by
 by_cases e:y l=y m;(.obtain⟨E,⟨rfl,B⟩|⟨ac,b,D,rfl,al,K⟩⟩:=hx;(.obtain rfl:l=[]:=aL B;obtain rfl:m=[]:=aL (by grind);have f:=C.shape;clear C;rcases f with rfl|⟨A,c,g,rfl⟩;(all_goals(go_in);go_wp2;(go_loopw [5] (λV wr=>V=ar 0/\∃x,wr=a.drewN x) (λ_ _=>0));(case atStart=>exact⟨rfl,0,rfl⟩);(case round=>obtain⟨rfl,x,rfl⟩:=hrel;go_wp2;go_ret;exact⟨rfl,x,rfl⟩)));(.obtain⟨F,⟨rfl,B⟩|⟨A,c,g,rfl,aa,t⟩⟩:=C;(.obtain rfl:m=[]:=aL B;obtain rfl:l=[]:=aL (by grind);clear K;(go_in);go_wp2;(go_loopw [5] (λV wr=>V=ar 0/\∃x,wr=a.drewN x) (λ_ _=>0));(case atStart=>exact⟨rfl,0,rfl⟩);(case round=>obtain⟨rfl,x,rfl⟩:=hrel;go_wp2;go_ret;exact⟨rfl,x,rfl⟩));(.have HC:=U K;have r:=U t;(have o:((y l:X)!=(y m:X))=aX:=by simp[e]);have f:=U e;clear K t E F e;(go_in);go_wp2;(go_loopw [5] (λV wr=>∃n:M,n<=y l/\V=ar n/\l.take n=m.take n/\∃x,wr=a.drewN x) (λV _=>y l-(intOf V).toNat));(case atStart=>exact⟨0,bP _,rfl,rfl,0,rfl⟩);(case round=>obtain⟨n,hn,rfl,ht,kk,rfl⟩:=hrel;have HT:=U ht;clear ht;by_cases u:n<y l;(·(have i:n<y m:=by have:=J f;omega);have L:=qh l n u;have k:=qh m n i;have O:aW a (R ac<|b+n*2)=H (am l[n].1):=HC _ _ L.1;(have P:aW a (R ac<|b+n*2+1)=H (am l[n].2):=by rw[bw];exact HC _ _ L.2);have Q:aW a (R A<|c+n*2)=H (am m[n].1):=r _ _ k.1;(have S:aW a (R A<|c+n*2+1)=H (am m[n].2):=by rw[bw];exact r _ _ k.2);clear L k;(have v:l[n]≠m[n]->decide (l=m)=aX:=λh=>by grind);have HN:=U v;have HY:=U<|λad=>QV u i HT ad;clear v;generalize l[n]=an at*;generalize m[n]=q at*;obtain⟨W,pv⟩:=an;obtain⟨qk,qv⟩:=q;simp only at O P Q S;by_cases p:W=qk;(·(have N:(!W.toList==qk.toList)=aX:=by rw[p];simp);by_cases w:pv=qv;(·(have T:(pv.toList==qv.toList)=ci:=by rw[w];simp);have j:=U (HY<|by rw[p,w]);clear p w;(go_wp2_with fail);(go_quiet(fail));go_wp2;go_roundw;(case rel=>exact⟨n+1,by omega,by go_num,j,by grind⟩);case measure=>simp[intOf];omega);have T:(pv.toList==qv.toList)=aX:=zP w;have j:=U (HN<|by grind);clear p w;(go_wp2_with fail);(go_quiet(fail));go_wp2;go_ret;exact⟨by rw[J j];rfl,by first|exact⟨_,rfl⟩|exact⟨_,Ii _ _ _⟩⟩);(have N:(!W.toList==qk.toList)=ci:=by rw[zP p];rfl);have j:=U (HN<|by grind);clear p;(go_wp2_with fail);(go_quiet(fail));go_wp2;go_ret;exact⟨by rw[J j];rfl,by first|exact⟨_,rfl⟩|exact⟨_,Ii _ _ _⟩⟩);have j:=U (show decide (l=m)=ci by have E:l.take n=l:=eT (by omega);have i:m.take n=m:=eT (by have:=J f;omega);have:=J HT;rw[E,i]at this;grind);go_wp2;go_ret;exact⟨by rw[J j];rfl,by grind⟩))));(have f:decide (l=m)=aX:=by grind);rw[f];clear f;obtain⟨_,⟨rfl,B⟩|⟨ac,b,D,rfl,_,_⟩⟩:=hx<;>obtain⟨_,⟨rfl,i⟩|⟨A,c,g,rfl,_,_⟩⟩:=C;omega;(·(have o:((0:X)!=(y m:X))=ci:=by rw[zw];omega);(go_in);go_wp2;go_ret;exact⟨rfl,0,rfl⟩);(·(have o:((y l:X)!=(0:X))=ci:=by rw[zw];omega);(go_in);go_wp2;go_ret;exact⟨rfl,0,rfl⟩);(have o:((y l:X)!=(y m:X))=ci:=by rw[zw];omega);(go_in);go_wp2;go_ret;exact⟨rfl,0,rfl⟩
def GY(a k:X)(b:0<k)(c:k<=100):0<=wrap64 ((IntKind.u64.wrap a).tmod k)/\wrap64 ((IntKind.u64.wrap a).tmod k)<k:=by
 rw[gH,Int.tmod_eq_emod_of_nonneg<|Int.emod_nonneg _<|by decide];have d:=Int.emod_nonneg (a%18446744073709551616) (show k≠0 by omega);have f:=Int.emod_lt_of_pos (a%18446744073709551616) b;generalize a%18446744073709551616%k=x at*;have e:wrap64 x=x:=by unfold wrap64;omega
 rw[e];grind
def uy{P:Program}{k:Array Oper}{s:Oper}{u:Act}{aa:Act->Y->Prop}{ao:Exit->Act->Y->Prop}{E:Prop}(Q:s.guard=none)(al an:Operand)(B:TypeId)(p:s.op=Op.call {callee:=Callee.builtin Builtin.append,args:=#[al,an],argTypes:=#[B,B]})(b:M)(w:TypeId)(x:TypeInfo)(i:ab)(c bytes:M)(ht:P.underlying B=H (.slice w))(S:P.info? w=H x)(hz:x.zero=H i)(h:x.size=c)(o:x.bytes=bytes)(r:i.cells.size=c)(q:0<c)(D:ab)(A:M)(t:gW)(W:u.eval al=D)(j:a.ownsRow b w c D A t)(n:Addr)(v ac:M)(d:gW)(hx:u.eval an=I (H n) v ac)(T:y d=v*c)(g:∀ad C,d[ad]?=H C->aW a (n.add ad)=H C)(F:∀C∈d,C.oneCell'=ci)(hn:A+v<=140737488355328)(e:(A+v)*bytes<=140737488355328)(f:b<=z (G a))(O:∀l m,m.ownsRow b w c l (A+v) (t++d)->eE a m D l->aa (u.put s.dst l) m):if Region.wanted s (yielded k u.tmps)=ci then Oper.wp P s u a aa ao else E:=by
 have hw:Region.wanted s (yielded k u.tmps)=ci:=by simp[Region.wanted,Q]
 rw[dH hw];obtain⟨l,m,V,K,L,_,N⟩:=nj (P:=P) a b B s.type w x i c bytes ht S hz h o r q D A t j n v ac d T g F (by unfold maxLen;omega) e f;unfold Oper.wp;simp[execOp,p,resolve,invoke,builtin,W,hx,V,Result.andThen];exact O l m K<|eE.of L N
def OQ:(prog.info? 178).map (λi=>(i.zero,i.size,i.bytes))=H (H<|dC #[am ⟨#[]⟩,am ⟨#[]⟩,aN aX],3,40):=by kernel_rfl
def Nk(w:Y)(a:M)(o:ab)(l:oa):Prop:=w.ownsRow a 178 3 o (y l)<|gI l
def FA(w:Y)(x a b:ab)(t:TypeId):∀j u,[x,a,b][j]?=H u->aW (cN w<|aw #[x,a,b] t) (((R (z<|G w) 0):Addr).add j)=H u:=by
 intro j u c;rw[dB];simp_all
def Ku(l:oa)(A b p:M)(w:Y)(W:y l<=1000000000000)(q:A<z (G w))(B:∀Q S,(gI l)[Q]?=H S->aW w (R A<|b+Q)=H S):cY aZ 41 #[bD A b (y l) p] w λV D=>∃C,V=aM C/\Nk D (z<|G w) C l/\Below (z<|G w) w D:=by
 obtain⟨P,r,u,v,x⟩:=di OQ;have k:=U B;clear B;go_in
 go_wp2;go_loopw [3,4] (λo i wr=>∃n:M,n<=y l/\i=ar n/\Nk wr (z<|G w) o (l.take n)/\Below (z<|G w) w wr) (λ_ i _=>y l-(intOf i).toNat)
 case atStart=>exact⟨0,bP _,rfl,cO _ _ _ _,Below.refl _ _⟩
 (case round=>obtain⟨n,K,rfl,c,a⟩:=hrel;have t:z (G w)<=z (G wr):=a.size;by_cases g:n<y l;(.have j:=lE l n g;have L:aW wr (R A<|b+n*3)=H (am l[n].key):=(a.cell<|by exact q).trans<|k _ _ j.1;have N:aW wr (R A<|b+n*3+1)=H (am l[n].val):=(a.cell<|by exact q).trans (by rw[bw];exact k _ _ j.2.1);have O:aW wr (R A<|b+n*3+2)=H (aN l[n].del):=(a.cell<|by exact q).trans (by rw[bw];exact k _ _ j.2.2);clear j;(have d:wr.ownsRow (z<|G w) 178 3 u3 n (gI<|l.take n):=by have F:wr.ownsRow (z<|G w) 178 3 u3 (y<|l.take n) (gI<|l.take n):=c;rwa[dO,wO K]at F);obtain⟨aa,T,s⟩:=aB d;subst s;have i:=U d;have E:=U (show gI (l.take<|n+1)=gI (l.take n)++[am l[n].key,am l[n].val,aN l[n].del]by unfold gI;rw[ai g,fG];simp[rS]);clear d;have HB:=U a;clear c a;go_wp2;(go_region_law (refine uy rfl (.tmp 11) (.tmp 28) 112 rfl (z<|G w) 178 P (dC #[am ⟨#[]⟩,am ⟨#[]⟩,aN aX]) 3 40 underlying112 r u v x rfl (by decide) (I aa n T) n (gI<|l.take n) (by simp[Act.eval]) (ke (aT i<|aw #[am l[n].key,am l[n].val,aN l[n].del] 178) rfl) (R (z<|G wr) 0) 1 1 [am l[n].key,am l[n].val,aN l[n].del] (by simp[Act.eval]) rfl (FA _ _ _ _ _) (by simp[Value.oneCell']) (by omega) (by omega) (by simp;omega) ?_;intro v2 w2 e f;obtain⟨x2,c2,rfl⟩:=aB e;have m:=U e;have o:=U f;clear e f));go_wp2;(all_goals go_roundw;(case rel=>exact⟨n+1,by omega,by go_num,by unfold Nk;rw[dO,wO (by omega),J E];exact m,mu HB t o (aw #[am l[n].key,am l[n].val,aN l[n].del] 178) rfl<|λb a=>(bM i b a).1⟩);case measure=>simp[intOf];omega));(have d:n=y l:=by omega);subst d;rw[bI]at c;have i:=U c;have HB:=U a;clear c a;go_wp2;go_ret;exact⟨_,rfl,i,HB⟩)
theorem Nz(w:Y):cY aZ 41 #[az] w λe b=>∃a,e=aM a/\Nk b (z<|G w) a []/\Below (z<|G w) w b:=by
 go_in
 go_wp2;go_loopw [3,4] (λo i wr=>i=ar 0/\o=az/\wr=w) (λ_ _ _=>0)
 case atStart=>grind
 (case round=>obtain⟨rfl,rfl,rfl⟩:=hrel;go_wp2;go_ret;exact⟨_,rfl,cO _ _ _ _,Below.refl _ _⟩)
def NA(l:oa)(v:ab)(w:Y)(g:y l<=1000000000000)(h:Gv w v l)(e:∀k,cK v=H k->k<z (G w)):cY aZ 41 #[v] w λj d=>∃c,j=aM c/\Nk d (z<|G w) c l/\Below (z<|G w) w d:=by
 obtain⟨_,⟨rfl,m⟩|⟨i,a,b,rfl,_,f⟩⟩:=h;grind[eq_nil_of_length_eq_zero,Nz]
 exact Ku l i a b w g (e i rfl) f
theorem dW:(∀(l:gW)(i:M)(x:ab),l.toArray.setIfInBounds i x=(l.set i x).toArray)/\(∀(x a:ab)(l:gW),(x::l).set 0 a=a::l)/\∀(x a:ab)(l:gW)(n:M),(x::l).set (n+1) a=x::l.set n a:=⟨λ_ _ _=>by simp,λ_ _ _=>rfl,λ_ _ _ _=>rfl⟩
theorem iS:(∀(l:gW)(i:M)(h:i<l.toArray.size),l.toArray[i]=l[i]'(by simpa using h))/\(∀(x:ab)(l:gW)(i:M)(h:i+1<y (x::l)),(x::l)[i+1]=l[i]'(by simpa using h))/\∀(x:ab)(l:gW)(h:0<y (x::l)),(x::l)[0]=x:=⟨λ_ _ _=>rfl,λ_ _ _ _=>rfl,λ_ _ _=>rfl⟩
section
variable{P:Program}{ops:Array Oper}{Q:Exit->Act->Y->Prop}{md:Region.Mode}{S:Y->Prop}
def kV(P:Program)(md:Region.Mode)(ops:Array Oper)(Q:Exit->Act->Y->Prop)(S:Y->Prop)(m:M):M->Array Bool->Act->Y->Prop
 |0,a,c,w=>Region.ready md ops a=[]/\Q .normal c w
 |fuel+1,a,c,w=>
  (Region.ready md ops a=[]->Q .normal c w)/\∀i∈Region.ready md ops a,wpOp P ops Q i (λd b=>(i≠m->S b)/\kV P md ops Q S m fuel (a.setIfInBounds i ci) d b) c w
theorem re{m:M}:∀(a:M)(b:Array Bool)(g:Act)(w:Y),kV P md ops Q S m a b g w->wpAny P md ops Q a b g w
 |0,_,_,_,h=>h
 |a+1,_,_,_,h=>⟨h.1,λi e=>yE (λc f d=>re a _ c f d.2)<|h.2 i e⟩
theorem Iz{m K:M}{i F:Oper}{ac:ab}(B:ops[m]?=H i)(hm:ops[K]?=H F)(W:∃l∈F.after,Region.binds md l=ci/\l.on=m)(f:∀(j:M)(al:Oper)n E,ops[j]?=H al->al.op≠ .select n E)(N:∀ad v w,Q (.panic ad) (v.put i.dst ac) w->Q (.panic ad) v w):∀(b:M)(a:Array Bool)(v:Act)(w:Y),(∀j k,ops[j]?=H k->j≠m->a.getD j ci=aX->(∀l∈k.after,Region.binds md l=ci->l.on≠m)->i.apart ops k=ci)->m∈Region.ready md ops a->YieldsIf P ops S i ac v->S w->kV P md ops Q S K b (a.setIfInBounds m ci) (v.put i.dst ac) w->kV P md ops Q S K (b+1) a v w:=by
 intro b;induction b with
 |zero=>
  intro a v w _ h u o d;refine⟨λL=>(by rw[L]at h;cases h),λj t=>?_⟩;by_cases c:j=m
  .subst c;exact u.wpOp B o ⟨λ_=>o,d⟩
  .have:=td t c;rw[d.1]at this;cases this
 |succ b ih=>
  intro a v w e h u o d;refine⟨λL=>(by rw[L]at h;cases h),λj t=>?_⟩;by_cases c:j=m
  .subst c;exact u.wpOp B o ⟨λ_=>o,d⟩
  .have x:=d.2 j<|td t c;obtain⟨q,k,g,p⟩:=yF.1 t;have r:∀l∈k.after,Region.binds md l=ci->l.on≠m:=λl D C A=>by
    have x:=p l D C;have O:=(yF.1 h).1;rw[A]at x;grind
   have h2:=wpOp_putIf g (e j k g c q r) (λn E=>f m i n E B) (λn E=>f j k n E g) N u x;have s:∀D ok,ops[D]?=H ok->D≠m->(a.setIfInBounds j ci).getD D ci=aX->(∀l∈ok.after,Region.binds md l=ci->l.on≠m)->i.apart ops ok=ci:=λD ok V A b C=>by
    refine e D ok V A ?_ C;by_cases O:j=D
    .grind
    simp_all
   have aa:=td h<|Ne.symm c;have T:j≠K:=λl=>by
    grind
   grind[wpOp_mono,Array.setIfInBounds_comm]
theorem lz{i q:M}{c g:Oper}{v:ab}{b:M}{a:Array Bool}{d:Act}{w:Y}(e:ops[i]?=H c)(l:ops[q]?=H g)(m:(g.after.any λs=>Region.binds md s&&s.on==i)=ci)(o:Region.noSelect ops=ci)(k:Region.free md ops a i=ci)(n:(Region.ready md ops a).contains i=ci)(h:∀r d w,Q (.panic r) (d.put c.dst v) w->Q (.panic r) d w)(p:YieldsIf P ops S c v d)(j:S w)(t:kV P md ops Q S q b (a.setIfInBounds i ci) (d.put c.dst v) w):kV P md ops Q S q (b+1) a d w:=Iz e l (by
 grind) (Region.noSelect_spec o) h b a d w (Region.free_spec e k) (by simpa using n) p j t
theorem bj{i m:M}{o:Oper}{b:M}{a:Array Bool}{h:Act}{w:Y}(k:ops[i]?=H o)(j:o.guard=none)(g:Region.ready md ops a=[i])(p:∀K:Act->Y->Prop,(∀c w',(i≠m->S w')->kV P md ops Q S m b (a.setIfInBounds i ci) c w'->K c w')->Oper.wp P o h w K Q):kV P md ops Q S m (b+1) a h w:=by
 refine⟨λd=>(by rw[g]at d;cases d),λn e=>?_⟩;rw[g]at e;obtain rfl:n=i:=by simpa using e
 unfold wpOp;simp only[k];have l:Region.wanted o (yielded ops h.tmps)=ci:=by simp[Region.wanted,j]
 rw[dH l];grind
theorem eS{m:M}{a:Array Bool}{d:Act}{w:Y}(c:Region.ready md ops a=[])(h:Q .normal d w):∀b,kV P md ops Q S m b a d w
 |0=>⟨c,h⟩
 |_+1=>⟨λ_=>h,by rw[c];simp⟩
theorem dR(S:Y->Prop)(m:M){id:M}{b:Act}{w:Y}(a:P.follows .mixedOrders=ci)(h:kV P .any ops Q S m ops.size (Array.replicate ops.size aX) b w.drew):(Code.region id ops ci).wp P Q b w:=zi a<|re _ _ _ _ h
end
section
variable{P:Program}{ops:Array Oper}{Q:Exit->Act->Y->Prop}{md:Region.Mode}{S:Y->Prop}
def Ow(md:Region.Mode)(ops:Array Oper)(a:Array Bool)(m i:M):Bool:=match ops[m]? with
 |some b=>(b.after.any λe=>Region.binds md e&&e.on==i)&&Region.noSelect ops&&Region.free md ops a i&&(Region.ready md ops a).contains i
 |none=>aX
def Bw(P:Program)(md:Region.Mode)(ops:Array Oper)(Q:Exit->Act->Y->Prop)(S:Y->Prop)(m _ b:M)(a:Array Bool)(c:Act)(w:Y):Prop:=kV P md ops Q S m b a c w
theorem fh(k:M){m b:M}{a:Array Bool}{c:Act}{w:Y}(h:Bw P md ops Q S m k b a c w):kV P md ops Q S m b a c w:=h
theorem ii{k m b:M}{a:Array Bool}{c:Act}{w:Y}(h:kV P md ops Q S m b a c w):Bw P md ops Q S m k b a c w:=h
theorem Ao{k m:M}{d:Oper}{v:ab}{c:M}{a:Array Bool}{e:Act}{w:Y}(h:S w)(i:ops[k]?=H d)(b:Ow md ops a m k=ci)(g:∀n e w,Q (.panic n) (e.put d.dst v) w->Q (.panic n) e w)(l:YieldsIf P ops S d v e)(o:Bw P md ops Q S m (k+1) c (a.setIfInBounds k ci) (e.put d.dst v) w):Bw P md ops Q S m k (c+1) a e w:=by
 unfold Ow at b;split at b;rename_i p j;simp only[lV]at b;exact lz i j b.1.1.1 b.1.1.2 b.1.2 b.2 g l h o;cases b
theorem iz{k m:M}{c:Oper}{v:ab}{b:M}{a:Array Bool}{d:Act}{w:Y}(g:S w)(i:ops[k]?=H c)(e:Ow md ops a m k=ci)(f:∀l d w,Q (.panic l) (d.put c.dst v) w->Q (.panic l) d w)(h:Region.wanted c (yielded ops d.tmps)=ci)(j:∀w,S w->(execOp d.eval c).run P w=.ok (.value v) w)(n:Bw P md ops Q S m (k+1) b (a.setIfInBounds k ci) (d.put c.dst v) w):Bw P md ops Q S m k (b+1) a d w:=Ao g i e f (.inl ⟨h,j⟩) n
end
section
variable{P:Program}{ops:Array Oper}{Q:Exit->Act->Y->Prop}{md:Region.Mode}{S:Y->Prop}
theorem tC{i j m:M}{e f:Oper}{b:M}{a:Array Bool}{h:Act}{w:Y}(p:ops[i]?=H e)(q:ops[j]?=H f)(n:e.guard=none)(o:f.guard=none)(l:Region.ready md ops a=[i,j])(r:∀K:Act->Y->Prop,(∀c w',(i≠m->S w')->kV P md ops Q S m b (a.setIfInBounds i ci) c w'->K c w')->Oper.wp P e h w K Q)(s:∀K:Act->Y->Prop,(∀c w',(j≠m->S w')->kV P md ops Q S m b (a.setIfInBounds j ci) c w'->K c w')->Oper.wp P f h w K Q):kV P md ops Q S m (b+1) a h w:=by
 refine⟨λk=>(by rw[l]at k;cases k),λt d=>?_⟩;rw[l]at d;rcases bJ.1 d with rfl|d;unfold wpOp;simp only[p];(have g:Region.wanted e (yielded ops h.tmps)=ci:=by simp[Region.wanted,n]);rw[dH g];grind
 (obtain rfl:t=j:=by simpa using d);unfold wpOp;simp only[q];(have g:Region.wanted f (yielded ops h.tmps)=ci:=by simp[Region.wanted,o]);rw[dH g];grind
theorem uw{α:Type}(f:α->Y->Prop)(A:α->Act)(a:Array Bool)(c:M){m d:M}{b:Array Bool}{h:Act}{w:Y}(e:(∀x W,f x W->kV P md ops Q S m c a (A x) W)->kV P md ops Q S m d b h w)(g:∀x W,f x W->kV P md ops Q S m c a (A x) W):kV P md ops Q S m d b h w:=e g
theorem jW{m a:M}{l b:Array Bool}{c:Act}{w:Y}(h:kV P md ops Q S m a l c w)(e:l=b):kV P md ops Q S m a b c w:=e▸h
end
section
variable{P:Program}{ops:Array Oper}{Q:Exit->Act->Y->Prop}{md:Region.Mode}
theorem KN{l n:M}{c:String}{a:Array ab}{w:Y}{b:ab->Y->Prop}(h:Rows P c a w b):RowsIn (Fence.wide.inRound l) n P c a w b:=λf d _=>let⟨v,e,r,s⟩:=h f d;⟨v,e,r,stepsIn_wide.2 s⟩
theorem Oper.Nw{o:Oper}{a:Act}{w:Y}{K:Act->Y->Prop}(l n:M)(b:∀c,o.op≠ .defer c)(h:o.wp P a w K Q):o.wpIn (Fence.wide.inRound l) n P a w K Q:=by
 unfold Oper.wpIn;refine⟨λf _=>trivial,?_⟩;rw[Oper.semAt_plain (Fence.wide.inRound l) _ _ b];unfold Oper.wp at h;generalize(execOp a.eval o).run P w=r at*;cases r with
 |ok x d=>
  cases x<;>simp only[Oper.upon,Oper.uponIn]at h|-<;>first
   |exact h
   |exact⟨(λc=>(by cases c)),CallsIn.inRound l<|dP.2 h⟩
   |exact⟨(λc=>(by cases c)),KN h⟩
   |exact h.elim
 |halt x d=>cases x<;>simp only[Oper.upon,Oper.uponIn]at h|-<;>exact h
theorem zB{l n:M}(j:∀(i:M)(o:Oper)c,ops[i]?=H o->o.op≠ .defer c)(g:¬LetsOut Q):∀(a:M)(b:Array Bool)(p:Act)(w:Y),wpAny P md ops Q a b p w->wpAnyIn (Fence.wide.inRound l) n P md ops Q a b p w
 |0,_,_,_,h=>h
 |a+1,_,_,_,h=>⟨h.1,λi k=>by
  have d:=yE (λe m f=>zB (l:=l) (n:=n) j g a _ e m f)<|h.2 i k;unfold wpOp at d;unfold wpOpIn;cases ho:ops[i]? with
  |none=>grind
  |some o=>
   simp only[ho]at d|-;split
   .rename_i e;simp only[e,nk]at d;grind[Oper.Nw]
   .rename_i e;simp only[e]at d;exact⟨λ_ _=>trivial,d⟩⟩
def Jb(ops:Array Oper):Bool:=ops.all λo=>match o.op with| .defer _=>aX|_=>ci
theorem AI(h:Jb ops=ci):∀(i:M)(o:Oper)c,ops[i]?=H o->o.op≠ .defer c:=by
 intro i o c b e;obtain⟨a,rfl⟩:=nI.1 b;have:=Array.all_eq_true.1 h i a;rw[e]at this;cases this
theorem uu(S:Y->Prop)(m:M){l n id:M}{a:Act}{w:Y}(d:P.follows .mixedOrders=ci)(c:Jb ops=ci)(b:∀a w,¬Q .outgrown a w)(h:kV P .any ops Q S m ops.size (Array.replicate ops.size aX) a w.drew):(Code.region id ops ci).wpIn (Fence.wide.inRound l) n P Q a w:=wpIn_region_any d<|zB (AI c) (λ⟨a,w,h⟩=>b a w h) _ _ _ _<|re _ _ _ _ h
end
def Bv{P:Program}{r n id:M}{Q:Exit->Act->Y->Prop}{c:Act}{l:cJ Oper}(j:P.follows .mixedOrders=ci)(f:Region.lexB .any l.toArray=ci)(i:Jb l.toArray=ci)(g:∀c a,¬Q .outgrown c a)(h:wpQuiet P l.toArray (λb=>∃n,b=a.drewN n) (λd=>∀b,(∃n,b=a.drewN n)->Q .normal d b) l c):(Code.region id l.toArray ci).wpIn (Fence.wide.inRound r) n P Q c a:=by
 simp only[Region.lexB,lV]at f;refine wpIn_region_any j<|zB (AI i) (λ⟨c,a,h⟩=>g c a h) _ _ _ _<|wpAny_of_quiet (C:=λb=>∃n,b=a.drewN n) (Q:=λd=>∀b,(∃n,b=a.drewN n)->Q .normal d b) (λ_ b e h=>h b e) _ _ _ _ ⟨1,rfl⟩ ?_;have:=wpAnyQ_lex (C:=λb=>∃n,b=a.drewN n) (md:=.any) f.1 l 0 (Array.replicate l.toArray.size aX) c (by simp) (by grind) h;grind
section
open Extern.Stop Stop Extern
theorem mQ(w:Y):cY aZ 11 #[.nilIface] w λe a=>e=aM (ar 0)/\Below (z<|G w) w a:=by
 go_in
 go_wp2;go_ret;exact⟨rfl,(Below.refl _ w).alloc (ah _) _⟩
def CB(t:Addr)(w:Y):(ReflectliteValue.unpack<|.iface 97<|cX<|H t).run aZ w=.ok (dC #[cX<|H<|R (7) 97,aA<|z<|G w,aE 150]) (cN w<|aw #[cX<|H t] 97):=by kernel_rfl
def KQ(a:Addr)(w:Y):(ReflectliteValue.methodAny (ReflectliteValue.valueError "reflectlite.Value.Type" 0) (λt _ _ _=>ReflectliteType.toType t) #[dC #[cX<|H<|R (7) 97,cX<|H a,aE 150]]).run aZ w=.ok (.iface 214<|dC #[cX<|H<|R (7) 97]) w:=by kernel_rfl
def uX(h:ab)(w:Y):(Go.method 541 214 (dC #[h]) "Kind").run aZ w=.ok (300,h) w:=by kernel_rfl
def KU(w:Y):((ReflectliteType.abiMethod λt=>(λa:M=>Value.int IntKind.u8 (a:X))<$>Rtype.kind t) #[cX<|H<|R (7) 97]).run aZ w=.ok (rD 22) w:=by kernel_rfl
def KX(w:Y):((ReflectliteType.abiMethod λt=>(λa:M=>Value.int IntKind.u8 (a:X))<$>Rtype.kind t) #[cX<|H<|R (7) 50]).run aZ w=.ok (rD 2) w:=by kernel_rfl
def E0(a:Sem ab)(f:TypeId->Addr->M->M->Sem ab)(v:ab):ReflectliteValue.method a f #[v]=(do match<-ReflectliteValue.parts v with|none=>a|some (t,c,b)=>f t c b<|b%32):=rfl
def GU(a:Addr)(w:Y):(ReflectliteValue.parts<|dC #[cX<|H<|R (7) 97,cX<|H a,aE 150]).run aZ w=.ok (H (97,a,150)) w:=by kernel_rfl
def GV(b p:Addr)(W:Y)(a:aW W b=H (cX<|H p)):(ReflectliteValue.method (ReflectliteValue.valueError "reflectlite.Value.IsNil" 0) ReflectliteValue.isNil #[dC #[cX<|H<|R (7) 97,cX<|H b,aE 150]]).run aZ W=.ok (aN aX) W:=by
 rw[E0];simp only[jV,GU,Result.andThen];simp[ReflectliteValue.isNil,loadVar,isAgg,underlying,underlying97,a,Result.andThen]
def uY(h:ab)(w:Y):(Go.method 541 214 (dC #[h]) "Elem").run aZ w=.ok (329,dC #[h]) w:=by kernel_rfl
def oD(h:ab)(w:Y):(Go.method 541 214 (dC #[h]) "Implements").run aZ w=.ok (330,dC #[h]) w:=by kernel_rfl
def ni(h:ab)(w:Y):(Go.method 541 214 (dC #[h]) "AssignableTo").run aZ w=.ok (327,dC #[h]) w:=by kernel_rfl
def KY(w:Y):(ReflectliteType.method ReflectliteType.elem #[dC #[cX<|H<|R (7) 97]]).run aZ w=.ok (.iface 214<|dC #[cX<|H<|R (7) 50]) w:=by kernel_rfl
def xR(w:Y):(ReflectliteType.relation "Implements" ReflectliteType.implements_ #[dC #[cX<|H<|R (7) 50],.iface 214<|dC #[cX<|H<|R (7) 47]]).run aZ w=.ok (aN ci) w:=by kernel_rfl
def wh(v:ab)(w:Y):(ReflectliteType.typeOf #[.iface 50 v]).run aZ w=.ok (.iface 214<|dC #[cX<|H<|R (7) 50]) w:=by kernel_rfl
def xS(w:Y):(ReflectliteType.relation "AssignableTo" ReflectliteType.assignableTo #[dC #[cX<|H<|R (7) 50],.iface 214<|dC #[cX<|H<|R (7) 50]]).run aZ w=.ok (aN ci) w:=by kernel_rfl
def CC(n:X)(w:Y):(ReflectliteValue.unpack<|.iface 50<|ar n).run aZ w=.ok (dC #[cX<|H<|R (7) 50,aA<|z<|G w,aE 130]) (cN w<|aw #[ar n] 50):=by kernel_rfl
def Ob(w:Y):(Rtype.elem? 97).run aZ w=.ok (H 50) w:=by kernel_rfl
def Zt(p:Addr)(w:Y):(ReflectliteValue.mk 50 p ReflectliteValue.flagAddr).run aZ w=.ok (dC #[cX<|H<|R (7) 50,cX<|H p,aE 386]) w:=by kernel_rfl
def GW(b p:Addr)(W:Y)(a:aW W b=H (cX<|H p)):(ReflectliteValue.method (ReflectliteValue.valueError "reflectlite.Value.Elem" 0) ReflectliteValue.elem #[dC #[cX<|H<|R (7) 97,cX<|H b,aE 150]]).run aZ W=.ok (dC #[cX<|H<|R (7) 50,cX<|H p,aE 386]) W:=by
 rw[E0];simp only[jV,GU,Result.andThen];simp[ReflectliteValue.elem,loadVar,isAgg,underlying,underlying97,a,Result.andThen,Ob,Zt]
def J7(v x:ab):ReflectliteValue.set #[v,x]=(do
 let(H (dst,a,fl),H (src,b,_)):=(<-ReflectliteValue.parts v,<-ReflectliteValue.parts x)
  |unsupported (.noEntry "extern/(internal/reflectlite.Value).Set.zeroValue")
 if fl/ReflectliteValue.flagAddr%2==0 then unsupported (.noEntry "extern/(internal/reflectlite.Value).Set.unaddressable")
 let c<-loadVar src b
 if<-Rtype.directlyAssignable dst src then storeVar dst a c
 else if<-Rtype.implements dst src then
  if(<-Rtype.kind src)==20 then
   match c with
   | .nilIface=>unsupported<|.noEntry "extern/reflectlite: a nil value of one interface type handed on as a value of another"
   |_=>storeVar dst a c
  else storeVar dst a (.iface src c)
 else panicString ("reflectlite.Set: value of type " ++(<-Rtype.spelt src)++ " is not assignable to type " ++(<-Rtype.spelt dst))
 pure (dq #[])):=rfl
def NX(a:Addr)(w:Y):(ReflectliteValue.parts<|dC #[cX<|H<|R (7) 50,cX<|H a,aE 386]).run aZ w=.ok (H (50,a,386)) w:=by kernel_rfl
def Rx(a:Addr)(w:Y):(ReflectliteValue.parts<|dC #[cX<|H<|R (7) 50,cX<|H a,aE 130]).run aZ w=.ok (H (50,a,130)) w:=by kernel_rfl
def Oc(w:Y):(Rtype.directlyAssignable 50 50).run aZ w=.ok ci w:=by kernel_rfl
def PS(a e:Addr)(n:X)(zn:ab)(W:Y)(b:aW W e=H (ar n))(d:aW W a=H zn)(c:W.frozen? a=aX):(ReflectliteValue.set #[dC #[cX<|H<|R (7) 50,cX<|H a,aE 386],dC #[cX<|H<|R (7) 50,cX<|H e,aE 130]]).run aZ W=.ok (dq #[]) (cq W a<|ar n):=by
 rw[J7];simp only[jV,NX,Rx,Result.andThen];simp[ReflectliteValue.flagAddr,loadVar,isAgg,underlying,underlying50,b,Result.andThen,Oc,storeVar,Value.cells,storeCells,Addr.add];rw[Bu aZ W a _ _<|by rfl];simp[d,c]
def kB(w:Y):Prop:=aW w (R 0 0)=H (.iface 214<|dC #[cX<|H<|R (7) 47])
def ZU(n:X)(t:Addr)(zn:ab)(e:kB a)(b:aW a t=H zn)(d:a.frozen? t=aX):cY aZ 28 #[.iface 50<|ar n,.iface 97<|cX<|H t] a λk C=>k=aM (aN ci)/\C=cq (cN (cN (cN (cN a<|aw #[cX<|H t] 97)<|aw #[cX<|H<|R (7) 97,aA<|z<|G a,aE 150] 151)<|aw #[cX<|H<|R (7) 97,aA<|z<|G a,aE 150] 151)<|aw #[ar n] 50) t (ar n):=by
 unfold kB at e;have K:=@bX aZ 63 _ (λa=>ReflectliteValue.unpack<|a.getD 0<|dq #[]) func63 (by kernel_rfl) (by kernel_rfl) (by kernel_rfl) (by kernel_rfl);have L:=@bX aZ 64 _ (ReflectliteValue.methodAny (ReflectliteValue.valueError "reflectlite.Value.Type" 0)<|λt _ _ _=>ReflectliteType.toType t) func64 (by kernel_rfl) (by kernel_rfl) (by kernel_rfl) (by kernel_rfl);have N:=@bX aZ 65 _ (ReflectliteValue.method (ReflectliteValue.valueError "reflectlite.Value.IsNil" 0) ReflectliteValue.isNil) func65 (by kernel_rfl) (by kernel_rfl) (by kernel_rfl) (by kernel_rfl);have q:=@bX aZ 300 _ (ReflectliteType.abiMethod λt=>do pure (rD<|<-Rtype.kind t)) func300 (by kernel_rfl) (by kernel_rfl) (by kernel_rfl) (by kernel_rfl);have s:=@bX aZ 329 _ (ReflectliteType.method ReflectliteType.elem) func329 (by kernel_rfl) (by kernel_rfl) (by kernel_rfl) (by kernel_rfl);have u:=@bX aZ 330 _ (ReflectliteType.relation "Implements" ReflectliteType.implements_) func330 (by kernel_rfl) (by kernel_rfl) (by kernel_rfl) (by kernel_rfl);have l:=@bX aZ 91 _ ReflectliteType.typeOf func91 (by kernel_rfl) (by kernel_rfl) (by kernel_rfl) (by kernel_rfl);have r:=@bX aZ 327 _ (ReflectliteType.relation "AssignableTo" ReflectliteType.assignableTo) func327 (by kernel_rfl) (by kernel_rfl) (by kernel_rfl) (by kernel_rfl);have m:=@bX aZ 106 _ (ReflectliteValue.method (ReflectliteValue.valueError "reflectlite.Value.Elem" 0) ReflectliteValue.elem) func106 (by kernel_rfl) (by kernel_rfl) (by kernel_rfl) (by kernel_rfl);have o:=@bX aZ 107 _ ReflectliteValue.set func107 (by kernel_rfl) (by kernel_rfl) (by kernel_rfl) (by kernel_rfl);have V:=wh;have O:=ni;have i:=xS;have B:=CC;have E:=CB;have F:=KQ;have S:=uX;have P:=uY;have Q:=oD;have A:=KU;have x:=KX;have j:=KY;have w:=xR;have T:=GV (R (z<|G a) 0) t (cN (cN a<|aw #[cX<|H t] 97)<|aw #[cX<|H<|R (7) 97,aA<|z<|G a,aE 150] 151) (by simp);have f:0<z (G a):=cC _ _ e;have v:aW (cN (cN a<|aw #[cX<|H t] 97)<|aw #[cX<|H<|R (7) 97,aA<|z<|G a,aE 150] 151) (R 0 0)=H (.iface 214<|dC #[cX<|H<|R (7) 47]):=by rw[bH _ _ (R 0 0) (by simp_all),bH _ _ (R 0 0) f];exact e
 have c:t.block<z (G a):=cC _ _ b;have D:=GW (R (z<|G a) 0) t (cN (cN (cN a<|aw #[cX<|H t] 97)<|aw #[cX<|H<|R (7) 97,aA<|z<|G a,aE 150] 151)<|aw #[cX<|H<|R (7) 97,aA<|z<|G a,aE 150] 151) (by rw[bH _ _ (R (z<|G a) 0) (by simp;omega)];simp);have g:=PS t (R (z (G a)+1+1+1) 0) n zn (cN (cN (cN (cN a<|aw #[cX<|H t] 97)<|aw #[cX<|H<|R (7) 97,aA<|z<|G a,aE 150] 151)<|aw #[cX<|H<|R (7) 97,aA<|z<|G a,aE 150] 151)<|aw #[ar n] 50) (by rw[rA _ _ _ _<|by simp];rfl) (by rw[bH _ _ t (by simp;omega),bH _ _ t (by simp;omega),bH _ _ t (by simp;omega),bH _ _ t c];exact b) (by rw[eJ _ _ t (by simp;omega),eJ _ _ t (by simp;omega),eJ _ _ t (by simp;omega),eJ _ _ t<|Ak c];exact d);go_in
 go_wp2;refine gX 1 ?_;rw[gd];go_wp2;go_ret;simp_all
end
def kB.alloc{w:Y}(h:kB w)(o:Obj):kB (cN w o):=by
 unfold kB at*;rw[bH _ _ _<|cC _ _ h];exact h
theorem NB(n:X)(j:kB a):cY aZ 11 #[.iface 50<|ar n] a λl k=>l=aM (ar n)/\Below (z<|G a) a k:=by
 have e:aW (cN a<|aw #[ar 0] 50) (R (z<|G a) 0)=H (ar 0):=by simp
 have d:(cN a<|aw #[ar 0] 50).frozen? (R (z<|G a) 0)=aX:=by simp
 have g:=ZU n (R (z<|G a) 0) (ar 0) (j.alloc _) e d;clear e d;go_in
 go_wp2_with(go_at_call 28;refine g.mono ?_;rintro l f⟨rfl,b⟩;have c:Below (z<|G a) a f:=(by rw[b];exact((((((Below.refl _ a).alloc (ah _) _).alloc (by simp) _).alloc (by simp;omega) _).alloc (by simp;omega) _).alloc (by simp;omega) _).setCell (p:=(R (z<|G a) 0)) (ah _) _);have i:aW f (R (z<|G a) 0)=H (ar n):=(by rw[b];exact ov _ _ _ (by rw[bH _ _ _ (by simp;omega),bH _ _ _ (by simp;omega),bH _ _ _ (by simp;omega),bH _ _ _<|by simp];simp));have HB:=U c;clear b c)
 go_ret;exact⟨rfl,HB⟩
section
open Extern.Stop Stop Extern
def yZ(a:TypeId)(v:ab)(w:Y):(binOp .eql 47 (.iface a v) .nilIface).run aZ w=.ok (aN aX) w:=by
 have h:∀d:M,(Op.equalIn (d+1) 47 (.iface a v) .nilIface).run aZ w=.ok aX w:=λd=>by simp[Op.equalIn,fF underlying47]
 simp only[binOp];simp[Op.equal,Op.maxDepth,h 9999]
def MC:(prog.info? 50).map (·.comparable)=H ci:=by kernel_rfl
def VB(n:X)(w:Y):cY aZ 55 #[.nilIface,.iface 50<|ar n] w λe a=>e=aM (aN aX)/\a=w:=by
 have b:∀w,(binOp .eql 47 .nilIface<|.iface 50<|ar n).run aZ w=.ok (aN aX) w:=λw=>run_eql_iface_nil_left w _ _ underlying47;go_in
 go_wp2;go_ret;simp_all
def sw(h:ab)(w:Y):(Go.method 541 214 (dC #[h]) "Comparable").run aZ w=.ok (328,dC #[h]) w:=by kernel_rfl
def yn(w:Y):(ReflectliteType.method (λt=>do Rtype.noPackHeld "Comparable" t;(λa:TypeInfo=>aN a.comparable)<$>typeInfo t) #[dC #[cX<|H<|R (7) 50]]).run aZ w=.ok (aN ci) w:=by kernel_rfl
def A4(v:ab)(a:TypeId)(w:Y):(Instr.typeAssert (.iface 199 v) a 266 ci).run aZ w=.ok (dq #[.nilIface,aN aX]) w:=run_typeAssert_lacksB underlying266 (by kernel_rfl) (by kernel_rfl) v a w
def ID(v:ab)(a:TypeId)(w:Y):(Instr.typeAssert (.iface 199 v) a 221 ci).run aZ w=.ok (dq #[.iface 199 v,aN ci]) w:=run_typeAssert_hasB underlying221 (by kernel_rfl) v a w
def ww(v:ab)(w:Y):(Go.method 541 199 v "Unwrap").run aZ w=.ok (325,v) w:=by kernel_rfl
def zD(a:M)(n:X)(w:Y)(h:aW w (R a 1)=H (ar n)):cY aZ 325 #[aA a] w λe b=>e=aM (.iface 50<|ar n)/\b=w:=by
 go_in
 go_wp2;go_ret;simp_all
def Tp(n:X)(w:Y):(binOp .eql 47 (.iface 50<|ar n)<|.iface 50<|ar n).run aZ w=.ok (aN ci) w:=by
 obtain⟨i,b,a⟩:=pP.1 MC;have h:∀d:M,(Op.equalIn (d+2) 47 (.iface 50<|ar n)<|.iface 50<|ar n).run aZ w=.ok ci w:=λd=>by simp[Op.equalIn,fF underlying47,fF underlying50,typeInfo,b,a]
 simp only[binOp];simp[Op.equal,Op.maxDepth,h 9998]
def SG(a:M)(n:X)(w:Y)(h:aW w (R a 1)=H (ar n)):cY aZ 92 #[.iface 199<|aA a,.iface 50<|ar n,aN ci] w λe b=>e=aM (aN ci)/\b=w:=by
 have g:∀w,(binOp .eql 47 (.iface 199<|aA a)<|.iface 50<|ar n).run aZ w=.ok (aN aX) w:=λw=>run_eql_iface_types _ _ _ _ underlying47 (by decide) w;have i:=Tp n;have j:=yZ;have d:=A4;have f:=ID;have m1:=ww;have c:=zD a n w h;go_in
 go_wp2;refine gX 2 ?_;rw[gd];go_wp2_with fail
 apply c.mono;rintro e b⟨rfl,rfl⟩;go_wp2;rw[gd];go_wp2;go_ret;simp_all
def Qk(a:M)(n:X)(w:Y)(h:aW w (R a 1)=H (ar n)):cY aZ 55 #[.iface 199<|aA a,.iface 50<|ar n] w λf b=>f=aM (aN ci)/\b=w:=by
 have i:=yZ;have c:=@bX aZ 91 _ ReflectliteType.typeOf func91 (by kernel_rfl) (by kernel_rfl) (by kernel_rfl) (by kernel_rfl);have d:=@bX aZ 328 _ (ReflectliteType.method (λt=>do Rtype.noPackHeld "Comparable" t;pure (aN (<-typeInfo t).comparable))) func328 (by kernel_rfl) (by kernel_rfl) (by kernel_rfl) (by kernel_rfl);have k:=wh;have j:=sw;have g:=yn;have e:=SG a n w h;go_in
 go_wp2_with fail
 apply e.mono;rintro f b⟨rfl,rfl⟩;go_wp2;go_ret;simp_all
end
section
variable{P:Program}{ops:Array Oper}{Q:Exit->Act->Y->Prop}{md:Region.Mode}{S:Y->Prop}
def Az(md:Region.Mode)(ops:Array Oper)(i:M):M->M->Bool
 |0,_=>aX
 |n+1,j=>match ops[j]? with
  |none=>aX
  |some o=>o.after.any λe=>Region.binds md e&&(e.on==i||Az md ops i n e.on)
def Cr(md:Region.Mode)(ops:Array Oper)(a:Array Bool):Prop:=∀j o,ops[j]?=H o->a.getD j aX=ci->∀e∈o.after,Region.binds md e=ci->a.getD e.on aX=ci
def DB(md:Region.Mode)(ops:Array Oper)(a:Array Bool):Bool:=(List.range ops.size).all λj=>match ops[j]? with
 |none=>ci
 |some o=>!a.getD j aX||o.after.all λe=>!Region.binds md e||a.getD e.on aX
theorem TE{a:Array Bool}(h:DB md ops a=ci):Cr md ops a:=by
 intro j o c d g f e;unfold DB at h;rw[qI]at h;have b:=h j<|jY.2 (nI.1 c).1;simp only[c,d,uO,zk]at b;rw[Array.all_eq_true]at b;grind[Array.mem_iff_getElem]
theorem Cr.set{a:Array Bool}{j:M}(m:Cr md ops a)(f:j∈Region.ready md ops a):Cr md ops (a.setIfInBounds j ci):=by
 intro x o h c l e d;obtain⟨n,p,g,b⟩:=yF.1 f;by_cases k:j=x;grind[getD_set_true]
 rw[getD_set_ne aX k]at c;exact getD_set_true<|m x o h c l e d
theorem Ay{m:M}{a:Array Bool}(i:Cr md ops a):∀(n l:M)(o:Oper),ops[l]?=H o->(∀e∈o.after,Region.binds md e=ci->a.getD e.on aX=ci)->Az md ops m n l=ci->a.getD m aX=ci
 |0,_,_,_,_,h=>by simp[Az]at h
 |n+1,l,o,j,b,h=>by
  unfold Az at h;simp only[j]at h;obtain⟨x,k,f⟩:=Array.any_eq_true.1 h;simp only[lV,Bool.or_eq_true,beq_iff_eq]at f;have g:=b _ (Array.getElem_mem k) f.1;rcases f.2 with e|e
  .rw[<-e];exact g
  .have hex:∃d,ops[(o.after[x]).on]?=H d:=by
    cases n with
    |zero=>simp[Az]at e
    |succ n=>
     unfold Az at e;grind
   obtain⟨d,c⟩:=hex;exact Ay i n _ d c (λh f b=>i _ d c g h f b) e
def nh(P:Program)(md:Region.Mode)(ops:Array Oper)(Q:Exit->Act->Y->Prop)(S:Y->Prop)(m:M):M->Array Bool->Act->Y->Prop
 |0,a,c,w=>Region.ready md ops a=[]/\Q .normal c w
 |fuel+1,a,c,w=>
  (Region.ready md ops a=[]->Q .normal c w)/\∀i∈Region.ready md ops a,wpOp P ops Q i (λd b=>(i<m->S b)/\nh P md ops Q S m fuel (a.setIfInBounds i ci) d b) c w
theorem Ap{m:M}:∀(a:M)(b:Array Bool)(g:Act)(w:Y),nh P md ops Q S m a b g w->wpAny P md ops Q a b g w
 |0,_,_,_,h=>h
 |a+1,_,_,_,h=>⟨h.1,λi e=>yE (λc f d=>Ap a _ c f d.2)<|h.2 i e⟩
theorem IA{m V:M}{k:Oper}{an:ab}(F:ops[m]?=H k)(ac:m<V)(al:∀j,V<=j->j<ops.size->Az md ops m ops.size j=ci)(g:∀(j:M)(ap:Oper)n T,ops[j]?=H ap->ap.op≠ .select n T)(hQ:∀ao B C,Q (.panic ao) (B.put k.dst an) C->Q (.panic ao) B C):∀(b:M)(a:Array Bool)(B:Act)(C:Y),Cr md ops a->(∀j l,ops[j]?=H l->j≠m->a.getD j ci=aX->(∀v∈l.after,Region.binds md v=ci->v.on≠m)->k.apart ops l=ci)->m∈Region.ready md ops a->YieldsIf P ops S k an B->S C->nh P md ops Q S V b (a.setIfInBounds m ci) (B.put k.dst an) C->nh P md ops Q S V (b+1) a B C:=by
 intro b;induction b with
 |zero=>
  intro a B C _ _ i A o d;refine⟨λaa=>(by rw[aa]at i;cases i),λj r=>?_⟩;by_cases c:j=m
  .subst c;exact A.wpOp F o ⟨λ_=>o,d⟩
  .have:=td r c;rw[d.1]at this;cases this
 |succ b ih=>
  intro a B C D e i A o d;refine⟨λaa=>(by rw[aa]at i;cases i),λj r=>?_⟩;by_cases c:j=m
  .subst c;exact A.wpOp F o ⟨λ_=>o,d⟩
  .have w:=d.2 j<|td r c;obtain⟨t,l,h,p⟩:=yF.1 r;have K:a.getD m aX=ci->False:=λq=>by
    have E:=(yF.1 i).1;grind
   have u:∀v∈l.after,Region.binds md v=ci->v.on≠m:=λv O L E=>by
    have w:=p v O L;rw[E]at w;exact K w
   have h2:=wpOp_putIf h (e j l h c t u) (λn T=>g m k n T F) (λn T=>g j l n T h) hQ A w;have f:∀O ok,ops[O]?=H ok->O≠m->(a.setIfInBounds j ci).getD O ci=aX->(∀v∈ok.after,Region.binds md v=ci->v.on≠m)->k.apart ops ok=ci:=λO ok hk E b L=>by
    refine e O ok hk E ?_ L;by_cases ad:j=O
    .grind
    simp_all
   have N:=td i<|Ne.symm c;have s:j<V:=by
    grind[Nat.lt_or_ge,Ay,Array.getElem?_eq_some_iff]
   refine yE (λW w' x=>⟨λ_=>x.2.1 s,ih (a.setIfInBounds j ci) W w' (D.set r) f N x.1 (x.2.1 s) ?_⟩) h2;rw[uQ _ _ c];exact x.2.2
theorem Kn{i m:M}{c:Oper}{v:ab}{b:M}{a:Array Bool}{d:Act}{w:Y}(h:ops[i]?=H c)(f:i<m)(g:((List.range ops.size).all λj=>decide (j<m)||Az md ops i ops.size j)=ci)(q:Region.noSelect ops=ci)(o:Region.free md ops a i=ci)(p:(Region.ready md ops a).contains i=ci)(e:DB md ops a=ci)(l:∀s d w,Q (.panic s) (d.put c.dst v) w->Q (.panic s) d w)(r:YieldsIf P ops S c v d)(n:S w)(t:nh P md ops Q S m b (a.setIfInBounds i ci) (d.put c.dst v) w):nh P md ops Q S m (b+1) a d w:=IA h f (λj u k=>by
 have:=qI.1 g j (jY.2 k);grind) (Region.noSelect_spec q) l b a d w (TE e) (Region.free_spec h o) (by simpa using p) r n t
theorem fy{i n:M}{o:Oper}{c:M}{a:Array Bool}{j:Act}{w:Y}(l:ops[i]?=H o)(k:o.guard=none)(h:Region.ready md ops a=[i])(r:∀K:Act->Y->Prop,(∀e d,(i<n->S d)->nh P md ops Q S n c (a.setIfInBounds i ci) e d->K e d)->Oper.wp P o j w K Q):nh P md ops Q S n (c+1) a j w:=by
 refine⟨λf=>(by rw[h]at f;cases f),λq g=>?_⟩;rw[h]at g;obtain rfl:q=i:=by simpa using g
 unfold wpOp;simp only[l];have m:Region.wanted o (yielded ops j.tmps)=ci:=by simp[Region.wanted,k]
 rw[dH m];grind
theorem ju{m:M}{a:Array Bool}{e:Act}{w:Y}(d:Region.ready md ops a=[])(h:Q .normal e w):∀c,nh P md ops Q S m c a e w
 |0=>⟨d,h⟩
 |_+1=>⟨λ_=>h,by rw[d];simp⟩
theorem jj(S:Y->Prop)(m:M){id:M}{c:Act}{w:Y}(a:P.follows .mixedOrders=ci)(h:nh P .any ops Q S m ops.size (Array.replicate ops.size aX) c w.drew):(Code.region id ops ci).wp P Q c w:=zi a<|Ap _ _ _ _ h
end
section
variable{P:Program}{ops:Array Oper}{Q:Exit->Act->Y->Prop}{md:Region.Mode}{S:Y->Prop}
def yG(P:Program)(md:Region.Mode)(ops:Array Oper)(Q:Exit->Act->Y->Prop)(S:Y->Prop)(m _ b:M)(a:Array Bool)(c:Act)(w:Y):Prop:=nh P md ops Q S m b a c w
def Jc(md:Region.Mode)(ops:Array Oper)(a:Array Bool)(m k:M):Bool:=decide (k<m)&&((List.range ops.size).all λj=>decide (j<m)||Az md ops k ops.size j)&&Region.noSelect ops&&Region.free md ops a k&&(Region.ready md ops a).contains k&&DB md ops a
theorem kF(k:M){m c:M}{a:Array Bool}{d:Act}{w:Y}(h:yG P md ops Q S m k c a d w):nh P md ops Q S m c a d w:=h
theorem oC{k m c:M}{a:Array Bool}{d:Act}{w:Y}(h:nh P md ops Q S m c a d w):yG P md ops Q S m k c a d w:=h
theorem tB{k m:M}{d:Oper}{v:ab}{c:M}{a:Array Bool}{e:Act}{w:Y}(g:S w)(h:ops[k]?=H d)(b:Jc md ops a m k=ci)(f:∀j e w,Q (.panic j) (e.put d.dst v) w->Q (.panic j) e w)(i:YieldsIf P ops S d v e)(l:yG P md ops Q S m (k+1) c (a.setIfInBounds k ci) (e.put d.dst v) w):yG P md ops Q S m k (c+1) a e w:=by
 unfold Jc at b;simp only[lV,pM]at b;exact Kn h b.1.1.1.1.1 b.1.1.1.1.2 b.1.1.1.2 b.1.1.2 b.1.2 b.2 f i g l
theorem uS{k m:M}{d:Oper}{v:ab}{c:M}{a:Array Bool}{e:Act}{w:Y}(h:S w)(j:ops[k]?=H d)(f:Jc md ops a m k=ci)(g:∀n e w,Q (.panic n) (e.put d.dst v) w->Q (.panic n) e w)(i:Region.wanted d (yielded ops e.tmps)=ci)(l:∀w,S w->(execOp e.eval d).run P w=.ok (.value v) w)(o:yG P md ops Q S m (k+1) c (a.setIfInBounds k ci) (e.put d.dst v) w):yG P md ops Q S m k (c+1) a e w:=tB h j f g (.inl ⟨i,l⟩) o
end
def KC:∀{l m:cR},dV l->dV m->l.Perm m->l=m
 |[],m,_,_,h=>(List.nil_perm.1 h).symm
 |a::l,[],_,_,h=>by have:=h.length_eq;simp at this
 |a::l,i::m,d,e,h=>by
  obtain⟨k,b⟩:=bB.1 d;obtain⟨n,c⟩:=bB.1 e;have j:a=i:=by
   rcases bJ.1 (h.mem_iff.1<|kT ..)with f|f
   .exact f
   .rcases bJ.1 (h.mem_iff.2<|kT ..)with g|g
    .exact g.symm
    grind[lD]
  subst j;rw[KC b c<|(List.perm_cons a).1 h]
def tQ{a:dS}(b:∀r∈l,dV r)(d:jU l)(e:a.Perm l):cQ a=cQ l:=by
 have h:∀r∈a,dV r:=λr c=>b r<|e.mem_iff.1 c;have c:a.flatten.Perm l.flatten:=e.flatten;have f:=CP a h;have g:Kc (cQ a):=(((eN a).trans c).pairwise_iff<|λ{i j}q e=>q ⟨e.1.symm,e.2.symm⟩).2<|AJ b d;exact KC (List.Pairwise.imp₂ (λi j q k=>zc q k) f g) (oU b d)<|((eN a).trans c).trans (eN l).symm
def CO{c:dS}(f:∀r∈l,dV r)(d:jU l)(e:c.Perm l)(b:eR)(a:Bool):gL b a c=gL b a l:=by
 unfold gL;rw[tQ f d e]
def Th(l s:cR)(k:ae):nB (l++s) k=(nB l k).or (nB s k):=List.find?_append
def SF{i f W g O:cR}(D:Bo [K,W] [O] l)(v:∀a∈e,∀j∈K,a.key≠j.key)(w:∀a∈K,∀j∈i,a.key≠j.key)(x:∀a∈f,∀j∈K,a.key≠j.key)(A:∀a∈K,∀j∈g,a.key≠j.key)(B:∀a∈f,∀j∈W,a.key≠j.key)(C:∀a∈W,∀j∈g,a.key≠j.key):Bo [e++K++i,f++W++g] [e++i,f++O++g] l:=by
 intro n;have c:=D n;simp only[qj,yU,th,Th]at c|-;have m:∀{p:cR}{d:E},nB p n=H d->d∈p/\d.key=n:=λ{p d}u=>⟨li u,by simpa using wP u⟩;have no:∀{p:cR}{d:E},(∀a∈p,a.key≠d.key)->d.key=n->nB p n=none:=λ{p d}u q=>oW.2<|λa b o=>u a b<|o.trans q.symm;cases ht:nB K n with
 |some d=>
  obtain⟨k,h⟩:=m ht;rw[no (λa b=>v a b d k) h,@no i _ (λa b o=>w d k a b o.symm) h,@no f _ (λa b=>x a b d k) h,@no g _ (λa b o=>A d k a b o.symm) h];rw[ht]at c;simpa using c
 |none=>
  rw[ht]at c;simp only[jk,th]at c|-;rcases c with c|⟨k,h,d,r,F⟩
  .left;rw[c]
  .obtain⟨s,t⟩:=m r;rw[@no f _ (λa b=>B a b d s) t,@no g _ (λa b o=>C d s a b o.symm) t,h,r];cases hx:(nB e n).or (nB i n)with
   |some L=>left;simp
   |none=>grind
def zy{A:dS}{b:cR}{ms:eR}{lowest:Bool}(g:∀r∈A,gJ r)(f:gJ b)(a:jU (A.reverse++[b])):dV (cQ<|b::A)/\dV (gL ms lowest<|b::A)/\∀(t:X)(D:dS),(t∈ms\/∀x∈(A.reverse++[b]).flatten,x.bO<=t)->(lowest=ci->∀k,sa (D.map<|jT t) k=none)->Bo ((A.reverse++[b]).map<|jT t) [jT t<|gL ms lowest<|b::A] (D.map<|jT t):=by
 have c:∀r∈A.reverse++[b],gJ r:=by grind
 have d:(b::A).Perm (A.reverse++[b]):=((List.perm_append_singleton b A.reverse).trans<|(uo A).cons b).symm;rw[tQ (λr h=>(c r h).mj) a d,CO (λr h=>(c r h).mj) a d];exact⟨oU (λr h=>(c r h).mj) a,(EO c a ms lowest).mj,λt D e d=>AK c a e d⟩
def FG{c:cR}(i:gJ (e++K++c))(d:∀x∈e,∀a∈K,x.key≠a.key)(f:∀x∈e,∀a∈c,x.key≠a.key)(g:∀x∈K,∀a∈c,x.key≠a.key)(t:X):jT t (e++K++c)=jT t e++jT t K++jT t c:=by
 rw[Cn i (λx h a b=>(aG.1 h).elim (λq=>f x q a b)<|λq=>g x q a b) t,Cn (i.sub<|oI _ _) d t]
def Sa{k d W f:cR}{ms:eR}{lowest:Bool}(r:gJ (e++K++k))(m:gJ (d++W++f))(t:Over (e++K++k) (d++W++f))(E:gU e K)(x2:gU e k)(F:gU K k)(L:gU d W)(N:gU d f)(O:gU W f)(Q:gU d K)(S:gU K f):dV (cQ [W,K])/\gJ (d++gL ms lowest [W,K]++f)/\gU d (gL ms lowest [W,K])/\gU (gL ms lowest [W,K]) f/\Over (e++k) (d++gL ms lowest [W,K]++f)/\∀(h:X)(aa:dS),(h∈ms\/∀x∈K++W,x.bO<=h)->(lowest=ci->∀ac,sa (aa.map<|jT h) ac=none)->Bo [jT h<|e++K++k,jT h<|d++W++f] [jT h<|e++k,jT h<|d++gL ms lowest [W,K]++f] (aa.map<|jT h):=by
 have u:gJ K:=r.sub (by simp);have hW:gJ W:=m.sub (by simp);have hX:gJ (e++k):=r.sub (by simp);have p:∀D∈[K,W],gJ D:=by grind
 have o:jU [K,W]:=by unfold jU;simp only[bB,bJ,gu,mO,forall_eq,List.Pairwise.nil,vr,false_implies,implies_true];exactλc a h g=>t c (by simp[a]) h<|by simp[g]
 have hp:([W,K]:dS).Perm [K,W]:=List.Perm.swap _ _ _;have em:=tQ (λD A=>(p D A).mj) o hp;have eo:=CO (λD A=>(p D A).mj) o hp ms lowest;have V:=EO p o ms lowest;have i:∀x∈gL ms lowest [K,W],x∈K\/x∈W:=λx s=>by simpa using zQ ms lowest [K,W] x s
 rw[em,eo];have v:gU d (gL ms lowest [K,W]):=λc a h g=>(i h g).elim (Q c a h)<|L c a h;have w:gU (gL ms lowest [K,W]) f:=λc a h g=>(i c a).elim (λq=>S c q h g)<|λq=>O c q h g;have T:gJ (d++gL ms lowest [K,W]++f):=by refine⟨bQ.2 ⟨bQ.2 ⟨m.mj.sub (by simp),V.mj,λc a h g=>jt.2<|.inl<|v c a h g⟩,m.mj.sub (by simp),λc a h g=>jt.2<|.inl<|(aG.1 a).elim (λq=>N c q h g)<|λq=>w c q h g⟩,λP l=>?_⟩;rcases aG.1 l with l|l;rcases aG.1 l with l|l;exact m.key P (by simp[l]);exact V.key P l;exact m.key P<|by simp[l]
 refine⟨oU (λD A=>(p D A).mj) o,T,v,w,?_,λh aa g hD=>?_⟩;intro c a j b n;(have l:c∈e++K++k:=by grind);have B:∀b∈K,c.key≠b.key:=λb d=>(aG.1 a).elim (λq=>oF<|E c q b d)<|λq P=>oF (F b d c q) P.symm;rcases aG.1 b with b|b;rcases aG.1 b with b|b;exact t c l j (by simp[b]) n;rcases i j b with q|q;(grind);exact t c l j (by simp[q]) n;exact t c l j (by simp[b]) n;rw[FG r E.ne x2.ne F.ne,FG m L.ne N.ne O.ne,Cn hX x2.ne,FG T v.ne N.ne w.ne];have sub:∀{l:cR},gJ l->∀x∈jT h l,x∈l:=λA x s=>Aa A s;have B:gJ e:=r.sub (by simp);have C:gJ k:=r.sub (by simp);have l:gJ d:=m.sub (by simp);have n:gJ f:=m.sub (by simp);refine SF ?_ (λc a j b=>E.ne c (sub B c a) j<|sub u j b) (λc a j b=>F.ne c (sub u c a) j<|sub C j b) (λc a j b=>Q.ne c (sub l c a) j<|sub u j b) (λc a j b=>S.ne c (sub u c a) j<|sub n j b) (λc a j b=>L.ne c (sub l c a) j<|sub hW j b)<|λc a j b=>O.ne c (sub hW c a) j<|sub n j b;exact AK p o (g.imp_right<|λq x s=>q x<|by simpa using s) hD
section
open Conc.Locks
def ZE:MuLink where
 lock:=29
 unlock:=30
 ilock:=67
 iunlock:=68
 lockSlow:=112
 unlockSlow:=115
 disable:=108
 enable:=110
 acquire:=111
 relMerge:=113
 cas32:=109
 add32:=114
 tMutex:=85
 tIMutex:=83
 tPMutex:=160
 tPIMutex:=225
 tPI32:=227
 tUP:=148
 tNoCopy:=80
 tU32:=81
def YV:MuLib aZ ZE:=by
 constructor<;>first|kernel_rfl|(intro w;kernel_rfl)
def lock_free(a:Addr)(w:Y)(b:aW w a=H (jN 0))(c:w.frozen? a=aX):cY aZ 29 #[cX<|H a] w λe d=>e=aM (dq #[])/\d=cq w a (jN 1):=MuLone.lock_free YV a w b c
def unlock_deferred(a:Addr)(u:FrameMode)(w:Y)(b:aW w a=H (jN 1))(c:w.frozen? a=aX):CallsD aZ 30 #[cX<|H a] u w λf d e=>d=u/\(f=aM (dq #[])/\e=cq w a (jN 0)):=MuLone.unlock_deferred YV a u w b c
end
def DI{P:Program}{d:Array Oper}{Q:Exit->Act->Y->Prop}{h:Region.Mode}{S:Y->Prop}{i j o:M}{k l:Oper}{c:Array Bool}{p:Act}(s:d[i]?=H k)(t:d[j]?=H l)(q:k.guard=none)(r:l.guard=none)(n:Region.ready h d c=[i,j])(u:∀K:Act->Y->Prop,(∀f e,(i<o->S e)->nh P h d Q S o b (c.setIfInBounds i ci) f e->K f e)->Oper.wp P k p a K Q)(v:∀K:Act->Y->Prop,(∀f e,(j<o->S e)->nh P h d Q S o b (c.setIfInBounds j ci) f e->K f e)->Oper.wp P l p a K Q):nh P h d Q S o (b+1) c p a:=by
 refine⟨λm=>(by rw[n]at m;cases m),λw g=>?_⟩;rw[n]at g;rcases bJ.1 g with rfl|g;unfold wpOp;simp only[s];rw[dH<|by simp[Region.wanted,q]];grind
 (obtain rfl:w=j:=by simpa using g);unfold wpOp;simp only[t];rw[dH<|by simp[Region.wanted,r]];grind
section
open Extern.Stop Stop Extern
def JE(m n:X)(a:m≠n)(w:Y):(binOp .eql 47 (.iface 50<|ar m)<|.iface 50<|ar n).run aZ w=.ok (aN aX) w:=by
 obtain⟨i,c,b⟩:=pP.1 MC;have h:∀d:M,(Op.equalIn (d+2) 47 (.iface 50<|ar m)<|.iface 50<|ar n).run aZ w=.ok aX w:=λd=>by simp[Op.equalIn,fF underlying47,fF underlying50,typeInfo,c,b,a]
 simp only[binOp];simp[Op.equal,Op.maxDepth,h 9998]
def A3(v:ab)(a:TypeId)(w:Y):(Instr.typeAssert (.iface 50 v) a 266 ci).run aZ w=.ok (dq #[.nilIface,aN aX]) w:=run_typeAssert_lacksB underlying266 (by kernel_rfl) (by kernel_rfl) v a w
def A2(v:ab)(a:TypeId)(w:Y):(Instr.typeAssert (.iface 50 v) a 221 ci).run aZ w=.ok (dq #[.nilIface,aN aX]) w:=run_typeAssert_lacksB underlying221 (by kernel_rfl) (by kernel_rfl) v a w
def A1(v:ab)(a:TypeId)(w:Y):(Instr.typeAssert (.iface 50 v) a 222 ci).run aZ w=.ok (dq #[.nilIface,aN aX]) w:=run_typeAssert_lacksB underlying222 (by kernel_rfl) (by kernel_rfl) v a w
def OM(a:M)(m n:X)(b:m≠n)(w:Y)(h:aW w (R a 1)=H (ar m)):cY aZ 92 #[.iface 199<|aA a,.iface 50<|ar n,aN ci] w λe c=>e=aM (aN aX)/\c=w:=by
 have l:∀w,(binOp .eql 47 (.iface 199<|aA a)<|.iface 50<|ar n).run aZ w=.ok (aN aX) w:=λw=>run_eql_iface_types _ _ _ _ underlying47 (by decide) w;have o:=JE m n b;have p:=yZ;have f:=A4;have g:=ID;have i:=A3;have j:=A2;have k:=A1;have m1:=ww;have d:=zD a m w h;go_in
 go_wp2;refine gX 2 ?_;rw[gd];go_wp2_with fail
 apply d.mono;rintro e c⟨rfl,rfl⟩;go_wp2;rw[gd];go_wp2;go_ret;simp_all
def AV(a:M)(m n:X)(b:m≠n)(w:Y)(h:aW w (R a 1)=H (ar m)):cY aZ 55 #[.iface 199<|aA a,.iface 50<|ar n] w λg c=>g=aM (aN aX)/\c=w:=by
 have j:=yZ;have d:=@bX aZ 91 _ ReflectliteType.typeOf func91 (by kernel_rfl) (by kernel_rfl) (by kernel_rfl) (by kernel_rfl);have e:=@bX aZ 328 _ (ReflectliteType.method (λt=>do Rtype.noPackHeld "Comparable" t;pure (aN (<-typeInfo t).comparable))) func328 (by kernel_rfl) (by kernel_rfl) (by kernel_rfl) (by kernel_rfl);have l:=wh;have k:=sw;have i:=yn;have f:=OM a m n b w h;go_in
 go_wp2_with fail
 apply f.mono;rintro g c⟨rfl,rfl⟩;go_wp2;go_ret;simp_all
end
