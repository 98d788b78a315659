import Derived.LoopIn
import Derived.LoopNIn
import Derived.OwnWalkIn
import Derived.RangeFuncBound
import Derived.RangeFuncCalls
import Derived.RangeFuncLeaves
import Derived.RangeFuncNested
import Derived.Shelf.AbstractIn
import Derived.Shelf.RegionOpen
import Derived.Sort.LoopGhostIn
import Derived.TacticsInMore
import Derived.Test.YtophdnlmpfmeiaaGreatDoorC10
namespace Go.Proofs.YtophdnlmpfmeiaaGreatDoor
open ChangeShapes WideShapes RowKit Proofs.Tryz
set_option maxHeartbeats 16000000
set_option linter.all false
set_option maxRecDepth 100000
structure Hd where
 v:M
 l:List E
 fr:E
 full:Bool
 ended:Bool
 S:Nat->Prop
def Hd.cells(h:Hd):List M:=[h.v,.string h.fr.key,.string h.fr.val,.bool h.fr.del,.int .u64 h.fr.bV,.bool h.full,.bool h.ended]
def cQ(hs:List Hd):List M:=hs.flatMap Hd.cells
def Hd.rest(h:Hd):List E:=if h.full then h.fr::h.l else h.l
theorem jP(hs:List Hd):(cQ hs).length=hs.length*7:=by
 induction hs with
 |nil=>rfl
 |cons h r c=>unfold cQ at*;rw[cF,ag,c];simp[Hd.cells];omega
theorem mu(hs:List Hd)(i:Nat)(h:i<hs.length):cQ hs=cQ (hs.take i)++(Hd.cells hs[i]++cQ (hs.drop (i+1))):=by
 have c:hs=hs.take i++hs[i]::hs.drop (i+1):=by rw[<-bm h,bF]
 conv=>lhs;rw[c]
 simp only[cQ,dZ,cF]
theorem oq(hs:List Hd)(i j:Nat)(h:i<hs.length)(d:j<7):(cQ hs)[i*7+j]?=(Hd.cells hs[i])[j]?:=by
 have c:(cQ (hs.take i)).length=i*7:=by rw[jP];simp;omega
 rw[mu hs i h,dD (by omega),c,show i*7+j-i*7=j by omega,fH (by simp[Hd.cells];omega)]
theorem Ce(hs:List Hd)(i:Nat)(h:i<hs.length)(x:Hd)(e:x.v=hs[i].v):(((((((cQ hs).set (i*7+1) (.string x.fr.key)).set (i*7+2) (.string x.fr.val)).set (i*7+3) (.bool x.fr.del)).set (i*7+4) (.int .u64 x.fr.bV)).set (i*7+5) (.bool x.full)).set (i*7+6) (.bool x.ended))=cQ (hs.set i x):=by
 have d:(cQ (hs.take i)).length=i*7:=by rw[jP];simp;omega
 have c:cQ (hs.set i x)=cQ (hs.take i)++(Hd.cells x++cQ (hs.drop (i+1))):=by
  rw[gx,dr h];simp only[cQ,dZ,cF]
 rw[c,mu hs i h];rw[eD _ _ (by omega),eD _ _ (by omega),eD _ _ (by omega),eD _ _ (by omega),eD _ _ (by omega),eD _ _ (by omega),d];rw[show i*7+1-i*7=1 by omega,show i*7+2-i*7=2 by omega,show i*7+3-i*7=3 by omega,show i*7+4-i*7=4 by omega,show i*7+5-i*7=5 by omega,show i*7+6-i*7=6 by omega];simp[Hd.cells,e]
theorem Aj(hs:List Hd)(i:Nat)(h:i<hs.length)(x:Hd)(e:x={hs[i]with full:=x.full}):(cQ hs).set (i*7+5) (.bool x.full)=cQ (hs.set i x):=by
 have d:(cQ (hs.take i)).length=i*7:=by rw[jP];simp;omega
 have c:cQ (hs.set i x)=cQ (hs.take i)++(Hd.cells x++cQ (hs.drop (i+1))):=by
  rw[gx,dr h];simp only[cQ,dZ,cF]
 rw[c,mu hs i h,eD _ _ (by omega),d,show i*7+5-i*7=5 by omega];rw[e];simp[Hd.cells]
structure Ke(V:gz)(n0:Nat)(w:J)(h:Hd):Prop where
 gives:h.ended=false->gy V n0 h.v h.l h.S w
 own:re V n0 h.S w
 done:h.ended=true->h.l=[]/\h.full=false
theorem Ke.same{V:gz}{n0:Nat}{w w':J}{h:Hd}(o:Ke V n0 w h)(hs:ia V n0 h.S w w'):Ke V n0 w' h:=⟨λe=>(o.gives e).same hs,o.own.same hs,o.done⟩
structure gK(V:gz)(n0:Nat)(w:J)(b a:Nat)(hs:List Hd):Prop where
 box:dY w b (.slice (some ⟨a,0,none⟩) hs.length hs.length) 311
 row:w.heap[a]?=some (.cells (cQ hs).toArray 313 (0,0))
 each:∀i(hi:i<hs.length),Ke V n0 w hs[i]
 size:n0<=w.heap.size
 aH:∀k,V.F k->k<n0
 own:n0<=b/\n0<=a
 bh:b≠a
 nS:∀i(hi:i<hs.length)k,hs[i].S k->k≠b/\k≠a
 Ex:∀i j(hi:i<hs.length)(hj:j<hs.length),i≠j->∀k,hs[i].S k->¬hs[j].S k
def jg(b a:Nat)(hs:List Hd)(k:Nat):Prop:=k=b\/k=a\/∃i,∃c:i<hs.length,hs[i].S k
section
variable{V:gz}{n0:Nat}{w w':J}{b a:Nat}{hs:List Hd}
theorem gK.lN(h:gK V n0 w b a hs):re V n0 (jg b a hs) w:=⟨h.size,h.aH,by
 rintro k(rfl|rfl|⟨i,c,d⟩)
 ·exact⟨h.own.1,ak h.box⟩
 ·exact⟨h.own.2,ak h.row⟩
 ·exact(h.each i c).own.each k d⟩
theorem gK.same(h:gK V n0 w b a hs)(c:ia V n0 (jg b a hs) w w'):gK V n0 w' b a hs:=⟨h.box.same c (.inl rfl),(c.2 a (.inr (.inr (.inl rfl)))).trans h.row,λi d=>(h.each i d).same (c.mono (λ_ e=>.inr (.inr ⟨i,d,e⟩))),aB h.size c.1,h.aH,h.own,h.bh,h.nS,h.Ex⟩
theorem gK.apart{T:Nat->Prop}(h:gK V n0 w b a hs)(g:I T w w')(e:∀k,T k->¬jg b a hs k/\(k<n0->V.F k)):gK V n0 w' b a hs:=h.same (g.same h.size (λk c=>⟨(h.lN.each k c).2,λl=>(e k l).1 c⟩) (λk c d=>(e k c).2 d))
theorem gK.laid(h:gK V n0 w b a hs)(o:Obj):gK V n0 (w.alloc o) b a hs:=h.apart ((I.refl (λ_=>False) w).alloc o) (λ_ c=>c.elim)
theorem gK.put(h:gK V n0 w b a hs)(i:Nat)(s:i<hs.length)(x:Hd)(G:I (λk=>(hs[i].S k\/V.F k)\/k=a) w w')(K:w'.heap[a]?=some (.cells (cQ (hs.set i x)).toArray 313 (0,0)))(O:Ke V n0 w' x)(B:∀k,x.S k->hs[i].S k\/w.heap.size<=k):gK V n0 w' b a (hs.set i x):=by
 have hF:∀k,n0<=k->¬V.F k:=λk d g=>by have:=h.aH k g;omega
 have C:dY w' b (.slice (some ⟨a,0,none⟩) hs.length hs.length) 311:=by
  refine(G.block b (ak h.box) ?_).trans h.box;rintro((c|c)|c)
  ·exact(h.nS i s b c).1 rfl
  ·exact hF b h.own.1 c
  ·exact h.bh c
 refine⟨by rw[fB];exact C,K,λj D=>?_,aB h.size G.size,h.aH,h.own,h.bh,λj D k d=>?_,λz y E F r k d=>?_⟩
 ·rw[iQ];split
  ·exact O
  ·rename_i r;have g:j<hs.length:=by simpa using D
   refine(h.each j g).same (G.same h.size (λk d=>⟨((h.each j g).own.each k d).2,?_⟩) (λk d o=>?_))
   ·rintro((c|c)|c)
    ·exact h.Ex i j s g r k c d
    ·exact hF k ((h.each j g).own.each k d).1 c
    ·exact(h.nS j g k d).2 c
   ·rcases d with(c|c)|c
    ·have:=((h.each i s).own.each k c).1;omega
    ·exact c
    ·have:=h.own.2;omega
 ·rw[iQ]at d;split at d
  ·rcases B k d with c|c
   ·exact h.nS i s k c
   ·have g:=ak h.box;have o:=ak h.row;exact⟨by omega,by omega⟩
  ·exact h.nS j (by simpa using D) k d
 ·rw[iQ]at d|-;have g:z<hs.length:=by simpa using E
  have o:y<hs.length:=by simpa using F
  split at d
  ·rename_i A;have H:¬i=y:=λc=>r (A.symm.trans c);rw[dd H];rcases B k d with c|c
   ·exact h.Ex i y s o H k c
   ·intro c2;have:=((h.each y o).own.each k c2).2;omega
  ·rename_i A;split
   ·intro c2;rcases B k c2 with c|c
    ·exact h.Ex i z s g A k c d
    ·have:=((h.each z g).own.each k d).2;omega
   ·exact h.Ex z y g o r k d
end
def oZ{w:J}{b:Nat}{hs:List Hd}(h:w.heap[b]?=some (.cells (cQ hs).toArray 313 (0,0)))(i:Nat)(c:i<hs.length):(w.cell? ⟨b,i*7+1,none⟩=some (.string hs[i].fr.key)/\w.cell? ⟨b,i*7+1+1,none⟩=some (.string hs[i].fr.val)/\w.cell? ⟨b,i*7+1+2,none⟩=some (.bool hs[i].fr.del)/\w.cell? ⟨b,i*7+1+3,none⟩=some (.int .u64 hs[i].fr.bV)/\w.cell? ⟨b,i*7+5,none⟩=some (.bool hs[i].full)/\w.cell? ⟨b,i*7+6,none⟩=some (.bool hs[i].ended))/\∀o,w.frozen? ⟨b,o,none⟩=false:=by
 have a:∀j,j<7->w.cell? ⟨b,i*7+j,none⟩=(Hd.cells hs[i])[j]?:=λj d=>by rw[aj h];simp only[mM];exact oq hs i j c d
 exact⟨⟨a 1 (by decide),by rw[aP];exact a 2 (by decide),by rw[aP];exact a 3 (by decide),by rw[aP];exact a 4 (by decide),a 5 (by decide),a 6 (by decide)⟩,λo=>cG h⟩
def Dw(w:J)(a i:Nat)(x:Hd):J:=(((((w.setCell ⟨a,i*7+1,none⟩ (.string x.fr.key)).setCell ⟨a,i*7+1+1,none⟩ (.string x.fr.val)).setCell ⟨a,i*7+1+2,none⟩ (.bool x.fr.del)).setCell ⟨a,i*7+1+3,none⟩ (.int .u64 x.fr.bV)).setCell ⟨a,i*7+5,none⟩ (.bool x.full)).setCell ⟨a,i*7+6,none⟩ (.bool x.ended)
def IJ(w:J)(a i:Nat)(x:Hd):I (λk=>k=a) w (Dw w a i x):=((((((I.refl (λk=>k=a) w).setCell a _ _ (.inl rfl)).setCell a _ _ (.inl rfl)).setCell a _ _ (.inl rfl)).setCell a _ _ (.inl rfl)).setCell a _ _ (.inl rfl)).setCell a _ _ (.inl rfl)
def Lb{w:J}{b:Nat}{a:List Hd}(h:w.heap[b]?=some (.cells (cQ a).toArray 313 (0,0)))(i:Nat)(c:i<a.length)(x:Hd)(d:x.v=a[i].v):(Dw w b i x).heap[b]?=some (.cells (cQ (a.set i x)).toArray 313 (0,0)):=by
 refine(aL (aL (aL (aL (aL (aL h)))))).trans ?_;simp only[ab];rw[<-Ce a i c x d]
def Es{V:gz}{n0:Nat}{y c:J}{p a:Nat}{b:List Hd}(l:gK V n0 y p a b)(i:Nat)(o:i<b.length)(X:Hd)(x:Obj)(C:X.v=b[i].v)(u:I (λk=>b[i].S k\/V.F k) y c)(q:V.D c)(r:c.heap[a]?=some (.cells (cQ b).toArray 313 (0,0)))(B:X.ended=false->gy V n0 X.v X.l X.S c)(d:re V n0 X.S c)(g:X.ended=true->X.l=[]/\X.full=false)(s:∀k,X.S k->b[i].S k\/y.heap.size<=k)(h:X.rest=b[i].rest)(v:X.full=true\/X.ended=true):V.D ((Dw c a i X).alloc x)/\I (λk=>jg p a b k\/V.F k) y ((Dw c a i X).alloc x)/\∃z:Hd,gK V n0 ((Dw c a i X).alloc x) p a (b.set i z)/\z.rest=b[i].rest/\(z.full=true\/z.ended=true)/\(∀k,z.S k->b[i].S k\/y.heap.size<=k):=by
 have j:I (λk=>k=a) c ((Dw c a i X).alloc x):=(IJ _ _ _ _).alloc _;have m:I (λk=>(b[i].S k\/V.F k)\/k=a) y ((Dw c a i X).alloc x):=(u.mono (T:=λk=>(b[i].S k\/V.F k)\/k=a) (λk f=>.inl (.inl f))).trans j (λk f=>.inl (.inr f));have w:((Dw c a i X).alloc x).heap[a]?=some (.cells (cQ (b.set i X)).toArray 313 (0,0)):=by
  have:=Lb r i o X C;exact(dL _ (ak this)).trans this
 have t:∀k,X.S k->¬k=a:=λk f n=>by
  rcases s k f with D|D
  ·exact(l.nS i o k D).2 n
  ·have:=ak l.row;omega
 have e:=j.same (V:=V) (n0:=n0) (S:=X.S) d.size (λk f=>⟨(d.each k f).2,t k f⟩) (λk f a=>by have:=l.own.2;omega);refine⟨V.dF q j (λk f A=>by have:=l.aH k A;have:=l.own.2;omega),m.mono ?_,X,l.put i o X m w ⟨λn=>(B n).same e,d.same e,g⟩ s,h,v,s⟩;rintro k((n|n)|n)
 ·exact .inl (.inl (.inr (.inr ⟨i,o,n⟩)))
 ·exact .inl (.inr n)
 ·exact .inl (.inl (.inr (.inl n)))
def Mf(V:gz)(n0:Nat)(Q:J)(X j:Nat)(hs:List Hd)(i:Nat)(m:i<hs.length)(ad:gK V n0 Q X j hs)(hD:V.D Q):Calls prog 191 #[.pointer (some ⟨j,i*7,none⟩)] Q λal w'=>al=.returned .nilIface/\V.D w'/\I (λP=>jg X j hs P\/V.F P) Q w'/\∃x:Hd,gK V n0 w' X j (hs.set i x)/\x.rest=hs[i].rest/\(x.full=true\/x.ended=true)/\(∀P,x.S P->hs[i].S P\/Q.heap.size<=P):=by
 have h:∀a,a<7->Q.cell? ⟨j,i*7+a,none⟩=(Hd.cells hs[i])[a]?:=λa b=>by rw[aj ad.row];simp only[mM];exact oq hs i a m b
 have y:=h 0 (by decide);have b:=h 5 (by decide);have e:=h 6 (by decide);have g:=Z ad;have O:=Z hD;have o:=ad.each i m;clear ad hD h;have s:hs.set i hs[i]=hs:=List.set_getElem_self m;have q:=Z s;clear s;cases hfu:hs[i].full with
 |true=>
  simp only[Hd.cells,hfu]at b y;simp at b;have k:=Z hfu;clear hfu o e y;go_enter func191,ntmps191
  go_wp2;go_ret;refine⟨rfl,Y O,I.refl _ _,hs[i],?_,rfl,.inl (Y k),λP F=>.inl F⟩;rw[Y q];exact Y g
 |false=>
  cases hen:hs[i].ended with
  |true=>
   simp only[Hd.cells,hfu,hen]at b y e;simp at b e;have k:=Z hfu;have z:=Z hen;clear hfu hen o y;go_enter func191,ntmps191
   go_wp2;go_ret;refine⟨rfl,Y O,I.refl _ _,hs[i],?_,rfl,.inr (Y z),λP F=>.inl F⟩;rw[Y q];exact Y g
  |false=>
   obtain⟨ac,cb,w,eg,c⟩:=o.gives hen;simp only[Hd.cells,hfu,hen,w]at b y e;simp at b e y;have k:=Z hfu;have z:=Z hen;have W:=Z w;have R:=Z (show Enters prog ac from eg);clear hfu hen o w;cases hl:hs[i].l with
   |nil=>
    rw[hl]at c;have D:=c.2 Q (ia.refl _ _ _ _) (Y O);clear c;have T:=Z hl;clear hl;go_enter func191,ntmps191
    go_wp2_with(go_at_fn ac;refine D.mono ?_;rintro al w1⟨rfl,l,f⟩;have d:w1.heap[j]?=some (.cells (cQ hs).toArray 313 (0,0)):=(f.block j (ak (Y g).row) (λv=>v.elim (λv=>((Y g).nS i m j v).2 rfl) (λv=>by have:=(Y g).aH j v;have:=(Y g).own.2;omega))).trans (Y g).row;obtain⟨⟨c1,c2,c3,c4,c5,c6⟩,a⟩:=oZ d i m;have g1:=a (i*7+1);have g2:=a (i*7+1+1);have g3:=a (i*7+1+2);have g4:=a (i*7+1+3);have g5:=a (i*7+5);have g6:=a (i*7+6);have G:=ak d;have u:=Z d;have t:=Z l;have n:=Z f;clear d a l f;unfold tQ)
    go_ret;have p:=Y g;refine⟨rfl,Es p i m ⟨hs[i].v,[],zE,false,true,hs[i].S⟩ _ rfl (Y n) (Y t) (Y u) (λv=>by cases v) ((p.each i m).own.ay (Y n)) (λ_=>⟨rfl,rfl⟩) (λP F=>.inl F) ?_ (.inr rfl)⟩;unfold Hd.rest;rw[Y k,Y T];rfl
   |cons x an=>
    rw[hl]at c;have D:=c.2 Q (ia.refl _ _ _ _) (Y O);clear c;have T:=Z hl;clear hl;obtain⟨K,L,H,p⟩:=x;unfold E.value at D;simp only at D;go_enter func191,ntmps191
    go_wp2_with(go_at_fn ac;refine D.mono ?_;rintro al w1⟨rfl,l,f,S1,C,B⟩;have d:w1.heap[j]?=some (.cells (cQ hs).toArray 313 (0,0)):=(f.block j (ak (Y g).row) (λv=>v.elim (λv=>((Y g).nS i m j v).2 rfl) (λv=>by have:=(Y g).aH j v;have:=(Y g).own.2;omega))).trans (Y g).row;obtain⟨⟨c1,c2,c3,c4,c5,c6⟩,a⟩:=oZ d i m;have g1:=a (i*7+1);have g2:=a (i*7+1+1);have g3:=a (i*7+1+2);have g4:=a (i*7+1+3);have g5:=a (i*7+5);have g6:=a (i*7+6);have G:=ak d;have u:=Z d;have t:=Z l;have n:=Z f;have U:=Z C;have A:=Z B;clear d a l f C B)
    go_ret;have r:=Y A;refine⟨rfl,Es (Y g) i m ⟨hs[i].v,an,⟨K,L,H,p⟩,true,false,S1⟩ _ rfl (Y n) (Y t) (Y u) (λ_=>⟨ac,cb,Y W,Y R,r⟩) r.own (λv=>by cases v) (Y U) ?_ (.inl rfl)⟩;unfold Hd.rest;rw[Y k,Y T];rfl
def zM:Option Nat->Int
 |none=>-1
 |some b=>b
def gZ(hs:List Hd):List (List E):=hs.map Hd.rest
def IB(hs:List Hd)(i:Nat)(d:i<hs.length)(x:Hd)(a:x.rest=hs[i].rest):gZ (hs.set i x)=gZ hs:=by
 unfold gZ;rw[uD,a];refine List.ext_getElem (by simp) (λj b c=>?_);rw[iQ];split
 ·rename_i e;subst e;simp
 ·rfl
def sO{hs:List Hd}{i:Nat}(a:i<hs.length):jc (gZ hs) i=hs[i].rest.head?:=by
 unfold jc gZ;simp[a]
def zU{a b:Nat}{hs:List Hd}{i:Nat}(f:i<hs.length){x:Hd}{N:Nat}(e:∀k,x.S k->hs[i].S k\/N<=k):∀k,jg a b (hs.set i x) k->jg a b hs k\/N<=k:=by
 rintro k(c|c|⟨j,g,c⟩)
 ·exact .inl (.inl c)
 ·exact .inl (.inr (.inl c))
 ·rw[iQ]at c;split at c
  ·rcases e k c with d|d
   ·exact .inl (.inr (.inr ⟨i,f,d⟩))
   ·exact .inr d
  ·exact .inl (.inr (.inr ⟨j,by simpa using g,c⟩))
def rP(w:J)(q:Nat):I (λ_=>False) w (w.drewN q):=⟨rfl,rfl,rfl,ai _,λ_ _ _=>rfl⟩
def Cw{hs:List (List E)}{n:Nat}{e:E}(h:jc hs n=some e)(a:im hs n=none):im hs (n+1)=some n:=by
 unfold im;rw[h,a]
def Cv{hs:List (List E)}{n b:Nat}{e f:E}(h:jc hs n=some e)(a:im hs n=some b)(c:jc hs b=some f):im hs (n+1)=if ahead e f then some n else some b:=by
 conv=>lhs;unfold im
 rw[h,a];simp only[c,gg]
def zA{a:List Hd}{n:Nat}{x:Hd}(h:∀j(b:j<a.length),j<n->a[j].full=true\/a[j].ended=true)(e:x.full=true\/x.ended=true):∀j(b:j<(a.set n x).length),j<n+1->(a.set n x)[j].full=true\/(a.set n x)[j].ended=true:=by
 intro j b c;rw[iQ];split
 ·exact e
 ·rename_i d;exact h j (by simpa using b) (by omega)
def xh(V:gz)(n0:Nat)(y:J)(m b:Nat)(hs:List Hd)(bv:gK V n0 y m b hs)(hD:V.D y)(hn:hs.length<=1000000000000):Calls prog 190 #[.pointer (some ⟨m,0,none⟩)] y λbt ao=>V.D ao/\I (λk=>jg m b hs k\/V.F k) y ao/\((iU (gZ hs)=[]/\bt=.returned (.tuple #[tQ,.bool false,.nilIface]))\/(∃x a,iU (gZ hs)=x::iU (gZ a)/\bt=.returned (.tuple #[x.value,.bool true,.nilIface])/\gK V n0 ao m b a/\a.length=hs.length/\(∀k,jg m b a k->jg m b hs k\/y.heap.size<=k))):=by
 have bd:=bv.lN;have ck:=ak bv.box;have cm:=bv.box.cell;have h:=Z bd;have HH:=Z bv;have HD:=Z hD;clear bv hD bd;go_enter func190,ntmps190
 go_wp2;go_loopw [4,9] (λc i wr=>∃(n:Nat)(a:List Hd),n<=hs.length/\i=.int .i64 n/\c=.int .i64 (zM (im (gZ hs) n))/\gK V n0 wr m b a/\a.length=hs.length/\gZ a=gZ hs/\(∀bo(hj:bo<a.length),bo<n->a[bo].full=true\/a[bo].ended=true)/\V.D wr/\I (λk=>jg m b hs k\/V.F k) y wr/\fX wr y.heap.size zE/\(∀k,jg m b a k->jg m b hs k\/y.heap.size+1<=k)) (λ_ i _=>hs.length-(intOf i).toNat)
 case atStart=>
  have bv:=Y HH;exact⟨0,hs,aU _,rfl,rfl,bv.laid _,rfl,rfl,λbo _ hj=>by omega,V.dF (Y HD) ((I.refl (λ_=>False) y).alloc _) (λ_ j=>j.elim),(I.refl _ _).alloc _,az _ rfl,λk g=>.inl g⟩
 case round=>
  obtain⟨n,a,cn,rfl,rfl,t,K,w,B,u,hT,z,hS⟩:=hrel;have bT:=t.box.cell;rw[K]at bT;by_cases bh:n<hs.length
  ·have al:=Mf V n0 wr m b a n (by omega) t u;have bq:=Z w;have ax:=Z B;have HT:=Z hT;have HE:=Z z;have HS:=Z hS;clear t u hT z hS w B;obtain⟨Q,l⟩:∃Q,im (gZ hs) n=Q:=⟨_,rfl⟩;rw[l];have G:=Z l;clear l;go_wp2_with(go_at_call 191;refine al.mono ?_;rintro bt w1⟨rfl,bc,bf,x,hA1,bi,bk,bl⟩;have bp:=Z bc;have bb:=Z bf;have o:=Z hA1;have br:=Z bi;have ac:=Z bk;have bs:=Z bl;clear bc bf hA1 bi bk bl)
   have C:n<a.length:=by omega
   have an:n<(a.set n x).length:=by simpa using C
   obtain⟨⟨c1,c2,c3,c4,c5,c6⟩,v⟩:=oZ (Y o).row n an;rw[mL]at c1 c2 c3 c4 c5 c6;have bx:=(Y o).box.cell;rw[fB,K]at bx;have F:gZ (a.set n x)=gZ hs:=(IB a n C x (Y br)).trans (Y bq);have bg:jc (gZ hs) n=x.rest.head?:=by rw[<-F,sO an,mL]
   have P:=Z F;have ba:=Z bg;clear F bg v;have cb:y.heap.size<wr.heap.size:=ak (Y HE);have X:∀(ad:J)(D:Int),I (λ_=>False) w1 ad->zM (im (gZ hs) (n+1))=D->∃(d:Nat)(c:List Hd),d<=hs.length/\Value.int .i64 ((n:Int)+1)=.int .i64 d/\Value.int .i64 D=.int .i64 (zM (im (gZ hs) d))/\gK V n0 ad m b c/\c.length=hs.length/\gZ c=gZ hs/\(∀bo(hj:bo<c.length),bo<d->c[bo].full=true\/c[bo].ended=true)/\V.D ad/\I (λk=>jg m b hs k\/V.F k) y ad/\fX ad y.heap.size zE/\(∀k,jg m b c k->jg m b hs k\/y.heap.size+1<=k):=by
    intro ad D A W;refine⟨n+1,a.set n x,bh,rfl,by rw[W],(Y o).apart A (λ_ j=>j.elim),by rw[fB];exact K,Y P,zA (Y ax) (Y ac),V.dF (Y bp) A (λ_ j=>j.elim),?_,?_,?_⟩
    ·refine(((Y HT).trans (Y bb) ?_).trans A (λ_ j=>j.elim));rintro k(j|j)
     ·rcases(Y HS) k j with L|L
      ·exact .inl (.inl L)
      ·exact .inr (by omega)
     ·exact .inl (.inr j)
    ·refine((Y HE).ay (Y bb) ?_).ay A (λj=>j);rintro(j|j)
     ·rcases(Y HS) _ j with L|L
      ·have:=((Y h).each _ L).2;omega
      ·omega
     ·have:=(Y h).aH _ j;have:=(Y h).size;omega
    ·intro k g;rcases zU C (Y bs) k g with L|L
     ·exact(Y HS) k L
     ·exact .inr (by omega)
   have s:=Z X;clear X cb;cases hfu:x.full with
   |false=>
    rw[hfu]at c5;have W:x.ended=true:=(Y ac).resolve_left (by rw[hfu];simp);have ad:=((Y o).each n an).done;rw[mL]at ad;have bn:=ad W;have D:jc (gZ hs) n=none:=by rw[Y ba];unfold Hd.rest;rw[hfu,bn.1];rfl
    have A:im (gZ hs) (n+1)=Q:=by unfold im;rw[D];exact Y G
    have O:=Z A;clear A D bn ad W hfu;go_quiet(fail)
    go_wp2;go_roundw;case rel=>exact(Y s) _ _ (rP _ _) (by rw[Y O])
    case measure=>simp[intOf];omega
   |true=>
    rw[hfu]at c5;have v:jc (gZ hs) n=some x.fr:=by rw[Y ba];unfold Hd.rest;rw[hfu];rfl
    cases Q with
    |none=>
     have O:=Z (Cw v (Y G));clear v hfu;simp only[zM];go_quiet(fail)
     go_wp2;go_roundw;case rel=>exact(Y s) _ _ (rP _ _) (by rw[Y O];rfl)
     case measure=>simp[intOf];omega
    |some e=>
     obtain⟨ca,H,r,_⟩:=pT (Y G);have O:=Z (Cv v (Y G) r);have f:e<(a.set n x).length:=by omega
     have c:(a.set n x)[e].rest.head?=some H:=by rw[<-sO f,Y P];exact r
     have d:(a.set n x)[e].full=true:=by
      rcases zA (Y ax) (Y ac) e f (by omega)with j|j
      ·exact j
      ·have:=((Y o).each e f).done j;unfold Hd.rest at c;rw[this.2,this.1]at c;cases c
     have q:(a.set n x)[e].fr=H:=by
      unfold Hd.rest at c;rw[d]at c;simpa using c
     obtain⟨⟨d1,d2,d3,d4,_,_⟩,_⟩:=oZ (Y o).row e f;rw[q]at d1 d2 d3 d4;have A:=Kc x.fr H;have bn:=ak (Y o).row;have ad:=ak (Y o).box;generalize x.fr=xf at*;obtain⟨xk,xv,W,D⟩:=xf;obtain⟨T,U,R,p⟩:=H;simp only at c1 c2 c3 c4 d1 d2 d3 d4;simp only[E.value]at A;clear v hfu r c d q c6;simp only[zM];have i1:(0:Int)<=(e:Int):=by omega
     have i2:(e:Int)<(hs.length:Int):=by omega
     have i3:e<hs.length:=by omega
     have i4:¬(e:Int)<0:=by omega
     have i5:(0:Int)<=(n:Int):=by omega
     have i6:(n:Int)<(hs.length:Int):=by omega
     cases hax:ahead ⟨xk,xv,W,D⟩ ⟨T,U,R,p⟩with
     |true=>
      rw[hax]at O A;go_region_held3(λX=>X.cell? ⟨m,0,none⟩=some (.slice (some ⟨b,0,none⟩) hs.length hs.length)/\X.cell? ⟨b,n*7+5,none⟩=some (.bool true)/\(X.cell? ⟨b,n*7+1,none⟩=some (.string xk)/\X.cell? ⟨b,n*7+1+1,none⟩=some (.string xv)/\X.cell? ⟨b,n*7+1+2,none⟩=some (.bool W)/\X.cell? ⟨b,n*7+1+3,none⟩=some (.int .u64 D))/\(X.cell? ⟨b,e*7+1,none⟩=some (.string T)/\X.cell? ⟨b,e*7+1+1,none⟩=some (.string U)/\X.cell? ⟨b,e*7+1+2,none⟩=some (.bool R)/\X.cell? ⟨b,e*7+1+3,none⟩=some (.int .u64 p))) (first|assumption|go_keep) (first
       |(go_at_call 192;refine(A _).mono ?_;rintro bt w2⟨rfl,rfl⟩))
      go_wp2;go_roundw;case rel=>
       refine(Y s) _ _ ?_ (by rw[Y O];rfl);exact((((I.refl (λ_=>False) w1).alloc _).alloc _)).trans (rP _ 1) (λ_ j=>j.elim)
      case measure=>simp[intOf];omega
     |false=>
      rw[hax]at O A;go_region_held3(λX=>X.cell? ⟨m,0,none⟩=some (.slice (some ⟨b,0,none⟩) hs.length hs.length)/\X.cell? ⟨b,n*7+5,none⟩=some (.bool true)/\(X.cell? ⟨b,n*7+1,none⟩=some (.string xk)/\X.cell? ⟨b,n*7+1+1,none⟩=some (.string xv)/\X.cell? ⟨b,n*7+1+2,none⟩=some (.bool W)/\X.cell? ⟨b,n*7+1+3,none⟩=some (.int .u64 D))/\(X.cell? ⟨b,e*7+1,none⟩=some (.string T)/\X.cell? ⟨b,e*7+1+1,none⟩=some (.string U)/\X.cell? ⟨b,e*7+1+2,none⟩=some (.bool R)/\X.cell? ⟨b,e*7+1+3,none⟩=some (.int .u64 p))) (first|assumption|go_keep) (first
       |(go_at_call 192;refine(A _).mono ?_;rintro bt w2⟨rfl,rfl⟩))
      go_wp2;go_roundw;case rel=>
       refine(Y s) _ _ ?_ (by rw[Y O];rfl);exact((((I.refl (λ_=>False) w1).alloc _).alloc _)).trans (rP _ 1) (λ_ j=>j.elim)
      case measure=>simp[intOf];omega
  ·have cj:n=hs.length:=by omega
   subst cj;obtain⟨Q,l⟩:∃Q,im (gZ hs) hs.length=Q:=⟨_,rfl⟩;rw[l];cases Q with
   |none=>
    have hm:=sU (hs:=gZ hs) (by rw[show(gZ hs).length=hs.length by simp[gZ]];exact l);have v:=Z hm;have o:=Z u;have HT:=Z hT;have HE:=Z z;obtain⟨br,bs,bx,cb⟩:=z.cells;have cc:=z.free (i:=0);have cd:=z.free (i:=1);have ce:=z.free (i:=2);have ch:=z.free (i:=3);clear hm l t u hT z hS w B;simp only[zM];go_wp2;refine bO (ez rfl _ _ y.heap.size zE _ _ rfl ((Y HE).put zE)) rfl ?_;have s:I (λk=>k=y.heap.size) wr (qK wr y.heap.size zE):=gq _ _ _;exact⟨V.dF (Y o) s (λk g hf=>by have:=(Y h).aH k hf;have:=(Y h).size;omega),(Y HT).trans s (λk g=>.inr (by omega)),.inl ⟨Y v,rfl⟩⟩
   |some e=>
    have bc:(gZ hs).length=hs.length:=by simp[gZ]
    obtain⟨ca,H,r,_⟩:=pT l;have hm:=sS (hs:=gZ hs) (by rw[bc];exact l) r;have f:e<a.length:=by omega
    have c:a[e].rest.head?=some H:=by rw[<-sO f,w];exact r
    have d:a[e].full=true:=by
     rcases B e f (by omega)with j|j
     ·exact j
     ·have:=(t.each e f).done j;unfold Hd.rest at c;rw[this.2,this.1]at c;cases c
    have q:a[e].fr=H:=by
     unfold Hd.rest at c;rw[d]at c;simpa using c
    have v:a[e].ended=false:=by
     cases j:a[e].ended with
     |false=>rfl
     |true=>have:=((t.each e f).done j).2;rw[d]at this;cases this
    obtain⟨⟨d1,d2,d3,d4,d5,_⟩,D⟩:=oZ t.row e f;have g5:=D (e*7+5);rw[q]at d1 d2 d3 d4;have G:gZ (a.set e {a[e]with full:=false})=(gZ hs).modify e List.tail:=by
     rw[<-w];unfold gZ;rw[uD];refine List.ext_getElem (by simp) (λbo h1 h2=>?_);rw[iQ,List.getElem_modify];split
     ·rename_i bt;subst bt;simp[Hd.rest,d]
     ·simp
    have A:(wr.setCell ⟨b,e*7+5,none⟩ (.bool false)).heap[b]?=some (.cells (cQ (a.set e {a[e]with full:=false})).toArray 313 (0,0)):=by
     refine(aL t.row).trans ?_;simp only[ab];rw[<-Aj a e f {a[e]with full:=false} rfl]
    have bg:I (λk=>(a[e].S k\/V.F k)\/k=b) wr (wr.setCell ⟨b,e*7+5,none⟩ (.bool false)):=(I.refl (λk=>(a[e].S k\/V.F k)\/k=b) wr).setCell b _ _ (.inl (.inr rfl));have C:I (λk=>k=b) wr (wr.setCell ⟨b,e*7+5,none⟩ (.bool false)):=(I.refl (λk=>k=b) wr).setCell b _ _ (.inl rfl);have F:Ke V n0 (wr.setCell ⟨b,e*7+5,none⟩ (.bool false)) {a[e]with full:=false}:=by
     have ac:=t.each e f;have bf:=C.same (V:=V) (n0:=n0) (S:=a[e].S) t.size (λk g=>⟨(ac.own.each k g).2,λj=>(t.nS e f k g).2 j⟩) (λk g bh=>by have:=t.own.2;omega);exact⟨λj=>(ac.gives v).same bf,ac.own.same bf,λj=>by rw[v]at j;cases j⟩
    have O:=t.put e f {a[e]with full:=false} bg A F (λk g=>.inl g);have bb:¬y.heap.size=b:=λj=>by have:=ak (Y HH).row;omega
    have cl:¬b=y.heap.size:=λj=>bb j.symm;have o:fX (wr.setCell ⟨b,e*7+5,none⟩ (.bool false)) y.heap.size zE:=z.ay C bb;obtain⟨br,bs,bx,cb⟩:=o.cells;have cc:=o.free (i:=0);have cd:=o.free (i:=1);have ce:=o.free (i:=2);have ch:=o.free (i:=3);have P:∀k,jg m b (a.set e {a[e]with full:=false}) k->jg m b hs k\/y.heap.size+1<=k:=by
     intro k g;rcases zU f (x:={a[e]with full:=false}) (N:=y.heap.size+1) (λk g=>.inl g) k g with L|L
     ·exact hS k L
     ·exact .inr L
    have ax:I (λk=>jg m b hs k\/V.F k) y (wr.setCell ⟨b,e*7+5,none⟩ (.bool false)):=hT.trans C (λk g=>.inl (.inl (.inr (.inl g))));have an:=V.dF u C (λk g hf=>by have:=(Y h).aH k hf;have:=(Y h).each b (.inr (.inl rfl));omega);have X:iU (gZ hs)=H::iU (gZ (a.set e {a[e]with full:=false})):=by rw[G];exact hm
    have W:(a.set e {a[e]with full:=false}).length=hs.length:=by rw[fB];exact K
    obtain⟨ad,ba⟩:∃ad,ad=a.set e {a[e]with full:=false}:=⟨_,rfl⟩;rw[<-ba]at O P X W;have bi:=Z O;have al:=Z P;have bp:=Z X;have bn:=Z W;have bq:=Z ax;have bk:=Z an;have bl:=Z o;have i1:(0:Int)<=(e:Int):=by omega
    have i2:(e:Int)<(hs.length:Int):=by omega
    have i3:e<hs.length:=by omega
    have i4:¬(e:Int)<0:=by omega
    rw[d]at d5;clear hm r c d q v G A bg C F O P ax an X W o t u hT z hS w B l bc D ba;obtain⟨T,U,R,p⟩:=H;simp only at d1 d2 d3 d4;simp only[zM];go_wp2;refine bO (ez rfl _ _ y.heap.size ⟨T,U,R,p⟩ _ _ rfl ((Y bl).put ⟨T,U,R,p⟩)) rfl ?_;have s:I (λk=>k=y.heap.size) (wr.setCell ⟨b,e*7+5,none⟩ (.bool false)) (qK (wr.setCell ⟨b,e*7+5,none⟩ (.bool false)) y.heap.size ⟨T,U,R,p⟩):=gq _ _ _;refine⟨V.dF (Y bk) s (λk g hf=>by have:=(Y h).aH k hf;have:=(Y h).size;omega),(Y bq).trans s (λk g=>.inr (by omega)),.inr ⟨⟨T,U,R,p⟩,ad,Y bp,rfl,(Y bi).apart s (λk g=>?_),Y bn,λk g=>?_⟩⟩
    ·subst g;refine⟨λj=>?_,λj=>by have:=(Y h).size;omega⟩;rcases(Y al) _ j with L|L
     ·have:=((Y h).each _ L).2;omega
     ·omega
    ·rcases(Y al) k g with L|L
     ·exact .inl L
     ·exact .inr (by omega)
def FV(V:gz)(n0 d f N:Nat)(y:N<=1000000000000):∀(o:List E)(c:List Hd)(w:J),iU (gZ c)=o->c.length=N->gK V n0 w d f c->Bo V n0 190 #[.pointer (some ⟨d,0,none⟩)] o (jg d f c) w:=by
 intro o;induction o with
 |nil=>
  intro c w h n e;refine⟨e.lN,λm a l=>(xh V n0 m d f c (e.same a) l (by omega)).mono ?_⟩;rintro x g⟨j,k,⟨_,b⟩|⟨z,a,b,_⟩⟩
  ·exact⟨b,j,k⟩
  ·rw[h]at b;cases b
 |cons A o v=>
  intro c w h n e;refine⟨e.lN,λm a l=>(xh V n0 m d f c (e.same a) l (by omega)).mono ?_⟩;rintro x g⟨j,k,⟨b,_⟩|⟨z,a,b,q,r,s,t⟩⟩
  ·rw[h]at b;cases b
  ·rw[h]at b;obtain⟨rfl,u⟩:=tW b;exact⟨q,j,k,jg d f a,t,v a g u.symm (s.trans n) r⟩
def BF{P:Program}{w:J}{b i:Nat}{u:M}{a:Array M}{t:TypeId}(h:w.heap[b]?=some (.cells a t (0,0)))(e:a[i]?=some u)(v:M)(f:v.oneCell'=true):(store ⟨b,i,none⟩ v).run P w=.ok () (w.setCell ⟨b,i,none⟩ v):=by
 have c:w.cell? ⟨b,i,none⟩=some u:=(aj h).trans e;have d:w.frozen? ⟨b,i,none⟩=false:=cG h;rw[run_store P w _ _ _ f];simp[c,d]
def sq:Hd:=⟨.nilFunc,[],zE,false,false,λ_=>False⟩
def Ah(g:M×List E×(Nat->Prop)):Hd:=⟨g.1,g.2.1,zE,false,false,g.2.2⟩
def qm(G:List (M×List E×(Nat->Prop)))(n:Nat):List Hd:=(G.take n).map Ah++List.replicate (G.length-n) sq
def xu(G:List (M×List E×(Nat->Prop)))(n:Nat)(h:n<=G.length):(qm G n).length=G.length:=by unfold qm;simp;omega
def Js(G:List (M×List E×(Nat->Prop)))(n:Nat)(h:n<G.length):(qm G n).set n (Ah G[n])=qm G (n+1):=by
 unfold qm;have a:G.length-n=(G.length-(n+1))+1:=by omega
 rw[a,List.replicate_succ,eD _ _ (by simp;omega)];rw[aq h];have:n-((G.take n).map Ah).length=0:=by simp;omega
 rw[this];simp only[aN,aY,df,aV,dI,cL,ae]
def Ej(G:List (M×List E×(Nat->Prop)))(n:Nat)(h:n<G.length):(qm G n)[n]?=some sq:=by
 unfold qm;rw[dD (by simp;omega)];have:n-((G.take n).map Ah).length=0:=by simp;omega
 rw[this];have a:G.length-n=(G.length-(n+1))+1:=by omega
 rw[a,List.replicate_succ];rfl
def Ak(a:List Hd)(i:Nat)(h:i<a.length)(x:Hd)(c:x.fr=a[i].fr)(d:x.full=a[i].full)(e:x.ended=a[i].ended):(cQ a).set (i*7) x.v=cQ (a.set i x):=by
 have f:(cQ (a.take i)).length=i*7:=by rw[jP];simp;omega
 have b:cQ (a.set i x)=cQ (a.take i)++(Hd.cells x++cQ (a.drop (i+1))):=by
  rw[gx,dr h];simp only[cQ,dZ,cF]
 rw[b,mu a i h,eD _ _ (by omega),f,uB];simp[Hd.cells,c,d,e]
def FW(n:Nat):(madeCells #[.nilFunc,.string ⟨#[]⟩,.string ⟨#[]⟩,.bool false,.int .u64 0,.bool false,.bool false] (n*7)).toList=cQ (List.replicate n sq):=by
 refine pI (λj=>?_);by_cases c:j<n*7
 ·have a:j/7<(List.replicate n sq).length:=by simp;omega
  have b:=oq (List.replicate n sq) (j/7) (j%7) a (Nat.mod_lt _ (by decide));rw[show j/7*7+j%7=j by omega]at b;rw[b,List.getElem_replicate];have f:j%7<7:=Nat.mod_lt _ (by decide);have d:(madeCells #[.nilFunc,.string ⟨#[]⟩,.string ⟨#[]⟩,.bool false,.int .u64 0,.bool false,.bool false] (n*7)).toList[j]?=some ((#[.nilFunc,.string ⟨#[]⟩,.string ⟨#[]⟩,.bool false,.int .u64 0,.bool false,.bool false]:Array M)[j%7]!):=by
   unfold madeCells;simp[c]
  rw[d];have:j%7=0\/j%7=1\/j%7=2\/j%7=3\/j%7=4\/j%7=5\/j%7=6:=by omega
  rcases this with e|e|e|e|e|e|e<;>rw[e]<;>rfl
 ·rw[ci (by rw[gM,size_madeCells];omega),ci (by rw[jP];simp;omega)]
def LM:(prog.info? 313).map (λi=>(i.zero,i.size,i.bytes))=some (some (.agg #[.nilFunc,.string ⟨#[]⟩,.string ⟨#[]⟩,.bool false,.int .u64 0,.bool false,.bool false]),7,64):=by kernel_rfl
def IS{w:J}{base m a o n:Nat}{f:List M}(r:w.ownsRow base m a (.slice (some ⟨o,0,none⟩) n n) n f):w.heap[o]?=some (.cells f.toArray m (0,0)):=by
 obtain⟨s,⟨c,_⟩|⟨q,g,b,c,t,k,l,j,d,e⟩⟩:=r
 ·cases c
 ·cases c;have h:b.toList=f:=by
   rw[<-e,bP (by rw[gM,d];exact ai _)]
  rw[k,<-h]
def IX(V:gz)(n0:Nat)(G:List (M×List E×(Nat->Prop)))(lv:M)(w:J)(hr:Row w 1 lv G.length (G.map (·.1)))(ac:∀q,lv.ownBlock=some q->q<w.heap.size)(hn:G.length<=1000000000)(U:∀i(m:i<G.length),gy V n0 G[i].1 G[i].2.1 G[i].2.2 w)(hd:∀i bl(m:i<G.length)(hj:bl<G.length),i≠bl->∀q,G[i].2.2 q->¬G[bl].2.2 q)(N:n0<=w.heap.size)(hF:∀q,V.F q->q<n0):Calls prog 140 #[lv] w λbo w'=>∃v' S',bo=.returned v'/\gy V n0 v' (iU (G.map (·.2.1))) S' w'/\Below w.heap.size w w'/\(∀q,S' q->(∃i,∃m:i<G.length,G[i].2.2 q)\/w.heap.size<=q):=by
 obtain⟨i0,bc,bg,bh,bi⟩:=bK LM;obtain⟨bt,bn,bf⟩:=bA hr;have HR:=Z hr;have ax:=Z ac;have HG:=Z U;have an:=Z hd;have HF:=Z hF;clear hr ac U hd hF;subst bf;go_enter func140,ntmps140
 go_wp2_with(at_make;refine wpList_make_full _ rfl (.tmp 7) (.tmp 7) 311 rfl w.heap.size 313 i0 (.agg #[.nilFunc,.string ⟨#[]⟩,.string ⟨#[]⟩,.bool false,.int .u64 0,.bool false,.bool false]) 7 underlying311 bc bg bh _ _ _ _ G.length rfl rfl rfl rfl (by rw[bi];omega) (by unfold maxLen;omega) (ai _) ?_;intro y v u;have k:=IS v;have r:=Z k;have ao:=Z u;clear v u k)
 have W:=Y ao;have al:w.heap.size<y.heap.size:=ak (Y r);have a:Below w.heap.size w y:=(Below.refl _ w).grown W (ai _) (by simp);have Q:=Z (a.alloc a.size (.cells #[.slice (some ⟨w.heap.size,0,none⟩) G.length G.length] 311));have j:(y.alloc (.cells #[.slice (some ⟨w.heap.size,0,none⟩) G.length G.length] 311)).heap[w.heap.size]?=some (.cells (cQ (qm G 0)).toArray 313 (0,0)):=by
  rw[dL _ al,Y r];have bo:qm G 0=List.replicate G.length sq:=by simp[qm]
  rw[bo,<-FW];rfl
 have f:dY (y.alloc (.cells #[.slice (some ⟨w.heap.size,0,none⟩) G.length G.length] 311)) y.heap.size (.slice (some ⟨w.heap.size,0,none⟩) G.length G.length) 311:=az _ rfl;have F:=Z j;have B:=Z f;clear W a j f;go_loopw [11] (λi wr=>∃n:Nat,n<=G.length/\i=.int .i64 n/\wr.heap[w.heap.size]?=some (.cells (cQ (qm G n)).toArray 313 (0,0))/\dY wr y.heap.size (.slice (some ⟨w.heap.size,0,none⟩) G.length G.length) 311/\Below w.heap.size w wr) (λi _=>G.length-(intOf i).toNat)
 case atStart=>exact⟨0,aU _,rfl,Y F,Y B,Y Q⟩
 case round=>
  obtain⟨n,ad,rfl,b,c,a⟩:=hrel;have bp:=c.cell;have H:=Z b;have C:=Z c;have z:=Z a;by_cases d:n<G.length
  ·obtain⟨bk,T,L,ba,bb⟩:=(Y HG) n d;have g:∀o e,bt=some ⟨o,e,none⟩->wr.cell? ⟨o,e+n,none⟩=some (.func (.func bk) #[] T):=by
    intro o e O;obtain⟨h1,⟨t,_⟩|⟨bs,x,R,t,bd,hc⟩⟩:=Y HR
    ·rw[O]at t;cases t
    ·rw[O]at t;cases t;refine(a.cell (p:=⟨o,e+n,none⟩) ((Y ax) o (by rw[O];rfl))).trans (hc n _ ?_);rw[cP,aA d];simp[L]
   obtain⟨o,e,O⟩:∃o e,bt=some ⟨o,e,none⟩:=by
    obtain⟨h1,⟨t,s⟩|⟨bs,x,R,t,bd,hc⟩⟩:=Y HR
    ·omega
    ·cases t;exact⟨bs,x,rfl⟩
   have bq:=g o e O;subst O;have h:(cQ (qm G n)).toArray[n*7]?=some .nilFunc:=by
    have X:n<(qm G n).length:=by rw[xu G n ad];exact d
    have:=oq (qm G n) n 0 X (by decide);rw[mM];rw[kD]at this;rw[this];have s:=Ej G n d;rw[aA X]at s;cases h0':(qm G n)[n]with
    |mk bx bv fr fu en S=>
     rw[h0']at s;cases s;rfl
   have br:=BF (P:=prog) b h (.func (.func bk) #[] T) rfl;have l:(wr.setCell ⟨w.heap.size,n*7,none⟩ (.func (.func bk) #[] T)).heap[w.heap.size]?=some (.cells (cQ (qm G (n+1))).toArray 313 (0,0)):=by
    have X:n<(qm G n).length:=by rw[xu G n ad];exact d
    have s:(qm G n)[n]=sq:=by
     have:=Ej G n d;rw[aA X]at this;exact dm this
    refine(aL b).trans ?_;simp only[ab];rw[<-Js G n d,<-Ak (qm G n) n X (Ah G[n]) (by rw[s];rfl) (by rw[s];rfl) (by rw[s];rfl)];simp only[Ah,L]
   have K:=Z l;have D:=Z (c.other (b':=w.heap.size) (i:=n*7) (.func (.func bk) #[] T) (by omega));have A:=Z (a.setCell (p:=⟨w.heap.size,n*7,none⟩) (ai _) (.func (.func bk) #[] T));clear b c a h l g ba bb L;go_wp2;go_roundw;case rel=>exact⟨n+1,d,by go_num,Y K,Y D,Y A⟩
   case measure=>simp[intOf];omega
  ·have x:n=G.length:=by omega
   subst x;clear b c a;go_wp2;go_ret;have b:=Y H;have c:=Y C;have a:=Y z;have s:qm G G.length=G.map Ah:=by simp[qm]
   rw[s]at b;have D:I (λ_=>False) w wr:=I.aR a;have U:=Y HG;have A:gZ (G.map Ah)=G.map (·.2.1):=by unfold gZ;rw[fY];rfl
   refine⟨_,jg y.heap.size w.heap.size (G.map Ah),rfl,⟨190,_,rfl,enters_of func190 (by kernel_rfl) rfl,?_⟩,a,?_⟩
   ·refine FV V n0 y.heap.size w.heap.size G.length (by omega) _ (G.map Ah) wr (by rw[A]) (by simp) ⟨by simpa using c,b,λi m=>?_,aB N a.size,Y HF,⟨by omega,N⟩,by omega,λi m q h=>?_,λi bl m hj t q h=>?_⟩
    ·have g:i<G.length:=by simpa using m
     have e:=U i g;have l:=D.same (V:=V) (n0:=n0) (S:=G[i].2.2) N (λq h=>⟨(e.own.each q h).2,λo=>o⟩) (λ_ o=>o.elim);rw[gm];exact⟨λ_=>e.same l,e.own.same l,λo=>by cases o⟩
    ·have g:i<G.length:=by simpa using m
     rw[gm]at h;have:=((U i g).own.each q h).2;exact⟨by omega,by omega⟩
    ·rw[gm]at h|-;exact(Y an) i bl (by simpa using m) (by simpa using hj) t q h
   ·rintro q(o|o|⟨i,m,o⟩)
    ·exact .inr (by omega)
    ·exact .inr (by omega)
    ·rw[gm]at o;exact .inl ⟨i,by simpa using m,o⟩
def jK(V:gz)(n0:Nat)(j:M)(g:List E)(w:J):Prop:=∃t v h b,j=.iface t v/\(∀w,(Go.method 513 t v "From").run prog w=.ok (h,b) w)/\Enters prog h/\∀e c,ia V n0 (λ_=>False) w c->V.D c->Calls prog h #[b,.string e] c λo a=>∃f d,o=.returned f/\gy V n0 f (eX e g) d a/\V.D a/\I V.F c a/\(∀k,d k->c.heap.size<=k)
def LK:(prog.info? 187).map (λi=>(i.zero,i.size,i.bytes))=some (some .nilFunc,1,8):=by kernel_rfl
def qZ(w:J)(v:M)(t:TypeId):∀j u,[v][j]?=some u->(w.alloc (.cells #[v] t)).cell? ((⟨w.heap.size,0,none⟩:Addr).add j)=some u:=by
 intro j u a;rw[ct];cases j with
 |zero=>cases a;simp
 |succ j=>cases j<;>cases a
def Lk{v:M}(h:v.oneCell'=true):∀u∈[v],u.oneCell'=true:=by
 intro u a;rw[bE]at a;rw[a];exact h
structure vI(V:gz)(n0:Nat)(w0 w:J)(lo:aa)(R:List (M×List E))(o:M)(G:List (M×List E×(Nat->Prop))):Prop where
 own:w.ownsRow w0.heap.size 187 1 o G.length (G.map (·.1))
 gives:∀i(hi:i<G.length),gy V n0 G[i].1 G[i].2.1 G[i].2.2 w
 rows:G.map (·.2.1)=(R.take G.length).map (λr=>eX lo r.2)
 Ex:∀i j(hi:i<G.length)(hj:j<G.length),i≠j->∀k,G[i].2.2 k->¬G[j].2.2 k
 apart:∀i(hi:i<G.length)k,G[i].2.2 k->w0.heap.size<=k/\o.ownBlock≠some k
 aH:V.D w
 ay:I V.F w0 w
def vI.next{V:gz}{y:Nat}{D w q w2:J}{o:aa}{R:List (M×List E)}{K L:M}{G:List (M×List E×(Nat->Prop))}{x:M}{g:Nat->Prop}(z:vI V y D w o R K G)(t:G.length<R.length)(hn:y<=D.heap.size)(hF:∀k,V.F k->k<y)(U:I V.F w q)(N:gy V y x (eX o R[G.length].2) g q)(hD:V.D q)(H:∀k,g k->w.heap.size<=k){ob:Obj}(X:du (q.alloc ob) w2 K L)(C:w2.ownsRow D.heap.size 187 1 L (G.length+1) (G.map (·.1)++[x])):vI V y D w2 o R L (G++[(x,eX o R[G.length].2,g)]):=by
 have Q:=z.ay.size;have d:∀k,K.ownBlock=some k->D.heap.size<=k/\k<w.heap.size:=λk a=>z.own.lt k a;have A:∀k,y<=k->¬V.F k:=λk a b=>by have:=hF k b;omega
 have f:I (λk=>K.ownBlock=some k) q w2:=(((I.refl (λk=>K.ownBlock=some k) q).alloc ob).trans (I.bz (S:=λk=>K.ownBlock=some k) X.grown (λk a=>.inl a)) (λk a=>.inl a));have W:I (λk=>V.F k\/K.ownBlock=some k) w w2:=(U.mono (T:=λk=>V.F k\/K.ownBlock=some k) (λk a=>.inl (.inl a))).trans f (λk a=>.inl (.inr a));have c:∀i(l:i<(G++[(x,eX o R[G.length].2,g)]).length),(∃b:i<G.length,(G++[(x,eX o R[G.length].2,g)])[i]=G[i])\/(i=G.length/\(G++[(x,eX o R[G.length].2,g)])[i]=(x,eX o R[G.length].2,g)):=by
  intro i l;by_cases e:i<G.length
  ·exact .inl ⟨e,kS e⟩
  ·have:i=G.length:=by simp at l;omega
   subst this;exact .inr ⟨rfl,by simp⟩
 have B:∀k,(k<q.heap.size/\K.ownBlock≠some k)->L.ownBlock≠some k:=by
  rintro k⟨h1,F⟩r;rcases X.sr with e|⟨ac,e,s⟩
  ·exact F (e.symm.trans r)
  ·rw[e]at r;cases r;simp at s;omega
 have h:∀k,g k->k<q.heap.size:=λk a=>(N.own.each k a).2;refine⟨by simpa using C,λi l=>?_,?_,λi j l hj O k a=>?_,λi l k a=>?_,?_,?_⟩
 ·rcases c i l with⟨b,r⟩|⟨_,r⟩
  ·rw[r];have s:=z.gives i b;refine s.same (W.same (aB hn Q) (λk a=>⟨(s.own.each k a).2,?_⟩) (λk a t=>?_))
   ·rintro(e|e)
    ·exact A k (s.own.each k a).1 e
    ·exact(z.apart i b k a).2 e
   ·rcases a with e|e
    ·exact e
    ·have:=(d k e).1;omega
  ·rw[r];refine N.same (f.same N.own.size (λk a=>⟨h k a,λe=>?_⟩) (λk a t=>?_))
   ·have:=H k a;have:=(d k e).2;omega
   ·have:=(d k a).1;omega
 ·rw[aN,z.rows];simp only[aY,df,ag,aE,cH,cw];rw[aq t,aN];rfl
 ·rcases c i l with⟨b,r⟩|⟨ei,r⟩<;>rcases c j hj with⟨s,F⟩|⟨ej,F⟩
  ·rw[r]at a;rw[F];exact z.Ex i j b s O k a
  ·rw[r]at a;rw[F];intro e;have:=H k e;have:=((z.gives i b).own.each k a).2;omega
  ·rw[r]at a;rw[F];intro e;have:=H k a;have:=((z.gives j s).own.each k e).2;omega
  ·omega
 ·rcases c i l with⟨b,r⟩|⟨_,r⟩
  ·rw[r]at a;have:=((z.gives i b).own.each k a).2;have s:=U.size;exact⟨(z.apart i b k a).1,B k ⟨by omega,(z.apart i b k a).2⟩⟩
  ·rw[r]at a;have:=H k a;refine⟨by omega,B k ⟨h k a,λe=>?_⟩⟩;have:=(d k e).2;omega
 ·exact V.dF hD f (λk a=>A k (by have:=(d k a).1;omega))
 ·exact(z.ay.trans U (λk a=>.inl a)).trans f (λk a=>.inr (d k a).1)
def zb(V:gz)(n0:Nat)(R:List (M×List E))(lv:M)(y:aa)(A:J)(hr:Row A 1 lv R.length (R.map (·.1)))(ba:∀k,lv.ownBlock=some k->k<A.heap.size/\¬V.F k)(hn:R.length<=1000000000)(hR:∀i(e:i<R.length),jK V n0 R[i].1 R[i].2 A)(hD:V.D A)(bd:n0<=A.heap.size)(hF:∀k,V.F k->k<n0):Calls prog 92 #[lv,.string y] A λbr f=>∃U C,br=.returned U/\gy V n0 U (dt y (R.map (·.2))) C f/\V.D f/\I V.F A f/\(∀k,C k->A.heap.size<=k):=by
 obtain⟨i0,ax,bg,x,bh⟩:=bK LK;obtain⟨bx,bT,bt⟩:=bA hr;have HR:=Z hr;have bl:=Z ba;have ac:=Z hR;have HD:=Z hD;have HF:=Z hF;clear hr ba hR hD hF;subst bt;go_enter func92,ntmps92
 go_wp2_with(at_make;refine gO _ rfl _ _ 251 rfl A.heap.size 187 i0 .nilFunc 1 underlying251 ax bg x _ _ _ R.length rfl rfl rfl (by rw[bh];omega) (by unfold maxLen;omega) (ai _) ?_;intro w1 H F;have O:=Z H;have B:=Z F;clear H F)
 have al:vI V n0 A w1 y R (.slice (some ⟨A.heap.size,0,none⟩) 0 R.length) []:=by
  have a:I V.F A w1:=I.bz (Y B) (by simp);exact⟨Y O,λi e=>by simp at e,by simp,λi j e=>by simp at e,λi e=>by simp at e,V.dF (Y HD) (I.bz (S:=λ_=>False) (Y B) (by simp)) (λ_ d=>d.elim),a⟩
 have bn:=Z al;clear al;go_loopw [5,14] (λo i wr=>∃(n:Nat)(G:List (M×List E×(Nat->Prop))),n<=R.length/\i=.int .i64 n/\G.length=n/\vI V n0 A wr y R o G) (λ_ i _=>R.length-(intOf i).toNat)
 case atStart=>exact⟨0,[],aU _,rfl,rfl,Y bn⟩
 case round=>
  obtain⟨n,G,cb,rfl,bs,a⟩:=hrel;obtain⟨ox,oc,ho⟩:=aC a.own;subst bs;by_cases w:G.length<R.length
  ·obtain⟨ce,v,bo,cc,ad,hm,he,h⟩:=(Y ac) G.length w;have eg:∀a A,(callFunc bo a).run prog A=.ok (.enter bo a) A:=he;have r:ia V n0 (λ_=>False) A wr:=a.ay.same bd (λ_ d=>d.elim) (λk b _=>b);have hc:=h y wr r a.aH;obtain⟨bq,Q,hx⟩:∃bq Q,bx=some ⟨bq,Q,none⟩:=by
    obtain⟨h1,⟨s,h0⟩|⟨cd,K,W,s,bk,hc⟩⟩:=Y HR
    ·omega
    ·cases s;exact⟨cd,K,rfl⟩
   have bp:wr.cell? ⟨bq,Q+G.length,none⟩=some (.iface ce v):=by
    obtain⟨h1,⟨s,_⟩|⟨cd,K,W,s,bk,bi⟩⟩:=Y HR
    ·rw[hx]at s;cases s
    ·rw[hx]at s;cases s;have hb:=(Y bl) bq (by rw[hx];rfl);refine a.ay.cell (bi G.length _ ?_) hb.2 hb.1;rw[cP,aA w];simp[ad]
   subst hx;subst ho;have N:=Z a;clear a h r ad he;go_wp2_with(first
    |(go_at_fn bo;refine hc.mono ?_;rintro br w2⟨v1,S1,rfl,P,X,u,g⟩;obtain⟨D,c,rfl,j,q⟩:=P;have L:=Z (show gy V n0 (.func (.func D) #[] c) (eX y R[G.length].2) S1 w2 from⟨D,c,rfl,j,q⟩);have o:=aM (u.own (Y N).own (λk b hf=>by have:=(Y HF) k hf;have:=((Y N).own.lt k b).1;omega)) (.cells #[.func (.func D) #[] c] 187);have bb:=Z o;have an:=Z X;have bc:=Z u;have t:=Z g;have ca:=u.size;have bv:=(Y N).ay.size;clear X u g q o j)
    |(at_builtin;refine aX _ rfl (.tmp 18) (.tmp 22) 251 rfl A.heap.size 187 i0 .nilFunc 1 8 underlying251 ax bg x bh rfl (by decide) (.slice ox G.length oc) G.length (G.map (λ(bx:M×List E×(Nat->Prop))=>bx.1)) rfl (Y bb) ⟨w2.heap.size,0,none⟩ 1 1 [.func (.func D) #[] c] rfl rfl (qZ _ _ _) (Lk rfl) (by omega) (by omega) (by simp;omega) ?_;intro o2 w3 p z;have ao:=Z p;have bf:=Z z;clear p z))
   go_roundw;case rel=>
    refine⟨G.length+1,G++[(.func (.func D) #[] c,eX y R[G.length].2,S1)],w,by go_num,by simp,?_⟩;exact(Y N).next w bd (Y HF) (Y bc) (Y L) (Y an) (Y t) (Y bf) (Y ao)
   case measure=>simp[intOf];omega
  ·have ad:G.length=R.length:=by omega
   subst ho;have N:=Z a;have bv:=a.ay.size;have bc:Row wr 1 (.slice ox G.length oc) G.length (G.map (·.1)):=cW a.own;have Q:I (λ_=>False) wr (wr.alloc (.cells #[.string ⟨#[]⟩] 9)):=(I.refl _ _).alloc _;have o:∀k,(Value.slice ox G.length oc).ownBlock=some k->k<wr.heap.size:=λk b=>(a.own.lt k b).2;have bq:=IX V n0 G (.slice ox G.length oc) (wr.alloc (.cells #[.string ⟨#[]⟩] 9)) (Q.row bc (λk b=>⟨λd=>d,o k b⟩)) (λk b=>by have:=o k b;simp;omega) (by omega) (λi e=>(a.gives i e).same (Q.same (by omega) (λk b=>⟨((a.gives i e).own.each k b).2,λd=>d⟩) (λ_ d=>d.elim))) a.Ex (by simp;omega) (Y HF);have p:G.map (·.2.1)=(R.map (·.2)).map (eX y):=by rw[a.rows,ad,bD,fY];rfl
   have K:=Z p;clear a bc Q o p ad;have bb:∀(f:J)(U:M)(C:Nat->Prop),gy V n0 U (iU (G.map (λ(bx:M×List E×(Nat->Prop))=>bx.2.1))) C f->dY f wr.heap.size (.string ⟨#[]⟩) 9->(∀k,C k->k≠wr.heap.size)->Calls prog 138 #[U,.func (.func 141) #[] #[.pointer (some ⟨wr.heap.size,0,none⟩)]] f λbr W=>∃z r,br=.returned z/\gy V n0 z (mZ ⟨#[]⟩ (iU (G.map (λ(bx:M×List E×(Nat->Prop))=>bx.2.1)))) r W/\Below f.heap.size f W/\(∀k,r k->C k\/k=wr.heap.size\/f.heap.size<=k):=by
    intro f U C hg hb hS;refine(DD V n0 (Ns V n0 wr.heap.size) ⟨#[]⟩ U _ C f hg ⟨hb,by omega⟩ (λk b d=>hS k b d)).mono ?_;rintro br W⟨z,r,h1,s,h3,h4⟩;refine⟨z,r,h1,?_,h3,h4⟩;rw[<-DF];exact s
   have bo:=Z bb;clear bb;go_wp2_with(first
    |(go_at_call 140;refine bq.mono ?_;rintro br w2⟨v1,S1,rfl,P,h,g⟩;obtain⟨D,c,rfl,j,q⟩:=P;have L:=Z (show gy V n0 (.func (.func D) #[] c) (iU (G.map (·.2.1))) S1 w2 from⟨D,c,rfl,j,q⟩);have X:=Z h;have t:=Z g;clear h g j q)
    |(go_at_call 138;refine((Y bo) _ _ _ (Y L) (((Y X).block _ (by simp)).trans (az _ rfl)) (λk b=>?_)).mono ?_;(rcases(Y t) k b with⟨i,e,d⟩|d;(have:=(((Y N).gives i e).own.each k d).2;omega);(simp at d;omega));rintro br w3⟨v2,S2,rfl,ao,u,an⟩;have bk:=Z ao;have bi:=Z u;have bp:=Z an;clear ao u an))
   go_ret;have a:=Y N;have h:=Y X;have u:=Y bi;have ca:∀k,n0<=k->¬V.F k:=λk b hf=>by have:=(Y HF) k hf;omega
   have x:=h.size;simp at x;have bf:I (λ_=>False) wr w3:=by
    refine(((I.refl (λ_=>False) wr).alloc (.cells #[.string ⟨#[]⟩] 9)).trans (I.aR (S:=λ_=>False) h) (λ_ d=>d.elim)).trans (I.aR (S:=λ_=>False) u) (λ_ d=>d.elim)
   refine⟨v2,S2,rfl,?_,V.dF a.aH bf (λ_ d=>d.elim),a.ay.trans bf (λ_ d=>d.elim),λk b=>?_⟩
   ·rw[show dt y (R.map (·.2))=mZ ⟨#[]⟩ (iU (G.map (·.2.1)))by rw[Y K];rfl];exact Y bk
   ·rcases(Y bp) k b with d|d|d
    ·rcases(Y t) k d with⟨i,e,r⟩|r
     ·exact(a.apart i e k r).1
     ·simp at r;omega
    ·omega
    ·omega
def Iter(V:gz)(g m i:Nat)(j:Array M)(l:List E)(S:Nat->Prop)(w:J):Prop:=∀(f:Nat)(d:List E->(Nat->Prop)->J->Prop)(e:List E->J->Prop)(B:Nat->Prop)(W:J),ia V g S w W->V.D W->d [] B W->(∀k,S k->¬B k)->(∀a B W,d a B W->∀k,B k->g<=k/\k<W.heap.size)->(∀a B W b T,d a B W->I T W b->(∀k,T k->¬B k/\(S k\/V.F k\/w.heap.size<=k))->d a B b)->(∀a x B W,(a++[x])<+:l->d a B W->V.D W->YieldAt Fence.wide (m-1) prog f #[x.value,.nilIface] W λh b=>
 (h=.returned (.bool true)/\V.D b/\∃c,d (a++[x]) c b/\I B W b/\(∀k,c k->B k\/W.heap.size<=k))\/(h=.returned (.bool false)/\e (a++[x]) b))->
 CallsIn Fence.wide m prog i (#[.func (.yield f) #[] #[]]++j) W λh b=>(∃v,h=.returned v)/\((∃c,d l c b/\V.D b)\/(∃a,e a b))
def dp(W:J)(l:Nat)(o:Obj):I (λk=>k=l) W (W.putObj l o):=I.bz (grownBy_putObj' W l o) (by rintro k⟨⟩;exact .inl rfl)
def KZ(V:gz)(g:List E->(Nat->Prop)->J->Prop)(f:Code->List E->(Nat->Prop)->J->Prop)(e:List E)(B:Nat->Prop)(W d:J)(b:Nat):Exit->Act->J->Prop
 | .normal,_,a=>V.D a/\∃c,g e c a/\I (λk=>B k\/k=b) W a/\a.heap[b]?=d.heap[b]?/\(∀k,c k->B k\/W.heap.size<=k)
 | .ret,_,a=>∃c,f .ret e c a/\I (λk=>B k\/k=b) W a/\a.heap[b]?=d.heap[b]?/\(∀k,c k->B k\/W.heap.size<=k)
 | .exit id,_,a=>∃c,f (.exit id) e c a/\I (λk=>B k\/k=b) W a/\a.heap[b]?=d.heap[b]?/\(∀k,c k->B k\/W.heap.size<=k)
 | .goto _,_,_=>False
 | .panic _,_,_=>False
 | .outgrown,_,_=>False
def ye{m:Nat}{bx:Operand}{ps:Array Tmp}{assign body:Code}{bt:Exit->Act->J->Prop}{a:Act}{w:J}{V:gz}{n0 gf:Nat}{lb:Array M}{l:List E}{S:Nat->Prop}(hg:a.eval bx=.func (.func gf) #[] lb)(eg:Enters prog gf)(bq:ps.size=2)(nu:Iter V n0 (m-1) gf lb l S w)(hD:V.D w)(bb:n0<=w.heap.size)(C:∀k,S k->k<w.heap.size)(bg:List E->(Nat->Prop)->J->Prop)(Ix:Code->List E->(Nat->Prop)->J->Prop)(B:Nat->Prop)(h0:bg [] B w)(bn:∀k,S k->¬B k)(al:∀b B W,bg b B W->∀k,B k->n0<=k/\k<W.heap.size)(O:∀b B W W' T,bg b B W->I T W W'->(∀k,T k->¬B k/\(S k\/V.F k\/w.heap.size<=k))->bg b B W')(K:∀f b B W W' T,Ix f b B W->I T W W'->(∀k,T k->¬B k/\w.heap.size<=k)->Ix f b B W')(ac:∀lr b x B W,w.heap.size<=lr->¬B lr->lr<W.heap.size->(b++[x])<+:l->bg b B W->V.D W->assign.wpIn (Fence.wide.inRound lr) (m-1-1) prog (Exit.then (λa1 z=>I (λ_=>False) W z/\∀W2,I (λk=>k=lr) z W2->body.wpIn (Fence.wide.inRound lr) (m-1-1) prog (KZ V bg Ix (b++[x]) B W W2 lr) a1 W2) (λ_ _ _=>False)) {tmps:=(ps.zip #[x.value,.nilIface]).foldl (λbv(bT,v)=>bv.setIfInBounds bT v) a.tmps,defers:=[]} W)(ad:∀(bd:Nat)(B:Nat->Prop)(W:J),w.heap.size<=bd->bg l B W->¬B bd->V.D W->W.heap[bd]?=some (.deferred (some []))->bt .normal {a with defers:={target:=.collected bd,args:=#[]}::a.defers} W)(an:∀(bd:Nat)(f:Code)(b:List E)(B:Nat->Prop)(W:J),w.heap.size<=bd->Ix f b B W->¬B bd->W.heap[bd]?=some (.deferred (some []))->f.wpIn Fence.wide m prog bt {a with defers:={target:=.collected bd,args:=#[]}::a.defers} W):(Code.rangeFunc bx ps assign body).wpIn Fence.wide m prog bt a w:=by
 refine wpIn_rangeFunc ?_;intro fn bo;obtain⟨e,h⟩:∃e:LoopState->Option Code->Loop,e=λst b=>{state:=st,pending:=b,fn,tmps:=a.tmps,params:=ps,assign,body,defers:=w.heap.size}:=⟨_,rfl⟩;obtain⟨z,L⟩:∃z,(w.alloc (.deferred (some []))).alloc (.loop (e .ready none))=z:=⟨_,rfl⟩;have bl:z.heap[w.heap.size+1]?=some (.loop (e .ready none)):=by
  rw[<-L];exact az _ (by simp)
 have bk:z.heap[w.heap.size]?=some (.deferred (some [])):=by
  rw[<-L];exact(dL _ (by simp)).trans (az _ rfl)
 have ao:I (λ_=>False) w z:=by rw[<-L];exact((I.refl _ w).alloc _).alloc _
 refine⟨w.heap.size+1,[{target:=.collected w.heap.size,args:=#[]}],z,{target:=.fn (.func gf) lb,args:=#[.func (.yield (w.heap.size+1)) #[] #[]]},z,gf,#[.func (.yield (w.heap.size+1)) #[] #[]]++lb,z,?_,?_,?_,?_,(λf=>(by cases f)),?_⟩
 ·rw[<-L,h];exact run_enterLoop_outer _ _ _ _ _
 ·simp only[resolve,hg];simp[go_sem]
 ·intro c _;trivial
 ·have:=eg;unfold Enters at this;simp[invoke,go_sem,this]
 ·refine(nu (w.heap.size+1) (λb B W=>∃p,(∀k,B k↔p k\/k=w.heap.size\/k=w.heap.size+1)/\bg b p W/\¬p w.heap.size/\¬p (w.heap.size+1)/\W.heap[w.heap.size+1]?=some (.loop (e .ready none))/\W.heap[w.heap.size]?=some (.deferred (some []))) (λb W=>∃f p,Ix f b p W/\¬p w.heap.size/\¬p (w.heap.size+1)/\W.heap[w.heap.size+1]?=some (.loop (e .done (some f)))/\W.heap[w.heap.size]?=some (.deferred (some []))) (λk=>B k\/k=w.heap.size\/k=w.heap.size+1) z (ao.same bb (λk q=>⟨C k q,λf=>f⟩) (λ_ f=>f.elim)) (V.dF hD ao (λ_ f=>f.elim)) ⟨B,λk=>nZ,O _ _ _ _ _ h0 ao (λ_ f=>f.elim),λf=>by have:=(al _ _ _ h0 _ f).2;omega,λf=>by have:=(al _ _ _ h0 _ f).2;omega,bl,bk⟩ ?_ ?_ ?_ ?_).mono ?_
  ·rintro k q(f|f|f)
   ·exact bn k q f
   ·have:=C k q;omega
   ·have:=C k q;omega
  ·rintro b B' W⟨p,A,N,_,_,s,q⟩k c;rcases(A k).1 c with f|f|f
   ·exact al _ _ _ N k f
   ·subst f;exact⟨bb,ak q⟩
   ·subst f;exact⟨by omega,ak s⟩
  ·rintro b B' W W' T⟨p,A,N,R,U,s,q⟩j g;exact⟨p,A,O _ _ _ _ _ N j (λk c=>⟨λf=>(g k c).1 ((A k).2 (.inl f)),(g k c).2⟩),R,U,(j.block _ (ak s) (λf=>(g _ f).1 ((A _).2 (.inr (.inr rfl))))).trans s,(j.block _ (ak q) (λf=>(g _ f).1 ((A _).2 (.inr (.inl rfl))))).trans q⟩
  ·rintro b x B' W bc⟨p,A,N,R,U,s,q⟩bi;have hy:=run_yield (P:=prog) (args:=#[x.value,.nilIface]) s (by rw[h];exact bq.symm);rw[h]at hy;refine⟨fn,_,assign,body,hy,roundIn_of_wpIn bo (ou (ac (w.heap.size+1) b x p W (by omega) U (ak s) bc N bi) ?_)⟩;clear hy;intro bs a1 Wa Q;cases bs with
   |normal=>
    obtain⟨br,Q⟩:=Q;have ba:Wa.heap[w.heap.size+1]?=some (.loop (e .ready none)):=(br.block _ (ak s) (λf=>f)).trans s;refine⟨_,run_beginRound ba (by rw[h]),?_⟩;have bp:(Wa.putObj (w.heap.size+1) (.loop {e .ready none with state:=.busy})).heap[w.heap.size+1]?=some (.loop {e .ready none with state:=.busy}):=World.putObj_heap_same (ak ba);refine ou (Q _ (dp _ _ _)) ?_;have fin:∀(g:Option Code)(o:J),o.heap[w.heap.size+1]?=(Wa.putObj (w.heap.size+1) (.loop {e .ready none with state:=.busy})).heap[w.heap.size+1]?->(Instr.endRound (w.heap.size+1) g).run prog o=.ok (.bool g.isNone) (o.putObj (w.heap.size+1) (.loop (e (if g.isNone then .ready else .done) g)))/\(o.putObj (w.heap.size+1) (.loop (e (if g.isNone then .ready else .done) g))).heap[w.heap.size+1]?=some (.loop (e (if g.isNone then .ready else .done) g)):=λg o h3=>by
     have ax:=h3.trans bp;have:=run_endRound (P:=prog) g ax;rw[h]at this|-;exact⟨this,World.putObj_heap_same (ak ax)⟩
    have u:∀o,I (λk=>p k\/k=w.heap.size+1) W o->o.heap[w.heap.size]?=some (.deferred (some [])):=λo j=>(j.block _ (ak q) (λf=>f.elim R (λf=>by omega))).trans q;have G:∀(r:Nat->Prop),(∀k,r k->p k\/W.heap.size<=k)->¬r w.heap.size/\¬r (w.heap.size+1):=λr g=>by
     have:=ak s;refine⟨λf=>?_,λf=>?_⟩
     ·rcases g _ f with bf|bf
      ·exact R bf
      ·omega
     ·rcases g _ f with bf|bf
      ·exact U bf
      ·omega
    rintro bs a3 o y;cases bs with
    |normal=>
     obtain⟨g,r,D,j,H,t⟩:=y;obtain⟨hr,F⟩:=fin none o H;obtain⟨q1,X⟩:=G r t;have d:=dp o (w.heap.size+1) (.loop (e (if(none:Option Code).isNone then .ready else .done) none));refine⟨_,_,hr,.inl ⟨rfl,V.dF g d (λk c hf=>?_),λk=>r k\/k=w.heap.size\/k=w.heap.size+1,⟨r,λk=>nZ,O _ _ _ _ _ D d (λk c=>by subst c;exact⟨X,.inr (.inr (by omega))⟩),q1,X,F,?_⟩,?_,?_⟩⟩
     ·have:=V.lt hD hf;omega
     ·exact(d.block _ (ak (u o j)) (λf=>by omega)).trans (u o j)
     ·refine(j.trans d (λk c=>.inl (.inr c))).mono (λk c=>.inl ((A k).2 ?_));rcases c with f|f
      ·exact .inl f
      ·exact .inr (.inr f)
     ·rintro k(f|f|f)
      ·rcases t k f with bf|bf
       ·exact .inl ((A k).2 (.inl bf))
       ·exact .inr bf
      ·exact .inl ((A k).2 (.inr (.inl f)))
      ·exact .inl ((A k).2 (.inr (.inr f)))
    |ret=>
     obtain⟨r,D,j,H,t⟩:=y;obtain⟨hr,F⟩:=fin (some .ret) o H;obtain⟨q1,X⟩:=G r t;have d:=dp o (w.heap.size+1) (.loop (e (if(some Code.ret:Option Code).isNone then .ready else .done) (some .ret)));exact⟨_,_,hr,.inr ⟨rfl,.ret,r,K _ _ _ _ _ _ D d (λk c=>by subst c;exact⟨X,by omega⟩),q1,X,F,(d.block _ (ak (u o j)) (λf=>by omega)).trans (u o j)⟩⟩
    |exit id=>
     obtain⟨r,D,j,H,t⟩:=y;obtain⟨hr,F⟩:=fin (some (.exit id)) o H;obtain⟨q1,X⟩:=G r t;have d:=dp o (w.heap.size+1) (.loop (e (if(some (Code.exit id):Option Code).isNone then .ready else .done) (some (.exit id))));exact⟨_,_,hr,.inr ⟨rfl,.exit id,r,K _ _ _ _ _ _ D d (λk c=>by subst c;exact⟨X,by omega⟩),q1,X,F,(d.block _ (ak (u o j)) (λf=>by omega)).trans (u o j)⟩⟩
    |goto bv=>exact y.elim
    |panic ch=>exact y.elim
    |outgrown=>exact y.elim
   |exit id=>exact Q.elim
   |goto bv=>exact Q.elim
   |ret=>exact Q.elim
   |panic bh=>exact Q.elim
   |outgrown=>exact Q.elim
  ·rintro bs W2⟨⟨v,rfl⟩,(⟨B',⟨p,A,N,R,U,s,q⟩,g⟩|⟨b,f,p,N,R,U,s,q⟩)⟩
   ·have d:=λo=>dp W2 (w.heap.size+1) o;exact⟨none,_,by have:=run_endLoop (P:=prog) s (by rw[h];simp);rw[h]at this;exact this,ad _ p _ (ai _) (O _ _ _ _ _ N (d _) (λk c=>by subst c;exact⟨U,.inr (.inr (by omega))⟩)) R (V.dF g (d _) (λk c hf=>by have:=V.lt hD hf;omega)) ((d _).block _ (ak q) (λf=>by omega)|>.trans q)⟩
   ·have d:=λo=>dp W2 (w.heap.size+1) o;exact⟨some f,_,by have:=run_endLoop (P:=prog) s (by rw[h];simp);rw[h]at this;exact this,an _ f b p _ (ai _) (K _ _ _ _ _ _ N (d _) (λk c=>by subst c;exact⟨U,by omega⟩)) R ((d _).block _ (ak q) (λf=>by omega)|>.trans q)⟩
section
open Go.Shelf
def zC(V:gz)(n0 m q an:Nat)(U:Array M)(l:List E)(S:Nat->Prop)(bx:J)(hb:dY bx q (.func (.func an) #[] U) 187)(he:Enters prog an)(hr:Bo V n0 an U l S bx)(cm:n0<=q)(cp:¬S q):Iter V n0 m 137 #[.pointer (some ⟨q,0,none⟩)] l (λk=>S k\/k=q) bx:=by
 intro lr cM Jx dc cT hs hD hJ bn al bs hY;have eg:∀a bx,(callFunc an a).run prog bx=.ok (.enter an a) bx:=he;have bo:dY cT q (.func (.func an) #[] U) 187:=hb.same hs (.inr rfl);have br:Bo V n0 an U l S cT:=hr.same (hs.mono (λ_ a=>.inl a));have bt:=hs.1;have bT:=Z bo;have ce:=Z br;have HD:=Z hD;have HJ:=Z hJ;have bc:=Z bn;have O:=Z al;have F:=Z bs;have HY:=Z hY;clear hs hD hJ bn al bs hY hb hr bo br he;refine tV func137 rfl trivial ?_ rfl;simp only[ntmps137,gC,aE,cH,Nat.reduceAdd,Nat.reduceSub,fq,fp,gD,fI,cL,dI];gi_wp2;gi_loopg [3] (l.length+1) (λa _ wr=>∃c p R t,l=c++p/\p.length<a/\Bo V n0 an U p R wr/\dY wr q (.func (.func an) #[] U) 187/\V.D wr/\cM c t wr/\(∀k,R k->¬t k)/\¬t q/\¬R q/\(∀k,R k->S k\/bx.heap.size<=k)/\bx.heap.size<=wr.heap.size)
 case atStart=>exact⟨[],l,S,dc,rfl,by omega,Y ce,Y bT,Y HD,Y HJ,λk a=>(Y bc) k (.inl a),(Y bc) q (.inr rfl),cp,λk a=>.inl a,bt⟩
 case round=>
  obtain⟨c,p,R,t,hl,bp,o,K,G,e,h,W,ac,B,cB⟩:=hrel;have ch:=Z B;have cx:=K.cell;have N:=Z K;have cc:=Z e;have bd:=Z h;have ax:=Z W;have bf:=Z ac;have HL:=Z hl;have j:=o.own;have bb:=Z j;have C:∀k,n0<=k->¬V.F k:=λk a b=>by have:=j.aH k b;omega
  have cl:=Z C;cases p with
  |nil=>
   have hc:=o.2 wr (ia.refl _ _ _ _) G;have HT:=Z (λg(ht:I (λk=>R k\/V.F k) wr g)=>(Y F) c t wr g _ e ht (λk a=>⟨λd=>a.elim (λr=>h k r d) (λr=>C k ((Y O) _ _ _ e k d).1 r),a.elim (λr=>(B k r).elim (λd=>.inl (.inl d)) (λd=>.inr (.inr d))) (λr=>.inr (.inl r))⟩));clear o K G e h W ac hl j C bp B;gi_wp2_with(refine⟨trivial,(λd=>(by cases d)),?_⟩;gi_at_fn an;refine(dM.2 hc).mono ?_;rintro db g⟨rfl,A,f⟩;have b:=Z A;have ba:=Z ((Y HT) g f);clear A f;unfold tQ)
   refine⟨λ_ s=>(by cases s),?_⟩;gi_wp2;refine bO (jE rfl _ _ _) rfl ?_;refine⟨⟨_,rfl⟩,.inl ⟨t,?_,V.dF (Y b) ((I.refl (λ_=>False) g).alloc _) (λ_ d=>d.elim)⟩⟩;have hl:=Y HL;rw[cN]at hl;rw[hl];exact(Y F) c t g _ _ (Y ba) ((I.refl (λ_=>False) g).alloc _) (λ_ d=>d.elim)
  |cons x cE=>
   have hc:=o.2 wr (ia.refl _ _ _ _) G;have bq:(c++[x])<+:l:=⟨cE,by rw[hl];simp⟩;have HT:=Z (λg(ht:I (λk=>R k\/V.F k) wr g)=>(Y F) c t wr g _ e ht (λk a=>⟨λd=>a.elim (λr=>h k r d) (λr=>C k ((Y O) _ _ _ e k d).1 r),a.elim (λr=>(B k r).elim (λd=>.inl (.inl d)) (λd=>.inr (.inr d))) (λr=>.inr (.inl r))⟩));have Q:=Z (λa(d:cM c t a)(b:V.D a)=>(Y HY) c x t a bq d b);clear o K G e h W ac hl j C B;obtain⟨w,y,u,b⟩:=x;unfold E.value at hc Q;simp only at hc Q;gi_wp2_with(refine⟨trivial,(λd=>(by cases d)),?_⟩;gi_at_fn an;refine(dM.2 hc).mono ?_;rintro db g⟨rfl,A,f,S1,bl,s⟩;have X:=(Y F) c t g _ _ ((Y HT) g f) ((I.refl (λ_=>False) g).alloc (.cells #[.string w,.string y,.bool u,.int .u64 b] 177)) (λ_ d=>d.elim);have bh:=V.dF A ((I.refl (λ_=>False) g).alloc (.cells #[.string w,.string y,.bool u,.int .u64 b] 177)) (λ_ d=>d.elim);obtain⟨fn,cv,bv,body,hy,hR⟩:=(Y Q) _ X bh;have HR:=Z hR;have ba:=Z X;have cj:=Z f;have P:=Z bl;have cd:=Z s;clear A f bl s X bh hR)
   refine⟨(λd=>(by cases d)),(Y HR).mono ?_⟩;rintro db W3(⟨rfl,bi,B3,bk,H,bg⟩|⟨rfl,hx⟩)
   ·have ca:=Z bi;have cb:=Z bk;have ck:=Z H;have ao:=Z bg;clear bi bk H bg;gi_wp2;gi_roundg (cE.length+1)
    case measure=>simpa using bp
    case rel=>
     have f:=Y cj;have H:=Y ck;have s:=Y cd;have j:=Y bb;have e:=Y cc;have z:=(Y O) _ _ _ e;have cs:I (λ_=>False) g (g.alloc (.cells #[.string w,.string y,.bool u,.int .u64 b] 177)):=(I.refl _ _).alloc _;have L:∀k,S1 k->¬t k:=λk a d=>by
      rcases(Y P) k a with r|r
      ·exact(Y bd) k r d
      ·have:=(z k d).2;omega
     have cn:=s.own.size;have D:I t g W3:=(cs.mono (T:=t) (λ_ d=>d.elim)).trans H (λk a=>.inl a);have ad:dY g q (.func (.func an) #[] U) 187:=by
      refine(f.block q (ak (Y N)) ?_).trans (Y N);rintro(d|d)
      ·exact(Y bf) d
      ·exact(Y cl) q cm d
     refine⟨c++[⟨w,y,u,b⟩],cE,S1,B3,by rw[Y HL];simp,by omega,s.same (D.same cn (λk a=>⟨(s.own.each k a).2,L k a⟩) (λk a al=>by have:=(z k a).1;omega)),(D.block q (ak ad) (Y ax)).trans ad,Y ca,Y cb,λk a d=>?_,λd=>?_,λd=>?_,?_,?_⟩
     ·rcases(Y ao) k d with r|r
      ·exact L k a r
      ·have:=(s.own.each k a).2;simp at r;omega
     ·rcases(Y ao) q d with r|r
      ·exact(Y ax) r
      ·have:=ak ad;simp at r;omega
     ·rcases(Y P) q d with r|r
      ·exact(Y bf) r
      ·have:=ak (Y N);omega
     ·intro k a;rcases(Y P) k a with r|r
      ·exact(Y ch) k r
      ·exact .inr (by omega)
     ·have:=f.size;have:=D.size;omega
   ·have z:=Z hx;clear hx;gi_wp2;refine bO (jE rfl _ _ _) rfl ?_;exact⟨⟨_,rfl⟩,.inr ⟨_,Y z⟩⟩
end
end Go.Proofs.YtophdnlmpfmeiaaGreatDoor
