import Derived.Defers
import Derived.LaidEql
import Derived.RowKitTokens
import Derived.Stop.Asserts
import Derived.Test.YtmnlcbeggagabaaGreatDoorC5
open _root_ renaming List.length→y,Option.some→H,Array.size→z,Go.World.heap→G,Go.Value.ownBlock→cz,Go.World.cell?→aS,Go.World.setCell→cA,Go.World.alloc→cG,Bool.false→bj,Bool.true→cq,Nat→M,Int→U,Go.Calls→cD,Go.Proofs.Tryz.prog→aZ,Go.Value.slice→J,Go.Value.string→am,Go.Value.bool→aK,Go.Value.pointer→dG,Go.Value.tuple→dd,Go.Value.agg→dE
namespace Go.Proofs.YtmnlcbeggagabaaGreatDoor
open ChangeShapes WideShapes RowKit Proofs.Tryz List
set_option maxHeartbeats 16000000
set_option linter.all false
set_option maxRecDepth 100000
variable{a:Z}{b c:M}{d:ab}{k:U}
def tL(s:ae)(w:Z):cD aZ 57 #[am s] w λe a=>e=aJ (oz<|z<|G w)/\a=cG w (ay #[am s,aq 7] 204):=by
 go_in
 go_wp2;go_ret;simp_all
def vM.new(s:ae)(w:Z):vM (cG w<|ay #[am s,aq 7] 204) (z<|G w):=⟨s,aH _ rfl⟩
def pP(n:U):ab:=if n=0 then .nilIface else .iface 44 (aq n)
def Ks{b:pT}(hp:EP a d b)(S:∀ad,cz d=H ad->ad<z (G a))(hr:y b<=1000000000000)(T:∀W∈b,W.key.size<=140737488351232/\W.val.size<=140737488351232):cD aZ 36 #[d] a λp l=>p=aJ (pP<|fK b)/\I az a l:=by
 have Q:∀(W:Bool)(a:Z),(Op.unary .not<|aK W).run aZ a=.ok (aK<|!W) a:=λ_ _=>rfl;obtain⟨h1,⟨rfl,h0⟩|⟨N,g,aa,rfl,ac,P⟩⟩:=hp;(.obtain rfl:b=[]:=aQ h0;(go_in);go_wp2;(go_loopw [11] (λV wr=>V=aq 0/\wr=a) (λ_ _=>0));(case atStart=>grind);(case round=>obtain⟨rfl,c⟩:=hrel;subst wr;go_wp2;go_ret;exact⟨rfl,I.refl _ _⟩))
 .have K:N<z (G a):=S N rfl;have D:=Y P;have HZ:=Y T;clear P h1 S T;by_cases O:8<y b
  .have F:=Y (show fK b=2 by unfold fK;rw[dW O]);have e1:(8:U)<(y b:U):=by omega
   go_in
   go_wp2;go_ret;exact⟨by rw[af F];rfl,I.refl _ _⟩
  .have F:=Y (show fK b=lD b by unfold fK;rw[eI O]);have e1:¬(8:U)<(y b:U):=by omega
   go_in
   go_wp2;go_loopw [11] (λV wr=>∃n:M,n<=y b/\V=aq n/\fK b=lD (b.drop n)/\I az a wr) (λV _=>y b-(intOf V).toNat)
   case atStart=>exact⟨0,bH _,rfl,F,I.refl _ _⟩
   case round=>
    obtain⟨n,hn,rfl,C,e⟩:=hrel;have E:=Y C;by_cases c:n<y b
    .have B:=kM b n c;have q:aS wr (R N<|g+n*3)=H (am b[n].key):=e.cell (D _ _ B.1) id K;have r:aS wr (R N<|g+n*3+1)=H (am b[n].val):=e.cell (by rw[bG];exact D _ _ B.2.1) id K;have s:aS wr (R N<|g+n*3+2)=H (aK b[n].del):=e.cell (by rw[bG];exact D _ _ B.2.2) id K;have u:=HZ _<|ak c;have i:=Y e;clear B C e;by_cases v:b[n].key.size=0\/8<b[n].key.size
     .have o:=Y<|E.trans<|Cm c v;generalize b[n]=X at*;obtain⟨x,A,L⟩:=X;simp only at q r s v u;have j:∀W,cD aZ 71 #[am x] W λp l=>p=aJ (aK bj)/\l=W:=by
       grind[qB,pI]
      go_wp2_with fail
      apply(j _).mono;rintro p m⟨rfl,k⟩;subst m;go_wp2;go_ret;exact⟨by rw[af o];rfl,i.alloc _⟩
     .by_cases f:b[n].del=bj/\16<b[n].val.size
      .have o:=Y<|E.trans<|Ck c v f;generalize b[n]=X at*;obtain⟨x,A,L⟩:=X;simp only at q r s v f u;obtain⟨rfl,w⟩:=f;have j:∀W,cD aZ 71 #[am x] W λp l=>p=aJ (aK cq)/\l=W:=by
        grind[qB,pI]
       have t:∀W,cD aZ 72 #[am A] W λp l=>p=aJ (aK bj)/\l=W:=by
        grind[wX,pI]
       go_wp2_with fail
       apply(j _).mono;rintro p m⟨rfl,k⟩;subst m;go_wp2_with fail
       apply(t _).mono;rintro p m⟨rfl,k⟩;subst m;go_wp2;go_ret;exact⟨by rw[af o];rfl,i.alloc _⟩
      .have o:=Y<|E.trans<|Ez c v f;generalize b[n]=X at*;obtain⟨x,A,L⟩:=X;simp only at q r s v f u;have j:∀W,cD aZ 71 #[am x] W λp l=>p=aJ (aK cq)/\l=W:=by
        grind[qB,pI]
       cases L with
       |true=>
        clear f;go_wp2_with fail
        apply(j _).mono;rintro p m⟨rfl,k⟩;subst m;go_wp2;go_roundw;case rel=>exact⟨n+1,c,by go_num,o,i.alloc _⟩
        case measure=>simp[intOf];omega
       |false=>
        have w:A.size<=16:=by grind
        have t:∀W,cD aZ 72 #[am A] W λp l=>p=aJ (aK cq)/\l=W:=by
         grind[wX,pI]
        clear f;go_wp2_with fail
        apply(j _).mono;rintro p m⟨rfl,k⟩;subst m;go_wp2_with fail
        apply(t _).mono;rintro p m⟨rfl,k⟩;subst m;go_wp2;go_roundw;case rel=>exact⟨n+1,c,by go_num,o,i.alloc _⟩
        case measure=>simp[intOf];omega
    .have f:n=y b:=by omega
     have o:=Y (show fK b=0 by rw[C,f,ga];rfl);have i:=Y e;have j:¬(n:U)<(y b:U):=by omega
     clear C e f;go_wp2;go_ret;exact⟨by rw[af o];rfl,i⟩
structure SR where
 aM:M
 mem:U
 nR:U
 closed:Bool
 memory:ab
 fT:M
 aT:M
 l0:ab
 l1:ab
 l2:ab
 l3:ab
 next:M
 La:M
 ou:Option M
 log:M
 fa:Bool
 vU:Bool
 iS:Bool
 iY:Bool
variable{o:SR}
def SR.cells(s:SR)(k:U):Array ab:=#[lY k,dh 0,aA s.aM,aq s.mem,aq s.nR,aK s.closed,.nilIface,s.memory,aq s.fT,aG s.aT,s.l0,s.l1,s.l2,s.l3,aG s.next,aq s.La,.map s.ou,aG s.log,aK s.fa,aK s.vU,aK s.iS,aK s.iY]
def cg(w:Z)(a:M)(s:SR)(k:U):Prop:=w.heap[a]?=H (ay (s.cells k) 95 (0,0))
def cg.cell(h:cg a c o k){i:M}(e:(o.cells k)[i]?=H d):aS a (R c i)=H d:=by
 rw[bW h];exact e
def cg.cellAt(h:cg a b o k)(i:M)(e:(o.cells k).toList[i]?=H d):aS a (R b i)=H d:=h.cell (by rw[<-e];simp)
def cg.free{b i:M}(h:cg a b o k):a.frozen? (R b i)=bj:=cZ h
def cg.ap{S:eT}{w w':Z}(h:cg w c o k)(d:I S w w')(a:¬S c):cg w' c o k:=(d.block c (ar h) a).trans h
def Xm(w:Z)(t:ab):cD aZ 28 #[.nilIface,t] w λe a=>e=aJ (aK bj)/\a=w:=by
 go_in
 go_wp2;go_ret;simp_all
def Gq(w:Z):cD aZ 70 #[.nilIface] w λe a=>e=aJ .nilIface/\Below (z<|G w) w a:=by
 go_in
 go_wp2_with(go_at_call 28;refine(Xm _ _).mono ?_;rintro e b⟨rfl,rfl⟩)
 go_ret;exact⟨rfl,(Below.refl _ w).alloc (ai _) _⟩
def mr(h:cg a b o k):cD aZ 35 #[aA b] a λf e=>f=aJ (pP<|if o.closed then 6 else 0)/\Below (z<|G a) a e:=by
 have c5:aS a (R b 5)=H (aK o.closed):=h.cell rfl;have g:aS a (R b 6)=H .nilIface:=h.cell rfl;have d:=Gq a;cases hc:o.closed with
 |true=>
  rw[hc]at c5;clear h hc;go_in
  go_wp2;go_ret;exact⟨rfl,Below.refl _ _⟩
 |false=>
  rw[hc]at c5;clear h hc;go_in
  go_wp2_with(go_at_call 70;refine d.mono ?_;rintro f i⟨rfl,c⟩;have HB:=Y c;clear c)
  go_ret;exact⟨rfl,HB⟩
def jV(a:U)(i n:M):Bool:=if i=0 then decide (a<=(n:U))else decide (i<3)&&decide (a<(n:U))
def mO(i n:M)(x:Option Addr)(f:M)(h:cg a b o k)(j:i<4):cD aZ 61 #[aA b,aq i,J x n f] a λg e=>g=aJ (aK<|jV o.nR i n)/\e=a:=by
 have c4:aS a (R b 4)=H (aq o.nR):=h.cell rfl;generalize o.nR=d at*;clear h;have c:i=0\/i=1\/i=2\/i=3:=by omega
 rcases c with rfl|rfl|rfl|rfl;(·(go_in);go_wp2;go_ret;exact⟨rfl,rfl⟩);(·(go_in);go_wp2;go_ret;exact⟨rfl,rfl⟩);(·(go_in);go_wp2;go_ret;exact⟨rfl,rfl⟩);(go_in);go_wp2;go_ret;exact⟨rfl,rfl⟩
section
open Conc.Locks
def cg.lR(h:cg a b o k)(j:U):cg (cA a (R b 0)<|lY j) b o j:=by
 have:=aL (i:=0) (u:=lY j) h;exact this
end
def XQ(d:ab)(b a:U)(w:Z)(e:∃p,d=.pointer p)(h:¬(1<=b/\b<=32/\2<=a/\a<=6)):cD aZ 10 #[d,dE #[aq b,aq a]] w λg f=>g=aJ (dd #[dG none,pP 1])/\I az w f:=by
 obtain⟨p,rfl⟩:=e;have c:=Y<|show I az w (cG w<|ay #[aq b,aq a] 33)from(cK az w);unfold pP;simp only[Int.reduceEq,np];by_cases i:b<1;(.clear h;(go_in);go_wp2;(go_ret2);exact⟨rfl,c⟩);by_cases j:32<b;(.clear h;(go_in);go_wp2;(go_ret2);exact⟨rfl,c⟩);by_cases k:a<2;(.clear h;(go_in);go_wp2;(go_ret2);exact⟨rfl,c⟩);have l:6<a:=by omega
 clear h;go_in
 go_wp2;go_ret2
 exact⟨rfl,c⟩
def SR.fresh(c:M)(b a:U)(d:M):SR:=⟨c,b,a,bj,aw,0,0,aw,aw,aw,aw,0,0,H d,0,bj,bj,bj,bj⟩
def Hc(a:M):Array ab:=#[.func (.func 24) #[aA a] #[],.func (.func 25) #[aA a] #[],.func (.func 26) #[aA a] #[],.func (.func 27) #[aA a] #[]]
def kQ.Zn(w:Z)(o:Obj):kQ (cG (cG w o)<|.map #[] 0) (z (G w)+1) []:=by
 have h:=kQ.new<|cG w o;simp_all
def Ke{Xqq:Prop}(s:M)(e a:U)(w:Z)(ho:1<=e/\e<=32/\2<=a/\a<=6)(r A B C D u:Z->Prop)(p:∀W,I az w W->cg W (z (G w)+2) (SR.fresh s e a<|z (G w)+1) 0->kQ W (z (G w)+1) []->z (G W)=z (G w)+4->r W)(L:∀W,r W->cD aZ 24 #[aA<|z (G w)+2] W λn f=>(n=aJ .nilIface/\A f/\f.heap[z (G w)+3]?=W.heap[z (G w)+3]?)\/Xqq/\∃q,n=aJ (oz q)/\vM f q/\u f)(N:∀W,A W->cD aZ 25 #[aA<|z (G w)+2] W λn f=>(n=aJ .nilIface/\B f/\f.heap[z (G w)+3]?=W.heap[z (G w)+3]?)\/Xqq/\∃q,n=aJ (oz q)/\vM f q/\u f)(O:∀W,B W->cD aZ 26 #[aA<|z (G w)+2] W λn f=>n=aJ .nilIface/\C f/\f.heap[z (G w)+3]?=W.heap[z (G w)+3]?)(P:∀W,C W->cD aZ 27 #[aA<|z (G w)+2] W λn f=>n=aJ .nilIface/\D f/\f.heap[z (G w)+3]?=W.heap[z (G w)+3]?):cD aZ 10 #[aA s,dE #[aq e,aq a]] w λn f=>(n=aJ (dd #[aA<|z (G w)+2,.nilIface])/\D f)\/Xqq/\∃q,n=aJ (dd #[dG none,oz q])/\vM f q/\u f:=by
 obtain⟨o1,o2,o3,o4⟩:=ho;have e1:¬e<1:=by omega
 have e2:¬32<e:=by omega
 have e3:¬a<2:=by omega
 have e4:¬6<a:=by omega
 have X:∀b w,(callFunc 24 b).run aZ w=.ok (.enter 24 b) w:=enters_of func24 (by kernel_rfl) rfl;have aa:∀b w,(callFunc 25 b).run aZ w=.ok (.enter 25 b) w:=enters_of func25 (by kernel_rfl) rfl;have ac:∀b w,(callFunc 26 b).run aZ w=.ok (.enter 26 b) w:=enters_of func26 (by kernel_rfl) rfl;have ad:∀b w,(callFunc 27 b).run aZ w=.ok (.enter 27 b) w:=enters_of func27 (by kernel_rfl) rfl;obtain⟨K,Q,S,T,V⟩:=jm (show r (cG (cG (cG (cG w<|ay #[aq e,aq a] 33)<|.map #[] 0)<|ay ((SR.fresh s e a<|z (G w)+1).cells 0) 95)<|ay (Hc<|z (G w)+2) 68)/\(cG (cG (cG (cG w<|ay #[aq e,aq a] 33)<|.map #[] 0)<|ay ((SR.fresh s e a<|z (G w)+1).cells 0) 95)<|ay (Hc<|z (G w)+2) 68).heap[z (G w)+3]?=H (ay (Hc<|z (G w)+2) 68 (0,0))from⟨p _ ((((cK az w).alloc _).alloc _).alloc _) ((eU _<|by simp).trans<|aH _<|by simp) (((kQ.Zn w _).alloc _).alloc _) (by simp),aH _<|by simp⟩) L N O P;clear o1 o2 o3 o4 p L N O P;have al:=@qS aZ;go_in
 go_wp2;go_loopw [44] (λi wr=>∃(t:M),t<=4/\i=aq t/\((t=0/\r wr)\/(t=1/\A wr)\/(t=2/\B wr)\/(t=3/\C wr)\/(t=4/\D wr))/\wr.heap[z (G w)+3]?=H (ay (Hc<|z (G w)+2) 68 (0,0))) (λi _=>4-(intOf i).toNat)
 case atStart=>exact⟨0,by omega,by go_num,.inl ⟨rfl,K.1⟩,K.2⟩
 (case round=>obtain⟨t,hj,rfl,g,k⟩:=hrel;have f0:=cellAt k 0 rfl;have f1:=cellAt k 1 rfl;have f2:=cellAt k 2 rfl;have f3:=cellAt k 3 rfl;have m:=Y k;clear k;rcases g with⟨rfl,g⟩|⟨rfl,g⟩|⟨rfl,g⟩|⟨rfl,g⟩|⟨rfl,g⟩;(.have l:=Q wr g;clear g;(go_wp2_with fail);refine l.mono ?_;rintro n F(⟨rfl,c,d⟩|⟨E,q,rfl,o⟩);rotate_left;(.have x:=Y o;clear o l;go_wp2;(go_ret2);exact .inr ⟨E,q,rfl,x⟩);have j:=Y c;have i:=Y<|d.trans m;clear c d l;go_wp2;go_roundw;(case rel=>exact⟨1,by omega,by go_num,.inr<|.inl ⟨rfl,j⟩,i⟩);case measure=>simp[intOf]);(.have l:=S wr g;clear g;(go_wp2_with fail);refine l.mono ?_;rintro n F(⟨rfl,c,d⟩|⟨E,q,rfl,o⟩);rotate_left;(.have x:=Y o;clear o l;go_wp2;(go_ret2);exact .inr ⟨E,q,rfl,x⟩);have j:=Y c;have i:=Y<|d.trans m;clear c d l;go_wp2;go_roundw;(case rel=>exact⟨2,by omega,by go_num,.inr<|.inr<|.inl ⟨rfl,j⟩,i⟩);case measure=>simp[intOf]);(.have l:=T wr g;clear g;(go_wp2_with(go_at_fn 26;refine l.mono ?_;rintro n F⟨rfl,c,d⟩;have j:=Y c;have i:=Y<|d.trans m;clear c d));go_roundw;(case rel=>exact⟨3,by omega,by go_num,.inr<|.inr<|.inr<|.inl ⟨rfl,j⟩,i⟩);case measure=>simp[intOf]);(.have l:=V wr g;clear g;(go_wp2_with(go_at_fn 27;refine l.mono ?_;rintro n F⟨rfl,c,d⟩;have j:=Y c;have i:=Y<|d.trans m;clear c d));go_roundw;(case rel=>exact⟨4,by omega,by go_num,.inr<|.inr<|.inr<|.inr<|⟨rfl,j⟩,i⟩);case measure=>simp[intOf]);have v:=Y g;clear g;go_wp2;(go_ret2);exact .inl ⟨rfl,v⟩)
def OA(j:M)(c a:U)(w:Z)(r:1<=c/\c<=32/\2<=a/\a<=6)(d f g h i:Z->Prop)(k:∀W,I az w W->cg W (z (G w)+2) (SR.fresh j c a<|z (G w)+1) 0->kQ W (z (G w)+1) []->z (G W)=z (G w)+4->d W)(n:∀W,d W->cD aZ 24 #[aA<|z (G w)+2] W λe b=>e=aJ .nilIface/\f b/\b.heap[z (G w)+3]?=W.heap[z (G w)+3]?)(o:∀W,f W->cD aZ 25 #[aA<|z (G w)+2] W λe b=>e=aJ .nilIface/\g b/\b.heap[z (G w)+3]?=W.heap[z (G w)+3]?)(p:∀W,g W->cD aZ 26 #[aA<|z (G w)+2] W λe b=>e=aJ .nilIface/\h b/\b.heap[z (G w)+3]?=W.heap[z (G w)+3]?)(q:∀W,h W->cD aZ 27 #[aA<|z (G w)+2] W λe b=>e=aJ .nilIface/\i b/\b.heap[z (G w)+3]?=W.heap[z (G w)+3]?):cD aZ 10 #[aA j,dE #[aq c,aq a]] w λe b=>e=aJ (dd #[aA<|z (G w)+2,.nilIface])/\i b:=(Ke (Xqq:=False) j c a w r d f g h i (λ_=>True) k (λW m=>(n W m).mono<|λ_ _ l=>.inl l) (λW m=>(o W m).mono<|λ_ _ l=>.inl l) p q).mono<|λ_ _ m=>m.elim id<|λl=>l.1.elim
section
variable{P:Program}{a:Array Oper}{Q:Exit->Act->Z->Prop}{md:Region.Mode}{S:Z->Prop}
def zJ(md:Region.Mode)(a:Array Oper)(i:M):M->M->Bool
 |0,_=>bj
 |n+1,j=>match a[j]? with
  |none=>bj
  |some o=>o.after.any λe=>Region.binds md e&&(e.on==i||zJ md a i n e.on)
def BC(md:Region.Mode)(a:Array Oper)(b:Array Bool):Prop:=∀j o,a[j]?=H o->b.getD j bj=cq->∀e∈o.after,Region.binds md e=cq->b.getD e.on bj=cq
def CN(md:Region.Mode)(a:Array Oper)(b:Array Bool):Bool:=(List.range a.size).all λj=>match a[j]? with
 |none=>cq
 |some o=>!b.getD j bj||o.after.all λe=>!Region.binds md e||b.getD e.on bj
theorem Ry{b:Array Bool}(h:CN md a b=cq):BC md a b:=by
 intro j o d e i g f;unfold CN at h;rw[qn]at h;have c:=h j<|nr.2 (nz.1 d).1;simp only[d,e,qK,yl]at c;rw[Array.all_eq_true]at c;grind[Array.mem_iff_getElem]
theorem BC.set{b:Array Bool}{k:M}(n:BC md a b)(g:k∈Region.ready md a b):BC md a (b.setIfInBounds k cq):=by
 intro x p j d m f e;obtain⟨o,q,h,c⟩:=xE.1 g;by_cases l:k=x;grind[getD_set_true]
 rw[getD_set_ne bj l]at d;exact getD_set_true<|n x p j d m f e
theorem zI{p:M}{b:Array Bool}(j:BC md a b):∀(n m:M)(o:Oper),a[m]?=H o->(∀f∈o.after,Region.binds md f=cq->b.getD f.on bj=cq)->zJ md a p n m=cq->b.getD p bj=cq
 |0,_,_,_,_,h=>by simp[zJ]at h
 |n+1,m,o,k,c,h=>by
  unfold zJ at h;simp only[k]at h;obtain⟨x,l,g⟩:=Array.any_eq_true.1 h;simp only[lW,Bool.or_eq_true,beq_iff_eq]at g;have i:=c _ (Array.getElem_mem l) g.1;rcases g.2 with f|f
  .rw[<-f];exact i
  .have hex:∃e,a[(o.after[x]).on]?=H e:=by
    cases n with
    |zero=>simp[zJ]at f
    |succ n=>
     unfold zJ at f;grind
   obtain⟨e,d⟩:=hex;exact zI j n _ e d (λh g c=>j _ e d i h g c) f
def mT(P:Program)(md:Region.Mode)(a:Array Oper)(Q:Exit->Act->Z->Prop)(S:Z->Prop)(m:M):M->Array Bool->Act->Z->Prop
 |0,b,d,w=>Region.ready md a b=[]/\Q .normal d w
 |fuel+1,b,d,w=>
  (Region.ready md a b=[]->Q .normal d w)/\∀i∈Region.ready md a b,wpOp P a Q i (λe c=>(i<m->S c)/\mT P md a Q S m fuel (b.setIfInBounds i cq) e c) d w
theorem zu{m:M}:∀(b:M)(c:Array Bool)(i:Act)(w:Z),mT P md a Q S m b c i w->wpAny P md a Q b c i w
 |0,_,_,_,h=>h
 |b+1,_,_,_,h=>⟨h.1,λj f=>xD (λd g e=>zu b _ d g e.2)<|h.2 j f⟩
theorem GR{n W:M}{l:Oper}{an:ab}(K:a[n]?=H l)(ac:n<W)(al:∀j,W<=j->j<a.size->zJ md a n a.size j=cq)(h:∀(j:M)(au:Oper)o V,a[j]?=H au->au.op≠ .select o V)(hQ:∀ao C D,Q (.panic ao) (C.put l.dst an) D->Q (.panic ao) C D):∀(c:M)(b:Array Bool)(C:Act)(D:Z),BC md a b->(∀j m,a[j]?=H m->j≠n->b.getD j cq=bj->(∀w∈m.after,Region.binds md w=cq->w.on≠n)->l.apart a m=cq)->n∈Region.ready md a b->YieldsIf P a S l an C->S D->mT P md a Q S W c (b.setIfInBounds n cq) (C.put l.dst an) D->mT P md a Q S W (c+1) b C D:=by
 intro c;induction c with
 |zero=>
  intro b C D _ _ k B p e;refine⟨λaa=>(by rw[aa]at k;cases k),λj s=>?_⟩;by_cases d:j=n
  .subst d;exact B.wpOp K p ⟨λ_=>p,e⟩
  .have:=sh s d;rw[e.1]at this;cases this
 |succ c ih=>
  intro b C D E f k B p e;refine⟨λaa=>(by rw[aa]at k;cases k),λj s=>?_⟩;by_cases d:j=n
  .subst d;exact B.wpOp K p ⟨λ_=>p,e⟩
  .have x:=e.2 j<|sh s d;obtain⟨u,m,i,r⟩:=xE.1 s;have L:b.getD n bj=cq->False:=λq=>by
    have F:=(xE.1 k).1;grind
   have v:∀w∈m.after,Region.binds md w=cq->w.on≠n:=λw T N F=>by
    have x:=r w T N;rw[F]at x;exact L x
   have h2:=wpOp_putIf i (f j m i d u v) (λo V=>h n l o V K) (λo V=>h j m o V i) hQ B x;have g:∀T ok,a[T]?=H ok->T≠n->(b.setIfInBounds j cq).getD T cq=bj->(∀w∈ok.after,Region.binds md w=cq->w.on≠n)->l.apart a ok=cq:=λT ok hk F c N=>by
    refine f T ok hk F ?_ N;by_cases ad:j=T
    .grind
    simp_all
   have O:=sh k<|Ne.symm d;have t:j<W:=by
    grind[Nat.lt_or_ge,zI,Array.getElem?_eq_some_iff]
   refine xD (λX w' A=>⟨λ_=>A.2.1 t,ih (b.setIfInBounds j cq) X w' (E.set s) g O A.1 (A.2.1 t) ?_⟩) h2;rw[tX _ _ d];exact A.2.2
theorem Jk{i m:M}{d:Oper}{v:ab}{c:M}{b:Array Bool}{e:Act}{w:Z}(j:a[i]?=H d)(g:i<m)(h:((List.range a.size).all λk=>decide (k<m)||zJ md a i a.size k)=cq)(r:Region.noSelect a=cq)(p:Region.free md a b i=cq)(q:(Region.ready md a b).contains i=cq)(f:CN md a b=cq)(n:∀t e w,Q (.panic t) (e.put d.dst v) w->Q (.panic t) e w)(s:YieldsIf P a S d v e)(o:S w)(u:mT P md a Q S m c (b.setIfInBounds i cq) (e.put d.dst v) w):mT P md a Q S m (c+1) b e w:=GR j g (λk x l=>by
 have:=qn.1 h k (nr.2 l);grind) (Region.noSelect_spec r) n c b e w (Ry f) (Region.free_spec j p) (by simpa using q) s o u
theorem gJ{i p:M}{o:Oper}{d:M}{c:Array Bool}{k:Act}{w:Z}(m:a[i]?=H o)(l:o.guard=none)(j:Region.ready md a c=[i])(r:∀K:Act->Z->Prop,(∀f e,(i<p->S e)->mT P md a Q S p d (c.setIfInBounds i cq) f e->K f e)->Oper.wp P o k w K Q):mT P md a Q S p (d+1) c k w:=by
 refine⟨λg=>(by rw[j]at g;cases g),λq h=>?_⟩;rw[j]at h;obtain rfl:q=i:=by simpa using h
 unfold wpOp;simp only[m];have n:Region.wanted o (yielded a k.tmps)=cq:=by simp[Region.wanted,l]
 rw[dW n];grind
theorem kK{m:M}{c:Array Bool}{f:Act}{w:Z}(e:Region.ready md a c=[])(h:Q .normal f w):∀d,mT P md a Q S m d c f w
 |0=>⟨e,h⟩
 |_+1=>⟨λ_=>h,by rw[e];simp⟩
theorem kJ(S:Z->Prop)(m:M){id:M}{d:Act}{w:Z}(c:P.follows .mixedOrders=cq)(h:mT P .any a Q S m a.size (Array.replicate a.size bj) d w.drew):(Code.region id a cq).wp P Q d w:=yi c<|zu _ _ _ _ h
end
section
variable{P:Program}{a:Array Oper}{Q:Exit->Act->Z->Prop}{md:Region.Mode}{S:Z->Prop}
def xG(P:Program)(md:Region.Mode)(a:Array Oper)(Q:Exit->Act->Z->Prop)(S:Z->Prop)(m _ c:M)(b:Array Bool)(d:Act)(w:Z):Prop:=mT P md a Q S m c b d w
def Hr(md:Region.Mode)(a:Array Oper)(b:Array Bool)(m k:M):Bool:=decide (k<m)&&((List.range a.size).all λj=>decide (j<m)||zJ md a k a.size j)&&Region.noSelect a&&Region.free md a b k&&(Region.ready md a b).contains k&&CN md a b
theorem lX(k:M){m d:M}{c:Array Bool}{e:Act}{w:Z}(h:xG P md a Q S m k d c e w):mT P md a Q S m d c e w:=h
theorem qp{k m d:M}{c:Array Bool}{e:Act}{w:Z}(h:mT P md a Q S m d c e w):xG P md a Q S m k d c e w:=h
theorem sA{k m:M}{e:Oper}{v:ab}{d:M}{b:Array Bool}{f:Act}{w:Z}(h:S w)(i:a[k]?=H e)(c:Hr md a b m k=cq)(g:∀l f w,Q (.panic l) (f.put e.dst v) w->Q (.panic l) f w)(j:YieldsIf P a S e v f)(n:xG P md a Q S m (k+1) d (b.setIfInBounds k cq) (f.put e.dst v) w):xG P md a Q S m k (d+1) b f w:=by
 unfold Hr at c;simp only[lW,pu]at c;exact Jk i c.1.1.1.1.1 c.1.1.1.1.2 c.1.1.1.2 c.1.1.2 c.1.2 c.2 g j h n
theorem yH{k n:M}{e:Oper}{v:ab}{d:M}{c:Array Bool}{f:Act}{w:Z}(i:S w)(l:a[k]?=H e)(g:Hr md a c n k=cq)(h:∀o f w,Q (.panic o) (f.put e.dst v) w->Q (.panic o) f w)(j:Region.wanted e (yielded a f.tmps)=cq)(m:∀w,S w->(execOp f.eval e).run P w=.ok (.value v) w)(p:xG P md a Q S n (k+1) d (c.setIfInBounds k cq) (f.put e.dst v) w):xG P md a Q S n k (d+1) c f w:=sA i l g h (.inl ⟨j,m⟩) p
end
def CR{P:Program}{d:Array Oper}{Q:Exit->Act->Z->Prop}{h:Region.Mode}{S:Z->Prop}{i j o:M}{k l:Oper}{c:Array Bool}{p:Act}(s:d[i]?=H k)(t:d[j]?=H l)(q:k.guard=none)(r:l.guard=none)(n:Region.ready h d c=[i,j])(u:∀K:Act->Z->Prop,(∀f e,(i<o->S e)->mT P h d Q S o b (c.setIfInBounds i cq) f e->K f e)->Oper.wp P k p a K Q)(v:∀K:Act->Z->Prop,(∀f e,(j<o->S e)->mT P h d Q S o b (c.setIfInBounds j cq) f e->K f e)->Oper.wp P l p a K Q):mT P h d Q S o (b+1) c p a:=by
 refine⟨λm=>(by rw[n]at m;cases m),λw g=>?_⟩;rw[n]at g;rcases bD.1 g with rfl|g;unfold wpOp;simp only[s];rw[dW<|by simp[Region.wanted,q]];grind
 (obtain rfl:w=j:=by simpa using g);unfold wpOp;simp only[t];rw[dW<|by simp[Region.wanted,r]];grind
section
open Extern.Stop Stop Extern
theorem kA(w:Z):cD aZ 11 #[.nilIface] w λe a=>e=aJ (aq 0)/\Below (z<|G w) w a:=by
 go_in
 go_wp2;go_ret;exact⟨rfl,(Below.refl _ w).alloc (ai _) _⟩
def BO(t:Addr)(w:Z):(ReflectliteValue.unpack<|.iface 98<|dG<|H t).run aZ w=.ok (dE #[dG<|H<|R (7) 98,aA<|z<|G w,aG 150]) (cG w<|ay #[dG<|H t] 98):=by kernel_rfl
def JL(a:Addr)(w:Z):(ReflectliteValue.methodAny (ReflectliteValue.valueError "reflectlite.Value.Type" 0) (λt _ _ _=>ReflectliteType.toType t) #[dE #[dG<|H<|R (7) 98,dG<|H a,aG 150]]).run aZ w=.ok (.iface 217<|dE #[dG<|H<|R (7) 98]) w:=by kernel_rfl
def yp(h:ab)(w:Z):(Go.method 526 217 (dE #[h]) "Kind").run aZ w=.ok (290,h) w:=by kernel_rfl
def JM(w:Z):((ReflectliteType.abiMethod λt=>(λa:M=>Value.int IntKind.u8 (a:U))<$>Rtype.kind t) #[dG<|H<|R (7) 98]).run aZ w=.ok (qX 22) w:=by kernel_rfl
def JN(w:Z):((ReflectliteType.abiMethod λt=>(λa:M=>Value.int IntKind.u8 (a:U))<$>Rtype.kind t) #[dG<|H<|R (7) 44]).run aZ w=.ok (qX 2) w:=by kernel_rfl
def Zc(a:Sem ab)(f:TypeId->Addr->M->M->Sem ab)(v:ab):ReflectliteValue.method a f #[v]=(do match<-ReflectliteValue.parts v with|none=>a|some (t,c,b)=>f t c b<|b%32):=rfl
def FP(a:Addr)(w:Z):(ReflectliteValue.parts<|dE #[dG<|H<|R (7) 98,dG<|H a,aG 150]).run aZ w=.ok (H (98,a,150)) w:=by kernel_rfl
def FQ(b p:Addr)(W:Z)(a:aS W b=H (dG<|H p)):(ReflectliteValue.method (ReflectliteValue.valueError "reflectlite.Value.IsNil" 0) ReflectliteValue.isNil #[dE #[dG<|H<|R (7) 98,dG<|H b,aG 150]]).run aZ W=.ok (aK bj) W:=by
 rw[Zc];simp only[kE,FP,Result.andThen];simp[ReflectliteValue.isNil,loadVar,isAgg,underlying,underlying98,a,Result.andThen]
def yq(h:ab)(w:Z):(Go.method 526 217 (dE #[h]) "Elem").run aZ w=.ok (320,dE #[h]) w:=by kernel_rfl
def rJ(h:ab)(w:Z):(Go.method 526 217 (dE #[h]) "Implements").run aZ w=.ok (321,dE #[h]) w:=by kernel_rfl
def qi(h:ab)(w:Z):(Go.method 526 217 (dE #[h]) "AssignableTo").run aZ w=.ok (318,dE #[h]) w:=by kernel_rfl
def JO(w:Z):(ReflectliteType.method ReflectliteType.elem #[dE #[dG<|H<|R (7) 98]]).run aZ w=.ok (.iface 217<|dE #[dG<|H<|R (7) 44]) w:=by kernel_rfl
def wE(w:Z):(ReflectliteType.relation "Implements" ReflectliteType.implements_ #[dE #[dG<|H<|R (7) 44],.iface 217<|dE #[dG<|H<|R (7) 41]]).run aZ w=.ok (aK cq) w:=by kernel_rfl
def yR(v:ab)(w:Z):(ReflectliteType.typeOf #[.iface 44 v]).run aZ w=.ok (.iface 217<|dE #[dG<|H<|R (7) 44]) w:=by kernel_rfl
def wF(w:Z):(ReflectliteType.relation "AssignableTo" ReflectliteType.assignableTo #[dE #[dG<|H<|R (7) 44],.iface 217<|dE #[dG<|H<|R (7) 44]]).run aZ w=.ok (aK cq) w:=by kernel_rfl
def BP(n:U)(w:Z):(ReflectliteValue.unpack<|.iface 44<|aq n).run aZ w=.ok (dE #[dG<|H<|R (7) 44,aA<|z<|G w,aG 130]) (cG w<|ay #[aq n] 44):=by kernel_rfl
def MJ(w:Z):(Rtype.elem? 98).run aZ w=.ok (H 44) w:=by kernel_rfl
def WK(p:Addr)(w:Z):(ReflectliteValue.mk 44 p ReflectliteValue.flagAddr).run aZ w=.ok (dE #[dG<|H<|R (7) 44,dG<|H p,aG 386]) w:=by kernel_rfl
def FR(b p:Addr)(W:Z)(a:aS W b=H (dG<|H p)):(ReflectliteValue.method (ReflectliteValue.valueError "reflectlite.Value.Elem" 0) ReflectliteValue.elem #[dE #[dG<|H<|R (7) 98,dG<|H b,aG 150]]).run aZ W=.ok (dE #[dG<|H<|R (7) 44,dG<|H p,aG 386]) W:=by
 rw[Zc];simp only[kE,FP,Result.andThen];simp[ReflectliteValue.elem,loadVar,isAgg,underlying,underlying98,a,Result.andThen,MJ,WK]
def Zh(v x:ab):ReflectliteValue.set #[v,x]=(do
 let(H (dst,a,fl),H (src,b,_)):=(<-ReflectliteValue.parts v,<-ReflectliteValue.parts x)
  |unsupported (.noEntry "extern/(internal/reflectlite.Value).Set.zeroValue")
 if fl/ReflectliteValue.flagAddr%2==0 then unsupported (.noEntry "extern/(internal/reflectlite.Value).Set.unaddressable")
 let c<-loadVar src b
 if<-Rtype.directlyAssignable dst src then storeVar dst a c
 else if<-Rtype.implements dst src then
  if(<-Rtype.kind src)==20 then
   match c with
   | .nilIface=>unsupported<|.noEntry "extern/reflectlite: a nil value of one interface type handed on as a value of another"
   |_=>storeVar dst a c
  else storeVar dst a (.iface src c)
 else panicString ("reflectlite.Set: value of type " ++(<-Rtype.spelt src)++ " is not assignable to type " ++(<-Rtype.spelt dst))
 pure (dd #[])):=rfl
def MI(a:Addr)(w:Z):(ReflectliteValue.parts<|dE #[dG<|H<|R (7) 44,dG<|H a,aG 386]).run aZ w=.ok (H (44,a,386)) w:=by kernel_rfl
def PG(a:Addr)(w:Z):(ReflectliteValue.parts<|dE #[dG<|H<|R (7) 44,dG<|H a,aG 130]).run aZ w=.ok (H (44,a,130)) w:=by kernel_rfl
def MK(w:Z):(Rtype.directlyAssignable 44 44).run aZ w=.ok cq w:=by kernel_rfl
def Ov(a e:Addr)(n:U)(Fa:ab)(W:Z)(b:aS W e=H (aq n))(d:aS W a=H Fa)(c:W.frozen? a=bj):(ReflectliteValue.set #[dE #[dG<|H<|R (7) 44,dG<|H a,aG 386],dE #[dG<|H<|R (7) 44,dG<|H e,aG 130]]).run aZ W=.ok (dd #[]) (cA W a<|aq n):=by
 rw[Zh];simp only[kE,MI,PG,Result.andThen];simp[ReflectliteValue.flagAddr,loadVar,isAgg,underlying,underlying44,b,Result.andThen,MK,storeVar,Value.cells,storeCells,Addr.add];rw[run_store aZ W a _ _<|by rfl];simp[d,c]
def oA(w:Z):Prop:=aS w (R 0 0)=H (.iface 217<|dE #[dG<|H<|R (7) 41])
def Xn(n:U)(t:Addr)(Fa:ab)(e:oA a)(b:aS a t=H Fa)(d:a.frozen? t=bj):cD aZ 28 #[.iface 44<|aq n,.iface 98<|dG<|H t] a λk C=>k=aJ (aK cq)/\C=cA (cG (cG (cG (cG a<|ay #[dG<|H t] 98)<|ay #[dG<|H<|R (7) 98,aA<|z<|G a,aG 150] 148)<|ay #[dG<|H<|R (7) 98,aA<|z<|G a,aG 150] 148)<|ay #[aq n] 44) t (aq n):=by
 unfold oA at e;have K:=@cY aZ 63 _ (λa=>ReflectliteValue.unpack<|a.getD 0<|dd #[]) func63 (by kernel_rfl) (by kernel_rfl) (by kernel_rfl) (by kernel_rfl);have L:=@cY aZ 64 _ (ReflectliteValue.methodAny (ReflectliteValue.valueError "reflectlite.Value.Type" 0)<|λt _ _ _=>ReflectliteType.toType t) func64 (by kernel_rfl) (by kernel_rfl) (by kernel_rfl) (by kernel_rfl);have N:=@cY aZ 65 _ (ReflectliteValue.method (ReflectliteValue.valueError "reflectlite.Value.IsNil" 0) ReflectliteValue.isNil) func65 (by kernel_rfl) (by kernel_rfl) (by kernel_rfl) (by kernel_rfl);have q:=@cY aZ 290 _ (ReflectliteType.abiMethod λt=>do pure (qX<|<-Rtype.kind t)) func290 (by kernel_rfl) (by kernel_rfl) (by kernel_rfl) (by kernel_rfl);have s:=@cY aZ 320 _ (ReflectliteType.method ReflectliteType.elem) func320 (by kernel_rfl) (by kernel_rfl) (by kernel_rfl) (by kernel_rfl);have u:=@cY aZ 321 _ (ReflectliteType.relation "Implements" ReflectliteType.implements_) func321 (by kernel_rfl) (by kernel_rfl) (by kernel_rfl) (by kernel_rfl);have l:=@cY aZ 98 _ ReflectliteType.typeOf func98 (by kernel_rfl) (by kernel_rfl) (by kernel_rfl) (by kernel_rfl);have r:=@cY aZ 318 _ (ReflectliteType.relation "AssignableTo" ReflectliteType.assignableTo) func318 (by kernel_rfl) (by kernel_rfl) (by kernel_rfl) (by kernel_rfl);have m:=@cY aZ 113 _ (ReflectliteValue.method (ReflectliteValue.valueError "reflectlite.Value.Elem" 0) ReflectliteValue.elem) func113 (by kernel_rfl) (by kernel_rfl) (by kernel_rfl) (by kernel_rfl);have o:=@cY aZ 114 _ ReflectliteValue.set func114 (by kernel_rfl) (by kernel_rfl) (by kernel_rfl) (by kernel_rfl);have V:=yR;have O:=qi;have i:=wF;have B:=BP;have E:=BO;have F:=JL;have S:=yp;have P:=yq;have Q:=rJ;have A:=JM;have x:=JN;have j:=JO;have w:=wE;have T:=FQ (R (z<|G a) 0) t (cG (cG a<|ay #[dG<|H t] 98)<|ay #[dG<|H<|R (7) 98,aA<|z<|G a,aG 150] 148) (by simp);have f:0<z (G a):=cW _ _ e;have v:aS (cG (cG a<|ay #[dG<|H t] 98)<|ay #[dG<|H<|R (7) 98,aA<|z<|G a,aG 150] 148) (R 0 0)=H (.iface 217<|dE #[dG<|H<|R (7) 41]):=by rw[cF _ _ (R 0 0) (by simp_all),cF _ _ (R 0 0) f];exact e
 have c:t.block<z (G a):=cW _ _ b;have D:=FR (R (z<|G a) 0) t (cG (cG (cG a<|ay #[dG<|H t] 98)<|ay #[dG<|H<|R (7) 98,aA<|z<|G a,aG 150] 148)<|ay #[dG<|H<|R (7) 98,aA<|z<|G a,aG 150] 148) (by rw[cF _ _ (R (z<|G a) 0) (by simp;omega)];simp);have g:=Ov t (R (z (G a)+1+1+1) 0) n Fa (cG (cG (cG (cG a<|ay #[dG<|H t] 98)<|ay #[dG<|H<|R (7) 98,aA<|z<|G a,aG 150] 148)<|ay #[dG<|H<|R (7) 98,aA<|z<|G a,aG 150] 148)<|ay #[aq n] 44) (by rw[World.cell?_alloc_at _ _ _ _<|by simp];rfl) (by rw[cF _ _ t (by simp;omega),cF _ _ t (by simp;omega),cF _ _ t (by simp;omega),cF _ _ t c];exact b) (by rw[gI _ _ t (by simp;omega),gI _ _ t (by simp;omega),gI _ _ t (by simp;omega),gI _ _ t<|Nat.ne_of_lt c];exact d);go_in
 go_wp2;refine gH 1 ?_;rw[fU];go_wp2;go_ret;simp_all
end
def oA.alloc{w:Z}(h:oA w)(o:Obj):oA (cG w o):=by
 unfold oA at*;rw[cF _ _ _<|cW _ _ h];exact h
theorem Mo(n:U)(j:oA a):cD aZ 11 #[.iface 44<|aq n] a λl k=>l=aJ (aq n)/\Below (z<|G a) a k:=by
 have e:aS (cG a<|ay #[aq 0] 44) (R (z<|G a) 0)=H (aq 0):=by simp
 have d:(cG a<|ay #[aq 0] 44).frozen? (R (z<|G a) 0)=bj:=by simp
 have g:=Xn n (R (z<|G a) 0) (aq 0) (j.alloc _) e d;clear e d;go_in
 go_wp2_with(go_at_call 28;refine g.mono ?_;rintro l f⟨rfl,b⟩;have c:Below (z<|G a) a f:=(by rw[b];exact((((((Below.refl _ a).alloc (ai _) _).alloc (by simp) _).alloc (by simp;omega) _).alloc (by simp;omega) _).alloc (by simp;omega) _).setCell (p:=(R (z<|G a) 0)) (ai _) _);have i:aS f (R (z<|G a) 0)=H (aq n):=(by rw[b];exact sY _ _ _ (by rw[cF _ _ _ (by simp;omega),cF _ _ _ (by simp;omega),cF _ _ _ (by simp;omega),cF _ _ _<|by simp];simp));have HB:=Y c;clear b c)
 go_ret;exact⟨rfl,HB⟩
section
open Extern.Stop Stop Extern
def CJ(a:TypeId)(v:ab)(w:Z):(binOp .eql 41 (.iface a v) .nilIface).run aZ w=.ok (aK bj) w:=by
 have h:∀d:M,(Op.equalIn (d+1) 41 (.iface a v) .nilIface).run aZ w=.ok bj w:=λd=>by simp[Op.equalIn,ep underlying41]
 simp only[binOp];simp[Op.equal,Op.maxDepth,h 9999]
def Ud:(prog.info? 44).map (·.comparable)=H cq:=by kernel_rfl
def Il(n:U)(w:Z):cD aZ 55 #[.nilIface,.iface 44<|aq n] w λe a=>e=aJ (aK bj)/\a=w:=by
 have b:∀w,(binOp .eql 41 .nilIface<|.iface 44<|aq n).run aZ w=.ok (aK bj) w:=λw=>run_eql_iface_nil_left w _ _ underlying41;go_in
 go_wp2;go_ret;simp_all
def ye(h:ab)(w:Z):(Go.method 526 217 (dE #[h]) "Comparable").run aZ w=.ok (319,dE #[h]) w:=by kernel_rfl
def Ef(w:Z):(ReflectliteType.method (λt=>do Rtype.noPackHeld "Comparable" t;(λa:TypeInfo=>aK a.comparable)<$>typeInfo t) #[dE #[dG<|H<|R (7) 44]]).run aZ w=.ok (aK cq) w:=by kernel_rfl
def YM(v:ab)(a:TypeId)(w:Z):(Instr.typeAssert (.iface 202 v) a 266 cq).run aZ w=.ok (dd #[.nilIface,aK bj]) w:=run_typeAssert_lacksB underlying266 (by kernel_rfl) (by kernel_rfl) v a w
def Om(v:ab)(a:TypeId)(w:Z):(Instr.typeAssert (.iface 202 v) a 224 cq).run aZ w=.ok (dd #[.iface 202 v,aK cq]) w:=run_typeAssert_hasB underlying224 (by kernel_rfl) v a w
def zT(v:ab)(w:Z):(Go.method 526 202 v "Unwrap").run aZ w=.ok (316,v) w:=by kernel_rfl
def CS(a:M)(n:U)(w:Z)(h:aS w (R a 1)=H (aq n)):cD aZ 316 #[aA a] w λe b=>e=aJ (.iface 44<|aq n)/\b=w:=by
 go_in
 go_wp2;go_ret;simp_all
def Rl(n:U)(w:Z):(binOp .eql 41 (.iface 44<|aq n)<|.iface 44<|aq n).run aZ w=.ok (aK cq) w:=by
 obtain⟨i,b,a⟩:=uS.1 Ud;have h:∀d:M,(Op.equalIn (d+2) 41 (.iface 44<|aq n)<|.iface 44<|aq n).run aZ w=.ok cq w:=λd=>by simp[Op.equalIn,ep underlying41,ep underlying44,typeInfo,b,a]
 simp only[binOp];simp[Op.equal,Op.maxDepth,h 9998]
def QI(a:M)(n:U)(w:Z)(h:aS w (R a 1)=H (aq n)):cD aZ 99 #[.iface 202<|aA a,.iface 44<|aq n,aK cq] w λe b=>e=aJ (aK cq)/\b=w:=by
 have g:∀w,(binOp .eql 41 (.iface 202<|aA a)<|.iface 44<|aq n).run aZ w=.ok (aK bj) w:=λw=>run_eql_iface_types _ _ _ _ underlying41 (by decide) w;have i:=Rl n;have j:=CJ;have d:=YM;have f:=Om;have m1:=zT;have c:=CS a n w h;go_in
 go_wp2;refine gH 2 ?_;rw[fU];go_wp2_with fail
 apply c.mono;rintro e b⟨rfl,rfl⟩;go_wp2;rw[fU];go_wp2;go_ret;simp_all
def OG(a:M)(n:U)(w:Z)(h:aS w (R a 1)=H (aq n)):cD aZ 55 #[.iface 202<|aA a,.iface 44<|aq n] w λf b=>f=aJ (aK cq)/\b=w:=by
 have i:=CJ;have c:=@cY aZ 98 _ ReflectliteType.typeOf func98 (by kernel_rfl) (by kernel_rfl) (by kernel_rfl) (by kernel_rfl);have d:=@cY aZ 319 _ (ReflectliteType.method (λt=>do Rtype.noPackHeld "Comparable" t;pure (aK (<-typeInfo t).comparable))) func319 (by kernel_rfl) (by kernel_rfl) (by kernel_rfl) (by kernel_rfl);have k:=yR;have j:=ye;have g:=Ef;have e:=QI a n w h;go_in
 go_wp2_with fail
 apply e.mono;rintro f b⟨rfl,rfl⟩;go_wp2;go_ret;simp_all
end
section
open Extern.Stop Stop Extern
def MH(v:ab)(w:Z):(ReflectliteType.typeOf #[.iface 202 v]).run aZ w=.ok (.iface 217<|dE #[dG<|H<|R (7) 202]) w:=by kernel_rfl
def Dv(w:Z):(ReflectliteType.relation "AssignableTo" ReflectliteType.assignableTo #[dE #[dG<|H<|R (7) 202],.iface 217<|dE #[dG<|H<|R (7) 44]]).run aZ w=.ok (aK bj) w:=by kernel_rfl
def YN(v:ab)(a:TypeId)(w:Z):(Instr.typeAssert (.iface 202 v) a 221 cq).run aZ w=.ok (dd #[.nilIface,aK bj]) w:=run_typeAssert_lacksB underlying221 (by kernel_rfl) (by kernel_rfl) v a w
def VU(n:U)(b:M)(t:Addr)(Fa:ab)(c:aS a (R b 1)=H (aq n))(i:oA a)(d:aS a t=H Fa)(f:a.frozen? t=bj):cD aZ 28 #[.iface 202<|aA b,.iface 98<|dG<|H t] a λq k=>q=aJ (aK cq)/\k=cA (cG (cG (cG (cG a<|ay #[dG<|H t] 98)<|ay #[dG<|H<|R (7) 98,aA<|z<|G a,aG 150] 148)<|ay #[dG<|H<|R (7) 98,aA<|z<|G a,aG 150] 148)<|ay #[aq n] 44) t (aq n):=by
 unfold oA at i;have T:=@cY aZ 63 _ (λa=>ReflectliteValue.unpack<|a.getD 0<|dd #[]) func63 (by kernel_rfl) (by kernel_rfl) (by kernel_rfl) (by kernel_rfl);have V:=@cY aZ 64 _ (ReflectliteValue.methodAny (ReflectliteValue.valueError "reflectlite.Value.Type" 0)<|λt _ _ _=>ReflectliteType.toType t) func64 (by kernel_rfl) (by kernel_rfl) (by kernel_rfl) (by kernel_rfl);have W:=@cY aZ 65 _ (ReflectliteValue.method (ReflectliteValue.valueError "reflectlite.Value.IsNil" 0) ReflectliteValue.isNil) func65 (by kernel_rfl) (by kernel_rfl) (by kernel_rfl) (by kernel_rfl);have v:=@cY aZ 290 _ (ReflectliteType.abiMethod λt=>do pure (qX<|<-Rtype.kind t)) func290 (by kernel_rfl) (by kernel_rfl) (by kernel_rfl) (by kernel_rfl);have x:=@cY aZ 320 _ (ReflectliteType.method ReflectliteType.elem) func320 (by kernel_rfl) (by kernel_rfl) (by kernel_rfl) (by kernel_rfl);have A:=@cY aZ 321 _ (ReflectliteType.relation "Implements" ReflectliteType.implements_) func321 (by kernel_rfl) (by kernel_rfl) (by kernel_rfl) (by kernel_rfl);have r:=@cY aZ 98 _ ReflectliteType.typeOf func98 (by kernel_rfl) (by kernel_rfl) (by kernel_rfl) (by kernel_rfl);have w:=@cY aZ 318 _ (ReflectliteType.relation "AssignableTo" ReflectliteType.assignableTo) func318 (by kernel_rfl) (by kernel_rfl) (by kernel_rfl) (by kernel_rfl);have s:=@cY aZ 113 _ (ReflectliteValue.method (ReflectliteValue.valueError "reflectlite.Value.Elem" 0) ReflectliteValue.elem) func113 (by kernel_rfl) (by kernel_rfl) (by kernel_rfl) (by kernel_rfl);have u:=@cY aZ 114 _ ReflectliteValue.set func114 (by kernel_rfl) (by kernel_rfl) (by kernel_rfl) (by kernel_rfl);have tO:=yR;have tF:=MH;have N:=Dv;have nA:=YN;have uW:=Om;have mU:=zT;have O:=CJ;have X:=qi;have m:=wF;have L:=BP;have Q:=BO;have S:=JL;have mK:=yp;have mE:=yq;have mI:=rJ;have K:=JM;have F:=JN;have o:=JO;have E:=wE;have n8:=FQ (R (z<|G a) 0) t (cG (cG a<|ay #[dG<|H t] 98)<|ay #[dG<|H<|R (7) 98,aA<|z<|G a,aG 150] 148) (by simp);have j:0<z (G a):=cW _ _ i;have B:aS (cG (cG a<|ay #[dG<|H t] 98)<|ay #[dG<|H<|R (7) 98,aA<|z<|G a,aG 150] 148) (R 0 0)=H (.iface 217<|dE #[dG<|H<|R (7) 41]):=by rw[cF _ _ (R 0 0) (by simp_all),cF _ _ (R 0 0) j];exact i
 have g:b<z (G a):=cW _ _ c;have C:=CS b n (cG (cG (cG a<|ay #[dG<|H t] 98)<|ay #[dG<|H<|R (7) 98,aA<|z<|G a,aG 150] 148)<|ay #[dG<|H<|R (7) 98,aA<|z<|G a,aG 150] 148) (by rw[cF _ _ (R b 1) (by simp;omega),cF _ _ (R b 1) (by simp;omega),cF _ _ (R b 1) g];exact c);have e:t.block<z (G a):=cW _ _ d;have P:=FR (R (z<|G a) 0) t (cG (cG (cG a<|ay #[dG<|H t] 98)<|ay #[dG<|H<|R (7) 98,aA<|z<|G a,aG 150] 148)<|ay #[dG<|H<|R (7) 98,aA<|z<|G a,aG 150] 148) (by rw[cF _ _ (R (z<|G a) 0) (by simp;omega)];simp);have l:=Ov t (R (z (G a)+1+1+1) 0) n Fa (cG (cG (cG (cG a<|ay #[dG<|H t] 98)<|ay #[dG<|H<|R (7) 98,aA<|z<|G a,aG 150] 148)<|ay #[dG<|H<|R (7) 98,aA<|z<|G a,aG 150] 148)<|ay #[aq n] 44) (by rw[World.cell?_alloc_at _ _ _ _<|by simp];rfl) (by rw[cF _ _ t (by simp;omega),cF _ _ t (by simp;omega),cF _ _ t (by simp;omega),cF _ _ t e];exact d) (by rw[gI _ _ t (by simp;omega),gI _ _ t (by simp;omega),gI _ _ t (by simp;omega),gI _ _ t<|Nat.ne_of_lt e];exact f);go_in
 go_wp2;refine gH 2 ?_;rw[fU];go_wp2_with fail
 apply C.mono;rintro aa k⟨rfl,D⟩;subst k;go_wp2;rw[fU];go_wp2;go_ret;simp_all
def AO{q:M}(d:vM a q)(l:oA a):cD aZ 11 #[oz q] a λn m=>n=aJ (aq 7)/\Below (z<|G a) a m:=by
 obtain⟨g,d⟩:=d;have f:aS (cG a<|ay #[aq 0] 44) (R (z<|G a) 0)=H (aq 0):=by simp
 have e:(cG a<|ay #[aq 0] 44).frozen? (R (z<|G a) 0)=bj:=by simp
 have j:=VU 7 q (R (z<|G a) 0) (aq 0) (cellAt ((eU (ay #[aq 0] 44)<|ar d).trans d) 1 rfl) (l.alloc _) f e;have o:=CJ;clear f e d;go_in
 go_wp2_with(go_at_call 28;refine j.mono ?_;rintro n i⟨rfl,b⟩;have c:Below (z<|G a) a i:=(by rw[b];exact((((((Below.refl _ a).alloc (ai _) _).alloc (by simp) _).alloc (by simp;omega) _).alloc (by simp;omega) _).alloc (by simp;omega) _).setCell (p:=(R (z<|G a) 0)) (ai _) _);have k:aS i (R (z<|G a) 0)=H (aq 7):=(by rw[b];exact sY _ _ _ (by rw[cF _ _ _ (by simp;omega),cF _ _ _ (by simp;omega),cF _ _ _ (by simp;omega),cF _ _ _<|by simp];simp));have HB:=Y c;clear b c)
 go_ret;exact⟨rfl,HB⟩
end
