import Derived.Defers
import Derived.LaidEql
import Derived.RowKitTokens
import Derived.Stop.Asserts
import Derived.Test.YtmnlcbeggagabaaGreatDoorC5
open _root_ renaming List.length→y,Option.some→H,Array.size→z,Go.World.heap→G,Go.Value.ownBlock→cz,Go.World.cell?→aS,Go.World.setCell→cA,Go.World.alloc→cG,Bool.false→bj,Bool.true→ci,Nat→M,Int→U,Go.Calls→cD,Go.Proofs.Tryz.prog→aZ,Go.Value.slice→J,Go.Value.string→am,Go.Value.bool→aK,Go.Value.pointer→dF,Go.Value.tuple→dd,Go.Value.agg→dD
namespace Go.Proofs.YtmnlcbeggagabaaGreatDoor
open ChangeShapes WideShapes RowKit Proofs.Tryz List
set_option maxHeartbeats 16000000
set_option linter.all false
set_option maxRecDepth 100000
variable{a:Z}{b c:M}{d:ab}{k:U}
def tJ(s:ae)(w:Z):cD aZ 57 #[am s] w λe a=>e=aJ (ot<|z<|G w)/\a=cG w (ay #[am s,aq 7] 204):=by
 go_in
 go_wp2;go_ret;simp_all
def vL.new(s:ae)(w:Z):vL (cG w<|ay #[am s,aq 7] 204) (z<|G w):=⟨s,aH _ rfl⟩
def pO(n:U):ab:=if n=0 then .nilIface else .iface 44 (aq n)
def Kr{b:pS}(hp:EO a d b)(S:∀ad,cz d=H ad->ad<z (G a))(hr:y b<=1000000000000)(T:∀W∈b,W.key.size<=140737488351232/\W.val.size<=140737488351232):cD aZ 36 #[d] a λp l=>p=aJ (pO<|fJ b)/\I az a l:=by
 have Q:∀(W:Bool)(a:Z),(Op.unary .not<|aK W).run aZ a=.ok (aK<|!W) a:=λ_ _=>rfl;obtain⟨h1,⟨rfl,h0⟩|⟨N,g,aa,rfl,ac,P⟩⟩:=hp;(.obtain rfl:b=[]:=aP h0;(go_in);go_wp2;(go_loopw [11] (λV wr=>V=aq 0/\wr=a) (λ_ _=>0));(case atStart=>grind);(case round=>obtain⟨rfl,c⟩:=hrel;subst wr;go_wp2;go_ret;exact⟨rfl,I.refl _ _⟩))
 .have K:N<z (G a):=S N rfl;have D:=Y P;have HZ:=Y T;clear P h1 S T;by_cases O:8<y b
  .have F:=Y (show fJ b=2 by unfold fJ;rw[dV O]);have e1:(8:U)<(y b:U):=by omega
   go_in
   go_wp2;go_ret;exact⟨by rw[af F];rfl,I.refl _ _⟩
  .have F:=Y (show fJ b=lz b by unfold fJ;rw[eI O]);have e1:¬(8:U)<(y b:U):=by omega
   go_in
   go_wp2;go_loopw [11] (λV wr=>∃n:M,n<=y b/\V=aq n/\fJ b=lz (b.drop n)/\I az a wr) (λV _=>y b-(intOf V).toNat)
   case atStart=>exact⟨0,bG _,rfl,F,I.refl _ _⟩
   case round=>
    obtain⟨n,hn,rfl,C,e⟩:=hrel;have E:=Y C;by_cases c:n<y b
    .have B:=kJ b n c;have q:aS wr (R N<|g+n*3)=H (am b[n].key):=e.cell (D _ _ B.1) id K;have r:aS wr (R N<|g+n*3+1)=H (am b[n].val):=e.cell (by rw[bF];exact D _ _ B.2.1) id K;have s:aS wr (R N<|g+n*3+2)=H (aK b[n].del):=e.cell (by rw[bF];exact D _ _ B.2.2) id K;have u:=HZ _<|ak c;have i:=Y e;clear B C e;by_cases v:b[n].key.size=0\/8<b[n].key.size
     .have o:=Y<|E.trans<|Ck c v;generalize b[n]=X at*;obtain⟨x,A,L⟩:=X;simp only at q r s v u;have j:∀W,cD aZ 71 #[am x] W λp l=>p=aJ (aK bj)/\l=W:=by
       grind[qA,pH]
      go_wp2_with fail
      apply(j _).mono;rintro p m⟨rfl,k⟩;subst m;go_wp2;go_ret;exact⟨by rw[af o];rfl,i.alloc _⟩
     .by_cases f:b[n].del=bj/\16<b[n].val.size
      .have o:=Y<|E.trans<|Cj c v f;generalize b[n]=X at*;obtain⟨x,A,L⟩:=X;simp only at q r s v f u;obtain⟨rfl,w⟩:=f;have j:∀W,cD aZ 71 #[am x] W λp l=>p=aJ (aK ci)/\l=W:=by
        grind[qA,pH]
       have t:∀W,cD aZ 72 #[am A] W λp l=>p=aJ (aK bj)/\l=W:=by
        grind[wW,pH]
       go_wp2_with fail
       apply(j _).mono;rintro p m⟨rfl,k⟩;subst m;go_wp2_with fail
       apply(t _).mono;rintro p m⟨rfl,k⟩;subst m;go_wp2;go_ret;exact⟨by rw[af o];rfl,i.alloc _⟩
      .have o:=Y<|E.trans<|Ey c v f;generalize b[n]=X at*;obtain⟨x,A,L⟩:=X;simp only at q r s v f u;have j:∀W,cD aZ 71 #[am x] W λp l=>p=aJ (aK ci)/\l=W:=by
        grind[qA,pH]
       cases L with
       |true=>
        clear f;go_wp2_with fail
        apply(j _).mono;rintro p m⟨rfl,k⟩;subst m;go_wp2;go_roundw;case rel=>exact⟨n+1,c,by go_num,o,i.alloc _⟩
        case measure=>simp[intOf];omega
       |false=>
        have w:A.size<=16:=by grind
        have t:∀W,cD aZ 72 #[am A] W λp l=>p=aJ (aK ci)/\l=W:=by
         grind[wW,pH]
        clear f;go_wp2_with fail
        apply(j _).mono;rintro p m⟨rfl,k⟩;subst m;go_wp2_with fail
        apply(t _).mono;rintro p m⟨rfl,k⟩;subst m;go_wp2;go_roundw;case rel=>exact⟨n+1,c,by go_num,o,i.alloc _⟩
        case measure=>simp[intOf];omega
    .have f:n=y b:=by omega
     have o:=Y (show fJ b=0 by rw[C,f,fZ];rfl);have i:=Y e;have j:¬(n:U)<(y b:U):=by omega
     clear C e f;go_wp2;go_ret;exact⟨by rw[af o];rfl,i⟩
structure SR where
 aM:M
 mem:U
 nN:U
 closed:Bool
 memory:ab
 fS:M
 aT:M
 l0:ab
 l1:ab
 l2:ab
 l3:ab
 next:M
 KZ:M
 oo:Option M
 log:M
 fa:Bool
 vT:Bool
 iQ:Bool
 iW:Bool
variable{o:SR}
def SR.cells(s:SR)(k:U):Array ab:=#[lU k,dh 0,aA s.aM,aq s.mem,aq s.nN,aK s.closed,.nilIface,s.memory,aq s.fS,aE s.aT,s.l0,s.l1,s.l2,s.l3,aE s.next,aq s.KZ,.map s.oo,aE s.log,aK s.fa,aK s.vT,aK s.iQ,aK s.iW]
def cf(w:Z)(a:M)(s:SR)(k:U):Prop:=w.heap[a]?=H (ay (s.cells k) 95 (0,0))
def cf.cell(h:cf a c o k){i:M}(e:(o.cells k)[i]?=H d):aS a (R c i)=H d:=by
 rw[bV h];exact e
def cf.cellAt(h:cf a b o k)(i:M)(e:(o.cells k).toList[i]?=H d):aS a (R b i)=H d:=h.cell (by rw[<-e];simp)
def cf.free{b i:M}(h:cf a b o k):a.frozen? (R b i)=bj:=cZ h
def cf.ap{S:eT}{w w':Z}(h:cf w c o k)(d:I S w w')(a:¬S c):cf w' c o k:=(d.block c (ar h) a).trans h
def Xl(w:Z)(t:ab):cD aZ 28 #[.nilIface,t] w λe a=>e=aJ (aK bj)/\a=w:=by
 go_in
 go_wp2;go_ret;simp_all
def Gp(w:Z):cD aZ 70 #[.nilIface] w λe a=>e=aJ .nilIface/\Below (z<|G w) w a:=by
 go_in
 go_wp2_with(go_at_call 28;refine(Xl _ _).mono ?_;rintro e b⟨rfl,rfl⟩)
 go_ret;exact⟨rfl,(Below.refl _ w).alloc (ai _) _⟩
def mi(h:cf a b o k):cD aZ 35 #[aA b] a λf e=>f=aJ (pO<|if o.closed then 6 else 0)/\Below (z<|G a) a e:=by
 have c5:aS a (R b 5)=H (aK o.closed):=h.cell rfl;have g:aS a (R b 6)=H .nilIface:=h.cell rfl;have d:=Gp a;cases hc:o.closed with
 |true=>
  rw[hc]at c5;clear h hc;go_in
  go_wp2;go_ret;exact⟨rfl,Below.refl _ _⟩
 |false=>
  rw[hc]at c5;clear h hc;go_in
  go_wp2_with(go_at_call 70;refine d.mono ?_;rintro f i⟨rfl,c⟩;have HB:=Y c;clear c)
  go_ret;exact⟨rfl,HB⟩
def jS(a:U)(i n:M):Bool:=if i=0 then decide (a<=(n:U))else decide (i<3)&&decide (a<(n:U))
def mJ(i n:M)(x:Option Addr)(f:M)(h:cf a b o k)(j:i<4):cD aZ 61 #[aA b,aq i,J x n f] a λg e=>g=aJ (aK<|jS o.nN i n)/\e=a:=by
 have c4:aS a (R b 4)=H (aq o.nN):=h.cell rfl;generalize o.nN=d at*;clear h;have c:i=0\/i=1\/i=2\/i=3:=by omega
 rcases c with rfl|rfl|rfl|rfl;(·(go_in);go_wp2;go_ret;exact⟨rfl,rfl⟩);(·(go_in);go_wp2;go_ret;exact⟨rfl,rfl⟩);(·(go_in);go_wp2;go_ret;exact⟨rfl,rfl⟩);(go_in);go_wp2;go_ret;exact⟨rfl,rfl⟩
section
open Conc.Locks
def cf.lN(h:cf a b o k)(j:U):cf (cA a (R b 0)<|lU j) b o j:=by
 have:=aL (i:=0) (u:=lU j) h;exact this
end
def XP(d:ab)(b a:U)(w:Z)(e:∃p,d=.pointer p)(h:¬(1<=b/\b<=32/\2<=a/\a<=6)):cD aZ 10 #[d,dD #[aq b,aq a]] w λg f=>g=aJ (dd #[dF none,pO 1])/\I az w f:=by
 obtain⟨p,rfl⟩:=e;have c:=Y<|show I az w (cG w<|ay #[aq b,aq a] 33)from(cK az w);unfold pO;simp only[Int.reduceEq,nj];by_cases i:b<1;(.clear h;(go_in);go_wp2;(go_ret2);exact⟨rfl,c⟩);by_cases j:32<b;(.clear h;(go_in);go_wp2;(go_ret2);exact⟨rfl,c⟩);by_cases k:a<2;(.clear h;(go_in);go_wp2;(go_ret2);exact⟨rfl,c⟩);have l:6<a:=by omega
 clear h;go_in
 go_wp2;go_ret2
 exact⟨rfl,c⟩
def SR.fresh(c:M)(b a:U)(d:M):SR:=⟨c,b,a,bj,aw,0,0,aw,aw,aw,aw,0,0,H d,0,bj,bj,bj,bj⟩
def GZ(a:M):Array ab:=#[.func (.func 24) #[aA a] #[],.func (.func 25) #[aA a] #[],.func (.func 26) #[aA a] #[],.func (.func 27) #[aA a] #[]]
def kN.Zm(w:Z)(o:Obj):kN (cG (cG w o)<|.map #[] 0) (z (G w)+1) []:=by
 have h:=kN.new<|cG w o;simp_all
def Kd{Xqq:Prop}(s:M)(e a:U)(w:Z)(ho:1<=e/\e<=32/\2<=a/\a<=6)(r A B C D u:Z->Prop)(p:∀W,I az w W->cf W (z (G w)+2) (SR.fresh s e a<|z (G w)+1) 0->kN W (z (G w)+1) []->z (G W)=z (G w)+4->r W)(L:∀W,r W->cD aZ 24 #[aA<|z (G w)+2] W λn f=>(n=aJ .nilIface/\A f/\f.heap[z (G w)+3]?=W.heap[z (G w)+3]?)\/Xqq/\∃q,n=aJ (ot q)/\vL f q/\u f)(N:∀W,A W->cD aZ 25 #[aA<|z (G w)+2] W λn f=>(n=aJ .nilIface/\B f/\f.heap[z (G w)+3]?=W.heap[z (G w)+3]?)\/Xqq/\∃q,n=aJ (ot q)/\vL f q/\u f)(O:∀W,B W->cD aZ 26 #[aA<|z (G w)+2] W λn f=>n=aJ .nilIface/\C f/\f.heap[z (G w)+3]?=W.heap[z (G w)+3]?)(P:∀W,C W->cD aZ 27 #[aA<|z (G w)+2] W λn f=>n=aJ .nilIface/\D f/\f.heap[z (G w)+3]?=W.heap[z (G w)+3]?):cD aZ 10 #[aA s,dD #[aq e,aq a]] w λn f=>(n=aJ (dd #[aA<|z (G w)+2,.nilIface])/\D f)\/Xqq/\∃q,n=aJ (dd #[dF none,ot q])/\vL f q/\u f:=by
 obtain⟨o1,o2,o3,o4⟩:=ho;have e1:¬e<1:=by omega
 have e2:¬32<e:=by omega
 have e3:¬a<2:=by omega
 have e4:¬6<a:=by omega
 have X:∀b w,(callFunc 24 b).run aZ w=.ok (.enter 24 b) w:=enters_of func24 (by kernel_rfl) rfl;have aa:∀b w,(callFunc 25 b).run aZ w=.ok (.enter 25 b) w:=enters_of func25 (by kernel_rfl) rfl;have ac:∀b w,(callFunc 26 b).run aZ w=.ok (.enter 26 b) w:=enters_of func26 (by kernel_rfl) rfl;have ad:∀b w,(callFunc 27 b).run aZ w=.ok (.enter 27 b) w:=enters_of func27 (by kernel_rfl) rfl;obtain⟨K,Q,S,T,V⟩:=jk (show r (cG (cG (cG (cG w<|ay #[aq e,aq a] 33)<|.map #[] 0)<|ay ((SR.fresh s e a<|z (G w)+1).cells 0) 95)<|ay (GZ<|z (G w)+2) 68)/\(cG (cG (cG (cG w<|ay #[aq e,aq a] 33)<|.map #[] 0)<|ay ((SR.fresh s e a<|z (G w)+1).cells 0) 95)<|ay (GZ<|z (G w)+2) 68).heap[z (G w)+3]?=H (ay (GZ<|z (G w)+2) 68 (0,0))from⟨p _ ((((cK az w).alloc _).alloc _).alloc _) ((eU _<|by simp).trans<|aH _<|by simp) (((kN.Zm w _).alloc _).alloc _) (by simp),aH _<|by simp⟩) L N O P;clear o1 o2 o3 o4 p L N O P;have al:=@qQ aZ;go_in
 go_wp2;go_loopw [44] (λi wr=>∃(t:M),t<=4/\i=aq t/\((t=0/\r wr)\/(t=1/\A wr)\/(t=2/\B wr)\/(t=3/\C wr)\/(t=4/\D wr))/\wr.heap[z (G w)+3]?=H (ay (GZ<|z (G w)+2) 68 (0,0))) (λi _=>4-(intOf i).toNat)
 case atStart=>exact⟨0,by omega,by go_num,.inl ⟨rfl,K.1⟩,K.2⟩
 (case round=>obtain⟨t,hj,rfl,g,k⟩:=hrel;have f0:=cellAt k 0 rfl;have f1:=cellAt k 1 rfl;have f2:=cellAt k 2 rfl;have f3:=cellAt k 3 rfl;have m:=Y k;clear k;rcases g with⟨rfl,g⟩|⟨rfl,g⟩|⟨rfl,g⟩|⟨rfl,g⟩|⟨rfl,g⟩;(.have l:=Q wr g;clear g;(go_wp2_with fail);refine l.mono ?_;rintro n F(⟨rfl,c,d⟩|⟨E,q,rfl,o⟩);rotate_left;(.have x:=Y o;clear o l;go_wp2;(go_ret2);exact .inr ⟨E,q,rfl,x⟩);have j:=Y c;have i:=Y<|d.trans m;clear c d l;go_wp2;go_roundw;(case rel=>exact⟨1,by omega,by go_num,.inr<|.inl ⟨rfl,j⟩,i⟩);case measure=>simp[intOf]);(.have l:=S wr g;clear g;(go_wp2_with fail);refine l.mono ?_;rintro n F(⟨rfl,c,d⟩|⟨E,q,rfl,o⟩);rotate_left;(.have x:=Y o;clear o l;go_wp2;(go_ret2);exact .inr ⟨E,q,rfl,x⟩);have j:=Y c;have i:=Y<|d.trans m;clear c d l;go_wp2;go_roundw;(case rel=>exact⟨2,by omega,by go_num,.inr<|.inr<|.inl ⟨rfl,j⟩,i⟩);case measure=>simp[intOf]);(.have l:=T wr g;clear g;(go_wp2_with(go_at_fn 26;refine l.mono ?_;rintro n F⟨rfl,c,d⟩;have j:=Y c;have i:=Y<|d.trans m;clear c d));go_roundw;(case rel=>exact⟨3,by omega,by go_num,.inr<|.inr<|.inr<|.inl ⟨rfl,j⟩,i⟩);case measure=>simp[intOf]);(.have l:=V wr g;clear g;(go_wp2_with(go_at_fn 27;refine l.mono ?_;rintro n F⟨rfl,c,d⟩;have j:=Y c;have i:=Y<|d.trans m;clear c d));go_roundw;(case rel=>exact⟨4,by omega,by go_num,.inr<|.inr<|.inr<|.inr<|⟨rfl,j⟩,i⟩);case measure=>simp[intOf]);have v:=Y g;clear g;go_wp2;(go_ret2);exact .inl ⟨rfl,v⟩)
def Oz(j:M)(c a:U)(w:Z)(r:1<=c/\c<=32/\2<=a/\a<=6)(d f g h i:Z->Prop)(k:∀W,I az w W->cf W (z (G w)+2) (SR.fresh j c a<|z (G w)+1) 0->kN W (z (G w)+1) []->z (G W)=z (G w)+4->d W)(n:∀W,d W->cD aZ 24 #[aA<|z (G w)+2] W λe b=>e=aJ .nilIface/\f b/\b.heap[z (G w)+3]?=W.heap[z (G w)+3]?)(o:∀W,f W->cD aZ 25 #[aA<|z (G w)+2] W λe b=>e=aJ .nilIface/\g b/\b.heap[z (G w)+3]?=W.heap[z (G w)+3]?)(p:∀W,g W->cD aZ 26 #[aA<|z (G w)+2] W λe b=>e=aJ .nilIface/\h b/\b.heap[z (G w)+3]?=W.heap[z (G w)+3]?)(q:∀W,h W->cD aZ 27 #[aA<|z (G w)+2] W λe b=>e=aJ .nilIface/\i b/\b.heap[z (G w)+3]?=W.heap[z (G w)+3]?):cD aZ 10 #[aA j,dD #[aq c,aq a]] w λe b=>e=aJ (dd #[aA<|z (G w)+2,.nilIface])/\i b:=(Kd (Xqq:=False) j c a w r d f g h i (λ_=>True) k (λW m=>(n W m).mono<|λ_ _ l=>.inl l) (λW m=>(o W m).mono<|λ_ _ l=>.inl l) p q).mono<|λ_ _ m=>m.elim id<|λl=>l.1.elim
section
variable{P:Program}{a:Array Oper}{Q:Exit->Act->Z->Prop}{md:Region.Mode}{S:Z->Prop}
def zI(md:Region.Mode)(a:Array Oper)(i:M):M->M->Bool
 |0,_=>bj
 |n+1,j=>match a[j]? with
  |none=>bj
  |some o=>o.after.any λe=>Region.binds md e&&(e.on==i||zI md a i n e.on)
def BB(md:Region.Mode)(a:Array Oper)(b:Array Bool):Prop:=∀j o,a[j]?=H o->b.getD j bj=ci->∀e∈o.after,Region.binds md e=ci->b.getD e.on bj=ci
def CK(md:Region.Mode)(a:Array Oper)(b:Array Bool):Bool:=(List.range a.size).all λj=>match a[j]? with
 |none=>ci
 |some o=>!b.getD j bj||o.after.all λe=>!Region.binds md e||b.getD e.on bj
theorem Rx{b:Array Bool}(h:CK md a b=ci):BB md a b:=by
 intro j o d e i g f;unfold CK at h;rw[qm]at h;have c:=h j<|nk.2 (nu.1 d).1;simp only[d,e,qI,yj]at c;rw[Array.all_eq_true]at c;grind[Array.mem_iff_getElem]
theorem BB.set{b:Array Bool}{k:M}(n:BB md a b)(g:k∈Region.ready md a b):BB md a (b.setIfInBounds k ci):=by
 intro x p j d m f e;obtain⟨o,q,h,c⟩:=xD.1 g;by_cases l:k=x;grind[getD_set_true]
 rw[getD_set_ne bj l]at d;exact getD_set_true<|n x p j d m f e
theorem zH{p:M}{b:Array Bool}(j:BB md a b):∀(n m:M)(o:Oper),a[m]?=H o->(∀f∈o.after,Region.binds md f=ci->b.getD f.on bj=ci)->zI md a p n m=ci->b.getD p bj=ci
 |0,_,_,_,_,h=>by simp[zI]at h
 |n+1,m,o,k,c,h=>by
  unfold zI at h;simp only[k]at h;obtain⟨x,l,g⟩:=Array.any_eq_true.1 h;simp only[lS,Bool.or_eq_true,beq_iff_eq]at g;have i:=c _ (Array.getElem_mem l) g.1;rcases g.2 with f|f
  .rw[<-f];exact i
  .have hex:∃e,a[(o.after[x]).on]?=H e:=by
    cases n with
    |zero=>simp[zI]at f
    |succ n=>
     unfold zI at f;grind
   obtain⟨e,d⟩:=hex;exact zH j n _ e d (λh g c=>j _ e d i h g c) f
def mQ(P:Program)(md:Region.Mode)(a:Array Oper)(Q:Exit->Act->Z->Prop)(S:Z->Prop)(m:M):M->Array Bool->Act->Z->Prop
 |0,b,d,w=>Region.ready md a b=[]/\Q .normal d w
 |fuel+1,b,d,w=>
  (Region.ready md a b=[]->Q .normal d w)/\∀i∈Region.ready md a b,wpOp P a Q i (λe c=>(i<m->S c)/\mQ P md a Q S m fuel (b.setIfInBounds i ci) e c) d w
theorem zt{m:M}:∀(b:M)(c:Array Bool)(i:Act)(w:Z),mQ P md a Q S m b c i w->wpAny P md a Q b c i w
 |0,_,_,_,h=>h
 |b+1,_,_,_,h=>⟨h.1,λj f=>xC (λd g e=>zt b _ d g e.2)<|h.2 j f⟩
theorem GQ{n W:M}{l:Oper}{an:ab}(K:a[n]?=H l)(ac:n<W)(al:∀j,W<=j->j<a.size->zI md a n a.size j=ci)(h:∀(j:M)(au:Oper)o V,a[j]?=H au->au.op≠ .select o V)(hQ:∀ao C D,Q (.panic ao) (C.put l.dst an) D->Q (.panic ao) C D):∀(c:M)(b:Array Bool)(C:Act)(D:Z),BB md a b->(∀j m,a[j]?=H m->j≠n->b.getD j ci=bj->(∀w∈m.after,Region.binds md w=ci->w.on≠n)->l.apart a m=ci)->n∈Region.ready md a b->YieldsIf P a S l an C->S D->mQ P md a Q S W c (b.setIfInBounds n ci) (C.put l.dst an) D->mQ P md a Q S W (c+1) b C D:=by
 intro c;induction c with
 |zero=>
  intro b C D _ _ k B p e;refine⟨λaa=>(by rw[aa]at k;cases k),λj s=>?_⟩;by_cases d:j=n
  .subst d;exact B.wpOp K p ⟨λ_=>p,e⟩
  .have:=se s d;rw[e.1]at this;cases this
 |succ c ih=>
  intro b C D E f k B p e;refine⟨λaa=>(by rw[aa]at k;cases k),λj s=>?_⟩;by_cases d:j=n
  .subst d;exact B.wpOp K p ⟨λ_=>p,e⟩
  .have x:=e.2 j<|se s d;obtain⟨u,m,i,r⟩:=xD.1 s;have L:b.getD n bj=ci->False:=λq=>by
    have F:=(xD.1 k).1;grind
   have v:∀w∈m.after,Region.binds md w=ci->w.on≠n:=λw T N F=>by
    have x:=r w T N;rw[F]at x;exact L x
   have h2:=wpOp_putIf i (f j m i d u v) (λo V=>h n l o V K) (λo V=>h j m o V i) hQ B x;have g:∀T ok,a[T]?=H ok->T≠n->(b.setIfInBounds j ci).getD T ci=bj->(∀w∈ok.after,Region.binds md w=ci->w.on≠n)->l.apart a ok=ci:=λT ok hk F c N=>by
    refine f T ok hk F ?_ N;by_cases ad:j=T
    .grind
    simp_all
   have O:=se k<|Ne.symm d;have t:j<W:=by
    grind[Nat.lt_or_ge,zH,Array.getElem?_eq_some_iff]
   refine xC (λX w' A=>⟨λ_=>A.2.1 t,ih (b.setIfInBounds j ci) X w' (E.set s) g O A.1 (A.2.1 t) ?_⟩) h2;rw[tW _ _ d];exact A.2.2
theorem Jj{i m:M}{d:Oper}{v:ab}{c:M}{b:Array Bool}{e:Act}{w:Z}(j:a[i]?=H d)(g:i<m)(h:((List.range a.size).all λk=>decide (k<m)||zI md a i a.size k)=ci)(r:Region.noSelect a=ci)(p:Region.free md a b i=ci)(q:(Region.ready md a b).contains i=ci)(f:CK md a b=ci)(n:∀t e w,Q (.panic t) (e.put d.dst v) w->Q (.panic t) e w)(s:YieldsIf P a S d v e)(o:S w)(u:mQ P md a Q S m c (b.setIfInBounds i ci) (e.put d.dst v) w):mQ P md a Q S m (c+1) b e w:=GQ j g (λk x l=>by
 have:=qm.1 h k (nk.2 l);grind) (Region.noSelect_spec r) n c b e w (Rx f) (Region.free_spec j p) (by simpa using q) s o u
theorem gH{i p:M}{o:Oper}{d:M}{c:Array Bool}{k:Act}{w:Z}(m:a[i]?=H o)(l:o.guard=none)(j:Region.ready md a c=[i])(r:∀K:Act->Z->Prop,(∀f e,(i<p->S e)->mQ P md a Q S p d (c.setIfInBounds i ci) f e->K f e)->Oper.wp P o k w K Q):mQ P md a Q S p (d+1) c k w:=by
 refine⟨λg=>(by rw[j]at g;cases g),λq h=>?_⟩;rw[j]at h;obtain rfl:q=i:=by simpa using h
 unfold wpOp;simp only[m];have n:Region.wanted o (yielded a k.tmps)=ci:=by simp[Region.wanted,l]
 rw[dV n];grind
theorem kH{m:M}{c:Array Bool}{f:Act}{w:Z}(e:Region.ready md a c=[])(h:Q .normal f w):∀d,mQ P md a Q S m d c f w
 |0=>⟨e,h⟩
 |_+1=>⟨λ_=>h,by rw[e];simp⟩
theorem kG(S:Z->Prop)(m:M){id:M}{d:Act}{w:Z}(c:P.follows .mixedOrders=ci)(h:mQ P .any a Q S m a.size (Array.replicate a.size bj) d w.drew):(Code.region id a ci).wp P Q d w:=yh c<|zt _ _ _ _ h
end
section
variable{P:Program}{a:Array Oper}{Q:Exit->Act->Z->Prop}{md:Region.Mode}{S:Z->Prop}
def xF(P:Program)(md:Region.Mode)(a:Array Oper)(Q:Exit->Act->Z->Prop)(S:Z->Prop)(m _ c:M)(b:Array Bool)(d:Act)(w:Z):Prop:=mQ P md a Q S m c b d w
def Hq(md:Region.Mode)(a:Array Oper)(b:Array Bool)(m k:M):Bool:=decide (k<m)&&((List.range a.size).all λj=>decide (j<m)||zI md a k a.size j)&&Region.noSelect a&&Region.free md a b k&&(Region.ready md a b).contains k&&CK md a b
theorem lT(k:M){m d:M}{c:Array Bool}{e:Act}{w:Z}(h:xF P md a Q S m k d c e w):mQ P md a Q S m d c e w:=h
theorem qo{k m d:M}{c:Array Bool}{e:Act}{w:Z}(h:mQ P md a Q S m d c e w):xF P md a Q S m k d c e w:=h
theorem sw{k m:M}{e:Oper}{v:ab}{d:M}{b:Array Bool}{f:Act}{w:Z}(h:S w)(i:a[k]?=H e)(c:Hq md a b m k=ci)(g:∀l f w,Q (.panic l) (f.put e.dst v) w->Q (.panic l) f w)(j:YieldsIf P a S e v f)(n:xF P md a Q S m (k+1) d (b.setIfInBounds k ci) (f.put e.dst v) w):xF P md a Q S m k (d+1) b f w:=by
 unfold Hq at c;simp only[lS,po]at c;exact Jj i c.1.1.1.1.1 c.1.1.1.1.2 c.1.1.1.2 c.1.1.2 c.1.2 c.2 g j h n
theorem yG{k n:M}{e:Oper}{v:ab}{d:M}{c:Array Bool}{f:Act}{w:Z}(i:S w)(l:a[k]?=H e)(g:Hq md a c n k=ci)(h:∀o f w,Q (.panic o) (f.put e.dst v) w->Q (.panic o) f w)(j:Region.wanted e (yielded a f.tmps)=ci)(m:∀w,S w->(execOp f.eval e).run P w=.ok (.value v) w)(p:xF P md a Q S n (k+1) d (c.setIfInBounds k ci) (f.put e.dst v) w):xF P md a Q S n k (d+1) c f w:=sw i l g h (.inl ⟨j,m⟩) p
end
def CQ{P:Program}{d:Array Oper}{Q:Exit->Act->Z->Prop}{h:Region.Mode}{S:Z->Prop}{i j o:M}{k l:Oper}{c:Array Bool}{p:Act}(s:d[i]?=H k)(t:d[j]?=H l)(q:k.guard=none)(r:l.guard=none)(n:Region.ready h d c=[i,j])(u:∀K:Act->Z->Prop,(∀f e,(i<o->S e)->mQ P h d Q S o b (c.setIfInBounds i ci) f e->K f e)->Oper.wp P k p a K Q)(v:∀K:Act->Z->Prop,(∀f e,(j<o->S e)->mQ P h d Q S o b (c.setIfInBounds j ci) f e->K f e)->Oper.wp P l p a K Q):mQ P h d Q S o (b+1) c p a:=by
 refine⟨λm=>(by rw[n]at m;cases m),λw g=>?_⟩;rw[n]at g;rcases bR.1 g with rfl|g;unfold wpOp;simp only[s];rw[dV<|by simp[Region.wanted,q]];grind
 (obtain rfl:w=j:=by simpa using g);unfold wpOp;simp only[t];rw[dV<|by simp[Region.wanted,r]];grind
section
open Extern.Stop Stop Extern
theorem kr(w:Z):cD aZ 11 #[.nilIface] w λe a=>e=aJ (aq 0)/\Below (z<|G w) w a:=by
 go_in
 go_wp2;go_ret;exact⟨rfl,(Below.refl _ w).alloc (ai _) _⟩
def BN(t:Addr)(w:Z):(ReflectliteValue.unpack<|.iface 98<|dF<|H t).run aZ w=.ok (dD #[dF<|H<|R (7) 98,aA<|z<|G w,aE 150]) (cG w<|ay #[dF<|H t] 98):=by kernel_rfl
def JK(a:Addr)(w:Z):(ReflectliteValue.methodAny (ReflectliteValue.valueError "reflectlite.Value.Type" 0) (λt _ _ _=>ReflectliteType.toType t) #[dD #[dF<|H<|R (7) 98,dF<|H a,aE 150]]).run aZ w=.ok (.iface 217<|dD #[dF<|H<|R (7) 98]) w:=by kernel_rfl
def yo(h:ab)(w:Z):(Go.method 526 217 (dD #[h]) "Kind").run aZ w=.ok (290,h) w:=by kernel_rfl
def JL(w:Z):((ReflectliteType.abiMethod λt=>(λa:M=>Value.int IntKind.u8 (a:U))<$>Rtype.kind t) #[dF<|H<|R (7) 98]).run aZ w=.ok (qV 22) w:=by kernel_rfl
def JM(w:Z):((ReflectliteType.abiMethod λt=>(λa:M=>Value.int IntKind.u8 (a:U))<$>Rtype.kind t) #[dF<|H<|R (7) 44]).run aZ w=.ok (qV 2) w:=by kernel_rfl
def Zb(a:Sem ab)(f:TypeId->Addr->M->M->Sem ab)(v:ab):ReflectliteValue.method a f #[v]=(do match<-ReflectliteValue.parts v with|none=>a|some (t,c,b)=>f t c b<|b%32):=rfl
def FO(a:Addr)(w:Z):(ReflectliteValue.parts<|dD #[dF<|H<|R (7) 98,dF<|H a,aE 150]).run aZ w=.ok (H (98,a,150)) w:=by kernel_rfl
def FP(b p:Addr)(W:Z)(a:aS W b=H (dF<|H p)):(ReflectliteValue.method (ReflectliteValue.valueError "reflectlite.Value.IsNil" 0) ReflectliteValue.isNil #[dD #[dF<|H<|R (7) 98,dF<|H b,aE 150]]).run aZ W=.ok (aK bj) W:=by
 rw[Zb];simp only[kB,FO,Result.andThen];simp[ReflectliteValue.isNil,loadVar,isAgg,underlying,underlying98,a,Result.andThen]
def yp(h:ab)(w:Z):(Go.method 526 217 (dD #[h]) "Elem").run aZ w=.ok (320,dD #[h]) w:=by kernel_rfl
def rH(h:ab)(w:Z):(Go.method 526 217 (dD #[h]) "Implements").run aZ w=.ok (321,dD #[h]) w:=by kernel_rfl
def qg(h:ab)(w:Z):(Go.method 526 217 (dD #[h]) "AssignableTo").run aZ w=.ok (318,dD #[h]) w:=by kernel_rfl
def JN(w:Z):(ReflectliteType.method ReflectliteType.elem #[dD #[dF<|H<|R (7) 98]]).run aZ w=.ok (.iface 217<|dD #[dF<|H<|R (7) 44]) w:=by kernel_rfl
def wD(w:Z):(ReflectliteType.relation "Implements" ReflectliteType.implements_ #[dD #[dF<|H<|R (7) 44],.iface 217<|dD #[dF<|H<|R (7) 41]]).run aZ w=.ok (aK ci) w:=by kernel_rfl
def yQ(v:ab)(w:Z):(ReflectliteType.typeOf #[.iface 44 v]).run aZ w=.ok (.iface 217<|dD #[dF<|H<|R (7) 44]) w:=by kernel_rfl
def wE(w:Z):(ReflectliteType.relation "AssignableTo" ReflectliteType.assignableTo #[dD #[dF<|H<|R (7) 44],.iface 217<|dD #[dF<|H<|R (7) 44]]).run aZ w=.ok (aK ci) w:=by kernel_rfl
def BO(n:U)(w:Z):(ReflectliteValue.unpack<|.iface 44<|aq n).run aZ w=.ok (dD #[dF<|H<|R (7) 44,aA<|z<|G w,aE 130]) (cG w<|ay #[aq n] 44):=by kernel_rfl
def MI(w:Z):(Rtype.elem? 98).run aZ w=.ok (H 44) w:=by kernel_rfl
def WJ(p:Addr)(w:Z):(ReflectliteValue.mk 44 p ReflectliteValue.flagAddr).run aZ w=.ok (dD #[dF<|H<|R (7) 44,dF<|H p,aE 386]) w:=by kernel_rfl
def FQ(b p:Addr)(W:Z)(a:aS W b=H (dF<|H p)):(ReflectliteValue.method (ReflectliteValue.valueError "reflectlite.Value.Elem" 0) ReflectliteValue.elem #[dD #[dF<|H<|R (7) 98,dF<|H b,aE 150]]).run aZ W=.ok (dD #[dF<|H<|R (7) 44,dF<|H p,aE 386]) W:=by
 rw[Zb];simp only[kB,FO,Result.andThen];simp[ReflectliteValue.elem,loadVar,isAgg,underlying,underlying98,a,Result.andThen,MI,WJ]
def Zg(v x:ab):ReflectliteValue.set #[v,x]=(do
 let(H (dst,a,fl),H (src,b,_)):=(<-ReflectliteValue.parts v,<-ReflectliteValue.parts x)
  |unsupported (.noEntry "extern/(internal/reflectlite.Value).Set.zeroValue")
 if fl/ReflectliteValue.flagAddr%2==0 then unsupported (.noEntry "extern/(internal/reflectlite.Value).Set.unaddressable")
 let c<-loadVar src b
 if<-Rtype.directlyAssignable dst src then storeVar dst a c
 else if<-Rtype.implements dst src then
  if(<-Rtype.kind src)==20 then
   match c with
   | .nilIface=>unsupported<|.noEntry "extern/reflectlite: a nil value of one interface type handed on as a value of another"
   |_=>storeVar dst a c
  else storeVar dst a (.iface src c)
 else panicString ("reflectlite.Set: value of type " ++(<-Rtype.spelt src)++ " is not assignable to type " ++(<-Rtype.spelt dst))
 pure (dd #[])):=rfl
def MH(a:Addr)(w:Z):(ReflectliteValue.parts<|dD #[dF<|H<|R (7) 44,dF<|H a,aE 386]).run aZ w=.ok (H (44,a,386)) w:=by kernel_rfl
def PF(a:Addr)(w:Z):(ReflectliteValue.parts<|dD #[dF<|H<|R (7) 44,dF<|H a,aE 130]).run aZ w=.ok (H (44,a,130)) w:=by kernel_rfl
def MJ(w:Z):(Rtype.directlyAssignable 44 44).run aZ w=.ok ci w:=by kernel_rfl
def Ou(a e:Addr)(n:U)(EZ:ab)(W:Z)(b:aS W e=H (aq n))(d:aS W a=H EZ)(c:W.frozen? a=bj):(ReflectliteValue.set #[dD #[dF<|H<|R (7) 44,dF<|H a,aE 386],dD #[dF<|H<|R (7) 44,dF<|H e,aE 130]]).run aZ W=.ok (dd #[]) (cA W a<|aq n):=by
 rw[Zg];simp only[kB,MH,PF,Result.andThen];simp[ReflectliteValue.flagAddr,loadVar,isAgg,underlying,underlying44,b,Result.andThen,MJ,storeVar,Value.cells,storeCells,Addr.add];rw[run_store aZ W a _ _<|by rfl];simp[d,c]
def ou(w:Z):Prop:=aS w (R 0 0)=H (.iface 217<|dD #[dF<|H<|R (7) 41])
def Xm(n:U)(t:Addr)(EZ:ab)(e:ou a)(b:aS a t=H EZ)(d:a.frozen? t=bj):cD aZ 28 #[.iface 44<|aq n,.iface 98<|dF<|H t] a λk C=>k=aJ (aK ci)/\C=cA (cG (cG (cG (cG a<|ay #[dF<|H t] 98)<|ay #[dF<|H<|R (7) 98,aA<|z<|G a,aE 150] 148)<|ay #[dF<|H<|R (7) 98,aA<|z<|G a,aE 150] 148)<|ay #[aq n] 44) t (aq n):=by
 unfold ou at e;have K:=@cY aZ 63 _ (λa=>ReflectliteValue.unpack<|a.getD 0<|dd #[]) func63 (by kernel_rfl) (by kernel_rfl) (by kernel_rfl) (by kernel_rfl);have L:=@cY aZ 64 _ (ReflectliteValue.methodAny (ReflectliteValue.valueError "reflectlite.Value.Type" 0)<|λt _ _ _=>ReflectliteType.toType t) func64 (by kernel_rfl) (by kernel_rfl) (by kernel_rfl) (by kernel_rfl);have N:=@cY aZ 65 _ (ReflectliteValue.method (ReflectliteValue.valueError "reflectlite.Value.IsNil" 0) ReflectliteValue.isNil) func65 (by kernel_rfl) (by kernel_rfl) (by kernel_rfl) (by kernel_rfl);have q:=@cY aZ 290 _ (ReflectliteType.abiMethod λt=>do pure (qV<|<-Rtype.kind t)) func290 (by kernel_rfl) (by kernel_rfl) (by kernel_rfl) (by kernel_rfl);have s:=@cY aZ 320 _ (ReflectliteType.method ReflectliteType.elem) func320 (by kernel_rfl) (by kernel_rfl) (by kernel_rfl) (by kernel_rfl);have u:=@cY aZ 321 _ (ReflectliteType.relation "Implements" ReflectliteType.implements_) func321 (by kernel_rfl) (by kernel_rfl) (by kernel_rfl) (by kernel_rfl);have l:=@cY aZ 98 _ ReflectliteType.typeOf func98 (by kernel_rfl) (by kernel_rfl) (by kernel_rfl) (by kernel_rfl);have r:=@cY aZ 318 _ (ReflectliteType.relation "AssignableTo" ReflectliteType.assignableTo) func318 (by kernel_rfl) (by kernel_rfl) (by kernel_rfl) (by kernel_rfl);have m:=@cY aZ 113 _ (ReflectliteValue.method (ReflectliteValue.valueError "reflectlite.Value.Elem" 0) ReflectliteValue.elem) func113 (by kernel_rfl) (by kernel_rfl) (by kernel_rfl) (by kernel_rfl);have o:=@cY aZ 114 _ ReflectliteValue.set func114 (by kernel_rfl) (by kernel_rfl) (by kernel_rfl) (by kernel_rfl);have V:=yQ;have O:=qg;have i:=wE;have B:=BO;have E:=BN;have F:=JK;have S:=yo;have P:=yp;have Q:=rH;have A:=JL;have x:=JM;have j:=JN;have w:=wD;have T:=FP (R (z<|G a) 0) t (cG (cG a<|ay #[dF<|H t] 98)<|ay #[dF<|H<|R (7) 98,aA<|z<|G a,aE 150] 148) (by simp);have f:0<z (G a):=cW _ _ e;have v:aS (cG (cG a<|ay #[dF<|H t] 98)<|ay #[dF<|H<|R (7) 98,aA<|z<|G a,aE 150] 148) (R 0 0)=H (.iface 217<|dD #[dF<|H<|R (7) 41]):=by rw[cF _ _ (R 0 0) (by simp_all),cF _ _ (R 0 0) f];exact e
 have c:t.block<z (G a):=cW _ _ b;have D:=FQ (R (z<|G a) 0) t (cG (cG (cG a<|ay #[dF<|H t] 98)<|ay #[dF<|H<|R (7) 98,aA<|z<|G a,aE 150] 148)<|ay #[dF<|H<|R (7) 98,aA<|z<|G a,aE 150] 148) (by rw[cF _ _ (R (z<|G a) 0) (by simp;omega)];simp);have g:=Ou t (R (z (G a)+1+1+1) 0) n EZ (cG (cG (cG (cG a<|ay #[dF<|H t] 98)<|ay #[dF<|H<|R (7) 98,aA<|z<|G a,aE 150] 148)<|ay #[dF<|H<|R (7) 98,aA<|z<|G a,aE 150] 148)<|ay #[aq n] 44) (by rw[World.cell?_alloc_at _ _ _ _<|by simp];rfl) (by rw[cF _ _ t (by simp;omega),cF _ _ t (by simp;omega),cF _ _ t (by simp;omega),cF _ _ t c];exact b) (by rw[gG _ _ t (by simp;omega),gG _ _ t (by simp;omega),gG _ _ t (by simp;omega),gG _ _ t<|Nat.ne_of_lt c];exact d);go_in
 go_wp2;refine gF 1 ?_;rw[fT];go_wp2;go_ret;simp_all
end
def ou.alloc{w:Z}(h:ou w)(o:Obj):ou (cG w o):=by
 unfold ou at*;rw[cF _ _ _<|cW _ _ h];exact h
theorem Mn(n:U)(j:ou a):cD aZ 11 #[.iface 44<|aq n] a λl k=>l=aJ (aq n)/\Below (z<|G a) a k:=by
 have e:aS (cG a<|ay #[aq 0] 44) (R (z<|G a) 0)=H (aq 0):=by simp
 have d:(cG a<|ay #[aq 0] 44).frozen? (R (z<|G a) 0)=bj:=by simp
 have g:=Xm n (R (z<|G a) 0) (aq 0) (j.alloc _) e d;clear e d;go_in
 go_wp2_with(go_at_call 28;refine g.mono ?_;rintro l f⟨rfl,b⟩;have c:Below (z<|G a) a f:=(by rw[b];exact((((((Below.refl _ a).alloc (ai _) _).alloc (by simp) _).alloc (by simp;omega) _).alloc (by simp;omega) _).alloc (by simp;omega) _).setCell (p:=(R (z<|G a) 0)) (ai _) _);have i:aS f (R (z<|G a) 0)=H (aq n):=(by rw[b];exact sW _ _ _ (by rw[cF _ _ _ (by simp;omega),cF _ _ _ (by simp;omega),cF _ _ _ (by simp;omega),cF _ _ _<|by simp];simp));have HB:=Y c;clear b c)
 go_ret;exact⟨rfl,HB⟩
section
open Extern.Stop Stop Extern
def CI(a:TypeId)(v:ab)(w:Z):(binOp .eql 41 (.iface a v) .nilIface).run aZ w=.ok (aK bj) w:=by
 have h:∀d:M,(Op.equalIn (d+1) 41 (.iface a v) .nilIface).run aZ w=.ok bj w:=λd=>by simp[Op.equalIn,ep underlying41]
 simp only[binOp];simp[Op.equal,Op.maxDepth,h 9999]
def Uc:(prog.info? 44).map (·.comparable)=H ci:=by kernel_rfl
def Ik(n:U)(w:Z):cD aZ 55 #[.nilIface,.iface 44<|aq n] w λe a=>e=aJ (aK bj)/\a=w:=by
 have b:∀w,(binOp .eql 41 .nilIface<|.iface 44<|aq n).run aZ w=.ok (aK bj) w:=λw=>run_eql_iface_nil_left w _ _ underlying41;go_in
 go_wp2;go_ret;simp_all
def ya(h:ab)(w:Z):(Go.method 526 217 (dD #[h]) "Comparable").run aZ w=.ok (319,dD #[h]) w:=by kernel_rfl
def Ee(w:Z):(ReflectliteType.method (λt=>do Rtype.noPackHeld "Comparable" t;(λa:TypeInfo=>aK a.comparable)<$>typeInfo t) #[dD #[dF<|H<|R (7) 44]]).run aZ w=.ok (aK ci) w:=by kernel_rfl
def YL(v:ab)(a:TypeId)(w:Z):(Instr.typeAssert (.iface 202 v) a 266 ci).run aZ w=.ok (dd #[.nilIface,aK bj]) w:=run_typeAssert_lacksB underlying266 (by kernel_rfl) (by kernel_rfl) v a w
def Ol(v:ab)(a:TypeId)(w:Z):(Instr.typeAssert (.iface 202 v) a 224 ci).run aZ w=.ok (dd #[.iface 202 v,aK ci]) w:=run_typeAssert_hasB underlying224 (by kernel_rfl) v a w
def zS(v:ab)(w:Z):(Go.method 526 202 v "Unwrap").run aZ w=.ok (316,v) w:=by kernel_rfl
def CR(a:M)(n:U)(w:Z)(h:aS w (R a 1)=H (aq n)):cD aZ 316 #[aA a] w λe b=>e=aJ (.iface 44<|aq n)/\b=w:=by
 go_in
 go_wp2;go_ret;simp_all
def Rk(n:U)(w:Z):(binOp .eql 41 (.iface 44<|aq n)<|.iface 44<|aq n).run aZ w=.ok (aK ci) w:=by
 obtain⟨i,b,a⟩:=uR.1 Uc;have h:∀d:M,(Op.equalIn (d+2) 41 (.iface 44<|aq n)<|.iface 44<|aq n).run aZ w=.ok ci w:=λd=>by simp[Op.equalIn,ep underlying41,ep underlying44,typeInfo,b,a]
 simp only[binOp];simp[Op.equal,Op.maxDepth,h 9998]
def QH(a:M)(n:U)(w:Z)(h:aS w (R a 1)=H (aq n)):cD aZ 99 #[.iface 202<|aA a,.iface 44<|aq n,aK ci] w λe b=>e=aJ (aK ci)/\b=w:=by
 have g:∀w,(binOp .eql 41 (.iface 202<|aA a)<|.iface 44<|aq n).run aZ w=.ok (aK bj) w:=λw=>run_eql_iface_types _ _ _ _ underlying41 (by decide) w;have i:=Rk n;have j:=CI;have d:=YL;have f:=Ol;have m1:=zS;have c:=CR a n w h;go_in
 go_wp2;refine gF 2 ?_;rw[fT];go_wp2_with fail
 apply c.mono;rintro e b⟨rfl,rfl⟩;go_wp2;rw[fT];go_wp2;go_ret;simp_all
def OF(a:M)(n:U)(w:Z)(h:aS w (R a 1)=H (aq n)):cD aZ 55 #[.iface 202<|aA a,.iface 44<|aq n] w λf b=>f=aJ (aK ci)/\b=w:=by
 have i:=CI;have c:=@cY aZ 98 _ ReflectliteType.typeOf func98 (by kernel_rfl) (by kernel_rfl) (by kernel_rfl) (by kernel_rfl);have d:=@cY aZ 319 _ (ReflectliteType.method (λt=>do Rtype.noPackHeld "Comparable" t;pure (aK (<-typeInfo t).comparable))) func319 (by kernel_rfl) (by kernel_rfl) (by kernel_rfl) (by kernel_rfl);have k:=yQ;have j:=ya;have g:=Ee;have e:=QH a n w h;go_in
 go_wp2_with fail
 apply e.mono;rintro f b⟨rfl,rfl⟩;go_wp2;go_ret;simp_all
end
section
open Extern.Stop Stop Extern
def MG(v:ab)(w:Z):(ReflectliteType.typeOf #[.iface 202 v]).run aZ w=.ok (.iface 217<|dD #[dF<|H<|R (7) 202]) w:=by kernel_rfl
def Du(w:Z):(ReflectliteType.relation "AssignableTo" ReflectliteType.assignableTo #[dD #[dF<|H<|R (7) 202],.iface 217<|dD #[dF<|H<|R (7) 44]]).run aZ w=.ok (aK bj) w:=by kernel_rfl
def YM(v:ab)(a:TypeId)(w:Z):(Instr.typeAssert (.iface 202 v) a 221 ci).run aZ w=.ok (dd #[.nilIface,aK bj]) w:=run_typeAssert_lacksB underlying221 (by kernel_rfl) (by kernel_rfl) v a w
def VT(n:U)(b:M)(t:Addr)(EZ:ab)(c:aS a (R b 1)=H (aq n))(i:ou a)(d:aS a t=H EZ)(f:a.frozen? t=bj):cD aZ 28 #[.iface 202<|aA b,.iface 98<|dF<|H t] a λq k=>q=aJ (aK ci)/\k=cA (cG (cG (cG (cG a<|ay #[dF<|H t] 98)<|ay #[dF<|H<|R (7) 98,aA<|z<|G a,aE 150] 148)<|ay #[dF<|H<|R (7) 98,aA<|z<|G a,aE 150] 148)<|ay #[aq n] 44) t (aq n):=by
 unfold ou at i;have T:=@cY aZ 63 _ (λa=>ReflectliteValue.unpack<|a.getD 0<|dd #[]) func63 (by kernel_rfl) (by kernel_rfl) (by kernel_rfl) (by kernel_rfl);have V:=@cY aZ 64 _ (ReflectliteValue.methodAny (ReflectliteValue.valueError "reflectlite.Value.Type" 0)<|λt _ _ _=>ReflectliteType.toType t) func64 (by kernel_rfl) (by kernel_rfl) (by kernel_rfl) (by kernel_rfl);have W:=@cY aZ 65 _ (ReflectliteValue.method (ReflectliteValue.valueError "reflectlite.Value.IsNil" 0) ReflectliteValue.isNil) func65 (by kernel_rfl) (by kernel_rfl) (by kernel_rfl) (by kernel_rfl);have v:=@cY aZ 290 _ (ReflectliteType.abiMethod λt=>do pure (qV<|<-Rtype.kind t)) func290 (by kernel_rfl) (by kernel_rfl) (by kernel_rfl) (by kernel_rfl);have x:=@cY aZ 320 _ (ReflectliteType.method ReflectliteType.elem) func320 (by kernel_rfl) (by kernel_rfl) (by kernel_rfl) (by kernel_rfl);have A:=@cY aZ 321 _ (ReflectliteType.relation "Implements" ReflectliteType.implements_) func321 (by kernel_rfl) (by kernel_rfl) (by kernel_rfl) (by kernel_rfl);have r:=@cY aZ 98 _ ReflectliteType.typeOf func98 (by kernel_rfl) (by kernel_rfl) (by kernel_rfl) (by kernel_rfl);have w:=@cY aZ 318 _ (ReflectliteType.relation "AssignableTo" ReflectliteType.assignableTo) func318 (by kernel_rfl) (by kernel_rfl) (by kernel_rfl) (by kernel_rfl);have s:=@cY aZ 113 _ (ReflectliteValue.method (ReflectliteValue.valueError "reflectlite.Value.Elem" 0) ReflectliteValue.elem) func113 (by kernel_rfl) (by kernel_rfl) (by kernel_rfl) (by kernel_rfl);have u:=@cY aZ 114 _ ReflectliteValue.set func114 (by kernel_rfl) (by kernel_rfl) (by kernel_rfl) (by kernel_rfl);have tO:=yQ;have tF:=MG;have N:=Du;have nA:=YM;have uW:=Ol;have mU:=zS;have O:=CI;have X:=qg;have m:=wE;have L:=BO;have Q:=BN;have S:=JK;have mK:=yo;have mE:=yp;have mI:=rH;have K:=JL;have F:=JM;have o:=JN;have E:=wD;have n8:=FP (R (z<|G a) 0) t (cG (cG a<|ay #[dF<|H t] 98)<|ay #[dF<|H<|R (7) 98,aA<|z<|G a,aE 150] 148) (by simp);have j:0<z (G a):=cW _ _ i;have B:aS (cG (cG a<|ay #[dF<|H t] 98)<|ay #[dF<|H<|R (7) 98,aA<|z<|G a,aE 150] 148) (R 0 0)=H (.iface 217<|dD #[dF<|H<|R (7) 41]):=by rw[cF _ _ (R 0 0) (by simp_all),cF _ _ (R 0 0) j];exact i
 have g:b<z (G a):=cW _ _ c;have C:=CR b n (cG (cG (cG a<|ay #[dF<|H t] 98)<|ay #[dF<|H<|R (7) 98,aA<|z<|G a,aE 150] 148)<|ay #[dF<|H<|R (7) 98,aA<|z<|G a,aE 150] 148) (by rw[cF _ _ (R b 1) (by simp;omega),cF _ _ (R b 1) (by simp;omega),cF _ _ (R b 1) g];exact c);have e:t.block<z (G a):=cW _ _ d;have P:=FQ (R (z<|G a) 0) t (cG (cG (cG a<|ay #[dF<|H t] 98)<|ay #[dF<|H<|R (7) 98,aA<|z<|G a,aE 150] 148)<|ay #[dF<|H<|R (7) 98,aA<|z<|G a,aE 150] 148) (by rw[cF _ _ (R (z<|G a) 0) (by simp;omega)];simp);have l:=Ou t (R (z (G a)+1+1+1) 0) n EZ (cG (cG (cG (cG a<|ay #[dF<|H t] 98)<|ay #[dF<|H<|R (7) 98,aA<|z<|G a,aE 150] 148)<|ay #[dF<|H<|R (7) 98,aA<|z<|G a,aE 150] 148)<|ay #[aq n] 44) (by rw[World.cell?_alloc_at _ _ _ _<|by simp];rfl) (by rw[cF _ _ t (by simp;omega),cF _ _ t (by simp;omega),cF _ _ t (by simp;omega),cF _ _ t e];exact d) (by rw[gG _ _ t (by simp;omega),gG _ _ t (by simp;omega),gG _ _ t (by simp;omega),gG _ _ t<|Nat.ne_of_lt e];exact f);go_in
 go_wp2;refine gF 2 ?_;rw[fT];go_wp2_with fail
 apply C.mono;rintro aa k⟨rfl,D⟩;subst k;go_wp2;rw[fT];go_wp2;go_ret;simp_all
def AN{q:M}(d:vL a q)(l:ou a):cD aZ 11 #[ot q] a λn m=>n=aJ (aq 7)/\Below (z<|G a) a m:=by
 obtain⟨g,d⟩:=d;have f:aS (cG a<|ay #[aq 0] 44) (R (z<|G a) 0)=H (aq 0):=by simp
 have e:(cG a<|ay #[aq 0] 44).frozen? (R (z<|G a) 0)=bj:=by simp
 have j:=VT 7 q (R (z<|G a) 0) (aq 0) (cellAt ((eU (ay #[aq 0] 44)<|ar d).trans d) 1 rfl) (l.alloc _) f e;have o:=CI;clear f e d;go_in
 go_wp2_with(go_at_call 28;refine j.mono ?_;rintro n i⟨rfl,b⟩;have c:Below (z<|G a) a i:=(by rw[b];exact((((((Below.refl _ a).alloc (ai _) _).alloc (by simp) _).alloc (by simp;omega) _).alloc (by simp;omega) _).alloc (by simp;omega) _).setCell (p:=(R (z<|G a) 0)) (ai _) _);have k:aS i (R (z<|G a) 0)=H (aq 7):=(by rw[b];exact sW _ _ _ (by rw[cF _ _ _ (by simp;omega),cF _ _ _ (by simp;omega),cF _ _ _ (by simp;omega),cF _ _ _<|by simp];simp));have HB:=Y c;clear b c)
 go_ret;exact⟨rfl,HB⟩
end
