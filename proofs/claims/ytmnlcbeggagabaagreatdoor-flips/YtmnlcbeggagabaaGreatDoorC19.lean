import Derived.Test.YtmnlcbeggagabaaGreatDoorC14
import Derived.Test.YtmnlcbeggagabaaGreatDoorC17
open _root_ renaming List.length→y,Option.some→H,Array.size→z,Go.World.heap→G,Go.Value.ownBlock→cz,Go.World.cell?→aS,Go.World.setCell→cA,Go.World.alloc→cG,Bool.false→bj,Bool.true→ci,Nat→M,Int→U,List→cS,Go.Calls→cD,Go.Proofs.Tryz.prog→aZ,Go.Value.slice→J,Go.Value.string→am,Go.Value.bool→aK,Go.Value.pointer→dF,Go.Value.tuple→dd,Go.Value.agg→dD
namespace Go.Proofs.YtmnlcbeggagabaaGreatDoor
open ChangeShapes WideShapes RowKit Proofs.Tryz List
set_option maxHeartbeats 16000000
set_option linter.all false
set_option maxRecDepth 100000
variable{a f B:Z}{b c g m x O:M}{d u:ab}{e:cI}{j p:cN}{l:dJ}{X:eT}{t:iL}{A:iF}{T:bw}
def iK.take{ts:cN}(h:iK a (aY b c (y ts) g) ts)(i:M)(m:i<=y ts):iK a (aY b c i g) (ts.take i):=by
 have j:y (ts.take i)=i:=by simp;omega
 have l:=h.shape;refine⟨⟨by simp,.inr ⟨b,c,g,by rw[j],?_,λp u d=>?_⟩⟩,λo f=>h.lt o f,λt k=>h.each t<|dU k,by have:=h.small;omega⟩;grind
 rw[List.map_take,oD]at d;split at d;rename_i e;rw[fc,aN<|by omega]at d;cases d;exact h.cell (by omega);cases d
def iK.drop(h:iK a (aY b c (y j) g) j)(i:M)(n:i<=y j):iK a (aY b (c+i) (y j-i)<|g-i) (j.drop i):=by
 have k:y (j.drop i)=y j-i:=by simp
 have m:=h.shape;refine⟨⟨by simp,.inr ⟨b,c+i,g-i,by rw[k],?_,λo u e=>?_⟩⟩,λp f=>h.lt p (by simpa[cz]using f),λt l=>h.each t<|dH l,by have:=h.small;omega⟩;grind
 rw[List.map_drop,List.getElem?_drop]at e;(have d:i+o<y j:=by grind);rw[fc,aN d]at e;cases e;rw[bF];exact h.cell d
def iK.empty(h:iK a (aY b c m g) j)(d:M):iK a (aY b d 0 0) []:=⟨⟨rfl,.inr ⟨b,d,0,rfl,ai _,(by grind)⟩⟩,(λk e=>h.lt k<|by simpa[cz]using e),(by grind),bG _⟩
structure yA(ts:cN)(lo hi:ae)(i j:M):Prop where
 WF:pP ts lo i
 le:i<=j
 oO:j<=y ts
 within:∀k(hk:k<y ts),i<=k->k<j->iX hi (iR ts[k].ks)=bj
 behind:∀(hj:j<y ts),iX hi (iR ts[j].ks)=ci
def KI(K r:ae)(h:iK a d j)(T:Az j):cD aZ 168 #[d,am K,am r] a λaa L=>∃i F V W X,aa=aJ (dd #[V,W,X])/\yA j K r i F/\iK L V (j.take i)/\iK L W ((j.drop i).take<|F-i)/\iK L X (j.drop F)/\(∀k,cz V=H k\/cz W=H k\/cz X=H k->cz d=H k)/\Below (z<|G a) a L:=by
 have ao:=h.small;have C:=yW K h T;rcases h.shape with⟨rfl,rfl⟩|⟨ac,g,c,rfl,ad⟩;(.clear h T;(go_in);(go_wp2_with fail);apply C.mono;rintro aa w1⟨k,rfl,e,m⟩;obtain rfl:k=0:=Nat.le_zero.1 e.le;have O:=Y e;have HB:=Y m;clear e m;go_wp2;(go_loopw [10] (λF wr=>F=aq 0/\wr=w1) (λ_ _=>0));(case atStart=>grind);(case round=>obtain⟨rfl,f⟩:=hrel;subst wr;(go_wp2_with fail);(go_quiet(fail));go_wp2;(go_ret3);have b:iK (w1.drewN nq) aw []:=⟨⟨rfl,.inl ⟨rfl,rfl⟩⟩,(by intro k e;cases e),(by grind),bG _⟩;exact⟨0,0,_,_,_,rfl,⟨O,ai _,ai _,λk e=>absurd e<|gC k,λE=>absurd E<|kF 0⟩,b,b,b,(by simp_all),below_drewN HB _⟩))
 .have HL:=Y h;clear h T;have an:=Vu;go_in
  go_wp2_with fail
  apply C.mono;rintro aa w1⟨i,rfl,e,m⟩;have v:=e.le;have O:=Y e;have HB:=Y m;clear e m;go_wp2;go_loopw [10] (λF wr=>∃n:M,i<=n/\n<=y j/\F=aq n/\(∀k(e:k<y j),i<=k->k<n->iX r (iR j[k].ks)=bj)/\Below (z<|G a) a wr) (λF _=>y j-(intOf F).toNat)
  case atStart=>exact⟨i,ai _,v,rfl,λk _ ad ac=>absurd ad (by omega),HB⟩
  case round=>
   obtain⟨n,S,B,rfl,hw,P⟩:=hrel;have f:=HL.below P;obtain⟨al,HW,l⟩:=dz f hw P;clear hw P;have e1:(i:U)<=(n:U):=by omega
   have e2:(n:U)<=(y j:U):=by omega
   have e3:(i:U)<=(y j:U):=by omega
   have e4:(n:U)<=(c:U):=by omega
   have e5:(i:U)<=(c:U):=by omega
   have e6:(y j:U)<=(c:U):=by omega
   have q:=Y (show(∀(E:n<y j),iX r (iR j[n].ks)=ci)->yA j K r i n/\iK wr (aY ac g i c) (j.take i)/\iK wr (aY ac (g+i) (n-i)<|c-i) ((j.drop i).take<|n-i)/\iK wr (aY ac (g+n) (y j-n)<|c-n) (j.drop n)from by
    intro o;refine⟨⟨O,S,B,HW,o⟩,f.take i v,?_,f.drop n B⟩;have u:=f.drop i v;have D:=iK.take (ts:=j.drop i) (by rw[gX];exact u) (n-i) (by rw[gX];omega);exact D)
   by_cases p:n<y j
   .have hp:=f.cell p;have u:=(f.each _<|ak p).first;have e7:(n:U)<(y j:U):=by omega
    have e8:(0:U)<=(n:U):=by omega
    have o:=Ic (iR j[n].ks) r;clear f;unfold bw.ptr at hp u;cases hkl:iX r (iR j[n].ks)with
    |false=>
     rw[hkl]at o;simp only[lR]at o;have HN:=Y (show∀k(e:k<y j),k=n->iX r (iR j[k].ks)=bj fromλk e aa=>by grind);clear hkl;generalize iR j[n].ks=fk at*;generalize j[n].tb=D at*;go_wp2_with fail
     apply u.mono;rintro aa Q⟨rfl,N⟩;subst Q;go_wp2;go_roundw;case rel=>exact⟨n+1,by omega,p,by go_num,λk e ad ac=>by rcases gA k n with au|au;exact HW k e ad au;exact HN k e (by omega),l⟩
     case measure=>simp[intOf];omega
    |true=>
     rw[hkl]at o;simp only[qI]at o;have x:=Y<|q<|λ_=>hkl;clear hkl;generalize iR j[n].ks=fk at*;generalize j[n].tb=D at*;go_wp2_with fail
     apply u.mono;rintro aa Q⟨rfl,N⟩;subst Q;go_wp2_with fail
     go_quiet(fail)
     go_wp2;go_ret3
     obtain⟨s,t,w,A⟩:=af x;have b:Below (z<|G wr) wr (wr.drewN nq):=below_drewN (Below.refl _ _) _;exact⟨i,n,_,_,_,rfl,s,t.below b,w.below b,A.below b,(by intro k e;simpa[cz]using e),below_drewN l _⟩
   .have u:n=y j:=by omega
    have x:=Y<|q<|λE=>absurd E p;have e7:¬(n:U)<(y j:U):=by omega
    have hE:=f.empty g;have N:=Y hE;clear f hE;have D:=Y (show j.drop n=[]by rw[u,fZ]);rcases gA n c with hc|hc
    .have o:¬(c-n=0):=by omega
     have d2:¬(c-i=0):=by omega
     clear u;go_wp2_with fail
     go_quiet(fail)
     go_wp2;go_ret3
     obtain⟨s,t,w,A⟩:=af x;have b:Below (z<|G wr) wr (wr.drewN nq):=below_drewN (Below.refl _ _) _;exact⟨i,n,_,_,_,rfl,s,t.below b,w.below b,A.below b,(by intro k e;simpa[cz]using e),below_drewN l _⟩
    .have o:c=n:=by omega
     subst o;clear u;rcases gA i c with Q|Q
     .have d2:¬(c-i=0):=by omega
      go_wp2_with fail
      go_quiet(fail)
      go_wp2;go_ret3
      obtain⟨s,t,w,A⟩:=af x;have b:Below (z<|G wr) wr (wr.drewN nq):=below_drewN (Below.refl _ _) _;refine⟨i,c,_,_,_,rfl,s,t.below b,w.below b,?_,(by intro k e;simpa[cz]using e),below_drewN l _⟩;rw[af D];exact N.below b
     .have o:i=c:=by omega
      subst o;go_wp2_with fail
      go_quiet(fail)
      go_wp2;go_ret3
      obtain⟨s,t,w,A⟩:=af x;have b:Below (z<|G wr) wr (wr.drewN nq):=below_drewN (Below.refl _ _) _;refine⟨i,i,_,_,_,rfl,s,t.below b,?_,?_,(by intro k e;simpa[cz]using e),below_drewN l _⟩
      .rw[af D,zo];exact N.below b
      .rw[af D];exact N.below b
def iK.of_heap{w w':Z}(i:iK w d j)(k:w'.heap=w.heap):iK w' d j:=by
 refine⟨?_,λq n=>by rw[k];exact i.lt q n,λt o=>(i.each t o).of_heap k,i.small⟩;obtain⟨h,g|⟨p,b,e,g,l,m⟩⟩:=i.row;exact⟨h,.inl g⟩;exact⟨h,.inr ⟨p,b,e,g,l,λn u i=>(da (w:=w)<|by rw[k]).trans<|m n u i⟩⟩
def UR(a:cN):Prop:=∀i(h:i+1<y a),iX (jj a[i].ks) (iR a[i+1].ks)=ci
def jV.apart(h:jV j):UR j:=by
 intro i a;obtain⟨x,d,b⟩:=(h.pure _<|ak<|show i<y j by omega).wU;obtain⟨f,e,c⟩:=(h.pure _<|ak a).Gs;rw[<-b,<-c];exact h.pair (show i<y j by omega) a (by omega) d e
def GF(h:iK a d j)(l:UR j):cD aZ 94 #[d] a λu g=>u=aJ (aK ci)/\Below (z<|G a) a g:=by
 have E:=h.small;rcases h.shape with⟨rfl,rfl⟩|⟨W,s,B,rfl,_⟩;(.clear h l;(go_in);go_wp2;(go_loopw [6] (λw wr=>w=aq 0/\wr=a) (λ_ _=>0));(case atStart=>grind);(case round=>obtain⟨rfl,rfl⟩:=hrel;go_wp2;go_ret;exact⟨rfl,Below.refl _ _⟩))
 .have A:=Y h;have x:=Y l;have C:=Ir;clear h l;go_in
  go_wp2;go_loopw [6] (λw wr=>∃n:M,n<=y j/\w=aq n/\Below (z<|G a) a wr) (λw _=>y j-(intOf w).toNat)
  case atStart=>exact⟨0,bG _,rfl,Below.refl _ _⟩
  case round=>
   obtain⟨n,D,rfl,o⟩:=hrel;have b:=A.below o;have HB:=Y o;clear o;by_cases i:n<y j
   .rcases gm n with k|k
    .subst k;clear b;go_wp2_with fail
     go_quiet(fail)
     go_wp2;go_roundw;case rel=>exact⟨1,by omega,by go_num,below_drewN HB _⟩
     case measure=>simp[intOf];omega
    .obtain⟨m,rfl⟩:∃m,n=m+1:=⟨n-1,by omega⟩;have r:=b.cell (show m<y j by omega);have f:=b.cell i;have e:∀W,W.heap=wr.heap->cD aZ 150 #[j[m].ptr] W λu g=>u=aJ (am<|jj j[m].ks)/\∃q,g=W.drewN q:=λW a=>((b.each _<|ak<|show m<y j by omega).of_heap a).last;have c:∀W,W.heap=wr.heap->cD aZ 151 #[j[m+1].ptr] W λu g=>u=aJ (am<|iR j[m+1].ks)/\g=W:=λW a=>((b.each _<|ak i).of_heap a).first;have p:=x m i;unfold iX at p;clear b;unfold bw.ptr at r f e c;generalize jj j[m].ks=S at*;generalize iR j[m+1].ks=T at*;generalize j[m].tb=V at*;generalize j[m+1].tb=X at*;obtain⟨t,v⟩:∃t,m+1=t:=⟨_,rfl⟩;rw[v]at f i k D|-;have F:(t:U)-1=(m:U):=by omega
     have K:(m:U)<(y j:U):=by omega
     have L:(t:U)<(y j:U):=by omega
     have N:IntKind.i64.wrap (m:U)=(m:U):=by rw[bS];omega
     have O:(0:U)<(t:U):=by omega
     have P:(0:U)<=(m:U):=by omega
     have Q:m<y j:=by omega
     clear v;go_wp2_with fail
     go_quiet(first
      |(go_at_call 150;refine Calls.quiet_of (e _ rfl))
      |(go_at_call 151;refine Calls.quiet_of_same (c _ rfl)))
     go_wp2;go_roundw;case rel=>exact⟨t+1,by omega,by go_num,below_drewN HB _⟩
     case measure=>simp[intOf];omega
   .have c:n=y j:=by omega
    subst c;clear b;go_wp2;go_ret;exact⟨rfl,HB⟩
def IT(w:Z)(d:M)(t:bw):Prop:=∃c b a,lB w t.tb (aA d) t.num (y<|dw t.cs) (y<|eO t.ks) (kO<|eO t.ks) c b a aw t.ks
def IT.Sg(h:IT a b T):Me a T:=by
 obtain⟨e,d,c,f⟩:=h;exact⟨_,_,_,_,_,e,d,c,_,f⟩
def IT.below(i:IT a b T)(g:Below (z<|G a) a f):IT f b T:=by
 obtain⟨h,d,c,e⟩:=i;exact⟨h,d,c,e.di (g.block _ e.lt.1)<|g.block _ e.lt.2⟩
def bw.vq(t:bw):iF:=[aE t.num,dh<|y<|dw t.cs,dh<|y<|eO t.ks,dh<|kO<|eO t.ks]
def dq(a:cN):iF:=a.flatMap bw.vq
def DU(a:cN)(t:bw):dq (a++[t])=dq a++t.vq:=by simp[dq]
def KS:(prog.info? 188).map (λi=>(i.zero,i.size,i.bytes))=H (H<|dD #[aE 0,dh 0,dh 0,dh 0],4,24):=by kernel_rfl
def Cm(x c d u:ab)(t:TypeId)(e:b=z (G a)):∀j q,[x,c,d,u][j]?=H q->aS (cG a<|ay #[x,c,d,u] t) (((R b 0):Addr).add j)=H q:=by
 intro j q f;subst e;rw[dt];simp_all
def Nn(w:Z)(db:M)(ao:ab)(b:cN)(h:iK w ao b)(F:∀av∈b,IT w db av)(hl:y b<=100000000):cD aZ 175 #[ao] w λan V=>∃T,an=aJ T/\V.ownsRow (z<|G w) 188 4 T (y b) (dq b)/\Below (z<|G w) w V:=by
 obtain⟨K,k,l,m,o⟩:=cU KS;rcases h.shape with⟨rfl,rfl⟩|⟨ax,L,aa,rfl,_⟩
 .clear h F;go_in
  go_wp2_with(first
   |(at_make;go_loud(refine ki _ rfl _ _ 123 rfl (z (G w)) 188 K (.agg #[.int .u64 0,.int .u32 0,.int .u32 0,.int .u32 0]) 4 underlying123 k l m _ _ _ 0 rfl rfl (by omega) (by rw[o];omega) (by grind) (ai _) ?_;intro W d c;have j:=Y d;have i:=Y c;clear d c)))
  go_loopw [3,11] (λal P wr=>P=aq 0/\wr.ownsRow (z<|G w) 188 4 al 0 []/\wr=W) (λ_ _ _=>0)
  case atStart=>exact⟨rfl,j,rfl⟩
  case round=>
   obtain⟨rfl,s,a⟩:=hrel;subst wr;obtain⟨au,X,rfl⟩:=aC s;have p:=Y s;clear s;go_wp2;go_ret;exact⟨_,rfl,p,(I.dW (S:=az) i<|by simp).below (ai _) cC⟩
 .have HL:=Y h;have HW:=Y F;clear h F;go_in
  go_wp2_with(first
   |(at_make;go_loud(refine ki _ rfl _ _ 123 rfl (z (G w)) 188 K (.agg #[.int .u64 0,.int .u32 0,.int .u32 0,.int .u32 0]) 4 underlying123 k l m _ _ _ (y b) rfl rfl (by omega) (by rw[o];omega) (by unfold maxLen;omega) (ai _) ?_;intro W d c;have j:=Y d;have i:=Y c;clear d c)))
  go_loopw [3,11] (λal P wr=>∃n:M,n<=y b/\P=aq n/\wr.ownsRow (z<|G w) 188 4 al n (dq<|b.take n)/\I az w wr) (λ_ P _=>y b-(intOf P).toNat)
  case atStart=>exact⟨0,bG _,rfl,j,I.dW (S:=az) i<|by simp⟩
  case round=>
   obtain⟨n,hn,rfl,a,e⟩:=hrel;have q:=e.below (ai _) cC;have ad:=e.size;obtain⟨au,X,s⟩:=aC a;by_cases g:n<y b
   .have hp:=(HL.below q).cell g;obtain⟨bb,N,v,O⟩:=(HW _<|ak g).below q;have r:=Tg O;obtain⟨C,p,HT⟩:=dz (show dq (b.take<|n+1)=dq (b.take n)++[aE b[n].num,dh<|y<|dw b[n].cs,dh<|y<|eO b[n].ks,dh<|kO<|eO b[n].ks]by rw[aj g,DU];rfl) a e;have E:=a.lt;clear O a e q;unfold bw.ptr at hp;unfold DV at r;generalize b[n].num=x0 at*;generalize y (dw b[n].cs)=x1 at*;generalize y (eO b[n].ks)=x2 at*;generalize kO (eO b[n].ks)=x3 at*;generalize b[n].tb=Q at*;subst s;go_wp2_with fail
    apply r.mono;rintro an w1⟨rfl,f⟩;have A:=Y<|(I.aQ (S:=az) f).own p<|λ_ _ X=>X;have ac:=f.size;have x:=Y f;clear f;go_wp2_with(first
     |(at_builtin;go_loud(refine ct _ rfl (.tmp 15) (.tmp 18) 123 rfl (z (G w)) 188 K (.agg #[.int .u64 0,.int .u32 0,.int .u32 0,.int .u32 0]) 4 24 underlying123 k l m o rfl (by decide) (.slice au n X) n (dq (b.take n)) rfl (aX A _) (R (z (G w1)) 0) 1 1 [.int .u64 x0,.int .u32 x1,.int .u32 x2,.int .u32 x3] rfl rfl (Cm _ _ _ _ _ rfl) (by simp[Value.oneCell']) (by omega) (by omega) (by simp;omega) ?_;intro o2 w2 t u;have B:=Y t;have D:=Y u;clear t u)))
    go_roundw;case rel=>
     refine⟨n+1,g,by go_num,by rw[af C];exact B,?_⟩;exact((HT.bW<|I.aQ (S:=az) x).alloc _).trans (I.fy D)<|λk a=>.inr (E k a).1
    case measure=>simp[intOf];omega
   .have f:n=y b:=by omega
    subst f;rw[bL]at a;have p:=Y a;have HB:=Y q;clear a q e;go_wp2;go_ret;exact⟨_,rfl,p,HB⟩
def Ko(v:ab)(w:Z):(Go.method 526 91 v "From").run aZ w=.ok (300,v) w:=by kernel_rfl
def Kn(v:ab)(w:Z):(Go.method 526 189 v "From").run aZ w=.ok (304,v) w:=by kernel_rfl
def lI.wS(h:rB t b d j a)(c:b<=z (G a))(hF:∀k,t.F k->k<b):lI t b (.iface 91 d) (bZ j) a:=⟨_,d,_,d,rfl,Ko d,enters_of func300 (by kernel_rfl) rfl,λg i e f=>QB g (h.same e) f (aB c e.1) hF⟩
def lI.table(h:mV t b T.tb T.ks T.cs a)(c:b<=z (G a))(hF:∀k,t.F k->k<b):lI t b (.iface 189 T.ptr) T.all a:=⟨_,T.ptr,_,T.ptr,rfl,Kn T.ptr,enters_of func304 (by kernel_rfl) rfl,λf g d e=>BH f (h.same d) e (aB c d.1) hF⟩
def Io:(prog.info? 168).map (λi=>(i.zero,i.size,i.bytes))=H (H .nilIface,1,16):=by kernel_rfl
structure RQ(w:Z)(base:M)(t:bw)(bb vV x Fj:M):Prop where
 ks:t.ks=bI 0 t.cs
 num:t.num=0
 pieces:pQ t.all t.cs
 mem:lB w t.tb (dF none) 0 0 0 0 bb 0 vV (aY x 0 (y<|dw t.cs) Fj) t.ks
 data:eE w base (aY x 0 (y<|dw t.cs) Fj) (dw t.cs)
 Fm:w.ownsRow base 331 5 (aY bb 0 (y t.ks) vV) (y t.ks) (ez t.ks)
 new:base<=t.tb
def UK(w:Z)(a:M)(t:bw):Prop:=∃d b x c,RQ w a t d b x c
def RQ.ap{S:eT}{w w':Z}{t:bw}(h:RQ w c t g m x O)(a:I S w w')(j:¬S t.tb)(e:¬S g)(k:¬S x):RQ w' c t g m x O:=⟨h.ks,h.num,h.pieces,h.mem.di (a.block _ h.mem.lt.1 j)<|a.block _ h.mem.lt.2 e,a.own h.data (λl d=>by cases d;exact k),a.own h.Fm (λl d=>by cases d;exact e),h.new⟩
def RQ.other{t:bw}(n:RQ a b t c g m x)(q:I X a f)(k:∀o,X o->∃d T e,a.heap[o]?=H (ay d T e)/\T≠265/\T≠331/\T≠5):RQ f b t c g m x:=by
 refine n.ap q (λl=>?_) (λl=>?_)<|λl=>?_;obtain⟨d,T,e,h,j,_⟩:=k _ l;exact ld h n.mem.box j rfl;obtain⟨d,T,e,h,_,j,_⟩:=k _ l;obtain⟨c2,p⟩:=fR n.Fm (k:=c) rfl;grind
 obtain⟨d,T,e,h,_,_,j⟩:=k _ l;obtain⟨c2,p⟩:=fR n.data (k:=m) rfl;grind
structure NT where
 t:bw
 bb:M
 vV:M
 x:M
 Fj:M
def NT.Ok(w:Z)(a:M)(p:NT):Prop:=RQ w a p.t p.bb p.vV p.x p.Fj
def NT.has(p:NT)(k:M):Prop:=k=p.t.tb\/k=p.bb\/k=p.x
def NT.mL(p q:NT):Prop:=∀k,p.has k->¬q.has k
def NT.Ok.lt{p:NT}(h:p.Ok a c):∀k,p.has k->c<=k/\k<z (G a):=by
 rintro k(rfl|rfl|rfl);exact⟨h.new,h.mem.lt.1⟩;exact⟨(h.Fm.lt _ rfl).1,h.mem.lt.2⟩;exact eE.lt h.data _ rfl
def NT.Ok.ap{S:eT}{w w':Z}{p:NT}(h:p.Ok w c)(d:I S w w')(a:∀k,p.has k->¬S k):p.Ok w' c:=RQ.ap h d (a _<|.inl rfl) (a _<|.inr<|.inl rfl)<|a _<|.inr<|.inr rfl
def NT.Ok.base{c base':M}{p:NT}(h:p.Ok a c)(d:base'<=c):p.Ok a base':=⟨h.ks,h.num,h.pieces,h.mem,h.data.base d,fM h.Fm d,aB d h.new⟩
def NT.Ok.YO{p:NT}(h:p.Ok a b):UK a b p.t:=⟨_,_,_,_,h⟩
def pU(w:Z)(a:M)(d:cN):Prop:=∃c:cS NT,c.map NT.t=d/\(∀p∈c,p.Ok w a)/\c.Pairwise NT.mL
def pU.nil(w:Z)(a:M):pU w a []:=⟨[],rfl,by simp,List.Pairwise.nil⟩
def pU.each(h:pU a c j):∀t∈j,UK a c t:=by
 obtain⟨g,rfl,d,_⟩:=h;intro t f;obtain⟨p,e,rfl⟩:=bM.1 f;exact(d p e).YO
def pU.ap{w w':Z}(g:pU w c j)(h:I az w w'):pU w' c j:=by
 obtain⟨k,a,d,e⟩:=g;exact⟨k,a,λp g=>(d p g).ap h<|λ_ _ l=>l,e⟩
def pU.other(l:pU a b j)(m:I X a f)(k:∀o,X o->∃c T d,a.heap[o]?=H (ay c T d)/\T≠265/\T≠331/\T≠5):pU f b j:=by
 obtain⟨n,e,g,h⟩:=l;exact⟨n,e,λp l=>RQ.other (g p l) m k,h⟩
def pU.base{c base':M}(h:pU a c j)(g:base'<=c):pU a base' j:=by
 obtain⟨i,d,e,f⟩:=h;exact⟨i,d,λp h=>(e p h).base g,f⟩
def EY{a:cS NT}{q:NT}(h:a.Pairwise NT.mL)(b:∀p∈a,p.mL q):(a++[q]).Pairwise NT.mL:=by
 rw[bP];grind
def FX(v:ab):∀(n:M)(a:dJ)(i:M)(b:i<y a),(nX v n a)[i]?=H (yL v (n+y (a.take i).flatten)<|y a[i])
 |_,[],_,b=>absurd b<|gC _
 |n,p::a,0,_=>by simp[nX]
 |n,p::a,i+1,b=>by
  rw[nX,uo,FX v (n+y p) a i<|by simpa using b];grind
def PV(h:jU a d e)(g:l.flatten=e)(f:b<y l)(c:l[b]≠[]):jU a (yL d (0+y (l.take b).flatten)<|y l[b]) l[b]:=by
 rw[dr];refine An (s:=(l.drop<|b+1).flatten) h ?_ c;have i:l=l.take b++l[b]::l.drop (b+1):=by rw[<-bD f,bX]
 rw[<-g];grind
def vt:(prog.info? 189).map (λi=>(i.zero,i.size,i.bytes))=H (H<|dF none,1,8):=by kernel_rfl
def Le(l:cI):fO ⟨#[]⟩ l=l:=fW.2 (λx _=>by rw[Ih];rfl)
def uE(c:ab)(a b:cN):cS (ab×cI):=(.iface 91 c,bZ b)::a.map (λt=>(.iface 189 t.ptr,t.all))
def rf(d:dN)(a:Bool)(b c:cN):cI:=gK d a<|bZ c::b.map bw.all
def Vk(w:Z)(x:ab)(T:TypeId):(cG w<|ay #[x] T).ownsRow (z<|G w) T 1 (aY (z<|G w) 0 1 1) 1 [x]:=⟨rfl,.inr ⟨z<|G w,1,#[x],rfl,ai _,aH _ rfl,ai _,by unfold maxLen;omega,rfl,rfl⟩⟩
structure IZ(W wr:Z)(base:M)(o:ab)(ps:dJ)(n:M)(tm:cN):Prop where
 own:wr.ownsRow base 189 1 o n (tm.map bw.ptr)
 len:y tm=n
 all:tm.map bw.all=ps.take n
 each:pU wr base tm
 ap:I az W wr
def IZ.step{W wr w1 w2:Z}{o o2:ab}{e:dJ}{a:M}{i:Obj}(t:IZ W wr b o l c j)(E:c<y l)(S:b<=z (G W))(D:∀k,cz o=H k->z (G W)<=k)(f:Ma wr w1 g l[c] e m x O a)(F:w2.ownsRow b 189 1 o2 (c+1) (j.map bw.ptr++[aA g]))(r:eC (cG w1 i) w2 o o2):∃s,IZ W w2 b o2 l (c+1) s/\∀k,cz o2=H k->z (G W)<=k:=by
 have K:=t.ap.size;have L:=f.ap.size;have A:I (λk=>cz o=H k) wr w2:=((f.ap.mono (T:=λk=>cz o=H k) cC).alloc i).trans (I.fy r)<|λ_ d=>.inl d;have n:∀k,cz o=H k->∃e,wr.heap[k]?=H (ay e 189 (0,0)):=λk d=>fR t.own d;have q:I (λk=>cz o=H k) w1 w2:=((I.refl (λk=>cz o=H k) w1).alloc i).trans (I.fy r)<|λ_ d=>.inl d;refine⟨j++[⟨g,bI 0 e,e,0⟩],⟨?_,by rw[ag,t.len];rfl,?_,?_,t.ap.trans A<|λk d=>.inr<|D k d⟩,?_⟩;rw[aR];exact F;rw[aR,t.all,aj E];show _++[e.flatten]=_;rw[f.pieces.flat];obtain⟨P,B,u,C⟩:=t.each;have v:NT.Ok w1 (z<|G wr) ⟨⟨g,bI 0 e,e,0⟩,m,x,O,a⟩:=⟨rfl,rfl,by have:=f.pieces;rw[<-this.flat]at this;exact this,f.mem,f.data,f.Fm,f.new⟩;refine⟨P++[⟨⟨g,bI 0 e,e,0⟩,m,x,O,a⟩],by rw[aR,B];rfl,λN h=>?_,EY C<|λN h k d p=>?_⟩;rcases aG.1 h with h|h;exact RQ.other (u N h) A (λk d=>by grind);rw[dA]at h;subst h;refine RQ.other (NT.Ok.base v<|by omega) q<|λk d=>?_;obtain⟨Q,w⟩:=n k d;exact⟨Q,_,_,(f.ap.block k (ar w) id).trans w,by decide,by decide,by decide⟩;have w:=((u N h).lt k d).2;have Q:=(v.lt k p).1;omega;intro k d;rcases r.uj with u|⟨p,u,h⟩;(grind);rw[u]at d;cases d;simp at h;omega
def ua(h:jU a d e)(hs:dK e)(o:qE 5 e)(hg:∀bl∈e,bl.Good)(hl:y e<=1000000)(hv:∀P,cz d=H P->P<z (G a))(hT:Steps a):cD aZ 172 #[d] a λbf L=>∃vm,∃l:cN,bf=aJ vm/\L.ownsRow (z<|G a) 189 1 vm (y l) (l.map bw.ptr)/\l.map bw.all=gL e/\pU L (z<|G a) l/\I az a L:=by
 obtain⟨j0,ao,aU,aV,ba⟩:=cU vt;have t:=Pt h hs hl hv;obtain⟨bl,bd,aF⟩:=bN h
 have W:=Y (show∀n(x:n<y (gL e))(wr:Z),I az a wr->∃O b j,(nX d 0<|gL e)[n]?=H (aY O b (y (gL e)[n]) j)/\cD aZ 110 #[aY O b (y (gL e)[n]) j] wr λbf L=>∃i cs bc c db f,bf=aJ (aA i)/\Ma wr L i (gL e)[n] cs bc c db f from by
  intro n x wr E;have C:(gL e)[n]∈gL e:=ak x;have k:=DE e _ C;have A:=PV h (vh e) x k;obtain⟨O,b,j,u,B⟩:=A.some<|gB.2 k;have p:O<z (G a):=by
   obtain⟨N,S,Q,g,_⟩:=h.some (by have:=(AZ C).length_le;have:=gB.2 k;omega);subst g;unfold yL at u;cases u;exact hv _ rfl
  rw[u]at A;refine⟨O,b,j,by rw[FX d 0 (gL e) n x,u],?_⟩;obtain⟨_,⟨q,_⟩|⟨b',F,m,q,_,hc⟩⟩:=id A
  .cases q
  .cases q;have g:=AZ C;exact Dc (gL e)[n] O b j wr (λP hk=>E.cell (hT P hk) id hT.lt) (ah p E.size) (λi u c=>E.cell (hc i u c) id p) B (gB.2 k) (λa f=>hg a (g.subset f)) (hs.sub g) (λq d=>aB ((o.sub g).keys q d) (by omega)) (by have:=g.length_le;omega))
 have al:y (gL e)<=1000000:=aB (wI e) hl;clear h hs o hg hl hv hT;generalize gL e=K at*;obtain⟨ac,hN⟩:∃ac,y K=ac:=⟨_,rfl⟩;rw[hN]at t al;have HN:=Y hN;clear hN;subst aF;go_in
 go_wp2_with fail
 apply t.mono;rintro bf W3⟨pv,rfl,r,s⟩;obtain⟨px,pc,rfl⟩:=aC r;have v:=Y r;have w:=Y s;have D:z (G a)<=z (G W3):=s.size;clear r s t;go_wp2;go_loopw [3,9] (λo i wr=>∃n:M,n<=ac/\i=aq n/\∃l,IZ W3 wr (z<|G a) o K n l/\∀P,cz o=H P->z (G W3)<=P) (λ_ i _=>ac-(intOf i).toNat)
 case atStart=>exact⟨0,bG _,rfl,[],⟨cO _ _ _ _,rfl,rfl,pU.nil _ _,I.refl _ _⟩,(by intro P hk;cases hk)⟩
 case round=>
  obtain⟨n,bg,rfl,l,g,j⟩:=hrel;obtain⟨ox,oc,ho⟩:=aC g.own;by_cases k:n<ac
  .obtain⟨pg,bk,av,_,ax,_⟩:=oE v (by omega);cases av;have B:n<y K:=by rw[af HN];exact k
   obtain⟨O,b,m,aD,A⟩:=W n B wr<|w.bW g.ap;have an:aS wr (R pg n)=H (aY O b (y K[n]) m):=by
    refine g.ap.cell ?_ id ax;obtain⟨_,⟨bd,_⟩|⟨b',F,ad,bd,_,hc⟩⟩:=dE v
    .cases bd
    grind
   have N:=Y g;have u:=Y j;have bi:=g.ap.size;have e8:(n:U)<(ac:U):=by omega
   have e9:(0:U)<=(n:U):=by omega
   clear g j aD;generalize x:K[n]=pn at*;have X:=Y x;have S:=Y B;clear x;subst ho;go_wp2_with fail
   apply A.mono;rintro bf w4⟨i,cs,bc,c,db,f,rfl,p⟩;have T:=Y<|p.ap.own N.own<|λ_ _ bd=>bd;have bh:=p.ap.size;have Q:=Y p;clear p;go_wp2_with(first
    |(at_builtin;go_loud(refine ct _ rfl (.tmp 13) (.tmp 16) 91 rfl (z (G a)) 189 j0 (.pointer none) 1 8 underlying91 ao aU aV ba rfl (by decide) (.slice ox n oc) n (l.map bw.ptr) rfl (aX T _) (R (z (G w4)) 0) 1 1 [aA i] rfl rfl (pq _ _ _) (by simp[Value.oneCell']) (by omega) (by omega) (by simp;omega) ?_;intro o2 w5 C E;have V:=Y C;have aa:=Y E;clear C E)))
   go_roundw;case rel=>
    have p:=af Q;rw[<-af X]at p;obtain⟨bb,ad,au⟩:=N.step S D u p V aa;exact⟨n+1,k,by go_num,bb,ad,au⟩
   case measure=>simp[intOf];omega
  .have p:n=ac:=by omega
   subst p;have N:=Y g;clear g j;subst ho;go_wp2;go_ret;have g:=af N;refine⟨_,l,rfl,by rw[g.len];exact g.own,?_,g.each,w.bW g.ap⟩;rw[g.all,<-af HN,bL]
def DT(hX:¬t.Xp)(n x k A:M)(l:ab)(b c:cN)(h1:∀m(N:m<y b),aS a (R x<|k+m)=H b[m].ptr)(ac:x<n/\¬t.F x)(B:∀bb∈b,mV t n bb.tb bb.ks bb.cs a)(aU:y b<=100000000)(h2:rB t n l c a)(hD:t.D a)(j:n<=z (G a))(hF:∀v,t.F v->v<n)(hl:y (cL<|bZ c::b.map bw.all)<=1000000):cD aZ 169 #[aY x k (y b) A,l] a λaD r=>∃vm,aD=aJ (dd #[vm,.nilIface])/\r.ownsRow (z<|G a) 170 4 vm (y<|cL<|bZ c::b.map bw.all) (aI<|cL<|bZ c::b.map bw.all)/\t.D r/\I t.F a r:=by
 obtain⟨i0,ad,au,av,ax⟩:=cU Io;have p:y (uE l b c)=y b+1:=by simp[uE]
 have i:∀wr d,I az a wr->wr.ownsRow (z<|G a) 168 1 d (y b+1) ((uE l b c).map (·.1))->cD aZ 130 #[d,am ⟨#[]⟩] wr λaD r=>∃k f,aD=aJ k/\iT t n k (cL<|bZ c::b.map bw.all) f r/\t.D r/\I t.F wr r/\(∀v,f v->z (G wr)<=v):=by
  intro wr d P u;have q:kw t n az a wr:=P.same j cC cC;have hn:=AU n (uE l b c) d ⟨#[]⟩ (by rw[p];exact dE u) (λv s=>⟨(u.lt v s).2,λaa=>by have:=hF v aa;have:=(u.lt v s).1;omega⟩) (by omega) (by
   intro m N;cases m with
   |zero=>exact(lI.wS h2 j hF).same q
   |succ m=>
    have e:m<y b:=by rw[p]at N;omega
    have:(uE l b c)[m+1]=(.iface 189 b[m].ptr,b[m].all):=by simp[uE]
    rw[this];exact(lI.table (B _ (ak e)) j hF).same q) (t.eQ hD P cC) (aB j P.size) hF
  have C:(uE l b c).map (·.2)=bZ c::b.map bw.all:=by simp[uE]
  rw[C,nW (g:=id)<|λl _=>Le l,wh]at hn;exact hn
 obtain⟨NL,E⟩:∃NL,cL (bZ c::b.map bw.all)=NL:=⟨_,rfl⟩;rw[E]at i hl|-;clear E;have w:=Y i;have HC:=Y (show∀wr,I az a wr->∀m(N:m<y b),aS wr (R x<|k+m)=H b[m].ptr fromλwr P m N=>P.cell (h1 m N) id<|ah ac.1 j);clear h1 B h2 hD i;go_in
 go_wp2;go_loopw [6,14] (λd m wr=>∃o:M,o<=y b/\m=aq o/\wr.ownsRow (z<|G a) 168 1 d (o+1) (((uE l b c).take<|o+1).map (·.1))/\I az a wr) (λ_ m _=>y b-(intOf m).toNat)
 case atStart=>exact⟨0,bG _,rfl,Vk _ _ _,(cK _ _)⟩
 case round=>
  obtain⟨o,hn,rfl,d,e⟩:=hrel;obtain⟨bd,aa,u⟩:=aC d;have aF:=e.size;have ao:=d.lt;by_cases O:o<y b
  .have Q:=HC wr e o O;have F:=Y (show((uE l b c).take<|o+1+1).map (·.1)=((uE l b c).take<|o+1).map (·.1)++[.iface 189<|aA<|b[o].tb]from by
    rw[aj (by rw[p];omega),aR];simp[uE,bw.ptr])
   have L:=Y d;have S:=Y e;clear d e;unfold bw.ptr at Q;generalize b[o].tb=C at*;subst u;go_wp2_with(first
    |(at_builtin;go_loud(refine ct _ rfl (.tmp 18) (.tmp 21) 165 rfl (z (G a)) 168 i0 .nilIface 1 16 underlying165 ad au av ax rfl (by decide) (.slice bd (o+1) aa) (o+1) (((uE l b c).take (o+1)).map (·.1)) rfl (aX L _) (R (z (G wr)) 0) 1 1 [.iface 189 (aA C)] rfl rfl (pq _ _ _) (by simp[Value.oneCell']) (by omega) (by omega) (by simp;omega) ?_;intro V w2 f q;have D:=Y f;have K:=Y q;clear f q)))
   go_roundw;case rel=>
    refine⟨o+1,O,by go_num,by rw[af F];exact D,?_⟩;exact(S.alloc _).trans (I.fy K)<|λv s=>.inr (ao v s).1
   case measure=>simp[intOf];omega
  .have al:o=y b:=by omega
   subst al;rw[dp<|by omega]at d;have an:=w wr u6 e d;have S:=Y e;clear d e;subst u;go_wp2_with fail
   apply an.mono;rintro aD w1⟨v1,S1,rfl,L,C,q,F⟩;have X:=Y<|S.mono (T:=t.F) cC|>.trans q (λ_ aa=>.inl aa);have ba:=S.size;have aV:=q.size;have K:=Ci hX L C (by omega);have W:=Y F;clear q L C F;go_wp2_with fail
   apply K.mono;rintro aD w2⟨bc,rfl,f,D,Q⟩;obtain⟨rx,rc,rfl⟩:=aC f;have V:=Y<|And.intro (fM (base':=z<|G a) f<|by omega) (And.intro D (X.trans Q<|λv s=>s.elim (λaa=>.inr (by have:=W v aa;omega)) .inl));clear f D Q K;go_wp2;go_ret2
   exact⟨_,rfl,V.1,V.2.1,V.2.2⟩
def QA(n:M)(w:Z)(v:n<=1000000000):cD aZ 165 #[aw,aq n] w λt r=>∃q,t=aJ q/\r.ownsRow (z<|G w) 189 1 q 0 []/\I az w r:=by
 obtain⟨l,j,k,s,e⟩:=cU vt;have u:¬((n:U)<0):=by omega
 rcases gm n with g|g;(.subst g;(go_in);go_wp2;go_ret;exact⟨_,rfl,cO _ _ _ _,I.refl _ _⟩)
 .have c:(Builtin.firstCells l.size 0 aw).run aZ w.drew=.ok ([]:iF).toArray w.drew:=run_firstCells_none w.drew l.size 0 0 0;have d:∀m,(Builtin.append_ #[91,3] m #[aw,aq n]).run aZ w=_:=λm=>
   Lib.run_append_grow_zeros w 91 3 m 189 l (dF none) .i64 .i64 underlying91 underlying3 j k none 0 0 [] c n g (by omega) (by omega) (by omega) (by rw[e];omega) (sg (by omega) (by rw[e];omega))
  simp only[dr]at d;have i:n<=grownCap w n 0 189:=grownCap_ge w _ _ _;have b:=grownCap_le_maxLen w n 0 189 (by unfold maxLen;omega);obtain⟨a,o⟩:∃a,a=grownCap w n 0 189:=⟨_,rfl⟩;rw[<-o]at d i b;have f:=Y<|show(cG w<|ay (Builtin.zeroCells #[dF none] n++Builtin.zeroCells #[dF none] (a-n)) 189).drew.ownsRow (z<|G w) 189 1 (aY (z<|G w) 0 0 a) 0 []from ku (World.ownsRow_made w _ a (ai _) b (by simp[size_zeroCells];omega)) rfl;have p:a<=9223372036854775807:=by unfold maxLen at b;omega
  clear c o b;go_in
  go_wp2_with(at_builtin;refine Lib.wpList_append_run _ rfl _ _ _ _ rfl _ _ rfl rfl _ _ (d _) ?_)
  go_ret;exact⟨_,rfl,f,(cK az w).of_heap rfl⟩
def pJ(a:cS (ab×cN)):iF:=(a.map<|λp=>p.2.map bw.ptr).flatten
def lV(a:cS (ab×cN)):M:=(a.map<|λp=>y p.2).sum
def MR(a:cS (ab×cN))(p:ab×cN):pJ (a++[p])=pJ a++p.2.map bw.ptr:=by simp[pJ]
def FC(a:cS (ab×cN))(p:ab×cN):lV (a++[p])=lV a+y p.2:=by simp[lV]
def AP(a:cS (ab×cN))(n:M):lV (a.take n)<=lV a:=by
 have h:=bQ (λl=>(l.map (λp:ab×cN=>y p.2)).sum)<|bX n a;simp only[aR,iO]at h;unfold lV;omega
def sS(N f u:M)(a:cS (ab×cN))(w:Z)(hc:∀i(k:i<y a),aS w (R N<|f+i)=H a[i].1)(hb:N<z (G w))(hr:∀i(k:i<y a),Row w 1 a[i].1 (y a[i].2)<|a[i].2.map bw.ptr)(E:∀i(k:i<y a),∀ax,cz a[i].1=H ax->ax<z (G w))(hn:y a<=1000000)(hs:lV a<=100000000):cD aZ 109 #[aY N f (y a) u] w λbc w'=>∃v',bc=aJ v'/\w'.ownsRow (z<|G w) 189 1 v' (lV a) (pJ a)/\I az w w':=by
 obtain⟨i0,B,ao,au,av⟩:=cU vt;have HC:=Y (show∀wr,I az w wr->∀i(k:i<y a),aS wr (R N<|f+i)=H a[i].1 fromλwr ht i k=>ht.cell (hc i k) id hb);have HR:=Y (show∀wr,I az w wr->∀i(k:i<y a),Row wr 1 a[i].1 (y a[i].2) (a[i].2.map bw.ptr)fromλwr ht i k=>ht.row (hr i k)<|λax hk=>⟨id,E i k ax hk⟩);clear hc hr E;go_in
 go_wp2;go_loopw [3,11] (λaa i wr=>∃n:M,n<=y a/\i=aq n/\aa=aq (lV (a.take n):M)/\wr=w) (λ_ i _=>y a-(intOf i).toNat)
 case atStart=>exact⟨0,bG _,rfl,rfl,rfl⟩
 case round=>
  obtain⟨n,aV,rfl,rfl,ba⟩:=hrel;subst wr;by_cases g:n<y a
  .have ac:=HC w (I.refl _ _) n g;have o:=HR w (I.refl _ _) n g;have p:=AP a<|n+1;have d:=Y (show lV (a.take<|n+1)=lV (a.take n)+y a[n].2 by rw[aj g,FC]);rw[af d]at p;generalize a[n].1=bf at*;generalize a[n].2=P at*;generalize lV (a.take n)=l at*;obtain⟨O,⟨rfl,v⟩|⟨bb,j,t,rfl,ad,x⟩⟩:=o
   .have b:=Y v;clear O v;go_wp2;go_roundw;case rel=>exact⟨n+1,g,by go_num,by rw[af d,af b,lq],trivial⟩
    case measure=>simp[intOf];omega
   .clear O x;have b:¬((l:U)+(y P:U)<0):=by omega
    go_wp2;go_roundw;case rel=>exact⟨n+1,g,by go_num,by rw[af d];go_num,trivial⟩
    case measure=>simp[intOf];omega
  .have m:n=y a:=by omega
   subst m;rw[bL];have A:=QA (lV a) w (by omega);obtain⟨s,hM⟩:∃s,lV a=s:=⟨_,rfl⟩;rw[hM]at A hs|-;have Q:=Y hM;clear hM;go_wp2_with fail
   apply A.mono;rintro bc w1⟨v1,rfl,C,F⟩;have S:=Y C;have W:=Y F;clear C F;go_wp2;go_loopw [6,27] (λo i wr=>∃n:M,n<=y a/\i=aq n/\wr.ownsRow (z<|G w) 189 1 o (lV<|a.take n) (pJ<|a.take n)/\I az w wr) (λ_ i _=>y a-(intOf i).toNat)
   case atStart=>exact⟨0,bG _,rfl,S,W⟩
   case round=>
    obtain⟨n,aD,rfl,b,e⟩:=hrel;have al:=b.lt;have an:=e.size;have aF:=AP a n;by_cases c:n<y a
    .have ac:=HC wr e n c;have o:=HR wr e n c;have p:=AP a<|n+1;have d:=Y (show lV (a.take<|n+1)=lV (a.take n)+y a[n].2 by rw[aj c,FC]);have r:=Y (show pJ (a.take<|n+1)=pJ (a.take n)++a[n].2.map bw.ptr by rw[aj c,MR]);rw[af d,af Q]at p;generalize a[n].1=bf at*;generalize a[n].2=P at*;generalize pJ (a.take n)=pn at*;generalize lV (a.take n)=l at*;obtain⟨aU,aa,ho⟩:=aC b;have q:=Y b;have L:=Y e;clear b e;subst ho;obtain⟨O,⟨rfl,v⟩|⟨bb,j,t,rfl,ad,x⟩⟩:=o
     .obtain rfl:=aP v;clear O v;have D:∀a,(Builtin.append_ #[91,91] a #[J aU l aa,aw]).run aZ wr=.ok (J aU l aa) wr:=λa=>run_append_owned_none wr (z<|G w) 91 a 189 i0 1 underlying91 B (J aU l aa) l pn q;go_wp2_with(at_builtin;refine Lib.wpList_append_run _ rfl _ _ _ _ rfl _ _ rfl rfl _ _ (D _) ?_)
      go_roundw;case rel=>
       refine⟨n+1,c,by go_num,?_,L⟩;rw[af d,af r];simpa using af q
      case measure=>simp[intOf];omega
     .go_wp2_with(first
       |(at_builtin;go_loud(refine ct _ rfl (.tmp 31) (.tmp 32) 91 rfl (z (G w)) 189 i0 (.pointer none) 1 8 underlying91 B ao au av rfl (by decide) (.slice aU l aa) l pn rfl q (R bb j) (y P) t (P.map bw.ptr) rfl (by simp) (λbg bd hj=>by rw[dt];grind) (by intro bd hu;obtain⟨bh,_,rfl⟩:=bM.1 hu;rfl) (by omega) (by omega) an ?_;intro o2 w2 D K;have V:=Y D;have X:=Y K;clear D K)))
      go_roundw;case rel=>
       refine⟨n+1,c,by go_num,by rw[af d,af r];exact V,?_⟩;exact L.trans (I.fy X)<|λax hk=>.inr (al ax hk).1
      case measure=>simp[intOf];omega
    .have m:n=y a:=by omega
     subst m;rw[bL,af Q]at b;obtain⟨aU,aa,ho⟩:=aC b;have q:=Y b;have L:=Y e;clear b e;subst ho;go_wp2;go_ret;exact⟨_,rfl,by rw[af Q];exact q,L⟩
structure Cy(w:Z)(lb lo:M)(Ls:cS (ab×cN)):Prop where
 len:y Ls=4
 cell:∀i(hi:i<y Ls),aS w (R lb<|lo+i)=H Ls[i].1
 row:∀i(hi:i<y Ls),Row w 1 Ls[i].1 (y Ls[i].2)<|Ls[i].2.map bw.ptr
 oM:∀i(hi:i<y Ls),∀k,cz Ls[i].1=H k->k<z (G w)
 small:lV Ls<=100000000
def Cy.lt{d:cS (ab×cN)}(h:Cy a c g d):c<z (G a):=cW a (R c<|g+0)<|h.cell 0 (by have:=h.len;omega)
def rQ{w:Z}{lb lo:M}(a:cS (ab×cN))(h:Cy w lb lo a):cD aZ 106 #[dF<|H<|R lb lo] w λj w'=>∃e,j=aJ e/\w'.ownsRow (z<|G w) 189 1 e (lV a) (pJ a)/\I az w w':=by
 have b:=sS lb lo 4 a w h.cell h.lt h.row h.oM (by have:=h.len;omega) h.small;rw[h.len]at b;clear h;go_in
 go_wp2_with fail
 apply b.mono;rintro j k⟨i,rfl,c,d⟩;have f:=Y c;have g:=Y d;clear c d;go_wp2;go_ret;exact⟨i,rfl,f,g⟩
def jy(a:cS (ab×cN))(n:M):Bool:=(a.drop n).all<|λp=>p.2.isEmpty
def Er{a:cS (ab×cN)}(h:b<y a):jy a b=(a[b].2.isEmpty&&jy a (b+1)):=by
 unfold jy;rw[bD h,List.all_cons]
def BY{w:Z}{lb lo:M}(n:M)(d:cS (ab×cN))(h:Cy w lb lo d)(V:n<=4):cD aZ 170 #[dF<|H<|R lb lo,aq n] w λL K=>L=aJ (aK<|jy d n)/\K=w:=by
 have f:=h.len;have F:=h.small;have v:=Y h.cell;have x:=Y h.row;clear h;rcases gA n 4 with C|C;(·(have N:(n:U)<=4:=by omega);(have O:¬(4-n=0):=by omega);(have P:¬(4=n):=by omega);(have Q:(0:U)<=(n:U):=by omega);(go_in);go_wp2;(go_loopw [12] (λu wr=>∃m:M,n+m<=4/\u=aq m/\jy d n=jy d (n+m)/\wr=w) (λu _=>4-n-(intOf u).toNat));(case atStart=>grind);(case round=>obtain⟨m,T,rfl,e,p⟩:=hrel;subst wr;by_cases E:m<4-n;(·(have l:n+m<y d:=by omega);have k:=v (n+m) l;have o:=x (n+m) l;have b:=Er l;rw[<-bF]at k;have HEq:=Y e;clear e;generalize d[n+m].1=X at*;generalize d[n+m].2=s at*;(have B:(m:U)<((4-n:M):U):=by omega);obtain⟨j,⟨rfl,t⟩|⟨W,r,A,rfl,D,g⟩⟩:=o;(.obtain rfl:=aP t;have c:=Y b;clear j t b;go_wp2;go_roundw;(case rel=>exact⟨m+1,by omega,by go_num,by rw[af HEq,af c];rfl,trivial⟩);case measure=>simp[intOf];omega);(.rcases gm (y s)with q|q;(.obtain rfl:=aP q;have c:=Y b;clear j b g q;go_wp2;go_roundw;(case rel=>exact⟨m+1,by omega,by go_num,by rw[af HEq,af c];rfl,trivial⟩);case measure=>simp[intOf];omega);(have i:s.isEmpty=bj:=by grind);rw[i,wi]at b;have c:=Y b;clear j b g i;(have S:(0:U)<(y s:U):=by omega);go_wp2;go_ret;exact⟨by rw[af HEq,af c];rfl,rfl⟩));(have b:n+m=4:=by omega);(have a:jy d n=ci:=by rw[e,b,<-f];unfold jy;rw[fZ];rfl);have c:=Y a;(have B:¬(m:U)<((4-n:M):U):=by omega);clear a e b;go_wp2;go_ret;exact⟨by rw[af c];rfl,rfl⟩));(·(obtain rfl:n=4:=by omega);(have a:jy d 4=ci:=by rw[<-f];unfold jy;rw[fZ];rfl);rw[a];(go_in);go_wp2;(go_loopw [12] (λu wr=>u=aq 0/\wr=w) (λ_ _=>0));(case atStart=>grind);(case round=>obtain⟨rfl,p⟩:=hrel;subst wr;go_wp2;go_ret;simp_all))
section
open Shelf
attribute [local go_sem] Oper.semAt_some
def bk(a:iF):M->cS (M×ab)
 |0=>[]
 |j+1=>(j,a.getD j .nilIface)::bk a j
def VV(p:M×ab):Array ab:=#[aq p.1,p.2]
def IN(v:ab)(x:Option Addr)(n c:M)(a:v=J x n c)(w:Z):cD aZ 193 #[v] w λe b=>e=aJ (.func (.func 231) #[] #[aA<|z<|G w])/\b=cG w (ay #[v] 91):=by
 subst a;go_in
 go_wp2;go_ret;simp_all
def Oe(F ba:M)(W:eG a b d 91)(hr:Row a 1 d (y A) A)(n:∀p,cz d=H p->p<F)(X:F<=z (G a))(ax:y A<=1000000000):GJ VV Am F ba 231 #[aA b] (bk A<|y A) (λp=>p=b) a:=by
 intro lr aU Jx aF aV hs hD hJ v C aa hY;obtain⟨aD,an,hv⟩:=bN hr;obtain⟨HB,HR,O,HS,HJ,S,HY,P⟩:=Ce W hr n hs hJ v hY C;have ao:aS aV (R b 0)=H d:=hs.cell (.inl rfl) W.cell;clear W hr n hs hJ v C aa hY hD;subst hv;refine tN func231 rfl trivial ?_ rfl;simp only[ntmps231,ga,aW,eD,Nat.reduceAdd,Nat.reduceSub,eX,eW,gd,fq,de,dl];gi_wp2;gi_loopw [3] (λi wr=>∃(j:M)(f:cS (M×ab))(s:eT),i=aq ((j:U)-1)/\j<=y A/\bk A (y A)=f++bk A j/\aU f s wr/\(∀p,p=b->¬s p)/\kw Am F (λp=>p=b) a wr) (λi _=>(intOf i+1).toNat)
 case atStart=>exact⟨y A,[],aF,by go_num,ai _,rfl,HJ,S,HS⟩
 case round=>
  obtain⟨j,f,s,rfl,hj,m,g,i,c⟩:=hrel;have au:aS wr (R b 0)=H (J aD (y A) an):=c.cell (.inl rfl) HB.cell;cases j with
  |zero=>
   have q:=Y g;have N:=Y m;clear g i c m;gi_wp2;refine zl (ja rfl _ _ _) rfl ?_;refine⟨⟨_,rfl⟩,.inl ⟨s,?_,trivial⟩⟩;have m:=af N;rw[show bk A 0=[]from rfl,dO]at m;rw[m];exact q
  |succ j=>
   have ej:(((j+1:M):U)-1)=(j:U):=by omega
   rw[ej];have r:A.getD j .nilIface=A[j]:=by rw[sj,aN hj];rfl
   have w:∃al e,aD=H (R al e)/\aS wr (R al<|e+j)=H A[j]:=by
    obtain⟨h1,⟨L,h0⟩|⟨av,x,K,L,ad,V⟩⟩:=af HR
    .omega
    .cases L;exact⟨av,x,rfl,c.cell (.inr ⟨O _ rfl,id⟩)<|V j _<|aN hj⟩
   obtain⟨al,e,E,w⟩:=w;have o:(f++[(j,A[j])])<+:bk A (y A):=⟨bk A j,by rw[m,show bk A (j+1)=(j,A.getD j .nilIface)::bk A j from rfl,r];simp⟩;have B:bk A (y A)=(f++[(j,A[j])])++bk A j:=by rw[m,show bk A (j+1)=(j,A.getD j .nilIface)::bk A j from rfl,r];simp
   have N:=Y B;obtain⟨fn,ac,D,body,hy,hR⟩:=HY f (j,A[j]) s wr o g trivial;unfold VV at hy;simp only at hy;obtain⟨Q,q,T⟩:=dz hR g c;have l:=Y i;clear g c i m B o hR r ej;generalize A[j]=xj at*;have e1:(j:U)<(y A:U):=by omega
   have e2:(0:U)<=(j:U):=by omega
   subst E;gi_wp2;refine⟨(λan=>(by cases an)),Q.mono ?_⟩;rintro bb W3(⟨rfl,_,B3,u,k,t⟩|⟨rfl,E⟩)
   .have L:=Y u;have V:=Y k;have K:=Y t;clear u k t;gi_wp2;go_roundw;case rel=>
     have k:=af V;have c:=af T;have av:b<z (G wr):=ah (ar HB) c.1;refine⟨j,f++[(j,xj)],B3,by go_num,by omega,N,L,λp x ad=>?_,?_⟩
     .rcases K p ad with ad|ad
      .exact l p x ad
      grind
     .refine c.trans ?_;exact k.same (aB X c.1) (λp x=>⟨by grind,l p x⟩) (λp x a=>by have:=(P _ _ _ q p x).1;omega)
    case measure=>simp[intOf]
   .have x:=Y E;clear E;gi_wp2;refine cg (ja rfl _ _ _) rfl ?_;exact⟨⟨_,rfl⟩,.inr ⟨_,x⟩⟩
end
def Uv(h:j.Sublist p):jT j<=jT p:=by
 induction h with
 |slnil=>grind
 |cons x _ a=>unfold jT at*;grind
 |cons_cons x _ a=>unfold jT at*;grind
def Ib{w:Z}(b c t:M){ts1 p:cN}(hi:t+1<4)(c1:aS w (R b<|c+t)=H d)(c2:aS w (R b<|c+(t+1))=H u)(K:b<z (G w))(Q:iK w d ts1)(h2:iK w u p)(hs:Az p)(aD:0<y ts1)(ax:jT p<=1000000000):cD aZ 167 #[dF<|H<|R b c,aq t] w λs e=>∃aa:M,s=aJ (aq aa)/\aa<y ts1/\Below (z<|G w) w e:=by
 rcases Q.shape with⟨_,h0⟩|⟨b1,bb,ba,rfl,_⟩;grind
 have bg:=Q.small;have e1:(t:U)<4:=by omega
 have e2:(0:U)<=(t:U):=by omega
 obtain⟨ad,al,HS,ac⟩:=fX Q h2 hs c2;clear Q h2 hs c2;go_in
 go_wp2;go_loopw [5,6,19] (λa le n wr=>∃aa aV k:M,aa<y ts1/\aV<=9223372036854775807/\k<=y ts1/\a=aq aa/\le=aq aV/\n=aq k/\Below (z<|G w) w wr) (λ_ _ n _=>y ts1-(intOf n).toNat)
 case atStart=>exact⟨0,9223372036854775807,0,aD,ai _,bG _,rfl,rfl,rfl,Below.refl _ _⟩
 case round=>
  obtain⟨aa,aV,k,hj,hm,hk,rfl,rfl,rfl,j⟩:=hrel;have HB:=Y j;by_cases a:k<y ts1
  .have f:=ad.below j;have C:=al.below j;have hp:=f.cell a;have c2:aS wr (R b<|c+(t+1))=H u:=(j.cell (p:=(R b<|c+(t+1))) K).trans ac;have m:∀W,W.heap=wr.heap->cD aZ 151 #[ts1[k].ptr] W λs e=>s=aJ (am<|iR ts1[k].ks)/\e=W:=λW i=>((f.each _<|ak a).of_heap i).first;have n:∀W,W.heap=wr.heap->cD aZ 150 #[ts1[k].ptr] W λs e=>s=aJ (am<|jj ts1[k].ks)/\∃q,e=W.drewN q:=λW i=>((f.each _<|ak a).of_heap i).last;have hcut:∀W,W.heap=wr.heap->W.os=wr.os->W.tape=wr.tape->W.output=wr.output->cD aZ 168 #[u,am<|iR ts1[k].ks,am<|jj ts1[k].ks] W λs e=>∃T O V,s=aJ (dd #[T,O,V])/\(∃S,iK e O S/\jT S<=1000000000)/\Below (z<|G w) w e/\aS e (R b<|c+(t+1))=H u:=by
    intro W i an ao au;apply(KI (iR ts1[k].ks) (jj ts1[k].ks) (C.of_heap i) HS).mono;rintro s e⟨bi,bh,T,O,V,rfl,_,_,aF,_,_,g⟩;have l:Below (z<|G w) w W:=j.of_heap (by rw[i,an,ao,au]);refine⟨T,O,V,rfl,⟨_,aF,aB (Uv<|(mZ _ _).trans<|jZ _ _) ax⟩,l.trans<|g.mono l.size,?_⟩;exact(g.cell (p:=(R b<|c+(t+1)))<|ah K l.size).trans<|(da (w:=wr)<|by rw[i]).trans c2
   clear j f C;unfold bw.ptr at hp m n;generalize iR ts1[k].ks=s1 at*;generalize jj ts1[k].ks=s2 at*;generalize ts1[k].tb=bc at*;obtain⟨r,L⟩:∃r,t+1=r:=⟨_,rfl⟩;rw[L]at c2 hcut hi;have e3:(t:U)+1=(r:U):=by omega
   have e4:(r:U)<4:=by omega
   have e5:(0:U)<=(r:U):=by omega
   have e6:IntKind.i64.wrap (r:U)=(r:U):=by rw[bS];omega
   have e7:r<4:=by omega
   clear L;go_wp2_with fail
   rename_i QQ KK bd;go_region_held3(λa=>aS a (R b<|c+r)=H u) (first|assumption|go_keep) (first
    |(go_at_call 151;refine(m wr.drew rfl).mono ?_;rintro s X⟨rfl,aU⟩;subst X;have o:aS wr.drew (R b<|c+r)=H u:=c2)
    |(go_at_call 150;refine(n wr.drew rfl).mono ?_;rintro s X⟨rfl,q,aU⟩;subst X;have o:aS (wr.drew.drewN q) (R b<|c+r)=H u:=c2)
    |(go_at_call 168;refine(hcut (wr.drewN (1+q)) rfl rfl rfl rfl).mono ?_;rintro s X⟨T,O,V,rfl,N,E,o⟩;have A:=Y N;have x:=Y E;clear N E))
   obtain⟨S,B,av⟩:=af A;have F:=yX B av;clear B A hcut m n o;generalize jT S=P at*;go_wp2_with fail
   apply F.mono;rintro s w2⟨rfl,D⟩;have v:=Y<|x.trans<|D.mono x.size;clear D F;by_cases bf:P<aV
   .have e8:(P:U)<(aV:U):=by omega
    go_wp2;go_roundw;case rel=>exact⟨k,P,k+1,a,by omega,a,rfl,rfl,by go_num,v⟩
    case measure=>simp[intOf];omega
   .have e8:¬(P:U)<(aV:U):=by omega
    go_wp2;go_roundw;case rel=>exact⟨aa,aV,k+1,hj,hm,a,rfl,rfl,by go_num,v⟩
    case measure=>simp[intOf];omega
  .have f:k=y ts1:=by omega
   subst f;clear j;go_wp2;go_ret;exact⟨aa,rfl,hj,HB⟩
section
open Shelf
attribute [local go_sem] Oper.semAt_some
structure RB(w0:Z)(vs:iF)(B:eT)(W:Z):Prop where
 row:∃v,eG W (z<|G w0) v 165/\W.ownsRow (z (G w0)+1) 168 1 v (y vs) vs/\(∀k,B k↔k=z (G w0)\/cz v=H k)
 ap:I az w0 W
def RB.lt(h:RB a A X B):∀k,X k->z (G a)<=k/\k<z (G B):=by
 intro k e;obtain⟨v,i,c,d⟩:=h.row;rcases(d k).1 e with g|g;grind
 have:=c.lt k g;grind
def RB.stays{T:eT}(j:RB a A X f)(e:I T f B)(c:∀k,T k->¬X k/\z (G a)<=k):RB a A X B:=by
 obtain⟨v,g,i,b⟩:=j.row;exact⟨⟨v,(e.block _ (ar g)<|λh=>(c _ h).1<|(b _).2<|.inl rfl).trans g,e.own i<|λk d h=>(c k h).1<|(b k).2<|.inr d,b⟩,j.ap.trans e<|λk d=>.inr (c k d).2⟩
def RB.more{v c x:ab}{C:Obj}(w:RB a A X f)(o:eG f (z<|G a) v 165)(m:∀k,X k↔k=z (G a)\/cz v=H k)(t:f.ownsRow (z (G a)+1) 168 1 v (y A) A)(r:eC (cG f C) B v c)(d:B.ownsRow (z (G a)+1) 168 1 c (y A+1) (A++[x])):∃j,RB a (A++[x]) j (cA B (R (z<|G a) 0) c)/\I X f (cA B (R (z<|G a) 0) c)/\(∀k,j k->X k\/z (G f)<=k):=by
 have h:∀k,cz v=H k->z (G a)+1<=k/\k<z (G f):=λk b=>t.lt k b;have q:∀k,cz c=H k->z (G a)+1<=k:=λk b=>(d.lt k b).1;have n:I (λk=>cz v=H k) f B:=((I.refl (λk=>cz v=H k) f).alloc C).trans (I.dW (S:=λk=>cz v=H k) r.grown<|λk b=>.inl b)<|λk b=>.inl b;have g:eG B (z<|G a) v 165:=(n.block _ (ar o) (λl=>by have:=(h _ l).1;omega)).trans o;have e:I X f (cA B (R (z<|G a) 0) c):=(n.mono (T:=X)<|λk b=>.inl<|(m k).2<|.inr b).setCell _ _ _<|.inl<|(m _).2<|.inl rfl;refine⟨λk=>k=z (G a)\/cz c=H k,⟨⟨c,g.set _,?_,λk=>qH⟩,?_⟩,e,?_⟩;rw[show y (A++[x])=y A+1 by simp];exact d.kept (du B _ _ _) (by grind);exact w.ap.trans e<|λk b=>.inr (w.lt k b).1;rintro k(l|l);(grind);rcases r.uj with u|⟨D,u,s⟩;(grind);rw[u]at l;cases l;simp at s;grind
def MF(t:bw):ab:=.iface 189 t.ptr
def EW(p:ab×cN):ab:=.iface 91 p.1
end
def sH(b:dN)(a:Bool)(c:dJ):(gK b a c).Sublist (dG b<|cL c):=by
 unfold gK;grind[kh]
def sI{ms:dN}{lowest:Bool}(c:dK (cL l))(d:∀x∈cL l,x.Good)(e:y (cL l)<=1000000)(g:y ms<=4):dK (gK ms lowest l)/\qE 5 (gK ms lowest l)/\(∀x∈gK ms lowest l,x.Good)/\y (gK ms lowest l)<=1000000:=by
 have b:=sH ms lowest l;have a:=b.trans<|jh ms<|cL l;exact⟨c.sub a,((xG c).sub b).mono (by omega),λx f=>d x<|a.subset f,aB a.length_le e⟩
def FZ{V:iL}{W:Z}{ms:dN}{mx:Option Addr}{mc:M}(b:cI)(s:Row W 1 (J mx (y ms) mc) (y ms) (ms.map<|Value.int .u64))(d:∀k,cz (J mx (y ms) mc)=H k->k<z (G W)/\¬V.F k)(t:y ms<=4)(p:dK b)(o:y b<=1000000):(∀(e:Z)(a:M)(m:Option Addr)(j:M),I V.F W e->e.ownsRow a 170 4 (J m (y b) j) (y b) (aI b)->cD aZ 103 #[J m (y b) j,J mx (y ms) mc] e λr h=>∃g,r=aJ g/\h.ownsRow (z<|G e) 170 4 g (y<|dG ms b) (aI<|dG ms b)/\I az e h)/\(∀(i:Z)(a:M)(n:Option Addr)(l:M),i.ownsRow a 170 4 (J n (y<|dG ms b) l) (y<|dG ms b) (aI<|dG ms b)->cD aZ 171 #[J n (y<|dG ms b) l] i λr h=>∃g,r=aJ g/\h.ownsRow (z<|G i) 170 4 g (y<|gI<|dG ms b) (aI<|gI<|dG ms b)/\I az i h):=by
 constructor;intro e a m j q f;exact yT ms (dE f) p o (q.row s<|λk c=>⟨(d k c).2,(d k c).1⟩) (by omega) (λk c=>(f.lt k c).2)<|λk c=>ah (d k c).1 q.size;intro i a n l f;exact LI (dE f) (p.sub<|jh ms b) (aB (jh ms b).length_le o)<|λk c=>(f.lt k c).2
section
open Shelf
attribute [local go_sem] Oper.semAt_some
def Uy(a:cN):∀j,j<=y a->(bk (a.map bw.ptr) j).map (λp=>Value.iface 189 p.2)=((a.take j).map MF).reverse
 |0,_=>by simp[bk]
 |j+1,h=>by
  have b:j<y a:=h;rw[bk,cr,Uy a j (by omega),aj b,aR,List.reverse_append];simp only[cr,gQ,tw,List.reverse_nil,de,ju,oz,vZ];rw[sj,fc,aN b];rfl
def oS(a b c d:ab×cN):iF:=((a.2.map MF).reverse)++[EW b]++[EW c]++[EW d]
def Nh{w:Z}{lb lo:M}(p0 p1 p2 p3:ab×cN)(h:Cy w lb lo [p0,p1,p2,p3]):cD aZ 127 #[dF<|H<|R lb lo] w λeo w'=>∃v',eo=aJ v'/\w'.ownsRow (z<|G w) 168 1 v' (y<|oS p0 p1 p2 p3) (oS p0 p1 p2 p3)/\I az w w':=by
 obtain⟨i0,bp,bq,br,bi⟩:=cU Io;obtain⟨v0,e⟩:=p0;obtain⟨v1,q⟩:=p1;obtain⟨v2,r⟩:=p2;obtain⟨v3,s⟩:=p3;have c0:aS w (R lb lo)=H v0:=h.cell 0 (by simp);have c1:aS w (R lb<|lo+1)=H v1:=h.cell 1 (by simp);have c2:aS w (R lb<|lo+2)=H v2:=h.cell 2 (by simp);have c3:aS w (R lb<|lo+3)=H v3:=h.cell 3 (by simp);have cb:Row w 1 v0 (y e) (e.map bw.ptr):=h.row 0 (by simp);have cB:∀ba,cz v0=H ba->ba<z (G w):=h.oM 0 (by simp);obtain⟨x0,an,rfl⟩:=bN cb;obtain⟨x1,K,rfl⟩:∃bE aV,v1=J bE (y q) aV:=bN (h.row 1<|by simp);obtain⟨x2,L,rfl⟩:∃bE aV,v2=J bE (y r) aV:=bN (h.row 2<|by simp);obtain⟨x3,N,rfl⟩:∃bE aV,v3=J bE (y s) aV:=bN (h.row 3<|by simp);have ed:y e<=100000000:=by have:=h.small;simp[lV]at this;omega
 have ca:=h.lt;obtain⟨bT,ds,dv,dT,ch⟩:=jk c1 c2 c3 cb cB;clear h cb cB c1 c2 c3;refine(dS (n:=3)).1 ?_;refine callsIn_of_wp_marks func127 rfl trivial ?_ rfl;simp only[ntmps127,ga,aW,eD,Nat.reduceAdd,Nat.reduceSub,eX,eW,gd,fq,de,dl];gi_wp2;refine wpIn_loop_rounds 5 ?_;rw[roundsIn_succ];gi_wp2;rename_i QQ KK x;apply Fk KK;(.intro au;refine rX.2 ?_;(go_region);all_goals exact au);apply x;clear x;have ec:=λea=>IN (J x0 (y e) an) x0 (y e) an rfl ea;gi_wp2_with(refine⟨trivial,?_⟩;gi_at_call 193;refine(dS.2<|ec _).mono ?_;rintro eo w1⟨rfl,rfl⟩)
 have e1:z (G (cG (cG w<|ay #[aw] 165)<|ay #[J x0 (y e) an] 91).drew)=z (G w)+2:=by simp
 obtain⟨W0,ax⟩:∃W0,(cG (cG w<|ay #[aw] 165)<|ay #[J x0 (y e) an] 91).drew=W0:=⟨_,rfl⟩;rw[ax]at e1;have bh:I az w W0:=by rw[<-ax];exact((cK az w).alloc _).of_heap rfl
 have cE:eG W0 (z (G w)+1) (J x0 (y e) an) 91:=by rw[<-ax];exact aH (w:=cG w<|ay #[aw] 165) _<|by simp
 have cM:eG W0 (z<|G w) aw 165:=by rw[<-ax];exact eG.alloc (w:=cG w<|ay #[aw] 165) (aH (w:=w) _ rfl) _
 have bx:Row W0 1 (J x0 (y e) an) (y<|e.map bw.ptr) (e.map bw.ptr):=by rw[df];exact bh.row dT<|λba hk=>⟨id,ch ba hk⟩
 have cv:RB w [] (λba=>ba=z (G w)) W0:=⟨⟨aw,cM,cO _ _ _ _,λba=>by simp[cz]⟩,bh⟩;rw[ax];refine oN (α:=M×ab) (arg:=VV) (m:=3) (V:=Am) (n0:=z<|G w) (gf:=231) (lb:=#[aA<|z (G w)+1]) (l:=bk (e.map bw.ptr)<|y<|e.map bw.ptr) (S:=λba=>ba=z (G w)+1) ?geval (enters_of func231 (by kernel_rfl) rfl) (λ_=>rfl) (Oe (z<|G w) 2 cE bx ch bh.size (by simp;omega)) trivial bh.size ?slt (λbl ef ea=>RB w (bl.map<|λeg=>Value.iface 189 eg.2) ef ea) (λ_ _ _ _=>False) (λba=>ba=z (G w)) cv ?sb ?lt ?st (λ_ _ _ _ _ _ h=>h.elim) ?body ?done ?stop;case geval=>rfl
 (case slt=>grind);(case sb=>grind);(case lt=>intro bl ef ea h ba hk;exact h.lt ba hk);(case st=>intro bl ef ea u T h t o;refine h.stays t<|λba hk=>⟨(o ba hk).1,?_⟩;rcases(o ba hk).2 with aV|aV|aV;omega;exact aV.elim;omega);(case stop=>grind)
 case body=>
  intro lr bl bE ef ea bd X al t hC _;obtain⟨xi,T⟩:=bE;obtain⟨C,u⟩:∃C,bl.map (λeg=>Value.iface 189 eg.2)=C:=⟨_,rfl⟩;have Q:y C<=100000000:=by
   have:=t.length_le;rw[<-u];simp only[df,ag,aW,eD]at this|-;have hb:∀(a:iF)av,y (bk a av)=av:=λa av=>by induction av with|zero=>rfl|succ av ih=>simp[bk,ih]
   rw[hb]at this;omega
  rw[u]at hC;obtain⟨HC,bb,ac⟩:=dz hC u t;clear hC t u;obtain⟨NN,v⟩:∃NN,y C=NN:=⟨_,rfl⟩;have i:=Y v;unfold VV;simp only;gi_wp2;refine⟨I.refl _ _,λW2 o=>?_⟩;have g:RB w C ef W2:=HC.stays o (λba hk=>by grind);obtain⟨dn,k,b,j⟩:=g.row;rw[v]at b;have ao:aS W2 (R (z<|G w) 0)=H dn:=k.cell;have aD:W2.frozen? (R (z<|G w) 0)=bj:=k.free;obtain⟨ex,ad,O⟩:=aC b;have F:=ar k;have bc:NN<=100000000:=by omega
  obtain⟨bT,P,f,p,W⟩:=jk g k b j o;clear g k b j o Q v;subst O;gi_wp2_with(first
   |(gi_at_builtin;refine eP _ rfl (.tmp 27) (.tmp 30) 165 rfl (z (G w)+1) 168 i0 .nilIface 1 16 underlying165 bp bq br bi rfl (by decide) (.slice ex NN ad) NN C rfl (aX f (.cells #[Value.iface 189 T] 168)) (R (z (G W2)) 0) 1 1 [Value.iface 189 T] rfl rfl (uN _ _ _) (SW rfl) (by omega) (by omega) (by simp;omega) ?_;intro cd w3 a d;obtain⟨aU,aF,rfl⟩:=aC a;have c:eG w3 (z (G w)) (.slice ex NN ad) 165:=(d.grown.block _ (ar (P.alloc (.cells #[Value.iface 189 T] 168))) (λaV=>by have:=(f.lt _ aV.symm).1;omega)).trans (P.alloc _);have D:=c.cell;have E:=c.free;clear c;have A:=Y a;have B:=Y d;clear a d))
  obtain⟨B',q1,q2,q3⟩:=bT.more (x:=Value.iface 189 T) P p (by rw[af i];exact f) B (by rw[af i];exact A);have o:=af W;have bi:=o.size;have aa:I (λba=>ef ba\/ba=lr) ea W2:=o.mono<|λba hk=>.inl<|.inr hk;refine⟨trivial,B',?_,aa.trans q2<|λba hk=>.inl<|.inl hk,q2.block lr (by omega) X,λba hk=>?_⟩
  .grind[af]
  grind
 case done=>
  intro ce B1 W1 en hC bd _ hK;have dk:(bk (e.map bw.ptr)<|y<|e.map bw.ptr).map (λeg=>Value.iface 189 eg.2)=(e.map MF).reverse:=by
   rw[df,Uy e _<|ai _,bL]
  rw[dk]at hC;obtain⟨T,W⟩:∃NN,y (e.map MF).reverse=NN:=⟨_,rfl⟩;have cw:T<=100000000:=by rw[<-W];simpa using ed
  have t:(e.map MF).reverse++[EW (J x1 (y q) K,q)]++[EW (J x2 (y r) L,r)]++[EW (J x3 (y s) N,s)]=oS (J x0 (y e) an,e) (J x1 (y q) K,q) (J x2 (y r) L,r) (J x3 (y s) N,s):=rfl;unfold EW at t;simp only at t;generalize(e.map MF).reverse=bm at hC W t;have C:=Y hC;have o:=Y hK;clear hC hK dk;clear ax cE cM bx cv bh;gi_wp2;rw[roundsIn_succ];have cT:aS W1 (R lb<|lo+1)=H (J x1 (y q) K):=C.ap.cell bT id ca;gi_wp2;rename_i QQ KK x;apply Fk KK
  .intro au;refine rX.2 ?_;go_region
   all_goals exact au
  apply x;clear x cT;have g:RB w bm B1 W1.drew:=C.stays (cR az W1) cC;have u:W1.drew.heap[ce]?=H (.deferred<|H []):=af o;generalize W1.drew=U1 at g u|-;clear C o;obtain⟨dn,k,b,j⟩:=g.row;rw[W]at b;have ao:aS U1 (R (z<|G w) 0)=H dn:=k.cell;have aD:U1.frozen? (R (z<|G w) 0)=bj:=k.free;obtain⟨co,cl,O⟩:=aC b;have F:=ar k;obtain⟨P,f,p,C,av,i⟩:=kY k b j g u W;clear k b j g u W;subst O;gi_wp2_with(first
   |(gi_at_builtin;refine eP _ rfl (.tmp 18) (.tmp 21) 165 rfl (z (G w)+1) 168 i0 .nilIface 1 16 underlying165 bp bq br bi rfl (by decide) (.slice co T cl) T bm rfl (aX f (.cells #[Value.iface 91 (.slice x1 (y q) K)] 168)) (R (z (G U1)) 0) 1 1 [Value.iface 91 (.slice x1 (y q) K)] rfl rfl (uN _ _ _) (SW rfl) (by omega) (by omega) (by simp;omega) ?_;intro cd w3 a d;obtain⟨aU,aF,rfl⟩:=aC a;have c:eG w3 (z (G w)) (.slice co T cl) 165:=(d.grown.block _ (ar (P.alloc (.cells #[Value.iface 91 (.slice x1 (y q) K)] 168))) (λaV=>by have:=(f.lt _ aV.symm).1;omega)).trans (P.alloc _);have D:=c.cell;have E:=c.free;clear c;have A:=Y a;have B:=Y d;clear a d))
  obtain⟨B2,q1,q2,q3⟩:=C.more (x:=Value.iface 91<|J x1 (y q) K) P p (by rw[af i];exact f) B (by rw[af i];exact A);have bf:¬B2 ce:=λaV=>(q3 ce aV).elim bd (λbl=>by have:=ar av;omega);have v:=(q2.block ce (ar av) bd).trans av;generalize cA w3 (R (z<|G w) 0) (J aU (T+1) aF)=W2 at q1 v|-;have X:y (bm++[Value.iface 91<|J x1 (y q) K])=T+1:=by rw[ag,af i];rfl
  generalize bm++[Value.iface 91<|J x1 (y q) K]=bn at q1 X t;have bb:=Y q1;have cj:=Y v;have bu:T+1<=100000000+1:=by omega
  clear q1 q2 q3 v P f p C av i B A bd F cw D E;clear ao aD;obtain⟨ad,ac⟩:∃bE,T+1=bE:=⟨_,rfl⟩;rw[ac]at X bu;clear ac;rw[roundsIn_succ];have db:aS W2 (R lb<|lo+2)=H (J x2 (y r) L):=bb.ap.cell ds id ca;gi_wp2;rename_i QQ KK x;apply Fk KK
  .intro au;refine rX.2 ?_;go_region
   all_goals exact au
  apply x;clear x db;have g:RB w bn B2 W2.drew:=bb.stays (cR az W2) cC;have u:W2.drew.heap[ce]?=H (.deferred<|H []):=af cj;generalize W2.drew=U2 at g u|-;clear bb cj;obtain⟨dn,k,b,j⟩:=g.row;rw[X]at b;have ao:aS U2 (R (z<|G w) 0)=H dn:=k.cell;have aD:U2.frozen? (R (z<|G w) 0)=bj:=k.free;obtain⟨cp,cm,O⟩:=aC b;have F:=ar k;obtain⟨P,f,p,Q,o,i⟩:=kY k b j g u X;clear k b j g u X;subst O;gi_wp2_with(first
   |(gi_at_builtin;refine eP _ rfl (.tmp 18) (.tmp 21) 165 rfl (z (G w)+1) 168 i0 .nilIface 1 16 underlying165 bp bq br bi rfl (by decide) (.slice cp ad cm) ad bn rfl (aX f (.cells #[Value.iface 91 (.slice x2 (y r) L)] 168)) (R (z (G U2)) 0) 1 1 [Value.iface 91 (.slice x2 (y r) L)] rfl rfl (uN _ _ _) (SW rfl) (by omega) (by omega) (by simp;omega) ?_;intro cd w3 a d;obtain⟨aU,aF,rfl⟩:=aC a;have c:eG w3 (z (G w)) (.slice cp ad cm) 165:=(d.grown.block _ (ar (P.alloc (.cells #[Value.iface 91 (.slice x2 (y r) L)] 168))) (λaV=>by have:=(f.lt _ aV.symm).1;omega)).trans (P.alloc _);have D:=c.cell;have E:=c.free;clear c;have A:=Y a;have B:=Y d;clear a d))
  obtain⟨B3,q1,q2,q3⟩:=Q.more (x:=Value.iface 91<|J x2 (y r) L) P p (by rw[af i];exact f) B (by rw[af i];exact A);have bg:¬B3 ce:=λaV=>(q3 ce aV).elim bf (λbl=>by have:=ar o;omega);have v:=(q2.block ce (ar o) bf).trans o;generalize cA w3 (R (z<|G w) 0) (J aU (ad+1) aF)=W3 at q1 v|-;have aa:y (bn++[Value.iface 91<|J x2 (y r) L])=ad+1:=by rw[ag,af i];rfl
  generalize bn++[Value.iface 91<|J x2 (y r) L]=bo at q1 aa t;have bc:=Y q1;have ck:=Y v;have bv:ad+1<=100000000+2:=by omega
  clear q1 q2 q3 v P f p Q o i B A bf F bu D E;clear ao aD;obtain⟨al,ac⟩:∃bE,ad+1=bE:=⟨_,rfl⟩;rw[ac]at aa bv;clear ac;rw[roundsIn_succ];have dc:aS W3 (R lb<|lo+3)=H (J x3 (y s) N):=bc.ap.cell dv id ca;gi_wp2;rename_i QQ KK x;apply Fk KK
  .intro au;refine rX.2 ?_;go_region
   all_goals exact au
  apply x;clear x dc;have g:RB w bo B3 W3.drew:=bc.stays (cR az W3) cC;have u:W3.drew.heap[ce]?=H (.deferred<|H []):=af ck;generalize W3.drew=U3 at g u|-;clear bc ck;obtain⟨dn,k,b,j⟩:=g.row;rw[aa]at b;have ao:aS U3 (R (z<|G w) 0)=H dn:=k.cell;have aD:U3.frozen? (R (z<|G w) 0)=bj:=k.free;obtain⟨cs,cn,O⟩:=aC b;have F:=ar k;obtain⟨P,f,p,Q,o,i⟩:=kY k b j g u aa;clear k b j g u aa;subst O;gi_wp2_with(first
   |(gi_at_builtin;refine eP _ rfl (.tmp 18) (.tmp 21) 165 rfl (z (G w)+1) 168 i0 .nilIface 1 16 underlying165 bp bq br bi rfl (by decide) (.slice cs al cn) al bo rfl (aX f (.cells #[Value.iface 91 (.slice x3 (y s) N)] 168)) (R (z (G U3)) 0) 1 1 [Value.iface 91 (.slice x3 (y s) N)] rfl rfl (uN _ _ _) (SW rfl) (by omega) (by omega) (by simp;omega) ?_;intro cd w3 a d;obtain⟨aU,aF,rfl⟩:=aC a;have c:eG w3 (z (G w)) (.slice cs al cn) 165:=(d.grown.block _ (ar (P.alloc (.cells #[Value.iface 91 (.slice x3 (y s) N)] 168))) (λaV=>by have:=(f.lt _ aV.symm).1;omega)).trans (P.alloc _);have D:=c.cell;have E:=c.free;clear c;have A:=Y a;have B:=Y d;clear a d))
  obtain⟨B4,q1,q2,q3⟩:=Q.more (x:=Value.iface 91<|J x3 (y s) N) P p (by rw[af i];exact f) B (by rw[af i];exact A);have cu:¬B4 ce:=λaV=>(q3 ce aV).elim bg (λbl=>by have:=ar o;omega);have v:=(q2.block ce (ar o) bg).trans o;generalize cA w3 (R (z<|G w) 0) (J aU (al+1) aF)=W4 at q1 v|-;have bt:y (bo++[Value.iface 91<|J x3 (y s) N])=al+1:=by rw[ag,af i];rfl
  generalize bo++[Value.iface 91<|J x3 (y s) N]=ej at q1 bt t;have bs:=Y q1;have dx:=Y v;have cx:al+1<=100000000+3:=by omega
  clear q1 q2 q3 v P f p Q o i B A bg F bv D E;clear ao aD;obtain⟨ei,ac⟩:∃bE,al+1=bE:=⟨_,rfl⟩;rw[ac]at bt cx;clear ac;rw[roundsIn_succ];obtain⟨dn,k,b,j⟩:=bs.row;have ao:aS W4 (R (z<|G w) 0)=H dn:=k.cell;obtain⟨em,el,O⟩:=aC b;have f:=Y b;have p:=Y j;subst O;clear k b j;gi_wp2;have dm:=gZ W4 ce<|.deferred none;refine⟨by simp,.inl ⟨_,_,rfl,run_takeDeferred dx,?_⟩⟩;refine⟨_,jP rfl _ _ _,?_⟩;have b:=af f;have hB:=af p;rw[t]at b hB;have hx:=dm.own b<|λba hk aV=>cu<|(hB ce).2<|.inr (by rw[<-aV];exact hk);refine⟨_,rfl,?_,bs.ap.trans dm<|λba hk=>.inr (by subst hk;omega)⟩;obtain⟨h1,⟨h2,h0⟩|⟨eq,ek,eb,h2,hb,cc⟩⟩:=hx
  .exact⟨h1,.inl ⟨h2,h0⟩⟩
  .exact⟨h1,.inr ⟨eq,ek,eb,h2,by omega,cc⟩⟩
end
