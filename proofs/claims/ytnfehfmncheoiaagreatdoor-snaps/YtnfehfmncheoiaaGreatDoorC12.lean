import Derived.Test.YtnfehfmncheoiaaGreatDoorC8
import Derived.Test.YtnfehfmncheoiaaGreatDoorC9
import Derived.Test.YtnfehfmncheoiaaGreatDoorC10
open _root_ renaming List.length→y,Option.some→H,Array.size→z,Go.World.heap→G,Go.Value.ownBlock→bV,Go.World.cell?→aS,Go.World.setCell→bZ,Go.World.alloc→ct,Bool.false→bE,Bool.true→bU,Nat→M,Int→X,List→cr,Go.Calls→cw,Go.undef→iC,Go.Proofs.Tryz.prog→bF,Go.Value.slice→I,Go.Value.string→J,Go.Value.bool→aL,Go.Value.pointer→fh,Go.Value.tuple→dA,Go.Value.agg→eD
namespace Go.Proofs.YtnfehfmncheoiaaGreatDoor
open ChangeShapes WideShapes RowKit Proofs.Tryz
set_option maxHeartbeats 16000000
set_option linter.all false
set_option maxRecDepth 100000
variable{a f C:Y}{b c g l B P:M}{d s N:aa}{e L:cA}{i p t u:cP}{k:dW}{m F:X}{n:SR}{o:eK}{W:fI}{r:jm}{v:ab}{w:E}{x:iV}{D:Bool}{S:bI}{T:Type}{V:Array aa}
def kZ.take{ts:cP}(h:kZ a (bC b c (y ts) g) ts)(i:M)(r:i<=y ts):kZ a (bC b c i g) (ts.take i):=by
 have m:y (ts.take i)=i:=by simp;omega
 have k:=h.shape;refine⟨⟨by simp,.inr ⟨b,c,g,by rw[m],?_,λu v d=>?_⟩⟩,λs l=>h.lt s l,λt p=>h.each t<|eC p,by have:=h.small;omega⟩;rcases k with⟨j,_⟩|⟨q,f,e,j,o⟩;cases j;cases j;omega;rw[List.map_take,mD]at d;split at d;rename_i e;rw[dz,aH<|by omega]at d;cases d;exact h.cell (by omega);cases d
def kZ.drop(j:kZ a (bC b c (y i) g) i)(f:M)(s:f<=y i):kZ a (bC b (c+f) (y i-f)<|g-f) (i.drop f):=by
 have n:y (i.drop f)=y i-f:=by simp
 have l:=j.shape;refine⟨⟨by simp,.inr ⟨b,c+f,g-f,by rw[n],?_,λq v e=>?_⟩⟩,λt m=>j.lt t (by simpa[bV]using m),λu p=>j.each u<|dl p,by have:=j.small;omega⟩;rcases l with⟨h,_⟩|⟨r,k,d,h,o⟩;cases h;cases h;omega;rw[List.map_drop,oH]at e;(have d:f+q<y i:=by rcases dE (f+q) (y i)with h|h;exact h;rw[dq<|by simpa using h]at e;cases e);rw[dz,aH d]at e;cases e;rw[aV];exact j.cell d
def kZ.empty(j:kZ a (bC b c l g) i)(d:M):kZ a (bC b d 0 0) []:=⟨⟨rfl,.inr ⟨b,d,0,rfl,ah _,(by intro m u e;simp at e)⟩⟩,(λk f=>j.lt k<|by simpa[bV]using f),(by intro t h;cases h),bw _⟩
structure Fq(ts:cP)(lo hi:ab)(i j:M):Prop where
 Xj:qn ts lo i
 le:i<=j
 mN:j<=y ts
 within:∀k(hk:k<y ts),i<=k->k<j->ie hi (iX ts[k].ks)=bE
 behind:∀(hj:j<y ts),ie hi (iX ts[j].ks)=bU
def Ly(K r:ab)(h:kZ a d i)(W:AN i):cw bF 175 #[d,J K,J r] a λQ L=>∃j F v1 v2 v3,Q=aO (dA #[v1,v2,v3])/\Fq i K r j F/\kZ L v1 (i.take j)/\kZ L v2 ((i.drop j).take<|F-j)/\kZ L v3 (i.drop F)/\(∀k,bV v1=H k\/bV v2=H k\/bV v3=H k->bV d=H k)/\Below (z<|G a) a L:=by
 have ao:=h.small;have C:=zv K h W;rcases h.shape with⟨rfl,rfl⟩|⟨ac,g,c,rfl,ad⟩;(.clear h W;(go_in);(go_wp2_with fail);apply C.mono;rintro Q w1⟨k,rfl,e,m⟩;obtain rfl:k=0:=Nat.le_zero.1 e.le;have P:=U e;have N:=U m;clear e m;go_wp2;(go_loopw [10] (λF wr=>F=am 0/\wr=w1) (λ_ _=>0));(case atStart=>exact⟨rfl,rfl⟩);(case round=>obtain⟨rfl,l⟩:=hrel;subst wr;(go_wp2_with fail);(go_quiet(fail));go_wp2;(go_ret3);have b:kZ (w1.drewN nq) aK []:=⟨⟨rfl,.inl ⟨rfl,rfl⟩⟩,(by intro k e;cases e),(by intro t f;cases f),bw _⟩;exact⟨0,0,_,_,_,rfl,⟨P,ah _,ah _,λk e=>absurd e<|gH k,λE=>absurd E<|kS 0⟩,b,b,b,(by intro k e;simp[bV]at e),below_drewN N _⟩))
 .have HL:=U h;clear h W;have an:=Wm;go_in
  go_wp2_with fail
  apply C.mono;rintro Q w1⟨j,rfl,e,m⟩;have v:=e.le;have P:=U e;have N:=U m;clear e m;go_wp2;go_loopw [10] (λF wr=>∃n:M,j<=n/\n<=y i/\F=am n/\(∀k(e:k<y i),j<=k->k<n->ie r (iX i[k].ks)=bE)/\Below (z<|G a) a wr) (λF _=>y i-(intOf F).toNat)
  case atStart=>exact⟨j,ah _,v,rfl,λk _ ad ac=>absurd ad (by omega),N⟩
  case round=>
   obtain⟨n,V,B,rfl,hw,S⟩:=hrel;have f:=HL.below S;obtain⟨al,HW,l⟩:=dB f hw S;clear hw S;have e1:(j:X)<=(n:X):=by omega
   have e2:(n:X)<=(y i:X):=by omega
   have e3:(j:X)<=(y i:X):=by omega
   have e4:(n:X)<=(c:X):=by omega
   have e5:(j:X)<=(c:X):=by omega
   have e6:(y i:X)<=(c:X):=by omega
   have q:=U (show(∀(E:n<y i),ie r (iX i[n].ks)=bU)->Fq i K r j n/\kZ wr (bC ac g j c) (i.take j)/\kZ wr (bC ac (g+j) (n-j)<|c-j) ((i.drop j).take<|n-j)/\kZ wr (bC ac (g+n) (y i-n)<|c-n) (i.drop n)from by
    intro o;refine⟨⟨P,V,B,HW,o⟩,f.take j v,?_,f.drop n B⟩;have u:=f.drop j v;have D:=kZ.take (ts:=i.drop j) (by rw[iy];exact u) (n-j) (by rw[iy];omega);exact D)
   by_cases p:n<y i
   .have hp:=f.cell p;have u:=(f.each _<|ap p).first;have e7:(n:X)<(y i:X):=by omega
    have e8:(0:X)<=(n:X):=by omega
    have o:=IQ (iX i[n].ks) r;clear f;unfold bI.ptr at hp u;cases hkl:ie r (iX i[n].ks)with
    |false=>
     rw[hkl]at o;simp only[nr]at o;have HN:=U (show∀k(e:k<y i),k=n->ie r (iX i[k].ks)=bE fromλk e Q=>by subst Q;exact hkl);clear hkl;generalize iX i[n].ks=fk at*;generalize i[n].tb=D at*;go_wp2_with fail
     apply u.mono;rintro Q T⟨rfl,O⟩;subst T;go_wp2;go_roundw;case rel=>exact⟨n+1,by omega,p,by go_num,λk e ad ac=>by rcases dE k n with au|au;exact HW k e ad au;exact HN k e (by omega),l⟩
     case measure=>simp[intOf];omega
    |true=>
     rw[hkl]at o;simp only[uf]at o;have x:=U<|q<|λ_=>hkl;clear hkl;generalize iX i[n].ks=fk at*;generalize i[n].tb=D at*;go_wp2_with fail
     apply u.mono;rintro Q T⟨rfl,O⟩;subst T;go_wp2_with fail
     go_quiet(fail)
     go_wp2;go_ret3
     obtain⟨s,t,w,A⟩:=ae x;have b:Below (z<|G wr) wr (wr.drewN nq):=below_drewN (Below.refl _ _) _;exact⟨j,n,_,_,_,rfl,s,t.below b,w.below b,A.below b,(by intro k e;simpa[bV]using e),below_drewN l _⟩
   .have u:n=y i:=by omega
    have x:=U<|q<|λE=>absurd E p;have e7:¬(n:X)<(y i:X):=by omega
    have hE:=f.empty g;have O:=U hE;clear f hE;have D:=U (show i.drop n=[]by rw[u,gm]);rcases dE n c with hc|hc
    .have o:¬(c-n=0):=by omega
     have d2:¬(c-j=0):=by omega
     clear u;go_wp2_with fail
     go_quiet(fail)
     go_wp2;go_ret3
     obtain⟨s,t,w,A⟩:=ae x;have b:Below (z<|G wr) wr (wr.drewN nq):=below_drewN (Below.refl _ _) _;exact⟨j,n,_,_,_,rfl,s,t.below b,w.below b,A.below b,(by intro k e;simpa[bV]using e),below_drewN l _⟩
    .have o:c=n:=by omega
     subst o;clear u;rcases dE j c with T|T
     .have d2:¬(c-j=0):=by omega
      go_wp2_with fail
      go_quiet(fail)
      go_wp2;go_ret3
      obtain⟨s,t,w,A⟩:=ae x;have b:Below (z<|G wr) wr (wr.drewN nq):=below_drewN (Below.refl _ _) _;refine⟨j,c,_,_,_,rfl,s,t.below b,w.below b,?_,(by intro k e;simpa[bV]using e),below_drewN l _⟩;rw[ae D];exact O.below b
     .have o:j=c:=by omega
      subst o;go_wp2_with fail
      go_quiet(fail)
      go_wp2;go_ret3
      obtain⟨s,t,w,A⟩:=ae x;have b:Below (z<|G wr) wr (wr.drewN nq):=below_drewN (Below.refl _ _) _;refine⟨j,j,_,_,_,rfl,s,t.below b,?_,?_,(by intro k e;simpa[bV]using e),below_drewN l _⟩
      .rw[ae D,zJ];exact O.below b
      .rw[ae D];exact O.below b
def kZ.of_heap{w w':Y}(j:kZ w d i)(k:w'.heap=w.heap):kZ w' d i:=by
 refine⟨?_,λq n=>by rw[k];exact j.lt q n,λt o=>(j.each t o).of_heap k,j.small⟩;obtain⟨h,g|⟨p,b,e,g,l,m⟩⟩:=j.row;exact⟨h,.inl g⟩;exact⟨h,.inr ⟨p,b,e,g,l,λn u j=>(cH (w:=w)<|by rw[k]).trans<|m n u j⟩⟩
def VB(a:cP):Prop:=∀i(h:i+1<y a),ie (iU a[i].ks) (iX a[i+1].ks)=bU
def ly.apart(h:ly i):VB i:=by
 intro g a;obtain⟨x,d,b⟩:=(h.pure _<|ap<|show g<y i by omega).xD;obtain⟨f,e,c⟩:=(h.pure _<|ap a).Hc;rw[<-b,<-c];exact h.pair (show g<y i by omega) a (by omega) d e
def SH(h:kZ a d i)(o:VB i):cw bF 152 #[d] a λv g=>v=aO (aL bU)/\Below (z<|G a) a g:=by
 have F:=h.small;rcases h.shape with⟨rfl,rfl⟩|⟨W,t,C,rfl,_⟩;(.clear h o;(go_in);go_wp2;(go_loopw [6] (λx wr=>x=am 0/\wr=a) (λ_ _=>0));(case atStart=>exact⟨rfl,rfl⟩);(case round=>obtain⟨rfl,rfl⟩:=hrel;go_wp2;go_ret;exact⟨rfl,Below.refl _ _⟩))
 .have B:=U h;have A:=U o;have D:=Jh;clear h o;go_in
  go_wp2;go_loopw [6] (λx wr=>∃n:M,n<=y i/\x=am n/\Below (z<|G a) a wr) (λx _=>y i-(intOf x).toNat)
  case atStart=>exact⟨0,bw _,rfl,Below.refl _ _⟩
  case round=>
   obtain⟨n,E,rfl,p⟩:=hrel;have b:=B.below p;have k:=U p;clear p;by_cases j:n<y i
   .rcases fS n with l|l
    .subst l;clear b;go_wp2_with fail
     go_quiet(fail)
     go_wp2;go_roundw;case rel=>exact⟨1,by omega,by go_num,below_drewN k _⟩
     case measure=>simp[intOf];omega
    .obtain⟨m,rfl⟩:∃m,n=m+1:=⟨n-1,by omega⟩;have s:=b.cell (show m<y i by omega);have f:=b.cell j;have e:∀W,W.heap=wr.heap->cw bF 177 #[i[m].ptr] W λv g=>v=aO (J<|iU i[m].ks)/\∃q,g=W.drewN q:=λW a=>((b.each _<|ap<|show m<y i by omega).of_heap a).last;have c:∀W,W.heap=wr.heap->cw bF 176 #[i[m+1].ptr] W λv g=>v=aO (J<|iX i[m+1].ks)/\g=W:=λW a=>((b.each _<|ap j).of_heap a).first;have r:=A m j;unfold ie at r;clear b;unfold bI.ptr at s f e c;generalize iU i[m].ks=T at*;generalize iX i[m+1].ks=V at*;generalize i[m].tb=t1 at*;generalize i[m+1].tb=t2 at*;obtain⟨u,w⟩:∃u,m+1=u:=⟨_,rfl⟩;rw[w]at f j l E|-;have K:(u:X)-1=(m:X):=by omega
     have L:(m:X)<(y i:X):=by omega
     have N:(u:X)<(y i:X):=by omega
     have O:IntKind.i64.wrap (m:X)=(m:X):=by rw[bO];omega
     have P:(0:X)<(u:X):=by omega
     have Q:(0:X)<=(m:X):=by omega
     have S:m<y i:=by omega
     clear w;go_wp2_with fail
     go_quiet(first
      |(go_at_call 177;refine Calls.quiet_of (e _ rfl))
      |(go_at_call 176;refine Calls.quiet_of_same (c _ rfl)))
     go_wp2;go_roundw;case rel=>exact⟨u+1,by omega,by go_num,below_drewN k _⟩
     case measure=>simp[intOf];omega
   .have c:n=y i:=by omega
    subst c;clear b;go_wp2;go_ret;exact⟨rfl,k⟩
def JB(w:Y)(d:M)(t:bI):Prop:=∃c b a,lR w t.tb (aw d) t.num (y<|dG t.cs) (y<|fc t.ks) (mr<|fc t.ks) c b a aK t.ks
def JB.Td(h:JB a b S):PS a S:=by
 obtain⟨e,d,c,f⟩:=h;exact⟨_,_,_,_,_,e,d,c,_,f⟩
def JB.below(i:JB a b S)(g:Below (z<|G a) a f):JB f b S:=by
 obtain⟨h,d,c,e⟩:=i;exact⟨h,d,c,e.dh (g.block _ e.lt.1)<|g.block _ e.lt.2⟩
def bI.ur(t:bI):iV:=[aI t.num,dr<|y<|dG t.cs,dr<|y<|fc t.ks,dr<|mr<|fc t.ks]
def dj(a:cP):iV:=a.flatMap bI.ur
def Eu(a:cP)(t:bI):dj (a++[t])=dj a++t.ur:=by simp[dj]
def LH:(prog.info? 266).map (λi=>(i.zero,i.size,i.bytes))=H (H<|eD #[aI 0,dr 0,dr 0,dr 0],4,24):=by kernel_rfl
def CD(x c d u:aa)(t:TypeId)(f:b=z (G a)):∀j q,[x,c,d,u][j]?=H q->aS (ct a<|aq #[x,c,d,u] t) (((R b 0):Addr).add j)=H q:=by
 intro j q e;subst f;rw[du];unfold World.cell?;rw[fw];simpa using e
def NY(w:Y)(db:M)(av:aa)(b:cP)(h:kZ w av b)(F:∀ba∈b,JB w db ba)(hl:y b<=100000000):cw bF 142 #[av] w λau V=>∃T,au=aO T/\V.ownsRow (z<|G w) 266 4 T (y b) (dj b)/\Below (z<|G w) w V:=by
 obtain⟨K,k,l,m,o⟩:=cz LH;rcases h.shape with⟨rfl,rfl⟩|⟨bc,L,ad,rfl,_⟩
 .clear h F;go_in
  go_wp2_with(first
   |(at_make;go_loud(refine lG _ rfl _ _ 184 rfl (z (G w)) 266 K (.agg #[.int .u64 0,.int .u32 0,.int .u32 0,.int .u32 0]) 4 underlying184 k l m _ _ _ 0 rfl rfl (by omega) (by rw[o];omega) (by unfold maxLen;omega) (ah _) ?_;intro W d c;have j:=U d;have i:=U c;clear d c)))
  go_loopw [3,11] (λao P wr=>P=am 0/\wr.ownsRow (z<|G w) 266 4 ao 0 []/\wr=W) (λ_ _ _=>0)
  case atStart=>exact⟨rfl,j,rfl⟩
  case round=>
   obtain⟨rfl,s,a⟩:=hrel;subst wr;obtain⟨ax,ac,rfl⟩:=aB s;have p:=U s;clear s;go_wp2;go_ret;exact⟨_,rfl,p,(Z.dM (S:=az) i<|by simp).below (ah _) cG⟩
 .have HL:=U h;have HW:=U F;clear h F;go_in
  go_wp2_with(first
   |(at_make;go_loud(refine lG _ rfl _ _ 184 rfl (z (G w)) 266 K (.agg #[.int .u64 0,.int .u32 0,.int .u32 0,.int .u32 0]) 4 underlying184 k l m _ _ _ (y b) rfl rfl (by omega) (by rw[o];omega) (by unfold maxLen;omega) (ah _) ?_;intro W d c;have j:=U d;have i:=U c;clear d c)))
  go_loopw [3,11] (λao P wr=>∃n:M,n<=y b/\P=am n/\wr.ownsRow (z<|G w) 266 4 ao n (dj<|b.take n)/\Z az w wr) (λ_ P _=>y b-(intOf P).toNat)
  case atStart=>exact⟨0,bw _,rfl,j,Z.dM (S:=az) i<|by simp⟩
  case round=>
   obtain⟨n,hn,rfl,a,e⟩:=hrel;have q:=e.below (ah _) cG;have an:=e.size;obtain⟨ax,ac,s⟩:=aB a;by_cases g:n<y b
   .have hp:=(HL.below q).cell g;obtain⟨bb,N,v,O⟩:=(HW _<|ap g).below q;have r:=Ub O;obtain⟨C,p,HT⟩:=dB (show dj (b.take<|n+1)=dj (b.take n)++[aI b[n].num,dr<|y<|dG b[n].cs,dr<|y<|fc b[n].ks,dr<|mr<|fc b[n].ks]by rw[ai g,Eu];rfl) a e;have E:=a.lt;clear O a e q;unfold bI.ptr at hp;unfold Ev at r;generalize b[n].num=x0 at*;generalize y (dG b[n].cs)=x1 at*;generalize y (fc b[n].ks)=x2 at*;generalize mr (fc b[n].ks)=x3 at*;generalize b[n].tb=Q at*;subst s;go_wp2_with fail
    apply r.mono;rintro au w1⟨rfl,f⟩;have A:=U<|(Z.aT (S:=az) f).own p<|λ_ _ ac=>ac;have al:=f.size;have x:=U f;clear f;go_wp2_with(first
     |(at_builtin;go_loud(refine bQ _ rfl (.tmp 15) (.tmp 18) 184 rfl (z (G w)) 266 K (.agg #[.int .u64 0,.int .u32 0,.int .u32 0,.int .u32 0]) 4 24 underlying184 k l m o rfl (by decide) (.slice ax n ac) n (dj (b.take n)) rfl (aR A _) (R (z (G w1)) 0) 1 1 [.int .u64 x0,.int .u32 x1,.int .u32 x2,.int .u32 x3] rfl rfl (CD _ _ _ _ _ rfl) (by simp[Value.oneCell']) (by omega) (by omega) (by simp;omega) ?_;intro o2 w2 t u;have B:=U t;have D:=U u;clear t u)))
    go_roundw;case rel=>
     refine⟨n+1,g,by go_num,by rw[ae C];exact B,?_⟩;exact((HT.ci<|Z.aT (S:=az) x).alloc _).trans (Z.fy D)<|λk a=>.inr (E k a).1
    case measure=>simp[intOf];omega
   .have f:n=y b:=by omega
    subst f;rw[bN]at a;have p:=U a;have r:=U q;clear a q e;go_wp2;go_ret;exact⟨_,rfl,p,r⟩
def Lf(v:aa)(w:Y):(Go.method 545 105 v "From").run bF w=.ok (321,v) w:=by kernel_rfl
def Le(v:aa)(w:Y):(Go.method 545 224 v "From").run bF w=.ok (325,v) w:=by kernel_rfl
def ml.xC(h:sh r b d i a)(c:b<=z (G a))(hF:∀k,r.F k->k<b):ml r b (.iface 105 d) (cf i) a:=⟨_,d,_,d,rfl,Lf d,enters_of func321 (by kernel_rfl) rfl,λg j e f=>RD g (h.same e) f (aD c e.1) hF⟩
def ml.table(h:nG r b S.tb S.ks S.cs a)(c:b<=z (G a))(hF:∀k,r.F k->k<b):ml r b (.iface 224 S.ptr) S.all a:=⟨_,S.ptr,_,S.ptr,rfl,Le S.ptr,enters_of func325 (by kernel_rfl) rfl,λf g d e=>BZ f (h.same d) e (aD c d.1) hF⟩
def Jb:(prog.info? 205).map (λi=>(i.zero,i.size,i.bytes))=H (H .nilIface,1,16):=by kernel_rfl
structure SM(w:Y)(base:M)(t:bI)(bb wL x FU:M):Prop where
 ks:t.ks=bM 0 t.cs
 num:t.num=0
 pieces:qo t.all t.cs
 mem:lR w t.tb (fh none) 0 0 0 0 bb 0 wL (bC x 0 (y<|dG t.cs) FU) t.ks
 data:eJ w base (bC x 0 (y<|dG t.cs) FU) (dG t.cs)
 FV:w.ownsRow base 347 5 (bC bb 0 (y t.ks) wL) (y t.ks) (er t.ks)
 new:base<=t.tb
def WU(w:Y)(a:M)(t:bI):Prop:=∃d b x c,SM w a t d b x c
def SM.ar{S:fI}{w w':Y}{t:bI}(h:SM w b t c g l B)(a:Z S w w')(j:¬S t.tb)(e:¬S c)(k:¬S l):SM w' b t c g l B:=⟨h.ks,h.num,h.pieces,h.mem.dh (a.block _ h.mem.lt.1 j)<|a.block _ h.mem.lt.2 e,a.own h.data (λm d=>by cases d;exact k),a.own h.FV (λm d=>by cases d;exact e),h.new⟩
def SM.other(o:SM a b S c g l B)(q:Z W a f)(m:∀p,W p->∃h T j,a.heap[p]?=H (aq h T j)/\T≠293/\T≠347/\T≠5):SM f b S c g l B:=by
 refine o.ar q (λn=>?_) (λn=>?_)<|λn=>?_;obtain⟨h,T,j,d,e,_⟩:=m _ n;exact iq d o.mem.box e rfl;obtain⟨h,T,j,d,_,e,_⟩:=m _ n;obtain⟨c2,k⟩:=fD o.FV (k:=c) rfl;exact iq d k e rfl;obtain⟨h,T,j,d,_,_,e⟩:=m _ n;obtain⟨c2,k⟩:=fD o.data (k:=l) rfl;exact iq d k e rfl
structure NT where
 t:bI
 bb:M
 wL:M
 x:M
 FU:M
def NT.Ok(w:Y)(a:M)(p:NT):Prop:=SM w a p.t p.bb p.wL p.x p.FU
def NT.has(p:NT)(k:M):Prop:=k=p.t.tb\/k=p.bb\/k=p.x
def NT.mR(p q:NT):Prop:=∀k,p.has k->¬q.has k
def NT.Ok.lt{p:NT}(h:p.Ok a b):∀k,p.has k->b<=k/\k<z (G a):=by
 rintro k(rfl|rfl|rfl);exact⟨h.new,h.mem.lt.1⟩;exact⟨(h.FV.lt _ rfl).1,h.mem.lt.2⟩;exact eJ.lt h.data _ rfl
def NT.Ok.ar{S:fI}{w w':Y}{p:NT}(h:p.Ok w b)(c:Z S w w')(a:∀k,p.has k->¬S k):p.Ok w' b:=SM.ar h c (a _<|.inl rfl) (a _<|.inr<|.inl rfl)<|a _<|.inr<|.inr rfl
def NT.Ok.base{b base':M}{p:NT}(h:p.Ok a b)(c:base'<=b):p.Ok a base':=⟨h.ks,h.num,h.pieces,h.mem,h.data.base c,eS h.FV c,aD c h.new⟩
def NT.Ok.YF{p:NT}(h:p.Ok a b):WU a b p.t:=⟨_,_,_,_,h⟩
def uy(w:Y)(a:M)(c:cP):Prop:=∃b:cr NT,b.map NT.t=c/\(∀p∈b,p.Ok w a)/\b.Pairwise NT.mR
def uy.nil(w:Y)(a:M):uy w a []:=⟨[],rfl,by simp,List.Pairwise.nil⟩
def uy.each(h:uy a b i):∀t∈i,WU a b t:=by
 obtain⟨f,rfl,c,_⟩:=h;intro t e;obtain⟨p,d,rfl⟩:=aY.1 e;exact(c p d).YF
def uy.ar{w w':Y}(e:uy w b p)(g:Z az w w'):uy w' b p:=by
 obtain⟨h,a,c,d⟩:=e;exact⟨h,a,λk e=>(c k e).ar g<|λ_ _ j=>j,d⟩
def uy.other(k:uy a b p)(l:Z W a f)(j:∀n,W n->∃c T d,a.heap[n]?=H (aq c T d)/\T≠293/\T≠347/\T≠5):uy f b p:=by
 obtain⟨m,e,g,h⟩:=k;exact⟨m,e,λo k=>SM.other (g o k) l j,h⟩
def uy.base{b base':M}(g:uy a b i)(f:base'<=b):uy a base' i:=by
 obtain⟨h,c,d,e⟩:=g;exact⟨h,c,λp g=>(d p g).base f,e⟩
def FM{a:cr NT}{q:NT}(h:a.Pairwise NT.mR)(d:∀p∈a,p.mR q):(a++[q]).Pairwise NT.mR:=by
 rw[bP];exact⟨h,by simp,λe c f b=>by rw[bG]at b;subst b;exact d e c⟩
def GG(v:aa):∀(n:M)(a:dW)(i:M)(b:i<y a),(nY v n a)[i]?=H (zf v (n+y (a.take i).flatten)<|y a[i])
 |_,[],_,b=>absurd b<|gH _
 |n,p::a,0,_=>by simp[nY]
 |n,p::a,i+1,b=>by
  rw[nY,oU,GG v (n+y p) a i<|by simpa using b];simp[aV]
def Ra(i:ku a d e)(h:k.flatten=e)(g:b<y k)(c:k[b]≠[]):ku a (zf d (0+y (k.take b).flatten)<|y k[b]) k[b]:=by
 rw[cR];refine AC (s:=(k.drop<|b+1).flatten) i ?_ c;have f:k=k.take b++k[b]::k.drop (b+1):=by rw[<-bD g,bW]
 rw[<-h];refine(bS List.flatten f).trans ?_;rw[dP,aW,aU]
def vT:(prog.info? 224).map (λi=>(i.zero,i.size,i.bytes))=H (H<|fh none,1,8):=by kernel_rfl
def UH(l:cA):fQ ⟨#[]⟩ l=l:=eX.2 (λx _=>by rw[IV];rfl)
def uT(c:aa)(a b:cP):cr (aa×cA):=(.iface 105 c,cf b)::a.map (λt=>(.iface 224 t.ptr,t.all))
def rC(d:eK)(a:Bool)(b c:cP):cA:=gU d a<|cf c::b.map bI.all
def VX(w:Y)(x:aa)(T:TypeId):(ct w<|aq #[x] T).ownsRow (z<|G w) T 1 (bC (z<|G w) 0 1 1) 1 [x]:=⟨rfl,.inr ⟨z<|G w,1,#[x],rfl,ah _,aC _ rfl,ah _,by unfold maxLen;omega,rfl,rfl⟩⟩
structure JJ(W wr:Y)(base:M)(o:aa)(ps:dW)(n:M)(tm:cP):Prop where
 own:wr.ownsRow base 224 1 o n (tm.map bI.ptr)
 len:y tm=n
 all:tm.map bI.all=ps.take n
 each:uy wr base tm
 ar:Z az W wr
def JJ.step{W wr w1 w2:Y}{p o2:aa}{f:dW}{a:M}{n:Obj}(u:JJ W wr b p k c i)(F:c<y k)(S:b<=z (G W))(x:∀e,bV p=H e->z (G W)<=e)(h:MC wr w1 g k[c] f l B P a)(K:w2.ownsRow b 224 1 o2 (c+1) (i.map bI.ptr++[aw g]))(s:eR (ct w1 n) w2 p o2):∃t,JJ W w2 b o2 k (c+1) t/\∀e,bV o2=H e->z (G W)<=e:=by
 have L:=u.ar.size;have N:=h.ar.size;have A:Z (λe=>bV p=H e) wr w2:=((h.ar.mono (T:=λe=>bV p=H e) cG).alloc n).trans (Z.fy s)<|λ_ d=>.inl d;have m:∀e,bV p=H e->∃f,wr.heap[e]?=H (aq f 224 (0,0)):=λe d=>fD u.own d;have r:Z (λe=>bV p=H e) w1 w2:=((Z.refl (λe=>bV p=H e) w1).alloc n).trans (Z.fy s)<|λ_ d=>.inl d;refine⟨i++[⟨g,bM 0 f,f,0⟩],⟨?_,by rw[af,u.len];rfl,?_,?_,u.ar.trans A<|λe d=>.inr<|x e d⟩,?_⟩;rw[aM];exact K;rw[aM,u.all,ai F];show _++[f.flatten]=_;rw[h.pieces.flat];obtain⟨Q,D,v,E⟩:=u.each;have w:NT.Ok w1 (z<|G wr) ⟨⟨g,bM 0 f,f,0⟩,l,B,P,a⟩:=⟨rfl,rfl,by have:=h.pieces;rw[<-this.flat]at this;exact this,h.mem,h.data,h.FV,h.new⟩;refine⟨Q++[⟨⟨g,bM 0 f,f,0⟩,l,B,P,a⟩],by rw[aM,D];rfl,λO j=>?_,FM E<|λO j e d q=>?_⟩;rcases ak.1 j with j|j;exact SM.other (v O j) A (λe d=>by obtain⟨C,o⟩:=m e d;exact⟨C,_,_,o,by decide,by decide,by decide⟩);rw[bG]at j;subst j;refine SM.other (NT.Ok.base w<|by omega) r<|λe d=>?_;obtain⟨C,o⟩:=m e d;exact⟨C,_,_,(h.ar.block e (aj o) id).trans o,by decide,by decide,by decide⟩;have o:=((v O j).lt e d).2;have C:=(w.lt e q).1;omega;intro e d;rcases s.uc with j|⟨q,j,o⟩;exact x e<|j.symm.trans d;rw[j]at d;cases d;simp at o;omega
def yT(h:ku a d e)(hs:dQ e)(o:rN 5 e)(hg:∀br∈e,br.Good)(hl:y e<=1000000)(hv:∀Q,bV d=H Q->Q<z (G a))(hT:Steps a):cw bF 136 #[d] a λbm N=>∃vm,∃l:cP,bm=aO vm/\N.ownsRow (z<|G a) 224 1 vm (y l) (l.map bI.ptr)/\l.map bI.all=iz e/\uy N (z<|G a) l/\Z az a N:=by
 obtain⟨j0,ax,bf,bg,bh⟩:=cz vT;have t:=Qq h hs hl hv;obtain⟨br,bk,bd⟩:=bL h
 have ac:=U (show∀n(x:n<y (iz e))(wr:Y),Z az a wr->∃P b j,(nY d 0<|iz e)[n]?=H (bC P b (y (iz e)[n]) j)/\cw bF 119 #[bC P b (y (iz e)[n]) j] wr λbm N=>∃i cs bl c db f,bm=aO (aw i)/\MC wr N i (iz e)[n] cs bl c db f from by
  intro n x wr D;have C:(iz e)[n]∈iz e:=ap x;have k:=Ec e _ C;have A:=Ra h (vN e) x k;obtain⟨P,b,j,u,B⟩:=A.some<|gG.2 k;have p:P<z (G a):=by
   obtain⟨F,S,O,g,_⟩:=h.some (by have:=(Bk C).length_le;have:=gG.2 k;omega);subst g;unfold zf at u;cases u;exact hv _ rfl
  rw[u]at A;refine⟨P,b,j,by rw[GG d 0 (iz e) n x,u],?_⟩;obtain⟨_,⟨q,_⟩|⟨b',K,m,q,_,hc⟩⟩:=id A
  .cases q
  .cases q;have g:=Bk C;exact Dw (iz e)[n] P b j wr (λQ hk=>D.cell (hT Q hk) id hT.lt) (ag p D.size) (λi u c=>D.cell (hc i u c) id p) B (gG.2 k) (λa f=>hg a (g.subset f)) (hs.sub g) (λq d=>aD ((o.sub g).keys q d) (by omega)) (by have:=g.length_le;omega))
 have au:y (iz e)<=1000000:=aD (xw e) hl;clear h hs o hg hl hv hT;generalize iz e=L at*;obtain⟨an,hN⟩:∃an,y L=an:=⟨_,rfl⟩;rw[hN]at t au;have HN:=U hN;clear hN;subst bd;go_in
 go_wp2_with fail
 apply t.mono;rintro bm W3⟨pv,rfl,r,s⟩;obtain⟨px,pc,rfl⟩:=aB r;have v:=U r;have w:=U s;have E:z (G a)<=z (G W3):=s.size;clear r s t;go_wp2;go_loopw [3,9] (λo i wr=>∃n:M,n<=an/\i=am n/\∃l,JJ W3 wr (z<|G a) o L n l/\∀Q,bV o=H Q->z (G W3)<=Q) (λ_ i _=>an-(intOf i).toNat)
 case atStart=>exact⟨0,bw _,rfl,[],⟨bJ _ _ _ _,rfl,rfl,uy.nil _ _,Z.refl _ _⟩,(by intro Q hk;cases hk)⟩
 case round=>
  obtain⟨n,bn,rfl,l,g,j⟩:=hrel;obtain⟨ox,oc,ho⟩:=aB g.own;by_cases k:n<an
  .obtain⟨pg,bq,bb,_,bc,_⟩:=um v (by omega);cases bb;have B:n<y L:=by rw[ae HN];exact k
   obtain⟨P,b,m,D,A⟩:=ac n B wr<|w.ci g.ar;have av:aS wr (R pg n)=H (bC P b (y L[n]) m):=by
    refine g.ar.cell ?_ id bc;obtain⟨_,⟨bk,_⟩|⟨b',K,ao,bk,_,hc⟩⟩:=dF v
    .cases bk
    .cases bk;simpa using hc n _ D
   have O:=U g;have u:=U j;have bp:=g.ar.size;have e8:(n:X)<(an:X):=by omega
   have e9:(0:X)<=(n:X):=by omega
   clear g j D;generalize x:L[n]=pn at*;have ad:=U x;have T:=U B;clear x;subst ho;go_wp2_with fail
   apply A.mono;rintro bm w4⟨i,cs,bl,c,db,f,rfl,p⟩;have V:=U<|p.ar.own O.own<|λ_ _ bk=>bk;have bo:=p.ar.size;have S:=U p;clear p;go_wp2_with(first
    |(at_builtin;go_loud(refine bQ _ rfl (.tmp 13) (.tmp 16) 105 rfl (z (G a)) 224 j0 (.pointer none) 1 8 underlying105 ax bf bg bh rfl (by decide) (.slice ox n oc) n (l.map bI.ptr) rfl (aR V _) (R (z (G w4)) 0) 1 1 [aw i] rfl rfl (pH _ _ _) (by simp[Value.oneCell']) (by omega) (by omega) (by simp;omega) ?_;intro o2 w5 C F;have W:=U C;have al:=U F;clear C F)))
   go_roundw;case rel=>
    have p:=ae S;rw[<-ae ad]at p;obtain⟨bi,ao,ba⟩:=O.step T E u p W al;exact⟨n+1,k,by go_num,bi,ao,ba⟩
   case measure=>simp[intOf];omega
  .have p:n=an:=by omega
   subst p;have O:=U g;clear g j;subst ho;go_wp2;go_ret;have g:=ae O;refine⟨_,l,rfl,by rw[g.len];exact g.own,?_,g.each,w.ci g.ar⟩;rw[g.all,<-ae HN,bN]
def Es(n x k A:M)(l:aa)(b c:cP)(h1:∀m(N:m<y b),aS a (R x<|k+m)=H b[m].ptr)(al:x<n/\¬r.F x)(B:∀bi∈b,nG r n bi.tb bi.ks bi.cs a)(bf:y b<=100000000)(h2:sh r n l c a)(hD:r.D a)(j:n<=z (G a))(hF:∀v,r.F v->v<n)(hl:y (di<|cf c::b.map bI.all)<=1000000):cw bF 178 #[bC x k (y b) A,l] a λbc s=>∃vm,bc=aO (dA #[vm,.nilIface])/\s.ownsRow (z<|G a) 164 4 vm (y<|di<|cf c::b.map bI.all) (aE<|di<|cf c::b.map bI.all)/\r.D s/\Z r.F a s:=by
 obtain⟨i0,an,ax,ba,bb⟩:=cz Jb;have p:y (uT l b c)=y b+1:=by simp[uT]
 have i:∀wr d,Z az a wr->wr.ownsRow (z<|G a) 205 1 d (y b+1) ((uT l b c).map (·.1))->cw bF 86 #[d,J ⟨#[]⟩] wr λbc s=>∃k f,bc=aO k/\jl r n k (di<|cf c::b.map bI.all) f s/\r.D s/\Z r.F wr s/\(∀v,f v->z (G wr)<=v):=by
  intro wr d P u;have q:jJ r n az a wr:=P.same j cG cG;have hn:=Gx n (uT l b c) d ⟨#[]⟩ (by rw[p];exact dF u) (λv t=>⟨(u.lt v t).2,λad=>by have:=hF v ad;have:=(u.lt v t).1;omega⟩) (by omega) (by
   intro m N;cases m with
   |zero=>exact(ml.xC h2 j hF).same q
   |succ m=>
    have e:m<y b:=by rw[p]at N;omega
    have:(uT l b c)[m+1]=(.iface 224 b[m].ptr,b[m].all):=by simp[uT]
    rw[this];exact(ml.table (B _ (ap e)) j hF).same q) (r.fm hD P cG) (aD j P.size) hF
  have C:(uT l b c).map (·.2)=cf c::b.map bI.all:=by simp[uT]
  rw[C,nU (g:=id)<|λl _=>UH l,List.map_id]at hn;exact hn
 obtain⟨NL,E⟩:∃NL,di (cf c::b.map bI.all)=NL:=⟨_,rfl⟩;rw[E]at i hl|-;clear E;have w:=U i;have HC:=U (show∀wr,Z az a wr->∀m(N:m<y b),aS wr (R x<|k+m)=H b[m].ptr fromλwr P m N=>P.cell (h1 m N) id<|ag al.1 j);clear h1 B h2 hD i;go_in
 go_wp2;go_loopw [6,14] (λd m wr=>∃o:M,o<=y b/\m=am o/\wr.ownsRow (z<|G a) 205 1 d (o+1) (((uT l b c).take<|o+1).map (·.1))/\Z az a wr) (λ_ m _=>y b-(intOf m).toNat)
 case atStart=>exact⟨0,bw _,rfl,VX _ _ _,(Z.refl _ _).alloc _⟩
 case round=>
  obtain⟨o,hn,rfl,d,e⟩:=hrel;obtain⟨bl,ad,u⟩:=aB d;have bd:=e.size;have av:=d.lt;by_cases O:o<y b
  .have Q:=HC wr e o O;have F:=U (show((uT l b c).take<|o+1+1).map (·.1)=((uT l b c).take<|o+1).map (·.1)++[.iface 224<|aw<|b[o].tb]from by
    rw[ai (by rw[p];omega),aM];simp[uT,bI.ptr])
   have L:=U d;have S:=U e;clear d e;unfold bI.ptr at Q;generalize b[o].tb=C at*;subst u;go_wp2_with(first
    |(at_builtin;go_loud(refine bQ _ rfl (.tmp 18) (.tmp 21) 176 rfl (z (G a)) 205 i0 .nilIface 1 16 underlying176 an ax ba bb rfl (by decide) (.slice bl (o+1) ad) (o+1) (((uT l b c).take (o+1)).map (·.1)) rfl (aR L _) (R (z (G wr)) 0) 1 1 [.iface 224 (aw C)] rfl rfl (pH _ _ _) (by simp[Value.oneCell']) (by omega) (by omega) (by simp;omega) ?_;intro V w2 f q;have D:=U f;have K:=U q;clear f q)))
   go_roundw;case rel=>
    refine⟨o+1,O,by go_num,by rw[ae F];exact D,?_⟩;exact(S.alloc _).trans (Z.fy K)<|λv t=>.inr (av v t).1
   case measure=>simp[intOf];omega
  .have ao:o=y b:=by omega
   subst ao;rw[cS<|by omega]at d;have au:=w wr u6 e d;have S:=U e;clear d e;subst u;go_wp2_with fail
   apply au.mono;rintro bc w1⟨v1,S1,rfl,L,C,q,F⟩;have ac:=U<|S.mono (T:=r.F) cG|>.trans q (λ_ ad=>.inl ad);have bh:=S.size;have bg:=q.size;have K:=Mf L C (by omega);have W:=U F;clear q L C F;go_wp2_with fail
   apply K.mono;rintro bc w2⟨bk,rfl,f,D,Q⟩;obtain⟨rx,rc,rfl⟩:=aB f;have V:=U<|And.intro (eS (base':=z<|G a) f<|by omega) (And.intro D (ac.trans Q<|λv t=>t.elim (λad=>.inr (by have:=W v ad;omega)) .inl));clear f D Q K;go_wp2;go_ret2
   exact⟨_,rfl,V.1,V.2.1,V.2.2⟩
def RC(n:M)(w:Y)(v:n<=1000000000):cw bF 172 #[aK,am n] w λt r=>∃q,t=aO q/\r.ownsRow (z<|G w) 224 1 q 0 []/\Z az w r:=by
 obtain⟨l,j,k,s,e⟩:=cz vT;have u:¬((n:X)<0):=by omega
 rcases fS n with g|g;(.subst g;(go_in);go_wp2;go_ret;exact⟨_,rfl,bJ _ _ _ _,Z.refl _ _⟩)
 .have c:(Builtin.firstCells l.size 0 aK).run bF w.drew=.ok ([]:iV).toArray w.drew:=run_firstCells_none w.drew l.size 0 0 0;have d:∀m,(Builtin.append_ #[105,3] m #[aK,am n]).run bF w=_:=λm=>
   Lib.run_append_grow_zeros w 105 3 m 224 l (fh none) .i64 .i64 underlying105 underlying3 j k none 0 0 [] c n g (by omega) (by omega) (by omega) (by rw[e];omega) (sA (by omega) (by rw[e];omega))
  simp only[cR]at d;have i:n<=grownCap w n 0 224:=grownCap_ge w _ _ _;have b:=sB w n 0 224 (by unfold maxLen;omega);obtain⟨a,o⟩:∃a,a=grownCap w n 0 224:=⟨_,rfl⟩;rw[<-o]at d i b;have f:=U<|show(ct w<|aq (Builtin.zeroCells #[fh none] n++Builtin.zeroCells #[fh none] (a-n)) 224).drew.ownsRow (z<|G w) 224 1 (bC (z<|G w) 0 0 a) 0 []from jc (World.ownsRow_made w _ a (ah _) b (by simp[size_zeroCells];omega)) rfl;have p:a<=9223372036854775807:=by unfold maxLen at b;omega
  clear c o b;go_in
  go_wp2_with(at_builtin;refine Lib.wpList_append_run _ rfl _ _ _ _ rfl _ _ rfl rfl _ _ (d _) ?_)
  go_ret;exact⟨_,rfl,f,((Z.refl az w).alloc _).of_heap rfl⟩
def qc(a:cr (aa×cP)):iV:=(a.map<|λp=>p.2.map bI.ptr).flatten
def ma(a:cr (aa×cP)):M:=(a.map<|λp=>y p.2).sum
def Nz(a:cr (aa×cP))(p:aa×cP):qc (a++[p])=qc a++p.2.map bI.ptr:=by simp[qc]
def Gk(a:cr (aa×cP))(p:aa×cP):ma (a++[p])=ma a+y p.2:=by simp[ma]
def AZ(a:cr (aa×cP))(n:M):ma (a.take n)<=ma a:=by
 have h:=bS (λl=>(l.map (λp:aa×cP=>y p.2)).sum)<|bW n a;simp only[aM,gl]at h;unfold ma;omega
def tr(N f v:M)(a:cr (aa×cP))(w:Y)(hc:∀i(k:i<y a),aS w (R N<|f+i)=H a[i].1)(hb:N<z (G w))(hr:∀i(k:i<y a),Row w 1 a[i].1 (y a[i].2)<|a[i].2.map bI.ptr)(E:∀i(k:i<y a),∀bb,bV a[i].1=H bb->bb<z (G w))(hn:y a<=1000000)(hs:ma a<=100000000):cw bF 118 #[bC N f (y a) v] w λbk w'=>∃v',bk=aO v'/\w'.ownsRow (z<|G w) 224 1 v' (ma a) (qc a)/\Z az w w':=by
 obtain⟨i0,B,av,ax,ba⟩:=cz vT;have HC:=U (show∀wr,Z az w wr->∀i(k:i<y a),aS wr (R N<|f+i)=H a[i].1 fromλwr ht i k=>ht.cell (hc i k) id hb);have HR:=U (show∀wr,Z az w wr->∀i(k:i<y a),Row wr 1 a[i].1 (y a[i].2) (a[i].2.map bI.ptr)fromλwr ht i k=>ht.row (hr i k)<|λbb hk=>⟨id,E i k bb hk⟩);clear hc hr E;go_in
 go_wp2;go_loopw [3,11] (λad i wr=>∃n:M,n<=y a/\i=am n/\ad=am (ma (a.take n):M)/\wr=w) (λ_ i _=>y a-(intOf i).toNat)
 case atStart=>exact⟨0,bw _,rfl,rfl,rfl⟩
 case round=>
  obtain⟨n,bg,rfl,rfl,bh⟩:=hrel;subst wr;by_cases g:n<y a
  .have al:=HC w (Z.refl _ _) n g;have p:=HR w (Z.refl _ _) n g;have q:=AZ a<|n+1;have d:=U (show ma (a.take<|n+1)=ma (a.take n)+y a[n].2 by rw[ai g,Gk]);rw[ae d]at q;generalize a[n].1=bn at*;generalize a[n].2=P at*;generalize ma (a.take n)=l at*;obtain⟨O,⟨rfl,x⟩|⟨bi,j,u,rfl,an,m⟩⟩:=p
   .have b:=U x;clear O x;go_wp2;go_roundw;case rel=>exact⟨n+1,g,by go_num,by rw[ae d,ae b,jq],trivial⟩
    case measure=>simp[intOf];omega
   .clear O m;have b:¬((l:X)+(y P:X)<0):=by omega
    go_wp2;go_roundw;case rel=>exact⟨n+1,g,by go_num,by rw[ae d];go_num,trivial⟩
    case measure=>simp[intOf];omega
  .have o:n=y a:=by omega
   subst o;rw[bN];have A:=RC (ma a) w (by omega);obtain⟨t,hM⟩:∃t,ma a=t:=⟨_,rfl⟩;rw[hM]at A hs|-;have Q:=U hM;clear hM;go_wp2_with fail
   apply A.mono;rintro bk w1⟨v1,rfl,C,F⟩;have S:=U C;have W:=U F;clear C F;go_wp2;go_loopw [6,27] (λo i wr=>∃n:M,n<=y a/\i=am n/\wr.ownsRow (z<|G w) 224 1 o (ma<|a.take n) (qc<|a.take n)/\Z az w wr) (λ_ i _=>y a-(intOf i).toNat)
   case atStart=>exact⟨0,bw _,rfl,S,W⟩
   case round=>
    obtain⟨n,bc,rfl,b,e⟩:=hrel;have ao:=b.lt;have au:=e.size;have bd:=AZ a n;by_cases c:n<y a
    .have al:=HC wr e n c;have p:=HR wr e n c;have q:=AZ a<|n+1;have d:=U (show ma (a.take<|n+1)=ma (a.take n)+y a[n].2 by rw[ai c,Gk]);have s:=U (show qc (a.take<|n+1)=qc (a.take n)++a[n].2.map bI.ptr by rw[ai c,Nz]);rw[ae d,ae Q]at q;generalize a[n].1=bn at*;generalize a[n].2=P at*;generalize qc (a.take n)=pn at*;generalize ma (a.take n)=l at*;obtain⟨bf,ad,ho⟩:=aB b;have r:=U b;have L:=U e;clear b e;subst ho;obtain⟨O,⟨rfl,x⟩|⟨bi,j,u,rfl,an,m⟩⟩:=p
     .obtain rfl:=aP x;clear O x;have D:∀a,(Builtin.append_ #[105,105] a #[I bf l ad,aK]).run bF wr=.ok (I bf l ad) wr:=λa=>run_append_owned_none wr (z<|G w) 105 a 224 i0 1 underlying105 B (I bf l ad) l pn r;go_wp2_with(at_builtin;refine Lib.wpList_append_run _ rfl _ _ _ _ rfl _ _ rfl rfl _ _ (D _) ?_)
      go_roundw;case rel=>
       refine⟨n+1,c,by go_num,?_,L⟩;rw[ae d,ae s];simpa using ae r
      case measure=>simp[intOf];omega
     .go_wp2_with(first
       |(at_builtin;go_loud(refine bQ _ rfl (.tmp 31) (.tmp 32) 105 rfl (z (G w)) 224 i0 (.pointer none) 1 8 underlying105 B av ax ba rfl (by decide) (.slice bf l ad) l pn rfl r (R bi j) (y P) u (P.map bI.ptr) rfl (by simp) (λbm bl hj=>by rw[du];exact m bm bl hj) (by intro bl hu;obtain⟨bo,_,rfl⟩:=aY.1 hu;rfl) (by omega) (by omega) au ?_;intro o2 w2 D K;have V:=U D;have ac:=U K;clear D K)))
      go_roundw;case rel=>
       refine⟨n+1,c,by go_num,by rw[ae d,ae s];exact V,?_⟩;exact L.trans (Z.fy ac)<|λbb hk=>.inr (ao bb hk).1
      case measure=>simp[intOf];omega
    .have o:n=y a:=by omega
     subst o;rw[bN,ae Q]at b;obtain⟨bf,ad,ho⟩:=aB b;have r:=U b;have L:=U e;clear b e;subst ho;go_wp2;go_ret;exact⟨_,rfl,by rw[ae Q];exact r,L⟩
structure De(w:Y)(lb lo:M)(Ls:cr (aa×cP)):Prop where
 len:y Ls=4
 cell:∀i(hi:i<y Ls),aS w (R lb<|lo+i)=H Ls[i].1
 row:∀i(hi:i<y Ls),Row w 1 Ls[i].1 (y Ls[i].2)<|Ls[i].2.map bI.ptr
 pE:∀i(hi:i<y Ls),∀k,bV Ls[i].1=H k->k<z (G w)
 small:ma Ls<=100000000
def De.lt{d:cr (aa×cP)}(h:De a b c d):b<z (G a):=da a (R b<|c+0)<|h.cell 0 (by have:=h.len;omega)
def sa{w:Y}{lb lo:M}(a:cr (aa×cP))(h:De w lb lo a):cw bF 139 #[fh<|H<|R lb lo] w λj w'=>∃e,j=aO e/\w'.ownsRow (z<|G w) 224 1 e (ma a) (qc a)/\Z az w w':=by
 have b:=tr lb lo 4 a w h.cell h.lt h.row h.pE (by have:=h.len;omega) h.small;rw[h.len]at b;clear h;go_in
 go_wp2_with fail
 apply b.mono;rintro j k⟨i,rfl,c,d⟩;have f:=U c;have g:=U d;clear c d;go_wp2;go_ret;exact⟨i,rfl,f,g⟩
def jU(a:cr (aa×cP))(n:M):Bool:=(a.drop n).all<|λp=>p.2.isEmpty
def ES{a:cr (aa×cP)}(h:b<y a):jU a b=(a[b].2.isEmpty&&jU a (b+1)):=by
 unfold jU;rw[bD h,ue]
def Co{w:Y}{lb lo:M}(n:M)(d:cr (aa×cP))(h:De w lb lo d)(V:n<=4):cw bF 179 #[fh<|H<|R lb lo,am n] w λL K=>L=aO (aL<|jU d n)/\K=w:=by
 have f:=h.len;have F:=h.small;have v:=U h.cell;have x:=U h.row;clear h;rcases dE n 4 with C|C;(·(have N:(n:X)<=4:=by omega);(have O:¬(4-n=0):=by omega);(have P:¬(4=n):=by omega);(have Q:(0:X)<=(n:X):=by omega);(go_in);go_wp2;(go_loopw [12] (λu wr=>∃m:M,n+m<=4/\u=am m/\jU d n=jU d (n+m)/\wr=w) (λu _=>4-n-(intOf u).toNat));(case atStart=>exact⟨0,by omega,rfl,rfl,rfl⟩);(case round=>obtain⟨m,T,rfl,e,r⟩:=hrel;subst wr;by_cases E:m<4-n;(·(have p:n+m<y d:=by omega);have o:=v (n+m) p;have q:=x (n+m) p;have b:=ES p;rw[<-aV]at o;have HEq:=U e;clear e;generalize d[n+m].1=al at*;generalize d[n+m].2=k at*;(have B:(m:X)<((4-n:M):X):=by omega);obtain⟨l,⟨rfl,t⟩|⟨ac,s,A,rfl,D,g⟩⟩:=q;(.obtain rfl:=aP t;have c:=U b;clear l t b;go_wp2;go_roundw;(case rel=>exact⟨m+1,by omega,by go_num,by rw[ae HEq,ae c];rfl,trivial⟩);case measure=>simp[intOf];omega);(.rcases fS (y k)with j|j;(.obtain rfl:=aP j;have c:=U b;clear l b g j;go_wp2;go_roundw;(case rel=>exact⟨m+1,by omega,by go_num,by rw[ae HEq,ae c];rfl,trivial⟩);case measure=>simp[intOf];omega);(have i:k.isEmpty=bE:=by cases k with|nil=>simp at j|cons W ad=>rfl);rw[i,pT]at b;have c:=U b;clear l b g i;(have S:(0:X)<(y k:X):=by omega);go_wp2;go_ret;exact⟨by rw[ae HEq,ae c];rfl,rfl⟩));(have b:n+m=4:=by omega);(have a:jU d n=bU:=by rw[e,b,<-f];unfold jU;rw[gm];rfl);have c:=U a;(have B:¬(m:X)<((4-n:M):X):=by omega);clear a e b;go_wp2;go_ret;exact⟨by rw[ae c];rfl,rfl⟩));(·(obtain rfl:n=4:=by omega);(have a:jU d 4=bU:=by rw[<-f];unfold jU;rw[gm];rfl);rw[a];(go_in);go_wp2;(go_loopw [12] (λu wr=>u=am 0/\wr=w) (λ_ _=>0));(case atStart=>exact⟨rfl,rfl⟩);(case round=>obtain⟨rfl,r⟩:=hrel;subst wr;go_wp2;go_ret;exact⟨rfl,rfl⟩))
def Vf(h:i.Sublist p):sg i<=sg p:=by
 induction h with
 |slnil=>exact ah _
 |cons x _ a=>unfold sg at*;simp only[aX,iL];omega
 |cons_cons x _ a=>unfold sg at*;simp only[aX,iL];omega
def IP{w:Y}(b c u:M){ts1 p:cP}(hi:u+1<4)(c1:aS w (R b<|c+u)=H d)(c2:aS w (R b<|c+(u+1))=H s)(K:b<z (G w))(S:kZ w d ts1)(h2:kZ w s p)(hs:AN p)(L:0<y ts1)(ba:sg p<=1000000000):cw bF 174 #[fh<|H<|R b c,am u] w λt e=>∃ac:M,t=aO (am ac)/\ac<y ts1/\Below (z<|G w) w e:=by
 rcases S.shape with⟨_,h0⟩|⟨b1,bg,bf,rfl,_⟩;subst h0;simp at L;have bl:=S.small;have e1:(u:X)<4:=by omega
 have e2:(0:X)<=(u:X):=by omega
 obtain⟨al,an,HS,ad⟩:=gx S h2 hs c2;clear S h2 hs c2;go_in
 go_wp2;go_loopw [5,6,19] (λa le n wr=>∃ac bd k:M,ac<y ts1/\bd<=9223372036854775807/\k<=y ts1/\a=am ac/\le=am bd/\n=am k/\Below (z<|G w) w wr) (λ_ _ n _=>y ts1-(intOf n).toNat)
 case atStart=>exact⟨0,9223372036854775807,0,L,ah _,bw _,rfl,rfl,rfl,Below.refl _ _⟩
 case round=>
  obtain⟨ac,bd,k,hj,hm,hk,rfl,rfl,rfl,j⟩:=hrel;have HB:=U j;by_cases a:k<y ts1
  .have f:=al.below j;have C:=an.below j;have hp:=f.cell a;have c2:aS wr (R b<|c+(u+1))=H s:=(j.cell (p:=(R b<|c+(u+1))) K).trans ad;have m:∀W,W.heap=wr.heap->cw bF 176 #[ts1[k].ptr] W λt e=>t=aO (J<|iX ts1[k].ks)/\e=W:=λW i=>((f.each _<|ap a).of_heap i).first;have n:∀W,W.heap=wr.heap->cw bF 177 #[ts1[k].ptr] W λt e=>t=aO (J<|iU ts1[k].ks)/\∃q,e=W.drewN q:=λW i=>((f.each _<|ap a).of_heap i).last;have hcut:∀W,W.heap=wr.heap->W.os=wr.os->W.tape=wr.tape->W.output=wr.output->cw bF 175 #[s,J<|iX ts1[k].ks,J<|iU ts1[k].ks] W λt e=>∃V P vc,t=aO (dA #[V,P,vc])/\(∃T,kZ e P T/\sg T<=1000000000)/\Below (z<|G w) w e/\aS e (R b<|c+(u+1))=H s:=by
    intro W i ao au av;apply(Ly (iX ts1[k].ks) (iU ts1[k].ks) (C.of_heap i) HS).mono;rintro t e⟨bn,bm,V,P,vc,rfl,_,_,bb,_,_,g⟩;have l:Below (z<|G w) w W:=j.of_heap (by rw[i,ao,au,av]);refine⟨V,P,vc,rfl,⟨_,bb,aD (Vf<|(mZ _ _).trans<|kB _ _) ba⟩,l.trans<|g.mono l.size,?_⟩;exact(g.cell (p:=(R b<|c+(u+1)))<|ag K l.size).trans<|(cH (w:=wr)<|by rw[i]).trans c2
   clear j f C;unfold bI.ptr at hp m n;generalize iX ts1[k].ks=s1 at*;generalize iU ts1[k].ks=s2 at*;generalize ts1[k].tb=bh at*;obtain⟨r,N⟩:∃r,u+1=r:=⟨_,rfl⟩;rw[N]at c2 hcut hi;have e3:(u:X)+1=(r:X):=by omega
   have e4:(r:X)<4:=by omega
   have e5:(0:X)<=(r:X):=by omega
   have e6:IntKind.i64.wrap (r:X)=(r:X):=by rw[bO];omega
   have e7:r<4:=by omega
   clear N;go_wp2_with fail
   rename_i QQ KK bi;go_region_held3(λa=>aS a (R b<|c+r)=H s) (first|assumption|go_keep) (first
    |(go_at_call 176;refine(m wr.drew rfl).mono ?_;rintro t w1⟨rfl,bc⟩;subst w1;have o:aS wr.drew (R b<|c+r)=H s:=c2)
    |(go_at_call 177;refine(n wr.drew rfl).mono ?_;rintro t w1⟨rfl,q,bc⟩;subst w1;have o:aS (wr.drew.drewN q) (R b<|c+r)=H s:=c2)
    |(go_at_call 175;refine(hcut (wr.drewN (1+q)) rfl rfl rfl rfl).mono ?_;rintro t w1⟨V,P,vc,rfl,O,E,o⟩;have A:=U O;have x:=U E;clear O E))
   obtain⟨T,B,ax⟩:=ae A;have F:=NZ B ax;clear B A hcut m n o;generalize sg T=Q at*;go_wp2_with fail
   apply F.mono;rintro t w2⟨rfl,D⟩;have v:=U<|x.trans<|D.mono x.size;clear D F;by_cases bk:Q<bd
   .have e8:(Q:X)<(bd:X):=by omega
    go_wp2;go_roundw;case rel=>exact⟨k,Q,k+1,a,by omega,a,rfl,rfl,by go_num,v⟩
    case measure=>simp[intOf];omega
   .have e8:¬(Q:X)<(bd:X):=by omega
    go_wp2;go_roundw;case rel=>exact⟨ac,bd,k+1,hj,hm,a,rfl,rfl,by go_num,v⟩
    case measure=>simp[intOf];omega
  .have f:k=y ts1:=by omega
   subst f;clear j;go_wp2;go_ret;exact⟨ac,rfl,hj,HB⟩
section
open Go.Shelf
attribute [local go_sem] Oper.semAt_some
def bk(a:iV):M->cr (M×aa)
 |0=>[]
 |j+1=>(j,a.getD j .nilIface)::bk a j
def WN(p:M×aa):Array aa:=#[am p.1,p.2]
def Jw(v:aa)(x:Option Addr)(n c:M)(a:v=I x n c)(w:Y):cw bF 197 #[v] w λe b=>e=aO (.func (.func 241) #[] #[aw<|z<|G w])/\b=ct w (aq #[v] 105):=by
 subst a;go_in
 go_wp2;go_ret;exact⟨rfl,rfl⟩
def OT(F bh:M)(W:dV a b d 105)(hr:Row a 1 d (y x) x)(n:∀p,bV d=H p->p<F)(ad:F<=z (G a))(bb:y x<=1000000000):Hz WN AB F bh 241 #[aw b] (bk x<|y x) (λp=>p=b) a:=by
 intro lr bf Jx bd bg hs hD hJ w C al hY;obtain⟨bc,av,hv⟩:=bL hr;obtain⟨HB,HR,O,HS,HJ,S,HY,P⟩:=EM W hr n hs hJ w hY C;have ax:aS bg (R b 0)=H d:=hs.cell (.inl rfl) W.cell;clear W hr n hs hJ w C al hY hD;subst hv;refine qT func241 rfl trivial ?_ rfl;simp only[ntmps241,eT,ay,cK,Nat.reduceAdd,Nat.reduceSub,dS,dR,eU,ew,cC,cq];gi_wp2;gi_loopw [3] (λi wr=>∃(j:M)(f:cr (M×aa))(t:fI),i=am ((j:X)-1)/\j<=y x/\bk x (y x)=f++bk x j/\bf f t wr/\(∀p,p=b->¬t p)/\jJ AB F (λp=>p=b) a wr) (λi _=>(intOf i+1).toNat)
 case atStart=>exact⟨y x,[],bd,by go_num,ah _,rfl,HJ,S,HS⟩
 case round=>
  obtain⟨j,f,t,rfl,hj,m,g,i,c⟩:=hrel;have ba:aS wr (R b 0)=H (I bc (y x) av):=c.cell (.inl rfl) HB.cell;cases j with
  |zero=>
   have q:=U g;have N:=U m;clear g i c m;gi_wp2;refine vy (iQ rfl _ _ _) rfl ?_;refine⟨⟨_,rfl⟩,.inl ⟨t,?_,trivial⟩⟩;have m:=ae N;rw[show bk x 0=[]from rfl,dI]at m;rw[m];exact q
  |succ j=>
   have ej:(((j+1:M):X)-1)=(j:X):=by omega
   rw[ej];have r:x.getD j .nilIface=x[j]:=by rw[sF,aH hj];rfl
   have A:∃au e,bc=H (R au e)/\aS wr (R au<|e+j)=H x[j]:=by
    obtain⟨h1,⟨L,h0⟩|⟨ao,s,K,L,ac,V⟩⟩:=ae HR
    .omega
    .cases L;exact⟨ao,s,rfl,c.cell (.inr ⟨O _ rfl,id⟩)<|V j _<|aH hj⟩
   obtain⟨au,e,E,A⟩:=A;have o:(f++[(j,x[j])])<+:bk x (y x):=⟨bk x j,by rw[m,show bk x (j+1)=(j,x.getD j .nilIface)::bk x j from rfl,r];simp⟩;have B:bk x (y x)=(f++[(j,x[j])])++bk x j:=by rw[m,show bk x (j+1)=(j,x.getD j .nilIface)::bk x j from rfl,r];simp
   have N:=U B;obtain⟨fn,an,D,body,hy,hR⟩:=HY f (j,x[j]) t wr o g trivial;unfold WN at hy;simp only at hy;obtain⟨Q,q,T⟩:=dB hR g c;have l:=U i;clear g c i m B o hR r ej;generalize x[j]=xj at*;have e1:(j:X)<(y x:X):=by omega
   have e2:(0:X)<=(j:X):=by omega
   subst E;gi_wp2;refine⟨(λav=>(by cases av)),Q.mono ?_⟩;rintro bi W3(⟨rfl,_,B3,v,k,u⟩|⟨rfl,E⟩)
   .have L:=U v;have V:=U k;have K:=U u;clear v k u;gi_wp2;go_roundw;case rel=>
     have k:=ae V;have c:=ae T;have ac:b<z (G wr):=ag (aj HB) c.1;refine⟨j,f++[(j,xj)],B3,by go_num,by omega,N,L,λp s ao=>?_,?_⟩
     .rcases K p ao with ao|ao
      .exact l p s ao
      .subst s;omega
     .refine c.trans ?_;exact k.same (aD ad c.1) (λp s=>⟨by subst s;exact ac,l p s⟩) (λp s a=>by have:=(P _ _ _ q p s).1;omega)
    case measure=>simp[intOf]
   .have s:=U E;clear E;gi_wp2;refine cI (iQ rfl _ _ _) rfl ?_;exact⟨⟨_,rfl⟩,.inr ⟨_,s⟩⟩
end
def sS(b:eK)(a:Bool)(c:dW):(gU b a c).Sublist (eG b<|di c):=by
 unfold gU;split;exact pA _;exact ez _
def sU{ms:eK}{lowest:Bool}(c:dQ (di k))(d:∀x∈di k,x.Good)(e:y (di k)<=1000000)(g:y ms<=4):dQ (gU ms lowest k)/\rN 5 (gU ms lowest k)/\(∀x∈gU ms lowest k,x.Good)/\y (gU ms lowest k)<=1000000:=by
 have b:=sS ms lowest k;have a:=b.trans<|mf ms<|di k;exact⟨c.sub a,((Gg c).sub b).mono (by omega),λx f=>d x<|a.subset f,aD a.length_le e⟩
def GK{V:jm}{W:Y}{ms:eK}{mx:Option Addr}{mc:M}(b:cA)(s:Row W 1 (I mx (y ms) mc) (y ms) (ms.map<|Value.int .u64))(d:∀k,bV (I mx (y ms) mc)=H k->k<z (G W)/\¬V.F k)(t:y ms<=4)(p:dQ b)(o:y b<=1000000):(∀(e:Y)(a:M)(m:Option Addr)(j:M),Z V.F W e->e.ownsRow a 164 4 (I m (y b) j) (y b) (aE b)->cw bF 50 #[I m (y b) j,I mx (y ms) mc] e λr h=>∃g,r=aO g/\h.ownsRow (z<|G e) 164 4 g (y<|eG ms b) (aE<|eG ms b)/\Z az e h)/\(∀(i:Y)(a:M)(n:Option Addr)(l:M),i.ownsRow a 164 4 (I n (y<|eG ms b) l) (y<|eG ms b) (aE<|eG ms b)->cw bF 137 #[I n (y<|eG ms b) l] i λr h=>∃g,r=aO g/\h.ownsRow (z<|G i) 164 4 g (y<|jj<|eG ms b) (aE<|jj<|eG ms b)/\Z az i h):=by
 constructor;intro e a m j q f;exact zq ms (dF f) p o (q.row s<|λk c=>⟨(d k c).2,(d k c).1⟩) (by omega) (λk c=>(f.lt k c).2)<|λk c=>ag (d k c).1 q.size;intro i a n l f;exact Vp (dF f) (p.sub<|mf ms b) (aD (mf ms b).length_le o)<|λk c=>(f.lt k c).2
section
open Go.Shelf
attribute [local go_sem] Oper.semAt_some
structure RB(w0:Y)(vs:iV)(B:fI)(W:Y):Prop where
 row:∃v,dV W (z<|G w0) v 176/\W.ownsRow (z (G w0)+1) 205 1 v (y vs) vs/\(∀k,B k↔k=z (G w0)\/bV v=H k)
 ar:Z az w0 W
def RB.lt(h:RB a x W C):∀k,W k->z (G a)<=k/\k<z (G C):=by
 intro k g;obtain⟨v,b,d,e⟩:=h.row;rcases(e k).1 g with c|c;subst c;exact⟨ah _,aj b⟩;have:=d.lt k c;exact⟨by omega,this.2⟩
def RB.stays{T:fI}(j:RB a x W f)(e:Z T f C)(c:∀k,T k->¬W k/\z (G a)<=k):RB a x W C:=by
 obtain⟨v,g,i,b⟩:=j.row;exact⟨⟨v,(e.block _ (aj g)<|λh=>(c _ h).1<|(b _).2<|.inl rfl).trans g,e.own i<|λk d h=>(c k h).1<|(b k).2<|.inr d,b⟩,j.ar.trans e<|λk d=>.inr (c k d).2⟩
def RB.more{d:iV}{v c x:aa}{B:Obj}(A:RB a d W f)(r:dV f (z<|G a) v 176)(l:∀k,W k↔k=z (G a)\/bV v=H k)(w:f.ownsRow (z (G a)+1) 205 1 v (y d) d)(s:eR (ct f B) C v c)(e:C.ownsRow (z (G a)+1) 205 1 c (y d+1) (d++[x])):∃o,RB a (d++[x]) o (bZ C (R (z<|G a) 0) c)/\Z W f (bZ C (R (z<|G a) 0) c)/\(∀k,o k->W k\/z (G f)<=k):=by
 have n:∀k,bV v=H k->z (G a)+1<=k/\k<z (G f):=λk b=>w.lt k b;have h:∀k,bV c=H k->z (G a)+1<=k:=λk b=>(e.lt k b).1;have q:Z (λk=>bV v=H k) f C:=((Z.refl (λk=>bV v=H k) f).alloc B).trans (Z.dM (S:=λk=>bV v=H k) s.grown<|λk b=>.inl b)<|λk b=>.inl b;have m:dV C (z<|G a) v 176:=(q.block _ (aj r) (λj=>by have:=(n _ j).1;omega)).trans r;have g:Z W f (bZ C (R (z<|G a) 0) c):=(q.mono (T:=W)<|λk b=>.inl<|(l k).2<|.inr b).setCell _ _ _<|.inl<|(l _).2<|.inl rfl;refine⟨λk=>k=z (G a)\/bV c=H k,⟨⟨c,m.set _,?_,λk=>qU⟩,?_⟩,g,?_⟩;rw[show y (d++[x])=y d+1 by simp];exact e.kept (cW C _ _ _) (by right;intro j;have:=h _ j;omega);exact A.ar.trans g<|λk b=>.inr (A.lt k b).1;rintro k(j|j);exact .inl<|(l k).2<|.inl j;rcases s.uc with t|⟨D,t,u⟩;exact .inl<|(l k).2<|.inr<|t.symm.trans j;rw[t]at j;cases j;simp at u;exact .inr<|by omega
def Nk(t:bI):aa:=.iface 224 t.ptr
def FE(p:aa×cP):aa:=.iface 105 p.1
end
def zk{c:Func}{E Q:Tmp}(S:c.results=#[.cell E 107,.tmp Q])(a:Array aa)(w:Y)(g:M)(e f h i:aa)(O:TypeId)(d:M×M)(r:a.getD E iC=aw g)(p:w.heap[g]?=H (aq #[e,f,h,i] O d))(j:∃x n k,e=I x n k)(l:∃x n k,f=I x n k)(m:∃x n k,h=I x n k)(o:∃x n k,i=I x n k):(results c a).run bF w=.ok (dA #[eD #[e,f,h,i],a.getD Q iC]) w:=by
 obtain⟨F,A,s,rfl⟩:=j;obtain⟨K,B,t,rfl⟩:=l;obtain⟨L,C,u,rfl⟩:=m;obtain⟨N,D,v,rfl⟩:=o;have b:a[E]?.getD iC=aw g:=by simpa using r
 have q:=mO (P:=bF) w g O 107 #[I F A s,I K B t,I L C u,I N D v] d _ p underlying107 rfl (by kernel_rfl);simp[results,S,b,asAddr,q,Result.andThen]
def NR{e f g h a' b' c' d':aa}{t:TypeId}{c:M×M}(j:a.heap[b]?=H (aq #[e,f,g,h] t c)):(bZ (bZ (bZ (bZ a (R b 0) a') (R b 1) b') (R b 2) c') (R b 3) d').heap[b]?=H (aq #[a',b',c',d'] t c):=by
 have d:=aQ (i:=3) (u:=d')<|aQ (i:=2) (u:=c')<|aQ (i:=1) (u:=b')<|aQ (i:=0) (u:=a') j;rw[d];simp
def Ss(b0 j g:M)(x1 A B:Option Addr)(n1 w x c1 c2 c3:M)(d:cP)(V W:cP)(ch:Row a 1 (bC b0 j (y d) g) (y d) (d.map bI.ptr))(al:b0<b/\¬r.F b0)(cM:∀ex∈d,nG r b ex.tb ex.ks ex.cs a)(h1:sh r b (I x1 n1 c1) i a)(ec:Row a 1 (I A w c2) (y V) (V.map bI.ptr))(ed:Row a 1 (I B x c3) (y W) (W.map bI.ptr))(bT:∀k,bV (I A w c2)=H k->k<b/\¬r.F k)(ca:∀k,bV (I B x c3)=H k->k<b/\¬r.F k)(hD:r.D a)(o:b<=z (G a))(hF:∀k,r.F k->k<b)(hT:Steps a)(dm:1<b/\¬r.F 1)(bo:y d+y i+y V+y W<=1000000)(t:eK)(mx:Option Addr)(mc:M)(hm:Row a 1 (I mx (y t) mc) (y t) (t.map<|Value.int .u64))(bl:∀k,bV (I mx (y t) mc)=H k->k<b/\¬r.F k)(dT:y t<=4)(c:Bool)(bq:c=(V.isEmpty&&W.isEmpty))(hs:dQ (di<|cf i::d.map bI.all))(hg:∀fn∈di (cf i::d.map bI.all),fn.Good)(hl:y (di<|cf i::d.map bI.all)<=1000000):cw bF 120 #[eD #[bC b0 j (y d) g,I x1 n1 c1,I A w c2,I B x c3],am 0,I mx (y t) mc] a λD N=>∃K bs C,∃e:cP,D=aO (dA #[eD #[aK,I K bs C,I A w c2,I B x c3],.nilIface])/\N.ownsRow (z<|G a) 224 1 (I K bs C) (y e) (e.map bI.ptr)/\e.map bI.all=iz (rC t c d i)/\uy N (z<|G a) e/\r.D N/\Z r.F a N:=by
 have hW:Z az a (ct (ct a<|aq #[bC b0 j (y d) g,I x1 n1 c1,I A w c2,I B x c3] 107)<|aq #[aK,aK,aK,aK] 107):=((Z.refl _ a).alloc _).alloc _;generalize bk:ct (ct a<|aq #[bC b0 j (y d) g,I x1 n1 c1,I A w c2,I B x c3] 107) (aq #[aK,aK,aK,aK] 107)=bx at hW;have bi:bx.heap[z<|G a]?=H (aq #[bC b0 j (y d) g,I x1 n1 c1,I A w c2,I B x c3] 107 (0,0)):=by rw[<-bk];exact(fX _<|by simp).trans<|aC _ rfl
 have cT:bx.heap[z (G a)+1]?=H (aq #[aK,aK,aK,aK] 107 (0,0)):=by rw[<-bk];exact aC _<|by simp
 have ax:∀u,Z az a u->jJ r b az a u:=λu ht=>ht.same o cG cG;have ce:∀k,b<=k->¬r.F k:=λk n cE=>by have:=hF k cE;omega
 have dx:∀u,Z r.F bx u->De u (z<|G a) 0 [(bC b0 j (y d) g,d),(I x1 n1 c1,i),(I A w c2,V),(I B x c3,W)]:=by
  intro u ao;have L:∀cm c,Row a 1 cm (y c) (c.map bI.ptr)->(∀k,bV cm=H k->k<b/\¬r.F k)->Row u 1 cm (y c) (c.map bI.ptr):=λcm c hr n=>
   ao.row (hW.row hr<|λk D=>⟨id,ag (n k D).1 o⟩) (λk D=>⟨(n k D).2,ag (n k D).1<|aD o hW.size⟩)
  have hz:z (G a)<=z (G u):=aD hW.size ao.size;have cj:=(ao.block _ (aj bi)<|ce _ o).trans bi;have f:∀S cm,(#[bC b0 j (y d) g,I x1 n1 c1,I A w c2,I B x c3]:Array aa)[S]?=H cm->aS u (R (z<|G a)<|0+S)=H cm:=by
   intro S cm hv;rw[bR cj,cR];exact hv
  refine⟨rfl,λS P=>?_,λS P=>?_,λS P k n=>?_,by simp[ma];omega⟩
  .match S,P with
   |0,_=>exact f 0 _ rfl
   |1,_=>exact f 1 _ rfl
   |2,_=>exact f 2 _ rfl
   |3,_=>exact f 3 _ rfl
  .match S,P with
   |0,_=>exact L _ _ ch (λk D=>by cases D;exact al)
   |1,_=>exact L _ _ h1.row<|λk D=>h1.loc k D
   |2,_=>exact L _ _ ec bT
   |3,_=>exact L _ _ ed ca
  .match S,P with
   |0,_=>cases n;exact ag al.1<|aD o hz
   |1,_=>exact ag (h1.loc k n).1<|aD o hz
   |2,_=>exact ag (bT k n).1<|aD o hz
   |3,_=>exact ag (ca k n).1<|aD o hz
 have E:∀u,Z r.F bx u->cw bF 179 #[aw<|z<|G a,am 2] u λD N=>D=aO (aL c)/\N=u:=by intro u ao;have h:=Co (w:=u) (lb:=z<|G a) (lo:=0) 2 _ (dx _ ao) (by omega);(have L:jU [(bC b0 j (y d) g,d),(I x1 n1 c1,i),(I A w c2,V),(I B x c3,W)] 2=c:=by rw[bq];simp[jU]);rw[L]at h;exact h
 have au:∀q,cw bF 178 #[bC b0 j (y d) g,I x1 n1 c1] (bx.drewN q) λD N=>∃c,D=aO (dA #[c,.nilIface])/\N.ownsRow (z<|G bx) 164 4 c (y<|di<|cf i::d.map bI.all) (aE<|di<|cf i::d.map bI.all)/\r.D N/\Z r.F (bx.drewN q) N:=by intro q;have L:Z az a (bx.drewN q):=hW.of_heap rfl;have bo:=ax _ L;refine Es b b0 j g (I x1 n1 c1) d i ?_ al (λex ht=>(cM ex ht).same bo) (by omega) (h1.same bo) (r.fm hD L cG) (aD o L.size) hF hl;intro S P;obtain⟨_,⟨cE,_⟩|⟨b',ev,cj,cE,_,hc⟩⟩:=ch.same bo (λk D=>by cases D;exact al);cases cE;cases cE;refine hc S _ ?_;rw[dz,aH P];rfl
 have db:=GK (V:=r) (W:=bx) (ms:=t) (mx:=mx) (mc:=mc) (di<|cf i::d.map bI.all) (hW.row hm<|λk D=>⟨id,ag (bl k D).1 o⟩) (λk D=>⟨ag (bl k D).1<|aD o hW.size,(bl k D).2⟩) dT hs hl;have dd:∀u,Z r.F bx u->Steps u:=λu ht k n=>ht.cell (hW.cell (hT k n) id hT.lt) dm.2<|ag hT.lt hW.size;have dk:dQ (rC t c d i)/\rN 5 (rC t c d i)/\(∀fn∈rC t c d i,fn.Good)/\y (rC t c d i)<=1000000:=sU hs hg hl dT;obtain⟨cn,co,bt,ei,bb,cu,ad,HW,bv⟩:=xH bi cT E au db dd dk hW ce;have eq:∀e:cP,e.map bI.all=iz (rC t c d i)->y e<=100000000:=by intro e h;have:=bS y h;rw[cV]at this;have:=xw<|rC t c d i;omega
 have el:=U bk;have fk:=hW.size;have ea:rC t c d i=if c then jj (eG t<|di<|cf i::d.map bI.all)else eG t (di<|cf i::d.map bI.all):=rfl;have bd:=U ea;clear ch al cM h1 ec ed bT ca hD hF hT dm bq hg hl hs hm bl bi cT ax dx E au db dd dk hW ce bk ea;generalize di (cf i::d.map bI.all)=ML at*;generalize rC t c d i=cB at*;go_in
 go_wp2_with fail
 go_quiet(fail)
 rw[ae el];have au:=ei nq;go_wp2_with fail
 apply au.mono;rintro D w1⟨et,rfl,v,an,Q⟩;have l:Z r.F bx w1:=(gP r.F bx nq).trans Q<|λ_ h=>.inl h;obtain⟨s,p,rfl⟩:=aB v;have eb:=bb.1 w1 _ s p l v;have ac:=U an;have bg:=U l;clear v an Q l au;go_wp2_with fail
 apply eb.mono;rintro D w2⟨vn,rfl,bn,ck⟩;have ba:Z r.F bx w2:=bg.ci ck;have dc:=r.fm ac ck cG;obtain⟨xn,eu,rfl⟩:=aB bn;have E:=bt w2 ba;have cc:=bb.2 w2 _ xn eu bn;have ee:=bg.size;obtain⟨bc,O,bu⟩:=dB dc ba bn;clear bn dc ba ck eb;cases c;(case' false=>obtain rfl:cB=eG t ML:=ae bd;clear cc bb bd;(go_wp2_with fail);apply E.mono;rintro D cl⟨rfl,es⟩;subst cl;clear E;obtain⟨bf,bh,cp⟩:=dB (eS (base':=z<|G a) bu<|by omega) O bc;clear O bc bu bg ac bt;generalize w2=w3 at*);(case' true=>obtain rfl:cB=jj (eG t ML):=ae bd;(go_wp2_with fail);apply E.mono;rintro D cl⟨rfl,es⟩;subst cl;(go_wp2_with fail);apply cc.mono;rintro D w3⟨vb,rfl,L,cj⟩;obtain⟨xn,eu,rfl⟩:=aB L;obtain⟨bf,bh,cp⟩:=dB (eS (base':=z<|G a) L (by have:=O.size;omega)) (O.ci cj)<|r.fm bc cj cG;clear L cj E cc O bc bu bg ac bt bb bd ee)
 all_goals
  have en:=yT (dF bf) ad.1 ad.2.1 ad.2.2.1 ad.2.2.2 (λk n=>(bf.lt k n).2)<|cu w3 bh;clear bf cu ad;go_wp2_with fail
  apply en.mono;rintro D w1⟨et,e,rfl,v,cb,bm,Q⟩;have l:Z r.F bx w1:=bh.ci Q;have an:=r.fm cp Q cG;have ff:=bh.size;obtain⟨s,p,rfl⟩:=aB v;have dn:=(l.block _ (aj cn)<|bv _ o).trans cn;have ds:=(l.block _ (aj co)<|bv _<|by omega).trans co;have fe:=l.size;have bm:=bm.base (base':=z<|G a) (by omega);have hC:cw bF 118 #[bC (z<|G w1) 0 3 3] (ct w1<|aq #[aK,I s (y e) p,aK] 105) λD N=>∃v',D=aO v'/\N.ownsRow (z<|G a) 224 1 v' (y e) (e.map bI.ptr)/\Z az w1 N:=by
   have f:∀S cm,(#[I none 0 0,I s (y e) p,aK]:Array aa)[S]?=H cm->aS (ct w1<|aq #[aK,I s (y e) p,aK] 105) (R (z<|G w1)<|0+S)=H cm:=by
    intro S cm hv;rw[bR<|aC _ rfl,cR];exact hv
   have eo:Row (ct w1<|aq #[aK,I s (y e) p,aK] 105) 1 (I s (y e) p) (y e) (e.map bI.ptr):=dF<|aR v _;have h:=tr (z<|G w1) 0 3 [(I none 0 0,[]),(I s (y e) p,e),(I none 0 0,[])] (ct w1<|aq #[aK,I s (y e) p,aK] 105) ?_ (by simp) ?_ ?_ (by simp) (by simp[ma];exact eq e cb)
   .have e1:ma [(I none 0 0,[]),(I s (y e) p,e),(I none 0 0,[])]=y e:=by simp[ma]
    have e2:qc [(I none 0 0,[]),(I s (y e) p,e),(I none 0 0,[])]=e.map bI.ptr:=by simp[qc]
    rw[e1,e2]at h;apply h.mono;rintro D N⟨v',rfl,ho,ht⟩;exact⟨v',rfl,eS ho (by simp;omega),((Z.refl az w1).alloc _).ci ht⟩
   .intro S P;match S,P with
    |0,_=>exact f 0 _ rfl
    |1,_=>exact f 1 _ rfl
    |2,_=>exact f 2 _ rfl
   .intro S P;match S,P with
    |0,_=>exact⟨rfl,.inl ⟨rfl,rfl⟩⟩
    |1,_=>exact eo
    |2,_=>exact⟨rfl,.inl ⟨rfl,rfl⟩⟩
   .intro S P k n;match S,P with
    |0,_=>cases n
    |1,_=>have:=(aF v k n).2;simp;omega
    |2,_=>cases n
  obtain⟨ej,ac,ek,eg,cv,cx⟩:=kF bm an l cb dn ds;clear v cb bm an Q l dn ds;go_wp2_with fail
  apply hC.mono;rintro D w2⟨fl,rfl,av,F⟩;obtain⟨K,C,rfl⟩:=aB av;have Av:=(F.block _ (aj cv) id).trans cv;have m:=(F.block _ (aj cx) id).trans cx;have p0:=cellAt Av 0 rfl;have p1:=cellAt Av 1 rfl;have p2:=cellAt Av 2 rfl;have p3:=cellAt Av 3 rfl;have f0:=dJ (i:=0) Av;have f1:=dJ (i:=1) Av;have q0:=cellAt m 0 rfl;have q1:=cellAt m 1 rfl;have q2:=cellAt m 2 rfl;have q3:=cellAt m 3 rfl;have g0:=dJ (i:=0) m;have g1:=dJ (i:=1) m;have g2:=dJ (i:=2) m;have g3:=dJ (i:=3) m;obtain⟨fb,O,ey⟩:=dB av F m;have cs:=U (show∀wf,wf=bZ (bZ (bZ (bZ (bZ (bZ w2 (R (z<|G a) 0) aK) (R (z<|G a) 1)<|I K (y e) C) (R (z (G a)+1) 0) aK) (R (z (G a)+1) 1)<|I K (y e) C) (R (z (G a)+1) 2)<|I A w c2) (R (z (G a)+1) 3) (I B x c3)->wf.heap[z (G a)+1]?=H (aq #[aK,I K (y e) C,I A w c2,I B x c3] 107 (0,0))/\wf.ownsRow (z<|G a) 224 1 (I K (y e) C) (y e) (e.map bI.ptr)/\uy wf (z<|G a) e/\r.D wf/\Z r.F a wf from by
   rintro wf rfl;have hx:((bZ (bZ w2 (R (z<|G a) 0) aK) (R (z<|G a) 1)<|I K (y e) C)).heap[z (G a)+1]?=H (aq #[aK,aK,aK,aK] 107 (0,0)):=(ir _<|by omega).trans<|(ir _<|by omega).trans m;have bp:Z (λk=>k=z (G a)\/k=z (G a)+1) w2 (bZ (bZ (bZ (bZ (bZ (bZ w2 (R (z<|G a) 0) aK) (R (z<|G a) 1)<|I K (y e) C) (R (z (G a)+1) 0) aK) (R (z (G a)+1) 1)<|I K (y e) C) (R (z (G a)+1) 2)<|I A w c2) (R (z (G a)+1) 3)<|I B x c3):=((((((Z.refl _ w2).setCell _ 0 _<|.inl<|.inl rfl).setCell _ 1 _<|.inl<|.inl rfl).setCell _ 0 _<|.inl<|.inr rfl).setCell _ 1 _<|.inl<|.inr rfl).setCell _ 2 _<|.inl<|.inr rfl).setCell _ 3 _<|.inl<|.inr rfl;have em:=NR (a':=aK) (b':=I K (y e) C) (c':=I A w c2) (d':=I B x c3) hx;generalize bZ (bZ (bZ (bZ (bZ (bZ w2 (R (z<|G a) 0) aK) (R (z<|G a) 1)<|I K (y e) C) (R (z (G a)+1) 0) aK) (R (z (G a)+1) 1)<|I K (y e) C) (R (z (G a)+1) 2)<|I A w c2) (R (z (G a)+1) 3) (I B x c3)=wf at*;have br:∀k,(k=z (G a)\/k=z (G a)+1)->∃ef,w2.heap[k]?=H (aq ef 107 (0,0)):=by
    rintro k(rfl|rfl)
    .exact⟨_,Av⟩
    .exact⟨_,m⟩
   refine⟨em,bp.own av<|λk n cE=>?_,?_,r.fm (r.fm ac F cG) bp<|λk n=>bv k (by rcases n with cE|cE<;>omega),?_⟩
   .obtain⟨ef,cd⟩:=br k cE;obtain⟨fd,dv⟩:=fD av n;exact iq cd dv (by decide) rfl
   .refine((ej.ar F).other bp<|λk n=>?_).base (by omega);obtain⟨ef,cd⟩:=br k n;exact⟨ef,_,_,cd,by decide,by decide,by decide⟩
   .exact(((HW.mono (T:=r.F) cG).trans ek (λ_ h=>.inl h)).ci F).trans bp (λk n=>.inr (by rcases n with cE|cE<;>omega)))
  clear av F Av m hC;go_wp2;obtain⟨r1,r2,r3,r4,r5⟩:=cs _ rfl;refine cI (zk rfl _ _ (z (G a)+1) aK (I K (y e) C) (I A w c2) (I B x c3) _ _ rfl r1 ⟨_,_,_,rfl⟩ ⟨_,_,_,rfl⟩ ⟨_,_,_,rfl⟩ ⟨_,_,_,rfl⟩) rfl ?_;exact⟨K,y e,C,e,rfl,r2,eg,r3,r4,r5⟩
def nF{us ts:cP}(h:us.Sublist ts):(cf us).Sublist (cf ts):=by
 induction h with
 |slnil=>exact ez _
 |cons x _ a=>rw[yB];exact a.trans<|ga _ _
 |cons_cons x _ a=>rw[yB,yB];exact List.Sublist.append (ez _) a
def ly.sub(h:ly p)(a:i.Sublist p):ly i:=⟨λt b=>h.pure t<|a.subset b,h.mq.sub<|nF a,h.CT.sublist<|a.map _⟩
def Uj(j:kZ a (bC b c (y i) g) i)(d:y i<=g)(f:l<=y i):kZ a (I (if g=l then H (R b c)else H (R b<|c+l)) (y i-l)<|g-l) (i.drop l):=by
 by_cases h:g=l;(have e:y i=l:=by omega);rw[dw h,<-e,gm,zJ,show g-y i=0 by omega];exact j.empty c;rw[cY h];exact j.drop l f
def WD{w1:Y}{ta tbqq:cP}(a:M)(h:kZ w1 d ta)(j:kZ w1 s tbqq)(t:y ta+y tbqq<=10000000)(u:a<=z (G w1))(T:TypeId):cw bF 118 #[bC (z<|G w1) 0 2 2] ((ct w1<|aq #[d,s] T).drew) λq k=>∃g,q=aO g/\k.ownsRow a 224 1 g (y<|ta++tbqq) ((ta++tbqq).map bI.ptr)/\Z az w1 k:=by
 have c:Z az w1 ((ct w1<|aq #[d,s] T).drew):=((Z.refl _ w1).alloc _).of_heap rfl;have b:∀i v,(#[d,s]:Array aa)[i]?=H v->aS ((ct w1<|aq #[d,s] T).drew) (R (z<|G w1)<|0+i)=H v:=by intro i v m;rw[bA,bR<|aC _ rfl,cR];exact m
 have r:=tr (z<|G w1) 0 2 [(d,ta),(s,tbqq)] ((ct w1<|aq #[d,s] T).drew) ?_ (by simp) ?_ ?_ (by simp) (by simp[ma];omega);(have m:ma [(d,ta),(s,tbqq)]=y (ta++tbqq):=by simp[ma]);(have n:qc [(d,ta),(s,tbqq)]=(ta++tbqq).map bI.ptr:=by simp[qc]);rw[m,n]at r;apply r.mono;rintro q k⟨g,rfl,o,p⟩;exact⟨g,rfl,eS o (by simp;omega),c.ci p⟩
 .intro i f;match i,f with
  |0,_=>exact b 0 _ rfl
  |1,_=>exact b 1 _ rfl
 .intro i f;match i,f with
  |0,_=>exact c.row h.row<|λl e=>⟨id,h.lt l e⟩
  |1,_=>exact c.row j.row<|λl e=>⟨id,j.lt l e⟩
 .intro i f l e;match i,f with
  |0,_=>have:=h.lt l e;simp;omega
  |1,_=>have:=j.lt l e;simp;omega
def WC(f b g:cP)(e:M)(u:Row a 1 d (y f) (f.map bI.ptr))(j:∀k,bV d=H k->k<z (G a))(v:Row a 1 s (y b) (b.map bI.ptr))(l:∀k,bV s=H k->k<z (G a))(w:Row a 1 N (y g) (g.map bI.ptr))(m:∀k,bV N=H k->k<z (G a))(D:y f+y b+y g<=10000000)(E:e<=z (G a))(T:TypeId):cw bF 118 #[bC (z<|G a) 0 3 3] (ct a<|aq #[d,s,N] T) λB q=>∃p,B=aO p/\q.ownsRow e 224 1 p (y<|f++b++g) ((f++b++g).map bI.ptr)/\Z az a q:=by
 have i:Z az a (ct a<|aq #[d,s,N] T):=(Z.refl _ a).alloc _;have c:∀o t,(#[d,s,N]:Array aa)[o]?=H t->aS (ct a<|aq #[d,s,N] T) (R (z<|G a)<|0+o)=H t:=by intro o t r;rw[bR<|aC _ rfl,cR];exact r
 have C:=tr (z<|G a) 0 3 [(d,f),(s,b),(N,g)] (ct a<|aq #[d,s,N] T) ?_ (by simp) ?_ ?_ (by simp) (by simp[ma];omega);(have r:ma [(d,f),(s,b),(N,g)]=y (f++b++g):=by simp[ma]);(have t:qc [(d,f),(s,b),(N,g)]=(f++b++g).map bI.ptr:=by simp[qc]);rw[r,t]at C;apply C.mono;rintro B q⟨p,rfl,x,A⟩;exact⟨p,rfl,eS x (by simp;omega),i.ci A⟩
 .intro o n;match o,n with
  |0,_=>exact c 0 _ rfl
  |1,_=>exact c 1 _ rfl
  |2,_=>exact c 2 _ rfl
 .intro o n;match o,n with
  |0,_=>exact i.row u<|λk h=>⟨id,j k h⟩
  |1,_=>exact i.row v<|λk h=>⟨id,l k h⟩
  |2,_=>exact i.row w<|λk h=>⟨id,m k h⟩
 .intro o n k h;match o,n with
  |0,_=>have:=j k h;simp;omega
  |1,_=>have:=l k h;simp;omega
  |2,_=>have:=m k h;simp;omega
section
open Go.Shelf
attribute [local go_sem] Oper.semAt_some
def Vk(a:cP):∀j,j<=y a->(bk (a.map bI.ptr) j).map (λp=>Value.iface 224 p.2)=((a.take j).map Nk).reverse
 |0,_=>by simp[bk]
 |j+1,h=>by
  have b:j<y a:=h;rw[bk,aX,Vk a j (by omega),ai b,aM,List.reverse_append];simp only[aX,eY,tI,List.reverse_nil,cC,jO,mP,sC];rw[sF,dz,aH b];rfl
def qA(a b c d:aa×cP):iV:=((a.2.map Nk).reverse)++[FE b]++[FE c]++[FE d]
def NS{w:Y}{lb lo:M}(p0 p1 p2 p3:aa×cP)(h:De w lb lo [p0,p1,p2,p3]):cw bF 135 #[fh<|H<|R lb lo] w λfb w'=>∃v',fb=aO v'/\w'.ownsRow (z<|G w) 205 1 v' (y<|qA p0 p1 p2 p3) (qA p0 p1 p2 p3)/\Z az w w':=by
 obtain⟨i0,bx,bT,ca,bs⟩:=cz Jb;obtain⟨v0,e⟩:=p0;obtain⟨v1,q⟩:=p1;obtain⟨v2,r⟩:=p2;obtain⟨v3,s⟩:=p3;have c0:aS w (R lb lo)=H v0:=h.cell 0 (by simp);have c1:aS w (R lb<|lo+1)=H v1:=h.cell 1 (by simp);have c2:aS w (R lb<|lo+2)=H v2:=h.cell 2 (by simp);have c3:aS w (R lb<|lo+3)=H v3:=h.cell 3 (by simp);have cn:Row w 1 v0 (y e) (e.map bI.ptr):=h.row 0 (by simp);have dn:∀bf,bV v0=H bf->bf<z (G w):=h.pE 0 (by simp);obtain⟨x0,ax,rfl⟩:=bL cn;obtain⟨x1,K,rfl⟩:∃cj av,v1=I cj (y q) av:=bL (h.row 1<|by simp);obtain⟨x2,L,rfl⟩:∃cj av,v2=I cj (y r) av:=bL (h.row 2<|by simp);obtain⟨x3,N,rfl⟩:∃cj av,v3=I cj (y s) av:=bL (h.row 3<|by simp);have en:y e<=100000000:=by have:=h.small;simp[ma]at this;omega
 have cm:=h.lt;obtain⟨cl,eg,ei,ek,cs⟩:=jR c1 c2 c3 cn dn;clear h cn dn c1 c2 c3;refine(cZ (n:=3)).1 ?_;refine callsIn_of_wp_marks func135 rfl trivial ?_ rfl;simp only[ntmps135,eT,ay,cK,Nat.reduceAdd,Nat.reduceSub,dS,dR,eU,ew,cC,cq];gi_wp2;refine wpIn_loop_rounds 5 ?_;rw[roundsIn_succ];gi_wp2;rename_i QQ KK x;apply CS KK;(.intro bb;refine sj.2 ?_;(go_region);all_goals exact bb);apply x;clear x;have em:=λee=>Jw (I x0 (y e) ax) x0 (y e) ax rfl ee;gi_wp2_with(refine⟨trivial,?_⟩;gi_at_call 197;refine(cZ.2<|em _).mono ?_;rintro fb w1⟨rfl,rfl⟩)
 have e1:z (G (ct (ct w<|aq #[aK] 176)<|aq #[I x0 (y e) ax] 105).drew)=z (G w)+2:=by simp
 obtain⟨W0,bg⟩:∃W0,(ct (ct w<|aq #[aK] 176)<|aq #[I x0 (y e) ax] 105).drew=W0:=⟨_,rfl⟩;rw[bg]at e1;have br:Z az w W0:=by rw[<-bg];exact(((Z.refl az w).alloc _).alloc _).of_heap rfl
 have ds:dV W0 (z (G w)+1) (I x0 (y e) ax) 105:=by rw[<-bg];exact aC (w:=ct w<|aq #[aK] 176) _<|by simp
 have dv:dV W0 (z<|G w) aK 176:=by rw[<-bg];exact dV.alloc (w:=ct w<|aq #[aK] 176) (aC (w:=w) _ rfl) _
 have ch:Row W0 1 (I x0 (y e) ax) (y<|e.map bI.ptr) (e.map bI.ptr):=by rw[cV];exact br.row ek<|λbf Q=>⟨id,cs bf Q⟩
 have dd:RB w [] (λbf=>bf=z (G w)) W0:=⟨⟨aK,dv,bJ _ _ _ _,λbf=>by simp[bV]⟩,br⟩;rw[bg];refine nA (α:=M×aa) (arg:=WN) (m:=3) (V:=AB) (n0:=z<|G w) (gf:=241) (lb:=#[aw<|z (G w)+1]) (l:=bk (e.map bI.ptr)<|y<|e.map bI.ptr) (S:=λbf=>bf=z (G w)+1) ?geval (enters_of func241 (by kernel_rfl) rfl) (λ_=>rfl) (OT (z<|G w) 2 ds ch cs br.size (by simp;omega)) trivial br.size ?slt (λbc ef ee=>RB w (bc.map<|λeo=>Value.iface 224 eo.2) ef ee) (λ_ _ _ _=>False) (λbf=>bf=z (G w)) dd ?sb ?lt ?st (λ_ _ _ _ _ _ h=>h.elim) ?body ?done ?stop;case geval=>rfl
 (case slt=>rintro bf av;omega);(case sb=>rintro bf av eu;omega);(case lt=>intro bc ef ee h bf Q;exact h.lt bf Q);(case st=>intro bc ef ee u T h t o;refine h.stays t<|λbf Q=>⟨(o bf Q).1,?_⟩;rcases(o bf Q).2 with av|av|av;omega;exact av.elim;omega);(case stop=>intro ck av bc ef ee _ h;exact h.elim)
 case body=>
  intro lr bc cj ef ee bm T ao t hC _;obtain⟨xi,xv⟩:=cj;obtain⟨C,u⟩:∃C,bc.map (λeo=>Value.iface 224 eo.2)=C:=⟨_,rfl⟩;have W:y C<=100000000:=by
   have:=t.length_le;rw[<-u];simp only[cV,af,ay,cK]at this|-;have hb:∀(a:iV)au,y (bk a au)=au:=λa au=>by induction au with|zero=>rfl|succ au ih=>simp[bk,ih]
   rw[hb]at this;omega
  rw[u]at hC;obtain⟨HC,ad,an⟩:=dB hC u t;clear hC t u;obtain⟨NN,v⟩:∃NN,y C=NN:=⟨_,rfl⟩;have i:=U v;unfold WN;simp only;gi_wp2;refine⟨Z.refl _ _,λW2 o=>?_⟩;have g:RB w C ef W2:=HC.stays o (λbf Q=>by subst Q;exact⟨T,by omega⟩);obtain⟨ed,k,b,j⟩:=g.row;rw[v]at b;have ba:aS W2 (R (z<|G w) 0)=H ed:=k.cell;have bh:W2.frozen? (R (z<|G w) 0)=bE:=k.free;obtain⟨ex,ec,O⟩:=aB b;have F:=aj k;have bd:NN<=100000000:=by omega
  obtain⟨cl,P,f,p,ac⟩:=jR g k b j o;clear g k b j o W v;subst O;gi_wp2_with(first
   |(gi_at_builtin;refine dY _ rfl (.tmp 27) (.tmp 30) 176 rfl (z (G w)+1) 205 i0 .nilIface 1 16 underlying176 bx bT ca bs rfl (by decide) (.slice ex NN ec) NN C rfl (aR f (.cells #[Value.iface 224 xv] 205)) (R (z (G W2)) 0) 1 1 [Value.iface 224 xv] rfl rfl (vp _ _ _) (TS rfl) (by omega) (by omega) (by simp;omega) ?_;intro cp w3 a d;obtain⟨bl,bi,rfl⟩:=aB a;have c:dV w3 (z (G w)) (.slice ex NN ec) 176:=(d.grown.block _ (aj (P.alloc (.cells #[Value.iface 224 xv] 205))) (λav=>by have:=(f.lt _ av.symm).1;omega)).trans (P.alloc _);have D:=c.cell;have E:=c.free;clear c;have A:=U a;have B:=U d;clear a d))
  obtain⟨B',q1,q2,q3⟩:=cl.more (x:=Value.iface 224 xv) P p (by rw[ae i];exact f) B (by rw[ae i];exact A);have o:=ae ac;have bs:=o.size;have al:Z (λbf=>ef bf\/bf=lr) ee W2:=o.mono<|λbf Q=>.inl<|.inr Q;refine⟨trivial,B',?_,al.trans q2<|λbf Q=>.inl<|.inl Q,q2.block lr (by omega) T,λbf Q=>?_⟩
  .show RB w ((bc++[(xi,xv)]).map<|λeo=>Value.iface 224 eo.2) B' _;rw[aM,ae ad];exact q1
  .rcases q3 bf Q with av|av
   .exact .inl av
   .exact .inr<|by omega
 case done=>
  intro ck B1 W1 ey hC bo _ hK;have eb:(bk (e.map bI.ptr)<|y<|e.map bI.ptr).map (λeo=>Value.iface 224 eo.2)=(e.map Nk).reverse:=by
   rw[cV,Vk e _<|ah _,bN]
  rw[eb]at hC;obtain⟨W,ac⟩:∃NN,y (e.map Nk).reverse=NN:=⟨_,rfl⟩;have dk:W<=100000000:=by rw[<-ac];simpa using en
  have t:(e.map Nk).reverse++[FE (I x1 (y q) K,q)]++[FE (I x2 (y r) L,r)]++[FE (I x3 (y s) N,s)]=qA (I x0 (y e) ax,e) (I x1 (y q) K,q) (I x2 (y r) L,r) (I x3 (y s) N,s):=rfl;unfold FE at t;simp only at t;generalize(e.map Nk).reverse=bt at hC ac t;have C:=U hC;have o:=U hK;clear hC hK eb;clear bg ds dv ch dd br;gi_wp2;rw[roundsIn_succ];have dx:aS W1 (R lb<|lo+1)=H (I x1 (y q) K):=C.ar.cell cl id cm;gi_wp2;rename_i QQ KK x;apply CS KK
  .intro bb;refine sj.2 ?_;go_region
   all_goals exact bb
  apply x;clear x dx;have g:RB w bt B1 W1.drew:=C.stays (bX az W1) cG;have u:W1.drew.heap[ck]?=H (.deferred<|H []):=ae o;generalize W1.drew=U1 at g u|-;clear C o;obtain⟨ed,k,b,j⟩:=g.row;rw[ac]at b;have ba:aS U1 (R (z<|G w) 0)=H ed:=k.cell;have bh:U1.frozen? (R (z<|G w) 0)=bE:=k.free;obtain⟨cM,cx,O⟩:=aB b;have F:=aj k;obtain⟨P,f,p,C,bd,i⟩:=kF k b j g u ac;clear k b j g u ac;subst O;gi_wp2_with(first
   |(gi_at_builtin;refine dY _ rfl (.tmp 18) (.tmp 21) 176 rfl (z (G w)+1) 205 i0 .nilIface 1 16 underlying176 bx bT ca bs rfl (by decide) (.slice cM W cx) W bt rfl (aR f (.cells #[Value.iface 105 (.slice x1 (y q) K)] 205)) (R (z (G U1)) 0) 1 1 [Value.iface 105 (.slice x1 (y q) K)] rfl rfl (vp _ _ _) (TS rfl) (by omega) (by omega) (by simp;omega) ?_;intro cp w3 a d;obtain⟨bl,bi,rfl⟩:=aB a;have c:dV w3 (z (G w)) (.slice cM W cx) 176:=(d.grown.block _ (aj (P.alloc (.cells #[Value.iface 105 (.slice x1 (y q) K)] 205))) (λav=>by have:=(f.lt _ av.symm).1;omega)).trans (P.alloc _);have D:=c.cell;have E:=c.free;clear c;have A:=U a;have B:=U d;clear a d))
  obtain⟨B2,q1,q2,q3⟩:=C.more (x:=Value.iface 105<|I x1 (y q) K) P p (by rw[ae i];exact f) B (by rw[ae i];exact A);have bp:¬B2 ck:=λav=>(q3 ck av).elim bo (λeu=>by have:=aj bd;omega);have v:=(q2.block ck (aj bd) bo).trans bd;generalize bZ w3 (R (z<|G w) 0) (I bl (W+1) bi)=W2 at q1 v|-;have ad:y (bt++[Value.iface 105<|I x1 (y q) K])=W+1:=by rw[af,ae i];rfl
  generalize bt++[Value.iface 105<|I x1 (y q) K]=bu at q1 ad t;have bm:=U q1;have cu:=U v;have cd:W+1<=100000000+1:=by omega
  clear q1 q2 q3 v P f p C bd i B A bo F dk D E;clear ba bh;obtain⟨ao,an⟩:∃cj,W+1=cj:=⟨_,rfl⟩;rw[an]at ad cd;clear an;rw[roundsIn_succ];have dT:aS W2 (R lb<|lo+2)=H (I x2 (y r) L):=bm.ar.cell eg id cm;gi_wp2;rename_i QQ KK x;apply CS KK
  .intro bb;refine sj.2 ?_;go_region
   all_goals exact bb
  apply x;clear x dT;have g:RB w bu B2 W2.drew:=bm.stays (bX az W2) cG;have u:W2.drew.heap[ck]?=H (.deferred<|H []):=ae cu;generalize W2.drew=U2 at g u|-;clear bm cu;obtain⟨ed,k,b,j⟩:=g.row;rw[ad]at b;have ba:aS U2 (R (z<|G w) 0)=H ed:=k.cell;have bh:U2.frozen? (R (z<|G w) 0)=bE:=k.free;obtain⟨cT,cB,O⟩:=aB b;have F:=aj k;obtain⟨P,f,p,T,o,i⟩:=kF k b j g u ad;clear k b j g u ad;subst O;gi_wp2_with(first
   |(gi_at_builtin;refine dY _ rfl (.tmp 18) (.tmp 21) 176 rfl (z (G w)+1) 205 i0 .nilIface 1 16 underlying176 bx bT ca bs rfl (by decide) (.slice cT ao cB) ao bu rfl (aR f (.cells #[Value.iface 105 (.slice x2 (y r) L)] 205)) (R (z (G U2)) 0) 1 1 [Value.iface 105 (.slice x2 (y r) L)] rfl rfl (vp _ _ _) (TS rfl) (by omega) (by omega) (by simp;omega) ?_;intro cp w3 a d;obtain⟨bl,bi,rfl⟩:=aB a;have c:dV w3 (z (G w)) (.slice cT ao cB) 176:=(d.grown.block _ (aj (P.alloc (.cells #[Value.iface 105 (.slice x2 (y r) L)] 205))) (λav=>by have:=(f.lt _ av.symm).1;omega)).trans (P.alloc _);have D:=c.cell;have E:=c.free;clear c;have A:=U a;have B:=U d;clear a d))
  obtain⟨B3,q1,q2,q3⟩:=T.more (x:=Value.iface 105<|I x2 (y r) L) P p (by rw[ae i];exact f) B (by rw[ae i];exact A);have bq:¬B3 ck:=λav=>(q3 ck av).elim bp (λeu=>by have:=aj o;omega);have v:=(q2.block ck (aj o) bp).trans o;generalize bZ w3 (R (z<|G w) 0) (I bl (ao+1) bi)=W3 at q1 v|-;have al:y (bu++[Value.iface 105<|I x2 (y r) L])=ao+1:=by rw[af,ae i];rfl
  generalize bu++[Value.iface 105<|I x2 (y r) L]=bv at q1 al t;have bn:=U q1;have cv:=U v;have ce:ao+1<=100000000+2:=by omega
  clear q1 q2 q3 v P f p T o i B A bp F cd D E;clear ba bh;obtain⟨au,an⟩:∃cj,ao+1=cj:=⟨_,rfl⟩;rw[an]at al ce;clear an;rw[roundsIn_succ];have ea:aS W3 (R lb<|lo+3)=H (I x3 (y s) N):=bn.ar.cell ei id cm;gi_wp2;rename_i QQ KK x;apply CS KK
  .intro bb;refine sj.2 ?_;go_region
   all_goals exact bb
  apply x;clear x ea;have g:RB w bv B3 W3.drew:=bn.stays (bX az W3) cG;have u:W3.drew.heap[ck]?=H (.deferred<|H []):=ae cv;generalize W3.drew=U3 at g u|-;clear bn cv;obtain⟨ed,k,b,j⟩:=g.row;rw[al]at b;have ba:aS U3 (R (z<|G w) 0)=H ed:=k.cell;have bh:U3.frozen? (R (z<|G w) 0)=bE:=k.free;obtain⟨db,cE,O⟩:=aB b;have F:=aj k;obtain⟨P,f,p,T,o,i⟩:=kF k b j g u al;clear k b j g u al;subst O;gi_wp2_with(first
   |(gi_at_builtin;refine dY _ rfl (.tmp 18) (.tmp 21) 176 rfl (z (G w)+1) 205 i0 .nilIface 1 16 underlying176 bx bT ca bs rfl (by decide) (.slice db au cE) au bv rfl (aR f (.cells #[Value.iface 105 (.slice x3 (y s) N)] 205)) (R (z (G U3)) 0) 1 1 [Value.iface 105 (.slice x3 (y s) N)] rfl rfl (vp _ _ _) (TS rfl) (by omega) (by omega) (by simp;omega) ?_;intro cp w3 a d;obtain⟨bl,bi,rfl⟩:=aB a;have c:dV w3 (z (G w)) (.slice db au cE) 176:=(d.grown.block _ (aj (P.alloc (.cells #[Value.iface 105 (.slice x3 (y s) N)] 205))) (λav=>by have:=(f.lt _ av.symm).1;omega)).trans (P.alloc _);have D:=c.cell;have E:=c.free;clear c;have A:=U a;have B:=U d;clear a d))
  obtain⟨B4,q1,q2,q3⟩:=T.more (x:=Value.iface 105<|I x3 (y s) N) P p (by rw[ae i];exact f) B (by rw[ae i];exact A);have dc:¬B4 ck:=λav=>(q3 ck av).elim bq (λeu=>by have:=aj o;omega);have v:=(q2.block ck (aj o) bq).trans o;generalize bZ w3 (R (z<|G w) 0) (I bl (au+1) bi)=W4 at q1 v|-;have cc:y (bv++[Value.iface 105<|I x3 (y s) N])=au+1:=by rw[af,ae i];rfl
  generalize bv++[Value.iface 105<|I x3 (y s) N]=es at q1 cc t;have cb:=U q1;have ej:=U v;have dm:au+1<=100000000+3:=by omega
  clear q1 q2 q3 v P f p T o i B A bq F ce D E;clear ba bh;obtain⟨eq,an⟩:∃cj,au+1=cj:=⟨_,rfl⟩;rw[an]at cc dm;clear an;rw[roundsIn_succ];obtain⟨ed,k,b,j⟩:=cb.row;have ba:aS W4 (R (z<|G w) 0)=H ed:=k.cell;obtain⟨ex,ev,O⟩:=aB b;have f:=U b;have p:=U j;subst O;clear k b j;gi_wp2;have ec:=gE W4 ck<|.deferred none;refine⟨by simp,.inl ⟨_,_,rfl,run_takeDeferred ej,?_⟩⟩;refine⟨_,gL rfl _ _ _,?_⟩;have b:=ae f;have hB:=ae p;rw[t]at b hB;have hx:=ec.own b<|λbf Q av=>dc<|(hB ck).2<|.inr (by rw[<-av];exact Q);refine⟨_,rfl,?_,cb.ar.trans ec<|λbf Q=>.inr (by subst Q;omega)⟩;obtain⟨h1,⟨h2,h0⟩|⟨fd,et,el,h2,hb,co⟩⟩:=hx
  .exact⟨h1,.inl ⟨h2,h0⟩⟩
  .exact⟨h1,.inr ⟨fd,et,el,h2,by omega,co⟩⟩
end
def De.ar{w w':Y}{d:cr (aa×cP)}{S:fI}(h:De w b c d)(g:Z S w w')(j:¬S b)(l:∀i(a:i<y d),∀k,bV d[i].1=H k->¬S k):De w' b c d:=⟨h.len,λi a=>g.cell (h.cell i a) j h.lt,λi a=>g.row (h.row i a)<|λk e=>⟨l i a k e,h.pE i a k e⟩,λi a k e=>ag (h.pE i a k e) g.size,h.small⟩
def pm{f:Addr}(n:a.ownsRow b c 1 (I (H f) g l) g x):∀k u,x[k]?=H u->aS a (f.add k)=H u:=by
 intro k u d;obtain⟨o,⟨e,_⟩|⟨t,m,h,e,p,i,r,q,s,j⟩⟩:=n;cases e;cases e;rw[du,bR i,cR];rw[<-j,mD]at d;split at d;simpa using d;cases d
def zV(a:aa)(b c d e:aa×cP):iV:=.iface 102 a::qA b c d e
def Kr(q r s t:aa×cP)(h:bK a b n m)(f:Option Addr)(e d:M)(N:n.memory=I f e d)(hl:De a b 10 [q,r,s,t]):cw bF 87 #[aw b] a λbd w'=>∃v',bd=aO v'/\w'.ownsRow (z<|G a) 205 1 v' (y (qA q r s t)+1) (zV n.memory q r s t)/\Z az a w':=by
 obtain⟨i0,ad,an,ao,au⟩:=cz Jb;have x:=bK.cellAt h 7 rfl;have o:=aj h;have l:=U<|λW(Q:Z az a W)=>NS (w:=W) (lb:=b) (lo:=10) q r s t<|hl.ar Q id<|λ_ _ _ _=>id;have K:y (qA q r s t)<=100000003/\1<=y (qA q r s t):=by have:=hl.small;simp[qA,ma]at this|-;omega
 have O:∀k∈qA q r s t,k.oneCell'=bU:=by intro k c;simp only[qA,ak,iY,aY,bG]at c;rcases c with((⟨p,_,rfl⟩|rfl)|rfl)|rfl<;>rfl
 obtain⟨av,hn⟩:∃av,y (qA q r s t)=av:=⟨_,rfl⟩;rw[hn]at K;unfold zV;rw[N]at x|-;generalize bf:qA q r s t=VS at*;clear h hl N;go_in
 go_wp2_with fail
 rename_i QQ KK E;refine cg (λw=>aS w (R b 7)=H (I f e d)) 11 (by kernel_rfl) ?_;have C:aS a.drew (R b 7)=H (I f e d):=x;refine cQ 0 ?_;iterate 5 (refine eE (v:=?_) C rfl (by kernel_rfl) iO rfl ?_ ?_;rotate_left;(focus(intro w hX;go_simp;try rfl));simp only[Act.put,cX,Nat.reduceAdd])
 apply eh;refine cQ 6 ?_;iterate 3 (refine eE (v:=?_) C rfl (by kernel_rfl) iO rfl ?_ ?_;rotate_left;(focus(intro w hX;go_simp;try rfl));simp only[Act.put,cX,Nat.reduceAdd])
 apply eh;have u:∀(W:Y)(T:M),W.heap[T]?=H (aq #[.iface 102<|I f e d] 205 (0,0))->z (G a)<=T->W.ownsRow (z<|G a) 205 1 (bC T 0 1 1) 1 [.iface 102<|I f e d]:=by intro W T hb c;exact⟨rfl,.inr ⟨T,1,#[.iface 102<|I f e d],rfl,c,hb,ah _,by unfold maxLen;omega,rfl,rfl⟩⟩
 refine tN (α:=M×aa) (λV W=>Z az a W/\W.heap[V.1]?=H (aq #[.iface 102<|I f e d] 205 (0,0))/\z (G a)<=V.1/\W.ownsRow (z<|G a) 205 1 V.2 av VS/\bV V.2≠H V.1) (λV=>{tmps:=#[aw b,iC,aK,aw b,aw b,fh<|H<|R b 7,I f e d,.iface 102<|I f e d,bC V.1 0 1 1,aw b,aw b,fh<|H<|R b 10,V.2,iC],defers:=[]}) #[true,true,true,true,true,true,true,true,true,true,false,false] 2 ?_ ?_;(.intro P;refine sK (i:=5) (j:=9) rfl rfl rfl rfl (by kernel_rfl) ?_ ?_;(.intro al hK;go_simp;have A:Z az a (ct a<|aq #[.iface 102<|I f e d] 205).drew:=((Z.refl az a).alloc _).of_heap rfl;have F:(ct a<|aq #[.iface 102<|I f e d] 205).drew.heap[z<|G a]?=H (aq #[.iface 102<|I f e d] 205 (0,0)):=aC (w:=a) _ rfl;refine hK _ _ (λ_=>A.cell x id o) ?_;refine aJ (i:=9) rfl rfl (by kernel_rfl) ?_;intro K2 g;go_simp;apply(l _ A).mono;rintro bd S⟨v1,rfl,c,p⟩;have ac:=(p.block _ (aj F) id).trans F;have k:=A.ci p;refine g _ _ (λ_=>k.cell x id o) ?_;have L:=λm a=>(c.lt m a).1;simp at L;refine jX (P (z<|G a,v1) S ⟨k,ac,ah _,?_,?_⟩) (by kernel_rfl);rw[hn]at c;obtain⟨q1,⟨q2,q0⟩|⟨bh,cp,D,q2,qb,B⟩⟩:=c;exact⟨q1,.inl ⟨q2,q0⟩⟩;exact⟨q1,.inr ⟨bh,cp,D,q2,by simp at qb;omega,B⟩⟩;intro bb;have:=L _ bb;omega);intro al hK;go_simp;apply(l _<|bX _ a).mono;rintro bd S⟨v1,rfl,c,p⟩;have k:Z az a S:=(bX az a).ci p;refine hK _ _ (λ_=>k.cell x id o) ?_;refine aJ (i:=5) rfl rfl (by kernel_rfl) ?_;intro K2 g;go_simp;have A:=k.alloc<|aq #[.iface 102<|I f e d] 205;refine g _ _ (λ_=>A.cell x id o) ?_;refine jX (P (z<|G S,v1) _ ⟨A,aC _ rfl,k.size,?_,?_⟩) (by kernel_rfl);rw[hn]at c;exact aR c _;intro bb;have:=(c.lt _ bb).2;omega);rintro⟨T,ax⟩W⟨Q,hb,L,P,bg⟩;have B:=u W T hb L;(obtain⟨ba,c,rfl⟩:∃a bb,ax=I (H a) av bb:=by rcases P.2 with⟨_,h0⟩|⟨bh,bc,D,h2,_⟩;omega;exact⟨_,_,h2⟩);refine aJ (i:=10) rfl rfl (by kernel_rfl) ?_;intro K2 g;simp only[dp,cD,cN];refine kE (.tmp 8) (.tmp 12) 176 rfl (z<|G a) 205 i0 .nilIface 1 16 underlying176 ad an ao au rfl (by decide) (bC T 0 1 1) 1 [.iface 102<|I f e d] rfl B ba av c VS rfl P.1 ?_ O (by omega) (by omega) Q.size ?_;exact pm P;intro v3 w3 p F;obtain⟨x3,c3,al⟩:=aB p;subst al;have k:Z az a w3:=Q.trans (fi F.grown) (by rintro m rfl;exact .inr L);refine g _ _ (λ_=>k.cell x id o) ?_;simp only[Act.put,cX];refine aJ (i:=11) rfl rfl (by kernel_rfl) ?_;intro K3 A;go_simp;refine A _ _ wu ?_;refine cO (by kernel_rfl) ?_ _;show KK _ _;apply E;have S:=U p;have ac:=U k;clear E g A p F k B P u;go_wp2;go_ret;refine⟨_,rfl,?_,ac⟩;rw[show av+1=1+av from vz _ _];exact S
def EU{lg:cr (aa×cP)}{eq:aa->aa->Array aa}(dv e j:M)(ac xa xd:Option Addr)(gi hQ na dT nd ea:M)(ca bg:cP)(h1:sh r c (bC dv e (y i) j) i a)(hA:y i<=j)(kq:0<y i)(h2:sh r c (I ac gi hQ) p a)(hH:Row a 1 (I xa na dT) (y ca) (ca.map bI.ptr))(hI:Row a 1 (I xd nd ea) (y bg) (bg.map bI.ptr))(fe:∀k,bV (I xa na dT)=H k->k<c/\¬r.F k)(fl:∀k,bV (I xd nd ea)=H k->k<c/\¬r.F k)(lm:r.D a)(s:c<=z (G a))(hF:∀k,r.F k->k<c)(lo:Steps a)(hv:1<c/\¬r.F 1)(mv:y i+y p+y ca+y bg<=1000000)(kn:sg p<=1000000000)(d:Bool)(hi:(b=1/\m=1/\F=3/\V=#[I xa na dT,bC dv e (y i) j,I ac gi hQ,I xd nd ea]/\lg=[((I xa na dT:aa),ca),(bC dv e (y i) j,i),(I ac gi hQ,p),(I xd nd ea,bg)]/\eq=(λmK gi=>#[I xa na dT,mK,gi,I xd nd ea])/\d=bg.isEmpty)\/(b=2/\m=2/\F=4/\V=#[I xa na dT,I xd nd ea,bC dv e (y i) j,I ac gi hQ]/\lg=[((I xa na dT:aa),ca),(I xd nd ea,bg),(bC dv e (y i) j,i),(I ac gi hQ,p)]/\eq=(λmK gi=>#[I xa na dT,I xd nd ea,mK,gi])/\d=bU))(ls:∀o(hj:o<y i),∀ws:cP,ws.Sublist p->dQ (di<|cf ws::[i[o]].map bI.all)/\(∀nb∈di (cf ws::[i[o]].map bI.all),nb.Good)/\y (di<|cf ws::[i[o]].map bI.all)<=1000000)(Q:eK)(mx:Option Addr)(mc:M)(lp:Row a 1 (I mx (y Q) mc) (y Q) (Q.map<|Value.int .u64))(hE:∀k,bV (I mx (y Q) mc)=H k->k<c/\¬r.F k)(hC:y Q<=4):cw bF 120 #[eD V,am m,I mx (y Q) mc] a λad t=>∃xl nl hk xm w hl,∃tm:cP,∃o,∃hj:o<y i,∃A q,ad=aO (dA #[eD<|eq (I xl nl hk)<|I xm w hl,.nilIface])/\Fq p (iX i[o].ks) (iU i[o].ks) A q/\t.ownsRow (z<|G a) 224 1 (I xl nl hk) (y<|i.take o++i.drop (o+1)) ((i.take o++i.drop (o+1)).map bI.ptr)/\t.ownsRow (z<|G a) 224 1 (I xm w hl) (y<|p.take A++tm++p.drop q) ((p.take A++tm++p.drop q).map bI.ptr)/\tm.map bI.all=iz (rC Q d [i[o]]<|(p.drop A).take<|q-A)/\uy t (z<|G a) tm/\r.D t/\Z r.F a t:=by
 have hW:Z az a (ct (ct a<|aq V 107)<|aq #[aK,aK,aK,aK] 107):=((Z.refl _ a).alloc _).alloc _;generalize cu:ct (ct a<|aq V 107) (aq #[aK,aK,aK,aK] 107)=bh at hW;have bf:bh.heap[z<|G a]?=H (aq V 107 (0,0)):=by rw[<-cu];exact(fX _<|by simp).trans<|aC _ rfl
 have hn:bh.heap[z (G a)+1]?=H (aq #[aK,aK,aK,aK] 107 (0,0)):=by rw[<-cu];exact aC _<|by simp
 have cT:∀k,c<=k->¬r.F k:=λk f hh=>by have:=hF k hh;omega
 have fn:∀l,Z r.F bh l->De l (z<|G a) 0 lg:=by
  intro l O;have bb:∀ds b,Row a 1 ds (y b) (b.map bI.ptr)->(∀k,bV ds=H k->k<c/\¬r.F k)->Row l 1 ds (y b) (b.map bI.ptr):=λds b mp f=>
   O.row (hW.row mp<|λk ad=>⟨id,ag (f k ad).1 s⟩) (λk ad=>⟨(f k ad).2,ag (f k ad).1<|aD s hW.size⟩)
  have hT:z (G a)<=z (G l):=aD hW.size O.size;have P:∀b ds,V[b]?=H ds->aS l (R (z<|G a)<|0+b)=H ds:=by
   intro b ds kv;refine O.cell ?_ (cT _ s)<|aj bf;rw[bR bf,cR];exact kv
  rcases hi with⟨_,_,_,rfl,rfl,_⟩|⟨_,_,_,rfl,rfl,_⟩;all_goals
   refine⟨rfl,λb hi=>?_,λb hi=>?_,λb hi k f=>?_,by simp[ma];omega⟩
   .match b,hi with
    |0,_|1,_|2,_|3,_=>exact P _ _ rfl
   .match b,hi with
    |0,_|1,_|2,_|3,_=>first|exact bb _ _ hH fe|exact bb _ _ h1.row h1.loc|exact bb _ _ h2.row h2.loc|exact bb _ _ hI fl
   .match b,hi with
    |0,_|1,_|2,_|3,_=>first|exact ag (fe k f).1 (aD s hT)|exact ag (h1.loc k f).1 (aD s hT)|exact ag (h2.loc k f).1 (aD s hT)|exact ag (fl k f).1<|aD s hT
 have kt:∃S1 S2:Y->Prop,(∀l,Z r.F bh l->S1 l/\S2 l)/\(∀g,S1 g->aS g (R (z<|G a) b)=H (bC dv e (y i) j))/\∀g,S2 g->aS g (R (z<|G a)<|b+1)=H (I ac gi hQ):=by refine⟨_,_,λl O=>?_,λg h=>h,λg h=>h⟩;(have P:∀b ds,V[b]?=H ds->aS l (R (z<|G a) b)=H ds:=by intro b ds kv;refine O.cell ?_ (cT _ s)<|aj bf;rw[bR bf];exact kv);rcases hi with⟨rfl,_,_,rfl,_⟩|⟨rfl,_,_,rfl,_⟩<;>exact⟨P _ _ rfl,P _ _ rfl⟩
 obtain⟨S1,S2,hR,fd,cv⟩:=kt;have gc:=hW.size;have co:∀l,Z az bh l->jJ r c az a l:=λl ht=>(hW.ci ht).same s cG cG;have hS:m=(b:M)/\F=(b+2:M)/\(b=1\/b=2)/\jU lg (b+2)=d:=by rcases hi with⟨rfl,rfl,rfl,_,rfl,_,rfl⟩|⟨rfl,rfl,rfl,_,rfl,_,rfl⟩;exact⟨rfl,rfl,.inl rfl,by simp[jU]⟩;exact⟨rfl,rfl,.inr rfl,by simp[jU]⟩
 have br:∀q,cw bF 174 #[aw<|z<|G a,am m] (bh.drewN q) λad t=>∃o:M,ad=aO (am o)/\o<y i/\Z az bh t:=by intro q;have bb:=gP az bh q;have hT:=fn _<|bb.mono cG;rw[hS.1];refine(IP (w:=(bh.drewN q)) (z<|G a) 0 b (ts1:=i) (by omega) (by rw[cR];exact fd _ (hR _<|bb.mono cG).1) (by rw[cR];exact cv _ (hR _<|bb.mono cG).2) hT.lt ((h1.same<|co _ bb).mem<|aD s gc) ((h2.same<|co _ bb).mem<|aD s gc) h2.side.Ap kq kn).mono ?_;rintro ad t⟨o,rfl,hj,mp⟩;exact⟨o,rfl,hj,bb.ci<|Z.aT (S:=az) mp⟩
 have D:∀l,Z r.F bh l->cw bF 179 #[aw<|z<|G a,am F] l λad t=>ad=aO (aL d)/\t=l:=by intro l O;have h:=Co (b+2) lg (fn l O) (by omega);rw[hS.2.2.2]at h;rw[hS.2.1];exact h
 clear hS;obtain⟨ek,gj,hY,HC,it,HW,cj,jD,bm⟩:=xH bf hn D hR br hW cT cu co;obtain⟨H1,H2,HD,HF,HT,eo,ip,HM,em⟩:=xH h1 h2 lm hF lo hv ls lp hE;clear h1 h2 hH hI fe fl lm hF lo hv ls lp hE bf hn fn br hW cT cu co D hR;rcases hi with⟨rfl,rfl,rfl,rfl,rfl,rfl,ei⟩|⟨rfl,rfl,rfl,rfl,rfl,rfl,ei⟩
 all_goals
  clear ei;simp only[Nat.reduceAdd]at cv;have he:=U fd;have ch:=U cv;clear fd cv;go_in
  go_wp2_with fail
  go_quiet(fail)
  rw[ae jD];have br:=it nq;go_wp2_with fail
  apply br.mono;rintro ad w1⟨o,rfl,hj,fz⟩;have kk:=he w1 (HC w1<|fz.mono cG).1;have x:=U fz;clear fz br;obtain⟨j1,cE⟩:∃j1,o+1=j1:=⟨_,rfl⟩;have e1:(o:X)+1=(j1:X):=by omega
  have e2:(o:X)<=(j1:X):=by omega
  have e3:(j1:X)<=(j:X):=by omega
  have e4:(j1:X)<=(y i:X):=by omega
  have e5:(o:X)<=(j:X):=by omega
  have e6:¬(j=o):=by omega
  have e7:¬(j-o=0):=by omega
  have e8:IntKind.i64.wrap (j1:X)=(j1:X):=by rw[bO];omega
  have e9:(0:X)<=(o:X):=by omega
  have mn:(y i:X)<=(j:X):=by omega
  have mo:j1-o=1:=by omega
  have HJ:=U cE;clear cE;have ln:S1 w1.drew:=(HC _<|(x.ci<|bX az w1).mono cG).1;go_wp2_with fail
  rename_i QQ KK hs;refine cg S1 21 (by kernel_rfl) ?_;refine cQ 0 ?_;iterate 18 (refine eE (v:=?_) ln rfl (by kernel_rfl) iO rfl ?_ ?_;rotate_left;(focus(intro g hX;have z0:=he g hX;go_simp;try rfl));simp only[Act.put,cX,Nat.reduceAdd])
  apply eh;refine aJ (i:=18) rfl rfl (by kernel_rfl) ?_;intro jE al;go_simp;have ex:kZ w1 (bC dv e (y i) j) i:=((H1.same<|bm w1 x).mem<|aD s<|aD gc x.size);have ms:=x.size;have L:=WD (w1:=w1) (ta:=(i.take o)) (tbqq:=(i.drop j1)) (z<|G a) (ex.take o<|by omega) (Uj ex hA (by have:=ae HJ;omega)) (by simp;omega) (by omega) 105;refine al _ _ (λ_=>?_) ?_
  .exact(HC _<|((x.alloc _).ci<|bX az _).mono cG).1
  refine aJ (i:=19) rfl rfl (by kernel_rfl) ?_;intro jG an;go_simp;apply L.mono;rintro ad u⟨vl,rfl,dc,dn⟩;obtain⟨nl,fr⟩:∃nl,y (i.take o++i.drop j1)=nl:=⟨_,rfl⟩;rw[fr]at dc;have iv:=U fr;clear fr;obtain⟨xl,hk,rfl⟩:=aB dc;have ey:S1 u:=(HC _<|(x.ci dn).mono cG).1;refine an _ _ (λ_=>ey) ?_;refine aJ (i:=20) rfl rfl (by kernel_rfl) ?_;intro md ee;go_simp;refine ee _ _ (λ_=>ey) ?_;refine aJ (i:=21) rfl rfl (by kernel_rfl) ?_;intro mg ef;go_simp;refine ef _ _ wu ?_;refine cO (by kernel_rfl) ?_ _;show KK _ _;apply hs;generalize(if j=j1 then H ((R dv e):Addr)else H (R dv<|e+j1))=zz at*;have v:Z az bh u:=x.ci dn;have N:=U v;have hc:=U dc;have mC:=v.size;have bp:kZ u (bC dv e (y i) j) i:=((H1.same<|bm u v).mem<|by omega);have kb:kZ u (I ac gi hQ) p:=((H2.same<|bm u v).mem<|by omega);have kl:=ch u (HC u<|v.mono cG).2;have hp:=bp.cell hj;have cB:∀bh,bh.heap=u.heap->cw bF 176 #[i[o].ptr] bh λad t=>ad=aO (J<|iX i[o].ks)/\t=bh:=λbh hW=>((bp.each _<|ap hj).of_heap hW).first;have cM:∀bh,bh.heap=u.heap->cw bF 177 #[i[o].ptr] bh λad t=>ad=aO (J<|iU i[o].ks)/\∃q,t=bh.drewN q:=λbh hW=>((bp.each _<|ap hj).of_heap hW).last;have hz:dv<z (G u):=bp.lt dv rfl;have jK:z (G a)<z (G u):=by have:=aj ek;omega
  have hcut:∀l,Z az u l->cw bF 175 #[I ac gi hQ,J<|iX i[o].ks,J<|iU i[o].ks] l λad t=>∃va vb vc,ad=aO (dA #[va,vb,vc])/\(∃A q,Fq p (iX i[o].ks) (iU i[o].ks) A q/\kZ t va (p.take A)/\kZ t vb ((p.drop A).take<|q-A)/\kZ t vc (p.drop q)/\(∀k,bV va=H k\/bV vb=H k\/bV vc=H k->bV (I ac gi hQ)=H k))/\Z az u t/\S2 t/\aS t (R dv<|e+o)=H i[o].ptr:=by
   intro l fb;refine(Ly (iX i[o].ks) (iU i[o].ks) ((H2.same<|bm l<|v.ci fb).mem (by have:=fb.size;omega)) H2.side.Ap).mono ?_;rintro ad t⟨A,q,va,vb,vc,rfl,a1,a2,a3,a4,a5,hy⟩;have fx:Z az u t:=fb.ci<|Z.aT (S:=az) hy;exact⟨va,vb,vc,rfl,⟨A,q,a1,a2,a3,a4,a5⟩,fx,(HC t<|(v.ci fx).mono cG).2,fx.cell hp id hz⟩
  clear hs al an ee ef L ex bp kb ln ey kk dc dn v;unfold bI.ptr at hp cB cM hcut;have hd:=U (show∃s1 s2 au,iX i[o].ks=s1/\iU i[o].ks=s2/\i[o].tb=au from⟨_,_,_,rfl,rfl,rfl⟩);obtain⟨s1,s2,au,cl,cm,bd⟩:=ae hd;rw[cl,cm,bd]at hcut;rw[cl,bd]at cB;rw[cm,bd]at cM;rw[bd]at hp;obtain⟨ih,il,lt⟩:=dB cl cm bd;clear cl cm bd hd;obtain⟨gr,bk,gk⟩:=dB cB cM hcut;clear cB cM hcut;have g1:IntKind.i64.wrap (2:X)=2:=by rw[bO];omega
  have g2:IntKind.i64.wrap (3:X)=3:=by rw[bO];omega
  have cs:S2 u.drew/\aS u.drew (R dv<|e+o)=H (aw au):=⟨(HC _<|(N.ci<|bX az u).mono cG).2,hp⟩;go_wp2_with fail
  rename_i Q6 K6;refine cg (λg=>S2 g/\aS g (R dv<|e+o)=H (aw au)) 19 (by kernel_rfl) ?_;refine cQ 0 ?_;iterate 7 (refine eE (v:=?_) cs rfl (by kernel_rfl) iO rfl ?_ ?_;rotate_left;(focus(intro g hX;obtain⟨cb,z1⟩:=hX;have z0:=ch g cb;go_simp;try rfl));simp only[Act.put,cX,Nat.reduceAdd])
  apply eh;refine cQ 8 ?_;iterate 3 (refine eE (v:=?_) cs rfl (by kernel_rfl) iO rfl ?_ ?_;rotate_left;(focus(intro g hX;obtain⟨cb,z1⟩:=hX;have z0:=ch g cb;go_simp;try rfl));simp only[Act.put,cX,Nat.reduceAdd])
  apply eh;refine aJ (i:=7) rfl rfl (by kernel_rfl) ?_;intro K7 hr;go_simp;apply(gr u.drew rfl).mono;rintro ad W⟨rfl,ky⟩;subst W;refine hr _ _ (λ_=>cs) ?_;refine aJ (i:=11) rfl rfl (by kernel_rfl) ?_;intro lv eb;go_simp;apply(bk u.drew rfl).mono;rintro ad W⟨rfl,qq,ky⟩;subst W;refine eb _ _ (λ_=>⟨(HC _<|((N.ci<|bX az u).ci<|gP az _ _).mono cG).2,hp⟩) ?_;refine aJ (i:=12) rfl rfl (by kernel_rfl) ?_;intro lx ec;go_simp;apply(gk (u.drewN<|1+qq)<|gP _ _ _).mono;rintro ad W⟨va,vb,vc,rfl,ko,fL,bt⟩;refine ec _ _ (λ_=>bt) ?_;refine cQ 13 ?_;iterate 4 (refine eE (v:=?_) bt rfl (by kernel_rfl) iO rfl ?_ ?_;rotate_left;(focus(intro g hX;obtain⟨cb,z1⟩:=hX;have z0:=ch g cb;go_simp;try rfl));simp only[Act.put,cX,Nat.reduceAdd])
  apply eh;refine aJ (i:=17) rfl rfl (by kernel_rfl) ?_;intro mb ed;go_simp;refine ed _ _ (λ_=>bt) ?_;refine aJ (i:=18) rfl rfl (by kernel_rfl) ?_;intro jE al;go_simp;refine al _ _ (λ_=>bt) ?_;refine aJ (i:=19) rfl rfl (by kernel_rfl) ?_;intro jG an;go_simp;refine an _ _ wu ?_;refine cO (by kernel_rfl) ?_ _;show K6 _ _;apply QQ;obtain⟨A,q,ho,et,cn,eu,ev⟩:=ko;clear QQ hr eb ec ed al an bt cs kl hp gr bk gk;obtain⟨lc,jH,hK⟩:=bL et.row;obtain⟨gg,es,hL⟩:=bL cn.row;obtain⟨le,jI,hM⟩:=bL eu.row;generalize y (p.take A)=kz at hK;generalize y ((p.drop A).take<|q-A)=ge at hL;generalize y (p.drop q)=la at hM;subst hK;subst hL;subst hM;have C:Z az bh W:=N.ci fL;have mE:=C.size;have bu:((p.drop A).take<|q-A).Sublist p:=(mZ _ _).trans<|kB _ _;have cp:=bm W C;obtain⟨fv,hJ,dk⟩:=ip o hj _ bu;have D:=λl(O:Z r.F W l)=>hY l<|(C.mono (T:=r.F) cG).trans O<|λ_ h=>.inl h;have hD:cw bF 178 #[bC dv (e+o) 1<|j-o,I gg ge es] W λad t=>∃a,ad=aO (dA #[a,.nilIface])/\t.ownsRow (z<|G W) 164 4 a (y<|di<|cf ((p.drop A).take<|q-A)::[i[o]].map bI.all) (aE<|di<|cf ((p.drop A).take<|q-A)::[i[o]].map bI.all)/\r.D t/\Z r.F W t:=by
   have hu:=H1.same cp;have kd:=H2.same cp;refine Es c dv (e+o) (j-o) (I gg ge es) [i[o]] ((p.drop A).take<|q-A) ?_ (H1.loc dv rfl) ?_ (by simp) ⟨cn.row,λk f=>H2.loc k<|ev k<|.inr<|.inl f,λnc ht=>kd.each nc<|bu.subset ht,H2.side.sub bu,cn.small⟩ (r.fm HD (HW.ci C) cG) (by omega) HF dk
   .intro b hi;obtain rfl:b=0:=by simp at hi;omega
    exact hu.cell hj
   .intro nc ht;rw[bG]at ht;subst ht;exact hu.each _<|ap hj
  have bT:Z az a W:=HW.ci C;obtain⟨cc,gA,av,bl,el⟩:=jR (GK (V:=r) (W:=W) (ms:=Q) (mx:=mx) (mc:=mc) (di<|cf ((p.drop A).take<|q-A)::[i[o]].map bI.all) (bT.row HM<|λk ad=>⟨id,ag (em k ad).1 s⟩) (λk ad=>⟨by have:=(em k ad).1;omega,(em k ad).2⟩) hC fv dk) (show∀l,Z r.F W l->Steps l fromλl ht k f=>ht.cell ((HT.same cp eo) k f) eo.2 (by have:=eo.1;omega)) (show dQ (rC Q d [i[o]]<|(p.drop A).take<|q-A)/\rN 5 (rC Q d [i[o]]<|(p.drop A).take<|q-A)/\(∀nb∈rC Q d [i[o]] ((p.drop A).take<|q-A),nb.Good)/\y (rC Q d [i[o]]<|(p.drop A).take<|q-A)<=1000000 from sU fv hJ dk hC) (show rC Q d [i[o]] ((p.drop A).take<|q-A)=if d then jj (eG Q<|di<|cf ((p.drop A).take<|q-A)::[i[o]].map bI.all)else eG Q (di<|cf ((p.drop A).take<|q-A)::[i[o]].map bI.all)from rfl) D;clear D fv hJ dk bT;generalize ka:di (cf ((p.drop A).take<|q-A)::[i[o]].map bI.all)=ML at*;clear ka;obtain⟨ck,bq⟩:∃ck,rC Q d [i[o]] ((p.drop A).take<|q-A)=ck:=⟨_,rfl⟩;rw[bq]at av bl;have hb:=U bq;clear bq;obtain⟨hV,bk,gt,jB,dx,iu⟩:=kF ho et eu C (fL.own hc<|λ_ _ hh=>hh) ev;clear ho et cn eu ev C cp fL hc;go_wp2_with fail
  apply hD.mono;rintro ad w1⟨lb,rfl,E,bo,K⟩;obtain⟨hO,hm,rfl⟩:=aB E;have hG:=cc.1 w1 _ hO hm K E;have bi:=U bo;have x:=U K;clear E bo K hD;go_wp2_with fail
  apply hG.mono;rintro ad u⟨vn,rfl,dd,ba⟩;have bv:Z r.F W u:=x.ci ba;have hq:=r.fm bi ba cG;obtain⟨xn,ll,rfl⟩:=aB dd;have D:=el u bv;have ff:=cc.2 u _ xn ll dd;have hN:=x.size;obtain⟨cd,N,en⟩:=dB hq bv dd;clear dd hq bv ba hG;cases d;case' false=>
   obtain rfl:ck=eG Q ML:=ae bl;clear ff cc bl;go_wp2_with fail
   apply D.mono;rintro ad gf⟨rfl,kx⟩;subst gf;clear D;obtain⟨ce,bn,gn⟩:=dB (eS (base':=z<|G W) en<|by omega) N cd;clear N cd en x bi el;generalize u=w5 at*
  case' true=>
   obtain rfl:ck=jj (eG Q ML):=ae bl;go_wp2_with fail
   apply D.mono;rintro ad gf⟨rfl,kx⟩;subst gf;go_wp2_with fail
   apply ff.mono;rintro ad w5⟨vb,rfl,fu,gb⟩;obtain⟨xn,ll,rfl⟩:=aB fu;obtain⟨ce,bn,gn⟩:=dB (eS (base':=z<|G W) fu (by have:=N.size;omega)) (N.ci gb)<|r.fm cd gb cG;clear fu gb D ff N cd en x bi el cc bl hN
  all_goals
   have ks:=yT (dF ce) av.1 av.2.1 av.2.2.1 av.2.2.2 (λk f=>(ce.lt k f).2)<|gA w5 bn;have kc:=av.2.2.2;clear ce gA av;go_wp2_with fail
   apply ks.mono;rintro ad w4⟨lb,tm,rfl,E,cx,db,ba⟩;have K:Z r.F W w4:=bn.ci ba;have bo:=r.fm gn ba cG;have db:=db.base (base':=z<|G W) bn.size;have E:=eS (base':=z<|G W) E bn.size;have dn:y tm<=1000000:=by
    have h1:=bS y cx;rw[cV]at h1;rw[h1];exact aD (xw _) kc
   rw[<-ae hb]at cx;clear ba;have bc:Z r.F bh w4:=(jB.mono (T:=r.F) cG).trans K<|λ_ h=>.inl h;obtain⟨hO,hm,rfl⟩:=aB E;have mI:=K.size;have hw:=(bc.block _ (aj ek)<|cj _ s).trans ek;have hx:=(bc.block _ (aj gj)<|cj _<|by omega).trans gj;have ao:∀k,bV (I lc kz jH)=H k\/bV (I gg ge es)=H k\/bV (I le la jI)=H k->k<c/\¬r.F k:=λk f=>H2.loc k<|iu k f;have L:=WC (p.take A) tm (p.drop q) (z<|G a) (K.row bk.row<|λk f=>⟨(ao k<|.inl f).2,bk.lt k f⟩) (λk f=>by have:=(ao k<|.inl f).1;omega) (dF E) (λk f=>(aF E k f).2) (K.row gt.row<|λk f=>⟨(ao k<|.inr<|.inr f).2,gt.lt k f⟩) (λk f=>by have:=(ao k<|.inr<|.inr f).1;omega) (by simp;omega) (by omega) 105;obtain⟨w,bs⟩:∃w,y (p.take A++tm++p.drop q)=w:=⟨_,rfl⟩;rw[bs]at L;have ha:=U bs;have eg:=K.own dx<|λk f=>cj k (by have:=((aF dx) k f).1;omega);obtain⟨gv,jA,bi,jC,hU,hf,hg⟩:=ww eg db bo bc cx hw hx;clear E cx db bo K bc hw hx bs eg ao;go_wp2_with fail
   apply L.mono;rintro ad w5⟨v5,rfl,fs,ax⟩;obtain⟨xm,hl,rfl⟩:=aB fs;have Av:=(ax.block _ (aj hf) id).trans hf;have B:=(ax.block _ (aj hg) id).trans hg;have p0:=cellAt Av 0 rfl;have f0:=dJ (i:=0) Av;have q0:=cellAt B 0 rfl;have k0:=dJ (i:=0) B;have p1:=cellAt Av 1 rfl;have f1:=dJ (i:=1) Av;have q1:=cellAt B 1 rfl;have k1:=dJ (i:=1) B;have p2:=cellAt Av 2 rfl;have f2:=dJ (i:=2) Av;have q2:=cellAt B 2 rfl;have k2:=dJ (i:=2) B;have p3:=cellAt Av 3 rfl;have f3:=dJ (i:=3) Av;have q3:=cellAt B 3 rfl;have k3:=dJ (i:=3) B;have gs:=U (show∀(i1 i2:M)(z1 z2 u0 u1 u2 u3:aa)(wf:Y),wf=bZ (bZ (bZ (bZ (bZ (bZ w5 (R (z<|G a) i1) z1) (R (z<|G a) i2) z2) (R (z (G a)+1) 0) u0) (R (z (G a)+1) 1) u1) (R (z (G a)+1) 2) u2) (R (z (G a)+1) 3) u3->wf.heap[z (G a)+1]?=H (aq #[u0,u1,u2,u3] 107 (0,0))/\wf.ownsRow (z<|G a) 224 1 (I xl nl hk) nl ((i.take o++i.drop j1).map bI.ptr)/\wf.ownsRow (z<|G a) 224 1 (I xm w hl) w ((p.take A++tm++p.drop q).map bI.ptr)/\uy wf (z<|G a) tm/\r.D wf/\Z r.F a wf from by
    rintro i1 i2 z1 z2 u0 u1 u2 u3 wf rfl;have mA:((bZ (bZ w5 (R (z<|G a) i1) z1) (R (z<|G a) i2) z2)).heap[z (G a)+1]?=H (aq #[aK,aK,aK,aK] 107 (0,0)):=(ir _<|by omega).trans<|(ir _<|by omega).trans B;have dm:Z (λk=>k=z (G a)\/k=z (G a)+1) w5 (bZ (bZ (bZ (bZ (bZ (bZ w5 (R (z<|G a) i1) z1) (R (z<|G a) i2) z2) (R (z (G a)+1) 0) u0) (R (z (G a)+1) 1) u1) (R (z (G a)+1) 2) u2) (R (z (G a)+1) 3) u3):=((((((Z.refl _ w5).setCell _ _ _<|.inl<|.inl rfl).setCell _ _ _<|.inl<|.inl rfl).setCell _ 0 _<|.inl<|.inr rfl).setCell _ 1 _<|.inl<|.inr rfl).setCell _ 2 _<|.inl<|.inr rfl).setCell _ 3 _<|.inl<|.inr rfl;have kf:=NR (a':=u0) (b':=u1) (c':=u2) (d':=u3) mA;generalize bZ (bZ (bZ (bZ (bZ (bZ w5 (R (z<|G a) i1) z1) (R (z<|G a) i2) z2) (R (z (G a)+1) 0) u0) (R (z (G a)+1) 1) u1) (R (z (G a)+1) 2) u2) (R (z (G a)+1) 3) u3=wf at*;have ej:∀k,(k=z (G a)\/k=z (G a)+1)->∃hP,w5.heap[k]?=H (aq hP 107 (0,0)):=by
     rintro k(rfl|rfl)
     .exact⟨_,Av⟩
     .exact⟨_,B⟩
    have bx:∀{ds n xs},w5.ownsRow (z<|G a) 224 1 ds n xs->wf.ownsRow (z<|G a) 224 1 ds n xs:=λlr=>dm.own lr (λk f hh=>by
     obtain⟨hP,fk⟩:=ej k hh;obtain⟨mm,hB⟩:=fD lr f;exact iq fk hB (by decide) rfl)
    refine⟨kf,bx<|ax.own gv<|λ_ _ hh=>hh,bx fs,?_,r.fm (r.fm bi ax cG) dm<|λk f=>cj k (by rcases f with hh|hh<;>omega),?_⟩
    .refine((jA.ar ax).other dm<|λk f=>?_).base (by omega);obtain⟨hP,fk⟩:=ej k f;exact⟨hP,_,_,fk,by decide,by decide,by decide⟩
    .exact(((HW.mono (T:=r.F) cG).trans jC (λ_ h=>.inl h)).ci ax).trans dm (λk f=>.inr (by rcases f with hh|hh<;>omega)))
   clear fs ax Av B L;go_wp2;obtain⟨r1,r2,r3,r4,r5,r6⟩:=gs _ _ _ _ _ _ _ _ _ rfl;refine cI (zk rfl _ _ (z (G a)+1) _ _ _ _ _ _ rfl r1 ⟨_,_,_,rfl⟩ ⟨_,_,_,rfl⟩ ⟨_,_,_,rfl⟩ ⟨_,_,_,rfl⟩) rfl ?_;have cE:=ae HJ;subst cE;refine⟨xl,nl,hk,xm,w,hl,tm,o,hj,A,q,rfl,?_,?_,?_,hU,r4,r5,r6⟩
   .rw[ae ih,ae il];exact hV
   .rw[ae iv];exact r2
   .rw[ae ha];exact r3
def qR(V:jm)(g:M)(h:aa)(e:cA)(w:Y):Prop:=∃t v f b,h=.iface t v/\(∀w,(Go.method 545 t v "Find").run bF w=.ok (f,b) w)/\Enters bF f/\∀a(d:X)w',jJ V g az w w'->V.D w'->cw bF f #[b,J a,aI d] w' λi c=>i=aO (tg<|iA d e a)/\V.D c/\Z V.F w' c
def Sc(v:aa)(w:Y):(Go.method 545 105 v "Find").run bF w=.ok (320,v) w:=by kernel_rfl
def Sb(v:aa)(w:Y):(Go.method 545 224 v "Find").run bF w=.ok (322,v) w:=by kernel_rfl
def UQ(v:aa)(w:Y):(Go.method 545 102 v "Find").run bF w=.ok (316,v) w:=by kernel_rfl
def qR.xC(j:sh r b d i a)(c:b<=z (G a))(hF:∀k,r.F k->k<b):qR r b (.iface 105 d) (cf i) a:=⟨_,d,_,d,rfl,Sc d,enters_of func320 (by kernel_rfl) rfl,λe g l f h=>RE e g (j.same f) h (aD c f.1) hF⟩
def qR.table(h:nG r b S.tb S.ks S.cs a)(c:b<=z (G a))(hF:∀k,r.F k->k<b):qR r b (.iface 224 S.ptr) S.all a:=⟨_,S.ptr,_,S.ptr,rfl,Sb S.ptr,enters_of func322 (by kernel_rfl) rfl,λd f i e g=>Ca d f (h.same e) g (aD c e.1) hF⟩
def ku.same{V:jm}{n0:M}(o:ku a d e)(l:jJ V n0 az a f)(m:∀i,bV d=Option.some i->i<n0/\¬V.F i):ku f d e:=by
 obtain⟨h,⟨rfl,j⟩|⟨n,b,c,rfl,g,k⟩⟩:=o;exact⟨h,.inl ⟨rfl,j⟩⟩;exact⟨h,.inr ⟨n,b,c,rfl,g,λo u j=>l.cell (.inr<|m n rfl)<|k o u j⟩⟩
def qR.list(o:ku a d e)(n:dQ e)(m:y e<=1000000000000)(j:∀i,bV d=H i->i<b/\¬r.F i)(g:b<=z (G a)):qR r b (.iface 102 d) e a:=by
 refine⟨_,d,_,d,rfl,UQ d,enters_of func316 (by kernel_rfl) rfl,λh k p c l=>?_⟩;apply(An h k (o.same c j) n m<|λi f=>ag (ag (j i f).1 g) c.1).mono;rintro s q⟨rfl,f⟩;exact⟨rfl,r.fm l (Z.aT (S:=az) f) cG,Z.aT f⟩
def wo(c:X)(b:ab)(a:cr (aa×cA)):Option E:=a.findSome?<|λr=>iA c r.2 b
def Wt:Option E->aa
 |some x=>.tuple #[.string x.val,.bool<|!x.del,.nilIface]
 |none=>.tuple #[.string ⟨#[]⟩,.bool bE,.nilIface]
def Tt{a:cr (aa×cA)}(h:b<y a)(c:wo m v (a.take b)=none):wo m v a=(iA m a[b].2 v).or (wo m v<|a.drop<|b+1):=by
 have e:a=a.take b++a[b]::a.drop (b+1):=by rw[<-bD h,bW]
 unfold wo at*;conv=>lhs;rw[e]
 rw[wC,c,rS];cases iA m a[b].2 v<;>rfl
def UO(w:Y)(c:M)(a:ab)(d:X)(e:¬(1<=a.size/\a.size<=8))(f:a.size<=140737488351232):cw bF 60 #[aw c,J a,aI d] w λi g=>i=aO (dA #[J ⟨#[]⟩,aL bE,lE 3])/\g=w:=by
 have b:=λW=>qL a W f;rw[wh e]at b;go_in
 go_wp2_with(go_at_call 69;refine(b _).mono ?_;rintro i j⟨rfl,rfl⟩)
 refine cI (mB rfl _ _ _) rfl ?_;exact⟨rfl,rfl⟩
structure PR(n:M)(rs:dW):Prop where
 sR:kr rs
 mq:∀r∈rs,dQ r
 jd:∀x∈rs.flatten,x.Good
 low:∀x∈rs.flatten,x.bH<=n
def tY(h:w.Good):w.key≠⟨#[]⟩:=λe=>by
 have:=h.Us;rw[e]at this;simp[ByteArray.size]at this
def PR.keys(h:PR b k):∀x∈k.flatten,x.key≠⟨#[]⟩:=λx a=>tY<|h.jd x a
def GZ{a D:dW}:w∈(k++a++D).flatten↔w∈k.flatten\/w∈a.flatten\/w∈D.flatten:=by
 simp only[dP,ak,or_assoc]
def PR.YH{c e D:dW}(h:PR b (k++c++D))(i:kr e)(l:∀r∈e,dQ r)(a:∀x∈e.flatten,x∈c.flatten):PR b (k++e++D):=by
 have f:∀x,x∈(k++e++D).flatten->x∈(k++c++D).flatten:=by intro x f;rw[GZ]at f|-;exact f.imp id<|λg=>g.imp (a x) id
 refine⟨Rk h.sR i a,λr j=>?_,λx d=>h.jd x<|f x d,λx d=>h.low x<|f x d⟩;rcases ak.1 j with g|g;rcases ak.1 g with g|g;exact h.mq r (by simp[g]);exact l r g;exact h.mq r<|by simp[g]
def PR.cons(i:PR b k)(t:b<=c)(n:dQ e)(m:∀x∈e,x.Good)(g:∀x∈e,(b:X)<x.bH)(f:∀x∈e,x.bH<=c):PR c (e::k):=by
 refine⟨?_,?_,?_,?_⟩;unfold kr;rw[bj];refine⟨λr h o j p l _=>?_,i.sR⟩;have q:=i.low p<|bz.2 ⟨r,h,l⟩;have s:=g o j;omega;intro r h;rcases aA.1 h with rfl|d;exact n;exact i.mq r d;intro x a;rw[aW,ak]at a;rcases a with d|d;exact m x d;exact i.jd x d;intro x a;rw[aW,ak]at a;rcases a with d|d;exact f x d;have:=i.low x d;omega
def PR.El(h:PR b k):PR b ([]::k):=h.cons (ah _) dQ.nil (by simp) (by simp)<|by simp
def FC(a:dW)(k:ab):seen ([]::a) k=seen a k:=by
 unfold seen;rw[qi,Sd,lX]
def cF(a b c d:cP):dW:=(a.map bI.all).reverse++[cf b,cf c,cf d]
def DI(a b c d:cP)(t:bI):cF (a++[t]) b c d=t.all::cF a b c d:=by simp[cF]
def oO(h:i.map bI.all=iz e):cf i=e:=by
 unfold cf;rw[h];exact vN e
def EH(h:i.isEmpty=bU):cf i=[]:=by
 rw[List.isEmpty_iff]at h;rw[h];rfl
def PR.row(h:PR b k):∀r∈k,gN r:=λr a=>⟨h.mq r a,λe c=>h.keys e<|bz.2 ⟨r,a,c⟩⟩
def fU(t:X)(a:dW)(k:ab):Option ab:=seen (a.map<|jZ t) k
def Bc{a b D:dW}(h:AP (a.map<|jZ m) (b.map<|jZ m) (D.map<|jZ m))(c:ab):fU m (k++b++D) c=fU m (k++a++D) c:=by
 unfold fU;simp only[aM];exact Tr h c
def sO(t:X)(a:dW)(k:ab):fU t ([]::a) k=fU t a k:=by
 unfold fU;rw[aX,show jZ t []=[]from rfl];exact FC _ k
def PN(h:∀r∈k,r=[])(c:ab):qM (k.map<|jZ m) c=none:=RV (λr a=>by obtain⟨s,b,rfl⟩:=aY.1 a;rw[h s b];rfl) c
def OA{d:cP}(j:PR b (cF i p t u))(h:d.map bI.all=iz (rC o (t.isEmpty&&u.isEmpty) i p)):dQ (di<|cf p::i.map bI.all)/\dQ (rC o (t.isEmpty&&u.isEmpty) i p)/\PR b (cF [] d t u)/\(∀l,(l∈o\/(b:X)<=l)->∀k,fU l (cF [] d t u) k=fU l (cF i p t u) k)/\y (cf d)<=y (cf i)+y (cf p):=by
 have D:cf d=rC o (t.isEmpty&&u.isEmpty) i p:=oO h;have a:cF i p t u=[]++((i.map bI.all).reverse++[cf p])++[cf t,cf u]:=by simp[cF]
 have f:cF [] d t u=[]++[rC o (t.isEmpty&&u.isEmpty) i p]++[cf t,cf u]:=by simp[cF,D]
 rw[a]at j;have w:∀r∈i.map bI.all,gN r:=λr a=>j.row r (by simp only[cC,ak,iY];exact .inl<|.inl a);have s:gN (cf p):=j.row _ (by simp);have v:kr ((i.map bI.all).reverse++[cf p]):=(bP.1 j.sR).1;obtain⟨B,n,C⟩:=Df (ms:=o) (lowest:=t.isEmpty&&u.isEmpty) w s v;have g:∀x∈[rC o (t.isEmpty&&u.isEmpty) i p].flatten,x∈((i.map bI.all).reverse++[cf p]).flatten:=by intro x c;rw[aW,fK,dI]at c;have:=zu _ _ _ x c;rw[aW,ak]at this;rw[dP,ak,aW,fK,dI];rcases this with t|t;exact .inr t;refine .inl ?_;obtain⟨m,e,c⟩:=bz.1 t;exact bz.2 ⟨m,iY.2 e,c⟩
 refine⟨B,n,?_,λl A k=>?_,?_⟩;rw[f];exact j.YH (by unfold kr;simp) (by intro r a;simp only[aA,eI,kJ]at a;subst a;exact n) g;rw[a,f];refine Bc (C l [cf t,cf u] (A.imp_right<|λq x c=>zL (j.low x<|GZ.2<|.inr<|.inl c) q)<|λe k=>?_) k;rw[jT]at e;exact PN (by intro r a;simp only[aA,eI,kJ]at a;rcases a with rfl|rfl;exact EH e.1;exact EH e.2) k;rw[D];have E:=(sS o (t.isEmpty&&u.isEmpty)<|cf p::i.map bI.all).length_le;have F:=(mf o<|di<|cf p::i.map bI.all).length_le;have m:=(fG<|cf p::i.map bI.all).length_eq;rw[aW,af]at m;have:(i.map bI.all).flatten=cf i:=rfl;rw[this]at m;unfold rC;omega
def Su(l:cr T)(j:M)(h:j<y l):l=l.take j++[l[j]]++l.drop (j+1):=by
 rw[aU,jO,kP,bW]
def Wy(l:cr T){p q:M}(h:p<=q):l=l.take p++(l.drop p).take (q-p)++l.drop q:=by
 have a:l.drop q=(l.drop p).drop (q-p):=by rw[List.drop_drop];congr 1;omega
 rw[aU,a,bW,bW]
def ub(h:((i++p).map bI.all).Pairwise gS):gS (cf i) (cf p):=by
 rw[aM,bP]at h;intro x f c g;obtain⟨s,d,a⟩:=lk.1 f;obtain⟨t,e,b⟩:=lk.1 g;exact h.2.2 _ (hZ d) _ (hZ e) x a c b
def Lo{j c q:M}(hu:ly i)(r:ly p)(ho:Over (cf i) (cf p))(hg:∀x,x∈cf i\/x∈cf p->x.Good)(hj:j<y i)(Q:Fq p (iX i[j].ks) (iU i[j].ks) c q)(K:t.map bI.all=iz (rC o D [i[j]]<|(p.drop c).take<|q-c)):dQ (rC o D [i[j]]<|(p.drop c).take<|q-c)/\dQ (cf<|p.take c++t++p.drop q)/\((p.take c++t++p.drop q).map bI.all).Pairwise gS/\(∀(h:X)(bc:dW),(h∈o\/∀x,x∈cf i\/x∈cf p->x.bH<=h)->(D=bU->∀bd,qM (bc.map<|jZ h) bd=none)->AP ([cf i,cf p].map<|jZ h) ([cf<|i.take j++i.drop (j+1),cf<|p.take c++t++p.drop q].map<|jZ h) (bc.map<|jZ h))/\Over (cf<|i.take j++i.drop (j+1)) (cf<|p.take c++t++p.drop q)/\(∀x,x∈cf (i.take j++i.drop (j+1))\/x∈cf (p.take c++t++p.drop q)->x∈cf i\/x∈cf p)/\(∀x∈cf t,x∈cf i\/x∈cf p)/\y (cf<|i.take j++i.drop (j+1))+y (cf<|p.take c++t++p.drop q)<=y (cf i)+y (cf p):=by
 have w:cf t=gU o D [cf<|(p.drop c).take<|q-c,i[j].all]:=oO K;have f:cf [i[j]]=i[j].all:=by simp[cf]
 have s:cf i=cf (i.take j)++i[j].all++cf (i.drop<|j+1):=by conv=>lhs;rw[Su i j hj,eN,eN,f]
 have u:cf p=cf (p.take c)++cf ((p.drop c).take<|q-c)++cf (p.drop q):=by conv=>lhs;rw[Wy p Q.le,eN,eN]
 have hP:=hu.pure i[j]<|ap hj;have al:∀A∈cf (p.take c),∀h∈i[j].all,ie A.key h.key=bU:=by intro A l h d;obtain⟨ba,n,v⟩:=lk.1 l;obtain⟨ax,hi,rfl⟩:=gM.1 n;(have e:ax<c/\ax<y p:=by rw[dK]at hi;omega);rw[gq]at v;have O:=(r.pure p[ax]<|ap e.2).CZ v;have P:=Q.Xj.low ax e.2 e.1;have C:=hP.xK d;exact Ob (xE O P) C
 have an:∀A∈i[j].all,∀h∈cf (p.drop q),ie A.key h.key=bU:=by intro A l h d;obtain⟨ba,n,v⟩:=lk.1 d;obtain⟨ax,hi,rfl⟩:=gM.1 n;(have e:q+ax<y p:=by rw[iy]at hi;omega);rw[ng]at v;(have S:q<y p:=by omega);have O:=Q.behind S;have P:=hP.CZ l;obtain⟨x,a,av⟩:=(r.pure p[q]<|ap S).Hc;(have C:ie h.key (iX p[q].ks)=bE:=by rcases fS ax with rfl|bb;exact(r.pure p[q]<|ap S).xK v;rw[<-av];exact lI<|r.pair S e (by omega) a v);exact Ob (xE P O) C
 have T:((i.take j++([i[j]]++i.drop (j+1))).map bI.all).Pairwise gS:=by have:=hu.CT;rw[Su i j hj,aU]at this;exact this
 have W:((p.take c++((p.drop c).take (q-c)++p.drop q)).map bI.all).Pairwise gS:=by have:=r.CT;rw[Wy p Q.le,aU]at this;exact this
 have L:=ub T;have N:=ub W;rw[eN]at L N;rw[f]at L;have V:=(bP.1 (by rw[aM]at T;exact T)).2.1;have ac:=(bP.1 (by rw[aM]at W;exact W)).2.1;have B:=ub V;have ad:=ub ac;rw[f]at B;have ao:gN (cf (i.take j)++i[j].all++cf (i.drop<|j+1)):=s▸⟨hu.mq,λw he=>tY<|hg w<|.inl he⟩;have au:gN (cf (p.take c)++cf ((p.drop c).take<|q-c)++cf (p.drop q)):=u▸⟨r.mq,λw he=>tY<|hg w<|.inr he⟩;have E:=ho;rw[s,u]at E;obtain⟨r1,r2,r3,r4,r5,r6⟩:=Rj (ms:=o) (lowest:=D) ao au E (λx a b g=>L x a b<|by simp[g]) (λx a b g=>L x a b<|by simp[g]) B (λx a b g=>N x a b<|by simp[g]) (λx a b g=>N x a b<|by simp[g]) ad al an;have m:∀x∈gU o D [cf<|(p.drop c).take<|q-c,i[j].all],x∈i[j].all\/x∈cf ((p.drop c).take<|q-c):=by intro x a;have:=zu o D _ x a;simp only[aW,fK,dI,ak]at this;exact this.symm
 have F:dQ (gU o D [cf<|(p.drop c).take<|q-c,i[j].all]):=r2.mq.sub (by simp);refine⟨F,?_,?_,?_,?_,?_,?_,?_⟩;rw[eN,eN,w];exact r2.mq;rw[aM,aM,bP,bP];refine⟨⟨r.CT.sublist<|(mZ _ _).map _,by rw[K];exact Eb F,λx a b g=>?_⟩,r.CT.sublist<|(kB _ _).map _,λx a b g=>?_⟩;obtain⟨S,v,rfl⟩:=aY.1 a;obtain⟨ba,n,rfl⟩:=aY.1 g;exactλA l h d=>r3 A (lk.2 ⟨S,v,l⟩) h (by rw[<-w];exact lk.2 ⟨ba,n,d⟩);obtain⟨ba,n,rfl⟩:=aY.1 g;rcases ak.1 a with a|a;obtain⟨S,v,rfl⟩:=aY.1 a;exactλA l h d=>N A (lk.2 ⟨S,v,l⟩) h<|ib _<|lk.2 ⟨ba,n,d⟩;obtain⟨S,v,rfl⟩:=aY.1 a;exactλA l h d=>r4 A (by rw[<-w];exact lk.2 ⟨S,v,l⟩) h<|lk.2 ⟨ba,n,d⟩;intro h bc d v;simp only[aX,eY];rw[eN,eN,eN,w,s,u];exact r6 h bc (d.imp_right<|λq x a=>q x (by rw[s,u];simp only[ak]at a|-;rcases a with k|k;exact .inl<|.inl<|.inr k;exact .inr<|.inl<|.inr k)) v;rw[eN,eN,eN,w];exact r5;intro x a;rw[eN,eN,eN,w]at a;rw[s,u];simp only[ak]at a|-;rcases a with(k|k)|(k|k)|k;exact .inl<|.inl<|.inl k;exact .inl<|.inr k;exact .inr<|.inl<|.inl k;rcases m x k with k|k;exact .inl<|.inl<|.inr k;exact .inr<|.inl<|.inr k;exact .inr<|.inr k;intro x a;rw[w]at a;rw[s,u];simp only[ak];rcases m x a with k|k;exact .inl<|.inl<|.inr k;exact .inr<|.inl<|.inr k;rw[eN,eN,eN,w,s,u];have O:=(sS o D [cf<|(p.drop c).take<|q-c,i[j].all]).length_le;have P:=(mf o<|di [cf<|(p.drop c).take<|q-c,i[j].all]).length_le;have C:=(fG [cf<|(p.drop c).take<|q-c,i[j].all]).length_eq;rw[aW,aW,fK,dI,af]at C;simp only[af];omega
def NI(h:Over e L):kr [e,L]:=by
 unfold kr;simp only[bj,aA,eI,kJ,forall_eq,List.Pairwise.nil,sC,false_implies,implies_true];exact h
def CW{C D:dW}(h:kr (C++[e,L]++D)):Over e L:=by
 have a:=(bP.1 (bP.1 h).1).2.1;exact(bj.1 a).1 L<|by simp
def Oz{d:cP}{j g q:M}(l:PR b (cF i p t u))(m:ly p)(s:ly t)(r:j<y p)(hcut:Fq t (iX p[j].ks) (iU p[j].ks) g q)(f:d.map bI.all=iz (rC o u.isEmpty [p[j]]<|(t.drop g).take<|q-g)):PR b (cF i (p.take j++p.drop (j+1)) (t.take g++d++t.drop q) u)/\(∀h,(h∈o\/(b:X)<=h)->∀k,fU h (cF i (p.take j++p.drop (j+1)) (t.take g++d++t.drop q) u) k=fU h (cF i p t u) k)/\dQ (cf d)/\((t.take g++d++t.drop q).map bI.all).Pairwise gS/\(∀x∈cf d,x.Good)/\y (cf<|p.take j++p.drop (j+1))+y (cf<|t.take g++d++t.drop q)<=y (cf p)+y (cf t):=by
 have a:∀x c:cP,cF i x c u=(i.map bI.all).reverse++[cf x,cf c]++[cf u]:=λx c=>by simp[cF]
 rw[a]at l;have n:∀x,x∈cf p\/x∈cf t->x.Good:=λx c=>l.jd x (GZ.2<|.inr<|.inl<|by simpa using c);obtain⟨A,B,w,C,D,E,F,K⟩:=Lo m s (CW l.sR) n r hcut f;refine⟨?_,λh v k=>?_,by rw[oO f];exact A,w,λx c=>n x<|F x c,K⟩;rw[a];refine l.YH (NI D) (λL e=>?_)<|λx c=>?_;simp only[aA,eI,kJ]at e;rcases e with rfl|rfl;rw[eN];have:=m.mq.sub<|nF (us:=p.take j++p.drop (j+1)) (ts:=p) (by(conv=>rhs;rw[Su p j r]);rw[aU];exact(ez _).append<|ga _ _);rwa[eN]at this;exact B;have:=E x (by simpa using c);simpa using this;rw[a,a];exact Bc (C h [cf u] (v.imp_right<|λq x c=>zL (l.low x<|GZ.2<|.inr<|.inl<|by simpa using c) q)<|λe k=>PN (by intro L a;simp only[aA,eI,kJ]at a;subst a;exact EH e) k) k
def Oy{c:cP}{j g q:M}(l:PR b (cF i p t u))(m:ly t)(s:ly u)(r:j<y t)(hcut:Fq u (iX t[j].ks) (iU t[j].ks) g q)(e:c.map bI.all=iz (rC o bU [t[j]]<|(u.drop g).take<|q-g)):PR b (cF i p (t.take j++t.drop (j+1))<|u.take g++c++u.drop q)/\(∀h,(h∈o\/(b:X)<=h)->∀k,fU h (cF i p (t.take j++t.drop (j+1))<|u.take g++c++u.drop q) k=fU h (cF i p t u) k)/\dQ (cf c)/\((u.take g++c++u.drop q).map bI.all).Pairwise gS/\(∀x∈cf c,x.Good)/\y (cf<|t.take j++t.drop (j+1))+y (cf<|u.take g++c++u.drop q)<=y (cf t)+y (cf u):=by
 have f:∀x a:cP,cF i p x a=((i.map bI.all).reverse++[cf p])++[cf x,cf a]++[]:=λx a=>by simp[cF]
 rw[f]at l;have n:∀x,x∈cf t\/x∈cf u->x.Good:=λx a=>l.jd x (GZ.2<|.inr<|.inl<|by simpa using a);obtain⟨A,B,w,C,D,E,F,K⟩:=Lo m s (CW l.sR) n r hcut e;refine⟨?_,λh v k=>?_,by rw[oO e];exact A,w,λx a=>n x<|F x a,K⟩;rw[f];refine l.YH (NI D) (λL d=>?_)<|λx a=>?_;simp only[aA,eI,kJ]at d;rcases d with rfl|rfl;rw[eN];have:=m.mq.sub<|nF (us:=t.take j++t.drop (j+1)) (ts:=t) (by(conv=>rhs;rw[Su t j r]);rw[aU];exact(ez _).append<|ga _ _);rwa[eN]at this;exact B;have:=E x (by simpa using a);simpa using this;rw[f,f];exact Bc (C h [] (v.imp_right<|λq x a=>zL (l.low x<|GZ.2<|.inr<|.inl<|by simpa using a) q)<|λd k=>yw k) k
def yq(s:i.map bI.all=iz e)(q:∀t∈i,WU a b t)(m:dQ e)(g:rN 5 e)(p:∀x∈e,x.Good):∀t∈i,tE t.ks t.cs/\JL (bM 0 t.cs)/\t.ks=bM 0 t.cs/\y t.all<=100:=by
 intro t n;obtain⟨r,h,x,j,k⟩:=q t n;have l:t.all∈iz e:=by rw[<-s];exact hZ n
 have o:=QZ g _ l;have c:=Bk l;have f:=Ec e _ l;have d:∀x∈t.all,x.Good:=λx e=>p x<|c.subset e;refine⟨?_,k.pieces.idx f d (m.sub c) o,k.ks,o⟩;rw[k.ks];exact k.pieces.wH f d<|m.sub c
def Qy(h:i.map bI.all=iz e)(g:∀t∈i,WU a b t)(d:dQ e)(c:rN 5 e)(f:∀x∈e,x.Good):ly i:=⟨λt j=>(yq h g d c f t j).1,by rw[oO h];exact d,by rw[h];exact Eb d⟩
def UP(n0:M)(p0 p1 p2 p3:aa×cP)(c:cr (aa×cA))(d:ab)(t:X)(h:bK a b n m)(mx:Option Addr)(mn mc:M)(bc:n.memory=I mx mn mc)(hl:De a b 10 [p0,p1,p2,p3])(N:c.map (·.1)=zV n.memory p0 p1 p2 p3)(hR:∀bt(hi:bt<y c),qR r n0 c[bt].1 c[bt].2 a)(hD:r.D a)(bp:n0<=z (G a))(hF:∀m,r.F m->m<n0)(hk:1<=d.size/\d.size<=8)(bi:∀cs∈c,∀x∈cs.2,x.val.size<=281474976710656):cw bF 60 #[aw b,J d,aI t] a λbu w'=>bu=aO (Wt<|wo t d c)/\r.D w'/\Z r.F a w':=by
 have O:=λcc=>qL d cc (by omega);rw[pG hk]at O;have V:=Kr p0 p1 p2 p3 h mx mn mc bc hl;have l:y (qA p0 p1 p2 p3)+1=y c:=by have:=bS y N;simp[zV]at this;omega
 rw[<-N,l]at V;have bv:y c<=1000000000:=by have:=hl.small;rw[<-l];simp[qA,ma]at this|-;omega
 obtain⟨HR,HD,HF,bm⟩:=gx hR hD hF bi;clear h hl bc N hR hD hF l bi;go_in
 go_wp2_with fail
 apply(O _).mono;rintro bu w1⟨rfl,cl⟩;subst w1;go_wp2_with fail
 apply V.mono;rintro bu w1⟨v1,rfl,P,bh⟩;obtain⟨x1,c1,br⟩:=aB P;subst br;have an:=U P;have ao:=U bh;clear P bh V O;go_wp2_with fail
 go_loopw [21] (λbt wr=>∃B:M,B<=y c/\bt=am B/\r.D wr/\Z r.F w1 wr/\wo t d (c.take B)=none) (λbt _=>y c-(intOf bt).toNat)
 case atStart=>exact⟨0,bw _,rfl,r.fm HD ao cG,Z.refl _ _,rfl⟩
 case round=>
  obtain⟨B,hn,rfl,j,q,e⟩:=hrel;have o:Z r.F a wr:=(ao.mono (T:=r.F) cG).trans q<|λ_ l=>.inl l;by_cases g:B<y c
  .obtain⟨co,cp,cn,cm,bf,hm,he,k⟩:=HR B g;have eg:∀c a,(callFunc cn c).run bF a=.ok (.enter cn c) a:=he;have s:=k d t wr (o.same bp cG<|λm hk _=>hk) j;have bd:∀m,z (G a)<=m->¬r.F m:=λm hk c=>by have:=HF m c;omega
   have Q:=q.own an<|λm hk=>bd m (an.lt m hk).1;obtain⟨bq,hx,ck⟩:∃bq,x1=H (R bq 0)/\aS wr (R bq B)=H (.iface co cp):=by
    rcases Q.2 with⟨f,C⟩|⟨w,u,v,f,_⟩
    .omega
    .cases f;refine⟨w,rfl,?_⟩;have:=pm Q B (.iface co cp) (by rw[dz,aH g];simp[bf]);rwa[du,cR]at this
   subst hx;have ba:=Tt g e;have bg:wo t d (c.take<|B+1)=iA t c[B].2 d:=by
    rw[ai g];unfold wo at e|-;rw[wC,e];cases h:iA t c[B].2 d<;>simp[h]
   have ac:∀x,iA t c[B].2 d=H x->x.val.size<=281474976710656:=λx hx=>bm _ (ap g) x<|jM hx;obtain⟨ad,bl,K,al,bk⟩:=jR j q o ba bg;have e1:(B:X)<(y c:X):=by omega
   clear j q o bf he k e Q bd ba bg;cases hfe:iA t c[B].2 d with
   |none=>
    rw[hfe]at s;unfold tg wP at s;simp only at s;have F:=U hfe;clear hfe ac;go_wp2_with fail
    apply s.mono;rintro bu A⟨rfl,i,p⟩;have D:=U i;have L:=U p;clear i p s;go_wp2;go_roundw;case rel=>
     refine⟨B+1,g,by go_num,r.fm D ((Z.refl az A).alloc _) cG,?_,?_⟩
     .exact(bl.trans L<|λ_ l=>.inl l).alloc _
     .rw[ae bk,ae F]
    case measure=>simp[intOf];omega
   |some x=>
    have bs:=ac x hfe;rw[hfe]at s;unfold tg E.value at s;simp only at s;have bo:=λcc=>vk x.val cc bs;have bx:∀(x:Bool)(a:Y),(Op.unary .not<|aL x).run bF a=.ok (aL<|!x) a:=λ_ _=>rfl;have F:=U hfe;clear hfe ac;go_wp2_with fail
    apply s.mono;rintro bu A⟨rfl,i,p⟩;have D:=U i;have L:=U p;clear i p s;go_wp2_with fail
    have f:ij (ct A<|aq #[J x.key,J x.val,aL x.del,aI x.bH] 164) (z<|G A) x:=aC _ rfl;have v:Z r.F a (ct A<|aq #[J x.key,J x.val,aL x.del,aI x.bH] 164):=(K.trans L<|λ_ l=>.inl l).alloc _;have u:r.D (ct A<|aq #[J x.key,J x.val,aL x.del,aI x.bH] 164):=r.fm D ((Z.refl az A).alloc _) cG;generalize ct A (aq #[J x.key,J x.val,aL x.del,aI x.bH] 164)=W3 at f v u|-;generalize z (G A)=eb at f|-;obtain⟨cd,ce,bn,ch⟩:=f.cells;have bb:=aj f;obtain⟨cb,bT,ca⟩:=dB v u f;have HA:=U (show∀C,Below (z<|G W3) W3.drew C->aS C (R eb 2)=H (aL x.del)/\r.D C/\Z r.F a C from by
     intro C w;have W:Z az W3 C:=(bX az W3).ci (Z.aT (S:=az) w);exact⟨W.cell bn id bb,r.fm u W cG,v.ci W⟩)
    clear f v u;go_region_with(first|(go_at_call 104;refine(bo _).mono ?_;rintro bu C⟨rfl,w⟩;obtain⟨cj,av,ax⟩:=HA C w;have au:=U<|And.intro av ax;clear av ax w))
    all_goals(go_wp2;refine cI (mB rfl _ _ _) rfl ?_;exact⟨by rw[ae al,ae F];rfl,au.1,au.2⟩)
  .have f:B=y c:=by omega
   rw[f,bN]at e;obtain⟨i,ad,K⟩:=dB e j o;have e1:¬(B:X)<(y c:X):=by omega
   clear e j o q f;go_wp2;refine cI (mB rfl _ _ _) rfl ?_;exact⟨by rw[ae i];rfl,ad,K⟩
structure VA(w0 w:Y)(x:M)(ob:Obj)(o:aa)(bs:eK):Prop where
 own:eJ w (z<|G w0) o bs
 box:w.heap[x]?=H ob
 ne:bV o≠H x
 ar:Z az w0 w
def VA.wrote{k:Obj}{c:eK}(h:VA a f b k d o)(j:eR f C d s)(m:eJ C (z<|G a) s c):VA a C b k s c:=by
 have e:=aj h.box;have i:=Z.fy j;refine⟨m,(i.block b e h.ne).trans h.box,λg=>?_,h.ar.trans i<|λq g=>.inr (h.own.lt q g).1⟩;rcases j.uc with l|⟨n,l,p⟩;exact h.ne<|l.symm.trans g;rw[l]at g;cases g;omega
def uw(t:bI):eK:=le 8 t.num++(le 4 (y<|dG t.cs)++(le 4 (y<|fc t.ks)++le 4 (mr<|fc t.ks)))
def oC(a:cP):eK:=le 4 (y a)++a.flatMap uw
def iG(next b a:X)(c:cr cP):eK:=iD<|le 8 next++le 8 b++le 8 a++(c.map oC).flatten
def LZ(t:bI):y (uw t)=20:=by simp[uw,bY]
def pz(a:cP):y (oC a)=4+20*y a:=by
 unfold oC;rw[af,bY];induction a with
 |nil=>rfl
 |cons t r b=>rw[dH,af,LZ,ay];omega
structure bI.oe(t:bI):Prop where
 num:t.num<18446744073709551616
 d:y (dG t.cs)<4294967296
 i:y (fc t.ks)<4294967296
def GN(a:cP)(n j:M)(h:n<y a)(g:j<4):(dj a)[n*4+j]?=(bI.ur a[n])[j]?:=by
 have e:∀(l:cP),y (dj l)=y l*4:=by
  intro l;induction l with
  |nil=>rfl
  |cons t r c=>unfold dj at*;rw[dH,af,c];simp[bI.ur];omega
 have f:dj a=dj (a.take n)++(bI.ur a[n]++dj (a.drop<|n+1)):=by(have c:a=a.take n++a[n]::a.drop (n+1):=by rw[<-bD h,bW]);have d:dj a=dj (a.take n++a[n]::a.drop (n+1)):=bS dj c;rw[d];unfold dj;rw[fZ,dH]
 have b:y (dj<|a.take n)=n*4:=by rw[e];simp;omega
 rw[f,dD (by omega),b,show n*4+j-n*4=j by omega,gd (by simp[bI.ur];omega)]
def Ox(next g c:X)(P Q S T:Option Addr)(L c1 c2 c3:M)(m0 m1 m2 m3:cP)(hT:Steps a)(r0:Row a 4 (I P (y m0) L) (y m0) (dj m0))(r1:Row a 4 (I Q (y m1) c1) (y m1) (dj m1))(r2:Row a 4 (I S (y m2) c2) (y m2) (dj m2))(r3:Row a 4 (I T (y m3) c3) (y m3) (dj m3))(b0:∀k,bV (I P (y m0) L)=H k->k<z (G a))(b1:∀k,bV (I Q (y m1) c1)=H k->k<z (G a))(b2:∀k,bV (I S (y m2) c2)=H k->k<z (G a))(b3:∀k,bV (I T (y m3) c3)=H k->k<z (G a))(k0:∀bl∈m0,bl.oe)(k1:∀bl∈m1,bl.oe)(k2:∀bl∈m2,bl.oe)(k3:∀bl∈m3,bl.oe)(hn:0<=next/\next<18446744073709551616)(hl:0<=g/\g<18446744073709551616)(hb:0<=c/\c<18446744073709551616)(hs:y m0+y m1+y m2+y m3<=1000000):cw bF 204 #[eD #[aI next,aI g,aI c,I P (y m0) L,I Q (y m1) c1,I S (y m2) c2,I T (y m3) c3]] a λD w'=>∃v',D=aO v'/\eJ w' (z<|G a) v' (iG next g c [m0,m1,m2,m3])/\Z az a w':=by
 obtain⟨OB,A⟩:∃OB:Obj,OB=aq #[aI next,aI g,aI c,I P (y m0) L,I Q (y m1) c1,I S (y m2) c2,I T (y m3) c3] 187:=⟨_,rfl⟩;have t:∀(cv:Y)(bk:M)(cu:aa),cv.heap[z<|G a]?=H OB->(#[aI next,aI g,aI c,I P (y m0) L,I Q (y m1) c1,I S (y m2) c2,I T (y m3) c3]:Array aa)[bk]?=H cu->aS cv (R (z<|G a) bk)=H cu:=by intro cv bk cu b hv;rw[A]at b;rw[bR b];exact hv
 have hA0:VA a (ct a OB) (z<|G a) OB aK []:=⟨eJ.nil _ _,aC _ rfl,(by intro D;cases D),(Z.refl _ a).alloc _⟩;have p1:=ph next hA0.own hA0.ar.size (by simp) hn.1 hn.2
 obtain⟨bm,l,HT,ce,ch,cj,ck,bp⟩:=EM hA0 t hT r0 r1 r2 r3 b0;obtain⟨bq,br,bt,bT,ca,cb,cc,cd⟩:=EM b1 b2 b3 k0 k1 k2 k3 A;rw[A]at p1;clear hA0 t hT r0 r1 r2 r3 b0 b1 b2 b3 k0 k1 k2 k3 A;go_in
 go_wp2_with fail
 apply p1.mono;rintro D w1⟨v1,rfl,ad,N⟩;rw[<-ae cd]at N;have hA1:=bm.wrote N ad;have d1:=l w1 1 _ hA1.box rfl;have p2:=ph g hA1.own hA1.ar.size (by simp[bY]) hl.1 hl.2;have bn:=U hA1;clear hA1 ad N p1;go_wp2_with fail
 apply p2.mono;rintro D w2⟨v2,rfl,al,bc⟩;have hA2:=bn.wrote bc al;have d2:=l w2 2 _ hA2.box rfl;have p3:=ph c hA2.own hA2.ar.size (by simp[bY]) hb.1 hb.2;have bo:=U hA2;clear hA2 al bc p2 d1;go_wp2_with fail
 apply p3.mono;rintro D w3⟨v3,rfl,an,bd⟩;have hA3:=bo.wrote bd an;have d3:=l w3 3 _ hA3.box rfl;have d4:=l w3 4 _ hA3.box rfl;have d5:=l w3 5 _ hA3.box rfl;have d6:=l w3 6 _ hA3.box rfl;have W:=U hA3.own;have cn:=U hA3.ar;clear hA3 an bd p3 d2;obtain⟨f,j⟩:∃f,(([]++le 8 next)++le 8 g)++le 8 c=f:=⟨_,rfl⟩;have db:y f=24:=by rw[<-j];simp[bY]
 have ac:=U j;rw[j]at W;clear j;go_wp2;go_loopw [3,21] (λdm bk wr=>∃k:M,k<=4/\bk=am k/\eJ wr (z<|G a) dm (f++(([m0,m1,m2,m3].take k).map oC).flatten)/\Z az a wr) (λ_ bk _=>4-(intOf bk).toNat)
 case atStart=>exact⟨0,bw _,rfl,by simpa using ae W,cn⟩
 (case round=>obtain⟨k,hk,rfl,i,m⟩:=hrel;have bb:=m.size;have ba:=i.lt;(have s:∀k,y (f++(([m0,m1,m2,m3].take k).map oC).flatten)<=30000000:=by intro k;(have h1:y ((([m0,m1,m2,m3].take k).map oC).flatten)<=y ((([m0,m1,m2,m3]).map oC).flatten):=by refine pR ?_;(have D:([m0,m1,m2,m3].map oC).flatten=(([m0,m1,m2,m3].take k).map oC).flatten++(([m0,m1,m2,m3].drop k).map oC).flatten:=by rw[<-dP,<-aM,bW]);rw[D];exact oo _ _);(have h2:y ((([m0,m1,m2,m3]).map oC).flatten)=16+20*(y m0+y m1+y m2+y m3):=by simp[pz];omega);rw[af];omega);rcases dE k 4 with cp|cp;(·(obtain⟨b,x,cM,HR,HB,HK,cT,v,dc⟩:∃(b:cP)(x:Option Addr)(cM:M),Hid (Row a 4 (I x (y b) cM) (y b)<|dj b)/\Hid (∀k,bV (I x (y b) cM)=H k->k<z (G a))/\Hid (∀bl∈b,bl.oe)/\y b<=1000000/\f++(([m0,m1,m2,m3].take<|k+1).map oC).flatten=(f++(([m0,m1,m2,m3].take k).map oC).flatten)++oC b/\∀cv,(Instr.index 185 (eD #[I P (y m0) L,I Q (y m1) c1,I S (y m2) c2,I T (y m3) c3])<|am k).run bF cv=.ok (I x (y b) cM) cv:=by(have d:k=0\/k=1\/k=2\/k=3:=by omega);rcases d with rfl|rfl|rfl|rfl;exact⟨m0,P,L,ce,bp,bT,by omega,by simp,λ_=>by kernel_rfl⟩;exact⟨m1,Q,c1,ch,bq,ca,by omega,by simp,λ_=>by kernel_rfl⟩;exact⟨m2,S,c2,cj,br,cb,by omega,by simp,λ_=>by kernel_rfl⟩;exact⟨m3,T,c3,ck,bt,cc,by omega,by simp,λ_=>by kernel_rfl⟩);(have dd:(k:X)<4:=by omega);have cx:=s k;have cs:=s<|k+1;have cm:=U v;clear s v;generalize f++(([m0,m1,m2,m3].take k).map oC).flatten=bs at*;have a1:=sL (n:=(y b:M)) (by omega) (by omega);have pw:=jx (y b:M) i bb (by omega) (by omega) (by omega);have K:=U m;clear i m;(go_wp2_with fail);apply pw.mono;rintro D w4⟨v4,rfl,u,w⟩;have E:=U u;have F:=U<|K.trans (Z.fy w)<|λl j=>.inr (ba l j).1;clear u w pw;go_wp2;(go_loopw [3,31] (λdm bk wr=>∃q:M,q<=y b/\bk=am q/\eJ wr (z<|G a) dm ((bs++le 4 (y b:M))++(b.take q).flatMap uw)/\Z az a wr) (λ_ bk _=>y b-(intOf bk).toNat));(case atStart=>exact⟨0,bw _,rfl,by simpa using ae E,F⟩);(case round=>obtain⟨q,hq,rfl,d,e⟩:=hrel;have cB:=e.size;by_cases B:q<y b;(.obtain⟨_,⟨hx,h0⟩|⟨cE,O,dn,hx,_,hc⟩⟩:=ae HR;omega;(.cases hx;have co:cE<z (G a):=HB cE rfl;have hg:∀l cu,l<4->(bI.ur b[q])[l]?=H cu->aS wr (R cE<|O+q*4+l)=H cu:=λl cu j hv=>e.cell (by rw[aV];exact hc _ _<|(GN b q l B j).trans hv) id co;have C:=HK _<|ap B;(have dk:y ((bs++le 4 (y b:M))++(b.take q).flatMap uw)<=100000000:=by have h1:=pz<|b.take q;unfold oC at h1;rw[af,bY]at h1;(have h2:y (b.take q)<=1000000:=by simp;omega);simp only[af,bY];omega);have cl:=U (show((bs++le 4 (y b:M))++(b.take q).flatMap uw)++(le 8 (b[q].num:M)++(le 4 (y<|dG b[q].cs)++(le 4 (y<|fc b[q].ks)++le 4 (mr<|fc b[q].ks))))=(bs++le 4 (y b:M))++(b.take<|q+1).flatMap uw from by rw[ai B,fZ,<-aU];simp[uw]);have g0:=hg 0 _ (by omega) rfl;have g1:=hg 1 _ (by omega) rfl;have g2:=hg 2 _ (by omega) rfl;have g3:=hg 3 _ (by omega) rfl;have o1:=C.num;have o2:=C.d;have o3:=C.i;have o4:=zA<|fc b[q].ks;have o5:=BF<|fc b[q].ks;clear hg C;simp only[jq]at g0 g1 g2 g3;generalize b[q].num=y0 at*;generalize y (dG b[q].cs)=y1 at*;generalize y (fc b[q].ks)=y2 at*;generalize mr (fc b[q].ks)=y3 at*;generalize((bs++le 4 (y b:M))++(b.take q).flatMap uw)=B0 at*;have hE:VA a (ct wr<|aq #[aI y0,dr y1,dr y2,dr y3] 266) (z<|G wr) (aq #[aI y0,dr y1,dr y2,dr y3] 266) u3 B0:=⟨d.alloc _,aC _ rfl,λD=>by have:=(d.lt _ D).2;omega,e.alloc _⟩;have z1:=ph (y0:M) hE.own hE.ar.size (by omega) (by omega) (by omega);have HE:=U hE;clear hE d e;(go_wp2_with fail);apply z1.mono;rintro D w5⟨v5,rfl,ao,bf⟩;have o:=HE.wrote bf ao;have f1:=cellAt o.box 1 rfl;have z2:=jx (y1:M) o.own o.ar.size (by rw[af,bY];omega) (by omega) (by omega);have bu:=U o;clear o ao bf z1;(go_wp2_with fail);apply z2.mono;rintro D w6⟨v6,rfl,au,bg⟩;have p:=bu.wrote bg au;have f2:=cellAt p.box 2 rfl;have z3:=jx (y2:M) p.own p.ar.size (by simp only[af,bY];omega) (by omega) (by omega);have bv:=U p;clear p au bg z2;(go_wp2_with fail);apply z3.mono;rintro D w7⟨v7,rfl,av,bh⟩;have r:=bv.wrote bh av;have f3:=cellAt r.box 3 rfl;have z4:=jx y3 r.own r.ar.size (by simp only[af,bY];omega) o4 o5;have bx:=U r;clear r av bh z3;(go_wp2_with fail);apply z4.mono;rintro D w8⟨v8,rfl,ax,bi⟩;have V:=U<|bx.wrote bi ax;clear ax bi z4;go_wp2;go_roundw;(case rel=>refine⟨q+1,B,by go_num,?_,V.ar⟩;rw[<-ae cl];have h:=V.own;simpa using h);case measure=>simp[intOf];omega));(·(have p:q=y b:=by omega);subst p;rw[bN]at d;have r:=U d;have o:=U e;clear d e;go_wp2;go_roundw;(case rel=>refine⟨k+1,by omega,by go_num,?_,o⟩;rw[ae cm];have h:=ae r;unfold oC;simpa using h);case measure=>simp[intOf];omega)));(·(obtain rfl:k=4:=by omega);have b:((4:M):X)=4:=rfl;have d:=DG (HT.below (m.below (ah _) cG) HT.lt) i bb (by have:=s 4;omega);have K:=U m;clear i m s;(go_wp2_with fail);apply d.mono;rintro D w4⟨v4,rfl,u,w⟩;have E:=U u;have F:=U<|K.trans (Z.fy w)<|λl j=>.inr (ba l j).1;clear u w;go_wp2;go_ret;refine⟨_,rfl,?_,F⟩;have h:=ae E;unfold iG iD;(have D:f++(([m0,m1,m2,m3].take 4).map oC).flatten=le 8 next++le 8 g++le 8 c++([m0,m1,m2,m3].map oC).flatten:=by rw[<-ae ac];simp);rw[D]at h;exact h))
def Sj{a:Fs}(d:eK)(h:dX a v=none):vh (a++[(v,d)]) v=a:=by
 induction a with
 |nil=>simp[vh]
 |cons g r c=>
  obtain⟨b,f⟩:=g;by_cases e:b=v
  .simp[dX,e]at h
  .simp[dX,e]at h;simp[vh,e,c h]
def RR(next c b:X)(d:cr cP):kw (iG next c b d):=by
 unfold iG iD;refine(kw.append ?_ ?_).append<|kw.le 4 _;exact((kw.le 8 _).append<|kw.le 8 _).append<|kw.le 8 _;intro x a;obtain⟨l,e,a⟩:=bz.1 a;obtain⟨f,_,rfl⟩:=aY.1 e;unfold oC at a;rcases ak.1 a with a|a;exact kw.le 4 _ x a;obtain⟨t,_,a⟩:=lZ.1 a;unfold uw at a;simp only[ak]at a;rcases a with a|a|a|a;exact kw.le 8 _ x a;exact kw.le 4 _ x a;exact kw.le 4 _ x a;exact kw.le 4 _ x a
def Tu(g:M)(K:DK)(next c b:X)(x0 x1 x2 x3:Option Addr)(F c1 c2 c3:M)(m0 m1 m2 m3:cP)(hT:Steps a)(r0:Row a 4 (I x0 (y m0) F) (y m0) (dj m0))(r1:Row a 4 (I x1 (y m1) c1) (y m1) (dj m1))(r2:Row a 4 (I x2 (y m2) c2) (y m2) (dj m2))(r3:Row a 4 (I x3 (y m3) c3) (y m3) (dj m3))(b0:∀k,bV (I x0 (y m0) F)=H k->k<z (G a))(b1:∀k,bV (I x1 (y m1) c1)=H k->k<z (G a))(b2:∀k,bV (I x2 (y m2) c2)=H k->k<z (G a))(b3:∀k,bV (I x3 (y m3) c3)=H k->k<z (G a))(k0:∀bi∈m0,bi.oe)(k1:∀bi∈m1,bi.oe)(k2:∀bi∈m2,bi.oe)(k3:∀bi∈m3,bi.oe)(hn:0<=next/\next<18446744073709551616)(hl:0<=c/\c<18446744073709551616)(hb:0<=b/\b<18446744073709551616)(hs:y m0+y m1+y m2+y m3<=1000000)(w:cJ a g K)(hg:dX (vw K.files) uR=none)(bl:y K.eO<=100000000000)(A:ik (vw K.files)+21000000<=1099511627776):cw bF 143 #[aw g,eD #[aI next,aI c,aI b,I x0 (y m0) F,I x1 (y m1) c1,I x2 (y m2) c2,I x3 (y m3) c3]] a λj o=>
 j=aO .nilIface/\∃d,rG a o g K d/\vw d.files=tf (vw K.files) (gR,iG next c b [m0,m1,m2,m3])/\d.eO=[]:=by
 obtain⟨bf,p⟩:∃bf,ct a (aq #[aI next,aI c,aI b,I x0 (y m0) F,I x1 (y m1) c1,I x2 (y m2) c2,I x3 (y m3) c3] 187)=bf:=⟨_,rfl⟩
 have hW:Z az a bf:=by rw[<-p];exact(Z.refl _ a).alloc _
 have al:Steps bf:=by rw[<-p];exact hT.alloc _
 have f:∀{v n xs},Row a 4 v n xs->(∀k,bV v=H k->k<z (G a))->Row bf 4 v n xs:=λb hk=>hW.row b<|λk j=>⟨id,hk k j⟩
 have hz:=hW.size
 have P:=Ox next c b x0 x1 x2 x3 F c1 c2 c3 m0 m1 m2 m3 al (f r0 b0) (f r1 b1) (f r2 b2) (f r3 b3) (λk j=>ag (b0 k j) hz) (λk j=>ag (b1 k j) hz) (λk j=>ag (b2 k j) hz) (λk j=>ag (b3 k j) hz) k0 k1 k2 k3 hn hl hb hs
 have S:=RR next c b [m0,m1,m2,m3]
 have ad:y (iG next c b [m0,m1,m2,m3])<=20001000/\0<y (iG next c b [m0,m1,m2,m3]):=by
  unfold iG;rw[gu];simp only[af,bY,aX,eY,aW,fK,cK,pz];omega
 have L:=λD(v1:aa)(ht:Z az bf D)(ho:eJ D (z<|G bf) v1 (iG next c b [m0,m1,m2,m3]))=>show∃bk bg,v1=bC bk 0 (y<|iG next c b [m0,m1,m2,m3]) bg/\cw bF 201 #[aw g,J uR,v1] D λj o=>j=aO .nilIface/\∃d,rG a o g K d/\vw d.files=vw K.files++[(uR,iG next c b [m0,m1,m2,m3])]/\y d.eO=y K.eO+1 from by
  obtain⟨bk,bg,rfl,a1,a2,_⟩:=um ho ad.2;have B:Z az a D:=hW.ci ht;refine⟨bk,bg,rfl,(Ge (db:=g) (K:=K) uR bk 0 bg (w:=D) (w.ar B<|λ_ _=>id) hg (by omega) (by omega) S (Bytes.cells<|eJ.bytes ho) a2 (λcc=>by have:=w.lt _ cc;omega)).mono ?_⟩;rintro j o⟨rfl,d,u,hv,hm⟩;exact⟨rfl,d,⟨u.ok,(B.mono (T:=K.aZ g) cG).trans u.ar<|λ_ h=>.inl h,λk hk=>(u.aZ k hk).elim .inl<|λbg=>.inr<|aD B.size bg⟩,hv,hm⟩
 have ba:=U L
 generalize iG next c b [m0,m1,m2,m3]=SB at*
 have s:∀r i,rG a r g K i->vw i.files=vw K.files++[(uR,SB)]->y i.eO=y K.eO+1->cw bF 205 #[aw g,J uR,J gR] r λj o=>j=aO .nilIface/\∃d,rG a o g K d/\vw d.files=tf (vw K.files) (gR,SB)/\y d.eO=y K.eO+2:=by
  intro r i e m q;have bh:dX (vw i.files) uR=H SB:=by rw[m,jy,hg];simp[dX]
  obtain⟨bm,hF,B⟩:=ju bh;apply(Nq uR gR bm e.ok hF (by decide)<|by omega).mono;rintro j o⟨rfl,d,u,hf,hm⟩;refine⟨rfl,d,e.trans u,?_,by omega⟩;rw[hf,Dm,SZ,m,Sj SB hg];simp only[B]
 have l:∀r i,rG a r g K i->y i.eO=y K.eO+2->cw bF 93 #[aw g] r λj o=>j=aO .nilIface/\∃d,rG a o g K d/\d.files=i.files/\d.eO=[]:=by
  intro r i e q;apply(Cb e.ok<|by omega).mono;rintro j o⟨rfl,d,u,hf,hm⟩;exact⟨rfl,d,e.trans u,hf,hm⟩
 obtain⟨E,t,bd⟩:=dB s l p
 clear hT r0 r1 r2 r3 b0 b1 b2 b3 k0 k1 k2 k3 hn hl hb w hg A hW al f hz S ad L s l p
 go_in
 go_wp2_with fail
 rw[ae bd]
 apply P.mono
 rintro j D⟨v1,rfl,ac,ao⟩
 obtain⟨bk,bg,rfl,C⟩:=ba D v1 ao ac
 clear ac ao P
 unfold uR at C
 go_wp2_with fail
 apply C.mono
 rintro j r⟨rfl,i,e,m,q⟩
 have x:=E r i e m q
 clear e m q C
 unfold uR gR at x
 go_wp2_with fail
 apply x.mono
 rintro j w3⟨rfl,K3,N,au,V⟩
 have an:=t w3 K3 N V
 have bc:=U au
 clear N au V x
 go_wp2_with fail
 apply an.mono
 rintro j w4⟨rfl,K4,O,Q,W⟩
 obtain⟨av,ax,bb⟩:=dB O Q W
 clear O Q W an
 go_wp2
 go_ret
 exact⟨rfl,K4,av,by rw[ae ax];exact bc,bb⟩
def vM{c:Func}{F S:Tmp}(T:c.results=#[.cell F 187,.tmp S])(a:Array aa)(w:Y)(g:M)(n A k:X)(e f h i:aa)(Q:TypeId)(d:M×M)(r:a.getD F iC=aw g)(p:w.heap[g]?=H (aq #[aI n,aI A,aI k,e,f,h,i] Q d))(j:∃x n k,e=I x n k)(l:∃x n k,f=I x n k)(m:∃x n k,h=I x n k)(o:∃x n k,i=I x n k):(results c a).run bF w=.ok (dA #[eD #[aI n,aI A,aI k,e,f,h,i],a.getD S iC]) w:=by
 obtain⟨K,B,s,rfl⟩:=j;obtain⟨L,C,t,rfl⟩:=l;obtain⟨N,D,u,rfl⟩:=m;obtain⟨O,E,v,rfl⟩:=o;have b:a[F]?.getD iC=aw g:=by simpa using r
 have q:=mO (P:=bF) w g Q 187 #[aI n,aI A,aI k,I K B s,I L C t,I N D u,I O E v] d _ p underlying187 rfl (by kernel_rfl);simp[results,T,b,asAddr,q,Result.andThen]
def YA:aa:=eD #[aI 2,aI 1,aI 0,aK,aK,aK,aK]
def Nd{db:M}{K:DK}(h:cJ a db K)(hn:y K.files<=100000000)(hp:Pow a)(g:∀ax∈K.files.map df.name,ax=⟨#[108,111,103,45,49]⟩):cw bF 149 #[aw db] a λan w'=>an=aO (dA #[YA,.nilIface])/\Z az a w':=by
 have o:Z az a (ct (ct a<|aq #[aI 0,aI 0,aI 0,aK,aK,aK,aK] 187)<|aq #[aI 2,aI 1,aI 0,aK,aK,aK,aK] 187):=((Z.refl az a).alloc _).alloc _;have B:(ct (ct a<|aq #[aI 0,aI 0,aI 0,aK,aK,aK,aK] 187)<|aq #[aI 2,aI 1,aI 0,aK,aK,aK,aK] 187).heap[z<|G a]?=H (aq #[aI 0,aI 0,aI 0,aK,aK,aK,aK] 187 (0,0)):=(fX _<|by simp).trans<|aC _ rfl;have C:(ct (ct a<|aq #[aI 0,aI 0,aI 0,aK,aK,aK,aK] 187)<|aq #[aI 2,aI 1,aI 0,aK,aK,aK,aK] 187).heap[z (G a)+1]?=H (aq #[aI 2,aI 1,aI 0,aK,aK,aK,aK] 187 (0,0)):=aC _ (by simp);have F:=EA (db:=db) (K:=K) (h.ar o<|λ_ _=>id) hn;obtain⟨V,q,r,HP,HA⟩:=jR o B C hp g;clear h hp g o B C;go_in
 go_wp2_with fail
 apply F.mono;rintro an w3⟨v3,f,rfl,n,m,e⟩;obtain⟨x3,c3,ac⟩:=aB m;subst ac;have A:=V.ci e;have D:=(e.block _ (aj q) id).trans q;have E:=(e.block _ (aj r) id).trans r;have au:y f<=100000000:=by have:=n.length_eq;simp at this;omega
 have L:∀x∈f,x=⟨#[108,111,103,45,49]⟩:=λx hx=>HA x<|n.mem_iff.1 hx;obtain⟨w,x,s,t,S⟩:=jR m A D E L;clear m e A D E L n F;go_wp2;go_loopw [13] (λj wr=>∃(P:M),P<=y f/\j=am P/\Z az w3 wr) (λj _=>y f-(intOf j).toNat)
 case atStart=>exact⟨0,bw _,by go_num,Z.refl _ _⟩
 (case round=>obtain⟨P,hj,rfl,i⟩:=hrel;have d:=(i.block _ (aj s) id).trans s;have b:=(i.block _ (aj t) id).trans t;by_cases l:P<y f;(·(have e1:(P:X)<(y f:X):=by omega);(have e2:(0:X)<=(P:X):=by omega);have N:=NG<|HP.ar (x.ci i) id;(have k:∃al c,x3=H (R al c)/\aS wr (R al<|c+P)=H (J ⟨#[108,111,103,45,49]⟩):=by obtain⟨q1,⟨q2,q0⟩|⟨av,Q,ad,q2,ao,hc⟩⟩:=dF w;omega;cases q2;refine⟨av,Q,rfl,?_⟩;(have hg:(strs f)[P]?=H (J f[P]):=by simp[strs,l]);rw[(ae S) _<|ap l]at hg;exact i.cell (hc _ _ hg) id (w.lt av rfl).2);obtain⟨al,c,hx,k⟩:=k;subst hx;obtain⟨T,u,v⟩:=dB i d b;clear i d b;(go_wp2_with fail);apply N.mono;rintro an w4⟨rfl,p⟩;have O:=(p.block _ (aj v) id).trans v;have y0:=cellAt O 0 rfl;have W:=U<|T.ci p;clear p O N k;go_wp2;go_roundw;(case rel=>exact⟨P+1,l,by go_num,W⟩);case measure=>simp[intOf];omega);(have e1:¬(P:X)<(y f:X):=by omega);have y0:=cellAt b 0 rfl;have Q:=cellAt b 1 rfl;have W:=cellAt b 2 rfl;have y3:=cellAt b 3 rfl;have y4:=cellAt b 4 rfl;have y5:=cellAt b 5 rfl;have y6:=cellAt b 6 rfl;(have O:∀j,wr.frozen? (R (z<|G a) j)=bE:=λj=>by simp[World.frozen?,d]);(have c:∀j,j<7->∃p,aS wr (R (z<|G a) j)=H p:=λj N=>by rw[bR d];exact⟨_,nT<|by simpa using N⟩);obtain⟨u0,z0⟩:=c 0 (by omega);obtain⟨u1,z1⟩:=c 1 (by omega);obtain⟨u2,z2⟩:=c 2 (by omega);obtain⟨u3,z3⟩:=c 3 (by omega);obtain⟨u4,z4⟩:=c 4 (by omega);obtain⟨u5,z5⟩:=c 5 (by omega);obtain⟨u6,z6⟩:=c 6 (by omega);have T:=U i;have u:=U d;clear i d b c;go_wp2;have k:=aQ (i:=6) (u:=aK)<|aQ (i:=5) (u:=aK)<|aQ (i:=4) (u:=aK)<|aQ (i:=3) (u:=aK)<|aQ (i:=2) (u:=aI 0)<|aQ (i:=1) (u:=aI 1)<|aQ (i:=0) (u:=aI 2) u;refine cI (vM rfl _ _ (z<|G a) 2 1 0 _ _ _ _ _ _ rfl k ⟨_,_,_,rfl⟩ ⟨_,_,_,rfl⟩ ⟨_,_,_,rfl⟩ ⟨_,_,_,rfl⟩) rfl ?_;refine⟨rfl,?_⟩;have v:=x.ci T;exact((((((v.setCell _ 0 _<|.inr<|ah _).setCell _ 1 _<|.inr<|ah _).setCell _ 2 _<|.inr<|ah _).setCell _ 3 _<|.inr<|ah _).setCell _ 4 _<|.inr<|ah _).setCell _ 5 _<|.inr<|ah _).setCell _ 6 _<|.inr<|ah _)
