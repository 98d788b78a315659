import Derived.Deep.Slices
import Derived.LaidHandle
import Derived.LaidSub
import Derived.Lib.LaidTab
import Derived.Test.YtnfehfmncheoiaaGreatDoorRows
import Derived.Test.YtnfehfmncheoiaaGreatDoorC22
import Derived.Test.YtnfehfmncheoiaaGreatDoorC23
open _root_ renaming List.length→y,Option.some→H,Array.size→z,Go.World.heap→G,Go.World.cell?→aS,Go.World.alloc→ct,Bool.false→bE,Bool.true→bU,Nat→M,Int→X,List→cr,Go.Calls→cw,Go.Proofs.Tryz.prog→bF,Go.Value.slice→I,Go.Value.string→J,Go.Value.bool→aL
namespace Go.Proofs.YtnfehfmncheoiaaGreatDoor
open ChangeShapes WideShapes RowKit Proofs.Tryz
set_option maxHeartbeats 16000000
set_option linter.all false
set_option maxRecDepth 100000
variable{a f C:Y}{b c g l P:M}{d:aa}
section
variable{d W W':Y}{f db sbqq g:M}{h:PB}{mem b:X}{e c:aa}{lo:iB}{O:cr (M×Obj)}{C N:M}{l:LC}{a:Bool}
theorem Nx(ad:ji d W f db sbqq g h mem b e c lo O C N l a l a)(B E:X)(S T:ab)(o i s D:M)(j k:ab)(m:Bool)(hA:B<0)(P:0<s)(r:s<=D)(p:s<=1000000000000)(q:o<z (G d))(w:aS d (R o i)=H (J j))(x:aS d (R o<|i+1)=H (J k))(A:aS d (R o<|i+2)=H (aL m))(Q:j.size<=140737488351232/\k.size<=140737488351232)(K:C+lw [⟨j,k,m⟩]<=1000000)(L:N+1<=100000000):cw bF 12 #[aw f,wO 4 B E S T<|bC o i s D] W λac w'=>ac=aO (aL bU)/\AO d w' f O (C+lw [⟨j,k,m⟩]) (N+1):=by
 have u:=ad.still<|(Z.refl az W).alloc<|fW 4 B E S T<|bC o i s D;have n:=RA u B E S T o i s D j k m P r p q w x A Q K L;have e1:(0:X)<(s:X):=by omega
 unfold wO at n|-;unfold fW at n;clear ad u w x A;go_in
 go_wp2_with fail
 apply n.mono;rintro ac W2⟨rfl,t,V,v⟩;have F:=U v;clear v n;go_wp2;go_ret;exact⟨rfl,db,sbqq,g,t,mem,b,e,c,lo,V,a,F⟩
theorem qJ(i A B:X)(S T:ab)(x:Option Addr)(r p:M)(P:Y->Prop)(q:i=2\/i=3\/i=4\/i=8\/i=9)(j:cw bF 12 #[aw f,wO i A B S T<|I x r p] (ct W<|fW i A B S T<|I x r p) λn k=>n=aO (aL bU)/\P k):cw bF 8 #[aw f,wO i A B S T<|I x r p] W λn k=>n=aO (aL bU)/\P k:=by
 unfold wO at j|-;unfold fW at j;rcases q with rfl|rfl|rfl|rfl|rfl;(all_goals(go_in);(go_wp2_with fail);apply j.mono;rintro n s⟨rfl,m⟩;have o:=U m;clear m j;go_wp2;go_ret;exact⟨rfl,o⟩)
end
def AO.mono{O:cr (M×Obj)}(r:AO a C b O c l)(s:c<=g)(k:g<=1000000)(t:l<=P)(m:P<=100000000):AO a C b O g P:=by
 obtain⟨q,h,w,v,n,e,o,j,u,x,d,r⟩:=r;exact⟨q,h,w,v,n,e,o,j,u,x,d,r.mono s k t m⟩
def AO.still{j W W':Y}{O:cr (M×Obj)}(l:AO j W b O c g)(m:Z az W W'):AO j W' b O c g:=by
 obtain⟨k,e,p,o,h,d,i,f,n,q,a,l⟩:=l;exact⟨k,e,p,o,h,d,i,f,n,q,a,l.still m⟩
def Vb(o:Gb):M:=if o.kd=1 then lw o.cs else if o.kd=4 then lw (o.cs.take 1)else 0
def Js{a:uz}(q:lL a=0):∀x∈a,1<=x.key.size:=by
 induction a with
 |nil=>simp
 |cons e a c=>
  unfold lL at q;split at q
  .cases q
  .rename_i d;split at q
   .cases q
   .intro x b;rcases aA.1 b with rfl|b
    .omega
    .exact c q x b
def PI(a:uz):2*lw a<=Gd a:=by
 unfold lw;by_cases q:fY a=0
 .rw[dw q];have b:∀x∈a,1<=x.key.size:=by
   unfold fY at q;split at q
   .cases q
   .exact Js q
  clear q;induction a with
  |nil=>simp
  |cons d a c=>
   have e:=b d (by simp);have f:=c<|λx a=>b x<|aG _ a;unfold Gd at*;simp only[ay,aX,iL];omega
 rw[cY q];omega
def XG(o:Gb):2*Vb o<=XR o:=by
 unfold Vb XR;split;have:=PI o.cs;omega;split;have:=PI<|o.cs.take 1;have:=SU o.cs 1;omega;omega
def Ti(w:Gb)(p:AO a f b [] c g)(hk:1<=w.kd/\w.kd<=10)(o:VD a w.L w.cs)(F:w.S.size<=140737488351232)(K:∀k∈w.cs,k.key.size<=140737488351232/\k.val.size<=140737488351232)(u:y w.cs<=1000000000)(s:c+Vb w<=1000000)(t:g+1<=100000000):cw bF 8 #[aw b,wO w.kd w.A w.B w.S w.T w.L] f λN m=>N=aO (aL bU)/\AO a m b [] (c+Vb w) (g+1):=by
 obtain⟨db,an,rb,pb,av,ad,ax,ao,lo,bb,L,p⟩:=p;obtain⟨l,A,B,S,T,ba,d⟩:=w;simp only at hk o F K u|-;obtain⟨x,k,hL⟩:=Bo o;subst hL;have ac:l=1\/l=2\/l=3\/l=4\/l=5\/l=6\/l=7\/l=8\/l=9\/l=10:=by omega
 have e:∀{i:Y}{f h:M},AO a i b [] f h->f<=c+Vb ⟨l,A,B,S,T,I x (y d) k,d⟩->h<=g+1->AO a i b [] (c+Vb ⟨l,A,B,S,T,I x (y d) k,d⟩) (g+1):=λq j m=>q.mono j s m t;have j:∀a,Z az f (ct f<|fW a A B S T<|I x (y d) k):=λa=>(Z.refl _ f).alloc _;rcases ac with rfl|rfl|rfl|rfl|rfl|rfl|rfl|rfl|rfl|rfl;have V:Vb ⟨1,A,B,S,T,I x (y d) k,d⟩=lw d:=rfl;rw[V]at s|-;rcases o with⟨⟨P,⟨v,q0⟩|⟨W,h,Q,v,E,O⟩⟩,C⟩|⟨P,al,c',v⟩;have n:d=[]:=oR.1 q0;subst n;cases v;exact Dz p A B S T s t;cases v;have D:=C W rfl;by_cases r:y d=0;have n:d=[]:=oR.1 r;subst n;exact wl p A B S T (R W h) k s t;exact Dy p A B S T W h (y d) k d rfl (by omega) E u D O K s t;subst P;cases v;exact wl p A B S T al k s t;refine qJ 2 A B S T x (y d) k _ (.inl rfl)<|(TF (p.still<|j 2) A B S T x (y d) k F).mono ?_;rintro N m⟨rfl,i⟩;exact⟨rfl,e ⟨_,_,_,_,_,_,_,_,_,_,_,i⟩ (by omega)<|by omega⟩;refine qJ 3 A B S T x (y d) k _ (.inr<|.inl rfl)<|(QS (p.still<|j 3) A B S T x (y d) k).mono ?_;rintro N m⟨rfl,al,n,au,i⟩;exact⟨rfl,e ⟨_,_,_,_,_,_,_,_,_,_,_,i⟩ (by omega)<|by omega⟩;by_cases hA:0<A;refine qJ 4 A B S T x (y d) k _ (.inr<|.inr<|.inl rfl)<|(Bg (p.still<|j 4) A B S T x (y d) k hA).mono ?_;rintro N m⟨rfl,i⟩;exact⟨rfl,e ⟨_,_,_,_,_,_,_,_,_,_,_,i⟩ (by omega)<|by omega⟩;by_cases r:A<0->y d=0;refine qJ 4 A B S T x (y d) k _ (.inr<|.inr<|.inl rfl)<|(CP (p.still<|j 4) A B S T x (y d) k (by omega) r).mono ?_;rintro N m⟨rfl,i⟩;exact⟨rfl,e ⟨_,_,_,_,_,_,_,_,_,_,_,i⟩ (by omega)<|by omega⟩;obtain⟨al,r⟩:=Classical.not_imp.1 r;rcases o with⟨⟨P,⟨v,q0⟩|⟨W,h,Q,v,E,O⟩⟩,C⟩|⟨P,_⟩;omega;cases v;have D:=C W rfl;rcases d with _|⟨n,d⟩;simp at r;have V:Vb ⟨4,A,B,S,T,bC W h (y<|n::d) k,n::d⟩=lw [⟨n.key,n.val,n.del⟩]:=rfl;rw[V]at s|-;refine qJ 4 A B S T _ (y<|n::d) k _ (.inr<|.inr<|.inl rfl) ?_;exact Nx (p.still<|j 4) A B S T W h _ k n.key n.val n.del (by omega) (by simp) E (by omega) D (O 0 _ rfl) (O 1 _ rfl) (O 2 _ rfl) (K n<|by simp) s t;rw[P]at r;simp at r;apply(MS p A B S T x (y d) k).mono;rintro N m⟨rfl,i⟩;exact⟨rfl,e i (by omega)<|by omega⟩;apply(Qi p A B S T x (y d) k t).mono;rintro N m⟨rfl,i|i⟩;exact⟨rfl,e i (by omega)<|by omega⟩;exact⟨rfl,e i (by omega)<|by omega⟩;apply(Qh p A B S T x (y d) k t).mono;rintro N m⟨rfl,i⟩;exact⟨rfl,e i (by omega)<|by omega⟩;refine qJ 8 A B S T x (y d) k _ (.inr<|.inr<|.inr<|.inl rfl)<|(Ny (p.still<|j 8) A B S T x (y d) k F).mono ?_;rintro N m⟨rfl,i⟩;exact⟨rfl,e ⟨_,_,_,_,_,_,_,_,_,_,_,i⟩ (by omega)<|by omega⟩;refine qJ 9 A B S T x (y d) k _ (.inr<|.inr<|.inr<|.inr rfl)<|(KE (p.still<|j 9) A B S T x (y d) k).mono ?_;rintro N m⟨rfl,i⟩;exact⟨rfl,e ⟨_,_,_,_,_,_,_,_,_,_,_,i⟩ (by omega)<|by omega⟩;apply(Io p A B S T x (y d) k).mono;rintro N m⟨rfl,i⟩;exact⟨rfl,e i (by omega)<|by omega⟩
def AO.ar{O:cr (M×Obj)}(k:AO a C b O c g):Z az a C:=by
 obtain⟨n,h,q,p,l,e,m,j,o,r,d,k⟩:=k;exact k.ar
def VE(a:uz):y a<=Gd a:=by
 induction a with
 |nil=>simp
 |cons c a b=>
  unfold Gd at*;simp only[ay,aX,iL];omega
def AO.outs{O:cr (M×Obj)}(n:AO a f b O c g):∃i r h j x wc,aS f (R b 5)=H (I i r h)/\aS f (R b 6)=H (I j x wc)/\∀e,Z az f e->cw bF 9 #[I i r h,I j x wc] e λF v=>F=aO (aL bU)/\∃q,v=e.drewN q:=by
 obtain⟨K,u,P,N,B,k,E,w,p,Q,d,n⟩:=n;obtain⟨_,C,D,_,_,s,t,L⟩:=n.FN;obtain⟨i,h,l⟩:=oZ s;obtain⟨j,wc,m⟩:=oZ t;refine⟨i,y p,h,j,y p,wc,by rw[n.gT.2.2.2.1,l],by rw[n.gT.2.2.2.2,m],λe o=>?_⟩;rw[<-l,<-m];apply(mS (o.row s<|λk d=>⟨id,C k d⟩) (o.row t<|λk d=>⟨id,D k d⟩) (by omega)<|by omega).mono;rintro F v⟨rfl,q,A⟩;exact⟨by simp,q,A⟩
def ND(bh e bk:M)(b:cr Gb)(N bp mo:X)(bo:mo<=10)(h:Fk a (bC bh e (y b) bk) b)(hS:Steps a)(hP:Pow a)(hE:pD a):cw bF 5 #[bC bh e (y b) bk,am N,am bp,am mo,am 0] a λau w'=>au=aO (aL bU)/\Z az a w':=by
 have j:=Na bh e bk b h;have bi:∀(x:Bool)(a:Y),(Op.unary .not<|aL x).run bF a=.ok (aL<|!x) a:=λ_ _=>rfl;by_cases w:y b+Fu b<=1048576;(.rw[pG w]at j;obtain⟨m,s,bc,ax⟩:=gx h hS hP hE;clear h hS hP hE;(go_in);(go_wp2_with fail);apply j.mono;rintro au u⟨rfl,q,p⟩;(have r:Z az a u:=by rw[p];exact gP _ _ _);have al:=Hs N bp (Steps.ar s r id) (bc.ar r id)<|ax.ar r id;have n:=U r;clear j p r;(go_wp2_with fail);apply al.mono;rintro au w2⟨l,rfl,h2⟩;have ba:=U h2;clear al h2;(go_wp2_with fail);(go_loopw [14] (λa wr=>∃(i F:M),i<=y b/\a=am i/\AO u wr l [] F (i+1)/\2*F<=Fu (b.take i)) (λa _=>y b-(intOf a).toNat));(case atStart=>exact⟨0,0,bw _,rfl,ba,by simp⟩);(case round=>obtain⟨i,F,hi,rfl,V,hC⟩:=hrel;by_cases g:i<y b;(.have f:=ap g;have ad:Z az a wr:=n.ci V.ar;(have c:∀E u,b[i].cells[E]?=H u->aS wr (R bh<|e+i*6+E)=H u:=λE u A=>by(have B:E<6:=by rcases dE E 6 with t|t;exact t;rw[dq<|by exact t]at A;cases A);obtain⟨q1,⟨D,q0⟩|⟨g',S,Q,D,ac,T⟩⟩:=m.row;cases D;have t:=m.lt bh rfl;cases D;rw[aV];exact ad.cell (T _ _<|(qe b i g E B).trans A) id t);have c0:=c 0 _ rfl;have c1:=c 1 _ rfl;have c2:=c 2 _ rfl;have c3:=c 3 _ rfl;have c4:=c 4 _ rfl;have c5:=c 5 _ rfl;rw[jq]at c0;have C:=m.Vi _ f;have k:=m.str _ f;have ao:=m.YU _ f;have bg:=JN b i g;have bf:=SQ b<|i+1;have bd:=XG b[i];have x:VD u b[i].L b[i].cs:=C.ar n;(have bn:y b[i].cs<=1048576:=by(have t:y b[i].cs<=Gd b[i].cs:=by exact VE _);have h2:XR b[i]=b[i].S.size+b[i].T.size+Gd b[i].cs:=rfl;omega);obtain⟨lx,lc,W⟩:=Bo C;have d:(1<=b[i].kd/\b[i].kd<=10)->∀j,AO u j l [] F (i+1)->cw bF 8 #[aw l,wO b[i].kd b[i].A b[i].B b[i].S b[i].T b[i].L] j λau w'=>au=aO (aL bU)/\AO u w' l [] (F+Vb b[i]) (i+1+1):=λa j p=>Ti b[i] p a x k.1 ao (by omega) (by omega) (by omega);(have P:2*(F+Vb b[i])<=Fu (b.take<|i+1):=by omega);(have O:2*F<=Fu (b.take<|i+1):=by omega);have o:∀j,AO u j l [] F (i+1)->AO u j l [] F (i+1+1):=λj p=>p.mono (ah _) (by omega) (by omega) (by omega);have L:=U o;unfold wO at d;rw[W]at c5 d;generalize Vb b[i]=cc at*;generalize b[i].kd=kd at*;generalize b[i].A=oA at*;generalize b[i].B=oB at*;generalize b[i].S=oS at*;generalize b[i].T=oT at*;generalize y b[i].cs=ol at*;(have e1:(i:X)<(y b:X):=by omega);(have e0:(0:X)<=(i:X):=by omega);obtain⟨HL,s,av,K⟩:=gx V d P O;clear V hC ad c C k ao bg bf bd x W d P O o f;by_cases bl:kd<1;(.go_wp2;go_roundw;(case rel=>exact⟨i+1,F,g,by go_num,L _<|HL.still<|(Z.refl _ wr).alloc _,K⟩);case measure=>simp[intOf];omega);(.by_cases bm:mo<kd;(·(have t:¬kd=0:=by omega);go_wp2;go_roundw;(case rel=>exact⟨i+1,F,g,by go_num,L _<|HL.still<|(Z.refl _ wr).alloc _,K⟩);case measure=>simp[intOf];omega);(.have k:=s ⟨by omega,by omega⟩ _<|HL.still<|(Z.refl az wr).alloc<|fW kd oA oB oS oT<|I lx ol lc;unfold fW at k;clear s;(go_wp2_with fail);apply k.mono;rintro au E⟨rfl,h4⟩;obtain⟨ox,on,oc,wx,wn,wc,y5,y6,an⟩:=h4.outs;have A:=an E.drew<|bX _ _;(have t:aS E.drew (R l 5)=H (I ox on oc)/\aS E.drew (R l 6)=H (I wx wn wc):=by rw[bA,bA];exact⟨y5,y6⟩);have bb:=U h4;clear k h4 an y5 y6;(go_wp2_with fail);rename_i QQ KK S;refine cg (λB=>aS B (R l 5)=H (I ox on oc)/\aS B (R l 6)=H (I wx wn wc)) 9 (by kernel_rfl) ?_;refine cQ 0 ?_;(iterate 8 (refine eE (v:=?_) t rfl (by kernel_rfl) iO rfl ?_ ?_;rotate_left;(focus(rintro B⟨z0,z1⟩;go_simp;try rfl));simp only[Act.put,cX,gB,Nat.reduceAdd]));apply eh;refine aJ (i:=8) rfl rfl (by kernel_rfl) ?_;intro KC Q;go_simp;apply A.mono;rintro au w5⟨rfl,q5,D⟩;(have t5:Z az E.drew w5:=by rw[D];exact gP _ _ _);(have ac:aS w5 (R l 5)=H (I ox on oc)/\aS w5 (R l 6)=H (I wx wn wc):=by rw[D];exact⟨(cH (w:=E.drew) rfl).trans t.1,(cH (w:=E.drew) rfl).trans t.2⟩);refine Q _ _ (λ_=>ac) ?_;(try simp only[Act.put,cX,gB]);refine aJ (i:=9) rfl rfl (by kernel_rfl) ?_;intro KL T;go_simp;refine T _ _ wu ?_;refine cO (by kernel_rfl) ?_ _;show KK _ _;apply S;clear t ac A D t5 Q T S;go_wp2;go_roundw;(case rel=>exact⟨i+1,F+cc,g,by go_num,bb.still<|gP _ _ _,av⟩);case measure=>simp[intOf];omega)));(have e1:¬((i:X)<(y b:X)):=by omega);have HT:=U<|n.ci V.ar;clear V;go_wp2;go_ret;exact⟨rfl,HT⟩));rw[wh w]at j;clear h hS hP hE;(go_in);(go_wp2_with fail);apply j.mono;rintro au u⟨rfl,q,p⟩;have HT:=U (show Z az a u by rw[p];exact gP _ _ _);clear j p;go_wp2;go_ret;exact⟨rfl,HT⟩
def DZ(x:Option Addr)(t:M)(b T q:X)(g:Steps a)(f:Pow a)(e:pD a):cw bF 5 #[I x 0 t,am b,am T,am q,am 0] a λk j=>k=aO (aL bU)/\Z az a j:=by
 have d:cw bF 6 #[I x 0 t] a λk j=>k=aO (aL bU)/\j=a:=by clear g f e;(go_in);(go_wp2_with fail);(go_loopw [4] (λi wr=>i=am 0/\wr=a) (λ_ _=>0));(case atStart=>exact⟨rfl,rfl⟩);(case round=>obtain⟨rfl,o⟩:=hrel;subst wr;go_wp2;go_ret;exact⟨rfl,rfl⟩)
 have c:=Hs b T g f e;have m:∀(x:Bool)(a:Y),(Op.unary .not<|aL x).run bF a=.ok (aL<|!x) a:=λ_ _=>rfl;clear g f e;go_in
 go_wp2_with fail
 apply d.mono;rintro k r⟨rfl,p⟩;subst r;go_wp2_with fail
 apply c.mono;rintro k s⟨u,rfl,l⟩;have n:=U l.ar;clear c l d;go_wp2_with fail
 go_loopw [14] (λi wr=>i=am 0/\wr=s) (λ_ _=>0)
 case atStart=>exact⟨rfl,rfl⟩
 (case round=>obtain⟨rfl,o⟩:=hrel;subst wr;go_wp2;go_ret;exact⟨rfl,n⟩)
def QY(l:cr Gb)(b T e:X)(g:e<=10)(p:Fk a d l)(k:Steps a)(j:Pow a)(i:pD a):cw bF 5 #[d,am b,am T,am e,am 0] a λq o=>q=aO (aL bU)/\Z az a o:=by
 have n:=p.row;obtain⟨u,⟨h,t⟩|⟨r,c,f,h,m,s⟩⟩:=n;rw[h];exact DZ none 0 b T e k j i;subst h;exact ND r c f l b T e g p k j i
def Qu(c:cr Gb)(b T:X)(h:Fk a d c)(g:Steps a)(f:Pow a)(e:pD a):cw bF 3 #[d,am b,am T] a λo m=>o=aO (aL bU)/\Z az a m:=by
 have i:=QY c b T 10 (by omega) h g f e;have l:∃x n,d=I x (y c) n:=oZ h.row;obtain⟨x,n,rfl⟩:=l;clear h g f e;go_in
 go_wp2_with fail
 apply i.mono;rintro o p⟨rfl,j⟩;have k:=U j;clear i j;go_wp2;go_ret;exact⟨rfl,k⟩
def MY(x:Option Addr)(k:M)(b T:X)(e:Steps a)(d:Pow a)(c:pD a):cw bF 3 #[I x 0 k,am b,am T] a λl j=>l=aO (aL bU)/\Z az a j:=by
 have f:=DZ x k b T 10 e d c;clear e d c;go_in
 go_wp2_with fail
 apply f.mono;rintro l m⟨rfl,g⟩;have i:=U g;clear f g;go_wp2;go_ret;exact⟨rfl,i⟩
theorem UG:prog.globalNamed "levels/code.steps" =H 1:=by kernel_rfl
theorem YM:prog.globalNamed "internal/strconv.uint64pow10" =H 2:=by kernel_rfl
theorem Yf:prog.globalNamed "errors.errorType" =H 0:=by kernel_rfl
theorem Xh:(prog.globals[1]?).map (·.type)=H 354:=by kernel_rfl
theorem Yz:(prog.globals[2]?).map (·.type)=H 389:=by kernel_rfl
theorem Xf:prog.underlying 354=H (.array 16 96):=by kernel_rfl
theorem Yx:prog.underlying 389=H (.array 20 103):=by kernel_rfl
theorem XW:prog.underlying 96=H (.int .u32):=by kernel_rfl
theorem XV:prog.underlying 103=H (.int .u64):=by kernel_rfl
theorem YD:(prog.cutTypes.find? (·.1== "internal/reflectlite.rtype")).map (·.2)=H 230:=by kernel_rfl
theorem Xu:((List.range 445).filter λt=>prog.rowNamed t [101,114,114,111,114])=[50]:=by kernel_rfl
theorem Tb:prog.types.size=445:=by kernel_rfl
def Aq:cr (String×DataW Unit):=[("levels/code.steps",Rows.laid_levels_code_steps),("math/bits.deBruijn32tab",Rows.laid_math_bits_deBruijn32tab),("math/bits.deBruijn64tab",Rows.laid_math_bits_deBruijn64tab),("internal/strconv.uint64pow10",Rows.laid_internal_strconv_uint64pow10),("errors.errorType",Rows.laid_errors_errorType),("strconv.ErrRange",Rows.laid_strconv_ErrRange),("strconv.ErrSyntax",Rows.laid_strconv_ErrSyntax)]
theorem Wd{W:Y}(m:laidMetH bF Aq W):Steps W/\Pow W/\pD W:=by
 obtain⟨c,d⟩:=laidMetH_iff.1 m;have f:=c.filter (λx=>x.1== "levels/code.steps");rw[show((Aq.filter λx=>x.2.handleName?.isNone).filter λx=>x.1== "levels/code.steps")=[("levels/code.steps",Rows.laid_levels_code_steps)]by kernel_rfl]at f;have g:=c.filter (λx=>x.1== "internal/strconv.uint64pow10");rw[show((Aq.filter λx=>x.2.handleName?.isNone).filter λx=>x.1== "internal/strconv.uint64pow10")=[("internal/strconv.uint64pow10",Rows.laid_internal_strconv_uint64pow10)]by kernel_rfl]at g;rw[show(Aq.filter λx=>x.2.handleName?.isSome)=[("errors.errorType",Rows.laid_errors_errorType)]by kernel_rfl]at d;refine⟨?_,?_,?_⟩
 .have b:Lib.TabIs bF W "levels/code.steps" .u32 [0,498536548,997073096,651767980,1994146192,1802195444,1303535960,1342533948,3988292384,4027552580,3604390888,3412177804,2607071920,2262029012,2685067896,3183342108]:=Lib.tabIs_of_head UG Xh Xf XW (by kernel_rfl) (by kernel_rfl) f;intro k a;rw[World.var?_cell UG b k];have:∀k,k<16->(([0,498536548,997073096,651767980,1994146192,1802195444,1303535960,1342533948,3988292384,4027552580,3604390888,3412177804,2607071920,2262029012,2685067896,3183342108]:eK).map λb=>Value.int .u32 b).toArray[k]?=H (.int .u32 (Wz k)):=by
   intro k a;match k,a with
   |0,_|1,_|2,_|3,_|4,_|5,_|6,_|7,_|8,_|9,_|10,_|11,_|12,_|13,_|14,_|15,_=>rfl
   |n+16,m=>exact absurd m (by omega)
  exact this k a
 exact Lib.tabIs_of_head YM Yz Yx XV (by kernel_rfl) (by kernel_rfl) g;obtain⟨a,u,p,h,i,j,k,b⟩:=d _ (bG.2 rfl);have l:a=[101,114,114,111,114]:=(dC h).symm;subst l;obtain rfl:=dC (YD.symm.trans i);have e:p∈(List.range 445).filter λt=>prog.rowNamed t [101,114,114,111,114]:=cU.2 ⟨lY.2 (by rw[<-Tb];exact j),k⟩;rw[Xu]at e;obtain rfl:=bG.1 e;(have o:typeHandle bF 50=.pointer (H (R (7) 50)):=by kernel_rfl);rw[o]at b;unfold pD;simpa using World.var?_cell Yf b 0
theorem Mg{W:Y}{a n:M}{g:Addr}{b:iV}(h:W.cells? a g n=H b):y b=n/\∀j,j<n->aS W (g.add j)=b[j]?:=by
 unfold World.cells? at h;split at h;have f:=Lib.mapM_length h;refine⟨by simpa using f,λj e=>?_⟩;obtain⟨i,c,d⟩:=Lib.mapM_at h j j (by simp[e]);rw[d,c];cases h
theorem Kh{W:Y}{r:Addr}{f b:M}(h:0<f)(p:0<b){Q:M->iV->Prop}(B:∀i,i<f->∃e,W.cells? 0 (r.add (i*b)) b=H e/\Q i e):∃j a,r=(R j a)/\j<z (G W)/\∀i,i<f->∃e,y e=b/\(∀q,q<b->aS W (R j (a+i*b+q))=e[q]?)/\Q i e:=by
 obtain⟨e,n,_⟩:=B 0 h;obtain⟨t,l⟩:=Mg n;have k:=l 0 p;rw[zI]at k;have u:(r.add 0).add 0=r:=rfl;rw[u]at k;obtain⟨j,a,d⟩:=r;have A:∃C,aS W ⟨j,a,d⟩=H C:=⟨e[0]'(by omega),by rw[k];exact aH (by omega)⟩;obtain⟨C,g⟩:=A
 have m:j<z (G W)/\d=none:=by
  unfold World.cell? at g;simp only at g;split at g
  .rename_i D K E s;refine⟨?_,?_⟩
   .rcases dE j (z (G W))with c|c
    .exact c
    .rw[eF c]at s;cases s
   .split at g
    .cases g
    .rename_i o;cases d with
     |none=>rfl
     |some F=>simp at o
  .cases g
 obtain⟨m,rfl⟩:=m;refine⟨j,a,rfl,m,λi v=>?_⟩;obtain⟨e,n,x⟩:=B i v;obtain⟨t,l⟩:=Mg n;refine⟨e,t,λq w=>?_,x⟩;rw[<-l q w,Go.Deep.add_add];unfold Addr.add;by_cases c:i*b+q=0;rw[dw c,aV,c];rfl;rw[cY c,aV]
def yh(P:Program)(t:TypeId):Option (cr (TypeId×M)):=match P.underlying t with
 |some (.struct a)=>H (a.toList.map λf=>(f.type,f.offset))
 |_=>none
theorem zT{P:Program}{t:TypeId}{l:cr (TypeId×M)}(h:yh P t=H l):∃a,P.underlying t=H (.struct a)/\a.toList.map (λf=>(f.type,f.offset))=l:=by
 unfold yh at h;split at h;rename_i a b;exact⟨a,b,dC h⟩;cases h
theorem Ci{d:Type}{f:TypeId×aa->d}{P:Program}{x:Y}{b g:M}{q:M->Bool}{c:Bool}{w:TypeId}{o:iV}{A:DataW d×cr MemPlace}{u:cr (TypeId×M)}(s:yh P w=H u)(E:DataW.trod f P x b q c g w o=H A):∃(e:cr (DataW d×cr MemPlace))(v:M),A.1=.agg (e.map (·.1))/\y e=y u/\∀(n k a:M),u[n]?=H (k,a)->∃j,e[n]?=H j/\DataW.trod f P x b q c v k ((o.drop a).take (P.cellsOf k))=H j:=by
 obtain⟨D,t,rfl⟩:=zT s;obtain⟨e,v,_,rfl,_,m,r⟩:=DataW.trod_struct t E;refine⟨e,v,rfl,by simpa using m,λn k a p=>?_⟩;rw[dz,pK]at p;obtain⟨C,h,B⟩:=p;cases B;have l:=r n C (by simpa using h);have i:n<y e:=by have:=(fq.1 h).1;simp at this;omega
 exact⟨e[n],aH i,by rw[l,aH i]⟩
theorem wY{a:Type}{P:Program}{e:TypeId}:∀{l:cr (DataW a)}{d:DataW a},d∈l->∀n∈d.weights P e,n∈DataW.weightsAll P e l
 |[],_,h,_,_=>by cases h
 |x::r,d,h,n,b=>by
  rw[DataW.weightsAll];rcases aA.1 h with rfl|h
  .exact im _ b
  .exact ib _ (wY h n b)
theorem yN{a:Type}{P:Program}{t e:TypeId}(d:P.underlying t=H (.slice e))(b c:cr (DataW a)):(DataW.slice b c).weights P t=(y b+y c)*P.bytesOf e::(DataW.weightsAll P e b++DataW.weightsAll P e c):=by
 rw[DataW.weights,d]
theorem BW{a:Type}{P:Program}{t:TypeId}{l:cr (TypeId×M)}(c:yh P t=H l)(b:cr (DataW a)):(DataW.agg b).weights P t=DataW.weightsEach P (l.map (·.1)) b:=by
 obtain⟨e,d,rfl⟩:=zT c;rw[DataW.weights,d];simp only[iR];rfl
theorem WZ:yh bF 42=H [(9,0),(9,1),(4,2)]:=by kernel_rfl
theorem XY:yh bF 31=H [(3,0),(3,1),(3,2),(9,3),(9,4),(29,5)]:=by kernel_rfl
theorem Ta:prog.underlying 29=H (.slice 42):=by kernel_rfl
theorem Xg:prog.underlying 22=H (.slice 31):=by kernel_rfl
theorem VG:prog.underlying 9=H .string:=by kernel_rfl
theorem WX:prog.underlying 4=H .bool:=by kernel_rfl
theorem MM:prog.underlying 3=H (.int .i64):=by kernel_rfl
theorem Yl:prog.cellsOf 9=1:=by kernel_rfl
theorem Yn:prog.cellsOf 4=1:=by kernel_rfl
theorem YP:prog.cellsOf 3=1:=by kernel_rfl
theorem Ym:prog.cellsOf 29=1:=by kernel_rfl
theorem YQ:prog.cellsOf 42=3:=by kernel_rfl
theorem YZ:prog.cellsOf 31=6:=by kernel_rfl
theorem YS:prog.bytesOf 42=40:=by kernel_rfl
theorem Za:prog.bytesOf 31=80:=by kernel_rfl
theorem yY(l:uz):y (eQ l)=y l*3:=by
 induction l with
 |nil=>rfl
 |cons c l b=>
  have e:eQ (c::l)=oD c++eQ l:=rfl;rw[e,af,b,ay];have:y (oD c)=3:=rfl;omega
theorem Ae(l:cr Gb):y (rp l)=y l*6:=by
 induction l with
 |nil=>rfl
 |cons c l b=>
  have e:rp (c::l)=c.cells++rp l:=rfl;rw[e,af,b,ay];have:y c.cells=6:=rfl;omega
theorem pU{b:iV}{k:M}{u:aa}(h:(b.drop k).take 1=[u]):b[k]?=H u:=by
 have c:=bS (λl=>l[0]?) h;simpa[mD,oH]using c
section
variable{a:Type}{enc:TypeId×aa->a}
theorem TP{W:Y}{F:M->Bool}{c:Bool}{b:M}{d:iV}{P:DataW a×cr MemPlace}(Q:DataW.trod enc bF W 0 F c b 42 d=H P):∃m:OY,d[0]?=H (.string m.key)/\d[1]?=H (.string m.val)/\d[2]?=H (.bool m.del)/\(∀B,(∀O∈P.1.weights bF 42,O<=B)->m.key.size<=B/\m.val.size<=B):=by
 obtain⟨s,O,D,C,i⟩:=Ci WZ Q;obtain⟨K,f,p⟩:=i 0 _ _ rfl;obtain⟨L,g,q⟩:=i 1 _ _ rfl;obtain⟨N,h,r⟩:=i 2 _ _ rfl;rw[Yl]at p q;rw[Yn]at r;obtain⟨n,t,w,_⟩:=pS VG p;obtain⟨o,u,x,_⟩:=pS VG q;obtain⟨E,v,A⟩:=DataW.trod_bool WX r;refine⟨⟨n,o,E⟩,pU t,pU u,pU v,λB e=>?_⟩
 have j:s=[K,L,N]:=by
  match s,C,f,g,h with
  |[k,l,S],_,f,g,h=>
   simp at f g h;rw[f,g,h]
 rw[D,j,BW WZ,w,x,A]at e;simp only[aX,eY,DataW.weightsEach,DataW.weights,ak,aA,eI,kJ]at e;have k:=e (y n.data.toList) (by simp);have l:=e (y o.data.toList) (by simp);rw[iF]at k l;exact⟨k,l⟩
theorem Rh{W:Y}{m:M}{ad:aa}{an:DataW a×cr MemPlace}(au:DataW.trod enc bF W 0 (λ_=>bU) bU m 29 [ad]=H an)(t:∀q∈an.1.weights bF 29,q<=140737488351232):∃h:uz,VD W ad h/\(∀l∈h,l.key.size<=140737488351232/\l.val.size<=140737488351232)/\y h<=10000000000000:=by
 rcases Go.Deep.open_slice Ta au with⟨k,_⟩|⟨ao,b,O,al,q,L,N,k,_,hl,_,E,P,n⟩;simp only[mP,sC]at k;exact⟨[],.inl ⟨⟨rfl,.inl ⟨k,rfl⟩⟩,λav r=>by rw[k]at r;cases r⟩,by simp,by simp⟩;simp only[mP,sC]at k;simp only[jf]at E;subst k E;by_cases h0:b=0;subst h0;exact⟨[],.inr ⟨rfl,ao,al,rfl⟩,by simp,by simp⟩;rw[YQ]at n;obtain⟨K,c,rfl,hb,u⟩:=Kh (Q:=λi h=>DataW.trod enc bF W 0 (λ_=>bU) bU q 42 h=H (L i,N i)) (by omega:0<b) (by omega:0<3) (λi e=>n i (by omega));(have p:∀i,i<b->∃l:OY,aS W (R K (c+i*3))=H (.string l.key)/\aS W (R K (c+i*3+1))=H (.string l.val)/\aS W (R K (c+i*3+2))=H (.bool l.del)/\(∀B,(∀q∈(L i).weights bF 42,q<=B)->l.key.size<=B/\l.val.size<=B):=by intro i e;obtain⟨h,s,g,v⟩:=u i e;obtain⟨l,A,C,S,T⟩:=TP v;exact⟨l,(g 0 (by omega)).trans A,(g 1 (by omega)).trans C,(g 2 (by omega)).trans S,T⟩);have F:Inhabited OY:=⟨⟨⟨#[]⟩,⟨#[]⟩,bE⟩⟩;obtain⟨x,D⟩:=Go.Deep.choose_lt p;rw[P,yN Ta,YS]at t;(have o:b<=10000000000000:=by have:=t _ (dy);simp only[cV,List.length_range]at this;omega);have w:∀i,i<b->∀q∈(L i).weights bF 42,q<=140737488351232:=λi e q c=>t q (aG _ (im _ (wY (aY.2 ⟨i,lY.2 e,rfl⟩) q c)));(have d:y ((List.range b).map x)=b:=by simp);refine⟨(List.range b).map x,.inl ⟨⟨by rw[yY],.inr ⟨K,c,al,by rw[d],by rw[d];exact hl,λj ax f=>?_⟩⟩,λav r=>by cases r;exact hb⟩,λl hc=>?_,by rw[d];exact o⟩;(have ac:j<b*3:=by have:=(fq.1 f).1;rw[yY,d]at this;exact this);(have e:j/3<b:=by omega);obtain⟨A,B,C⟩:=kT ((List.range b).map x) (j/3) (by rw[d];exact e);obtain⟨S,T,V,_⟩:=D (j/3) e;(have s:j%3=0\/j%3=1\/j%3=2:=by omega);(have v:((List.range b).map x)[j/3]'(by rw[d];exact e)=x (j/3):=by simp);rw[v]at A B C;rcases s with s|s|s;(have g:j=j/3*3:=by omega);rw[g]at f|-;rw[A]at f;rw[S,f];(have g:j=j/3*3+1:=by omega);rw[g]at f|-;rw[B]at f;rw[<-aV,T,f];(have g:j=j/3*3+2:=by omega);rw[g]at f|-;rw[C]at f;rw[<-aV,V,f];obtain⟨i,e,rfl⟩:=aY.1 hc;have g:=lY.1 e;exact(D i g).2.2.2 _ (w i g)
end
section
variable{a:Type}{enc:TypeId×aa->a}
theorem Wb{an:Y}{c:M}{n:iV}{au:DataW a×cr MemPlace}(ad:DataW.trod enc bF an 0 (λ_=>bU) bU c 31 n=H au)(d:∀v∈au.1.weights bF 31,v<=140737488351232):∃s:Gb,(∀x,x<6->n[x]?=s.cells[x]?)/\VD an s.L s.cs/\(s.S.size<=140737488351232/\s.T.size<=140737488351232)/\(∀ao∈s.cs,ao.key.size<=140737488351232/\ao.val.size<=140737488351232)/\y s.cs<=10000000000000:=by
 obtain⟨L,v,hx,hl,b⟩:=Ci XY ad;obtain⟨y0,f,C⟩:=b 0 _ _ rfl;obtain⟨y1,g,D⟩:=b 1 _ _ rfl;obtain⟨y2,h,E⟩:=b 2 _ _ rfl;obtain⟨y3,i,F⟩:=b 3 _ _ rfl;obtain⟨y4,j,K⟩:=b 4 _ _ rfl;obtain⟨y5,k,l⟩:=b 5 _ _ rfl;rw[YP]at C D E;rw[Yl]at F K;rw[Ym]at l;obtain⟨s0,O,V,_⟩:=wU MM C;obtain⟨s1,P,W,_⟩:=wU MM D;obtain⟨s2,Q,b2,_⟩:=wU MM E;obtain⟨A,S,b3,_⟩:=pS VG F;obtain⟨B,T,b4,_⟩:=pS VG K;have hL:∃N,(n.drop 5).take 1=[N]:=by rcases Go.Deep.open_slice Ta l with⟨o,_⟩|⟨ax,al,ac,ba,v,av,Pl,o,_⟩;exact⟨_,o⟩;exact⟨_,o⟩
 obtain⟨N,w⟩:=hL;rw[w]at l
 have r:L=[y0,y1,y2,y3,y4,y5]:=by
  match L,hl,f,g,h,i,j,k with
  |[o,z1,z2,t,u,z5],_,f,g,h,i,j,k=>
   simp at f g h i j k;rw[f,g,h,i,j,k]
 rw[hx,r,BW XY,V,W,b2,b3,b4]at d;simp only[aX,eY,DataW.weightsEach]at d;have t:=d (y A.data.toList) (by simp[DataW.weights]);have u:=d (y B.data.toList) (by simp[DataW.weights]);rw[iF]at t u;obtain⟨m,e,q,p⟩:=Rh l (λv b=>d v (by simp[b]));refine⟨⟨s0,s1,s2,A,B,N,m⟩,λx hj=>?_,e,⟨t,u⟩,q,p⟩;match x,hj with
 |0,_=>exact pU O
 |1,_=>exact pU P
 |2,_=>exact pU Q
 |3,_=>exact pU S
 |4,_=>exact pU T
 |5,_=>exact pU w
 |v+6,ad=>exact absurd ad (by omega)
theorem KS{W:Y}{k:M}{v:aa}{N:DataW a×cr MemPlace}(an:DataW.trod enc bF W 0 (λ_=>bU) bU k 22 [v]=H N)(u:∀r∈N.1.weights bF 22,r<=140737488351232):(∃N L,v=.slice N 0 L)\/∃os,Fk W v os:=by
 rcases Go.Deep.open_slice Xg an with⟨h,_⟩|⟨au,b,P,ao,r,ad,O,h,_,hl,_,E,S,l⟩;simp only[mP,sC]at h;exact .inl ⟨_,_,h⟩;simp only[mP,sC]at h;simp only[jf]at E;subst h E;by_cases T:b=0;subst T;exact .inl ⟨_,_,rfl⟩;right;rw[YZ]at l;obtain⟨al,f,rfl,V,w⟩:=Kh (Q:=λi B=>DataW.trod enc bF W 0 (λ_=>bU) bU r 31 B=H (ad i,O i)) (by omega:0<b) (by omega:0<6) (λi c=>l i (by omega));rw[S,yN Xg,Za]at u;(have p:b<=10000000000000:=by have:=u _ (dy);simp only[cV,List.length_range]at this;omega);have A:∀i,i<b->∀r∈(ad i).weights bF 31,r<=140737488351232:=λi c r d=>u r (aG _ (im _ (wY (aY.2 ⟨i,lY.2 c,rfl⟩) r d)));(have q:∀i,i<b->∃o:Gb,(∀j,j<6->aS W (R al (f+i*6+j))=o.cells[j]?)/\VD W o.L o.cs/\(o.S.size<=140737488351232/\o.T.size<=140737488351232)/\(∀L∈o.cs,L.key.size<=140737488351232/\L.val.size<=140737488351232)/\y o.cs<=10000000000000:=by intro i c;obtain⟨B,x,t,C⟩:=w i c;obtain⟨o,D,F⟩:=Wb C (A i c);exact⟨o,λj n=>(t j n).trans (D j n),F⟩);have K:Inhabited Gb:=⟨⟨0,0,0,⟨#[]⟩,⟨#[]⟩,aK,[]⟩⟩;obtain⟨s,m⟩:=Go.Deep.choose_lt q;(have e:y ((List.range b).map s)=b:=by simp);(have d:∀o∈(List.range b).map s,∃i,i<b/\s i=o:=λo g=>by obtain⟨i,c,rfl⟩:=aY.1 g;exact⟨i,lY.1 c,rfl⟩);refine⟨(List.range b).map s,⟨⟨by rw[Ae],.inr ⟨al,f,ao,by rw[e],by rw[e];exact hl,λj ax n=>?_⟩⟩,λo g=>?_,λav hk=>by cases hk;exact V,λo g=>?_,λo g=>?_,by rw[e];exact p,λo g=>?_⟩⟩;(have ac:j<b*6:=by have:=(fq.1 n).1;rw[Ae,e]at this;exact this);(have c:j/6<b:=by omega);(have F:j%6<6:=by omega);have t:=qe ((List.range b).map s) (j/6) (by rw[e];exact c) (j%6) F;have D:=(m (j/6) c).1 (j%6) F;(have x:((List.range b).map s)[j/6]'(by rw[e];exact c)=s (j/6):=by simp);rw[x]at t;(have C:j/6*6+j%6=j:=by omega);rw[C]at t;rw[aV,C]at D;rw[D,<-t,n];obtain⟨i,c,rfl⟩:=d o g;exact(m i c).2.1;obtain⟨i,c,rfl⟩:=d o g;exact(m i c).2.2.1;obtain⟨i,c,rfl⟩:=d o g;exact(m i c).2.2.2.1;obtain⟨i,c,rfl⟩:=d o g;exact(m i c).2.2.2.2
end
