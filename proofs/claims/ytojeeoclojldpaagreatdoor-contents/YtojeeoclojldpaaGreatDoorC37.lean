import Derived.Deep.Slices
import Derived.LaidHandle
import Derived.LaidSub
import Derived.Lib.LaidTab
import Derived.Test.YtojeeoclojldpaaGreatDoorRows
import Derived.Test.YtojeeoclojldpaaGreatDoorC8
import Derived.Test.YtojeeoclojldpaaGreatDoorC35
import Derived.Test.YtojeeoclojldpaaGreatDoorC36
open _root_ renaming List.length→y,Option.some→H,Array.size→z,Go.World.heap→G,Go.World.cell?→aT,Go.World.alloc→ct,Bool.false→bF,Bool.true→bW,Nat→M,Int→Z,List→cr,Go.Calls→cy,Go.Proofs.Tryz.prog→bG,Go.Value.slice→J,Go.Value.bool→aL
namespace Go.Proofs.YtojeeoclojldpaaGreatDoor
open ChangeShapes WideShapes RowKit Proofs.Tryz
set_option maxHeartbeats 16000000
set_option linter.all false
set_option maxRecDepth 100000
variable{a f C:I}{b c g l P:M}{d:aa}
def BN.mono{O:cr (M×Obj)}(r:BN a C b O c l)(s:c<=g)(k:g<=1000000)(t:l<=P)(m:P<=100000000):BN a C b O g P:=by
 obtain⟨q,h,w,v,n,e,o,j,u,x,d,r⟩:=r;exact⟨q,h,w,v,n,e,o,j,u,x,d,r.mono s k t m⟩
def BN.still{j W W':I}{O:cr (M×Obj)}(l:BN j W b O c g)(m:Y aB W W'):BN j W' b O c g:=by
 obtain⟨k,e,p,o,h,d,i,f,n,q,a,l⟩:=l;exact⟨k,e,p,o,h,d,i,f,n,q,a,l.still m⟩
def UQ(o:Gc):M:=if o.kd=1 then lw o.cs else if o.kd=4 then lw (o.cs.take 1)else 0
def Jt{a:uz}(q:lL a=0):∀x∈a,1<=x.key.size:=by
 induction a with
 |nil=>simp
 |cons e a c=>
  unfold lL at q;split at q
  .cases q
  .rename_i d;split at q
   .cases q
   .intro x b;rcases az.1 b with rfl|b
    .omega
    .exact c q x b
def PE(a:uz):2*lw a<=Ge a:=by
 unfold lw;by_cases q:fY a=0
 .rw[dw q];have b:∀x∈a,1<=x.key.size:=by
   unfold fY at q;split at q
   .cases q
   .exact Jt q
  clear q;induction a with
  |nil=>simp
  |cons d a c=>
   have e:=b d (by simp);have f:=c<|λx a=>b x<|aJ _ a;unfold Ge at*;simp only[ay,aY,iL];omega
 rw[cW q];omega
def Xx(o:Gc):2*UQ o<=XI o:=by
 unfold UQ XI;split;have:=PE o.cs;omega;split;have:=PE<|o.cs.take 1;have:=SI o.cs 1;omega;omega
def SZ(t:Gc)(K:BN a f b [] c g)(hk:1<=t.kd/\t.kd<=6)(m:Vs a t.L t.cs)(N:t.S.size<=140737488351232)(C:∀j∈t.cs,j.key.size<=140737488351232/\j.val.size<=140737488351232)(p:y t.cs<=1000000000)(o:c+UQ t<=1000000)(u:g+1<=100000000):cy bG 7 #[aA b,AN t.kd t.A t.B t.S t.T t.L] f λQ D=>Q=aO (aL bW)/\BN a D b [] (c+UQ t) (g+1):=by
 obtain⟨db,al,rb,pb,au,ac,av,an,lo,ba,F,K⟩:=K;obtain⟨r,A,B,S,T,ax,d⟩:=t;simp only at hk m N C p|-;obtain⟨E,j,hL⟩:=Bl m;subst hL;have X:r=1\/r=2\/r=3\/r=4\/r=5\/r=6:=by omega
 have h:∀{i:I}{e f:M},BN a i b [] e f->e<=c+UQ ⟨r,A,B,S,T,J E (y d) j,d⟩->f<=g+1->BN a i b [] (c+UQ ⟨r,A,B,S,T,J E (y d) j,d⟩) (g+1):=λq k l=>q.mono k o l u;have k:∀a,Y aB f (ct f<|gR a A B S T<|J E (y d) j):=λa=>(Y.refl _ f).alloc _;rcases X with rfl|rfl|rfl|rfl|rfl|rfl;have V:UQ ⟨1,A,B,S,T,J E (y d) j,d⟩=lw d:=rfl;rw[V]at o|-;rcases m with⟨⟨O,⟨s,q0⟩|⟨W,e,P,s,x,L⟩⟩,v⟩|⟨O,ad,c',s⟩;have l:d=[]:=oQ.1 q0;subst l;cases s;exact Dy K A B S T o u;cases s;have w:=v W rfl;by_cases n:y d=0;have l:d=[]:=oQ.1 n;subst l;exact wo K A B S T (R W e) j o u;exact Dx K A B S T W e (y d) j d rfl (by omega) x p w L C o u;subst O;cases s;exact wo K A B S T ad j o u;refine uR 2 A B S T E (y d) j _ (.inl rfl)<|(Tv (K.still<|k 2) A B S T E (y d) j N).mono ?_;rintro Q D⟨rfl,i⟩;exact⟨rfl,h ⟨_,_,_,_,_,_,_,_,_,_,_,i⟩ (by omega)<|by omega⟩;refine uR 3 A B S T E (y d) j _ (.inr<|.inl rfl)<|(QJ (K.still<|k 3) A B S T E (y d) j).mono ?_;rintro Q D⟨rfl,ad,l,ao,i⟩;exact⟨rfl,h ⟨_,_,_,_,_,_,_,_,_,_,_,i⟩ (by omega)<|by omega⟩;by_cases hA:0<A;refine uR 4 A B S T E (y d) j _ (.inr<|.inr<|.inl rfl)<|(Bd (K.still<|k 4) A B S T E (y d) j hA).mono ?_;rintro Q D⟨rfl,i⟩;exact⟨rfl,h ⟨_,_,_,_,_,_,_,_,_,_,_,i⟩ (by omega)<|by omega⟩;by_cases n:A<0->y d=0;refine uR 4 A B S T E (y d) j _ (.inr<|.inr<|.inl rfl)<|(CN (K.still<|k 4) A B S T E (y d) j (by omega) n).mono ?_;rintro Q D⟨rfl,i⟩;exact⟨rfl,h ⟨_,_,_,_,_,_,_,_,_,_,_,i⟩ (by omega)<|by omega⟩;obtain⟨ad,n⟩:=Classical.not_imp.1 n;rcases m with⟨⟨O,⟨s,q0⟩|⟨W,e,P,s,x,L⟩⟩,v⟩|⟨O,_⟩;omega;cases s;have w:=v W rfl;rcases d with _|⟨l,d⟩;simp at n;have V:UQ ⟨4,A,B,S,T,bD W e (y<|l::d) j,l::d⟩=lw [⟨l.key,l.val,l.del⟩]:=rfl;rw[V]at o|-;refine uR 4 A B S T _ (y<|l::d) j _ (.inr<|.inr<|.inl rfl) ?_;exact Nu (K.still<|k 4) A B S T W e _ j l.key l.val l.del (by omega) (by simp) x (by omega) w (L 0 _ rfl) (L 1 _ rfl) (L 2 _ rfl) (C l<|by simp) o u;rw[O]at n;simp at n;apply(MS K A B S T E (y d) j).mono;rintro Q D⟨rfl,i⟩;exact⟨rfl,h i (by omega)<|by omega⟩;apply(Qd K A B S T E (y d) j u).mono;rintro Q D⟨rfl,i|i⟩;exact⟨rfl,h i (by omega)<|by omega⟩;exact⟨rfl,h i (by omega)<|by omega⟩
def BN.aw{O:cr (M×Obj)}(k:BN a C b O c g):Y aB a C:=by
 obtain⟨n,h,q,p,l,e,m,j,o,r,d,k⟩:=k;exact k.aw
def Vt(a:uz):y a<=Ge a:=by
 induction a with
 |nil=>simp
 |cons c a b=>
  unfold Ge at*;simp only[ay,aY,iL];omega
def BN.outs{O:cr (M×Obj)}(n:BN a f b O c g):∃i r h j x wc,aT f (R b 5)=H (J i r h)/\aT f (R b 6)=H (J j x wc)/\∀e,Y aB f e->cy bG 8 #[J i r h,J j x wc] e λF v=>F=aO (aL bW)/\∃q,v=e.drewN q:=by
 obtain⟨K,u,P,N,B,k,E,w,p,Q,d,n⟩:=n;obtain⟨_,C,D,_,_,s,t,L⟩:=n.FN;obtain⟨i,h,l⟩:=oY s;obtain⟨j,wc,m⟩:=oY t;refine⟨i,y p,h,j,y p,wc,by rw[n.jr.2.2.2.1,l],by rw[n.jr.2.2.2.2,m],λe o=>?_⟩;rw[<-l,<-m];apply(ou (o.row s<|λk d=>⟨id,C k d⟩) (o.row t<|λk d=>⟨id,D k d⟩) (by omega)<|by omega).mono;rintro F v⟨rfl,q,A⟩;exact⟨by simp,q,A⟩
def Nz(bg e bi:M)(b:cr Gc)(N bo mo:Z)(bn:mo<=6)(h:Fk a (bD bg e (y b) bi) b)(hS:Steps a)(hP:Pow a)(hE:pD a):cy bG 4 #[bD bg e (y b) bi,ap N,ap bo,ap mo,ap 0] a λao w'=>ao=aO (aL bW)/\Y aB a w':=by
 have j:=MZ bg e bi b h;have bh:∀(x:Bool)(a:I),(Op.unary .not<|aL x).run bG a=.ok (aL<|!x) a:=λ_ _=>rfl;by_cases w:y b+Fu b<=1048576;(.rw[pG w]at j;obtain⟨m,s,bb,av⟩:=gx h hS hP hE;clear h hS hP hE;(go_in);(go_wp2_with fail);apply j.mono;rintro ao u⟨rfl,q,p⟩;(have r:Y aB a u:=by rw[p];exact ia _ _ _);have ad:=Ht N bo (Steps.aw s r id) (bb.aw r id)<|av.aw r id;have n:=U r;clear j p r;(go_wp2_with fail);apply ad.mono;rintro ao w2⟨l,rfl,h2⟩;have ax:=U h2;clear ad h2;(go_wp2_with fail);(go_loopw [14] (λa wr=>∃(i F:M),i<=y b/\a=ap i/\BN u wr l [] F (i+1)/\2*F<=Fu (b.take i)) (λa _=>y b-(intOf a).toNat));(case atStart=>exact⟨0,0,bA _,rfl,ax,by simp⟩);(case round=>obtain⟨i,F,hi,rfl,V,hC⟩:=hrel;by_cases g:i<y b;(.have f:=aq g;have ac:Y aB a wr:=n.ci V.aw;(have c:∀E u,b[i].cells[E]?=H u->aT wr (R bg<|e+i*6+E)=H u:=λE u A=>by(have B:E<6:=by rcases dF E 6 with t|t;exact t;rw[dl<|by exact t]at A;cases A);obtain⟨q1,⟨D,q0⟩|⟨g',S,Q,D,X,T⟩⟩:=m.row;cases D;have t:=m.lt bg rfl;cases D;rw[aV];exact ac.cell (T _ _<|(qe b i g E B).trans A) id t);have c0:=c 0 _ rfl;have c1:=c 1 _ rfl;have c2:=c 2 _ rfl;have c3:=c 3 _ rfl;have c4:=c 4 _ rfl;have c5:=c 5 _ rfl;rw[jn]at c0;have C:=m.UX _ f;have k:=m.str _ f;have an:=m.YQ _ f;have bf:=JP b i g;have bd:=SG b<|i+1;have bc:=Xx b[i];have x:Vs u b[i].L b[i].cs:=C.aw n;(have bm:y b[i].cs<=1048576:=by(have t:y b[i].cs<=Ge b[i].cs:=by exact Vt _);have h2:XI b[i]=b[i].S.size+b[i].T.size+Ge b[i].cs:=rfl;omega);obtain⟨lx,lc,W⟩:=Bl C;have d:(1<=b[i].kd/\b[i].kd<=6)->∀j,BN u j l [] F (i+1)->cy bG 7 #[aA l,AN b[i].kd b[i].A b[i].B b[i].S b[i].T b[i].L] j λao w'=>ao=aO (aL bW)/\BN u w' l [] (F+UQ b[i]) (i+1+1):=λa j p=>SZ b[i] p a x k.1 an (by omega) (by omega) (by omega);(have P:2*(F+UQ b[i])<=Fu (b.take<|i+1):=by omega);(have O:2*F<=Fu (b.take<|i+1):=by omega);have o:∀j,BN u j l [] F (i+1)->BN u j l [] F (i+1+1):=λj p=>p.mono (ah _) (by omega) (by omega) (by omega);have L:=U o;unfold AN at d;rw[W]at c5 d;generalize UQ b[i]=cc at*;generalize b[i].kd=kd at*;generalize b[i].A=oA at*;generalize b[i].B=oB at*;generalize b[i].S=oS at*;generalize b[i].T=oT at*;generalize y b[i].cs=ol at*;(have e1:(i:Z)<(y b:Z):=by omega);(have e0:(0:Z)<=(i:Z):=by omega);obtain⟨HL,s,au,K⟩:=gx V d P O;clear V hC ac c C k an bf bd bc x W d P O o f;by_cases bk:kd<1;(.go_wp2;go_roundw;(case rel=>exact⟨i+1,F,g,by go_num,L _<|HL.still<|(Y.refl _ wr).alloc _,K⟩);case measure=>simp[intOf];omega);(.by_cases bl:mo<kd;(·(have t:¬kd=0:=by omega);go_wp2;go_roundw;(case rel=>exact⟨i+1,F,g,by go_num,L _<|HL.still<|(Y.refl _ wr).alloc _,K⟩);case measure=>simp[intOf];omega);(.have k:=s ⟨by omega,by omega⟩ _<|HL.still<|(Y.refl aB wr).alloc<|gR kd oA oB oS oT<|J lx ol lc;unfold gR at k;clear s;(go_wp2_with fail);apply k.mono;rintro ao E⟨rfl,h4⟩;obtain⟨ox,on,oc,wx,wn,wc,y5,y6,al⟩:=h4.outs;have A:=al E.drew<|cf _ _;(have t:aT E.drew (R l 5)=H (J ox on oc)/\aT E.drew (R l 6)=H (J wx wn wc):=by rw[bB,bB];exact⟨y5,y6⟩);have ba:=U h4;clear k h4 al y5 y6;(go_wp2_with fail);rename_i QQ KK S;refine cJ (λB=>aT B (R l 5)=H (J ox on oc)/\aT B (R l 6)=H (J wx wn wc)) 9 (by kernel_rfl) ?_;refine dA 0 ?_;(iterate 8 (refine fw (v:=?_) t rfl (by kernel_rfl) jU rfl ?_ ?_;rotate_left;(focus(rintro B⟨z0,z1⟩;go_simp;try rfl));simp only[Act.put,du,iy,Nat.reduceAdd]));apply eX;refine aP (i:=8) rfl rfl (by kernel_rfl) ?_;intro KC Q;go_simp;apply A.mono;rintro ao w5⟨rfl,q5,D⟩;(have t5:Y aB E.drew w5:=by rw[D];exact ia _ _ _);(have X:aT w5 (R l 5)=H (J ox on oc)/\aT w5 (R l 6)=H (J wx wn wc):=by rw[D];exact⟨(cH (w:=E.drew) rfl).trans t.1,(cH (w:=E.drew) rfl).trans t.2⟩);refine Q _ _ (λ_=>X) ?_;(try simp only[Act.put,du,iy]);refine aP (i:=9) rfl rfl (by kernel_rfl) ?_;intro KL T;go_simp;refine T _ _ yR ?_;refine dp (by kernel_rfl) ?_ _;show KK _ _;apply S;clear t X A D t5 Q T S;go_wp2;go_roundw;(case rel=>exact⟨i+1,F+cc,g,by go_num,ba.still<|ia _ _ _,au⟩);case measure=>simp[intOf];omega)));(have e1:¬((i:Z)<(y b:Z)):=by omega);have HT:=U<|n.ci V.aw;clear V;go_wp2;go_ret;exact⟨rfl,HT⟩));rw[wi w]at j;clear h hS hP hE;(go_in);(go_wp2_with fail);apply j.mono;rintro ao u⟨rfl,q,p⟩;have HT:=U (show Y aB a u by rw[p];exact ia _ _ _);clear j p;go_wp2;go_ret;exact⟨rfl,HT⟩
def DZ(x:Option Addr)(t:M)(b T q:Z)(g:Steps a)(f:Pow a)(e:pD a):cy bG 4 #[J x 0 t,ap b,ap T,ap q,ap 0] a λk j=>k=aO (aL bW)/\Y aB a j:=by
 have d:cy bG 5 #[J x 0 t] a λk j=>k=aO (aL bW)/\j=a:=by clear g f e;(go_in);(go_wp2_with fail);(go_loopw [4] (λi wr=>i=ap 0/\wr=a) (λ_ _=>0));(case atStart=>exact⟨rfl,rfl⟩);(case round=>obtain⟨rfl,o⟩:=hrel;subst wr;go_wp2;go_ret;exact⟨rfl,rfl⟩)
 have c:=Ht b T g f e;have m:∀(x:Bool)(a:I),(Op.unary .not<|aL x).run bG a=.ok (aL<|!x) a:=λ_ _=>rfl;clear g f e;go_in
 go_wp2_with fail
 apply d.mono;rintro k r⟨rfl,p⟩;subst r;go_wp2_with fail
 apply c.mono;rintro k s⟨u,rfl,l⟩;have n:=U l.aw;clear c l d;go_wp2_with fail
 go_loopw [14] (λi wr=>i=ap 0/\wr=s) (λ_ _=>0)
 case atStart=>exact⟨rfl,rfl⟩
 (case round=>obtain⟨rfl,o⟩:=hrel;subst wr;go_wp2;go_ret;exact⟨rfl,n⟩)
def QP(l:cr Gc)(b T e:Z)(g:e<=6)(p:Fk a d l)(k:Steps a)(j:Pow a)(i:pD a):cy bG 4 #[d,ap b,ap T,ap e,ap 0] a λq o=>q=aO (aL bW)/\Y aB a o:=by
 have n:=p.row;obtain⟨u,⟨h,t⟩|⟨r,c,f,h,m,s⟩⟩:=n;rw[h];exact DZ none 0 b T e k j i;subst h;exact Nz r c f l b T e g p k j i
def Jp(c:cr Gc)(b T:Z)(h:Fk a d c)(g:Steps a)(f:Pow a)(e:pD a):cy bG 3 #[d,ap b,ap T] a λo m=>o=aO (aL bW)/\Y aB a m:=by
 have i:=QP c b T 6 (by omega) h g f e;have l:∃x n,d=J x (y c) n:=oY h.row;obtain⟨x,n,rfl⟩:=l;clear h g f e;go_in
 go_wp2_with fail
 apply i.mono;rintro o p⟨rfl,j⟩;have k:=U j;clear i j;go_wp2;go_ret;exact⟨rfl,k⟩
def FV(x:Option Addr)(k:M)(b T:Z)(e:Steps a)(d:Pow a)(c:pD a):cy bG 3 #[J x 0 k,ap b,ap T] a λl j=>l=aO (aL bW)/\Y aB a j:=by
 have f:=DZ x k b T 6 e d c;clear e d c;go_in
 go_wp2_with fail
 apply f.mono;rintro l m⟨rfl,g⟩;have i:=U g;clear f g;go_wp2;go_ret;exact⟨rfl,i⟩
theorem Uv:prog.globalNamed "levels/code.steps" =H 1:=by kernel_rfl
theorem YI:prog.globalNamed "internal/strconv.uint64pow10" =H 2:=by kernel_rfl
theorem Ya:prog.globalNamed "errors.errorType" =H 0:=by kernel_rfl
theorem WW:(prog.globals[1]?).map (·.type)=H 354:=by kernel_rfl
theorem Yv:(prog.globals[2]?).map (·.type)=H 389:=by kernel_rfl
theorem WU:prog.underlying 354=H (.array 16 96):=by kernel_rfl
theorem Yt:prog.underlying 389=H (.array 20 103):=by kernel_rfl
theorem XO:prog.underlying 96=H (.int .u32):=by kernel_rfl
theorem XN:prog.underlying 103=H (.int .u64):=by kernel_rfl
theorem Yz:(prog.cutTypes.find? (·.1== "internal/reflectlite.rtype")).map (·.2)=H 230:=by kernel_rfl
theorem Xk:((List.range 445).filter λt=>prog.rowNamed t [101,114,114,111,114])=[50]:=by kernel_rfl
theorem SP:prog.types.size=445:=by kernel_rfl
def Ao:cr (String×DataW Unit):=[("levels/code.steps",Rows.laid_levels_code_steps),("math/bits.deBruijn32tab",Rows.laid_math_bits_deBruijn32tab),("math/bits.deBruijn64tab",Rows.laid_math_bits_deBruijn64tab),("internal/strconv.uint64pow10",Rows.laid_internal_strconv_uint64pow10),("errors.errorType",Rows.laid_errors_errorType),("strconv.ErrRange",Rows.laid_strconv_ErrRange),("strconv.ErrSyntax",Rows.laid_strconv_ErrSyntax)]
theorem VP{W:I}(m:laidMetH bG Ao W):Steps W/\Pow W/\pD W:=by
 obtain⟨c,d⟩:=laidMetH_iff.1 m;have f:=c.filter (λx=>x.1== "levels/code.steps");rw[show((Ao.filter λx=>x.2.handleName?.isNone).filter λx=>x.1== "levels/code.steps")=[("levels/code.steps",Rows.laid_levels_code_steps)]by kernel_rfl]at f;have g:=c.filter (λx=>x.1== "internal/strconv.uint64pow10");rw[show((Ao.filter λx=>x.2.handleName?.isNone).filter λx=>x.1== "internal/strconv.uint64pow10")=[("internal/strconv.uint64pow10",Rows.laid_internal_strconv_uint64pow10)]by kernel_rfl]at g;rw[show(Ao.filter λx=>x.2.handleName?.isSome)=[("errors.errorType",Rows.laid_errors_errorType)]by kernel_rfl]at d;refine⟨?_,?_,?_⟩
 .have b:Lib.TabIs bG W "levels/code.steps" .u32 [0,498536548,997073096,651767980,1994146192,1802195444,1303535960,1342533948,3988292384,4027552580,3604390888,3412177804,2607071920,2262029012,2685067896,3183342108]:=Lib.tabIs_of_head Uv WW WU XO (by kernel_rfl) (by kernel_rfl) f;intro k a;rw[World.var?_cell Uv b k];have:∀k,k<16->(([0,498536548,997073096,651767980,1994146192,1802195444,1303535960,1342533948,3988292384,4027552580,3604390888,3412177804,2607071920,2262029012,2685067896,3183342108]:eI).map λb=>Value.int .u32 b).toArray[k]?=H (.int .u32 (Wl k)):=by
   intro k a;match k,a with
   |0,_|1,_|2,_|3,_|4,_|5,_|6,_|7,_|8,_|9,_|10,_|11,_|12,_|13,_|14,_|15,_=>rfl
   |n+16,m=>exact absurd m (by omega)
  exact this k a
 exact Lib.tabIs_of_head YI Yv Yt XN (by kernel_rfl) (by kernel_rfl) g;obtain⟨a,u,p,h,i,j,k,b⟩:=d _ (bH.2 rfl);have l:a=[101,114,114,111,114]:=(dD h).symm;subst l;obtain rfl:=dD (Yz.symm.trans i);have e:p∈(List.range 445).filter λt=>prog.rowNamed t [101,114,114,111,114]:=cS.2 ⟨lY.2 (by rw[<-SP];exact j),k⟩;rw[Xk]at e;obtain rfl:=bH.1 e;(have o:typeHandle bG 50=.pointer (H (R (7) 50)):=by kernel_rfl);rw[o]at b;unfold pD;simpa using World.var?_cell Ya b 0
theorem Mg{W:I}{a n:M}{g:Addr}{b:iU}(h:W.cells? a g n=H b):y b=n/\∀j,j<n->aT W (g.add j)=b[j]?:=by
 unfold World.cells? at h;split at h;have f:=Lib.mapM_length h;refine⟨by simpa using f,λj e=>?_⟩;obtain⟨i,c,d⟩:=Lib.mapM_at h j j (by simp[e]);rw[d,c];cases h
theorem Kj{W:I}{r:Addr}{f b:M}(h:0<f)(p:0<b){Q:M->iU->Prop}(B:∀i,i<f->∃e,W.cells? 0 (r.add (i*b)) b=H e/\Q i e):∃j a,r=(R j a)/\j<z (G W)/\∀i,i<f->∃e,y e=b/\(∀q,q<b->aT W (R j (a+i*b+q))=e[q]?)/\Q i e:=by
 obtain⟨e,n,_⟩:=B 0 h;obtain⟨t,l⟩:=Mg n;have k:=l 0 p;rw[zG]at k;have u:(r.add 0).add 0=r:=rfl;rw[u]at k;obtain⟨j,a,d⟩:=r;have A:∃C,aT W ⟨j,a,d⟩=H C:=⟨e[0]'(by omega),by rw[k];exact aG (by omega)⟩;obtain⟨C,g⟩:=A
 have m:j<z (G W)/\d=none:=by
  unfold World.cell? at g;simp only at g;split at g
  .rename_i D K E s;refine⟨?_,?_⟩
   .rcases dF j (z (G W))with c|c
    .exact c
    .rw[eD c]at s;cases s
   .split at g
    .cases g
    .rename_i o;cases d with
     |none=>rfl
     |some F=>simp at o
  .cases g
 obtain⟨m,rfl⟩:=m;refine⟨j,a,rfl,m,λi v=>?_⟩;obtain⟨e,n,x⟩:=B i v;obtain⟨t,l⟩:=Mg n;refine⟨e,t,λq w=>?_,x⟩;rw[<-l q w,Go.Deep.add_add];unfold Addr.add;by_cases c:i*b+q=0;rw[dw c,aV,c];rfl;rw[cW c,aV]
def ye(P:Program)(t:TypeId):Option (cr (TypeId×M)):=match P.underlying t with
 |some (.struct a)=>H (a.toList.map λf=>(f.type,f.offset))
 |_=>none
theorem zR{P:Program}{t:TypeId}{l:cr (TypeId×M)}(h:ye P t=H l):∃a,P.underlying t=H (.struct a)/\a.toList.map (λf=>(f.type,f.offset))=l:=by
 unfold ye at h;split at h;rename_i a b;exact⟨a,b,dD h⟩;cases h
theorem Cg{d:Type}{f:TypeId×aa->d}{P:Program}{x:I}{b g:M}{q:M->Bool}{c:Bool}{w:TypeId}{o:iU}{A:DataW d×cr MemPlace}{u:cr (TypeId×M)}(s:ye P w=H u)(E:DataW.trod f P x b q c g w o=H A):∃(e:cr (DataW d×cr MemPlace))(v:M),A.1=.agg (e.map (·.1))/\y e=y u/\∀(n k a:M),u[n]?=H (k,a)->∃j,e[n]?=H j/\DataW.trod f P x b q c v k ((o.drop a).take (P.cellsOf k))=H j:=by
 obtain⟨D,t,rfl⟩:=zR s;obtain⟨e,v,_,rfl,_,m,r⟩:=DataW.trod_struct t E;refine⟨e,v,rfl,by simpa using m,λn k a p=>?_⟩;rw[dz,pK]at p;obtain⟨C,h,B⟩:=p;cases B;have l:=r n C (by simpa using h);have i:n<y e:=by have:=(fo.1 h).1;simp at this;omega
 exact⟨e[n],aG i,by rw[l,aG i]⟩
theorem wX{a:Type}{P:Program}{e:TypeId}:∀{l:cr (DataW a)}{d:DataW a},d∈l->∀n∈d.weights P e,n∈DataW.weightsAll P e l
 |[],_,h,_,_=>by cases h
 |x::r,d,h,n,b=>by
  rw[DataW.weightsAll];rcases az.1 h with rfl|h
  .exact ik _ b
  .exact hZ _ (wX h n b)
theorem yL{a:Type}{P:Program}{t e:TypeId}(d:P.underlying t=H (.slice e))(b c:cr (DataW a)):(DataW.slice b c).weights P t=(y b+y c)*P.bytesOf e::(DataW.weightsAll P e b++DataW.weightsAll P e c):=by
 rw[DataW.weights,d]
theorem BU{a:Type}{P:Program}{t:TypeId}{l:cr (TypeId×M)}(c:ye P t=H l)(b:cr (DataW a)):(DataW.agg b).weights P t=DataW.weightsEach P (l.map (·.1)) b:=by
 obtain⟨e,d,rfl⟩:=zR c;rw[DataW.weights,d];simp only[iQ];rfl
theorem WM:ye bG 42=H [(9,0),(9,1),(4,2)]:=by kernel_rfl
theorem XQ:ye bG 31=H [(3,0),(3,1),(3,2),(9,3),(9,4),(29,5)]:=by kernel_rfl
theorem SO:prog.underlying 29=H (.slice 42):=by kernel_rfl
theorem WV:prog.underlying 22=H (.slice 31):=by kernel_rfl
theorem Vv:prog.underlying 9=H .string:=by kernel_rfl
theorem WJ:prog.underlying 4=H .bool:=by kernel_rfl
theorem MM:prog.underlying 3=H (.int .i64):=by kernel_rfl
theorem Yg:prog.cellsOf 9=1:=by kernel_rfl
theorem Yi:prog.cellsOf 4=1:=by kernel_rfl
theorem YL:prog.cellsOf 3=1:=by kernel_rfl
theorem Yh:prog.cellsOf 29=1:=by kernel_rfl
theorem YM:prog.cellsOf 42=3:=by kernel_rfl
theorem YV:prog.cellsOf 31=6:=by kernel_rfl
theorem YO:prog.bytesOf 42=40:=by kernel_rfl
theorem YW:prog.bytesOf 31=80:=by kernel_rfl
theorem yW(l:uz):y (eO l)=y l*3:=by
 induction l with
 |nil=>rfl
 |cons c l b=>
  have e:eO (c::l)=oD c++eO l:=rfl;rw[e,af,b,ay];have:y (oD c)=3:=rfl;omega
theorem Ac(l:cr Gc):y (rp l)=y l*6:=by
 induction l with
 |nil=>rfl
 |cons c l b=>
  have e:rp (c::l)=c.cells++rp l:=rfl;rw[e,af,b,ay];have:y c.cells=6:=rfl;omega
theorem pU{b:iU}{k:M}{u:aa}(h:(b.drop k).take 1=[u]):b[k]?=H u:=by
 have c:=bU (λl=>l[0]?) h;simpa[mz,oH]using c
section
variable{a:Type}{enc:TypeId×aa->a}
theorem TF{W:I}{F:M->Bool}{c:Bool}{b:M}{d:iU}{P:DataW a×cr MemPlace}(Q:DataW.trod enc bG W 0 F c b 42 d=H P):∃m:OS,d[0]?=H (.string m.key)/\d[1]?=H (.string m.val)/\d[2]?=H (.bool m.del)/\(∀B,(∀O∈P.1.weights bG 42,O<=B)->m.key.size<=B/\m.val.size<=B):=by
 obtain⟨s,O,D,C,i⟩:=Cg WM Q;obtain⟨K,f,p⟩:=i 0 _ _ rfl;obtain⟨L,g,q⟩:=i 1 _ _ rfl;obtain⟨N,h,r⟩:=i 2 _ _ rfl;rw[Yg]at p q;rw[Yi]at r;obtain⟨n,t,w,_⟩:=pS Vv p;obtain⟨o,u,x,_⟩:=pS Vv q;obtain⟨E,v,A⟩:=DataW.trod_bool WJ r;refine⟨⟨n,o,E⟩,pU t,pU u,pU v,λB e=>?_⟩
 have j:s=[K,L,N]:=by
  match s,C,f,g,h with
  |[k,l,S],_,f,g,h=>
   simp at f g h;rw[f,g,h]
 rw[D,j,BU WM,w,x,A]at e;simp only[aY,eW,DataW.weightsEach,DataW.weights,am,az,eG,kK]at e;have k:=e (y n.data.toList) (by simp);have l:=e (y o.data.toList) (by simp);rw[iE]at k l;exact⟨k,l⟩
theorem QY{W:I}{m:M}{ad:aa}{an:DataW a×cr MemPlace}(au:DataW.trod enc bG W 0 (λ_=>bW) bW m 29 [ad]=H an)(t:∀q∈an.1.weights bG 29,q<=140737488351232):∃h:uz,Vs W ad h/\(∀l∈h,l.key.size<=140737488351232/\l.val.size<=140737488351232)/\y h<=10000000000000:=by
 rcases Go.Deep.open_slice SO au with⟨k,_⟩|⟨ao,b,O,al,q,L,N,k,_,hl,_,E,P,n⟩;simp only[mM,sC]at k;exact⟨[],.inl ⟨⟨rfl,.inl ⟨k,rfl⟩⟩,λav r=>by rw[k]at r;cases r⟩,by simp,by simp⟩;simp only[mM,sC]at k;simp only[je]at E;subst k E;by_cases X:b=0;subst X;exact⟨[],.inr ⟨rfl,ao,al,rfl⟩,by simp,by simp⟩;rw[YM]at n;obtain⟨K,c,rfl,hb,u⟩:=Kj (Q:=λi h=>DataW.trod enc bG W 0 (λ_=>bW) bW q 42 h=H (L i,N i)) (by omega:0<b) (by omega:0<3) (λi e=>n i (by omega));(have p:∀i,i<b->∃l:OS,aT W (R K (c+i*3))=H (.string l.key)/\aT W (R K (c+i*3+1))=H (.string l.val)/\aT W (R K (c+i*3+2))=H (.bool l.del)/\(∀B,(∀q∈(L i).weights bG 42,q<=B)->l.key.size<=B/\l.val.size<=B):=by intro i e;obtain⟨h,s,g,v⟩:=u i e;obtain⟨l,A,C,S,T⟩:=TF v;exact⟨l,(g 0 (by omega)).trans A,(g 1 (by omega)).trans C,(g 2 (by omega)).trans S,T⟩);have F:Inhabited OS:=⟨⟨⟨#[]⟩,⟨#[]⟩,bF⟩⟩;obtain⟨x,D⟩:=Go.Deep.choose_lt p;rw[P,yL SO,YO]at t;(have o:b<=10000000000000:=by have:=t _ (dy);simp only[cU,List.length_range]at this;omega);have w:∀i,i<b->∀q∈(L i).weights bG 42,q<=140737488351232:=λi e q c=>t q (aJ _ (ik _ (wX (aZ.2 ⟨i,lY.2 e,rfl⟩) q c)));(have d:y ((List.range b).map x)=b:=by simp);refine⟨(List.range b).map x,.inl ⟨⟨by rw[yW],.inr ⟨K,c,al,by rw[d],by rw[d];exact hl,λj ax f=>?_⟩⟩,λav r=>by cases r;exact hb⟩,λl hc=>?_,by rw[d];exact o⟩;(have ac:j<b*3:=by have:=(fo.1 f).1;rw[yW,d]at this;exact this);(have e:j/3<b:=by omega);obtain⟨A,B,C⟩:=kU ((List.range b).map x) (j/3) (by rw[d];exact e);obtain⟨S,T,V,_⟩:=D (j/3) e;(have s:j%3=0\/j%3=1\/j%3=2:=by omega);(have v:((List.range b).map x)[j/3]'(by rw[d];exact e)=x (j/3):=by simp);rw[v]at A B C;rcases s with s|s|s;(have g:j=j/3*3:=by omega);rw[g]at f|-;rw[A]at f;rw[S,f];(have g:j=j/3*3+1:=by omega);rw[g]at f|-;rw[B]at f;rw[<-aV,T,f];(have g:j=j/3*3+2:=by omega);rw[g]at f|-;rw[C]at f;rw[<-aV,V,f];obtain⟨i,e,rfl⟩:=aZ.1 hc;have g:=lY.1 e;exact(D i g).2.2.2 _ (w i g)
end
section
variable{a:Type}{enc:TypeId×aa->a}
theorem VN{an:I}{c:M}{n:iU}{au:DataW a×cr MemPlace}(ad:DataW.trod enc bG an 0 (λ_=>bW) bW c 31 n=H au)(d:∀v∈au.1.weights bG 31,v<=140737488351232):∃s:Gc,(∀x,x<6->n[x]?=s.cells[x]?)/\Vs an s.L s.cs/\(s.S.size<=140737488351232/\s.T.size<=140737488351232)/\(∀ao∈s.cs,ao.key.size<=140737488351232/\ao.val.size<=140737488351232)/\y s.cs<=10000000000000:=by
 obtain⟨L,v,hx,hl,b⟩:=Cg XQ ad;obtain⟨y0,f,C⟩:=b 0 _ _ rfl;obtain⟨y1,g,D⟩:=b 1 _ _ rfl;obtain⟨y2,h,E⟩:=b 2 _ _ rfl;obtain⟨y3,i,F⟩:=b 3 _ _ rfl;obtain⟨y4,j,K⟩:=b 4 _ _ rfl;obtain⟨y5,k,l⟩:=b 5 _ _ rfl;rw[YL]at C D E;rw[Yg]at F K;rw[Yh]at l;obtain⟨s0,O,V,_⟩:=wT MM C;obtain⟨s1,P,W,_⟩:=wT MM D;obtain⟨s2,Q,X,_⟩:=wT MM E;obtain⟨A,S,b3,_⟩:=pS Vv F;obtain⟨B,T,b4,_⟩:=pS Vv K;have hL:∃N,(n.drop 5).take 1=[N]:=by rcases Go.Deep.open_slice SO l with⟨o,_⟩|⟨ax,al,ac,ba,v,av,Pl,o,_⟩;exact⟨_,o⟩;exact⟨_,o⟩
 obtain⟨N,w⟩:=hL;rw[w]at l
 have r:L=[y0,y1,y2,y3,y4,y5]:=by
  match L,hl,f,g,h,i,j,k with
  |[o,z1,z2,t,u,z5],_,f,g,h,i,j,k=>
   simp at f g h i j k;rw[f,g,h,i,j,k]
 rw[hx,r,BU XQ,V,W,X,b3,b4]at d;simp only[aY,eW,DataW.weightsEach]at d;have t:=d (y A.data.toList) (by simp[DataW.weights]);have u:=d (y B.data.toList) (by simp[DataW.weights]);rw[iE]at t u;obtain⟨m,e,q,p⟩:=QY l (λv b=>d v (by simp[b]));refine⟨⟨s0,s1,s2,A,B,N,m⟩,λx hj=>?_,e,⟨t,u⟩,q,p⟩;match x,hj with
 |0,_=>exact pU O
 |1,_=>exact pU P
 |2,_=>exact pU Q
 |3,_=>exact pU S
 |4,_=>exact pU T
 |5,_=>exact pU w
 |v+6,ad=>exact absurd ad (by omega)
theorem KS{W:I}{k:M}{v:aa}{N:DataW a×cr MemPlace}(al:DataW.trod enc bG W 0 (λ_=>bW) bW k 22 [v]=H N)(u:∀r∈N.1.weights bG 22,r<=140737488351232):(∃N L,v=.slice N 0 L)\/∃os,Fk W v os:=by
 rcases Go.Deep.open_slice WV al with⟨h,_⟩|⟨ao,b,P,an,r,ac,O,h,_,hl,_,E,S,l⟩;simp only[mM,sC]at h;exact .inl ⟨_,_,h⟩;simp only[mM,sC]at h;simp only[je]at E;subst h E;by_cases T:b=0;subst T;exact .inl ⟨_,_,rfl⟩;right;rw[YV]at l;obtain⟨ad,f,rfl,V,w⟩:=Kj (Q:=λi B=>DataW.trod enc bG W 0 (λ_=>bW) bW r 31 B=H (ac i,O i)) (by omega:0<b) (by omega:0<6) (λi c=>l i (by omega));rw[S,yL WV,YW]at u;(have p:b<=10000000000000:=by have:=u _ (dy);simp only[cU,List.length_range]at this;omega);have A:∀i,i<b->∀r∈(ac i).weights bG 31,r<=140737488351232:=λi c r d=>u r (aJ _ (ik _ (wX (aZ.2 ⟨i,lY.2 c,rfl⟩) r d)));(have q:∀i,i<b->∃o:Gc,(∀j,j<6->aT W (R ad (f+i*6+j))=o.cells[j]?)/\Vs W o.L o.cs/\(o.S.size<=140737488351232/\o.T.size<=140737488351232)/\(∀L∈o.cs,L.key.size<=140737488351232/\L.val.size<=140737488351232)/\y o.cs<=10000000000000:=by intro i c;obtain⟨B,x,t,C⟩:=w i c;obtain⟨o,D,F⟩:=VN C (A i c);exact⟨o,λj n=>(t j n).trans (D j n),F⟩);have K:Inhabited Gc:=⟨⟨0,0,0,⟨#[]⟩,⟨#[]⟩,aK,[]⟩⟩;obtain⟨s,m⟩:=Go.Deep.choose_lt q;(have e:y ((List.range b).map s)=b:=by simp);(have d:∀o∈(List.range b).map s,∃i,i<b/\s i=o:=λo g=>by obtain⟨i,c,rfl⟩:=aZ.1 g;exact⟨i,lY.1 c,rfl⟩);refine⟨(List.range b).map s,⟨⟨by rw[Ac],.inr ⟨ad,f,an,by rw[e],by rw[e];exact hl,λj av n=>?_⟩⟩,λo g=>?_,λau hk=>by cases hk;exact V,λo g=>?_,λo g=>?_,by rw[e];exact p,λo g=>?_⟩⟩;(have X:j<b*6:=by have:=(fo.1 n).1;rw[Ac,e]at this;exact this);(have c:j/6<b:=by omega);(have F:j%6<6:=by omega);have t:=qe ((List.range b).map s) (j/6) (by rw[e];exact c) (j%6) F;have D:=(m (j/6) c).1 (j%6) F;(have x:((List.range b).map s)[j/6]'(by rw[e];exact c)=s (j/6):=by simp);rw[x]at t;(have C:j/6*6+j%6=j:=by omega);rw[C]at t;rw[aV,C]at D;rw[D,<-t,n];obtain⟨i,c,rfl⟩:=d o g;exact(m i c).2.1;obtain⟨i,c,rfl⟩:=d o g;exact(m i c).2.2.1;obtain⟨i,c,rfl⟩:=d o g;exact(m i c).2.2.2.1;obtain⟨i,c,rfl⟩:=d o g;exact(m i c).2.2.2.2
end
