import Derived.Deep.Slices
import Derived.LaidHandle
import Derived.LaidSub
import Derived.Lib.LaidTab
import Derived.Test.YtmnlcbeggagabaaGreatDoorRows
import Derived.Test.YtmnlcbeggagabaaGreatDoorC33
import Derived.Test.YtmnlcbeggagabaaGreatDoorC34
open _root_ renaming List.length→y,Option.some→H,Array.size→z,Go.World.heap→G,Go.Value.ownBlock→cz,Go.World.cell?→aS,Go.World.setCell→cA,Go.World.alloc→cG,Bool.false→bj,Bool.true→ci,Nat→M,Int→U,List→cS,Go.Calls→cD,Go.Proofs.Tryz.prog→aZ,Go.Value.slice→J,Go.Value.string→am,Go.Value.bool→aK,Go.Value.pointer→dF,Go.Value.tuple→dd,Go.Value.agg→dD
namespace Go.Proofs.YtmnlcbeggagabaaGreatDoor
open ChangeShapes WideShapes RowKit Proofs.Tryz List
set_option maxHeartbeats 16000000
set_option linter.all false
set_option maxRecDepth 100000
variable{a f B:Z}{b c g m x O:M}{d u P:ab}{e:cI}{i L:DK}{k D:U}{n:dN}{o:SR}{X:eT}{A:iF}{K:Bool}
structure FW(e W:Z)(sb:M)(g:eT)(h:Fs)(s:SR)(K:DK)(m:cI)(a b c d:cN)(C n:M)(l:kK):Prop where
 EP:cf W sb s 0
 zi:s.closed=bj
 st:xw h W sb s K m a b c d C
 fx:CA True K h
 pr:PR n (m::bY a b c d)
 sR:tj ((m::bY a b c d).map<|jO s.aT) l
 ap:I az e W
 low:(∀k,K.aO s.aM k->z (G e)<=k)/\z (G e)<=sb
 cl:∀k,g k->Aside W K s.aM sb k
 g0:ou e
def Jg(e W:Z)(sbqq:M)(g:eT)(l:kK):Prop:=∃h s K m a b c d C n,FW e W sbqq g h s K m a b c d C n l
section
variable{e W f:Z}{sbqq:M}{g i:eT}{h:Fs}{s:SR}{K:DK}{m:cI}{a b c d:cN}{C n:M}{l:kK}
theorem FW.read(j:FW e W sbqq g h s K m a b c d C n l)(k:GH h W f sbqq s K m a b c d C):I (th e g) W f/\Jg e f sbqq g l:=by
 obtain⟨r,o,t,w,u,v,p⟩:=k;refine⟨o.ap.mono<|λk q=>.inl ⟨q.elim (j.low.1 k) (λw=>by have:=j.low.2;omega),λc=>q.elim (j.cl k c).aO (j.cl k c).ne⟩,h,s,r,m,a,b,c,d,C,n,v,j.zi,p,j.fx.vw (by rw[t]),j.pr,j.sR,j.ap.trans o.ap<|λk q=>.inr<|q.elim (j.low.1 k) (λw=>by have:=j.low.2;omega),⟨λk q=>j.low.1 k<|u k q,j.low.2⟩,λk q=>(j.cl k q).fE o,j.g0⟩
theorem Jg.nE(j:Jg e W sbqq g l)(p:I az W f)(r:∀o,i o->g o\/z (G W)<=o/\o<z (G f)):Jg e f sbqq i l:=by
 obtain⟨h,s,K,m,a,b,c,d,C,n,j⟩:=j;have k:=ar j.EP;refine⟨h,s,K,m,a,b,c,d,C,n,(p.block sbqq k id).trans j.EP,j.zi,j.st.fE k<|oJ j.st.aM p,j.fx,j.pr,j.sR,j.ap.bW p,j.low,λo q=>?_,j.g0⟩;rcases r o q with q|q;exact⟨ah (j.cl o q).lt p.size,(j.cl o q).aO,(j.cl o q).ne⟩;exact⟨q.2,λc=>by have:=j.st.aM.lt o c;omega,by omega⟩
theorem Jg.still(k:Jg e W sbqq g l)(j:I az W f):Jg e f sbqq g l:=k.nE j<|λ_ q=>.inl q
theorem Jg.Fi(j:Jg e W sbqq g l):ou W:=by
 obtain⟨h,s,K,m,a,b,c,d,C,n,j⟩:=j;exact j.g0.ap j.ap id
theorem Xe(k:Jg e W sbqq g l)(j:ae)(u:1<=j.size/\j.size<=8):cD aZ 17 #[aA sbqq,am j] W λo f=>(o=aJ (dd #[am (lZ l j).1,aK (lZ l j).2,.nilIface])\/∃q,o=aJ (gE<|ot q)/\vL f q)/\I (th e g) W f/\Jg e f sbqq g l:=by
 obtain⟨h,s,K,m,a,b,c,d,C,n,k⟩:=k;apply(Gm j k.fx k.EP k.st k.zi<|by omega).mono;rintro o f⟨r,t⟩;refine⟨r.imp (λo=>?_)<|λq=>q.2,k.read t⟩;rw[o,Lc k.pr k.sR];have p:yY l j=((lZ l j).1,(lZ l j).2,0):=eI (by omega);rw[p];rfl
theorem VC(j:Jg e W sbqq g l):cD aZ 30 #[aA sbqq,am ⟨#[]⟩,am ⟨#[]⟩,aq 0] W λp f=>((∃k,p=aJ (dd #[k,.nilIface])/\OW W f k l)\/∃q,p=aJ (dd #[aw,ot q])/\vL f q)/\I (th e g) W f/\Jg e f sbqq g l:=by
 obtain⟨h,s,K,m,a,b,c,d,C,n,j⟩:=j;apply(Dm ⟨#[]⟩ ⟨#[]⟩ 0 j.fx j.EP j.st j.zi).mono;rintro p f⟨t,u⟩;refine⟨t.imp (λ⟨k,r,o⟩=>⟨k,r,?_⟩)<|λq=>q.2,j.read u⟩;rw[FK j.pr j.sR,EB]at o;exact o
end
structure XF(e W:Z)(c b sb:M)(bv d:ab)(a:iF)(B:cS pS)(l:kK)(safe:U)(f:ab)(lp:kK):Prop where
 box:∃u v m t,W.heap[c]?=H (ay #[u,v,m,t,aA b] 36 (0,0))
 kX:HB (z<|G e) W b bv d a B l safe
 fw:Jg e W sb (λk=>Oi c b bv d a k\/cz f=H k) l
 WO:rJ W f lp
 YJ:∀k,cz f=H k->k<z (G W)
section
variable{e W g:Z}{c b sbqq:M}{bv d f:ab}{a:iF}{B:cS pS}{l lp:kK}{safe:U}
theorem XF.Je(j:XF e W c b sbqq bv d a B l safe f lp)(i:I (th e<|λk=>Oi c b bv d a k\/cz f=H k) W g)(m:Jg e g sbqq (λk=>Oi c b bv d a k\/cz f=H k) l):XF e g c b sbqq bv d a B l safe f lp:=by
 obtain⟨u,v,n,t,b⟩:=j.box;exact⟨⟨u,v,n,t,(i.block c (ar b)<|λq=>q.2<|.inl<|.inl rfl).trans b⟩,j.kX.ap i<|λk h q=>q.2<|.inl<|.inr h,m,i.row j.WO<|λk h=>⟨λq=>q.2<|.inr h,j.YJ k h⟩,λk h=>ah (j.YJ k h) i.size⟩
theorem XF.still(i:XF e W c b sbqq bv d a B l safe f lp)(h:I az W g):XF e g c b sbqq bv d a B l safe f lp:=i.Je (h.mono cC)<|i.fw.still h
theorem XF.cells(h:XF e W c b sbqq bv d a B l safe f lp):aS W (R c 4)=H (aA b)/\aS W (R b 0)=H bv:=by
 obtain⟨u,v,m,t,b⟩:=h.box;exact⟨cellAt b 4 rfl,cellAt h.kX.box 0 rfl⟩
theorem XF.bJ(p:XF e W c b sbqq bv d a B l safe f lp){k:M}(s:k<y B)(v:ab)(n:a[k]?=H v):∃o h,bv=aY o 0 (y a) h/\y a<=h/\aS W (R o k)=H v/\EO W v B[k]:=by
 have w:=p.kX.len;obtain⟨o,h,t,_,_,i⟩:=oE p.kX.own (by omega);refine⟨o,h,t,i,?_,p.kX.each k _ _ n<|aN s⟩;have:=(dE p.kX.own).2;rcases this with⟨q,x⟩|⟨u,j,m,q,_,r⟩;omega;rw[t]at q;cases q;have:=r k _ n;simpa using this
theorem RA{h:pS}(k:fJ h=0){i:GL}(j:i∈h):1<=i.key.size/\i.key.size<=8:=(rl k).2.1 i j
theorem Sn(h:XF e W c b sbqq bv d a B l safe f lp)(hB:y B<=100000000)(bn:y l<=1000000000)(bo:y lp<=1000000000):cD aZ 12 #[aA c,aA sbqq,f] W λw g=>∃bh,w=aJ (aK bh)/\(lp=l->bh=ci)/\XF e g c b sbqq bv d a B l safe f lp:=by
 have bp:=h.kX.len;obtain⟨px,pn,pc,ba⟩:∃bs ac i,f=J bs ac i:=by rcases h.WO.shape with w|⟨bh,ad,aF,w⟩<;>exact⟨_,_,_,w⟩
 obtain⟨bx,bc,aU⟩:=aC h.kX.own;subst ba aU;have aV:=h.kX.Xh;have HX:=Y h;clear h;go_in
 go_wp2_with fail
 go_loopw [7] (λi wr=>∃ac:M,ac<=y B/\i=aq ac/\XF e wr c b sbqq (J bx (y a) bc) d a B l safe (J px pn pc) lp) (λi _=>y B-(intOf i).toNat)
 case atStart=>exact⟨0,bG _,rfl,HX⟩
 (case round=>obtain⟨ac,hn,rfl,n⟩:=hrel;obtain⟨c4,d0⟩:=n.cells;by_cases V:ac<y B;(·(have e1:(ac:U)<(y a:U):=by omega);have aa:a[ac]?=H (a[ac]'(by omega)):=aN (by omega);obtain⟨bf,X⟩:∃bf,a[ac]'(by omega)=bf:=⟨_,rfl⟩;rw[X]at aa;obtain⟨bi,aF,w,bm,P,u⟩:=n.bJ V bf aa;cases w;obtain⟨vx,vc,ax⟩:=bN u;have Q:=aV _<|ak V;obtain⟨r,C⟩:∃r,B[ac]=r:=⟨_,rfl⟩;rw[C]at u ax Q;have bl:y r<=8:=(rl Q).1;subst ax;(have L:∀wr,XF e wr c b sbqq (aY bi 0 (y a) bc) d a B l safe (J px pn pc) lp->aS wr (R bi ac)=H (J vx (y r) vc)/\EO wr (J vx (y r) vc) r:=λwr h=>by obtain⟨S,o,K,_,N,E⟩:=h.bJ V _ aa;cases K;rw[C]at E;exact⟨N,E⟩);have HX:=Y n;have al:=Y L;(have e0:(0:U)<=(ac:U):=by omega);clear n L C X u P;(go_wp2_with fail);(go_loopw [8] (λaU wr=>∃aD:M,aD<=y r/\aU=aq aD/\XF e wr c b sbqq (aY bi 0 (y a) bc) d a B l safe (J px pn pc) lp) (λaU _=>y r-(intOf aU).toNat));(case atStart=>exact⟨0,bG _,rfl,HX⟩);(case round=>obtain⟨aD,hj,rfl,n⟩:=hrel;obtain⟨c4,d0⟩:=n.cells;obtain⟨b0,u⟩:=al wr n;by_cases N:aD<y r;(·(have f1:(aD:U)<(y r:U):=by omega);(have f0:(0:U)<=(aD:U):=by omega);obtain⟨q1,⟨q2,q0⟩|⟨bh,ad,br,q2,bg,hc⟩⟩:=u;omega;cases q2;have hk:=(kJ r aD N).1;have b1:=hc _ _ hk;have au:=RA Q<|ak N;generalize r[aD]=bs at*;obtain⟨E,bq,bk⟩:=bs;simp only at b1 au;have S:=Xe n.fw E au;have x:=Y n;clear n hc hk q1;obtain⟨v1,s1,T⟩:∃bf C,lZ l E=(bf,C):=⟨_,_,rfl⟩;obtain⟨v2,s2,K⟩:∃bf C,lZ lp E=(bf,C):=⟨_,_,rfl⟩;rw[T]at S;have av:¬(v1=v2/\s1=s2)->¬lp=l:=λh w=>h (by rw[w,T]at K;cases K;exact⟨rfl,rfl⟩);have ao:=Y av;clear T av;(have o:∀i,XF e i c b sbqq (aY bi 0 (y a) bc) d a B l safe (J px pn pc) lp->cD aZ 29 #[J px pn pc,am E] i λw j=>w=aJ (dd #[am v2,aK s2])/\j=i:=λi n=>by have:=Kt E n.WO (by omega);rw[K]at this;exact this);have an:=Y o;clear K o;(go_wp2_with fail);apply S.mono;rintro w W3⟨he,v,s⟩;have m:=x.Je v s;have A:=s.Fi;clear v s S;rcases he with rfl|⟨q,rfl,hq⟩;(.have p:=Y m;clear m;(go_wp2_with fail);apply(kr W3).mono;rintro w F⟨rfl,j⟩;have i:=p.still<|I.aQ j;have o:=an F i;have k:=Y i;clear i j;(go_wp2_with fail);apply o.mono;rintro w O⟨rfl,t⟩;subst O;clear o;by_cases X:v1=v2;(.subst X;(have bd:(!v1.toList==v1.toList)=bj:=by simp);by_cases hs:s1=s2;(.subst hs;(have bb:(!s1==s1)=bj:=by cases s1<;>rfl);go_wp2;go_roundw;(case rel=>exact⟨aD+1,by omega,by go_num,k⟩);case measure=>simp[intOf];omega);(have bb:(!s1==s2)=ci:=by cases s1<;>cases s2<;>simp_all);have HN:=Y<|ao<|λh=>hs h.2;clear hs;go_wp2;go_ret;exact⟨bj,rfl,λw=>absurd w HN,k⟩);(have bd:(!v1.toList==v2.toList)=ci:=by rw[wK X];rfl);have HN:=Y<|ao<|λh=>X h.1;clear X;go_wp2;go_ret;exact⟨bj,rfl,λw=>absurd w HN,k⟩);(.have D:=AN hq A;have p:=Y m;clear m hq A;unfold gE;(go_wp2_with fail);apply D.mono;rintro w F⟨rfl,j⟩;have i:=p.still<|I.aQ j;have o:=an F i;have k:=Y i;clear i j D;(go_wp2_with fail);apply o.mono;rintro w O⟨rfl,t⟩;subst O;clear o;go_wp2;go_roundw;(case rel=>exact⟨aD+1,by omega,by go_num,k⟩);case measure=>simp[intOf];omega));(·(have o:aD=y r:=by omega);subst o;(have f1:¬(y r:U)<(y r:U):=by omega);have x:=Y n;clear n u;go_wp2;go_roundw;(case rel=>exact⟨ac+1,by omega,by go_num,x⟩);case measure=>simp[intOf];omega)));(have P:ac=y B:=by omega);subst P;have Q:=VC n.fw;have x:=Y n;clear n;(go_wp2_with fail);apply Q.mono;rintro w W3⟨he,v,s⟩;have m:=x.Je v s;have A:=s.Fi;clear s Q;rcases he with⟨v3,rfl,E⟩|⟨q,rfl,hq⟩;(.obtain⟨gx,gc,T⟩:=aC E;subst T;obtain⟨p,N⟩:=And.intro (Y m) (Y E);clear m E v;(go_wp2_with fail);apply(kr W3).mono;rintro w F⟨rfl,j⟩;have K:I az W3 F:=I.aQ j;have i:=p.still K;have u:=qL (K.row (dE N)<|λaU hk=>⟨id,(N.lt aU hk).2⟩) i.WO (by omega) (by omega);have k:=Y i;clear i j K;(go_wp2_with fail);apply u.mono;rintro w O⟨rfl,X,t⟩;have r:=k.still (show I az F O by rw[t];exact je _ _ _);have C:=Y r;obtain⟨L,o⟩:∃L,decide (l=lp)=L:=⟨_,rfl⟩;have S:=Y o;rw[o];clear r u t o;go_wp2;go_ret;exact⟨L,rfl,λw=>by rw[<-af S,w];simp,C⟩);have D:=AN hq A;have p:=Y m;clear m hq A v;(go_wp2_with fail);apply D.mono;rintro w F⟨rfl,j⟩;have i:=p.still<|I.aQ j;have u:=qL (show rJ F aw []from⟨rfl,.inl ⟨rfl,rfl⟩⟩) i.WO (by simp) (by omega);have k:=Y i;clear i j D;(go_wp2_with fail);apply u.mono;rintro w O⟨rfl,X,t⟩;have r:=k.still (show I az F O by rw[t];exact je _ _ _);have C:=Y r;obtain⟨L,o⟩:∃L,decide (([]:kK)=lp)=L:=⟨_,rfl⟩;rw[o];clear r u t o;(have P:∀w:Z,(binOp .eql 102 aw aw).run aZ w=.ok (aK ci) w:=λ_=>by kernel_rfl);go_wp2;go_ret;exact⟨ci,rfl,λ_=>rfl,C⟩)
end
section
variable{g W j:Z}{db:M}{mem f:U}{h:eT}{K n:DK}{a b c d:cN}{C tbqq N nx i:M}{e:Bool}{lsqq:dJ}{l:kK}
theorem Tv{p:Fs}(o:rK p W db K a b c d C tbqq N nx i e lsqq):PR (tbqq+y lsqq) (gp [] lsqq.flatten::bY a b c d):=by
 have m:=o.lp.uO;refine o.pr.cons (by omega) (qX o.lp).2.1 (λx k=>?_) (λx k=>?_)<|λx k=>?_;rcases sK k with q|q;cases q;obtain⟨s,r,k⟩:=bB.1 q;exact o.lp.iH s r x k;rcases sK k with q|q;cases q;exact(m x q).1;rcases sK k with q|q;cases q;exact(m x q).2
theorem Ub(p:xz W db K a b c d C tbqq N nx i e lsqq){m:ae}{o:dN}(k:dB (vw K.files) m=H o):0<y o:=by
 rcases p.oa.names _ _ k with rfl|⟨rfl,r⟩|⟨t,s,rfl⟩;rcases p.oa.state with q|⟨q,_⟩;rw[k]at q;cases q;unfold iq;rw[fC];omega;rw[k]at q;cases q;have:=p.oa.log r;rw[k]at this;cases this;exact Dx<|p.Qt r;have:=p.oa.xY t s;rw[k]at this;cases this;unfold kS eO;simp[bU];omega
theorem Ed(t:xz W db K a b c d C tbqq N nx i e lsqq):y K.files<=100000000:=by
 have o:=t.count
 have k:=rZ (l:=(vw K.files).map (·.1)) (m:=fm::fD i::(a++b++c++d).map (λw=>gu w.num)) t.aM.nodup (λx v=>by
  obtain⟨r,p⟩:=ly v;rcases t.oa.names x r p with q|⟨q,_⟩|⟨w,u,q⟩
  .simp[q]
  .simp[q]
  .rw[q];exact dC _ (dC _ (bM.2 ⟨w,u,rfl⟩)))
 have s:y ((vw K.files).map (·.1))=y K.files:=by simp[vw]
 rw[s]at k;simp at k o;omega
theorem CL.still(k:CL g W db mem f h K a b c d C tbqq N nx i e lsqq l)(m:I az W j):CL g j db mem f h K a b c d C tbqq N nx i e lsqq l:=⟨rK.ap k.laid m,k.tid,k.sR,k.len,k.ap.bW m,k.low,λo q=>⟨(k.cl o q).1,(k.cl o q).2.1,ah (k.cl o q).2.2 m.size⟩,k.g0⟩
theorem PJ(m:U)(k:M)(p:0<k)(s:k<=100000000):∃o:M,o<k/\wrap64 ((IntKind.u64.wrap m).tmod (k:U))=o:=by
 rw[fi,nr<|rq _<|by decide];have q:=rq (m%18446744073709551616) (show(k:U)≠0 by omega);have r:=Int.emod_lt_of_pos (m%18446744073709551616) (show(0:U)<k by omega);generalize m%18446744073709551616% (k:U)=x at*;refine⟨x.toNat,by omega,?_⟩;unfold wrap64;omega
structure FL(g W:Z)(db:M)(mem nN:U)(h:eT)(fs:Fs)(K:DK)(a b c d:cN)(C tb N nx i:M)(fa:Bool)(ls:dJ)(l:kK):Prop where
 laid:rK fs W db K a b c d C tb N nx i fa ls
 fx:CA True K fs
 nm:Yy K fs
 tid:(((ls.map y).sum:M):U)<mem/\US nN a b c
 sR:tj (gp [] ls.flatten::(bY a b c d).map (jO ((tb+y ls:M):U))) l
 ap:I az g W
 low:∀k,K.aO db k->z (G g)<=k
 cl:∀k,h k->¬K.aO db k/\z (G g)<=k/\k<z (G W)
 g0:ou g
def Yz(g W:Z)(db:M)(mem f:U)(h:eT)(l:kK):Prop:=∃k K a b c d C tbqq N nx i e lsqq,FL g W db mem f h k K a b c d C tbqq N nx i e lsqq l
theorem VM(m:CL g W db mem f h K a b c d C tbqq N nx i e lsqq l){k:ae}{r:dN}(s:dB (vw K.files) k=H r)(o:M)(x:o<18446744073709551616):cD aZ 9 #[aA db,am k,aE o] W λO j=>(∃Q,O=aJ Q)/\I (th g h) W j/\Yz g j db mem f h l:=by
 have E:=Ub m.laid s;obtain⟨L,hF,rfl⟩:=gR s;apply(TV k L o m.laid.aM hF (m.laid.bytes L (iS hF).2.1) E x).mono;rintro O j⟨A,r,n,B,p,w,D⟩;obtain⟨t,u,v⟩:=Qz m.laid hF B p w D;have P:=p.ap.size;have F:=m.ap.size;refine⟨A,p.ap.mono<|λk q=>.inl ⟨m.low k q,λc=>(m.cl k c).1 q⟩,_,n,a,b,c,d,C,tbqq,N,nx,i,e,lsqq,v,t,u,m.tid,m.sR,m.ap.trans p.ap<|λk q=>.inr<|m.low k q,λk q=>(p.aO k q).elim (m.low k) (λq=>by omega),λk q=>⟨λc=>(p.aO k c).elim (m.cl k q).1 (λc=>by have:=(m.cl k q).2.2;omega),(m.cl k q).2.1,by have:=(m.cl k q).2.2;omega⟩,m.g0.2.2⟩
theorem VD(o:Yz g W db mem f h l)(O:1<=mem/\mem<=32/\2<=f/\f<=6):cD aZ 10 #[aA db,dD #[aq mem,aq f]] W λs j=>(s=aJ (dd #[aA<|z (G W)+2,.nilIface])/\Jg g j (z (G W)+2) h l\/∃q,s=aJ (dd #[dF none,ot q])/\vL j q/\ou j)/\I (th g h) W j:=by
 obtain⟨F,K,a,b,c,d,C,tbqq,N,nx,i,e,lsqq,o⟩:=o;have S:=o.ap.size;have r:∀p,(K.aO db p\/p=z (G W)+2)->th g h p\/z (G W)<=p:=λp q=>q.elim (λq=>.inl ⟨o.low p q,λc=>(o.cl p c).1 q⟩) (λs=>.inr<|by omega);apply(MX mem f o.fx o.nm o.laid O o.tid).mono;rintro s j(⟨rfl,aa,n,u,v,w,x,k⟩|⟨_,q,rfl,P,t⟩);obtain⟨E,B,V,X,A,T,D⟩:=k.same;subst E;have m:=jF.bY k.k0 k.k1 k.k2 k.k3;have Q:=k.size;refine⟨.inl ⟨rfl,F,aa,n,_,u,v,w,x,C,tbqq+y lsqq,k.box,B,k.st,o.fx.vw k.files.1,?_,?_,o.ap.trans k.ap (λp q=>.inr<|q.elim (o.low p)<|λs=>by omega),⟨λp q=>(k.files.2.2 p q).elim (o.low p) (λq=>by omega),by omega⟩,λp q=>?_,o.g0⟩,k.ap.mono r⟩;rw[m];exact Tv o.laid;rw[m,A,cr,(qX o.laid.lp).2.2.1];exact o.sR;have L:=o.cl p q;exact⟨by omega,λc=>(k.files.2.2 p c).elim L.1 (λc=>by omega),by omega⟩;exact⟨.inr ⟨q,rfl,P,o.g0.ap (o.ap.trans t<|λp q=>.inr<|q.elim (o.low p)<|λs=>by omega) id⟩,t.mono r⟩
end
def QV(B:cS pS):∀(l:kK),(∀a∈B,y a<=8)->y (B.foldl AC l)<=y l+8*y B:=by
 induction B with
 |nil=>intro l _;simp
 |cons c B d=>
  intro l h;rw[gD];have e:=d (AC l c)<|λx b=>h x<|dC _ b;have b:=za l c;have f:=h c (by simp);simp only[aW];omega
def XF.YN{e:ab}{s:cS pS}{w r h:kK}(t:XF a f b c g d u A s w k P r)(m:I az f B)(p:rJ B e h)(l:∀i,cz e=H i->i<z (G B))(o:cz e=cz P\/∀i,cz e=H i->z (G f)<=i):XF a B b c g d u A s w k e h:=by
 have j:=t.still m;refine⟨j.box,j.kX,t.fw.nE m<|λv q=>?_,p,l⟩;rcases q with q|q;exact .inl<|.inl q;rcases o with n|n;exact .inl<|.inr<|n▸q;exact .inr ⟨n v q,l v q⟩
def Jg.ap{l:kK}(h:Jg a B c X l):I az a B:=by
 obtain⟨d,s,K,m,e,b,g,j,C,n,h⟩:=h;exact h.ap
def Yz.ap{l:kK}(h:Yz a B c k D X l):I az a B:=by
 obtain⟨j,K,o,b,p,q,C,g,N,n,m,d,e,h⟩:=h;exact h.ap
def El(ds:Option Addr)(f:cS LW)(br:M)(bq fe ff:U)(ao:M)(bv:ao<18446744073709551616)(c:f=[]\/∃dk b,ds=H (R dk b)/\EI a (aY dk b (y f) br) f)(hS:Steps a)(hP:Pow a)(hE:ou a)(cj:cD aZ 4 #[] a λs w'=>s=aJ (aK ci)/\I az a w'):cD aZ 3 #[J ds (y f) br,aq bq,aq fe,aq ff,aE ao] a λs w'=>s=aJ (aK ci)/\I az a w':=by
 have B:∀cs,I az a cs->cD aZ 5 #[J ds (y f) br] cs λs w'=>s=aJ (aK<|decide<|y f+Cs f<=1048576)/\I az cs w':=λcs ht=>by rcases c with rfl|⟨dk,b,rfl,c⟩;apply(Mz ds br cs).mono;rintro s w'⟨rfl,rfl⟩;exact⟨rfl,I.refl _ _⟩;have d:EI cs (aY dk b (y f) br) f:=⟨ht.row c.row<|λp O=>⟨id,c.lt p O⟩,λo a=>(c.Rz o a).ap ht<|λ_ _=>id,λp O=>ah (c.lt p O) ht.size,c.YD,c.len,c.lens⟩;apply(MA dk b br f d).mono;rintro s w'⟨rfl,q,rfl⟩;exact⟨rfl,je _ _ _⟩
 have x:=λcs(ht:I az a cs)(k:y f+Cs f<=1048576)=>Nx ds f br bq fe c k ht hS hP hE;have bn:=Y B;have ac:=Y x;clear B x c hS hP hE;go_in
 go_wp2_with fail
 apply cj.mono;rintro s W1⟨rfl,bf⟩;have B:=bn W1 bf;clear cj bn;go_wp2_with fail
 apply B.mono;rintro s W2⟨rfl,cn⟩;have o:=bf.bW cn;clear B bf cn;by_cases k:y f+Cs f<=1048576
 .have hd:decide (y f+Cs f<=1048576)=ci:=by simpa using k
  rw[hd];have x:=ac W2 o k;clear ac o hd k;go_wp2_with fail
  apply x.mono;rintro s W3⟨xb,dc,aa,hb,bi,l,db,pv,vs,bk,ey,X,fg,rfl,K⟩;obtain⟨fd,fk,er,c',fv,cp,nx,lg,r,co,N⟩:=K.cl;have aV:=wR N.laid.aM<|Ed N.laid;have c0:=cellAt K.box 0 rfl;have al:=Y K;have t:=Y N;clear K N x;go_wp2_with fail
  apply aV.mono;rintro s W4⟨nv,D,rfl,e,n,C⟩;obtain⟨fn,fl,ea⟩:=aC n;subst ea;have dx:y D<=100000000:=by
   have:=e.length_eq;rw[this,df];exact Ed t.laid
  by_cases h0:y D=0
  .have d:=Y<|t.ap.bW C;clear e n C aV al t;rw[h0];go_wp2;go_ret;exact⟨rfl,d⟩
  .have b0:((y D:U)==0)=bj:=by simpa using h0
   have au:=al.still C;have bE:CL a W4 dc bi l (Oi xb hb db pv vs) fd fk er c' fv 524288 cp fg nx lg r co ey:=t.still C;have c0:=cellAt au.box 0 rfl;have cb:=OQ bE;obtain⟨bp,bm,F⟩:=dz au e n;clear au bE aV t al e n C;go_wp2_with fail
   apply cb.mono;rintro s W5⟨fu,K5,rfl,bb,bT,j⟩;obtain⟨cw,E,cx⟩:=dz bb bT j;have cv:=Y<|j.own F<|λ_ _ q=>q;obtain⟨d,S,ek⟩:=PJ ff (y D) (by omega) dx;have ex:=j.size;have i:=Y<|bp.still j;obtain⟨dk,bs,et,_,_,eg⟩:=oE (j.own F<|λ_ _ q=>q) (by omega);cases et;have dT:aS W5 (R dk d)=H (am D[d]):=by
    have:=(dE<|j.own F<|λ_ _ q=>q).2;rcases this with⟨q,A⟩|⟨u,b,g,q,_,hc⟩
    .omega
    .cases q;have:=hc d (am D[d]) (by simp[strs,S]);simpa using this
   have aF:∃ed,dB (vw K5.files) D[d]=H ed:=by
    have g:D[d]∈fd.files.map cX.name:=bm.mem_iff.1<|ak S;have u:D[d]∈(vw K5.files).map (·.1):=by
     refine((bb.map (·.1)).mem_iff).2 ?_;simpa[vw]using g
    exact ly u
   obtain⟨ed,bx⟩:=aF;have ce:=VM E bx ao bv;have ei:=E.len;have el:=E.laid.AM;have ej:=i.num;have e0:(0:U)<=(d:U):=by omega
   have e1:(d:U)<(y D:U):=by omega
   generalize D[d]=em at*;clear bb bT j cb bx F cv bm cw E cx bp;go_wp2_with fail
   apply ce.mono;rintro s W6⟨⟨v6,rfl⟩,bg,aD⟩;have m:BA W6 xb dc (aA aa) bi l hb:=(bg.block xb (ar i.box)<|λq=>q.2<|.inl rfl).trans i.box;have ch:=i.kX.ap bg<|λp O q=>q.2<|.inr O;have cl:=VD aD i.zh;have cB:=Y aD.ap;have c2:=cellAt m 2 rfl;have c3:=cellAt m 3 rfl;obtain⟨bl,cu,eo⟩:=dz m ch i.Mb;clear m ch aD bg ce i dT;go_wp2_with fail
   apply cl.mono;rintro s W7⟨he,P⟩;have cE:=Y<|cB.trans P<|λp q=>.inr q.1;have w:BA W7 xb dc (aA aa) bi l hb:=(P.block xb (ar bl)<|λq=>q.2<|.inl rfl).trans bl;have aU:=cu.ap P<|λp O q=>q.2<|.inr O;clear cl P;rcases he with⟨rfl,cd⟩|⟨q,rfl,hq,bt⟩
   .have av:XF a W7 xb hb (z (G W6)+2) db pv vs bk ey X aw []:=⟨⟨_,_,_,_,w⟩,aU,cd.nE (I.refl _ _) (λp q=>.inl<|q.elim id<|λq=>by cases q),⟨rfl,.inl ⟨rfl,rfl⟩⟩,λp q=>by cases q⟩;obtain⟨s7,bc⟩:∃s7,z (G W6)+2=s7:=⟨_,rfl⟩;rw[bc]at av;rw[bc];have ck:∀c:Z,(binOp .eql 31 (aA s7)<|dF none).run aZ c=.ok (aK bj) c:=λ_=>rfl;have cM:=Y av;clear av w aU cd bc;go_wp2_with fail
    apply(kr W7).mono;rintro s W8⟨rfl,v⟩;have bu:=cM.still<|I.aQ v;have cT:=Y bu;clear bu v;go_wp2_with fail
    go_loopw [20,21] (λb i wr=>∃p:M,p<=y bk/\i=aq p/\XF a wr xb hb s7 db pv vs bk ey X b ((bk.take p).foldl AC [])) (λ_ i _=>y bk-(intOf i).toNat)
    case atStart=>exact⟨0,bG _,rfl,cT⟩
    case round=>
     obtain⟨p,O,rfl,hX⟩:=hrel;obtain⟨c4,d0⟩:=hX.cells;have dv:=hX.kX.Xh;have ev:=hX.kX.len;have V:∀a∈bk,y a<=8:=λa hc=>(rl<|dv a hc).1;have aF:=QV (bk.take p) []<|λa hc=>V a<|dU hc;simp only[eD,dj,rp O]at aF;have bd:=Sn hX (by omega) (by omega) (by omega);obtain⟨fs,fr,dm⟩:=aC hX.kX.own;subst dm;obtain⟨px,pn,pc,eb⟩:∃x n br,u20=J x n br:=by
      rcases hX.WO.shape with s|⟨er,b,bs,s⟩<;>exact⟨_,_,_,s⟩
     subst eb;have f1:(p:U)<=(y vs:U):=by omega
     clear hX;go_wp2_with fail
     apply bd.mono;rintro s W9⟨es,rfl,L,g⟩;have an:=Y g;cases es with
     |true=>
      clear g bd L;go_wp2;go_ret;exact⟨rfl,an.fw.ap⟩
     |false=>
      have ba:p<y bk:=by
       rcases gA p (y bk)with q|q
       .exact q
       .have:p=y bk:=by omega
        subst this;rw[bL]at L;exact absurd (L (by have:=(af an).kX.sum;exact this))<|by simp
      have bh:vs[p]?=H (vs[p]'(by omega)):=aN (by omega);obtain⟨en,hv⟩:∃en,vs[p]'(by omega)=en:=⟨_,rfl⟩;rw[hv]at bh;obtain⟨g2,ef,s,eu,dn,ax⟩:=g.bJ ba en bh;cases s;obtain⟨c4,d0⟩:=g.cells;have ca:∀q,cz en=H q->q<z (G W9):=λq hq=>(g.kX.rI en (ew bh) q hq).2.1;have cc:=Uh bk[p] g.WO g.YJ ax ca (by have:=V _<|ak ba;omega);have f2:(p:U)<(y vs:U):=by omega
      have f0:(0:U)<=(p:U):=by omega
      have ad:=Y (show(bk.take<|p+1).foldl AC []=AC ((bk.take p).foldl AC []) bk[p]by
       rw[aj ba,fK];rfl)
      obtain⟨vx,vc,ec⟩:=bN ax;subst ec;clear g bd L ax ca;go_wp2_with fail
      apply cc.mono;rintro s eq⟨p',rfl,A,T,W,Q⟩;have u:=an.YN (I.aQ Q) A T W;rw[<-af ad]at u;obtain⟨fb,eB,eA,cm⟩:∃x n br,p'=J x n br:=by
       rcases A.shape with s|⟨er,b,bs,s⟩<;>exact⟨_,_,_,s⟩
      subst cm;have bo:=Y u;clear u cc A T W Q;go_wp2;go_roundw;case rel=>exact⟨p+1,by omega,by go_num,bo⟩
      case measure=>simp[intOf];omega
   .have u:=AN hq bt;have ck:∀c:Z,(binOp .eql 31 (dF none)<|dF none).run aZ c=.ok (aK ci) c:=λ_=>rfl;clear w aU hq bt;go_wp2_with fail
    apply u.mono;rintro s W8⟨rfl,v⟩;have g:=Y<|cE.bW<|I.aQ v;clear v;go_wp2;go_ret;exact⟨rfl,g⟩
 (have hd:decide (y f+Cs f<=1048576)=bj:=by simpa using k);rw[hd];have d:=Y o;clear ac o hd k;go_wp2;go_ret;exact⟨rfl,d⟩
def To(w:Z):iK w aw []:=⟨⟨rfl,.inl ⟨rfl,rfl⟩⟩,λk a=>(by cases a),by simp,by simp⟩
def Cu(N:M)(w:Z):cD aZ 52 #[aA N,dD #[aw,aw,aw,aw]] w λW Q=>W=aJ (dd #[dD #[aw,aw,aw,aw],.nilIface])/\I az w Q:=by
 obtain⟨e,a⟩:∃e,cG (cG (cG w<|ay #[aw,aw,aw,aw] 124)<|ay #[aw,aw,aw,aw] 93) (ay #[aw,aw,aw,aw] 93)=e:=⟨_,rfl⟩;have k:I az w e:=by rw[<-a];exact((cK az w).alloc _).alloc _
 have f:e.heap[z<|G w]?=H (ay #[aw,aw,aw,aw] 124 (0,0)):=by rw[<-a];grind[eU,aH]
 have g:e.heap[z (G w)+1]?=H (ay #[aw,aw,aw,aw] 93 (0,0)):=by rw[<-a];exact(eU _<|by simp).trans<|aH _<|by simp
 have j:e.heap[z (G w)+2]?=H (ay #[aw,aw,aw,aw] 93 (0,0)):=by rw[<-a];exact aH _<|by simp
 have K:∀(x:Bool)(w:Z),(Op.unary .not<|aK x).run aZ w=.ok (aK<|!x) w:=λ_ _=>rfl;obtain⟨E,A,B,C,F⟩:=jk k f g j a;clear k f g j a;go_in
 go_wp2_with fail
 rw[af F];go_loopw [12] (λa wr=>∃i:M,i<=4/\a=aq i/\wr.heap[z<|G w]?=H (ay #[aw,aw,aw,aw] 124 (0,0))/\wr.heap[z (G w)+1]?=H (ay #[aw,aw,aw,aw] 93 (0,0))/\wr.heap[z (G w)+2]?=H (ay #[aw,aw,aw,aw] 93 (0,0))/\I az w wr) (λa _=>4-(intOf a).toNat)
 case atStart=>exact⟨0,bG _,rfl,A,B,C,E⟩
 (case round=>obtain⟨i,hi,rfl,p,c,d,o⟩:=hrel;by_cases P:i<4;(.have l:=λW=>GF (To W) (λj a=>by simp at a);(have aa:aS wr (R (z<|G w) i)=H aw:=by rw[bV p];rcases i with _|_|_|_|i<;>first|rfl|omega);(have ac:aS wr (R (z (G w)+2) i)=H aw:=by rw[bV d];rcases i with _|_|_|_|i<;>first|rfl|omega);(have e1:(i:U)<4:=by omega);(have X:(0:U)<=(i:U):=by omega);obtain⟨q,s,v,n⟩:=fX p c d o;clear p c d o;(go_wp2_with fail);refine gF 1 ?_;rw[fT];by_cases O:i=0;(.subst O;go_wp2;go_roundw;(case rel=>exact⟨1,by omega,by go_num,q,s,v,n⟩);case measure=>simp[intOf]);(·(have e2:(0:U)<(i:U):=by omega);(go_wp2_with fail);apply(l _).mono;rintro W L⟨rfl,m⟩;have b:I az wr L:=I.aQ m;have S:=ar q;have T:=ar s;have V:=ar v;have r:=Y<|(b.block _ S id).trans q;have t:=Y<|(b.block _ T id).trans s;have x:=Y<|(b.block _ V id).trans v;have D:=Y<|n.bW b;clear m b l;go_wp2;go_roundw;(case rel=>exact⟨i+1,by omega,by go_num,r,t,x,D⟩);case measure=>simp[intOf];omega));(have l:i=4:=by omega);subst l;have D:=cellAt c 0 rfl;have L:=cellAt c 1 rfl;have O:=cellAt c 2 rfl;have S:=cellAt c 3 rfl;have s:=cellAt d 0 rfl;have t:=cellAt d 1 rfl;have v:=cellAt d 2 rfl;have x:=cellAt d 3 rfl;(have q:∀i,wr.frozen? (R (z (G w)+1) i)=bj:=λi=>by simp[World.frozen?,c]);have b:=aL (i:=3) (u:=aw)<|aL (i:=2) (u:=aw)<|aL (i:=1) (u:=aw)<|aL (i:=0) (u:=aw) c;obtain⟨r,n⟩:=And.intro (Y c) (Y o);clear p c d o;go_wp2;refine cg (sE rfl _ _ (z (G w)+1) _ _ _ _ _ _ rfl b ⟨_,_,_,rfl⟩ ⟨_,_,_,rfl⟩ ⟨_,_,_,rfl⟩ ⟨_,_,_,rfl⟩) rfl ?_;refine⟨rfl,?_⟩;have m:I (λk=>k=z (G w)+1) wr _:=(((io wr (z (G w)+1) 0 aw).setCell (z (G w)+1) 1 aw<|.inl rfl).setCell (z (G w)+1) 2 aw<|.inl rfl).setCell (z (G w)+1) 3 aw<|.inl rfl;exact n.trans m<|λk a=>.inr (by have:k=z (G w)+1:=a;omega))
def JS(a:M)(w:Z):cD aZ 59 #[aA a,aw] w λe b=>e=aJ .nilIface/\b=w:=by
 go_in
 go_wp2;refine gF 1 ?_;rw[fT];go_wp2;go_ret;exact⟨rfl,rfl⟩
def Lz(m n p q:cN)(h:cf a b o k)(s:Cy a b 10 [(o.l0,m),(o.l1,n),(o.l2,p),(o.l3,q)])(r:∀x∈m++n++p++q,OV a x)(u:Pow a)(j:o.log<18446744073709551616)(l:y (m++n++p++q)<=10000000)(c:cH a o.aM i)(g:y i.files<=100000000)(t:∀D∈i.files.map cX.name,D=fm\/D=fD o.log\/∃x∈m++n++p++q,D=gu x.num):cD aZ 26 #[aA b] a λv A=>v=aJ .nilIface/\I az a A:=by
 have d:=wT m n p q h s r u j l c g t;clear h s r u c t;go_in
 go_wp2_with fail
 apply d.mono;rintro v B⟨rfl,e⟩;have f:=Y e;clear e d;go_wp2_with fail
 apply(JS b B).mono;rintro v C⟨rfl,w⟩;subst C;go_wp2;go_ret;exact⟨rfl,f⟩
def SR.new(c:M)(b a:U)(d:M):SR:=(SR.fresh c b a d).lD aw aw aw aw 2 1 0 bj
def SQ(f d:U)(o:cH a b (iM c))(hs:Steps a)(v:Pow a)(E:¬(iM c).aO b 1)(F:¬(iM c).aO b 2)(S:1<=f/\f<=32/\2<=d/\d<=6):cD aZ 10 #[aA b,dD #[aq f,aq d]] a λn i=>n=aJ (dd #[aA<|z (G a)+2,.nilIface])/\cf i (z (G a)+2) (SR.new b f d<|z (G a)+1) 0/\Inv i (z (G a)+2) (SR.new b f d<|z (G a)+1) (iM c) [] [] [] [] [] 0 0 0 [] []/\Aw (SR.new b f d<|z (G a)+1) [] [] []/\I az a i/\z (G a)+4<=z (G i):=by
 have hL:=KF o hs v E F;have t:=o.lt;have u:¬(iM c).aO b (z (G a)+2):=λq=>by have:=t _ q;omega
 have hinv:∀W,I az a W->z (G a)+4<=z (G W)->kN W (z (G a)+1) []->Inv W (z (G a)+2) (SR.new b f d<|z (G a)+1) (iM c) [] [] [] [] [] 0 0 0 [] []:=λW h e g=>by have m:=o.ap h<|λ_ _=>id;have k:GI (vw (iM c).files) W (iM c) b (z (G a)+2) aw []:=⟨⟨rfl,.inl ⟨rfl,rfl⟩⟩,λT d=>(by cases d),by simp⟩;have p:OU (vw (iM c).files) W b (z (G a)+2) (iM c) (iM c) aw aw aw aw [] [] [] [] [] [] [] []:=⟨m,⟨rfl,rfl,λ_ q=>q⟩,k,k,k,k,rfl,rfl,rfl,rfl,List.nodup_nil⟩;exact wX (s:=SR.new b f d<|z (G a)+1) hL p (h.mono cC) (by omega) rfl rfl rfl rfl rfl rfl rfl ⟨rfl,.inl ⟨rfl,rfl⟩⟩ (λT q=>by cases q) S (λq=>by cases q) ⟨⟨z (G a)+1,rfl,g,by omega,λq=>by have:=t _ q;omega,by omega⟩,by simp⟩
 refine Oz b f d a S (λW=>I az a W/\cf W (z (G a)+2) (SR.fresh b f d<|z (G a)+1) 0/\kN W (z (G a)+1) []/\z (G W)=z (G a)+4) (λW=>cf W (z (G a)+2) (SR.new b f d<|z (G a)+1) 0/\I az a W/\kN W (z (G a)+1) []/\z (G a)+4<=z (G W)) (λW=>cf W (z (G a)+2) (SR.new b f d<|z (G a)+1) 0/\I az a W/\kN W (z (G a)+1) []/\z (G a)+4<=z (G W)) (λW=>cf W (z (G a)+2) (SR.new b f d<|z (G a)+1) 0/\I az a W/\kN W (z (G a)+1) []/\z (G a)+4<=z (G W)) (λW=>cf W (z (G a)+2) (SR.new b f d<|z (G a)+1) 0/\Inv W (z (G a)+2) (SR.new b f d<|z (G a)+1) (iM c) [] [] [] [] [] 0 0 0 [] []/\Aw (SR.new b f d<|z (G a)+1) [] [] []/\I az a W/\z (G a)+4<=z (G W)) (λW E F X h4=>⟨E,F,X,h4⟩) ?_ ?_ ?_ ?_;rintro W⟨h,j,g,l⟩;(have L:∀m,cH m b (iM c)->cD aZ 7 #[aA b] m λn i=>∃aa D,n=aJ (J aa 0 D)/\I az m i:=λm K=>by apply(wR K<|by simp[iM]).mono;rintro n i⟨v',ns,rfl,O,r,P⟩;(have N:ns=[]:=by simpa[iM]using O);subst N;obtain⟨aa,D,hv⟩:=aC r;exact⟨aa,D,by rw[hv];rfl,P⟩);refine(OD (Xqq:=False) W (z (G a)+2) (SR.fresh b f d<|z (G a)+1) 0 2 1 0 0 (λm w x A B=>(w=aw/\x=aw/\A=aw/\B=aw)/\cH m b (iM c)) (λm w x A B=>(w=aw/\x=aw/\A=aw/\B=aw)/\cH m b (iM c)) az j (λq D=>D.elim) id ?_ ?_ ?_).mono ?_;apply(Ge (o.ap h<|λ_ _=>id) (by simp[iM]) (v.ap h id) (by simp[iM]) rfl).mono;rintro n i⟨rfl,e⟩;exact .inl ⟨none,0,0,none,0,0,none,0,0,none,0,0,rfl,⟨⟨rfl,rfl,rfl,rfl⟩,o.ap (h.bW e)<|λ_ _=>id⟩,e⟩;rintro V C w x A B⟨⟨rfl,rfl,rfl,rfl⟩,p⟩k;apply(Cu b C).mono;rintro n i⟨rfl,e⟩;exact⟨none,0,0,none,0,0,none,0,0,none,0,0,_,rfl,.inl ⟨rfl,⟨rfl,rfl,rfl,rfl⟩,p.ap (k.bW e)<|λ_ _=>id⟩,e⟩;rintro V u0 u1 u2 u3⟨N,p⟩C k;have r:=p.ap k<|λT D n=>u (by have K:T=z (G a)+2:=n;exact K▸D);exact⟨⟨N,r⟩,L C r⟩;rintro n i(⟨rfl,u0,u1,u2,u3,r,⟨⟨rfl,rfl,rfl,rfl⟩,K⟩,e⟩|⟨q,_⟩);have Q:=e.size;refine⟨rfl,⟨r,h.trans e (λT q=>.inr<|q.elim (λq=>q.elim)<|λn=>by omega),g.di (e.block _ (by omega)<|λq=>q.elim (λq=>q.elim)<|λn=>by omega),by omega⟩,e.block _ (by omega)<|λq=>q.elim (λq=>q.elim)<|λn=>by omega⟩;exact q.elim;rintro W⟨j,h,g,l⟩;refine(wG j (o.ap h<|λ_ _=>id) (v.ap h id) (by show 1<18446744073709551616;omega) rfl).mono ?_;rintro n i⟨rfl,e⟩;exact⟨rfl,⟨(e.block _ (by omega) id).trans j,h.bW e,g.di<|e.block _ (by omega) id,by have:=e.size;omega⟩,e.block _ (by omega) id⟩;rintro W⟨j,h,g,l⟩;have k:=hinv W h l g;refine(Lz [] [] [] [] j (k.st.WY j) (by simp) (v.ap h id) (by show 1<18446744073709551616;omega) (by simp) (o.ap h<|λ_ _=>id) (by simp[iM])<|by simp[iM]).mono ?_;rintro n i⟨rfl,e⟩;exact⟨rfl,⟨(e.block _ (by omega) id).trans j,h.bW e,g.di<|e.block _ (by omega) id,by have:=e.size;omega⟩,e.block _ (by omega) id⟩;rintro W⟨j,h,g,l⟩;refine(De none none none none 0 0 0 0 0 0 0 0 j rfl rfl rfl rfl (by show((0:M):U)<f;omega) ?_ ?_ ?_ ?_<|by omega).mono ?_;show jS d 0 0=bj;simp[jS];omega;show jS d 1 0=bj;simp[jS];omega;show jS d 2 0=bj;simp[jS];omega;simp[jS];rintro n i⟨rfl,e⟩;have Q:=e.size;exact⟨rfl,⟨(e.block _ (by omega) id).trans j,hinv i (h.bW e) (by omega)<|g.di<|e.block _ (by omega) id,⟨by show((0:M):U)<f;omega,by show US d [] [] [];simp[US];omega⟩,h.bW e,by omega⟩,e.block _ (by omega) id⟩
def SN(u:a.ownsRow b c 1 (aY g 0 m x) m (n.map<|Value.int .u8))(q:O<=y n):a.ownsRow b c 1 (aY g 0 O x) (y<|n.take O) ((n.take O).map<|Value.int .u8):=by
 obtain⟨l,⟨j,_⟩|⟨t,i,d,k,o,p,r,e,f,h⟩⟩:=u;cases j;cases k;(have s:y n=m:=by simpa using l);refine⟨by simp,.inr ⟨g,x,d,by rw[dj,rp q],o,p,by rw[dj];omega,e,f,?_⟩⟩;rw[List.map_take,<-h,wg,dj];congr 1;omega
def Ru{K:DK}{ad:cX}(h:cH a b K)(hf:K.files=[ad])(hs:K.sm=[(ad.name,kT<|H ad.oM)])(hm:K.dM=[])(hn:ad.safe=c/\c<=y ad.bytes)(hl:y ad.bytes<=1000000000)(aa:0<y ad.bytes):cD aZ 16 #[aA b,aE 0,aE 0] a λg w'=>g=aJ (dd #[])/\∃D bE,oA a w' b K D/\D.files=[⟨ad.name,ad.oM,bE,ad.bytes.take c,c⟩]/\D.dM=[]:=by
 have aU:=h.steps;rw[hm]at aU;obtain⟨mx,mc,bt⟩:=aC aU;have cp:=@qQ aZ;have f:=h.iy;rw[bt]at f;have c0:=cellAt f 0 rfl;have c1:=cellAt f 1 rfl;have c2:=cellAt f 2 rfl;have c4:=cellAt f 4 rfl;have c5:=cellAt f 5 rfl;have f0:=cZ (i:=0) f;have f2:=cZ (i:=2) f;have f4:=cZ (i:=4) f;have f5:=cZ (i:=5) f;have an:=Y h.safe;have HD:=Y h;have cm:=ar f;have hF:=h.files ad (by rw[hf];simp);have bm:b≠K.sb:=h.safe.tag f;obtain⟨o,p⟩:∃o,cG (cA (cA (cA (cA a (R b 0)<|.map<|H<|z<|G a) (R b 2) aw) (R b 4)<|aq 0) (R b 5)<|aq 0) (.map #[] 0)=o:=⟨_,rfl⟩;have N:I (λk=>k=b) a o:=by rw[<-p];exact((((io a b 0 _).setCell b 2 _<|.inl rfl).setCell b 4 _<|.inl rfl).setCell b 5 _<|.inl rfl).alloc _
 have cv:z (G o)=z (G a)+1:=by rw[<-p];simp
 have Q:mW o b (z<|G a) K.sb aw 1099511627776 K.reads K.vU:=by unfold mW;rw[<-p];exact(eU _ (by simp;omega)).trans<|(aL<|aL<|aL<|aL f).trans rfl
 have B:gl o (z<|G a) []:=⟨#[],0,by rw[<-p];exact aH _ (by simp),rfl,pW 0⟩;have ac:gl o K.sb K.sm:=h.safe.ap N<|λg=>bm g.symm;have n:ad.oM≠b/\cz ad.data≠H b:=⟨ld hF.1 f (by decide),tZ hF.2.1 f<|by decide⟩;have bi:vJ o ad:=hF.ap N n.1<|λk g c=>n.2 (by rw[g];grind);clear h aU f hF;go_in
 go_wp2_with fail
 refine gF 1 ?_;rw[fT];have ch:=Y p;obtain⟨bc,C,al,bT,ce⟩:=jk Q B ac bi N;clear Q B ac bi N p an
 go_wp2_with(first
  |(at_range;rw[af ch];refine qJ _ rfl _ 69 rfl 9 74 underlying69 K.sb _ rfl al ?_;intro w0 V bo cs;have ca:=Y V;have bf:=Y bo;clear V bo))
 obtain⟨au,d,cj,e,ck⟩:=ad;simp only at*;obtain⟨rfl,X⟩:=hn;obtain⟨L,q2,q3⟩:=af bT;simp only at L q2 q3;have l:I az o w0:=I.dW bf (by simp);have a1:=(l.block d (ar L) id).trans L;obtain⟨j,w,co,_,_,cn⟩:=oE q2 aa;subst co;have cE:=(l.block b (ar<|af bc) id).trans<|af bc;refine gF 2 ?_;rw[fT]
 go_wp2_with(first
  |(at_next;refine pF _ rfl _ rfl K.sb (z (G o)) _ _ rfl ca ?_ ?_))
 intro aV pk pv bv w2 r W bp cu bn;obtain⟨rfl,rfl,rfl,rfl⟩:aV=[]/\pk=au/\pv=kT (H d)/\bv=[]:=by rcases aV with _|⟨bE,aV⟩;simp at r;exact⟨rfl,r.1.1.symm,r.1.2.symm,r.2⟩;simp at r
 simp only[kT]at bn;have s:I (λk=>k=z (G a)+1) w0 w2:=fj bp;have cl:d<z (G o):=ar L;have a2:=(s.block d (by have:=l.size;omega) (λg=>by have E:d=z (G a)+1:=g;omega)).trans a1;have ao:=(s.block b (by have:=l.size;omega) (λg=>by have E:b=z (G a)+1:=g;omega)).trans cE;have y0:=cellAt a2 0 rfl;have y1:=cellAt a2 1 rfl;have z0:=cZ (i:=0) a2;have z1:=cZ (i:=1) a2;have x0:=cellAt ao 0 rfl;have v1:IntKind.i64.wrap ((y e:U)-(c:U))=(y e:U)-c:=by rw[bS];omega
 have v2:IntKind.i64.wrap ((y e:U)-(c:U)+1)=(y e:U)-c+1:=by rw[bS];omega
 have v3:IntKind.u64.wrap ((y e:U)-(c:U)+1)=(y e:U)-c+1:=by rw[fi];omega
 have v4:((y e:U)-(c:U)+1==0)=bj:=by rw[lM];omega
 have v5:(0:U).tmod ((y e:U)-(c:U)+1)=0:=Int.zero_tmod _;go_wp2_with fail
 go_quiet(fail)
 rename_i nq;have v6:IntKind.i64.wrap ((c:U)+0)=(c:U):=by rw[bS];omega
 have v7:(0:U)<=(c:U):=by omega
 have v8:(c:U)<=(w:U):=by omega
 go_wp2_with fail
 rename_i KK bl;obtain⟨i,hU⟩:∃i,w2.drewN nq=i:=⟨_,rfl⟩;have tU:I az w2 i:=by rw[<-hU];exact je _ _ _
 have bh:=(tU.block d (ar a2) id).trans a2;rw[hU];have x:aS i.drew (R d 0)=H (aY j 0 (y e) w)/\aS i.drew (R d 1)=H (aq c)/\i.drew.frozen? (R d 0)=bj:=⟨cellAt bh 0 rfl,cellAt bh 1 rfl,cZ (i:=0) bh⟩;refine dL (λm=>aS m (R d 0)=H (aY j 0 (y e) w)/\aS m (R d 1)=H (aq c)/\m.frozen? (R d 0)=bj) 14 (by kernel_rfl) ?_;refine eR 0 ?_;iterate 11 (refine iC (v:=?_) x rfl (by kernel_rfl) ma rfl ?_ ?_;rotate_left;(focus(rintro m⟨z0,z1,z2⟩;go_simp;try rfl));simp only[Act.put,eF,jx,Nat.reduceAdd])
 refine iC (v:=aY j 0 c w) x rfl (by kernel_rfl) ma rfl ?_ ?_;(.rintro m⟨z0,z1,z2⟩;(have A:(Instr.sliceAt 75 (aY j 0 (y e) w) none (H<|aq c) none).run aZ m=.ok (aY j 0 c w) m:=by go_simp);show(execOp _ _).run _ _=_;(have v9:IntKind.i64.wrap (c:U)=(c:U):=by rw[bS];omega);simp[execOp,Act.eval,v9,A,Result.andThen]);simp only[Act.put,eF,jx,Nat.reduceAdd];apply ig;refine bC (i:=12) rfl rfl (by kernel_rfl) ?_;intro db O;go_simp;refine O _ _ (λ_=>x) ?_;try simp only[Act.put,eF,jx]
 clear O;refine bC (i:=13) rfl rfl (by kernel_rfl) ?_;intro dc P;go_simp;refine P _ _ (λ_=>x) ?_;try simp only[Act.put,eF,jx]
 clear P;refine bC (i:=14) rfl rfl (by kernel_rfl) ?_;intro K1 bk;go_simp;refine bk _ _ Fc ?_;try simp only[Act.put,eF,jx]
 clear bk x;refine eN (by kernel_rfl) ?_ _;show KK _ _;apply bl;clear bl;obtain⟨bg,hV⟩:∃bg,(cA i (R d 0)<|aY j 0 c w).drew=bg:=⟨_,rfl⟩;have tV:I (λk=>k=d) i bg:=by rw[<-hV];exact((io i d 0 _)).bW<|cR az _
 have bb:bg.heap[d]?=H (ay #[aY j 0 c w,aq c] 78 (0,0)):=by rw[<-hV];exact(aL bh).trans rfl
 rw[hV];have cB:z (G w2)=z (G a)+2:=by omega
 have aF:d≠b:=n.1;have cx:=tU.size;have u:bg.heap[b]?=H (ay #[.map<|H<|z<|G a,.map<|H K.sb,aw,aq 1099511627776,aq 0,aq 0,aq K.reads,aq K.vU] 72 (0,0)):=(tV.block b (by omega)<|λg=>aF<|Eq.symm g).trans<|(tU.block b (by omega) id).trans ao;have mN:∀ba A,gl (bg.setCell (R d ba) A) (z<|G a) []:=λba A=>by have m0:=(af C).ap l id;have m2:=m0.ap s (λg=>by have E:z (G a)=z (G a)+1:=g;omega);have m3:=(m2.ap tU id).ap tV (λg=>by have E:z (G a)=d:=g;exact(af C).tag L E.symm);exact m3.ap (io bg d ba A) (λg=>by have E:z (G a)=d:=g;exact(af C).tag L E.symm)
 have y0:=cellAt bb 0 rfl;have y1:=cellAt bb 1 rfl;have z1:=cZ (i:=1) bb;have x0:=cellAt u 0 rfl;have cd:=Y mN;clear mN
 go_wp2_with(first
  |(at_mapUpdate;go_loud(refine wl _ rfl _ _ _ 69 rfl 9 74 underlying69 underlying9 (z (G a)) [] rfl (cd 1 (aq c)) pk _ rfl rfl ?_;intro w5 bs bq;have cc:=Y bs;have cb:=Y bq;clear bs bq)))
 have tS:I (λk=>k=d) bg (bg.setCell (R d 1)<|aq c):=io bg d 1 _;have t5:I (λk=>k=z (G a)) (bg.setCell (R d 1)<|aq c) w5:=fj cb;have t:I (λk=>k=d\/k=z (G a)) w2 w5:=(((tU.mono (T:=λk=>k=d\/k=z (G a)) cC).trans tV<|λ_ q=>.inl<|.inl q).trans tS<|λ_ q=>.inl<|.inl q).trans t5<|λ_ q=>.inl<|.inr q;have aD:d≠K.sb:=al.tag L;have F:z (G a)≠K.sb:=λg=>by have:=(af HD).safe.lt;omega
 have bu:d≠z (G a):=C.tag L;have br:K.sb<z (G a):=(af HD).safe.lt;have g5:pj w5 K.sb (z (G a)+1) [(pk,kT<|H d)] []:=W.kept (t.block _ (by omega)<|λq=>q.elim (λg=>aD g.symm)<|λg=>F g.symm) (t.block _ (by omega)<|λq=>q.elim (λg=>by omega)<|λg=>by omega);have HG:=Y g5;have cw:=t.size;have bx:I (λk=>k=b\/k=d) a w5:=((((ce.mono (T:=λk=>k=b\/k=d)<|λ_ q=>.inl<|.inl q).bW l).trans s<|λk g=>.inr (by have E:k=z (G a)+1:=g;omega))).trans t<|λk q=>q.elim (λg=>.inl<|.inr g)<|λg=>.inr<|by omega
 have S:∃D bE,oA a w5 b K D/\D.files=[⟨pk,d,bE,e.take c,c⟩]/\D.dM=[]:=by
  have hH:=af HD;have av:(⟨pk,d,aY j 0 (y e) w,e,c⟩:cX)∈K.files:=by rw[hf];simp
  have ax:=hH.files _ av;have dk:j≠d:=λg=>tZ ax.2.1 ax.1 (by decide) (by show H j=H d;rw[g]);have cM:j<z (G o):=(q2.lt j rfl).2;have cT:j<z (G a):=(ax.2.1.lt j rfl).2;have tt:I (λk=>k=d\/k=z (G a)\/k=z (G a)+1) o w5:=((l.mono (T:=λk=>k=d\/k=z (G a)\/k=z (G a)+1) cC).trans s<|λ_ q=>.inl<|.inr<|.inr q).trans t<|λ_ q=>.inl<|q.elim .inl<|λq=>.inr<|.inl q;refine⟨{K with nb:=z<|G a,mv:=aw,files:=[⟨pk,d,aY j 0 c w,e.take c,c⟩],dM:=[]},aY j 0 c w,⟨⟨?_,cc,?_,F,cO _ _ _ _,by simp,?_,by simp⟩,?_,?_⟩,rfl,rfl⟩
  .exact(t5.block b (by rw[gN];exact ar u) (λg=>by have E:b=z (G a):=g;omega)).trans<|(tS.block b (ar u)<|λg=>aF<|Eq.symm g).trans u
  .have:=al.ap tt (λq=>by rcases q with g|g|g;exact aD g.symm;exact F g.symm;omega);exact this
  .intro dn A;simp at A;subst A;refine⟨?_,?_,λbE hx=>q3 bE<|dU hx⟩
   .exact(t5.block d (by rw[gN];exact ar bb)<|λg=>bu g).trans<|(aL bb).trans rfl
   .have ho:=tt.own q2 (λk hk q=>by
     have dm:j=k:=by simpa[cz]using hk
     rcases q with g|g|g<;>omega)
    exact SN ho X
  .exact bx.mono (λk q=>.inl (by
    rcases q with rfl|rfl
    .exact .inl rfl
    .exact .inr (.inr (.inr (.inr (.inr ⟨_,av,.inl rfl⟩))))))
  .rintro k(g|g|g|g|⟨dm,hy,_⟩|⟨dn,A,g⟩)
   .exact .inl<|.inl g
   .exact .inr (by have E:k=z (G a):=g;omega)
   .exact .inl<|.inr<|.inr<|.inl g
   .cases g
   .cases hy
   .simp at A;subst A;refine .inl<|.inr<|.inr<|.inr<|.inr<|.inr ⟨_,av,?_⟩;rcases g with g|g
    .exact .inl g
    .exact .inr<|by simpa[cz]using g
 have bd:=Y S;clear S bx cw g5 br bu F aD t t5 tS y0 y1 z1 x0 u cx aF cB bb tV hV bh tU hU v1 v2 v3 v4 v5 v6 v7 v8 a2 ao s cl bn W bp cu r a1 cE l L q2 q3 z0 n c0 c1 c2 c4 c5 f0 f2 f4 f5 cp bt cm bm hm hs hf cn aa hl X cv cs;rw[fT]
 go_wp2_with(first
  |(at_next;refine pF _ rfl _ rfl K.sb (z (G a)+1) _ _ rfl HG ?_ ?_))
 go_end0;obtain⟨D,bE,A,h2,h3⟩:=af bd;exact⟨rfl,D,A,⟨bE,h2⟩,h3⟩
def Tu(j:cH a b i)(d:vw i.files=[(fD 1,jg 1 [e])])(k:i.dM=[])(m:Steps a)(l:Pow a)(f:¬i.aO b 1)(g:¬i.aO b 2)(c:vI (((0:M):U)+1) [e])(p:y e<=8):xz a b i [] [] [] [] 8 0 1 2 1 ci [e]where
 aM:=j
 oa:=by
  refine⟨λq o h=>?_,.inr ⟨?_,rfl,rfl,rfl,rfl,rfl,rfl,rfl⟩,λ_=>?_,λh=>(by cases h),by simp,by simp,by simp,by omega,by simp⟩
  .rw[d]at h;by_cases n:fD 1=q
   .exact .inr<|.inl ⟨n.symm,rfl⟩
   .simp[dB,n]at h
  .rw[d];have:fD 1≠fm:=nQ 1;simp[dB,this]
  .rw[d];simp[dB]
 pr:=SI
 lp:=c
 qp:=by
  have:=(qX c).2.2.2.2;simp[bZ]at this|-;omega
 oO:=by omega
 s1:=⟨by simp,List.Pairwise.nil,List.Pairwise.nil⟩
 s2:=⟨by simp,List.Pairwise.nil,List.Pairwise.nil⟩
 s3:=⟨by simp,List.Pairwise.nil,List.Pairwise.nil⟩
 Qt:=λ_=>by simp
 nx:=by omega
 bn:=by simp
 dM:=by rw[k];simp
 AM:=by omega
 steps:=m
 pow:=l
 eL:=f
 lf:=g
def MP(t:UI o i L K n)(m:o.fa=bj)(l:i.files=[])(r:i.sm=[])(p:i.dM=[]):K=ci/\∃g x a,L.files=[⟨fD o.log,g,x,n,0⟩]/\L.sm=[]/\L.dM=[(a,[(fD o.log,H g)])]:=by
 obtain⟨s,F,x,⟨_,q⟩,e,h,j,k⟩:=t;obtain⟨f,g,a,b,c,d⟩:=q m;rw[l]at b;rw[r]at c;rw[p]at d;have hF:F=⟨fD o.log,g,aw,[],0⟩:=by rw[b]at e;simpa[mS]using e.symm
 refine⟨f,g,x,a,?_,k.trans c,j.trans d⟩;rw[h,b,hF];simp[mB]
def PK{F0:cX}(k:UI o i L K n)(f:o.fa=ci)(a:i.files=[F0])(g:F0.name=fD o.log):∃x,L.files=[{F0 with data:=x,bytes:=F0.bytes++n}]/\L.sm=i.sm/\L.dM=i.dM:=by
 obtain⟨j,F,x,⟨h,_⟩,b,c,d,e⟩:=k;obtain rfl:=h f;have hF:F=F0:=by rw[a]at b;simpa[mS,g]using b.symm
 subst hF;refine⟨x,?_,e,d⟩;rw[c,a];simp[mB]
def ye:GL:=⟨⟨#[107]⟩,⟨#[118]⟩,bj⟩
def RG:GL:=⟨⟨#[108]⟩,⟨#[119]⟩,bj⟩
def oI:cI:=[jl 1 ye]
theorem SC(n:U)(l:cI):0<y (mF n l):=by
 simp[mF,gy,le]
structure xy(w W:Z)(db sb:M)(s:SR)(K:DK)(m:cI)(a b c d:cN)(C tb N:M)(ls:dJ):Prop where
 EP:cf W sb s 0
 inv:Inv W sb s K m a b c d C tb N ls []
 tid:Aw s a b c
 zi:s.closed=bj/\s.aM=db/\s.mem=4
 low:(∀k,K.aO db k->z (G w)<=k)/\z (G w)<=sb
 ap:I az w W
section
variable{w W e:Z}{db sbqq:M}{s:SR}{K:DK}{m:cI}{a b c d:cN}{C tbqq N:M}{lsqq:dJ}
theorem xy.still(o:xy w W db sbqq s K m a b c d C tbqq N lsqq)(h:I az W e):xy w e db sbqq s K m a b c d C tbqq N lsqq:=by
 obtain⟨f,g,i,j,k,l⟩:=o;have n:gq W e s.aM sbqq K K:=oJ g.st.aM h;exact⟨(h.block sbqq (ar f) id).trans f,g.fE (ar f) n rfl (ai _) rfl g.loose,i,j,k,l.bW h⟩
theorem xy.Je{s':SR}{k:DK}{u:cI}{n o p r:cN}{h j l E:M}{g:dJ}{x:U->ae->Option ae}(i:xy w W db sbqq s K m a b c d C tbqq N lsqq)(f:EL W e sbqq s 0 K j l [] E x s' k u n o p r h g):xy w e db sbqq s' k u n o p r j h l g:=by
 obtain⟨A,B,D,_⟩:=f.same;obtain⟨c1,c2,c3⟩:=i.zi;subst c2;have t:=f.fE;exact⟨f.box,f.inv,f.tid,⟨B.trans c1,A,D.trans c3⟩,⟨λv q=>(t.aO v q).elim (i.low.1 v)<|λF=>aB i.ap.size F,i.low.2⟩,i.ap.trans t.ap<|λv q=>.inr<|q.elim (i.low.1 v) (λL=>by have:=i.low.2;omega)⟩
end
def Yj(l:kK):Prop:=tj (gp [] [oI].flatten::(bY [] [] [] []).map (jO ((0+1:M):U))) l
theorem Vt{w W:Z}{db sbqq b n:M}{E:ab}(O:xy w W db sbqq (SR.new db 4 2 n) (iM b) [] [] [] [] [] 0 0 0 [])(hc:∀e,I (λS=>S=sbqq) W e->Cz e E [ye]):cD aZ 15 #[aA sbqq,E,aK ci] W λal e=>al=aJ .nilIface/\∃f g l L X,xy w e db sbqq f g l [] [] [] [] 1 0 1 [oI]/\(f.fa=ci/\f.log=1/\f.aT=1)/\(g.files=[⟨fD 1,L,X,mF 1 oI,y<|mF 1 oI⟩]/\g.sm=[(fD 1,kT<|H L)]/\g.dM=[])/\Yj (AC [] [ye]):=by
 have D:fJ [ye]=0:=rfl;have k:mj [ye]=1:=by unfold mj;rw[dV D];rfl
 apply(wk [] ci O.EP O.inv O.tid rfl hc (λX f=>by rw[dA.1 f];exact⟨show(1:M)<=140737488351232 by omega,show(1:M)<=140737488351232 by omega⟩) (by simp) (by rw[k];omega)<|by omega).mono;rintro al e⟨rfl,f,g,l,a',b',c',d',ac,aa,h,hX⟩;have x:=hX D (by simp) (by simp[SR.new,SR.fresh,SR.lD]);obtain⟨⟨rfl,o,rfl,rfl,rfl,rfl⟩,⟨l1,T,l3⟩,ln,K2,Q,_,hs⟩:=x;have t:[ye].map (jl<|((SR.new db 4 2 n).aT:U)+1)=oI:=rfl;rw[t]at o Q;rw[de]at o;subst o;obtain⟨rfl,L,X,ad,u,f2,F⟩:=MP Q rfl rfl rfl rfl;obtain⟨ao,hF,V,q2,q3⟩:=hs rfl rfl;have i:(SR.new db 4 2 n).log=1:=rfl;rw[i]at u F hF T;have r:mF (((0:M):U)+1+(y ([]:dJ):U)) oI=mF 1 oI:=rfl;rw[r]at u;rw[u]at hF V;have v:ao=⟨fD 1,L,X,mF 1 oI,0⟩:=by simpa[mS]using hF.symm
 subst v;have P:=O.Je h;rw[k]at P;refine⟨by rw[D];rfl,f,g,l,L,X,P,⟨l1,T,h.Bw⟩,⟨by rw[V];simp[mB],?_,q2⟩,?_⟩;rw[q3,f2,F];rfl;(have B:tj ((([]:cI)::bY [] [] [] []).map<|jO (((SR.new db 4 2 n).aT:M):U)) []:=by refine⟨List.Pairwise.nil,λS an=>⟨λq=>(by cases q),λq=>?_⟩⟩;cases q);have A:=(EF O.inv B [ye]).1;have p:uf [] [ye]=AC [] [ye]:=rfl;rw[p]at A;have j:tj ((l::bY [] [] [] []).map<|jO (f.aT:U)) (AC [] [ye]):=⟨A.1,λS an=>by rw[A.2 S an,<-h.uy _ (.inr rfl) S,h.Bw];rfl⟩;rw[cr,h.inv.mem,h.inv.Bw]at j;exact j
theorem Vs{w W:Z}{db sbqq:M}{s:SR}{K:DK}{m:cI}{B:M}{ad x:ab}(k:xy w W db sbqq s K m [] [] [] [] 1 0 1 [oI])(t:s.fa=ci/\s.log=1/\s.aT=1)(l:K.files=[⟨fD 1,B,ad,mF 1 oI,y<|mF 1 oI⟩]/\K.sm=[(fD 1,kT<|H B)]/\K.dM=[])(S:∀e,I (λD=>D=sbqq) W e->Cz e x [RG]):cD aZ 15 #[aA sbqq,x,aK bj] W λal e=>al=aJ .nilIface/\∃f j v,cH e db f/\I az w e/\(∀D,f.aO db D->z (G w)<=D)/\f.files=[⟨fD 1,B,j,mF 1 oI++v,y<|mF 1 oI⟩]/\f.sm=[(fD 1,kT<|H B)]/\f.dM=[]/\y (mF 1 oI++v)<=1000000000/\vI (((0:M):U)+1) [oI]:=by
 have r:fJ [RG]=0:=rfl;have q:mj [RG]=1:=by unfold mj;rw[dV r];rfl
 have p:s.fS=1:=by have:=k.inv.Rz;simpa[oI]using this
 have u:=k.inv.lp;apply(wk [] bj k.EP k.inv k.tid k.zi.1 S (λad f=>by rw[dA.1 f];exact⟨show(1:M)<=140737488351232 by omega,show(1:M)<=140737488351232 by omega⟩) (by simp) (by rw[q];omega)<|by omega).mono;rintro al e⟨rfl,s',f,m',a',b',c',d',ac,aa,L,P⟩;have n:=P r (by simp) (by rw[p,k.zi.2.2];simp);obtain⟨⟨rfl,rfl,rfl,rfl,rfl,rfl⟩,⟨V,X,l3⟩,ln,K2,O,T,_⟩:=n;obtain rfl:=T rfl;obtain⟨j,A,E,F⟩:=PK O t.1 l.1 (by rw[t.2.1]);have h:=k.Je L;have g:=h.inv.oa.log V;rw[X,t.2.1,A]at g;have Q:=h.inv.JJ.1;have o:dB (vw [({(⟨fD 1,B,ad,mF 1 oI,y<|mF 1 oI⟩:cX)with data:=j,bytes:=mF 1 oI++mF (((0:M):U)+1+y ([oI]:dJ)) ([RG].map<|jl<|(s.aT:U)+1)}:cX)]) (fD 1)=H (mF 1 oI++mF (((0:M):U)+1+y ([oI]:dJ)) ([RG].map<|jl<|(s.aT:U)+1)):=by simp[vw,dB]
 have i:=h.inv.st.aM;rw[h.zi.2.1]at i;refine⟨by rw[r];rfl,f,j,_,i,h.ap,h.low.1,A,E.trans l.2.1,F.trans l.2.2,?_,u⟩;rw[o]at g;have:=gT g;rw[this];omega
theorem Qv{w W e:Z}{db:M}{K h:DK}{A:ab}{r:M}{p:dN}(j:Steps w/\Pow w/\ou w)(o:I az w W)(i:∀k,K.aO db k->z (G w)<=k)(l:oA W e db K h)(v:h.files=[⟨fD 1,r,A,(mF 1 oI++p).take<|y<|mF 1 oI,y<|mF 1 oI⟩])(x:h.dM=[])(n:vI (((0:M):U)+1) [oI])(u:Yj (AC [] [ye])):Mf w e db 4 2 az 8 1 (AC [] [ye]):=by
 have g:I az w e:=o.trans l.ap<|λk q=>.inr<|i k q;have f:∀k,h.aO db k->z (G w)<=k:=λk q=>(l.aO k q).elim (i k)<|λr=>aB o.size r;have t:xz e db h [] [] [] [] 8 0 1 2 1 ci [oI]:=Tu l.ok (by rw[v];simp[vw,jg]) x (Steps.ap j.1 g id) (j.2.1.ap g id) (λq=>by have:=f _ q;have:=j.1.lt;omega) (λq=>by have:=f _ q;have:=j.2.1.lt;omega) n (by simp[oI]);exact⟨h,[],[],[],[],0,2,1,ci,[oI],t,⟨by simp[oI],⟨by simp,by simp,by simp⟩⟩,u,by simp[AC,ux,oq,ye],g,f,cC,j⟩
theorem OC{W:Z}{sbqq:M}(c:GL)(t:TypeId)(j:sbqq<z (G W)):∀e,I (λn=>n=sbqq) (cG W<|ay #[am c.key,am c.val,aK c.del] t) e->Cz e (aY (z<|G W) 0 1 1) [c]:=by
 intro e k;have g:=jb W<|ay #[am c.key,am c.val,aK c.del] t;have l:=ar g;have f:e.heap[z<|G W]?=_:=(k.block (z<|G W) l (λh=>by have o:z (G W)=sbqq:=h;omega)).trans g;refine .inl ⟨⟨rfl,.inr ⟨z<|G W,0,1,rfl,ai _,λp u h=>?_⟩⟩,λn i=>by cases i;exact ar f⟩;rw[dr,bV f];simpa[iE,rk]using h
def Qu(hS:Steps a)(hP:Pow a)(hE:ou a):cD aZ 4 #[] a λv w'=>v=aJ (aK ci)/\I az a w':=by
 have aU:=wJ a;obtain⟨HS,HP,HE⟩:=dz hS hP hE;clear hS hP hE;go_in
 go_wp2_with fail
 apply aU.mono;rintro v W1⟨rfl,ac,Q⟩;have t1:I az a W1:=I.aQ Q;have d:∀bq,(iM<|z<|G a).aO (z (G a)+2) bq->z (G a)<=bq:=λbq q=>by rcases q with bg|bg|bg|bg|⟨bv,hx,bg⟩|⟨bu,hg,bg⟩;omega;have:bq=z (G a):=bg;omega;have:bq=z (G a)+1:=bg;omega;cases bg;cases hx;cases hg
 have c:=SQ 4 2 ac (Steps.ap HS t1 id) (HP.ap t1 id) (λq=>by have:=d _ q;have:=HS.lt;omega) (λq=>by have:=d _ q;have:=HP.lt;omega) (by omega);have l:=Y t1;have C:=Y d;clear aU ac Q t1 d;go_wp2_with fail
 apply c.mono;rintro v W2⟨rfl,p,m,P,bb,bm⟩;obtain⟨b,u⟩:∃b,z (G W1)+2=b:=⟨_,rfl⟩;rw[u]at p m;rw[u];have bo:∀a:Z,(binOp .eql 31 (aA b)<|dF none).run aZ a=.ok (aK bj) a:=λ_=>rfl;obtain⟨w,D,N,K⟩:=fX p m P bb;clear p m P bb c;go_wp2_with fail
 apply(kr W2).mono;rintro v W3⟨rfl,S⟩;have L:=Y<|show I az W2 W3 from I.aQ S;clear S;have n:xy a W3 (z (G a)+2) b (SR.new (z (G a)+2) 4 2<|z (G W1)+1) (iM<|z<|G a) [] [] [] [] [] 0 0 0 []:=xy.still ⟨w,D,N,⟨rfl,rfl,rfl⟩,⟨C,by have:=l.size;omega⟩,l.bW K⟩ L;have bd:=Vt (n.still<|cK az W3)<|OC ye 57<|ar n.EP;clear n w D N K L bm u C l;go_wp2_with fail
 apply bd.mono;rintro v W4⟨rfl,s4,K4,m4,bu,bv,o,av,O,hC⟩;have bf:=Vs (o.still<|cK az W4) av O<|OC RG 57<|ar o.EP;have HC:=Y hC;clear o av O hC bd;go_wp2_with fail
 apply bf.mono;rintro v W5⟨rfl,K5,x5,bt,ad,bc,k,an,aV,aD,T,ax⟩;have aa:=Ru ad an aV aD ⟨rfl,by simp⟩ T (by have:=SC 1 oI;simp only[ag];omega);obtain⟨bi,E,bh⟩:=dz bc k ax;clear ad an aV aD T bf bc k ax;go_wp2_with fail
 apply aa.mono;rintro v W6⟨rfl,K6,x6,al,ao,aF⟩;have X:=Qv ⟨HS,HP,HE⟩ bi E al ao aF bh HC;have c:=IE X (by omega) (by omega);clear aa al ao aF X;go_wp2_with fail
 apply c.mono;rintro v W7⟨rfl,bn,bl,r⟩;obtain⟨s7,t⟩:∃s7,z (G W6)+2=s7:=⟨_,rfl⟩;rw[t]at r;rw[t];have bp:∀a:Z,(binOp .eql 31 (aA s7)<|dF none).run aZ a=.ok (aK bj) a:=λ_=>rfl;have x:=Y r;clear r c bl bn t;go_wp2_with fail
 apply(kr W7).mono;rintro v W8⟨rfl,V⟩;have A:=Y<|x.still<|I.aQ V;clear V x;go_wp2_with fail
 apply(kr W8).mono;rintro v W9⟨rfl,W⟩;have B:=Y<|A.still<|I.aQ W;clear W A;go_wp2_with fail
 apply(kr W9).mono;rintro v br⟨rfl,f⟩;have i:=B.still<|I.aQ f;have s:=Un i ⟨#[107]⟩ (show(1:M)<=140737488351232 by omega);have au:yY (AC [] [ye]) ⟨#[107]⟩=(⟨#[118]⟩,ci,0):=by simp[yY,AC,ux,oq,ye,lZ,ByteArray.size]
 rw[au]at s;clear f B i au;go_wp2_with fail
 apply s.mono;rintro v bk⟨rfl,ba,j⟩;have e:=Y j;clear j ba s;go_wp2_with fail
 apply(kr bk).mono;rintro v bs⟨rfl,g⟩;have F:=Y (e.still<|I.aQ g).ap;clear g e;go_wp2;go_ret;exact⟨rfl,F⟩
theorem TP:prog.globalNamed "levels/code.steps" =H 1:=by kernel_rfl
theorem YS:prog.globalNamed "internal/strconv.uint64pow10" =H 2:=by kernel_rfl
theorem XW:prog.globalNamed "errors.errorType" =H 0:=by kernel_rfl
theorem WD:(prog.globals[1]?).map (·.type)=H 337:=by kernel_rfl
theorem YE:(prog.globals[2]?).map (·.type)=H 365:=by kernel_rfl
theorem Wy:prog.underlying 337=H (.array 16 82):=by kernel_rfl
theorem YC:prog.underlying 365=H (.array 20 89):=by kernel_rfl
theorem XE:prog.underlying 82=H (.int .u32):=by kernel_rfl
theorem XD:prog.underlying 89=H (.int .u64):=by kernel_rfl
theorem YI:(prog.cutTypes.find? (·.1== "internal/reflectlite.rtype")).map (·.2)=H 217:=by kernel_rfl
theorem WR:((List.range 426).filter λt=>prog.rowNamed t [101,114,114,111,114])=[41]:=by kernel_rfl
theorem Sf:prog.types.size=426:=by kernel_rfl
def Aa:cS (String×DataW Unit):=[("levels/code.steps",Rows.laid_levels_code_steps),("math/bits.deBruijn32tab",Rows.laid_math_bits_deBruijn32tab),("math/bits.deBruijn64tab",Rows.laid_math_bits_deBruijn64tab),("internal/strconv.uint64pow10",Rows.laid_internal_strconv_uint64pow10),("errors.errorType",Rows.laid_errors_errorType),("strconv.ErrRange",Rows.laid_strconv_ErrRange),("strconv.ErrSyntax",Rows.laid_strconv_ErrSyntax)]
theorem Vn{W:Z}(p:laidMetH aZ Aa W):Steps W/\Pow W/\ou W:=by
 obtain⟨c,d⟩:=laidMetH_iff.1 p;have f:=c.filter (λx=>x.1== "levels/code.steps");rw[show((Aa.filter λx=>x.2.handleName?.isNone).filter λx=>x.1== "levels/code.steps")=[("levels/code.steps",Rows.laid_levels_code_steps)]by kernel_rfl]at f;have g:=c.filter (λx=>x.1== "internal/strconv.uint64pow10");rw[show((Aa.filter λx=>x.2.handleName?.isNone).filter λx=>x.1== "internal/strconv.uint64pow10")=[("internal/strconv.uint64pow10",Rows.laid_internal_strconv_uint64pow10)]by kernel_rfl]at g;rw[show(Aa.filter λx=>x.2.handleName?.isSome)=[("errors.errorType",Rows.laid_errors_errorType)]by kernel_rfl]at d;refine⟨?_,?_,?_⟩
 .have b:Lib.TabIs aZ W "levels/code.steps" .u32 [0,498536548,997073096,651767980,1994146192,1802195444,1303535960,1342533948,3988292384,4027552580,3604390888,3412177804,2607071920,2262029012,2685067896,3183342108]:=Lib.tabIs_of_head TP WD Wy XE (by kernel_rfl) (by kernel_rfl) f;intro k a;rw[World.var?_cell TP b k];have:∀k,k<16->(([0,498536548,997073096,651767980,1994146192,1802195444,1303535960,1342533948,3988292384,4027552580,3604390888,3412177804,2607071920,2262029012,2685067896,3183342108]:dN).map λb=>Value.int .u32 b).toArray[k]?=H (.int .u32 (Lv k)):=by
   intro k a;match k,a with
   |0,_|1,_|2,_|3,_|4,_|5,_|6,_|7,_|8,_|9,_|10,_|11,_|12,_|13,_|14,_|15,_=>rfl
   |n+16,p=>grind
  exact this k a
 exact Lib.tabIs_of_head YS YE YC XD (by kernel_rfl) (by kernel_rfl) g;obtain⟨a,u,o,h,i,j,k,b⟩:=d _ (dA.2 rfl);have l:a=[101,114,114,111,114]:=(gT h).symm;subst l;obtain rfl:=gT (YI.symm.trans i);have e:o∈(List.range 426).filter λt=>prog.rowNamed t [101,114,114,111,114]:=dY.2 ⟨nk.2 (by rw[<-Sf];exact j),k⟩;rw[WR]at e;obtain rfl:=dA.1 e;(have m:typeHandle aZ 41=.pointer (H (R (7) 41)):=by kernel_rfl);rw[m]at b;unfold ou;simpa using World.var?_cell XW b 0
theorem LB{W:Z}{a n:M}{g:Addr}{b:iF}(h:W.cells? a g n=H b):y b=n/\∀j,j<n->aS W (g.add j)=b[j]?:=by
 unfold World.cells? at h;split at h;have f:=Lib.mapM_length h;refine⟨by simpa using f,λj e=>?_⟩;obtain⟨i,c,d⟩:=Lib.mapM_at h j j (by simp[e]);rw[d,c];cases h
theorem JA{W:Z}{q:Addr}{e b:M}(f:0<e)(o:0<b){Q:M->iF->Prop}(x:∀i,i<e->∃c,W.cells? 0 (q.add (i*b)) b=H c/\Q i c):∃j a,q=(R j a)/\j<z (G W)/\∀i,i<e->∃c,y c=b/\(∀p,p<b->aS W (R j (a+i*b+p))=c[p]?)/\Q i c:=by
 obtain⟨c,n,_⟩:=x 0 f;obtain⟨r,l⟩:=LB n;have k:=l 0 o;rw[zn]at k;have s:(q.add 0).add 0=q:=rfl;rw[s]at k;obtain⟨j,a,d⟩:=q;have w:∃A,aS W ⟨j,a,d⟩=H A:=⟨c[0]'(by omega),by rw[k];grind⟩;obtain⟨A,h⟩:=w;have m:j<z (G W)/\d=none:=by unfold World.cell? at h;simp only at h;split at h;rename_i C E D B;refine⟨?_,?_⟩;(grind);simp_all;cases h
 obtain⟨m,rfl⟩:=m;refine⟨j,a,rfl,m,λi t=>?_⟩;obtain⟨c,n,v⟩:=x i t;obtain⟨r,l⟩:=LB n;refine⟨c,r,λp u=>?_,v⟩;rw[<-l p u,Go.Deep.add_add];unfold Addr.add;by_cases g:i*b+p=0;rw[dV g,bF,g];rfl;grind
def xH(P:Program)(t:TypeId):Option (cS (TypeId×M)):=match P.underlying t with
 |some (.struct a)=>H (a.toList.map λf=>(f.type,f.offset))
 |_=>none
theorem zB{P:Program}{t:TypeId}{l:cS (TypeId×M)}(h:xH P t=H l):∃a,P.underlying t=H (.struct a)/\a.toList.map (λf=>(f.type,f.offset))=l:=by
 unfold xH at h;grind
theorem BU{d:Type}{e:TypeId×ab->d}{P:Program}{w:Z}{b f:M}{l:M->Bool}{c:Bool}{t:TypeId}{k:iF}{x:DataW d×cS MemPlace}{q:cS (TypeId×M)}(n:xH P t=H q)(u:DataW.trod e P w b l c f t k=H x):∃(g:cS (DataW d×cS MemPlace))(r:M),x.1=.agg (g.map (·.1))/\y g=y q/\∀(p i a:M),q[p]?=H (i,a)->∃h,g[p]?=H h/\DataW.trod e P w b l c r i ((k.drop a).take (P.cellsOf i))=H h:=by
 obtain⟨s,o,rfl⟩:=zB n;obtain⟨g,r,_,rfl,_,j,v⟩:=DataW.trod_struct o u;refine⟨g,r,rfl,by simpa using j,λp i a m=>?_⟩;rw[fc,uR]at m;grind
theorem wu{a:Type}{P:Program}{e:TypeId}:∀{l:cS (DataW a)}{d:DataW a},d∈l->∀n∈d.weights P e,n∈DataW.weightsAll P e l
 |[],_,h,_,_=>by cases h
 |x::r,d,h,n,b=>by
  rw[DataW.weightsAll];rcases bR.1 h with rfl|h
  .grind
  .exact kU _ (wu h n b)
theorem yl{a:Type}{P:Program}{t e:TypeId}(d:P.underlying t=H (.slice e))(b c:cS (DataW a)):(DataW.slice b c).weights P t=(y b+y c)*P.bytesOf e::(DataW.weightsAll P e b++DataW.weightsAll P e c):=by
 rw[DataW.weights,d]
theorem BF{a:Type}{P:Program}{t:TypeId}{l:cS (TypeId×M)}(c:xH P t=H l)(b:cS (DataW a)):(DataW.agg b).weights P t=DataW.weightsEach P (l.map (·.1)) b:=by
 obtain⟨e,d,rfl⟩:=zB c;rw[DataW.weights,d];simp only[iP];rfl
theorem We:xH aZ 57=H [(9,0),(9,1),(4,2)]:=by kernel_rfl
theorem XI:xH aZ 63=H [(3,0),(58,1)]:=by kernel_rfl
theorem Se:prog.underlying 58=H (.slice 57):=by kernel_rfl
theorem Wz:prog.underlying 22=H (.slice 63):=by kernel_rfl
theorem XC:prog.underlying 9=H .string:=by kernel_rfl
theorem Wc:prog.underlying 4=H .bool:=by kernel_rfl
theorem Wb:prog.underlying 23=H (.int .u64):=by kernel_rfl
theorem Mj:prog.underlying 3=H (.int .i64):=by kernel_rfl
theorem YV:prog.cellsOf 9=1:=by kernel_rfl
theorem Ye:prog.cellsOf 4=1:=by kernel_rfl
theorem YW:prog.cellsOf 3=1:=by kernel_rfl
theorem Yd:prog.cellsOf 58=1:=by kernel_rfl
theorem YX:prog.cellsOf 57=3:=by kernel_rfl
theorem Zj:prog.cellsOf 63=2:=by kernel_rfl
theorem YZ:prog.bytesOf 57=40:=by kernel_rfl
theorem Zk:prog.bytesOf 63=32:=by kernel_rfl
theorem yx(l:pS):y (iE l)=y l*3:=by
 induction l with
 |nil=>rfl
 |cons c l b=>
  have e:iE (c::l)=rk c++iE l:=rfl;rw[e,ag,b,aW];have:y (rk c)=3:=rfl;omega
theorem zK(l:cS LW):y (qZ l)=y l*2:=by
 induction l with
 |nil=>rfl
 |cons c l b=>
  have e:qZ (c::l)=c.cells++qZ l:=rfl;rw[e,ag,b,aW];have:y c.cells=2:=rfl;omega
theorem wx{b:iF}{k:M}{u:ab}(h:(b.drop k).take 1=[u]):b[k]?=H u:=by
 have c:=bQ (λl=>l[0]?) h;grind
section
variable{a:Type}{enc:TypeId×ab->a}
theorem SS{W:Z}{F:M->Bool}{c:Bool}{b:M}{d:iF}{P:DataW a×cS MemPlace}(Q:DataW.trod enc aZ W 0 F c b 57 d=H P):∃h:GL,d[0]?=H (.string h.key)/\d[1]?=H (.string h.val)/\d[2]?=H (.bool h.del)/\(∀B,(∀O∈P.1.weights aZ 57,O<=B)->h.key.size<=B/\h.val.size<=B):=by
 obtain⟨q,O,D,C,f⟩:=BU We Q;obtain⟨K,i,n⟩:=f 0 _ _ rfl;obtain⟨L,j,o⟩:=f 1 _ _ rfl;obtain⟨N,k,p⟩:=f 2 _ _ rfl;rw[YV]at n o;rw[Ye]at p;obtain⟨l,t,w,_⟩:=DataW.trod_string XC n;obtain⟨m,u,x,_⟩:=DataW.trod_string XC o;obtain⟨E,v,A⟩:=DataW.trod_bool Wc p;refine⟨⟨l,m,E⟩,wx t,wx u,wx v,λB e=>?_⟩
 have g:q=[K,L,N]:=by
  match q,C,i,j,k with
  |[r,s,S],_,i,j,k=>
   grind
 rw[D,g,BF We,w,x,A]at e;simp only[cr,gQ,DataW.weightsEach,DataW.weights,aG,bR,gW,oe]at e;have r:=e (y l.data.toList) (by simp);have s:=e (y m.data.toList) (by simp);rw[kq]at r s;simp_all
theorem Qd{W:Z}{k:M}{ac:ab}{al:DataW a×cS MemPlace}(ao:DataW.trod enc aZ W 0 (λ_=>ci) ci k 58 [ac]=H al)(t:∀p∈al.1.weights aZ 58,p<=140737488351232):∃h:pS,Cz W ac h/\(∀q∈h,q.key.size<=140737488351232/\q.val.size<=140737488351232)/\y h<=10000000000000:=by
 rcases Go.Deep.open_slice Se ao with⟨g,_⟩|⟨an,b,L,ad,p,F,K,g,_,hl,_,C,N,l⟩;simp only[oz,vZ]at g;exact⟨[],.inl ⟨⟨rfl,.inl ⟨g,rfl⟩⟩,λau r=>by rw[g]at r;cases r⟩,by simp,by simp⟩;simp only[oz,vZ]at g;simp only[lk]at C;subst g C;by_cases T:b=0;subst T;exact⟨[],.inr ⟨rfl,an,ad,rfl⟩,by simp,by simp⟩;rw[YX]at l;obtain⟨E,c,rfl,X,V⟩:=JA (Q:=λi h=>DataW.trod enc aZ W 0 (λ_=>ci) ci p 57 h=H (F i,K i)) (by omega:0<b) (by omega:0<3) (λi e=>l i (by omega));(have o:∀i,i<b->∃q:GL,aS W (R E (c+i*3))=H (.string q.key)/\aS W (R E (c+i*3+1))=H (.string q.val)/\aS W (R E (c+i*3+2))=H (.bool q.del)/\(∀B,(∀p∈(F i).weights aZ 57,p<=B)->q.key.size<=B/\q.val.size<=B):=by grind[SS]);have D:Inhabited GL:=⟨⟨⟨#[]⟩,⟨#[]⟩,bj⟩⟩;obtain⟨w,B⟩:=Go.Deep.choose_lt o;rw[N,yl Se,YZ]at t;(have n:b<=10000000000000:=by have:=t _ (mr);grind);have v:∀i,i<b->∀p∈(F i).weights aZ 57,p<=140737488351232:=λi e p c=>t p (dC _ (jR _ (wu (bM.2 ⟨i,nk.2 e,rfl⟩) p c)));(have d:y ((List.range b).map w)=b:=by simp);refine⟨(List.range b).map w,.inl ⟨⟨by rw[yx],.inr ⟨E,c,ad,by rw[d],by rw[d];exact hl,λj av f=>?_⟩⟩,λau r=>by cases r;exact X⟩,λq hc=>?_,by rw[d];exact n⟩;(have aa:j<b*3:=by have:=(jt.1 f).1;rw[yx,d]at this;exact this);(have e:j/3<b:=by omega);obtain⟨S,x,A⟩:=kJ ((List.range b).map w) (j/3) (by rw[d];exact e);obtain⟨f0,O,P,_⟩:=B (j/3) e;(have m:j%3=0\/j%3=1\/j%3=2:=by omega);(have u:((List.range b).map w)[j/3]'(by rw[d];exact e)=w (j/3):=by simp);rw[u]at S x A;rcases m with m|m|m;(grind);(have s:j=j/3*3+1:=by omega);rw[s]at f|-;rw[x]at f;rw[<-bF,O,f];(have s:j=j/3*3+2:=by omega);rw[s]at f|-;rw[A]at f;rw[<-bF,P,f];obtain⟨i,e,rfl⟩:=bM.1 hc;have m:=nk.1 e;exact(B i m).2.2.2 _ (v i m)
end
