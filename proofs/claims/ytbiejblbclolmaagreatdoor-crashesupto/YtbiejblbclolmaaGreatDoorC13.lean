import Derived.Deep.Slices
import Derived.LaidHandle
import Derived.LaidSub
import Derived.Lib.LaidTab
import Derived.Test.YtbiejblbclolmaaGreatDoorRows
import Derived.Test.YtbiejblbclolmaaGreatDoorC12
open _root_ renaming List.length→y,Option.some→H,Array.size→z,Go.World.heap→G,Go.Value.ownBlock→cI,Go.World.cell?→aW,Go.World.setCell→cH,Go.World.alloc→dd,Bool.false→bw,Bool.true→cf,Nat→M,Int→U,List→ci,Go.Calls→cY,Go.Proofs.Tryz.prog→bA,Go.Value.slice→I,Go.Value.string→am,Go.Value.bool→aM,Go.Value.pointer→dC,Go.Value.tuple→dA,Go.Value.agg→dL
namespace Go.Proofs.YtbiejblbclolmaaGreatDoor
open ChangeShapes WideShapes RowKit Proofs.Tryz List
set_option maxHeartbeats 16000000
set_option linter.all false
set_option maxRecDepth 100000
variable{a f:Y}{S:Bool}
def Ny(g:bY f (z (G a)+2) (mB (z<|G a) 1099511627776 S))(i:Z aw a f)(e:Steps a)(d:Pow a){mem tabqq:U}(h:1<=mem/\mem<=32/\2<=tabqq/\tabqq<=6):(∀k,(mB (z<|G a) 1099511627776 S).aL (z (G a)+2) k->z (G a)<=k)/\re f (z (G a)+2) mem tabqq (mB (z<|G a) 1099511627776 S) 0 0 (λ_=>none) 2 1 0 [] [] [] [] bw []/\uG (mB (z<|G a) 1099511627776 S) 1 ([]++[]++[]++[])/\yf (mB (z<|G a) 1099511627776 S) 1 0 [] 0/\∀j,0<=j->j<=y ([]:dX)->SQ (λx=>x=[]) (pO 0 [] [] [] [] [] j):=by
 have b:∀k,(mB (z<|G a) 1099511627776 S).aL (z (G a)+2) k->z (G a)<=k:=λk q=>by rcases q with c|c|c|c|⟨x,m,c⟩|⟨o,l,c⟩;omega;have:k=z (G a):=c;omega;have:k=z (G a)+1:=c;omega;cases c;cases m;cases l
 obtain⟨c1,c2⟩:=uG.start (K:=mB (z<|G a) 1099511627776 S) (lsqq:=[]) rfl rfl g.fF List.Pairwise.nil (RH (mem:=mem) (tabqq:=tabqq) h).rD<|λF q=>by cases q
 refine⟨b,⟨g,RH h,by omega,by omega,λm l=>by
  have c:m=[]:=by simpa[mB]using l
  subst c;simp[mB,lP],Steps.aj e i id,d.aj i id,λq=>by have:=b _ q;have:=e.lt;omega,λq=>by have:=b _ q;have:=d.lt;omega⟩,c1,c2,λj _ _=>⟨[],⟨List.Pairwise.nil,λk v=>⟨λq=>(by cases q),λq=>?_⟩⟩,rfl⟩⟩
 have n:pO 0 [] [] [] [] [] j k=none:=by unfold pO;rw[List.take_nil];rfl
 rw[n]at q;cases q
def Zv:zL (xZ (xZ [] [UZ]) [XX]) ⟨#[107]⟩=(⟨#[118]⟩,cf,0):=by
 simp[zL,xZ,uh,oP,fH,UZ,XX,ot,ByteArray.size];cases NW ⟨#[107]⟩ ⟨#[108]⟩<;>simp[ot]
def TQ(hS:Steps a)(hP:Pow a)(hE:oF a):cY bA 4 #[] a λm w'=>m=aN (aM cf)/\Z aw a w':=by
 have bt:=yF a 1099511627776 bw (by omega);obtain⟨W,V,HE⟩:=dF hS hP hE;go_in
 go_wp2_with fail
 apply bt.mono;rintro m W1⟨rfl,bn,bf⟩;have t1:Z aw a W1:=Z.aQ bf;obtain⟨bq,bb,aF,bd,bc⟩:=Ny bn t1 W V (mem:=4) (tabqq:=2) (by omega);have r:=Dc (Hqq:=True) bb (λ_=>aF) (λ_=>bd) bc (by omega);have i:=X t1;have v:=X bq;go_wp2_with fail
 apply r.mono;rintro m W2(⟨rfl,s2,K2,m2,a2,b2,c2,d2,bT,O,e⟩|⟨q,rfl,K',c',_,_,_,_,_,_,p⟩);rotate_left;exact(PY p rfl rfl rfl).elim;obtain⟨d,L⟩:∃d,z (G W1)+2=d:=⟨_,rfl⟩;rw[L]at e;rw[L];have aU:Ii a W2 (z (G a)+2) d 0 [] (λaa=>aa=[]):=by obtain⟨e1,e2,e3,e4,e5,e6⟩:=e.same;have u:=e.fa;refine⟨s2,K2,m2,a2,b2,c2,d2,bT,O,e.box,e.inv,e.tid,⟨e2,e1,e3,e4⟩,⟨λk q=>(e.aL k q).elim (v k) (λcq=>by have:=i.size;omega),by have:=i.size;omega⟩,i.trans u.aj<|λk q=>.inr<|q.elim (v k) (λm=>by have:=i.size;omega),⟨u.fx.bd rfl,u.fx.room,u.fx.any⟩,⟨W,V,HE⟩,e.cq trivial,?_,⟨List.Pairwise.nil,λk cc=>⟨λq=>(by cases q),λq=>?_⟩⟩⟩;have:=e.inv.bn;have hb:=e.inv.DA;have hl:O=[]:=aS (by omega);have hc:=e.inv.Ot;rw[hl]at hc;have l:=e.nil rfl;refine⟨by grind,l.2,by rw[l.1];simp[eV]⟩;have:=e.rl k;have l:eM s2.aP (m2::bV a2 b2 c2 d2) k=H cc:=q;rw[this]at l;cases l
 have ca:∀a:Y,(binOp .eql 36 (aD d)<|dC none).run bA a=.ok (aM bw) a:=λ_=>rfl;have al:=X aU;go_wp2_with fail
 apply(nj W2).mono;rintro m W3⟨rfl,bg⟩;have B:=al.still<|show Z aw W2 W3 from Z.aQ bg;have bE:∀aa∈[UZ],aa.key.size<=140737488351232/\aa.val.size<=140737488351232:=λaa hx=>by rw[cL.1 hx];exact⟨show(1:M)<=140737488351232 by omega,show(1:M)<=140737488351232 by omega⟩
 have bL:∀aa∈[XX],aa.key.size<=140737488351232/\aa.val.size<=140737488351232:=λaa hx=>by rw[cL.1 hx];exact⟨show(1:M)<=140737488351232 by omega,show(1:M)<=140737488351232 by omega⟩
 have bv:=Jd (B.still<|cO aw W3) (bI (z<|G W3) 0 1 1) [UZ] cf rfl rfl bE (RT UZ 56 B.lt) (by omega);go_wp2_with fail
 apply bv.mono;rintro m W4⟨rfl,C⟩;have bx:=Jd (C.still<|cO aw W4) (bI (z<|G W4) 0 1 1) [XX] bw rfl rfl bL (RT XX 56 C.lt) (by omega);go_wp2_with fail
 apply bx.mono;rintro m W5⟨rfl,aV⟩;have bl:=Ow (aV.cd<|by omega) 0 0 (by omega) (by omega);go_wp2_with fail
 apply bl.mono;rintro m W6⟨rfl,_,l6,bu,t,b⟩;obtain⟨au,⟨nx,lg,T,cm,cn,co,cp,f,P,hr⟩,hs⟩:=b.qP;have ce:=W.lt;have ch:=V.lt;have ba:re W6 (z (G a)+2) 4 2 (t.lU {t.fx with any:=bw}) (0+1+1) (0+1+1) au nx lg T cm cn co cp f P:=⟨b.df.aH.lU ⟨rfl,rfl,rfl,rfl,rfl⟩,hr,b.jV,b.xW,λl hn=>by have h1:y (lP lg (cm++cn++co++cp) l)<=y l:=eW _ _;have h2:=hn.length_eq;have h3:=hr.rD.BY.len b.df.aH.nodup;rw[bU]at h2;rw[vw,bU]at h3;have h4:y (t.lU {t.fx with any:=bw}).files=y t.files:=rfl;show y t.eP+_<=_;rw[b.eP,dB];omega,Steps.aj W b.df.aj id,V.aj b.df.aj id,λq=>by have:=b.df.low _ q;omega,λq=>by have:=b.df.low _ q;omega⟩;have r:=Dc (Hqq:=False) (j0:=0) (Q:=λ_=>True) ba (λq=>q.elim) (λq=>q.elim) (λ_ _ _=>trivial) (by omega);have bs:zL l6 ⟨#[107]⟩=(⟨#[118]⟩,cf,0):=by rcases bu with⟨_,⟨q,_⟩|q⟩|q;cases q;rw[q];simp[zL,xZ,uh,oP,UZ,ot,ByteArray.size];rw[q];exact Zv
 have g:=X<|And.intro (b.df.qt trivial) (And.intro b.df.rm.2 hs);have ad:=X bs;obtain⟨j,n⟩:=And.intro (X b.df.aj) (X b.df.low);go_wp2_with fail
 apply r.mono;rintro m A(⟨rfl,t7,K7,m7,a7,b7,c7,d7,cl,ck,c⟩|⟨q,rfl,K',c',_,_,_,_,_,_,p⟩);rotate_left;exact(PY p g.1 g.2.1 rfl).elim;obtain⟨s,K⟩:∃s,z (G W6)+2=s:=⟨_,rfl⟩;rw[K]at c;rw[K];have cb:∀a:Y,(binOp .eql 36 (aD s)<|dC none).run bA a=.ok (aM bw) a:=λ_=>rfl;have an:=X<|show Z aw a A from j.trans c.fa.aj<|λk q=>.inr<|q.elim (n k) (λm=>by have:=j.size;omega);have o:=X<|show(∀k,K7.aL (z (G a)+2) k->z (G a)<=k)/\z (G a)<=s from⟨λk q=>(c.aL k q).elim (n k) (λcq=>by have:=j.size;omega),by have:=j.size;omega⟩;have F:∀l,Z aw A l->cY bA 15 #[aD s,am ⟨#[107]⟩] l λm w'=>m=aN (dA #[am ⟨#[118]⟩,aM cf,.nilIface])/\Z aw a w':=λl hX=>by have u:=pK (sbqq:=s) c.inv.st.aH hX;have hI:=c.inv.fa (ak c.box) u rfl (ag _) rfl c.inv.loose;have bk:cW l s t7 0:=(hX.block _ (ak c.box) id).trans c.box;have bm:Cr ((m7::bV a7 b7 c7 d7).map<|kq t7.aP) l6:=⟨g.2.2.1,λk cc=>by rw[g.2.2.2 k cc];exact Iff.of_eq<|bS (·=H cc) (c.rl k).symm⟩;have bp:=c.same.1;apply(NU ⟨#[107]⟩ bk hI.st c.same.2.1<|show(1:M)<=140737488351232 by omega).mono;rintro m w'⟨h1,K8,bo,_⟩;have cj:K7.fx.bd=0:=c.fa.fx.bd g.1;rcases h1 with rfl|⟨hb,_⟩;refine⟨?_,(an.cz hX).trans bo.aj<|λk q=>.inr<|q.elim (λq=>o.1 k (by rw[bp]at q;exact q)) (λm=>by have:=o.2;omega)⟩;rw[NV hI.all bm,J ad];rfl;omega
 have ac:=X F;go_wp2_with fail
 apply(nj A).mono;rintro m W8⟨rfl,bh⟩;have ao:=X<|show Z aw A W8 from Z.aQ bh;go_wp2_with fail
 apply(nj W8).mono;rintro m W9⟨rfl,bi⟩;have ap:=X<|show Z aw A W9 from ao.cz<|Z.aQ bi;go_wp2_with fail
 apply(nj W9).mono;rintro m av⟨rfl,D⟩;have br:=ac av<|ap.cz<|Z.aQ D;go_wp2_with fail
 apply br.mono;rintro m ax⟨rfl,N⟩;have w:=X N;go_wp2_with fail
 apply(nj ax).mono;rintro m cd⟨rfl,E⟩;have x:=X<|w.cz<|Z.aQ (S:=aw) E;go_wp2;go_ret;exact⟨rfl,x⟩
structure If where
 ds:ab
 os:ci EQ
 after:U
 dir:U
 tail:U
 Se:Bool
 zS:U
def If.cells(r:If):ix:=[r.ds,aq r.after,aG r.dir,aG r.tail,aM r.Se,aq r.zS]
def uj(c:ci If):ix:=c.flatMap If.cells
theorem Bt(c:ci If)(i:M)(h:i<y c)(j:M)(k:j<6):(uj c)[i*6+j]?=c[i].cells[j]?:=by
 induction c generalizing i with
 |nil=>simp at h
 |cons o c n=>
  have g:uj (o::c)=o.cells++uj c:=rfl;have m:y o.cells=6:=rfl;rw[g];grind
structure H5(w:Y)(r:If):Prop where
 ds:∃x c,r.ds=I x (y r.os) c/\(r.os=[]\/∃g off,x=H (R g off)/\zd w (bI g off (y r.os) c) r.os)
 num:r.after<=9223372036854775807/\r.zS<=9223372036854775807
 uns:(0<=r.dir/\r.dir<18446744073709551616)/\0<=r.tail/\r.tail<18446744073709551616
structure P8(w:Y)(v:ab)(rs:ci If):Prop where
 row:Row w 6 v (y rs) (uj rs)
 lt:∀k,cI v=H k->k<z (G w)
 each:∀r∈rs,H5 w r
def sW(c:ci If):M:=(c.map<|λr=>py r.os).sum
def xX(c:ci If):M:=(c.map<|λr=>y r.os+1).sum
theorem Ra(c:ci If)(i:M)(h:i<y c):sW (c.take<|i+1)=sW (c.take i)+py c[i].os:=by
 unfold sW;rw[ah h,aE,ga];simp
theorem XO(c:ci If)(k:M):sW (c.take k)<=sW c:=by
 unfold sW;grind[take_append_drop]
theorem TT(c:ci If)(i:M)(h:i<y c):xX (c.take<|i+1)=xX (c.take i)+(y c[i].os+1):=by
 unfold xX;rw[ah h,aE,ga];simp
theorem Zp(c:ci If)(k:M):xX (c.take k)<=xX c:=by
 unfold xX;grind[take_append_drop]
theorem zd.aj{w w':Y}{v:ab}{j:ci EQ}(h:zd w v j)(g:Z aw w w'):zd w' v j:=⟨g.row h.row<|λm c=>⟨id,h.lt m c⟩,λo k=>(h.Ot o k).aj g<|λ_ _=>id,λm c=>ai (h.lt m c) g.size,h.S6,h.len,h.lens⟩
theorem Pr{w0 W:Y}{x:Option Addr}{h:ci EQ}{j:M}(g:h=[]\/∃k c,x=H (R k c)/\zd w0 (bI k c (y h) j) h)(m:Z aw w0 W):cY bA 11 #[I x (y h) j] W λn i=>n=aN (aM<|decide<|y h+ER h<=1048576)/\Z aw W i:=by
 rcases g with rfl|⟨k,c,rfl,g⟩;apply(Pp x j W).mono;rintro n i⟨rfl,rfl⟩;exact⟨rfl,Z.refl _ _⟩;apply(Pq k c j h<|g.aj m).mono;grind[jl]
theorem s9{w0 w1 c W:Y}{xb a:M}{mem tabqq:U}(h:Rp W xb (z (G c)+2) (dC none) mem tabqq a)(D:W.heap[a]?=H (ay #[az,aq 0,aM bw,az] 35 (0,0)))(p:bY W (z (G c)+2) (mB (z<|G c) 1099511627776 cf))(g:Z aw w0 c)(s:Z aw c W)(j:∀m,(mB (z<|G c) 1099511627776 cf).aL (z (G c)+2) m->m≠xb/\m≠a)(t:z (G w0)<=xb/\z (G w0)<=a/\xb≠a)(r:1<=mem/\mem<=32/\2<=tabqq/\tabqq<=6)(o:Steps w0)(n:Pow w0)(v:oF w0):XL (.no w1) w0 W xb (z (G c)+2) a (dC none) mem tabqq az az [] [] [] 0 0 0 True (λK=>K=[]):=by
 obtain⟨A,w,u,i,x⟩:=Ny p s (Steps.aj o g id) (n.aj g id) r;have F:=g.size;refine⟨⟨h,Xb D,?_,r,by simp,λm q=>q.elim⟩,mB (z<|G c) 1099511627776 cf,⟨p,g.cz s,(by grind),λm q=>?_,⟨o,n,v⟩,⟨rfl,rfl⟩,λ_=>rfl⟩,_,_,_,_,_,_,_,_,_,_,0,w,⟨List.Pairwise.nil,λm E=>by simp⟩,u,i,x⟩;rintro(q|q|q|⟨E,k,q⟩);exact t.2.2 q;cases q;cases q;cases k;rcases q with rfl|(rfl|q|q|⟨E,k,q⟩)|q;exact⟨λc=>(j _ c).1 rfl,t.1,ak h⟩;(grind);cases q;cases q;cases k;exact q.elim
section
variable{Xqq:Hi}{w0 W d:Y}{xb db a:M}{mem tabqq:U}{bv e sv:ab}{f:ix}{B:ci oR}{l:jt}{safe:U}{C N:M}{b:Prop}{Q:jt->Prop}
theorem YD(k:XL Xqq w0 W xb db a sv mem tabqq bv e f B l safe C N b Q)(x t:U)(i:x<=9223372036854775807)(h:t<=9223372036854775807):cY bA 7 #[aD db,aq x,aq t] W λj d=>j=aN (dA #[])/\XL Xqq w0 d xb db a sv mem tabqq bv e f B l safe C N False Q:=by
 apply(ZH k.cl x t i h).mono;rintro j d⟨rfl,_,c,g⟩;exact⟨rfl,k.xh.pa c (λ_ q=>q)<|ag _,g⟩
theorem YC(j:XL Xqq w0 W xb db a (dC none) mem tabqq bv e f B l safe C N b Q)(k:y l<=C):cY bA 8 #[aD db,dL #[aq mem,aq tabqq]] W λg d=>∃h,g=aN h/\∃m,XD Xqq w0 d xb db a (dC none) mem tabqq bv e f B l safe bw C N m Q:=by
 apply(Lk j.cl k j.xh.DX).mono;rintro g d⟨sv,h,rfl,i,⟨_,_,_,c⟩|⟨q,o,_,_,_,_,c⟩⟩;exact⟨_,rfl,_,j.xh.pa i (λ_ q=>q)<|ag _,c.cd.1.iV (Z.refl aw d) cJ (λn q=>.inl<|.inl<|Or.elim q id<|λg=>by cases g),.inl rfl⟩;exact⟨_,rfl,_,j.xh.pa i (λ_ q=>q)<|ag _,c.iV (Z.refl aw d) cJ (λn q=>.inl<|Or.elim q id<|λg=>by cases g),.inl rfl⟩
end
theorem Ac.o9{Xqq:Hi}{w0 W:Y}{xb:M}{mem tabqq:U}{C N:M}{b:Prop}(h:Ac Xqq w0 W xb mem tabqq C N b):Z aw w0 W:=by
 obtain⟨db,c,a,bv,e,f,B,l,safe,h⟩:=h;exact h.cw.aj
theorem AH{w0:Y}(rx:Option Addr)(g:ci If)(rc:M)(bf ea first:U)(av:M)(bx:av<18446744073709551616)(m:g=[]\/∃dk k,rx=H (R dk k)/\P8 w0 (bI dk k (y g) rc) g)(hC:sW g<=900000)(hN:xX g<=90000000)(hS:Steps w0)(hP:Pow w0)(hE:oF w0):cY bA 3 #[I rx (y g) rc,aq bf,aq ea,aq first,aG av] w0 λbh w'=>bh=aN (aM cf)/\Z aw w0 w':=by
 have T:=TQ hS hP hE;have rR:wrap64 ((IntKind.u64.wrap first).tmod 30)<=9223372036854775807:=by(have h0:(0:U)<=IntKind.u64.wrap first:=by rw[eZ];omega);have h1:=Int.tmod_nonneg 30 h0;have h2:(IntKind.u64.wrap first).tmod 30<30:=(by grind);(have h3:wrap64 ((IntKind.u64.wrap first).tmod 30)=(IntKind.u64.wrap first).tmod 30:=by unfold wrap64;omega);omega
 obtain⟨HS,HP,HE,cp⟩:=gw hS hP hE m;clear hS hP hE m;by_cases dm:1048576<y g;(·(have e1:(1048576:U)<(y g:U):=by omega);(go_in);(go_wp2_with fail);apply T.mono;rintro bh W1⟨rfl,D⟩;have p:=X D;clear D T;go_wp2;go_ret;exact⟨rfl,p⟩);have e1:¬((1048576:U)<(y g:U)):=by omega
 obtain⟨rm,ba⟩:∃rm,wrap64 ((IntKind.u64.wrap first).tmod 30)=rm:=⟨_,rfl⟩;rw[ba]at rR;have co:=X ba;clear ba;go_in
 go_wp2_with fail
 apply T.mono;rintro bh W1⟨rfl,D⟩;have p:=X D;clear D T;have cd:=Tg bf ea;go_wp2_with fail
 refine(yF W1 1099511627776 cf<|by omega).mono ?_;rintro bh W2⟨rfl,bu,bo⟩;have L:=X bu;have K:=X bo;clear bu bo;go_wp2_with fail
 apply(cd W2).mono;rintro bh W3⟨⟨mem,tabqq,rfl,ho⟩,ch⟩;have ap:=X ch;have HO:=X ho;clear ch ho cd;go_wp2_with fail
 obtain⟨W4,r⟩:∃W4,dd (dd W3<|ay #[az,aq 0,aM bw,az] 35) (ay #[aD<|z (G W1)+2,dC none,aq mem,aq tabqq,aD<|z<|G W3] 38)=W4:=⟨_,rfl⟩;have ac:Z aw W2 W4:=by rw[<-r];exact ap.cz<|(cO aw W3).alloc _
 have df:Z aw w0 W4:=(p.cz<|Z.aQ (S:=aw) K).cz ac;have cN:=p.size;have cS:=K.size;have cT:=ap.size;have ca:=ak L.gG;have bq:Rp W4 (z (G W3)+1) (z (G W1)+2) (dC none) mem tabqq (z<|G W3):=by unfold Rp;rw[<-r];exact aK _<|by simp
 have bp:W4.heap[z<|G W3]?=H (ay #[az,aq 0,aM bw,az] 35 (0,0)):=by rw[<-r];grind[gq,aK]
 have cv:∀k,(mB (z<|G W1) 1099511627776 cf).aL (z (G W1)+2) k->k<z (G W2):=λk q=>L.lt k q;have s:=s9 (w1:=w0) bq bp (L.aj ac<|λ_ _=>id) p ((Z.aQ (S:=aw) K).cz ac) (by grind) (by omega) HO HS HP HE;obtain⟨xb,bb⟩:∃xb,z (G W3)+1=xb:=⟨_,rfl⟩;rw[bb]at s;rw[r,bb];have c0:=cellAt s.xh.box 0 rfl;have aU:=YD s rm 1099511627776 rR (by omega);obtain⟨db,aF⟩:∃db,z (G W1)+2=db:=⟨_,rfl⟩;rw[aF]at s aU c0;rw[aF,J co];clear r ac df cN cS cT ca bq bp cv s bb L K ap aF;apply aU.mono;rintro bh W5⟨rfl,t⟩;have d0:=cellAt t.xh.box 0 rfl;have d2:=cellAt t.xh.box 2 rfl;have d3:=cellAt t.xh.box 3 rfl;have cb:=YC (t.still<|dh aw W5) (by simp);have bm:aW W5.drew (R xb 0)=H (aD db)/\aW W5.drew (R xb 2)=H (aq mem)/\aW W5.drew (R xb 3)=H (aq tabqq):=⟨d0,d2,d3⟩;clear t aU c0;go_wp2_with fail
 refine je (λXqq=>aW Xqq (R xb 0)=H (aD db)/\aW Xqq (R xb 2)=H (aq mem)/\aW Xqq (R xb 3)=H (aq tabqq)) 8 (by kernel_rfl) ?_;refine ki 0 ?_;iterate 8 (refine uc (v:=?_) bm rfl (by kernel_rfl) lQ rfl ?_ ?_;rotate_left;(focus(rintro Xqq⟨z0,z1,z2⟩;go_simp;try rfl));simp only[Act.put,ig,rA,Nat.reduceAdd])
 apply oe;refine fD (i:=8) rfl rfl (by kernel_rfl) ?_;intro K7 bk;go_simp;apply cb.mono;rintro bh W6⟨dv,rfl,z6,ax⟩;have c0:=cellAt ax.xh.box 0 rfl;have bs:=LJ ax av 0 bx (by omega);refine bk _ _ (λq=>by omega) ?_;try simp only[Act.put,ig,rA]
 clear bk;refine jo (by kernel_rfl) ?_ _;clear ax cb bm d0 d2 d3;go_wp2_with fail
 apply bs.mono;rintro bh W7⟨rfl,lc,bE,bi⟩;have cc:=FG bi (by have q:lc=[]:=bE;rw[q];exact⟨by simp,0,by simp,by simp,rfl⟩) (by omega);clear bi bE bs c0;go_wp2_with fail
 apply cc.mono;rintro bh W8⟨rfl,bl⟩;have cn:=X bl;clear bl cc;go_wp2_with fail
 go_loopw [13,14] (λc ds wr=>∃o:M,o<=y g/\ds=aq o/\c=aq 0/\Ac (.no w0) w0 wr xb mem tabqq (sW<|g.take o) (1+xX (g.take o)) True) (λ_ ds _=>y g-(intOf ds).toNat)
 case atStart=>exact⟨0,bK _,by go_num,rfl,by simpa[sW,xX]using J cn⟩
 (case round=>obtain⟨o,hn,rfl,rfl,hX⟩:=hrel;by_cases u:o<y g;(.rcases J cp with q|⟨dk,k,cE,m⟩;(grind);(.subst cE;(have f1:(o:U)<(y g:U):=by omega);(have f0:(0:U)<=(o:U):=by omega);have cw:dk<z (G w0):=m.lt dk rfl;have V:=(Ac.o9 hX);(have bL:y g<=rc:=by obtain⟨q1,⟨q2,q0⟩|⟨g',cj,bg,q2,bL,hc⟩⟩:=m.row;cases q2;grind);(have c:∀cl(P:cl<6),aW wr (R dk<|k+o*6+cl)=g[o].cells[cl]?:=λcl P=>by obtain⟨q1,⟨q2,q0⟩|⟨g',cj,bg,q2,bL,hc⟩⟩:=m.row;cases q2;cases q2;have bn:cl<y g[o].cells:=P;rw[aR bn,bD];exact V.cell (hc _ _<|(Bt g o u cl P).trans<|by simp) id cw);have cx:=m.each _<|ar u;obtain⟨⟨dx,dc,cu,x⟩,al,dr⟩:=cx;have bt:=Ra g o u;have br:=XO g<|o+1;have ad:=TT g o u;have bT:=Zp g<|o+1;have k0:=c 0 (by omega);have k1:=c 1 (by omega);have k2:=c 2 (by omega);have k3:=c 3 (by omega);have k4:=c 4 (by omega);have k5:=c 5 (by omega);generalize g[o]=rd at*;obtain⟨dT,i,n,an,F,ck,aa⟩:=rd;simp only[If.cells]at*;obtain⟨dn,cs⟩:∃dn:M,an=dn:=⟨an.toNat,by omega⟩;obtain⟨tn,cM⟩:∃tn:M,F=tn:=⟨F.toNat,by omega⟩;subst cs cM;subst cu;simp at k0 k1 k2 k3 k4 k5;have ce:=λW(c:Z aw w0 W)=>Pr x c;have w:=λW(hX:Ac (.no w0) w0 W xb mem tabqq (sW<|g.take o) (1+xX (g.take o)) True)(hw:y i+ER i<=1048576)=>Ta hX dx i dc n aa dn tn (by omega) (by omega) x al.1 al.2 hw (by omega) (by omega);obtain⟨W6,O⟩:∃W6,dd wr (ay #[I dx (y i) dc,aq n,aG dn,aG tn,aM ck,aq aa] 48)=W6:=⟨_,rfl⟩;(have t6:Z aw wr W6:=by rw[<-O];exact cO aw wr);(have aV:W6.heap[z<|G wr]?=H (ay #[I dx (y i) dc,aq n,aG dn,aG tn,aM ck,aq aa] 48 (0,0)):=by rw[<-O];exact aK _ rfl);have A:=ce W6<|V.cz t6;have p0:=cellAt aV 0 rfl;obtain⟨HX,ao,au,bc,cq,bd⟩:=lw hX aV t6 w O V;have cm:=X<|And.intro bt (And.intro br (And.intro ad bT));clear hX aV t6 w O V ce c bt br ad bT x;(go_wp2_with fail);rw[J cq];apply A.mono;rintro bh W7⟨rfl,E⟩;have j:=(E.block _ (ak ao) id).trans<|J ao;by_cases hw:y i+ER i<=1048576;rotate_left;(·(have hd:decide (y i+ER i<=1048576)=bw:=by simpa using hw);rw[hd];have P:=X<|(bd.cz au).cz E;clear j E A hd hw;go_wp2;go_ret;exact⟨rfl,P⟩);(·(have hd:decide (y i+ER i<=1048576)=cf:=by simpa using hw);rw[hd];have q4:=cellAt j 4 rfl;have f4:=cQ (i:=4) j;obtain⟨W8,P⟩:∃W8,cH W7 (R (z<|G wr) 4) (aM cf)=W8:=⟨_,rfl⟩;(have cB:W8.heap[z<|G wr]?=H (ay #[I dx (y i) dc,aq n,aG dn,aG tn,aM cf,aq aa] 48 (0,0)):=by rw[<-P];exact(aJ j).trans rfl);(have t8:Z aw wr W8:=by rw[<-P];exact(au.cz E).trans (fy W7 (z<|G wr) 4 _)<|by simp);(have bn:Ac (.no w0) w0 W8 xb mem tabqq (sW<|g.take o) (1+xX (g.take o)) True:=by obtain⟨db,cl,a,bv,e,f,B,l,safe,h⟩:=J HX;exact⟨db,cl,a,bv,e,f,B,l,safe,h.still t8⟩);have w:=bc W8 bn hw;have z0:=cellAt j 0 rfl;have z1:=cellAt j 1 rfl;have z2:=cellAt j 2 rfl;have z3:=cellAt j 3 rfl;have z5:=cellAt j 5 rfl;have cr:=X P;clear j E A hd cB t8 bn P bc HX ao au bd p0 k0 k1 k2 k3 k4 k5;unfold VR at w;(go_wp2_with fail);rw[J cr];apply w.mono;rintro bh W9⟨rfl,h9⟩;have H9:=X h9;go_wp2;go_roundw;(case rel=>refine⟨o+1,u,by go_num,rfl,?_⟩;obtain⟨g1,_,g3,_⟩:=J cm;rw[g1,g3,show 1+(xX (g.take o)+(y i+1))=1+xX (g.take o)+y i+1 by omega];exact H9);case measure=>simp[intOf];omega)));(have f1:¬(o:U)<(y g:U):=by omega);have c:=X<|Ac.o9 hX;go_wp2;go_ret;exact⟨rfl,c⟩)
theorem Xf:prog.globalNamed "levels/code.steps" =H 1:=by kernel_rfl
theorem U5:prog.globalNamed "internal/strconv.uint64pow10" =H 2:=by kernel_rfl
theorem N2:prog.globalNamed "errors.errorType" =H 0:=by kernel_rfl
theorem A4:(prog.globals[1]?).map (·.type)=H 336:=by kernel_rfl
theorem S9:(prog.globals[2]?).map (·.type)=H 371:=by kernel_rfl
theorem A0:prog.underlying 336=H (.array 16 67):=by kernel_rfl
theorem S5:prog.underlying 371=H (.array 20 74):=by kernel_rfl
theorem J9:prog.underlying 67=H (.int .u32):=by kernel_rfl
theorem J8:prog.underlying 74=H (.int .u64):=by kernel_rfl
theorem T5:(prog.cutTypes.find? (·.1== "internal/reflectlite.rtype")).map (·.2)=H 214:=by kernel_rfl
theorem D9:((List.range 441).filter λt=>prog.rowNamed t [101,114,114,111,114])=[41]:=by kernel_rfl
theorem VB:prog.types.size=441:=by kernel_rfl
def NA:ci (String×DataW Unit):=[("levels/code.steps",Rows.laid_levels_code_steps),("math/bits.deBruijn32tab",Rows.laid_math_bits_deBruijn32tab),("math/bits.deBruijn64tab",Rows.laid_math_bits_deBruijn64tab),("internal/strconv.uint64pow10",Rows.laid_internal_strconv_uint64pow10),("errors.errorType",Rows.laid_errors_errorType),("strconv.ErrRange",Rows.laid_strconv_ErrRange),("strconv.ErrSyntax",Rows.laid_strconv_ErrSyntax)]
theorem Za{W:Y}(p:laidMetH bA NA W):Steps W/\Pow W/\oF W:=by
 obtain⟨c,d⟩:=laidMetH_iff.1 p;have f:=c.filter (λx=>x.1== "levels/code.steps");rw[show((NA.filter λx=>x.2.handleName?.isNone).filter λx=>x.1== "levels/code.steps")=[("levels/code.steps",Rows.laid_levels_code_steps)]by kernel_rfl]at f;have g:=c.filter (λx=>x.1== "internal/strconv.uint64pow10");rw[show((NA.filter λx=>x.2.handleName?.isNone).filter λx=>x.1== "internal/strconv.uint64pow10")=[("internal/strconv.uint64pow10",Rows.laid_internal_strconv_uint64pow10)]by kernel_rfl]at g;rw[show(NA.filter λx=>x.2.handleName?.isSome)=[("errors.errorType",Rows.laid_errors_errorType)]by kernel_rfl]at d;refine⟨?_,?_,?_⟩
 .have b:Lib.TabIs bA W "levels/code.steps" .u32 [0,498536548,997073096,651767980,1994146192,1802195444,1303535960,1342533948,3988292384,4027552580,3604390888,3412177804,2607071920,2262029012,2685067896,3183342108]:=Lib.tabIs_of_head Xf A4 A0 J9 (by kernel_rfl) (by kernel_rfl) f;intro k a;rw[World.var?_cell Xf b k];have:∀k,k<16->(([0,498536548,997073096,651767980,1994146192,1802195444,1303535960,1342533948,3988292384,4027552580,3604390888,3412177804,2607071920,2262029012,2685067896,3183342108]:eF).map λb=>Value.int .u32 b).toArray[k]?=H (.int .u32 (ZD k)):=by
   intro k a;match k,a with
   |0,_|1,_|2,_|3,_|4,_|5,_|6,_|7,_|8,_|9,_|10,_|11,_|12,_|13,_|14,_|15,_=>rfl
   |n+16,p=>grind
  exact this k a
 exact Lib.tabIs_of_head U5 S9 S5 J8 (by kernel_rfl) (by kernel_rfl) g;obtain⟨a,u,o,h,i,j,k,b⟩:=d _ (cL.2 rfl);have l:a=[101,114,114,111,114]:=(gP h).symm;subst l;obtain rfl:=gP (T5.symm.trans i);have e:o∈(List.range 441).filter λt=>prog.rowNamed t [101,114,114,111,114]:=eK.2 ⟨mu.2 (by rw[<-VB];exact j),k⟩;rw[D9]at e;obtain rfl:=cL.1 e;(have m:typeHandle bA 41=.pointer (H (R (7) 41)):=by kernel_rfl);rw[m]at b;unfold oF;simpa using World.var?_cell N2 b 0
theorem Ov{W:Y}{a n:M}{g:Addr}{b:ix}(h:W.cells? a g n=H b):y b=n/\∀j,j<n->aW W (g.add j)=b[j]?:=by
 unfold World.cells? at h;split at h;have f:=Lib.mapM_length h;refine⟨by simpa using f,λj e=>?_⟩;obtain⟨i,c,d⟩:=Lib.mapM_at h j j (by simp[e]);rw[d,c];cases h
theorem Fp{W:Y}{q:Addr}{e b:M}(f:0<e)(o:0<b){Q:M->ix->Prop}(x:∀i,i<e->∃c,W.cells? 0 (q.add (i*b)) b=H c/\Q i c):∃j a,q=(R j a)/\j<z (G W)/\∀i,i<e->∃c,y c=b/\(∀p,p<b->aW W (R j (a+i*b+p))=c[p]?)/\Q i c:=by
 obtain⟨c,n,_⟩:=x 0 f;obtain⟨r,l⟩:=Ov n;have k:=l 0 o;rw[AX]at k;have s:(q.add 0).add 0=q:=rfl;rw[s]at k;obtain⟨j,a,d⟩:=q;have w:∃A,aW W ⟨j,a,d⟩=H A:=⟨c[0]'(by omega),by rw[k];grind⟩;obtain⟨A,h⟩:=w;have m:j<z (G W)/\d=none:=by unfold World.cell? at h;simp only at h;split at h;rename_i C E D B;refine⟨?_,?_⟩;(grind);simp_all;cases h
 obtain⟨m,rfl⟩:=m;refine⟨j,a,rfl,m,λi t=>?_⟩;obtain⟨c,n,v⟩:=x i t;obtain⟨r,l⟩:=Ov n;refine⟨c,r,λp u=>?_,v⟩;rw[<-l p u,Go.Deep.add_add];unfold Addr.add;by_cases g:i*b+p=0;rw[di g,bD,g];rfl;grind
def wT(P:Program)(t:TypeId):Option (ci (TypeId×M)):=match P.underlying t with
 |some (.struct a)=>H (a.toList.map λf=>(f.type,f.offset))
 |_=>none
theorem Bj{P:Program}{t:TypeId}{l:ci (TypeId×M)}(h:wT P t=H l):∃a,P.underlying t=H (.struct a)/\a.toList.map (λf=>(f.type,f.offset))=l:=by
 unfold wT at h;grind
theorem yE{d:Type}{e:TypeId×ab->d}{P:Program}{w:Y}{b f:M}{l:M->Bool}{c:Bool}{t:TypeId}{k:ix}{x:DataW d×ci MemPlace}{q:ci (TypeId×M)}(n:wT P t=H q)(u:DataW.trod e P w b l c f t k=H x):∃(g:ci (DataW d×ci MemPlace))(r:M),x.1=.agg (g.map (·.1))/\y g=y q/\∀(p i a:M),q[p]?=H (i,a)->∃h,g[p]?=H h/\DataW.trod e P w b l c r i ((k.drop a).take (P.cellsOf i))=H h:=by
 obtain⟨s,o,rfl⟩:=Bj n;obtain⟨g,r,_,rfl,_,j,v⟩:=DataW.trod_struct o u;refine⟨g,r,rfl,by simpa using j,λp i a m=>?_⟩;rw[fB,qh]at m;grind
theorem uR{a:Type}{P:Program}{e:TypeId}:∀{l:ci (DataW a)}{d:DataW a},d∈l->∀n∈d.weights P e,n∈DataW.weightsAll P e l
 |[],_,h,_,_=>by cases h
 |x::r,d,h,n,b=>by
  rw[DataW.weightsAll];rcases bM.1 h with rfl|h
  .grind
  .exact qT _ (uR h n b)
theorem vD{a:Type}{P:Program}{t e:TypeId}(d:P.underlying t=H (.slice e))(b c:ci (DataW a)):(DataW.slice b c).weights P t=(y b+y c)*P.bytesOf e::(DataW.weightsAll P e b++DataW.weightsAll P e c):=by
 rw[DataW.weights,d]
theorem yo{a:Type}{P:Program}{t:TypeId}{l:ci (TypeId×M)}(c:wT P t=H l)(b:ci (DataW a)):(DataW.agg b).weights P t=DataW.weightsEach P (l.map (·.1)) b:=by
 obtain⟨e,d,rfl⟩:=Bj c;rw[DataW.weights,d];simp only[ee];rfl
theorem Oy{a:Type}(l r:ci (DataW a)):Rows.uptoBulkAll (l++r)=Rows.uptoBulkAll l+Rows.uptoBulkAll r:=by
 induction l with
 |nil=>simp[Rows.uptoBulkAll]
 |cons x l b=>simp only[cR,Rows.uptoBulkAll,b];omega
theorem GQ{a:Type}{D:M->DataW a}{g:M->M}:∀(n:M),(∀i,i<n->g i<=Rows.uptoBulk (D i))->((List.range n).map g).sum<=Rows.uptoBulkAll ((List.range n).map D)
 |0,_=>by simp
 |n+1,h=>by
  have c:=GQ n (λi b=>h i (by omega));have b:=h n (by omega);rw[List.range_succ,aE,aE,ga,Oy];simp[Rows.uptoBulkAll];omega
theorem AI{a:Type}{D:M->DataW a}{g:M->M}(n:M)(b:ci (DataW a))(h:∀i,i<n->g i<=Rows.uptoBulk (D i)):((List.range n).map g).sum<=Rows.uptoBulk (.slice ((List.range n).map D) b):=by
 have:=GQ n h;simp only[Rows.uptoBulk];omega
theorem j6:wT bA 56=H [(9,0),(9,1),(4,2)]:=by kernel_rfl
theorem L3:wT bA 98=H [(3,0),(57,1)]:=by kernel_rfl
theorem Vz:prog.underlying 57=H (.slice 56):=by kernel_rfl
theorem A2:prog.underlying 46=H (.slice 98):=by kernel_rfl
theorem J7:prog.underlying 9=H .string:=by kernel_rfl
theorem VA:prog.underlying 4=H .bool:=by kernel_rfl
theorem Rs:prog.underlying 23=H (.int .u64):=by kernel_rfl
theorem JO:prog.underlying 3=H (.int .i64):=by kernel_rfl
theorem U7:prog.cellsOf 9=1:=by kernel_rfl
theorem p7:prog.cellsOf 4=1:=by kernel_rfl
theorem O4:prog.cellsOf 3=1:=by kernel_rfl
theorem O5:prog.cellsOf 57=1:=by kernel_rfl
theorem U9:prog.cellsOf 56=3:=by kernel_rfl
theorem cOp:prog.cellsOf 98=2:=by kernel_rfl
theorem V0:prog.bytesOf 56=40:=by kernel_rfl
theorem bOp:prog.bytesOf 98=32:=by kernel_rfl
theorem Ab(l:oR):y (gU l)=y l*3:=by
 induction l with
 |nil=>rfl
 |cons c l a=>
  have e:gU (c::l)=sA c++gU l:=rfl;rw[e,af,a,aO];have:y (sA c)=3:=rfl;omega
theorem Bx(l:ci EQ):y (si l)=y l*2:=by
 induction l with
 |nil=>rfl
 |cons c l a=>
  have e:si (c::l)=c.cells++si l:=rfl;rw[e,af,a,aO];have:y c.cells=2:=rfl;omega
theorem og{a:ix}{k:M}{u:ab}(h:(a.drop k).take 1=[u]):a[k]?=H u:=by
 have b:=bS (λl=>l[0]?) h;grind
theorem LZ:∀n:M,((List.range n).map (λ_=>4)).sum=4*n
 |0=>rfl
 |n+1=>by
  rw[List.range_succ,aE,ga,LZ n];show 4*n+4=_;omega
section
variable{Hqq:Type}{enc:TypeId×ab->Hqq}
theorem Wj{W:Y}{E:M->Bool}{b:Bool}{a:M}{d:ix}{F:DataW Hqq×ci MemPlace}(P:DataW.trod enc bA W 0 E b a 56 d=H F):∃j:LH,d[0]?=H (.string j.key)/\d[1]?=H (.string j.val)/\d[2]?=H (.bool j.del)/\(∀B,(∀O∈F.1.weights bA 56,O<=B)->j.key.size<=B/\j.val.size<=B)/\4<=Rows.uptoBulk F.1:=by
 obtain⟨t,O,k,C,f⟩:=yE j6 P;obtain⟨K,l,q⟩:=f 0 _ _ rfl;obtain⟨L,m,r⟩:=f 1 _ _ rfl;obtain⟨N,n,s⟩:=f 2 _ _ rfl;rw[U7]at q r;rw[p7]at s;obtain⟨o,w,g,_⟩:=DataW.trod_string J7 q;obtain⟨p,x,h,_⟩:=DataW.trod_string J7 r;obtain⟨D,A,i⟩:=DataW.trod_bool VA s
 have c:t=[K,L,N]:=by
  match t,C,l,m,n with
  |[u,v,Q],_,l,m,n=>
   grind
 refine⟨⟨o,p,D⟩,og w,og x,og A,λB e=>?_,by rw[k,c,g,h,i];simp[Rows.uptoBulk,Rows.uptoBulkAll];omega⟩;rw[k,c,yo j6,g,h,i]at e;simp only[bR,iz,DataW.weightsEach,DataW.weights,aA,bM,gR,nV]at e;have u:=e (y o.data.toList) (by simp);have v:=e (y p.data.toList) (by simp);rw[mr]at u v;simp_all
theorem Tz{W:Y}{m:M}{al:ab}{ad:DataW Hqq×ci MemPlace}(ao:DataW.trod enc bA W 0 (λ_=>cf) cf m 57 [al]=H ad)(A:∀q∈ad.1.weights bA 57,q<=140737488351232):∃e:oR,Hh W al e/\(∀l∈e,l.key.size<=140737488351232/\l.val.size<=140737488351232)/\y e<=10000000000000/\4*y e+1<=Rows.uptoBulk ad.1:=by
 rcases Go.Deep.open_slice Vz ao with⟨k,S⟩|⟨an,a,P,ac,q,E,O,k,_,hl,_,K,v,n⟩;simp only[ni,vR]at k;exact⟨[],.inl ⟨⟨rfl,.inl ⟨k,rfl⟩⟩,λap u=>by rw[k]at u;cases u⟩,by simp,by simp,by rw[S];simp[Rows.uptoBulk]⟩;simp only[ni,vR]at k;simp only[nH]at K;subst k K;by_cases h0:a=0;subst h0;exact⟨[],.inr ⟨rfl,an,ac,rfl⟩,by simp,by simp,by rw[v];simp[Rows.uptoBulk]⟩;rw[U9]at n;obtain⟨N,b,rfl,hb,B⟩:=Fp (Q:=λi e=>DataW.trod enc bA W 0 (λ_=>cf) cf q 56 e=H (E i,O i)) (by omega:0<a) (by omega:0<3) (λi d=>n i (by omega));(have p:∀i,i<a->∃l:LH,aW W (R N (b+i*3))=H (.string l.key)/\aW W (R N (b+i*3+1))=H (.string l.val)/\aW W (R N (b+i*3+2))=H (.bool l.del)/\(∀c,(∀q∈(E i).weights bA 56,q<=c)->l.key.size<=c/\l.val.size<=c)/\4<=Rows.uptoBulk (E i):=by intro i d;obtain⟨e,V,f,w⟩:=B i d;obtain⟨l,x,r,s,C,T⟩:=Wj w;exact⟨l,(by have:=f 0 (by omega);rw[kL]at this;exact this.trans x),(f 1 (by omega)).trans r,(f 2 (by omega)).trans s,C,T⟩);have L:Inhabited LH:=⟨⟨⟨#[]⟩,⟨#[]⟩,bw⟩⟩;obtain⟨F,t⟩:=Go.Deep.choose_lt p;rw[v,vD Vz,V0]at A;(have o:a<=10000000000000:=by have:=A _ (lh);grind);have D:∀i,i<a->∀q∈(E i).weights bA 56,q<=140737488351232:=λi d q b=>A q (dQ _ (ib _ (uR (bH.2 ⟨i,mu.2 d,rfl⟩) q b)));(have c:y ((List.range a).map F)=a:=by simp);refine⟨(List.range a).map F,.inl ⟨⟨by rw[Ab],.inr ⟨N,b,ac,by rw[c],by rw[c];exact hl,λj au h=>?_⟩⟩,λap u=>by cases u;exact hb⟩,λl hc=>?_,by rw[c];exact o,?_⟩;(have aa:j<a*3:=by have:=(jP.1 h).1;rw[Ab,c]at this;exact this);(have d:j/3<a:=by omega);obtain⟨x,r,s⟩:=lW ((List.range a).map F) (j/3) (by rw[c];exact d);obtain⟨f0,T,V,_,_⟩:=t (j/3) d;(have f:j%3=0\/j%3=1\/j%3=2:=by omega);(have C:((List.range a).map F)[j/3]'(by rw[c];exact d)=F (j/3):=by simp);rw[C]at x r s;rcases f with f|f|f;(grind);(have w:j=j/3*3+1:=by omega);rw[w]at h|-;rw[r]at h;rw[<-bD,T,h];(have w:j=j/3*3+2:=by omega);rw[w]at h|-;rw[s]at h;rw[<-bD,V,h];obtain⟨i,d,rfl⟩:=bH.1 hc;have f:=mu.1 d;exact(t i f).2.2.2.1 _ (D i f);have f:=AI (g:=λ_=>4) a ((List.range (ac-a)).map λj=>E (a+j)) (λi d=>(t i d).2.2.2.2);have C:=LZ a;have w:=GQ (g:=λ_=>4) a (λi d=>(t i d).2.2.2.2);rw[v,c];simp only[Rows.uptoBulk];omega
end
theorem L2:wT bA 48=H [(46,0),(3,1),(23,2),(23,3),(4,4),(3,5)]:=by kernel_rfl
theorem A1:prog.underlying 22=H (.slice 48):=by kernel_rfl
theorem cRd:prog.cellsOf 48=6:=by kernel_rfl
theorem N9:prog.cellsOf 23=1:=by kernel_rfl
theorem U8:prog.cellsOf 46=1:=by kernel_rfl
section
variable{Hqq:Type}{enc:TypeId×ab->Hqq}
theorem YY{W:Y}{b:M}{f:ix}{x:DataW Hqq×ci MemPlace}(Q:DataW.trod enc bA W 0 (λ_=>cf) cf b 98 f=H x)(g:∀n∈x.1.weights bA 98,n<=140737488351232):∃o:EQ,(∀m,m<2->f[m]?=o.cells[m]?)/\Hh W o.L o.cs/\(∀P∈o.cs,P.key.size<=140737488351232/\P.val.size<=140737488351232)/\y o.cs<=10000000000000/\4*y o.cs+1<=Rows.uptoBulk x.1:=by
 obtain⟨s,n,l,F,k⟩:=yE L3 Q;obtain⟨O,p,r⟩:=k 0 _ _ rfl;obtain⟨t,q,e⟩:=k 1 _ _ rfl;rw[O4]at r;rw[O5]at e;obtain⟨N,u,v,_⟩:=qp JO r;have B:∃L,(f.drop 1).take 1=[L]:=by rcases Go.Deep.open_slice Vz e with⟨A,_⟩|⟨V,K,w,aa,n,T,S,A,_⟩;(grind);grind
 obtain⟨L,j⟩:=B;rw[j]at e
 have d:s=[O,t]:=by
  match s,F,p,q with
  |[w,A],_,p,q=>
   grind
 have C:Rows.uptoBulk t.1<=Rows.uptoBulk x.1:=by rw[l,d];simp[Rows.uptoBulk,Rows.uptoBulkAll];omega
 rw[l,d,yo L3,v]at g;simp only[bR,iz,DataW.weightsEach]at g;obtain⟨a,c,i,h,D⟩:=Tz e (λn d=>g n (by simp[d]));refine⟨⟨N,L,a⟩,λm E=>?_,c,i,h,by show 4*y a+1<=_;omega⟩;match m,E with
 |0,_=>exact og u
 |1,_=>exact og j
 |n+2,Q=>grind
theorem MQ{W:Y}{e:M}{aa:ab}{D:DataW Hqq×ci MemPlace}(ad:DataW.trod enc bA W 0 (λ_=>cf) cf e 46 [aa]=H D)(m:∀n∈D.1.weights bA 46,n<=140737488351232):(∃D E,aa=.slice D 0 E)\/∃C,zd W aa C/\(C.map (λo=>4*y o.cs+1)).sum<=Rows.uptoBulk D.1:=by
 rcases Go.Deep.open_slice A2 ad with⟨i,_⟩|⟨an,a,L,al,n,F,K,i,_,V,_,w,r,f⟩;grind
 simp only[ni,vR]at i;simp only[nH]at w;subst i w;by_cases h0:a=0;(grind);right;rw[cOp]at f;obtain⟨ac,c,rfl,O,N⟩:=Fp (Q:=λi b=>DataW.trod enc bA W 0 (λ_=>cf) cf n 98 b=H (F i,K i)) (by omega:0<a) (by omega:0<2) (λi d=>f i (by omega));rw[r,vD A2,bOp]at m;(have g:a<=10000000000000:=by have:=m _ (lh);grind);have P:∀i,i<a->∀n∈(F i).weights bA 98,n<=140737488351232:=λi d n b=>m n (dQ _ (ib _ (uR (bH.2 ⟨i,mu.2 d,rfl⟩) n b)));(have h:∀i,i<a->∃o:EQ,(∀j,j<2->aW W (R ac (c+i*2+j))=o.cells[j]?)/\Hh W o.L o.cs/\(∀E∈o.cs,E.key.size<=140737488351232/\E.val.size<=140737488351232)/\y o.cs<=10000000000000/\4*y o.cs+1<=Rows.uptoBulk (F i):=by grind[YY]);have B:Inhabited EQ:=⟨⟨0,az,[]⟩⟩;obtain⟨k,u⟩:=Go.Deep.choose_lt h;(have b:y ((List.range a).map k)=a:=by simp);(have x:∀o∈(List.range a).map k,∃i,i<a/\k i=o:=λo q=>by grind);refine⟨(List.range a).map k,⟨⟨by rw[Bx],.inr ⟨ac,c,al,by rw[b],by rw[b];exact V,λj ap v=>?_⟩⟩,λo q=>?_,λao T=>by cases T;exact O,λo q=>?_,by rw[b];exact g,λo q=>?_⟩,?_⟩;(have S:j<a*2:=by have:=(jP.1 v).1;rw[Bx,b]at this;exact this);(have d:j/2<a:=by omega);(have A:j%2<2:=by omega);have l:=tf ((List.range a).map k) (j/2) (by rw[b];exact d) (j%2) A;have t:=(u (j/2) d).1 (j%2) A;(have p:((List.range a).map k)[j/2]'(by rw[b];exact d)=k (j/2):=by simp);rw[p]at l;(have s:j/2*2+j%2=j:=by omega);rw[s]at l;rw[bD,s]at t;rw[t,<-l,v];(grind);(grind);(grind);rw[ee,r];exact AI a _ (λi d=>(u i d).2.2.2.2)
theorem PU{an:Y}{f:M}{n:ix}{aa:DataW Hqq×ci MemPlace}(ap:DataW.trod enc bA an 0 (λ_=>cf) cf f 48 n=H aa)(t:∀v∈aa.1.weights bA 48,v<=140737488351232):∃al:If,(∀o,o<6->n[o]?=al.cells[o]?)/\H5 an al/\(al.os.map (λau=>4*y au.cs+1)).sum+1<=Rows.uptoBulk aa.1:=by
 obtain⟨xs,v,A,hl,c⟩:=yE L2 ap;obtain⟨y0,B,s⟩:=c 0 _ _ rfl;obtain⟨y1,C,Q⟩:=c 1 _ _ rfl;obtain⟨y2,D,S⟩:=c 2 _ _ rfl;obtain⟨y3,E,T⟩:=c 3 _ _ rfl;obtain⟨y4,F,V⟩:=c 4 _ _ rfl;obtain⟨y5,K,W⟩:=c 5 _ _ rfl;rw[O4]at Q W;rw[N9]at S T;rw[p7]at V;rw[U8]at s;obtain⟨q,a1,b1,w1⟩:=qp JO Q;obtain⟨l,a2,b2,w2⟩:=qp Rs S;obtain⟨m,a3,b3,w3⟩:=qp Rs T;obtain⟨u,a4,b4⟩:=DataW.trod_bool VA V;obtain⟨r,a5,b5,w5⟩:=qp JO W;have hL:∃L,(n.drop 0).take 1=[L]:=by rcases Go.Deep.open_slice A2 s with⟨b,_⟩|⟨av,p,e,ax,v,ao,N,b,_⟩;(grind);grind
 obtain⟨L,w⟩:=hL;rw[w]at s
 have k:xs=[y0,y1,y2,y3,y4,y5]:=by
  match xs,hl,B,C,D,E,F,K with
  |[b,p,N,z3,z4,z5],_,B,C,D,E,F,K=>
   grind
 have ac:Rows.uptoBulk y0.1+1<=Rows.uptoBulk aa.1:=by rw[A,k];simp[Rows.uptoBulk,Rows.uptoBulkAll]<;>omega
 rw[A,k,yo L2]at t;simp only[bR,iz,DataW.weightsEach]at t;have g:q<=9223372036854775807:=by simp[Lit.wf,IntKind.min,IntKind.max,IntKind.signed,IntKind.bits]at w1;omega
 have h:r<=9223372036854775807:=by simp[Lit.wf,IntKind.min,IntKind.max,IntKind.signed,IntKind.bits]at w5;omega
 have i:0<=l/\l<18446744073709551616:=by simp[Lit.wf,IntKind.min,IntKind.max,IntKind.signed,IntKind.bits]at w2;omega
 have j:0<=m/\m<18446744073709551616:=by simp[Lit.wf,IntKind.min,IntKind.max,IntKind.signed,IntKind.bits]at w3;omega
 have a:∀(d:ci EQ)(o:M),o<6->n[o]?=(⟨L,d,q,l,m,u,r⟩:If).cells[o]?:=λd o b=>by
  match o,b with
  |0,_=>exact og w
  |1,_=>exact og a1
  |2,_=>exact og a2
  |3,_=>exact og a3
  |4,_=>exact og a4
  |5,_=>exact og a5
  |v+6,ap=>omega
 rcases MQ s (λv a=>t v (by simp[a]))with⟨P,O,rfl⟩|⟨d,x,ad⟩;refine⟨⟨.slice P 0 O,[],q,l,m,u,r⟩,a [],⟨⟨P,O,rfl,.inl rfl⟩,⟨g,h⟩,i,j⟩,?_⟩;simp;omega;refine⟨⟨L,d,q,l,m,u,r⟩,a d,⟨?_,⟨g,h⟩,i,j⟩,by show(d.map _).sum+1<=_;omega⟩;rcases x.row with⟨q1,⟨p,N⟩|⟨ao,b,e,p,_⟩⟩;exact⟨none,0,by show L=_;rw[p,N],.inl (aS N)⟩;exact⟨H (R ao b),e,p,.inr ⟨ao,b,rfl,by rw[<-p];exact x⟩⟩
theorem Br(l:ci If):y (uj l)=y l*6:=by
 induction l with
 |nil=>rfl
 |cons c l a=>
  have e:uj (c::l)=c.cells++uj l:=rfl;rw[e,af,a,aO];have:y c.cells=6:=rfl;omega
theorem MR{W:Y}{e:M}{v:ab}{F:DataW Hqq×ci MemPlace}(al:DataW.trod enc bA W 0 (λ_=>cf) cf e 22 [v]=H F)(B:∀n∈F.1.weights bA 22,n<=140737488351232):(∃F ad,v=.slice F 0 ad)\/∃E,P8 W v E/\(E.map (λr=>(r.os.map (λaa=>4*y aa.cs+1)).sum+1)).sum<=Rows.uptoBulk F.1:=by
 rcases Go.Deep.open_slice A1 al with⟨l,_⟩|⟨ao,a,N,an,n,K,L,l,_,V,_,C,u,f⟩;grind
 simp only[ni,vR]at l;simp only[nH]at C;subst l C;by_cases h0:a=0;(grind);right;rw[cRd]at f;obtain⟨ac,d,rfl,P,o⟩:=Fp (Q:=λi t=>DataW.trod enc bA W 0 (λ_=>cf) cf n 48 t=H (K i,L i)) (by omega:0<a) (by omega:0<6) (λi b=>f i (by omega));rw[u,vD A1]at B;have s:∀i,i<a->∀n∈(K i).weights bA 48,n<=140737488351232:=λi b n c=>B n (dQ _ (ib _ (uR (bH.2 ⟨i,mu.2 b,rfl⟩) n c)));(have h:∀i,i<a->∃r:If,(∀j,j<6->aW W (R ac (d+i*6+j))=r.cells[j]?)/\H5 W r/\(r.os.map (λaa=>4*y aa.cs+1)).sum+1<=Rows.uptoBulk (K i):=by intro i b;obtain⟨t,S,m,p⟩:=o i b;obtain⟨r,w,A,O⟩:=PU p (s i b);exact⟨r,λj g=>(m j g).trans (w j g),A,O⟩);have D:Inhabited If:=⟨⟨az,[],0,0,0,bw,0⟩⟩;obtain⟨x,q⟩:=Go.Deep.choose_lt h;(have c:y ((List.range a).map x)=a:=by simp);refine⟨(List.range a).map x,⟨⟨by rw[Br],.inr ⟨ac,d,an,by rw[c],by rw[c];exact V,λj au g=>?_⟩⟩,λap T=>by cases T;exact P,λr k=>?_⟩,?_⟩;(have O:j<a*6:=by have:=(jP.1 g).1;rw[Br,c]at this;exact this);(have b:j/6<a:=by omega);(have k:j%6<6:=by omega);have m:=Bt ((List.range a).map x) (j/6) (by rw[c];exact b) (j%6) k;have A:=(q (j/6) b).1 (j%6) k;(have p:((List.range a).map x)[j/6]'(by rw[c];exact b)=x (j/6):=by simp);rw[p]at m;(have w:j/6*6+j%6=j:=by omega);rw[w]at m;rw[bD,w]at A;rw[A,<-m,g];obtain⟨i,b,rfl⟩:=bH.1 k;exact(q i (mu.1 b)).2.1;rw[ee,u];exact AI a _ (λi b=>(q i b).2.2)
end
theorem XM(a:oR):ly a<=y a:=by
 unfold ly;split<;>omega
theorem GL:∀(a:ci EQ),4*py a+y a<=(a.map (λo=>4*y o.cs+1)).sum
 |[]=>by simp[py]
 |o::a=>by
  have b:=GL a;have c:=XM o.cs;simp[py]at b|-;omega
theorem GM:∀(a:ci If),4*sW a+xX a<=(a.map (λr=>(r.os.map (λo=>4*y o.cs+1)).sum+1)).sum
 |[]=>by simp[sW,xX]
 |r::a=>by
  have b:=GM a;have c:=GL r.os;simp[sW,xX]at b|-;omega
