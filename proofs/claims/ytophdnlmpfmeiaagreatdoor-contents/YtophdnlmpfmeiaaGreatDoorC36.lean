import Derived.Test.YtophdnlmpfmeiaaGreatDoorC9
import Derived.Test.YtophdnlmpfmeiaaGreatDoorC32
import Derived.Test.YtophdnlmpfmeiaaGreatDoorC34
import Derived.Test.YtophdnlmpfmeiaaGreatDoorC35
namespace Go.Proofs.YtophdnlmpfmeiaaGreatDoor
open ChangeShapes WideShapes RowKit Proofs.Tryz
set_option maxHeartbeats 16000000
set_option linter.all false
set_option maxRecDepth 100000
structure NY(W:J)(db sb:Nat)(K K2:DK)(u0 u1 u2 u3:M)(a b c d a' b' c' d':List ar):Prop where
 aH:bR W db K2
 same:K2.files=K.files/\K2.cY=K.cY/\∀k,K2.aS db k->K.aS db k
 l0:EU W K2 db sb u0 a'
 l1:EU W K2 db sb u1 b'
 l2:EU W K2 db sb u2 c'
 l3:EU W K2 db sb u3 d'
 k0:iF a a'
 k1:iF b b'
 k2:iF c c'
 k3:iF d d'
 BO:((a'++b'++c'++d').map ar.tb).Nodup
def NY.ay{W W':J}{d sb:Nat}{K a:DK}{u0 u1 u2 u3:M}{y b c z a' b' c' d':List ar}(h:NY W d sb K a u0 u1 u2 u3 y b c z a' b' c' d')(o:I (λq=>q=sb) W W')(r:¬K.aS d sb):NY W' d sb K a u0 u1 u2 u3 y b c z a' b' c' d':=by
 have g:=h.aH.ay o (λk c e=>r (h.same.2.2 _ (e▸c)));have e:eN W W' d sb a a:=⟨g,o.mono (λ_ c=>.inl (.inr c)),λ_ c=>.inl c⟩;exact⟨g,h.same,h.l0.eA e (λ_ _=>rfl),h.l1.eA e (λ_ _=>rfl),h.l2.eA e (λ_ _=>rfl),h.l3.eA e (λ_ _=>rfl),h.k0,h.k1,h.k2,h.k3,h.BO⟩
def kP.of{t:ar}(h:zP t):t.kP:=by
 refine⟨h.num,by have:=h.small;omega,?_⟩;rw[h.ks];have b:=iV (ks:=aW 0 t.cs) (λk a=>(h.idx.can k a).fits);have a:=h.idx.len;unfold dz;rw[ag,bw];omega
def Lx:fM 1=⟨#[108,111,103,45,49]⟩:=by unfold fM;rw[Ho];decide
def lE{w:J}{a n:Nat}{v:M}{f:List M}(h:Row w a v n f):∃x g,v=.slice x n g:=by
 obtain⟨i,⟨b,e⟩|⟨j,d,c,b,_⟩⟩:=h
 ·exact⟨none,0,by rw[b,e]⟩
 ·exact⟨_,_,b⟩
def xI.OP{C W:J}{i sb:Nat}{K s o:DK}{S N:Nat}{X:List M}{u0 u1 u2 u3:M}{z A r B:List ar}{u:List (List ar)}(k:xI C W i s o S N X [u0,u1,u2,u3] u)(E:lD u=lD [z,A,r,B])(a:s.files=K.files/\s.cY=K.cY/\∀n,s.aS i n->K.aS i n)(V:sb<C.heap.size)(w:∀t∈z++A++r++B,zP t)(U:∀t∈z++A++r++B,cR (vw K.files) (eM t.num)=some (jD t.cs)):∃d e f g,NY W i sb K o u0 u1 u2 u3 z A r B d e f g:=by
 have x:=k.yl;obtain⟨d,e,f,g,rfl⟩:∃d e f g,u=[d,e,f,g]:=by
  rcases u with _|⟨y,_|⟨O,_|⟨P,_|⟨Q,_|⟨R,T⟩⟩⟩⟩⟩<;>simp at x;exact⟨_,_,_,_,rfl⟩
 simp only[lD,aY,df,jh,oG]at E;obtain⟨s0,s1,s2,s3⟩:=E;have F:iF z d:=s0;have G:iF A e:=s1;have H:iF r f:=s2;have L:iF B g:=s3;have D:=k.ord;have j:iF (z++A++r++B) (d++e++f++g):=((F.append G).append H).append L;have p:=j.Oc w;have c:∀n,N<n->n<W.heap.size->Aside W o i sb n:=λn b a=>⟨a,λr=>by have:=k.low n (k.same.2.2 n r);omega,by omega⟩;have q:∀t∈d++e++f++g,nR W i (vw o.files) (Aside W o i sb) t:=λt b=>by
  obtain⟨y,bJ,v,O,P,Q,R,_⟩:=k.uh t (by simpa using b);obtain⟨q1,q2,q3,q4,q5⟩:=p t b;refine⟨⟨y,0,bJ,v,c y Q R⟩,c t.tb O P,q1,q5,q2,q3,q4,?_⟩;obtain⟨ad,T,ac⟩:=j.mem b;rw[k.same.1,a.1,<-sM ac,<-uO ac];exact U ad T
 have h:∀(O:Nat)(P:M)(T:List ar),[u0,u1,u2,u3][O]?=some P->[d,e,f,g][O]?=some T->(∀t∈T,t∈d++e++f++g)->EU W o i sb P T:=λO P T y Q v=>
  ⟨cW (k.rows O P T y Q),λn a=>c n (k.own y a).1 (k.own y a).2,λt b=>q t (v t b)⟩
 refine⟨d,e,f,g,k.aH,⟨k.same.1.trans a.1,k.same.2.1.trans a.2.1,λn r=>a.2.2 n (k.same.2.2 n r)⟩,h 0 _ _ rfl rfl (λt b=>by simp[b]),h 1 _ _ rfl rfl (λt b=>by simp[b]),h 2 _ _ rfl rfl (λt b=>by simp[b]),h 3 _ _ rfl rfl (λt b=>by simp[b]),F,G,H,L,?_⟩;have:=k.BO;simpa using this
def Jd(U:J)(L sb:Nat)(ba:Int)(s:SR)(K:DK)(V W v X:List ar)(bd S bf R Q:Nat)(bQ:Bool)(ls:List (List E))(bc:bX U sb s ba)(hs:s.aH=L)(P:¬K.aS L sb)(b:sk U L K V W v X bd S bf R Q bQ ls):Calls prog 51 #[.pointer (some ⟨sb,0,none⟩)] U λk e=>k=.returned .nilIface/\∃u0 u1 u2 u3,bX e sb (s.qi u0 u1 u2 u3 R Q S (decide (0<K.files.length))) ba/\(∃t w x y z,NY e L sb K t u0 u1 u2 u3 V W v X w x y z)/\I (λq=>K.aS L q\/q=sb) U e:=by
 subst hs;have g:=b.aH;have C:=ak bc;have u:=b.count;have ad:R<18446744073709551616:=by have:=b.nx;have:=b.zX;omega
 have ao:S<18446744073709551616:=by have:=b.bn;have:=b.zX;omega
 have O:K.files.length<=100000000:=by
  have o:=g.nodup;have c:=tH (l:=(vw K.files).map (·.1)) (m:=eS::fM Q::(V++W++v++X).map (λH=>eM H.num)) o (λbb B=>by
   obtain⟨bs,j⟩:=nG B;rcases b.nE.names bb bs j with k|⟨k,_⟩|⟨H,d,k⟩
   ·simp[k]
   ·simp[k]
   ·exact aJ _ (aJ _ (aZ.2 ⟨H,d,k.symm⟩)))
  have N:((vw K.files).map (·.1)).length=K.files.length:=by simp[vw]
  rw[N]at c;simp only[aE,bW]at c;omega
 refine Nx U sb s ba R Q S K.files.length (λe v0 v1 v2 v3=>∃r,bR e s.aH r/\(r.files=K.files/\r.cY=K.cY/\∀q,r.aS s.aH q->K.aS s.aH q)/\I (K.aS s.aH) U e/\∀(p:Nat)(F:M)(G:List ar),[v0,v1,v2,v3][p]?=some F->[V,W,v,X][p]?=some G->Row e 4 F G.length (cf G)/\∀q,F.ownBlock=some q->U.heap.size<=q/\q<e.heap.size) (λe u0 u1 u2 u3=>∃t w x y z,NY e s.aH sb K t u0 u1 u2 u3 V W v X w x y z) (K.aS s.aH) bc g.lt P ?_ ?_ ?_
 ·rcases b.nE.state with c|⟨c,rfl,rfl,rfl,rfl,rfl,rfl,rfl⟩
  ·refine(Jb s.aH K R Q S [V,W,v,X] U g b.steps b.dQ rfl ad b.nE.lt ao (by simpa using u) (λH d=>kP.of (b.nE.gU H (by simpa using d))) (by simpa using b.nE.uq) (λH d=>b.nE.low H (by simpa using d)) c).mono ?_;rintro k e⟨x0,B,c0,x1,D,c1,x2,n2,c2,x3,n3,c3,rfl,a,r,o,N,e2,e3⟩;exact⟨x0,B,c0,x1,D,c1,x2,n2,c2,x3,n3,c3,rfl,⟨r,o.ok,⟨N,e2,e3⟩,o.ay,λp F G i A=>⟨cW (a p F G i A),λq h=>(a p F G i A).lt q h⟩⟩,o.ay⟩
  ·refine(Jc s.aH K U g O b.pow (λf B=>?_) c).mono ?_
   ·have o:f∈(vw K.files).map (·.1):=by simpa[vw]using B
    obtain⟨bs,j⟩:=nG o;rcases b.nE.names f bs j with k|⟨k,_⟩|⟨H,d,k⟩
    ·rw[k,c]at j;cases j
    ·rw[k,Lx]
    ·simp at d
   ·rintro k e⟨rfl,d⟩;have n:I (K.aS s.aH) U e:=d.mono (λ_ v=>v.elim);refine⟨none,0,0,none,0,0,none,0,0,none,0,0,rfl,⟨K,g.ay d (λ_ _=>id),⟨rfl,rfl,λ_ v=>v⟩,n,λp F G i A=>?_⟩,n⟩;have k:F=.slice none 0 0/\G=[]:=by
     rcases p with _|_|_|_|p<;>simp at i A<;>exact⟨i.symm,A⟩
    rw[k.1,k.2];exact⟨⟨rfl,.inl ⟨rfl,rfl⟩⟩,λq h=>by cases h⟩
 ·rintro W1 ax v0 v1 v2 v3⟨r,ac,c,an,a⟩o;obtain⟨x0,c0,e0⟩:=lE (a 0 _ _ rfl rfl).1;obtain⟨x1,c1,N⟩:=lE (a 1 _ _ rfl rfl).1;obtain⟨x2,c2,e2⟩:=lE (a 2 _ _ rfl rfl).1;obtain⟨x3,c3,e3⟩:=lE (a 3 _ _ rfl rfl).1;subst e0 N e2 e3;have D:I (K.aS s.aH) U ax:=an.trans o (λ_ v=>v.elim);refine(yS ax s.aH r [V,W,v,X] x0 x1 x2 x3 _ c0 _ c1 _ c2 _ c3 (ac.ay o (λ_ _=>id)) (Steps.ay b.steps D b.dQ) (b.pow.ay D b.jB) (λq=>b.dQ (c.2.2 _ q)) (λq=>b.jB (c.2.2 _ q)) rfl (λp F m i B=>o.row (a p F m i B).1 (λq h=>⟨id,((a p F m i B).2 q h).2⟩)) (λp F i q h=>?_) (λH d=>b.nE.gU H (by simpa using d)) (λH d=>by rw[c.1];exact b.nE.uh H (by simpa using d)) (λp m hj B=>?_) (by simpa using u)).mono ?_
  ·have hj:∃G,[V,W,v,X][p]?=some G:=by
    rcases p with _|_|_|_|p
    ·exact⟨_,rfl⟩
    ·exact⟨_,rfl⟩
    ·exact⟨_,rfl⟩
    ·exact⟨_,rfl⟩
    ·simp at i
   obtain⟨G,A⟩:=hj;have hh:=(a p F G i A).2 q h;exact⟨ah hh.2 o.size,λa=>by have:=g.lt q (c.2.2 q a);omega⟩
  ·rcases p with _|_|_|_|p
   ·omega
   ·cases B;exact b.s1
   ·cases B;exact b.s2
   ·cases B;exact b.s3
   ·simp at B
  ·rintro k e⟨y0,m0,d0,y1,m1,d1,y2,m2,d2,y3,m3,d3,rfl,t,Ts,hI,al⟩;refine⟨y0,m0,d0,y1,m1,d1,y2,m2,d2,y3,m3,d3,rfl,?_,hI.ay.mono (λq v=>.inl (c.2.2 q v))⟩;obtain⟨w,x,y,z,h⟩:=hI.OP (sb:=sb) (K:=K) al c (ah C D.size) b.nE.gU b.nE.uh;exact⟨t,w,x,y,z,h⟩
 ·rintro ax u0 u1 u2 u3⟨t,w,x,y,z,h⟩o d;have c:=h.ay d P;refine⟨⟨t,w,x,y,z,c⟩,?_⟩;refine(zi s.aH t o c.aH (by rw[h.same.1];exact O)).mono ?_;rintro k e⟨v',ns,rfl,hp,ho,n⟩;obtain⟨bb,B,i⟩:=aC ho;have D:ns.length=K.files.length:=by
   have:=hp.length_eq;rw[h.same.1]at this;simpa using this
  rw[i,D];exact⟨bb,B,rfl,n⟩
def xq{P h:J}{e sb:Nat}{s:SR}{K i:DK}{S U c V u v w x:List ar}{Q t R nx z:Nat}{bQ:Bool}{d:List (List E)}(b:sk P e K S U c V Q t R nx z bQ d)(a:NY h e sb K i s.l0 s.l1 s.l2 s.l3 S U c V u v w x)(j:I (λX=>K.aS e X\/X=sb) P h)(O:P.heap.size<=sb)(A:s.aH=e)(B:s.next=nx)(C:s.log=z)(D:s.bQ=bQ)(y:s.aO=t+d.length)(F:s.fF=(d.map List.length).sum)(G:s.rq=false)(N:nT h s.memory (cq [] d.flatten))(n:∀W,s.memory.ownBlock=some W->Aside h i e sb W)(g:1<=s.mem/\s.mem<=32/\2<=s.dw/\s.dw<=6)(k:s.gT=true->s.bQ=true):Inv h sb s i (cq [] d.flatten) u v w x Q t R d:=by
 subst A B C D;have q:vw i.files=vw K.files:=by rw[a.same.1]
 have p:=b.steps.lt;have o:=b.pow.lt;refine{st:=?_,nE:=?_,pr:=?_,lp:=b.lp,mem:=rfl,Kl:=y,MS:=F,rq:=G,BO:=a.BO,nx:=b.nx,bn:=by rw[y];exact b.bn,cY:=by rw[a.same.2.1];exact b.cY,MQ:=g,loose:=k,MR:=b.MR,jU:=b.zX}
 ·refine⟨N,n,a.l0,a.l1,a.l2,a.l3,a.aH,λc=>?_,⟨Steps.ay b.steps j (λc=>c.elim b.dQ (λc=>by omega)),b.pow.ay j (λc=>c.elim b.jB (λc=>by omega)),⟨ah p j.size,λc=>b.dQ (a.same.2.2 _ c),by omega⟩,⟨ah o j.size,λc=>b.jB (a.same.2.2 _ c),by omega⟩⟩,?_,b.jU,fG.cq (dK) _,?_,a.k1.side b.s1,a.k2.side b.s2,a.k3.side b.s3⟩
  ·have:=b.aH.lt _ (a.same.2.2 _ c);omega
  ·rw[a.k0.bN,a.k1.bN,a.k2.bN,a.k3.bN];exact b.mG
  ·intro ac r;rcases ko r with H|H
   ·simp at H
   ·obtain⟨l,L,r⟩:=bH.1 H;exact b.lp.gU l L ac r
 ·rw[q];exact b.nE.Qi a.k0 a.k1 a.k2 a.k3
 ·rw[iF.bZ a.k0 a.k1 a.k2 a.k3];exact b.pr
def sk.ay{w w':J}{d:Nat}{K:DK}{r b c y:List ar}{C o N g e:Nat}{bQ:Bool}{ls:List (List E)}(h:sk w d K r b c y C o N g e bQ ls)(a:I (λ_=>False) w w'):sk w' d K r b c y C o N g e bQ ls:={h with aH:=h.aH.ay a (λ_ _=>id),steps:=Steps.ay h.steps a id,pow:=h.pow.ay a id}
def KU{f:Int}{a:List (List E)}(h:a≠[]):0<(jq f a).length:=by
 rcases a with _|⟨l,r⟩
 ·exact absurd rfl h
 ·unfold jq xK;simp only[ag,eF,bw];omega
structure tu(w w':J)(db sb:Nat)(mem dw:Int)(K:DK)(C N:Nat)(R0:aa->Option aa)(s:SR)(K':DK)(m:List E)(a b c d:List ar)(tb:Nat)(ls:List (List E)):Prop where
 box:bX w' sb s 0
 inv:Inv w' sb s K' m a b c d C tb N ls
 sL:∀q,seen (m::bZ a b c d) q=R0 q
 same:s.aH=db/\s.closed=false/\s.mem=mem/\s.dw=dw
 eA:eN w w' db sb K K'
 size:w.heap.size+3<=w'.heap.size
 aS:∀k,K'.aS db k->K.aS db k\/w.heap.size+3<=k
def zS(w h:J)(d sb:Nat)(a dw:Int)(K:DK)(C N:Nat)(c:aa->Option aa):Prop:=∃s b m i j k n g e,tu w h d sb a dw K C N c s b m i j k n g e
def tu.step{H W g:J}{e sb:Nat}{a dw:Int}{K:DK}{L N r v:Nat}{y w:aa->Option aa}{s b:SR}{t h:DK}{m p:List E}{O P z Q j k c' n:List ar}{F d:Nat}{ls c:List (List E)}(x:tu H W e sb a dw K L N y s t m O P z Q F ls)(B:bX g sb b 0)(A:Inv g sb b h p j k c' n r d v c)(D:∀q,seen (p::bZ j k c' n) q=w q)(C:b.aH=e/\b.closed=false/\b.mem=a/\b.dw=dw)(o:eN W g e sb t h):tu H g e sb a dw K r v w b h p j k c' n d c:=⟨B,A,D,C,x.eA.trans o,aB x.size o.ay.size,λG z=>(o.aS G z).elim (λq=>x.aS G q) (λq=>.inr (aB x.size q))⟩
def tu.kept{w W h:J}{b:Nat}{d dw:Int}{K:DK}{C N:Nat}{n:aa->Option aa}{s:SR}{g j:DK}{m:List E}{a u e x:List ar}{q:Nat}{p:List (List E)}(r:tu w W b (w.heap.size+1) d dw K C N n s g m a u e x q p)(o:eN W h b (w.heap.size+1) g j)(c:∀k,K.aS b k->k<w.heap.size):h.heap[w.heap.size+2]?=W.heap[w.heap.size+2]?:=o.ay.block _ (by have:=r.size;omega) (λe=>e.elim (λe=>by
 rcases r.aS _ e with t|t
 ·have:=c _ t;omega
 ·omega) (λe=>by omega))
def uV{w:J}{b:Nat}{c:Fs}{A:Nat->Prop}{t:ar}(h:nR w b c A t):Kd w t:=by
 obtain⟨e,a,bJ,d,_⟩:=h.mem;exact⟨h.num,_,_,_,_,_,_,_,_,d⟩
def IT(w:J)(g:Nat)(b dw:Int)(L:DK)(ao ax ba bb:List ar)(bc y an U H:Nat)(bQ:Bool)(r:List (List E))(d:sk w g L ao ax ba bb bc y an U H bQ r)(ho:1<=b/\b<=32/\2<=dw/\dw<=6)(hN:an+1<=100000000):Calls prog 26 #[.pointer (some ⟨g,0,none⟩),.agg #[.int .i64 b,.int .i64 dw]] w λC t=>C=.returned (.tuple #[.pointer (some ⟨w.heap.size+1,0,none⟩),.nilIface])/\zS w t g (w.heap.size+1) b dw L bc (an+1) (seen (cq [] r.flatten::bZ ao ax ba bb)):=by
 have x:=d.aH.lt;have F:¬L.aS g (w.heap.size+1):=λq=>by have:=x _ q;omega
 have bk:U<18446744073709551616:=by have:=d.nx;have:=d.zX;omega
 have ad:H<18446744073709551616:=by have:=d.nE.lt;omega
 have bi:=d.bn;have bh:=d.count;refine Np g b dw w ho (λW=>I (λ_=>False) w W/\bX W (w.heap.size+1) (SR.fresh g b dw) 0/\W.heap.size=w.heap.size+3) (λW=>∃u0 u1 u2 u3 A j k n o,bX W (w.heap.size+1) ((SR.fresh g b dw).qi u0 u1 u2 u3 U H y (decide (0<L.files.length))) 0/\NY W g (w.heap.size+1) L A u0 u1 u2 u3 ao ax ba bb j k n o/\I (λq=>L.aS g q\/q=w.heap.size+1) w W/\w.heap.size+3<=W.heap.size) (λW=>∃s z j k n o,tu w W g (w.heap.size+1) b dw L bc an (seen (cq [] r.flatten::bZ ao ax ba bb)) s z (cq [] r.flatten) j k n o y r) (λW=>∃s z j k n o,tu w W g (w.heap.size+1) b dw L bc an (seen (cq [] r.flatten::bZ ao ax ba bb)) s z (cq [] r.flatten) j k n o y r) (λW=>zS w W g (w.heap.size+1) b dw L bc (an+1) (seen (cq [] r.flatten::bZ ao ax ba bb))) (λW h1 h2 h3=>⟨h1,h2,h3⟩) ?_ ?_ ?_ ?_
 ·rintro W⟨e,hb,ac⟩;refine(Jd W g (w.heap.size+1) 0 (SR.fresh g b dw) L ao ax ba bb bc y an U H bQ r hb rfl F (d.ay e)).mono ?_;rintro C t⟨rfl,u0,u1,u2,u3,D,⟨A,j,k,n,o,a⟩,h⟩;have v:=h.size;refine⟨rfl,⟨u0,u1,u2,u3,A,j,k,n,o,D,a,(e.mono (T:=λq=>L.aS g q\/q=w.heap.size+1) (λ_ q=>q.elim)).trans h (λ_ q=>.inl q),by omega⟩,?_⟩;exact h.block _ (by omega) (λq=>q.elim (λq=>by have:=x _ q;omega) (λq=>by omega))
 ·rintro W⟨u0,u1,u2,u3,A,j,k,n,o,hb,a,e,ac⟩;have al:vw A.files=vw L.files:=by rw[a.same.1]
  have v:=iF.bZ a.k0 a.k1 a.k2 a.k3;have X:¬A.aS g (w.heap.size+1):=λq=>F (a.same.2.2 _ q);have S:Pow W:=d.pow.ay e (λq=>q.elim d.jB (λq=>by have:=d.pow.lt;omega));have bg:Steps W:=Steps.ay d.steps e (λq=>q.elim d.dQ (λq=>by have:=d.steps.lt;omega));have Q:∀t,I (λq=>A.aS g q\/q=w.heap.size+1) W t->t.heap[w.heap.size+2]?=W.heap[w.heap.size+2]?:=λt b=>b.block _ (by omega) (λq=>q.elim (λq=>by have:=x _ (a.same.2.2 _ q);omega) (λq=>by omega));cases hlgd:bQ with
  |false=>
   have O:=d.nE.AM hlgd;have R:cR (vw A.files) (fM H)=none:=by
    rw[al];rcases hf:cR (vw L.files) (fM H)with _|bs
    ·rfl
    ·rcases d.nE.names _ _ hf with C|⟨_,C⟩|⟨K,e,C⟩
     ·exact absurd C (oo H)
     ·rw[hlgd]at C;cases C
     ·exact absurd C.symm (jJ _ _)
   refine(Dn W (w.heap.size+1) _ 0 A hb a.aH S ad R).mono ?_;rintro C t⟨rfl,h⟩;have P:=a.ay (h.mono (T:=λq=>q=w.heap.size+1) (λ_ q=>q.elim)) F;have G:=e.trans h (λ_ q=>q.elim);refine⟨rfl,⟨(SR.fresh g b dw).qi u0 u1 u2 u3 U H y (decide (0<L.files.length)),A,j,k,n,o,?_⟩,Q t (h.mono (λ_ q=>q.elim))⟩;have c:=xq (s:=(SR.fresh g b dw).qi u0 u1 u2 u3 U H y (decide (0<L.files.length))) d P G (by omega) rfl rfl rfl hlgd.symm (by rw[O];rfl) (by rw[O];rfl) rfl (by rw[O];exact⟨rfl,.inl ⟨rfl,rfl⟩⟩) (λV q=>by cases q) ho (λq=>by cases q);exact⟨(h.block _ (ak hb) id).trans hb,c,λq=>by rw[v],⟨rfl,rfl,rfl,rfl⟩,⟨P.aH,G.mono (λ_ q=>.inl q),λV q=>.inl (a.same.2.2 V q)⟩,aB ac h.size,λV q=>.inl (a.same.2.2 V q)⟩
  |true=>
   have bd:=d.MR hlgd;have bf:(jq ((y:Int)+1) r).length<=200000:=by
    have h1:=pN (f:=(y:Int)+1) (λl a=>⟨d.lp.gU l a,(d.lp.one l a).2⟩);have h2:=yu (λl a=>(d.lp.one l a).1);have h3:=d.lp.sum;omega
   refine(FC W (w.heap.size+1) _ 0 A r hb a.aH X S bg ⟨by have:=d.steps.lt;omega,λq=>d.dQ (a.same.2.2 _ q)⟩ ad d.lp (by rw[al];exact d.nE.log hlgd) (KU bd) bf rfl rfl (by show y<=1000000000;have:=d.zX;omega)).mono ?_;rintro C t⟨rfl,mv,z,D,R,B,e1,e2,e3⟩;have O:∀K:ar,cR (vw z.files) (eM K.num)=cR (vw A.files) (eM K.num):=λK=>by rw[e1]
   have P:NY t g (w.heap.size+1) L z u0 u1 u2 u3 ao ax ba bb j k n o:=⟨B.ok,⟨e1.trans a.same.1,e2.trans a.same.2.1,λV q=>a.same.2.2 V (e3 V q)⟩,a.l0.eA B (λK _=>O K),a.l1.eA B (λK _=>O K),a.l2.eA B (λK _=>O K),a.l3.eA B (λK _=>O K),a.k0,a.k1,a.k2,a.k3,a.BO⟩;have G:I (λq=>L.aS g q\/q=w.heap.size+1) w t:=e.trans B.ay (λ_ q=>.inl (q.imp (a.same.2.2 _) id));refine⟨rfl,⟨{((SR.fresh g b dw).qi u0 u1 u2 u3 U H y (decide (0<L.files.length))).rG mv r.length (r.map List.length).sum with bQ:=true,rq:=false,gT:=true},z,j,k,n,o,?_⟩,Q t B.ay⟩;have c:=xq (s:={((SR.fresh g b dw).qi u0 u1 u2 u3 U H y (decide (0<L.files.length))).rG mv r.length (r.map List.length).sum with bQ:=true,rq:=false,gT:=true}) d P G (by omega) rfl rfl rfl hlgd.symm rfl rfl rfl (cW R) (λV q=>by
    have h1:=R.lt V q;exact⟨h1.2,λg=>by have:=x _ (a.same.2.2 _ (e3 V g));omega,by omega⟩) ho (λ_=>rfl)
   exact⟨D,c,λq=>by rw[v],⟨rfl,rfl,rfl,rfl⟩,⟨B.ok,G.mono (λ_ q=>.inl q),λV q=>.inl (a.same.2.2 V (e3 V q))⟩,aB ac B.ay.size,λV q=>.inl (a.same.2.2 V (e3 V q))⟩
 ·rintro W⟨s,N,j,k,n,o,p⟩;have c:=p.inv;obtain⟨es,ec,em,et⟩:=p.same;subst es;have O:N.files.length<=100000000:=by
   have P:=c.st.aH.nodup;have v:=tH (l:=(vw N.files).map (·.1)) (m:=eS::fM s.log::(j++k++n++o).map (λK=>eM K.num)) P (λR Q=>by
    obtain⟨bs,G⟩:=nG Q;rcases c.nE.names R bs G with C|⟨C,_⟩|⟨K,e,C⟩
    ·simp[C]
    ·simp[C]
    ·exact aJ _ (aJ _ (aZ.2 ⟨K,e,C.symm⟩)))
   have e1:((vw N.files).map (·.1)).length=N.files.length:=by simp[vw]
   rw[e1]at v;have:=c.yl;simp only[aE,bW]at v;omega
  refine(GJ W (w.heap.size+1) s 0 N j k n o p.box (c.st.PS p.box) (λK e=>?_) c.st.ju.pow (by have:=c.nE.lt;have:=c.nx;have:=c.jU;omega) (by have:=c.yl;omega) c.st.aH c.st.rf (by have:=c.cY;have:=c.jU;omega) O (λR Q=>?_)).mono ?_
  ·rcases aw.1 e with e|e
   ·rcases aw.1 e with e|e
    ·rcases aw.1 e with e|e
     ·exact uV (c.st.l0.each K e)
     ·exact uV (c.st.l1.each K e)
    ·exact uV (c.st.l2.each K e)
   ·exact uV (c.st.l3.each K e)
  ·have v:R∈(vw N.files).map (·.1):=by simpa[vw]using Q
   obtain⟨bs,G⟩:=nG v;rcases c.nE.names R bs G with C|⟨C,_⟩|P
   ·exact .inl C
   ·exact .inr (.inl C)
   ·exact .inr (.inr P)
  ·rintro C t⟨rfl,z,B,P,S⟩;have v:eN W t s.aH (w.heap.size+1) N z:=eN.of B;have D:bX t (w.heap.size+1) s 0:=(B.ay.block _ (ak p.box) c.st.rf).trans p.box;exact⟨rfl,⟨s,z,j,k,n,o,p.step D (c.eA (ak p.box) v P (by omega) rfl c.loose) p.sL ⟨rfl,ec,em,et⟩ v⟩,p.kept v x⟩
 ·rintro W⟨s,N,j,k,n,o,p⟩;have c:=p.inv;obtain⟨es,ec,em,et⟩:=p.same;subst es;refine(Ft W (w.heap.size+1) s 0 N _ j k n o bc y an r p.box c hN).mono ?_;rintro C t⟨rfl,s',z,m',P,Q,c2,R,O,G,v⟩;obtain⟨S,V,X,g4⟩:=v.same;exact⟨rfl,⟨s',z,m',P,Q,c2,R,O,G,p.step v.box v.inv (λq=>(v.sL q).trans (p.sL q)) ⟨S,V.trans ec,X.trans em,g4.trans et⟩ v.eA⟩,p.kept v.eA x⟩
theorem kO.ay{S:Nat->Prop}{w w':J}{j:Nat}{q:Option Nat}{l:List KV}{closed:Bool}(ad:kO w j q l closed)(U:I S w w')(h1:¬S j)(h2:∀ac,q=some ac->¬S ac):kO w' j q l closed:=by
 obtain⟨⟨v,hh,hp,X⟩,R,h⟩:=ad;exact⟨⟨v,(U.block j (ak hh) h1).trans hh,U.row hp (λk hk=>⟨h2 k (X▸hk),h k (X▸hk)⟩),X⟩,R,λac hg=>ah (h ac hg) U.size⟩
def zQ(W:J)(i sb:Nat)(s:SR)(K:DK)(a b c d:List ar)(C tb N:Nat)(ls:List (List E)):Bool->Prop
 |true=>s.closed=true/\∃k h bQ,sk W i K a b c d C tb N k h bQ ls
 |false=>s.closed=false/\s.aH=i/\Inv W sb s K (cq [] ls.flatten) a b c d C tb N ls
theorem Inv.laid{w:J}{sb:Nat}{s:SR}{K:DK}{m:List E}{a b c d:List ar}{C tb N:Nat}{ls:List (List E)}(h:Inv w sb s K m a b c d C tb N ls):sk w s.aH K a b c d C tb N s.next s.log s.bQ ls where
 aH:=h.st.aH
 nE:=h.nE
 pr:=h.pr
 lp:=h.lp
 mG:=by rw[<-h.mem];exact h.st.mG
 jU:=h.st.jU
 s1:=h.st.s1
 s2:=h.st.s2
 s3:=h.st.s3
 MR:=h.MR
 nx:=h.nx
 bn:=by rw[<-h.Kl];exact h.bn
 cY:=h.cY
 zX:=h.jU
 steps:=h.st.ju.steps
 pow:=h.st.ju.pow
 dQ:=h.st.ju.dQ.aS
 jB:=h.st.ju.jB.aS
theorem zQ.aH{W:J}{i sb:Nat}{s:SR}{K:DK}{a b c d:List ar}{C tb N:Nat}{ls:List (List E)}{closed:Bool}(h:zQ W i sb s K a b c d C tb N ls closed):bR W i K:=by
 cases closed with
 |true=>obtain⟨_,_,_,_,h⟩:=h;exact h.aH
 |false=>obtain⟨_,rfl,h⟩:=h;exact h.st.aH
theorem sk.again{ac Q:J}{i k:Nat}{K G:DK}{a b c d:List ar}{C tb N S R:Nat}{bQ:Bool}{ls:List (List E)}(h:sk ac i K a b c d C tb N S R bQ ls)(X:bR Q k G)(w:∀T,cR (vw G.files) T=cR (vw K.files) T)(hm:G.cY.length<=K.cY.length)(hs:Steps Q)(hp:Pow Q)(U:¬G.aS k 1)(V:¬G.aS k 3):sk Q k G a b c d C tb N S R bQ ls:={h with
 aH:=X
 nE:=by
  have p:=h.nE;exact⟨λT U X=>p.names T U (by rw[<-w];exact X),by rw[w];exact p.state,λX=>by rw[w];exact p.log X,p.AM,λt V=>by rw[w];exact p.uh t V,p.uq,p.low,p.lt,p.gU⟩
 cY:=aB hm h.cY
 steps:=hs
 pow:=hp
 dQ:=U
 jB:=V}
structure LW(o W:J)(n i sb j:Nat)(q:Option Nat)(mem dw:Int)(f e:M)(r:List KV)(O:List (Nat×Obj))(s:SR)(K:DK)(a b c d:List ar)(C tb N:Nat)(ls:List (List E))(u:List KV)(closed:Bool)(l:List KV)(g:Bool):Prop where
 box:W.heap[n]?=some (.cells #[.pointer (some ⟨i,0,none⟩),.pointer (some ⟨sb,0,none⟩),.pointer (some ⟨j,0,none⟩),.int .i64 mem,.int .i64 dw,f,e] 40 (0,0))
 ref:kO W j q l g
 so:bX W sb s 0
 sh:zQ W i sb s K a b c d C tb N ls closed
 pD:tz (cq [] ls.flatten::bZ a b c d) u
 len:u.length<=C
 jU:C<=1000000
 vZ:iz W f r
 qD:iz W e r
 Nw:r.length<=1000000
 ay:I (λ_=>False) o W
 low:(∀k,K.aS i k->o.heap.size<=k)/\o.heap.size<=sb/\o.heap.size<=j/\o.heap.size<=n
 rf:¬K.aS i sb
 xR:Aside W K i sb n
 AG:Aside W K i sb j
 wY:∀k,q=some k->Aside W K i sb k/\k≠n/\k≠j
 nM:∀k,f.ownBlock=some k->Aside W K i sb k/\k≠n/\k≠j
 jN:∀k,e.ownBlock=some k->Aside W K i sb k/\k≠n/\k≠j
 obj:∀p∈O,W.heap[p.1]?=some p.2/\Aside W K i sb p.1/\p.1≠n/\p.1≠j
 ne:n≠j
 g0:Steps o/\Pow o/\kK o
section
variable{o W W':J}{n i sb j:Nat}{q:Option Nat}{mem dw:Int}{f e:M}{r:List KV}{O:List (Nat×Obj)}{s s':SR}{K G:DK}{a b c d a' b' c' d':List ar}{C C' tb tb' N N':Nat}{ls L:List (List E)}{l l' u F:List KV}{g closed B:Bool}
theorem LW.xN(h:LW o W n i sb j q mem dw f e r O s K a b c d C tb N ls u closed l g):kK W:=h.g0.2.2.ay h.ay id
theorem LW.Qn(h:LW o W n i sb j q mem dw f e r O s K a b c d C tb N ls u closed l g):0≠sb/\¬K.aS i 0:=by
 have k:0<o.heap.size:=cI _ _ h.g0.2.2;exact⟨by have:=h.low.2.1;omega,λc=>by have:=h.low.1 _ c;omega⟩
theorem LW.Pj(h:LW o W n i sb j q mem dw f e r O s K a b c d C tb N ls u closed l g)(k:eN W W' i sb K G)(U:bX W' sb s' 0)(X:zQ W' i sb s' G a' b' c' d' C' tb' N' L B)(V:tz (cq [] L.flatten::bZ a' b' c' d') F)(T:F.length<=C')(Q:C'<=1000000):LW o W' n i sb j q mem dw f e r O s' G a' b' c' d' C' tb' N' L F B l g where
 box:=(h.xR.block k).trans h.box
 ref:=h.ref.ay k.ay (λR=>R.elim h.AG.aS h.AG.ne) (λS Q R=>R.elim (h.wY S Q).1.aS (h.wY S Q).1.ne)
 so:=U
 sh:=X
 pD:=V
 len:=T
 jU:=Q
 vZ:=sN h.vZ k (λw p=>(h.nM w p).1)
 qD:=sN h.qD k (λw p=>(h.jN w p).1)
 Nw:=h.Nw
 ay:=h.ay.trans k.ay (λw R=>.inr (R.elim (h.low.1 w) (λQ=>by have:=h.low.2.1;omega)))
 low:=⟨λw R=>(k.aS w R).elim (h.low.1 w) (λS=>aB h.ay.size S),h.low.2⟩
 rf:=k.sb h.rf (ak h.so)
 xR:=h.xR.eA k
 AG:=h.AG.eA k
 wY:=λw p=>⟨(h.wY w p).1.eA k,(h.wY w p).2⟩
 nM:=λw p=>⟨(h.nM w p).1.eA k,(h.nM w p).2⟩
 jN:=λw p=>⟨(h.jN w p).1.eA k,(h.jN w p).2⟩
 obj:=λT Q=>⟨((h.obj T Q).2.1.block k).trans (h.obj T Q).1,(h.obj T Q).2.1.eA k,(h.obj T Q).2.2⟩
 ne:=h.ne
 g0:=h.g0
end
theorem AD{al X:J}{x h bb:Nat}{cs:Array M}{t:TypeId}{fr:Nat×Nat}{v:M}{k:List M}(hx:al.heap[x]?=some (.cells cs t fr))(ht:I (λac=>ac=x) al X)(hr:Row al h v bb k)(hl:∀ac,v.ownBlock=some ac->ac<al.heap.size)(S:0<k.length->∃(ax:Nat)(ad:M),k[ax]?=some ad/\ad∉cs.toList):Row X h v bb k:=by
 obtain⟨V,⟨p,q0⟩|⟨an,T,w,p,R,U⟩⟩:=hr
 ·exact⟨V,.inl ⟨p,q0⟩⟩
 ·refine⟨V,.inr ⟨an,T,w,p,R,λba ad Q=>?_⟩⟩;have hg:an≠x:=by
   rintro rfl;have ao:ba<k.length:=by
    rcases cJ ba k.length with c|c
    ·exact c
    ·rw[ci c]at Q;cases Q
   obtain⟨ax,u',hi,hu⟩:=S (by omega);have:=U ax u' hi;rw[aj hx]at this;exact hu (by simpa using jT this)
  exact ht.cell (U ba ad Q) hg (hl an (by rw[p];rfl))
theorem JJ{m:List E}{cs:Array M}(h:(∀k,Value.string k∉cs.toList)\/∀R S,Value.int R S∉cs.toList)(p:0<(aF m).length):∃(Q:Nat)(k:M),(aF m)[Q]?=some k/\k∉cs.toList:=by
 rcases m with _|⟨w,m⟩
 ·simp[aF]at p
 ·rcases h with h|h
  ·exact⟨0,.string w.key,by simp[aF,E.cells],h _⟩
  ·exact⟨3,.int .u64 w.bV,by simp[aF,E.cells],h _ _⟩
theorem IK{ts:List ar}{cs:Array M}(k:∀t∈ts,t.ptr∉cs.toList)(h:0<(ts.map ar.ptr).length):∃(w:Nat)(p:M),(ts.map ar.ptr)[w]?=some p/\p∉cs.toList:=by
 rcases ts with _|⟨t,ts⟩
 ·simp at h
 ·exact⟨0,t.ptr,by simp,k t (by simp)⟩
theorem Fj{an w':J}{x tb:Nat}{dv:M}{k cut p X:Int}{R w bJ:Nat}{S:M}{h:List fW}{cs:Array M}{t:TypeId}{fr:Nat×Nat}(ac:js an tb dv k cut p X R w bJ S h)(hx:an.heap[x]?=some (.cells cs t fr))(ht:I (λal=>al=x) an w')(h1:t≠265)(V:(∀ax,Value.string ax∉cs.toList)\/∀al ao,Value.int al ao∉cs.toList):js w' tb dv k cut p X R w bJ S h:=by
 have T:tb≠x:=fj ac.box hx (λh=>h1 h.symm);have U:R≠x:=by
  rintro rfl;have Q:=ac.ne;have h3:(cO h)[3]?=some (.string (h[0]'Q).first):=by
   rcases h with _|⟨al,h⟩
   ·simp at Q
   ·simp[cO,fW.cells]
  have h0:(cO h)[0]?=some (.int .i64 (h[0]'Q).pos):=by
   rcases h with _|⟨al,h⟩
   ·simp at Q
   ·simp[cO,fW.cells]
  rcases V with V|V
  ·have:=ac.cells 3 _ h3;rw[aj hx]at this;exact V _ (by simpa using jT this)
  ·have:=ac.cells 0 _ h0;rw[aj hx]at this;exact V _ _ (by simpa using jT this)
 have ad:R<an.heap.size:=by
  have Q:=ac.ne;have h3:(cO h)[3]?=some (.string (h[0]'Q).first):=by
   rcases h with _|⟨al,h⟩
   ·simp at Q
   ·simp[cO,fW.cells]
  exact cI _ _ (ac.cells 3 _ h3)
 exact ac.dh (ht.block tb (ak ac.box) T) (ht.block R ad U)
section
variable{o W W':J}{n i sb j x:Nat}{q:Option Nat}{mem dw:Int}{f e:M}{r:List KV}{O:List (Nat×Obj)}{s s':SR}{K G:DK}{m:List E}{a b c d a' b' c' d':List ar}{C C' tb tb' N N':Nat}{ls L:List (List E)}{l l' u F:List KV}{closed:Bool}{cs:Array M}{t:TypeId}{fr:Nat×Nat}{v:M}{ts:List ar}
theorem Aside.grow{p:Nat}(h:Aside W K i sb p)(k:W.heap.size<=W'.heap.size):Aside W' K i sb p:=⟨ah h.lt k,h.aS,h.ne⟩
theorem EU.oQ(ac:EU W K i sb v ts)(hx:W.heap[x]?=some (.cells cs t fr))(Q:I (λV=>V=x) W W')(h1:t≠265)(hs:(∀an,Value.string an∉cs.toList)\/∀V al,Value.int V al∉cs.toList)(hp:∀ad,Value.pointer (some ⟨ad,0,none⟩)∈cs.toList->∃p X w,W.heap[ad]?=some (.cells p X w)/\X≠265):EU W' K i sb v ts where
 row:=AD hx Q ac.row (λV R=>(ac.loc V R).lt) (IK (λt0 k c=>by
  obtain⟨bb,h,bJ,T,_⟩:=(ac.each t0 k).mem;obtain⟨p,X,w,hq,U⟩:=hp _ c;exact fj T.box hq (λh=>U h.symm) rfl))
 loc:=λV R=>(ac.loc V R).grow Q.size
 each:=λt0 k=>by
  obtain⟨⟨bb,h,bJ,T,U⟩,q2,q3,q4,q5,q6,q7,q8⟩:=ac.each t0 k;exact⟨⟨bb,h,bJ,Fj T hx Q h1 hs,U.grow Q.size⟩,q2.grow Q.size,q3,q4,q5,q6,q7,q8⟩
theorem Inv.oQ(h:Inv W sb s K m a b c d C tb N ls)(hA:Aside W K s.aH sb x)(w:W.heap[x]?=some (.cells cs t fr))(k:I (λX=>X=x) W W')(Q:t≠265)(p:(∀al,Value.string al∉cs.toList)\/∀X ad,Value.int X ad∉cs.toList)(R:∀ac,Value.pointer (some ⟨ac,0,none⟩)∈cs.toList->∃T t' U,W.heap[ac]?=some (.cells T t' U)/\t'≠265)(hg:1≠x/\3≠x):Inv W' sb s K m a b c d C tb N ls:={h with
 st:={h.st with
  mem:=AD w k h.st.mem (λX V=>(h.st.rI X V).lt) (JJ p)
  rI:=λX V=>(h.st.rI X V).grow k.size
  l0:=h.st.l0.oQ w k Q p R
  l1:=h.st.l1.oQ w k Q p R
  l2:=h.st.l2.oQ w k Q p R
  l3:=h.st.l3.oQ w k Q p R
  aH:=h.st.aH.ay k (λ_ c p=>hA.aS (p▸c))
  ju:=⟨Steps.ay h.st.ju.steps k hg.1,h.st.ju.pow.ay k hg.2,h.st.ju.dQ.grow k.size,h.st.ju.jB.grow k.size⟩}}
theorem zQ.oQ(ad:zQ W i sb s K a b c d C tb N ls closed)(R:Aside W K i sb x)(hx:W.heap[x]?=some (.cells cs t fr))(h:I (λac=>ac=x) W W')(U:t≠265)(hs:(∀ao,Value.string ao∉cs.toList)\/∀ac an,Value.int ac an∉cs.toList)(X:∀al,Value.pointer (some ⟨al,0,none⟩)∈cs.toList->∃k T p,W.heap[al]?=some (.cells k T p)/\T≠265)(w:1≠x/\3≠x):zQ W' i sb s K a b c d C tb N ls closed:=by
 cases closed with
 |true=>
  obtain⟨Q,nx,V,bQ,hL⟩:=ad;exact⟨Q,nx,V,bQ,{hL with aH:=hL.aH.ay h (λ_ c Q=>R.aS (Q▸c)),steps:=Steps.ay hL.steps h w.1,pow:=hL.pow.ay h w.2}⟩
 |false=>
  obtain⟨Q,rfl,V⟩:=ad;exact⟨Q,rfl,V.oQ R hx h U hs X w⟩
end
section
variable{o W W':J}{n i sb j x:Nat}{q z:Option Nat}{mem dw P tab':Int}{f e D y:M}{r H:List KV}{O:List (Nat×Obj)}{s s':SR}{K G:DK}{m:List E}{a b c d a' b' c' d':List ar}{C C' tb tb' N N':Nat}{ls L:List (List E)}{l l' u F:List KV}{g A closed:Bool}
theorem LW.still(h:LW o W n i sb j q mem dw f e r O s K a b c d C tb N ls u closed l g)(Q:I (λ_=>False) W W'):LW o W' n i sb j q mem dw f e r O s K a b c d C tb N ls u closed l g:=by
 have hd:=h.sh.aH;have R:eN W W' i sb K K:=ng hd Q;have X:bX W' sb s 0:=(Q.block sb (ak h.so) id).trans h.so;refine h.Pj R X ?_ h.pD h.len h.jU;have U:=h.sh;cases closed with
 |true=>
  obtain⟨V,nx,lg,bQ,T⟩:=U;exact⟨V,nx,lg,bQ,T.ay Q⟩
 |false=>
  obtain⟨V,rfl,T⟩:=U;exact⟨V,rfl,T.eA (ak h.so) R rfl (ai _) rfl T.loose⟩
theorem LW.ju(h:LW o W n i sb j q mem dw f e r O s K a b c d C tb N ls u closed l g)(R:o.heap.size<=x):1≠x/\3≠x:=by
 have p:=h.g0.1.lt;have Q:=h.g0.2.1.lt;exact⟨by omega,by omega⟩
theorem LW.Do(h:LW o W n i sb j q mem dw f e r O s K a b c d C tb N ls u closed l g)(hg:W.grownBy W' (some j))(hr:kO W' j z l' A)(ac:z=q\/∀bb,z=some bb->W.heap.size<=bb):LW o W' n i sb j z mem dw f e r O s K a b c d C tb N ls u closed l' A:=by
 have Q:I (λR=>R=j) W W':=I.bz (S:=λR=>R=j) hg (by rintro R⟨⟩;exact .inl rfl);obtain⟨⟨v,hh,T,hv⟩,ba,ax⟩:=h.ref;have V:=T.shape;have al:=h.xR.lt;have ad:=h.AG.lt;have U:=ak h.so;refine⟨(Q.block n h.xR.lt h.ne).trans h.box,hr,(Q.block sb U (λX=>h.AG.ne X.symm)).trans h.so,?_,h.pD,h.len,h.jU,Q.row h.vZ (λR k=>⟨(h.nM R k).2.2,(h.nM R k).1.lt⟩),Q.row h.qD (λR k=>⟨(h.jN R k).2.2,(h.jN R k).1.lt⟩),h.Nw,h.ay.trans Q (λR X=>.inr (by have:=h.low.2.2.1;have:R=j:=X;omega)),h.low,h.rf,h.xR.grow Q.size,h.AG.grow Q.size,?_,λR k=>⟨(h.nM R k).1.grow Q.size,(h.nM R k).2⟩,λR k=>⟨(h.jN R k).1.grow Q.size,(h.jN R k).2⟩,λp T=>⟨(Q.block _ (h.obj p T).2.1.lt (h.obj p T).2.2.2).trans (h.obj p T).1,(h.obj p T).2.1.grow Q.size,(h.obj p T).2.2⟩,h.ne,h.g0⟩
 ·refine h.sh.oQ h.AG hh Q (by decide) (.inl λao an=>?_) (λan hq=>?_) (h.ju h.low.2.2.1)
  ·rcases V with rfl|⟨b0,o0,c0,rfl⟩<;>simp at an
  ·rcases V with rfl|⟨b0,o0,c0,rfl⟩<;>simp at hq
 ·intro R k;rcases ac with X|X
  ·have:=h.wY R (X▸k);exact⟨this.1.grow Q.size,this.2⟩
  ·have ao:=X R k;exact⟨⟨hr.lt R k,λan=>by have:=h.sh.aH.lt R an;omega,by omega⟩,by omega,by omega⟩
theorem LW.Qr(h:LW o W n i sb j q mem dw f e r O s K a b c d C tb N ls u closed l g)(k:I (λp=>p=n) W W')(hb:W'.heap[n]?=some (.cells #[.pointer (some ⟨i,0,none⟩),.pointer (some ⟨sb,0,none⟩),.pointer (some ⟨j,0,none⟩),.int .i64 P,.int .i64 tab',D,y] 40 (0,0)))(ho:iz W' D H)(hw:iz W' y H)(T:H.length<=1000000)(U:∀p,D.ownBlock=some p->Aside W' K i sb p/\p≠n/\p≠j)(ad:∀p,y.ownBlock=some p->Aside W' K i sb p/\p≠n/\p≠j):LW o W' n i sb j q P tab' D y H O s K a b c d C tb N ls u closed l g:=by
 have Q:=ak h.so;refine⟨hb,h.ref.ay k (λR=>h.ne R.symm) (λao hg R=>(h.wY ao hg).2.1 R),(k.block sb Q (λR=>h.xR.ne R.symm)).trans h.so,?_,h.pD,h.len,h.jU,ho,hw,T,h.ay.trans k (λp R=>.inr (by have:=h.low.2.2.2;have:p=n:=R;omega)),h.low,h.rf,h.xR.grow k.size,h.AG.grow k.size,λp hk=>⟨(h.wY p hk).1.grow k.size,(h.wY p hk).2⟩,U,ad,λal w=>⟨(k.block _ (h.obj al w).2.1.lt (h.obj al w).2.2.1).trans (h.obj al w).1,(h.obj al w).2.1.grow k.size,(h.obj al w).2.2⟩,h.ne,h.g0⟩;have s1:=h.vZ.shape;have s2:=h.qD.shape;have X:=h.ref;obtain⟨⟨v,hh,_,_⟩,_,_⟩:=X;have S:=h.sh.aH.fN;have ac:=h.so;refine h.sh.oQ h.xR h.box k (by decide) (.inl λax an=>?_) (λan hq=>?_) (h.ju h.low.2.2.2)
 ·rcases s1 with rfl|⟨b0,o0,c0,rfl⟩<;>rcases s2 with rfl|⟨b1,o1,c1,rfl⟩<;>simp at an
 ·have V:an=i\/an=sb\/an=j:=by
   rcases s1 with rfl|⟨b0,o0,c0,rfl⟩<;>rcases s2 with rfl|⟨b1,o1,c1,rfl⟩<;>simpa using hq
  rcases V with rfl|rfl|rfl
  ·exact⟨_,_,_,S,by decide⟩
  ·exact⟨_,_,_,ac,by decide⟩
  ·exact⟨_,_,_,hh,by decide⟩
end
def ja(o W:J)(n i sb j:Nat)(q:Option Nat)(mem dw:Int)(f e:M)(r:List KV)(O:List (Nat×Obj))(C N:Nat)(u:List KV)(closed:Bool)(l:List KV)(g:Bool):Prop:=∃s K a b c d tb ls,LW o W n i sb j q mem dw f e r O s K a b c d C tb N ls u closed l g
section
variable{o W W':J}{n i sb j x:Nat}{q z:Option Nat}{mem dw P tab':Int}{f e D y:M}{r H:List KV}{O:List (Nat×Obj)}{C C' N N':Nat}{l l' u F:List KV}{g A closed:Bool}
theorem ja.still(h:ja o W n i sb j q mem dw f e r O C N u closed l g)(Q:I (λ_=>False) W W'):ja o W' n i sb j q mem dw f e r O C N u closed l g:=by
 obtain⟨s,K,a,b,c,d,tb,ls,h⟩:=h;exact⟨s,K,a,b,c,d,tb,ls,h.still Q⟩
theorem ja.Do(k:ja o W n i sb j q mem dw f e r O C N u closed l g)(Q:W.grownBy W' (some j))(R:kO W' j z l' A)(h:z=q\/∀T,z=some T->W.heap.size<=T):ja o W' n i sb j z mem dw f e r O C N u closed l' A:=by
 obtain⟨s,K,a,b,c,d,tb,ls,k⟩:=k;exact⟨s,K,a,b,c,d,tb,ls,k.Do Q R h⟩
theorem ja.box(h:ja o W n i sb j q mem dw f e r O C N u closed l g):W.heap[n]?=some (.cells #[.pointer (some ⟨i,0,none⟩),.pointer (some ⟨sb,0,none⟩),.pointer (some ⟨j,0,none⟩),.int .i64 mem,.int .i64 dw,f,e] 40 (0,0)):=by
 obtain⟨s,K,a,b,c,d,tb,ls,h⟩:=h;exact h.box
theorem ja.obj(h:ja o W n i sb j q mem dw f e r O C N u closed l g){p:Nat×Obj}(k:p∈O):W.heap[p.1]?=some p.2:=by
 obtain⟨s,K,a,b,c,d,tb,ls,h⟩:=h;exact(h.obj p k).1
theorem ja.add(h:ja o W n i sb j q mem dw f e r O C N u closed l g)(U:I (λ_=>False) W W'){Q:Nat}{V:Obj}(hk:W.heap.size<=Q)(R:W'.heap[Q]?=some V):ja o W' n i sb j q mem dw f e r ((Q,V)::O) C N u closed l g:=by
 obtain⟨s,K,a,b,c,d,tb,ls,h⟩:=h;have h':=h.still U;refine⟨s,K,a,b,c,d,tb,ls,{h' with obj:=λp k=>?_}⟩;rcases aD.1 k with rfl|k
 ·have X:=h.xR.lt;have h2:=h.AG.lt;have h3:=ak h.so;exact⟨R,⟨ak R,λk=>by have:=h.sh.aH.lt Q k;omega,by show Q≠sb;omega⟩,by show Q≠n;omega,by show Q≠j;omega⟩
 ·exact h'.obj p k
theorem ja.drop{O':List (Nat×Obj)}(h:ja o W n i sb j q mem dw f e r O C N u closed l g)(R:∀p∈O',p∈O):ja o W n i sb j q mem dw f e r O' C N u closed l g:=by
 obtain⟨s,K,a,b,c,d,tb,ls,h⟩:=h;exact⟨s,K,a,b,c,d,tb,ls,{h with obj:=λp Q=>h.obj p (R p Q)}⟩
theorem ja.ref(h:ja o W n i sb j q mem dw f e r O C N u closed l g):kO W j q l g:=by
 obtain⟨s,K,a,b,c,d,tb,ls,h⟩:=h;exact h.ref
theorem ja.xN(h:ja o W n i sb j q mem dw f e r O C N u closed l g):kK W:=by
 obtain⟨s,K,a,b,c,d,tb,ls,h⟩:=h;exact h.xN
theorem ja.ay(h:ja o W n i sb j q mem dw f e r O C N u closed l g):I (λ_=>False) o W:=by
 obtain⟨s,K,a,b,c,d,tb,ls,h⟩:=h;exact h.ay
theorem ja.MY(h:ja o W n i sb j q mem dw f e r O C N u closed l g){T:Nat}{cs:Array M}{fr:Nat×Nat}(hk:o.heap.size<=T)(V:∃al,(T,al)∈O)(hx:W.heap[T]?=some (.cells cs 42 fr))(hi:∀ad an,Value.int ad an∉cs.toList)(hq:∀ad,Value.pointer ad∉cs.toList)(h1:q≠some T)(h2:f.ownBlock≠some T)(h3:e.ownBlock≠some T)(Q:I (λR=>R=T) W W'){O':List (Nat×Obj)}(hO:∀p∈O',p∈O/\p.1≠T):ja o W' n i sb j q mem dw f e r O' C N u closed l g:=by
 obtain⟨s,K,a,b,c,d,tb,ls,h⟩:=h;obtain⟨al,V⟩:=V;obtain⟨_,hA,n1,n2⟩:=h.obj (T,al) V;have U:=h.ju hk;have ac:=ak h.so;refine⟨s,K,a,b,c,d,tb,ls,(Q.block n h.xR.lt (λS=>n1 S.symm)).trans h.box,h.ref.ay Q (λS=>n2 S.symm) (λao U S=>h1 (S▸U)),(Q.block sb ac (λS=>hA.ne S.symm)).trans h.so,h.sh.oQ hA hx Q (by decide) (.inr hi) (λad X=>absurd X (hq _)) U,h.pD,h.len,h.jU,Q.row h.vZ (λR k=>⟨λS=>h2 (S▸k),(h.nM R k).1.lt⟩),Q.row h.qD (λR k=>⟨λS=>h3 (S▸k),(h.jN R k).1.lt⟩),h.Nw,h.ay.trans Q (λR S=>.inr (by have:R=T:=S;omega)),h.low,h.rf,h.xR.grow Q.size,h.AG.grow Q.size,λR k=>⟨(h.wY R k).1.grow Q.size,(h.wY R k).2⟩,λR k=>⟨(h.nM R k).1.grow Q.size,(h.nM R k).2⟩,λR k=>⟨(h.jN R k).1.grow Q.size,(h.jN R k).2⟩,λp hp=>?_,h.ne,h.g0⟩;obtain⟨q1,q2,q3⟩:=h.obj p (hO p hp).1;exact⟨(Q.block _ q2.lt (hO p hp).2).trans q1,q2.grow Q.size,q3⟩
theorem ja.mono(h:ja o W n i sb j q mem dw f e r O C N u closed l g)(hC:C<=C')(R:C'<=1000000)(hN:N<=N')(U:N'<=100000000):ja o W n i sb j q mem dw f e r O C' N' u closed l g:=by
 obtain⟨s,K,a,b,c,d,tb,ls,h⟩:=h;have hs:=h.sh;have hm:1000001*N<=1000001*N':=Nat.mul_le_mul_left _ hN;refine⟨s,K,a,b,c,d,tb,ls,{h with sh:=?_,len:=aB h.len hC,jU:=R}⟩;cases closed with
 |true=>
  obtain⟨ac,nx,lg,bQ,hL⟩:=hs;exact⟨ac,nx,lg,bQ,{hL with mG:=by have:=hL.mG;omega,jU:=R,nx:=by have:=hL.nx;omega,bn:=by have:=hL.bn;omega,cY:=by have:=hL.cY;omega,zX:=U}⟩
 |false=>
  obtain⟨ac,e',hI⟩:=hs;exact⟨ac,e',hI.mono hC R hN U⟩
theorem ja.CN(h:ja o W n i sb j q mem dw f e r O C N u closed l g):(∀k,q=some k->k<W.heap.size)/\(∀k,f.ownBlock=some k->k<W.heap.size)/\(∀k,e.ownBlock=some k->k<W.heap.size)/\j<W.heap.size/\sb<W.heap.size/\iz W f r/\iz W e r/\r.length<=1000000:=by
 obtain⟨s,K,a,b,c,d,tb,ls,h⟩:=h;exact⟨λk Q=>(h.wY k Q).1.lt,λk Q=>(h.nM k Q).1.lt,λk Q=>(h.jN k Q).1.lt,h.AG.lt,ak h.so,h.vZ,h.qD,h.Nw⟩
end
theorem Inv.rows{B:J}{sb:Nat}{A:SR}{K:DK}{m:List E}{s w y z:List ar}{C p N:Nat}{r:List (List E)}(o:Inv B sb A K m s w y z C p N r):PR A.aO (m::bZ s w y z):=by
 have c:∀x∈m,(p:Int)<x.bV/\x.bV<=(p+r.length:Nat):=λx c=>by
  rw[o.mem]at c;rcases ko c with q|q
  ·simp at q
  ·exact o.lp.pV x q
 exact o.pr.cons (by rw[o.Kl];omega) o.st.li o.st.gU (λx q=>(c x q).1) (λx q=>by rw[o.Kl];exact(c x q).2)
theorem ow{q:Nat}{k:List (List E)}{l:List KV}(o:PR q k)(p:tz k l)(f c:aa)(limit:Int):oU f c limit k=jV l f c limit:=by
 have m:=ur o.li o.rY o.li o.keys (λ_=>nZ) f;exact GG p (λs r o=>Hi o) f c limit m.1 m.2
theorem LU{r:Nat}{c:List (List E)}{l:List KV}(q:PR r c)(m:tz c l)(k:aa):Ju (nu c k)=.tuple #[.string (kZ l k).1,.bool (kZ l k).2,.nilIface]:=by
 rw[JR m k];unfold seen;rcases hq:nu c k with _|p
 ·rfl
 ·have o:=q.gU p (Hh hq);rcases hd:p.del with _|_
  ·simp[Ju,hd]
  ·simp[Ju,hd,o.del hd]
theorem Is(c:aa)(R:List (M×List E)):qH c R=nu (R.map (·.2)) c:=by
 unfold qH nu;rw[List.findSome?_map];rfl
theorem Az(m v:aa)(l:List KV):∀b:List KV,l.foldl (dR m v) (b,true)=(b++l.filter (λp=>!decide (p.1=m)),true):=by
 induction l with
 |nil=>intro b;simp
 |cons p l c=>
  intro b;obtain⟨o,q⟩:=p;rw[eh];by_cases k:o=m
  ·rw[Ax k,c];simp[k]
  ·rw[Aw k,c];simp[k]
theorem KH(l:List KV)(k v c:aa):rC l k v true=rC l k c true:=by
 unfold rC mh;rw[Az,Az];simp
theorem NK{r:List (List E)}(m:Int)(k:List nk):∀{q:List E}{l:List KV},fG q->tz (q::r) l->tz (cq q (k.map (kw m))::r) (Kk l k):=by
 induction k with
 |nil=>intro q l _ s;exact s
 |cons c k u=>
  intro q l p s;have o:=Mx p s (kw m c);have t:rC l (kw m c).key (kw m c).val (kw m c).del=rC l c.key c.val c.del:=by
   unfold kw;simp only;cases hd:c.del with
   |true=>exact KH _ _ _ _
   |false=>simp
  rw[t]at o;exact u (fG.cq p [kw m c]) o
section
variable{i W:J}{g n sb h:Nat}{j:Option Nat}{mem dw:Int}{b a:M}{f:List KV}{O:List (Nat×Obj)}{C N:Nat}{l d:List KV}{e closed:Bool}
theorem LW.shut{c:J}{w:SR}{K:DK}{x y z A:List ar}{r:Nat}{q:List (List E)}(k:LW i W g n sb h j mem dw b a f O w K x y z A C r N q d true l e)(s:bX c sb w 0)(m:I (λD=>D=sb) W c):LW i c g n sb h j mem dw b a f O w K x y z A C r N q d true l e:=by
 obtain⟨B,v,t,bQ,hL⟩:=k.sh;have o:eN W c n sb K K:=wq hL.aH k.rf m;have p:=k.ju k.low.2.1;exact k.Pj o s ⟨B,v,t,bQ,{hL with aH:=o.ok,steps:=Steps.ay hL.steps m p.1,pow:=hL.pow.ay m p.2}⟩ k.pD k.len k.jU
theorem LW.read{t:J}{s:SR}{K:DK}{w x y z:List ar}{q:Nat}{c:List (List E)}(r:LW i W g s.aH sb h j mem dw b a f O s K w x y z C q N c d false l e)(B:Inv W sb s K (cq [] c.flatten) w x y z C q N c)(G:tr W t sb s K (cq [] c.flatten) w x y z C):ja i t g s.aH sb h j mem dw b a f O C N d false l e:=by
 obtain⟨A,F,H,L,D,o⟩:=B.reads (ak r.so) G;obtain⟨p,_,_⟩:=r.sh;exact⟨s,A,w,x,y,z,q,c,r.Pj F D ⟨p,rfl,o⟩ r.pD r.len r.jU⟩
theorem LW.wrote{v:J}{y:SR}{X:DK}{ad al c an:List ar}{V p t:Nat}{T:List (List E)}{m:List KV}{u:aa->Option aa}(ac:LW i W g y.aH sb h j mem dw b a f O y X ad al c an C V N T d false l e)(L:kC W v sb y 0 X p t u)(Q:m.length<=p)(P:p<=1000000)(x:tq m/\∀k z,(k,z)∈m↔u k=some z):ja i v g y.aH sb h j mem dw b a f O p t m false l e:=by
 obtain⟨U,A,m',B,D,F,G,s,r,o⟩:=L;obtain⟨q,_,_⟩:=ac.sh;obtain⟨H,K,_,_⟩:=o.same;have R:=o.inv.mem;subst R;refine⟨U,A,B,D,F,G,s,r,ac.Pj o.eA o.box ⟨K.trans q,H,o.inv⟩ ⟨x.1,λk z=>by rw[o.sL];exact x.2 k z⟩ Q P⟩
theorem ON(k:ja i W g n sb h j mem dw b a f O C N d closed l e)(c:aa)(t:c.size<=140737488351232):Calls prog 29 #[.pointer (some ⟨sb,0,none⟩),.string c] W λo m=>o=.returned (if closed then .tuple #[.string ⟨#[]⟩,.bool false,kr 6]else .tuple #[.string (sj d c).1,.bool (sj d c).2.1,kr (sj d c).2.2])/\ja i m g n sb h j mem dw b a f O C N d closed l e:=by
 obtain⟨v,K,x,y,z,A,w,u,k⟩:=k;cases closed with
 |true=>
  refine(Gm W sb v c k.so k.sh.1).mono ?_;rintro o m⟨rfl,p,q⟩;exact⟨rfl,v,K,x,y,z,A,w,u,k.shut p q⟩
 |false=>
  obtain⟨q,rfl,p⟩:=k.sh;refine(LR W sb v K _ x y z A C c k.so p.st q t).mono ?_;rintro o m⟨rfl,s⟩;refine⟨?_,k.read p s⟩;rw[Is,qJ,LU p.rows k.pD];by_cases r:1<=c.size/\c.size<=8
  ·have o:sj d c=((kZ d c).1,(kZ d c).2,0):=dd (by omega);rw[dr r,o];rfl
  ·have o:sj d c=(⟨#[]⟩,false,3):=dr (by omega);rw[dd r,o];rfl
theorem PQ(m:ja i W g n sb h j mem dw b a f O C N d closed l e)(c o:aa)(limit:Int):Calls prog 31 #[.pointer (some ⟨sb,0,none⟩),.string c,.string o,.int .i64 limit] W λt k=>∃p,t=.returned (.tuple #[p,kr (if closed then 6 else 0)])/\vK W k p (if closed then []else jV d c o limit)/\ja i k g n sb h j mem dw b a f O C N d closed l e:=by
 obtain⟨w,K,y,z,A,B,x,v,m⟩:=m;cases closed with
 |true=>
  refine(wR W sb w c o limit m.so m.sh.1).mono ?_;rintro t k⟨rfl,q,r⟩;exact⟨_,rfl,bC _ _ _ _,w,K,y,z,A,B,x,v,m.shut q r⟩
 |false=>
  obtain⟨r,rfl,q⟩:=m.sh;refine(AA W sb w K _ y z A B C c o limit m.so q.st r).mono ?_;rintro t k⟨p,rfl,s,u⟩;rw[ow q.rows m.pD]at s;exact⟨p,rfl,s,m.read q u⟩
theorem zh(m:ja i W g n sb h j mem dw b a f O C N d closed l e)(c k:aa)(limit:Int):Calls prog 34 #[.pointer (some ⟨sb,0,none⟩),.string c,.string k,.int .i64 limit] W λx W'=>∃o,x=.returned o/\vK W W' o (if closed=true\/limit<=0 then []else jV d c k limit)/\ja i W' g n sb h j mem dw b a f O C N d closed l e:=by
 by_cases s:limit<=0
 ·refine(Af W sb c k limit s).mono ?_;rintro x W'⟨rfl,u⟩;exact⟨_,rfl,by rw[dr (.inr s)];exact bC _ _ _ _,m.still u⟩
 ·obtain⟨F,K,y,z,A,B,G,w,m⟩:=m;cases closed with
  |true=>
   refine(xM W sb F c k limit (by omega) m.so m.sh.1).mono ?_;rintro x W'⟨o,rfl,q,p,u⟩;exact⟨o,rfl,by rw[dr (.inl rfl)];exact q,F,K,y,z,A,B,G,w,m.shut p u⟩
  |false=>
   obtain⟨r,rfl,p⟩:=m.sh;have t:(oU c k 0 (cq [] w.flatten::bZ y z A B)).length<=1000000000:=by
    rw[ow p.rows m.pD];have:=kz d c k 0;have:=m.len;have:=m.jU;omega
   refine(Ae W sb F K _ y z A B C c k limit (by omega) m.so p.st r t).mono ?_;rintro x W'⟨o,rfl,q,D⟩;rw[It c k limit (by omega),ow p.rows m.pD]at q;exact⟨o,rfl,by rw[dd (by rintro(E|E);cases E;exact s E)];exact q,m.read p D⟩
def nj(d:List KV)(c:List nk):List KV:=if eB c=0 then Kk d c else d
theorem Bn(d:List KV)(c:List nk)(k:d.length<=C):(nj d c).length<=C+iW c:=by
 unfold nj iW;by_cases q:eB c=0
 ·rw[dr q,dr q];have:=zD d c;omega
 ·rw[dd q,dd q];omega
theorem zO{y:SR}{K:DK}{o p r s:List ar}{u:Nat}{k:List (List E)}(t:Inv W sb y K (cq [] k.flatten) o p r s C u N k)(m:tz (cq [] k.flatten::bZ o p r s) d)(w:Int)(c:List nk):tq (nj d c)/\∀v x,(v,x)∈nj d c↔ua (cq [] k.flatten) (bZ o p r s) w c v=some x:=by
 unfold nj ua;by_cases q:eB c=0
 ·rw[dr q,dr q];exact NK w c t.st.li m
 ·rw[dd q,dd q];exact m
theorem zg(o:ja i W g n sb h j mem dw b a f O C N d closed l e)(m:M)(k:List nk)(c:Bool)(u:tD W m k)(s:∀G,m.ownBlock=some G->G<W.heap.size/\G≠sb)(F:∀S∈k,S.key.size<=140737488351232/\S.val.size<=140737488351232)(E:k.length<=1000000000)(q:C+iW k<=1000000)(z:N+1<=100000000):Calls prog 12 #[.pointer (some ⟨sb,0,none⟩),m,.bool c] W λx r=>x=.returned (kr (if closed then 6 else eB k))/\ja i r g n sb h j mem dw b a f O (C+iW k) (N+1) (if closed then d else nj d k) closed l e:=by
 obtain⟨H,K,L,P,Q,R,B,A,o⟩:=o;cases closed with
 |true=>
  refine(uF W sb H m c o.so o.sh.1).mono ?_;rintro x r⟨rfl,t,y⟩;have h':=o.shut t y;obtain⟨x,nx,D,bQ,hL⟩:=h'.sh;refine⟨rfl,H,K,L,P,Q,R,B,A,{h' with sh:=⟨x,nx,D,bQ,{hL with mG:=by have:=hL.mG;omega,jU:=q,nx:=by have:=hL.nx;omega,bn:=by have:=hL.bn;omega,cY:=by have:=hL.cY;omega,zX:=z}⟩,len:=by have:=h'.len;show d.length<=_;omega,jU:=q}⟩
 |false=>
  obtain⟨t,rfl,y⟩:=o.sh;refine(xY W sb H K _ L P Q R C B N A m k c o.so y t u s F E q z).mono ?_;rintro x r⟨rfl,D⟩;exact⟨rfl,o.wrote D (Bn d k o.len) q (zO y o.pD _ k)⟩
theorem Lv(o:ja i W g n sb h j mem dw b a f O C N d closed l e)(c q k m:aa)(p:Bool)(P:k.size<=140737488351232/\m.size<=140737488351232)(s:C+iW [⟨k,m,p⟩]<=1000000)(D:N+1<=100000000):Calls prog 59 #[.pointer (some ⟨sb,0,none⟩),.string c,.string q,.agg #[.string k,.string m,.bool p]] W λz W'=>∃r,z=.returned (.tuple #[r,.int .i64 (if closed then 6 else eB [⟨k,m,p⟩])])/\vK W W' r (if closed then []else jV d c q 0)/\ja i W' g n sb h j mem dw b a f O (C+iW [⟨k,m,p⟩]) (N+1) (if closed then d else nj d [⟨k,m,p⟩]) closed l e:=by
 obtain⟨Q,R,F,G,H,K,E,y,o⟩:=o;have B:=o.xN;have A:=o.Qn;cases closed with
 |true=>
  refine(Ad W sb Q c q k m p o.so o.sh.1 B A.1).mono ?_;rintro z W'⟨r,rfl,u,t,w⟩;have h':=o.shut t w;obtain⟨z,nx,x,bQ,hL⟩:=h'.sh;refine⟨r,rfl,u,Q,R,F,G,H,K,E,y,{h' with sh:=⟨z,nx,x,bQ,{hL with mG:=by have:=hL.mG;omega,jU:=s,nx:=by have:=hL.nx;omega,bn:=by have:=hL.bn;omega,cY:=by have:=hL.cY;omega,zX:=D}⟩,len:=by have:=h'.len;show d.length<=_;omega,jU:=s}⟩
 |false=>
  obtain⟨w,rfl,t⟩:=o.sh;have x:(oU c q 0 (cq [] y.flatten::bZ F G H K)).length<=1000000000:=by
   rw[ow t.rows o.pD];have:=kz d c q 0;have:=o.len;have:=o.jU;omega
  refine(Dz W sb Q R _ F G H K C E N y c q k m p o.so t w B A P s D x).mono ?_;rintro z W'⟨r,rfl,u,L⟩;rw[ow t.rows o.pD]at u;exact⟨r,rfl,u,o.wrote L (Bn d _ o.len) s (zO t o.pD _ _)⟩
theorem DN(p:ja i W g n sb h j mem dw b a f O C N d closed l e):Calls prog 22 #[.pointer (some ⟨sb,0,none⟩)] W λu r=>u=.returned (kr (if closed then 6 else 0))/\ja i r g n sb h j mem dw b a f O C N d true l e:=by
 obtain⟨A,Q,F,G,t,H,B,z,p⟩:=p;cases closed with
 |true=>
  refine(MB W sb A p.so p.sh.1).mono ?_;rintro u r⟨rfl,w,c⟩;exact⟨rfl,A,Q,F,G,t,H,B,z,p.shut w c⟩
 |false=>
  have s:=p;obtain⟨x,rfl,c⟩:=p.sh;have y:=p.ju p.low.2.1;have o:∀{v:M}{E c:Nat}{k:List M},Row W c v E k->∃P E t,v=.slice P E t:=λq=>by
   obtain⟨P,t,u⟩:=lE q;exact⟨P,_,t,u⟩
  refine(JU W sb A Q p.so x (o c.st.mem) (o c.st.l0.row) (o c.st.l1.row) (o c.st.l2.row) (o c.st.l3.row) c.st.aH c.st.rf c.st.ju.pow (λu=>y.2 u.symm) (by have:=c.nE.lt;have:=c.nx;have:=c.jU;omega) (λq=>⟨_,c.nE.log (c.loose q),by have:=c.Iw.1;omega⟩) (by have:=c.cY;have:=c.jU;omega)).mono ?_;rintro u r⟨rfl,D,m,K,L,w⟩;have k:=c.laid;have v:sk r A.aH D F G t H C B N A.next A.log A.bQ z:=k.again m.ok (λE=>by rw[K]) L (Steps.ay k.steps m.ay (λq=>q.elim k.dQ y.1)) (k.pow.ay m.ay (λq=>q.elim k.jB y.2)) (λq=>(m.aS _ q).elim k.dQ (λc=>by have:=k.steps.lt;omega)) (λq=>(m.aS _ q).elim k.jB (λc=>by have:=k.pow.lt;omega));exact⟨rfl,_,D,F,G,t,H,B,z,s.Pj m w ⟨rfl,_,_,_,v⟩ s.pD s.len s.jU⟩
end
def eV(j A B:Int)(S T:aa)(L:M):Obj:=.cells #[.int .i64 j,.int .i64 A,.int .i64 B,.string S,.string T,L] 31 (0,0)
def vM(j A B:Int)(S T:aa)(L:M):M:=.agg #[.int .i64 j,.int .i64 A,.int .i64 B,.string S,.string T,L]
section
variable{h W:J}{c f sb d:Nat}{e:Option Nat}{mem dw:Int}{b a:M}{g:List KV}{O:List (Nat×Obj)}{C N:Nat}{l:List KV}{closed:Bool}
theorem ja.gG{W:J}{k:List KV}{i:Bool}(m:ja h W c f sb d e mem dw b a g O C N k closed l i):W.cell? ⟨c,0,none⟩=some (.pointer (some ⟨f,0,none⟩))/\W.cell? ⟨c,1,none⟩=some (.pointer (some ⟨sb,0,none⟩))/\W.cell? ⟨c,2,none⟩=some (.pointer (some ⟨d,0,none⟩))/\W.cell? ⟨c,5,none⟩=some b/\W.cell? ⟨c,6,none⟩=some a:=by
 have j:=m.box;refine⟨?_,?_,?_,?_,?_⟩<;>(rw[aj j];rfl)
theorem ja.dO{W:J}{n:List KV}{k:Bool}{i:Nat}{j A B:Int}{S T:aa}{L:M}(o:ja h W c f sb d e mem dw b a g ((i,eV j A B S T L)::O) C N n closed l k):W.cell? ⟨i,0,none⟩=some (.int .i64 j)/\W.cell? ⟨i,1,none⟩=some (.int .i64 A)/\W.cell? ⟨i,2,none⟩=some (.int .i64 B)/\W.cell? ⟨i,3,none⟩=some (.string S)/\W.cell? ⟨i,4,none⟩=some (.string T)/\W.cell? ⟨i,5,none⟩=some L:=by
 have m:W.heap[i]?=some (eV j A B S T L):=o.obj (p:=(i,eV j A B S T L)) (cK ..);unfold eV at m;refine⟨?_,?_,?_,?_,?_,?_⟩<;>(rw[aj m];rfl)
def Gk(closed:Bool)(l:List KV)(k:aa):aa×Bool×Int:=if closed then(⟨#[]⟩,false,6)else sj l k
theorem Nu{k:List KV}{m:Bool}(r:ja h W c f sb d e mem dw b a g O C N k closed l m)(j:aa)(p:j.size<=140737488351232):Calls prog 29 #[.pointer (some ⟨sb,0,none⟩),.string j] W λq n=>q=.returned (.tuple #[.string (Gk closed k j).1,.bool (Gk closed k j).2.1,kr (Gk closed k j).2.2])/\ja h n c f sb d e mem dw b a g O C N k closed l m:=by
 refine(ON r j p).mono ?_;rintro q n⟨rfl,o⟩;refine⟨?_,o⟩;cases closed<;>rfl
theorem KT{W:J}{d:Nat}{e:Option Nat}(r:kO W d e l closed)(j:aa)(m:l.length<=1000000000000)(n:j.size<=140737488351232):Calls prog 30 #[.pointer (some ⟨d,0,none⟩),.string j] W λp o=>p=.returned (.tuple #[.string (Gk closed l j).1,.bool (Gk closed l j).2.1,.int .i64 (Gk closed l j).2.2])/\o=W:=by
 refine(FF d e l closed j W r m n).mono ?_;rintro p q⟨rfl,k⟩;refine⟨?_,k⟩;cases closed<;>rfl
theorem ja.lens{W:J}{k:List KV}{j:Bool}(m:ja h W c f sb d e mem dw b a g O C N k closed l j):k.length<=C/\C<=1000000:=by
 obtain⟨u,K,q,r,s,t,o,n,m⟩:=m;exact⟨m.len,m.jU⟩
theorem KY(w:ja h W c f sb d e mem dw b a g O C N l closed l closed)(ac ad:Int)(S al:aa)(bb:Option Addr)(ba G:Nat)(hz:S.size<=140737488351232):Calls prog 11 #[.pointer (some ⟨c,0,none⟩),vM 2 ac ad S al (.slice bb ba G)] W λP w'=>P=.returned (.bool true)/\ja h w' c f sb d e mem dw b a g O C N l closed l closed:=by
 obtain⟨B,y⟩:∃B,W.heap.size=B:=⟨_,rfl⟩;have T:ja h (W.alloc (eV 2 ac ad S al (.slice bb ba G))) c f sb d e mem dw b a g ((B,eV 2 ac ad S al (.slice bb ba G))::O) C N l closed l closed:=w.add ((I.refl _ W).alloc _) (by omega) (az _ y.symm);have r:=T.still (bS (λ_=>False) _);have j:=Nu r S hz;have t:=bj r.gG.2.1 r.dO.2.2.2.1;have an:=ak w.box;have V:=w.lens;have q:=λk j(m:kO k d j l closed)=>KT m S (by omega) hz;obtain⟨R,Q,D,p⟩:∃R Q D,Gk closed l S=(R,Q,D):=⟨_,_,_,rfl⟩;rw[p]at j;simp only[p]at q;simp only at j q;have L:=Z r;unfold vM;unfold eV at j t L;clear w T r p;go_enter func11,ntmps11
 go_wp2_with fail
 try rw[y]
 rename_i QQ F n;refine bM (λX=>X.cell? ⟨c,1,none⟩=some (.pointer (some ⟨sb,0,none⟩))/\X.cell? ⟨B,3,none⟩=some (.string S)) 13 (by kernel_rfl) ?_;refine cz 0 ?_;iterate 6 (refine cy (v:=?_) t rfl (by kernel_rfl) (λ_ _ _ w=>w) (Or.inl ⟨by rfl,?_⟩) ?_;rotate_left;(focus(rintro X⟨H,K⟩;go_simp;try with_reducible rfl));simp only[Act.put,Nat.reduceAdd,ab,ae,af,av,am,ap])
 refine dG ?_;refine aI (i:=6) rfl rfl (by kernel_rfl) ?_;intro KC m;go_simp;refine j.mono ?_;rintro P W2⟨rfl,r⟩;have U:=r.still (bS (λ_=>False) W2);have u:=bj r.gG.2.1 r.dO.2.2.2.1;have k:=Z U;refine m _ _ (λ_=>u) ?_;try simp only[Act.put,ab,ae,af,av,am,ap]
 refine cz 7 ?_;iterate 6 (refine cy (v:=?_) u rfl (by kernel_rfl) (λ_ _ _ w=>w) (Or.inl ⟨by rfl,?_⟩) ?_;rotate_left;(focus(rintro X⟨H,K⟩;go_simp;try with_reducible rfl));simp only[Act.put,Nat.reduceAdd,ab,ae,af,av,am,ap])
 refine dG ?_;refine aI (i:=13) rfl rfl (by kernel_rfl) ?_;intro KL o;go_simp;refine o _ _ (λG=>(G rfl).elim) ?_;refine cr (by kernel_rfl) ?_ _;show F _ _;refine n _ _ ?_;have z:=q _ _ (Y k).ref;have s:=bj (Y k).gG.2.2.1 (Y k).dO.2.2.2.1;clear t u j r U m o n L;go_wp2_with fail
 rename_i QQ F n;refine bM (λX=>X.cell? ⟨c,2,none⟩=some (.pointer (some ⟨d,0,none⟩))/\X.cell? ⟨B,3,none⟩=some (.string S)) 13 (by kernel_rfl) ?_;refine cz 0 ?_;iterate 6 (refine cy (v:=?_) s rfl (by kernel_rfl) (λ_ _ _ w=>w) (Or.inl ⟨by rfl,?_⟩) ?_;rotate_left;(focus(rintro X⟨H,K⟩;go_simp;try with_reducible rfl));simp only[Act.put,Nat.reduceAdd,ab,ae,af,av,am,ap])
 refine dG ?_;refine aI (i:=6) rfl rfl (by kernel_rfl) ?_;intro KC m;go_simp;refine z.mono ?_;rintro P W3⟨rfl,ao⟩;subst W3;refine m _ _ (λ_=>s) ?_;try simp only[Act.put,ab,ae,af,av,am,ap]
 refine cz 7 ?_;iterate 6 (refine cy (v:=?_) s rfl (by kernel_rfl) (λ_ _ _ w=>w) (Or.inl ⟨by rfl,?_⟩) ?_;rotate_left;(focus(rintro X⟨H,K⟩;go_simp;try with_reducible rfl));simp only[Act.put,Nat.reduceAdd,ab,ae,af,av,am,ap])
 refine dG ?_;refine aI (i:=13) rfl rfl (by kernel_rfl) ?_;intro KL o;go_simp;refine o _ _ (λG=>(G rfl).elim) ?_;refine cr (by kernel_rfl) ?_ _;show F _ _;refine n _ _ ?_;have A:=kF D _ (Y k).xN;clear z s m o n;go_wp2_with fail
 refine A.mono ?_;rintro P W4⟨rfl,x⟩;have E:=Z ((Y k).still (I.aR x));clear x A k;go_wp2_with fail
 refine(nr D _).mono ?_;rintro P W5⟨rfl,ax⟩;subst W5;go_wp2;go_ret;exact⟨rfl,(Y E).drop (λp j=>aJ _ j)⟩
end
structure OW(m W:J)(f i j:Nat)(v:Option Nat)(w:Option Addr)(mem dw:Int)(g e:M)(s:List KV)(O:List (Nat×Obj))(K:DK)(a b c d:List ar)(C tb N nx x:Nat)(bQ:Bool)(ls:List (List E))(l:List KV)(n:Bool):Prop where
 box:W.heap[f]?=some (.cells #[.pointer (some ⟨i,0,none⟩),.pointer w,.pointer (some ⟨j,0,none⟩),.int .i64 mem,.int .i64 dw,g,e] 40 (0,0))
 ref:kO W j v l n
 laid:sk W i K a b c d C tb N nx x bQ ls
 pD:tz (cq [] ls.flatten::bZ a b c d) l
 len:l.length<=C
 vZ:iz W g s
 qD:iz W e s
 Nw:s.length<=1000000
 ay:I (λ_=>False) m W
 low:(∀k,K.aS i k->m.heap.size<=k)/\m.heap.size<=j/\m.heap.size<=f
 xR:¬K.aS i f
 AG:¬K.aS i j
 wY:∀k,v=some k->k<W.heap.size/\¬K.aS i k/\k≠f/\k≠j
 nM:∀k,g.ownBlock=some k->k<W.heap.size/\¬K.aS i k/\k≠f/\k≠j
 jN:∀k,e.ownBlock=some k->k<W.heap.size/\¬K.aS i k/\k≠f/\k≠j
 obj:∀p∈O,W.heap[p.1]?=some p.2/\¬K.aS i p.1/\p.1≠f/\p.1≠j
 Qb:∀q,w=some ⟨q,0,none⟩->¬K.aS i q/\∃cs t fr,W.heap[q]?=some (.cells cs t fr)/\t≠265
 ne:f≠j
 g0:Steps m/\Pow m/\kK m
section
variable{m W W':J}{f i j:Nat}{v:Option Nat}{w:Option Addr}{mem dw o r:Int}{g e:M}{s:List KV}{O:List (Nat×Obj)}{K:DK}{a b c d:List ar}{C tb N nx x:Nat}{bQ:Bool}{ls:List (List E)}{l:List KV}{n:Bool}
theorem OW.still(h:OW m W f i j v w mem dw g e s O K a b c d C tb N nx x bQ ls l n)(t:I (λ_=>False) W W'):OW m W' f i j v w mem dw g e s O K a b c d C tb N nx x bQ ls l n:={h with
 box:=(t.block f (ak h.box) id).trans h.box
 ref:=h.ref.ay t id (λ_ _=>id)
 laid:=h.laid.ay t
 vZ:=t.row h.vZ (λk q=>⟨id,(h.nM k q).1⟩)
 qD:=t.row h.qD (λk q=>⟨id,(h.jN k q).1⟩)
 ay:=h.ay.trans t (λ_ z=>z.elim)
 wY:=λk q=>⟨ah (h.wY k q).1 t.size,(h.wY k q).2⟩
 nM:=λk q=>⟨ah (h.nM k q).1 t.size,(h.nM k q).2⟩
 jN:=λk q=>⟨ah (h.jN k q).1 t.size,(h.jN k q).2⟩
 obj:=λp y=>⟨(t.block _ (ak (h.obj p y).1) id).trans (h.obj p y).1,(h.obj p y).2⟩
 Qb:=λz G=>by
  obtain⟨D,A,H,B,y,F⟩:=h.Qb z G;exact⟨D,A,H,B,(t.block z (ak y) id).trans y,F⟩}
theorem OW.xN(h:OW m W f i j v w mem dw g e s O K a b c d C tb N nx x bQ ls l n):kK W:=h.g0.2.2.ay h.ay id
theorem OW.opened(q:OW m W f i j v w mem dw g e s O K a b c d C tb N nx x bQ ls l n){S D:J}{A:Nat}(z:zS W S i (W.heap.size+1) o r K C (N+1) (seen (cq [] ls.flatten::bZ a b c d)))(U:I (λk=>k=f) S D)(hb:D.heap[f]?=some (.cells #[.pointer (some ⟨i,0,none⟩),.pointer (some ⟨W.heap.size+1,0,none⟩),.pointer (some ⟨A,0,none⟩),.int .i64 o,.int .i64 r,g,e] 40 (0,0)))(hr:kO D A v l false)(bf:S.heap.size<=A)(ao:A<D.heap.size):ja m D f i (W.heap.size+1) A v o r g e s O C (N+1) l false l false:=by
 obtain⟨V,R,bn,a',b',c',d',ad,Q,z⟩:=z;have hm:=z.inv.mem;subst hm;obtain⟨e1,e2,_,_⟩:=z.same;subst e1;have L:=ak q.box;have X:=z.eA;have bg:=z.size;have bh:=U.size;have bc:=q.ay.size;have t:∀k,k<W.heap.size->¬K.aS V.aH k->¬R.aS V.aH k:=λk y hn B=>(X.aS k B).elim hn (λbk=>by omega);have h:∀k,k<W.heap.size->¬K.aS V.aH k->S.heap[k]?=W.heap[k]?:=λk y hn=>X.ay.block k y (λB=>B.elim hn (λbb=>by omega));have hg:1≠f/\3≠f:=by
  have h1:=q.g0.1.lt;have h2:=q.g0.2.1.lt;have h3:=q.low.2.2;exact⟨by omega,by omega⟩
 have G:=(h f L q.xR).trans q.box;have s1:=q.vZ.shape;have s2:=q.qD.shape;obtain⟨⟨bd,hh,_,_⟩,_,_⟩:=q.ref;have ax:=ak hh;have al:Aside S R V.aH (W.heap.size+1) f:=⟨by omega,t f L q.xR,by omega⟩;have hI:Inv D (W.heap.size+1) V R (cq [] Q.flatten) a' b' c' d' C ad (N+1) Q:=by
  refine z.inv.oQ al G U (by decide) (.inl λu B=>?_) (λB hq=>?_) hg
  ·rcases s1 with rfl|⟨b0,o0,c0,rfl⟩<;>rcases s2 with rfl|⟨b1,o1,c1,rfl⟩<;>simp at B
  ·have an:B=V.aH\/w=some ⟨B,0,none⟩\/B=j:=by
    rcases s1 with rfl|⟨b0,o0,c0,rfl⟩<;>rcases s2 with rfl|⟨b1,o1,c1,rfl⟩<;>simpa[eq_comm]using hq
   rcases an with rfl|bb|rfl
   ·exact⟨_,_,_,z.inv.st.aH.fN,by decide⟩
   ·obtain⟨g1,cs,bl,fr,g2,g3⟩:=q.Qb B bb;exact⟨cs,bl,fr,(h B (ak g2) g1).trans g2,g3⟩
   ·exact⟨_,_,_,(h B ax q.AG).trans hh,by decide⟩
 have ac:bX D (W.heap.size+1) V 0:=(U.block _ (ak z.box) (by omega)).trans z.box;have F:∀{bd:M}{L:List KV},iz W bd L->(∀k,bd.ownBlock=some k->k<W.heap.size/\¬K.aS V.aH k/\k≠f/\k≠j)->iz D bd L:=λhp h=>U.row (X.ay.row hp (λk y=>⟨λB=>B.elim (h k y).2.1 (λbb=>by have:=(h k y).1;omega),(h k y).1⟩)) (λk y=>⟨(h k y).2.2.1,by have:=(h k y).1;omega⟩);have p:∀k,k<W.heap.size/\¬K.aS V.aH k/\k≠f/\k≠j->Aside D R V.aH (W.heap.size+1) k/\k≠f/\k≠A:=λk B=>⟨⟨by omega,t k B.1 B.2.1,by omega⟩,B.2.2.1,by omega⟩;have ba:∀k,R.aS V.aH k->k<S.heap.size:=z.inv.st.aH.lt;refine⟨V,R,a',b',c',d',ad,Q,hb,hr,ac,⟨e2,rfl,hI⟩,q.pD.congr z.sL,q.len,q.laid.jU,F q.vZ q.nM,F q.qD q.jN,q.Nw,(q.ay.trans X.ay (λk B=>.inr (B.elim (q.low.1 k) (λbb=>by omega)))).trans U (λk bb=>.inr (by have:=q.low.2.2;have:k=f:=bb;omega)),⟨λk B=>(X.aS k B).elim (q.low.1 k) (λbk=>by omega),by omega,by omega,q.low.2.2⟩,z.inv.st.rf,⟨by omega,t f L q.xR,by omega⟩,⟨ao,λB=>by have:=ba _ B;omega,by omega⟩,λk y=>p k (q.wY k y),λk y=>p k (q.nM k y),λk y=>p k (q.jN k y),λbi hp=>?_,by omega,q.g0⟩;obtain⟨q1,q2,q3,q4⟩:=q.obj bi hp;have H:=ak q1;exact⟨(U.block _ (by omega) q3).trans ((h _ H q2).trans q1),(p bi.1 ⟨H,q2,q3,q4⟩).1,(p bi.1 ⟨H,q2,q3,q4⟩).2⟩
end
end Go.Proofs.YtophdnlmpfmeiaaGreatDoor
