import Derived.Test.YtojeeoclojldpaaGreatDoorC9
open _root_ renaming List.length→y,Option.some→H,Array.size→z,Go.World.heap→G,Go.Value.ownBlock→bV,Go.World.cell?→aT,Go.World.alloc→ct,Bool.false→bF,Bool.true→bW,Nat→M,Int→Z,List→cr,Go.Calls→cy,Go.Proofs.Tryz.prog→bG,Go.Value.slice→J,Go.Value.bool→aL,Go.Value.pointer→fp,Go.Value.tuple→dB
namespace Go.Proofs.YtojeeoclojldpaaGreatDoor
open ChangeShapes WideShapes RowKit Proofs.Tryz
set_option maxHeartbeats 16000000
set_option linter.all false
set_option maxRecDepth 100000
variable{a f:I}{b c g:M}{d:aa}{e:cA}{X:fJ}{r:jj}{T:Type}{V:Array aa}
def Az:jj:=⟨λ_=>True,λ_=>False,λ_ _ _=>trivial,λ_ h=>h.elim⟩
section
open Go.Shelf
attribute [local go_sem] Oper.semAt_some
def zd(v:aa)(n c:M):aa:=match v with
 | .slice (H ⟨d,a,none⟩) _ b=>.slice (H ⟨d,a+n*4,none⟩) c<|b-n
 |v=>v
def FY(v:aa)(p:M×cA):Array aa:=#[zd v p.1<|y p.2]
def AA{o p g s:cA}(r:kw a d o)(h:o=p++g++s)(k:g≠[]):kw a (zd d (y p)<|y g) g:=by
 have l:0<y g:=gF.2 k;obtain⟨u,⟨rfl,t⟩|⟨q,b,c,rfl,n,i⟩⟩:=r;have:=bU y h;simp at this;omega;have m:=bU y h;simp at m;refine⟨by rw[fN],.inr ⟨q,b+y p*4,c-y p,rfl,by omega,λj v f=>?_⟩⟩;have e:j<y g*4:=by rw[<-fN];exact(fo.1 f).1
 have:=i (y p*4+j) v (by rw[h,fO,fO,aU,dE (by rw[fN];omega),fN,show y p*4+j-y p*4=j by omega,gd (by rw[fN];exact e)];exact f);rw[aV];exact this
def Ap(v:aa)(x:Option Addr)(n c:M)(a:v=J x n c)(w:I):cy bG 79 #[v] w λe b=>e=aO (.func (.func 127) #[] #[fp<|H ⟨z<|G w,0,none⟩])/\b=ct w (ar #[v] 102):=by
 subst a;go_in
 go_wp2;go_ret;exact⟨rfl,rfl⟩
def Rw(r:b<=c)(B:c<y e)(u:∀o(C:o+1<y e),b<=o->o<c->e[o+1].key=e[o].key)(s:∀E:c+1<y e,e[c+1].key≠e[c].key):∃p,e.drop b=p++e.drop (c+1)/\p≠[]/\y p=c+1-b/\ie (e.drop b)=p::ie (e.drop<|c+1):=by
 have w:e.drop b=(e.drop b).take (c+1-b)++e.drop (c+1):=by(conv=>lhs;rw[<-bX (c+1-b) (e.drop b)]);rw[List.drop_drop,show b+(c+1-b)=c+1 by omega]
 have n:∀t(k:t<=c)(f:b<=t),(e[t]'(by omega)).key=(e[b]'(by omega)).key:=by
  intro t;induction t with
  |zero=>intro _ j;obtain rfl:b=0:=(by omega);rfl
  |succ t i=>
   intro k f;rcases lf f with h|h
   .exact(u t (by omega) (by omega)<|by omega).trans<|i (by omega)<|by omega
   .subst h;rfl
 have d:y ((e.drop b).take<|c+1-b)=c+1-b:=by simp;omega
 have g:(e.drop b).take (c+1-b)≠[]:=λh=>by rw[h]at d;simp at d;omega
 have a:∀x∈(e.drop b).take (c+1-b),x.key=(e[b]'(by omega)).key:=by intro x l;obtain⟨t,k,rfl⟩:=dO l;rw[d]at k;rw[gq,mX];exact n (b+t) (by omega)<|by omega
 refine⟨_,w,g,d,?_⟩;conv=>lhs;rw[w]
 rw[LB _ _ ?_,Uf g<|λx l m v=>(a x l).trans (a m v).symm];rfl;intro A q D i;have j:=a A<|List.mem_of_getLast? q;(have f:c+1<y e:=by rcases dF (c+1) (y e)with h|h;exact h;rw[pQ h]at i;cases i);rw[bE f]at i;cases i;rw[j,<-n c (ah _) r];exactλh=>s f h.symm
def vT(n0 bT:M)(hb:dV a b d 102)(hr:kw a d e)(u:∀w,bV d=H w->w<n0)(bm:n0<=z (G a))(bv:y e<=1000000000):Ia (FY d) Az n0 bT 127 #[fp<|H ⟨b,0,none⟩] (nz 0<|ie e) (λw=>w=b) a:=by
 intro lr bx Jx bq bn hs hD hJ X p al hY;obtain⟨ca,Q,hv⟩:=bM hr;obtain⟨HB,HR,ax,HS,HJ,bd,HY,bb,O⟩:=xG hb hr u hs hJ X hY p<|λc bq bn q(h:bx c bq bn)=>al c bq bn (bn.drewN q) (λ_=>False) h (Y.aW<|below_drewN (Below.refl _ bn) q) cG;have bs:aT bn ⟨b,0,none⟩=H d:=hs.cell (.inl rfl) hb.cell;clear hb hr u hs hJ X p al hY hD;subst hv;refine qS func127 rfl trivial ?_ rfl;simp only[ntmps127,eR,ay,cL,Nat.reduceAdd,Nat.reduceSub,dS,dR,eS,er,cC,cq];gi_wp2;gi_loopw [3,7] (λf d wr=>∃(m i:M)(c:cr (M×cA))(x:fJ),f=ap m/\d=ap i/\m<=i/\i<=y e/\nz 0 (ie e)=c++nz m (ie<|e.drop m)/\(∀k(K:k<y e),m<=k->k<i->∃h:k+1<y e,e[k+1].key=e[k].key)/\bx c x wr/\(∀w,w=b->¬x w)/\jz Az n0 (λw=>w=b) a wr) (λ_ d _=>y e-(intOf d).toNat)
 case atStart=>exact⟨0,0,[],bq,rfl,rfl,ah _,bA _,rfl,λk _ _ h=>by omega,HJ,bd,HS⟩
 case round=>
  obtain⟨m,i,c,x,rfl,rfl,bh,bu,hl,t,C,n,f⟩:=hrel;have bt:aT wr ⟨b,0,none⟩=H (J ca (y e) Q):=f.cell (.inl rfl) HB.cell;obtain⟨HL,L,r,P⟩:=gx hl t C f;have l:=U n;by_cases p:i<y e
  .obtain⟨bo,g,A,hx,ad,o⟩:∃bo g A,J ca (y e) Q=J (H ⟨bo,g,none⟩) (y e) A/\y e<=A/\∀k u,(aF e)[k]?=H u->aT wr ⟨bo,g+k,none⟩=H u:=by
    obtain⟨T,⟨B,E⟩|⟨ao,v,s,B,ad,D⟩⟩:=ae HR
    .omega
    .exact⟨ao,v,s,B,ad,λk u K=>f.cell (.inr ⟨ax ao (by rw[B];rfl),id⟩)<|D k u K⟩
   cases hx;have e1:(i:Z)<(y e:Z):=by omega
   have e2:(0:Z)<=(i:Z):=by omega
   have g0:=o _ _ (ez e i p).1;clear hl t C f n;by_cases hn:∃h:i+1<y e,e[i+1].key=e[i].key
   .obtain⟨j,s⟩:=hn;have g1:=o _ _ (ez e (i+1) j).1;rw[s]at g1;have v:=U (show∀k(K:k<y e),m<=k->k<i+1->∃h:k+1<y e,e[k+1].key=e[k].key fromλk K T B=>by
     rcases lf (show k<=i by omega)with S|S
     .exact L k K T S
     .subst S;exact⟨j,s⟩)
    clear o s;generalize e[i].key=D at*;have e3:(i:Z)+1<(y e:Z):=by omega
    have e4:(0:Z)<=(i:Z)+1:=by omega
    gi_wp2;refine sj.2 ?_;go_quiet(fail)
    gi_wp2;go_roundw;case rel=>exact⟨m,i+1,c,x,rfl,by go_num,by omega,by omega,HL,v,O _ _ _ _ r,l,P.trans ⟨ah _,λ_ _=>rfl⟩⟩
    case measure=>simp[intOf];omega
   .obtain⟨ao,bi,bk,D,E⟩:=Rw bh p (λk K T B=>(L k (by omega) T B).2)<|λh Q=>hn ⟨h,Q⟩;have v:(c++[(m,ao)])<+:nz 0 (ie e):=⟨nz (m+y ao)<|ie<|e.drop<|i+1,by rw[ae HL,E,nz];simp⟩;have ac:nz 0 (ie e)=(c++[(m,ao)])++nz (i+1) (ie<|e.drop<|i+1):=by rw[ae HL,E,nz,D,show m+(i+1-m)=i+1 by omega];simp
    have N:=U v;have ba:=U ac;have e6:(m:Z)<=(i:Z)+1:=by omega
    have e7:(i:Z)+1<=(Q:Z):=by omega
    have e8:¬(Q-m=0):=by omega
    have e9:(0:Z)<=(m:Z):=by omega
    have e4:(0:Z)<=(i:Z)+1:=by omega
    have bg:=U (λq=>show YieldAt Fence.wide (bT-1) bG lr #[J (H ⟨bo,g+m*4,none⟩) (i+1-m)<|Q-m] (wr.drewN q) _ from by
     have:=HY c (m,ao) x (wr.drewN q) N (O _ _ _ q r) trivial;unfold FY zd at this;simp only[D]at this;exact this)
    clear bi bk D E v ac;rcases dF (i+1) (y e)with j|j;case' inl=>
     have g1:=o _ _ (ez e (i+1) j).1;have br:=Im<|λQ=>hn ⟨j,Q⟩;have e3:(i:Z)+1<(y e:Z):=by omega
    case' inr=>
     have e3:((i:Z)+1<(y e:Z))=False:=by simp;omega
    all_goals
     clear o hn;gi_wp2;refine sj.2 ?_;go_quiet(fail)
     obtain⟨fn,bp,an,body,hy,hR⟩:=bg nq;have bc:=U hR;clear hR;gi_wp2;refine⟨(λQ=>(by cases Q)),bc.mono ?_⟩;rintro cb W3(⟨rfl,_,B3,W,s,V⟩|⟨rfl,hx⟩)
     .have av:=U W;have bf:=U s;have au:=U V;clear W s V;gi_wp2;go_roundw;case rel=>
       have s:=ae bf;have f:=ae P;have bl:b<z (G wr):=ag (ak HB) f.1;refine⟨i+1,i+1,c++[(m,ao)],B3,by go_num,by go_num,ah _,by omega,ba,λk _ T B=>by omega,av,λw F S=>?_,?_⟩
       .rcases au w S with S|S
        .exact l w F S
        .subst F;exact absurd (show z (G wr)<=_ from S)<|by omega
       .refine f.trans<|jz.trans (b:=wr.drewN nq) ⟨ah _,λ_ _=>rfl⟩ ?_;exact s.same (aE bm f.1) (λw F=>⟨by subst F;exact bl,l w F⟩) (λw F a=>by have:=(bb _ _ _ r w F).1;omega)
      case measure=>simp[intOf];omega
     .have HX:=U hx;clear hx;gi_wp2;refine cI (iP rfl _ _ _) rfl ?_;exact⟨⟨_,rfl⟩,.inr ⟨_,HX⟩⟩
  .have o:i=y e:=by omega
   have g:m=y e:=by
    rcases dF m (y e)with S|S
    .obtain⟨h,_⟩:=t (y e-1) (by omega) (by omega) (by omega);omega
    .omega
   have j:=U (show nz 0 (ie e)=c by rw[hl,g,gm];simp[ie,nz]);have e1:((i:Z)<(y e:Z))=False:=by simp;omega
   clear hl t C f n o g;gi_wp2;refine vz (iP rfl _ _ _) rfl ?_;first|refine⟨⟨_,rfl⟩,.inl ⟨⟨x,?_⟩,trivial⟩⟩|refine⟨⟨_,rfl⟩,.inl ⟨x,?_,trivial⟩⟩
   rw[ae j];exact r
end
section
open Go.Shelf
attribute [local go_sem] Oper.semAt_some
section
variable{F:Fence}{n:M}{P:Program}(w:I){b:Array Oper}{rest:cr Oper}{o:Oper}{a:Act}{Q:Exit->Act->I->Prop}
theorem CJ(k:o.guard=none)(h:Operand)(t:TypeId)(c:o.op=Op.range t h)(A v:TypeId)(m:P.underlying t=H (.map A v))(i:M)(p:fI)(l:a.eval h=.map (H i))(x:ju w i p)(j:∀d,qp d i (z<|G w) p p->w.grownBy d none->z (G d)=z (G w)+1->wpListIn F n P b Q rest (a.put o.dst<|aA<|z<|G w) d):wpListIn F n P b Q (o::rest) a w:=by
 refine wP k λu f=>?_;obtain⟨d,e,q,r,s⟩:=Ni m x;unfold Oper.wpIn;refine⟨?_,?_⟩;simp[Oper.about,c];rw[Oper.semAt_plain F _ _ (by rw[c];intro B g;cases g)];simp[execOp,c,l,e,Result.andThen];exact f _ _<|j d q r s
theorem Dk(v:o.guard=none)(l:Operand)(e:o.op=Op.next l bF)(A r:M)(B left:fI)(qL:a.eval l=aA r)(D:qp w A r B left)(h:left=[]->wpListIn F n P b Q rest (a.put o.dst<|dB #[aL bF]) w)(i:∀f p c g,left=f++p::c->qp g A r B (f++c)->w.grownBy g (H r)->z (G g)=z (G w)->(Instr.entry<|aA r).run P g=.ok (dB #[ap p.1,p.2]) g->wpListIn F n P b Q rest (a.put o.dst<|dB #[aL bW,ap p.1,p.2]) g):wpListIn F n P b Q (o::rest) a w:=by
 refine wP v λC j=>?_;unfold Oper.wpIn;refine⟨?_,?_⟩;simp[Oper.about,e];rw[Oper.semAt_plain F _ _ (by rw[e];intro E k;cases k)];rcases Qz (P:=P) D o.type with⟨m,d⟩|⟨f,p,c,g,x,d,q,s,t,u⟩;simp[execOp,e,qL,d,Result.andThen];exact j _ _<|h m;simp[execOp,e,qL,d,Result.andThen];exact j _ _<|i f p c g x q s t u
end
def Wy(v:Z):Array aa:=#[aH v]
def wY(m:fI)(c:eI):Prop:=m.map (·.2)=c.map (Value.int .u64)
theorem Ig(n0 cT s an:M)(ck:fI)(V:eI)(w:I)(hb:dV w s (.map<|H an) 108)(hm:ju w an ck)(bp:wY ck V)(cd:an<n0)(ch:n0<=z (G w)):Yl Wy Az n0 cT 131 #[aA s] (λcB=>∃db,(cB++db).Perm V) (λcB=>cB.Perm V) (λk=>k=s) w:=by
 intro lr cM Jx cE br hs hD hJ bc bh bk hY;have co:aT br (R s 0)=H (.map<|H an):=hs.cell (.inl rfl) hb.cell;have bi:ju br an ck:=hm.de<|hs.2 an<|.inl ⟨cd,id⟩;obtain⟨HB,HM,cc,HS,HJ,bv,HY,ad,al⟩:=xG hb bi bp hs hJ bc hY bh bk;clear hb hm bp hs hJ bc bh bk hY hD bi;refine qS func131 rfl trivial ?_ rfl;simp only[ntmps131,eR,ay,cL,Nat.reduceAdd,Nat.reduceSub,dS,dR,eS,er,cC,cq]
 gi_wp2_with(first
  |(refine CJ _ rfl _ 108 rfl 3 103 underlying108 an _ rfl HM ?_;intro w0 v bd cu;have X:=U v;have p:=U bd;clear v bd))
 have O:=HS.1;have ce:s<z (G br):=ag (ak HB) O;have S:Y aB br w0:=Y.dN p (by simp);have t:=ad _ _ _ HJ;gi_loopg [] (y ck) (λk wr=>∃(e:eI)(left:fI)(vl:eI)(B:fJ),y left=k/\wY left vl/\(e++vl).Perm V/\qp wr an (z<|G br) ck left/\cM e B wr/\(∀k,k=s->¬B k)/\jz Az n0 (λk=>k=s) w wr/\¬B (z<|G br))
 (case atStart=>refine⟨[],ck,V,cE,rfl,cc,nj _,X,al _ _ _ _ _ HJ S cG,bv,HS.trans<|S.same (aE ch O) (λk c=>⟨by subst c;exact ce,id⟩) cG,λN=>by have:=(t _ N).2;omega⟩);(case round=>obtain⟨e,left,vl,B,bg,d,j,bf,bb,u,f,au⟩:=hrel;have cp:aT wr (R s 0)=H (.map<|H an):=f.cell (.inl rfl) HB.cell;obtain⟨K,E,ac,D⟩:=gx d j bf bb;have r:=U u;obtain⟨bx,C,bt⟩:=dC f au bg;clear d j bf bb u f au bg X p S t;(gi_wp2_with(first|(refine Dk _ rfl _ rfl an (z<|G br) _ _ rfl ac ?_ ?_)));(.intro g;subst g;(have i:vl=[]:=by have:=ae K;unfold wY at this;simpa using this.symm);subst i;gi_wp2;refine vz (iP rfl _ _ _) rfl ?_;exact⟨⟨_,rfl⟩,.inl ⟨e,B,by simpa using ae E,D,trivial⟩⟩);(.intro m pk pv l w1 hl x A bl cl;subst hl;have d:=ae K;unfold wY at d;rw[aM,aY]at d;obtain⟨va,vd,rfl,bm,bo⟩:=iw.1 d.symm;obtain⟨cn,vc,rfl,hv,bn⟩:=ni.1 bo;simp only at hv;subst hv;have T:Y (λk=>k=z (G br)) wr w1:=Y.dN A (λk c=>by cases c;exact .inl rfl);obtain⟨ca,i,cb⟩:=dC T x (show wY (m++l) (va++vc)from by unfold wY;rw[aM,aM,bm,bn]);have q:=U<|show((e++[cn])++(va++vc)).Perm V from List.Perm.trans (by rw[aU];exact lz _<|show(cn::(va++vc)).Perm _ from kV.symm) E;have ax:=al _ _ _ _ _ D T (λk c=>by subst c;exact⟨C,.inr<|.inr O⟩);have L:=U<|HY e cn B w1 ⟨va++vc,q⟩ ax trivial;clear T x A d bm bo bn ax K E ac;unfold Wy at L;obtain⟨fn,cm,bq,body,hy,hR⟩:=ae L;have bu:=U hR;clear hR L;gi_wp2;refine⟨(λN=>(by cases N)),bu.mono ?_⟩;rintro dc W3(⟨rfl,_,B3,ba,g,ao⟩|⟨rfl,hx⟩);(.have bs:=U ba;have bT:=U g;have W:=U ao;clear ba g ao;gi_wp2;(gi_roundg (y<|m++l));(case measure=>have:=ae bt;simp at this|-;omega);(case rel=>have g:=ae bT;have f:=ae bx;have cx:z (G wr)=z (G w1):=bl.symm;have cj:=i.lt;have cs:=i.ne;have av:∀k,B k->n0<=k:=λk c=>(ad _ _ _ D k c).1;have cv:=f.1;refine⟨e++[cn],m++l,va++vc,B3,rfl,cb,q,i.kept (g.block an (by omega) (λN=>by have:=av _ N;omega))<|g.block _ cj C,bs,λk c N=>?_,?_,λN=>?_⟩;rcases W k N with N|N;exact r k c N;subst c;omega;refine(f.trans<|ca.same (by omega) (λk c=>⟨by omega,by omega⟩)<|λk c d=>by omega).trans<|g.same (by omega) (λk c=>⟨by omega,r k c⟩) (λk c d=>by have:=av k c;omega);rcases W _ N with N|N;exact C N;omega));have W:=U hx;clear hx;gi_wp2;refine cI (iP rfl _ _ _) rfl ?_;exact⟨⟨_,rfl⟩,.inr ⟨_,W⟩⟩))
end
def PP(e:T->Array aa)(V:jj)(h o j:M)(l:Array aa)(n:cr T)(S:fJ)(w:I):Prop:=∀(g:M)(d:cr T->fJ->I->Prop)(f:cr T->I->Prop)(B:fJ)(W:I),jz V h S w W->V.D W->d [] B W->(∀k,S k->¬B k)->(∀a B W,d a B W->∀k,B k->h<=k/\k<z (G W))->(∀a B W b m,d a B W->Y m W b->(∀k,m k->¬B k/\(V.F k\/z (G w)<=k))->d a B b)->(∀a x B W,(a++[x])<+:n->d a B W->V.D W->YieldAt Fence.wide (o-1) bG g (e x) W λi b=>
 (i=aO (aL bW)/\V.D b/\∃c,d (a++[x]) c b/\Y B W b/\(∀k,c k->B k\/z (G W)<=k))\/(i=aO (aL bF)/\f (a++[x]) b))->
 CallsIn Fence.wide o bG j (#[.func (.yield g) #[] #[]]++l) W λi b=>(∃v,i=aO v)/\((∃c,d n c b/\V.D b)\/(∃a,f a b))
def PP.q{α:Type}{d:α->Array aa}{l:cr α}(x:PP d r b c g V l X a):PO d r b c g V (·<+:l) (·=l) X (λu=>r.F u\/z (G a)<=u) a:=by
 intro t v j B W k m n o p q s;apply(x t v j B W k m n o p q s).mono;rintro A w⟨f,⟨h,e⟩|e⟩;exact⟨f,.inl ⟨l,h,rfl,e⟩⟩;exact⟨f,.inr e⟩
def BS{c:T->Array aa}{m:M}{C:Operand}{t:Array Tmp}{b body:Code}{Q:Exit->Act->I->Prop}{a:Act}{V:jj}{n0 gf:M}{lb:Array aa}{l:cr T}{S:fJ}(A:a.eval C=.func (.func gf) #[] lb)(v:Enters bG gf)(p:∀F,(c F).size=t.size)(qL:PP c V n0 (m-1) gf lb l S f)(x:V.D f)(o:n0<=z (G f))(h:∀s,S s->s<z (G f))(u:cr T->fJ->I->Prop)(r:Code->cr T->fJ->I->Prop)(B:fJ):OR c m C t b body Q a f V n0 (·<+:l) S (λs=>V.F s\/z (G f)<=s) u r B (∀(D:M)(B:fJ)(W:I),z (G f)<=D->u l B W->¬B D->V.D W->W.heap[D]?=H (.deferred<|H [])->Q .normal {a with defers:={target:=.collected D,args:=#[]}::a.defers} W):=λw j n q i d e g=>wV (λ_ E=>.inr E) A v p qL.q x o h u r B w j n q i d (λ_ D B W k=>k▸e D B W) g
