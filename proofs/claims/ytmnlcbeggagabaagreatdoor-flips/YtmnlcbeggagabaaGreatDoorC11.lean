import Derived.Test.YtmnlcbeggagabaaGreatDoorC9
open _root_ renaming List.length→y,Option.some→H,Array.size→z,Go.World.heap→G,Go.Value.ownBlock→cz,Go.World.cell?→aS,Go.World.setCell→cA,Go.World.alloc→cG,Bool.false→bj,Bool.true→ci,Nat→M,Int→U,List→cS,Go.Calls→cD,Go.Proofs.Tryz.prog→aZ,Go.Value.slice→J,Go.Value.string→am,Go.Value.bool→aK,Go.Value.pointer→dF,Go.Value.tuple→dd
namespace Go.Proofs.YtmnlcbeggagabaaGreatDoor
open ChangeShapes WideShapes RowKit Proofs.Tryz List
set_option maxHeartbeats 16000000
set_option linter.all false
set_option maxRecDepth 100000
variable{a f B:Z}{b c g:M}{d u:ab}{e:cI}{X:eT}{t:iL}{A:iF}
def OX(V:iL)(w c:Z)(d:Option E)(e:Ending):Prop:=∃(a:E)(ok:Bool)(b:ab),e=aJ (dd #[a.value,aK ok,b])/\(dd #[a.value,aK ok,b]=Ek d\/V.Xp/\a=zE/\ok=bj/\∃q,b=ot q/\vL c q)/\V.D c/\I V.F w c
def VA(t:TypeId)(a b:ae):binOp .gtr t (am a) (am b)=pure (aK !(Op.bytesLess a.toList b.toList||a.toList==b.toList)):=by simp[binOp,Op.stringOp]
def OI(a b:ae):(!(Op.bytesLess a.toList b.toList||a.toList==b.toList))=iX b a:=by
 show(!(iX a b||a.toList==b.toList))=iX b a;grind[lj,IP,fN,nR]
def BI{n0 tbqq:M}{ks:ml}{cs:dJ}(e:ae)(V:U)(h:mV t n0 tbqq ks cs a)(hD:t.D a)(u:n0<=z (G a))(hF:∀v,t.F v->v<n0):cD aZ 301 #[aA tbqq,am e,aE V] a λbb w'=>OX t a w' (ir V cs.flatten e) bb:=by
 obtain⟨v,n⟩:=Pr h.zZ e;have p:Below (z<|G a) a (cG a<|ay #[am ⟨#[]⟩,am ⟨#[]⟩,aK bj,aE 0] 170):=(Below.refl _ a).alloc (ai _) _;obtain⟨dv,bc,cut,bk,bt,bm,T,K,bn,X,bs,bo⟩:=h.mem;have r:=X.lt;have f:=h.len;have br:=X.small;have ao:cD aZ 305 #[aA tbqq,am e] (cG a<|ay #[am ⟨#[]⟩,am ⟨#[]⟩,aK bj,aE 0] 170) λbb w'=>bb=aJ (aq v)/\Below (z<|G a) a w'/\iG w' (z<|G a) zE:=by apply(zJ e (X.below p r.1 r.2) h.zZ).mono;rintro bb w'⟨l,rfl,s,w,x,j⟩;obtain rfl:v=l:=n.eq ⟨s,w,x⟩;exact⟨rfl,p.trans<|j.mono p.size,(j.block _<|by simp).trans<|aH _ rfl⟩
 have k:∀av,Below (z<|G a) a av->aS av (R tbqq 5)=H (aY bm T (y ks) K):=λav L=>by rw[bV (X.below L r.1 r.2).box];rfl
 have aa:=Y k;have Q:∀ax,n0<=ax->¬t.F ax:=λax hx a=>by have:=hF ax a;omega
 have F:=Y Q;have ad:=Y<|λav(L:Below (z<|G a) a av)=>t.eQ hD (I.aQ (S:=az) L) cC;have bp:=VA;by_cases P:v<y ks
 .have B:∀av,Below (z<|G a) a av->aS av (R bm<|T+v*5+3)=H (am ks[v].first):=λav L=>by rw[bF];exact(X.below L r.1 r.2).cells _ _<|iw ks v 3 P<|by decide
  have aF:=Y B;have e1:((v:U)==(y ks:U))=bj:=by simp;omega
  have e2:(v:U)<(y ks:U):=by omega
  have e3:(0:U)<=(v:U):=by omega
  have aU:=OI ks[v].first e;cases hfk:iX e ks[v].first with
  |true=>
   rw[hfk]at aU;have d:=h.xS n (λ_=>hfk) V;rw[d];have HL:=Y f;clear h X n hD hF Q p k B f d hfk;generalize ks[v].first=fk at*;go_in
   go_wp2_with(go_at_call 305;refine ao.mono ?_;rintro bb m⟨rfl,c,b⟩;have k:=aa m c;have B:=aF m c;obtain⟨z0,z1,z2,z3⟩:=b.cells;have y0:=b.free (i:=0);have y1:=b.free (i:=1);have y2:=b.free (i:=2);have y3:=b.free (i:=3);have o:=Y b;have g:=Y c;clear b c)
   refine cg (fp rfl _ _ (z<|G a) zE _ _ rfl<|o.put zE) rfl ?_;have A:Below (z<|G a) a (uB m (z<|G a) zE):=g.trans ((iD m (z<|G a) zE).below g.size<|λax hx=>by omega);exact⟨zE,bj,.nilIface,rfl,.inl rfl,ad _ A,I.aQ A⟩
  |false=>
   rw[hfk]at aU;have O:v<y cs:=by omega
   rw[h.Bn n O V];have aV:dK cs[v]:=h.mh.sub<|cV<|ak O;have bq:=h.small _<|ak O;obtain⟨bf,bg,HL⟩:=dz (λav(L:Below (z<|G a) a av)=>JU (h.same<|(I.aQ (S:=az) L).same u cC cC) (ad av L) (aB u L.size) hF v P O) aV f;clear h X n hD hF Q p k B f hfk aV;generalize ks[v].first=fk at*;generalize cs[v]=bl at*;have W:=(λv(w2 m:Z)(a:w2.ownsRow (z<|G m) 170 4 v (y bl) (aI bl))=>zW e V (dE a) bg (by omega)<|λc b=>(a.lt c b).2);have w:=Y W;clear W;go_in
   go_wp2_with(go_at_call 305;refine ao.mono ?_;rintro bb m⟨rfl,c,b⟩;have k:=aa m c;have B:=aF m c;have bi:=bf m c;have o:=Y b;have g:=Y c;clear b c)
   refine bi.mono ?_;rintro bb w2(⟨v2,rfl,C,x,l⟩|⟨hX,q,rfl,hq,x,l⟩)
   .have N:=w v2 w2 m C;obtain⟨D,ac,al⟩:=dz (o.ap l<|F _ u) x l;clear C x l w;obtain⟨au,ok,hy⟩:∃(au:E)(ok:Bool),Ek (ir V bl e)=dd #[au.value,aK ok,.nilIface]:=by
     cases ir V bl e with
     |none=>exact⟨zE,bj,rfl⟩
     |some ax=>exact⟨ax,ci,rfl⟩
    rw[hy]at N;have HY:=Y hy;clear hy;obtain⟨xk,xv,xd,xb⟩:=au;unfold E.value at N;simp only at N;go_wp2_with(go_at_call 295;refine N.mono ?_;rintro bb w3⟨rfl,an⟩;have j:=D.ap (I.aQ (S:=az) an)<|λbl=>bl;obtain⟨z0,z1,z2,z3⟩:=j.cells;have y0:=j.free (i:=0);have y1:=j.free (i:=1);have y2:=j.free (i:=2);have y3:=j.free (i:=3);have bd:=Y j;have aD:=Y an;clear j an)
    refine cg (fp rfl _ _ (z<|G a) ⟨xk,xv,xd,xb⟩ _ _ rfl<|bd.put ⟨xk,xv,xd,xb⟩) rfl ?_;have ba:I t.F a w3:=((I.aQ (S:=t.F) g).trans al<|λv n=>.inl n).trans (I.aQ (S:=t.F) aD)<|λv n=>.inl n;have s:=iD w3 (z<|G a) ⟨xk,xv,xd,xb⟩;have bh:=t.eQ ac (I.aQ (S:=az) aD) cC;exact⟨⟨xk,xv,xd,xb⟩,ok,.nilIface,rfl,.inl HY.symm,t.eQ bh s (λax hx=>by subst hx;exact F _ u),ba.trans s<|λax hx=>.inr<|by omega⟩
   .have j:=o.ap l<|F _ u;obtain⟨z0,z1,z2,z3⟩:=j.cells;have y0:=j.free (i:=0);have y1:=j.free (i:=1);have y2:=j.free (i:=2);have y3:=j.free (i:=3);obtain⟨D,ac,al,N⟩:=fX j x l hq;clear j x l hq w;go_wp2;refine cg (fp rfl _ _ (z<|G a) zE _ _ rfl<|D.put zE) rfl ?_;have s:=iD w2 (z<|G a) zE;exact⟨zE,bj,ot q,rfl,.inr ⟨hX,rfl,rfl,q,rfl,N.ap s D.sep⟩,t.eQ ac s (λax hx=>by subst hx;exact F _ u),((I.aQ (S:=t.F) g).trans al<|λv n=>.inl n).trans s<|λax hx=>.inr<|by omega⟩
 (have j:v=y ks:=by have:=n.le;omega);have d:=h.xS n (λa=>absurd a P) V;rw[d];(have e1:((v:U)==(y ks:U))=ci:=by simp;omega);subst j;have HL:=Y f;clear h X n hD hF Q p k f d P;(go_in);(go_wp2_with(go_at_call 305;refine ao.mono ?_;rintro bb m⟨rfl,c,b⟩;have k:=aa m c;obtain⟨z0,z1,z2,z3⟩:=b.cells;have y0:=b.free (i:=0);have y1:=b.free (i:=1);have y2:=b.free (i:=2);have y3:=b.free (i:=3);have o:=Y b;have g:=Y c;clear b c));refine cg (fp rfl _ _ (z<|G a) zE _ _ rfl<|o.put zE) rfl ?_;have A:Below (z<|G a) a (uB m (z<|G a) zE):=g.trans ((iD m (z<|G a) zE).below g.size<|λax hx=>by omega);exact⟨zE,bj,.nilIface,rfl,.inl rfl,ad _ A,I.aQ A⟩
def Am:iL:=⟨λ_=>True,λ_=>False,λ_ _ _=>trivial,λ_ h=>h.elim,False⟩
section
open Shelf
attribute [local go_sem] Oper.semAt_some
def yL(v:ab)(n c:M):ab:=match v with
 | .slice (H ⟨d,a,none⟩) _ b=>.slice (H ⟨d,a+n*4,none⟩) c<|b-n
 |v=>v
def Fo(v:ab)(p:M×cI):Array ab:=#[yL v p.1<|y p.2]
def An{o p g s:cI}(r:jU a d o)(f:o=p++g++s)(i:g≠[]):jU a (yL d (y p)<|y g) g:=by
 have k:0<y g:=gB.2 i;obtain⟨u,⟨rfl,t⟩|⟨q,b,c,rfl,n,h⟩⟩:=r;have:=bQ y f;grind;have m:=bQ y f;simp at m;refine⟨by rw[fH],.inr ⟨q,b+y p*4,c-y p,rfl,by omega,λj v l=>?_⟩⟩;have e:j<y g*4:=by rw[<-fH];grind
 have:=h (y p*4+j) v (by rw[f,fI,fI,bz,eV (by rw[fH];omega),fH,show y p*4+j-y p*4=j by omega,gP (by rw[fH];exact e)];exact l);rw[bF];exact this
def Ab(v:ab)(x:Option Addr)(n c:M)(a:v=J x n c)(w:Z):cD aZ 159 #[v] w λe b=>e=aJ (.func (.func 211) #[] #[dF<|H ⟨z<|G w,0,none⟩])/\b=cG w (ay #[v] 88):=by
 subst a;go_in
 go_wp2;go_ret;simp_all
def QE(r:b<=c)(s:c<y e)(A:∀j(u:j+1<y e),b<=j->j<c->e[j+1].key=e[j].key)(w:∀B:c+1<y e,e[c+1].key≠e[c].key):∃i,e.drop b=i++e.drop (c+1)/\i≠[]/\y i=c+1-b/\ic (e.drop b)=i::ic (e.drop<|c+1):=by
 have p:e.drop b=(e.drop b).take (c+1-b)++e.drop (c+1):=by(conv=>lhs;rw[<-bX (c+1-b) (e.drop b)]);rw[List.drop_drop,show b+(c+1-b)=c+1 by omega]
 have v:∀t(d:t<=c)(a:b<=t),(e[t]'(by omega)).key=(e[b]'(by omega)).key:=by
  intro t;induction t with
  |zero=>grind
  |succ t g=>
   grind
 have d:y ((e.drop b).take<|c+1-b)=c+1-b:=by simp;omega
 have f:(e.drop b).take (c+1-b)≠[]:=λa=>by rw[a]at d;grind
 have a:∀x∈(e.drop b).take (c+1-b),x.key=(e[b]'(by omega)).key:=by grind[getElem_of_mem]
 refine⟨_,p,f,d,?_⟩;conv=>lhs;rw[p]
 rw[KM _ _ ?_,Tx f<|λx n h o=>(a x n).trans (a h o).symm];rfl;intro q k t m;have l:=a q<|List.mem_of_getLast? k;(have g:c+1<y e:=by grind);rw[bD g]at m;grind
def vr(n0 bs:M)(hb:eG a b d 88)(hr:jU a d e)(u:∀w,cz d=H w->w<n0)(bf:n0<=z (G a))(bq:y e<=1000000000):GJ (Fo d) Am n0 bs 211 #[dF<|H ⟨b,0,none⟩] (nz 0<|ic e) (λw=>w=b) a:=by
 intro lr br Jx bk bg hs hD hJ W o ac hY;obtain⟨bt,Q,hv⟩:=bN hr;obtain⟨HB,HR,av,HS,HJ,aU,HY,aD,O⟩:=wY hb hr u hs hJ W hY o<|λc bk bg q(h:br c bk bg)=>ac c bk bg (bg.drewN q) (λ_=>False) h (I.aQ<|below_drewN (Below.refl _ bg) q) cC;have bm:aS bg ⟨b,0,none⟩=H d:=hs.cell (.inl rfl) hb.cell;clear hb hr u hs hJ W o ac hY hD;subst hv;refine tN func211 rfl trivial ?_ rfl;simp only[ntmps211,ga,aW,eD,Nat.reduceAdd,Nat.reduceSub,eX,eW,gd,fq,de,dl];gi_wp2;gi_loopw [3,7] (λf d wr=>∃(l i:M)(c:cS (M×cI))(x:eT),f=aq l/\d=aq i/\l<=i/\i<=y e/\nz 0 (ic e)=c++nz l (ic<|e.drop l)/\(∀j(F:j<y e),l<=j->j<i->∃h:j+1<y e,e[j+1].key=e[j].key)/\br c x wr/\(∀w,w=b->¬x w)/\kw Am n0 (λw=>w=b) a wr) (λ_ d _=>y e-(intOf d).toNat)
 case atStart=>exact⟨0,0,[],bk,rfl,rfl,ai _,bG _,rfl,λj _ _ h=>by omega,HJ,aU,HS⟩
 case round=>
  obtain⟨l,i,c,x,rfl,rfl,bb,bo,hl,t,C,m,f⟩:=hrel;have bn:aS wr ⟨b,0,none⟩=H (J bt (y e) Q):=f.cell (.inl rfl) HB.cell;obtain⟨HL,L,r,P⟩:=fX hl t C f;have k:=Y m;by_cases o:i<y e
  .obtain⟨bh,g,A,hx,aa,n⟩:∃bh g A,J bt (y e) Q=J (H ⟨bh,g,none⟩) (y e) A/\y e<=A/\∀j u,(aI e)[j]?=H u->aS wr ⟨bh,g+j,none⟩=H u:=by
    obtain⟨S,⟨B,E⟩|⟨an,v,s,B,aa,D⟩⟩:=af HR
    .omega
    .exact⟨an,v,s,B,aa,λj u F=>f.cell (.inr ⟨av an (by rw[B];rfl),id⟩)<|D j u F⟩
   cases hx;have e1:(i:U)<(y e:U):=by omega
   have e2:(0:U)<=(i:U):=by omega
   have g0:=n _ _ (eh e i o).1;clear hl t C f m;by_cases hn:∃h:i+1<y e,e[i+1].key=e[i].key
   .obtain⟨p,s⟩:=hn;have g1:=n _ _ (eh e (i+1) p).1;rw[s]at g1;have v:=Y (show∀j(F:j<y e),l<=j->j<i+1->∃h:j+1<y e,e[j+1].key=e[j].key fromλj F S B=>by
     rcases mq (show j<=i by omega)with ad|ad
     .exact L j F S ad
     grind)
    clear n s;generalize e[i].key=D at*;have e3:(i:U)+1<(y e:U):=by omega
    have e4:(0:U)<=(i:U)+1:=by omega
    gi_wp2;refine rX.2 ?_;go_quiet(fail)
    gi_wp2;go_roundw;case rel=>exact⟨l,i+1,c,x,rfl,by go_num,by omega,by omega,HL,v,O _ _ _ _ r,k,P.trans ⟨ai _,λ_ _=>rfl⟩⟩
    case measure=>simp[intOf];omega
   .obtain⟨an,bc,bd,D,E⟩:=QE bb o (λj F S B=>(L j (by omega) S B).2)<|λh Q=>hn ⟨h,Q⟩;have v:(c++[(l,an)])<+:nz 0 (ic e):=⟨nz (l+y an)<|ic<|e.drop<|i+1,by rw[af HL,E,nz];simp⟩;have X:nz 0 (ic e)=(c++[(l,an)])++nz (i+1) (ic<|e.drop<|i+1):=by rw[af HL,E,nz,D,show l+(i+1-l)=i+1 by omega];simp
    have N:=Y v;have ax:=Y X;have e6:(l:U)<=(i:U)+1:=by omega
    have e7:(i:U)+1<=(Q:U):=by omega
    have e8:¬(Q-l=0):=by omega
    have e9:(0:U)<=(l:U):=by omega
    have e4:(0:U)<=(i:U)+1:=by omega
    have ba:=Y (λq=>show YieldAt Fence.wide (bs-1) aZ lr #[J (H ⟨bh,g+l*4,none⟩) (i+1-l)<|Q-l] (wr.drewN q) _ from by
     have:=HY c (l,an) x (wr.drewN q) N (O _ _ _ q r) trivial;unfold Fo yL at this;simp only[D]at this;exact this)
    clear bc bd D E v X;rcases gA (i+1) (y e)with p|p;case' inl=>
     have g1:=n _ _ (eh e (i+1) p).1;have bl:=GY<|λQ=>hn ⟨p,Q⟩;have e3:(i:U)+1<(y e:U):=by omega
    case' inr=>
     have e3:((i:U)+1<(y e:U))=False:=by simp;omega
    all_goals
     clear n hn;gi_wp2;refine rX.2 ?_;go_quiet(fail)
     obtain⟨fn,bi,al,body,hy,hR⟩:=ba nq;have aF:=Y hR;clear hR;gi_wp2;refine⟨(λQ=>(by cases Q)),aF.mono ?_⟩;rintro bu W3(⟨rfl,_,B3,V,s,T⟩|⟨rfl,hx⟩)
     .have au:=Y V;have aV:=Y s;have ao:=Y T;clear V s T;gi_wp2;go_roundw;case rel=>
       have s:=af aV;have f:=af P;have bp:b<z (G wr):=ah (ar HB) f.1;refine⟨i+1,i+1,c++[(l,an)],B3,by go_num,by go_num,ai _,by omega,ax,λj _ S B=>by omega,au,λw K ad=>?_,?_⟩
       .rcases ao w ad with ad|ad
        .exact k w K ad
        .subst K;exact absurd (show z (G wr)<=_ from ad)<|by omega
       .refine f.trans<|kw.trans (b:=wr.drewN nq) ⟨ai _,λ_ _=>rfl⟩ ?_;exact s.same (aB bf f.1) (λw K=>⟨by simp_all,k w K⟩) (λw K a=>by have:=(aD _ _ _ r w K).1;omega)
      case measure=>simp[intOf];omega
     .have HX:=Y hx;clear hx;gi_wp2;refine cg (ja rfl _ _ _) rfl ?_;exact⟨⟨_,rfl⟩,.inr ⟨_,HX⟩⟩
  .have p:i=y e:=by omega
   have g:l=y e:=by
    rcases gA l (y e)with ad|ad
    .obtain⟨h,_⟩:=t (y e-1) (by omega) (by omega) (by omega);omega
    .omega
   have n:=Y (show nz 0 (ic e)=c by rw[hl,g,fZ];simp[ic,nz]);have e1:((i:U)<(y e:U))=False:=by simp;omega
   clear hl t C f m p g;gi_wp2;refine zl (ja rfl _ _ _) rfl ?_;first|refine⟨⟨_,rfl⟩,.inl ⟨⟨x,?_⟩,trivial⟩⟩|refine⟨⟨_,rfl⟩,.inl ⟨x,?_,trivial⟩⟩
   rw[af n];exact r
end
section
open Shelf
attribute [local go_sem] Oper.semAt_some
def QM(v:Array ab)(e:dN)(p:U->Bool)(A:Enters aZ b)(t:Row a 1 d (y e) (e.map<|Value.int .u64))(C:∀D,cz d=H D->D<z (G a))(hn:y e<=1000000000)(B:∀E∈e,∀W,Below (z<|G a) a W->cD aZ b (#[aE E]++v) W λw N=>w=aJ (aK<|p E)/\Below (z<|G W) W N):cD aZ 212 #[d,.func (.func b) #[] v] a λw w'=>(∃D:U,w=aJ (aq D)/\decide (0<=D)=e.any p)/\Below (z<|G a) a w':=by
 have eg:∀c a,(callFunc b c).run aZ a=.ok (.enter b c) a:=A;obtain⟨aa,ac,s⟩:=bN t;obtain⟨K,L,F⟩:=dz t C B;clear A t C B;subst s;go_in
 go_wp2;go_loopw [8] (λi wr=>∃n:M,n<=y e/\i=aq n/\Below (z<|G a) a wr/\(e.take n).any p=bj) (λi _=>y e-(intOf i).toNat)
 case atStart=>exact⟨0,bG _,rfl,Below.refl _ _,rfl⟩
 case round=>
  obtain⟨n,X,rfl,f,k⟩:=hrel;have HB:=Y f;by_cases j:n<y e
  .obtain⟨O,g,hx,T⟩:∃O g,aa=H (R O g)/\aS wr (R O<|g+n)=H (aE e[n]):=by
    obtain⟨h1,⟨x,h0⟩|⟨Q,l,u,x,V,S⟩⟩:=af K
    .omega
    .cases x;exact⟨Q,l,rfl,(f.cell (p:=(R Q<|l+n))<|L Q rfl).trans<|S n _<|by simp[j]⟩
   subst hx;have c:=F e[n] (ak j) wr f;have P:(n:U)<(y e:U):=by omega
   have e2:(0:U)<=(n:U):=by omega
   have o:(e.take<|n+1).any p=p e[n]:=by rw[aj j,List.any_append,k];simp
   have r:=Y o;have q:=Y<|ak j;clear f k o;generalize e[n]=E at*;cases hp:p E with
   |true=>
    rw[hp]at c;have l:=Y<|show e.any p=ci from nM.2 ⟨E,q,hp⟩;clear hp;go_wp2_with(go_at_fn b;refine c.mono ?_;rintro w w1⟨rfl,i⟩;have m:=Y i;clear i)
    go_ret;exact⟨⟨n,rfl,by rw[af l];simp⟩,HB.trans<|m.mono HB.size⟩
   |false=>
    rw[hp]at c;have l:=Y<|r.trans hp;clear hp;go_wp2_with(go_at_fn b;refine c.mono ?_;rintro w w1⟨rfl,i⟩;have m:=Y i;clear i)
    go_roundw;case rel=>exact⟨n+1,j,by go_num,HB.trans<|m.mono HB.size,l⟩
    case measure=>simp[intOf];omega
  .have c:n=y e:=by omega
   have g:=Y (show e.any p=bj by rw[<-k,c,bL]);have P:((n:U)<(y e:U))=False:=by simp;omega
   clear f k c;go_wp2;go_ret;exact⟨⟨-1,rfl,by rw[af g];simp⟩,HB⟩
def IG(e:Array ab)(c:dN)(s:U->Bool)(j:Enters aZ b)(g:Row a 1 d (y c) (c.map<|Value.int .u64))(m:∀r,cz d=H r->r<z (G a))(q:y c<=1000000000)(k:∀u∈c,∀W,Below (z<|G a) a W->cD aZ b (#[aE u]++e) W λn p=>n=aJ (aK<|s u)/\Below (z<|G W) W p):cD aZ 161 #[d,.func (.func b) #[] e] a λn t=>n=aJ (aK<|c.any s)/\Below (z<|G a) a t:=by
 have h:=QM e c s j g m q k;obtain⟨x,w,f⟩:=bN g;clear j g m k;subst f;go_in
 go_wp2_with(go_at_call 212;refine h.mono ?_;rintro n v⟨⟨r,rfl,l⟩,i⟩;have o:=Y l;have HB:=Y i;clear l i)
 go_ret;rw[<-af o];exact⟨rfl,HB⟩
def Kh(i:M)(r:U)(O:i<y e)(N:0<i)(P:y e<=1000000000)(n:iG a b e[i])(o:eG a c d 88)(w:jU a d e)(l:eG a g (aq i) 3):cD aZ 160 #[aE r,aA b,aA c,aA g] a λD A=>D=aJ (aK<|decide (e[i].bJ<=r)&&decide (r<(e[i-1]'(by omega)).bJ))/\A=a:=by
 obtain⟨_,_,_,Q⟩:=n.cells;have c1:=o.cell;have c2:=l.cell;obtain⟨p,x⟩:∃p,i=p+1:=⟨i-1,by omega⟩;subst x;obtain⟨v,⟨rfl,u⟩|⟨C,f,s,rfl,j,m⟩⟩:=w;omega;have k:p<y e:=by omega
 have L:aS a (R C<|f+p*4+3)=H (aE e[p].bJ):=by rw[bF];exact m _ _ (eh e p k).2.2.2
 have E:(0:U)<=(p:U):=by omega
 have F:(p:U)<(y e:U):=by omega
 have K:IntKind.i64.wrap (p:U)=(p:U):=by rw[bS];omega
 have t:wrap64 (p:U)=(p:U):=by unfold wrap64;omega
 simp only[Nat.add_sub_cancel];generalize e[p].bJ=S at*;generalize e[p+1].bJ=B at*;clear n o l m v j;by_cases q:B<=r;(.simp only[q,qR,Bool.true_and];(go_in);go_wp2;go_ret;simp_all);simp only[q,zk,wi];(go_in);go_wp2;go_ret;simp_all
structure rm(W0:Z)(S:eT)(bl:M)(lst:cI)(B:eT)(W:Z):Prop where
 row:∃v,eG W bl v 88/\W.ownsRow (z<|G W0) 170 4 v (y lst) (aI lst)/\∀k,B k↔k=bl\/cz v=H k
 ap:I (λk=>k=bl\/S k) W0 W
def rm.lt{S i:eT}(l:rm a S c e i B){n0:M}(n:n0<=c)(o:n0<=z (G a)):∀k,i k->n0<=k/\k<z (G B):=by
 intro k h;obtain⟨v,m,d,g⟩:=l.row;rcases(g k).1 h with j|j;grind
 have:=d.lt k j;grind
def rm.stays{j T:eT}(n:rm a X b e j f)(h:I T f B)(d:∀k,T k->¬j k/\(X k\/z (G a)<=k)):rm a X b e j B:=by
 obtain⟨v,i,m,c⟩:=n.row;exact⟨⟨v,(h.block _ (ar i)<|λl=>(d _ l).1<|(c _).2<|.inl rfl).trans i,h.own m<|λk g l=>(d k l).1<|(c k).2<|.inr g,c⟩,n.ap.trans h<|λk g=>(d k g).2.imp_left .inr⟩
def rm.more{e:Z}{s:eT}{c xs:cI}(K:rm a X b c s f)(o:b<z (G a))(E:eG f b d 88)(C:I az f B)(A:eC B e d u)(h:e.ownsRow (z<|G a) 170 4 u (y c+y xs) (aI c++aI xs)):∃t,rm a X b (c++xs) t (cA e (R b 0) u)/\I s f (cA e (R b 0) u)/\(∀k,t k->s k\/z (G f)<=k):=by
 obtain⟨l,n,D,v⟩:=K.row;obtain rfl:l=d:=by have F:=n.symm.trans E;simpa using F
 have w:I (λk=>cz l=H k) f e:=(C.mono cC).trans (I.dW (S:=λk=>cz l=H k) A.grown<|λk g=>.inl g)<|λk g=>.inl g;have q:∀k,k<z (G a)->¬cz l=H k:=λk g m=>by have:=(D.lt k m).1;omega
 have r:eG e b l 88:=(w.block _ (ar n)<|q _ o).trans n;have j:I s f (cA e (R b 0) u):=(w.mono (T:=s)<|λk g=>.inl<|(v k).2<|.inr g).setCell _ _ _<|.inl<|(v _).2<|.inl rfl;refine⟨λk=>k=b\/cz u=H k,⟨⟨u,r.set _,?_,λk=>qH⟩,?_⟩,j,?_⟩;rw[ag,fI];exact h.kept (du e _ _ _) (by right;intro m;have:=(h.lt _ m).1;omega);refine K.ap.trans j<|λk g=>?_;grind
 rintro k(m|m);(grind);rcases A.uj with F|⟨N,F,L⟩;(grind);rw[F]at m;cases m;have:=C.size;grind
end
section
open Shelf
attribute [local go_sem] Oper.semAt_some
def fM{c base' l e n:M}(r:a.ownsRow c l e d n A)(k:base'<=c):a.ownsRow base' l e d n A:=by
 obtain⟨j,h⟩:=r;refine⟨j,?_⟩;rcases h with h|⟨q,g,i,m,b,o,p⟩;exact .inl h;exact .inr ⟨q,g,i,m,aB k b,o,p⟩
def Ki(a:dN)(l:cI):y (dG a l)<=y l:=(jh a l).length_le
def jU.ap{S:eT}{w w':Z}(h:jU w d e)(a:I S w w')(c:∀k,cz d=H k->¬S k/\k<z (G w)):jU w' d e:=a.row h c
def jU.some(h:jU a d e)(l:0<y e):∃g b c,d=aY g b (y e) c/\y e<=c:=by
 obtain⟨j,⟨rfl,i⟩|⟨g,b,c,rfl,f,k⟩⟩:=h;omega;grind
def yT(c:dN)(h:jU a d e)(hs:dK e)(hl:y e<=1000000)(hm:Row a 1 u (y c) (c.map<|Value.int .u64))(fk:y c<=1000)(hv:∀k,cz d=H k->k<z (G a))(cj:∀k,cz u=H k->k<z (G a)):cD aZ 103 #[d,u] a λcw w'=>∃v',cw=aJ v'/\w'.ownsRow (z<|G a) 170 4 v' (y<|dG c e) (aI<|dG c e)/\I az a w':=by
 obtain⟨i0,ce,cp,cs,cu⟩:=cU mP;obtain⟨em,K,co⟩:=bN h;obtain⟨mx,mc,ck⟩:=bN hm;have dx:=Ab d em (y e) K co;obtain⟨HH,HM,HV,ac⟩:=fX h hm hv cj;clear h hm hv cj;subst ck;subst co;refine(dS (n:=3)).1 ?_;refine callsIn_of_wp_marks func103 rfl trivial ?_ rfl;simp only[ntmps103,ga,aW,eD,Nat.reduceAdd,Nat.reduceSub,eX,eW,gd,fq,de,dl];gi_wp2_with(refine⟨trivial,?_⟩;gi_at_call 159;refine(dS.2<|dx _).mono ?_;rintro cw w1⟨rfl,rfl⟩)
 obtain⟨p,F⟩:∃p,(cG (cG (cG a<|ay #[J mx (y c) mc] 206)<|ay #[aw] 88)<|ay #[J em (y e) K] 88)=p:=⟨_,rfl⟩;have fl:z (G p)=z (G a)+3:=by rw[<-F];simp
 have bo:I az a p:=by rw[<-F];exact((cK az a).alloc _).alloc _
 have dn:eG p (z<|G a) (J mx (y c) mc) 206:=by rw[<-F];grind[eG.alloc,aH]
 have ds:eG p (z (G a)+1) aw 88:=by rw[<-F];exact eG.alloc (aH _<|by simp) _
 have dv:eG p (z (G a)+2) (J em (y e) K) 88:=by rw[<-F];exact aH _<|by simp
 have bf:jU p (J em (y e) K) e:=HH.ap bo<|λk b=>⟨id,HV k b⟩;have hA0:rm p (λk=>k=z (G a)+2) (z (G a)+1) (dG c<|ie []) (λk=>k=z (G a)+1) p:=⟨⟨_,ds,cO _ _ _ _,λk=>by simp[cz]⟩,I.refl _ _⟩;rw[F];refine oN (m:=3) (arg:=Fo<|J em (y e) K) (V:=Am) (n0:=z<|G a) (gf:=211) (lb:=#[aA<|z (G a)+2]) (l:=nz 0<|ic e) (S:=λk=>k=z (G a)+2) ?geval (enters_of func211 (by kernel_rfl) rfl) (λ_=>rfl) (vr (z<|G a) 2 dv bf HV (by omega)<|by omega) trivial (by omega) (λk b=>by omega) (λf bs br=>rm p (λk=>k=z (G a)+2) (z (G a)+1) (dG c<|ie f) bs br) (λ_ _ _ _=>False) (λk=>k=z (G a)+1) hA0 (λk b K=>by omega) ?lt ?st (λ_ _ _ _ _ _ h=>h.elim) ?body ?done ?stop;case geval=>rfl
 case lt=>exactλf bs br O=>O.lt (by omega)<|by omega
 (case st=>intro f bs br i T O ht g;refine O.stays ht<|λk b=>⟨(g k b).1,?_⟩;rcases(g k b).2 with K|K|K;exact .inl K;exact K.elim;exact .inr K);(case stop=>grind)
 case body=>
  rintro lr f⟨cx,r⟩bs br fg db ek W O _;obtain⟨hn,fu,b⟩:=Ii hs W;have eA:0<y r:=gB.2 b.ne;have ff:cx+y r+y fu=y e:=by rw[b.all,hn];simp;omega
  obtain⟨cB,E,es,hx,fe⟩:=bf.some (by omega);cases hx;have al:=An bf b.all b.ne;rw[<-hn]at al;unfold Fo;unfold yL at al|-;simp only at al|-;have bT:∀k,bs k->k<z (G br):=λk b=>(O.lt (n0:=z<|G a) (by omega) (by omega) k b).2;obtain⟨HA,HK,HP,HN⟩:=fX O b W hn;clear O W b hn;gi_wp2;refine⟨(cK _ _),λW2 cm=>?_⟩;have bn:I (λk=>k=lr) br W2:=(cK (λk=>k=lr) br).trans cm<|λk b=>.inl b;have hA2:=HA.stays bn (λk b=>by grind);have bi:eG W2 (z<|G br) (aY cB (E+cx*4) (y r)<|K-cx) 88:=(cm.block _ (by simp)<|by omega).trans<|aH _ rfl;have ei:=bi.cell;have et:=bn.size;have dm:z (G br)<z (G W2):=ar bi;have ev:cB<z (G a):=HV cB rfl;gi_wp2;gi_loopw [15] (λb wr=>∃(n:M)(B1:eT),b=aq n/\n<=y r/\rm p (λk=>k=z (G a)+2) (z (G a)+1) (dG c (ie f)++dG c (r.take n)) B1 wr/\I bs W2 wr/\(∀k,B1 k->bs k\/z (G W2)<=k)) (λb _=>y r-(intOf b).toNat)
  case atStart=>exact⟨0,bs,rfl,bG _,by simpa[dG,lJ]using hA2,I.refl _ _,λk b=>.inl b⟩
  case round=>
   obtain⟨n,B1,rfl,eB,hA1,l,P⟩:=hrel;by_cases B:n<y r
   .have an:jU wr (aY cB (E+cx*4) (y r)<|K-cx) r:=al.ap hA1.ap<|λk b=>(show cB=k by simpa[cz]using b)▸⟨λq=>by rcases q with q|q<;>omega,by omega⟩;have bh:eG wr (z<|G a) (J mx (y c) mc) 206:=(hA1.ap.block _ (by omega)<|by omega).trans dn;have cl:Row wr 1 (J mx (y c) mc) (y c) (c.map<|Value.int .u64):=hA1.ap.row (bo.row HM<|λk b=>⟨id,ac k b⟩) (λk b=>by have:=ac k b;grind);have Q:eG wr (z<|G br) (aY cB (E+cx*4) (y r)<|K-cx) 88:=(l.block _ dm (λq=>by have:=bT _ q;omega)).trans bi;obtain⟨lv,o,s,au⟩:=hA1.row;obtain⟨ex,ec,bl⟩:=aC s;have bk:=o.cell;have ch:=o.free;have ax:=bh.cell;have aD:=Q.cell;obtain⟨dc,⟨ca,dk⟩|⟨b',el,ef,ca,dk,j⟩⟩:=id an
    .omega
    cases ca;have T:=eh r n B;have g0:=j _ _ T.1;have g1:=j _ _ T.2.1;have g2:=j _ _ T.2.2.1;have g3:=j _ _ T.2.2.2;simp only[<-bF]at g1 g2 g3;have e1:(n:U)<(y r:U):=by omega
    have e2:(0:U)<=(n:U):=by omega
    have eu:=ar bh;have dT:=ar o;have cn:=ar Q;have cd:cB<z (G wr):=cW _ _ g0;have ej:y (dG c (ie f)++dG c (r.take n))+1<=2000000:=by
     have q1:=Ki c<|ie f;have q2:=Ki c<|r.take n;have q3:y (ie f)=cx:=HN.symm;have w:=rD n r;rw[ag];omega
    have bm:=Qi (ms:=c) HK.same B;have N:=Y (show∀(v t:Z)v5,I az wr v->eC v t lv v5->t.ownsRow (z<|G p) 170 4 v5 (y (dG c (ie f)++dG c (r.take n))+1) (aI (dG c (ie f)++dG c (r.take n))++aI [r[n]])->wanted c r n B=ci->∃B1,rm p (λk=>k=z (G a)+2) (z (G a)+1) (dG c (ie f)++dG c (r.take<|n+1)) B1 (cA t (R (z (G a)+1) 0) v5)/\I bs W2 (cA t (R (z (G a)+1) 0) v5)/\(∀k,B1 k->bs k\/z (G W2)<=k)fromλv t v5 ht A x m=>by
     obtain⟨w,q1,q2,q3⟩:=hA1.more (xs:=[r[n]]) (by omega) o ht A x;rw[bm,dV m,<-bz];refine⟨w,q1,l.trans q2 P,λk b=>?_⟩;grind[Nat.le_trans,I.size])
    have ba:=Y (show∀(v:Z),I az wr v->wanted c r n B=bj->rm p (λk=>k=z (G a)+2) (z (G a)+1) (dG c (ie f)++dG c (r.take<|n+1)) B1 v/\I bs W2 v fromλv ht m=>by
     rw[bm,eI (by simp[m]),dO];exact⟨hA1.stays ht cC,l.bW ht⟩)
    obtain⟨bt,bx,aF,eq,cT,aU,L,en,eo⟩:=wY hA1 l P an cl o s Q j;clear hA1 l P cl o s au bh j T dc bm;generalize eg:dG c (ie f)++dG c (r.take n)=g at*;subst bl;have cE:=Y (show 0<n->∀a d:Z,I az wr a->Below (z<|G a) a d->eG a (z<|G wr) (aq n) 3->iG a (z (G wr)+1) r[n]->∀cv,cD aZ 160 (#[aE cv]++#[aA<|z (G wr)+1,aA<|z<|G br,aA<|z<|G wr]) d λcw c=>cw=aJ (aK<|decide (r[n].bJ<=cv)&&decide (cv<(r[n-1]'(by omega)).bJ))/\Below (z<|G d) d c fromλh0 a d x w q1 q2 cv=>by
     apply(Kh n cv B h0 (by omega) (q2.below w (ar q2)) ((w.block _ (ah cn x.size)).trans ((x.block _ cn id).trans Q)) ((an.ap x (λk b=>⟨id,(show cB=k by simpa[cz]using b)▸cd⟩)).below w (λk b=>(show cB=k by simpa[cz]using b)▸ah cd x.size)) ((w.block _ (ar q1)).trans q1)).mono;grind[Below.refl])
    clear an Q;have bE:=Y<|show wanted c r n B=(decide (n=0)||c.any (λcv=>decide (r[n].bJ<=cv)&&decide (cv<(r[n-1]'(by omega)).bJ)))from rfl;generalize ey:r[n]=ed at*;obtain⟨yk,yv,yd,X⟩:=ed;simp only at g0 g1 g2 g3;rcases gm n with h0|h0
    .subst h0;simp only[zn,lq]at g0 g1 g2 g3;have i:I az wr (cG (cG wr<|ay #[aq 0] 3)<|ay #[am yk,am yv,aK yd,aE X] 170):=(cK _ _).alloc _;have w:=Y<|i.own L<|λ_ _ K=>K;have aa:=Y (show∀t:Z,(cG (cG (cG wr<|ay #[aq 0] 3)<|ay #[am yk,am yv,aK yd,aE X] 170)<|ay #[am yk,am yv,aK yd,aE X] 170).grownBy t (cz<|J ex (y g) ec)->aS t (R (z (G a)+1) 0)=H (J ex (y g) ec)/\t.frozen? (R (z (G a)+1) 0)=bj fromλt hg=>by
      have A:eG t (z (G a)+1) (J ex (y g) ec) 88:=(hg.block _ (by have:=ar aU;simp;omega) (λcw=>by have:=(L.lt _ cw.symm).1;omega)).trans (eG.alloc (eG.alloc (eG.alloc aU _) _) _);exact⟨A.cell,A.free⟩)
     have ad:=Y i;clear i;gi_wp2_with fail
     refine⟨trivial,?_⟩;gi_wp2_with(first
      |(gi_at_builtin;refine eP _ rfl (.tmp 28) (.tmp 30) 88 rfl (z (G p)) 170 i0 vP 4 48 underlying88 ce cp cs cu rfl (by decide) (.slice ex (y g) ec) (y g) (aI g) rfl (aX w (.cells #[.string yk,.string yv,.bool yd,.int .u64 X] 170)) (R (z (G wr)+1+1) 0) 1 1 (aI [⟨yk,yv,yd,X⟩]) rfl (by rw[fH];rfl) (xV ⟨yk,yv,yd,X⟩ _ (by simp)) (Bb _) (by omega) (by omega) (by simp;omega) ?_;intro v5 t C D;obtain⟨x5,c5,bp⟩:=aC C;subst bp;have x:=aa t D.grown;obtain⟨ea,eb⟩:=x;have aV:=Y C;have bc:=Y D;clear C D))
     refine⟨⟨1,?_⟩,by simp[intOf];omega⟩;obtain⟨B2,r1,r2,r3⟩:=N _ t _ ((ad).alloc _) bc aV (by rw[af bE];simp);grind
    .have e0:((n:U)==0)=bj:=by simp;omega
     obtain⟨v,w⟩:∃v,cG (cG wr<|ay #[aq n] 3) (ay #[am yk,am yv,aK yd,aE X] 170)=v:=⟨_,rfl⟩;have i:I az wr v:=by rw[<-w];exact(cK _ _).alloc _
     have A:=IG #[aA<|z (G wr)+1,aA<|z<|G br,aA<|z<|G wr] c _ (enters_of func160 (by kernel_rfl) rfl) (i.row cT<|λk b=>⟨id,by have:=ac k b;omega⟩) (λk b=>by have:=ac k b;have:=i.size;omega) (by omega)<|λcv _ d a=>cE h0 v d i a (by rw[<-w];grind[eG.alloc,aH]) (by rw[<-w];exact aH _<|by simp) cv;have bq:=af bE;rw[show decide (n=0)=bj by simp;omega,yj]at bq;rw[<-bq]at A;have cb:iG v (z (G wr)+1) ⟨yk,yv,yd,X⟩:=by rw[<-w];exact aH _<|by simp
     have cc:eG v (z (G a)+1) (J ex (y g) ec) 88:=(i.block _ dT id).trans aU;have fr:=i.size;obtain⟨bu,aa,ad,er⟩:=fX cb cc i w;clear cb cc i bq;cases m:wanted c r n B with
     |true=>
      rw[m]at A;have bd:=Y m;clear m;subst w;gi_wp2_with fail
      refine⟨trivial,(CallsIn.inRound lr<|dS.2 A).mono ?_⟩;rintro cw w4⟨rfl,x⟩;have av:=ad.bW<|I.aQ (S:=az) x;have j:=bu.below x<|ar bu;have ao:eG w4 (z (G a)+1) (J ex (y g) ec) 88:=(x.block _<|ar aa).trans aa;obtain⟨z0,z1,z2,z3⟩:=j.cells;simp only at z0 z1 z2 z3;have z4:=ao.cell;obtain⟨bv,bb,cM⟩:=dz (av.own L<|λ_ _ K=>K) av ao;have fn:=av.size;have fb:=ar j;have fd:=ar ao;clear av j ao x A bk ch ax aD g0 g1 g2 g3;generalize z (G wr)+1=fs at*;gi_wp2_with(first
       |(gi_at_builtin;refine eP _ rfl (.tmp 28) (.tmp 30) 88 rfl (z (G p)) 170 i0 vP 4 48 underlying88 ce cp cs cu rfl (by decide) (.slice ex (y g) ec) (y g) (aI g) rfl (aX bv (.cells #[.string yk,.string yv,.bool yd,.int .u64 X] 170)) (R (z (G w4)) 0) 1 1 (aI [⟨yk,yv,yd,X⟩]) rfl (by rw[fH];rfl) (xV ⟨yk,yv,yd,X⟩ _ rfl) (Bb _) (by omega) (by omega) (by simp;omega) ?_;intro v5 t C D;obtain⟨x5,c5,bp⟩:=aC C;subst bp;have bg:eG t (z (G a)+1) (.slice ex (y g) ec) 88:=(D.grown.block _ (by simp;omega) (λcw=>by have:=(bv.lt _ cw.symm).1;omega)).trans (cM.alloc _);have ea:=bg.cell;have eb:=bg.free;have aV:=Y C;have bc:=Y D;clear C D bg))
      refine⟨⟨n+1,?_⟩,by simp[intOf];omega⟩;obtain⟨B2,r1,r2,r3⟩:=N _ t _ (bb.alloc _) bc aV bd;exact⟨B2,by go_num,by omega,r1,r2,r3⟩
     |false=>
      rw[m]at A;have bd:=Y m;clear m;subst w;gi_wp2_with fail
      refine⟨trivial,(CallsIn.inRound lr<|dS.2 A).mono ?_⟩;rintro cw w4⟨rfl,x⟩;have bb:=Y<|ad.bW<|I.aQ (S:=az) x;clear A x bk ch ax aD g0 g1 g2 g3;gi_wp2;refine⟨⟨n+1,?_⟩,by simp[intOf];omega⟩;obtain⟨r1,r2⟩:=ba _ bb bd;exact⟨B1,by go_num,by omega,r1,r2,aF⟩
   .have g:n=y r:=by omega
    have e1:((n:U)<(y r:U))=False:=by simp;omega
    obtain⟨bt,bx,aF⟩:=dz hA1 l P;clear hA1 l P;gi_wp2;have l:=af bx;have hA1:=af bt;refine⟨trivial,B1,?_,(bn.mono<|λk b=>.inl<|.inr b).trans l<|λk b=>.inl<|.inl b,l.block lr (by omega) db,λk b=>(aF k b).imp_right<|λK=>by omega⟩;show rm p _ _ (dG c<|ie<|f++[(cx,r)]) B1 wr;rw[sP,(af HK).Kk,show dG c r=dG c (r.take n)by rw[g,bL]];exact hA1
 (case done=>intro D bs br m O j _ l;obtain⟨lv,o,s,au⟩:=O.row;rw[Aj]at s;obtain⟨ex,ec,bl⟩:=aC s;have bk:=o.cell;obtain⟨HA,L,i,HK⟩:=fX O s au l;have n:=ar l;clear O o s au l;subst bl;gi_wp2;have g:=gZ br D<|.deferred none;refine⟨by simp,.inl ⟨_,_,rfl,run_takeDeferred HK,?_⟩⟩;refine⟨_,jP rfl _ _ _,?_⟩;have hx:=g.own L<|λk b K=>j<|(i D).2<|.inr (by rw[<-K];exact b);refine⟨_,rfl,fM hx (by omega),bo.trans (HA.ap.trans g<|λk b=>.inr (by subst b;omega))<|λk b=>.inr (by rcases b with K|K<;>omega)⟩)
end
def Rm(c:cI)(x:E):eZ (c++[x])=eZ c++Bp x:=by simp[eZ]
def xh(c d:cI):eZ (c++d)=eZ c++eZ d:=by simp[eZ]
def OK{c:cI}(h:∀x∈c,x.Good):y (eZ c)<=35*y c:=by
 induction c with
 |nil=>simp[eZ]
 |cons x r d=>
  have a:=tI (h x<|by simp);have f:=d (λa b=>h a<|by simp[b]);have e:eZ (x::r)=Bp x++eZ r:=by simp[eZ]
  rw[e,ag,aW];omega
def DA(h:jU a d e)(hv:∀al,cz d=H al->al<z (G a))(hg:∀aV∈e,aV.Good)(hl:y e<=1000):cD aZ 217 #[d] a λan w'=>∃v',an=aJ v'/\eE w' (z<|G a) v' (eZ e)/\I az a w':=by
 obtain⟨aV,au,ad⟩:=bN h;obtain⟨HH,HV,HG⟩:=dz h hv hg;clear h hv hg;subst ad;go_in
 go_wp2;go_loopw [3,8] (λc b wr=>∃l:M,l<=y e/\b=aq l/\eE wr (z<|G a) c (eZ<|e.take l)/\I az a wr) (λ_ b _=>y e-(intOf b).toNat)
 case atStart=>exact⟨0,bG _,rfl,by simpa[eZ]using eE.nil _ _,I.refl _ _⟩
 case round=>
  obtain⟨l,hi,rfl,u,x⟩:=hrel;obtain⟨N,L,t⟩:=aC u;by_cases m:l<y e
  .have i:=HG _<|ak m;obtain⟨V,⟨A,W⟩|⟨ao,v,av,A,W,B⟩⟩:=af HH
   .omega
   cases A;have X:ao<z (G a):=HV ao rfl;have f:∀j u,(aI e)[j]?=H u->aS wr (R ao<|v+j)=H u:=λj u a=>x.cell (B j u a) id X;have g:=eh e l m;have g0:=f _ _ g.1;have g1:=f _ _ g.2.1;have g2:=f _ _ g.2.2.1;have g3:=f _ _ g.2.2.2;simp only[<-bF]at g1 g2 g3;have aD:y (eZ<|e.take l)<=35000:=by
    have:=OK (c:=e.take l)<|λw a=>HG w<|dU a;have:=rD l e;omega
   have Q:=Y (show eZ (e.take<|l+1)=eZ (e.take l)++Bp e[l]by rw[aj m,Rm]);have aF:=x.size;have T:=Y x;have j:cz (J N (y<|eZ<|e.take l) L)≠H (z<|G wr):=λan=>by rw[<-t]at an;have:=(u.lt _ an).2;omega
   have e1:(l:U)<(y e:U):=by omega
   have e2:(0:U)<=(l:U):=by omega
   have K:=Y u;clear B g f x u V;generalize eZ (e.take l)=s at*;subst t;generalize e[l]=w at*;obtain⟨q,r,p,k⟩:=w;simp only at g0 g1 g2 g3;have k1:=i.KN;have k2:=i.val;have k3:=i.b0;have k4:=i.b1;simp only at k1 k2 k3 k4;clear i;have C:eE (cG wr<|ay #[am q,am r,aK p,aE k] 170) (z<|G a) (J N (y s) L) s:=aX K _;have P:=Y C;clear C;go_wp2_with fail
   go_region_held3(λe=>aS e (R (z<|G wr) 0)=H (am q)/\aS e (R (z<|G wr) 1)=H (am r)/\aS e (R (z<|G wr) 2)=H (aK p)/\aS e (R (z<|G wr) 3)=H (aE k)) (first|assumption|go_keep) (first
    |(go_at_call 188;refine(oV (baseqq:=z<|G a) (v:=(.slice N (y s) L)) (bs:=s) k (w:=(cG wr<|.cells #[.string q,.string r,.bool p,.int .u64 k] 170).drew) (P.of_heap rfl) (by simp;omega) (by omega) k3 k4).mono ?_;rintro an F⟨v1,rfl,D,b⟩;have n:cz v1≠H (z<|G wr):=b.ne j (by simp);have o:aS F (R (z<|G wr) 0)=H (.string q)/\aS F (R (z<|G wr) 1)=H (.string r)/\aS F (R (z<|G wr) 2)=H (.bool p)/\aS F (R (z<|G wr) 3)=H (.int .u64 k):=⟨b.cell (by simp) j,b.cell (by simp) j,b.cell (by simp) j,b.cell (by simp) j⟩;have aU:z (G wr)<z (G F):=(by have:=b.grown.size;simp at this;omega);have O1:=Y D;have W1:=Y b;clear D b)
    |(go_at_call 190;refine(Ow (z (G a)) v1 (s++le 8 k) ⟨q,r,p,k⟩ _ ?_ (by omega) (by simp[bU];omega) (by grind) (by grind)).mono ?_;exact O1.of_heap rfl;rintro an O⟨v2,rfl,E,c⟩;have ax:aS O (R (z (G wr)) 0)=H (.string q)/\aS O (R (z (G wr)) 1)=H (.string r)/\aS O (R (z (G wr)) 2)=H (.bool p)/\aS O (R (z (G wr)) 3)=H (.int .u64 k):=⟨c.cell o.1 n,c.cell o.2.1 n,c.cell o.2.2.1 n,c.cell o.2.2.2 n⟩;have O2:=Y E;have W2:=Y (W1.trans c);clear E c))
   go_wp2;have hW:=af W2;have aa:I az a (cG wr<|ay #[am q,am r,aK p,aE k] 170):=T.alloc _;have ac:I az a (cG wr<|ay #[am q,am r,aK p,aE k] 170).drew:=aa.trans (S:=az) ⟨rfl,rfl,rfl,ai _,λ_ _ _=>rfl⟩<|λ_ au=>.inl au;refine⟨⟨l+1,m,by go_num,?_,ac.trans (I.dW (S:=λal=>cz (J N (y s) L)=H al) hW.grown<|λal hk=>.inl hk)<|λal hk=>.inr (K.lt al hk).1⟩,by simp[intOf];omega⟩;rw[af Q];have:=af O2;rwa[bz]at this
  .have b:l=y e:=by omega
   have e1:((l:U)<(y e:U))=False:=by simp;omega
   subst t;rw[b,bL]at u|-;have K:=Y u;have T:=Y x;clear u x;go_wp2;go_ret;exact⟨_,rfl,K,T⟩
section
open Shelf
attribute [local go_sem] Oper.semAt_some
section
variable{F:Fence}{n:M}{P:Program}(w:Z){b:Array Oper}{rest:cS Oper}{o:Oper}{a:Act}{Q:Exit->Act->Z->Prop}
theorem Ct(j:o.guard=none)(g:Operand)(t:TypeId)(c:o.op=Op.range t g)(x u:TypeId)(l:P.underlying t=H (.map x u))(h:M)(m:gz)(k:a.eval g=.map (H h))(v:kN w h m)(i:∀d,pR d h (z<|G w) m m->w.grownBy d none->z (G d)=z (G w)+1->wpListIn F n P b Q rest (a.put o.dst<|aA<|z<|G w) d):wpListIn F n P b Q (o::rest) a w:=by
 refine vX j λs f=>?_;obtain⟨d,e,p,q,r⟩:=ME l v;unfold Oper.wpIn;refine⟨?_,?_⟩;simp[Oper.about,c];rw[Oper.semAt_plain F _ _ (by rw[c];grind)];simp[execOp,c,k,e,Result.andThen];exact f _ _<|i d p q r
theorem CP(u:o.guard=none)(k:Operand)(e:o.op=Op.next k bj)(x r:M)(A left:gz)(ri:a.eval k=aA r)(C:pR w x r A left)(h:left=[]->wpListIn F n P b Q rest (a.put o.dst<|dd #[aK bj]) w)(i:∀f p c g,left=f++p::c->pR g x r A (f++c)->w.grownBy g (H r)->z (G g)=z (G w)->(Instr.entry<|aA r).run P g=.ok (dd #[aq p.1,p.2]) g->wpListIn F n P b Q rest (a.put o.dst<|dd #[aK ci,aq p.1,p.2]) g):wpListIn F n P b Q (o::rest) a w:=by
 refine vX u λB j=>?_;unfold Oper.wpIn;refine⟨?_,?_⟩;simp[Oper.about,e];rw[Oper.semAt_plain F _ _ (by rw[e];grind)];rcases PE (P:=P) C o.type with⟨l,d⟩|⟨f,p,c,g,v,d,m,q,s,t⟩;simp[execOp,e,ri,d,Result.andThen];exact j _ _<|h l;simp[execOp,e,ri,d,Result.andThen];exact j _ _<|i f p c g v m q s t
end
def VU(v:U):Array ab:=#[aE v]
def wv(m:gz)(c:dN):Prop:=m.map (·.2)=c.map (Value.int .u64)
theorem GS(n0 cu s al:M)(ca:gz)(V:dN)(w:Z)(hb:eG w s (.map<|H al) 79)(hm:kN w al ca)(bk:wv ca V)(bx:al<n0)(bE:n0<=z (G w)):Wu VU Am n0 cu 215 #[aA s] (λcn _=>∃cv,(cn++cv).Perm V) (λcn=>cn.Perm V) (λk=>k=s) w:=by
 intro lr cs Jx cp bm hs hD hJ aF bb bd hY;have cd:aS bm (R s 0)=H (.map<|H al):=hs.cell (.inl rfl) hb.cell;have bc:kN bm al ca:=hm.di<|hs.2 al<|.inl ⟨bx,id⟩;obtain⟨HB,HM,bv,HS,HJ,bq,HY,ac,ad⟩:=wY hb bc bk hs hJ aF hY bb bd;clear hb hm bk hs hJ aF bb bd hY hD bc;refine tN func215 rfl trivial ?_ rfl;simp only[ntmps215,ga,aW,eD,Nat.reduceAdd,Nat.reduceSub,eX,eW,gd,fq,de,dl]
 gi_wp2_with(first
  |(refine Ct _ rfl _ 79 rfl 3 89 underlying79 al _ rfl HM ?_;intro w0 v aU ck;have X:=Y v;have p:=Y aU;clear v aU))
 have O:=HS.1;have ch:s<z (G bm):=ah (ar HB) O;have S:I az bm w0:=I.dW p (by simp);have t:=ac _ _ _ HJ;gi_loopg [] (y ca) (λk wr=>∃(d:dN)(left:gz)(vl:dN)(B:eT),y left=k/\wv left vl/\(d++vl).Perm V/\pR wr al (z<|G bm) ca left/\cs d B wr/\(∀k,k=s->¬B k)/\kw Am n0 (λk=>k=s) w wr/\¬B (z<|G bm))
 (case atStart=>refine⟨[],ca,V,cp,rfl,bv,np _,X,ad _ _ _ _ _ HJ S cC,bq,HS.trans<|S.same (aB bE O) (λk g=>⟨by grind,id⟩) cC,λN=>by have:=(t _ N).2;omega⟩);(case round=>obtain⟨d,left,vl,B,ba,c,j,aV,aD,u,e,ao⟩:=hrel;have ce:aS wr (R s 0)=H (.map<|H al):=e.cell (.inl rfl) HB.cell;obtain⟨K,E,aa,D⟩:=fX c j aV aD;have r:=Y u;obtain⟨br,C,bo⟩:=dz e ao ba;clear c j aV aD u e ao ba X p S t;(gi_wp2_with(first|(refine CP _ rfl _ rfl al (z<|G bm) _ _ rfl aa ?_ ?_)));(.intro f;subst f;(have i:vl=[]:=by have:=af K;unfold wv at this;simpa using this.symm);subst i;gi_wp2;refine zl (ja rfl _ _ _) rfl ?_;exact⟨⟨_,rfl⟩,.inl ⟨d,B,by simpa using af E,D,trivial⟩⟩);(.intro m pk pv l w1 hl x A bf cb;subst hl;have c:=af K;unfold wv at c;rw[aR,cr]at c;obtain⟨va,vd,rfl,bg,bi⟩:=iz.1 c.symm;obtain⟨co,vc,rfl,hv,bh⟩:=nn.1 bi;simp only at hv;subst hv;have T:I (λk=>k=z (G bm)) wr w1:=I.dW A (λk g=>by grind);obtain⟨bt,i,bu⟩:=dz T x (show wv (m++l) (va++vc)from by unfold wv;rw[aR,aR,bg,bh]);have q:=Y<|show((d++[co])++(va++vc)).Perm V from List.Perm.trans (by rw[bz];grind) E;have av:=ad _ _ _ _ _ D T (λk g=>by subst g;exact⟨C,.inr<|.inr O⟩);have L:=Y<|HY d co B w1 ⟨va++vc,q⟩ av trivial;clear T x A c bg bi bh av K E aa;unfold VU at L;obtain⟨fn,cc,bl,body,hy,hR⟩:=af L;have bp:=Y hR;clear hR L;gi_wp2;refine⟨(λN=>(by cases N)),bp.mono ?_⟩;rintro cw W3(⟨rfl,_,B3,ax,f,an⟩|⟨rfl,hx⟩);(.have bn:=Y ax;have bs:=Y f;have W:=Y an;clear ax f an;gi_wp2;(gi_roundg (y<|m++l));(case measure=>have:=af bo;grind);(case rel=>have f:=af bs;have e:=af br;have cm:z (G wr)=z (G w1):=bf.symm;have bT:=i.lt;have cj:=i.ne;have au:∀k,B k->n0<=k:=λk g=>(ac _ _ _ D k g).1;have cl:=e.1;refine⟨d++[co],m++l,va++vc,B3,rfl,bu,q,i.kept (f.block al (by omega) (λN=>by have:=au _ N;omega))<|f.block _ bT C,bn,λk g N=>?_,?_,λN=>?_⟩;(rcases W k N with N|N;exact r k g N;grind);refine(e.trans<|bt.same (by omega) (λk g=>⟨by omega,by omega⟩)<|λk g c=>by omega).trans<|f.same (by omega) (λk g=>⟨by omega,r k g⟩) (λk g c=>by have:=au k g;omega);rcases W _ N with N|N;exact C N;omega));have W:=Y hx;clear hx;gi_wp2;refine cg (ja rfl _ _ _) rfl ?_;exact⟨⟨_,rfl⟩,.inr ⟨_,W⟩⟩))
end
