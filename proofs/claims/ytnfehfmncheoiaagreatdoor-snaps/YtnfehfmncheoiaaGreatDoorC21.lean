import Derived.Test.YtnfehfmncheoiaaGreatDoorC18
import Derived.Test.YtnfehfmncheoiaaGreatDoorC19
import Derived.Test.YtnfehfmncheoiaaGreatDoorC20
open _root_ renaming List.length→y,Option.some→H,Array.size→z,Go.World.heap→G,Go.Value.ownBlock→bV,Go.World.cell?→aS,Go.World.setCell→bZ,Go.World.alloc→ct,Bool.false→bE,Bool.true→bU,Nat→M,Int→X,List→cr,Go.Calls→cw,Go.Proofs.Tryz.prog→bF,Go.Value.slice→I,Go.Value.string→J,Go.Value.bool→aL,Go.Value.pointer→fh,Go.Value.tuple→dA,Go.Value.agg→eD
namespace Go.Proofs.YtnfehfmncheoiaaGreatDoor
open ChangeShapes WideShapes RowKit Proofs.Tryz
set_option maxHeartbeats 16000000
set_option linter.all false
set_option maxRecDepth 100000
variable{a f C:Y}{b c g l B P:M}{d:aa}{e L:cA}{i p t u:cP}{j O:DK}{k:dW}{m F Q:X}{n:SR}{W:fI}{x:iV}{D:Bool}{S:bI}
section
open Go.Shelf
attribute [local go_sem] Oper.semAt_some
def kW(n:X)(b:pD a):cw bF 16 #[lE n] a λe c=>e=aO (am n)/\Below (z<|G a) a c:=by
 unfold lE;split;rename_i h;subst h;exact JX a;exact MP n b
def WE(w:Y)(c:OY):xW (ct w<|aq #[J c.key,J c.val,aL c.del] 42) (bC (z<|G w) 0 1 1) [c]:=by
 have h:(ct w<|aq #[J c.key,J c.val,aL c.del] 42).heap[z<|G w]?=H (aq #[J c.key,J c.val,aL c.del] 42 (0,0)):=aC _ rfl;refine⟨rfl,.inr ⟨z<|G w,0,1,rfl,ah _,λj u a=>?_⟩⟩;rw[bR h,cR];simpa[eQ,oD]using a
def LA(b:Y)(a:M)(c:iB)(B:fI)(W:Y):Prop:=Acc (λk=>k=a) b [] (z<|G b) 37 68 2 (z (G b)+1) (y c) (ic c) B W
def GF(ao:Y)(a:M)(fn:SR)(lo hi:ab)(E:iB)(L N:ab)(K:Bool)(eu:X)(fr:Y->Prop)(dn:SR->Y->Prop)(F0:fI)(fl:a<z (G ao))(hF:∀k,F0 k->k<z (G ao))(hA:∀W,Z az ao W->z (G W)=z (G ao)+1->cw bF 65 #[aw a,J lo,J hi] W λbh Q=>∃eq bt bs,bh=aO eq/\MB W Q a eq E bt bs/\Z F0 W Q/\fr Q)(hW:∀s W cE,fr s->Z az s W->xW W (bC cE 0 1 1) [⟨L,N,K⟩]->cE<z (G W)->cE≠a->cw bF 13 #[aw a,bC cE 0 1 1,aL bE] W λbh Q=>bh=aO (lE eu)/\∃d,bK Q a d 0/\d.closed=fn.closed/\Z F0 W Q/\dn d Q)(hQ:∀d W W',dn d W->Z (λk=>k=a) W W'->bK W' a d 0->dn d W')(hE:∀d W,dn d W->pD W)(co:fn.closed=bU->E=[])(ej:y E<=1000000000):cw bF 64 #[aw a,J lo,J hi,eD #[J L,J N,aL K]] ao λbh Q=>∃v' d,bh=aO (dA #[v',am eu])/\yZ ao Q v' E/\dn d Q:=by
 obtain⟨i0,ee,em,en,eo⟩:=cz xG;have cs:∀d:SR,d.closed=fn.closed->(if d.closed=bU then []else E)=E:=by intro d bh;split;rename_i h;rw[bh]at h;rw[co h];rfl
 have ac:Z az ao (ct ao<|aq #[J L,J N,aL K] 42):=(Z.refl az ao).alloc _;have bg:(ct ao<|aq #[J L,J N,aL K] 42).heap[z<|G ao]?=H (aq #[J L,J N,aL K] 42 (0,0)):=aC _ rfl;have x:z (G<|ct ao<|aq #[J L,J N,aL K] 42)=z (G ao)+1:=by simp
 have cd:=hA _ ac x;obtain⟨dk,HX,HW,HQ,HE,HF⟩:=kF cs (And.intro ac (And.intro bg x)) hW hQ hE hF;clear cs ac bg x hA hW hQ hE co hF;refine(cZ (n:=3)).1 ?_;refine callsIn_of_wp_marks func64 rfl trivial ?_ rfl;simp only[ntmps64,eT,ay,cK,Nat.reduceAdd,Nat.reduceSub,dS,dR,eU,ew,cC,cq];gi_wp2_with(refine⟨trivial,?_⟩;gi_at_call 65;refine(cZ.2 cd).mono ?_;rintro bh p⟨v2,bt,bs,rfl,ed,e,bT⟩;obtain⟨el,⟨u2,cl,u⟩,cj,cp⟩:=ed;subst el;have ad:=(e.block _ (aj HX.2.1) (λj=>by have:=HF _ j;omega)).trans HX.2.1;have k0:aS p (R (z<|G ao) 0)=H (J L):=(by rw[bR ad];rfl);have k1:aS p (R (z<|G ao) 1)=H (J N):=(by rw[bR ad];rfl);have k2:aS p (R (z<|G ao) 2)=H (aL K):=(by rw[bR ad];rfl);have bl:=U cl;have db:=U u;have bk:=U cj;have dc:=U cp;have bn:=U e;have dm:=U bT;clear cl u cj cp e bT cd ad)
 gi_wp2_with(refine⟨trivial,?_⟩;gi_at_call 13;refine(cZ.2<|HW p (ct p<|aq #[J L,J N,aL K] 42) (z<|G p) dm ((Z.refl az p).alloc _) (WE p ⟨L,N,K⟩) (by simp) (by have:=bn.size;have:=HX.2.2;omega)).mono ?_;rintro bh f⟨rfl,d,ce,cn,cv,ca⟩;have ei:∃ex es,lE eu=ex/\ex=es:=⟨_,_,rfl,rfl⟩;have bi:=U ce;have cT:=U cn;have bp:=U cv;have bm:=U ca;clear ce cn cv ca k0 k1 k2 ei)
 obtain⟨ac,bg,x⟩:=ae HX;have e:=ae bn;have hF:=ae HF;have ff:=e.size;have eg:=bp.size;simp at eg;obtain⟨fd,fb⟩:=ae dc;have av:bt<z (G p)/\bs<z (G p):=⟨aj bl,aj bk⟩;have cu:Z F0 p f:=((Z.refl F0 p).alloc<|aq #[J L,J N,aL K] 42).trans bp<|λ_ j=>.inl j;have bd:∀k,z (G ao)<=k->¬F0 k:=λk c j=>by have:=hF k j;omega
 have u:=ae db;have v:∀k,bV u2=H k->z (G ao)+1<=k/\k<z (G p):=λk c=>by have:=u.lt k c;rw[x]at this;exact this
 obtain⟨F,T⟩:∃F,ct f (aq #[aK] 37)=F:=⟨_,rfl⟩;have B:Z az f F:=by rw[<-T];exact(Z.refl az f).alloc _
 have ec:dV F (z<|G f) aK 37:=by rw[<-T];exact aC _ rfl
 have fk:z (G F)=z (G f)+1:=by rw[<-T];simp
 have A:Z F0 p F:=cu.ci B;have cm:dV F bt u2 37:=(A.block _ av.1<|bd _<|by omega).trans bl;have ck:dV F bs (aw a) 35:=(A.block _ av.2<|bd _<|by omega).trans bk;have ef:=dF<|A.own u<|λk c j=>bd k (by have:=(v k c).1;omega) j;have eb:bK F a d 0:=(B.block a (aj bi) id).trans bi;have dx:LA f a [] (λk=>k=z (G f)) F:=by refine⟨λp a=>by simp at a,⟨aK,ec,bJ _ _ _ _,λk=>by simp[bV]⟩,λp a=>by simp at a,⟨ah _,by omega⟩,B.mono cG⟩
 have w:=Hv (z<|G f) 2 a d E cm ck ef (by omega) (by omega) (λk c=>⟨by have:=(v k c).2;omega,by have:=(v k c).1;omega⟩) (by omega) (by omega) ej;rw[(ae dk) d<|ae cT]at w;rw[T];refine BU (m:=3) (V:=Sl a d) (n0:=z<|G f) (gf:=108) (lb:=#[aw bt,aw bs]) (l:=E) (S:=λk=>k=bt\/k=bs\/bV u2=H k) ?geval (enters_of func108 (by kernel_rfl) rfl) (λ_=>rfl) w eb (by omega) ?slt (λb cB W=>LA f a b cB W) (λ_ _ _ _=>False) (λk=>k=z (G f)) dx ?sb ?lt ?st (λ_ _ _ _ _ _ h=>h.elim) ?body ?done ?stop;case geval=>rfl
 (case slt=>rintro k(j|j|j);omega;omega;have:=(v k j).2;omega);(case sb=>rintro k(j|j|j)ds;omega;omega;have:=(v k j).2;omega);(case lt=>intro b cB W h k c;exact h.lt k c);(case st=>intro b cB W W' fs h o n;refine h.stays o<|λk c=>⟨(n k c).1,?_⟩;rcases(n k c).2 with j|j;exact .inl j;exact .inr<|by omega);(case stop=>intro cM j b cB W _ h;exact h.elim)
 case body=>
  intro lr b ex cB W fe bq ek ax hC t;obtain⟨xk,xv⟩:=ex;have ea:y b+1<=1000000000:=by
   have h1:=ax.length_le;simp at h1;omega
  have HC:=U hC;have q:=U t;clear hC t ax;unfold PP;simp only;gi_wp2;refine⟨Z.refl _ _,λs e=>?_⟩;have bb:LA f a b cB s:=HC.stays e (λk c=>by subst c;exact⟨bq,.inr<|by omega⟩);obtain⟨eq,hv,g,C⟩:=bb.row;have bc:aS s (R (z<|G f) 0)=H eq:=hv.cell;have ey:s.frozen? (R (z<|G f) 0)=bE:=hv.free;have au:z (G f)<z (G s):=aj hv;obtain⟨P,O,bf⟩:=aB g;obtain⟨bx,HV,r,ba⟩:=gx bb hv g C;have bo:=U e;clear bb hv g C e;subst bf;gi_wp2_with(first
   |(gi_at_builtin;refine dY _ rfl (.tmp 26) (.tmp 30) 37 rfl (z (G f)+1) 68 i0 (.agg #[.string ⟨#[]⟩,.string ⟨#[]⟩]) 2 32 underlying37 ee em en eo rfl (by decide) (.slice P (y b) O) (y b) (ic b) rfl (aR r (.cells #[.string xk,.string xv] 68)) (R (z (G s)) 0) 1 1 (qg (xk,xv)) rfl rfl (Oa _ (xk,xv) _) (Xv _) (by omega) (by omega) (by simp;omega) ?_;intro v2 w3 n D;obtain⟨an,al,rfl⟩:=aB n;have o:dV w3 (z (G f)) (.slice P (y b) O) 37:=(D.grown.block _ (aj (HV.alloc (.cells #[.string xk,.string xv] 68))) (λj=>by have:=(r.lt _ j.symm).1;omega)).trans (HV.alloc _);have dv:=o.cell;have dT:=o.free;have et:=aj o;clear o;have cb:=U n;have cc:=U D;clear n D))
  have g:=ae r;have bv:=ae cc;have dd:Z (λk=>bV (I P (y b) O)=H k) s w3:=((Z.refl (λk=>bV (I P (y b) O)=H k) s).alloc<|aq #[J xk,J xv] 68).trans (Z.dM (S:=λk=>bV (I P (y b) O)=H k) bv.grown<|λk c=>.inl c)<|λk c=>.inl c;have cx:bV (I an (y b+1) al)=bV (I P (y b) O)\/∃ev,bV (I an (y b+1) al)=H ev/\z (G s)<=ev:=by
   rcases bv.uc with ds|⟨ev,ds,hg⟩
   .exact .inl ds
   .exact .inr ⟨ev,ds,by simp at hg;omega⟩
  obtain⟨B',q1,q2,q3⟩:=bx.more HV ba g dd cx cb;have ch:LA f a (b++[(xk,xv)]) B' (bZ w3 (R (z<|G f) 0)<|I an (y b+1) al):=by
   unfold LA;rw[EF,af];exact q1
  have e:=ae bo;have br:Z (λk=>cB k\/k=lr) W (bZ w3 (R (z<|G f) 0)<|I an (y b+1) al):=(e.mono (T:=λk=>cB k\/k=lr)<|λk c=>.inl<|.inr c).trans q2<|λk c=>.inl<|.inl c;have bu:∀k,(cB k\/k=lr)->k≠a:=λk c j=>by
   rcases c with ds|ds
   .have:=(HC.lt k ds).1;omega
   .omega
  exact⟨(Sl a d).fm q br<|λk c j=>bu k c j,B',ch,br,q2.block lr (by have:=e.size;omega) bq,λk c=>(q3 k c).imp_right (λj=>by have:=e.size;omega)⟩
 (case done=>intro cM cB W et hC dv t hK;obtain⟨eq,hv,g,C⟩:=hC.row;have bc:aS W (R (z<|G f) 0)=H eq:=hv.cell;have au:=aj hv;obtain⟨P,O,bf⟩:=aB g;obtain⟨HC,r,ba,q,HK⟩:=jR hC g C t hK;clear hC hv g C t hK;subst bf;have cb:dn d W:=HQ d f W bm HC.ar q;have bo:pD W.drew:=show pD W from HE d W cb;have cx:=kW eu bo;have cc:aS W.drew (R (z<|G f) 0)=H (I P (y E) O):=bc;clear cb bo;(gi_wp2_with fail);rename_i QQ KK bx;refine wpIn_mono (Q:=Exit.then KK (λ_ _ _=>False)) ?_ (by intro bh a1 W1 hh;cases bh<;>first|exact hh|exact hh.elim);refine AR (λbb=>aS bb (R (z<|G f) 0)=H (I P (y E) O)) 4 (by kernel_rfl) (by kernel_rfl) (λev ao h=>h) ?_;refine cQ 0 ?_;(iterate 2 (refine eE (v:=?_) cc rfl (by kernel_rfl) iO rfl ?_ ?_;rotate_left;(focus(intro bb hX;go_simp;try rfl));simp only[Act.put,cX,Nat.reduceAdd]));apply eh;refine aJ (i:=2) rfl rfl (by kernel_rfl) ?_;intro K2 bq;go_simp;apply cx.mono;rintro bh w5⟨rfl,ch⟩;have n:Z az W w5:=(bX az W).ci<|Z.aT (S:=az) ch;have D:=n.cell bc id au;refine bq _ _ (λ_=>D) ?_;(try simp only[Act.put,cX]);refine aJ (i:=3) rfl rfl (by kernel_rfl) ?_;intro K3 br;go_simp;refine br _ _ (λ_=>D) ?_;(try simp only[Act.put,cX]);refine aJ (i:=4) rfl rfl (by kernel_rfl) ?_;intro K4 bu;go_simp;refine bu _ _ wu ?_;refine cO (by kernel_rfl) ?_ _;show KK _ _;apply bx;have o:bK w5 a d 0:=(n.block a (aj q) id).trans q;have bv:w5.heap[cM]?=H (.deferred<|H []):=(n.block cM (aj HK) id).trans HK;obtain⟨an,dd,ax⟩:=dB o bv n;clear bx bq br bu o bv n D cc cx ch;gi_wp2;have hB:=ae ba;have n3:¬bV (I P (y E) O)=H cM:=λj=>dv<|(hB _).2<|.inr<|.inr j;have al:=gE w5 cM<|.deferred none;(have dT:cM≠a:=by omega);have ea:bK (w5.putObj cM<|.deferred none) a d 0:=(al.block a (aj an)<|λj=>dT j.symm).trans an;have ek:Z (λk=>k=a) f (w5.putObj cM<|.deferred none):=(HC.ar.ci ax).trans al (λk c=>by subst c;exact .inr<|by omega);refine⟨by simp,.inl ⟨_,_,rfl,run_takeDeferred dd,?_⟩⟩;refine⟨_,kO rfl _ _ _,_,d,rfl,?_,HQ d f _ bm ek ea⟩;have g:=ax.own r<|λ_ _ j=>j;exact eS (al.own g (λk c j=>by subst j;exact n3 c))<|by omega)
end
def pD.ar{S:fI}{w w':Y}(h:pD w)(b:Z S w w')(a:¬S 0):pD w':=by
 unfold pD at*;exact b.cell h a<|da _ _ h
def Inv.reads{q:fR}(x:Inv a b n j e i p t u c g l k q)(h:b<z (G a))(w:tz a f b n j e i p t u c):∃d,gw a f n.aN b j d/\d.files=j.files/\(∀A,d.aZ n.aN A->j.aZ n.aN A)/\bK f b n 0/\Inv f b n d e i p t u c g l k q:=by
 obtain⟨d,o,m,r,s,v,_⟩:=w;exact⟨d,o,m,s,v,x.ft h o (by rw[m]) (by rw[r];exact ah _) rfl x.loose⟩
def qO{b sbqq:M}(d:cJ a b j)(c:Z az a f):gw a f b sbqq j j:=⟨d.ar c<|λ_ _=>id,c.mono cG,λ_ q=>.inl q⟩
def BE(e:cJ a b j)(g:¬j.aZ b c)(d:Z (λk=>k=c) a f):gw a f b c j j:=⟨e.ar d<|λ_ q h=>g<|h▸q,d.mono<|λ_ q=>.inl<|.inr q,λ_ q=>.inl q⟩
def FI(o m r s:ab)(q:Bool)(B:bK a b n 0)(u:n.closed=bU)(w:pD a)(x:0≠b):cw bF 64 #[aw b,J o,J m,eD #[J r,J s,aL q]] a λv c=>∃l,v=aO (dA #[l,am 6])/\yZ a c l []/\bK c b n 0/\Z (λk=>k=b) a c:=by
 have h:=aj B;refine(GF a b n o m [] r s q 6 (λc=>bK c b n 0/\Z (λk=>k=b) a c) (λj c=>j=n/\bK c b n 0/\Z (λk=>k=b) a c) (λk=>k=b) h (λk D=>by omega) (λW t _=>?_) ?_ ?_ ?_ (λ_=>rfl)<|by simp).mono ?_;apply(Fi o m ((t.block b h id).trans B) u).mono;rintro v c⟨C,i,g,rfl,A,e,d⟩;exact⟨C,i,g,rfl,A,d,e,(t.mono (T:=λk=>k=b) cG).trans d<|λ_ p=>.inl p⟩;rintro A W C⟨e,f⟩d _ _ _;apply(zM _ bE ((d.block b (aj e) id).trans e) u).mono;rintro v c⟨rfl,g,i⟩;exact⟨rfl,n,g,rfl,i,rfl,g,(f.ci d).trans i<|λ_ p=>.inl p⟩;rintro j W g⟨rfl,_,f⟩d e;exact⟨rfl,e,f.trans d<|λ_ p=>.inl p⟩;rintro j W⟨_,_,f⟩;exact w.ar f x;rintro v c⟨l,j,rfl,g,_,e,d⟩;exact⟨l,rfl,g,e,d⟩
def KN(Q:fR)(T S o r:ab)(s:Bool)(ba:bK a b n 0)(V:Inv a b n j e i p t u c g l k Q)(hc:n.closed=bE)(hE:pD a)(hg:0≠b/\¬j.aZ n.aN 0)(hz:o.size<=140737488351232/\r.size<=140737488351232)(hC:c+lw [⟨o,r,s⟩]<=1000000)(hN:l+1<=100000000)(au:y (sP n.bB T S 0<|e::cF i p t u)<=1000000000):cw bF 64 #[aw b,J T,J S,eD #[J o,J r,aL s]] a λax v=>∃v',ax=aO (dA #[v',am<|fY [⟨o,r,s⟩]])/\yZ a v v' (sP n.bB T S 0<|e::cF i p t u)/\nI a v b n 0 j (c+lw [⟨o,r,s⟩]) (l+1) Q (yS n.bB [⟨o,r,s⟩]) (xg Q e (cF i p t u) ((n.bB:X)+1) [⟨o,r,s⟩]):=by
 have O:=aj ba;refine(GF a b n T S _ o r s (fY [⟨o,r,s⟩]) (λv=>∃m,gw a v n.aN b j m/\(∀ac,m.aZ n.aN ac->j.aZ n.aN ac)/\bK v b n 0/\Inv v b n m e i p t u c g l k Q) (λP v=>∃m K B C D E h f,MD a v b n 0 j (c+lw [⟨o,r,s⟩]) (l+1) Q (yS n.bB [⟨o,r,s⟩]) (xg Q e (cF i p t u) ((n.bB:X)+1) [⟨o,r,s⟩]) P m K B C D E h f) (λac=>j.aZ n.aN ac\/ac=b) O ?_ (λav hW _=>?_) ?_ ?_ ?_ (λq=>by rw[hc]at q;cases q) au).mono ?_;rintro ac(q|q);exact V.st.aN.lt _ q;omega;have F:=qO (sbqq:=b) V.st.aN hW;have x:bK av b n 0:=(hW.block b O id).trans ba;have w:=V.ft O F rfl (ah _) rfl V.loose;apply(Mt T S x w.st hc).mono;rintro ax v⟨ad,bt,bs,rfl,hh,hS⟩;obtain⟨m,A,_,e3,N,L⟩:=w.reads (aj x) hS;exact⟨ad,bt,bs,rfl,hh,A.ar,m,F.trans A,e3,N,L⟩;rintro W2 av cb⟨K2,an,e3,N,L⟩W al ad ao;have F:=qO (sbqq:=b) L.st.aN W;have x:bK av b n 0:=(W.block b (aj N) id).trans N;have w:=L.ft (aj N) F rfl (ah _) rfl L.loose;refine(Dh Q bE x w hc al (λac hk=>by cases hk;exact⟨ad,ao⟩) (λbb hx=>by rw[bG]at hx;rw[hx];exact hz) (by simp) hC hN).mono ?_;rintro ax v⟨rfl,P,m,K,B,C,D,E,h,f,d⟩;exact⟨rfl,P,d.box,d.same.2.1,d.ft.ar.mono<|λac q=>.inl<|q.imp (e3 ac) id,m,K,B,C,D,E,h,f,d.box,d.inv,d.wI,(an.trans F).trans d.ft,d.same,d.BK⟩;rintro P av L⟨m,K,B,C,D,E,h,f,d⟩W N;have F:=BE d.inv.st.aN d.inv.st.rV W;(have A:gw av L n.aN b m m:=by rw[<-d.same.1];exact F);exact⟨m,K,B,C,D,E,h,f,N,d.inv.ft (aj d.box) F rfl (ah _) rfl d.inv.loose,d.wI,d.ft.trans A,d.same,d.BK⟩;rintro P av⟨m,K,B,C,D,E,h,f,d⟩;exact hE.ar d.ft.ar<|λq=>q.elim hg.2 hg.1;rintro ax v⟨v',P,rfl,L,m,K,B,C,D,E,h,f,d⟩;exact⟨v',rfl,L,P,m,K,B,C,D,E,h,f,d⟩
def Nc(sn:fR)(h:bK a b n m)(w:Inv a b n j e i p t u c g l k sn)(hN:l+1<=100000000):cw bF 59 #[aw b] a λB x=>B=aO .nilIface/\nI a x b n m j c (l+1) sn n.bB (λbi=>fU bi<|e::cF i p t u):=by
 have ad:=aj h;have k3:=bK.cellAt h 3 rfl;have k8:=bK.cellAt h 8 rfl;have HH:=U h;have HV:=U w;clear h w;go_in
 go_wp2;go_quiet(fail)
 rename_i KK A;show KK _ _;apply A;clear A;have E:Z az a (a.drewN nq):=(Z.refl az a).of_heap rfl;generalize a.drewN nq=f at E|-;generalize decide (n.mem<=(n.iT:X))=F;have h:=ae HH;have w:=ae HV;have o:bK f b n m:=(E.block b ad id).trans h;have C:=qO (sbqq:=b) w.st.aN E;have s:=w.ft ad C rfl (ah _) rfl w.loose;obtain⟨mx,mc,D⟩:=bL w.st.mem;obtain⟨N,K,al⟩:=bL w.st.l0.row;obtain⟨O,c1,an⟩:=bL w.st.l1.row;obtain⟨P,c2,ao⟩:=bL w.st.l2.row;obtain⟨Q,c3,au⟩:=bL w.st.l3.row;have br:aS f (R b 10)=H (I N (y i) K):=by rw[<-al];exact o.cell rfl
 have bs:aS f (R b 11)=H (I O (y p) c1):=by rw[<-an];exact o.cell rfl
 have bt:aS f (R b 12)=H (I P (y t) c2):=by rw[<-ao];exact o.cell rfl
 have bu:aS f (R b 13)=H (I Q (y u) c3):=by rw[<-au];exact o.cell rfl
 have q7:aS f (R b 7)=H (I mx (y e) mc):=by rw[<-D];exact o.cell rfl
 have q9:=bK.cellAt o 9 rfl;have bk:∀W,(Instr.index 107 (eD #[I N (y i) K,I O (y p) c1,I P (y t) c2,I Q (y u) c3])<|am 0).run bF W=.ok (I N (y i) K) W:=λ_=>by kernel_rfl
 have bl:∀W,(Instr.index 107 (eD #[I N (y i) K,I O (y p) c1,I P (y t) c2,I Q (y u) c3])<|am 1).run bF W=.ok (I O (y p) c1) W:=λ_=>by kernel_rfl
 have bm:∀W,(Instr.index 107 (eD #[I N (y i) K,I O (y p) c1,I P (y t) c2,I Q (y u) c3])<|am 2).run bF W=.ok (I P (y t) c2) W:=λ_=>by kernel_rfl
 have bn:∀W,(Instr.index 107 (eD #[I N (y i) K,I O (y p) c1,I P (y t) c2,I Q (y u) c3])<|am 3).run bF W=.ok (I Q (y u) c3) W:=λ_=>by kernel_rfl
 have bc:cw bF 103 #[aw b,am 0,I N (y i) K] f λB x=>B=aO (aL<|uZ n.wH 0<|y i)/\x=f:=rE 0 (y i) N K o (by omega);have bd:cw bF 103 #[aw b,am 1,I O (y p) c1] f λB x=>B=aO (aL<|uZ n.wH 1<|y p)/\x=f:=rE 1 (y p) O c1 o (by omega);have bf:cw bF 103 #[aw b,am 2,I P (y t) c2] f λB x=>B=aO (aL<|uZ n.wH 2<|y t)/\x=f:=rE 2 (y t) P c2 o (by omega);have bg:cw bF 103 #[aw b,am 3,I Q (y u) c3] f λB x=>B=aO (aL<|uZ n.wH 3<|y u)/\x=f:=rE 3 (y u) Q c3 o (by omega);have L:∀r,Z az f r->cw bF 72 #[aw b,I mx (y e) mc,aI n.bB] r λB x=>B=aO .nilIface/\nI a x b n m j c (l+1) sn n.bB (λbi=>fU bi<|e::cF i p t u):=λr hX=>by have S:=qO (sbqq:=b) s.st.aN hX;have d:=s.ft (aj o) S rfl (ah _) rfl s.loose;have ac:bK r b n m:=(hX.block b (aj o) id).trans o;have bh:=d.BK;(have ba:y e<=100:=by have:=d.Wg;omega);have bb:=DB (I mx (y e) mc) c n.bB ac d.st d.GJ d.pr (by rw[<-D];exact d.st.mem) (λq b=>(d.st.sW q (by rw[D];exact b)).lt) d.st.mq d.Xe d.st.jd ba (λx a=>(d.MF x a).1) (λx a=>(d.MF x a).2) (by omega) (by have:=d.st.qI;omega) d.st.mN d.TO.2.2.1 d.qX d.QI.1 (by have:=d.bn;have:=d.mN;omega) (by have:=d.nx;have:=d.mN;omega) (by have:=d.eO;have:=d.mN;omega) sn d.pV;apply bb.mono;rintro B x⟨rfl,v0,v1,v2,v3,K',num,a',b',c',d',V⟩;exact⟨rfl,_,K',[],a',b',c',d',n.bB,[],V.box,V.inv d.TO d.nx (by have:=d.bn;omega) hN d.pV d.VC<|ah _,λbi a q=>by rw[sO];exact V.wI bi (a.imp_right (λB=>by rw[B];exact ri _)) q,(C.trans S).trans V.ft,⟨rfl,rfl,rfl,rfl,rfl,rfl⟩,rfl⟩
 have ax:=U<|show nI a f b n m j c (l+1) sn n.bB (λbi=>fU bi<|e::cF i p t u)from⟨n,j,e,i,p,t,u,g,k,o,s.mono (ah _) s.st.mN (by omega) hN,λ_ _ _=>rfl,C,⟨rfl,rfl,rfl,rfl,rfl,rfl⟩,rfl⟩;have T:=U L;clear h w o C s L D al an ao au E k3 k8;go_wp2;go_loopw [3,20] (λo bo wr=>∃(av:M)(F:Bool),av<=4/\bo=am av/\o=aL F/\wr=f) (λ_ bo _=>4-(intOf bo).toNat)
 case atStart=>exact⟨0,F,by omega,by go_num,rfl,rfl⟩
 (case round=>obtain⟨av,F,hj,rfl,rfl,bq⟩:=hrel;subst wr;(have bh:av=0\/av=1\/av=2\/av=3\/av=4:=by omega);rcases bh with rfl|rfl|rfl|rfl|rfl;(.cases F;(·(go_wp2_with(go_at_call 103;refine bc.mono ?_;rintro B S⟨rfl,hw⟩;subst S));go_roundw;(case rel=>exact⟨1,_,by omega,by go_num,rfl,trivial⟩);case measure=>simp[intOf]);(.go_wp2;go_roundw;(case rel=>exact⟨1,_,by omega,by go_num,rfl,trivial⟩);case measure=>simp[intOf]));(.cases F;(·(go_wp2_with(go_at_call 103;refine bd.mono ?_;rintro B S⟨rfl,hw⟩;subst S));go_roundw;(case rel=>exact⟨2,_,by omega,by go_num,rfl,trivial⟩);case measure=>simp[intOf]);(.go_wp2;go_roundw;(case rel=>exact⟨2,_,by omega,by go_num,rfl,trivial⟩);case measure=>simp[intOf]));(.cases F;(·(go_wp2_with(go_at_call 103;refine bf.mono ?_;rintro B S⟨rfl,hw⟩;subst S));go_roundw;(case rel=>exact⟨3,_,by omega,by go_num,rfl,trivial⟩);case measure=>simp[intOf]);(.go_wp2;go_roundw;(case rel=>exact⟨3,_,by omega,by go_num,rfl,trivial⟩);case measure=>simp[intOf]));(.cases F;(·(go_wp2_with(go_at_call 103;refine bg.mono ?_;rintro B S⟨rfl,hw⟩;subst S));go_roundw;(case rel=>exact⟨4,_,by omega,by go_num,rfl,trivial⟩);case measure=>simp[intOf]);(.go_wp2;go_roundw;(case rel=>exact⟨4,_,by omega,by go_num,rfl,trivial⟩);case measure=>simp[intOf]));(.cases F;(.go_wp2;go_ret;exact⟨rfl,ax⟩);(·(go_wp2_with fail);rename_i KK A;have bb:aS f.drew (R b 7)=H (I mx (y e) mc)/\aS f.drew (R b 9)=H (aI n.bB):=⟨q7,q9⟩;refine ot (λ(r:Y)=>aS r (R b 7)=H (I mx (y e) mc)/\aS r (R b 9)=H (aI n.bB)) 9 (by kernel_rfl) ?_;refine uL 0 ?_;(iterate 9 (refine AU (v:=?_) bb rfl (by kernel_rfl) iO rfl ?_ ?_;rotate_left;(focus(rintro r⟨z7,z9⟩;go_simp;try rfl));simp only[Act.put,cX,Nat.reduceAdd]));apply AT;refine dL (i:=9) rfl rfl (by kernel_rfl) ?_;intro K9 V;go_simp;apply(T f.drew<|bX _ f).mono;rintro B w7⟨rfl,ac⟩;have ba:=U ac;refine V _ _ (λq=>by omega) ?_;clear ac V;(try simp only[Act.put,cX]);refine dL (i:=10) rfl rfl (by kernel_rfl) ?_;intro bp d;go_simp;refine d _ _ (λq=>by omega) ?_;refine kh (by kernel_rfl) ?_ _;show KK _ _;apply A;clear A d;go_wp2;go_ret;exact⟨rfl,ba⟩)))
def SR.sX(s:SR)(u0 u1 u2 u3:aa)(next log a:M)(b:Bool):SR:={s with l0:=u0,l1:=u1,l2:=u2,l3:=u3,next:=next,log:=log,bB:=a,ki:=b}
def Wl(cd:Y)(a:M)(s:SR)(cc:X)(next j b nf:M)(ed dn:Y->aa->aa->aa->aa->Prop)(F:fI)(h:bK cd a s cc)(bl:∀q,F q->q<z (G cd))(bm:¬F a)(hL:cw bF 94 #[aw s.aN] cd λcb O=>∃A t r B u c1 C w c2 D x c3,cb=aO (dA #[eD #[aI next,aI j,aI b,I A t r,I B u c1,I C w c2,I D x c3],.nilIface])/\ed O (I A t r) (I B u c1) (I C w c2) (I D x c3)/\Z F cd O)(hO:∀W1 dc v0 v1 v2 v3,ed W1 v0 v1 v2 v3->Z az W1 dc->cw bF 95 #[aw s.aN,eD #[v0,v1,v2,v3]] dc λcb O=>∃A t r B u c1 C w c2 D x c3,cb=aO (dA #[eD #[I A t r,I B u c1,I C w c2,I D x c3],.nilIface])/\dn O (I A t r) (I B u c1) (I C w c2) (I D x c3)/\Z F dc O)(hS:∀dc u0 u1 u2 u3,dn dc u0 u1 u2 u3->∀W',Z (λq=>q=a) dc W'->dn W' u0 u1 u2 u3/\cw bF 96 #[aw s.aN] W' λcb O=>∃ef E,cb=aO (I ef nf E)/\Z az W' O):cw bF 56 #[aw a] cd λcb O=>cb=aO .nilIface/\∃u0 u1 u2 u3,bK O a (s.sX u0 u1 u2 u3 next j b<|decide<|0<nf) cc/\dn O u0 u1 u2 u3/\Z (λq=>F q\/q=a) cd O:=by
 have cE:=aj h;have k2:=bK.cellAt h 2 rfl;obtain⟨HH,HF,HO,HS⟩:=gx h bl hO hS;clear h bl hO hS;go_in
 go_wp2_with fail
 apply hL.mono;rintro cb f⟨A,t,r,B,u,c1,C,w,c2,D,x,c3,rfl,bp,bc⟩;obtain⟨g,Q⟩:∃g,ct f (aq #[aI next,aI j,aI b,I A t r,I B u c1,I C w c2,I D x c3] 187)=g:=⟨_,rfl⟩;have L:Z az f g:=by rw[<-Q];exact(Z.refl az f).alloc _
 have e:g.heap[z<|G f]?=H (aq #[aI next,aI j,aI b,I A t r,I B u c1,I C w c2,I D x c3] 187 (0,0)):=by rw[<-Q];exact aC _ rfl
 have bd:Z F cd g:=bc.ci L;have K:bK g a s cc:=(bd.block a cE bm).trans HH;have eb:=bc.size;obtain⟨cn,bk,cj,cl,P,n⟩:=kF Q L bp bd K e;clear bp bc bd K e Q L hL;go_wp2_with fail
 rw[ae cn];rename_i KK bo;have K:=ae P;have e:=ae n;have bs:aS g.drew (R a 2)=H (aw s.aN)/\aS g.drew (R (z<|G f) 3)=H (I A t r)/\aS g.drew (R (z<|G f) 4)=H (I B u c1)/\aS g.drew (R (z<|G f) 5)=H (I C w c2)/\aS g.drew (R (z<|G f) 6)=H (I D x c3):=⟨K.cell rfl,by show aS g _=_;rw[bR e];rfl,by show aS g _=_;rw[bR e];rfl,by show aS g _=_;rw[bR e];rfl,by show aS g _=_;rw[bR e];rfl⟩;clear K e;have ck:=U (show∀c:Y,(∀q,q=a\/q=z (G f)->c.heap[q]?=g.heap[q]?)->aS c (R a 2)=H (aw s.aN)/\aS c (R (z<|G f) 3)=H (I A t r)/\aS c (R (z<|G f) 4)=H (I B u c1)/\aS c (R (z<|G f) 5)=H (I C w c2)/\aS c (R (z<|G f) 6)=H (I D x c3)fromλc hX=>by have hb:bK c a s cc:=(hX a<|.inl rfl).trans P;have hs:=(hX _<|.inr rfl).trans n;exact⟨hb.cell rfl,by rw[bR hs];rfl,by rw[bR hs];rfl,by rw[bR hs];rfl,by rw[bR hs];rfl⟩);refine cg (λ(c:Y)=>aS c (R a 2)=H (aw s.aN)/\aS c (R (z<|G f) 3)=H (I A t r)/\aS c (R (z<|G f) 4)=H (I B u c1)/\aS c (R (z<|G f) 5)=H (I C w c2)/\aS c (R (z<|G f) 6)=H (I D x c3)) 14 (by kernel_rfl) ?_;refine cQ 0 ?_;iterate 7 (refine eE (v:=?_) bs rfl (by kernel_rfl) iO rfl ?_ ?_;rotate_left;(focus(rintro c⟨z2,y3,y4,y5,y6⟩;go_simp;try rfl));simp only[Act.put,cX,Nat.reduceAdd])
 apply eh;refine aJ (i:=7) rfl rfl (by kernel_rfl) ?_;intro K7 bn;go_simp;apply(HO f g.drew _ _ _ _ cj<|bk.ci<|bX az g).mono;rintro cb w3⟨z0,l0,d0,z1,l1,d1,z2,l2,d2,z3,l3,d3,rfl,bq,bT⟩;have o:Z F g w3:=(bX F g).trans bT<|λ_ E=>.inl E;have dk:=aj n
 have i:∀q,q=a\/q=z (G f)->w3.heap[q]?=g.heap[q]?:=λq hq=>o.block q (by have:=aj P;rcases hq with E|E<;>omega) (λE=>by
  rcases hq with ee|ee
  .exact bm<|ee▸E
  .have:=HF q E;omega)
 have ba:=ck w3 i;refine bn _ _ (λ_=>ba) ?_;try simp only[Act.put,cX]
 refine cQ 8 ?_;iterate 5 (refine eE (v:=?_) ba rfl (by kernel_rfl) iO rfl ?_ ?_;rotate_left;(focus(rintro c⟨z2,y3,y4,y5,y6⟩;go_simp;try rfl));simp only[Act.put,cX,Nat.reduceAdd])
 apply eh;refine aJ (i:=13) rfl rfl (by kernel_rfl) ?_;intro ds an;have m:bK w3 a s cc:=(i a<|.inl rfl).trans P;have fz:∀ce,w3.frozen? (R a ce)=bE:=λce=>m.free;have cu:=bK.cellAt m 10 rfl;have cv:=bK.cellAt m 11 rfl;have cx:=bK.cellAt m 12 rfl;have cB:=bK.cellAt m 13 rfl;go_simp;obtain⟨l,S⟩:∃l,bZ (bZ (bZ (bZ w3 (R a 10)<|I z0 l0 d0) (R a 11)<|I z1 l1 d1) (R a 12)<|I z2 l2 d2) (R a 13) (I z3 l3 d3)=l:=⟨_,rfl⟩;have k:bK l a {s with l0:=I z0 l0 d0,l1:=I z1 l1 d1,l2:=I z2 l2 d2,l3:=I z3 l3 d3} cc:=by rw[<-S];exact(aQ<|aQ<|aQ<|aQ m).trans rfl
 have p:Z (λq=>q=a) w3 l:=by rw[<-S];exact((((Z.refl (λq=>q=a) w3).setCell a 10 _<|.inl rfl).setCell a 11 _<|.inl rfl).setCell a 12 _<|.inl rfl).setCell a 13 _<|.inl rfl
 have d:l.heap[z<|G f]?=H (aq #[aI next,aI j,aI b,I A t r,I B u c1,I C w c2,I D x c3] 187 (0,0)):=(p.block _ (by have:=o.size;omega)<|by omega).trans<|(i _<|.inr rfl).trans n;rw[S];have br:aS l (R a 2)=H (aw s.aN)/\aS l (R (z<|G f) 3)=H (I A t r)/\aS l (R (z<|G f) 4)=H (I B u c1)/\aS l (R (z<|G f) 5)=H (I C w c2)/\aS l (R (z<|G f) 6)=H (I D x c3):=⟨k.cell rfl,by rw[bR d];rfl,by rw[bR d];rfl,by rw[bR d];rfl,by rw[bR d];rfl⟩;refine an _ _ (λ_=>br) ?_;try simp only[Act.put,cX]
 refine aJ (i:=14) rfl rfl (by kernel_rfl) ?_;intro dv ao;go_simp;refine ao _ _ wu ?_;refine cO (by kernel_rfl) ?_ _;show KK _ _;apply bo;have s0:=cellAt d 0 rfl;have s1:=cellAt d 1 rfl;have s2:=cellAt d 2 rfl;have v9:=bK.cellAt k 9 rfl;have cT:=bK.cellAt k 14 rfl;have db:=bK.cellAt k 17 rfl;have cs:∀ce,l.frozen? (R a ce)=bE:=λce=>k.free;have dm:z (G f)≠a:=by omega
 have ea:=aj k;have dT:=aj d;have ax:Z (λq=>F q\/q=a) cd l:=((cl.mono (T:=λq=>F q\/q=a)<|λ_ E=>.inl<|.inl E).trans o<|λ_ E=>.inl<|.inl E).trans p<|λ_ E=>.inl<|.inr E;obtain⟨bi,ch,ad,cm⟩:=gx (HS w3 _ _ _ _ bq) k p ax;clear bo bn an ao br ba bs m k p d fz cu cv cx cB i o bT bq S ax k2;go_wp2_with fail
 rename_i cp au;apply CS cp;(.intro cM;(go_region);all_goals exact cM);refine au _ _ ?_;clear au;obtain⟨W6,V⟩:∃W6,(bZ (bZ (bZ l (R a 14)<|aI next) (R a 17)<|aI j) (R a 9)<|aI b).drew=W6:=⟨_,rfl⟩;have N:Z (λq=>q=a) l W6:=by rw[<-V];exact((((Z.refl (λq=>q=a) l).setCell a 14 _<|.inl rfl).setCell a 17 _<|.inl rfl).setCell a 9 _<|.inl rfl).trans (bX (λq=>q=a) _)<|λ_ E=>.inl E
 have bb:bK W6 a (s.sX (I z0 l0 d0) (I z1 l1 d1) (I z2 l2 d2) (I z3 l3 d3) next j b s.ki) cc:=by rw[<-V];exact Eq.trans (show _=_ from aQ<|aQ<|aQ ch) rfl
 have bv:=bi W6<|ad.trans N<|λ_ E=>.inl E;have r2:=bK.cellAt bb 2 rfl;have bu:=bv.2;obtain⟨bg,al,co⟩:=dB bb N V;clear bb N V bv s0 s1 s2 v9 cT db cs;rw[ae co];go_wp2_with fail
 apply bu.mono;rintro cb w7⟨x7,c7,rfl,ac⟩;have W:bK w7 a (s.sX (I z0 l0 d0) (I z1 l1 d1) (I z2 l2 d2) (I z3 l3 d3) next j b s.ki) cc:=(ac.block a (aj bg) id).trans bg;have ec:=bK.cellAt W 21 rfl;have dx:w7.frozen? (R a 21)=bE:=W.free;have bf:Z (λq=>q=a) w7 (bZ w7 (R a 21)<|aL<|decide<|0<nf):=(Z.refl (λq=>q=a) w7).setCell a 21 _<|.inl rfl;have bt:bK (bZ w7 (R a 21)<|aL<|decide<|0<nf) a (s.sX (I z0 l0 d0) (I z1 l1 d1) (I z2 l2 d2) (I z3 l3 d3) next j b<|decide<|0<nf) cc:=(aQ W).trans rfl;have av:=((ad.trans al<|λ_ E=>.inl E).ci ac).trans bf<|λ_ E=>.inl E;have bx:=(bi _ av).1;have ca:Z (λq=>F q\/q=a) cd (bZ w7 (R a 21)<|aL<|decide<|0<nf):=((cm.trans al<|λ_ E=>.inl<|.inr E).ci ac).trans bf<|λ_ E=>.inl<|.inr E;have bh:=U<|And.intro bt (And.intro bx ca);have dd:decide ((0:X)<(nf:X))=decide (0<nf):=by simp
 clear W bf bt av bx ca ac bu;go_wp2;go_ret;refine⟨rfl,I z0 l0 d0,I z1 l1 d1,I z2 l2 d2,I z3 l3 d3,?_⟩;exact bh
def KA(h:bK a b n m)(f:cJ a n.aN j)(u:Pow a)(w:n.log<18446744073709551616)(t:dX (vw j.files) (iM n.log)=none):cw bF 57 #[aw b] a λo l=>o=aO .nilIface/\Z az a l:=by
 have c:=vR n.log w u;have B:=bK.cellAt h 17 rfl
 have i:∀W,Z az a W->aS W (R b 2)=H (aw n.aN)/\cw bF 97 #[aw n.aN,J<|iM n.log] W λo l=>o=aO (dA #[aK,.iface 219<|aw<|z<|G W])/\l=ct W (aq #[J<|iM n.log,am 10] 222):=λW s=>
  ⟨bK.cell ((s.block b (aj h) id).trans h) rfl,Gy (db:=n.aN) (K:=j) (iM n.log) (w:=W) (f.ar s<|λ_ _=>id) t⟩
 have g:∀(W:Y),cw bF 98 #[.iface 219<|aw<|z<|G W,.iface 55<|am 10] (ct W<|aq #[J<|iM n.log,am 10] 222) λo l=>o=aO (aL bU)/\l=ct W (aq #[J<|iM n.log,am 10] 222):=λW=>Pt (z<|G W) 10 _ (by have:(ct W<|aq #[J<|iM n.log,am 10] 222).heap[z<|G W]?=H (aq #[J<|iM n.log,am 10] 222 (0,0)):=aC _ rfl;rw[bR this];rfl);clear h f u t;generalize iM n.log=k at*;go_in
 go_wp2_with fail
 apply c.mono;rintro o q⟨rfl,e⟩;have d:Z az a q:=Z.aT e;obtain⟨C,x⟩:=i q d;have v:=g q;have p:=U<|d.alloc<|aq #[J k,am 10] 222;clear i g d e c;go_wp2_with fail
 apply x.mono;rintro o r⟨rfl,A⟩;subst r;go_wp2_with fail
 apply v.mono;rintro o r⟨rfl,A⟩;subst r;go_wp2;go_ret;exact⟨rfl,p⟩
def SR.ul(s:SR)(a:aa)(j n:M):SR:={s with memory:=a,iT:=n,bB:=s.bB+j}
def KM(s:SR)(a:s.memory=aK)(b:s.iT=0):s.ul aK 0 0=s:=by
 cases s;simp_all[SR.ul]
def Kb{lsqq:dW}(j:M):((lsqq.take j).map y).sum<=(lsqq.map y).sum:=by
 conv=>rhs;rw[<-bW j lsqq]
 rw[aM,gl];omega
def lj(a:dW):cA:=a.foldl (λm l=>gh [] m l) []
def zm(a:dW)(l:cA):lj (a++[l])=gh [] (lj a) l:=by simp[lj]
def Rn(l:cA):∀(p:Option E)(a:ab),(∀q,p=H q->q.key=a)->(p=none->∀e∈l,e.key≠a)->kM [] p l=mX a l:=by
 induction l with
 |nil=>intro p a _ _;rfl
 |cons e r f=>
  intro p a i d;rw[kM,mX];cases p with
  |none=>
   have b:pq [] none e=bU:=rfl;rw[dw b,cY (d rfl e<|by simp),f (H e) e.key (λq c=>by cases c;rfl)<|λg=>by cases g]
  |some q=>
   have c:=i q rfl;by_cases g:e.key=a
   .have b:pq [] (H q) e=bE:=by simp[pq,c,g]
    rw[cY (by rw[b];simp),dw g,f (H e) e.key (λx d=>by cases d;rfl)<|λh=>by cases h]
   .have b:pq [] (H q) e=bU:=by simp[pq,c];exactλh=>g h.symm
    rw[dw b,cY g,f (H e) e.key (λx d=>by cases d;rfl)<|λh=>by cases h]
def TW(h:gN e)(a:∀x∈e,x.bH<=m):eG [] e=jZ m e:=by
 unfold eG jZ;rw[eX.2<|λx b=>by simpa using a x b];exact Rn e none ⟨#[]⟩ (λq a=>by cases a)<|λ_=>h.key
def VW(v:Fp m k):∀j,j<=y k->lj (k.take j)=gK [] (k.take j).flatten/\gN (lj<|k.take j)/\(∀x∈lj (k.take j),x.bH<=m+j-1)/\jZ (m+j-1) (lj<|k.take j)=lj (k.take j):=by
 intro j;induction j with
 |zero=>intro _;exact⟨rfl,gN.nil,by simp[lj],rfl⟩
 |succ j u=>
  intro w;obtain⟨g,h,i,s⟩:=u (by omega);have a:j<y k:=by omega
  have t:=v.jd k[j]<|ap a;have l:∀x∈k[j],x.bH=(m+j-1)+1:=λx b=>by rw[v.num j a x b];omega
  have n:∀e∈k[j],e.key≠⟨#[]⟩:=λe a=>tY<|t e a;have o:lj (k.take<|j+1)=gh [] (lj<|k.take j) k[j]:=by rw[ai a,zm]
  have d:gN (fB (lj<|k.take j) k[j]):=h.fB n;have c:∀x∈fB (lj<|k.take j) k[j],x.bH<=(m+j-1)+1:=λx b=>by
   rcases xA b with q|q
   .have:=i x q;omega
   .rw[l x q];omega
  have p:=TW d c;have e:jZ ((m+j-1)+1) (gh [] (lj<|k.take j) k[j])=gh [] (lj<|k.take j) k[j]:=by
   show jZ _ (eG [] _)=eG [] _;rw[yA d<|.inr c,p]
  have f:=Gf h i n l [];rw[e,s,g]at f;have r:m+((j+1:M):X)-1=(m+j-1)+1:=by push_cast;omega
  rw[o,r];refine⟨?_,d.sub<|uM [] _ _,λx b=>c x<|(uM [] _ _).subset b,e⟩;rw[g,f,ai a,dP,yR];simp
def UL(a:dW):∀m,dQ m->dQ (a.foldl (λm l=>gh [] m l) m):=by
 induction a with
 |nil=>exactλm h=>h
 |cons l r b=>exactλm h=>b _<|ya h [] l
def GC(a:dW):dQ (lj a):=UL a [] dQ.nil
def UM(a:dW):∀m:cA,y (a.foldl (λm l=>gh [] m l) m)<=y m+(a.map y).sum:=by
 induction a with
 |nil=>intro m;simp
 |cons l r b=>
  intro m;have c:=b<|gh [] m l;have d:=ye [] m l;simp only[fO,aX,iL];omega
def GD(a:dW):y (lj a)<=(a.map y).sum:=by
 have:=UM a [];simpa[lj]using this
def Np(c:dW)(h:bK a b n m)(bf:cJ a n.aN j)(an:¬j.aZ n.aN b)(hp:Pow a)(hT:Steps a)(bT:1≠b/\¬j.aZ n.aN 1)(hl:n.log<18446744073709551616)(bg:Fp ((n.bB:X)+1) c)(o:dX (vw j.files) (iM n.log)=H (lO ((n.bB:X)+1) c))(cs:0<y (lO ((n.bB:X)+1) c))(eb:y (lO ((n.bB:X)+1) c)<=200000)(hm:n.memory=aK)(ch:n.iT=0)(et:n.bB<=1000000000)(ed:FZ a j b n []):cw bF 57 #[aw b] a λbs s=>bs=aO .nilIface/\∃S k,bK s b {n.ul S (y c) (c.map y).sum with gC:=bU,vF:=bE,kj:=bU} m/\s.ownsRow (z<|G a) 164 4 S (y<|lj c) (aE<|lj c)/\gw a s n.aN b j k/\k.files=j.files/\k.eO=j.eO/\(∀m,k.aZ n.aN m->j.aZ n.aN m):=by
 have ec:=aj h;have al:=vR n.log hl hp;have ef:=bK.cellAt h 17 rfl;have fk:IntKind.u64.wrap ((n.bB:X)+1)=(n.bB:X)+1:=by rw[gX];omega
 obtain⟨rb,K⟩:∃rb,lO ((n.bB:X)+1) c=rb:=⟨_,rfl⟩;have cv:∀W,Z az a W->aS W (R b 2)=H (aw n.aN)/\cw bF 97 #[aw n.aN,J<|iM n.log] W λbs s=>∃c V,bs=aO (dA #[bC c 0 (y rb) V,.nilIface])/\eJ s (z<|G W) (bC c 0 (y rb) V) rb/\y rb<=V/\V<=9223372036854775807/\bK s b n m/\Steps s/\∃k,gw a s n.aN b j k/\k.files=j.files/\k.eO=j.eO/\∀m,k.aZ n.aN m->j.aZ n.aN m:=λW f=>by have d:bK W b n m:=(f.block b ec id).trans h;refine⟨d.cell rfl,?_⟩;refine(KF (db:=n.aN) (K:=j) (iM n.log) rb (w:=W) (bf.ar f<|λ_ _=>id) (by rw[<-K];exact o) (by rw[<-K];omega)).mono ?_;rintro bs s⟨v',rfl,B,k,hd,e1,e2,e3⟩;have l:=(qO (sbqq:=b) bf f).trans<|gw.of hd;have i:bK s b n m:=(hd.ar.block b (aj d) an).trans d;have g:Steps s:=λq a=>hd.ar.cell (f.cell (hT q a) id<|da _ _<|hT q a) bT.2<|ag (da _ _<|hT q a) f.size;have w:=B;obtain⟨q1,⟨q2,q0⟩|⟨x,D,E,q2,L,O,p,r,A⟩⟩:=w;rw[K]at cs;omega;subst q2;exact⟨x,D,rfl,B,p,by unfold maxLen at r;omega,i,g,k,l,e1,e2,e3⟩
 obtain⟨HH,dm,bu,ax,HM⟩:=jR h cv bg K<|And.intro hm ch;have eq:=bg.sum;clear h bf hp hT bT o cs eb cv bg K hm ch hl;generalize iM n.log=es at*;go_in
 go_wp2_with fail
 apply al.mono;rintro bs w1⟨rfl,cb⟩;have bn:Z az a w1:=Z.aT cb;obtain⟨k2,hr⟩:=dm w1 bn;have ex:=bn.size;clear bn cb al;go_wp2_with fail
 apply hr.mono;rintro bs w2⟨rx,rc,rfl,F,cd,ce,bc,bx,bb⟩;have q9:=bK.cellAt bc 9 rfl;have ey:z (G w1)<=rx:=(F.lt rx rfl).1;have bh:=IN rx 0 rc bx bu (by rw[ae ax];exact cd) ce (F.lt rx rfl).2 (by rw[ae ax];exact eJ.bytes F);rw[ae ax]at bh;have cl:=Ut 10 w2;have eo:=(F.lt rx rfl).2;obtain⟨bt,dc,ds⟩:=dB bc bb (show∃k,FZ w2 k b n []from by obtain⟨k,hd,_⟩:=bb;exact⟨k,ed.ft hd⟩);clear bc bb hr F cd ce bx k2 ef;go_wp2_with fail
 apply cl.mono;rintro bs ek⟨rfl,hw⟩;subst ek;go_wp2_with fail
 apply bh.mono;rintro bs w3⟨x3,c3,vs,rfl,bi,bd,bo⟩;obtain⟨t,v⟩:∃t,ct w3 (aq #[I x3 (y c) c3,aL bE] 199)=t:=⟨_,rfl⟩;have bp:Z az w2 t:=by rw[<-v];exact bo.alloc _
 have N:Z az w3 t:=by rw[<-v];exact(Z.refl az w3).alloc _
 have fb:=bo.size;have bl:z (G t)=z (G w3)+1:=by rw[<-v];simp
 have C:t.heap[z<|G w3]?=H (aq #[I x3 (y c) c3,aL bE] 199 (0,0)):=by rw[<-v];exact aC _ rfl
 have cc:bK t b n m:=(bp.block b (aj bt) id).trans bt;have bv:Row t 1 (I x3 (y c) c3) (y c) vs:=dF<|N.own bi<|λ_ _ V=>V;have ca:∀e(a:e<y vs)(b:e<y c),t.ownsRow (z (G w2)+2) 164 4 vs[e] (y c[e]) (aE c[e]):=λe a b=>N.own (bd.2 e a b)<|λ_ _ V=>V;have ad:∀x,bV (I x3 (y c) c3)=H x->z (G w2)+2<=x/\x<z (G w3):=λx o=>bi.lt x o;have em:=cellAt C 0 rfl;obtain⟨dx,dk,dv,cT,dd,cM,ba,dn,dT⟩:=xH bd.1 bv ca ad C cc bp bl v;clear bi bd bo N C cc bv ca ad bp bl bh cl q9 v;go_wp2;rw[ae dT];go_loopw [47] (λbr wr=>∃(e:M)(S:aa),e<=y c/\br=am e/\bK wr b (n.ul S e ((c.take e).map y).sum) m/\wr.ownsRow (z<|G a) 164 4 S (y<|lj<|c.take e) (aE<|lj<|c.take e)/\Z (λm=>m=b) t wr) (λbr _=>y c-(intOf br).toNat)
 (case atStart=>have bs:=KM n HM.1 HM.2;refine⟨0,aK,bw _,by go_num,?_,bJ _ _ _ _,Z.refl _ _⟩;show bK t b (n.ul aK 0 0) m;rw[bs];exact cM)
 case round=>
  obtain⟨e,S,hj,rfl,d,g,i⟩:=hrel;have bl:=ae dn;have fd:=i.size;obtain⟨A,E⟩:∃A,n.bB+e=A:=⟨_,rfl⟩;obtain⟨r,l⟩:∃r,((c.take e).map y).sum=r:=⟨_,rfl⟩;have bm:=Kb (lsqq:=c) e;have cm:y c<=(c.map y).sum:=Dx<|λl hl=>(bu.one l hl).1;have en:y c<=31:=by omega
  have ck:y (c.take e).flatten=r:=by rw[<-l,rR]
  have bk:=GD<|c.take e;rw[l]at bk;rw[l]at bm;obtain⟨mx,mc,co⟩:=aB g;have eg:=bK.cellAt d 7 rfl;have ei:aS wr (R b 8)=H (am r):=by rw[<-l];exact d.cell rfl
  have ej:aS wr (R b 9)=H (aI A):=by rw[<-E];exact d.cell rfl
  by_cases D:e<y c
  .have e1:(e:X)<(y c:X):=by omega
   have e2:(0:X)<=(e:X):=by omega
   have cn:e<y vs:=by rw[ae dx];exact D
   have ac:=dv e cn D;have bq:∀x,bV vs[e]=H x->z (G w2)+2<=x/\x<z (G t):=λx o=>ac.lt x o;have cB:=i.own ac (λx o V=>by have:=(bq x o).1;omega);have cj:∃b a,x3=H (R b a)/\aS wr (R b<|a+e)=H vs[e]:=by
    obtain⟨q1,⟨q2,q0⟩|⟨x,B,el,q2,ev,hc⟩⟩:=ae dk
    .omega
    .cases q2;have eu:=cT x rfl;exact⟨x,B,rfl,i.cell (hc e _<|aH cn) (by omega)<|by omega⟩
   obtain⟨b3,o3,ee,cj⟩:=cj;subst ee;have W:((c.take<|e+1).map y).sum=r+y c[e]:=by rw[ai D,aM,gl,l];simp
   have L:=Kb (lsqq:=c)<|e+1;rw[W]at L;have cu:gh [] (lj<|c.take e) c[e]=lj (c.take<|e+1):=by rw[ai D,zm]
   obtain⟨Kx,cx⟩:=ae ds;obtain⟨mb,m1,m2,m3⟩:=cx.ex;have m4:jw wr mb (AQ []):=m2.dh<|((i.block mb (by have:=ba.size;have:=m3.lt;omega) m3.ne).trans<|ba.block mb m3.lt id);have au:=AW b (n.ul S e ((c.take e).map y).sum) m [] vs[e] c[e] d m1 m4 (by simp) (dF g) (λx o=>(g.lt x o).2) (dF cB) (λx o=>by have:=(bq x o).2;omega) (GC _) (by omega);have cE:cw bF 73 #[aw b,vs[e]] wr λbs s=>∃v',bs=aO v'/\s.ownsRow (z<|G wr) 164 4 v' (y<|lj<|c.take<|e+1) (aE<|lj<|c.take<|e+1)/\Z az wr s:=by rw[<-cu];exact au
   clear au m1 m2 m3 m4 cx;obtain⟨xj,fr,ao⟩:=aB ac;obtain⟨Q,ea⟩:∃Q,y c[e]=Q:=⟨_,rfl⟩;rw[ea]at ao W L;generalize vs[e]=vj at*;have fe:IntKind.i64.wrap ((r:X)+(Q:X))=(r:X)+(Q:X):=by rw[bO];omega
   have ff:IntKind.u64.wrap ((A:X)+1)=(A:X)+1:=by rw[gX];omega
   have HF:=U (show∀p f,Z az wr p->p.ownsRow (z<|G wr) 164 4 f (y<|lj<|c.take<|e+1) (aE<|lj<|c.take<|e+1)->(aS p (R b 7)=H S/\aS p (R b 8)=H (am r)/\aS p (R b 9)=H (aI A)/\∀br,p.frozen? (R b br)=bE)/\bK (bZ (bZ (bZ p (R b 7) f) (R b 8)<|am<|(r:X)+Q) (R b 9)<|aI<|(A:X)+1) b (n.ul f (e+1) ((c.take<|e+1).map y).sum) m/\(bZ (bZ (bZ p (R b 7) f) (R b 8)<|am<|(r:X)+Q) (R b 9)<|aI<|(A:X)+1).ownsRow (z<|G a) 164 4 f (y<|lj<|c.take<|e+1) (aE<|lj<|c.take<|e+1)/\Z (λm=>m=b) t (bZ (bZ (bZ p (R b 7) f) (R b 8)<|am<|(r:X)+Q) (R b 9)<|aI<|(A:X)+1)fromλp f O w=>by
    have B:bK p b (n.ul S e ((c.take e).map y).sum) m:=(O.block b (aj d) id).trans d;have P:Z (λm=>m=b) p (bZ (bZ (bZ p (R b 7) f) (R b 8)<|am<|(r:X)+Q) (R b 9)<|aI<|(A:X)+1):=(((Z.refl (λm=>m=b) p).setCell b 7 _<|.inl rfl).setCell b 8 _<|.inl rfl).setCell b 9 _<|.inl rfl;refine⟨⟨B.cell rfl,by rw[<-l];exact B.cell rfl,by rw[<-E];exact B.cell rfl,λbr=>B.free⟩,?_,?_,(i.ci O).trans P<|λ_ V=>.inl V⟩
    .have hx:=aQ (i:=9) (u:=aI<|(A:X)+1)<|aQ (i:=8) (u:=am<|(r:X)+Q)<|aQ (i:=7) (u:=f) B;have e9:((A:X)+1)=((n.bB+(e+1):M):X):=by rw[<-E];push_cast;omega
     have e8:((r:X)+Q)=((((c.take<|e+1).map y).sum:M):X):=by rw[W];push_cast;omega
     rw[e9,e8]at hx|-;exact hx.trans rfl
    .exact eS (P.own w (λx o V=>by have:=(w.lt x o).1;have:=aj d;omega)) (by omega))
   clear d g i ac bq cB W L cu bk ck bm cm E l;subst co;subst ao;go_wp2_with fail
   apply cE.mono;rintro bs p⟨f,rfl,w,O⟩;obtain⟨fn,fl,cp⟩:=aB w;obtain⟨⟨y7,y8,y9,fz⟩,hF⟩:=HF p f O w;have av:=U hF;clear hF O w cE;subst cp;go_wp2;go_roundw;case rel=>exact⟨e+1,_,D,by go_num,av.1,av.2.1,av.2.2⟩
   case measure=>simp[intOf];omega
  .have e1:¬(e:X)<(y c:X):=by omega
   have f:e=y c:=by omega
   have p:=(i.block _ (by omega)<|by omega).trans dd;have y1:=cellAt p 1 rfl;have fz:∀br,wr.frozen? (R b br)=bE:=λbr=>d.free;have bq:=bK.cellAt d 18 rfl;have cj:=bK.cellAt d 19 rfl;have cn:=bK.cellAt d 20 rfl;have ao:=aj p;have au:=aj d;have av:z (G w3)≠b:=by omega
   obtain⟨B,O,Q,L⟩:=gx d g i f;clear d g i p f bm cm ck bk E l eg ei ej co;go_wp2_with fail
   rename_i KK w;apply CS KK
   .intro ac;go_region
    all_goals exact ac
   apply w;clear w;go_wp2;go_ret;have f:=ae L;subst f;have d:=ae B;have g:=ae O;rw[bN]at d g;obtain⟨k,hd,e3,e4,e5⟩:=ae dc;have P:Z (λm=>m=b) wr ((bZ (bZ (bZ wr (R b 18)<|aL bU) (R b 19)<|aL bE) (R b 20)<|aL bU).drew):=((((Z.refl (λm=>m=b) wr).setCell b 18 _<|.inl rfl).setCell b 19 _<|.inl rfl).setCell b 20 _<|.inl rfl).trans (bX _ _)<|λ_ V=>.inl V;have W:=((ba.mono (T:=λm=>m=b) cG).trans Q<|λ_ V=>.inl V).trans P<|λ_ V=>.inl V;refine⟨rfl,S,k,?_,P.own g (λx o V=>by have:=(g.lt x o).1;omega),hd.trans<|BE hd.ok (λq=>an<|e5 _ q) W,e3,e4,e5⟩;have hx:=aQ (i:=20) (u:=aL bU)<|aQ (i:=19) (u:=aL bE)<|aQ (i:=18) (u:=aL bU) d;exact Eq.trans (show _=_ from hx) rfl
def Rv(next d c:M)(f:cr cP)(h:cJ a b j)(hT:Steps a)(br:¬j.aZ b 1)(h4:y f=4)(hn:next<18446744073709551616)(hl:d<next)(bn:c<18446744073709551616)(bs:y f.flatten<=1000000)(av:∀cb∈f.flatten,cb.oe)(F:(f.flatten.map bI.num).Nodup)(E:∀cb∈f.flatten,cb.num<next/\cb.num≠d)(hg:dX (vw j.files) gR=H (iG next d c f)):cw bF 94 #[aw b] a λO s=>
 ∃t n i v o c1 w p c2 x r c3,O=aO (dA #[eD #[aI next,aI d,aI c,I t n i,I v o c1,I w p c2,I x r c3],.nilIface])/\(∀(bt:M)(bu:aa)(bb:cP),[I t n i,I v o c1,I w p c2,I x r c3][bt]?=H bu->f[bt]?=H bb->s.ownsRow (z<|G a) 266 4 bu (y bb) (dj bb))/\∃g,rG a s b j g/\g.files=j.files/\g.eO=j.eO/\∀k,g.aZ b k->j.aZ b k:=by
 obtain⟨L,l⟩:∃L,ct a (aq #[aI 0,aI 0,aI 0,aK,aK,aK,aK] 187)=L:=⟨_,rfl⟩
 have C:Z az a L:=by rw[<-l];exact(Z.refl az a).alloc _
 have P:L.heap[z<|G a]?=H (aq #[aI 0,aI 0,aI 0,aK,aK,aK,aK] 187 (0,0)):=by rw[<-l];exact aC _ rfl
 have cl:z (G L)=z (G a)+1:=by rw[<-l];simp
 have ao:y (iG next d c f)<=21000100/\0<y (iG next d c f):=by
  have h1:iG next d c f=iD (le 8 (next:M)++(le 8 (d:M)++(le 8 (c:M)++pZ f 0))):=by
   unfold iG pZ;simp
  have h2:=zY f 0;rw[h1,gu];simp only[af,bY];omega
 have bf:=U h.lt
 have B:cw bF 97 #[aw b,J gR] L λO s=>∃bx N,O=aO (dA #[bC bx 0 (y<|iG next d c f) N,.nilIface])/\s.heap[z<|G a]?=H (aq #[aI 0,aI 0,aI 0,aK,aK,aK,aK] 187 (0,0))/\(∃g,rG a s b j g/\g.files=j.files/\g.eO=j.eO/\∀k,g.aZ b k->j.aZ b k)/\z (G a)<z (G s)/\cw bF 150 #[bC bx 0 (y<|iG next d c f) N] s λO ax=>
  ∃t n i v o c1 w p c2 x r c3,O=aO (dA #[eD #[aI next,aI d,aI c,I t n i,I v o c1,I w p c2,I x r c3],aL bU])/\
  (∀(bt:M)(bu:aa)(bb:cP),[I t n i,I v o c1,I w p c2,I x r c3][bt]?=H bu->f[bt]?=H bb->ax.ownsRow (z<|G s) 266 4 bu (y bb) (dj bb))/\Z az s ax:=by
  apply(KF (db:=b) (K:=j) gR _ (w:=L) (h.ar C<|λ_ _=>id) hg<|by omega).mono
  rintro O s⟨v',rfl,ho,g,A,e1,e2,W⟩
  have bp:=ho
  obtain⟨q1,⟨q2,q0⟩|⟨cd,cp,cc,q2,ce,hh,bo,cj,bq⟩⟩:=bp
  .omega
  .subst q2;have bm:Steps s:=Steps.ar (Steps.ar hT C id) A.ar br;have Q:¬j.aZ b (z<|G a):=λN=>by have:=h.lt _ N;omega
   refine⟨cd,cp,rfl,(A.ar.block _ (aj P) Q).trans P,⟨g,⟨A.ok,(C.mono (T:=j.aZ b) cG).trans A.ar<|λ_ N=>.inl N,λk N=>.inl<|W k N⟩,e1,e2,W⟩,by have:=A.ar.size;omega,?_⟩;exact OD cd 0 cp next d c f bm h4 hn hl bn bs av F E bo (ho.lt cd rfl).2<|eJ.bytes ho
 have an:=λW=>Ut 10 W
 unfold gR at B
 obtain⟨SL,al⟩:∃SL,y (iG next d c f)=SL:=⟨_,rfl⟩
 rw[al]at B
 have bl:=U l
 have ck:∀a:Y,(binOp .neq 50 .nilIface .nilIface).run bF a=.ok (aL bE) a:=λ_=>rfl
 have ca:∀(bx:Bool)(a:Y),(Op.unary .not<|aL bx).run bF a=.ok (aL<|!bx) a:=λ_ _=>rfl
 clear h hT hg av F E C P l al ao
 go_in
 go_wp2_with fail
 rw[ae bl]
 apply B.mono
 rintro O w2⟨bx,N,rfl,ad,ac,au,D⟩
 have bg:=U ad
 have bd:=U ac
 clear ad ac B
 go_wp2_with fail
 apply(an _).mono
 rintro O bv⟨rfl,hw⟩
 subst bv
 go_wp2_with fail
 apply D.mono
 rintro O w3⟨t,n,i,v,o,c1,w,p,c2,x,r,c3,rfl,m,V⟩
 have e:=(V.block _ au id).trans bg
 have bT:=aj e
 have bk:=U V
 have bi:=U m
 have t0:=cellAt e 0 rfl
 have t1:=cellAt e 1 rfl
 have t2:=cellAt e 2 rfl
 have t3:=cellAt e 3 rfl
 have t4:=cellAt e 4 rfl
 have t5:=cellAt e 5 rfl
 have t6:=cellAt e 6 rfl
 have ch:∀bc,w3.frozen? (R (z<|G a) bc)=bE:=λbc=>by simp[World.frozen?,e]
 have bh:=U e
 clear m V e D an
 go_wp2
 have K:=aQ (i:=6) (u:=I x r c3)<|aQ (i:=5) (u:=I w p c2)<|aQ (i:=4) (u:=I v o c1)<|aQ (i:=3) (u:=I t n i)<|aQ (i:=2) (u:=aI c)<|aQ (i:=1) (u:=aI d)<|aQ (i:=0) (u:=aI next) bh
 have ba:=((((((((Z.refl (λk=>k=z (G a)) w3).setCell (z<|G a) 0 (aI next)<|.inl rfl).setCell (z<|G a) 1 (aI d)<|.inl rfl).setCell (z<|G a) 2 (aI c)<|.inl rfl).setCell (z<|G a) 3 (I t n i)<|.inl rfl).setCell (z<|G a) 4 (I v o c1)<|.inl rfl).setCell (z<|G a) 5 (I w p c2)<|.inl rfl).setCell (z<|G a) 6 (I x r c3)<|.inl rfl).alloc<|aq #[aI next,aI d,aI c,I t n i,I v o c1,I w p c2,I x r c3] 187
 have S:=(fX (aq #[aI next,aI d,aI c,I t n i,I v o c1,I w p c2,I x r c3] 187)<|aj K).trans K
 refine cI (vM rfl _ _ (z<|G a) next d c _ _ _ _ _ _ rfl S ⟨_,_,_,rfl⟩ ⟨_,_,_,rfl⟩ ⟨_,_,_,rfl⟩ ⟨_,_,_,rfl⟩) rfl ?_
 refine⟨t,n,i,v,o,c1,w,p,c2,x,r,c3,rfl,?_,?_⟩
 .intro bt bu bb hv hD;have hr:=bi bt bu bb hv hD;exact eS (ba.own hr (λq b O=>by have:=(hr.lt q b).1;have:q=z (G a):=O;omega))<|by omega
 .obtain⟨g,A,e1,e2,W⟩:=ae bd;have ax:Z (λk=>k=z (G a)) w2 _:=(bk.mono (T:=λk=>k=z (G a)) cG).trans ba<|λ_ N=>.inl N;have Q:∀k,g.aZ b k->k<z (G a):=λk N=>bf k<|W k N;exact⟨g,⟨A.ok.ar ax (λk N O=>by have:=Q k N;have:k=z (G a):=O;omega),A.ar.trans ax<|λk O=>.inr (by have:k=z (G a):=O;omega),A.aZ⟩,e1,e2,W⟩
structure WT(W:Y)(db sb:M)(K K2:DK)(u0 u1 u2 u3:aa)(a b c d a' b' c' d':cP):Prop where
 aN:cJ W db K2
 same:K2.files=K.files/\K2.eO=K.eO/\∀k,K2.aZ db k->K.aZ db k
 l0:Hy W K2 db sb u0 a'
 l1:Hy W K2 db sb u1 b'
 l2:Hy W K2 db sb u2 c'
 l3:Hy W K2 db sb u3 d'
 k0:kY a a'
 k1:kY b b'
 k2:kY c c'
 k3:kY d d'
 GJ:((a'++b'++c'++d').map bI.tb).Nodup
def WT.ar{u0 u1 u2 u3:aa}{p r e s g b' k l:cP}(h:WT a b c j O u0 u1 u2 u3 p r e s g b' k l)(n:Z (λq=>q=c) a C)(o:¬j.aZ b c):WT C b c j O u0 u1 u2 u3 p r e s g b' k l:=by
 have m:=h.aN.ar n<|λb e a=>o<|h.same.2.2 _<|a▸e;have d:gw a C b c O O:=⟨m,n.mono<|λ_ e=>.inl<|.inr e,λ_ e=>.inl e⟩;exact⟨m,h.same,h.l0.ft d<|λ_ _=>rfl,h.l1.ft d<|λ_ _=>rfl,h.l2.ft d<|λ_ _=>rfl,h.l3.ft d<|λ_ _=>rfl,h.k0,h.k1,h.k2,h.k3,h.GJ⟩
def oe.of(h:Fj S):S.oe:=by
 refine⟨h.num,by have:=h.small;omega,?_⟩;rw[h.ks];have b:=lq (ks:=bM 0 S.cs)<|λk a=>(h.idx.can k a).fits;have a:=h.idx.len;unfold fc;rw[af,bY];omega
def Uh:iM 1=⟨#[108,111,103,45,49]⟩:=by unfold iM;rw[PF];decide
def oZ(j:Row a b d c x):∃l i,d=I l c i:=by
 obtain⟨k,⟨e,h⟩|⟨m,g,f,e,_⟩⟩:=j;exact⟨none,0,by rw[e,h]⟩;exact⟨_,_,e⟩
def CK.XB{q sbqq:M}{K C w:DK}{u0 u1 u2 u3:aa}{D:cr cP}(s:CK a f q C w b c x [u0,u1,u2,u3] D)(P:oY D=oY [i,p,t,u])(d:C.files=K.files/\C.eO=K.eO/\∀v,C.aZ q v->K.aZ q v)(ad:sbqq<z (G a))(F:∀o∈i++p++t++u,Fj o)(hf:∀o∈i++p++t++u,dX (vw K.files) (gJ o.num)=H (mw o.cs)):∃h j k l,WT f q sbqq K w u0 u1 u2 u3 i p t u h j k l:=by
 have L:=s.Dn;obtain⟨h,j,k,l,rfl⟩:∃h j k l,D=[h,j,k,l]:=by rcases D with _|⟨m,_|⟨N,_|⟨T,_|⟨v3,_|⟨v4,ac⟩⟩⟩⟩⟩<;>simp at L;exact⟨_,_,_,_,rfl⟩
 simp only[oY,aX,eY,mP,sC]at P;obtain⟨s0,s1,s2,s3⟩:=P;have Q:kY i h:=s0;have S:kY p j:=s1;have V:kY t k:=s2;have W:kY u l:=s3;have O:=s.ord;have r:kY (i++p++t++u) (h++j++k++l):=((Q.append S).append V).append W;have A:=r.WY F;have g:∀v,c<v->v<z (G f)->Aside f w q sbqq v:=λv e d=>⟨d,λt=>by have:=s.low v<|s.same.2.2 v t;omega,by omega⟩;have B:∀o∈h++j++k++l,rO f q (vw w.files) (Aside f w q sbqq) o:=λo e=>by obtain⟨N,m,E,T,g2,g3,g4,_⟩:=s.ze o (by simpa using e);obtain⟨q1,q2,q3,q4,q5⟩:=A o e;refine⟨⟨N,0,m,E,g N g3 g4⟩,g o.tb T g2,q1,q5,q2,q3,q4,?_⟩;obtain⟨al,hu,ac⟩:=r.mem e;rw[s.same.1,d.1,<-xh ac,<-zU ac];exact hf al hu
 have n:∀(N:M)(ac:aa)(T:cP),[u0,u1,u2,u3][N]?=H ac->[h,j,k,l][N]?=H T->(∀o∈T,o∈h++j++k++l)->Hy f w q sbqq ac T:=λN ac T m hT E=>
  ⟨dF<|s.rows N ac T m hT,λv c=>g v (s.own m c).1 (s.own m c).2,λo e=>B o<|E o e⟩
 refine⟨h,j,k,l,s.aN,⟨s.same.1.trans d.1,s.same.2.1.trans d.2.1,λv t=>d.2.2 v<|s.same.2.2 v t⟩,n 0 _ _ rfl rfl (λo e=>by simp[e]),n 1 _ _ rfl rfl (λo e=>by simp[e]),n 2 _ _ rfl rfl (λo e=>by simp[e]),n 3 _ _ rfl rfl (λo e=>by simp[e]),Q,S,V,W,?_⟩;have:=s.GJ;simpa using this
def Rx{nx lg:M}(bh:bK a c n m)(hs:n.aN=b)(au:¬j.aZ b c)(e:wN a b j i p t u g B P nx lg D k):cw bF 56 #[aw c] a λx o=>x=aO .nilIface/\∃u0 u1 u2 u3,bK o c (n.sX u0 u1 u2 u3 nx lg B<|decide<|0<y j.files) m/\(∃L N O Q S,WT o b c j L u0 u1 u2 u3 i p t u N O Q S)/\Z (λq=>j.aZ b q\/q=c) a o:=by
 subst hs;have r:=e.aN;have W:=aj bh;have K:=e.count;have ax:nx<18446744073709551616:=by have:=e.nx;have:=e.JU;omega
 have bc:B<18446744073709551616:=by have:=e.bn;have:=e.JU;omega
 have ao:y j.files<=100000000:=by
  have C:=r.nodup;have f:=yl (l:=(vw j.files).map (·.1)) (m:=gR::iM lg::(i++p++t++u).map (λan=>gJ an.num)) C (λbf V=>by
   obtain⟨bs,w⟩:=rF V;rcases e.qX.names bf bs w with x|⟨x,_⟩|⟨an,h,x⟩
   .simp[x]
   .simp[x]
   .exact aG _ (aG _ (aY.2 ⟨an,h,x.symm⟩)))
  have e1:y ((vw j.files).map (·.1))=y j.files:=by simp[vw]
  rw[e1]at f;simp only[ay,cV]at f;omega
 refine Wl a c n m nx lg B (y j.files) (λo v0 v1 v2 v3=>∃F,cJ o n.aN F/\(F.files=j.files/\F.eO=j.eO/\∀q,F.aZ n.aN q->j.aZ n.aN q)/\Z (j.aZ n.aN) a o/\∀(E:M)(ad:aa)(al:cP),[v0,v1,v2,v3][E]?=H ad->[i,p,t,u][E]?=H al->Row o 4 ad (y al) (dj al)/\∀q,bV ad=H q->z (G a)<=q/\q<z (G o)) (λo u0 u1 u2 u3=>∃L N O Q S,WT o n.aN c j L u0 u1 u2 u3 i p t u N O Q S) (j.aZ n.aN) bh r.lt au ?_ ?_ ?_;rcases e.qX.state with f|⟨f,rfl,rfl,rfl,rfl,rfl,rfl,rfl⟩;apply(Rv nx lg B [i,p,t,u] r e.steps e.fC rfl ax e.qX.lt bc (by simpa using K) (λan h=>oe.of<|e.qX.jd an<|by simpa using h) (by simpa using e.qX.zp) (λan h=>e.qX.low an<|by simpa using h) f).mono;rintro x o⟨x0,V,c0,x1,n1,c1,x2,n2,c2,x3,n3,c3,rfl,d,F,C,e1,e2,e3⟩;exact⟨x0,V,c0,x1,n1,c1,x2,n2,c2,x3,n3,c3,rfl,⟨F,C.ok,⟨e1,e2,e3⟩,C.ar,λE ad al v T=>⟨dF<|d E ad al v T,λq s=>(d E ad al v T).lt q s⟩⟩,C.ar⟩;refine(Rw r ao e.pow (λac V=>?_) f).mono ?_;(have C:ac∈(vw j.files).map (·.1):=by simpa[vw]using V);obtain⟨bs,w⟩:=rF C;rcases e.qX.names ac bs w with x|⟨x,_⟩|⟨an,h,x⟩;rw[x,f]at w;cases w;rw[x,Uh];simp at h;rintro x o⟨rfl,h⟩;have A:Z (j.aZ n.aN) a o:=h.mono cG;refine⟨none,0,0,none,0,0,none,0,0,none,0,0,rfl,⟨j,r.ar h<|λ_ _=>id,⟨rfl,rfl,λ_ t=>t⟩,A,λE ad al v T=>?_⟩,A⟩;(have x:ad=aK/\al=[]:=by rcases E with _|_|_|_|E<;>simp at v T<;>exact⟨v.symm,T⟩);rw[x.1,x.2];exact⟨⟨rfl,.inl ⟨rfl,rfl⟩⟩,λq s=>by cases s⟩;rintro W1 bg v0 v1 v2 v3⟨F,av,f,bb,d⟩C;obtain⟨x0,c0,e0⟩:=oZ (d 0 _ _ rfl rfl).1;obtain⟨x1,c1,e1⟩:=oZ (d 1 _ _ rfl rfl).1;obtain⟨x2,c2,e2⟩:=oZ (d 2 _ _ rfl rfl).1;obtain⟨x3,c3,e3⟩:=oZ (d 3 _ _ rfl rfl).1;subst e0 e1 e2 e3;have ac:Z (j.aZ n.aN) a bg:=bb.ci C;refine(Ed (db:=n.aN) (K:=F) [i,p,t,u] x0 x1 x2 x3 _ c0 _ c1 _ c2 _ c3 (av.ar C<|λ_ _=>id) (Steps.ar e.steps ac e.fC) (e.pow.ar ac e.me) (λq=>e.fC<|f.2.2 _ q) (λq=>e.me<|f.2.2 _ q) rfl (λE ad bd v V=>C.row (d E ad bd v V).1<|λq s=>⟨id,((d E ad bd v V).2 q s).2⟩) (λE ad v q s=>?_) (λan h=>e.qX.jd an<|by simpa using h) (λan h=>by rw[f.1];exact e.qX.ze an<|by simpa using h) (λE bd hj V=>?_)<|by simpa using K).mono ?_;(have hj:∃al,[i,p,t,u][E]?=H al:=by rcases E with _|_|_|_|E;exact⟨_,rfl⟩;exact⟨_,rfl⟩;exact⟨_,rfl⟩;exact⟨_,rfl⟩;simp at v);obtain⟨al,T⟩:=hj;have hh:=(d E ad al v T).2 q s;exact⟨ag hh.2 C.size,λa=>by have:=r.lt q<|f.2.2 q a;omega⟩;rcases E with _|_|_|_|E;omega;cases V;exact e.s1;cases V;exact e.s2;cases V;exact e.s3;simp at V;rintro x o⟨y0,m0,d0,y1,m1,d1,y2,m2,d2,y3,m3,d3,rfl,L,Ts,hI,ba⟩;refine⟨y0,m0,d0,y1,m1,d1,y2,m2,d2,y3,m3,d3,rfl,?_,hI.ar.mono<|λq t=>.inl<|f.2.2 q t⟩;obtain⟨N,O,Q,S,s⟩:=hI.XB (sbqq:=c) (K:=j) ba f (ag W ac.size) e.qX.jd e.qX.ze;exact⟨L,N,O,Q,S,s⟩;rintro bg u0 u1 u2 u3⟨L,N,O,Q,S,s⟩W' h;have f:=s.ar h au;refine⟨⟨L,N,O,Q,S,f⟩,?_⟩;refine(EA f.aN (by rw[s.same.1];exact ao)).mono ?_;rintro x o⟨v',ns,rfl,hp,ho,A⟩;obtain⟨bf,C,v⟩:=aB ho;(have V:y ns=y j.files:=by have:=hp.length_eq;rw[s.same.1]at this;simpa using this);rw[v,V];exact⟨bf,C,rfl,A⟩
def Ea(h:Fp ((b:X)+1) k):lj k=gK [] k.flatten/\dQ (gK [] k.flatten)/\jZ (b+y k:M) (gK [] k.flatten)=gK [] k.flatten/\rN 5 (gK [] k.flatten)/\y (gK [] k.flatten)<=(k.map y).sum:=by
 obtain⟨c,d,e,a⟩:=VW h (y k)<|ah _;rw[bN]at c d e a;have g:(b:X)+1+y k-1=((b+y k:M):X):=by push_cast;omega
 rw[g]at a;have f:=GD k;rw[<-c];refine⟨rfl,d.mq,a,?_,f⟩;rcases wD k with q|⟨r,l,q⟩;rw[q];exact rN.nil _;rw[q,wE,zm];exact xZ (GC r) (by simp) l
def Cr{s:SR}{B C E F:cP}{al g an nx K:M}(e:wN a b j i p t u al g an nx K D k)(d:WT f b c j O s.l0 s.l1 s.l2 s.l3 i p t u B C E F)(n:Z (λq=>j.aZ b q\/q=c) a f)(ac:z (G a)<=c)(L:s.aN=b)(N:s.next=nx)(P:s.log=K)(Q:s.gC=D)(m:s.bB=g+y k)(S:s.iT=(k.map y).sum)(T:s.vF=bE)(hm:ku f s.memory (gK [] k.flatten))(r:∀ao,bV s.memory=H ao->Aside f O b c ao)(h:1<=s.mem/\s.mem<=32/\2<=s.wH/\s.wH<=6)(o:s.kj=bU->s.gC=bU)(x:FZ f O c s []):Inv f c s O (gK [] k.flatten) B C E F al g an k []:=by
 obtain⟨_,p1,p2,p3,p4⟩:=Ea e.lp;subst L N P Q;have A:vw O.files=vw j.files:=by rw[d.same.1]
 have w:=e.steps.lt;have v:=e.pow.lt;refine{st:=?_,qX:=?_,pr:=?_,lp:=e.lp,mem:=by rw[m];exact p2,MF:=λad l=>?_,Wh:=p4,Xe:=p3,pV:=x,VC:=λ_ q=>(by cases q),BK:=m,Vi:=S,vF:=T,GJ:=d.GJ,nx:=e.nx,bn:=by rw[m];exact e.bn,eO:=by rw[d.same.2.1];exact e.eO,TO:=h,loose:=o,Ui:=e.Ui,mN:=e.JU};refine⟨hm,r,d.l0,d.l1,d.l2,d.l3,d.aN,λt=>?_,⟨Steps.ar e.steps n (λt=>t.elim e.fC<|λt=>by omega),e.pow.ar n (λt=>t.elim e.me<|λt=>by omega),⟨ag w n.size,λt=>e.fC<|d.same.2.2 _ t,by omega⟩,⟨ag v n.size,λt=>e.me<|d.same.2.2 _ t,by omega⟩⟩,?_,e.mN,p1,?_,d.k1.side e.s1,d.k2.side e.s2,d.k3.side e.s3⟩;have:=e.aN.lt _<|d.same.2.2 _ t;omega;rw[d.k0.cf,d.k1.cf,d.k2.cf,d.k3.cf];exact e.qI;intro ad l;rcases Et l with V|V;simp at V;obtain⟨au,W,l⟩:=bz.1 V;exact e.lp.jd au W ad l;rw[A];exact e.qX.YI d.k0 d.k1 d.k2 d.k3;rw[kY.cF d.k0 d.k1 d.k2 d.k3];exact e.pr;rw[m];rcases Et l with q|q;cases q;exact e.lp.wy ad q
def wN.ar{w w':Y}{d:cP}(h:wN w b j p t u d c g l B P D k)(a:Z az w w'):wN w' b j p t u d c g l B P D k:={h with aN:=h.aN.ar a<|λ_ _=>id,steps:=Steps.ar h.steps a id,pow:=h.pow.ar a id}
def TE(h:k≠[]):0<y (lO m k):=by
 rcases k with _|⟨l,r⟩;exact absurd rfl h;unfold lO CO;simp only[af,gu,bY];omega
structure xR(w w':Y)(db sb:M)(mem wH:X)(K:DK)(C N:M)(R0:ab->Option ab)(s:SR)(K':DK)(m:cA)(a b c d:cP)(tb:M)(ls:dW):Prop where
 box:bK w' sb s 0
 inv:Inv w' sb s K' m a b c d C tb N ls []
 wI:∀q,fU s.bB (m::cF a b c d) q=R0 q
 same:s.aN=db/\s.closed=bE/\s.mem=mem/\s.wH=wH/\s.ia=0/\s.lT=H (z (G w)+1)
 ft:gw w w' db sb K K'
 size:z (G w)+4<=z (G w')
 aZ:∀k,K'.aZ db k->K.aZ db k\/z (G w)+4<=k
def Fl(w i:Y)(h c:M)(e a:X)(K:DK)(C N:M)(g:ab->Option ab):Prop:=∃s f n j k l m d b,xR w i h c e a K C N g s f n j k l m d b
def xR.step{x v:ab->Option ab}{d:SR}{p:DK}{S T A V r s c' t:cP}{o i:M}{h:dW}(w:xR a f b c m F j g l x n O e S T A V o k)(E:bK C c d 0)(D:Inv C c d p L r s c' t B i P h [])(N:∀q,fU d.bB (L::cF r s c' t) q=v q)(K:d.aN=b/\d.closed=bE/\d.mem=m/\d.wH=F/\d.ia=0/\d.lT=H (z (G a)+1))(u:gw f C b c O p):xR a C b c m F j B P v d p L r s c' t i h:=⟨E,D,N,K,w.ft.trans u,aD w.size u.ar.size,λQ A=>(u.aZ Q A).elim (λq=>w.aZ Q q)<|λq=>.inr<|aD w.size q⟩
def xR.kept{h:Y}{r:ab->Option ab}{o:DK}(v:xR a C b (z (G a)+2) m Q j c g r n O e i p t u l k)(s:gw C h b (z (G a)+2) O o)(d:∀w,j.aZ b w->w<z (G a)):h.heap[z (G a)+3]?=C.heap[z (G a)+3]?:=s.ar.block _ (by have:=v.size;omega) (λt=>t.elim (λt=>by
 rcases v.aZ _ t with q|q
 .have:=d _ q;omega
 .omega) (λt=>by omega))
def Ad{e:Fs}(h:rO a b e W S):SI a S:=by
 obtain⟨g,d,c,f,_⟩:=h.mem;exact⟨h.num,_,_,_,_,_,_,_,_,f⟩
def Rg(h d:X)(o:wN a b j i p t u c g l B P D k)(ho:1<=h/\h<=32/\2<=d/\d<=6)(hN:l+1<=100000000):cw bF 27 #[aw b,eD #[am h,am d]] a λQ v=>Q=aO (dA #[aw<|z (G a)+2,.nilIface])/\Fl a v b (z (G a)+2) h d j c (l+1) (fU (g+y k:M)<|gK [] k.flatten::cF i p t u):=by
 have w:=o.aN.lt;have V:¬j.aZ b (z (G a)+2):=λq=>by have:=w _ q;omega
 have bq:B<18446744073709551616:=by have:=o.nx;have:=o.JU;omega
 have bf:P<18446744073709551616:=by have:=o.qX.lt;omega
 have bp:=o.bn;have bn:=o.count;refine Wc b h d a ho (λW=>Z az a W/\bK W (z (G a)+2) (SR.fresh b h d<|z (G a)+1) 0/\jw W (z (G a)+1) []/\z (G W)=z (G a)+4) (λW=>∃u0 u1 u2 u3 L C E F K,bK W (z (G a)+2) ((SR.fresh b h d<|z (G a)+1).sX u0 u1 u2 u3 B P g<|decide<|0<y j.files) 0/\WT W b (z (G a)+2) j L u0 u1 u2 u3 i p t u C E F K/\Z (λq=>j.aZ b q\/q=z (G a)+2) a W/\jw W (z (G a)+1) []/\z (G a)+4<=z (G W)) (λW=>∃bi x C E F K,xR a W b (z (G a)+2) h d j c l (fU (g+y k:M)<|gK [] k.flatten::cF i p t u) bi x (gK [] k.flatten) C E F K g k) (λW=>∃bi x C E F K,xR a W b (z (G a)+2) h d j c l (fU (g+y k:M)<|gK [] k.flatten::cF i p t u) bi x (gK [] k.flatten) C E F K g k) (λW=>Fl a W b (z (G a)+2) h d j c (l+1)<|fU (g+y k:M)<|gK [] k.flatten::cF i p t u) (λW h1 h2 h3 h4=>⟨h1,h2,h3,h4⟩) ?_ ?_ ?_ ?_;rintro W⟨r,hb,bb,bd⟩;apply(Rx hb rfl V<|o.ar r).mono;rintro Q v⟨rfl,u0,u1,u2,u3,S,⟨L,C,E,F,K,e⟩,s⟩;have N:=s.size;refine⟨rfl,⟨u0,u1,u2,u3,L,C,E,F,K,S,e,(r.mono (T:=λq=>j.aZ b q\/q=z (G a)+2) cG).trans s<|λ_ q=>.inl q,bb.dh (s.block _ (by omega)<|λq=>q.elim (λq=>by have:=w _ q;omega)<|λq=>by omega),by omega⟩,?_⟩;exact s.block _ (by omega)<|λq=>q.elim (λq=>by have:=w _ q;omega)<|λq=>by omega
 .rintro W⟨u0,u1,u2,u3,L,C,E,F,K,hb,e,r,bb,bd⟩;have bh:vw L.files=vw j.files:=by rw[e.same.1]
  have N:=kY.cF e.k0 e.k1 e.k2 e.k3;have bc:¬L.aZ b (z (G a)+2):=λq=>V<|e.same.2.2 _ q;have ax:Pow W:=o.pow.ar r<|λq=>q.elim o.me (λq=>by have:=o.pow.lt;omega);have bm:Steps W:=Steps.ar o.steps r<|λq=>q.elim o.fC (λq=>by have:=o.steps.lt;omega);have au:∀v,Z (λq=>L.aZ b q\/q=z (G a)+2) W v->v.heap[z (G a)+3]?=W.heap[z (G a)+3]?:=λv c=>c.block _ (by omega) (λq=>q.elim (λq=>by have:=w _<|e.same.2.2 _ q;omega)<|λq=>by omega);have ba:∀v x,Z (λq=>L.aZ b q\/q=z (G a)+2) W v->(∀ao,x.aZ b ao->L.aZ b ao)->jw v (z (G a)+1) []/\Aside v x b (z (G a)+2) (z (G a)+1):=λv x c hf=>⟨bb.dh (c.block _ (by omega)<|λq=>q.elim (λq=>by have:=w _<|e.same.2.2 _ q;omega)<|λq=>by omega),by have:=c.size;omega,λq=>by have:=w _<|e.same.2.2 _<|hf _ q;omega,by omega⟩;have bg:FZ W L (z (G a)+2) ((SR.fresh b h d<|z (G a)+1).sX u0 u1 u2 u3 B P g<|decide<|0<y j.files) []:=⟨⟨z (G a)+1,rfl,ba W L (Z.refl _ W)<|λ_ q=>q⟩,by simp⟩;cases hlgd:D with
  |false=>
   have al:=o.qX.GI hlgd;have av:dX (vw L.files) (iM P)=none:=by
    rw[bh];rcases hf:dX (vw j.files) (iM P)with _|bs
    .rfl
    .rcases o.qX.names _ _ hf with Q|⟨_,Q⟩|⟨ad,r,Q⟩
     .exact absurd Q<|sd P
     .rw[hlgd]at Q;cases Q
     .exact absurd Q.symm<|mH _ _
   apply(KA hb e.aN ax bf av).mono;rintro Q v⟨rfl,s⟩;have an:=e.ar (s.mono (T:=λq=>q=z (G a)+2) cG) V;have ac:=r.ci s;refine⟨rfl,⟨(SR.fresh b h d<|z (G a)+1).sX u0 u1 u2 u3 B P g<|decide<|0<y j.files,L,C,E,F,K,?_⟩,au v<|s.mono cG⟩;have n:=Cr (s:=(SR.fresh b h d<|z (G a)+1).sX u0 u1 u2 u3 B P g<|decide<|0<y j.files) o an ac (by omega) rfl rfl rfl hlgd.symm (by rw[al];rfl) (by rw[al];rfl) rfl (by rw[al];exact⟨rfl,.inl ⟨rfl,rfl⟩⟩) (λao q=>by cases q) ho (λq=>by cases q) ⟨⟨z (G a)+1,rfl,ba v L (s.mono cG)<|λ_ q=>q⟩,by simp⟩;exact⟨(s.block _ (aj hb) id).trans hb,n,λq=>by rw[N,n.BK],⟨rfl,rfl,rfl,rfl,rfl,rfl⟩,⟨an.aN,ac.mono<|λ_ q=>.inl q,λao q=>.inl<|e.same.2.2 ao q⟩,aD bd s.size,λao q=>.inl<|e.same.2.2 ao q⟩
  |true=>
   have bk:=o.Ui hlgd;have bl:y (lO ((g:X)+1) k)<=200000:=by
    have h1:=tT (f:=(g:X)+1)<|λbo a=>⟨o.lp.jd bo a,(o.lp.one bo a).2⟩;have h2:=Dx<|λbo a=>(o.lp.one bo a).1;have h3:=o.lp.sum;omega
   refine(Np k hb e.aN bc ax bm ⟨by have:=o.steps.lt;omega,λq=>o.fC<|e.same.2.2 _ q⟩ bf o.lp (by rw[bh];exact o.qX.log hlgd) (TE bk) bl rfl rfl (by show g<=1000000000;have:=o.JU;omega) bg).mono ?_;rintro Q v⟨rfl,mv,x,S,av,O,e1,e2,e3⟩;have al:∀ad:bI,dX (vw x.files) (gJ ad.num)=dX (vw L.files) (gJ ad.num):=λad=>by rw[e1]
   have an:WT v b (z (G a)+2) j x u0 u1 u2 u3 i p t u C E F K:=⟨O.ok,⟨e1.trans e.same.1,e2.trans e.same.2.1,λao q=>e.same.2.2 ao<|e3 ao q⟩,e.l0.ft O<|λad _=>al ad,e.l1.ft O<|λad _=>al ad,e.l2.ft O<|λad _=>al ad,e.l3.ft O<|λad _=>al ad,e.k0,e.k1,e.k2,e.k3,e.GJ⟩;have ac:Z (λq=>j.aZ b q\/q=z (G a)+2) a v:=r.trans O.ar<|λ_ q=>.inl<|q.imp (e.same.2.2 _) id;refine⟨rfl,⟨{((SR.fresh b h d<|z (G a)+1).sX u0 u1 u2 u3 B P g<|decide<|0<y j.files).ul mv (y k) (k.map y).sum with gC:=bU,vF:=bE,kj:=bU},x,C,E,F,K,?_⟩,au v O.ar⟩;have n:=Cr (s:={((SR.fresh b h d<|z (G a)+1).sX u0 u1 u2 u3 B P g<|decide<|0<y j.files).ul mv (y k) (k.map y).sum with gC:=bU,vF:=bE,kj:=bU}) o an ac (by omega) rfl rfl rfl hlgd.symm rfl rfl rfl (by rw[<-(Ea o.lp).1];exact dF av) (λao q=>by
    have h1:=av.lt ao q;exact⟨h1.2,λg=>by have:=w _ (e.same.2.2 _ (e3 ao g));omega,by omega⟩) ho (λ_=>rfl) ⟨⟨z (G a)+1,rfl,ba v x O.ar e3⟩,by simp⟩
   exact⟨S,n,λq=>by rw[N,n.BK],⟨rfl,rfl,rfl,rfl,rfl,rfl⟩,⟨O.ok,ac.mono<|λ_ q=>.inl q,λao q=>.inl<|e.same.2.2 ao<|e3 ao q⟩,aD bd O.ar.size,λao q=>.inl<|e.same.2.2 ao<|e3 ao q⟩
 .rintro W⟨bi,K1,C,E,F,K,A⟩;have n:=A.inv;obtain⟨es,ec,em,et,eg⟩:=A.same;subst es;have al:y K1.files<=100000000:=by
   have an:=n.st.aN.nodup;have N:=yl (l:=(vw K1.files).map (·.1)) (m:=gR::iM bi.log::(C++E++F++K).map (λad=>gJ ad.num)) an (λao hx=>by
    obtain⟨bs,ac⟩:=rF hx;rcases n.qX.names ao bs ac with Q|⟨Q,_⟩|⟨ad,r,Q⟩
    .simp[Q]
    .simp[Q]
    .exact aG _ (aG _ (aY.2 ⟨ad,r,Q.symm⟩)))
   have e1:y ((vw K1.files).map (·.1))=y K1.files:=by simp[vw]
   rw[e1]at N;have:=n.Dn;simp only[ay,cV]at N;omega
  refine(OO C E F K A.box (n.st.Ys A.box) (λad r=>?_) n.st.lu.pow (by have:=n.qX.lt;have:=n.nx;have:=n.mN;omega) (by have:=n.Dn;omega) n.st.aN n.st.rV (by have:=n.eO;have:=n.mN;omega) al<|λao hx=>?_).mono ?_
  .rcases ak.1 r with r|r
   .rcases ak.1 r with r|r
    .rcases ak.1 r with r|r
     .exact Ad<|n.st.l0.each ad r
     .exact Ad<|n.st.l1.each ad r
    .exact Ad<|n.st.l2.each ad r
   .exact Ad<|n.st.l3.each ad r
  .have N:ao∈(vw K1.files).map (·.1):=by simpa[vw]using hx
   obtain⟨bs,ac⟩:=rF N;rcases n.qX.names ao bs ac with Q|⟨Q,_⟩|an
   .exact .inl Q
   .exact .inr<|.inl Q
   .exact .inr<|.inr an
  .rintro Q v⟨rfl,x,O,ef,an⟩;have N:gw W v bi.aN (z (G a)+2) K1 x:=gw.of O;have S:bK v (z (G a)+2) bi 0:=(O.ar.block _ (aj A.box) n.st.rV).trans A.box;exact⟨rfl,⟨bi,x,C,E,F,K,A.step S (n.ft (aj A.box) N ef (by omega) rfl n.loose) A.wI ⟨rfl,ec,em,et,eg⟩ N⟩,A.kept N w⟩
 rintro W⟨bi,K1,C,E,F,K,A⟩;have n:=A.inv;obtain⟨es,ec,em,et,eg⟩:=A.same;subst es;apply(Nc [] A.box n hN).mono;rintro Q v⟨rfl,s',x,m',a2,b2,c2,d2,an,al,N⟩;obtain⟨g1,g2,g3,g4,g5,g6⟩:=N.same;have ac:=N.BK;exact⟨rfl,⟨s',x,m',a2,b2,c2,d2,an,al,A.step N.box N.inv (λq=>by rw[ac];exact(N.wI _ (.inr rfl) q).trans<|A.wI q) ⟨g1,g2.trans ec,g3.trans em,g4.trans et,g5.trans eg.1,g6.trans eg.2⟩ N.ft⟩,A.kept N.ft w⟩
abbrev LC:=iB×WQ
abbrev PB:=Option M×aa
theorem mj.ar{S:fI}{al w':Y}{o:M}{n:Option M}{l:iB}{e:Bool}{sv:aa}(ad:mj al o n l e sv)(p:Z S al w')(h1:¬S o)(h2:∀ac,n=H ac->¬S ac):mj w' o n l e sv:=by
 obtain⟨⟨v,E,hp,q⟩,k,h⟩:=ad;exact⟨⟨v,(p.block o (aj E) h1).trans E,p.row hp<|λad hk=>⟨h2 ad<|q▸hk,h ad<|q▸hk⟩,q⟩,k,λac hg=>ag (h ac hg) p.size⟩
def JF(n:PB)(r:cr oP)(k:M):Prop:=n.1=H k\/bV n.2=H k\/∃x∈r,x.live=bU/\bV x.v=H k
structure BP(n0:M)(W:Y)(o:M)(n:PB)(l:LC)(i:Bool)(r:cr oP):Prop where
 ref:mj W o n.1 l.1 i n.2
 Fy:Mw W n.2 r
 own:W.ownsRow n0 118 2 n.2 (y r) (FB r)
 kind:zG W n.2
 abs:r.map oP.abs=l.2
 len:∀x∈r,y x.l<=1000000
 sep:∀k,bV n.2=H k->k≠o/\n.1≠H k/\∀x∈r,x.live=bU->bV x.v≠H k
section
variable{n0 o:M}{W W':Y}{n:PB}{l:LC}{i B:Bool}{r:cr oP}{S:fI}
theorem BP.re{p':Option M}{l':iB}(p:BP n0 W o n l i r)(E:Z S W W')(hr:mj W' o p' l' B n.2)(h2:∀k,(bV n.2=H k\/∃x∈r,x.live=bU/\bV x.v=H k)->¬S k)(hp:p'=n.1\/∀ac,p'=H ac->z (G W)<=ac):BP n0 W' o (p',n.2) (l',l.2) B r where
 ref:=hr
 Fy:=⟨E.row p.Fy.row<|λk h=>⟨h2 k<|.inl h,(p.own.lt k h).2⟩,λx hx hl=>⟨E.row (p.Fy.each x hx hl).1<|λk h=>⟨h2 k<|.inr ⟨x,hx,hl,h⟩,(p.Fy.each x hx hl).2 k h⟩,λac hg=>ag ((p.Fy.each x hx hl).2 ac hg) E.size⟩,p.Fy.shape,p.Fy.small⟩
 own:=E.own p.own<|λk h=>h2 k<|.inl h
 kind:=p.kind.ar E (λk h=>h2 k<|.inl h)<|λk h=>(p.own.lt k h).2
 abs:=p.abs
 len:=p.len
 sep:=λk h=>⟨(p.sep k h).1,λE=>hp.elim (λq=>(p.sep k h).2.1<|q▸E) (λq=>by have:=q k E;have:=(p.own.lt k h).2;omega),(p.sep k h).2.2⟩
theorem BP.ar(ac:BP n0 W o n l i r)(k:Z S W W')(E:¬S o)(h:∀p,JF n r p->¬S p):BP n0 W' o n l i r:=ac.re k (ac.ref.ar k E<|λad hg=>h ad<|.inl hg) (λp q=>h p<|.inr q)<|.inl rfl
theorem BP.lt(h:BP n0 W o n l i r)(k:M)(p:JF n r k):k<z (G W):=by
 rcases p with q|q|⟨x,hx,E,q⟩;exact h.ref.lt k q;exact(h.own.lt k q).2;exact(h.Fy.each x hx E).2 k q
end
def Stood(W:Y)(db sbqq:M)(s:SR)(K:DK)(m:cA)(a b c d:cP)(C tbqq N:M)(lsqq:dW)(sn:fR):Bool->Prop
 |true=>s.closed=bU/\∃p k h,wN W db K a b c d C tbqq N p k h lsqq
 |false=>s.closed=bE/\s.aN=db/\Inv W sbqq s K m a b c d C tbqq N lsqq sn
theorem Inv.laid{p:Y}{sbqq:M}{s:SR}{K:DK}{m:cA}{a b c d:cP}{C tbqq N:M}{lsqq:dW}{sn:fR}(h:Inv p sbqq s K m a b c d C tbqq N lsqq sn):wN p s.aN K a b c d C tbqq N s.next s.log s.gC lsqq where
 aN:=h.st.aN
 qX:=h.qX
 pr:=h.pr
 lp:=h.lp
 qI:=by
  have k:y (jZ s.bB m)<=y m:=aD (zy _ _).length_le<|fj _ _;rw[h.mem]at k;have:=h.st.qI;omega
 mN:=h.st.mN
 s1:=h.st.s1
 s2:=h.st.s2
 s3:=h.st.s3
 Ui:=h.Ui
 nx:=h.nx
 bn:=by rw[<-h.BK];exact h.bn
 eO:=h.eO
 JU:=h.mN
 steps:=h.st.lu.steps
 pow:=h.st.lu.pow
 fC:=h.st.lu.fC.aZ
 me:=h.st.lu.me.aZ
theorem Stood.aN{W:Y}{db sbqq:M}{s:SR}{K:DK}{m:cA}{a b c d:cP}{C tbqq N:M}{lsqq:dW}{sn:fR}{e:Bool}(h:Stood W db sbqq s K m a b c d C tbqq N lsqq sn e):cJ W db K:=by
 cases e with
 |true=>obtain⟨_,_,_,_,h⟩:=h;exact h.aN
 |false=>obtain⟨_,rfl,h⟩:=h;exact h.st.aN
theorem wN.again{al w':Y}{db p:M}{K P:DK}{a b c d:cP}{C tbqq N nx lg:M}{k:Bool}{lsqq:dW}(h:wN al db K a b c d C tbqq N nx lg k lsqq)(hd:cJ w' p P)(hf:∀ac,dX (vw P.files) ac=dX (vw K.files) ac)(hm:y P.eO<=y K.eO)(hs:Steps w')(hp:Pow w')(h1:¬P.aZ p 1)(h2:¬P.aZ p 2):wN w' p P a b c d C tbqq N nx lg k lsqq:={h with
 aN:=hd
 qX:=by
  have E:=h.qX;exact⟨λac bs q=>E.names ac bs (by rw[<-hf];exact q),by rw[hf];exact E.state,λq=>by rw[hf];exact E.log q,E.GI,λad ht=>by rw[hf];exact E.ze ad ht,E.zp,E.low,E.lt,E.jd⟩
 eO:=aD hm h.eO
 steps:=hs
 pow:=hp
 fC:=h1
 me:=h2}
structure Ft(W:Y)(K:DK)(db sb:M)(s:SR)(k:M):Prop extends Aside W K db sb k where
 pV:s.lT≠H k
structure WV(W W':Y)(db sb:M)(s:SR)(K P:DK):Prop where
 ok:cJ W' db P
 ar:Z (λk=>(K.aZ db k\/k=sb)\/s.lT=H k) W W'
 aZ:∀k,P.aZ db k->K.aZ db k\/z (G W)<=k
def Yp(W:Y)(x:M):Prop:=∃h ac fr,W.heap[x]?=H (aq h ac fr)/\ac≠293/\((∀an,Value.string an∉h.toList)\/∀ad al,Value.int ad al∉h.toList)/\∀q,Value.pointer (H<|R q 0)∈h.toList->∃k E p,W.heap[q]?=H (aq k E p)/\E≠293
def PQ(s:SR)(m:cA)(a b c d:cP)(w:Zs)(h:WQ):Prop:=tQ w=h/\s.ia=y w/\∀x,H x∈w->vr ((m::cF a b c d).map<|jZ (x.1:X)) x.2
structure LW(u W:Y)(t db sb o:M)(n:PB)(mem wH:X)(j g:aa)(lo:iB)(O:cr (M×Obj))(s:SR)(K:DK)(m:cA)(a b c d:cP)(C tb N:M)(ls:dW)(w:Zs)(r:cr oP)(A:LC)(closed:Bool)(l:LC)(i:Bool):Prop where
 box:W.heap[t]?=H (aq #[aw db,aw sb,aw o,am mem,am wH,j,g] 40 (0,0))
 ref:BP (z<|G u) W o n l i r
 tP:bK W sb s 0
 vt:Stood W db sb s K m a b c d C tb N ls (iN 1 w) closed
 yI:vr (gK [] ls.flatten::(cF a b c d).map (jZ ((tb+y ls:M):X))) A.1
 pV:closed=bE->PQ s m a b c d w A.2
 num:y w<=N/\y l.2<=N
 len:y A.1<=C
 mN:C<=1000000
 Bl:jk W j lo
 uN:jk W g lo
 Wk:y lo<=1000000
 ar:Z az u W
 low:(∀k,K.aZ db k->z (G u)<=k)/\z (G u)<=sb/\z (G u)<=o/\z (G u)<=t
 zw:∀k,s.lT=H k->z (G u)<=k/\k<z (G W)
 rV:¬K.aZ db sb
 CV:Ft W K db sb s t
 Gz:Ft W K db sb s o
 yE:∀k,JF n r k->Ft W K db sb s k/\k≠t/\k≠o
 nZ:∀k,bV j=H k->Ft W K db sb s k/\k≠t/\k≠o/\bV n.2≠H k
 kL:∀k,bV g=H k->Ft W K db sb s k/\k≠t/\k≠o/\bV n.2≠H k
 obj:∀p∈O,W.heap[p.1]?=H p.2/\Ft W K db sb s p.1/\p.1≠t/\p.1≠o/\¬JF n r p.1
 ne:t≠o
 g0:Steps u/\Pow u/\pD u
section
variable{u W W':Y}{t db sbqq o x:M}{n Q:PB}{mem f T V:X}{j g L F:aa}{lo lo':iB}{O:cr (M×Obj)}{s s':SR}{K P:DK}{m m':cA}{a b c d a' b' c' d':cP}{C C' tbqq tb' N N':M}{lsqq ls':dW}{w zs':Zs}{r ss':cr oP}{l l' A lc':LC}{i B e D:Bool}
theorem gw.dm(h:gw W W' db sbqq K P):WV W W' db sbqq s K P:=⟨h.ok,h.ar.mono<|λ_ q=>.inl<|.inl q,h.aZ⟩
theorem Aside.grow{p:M}(h:Aside W K db sbqq p)(k:z (G W)<=z (G W')):Aside W' K db sbqq p:=⟨ag h.lt k,h.aZ,h.ne⟩
theorem Ft.grow{p:M}(k:Ft W K db sbqq s p)(h:z (G W)<=z (G W')):Ft W' K db sbqq s p:=⟨k.toAside.grow h,k.pV⟩
theorem Ft.OC{k:M}(h:Ft W K db sbqq s k)(p:WV W W' db sbqq s K P)(q:∀k,s'.lT=H k->s.lT=H k):Ft W' P db sbqq s' k:=⟨⟨ag h.lt p.ar.size,λc=>(p.aZ k c).elim h.aZ (λd=>by have:=h.lt;omega),h.ne⟩,λE=>h.pV<|q k E⟩
theorem Ft.off{k:M}(h:Ft W K db sbqq s k)(c:(K.aZ db k\/k=sbqq)\/s.lT=H k):False:=c.elim (λc=>c.elim h.aZ h.ne) h.pV
theorem Ft.block{k:M}(q:Ft W K db sbqq s k)(h:WV W W' db sbqq s K P):W'.heap[k]?=W.heap[k]?:=h.ar.block k q.lt q.off
theorem LW.yH(h:LW u W t db sbqq o n mem f j g lo O s K m a b c d C tbqq N lsqq w r A e l i):pD W:=h.g0.2.2.ar h.ar id
theorem LW.YO(h:LW u W t db sbqq o n mem f j g lo O s K m a b c d C tbqq N lsqq w r A e l i):0≠sbqq/\¬K.aZ db 0:=by
 have k:0<z (G u):=da _ _ h.g0.2.2;exact⟨by have:=h.low.2.1;omega,λc=>by have:=h.low.1 _ c;omega⟩
theorem LW.OC(h:LW u W t db sbqq o n mem f j g lo O s K m a b c d C tbqq N lsqq w r A e l i)(E:WV W W' db sbqq s K P)(k:∀ac,s'.lT=H ac->s.lT=H ac)(hb:bK W' sbqq s' 0)(hs:Stood W' db sbqq s' P m' a' b' c' d' C' tb' N' ls' (iN 1 zs') D)(hc:vr (gK [] ls'.flatten::(cF a' b' c' d').map (jZ ((tb'+y ls':M):X))) lc'.1)(al:D=bE->PQ s' m' a' b' c' d' zs' lc'.2)(hN:y zs'<=N'/\N<=N')(hC:y lc'.1<=C')(ad:C'<=1000000):LW u W' t db sbqq o n mem f j g lo O s' P m' a' b' c' d' C' tb' N' ls' zs' r lc' D l i where
 box:=(h.CV.block E).trans h.box
 ref:=h.ref.ar E.ar h.Gz.off<|λac p=>(h.yE ac p).1.off
 tP:=hb
 vt:=hs
 yI:=hc
 pV:=al
 num:=⟨hN.1,aD h.num.2 hN.2⟩
 len:=hC
 mN:=ad
 Bl:=E.ar.row h.Bl<|λac p=>⟨(h.nZ ac p).1.off,(h.nZ ac p).1.lt⟩
 uN:=E.ar.row h.uN<|λac p=>⟨(h.kL ac p).1.off,(h.kL ac p).1.lt⟩
 Wk:=h.Wk
 ar:=h.ar.trans E.ar<|λac q=>.inr<|q.elim (λq=>q.elim (h.low.1 ac) (λk=>by have:=h.low.2.1;omega))<|λk=>(h.zw ac k).1
 low:=⟨λac q=>(E.aZ ac q).elim (h.low.1 ac)<|λan=>aD h.ar.size an,h.low.2⟩
 zw:=λac q=>⟨(h.zw ac<|k ac q).1,ag (h.zw ac<|k ac q).2 E.ar.size⟩
 rV:=λq=>(E.aZ sbqq q).elim h.rV (λan=>by have:=aj h.tP;omega)
 CV:=h.CV.OC E k
 Gz:=h.Gz.OC E k
 yE:=λac p=>⟨(h.yE ac p).1.OC E k,(h.yE ac p).2⟩
 nZ:=λac p=>⟨(h.nZ ac p).1.OC E k,(h.nZ ac p).2⟩
 kL:=λac p=>⟨(h.kL ac p).1.OC E k,(h.kL ac p).2⟩
 obj:=λac hp=>⟨((h.obj ac hp).2.1.block E).trans (h.obj ac hp).1,(h.obj ac hp).2.1.OC E k,(h.obj ac hp).2.2⟩
 ne:=h.ne
 g0:=h.g0
end
theorem Gv{S:fI}{ao w':Y}{h bb:M}{v:aa}{p:iV}(ht:Z S ao w')(hr:Row ao h v bb p)(hl:∀ba,bV v=H ba->ba<z (G ao))(ad:0<y p->∀x,S x->∃cs bc fr,ao.heap[x]?=H (aq cs bc fr)/\∃(av:M)(an:aa),p[av]?=H an/\an∉cs.toList):Row w' h v bb p:=by
 obtain⟨q1,⟨q,q0⟩|⟨al,k,E,q,ac,hc⟩⟩:=hr;exact⟨q1,.inl ⟨q,q0⟩⟩;refine⟨q1,.inr ⟨al,k,E,q,ac,λax an hj=>?_⟩⟩;(have hg:¬S al:=by intro hs;(have au:ax<y p:=by rcases dE ax (y p)with c|c;exact c;rw[dq c]at hj;cases hj);obtain⟨cs,bc,fr,hx,av,u',hi,hu⟩:=ad (by omega) al hs;have:=hc av u' hi;rw[bR hx]at this;exact hu<|by simpa using mW this);exact ht.cell (hc ax an hj) hg<|hl al (by rw[q];rfl)
theorem Sm{m:cA}{k:Array aa}(h:(∀p,Value.string p∉k.toList)\/∀al an,Value.int al an∉k.toList)(q:0<y (aE m)):∃(ad:M)(p:aa),(aE m)[ad]?=H p/\p∉k.toList:=by
 rcases m with _|⟨ac,m⟩;simp[aE]at q;rcases h with h|h;exact⟨0,J ac.key,by simp[aE,E.cells],h _⟩;exact⟨3,aI ac.bH,by simp[aE,E.cells],h _ _⟩
theorem QU{ts:cP}{h:Array aa}(q:∀k∈ts,k.ptr∉h.toList)(p:0<y (ts.map bI.ptr)):∃(ac:M)(E:aa),(ts.map bI.ptr)[ac]?=H E/\E∉h.toList:=by
 rcases ts with _|⟨k,ts⟩;simp at p;exact⟨0,k.ptr,by simp,q k<|by simp⟩
theorem MR{S:fI}{av w':Y}{tbqq:M}{dv:aa}{k cut p ao:X}{bb ac h:M}{ad:aa}{q:mz}(au:lR av tbqq dv k cut p ao bb ac h ad q)(ht:Z S av w')(hS:∀x,S x->Yp av x):lR w' tbqq dv k cut p ao bb ac h ad q:=by
 have al:¬S tbqq:=λE=>by obtain⟨cs,ba,fr,hx,h1,_⟩:=hS tbqq E;exact iq au.box hx (λq=>h1 q.symm) rfl
 have hk:=au.ne;have h3:(er q)[3]?=H (J (q[0]'hk).first):=by rcases q with _|⟨ax,q⟩;simp at hk;simp[er,qS.cells]
 have an:¬S bb:=λE=>by obtain⟨cs,ba,fr,hx,_,E,_⟩:=hS bb E;(have h0:(er q)[0]?=H (am (q[0]'hk).pos):=by rcases q with _|⟨ax,q⟩;simp at hk;simp[er,qS.cells]);rcases E with E|E;have:=au.cells 3 _ h3;rw[bR hx]at this;exact E _ (by simpa using mW this);have:=au.cells 0 _ h0;rw[bR hx]at this;exact E _ _<|by simpa using mW this
 exact au.dh (ht.block tbqq (aj au.box) al)<|ht.block bb (da _ _<|au.cells 3 _ h3) an
section
variable{u W W':Y}{t db sbqq o x:M}{n Q:PB}{mem f T V:X}{j g L F:aa}{lo lo':iB}{O:cr (M×Obj)}{s s':SR}{K P:DK}{m m':cA}{a b c d a' b' c' d':cP}{C C' tbqq tb' N N':M}{lsqq ls':dW}{w zs':Zs}{r ss':cr oP}{l l' A lc':LC}{i B e D:Bool}{S:fI}{v:aa}{ts:cP}{sn:fR}
theorem Hy.rJ(ad:Hy W K db sbqq v ts)(q:Z S W W')(hS:∀x,S x->Yp W x):Hy W' K db sbqq v ts where
 row:=Gv q ad.row (λao E=>(ad.loc ao E).lt) (λhj x hs=>by
  obtain⟨cs,au,fr,hx,_,_,hp⟩:=hS x hs;exact⟨cs,au,fr,hx,QU (λt0 p c=>by
   obtain⟨bb,k,h,hm,_⟩:=(ad.each t0 p).mem;obtain⟨al,t',an,hq,ac⟩:=hp _ c;exact iq hm.box hq (λh=>ac h.symm) rfl) hj⟩)
 loc:=λao E=>(ad.loc ao E).grow q.size
 each:=λt0 p=>by
  obtain⟨⟨bb,k,h,hm,hA⟩,q2,q3,q4,q5,q6,q7,q8⟩:=ad.each t0 p;exact⟨⟨bb,k,h,MR hm q hS,hA.grow q.size⟩,q2.grow q.size,q3,q4,q5,q6,q7,q8⟩
theorem Inv.rJ(h:Inv W sbqq s K m a b c d C tbqq N lsqq sn)(k:Z S W W')(hA:∀x,S x->Aside W K s.aN sbqq x)(p:∀x,S x->Yp W x)(hg:¬S 1/\¬S 2):Inv W' sbqq s K m a b c d C tbqq N lsqq sn:={h with
 st:={h.st with
  mem:=Gv k h.st.mem (λac q=>(h.st.sW ac q).lt) (λhj x hs=>by
   obtain⟨cs,al,fr,E,_,q,_⟩:=p x hs;exact⟨cs,al,fr,E,Sm q hj⟩)
  sW:=λac q=>(h.st.sW ac q).grow k.size
  l0:=h.st.l0.rJ k p
  l1:=h.st.l1.rJ k p
  l2:=h.st.l2.rJ k p
  l3:=h.st.l3.rJ k p
  aN:=h.st.aN.ar k<|λac c ad=>(hA ac ad).aZ c
  lu:=⟨Steps.ar h.st.lu.steps k hg.1,h.st.lu.pow.ar k hg.2,h.st.lu.fC.grow k.size,h.st.lu.me.grow k.size⟩}
 pV:=by
  obtain⟨b,h1,h2,h3⟩:=h.pV.ex;refine⟨⟨b,h1,h2.dh (k.block b h2.lt (λad=>?_)),h3.grow k.size⟩,h.pV.len⟩;obtain⟨cs,al,fr,E,_⟩:=p b ad;obtain⟨es,q,hh,_⟩:=h2;rw[hh]at E;cases E}
theorem Stood.rJ(ac:Stood W db sbqq s K m a b c d C tbqq N lsqq sn e)(k:Z S W W')(E:∀x,S x->Aside W K db sbqq x)(hS:∀x,S x->Yp W x)(p:¬S 1/\¬S 2):Stood W' db sbqq s K m a b c d C tbqq N lsqq sn e:=by
 cases e with
 |true=>
  obtain⟨q,nx,lg,h,hL⟩:=ac;exact⟨q,nx,lg,h,{hL with aN:=hL.aN.ar k<|λac c q=>(E ac q).aZ c,steps:=Steps.ar hL.steps k p.1,pow:=hL.pow.ar k p.2}⟩
 |false=>
  obtain⟨q,rfl,h⟩:=ac;exact⟨q,rfl,h.rJ k E hS p⟩
theorem LW.still(h:LW u W t db sbqq o n mem f j g lo O s K m a b c d C tbqq N lsqq w r A e l i)(k:Z az W W'):LW u W' t db sbqq o n mem f j g lo O s K m a b c d C tbqq N lsqq w r A e l i:=by
 have hd:=h.vt.aN;have p:gw W W' db sbqq K K:=qO hd k;have E:bK W' sbqq s 0:=(k.block sbqq (aj h.tP) id).trans h.tP;exact h.OC p.dm (λ_ q=>q) E (h.vt.rJ k cG cG ⟨id,id⟩) h.yI h.pV ⟨h.num.1,ah _⟩ h.len h.mN
theorem LW.lu(k:LW u W t db sbqq o n mem f j g lo O s K m a b c d C tbqq N lsqq w r A e l i)(h:∀x,S x->z (G u)<=x):¬S 1/\¬S 2:=by
 have p:=k.g0.1.lt;have E:=k.g0.2.1.lt;exact⟨λq=>by have:=h _ q;omega,λq=>by have:=h _ q;omega⟩
theorem BP.YY{n0:M}(ad:BP n0 W o n l i r)(p:x=o\/bV n.2=H x):Yp W x:=by
 rcases p with rfl|p;obtain⟨⟨v,hh,hp,hv⟩,_,_⟩:=ad.ref;have k:=hp.shape;obtain⟨sx,sc,ac⟩:=aB ad.own;rw[ac]at hh;refine⟨_,_,_,hh,by decide,.inl λal q=>?_,λq hq=>?_⟩;rcases k with rfl|⟨h,o0,E,rfl⟩<;>simp at q;rcases k with rfl|⟨h,o0,E,rfl⟩<;>simp at hq;obtain⟨ac,hc⟩:=fD ad.own p;have hk:=ad.kind _ _ _ _ p hc;refine⟨_,_,_,hc,by decide,.inl λal q=>?_,λq hq=>?_⟩;rcases hk _ q with⟨h,k⟩|⟨a0,h,E,k⟩<;>cases k;rcases hk _ hq with⟨h,k⟩|⟨a0,h,E,k⟩<;>cases k
theorem LW.refs(h:LW u W t db sbqq o n mem f j g lo O s K m a b c d C tbqq N lsqq w r A e l i)(E:Z (λk=>k=o\/bV n.2=H k) W W')(hr:BP (z<|G u) W' o Q l' B ss')(hB:∀k,JF Q ss' k->JF n r k\/z (G W)<=k)(hV:∀k,bV Q.2=H k->bV n.2=H k\/z (G W)<=k)(hN:y l'.2<=N):LW u W' t db sbqq o Q mem f j g lo O s K m a b c d C tbqq N lsqq w ss' A e l' B:=by
 have ao:=h.CV.lt;have ax:=h.Gz.lt;have an:=aj h.tP;have ad:∀k,bV n.2=H k->JF n r k:=λk q=>.inr<|.inl q;have ac:∀k,(k=o\/bV n.2=H k)->Ft W K db sbqq s k/\k≠t/\z (G u)<=k:=λk q=>by rcases q with rfl|q;exact⟨h.Gz,λav=>h.ne av.symm,h.low.2.2.1⟩;exact⟨(h.yE k<|ad k q).1,(h.yE k<|ad k q).2.1,(h.ref.own.lt k q).1⟩
 have al:∀k,k<z (G W)->bV n.2≠H k->bV Q.2≠H k:=λk p h av=>(hV k av).elim h (λq=>by omega);refine⟨(E.block t ao<|λq=>(ac t q).2.1 rfl).trans h.box,hr,(E.block sbqq an<|λq=>(ac sbqq q).1.ne rfl).trans h.tP,h.vt.rJ E (λk q=>(ac k q).1.toAside) (λk q=>h.ref.YY q)<|h.lu<|λk q=>(ac k q).2.2,h.yI,h.pV,⟨h.num.1,hN⟩,h.len,h.mN,E.row h.Bl<|λk p=>⟨λq=>q.elim (h.nZ k p).2.2.1 (h.nZ k p).2.2.2,(h.nZ k p).1.lt⟩,E.row h.uN<|λk p=>⟨λq=>q.elim (h.kL k p).2.2.1 (h.kL k p).2.2.2,(h.kL k p).1.lt⟩,h.Wk,h.ar.trans E<|λk q=>.inr (ac k q).2.2,h.low,λk q=>⟨(h.zw k q).1,ag (h.zw k q).2 E.size⟩,h.rV,h.CV.grow E.size,h.Gz.grow E.size,λk p=>?_,λk p=>⟨(h.nZ k p).1.grow E.size,(h.nZ k p).2.1,(h.nZ k p).2.2.1,al k (h.nZ k p).1.lt (h.nZ k p).2.2.2⟩,λk p=>⟨(h.kL k p).1.grow E.size,(h.kL k p).2.1,(h.kL k p).2.2.1,al k (h.kL k p).1.lt (h.kL k p).2.2.2⟩,λba hp=>?_,h.ne,h.g0⟩;rcases hB k p with q|q;exact⟨(h.yE k q).1.grow E.size,(h.yE k q).2⟩;exact⟨⟨⟨hr.lt k p,λc=>by have:=h.vt.aN.lt k c;omega,by omega⟩,λav=>by have:=(h.zw k av).2;omega⟩,by omega,by omega⟩;obtain⟨q1,q2,q3,q4,q5⟩:=h.obj ba hp;have au:=q2.lt;exact⟨(E.block _ au<|λq=>q.elim q4<|λq=>q5<|ad _ q).trans q1,q2.grow E.size,q3,q4,λq=>(hB _ q).elim q5<|λq=>by omega⟩
theorem LW.KB{k:Option M}{r':iB}(ac:LW u W t db sbqq o n mem f j g lo O s K m a b c d C tbqq N lsqq w r A e l i)(hg:W.grownBy W' (H o))(hr:mj W' o k r' B n.2)(h:k=n.1\/∀al,k=H al->z (G W)<=al):LW u W' t db sbqq o (k,n.2) mem f j g lo O s K m a b c d C tbqq N lsqq w r A e (r',l.2) B:=by
 have E:Z (λp=>p=o) W W':=fi hg;refine ac.refs (E.mono<|λ_ q=>.inl<|.inl q) (ac.ref.re E hr (λp q=>(ac.yE p<|.inr q).2.2) h) (λp q=>?_) (λp q=>.inl q) ac.num.2;rcases q with q|q;rcases h with ad|ad;exact .inl<|.inl<|ad▸q;exact .inr<|ad p q;exact .inl<|.inr q
theorem LW.YR(h:LW u W t db sbqq o n mem f j g lo O s K m a b c d C tbqq N lsqq w r A e l i)(p:Z (λk=>k=t) W W')(hb:W'.heap[t]?=H (aq #[aw db,aw sbqq,aw o,am T,am V,L,F] 40 (0,0)))(ho:jk W' L lo')(hw:jk W' F lo')(al:y lo'<=1000000)(an:∀k,bV L=H k->Ft W' K db sbqq s k/\k≠t/\k≠o/\bV n.2≠H k)(ax:∀k,bV F=H k->Ft W' K db sbqq s k/\k≠t/\k≠o/\bV n.2≠H k):LW u W' t db sbqq o n T V L F lo' O s K m a b c d C tbqq N lsqq w r A e l i:=by
 have ac:=aj h.tP;refine⟨hb,h.ref.ar p (λE=>h.ne E.symm)<|λbb hg E=>(h.yE bb hg).2.1 E,(p.block sbqq ac<|λE=>h.CV.ne E.symm).trans h.tP,?_,h.yI,h.pV,h.num,h.len,h.mN,ho,hw,al,h.ar.trans p<|λk E=>.inr (by have:=h.low.2.2.2;have:k=t:=E;omega),h.low,λk q=>⟨(h.zw k q).1,ag (h.zw k q).2 p.size⟩,h.rV,h.CV.grow p.size,h.Gz.grow p.size,λk hk=>⟨(h.yE k hk).1.grow p.size,(h.yE k hk).2⟩,an,ax,λba hp=>⟨(p.block _ (h.obj ba hp).2.1.lt (h.obj ba hp).2.2.1).trans (h.obj ba hp).1,(h.obj ba hp).2.1.grow p.size,(h.obj ba hp).2.2⟩,h.ne,h.g0⟩;have s1:=h.Bl.shape;have s2:=h.uN.shape;have au:=h.ref.ref;obtain⟨⟨v,hh,_,_⟩,_,_⟩:=au;have ad:=h.vt.aN.iH;have av:=h.tP;refine h.vt.rJ p (λk E=>by have e':k=t:=E;rw[e'];exact h.CV.toAside) (λk E=>?_)<|h.lu (λk E=>by have:=h.low.2.2.2;have:k=t:=E;omega);have e':k=t:=E;subst e';refine⟨_,_,_,h.box,by decide,.inl λbc q=>?_,λq hq=>?_⟩;rcases s1 with rfl|⟨b0,o0,c0,rfl⟩<;>rcases s2 with rfl|⟨b1,o1,c1,rfl⟩<;>simp at q;(have ao:q=db\/q=sbqq\/q=o:=by rcases s1 with rfl|⟨b0,o0,c0,rfl⟩<;>rcases s2 with rfl|⟨b1,o1,c1,rfl⟩<;>simpa using hq);rcases ao with rfl|rfl|rfl;exact⟨_,_,_,ad,by decide⟩;exact⟨_,_,_,av,by decide⟩;exact⟨_,_,_,hh,by decide⟩
end
def ji(u W:Y)(t db sbqq o:M)(n:PB)(mem f:X)(j g:aa)(lo:iB)(O:cr (M×Obj))(C N:M)(A:LC)(e:Bool)(l:LC)(i:Bool):Prop:=∃s K m a b c d tbqq lsqq w r,LW u W t db sbqq o n mem f j g lo O s K m a b c d C tbqq N lsqq w r A e l i
section
variable{u W W':Y}{t db sbqq o x:M}{n Q:PB}{mem f T V:X}{j g L F:aa}{lo lo':iB}{O:cr (M×Obj)}{C C' N N':M}{l l' A lc':LC}{i B e:Bool}
theorem ji.still(h:ji u W t db sbqq o n mem f j g lo O C N A e l i)(k:Z az W W'):ji u W' t db sbqq o n mem f j g lo O C N A e l i:=by
 obtain⟨s,K,m,a,b,c,d,tbqq,lsqq,w,r,h⟩:=h;exact⟨s,K,m,a,b,c,d,tbqq,lsqq,w,r,h.still k⟩
theorem ji.KB{h:Option M}{p:iB}(q:ji u W t db sbqq o n mem f j g lo O C N A e l i)(E:W.grownBy W' (H o))(hr:mj W' o h p B n.2)(k:h=n.1\/∀ac,h=H ac->z (G W)<=ac):ji u W' t db sbqq o (h,n.2) mem f j g lo O C N A e (p,l.2) B:=by
 obtain⟨s,K,m,a,b,c,d,tbqq,lsqq,w,r,q⟩:=q;exact⟨s,K,m,a,b,c,d,tbqq,lsqq,w,r,q.KB E hr k⟩
theorem ji.box(h:ji u W t db sbqq o n mem f j g lo O C N A e l i):W.heap[t]?=H (aq #[aw db,aw sbqq,aw o,am mem,am f,j,g] 40 (0,0)):=by
 obtain⟨s,K,m,a,b,c,d,tbqq,lsqq,w,r,h⟩:=h;exact h.box
theorem ji.obj(h:ji u W t db sbqq o n mem f j g lo O C N A e l i){p:M×Obj}(k:p∈O):W.heap[p.1]?=H p.2:=by
 obtain⟨s,K,m,a,b,c,d,tbqq,lsqq,w,r,h⟩:=h;exact(h.obj p k).1
theorem ji.add(h:ji u W t db sbqq o n mem f j g lo O C N A e l i)(ht:Z az W W'){k:M}{ac:Obj}(hk:z (G W)<=k)(E:W'.heap[k]?=H ac):ji u W' t db sbqq o n mem f j g lo ((k,ac)::O) C N A e l i:=by
 obtain⟨s,K,m,a,b,c,d,tbqq,lsqq,w,r,h⟩:=h;have h':=h.still ht;refine⟨s,K,m,a,b,c,d,tbqq,lsqq,w,r,{h' with obj:=λad p=>?_}⟩;rcases aA.1 p with rfl|p;have h1:=h.CV.lt;have h2:=h.Gz.lt;have h3:=aj h.tP;exact⟨E,⟨⟨aj E,λq=>by have:=h.vt.aN.lt k q;omega,by show k≠sbqq;omega⟩,λq=>by have:=(h.zw k q).2;omega⟩,by show k≠t;omega,by show k≠o;omega,λq=>by have:=h.ref.lt k q;omega⟩;exact h'.obj ad p
theorem ji.drop{O':cr (M×Obj)}(h:ji u W t db sbqq o n mem f j g lo O C N A e l i)(q:∀p∈O',p∈O):ji u W t db sbqq o n mem f j g lo O' C N A e l i:=by
 obtain⟨s,K,m,a,b,c,d,tbqq,lsqq,w,r,h⟩:=h;exact⟨s,K,m,a,b,c,d,tbqq,lsqq,w,r,{h with obj:=λp k=>h.obj p (q p k)}⟩
theorem ji.ref(h:ji u W t db sbqq o n mem f j g lo O C N A e l i):mj W o n.1 l.1 i n.2:=by
 obtain⟨s,K,m,a,b,c,d,tbqq,lsqq,w,r,h⟩:=h;exact h.ref.ref
theorem ji.yH(h:ji u W t db sbqq o n mem f j g lo O C N A e l i):pD W:=by
 obtain⟨s,K,m,a,b,c,d,tbqq,lsqq,w,r,h⟩:=h;exact h.yH
theorem ji.ar(h:ji u W t db sbqq o n mem f j g lo O C N A e l i):Z az u W:=by
 obtain⟨s,K,m,a,b,c,d,tbqq,lsqq,w,r,h⟩:=h;exact h.ar
theorem ji.VH(h:ji u W t db sbqq o n mem f j g lo O C N A e l i){ad:M}{cs:Array aa}{fr:M×M}(hk:z (G u)<=ad)(hm:∃au,(ad,au)∈O)(hx:W.heap[ad]?=H (aq cs 42 fr))(hi:∀q ax,Value.int q ax∉cs.toList)(hq:∀q,Value.pointer q∉cs.toList)(h2:bV j≠H ad)(h3:bV g≠H ad)(k:Z (λE=>E=ad) W W'){O':cr (M×Obj)}(hO:∀ao∈O',ao∈O/\ao.1≠ad):ji u W' t db sbqq o n mem f j g lo O' C N A e l i:=by
 obtain⟨s,K,m,a,b,c,d,tbqq,lsqq,w,r,h⟩:=h;obtain⟨au,hm⟩:=hm;obtain⟨_,hA,n1,n2,n3⟩:=h.obj (ad,au) hm;have an:=aj h.tP;refine⟨s,K,m,a,b,c,d,tbqq,lsqq,w,r,(k.block t h.CV.lt<|λac=>n1 ac.symm).trans h.box,h.ref.ar k (λac=>n2 ac.symm)<|λav hg ac=>n3 (by have e':av=ad:=ac;rw[<-e'];exact hg),(k.block sbqq an<|λac=>hA.ne ac.symm).trans h.tP,h.vt.rJ k (λE ac=>by have e':E=ad:=ac;rw[e'];exact hA.toAside) (λE ac=>by have e':E=ad:=ac;rw[e'];exact⟨_,_,_,hx,by decide,.inr hi,λq al=>absurd al<|hq _⟩)<|h.lu (λE ac=>by have e':E=ad:=ac;rw[e'];exact hk),h.yI,h.pV,h.num,h.len,h.mN,k.row h.Bl<|λE p=>⟨λac=>h2<|ac▸p,(h.nZ E p).1.lt⟩,k.row h.uN<|λE p=>⟨λac=>h3<|ac▸p,(h.kL E p).1.lt⟩,h.Wk,h.ar.trans k<|λE ac=>.inr (by have:E=ad:=ac;omega),h.low,λad q=>⟨(h.zw ad q).1,ag (h.zw ad q).2 k.size⟩,h.rV,h.CV.grow k.size,h.Gz.grow k.size,λE p=>⟨(h.yE E p).1.grow k.size,(h.yE E p).2⟩,λE p=>⟨(h.nZ E p).1.grow k.size,(h.nZ E p).2⟩,λE p=>⟨(h.kL E p).1.grow k.size,(h.kL E p).2⟩,λao hp=>?_,h.ne,h.g0⟩;obtain⟨q1,q2,q3⟩:=h.obj ao (hO ao hp).1;exact⟨(k.block _ q2.lt (hO ao hp).2).trans q1,q2.grow k.size,q3⟩
theorem ji.mono(h:ji u W t db sbqq o n mem f j g lo O C N A e l i)(hC:C<=C')(q:C'<=1000000)(hN:N<=N')(E:N'<=100000000):ji u W t db sbqq o n mem f j g lo O C' N' A e l i:=by
 obtain⟨s,K,m,a,b,c,d,tbqq,lsqq,w,r,h⟩:=h;have hs:=h.vt;have hm:1000001*N<=1000001*N':=Nat.mul_le_mul_left _ hN;refine⟨s,K,m,a,b,c,d,tbqq,lsqq,w,r,{h with vt:=?_,num:=⟨aD h.num.1 hN,aD h.num.2 hN⟩,len:=aD h.len hC,mN:=q}⟩;cases e with
 |true=>
  obtain⟨ac,nx,lg,k,hL⟩:=hs;exact⟨ac,nx,lg,k,{hL with qI:=by have:=hL.qI;omega,mN:=q,nx:=by have:=hL.nx;omega,bn:=by have:=hL.bn;omega,eO:=by have:=hL.eO;omega,JU:=E}⟩
 |false=>
  obtain⟨ac,k,hI⟩:=hs;exact⟨ac,k,hI.mono hC q hN E⟩
theorem ji.FN(h:ji u W t db sbqq o n mem f j g lo O C N A e l i):(∀k,n.1=H k->k<z (G W))/\(∀k,bV j=H k->k<z (G W))/\(∀k,bV g=H k->k<z (G W))/\o<z (G W)/\sbqq<z (G W)/\jk W j lo/\jk W g lo/\y lo<=1000000:=by
 obtain⟨s,K,m,a,b,c,d,tbqq,lsqq,w,r,h⟩:=h;exact⟨λk q=>(h.yE k<|.inl q).1.lt,λk q=>(h.nZ k q).1.lt,λk q=>(h.kL k q).1.lt,h.Gz.lt,aj h.tP,h.Bl,h.uN,h.Wk⟩
end
theorem sq{A:M}{m:dW}{l:iB}{t:X}(r:PR A m)(u:vr (m.map<|jZ t) l)(lo n:ab)(k:X):sP t lo n k m=mJ l lo n k:=by
 have p:∀v∈m.map (fQ lo),gN v:=λv q=>by obtain⟨x,s,rfl⟩:=aY.1 q;exact(r.row x s).sub eW
 have o:kr (m.map<|fQ lo):=by unfold kr;rw[js];exact r.sR.imp λ{v x}q o m k n w=>q o (cU.1 m).1 k (cU.1 n).1 w
 exact OL u (λm w q=>Wq q) lo n k (mL (nB p o) t)<|WI r.row r.sR lo t
theorem Gs(t:X)(m:ab):∀(k:cr (aa×cA)),(∀r∈k.map (·.2),gN r)->wo t m k=qM ((k.map (·.2)).map<|jZ t) m
 |[],_=>rfl
 |r::k,p=>by
  have o:=Gs t m k<|λx n=>p x (by simp at n|-;exact .inr n);unfold wo qM at*;simp only[rS,aX];rw[Sg (p r.2<|by simp),o]
theorem LO{F:M}{K:SR}{t:cA}{p q r s:cP}{l:iB}{D:X}(v:PR F (t::cF p q r s))(w:vr ((t::cF p q r s).map<|jZ D) l)(k:ab):Oi k D (qB K t p q r s)=dA #[J (sf l k).1,aL (sf l k).2.1,lE (sf l k).2.2]:=by
 unfold Oi;by_cases n:1<=k.size/\k.size<=8;have u:sf l k=((qf l k).1,(qf l k).2,0):=cY (by omega);rw[dw n,u,Gs _ _ _ (by rw[sr];exact v.row),sr,Sw w k];unfold seen;rcases hq:qM ((t::cF p q r s).map<|jZ D) k with _|E;rfl;(have x:E.Good:=by obtain⟨L,A,B⟩:=bz.1<|Pw hq;obtain⟨o,m,rfl⟩:=aY.1 A;exact v.jd E<|bz.2 ⟨o,m,xQ (v.row o m) B⟩);rcases hd:E.del with _|_;simp[Wt,hd];rfl;simp[Wt,hd,x.del hd];rfl;have u:sf l k=(⟨#[]⟩,bE,3):=dw (by omega);rw[cY n,u]
theorem Gr(n v:ab)(l:iB):∀e:iB,l.foldl (fP n v) (e,bU)=(e++l.filter (λp=>!decide (p.1=n)),bU):=by
 induction l with
 |nil=>intro e;simp
 |cons p l k=>
  intro e;obtain⟨o,q⟩:=p;rw[fO];by_cases m:o=n
  .rw[Gn m,k];simp[m]
  .rw[Gm m,k];simp[m]
theorem Tq(l:iB)(m v k:ab):vK l m v bU=vK l m k bU:=by
 unfold vK pW;rw[Gr,Gr];simp
theorem WA{r:dW}(n:X)(m:uz):∀{q:cA}{l:iB},wM q->vr (q::r) l->vr (gK q (m.map<|lV n)::r) (SO l m):=by
 induction m with
 |nil=>intro q l _ s;exact s
 |cons k m u=>
  intro q l p s;have o:=Vd p s<|lV n k;have t:vK l (lV n k).key (lV n k).val (lV n k).del=vK l k.key k.val k.del:=by
   unfold lV;simp only;cases hd:k.del with
   |true=>exact Tq _ _ _ _
   |false=>simp
  rw[t]at o;exact u (wM.gK p [lV n k]) o
section
variable{i W:Y}{j db sbqq h:M}{g:PB}{mem b:X}{e c:aa}{lo:iB}{O:cr (M×Obj)}{C N:M}{l d:LC}{f a:Bool}
theorem LW.now{w:SR}{K:DK}{v:cA}{q r s t:cP}{m:M}{k:dW}{p:Zs}{o:cr oP}(u:LW i W j db sbqq h g mem b e c lo O w K v q r s t C m N k p o d bE l f):vr ((v::cF q r s t).map<|jZ w.bB) d.1:=by
 obtain⟨_,_,n⟩:=u.vt;rw[aX,n.mem,n.BK];exact u.yI
theorem LW.shut{p:Y}{F:SR}{K:DK}{V:cA}{L P Q T:cP}{n:M}{m:dW}{w:Zs}{v:cr oP}(o:LW i W j db sbqq h g mem b e c lo O F K V L P Q T C n N m w v d bU l f)(B:bK p sbqq F 0)(r:Z (λu=>u=sbqq) W p):LW i p j db sbqq h g mem b e c lo O F K V L P Q T C n N m w v d bU l f:=by
 obtain⟨x,E,D,k,hL⟩:=o.vt;have s:gw W p db sbqq K K:=BE hL.aN o.rV r;have t:=o.lu (S:=λu=>u=sbqq) (λu x=>by have A:u=sbqq:=x;rw[A];exact o.low.2.1);exact o.OC s.dm (λ_ q=>q) B ⟨x,E,D,k,{hL with aN:=s.ok,steps:=Steps.ar hL.steps r t.1,pow:=hL.pow.ar r t.2}⟩ o.yI o.pV ⟨o.num.1,ah _⟩ o.len o.mN
theorem LW.read{t:Y}{s:SR}{K:DK}{B:cA}{v w x A:cP}{m:M}{k:dW}{r:Zs}{u:cr oP}(n:LW i W j s.aN sbqq h g mem b e c lo O s K B v w x A C m N k r u d bE l f)(E:Inv W sbqq s K B v w x A C m N k (iN 1 r))(P:tz W t sbqq s K B v w x A C):ji i t j s.aN sbqq h g mem b e c lo O C N d bE l f:=by
 obtain⟨D,L,Q,S,F,o⟩:=E.reads (aj n.tP) P;obtain⟨p,_,_⟩:=n.vt;exact⟨s,D,B,v,w,x,A,m,k,r,u,n.OC L.dm (λ_ q=>q) F ⟨p,rfl,o⟩ n.yI n.pV ⟨n.num.1,ah _⟩ n.len n.mN⟩
theorem LW.wrote{P:Y}{ad:SR}{ao:DK}{bb:cA}{au av ax ba:cP}{t:M}{r:dW}{u:Zs}{ss:cr oP}{v F o:M}{m:iB}{w:X->ab->Option ab}(ac:LW i W j ad.aN sbqq h g mem b e c lo O ad ao bb au av ax ba C t N r u ss d bE l f)(hP:nI W P sbqq ad 0 ao v F (iN 1 u) o w)(hl:y m<=v)(hT:v<=1000000)(Q:N<=F)(S:zF m/\∀E al,(E,al)∈m↔w o E=H al)(p:∀an,an∈so (iN 1 u)->∀q,w an q=fU an (bb::cF au av ax ba) q):ji i P j ad.aN sbqq h g mem b e c lo O v F (m,d.2) bE l f:=by
 obtain⟨s',K',L,x,A,B,D,s,n,k⟩:=hP;obtain⟨K,_,_⟩:=ac.vt;obtain⟨g1,g2,_,_,g5,g6⟩:=k.same;obtain⟨p1,p2,p3⟩:=ac.pV rfl;refine⟨s',K',L,x,A,B,D,s,n,u,ss,ac.OC k.ft.dm (λE q=>g6▸q) k.box ⟨g2.trans K,g1,k.inv⟩ ?_ (λ_=>⟨p1,g5.trans p2,λbc V=>(p3 bc V).congr<|λq=>?_⟩) ⟨aD ac.num.1 Q,Q⟩ hl hT⟩;(have T:gK [] n.flatten::(cF x A B D).map (jZ ((s+y n:M):X))=(L::cF x A B D).map (jZ o):=by rw[aX,<-k.BK,k.inv.mem,k.inv.BK]);rw[T];exact⟨S.1,λE al=>by rw[show seen ((L::cF x A B D).map<|jZ o) E=w o E from k.wI o (.inr rfl) E];exact S.2 E al⟩;have T:=yp u 1 bc V;exact(k.wI _ (.inl T) q).trans<|p _ T q
theorem Xz(p:ji i W j db sbqq h g mem b e c lo O C N d a l f)(k:ab)(v:k.size<=140737488351232):cw bF 30 #[aw sbqq,J k] W λt q=>t=aO (if a then .tuple #[J ⟨#[]⟩,aL bE,lE 6]else .tuple #[J (sf d.1 k).1,aL (sf d.1 k).2.1,lE (sf d.1 k).2.2])/\ji i q j db sbqq h g mem b e c lo O C N d a l f:=by
 obtain⟨L,K,F,A,B,D,E,o,n,x,w,p⟩:=p;cases a with
 |true=>
  apply(Om k p.tP p.vt.1).mono;rintro t q⟨rfl,m,r⟩;exact⟨rfl,L,K,F,A,B,D,E,o,n,x,w,p.shut m r⟩
 |false=>
  have m:=p.now;obtain⟨s,rfl,r⟩:=p.vt;apply(UF k p.tP r.st s v).mono;rintro t q⟨rfl,u⟩;refine⟨?_,p.read r u⟩;rw[LO r.all m];rfl
def Je(a:Bool)(k:WQ)(n:X)(m:ab):ab×Bool×X:=if a then(⟨#[]⟩,bE,6)else match Vr k n with
 |some l=>sf l m
 |none=>(⟨#[]⟩,bE,5)
theorem Uf(o:ji i W j db sbqq h g mem b e c lo O C N d a l f)(u:X)(k:ab)(D:k.size<=140737488351232):cw bF 36 #[aw sbqq,am u,J k] W λx q=>x=aO (dA #[J (Je a d.2 u k).1,aL (Je a d.2 u k).2.1,lE (Je a d.2 u k).2.2])/\ji i q j db sbqq h g mem b e c lo O C N d a l f:=by
 obtain⟨ac,L,V,P,Q,S,T,n,m,w,K,o⟩:=o;cases a with
 |true=>
  apply(Jg u k o.tP o.vt.1).mono;rintro x q⟨rfl,p,r⟩;exact⟨rfl,ac,L,V,P,Q,S,T,n,m,w,K,o.shut p r⟩
 |false=>
  obtain⟨E,p2,F⟩:=o.pV rfl;obtain⟨t,rfl,p⟩:=o.vt;apply(On (iN 1 w) u k o.tP p.st p.pV t D).mono;rintro x q⟨rfl,A⟩;refine⟨?_,o.read p A⟩;unfold Je;rw[<-E];rcases Ba w u with⟨ad,v,_,B,r,s⟩|⟨r,s⟩
  .simp only[r,s];rw[LO p.all<|F v<|gp B];rfl
  .simp only[r,s];rfl
def yP(a:Bool)(n:WQ)(o:X)(lo m:ab)(k:X):iB×X:=if a then([],6)else match Vr n o with
 |some l=>(mJ l lo m k,0)
 |none=>([],5)
theorem Rt(q:ji i W j db sbqq h g mem b e c lo O C N d a l f)(D:X)(m o:ab)(k:X):cw bF 38 #[aw sbqq,am D,J m,J o,am k] W λF p=>∃v,F=aO (dA #[v,lE (yP a d.2 D m o k).2])/\yZ W p v (yP a d.2 D m o k).1/\ji i p j db sbqq h g mem b e c lo O C N d a l f:=by
 obtain⟨an,S,al,T,V,ac,ad,t,s,w,Q,q⟩:=q;cases a with
 |true=>
  apply(FD D m o k q.tP q.vt.1).mono;rintro F p⟨rfl,n,r⟩;exact⟨_,rfl,bJ _ _ _ _,an,S,al,T,V,ac,ad,t,s,w,Q,q.shut n r⟩
 |false=>
  obtain⟨L,p2,P⟩:=q.pV rfl;obtain⟨r,rfl,n⟩:=q.vt;unfold yP;rw[<-L];rcases Ba w D with⟨ao,u,_,K,x,A⟩|⟨x,A⟩
  .apply(Kl (iN 1 w) D u.1 m o k n.pV x q.tP n.st r).mono;rintro F p⟨v,rfl,E,B⟩;rw[sq n.all<|P u<|gp K]at E;simp only[A];exact⟨v,rfl,E,q.read n B⟩
  .apply(Km (iN 1 w) D m o k q.tP n.st n.pV r x).mono;rintro F p⟨rfl,B⟩;simp only[A];exact⟨_,rfl,bJ _ _ _ _,q.read n B⟩
theorem Ex(r:ji i W j db sbqq h g mem b e c lo O C N d a l f)(m n:ab)(k:X):cw bF 35 #[aw sbqq,J m,J n,am k] W λE s=>∃p,E=aO p/\yZ W s p (if a=bU\/k<=0 then []else mJ d.1 m n k)/\ji i s j db sbqq h g mem b e c lo O C N d a l f:=by
 by_cases A:k<=0;apply(FK W sbqq m n k A).mono;rintro E s⟨rfl,D⟩;exact⟨_,rfl,by rw[dw<|.inr A];exact bJ _ _ _ _,r.still D⟩
 .obtain⟨ac,ad,V,P,Q,S,T,u,t,L,K,r⟩:=r;cases a with
  |true=>
   apply(CQ m n k (by omega) r.tP r.vt.1).mono;rintro E s⟨p,rfl,w,o,D⟩;exact⟨p,rfl,by rw[dw<|.inl rfl];exact w,ac,ad,V,P,Q,S,T,u,t,L,K,r.shut o D⟩
  |false=>
   have o:=r.now;obtain⟨x,rfl,v⟩:=r.vt;have B:y (sP ac.bB m n 0<|V::cF P Q S T)<=1000000000:=by
    rw[sq v.all o];have:=my d.1 m n 0;have:=r.len;have:=r.mN;omega
   apply(FJ m n k (by omega) r.tP v.st x B).mono;rintro E s⟨p,rfl,w,F⟩;rw[QC _ m n k (by omega),sq v.all o]at w;exact⟨p,rfl,by rw[cY (by rintro(q|q);cases q;exact A q)];exact w,r.read v F⟩
def qQ(d:iB)(k:uz):iB:=if fY k=0 then SO d k else d
theorem Hw(d:iB)(k:uz)(m:y d<=C):y (qQ d k)<=C+lw k:=by
 unfold qQ lw;by_cases q:fY k=0;rw[dw q,dw q];have:=EV d k;omega;rw[cY q,cY q];omega
theorem wg{s:SR}{ad:DK}{F:cA}{w x A B:cP}{t:M}{r:dW}{p:fR}{d:iB}(n:Inv W sbqq s ad F w x A B C t N r p)(L:vr ((F::cF w x A B).map<|jZ s.bB) d)(k:uz):(zF (qQ d k)/\∀o v,(o,v)∈qQ d k↔xg p F (cF w x A B) ((s.bB:X)+1) k (yS s.bB k) o=H v)/\∀S,S∈so p->∀q,xg p F (cF w x A B) ((s.bB:X)+1) k S q=fU S (F::cF w x A B) q:=by
 unfold qQ xg yS;by_cases q:fY k=0;rw[dw q,dw q,dw q];obtain⟨_,hk,hv⟩:=CB q;have V:=n.bn;have ac:=n.mN;(have P:∀T∈k.map (lV<|(s.bB:X)+1),T.Good:=λT D=>by obtain⟨m,E,rfl⟩:=aY.1 D;exact ER (hk m E) (hv m E) (by omega)<|by omega);(have K:∀T∈k.map (lV<|(s.bB:X)+1),T.bH=(s.bB:X)+1:=λT D=>by obtain⟨m,E,rfl⟩:=aY.1 D;rfl);refine⟨?_,λS Q o=>by rw[dw q];exact n.TT P K Q o⟩;have u:=WA ((s.bB:X)+1) k (mL n.row _) L;rcases k with _|⟨c0,k⟩;refine⟨u.1,λo v=>?_⟩;rw[u.2 o v];show _↔fU s.bB (gh p F []::cF w x A B) o=H v;rw[<-n.ym (.inr rfl) o];rfl;refine⟨u.1,λo v=>?_⟩;rw[u.2 o v];show _↔fU ((s.bB+1:M):X) (gh p F _::cF w x A B) o=H v;rw[show((s.bB+1:M):X)=(s.bB:X)+1 by omega,n.TV P K o];rw[cY q,cY q,cY q];exact⟨L,λS Q o=>by rw[cY q]⟩
theorem Ew(q:ji i W j db sbqq h g mem b e c lo O C N d a l f)(r:aa)(m:uz)(k:Bool)(x:xW W r m)(v:∀L,bV r=H L->L<z (G W)/\L≠sbqq)(K:∀Q∈m,Q.key.size<=140737488351232/\Q.val.size<=140737488351232)(F:y m<=1000000000)(t:C+lw m<=1000000)(A:N+1<=100000000):cw bF 13 #[aw sbqq,r,aL k] W λD s=>D=aO (lE<|if a then 6 else fY m)/\ji i s j db sbqq h g mem b e c lo O (C+lw m) (N+1) (if a then d.1 else qQ d.1 m,d.2) a l f:=by
 obtain⟨an,S,al,T,V,ac,ad,p,o,B,P,q⟩:=q;cases a with
 |true=>
  apply(zM r k q.tP q.vt.1).mono;rintro D s⟨rfl,n,u⟩;exact⟨rfl,ji.mono ⟨an,S,al,T,V,ac,ad,p,o,B,P,q.shut n u⟩ (by omega) t (by omega) A⟩
 |false=>
  have n:=q.now;obtain⟨w,rfl,u⟩:=q.vt;apply(Dh (iN 1 B) k q.tP u w x v K F t A).mono;rintro D s⟨rfl,E⟩;exact⟨rfl,q.wrote E (Hw d.1 m q.len) t (by omega) (wg u n m).1 (wg u n m).2⟩
theorem Ue(q:ji i W j db sbqq h g mem b e c lo O C N d a l f)(m r n o:ab)(p:Bool)(S:n.size<=140737488351232/\o.size<=140737488351232)(A:C+lw [⟨n,o,p⟩]<=1000000)(K:N+1<=100000000):cw bF 64 #[aw sbqq,J m,J r,eD #[J n,J o,aL p]] W λP w=>∃s,P=aO (dA #[s,am<|if a then 6 else fY [⟨n,o,p⟩]])/\yZ W w s (if a then []else mJ d.1 m r 0)/\ji i w j db sbqq h g mem b e c lo O (C+lw [⟨n,o,p⟩]) (N+1) (if a then d.1 else qQ d.1 [⟨n,o,p⟩],d.2) a l f:=by
 obtain⟨ao,au,an,V,ac,ad,al,v,u,L,T,q⟩:=q;have F:=q.yH;have E:=q.YO;cases a with
 |true=>
  apply(FI m r n o p q.tP q.vt.1 F E.1).mono;rintro P w⟨s,rfl,x,k,t⟩;exact⟨s,rfl,x,ji.mono ⟨ao,au,an,V,ac,ad,al,v,u,L,T,q.shut k t⟩ (by omega) A (by omega) K⟩
 |false=>
  have k:=q.now;obtain⟨B,rfl,t⟩:=q.vt;have D:y (sP ao.bB m r 0<|an::cF V ac ad al)<=1000000000:=by
   rw[sq t.all k];have:=my d.1 m r 0;have:=q.len;have:=q.mN;omega
  apply(KN (iN 1 L) m r n o p q.tP t B F E S A K D).mono;rintro P w⟨s,rfl,x,Q⟩;rw[sq t.all k]at x;exact⟨s,rfl,x,q.wrote Q (Hw d.1 _ q.len) A (by omega) (wg t k _).1 (wg t k _).2⟩
theorem Li(t:ji i W j db sbqq h g mem b e c lo O C N d a l f):cw bF 23 #[aw sbqq] W λv u=>v=aO (lE<|if a then 6 else 0)/\ji i u j db sbqq h g mem b e c lo O C N d bU l f:=by
 obtain⟨F,P,al,T,V,w,ac,n,m,L,K,t⟩:=t;cases a with
 |true=>
  apply(Vh t.tP t.vt.1).mono;rintro v u⟨rfl,A,k⟩;exact⟨rfl,F,P,al,T,V,w,ac,n,m,L,K,t.shut A k⟩
 |false=>
  have r:=t;obtain⟨B,rfl,k⟩:=t.vt;have D:=t.lu (S:=λP=>P=sbqq) (λP v=>by have e':P=sbqq:=v;rw[e'];exact t.low.2.1);have s:∀{n:aa}{Q k:M}{m:iV},Row W k n Q m->∃ad Q w,n=I ad Q w:=λq=>by
   obtain⟨ad,w,v⟩:=oZ q;exact⟨ad,_,w,v⟩
  refine(Sy t.tP B (s k.st.mem) (s k.st.l0.row) (s k.st.l1.row) (s k.st.l2.row) (s k.st.l3.row) k.st.aN k.st.rV k.st.lu.pow (λv=>D.2 v.symm) (by have:=k.qX.lt;have:=k.nx;have:=k.mN;omega) (λq=>⟨_,k.qX.log<|k.loose q,by have:=k.QI.1;omega⟩) (by have:=k.eO;have:=k.mN;omega)).mono ?_;rintro v u⟨rfl,E,p,hf,hm,A⟩;have o:=k.laid;have x:wN u F.aN E T V w ac C n N F.next F.log F.gC m:=o.again p.ok (λQ=>by rw[hf]) hm (Steps.ar o.steps p.ar<|λq=>q.elim o.fC D.1) (o.pow.ar p.ar<|λq=>q.elim o.me D.2) (λq=>(p.aZ _ q).elim o.fC (λk=>by have:=o.steps.lt;omega))<|λq=>(p.aZ _ q).elim o.me (λk=>by have:=o.pow.lt;omega);exact⟨rfl,_,E,al,T,V,w,ac,n,m,L,K,r.OC p.dm (λP q=>by cases q) A ⟨rfl,_,_,_,x⟩ r.yI (λq=>by cases q) ⟨r.num.1,ah _⟩ r.len r.mN⟩
def sM(a:Bool)(k:LC):X×X×WQ:=if a then(0,6,k.2)else if 4<=y (k.2.filter Option.isSome)then(0,2,k.2)else((y k.2:X)+1,0,k.2++[H k.1])
theorem Lh(m:ji i W j db sbqq h g mem b e c lo O C N d a l f)(D:N+1<=100000000):cw bF 18 #[aw sbqq] W λx A=>x=aO (dA #[am (sM a d).1,lE (sM a d).2.1])/\ji i A j db sbqq h g mem b e c lo O C (N+1) (d.1,(sM a d).2.2) a l f:=by
 obtain⟨s,al,ax,an,ao,au,av,o,n,k,T,m⟩:=m;have B:=m.mN;cases a with
 |true=>
  apply(CN m.tP m.vt.1).mono;rintro x A⟨rfl,E,K⟩;exact⟨rfl,ji.mono ⟨s,al,ax,an,ao,au,av,o,n,k,T,m.shut E K⟩ (ah _) B (by omega) D⟩
 |false=>
  have v:=m.now;obtain⟨L,P,p3⟩:=m.pV rfl;have F:=Bq k 1;rw[L]at F;have w:=QB k;rw[L]at w;obtain⟨r,rfl,t⟩:=m.vt;by_cases Q:4<=y (d.2.filter Option.isSome)
  .have x:sM bE d=(0,2,d.2):=by unfold sM;rw[cY (by simp),dw Q]
   rw[x];apply(FA (iN 1 k) m.tP t.st t.pV r<|by omega).mono;rintro x A⟨rfl,p⟩;exact⟨rfl,(m.read t p).mono (ah _) B (by omega) D⟩
  .have x:sM bE d=((y d.2:X)+1,0,d.2++[H d.1]):=by unfold sM;rw[cY (by simp),cY Q]
   rw[x];obtain⟨S,u,ad,ac⟩:=t.pV.ex;refine(Fz (iN 1 k) S m.tP t r (by omega) (λbb hp=>by have:=uU k 1 bb hp;omega) (by have:=m.num.1;omega) u).mono ?_;rintro x A⟨rfl,E,p,K⟩;have V:iN 1 k++[(s.ia+1,s.bB)]=iN 1 (k++[H (s.bB,d.1)]):=by rw[zx,P,vz]
   rw[V]at p;refine⟨by rw[P,w];rfl,⟨{s with ia:=s.ia+1},al,ax,an,ao,au,av,o,n,k++[H (s.bB,d.1)],T,m.OC (s':={s with ia:=s.ia+1}) (N':=N+1) (zs':=k++[H (s.bB,d.1)]) (lc':=(d.1,d.2++[H d.1])) ⟨p.st.aN,K.mono<|λba q=>.inl<|q.imp id (λ(x:ba=S)=>by rw[x];exact u),λ_ q=>.inl q⟩ (λ_ q=>q) E ⟨r,rfl,p.mono (ah _) B (by omega) D⟩ m.yI (λ_=>⟨by rw[Nh,L],by show s.ia+1=_;rw[P];simp,λbc hx=>?_⟩) ⟨by have:=m.num.1;simp;omega,by omega⟩ m.len B⟩⟩;rcases ak.1 hx with q|q
   .exact p3 bc q
   .have q':=bG.1 q;cases q';exact v
def Ns(a:Bool)(k:WQ)(n:X):X×WQ:=if a then(6,k)else match Vr k n with
 |some _=>(0,k.set (n-1).toNat none)
 |none=>(5,k)
theorem NQ(p:ji i W j db sbqq h g mem b e c lo O C N d a l f)(A:X):cw bF 20 #[aw sbqq,am A] W λS B=>S=aO (lE (Ns a d.2 A).1)/\ji i B j db sbqq h g mem b e c lo O C N (d.1,(Ns a d.2 A).2) a l f:=by
 obtain⟨s,al,Q,an,ao,au,av,o,n,k,ss,p⟩:=p;have hT:=p.mN;cases a with
 |true=>
  apply(DQ A p.tP p.vt.1).mono;rintro S B⟨rfl,F,L⟩;exact⟨rfl,s,al,Q,an,ao,au,av,o,n,k,ss,p.shut F L⟩
 |false=>
  have D:=p.now;obtain⟨P,p2,p3⟩:=p.pV rfl;obtain⟨t,rfl,v⟩:=p.vt;unfold Ns;rcases Ba k A with⟨T,x,hn,hy,E,u⟩|⟨E,u⟩
  .rw[P]at u;simp only[u];obtain⟨V,w,ad,ac⟩:=v.pV.ex;apply(Iv (iN 1 k) A V x.1 p.tP v t E w).mono;rintro S B⟨rfl,mv,F,r,m,L⟩;have hj:(A-1).toNat=T:=by omega
   have e3:lU (iN 1 k) A=iN 1 (k.set T none):=by
    rw[<-Bs k 1 T x hy,hn];congr 1;omega
   rw[e3]at r m;have K:∀Q,H Q∈k.set T none->H Q∈k:=λQ D=>(jL D).elim id (λq=>by cases q);refine⟨rfl,{s with memory:=mv},al,_,an,ao,au,av,o,n,k.set T none,ss,p.OC (s':={s with memory:=mv}) (lc':=(d.1,d.2.set (A-1).toNat none)) ⟨r.st.aN,L.mono<|λu q=>.inl<|q.imp id (λ(S:u=V)=>by rw[S];exact w),λ_ q=>.inl q⟩ (λ_ q=>q) F ⟨t,rfl,r⟩ p.yI (λ_=>⟨by rw[QA,P,hj],by rw[eM];exact p2,λQ D=>(p3 Q<|K Q D).congr<|λq=>m _ (.inl<|yp _ 1 Q D) q⟩) ⟨by rw[eM];exact p.num.1,ah _⟩ p.len hT⟩
  .rw[P]at u;simp only[u];apply(Iw (iN 1 k) A p.tP v.st v.pV t E).mono;rintro S B⟨rfl,m⟩;exact⟨rfl,p.read v m⟩
end
section
variable{i W:Y}{j db sbqq f:M}{d:PB}{mem c:X}{g e:aa}{lo:iB}{O:cr (M×Obj)}{C N:M}{l h:LC}{b a:Bool}
theorem ji.TD(m:ji i W j db sbqq f d mem c g e lo O C N h a l b)(n:X)(k:ab)(v:k.size<=140737488351232):cw bF 37 #[aw f,am n,J k] W λx w=>x=aO (dA #[J (Je b l.2 n k).1,aL (Je b l.2 n k).2.1,am (Je b l.2 n k).2.2])/\w=W:=by
 obtain⟨T,K,S,E,F,L,P,s,q,D,r,m⟩:=m;refine(IA d.1 r n k m.ref.ref m.ref.Fy (λA u=>by have:=m.ref.len A u;omega) v).mono ?_;rintro x B⟨rfl,t⟩;refine⟨?_,t⟩;unfold Je xJ;rw[<-m.ref.abs];cases b with
 |true=>rfl
 |false=>rcases AJ r n with⟨Q,A,_,_,o,p⟩|⟨o,p⟩<;>(simp only[o,p];rfl)
theorem ji.QO(r:ji i W j db sbqq f d mem c g e lo O C N h a l b)(u:X)(m p:ab)(k:X):cw bF 39 #[aw f,am u,J m,J p,am k] W λE x=>∃q,E=aO (dA #[q,am (yP b l.2 u m p k).2])/\oQ x (z<|G W) q (yP b l.2 u m p k).1/\Below (z<|G W) W x:=by
 obtain⟨ad,P,ac,Q,S,T,V,w,v,L,t,r⟩:=r;refine(FH d.1 t u m p k r.ref.ref r.ref.Fy (λD B=>by have:=r.ref.len D B;omega)).mono ?_;rintro E F⟨q,rfl,s,A⟩;refine⟨q,?_,?_,A⟩
 .unfold yP;rw[<-r.ref.abs];cases b with
  |true=>rfl
  |false=>rcases AJ t u with⟨K,D,_,_,n,o⟩|⟨n,o⟩<;>(simp only[n,o];rfl)
 .unfold yP;rw[<-r.ref.abs];cases b with
  |true=>exact s
  |false=>rcases AJ t u with⟨K,D,_,_,n,o⟩|⟨n,o⟩<;>(simp only[n,o]at s|-;exact s)
theorem ji.VU(m:ji i W j db sbqq f d mem c g e lo O C N h a l b)(h1:y l.1<=1000000)(hN:y l.2+1<=N)(ax:N<=100000000):cw bF 19 #[aw f] W λu w'=>u=aO (dA #[am (sM b l).1,am (sM b l).2.1])/\∃ac,ji i w' j db sbqq f ac mem c g e lo O C N h a (l.1,(sM b l).2.2) b:=by
 obtain⟨bc,al,bb,an,ao,au,av,t,s,zs,A,m⟩:=m;cases b with
 |true=>
  apply(DR d.1 m.ref.ref).mono;rintro u K⟨rfl,rfl⟩;exact⟨rfl,d,bc,al,bb,an,ao,au,av,t,s,zs,A,m⟩
 |false=>
  have P:=GP A;rw[m.ref.abs]at P;have S:y A=y l.2:=by rw[<-m.ref.abs];simp
  by_cases h4:4<=y (l.2.filter Option.isSome)
  .have u:sM bE l=(0,2,l.2):=by unfold sM;rw[cY (by simp),dw h4]
   rw[u];apply(Iz d.1 A m.ref.ref m.ref.Fy<|by omega).mono;rintro u K⟨rfl,rfl⟩;exact⟨rfl,d,bc,al,bb,an,ao,au,av,t,s,zs,A,m⟩
  .have u:sM bE l=((y l.2:X)+1,0,l.2++[H l.1]):=by unfold sM;rw[cY (by simp),cY h4]
   rw[u];have Q:bV d.2≠H f:=λq=>(m.ref.sep f q).1 rfl;apply(Iy d.1 A m.ref.ref m.ref.Fy (by omega) m.ref.own m.ar.size Q m.ref.kind).mono;rintro u K⟨rfl,ad,E,T,hp,hh,ho,F,k,L⟩;have ba:=m.Gz.lt;have o:∀n,bV ad=H n->n<z (G W)/\n≠f/\bV d.2≠H n:=λn w=>by
    rw[T]at w;exact⟨m.ref.ref.lt n w,(m.yE n<|.inl w).2.2,λq=>(m.ref.sep n q).2.1 w⟩
   have x:∀p,bV E=H p->bV d.2=H p\/z (G W)<=p:=λp q=>by
    rcases L with u|⟨n,u,w⟩
    .exact .inl<|u▸q
    .rw[u]at q;cases q;exact .inr w
   have D:jk K ad l.1:=F.row hp<|λp k=>⟨λq=>q.elim (o p k).2.1 (o p k).2.2,(o p k).1⟩;have V:=F.size;refine⟨by rw[S],(d.1,E),bc,al,bb,an,ao,au,av,t,s,zs,A++[(⟨bU,ad,l.1⟩:oP)],m.refs F ⟨⟨⟨ad,hh,D,T⟩,m.ref.ref.ne,λn w=>ag (m.ref.ref.lt n w) V⟩,⟨dF ho,?_,?_,by rw[af];simp;omega⟩,ho,k,by rw[aM,m.ref.abs];rfl,?_,?_⟩ ?_ x (by simp;omega)⟩
   .intro B r v;rcases ak.1 r with q|q
    .have n:=m.ref.Fy.each B q v;exact⟨F.row n.1<|λp k=>⟨λo=>o.elim (m.yE p<|.inr<|.inr ⟨B,q,v,k⟩).2.2<|λo=>(m.ref.sep p o).2.2 B q v k,n.2 p k⟩,λp k=>ag (n.2 p k) V⟩
    .rw[bG.1 q];exact⟨D,λp k=>ag (o p k).1 V⟩
   .intro B r;rcases ak.1 r with q|q
    .exact m.ref.Fy.shape B q
    .rw[bG.1 q];obtain⟨x0,c0,e0⟩:=bL hp;exact⟨_,_,_,e0⟩
   .intro B r;rcases ak.1 r with q|q
    .exact m.ref.len B q
    .rw[bG.1 q];exact h1
   .intro p k;rcases x p k with q|q
    .refine⟨(m.ref.sep p q).1,(m.ref.sep p q).2.1,λB r v u=>?_⟩;rcases ak.1 r with n|n
     .exact(m.ref.sep p q).2.2 B n v u
     .rw[bG.1 n]at u;exact(o p u).2.2 q
    .refine⟨by omega,λu=>by have:=m.ref.ref.lt p u;omega,λB r v u=>?_⟩;rcases ak.1 r with n|n
     .have:=(m.ref.Fy.each B n v).2 p u;omega
     .rw[bG.1 n]at u;have:=(o p u).1;omega
   .intro p k;rcases k with q|q|⟨B,r,v,q⟩
    .exact .inl<|.inl q
    .exact(x p q).imp (λq=>.inr<|.inl q) id
    .rcases ak.1 r with n|n
     .exact .inl<|.inr<|.inr ⟨B,n,v,q⟩
     .rw[bG.1 n]at q;exact .inl<|.inl<|T▸q
theorem ji.Nt(n:ji i W j db sbqq f d mem c g e lo O C N h a l b)(K:X):cw bF 21 #[aw f,am K] W λS w'=>S=aO (am (Ns b l.2 K).1)/\ji i w' j db sbqq f d mem c g e lo O C N h a (l.1,(Ns b l.2 K).2) b:=by
 obtain⟨ao,T,an,V,ac,ad,al,s,r,F,u,n⟩:=n;cases b with
 |true=>
  apply(yQ d.1 u K n.ref.ref n.ref.Fy<|.inl rfl).mono;rintro S A⟨rfl,rfl⟩;exact⟨rfl,ao,T,an,V,ac,ad,al,s,r,F,u,n⟩
 |false=>
  unfold Ns;rcases AJ u K with⟨Q,au,hn,hj,B,v⟩|⟨B,v⟩
  .rw[n.ref.abs]at v;simp only[v];subst hn;have E:((Q:X)+1-1).toNat=Q:=by omega
   apply(DS d.1 u Q au n.ref.ref n.ref.Fy B hj n.ref.own n.ref.kind).mono;rintro S A⟨rfl,P,hg,hk⟩;have x:Z (λw=>bV d.2=H w) W A:=Z.dM hg<|λ_ q=>.inl q;have t:∀k∈u.set Q AG,k.live=bU->k∈u:=λk p o=>(jL p).elim id (λq=>by rw[q]at o;cases o);refine⟨rfl,ao,T,an,V,ac,ad,al,s,r,F,u.set Q AG,n.refs (x.mono<|λ_ q=>.inl<|.inr q) ⟨n.ref.ref.ar x (λq=>(n.ref.sep f q).1 rfl)<|λL D q=>(n.ref.sep L q).2.1 D,⟨dF P,λk p o=>?_,λk p=>?_,by rw[eM];exact n.ref.Fy.small⟩,P,hk,by rw[WO,n.ref.abs,E];rfl,λk p=>?_,λw m=>⟨(n.ref.sep w m).1,(n.ref.sep w m).2.1,λk p o=>(n.ref.sep w m).2.2 k (t k p o) o⟩⟩ (λw q=>.inl ?_) (λ_ q=>.inl q) (by show y (List.set _ _ _)<=N;rw[eM];exact n.num.2)⟩
   .have L:=n.ref.Fy.each k (t k p o) o;exact⟨x.row L.1<|λw m=>⟨λq=>(n.ref.sep w q).2.2 k (t k p o) o m,L.2 w m⟩,λw m=>ag (L.2 w m) x.size⟩
   .rcases jL p with q|q
    .exact n.ref.Fy.shape k q
    .rw[q];exact⟨none,0,0,rfl⟩
   .rcases jL p with q|q
    .exact n.ref.len k q
    .rw[q];exact bw _
   .rcases q with q|q|⟨k,p,o,q⟩
    .exact .inl q
    .exact .inr<|.inl q
    .exact .inr<|.inr ⟨k,t k p o,o,q⟩
  .rw[n.ref.abs]at v;simp only[v];apply(yQ d.1 u K n.ref.ref n.ref.Fy<|.inr B).mono;rintro S A⟨rfl,rfl⟩;exact⟨rfl,ao,T,an,V,ac,ad,al,s,r,F,u,n⟩
end
def fW(i A B:X)(S T:ab)(L:aa):Obj:=aq #[am i,am A,am B,J S,J T,L] 31 (0,0)
def wO(i A B:X)(S T:ab)(L:aa):aa:=eD #[am i,am A,am B,J S,J T,L]
section
variable{h W:Y}{e db sbqq g:M}{f:PB}{mem b:X}{d c:aa}{lo:iB}{O:cr (M×Obj)}{C N:M}{l:LC}{a:Bool}
theorem ji.gT{W:Y}{k:LC}{i:Bool}(m:ji h W e db sbqq g f mem b d c lo O C N k a l i):aS W (R e 0)=H (aw db)/\aS W (R e 1)=H (aw sbqq)/\aS W (R e 2)=H (aw g)/\aS W (R e 5)=H d/\aS W (R e 6)=H c:=by
 have j:=m.box;refine⟨?_,?_,?_,?_,?_⟩<;>(rw[bR j];rfl)
theorem ji.dN{W:Y}{n:LC}{k:Bool}{i:M}{j A B:X}{S T:ab}{L:aa}(o:ji h W e db sbqq g f mem b d c lo ((i,fW j A B S T L)::O) C N n a l k):aS W (R i 0)=H (am j)/\aS W (R i 1)=H (am A)/\aS W (R i 2)=H (am B)/\aS W (R i 3)=H (J S)/\aS W (R i 4)=H (J T)/\aS W (R i 5)=H L:=by
 have m:W.heap[i]?=H (fW j A B S T L):=o.obj (p:=(i,fW j A B S T L))<|dy ..;unfold fW at m;refine⟨?_,?_,?_,?_,?_,?_⟩<;>(rw[bR m];rfl)
def Oj(a:Bool)(l:iB)(k:ab):ab×Bool×X:=if a then(⟨#[]⟩,bE,6)else sf l k
theorem Wi{j:LC}{k:Bool}(q:ji h W e db sbqq g f mem b d c lo O C N j a l k)(i:ab)(o:i.size<=140737488351232):cw bF 30 #[aw sbqq,J i] W λp m=>p=aO (dA #[J (Oj a j.1 i).1,aL (Oj a j.1 i).2.1,lE (Oj a j.1 i).2.2])/\ji h m e db sbqq g f mem b d c lo O C N j a l k:=by
 apply(Xz q i o).mono;rintro p m⟨rfl,n⟩;refine⟨?_,n⟩;cases a<;>rfl
theorem TC{W:Y}{g:M}{f:PB}(q:mj W g f.1 l.1 a f.2)(i:ab)(k:y l.1<=1000000000000)(m:i.size<=140737488351232):cw bF 31 #[aw g,J i] W λo n=>o=aO (dA #[J (Oj a l.1 i).1,aL (Oj a l.1 i).2.1,am (Oj a l.1 i).2.2])/\n=W:=by
 apply(Nu f.1 i q k m).mono;rintro o p⟨rfl,j⟩;refine⟨?_,j⟩;cases a<;>rfl
theorem ji.lens{W:Y}{k:LC}{i:Bool}(j:ji h W e db sbqq g f mem b d c lo O C N k a l i):y k.1<=C/\C<=1000000/\y l.2<=N:=by
 obtain⟨v,K,u,q,r,s,t,n,m,p,o,j⟩:=j;exact⟨j.len,j.mN,j.num.2⟩
theorem TF(al:ji h W e db sbqq g f mem b d c lo O C N l a l a)(an ao:X)(S au:ab)(bd:Option Addr)(bc av:M)(hz:S.size<=140737488351232):cw bF 12 #[aw e,wO 2 an ao S au<|I bd bc av] W λac w'=>ac=aO (aL bU)/\ji h w' e db sbqq g f mem b d c lo O C N l a l a:=by
 obtain⟨F,B⟩:∃F,z (G W)=F:=⟨_,rfl⟩;have h1:ji h (ct W<|fW 2 an ao S au<|I bd bc av) e db sbqq g f mem b d c lo ((F,fW 2 an ao S au<|I bd bc av)::O) C N l a l a:=al.add ((Z.refl _ W).alloc _) (by omega)<|aC _ B.symm;have t:=h1.still<|bX az _;have k:=Wi t S hz;have w:=And.intro t.gT.2.1 t.dN.2.2.2.1;have ax:=aj al.box;have ad:=al.lens;have s:=λj(q:mj j g f.1 l.1 a f.2)=>TC q S (by omega) hz;obtain⟨gv,gb,K,r⟩:∃gv gb K,Oj a l.1 S=(gv,gb,K):=⟨_,_,_,rfl⟩;rw[r]at k;simp only[r]at s;simp only at k s;have V:=U t;unfold wO;unfold fW at k w V;clear al h1 t r;go_in
 go_wp2_with fail
 try rw[B]
 rename_i QQ P o;refine cg (λj=>aS j (R e 1)=H (aw sbqq)/\aS j (R F 3)=H (J S)) 13 (by kernel_rfl) ?_;refine cQ 0 ?_;iterate 6 (refine eE (v:=?_) w rfl (by kernel_rfl) iO rfl ?_ ?_;rotate_left;(focus(rintro j⟨Q,T⟩;go_simp;try rfl));simp only[Act.put,cX,gB,Nat.reduceAdd])
 apply eh;refine aJ (i:=6) rfl rfl (by kernel_rfl) ?_;intro KC n;go_simp;apply k.mono;rintro ac W2⟨rfl,t⟩;have h3:=t.still<|bX az W2;have x:=And.intro t.gT.2.1 t.dN.2.2.2.1;have m:=U h3;refine n _ _ (λ_=>x) ?_;try simp only[Act.put,cX,gB]
 refine cQ 7 ?_;iterate 6 (refine eE (v:=?_) x rfl (by kernel_rfl) iO rfl ?_ ?_;rotate_left;(focus(rintro j⟨Q,T⟩;go_simp;try rfl));simp only[Act.put,cX,gB,Nat.reduceAdd])
 apply eh;refine aJ (i:=13) rfl rfl (by kernel_rfl) ?_;intro KL p;go_simp;refine p _ _ wu ?_;refine cO (by kernel_rfl) ?_ _;show P _ _;apply o;have D:=s _ m.ref;have u:=And.intro m.gT.2.2.1 m.dN.2.2.2.1;clear w x k t h3 n p o V;go_wp2_with fail
 rename_i QQ P o;refine cg (λj=>aS j (R e 2)=H (aw g)/\aS j (R F 3)=H (J S)) 13 (by kernel_rfl) ?_;refine cQ 0 ?_;iterate 6 (refine eE (v:=?_) u rfl (by kernel_rfl) iO rfl ?_ ?_;rotate_left;(focus(rintro j⟨Q,T⟩;go_simp;try rfl));simp only[Act.put,cX,gB,Nat.reduceAdd])
 apply eh;refine aJ (i:=6) rfl rfl (by kernel_rfl) ?_;intro KC n;go_simp;apply D.mono;rintro ac W3⟨rfl,ba⟩;subst W3;refine n _ _ (λ_=>u) ?_;try simp only[Act.put,cX,gB]
 refine cQ 7 ?_;iterate 6 (refine eE (v:=?_) u rfl (by kernel_rfl) iO rfl ?_ ?_;rotate_left;(focus(rintro j⟨Q,T⟩;go_simp;try rfl));simp only[Act.put,cX,gB,Nat.reduceAdd])
 apply eh;refine aJ (i:=13) rfl rfl (by kernel_rfl) ?_;intro KL p;go_simp;refine p _ _ wu ?_;refine cO (by kernel_rfl) ?_ _;show P _ _;apply o;have E:=kW K m.yH;clear D u n p o;go_wp2_with fail
 apply E.mono;rintro ac W4⟨rfl,A⟩;have L:=U<|m.still<|Z.aT A;clear A E m;go_wp2_with fail
 apply(ni K _).mono;rintro ac W5⟨rfl,bb⟩;subst W5;go_wp2;go_ret;exact⟨rfl,L.drop<|λp j=>aG _ j⟩
end
structure OW(n W:Y)(g db m:M)(r:PB)(v:Option Addr)(mem wH:X)(i f:aa)(lo:iB)(O:cr (M×Obj))(K:DK)(a b c d:cP)(C tb N nx x:M)(gC:Bool)(ls:dW)(w:cr oP)(l:LC)(o:Bool):Prop where
 box:W.heap[g]?=H (aq #[aw db,fh v,aw m,am mem,am wH,i,f] 40 (0,0))
 ref:BP (z<|G n) W m r l o w
 laid:wN W db K a b c d C tb N nx x gC ls
 yI:vr (gK [] ls.flatten::(cF a b c d).map (jZ ((tb+y ls:M):X))) l.1
 len:y l.1<=C
 Bl:jk W i lo
 uN:jk W f lo
 Wk:y lo<=1000000
 ar:Z az n W
 low:(∀k,K.aZ db k->z (G n)<=k)/\z (G n)<=m/\z (G n)<=g
 CV:¬K.aZ db g
 Gz:¬K.aZ db m
 yE:∀k,JF r w k->k<z (G W)/\¬K.aZ db k/\k≠g/\k≠m
 nZ:∀k,bV i=H k->k<z (G W)/\¬K.aZ db k/\k≠g/\k≠m/\bV r.2≠H k
 kL:∀k,bV f=H k->k<z (G W)/\¬K.aZ db k/\k≠g/\k≠m/\bV r.2≠H k
 obj:∀p∈O,W.heap[p.1]?=H p.2/\¬K.aZ db p.1/\p.1≠g/\p.1≠m/\¬JF r w p.1
 YB:∀q,v=H (R q 0)->¬K.aZ db q/\∃cs t fr,W.heap[q]?=H (aq cs t fr)/\t≠293
 ne:g≠m
 g0:Steps n/\Pow n/\pD n
section
variable{n W W':Y}{g db m:M}{r:PB}{v:Option Addr}{mem j s u:X}{i f:aa}{lo:iB}{O:cr (M×Obj)}{K:DK}{a b c d:cP}{C tbqq N nx x:M}{e:Bool}{lsqq:dW}{w:cr oP}{l:LC}{o:Bool}
theorem OW.still(h:OW n W g db m r v mem j i f lo O K a b c d C tbqq N nx x e lsqq w l o)(p:Z az W W'):OW n W' g db m r v mem j i f lo O K a b c d C tbqq N nx x e lsqq w l o:={h with
 box:=(p.block g (aj h.box) id).trans h.box
 ref:=h.ref.ar p id<|λ_ _=>id
 laid:=h.laid.ar p
 Bl:=p.row h.Bl<|λt k=>⟨id,(h.nZ t k).1⟩
 uN:=p.row h.uN<|λt k=>⟨id,(h.kL t k).1⟩
 ar:=h.ar.ci p
 yE:=λt k=>⟨ag (h.yE t k).1 p.size,(h.yE t k).2⟩
 nZ:=λt k=>⟨ag (h.nZ t k).1 p.size,(h.nZ t k).2⟩
 kL:=λt k=>⟨ag (h.kL t k).1 p.size,(h.kL t k).2⟩
 obj:=λB A=>⟨(p.block _ (aj (h.obj B A).1) id).trans (h.obj B A).1,(h.obj B A).2⟩
 YB:=λq L=>by
  obtain⟨E,B,P,D,A,F⟩:=h.YB q L;exact⟨E,B,P,D,(p.block q (aj A) id).trans A,F⟩}
theorem OW.yH(h:OW n W g db m r v mem j i f lo O K a b c d C tbqq N nx x e lsqq w l o):pD W:=h.g0.2.2.ar h.ar id
theorem OW.opened(A:OW n W g db m r v mem j i f lo O K a b c d C tbqq N nx x e lsqq w l o){W1 L:Y}{E:M}(B:Fl W W1 db (z (G W)+2) s u K C (N+1) (fU (tbqq+y lsqq:M)<|gK [] lsqq.flatten::cF a b c d))(ht:Z (λk=>k=g) W1 L)(hb:L.heap[g]?=H (aq #[aw db,aw<|z (G W)+2,aw E,am s,am u,i,f] 40 (0,0)))(hr:mj L E r.1 l.1 bE aK)(bc:z (G W1)<=E)(au:E<z (G L)):ji n L g db (z (G W)+2) E (r.1,aK) s u i f lo O C (N+1) (l.1,[]) bE (l.1,[]) bE:=by
 obtain⟨an,K',bh,a',b',c',d',al,Q,B⟩:=B;obtain⟨e1,e2,_,_,e5,e6⟩:=B.same;subst e1;have ad:=aj A.box;have hd:=B.ft;have bd:=B.size;have bf:=ht.size;have ba:=A.ar.size;have F:∀k,k<z (G W)->¬K.aZ an.aN k->¬K'.aZ an.aN k:=λk p hn q=>(hd.aZ k q).elim hn (λP=>by omega);have t:∀k,k<z (G W)->¬K.aZ an.aN k->W1.heap[k]?=W.heap[k]?:=λk p hn=>hd.ar.block k p (λq=>q.elim hn<|λD=>by omega);have hg:¬(1=g)/\¬(2=g):=by have h1:=A.g0.1.lt;have h2:=A.g0.2.1.lt;have h3:=A.low.2.2;exact⟨by omega,by omega⟩
 have T:=(t g ad A.CV).trans A.box;have s1:=A.Bl.shape;have s2:=A.uN.shape;obtain⟨⟨bb,hh,_,_⟩,_,_⟩:=A.ref.ref;have av:=aj hh;have hI:Inv L (z (G W)+2) an K' bh a' b' c' d' C al (N+1) Q []:=by refine B.inv.rJ ht (λk D=>by have e':k=g:=D;rw[e'];exact⟨by omega,F g ad A.CV,by omega⟩) (λk D=>?_) hg;have e':k=g:=D;rw[e'];refine⟨_,_,_,T,by decide,.inl λbl q=>?_,λq hq=>?_⟩;rcases s1 with rfl|⟨b0,o0,c0,rfl⟩<;>rcases s2 with rfl|⟨b1,o1,c1,rfl⟩<;>simp at q;(have ac:q=an.aN\/v=H (R q 0)\/q=m:=by rcases s1 with rfl|⟨b0,o0,c0,rfl⟩<;>rcases s2 with rfl|⟨b1,o1,c1,rfl⟩<;>simpa[eq_comm]using hq);rcases ac with rfl|D|rfl;exact⟨_,_,_,B.inv.st.aN.iH,by decide⟩;obtain⟨g1,cs,bi,fr,g2,g3⟩:=A.YB q D;exact⟨cs,bi,fr,(t q (aj g2) g1).trans g2,g3⟩;exact⟨_,_,_,(t q av A.Gz).trans hh,by decide⟩
 have ao:bK L (z (G W)+2) an 0:=(ht.block _ (aj B.box)<|by omega).trans B.box;have S:∀{bb:aa}{t:iB},jk W bb t->(∀k,bV bb=H k->k<z (G W)/\¬K.aZ an.aN k/\k≠g)->jk L bb t:=λhp h=>ht.row (hd.ar.row hp<|λk p=>⟨λq=>q.elim (h k p).2.1 (λD=>by have:=(h k p).1;omega),(h k p).1⟩)<|λk p=>⟨(h k p).2.2,by have:=(h k p).1;omega⟩;have h:∀k,k<z (G W)->¬K.aZ an.aN k->Ft L K' an.aN (z (G W)+2) an k/\k≠E:=λk q1 q2=>⟨⟨⟨by omega,F k q1 q2,by omega⟩,λD=>by rw[e6]at D;cases D;omega⟩,by omega⟩;have ax:∀k,K'.aZ an.aN k->k<z (G W1):=B.inv.st.aN.lt;have V:vr (gK [] Q.flatten::(cF a' b' c' d').map (jZ ((al+y Q:M):X))) l.1:=by refine A.yI.congr<|λq=>?_;have D:=B.wI q;unfold fU at D;rw[aX,aX,B.inv.mem,B.inv.BK,(Ea A.laid.lp).2.2.1]at D;exact D
 refine⟨an,K',bh,a',b',c',d',al,Q,[],[],hb,⟨hr,⟨⟨rfl,.inl ⟨rfl,rfl⟩⟩,by simp,by simp,by simp⟩,bJ _ _ _ _,λk _ _ _ p=>(by cases p),rfl,by simp,λk p=>(by cases p)⟩,ao,⟨e2,rfl,hI⟩,V,λ_=>⟨rfl,e5,by simp⟩,⟨by simp,by simp⟩,A.len,A.laid.mN,S A.Bl<|λk p=>⟨(A.nZ k p).1,(A.nZ k p).2.1,(A.nZ k p).2.2.1⟩,S A.uN<|λk p=>⟨(A.kL k p).1,(A.kL k p).2.1,(A.kL k p).2.2.1⟩,A.Wk,(A.ar.trans hd.ar<|λk q=>.inr<|q.elim (A.low.1 k)<|λD=>by omega).trans ht<|λk D=>.inr (by have:=A.low.2.2;have:k=g:=D;omega),⟨λk q=>(hd.aZ k q).elim (A.low.1 k) (λP=>by omega),by omega,by omega,A.low.2.2⟩,λk D=>by rw[e6]at D;cases D;exact⟨by omega,by omega⟩,B.inv.st.rV,(h g ad A.CV).1,⟨⟨au,λq=>by have:=ax _ q;omega,by omega⟩,λD=>by rw[e6]at D;cases D;omega⟩,λk p=>?_,λk p=>?_,λk p=>?_,λbg hp=>?_,by omega,A.g0⟩;rcases p with q|q|⟨bk,hx,_⟩;have P:=A.yE k<|.inl q;exact⟨(h k P.1 P.2.1).1,P.2.2.1,(h k P.1 P.2.1).2⟩;cases q;cases hx;have P:=A.nZ k p;exact⟨(h k P.1 P.2.1).1,P.2.2.1,(h k P.1 P.2.1).2,λD=>by cases D⟩;have P:=A.kL k p;exact⟨(h k P.1 P.2.1).1,P.2.2.1,(h k P.1 P.2.1).2,λD=>by cases D⟩;obtain⟨q1,q2,q3,q4,q5⟩:=A.obj bg hp;have ac:=aj q1;refine⟨(ht.block _ (by omega) q3).trans<|(t _ ac q2).trans q1,(h bg.1 ac q2).1,q3,(h bg.1 ac q2).2,λq=>?_⟩;rcases q with q|q|⟨bk,hx,_⟩;exact q5<|.inl q;cases q;cases hx
end
section
variable{m W W':Y}{e db sbqq j:M}{i:PB}{mem b:X}{g c h d:aa}{lo f:iB}{O:cr (M×Obj)}{C N:M}{l n:LC}{k a:Bool}
def Vz(O o:cr (M×Obj))(v:aa):Prop:=(∀r∈O,r∈o)/\∀p,bV v=H p->∃q,(p,q)∈o
theorem ji.YG(x:ji m W e db sbqq j i mem b g c lo O C N n a l k)(s:Z az W W'){v:aa}{B o D:M}{w:iV}(r:W'.ownsRow (z<|G W) B o v D w):∃p,Vz O p v/\ji m W' e db sbqq j i mem b g c lo p C N n a l k:=by
 rcases hk:bV v with _|A;exact⟨O,⟨λ_ q=>q,λA q=>by rw[hk]at q;cases q⟩,x.still s⟩;obtain⟨t,u⟩:=fD r hk;exact⟨_,⟨λv q=>aG _ q,λt q=>by rw[hk]at q;cases q;exact⟨_,dy ..⟩⟩,x.add s (r.lt A hk).1 u⟩
theorem LW.Ya{u:SR}{V:DK}{Q:cA}{F K L P:cP}{p:M}{o:dW}{s:Zs}{v:cr oP}(r:LW m W e u.aN sbqq j i mem b g c lo O u V Q F K L P C p N o s v n bE l k)(hI:Inv W sbqq u V Q F K L P C p N o (iN 1 s))(hs:tz W W' sbqq u V Q F K L P C){ac:aa}{al:iB}(T:yZ W W' ac al):∃S,Vz O S ac/\ji m W' e u.aN sbqq j i mem b g c lo S C N n bE l k:=by
 obtain⟨w,hd,e1,e3,hb,A⟩:=hI.reads (aj r.tP) hs;obtain⟨B,_,_⟩:=r.vt;have h':LW m W' e u.aN sbqq j i mem b g c lo O u w Q F K L P C p N o s v n bE l k:=r.OC hd.dm (λ_ q=>q) hb ⟨B,rfl,A⟩ r.yI r.pV ⟨r.num.1,ah _⟩ r.len r.mN;rcases hk:bV ac with _|t;exact⟨O,⟨λ_ q=>q,λt q=>by rw[hk]at q;cases q⟩,u,w,Q,F,K,L,P,p,o,s,v,h'⟩;obtain⟨x,hc⟩:=fD T hk;have D:=aF T t hk;have h1:=r.CV.lt;have h2:=r.Gz.lt;have h3:=aj r.tP;refine⟨(t,aq x 68 (0,0))::O,⟨λad q=>aG _ q,λan q=>by rw[hk]at q;cases q;exact⟨_,dy ..⟩⟩,u,w,Q,F,K,L,P,p,o,s,v,{h' with obj:=λad E=>?_}⟩;rcases aA.1 E with rfl|E;exact⟨hc,⟨⟨D.2,λq=>by have:=r.vt.aN.lt t<|e3 t q;omega,by show t≠sbqq;omega⟩,λq=>by have:=(r.zw t q).2;omega⟩,by show t≠e;omega,by show t≠j;omega,λq=>by have:=r.ref.lt t q;omega⟩;exact h'.obj ad E
theorem Ud(v:ji m W e db sbqq j i mem b g c lo O C N n a l k)(f p:ab)(o:X):cw bF 32 #[aw sbqq,J f,J p,am o] W λE W'=>∃D x u,E=aO (dA #[I D (y<|if a then []else mJ n.1 f p o) x,lE<|if a then 6 else 0])/\yZ W W' (I D (y<|if a then []else mJ n.1 f p o) x) (if a then []else mJ n.1 f p o)/\Vz O u (I D (y<|if a then []else mJ n.1 f p o) x)/\ji m W' e db sbqq j i mem b g c lo u C N n a l k:=by
 obtain⟨an,T,al,V,ac,x,ad,t,s,S,Q,v⟩:=v;cases a with
 |true=>
  apply(Kk f p o v.tP v.vt.1).mono;rintro E W'⟨rfl,r,w⟩;exact⟨none,0,O,rfl,bJ _ _ _ _,⟨λ_ q=>q,λo q=>by cases q⟩,an,T,al,V,ac,x,ad,t,s,S,Q,v.shut r w⟩
 |false=>
  have r:=v.now;obtain⟨B,rfl,A⟩:=v.vt;apply(QD f p o v.tP A.st B).mono;rintro E W'⟨v',rfl,w,L⟩;rw[sq A.all r]at w;obtain⟨u,K,F⟩:=v.Ya A L w;obtain⟨D,x,P⟩:=aB w;subst P;exact⟨D,x,u,rfl,w,K,F⟩
theorem ji.outs(w:ji m W e db sbqq j i mem b g c lo O C N n a l k)(D:jk W h f)(E:jk W d f)(A:y f<=1000000)(s:∀o,bV h=H o->∃r,(o,r)∈O)(t:∀o,bV d=H o->∃r,(o,r)∈O):ji m (bZ (bZ W (R e 5) h) (R e 6) d) e db sbqq j i mem b h d f O C N n a l k:=by
 obtain⟨P,L,ac,Q,S,T,V,v,u,K,F,w⟩:=w;have x:Z (λo=>o=e) W (bZ (bZ W (R e 5) h) (R e 6) d):=((Z.refl (λo=>o=e) W).setCell _ _ _<|.inl rfl).setCell _ _ _<|.inl rfl;have B:∀o,(∃r,(o,r)∈O)->Ft (bZ (bZ W (R e 5) h) (R e 6) d) L db sbqq P o/\o≠e/\o≠j/\bV i.2≠H o:=by rintro o⟨r,q⟩;have:=(w.obj (o,r) q).2;exact⟨this.1.grow x.size,this.2.1,this.2.2.1,λo=>this.2.2.2<|.inr<|.inl o⟩
 refine⟨P,L,ac,Q,S,T,V,v,u,K,F,w.YR x ((aQ<|aQ w.box).trans rfl) (x.row D<|λo p=>?_) (x.row E<|λo p=>?_) A (λo p=>B o<|s o p)<|λo p=>B o<|t o p⟩;obtain⟨r,q⟩:=s o p;exact⟨(w.obj (o,r) q).2.2.1,(w.obj (o,r) q).2.1.lt⟩;obtain⟨r,q⟩:=t o p;exact⟨(w.obj (o,r) q).2.2.1,(w.obj (o,r) q).2.1.lt⟩
end
section
variable{m W:Y}{e db sbqq j:M}{i:PB}{mem b:X}{g c:aa}{lo:iB}{O:cr (M×Obj)}{C N:M}{l:LC}{a:Bool}
theorem QS(cM:ji m W e db sbqq j i mem b g c lo O C N l a l a)(ad cb:X)(ac an:ab)(ch:Option Addr)(cd cc:M):cw bF 12 #[aw e,wO 3 ad cb ac an<|I ch cd cc] W λcs w'=>cs=aO (aL bU)/\∃h d f,ji m w' e db sbqq j i mem b h d f O C N l a l a:=by
 obtain⟨r,bv⟩:∃r,z (G W)=r:=⟨_,rfl⟩;have h1:ji m (ct W<|fW 3 ad cb ac an<|I ch cd cc) e db sbqq j i mem b g c lo ((r,fW 3 ad cb ac an<|I ch cd cc)::O) C N l a l a:=cM.add ((Z.refl _ W).alloc _) (by omega)<|aC _ bv.symm;have P:=h1.still<|bX az _;have t:=Ud P ac an ad;have ba:=And.intro P.gT.2.1 (And.intro P.dN.2.2.2.1 (And.intro P.dN.2.2.2.2.1 P.dN.2.1));have dc:=aj cM.box;have cB:=cM.lens;have bs:y (if a then []else mJ l.1 ac an ad)<=1000000:=by have:=my l.1 ac an ad;split;simp;omega
 have F:=λW'(q:mj W' j i.1 l.1 a i.2)=>tS i.1 ac an ad q (by omega);obtain⟨p,hR⟩:∃p,(if a then []else mJ l.1 ac an ad)=p:=⟨_,rfl⟩;obtain⟨gn,bg⟩:∃gn:X,(if a then 6 else 0)=gn:=⟨_,rfl⟩;rw[hR,bg]at t;rw[hR]at bs;simp only[hR,bg]at F;have al:=U F;unfold wO;unfold fW at t ba;clear cM h1 P hR bg F;go_in
 go_wp2_with fail
 try rw[bv]
 rename_i QQ KK B;refine cg (λo=>aS o (R e 1)=H (aw sbqq)/\aS o (R r 3)=H (J ac)/\aS o (R r 4)=H (J an)/\aS o (R r 1)=H (am ad)) 15 (by kernel_rfl) ?_;refine cQ 0 ?_;iterate 10 (refine eE (v:=?_) ba rfl (by kernel_rfl) iO rfl ?_ ?_;rotate_left;(focus(rintro o⟨z0,z1,z2,z3⟩;go_simp;try rfl));simp only[Act.put,cX,gB,Nat.reduceAdd])
 apply eh;refine aJ (i:=10) rfl rfl (by kernel_rfl) ?_;intro KC A;go_simp;apply t.mono;rintro cs W2⟨co,cn,O2,rfl,bt,bh,P⟩;have E:((r,fW 3 ad cb ac an<|I ch cd cc):M×Obj)∈O2:=bh.1 _<|dy ..;have w:ji m W2 e db sbqq j i mem b g c lo ((r,fW 3 ad cb ac an<|I ch cd cc)::O2) C N l a l a:=P.drop (λcT S=>by rcases aA.1 S with rfl|S;exact E;exact S);have h3:=w.still<|bX az W2;have bb:=And.intro w.gT.2.1 (And.intro w.dN.2.2.2.1 (And.intro w.dN.2.2.2.2.1 w.dN.2.1));obtain⟨ao,ax,u⟩:=dB bt bh h3;refine A _ _ (λ_=>bb) ?_;try simp only[Act.put,cX,gB]
 refine cQ 11 ?_;iterate 4 (refine eE (v:=?_) bb rfl (by kernel_rfl) iO rfl ?_ ?_;rotate_left;(focus(rintro o⟨z0,z1,z2,z3⟩;go_simp;try rfl));simp only[Act.put,cX,gB,Nat.reduceAdd])
 apply eh;refine aJ (i:=15) rfl rfl (by kernel_rfl) ?_;intro KL D;go_simp;refine D _ _ wu ?_;refine cO (by kernel_rfl) ?_ _;show KK _ _;apply B;have bx:=al _ u.ref;have bq:=And.intro u.gT.2.2.1 (And.intro u.dN.2.2.2.1 (And.intro u.dN.2.2.2.2.1 u.dN.2.1));clear ba bb t bt bh E P w h3 A D B al;go_wp2_with fail
 rename_i QQ KK B;refine cg (λo=>aS o (R e 2)=H (aw j)/\aS o (R r 3)=H (J ac)/\aS o (R r 4)=H (J an)/\aS o (R r 1)=H (am ad)) 15 (by kernel_rfl) ?_;refine cQ 0 ?_;iterate 10 (refine eE (v:=?_) bq rfl (by kernel_rfl) iO rfl ?_ ?_;rotate_left;(focus(rintro o⟨z0,z1,z2,z3⟩;go_simp;try rfl));simp only[Act.put,cX,gB,Nat.reduceAdd])
 apply eh;refine aJ (i:=10) rfl rfl (by kernel_rfl) ?_;intro KC A;go_simp;apply bx.mono;rintro cs W3⟨v3,rfl,Q,bd⟩;obtain⟨O3,bi,h3⟩:=u.YG (Z.aT bd) Q;obtain⟨cx,cv,cp⟩:=aB Q;subst cp;have E:((r,fW 3 ad cb ac an<|I ch cd cc):M×Obj)∈O3:=bi.1 _<|dy ..;have x:ji m W3 e db sbqq j i mem b g c lo ((r,fW 3 ad cb ac an<|I ch cd cc)::O3) C N l a l a:=h3.drop (λcT S=>by rcases aA.1 S with rfl|S;exact E;exact S);have bc:=And.intro x.gT.2.2.1 (And.intro x.dN.2.2.2.1 (And.intro x.dN.2.2.2.2.1 x.dN.2.1));have bu:jk W3 (I co (y p) cn) p:=(Z.aT (S:=az) bd).row ((bX az W2).row (dF ao)<|λK s=>⟨id,(aF ao K s).2⟩)<|λK s=>⟨id,(aF ao K s).2⟩;obtain⟨ck,bp,L,au⟩:=gx bu Q bi x;refine A _ _ (λ_=>bc) ?_;try simp only[Act.put,cX,gB]
 refine cQ 11 ?_;iterate 4 (refine eE (v:=?_) bc rfl (by kernel_rfl) iO rfl ?_ ?_;rotate_left;(focus(rintro o⟨z0,z1,z2,z3⟩;go_simp;try rfl));simp only[Act.put,cX,gB,Nat.reduceAdd])
 apply eh;refine aJ (i:=15) rfl rfl (by kernel_rfl) ?_;intro KL D;go_simp;refine D _ _ wu ?_;refine cO (by kernel_rfl) ?_ _;show KK _ _;apply B;have bT:=kW gn au.yH;clear bx bq bc A D B bu Q bi h3 x bd E;go_wp2_with fail
 apply bT.mono;rintro cs W4⟨rfl,br⟩;have T:Z az W3 W4:=Z.aT br;have av:=U<|au.still T;have bm:jk W4 (I co (y p) cn) p:=T.row ck<|λK s=>⟨id,by obtain⟨ce,q⟩:=ax.2 K s;exact aj<|au.obj<|aG _<|L.1 _<|aG _ q⟩;have bn:jk W4 (I cx (y p) cv) p:=T.row (oQ.KP bp)<|λK s=>⟨id,(aF bp K s).2⟩;have bo:=mS bm bn (by omega) (by omega);have cl:=U bm;have cm:=U bn;clear br bT T bm bn;simp only[mu]at bo;go_wp2_with fail
 apply bo.mono;rintro cs W5⟨rfl,kq,ca⟩;have V:Z az W4 W5:=by rw[ca];exact gP _ _ _
 have h5:=av.still V;have bf:=h5.box;have y5:aS W5 (R e 5)=H g:=h5.gT.2.2.2.1;have y6:aS W5 (R e 6)=H c:=h5.gT.2.2.2.2;have yf:∀cu,W5.frozen? (R e cu)=bE:=λcu=>by simp[World.frozen?,bf]
 have bk:∀K,bV (I co (y p) cn)=H K->∃ce,(K,ce)∈((r,fW 3 ad cb ac an<|I ch cd cc)::O3):=λK s=>by obtain⟨ce,q⟩:=ax.2 K s;exact⟨ce,aG _<|L.1 _<|aG _ q⟩
 have bl:∀K,bV (I cx (y p) cv)=H K->∃ce,(K,ce)∈((r,fW 3 ad cb ac an<|I ch cd cc)::O3):=λK s=>by obtain⟨ce,q⟩:=L.2 K s;exact⟨ce,aG _ q⟩
 have h6:=h5.outs (V.row cl (λK s=>⟨id,by
  obtain⟨ce,q⟩:=bk K s;exact aj (av.obj q)⟩)) (V.row cm (λK s=>⟨id,by
   obtain⟨ce,q⟩:=bl K s;exact aj (av.obj q)⟩)) bs bk bl
 have hO:∀cT∈O,cT∈((r,fW 3 ad cb ac an<|I ch cd cc)::O3):=λcT S=>aG _<|L.1 _<|aG _<|ax.1 _<|aG _ S;have cj:=U<|h6.drop hO;have cE:=aj bf;clear h5 h6 bf bk bl hO V bo ca;go_wp2_with fail
 apply(ni gn _).mono;rintro cs W7⟨rfl,dd⟩;subst W7;go_wp2;go_ret;exact⟨rfl,_,_,_,cj⟩
end
