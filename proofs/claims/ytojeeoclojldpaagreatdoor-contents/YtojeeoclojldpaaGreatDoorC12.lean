import Derived.Test.YtojeeoclojldpaaGreatDoorC9
open _root_ renaming List.length→y,Option.some→H,Array.size→z,Go.World.heap→G,Go.Value.ownBlock→bV,Go.World.cell?→aT,Go.World.setCell→bZ,Go.World.alloc→ct,Bool.false→bF,Bool.true→bW,Nat→M,Int→Z,List→cr,Go.Calls→cy,Go.undef→iB,Go.Proofs.Tryz.prog→bG,Go.Value.slice→J,Go.Value.string→ai,Go.Value.bool→aL,Go.Value.tuple→dB,Go.Value.agg→eC
namespace Go.Proofs.YtojeeoclojldpaaGreatDoor
open ChangeShapes WideShapes RowKit Proofs.Tryz
set_option maxHeartbeats 16000000
set_option linter.all false
set_option maxRecDepth 100000
variable{a f C:I}{b c g l:M}{d s N:aa}{e:cA}{k:dW}{m:Z}{o:eI}{X:fJ}{r:jj}{v:ab}{w:E}{D:Bool}
section
open Go.Shelf
attribute [local go_sem] Oper.semAt_some
def Ma(f:M)(a:Array aa)(w:I):cy bG 132 #[.func (.func f) #[] a] w λe b=>e=aO (.func (.func 192) #[] #[aA<|z<|G w])/\b=ct w (ar #[.func (.func f) #[] a] 174):=by
 go_in
 go_wp2;go_ret;exact⟨rfl,rfl⟩
def nP:(prog.info? 164).map (λi=>(i.zero,i.size,i.bytes))=H (H wO,4,48):=by kernel_rfl
structure xU(V:jj)(S:fJ)(w0:I)(N:M)(pre:cA)(B:fJ)(W:I):Prop where
 KB:dV W (z<|G w0) aK 102
 err:dV W (z (G w0)+1) .nilIface 50
 row:∃v,dV W (z (G w0)+2) v 102/\W.ownsRow (z (G w0)+3) 164 4 v (y pre) (aF pre)/\(∀k,B k↔k=z (G w0)\/k=z (G w0)+1\/k=z (G w0)+2\/bV v=H k)
 le:y pre<=N
 aw:Y (λk=>S k\/V.F k) w0 W
def xU.lt{S:fJ}(h:xU r S a b e X C):∀k,X k->z (G a)<=k/\k<z (G C):=by
 intro k j;obtain⟨v,d,g,i⟩:=h.row;rcases(i k).1 j with c|c|c|c;subst c;exact⟨ah _,ak h.KB⟩;subst c;exact⟨by omega,ak h.err⟩;subst c;exact⟨by omega,ak d⟩;have:=g.lt k c;exact⟨by omega,this.2⟩
def xU.stays{B:fJ}{T:fJ}(i:xU r X a b e B f)(g:Y T f C)(d:∀k,T k->¬B k/\((X k\/r.F k)\/z (G a)<=k)):xU r X a b e B C:=by
 obtain⟨v,l,m,c⟩:=i.row;exact⟨(g.block _ (ak i.KB)<|λh=>(d _ h).1<|(c _).2<|.inl rfl).trans i.KB,(g.block _ (ak i.err)<|λh=>(d _ h).1<|(c _).2<|.inr<|.inl rfl).trans i.err,⟨v,(g.block _ (ak l)<|λh=>(d _ h).1<|(c _).2<|.inr<|.inr<|.inl rfl).trans l,g.own m<|λk j h=>(d k h).1<|(c k).2<|.inr<|.inr<|.inr j,c⟩,i.le,i.aw.trans g<|λk j=>(d k j).2⟩
def zj{d:Func}{p q:Tmp}{e:TypeId}(n:d.results=#[.cell p e,.cell q 50]){m:TypeId}(j:prog.underlying e=H (.slice m))(a:Array aa)(w:I)(f g:M)(u v:aa)(k:a.getD p iB=aA f)(l:a.getD q iB=aA g)(h:aT w (R f 0)=H u)(i:aT w (R g 0)=H v):(results d a).run bG w=.ok (dB #[u,v]) w:=by
 have b:a[p]?.getD iB=aA f:=by simpa using k
 have c:a[q]?.getD iB=aA g:=by simpa using l
 simp[results,n,b,c,asAddr,loadVar,isAgg,underlying,j,underlying50,h,i,Result.andThen]
def dY{Q:Fence}{P:Program}(B:I){m:Array Oper}{f:cr Oper}{F:Oper}{K:Act}{ac:Exit->Act->I->Prop}(t:F.guard=none)(al an:Operand)(L:TypeId)(u:F.op=.call {callee:=.builtin .append,args:=#[al,an],argTypes:=#[L,L]})(a:M)(C:TypeId)(D:TypeInfo)(j:aa)(c bytes:M)(ht:P.underlying L=H (.slice C))(V:P.info? C=H D)(hz:D.zero=H j)(i:D.size=c)(r:D.bytes=bytes)(w:j.cells.size=c)(v:0<c)(O:aa)(E:M)(x:iU)(X:K.eval al=O)(k:B.ownsRow a C c O E x)(p:Addr)(A S:M)(d:iU)(hx:K.eval an=J (H p) A S)(W:y d=A*c)(h:∀ad N,d[ad]?=H N->aT B (p.add ad)=H N)(T:∀N∈d,N.oneCell'=bW)(hn:E+A<=140737488355328)(e:(E+A)*bytes<=140737488355328)(g:a<=z (G B))(ao:∀n o,o.ownsRow a C c n (E+A) (x++d)->eP B o O n->wpListIn Q b P m ac f (K.put F.dst n) o):wpListIn Q b P m ac (F::f) K B:=by
 refine wP t λau q=>?_;obtain⟨n,o,l,r1,r2,r3,r4⟩:=mV (P:=P) B a L F.type C D j c bytes ht V hz i r w v O E x k p A S d W h T (by unfold maxLen;omega) e g;unfold Oper.wpIn;refine⟨?_,?_⟩;simp[Oper.about,u,resolve,Target.leads,pJ];rw[Oper.semAt_plain Q _ _ (by rw[u];intro S s;cases s)];simp[execOp,u,resolve,invoke,builtin,X,hx,l,Result.andThen];exact q _ _<|ao n o r1<|eP.of r2 r4
def wa(w:I)(x:E)(t:TypeId):∀j u,(aF [x])[j]?=H u->aT (ct w<|ar #[ai x.key,ai x.val,aL x.del,aH x.bI] t) (((R (z<|G w) 0):Addr).add j)=H u:=by
 intro j u a;rw[dt];have h:(ct w<|ar #[ai x.key,ai x.val,aL x.del,aH x.bI] t).heap[z<|G w]?=H (ar #[ai x.key,ai x.val,aL x.del,aH x.bI] t (0,0)):=aD _ rfl;rw[bN h,cQ];simpa[aF,E.cells]using a
def Bk(x:E):∀u∈aF [x],u.oneCell'=bW:=by
 intro u a;simp[aF,E.cells]at a;rcases a with rfl|rfl|rfl|rfl<;>rfl
def xU.more{B:fJ}{x:E}{O:Obj}(A:xU r X a b e B f)(v:dV f (z (G a)+2) d 102)(j:∀k,B k↔k=z (G a)\/k=z (G a)+1\/k=z (G a)+2\/bV d=H k)(N:f.ownsRow (z (G a)+3) 164 4 d (y e) (aF e))(P:y e+1<=b)(F:eP (ct f O) C d s)(l:C.ownsRow (z (G a)+3) 164 4 s (y e+1) (aF e++aF [x])):∃D,xU r X a b (e++[x]) D (bZ C (R (z (G a)+2) 0) s)/\Y B f (bZ C (R (z (G a)+2) 0) s)/\(∀k,D k->B k\/z (G f)<=k):=by
 have w:∀k,bV d=H k->z (G a)+3<=k/\k<z (G f):=λk c=>N.lt k c;have n:∀k,bV s=H k->z (G a)+3<=k:=λk c=>(l.lt k c).1;have Q:=ak v;have o:Y (λk=>bV d=H k) f C:=((Y.refl (λk=>bV d=H k) f).alloc O).trans (Y.dN (S:=λk=>bV d=H k) F.grown<|λk c=>.inl c)<|λk c=>.inl c;have g:∀k,k<z (G a)+3->¬bV d=H k:=λk c h=>by have:=(w k h).1;omega
 have q:dV C (z<|G a) aK 102:=(o.block _ (ak A.KB)<|g _<|by omega).trans A.KB;have t:dV C (z (G a)+1) .nilIface 50:=(o.block _ (ak A.err)<|g _<|by omega).trans A.err;have u:dV C (z (G a)+2) d 102:=(o.block _ (ak v)<|g _<|by omega).trans v;have m:Y B f (bZ C (R (z (G a)+2) 0) s):=(o.mono (T:=B)<|λk c=>.inl<|(j k).2<|.inr<|.inr<|.inr c).setCell _ _ _<|.inl<|(j _).2<|.inr<|.inr<|.inl rfl;refine⟨λk=>k=z (G a)\/k=z (G a)+1\/k=z (G a)+2\/bV s=H k,⟨q.other _ (by omega),t.other _ (by omega),⟨s,u.set _,?_,λk=>qT⟩,by simp;omega,?_⟩,m,?_⟩;(have K:y (e++[x])=y e+1:=by simp);rw[K,fO];exact l.kept (cV C _ _ _) (by right;intro h;have:=n _ h;omega);exact A.aw.trans m<|λk c=>.inr (A.lt k c).1;rintro k(h|h|h|h);exact .inl<|(j k).2<|.inl h;exact .inl<|(j k).2<|.inr<|.inl h;exact .inl<|(j k).2<|.inr<|.inr<|.inl h;rcases F.uc with K|⟨S,K,L⟩;exact .inl<|(j k).2<|.inr<|.inr<|.inr<|K.symm.trans h;rw[K]at h;cases h;simp at L;exact .inr<|by omega
def Mf(hg:ji r b d e X a)(hD:r.D a)(hl:y e<=1000000000):cy bG 84 #[d] a λcn w'=>∃v',cn=aO (dB #[v',.nilIface])/\w'.ownsRow (z<|G a) 164 4 v' (y e) (aF e)/\r.D w'/\Y (λk=>X k\/r.F k) a w':=by
 obtain⟨bx,cb,rfl,he,F⟩:=hg;obtain⟨HE,HR,HD⟩:=dC he F hD;have bl:=Ma bx cb;obtain⟨i0,bm,bp,bq,an⟩:=cz nP;clear he F hD;refine(cX (n:=3)).1 ?_;refine callsIn_of_wp_marks func84 rfl trivial ?_ rfl;simp only[ntmps84,eR,ay,cL,Nat.reduceAdd,Nat.reduceSub,dS,dR,eS,er,cC,cq];gi_wp2_with(refine⟨trivial,?_⟩;gi_at_call 132;refine(cX.2<|bl _).mono ?_;rintro cn w1⟨rfl,rfl⟩)
 have F:=ae HR;obtain⟨O,s⟩:∃O,(ct (ct (ct (ct a<|ar #[aK] 102)<|ar #[.nilIface] 50)<|ar #[aK] 102)<|ar #[.func (.func bx) #[] cb] 174)=O:=⟨_,rfl⟩;have ck:z (G O)=z (G a)+4:=by rw[<-s];simp
 have ad:Y aB a O:=by rw[<-s];exact((((Y.refl aB a).alloc _).alloc _).alloc _).alloc _
 have bi:dV O (z (G a)+3) (.func (.func bx) #[] cb) 174:=by rw[<-s];exact aD _<|by simp
 have bf:xU r X a (y e) [] (λk=>k=z (G a)\/k=z (G a)+1\/k=z (G a)+2) O:=by refine⟨?_,?_,⟨aK,?_,bK _ _ _ _,λk=>by simp[bV]⟩,bA _,ad.mono cG⟩;rw[<-s];exact dV.alloc (dV.alloc (dV.alloc (aD _ rfl) _) _) _;rw[<-s];exact dV.alloc (dV.alloc (aD _<|by simp) _) _;rw[<-s];exact dV.alloc (aD _<|by simp) _
 have bn:Hy r b bx cb e X O:=F.same<|ad.same F.own.size (λk f=>⟨(F.own.each k f).2,λp=>p⟩) cG;have bg:r.D O:=r.fi HD ad cG;have cj:=F.own.size;have ac:∀k,X k->k<z (G a):=λk f=>(F.own.each k f).2;rw[s];refine nw (arg:=Sw) (m:=3) (V:=r) (n0:=b) (gf:=192) (lb:=#[aA<|z (G a)+3]) (l:=e) (S:=λk=>X k\/k=z (G a)+3) ?geval (enters_of func192 (by kernel_rfl) rfl) (λ_=>rfl) (ET 2 cb bi HE bn (by omega) (λp=>by have:=ac _ p;omega)) bg (by omega) ?slt (λl av W=>xU r X a (y e) l av W) (λ_ _ _ _=>False) (λk=>k=z (G a)\/k=z (G a)+1\/k=z (G a)+2) bf ?sb ?lt ?st (λ_ _ _ _ _ _ h=>h.elim) ?body ?done ?stop;case geval=>rfl
 (case slt=>rintro k(p|p);have:=ac k p;omega;omega);(case sb=>rintro k(p|p)c;have:=ac k p;omega;omega);(case lt=>intro l av W h k f;have:=h.lt k f;exact⟨by omega,this.2⟩);(case st=>intro l av W i cs h g c;refine h.stays g<|λk f=>⟨(c k f).1,?_⟩;rcases(c k f).2 with(p|p)|p|p;exact .inl<|.inl p;exact .inr (by omega);exact .inl<|.inr p;exact .inr<|by omega);(case stop=>intro ax p l av W _ h;exact h.elim)
 case body=>
  intro lr l co av W ch ao bt P u A;have au:y l+1<=y e:=by have:=P.length_le;simpa using this
  have HC:=U u;have Q:=U A;clear u A P;obtain⟨i,j,g,c⟩:=co;unfold Sw E.value;simp only;gi_wp2;refine⟨(Y.refl _ _).alloc _,λT q=>?_⟩;have K:xU r X a (y e) l av T:=((HC.stays ((Y.refl aB W).alloc<|ar #[ai i,ai j,aL g,aH c] 164) cG).stays q (λk f=>by subst f;exact⟨ao,.inr<|by omega⟩));have V:ii T (z<|G W) ⟨i,j,g,c⟩:=ii.aw (aD _ rfl) q (by omega);obtain⟨d,N,o,C⟩:=K.row;have bk:aT T (R (z (G a)+1+1) 0)=H d:=N.cell;have ce:T.frozen? (R (z (G a)+1+1) 0)=bF:=N.free;obtain⟨x,w,al⟩:=aC o;obtain⟨bT,ca,cc,cd⟩:=V.cells;have bu:=ak V;have bv:=ak N;have bh:z (G a)+3<=z (G T):=by have:=K.aw.size;have:=q.size;simp at this;omega
  obtain⟨ba,HV,v,S,bc⟩:=jP K N o C q;clear K V N o C q;subst al;gi_wp2_with(first
   |(gi_at_builtin;refine dY _ rfl (.tmp 14) (.tmp 16) 102 rfl (z (G a)+3) 164 i0 wO 4 48 underlying102 bm bp bq an rfl (by decide) (.slice x (y l) w) (y l) (aF l) rfl (aS v (.cells #[.string i,.string j,.bool g,.int .u64 c] 164)) (R (z (G T)) 0) 1 1 (aF [⟨i,j,g,c⟩]) rfl rfl (wa _ ⟨i,j,g,c⟩ _) (Bk _) (by omega) (by omega) (by simp;omega) ?_;intro v2 w3 t D;obtain⟨cm,cl,rfl⟩:=aC t;have B:dV w3 (z (G a)+1+1) (.slice x (y l) w) 102:=(D.grown.block _ (ak (HV.alloc (.cells #[.string i,.string j,.bool g,.int .u64 c] 164))) (λp=>by have:=(v.lt _ p.symm).1;omega)).trans (HV.alloc _);have br:=B.cell;have bs:=B.free;clear B;have bb:=U t;have bd:=U D;clear t D))
  obtain⟨B',q1,q2,q3⟩:=ba.more (x:=⟨i,j,g,c⟩) HV S v au bd bb;have q:=ae bc;have an:=q.size;simp at an;have bo:Y (λk=>av k\/k=lr) W T:=((Y.refl (λk=>av k\/k=lr) W).alloc<|ar #[ai i,ai j,aL g,aH c] 164).trans q<|λk f=>.inl<|.inr f;have L:∀k,z (G a)<=k->¬r.F k:=λk f hf=>by have:=F.own.aN k hf;omega
  refine⟨?_,B',q1,bo.trans q2<|λk f=>.inl<|.inl f,q2.block lr (by omega) ao,λk f=>?_⟩
  .refine r.fi (r.fi (r.fi Q ((Y.refl aB W).alloc _) cG) q (λk f=>by subst f;exact L _<|by omega)) q2<|λk f=>L k (HC.lt k f).1
  .rcases q3 k f with p|p
   .exact .inl p
   .exact .inr<|by omega
 case done=>
  intro ax av W ao u i A hK;obtain⟨d,N,o,C⟩:=u.row;have bk:aT W (R (z (G a)+1+1) 0)=H d:=N.cell;have au:=u.KB.cell;have bb:=u.KB.free;have ba:=u.err.cell;have bc:=u.err.free;obtain⟨x,w,al⟩:=aC o;obtain⟨HC,HV,v,S,Q,HK⟩:=kG u N o C A hK;clear u N o C A hK;subst al;gi_wp2;have P:=ae S;have u:=ae HC;have n1:ax≠z (G a):=λp=>i<|(P _).2<|.inl p;have n2:ax≠z (G a)+1:=λp=>i<|(P _).2<|.inr<|.inl p;have n3:¬bV (J x (y e) w)=H ax:=λp=>i<|(P _).2<|.inr<|.inr<|.inr p;have T:(bZ (bZ W (R (z<|G a) 0)<|J x (y e) w) (R (z (G a)+1) 0) .nilIface).heap[ax]?=H (.deferred<|H []):=by
   rw[iq _ n2,iq _ n1];exact HK
  have c:dV (bZ (bZ W (R (z<|G a) 0)<|J x (y e) w) (R (z (G a)+1) 0) .nilIface) (z<|G a) (J x (y e) w) 102:=(u.KB.set _).other _ (by omega);have g:dV (bZ (bZ W (R (z<|G a) 0)<|J x (y e) w) (R (z (G a)+1) 0) .nilIface) (z (G a)+1) .nilIface 50:=(u.err.other _<|by omega).set _;have q:=gD (bZ (bZ W (R (z<|G a) 0)<|J x (y e) w) (R (z (G a)+1) 0) .nilIface) ax<|.deferred none;have V:Y (λk=>k=z (G a)\/k=z (G a)+1) W (bZ (bZ W (R (z<|G a) 0)<|J x (y e) w) (R (z (G a)+1) 0) .nilIface):=((Y.refl (λk=>k=z (G a)\/k=z (G a)+1) W).setCell _ 0 _<|.inl<|.inl rfl).setCell _ 0 _<|.inl<|.inr rfl;have t:=(V.mono (T:=λk=>k=z (G a)\/k=z (G a)+1\/k=ax)<|λk f=>.inl<|f.elim .inl<|λp=>.inr<|.inl p).trans q<|λk f=>.inl<|.inr<|.inr f;have L:∀k,z (G a)<=k->¬r.F k:=λk f hf=>by have:=F.own.aN k hf;omega
  have B:∀k,(k=z (G a)\/k=z (G a)+1\/k=ax)->z (G a)<=k:=by rintro k(p|p|p)<;>omega
  refine⟨by simp,.inl ⟨_,_,rfl,run_takeDeferred T,?_⟩⟩;refine⟨_,zj rfl underlying102 _ _ (z<|G a) (z (G a)+1) (J x (y e) w) .nilIface rfl rfl ?_ ?_,?_⟩
  .exact(dV.cell<|(q.block _ (ak c)<|λp=>n1 p.symm).trans c)
  .exact(dV.cell<|(q.block _ (ak g)<|λp=>n2 p.symm).trans g)
  .refine⟨_,rfl,?_,r.fi Q t<|λk f=>L k<|B k f,u.aw.trans t<|λk f=>.inr<|B k f⟩;have o:=ae v;have hx:=t.own o (λk f p=>by
    have:=(o.lt k f).1;rcases p with p|p|p
    .omega
    .omega
    .exact n3 (by rw[<-p];exact f))
   obtain⟨h1,⟨K,h0⟩|⟨bd,cp,D,K,hb,j⟩⟩:=hx
   .exact⟨h1,.inl ⟨K,h0⟩⟩
   .exact⟨h1,.inr ⟨bd,cp,D,K,by omega,j⟩⟩
end
def tf:Option E->aa
 |some x=>.tuple #[x.value,.bool bW,.nilIface]
 |none=>.tuple #[wO,.bool bF,.nilIface]
def Jg(t:TypeId)(a b:ab):binOp .geq t (ai a) (ai b)=pure (aL !(Op.bytesLess a.toList b.toList)):=by simp[binOp,Op.stringOp]
def Al(O:ab)(A:Z)(h:kw a d e)(C:dQ e)(hl:y e<=1000000000000)(w:∀A,bV d=H A->A<z (G a)):cy bG 315 #[d,ai O,aH A] a λac w'=>ac=aO (tf<|iA A e O)/\Below (z<|G a) a w':=by
 have m:Below (z<|G a) a (ct a<|ar #[ai ⟨#[]⟩,ai ⟨#[]⟩,aL bF,aH 0] 164):=(Below.refl _ a).alloc (ah _) _;have L:=Bg d O A (ct a<|ar #[ai ⟨#[]⟩,ai ⟨#[]⟩,aL bF,aH 0] 164) (h.below m w) C hl (λA b=>by have:=w A b;simp;omega);have n:=Oi C O ⟨#[]⟩ bF A;have x:=U<|ID e ⟨O,⟨#[]⟩,bF,A⟩;generalize li e ⟨O,⟨#[]⟩,bF,A⟩=p at*;by_cases s:p<y e;(·(have e1:((p:Z)==(y e:Z))=bF:=by simp;omega);(have e2:(p:Z)<(y e:Z):=by omega);(have e3:(0:Z)<=(p:Z):=by omega);obtain⟨P,⟨rfl,h0⟩|⟨u,b,al,rfl,B,N⟩⟩:=h;omega;have v:=ez e p s;have t:=U N;have j:=w u rfl;by_cases k:e[p].key=O;(.rw[n,oE ⟨s,k⟩];clear N w P B n C;subst k;generalize e[p]=an at*;obtain⟨F,K,E,D⟩:=an;simp only at v L;have r:=U v;clear v;(go_in);(go_wp2_with(go_at_call 180;refine L.mono ?_;rintro ac l⟨rfl,g⟩;have f:Below (z<|G a) a l:=m.trans<|g.mono m.size;have q0:aT l (R u<|b+p*4)=H (ai F):=(f.cell (p:=(R u<|b+p*4)) j).trans<|t _ _ r.1;have q1:aT l (R u<|b+p*4+1)=H (ai K):=(f.cell (p:=(R u<|b+p*4+1)) j).trans (by rw[aV];exact t _ _ r.2.1);have q2:aT l (R u<|b+p*4+2)=H (aL E):=(f.cell (p:=(R u<|b+p*4+2)) j).trans (by rw[aV];exact t _ _ r.2.2.1);have q3:aT l (R u<|b+p*4+3)=H (aH D):=(f.cell (p:=(R u<|b+p*4+3)) j).trans (by rw[aV];exact t _ _ r.2.2.2);have c:ii l (z<|G a) ⟨⟨#[]⟩,⟨#[]⟩,bF,0⟩:=(g.block _<|by simp).trans<|aD _ rfl;obtain⟨W,X,z2,z3⟩:=c.cells;have Q:=c.free (i:=0);have S:=c.free (i:=1);have T:=c.free (i:=2);have V:=c.free (i:=3);have q:=U c;have o:=U f;clear c f g));refine cI (fW rfl _ _ (z<|G a) ⟨F,K,E,D⟩ _ _ rfl<|q.put ⟨F,K,E,D⟩) rfl ?_;exact⟨rfl,(((o.setCell (p:=(R (z<|G a) 0)) (ah _) _).setCell (p:=(R (z<|G a) 1)) (ah _) _).setCell (p:=(R (z<|G a) 2)) (ah _) _).setCell (p:=(R (z<|G a) 3)) (ah _) _⟩);have e4:=Im k;rw[n,dif_neg<|λad=>k ad.2];clear N w P B n C k;generalize e[p]=an at*;obtain⟨F,K,E,D⟩:=an;simp only at v e4;have r:=U v;clear v;(go_in);(go_wp2_with(go_at_call 180;refine L.mono ?_;rintro ac l⟨rfl,g⟩;have f:Below (z<|G a) a l:=m.trans<|g.mono m.size;have q0:aT l (R u<|b+p*4)=H (ai F):=(f.cell (p:=(R u<|b+p*4)) j).trans<|t _ _ r.1;have q1:aT l (R u<|b+p*4+1)=H (ai K):=(f.cell (p:=(R u<|b+p*4+1)) j).trans (by rw[aV];exact t _ _ r.2.1);have q2:aT l (R u<|b+p*4+2)=H (aL E):=(f.cell (p:=(R u<|b+p*4+2)) j).trans (by rw[aV];exact t _ _ r.2.2.1);have q3:aT l (R u<|b+p*4+3)=H (aH D):=(f.cell (p:=(R u<|b+p*4+3)) j).trans (by rw[aV];exact t _ _ r.2.2.2);have c:ii l (z<|G a) ⟨⟨#[]⟩,⟨#[]⟩,bF,0⟩:=(g.block _<|by simp).trans<|aD _ rfl;obtain⟨W,X,z2,z3⟩:=c.cells;have Q:=c.free (i:=0);have S:=c.free (i:=1);have T:=c.free (i:=2);have V:=c.free (i:=3);have q:=U c;have o:=U f;clear c f g));refine cI (fW rfl _ _ (z<|G a) ⟨⟨#[]⟩,⟨#[]⟩,bF,0⟩ _ _ rfl<|q.put ⟨⟨#[]⟩,⟨#[]⟩,bF,0⟩) rfl ?_;exact⟨rfl,(((o.setCell (p:=(R (z<|G a) 0)) (ah _) _).setCell (p:=(R (z<|G a) 1)) (ah _) _).setCell (p:=(R (z<|G a) 2)) (ah _) _).setCell (p:=(R (z<|G a) 3)) (ah _) _⟩);(have b:p=y e:=by have:=ae x;omega);rw[n,dif_neg<|λad=>s ad.1];have j:=bM h;clear h C n s w x;subst b;obtain⟨r,k,rfl⟩:=j;(have e1:((y e:Z)==(y e:Z))=bW:=by simp);(go_in);(go_wp2_with(go_at_call 180;refine L.mono ?_;rintro ac l⟨rfl,g⟩;have f:Below (z<|G a) a l:=m.trans<|g.mono m.size;have c:ii l (z<|G a) ⟨⟨#[]⟩,⟨#[]⟩,bF,0⟩:=(g.block _<|by simp).trans<|aD _ rfl;obtain⟨W,X,z2,z3⟩:=c.cells;have Q:=c.free (i:=0);have S:=c.free (i:=1);have T:=c.free (i:=2);have V:=c.free (i:=3);have q:=U c;have o:=U f;clear c f g));refine cI (fW rfl _ _ (z<|G a) ⟨⟨#[]⟩,⟨#[]⟩,bF,0⟩ _ _ rfl<|q.put ⟨⟨#[]⟩,⟨#[]⟩,bF,0⟩) rfl ?_;exact⟨rfl,(((o.setCell (p:=(R (z<|G a) 0)) (ah _) _).setCell (p:=(R (z<|G a) 1)) (ah _) _).setCell (p:=(R (z<|G a) 2)) (ah _) _).setCell (p:=(R (z<|G a) 3)) (ah _) _⟩
def MX(au:aa)(w:I)(h:kw w au e)(F:dQ e)(hl:y e<=1000000000000)(K:∀av,bV au=H av->av<z (G w)):cy bG 317 #[au] w λax w'=>ax=aO (aL bW)/\Below (z<|G w) w w':=by
 have A:∀(X:Bool)(w:I),(Op.unary .not<|aL X).run bG w=.ok (aL<|!X) w:=λ_ _=>rfl;obtain⟨h1,⟨rfl,h0⟩|⟨i,a,ac,rfl,an,x⟩⟩:=h;(·(go_in);go_wp2;(go_loop [6] (λL=>L=ap 0) (λ_=>0));(case atStart=>rfl);(case round=>obtain rfl:=hrel;go_wp2;go_ret;exact⟨rfl,Below.refl _ _⟩));(.have HC:=U x;have HS:=U F;have o:=K i rfl;clear x F h1 K;(go_in);go_wp2;(go_loopw [6] (λL wr=>∃q:M,q<=y e/\L=ap q/\Below (z<|G w) w wr) (λL _=>y e-(intOf L).toNat));(case atStart=>exact⟨0,bA _,rfl,Below.refl _ _⟩);(case round=>obtain⟨q,ao,rfl,d⟩:=hrel;have m:=U d;by_cases k:q<y e;(.rcases fT q with l|l;(.subst l;clear d;go_wp2;(go_quiet(fail));go_wp2;go_roundw;(case rel=>exact⟨1,by omega,rfl,below_drewN m _⟩);case measure=>simp[intOf];omega);(.obtain⟨p,rfl⟩:∃p,q=p+1:=⟨q-1,by omega⟩;(have C:p<y e:=by omega);have b:∀j u,(aF e)[j]?=H u->aT wr (R i<|a+j)=H u:=λj u c=>(d.cell (p:=(R i<|a+j)) o).trans<|HC j u c;have f:=ez e p C;have g:=ez e (p+1) k;have s:=b _ _ f.1;have c1:=b _ _ f.2.1;have c2:=b _ _ f.2.2.1;have c3:=b _ _ f.2.2.2;have d0:=b _ _ g.1;have t:=b _ _ g.2.1;have u:=b _ _ g.2.2.1;have v:=b _ _ g.2.2.2;simp only[<-aV]at c1 c2 c3 t u v;have n:=λW=>BK e[p] e[p+1] W;rw[cw.1 (ae HS) p (p+1) C k<|by omega]at n;have al:i<z (G wr):=cY _ _ s;clear f g d b;generalize e[p]=X at*;generalize e[p+1]=r at*;obtain⟨P,Q,O,N⟩:=X;obtain⟨V,W,T,S⟩:=r;unfold E.value at n;simp only at n s c1 c2 c3 d0 t u v;(have D:(0:Z)<(p:Z)+1:=by omega);(have e2:(0:Z)<=(p:Z):=by omega);(have e3:(p:Z)<(y e:Z):=by omega);(have e4:(0:Z)<=(p:Z)+1:=by omega);(have e5:(p:Z)+1<(y e:Z):=by omega);(have e9:IntKind.i64.wrap (p:Z)=(p:Z):=by rw[bQ];omega);(have ad:wrap64 (p:Z)=(p:Z):=by unfold wrap64;omega);(go_wp2_with fail);(go_region_held3(λc=>aT c (R i<|a+p*4)=H (ai P)/\aT c (R i<|a+p*4+1)=H (ai Q)/\aT c (R i<|a+p*4+2)=H (aL O)/\aT c (R i<|a+p*4+3)=H (aH N)/\aT c (R i<|a+(p+1)*4)=H (ai V)/\aT c (R i<|a+(p+1)*4+1)=H (ai W)/\aT c (R i<|a+(p+1)*4+2)=H (aL T)/\aT c (R i<|a+(p+1)*4+3)=H (aH S)) (first|assumption|go_keep) (first|(go_at_call 195;refine(n _).mono ?_;rintro ax w1⟨rfl,rfl⟩)));go_wp2;go_roundw;(case rel=>have j:Below (z<|G wr) wr (ct (ct wr<|ar #[ai P,ai Q,aL O,aH N] 164)<|ar #[ai V,ai W,aL T,aH S] 164):=((Below.refl _ wr).alloc (ah _) _).alloc (by simp) _;refine⟨p+1+1,by omega,by go_num,m.trans ?_⟩;exact Below.mono (B:=z<|G wr) ⟨j.os,j.tape,j.output,j.size,j.block⟩ m.size);case measure=>simp[intOf];omega));clear d;go_wp2;go_ret;exact⟨rfl,m⟩))
def Rd.laid(h:Rd a b o D)(d:a.grownBy f none):Rd f b o D:=by
 obtain⟨v,e,g,c⟩:=h;refine⟨v,(d.block b (ak e)<|by simp).trans e,g.grown d ?_,c⟩;cases bV v with
 |none=>exact .inr rfl
 |some k=>exact .inl<|by simp
def Rd.lt(h:Rd a b o D):b<z (G a):=by
 obtain⟨v,c,_⟩:=h;exact ak c
def Rd.put(L:Rd C b o D)(A:ii C c w)(q:b≠c)(g:E):Rd (wK C c g) b o D:=by
 obtain⟨N,s,B,K⟩:=L;have u:=ja C c g;refine⟨N,(u.block b (ak s) q).trans s,?_,K⟩;rcases B with⟨v,x⟩|⟨r,d,i,v,m,F⟩;exact .inl ⟨v,x⟩;refine .inr ⟨r,d,i,v,m,λj t=>?_⟩;have e:=F j t;(have l:r≠c:=by rintro rfl;rw[bN A,aG t]at e;(have:d+j=0\/d+j=1\/d+j=2\/d+j=3\/4<=d+j:=by omega);rcases this with h|h|h|h|h;rw[h]at e;simp at e;rw[h]at e;simp at e;rw[h]at e;simp at e;rw[h]at e;simp at e;rw[eD<|by simpa using h]at e;simp at e);have n:r<z (G C):=cY C (R r<|d+j) e;have k:=u.block r n l;rw[cH (w:=C) (w':=wK C c g) (a:=(R r<|d+j)) k];exact e
def Y.Us(h:Y (λk=>k=b) a f):a.grownBy f (H b):=⟨h.os,h.tape,h.output,h.size,λk c d=>h.block k c<|λe=>d<|by rw[e]⟩
def ii.grown(h:ii a b w)(e:a.grownBy f (H c))(d:c≠b):ii f b w:=(e.block b (ak h) (by simp;exactλg=>d g.symm)).trans h
def zV{c:Func}{p u:Tmp}(i:c.results=#[.cell p 164,.tmp u])(a:Array aa)(w:I)(g:M)(x:E)(t:TypeId)(d:M×M)(h:a.getD p iB=aA g)(e:w.heap[g]?=H (ar #[ai x.key,ai x.val,aL x.del,aH x.bI] t d)):(results c a).run bG w=.ok (dB #[x.value,a.getD u iB]) w:=by
 have b:a[p]?.getD iB=aA g:=by simpa using h
 have f:=mL (P:=bG) w g t 164 #[ai x.key,ai x.val,aL x.del,aH x.bI] d _ e underlying164 rfl (by kernel_rfl);simp[results,i,b,asAddr,f,Result.andThen,E.value]
def Gk(m:M){x:E}(a:eI)(C:I)(h:Rd C m (nL x++a) bF)(B:kA (nL x++a))(hr:y (nL x++a)<=140737488351232)(hx:x.Good):cy bG 216 #[aA m] C λal w'=>al=aO (dB #[E.value {x with bI:=0},aL bW])/\Rd w' m a bF/\C.grownBy w' (H m):=by
 obtain⟨b,c,s,r⟩:=x;have av:=hx.Uh;have ax:=hx.LD;have hv:=hx.val;have hd:=hx.del;simp only at av ax hv hd;have e0:nL ⟨b,c,s,r⟩++a=oK s::(eh b++(eh c++a)):=by simp[nL]
 rw[e0]at h B hr;have A:kA (eh b++(eh c++a)):=λad hy=>B ad<|aJ _ hy;have K:kA (eh c++a):=λad hy=>A ad<|hZ _ hy;have W:y (eh b++(eh c++a))<=140737488351232:=by simp only[ay]at hr;omega
 have ba:y (eh c++a)<=140737488351232:=by rw[af]at W;omega
 have k:=λan(S:Rd an m (oK s::(eh b++(eh c++a))) bF)=>Fe S B hr;have v:=λan(S:Rd an m (eh b++(eh c++a)) bF)=>Do S A W;have w:=λan(S:Rd an m (eh c++a) bF)=>Do S K ba;obtain⟨ka,kb⟩:=Lz s<|eh b++(eh c++a);obtain⟨ta,_⟩:=vH b<|eh c++a;obtain⟨N,_⟩:=vH c a;simp only[ka,kb]at k;simp only[ta,vI]at v;simp only[N,vI]at w;have bb:=λan(S:Rd an m a bF)=>Gr S;have T:=qK b;have V:=xE c;have bi:∀(x:Bool)(C:I),(Op.unary .not<|aL x).run bG C=.ok (aL<|!x) C:=λ_ _=>rfl;have ao:decide (1<=b.size/\b.size<=8)=bW:=by simp[av,ax]
 have au:decide (c.size<=16)=bW:=by simp[hv]
 rw[ao]at T;rw[au]at V;have F:=λan=>T an (by omega);have L:=λan=>V an (by omega);have bk:=h.lt;have HR:=U<|h.laid<|dr C (ar #[ai ⟨#[]⟩,ai ⟨#[]⟩,aL bF,aH 0] 164) none;clear h B A K hr W ba ka kb ta N e0 hx T V ao au;cases s with
 |true=>
  have bd:c=⟨#[]⟩:=hd rfl;subst bd;simp only[oK]at k;go_in
  go_wp2_with(first
   |(go_at_call 215;refine(k _<|ae HR).mono ?_;rintro al w1⟨rfl,t,f⟩;have P:=U t;have o:=U f;have bf:=f.size;clear t f k)
   |(go_at_call 248;refine(v _<|ae P).mono ?_;rintro al w2⟨rfl,u,g⟩;have Q:=U u;have p:=U g;have bg:=g.size;clear u g v)
   |(go_at_call 248;refine(w _<|ae Q).mono ?_;rintro al D⟨rfl,j,e⟩;have q:=U j;have O:=U e;have bh:=e.size;have d:ii D (z<|G C) zE:=(((ii.grown (aD _ rfl) (ae o)<|by omega).grown (ae p)<|by omega).grown e<|by omega);obtain⟨z0,z1,z2,z3⟩:=d.cells;have y0:=d.free (i:=0);have y1:=d.free (i:=1);have y2:=d.free (i:=2);have y3:=d.free (i:=3);have bc:=ak d;have n:=U d;clear j e w d)
   |(go_at_call 211;refine(bb _<|(ae q).laid<|dr D _ none).mono ?_;rintro al w4⟨rfl,rfl⟩)
   |(go_at_call 68;refine(F _).mono ?_;rintro al w5⟨rfl,rfl⟩)
   |(go_at_call 69;refine(L _).mono ?_;rintro al w6⟨rfl,rfl⟩))
  refine cI (zV rfl _ _ (z<|G C) ⟨b,⟨#[]⟩,bW,0⟩ _ _ rfl<|((ae n).put ⟨b,⟨#[]⟩,bW,0⟩).alloc _) rfl ?_;have j:=ae q;have f:=ae o;have g:=ae p;have e:=ae O;have X:=(j.put (ae n) (by omega) (⟨b,⟨#[]⟩,bW,0⟩:E)).laid<|dr _ (ar #[ai (⟨b,⟨#[]⟩,bW,0⟩:E).key,ai (⟨b,⟨#[]⟩,bW,0⟩:E).val,aL (⟨b,⟨#[]⟩,bW,0⟩:E).del,aH (⟨b,⟨#[]⟩,bW,0⟩:E).bI] 164) none;have ht:Y (λac=>ac=m) C ((wK D (z<|G C) (⟨b,⟨#[]⟩,bW,0⟩:E)).alloc<|ar #[ai (⟨b,⟨#[]⟩,bW,0⟩:E).key,ai (⟨b,⟨#[]⟩,bW,0⟩:E).val,aL (⟨b,⟨#[]⟩,bW,0⟩:E).del,aH (⟨b,⟨#[]⟩,bW,0⟩:E).bI] 164):=by
   refine(((((((Y.refl (λac=>ac=m) C).alloc _).trans (fg f)<|λac l=>.inl l).trans (fg g)<|λac l=>.inl l).trans (fg e)<|λac l=>.inl l).trans (ja D (z<|G C) (⟨b,⟨#[]⟩,bW,0⟩:E))<|λac l=>.inr<|by omega).alloc _)
  exact⟨rfl,X,ht.Us⟩
 |false=>
  simp only[oK]at k;go_in
  go_wp2_with(first
   |(go_at_call 215;refine(k _<|ae HR).mono ?_;rintro al w1⟨rfl,t,f⟩;have P:=U t;have o:=U f;have bf:=f.size;clear t f k)
   |(go_at_call 248;refine(v _<|ae P).mono ?_;rintro al w2⟨rfl,u,g⟩;have Q:=U u;have p:=U g;have bg:=g.size;clear u g v)
   |(go_at_call 248;refine(w _<|ae Q).mono ?_;rintro al D⟨rfl,j,e⟩;have q:=U j;have O:=U e;have bh:=e.size;have d:ii D (z<|G C) zE:=(((ii.grown (aD _ rfl) (ae o)<|by omega).grown (ae p)<|by omega).grown e<|by omega);obtain⟨z0,z1,z2,z3⟩:=d.cells;have y0:=d.free (i:=0);have y1:=d.free (i:=1);have y2:=d.free (i:=2);have y3:=d.free (i:=3);have bc:=ak d;have n:=U d;clear j e w d)
   |(go_at_call 211;refine(bb _<|(ae q).laid<|dr D _ none).mono ?_;rintro al w4⟨rfl,rfl⟩)
   |(go_at_call 68;refine(F _).mono ?_;rintro al w5⟨rfl,rfl⟩)
   |(go_at_call 69;refine(L _).mono ?_;rintro al w6⟨rfl,rfl⟩))
  refine cI (zV rfl _ _ (z<|G C) ⟨b,c,bF,0⟩ _ _ rfl<|((ae n).put ⟨b,c,bF,0⟩).alloc _) rfl ?_;have j:=ae q;have f:=ae o;have g:=ae p;have e:=ae O;have X:=(j.put (ae n) (by omega) (⟨b,c,bF,0⟩:E)).laid<|dr _ (ar #[ai (⟨b,c,bF,0⟩:E).key,ai (⟨b,c,bF,0⟩:E).val,aL (⟨b,c,bF,0⟩:E).del,aH (⟨b,c,bF,0⟩:E).bI] 164) none;have ht:Y (λac=>ac=m) C ((wK D (z<|G C) (⟨b,c,bF,0⟩:E)).alloc<|ar #[ai (⟨b,c,bF,0⟩:E).key,ai (⟨b,c,bF,0⟩:E).val,aL (⟨b,c,bF,0⟩:E).del,aH (⟨b,c,bF,0⟩:E).bI] 164):=by
   refine(((((((Y.refl (λac=>ac=m) C).alloc _).trans (fg f)<|λac l=>.inl l).trans (fg g)<|λac l=>.inl l).trans (fg e)<|λac l=>.inl l).trans (ja D (z<|G C) (⟨b,c,bF,0⟩:E))<|λac l=>.inr<|by omega).alloc _)
  exact⟨rfl,X,ht.Us⟩
def iC(a:eI):eI:=a++le 4 (mr a)
def Bz(e:E):eI:=le 8 e.bI++nL e
def fE(c:cA):eI:=c.flatMap Bz
def Rq(a:eI):mi (le 4<|mr a)=mr a:=by
 rw[Am 4 _<|zx a];exact Int.emod_eq_of_lt (zx a) (by have:=BC a;simpa using this)
def Co(a:0<=m)(b:m<18446744073709551616):mi (le 8 m)=m:=by
 rw[Am 8 _ a];exact Int.emod_eq_of_lt a<|by simpa using b
def wZ(w d e:M)(c:eI)(D:Steps a)(ac:y c+4<=e)(hr:y c+4<=1000000000)(o:Bytes a (bD w d (y c+4) e) (iC c)):cy bG 207 #[bD w d (y c+4:M) e] a λP w'=>
 P=aO (dB #[bD w d (y c) e,aL bW])/\Below (z<|G a) a w':=by
 obtain⟨b,f⟩:∃b,b=le 4 (mr c):=⟨_,rfl⟩
 have t:y b=4:=by rw[f,bY]
 have p:kA b:=by rw[f];exact kA.le 4 _
 have N:mi b=mr c:=by rw[f];exact Rq c
 unfold iC at o
 rw[<-f]at o
 clear f
 have ad:=D.lt
 have W:w<z (G a):=o.lt (by intro h;simp at h;rw[h.2]at t;simp at t) w rfl
 have k:Bytes a (bD w d (y<|c++b) e) (c++b):=by rw[af,t];exact o
 have u:Bytes a (bD w d (y c) e) c:=by
  have:=k.take (n:=y c) (by simp);rwa[pM]at this
 have v:Bytes a (bD w (d+y c) 4<|e-y c) b:=by
  have:=k.BA (n:=y c) (by simp);rwa[sG,af,t,uC]at this
 have O:num b bF 4=mi b:=by
  unfold num jN;rw[cW (by simp[t]),cR<|by omega]
 obtain⟨E,F,S,Q,L⟩:=jP u v O p D
 clear o k u v O p D
 have hd:(num b bF 4 !=mr c)=bF:=by rw[ae S,N];simp
 clear N
 go_in
 go_wp2_with fail
 refine(mR F (λal X=>by have:=QW X;simp at this;omega)).mono ?_
 rintro P x⟨rfl,q,g⟩
 have s:z (G x)=z (G a)+1:=by rw[g];simp
 have j:Below (z<|G a) a x:=by rw[g];exact(Below.refl _ _).alloc (ah _) _
 have m:Hid (Steps x):=by rw[g];exact L.alloc _
 have l:Hid (Bytes x (bD w d (y c) e) c):=by rw[g];exact E.alloc _
 obtain⟨T,K,V⟩:=dC q j s
 clear q g s j L E F
 go_wp2_with fail
 go_region_with(first
  |(go_at_call 210;refine(JS (z<|G a) bF _ ?_ Q<|by omega).mono ?_;exact T.of_heap rfl;rintro P w2⟨rfl,r,i⟩;have C:=U<|Steps.grown (by exact Steps.of_heap m rfl) i (by simp;omega);have A:=U<|Bytes.grown (by exact Bytes.of_heap l rfl) i<|.inl (by simp[bV];omega);have B:=U (Below.grown (by exact Below.of_heap K rfl) i (by simp[ae V])<|by simp);clear r i)
  |(go_at_call 188;refine(sk _ c _ ?_ ?_ (by omega)).mono ?_;(first|exact C.of_heap rfl|exact m.of_heap rfl);(first|exact A.of_heap rfl|exact l.of_heap rfl);rintro P w3⟨rfl,rfl⟩))
 all_goals
  go_wp2;go_ret2
  exact⟨by rfl,by first|exact B.of_heap rfl|exact Below.of_heap K rfl⟩
def Sg(c:cA)(n:M)(h:n<y c):fE (c.drop n)=le 8 c[n].bI++(nL c[n]++fE (c.drop<|n+1)):=by
 unfold fE;rw[bE h,dI];simp[Bz]
def Ar(h:w.Good):kA (nL w):=by
 unfold nL;have c:∀s:ab,s.size<=255->kA (eh s):=λs d b a=>by unfold eh at a;rcases az.1 a with rfl|a;omega;exact kA.text s b a
 intro b a;rcases az.1 a with rfl|a;unfold oK;split<;>omega;rcases am.1 a with a|a;exact c _ (by have:=h.LD;omega) b a;exact c _ (by have:=h.val;omega) b a
def LH(h:∀x∈e,x.Good):kA (fE e):=by
 intro b a;unfold fE at a;obtain⟨x,c,a⟩:=lZ.1 a;unfold Bz at a;rcases am.1 a with a|a;exact kA.le 8 _ b a;exact Ar (h x c) b a
def tZ(h:w.Good):y (Bz w)<=35:=by
 have a:=h.LD;have b:=h.val;unfold Bz nL eh;simp[bY,gW];omega
def Ct{c:cA}(h:∀x∈c,x.Good):y (fE c)<=35*y c:=by
 induction c with
 |nil=>simp[fE]
 |cons x r d=>
  have a:=tZ (h x<|by simp);have f:=d (λa b=>h a<|by simp[b]);have e:fE (x::r)=Bz x++fE r:=by simp[fE]
  rw[e,af,ay];omega
structure qR where
 pos:M
 size:M
 count:M
 first:ab
 last:ab
abbrev mw:=cr qR
def qR.value(k:qR):aa:=eC #[ap k.pos,ap k.size,ap k.count,ai k.first,ai k.last]
def qR.cells(k:qR):iU:=[ap k.pos,ap k.size,ap k.count,ai k.first,ai k.last]
structure qR.Of(k:qR)(c:cA):Prop where
 ne:0<y c
 size:k.size=y (fE c)+4
 count:k.count=y c
 first:k.first=(c[0]'ne).key
 last:k.last=(c[y c-1]'(by omega)).key
def BQ(w:I)(b:M)(k:qR):Prop:=w.heap[b]?=H (ar #[ap k.pos,ap k.size,ap k.count,ai k.first,ai k.last] 347 (0,0))
def BQ.cells{k:qR}(h:BQ a b k):aT a (R b 0)=H (ap k.pos)/\aT a (R b 1)=H (ap k.size)/\aT a (R b 2)=H (ap k.count)/\aT a (R b 3)=H (ai k.first)/\aT a (R b 4)=H (ai k.last):=by
 refine⟨?_,?_,?_,?_,?_⟩<;>rw[bN h]<;>rfl
def BQ.aw{w w':I}{k:qR}{S:fJ}(h:BQ w b k)(c:Y S w w')(a:¬S b):BQ w' b k:=(c.block b (ak h) a).trans h
def yy(x:E)(t:TypeId)(c:b=z (G a)):∀j u,(aF [x])[j]?=H u->aT (ct a<|ar #[ai x.key,ai x.val,aL x.del,aH x.bI] t) (((R b 0):Addr).add j)=H u:=by
 subst c;exact wa a x t
def Rd.wrote(l:Rd a b o D)(h:eP a f d s)(g:∀k,bV d=H k->b<k):Rd f b o D:=by
 obtain⟨u,e,j,c⟩:=l;refine⟨u,(h.grown.block b (ak e) (λi=>by have:=g b i.symm;omega)).trans e,j.grown h.grown ?_,c⟩;cases hu:bV u with
 |none=>exact .inr rfl
 |some k=>
  left;intro i;have m:=c k hu;have n:=g k i.symm;omega
structure Vm(w0 w:I)(rb:M)(k:qR)(c:cA)(o:aa)(n:M):Prop where
 own:w.ownsRow (z<|G w0) 164 4 o n (aF<|c.take n)
 rd:Rd w rb (fE<|c.drop n) bF
 box:BQ w (z<|G w0) k
 Yr:Below (z<|G w0) w0 w
 Tm:z (G w0)<rb
 ne:bV o≠H rb/\bV o≠H (z<|G w0)
 wy:∀k,bV o=H k->rb<k
def Dr(an c l:M)(t:qR)(hT:Steps a)(g:t.Of e)(hg:∀co∈e,co.Good)(hs:dQ e)(ea:y e<=1000)(bk:t.size<=l)(x:Bytes a (bD an c t.size l) (iC<|fE e)):cy bG 331 #[bD an c t.size l,t.value] a λP N=>
 ∃v',P=aO (dB #[v',aL bW])/\N.ownsRow (z<|G a) 164 4 v' (y e) (aF e)/\Below (z<|G a) a N:=by
 have dT:=Ct hg
 obtain⟨i0,ca,cl,cm,cn⟩:=cz nP
 obtain⟨pos,f,bf,first,b⟩:=t
 have cc:=g.ne
 have u:f=y (fE e)+4:=g.size
 have cb:bf=y e:=g.count
 have bo:=U<|show first=(e[0]'cc).key from g.first
 have bp:=U<|show b=(e[y e-1]'(by omega)).key from g.last
 clear g
 subst cb
 simp only at x bk
 unfold qR.value
 simp only
 have bu:Below (z<|G a) a (ct a<|ar #[ap pos,ap f,ap<|y e,ai first,ai b] 347):=(Below.refl _ a).alloc (ah _) _
 have bt:an<z (G a):=x.lt (by unfold iC;intro h;have:=bU y h;simp[bY]at this) an rfl
 have ck:cy bG 207 #[bD an c f l] (ct a<|ar #[ap pos,ap f,ap<|y e,ai first,ai b] 347) λP N=>
  P=aO (dB #[bD an c (y<|fE e) l,aL bW])/\Below (z<|G<|ct a<|ar #[ap pos,ap f,ap<|y e,ai first,ai b] 347) (ct a<|ar #[ap pos,ap f,ap<|y e,ai first,ai b] 347) N:=by
   rw[u]at x bk|-;exact wZ an c l (fE e) (hT.alloc _) bk (by omega)<|x.alloc _
 have ba:Bytes a (bD an c (y<|fE e) l) (fE e):=by
  have d:Bytes a (bD an c (y<|iC<|fE e) l) (iC<|fE e):=by rw[u]at x;unfold iC at*;rw[af,bY];exact x
  have:=d.take (n:=y<|fE e) (by simp[iC]);unfold iC at this;rwa[pM]at this
 have dv:∀(co:Bool)(a:I),(Op.unary .not<|aL co).run bG a=.ok (aL<|!co) a:=λ_ _=>rfl
 obtain⟨al,HG,HS,HB,cs⟩:=jP ba hg hs bu u
 clear x hT ba hg hs bu u
 go_in
 go_wp2_with(first
  |(go_at_call 207;refine ck.mono ?_;rintro P w⟨rfl,bh⟩;have ac:BQ w (z<|G a) ⟨pos,f,y e,first,b⟩:=(bh.block _<|by simp).trans<|aD _ rfl;obtain⟨k0,k1,k2,k3,k4⟩:=ac.cells;simp only at k0 k1 k2 k3 k4;have m:Below (z<|G a) a w:=HB.trans (bh.mono<|by simp);have ds:=ak ac;have cd:=mR (al.below m (by intro t g;cases g;exact bt)) (by intro t g;cases g;exact ag bt m.size);have O:=U ac;have bd:=U m;clear bh ac m)
  |(go_at_call 208;refine cd.mono ?_;rintro P w2⟨rfl,bb,dm⟩;subst dm;have br:=U bb;clear bb)
  |(at_make;refine lG _ rfl _ _ 102 rfl (z (G a)) 164 i0 wO 4 underlying102 ca cl cm _ _ _ (y e) rfl rfl (by omega) (by rw[cn];omega) (by unfold maxLen;omega) (by simp;omega) ?_;intro w3 ax B;have r:Y aB w w3:=((Y.refl aB w).alloc _).ci (Y.dN (S:=aB) B (by simp));have bv:=O.aw r (λe=>e);obtain⟨m0,m1,m2,m3,m4⟩:=bv.cells;simp only at m0 m1 m2 m3 m4;have bs:=U r;clear bv r;have A:=U ax;have ad:=U B;clear ax B))
 have bi:=ae ad
 have dn:=bi.size
 simp at dn
 have dk:z (G<|ct w<|ar #[bD an c (y<|fE e) l,aL bF] 376)=z (G w)+1:=by simp
 have r:=ae bs
 have hA0:Vm a w3 (z<|G w) ⟨pos,f,y e,first,b⟩ e (bD (z (G w)+1) 0 0<|y e) 0:=by
  have i:=ae A;rw[dk]at i;refine⟨i,?_,O.aw r<|λe=>e,bd.trans<|(r.below (ah _) cG).mono bd.size,by omega,⟨?_,?_⟩,?_⟩
  .exact br.laid bi
  .simp[bV]
  .have:=ak O;simp[bV];omega
  .intro t g;simp[bV]at g;omega
 have bn:=U hA0
 clear hA0 bi r
 go_loopw [9,35] (λc i wr=>∃o:M,o<=y e/\i=ap o/\Vm a wr (z<|G w) ⟨pos,f,y e,first,b⟩ e c o) (λ_ i _=>y e-(intOf i).toNat)
 case atStart=>exact⟨0,bA _,rfl,bn⟩
 case round=>
  obtain⟨o,eb,rfl,k⟩:=hrel;have i:=k.own;obtain⟨ox,K,ho⟩:=aC i;have ed:=k.Yr.size;have ao:=k.box.cells;simp only at ao;obtain⟨q0,q1,q2,q3,q4⟩:=ao;have dx:=k.rd.lt;have HA:=U k;by_cases T:o<y e
  .have v:=HG e[o]<|aq T;have q:=k.rd;rw[Sg e o T]at q;have C:kA (fE<|e.drop<|o+1):=LH<|λco b=>HG co<|di b;have bl:y (fE<|e.drop<|o+1)<=35*1000:=by
    have Q:=Ct (c:=e.drop<|o+1)<|λco b=>HG co<|di b;have h2:y (e.drop<|o+1)<=1000:=by simp;omega
    omega
   have D:=Ar v;have p:=tZ v;have bm:y (nL e[o])<=35:=by unfold Bz at p;rw[af]at p;omega
   have d:=Lk q ((kA.le 8 _).append<|D.append C) (by simp only[af,bY];omega);have V:=mD (le 8 e[o].bI)<|nL e[o]++fE (e.drop<|o+1);rw[bY]at V;have av:num (le 8 e[o].bI++(nL e[o]++fE (e.drop<|o+1))) bF 8=e[o].bI:=by unfold num;rw[V];exact Co v.b0 v.b1
   rw[V,av]at d;simp only at d;have n:=λW(a:Rd W (z<|G w) (nL e[o]++fE (e.drop<|o+1)) bF)=>Gk (z<|G w) (fE<|e.drop<|o+1) W a (D.append C) (by simp only[af];omega) v;have cE:Hid (aF (e.take o)++aF [e[o]]=aF (e.take<|o+1)):=by rw[<-fO,aj T];exact U rfl
   clear k i q C bl D p bm V av v;generalize e[o]=co at*;obtain⟨xk,xv,xd,xb⟩:=co;simp only at d n;unfold E.value at n;simp only at n;subst ho;go_wp2_with(first
    |(go_at_call 209;refine d.mono ?_;rintro P w4⟨rfl,ce,bx⟩;have cv:=U ce;have cp:=U bx;clear ce bx)
    |(go_at_call 216;refine(n w4 cv).mono ?_;rintro P L⟨rfl,ch,bT⟩;have s:Y (λt=>t=z (G w)) wr L:=(fg cp).trans (fg bT)<|λt g=>.inl g;have F:=aS (aS (s.own HA.own<|λt g e=>HA.ne.1 (by rw[<-e];exact g))<|.cells #[.string xk,.string xv,.bool xd,.int .u64 xb] 164)<|.cells #[.string xk,.string xv,.bool xd,.int .u64 xb] 164;have ec:=s.size;have bq:=U F;have cB:=U s;have cx:=U ch;clear ch bT F s)
    |(at_builtin;refine bS _ rfl (.tmp 48) (.tmp 50) 102 rfl (z (G a)) 164 i0 wO 4 48 underlying102 ca cl cm cn rfl (by decide) (.slice ox o K) o (aF (e.take o)) rfl bq (R (z (G L)+1) 0) 1 1 (aF [⟨xk,xv,xd,xb⟩]) rfl rfl (yy ⟨xk,xv,xd,xb⟩ _ (by simp)) (Bk _) (by omega) (by omega) (by simp;omega) ?_;intro o2 w6 j bc;have cu:=U j;have cM:=U bc;clear j bc))
   go_roundw;case rel=>
    refine⟨o+1,T,by go_num,?_⟩;have k:=ae HA;have s:=ae cB;have X:=ae cM;have j:=ae cu;have db:=k.own.lt;have cj:Y (λt=>bV (J ox o K)=H t) L w6:=(((Y.refl (λt=>bV (J ox o K)=H t) L).alloc _).alloc _).trans (Y.dN (S:=λt=>bV (J ox o K)=H t) X.grown<|λt g=>.inl g)<|λt g=>.inl g;have au:∀t,t<z (G L)->bV (J ox o K)≠H t->bV o2≠H t:=by
     intro t g hn P;rcases X.uc with cT|⟨bg,cT,hg⟩
     .exact hn<|cT.symm.trans P
     .rw[cT]at P;cases P;simp at hg;omega
    refine⟨?_,?_,?_,?_,k.Tm,⟨au _ (by omega) k.ne.1,au _ (by omega) k.ne.2⟩,?_⟩
    .rw[<-ae cE];exact j
    .have hr:=ae cx;have dc:=hr.laid<|dr L (ar #[ai xk,ai xv,aL xd,aH xb] 164) none;have dd:=dc.laid<|dr _ (ar #[ai xk,ai xv,aL xd,aH xb] 164) none;exact dd.wrote X k.wy
    .exact(k.box.aw s (λe=>by have:=k.Tm;omega)).aw cj<|λe=>k.ne.2 e
    .refine(k.Yr.trans<|s.below k.Yr.size (λt g=>by have:=k.Tm;omega)).trans<|cj.below (by omega)<|λt g=>(db t g).1
    .intro t g;rcases X.uc with cT|⟨bg,cT,hg⟩
     .exact k.wy t<|cT.symm.trans g
     .rw[cT]at g;cases g;simp at hg;omega
   case measure=>simp[intOf];omega
  .have cu:o=y e:=by omega
   subst cu;have q:=k.rd;rw[gm]at q;have cp:∀W,W.heap=wr.heap->cy bG 212 #[aA<|z<|G w] W λP N=>P=aO (aL bW)/\N=W:=by
    intro W D;have:=xN (q.of_heap D) (by simp[fE]);simpa[fE]using this
   have hE:kw wr (J ox (y e) K) e:=by
    have Q:=dH i;rw[ho,bP]at Q;exact Q
   have V:∀an,bV (J ox (y e) K)=H an->an<z (G wr):=λan x=>by rw[<-ho]at x;exact(i.lt an x).2
   have p:∀W,W.heap=wr.heap->cy bG 317 #[J ox (y e) K] W λP N=>P=aO (aL bW)/\Below (z<|G W) W N:=by
    intro W D;refine MX (J ox (y e) K) W ?_ HS (by omega) (λan x=>by rw[D];exact V an x);obtain⟨Q,⟨h2,h0⟩|⟨bg,bT,au,h2,bx,cj⟩⟩:=hE
    .exact⟨Q,.inl ⟨h2,h0⟩⟩
    .exact⟨Q,.inr ⟨bg,bT,au,h2,bx,λj u b=>(cH (w:=wr)<|by rw[D]).trans<|cj j u b⟩⟩
   obtain⟨ch,⟨av,cM⟩|⟨bg,d,cB,av,bq,F⟩⟩:=hE
   .omega
   have bc:=(ez e 0 cc).1;have bl:=(ez e (y e-1)<|by omega).1;have f0:aT wr (R bg<|d+0*4)=H (ai e[0].key):=F _ _ bc;have fL:aT wr (R bg<|d+(y e-1)*4)=H (ai e[y e-1].key):=F _ _ bl;rw[<-ae bo]at f0;rw[<-ae bp]at fL;cases av;subst ho;clear k i q ch bq F bc bl;rw[zG,jn]at f0;have n:Below (z<|G a) a wr:=HA.Yr;have C:∀W,Below (z<|G wr) wr W->∃v',Ending.returned (dB #[bD bg d (y e) K,aL bW])=aO (dB #[v',aL bW])/\W.ownsRow (z<|G a) 164 4 v' (y e) (aF e)/\Below (z<|G a) a W:=by
    intro W D;have k:=ae HA;have Q:=k.own;rw[bP]at Q;refine⟨_,rfl,?_,n.trans<|D.mono n.size⟩;exact(Y.aW (S:=aB) D).own Q<|λ_ _ e=>e
   have X:=U C;have bm:=V bg rfl;have v:z (G a)<z (G wr):=ak HA.box;clear C n cs bo bp O bd al br A ad bs bn HA HG HS HB ck cd V;obtain⟨s,hp⟩:∃s,y e-1=s:=⟨_,rfl⟩;have e1:(y e:Z)-1=(s:Z):=by omega
   have e2:(s:Z)<(y e:Z):=by omega
   have e3:(0:Z)<=(s:Z):=by omega
   have e4:s<y e:=by omega
   have e5:¬((y e:Z)<(y e:Z)):=by omega
   have e6:s<=1000:=by omega
   have e9:IntKind.i64.wrap (s:Z)=(s:Z):=by rw[bQ];omega
   have cE:wrap64 (s:Z)=(s:Z):=by unfold wrap64;omega
   rw[hp]at fL;have cv:∀W,W.heap=wr.heap->cy bG 317 #[bD bg d (y e) K] W λP N=>P=aO (aL bW)/\Below (z<|G W) W N:=p;clear p hp;go_wp2_with fail
   go_region_held3(λc=>aT c (R bg d)=H (ai first)/\aT c (R bg<|d+s*4)=H (ai b)/\aT c (R (z<|G a) 3)=H (ai first)/\aT c (R (z<|G a) 4)=H (ai b)) (first|assumption|go_keep) (first
    |(go_at_call 212;refine(cp wr.drew rfl).mono ?_;rintro P w4⟨rfl,cx⟩;subst cx)
    |(go_at_call 317;refine(cv wr.drew rfl).mono ?_;rintro P L⟨rfl,j⟩;have a0:aT L (R bg d)=H (.string first):=(j.cell (p:=(R bg d)) bm).trans f0;have a1:aT L (R bg (d+s*4))=H (.string b):=(j.cell (p:=(R bg (d+s*4))) bm).trans fL;have a2:aT L (R (z (G a)) 3)=H (.string first):=(j.cell (p:=(R (z (G a)) 3)) v).trans q3;have a3:aT L (R (z (G a)) 4)=H (.string b):=(j.cell (p:=(R (z (G a)) 4)) v).trans q4;have ce:=U j;clear j))
   go_wp2;go_ret2
   have j:=ae ce;exact X _ ⟨j.os,j.tape,j.output,j.size,j.block⟩
variable{A:mw}
def ep(l:mw):iU:=l.flatMap qR.cells
def BG(l:mw):y (ep l)=y l*5:=by
 induction l with
 |nil=>rfl
 |cons e r a=>unfold ep at*;rw[dI,af,a];simp[qR.cells];omega
def ir(l:mw)(n j:M)(h:n<y l)(c:j<5):(ep l)[n*5+j]?=(qR.cells l[n])[j]?:=by
 have e:ep l=ep (l.take n)++(qR.cells l[n]++ep (l.drop<|n+1)):=by(have a:l=l.take n++l[n]::l.drop (n+1):=by rw[<-bE h,bX]);(conv=>lhs;rw[a]);simp only[ep,fZ,dI]
 have b:y (ep<|l.take n)=n*5:=by rw[BG];simp;omega
 rw[e,dE (by omega),b,show n*5+j-n*5=j by omega,gd (by simp[qR.cells];omega)]
structure lR(w:I)(tb:M)(dv:aa)(number cut isize sum:Z)(bb boff wL:M)(dav:aa)(ks:mw):Prop where
 box:w.heap[tb]?=H (ar #[dv,aH number,dq cut,dq isize,dq sum,bD bb boff (y ks) wL,dav] 293 (0,0))
 cells:∀j u,(ep ks)[j]?=H u->aT w (R bb<|boff+j)=H u
 ne:0<y ks
 le:y ks<=wL
 small:y ks<=1000000000
def RQ{e cut i j:Z}(h:lR a b d e cut i j c g l s A):cy bG 175 #[aA b] a λn m=>n=aO (ai (A[0]'h.ne).first)/\m=a:=by
 have k:=cellAt h.box 5 rfl;have f:=h.ne;have o:aT a (R c<|g+3)=H (ai (A[0]'f).first):=h.cells _ _ (ir A 0 3 f<|by decide);have p:(0:Z)<(y A:Z):=by omega
 generalize(A[0]'f).first=q at*;clear h;go_in
 go_wp2;go_ret;exact⟨rfl,rfl⟩
def Ud{e cut f i:Z}(h:lR a b d e cut f i c g l s A):cy bG 176 #[aA b] a λr o=>r=aO (ai (A[y A-1]'(by have:=h.ne;omega)).last)/\∃q,o=a.drewN q:=by
 have k:=cellAt h.box 5 rfl;have m:=h.ne;have n:=h.small;obtain⟨p,j⟩:∃p,y A-1=p:=⟨_,rfl⟩;have x:aT a (R c<|g+p*5+4)=H (ai (A[y A-1]'(by omega)).last):=by subst j;rw[aV];exact h.cells _ _<|ir A (y A-1) 4 (by omega)<|by decide
 have t:(y A:Z)-1=(p:Z):=by omega
 have u:(p:Z)<(y A:Z):=by omega
 have v:(0:Z)<=(p:Z):=by omega
 have w:p<y A:=by omega
 generalize(A[y A-1]'(by omega)).last=B at*;clear h j;go_in
 go_wp2;go_quiet(fail)
 go_wp2;go_ret;exact⟨rfl,nq,rfl⟩
def NA(m:M){bk:M}{e cut f k:Z}(i:ab)(h:lR a b d e cut f k c g l s A)(o:dV a m (aA b) 224)(n:dV a bk (ai i) 9)(j:M)(t:j<y A):cy bG 329 #[ap j,aA m,aA bk] a λv u=>v=aO (aL<|!ic A[j].last i)/\∃q,u=a.drewN q:=by
 have p:=cellAt h.box 5 rfl;have B:aT a (R c<|g+j*5+4)=H (ai A[j].last):=by rw[aV];exact h.cells _ _<|ir A j 4 t<|by decide
 have c1:=o.cell;have c2:=n.cell;have r:=Jg;have w:(j:Z)<(y A:Z):=by omega
 have x:(0:Z)<=(j:Z):=by omega
 unfold ic;generalize A[j].last=C at*;clear h o n;go_in
 go_wp2;go_quiet(fail)
 go_wp2;go_ret;exact⟨rfl,nq,rfl⟩
def lR.below{e cut h i:Z}{B:M}(j:lR a b d e cut h i c g l s A)(k:Below B a f)(m:b<B)(n:c<B):lR f b d e cut h i c g l s A:=⟨(k.block b m).trans j.box,λq u o=>(k.cell (p:=(R c<|g+q)) n).trans<|j.cells q u o,j.ne,j.le,j.small⟩
def lR.lt{e cut h i:Z}(j:lR a b d e cut h i c g l s A):b<z (G a)/\c<z (G a):=⟨ak j.box,cY a (R c<|g+(0*5+0))<|j.cells _ _<|ir A 0 0 j.ne<|by decide⟩
def Aa{i cut n F:Z}(e:ab)(h:lR a b s i cut n F c g l N A)(T:A.Pairwise (λV W=>ic V.last W.last=bW)):cy bG 325 #[aA b,ai e] a λad w'=>∃K:M,ad=aO (ap K)/\K<=y A/\(∀j(f:j<y A),j<K->ic A[j].last e=bW)/\(∀j(f:j<y A),K<=j->ic A[j].last e=bF)/\Below (z<|G a) a w':=by
 have r:=h.lt;have C:Below (z<|G a) a (ct (ct a<|ar #[aA b] 224)<|ar #[ai e] 9):=((Below.refl _ a).alloc (ah _) _).alloc (by simp) _;have u:=h.below C r.1 r.2;have al:=cellAt u.box 5 rfl
 have t:=zg #[aA<|z<|G a,aA<|z (G a)+1] (y A) (λj=>if f:j<y A then !ic A[j].last e else bW) (ct (ct a<|ar #[aA b] 224)<|ar #[ai e] 9) (enters_of func329 (by kernel_rfl) rfl) (by have:=h.small;omega) (by
  intro V W B p v;have o:V<y A:=by omega
  simp only[p,o,oE]at v|-;rcases lf B with ac|ac
  .have k:=cw.1 T V W o p ac;cases d:ic A[W].last e with
   |false=>rfl
   |true=>have:=lH k d;rw[this]at v;cases v
  .subst ac;exact v)
  (by
   intro j f ao k;have x:=u.below k (by simp;omega) (by simp;omega);have D:dV ao (z (G a)) (aA b) 224:=(k.block _ (by simp;omega)).trans (dV.alloc (aD _ rfl) _);have E:dV ao (z (G a)+1) (ai e) 9:=(k.block _ (by simp)).trans (aD _ (by simp));apply(NA (z (G a)) e x D E j f).mono;rintro ad W'⟨rfl,q,rfl⟩;simp only[f,oE];exact⟨trivial,below_drewN (Below.refl _ _) _⟩)
 have w:=U t;have L:=U C;have an:=u.lt.1;clear t u C h T;go_in
 go_wp2_with(go_at_call 224;refine w.mono ?_;rintro ad w1⟨K,rfl,O,P,Q,S⟩;have X:=U O;have H2:=U P;have H3:=U Q;have H4:=U S;clear O P Q S)
 go_ret;refine⟨K,rfl,X,λj f m=>?_,λj f m=>?_,L.trans<|H4.mono L.size⟩;have:=H2 j m;simp only[f,oE]at this;simpa using this;have:=H3 j m f;simp only[f,oE]at this;simpa using this
structure nE(V:jj)(n0 tb:M)(ks:mw)(cs:dW)(w:I):Prop where
 mem:∃dv number cut isize sum bb boff wL dav,lR w tb dv number cut isize sum bb boff wL dav ks/\(tb<n0/\¬V.F tb)/\(bb<n0/\¬V.F bb)
 len:y ks=y cs
 Ee:∀i(hi:i<y ks)(hc:i<y cs),ks[i].Of cs[i]
 jc:∀c∈cs,∀x∈c,x.Good
 mq:dQ cs.flatten
 CS:cs.Pairwise gQ
 small:∀c∈cs,y c<=1000
 bytes:∀i(hi:i<y ks)(hc:i<y cs)W,jz V n0 aB w W->V.D W->cy bG 330 #[aA tb,ks[i].value] W λe W'=>
  ∃b off cap,e=aO (dB #[bD b off ks[i].size cap,.nilIface])/\ks[i].size<=cap/\Bytes W' (bD b off ks[i].size cap) (iC<|fE cs[i])/\V.D W'/\Y V.F W W'
 steps:Steps w
 zO:1<n0/\¬V.F 1
def lR.same{V:jj}{n0:M}{S:fJ}{e cut h i:Z}(j:lR a b d e cut h i c g l s A)(k:jz V n0 S a f)(m:b<n0/\¬V.F b)(n:c<n0/\¬V.F c):lR f b d e cut h i c g l s A:=⟨(k.2 b<|.inl m).trans j.box,λp u o=>k.cell (.inr n)<|j.cells p u o,j.ne,j.le,j.small⟩
def Steps.same{V:jj}{n0:M}{S:fJ}(h:Steps a)(d:jz V n0 S a f)(b:1<n0/\¬V.F 1):Steps f:=λk c=>d.cell (.inr b)<|h k c
def nE.same{V:jj}{n0 d:M}(h:nE V n0 d A k a)(j:jz V n0 aB a f):nE V n0 d A k f:=by
 obtain⟨p,c,cut,e,l,o,g,b,i,u,m,n⟩:=h.mem;exact⟨⟨p,c,cut,e,l,o,g,b,i,u.same j m n,m,n⟩,h.len,h.Ee,h.jc,h.mq,h.CS,h.small,λv t s W r q=>h.bytes v t s W (j.trans r) q,h.steps.same j h.zO,h.zO⟩
def KH(h:nE r b c A k a)(hD:r.D a)(hn:b<=z (G a))(hF:∀ad,r.F ad->ad<b)(o:M)(F:o<y A)(hc:o<y k):cy bG 326 #[aA c,ap o] a λbh N=>∃L,bh=aO (dB #[L,.nilIface])/\N.ownsRow (z<|G a) 164 4 L (y k[o]) (aF k[o])/\r.D N/\Y r.F a N:=by
 obtain⟨dv,al,cut,bf,bp,O,i,ac,bl,C,bo,bm⟩:=h.mem;have bn:=cellAt C.box 5 rfl;have g0:aT a (R O<|i+o*5)=H (ap A[o].pos):=C.cells _ _ (ir A o 0 F<|by decide);have g1:aT a (R O<|i+o*5+1)=H (ap A[o].size):=by rw[aV];exact C.cells _ _<|ir A o 1 F<|by decide
 have g2:aT a (R O<|i+o*5+2)=H (ap A[o].count):=by rw[aV];exact C.cells _ _<|ir A o 2 F<|by decide
 have g3:aT a (R O<|i+o*5+3)=H (ai A[o].first):=by rw[aV];exact C.cells _ _<|ir A o 3 F<|by decide
 have g4:aT a (R O<|i+o*5+4)=H (ai A[o].last):=by rw[aV];exact C.cells _ _<|ir A o 4 F<|by decide
 have e2:(o:Z)<(y A:Z):=by omega
 have e3:(0:Z)<=(o:Z):=by omega
 have m:=aq hc;have E:=h.Ee o F hc;have s:=h.jc _ m;have n:=h.small _ m;have D:dQ k[o]:=h.mq.sub<|cN m;have q:=h.bytes o F hc;have v:=h.steps;have u:=h.zO;have bk:∀(x:Bool)(a:I),(Op.unary .not<|aL x).run bG a=.ok (aL<|!x) a:=λ_ _=>rfl;have Q:∀ad,b<=ad->¬r.F ad:=λad hk a=>by have:=hF ad a;omega
 obtain⟨pos,d,e,first,g,bc⟩:∃pos d e first g,A[o]=⟨pos,d,e,first,g⟩:=⟨_,_,_,_,_,rfl⟩
 rw[bc]at g0 g1 g2 g3 g4 E q;simp only at g0 g1 g2 g3 g4;unfold qR.value at q;simp only at q;have w:Y aB a (ct a<|ar #[ap pos,ap d,ap e,ai first,ai g] 347):=(Y.refl _ _).alloc _;have bb:=q _ (w.same hn cG cG)<|r.fi hD w cG;have bi:=(C.lt).2;have HX:=U (show∀p bg f j,Y r.F (ct a<|ar #[ap pos,ap d,ap e,ai first,ai g] 347) p->d<=j->Bytes p (bD bg f d j) (iC<|fE k[o])->cy bG 331 #[bD bg f d j,eC #[ap pos,ap d,ap e,ai first,ai g]] p λbh N=>∃L,bh=aO (dB #[L,aL bW])/\N.ownsRow (z<|G p) 164 4 L (y k[o]) (aF k[o])/\Below (z<|G p) p N from by intro p bg f j ht B hB;have V:Steps p:=(v.same (S:=aB) (w.same (V:=r) hn cG cG) u).same (S:=aB) (ht.same (V:=r) (by simp;omega) cG<|λad hk _=>hk) u;exact Dr bg f j ⟨pos,d,e,first,g⟩ V E s D n B hB);have ax:=U Q;clear C E s n D q v u m h hD hF Q;go_in
 go_wp2_with(first
  |(go_at_call 330;refine bb.mono ?_;rintro bh p⟨bg,f,j,rfl,B,hB,P,l⟩;have bd:=HX p bg f j l B hB;have X:BQ p (z<|G a) ⟨pos,d,e,first,g⟩:=BQ.aw (aD _ rfl) l<|ax _ hn;obtain⟨k0,k1,k2,k3,k4⟩:=X.cells;simp only at k0 k1 k2 k3 k4;have ao:=U P;have av:=U l;clear B hB P l X)
  |(go_at_call 331;refine bd.mono ?_;rintro bh w3⟨L,rfl,t,x⟩;have au:=U t;have an:=U x;clear t x))
 go_ret2
 have l:=ae av;have x:=ae an;have hz:=l.size;simp at hz;have W:Y aB p w3:=Y.aW x;refine⟨L,rfl,?_,r.fi ao W cG,((w.mono (T:=r.F) cG).trans l<|λad hk=>.inl hk).ci W⟩;obtain⟨h1,⟨h2,h0⟩|⟨bq,cp,ba,h2,hb,K⟩⟩:=ae au;exact⟨h1,.inl ⟨h2,h0⟩⟩;exact⟨h1,.inr ⟨bq,cp,ba,h2,by omega,K⟩⟩
def nE.An(h:nE r b c A k a):A.Pairwise (λo p=>ic o.last p.last=bW):=by
 refine cw.2<|λm n j l f=>?_;have d:m<y k:=by have:=h.len;omega
 have e:n<y k:=by have:=h.len;omega
 have g:=h.Ee m j d;have i:=h.Ee n l e;rw[g.last,i.last];have:=cw.1 h.CS m n d e f;have q:=g.ne;have s:=i.ne;exact this _ (aq<|by omega) _<|aq<|by omega
def nE.Bu(q:nE r b c A k a)(e:ab)(j:M)(t:∀i(m:i<y A),i<j->ic A[i].last e=bW):((k.drop j).map<|fR e).flatten=fR e k.flatten:=by
 have n:k.flatten=(k.take j).flatten++(k.drop j).flatten:=by rw[<-dP,bX]
 have o:fR e (k.take j).flatten=[]:=by unfold fR;rw[gN];intro B v;obtain⟨x,u,h⟩:=bz.1 v;obtain⟨i,m,rfl⟩:=dO u;rw[gq]at h;(have d:i<j/\i<y k:=by simp at m;omega);(have f:i<y A:=by have:=q.len;omega);have w:=q.Ee i f d.2;have g:dQ k[i]:=q.mq.sub<|cN<|aq d.2;have l:=t i f d.1;rw[w.last]at l;have s:=g.CX w.ne h;rw[xD s l];simp
 have p:∀l:dW,(l.map<|fR e).flatten=fR e l.flatten:=by
  intro l;induction l with
  |nil=>rfl
  |cons f g d=>simp only[aY,aX,d];unfold fR;rw[iV]
 rw[p,n];unfold fR at*;rw[iV,o,cC]
def Fw(bt:M)(i:M)(K:ab)(h:nE r b c A k a)(ht:dV a bt (aA c) 224)(hg:dV a g (ap i) 3)(E:dV a l (ai K) 9)(hn:b<=l)(hD:r.D a)(ad:b<=z (G a))(hF:∀i,r.F i->i<b)(q:M)(hi:i+q<y A)(hc:i+q<y k):cy bG 328 #[ap q,aA bt,aA g,aA l] a λau w'=>∃v' S',au=aO (dB #[v',.nilIface])/\ji r b v' (fR K k[i+q]) S' w'/\r.D w'/\Y r.F a w'/\(∀i,S' i->z (G a)<=i):=by
 have c1:=ht.cell;have c2:=hg.cell;have c3:=E.cell;have x:=KH h hD ad hF (i+q) hi hc;have e:=aq hc;have o:dQ k[i+q]:=h.mq.sub<|cN e;have ac:=h.small _ e;have n:i+q<1000000000:=by obtain⟨_,_,_,_,_,_,_,_,_,F,_⟩:=h.mem;have:=F.small;omega
 have T:=ak E;have X:¬r.F l:=λV=>by have:=hF l V;omega
 obtain⟨HL,HS,s,HF⟩:=gx E o (show∀x∈k[i+q],x.bI<18446744073709551616 fromλx b=>(h.jc _ e x b).b1) hF;clear ht hg E h hD e hF o hi;have C:IntKind.i64.wrap ((i:Z)+(q:Z))=((i+q:M):Z):=by rw[bQ];omega
 have p:wrap64 ((i:Z)+(q:Z))=((i+q:M):Z):=by unfold wrap64;omega
 obtain⟨ao,F⟩:∃ao,i+q=ao:=⟨_,rfl⟩;simp only[F]at x ac HS s C p n|-;have al:(i:Z)+(q:Z)=(ao:Z):=by omega
 generalize k[ao]=ba at*;clear F C p;go_in
 go_wp2_with(first
  |(go_at_call 326;refine x.mono ?_;rintro au w1⟨v1,rfl,d,t,f⟩;have av:aT w1 (R l 0)=H (.string K):=f.cell c3 X T;have u:kw w1 v1 ba:=dH d;have m:=d.lt;have an:=f.size;have W:=LQ r b K u HS s (by omega) (λi D=>⟨λV=>by have:=HF i V;have:=(m i D).1;omega,(m i D).2⟩) (by omega) HF;have N:=U t;have S:=U f;have P:=U m;clear d t f u m)
  |(go_at_call 316;refine W.mono ?_;rintro au w2⟨v2,S2,rfl,w,j,v⟩;have O:=U w;have L:=U j;have Q:=U v;clear w j v))
 go_ret2
 have j:=ae L;have f:=ae S;have B:Y aB w1 w2:=Y.aW j;refine⟨v2,S2,rfl,O,r.fi N B cG,f.ci B,λk' D=>?_⟩;rcases Q k' D with ax|ax;exact(P k' ax.1).1;omega
def SX(V:jj)(c a d j k n:M)(r:mw)(l:dW)(o:ab)(q:y r=y l):AH V c ((l.drop n).map<|fR o)where
 f:=328
 cb:=#[aA d,aA j,aA k]
 inv:=λW=>nE V c a r l W/\(dV W d (aA a) 224/\dV W j (ap n) 3/\dV W k (ai o) 9)/\(c<=d/\c<=j/\c<=k)/\c<=z (G W)/\∀n,V.F n->n<c
 S:=λx=>x=d\/x=j\/x=k
 SD:=enters_of func328 (by kernel_rfl) rfl
 call:=by
  rintro u t W⟨m,⟨e,g,h⟩,⟨_,_,p⟩,b,hF⟩s;have i:n+u<y l:=by simp at t;omega
  have:=Fw d n o m e g h p s b hF u (by omega) i;simpa using this
 fi:=by
  rintro W t⟨m,⟨e,g,h⟩,s,b,hF⟩i;exact⟨m.same<|i.mono cG,⟨e.same i<|.inl rfl,g.same i<|.inr<|.inl rfl,h.same i<|.inr<|.inr rfl⟩,s,aE b i.1,hF⟩
 lt:=by
  rintro W⟨_,⟨e,g,h⟩,⟨i,s,p⟩,_⟩x(rfl|rfl|rfl)
  .exact⟨i,ak e⟩
  .exact⟨s,ak g⟩
  .exact⟨p,ak h⟩
def BX{n0 tbqq:M}{ks:mw}{cs:dW}(f:ab)(h:nE r n0 tbqq ks cs a)(hD:r.D a)(n:n0<=z (G a))(hF:∀k,r.F k->k<n0):cy bG 324 #[aA tbqq,ai f] a λal j=>∃w t,al=aO w/\ji r n0 w (fR f cs.flatten) t j/\r.D j/\Y r.F a j/\(∀k,t k->z (G a)<=k):=by
 have l:Below (z<|G a) a (ct (ct a<|ar #[aA tbqq] 224)<|ar #[ai f] 9):=((Below.refl _ a).alloc (ah _) _).alloc (by simp) _;obtain⟨dv,E,cut,ac,bd,L,g,d,ao,C,ba,au⟩:=h.mem;have e:=C.lt;have T:=Aa f (C.below l e.1 e.2) h.An;have s:=h.len;have ax:=C.small
 have HX:=U (show∀(c:I)(k:M),Below (z<|G<|ct (ct a<|ar #[aA tbqq] 224)<|ar #[ai f] 9) (ct (ct a<|ar #[aA tbqq] 224)<|ar #[ai f] 9) c->k<=y ks->(∀d(e:d<y ks),d<k->ic ks[d].last f=bW)->∀W,W.heap=(ct c<|ar #[ap k] 3).heap->Y aB (ct c<|ar #[ap k] 3) W->cy bG 322 #[ap ((y ks-k:M):Z),.func (.func 328) #[] #[aA<|z<|G a,aA<|z<|G c,aA<|z (G a)+1]] W λal j=>∃w t,al=aO w/\ji r n0 w (fR f cs.flatten) t j/\r.D j/\Y r.F a j/\(∀k,t k->z (G a)<=k)/\Below (z<|G W) W j from by
  intro c k b hk Q W u O;have v:=b.size;simp at v;have i:Y aB a W:=(((Y.aW (S:=aB) l).ci<|Y.aW (S:=aB) b).alloc _).ci O;have V:dV c (z<|G a) (aA tbqq) 224:=(b.block _ (by simp;omega)).trans<|dV.alloc (aD _ rfl) _;have X:dV c (z (G a)+1) (ai f) 9:=(b.block _<|by simp).trans (aD _<|by simp);have y1:dV W (z<|G a) (aA tbqq) 224:=by rw[dV,u];exact V.alloc _
  have y2:dV W (z (G a)+1) (ai f) 9:=by rw[dV,u];exact X.alloc _
  have y3:dV W (z<|G c) (ap k) 3:=by rw[dV,u];exact aD _ rfl
  have N:nE r n0 tbqq ks cs W:=h.same<|i.same n cG cG;have A:=Hr (SX r n0 tbqq (z<|G a) (z<|G c) (z (G a)+1) k ks cs f s) W ⟨N,⟨y1,y3,y2⟩,⟨n,by omega,by omega⟩,aE n i.size,hF⟩ (aE n i.size) hF (by simp;omega);have hl:y ((cs.drop k).map<|fR f)=y ks-k:=by simp;omega
  rw[hl]at A;apply A.mono;rintro al j⟨w,t,rfl,hg,hb,hS⟩;rw[h.Bu f k Q]at hg;have D:Y aB W j:=Y.aW hb;have o:=i.ci D;refine⟨w,t,rfl,hg,r.fi hD o cG,o.mono cG,λbf hx=>?_,hb⟩;have bc:=i.size;rcases hS bf hx with(an|an|an)|an
  .omega
  .omega
  .omega
  .omega)
 have m:∀W,Below (z<|G a) a W->aT W (R tbqq 5)=H (bD L g (y ks) d):=λW b=>by rw[bN (C.below b e.1 e.2).box];rfl
 have K:=U m;have HB:=U l;have bb:=e.1;clear h C hD hF m l e s;go_in
 go_wp2_with(go_at_call 325;refine T.mono ?_;rintro al c⟨k,rfl,hk,B,P,b⟩;have q:Below (z<|G a) a c:=HB.trans<|b.mono HB.size;have m:=K c q;have v:=b.size;have x1:aT c (R (z<|G a) 0)=H (aA tbqq):=dV.cell<|(b.block _ (by simp;omega)).trans<|dV.alloc (aD _ rfl) _;have x:=U<|HX c k b hk B;clear B P b q)
 simp at v;have q1:z (G a)<z (G c):=by omega
 have q2:tbqq<z (G c):=by omega
 obtain⟨ad,hd⟩:∃ad,y ks-k=ad:=⟨_,rfl⟩;rw[hd]at x;have q3:(y ks:Z)-(k:Z)=(ad:Z):=by omega
 have q4:ad<=1000000000:=by omega
 have q6:IntKind.i64.wrap (ad:Z)=(ad:Z):=by rw[bQ];omega
 clear hd
 go_region_held3(λb=>aT b (R (z<|G a) 0)=H (aA tbqq)/\aT b (R tbqq 5)=H (bD L g (y ks) d)/\aT b (R (z<|G c) 0)=H (ap k)) (first|assumption|go_keep) (first
  |(go_at_call 322;refine(x ((ct c (.cells #[.int .i64 k] 3)).drew) rfl ⟨rfl,rfl,rfl,ah _,λ_ _ _=>rfl⟩).mono ?_;rintro al w2⟨v2,S2,rfl,r1,r2,r3,r4,F⟩;have R1:=U r1;have R2:=U r2;have R3:=U r3;have R4:=U r4;have av:aT w2 (R (z (G a)) 0)=H (aA tbqq)/\aT w2 (R tbqq 5)=H (bD L g (y ks) d)/\aT w2 (R (z (G c)) 0)=H (.int .i64 k):=⟨(F.cell (p:=(R (z (G a)) 0)) (by simp;omega)).trans (by rw[bB,pI _ _ _ q1];exact x1),(F.cell (p:=(R tbqq 5)) (by simp;omega)).trans (by rw[bB,pI _ _ _ q2];exact m),(F.cell (p:=(R (z (G c)) 0)) (by simp)).trans (by simp)⟩;clear r1 r2 r3 r4 F))
 go_wp2;go_ret;exact⟨v2,S2,rfl,R1,R2,R3,R4⟩
structure zB(ks:mw)(key:ab)(k:M):Prop where
 le:k<=y ks
 low:∀i(hi:i<y ks),i<k->ic ks[i].last key=bW
 uZ:∀i(hi:i<y ks),k<=i->ic ks[i].last key=bF
def Qj(n:A.Pairwise (λm g=>ic m.last g.last=bW))(b:ab):∃l,zB A b l:=by
 induction A with
 |nil=>exact⟨0,ah _,λi a=>by simp at a,λi a=>by simp at a⟩
 |cons g r k=>
  obtain⟨h,j⟩:=bw.1 n;cases c:ic g.last b with
  |true=>
   obtain⟨l,f⟩:=k j;refine⟨l+1,by have:=f.le;simp;omega,λi a e=>?_,λi a e=>?_⟩
   .cases i with
    |zero=>exact c
    |succ i=>exact f.low i (by simpa using a)<|by omega
   .cases i with
    |zero=>omega
    |succ i=>exact f.uZ i (by simpa using a)<|by omega
  |false=>
   refine⟨0,bA _,λi a e=>by omega,λi a _=>?_⟩;cases i with
   |zero=>exact c
   |succ i=>
    have f:i<y r:=by simpa using a
    have:=h r[i]<|aq f;show ic r[i].last b=bF;cases d:ic r[i].last b with
    |false=>rfl
    |true=>have:=lH this d;rw[c]at this;cases this
def zB.eq(h:zB A v b)(a:zB A v c):b=c:=by
 rcases kB b c with e|e|e;have f:=a.low b (by have:=a.le;omega) e;have d:=h.uZ b (by have:=a.le;omega)<|ah _;rw[f]at d;cases d;exact e;have f:=h.low c (by have:=h.le;omega) e;have d:=a.uZ c (by have:=h.le;omega)<|ah _;rw[f]at d;cases d
def nE.Ax(q:nE r b c A k a)(t:zB A v g)(x:E)(w:x∈k.flatten)(i:x.key=v):∃j:g<y k,x∈k[g]:=by
 obtain⟨D,j,d⟩:=bz.1 w;obtain⟨o,l,rfl⟩:=dO j;have e:o<y A:=by have:=q.len;omega
 have B:=q.Ee o e l;have n:dQ k[o]:=q.mq.sub<|cN j;have m:=n.CX B.ne d;rcases kB o g with p|p|p;have:=t.low o e p;rw[B.last]at this;have:=xD m this;rw[i,fj]at this;cases this;subst p;exact⟨l,d⟩;(have h:g<y A:=by omega);(have f:g<y k:=by omega);have u:=q.Ee g h f;have s:=t.uZ g h<|ah _;rw[u.last]at s;have C:=u.ne;have:=cw.1 q.CS g o f l p _ (aq<|show y k[g]-1<y k[g]by omega) x d;rw[i,s]at this;cases this
def nE.yw(l:nE r b c A k a)(m:zB A v g)(n:∀(s:g<y A),ic v A[g].first=bW)(q:Z):iA q k.flatten v=none:=by
 refine qY<|λx o e=>?_;obtain⟨i,h⟩:=l.Ax m x o e;have d:g<y A:=by have:=l.len;omega
 have p:=l.Ee g d i;have j:=n d;have f:dQ k[g]:=l.mq.sub<|cN<|aq i;rw[p.first,<-e,f.xJ p.ne h]at j;cases j
def nE.Bx(j:nE r b c A k a)(h:zB A v g)(f:g<y k)(e:Z):iA e k.flatten v=iA e k[g] v:=Ay f (λx i d=>j.Ax h x i d) j.CS e
def We(t:TypeId)(a b:ab):binOp .gtr t (ai a) (ai b)=pure (aL !(Op.bytesLess a.toList b.toList||a.toList==b.toList)):=by simp[binOp,Op.stringOp]
def Pt(a b:ab):(!(Op.bytesLess a.toList b.toList||a.toList==b.toList))=ic b a:=by
 show(!(ic a b||a.toList==b.toList))=ic b a;cases h1:ic a b with
 |true=>rw[lI h1];rfl
 |false=>
  cases h2:(a.toList==b.toList)with
  |true=>
   have:a=b:=Jz (by simpa using h2);rw[this,fj];rfl
  |false=>
   cases h3:ic b a with
   |true=>rfl
   |false=>rw[nN h1 h3]at h2;simp at h2
def BY{n0 tbqq:M}{ks:mw}{cs:dW}(m:ab)(bt:Z)(h:nE r n0 tbqq ks cs a)(hD:r.D a)(w:n0<=z (G a))(hF:∀x,r.F x->x<n0):cy bG 321 #[aA tbqq,ai m,aH bt] a λbd w'=>bd=aO (tf<|iA bt cs.flatten m)/\r.D w'/\Y r.F a w':=by
 obtain⟨x,o⟩:=Qj h.An m;have t:Below (z<|G a) a (ct a<|ar #[ai ⟨#[]⟩,ai ⟨#[]⟩,aL bF,aH 0] 164):=(Below.refl _ a).alloc (ah _) _;obtain⟨dv,bk,cut,bn,bx,bo,W,N,bp,X,bv,bq⟩:=h.mem;have v:=X.lt;have j:=h.len;have bu:=X.small;have V:cy bG 325 #[aA tbqq,ai m] (ct a<|ar #[ai ⟨#[]⟩,ai ⟨#[]⟩,aL bF,aH 0] 164) λbd w'=>bd=aO (ap x)/\Below (z<|G a) a w'/\ii w' (z<|G a) zE:=by apply(Aa m (X.below t v.1 v.2) h.An).mono;rintro bd w'⟨f,rfl,g,q,s,d⟩;obtain rfl:x=f:=o.eq ⟨g,q,s⟩;exact⟨rfl,t.trans<|d.mono t.size,(d.block _<|by simp).trans<|aD _ rfl⟩
 have n:∀bc,Below (z<|G a) a bc->aT bc (R tbqq 5)=H (bD bo W (y ks) N):=λbc O=>by rw[bN (X.below O v.1 v.2).box];rfl
 have K:=U n;have T:∀bf,n0<=bf->¬r.F bf:=λbf hx a=>by have:=hF bf a;omega
 have L:=U T;have al:=U<|λbc(O:Below (z<|G a) a bc)=>r.fi hD (Y.aW (S:=aB) O) cG;have br:=We;by_cases Q:x<y ks
 .have u:∀bc,Below (z<|G a) a bc->aT bc (R bo<|W+x*5+3)=H (ai ks[x].first):=λbc O=>by rw[aV];exact(X.below O v.1 v.2).cells _ _<|ir ks x 3 Q<|by decide
  have ac:=U u;have e1:((x:Z)==(y ks:Z))=bF:=by simp;omega
  have e2:(x:Z)<(y ks:Z):=by omega
  have e3:(0:Z)<=(x:Z):=by omega
  have bh:=Pt ks[x].first m;cases hfk:ic m ks[x].first with
  |true=>
   rw[hfk]at bh;have e:=h.yw o (λ_=>hfk) bt;rw[e];have HL:=U j;clear h X o hD hF T t n u j e hfk;generalize ks[x].first=fk at*;go_in
   go_wp2_with(go_at_call 325;refine V.mono ?_;rintro bd k⟨rfl,c,b⟩;have n:=K k c;have u:=ac k c;obtain⟨z0,z1,z2,z3⟩:=b.cells;have y0:=b.free (i:=0);have y1:=b.free (i:=1);have y2:=b.free (i:=2);have y3:=b.free (i:=3);have p:=U b;have l:=U c;clear b c)
   refine cI (fW rfl _ _ (z<|G a) zE _ _ rfl<|p.put zE) rfl ?_;have C:Below (z<|G a) a (wK k (z<|G a) zE):=l.trans ((ja k (z<|G a) zE).below l.size<|λbf hx=>by omega);exact⟨rfl,al _ C,Y.aW C⟩
  |false=>
   rw[hfk]at bh;have P:x<y cs:=by omega
   rw[h.Bx o P bt];have bi:dQ cs[x]:=h.mq.sub<|cN<|aq P;have bs:=h.small _<|aq P;obtain⟨bg,bl,HL⟩:=dC (λbc(O:Below (z<|G a) a bc)=>KH (h.same<|(Y.aW (S:=aB) O).same w cG cG) (al bc O) (aE w O.size) hF x Q P) bi j;clear h X o hD hF T t n u j hfk bi;generalize ks[x].first=fk at*;generalize cs[x]=bm at*;have g:=(λv(w2 k:I)(a:w2.ownsRow (z<|G k) 164 4 v (y bm) (aF bm))=>Al m bt (dH a) bl (by omega)<|λc b=>(a.lt c b).2);generalize iA bt bm m=fe at*;cases fe with
   |none=>
    simp only[tf,wO]at g;have au:=U g;clear g;go_in
    go_wp2_with(first
     |(go_at_call 325;refine V.mono ?_;rintro bd k⟨rfl,c,b⟩;have n:=K k c;have u:=ac k c;have bb:=bg k c;have p:=U b;have l:=U c;clear b c)
     |(go_at_call 326;refine bb.mono ?_;rintro bd w2⟨v2,rfl,f,B,s⟩;have ba:=au v2 w2 k f;have an:=U<|p.aw s<|L _ w;have ad:=U B;have av:=U s;clear f B s)
     |(go_at_call 315;refine ba.mono ?_;rintro bd w3⟨rfl,q⟩;have d:=an.aw (Y.aW (S:=aB) q) (λbm=>bm);obtain⟨z0,z1,z2,z3⟩:=d.cells;have y0:=d.free (i:=0);have y1:=d.free (i:=1);have y2:=d.free (i:=2);have y3:=d.free (i:=3);have ao:=U d;have A:=U q;clear d q))
    refine cI (fW rfl _ _ (z<|G a) zE _ _ rfl<|ao.put zE) rfl ?_;have F:Y r.F a w3:=((Y.aW (S:=r.F) l).trans av<|λx o=>.inl o).trans (Y.aW (S:=r.F) A)<|λx o=>.inl o;have D:=ja w3 (z<|G a) zE;have ax:=r.fi ad (Y.aW (S:=aB) A) cG;refine⟨rfl,r.fi ax D (λbf hx=>by subst hx;exact L _ w),F.trans D<|λbf hx=>.inr<|by omega⟩
   |some bf=>
    obtain⟨xk,xv,xd,xb⟩:=bf;simp only[tf,E.value]at g;have au:=U g;clear g;go_in
    go_wp2_with(first
     |(go_at_call 325;refine V.mono ?_;rintro bd k⟨rfl,c,b⟩;have n:=K k c;have u:=ac k c;have bb:=bg k c;have p:=U b;have l:=U c;clear b c)
     |(go_at_call 326;refine bb.mono ?_;rintro bd w2⟨v2,rfl,f,B,s⟩;have ba:=au v2 w2 k f;have an:=U<|p.aw s<|L _ w;have ad:=U B;have av:=U s;clear f B s)
     |(go_at_call 315;refine ba.mono ?_;rintro bd w3⟨rfl,q⟩;have d:=an.aw (Y.aW (S:=aB) q) (λbm=>bm);obtain⟨z0,z1,z2,z3⟩:=d.cells;have y0:=d.free (i:=0);have y1:=d.free (i:=1);have y2:=d.free (i:=2);have y3:=d.free (i:=3);have ao:=U d;have A:=U q;clear d q))
    refine cI (fW rfl _ _ (z<|G a) ⟨xk,xv,xd,xb⟩ _ _ rfl<|ao.put ⟨xk,xv,xd,xb⟩) rfl ?_;have F:Y r.F a w3:=((Y.aW (S:=r.F) l).trans av<|λx o=>.inl o).trans (Y.aW (S:=r.F) A)<|λx o=>.inl o;have D:=ja w3 (z<|G a) ⟨xk,xv,xd,xb⟩;have ax:=r.fi ad (Y.aW (S:=aB) A) cG;refine⟨rfl,r.fi ax D (λbf hx=>by subst hx;exact L _ w),F.trans D<|λbf hx=>.inr<|by omega⟩
 (have d:x=y ks:=by have:=o.le;omega);have e:=h.yw o (λa=>absurd a Q) bt;rw[e];(have e1:((x:Z)==(y ks:Z))=bW:=by simp;omega);subst d;have HL:=U j;clear h X o hD hF T t n j e Q;(go_in);(go_wp2_with(go_at_call 325;refine V.mono ?_;rintro bd k⟨rfl,c,b⟩;have n:=K k c;obtain⟨z0,z1,z2,z3⟩:=b.cells;have y0:=b.free (i:=0);have y1:=b.free (i:=1);have y2:=b.free (i:=2);have y3:=b.free (i:=3);have p:=U b;have l:=U c;clear b c));refine cI (fW rfl _ _ (z<|G a) zE _ _ rfl<|p.put zE) rfl ?_;have C:Below (z<|G a) a (wK k (z<|G a) zE):=l.trans ((ja k (z<|G a) zE).below l.size<|λbf hx=>by omega);exact⟨rfl,al _ C,Y.aW C⟩
def NR(a:0<=m)(b:m<4294967296):mi (le 4 m)=m:=by
 rw[Am 4 m a];show m%4294967296=m;omega
def rX(b:M)(n:Z)(a:eI)(w:I)(k:Rd w b (le 4 n++a) bF)(c:kA a)(l:y a<=140737488350000)(g:0<=n)(h:n<4294967296):cy bG 210 #[aA b] w λj f=>j=aO (dq n)/\Rd f b a bF/\w.grownBy f (H b):=by
 have d:=mD (le 4 n) a;rw[bY]at d;have e:=JS b bF w k ((kA.le 4 n).append c) (by simp only[af,bY];omega);have i:num (le 4 n++a) bF 4=n:=by unfold num;rw[d];exact NR g h
 rw[d,i]at e;exact e
def Ak(b:M)(n:Z)(a:eI)(w:I)(k:Rd w b (le 8 n++a) bF)(c:kA a)(l:y a<=140737488350000)(g:0<=n)(h:n<18446744073709551616):cy bG 209 #[aA b] w λj f=>j=aO (aH n)/\Rd f b a bF/\w.grownBy f (H b):=by
 have d:=mD (le 8 n) a;rw[bY]at d;have e:=Lk k ((kA.le 8 n).append c) (by simp only[af,bY];omega);have i:num (le 8 n++a) bF 8=n:=by unfold num;rw[d];exact Co g h
 rw[d,i]at e;exact e
def Wq(a:M)(n:Z)(w:I)(k:Rd w a (n::o) bF)(b:kA o)(l:y o<=140737488350000)(g:0<=n)(h:n<256):cy bG 215 #[aA a] w λj f=>j=aO (tC n)/\Rd f a o bF/\w.grownBy f (H a):=by
 have c:=mD [n] o;simp only[ay,cL,cQ,cq,cC]at c;have e:=Fe k (by intro x d;rcases az.1 d with rfl|d;exact⟨g,h⟩;exact b x d) (by simp only[ay];omega);have i:num (n::o) bF 1=n:=by unfold num;rw[c];simp[mi]
 rw[c,i]at e;exact e
def OU(b:M)(s:ab)(w:I)(i:Rd w b (eh s++o) bF)(c:kA o)(j:y o<=140737488350000)(k:s.size<=255):cy bG 248 #[aA b] w λh e=>h=aO (ai s)/\Rd e b o bF/\w.grownBy e (H b):=by
 have g:=(vH s o).1;have f:kA (eh s++o):=by intro x a;rcases am.1 a with a|a;unfold eh at a;rcases az.1 a with rfl|a;omega;exact kA.text s x a;exact c x a
 have d:=Do i f (by simp only[af,eh,ay,gW];omega);rw[g]at d;simp only[vI]at d;exact d
