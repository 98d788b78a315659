import Derived.Test.YtophdnlmpfmeiaaGreatDoorC12
namespace Go.Proofs.YtophdnlmpfmeiaaGreatDoor
open ChangeShapes WideShapes RowKit Proofs.Tryz
set_option maxHeartbeats 16000000
set_option linter.all false
set_option maxRecDepth 100000
section
open Go.Shelf
attribute [local go_sem] Oper.semAt_some
def Ew(f:Nat)(a:Array M)(w:J):Calls prog 90 #[.func (.func f) #[] a] w λe b=>e=.returned (.func (.func 137) #[] #[.pointer (some ⟨w.heap.size,0,none⟩)])/\b=w.alloc (.cells #[.func (.func f) #[] a] 187):=by
 go_enter func90,ntmps90
 go_wp2;go_ret;exact⟨rfl,rfl⟩
def mY:(prog.info? 177).map (λi=>(i.zero,i.size,i.bytes))=some (some tQ,4,48):=by kernel_rfl
structure tC(V:gz)(S:Nat->Prop)(w0:J)(N:Nat)(pre:List E)(B:Nat->Prop)(W:J):Prop where
 Dm:dY W w0.heap.size (.slice none 0 0) 102
 err:dY W (w0.heap.size+1) .nilIface 50
 row:∃v,dY W (w0.heap.size+2) v 102/\W.ownsRow (w0.heap.size+3) 177 4 v pre.length (aF pre)/\(∀k,B k↔k=w0.heap.size\/k=w0.heap.size+1\/k=w0.heap.size+2\/v.ownBlock=some k)
 le:pre.length<=N
 ay:I (λk=>S k\/V.F k) w0 W
def tC.lt{V:gz}{S:Nat->Prop}{b:J}{N:Nat}{a:List E}{B:Nat->Prop}{W:J}(h:tC V S b N a B W):∀k,B k->b.heap.size<=k/\k<W.heap.size:=by
 intro k o;obtain⟨v,d,e,g⟩:=h.row;rcases(g k).1 o with c|c|c|c
 ·subst c;exact⟨ai _,ak h.Dm⟩
 ·subst c;exact⟨by omega,ak h.err⟩
 ·subst c;exact⟨by omega,ak d⟩
 ·have:=e.lt k c;exact⟨by omega,this.2⟩
def tC.stays{V:gz}{S:Nat->Prop}{g:J}{N:Nat}{d:List E}{B:Nat->Prop}{W j:J}{T:Nat->Prop}(h:tC V S g N d B W)(c:I T W j)(b:∀k,T k->¬B k/\((S k\/V.F k)\/g.heap.size<=k)):tC V S g N d B j:=by
 obtain⟨v,o,p,a⟩:=h.row;exact⟨(c.block _ (ak h.Dm) (λe=>(b _ e).1 ((a _).2 (.inl rfl)))).trans h.Dm,(c.block _ (ak h.err) (λe=>(b _ e).1 ((a _).2 (.inr (.inl rfl))))).trans h.err,⟨v,(c.block _ (ak o) (λe=>(b _ e).1 ((a _).2 (.inr (.inr (.inl rfl)))))).trans o,c.own p (λk f e=>(b k e).1 ((a k).2 (.inr (.inr (.inr f))))),a⟩,h.le,h.ay.trans c (λk f=>(b k f).2)⟩
def ul{d:Func}{q r:Tmp}{e:TypeId}(t:d.results=#[.cell q e,.cell r 50]){s:TypeId}(k:prog.underlying e=some (.slice s))(a:Array M)(w:J)(f g:Nat)(u v:M)(o:a.getD q undef=.pointer (some ⟨f,0,none⟩))(p:a.getD r undef=.pointer (some ⟨g,0,none⟩))(h:w.cell? ⟨f,0,none⟩=some u)(j:w.cell? ⟨g,0,none⟩=some v):(results d a).run prog w=.ok (.tuple #[u,v]) w:=by
 have b:a[q]?.getD undef=.pointer (some ⟨f,0,none⟩):=by simpa using o
 have c:a[r]?.getD undef=.pointer (some ⟨g,0,none⟩):=by simpa using p
 simp[results,t,b,c,asAddr,loadVar,isAgg,underlying,k,underlying50,h,j,Result.andThen]
def fg{K:Fence}{n:Nat}{P:Program}(w:J){k:Array Oper}{d:List Oper}{E:Oper}{F:Act}{Q:Exit->Act->J->Prop}(u:E.guard=none)(al x:Operand)(G:TypeId)(y:E.op=.call {callee:=.builtin .append,args:=#[al,x],argTypes:=#[G,G]})(base:Nat)(C:TypeId)(i:TypeInfo)(ac:M)(a bytes:Nat)(W:P.underlying G=some (.slice C))(O:P.info? C=some i)(hz:i.zero=some ac)(g:i.size=a)(s:i.bytes=bytes)(A:ac.cells.size=a)(z:0<a)(v:M)(D:Nat)(B:List M)(U:F.eval al=v)(h:w.ownsRow base C a v D B)(q:Addr)(m L:Nat)(b:List M)(X:F.eval x=.slice (some q) m L)(R:b.length=m*a)(f:∀ad H,b[ad]?=some H->w.cell? (q.add ad)=some H)(N:∀H∈b,H.oneCell'=true)(hn:D+m<=140737488355328)(c:(D+m)*bytes<=140737488355328)(e:base<=w.heap.size)(an:∀o p,p.ownsRow base C a o (D+m) (B++b)->du w p v o->wpListIn K n P k Q d (F.put E.dst o) p):wpListIn K n P k Q (E::d) F w:=by
 refine wpListIn_plain u λao r=>?_;obtain⟨o,p,j,r1,r2,r3,r4⟩:=lP (P:=P) w base G E.type C i ac a bytes W O hz g s A z v D B h q m L b R f N (by unfold maxLen;omega) c e;unfold Oper.wpIn;refine⟨?_,?_⟩
 ·simp[Oper.about,y,resolve,Target.leads,lS]
 ·rw[Oper.semAt_plain K _ _ (by rw[y];intro L t;cases t)];simp[execOp,y,resolve,invoke,builtin,U,X,j,Result.andThen];exact r _ _ (an o p r1 (du.of r2 r4))
def rQ(w:J)(x:E)(t:TypeId):∀j u,(aF [x])[j]?=some u->(w.alloc (.cells #[.string x.key,.string x.val,.bool x.del,.int .u64 x.bV] t)).cell? ((⟨w.heap.size,0,none⟩:Addr).add j)=some u:=by
 intro j u a;rw[ct];have h:(w.alloc (.cells #[.string x.key,.string x.val,.bool x.del,.int .u64 x.bV] t)).heap[w.heap.size]?=some (.cells #[.string x.key,.string x.val,.bool x.del,.int .u64 x.bV] t (0,0)):=az _ rfl;rw[aj h,cw];simpa[aF,E.cells]using a
def yT(x:E):∀u∈aF [x],u.oneCell'=true:=by
 intro u a;simp[aF,E.cells]at a;rcases a with rfl|rfl|rfl|rfl<;>rfl
def tC.more{V:gz}{S:Nat->Prop}{a:J}{N:Nat}{b:List E}{B:Nat->Prop}{W d:J}{v e:M}{x:E}{H:Obj}(z:tC V S a N b B W)(u:dY W (a.heap.size+2) v 102)(h:∀k,B k↔k=a.heap.size\/k=a.heap.size+1\/k=a.heap.size+2\/v.ownBlock=some k)(G:W.ownsRow (a.heap.size+3) 177 4 v b.length (aF b))(K:b.length+1<=N)(C:du (W.alloc H) d v e)(j:d.ownsRow (a.heap.size+3) 177 4 e (b.length+1) (aF b++aF [x])):∃A,tC V S a N (b++[x]) A (d.setCell ⟨a.heap.size+2,0,none⟩ e)/\I B W (d.setCell ⟨a.heap.size+2,0,none⟩ e)/\(∀k,A k->B k\/W.heap.size<=k):=by
 have y:∀k,v.ownBlock=some k->a.heap.size+3<=k/\k<W.heap.size:=λk c=>G.lt k c;have p:∀k,e.ownBlock=some k->a.heap.size+3<=k:=λk c=>(j.lt k c).1;have L:=ak u;have q:I (λk=>v.ownBlock=some k) W d:=((I.refl (λk=>v.ownBlock=some k) W).alloc H).trans (I.bz (S:=λk=>v.ownBlock=some k) C.grown (λk c=>.inl c)) (λk c=>.inl c);have f:∀k,k<a.heap.size+3->¬v.ownBlock=some k:=λk c g=>by have:=(y k g).1;omega
 have r:dY d a.heap.size (.slice none 0 0) 102:=(q.block _ (ak z.Dm) (f _ (by omega))).trans z.Dm;have s:dY d (a.heap.size+1) .nilIface 50:=(q.block _ (ak z.err) (f _ (by omega))).trans z.err;have t:dY d (a.heap.size+2) v 102:=(q.block _ (ak u) (f _ (by omega))).trans u;have o:I B W (d.setCell ⟨a.heap.size+2,0,none⟩ e):=(q.mono (T:=B) (λk c=>.inl ((h k).2 (.inr (.inr (.inr c)))))).setCell _ _ _ (.inl ((h _).2 (.inr (.inr (.inl rfl)))));refine⟨λk=>k=a.heap.size\/k=a.heap.size+1\/k=a.heap.size+2\/e.ownBlock=some k,⟨r.other _ (by omega),s.other _ (by omega),⟨e,t.set _,?_,λk=>nZ⟩,by simp;omega,?_⟩,o,?_⟩
 ·have D:(b++[x]).length=b.length+1:=by simp
  rw[D,eK];exact j.kept (co d _ _ _) (by right;intro g;have:=p _ g;omega)
 ·exact z.ay.trans o (λk c=>.inr (z.lt k c).1)
 ·rintro k(g|g|g|g)
  ·exact .inl ((h k).2 (.inl g))
  ·exact .inl ((h k).2 (.inr (.inl g)))
  ·exact .inl ((h k).2 (.inr (.inr (.inl g))))
  ·rcases C.sr with D|⟨O,D,F⟩
   ·exact .inl ((h k).2 (.inr (.inr (.inr (D.symm.trans g)))))
   ·rw[D]at g;cases g;simp at F;exact .inr (by omega)
def xA(V:gz)(n0:Nat)(bq:M)(l:List E)(S:Nat->Prop)(w:J)(hg:gy V n0 bq l S w)(hD:V.D w)(hl:l.length<=1000000000):Calls prog 198 #[bq] w λcn w'=>∃v',cn=.returned (.tuple #[v',.nilIface])/\w'.ownsRow w.heap.size 177 4 v' l.length (aF l)/\V.D w'/\I (λk=>S k\/V.F k) w w':=by
 obtain⟨br,U,rfl,he,A⟩:=hg;have HE:=Z he;have HR:=Z A;have HD:=Z hD;have bi:=Ew br U;obtain⟨i0,bk,bo,bp,R⟩:=bK mY;clear he A hD;refine(dM (n:=3)).1 ?_;refine callsIn_of_wp_marks func198 rfl trivial ?_ rfl;simp only[ntmps198,gC,aE,cH,Nat.reduceAdd,Nat.reduceSub,fq,fp,gD,fI,cL,dI];gi_wp2_with(refine⟨trivial,?_⟩;gi_at_call 90;refine(dM.2 (bi _)).mono ?_;rintro cn w1⟨rfl,rfl⟩)
 have A:=Y HR;obtain⟨B,o⟩:∃B,((((w.alloc (.cells #[.slice none 0 0] 102)).alloc (.cells #[.nilIface] 50)).alloc (.cells #[.slice none 0 0] 102)).alloc (.cells #[.func (.func br) #[] U] 187))=B:=⟨_,rfl⟩;have ck:B.heap.size=w.heap.size+4:=by rw[<-o];simp
 have P:I (λ_=>False) w B:=by rw[<-o];exact((((I.refl (λ_=>False) w).alloc _).alloc _).alloc _).alloc _
 have bg:dY B (w.heap.size+3) (.func (.func br) #[] U) 187:=by rw[<-o];exact az _ (by simp)
 have bc:tC V S w l.length [] (λk=>k=w.heap.size\/k=w.heap.size+1\/k=w.heap.size+2) B:=by
  refine⟨?_,?_,⟨.slice none 0 0,?_,bC _ _ _ _,λk=>by simp[Value.ownBlock]⟩,aU _,P.mono (λ_ f=>f.elim)⟩
  ·rw[<-o];exact dY.alloc (dY.alloc (dY.alloc (az _ rfl) _) _) _
  ·rw[<-o];exact dY.alloc (dY.alloc (az _ (by simp)) _) _
  ·rw[<-o];exact dY.alloc (az _ (by simp)) _
 have bl:Bo V n0 br U l S B:=A.same (P.same A.own.size (λk b=>⟨(A.own.each k b).2,λf=>f⟩) (λ_ f=>f.elim));have bd:V.D B:=V.dF (Y HD) P (λ_ f=>f.elim);have cj:=A.own.size;have O:∀k,S k->k<w.heap.size:=λk b=>(A.own.each k b).2;rw[o];refine ye (m:=3) (V:=V) (n0:=n0) (gf:=137) (lb:=#[.pointer (some ⟨w.heap.size+3,0,none⟩)]) (l:=l) (S:=λk=>S k\/k=w.heap.size+3) ?geval (enters_of func137 (by kernel_rfl) rfl) rfl (zC V n0 2 (w.heap.size+3) br U l S B bg (Y HE) bl (by omega) (λf=>by have:=O _ f;omega)) bd (by omega) ?slt (λg ad W=>tC V S w l.length g ad W) (λ_ _ _ _=>False) (λk=>k=w.heap.size\/k=w.heap.size+1\/k=w.heap.size+2) bc ?sb ?lt ?st (λ_ _ _ _ _ _ bb=>bb.elim) ?body ?done ?stop;case geval=>rfl
 case slt=>
  rintro k(f|f)
  ·have:=O k f;omega
  ·omega
 case sb=>
  rintro k(f|f)d
  ·have:=O k f;omega
  ·omega
 case lt=>
  intro g ad W bb k b;have:=bb.lt k b;exact⟨by omega,this.2⟩
 case st=>
  intro g ad W d T bb c a;refine bb.stays c (λk b=>⟨(a k b).1,?_⟩);rcases(a k b).2 with(f|f)|f|f
  ·exact .inl (.inl f)
  ·exact .inr (by omega)
  ·exact .inl (.inr f)
  ·exact .inr (by omega)
 case stop=>
  intro al f g ad W _ bb;exact bb.elim
 case body=>
  intro lr g x ad W ch X bv G q u;have ac:g.length+1<=l.length:=by have:=G.length_le;simpa using this
  have HC:=Z q;have H:=Z u;clear q u G;obtain⟨d,e,c,a⟩:=x;unfold E.value;simp only;gi_wp2;refine⟨(I.refl _ _).alloc _,λL j=>?_⟩;have C:tC V S w l.length g ad L:=(((Y HC).stays ((I.refl (λ_=>False) W).alloc (.cells #[.string d,.string e,.bool c,.int .u64 a] 177)) (λ_ f=>f.elim)).stays j (λk b=>by subst b;exact⟨X,.inr (by omega)⟩));have N:fX L W.heap.size ⟨d,e,c,a⟩:=fX.ay (az _ rfl) j (by omega);obtain⟨bq,F,h,y⟩:=C.row;have bh:L.cell? ⟨w.heap.size+1+1,0,none⟩=some bq:=F.cell;have ce:L.frozen? ⟨w.heap.size+1+1,0,none⟩=false:=F.free;obtain⟨t,s,Q⟩:=aC h;obtain⟨ca,cb,cc,cd⟩:=N.cells;have bx:=ak N;have bT:=ak F;have bf:w.heap.size+3<=L.heap.size:=by have:=C.ay.size;have:=j.size;simp at this;omega
  have an:=Z C;have HV:=Z F;have r:=Z h;have K:=Z y;have ax:=Z j;clear C N F h y j;subst Q;gi_wp2_with(first
   |(gi_at_builtin;refine fg _ rfl (.tmp 14) (.tmp 16) 102 rfl (w.heap.size+3) 177 i0 tQ 4 48 underlying102 bk bo bp R rfl (by decide) (.slice t g.length s) g.length (aF g) rfl (aM (Y r) (.cells #[.string d,.string e,.bool c,.int .u64 a] 177)) ⟨L.heap.size,0,none⟩ 1 1 (aF [⟨d,e,c,a⟩]) rfl rfl (rQ _ ⟨d,e,c,a⟩ _) (yT _) (by omega) (by omega) (by simp;omega) ?_;intro v2 w3 p z;obtain⟨cm,cl,rfl⟩:=aC p;have v:dY w3 (w.heap.size+1+1) (.slice t g.length s) 102:=(z.grown.block _ (ak ((Y HV).alloc (.cells #[.string d,.string e,.bool c,.int .u64 a] 177))) (λf=>by have:=((Y r).lt _ f.symm).1;omega)).trans ((Y HV).alloc _);have bs:=v.cell;have bt:=v.free;clear v;have ao:=Z p;have ba:=Z z;clear p z))
  obtain⟨B',q1,q2,q3⟩:=(Y an).more (x:=⟨d,e,c,a⟩) (Y HV) (Y K) (Y r) ac (Y ba) (Y ao);have j:=Y ax;have R:=j.size;simp at R;have bn:I (λk=>ad k\/k=lr) W L:=((I.refl (λk=>ad k\/k=lr) W).alloc (.cells #[.string d,.string e,.bool c,.int .u64 a] 177)).trans j (λk b=>.inl (.inr b));have D:∀k,w.heap.size<=k->¬V.F k:=λk b hf=>by have:=A.own.aH k hf;omega
  refine⟨?_,B',q1,bn.trans q2 (λk b=>.inl (.inl b)),q2.block lr (by omega) X,λk b=>?_⟩
  ·refine V.dF (V.dF (V.dF (Y H) ((I.refl (λ_=>False) W).alloc _) (λ_ f=>f.elim)) j (λk b=>by subst b;exact D _ (by omega))) q2 (λk b=>D k ((Y HC).lt k b).1)
  ·rcases q3 k b with f|f
   ·exact .inl f
   ·exact .inr (by omega)
 case done=>
  intro al ad W ac q d u hK;obtain⟨bq,F,h,y⟩:=q.row;have bh:W.cell? ⟨w.heap.size+1+1,0,none⟩=some bq:=F.cell;have an:=q.Dm.cell;have ax:=q.Dm.free;have ao:=q.err.cell;have ba:=q.err.free;obtain⟨t,s,Q⟩:=aC h;have HC:=Z q;have HV:=Z F;have r:=Z h;have K:=Z y;have H:=Z u;have HK:=Z hK;clear q F h y u hK;subst Q;gi_wp2;have G:=Y K;have q:=Y HC;have n1:al≠w.heap.size:=λf=>d ((G _).2 (.inl f));have n2:al≠w.heap.size+1:=λf=>d ((G _).2 (.inr (.inl f)));have n3:¬(Value.slice t l.length s).ownBlock=some al:=λf=>d ((G _).2 (.inr (.inr (.inr f))));have L:((W.setCell ⟨w.heap.size,0,none⟩ (.slice t l.length s)).setCell ⟨w.heap.size+1,0,none⟩ .nilIface).heap[al]?=some (.deferred (some [])):=by
   rw[eP _ n2,eP _ n1];exact Y HK
  have a:dY ((W.setCell ⟨w.heap.size,0,none⟩ (.slice t l.length s)).setCell ⟨w.heap.size+1,0,none⟩ .nilIface) w.heap.size (.slice t l.length s) 102:=(q.Dm.set _).other _ (by omega);have c:dY ((W.setCell ⟨w.heap.size,0,none⟩ (.slice t l.length s)).setCell ⟨w.heap.size+1,0,none⟩ .nilIface) (w.heap.size+1) .nilIface 50:=(q.err.other _ (by omega)).set _;have j:=dp ((W.setCell ⟨w.heap.size,0,none⟩ (.slice t l.length s)).setCell ⟨w.heap.size+1,0,none⟩ .nilIface) al (.deferred none);have N:I (λk=>k=w.heap.size\/k=w.heap.size+1) W ((W.setCell ⟨w.heap.size,0,none⟩ (.slice t l.length s)).setCell ⟨w.heap.size+1,0,none⟩ .nilIface):=((I.refl (λk=>k=w.heap.size\/k=w.heap.size+1) W).setCell _ 0 _ (.inl (.inl rfl))).setCell _ 0 _ (.inl (.inr rfl));have p:=(N.mono (T:=λk=>k=w.heap.size\/k=w.heap.size+1\/k=al) (λk b=>.inl (b.elim .inl (λf=>.inr (.inl f))))).trans j (λk b=>.inl (.inr (.inr b)));have D:∀k,w.heap.size<=k->¬V.F k:=λk b hf=>by have:=A.own.aH k hf;omega
  have v:∀k,(k=w.heap.size\/k=w.heap.size+1\/k=al)->w.heap.size<=k:=by rintro k(f|f|f)<;>omega
  refine⟨by simp,.inl ⟨_,_,rfl,run_takeDeferred L,?_⟩⟩;refine⟨_,ul rfl underlying102 _ _ w.heap.size (w.heap.size+1) (.slice t l.length s) .nilIface rfl rfl ?_ ?_,?_⟩
  ·exact(dY.cell ((j.block _ (ak a) (λf=>n1 f.symm)).trans a))
  ·exact(dY.cell ((j.block _ (ak c) (λf=>n2 f.symm)).trans c))
  ·refine⟨_,rfl,?_,V.dF (Y H) p (λk b=>D k (v k b)),q.ay.trans p (λk b=>.inr (v k b))⟩;have h:=Y r;have hx:=p.own h (λk b f=>by
    have:=(h.lt k b).1;rcases f with f|f|f
    ·omega
    ·omega
    ·exact n3 (by rw[<-f];exact b))
   obtain⟨X,⟨C,h0⟩|⟨bf,cp,z,C,hb,e⟩⟩:=hx
   ·exact⟨X,.inl ⟨C,h0⟩⟩
   ·exact⟨X,.inr ⟨bf,cp,z,C,by omega,e⟩⟩
end
def pm:Option E->M
 |some x=>.tuple #[x.value,.bool true,.nilIface]
 |none=>.tuple #[tQ,.bool false,.nilIface]
def nT.below{w g:J}{v:M}{l:List E}{B:Nat}(x:nT w v l)(q:Below B w g)(s:∀k,v.ownBlock=some k->k<B):nT g v l:=by
 obtain⟨e,⟨rfl,o⟩|⟨h,a,b,rfl,d,r⟩⟩:=x
 ·exact⟨e,.inl ⟨rfl,o⟩⟩
 ·exact⟨e,.inr ⟨h,a,b,rfl,d,λj u o=>(q.cell (p:=⟨h,a+j,none⟩) (s h rfl)).trans (r j u o)⟩⟩
def vi(K:M)(l:List E)(o:aa)(w:J)(D:nT w K l)(r:fG l)(T:l.length<=1000000000000)(n:∀H,K.ownBlock=some H->H<w.heap.size):Calls prog 281 #[K,.string o] w λQ U=>Q=.returned (pm (fD l o))/\Below w.heap.size w U:=by
 have f:Below w.heap.size w (w.alloc (.cells #[.string ⟨#[]⟩,.string ⟨#[]⟩,.bool false,.int .u64 0] 177)):=(Below.refl _ w).alloc (ai _) _;have v:=vX K l o (w.alloc (.cells #[.string ⟨#[]⟩,.string ⟨#[]⟩,.bool false,.int .u64 0] 177)) (D.below f n) r T (λH a=>by have:=n H a;simp;omega);have G:∀(L:Bool)(w:J),(Op.unary .not (.bool L)).run prog w=.ok (.bool (!L)) w:=λ_ _=>rfl;have O:=Z n;have N:=Z D;by_cases hex:∃D:pos l o<l.length,l[pos l o].key=o
 ·rw[oF hex]at v;obtain⟨q,j⟩:=hex;have b:fD l o=some l[pos l o]:=(fO r).2 ⟨au q,j⟩;rw[b];obtain⟨R,⟨rfl,h0⟩|⟨u,d,P,rfl,y,F⟩⟩:=D
  ·omega
  have x:=dP l (pos l o) q;have s:=Z F;have g:=n u rfl;clear F n R y b r j;generalize pos l o=p at*;generalize l[p]=L at*;obtain⟨B,C,A,z⟩:=L;simp only at x;have t:=Z x;clear x;go_enter func281,ntmps281
  go_wp2_with(go_at_call 109;refine v.mono ?_;rintro Q h⟨rfl,e⟩;have c:Below w.heap.size w h:=f.trans (e.mono f.size);have q0:h.cell? ⟨u,d+p*4,none⟩=some (.string B):=(c.cell (p:=⟨u,d+p*4,none⟩) g).trans ((Y s) _ _ (Y t).1);have q1:h.cell? ⟨u,d+p*4+1,none⟩=some (.string C):=(c.cell (p:=⟨u,d+p*4+1,none⟩) g).trans (by rw[aP];exact(Y s) _ _ (Y t).2.1);have q2:h.cell? ⟨u,d+p*4+2,none⟩=some (.bool A):=(c.cell (p:=⟨u,d+p*4+2,none⟩) g).trans (by rw[aP];exact(Y s) _ _ (Y t).2.2.1);have q3:h.cell? ⟨u,d+p*4+3,none⟩=some (.int .u64 z):=(c.cell (p:=⟨u,d+p*4+3,none⟩) g).trans (by rw[aP];exact(Y s) _ _ (Y t).2.2.2);have a:fX h w.heap.size ⟨⟨#[]⟩,⟨#[]⟩,false,0⟩:=(e.block _ (by simp)).trans (az _ rfl);obtain⟨z0,z1,z2,z3⟩:=a.cells;have V:=a.free (i:=0);have W:=a.free (i:=1);have X:=a.free (i:=2);have y3:=a.free (i:=3);have m:=Z a;have k:=Z c;clear a c e)
  refine bO (ez rfl _ _ w.heap.size ⟨B,C,A,z⟩ _ _ rfl ((Y m).put ⟨B,C,A,z⟩)) rfl ?_;exact⟨rfl,((((Y k).setCell (p:=⟨w.heap.size,0,none⟩) (ai _) _).setCell (p:=⟨w.heap.size,1,none⟩) (ai _) _).setCell (p:=⟨w.heap.size,2,none⟩) (ai _) _).setCell (p:=⟨w.heap.size,3,none⟩) (ai _) _⟩
 ·rw[nL hex]at v;have b:fD l o=none:=gd.2 (r.MK o (λa c=>hex ⟨a,c⟩));rw[b];have d:=bA D;clear D r b hex n O N;obtain⟨j,g,rfl⟩:=d;generalize pos l o=p at*;go_enter func281,ntmps281
  go_wp2_with(go_at_call 109;refine v.mono ?_;rintro Q h⟨rfl,e⟩;have c:Below w.heap.size w h:=f.trans (e.mono f.size);have a:fX h w.heap.size ⟨⟨#[]⟩,⟨#[]⟩,false,0⟩:=(e.block _ (by simp)).trans (az _ rfl);obtain⟨z0,z1,z2,z3⟩:=a.cells;have V:=a.free (i:=0);have W:=a.free (i:=1);have X:=a.free (i:=2);have y3:=a.free (i:=3);have m:=Z a;have k:=Z c;clear a c e)
  refine bO (ez rfl _ _ w.heap.size ⟨⟨#[]⟩,⟨#[]⟩,false,0⟩ _ _ rfl ((Y m).put ⟨⟨#[]⟩,⟨#[]⟩,false,0⟩)) rfl ?_;exact⟨rfl,((((Y k).setCell (p:=⟨w.heap.size,0,none⟩) (ai _) _).setCell (p:=⟨w.heap.size,1,none⟩) (ai _) _).setCell (p:=⟨w.heap.size,2,none⟩) (ai _) _).setCell (p:=⟨w.heap.size,3,none⟩) (ai _) _⟩
def below_drewN{B:Nat}{w wr:J}(h:Below B w wr)(q:Nat):Below B w (wr.drewN q):=⟨h.os,h.tape,h.output,h.size,h.block⟩
def vu(t:TypeId)(a b:aa):binOp .geq t (.string a) (.string b)=pure (.bool !(Op.bytesLess a.toList b.toList)):=by simp[binOp,Op.stringOp]
def Oz(D:M)(l:List E)(w:J)(K:nT w D l)(q:fG l)(N:l.length<=1000000000000)(r:∀G,D.ownBlock=some G->G<w.heap.size):Calls prog 283 #[D] w λH F=>H=.returned (.bool true)/\Below w.heap.size w F:=by
 obtain⟨v,⟨rfl,L⟩|⟨j,b,u,rfl,B,k⟩⟩:=K
 ·go_enter func283,ntmps283
  go_wp2;go_loop [6] (λs=>s=.int .i64 0) (λ_=>0)
  case atStart=>rfl
  case round=>
   obtain rfl:=hrel;go_wp2;go_ret;exact⟨rfl,Below.refl _ _⟩
 ·have i:=Z k;have t:=Z q;have z:=vu;have e:=r j rfl;clear k q v r;go_enter func283,ntmps283
  go_wp2;go_loopw [6] (λs wr=>∃n:Nat,n<=l.length/\s=.int .i64 n/\Below w.heap.size w wr) (λs _=>l.length-(intOf s).toNat)
  case atStart=>exact⟨0,aU _,rfl,Below.refl _ _⟩
  case round=>
   obtain⟨n,C,rfl,a⟩:=hrel;have h:=Z a;by_cases f:n<l.length
   ·rcases de n with g|g
    ·subst g;clear a;go_wp2;go_quiet(fail)
     go_wp2;go_roundw;case rel=>exact⟨1,by omega,rfl,below_drewN (Y h) _⟩
     case measure=>simp[intOf];omega
    ·obtain⟨p,rfl⟩:∃p,n=p+1:=⟨n-1,by omega⟩;have m:p<l.length:=by omega
     have c:=dP l p m;have d:=dP l (p+1) f;have x:wr.cell? ⟨j,b+p*4,none⟩=some (.string l[p].key):=(a.cell (p:=⟨j,b+p*4,none⟩) e).trans ((Y i) _ _ c.1);have y:wr.cell? ⟨j,b+(p+1)*4,none⟩=some (.string l[p+1].key):=(a.cell (p:=⟨j,b+(p+1)*4,none⟩) e).trans ((Y i) _ _ d.1);have A:Op.bytesLess l[p].key.toList l[p+1].key.toList=true:=bG.1 (Y t) p (p+1) m f (by omega);clear c d a;generalize l[p].key=O at*;generalize l[p+1].key=P at*;have o:(0:Int)<(p:Int)+1:=by omega
     go_wp2;go_quiet(fail)
     go_wp2;go_roundw;case rel=>exact⟨p+1+1,by omega,by go_num,below_drewN (Y h) _⟩
     case measure=>simp[intOf];omega
   ·clear a;go_wp2;go_ret;exact⟨rfl,Y h⟩
def Rd.laid{w h:J}{e:Nat}{a:List Int}{short:Bool}(k:Rd w e a short)(f:w.grownBy h none):Rd h e a short:=by
 obtain⟨v,g,j,d⟩:=k;refine⟨v,(f.block e (ak g) (by simp)).trans g,j.grown f ?_,d⟩;cases v.ownBlock with
 |none=>exact .inr rfl
 |some m=>exact .inl (by simp)
def Rd.lt{w:J}{b:Nat}{a:List Int}{short:Bool}(h:Rd w b a short):b<w.heap.size:=by
 obtain⟨v,d,_⟩:=h;exact ak d
def Rd.put{w:J}{s o:Nat}{h:List Int}{short:Bool}{ad:E}(ac:Rd w s h short)(O:fX w o ad)(D:s≠o)(X:E):Rd (qK w o X) s h short:=by
 obtain⟨v,F,R,W⟩:=ac;have H:=gq w o X;refine⟨v,(H.block s (ak F) D).trans F,?_,W⟩;rcases R with⟨e,K⟩|⟨b,g,y,e,B,U⟩
 ·exact .inl ⟨e,K⟩
 ·refine .inr ⟨b,g,y,e,B,λj G=>?_⟩;have d:=U j G;have A:b≠o:=by
   rintro rfl;rw[aj O,aA G]at d;have:g+j=0\/g+j=1\/g+j=2\/g+j=3\/4<=g+j:=by omega
   rcases this with r|r|r|r|r
   ·rw[r]at d;simp at d
   ·rw[r]at d;simp at d
   ·rw[r]at d;simp at d
   ·rw[r]at d;simp at d
   ·rw[dy (by simpa using r)]at d;simp at d
  have C:b<w.heap.size:=cI w ⟨b,g+j,none⟩ d;have z:=H.block b C A;rw[bI (w:=w) (w':=qK w o X) (a:=⟨b,g+j,none⟩) z];exact d
def I.LP{w b:J}{a:Nat}(h:I (λk=>k=a) w b):w.grownBy b (some a):=⟨h.os,h.tape,h.output,h.size,λk c d=>h.block k c (λe=>d (by rw[e]))⟩
def fX.grown{w e:J}{f d:Nat}{x:E}(h:fX w f x)(g:w.grownBy e (some d))(b:d≠f):fX e f x:=(g.block f (ak h) (by simp;exactλk=>b k.symm)).trans h
def uQ{c:Func}{p u:Tmp}(j:c.results=#[.cell p 177,.tmp u])(a:Array M)(w:J)(g:Nat)(x:E)(t:TypeId)(d:Nat×Nat)(h:a.getD p undef=.pointer (some ⟨g,0,none⟩))(e:w.heap[g]?=some (.cells #[.string x.key,.string x.val,.bool x.del,.int .u64 x.bV] t d)):(results c a).run prog w=.ok (.tuple #[x.value,a.getD u undef]) w:=by
 have b:a[p]?.getD undef=.pointer (some ⟨g,0,none⟩):=by simpa using h
 have f:=jM (P:=prog) w g t 177 #[.string x.key,.string x.val,.bool x.del,.int .u64 x.bV] d _ e underlying177 rfl (by kernel_rfl);simp[results,j,b,asAddr,f,Result.andThen,E.value]
def As(h:Nat)(x:E)(more:List Int)(w:J)(bd:Rd w h (jO x++more) false)(B:iq (jO x++more))(hr:(jO x++more).length<=140737488351232)(hx:x.Good):Calls prog 187 #[.pointer (some ⟨h,0,none⟩)] w λT w'=>T=.returned (.tuple #[E.value {x with bV:=0},.bool true])/\Rd w' h more false/\w.grownBy w' (some h):=by
 obtain⟨a,b,t,bV⟩:=x;have X:=hx.LH;have ac:=hx.Ed;have hv:=hx.val;have hd:=hx.del;simp only at X ac hv hd;have e0:jO ⟨a,b,t,bV⟩++more=lw t::(cV a++(cV b++more)):=by simp[jO]
 rw[e0]at bd B hr;have A:iq (cV a++(cV b++more)):=λbg hy=>B bg (aJ _ hy);have F:iq (cV b++more):=λbg hy=>A bg (dV _ hy);have Q:(cV a++(cV b++more)).length<=140737488351232:=by simp only[aE]at hr;omega
 have ad:(cV b++more).length<=140737488351232:=by rw[ag]at Q;omega
 have m:=λW(N:Rd W h (lw t::(cV a++(cV b++more))) false)=>zK h _ false W N B hr;have y:=λW(N:Rd W h (cV a++(cV b++more)) false)=>yn h _ false W N A Q;have z:=λW(N:Rd W h (cV b++more) false)=>yn h _ false W N F ad;obtain⟨ka,kb⟩:=Ec t (cV a++(cV b++more));obtain⟨ta,_⟩:=rr a (cV b++more);obtain⟨tb,_⟩:=rr b more;simp only[ka,kb]at m;simp only[ta,ru]at y;simp only[tb,ru]at z;have al:=λW(N:Rd W h more false)=>Ay h more false W N;have O:=mX a;have P:=td b;have bc:∀(x:Bool)(w:J),(Op.unary .not (.bool x)).run prog w=.ok (.bool (!x)) w:=λ_ _=>rfl;have U:decide (1<=a.size/\a.size<=8)=true:=by simp[X,ac]
 have V:decide (b.size<=16)=true:=by simp[hv]
 rw[U]at O;rw[V]at P;have D:=λW=>O W (by omega);have G:=λW=>P W (by omega);have bf:=bd.lt;have HR:=Z (bd.laid (cD w (.cells #[.string ⟨#[]⟩,.string ⟨#[]⟩,.bool false,.int .u64 0] 177) none));clear bd B A F hr Q ad ka kb ta tb e0 hx O P U V;cases t with
 |true=>
  have ao:b=⟨#[]⟩:=hd rfl;subst ao;simp only[lw]at m;go_enter func187,ntmps187
  go_wp2_with(first
   |(go_at_call 186;refine(m _ (Y HR)).mono ?_;rintro T w1⟨rfl,u,f⟩;have K:=Z u;have q:=Z f;have ax:=f.size;clear u f m)
   |(go_at_call 215;refine(y _ (Y K)).mono ?_;rintro T w2⟨rfl,v,g⟩;have L:=Z v;have r:=Z g;have ba:=g.size;clear v g y)
   |(go_at_call 215;refine(z _ (Y L)).mono ?_;rintro T C⟨rfl,j,e⟩;have s:=Z j;have H:=Z e;have bb:=e.size;have d:fX C w.heap.size zE:=(((fX.grown (az _ rfl) (Y q) (by omega)).grown (Y r) (by omega)).grown e (by omega));obtain⟨z0,z1,z2,z3⟩:=d.cells;have y0:=d.free (i:=0);have y1:=d.free (i:=1);have y2:=d.free (i:=2);have y3:=d.free (i:=3);have an:=ak d;have p:=Z d;clear j e z d)
   |(go_at_call 180;refine(al _ ((Y s).laid (cD C _ none))).mono ?_;rintro T w4⟨rfl,rfl⟩)
   |(go_at_call 63;refine(D _).mono ?_;rintro T w5⟨rfl,rfl⟩)
   |(go_at_call 64;refine(G _).mono ?_;rintro T w6⟨rfl,rfl⟩))
  refine bO (uQ rfl _ _ w.heap.size ⟨a,⟨#[]⟩,true,0⟩ _ _ rfl (((Y p).put ⟨a,⟨#[]⟩,true,0⟩).alloc _)) rfl ?_;have j:=Y s;have f:=Y q;have g:=Y r;have e:=Y H;have R:=(j.put (Y p) (by omega) (⟨a,⟨#[]⟩,true,0⟩:E)).laid (cD _ (.cells #[.string (⟨a,⟨#[]⟩,true,0⟩:E).key,.string (⟨a,⟨#[]⟩,true,0⟩:E).val,.bool (⟨a,⟨#[]⟩,true,0⟩:E).del,.int .u64 (⟨a,⟨#[]⟩,true,0⟩:E).bV] 177) none);have ht:I (λk=>k=h) w ((qK C w.heap.size (⟨a,⟨#[]⟩,true,0⟩:E)).alloc (.cells #[.string (⟨a,⟨#[]⟩,true,0⟩:E).key,.string (⟨a,⟨#[]⟩,true,0⟩:E).val,.bool (⟨a,⟨#[]⟩,true,0⟩:E).del,.int .u64 (⟨a,⟨#[]⟩,true,0⟩:E).bV] 177)):=by
   refine(((((((I.refl (λk=>k=h) w).alloc _).trans (I.bz (S:=λk=>k=h) f (by rintro k⟨⟩;exact .inl rfl)) (λk o=>.inl o)).trans (I.bz (S:=λk=>k=h) g (by rintro k⟨⟩;exact .inl rfl)) (λk o=>.inl o)).trans (I.bz (S:=λk=>k=h) e (by rintro k⟨⟩;exact .inl rfl)) (λk o=>.inl o)).trans (gq C w.heap.size (⟨a,⟨#[]⟩,true,0⟩:E)) (λk o=>.inr (by omega))).alloc _)
  exact⟨rfl,R,ht.LP⟩
 |false=>
  simp only[lw]at m;go_enter func187,ntmps187
  go_wp2_with(first
   |(go_at_call 186;refine(m _ (Y HR)).mono ?_;rintro T w1⟨rfl,u,f⟩;have K:=Z u;have q:=Z f;have ax:=f.size;clear u f m)
   |(go_at_call 215;refine(y _ (Y K)).mono ?_;rintro T w2⟨rfl,v,g⟩;have L:=Z v;have r:=Z g;have ba:=g.size;clear v g y)
   |(go_at_call 215;refine(z _ (Y L)).mono ?_;rintro T C⟨rfl,j,e⟩;have s:=Z j;have H:=Z e;have bb:=e.size;have d:fX C w.heap.size zE:=(((fX.grown (az _ rfl) (Y q) (by omega)).grown (Y r) (by omega)).grown e (by omega));obtain⟨z0,z1,z2,z3⟩:=d.cells;have y0:=d.free (i:=0);have y1:=d.free (i:=1);have y2:=d.free (i:=2);have y3:=d.free (i:=3);have an:=ak d;have p:=Z d;clear j e z d)
   |(go_at_call 180;refine(al _ ((Y s).laid (cD C _ none))).mono ?_;rintro T w4⟨rfl,rfl⟩)
   |(go_at_call 63;refine(D _).mono ?_;rintro T w5⟨rfl,rfl⟩)
   |(go_at_call 64;refine(G _).mono ?_;rintro T w6⟨rfl,rfl⟩))
  refine bO (uQ rfl _ _ w.heap.size ⟨a,b,false,0⟩ _ _ rfl (((Y p).put ⟨a,b,false,0⟩).alloc _)) rfl ?_;have j:=Y s;have f:=Y q;have g:=Y r;have e:=Y H;have R:=(j.put (Y p) (by omega) (⟨a,b,false,0⟩:E)).laid (cD _ (.cells #[.string (⟨a,b,false,0⟩:E).key,.string (⟨a,b,false,0⟩:E).val,.bool (⟨a,b,false,0⟩:E).del,.int .u64 (⟨a,b,false,0⟩:E).bV] 177) none);have ht:I (λk=>k=h) w ((qK C w.heap.size (⟨a,b,false,0⟩:E)).alloc (.cells #[.string (⟨a,b,false,0⟩:E).key,.string (⟨a,b,false,0⟩:E).val,.bool (⟨a,b,false,0⟩:E).del,.int .u64 (⟨a,b,false,0⟩:E).bV] 177)):=by
   refine(((((((I.refl (λk=>k=h) w).alloc _).trans (I.bz (S:=λk=>k=h) f (by rintro k⟨⟩;exact .inl rfl)) (λk o=>.inl o)).trans (I.bz (S:=λk=>k=h) g (by rintro k⟨⟩;exact .inl rfl)) (λk o=>.inl o)).trans (I.bz (S:=λk=>k=h) e (by rintro k⟨⟩;exact .inl rfl)) (λk o=>.inl o)).trans (gq C w.heap.size (⟨a,b,false,0⟩:E)) (λk o=>.inr (by omega))).alloc _)
  exact⟨rfl,R,ht.LP⟩
def fS(a:List Int):List Int:=a++le 4 (jv a)
def qp(e:E):List Int:=le 8 e.bV++jO e
def eU(c:List E):List Int:=c.flatMap qp
def Jf(a:List Int):jb (le 4 (jv a))=jv a:=by
 rw[vn 4 _ (uw a)];exact Int.emod_eq_of_lt (uw a) (by have:=wv a;simpa using this)
def xp{n:Int}(a:0<=n)(b:n<18446744073709551616):jb (le 8 n)=n:=by
 rw[vn 8 _ a];exact Int.emod_eq_of_lt a (by simpa using b)
def sK(B d b:Nat)(a:List Int)(w:J)(G:Steps w)(ac:a.length+4<=b)(hr:a.length+4<=1000000000)(q:Bytes w (.slice (some ⟨B,d,none⟩) (a.length+4) b) (fS a)):Calls prog 176 #[.slice (some ⟨B,d,none⟩) (a.length+4:Nat) b] w λQ w'=>
 Q=.returned (.tuple #[.slice (some ⟨B,d,none⟩) a.length b,.bool true])/\Below w.heap.size w w':=by
 obtain⟨tail,e⟩:∃tail,tail=le 4 (jv a):=⟨_,rfl⟩
 have y:tail.length=4:=by rw[e,bw]
 have r:iq tail:=by rw[e];exact iq.le 4 _
 have O:jb tail=jv a:=by rw[e];exact Jf a
 unfold fS at q
 rw[<-e]at q
 clear e
 have ad:=G.lt
 have W:B<w.heap.size:=q.lt (by intro al;simp at al;rw[al.2]at y;simp at y) B rfl
 have l:Bytes w (.slice (some ⟨B,d,none⟩) (a++tail).length b) (a++tail):=by rw[ag,y];exact q
 have z:Bytes w (.slice (some ⟨B,d,none⟩) a.length b) a:=by
  have:=l.take (n:=a.length) (by simp);rwa[lX]at this
 have A:Bytes w (.slice (some ⟨B,d+a.length,none⟩) 4 (b-a.length)) tail:=by
  have:=l.uv (n:=a.length) (by simp);rwa[kg,ag,y,lz]at this
 have P:num tail false 4=jb tail:=by
  unfold num gP;rw[dd (by simp[y]),bP (by omega)]
 have H:=Z z
 have K:=Z A
 have T:=Z P
 have R:=Z r
 have N:=Z G
 clear q l z A P r G
 have hd:(num tail false 4 !=jv a)=false:=by rw[Y T,O];simp
 clear O
 go_enter func176,ntmps176
 go_wp2_with fail
 refine(iN _ tail w (Y K) (λk X=>by have:=vY X;simp at this;omega)).mono ?_
 rintro Q C⟨rfl,s,f⟩
 have x:C.heap.size=w.heap.size+1:=by rw[f];simp
 have h:Below w.heap.size w C:=by rw[f];exact(Below.refl _ _).alloc (ai _) _
 have p:Hid (Steps C):=by rw[f];exact(Y N).alloc _
 have o:Hid (Bytes C (.slice (some ⟨B,d,none⟩) a.length b) a):=by rw[f];exact(Y H).alloc _
 have U:=Z s
 have L:=Z h
 have V:=Z x
 clear s f x h N H K
 go_wp2_with fail
 go_region_with(first
  |(go_at_call 179;refine(uJ w.heap.size tail false _ ?_ (Y R) (by omega)).mono ?_;exact(Y U).of_heap rfl;rintro Q w2⟨rfl,t,g⟩;have F:=Z (Steps.grown (by exact Steps.of_heap (Y p) rfl) g (by simp;omega));have D:=Z (Bytes.grown (by exact Bytes.of_heap (Y o) rfl) g (.inl (by simp[Value.ownBlock];omega)));have E:=Z (Below.grown (by exact Below.of_heap (Y L) rfl) g (by simp[Y V]) (by simp));clear t g)
  |(go_at_call 173;refine(lB _ a _ ?_ ?_ (by omega)).mono ?_;(first|exact(Y F).of_heap rfl|exact(Y p).of_heap rfl);(first|exact(Y D).of_heap rfl|exact(Y o).of_heap rfl);rintro Q w3⟨rfl,rfl⟩))
 all_goals
  go_wp2;go_ret2
  exact⟨by rfl,by first|exact(Y E).of_heap rfl|exact Below.of_heap (Y L) rfl⟩
def JK(c:List E)(n:Nat)(h:n<c.length):eU (c.drop n)=le 8 c[n].bV++(jO c[n]++eU (c.drop (n+1))):=by
 unfold eU;rw[bm h,cF];simp[qp]
def vt{x:E}(h:x.Good):iq (jO x):=by
 unfold jO;have b:∀s:aa,s.size<=255->iq (cV s):=λs d y a=>by
  unfold cV at a;rcases aD.1 a with rfl|a
  ·omega
  ·exact iq.text s y a
 intro y a;rcases aD.1 a with rfl|a
 ·unfold lw;split<;>omega
 ·rcases aw.1 a with a|a
  ·exact b _ (by have:=h.Ed;omega) y a
  ·exact b _ (by have:=h.val;omega) y a
def Eh{c:List E}(h:∀x∈c,x.Good):iq (eU c):=by
 intro y a;unfold eU at a;obtain⟨x,b,a⟩:=iP.1 a;unfold qp at a;rcases aw.1 a with a|a
 ·exact iq.le 8 _ y a
 ·exact vt (h x b) y a
def pS{x:E}(h:x.Good):(qp x).length<=35:=by
 have a:=h.Ed;have b:=h.val;unfold qp jO cV;simp[bw,fa];omega
def xx{c:List E}(h:∀x∈c,x.Good):(eU c).length<=35*c.length:=by
 induction c with
 |nil=>simp[eU]
 |cons x r b=>
  have a:=pS (h x (by simp));have d:=b (λy a=>h y (by simp[a]));have e:eU (x::r)=qp x++eU r:=by simp[eU]
  rw[e,ag,aE];omega
def BC(F:M)(l:List E)(w:J)(H:nT w F l)(o:fG l)(L:l.length<=1000000000000):Calls prog 283 #[F] w λG C=>G=.returned (.bool true)/\∃q,C=w.drewN q:=by
 obtain⟨u,⟨rfl,K⟩|⟨D,g,t,rfl,A,j⟩⟩:=H
 ·go_enter func283,ntmps283
  go_wp2;go_loop [6] (λr=>r=.int .i64 0) (λ_=>0)
  case atStart=>rfl
  case round=>
   obtain rfl:=hrel;go_wp2;go_ret;exact⟨rfl,0,rfl⟩
 ·have i:=Z j;have s:=Z o;have y:=vu;clear j o u;go_enter func283,ntmps283
  go_wp2;go_loopw [6] (λr wr=>∃n q:Nat,n<=l.length/\r=.int .i64 n/\wr=w.drewN q) (λr _=>l.length-(intOf r).toNat)
  case atStart=>exact⟨0,0,aU _,rfl,rfl⟩
  case round=>
   obtain⟨n,q,B,rfl,a⟩:=hrel;have h:=Z a;by_cases e:n<l.length
   ·rcases de n with f|f
    ·subst f;clear a;go_wp2;go_quiet(fail)
     go_wp2;go_roundw;case rel=>exact⟨1,q+nq,by omega,rfl,by rw[Y h,World.drewN_drewN]⟩
     case measure=>simp[intOf];omega
    ·obtain⟨p,rfl⟩:∃p,n=p+1:=⟨n-1,by omega⟩;have k:p<l.length:=by omega
     have b:=dP l p k;have d:=dP l (p+1) e;have v:wr.cell? ⟨D,g+p*4,none⟩=some (.string l[p].key):=by rw[a];exact(Y i) _ _ b.1
     have x:wr.cell? ⟨D,g+(p+1)*4,none⟩=some (.string l[p+1].key):=by rw[a];exact(Y i) _ _ d.1
     have z:Op.bytesLess l[p].key.toList l[p+1].key.toList=true:=bG.1 (Y s) p (p+1) k e (by omega);clear b d a;generalize l[p].key=N at*;generalize l[p+1].key=O at*;have m:(0:Int)<(p:Int)+1:=by omega
     go_wp2;go_quiet(fail)
     go_wp2;go_roundw;case rel=>exact⟨p+1+1,q+nq,by omega,by go_num,by rw[Y h,World.drewN_drewN]⟩
     case measure=>simp[intOf];omega
   ·clear a;go_wp2;go_ret;exact⟨rfl,q,Y h⟩
structure fW where
 pos:Nat
 size:Nat
 count:Nat
 first:aa
 last:aa
def fW.value(k:fW):M:=.agg #[.int .i64 k.pos,.int .i64 k.size,.int .i64 k.count,.string k.first,.string k.last]
def fW.cells(k:fW):List M:=[.int .i64 k.pos,.int .i64 k.size,.int .i64 k.count,.string k.first,.string k.last]
structure fW.Of(k:fW)(c:List E):Prop where
 ne:0<c.length
 size:k.size=(eU c).length+4
 count:k.count=c.length
 first:k.first=(c[0]'ne).key
 last:k.last=(c[c.length-1]'(by omega)).key
def wG(w:J)(b:Nat)(k:fW):Prop:=w.heap[b]?=some (.cells #[.int .i64 k.pos,.int .i64 k.size,.int .i64 k.count,.string k.first,.string k.last] 316 (0,0))
def wG.cells{w:J}{b:Nat}{k:fW}(h:wG w b k):w.cell? ⟨b,0,none⟩=some (.int .i64 k.pos)/\w.cell? ⟨b,1,none⟩=some (.int .i64 k.size)/\w.cell? ⟨b,2,none⟩=some (.int .i64 k.count)/\w.cell? ⟨b,3,none⟩=some (.string k.first)/\w.cell? ⟨b,4,none⟩=some (.string k.last):=by
 refine⟨?_,?_,?_,?_,?_⟩<;>rw[aj h]<;>rfl
def wG.ay{w w':J}{b:Nat}{k:fW}{S:Nat->Prop}(h:wG w b k)(d:I S w w')(a:¬S b):wG w' b k:=(d.block b (ak h) a).trans h
def Bi{w:J}{n:Nat}(x:E)(t:TypeId)(a:n=w.heap.size):∀j u,(aF [x])[j]?=some u->(w.alloc (.cells #[.string x.key,.string x.val,.bool x.del,.int .u64 x.bV] t)).cell? ((⟨n,0,none⟩:Addr).add j)=some u:=by
 subst a;exact rQ w x t
def Rd.wrote{w h:J}{d:Nat}{a:List Int}{short:Bool}{v m:M}(o:Rd w d a short)(g:du w h v m)(f:∀k,v.ownBlock=some k->d<k):Rd h d a short:=by
 obtain⟨u,e,j,b⟩:=o;refine⟨u,(g.grown.block d (ak e) (λi=>by have:=f d i.symm;omega)).trans e,j.grown g.grown ?_,b⟩;cases hu:u.ownBlock with
 |none=>exact .inr rfl
 |some k=>
  left;intro i;have p:=b k hu;have q:=f k i.symm;omega
structure ML(w0 w:J)(rb:Nat)(k:fW)(c:List E)(o:M)(n:Nat):Prop where
 own:w.ownsRow w0.heap.size 177 4 o n (aF (c.take n))
 rd:Rd w rb (eU (c.drop n)) false
 box:wG w w0.heap.size k
 PW:Below w0.heap.size w0 w
 KN:w0.heap.size<rb
 ne:o.ownBlock≠some rb/\o.ownBlock≠some w0.heap.size
 pV:∀k,o.ownBlock=some k->rb<k
def yq(ax l g:Nat)(c:List E)(m:fW)(w:J)(hT:Steps w)(b:m.Of c)(hg:∀cm∈c,cm.Good)(hs:fG c)(ed:c.length<=1000)(bf:m.size<=g)(C:Bytes w (.slice (some ⟨ax,l,none⟩) m.size g) (fS (eU c))):Calls prog 297 #[.slice (some ⟨ax,l,none⟩) m.size g,m.value] w λR D=>
 ∃v',R=.returned (.tuple #[v',.bool true])/\D.ownsRow w.heap.size 177 4 v' c.length (aF c)/\Below w.heap.size w D:=by
 have ec:=xx hg
 obtain⟨i0,bx,cj,ck,cl⟩:=bK mY
 obtain⟨pos,a,bb,first,e⟩:=m
 have ca:=b.ne
 have t:a=(eU c).length+4:=b.size
 have bT:bb=c.length:=b.count
 have bk:=Z (show first=(c[0]'ca).key from b.first)
 have bl:=Z (show e=(c[c.length-1]'(by omega)).key from b.last)
 clear b
 subst bT
 simp only at C bf
 unfold fW.value
 simp only
 have br:Below w.heap.size w (w.alloc (.cells #[.int .i64 pos,.int .i64 a,.int .i64 c.length,.string first,.string e] 316)):=(Below.refl _ w).alloc (ai _) _
 have bq:ax<w.heap.size:=C.lt (by unfold fS;intro ei;have:=bB List.length ei;simp[bw]at this) ax rfl
 have ch:Calls prog 176 #[.slice (some ⟨ax,l,none⟩) a g] (w.alloc (.cells #[.int .i64 pos,.int .i64 a,.int .i64 c.length,.string first,.string e] 316)) λR D=>
  R=.returned (.tuple #[.slice (some ⟨ax,l,none⟩) (eU c).length g,.bool true])/\Below (w.alloc (.cells #[.int .i64 pos,.int .i64 a,.int .i64 c.length,.string first,.string e] 316)).heap.size (w.alloc (.cells #[.int .i64 pos,.int .i64 a,.int .i64 c.length,.string first,.string e] 316)) D:=by
   rw[t]at C bf|-;exact sK ax l g (eU c) _ (hT.alloc _) bf (by omega) (C.alloc _)
 have al:Bytes w (.slice (some ⟨ax,l,none⟩) (eU c).length g) (eU c):=by
  have f:Bytes w (.slice (some ⟨ax,l,none⟩) (fS (eU c)).length g) (fS (eU c)):=by rw[t]at C;unfold fS at*;rw[ag,bw];exact C
  have:=f.take (n:=(eU c).length) (by simp[fS]);unfold fS at this;rwa[lX]at this
 have ea:∀(cm:Bool)(w:J),(Op.unary .not (.bool cm)).run prog w=.ok (.bool (!cm)) w:=λ_ _=>rfl
 have Q:=Z al
 have HG:=Z hg
 have HS:=Z hs
 have HB:=Z br
 have cs:=Z t
 clear C hT al hg hs br t
 go_enter func297,ntmps297
 go_wp2_with(first
  |(go_at_call 176;refine ch.mono ?_;rintro R o⟨rfl,bc⟩;have N:wG o w.heap.size ⟨pos,a,c.length,first,e⟩:=(bc.block _ (by simp)).trans (az _ rfl);obtain⟨k0,k1,k2,k3,k4⟩:=N.cells;simp only at k0 k1 k2 k3 k4;have h:Below w.heap.size w o:=(Y HB).trans (bc.mono (by simp));have dT:=ak N;have cb:=iN (.slice (some ⟨ax,l,none⟩) (eU c).length g) (eU c) o ((Y Q).below h (by intro m b;cases b;exact bq)) (by intro m b;cases b;exact ah bq h.size);have F:=Z N;have ba:=Z h;clear bc N h)
  |(go_at_call 177;refine cb.mono ?_;rintro R w2⟨rfl,an,dv⟩;subst dv;have bo:=Z an;clear an)
  |(at_make;refine gO _ rfl _ _ 102 rfl w.heap.size 177 i0 tQ 4 underlying102 bx cj ck _ _ _ c.length rfl rfl (by omega) (by rw[cl];omega) (by unfold maxLen;omega) (by simp;omega) ?_;intro w3 ad x;have r:I (λ_=>False) o w3:=((I.refl (λ_=>False) o).alloc _).trans (I.bz (S:=λ_=>False) x (by simp)) (λ_ c=>c.elim);have bs:=(Y F).ay r (λc=>c);obtain⟨m0,m1,m2,m3,m4⟩:=bs.cells;simp only at m0 m1 m2 m3 m4;have bp:=Z r;clear bs r;have v:=Z ad;have P:=Z x;clear ad x))
 have bd:=Y P
 have dx:=bd.size
 simp at dx
 have ds:(o.alloc (.cells #[.slice (some ⟨ax,l,none⟩) (eU c).length g,.bool false] 341)).heap.size=o.heap.size+1:=by simp
 have r:=Y bp
 have hA0:ML w w3 o.heap.size ⟨pos,a,c.length,first,e⟩ c (.slice (some ⟨o.heap.size+1,0,none⟩) 0 c.length) 0:=by
  have d:=Y v;rw[ds]at d;refine⟨d,?_,(Y F).ay r (λc=>c),(Y ba).trans ((r.below (ai _) (λ_ c=>c.elim)).mono (Y ba).size),by omega,⟨?_,?_⟩,?_⟩
  ·exact(Y bo).laid bd
  ·simp[Value.ownBlock]
  ·have:=ak (Y F);simp[Value.ownBlock];omega
  ·intro m b;simp[Value.ownBlock]at b;omega
 have bi:=Z hA0
 clear hA0 bd r
 go_loopw [9,35] (λb i wr=>∃n:Nat,n<=c.length/\i=.int .i64 n/\ML w wr o.heap.size ⟨pos,a,c.length,first,e⟩ c b n) (λ_ i _=>c.length-(intOf i).toNat)
 case atStart=>exact⟨0,aU _,rfl,Y bi⟩
 case round=>
  obtain⟨n,ee,rfl,f⟩:=hrel;have d:=f.own;obtain⟨O,B,ho⟩:=aC d;have eg:=f.PW.size;have U:=f.box.cells;simp only at U;obtain⟨q0,q1,q2,q3,q4⟩:=U;have eb:=f.rd.lt;have HA:=Z f;by_cases H:n<c.length
  ·have u:=(Y HG) c[n] (au H);have q:=f.rd;rw[JK c n H]at q;have y:iq (eU (c.drop (n+1))):=Eh (λcm a=>(Y HG) cm (cg a));have bg:(eU (c.drop (n+1))).length<=35*1000:=by
    have G:=xx (c:=c.drop (n+1)) (λcm a=>(Y HG) cm (cg a));have h2:(c.drop (n+1)).length<=1000:=by simp;omega
    omega
   have z:=vt u;have p:=pS u;have bh:(jO c[n]).length<=35:=by unfold qp at p;rw[ag]at p;omega
   have i:=DQ o.heap.size (le 8 c[n].bV++(jO c[n]++eU (c.drop (n+1)))) false wr q ((iq.le 8 _).append (z.append y)) (by simp only[ag,bw];omega);have K:=jI (le 8 c[n].bV) (jO c[n]++eU (c.drop (n+1)));rw[bw]at K;have ac:num (le 8 c[n].bV++(jO c[n]++eU (c.drop (n+1)))) false 8=c[n].bV:=by unfold num;rw[K];exact xp u.b0 u.b1
   rw[K,ac]at i;simp only at i;have k:=λW(b:Rd W o.heap.size (jO c[n]++eU (c.drop (n+1))) false)=>As o.heap.size c[n] (eU (c.drop (n+1))) W b (z.append y) (by simp only[ag];omega) u;have cM:Hid (aF (c.take n)++aF [c[n]]=aF (c.take (n+1))):=by rw[<-eK,aq H];exact Z rfl
   clear f d q y bg z p bh K ac u;generalize c[n]=cm at*;obtain⟨xk,xv,xd,xb⟩:=cm;simp only at i k;unfold E.value at k;simp only at k;subst ho;go_wp2_with(first
    |(go_at_call 178;refine i.mono ?_;rintro R w4⟨rfl,cc,bt⟩;have cx:=Z cc;have cp:=Z bt;clear cc bt)
    |(go_at_call 187;refine(k w4 (Y cx)).mono ?_;rintro R w5⟨rfl,cd,bv⟩;have s:I (λm=>m=o.heap.size) wr w5:=(I.bz (S:=λm=>m=o.heap.size) (Y cp) (by rintro m⟨⟩;exact .inl rfl)).trans (I.bz (S:=λm=>m=o.heap.size) bv (by rintro m⟨⟩;exact .inl rfl)) (λm b=>.inl b);have A:=aM (aM (s.own (Y HA).own (λm b c=>(Y HA).ne.1 (by rw[<-c];exact b))) (.cells #[.string xk,.string xv,.bool xd,.int .u64 xb] 177)) (.cells #[.string xk,.string xv,.bool xd,.int .u64 xb] 177);have ef:=s.size;have bn:=Z A;have cE:=Z s;have cB:=Z cd;clear cd bv A s)
    |(at_builtin;refine aX _ rfl (.tmp 48) (.tmp 50) 102 rfl w.heap.size 177 i0 tQ 4 48 underlying102 bx cj ck cl rfl (by decide) (.slice O n B) n (aF (c.take n)) rfl (Y bn) ⟨w5.heap.size+1,0,none⟩ 1 1 (aF [⟨xk,xv,xd,xb⟩]) rfl rfl (Bi ⟨xk,xv,xd,xb⟩ _ (by simp)) (yT _) (by omega) (by omega) (by simp;omega) ?_;intro o2 w6 j ao;have cv:=Z j;have cT:=Z ao;clear j ao))
   go_roundw;case rel=>
    refine⟨n+1,H,by go_num,?_⟩;have f:=Y HA;have s:=Y cE;have L:=Y cT;have j:=Y cv;have dc:=f.own.lt;have ce:I (λm=>(Value.slice O n B).ownBlock=some m) w5 w6:=(((I.refl (λm=>(Value.slice O n B).ownBlock=some m) w5).alloc _).alloc _).trans (I.bz (S:=λm=>(Value.slice O n B).ownBlock=some m) L.grown (λm b=>.inl b)) (λm b=>.inl b);have X:∀m,m<w5.heap.size->(Value.slice O n B).ownBlock≠some m->o2.ownBlock≠some m:=by
     intro m b hn R;rcases L.sr with db|⟨cn,db,hg⟩
     ·exact hn (db.symm.trans R)
     ·rw[db]at R;cases R;simp at hg;omega
    refine⟨?_,?_,?_,?_,f.KN,⟨X _ (by omega) f.ne.1,X _ (by omega) f.ne.2⟩,?_⟩
    ·rw[<-Y cM];exact j
    ·have hr:=Y cB;have dk:=hr.laid (cD w5 (.cells #[.string xk,.string xv,.bool xd,.int .u64 xb] 177) none);have dn:=dk.laid (cD _ (.cells #[.string xk,.string xv,.bool xd,.int .u64 xb] 177) none);exact dn.wrote L f.pV
    ·exact(f.box.ay s (λc=>by have:=f.KN;omega)).ay ce (λc=>f.ne.2 c)
    ·refine(f.PW.trans (s.below f.PW.size (λm b=>by have:=f.KN;omega))).trans (ce.below (by omega) (λm b=>(dc m b).1))
    ·intro m b;rcases L.sr with db|⟨cn,db,hg⟩
     ·exact f.pV m (db.symm.trans b)
     ·rw[db]at b;cases b;simp at hg;omega
   case measure=>simp[intOf];omega
  ·have cc:n=c.length:=by omega
   subst cc;have q:=f.rd;rw[eJ]at q;have bv:∀W,W.heap=wr.heap->Calls prog 181 #[.pointer (some ⟨o.heap.size,0,none⟩)] W λR D=>R=.returned (.bool true)/\D=W:=by
    intro W u;have:=th o.heap.size (eU []) false W (q.of_heap u) (by simp[eU]);simpa[eU]using this
   have hE:nT wr (.slice O c.length B) c:=by
    have G:=cW d;rw[ho,bD]at G;exact G
   have ao:∀ax,(Value.slice O c.length B).ownBlock=some ax->ax<wr.heap.size:=λax C=>by rw[<-ho]at C;exact(d.lt ax C).2
   have k:∀W,W.heap=wr.heap->Calls prog 283 #[.slice O c.length B] W λR D=>R=.returned (.bool true)/\∃b,D=W.drewN b:=by
    intro W u;refine BC (.slice O c.length B) c W ?_ (Y HS) (by omega);obtain⟨G,⟨h2,h0⟩|⟨cn,bg,z,h2,ac,bt⟩⟩:=hE
    ·exact⟨G,.inl ⟨h2,h0⟩⟩
    ·exact⟨G,.inr ⟨cn,bg,z,h2,ac,λj d a=>(bI (w:=wr) (by rw[u])).trans (bt j d a)⟩⟩
   obtain⟨bn,⟨A,cv⟩|⟨cn,j,ce,A,X,s⟩⟩:=hE
   ·omega
   have K:=(dP c 0 ca).1;have L:=(dP c (c.length-1) (by omega)).1;have f0:wr.cell? ⟨cn,j+0*4,none⟩=some (.string c[0].key):=s _ _ K;have fL:wr.cell? ⟨cn,j+(c.length-1)*4,none⟩=some (.string c[c.length-1].key):=s _ _ L;rw[<-Y bk]at f0;rw[<-Y bl]at fL;cases A;subst ho;clear f d q bn X s K L;rw[Nat.zero_mul,kD]at f0;have i:Below w.heap.size w wr:=(Y HA).PW;have p:∀W,Below wr.heap.size wr W->∃v',Ending.returned (.tuple #[.slice (some ⟨cn,j,none⟩) c.length B,.bool true])=.returned (.tuple #[v',.bool true])/\W.ownsRow w.heap.size 177 4 v' c.length (aF c)/\Below w.heap.size w W:=by
    intro W u;have f:=Y HA;have G:=f.own;rw[bD]at G;refine⟨_,rfl,?_,i.trans (u.mono i.size)⟩;exact(I.aR (S:=λ_=>False) u).own G (λ_ _ c=>c)
   have y:=Z p;have cx:=ao cn rfl;have cp:w.heap.size<wr.heap.size:=ak (Y HA).box;clear p i cs bk bl F ba Q bo v P bp bi HA HG HS HB ch cb ao;obtain⟨bh,hp⟩:∃bh,c.length-1=bh:=⟨_,rfl⟩;have e1:(c.length:Int)-1=(bh:Int):=by omega
   have e2:(bh:Int)<(c.length:Int):=by omega
   have e3:(0:Int)<=(bh:Int):=by omega
   have e4:bh<c.length:=by omega
   have e5:¬((c.length:Int)<(c.length:Int)):=by omega
   have e6:bh<=1000:=by omega
   have e7:IntKind.i64.wrap ((c.length:Int)-1)=(bh:Int):=by rw[bu];omega
   have e8:wrap64 ((c.length:Int)-1)=(bh:Int):=by unfold wrap64;omega
   rw[hp]at fL;have cd:∀W,W.heap=wr.heap->Calls prog 283 #[.slice (some ⟨cn,j,none⟩) c.length B] W λR D=>R=.returned (.bool true)/\∃b,D=W.drewN b:=k;clear k hp;go_wp2_with fail
   go_quiet(first
    |(go_at_call 181;refine Calls.quiet_of_same (bv _ rfl))
    |(go_at_call 283;refine Calls.quiet_of (cd _ rfl)))
   go_wp2;go_ret2
   exact(Y y) _ (below_drewN (Below.refl _ _) _)
def yE(o:Nat)(y:Array M)(n:Nat)(p:Nat->Bool)(w:J)(A:Enters prog o)(T:n<=1000000000000)(C:∀R K,R<=K->K<n->p R=true->p K=true)(B:∀i,i<n->∀W,Below w.heap.size w W->Calls prog o (#[.int .i64 i]++y) W λz H=>z=.returned (.bool (p i))/\Below W.heap.size W H):Calls prog 230 #[.int .i64 n,.func (.func o) #[] y] w λz P=>∃F:Nat,z=.returned (.int .i64 F)/\F<=n/\(∀i,i<F->p i=false)/\(∀i,F<=i->i<n->p i=true)/\Below w.heap.size w P:=by
 have S:∀a w,(callFunc o a).run prog w=.ok (.enter o a) w:=A;have E:∀(x:Bool)(w:J),(Op.unary .not (.bool x)).run prog w=.ok (.bool (!x)) w:=λ_ _=>rfl;have x:=Z C;have G:=Z B;clear C B A;go_enter func230,ntmps230
 go_wp2;go_loopw [5,6] (λi j wr=>∃f e:Nat,i=.int .i64 f/\j=.int .i64 e/\f<=e/\e<=n/\(∀t,t<f->p t=false)/\(∀t,e<=t->t<n->p t=true)/\Below w.heap.size w wr) (λi j _=>(intOf j).toNat-(intOf i).toNat)
 case atStart=>exact⟨0,n,rfl,rfl,aU _,ai _,λt h=>by omega,λt s h=>by omega,Below.refl _ _⟩
 case round=>
  obtain⟨f,e,rfl,rfl,L,j,q,r,b⟩:=hrel;have u:=Z q;have v:=Z r;have h:=Z b;by_cases N:f<e
  ·obtain⟨m,O⟩:∃m:Nat,(f+e)/2=m:=⟨_,rfl⟩;have k:m<n:=by omega
   have a:=(Y G) m k wr b;have D:((f:Int)+(e:Int))/2=(m:Int):=by omega
   clear q r b;cases hp:p m with
   |false=>
    rw[hp]at a;have l:=Z (λt(s:t<m+1)=>(show p t=false from by
     cases c:p t with
     |false=>rfl
     |true=>have:=(Y x) t m (by omega) k c;rw[hp]at this;cases this))
    clear hp;go_wp2_with(go_at_fn o;refine a.mono ?_;rintro z Q⟨rfl,d⟩;have g:=Z d;clear d)
    go_roundw;case rel=>exact⟨m+1,e,by go_num,rfl,by omega,j,Y l,Y v,(Y h).trans ((Y g).mono (Y h).size)⟩
    case measure=>simp[intOf];omega
   |true=>
    rw[hp]at a;have l:=Z (λt(s:m<=t)(a:t<n)=>(Y x) m t s a hp);clear hp;go_wp2_with(go_at_fn o;refine a.mono ?_;rintro z Q⟨rfl,d⟩;have g:=Z d;clear d)
    go_roundw;case rel=>exact⟨f,m,rfl,by go_num,by omega,by omega,Y u,Y l,(Y h).trans ((Y g).mono (Y h).size)⟩
    case measure=>simp[intOf];omega
  ·have a:f=e:=by omega
   subst a;clear q r b;go_wp2;go_ret;exact⟨f,rfl,j,Y u,Y v,Y h⟩
def cO(l:List fW):List M:=l.flatMap fW.cells
def wA(l:List fW):(cO l).length=l.length*5:=by
 induction l with
 |nil=>rfl
 |cons e r a=>unfold cO at*;rw[cF,ag,a];simp[fW.cells];omega
def fC(l:List fW)(n j:Nat)(h:n<l.length)(c:j<5):(cO l)[n*5+j]?=(fW.cells l[n])[j]?:=by
 have e:cO l=cO (l.take n)++(fW.cells l[n]++cO (l.drop (n+1))):=by
  have a:l=l.take n++l[n]::l.drop (n+1):=by rw[<-bm h,bF]
  conv=>lhs;rw[a]
  simp only[cO,dZ,cF]
 have b:(cO (l.take n)).length=n*5:=by rw[wA];simp;omega
 rw[e,dD (by omega),b,show n*5+j-n*5=j by omega,fH (by simp[fW.cells];omega)]
structure js(w:J)(tb:Nat)(dv:M)(number cut isize sum:Int)(bb boff bJ:Nat)(dav:M)(ks:List fW):Prop where
 box:w.heap[tb]?=some (.cells #[dv,.int .u64 number,.int .u32 cut,.int .u32 isize,.int .u32 sum,.slice (some ⟨bb,boff,none⟩) ks.length bJ,dav] 265 (0,0))
 cells:∀j u,(cO ks)[j]?=some u->w.cell? ⟨bb,boff+j,none⟩=some u
 ne:0<ks.length
 le:ks.length<=bJ
 small:ks.length<=1000000000
def Jy(w:J)(i:Nat)(k:M)(b cut d h:Int)(f a bJ:Nat)(g:M)(e:List fW)(j:js w i k b cut d h f a bJ g e):Calls prog 153 #[.pointer (some ⟨i,0,none⟩)] w λn m=>n=.returned (.string (e[0]'j.ne).first)/\m=w:=by
 have l:w.cell? ⟨i,5,none⟩=some (.slice (some ⟨f,a,none⟩) e.length bJ):=by rw[aj j.box];rfl
 have c:=j.ne;have o:w.cell? ⟨f,a+3,none⟩=some (.string (e[0]'c).first):=j.cells _ _ (fC e 0 3 c (by decide));have p:(0:Int)<(e.length:Int):=by omega
 generalize(e[0]'c).first=s at*;clear j;go_enter func153,ntmps153
 go_wp2;go_ret;exact⟨rfl,rfl⟩
def LD(w:J)(h:Nat)(k:M)(c cut d g:Int)(e b bJ:Nat)(f:M)(a:List fW)(i:js w h k c cut d g e b bJ f a):Calls prog 154 #[.pointer (some ⟨h,0,none⟩)] w λq o=>q=.returned (.string (a[a.length-1]'(by have:=i.ne;omega)).last)/\∃x,o=w.drewN x:=by
 have l:w.cell? ⟨h,5,none⟩=some (.slice (some ⟨e,b,none⟩) a.length bJ):=by rw[aj i.box];rfl
 have m:=i.ne;have n:=i.small;obtain⟨p,j⟩:∃p,a.length-1=p:=⟨_,rfl⟩;have v:w.cell? ⟨e,b+p*5+4,none⟩=some (.string (a[a.length-1]'(by omega)).last):=by subst j;rw[aP];exact i.cells _ _ (fC a (a.length-1) 4 (by omega) (by decide))
 have r:(a.length:Int)-1=(p:Int):=by omega
 have s:(p:Int)<(a.length:Int):=by omega
 have t:(0:Int)<=(p:Int):=by omega
 have u:p<a.length:=by omega
 generalize(a[a.length-1]'(by omega)).last=y at*;clear i j;go_enter func154,ntmps154
 go_wp2;go_quiet(fail)
 go_wp2;go_ret;exact⟨rfl,nq,rfl⟩
def FO(w:J)(j k bk:Nat)(n:M)(b cut d h:Int)(f a bJ:Nat)(g:M)(c:List fW)(e:aa)(o:js w j n b cut d h f a bJ g c)(m:dY w k (.pointer (some ⟨j,0,none⟩)) 199)(l:dY w bk (.string e) 9)(i:Nat)(r:i<c.length):Calls prog 295 #[.int .i64 i,.pointer (some ⟨k,0,none⟩),.pointer (some ⟨bk,0,none⟩)] w λt s=>t=.returned (.bool (!ep c[i].last e))/\∃y,s=w.drewN y:=by
 have p:w.cell? ⟨j,5,none⟩=some (.slice (some ⟨f,a,none⟩) c.length bJ):=by rw[aj o.box];rfl
 have x:w.cell? ⟨f,a+i*5+4,none⟩=some (.string c[i].last):=by rw[aP];exact o.cells _ _ (fC c i 4 r (by decide))
 have c1:=m.cell;have c2:=l.cell;have q:=vu;have u:(i:Int)<(c.length:Int):=by omega
 have v:(0:Int)<=(i:Int):=by omega
 unfold ep;generalize c[i].last=z at*;clear o m l;go_enter func295,ntmps295
 go_wp2;go_quiet(fail)
 go_wp2;go_ret;exact⟨rfl,nq,rfl⟩
def js.below{w y:J}{o:Nat}{q:M}{a cut d g:Int}{h b bJ:Nat}{e:M}{x:List fW}{B:Nat}(r:js w o q a cut d g h b bJ e x)(s:Below B w y)(z:o<B)(A:h<B):js y o q a cut d g h b bJ e x:=⟨(s.block o z).trans r.box,λj u D=>(s.cell (p:=⟨h,b+j,none⟩) A).trans (r.cells j u D),r.ne,r.le,r.small⟩
def js.lt{w:J}{o:Nat}{r:M}{a cut d h:Int}{e b bJ:Nat}{g:M}{ks:List fW}(y:js w o r a cut d h e b bJ g ks):o<w.heap.size/\e<w.heap.size:=⟨ak y.box,cI w ⟨e,b+(0*5+0),none⟩ (y.cells _ _ (fC ks 0 0 y.ne (by decide)))⟩
def uU(w:J)(h:Nat)(E:M)(c cut f r:Int)(v e bJ:Nat)(l:M)(b:List fW)(a:aa)(P:js w h E c cut f r v e bJ l b)(L:b.Pairwise (λN O=>ep N.last O.last=true)):Calls prog 291 #[.pointer (some ⟨h,0,none⟩),.string a] w λX w'=>∃C:Nat,X=.returned (.int .i64 C)/\C<=b.length/\(∀i(g:i<b.length),i<C->ep b[i].last a=true)/\(∀i(g:i<b.length),C<=i->ep b[i].last a=false)/\Below w.heap.size w w':=by
 have o:=P.lt;have z:Below w.heap.size w ((w.alloc (.cells #[.pointer (some ⟨h,0,none⟩)] 199)).alloc (.cells #[.string a] 9)):=((Below.refl _ w).alloc (ai _) _).alloc (by simp) _;have s:=P.below z o.1 o.2;have ac:((w.alloc (.cells #[.pointer (some ⟨h,0,none⟩)] 199)).alloc (.cells #[.string a] 9)).cell? ⟨h,5,none⟩=some (.slice (some ⟨v,e,none⟩) b.length bJ):=by rw[aj s.box];rfl
 have q:=yE 295 #[.pointer (some ⟨w.heap.size,0,none⟩),.pointer (some ⟨w.heap.size+1,0,none⟩)] b.length (λi=>if g:i<b.length then !ep b[i].last a else true) ((w.alloc (.cells #[.pointer (some ⟨h,0,none⟩)] 199)).alloc (.cells #[.string a] 9)) (enters_of func295 (by kernel_rfl) rfl) (by have:=P.small;omega) (by
  intro N O y n t;have m:N<b.length:=by omega
  simp only[n,m,pG]at t|-;rcases lm y with V|V
  ·have j:=bG.1 L N O m n V;cases d:ep b[O].last a with
   |false=>rfl
   |true=>have:=iR j d;rw[this]at t;cases t
  ·subst V;exact t)
  (by
   intro i g W j;have x:=s.below j (by simp;omega) (by simp;omega);have A:dY W w.heap.size (.pointer (some ⟨h,0,none⟩)) 199:=(j.block _ (by simp;omega)).trans (dY.alloc (az _ rfl) _);have B:dY W (w.heap.size+1) (.string a) 9:=(j.block _ (by simp)).trans (az _ (by simp));refine(FO W h w.heap.size (w.heap.size+1) E c cut f r v e bJ l b a x A B i g).mono ?_;rintro X W'⟨rfl,al,rfl⟩;simp only[g,pG];exact⟨trivial,below_drewN (Below.refl _ _) _⟩)
 have u:=Z q;have D:=Z z;have ad:=s.lt.1;clear q s z P L;go_enter func291,ntmps291
 go_wp2_with(go_at_call 230;refine(Y u).mono ?_;rintro X w1⟨C,rfl,F,G,H,K⟩;have Q:=Z F;have R:=Z G;have T:=Z H;have U:=Z K;clear F G H K)
 go_ret;refine⟨C,rfl,Y Q,λi g k=>?_,λi g k=>?_,(Y D).trans ((Y U).mono (Y D).size)⟩
 ·have:=(Y R) i k;simp only[g,pG]at this;simpa using this
 ·have:=(Y T) i k g;simp only[g,pG]at this;simpa using this
structure kA(V:gz)(n0 tb:Nat)(ks:List fW)(cs:List (List E))(w:J):Prop where
 mem:∃dv number cut isize sum bb boff bJ dav,js w tb dv number cut isize sum bb boff bJ dav ks/\(tb<n0/\¬V.F tb)/\(bb<n0/\¬V.F bb)
 len:ks.length=cs.length
 yU:∀i(hi:i<ks.length)(hc:i<cs.length),ks[i].Of cs[i]
 gU:∀c∈cs,∀x∈c,x.Good
 li:fG cs.flatten
 small:∀c∈cs,c.length<=1000
 bytes:∀i(hi:i<ks.length)(hc:i<cs.length)W,ia V n0 (λ_=>False) w W->V.D W->Calls prog 296 #[.pointer (some ⟨tb,0,none⟩),ks[i].value] W λe W'=>
  ∃b off cap,e=.returned (.tuple #[.slice (some ⟨b,off,none⟩) ks[i].size cap,.nilIface])/\ks[i].size<=cap/\Bytes W' (.slice (some ⟨b,off,none⟩) ks[i].size cap) (fS (eU cs[i]))/\V.D W'/\I V.F W W'
 steps:Steps w
 uL:1<n0/\¬V.F 1
def js.same{V:gz}{n0:Nat}{w w':J}{S:Nat->Prop}{g:Nat}{j:M}{a cut b e:Int}{h c bJ:Nat}{d:M}{r:List fW}(o:js w g j a cut b e h c bJ d r)(hs:ia V n0 S w w')(u:g<n0/\¬V.F g)(y:h<n0/\¬V.F h):js w' g j a cut b e h c bJ d r:=⟨(hs.2 g (.inl u)).trans o.box,λA B z=>hs.cell (.inr y) (o.cells A B z),o.ne,o.le,o.small⟩
def Steps.same{V:gz}{n0:Nat}{w w':J}{S:Nat->Prop}(h:Steps w)(hs:ia V n0 S w w')(a:1<n0/\¬V.F 1):Steps w':=λk b=>hs.cell (.inr a) (h k b)
def kA.same{V:gz}{n0 u:Nat}{r:List fW}{g:List (List E)}{w w':J}(h:kA V n0 u r g w)(hs:ia V n0 (λ_=>False) w w'):kA V n0 u r g w':=by
 obtain⟨z,a,cut,b,e,y,c,bJ,d,F,j,o⟩:=h.mem;exact⟨⟨z,a,cut,b,e,y,c,bJ,d,F.same hs j o,j,o⟩,h.len,h.yU,h.gU,h.li,h.small,λi D C W B A=>h.bytes i D C W (hs.trans B) A,h.steps.same hs h.uL,h.uL⟩
def Dt(V:gz)(U tb:Nat)(g:List fW)(r:List (List E))(w:J)(O:kA V U tb g r w)(hD:V.D w)(hn:U<=w.heap.size)(hF:∀R,V.F R->R<U)(i:Nat)(A:i<g.length)(hc:i<r.length):Calls prog 292 #[.pointer (some ⟨tb,0,none⟩),.int .i64 i] w λbf F=>∃C,bf=.returned (.tuple #[C,.nilIface])/\F.ownsRow w.heap.size 177 4 C r[i].length (aF r[i])/\V.D F/\I V.F w F:=by
 obtain⟨dv,W,cut,bc,bo,D,d,bJ,bi,x,bn,bk⟩:=O.mem;have bl:w.cell? ⟨tb,5,none⟩=some (.slice (some ⟨D,d,none⟩) g.length bJ):=by rw[aj x.box];rfl
 have g0:w.cell? ⟨D,d+i*5,none⟩=some (.int .i64 g[i].pos):=x.cells _ _ (fC g i 0 A (by decide));have g1:w.cell? ⟨D,d+i*5+1,none⟩=some (.int .i64 g[i].size):=by rw[aP];exact x.cells _ _ (fC g i 1 A (by decide))
 have g2:w.cell? ⟨D,d+i*5+2,none⟩=some (.int .i64 g[i].count):=by rw[aP];exact x.cells _ _ (fC g i 2 A (by decide))
 have g3:w.cell? ⟨D,d+i*5+3,none⟩=some (.string g[i].first):=by rw[aP];exact x.cells _ _ (fC g i 3 A (by decide))
 have g4:w.cell? ⟨D,d+i*5+4,none⟩=some (.string g[i].last):=by rw[aP];exact x.cells _ _ (fC g i 4 A (by decide))
 have e2:(i:Int)<(g.length:Int):=by omega
 have e3:(0:Int)<=(i:Int):=by omega
 have h:=au hc;have z:=O.yU i A hc;have n:=O.gU _ h;have j:=O.small _ h;have y:fG r[i]:=O.li.sub (cu h);have m:=O.bytes i A hc;have q:=O.steps;have p:=O.uL;have bh:∀(x:Bool)(w:J),(Op.unary .not (.bool x)).run prog w=.ok (.bool (!x)) w:=λ_ _=>rfl;have H:∀R,U<=R->¬V.F R:=λR Q a=>by have:=hF R a;omega
 obtain⟨pos,a,b,first,c,ba⟩:∃pos a b first c,g[i]=⟨pos,a,b,first,c⟩:=⟨_,_,_,_,_,rfl⟩
 rw[ba]at g0 g1 g2 g3 g4 z m;simp only at g0 g1 g2 g3 g4;unfold fW.value at m;simp only at m;have s:I (λ_=>False) w (w.alloc (.cells #[.int .i64 pos,.int .i64 a,.int .i64 b,.string first,.string c] 316)):=(I.refl _ _).alloc _;have ax:=m _ (s.same hn (λ_ v=>v.elim) (λ_ v=>v.elim)) (V.dF hD s (λ_ v=>v.elim));have bg:=(x.lt).2;have HX:=Z (show∀l bd k e,I V.F (w.alloc (.cells #[.int .i64 pos,.int .i64 a,.int .i64 b,.string first,.string c] 316)) l->a<=e->Bytes l (.slice (some ⟨bd,k,none⟩) a e) (fS (eU r[i]))->Calls prog 297 #[.slice (some ⟨bd,k,none⟩) a e,.agg #[.int .i64 pos,.int .i64 a,.int .i64 b,.string first,.string c]] l λbf F=>∃C,bf=.returned (.tuple #[C,.bool true])/\F.ownsRow l.heap.size 177 4 C r[i].length (aF r[i])/\Below l.heap.size l F from by
  intro l bd k e ht u P;have K:Steps l:=(q.same (S:=λ_=>False) (s.same (V:=V) hn (λ_ v=>v.elim) (λ_ v=>v.elim)) p).same (S:=λ_=>False) (ht.same (V:=V) (by simp;omega) (λ_ v=>v.elim) (λR Q _=>Q)) p;exact yq bd k e r[i] ⟨pos,a,b,first,c⟩ l K z n y j u P)
 have an:=Z H;clear x z n j y m q p h O hD hF H;go_enter func292,ntmps292
 go_wp2_with(first
  |(go_at_call 296;refine ax.mono ?_;rintro bf l⟨bd,k,e,rfl,u,P,G,f⟩;have bb:=(Y HX) l bd k e f u P;have N:wG l w.heap.size ⟨pos,a,b,first,c⟩:=wG.ay (az _ rfl) f ((Y an) _ hn);obtain⟨k0,k1,k2,k3,k4⟩:=N.cells;simp only at k0 k1 k2 k3 k4;have ac:=Z G;have al:=Z f;clear u P G f N)
  |(go_at_call 297;refine bb.mono ?_;rintro bf w3⟨C,rfl,o,t⟩;have ad:=Z o;have X:=Z t;clear o t))
 go_ret2
 have f:=Y al;have t:=Y X;have hz:=f.size;simp at hz;have L:I (λ_=>False) l w3:=I.aR t;refine⟨C,rfl,?_,V.dF (Y ac) L (λ_ v=>v.elim),((s.mono (T:=V.F) (λ_ v=>v.elim)).trans f (λR Q=>.inl Q)).trans L (λ_ v=>v.elim)⟩;obtain⟨h1,⟨h2,h0⟩|⟨bp,cp,ao,h2,hb,B⟩⟩:=Y ad
 ·exact⟨h1,.inl ⟨h2,h0⟩⟩
 ·exact⟨h1,.inr ⟨bp,cp,ao,h2,by omega,B⟩⟩
end Go.Proofs.YtophdnlmpfmeiaaGreatDoor
