import Derived.Test.YtophdnlmpfmeiaaGreatDoorC22
namespace Go.Proofs.YtophdnlmpfmeiaaGreatDoor
open ChangeShapes WideShapes RowKit Proofs.Tryz
set_option maxHeartbeats 16000000
set_option linter.all false
set_option maxRecDepth 100000
section
open Go.Shelf
attribute [local go_sem] Oper.semAt_some
def MD(a:List ar):∀j,j<=a.length->(bk (a.map ar.ptr) j).map (λp=>Value.iface 199 p.2)=((a.take j).map Fy).reverse
 |0,_=>by simp[bk]
 |j+1,h=>by
  have b:j<a.length:=h;rw[bk,aY,MD a j (by omega),aq b,aN,List.reverse_append];simp only[aY,df,List.reverse_cons,List.reverse_nil,cL,iZ,jh,oG];rw[oI,cP,aA b];rfl
def mQ(a b c d:M×List ar):List M:=((a.2.map Fy).reverse)++[Aa b]++[Aa c]++[Aa d]
def FX(w:J)(lb lo:Nat)(p0 p1 p2 p3:M×List ar)(bs:xQ w lb lo [p0,p1,p2,p3]):Calls prog 135 #[.pointer (some ⟨lb,lo,none⟩)] w λfk w'=>∃v',fk=.returned v'/\w'.ownsRow w.heap.size 175 1 v' (mQ p0 p1 p2 p3).length (mQ p0 p1 p2 p3)/\I (λ_=>False) w w':=by
 obtain⟨i0,bT,ca,cb,br⟩:=bK Cc;obtain⟨v0,c⟩:=p0;obtain⟨v1,r⟩:=p1;obtain⟨v2,s⟩:=p2;obtain⟨v3,t⟩:=p3;have c0:w.cell? ⟨lb,lo,none⟩=some v0:=bs.cell 0 (by simp);have c1:w.cell? ⟨lb,lo+1,none⟩=some v1:=bs.cell 1 (by simp);have c2:w.cell? ⟨lb,lo+2,none⟩=some v2:=bs.cell 2 (by simp);have c3:w.cell? ⟨lb,lo+3,none⟩=some v3:=bs.cell 3 (by simp);have cn:Row w 1 v0 c.length (c.map ar.ptr):=bs.row 0 (by simp);have dT:∀bc,v0.ownBlock=some bc->bc<w.heap.size:=bs.lM 0 (by simp);obtain⟨x0,U,rfl⟩:=bA cn;obtain⟨x1,H,rfl⟩:∃x P,v1=.slice x r.length P:=bA (bs.row 1 (by simp));obtain⟨x2,K,rfl⟩:∃x P,v2=.slice x s.length P:=bA (bs.row 2 (by simp));obtain⟨x3,L,rfl⟩:∃x P,v3=.slice x t.length P:=bA (bs.row 3 (by simp));have es:c.length<=100000000:=by have:=bs.small;simp[jm]at this;omega
 have cm:=bs.lt;have cl:=Z c1;have ek:=Z c2;have el:=Z c3;have en:=Z cn;have cv:=Z dT;clear bs cn dT c1 c2 c3;refine(dM (n:=3)).1 ?_;refine callsIn_of_wp_marks func135 rfl trivial ?_ rfl;simp only[ntmps135,gC,aE,cH,Nat.reduceAdd,Nat.reduceSub,fq,fp,gD,fI,cL,dI];gi_wp2;refine wpIn_loop_rounds 5 ?_;rw[roundsIn_succ];gi_wp2;rename_i QQ KK A;apply Cn KK
 ·intro ax;refine vN.2 ?_;go_region
  all_goals exact ax
 refine A _ _ ?_;clear A;have eq:=λei=>Cx (.slice x0 c.length U) x0 c.length U rfl ei;gi_wp2_with(refine⟨trivial,?_⟩;gi_at_call 188;refine(dM.2 (eq _)).mono ?_;rintro fk w1⟨rfl,rfl⟩)
 have e1:((w.alloc (.cells #[.slice none 0 0] 172)).alloc (.cells #[.slice x0 c.length U] 105)).drew.heap.size=w.heap.size+2:=by simp
 obtain⟨W0,bd⟩:∃W0,((w.alloc (.cells #[.slice none 0 0] 172)).alloc (.cells #[.slice x0 c.length U] 105)).drew=W0:=⟨_,rfl⟩;rw[bd]at e1;have bq:I (λ_=>False) w W0:=by rw[<-bd];exact(((I.refl (λ_=>False) w).alloc _).alloc _).of_heap rfl
 have ea:dY W0 (w.heap.size+1) (.slice x0 c.length U) 105:=by rw[<-bd];exact az (w:=w.alloc (.cells #[.slice none 0 0] 172)) _ (by simp)
 have eb:dY W0 w.heap.size (.slice none 0 0) 172:=by rw[<-bd];exact dY.alloc (w:=w.alloc (.cells #[.slice none 0 0] 172)) (az (w:=w) _ rfl) _
 have cj:Row W0 1 (.slice x0 c.length U) (c.map ar.ptr).length (c.map ar.ptr):=by rw[bW];exact bq.row (Y en) (λbc Q=>⟨id,(Y cv) bc Q⟩)
 have ds:RB w [] (λbc=>bc=w.heap.size) W0:=⟨⟨.slice none 0 0,eb,bC _ _ _ _,λbc=>by simp[Value.ownBlock]⟩,bq⟩;rw[bd];refine CP (α:=Nat×M) (arg:=NU) (m:=3) (V:=OT) (n0:=w.heap.size) (gf:=228) (lb:=#[.pointer (some ⟨w.heap.size+1,0,none⟩)]) (l:=bk (c.map ar.ptr) (c.map ar.ptr).length) (S:=λbc=>bc=w.heap.size+1) ?geval (enters_of func228 (by kernel_rfl) rfl) (λ_=>rfl) (GO w.heap.size 2 (w.heap.size+1) (.slice x0 c.length U) (c.map ar.ptr) W0 ea cj (Y cv) bq.size (by simp;omega)) trivial bq.size ?slt (λba ej ei=>RB w (ba.map (λet=>Value.iface 199 et.2)) ej ei) (λ_ _ _ _=>False) (λbc=>bc=w.heap.size) ds ?sb ?lt ?st (λ_ _ _ _ _ _ bs=>bs.elim) ?body ?done ?stop;case geval=>rfl
 case slt=>
  rintro bc P;omega
 case sb=>
  rintro bc P ey;omega
 case lt=>
  intro ba ej ei bs bc Q;exact bs.lt bc Q
 case st=>
  intro ba ej ei y T bs u p;refine bs.stays u (λbc Q=>⟨(p bc Q).1,?_⟩);rcases(p bc Q).2 with P|P|P
  ·omega
  ·exact P.elim
  ·omega
 case stop=>
  intro ck P ba ej ei _ bs;exact bs.elim
 case body=>
  intro lr ba x ej ei bb R al y hC _;obtain⟨xi,W⟩:=x;obtain⟨D,u⟩:∃D,ba.map (λet=>Value.iface 199 et.2)=D:=⟨_,rfl⟩;have T:D.length<=100000000:=by
   have:=y.length_le;rw[<-u];simp only[bW,ag,aE,cH]at this|-;have hb:∀(a:List M)j,(bk a j).length=j:=λa j=>by induction j with|zero=>rfl|succ j ih=>simp[bk,ih]
   rw[hb]at this;omega
  rw[u]at hC;have HC:=Z hC;have ac:=Z u;clear hC y u;obtain⟨NN,z⟩:∃NN,D.length=NN:=⟨_,rfl⟩;have h:=Z z;unfold NU;simp only;gi_wp2;refine⟨I.refl _ _,λW2 p=>?_⟩;have g:RB w D ej W2:=(Y HC).stays p (λbc Q=>by subst Q;exact⟨R,by omega⟩);obtain⟨v,o,b,k⟩:=g.row;rw[z]at b;have ao:W2.cell? ⟨w.heap.size,0,none⟩=some v:=o.cell;have bf:W2.frozen? ⟨w.heap.size,0,none⟩=false:=o.free;obtain⟨ex,ec,N⟩:=aC b;have G:=ak o;have an:NN<=100000000:=by omega
  have cl:=Z g;have O:=Z o;have f:=Z b;have q:=Z k;have X:=Z p;clear g o b k p T z;subst N;gi_wp2_with(first
   |(gi_at_builtin;refine fg _ rfl (.tmp 27) (.tmp 30) 172 rfl (w.heap.size+1) 175 i0 .nilIface 1 16 underlying172 bT ca cb br rfl (by decide) (.slice ex NN ec) NN D rfl (aM (Y f) (.cells #[Value.iface 199 W] 175)) ⟨W2.heap.size,0,none⟩ 1 1 [Value.iface 199 W] rfl rfl (qZ _ _ _) (Lk rfl) (by omega) (by omega) (by simp;omega) ?_;intro cs w3 a e;obtain⟨bh,bg,rfl⟩:=aC a;have d:dY w3 w.heap.size (.slice ex NN ec) 172:=(e.grown.block _ (ak ((Y O).alloc (.cells #[Value.iface 199 W] 175))) (λP=>by have:=((Y f).lt _ P.symm).1;omega)).trans ((Y O).alloc _);have E:=d.cell;have F:=d.free;clear d;have B:=Z a;have C:=Z e;clear a e))
  obtain⟨B',q1,q2,q3⟩:=(Y cl).more (x:=Value.iface 199 W) (Y O) (Y q) (by rw[Y h];exact Y f) (Y C) (by rw[Y h];exact Y B);have p:=Y X;have br:=p.size;have ad:I (λbc=>ej bc\/bc=lr) ei W2:=p.mono (λbc Q=>.inl (.inr Q));refine⟨trivial,B',?_,ad.trans q2 (λbc Q=>.inl (.inl Q)),q2.block lr (by omega) R,λbc Q=>?_⟩
  ·show RB w ((ba++[(xi,W)]).map (λet=>Value.iface 199 et.2)) B' _;rw[aN,Y ac];exact q1
  ·rcases q3 bc Q with P|P
   ·exact .inl P
   ·exact .inr (by omega)
 case done=>
  intro ck B1 W1 fe hC bn _ hK;have ef:(bk (c.map ar.ptr) (c.map ar.ptr).length).map (λet=>Value.iface 199 et.2)=(c.map Fy).reverse:=by
   rw[bW,MD c _ (ai _),bD]
  rw[ef]at hC;obtain⟨T,W⟩:∃NN,(c.map Fy).reverse.length=NN:=⟨_,rfl⟩;have dv:T<=100000000:=by rw[<-W];simpa using es
  have u:(c.map Fy).reverse++[Aa (.slice x1 r.length H,r)]++[Aa (.slice x2 s.length K,s)]++[Aa (.slice x3 t.length L,t)]=mQ (.slice x0 c.length U,c) (.slice x1 r.length H,r) (.slice x2 s.length K,s) (.slice x3 t.length L,t):=rfl;unfold Aa at u;simp only at u;generalize(c.map Fy).reverse=bt at hC W u;have D:=Z hC;have p:=Z hK;clear hC hK ef;clear bd ea eb cj ds bq;gi_wp2;rw[roundsIn_succ];have ec:W1.cell? ⟨lb,lo+1,none⟩=some (.slice x1 r.length H):=(Y D).ay.cell (Y cl) id cm;gi_wp2;rename_i QQ KK A;apply Cn KK
  ·intro ax;refine vN.2 ?_;go_region
   all_goals exact ax
  refine A _ _ ?_;clear A ec;have g:RB w bt B1 W1.drew:=(Y D).stays (bS (λ_=>False) W1) (λ_ P=>P.elim);have y:W1.drew.heap[ck]?=some (.deferred (some [])):=Y p;generalize W1.drew=U1 at g y|-;clear D p;obtain⟨v,o,b,k⟩:=g.row;rw[W]at b;have ao:U1.cell? ⟨w.heap.size,0,none⟩=some v:=o.cell;have bf:U1.frozen? ⟨w.heap.size,0,none⟩=false:=o.free;obtain⟨db,cE,N⟩:=aC b;have G:=ak o;have O:=Z o;have f:=Z b;have q:=Z k;have D:=Z g;have bb:=Z y;have h:=Z W;clear o b k g y W;subst N;gi_wp2_with(first
   |(gi_at_builtin;refine fg _ rfl (.tmp 18) (.tmp 21) 172 rfl (w.heap.size+1) 175 i0 .nilIface 1 16 underlying172 bT ca cb br rfl (by decide) (.slice db T cE) T bt rfl (aM (Y f) (.cells #[Value.iface 105 (.slice x1 r.length H)] 175)) ⟨U1.heap.size,0,none⟩ 1 1 [Value.iface 105 (.slice x1 r.length H)] rfl rfl (qZ _ _ _) (Lk rfl) (by omega) (by omega) (by simp;omega) ?_;intro cs w3 a e;obtain⟨bh,bg,rfl⟩:=aC a;have d:dY w3 w.heap.size (.slice db T cE) 172:=(e.grown.block _ (ak ((Y O).alloc (.cells #[Value.iface 105 (.slice x1 r.length H)] 175))) (λP=>by have:=((Y f).lt _ P.symm).1;omega)).trans ((Y O).alloc _);have E:=d.cell;have F:=d.free;clear d;have B:=Z a;have C:=Z e;clear a e))
  obtain⟨B2,q1,q2,q3⟩:=(Y D).more (x:=Value.iface 105 (.slice x1 r.length H)) (Y O) (Y q) (by rw[Y h];exact Y f) (Y C) (by rw[Y h];exact Y B);have bo:¬B2 ck:=λP=>(q3 ck P).elim bn (λey=>by have:=ak (Y bb);omega);have z:=(q2.block ck (ak (Y bb)) bn).trans (Y bb);generalize w3.setCell ⟨w.heap.size,0,none⟩ (.slice bh (T+1) bg)=W2 at q1 z|-;have X:(bt++[Value.iface 105 (.slice x1 r.length H)]).length=T+1:=by rw[ag,Y h];rfl
  generalize bt++[Value.iface 105 (.slice x1 r.length H)]=bv at q1 X u;have bi:=Z q1;have cx:=Z z;have ce:T+1<=100000000+1:=by omega
  clear q1 q2 q3 z O f q D bb h C B bn G dv E F;clear ao bf;obtain⟨al,ad⟩:∃x,T+1=x:=⟨_,rfl⟩;rw[ad]at X ce;clear ad;rw[roundsIn_succ];have ed:W2.cell? ⟨lb,lo+2,none⟩=some (.slice x2 s.length K):=(Y bi).ay.cell (Y ek) id cm;gi_wp2;rename_i QQ KK A;apply Cn KK
  ·intro ax;refine vN.2 ?_;go_region
   all_goals exact ax
  refine A _ _ ?_;clear A ed;have g:RB w bv B2 W2.drew:=(Y bi).stays (bS (λ_=>False) W2) (λ_ P=>P.elim);have y:W2.drew.heap[ck]?=some (.deferred (some [])):=Y cx;generalize W2.drew=U2 at g y|-;clear bi cx;obtain⟨v,o,b,k⟩:=g.row;rw[X]at b;have ao:U2.cell? ⟨w.heap.size,0,none⟩=some v:=o.cell;have bf:U2.frozen? ⟨w.heap.size,0,none⟩=false:=o.free;obtain⟨dc,cM,N⟩:=aC b;have G:=ak o;have O:=Z o;have f:=Z b;have q:=Z k;have R:=Z g;have p:=Z y;have h:=Z X;clear o b k g y X;subst N;gi_wp2_with(first
   |(gi_at_builtin;refine fg _ rfl (.tmp 18) (.tmp 21) 172 rfl (w.heap.size+1) 175 i0 .nilIface 1 16 underlying172 bT ca cb br rfl (by decide) (.slice dc al cM) al bv rfl (aM (Y f) (.cells #[Value.iface 105 (.slice x2 s.length K)] 175)) ⟨U2.heap.size,0,none⟩ 1 1 [Value.iface 105 (.slice x2 s.length K)] rfl rfl (qZ _ _ _) (Lk rfl) (by omega) (by omega) (by simp;omega) ?_;intro cs w3 a e;obtain⟨bh,bg,rfl⟩:=aC a;have d:dY w3 w.heap.size (.slice dc al cM) 172:=(e.grown.block _ (ak ((Y O).alloc (.cells #[Value.iface 105 (.slice x2 s.length K)] 175))) (λP=>by have:=((Y f).lt _ P.symm).1;omega)).trans ((Y O).alloc _);have E:=d.cell;have F:=d.free;clear d;have B:=Z a;have C:=Z e;clear a e))
  obtain⟨B3,q1,q2,q3⟩:=(Y R).more (x:=Value.iface 105 (.slice x2 s.length K)) (Y O) (Y q) (by rw[Y h];exact Y f) (Y C) (by rw[Y h];exact Y B);have bp:¬B3 ck:=λP=>(q3 ck P).elim bo (λey=>by have:=ak (Y p);omega);have z:=(q2.block ck (ak (Y p)) bo).trans (Y p);generalize w3.setCell ⟨w.heap.size,0,none⟩ (.slice bh (al+1) bg)=W3 at q1 z|-;have ac:(bv++[Value.iface 105 (.slice x2 s.length K)]).length=al+1:=by rw[ag,Y h];rfl
  generalize bv++[Value.iface 105 (.slice x2 s.length K)]=bx at q1 ac u;have bl:=Z q1;have cB:=Z z;have ch:al+1<=100000000+2:=by omega
  clear q1 q2 q3 z O f q R p h C B bo G ce E F;clear ao bf;obtain⟨an,ad⟩:∃x,al+1=x:=⟨_,rfl⟩;rw[ad]at ac ch;clear ad;rw[roundsIn_succ];have ee:W3.cell? ⟨lb,lo+3,none⟩=some (.slice x3 t.length L):=(Y bl).ay.cell (Y el) id cm;gi_wp2;rename_i QQ KK A;apply Cn KK
  ·intro ax;refine vN.2 ?_;go_region
   all_goals exact ax
  refine A _ _ ?_;clear A ee;have g:RB w bx B3 W3.drew:=(Y bl).stays (bS (λ_=>False) W3) (λ_ P=>P.elim);have y:W3.drew.heap[ck]?=some (.deferred (some [])):=Y cB;generalize W3.drew=U3 at g y|-;clear bl cB;obtain⟨v,o,b,k⟩:=g.row;rw[ac]at b;have ao:U3.cell? ⟨w.heap.size,0,none⟩=some v:=o.cell;have bf:U3.frozen? ⟨w.heap.size,0,none⟩=false:=o.free;obtain⟨dk,cT,N⟩:=aC b;have G:=ak o;have O:=Z o;have f:=Z b;have q:=Z k;have R:=Z g;have p:=Z y;have h:=Z ac;clear o b k g y ac;subst N;gi_wp2_with(first
   |(gi_at_builtin;refine fg _ rfl (.tmp 18) (.tmp 21) 172 rfl (w.heap.size+1) 175 i0 .nilIface 1 16 underlying172 bT ca cb br rfl (by decide) (.slice dk an cT) an bx rfl (aM (Y f) (.cells #[Value.iface 105 (.slice x3 t.length L)] 175)) ⟨U3.heap.size,0,none⟩ 1 1 [Value.iface 105 (.slice x3 t.length L)] rfl rfl (qZ _ _ _) (Lk rfl) (by omega) (by omega) (by simp;omega) ?_;intro cs w3 a e;obtain⟨bh,bg,rfl⟩:=aC a;have d:dY w3 w.heap.size (.slice dk an cT) 172:=(e.grown.block _ (ak ((Y O).alloc (.cells #[Value.iface 105 (.slice x3 t.length L)] 175))) (λP=>by have:=((Y f).lt _ P.symm).1;omega)).trans ((Y O).alloc _);have E:=d.cell;have F:=d.free;clear d;have B:=Z a;have C:=Z e;clear a e))
  obtain⟨B4,q1,q2,q3⟩:=(Y R).more (x:=Value.iface 105 (.slice x3 t.length L)) (Y O) (Y q) (by rw[Y h];exact Y f) (Y C) (by rw[Y h];exact Y B);have dn:¬B4 ck:=λP=>(q3 ck P).elim bp (λey=>by have:=ak (Y p);omega);have z:=(q2.block ck (ak (Y p)) bp).trans (Y p);generalize w3.setCell ⟨w.heap.size,0,none⟩ (.slice bh (an+1) bg)=W4 at q1 z|-;have cd:(bx++[Value.iface 105 (.slice x3 t.length L)]).length=an+1:=by rw[ag,Y h];rfl
  generalize bx++[Value.iface 105 (.slice x3 t.length L)]=ev at q1 cd u;have cc:=Z q1;have em:=Z z;have dx:an+1<=100000000+3:=by omega
  clear q1 q2 q3 z O f q R p h C B bp G ch E F;clear ao bf;obtain⟨eu,ad⟩:∃x,an+1=x:=⟨_,rfl⟩;rw[ad]at cd dx;clear ad;rw[roundsIn_succ];obtain⟨v,o,b,k⟩:=(Y cc).row;have ao:W4.cell? ⟨w.heap.size,0,none⟩=some v:=o.cell;obtain⟨fd,fb,N⟩:=aC b;have f:=Z b;have q:=Z k;subst N;clear o b k;gi_wp2;have eg:=dp W4 ck (.deferred none);refine⟨by simp,.inl ⟨_,_,rfl,run_takeDeferred (Y em),?_⟩⟩;refine⟨_,iL rfl _ _ _,?_⟩;have b:=Y f;have hB:=Y q;rw[u]at b hB;have hx:=eg.own b (λbc Q P=>dn ((hB ck).2 (.inr (by rw[<-P];exact Q))));refine⟨_,rfl,?_,(Y cc).ay.trans eg (λbc Q=>.inr (by subst Q;omega))⟩;obtain⟨h1,⟨h2,h0⟩|⟨fl,ex,eo,h2,hb,cp⟩⟩:=hx
  ·exact⟨h1,.inl ⟨h2,h0⟩⟩
  ·exact⟨h1,.inr ⟨fl,ex,eo,h2,by omega,cp⟩⟩
end
def xQ.ay{w w':J}{lb o:Nat}{d:List (M×List ar)}{S:Nat->Prop}(h:xQ w lb o d)(g:I S w w')(r:¬S lb)(y:∀i(a:i<d.length),∀k,d[i].1.ownBlock=some k->¬S k):xQ w' lb o d:=⟨h.len,λi a=>g.cell (h.cell i a) r h.lt,λi a=>g.row (h.row i a) (λk e=>⟨y i a k e,h.lM i a k e⟩),λi a k e=>ah (h.lM i a k e) g.size,h.small⟩
def lH{w:J}{base m n b:Nat}{d:Addr}{e:List M}(o:w.ownsRow base m 1 (.slice (some d) n b) n e):∀j u,e[j]?=some u->w.cell? (d.add j)=some u:=by
 intro j u a;obtain⟨p,⟨c,_⟩|⟨x,l,f,c,q,g,s,r,t,h⟩⟩:=o
 ·cases c
 ·cases c;rw[ct,aj g,cw];rw[<-h,jF]at a;split at a
  ·simpa using a
  ·cases a
def uP(a:M)(b c d e:M×List ar):List M:=.iface 102 a::mQ b c d e
def Df(w:J)(sb:Nat)(ba:SR)(an:Int)(o p q r:M×List ar)(Q:bX w sb ba an)(d:Option Addr)(c b:Nat)(F:ba.memory=.slice d c b)(hl:xQ w sb 10 [o,p,q,r]):Calls prog 87 #[.pointer (some ⟨sb,0,none⟩)] w λbd w'=>∃v',bd=.returned v'/\w'.ownsRow w.heap.size 175 1 v' ((mQ o p q r).length+1) (uP ba.memory o p q r)/\I (λ_=>False) w w':=by
 obtain⟨i0,X,ac,ad,al⟩:=bK Cc;have t:w.cell? ⟨sb,7,none⟩=some ba.memory:=Q.cell rfl;have h:=ak Q;have g:=Z (λW(L:I (λ_=>False) w W)=>FX W sb 10 o p q r (hl.ay L id (λ_ _ _ _=>id)));have D:(mQ o p q r).length<=100000003/\1<=(mQ o p q r).length:=by
  have:=hl.small;simp[mQ,jm]at this|-;omega
 have G:∀u∈mQ o p q r,u.oneCell'=true:=by
  intro u a;simp only[mQ,aw,gh,aZ,bE]at a;rcases a with((⟨f,_,rfl⟩|rfl)|rfl)|rfl<;>rfl
 obtain⟨n,hn⟩:∃n,(mQ o p q r).length=n:=⟨_,rfl⟩;rw[hn]at D;unfold uP;rw[F]at t|-;generalize bf:mQ o p q r=VS at*;clear Q hl F;go_enter func87,ntmps87
 go_wp2_with fail
 rename_i QQ KK B;refine bM (λbb=>bb.cell? ⟨sb,7,none⟩=some (.slice d c b)) 11 (by kernel_rfl) ?_;have z:w.drew.cell? ⟨sb,7,none⟩=some (.slice d c b):=t;refine cz 0 ?_;iterate 5 (refine cy (v:=?_) z rfl (by kernel_rfl) (λ_ _ _ Q=>Q) (Or.inl ⟨by rfl,?_⟩) ?_;rotate_left;(focus(intro bb hX;go_simp;try with_reducible rfl));simp only[Act.put,Nat.reduceAdd,ab,ae,af])
 refine dG ?_;refine cz 6 ?_;iterate 3 (refine cy (v:=?_) z rfl (by kernel_rfl) (λ_ _ _ Q=>Q) (Or.inl ⟨by rfl,?_⟩) ?_;rotate_left;(focus(intro bb hX;go_simp;try with_reducible rfl));simp only[Act.put,Nat.reduceAdd,ab,ae,af])
 refine dG ?_;have s:∀(W:J)(K:Nat),W.heap[K]?=some (.cells #[.iface 102 (.slice d c b)] 175 (0,0))->w.heap.size<=K->W.ownsRow w.heap.size 175 1 (.slice (some ⟨K,0,none⟩) 1 1) 1 [.iface 102 (.slice d c b)]:=by
  intro W K U a;exact⟨rfl,.inr ⟨K,1,#[.iface 102 (.slice d c b)],rfl,a,U,ai _,by unfold maxLen;omega,rfl,rfl⟩⟩
 refine pK (α:=Nat×M) (λO W=>I (λ_=>False) w W/\W.heap[O.1]?=some (.cells #[.iface 102 (.slice d c b)] 175 (0,0))/\w.heap.size<=O.1/\W.ownsRow w.heap.size 175 1 O.2 n VS/\O.2.ownBlock≠some O.1) (λO=>{tmps:=#[.pointer (some ⟨sb,0,none⟩),undef,.slice none 0 0,.pointer (some ⟨sb,0,none⟩),.pointer (some ⟨sb,0,none⟩),.pointer (some ⟨sb,7,none⟩),.slice d c b,.iface 102 (.slice d c b),.slice (some ⟨O.1,0,none⟩) 1 1,.pointer (some ⟨sb,0,none⟩),.pointer (some ⟨sb,0,none⟩),.pointer (some ⟨sb,10,none⟩),O.2,undef],defers:=[]}) #[true,true,true,true,true,true,true,true,true,true,false,false] 2 ?_ ?_
 ·intro H;refine oN (i:=5) (j:=9) rfl rfl rfl rfl (by kernel_rfl) ?_ ?_
  ·intro ao R;go_simp;have u:I (λ_=>False) w (w.alloc (.cells #[.iface 102 (.slice d c b)] 175)).drew:=((I.refl (λ_=>False) w).alloc _).of_heap rfl;have C:(w.alloc (.cells #[.iface 102 (.slice d c b)] 175)).drew.heap[w.heap.size]?=some (.cells #[.iface 102 (.slice d c b)] 175 (0,0)):=az (w:=w) _ rfl;refine R _ _ (λ_=>u.cell t id h) ?_;refine aI (i:=9) rfl rfl (by kernel_rfl) ?_;intro K2 e;go_simp;refine((Y g) _ u).mono ?_;rintro bd N⟨v1,rfl,a,k⟩;have P:=(k.block _ (ak C) id).trans C;have f:=u.trans k (λ_ y=>y.elim);refine e _ _ (λ_=>f.cell t id h) ?_;have E:=λan b=>(a.lt an b).1;simp at E;refine ie (H (w.heap.size,v1) N ⟨f,P,ai _,?_,?_⟩) (by kernel_rfl)
   ·rw[hn]at a;obtain⟨q1,⟨q2,q0⟩|⟨bh,cp,A,q2,qb,x⟩⟩:=a
    ·exact⟨q1,.inl ⟨q2,q0⟩⟩
    ·exact⟨q1,.inr ⟨bh,cp,A,q2,by simp at qb;omega,x⟩⟩
   ·intro y;have:=E _ y;omega
  ·intro ao R;go_simp;refine((Y g) _ (bS _ w)).mono ?_;rintro bd N⟨v1,rfl,a,k⟩;have f:I (λ_=>False) w N:=(bS (λ_=>False) w).trans k (λ_ y=>y.elim);refine R _ _ (λ_=>f.cell t id h) ?_;refine aI (i:=5) rfl rfl (by kernel_rfl) ?_;intro K2 e;go_simp;have u:=f.alloc (.cells #[.iface 102 (.slice d c b)] 175);refine e _ _ (λ_=>u.cell t id h) ?_;refine ie (H (N.heap.size,v1) _ ⟨u,az _ rfl,f.size,?_,?_⟩) (by kernel_rfl)
   ·rw[hn]at a;exact aM a _
   ·intro y;have:=(a.lt _ y).2;omega
 ·rintro⟨K,ao⟩W⟨L,U,E,H,bg⟩;have x:=s W K U E;obtain⟨ax,a,rfl⟩:∃b y,ao=.slice (some b) n y:=by
   rcases H.2 with⟨_,h0⟩|⟨bh,bc,A,h2,_⟩
   ·omega
   ·exact⟨_,_,h2⟩
  refine aI (i:=10) rfl rfl (by kernel_rfl) ?_;intro K2 e;simp only[av,am,ap];refine ix (.tmp 8) (.tmp 12) 172 rfl w.heap.size 175 i0 .nilIface 1 16 underlying172 X ac ad al rfl (by decide) (.slice (some ⟨K,0,none⟩) 1 1) 1 [.iface 102 (.slice d c b)] rfl x ax n a VS rfl H.1 ?_ G (by omega) (by omega) L.size ?_
  ·exact lH H
  intro v3 w3 k C;obtain⟨x3,c3,R⟩:=aC k;subst R;have f:I (λ_=>False) w w3:=L.trans (I.bz (S:=λan=>an=K) C.grown (by rintro an⟨⟩;exact .inl rfl)) (by rintro an rfl;exact .inr E);refine e _ _ (λ_=>f.cell t id h) ?_;simp only[Act.put,ab,ae,af];refine aI (i:=11) rfl rfl (by kernel_rfl) ?_;intro K3 u;go_simp;refine u _ _ (λy=>(y rfl).elim) ?_;refine cr (by kernel_rfl) ?_ _;show KK _ _;refine B _ _ ?_;have N:=Z k;have P:=Z f;clear B e u k C f x H s;go_wp2;go_ret;refine⟨_,rfl,?_,Y P⟩;rw[show n+1=1+n from uC _ _];exact Y N
def kQ(V:gz)(g:Nat)(h:M)(e:List E)(w:J):Prop:=∃t v f b,h=.iface t v/\(∀w,(Go.method 513 t v "Find").run prog w=.ok (f,b) w)/\Enters prog f/\∀a d,ia V g (λ_=>False) w d->V.D d->Calls prog f #[b,.string a] d λi c=>i=.returned (pm (fD e a))/\V.D c/\I V.F d c
def JB(v:M)(w:J):(Go.method 513 105 v "Find").run prog w=.ok (285,v) w:=by kernel_rfl
def JA(v:M)(w:J):(Go.method 513 199 v "Find").run prog w=.ok (287,v) w:=by kernel_rfl
def Me(v:M)(w:J):(Go.method 513 102 v "Find").run prog w=.ok (281,v) w:=by kernel_rfl
def kQ.sW{V:gz}{a:Nat}{v:M}{d:List ar}{w:J}(h:nI V a v d w)(b:a<=w.heap.size)(hF:∀k,V.F k->k<a):kQ V a (.iface 105 v) (bN d) w:=⟨_,v,_,v,rfl,JB v,enters_of func285 (by kernel_rfl) rfl,λc g e f=>Jj V a v d c g (h.same e) f (aB b e.1) hF⟩
def kQ.table{V:gz}{a:Nat}{t:ar}{w:J}(h:kA V a t.tb t.ks t.cs w)(b:a<=w.heap.size)(hF:∀k,V.F k->k<a):kQ V a (.iface 199 t.ptr) t.all w:=⟨_,t.ptr,_,t.ptr,rfl,JA t.ptr,enters_of func287 (by kernel_rfl) rfl,λc f d e=>wP V a t.tb t.ks t.cs c f (h.same d) e (aB b d.1) hF⟩
def nT.same{V:gz}{n0:Nat}{w w':J}{v:M}{l:List E}(r:nT w v l)(hs:ia V n0 (λ_=>False) w w')(j:∀e,v.ownBlock=some e->e<n0/\¬V.F e):nT w' v l:=by
 obtain⟨d,⟨rfl,g⟩|⟨o,c,a,rfl,b,h⟩⟩:=r
 ·exact⟨d,.inl ⟨rfl,g⟩⟩
 ·exact⟨d,.inr ⟨o,c,a,rfl,b,λr u g=>hs.cell (.inr (j o rfl)) (h r u g)⟩⟩
def kQ.list{V:gz}{e:Nat}{v:M}{l:List E}{w:J}(m:nT w v l)(j:fG l)(i:l.length<=1000000000000)(g:∀f,v.ownBlock=some f->f<e/\¬V.F f)(c:e<=w.heap.size):kQ V e (.iface 102 v) l w:=by
 refine⟨_,v,_,v,rfl,Me v,enters_of func281 (by kernel_rfl) rfl,λd k a h=>?_⟩;refine(vi v l d k (m.same a g) j i (λf b=>ah (ah (g f b).1 c) a.1)).mono ?_;rintro o n⟨rfl,b⟩;exact⟨rfl,V.dF h (I.aR (S:=λ_=>False) b) (λ_ c=>c.elim),I.aR b⟩
def kQ.same{V:gz}{n0:Nat}{d:M}{c:List E}{w w':J}(a:kQ V n0 d c w)(hs:ia V n0 (λ_=>False) w w'):kQ V n0 d c w':=by
 obtain⟨t,v,f,b,e,g,h,j⟩:=a;exact⟨t,v,f,b,e,g,h,λa u o r=>j a u (hs.trans o) r⟩
def qH(a:aa)(R:List (M×List E)):Option E:=R.findSome? (λr=>fD r.2 a)
def Ju:Option E->M
 |some x=>.tuple #[.string x.val,.bool (!x.del),.nilIface]
 |none=>.tuple #[.string ⟨#[]⟩,.bool false,.nilIface]
def KI{a:aa}{R:List (M×List E)}{n:Nat}(h:n<R.length)(b:qH a (R.take n)=none):qH a R=(fD R[n].2 a).or (qH a (R.drop (n+1))):=by
 have e:R=R.take n++R[n]::R.drop (n+1):=by rw[<-bm h,bF]
 unfold qH at*;conv=>lhs;rw[e]
 rw[se,b,List.findSome?_cons];cases fD R[n].2 a<;>rfl
def Mc(w:J)(sb:Nat)(a:aa)(c:¬(1<=a.size/\a.size<=8))(d:a.size<=140737488351232):Calls prog 55 #[.pointer (some ⟨sb,0,none⟩),.string a] w λg e=>g=.returned (.tuple #[.string ⟨#[]⟩,.bool false,kr 3])/\e=w:=by
 have b:=λW=>mX a W d;rw[nL c]at b;go_enter func55,ntmps55
 go_wp2_with(go_at_call 63;refine(b _).mono ?_;rintro g h⟨rfl,rfl⟩)
 refine bO (nX rfl _ _ _) rfl ?_;exact⟨rfl,rfl⟩
def Md(V:gz)(n0:Nat)(w:J)(sb:Nat)(bt:SR)(K:Int)(p0 p1 p2 p3:M×List ar)(R:List (M×List E))(a:aa)(bs:bX w sb bt K)(mx:Option Addr)(mn mc:Nat)(al:bt.memory=.slice mx mn mc)(hl:xQ w sb 10 [p0,p1,p2,p3])(z:R.map (·.1)=uP bt.memory p0 p1 p2 p3)(hR:∀bn(hi:bn<R.length),kQ V n0 R[bn].1 R[bn].2 w)(hD:V.D w)(bi:n0<=w.heap.size)(hF:∀K,V.F K->K<n0)(L:1<=a.size/\a.size<=8)(bb:∀ck∈R,∀x∈ck.2,x.val.size<=281474976710656):Calls prog 55 #[.pointer (some ⟨sb,0,none⟩),.string a] w λbo w'=>bo=.returned (Ju (qH a R))/\V.D w'/\I V.F w w':=by
 have B:=λbv=>mX a bv (by omega);rw[oF L]at B;have F:=Df w sb bt K p0 p1 p2 p3 bs mx mn mc al hl;have i:(mQ p0 p1 p2 p3).length+1=R.length:=by
  have:=bB List.length z;simp[uP]at this;omega
 rw[<-z,i]at F;have bp:R.length<=1000000000:=by
  have:=hl.small;rw[<-i];simp[mQ,jm]at this|-;omega
 have HR:=Z hR;have HD:=Z hD;have HF:=Z hF;have bf:=Z bb;clear bs hl al z hR hD hF i bb;go_enter func55,ntmps55
 go_wp2_with fail
 refine(B _).mono ?_;rintro bo w1⟨rfl,cd⟩;subst w1;go_wp2_with fail
 refine F.mono ?_;rintro bo w1⟨v1,rfl,C,ba⟩;obtain⟨x1,c1,bk⟩:=aC C;subst bk;have P:=Z C;have Q:=Z ba;clear C ba F B;go_wp2_with fail
 go_loopw [19] (λbn wr=>∃q:Nat,q<=R.length/\bn=.int .i64 q/\V.D wr/\I V.F w1 wr/\qH a (R.take q)=none) (λbn _=>R.length-(intOf bn).toNat)
 case atStart=>exact⟨0,aU _,rfl,V.dF (Y HD) (Y Q) (λ_ m=>m.elim),I.refl _ _,rfl⟩
 case round=>
  obtain⟨q,hn,rfl,e,l,b⟩:=hrel;have j:I V.F w wr:=((Y Q).mono (T:=V.F) (λ_ m=>m.elim)).trans l (λ_ m=>.inl m);by_cases c:q<R.length
  ·obtain⟨ch,cj,f,ce,ao,hm,he,h⟩:=(Y HR) q c;have eg:∀args w,(callFunc f args).run prog w=.ok (.enter f args) w:=he;have n:=h a wr (j.same bi (λ_ m=>m.elim) (λK L _=>L)) e;have an:∀K,w.heap.size<=K->¬V.F K:=λK L a=>by have:=(Y HF) K a;omega
   have D:=l.own (Y P) (λK L=>an K ((Y P).lt K L).1);obtain⟨bq,hx,cc⟩:∃bq,x1=some ⟨bq,0,none⟩/\wr.cell? ⟨bq,q,none⟩=some (.iface ch cj):=by
    rcases D.2 with⟨g,A⟩|⟨y,o,r,g,_⟩
    ·omega
    ·cases g;refine⟨y,rfl,?_⟩;have:=lH D q (.iface ch cj) (by rw[cP,aA c];simp[ao]);rwa[ct,cw]at this
   subst hx;have ac:=KI c b;have ax:qH a (R.take (q+1))=fD R[q].2 a:=by
    rw[aq c];unfold qH at b|-;rw[se,b];cases bs:fD R[q].2 a<;>simp[bs]
   have H:∀x,fD R[q].2 a=some x->x.val.size<=281474976710656:=λx hx=>(Y bf) _ (au c) x (je hx);have N:=Z e;have bd:=Z l;have u:=Z j;have O:=Z ac;have bc:=Z ax;have e1:(q:Int)<(R.length:Int):=by omega
   clear e l j ao he h b D an ac ax;cases hfe:fD R[q].2 a with
   |none=>
    rw[hfe]at n;unfold pm tQ at n;simp only at n;have t:=Z hfe;clear hfe H;go_wp2_with fail
    refine n.mono ?_;rintro bo p⟨rfl,d,k⟩;have s:=Z d;have v:=Z k;clear d k n;go_wp2;go_roundw;case rel=>
     refine⟨q+1,c,by go_num,V.dF (Y s) ((I.refl (λ_=>False) p).alloc _) (λ_ m=>m.elim),?_,?_⟩
     ·exact((Y bd).trans (Y v) (λ_ m=>.inl m)).alloc _
     ·rw[Y bc,Y t]
    case measure=>simp[intOf];omega
   |some x=>
    have bl:=H x hfe;rw[hfe]at n;unfold pm E.value at n;simp only at n;have bh:=λbv=>qY x.val bv bl;have br:∀(x:Bool)(w:J),(Op.unary .not (.bool x)).run prog w=.ok (.bool (!x)) w:=λ_ _=>rfl;have t:=Z hfe;clear hfe H;go_wp2_with fail
    refine n.mono ?_;rintro bo p⟨rfl,d,k⟩;have s:=Z d;have v:=Z k;clear d k n;go_wp2_with fail
    have g:fX (p.alloc (.cells #[.string x.key,.string x.val,.bool x.del,.int .u64 x.bV] 177)) p.heap.size x:=az _ rfl;have A:I V.F w (p.alloc (.cells #[.string x.key,.string x.val,.bool x.del,.int .u64 x.bV] 177)):=((Y u).trans (Y v) (λ_ m=>.inl m)).alloc _;have y:V.D (p.alloc (.cells #[.string x.key,.string x.val,.bool x.del,.int .u64 x.bV] 177)):=V.dF (Y s) ((I.refl (λ_=>False) p).alloc _) (λ_ m=>m.elim);generalize p.alloc (.cells #[.string x.key,.string x.val,.bool x.del,.int .u64 x.bV] 177)=W3 at g A y|-;generalize p.heap.size=eb at g|-;obtain⟨bx,bT,bg,ca⟩:=g.cells;have ad:=ak g;have HA:=Z (show∀r,Below W3.heap.size W3.drew r->r.cell? ⟨eb,2,none⟩=some (.bool x.del)/\V.D r/\I V.F w r from by
     intro r o;have G:I (λ_=>False) W3 r:=(bS (λ_=>False) W3).trans (I.aR (S:=λ_=>False) o) (λ_ m=>m.elim);exact⟨G.cell bg id ad,V.dF y G (λ_ m=>m.elim),A.trans G (λ_ m=>m.elim)⟩)
    clear g A y;go_region_with(first|(go_at_call 88;refine(bh _).mono ?_;rintro bo r⟨rfl,o⟩;obtain⟨cb,W,X⟩:=(Y HA) r o;have U:=Z (bj W X);clear W X o))
    all_goals(go_wp2;refine bO (nX rfl _ _ _) rfl ?_;exact⟨by rw[Y O,Y t];rfl,(Y U).1,(Y U).2⟩)
  ·have d:q=R.length:=by omega
   rw[d,bD]at b;have g:=Z b;have N:=Z e;have u:=Z j;have e1:¬(q:Int)<(R.length:Int):=by omega
   clear b e j l d;go_wp2;refine bO (nX rfl _ _ _) rfl ?_;exact⟨by rw[Y g];rfl,Y N,Y u⟩
structure Aside(w:J)(K:DK)(db sb k:Nat):Prop where
 lt:k<w.heap.size
 aS:¬K.aS db k
 ne:k≠sb
def Aside.eA{w d:J}{a sb k:Nat}{K b:DK}(h:Aside w K a sb k)(c:eN w d a sb K b):Aside d b a sb k:=⟨ah h.lt c.ay.size,λe=>(c.aS k e).elim h.aS (λg=>by have:=h.lt;omega),h.ne⟩
def Aside.block{w w':J}{d sb k:Nat}{K e:DK}(h:Aside w K d sb k)(g:eN w w' d sb K e):w'.heap[k]?=w.heap[k]?:=g.ay.block k h.lt (λc=>c.elim h.aS h.ne)
def Aside.cell{w w':J}{a sb k i:Nat}{u:M}{K d:DK}(h:Aside w K a sb k)(g:eN w w' a sb K d)(e:w.cell? ⟨k,i,none⟩=some u):w'.cell? ⟨k,i,none⟩=some u:=(bI (w:=w) (h.block g)).trans e
def sN{w e:J}{d sb a n:Nat}{K g:DK}{v:M}{f:List M}(j:Row w a v n f)(h:eN w e d sb K g)(b:∀k,v.ownBlock=some k->Aside w K d sb k):Row e a v n f:=h.ay.row j (λk c=>⟨λi=>i.elim (b k c).aS (b k c).ne,(b k c).lt⟩)
structure nR(w:J)(db:Nat)(fs:Fs)(A:Nat->Prop)(t:ar):Prop where
 mem:∃bb boff bJ,js w t.tb (.pointer (some ⟨db,0,none⟩)) t.num (cC t.cs).length (dz (aW 0 t.cs)).length (jv (dz (aW 0 t.cs))) bb boff bJ (.slice none 0 0) t.ks/\A bb
 loc:A t.tb
 ks:t.ks=aW 0 t.cs
 num:t.num<18446744073709551616
 pure:pF t.ks t.cs
 idx:CK (aW 0 t.cs)
 small:(cC t.cs).length<=100000
 file:cR fs (eM t.num)=some (jD t.cs)
def nR.eA{w e:J}{b sb:Nat}{K c:DK}{t:ar}(h:nR w b (vw K.files) (Aside w K b sb) t)(d:eN w e b sb K c)(k:cR (vw c.files) (eM t.num)=cR (vw K.files) (eM t.num)):nR e b (vw c.files) (Aside e c b sb) t:=by
 obtain⟨j,a,bJ,n,g⟩:=h.mem;exact⟨⟨j,a,bJ,n.dh (h.loc.block d) (g.block d),g.eA d⟩,h.loc.eA d,h.ks,h.num,h.pure,h.idx,h.small,k.trans h.file⟩
structure Kf(w:J)(K:DK)(db sb:Nat):Prop where
 steps:Steps w
 pow:Pow w
 dQ:Aside w K db sb 1
 jB:Aside w K db sb 3
def Kf.eA{w d:J}{b sb:Nat}{K c:DK}(h:Kf w K b sb)(a:eN w d b sb K c):Kf d c b sb:=⟨λk e=>h.dQ.cell a (h.steps k e),h.pow.dh (h.jB.block a),h.dQ.eA a,h.jB.eA a⟩
structure EU(w:J)(K:DK)(db sb:Nat)(v:M)(ts:List ar):Prop where
 row:Row w 1 v ts.length (ts.map ar.ptr)
 loc:∀k,v.ownBlock=some k->Aside w K db sb k
 each:∀t∈ts,nR w db (vw K.files) (Aside w K db sb) t
def EU.eA{w g:J}{b sb:Nat}{K a:DK}{v:M}{d:List ar}(h:EU w K b sb v d)(c:eN w g b sb K a)(j:∀t∈d,cR (vw a.files) (eM t.num)=cR (vw K.files) (eM t.num)):EU g a b sb v d:=⟨sN h.row c h.loc,λn k=>(h.loc n k).eA c,λt e=>(h.each t e).eA c (j t e)⟩
def jl{a:List ar}(h:∀t∈a,pF t.ks t.cs):a.length<=(bN a).length:=by
 induction a with
 |nil=>simp
 |cons t r c=>
  obtain⟨x,b,_⟩:=(h t (by simp)).sY;have d:1<=t.all.length:=List.length_pos_of_mem b;have e:=c (λu a=>h u (by simp[a]));have f:(bN (t::r)).length=t.all.length+(bN r).length:=by simp[bN]
  simp only[aE];omega
structure ST(w:J)(sb:Nat)(s:SR)(K:DK)(m:List E)(a b c d:List ar)(C:Nat):Prop where
 mem:nT w s.memory m
 rI:∀k,s.memory.ownBlock=some k->Aside w K s.aH sb k
 l0:EU w K s.aH sb s.l0 a
 l1:EU w K s.aH sb s.l1 b
 l2:EU w K s.aH sb s.l2 c
 l3:EU w K s.aH sb s.l3 d
 aH:bR w s.aH K
 rf:¬K.aS s.aH sb
 ju:Kf w K s.aH sb
 mG:m.length+(bN a).length+(bN b).length+(bN c).length+(bN d).length<=C
 jU:C<=1000000
 li:fG m
 gU:∀x∈m,x.Good
 s1:jp b
 s2:jp c
 s3:jp d
def ST.len{w:J}{sb:Nat}{s:SR}{K:DK}{m:List E}{a b c d:List ar}{C:Nat}(h:ST w sb s K m a b c d C):m.length<=2000000:=by have:=h.mG;have:=h.jU;omega
def ST.count{w:J}{sb:Nat}{s:SR}{K:DK}{m:List E}{b d c e:List ar}{C:Nat}(h:ST w sb s K m b d c e C):b.length+d.length+c.length+e.length<=2000000:=by
 have:=h.mG;have:=h.jU;have:=jl (λt a=>(h.l0.each t a).pure);have:=jl h.s1.pure;have:=jl h.s2.pure;have:=jl h.s3.pure;omega
def ST.eA{w d:J}{sb:Nat}{s:SR}{K c:DK}{m:List E}{j k e n:List ar}{C:Nat}(h:ST w sb s K m j k e n C)(g:sb<w.heap.size)(a:eN w d s.aH sb K c)(b:vw c.files=vw K.files):ST d sb s c m j k e n C where
 mem:=sN h.mem a h.rI
 rI:=λe b=>(h.rI e b).eA a
 l0:=h.l0.eA a (λ_ _=>by rw[b])
 l1:=h.l1.eA a (λ_ _=>by rw[b])
 l2:=h.l2.eA a (λ_ _=>by rw[b])
 l3:=h.l3.eA a (λ_ _=>by rw[b])
 aH:=a.ok
 rf:=λe=>(a.aS sb e).elim h.rf (λb=>by omega)
 ju:=h.ju.eA a
 mG:=h.mG
 jU:=h.jU
 li:=h.li
 gU:=h.gU
 s1:=h.s1
 s2:=h.s2
 s3:=h.s3
def oV(s:SR)(m:List E)(a b c d:List ar):List (M×List E):=(.iface 102 s.memory,m)::(((a.map (λt=>(Fy t,t.all))).reverse)++[(Aa (s.l1,b),bN b)]++[(Aa (s.l2,c),bN c)]++[(Aa (s.l3,d),bN d)])
def AC(s:SR)(m:List E)(a b c d:List ar):(oV s m a b c d).map (·.1)=uP s.memory (s.l0,a) (s.l1,b) (s.l2,c) (s.l3,d):=by
 simp[oV,uP,mQ,qy]
def ST.PS{w:J}{sb:Nat}{s:SR}{k:Int}{K:DK}{m:List E}{c d e g:List ar}{C:Nat}(h:ST w sb s K m c d e g C)(a:bX w sb s k):xQ w sb 10 [(s.l0,c),(s.l1,d),(s.l2,e),(s.l3,g)]:=by
 refine⟨rfl,λi b=>?_,λi b=>?_,λi b=>?_,?_⟩
 ·have:i=0\/i=1\/i=2\/i=3:=by simp at b;omega
  rcases this with rfl|rfl|rfl|rfl<;>exact a.cell rfl
 ·have:i=0\/i=1\/i=2\/i=3:=by simp at b;omega
  rcases this with rfl|rfl|rfl|rfl
  ·exact h.l0.row
  ·exact h.l1.row
  ·exact h.l2.row
  ·exact h.l3.row
 ·have:i=0\/i=1\/i=2\/i=3:=by simp at b;omega
  rcases this with rfl|rfl|rfl|rfl
  ·exactλk a=>(h.l0.loc k a).lt
  ·exactλk a=>(h.l1.loc k a).lt
  ·exactλk a=>(h.l2.loc k a).lt
  ·exactλk a=>(h.l3.loc k a).lt
 ·have:=h.count;simp[jm];omega
def ku(a:Nat)(K:DK):gz:=vC a K.files K.cY (K.aS a)
def Bw{w:J}{a sb:Nat}{K:DK}{t:ar}(h:nR w a (vw K.files) (Aside w K a sb) t)(b:Kf w K a sb):kA (vC a K.files K.cY (K.aS a)) w.heap.size t.tb t.ks t.cs w:=by
 obtain⟨f,c,bJ,i,e⟩:=h.mem;obtain⟨j,g,d⟩:=gJ h.file;refine kA.He a K.files K.cY (K.aS a) w.heap.size t.tb t.num h.num _ _ _ f c bJ (.slice none 0 0) t.ks t.cs j (dz (aW 0 t.cs)) w i h.pure g d ?_ ⟨h.loc.lt,h.loc.aS⟩ ⟨e.lt,e.aS⟩ b.steps ⟨b.dQ.lt,b.dQ.aS⟩ b.pow ⟨b.jB.lt,b.jB.aS⟩;rw[d];have k:=iV (λb a=>(h.idx.can b a).fits);have:=h.small;have:=h.idx.len;unfold jD dz;rw[ag,ag,bw];omega
def tJ{w:J}{a sb:Nat}{K:DK}{v:M}{b:List ar}(h:EU w K a sb v b)(d:Kf w K a sb)(f:jp b)(e:b.length<=1000000000):nI (vC a K.files K.cY (K.aS a)) w.heap.size v b w:=⟨h.row,λk c=>⟨(h.loc k c).lt,(h.loc k c).aS⟩,λt g=>Bw (h.each t g) d,f,e⟩
def Hm{w:J}{a:Nat}{K:DK}(b:bR w a K)(c:∀k,K.aS a k->k<w.heap.size):(vC a K.files K.cY (K.aS a)).D w:=⟨c,K,b,rfl,rfl,λ_ h=>h⟩
def ST.Nr{w:J}{sb:Nat}{s:SR}{K:DK}{m:List E}{a b c d:List ar}{C:Nat}(h:ST w sb s K m a b c d C):(ku s.aH K).D w:=Hm h.aH h.aH.lt
def ST.OS{w:J}{sb:Nat}{s:SR}{K:DK}{m:List E}{c d e g:List ar}{C:Nat}(h:ST w sb s K m c d e g C):∀r∈oV s m c d e g,kQ (ku s.aH K) w.heap.size r.1 r.2 w:=by
 have hF:∀k,(ku s.aH K).F k->k<w.heap.size:=h.aH.lt;have i:=h.count;intro r a;simp only[oV,aD,aw,gh,aZ,cS,gX]at a;rcases a with rfl|((⟨t,b,rfl⟩|rfl)|rfl)|rfl
 ·exact kQ.list h.mem h.li (show m.length<=1000000000000 by have:=h.len;omega) (λk a=>⟨(h.rI k a).lt,(h.rI k a).aS⟩) (ai _)
 ·exact kQ.table (Bw (h.l0.each t b) h.ju) (ai _) hF
 ·exact kQ.sW (tJ h.l1 h.ju h.s1 (by omega)) (ai _) hF
 ·exact kQ.sW (tJ h.l2 h.ju h.s2 (by omega)) (ai _) hF
 ·exact kQ.sW (tJ h.l3 h.ju h.s3 (by omega)) (ai _) hF
def vR{b:List ar}(h:jp b):∀x∈bN b,x.Good:=by
 intro x a;unfold bN at a;obtain⟨l,d,a⟩:=bH.1 a;obtain⟨t,e,rfl⟩:=aZ.1 d;obtain⟨f,c,a⟩:=bH.1 a;exact(h.pure t e).gU f c x a
def Kx{t:ar}(h:pF t.ks t.cs):∀x∈t.all,x.Good:=by
 intro x a;obtain⟨c,b,a⟩:=bH.1 a;exact h.gU c b x a
def ST.Dh{w:J}{sb:Nat}{s:SR}{K:DK}{m:List E}{c d e g:List ar}{C:Nat}(h:ST w sb s K m c d e g C):∀r∈oV s m c d e g,∀x∈r.2,x.Good:=by
 intro r a;simp only[oV,aD,aw,gh,aZ,cS,gX]at a;rcases a with rfl|((⟨t,b,rfl⟩|rfl)|rfl)|rfl
 ·exact h.gU
 ·exact Kx (h.l0.each t b).pure
 ·exact vR h.s1
 ·exact vR h.s2
 ·exact vR h.s3
def reads{w e d:J}{sb:Nat}{s:SR}{K:DK}(j:eN w e s.aH sb K K)(c:(ku s.aH K).D d)(o:I (ku s.aH K).F e d):∃b,eN w d s.aH sb K b/\b.files=K.files/\b.cY=K.cY:=by
 obtain⟨m,b,l,g,h,i⟩:=c;refine⟨b,j.trans ⟨l,o.mono (λk c=>.inl (.inl c)),λk c=>.inl (i k c)⟩,g,h⟩
def qO{w:J}{sb:Nat}{s:SR}{K:DK}(a:bR w s.aH K)(b:¬K.aS s.aH sb)(j:Int):eN w (w.setCell ⟨sb,0,none⟩ (.int .i32 j)) s.aH sb K K:=(eN.refl a).set b 0 _
def eN.sb{w w':J}{b sb:Nat}{K c:DK}(h:eN w w' b sb K c)(d:¬K.aS b sb)(g:sb<w.heap.size):¬c.aS b sb:=λe=>(h.aS sb e).elim d (λo=>by omega)
def Kd(w:J)(t:ar):Prop:=t.num<18446744073709551616/\∃f cut a d e b bJ c,js w t.tb f t.num cut a d e b bJ c t.ks
def Kd.ay{w w':J}{t:ar}(A:Kd w t)(o:I (λ_=>False) w w'):Kd w' t:=by
 obtain⟨z,y,cut,a,h,r,d,bJ,e,g⟩:=A;exact⟨z,y,cut,a,h,r,d,bJ,e,g.dh (o.block _ (ak g.box) id) (o.block _ g.lt.2 id)⟩
def Kd.name{w:J}{t:ar}(o:Kd w t)(l:Pow w):Calls prog 133 #[.pointer (some ⟨t.tb,0,none⟩)] w λm w'=>m=.returned (.string (eM t.num))/\Below w.heap.size w w':=by
 obtain⟨h,g,cut,a,d,e,b,bJ,c,k⟩:=o;exact wN w t.tb g t.num h cut a d e b bJ c t.ks k l
def zr:(prog.info? 94).map (λi=>(i.zero,i.size,i.bytes))=some (some (.agg #[]),0,0):=by kernel_rfl
def Ha(a b c d:M)(e f g h:List ar):kW [(a,e),(b,f),(c,g),(d,h)]=(e++f++g++h).map ar.ptr:=by simp[kW]
def Ib(a b c d:M)(e f g h:List ar):jm [(a,e),(b,f),(c,g),(d,h)]=(e++f++g++h).length:=by simp[jm]
def jY(T T':List ar):List ar:=T.filter (λt=>!(T'.any (λu=>u.num==t.num)))
def Gl{T T':List ar}{n:Nat}(h:n<T.length):jY (T.take (n+1)) T'=jY (T.take n) T'++(if T'.any (λu=>u.num==T[n].num)then []else [T[n]]):=by
 unfold jY;rw[aq h,iT];cases hc:T'.any (λu=>u.num==T[n].num)<;>simp[hc]
def MH{T':List ar}(t:ar):T'.any (λu=>u.num==t.num)=true↔∃u∈T',Value.string (eM t.num)=.string (eM u.num):=by
 rw[qA];constructor
 ·rintro⟨u,a,e⟩;exact⟨u,a,by rw[eq_of_beq e]⟩
 ·rintro⟨u,a,e⟩;refine⟨u,a,?_⟩;have:eM t.num=eM u.num:=by simpa using e
  rw[qF this];exact beq_self_eq_true _
def lJ(s:SR)(T T':List ar):List aa:=(if s.bQ then [fM s.log]else [])++(jY T T').map (λt=>eM t.num)
def BN(w:J)(sb:Nat)(bq:SR)(k:Int)(ge cn f ee q r s u:List ar)(v0 v1 v2 v3:M)(hq:bX w sb bq k)(hl:xQ w sb 10 [(bq.l0,ge),(bq.l1,cn),(bq.l2,f),(bq.l3,ee)])(r0:Row w 1 v0 q.length (q.map ar.ptr))(r1:Row w 1 v1 r.length (r.map ar.ptr))(r2:Row w 1 v2 s.length (s.map ar.ptr))(r3:Row w 1 v3 u.length (u.map ar.ptr))(k0:∀k,v0.ownBlock=some k->k<w.heap.size)(k1:∀k,v1.ownBlock=some k->k<w.heap.size)(k2:∀k,v2.ownBlock=some k->k<w.heap.size)(k3:∀k,v3.ownBlock=some k->k<w.heap.size)(hT:∀t∈ge++cn++f++ee,Kd w t)(cb:∀t∈q++r++s++u,Kd w t)(hp:Pow w)(gr:bq.log<18446744073709551616)(gv:(ge++cn++f++ee).length<=10000000)(gA:(q++r++s++u).length<=10000000):Calls prog 161 #[.pointer (some ⟨sb,0,none⟩),.agg #[v0,v1,v2,v3]] w λbb w'=>∃v',bb=.returned v'/\w'.ownsRow w.heap.size 9 1 v' (lJ bq (ge++cn++f++ee) (q++r++s++u)).length (strs (lJ bq (ge++cn++f++ee) (q++r++s++u)))/\I (λ_=>False) w w':=by
 have hv:=@sx prog;have hh:∀(fl:Bool)(w:J),(Op.unary .not (.bool fl)).run prog w=.ok (.bool (!fl)) w:=λ_ _=>rfl;obtain⟨i0,ek,ey,fb,fd⟩:=bK zt;obtain⟨i1,gn,hf,hx,hy⟩:=bK zr;obtain⟨x0,c0,rfl⟩:=bA r0;obtain⟨x1,c1,rfl⟩:=bA r1;obtain⟨x2,c2,rfl⟩:=bA r2;obtain⟨x3,c3,rfl⟩:=bA r3;have gs:=ak hq;have el:xQ (w.alloc (.cells #[.slice x0 q.length c0,.slice x1 r.length c1,.slice x2 s.length c2,.slice x3 u.length c3] 107)) w.heap.size 0 [(.slice x0 q.length c0,q),(.slice x1 r.length c1,r),(.slice x2 s.length c2,s),(.slice x3 u.length c3,u)]:=by
  have m:I (λ_=>False) w (w.alloc (.cells #[.slice x0 q.length c0,.slice x1 r.length c1,.slice x2 s.length c2,.slice x3 u.length c3] 107)):=(I.refl _ _).alloc _;have bt:(w.alloc (.cells #[.slice x0 q.length c0,.slice x1 r.length c1,.slice x2 s.length c2,.slice x3 u.length c3] 107)).heap[w.heap.size]?=some (.cells #[.slice x0 q.length c0,.slice x1 r.length c1,.slice x2 s.length c2,.slice x3 u.length c3] 107 (0,0)):=az _ rfl;refine⟨rfl,λi hi=>?_,λi hi=>?_,λi hi=>?_,by rw[Ib];omega⟩
  ·have:i=0\/i=1\/i=2\/i=3:=by simp at hi;omega
   rcases this with rfl|rfl|rfl|rfl<;>(rw[aj bt];rfl)
  ·have:i=0\/i=1\/i=2\/i=3:=by simp at hi;omega
   rcases this with rfl|rfl|rfl|rfl
   ·exact m.row r0 (λk b=>⟨id,k0 k b⟩)
   ·exact m.row r1 (λk b=>⟨id,k1 k b⟩)
   ·exact m.row r2 (λk b=>⟨id,k2 k b⟩)
   ·exact m.row r3 (λk b=>⟨id,k3 k b⟩)
  ·have:i=0\/i=1\/i=2\/i=3:=by simp at hi;omega
   rcases this with rfl|rfl|rfl|rfl
   ·exactλk b=>ah (k0 k b) m.size
   ·exactλk b=>ah (k1 k b) m.size
   ·exactλk b=>ah (k2 k b) m.size
   ·exactλk b=>ah (k3 k b) m.size
 obtain⟨T,cc⟩:∃T,ge++cn++f++ee=T:=⟨_,rfl⟩;obtain⟨T',G⟩:∃T',q++r++s++u=T':=⟨_,rfl⟩;have bl:∀bT,I (λ_=>False) w bT->Calls prog 132 #[.pointer (some ⟨sb,10,none⟩)] bT λbb w'=>∃v',bb=.returned v'/\w'.ownsRow bT.heap.size 199 1 v' T.length (T.map ar.ptr)/\I (λ_=>False) bT w':=λbT e=>by
  have:=oh bT sb 10 _ (hl.ay e id (λ_ _ _ _ f=>f));rw[Ha,Ib,cc]at this;exact this
 have L:∀bT,I (λ_=>False) (w.alloc (.cells #[.slice x0 q.length c0,.slice x1 r.length c1,.slice x2 s.length c2,.slice x3 u.length c3] 107)) bT->Calls prog 132 #[.pointer (some ⟨w.heap.size,0,none⟩)] bT λbb w'=>∃v',bb=.returned v'/\w'.ownsRow bT.heap.size 199 1 v' T'.length (T'.map ar.ptr)/\I (λ_=>False) bT w':=λbT e=>by
  have:=oh bT w.heap.size 0 _ (el.ay e id (λ_ _ _ _ f=>f));rw[Ha,Ib,G]at this;exact this
 rw[cc]at hT gv|-;rw[G]at cb gA|-;have cT:=Z hT;have br:=Z cb;have HB:=Z hq;have HP:=Z hp;have fr:=Z bl;have bd:=Z L;clear hT cb hq hl r0 r1 r2 r3 k0 k1 k2 k3 el cc G hp bl L ge cn f ee;obtain⟨WB,eg⟩:∃WB,w.alloc (.cells #[.slice x0 q.length c0,.slice x1 r.length c1,.slice x2 s.length c2,.slice x3 u.length c3] 107)=WB:=⟨_,rfl⟩;have ao:I (λ_=>False) w WB:=by rw[<-eg];exact(I.refl _ _).alloc _
 have ca:=ao.block sb gs id|>.trans (Y HB);have gf:WB.cell? ⟨sb,16,none⟩=some (.bool bq.bQ):=bX.cell ca rfl;have hn:WB.cell? ⟨sb,15,none⟩=some (.int .u64 bq.log):=bX.cell ca rfl;have et:Pow WB:=(Y HP).ay ao id;have bk:=rJ bq.log gr WB et;have bv:=Z ao;rw[eg]at bd;clear ao ca et;have cB:=Z bk;clear bk;obtain⟨lg,bi⟩:∃lg,bq.bQ=lg:=⟨_,rfl⟩;have cx:=Z (show lJ bq T T'=(if lg then [fM bq.log]else [])++(jY T T').map (λt=>eM t.num)by rw[<-bi];rfl);rw[bi]at gf;generalize bq.log=fe at*;go_enter func161,ntmps161
 cases lg;case' false=>
  go_wp2_with fail
  generalize m:WB=X;have al:=Z (show I (λ_=>False) WB X by rw[<-m];exact I.refl _ _);obtain⟨v5,j⟩:∃v5,v5=Value.slice none 0 0:=⟨_,rfl⟩;obtain⟨a,c⟩:∃a:List aa,a=[]:=⟨_,rfl⟩;have l:=Z (show X.ownsRow w.heap.size 9 1 v5 a.length (strs a)by rw[j,c];exact bC _ _ _ _);have bc:=Z (show lJ bq T T'=a++(jY T T').map (λt=>eM t.num)by rw[c];exact Y cx);have gt:a.length<=1:=by rw[c];simp
  have bx:=Z j;clear m j c
 case' true=>
  go_wp2_with fail
  refine(Y cB).mono ?_;rintro bb w2⟨rfl,ei⟩;have bt:=Z (I.aR (S:=λ_=>False) ei);clear ei;go_wp2_with(at_builtin;refine aX _ rfl (.tmp 17) (.tmp 23) 160 rfl w.heap.size 9 i0 (.string ⟨#[]⟩) 1 16 underlying160 ek ey fb fd rfl (by decide) (.slice none 0 0) 0 [] rfl (bC _ _ _ _) ⟨w2.heap.size,0,none⟩ 1 1 [.string (fM fe)] rfl rfl (pu _ _ _) (by simp[Value.oneCell']) (by omega) (by omega) (by have:=(Y bv).size;have:=(Y bt).size;simp;omega) ?_;intro v3 X cj ex;obtain⟨x5,c5,j⟩:=aC cj;subst j;have l:=Z cj;have ec:=Z ex;clear cj ex)
  have al:=Z (show I (λ_=>False) WB X from(((Y bt).alloc _).trans (I.bz (S:=λ_=>False) (Y ec).grown (λk b=>by cases b)) (λ_ f=>f.elim)));obtain⟨v5,j⟩:∃v5,v5=Value.slice x5 1 c5:=⟨_,rfl⟩;obtain⟨a,c⟩:∃a:List aa,a=[fM fe]:=⟨_,rfl⟩;have m:=Y l;clear l;have l:=Z (show X.ownsRow w.heap.size 9 1 v5 a.length (strs a)by rw[j,c];exact m);have bc:=Z (show lJ bq T T'=a++(jY T T').map (λt=>eM t.num)by rw[c];exact Y cx);have gt:a.length<=1:=by rw[c];simp
  have bx:=Z j;clear ec bt j c m
 all_goals
  have ha:=(Y al).size;have hw:=(Y bv).size;refine((Y bd) (X.alloc (.map #[] 0)) ((Y al).alloc _)).mono ?_;rintro bb w6⟨v6,rfl,ck,an⟩;obtain⟨x6,c6,hb⟩:=aC ck;subst hb;have dT:=Z ((jd.new X .string).dh (an.block _ (by simp) id));have fz:=Z ((Y bv).trans (((Y al).alloc (.map #[] 0)).trans an (λ_ f=>f.elim)) (λ_ f=>f.elim));have dn:=Z ((((I.refl (λ_=>False) X).alloc (.map #[] 0)).trans an (λ_ f=>f.elim)).own (Y l) (λ_ _ f=>f));have dv:=Z ck;clear ck an;obtain⟨p,em⟩:∃p,X.heap.size=p:=⟨_,rfl⟩;rw[em]at dT;have hg:w.heap.size<=p:=by omega
  have fs:=Z (show p<(X.alloc (.map #[] 0)).heap.size by rw[<-em];simp);clear ha;go_wp2_with fail
  go_loopw [28] (λi wr=>∃ba:Nat,ba<=T'.length/\i=.int .i64 ba/\jd wr p .string (λfl=>∃t∈T'.take ba,fl=.string (eM t.num))/\I (λk=>k=p) w6 wr) (λi _=>T'.length-(intOf i).toNat)
  case atStart=>exact⟨0,aU _,rfl,(Y dT).congr (by simp),I.refl _ _⟩
  case round=>
   obtain⟨ba,hE,rfl,d,C⟩:=hrel;have ax:I (λ_=>False) w wr:=(Y fz).trans C (λk b=>.inr (by omega));by_cases z:ba<T'.length
   ·have y:=C.own (Y dv) (λk b f=>by have:=((Y dv).lt k b).1;have:=Y fs;omega);obtain⟨b6,hd,ce⟩:∃b6,x6=some ⟨b6,0,none⟩/\wr.cell? ⟨b6,ba,none⟩=some T'[ba].ptr:=by
     rcases y.2 with⟨h2,h0⟩|⟨hk,gi,gj,h2,_⟩
     ·omega
     ·cases h2;refine⟨hk,rfl,?_⟩;have:=lH y ba T'[ba].ptr (by rw[cP,aA z];rfl);rwa[ct,cw]at this
    subst hd;have N:=((Y br) T'[ba] (au z)).ay ax|>.name ((Y HP).ay ax id);have ad:=Z (show∀fl,(∃t∈T'.take (ba+1),fl=Value.string (eM t.num))↔(∃t∈T'.take ba,fl=Value.string (eM t.num))\/fl=Value.string (eM T'[ba].num)fromλfl=>by
     rw[aq z];simp only[aw,bE];constructor
     ·rintro⟨t,e|rfl,bb⟩
      ·exact .inl ⟨t,e,bb⟩
      ·exact .inr bb
     ·rintro(⟨t,e,bb⟩|bb)
      ·exact⟨t,.inl e,bb⟩
      ·exact⟨_,.inr rfl,bb⟩)
    have A:=d.lt;have D:=Z d;have gc:=Z C;have e1:(ba:Int)<(T'.length:Int):=by omega
    clear d C ax y;unfold ar.ptr at ce;generalize eM T'[ba].num=nm at*;generalize T'[ba].tb=tb at*;go_wp2_with fail
    refine N.mono ?_;rintro bb w7⟨rfl,cd⟩;have fu:=Z ((Y D).dh (cd.block p A));have fL:=Z ((Y gc).trans (I.aR (S:=λ_=>False) cd) (λ_ f=>f.elim));clear cd N;go_wp2_with(at_mapUpdate;refine qc _ rfl _ _ _ 244 rfl 9 94 underlying244 .string underlying9 p _ rfl (Y fu) (.string nm) trivial rfl rfl ?_;intro w8 eu ej;have fv:=Z eu;have fn:=Z ej;clear eu ej)
    go_roundw;case rel=>exact⟨ba+1,z,by go_num,(Y fv).congr (Y ad),(Y fL).trans (I.bz (S:=λk=>k=p) (Y fn) (by rintro k⟨⟩;exact .inl rfl)) (λ_ f=>.inl f)⟩
    case measure=>simp[intOf];omega
   ·have O:ba=T'.length:=by omega
    rw[O,bD]at d;have e1:¬(ba:Int)<(T'.length:Int):=by omega
    have A:=d.lt;have D:=Z d;have ea:=Z ax;have bf:=Z (C.own (Y dn) (λk b f=>by have:=((Y l).lt k b).2;omega));clear d C O;go_wp2_with fail
    refine((Y fr) wr (Y ea)).mono ?_;rintro bb w9⟨v9,rfl,cl,V⟩;obtain⟨x9,c9,hc⟩:=aC cl;subst hc;have fx:=Z ((Y D).dh (V.block p A id));have dx:=Z cl;have ds:=Z (V.own (Y bf) (λ_ _ f=>f));have gb:=Z ((Y ea).trans V (λ_ f=>f.elim));have ac:=Z (show∀k,v5.ownBlock=some k->w.heap.size<=k/\k<wr.heap.size/\k≠p fromλk b=>⟨((Y l).lt k b).1,((Y bf).lt k b).2,by have:=((Y l).lt k b).2;omega⟩);have cE:=Z (show p<wr.heap.size/\wr.heap.size<=w9.heap.size from⟨A,V.size⟩);clear cl V;go_wp2_with fail
    go_loopw [5,42] (λo i b=>∃B:Nat,B<=T.length/\i=.int .i64 B/\b.ownsRow w.heap.size 9 1 o (a++(jY (T.take B) T').map (λt=>eM t.num)).length (strs (a++(jY (T.take B) T').map (λt=>eM t.num)))/\du w9 b v5 o) (λ_ i _=>T.length-(intOf i).toNat)
    case atStart=>
     refine⟨0,aU _,rfl,?_,?_⟩
     ·rw[<-Y bx];have:a++(jY (T.take 0) T').map (λt=>eM t.num)=a:=by simp[jY]
      rw[this];exact Y ds
     ·rw[<-Y bx];exact du.refl _ _
    case round=>
     obtain⟨B,hD,rfl,ho,W⟩:=hrel;obtain⟨ox,oc,eq⟩:=aC ho;have o:I (λk=>v5.ownBlock=some k) w9 wr:=I.bz W.grown (λk b=>.inl b);have g:I (λ_=>False) w wr:=(Y gb).trans o (λk b=>.inr ((Y ac) k b).1);have h:=(Y fx).dh (o.block p (by have:=Y cE;omega) (λf=>((Y ac) p f).2.2 rfl));have eo:∀k,u5.ownBlock=some k->k≠p:=λk b f=>by
      rcases W.sr with ee|⟨hk,ee,hC⟩
      ·exact((Y ac) k (ee.symm.trans b)).2.2 f
      ·rw[ee]at b;cases b;have:=Y cE;omega
     by_cases n:B<T.length
     ·have y:=o.own (Y dx) (λk b f=>by have:=((Y dx).lt k b).1;have:=((Y ac) k f).2.1;omega);obtain⟨b9,he,ce⟩:∃b9,x9=some ⟨b9,0,none⟩/\wr.cell? ⟨b9,B,none⟩=some T[B].ptr:=by
       rcases y.2 with⟨h2,h0⟩|⟨hk,gi,gj,h2,_⟩
       ·omega
       ·cases h2;refine⟨hk,rfl,?_⟩;have:=lH y B T[B].ptr (by rw[cP,aA n];rfl);rwa[ct,cw]at this
      subst he;have Q:=(Y HP).ay g id;have x:=((Y cT) T[B] (au n)).ay g;have N:=x.name Q;have bn:=λbT(e:I (λ_=>False) wr bT)=>(x.ay e).name (Q.ay e id);have ad:=Z (Gl (T':=T') n);have H:=MH (T':=T') T[B];have e1:(B:Int)<(T.length:Int):=by omega
      have ch:=h.lt;have ht:(a++(jY (T.take B) T').map (λt=>eM t.num)).length<=20000000:=by
       have:(jY (T.take B) T').length<=(T.take B).length:=gY _ _;rw[cU]at this;rw[ag,bW];omega
      have bs:=Z h;have HO:=Z ho;have ed:=Z W;have F:=Z g;have cM:=Z bn;clear h ho W g eo y o bn x Q;unfold ar.ptr at ce;have cv:=Z (show∀cn,T'.any (λu=>u.num==T[B].num)=cn->(a++(jY (T.take (B+1)) T').map (λt=>eM t.num))=(a++(jY (T.take B) T').map (λt=>eM t.num))++(if cn then []else [eM T[B].num])fromλcn hs=>by
       rw[Y ad,hs,aN,aV];cases cn<;>rfl)
      clear ad;obtain⟨hj,hr⟩:∃hj,T'.any (λu=>u.num==T[B].num)=hj:=⟨_,rfl⟩;have ef:=(Y cv) hj hr;rw[hr]at H;have cs:=Z ef;clear ef hr cv;generalize gk:a++(jY (T.take B) T').map (λt=>eM t.num)=Lm at*;clear gk;have cp:=Z H;clear H;generalize en:eM T[B].num=nm at*;clear en;generalize T[B].tb=tb at*;subst eq;go_wp2_with fail
      refine N.mono ?_;rintro bb fk⟨rfl,K⟩;have R:I (λ_=>False) wr fk:=I.aR K;have bo:=(Y bs).dh (K.block p ch);have hu:=vT underlying244 underlying9 gn hf bo (.string nm) trivial hj (Y cp);have db:=Z (R.own (Y HO) (λ_ _ f=>f));have E:=Z R;clear bo R K N;cases hj with
      |true=>
       go_wp2;go_roundw;case rel=>
        refine⟨B+1,n,by go_num,?_,?_⟩
        ·rw[Y cs];simp only[iY,cN];exact aM (Y db) _
        ·have e:=((Y E).alloc (.cells #[] 94));refine(Y ed).trans ⟨⟨e.os,e.tape,e.output,e.size,λi hi _=>e.block i hi id⟩,.inl rfl⟩
       case measure=>simp[intOf];omega
      |false=>
       go_wp2_with fail
       refine((Y cM) (fk.alloc (.cells #[] 94)) ((Y E).alloc _)).mono ?_;rintro bb cm⟨rfl,bh⟩;have U:I (λ_=>False) wr cm:=((Y E).alloc (.cells #[] 94)).trans (I.aR (S:=λ_=>False) bh) (λ_ f=>f.elim);have dc:=Z (U.own (Y HO) (λ_ _ f=>f));have bg:=Z U;clear U bh;go_wp2_with(at_builtin;refine aX _ rfl (.tmp 55) (.tmp 58) 160 rfl w.heap.size 9 i0 (.string ⟨#[]⟩) 1 16 underlying160 ek ey fb fd rfl (by decide) (.slice ox Lm.length oc) Lm.length (strs Lm) rfl (aM (Y dc) (.cells #[.string nm] 9)) ⟨cm.heap.size,0,none⟩ 1 1 [.string nm] rfl rfl (pu _ _ _) (by simp[Value.oneCell']) (by omega) (by omega) (by have:=(Y F).size;have:=(Y bg).size;simp;omega) ?_;intro hz hA P bp;obtain⟨hB,hm,ev⟩:=aC P;subst ev;have dk:=Z P;have eb:=Z bp;clear P bp)
       go_roundw;case rel=>
        refine⟨B+1,n,by go_num,?_,?_⟩
        ·rw[Y cs];simp only[ic,ji];rw[Av,ag];exact Y dk
        ·have e:=Y bg;have h1:du wr cm (.slice ox Lm.length oc) (.slice ox Lm.length oc):=⟨⟨e.os,e.tape,e.output,e.size,λi hi _=>e.block i hi id⟩,.inl rfl⟩;exact(Y ed).trans (h1.trans (du.alloc _ (Y eb)))
       case measure=>simp[intOf];omega
     ·have O:B=T.length:=by omega
      rw[O,bD,<-Y bc]at ho;have e1:¬(B:Int)<(T.length:Int):=by omega
      obtain⟨oy,od,es⟩:=aC ho;have HO:=Z ho;have F:=Z g;clear ho W g o h eo O eq;subst es;go_wp2;go_ret;exact⟨_,rfl,Y HO,Y F⟩
section
open Go.Conc.Locks
def tr(w b:J)(sb:Nat)(s:SR)(K:DK)(m:List E)(c d e g:List ar)(C:Nat):Prop:=∃a,eN w b s.aH sb K a/\a.files=K.files/\a.cY=K.cY/\(∀k,a.aS s.aH k->K.aS s.aH k)/\bX b sb s 0/\ST b sb s a m c d e g C
def KX{w e c:J}{sb:Nat}{s:SR}{K:DK}(i:eN w e s.aH sb K K)(b:(ku s.aH K).D c)(m:I (ku s.aH K).F e c):∃a,eN w c s.aH sb K a/\a.files=K.files/\a.cY=K.cY/\(∀k,a.aS s.aH k->K.aS s.aH k):=by
 obtain⟨l,a,j,g,h,d⟩:=b;exact⟨a,i.trans ⟨j,m.mono (λk b=>.inl (.inl b)),λk b=>.inl (d k b)⟩,g,h,d⟩
def Gm(w:J)(sb:Nat)(s:SR)(d:aa)(h:bX w sb s 0)(e:s.closed=true):Calls prog 29 #[.pointer (some ⟨sb,0,none⟩),.string d] w λg c=>g=.returned (.tuple #[.string ⟨#[]⟩,.bool false,kr 6])/\bX c sb s 0/\I (λk=>k=sb) w c:=by
 have j:w.cell? ⟨sb,0,none⟩=some (.int .i32 0):=h.cell rfl;have m:w.frozen? ⟨sb,0,none⟩=false:=h.free;have b:=h.gH 1;have a:=jC _ sb s 1 b;rw[e]at a;simp only[iY]at a;have l:(w.setCell ⟨sb,0,none⟩ (.int .i32 1)).cell? ⟨sb,0,none⟩=some (.int .i32 1):=b.cell rfl;have n:(w.setCell ⟨sb,0,none⟩ (.int .i32 1)).frozen? ⟨sb,0,none⟩=false:=b.free;have i:=Z (show bX ((w.setCell ⟨sb,0,none⟩ (.int .i32 1)).setCell ⟨sb,0,none⟩ (.int .i32 0)) sb s 0/\I (λk=>k=sb) w ((w.setCell ⟨sb,0,none⟩ (.int .i32 1)).setCell ⟨sb,0,none⟩ (.int .i32 0))from⟨b.gH 0,((I.refl (λk=>k=sb) w).setCell sb 0 _ (.inl rfl)).setCell sb 0 _ (.inl rfl)⟩);clear h b e;unfold kr at a|-;simp only[Int.reduceEq,ji]at a|-;go_enter_defers func29,ntmps29
 go_wp2_with fail
 refine(lock_free ⟨sb,0,none⟩ _ j m).mono ?_;rintro g c⟨rfl,rfl⟩;go_wp2_with fail
 refine a.mono ?_;rintro g c⟨rfl,rfl⟩;go_wp2;refine ij (f:=40) (args:=#[.pointer (some ⟨sb,0,none⟩)]) (by simp) (by simp[go_sem]) ?_;refine(unlock_deferred ⟨sb,0,none⟩ .returning _ l n).mono ?_;rintro g p o⟨rfl,rfl,rfl⟩;exact⟨_,nX rfl _ _ _,rfl,Y i⟩
def LR(G:J)(sb:Nat)(s:SR)(K:DK)(C:List E)(y z A B:List ar)(R:Nat)(a:aa)(O:bX G sb s 0)(n:ST G sb s K C y z A B R)(Q:s.closed=false)(hz:a.size<=140737488351232):Calls prog 29 #[.pointer (some ⟨sb,0,none⟩),.string a] G λF h=>F=.returned (if 1<=a.size/\a.size<=8 then Ju (qH a (oV s C y z A B))else .tuple #[.string ⟨#[]⟩,.bool false,kr 3])/\tr G h sb s K C y z A B R:=by
 have m:=ak O;have V:G.cell? ⟨sb,0,none⟩=some (.int .i32 0):=O.cell rfl;have f0:G.frozen? ⟨sb,0,none⟩=false:=O.free;have e:=qO n.aH n.rf 1;have k:=O.gH 1;have b:=n.eA m e rfl;generalize P:G.setCell ⟨sb,0,none⟩ (.int .i32 1)=o at e k b;have g:=jC _ sb s 1 k;rw[Q]at g;simp only[ic,ji]at g;obtain⟨mx,mc,H⟩:=bA n.mem;obtain⟨D,t,L⟩:∃D,Calls prog 55 #[.pointer (some ⟨sb,0,none⟩),.string a] o (λF h=>F=.returned D/\(ku s.aH K).D h/\I (ku s.aH K).F o h)/\∃q c d,D=.tuple #[q,c,d]/\D=(if 1<=a.size/\a.size<=8 then Ju (qH a (oV s C y z A B))else .tuple #[.string ⟨#[]⟩,.bool false,kr 3]):=by
  by_cases l:1<=a.size/\a.size<=8
  ·rw[dr l];refine⟨_,Md (ku s.aH K) o.heap.size o sb s 1 (s.l0,y) (s.l1,z) (s.l2,A) (s.l3,B) (oV s C y z A B) a k mx C.length mc H (b.PS k) (AC s C y z A B) (λU r=>b.OS _ (au r)) b.Nr (ai _) b.aH.lt l (λN u q w=>by have:=(b.Dh N u q w).val;omega),?_⟩;cases qH a (oV s C y z A B)with
   |none=>exact⟨_,_,_,rfl,rfl⟩
   |some q=>exact⟨_,_,_,rfl,rfl⟩
  ·rw[dd l];refine⟨_,(Mc o sb a l hz).mono ?_,_,_,_,rfl,rfl⟩;rintro F h⟨rfl,rfl⟩;exact⟨rfl,b.Nr,I.refl _ _⟩
 obtain⟨rx,ry,rz,v,j⟩:=L;rw[<-j];have p:=Z (show∀i,(ku s.aH K).D i->I (ku s.aH K).F o i->i.cell? ⟨sb,0,none⟩=some (.int .i32 1)/\i.frozen? ⟨sb,0,none⟩=false/\tr G (i.setCell ⟨sb,0,none⟩ (.int .i32 0)) sb s K C y z A B R from by
  intro i d c;have u:=ak k;have l:bX i sb s 1:=(c.block sb u b.rf).trans k;obtain⟨U,q,N,X,e3⟩:=KX e d c;have w:=q.sb n.rf m;have r:=q.set w 0 (.int .i32 0);exact⟨l.cell rfl,l.free,U,r,N,X,e3,l.gH 0,n.eA m r (by rw[N])⟩)
 have T:=Z P;clear O n e k b Q j P;subst v;go_enter_defers func29,ntmps29
 go_wp2_with fail
 refine(lock_free ⟨sb,0,none⟩ _ V f0).mono ?_;rintro F h⟨rfl,x⟩;rw[Y T]at x;subst h;go_wp2_with fail
 refine g.mono ?_;rintro F h⟨rfl,x⟩;subst h;unfold kr;simp only[iY];go_wp2_with fail
 refine t.mono ?_;rintro F i⟨rfl,d,c⟩;obtain⟨W,g0,hF⟩:=(Y p) i d c;have S:=Z hF;clear d c hF t g;go_wp2;refine ij (f:=40) (args:=#[.pointer (some ⟨sb,0,none⟩)]) (by simp) (by simp[go_sem]) ?_;refine(unlock_deferred ⟨sb,0,none⟩ .returning _ W g0).mono ?_;rintro F u' ac⟨rfl,rfl,rfl⟩;exact⟨_,nX rfl _ _ _,rfl,Y S⟩
end
def LY(v:M)(w:J):(Go.method 513 102 v "From").run prog w=.ok (282,v) w:=by kernel_rfl
def jK.list{V:gz}{d:Nat}{v:M}{l:List E}{w:J}(s:nT w v l)(o:fG l)(n:l.length<=1000000000000)(e:∀f,v.ownBlock=some f->f<d/\¬V.F f)(c:d<=w.heap.size)(hF:∀k,V.F k->k<d):jK V d (.iface 102 v) l w:=by
 refine⟨_,v,_,v,rfl,LY v,enters_of func282 (by kernel_rfl) rfl,λp r a h=>?_⟩;refine(En V d v l p r (s.same a e) o n (λf b=>⟨(e f b).2,ah (ah (e f b).1 c) a.1⟩) (aB c a.1) hF).mono ?_;rintro x t⟨q,S,rfl,j,b,i⟩;refine⟨q,S,rfl,j,V.dF h (I.aR (S:=λ_=>False) b) (λ_ g=>g.elim),I.aR b,λk m=>?_⟩;rcases i k m with⟨g,u⟩|g
 ·have:=(e k g).1;omega
 ·exact g
def ST.OR{w:J}{sb:Nat}{s:SR}{K:DK}{m:List E}{c d e f:List ar}{C:Nat}(h:ST w sb s K m c d e f C):∀r∈oV s m c d e f,jK (ku s.aH K) w.heap.size r.1 r.2 w:=by
 have hF:∀k,(ku s.aH K).F k->k<w.heap.size:=h.aH.lt;have g:=h.count;intro r a;simp only[oV,aD,aw,gh,aZ,cS,gX]at a;rcases a with rfl|((⟨t,b,rfl⟩|rfl)|rfl)|rfl
 ·exact jK.list h.mem h.li (show m.length<=1000000000000 by have:=h.len;omega) (λk a=>⟨(h.rI k a).lt,(h.rI k a).aS⟩) (ai _) hF
 ·exact jK.table (Bw (h.l0.each t b) h.ju) (ai _) hF
 ·exact jK.sW (tJ h.l1 h.ju h.s1 (by omega)) (ai _) hF
 ·exact jK.sW (tJ h.l2 h.ju h.s2 (by omega)) (ai _) hF
 ·exact jK.sW (tJ h.l3 h.ju h.s3 (by omega)) (ai _) hF
end Go.Proofs.YtophdnlmpfmeiaaGreatDoor
