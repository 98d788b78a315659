import Derived.Test.YtojeeoclojldpaaGreatDoorC11
import Derived.Test.YtojeeoclojldpaaGreatDoorC20
import Derived.Test.YtojeeoclojldpaaGreatDoorC21
open _root_ renaming List.length→y,Option.some→H,Array.size→z,Go.World.heap→G,Go.Value.ownBlock→bV,Go.World.cell?→aT,Go.World.setCell→bZ,Go.World.alloc→ct,Bool.false→bF,Bool.true→bW,Nat→M,Int→Z,List→cr,Go.Calls→cy,Go.undef→iB,Go.Proofs.Tryz.prog→bG,Go.Value.slice→J,Go.Value.string→ai,Go.Value.bool→aL,Go.Value.pointer→fp,Go.Value.tuple→dB,Go.Value.agg→eC
namespace Go.Proofs.YtojeeoclojldpaaGreatDoor
open ChangeShapes WideShapes RowKit Proofs.Tryz
set_option maxHeartbeats 16000000
set_option linter.all false
set_option maxRecDepth 100000
variable{a f C:I}{b c g l:M}{d s N:aa}{e:cA}{i p t u:cP}{j O:DK}{m:Z}{n:SR}{r:jj}{v:ab}{x:iU}{S:bJ}
section
open Go.Shelf
attribute [local go_sem] Oper.semAt_some
def UZ(a:cP):∀j,j<=y a->(bk (a.map bJ.ptr) j).map (λp=>Value.iface 224 p.2)=((a.take j).map Nj).reverse
 |0,_=>by simp[bk]
 |j+1,h=>by
  have b:j<y a:=h;rw[bk,aY,UZ a j (by omega),aj b,aM,List.reverse_append];simp only[aY,eW,tH,List.reverse_nil,cC,jM,mM,sC];rw[sF,dz,aG b];rfl
def qA(a b c d:aa×cP):iU:=((a.2.map Nj).reverse)++[FE b]++[FE c]++[FE d]
def NK{w:I}{lb lo:M}(p0 p1 p2 p3:aa×cP)(h:Dd w lb lo [p0,p1,p2,p3]):cy bG 134 #[fp<|H<|R lb lo] w λey w'=>∃v',ey=aO v'/\w'.ownsRow (z<|G w) 205 1 v' (y<|qA p0 p1 p2 p3) (qA p0 p1 p2 p3)/\Y aB w w':=by
 obtain⟨i0,bv,bx,bT,br⟩:=cz Jb;obtain⟨v0,e⟩:=p0;obtain⟨v1,q⟩:=p1;obtain⟨v2,r⟩:=p2;obtain⟨v3,s⟩:=p3;have c0:aT w (R lb lo)=H v0:=h.cell 0 (by simp);have c1:aT w (R lb<|lo+1)=H v1:=h.cell 1 (by simp);have c2:aT w (R lb<|lo+2)=H v2:=h.cell 2 (by simp);have c3:aT w (R lb<|lo+3)=H v3:=h.cell 3 (by simp);have cm:Row w 1 v0 (y e) (e.map bJ.ptr):=h.row 0 (by simp);have dm:∀bd,bV v0=H bd->bd<z (G w):=h.pE 0 (by simp);obtain⟨x0,av,rfl⟩:=bM cm;obtain⟨x1,K,rfl⟩:∃ch au,v1=J ch (y q) au:=bM (h.row 1<|by simp);obtain⟨x2,L,rfl⟩:∃ch au,v2=J ch (y r) au:=bM (h.row 2<|by simp);obtain⟨x3,N,rfl⟩:∃ch au,v3=J ch (y s) au:=bM (h.row 3<|by simp);have em:y e<=100000000:=by have:=h.small;simp[ma]at this;omega
 have cl:=h.lt;obtain⟨ck,ef,eg,ej,cp⟩:=jP c1 c2 c3 cm dm;clear h cm dm c1 c2 c3;refine(cX (n:=3)).1 ?_;refine callsIn_of_wp_marks func134 rfl trivial ?_ rfl;simp only[ntmps134,eR,ay,cL,Nat.reduceAdd,Nat.reduceSub,dS,dR,eS,er,cC,cq];gi_wp2;refine wpIn_loop_rounds 5 ?_;rw[roundsIn_succ];gi_wp2;rename_i QQ KK x;apply CR KK;(.intro ba;refine sj.2 ?_;(go_region);all_goals exact ba);apply x;clear x;have el:=λed=>Jy (J x0 (y e) av) x0 (y e) av rfl ed;gi_wp2_with(refine⟨trivial,?_⟩;gi_at_call 196;refine(cX.2<|el _).mono ?_;rintro ey w1⟨rfl,rfl⟩)
 have e1:z (G (ct (ct w<|ar #[aK] 176)<|ar #[J x0 (y e) av] 105).drew)=z (G w)+2:=by simp
 obtain⟨W0,bf⟩:∃W0,(ct (ct w<|ar #[aK] 176)<|ar #[J x0 (y e) av] 105).drew=W0:=⟨_,rfl⟩;rw[bf]at e1;have bq:Y aB w W0:=by rw[<-bf];exact(((Y.refl aB w).alloc _).alloc _).of_heap rfl
 have dn:dV W0 (z (G w)+1) (J x0 (y e) av) 105:=by rw[<-bf];exact aD (w:=ct w<|ar #[aK] 176) _<|by simp
 have ds:dV W0 (z<|G w) aK 176:=by rw[<-bf];exact dV.alloc (w:=ct w<|ar #[aK] 176) (aD (w:=w) _ rfl) _
 have ce:Row W0 1 (J x0 (y e) av) (y<|e.map bJ.ptr) (e.map bJ.ptr):=by rw[cU];exact bq.row ej<|λbd Q=>⟨id,cp bd Q⟩
 have dc:RB w [] (λbd=>bd=z (G w)) W0:=⟨⟨aK,ds,bK _ _ _ _,λbd=>by simp[bV]⟩,bq⟩;rw[bf];refine nw (α:=M×aa) (arg:=Wz) (m:=3) (V:=Az) (n0:=z<|G w) (gf:=240) (lb:=#[aA<|z (G w)+1]) (l:=bk (e.map bJ.ptr)<|y<|e.map bJ.ptr) (S:=λbd=>bd=z (G w)+1) ?geval (enters_of func240 (by kernel_rfl) rfl) (λ_=>rfl) (OO (z<|G w) 2 dn ce cp bq.size (by simp;omega)) trivial bq.size ?slt (λbb ee ed=>RB w (bb.map<|λen=>Value.iface 224 en.2) ee ed) (λ_ _ _ _=>False) (λbd=>bd=z (G w)) dc ?sb ?lt ?st (λ_ _ _ _ _ _ h=>h.elim) ?body ?done ?stop;case geval=>rfl
 (case slt=>rintro bd au;omega);(case sb=>rintro bd au et;omega);(case lt=>intro bb ee ed h bd Q;exact h.lt bd Q);(case st=>intro bb ee ed u T h t o;refine h.stays t<|λbd Q=>⟨(o bd Q).1,?_⟩;rcases(o bd Q).2 with au|au|au;omega;exact au.elim;omega);(case stop=>intro cj au bb ee ed _ h;exact h.elim)
 case body=>
  intro lr bb ch ee ed bn T bc t hC _;obtain⟨xi,X⟩:=ch;obtain⟨C,u⟩:∃C,bb.map (λen=>Value.iface 224 en.2)=C:=⟨_,rfl⟩;have W:y C<=100000000:=by
   have:=t.length_le;rw[<-u];simp only[cU,af,ay,cL]at this|-;have hb:∀(a:iU)bl,y (bk a bl)=bl:=λa bl=>by induction bl with|zero=>rfl|succ bl ih=>simp[bk,ih]
   rw[hb]at this;omega
  rw[u]at hC;obtain⟨HC,ad,an⟩:=dC hC u t;clear hC t u;obtain⟨NN,v⟩:∃NN,y C=NN:=⟨_,rfl⟩;have i:=U v;unfold Wz;simp only;gi_wp2;refine⟨Y.refl _ _,λW2 o=>?_⟩;have g:RB w C ee W2:=HC.stays o (λbd Q=>by subst Q;exact⟨T,by omega⟩);obtain⟨ec,k,b,j⟩:=g.row;rw[v]at b;have ax:aT W2 (R (z<|G w) 0)=H ec:=k.cell;have bg:W2.frozen? (R (z<|G w) 0)=bF:=k.free;obtain⟨ex,ao,O⟩:=aC b;have F:=ak k;have bm:NN<=100000000:=by omega
  obtain⟨ck,P,f,p,ac⟩:=jP g k b j o;clear g k b j o W v;subst O;gi_wp2_with(first
   |(gi_at_builtin;refine dY _ rfl (.tmp 27) (.tmp 30) 176 rfl (z (G w)+1) 205 i0 .nilIface 1 16 underlying176 bv bx bT br rfl (by decide) (.slice ex NN ao) NN C rfl (aS f (.cells #[Value.iface 224 X] 205)) (R (z (G W2)) 0) 1 1 [Value.iface 224 X] rfl rfl (vq _ _ _) (TI rfl) (by omega) (by omega) (by simp;omega) ?_;intro co w3 a d;obtain⟨bi,bh,rfl⟩:=aC a;have c:dV w3 (z (G w)) (.slice ex NN ao) 176:=(d.grown.block _ (ak (P.alloc (.cells #[Value.iface 224 X] 205))) (λau=>by have:=(f.lt _ au.symm).1;omega)).trans (P.alloc _);have D:=c.cell;have E:=c.free;clear c;have A:=U a;have B:=U d;clear a d))
  obtain⟨B',q1,q2,q3⟩:=ck.more (x:=Value.iface 224 X) P p (by rw[ae i];exact f) B (by rw[ae i];exact A);have o:=ae ac;have br:=o.size;have al:Y (λbd=>ee bd\/bd=lr) ed W2:=o.mono<|λbd Q=>.inl<|.inr Q;refine⟨trivial,B',?_,al.trans q2<|λbd Q=>.inl<|.inl Q,q2.block lr (by omega) T,λbd Q=>?_⟩
  .show RB w ((bb++[(xi,X)]).map<|λen=>Value.iface 224 en.2) B' _;rw[aM,ae ad];exact q1
  .rcases q3 bd Q with au|au
   .exact .inl au
   .exact .inr<|by omega
 case done=>
  intro cj B1 W1 ex hC bn _ hK;have ea:(bk (e.map bJ.ptr)<|y<|e.map bJ.ptr).map (λen=>Value.iface 224 en.2)=(e.map Nj).reverse:=by
   rw[cU,UZ e _<|ah _,bP]
  rw[ea]at hC;obtain⟨W,X⟩:∃NN,y (e.map Nj).reverse=NN:=⟨_,rfl⟩;have dd:W<=100000000:=by rw[<-X];simpa using em
  have t:(e.map Nj).reverse++[FE (J x1 (y q) K,q)]++[FE (J x2 (y r) L,r)]++[FE (J x3 (y s) N,s)]=qA (J x0 (y e) av,e) (J x1 (y q) K,q) (J x2 (y r) L,r) (J x3 (y s) N,s):=rfl;unfold FE at t;simp only at t;generalize(e.map Nj).reverse=bs at hC X t;have C:=U hC;have o:=U hK;clear hC hK ea;clear bf dn ds ce dc bq;gi_wp2;rw[roundsIn_succ];have dv:aT W1 (R lb<|lo+1)=H (J x1 (y q) K):=C.aw.cell ck id cl;gi_wp2;rename_i QQ KK x;apply CR KK
  .intro ba;refine sj.2 ?_;go_region
   all_goals exact ba
  apply x;clear x dv;have g:RB w bs B1 W1.drew:=C.stays (cf aB W1) cG;have u:W1.drew.heap[cj]?=H (.deferred<|H []):=ae o;generalize W1.drew=U1 at g u|-;clear C o;obtain⟨ec,k,b,j⟩:=g.row;rw[X]at b;have ax:aT U1 (R (z<|G w) 0)=H ec:=k.cell;have bg:U1.frozen? (R (z<|G w) 0)=bF:=k.free;obtain⟨cE,cv,O⟩:=aC b;have F:=ak k;obtain⟨P,f,p,C,bc,i⟩:=kG k b j g u X;clear k b j g u X;subst O;gi_wp2_with(first
   |(gi_at_builtin;refine dY _ rfl (.tmp 18) (.tmp 21) 176 rfl (z (G w)+1) 205 i0 .nilIface 1 16 underlying176 bv bx bT br rfl (by decide) (.slice cE W cv) W bs rfl (aS f (.cells #[Value.iface 105 (.slice x1 (y q) K)] 205)) (R (z (G U1)) 0) 1 1 [Value.iface 105 (.slice x1 (y q) K)] rfl rfl (vq _ _ _) (TI rfl) (by omega) (by omega) (by simp;omega) ?_;intro co w3 a d;obtain⟨bi,bh,rfl⟩:=aC a;have c:dV w3 (z (G w)) (.slice cE W cv) 176:=(d.grown.block _ (ak (P.alloc (.cells #[Value.iface 105 (.slice x1 (y q) K)] 205))) (λau=>by have:=(f.lt _ au.symm).1;omega)).trans (P.alloc _);have D:=c.cell;have E:=c.free;clear c;have A:=U a;have B:=U d;clear a d))
  obtain⟨B2,q1,q2,q3⟩:=C.more (x:=Value.iface 105<|J x1 (y q) K) P p (by rw[ae i];exact f) B (by rw[ae i];exact A);have bo:¬B2 cj:=λau=>(q3 cj au).elim bn (λet=>by have:=ak bc;omega);have v:=(q2.block cj (ak bc) bn).trans bc;generalize bZ w3 (R (z<|G w) 0) (J bi (W+1) bh)=W2 at q1 v|-;have ac:y (bs++[Value.iface 105<|J x1 (y q) K])=W+1:=by rw[af,ae i];rfl
  generalize bs++[Value.iface 105<|J x1 (y q) K]=bt at q1 ac t;have bl:=U q1;have cs:=U v;have cc:W+1<=100000000+1:=by omega
  clear q1 q2 q3 v P f p C bc i B A bn F dd D E;clear ax bg;obtain⟨an,al⟩:∃ch,W+1=ch:=⟨_,rfl⟩;rw[al]at ac cc;clear al;rw[roundsIn_succ];have dx:aT W2 (R lb<|lo+2)=H (J x2 (y r) L):=bl.aw.cell ef id cl;gi_wp2;rename_i QQ KK x;apply CR KK
  .intro ba;refine sj.2 ?_;go_region
   all_goals exact ba
  apply x;clear x dx;have g:RB w bt B2 W2.drew:=bl.stays (cf aB W2) cG;have u:W2.drew.heap[cj]?=H (.deferred<|H []):=ae cs;generalize W2.drew=U2 at g u|-;clear bl cs;obtain⟨ec,k,b,j⟩:=g.row;rw[ac]at b;have ax:aT U2 (R (z<|G w) 0)=H ec:=k.cell;have bg:U2.frozen? (R (z<|G w) 0)=bF:=k.free;obtain⟨cM,cx,O⟩:=aC b;have F:=ak k;obtain⟨P,f,p,T,o,i⟩:=kG k b j g u ac;clear k b j g u ac;subst O;gi_wp2_with(first
   |(gi_at_builtin;refine dY _ rfl (.tmp 18) (.tmp 21) 176 rfl (z (G w)+1) 205 i0 .nilIface 1 16 underlying176 bv bx bT br rfl (by decide) (.slice cM an cx) an bt rfl (aS f (.cells #[Value.iface 105 (.slice x2 (y r) L)] 205)) (R (z (G U2)) 0) 1 1 [Value.iface 105 (.slice x2 (y r) L)] rfl rfl (vq _ _ _) (TI rfl) (by omega) (by omega) (by simp;omega) ?_;intro co w3 a d;obtain⟨bi,bh,rfl⟩:=aC a;have c:dV w3 (z (G w)) (.slice cM an cx) 176:=(d.grown.block _ (ak (P.alloc (.cells #[Value.iface 105 (.slice x2 (y r) L)] 205))) (λau=>by have:=(f.lt _ au.symm).1;omega)).trans (P.alloc _);have D:=c.cell;have E:=c.free;clear c;have A:=U a;have B:=U d;clear a d))
  obtain⟨B3,q1,q2,q3⟩:=T.more (x:=Value.iface 105<|J x2 (y r) L) P p (by rw[ae i];exact f) B (by rw[ae i];exact A);have bp:¬B3 cj:=λau=>(q3 cj au).elim bo (λet=>by have:=ak o;omega);have v:=(q2.block cj (ak o) bo).trans o;generalize bZ w3 (R (z<|G w) 0) (J bi (an+1) bh)=W3 at q1 v|-;have ad:y (bt++[Value.iface 105<|J x2 (y r) L])=an+1:=by rw[af,ae i];rfl
  generalize bt++[Value.iface 105<|J x2 (y r) L]=bu at q1 ad t;have bm:=U q1;have cu:=U v;have cd:an+1<=100000000+2:=by omega
  clear q1 q2 q3 v P f p T o i B A bo F cc D E;clear ax bg;obtain⟨ao,al⟩:∃ch,an+1=ch:=⟨_,rfl⟩;rw[al]at ad cd;clear al;rw[roundsIn_succ];have dT:aT W3 (R lb<|lo+3)=H (J x3 (y s) N):=bm.aw.cell eg id cl;gi_wp2;rename_i QQ KK x;apply CR KK
  .intro ba;refine sj.2 ?_;go_region
   all_goals exact ba
  apply x;clear x dT;have g:RB w bu B3 W3.drew:=bm.stays (cf aB W3) cG;have u:W3.drew.heap[cj]?=H (.deferred<|H []):=ae cu;generalize W3.drew=U3 at g u|-;clear bm cu;obtain⟨ec,k,b,j⟩:=g.row;rw[ad]at b;have ax:aT U3 (R (z<|G w) 0)=H ec:=k.cell;have bg:U3.frozen? (R (z<|G w) 0)=bF:=k.free;obtain⟨cT,cB,O⟩:=aC b;have F:=ak k;obtain⟨P,f,p,T,o,i⟩:=kG k b j g u ad;clear k b j g u ad;subst O;gi_wp2_with(first
   |(gi_at_builtin;refine dY _ rfl (.tmp 18) (.tmp 21) 176 rfl (z (G w)+1) 205 i0 .nilIface 1 16 underlying176 bv bx bT br rfl (by decide) (.slice cT ao cB) ao bu rfl (aS f (.cells #[Value.iface 105 (.slice x3 (y s) N)] 205)) (R (z (G U3)) 0) 1 1 [Value.iface 105 (.slice x3 (y s) N)] rfl rfl (vq _ _ _) (TI rfl) (by omega) (by omega) (by simp;omega) ?_;intro co w3 a d;obtain⟨bi,bh,rfl⟩:=aC a;have c:dV w3 (z (G w)) (.slice cT ao cB) 176:=(d.grown.block _ (ak (P.alloc (.cells #[Value.iface 105 (.slice x3 (y s) N)] 205))) (λau=>by have:=(f.lt _ au.symm).1;omega)).trans (P.alloc _);have D:=c.cell;have E:=c.free;clear c;have A:=U a;have B:=U d;clear a d))
  obtain⟨B4,q1,q2,q3⟩:=T.more (x:=Value.iface 105<|J x3 (y s) N) P p (by rw[ae i];exact f) B (by rw[ae i];exact A);have db:¬B4 cj:=λau=>(q3 cj au).elim bp (λet=>by have:=ak o;omega);have v:=(q2.block cj (ak o) bp).trans o;generalize bZ w3 (R (z<|G w) 0) (J bi (ao+1) bh)=W4 at q1 v|-;have cb:y (bu++[Value.iface 105<|J x3 (y s) N])=ao+1:=by rw[af,ae i];rfl
  generalize bu++[Value.iface 105<|J x3 (y s) N]=eq at q1 cb t;have ca:=U q1;have ei:=U v;have dk:ao+1<=100000000+3:=by omega
  clear q1 q2 q3 v P f p T o i B A bp F cd D E;clear ax bg;obtain⟨eo,al⟩:∃ch,ao+1=ch:=⟨_,rfl⟩;rw[al]at cb dk;clear al;rw[roundsIn_succ];obtain⟨ec,k,b,j⟩:=ca.row;have ax:aT W4 (R (z<|G w) 0)=H ec:=k.cell;obtain⟨ev,eu,O⟩:=aC b;have f:=U b;have p:=U j;subst O;clear k b j;gi_wp2;have eb:=gD W4 cj<|.deferred none;refine⟨by simp,.inl ⟨_,_,rfl,run_takeDeferred ei,?_⟩⟩;refine⟨_,gK rfl _ _ _,?_⟩;have b:=ae f;have hB:=ae p;rw[t]at b hB;have hx:=eb.own b<|λbd Q au=>db<|(hB cj).2<|.inr (by rw[<-au];exact Q);refine⟨_,rfl,?_,ca.aw.trans eb<|λbd Q=>.inr (by subst Q;omega)⟩;obtain⟨h1,⟨h2,h0⟩|⟨fb,es,ek,h2,hb,cn⟩⟩:=hx
  .exact⟨h1,.inl ⟨h2,h0⟩⟩
  .exact⟨h1,.inr ⟨fb,es,ek,h2,by omega,cn⟩⟩
end
def Dd.aw{w w':I}{d:cr (aa×cP)}{S:fJ}(h:Dd w b c d)(g:Y S w w')(j:¬S b)(l:∀i(a:i<y d),∀k,bV d[i].1=H k->¬S k):Dd w' b c d:=⟨h.len,λi a=>g.cell (h.cell i a) j h.lt,λi a=>g.row (h.row i a)<|λk e=>⟨l i a k e,h.pE i a k e⟩,λi a k e=>ag (h.pE i a k e) g.size,h.small⟩
def ph{f:Addr}(n:a.ownsRow b c 1 (J (H f) g l) g x):∀k u,x[k]?=H u->aT a (f.add k)=H u:=by
 intro k u d;obtain⟨o,⟨e,_⟩|⟨t,m,h,e,p,i,r,q,s,j⟩⟩:=n;cases e;cases e;rw[dt,bN i,cQ];rw[<-j,mz]at d;split at d;simpa using d;cases d
def zT(a:aa)(b c d e:aa×cP):iU:=.iface 102 a::qA b c d e
def Kt(q r s t:aa×cP)(h:bL a b n m)(f:Option Addr)(e d:M)(N:n.memory=J f e d)(hl:Dd a b 10 [q,r,s,t]):cy bG 86 #[aA b] a λbc w'=>∃v',bc=aO v'/\w'.ownsRow (z<|G a) 205 1 v' (y (qA q r s t)+1) (zT n.memory q r s t)/\Y aB a w':=by
 obtain⟨i0,ac,al,an,ao⟩:=cz Jb;have x:=bL.cellAt h 7 rfl;have o:=ak h;have l:=U<|λW(Q:Y aB a W)=>NK (w:=W) (lb:=b) (lo:=10) q r s t<|hl.aw Q id<|λ_ _ _ _=>id;have K:y (qA q r s t)<=100000003/\1<=y (qA q r s t):=by have:=hl.small;simp[qA,ma]at this|-;omega
 have O:∀k∈qA q r s t,k.oneCell'=bW:=by intro k c;simp only[qA,am,iX,aZ,bH]at c;rcases c with((⟨p,_,rfl⟩|rfl)|rfl)|rfl<;>rfl
 obtain⟨au,hn⟩:∃au,y (qA q r s t)=au:=⟨_,rfl⟩;rw[hn]at K;unfold zT;rw[N]at x|-;generalize bd:qA q r s t=VS at*;clear h hl N;go_in
 go_wp2_with fail
 rename_i QQ KK E;refine cJ (λw=>aT w (R b 7)=H (J f e d)) 11 (by kernel_rfl) ?_;have C:aT a.drew (R b 7)=H (J f e d):=x;refine dA 0 ?_;iterate 5 (refine fw (v:=?_) C rfl (by kernel_rfl) jU rfl ?_ ?_;rotate_left;(focus(intro w hX;go_simp;try rfl));simp only[Act.put,du,Nat.reduceAdd])
 apply eX;refine dA 6 ?_;iterate 3 (refine fw (v:=?_) C rfl (by kernel_rfl) jU rfl ?_ ?_;rotate_left;(focus(intro w hX;go_simp;try rfl));simp only[Act.put,du,Nat.reduceAdd])
 apply eX;have u:∀(W:I)(T:M),W.heap[T]?=H (ar #[.iface 102<|J f e d] 205 (0,0))->z (G a)<=T->W.ownsRow (z<|G a) 205 1 (bD T 0 1 1) 1 [.iface 102<|J f e d]:=by intro W T hb c;exact⟨rfl,.inr ⟨T,1,#[.iface 102<|J f e d],rfl,c,hb,ah _,by unfold maxLen;omega,rfl,rfl⟩⟩
 refine tM (α:=M×aa) (λV W=>Y aB a W/\W.heap[V.1]?=H (ar #[.iface 102<|J f e d] 205 (0,0))/\z (G a)<=V.1/\W.ownsRow (z<|G a) 205 1 V.2 au VS/\bV V.2≠H V.1) (λV=>{tmps:=#[aA b,iB,aK,aA b,aA b,fp<|H<|R b 7,J f e d,.iface 102<|J f e d,bD V.1 0 1 1,aA b,aA b,fp<|H<|R b 10,V.2,iB],defers:=[]}) #[true,true,true,true,true,true,true,true,true,true,false,false] 2 ?_ ?_;(.intro P;refine sK (i:=5) (j:=9) rfl rfl rfl rfl (by kernel_rfl) ?_ ?_;(.intro ad hK;go_simp;have A:Y aB a (ct a<|ar #[.iface 102<|J f e d] 205).drew:=((Y.refl aB a).alloc _).of_heap rfl;have F:(ct a<|ar #[.iface 102<|J f e d] 205).drew.heap[z<|G a]?=H (ar #[.iface 102<|J f e d] 205 (0,0)):=aD (w:=a) _ rfl;refine hK _ _ (λ_=>A.cell x id o) ?_;refine aP (i:=9) rfl rfl (by kernel_rfl) ?_;intro K2 g;go_simp;apply(l _ A).mono;rintro bc S⟨v1,rfl,c,p⟩;have X:=(p.block _ (ak F) id).trans F;have k:=A.ci p;refine g _ _ (λ_=>k.cell x id o) ?_;have L:=λm a=>(c.lt m a).1;simp at L;refine jY (P (z<|G a,v1) S ⟨k,X,ah _,?_,?_⟩) (by kernel_rfl);rw[hn]at c;obtain⟨q1,⟨q2,q0⟩|⟨bg,cp,D,q2,qb,B⟩⟩:=c;exact⟨q1,.inl ⟨q2,q0⟩⟩;exact⟨q1,.inr ⟨bg,cp,D,q2,by simp at qb;omega,B⟩⟩;intro ba;have:=L _ ba;omega);intro ad hK;go_simp;apply(l _<|cf _ a).mono;rintro bc S⟨v1,rfl,c,p⟩;have k:Y aB a S:=(cf aB a).ci p;refine hK _ _ (λ_=>k.cell x id o) ?_;refine aP (i:=5) rfl rfl (by kernel_rfl) ?_;intro K2 g;go_simp;have A:=k.alloc<|ar #[.iface 102<|J f e d] 205;refine g _ _ (λ_=>A.cell x id o) ?_;refine jY (P (z<|G S,v1) _ ⟨A,aD _ rfl,k.size,?_,?_⟩) (by kernel_rfl);rw[hn]at c;exact aS c _;intro ba;have:=(c.lt _ ba).2;omega);rintro⟨T,av⟩W⟨Q,hb,L,P,bf⟩;have B:=u W T hb L;(obtain⟨ax,c,rfl⟩:∃a ba,av=J (H a) au ba:=by rcases P.2 with⟨_,h0⟩|⟨bg,bb,D,h2,_⟩;omega;exact⟨_,_,h2⟩);refine aP (i:=10) rfl rfl (by kernel_rfl) ?_;intro K2 g;simp only[dj,cD,cO];refine kF (.tmp 8) (.tmp 12) 176 rfl (z<|G a) 205 i0 .nilIface 1 16 underlying176 ac al an ao rfl (by decide) (bD T 0 1 1) 1 [.iface 102<|J f e d] rfl B ax au c VS rfl P.1 ?_ O (by omega) (by omega) Q.size ?_;exact ph P;intro v3 w3 p F;obtain⟨x3,c3,ad⟩:=aC p;subst ad;have k:Y aB a w3:=Q.trans (fg F.grown) (by rintro m rfl;exact .inr L);refine g _ _ (λ_=>k.cell x id o) ?_;simp only[Act.put,du];refine aP (i:=11) rfl rfl (by kernel_rfl) ?_;intro K3 A;go_simp;refine A _ _ yR ?_;refine dp (by kernel_rfl) ?_ _;show KK _ _;apply E;have S:=U p;have X:=U k;clear E g A p F k B P u;go_wp2;go_ret;refine⟨_,rfl,?_,X⟩;rw[show au+1=1+au from vA _ _];exact S
def qQ(V:jj)(g:M)(h:aa)(e:cA)(w:I):Prop:=∃t v f b,h=.iface t v/\(∀w,(Go.method 545 t v "Find").run bG w=.ok (f,b) w)/\Enters bG f/\∀a(d:Z)w',jz V g aB w w'->V.D w'->cy bG f #[b,ai a,aH d] w' λi c=>i=aO (tf<|iA d e a)/\V.D c/\Y V.F w' c
def RT(v:aa)(w:I):(Go.method 545 105 v "Find").run bG w=.ok (319,v) w:=by kernel_rfl
def RS(v:aa)(w:I):(Go.method 545 224 v "Find").run bG w=.ok (321,v) w:=by kernel_rfl
def UF(v:aa)(w:I):(Go.method 545 102 v "Find").run bG w=.ok (315,v) w:=by kernel_rfl
def qQ.xB(j:sh r b d i a)(c:b<=z (G a))(hF:∀k,r.F k->k<b):qQ r b (.iface 105 d) (cg i) a:=⟨_,d,_,d,rfl,RT d,enters_of func319 (by kernel_rfl) rfl,λe g l f h=>Ru e g (j.same f) h (aE c f.1) hF⟩
def qQ.table(h:nE r b S.tb S.ks S.cs a)(c:b<=z (G a))(hF:∀k,r.F k->k<b):qQ r b (.iface 224 S.ptr) S.all a:=⟨_,S.ptr,_,S.ptr,rfl,RS S.ptr,enters_of func321 (by kernel_rfl) rfl,λd f i e g=>BY d f (h.same e) g (aE c e.1) hF⟩
def kw.same{V:jj}{n0:M}(o:kw a d e)(l:jz V n0 aB a f)(m:∀i,bV d=Option.some i->i<n0/\¬V.F i):kw f d e:=by
 obtain⟨h,⟨rfl,j⟩|⟨n,b,c,rfl,g,k⟩⟩:=o;exact⟨h,.inl ⟨rfl,j⟩⟩;exact⟨h,.inr ⟨n,b,c,rfl,g,λo u j=>l.cell (.inr<|m n rfl)<|k o u j⟩⟩
def qQ.list(o:kw a d e)(n:dQ e)(m:y e<=1000000000000)(j:∀i,bV d=H i->i<b/\¬r.F i)(g:b<=z (G a)):qQ r b (.iface 102 d) e a:=by
 refine⟨_,d,_,d,rfl,UF d,enters_of func315 (by kernel_rfl) rfl,λh k p c l=>?_⟩;apply(Al h k (o.same c j) n m<|λi f=>ag (ag (j i f).1 g) c.1).mono;rintro s q⟨rfl,f⟩;exact⟨rfl,r.fi l (Y.aW (S:=aB) f) cG,Y.aW f⟩
def wq(c:Z)(b:ab)(a:cr (aa×cA)):Option E:=a.findSome?<|λr=>iA c r.2 b
def Wg:Option E->aa
 |some x=>.tuple #[.string x.val,.bool<|!x.del,.nilIface]
 |none=>.tuple #[.string ⟨#[]⟩,.bool bF,.nilIface]
def Tj{a:cr (aa×cA)}(h:b<y a)(c:wq m v (a.take b)=none):wq m v a=(iA m a[b].2 v).or (wq m v<|a.drop<|b+1):=by
 have e:a=a.take b++a[b]::a.drop (b+1):=by rw[<-bE h,bX]
 unfold wq at*;conv=>lhs;rw[e]
 rw[wC,c,rS];cases iA m a[b].2 v<;>rfl
def UD(w:I)(c:M)(a:ab)(d:Z)(e:¬(1<=a.size/\a.size<=8))(f:a.size<=140737488351232):cy bG 59 #[aA c,ai a,aH d] w λi g=>i=aO (dB #[ai ⟨#[]⟩,aL bF,lE 3])/\g=w:=by
 have b:=λW=>qK a W f;rw[wi e]at b;go_in
 go_wp2_with(go_at_call 68;refine(b _).mono ?_;rintro i j⟨rfl,rfl⟩)
 refine cI (my rfl _ _ _) rfl ?_;exact⟨rfl,rfl⟩
def UE(n0:M)(p0 p1 p2 p3:aa×cP)(c:cr (aa×cA))(d:ab)(t:Z)(h:bL a b n m)(mx:Option Addr)(mn mc:M)(bb:n.memory=J mx mn mc)(hl:Dd a b 10 [p0,p1,p2,p3])(N:c.map (·.1)=zT n.memory p0 p1 p2 p3)(hR:∀bs(hi:bs<y c),qQ r n0 c[bs].1 c[bs].2 a)(hD:r.D a)(bo:n0<=z (G a))(hF:∀m,r.F m->m<n0)(hk:1<=d.size/\d.size<=8)(bh:∀cp∈c,∀x∈cp.2,x.val.size<=281474976710656):cy bG 59 #[aA b,ai d,aH t] a λbt w'=>bt=aO (Wg<|wq t d c)/\r.D w'/\Y r.F a w':=by
 have O:=λcb=>qK d cb (by omega);rw[pG hk]at O;have V:=Kt p0 p1 p2 p3 h mx mn mc bb hl;have l:y (qA p0 p1 p2 p3)+1=y c:=by have:=bU y N;simp[zT]at this;omega
 rw[<-N,l]at V;have bu:y c<=1000000000:=by have:=hl.small;rw[<-l];simp[qA,ma]at this|-;omega
 obtain⟨HR,HD,HF,bl⟩:=gx hR hD hF bh;clear h hl bb N hR hD hF l bh;go_in
 go_wp2_with fail
 apply(O _).mono;rintro bt w1⟨rfl,ck⟩;subst w1;go_wp2_with fail
 apply V.mono;rintro bt w1⟨v1,rfl,P,bg⟩;obtain⟨x1,c1,bp⟩:=aC P;subst bp;have al:=U P;have an:=U bg;clear P bg V O;go_wp2_with fail
 go_loopw [21] (λbs wr=>∃B:M,B<=y c/\bs=ap B/\r.D wr/\Y r.F w1 wr/\wq t d (c.take B)=none) (λbs _=>y c-(intOf bs).toNat)
 case atStart=>exact⟨0,bA _,rfl,r.fi HD an cG,Y.refl _ _,rfl⟩
 case round=>
  obtain⟨B,hn,rfl,j,q,e⟩:=hrel;have o:Y r.F a wr:=(an.mono (T:=r.F) cG).trans q<|λ_ l=>.inl l;by_cases g:B<y c
  .obtain⟨cn,co,cm,cl,bd,hm,he,k⟩:=HR B g;have eg:∀c a,(callFunc cm c).run bG a=.ok (.enter cm c) a:=he;have s:=k d t wr (o.same bo cG<|λm hk _=>hk) j;have bc:∀m,z (G a)<=m->¬r.F m:=λm hk c=>by have:=HF m c;omega
   have Q:=q.own al<|λm hk=>bc m (al.lt m hk).1;obtain⟨bq,hx,cj⟩:∃bq,x1=H (R bq 0)/\aT wr (R bq B)=H (.iface cn co):=by
    rcases Q.2 with⟨f,C⟩|⟨w,u,v,f,_⟩
    .omega
    .cases f;refine⟨w,rfl,?_⟩;have:=ph Q B (.iface cn co) (by rw[dz,aG g];simp[bd]);rwa[dt,cQ]at this
   subst hx;have ax:=Tj g e;have bf:wq t d (c.take<|B+1)=iA t c[B].2 d:=by
    rw[aj g];unfold wq at e|-;rw[wC,e];cases h:iA t c[B].2 d<;>simp[h]
   have X:∀x,iA t c[B].2 d=H x->x.val.size<=281474976710656:=λx hx=>bl _ (aq g) x<|jJ hx;obtain⟨ac,bk,K,ad,bi⟩:=jP j q o ax bf;have e1:(B:Z)<(y c:Z):=by omega
   clear j q o bd he k e Q bc ax bf;cases hfe:iA t c[B].2 d with
   |none=>
    rw[hfe]at s;unfold tf wO at s;simp only at s;have F:=U hfe;clear hfe X;go_wp2_with fail
    apply s.mono;rintro bt A⟨rfl,i,p⟩;have D:=U i;have L:=U p;clear i p s;go_wp2;go_roundw;case rel=>
     refine⟨B+1,g,by go_num,r.fi D ((Y.refl aB A).alloc _) cG,?_,?_⟩
     .exact(bk.trans L<|λ_ l=>.inl l).alloc _
     .rw[ae bi,ae F]
    case measure=>simp[intOf];omega
   |some x=>
    have br:=X x hfe;rw[hfe]at s;unfold tf E.value at s;simp only at s;have bn:=λcb=>vp x.val cb br;have bv:∀(x:Bool)(a:I),(Op.unary .not<|aL x).run bG a=.ok (aL<|!x) a:=λ_ _=>rfl;have F:=U hfe;clear hfe X;go_wp2_with fail
    apply s.mono;rintro bt A⟨rfl,i,p⟩;have D:=U i;have L:=U p;clear i p s;go_wp2_with fail
    have f:ii (ct A<|ar #[ai x.key,ai x.val,aL x.del,aH x.bI] 164) (z<|G A) x:=aD _ rfl;have v:Y r.F a (ct A<|ar #[ai x.key,ai x.val,aL x.del,aH x.bI] 164):=(K.trans L<|λ_ l=>.inl l).alloc _;have u:r.D (ct A<|ar #[ai x.key,ai x.val,aL x.del,aH x.bI] 164):=r.fi D ((Y.refl aB A).alloc _) cG;generalize ct A (ar #[ai x.key,ai x.val,aL x.del,aH x.bI] 164)=W3 at f v u|-;generalize z (G A)=eb at f|-;obtain⟨cc,cd,bm,ce⟩:=f.cells;have ba:=ak f;obtain⟨ca,bx,bT⟩:=dC v u f;have HA:=U (show∀C,Below (z<|G W3) W3.drew C->aT C (R eb 2)=H (aL x.del)/\r.D C/\Y r.F a C from by
     intro C w;have W:Y aB W3 C:=(cf aB W3).ci (Y.aW (S:=aB) w);exact⟨W.cell bm id ba,r.fi u W cG,v.ci W⟩)
    clear f v u;go_region_with(first|(go_at_call 103;refine(bn _).mono ?_;rintro bt C⟨rfl,w⟩;obtain⟨ch,au,av⟩:=HA C w;have ao:=U<|And.intro au av;clear au av w))
    all_goals(go_wp2;refine cI (my rfl _ _ _) rfl ?_;exact⟨by rw[ae ad,ae F];rfl,ao.1,ao.2⟩)
  .have f:B=y c:=by omega
   rw[f,bP]at e;obtain⟨i,ac,K⟩:=dC e j o;have e1:¬(B:Z)<(y c:Z):=by omega
   clear e j o q f;go_wp2;refine cI (my rfl _ _ _) rfl ?_;exact⟨by rw[ae i];rfl,ac,K⟩
structure Aside(w:I)(K:DK)(db sb k:M):Prop where
 lt:k<z (G w)
 bj:¬K.bj db k
 ne:k≠sb
def Aside.fq(h:Aside a j b c g)(d:gw a f b c j O):Aside f O b c g:=⟨ag h.lt d.aw.size,λe=>(d.bj g e).elim h.bj (λi=>by have:=h.lt;omega),h.ne⟩
def Aside.block{w w':I}(h:Aside w j b c g)(a:gw w w' b c j O):w'.heap[g]?=w.heap[g]?:=a.aw.block g h.lt<|λd=>d.elim h.bj h.ne
def Aside.cell{w w':I}{b a k i:M}(h:Aside w j b a k)(e:gw w w' b a j O)(c:aT w (R k i)=H d):aT w' (R k i)=H d:=(cH (w:=w)<|h.block e).trans c
def zU(n:Row a g d l x)(i:gw a f b c j O)(e:∀k,bV d=H k->Aside a j b c k):Row f g d l x:=i.aw.row n<|λk h=>⟨λm=>m.elim (e k h).bj (e k h).ne,(e k h).lt⟩
structure rO(w:I)(db:M)(fs:Fs)(A:fJ)(t:bJ):Prop where
 mem:∃bb boff wL,lR w t.tb (aA db) t.num (y<|dG t.cs) (y<|fa<|bO 0 t.cs) (mr<|fa<|bO 0 t.cs) bb boff wL aK t.ks/\A bb
 loc:A t.tb
 ks:t.ks=bO 0 t.cs
 num:t.num<18446744073709551616
 pure:tD t.ks t.cs
 idx:JN (bO 0 t.cs)
 small:y (dG t.cs)<=100000
 file:dX fs (gI t.num)=H (mu t.cs)
def rO.fq(h:rO a b (vw j.files) (Aside a j b c) S)(g:gw a f b c j O)(l:dX (vw O.files) (gI S.num)=dX (vw j.files) (gI S.num)):rO f b (vw O.files) (Aside f O b c) S:=by
 obtain⟨k,e,d,m,i⟩:=h.mem;exact⟨⟨k,e,d,m.de (h.loc.block g)<|i.block g,i.fq g⟩,h.loc.fq g,h.ks,h.num,h.pure,h.idx,h.small,l.trans h.file⟩
structure SA(w:I)(K:DK)(db sb:M):Prop where
 steps:Steps w
 pow:Pow w
 fC:Aside w K db sb 1
 me:Aside w K db sb 2
def SA.fq(h:SA a j b c)(d:gw a f b c j O):SA f O b c:=⟨λk e=>h.fC.cell d<|h.steps k e,h.pow.de<|h.me.block d,h.fC.fq d,h.me.fq d⟩
structure Hz(w:I)(K:DK)(db sb:M)(v:aa)(ts:cP):Prop where
 row:Row w 1 v (y ts) (ts.map bJ.ptr)
 loc:∀k,bV v=H k->Aside w K db sb k
 each:∀t∈ts,rO w db (vw K.files) (Aside w K db sb) t
def Hz.fq(h:Hz a j b c d i)(e:gw a f b c j O)(k:∀t∈i,dX (vw O.files) (gI t.num)=dX (vw j.files) (gI t.num)):Hz f O b c d i:=⟨zU h.row e h.loc,λm l=>(h.loc m l).fq e,λt g=>(h.each t g).fq e<|k t g⟩
def lK(h:∀t∈i,tD t.ks t.cs):y i<=y (cg i):=by
 induction i with
 |nil=>simp
 |cons t r b=>
  obtain⟨x,a,_⟩:=(h t<|by simp).xC;have c:1<=y t.all:=vC a;have d:=b (λu a=>h u<|by simp[a]);have e:y (cg<|t::r)=y t.all+y (cg r):=by simp[cg]
  simp only[ay];omega
structure ST(w:I)(sb:M)(s:SR)(K:DK)(m:cA)(a b c d:cP)(C:M):Prop where
 mem:kw w s.memory m
 sV:∀k,bV s.memory=H k->Aside w K s.aN sb k
 l0:Hz w K s.aN sb s.l0 a
 l1:Hz w K s.aN sb s.l1 b
 l2:Hz w K s.aN sb s.l2 c
 l3:Hz w K s.aN sb s.l3 d
 aN:cK w s.aN K
 rV:¬K.bj s.aN sb
 lu:SA w K s.aN sb
 qI:y m+y (cg a)+y (cg b)+y (cg c)+y (cg d)<=C
 mJ:C<=1000000
 mq:dQ m
 jc:∀x∈m,x.Good
 s1:ly b
 s2:ly c
 s3:ly d
def ST.len(h:ST a b n j e i p t u c):y e<=2000000:=by have:=h.qI;have:=h.mJ;omega
def ST.count(h:ST a b n j e i p t u c):y i+y p+y t+y u<=2000000:=by
 have:=h.qI;have:=h.mJ;have:=lK<|λf d=>(h.l0.each f d).pure;have:=lK h.s1.pure;have:=lK h.s2.pure;have:=lK h.s3.pure;omega
def ST.fq(h:ST a b n j e i p t u c)(k:b<z (G a))(d:gw a f n.aN b j O)(g:vw O.files=vw j.files):ST f b n O e i p t u c where
 mem:=zU h.mem d h.sV
 sV:=λg b=>(h.sV g b).fq d
 l0:=h.l0.fq d<|λ_ _=>by rw[g]
 l1:=h.l1.fq d<|λ_ _=>by rw[g]
 l2:=h.l2.fq d<|λ_ _=>by rw[g]
 l3:=h.l3.fq d<|λ_ _=>by rw[g]
 aN:=d.ok
 rV:=λt=>(d.bj b t).elim h.rV<|λg=>by omega
 lu:=h.lu.fq d
 qI:=h.qI
 mJ:=h.mJ
 mq:=h.mq
 jc:=h.jc
 s1:=h.s1
 s2:=h.s2
 s3:=h.s3
def qB(s:SR)(m:cA)(a b c d:cP):cr (aa×cA):=(.iface 102 s.memory,m)::(((a.map<|λt=>(Nj t,t.all)).reverse)++[(FE (s.l1,b),cg b)]++[(FE (s.l2,c),cg c)]++[(FE (s.l3,d),cg d)])
def Gv(s:SR)(m:cA)(a b c d:cP):(qB s m a b c d).map (·.1)=zT s.memory (s.l0,a) (s.l1,b) (s.l2,c) (s.l3,d):=by
 simp[qB,zT,qA,uE]
def ST.Yo(h:ST a b n j e i p t u c)(d:bL a b n m):Dd a b 10 [(n.l0,i),(n.l1,p),(n.l2,t),(n.l3,u)]:=by
 refine⟨rfl,λf g=>?_,λf g=>?_,λf g=>?_,?_⟩;(have:f=0\/f=1\/f=2\/f=3:=by simp at g;omega);rcases this with rfl|rfl|rfl|rfl<;>exact d.cell rfl;(have:f=0\/f=1\/f=2\/f=3:=by simp at g;omega);rcases this with rfl|rfl|rfl|rfl;exact h.l0.row;exact h.l1.row;exact h.l2.row;exact h.l3.row;(have:f=0\/f=1\/f=2\/f=3:=by simp at g;omega);rcases this with rfl|rfl|rfl|rfl;exactλm d=>(h.l0.loc m d).lt;exactλm d=>(h.l1.loc m d).lt;exactλm d=>(h.l2.loc m d).lt;exactλm d=>(h.l3.loc m d).lt;have:=h.count;simp[ma];omega
def ql(a:M)(K:DK):jj:=AD a K.files K.eM<|K.bj a
def Ii(h:rO a b (vw j.files) (Aside a j b c) S)(e:SA a j b c):nE (AD b j.files j.eM<|j.bj b) (z<|G a) S.tb S.ks S.cs a:=by
 obtain⟨k,f,d,m,i⟩:=h.mem;obtain⟨n,l,g⟩:=js h.file;refine nE.Pn b j.files j.eM (j.bj b) (z<|G a) S.tb S.num h.num _ _ _ k f d aK S.ks S.cs n (fa<|bO 0 S.cs) a m h.pure l g ?_ ⟨h.loc.lt,h.loc.bj⟩ ⟨i.lt,i.bj⟩ e.steps ⟨e.fC.lt,e.fC.bj⟩ e.pow ⟨e.me.lt,e.me.bj⟩;rw[g];have o:=lq<|λk a=>(h.idx.can k a).fits;have:=h.small;have:=h.idx.len;unfold mu fa;rw[af,af,bY];omega
def yq(h:Hz a j b c d i)(f:SA a j b c)(k:ly i)(g:y i<=1000000000):sh (AD b j.files j.eM<|j.bj b) (z<|G a) d i a:=⟨h.row,λm e=>⟨(h.loc m e).lt,(h.loc m e).bj⟩,λt l=>Ii (h.each t l) f,k,g⟩
def Pw(c:cK a b j)(d:∀k,j.bj b k->k<z (G a)):(AD b j.files j.eM<|j.bj b).D a:=⟨d,j,c,rfl,rfl,λ_ h=>h⟩
def ST.KU(h:ST a b n j e i p t u c):(ql n.aN j).D a:=Pw h.aN h.aN.lt
def ST.Xu(h:ST a b n j e i p t u c):∀r∈qB n e i p t u,qQ (ql n.aN j) (z<|G a) r.1 r.2 a:=by
 have hF:∀k,(ql n.aN j).F k->k<z (G a):=h.aN.lt;have g:=h.count;intro r d;simp only[qB,az,am,iX,aZ,eG,kK]at d;rcases d with rfl|((⟨l,f,rfl⟩|rfl)|rfl)|rfl;exact qQ.list h.mem h.mq (show y e<=1000000000000 by have:=h.len;omega) (λk a=>⟨(h.sV k a).lt,(h.sV k a).bj⟩)<|ah _;exact qQ.table (Ii (h.l0.each l f) h.lu) (ah _) hF;exact qQ.xB (yq h.l1 h.lu h.s1<|by omega) (ah _) hF;exact qQ.xB (yq h.l2 h.lu h.s2<|by omega) (ah _) hF;exact qQ.xB (yq h.l3 h.lu h.s3<|by omega) (ah _) hF
def AY(h:ly i):∀x∈cg i,x.Good:=by
 intro x a;unfold cg at a;obtain⟨l,c,a⟩:=bz.1 a;obtain⟨t,d,rfl⟩:=aZ.1 c;obtain⟨e,b,a⟩:=bz.1 a;exact(h.pure t d).jc e b x a
def SW(h:tD S.ks S.cs):∀x∈S.all,x.Good:=by
 intro x a;obtain⟨c,b,a⟩:=bz.1 a;exact h.jc c b x a
def ST.Kv(h:ST a b n j e i p t u c):∀r∈qB n e i p t u,∀x∈r.2,x.Good:=by
 intro r d;simp only[qB,az,am,iX,aZ,eG,kK]at d;rcases d with rfl|((⟨g,f,rfl⟩|rfl)|rfl)|rfl;exact h.jc;exact SW (h.l0.each g f).pure;exact AY h.s1;exact AY h.s2;exact AY h.s3
def kX(c:cK a n.aN j)(d:¬j.bj n.aN b)(e:Z):gw a (bZ a (R b 0)<|jk e) n.aN b j j:=(gw.refl c).set d 0 _
def gw.sb(h:gw a C b c j O)(d:¬j.bj b c)(g:c<z (G a)):¬O.bj b c:=λe=>(h.bj c e).elim d<|λi=>by omega
def qO{b sbqq:M}(d:cK a b j)(c:Below (z<|G a) a f):gw a f b sbqq j j:=⟨d.aw (Y.aW (S:=aB) c)<|λ_ _=>id,(Y.aW (S:=aB) c).mono cG,λ_ e=>.inl e⟩
structure Ga(w:I)(K:DK)(sb:M)(s:SR)(sn:fS):Prop where
 ex:∃b,s.lT=H b/\ju w b (AM sn)/\Aside w K s.aN sb b
 len:y sn<=4
def Ga.fq{e:fS}(i:Ga a j b n e)(d:gw a f n.aN b j O):Ga f O b n e:=by
 obtain⟨k,g,h,c⟩:=i.ex;exact⟨⟨k,g,h.de<|c.block d,c.fq d⟩,i.len⟩
def Ga.fields{s s':SR}{c:fS}(h:Ga a j b s c)(g:s'.aN=s.aN/\s'.lT=s.lT):Ga a j b s' c:=by
 obtain⟨i,d,e,f⟩:=h.ex;exact⟨⟨i,g.2.trans d,e,by rw[g.1];exact f⟩,h.len⟩
def Sy(w:I)(t:bJ):Prop:=t.num<18446744073709551616/\∃g cut b e f c a d,lR w t.tb g t.num cut b e f c a d t.ks
def Sy.aw{w w':I}{t:bJ}(m:Sy w t)(h:Y aB w w'):Sy w' t:=by
 obtain⟨l,k,cut,b,g,j,c,a,d,e⟩:=m;exact⟨l,k,cut,b,g,j,c,a,d,e.de (h.block _ (ak e.box) id)<|h.block _ e.lt.2 id⟩
def Sy.name(n:Sy a S)(l:Pow a):cy bG 159 #[aA S.tb] a λm w'=>m=aO (ai<|gI S.num)/\Below (z<|G a) a w':=by
 obtain⟨j,i,cut,c,g,h,d,b,e,k⟩:=n;exact BW S.tb i S.num j cut c g h d b e S.ks k l
def EI:(prog.info? 94).map (λi=>(i.zero,i.size,i.bytes))=H (H<|eC #[],0,0):=by kernel_rfl
def Pj(a b c d:aa)(e f g h:cP):qc [(a,e),(b,f),(c,g),(d,h)]=(e++f++g++h).map bJ.ptr:=by simp[qc]
def Qc(a b c d:aa)(e f g h:cP):ma [(a,e),(b,f),(c,g),(d,h)]=y (e++f++g++h):=by simp[ma]
def mZ(T a:cP):cP:=T.filter<|λt=>!(a.any<|λu=>u.num==t.num)
def Oe{T T':cP}(h:b<y T):mZ (T.take<|b+1) T'=mZ (T.take b) T'++(if T'.any (λu=>u.num==T[b].num)then []else [T[b]]):=by
 unfold mZ;rw[aj h,iV];cases hc:T'.any (λu=>u.num==T[b].num)<;>simp[hc]
def Vj{T':cP}(t:bJ):T'.any (λu=>u.num==t.num)=bW↔∃u∈T',ai (gI t.num)=ai (gI u.num):=by
 rw[iY];constructor;rintro⟨u,a,e⟩;exact⟨u,a,by rw[eq_of_beq e]⟩;rintro⟨u,a,e⟩;refine⟨u,a,?_⟩;(have:gI t.num=gI u.num:=by simpa using e);rw[uQ this];exact beq_self_eq_true _
def pt(s:SR)(T a:cP):cr ab:=(if s.gB then [iM s.log]else [])++(mZ T a).map (λt=>gI t.num)
def IF(gi cE F ej w x A B:cP){v3:aa}(h:bL a b n m)(hl:Dd a b 10 [(n.l0,gi),(n.l1,cE),(n.l2,F),(n.l3,ej)])(r0:Row a 1 d (y w) (w.map bJ.ptr))(r1:Row a 1 s (y x) (x.map bJ.ptr))(r2:Row a 1 N (y A) (A.map bJ.ptr))(r3:Row a 1 v3 (y B) (B.map bJ.ptr))(k0:∀m,bV d=H m->m<z (G a))(k1:∀m,bV s=H m->m<z (G a))(k2:∀m,bV N=H m->m<z (G a))(k3:∀m,bV v3=H m->m<z (G a))(hT:∀v∈gi++cE++F++ej,Sy a v)(cl:∀v∈w++x++A++B,Sy a v)(hp:Pow a)(gt:n.log<18446744073709551616)(ha:y (gi++cE++F++ej)<=10000000)(hb:y (w++x++A++B)<=10000000):cy bG 143 #[aA b,eC #[d,s,N,v3]] a λbn w'=>∃v',bn=aO v'/\w'.ownsRow (z<|G a) 9 1 v' (y<|pt n (gi++cE++F++ej)<|w++x++A++B) (strs<|pt n (gi++cE++F++ej)<|w++x++A++B)/\Y aB a w':=by
 have hx:=@tF bG;have hk:∀(fs:Bool)(a:I),(Op.unary .not<|aL fs).run bG a=.ok (aL<|!fs) a:=λ_ _=>rfl;obtain⟨i0,eo,fe,ff,fk⟩:=cz EJ;obtain⟨i1,gs,hh,hz,hA⟩:=cz EI;obtain⟨x0,c0,rfl⟩:=bM r0;obtain⟨x1,c1,rfl⟩:=bM r1;obtain⟨x2,c2,rfl⟩:=bM r2;obtain⟨x3,c3,rfl⟩:=bM r3;have gv:=ak h;have eq:Dd (ct a<|ar #[J x0 (y w) c0,J x1 (y x) c1,J x2 (y A) c2,J x3 (y B) c3] 107) (z<|G a) 0 [(J x0 (y w) c0,w),(J x1 (y x) c1,x),(J x2 (y A) c2,A),(J x3 (y B) c3,B)]:=by have q:Y aB a (ct a<|ar #[J x0 (y w) c0,J x1 (y x) c1,J x2 (y A) c2,J x3 (y B) c3] 107):=(Y.refl _ _).alloc _;have cd:(ct a<|ar #[J x0 (y w) c0,J x1 (y x) c1,J x2 (y A) c2,J x3 (y B) c3] 107).heap[z<|G a]?=H (ar #[J x0 (y w) c0,J x1 (y x) c1,J x2 (y A) c2,J x3 (y B) c3] 107 (0,0)):=aD _ rfl;refine⟨rfl,λQ hi=>?_,λQ hi=>?_,λQ hi=>?_,by rw[Qc];omega⟩;(have:Q=0\/Q=1\/Q=2\/Q=3:=by simp at hi;omega);rcases this with rfl|rfl|rfl|rfl<;>(rw[bN cd];rfl);(have:Q=0\/Q=1\/Q=2\/Q=3:=by simp at hi;omega);rcases this with rfl|rfl|rfl|rfl;exact q.row r0<|λm f=>⟨id,k0 m f⟩;exact q.row r1<|λm f=>⟨id,k1 m f⟩;exact q.row r2<|λm f=>⟨id,k2 m f⟩;exact q.row r3<|λm f=>⟨id,k3 m f⟩;(have:Q=0\/Q=1\/Q=2\/Q=3:=by simp at hi;omega);rcases this with rfl|rfl|rfl|rfl;exactλm f=>ag (k0 m f) q.size;exactλm f=>ag (k1 m f) q.size;exactλm f=>ag (k2 m f) q.size;exactλm f=>ag (k3 m f) q.size
 obtain⟨T,cm⟩:∃T,gi++cE++F++ej=T:=⟨_,rfl⟩;obtain⟨e,ac⟩:∃e,w++x++A++B=e:=⟨_,rfl⟩;have bv:∀cj,Y aB a cj->cy bG 138 #[fp<|H<|R b 10] cj λbn w'=>∃v',bn=aO v'/\w'.ownsRow (z<|G cj) 224 1 v' (y T) (T.map bJ.ptr)/\Y aB cj w':=λcj j=>by have:=sa (w:=cj) (lb:=b) (lo:=10) _<|hl.aw j id<|λ_ _ _ _ F=>F;rw[Pj,Qc,cm]at this;exact this
 have an:∀cj,Y aB (ct a<|ar #[J x0 (y w) c0,J x1 (y x) c1,J x2 (y A) c2,J x3 (y B) c3] 107) cj->cy bG 138 #[aA<|z<|G a] cj λbn w'=>∃v',bn=aO v'/\w'.ownsRow (z<|G cj) 224 1 v' (y e) (e.map bJ.ptr)/\Y aB cj w':=λcj j=>by have:=sa (w:=cj) (lb:=z<|G a) (lo:=0) _<|eq.aw j id<|λ_ _ _ _ F=>F;rw[Pj,Qc,ac]at this;exact this
 rw[cm]at hT ha|-;rw[ac]at cl hb|-;have dn:=U hT;have cb:=U cl;obtain⟨HB,HP,fv⟩:=dC h hp bv;have bp:=U an;clear hT cl h hl r0 r1 r2 r3 k0 k1 k2 k3 eq cm ac hp bv an gi cE F ej;obtain⟨WB,el⟩:∃WB,ct a (ar #[J x0 (y w) c0,J x1 (y x) c1,J x2 (y A) c2,J x3 (y B) c3] 107)=WB:=⟨_,rfl⟩;have bk:Y aB a WB:=by rw[<-el];exact(Y.refl _ _).alloc _
 have ck:=bk.block b gv id|>.trans HB;have gj:=bL.cellAt ck 18 rfl;have ht:=bL.cellAt ck 17 rfl;have ex:Pow WB:=HP.aw bk id;have bu:=vS n.log gt ex;have ce:=U bk;rw[el]at bp;clear bk ck ex;have dd:=U bu;clear bu;obtain⟨lg,bt⟩:∃lg,n.gB=lg:=⟨_,rfl⟩;have dc:=U (show pt n T e=(if lg then [iM n.log]else [])++(mZ T e).map (λv=>gI v.num)by rw[<-bt];rfl);rw[bt]at gj;generalize n.log=fl at*;go_in
 cases lg;(case' false=>(go_wp2_with fail);generalize q:WB=W5;have bh:=U (show Y aB WB W5 by rw[<-q];exact Y.refl _ _);obtain⟨v5,o⟩:∃v5,v5=J none 0 0:=⟨_,rfl⟩;obtain⟨c,g⟩:∃c:cr ab,c=[]:=⟨_,rfl⟩;have p:=U (show W5.ownsRow (z<|G a) 9 1 v5 (y c) (strs c)by rw[o,g];exact bK _ _ _ _);have bo:=U (show pt n T e=c++(mZ T e).map (λv=>gI v.num)by rw[g];exact dc);(have gA:y c<=1:=by rw[g];simp);have ch:=U o;clear q o g);(case' true=>(go_wp2_with fail);apply dd.mono;rintro bn w2⟨rfl,em⟩;have cd:=U<|Y.aW (S:=aB) em;clear em;(go_wp2_with(at_builtin;refine bS _ rfl (.tmp 17) (.tmp 23) 192 rfl (z<|G a) 9 i0 (ai ⟨#[]⟩) 1 16 underlying192 eo fe ff fk rfl (by decide) aK 0 [] rfl (bK _ _ _ _) (R (z<|G w2) 0) 1 1 [ai<|iM fl] rfl rfl (tr _ _ _) (by simp[Value.oneCell']) (by omega) (by omega) (by have:=ce.size;have:=cd.size;simp;omega) ?_;intro v3 W5 cs fd;obtain⟨x5,c5,o⟩:=aC cs;subst o;have p:=U cs;have eg:=U fd;clear cs fd));have bh:=U<|show Y aB WB W5 from((cd.alloc _).ci<|Y.dN (S:=aB) eg.grown<|λm f=>by cases f);obtain⟨v5,o⟩:∃v5,v5=J x5 1 c5:=⟨_,rfl⟩;obtain⟨c,g⟩:∃c:cr ab,c=[iM fl]:=⟨_,rfl⟩;have q:=ae p;clear p;have p:=U (show W5.ownsRow (z<|G a) 9 1 v5 (y c) (strs c)by rw[o,g];exact q);have bo:=U (show pt n T e=c++(mZ T e).map (λv=>gI v.num)by rw[g];exact dc);(have gA:y c<=1:=by rw[g];simp);have ch:=U o;clear eg cd o g q)
 all_goals
  have hc:=bh.size;have hy:=ce.size;apply(bp (ct W5<|.map #[] 0)<|bh.alloc _).mono;rintro bn w6⟨v6,rfl,cu,bi⟩;obtain⟨x6,c6,hd⟩:=aC cu;subst hd;obtain⟨ed,gc,dT,eb⟩:=gx ((lD.new W5 .string).de<|bi.block _ (by simp) id) (ce.ci<|(bh.alloc<|.map #[] 0).trans bi cG) ((((Y.refl aB W5).alloc<|.map #[] 0).ci bi).own p<|λ_ _ F=>F) cu;clear cu bi;obtain⟨E,es⟩:∃E,z (G W5)=E:=⟨_,rfl⟩;rw[es]at ed;have hj:z (G a)<=E:=by omega
  have fx:=U (show E<z (G<|ct W5<|.map #[] 0)by rw[<-es];simp);clear hc;go_wp2_with fail
  go_loopw [28] (λQ wr=>∃bm:M,bm<=y e/\Q=ap bm/\lD wr E .string (λfs=>∃v∈e.take bm,fs=ai (gI v.num))/\Y (λm=>m=E) w6 wr) (λQ _=>y e-(intOf Q).toNat)
  case atStart=>exact⟨0,bA _,rfl,ed.congr (by simp),Y.refl _ _⟩
  case round=>
   obtain⟨bm,hG,rfl,i,P⟩:=hrel;have bl:Y aB a wr:=gc.trans P (λm f=>.inr<|by omega);by_cases K:bm<y e
   .have D:=P.own eb (λm f F=>by have:=(eb.lt m f).1;have:=ae fx;omega);obtain⟨b6,hf,co⟩:∃b6,x6=H (R b6 0)/\aT wr (R b6 bm)=H e[bm].ptr:=by
     rcases D.2 with⟨h2,h0⟩|⟨hn,gk,gn,h2,_⟩
     .omega
     .cases h2;refine⟨hn,rfl,?_⟩;have:=ph D bm e[bm].ptr (by rw[dz,aG K];rfl);rwa[dt,cQ]at this
    subst hf;have ao:=(cb e[bm]<|aq K).aw bl|>.name (HP.aw bl id);have bg:=U (show∀fs,(∃v∈e.take (bm+1),fs=ai (gI v.num))↔(∃v∈e.take bm,fs=ai (gI v.num))\/fs=ai (gI e[bm].num)fromλfs=>by
     rw[aj K];simp only[am,bH];constructor
     .rintro⟨v,j|rfl,bn⟩
      .exact .inl ⟨v,j,bn⟩
      .exact .inr bn
     .rintro(⟨v,j,bn⟩|bn)
      .exact⟨v,.inl j,bn⟩
      .exact⟨_,.inr rfl,bn⟩)
    have L:=i.lt;have V:=U i;have gg:=U P;have e1:(bm:Z)<(y e:Z):=by omega
    clear i P bl D;unfold bJ.ptr at co;generalize gI e[bm].num=u at*;generalize e[bm].tb=fn at*;go_wp2_with fail
    apply ao.mono;rintro bn w7⟨rfl,cn⟩;have fz:=U<|V.de<|cn.block E L;have ge:=U<|gg.ci<|Y.aW (S:=aB) cn;clear cn ao;go_wp2_with(at_mapUpdate;refine uj _ rfl _ _ _ 277 rfl 9 94 underlying277 .string underlying9 E _ rfl fz (ai u) trivial rfl rfl ?_;intro w8 ey en;have fL:=U ey;have fu:=U en;clear ey en)
    go_roundw;case rel=>exact⟨bm+1,K,by go_num,fL.congr bg,ge.trans (fg fu)<|λ_ F=>.inl F⟩
    case measure=>simp[intOf];omega
   .have au:bm=y e:=by omega
    rw[au,bP]at i;have e1:¬(bm:Z)<(y e:Z):=by omega
    have L:=i.lt;obtain⟨V,ee,bq⟩:=dC i bl<|P.own dT (λm f F=>by have:=(p.lt m f).2;omega);clear i P au;go_wp2_with fail
    apply(fv wr ee).mono;rintro bn w9⟨v9,rfl,cv,bc⟩;obtain⟨x9,c9,he⟩:=aC cv;subst he;obtain⟨gb,ec,ea,gf,bf,dk⟩:=kG (V.de<|bc.block E L id) cv (bc.own bq<|λ_ _ F=>F) (ee.ci bc) (show∀m,bV v5=H m->z (G a)<=m/\m<z (G wr)/\m≠E fromλm f=>⟨(p.lt m f).1,(bq.lt m f).2,by have:=(p.lt m f).2;omega⟩)<|show E<z (G wr)/\z (G wr)<=z (G w9)from⟨L,bc.size⟩;clear cv bc;go_wp2_with fail
    go_loopw [5,42] (λo Q b=>∃O:M,O<=y T/\Q=ap O/\b.ownsRow (z<|G a) 9 1 o (y<|c++(mZ (T.take O) e).map (λv=>gI v.num)) (strs<|c++(mZ (T.take O) e).map (λv=>gI v.num))/\eP w9 b v5 o) (λ_ Q _=>y T-(intOf Q).toNat)
    case atStart=>
     refine⟨0,bA _,rfl,?_,?_⟩
     .rw[<-ae ch];have:c++(mZ (T.take 0) e).map (λv=>gI v.num)=c:=by simp[mZ]
      rw[this];exact ea
     .rw[<-ae ch];exact eP.refl _ _
    case round=>
     obtain⟨O,hF,rfl,ho,bd⟩:=hrel;obtain⟨ox,oc,eu⟩:=aC ho;have t:Y (λm=>bV v5=H m) w9 wr:=Y.dN bd.grown<|λm f=>.inl f;have k:Y aB a wr:=gf.trans t<|λm f=>.inr (bf m f).1;have l:=gb.de<|t.block E (by have:=ae dk;omega)<|λF=>(bf E F).2.2 rfl;have cx:∀m,bV u5=H m->m≠E:=λm f F=>by
      rcases bd.uc with ej|⟨hn,ej,hE⟩
      .exact(bf m<|ej.symm.trans f).2.2 F
      .rw[ej]at f;cases f;have:=ae dk;omega
     by_cases r:O<y T
     .have D:=t.own ec (λm f F=>by have:=(ec.lt m f).1;have:=(bf m F).2.1;omega);obtain⟨b9,hg,co⟩:∃b9,x9=H (R b9 0)/\aT wr (R b9 O)=H T[O].ptr:=by
       rcases D.2 with⟨h2,h0⟩|⟨hn,gk,gn,h2,_⟩
       .omega
       .cases h2;refine⟨hn,rfl,?_⟩;have:=ph D O T[O].ptr (by rw[dz,aG r];rfl);rwa[dt,cQ]at this
      subst hg;have ax:=HP.aw k id;have C:=(dn T[O]<|aq r).aw k;have ao:=C.name ax;have bx:=λcj(j:Y aB wr cj)=>(C.aw j).name<|ax.aw j id;have bg:=U<|Oe (T':=e) r;have ad:=Vj (T':=e) T[O];have e1:(O:Z)<(y T:Z):=by omega
      have cp:=l.lt;have hv:y (c++(mZ (T.take O) e).map (λv=>gI v.num))<=20000000:=by
       have:y (mZ (T.take O) e)<=y (T.take O):=fh _ _;rw[dL]at this;rw[af,cU];omega
      obtain⟨cc,HO,ei,X,hq,dm⟩:=kG l ho bd k cx bx;clear l ho bd k cx D t bx C ax;unfold bJ.ptr at co;have db:=U (show∀cE,e.any (λb=>b.num==T[O].num)=cE->(c++(mZ (T.take<|O+1) e).map (λv=>gI v.num))=(c++(mZ (T.take O) e).map (λv=>gI v.num))++(if cE then []else [gI T[O].num])fromλcE hu=>by
       rw[ae bg,hu,aM,aU];cases cE<;>rfl)
      clear bg;obtain⟨hm,hr⟩:∃hm,e.any (λb=>b.num==T[O].num)=hm:=⟨_,rfl⟩;have ek:=db hm hr;rw[hr]at ad;have cT:=U ek;clear ek hr db;generalize gr:c++(mZ (T.take O) e).map (λv=>gI v.num)=Lm at*;clear gr;have cM:=U ad;clear ad;generalize et:gI T[O].num=u at*;clear et;generalize T[O].tb=fn at*;subst eu;go_wp2_with fail
      apply ao.mono;rintro bn fr⟨rfl,al⟩;have ba:Y aB wr fr:=Y.aW al;have bT:=cc.de<|al.block E cp;have hw:=Bb underlying277 underlying9 gs hh bT (ai u) trivial hm cM;have ds:=U<|ba.own HO<|λ_ _ F=>F;have W:=U ba;clear bT ba al ao;cases hm with
      |true=>
       go_wp2;go_roundw;case rel=>
        refine⟨O+1,r,by go_num,?_,?_⟩
        .rw[ae cT];simp only[je,dJ];exact aS ds _
        .have j:=(W.alloc<|ar #[] 94);refine ei.trans ⟨⟨j.os,j.tape,j.output,j.size,λQ hi _=>j.block Q hi id⟩,.inl rfl⟩
       case measure=>simp[intOf];omega
      |false=>
       go_wp2_with fail
       apply(dm (ct fr<|ar #[] 94)<|W.alloc _).mono;rintro bn cB⟨rfl,bs⟩;have bb:Y aB wr cB:=(W.alloc<|ar #[] 94).ci<|Y.aW (S:=aB) bs;have dv:=U<|bb.own HO<|λ_ _ F=>F;have br:=U bb;clear bb bs;go_wp2_with(at_builtin;refine bS _ rfl (.tmp 55) (.tmp 58) 192 rfl (z<|G a) 9 i0 (ai ⟨#[]⟩) 1 16 underlying192 eo fe ff fk rfl (by decide) (J ox (y Lm) oc) (y Lm) (strs Lm) rfl (aS dv<|ar #[ai u] 9) (R (z<|G cB) 0) 1 1 [ai u] rfl rfl (tr _ _ _) (by simp[Value.oneCell']) (by omega) (by omega) (by have:=X.size;have:=br.size;simp;omega) ?_;intro hB hC av ca;obtain⟨hD,hs,fb⟩:=aC av;subst fb;have dx:=U av;have ef:=U ca;clear av ca)
       go_roundw;case rel=>
        refine⟨O+1,r,by go_num,?_,?_⟩
        .rw[ae cT];simp only[im,kg];rw[Gm,af];exact dx
        .have j:=ae br;have h1:eP wr cB (J ox (y Lm) oc) (J ox (y Lm) oc):=⟨⟨j.os,j.tape,j.output,j.size,λQ hi _=>j.block Q hi id⟩,.inl rfl⟩;exact ei.trans<|h1.trans<|eP.alloc _ ef
       case measure=>simp[intOf];omega
     .have au:O=y T:=by omega
      rw[au,bP,<-ae bo]at ho;have e1:¬(O:Z)<(y T:Z):=by omega
      obtain⟨oy,od,ev⟩:=aC ho;have HO:=U ho;have X:=U k;clear ho bd k t l cx au eu;subst ev;go_wp2;go_ret;exact⟨_,rfl,HO,X⟩
section
open Go.Conc.Locks
def tw(w c:I)(a:M)(s:SR)(K:DK)(m:cA)(d e f g:cP)(C:M):Prop:=∃b,gw w c s.aN a K b/\b.files=K.files/\b.eM=K.eM/\(∀k,b.bj s.aN k->K.bj s.aN k)/\bL c a s 0/\ST c a s b m d e f g C
def Xf(i:gw a f n.aN b j j)(d:(ql n.aN j).D C)(o:Y (ql n.aN j).F f C):∃c,gw a C n.aN b j c/\c.files=j.files/\c.eM=j.eM/\(∀k,c.bj n.aN k->j.bj n.aN k):=by
 obtain⟨m,c,l,g,h,e⟩:=d;exact⟨c,i.trans ⟨l,o.mono<|λk d=>.inl<|.inl d,λk d=>.inl<|e k d⟩,g,h,e⟩
def Oc(a:ab)(c:Z)(b:cr (aa×cA)):aa:=if 1<=a.size/\a.size<=8 then Wg (wq c a b)else .tuple #[ai ⟨#[]⟩,aL bF,lE 3]
def Hh(d:ab)(g:Z)(r:bL a b n m)(f:ST a b n j e i p t u c)(A:d.size<=140737488351232):cy bG 59 #[aA b,ai d,aH g] a (λD l=>D=aO (Oc d g<|qB n e i p t u)/\(ql n.aN j).D l/\Y (ql n.aN j).F a l)/\∃x o q,Oc d g (qB n e i p t u)=dB #[x,o,q]:=by
 obtain⟨C,B,k⟩:=bM f.mem;unfold Oc;by_cases h:1<=d.size/\d.size<=8
 .rw[dw h];refine⟨UE (z<|G a) (n.l0,i) (n.l1,p) (n.l2,t) (n.l3,u) (qB n e i p t u) d g r C (y e) B k (f.Yo r) (Gv n e i p t u) (λF s=>f.Xu _<|aq s) f.KU (ah _) f.aN.lt h (λE v x w=>by have:=(f.Kv E v x w).val;omega),?_⟩;cases wq g d (qB n e i p t u)with
  |none=>exact⟨_,_,_,rfl⟩
  |some x=>exact⟨_,_,_,rfl⟩
 rw[cW h];refine⟨(UD a b d g h A).mono ?_,_,_,_,rfl⟩;rintro D l⟨rfl,rfl⟩;exact⟨rfl,f.KU,Y.refl _ _⟩
def rm{B s W2:I}(F:bL s b n 1)(w:ST B b n j e i p t u c)(g:b<z (G B))(k:gw B s n.aN b j j)(A:Below (z<|G s) s W2):bL W2 b n 1/\ST W2 b n j e i p t u c/\∀h,(ql n.aN j).D h->Y (ql n.aN j).F W2 h->aT h (R b 0)=H (jk 1)/\h.frozen? (R b 0)=bF/\tw B (bZ h (R b 0)<|jk 0) b n j e i p t u c:=by
 have a:=k.trans<|qO (sbqq:=b) k.ok A;have o:=w.fq g a rfl;have d:bL W2 b n 1:=F.aw (Y.aW (S:=aB) A) id;refine⟨d,o,λh v r=>?_⟩;have f:bL h b n 1:=(r.block b (ak d) o.rV).trans d;obtain⟨C,l,x,D,E⟩:=Xf a v r;have q:=l.sb w.rV g;have m:=l.set q 0<|jk 0;exact⟨f.cell rfl,f.free,C,m,x,D,E,f.gO 0,w.fq g m<|by rw[x]⟩
def rl{w c W2:I}(e:bL c b n 1)(f:Y (λk=>k=b) w c)(d:Below (z<|G c) c W2):aT W2 (R b 0)=H (jk 1)/\W2.frozen? (R b 0)=bF/\bL (bZ W2 (R b 0)<|jk 0) b n 0/\Y (λk=>k=b) w (bZ W2 (R b 0)<|jk 0):=by
 have a:bL W2 b n 1:=e.aw (Y.aW (S:=aB) d) id;exact⟨a.cell rfl,a.free,a.gO 0,(f.trans (Y.aW (S:=λk=>k=b) d)<|λ_ e=>.inl e).setCell b 0 _<|.inl rfl⟩
def xL:lE 6=.iface 55 (ap 6):=rfl
def Oo:lE 5=.iface 55 (ap 5):=rfl
def Og(k:ab)(h:bL a b n 0)(m:n.closed=bW):cy bG 29 #[aA b,ai k] a λo l=>o=aO (dB #[ai ⟨#[]⟩,aL bF,lE 6])/\bL l b n 0/\Y (λu=>u=b) a l:=by
 have q:=bL.cellAt h 0 rfl;have s:a.frozen? (R b 0)=bF:=h.free;have j:=h.gO 1;have c:=iZ j;rw[m]at c;simp only[je]at c;have p:=U<|λg i=>rl (W2:=g) j ((Y.refl (λu=>u=b) a).setCell b 0 _<|.inl rfl) i;clear h j m;rw[xL]at c|-;go_enter_defers func29,ntmps29
 go_wp2_with fail
 apply(lock_free (R b 0) _ q s).mono;rintro o l⟨rfl,rfl⟩;go_wp2_with fail
 apply c.mono;rintro o g⟨rfl,i⟩;obtain⟨r,t,d⟩:=p g i;have e:=U d;clear d i c;go_wp2;refine eY (f:=40) (args:=#[aA b]) (by simp) (by simp[go_sem]) ?_;apply(unlock_deferred (R b 0) .returning _ r t).mono;rintro o w v⟨rfl,rfl,rfl⟩;exact⟨_,my rfl _ _ _,rfl,e⟩
def Uu(d:ab)(h:bL a b n 0)(F:ST a b n j e i p t u c)(Q:n.closed=bF)(hz:d.size<=140737488351232):cy bG 29 #[aA b,ai d] a λL C=>L=aO (Oc d n.bC<|qB n e i p t u)/\tw a C b n j e i p t u c:=by
 have N:=ak h;have W:=bL.cellAt h 0 rfl;have f0:a.frozen? (R b 0)=bF:=h.free;have m:=kX F.aN F.rV 1;have D:=h.gO 1;generalize P:bZ a (R b 0) (jk 1)=v at m D;have q:=iZ D;rw[Q]at q;have k:cy bG 41 #[aA b] v λL C=>L=aO .nilIface/\Below (z<|G v) v C:=q;have V:=U<|λw(E:Below (z<|G v) v w)=>rm (W2:=w) D F N m E;have T:=U P;clear h F m D Q P q;go_enter_defers func29,ntmps29
 go_wp2_with fail
 apply(lock_free (R b 0) _ W f0).mono;rintro L C⟨rfl,O⟩;rw[ae T]at O;subst C;go_wp2_with fail
 apply k.mono;rintro L w⟨rfl,E⟩;obtain⟨l,A,g⟩:=V w E;obtain⟨o,rx,ry,rz,r⟩:=Hh d n.bC l A hz;have c9:=bL.cellAt l 9 rfl;rw[r]at o;have K:=U r;have s:=U g;clear l A g E k r;go_wp2_with fail
 apply o.mono;rintro L w2⟨rfl,x,B⟩;obtain⟨X,g0,hF⟩:=s w2 x B;have S:=U hF;clear x B hF o;go_wp2;refine eY (f:=40) (args:=#[aA b]) (by simp) (by simp[go_sem]) ?_;apply(unlock_deferred (R b 0) .returning _ X g0).mono;rintro L u' ac⟨rfl,rfl,rfl⟩;exact⟨_,my rfl _ _ _,by rw[ae K];rfl,S⟩
def Jf(w:Z)(k:ab)(h:bL a b n 0)(m:n.closed=bW):cy bG 35 #[aA b,ap w,ai k] a λo l=>o=aO (dB #[ai ⟨#[]⟩,aL bF,lE 6])/\bL l b n 0/\Y (λu=>u=b) a l:=by
 have q:=bL.cellAt h 0 rfl;have s:a.frozen? (R b 0)=bF:=h.free;have j:=h.gO 1;have d:=uq w j m;have p:=U<|λg i=>rl (W2:=g) j ((Y.refl (λu=>u=b) a).setCell b 0 _<|.inl rfl) i;clear h j m;rw[xL]at d|-;go_enter_defers func35,ntmps35
 go_wp2_with fail
 apply(lock_free (R b 0) _ q s).mono;rintro o l⟨rfl,rfl⟩;go_wp2_with fail
 apply d.mono;rintro o g⟨rfl,i⟩;obtain⟨r,t,c⟩:=p g i;have e:=U c;clear c i d;go_wp2;refine eY (f:=40) (args:=#[aA b]) (by simp) (by simp[go_sem]) ?_;apply(unlock_deferred (R b 0) .returning _ r t).mono;rintro o x v⟨rfl,rfl,rfl⟩;exact⟨_,my rfl _ _ _,rfl,e⟩
def Oh(K:fS)(ac:Z)(o:ab)(h:bL a b n 0)(F:ST a b n j e i p t u c)(B:Ga a j b n K)(hc:n.closed=bF)(hz:o.size<=140737488351232):cy bG 35 #[aA b,.int .i64 ac,.string o] a λL D=>L=.returned (match oV K ac with|some ad=>Oc o ad (qB n e i p t u)|none=>.tuple #[.string ⟨#[]⟩,.bool bF,lE 5])/\tw a D b n j e i p t u c:=by
 have S:=ak h;have c0:=bL.cellAt h 0 rfl;have f0:a.frozen? (R b 0)=bF:=h.free;have m:=kX F.aN F.rV 1;have E:=h.gO 1;generalize hW:bZ a (R b 0) (jk 1)=X at m E;obtain⟨mb,q1,q2,q3⟩:=(B.fq m).ex;have d:=rB ac K E hc q1 q2;have W:=U<|λq(r:Below (z<|G X) X q)=>rm (W2:=q) E F S m r;have V:=U hW;clear h F m E hc hW B q1 q2 q3;cases hg:oV K ac with
 |none=>
  rw[hg]at d;simp only at d|-;rw[Oo]at d|-;clear hg;go_enter_defers func35,ntmps35
  go_wp2_with fail
  apply(lock_free (R b 0) _ c0 f0).mono;rintro L D⟨rfl,w⟩;rw[ae V]at w;subst D;go_wp2_with fail
  apply d.mono;rintro L q⟨rfl,r⟩;obtain⟨l,k,g⟩:=W q r;obtain⟨P,Q,hF⟩:=g q k.KU<|Y.refl _ _;have N:=U hF;clear l k g r d hF;go_wp2;refine eY (f:=40) (args:=#[aA b]) (by simp) (by simp[go_sem]) ?_;apply(unlock_deferred (R b 0) .returning _ P Q).mono;rintro L u' T⟨rfl,rfl,rfl⟩;exact⟨_,my rfl _ _ _,rfl,N⟩
 |some ad=>
  rw[hg]at d;simp only at d|-;clear hg;go_enter_defers func35,ntmps35
  go_wp2_with fail
  apply(lock_free (R b 0) _ c0 f0).mono;rintro L D⟨rfl,w⟩;rw[ae V]at w;subst D;go_wp2_with fail
  apply d.mono;rintro L q⟨rfl,r⟩;obtain⟨l,k,g⟩:=W q r;obtain⟨s,rx,ry,rz,v⟩:=Hh o ad l k hz;rw[v]at s;have O:=U v;have x:=U g;clear l k g r d v;go_wp2_with fail
  apply s.mono;rintro L w2⟨rfl,A,C⟩;obtain⟨P,Q,hF⟩:=x w2 A C;have N:=U hF;clear A C hF s;go_wp2;refine eY (f:=40) (args:=#[aA b]) (by simp) (by simp[go_sem]) ?_;apply(unlock_deferred (R b 0) .returning _ P Q).mono;rintro L u' T⟨rfl,rfl,rfl⟩;exact⟨_,my rfl _ _ _,by rw[ae O];rfl,N⟩
end
def Sv(a:Z)(b:ab)(c:dW):cA:=mU ⟨#[]⟩<|(df<|c.map<|fR b).filter<|λe=>decide<|e.bI<=a
def Wv(c:Z)(i:ab)(b:dW):∀x∈Sv c i b,x∈b.flatten:=by
 intro x h;have d:=(zw _ _).subset h;have e:=(fH _).mem_iff.1 (cS.1 d).1;obtain⟨l,f,a⟩:=bz.1 e;obtain⟨r,g,rfl⟩:=aZ.1 f;exact bz.2 ⟨r,g,(cS.1 a).1⟩
def Ww(c:Z)(b:ab)(a:dW):y (Sv c b a)<=y a.flatten:=by
 have d:=(zw ((df<|a.map<|fR b).filter<|λe=>decide<|e.bI<=c) ⟨#[]⟩).length_le;have f:=fh (λe:E=>decide<|e.bI<=c)<|df<|a.map<|fR b;have g:=(fH<|a.map<|fR b).length_eq;have h:=Ux b a;unfold Sv;omega
def Uy(v:aa)(w:I):(Go.method 545 102 v "From").run bG w=.ok (316,v) w:=by kernel_rfl
def ml.list(v:kw a d e)(s:dQ e)(i:∀A∈e,A.bI<18446744073709551616)(q:y e<=1000000000000)(h:∀j,bV d=H j->j<b/\¬r.F j)(g:b<=z (G a))(hF:∀k,r.F k->k<b):ml r b (.iface 102 d) e a:=by
 refine⟨_,d,_,d,rfl,Uy d,enters_of func316 (by kernel_rfl) rfl,λt w c m=>?_⟩;apply(LQ r b t (v.same c h) s i q (λj f=>⟨(h j f).2,ag (ag (h j f).1 g) c.1⟩) (aE g c.1) hF).mono;rintro C x⟨u,S,rfl,o,f,n⟩;refine⟨u,S,rfl,o,r.fi m (Y.aW (S:=aB) f) cG,Y.aW f,λk p=>?_⟩;rcases n k p with⟨l,B⟩|l;have:=(h k l).1;omega;exact l
def ST.Xt(h:ST a b n j e i p t u c):∀r∈qB n e i p t u,ml (ql n.aN j) (z<|G a) r.1 r.2 a:=by
 have hF:∀k,(ql n.aN j).F k->k<z (G a):=h.aN.lt;have g:=h.count;intro r d;simp only[qB,az,am,iX,aZ,eG,kK]at d;rcases d with rfl|((⟨l,f,rfl⟩|rfl)|rfl)|rfl;exact ml.list h.mem h.mq (λx d=>(h.jc x d).b1) (show y e<=1000000000000 by have:=h.len;omega) (λk a=>⟨(h.sV k a).lt,(h.sV k a).bj⟩) (ah _) hF;exact ml.table (Ii (h.l0.each l f) h.lu) (ah _) hF;exact ml.xB (yq h.l1 h.lu h.s1<|by omega) (ah _) hF;exact ml.xB (yq h.l2 h.lu h.s2<|by omega) (ah _) hF;exact ml.xB (yq h.l3 h.lu h.s3<|by omega) (ah _) hF
