import Derived.Test.YtophdnlmpfmeiaaGreatDoorC36
namespace Go.Proofs.YtophdnlmpfmeiaaGreatDoor
open ChangeShapes WideShapes RowKit Proofs.Tryz
set_option maxHeartbeats 16000000
set_option linter.all false
set_option maxRecDepth 100000
theorem Nn{v x:Int}(t:kX v x=0):1<=v/\v<=32/\2<=x/\x<=6:=by
 unfold kX at t;split at t
 ·cases t
 ·rename_i y;omega
theorem DB{i t:Int}(u:kX i t≠0):¬(1<=i/\i<=32/\2<=t/\t<=6)/\kX i t=1:=by
 unfold kX at*;split at u
 ·rename_i v;exact⟨by omega,by rw[dr v]⟩
 ·exact absurd rfl u
section
variable{r W W':J}{e h k:Nat}{o:Option Nat}{s:Option Addr}{mem dw m n:Int}{j f:M}{p:List KV}{O:List (Nat×Obj)}{K:DK}{a b c d:List ar}{C tb N nx q:Nat}{bQ:Bool}{ls:List (List E)}{l:List KV}{g:Bool}
theorem CR(bv:OW r W e h k o s mem dw j f p O K a b c d C tb N nx q bQ ls l g)(ck cl:Int)(ho:kX (og ck 34) (og cl 8)=0)(hN:N+1<=100000000):Calls prog 10 #[.pointer (some ⟨e,0,none⟩),.int .i64 ck,.int .i64 cl] W λal w'=>al=.returned (.bool true)/\∃ch x m n,ja r w' e h ch x o m n j f p O C (N+1) l false l false:=by
 have F:=GY ck cl W;have P:=wZ (og ck 34) (og cl 8);have z:=IT W h (og ck 34) (og cl 8) K a b c d C tb N nx q bQ ls bv.laid (Nn ho) hN;rw[ho]at P;have y0:W.cell? ⟨e,0,none⟩=some (.pointer (some ⟨h,0,none⟩)):=by rw[aj bv.box];rfl
 have cc:=ak bv.box;obtain⟨cm,hM⟩:∃cm,og ck 34=cm:=⟨_,rfl⟩;obtain⟨T,hT⟩:∃T,og cl 8=T:=⟨_,rfl⟩;rw[hM,hT]at F P z;have bT:=bv.xR;have bx:=bv.AG;have y:=Z bv;clear bv ho hM hT;go_enter func10,ntmps10
 go_wp2_with fail
 refine F.mono ?_;rintro al w1⟨rfl,cv⟩;subst w1;go_wp2_with fail
 refine z.mono ?_;rintro al W1⟨rfl,hP⟩;have bi:=CV W1;have v:∀R,R<W.heap.size->¬K.aS h R->W1.heap[R]?=W.heap[R]?:=by
  obtain⟨cB,K',cx,a',b',c',d',cj,cd,hO⟩:=hP;exactλR t v=>hO.eA.ay.block R t (λbk=>bk.elim v (λal=>by omega))
 have cp:W.heap.size+3<=W1.heap.size:=by
  obtain⟨cB,K',cx,a',b',c',d',cj,cd,hO⟩:=hP;exact hO.size
 have U:=(v e cc bT).trans (Y y).box;have X:kO W1 k o l g:=by
  obtain⟨⟨cE,hh,hp,hv⟩,cb,bg⟩:=(Y y).ref;refine⟨⟨cE,(v k (ak hh) bx).trans hh,?_,hv⟩,cb,λbd V=>by have:=bg bd V;omega⟩;obtain⟨q1,⟨q2,q0⟩|⟨bd,ce,bt,q2,ca,hc⟩⟩:=hp
  ·exact⟨q1,.inl ⟨q2,q0⟩⟩
  ·have V:o=some bd:=by rw[<-hv,q2];rfl
   exact⟨q1,.inr ⟨bd,ce,bt,q2,ca,λx u t=>(bI (w:=W) (v bd (bg bd V) ((Y y).wY bd V).2.1)).trans (hc x u t)⟩⟩
 have HP:=Z hP;have ba:=Z U;have bn:=Z X;clear z F hP v U X;go_wp2_with fail
 refine bi.mono ?_;rintro al H⟨rfl,bf⟩;have Q:I (λ_=>False) W1 H:=I.aR bf;have A:=(Q.block e (ak (Y ba)) id).trans (Y ba);have bc:=Z Q;have cs:=Q.size;clear bf bi Q;go_wp2_with fail
 refine(P _).mono ?_;rintro al ad⟨rfl,hw⟩;subst ad;go_wp2_with fail
 refine(nr 0 _).mono ?_;rintro al ad⟨rfl,hw⟩;subst ad;have y1:H.cell? ⟨e,1,none⟩=some (.pointer s):=by rw[aj A];rfl
 have yf:∀i,H.frozen? ⟨e,i,none⟩=false:=λi=>by simp[World.frozen?,A]
 have D:=aL (i:=1) (u:=.pointer (some ⟨W.heap.size+1,0,none⟩)) A;have t3:I (λR=>R=e) H (H.setCell ⟨e,1,none⟩ (.pointer (some ⟨W.heap.size+1,0,none⟩))):=(I.refl (λR=>R=e) H).setCell _ _ _ (.inl rfl);have ac:=((Y bn).ay (Y bc) id (λ_ _=>id)).ay t3 (λal=>(Y y).ne al.symm) (λbd V al=>((Y y).wY bd V).2.2.1 al);have bh:=Dp k o l g _ ac;have y2:(H.setCell ⟨e,1,none⟩ (.pointer (some ⟨W.heap.size+1,0,none⟩))).cell? ⟨e,2,none⟩=some (.pointer (some ⟨k,0,none⟩)):=by rw[aj D];rfl
 have bb:=Z D;have br:=Z t3;have cn:∀w:J,(binOp .eql 35 (.pointer (some ⟨W.heap.size+1,0,none⟩)) (.pointer none)).run prog w=.ok (.bool false) w:=λ_=>rfl;clear P A D t3 ac;go_wp2_with fail
 refine bh.mono ?_;rintro al L⟨rfl,G,o5,ax⟩;have t5:I (λ_=>False) (H.setCell ⟨e,1,none⟩ (.pointer (some ⟨W.heap.size+1,0,none⟩))) L:=by rw[ax];exact(I.refl _ _).alloc _
 have t:=(t5.block e (ak (Y bb)) id).trans (Y bb);have y3:L.cell? ⟨e,2,none⟩=some (.pointer (some ⟨k,0,none⟩)):=by rw[aj t];rfl
 have y4:L.cell? ⟨e,3,none⟩=some (.int .i64 mem):=by rw[aj t];rfl
 have y5:L.cell? ⟨e,4,none⟩=some (.int .i64 dw):=by rw[aj t];rfl
 have yg:∀i,L.frozen? ⟨e,i,none⟩=false:=λi=>by simp[World.frozen?,t]
 obtain⟨x,B⟩:∃x,(H.setCell ⟨e,1,none⟩ (.pointer (some ⟨W.heap.size+1,0,none⟩))).heap.size=x:=⟨_,rfl⟩;have ao:L.heap.size=x+1:=by rw[ax,<-B];simp
 have an:x=H.heap.size:=by rw[<-B,gp]
 rw[B]at G|-;have bl:=Z t;have bs:=Z t5;have bo:=Z G;have bq:=Z ao;have bp:=Z an;clear bh ax t t5 G B y1 y2 yf ao an;go_wp2;go_ret;refine⟨rfl,W.heap.size+1,x,cm,T,?_⟩;have ao:=Y bq;have an:=Y bp;have tA:I (λR=>R=e) L (((L.setCell ⟨e,2,none⟩ (.pointer (some ⟨x,0,none⟩))).setCell ⟨e,3,none⟩ (.int .i64 cm)).setCell ⟨e,4,none⟩ (.int .i64 T)):=(((I.refl (λR=>R=e) L).setCell _ _ _ (.inl rfl)).setCell _ _ _ (.inl rfl)).setCell _ _ _ (.inl rfl);have tB:I (λR=>R=e) W1 (((L.setCell ⟨e,2,none⟩ (.pointer (some ⟨x,0,none⟩))).setCell ⟨e,3,none⟩ (.int .i64 cm)).setCell ⟨e,4,none⟩ (.int .i64 T)):=((((Y bc).mono (T:=λR=>R=e) (λ_ bk=>bk.elim)).trans (Y br) (λ_ bk=>.inl bk)).trans (Y bs) (λ_ bk=>bk.elim)).trans tA (λ_ bk=>.inl bk);refine(Y y).opened (Y HP) tB ((aL (aL (aL (Y bl)))).trans rfl) ((Y bo).ay tA (λal=>by omega) (λbd V al=>((Y y).wY bd V).2.2.1 al)) (by omega) (by have:=tA.size;omega)
theorem Hz(T:OW r W e h k o s mem dw j f p O K a b c d C tb N nx q bQ ls l g)(G H:Int)(F:kX (og G 34) (og H 8)≠0):Calls prog 10 #[.pointer (some ⟨e,0,none⟩),.int .i64 G,.int .i64 H] W λL X=>L=.returned (.bool true)/\OW r X e h k o s mem dw j f p O K a b c d C tb N nx q bQ ls l g:=by
 have t:=GY G H W;have v:=wZ (og G 34) (og H 8);have i:=Li (.pointer (some ⟨h,0,none⟩)) (og G 34) (og H 8) W ⟨_,rfl⟩ (DB F).1;rw[(DB F).2]at v;have y0:W.cell? ⟨e,0,none⟩=some (.pointer (some ⟨h,0,none⟩)):=by rw[aj T.box];rfl
 obtain⟨ac,P⟩:∃ac,og G 34=ac:=⟨_,rfl⟩;obtain⟨ad,Q⟩:∃ad,og H 8=ad:=⟨_,rfl⟩;rw[P,Q]at t v i;have x:=Z T;clear T F P Q;go_enter func10,ntmps10
 go_wp2_with fail
 refine t.mono ?_;rintro L w1⟨rfl,V⟩;subst w1;go_wp2_with fail
 refine i.mono ?_;rintro L S⟨rfl,z⟩;have D:=(Y x).still z;have A:=kF 1 S D.xN;have w:=Z D;clear i t D z x;go_wp2_with fail
 refine A.mono ?_;rintro L W2⟨rfl,y⟩;have B:=Z ((Y w).still (I.aR y));clear y A w;go_wp2_with fail
 refine(v _).mono ?_;rintro L u⟨rfl,U⟩;subst u;have R:∀w:J,(binOp .eql 35 (.pointer none) (.pointer none)).run prog w=.ok (.bool true) w:=λ_=>rfl;go_wp2_with fail
 refine(nr 1 _).mono ?_;rintro L u⟨rfl,U⟩;subst u;go_wp2;go_ret;exact⟨rfl,Y B⟩
end
theorem Em(f:aa×List Int)(r:Fs):eW (f::r)=f.2.length+eW r:=by simp[eW]
theorem AR{f:aa×List Int}:∀{p:Fs},f∈p->f.2.length<=eW p
 |[],q=>by simp at q
 |g::r,q=>by
  rw[Em];rcases aD.1 q with rfl|q
  ·omega
  ·have:=AR q;omega
theorem wm{t:aa}{b:List Int}:∀{q:Fs},cR q t=some b->(t,b)∈q
 |[],p=>by simp[cR]at p
 |g::u,p=>by
  unfold cR at p;by_cases r:g.1=t
  ·rw[dr r]at p;cases p;subst r;exact cK ..
  ·rw[dd r]at p;exact aJ _ (wm p)
theorem JD{p g:Fs}(t:(p.map (·.1)).Nodup)(r:g.Perm p)(u:aa):cR g u=cR p u:=by
 have q:(g.map (·.1)).Nodup:=(r.map _).nodup_iff.2 t;rcases h1:cR p u with _|b
 ·rcases h2:cR g u with _|b
  ·rfl
  ·have:=rO t (r.mem_iff.1 (wm h2));simp only at this;rw[h1]at this;cases this
 ·exact rO q (f:=(u,b)) (r.mem_iff.2 (wm h1))
def wD(o W:J)(h:Nat)(O:List (Nat×Obj))(C N:Nat):Prop:=∃m sb j k mem dw i e n l closed,ja o W h m sb j k mem dw i e n O C N l closed l closed
theorem sk.bytes{w:J}{m:Nat}{K:DK}{a b c d:List ar}{C tb N z y:Nat}{bQ:Bool}{ls:List (List E)}(r:sk w m K a b c d C tb N z y bQ ls):∀f∈K.files,f.bytes.length<=1099511627776:=λf t=>by
 have A:=pN (f:=(tb:Int)+1) (λl q=>⟨r.lp.gU l q,(r.lp.one l q).2⟩);have B:=yu (λl q=>(r.lp.one l q).1);have D:=r.lp.sum;have G:=r.nE.total r.aH.nodup (by omega) r.count;have x:(f.name,f.bytes)∈vw K.files:=aZ.2 ⟨f,t,rfl⟩;have:=AR x;simp only at this;omega
section
variable{o W W':J}{h m sb j:Nat}{k:Option Nat}{mem dw:Int}{i e:M}{n:List KV}{O:List (Nat×Obj)}{s:SR}{K:DK}{a b c d:List ar}{C tb N:Nat}{ls:List (List E)}{l:List KV}{closed:Bool}
theorem LW.copied(p:LW o W h m sb j k mem dw i e n O s K a b c d C tb N ls l true l true){t:Nat}{w:DK}(hd:bR W' t w)(z:(vw w.files).Perm (vw K.files))(hm:w.cY=[])(V:∀f,w.aS t f->W.heap.size<=f)(v:I (λ_=>False) W W'):∃U T S bQ,W.heap[sb]?=some U/\OW o (W'.setCell ⟨h,0,none⟩ (.pointer (some ⟨t,0,none⟩))) h t j k (some ⟨sb,0,none⟩) mem dw i e n ((sb,U)::O) w a b c d C tb N T S bQ ls l true:=by
 obtain⟨ac,T,S,bQ,D⟩:=p.sh;have A:=p.xR.lt;have Q:=p.AG.lt;have G:=ak p.so;have hz:=v.size;have ad:=p.ay.size;have L:=(v.block h A id).trans p.box;have B:I (λf=>f=h) W' (W'.setCell ⟨h,0,none⟩ (.pointer (some ⟨t,0,none⟩))):=(I.refl (λf=>f=h) W').setCell _ _ _ (.inl rfl);have g:∀f,f<W.heap.size->¬w.aS t f:=λf q F=>by have:=V f F;omega
 have H:=p.ju p.low.2.2.2;have R:=D.steps.lt;have P:=D.pow.lt;have u:∀{p:M}{L:List KV},iz W p L->(∀f,p.ownBlock=some f->Aside W K m sb f/\f≠h/\f≠j)->iz (W'.setCell ⟨h,0,none⟩ (.pointer (some ⟨t,0,none⟩))) p L:=λz g=>B.row (v.row z (λf q=>⟨id,(g f q).1.lt⟩)) (λf q=>⟨(g f q).2.1,by have:=(g f q).1.lt;omega⟩);have r:∀f,Aside W K m sb f/\f≠h/\f≠j->f<(W'.setCell ⟨h,0,none⟩ (.pointer (some ⟨t,0,none⟩))).heap.size/\¬w.aS t f/\f≠h/\f≠j:=λf F=>⟨by rw[gp];have:=F.1.lt;omega,g f F.1.lt,F.2⟩;have y:∀f U,f≠h->W.heap[f]?=some U->(W'.setCell ⟨h,0,none⟩ (.pointer (some ⟨t,0,none⟩))).heap[f]?=some U:=λf U q g=>(B.block f (by have:=ak g;omega) q).trans ((v.block f (ak g) id).trans g);refine⟨_,T,S,bQ,p.so,(aL L).trans rfl,(p.ref.ay v id (λ_ _=>id)).ay B (λx=>p.ne x.symm) (λan H x=>(p.wY an H).2.1 x),?_,p.pD,p.len,u p.vZ p.nM,u p.qD p.jN,p.Nw,(p.ay.trans v (λ_ F=>F.elim)).trans B (λf x=>.inr (by have:=p.low.2.2.2;have:f=h:=x;omega)),⟨λf F=>by have:=V f F;omega,p.low.2.2⟩,g h A,g j Q,λf q=>r f (p.wY f q),λf q=>r f (p.nM f q),λf q=>r f (p.jN f q),λal z=>?_,λF hq=>?_,p.ne,p.g0⟩
 ·exact D.again (hd.ay B (λf F x=>g h A (x▸F))) (λp=>JD D.aH.nodup z p) (by rw[hm];exact aU _) (Steps.ay (Steps.ay D.steps v id) B H.1) ((D.pow.ay v id).ay B H.2) (g _ R) (g _ P)
 ·rcases aD.1 z with rfl|z
  ·exact⟨y sb _ (λx=>p.xR.ne x.symm) p.so,g sb G,λx=>p.xR.ne x.symm,λx=>p.AG.ne x.symm⟩
  ·obtain⟨q1,q2,X⟩:=p.obj al z;exact⟨y al.1 _ X.1 q1,g al.1 q2.lt,X⟩
 ·cases hq;exact⟨g sb G,_,_,_,y sb _ (λx=>p.xR.ne x.symm) p.so,by decide⟩
theorem OW.back{y:Nat}{x:DK}{F:Obj}{B A:Nat}{bQ:Bool}(r:LW o W h m sb j k mem dw i e n O s K a b c d C tb N ls l true l true)(H:W.heap[sb]?=some F)(g:OW o W' h y j k (some ⟨sb,0,none⟩) mem dw i e n ((sb,F)::O) x a b c d C tb N B A bQ ls l true):LW o W' h y sb j k mem dw i e n O s x a b c d C tb N ls l true l true:=by
 have t:=g.obj (sb,F) (cK ..);have S:some F=_:=H.symm.trans r.so;have v:bX W' sb s 0:=t.1.trans S;have L:=ak g.box;obtain⟨⟨T,G,_⟩,_⟩:=g.ref;refine⟨g.box,g.ref,v,⟨r.sh.1,B,A,bQ,g.laid⟩,g.pD,g.len,r.jU,g.vZ,g.qD,g.Nw,g.ay,⟨g.low.1,r.low.2.1,g.low.2⟩,t.2.1,⟨L,g.xR,r.xR.ne⟩,⟨ak G,g.AG,r.AG.ne⟩,λq p=>⟨⟨(g.wY q p).1,(g.wY q p).2.1,(r.wY q p).1.ne⟩,(g.wY q p).2.2⟩,λq p=>⟨⟨(g.nM q p).1,(g.nM q p).2.1,(r.nM q p).1.ne⟩,(g.nM q p).2.2⟩,λq p=>⟨⟨(g.jN q p).1,(g.jN q p).2.1,(r.jN q p).1.ne⟩,(g.jN q p).2.2⟩,λR z=>?_,r.ne,r.g0⟩;obtain⟨D,P,Q⟩:=g.obj R (aJ _ z);exact⟨D,⟨ak D,P,(r.obj R z).2.1.ne⟩,Q⟩
theorem Fk(L:ja o W h m sb j k mem dw i e n O C N l closed l closed)(T U:Int)(V X:aa)(ad:Option Addr)(ac c:Nat):Calls prog 7 #[.pointer (some ⟨h,0,none⟩),vM 5 T U V X (.slice ad ac c)] W λF S=>F=.returned (.bool true)/\wD o S h O C N:=by
 have G:=L.still ((I.refl (λ_=>False) W).alloc (eV 5 T U V X (.slice ad ac c)));have g:=DN G;have y1:W.cell? ⟨h,1,none⟩=some (.pointer (some ⟨sb,0,none⟩)):=L.gG.2.1;have R:=ak L.box;obtain⟨y,q⟩:∃y:Int,(if closed then 6 else 0)=y:=⟨_,rfl⟩;have f:=λW'(q:kO W' j k l closed)=>uS j k l closed W' q;rw[q]at g;simp only[q]at f;have p:=Z f;unfold eV at g;unfold vM;clear L G q f;go_enter func7,ntmps7
 go_wp2_with fail
 refine g.mono ?_;rintro F D⟨rfl,z⟩;have y2:D.cell? ⟨h,2,none⟩=some (.pointer (some ⟨j,0,none⟩)):=z.gG.2.2.1;have H:=(Y p) D z.ref;have r:=Z z;clear g z p;go_wp2_with fail
 refine H.mono ?_;rintro F P⟨rfl,w,v⟩;have B:=(Y r).Do v w (.inl rfl);have x:=kF y P B.xN;have t:=Z B;clear H w v B r;go_wp2_with fail
 refine x.mono ?_;rintro F W4⟨rfl,u⟩;have A:=Z ((Y t).still (I.aR u));clear u x t;go_wp2_with fail
 refine(nr y _).mono ?_;rintro F Q⟨rfl,hw⟩;subst Q;go_wp2;go_ret;exact⟨rfl,m,sb,j,k,mem,dw,i,e,n,l,true,Y A⟩
theorem Ic(bk:ja o W h m sb j k mem dw i e n O C N l closed l closed)(an ao:Int)(bh bi:aa)(bn:Option Addr)(bl c:Nat)(hN:N+1<=100000000):Calls prog 7 #[.pointer (some ⟨h,0,none⟩),vM 6 an ao bh bi (.slice bn bl c)] W λax w'=>ax=.returned (.bool true)/\(wD o w' h O C N\/wD o w' h O C (N+1)):=by
 obtain⟨L,bc⟩:∃L,W.heap.size=L:=⟨_,rfl⟩;have h1:ja o (W.alloc (eV 6 an ao bh bi (.slice bn bl c))) h m sb j k mem dw i e n ((L,eV 6 an ao bh bi (.slice bn bl c))::O) C N l closed l closed:=bk.add ((I.refl _ W).alloc _) (by omega) (az _ bc.symm);have v:=DN h1;have y1:W.cell? ⟨h,1,none⟩=some (.pointer (some ⟨sb,0,none⟩)):=bk.gG.2.1;have bo:=ak bk.box;have bg:h<L:=by omega
 obtain⟨gn,D⟩:∃gn:Int,(if closed then 6 else 0)=gn:=⟨_,rfl⟩;have q:=λW'(f:kO W' j k l closed)=>uS j k l closed W' f;rw[D]at v;simp only[D]at q;have x:=Z q;unfold eV at v;unfold vM;clear bk h1 D q;go_enter func7,ntmps7
 go_wp2_with fail
 refine v.mono ?_;rintro ax W2⟨rfl,h2⟩;have y2:W2.cell? ⟨h,2,none⟩=some (.pointer (some ⟨j,0,none⟩)):=h2.gG.2.2.1;have hr:=(Y x) W2 h2.ref;have P:=Z h2;clear v h2 x;go_wp2_with fail
 refine hr.mono ?_;rintro ax W3⟨rfl,V,U⟩;have h3:=(Y P).Do U V (.inl rfl);have X:=kF gn W3 h3.xN;have Q:=Z h3;clear hr V U h3 P;go_wp2_with fail
 refine X.mono ?_;rintro ax W4⟨rfl,T⟩;have h4:=(Y Q).still (I.aR T);have y3:W4.cell? ⟨h,0,none⟩=some (.pointer (some ⟨m,0,none⟩)):=h4.gG.1;obtain⟨s,K,a,b,c',d,tb,ls,y⟩:=h4;obtain⟨_,bq,bp,ac,u⟩:=y.sh;have z:=Mw m K W4 u.aH u.bytes u.aH.nodup;have t:=Z y;clear T X Q y u;go_wp2_with fail
 refine(nr gn _).mono ?_;rintro ax W5⟨rfl,hw⟩;subst W5;go_wp2_with fail
 refine z.mono ?_;rintro ax W6⟨R,K6,rfl,A,G,F,B,w⟩;obtain⟨bs,nx,lg,bQ,H,p⟩:=(Y t).copied A G F B w;have g:=(w.block h (ak (Y t).box) id).trans (Y t).box;have y6:W6.cell? ⟨h,0,none⟩=some (.pointer (some ⟨m,0,none⟩)):=by rw[aj g];rfl
 have yf:W6.frozen? ⟨h,0,none⟩=false:=by simp[World.frozen?,g]
 have f:=(p.obj (L,eV 6 an ao bh bi (.slice bn bl c)) (aJ _ (cK ..))).1;unfold eV at f;simp only at f;have z1:(W6.setCell ⟨h,0,none⟩ (.pointer (some ⟨R,0,none⟩))).cell? ⟨L,1,none⟩=some (.int .i64 an):=by rw[aj f];rfl
 have z2:(W6.setCell ⟨h,0,none⟩ (.pointer (some ⟨R,0,none⟩))).cell? ⟨L,2,none⟩=some (.int .i64 ao):=by rw[aj f];rfl
 have bb:=Z H;by_cases ho:kX (og an 34) (og ao 8)=0
 ·have r:=CR p an ao ho hN;clear z A G F B w p g f H ho;go_wp2_with fail
  refine r.mono ?_;rintro ax W8⟨rfl,bf,bd,ad,al,S⟩;have ba:=Z S;clear S r;go_wp2;go_ret;exact⟨rfl,.inr ⟨R,bf,bd,k,ad,al,i,e,n,l,false,(Y ba).drop (λbr hp=>aJ _ (aJ _ hp))⟩⟩
 ·have r:=Hz p an ao ho;clear z A G F B w p g f H ho;go_wp2_with fail
  refine r.mono ?_;rintro ax W8⟨rfl,S⟩;have h9:ja o W8 h R sb j k mem dw i e n _ C N l true l true:=⟨s,K6,a,b,c',d,tb,ls,OW.back (Y t) (Y bb) S⟩;have ad:=Z (h9.drop (O':=O) (λbr hp=>aJ _ hp));clear S r h9;go_wp2;go_ret;exact⟨rfl,.inl ⟨R,sb,j,k,mem,dw,i,e,n,l,true,Y ad⟩⟩
end
def OG:PR 0 (bZ [] [] [] []):=by
 have e:bZ [] [] [] []=[[],[],[]]:=rfl;rw[e];have a:PR 0 ([]:List (List E)):=⟨dK,by simp,by simp,by simp⟩;exact a.za.za.za
def LF{w:J}{a b:Nat}(e:bR w a (nB b))(g:Steps w)(f:Pow w)(c:¬(nB b).aS a 1)(d:¬(nB b).aS a 3):sk w a (nB b) [] [] [] [] 0 0 0 2 1 false []where
 aH:=e
 nE:=by
  refine⟨λn i h=>?_,.inr ⟨rfl,rfl,rfl,rfl,rfl,rfl,rfl,rfl⟩,λh=>(by cases h),λ_=>rfl,by simp,by simp,by simp,by omega,by simp⟩;simp[nB,vw,cR]at h
 pr:=OG
 lp:=⟨by simp,by simp,by simp,by simp,by omega,by simp⟩
 mG:=by simp[cq,bN]
 jU:=by omega
 s1:=⟨by simp,dK⟩
 s2:=⟨by simp,dK⟩
 s3:=⟨by simp,dK⟩
 MR:=λh=>by cases h
 nx:=by omega
 bn:=by simp
 cY:=by simp[nB]
 zX:=by omega
 steps:=g
 pow:=f
 dQ:=c
 jB:=d
def AI{x k:Int}(a:0<=x)(b:x<k)(c:k<=100):og x k=x:=by
 unfold og;have e:IntKind.u64.wrap x=x:=by rw[eZ];omega
 rw[e,Int.tmod_eq_of_lt a b];unfold wrap64;omega
def Bk(a:J)(W X:Int)(Q:Steps a)(P:Pow a)(O:kK a):Calls prog 6 #[.int .i64 W,.int .i64 X] a λN w'=>∃m,N=.returned (.tuple #[.pointer (some ⟨m,0,none⟩),.bool true])/\wD a w' m [] 0 1:=by
 have y:=xg a;have D:=Z Q;have C:=Z P;have V:=Z O;have rM:=AH W 32 (by omega) (by omega);have rT:=AH X 5 (by omega) (by omega);clear Q P O;go_enter func6,ntmps6
 go_wp2_with fail
 refine y.mono ?_;rintro N d⟨rfl,t,p⟩;have h:=Z t;have n:=Z p;clear t p y;obtain⟨g,b⟩:∃g,(d.alloc (.cells #[.slice none 0 0,.slice none 0 0,.bool false] 46)).alloc (.cells #[.pointer (some ⟨a.heap.size+2,0,none⟩),.pointer none,.pointer (some ⟨d.heap.size,0,none⟩),.int .i64 0,.int .i64 0,.slice none 0 0,.slice none 0 0] 40)=g:=⟨_,rfl⟩;have l:I (λ_=>False) d g:=by rw[<-b];exact((I.refl (λ_=>False) d).alloc _).alloc _
 have f:I (λ_=>False) a g:=(I.aR (S:=λ_=>False) (Y n)).trans l (λ_ q=>q.elim);have H:=(Y n).size;have x:=ak (Y h).fN;have K:g.heap.size=d.heap.size+2:=by rw[<-b];simp
 have s:g.heap[d.heap.size+1]?=some (.cells #[.pointer (some ⟨a.heap.size+2,0,none⟩),.pointer none,.pointer (some ⟨d.heap.size,0,none⟩),.int .i64 0,.int .i64 0,.slice none 0 0,.slice none 0 0] 40 (0,0)):=by rw[<-b];exact az _ (by simp)
 have r:g.heap[d.heap.size]?=some (.cells #[.slice none 0 0,.slice none 0 0,.bool false] 46 (0,0)):=by rw[<-b];exact(dL _ (by simp)).trans (az _ rfl)
 have c:∀z,(nB a.heap.size).aS (a.heap.size+2) z->a.heap.size<=z/\z<d.heap.size:=λz q=>by
  refine⟨?_,(Y h).lt z q⟩;rcases q with A|A|A|A|⟨al,hx,A⟩|⟨ad,hg,A⟩
  ·omega
  ·have:z=a.heap.size:=A;omega
  ·have:z=a.heap.size+1:=A;omega
  ·cases A
  ·cases hx
  ·cases hg
 have u:=(Y h).ay l (λ_ _=>id);have e:=LF u (Steps.ay (Y D) f id) ((Y C).ay f id) (λq=>by have:=(c _ q).1;have:=(Y D).lt;omega) (λq=>by have:=(c _ q).1;have:=(Y C).lt;omega);have o:OW a g (d.heap.size+1) (a.heap.size+2) d.heap.size none none 0 0 (.slice none 0 0) (.slice none 0 0) [] [] (nB a.heap.size) [] [] [] [] 0 0 0 2 1 false [] [] false:=by
  refine⟨s,⟨⟨_,r,⟨rfl,.inl ⟨rfl,rfl⟩⟩,rfl⟩,by simp,by simp⟩,e,My (by simp[bZ,cq,bN]),by simp,⟨rfl,.inl ⟨rfl,rfl⟩⟩,⟨rfl,.inl ⟨rfl,rfl⟩⟩,by simp,f,⟨λz q=>(c z q).1,by omega,by omega⟩,λq=>by have:=(c _ q).2;omega,λq=>by have:=(c _ q).2;omega,by simp,λz q=>(by cases q),λz q=>(by cases q),by simp,λq N=>(by cases N),by omega,Y D,Y C,Y V⟩
 have R:kX (og (1+wrap64 ((IntKind.u64.wrap W).tmod 32)) 34) (og (2+wrap64 ((IntKind.u64.wrap X).tmod 5)) 8)=0:=by
  rw[AI (by omega) (by omega) (by omega),AI (by omega) (by omega) (by omega)];unfold kX;rw[dd (by omega)]
 have k:=CR o _ _ R (by omega);have E:=Z b;obtain⟨m,j⟩:∃m,d.heap.size+1=m:=⟨_,rfl⟩;rw[j]at k;have F:=Z j;clear b l f H x K s r c u e o R j;go_wp2_with fail
 rw[Y E,Y F];refine k.mono ?_;rintro N W4⟨rfl,L,ac,T,U,G⟩;have y1:W4.cell? ⟨m,1,none⟩=some (.pointer (some ⟨L,0,none⟩)):=G.gG.2.1;have B:=Z G;clear k G;go_wp2_with fail
 go_quiet(fail)
 rename_i nq;go_wp2;go_ret2
 exact⟨_,rfl,_,_,_,_,_,_,_,_,_,_,_,(Y B).still (ft _ _ _)⟩
end Go.Proofs.YtophdnlmpfmeiaaGreatDoor
