import Derived.Laws.StructEq
import Derived.Test.YtnfehfmncheoiaaGreatDoorC21
open _root_ renaming List.length→y,Option.some→H,Array.size→z,Go.World.heap→G,Go.Value.ownBlock→bV,Go.World.cell?→aS,Go.World.setCell→bZ,Go.World.alloc→ct,Bool.false→bE,Bool.true→bU,Nat→M,Int→X,List→cr,Go.Calls→cw,Go.Proofs.Tryz.prog→bF,Go.Value.slice→I,Go.Value.string→J,Go.Value.bool→aL,Go.Value.pointer→fh,Go.Value.tuple→dA,Go.Value.agg→eD
namespace Go.Proofs.YtnfehfmncheoiaaGreatDoor
open ChangeShapes WideShapes RowKit Proofs.Tryz
set_option maxHeartbeats 16000000
set_option linter.all false
set_option maxRecDepth 100000
variable{a:Y}{b c:M}{m F:X}
theorem VZ{v w:X}(u:oz v w=0):1<=v/\v<=32/\2<=w/\w<=6:=by
 unfold oz at u;split at u;cases u;rename_i q;omega
theorem KQ{u v:X}(w:oz u v≠0):¬(1<=u/\u<=32/\2<=v/\v<=6)/\oz u v=1:=by
 unfold oz at*;split at w;rename_i q;exact⟨by omega,by rw[dw q]⟩;exact absurd rfl w
section
variable{r W W':Y}{e db o:M}{m:PB}{p:Option Addr}{mem g k n:X}{i h:aa}{lo:iB}{O:cr (M×Obj)}{K:DK}{a b c d:cP}{C tbqq N nx s:M}{f:Bool}{lsqq:dW}{t:cr oP}{l:LC}{j:Bool}
theorem JR(bu:OW r W e db o m p mem g i h lo O K a b c d C tbqq N nx s f lsqq t l j)(ch cj:X)(ho:oz (rZ ch 34) (rZ cj 8)=0)(hN:N+1<=100000000):cw bF 11 #[.pointer<|H ⟨e,0,none⟩,.int .i64 ch,.int .i64 cj] W λau w'=>au=.returned (.bool bU)/\∃cd w k n,ji r w' e db cd w (m.1,.slice none 0 0) k n i h lo O C (N+1) (l.1,[]) bE (l.1,[]) bE:=by
 have L:=Pn ch cj W;have T:=Ch (rZ ch 34)<|rZ cj 8;have A:=Rg (rZ ch 34) (rZ cj 8) bu.laid (VZ ho) hN;rw[ho]at T;have y0:aS W ⟨e,0,none⟩=H (.pointer<|H ⟨db,0,none⟩):=by rw[bR bu.box];rfl
 have cb:=aj bu.box;obtain⟨E,hM⟩:∃E,rZ ch 34=E:=⟨_,rfl⟩;obtain⟨ck,hT⟩:∃ck,rZ cj 8=ck:=⟨_,rfl⟩;rw[hM,hT]at L T A;have bx:=bu.CV;have bv:=bu.Gz;have x:=U bu;clear bu ho hM hT;go_in
 go_wp2_with fail
 apply L.mono;rintro au w1⟨rfl,cp⟩;subst w1;go_wp2_with fail
 apply A.mono;rintro au W1⟨rfl,hP⟩;have bl:=JX W1;have v:∀ac,ac<z (G W)->¬K.aZ db ac->W1.heap[ac]?=W.heap[ac]?:=by obtain⟨cx,K',cv,a',b',c',d',ce,cc,hO⟩:=hP;exactλac u v=>hO.ft.ar.block ac u<|λq=>q.elim v<|λau=>by omega
 have cn:z (G W)+4<=z (G W1):=by obtain⟨cx,K',cv,a',b',c',d',ce,cc,hO⟩:=hP;exact hO.size
 have ad:=(v e cb bx).trans x.box;have al:mj W1 o m.1 l.1 j m.2:=by obtain⟨⟨cB,hh,hp,hv⟩,ca,bi⟩:=x.ref.ref;refine⟨⟨cB,(v o (aj hh) bv).trans hh,?_,hv⟩,ca,λbg hg=>by have:=bi bg hg;omega⟩;obtain⟨q1,⟨q2,q0⟩|⟨bg,bb,bt,q2,bT,hc⟩⟩:=hp;exact⟨q1,.inl ⟨q2,q0⟩⟩;(have hg:m.1=H bg:=by rw[<-hv,q2];rfl);exact⟨q1,.inr ⟨bg,bb,bt,q2,bT,λw cu u=>(cH (w:=W)<|v bg (bi bg hg) (x.yE bg<|.inl hg).2.1).trans<|hc w cu u⟩⟩
 obtain⟨HP,bc,bn⟩:=dB hP ad al;clear A L hP v ad al;go_wp2_with fail
 apply bl.mono;rintro au Q⟨rfl,bh⟩;have V:Z (λ_=>False) W1 Q:=Z.aT bh;have B:=(V.block e (aj bc) id).trans bc;have bf:=U V;have co:=V.size;clear bh bl V;go_wp2_with fail
 apply(T _).mono;rintro au ao⟨rfl,hw⟩;subst ao;go_wp2_with fail
 apply(ni 0 _).mono;rintro au ao⟨rfl,hw⟩;subst ao;have y1:aS Q ⟨e,1,none⟩=H (.pointer p):=by rw[bR B];rfl
 have yf:∀cl,Q.frozen? ⟨e,cl,none⟩=bE:=λcl=>by simp[World.frozen?,B]
 have F:=aQ (i:=1) (u:=.pointer<|H ⟨z (G W)+2,0,none⟩) B;have t3:Z (λac=>ac=e) Q (bZ Q ⟨e,1,none⟩<|.pointer<|H ⟨z (G W)+2,0,none⟩):=(Z.refl (λac=>ac=e) Q).setCell _ _ _<|.inl rfl;have an:=(bn.ar bf id<|λ_ _=>id).ar t3 (λau=>x.ne au.symm)<|λbg hg au=>(x.yE bg<|.inl hg).2.2.1 au;have bk:=KD m.1 an;have y2:aS (bZ Q ⟨e,1,none⟩<|.pointer<|H ⟨z (G W)+2,0,none⟩) ⟨e,2,none⟩=H (.pointer<|H ⟨o,0,none⟩):=by rw[bR F];rfl
 have bd:=U F;have br:=U t3;have cm:∀cs:Y,(binOp .eql 35 (.pointer<|H ⟨z (G W)+2,0,none⟩)<|.pointer none).run bF cs=.ok (.bool bE) cs:=λ_=>rfl;clear T B F t3 an;go_wp2_with fail
 apply bk.mono;rintro au S⟨rfl,P,o5,ba⟩;have t5:Z (λ_=>False) (bZ Q ⟨e,1,none⟩<|.pointer<|H ⟨z (G W)+2,0,none⟩) S:=by rw[ba];exact(Z.refl _ _).alloc _
 have u:=(t5.block e (aj bd) id).trans bd;have y3:aS S ⟨e,2,none⟩=H (.pointer<|H ⟨o,0,none⟩):=by rw[bR u];rfl
 have y4:aS S ⟨e,3,none⟩=H (.int .i64 mem):=by rw[bR u];rfl
 have y5:aS S ⟨e,4,none⟩=H (.int .i64 g):=by rw[bR u];rfl
 have yg:∀cl,S.frozen? ⟨e,cl,none⟩=bE:=λcl=>by simp[World.frozen?,u]
 obtain⟨w,D⟩:∃w,z (G<|bZ Q ⟨e,1,none⟩<|.pointer<|H ⟨z (G W)+2,0,none⟩)=w:=⟨_,rfl⟩;have ax:z (G S)=w+1:=by rw[ba,<-D];simp
 have av:w=z (G Q):=by rw[<-D,gz]
 rw[D]at P|-;obtain⟨bm,bs,bo,bq,bp⟩:=jR u t5 P ax av;clear bk ba u t5 P D y1 y2 yf ax av;go_wp2;go_ret;refine⟨rfl,z (G W)+2,w,E,ck,?_⟩;have ax:=ae bq;have av:=ae bp;have tA:Z (λac=>ac=e) S (bZ (bZ (bZ S ⟨e,2,none⟩<|.pointer<|H ⟨w,0,none⟩) ⟨e,3,none⟩<|.int .i64 E) ⟨e,4,none⟩<|.int .i64 ck):=(((Z.refl (λac=>ac=e) S).setCell _ _ _<|.inl rfl).setCell _ _ _<|.inl rfl).setCell _ _ _<|.inl rfl;have tB:Z (λac=>ac=e) W1 (bZ (bZ (bZ S ⟨e,2,none⟩<|.pointer<|H ⟨w,0,none⟩) ⟨e,3,none⟩<|.int .i64 E) ⟨e,4,none⟩<|.int .i64 ck):=(((bf.mono (T:=λac=>ac=e) cG).trans br<|λ_ q=>.inl q).ci bs).trans tA<|λ_ q=>.inl q;refine x.opened HP tB ((aQ<|aQ<|aQ bm).trans rfl) (bo.ar tA (λau=>by omega)<|λbg hg au=>(x.yE bg<|.inl hg).2.2.1 au) (by omega) (by have:=tA.size;omega)
theorem PW(al:OW r W e db o m p mem g i h lo O K a b c d C tbqq N nx s f lsqq t l j)(T V:X)(S:oz (rZ T 34) (rZ V 8)≠0):cw bF 11 #[.pointer<|H ⟨e,0,none⟩,.int .i64 T,.int .i64 V] W λac w'=>ac=.returned (.bool bU)/\OW r w' e db o m p mem g i h lo O K a b c d C tbqq N nx s f lsqq t l j/\z (G W)<=z (G w'):=by
 have u:=Pn T V W;have x:=Ch (rZ T 34)<|rZ V 8;have q:=TQ (.pointer<|H ⟨db,0,none⟩) (rZ T 34) (rZ V 8) W ⟨_,rfl⟩ (KQ S).1;rw[(KQ S).2]at x;have y0:aS W ⟨e,0,none⟩=H (.pointer<|H ⟨db,0,none⟩):=by rw[bR al.box];rfl
 obtain⟨E,hM⟩:∃E,rZ T 34=E:=⟨_,rfl⟩;obtain⟨ao,hT⟩:∃ao,rZ V 8=ao:=⟨_,rfl⟩;rw[hM,hT]at u x q;have D:=U al;clear al S hM hT;go_in
 go_wp2_with fail
 apply u.mono;rintro ac w1⟨rfl,an⟩;subst w1;go_wp2_with fail
 apply q.mono;rintro ac W1⟨rfl,A⟩;have Q:=D.still A;have F:=kW 1 Q.yH;have B:=U Q;have L:=A.size;clear q u Q A D;go_wp2_with fail
 apply F.mono;rintro ac W2⟨rfl,w⟩;have P:=U<|And.intro (B.still<|Z.aT w) (aD L w.size);clear w F B L;go_wp2_with fail
 apply(x _).mono;rintro ac v⟨rfl,hw⟩;subst v;have ad:∀w:Y,(binOp .eql 35 (.pointer none)<|.pointer none).run bF w=.ok (.bool bU) w:=λ_=>rfl;go_wp2_with fail
 apply(ni 1 _).mono;rintro ac v⟨rfl,hw⟩;subst v;go_wp2;go_ret;exact⟨rfl,P⟩
end
theorem LP(f:ab×eK)(g:Fs):ik (f::g)=y f.2+ik g:=by simp[ik]
theorem GS{u:ab×eK}:∀{f:Fs},u∈f->y u.2<=ik f
 |[],q=>by simp at q
 |g::v,q=>by
  rw[LP];rcases aA.1 q with rfl|q
  .omega
  .have:=GS q;omega
theorem BB{v:ab}{b:eK}:∀{q:Fs},dX q v=H b->(v,b)∈q
 |[],f=>by simp[dX]at f
 |g::w,f=>by
  unfold dX at f;by_cases u:g.1=v
  .rw[dw u]at f;cases f;subst u;exact dy ..
  .rw[cY u]at f;exact aG _<|BB f
theorem Sh{q g:Fs}(w:(q.map (·.1)).Nodup)(v:g.Perm q)(x:ab):dX g x=dX q x:=by
 have u:(g.map (·.1)).Nodup:=(v.map _).nodup_iff.2 w;rcases h1:dX q x with _|b;rcases h2:dX g x with _|b;rfl;have:=vW w<|v.mem_iff.1<|BB h2;simp only at this;rw[h1]at this;cases this;exact vW u (f:=(x,b))<|v.mem_iff.2<|BB h1
def AO(p W:Y)(j:M)(O:cr (M×Obj))(C N:M):Prop:=∃db sbqq o n mem h k i lo l e,ji p W j db sbqq o n mem h k i lo O C N l e l e
theorem wN.bytes{P:Y}{db:M}{K:DK}{a b c d:cP}{C tbqq N A x:M}{g:Bool}{lsqq:dW}(u:wN P db K a b c d C tbqq N A x g lsqq):∀f∈K.files,y f.bytes<=1099511627776:=λf v=>by
 have B:=tT (f:=(tbqq:X)+1)<|λl q=>⟨u.lp.jd l q,(u.lp.one l q).2⟩;have D:=Dx<|λl q=>(u.lp.one l q).1;have E:=u.lp.sum;have L:=u.qX.total u.aN.nodup (by omega) u.count;have w:(f.name,f.bytes)∈vw K.files:=aY.2 ⟨f,v,rfl⟩;have:=GS w;simp only at this;omega
section
variable{p W W':Y}{j db sbqq o:M}{n:PB}{mem h:X}{k i:aa}{lo:iB}{O:cr (M×Obj)}{s:SR}{K:DK}{a b c d:cP}{C tbqq N:M}{lsqq:dW}{m:cA}{t:Zs}{r:cr oP}{l:LC}{e:Bool}
theorem LW.copied(v:LW p W j db sbqq o n mem h k i lo O s K m a b c d C tbqq N lsqq t r l bU l bU){A:M}{F:DK}(hd:cJ W' A F)(P:(vw F.files).Perm (vw K.files))(hm:F.eO=[])(hf:∀g,F.aZ A g->z (G W)<=g)(E:Z az W W'):∃au nx lg f,W.heap[sbqq]?=H au/\OW p (bZ W' (R j 0)<|aw A) j A o n (H<|R sbqq 0) mem h k i lo ((sbqq,au)::O) F a b c d C tbqq N nx lg f lsqq r l bU:=by
 obtain⟨av,nx,lg,f,V⟩:=v.vt;have Q:=v.CV.lt;have an:=v.Gz.lt;have ac:=aj v.tP;have hz:=E.size;have ax:=v.ar.size;have ad:=(E.block j Q id).trans v.box;have T:Z (λg=>g=j) W' (bZ W' (R j 0)<|aw A):=(Z.refl (λg=>g=j) W').setCell _ _ _<|.inl rfl;have u:∀g,g<z (G W)->¬F.aZ A g:=λg w q=>by have:=hf g q;omega
 have hg:=v.lu (S:=λg=>g=j) (λg B=>by have e':g=j:=B;rw[e'];exact v.low.2.2.2);have ao:=V.steps.lt;have al:=V.pow.lt;have D:∀{v:aa}{L:iB},jk W v L->(∀g,bV v=H g->Ft W K db sbqq s g/\g≠j/\g≠o/\bV n.2≠H g)->jk (bZ W' (R j 0)<|aw A) v L:=λP f=>T.row (E.row P<|λg w=>⟨id,(f g w).1.lt⟩)<|λg w=>⟨(f g w).2.1,by have:=(f g w).1.lt;omega⟩;have x:∀g{Q:Prop},Ft W K db sbqq s g/\Q->g<z (G<|bZ W' (R j 0)<|aw A)/\¬F.aZ A g/\Q:=λg _ q=>⟨by rw[gz];have:=q.1.lt;omega,u g q.1.lt,q.2⟩;have L:∀g au,g≠j->W.heap[g]?=H au->(bZ W' (R j 0)<|aw A).heap[g]?=H au:=λg au w f=>(T.block g (by have:=aj f;omega) w).trans<|(E.block g (aj f) id).trans f;refine⟨_,nx,lg,f,v.tP,(aQ ad).trans rfl,(v.ref.ar E id<|λ_ _=>id).ar T (λB=>v.ne B.symm)<|λbb hg B=>(v.yE bb hg).2.1 B,?_,v.yI,v.len,D v.Bl v.nZ,D v.uN v.kL,v.Wk,(v.ar.ci E).trans T<|λg B=>.inr (by have:=v.low.2.2.2;have:g=j:=B;omega),⟨λg q=>by have:=hf g q;omega,v.low.2.2⟩,u j Q,u o an,λg w=>x g<|v.yE g w,λg w=>x g<|v.nZ g w,λg w=>x g<|v.kL g w,λba P=>?_,λq hq=>?_,v.ne,v.g0⟩;exact V.again (hd.ar T<|λg q B=>u j Q<|B▸q) (λf=>Sh V.aN.nodup P f) (by rw[hm];exact bw _) (Steps.ar (Steps.ar V.steps E id) T hg.1) ((V.pow.ar E id).ar T hg.2) (u _ ao)<|u _ al;rcases aA.1 P with rfl|P;exact⟨L sbqq _ (λB=>v.CV.ne B.symm) v.tP,u sbqq ac,λB=>v.CV.ne B.symm,λB=>v.Gz.ne B.symm,λq=>(v.yE sbqq q).1.ne rfl⟩;obtain⟨q1,q2,q3⟩:=v.obj ba P;exact⟨L ba.1 _ q3.1 q1,u ba.1 q2.lt,q3⟩;cases hq;exact⟨u sbqq ac,_,_,_,L sbqq _ (λB=>v.CV.ne B.symm) v.tP,by decide⟩
theorem OW.back{F:M}{E:DK}{S:Obj}{P L:M}{g:Bool}(D:z (G W)<=z (G W'))(v:LW p W j db sbqq o n mem h k i lo O s K m a b c d C tbqq N lsqq t r l bU l bU)(V:W.heap[sbqq]?=H S)(f:OW p W' j F o n (H<|R sbqq 0) mem h k i lo ((sbqq,S)::O) E a b c d C tbqq N P L g lsqq r l bU):LW p W' j F sbqq o n mem h k i lo O s E m a b c d C tbqq N lsqq t r l bU l bU:=by
 have x:=f.obj (sbqq,S)<|dy ..;have ad:H S=_:=V.symm.trans v.tP;have A:bK W' sbqq s 0:=x.1.trans ad;have hw:=aj f.box;obtain⟨⟨al,T,_⟩,_⟩:=f.ref.ref;refine⟨f.box,f.ref,A,⟨v.vt.1,P,L,g,f.laid⟩,f.yI,v.pV,v.num,f.len,v.mN,f.Bl,f.uN,f.Wk,f.ar,⟨f.low.1,v.low.2.1,f.low.2⟩,λw q=>⟨(v.zw w q).1,ag (v.zw w q).2 D⟩,x.2.1,⟨⟨hw,f.CV,v.CV.ne⟩,v.CV.pV⟩,⟨⟨aj T,f.Gz,v.Gz.ne⟩,v.Gz.pV⟩,λw u=>⟨⟨⟨(f.yE w u).1,(f.yE w u).2.1,(v.yE w u).1.ne⟩,(v.yE w u).1.pV⟩,(f.yE w u).2.2⟩,λw u=>⟨⟨⟨(f.nZ w u).1,(f.nZ w u).2.1,(v.nZ w u).1.ne⟩,(v.nZ w u).1.pV⟩,(f.nZ w u).2.2⟩,λw u=>⟨⟨⟨(f.kL w u).1,(f.kL w u).2.1,(v.kL w u).1.ne⟩,(v.kL w u).1.pV⟩,(f.kL w u).2.2⟩,λac B=>?_,v.ne,v.g0⟩;obtain⟨Q,q2,q3⟩:=f.obj ac<|aG _ B;exact⟨Q,⟨⟨aj Q,q2,(v.obj ac B).2.1.ne⟩,(v.obj ac B).2.1.pV⟩,q3⟩
theorem MS(ac:ji p W j db sbqq o n mem h k i lo O C N l e l e)(al an:X)(ao au:ab)(ax:Option Addr)(av c:M):cw bF 8 #[aw j,wO 5 al an ao au<|I ax av c] W λT w'=>T=aO (aL bU)/\AO p w' j O C N:=by
 have V:=ac.still<|(Z.refl az W).alloc<|fW 5 al an ao au<|I ax av c;have g:=Li V;have y1:aS W (R j 1)=H (aw sbqq):=ac.gT.2.1;have ad:=aj ac.box;obtain⟨F,v⟩:∃F:X,(if e then 6 else 0)=F:=⟨_,rfl⟩;have f:=λW'(q:mj W' o n.1 l.1 e n.2)=>zZ n.1 q;rw[v]at g;simp only[v]at f;have u:=U f;unfold fW at g;unfold wO;clear ac V v f;go_in
 go_wp2_with fail
 apply g.mono;rintro T S⟨rfl,L⟩;have y2:aS S (R j 2)=H (aw o):=L.gT.2.2.1;have hr:=u S L.ref;have w:=U L;clear g L u;go_wp2_with fail
 apply hr.mono;rintro T W3⟨rfl,D,B⟩;have Q:=w.KB B D<|.inl rfl;have E:=kW F Q.yH;have x:=U Q;clear hr D B Q w;go_wp2_with fail
 apply E.mono;rintro T W4⟨rfl,A⟩;have P:=U<|x.still<|Z.aT A;clear A E x;go_wp2_with fail
 apply(ni F _).mono;rintro T W5⟨rfl,hw⟩;subst W5;go_wp2;go_ret;exact⟨rfl,db,sbqq,o,n,mem,h,k,i,lo,l,bU,P⟩
theorem Qi(br:ji p W j db sbqq o n mem h k i lo O C N l e l e)(bf bg:X)(bp bq:ab)(bt:Option Addr)(bs c:M)(hN:N+1<=100000000):cw bF 8 #[aw j,wO 6 bf bg bp bq<|I bt bs c] W λbd w'=>bd=aO (aL bU)/\(AO p w' j O C N\/AO p w' j O C (N+1)):=by
 obtain⟨ob,bl⟩:∃ob,z (G W)=ob:=⟨_,rfl⟩;have h1:ji p (ct W<|fW 6 bf bg bp bq<|I bt bs c) j db sbqq o n mem h k i lo ((ob,fW 6 bf bg bp bq<|I bt bs c)::O) C N l e l e:=br.add ((Z.refl _ W).alloc _) (by omega)<|aC _ bl.symm;have D:=Li h1;have y1:aS W (R j 1)=H (aw sbqq):=br.gT.2.1;have bu:=aj br.box;have bo:j<ob:=by omega
 obtain⟨gn,S⟩:∃gn:X,(if e then 6 else 0)=gn:=⟨_,rfl⟩;have v:=λW'(q:mj W' o n.1 l.1 e n.2)=>zZ n.1 q;rw[S]at D;simp only[S]at v;have E:=U v;unfold fW at D;unfold wO;clear br h1 S v;go_in
 go_wp2_with fail
 apply D.mono;rintro bd W2⟨rfl,h2⟩;have y2:aS W2 (R j 2)=H (aw o):=h2.gT.2.2.1;have hr:=E W2 h2.ref;have al:=U h2;clear D h2 E;go_wp2_with fail
 apply hr.mono;rintro bd W3⟨rfl,av,au⟩;have h3:=al.KB au av<|.inl rfl;have ax:=kW gn h3.yH;have an:=U h3;clear hr av au h3 al;go_wp2_with fail
 apply ax.mono;rintro bd W4⟨rfl,ao⟩;have h4:=an.still<|Z.aT ao;have y3:aS W4 (R j 0)=H (aw db):=h4.gT.1;obtain⟨s,K,m,a,b,c',d,tbqq,lsqq,t,r,F⟩:=h4;obtain⟨_,bx,bv,bb,B⟩:=F.vt;have L:=Vc B.aN B.bytes B.aN.nodup;have A:=U F;clear ao ax an F B;go_wp2_with fail
 apply(ni gn _).mono;rintro bd W5⟨rfl,hw⟩;subst W5;go_wp2_with fail
 apply L.mono;rintro bd W6⟨cb,K6,rfl,P,V,T,Q,w⟩;obtain⟨ca,nx,lg,ad,ac,u⟩:=A.copied P V T Q w;have g:=(w.block j (aj A.box) id).trans A.box;have y6:=cellAt g 0 rfl;have yf:W6.frozen? (R j 0)=bE:=by simp[World.frozen?,g]
 have f:=(u.obj (ob,fW 6 bf bg bp bq<|I bt bs c)<|aG _<|dy ..).1;unfold fW at f;simp only at f;have z1:=cellAt f 1 rfl;have z2:=cellAt f 2 rfl;have bi:=U ac;have bk:=U (show z (G W4)<=z (G<|bZ W6 (R j 0)<|aw cb)by rw[gz];exact w.size);by_cases ho:oz (rZ bf 34) (rZ bg 8)=0;(.have x:=JR u bf bg ho hN;clear L P V T Q w u g f ac ho;(go_wp2_with fail);apply x.mono;rintro bd W8⟨rfl,bn,bm,ba,bc,h8⟩;have bh:=U h8;clear h8 x;go_wp2;go_ret;exact⟨rfl,.inr ⟨cb,bn,bm,_,ba,bc,k,i,lo,_,bE,bh.drop<|λbT hp=>aG _<|aG _ hp⟩⟩);have x:=PW u bf bg ho;clear L P V T Q w u g f ac ho;(go_wp2_with fail);apply x.mono;rintro bd W8⟨rfl,h8,ba⟩;have h9:ji p W8 j cb sbqq o n mem h k i lo _ C N l bU l bU:=⟨s,K6,m,a,b,c',d,tbqq,lsqq,t,r,OW.back (aD bk ba) A bi h8⟩;have bc:=U<|h9.drop (O':=O)<|λbT hp=>aG _ hp;clear h8 x h9 ba;go_wp2;go_ret;exact⟨rfl,.inl ⟨cb,sbqq,o,n,mem,h,k,i,lo,l,bU,bc⟩⟩
end
def Xr:PR 0 (cF [] [] [] []):=by
 have e:cF [] [] [] []=[[],[],[]]:=rfl;rw[e];have a:PR 0 ([]:dW):=⟨List.Pairwise.nil,by simp,by simp,by simp⟩;exact a.El.El.El
def Up(f:cJ a b (rr c))(i:Steps a)(g:Pow a)(d:¬(rr c).aZ b 1)(e:¬(rr c).aZ b 2):wN a b (rr c) [] [] [] [] 0 0 0 2 1 bE []where
 aN:=f
 qX:=by
  refine⟨λn j h=>?_,.inr ⟨rfl,rfl,rfl,rfl,rfl,rfl,rfl,rfl⟩,λh=>(by cases h),λ_=>rfl,by simp,by simp,by simp,by omega,by simp⟩;simp[rr,vw,dX]at h
 pr:=Xr
 lp:=⟨by simp,by simp,by simp,by simp,by omega,by simp⟩
 qI:=by simp[gK,cf]
 mN:=by omega
 s1:=⟨by simp,List.Pairwise.nil,List.Pairwise.nil⟩
 s2:=⟨by simp,List.Pairwise.nil,List.Pairwise.nil⟩
 s3:=⟨by simp,List.Pairwise.nil,List.Pairwise.nil⟩
 Ui:=λh=>by cases h
 nx:=by omega
 bn:=by simp
 eO:=by simp[rr]
 JU:=by omega
 steps:=i
 pow:=g
 fC:=d
 me:=e
def GB(a:0<=m)(b:m<F)(c:F<=100):rZ m F=m:=by
 unfold rZ;have e:IntKind.u64.wrap m=m:=by rw[gX];omega
 rw[e,Int.tmod_eq_of_lt a b];unfold wrap64;omega
def Hs(j al:X)(hS:Steps a)(W:Pow a)(V:pD a):cw bF 7 #[am j,am al] a λT w'=>∃o,T=aO (dA #[aw o,aL bU])/\AO a w' o [] 0 1:=by
 have A:=Cj a;obtain⟨E,D,HE⟩:=dB hS W V;have rM:=GA j 32 (by omega) (by omega);have rT:=GA al 5 (by omega) (by omega);clear hS W V;go_in
 go_wp2_with fail
 apply A.mono;rintro T d⟨rfl,v,s⟩;have i:=U v;have p:=U s;clear v s A;obtain⟨g,b⟩:∃g,ct (ct d<|aq #[aK,aK,aL bE] 46) (aq #[aw<|z (G a)+2,fh none,aw<|z<|G d,am 0,am 0,aK,aK] 40)=g:=⟨_,rfl⟩;have m:Z az d g:=by rw[<-b];exact((Z.refl az d).alloc _).alloc _
 have f:Z az a g:=(Z.aT (S:=az) p).ci m;have O:=p.size;have x:=aj i.iH;have P:z (G g)=z (G d)+2:=by rw[<-b];simp
 have u:g.heap[z (G d)+1]?=H (aq #[aw<|z (G a)+2,fh none,aw<|z<|G d,am 0,am 0,aK,aK] 40 (0,0)):=by rw[<-b];exact aC _<|by simp
 have t:g.heap[z<|G d]?=H (aq #[aK,aK,aL bE] 46 (0,0)):=by rw[<-b];exact(fX _<|by simp).trans<|aC _ rfl
 have c:∀n,(rr<|z<|G a).aZ (z (G a)+2) n->z (G a)<=n/\n<z (G d):=λn q=>by refine⟨?_,i.lt n q⟩;rcases q with B|B|B|B|⟨ao,N,B⟩|⟨au,hg,B⟩;omega;have:n=z (G a):=B;omega;have:n=z (G a)+1:=B;omega;cases B;cases N;cases hg
 have w:=i.ar m<|λ_ _=>id;have e:=Up w (Steps.ar E f id) (D.ar f id) (λq=>by have:=(c _ q).1;have:=E.lt;omega) (λq=>by have:=(c _ q).1;have:=D.lt;omega);have r:OW a g (z (G d)+1) (z (G a)+2) (z<|G d) (none,aK) none 0 0 aK aK [] [] (rr<|z<|G a) [] [] [] [] 0 0 0 2 1 bE [] [] ([],[]) bE:=by refine⟨u,⟨⟨⟨_,t,⟨rfl,.inl ⟨rfl,rfl⟩⟩,rfl⟩,by simp,by simp⟩,⟨⟨rfl,.inl ⟨rfl,rfl⟩⟩,by simp,by simp,by simp⟩,bJ _ _ _ _,λn _ _ _ a=>(by cases a),rfl,by simp,λn a=>(by cases a)⟩,e,Ve (by simp[cF,gK,cf,jZ,mX]),by simp,⟨rfl,.inl ⟨rfl,rfl⟩⟩,⟨rfl,.inl ⟨rfl,rfl⟩⟩,by simp,f,⟨λn q=>(c n q).1,by omega,by omega⟩,λq=>by have:=(c _ q).2;omega,λq=>by have:=(c _ q).2;omega,λn q=>(by rcases q with q|q|⟨ao,N,_⟩;cases q;cases q;cases N),λn q=>(by cases q),λn q=>(by cases q),by simp,λq T=>(by cases T),by omega,E,D,HE⟩
 have ho:oz (rZ (1+wrap64 ((IntKind.u64.wrap j).tmod 32)) 34) (rZ (2+wrap64 ((IntKind.u64.wrap al).tmod 5)) 8)=0:=by rw[GB (by omega) (by omega) (by omega),GB (by omega) (by omega)<|by omega];unfold oz;rw[cY<|by omega]
 have l:=JR r _ _ ho (by omega);have F:=U b;obtain⟨o,k⟩:∃o,z (G d)+1=o:=⟨_,rfl⟩;rw[k]at l;have K:=U k;clear b m f O x P u t c w e r ho k;go_wp2_with fail
 rw[ae F,ae K];apply l.mono;rintro T W4⟨rfl,Q,an,ac,ad,L⟩;have y1:aS W4 (R o 1)=H (aw Q):=L.gT.2.1;have C:=U L;clear l L;go_wp2_with fail
 go_quiet(fail)
 rename_i nq;go_wp2;go_ret2
 exact⟨_,rfl,_,_,_,_,_,_,_,_,_,_,_,C.still<|gP _ _ _⟩
section
variable{g W:Y}{e db sbqq f:M}{h:PB}{mem b:X}{d c:aa}{lo:iB}{O:cr (M×Obj)}{C N:M}{l:LC}{a:Bool}
theorem Qh(w:ji g W e db sbqq f h mem b d c lo O C N l a l a)(Q S:X)(T V:ab)(al:Option Addr)(ad ac:M)(A:N+1<=100000000):cw bF 8 #[aw e,wO 7 Q S T V<|I al ad ac] W λv P=>v=aO (aL bU)/\AO g P e O C (N+1):=by
 have x:=w.still<|(Z.refl az W).alloc<|fW 7 Q S T V<|I al ad ac;have i:=Lh x A;have y1:aS W (R e 1)=H (aw sbqq):=w.gT.2.1;have L:=aj w.box;have B:=w.lens;obtain⟨D,o,E,j⟩:∃D o E,sM a l=(D,o,E):=⟨_,_,_,rfl⟩;rw[j]at i;simp only at i;have u:=U j;unfold fW at i;unfold wO;clear w x j;go_in
 go_wp2_with fail
 apply i.mono;rintro v F⟨rfl,r⟩;have y2:aS F (R e 2)=H (aw f):=r.gT.2.2.1;have p:=r.VU (by omega) (by omega) A;rw[ae u]at p;simp only at p;clear i r u;go_wp2_with fail
 apply p.mono;rintro v W3⟨rfl,t,s⟩;have n:=kW o s.yH;have k:=U s;clear p s;go_wp2_with fail
 apply n.mono;rintro v W4⟨rfl,m⟩;have q:=U<|k.still<|Z.aT m;clear m n k;go_wp2_with fail
 apply(ni o _).mono;rintro v K⟨rfl,hw⟩;subst K;go_wp2;go_ret;exact⟨rfl,db,sbqq,f,t,mem,b,d,c,lo,_,a,q⟩
theorem Io(ao:ji g W e db sbqq f h mem b d c lo O C N l a l a)(Q ac:X)(ad al:ab)(ba:Option Addr)(ax an:M):cw bF 8 #[aw e,wO 10 Q ac ad al<|I ba ax an] W λV w'=>V=aO (aL bU)/\AO g w' e O C N:=by
 obtain⟨L,F⟩:∃L,z (G W)=L:=⟨_,rfl⟩;have h1:ji g (ct W<|fW 10 Q ac ad al<|I ba ax an) e db sbqq f h mem b d c lo ((L,fW 10 Q ac ad al<|I ba ax an)::O) C N l a l a:=ao.add ((Z.refl _ W).alloc _) (by omega)<|aC _ F.symm;have q:=h1.still<|bX az _;have j:=NQ q Q;have w:=And.intro q.gT.2.1 q.dN.2.1;have au:=aj ao.box;obtain⟨P,ns,p⟩:∃P ns,Ns a l.2 Q=(P,ns):=⟨_,_,rfl⟩;rw[p]at j;simp only at j;have x:=U p;unfold wO;unfold fW at j w;clear ao h1 q p;go_in
 go_wp2_with fail
 try rw[F]
 rename_i QQ T n;refine cg (λk=>aS k (R e 1)=H (aw sbqq)/\aS k (R L 1)=H (am Q)) 7 (by kernel_rfl) ?_;refine cQ 0 ?_;iterate 6 (refine eE (v:=?_) w rfl (by kernel_rfl) iO rfl ?_ ?_;rotate_left;(focus(rintro k⟨z0,z1⟩;go_simp;try rfl));simp only[Act.put,cX,gB,Nat.reduceAdd])
 apply eh;refine aJ (i:=6) rfl rfl (by kernel_rfl) ?_;intro KC m;go_simp;apply j.mono;rintro V W2⟨rfl,q⟩;have u:=q.still<|bX az W2;have A:=And.intro q.gT.2.1 q.dN.2.1;have s:=U u;refine m _ _ (λ_=>A) ?_;try simp only[Act.put,cX,gB]
 refine aJ (i:=7) rfl rfl (by kernel_rfl) ?_;intro KL o;go_simp;refine o _ _ wu ?_;refine cO (by kernel_rfl) ?_ _;show T _ _;apply n;have r:=s.Nt Q;rw[ae x]at r;simp only at r;have B:=And.intro s.gT.2.2.1 (s.dN.2.1);clear w A j q u m o n x;go_wp2_with fail
 rename_i QQ T n;refine cg (λk=>aS k (R e 2)=H (aw f)/\aS k (R L 1)=H (am Q)) 7 (by kernel_rfl) ?_;refine cQ 0 ?_;iterate 6 (refine eE (v:=?_) B rfl (by kernel_rfl) iO rfl ?_ ?_;rotate_left;(focus(rintro k⟨z0,z1⟩;go_simp;try rfl));simp only[Act.put,cX,gB,Nat.reduceAdd])
 apply eh;refine aJ (i:=6) rfl rfl (by kernel_rfl) ?_;intro KC m;go_simp;apply r.mono;rintro V W3⟨rfl,u⟩;have D:=And.intro u.gT.2.2.1 u.dN.2.1;have t:=U u;refine m _ _ (λ_=>D) ?_;try simp only[Act.put,cX,gB]
 refine aJ (i:=7) rfl rfl (by kernel_rfl) ?_;intro KL o;go_simp;refine o _ _ wu ?_;refine cO (by kernel_rfl) ?_ _;show T _ _;apply n;have K:=kW P t.yH;clear r B D m o n u;go_wp2_with fail
 apply K.mono;rintro V W4⟨rfl,E⟩;have S:=U<|t.still<|Z.aT E;clear E K t;go_wp2_with fail
 apply(ni P _).mono;rintro V W5⟨rfl,av⟩;subst W5;go_wp2;go_ret;exact⟨rfl,db,sbqq,f,h,mem,b,d,c,lo,_,a,S.drop<|λp j=>aG _ j⟩
end
section
variable{e W:Y}{h db sbqq b:M}{f:PB}{mem c:X}{g d:aa}{lo:iB}{O:cr (M×Obj)}{C N:M}{l:LC}{a:Bool}
theorem vL{l:iB}{i:uz}:(if a=bE/\fY i=0 then SO l i else l)=(if a then l else qQ l i):=by
 unfold qQ;cases a<;>simp
theorem RA(cu:ji e W h db sbqq b f mem c g d lo O C N l a l a)(cT dc:X)(bd cc:ab)(V j ce cd:M)(r s:ab)(u:Bool)(hn:0<ce)(dT:ce<=cd)(dv:ce<=1000000000000)(A:V<z (G e))(r0:aS e (R V j)=H (J r))(r1:aS e (R V<|j+1)=H (J s))(r2:aS e (R V<|j+2)=H (aL u))(hz:r.size<=140737488351232/\s.size<=140737488351232)(hC:C+lw [⟨r,s,u⟩]<=1000000)(hN:N+1<=100000000):cw bF 34 #[aw h,wO 4 cT dc bd cc<|bC V j ce cd] W λbf w'=>bf=aO (aL bU)/\∃bT l',ji e w' h db sbqq b bT mem c g d lo O (C+lw [⟨r,s,u⟩]) (N+1) l' a l' a:=by
 obtain⟨E,ba⟩:∃E,z (G W)=E:=⟨_,rfl⟩;have h1:ji e (ct W<|fW 4 cT dc bd cc<|bC V j ce cd) h db sbqq b f mem c g d lo ((E,fW 4 cT dc bd cc<|bC V j ce cd)::O) C N l a l a:=cu.add ((Z.refl _ W).alloc _) (by omega)<|aC _ ba.symm;have n:=h1.still<|bX az _;have m:=Ue n bd cc r s u hz hC hN;have P:∀k,Z az e k->aS k (R V j)=H (J r)/\aS k (R V<|j+1)=H (J s)/\aS k (R V<|j+2)=H (aL u):=λk m=>⟨m.cell r0 id A,m.cell r1 id A,m.cell r2 id A⟩;have ac:=And.intro n.gT.2.1 (And.intro n.dN.2.2.2.1 (And.intro n.dN.2.2.2.2.1 (And.intro n.dN.2.2.2.2.2 (P _ n.ar))));have dx:=aj cu.box;have cv:=cu.lens;have cB:b<z (G W):=by obtain⟨⟨cM,hh,_⟩,_⟩:=cu.ref;exact aj hh
 have cn:y (if a then []else mJ l.1 bd cc 0)<=1000000:=by have:=my l.1 bd cc 0;split;simp;omega
 have B:=λo(q:mj o b f.1 l.1 a f.2)=>tS f.1 bd cc 0 q (by omega);have D:∀o,Z az e o->cw bF 14 #[bC V j 1 cd] o λbf w'=>∃v',bf=aO v'/\My w' (z<|G o) v' [⟨r,s,u⟩]/\Below (z<|G o) o w':=λo bo=>by refine zd [⟨r,s,u⟩] _ o (by simp) ⟨rfl,.inr ⟨V,j,cd,rfl,by show 1<=cd;omega,λed eg hj=>?_⟩⟩ (λS hk=>by cases hk;exact ag A bo.size);obtain⟨q0,q1,q2⟩:=P o bo;rcases ed with _|_|_|ed;cases hj;exact q0;cases hj;exact q1;cases hj;exact q2;simp[eQ,oD]at hj
 have Q:=λo v'(q:mj o b f.1 l.1 a f.2)(j:My o E v' [⟨r,s,u⟩])=>rY f.1 q (dF j) (λS hk=>(aF j S hk).2) (by simp;omega);obtain⟨p,hR⟩:∃p,(if a then []else mJ l.1 bd cc 0)=p:=⟨_,rfl⟩;obtain⟨gn,bp⟩:∃gn:X,(if a then 6 else 0)=gn:=⟨_,rfl⟩;obtain⟨wn,bc⟩:∃wn:X,(if a then 6 else fY [⟨r,s,u⟩])=wn:=⟨_,rfl⟩;rw[hR,bc]at m;rw[hR]at cn;simp only[hR,bp]at B;simp only[bc,vL]at Q;obtain⟨la,au⟩:∃la,(if a then l.1 else qQ l.1 [⟨r,s,u⟩])=la:=⟨_,rfl⟩;rw[au]at m;simp only[au]at Q;obtain⟨T,bm,bl,cj⟩:=gx B D Q P;have e1:(0:X)<(ce:X):=by omega
 have e2:(1:X)<=(cd:X):=by omega
 have cx:z (G W)=E:=ba;unfold wO;unfold fW at m ac;clear cu h1 n hR bp bc au B D Q P r0 r1 r2 A;go_in
 go_wp2_with fail
 try rw[ba]
 rename_i QQ KK w;refine cg (λk=>aS k (R h 1)=H (aw sbqq)/\aS k (R E 3)=H (J bd)/\aS k (R E 4)=H (J cc)/\aS k (R E 5)=H (bC V j ce cd)/\aS k (R V j)=H (J r)/\aS k (R V<|j+1)=H (J s)/\aS k (R V<|j+2)=H (aL u)) 17 (by kernel_rfl) ?_;refine cQ 0 ?_;iterate 12 (refine eE (v:=?_) ac rfl (by kernel_rfl) iO rfl ?_ ?_;rotate_left;(focus(rintro k⟨z0,z1,z2,z3,z4,z5,z6⟩;go_simp;try rfl));simp only[Act.put,cX,gB,Nat.reduceAdd])
 apply eh;refine aJ (i:=12) rfl rfl (by kernel_rfl) ?_;intro KC v;go_simp;apply m.mono;rintro bf W2⟨v2,rfl,an,n⟩;obtain⟨dk,dd,co⟩:=aB an;subst co;have F:=n.still<|bX az W2;have ad:=And.intro n.gT.2.1 (And.intro n.dN.2.2.2.1 (And.intro n.dN.2.2.2.2.1 (And.intro n.dN.2.2.2.2.2 (cj _ n.ar))));have bh:=U an;have t:=U F;refine v _ _ (λ_=>ad) ?_;try simp only[Act.put,cX,gB]
 refine cQ 13 ?_;iterate 4 (refine eE (v:=?_) ad rfl (by kernel_rfl) iO rfl ?_ ?_;rotate_left;(focus(rintro k⟨z0,z1,z2,z3,z4,z5,z6⟩;go_simp;try rfl));simp only[Act.put,cX,gB,Nat.reduceAdd])
 apply eh;refine aJ (i:=17) rfl rfl (by kernel_rfl) ?_;intro KL x;go_simp;refine x _ _ wu ?_;refine cO (by kernel_rfl) ?_ _;show KK _ _;apply w;have bu:=T _ t.ref;have bn:=And.intro t.gT.2.2.1 (And.intro t.dN.2.2.2.1 t.dN.2.2.2.2.1);have cE:z (G W)<z (G W2):=by have:=aj<|n.obj<|dy ..;simp only at this;omega
 clear ac ad m an n F v x w T;go_wp2_with fail
 rename_i KK w;refine cg (λk=>aS k (R h 2)=H (aw b)/\aS k (R E 3)=H (J bd)/\aS k (R E 4)=H (J cc)) 13 (by kernel_rfl) ?_;refine cQ 0 ?_;iterate 8 (refine eE (v:=?_) bn rfl (by kernel_rfl) iO rfl ?_ ?_;rotate_left;(focus(rintro k⟨z0,z1,z2⟩;go_simp;try rfl));simp only[Act.put,cX,gB,Nat.reduceAdd])
 apply eh;refine aJ (i:=8) rfl rfl (by kernel_rfl) ?_;intro KC v;go_simp;apply bu.mono;rintro bf W3⟨v3,rfl,av,K⟩;obtain⟨dn,dm,cp⟩:=aB av;subst cp;have F:=t.still<|Z.aT K;have al:=And.intro F.gT.2.2.1 (And.intro F.dN.2.2.2.1 F.dN.2.2.2.2.1);have ea:=K.size;obtain⟨bk,ch,bi⟩:=dB av K F;have y5:aS W3 (R E 5)=H (bC V j ce cd):=F.dN.2.2.2.2.2;refine v _ _ (λ_=>al) ?_;try simp only[Act.put,cX,gB]
 refine cQ 9 ?_;iterate 4 (refine eE (v:=?_) al rfl (by kernel_rfl) iO rfl ?_ ?_;rotate_left;(focus(rintro k⟨z0,z1,z2⟩;go_simp;try rfl));simp only[Act.put,cX,gB,Nat.reduceAdd])
 apply eh;refine aJ (i:=13) rfl rfl (by kernel_rfl) ?_;intro KL x;go_simp;refine x _ _ wu ?_;refine cO (by kernel_rfl) ?_ _;show KK _ _;apply w;have D:=bm _ bi.ar;clear bu bn al v x w av K F;go_wp2_with fail
 apply D.mono;rintro bf W4⟨v4,rfl,ax,L⟩;have h4:=bi.still<|Z.aT L;have eb:=L.size;have ds:z (G W2.drew)=z (G W2):=rfl;have bx:=bl W4 v4 h4.ref (eS ax<|by omega);obtain⟨ef,ee,cs⟩:=aB ax;subst cs;have y2:aS W4 (R h 2)=H (aw b):=h4.gT.2.2.1;have bg:=U L;have ck:=U h4;clear ax L h4 D bl bm;go_wp2_with fail
 apply bx.mono;rintro bf W5⟨rfl,⟨bT,bt,br⟩,ao⟩;have h5:=ck.KB ao bt br;have t5:Z (λS=>S=b) W4 W5:=fi ao;have ca:Z (λS=>S=b) W2 W5:=(((bX (λS=>S=b) W2).ci<|Z.aT (S:=az) ch).ci<|Z.aT (S:=az) bg).trans t5<|λ_ q=>.inl q;have cb:Z (λS=>S=b) W3 W5:=(Z.aT (S:=λS=>S=b) bg).trans t5<|λ_ q=>.inl q;have bq:jk W5 (I dk (y p) dd) p:=ca.row (dF bh) (λS hk=>by have hq:=aF bh S hk;simp at hq;exact⟨λbf=>by have:S=b:=bf;omega,hq.2⟩);have bs:jk W5 (I dn (y p) dm) p:=cb.row (oQ.KP bk) (λS hk=>by have hq:=aF bk S hk;exact⟨λbf=>by have:S=b:=bf;omega,hq.2⟩);have bb:=mS bq bs (by omega) (by omega);simp only[mu]at bb;have cl:=U h5;clear bq bs ca cb t5 h5 ao bt br bx;go_wp2_with fail
 apply bb.mono;rintro bf W6⟨rfl,kq,bv⟩;have cm:=U<|cl.still (W':=W6) (by rw[bv];exact gP _ _ _);clear bb bv;go_wp2_with fail
 apply(ni wn _).mono;rintro bf W7⟨rfl,ec⟩;subst W7;go_wp2;go_ret;exact⟨rfl,_,_,cm.drop<|λp j=>aG _ j⟩
end
theorem ut:(prog.info? 42).map (λi=>(i.zero,i.size,i.bytes))=H (H<|eD #[J ⟨#[]⟩,J ⟨#[]⟩,aL bE],3,40):=by kernel_rfl
theorem XH(m v:ab)(k:Bool)(w:Y):(binOp .neq 42 (eD #[J m,J v,aL k])<|eD #[J m,J v,aL k]).run bF w=.ok (aL bE) w:=by
 have i:prog.underlying 42=H (.struct<|prog.fieldsOf 42):=by kernel_rfl
 have j:prog.stoodInHeld 42=bE:=by kernel_rfl
 rw[run_neq_struct,show(10000:M)=9999+1 from rfl,run_equalIn_agg w 9999 _ _ _ i j];simp only[Program.fieldsOf,underlying42];go_simp
theorem Fa(i:uz):y (eQ i)=y i*3:=by
 induction i with
 |nil=>rfl
 |cons k i j=>
  unfold eQ at*;rw[dH,af,j,ay];simp only[oD,ay,cK];omega
theorem zN{P:Program}(x:Y){o:Array Oper}{k:cr Oper}{w:Oper}{A:Act}{ac:Exit->Act->Y->Prop}(u:w.guard=none)(an au:Operand)(D:TypeId)(Q:w.op=.call {callee:=.builtin .append,args:=#[an,au],argTypes:=#[D,D]})(B:TypeId)(v:TypeInfo)(n:aa)(V:P.underlying D=H (.slice B))(K:P.info? B=H v)(hz:v.zero=H n)(T:A.eval an=aK)(q:Addr)(p ad:M)(i:iV)(hx:A.eval au=I (H q) p ad)(L:y i=p*v.size)(m:∀al ao,i[al]?=H ao->aS x (q.add al)=H ao)(E:0<p)(s:p<=maxLen)(t:(p:X)<=9223372036854775807)(r:p*v.bytes<=281474976710656)(av:∀j,p<=j->j<=maxLen->wpList P o ac k (A.put w.dst<|bC (z<|G x) 0 p j) (ct x.drew<|aq (i.toArray++Builtin.zeroCells n.cells (j-p)) B)):wpList P o ac (w::k) A x:=by
 refine kN u λax F=>?_;have S:=run_append_nil x D w.type B v n V K hz q p ad i L m E t r;unfold Oper.wp execOp;simp only[Q,resolve,invoke,builtin,jW,pJ,jp,List.map_toArray,aX,eY,T,hx,S];exact F _ _<|av _ (grownCap_ge _ _ _ _)<|sB _ _ _ _ s
def EZ(i:uz)(m:M):Array aa:=(eQ i).toArray++Builtin.zeroCells #[J ⟨#[]⟩,J ⟨#[]⟩,aL bE] m
theorem Hk(k:uz)(r:M):∀u∈(EZ k r).toList,(∃s,u=J s)\/∃p,u=aL p:=by
 intro u i;unfold EZ at i;rw[nW,ak]at i;rcases i with i|i;unfold eQ at i;obtain⟨m,_,j⟩:=lZ.1 (by simpa using i);simp only[oD,aA,eI,kJ]at j;rcases j with rfl|rfl|rfl;exact .inl ⟨_,rfl⟩;exact .inl ⟨_,rfl⟩;exact .inr ⟨_,rfl⟩;unfold Builtin.zeroCells at i;obtain⟨o,_,j⟩:=Array.mem_map.1<|rj.1 i;have n:(#[J ⟨#[]⟩,J ⟨#[]⟩,aL bE]:Array aa).size=3:=rfl;rw[n]at j;(have m:o%3=0\/o%3=1\/o%3=2:=by omega);rcases m with q|q|q;rw[q]at j;exact .inl ⟨_,j.symm⟩;rw[q]at j;exact .inl ⟨_,j.symm⟩;rw[q]at j;exact .inr ⟨_,j.symm⟩
theorem AH(i:uz)(o j:M)(u:aa)(m:(eQ i)[j]?=H u):(EZ i o)[j]?=H u:=by
 have n:j<y (eQ i):=by rcases dE j (y<|eQ i)with k|k;exact k;rw[dq k]at m;cases m
 unfold EZ;rw[ny<|by simpa using n];simpa using m
section
variable{e W:Y}{f db sbqq g:M}{h:PB}{mem b:X}{d c:aa}{lo:iB}{O:cr (M×Obj)}{C N:M}{l:LC}{a:Bool}
theorem Dy(ea:ji e W f db sbqq g h mem b d c lo O C N l a l a)(el em:X)(en eo:ab)(ax i o au:M)(j:uz)(hn:o=y j)(cs:0<o)(fb:o<=au)(ed:o<=1000000000)(cj:ax<z (G e))(bh:∀L bn,(eQ j)[L]?=H bn->aS e (R ax<|i+L)=H bn)(hz:∀fl∈j,fl.key.size<=140737488351232/\fl.val.size<=140737488351232)(hC:C+lw j<=1000000)(hN:N+1<=100000000):cw bF 8 #[aw f,wO 1 el em en eo<|bC ax i o au] W λav w'=>av=aO (aL bU)/\AO e w' f O (C+lw j) (N+1):=by
 obtain⟨i0,ec,eg,ei,ej⟩:=cz ut;obtain⟨r,al⟩:∃r,z (G W)=r:=⟨_,rfl⟩;obtain⟨B,bf⟩:∃B,ct W (fW 1 el em en eo<|bC ax i o au)=B:=⟨_,rfl⟩;have h1:ji e B f db sbqq g h mem b d c lo ((r,fW 1 el em en eo<|bC ax i o au)::O) C N l a l a:=by rw[<-bf];exact ea.add ((Z.refl _ W).alloc _) (by omega)<|aC _ al.symm
 have bc:=ea.FN;have br:=U (show∀cT∈O,cT.1<r fromλcT hp=>by have:=aj<|ea.obj hp;omega);have et:=ea.lens;have an:z (G B)=r+1:=by rw[<-bf,<-al];simp
 have fe:=ea.ar.size;have u:∀k,Z az e k->∀L bn,(eQ j)[L]?=H bn->aS k (R ax<|i+L)=H bn:=λk hX L bn hj=>hX.cell (bh L bn hj) id cj;have hL:∀k,Z az e k->xW k (bC ax i o au) j:=λk hX=>⟨Fa j,.inr ⟨ax,i,au,by rw[hn],by omega,u k hX⟩⟩;have ff:=aj ea.box;obtain⟨dd,bs,ev,HL,bd,E,s⟩:=ww h1 bf bh hL u bc al;have bb:y (eQ j)=o*3:=by rw[Fa,hn]
 have A:=U hn;have HZ:=U hz;unfold wO;have c5:aS B (R r 5)=H (bC ax i o au):=h1.dN.2.2.2.2.2;have cn:∀L bn,(eQ j)[L]?=H bn->aS B (((R ax i):Addr).add L)=H bn:=λL bn hj=>by rw[du];exact u B h1.ar L bn hj
 obtain⟨ds,p,dc⟩:=dB cn an bb;clear ea h1 bc u hL bh hz hn cn bb al an;go_in
 unfold fW at bs
 go_wp2_with(first
  |(at_builtin;rw[ae bs];go_loud(refine zN _ rfl (.tmp 40) (.tmp 42) 29 rfl 42 i0 (.agg #[.string ⟨#[]⟩,.string ⟨#[]⟩,.bool bE]) underlying29 ec eg rfl (R ax i) o au (eQ j) rfl (by rw[ei];exact dc) ds cs (by unfold maxLen;omega) (by omega) (by rw[ej];omega) ?_;intro t eb eq)))
 obtain⟨m,ac⟩:∃m,z (G B)=m:=⟨_,rfl⟩;have an:=ae p;obtain⟨Q,F⟩:∃Q,(ct B<|aq (EZ j<|t-o) 42).drew=Q:=⟨_,rfl⟩;have K:Z az B Q:=by rw[<-F];exact((Z.refl az B).alloc _).of_heap rfl
 have V:Q.heap[m]?=H (aq (EZ j<|t-o) 42 (0,0)):=by rw[<-F];exact aC (w:=B) _ ac.symm
 have h2:ji e Q f db sbqq g h mem b d c lo ((m,aq (EZ j<|t-o) 42 (0,0))::(r,fW 1 el em en eo<|bC ax i o au)::O) C N l a l a:=dd.add K (by omega) V
 have bu:ji e Q f db sbqq g h mem b d c lo ((r,fW 1 el em en eo<|bC ax i o au)::(m,aq (EZ j<|t-o) 42 (0,0))::O) C N l a l a:=h2.drop (λcT hp=>by
  simp only[aA]at hp|-;rcases hp with q|q|q
  .exact .inr<|.inl q
  .exact .inl q
  .exact .inr (.inr q))
 have T:=bu.still<|bX az Q;have fd:=K.size;have ck:m<z (G Q):=aj V;have ce:xW Q.drew (bC m 0 o t) j:=⟨Fa j,.inr ⟨m,0,t,by rw[ae A],by rw[<-ae A];exact eb,λL bn hj=>by rw[bA,cR,bR V];exact AH j _ L bn hj⟩⟩;have bm:=λi=>Ew T (bC m 0 o t) j i ce (λcM hk=>by have n:m=cM:=dC hk;have D:=E.2.2.2.2.1;have g2:=ae s;exact⟨by rw[<-n];exact ck,by omega⟩) HZ (by rw[<-ae A];exact ed) hC hN;obtain⟨wn,bl⟩:∃wn:X,(if a then 6 else fY j)=wn:=⟨_,rfl⟩;obtain⟨la,bi⟩:∃la,(if a then l.1 else qQ l.1 j)=la:=⟨_,rfl⟩;simp only[bl,bi]at bm;have cb:=And.intro T.gT.2.1 T.dN.2.1;obtain⟨dx,dn,x,ex⟩:=gx bl bi ac F;have ek:=ae s;clear an;have ba:(ct B<|aq ((eQ j).toArray++Builtin.zeroCells #[J ⟨#[]⟩,J ⟨#[]⟩,aL bE] (t-o)) 42).drew=Q:=F;rw[ac,ba];clear K h2 bu T ce bl bi c5 F ba ac V;try rw[ek]
 rename_i QQ KK bx;refine cg (λk=>aS k (R f 1)=H (aw sbqq)/\aS k (R r 1)=H (am el)) 10 (by kernel_rfl) ?_;refine cQ 0 ?_;iterate 9 (refine eE (v:=?_) cb rfl (by kernel_rfl) iO rfl ?_ ?_;rotate_left;(focus(rintro k⟨z0,z1⟩;go_simp;try rfl));simp only[Act.put,cX,gB,Nat.reduceAdd])
 apply eh;refine aJ (i:=9) rfl rfl (by kernel_rfl) ?_;intro KC bv;go_simp;apply(bm _).mono;rintro av W3⟨rfl,h3⟩;have cc:=And.intro h3.gT.2.1 h3.dN.2.1;have bp:=U h3;refine bv _ _ (λ_=>cc) ?_;try simp only[Act.put,cX,gB]
 refine aJ (i:=10) rfl rfl (by kernel_rfl) ?_;intro KL bT;go_simp;refine bT _ _ wu ?_;refine cO (by kernel_rfl) ?_ _;show KK _ _;apply bx;have y5:aS W3 (R r 5)=H (bC ax i o au):=h3.dN.2.2.2.2.2;have cv:=zd j (bC ax i o au) W3 (by rw[<-ae A];omega) (HL W3 h3.ar) (λcM hk=>by cases hk;exact ag cj h3.ar.size);clear cb cc bm bv bT bx h3;go_wp2_with fail
 apply cv.mono;rintro av W4⟨v4,rfl,ad,bg⟩;have h4:=bp.still<|Z.aT bg;have eu:=bg.size;have es:m<z (G W3):=aj<|bp.obj<|aG _<|dy ..;have bk:=rY h.1 h4.ref (dF ad) (λcM hk=>(aF ad cM hk).2) (by rw[<-ae A];omega);rw[ae dx,vL,ae dn]at bk;obtain⟨fr,fn,ef⟩:=aB ad;subst ef;have y2:aS W4 (R f 2)=H (aw g):=h4.gT.2.2.1;have dk:=U h4;clear ad bg h4 cv y5;go_wp2_with fail
 apply bk.mono;rintro av W5⟨rfl,⟨fk,cu,cp⟩,ch⟩;have h5:=dk.KB ch cu cp;have cx:=kW wn h5.yH;have dm:=U h5;clear bk cu cp ch h5 y2;go_wp2_with fail
 apply cx.mono;rintro av W6⟨rfl,cd⟩;have h6:=dm.still<|Z.aT cd;have cB:W6.heap[m]?=H (aq (EZ j<|t-o) 42 (0,0)):=h6.obj (p:=(m,aq (EZ j<|t-o) 42 (0,0)))<|aG _<|dy ..;have cE:aS W6 (R r 5)=H (bC ax i o au):=h6.dN.2.2.2.2.2;have cl:r≠m:=by have:=ae x;have:=ae p;omega
 have co:r<z (G W6):=aj<|h6.obj<|dy ..;obtain⟨bq,bt,dT⟩:=dB h6 cB cE;clear cd cx h6 cB cE;go_wp2_with fail
 go_loopw [10] (λi wr=>∃(P:M)(S:Array aa),P<=o/\i=am P/\wr.heap[m]?=H (aq S 42 (0,0))/\(∀L,P*3<=L->S[L]?=(EZ j<|t-o)[L]?)/\Z (λcM=>cM=m) W6 wr) (λi _=>o-(intOf i).toNat)
 case atStart=>exact⟨0,_,bw _,rfl,bt,λ_ _=>rfl,Z.refl _ _⟩
 (case round=>obtain⟨P,S,hi,rfl,hx,n,D⟩:=hrel;by_cases cm:P<o;(·(have ca:P<y j:=by rw[<-ae A];exact cm);obtain⟨q0,q1,q2⟩:=kT j P ca;have ao:Z az e wr:=bq.ar.trans D<|λcM av=>.inr (by have:cM=m:=av;have:=ae x;have:=ae p;omega);have a0:=bd wr ao _ _ q0;have a1:=bd wr ao _ _ q1;have a2:=bd wr ao _ _ q2;have b0:aS wr (R m<|P*3)=_:=(bR hx).trans<|(n _<|by omega).trans<|AH j (t-o) _ _ q0;have b1:aS wr (R m<|P*3+1)=_:=(bR hx).trans<|(n _<|by omega).trans<|AH j (t-o) _ _ q1;have b2:aS wr (R m<|P*3+2)=_:=(bR hx).trans<|(n _<|by omega).trans<|AH j (t-o) _ _ q2;have y5:aS wr (R r 5)=H (bC ax i o au):=D.cell dT cl co;(have yf:∀L,wr.frozen? (R m L)=bE:=λL=>by simp[World.frozen?,hx]);rw[<-aV]at a1 a2;have ee:=XH j[P].key j[P].val j[P].del;generalize j[P]=ey at*;obtain⟨xk,xv,xd⟩:=ey;simp only at a0 a1 a2 b0 b1 b2 ee;(have e1:(P:X)<(o:X):=by omega);(have e0:(0:X)<=(P:X):=by omega);obtain⟨HX,bo,dv⟩:=dB hx n D;clear hx n D ao q0 q1 q2;(go_wp2_with fail);(go_quiet(fail));go_wp2;go_roundw;(case rel=>have hd:(wr.drewN nq).heap[m]?=H (aq S 42 (0,0)):=ae HX;refine⟨P+1,_,cm,by go_num,aQ<|aQ<|aQ hd,λL hj=>?_,?_⟩;rw[jF (by omega),jF (by omega),jF<|by omega];exact bo L (by omega);exact(((dv.trans (gP (λcM=>cM=m) wr nq)<|λ_ q=>.inl q).setCell _ _ _<|.inl rfl).setCell _ _ _<|.inl rfl).setCell _ _ _<|.inl rfl);case measure=>simp[intOf];omega);(have dv:P=o:=by omega);subst dv;(have e1:¬((P:X)<(P:X)):=by omega);have ca:∀cT∈O,cT.1<r:=br;have ao:=bq.VH (O':=O) (by have:=ae x;have:=ae p;omega) ⟨_,aG _<|dy ..⟩ bt (λq o au=>by rcases Hk _ _ _ au with⟨_,av⟩|⟨_,av⟩<;>cases av) (λq au=>by rcases Hk _ _ _ au with⟨_,av⟩|⟨_,av⟩<;>cases av) (λav=>by have:=E.2.1 m av;have:=ae s;have:=ae x;have:=ae p;omega) (λav=>by have:=E.2.2.1 m av;have:=ae s;have:=ae x;have:=ae p;omega) D<|λcT hp=>⟨aG _<|aG _ hp,by have:=ca cT hp;have:=ae x;have:=ae p;omega⟩;have bo:=U ao;clear ao hx n D ca;(go_wp2_with fail);apply(ni wn _).mono;rintro av W9⟨rfl,ee⟩;subst W9;go_wp2;go_ret;exact⟨rfl,db,sbqq,g,_,mem,b,d,c,lo,_,a,bo⟩)
end
theorem JV(k:Addr)(m:M)(w:Y):cw bF 14 #[I (H k) 0 m] w λn j=>∃i,n=aO i/\My j (z<|G w) i []/\Below (z<|G w) w j:=by
 go_in
 go_wp2;go_loopw [3,4] (λp o wr=>o=am 0/\p=aK/\wr=w) (λ_ _ _=>0)
 case atStart=>exact⟨rfl,rfl,rfl⟩
 (case round=>obtain⟨rfl,rfl,rfl⟩:=hrel;go_wp2;go_ret;exact⟨_,rfl,bJ _ _ _ _,Below.refl _ _⟩)
section
variable{h W:Y}{e db sbqq f:M}{g:PB}{mem b:X}{d c:aa}{lo:iB}{O:cr (M×Obj)}{C N:M}{l:LC}{a:Bool}
theorem wl(cc:ji h W e db sbqq f g mem b d c lo O C N l a l a)(ch cj:X)(ck cl:ab)(u:Addr)(br:M)(hC:C+lw []<=1000000)(hN:N+1<=100000000):cw bF 8 #[aw e,wO 1 ch cj ck cl<|I (H u) 0 br] W λcb w'=>cb=aO (aL bU)/\AO h w' e O (C+lw []) (N+1):=by
 obtain⟨i0,bs,bu,bv,bx⟩:=cz ut;obtain⟨E,o⟩:∃E,z (G W)=E:=⟨_,rfl⟩;obtain⟨q,w⟩:∃q,ct W (fW 1 ch cj ck cl<|I (H u) 0 br)=q:=⟨_,rfl⟩;have h1:ji h q e db sbqq f g mem b d c lo ((E,fW 1 ch cj ck cl<|I (H u) 0 br)::O) C N l a l a:=by rw[<-w];exact cc.add ((Z.refl _ W).alloc _) (by omega)<|aC _ o.symm
 have cd:=cc.lens;have s:=cc.FN;have ax:z (G q)=E+1:=by rw[<-w,<-o];simp
 have co:=aj cc.box;obtain⟨bd,K,p,bm,F⟩:=jR h1 w o ax s;unfold wO;have c5:aS q (R E 5)=H (I (H u) 0 br):=h1.dN.2.2.2.2.2;clear cc h1 o ax s;go_in
 unfold fW at K
 go_wp2_with(first
  |(at_builtin;rw[ae K];go_loud(refine bQ _ rfl (.tmp 40) (.tmp 42) 29 rfl (z (G q)) 42 i0 (.agg #[.string ⟨#[]⟩,.string ⟨#[]⟩,.bool bE]) 3 40 underlying29 bs bu bv bx rfl (by decide) aK 0 [] rfl (bJ _ _ _ _) u 0 br [] rfl rfl (by simp) (by simp) (by omega) (by omega) (ah _) ?_;intro v2 L j bc;obtain⟨bq,bp,rfl⟩:=aB j;have bl:=U j;have bn:=U bc;clear j bc)))
 have k:Z az q L:=Z.dM bn.grown (λbT r=>by cases r);have j:L.ownsRow (z<|G q) 42 3 (I bq 0 bp) 0 []:=ae bl;have m:=(bd.still k).still<|bX az L;have cm:=k.size;have an:xW L.drew (I bq 0 bp) []:=(bX az L).row (dF j)<|λbT r=>⟨id,(aF j bT r).2⟩;have D:=λk=>Ew m (I bq 0 bp) [] k an (λbT r=>⟨(aF j bT r).2,by have:=(aF j bT r).1;have:=F.2.2.2.2.1;have:=ae p;have:=ae bm;omega⟩) (by simp) (by simp) hC hN;obtain⟨wn,B⟩:∃wn:X,(if a then 6 else fY [])=wn:=⟨_,rfl⟩;obtain⟨la,x⟩:∃la,(if a then l.1 else qQ l.1 [])=la:=⟨_,rfl⟩;simp only[B,x]at D;have V:=And.intro m.gT.2.1 m.dN.2.1;have bo:=U B;have bk:=U x;have ca:=ae p;clear k j m an B x c5;try rw[ca]
 rename_i QQ KK S;refine cg (λt=>aS t (R e 1)=H (aw sbqq)/\aS t (R E 1)=H (am ch)) 10 (by kernel_rfl) ?_;refine cQ 0 ?_;iterate 9 (refine eE (v:=?_) V rfl (by kernel_rfl) iO rfl ?_ ?_;rotate_left;(focus(rintro t⟨z0,z1⟩;go_simp;try rfl));simp only[Act.put,cX,gB,Nat.reduceAdd])
 apply eh;refine aJ (i:=9) rfl rfl (by kernel_rfl) ?_;intro KC Q;go_simp;apply(D _).mono;rintro cb W3⟨rfl,P⟩;have ac:=And.intro P.gT.2.1 P.dN.2.1;have bf:=U P;refine Q _ _ (λ_=>ac) ?_;try simp only[Act.put,cX,gB]
 refine aJ (i:=10) rfl rfl (by kernel_rfl) ?_;intro KL T;go_simp;refine T _ _ wu ?_;refine cO (by kernel_rfl) ?_ _;show KK _ _;apply S;have y5:aS W3 (R E 5)=H (I (H u) 0 br):=P.dN.2.2.2.2.2;have ba:=JV u br W3;clear V ac D Q T S P;go_wp2_with fail
 apply ba.mono;rintro cb W4⟨v4,rfl,n,ad⟩;have h4:=bf.still<|Z.aT ad;have A:=rY g.1 h4.ref (dF n) (λbT r=>(aF n bT r).2) (by simp;omega);rw[ae bo,vL,ae bk]at A;obtain⟨dx,dc,bt⟩:=aB n;subst bt;have y2:aS W4 (R e 2)=H (aw f):=h4.gT.2.2.1;have bg:=U h4;clear n ad h4 ba y5;go_wp2_with fail
 apply A.mono;rintro cb W5⟨rfl,⟨cp,av,au⟩,ao⟩;have h5:=bg.KB ao av au;have bb:=kW wn h5.yH;have bh:=U h5;clear A av au ao h5 y2;go_wp2_with fail
 apply bb.mono;rintro cb W6⟨rfl,al⟩;have bi:=U<|bh.still<|Z.aT al;clear al bb;go_wp2_with fail
 go_loopw [10] (λj wr=>j=am 0/\wr=W6) (λ_ _=>0)
 case atStart=>exact⟨rfl,rfl⟩
 (case round=>obtain⟨rfl,ce⟩:=hrel;subst wr;(go_wp2_with fail);apply(ni wn _).mono;rintro cb W9⟨rfl,cn⟩;subst W9;go_wp2;go_ret;exact⟨rfl,db,sbqq,f,_,mem,b,d,c,lo,_,a,bi.drop<|λp j=>aG _ j⟩)
theorem Dz(bq:ji h W e db sbqq f g mem b d c lo O C N l a l a)(bt bu:X)(bv bx:ab)(hC:C+lw []<=1000000)(hN:N+1<=100000000):cw bF 8 #[aw e,wO 1 bt bu bv bx aK] W λbp w'=>bp=aO (aL bU)/\AO h w' e O (C+lw []) (N+1):=by
 obtain⟨i0,bT,cd,ce,ch⟩:=cz ut;obtain⟨F,o⟩:∃F,z (G W)=F:=⟨_,rfl⟩;obtain⟨q,w⟩:∃q,ct W (fW 1 bt bu bv bx aK)=q:=⟨_,rfl⟩;have h1:ji h q e db sbqq f g mem b d c lo ((F,fW 1 bt bu bv bx aK)::O) C N l a l a:=by rw[<-w];exact bq.add ((Z.refl _ W).alloc _) (by omega)<|aC _ o.symm
 have br:=bq.lens;have s:=bq.FN;have ax:z (G q)=F+1:=by rw[<-w,<-o];simp
 have cc:=aj bq.box;obtain⟨bc,L,p,bk,K⟩:=jR h1 w o ax s;unfold wO;have c5:aS q (R F 5)=H aK:=h1.dN.2.2.2.2.2;clear bq h1 o ax s;go_in
 unfold fW at L;go_wp2_with fail
 rw[ae L];obtain⟨t,x⟩:∃t,q=t:=⟨_,rfl⟩;have k:Z az q t:=by rw[<-x];exact Z.refl _ _
 have j:t.ownsRow (z<|G q) 42 3 aK 0 []:=bJ _ _ _ _;rw[x];clear x;have m:=(bc.still k).still<|bX az t;have ca:=k.size;have an:xW t.drew aK []:=(bX az t).row (dF j)<|λbn r=>⟨id,(aF j bn r).2⟩;have E:=λk=>Ew m aK [] k an (λbn r=>⟨(aF j bn r).2,by have:=(aF j bn r).1;have:=K.2.2.2.2.1;have:=ae p;have:=ae bk;omega⟩) (by simp) (by simp) hC hN;obtain⟨wn,D⟩:∃wn:X,(if a then 6 else fY [])=wn:=⟨_,rfl⟩;obtain⟨la,A⟩:∃la,(if a then l.1 else qQ l.1 [])=la:=⟨_,rfl⟩;simp only[D,A]at E;have V:=And.intro m.gT.2.1 m.dN.2.1;have bl:=U D;have bi:=U A;have bo:=ae p;clear k j m an D A c5;try rw[bo]
 rename_i QQ KK S;refine cg (λu=>aS u (R e 1)=H (aw sbqq)/\aS u (R F 1)=H (am bt)) 10 (by kernel_rfl) ?_;refine cQ 0 ?_;iterate 9 (refine eE (v:=?_) V rfl (by kernel_rfl) iO rfl ?_ ?_;rotate_left;(focus(rintro u⟨z0,z1⟩;go_simp;try rfl));simp only[Act.put,cX,gB,Nat.reduceAdd])
 apply eh;refine aJ (i:=9) rfl rfl (by kernel_rfl) ?_;intro KC Q;go_simp;apply(E _).mono;rintro bp W3⟨rfl,P⟩;have ac:=And.intro P.gT.2.1 P.dN.2.1;have bd:=U P;refine Q _ _ (λ_=>ac) ?_;try simp only[Act.put,cX,gB]
 refine aJ (i:=10) rfl rfl (by kernel_rfl) ?_;intro KL T;go_simp;refine T _ _ wu ?_;refine cO (by kernel_rfl) ?_ _;show KK _ _;apply S;have y5:aS W3 (R F 5)=H aK:=P.dN.2.2.2.2.2;have ba:=zd [] aK W3 (by simp) ⟨rfl,.inl ⟨rfl,rfl⟩⟩ (λbn r=>by cases r);clear V ac E Q T S P;go_wp2_with fail
 apply ba.mono;rintro bp W4⟨v4,rfl,n,ad⟩;have h4:=bd.still<|Z.aT ad;have B:=rY g.1 h4.ref (dF n) (λbn r=>(aF n bn r).2) (by simp;omega);rw[ae bl,vL,ae bi]at B;obtain⟨dx,dc,bm⟩:=aB n;subst bm;have y2:aS W4 (R e 2)=H (aw f):=h4.gT.2.2.1;have bf:=U h4;clear n ad h4 ba y5;go_wp2_with fail
 apply B.mono;rintro bp W5⟨rfl,⟨cj,av,au⟩,ao⟩;have h5:=bf.KB ao av au;have bb:=kW wn h5.yH;have bg:=U h5;clear B av au ao h5 y2;go_wp2_with fail
 apply bb.mono;rintro bp W6⟨rfl,al⟩;have bh:=U<|bg.still<|Z.aT al;clear al bb;go_wp2_with fail
 go_loopw [10] (λj wr=>j=am 0/\wr=W6) (λ_ _=>0)
 case atStart=>exact⟨rfl,rfl⟩
 (case round=>obtain⟨rfl,bs⟩:=hrel;subst wr;(go_wp2_with fail);apply(ni wn _).mono;rintro bp W9⟨rfl,cb⟩;subst W9;go_wp2;go_ret;exact⟨rfl,db,sbqq,f,_,mem,b,d,c,lo,_,a,bh.drop<|λp j=>aG _ j⟩)
end
