import Derived.BigRegion
import Derived.Test.YthaiaannkhpppaaGreatDoorC4
import Derived.Test.YthaiaannkhpppaaGreatDoorC5
import Derived.Test.YthaiaannkhpppaaGreatDoorC6
open _root_ renaming List.length→y,Option.some→H,Array.size→z,Go.World.heap→G,Go.Value.ownBlock→cK,Go.World.cell?→aW,Go.World.setCell→cq,Go.World.alloc→cN,Bool.false→aX,Bool.true→ci,Nat→M,Int→X,List→cJ,Go.Calls→cY,Go.undef→iH,Go.Proofs.Tryz.prog→aZ,Go.Value.slice→I,Go.Value.string→am,Go.Value.bool→aN,Go.Value.pointer→cX,Go.Value.tuple→dq,Go.Value.agg→dC
namespace Go.Proofs.YthaiaannkhpppaaGreatDoor
open ChangeShapes WideShapes RowKit Proofs.Tryz List
set_option maxHeartbeats 16000000
set_option linter.all false
set_option maxRecDepth 100000
variable{a f A:Y}{b c g m D S:M}{d s L:ab}{e K:cR}{i x:DK}{l:dS}{n:eR}{p:eV}{r:iV}{t:ae}{w:E}{B:gW}{C:mq}{Q:Prop}{V:Array ab}
def DE{e cut f i:X}(h:lH a b (cX none) e cut f i c g m d C):cY aZ 166 #[aA b] a λl k=>l=aM (aN aX)/\k=a:=by
 have j:=cellAt h.box 0 rfl;clear h;go_in
 go_wp2;go_ret;simp_all
def Cs(l:Addr){e cut f i:X}(h:lH a b (cX<|H l) e cut f i c g m d C):cY aZ 166 #[aA b] a λn k=>n=aM (aN ci)/\k=a:=by
 have j:=cellAt h.box 0 rfl;clear h;go_in
 go_wp2;go_ret;simp_all
def ES(a cut b c:X):ab:=dC #[aE a,dA cut,dA b,dA c]
def IT{c:Func}{p:Tmp}(m:c.results=#[.cell p 185])(a:Array ab)(w:Y)(g:M)(e f h i:X)(t:TypeId)(d:M×M)(l:a.getD p iH=aA g)(j:w.heap[g]?=H (aw #[aE e,dA f,dA h,dA i] t d)):(results c a).run aZ w=.ok (ES e f h i) w:=by
 have b:a[p]?.getD iH=aA g:=by simpa using l
 have k:=ku (P:=aZ) w g t 185 #[aE e,dA f,dA h,dA i] d _ j underlying185 rfl (by kernel_rfl);simp[results,m,b,asAddr,k,ES]
def Vl{e cut f i:X}(h:lH a b d e cut f i c g m s C):cY aZ 227 #[aA b] a λq p=>q=aM (ES e cut f i)/\Below (z<|G a) a p:=by
 have j:=cellAt h.box 1 rfl;have k:=cellAt h.box 2 rfl;have l:=cellAt h.box 3 rfl;have n:=cellAt h.box 4 rfl;have o:=ak h.box;clear h;go_in
 go_wp2;refine ct (IT rfl _ _ (z<|G a) e cut f i _ _ rfl<|aJ _ rfl) rfl ?_;exact⟨rfl,(Below.refl _ a).alloc (ah _) _⟩
theorem Cw(c:M)(m:ab)(u:M)(f:u<18446744073709551616)(cut d i:X)(l e b:M)(g:ab)(p:mq)(h:lH a c m u cut d i l e b g p)(k:Pow a):cY aZ 100 #[aA c] a λr q=>r=aM (am<|fQ u)/\Below (z<|G a) a q:=by
 have n:=cellAt h.box 1 rfl;have o:=BD u f k;clear h k;go_in
 go_wp2_with(go_at_call 139;refine o.mono ?_;rintro r s⟨rfl,j⟩;have HB:=U j;clear j)
 go_ret;exact⟨rfl,HB⟩
def TN{j cut n u:X}(q i Bg d:M)(o:rp)(h:lH a b (cX none) j cut n u c g m (bD q i Bg d) C)(x:o.pos+o.size<=Bg)(Q:Bg<=d)(A:0<o.size)(S:Bg<=1000000000000):cY aZ 319 #[aA b,o.value] a λK F=>K=aM (dq #[bD q (i+o.pos) o.size (d-o.pos:M),.nilIface])/\Below (z<|G a) a F:=by
 obtain⟨pos,e,f,first,k⟩:=o;simp only at x A;unfold rp.value;simp only;have r:=ak h.box;have l:Below (z<|G a) a (cN a<|aw #[ar pos,ar e,ar f,am first,am k] 328):=(Below.refl _ a).alloc (ah _) _;have t:=DE<|h.below l h.lt.1 h.lt.2;have D:aW (cN a<|aw #[ar pos,ar e,ar f,am first,am k] 328) (R b 6)=H (bD q i Bg d):=by rw[pO _ _ _ r,cg h.box];rfl
 have v:∀(x:Bool)(a:Y),(Op.unary .not<|aN x).run aZ a=.ok (aN<|!x) a:=λ_ _=>rfl;obtain⟨s,E⟩:∃s,pos+e=s:=⟨_,rfl⟩;have L:(pos:X)+(e:X)=(s:X):=by omega
 have N:IntKind.i64.wrap (s:X)=(s:X):=by rw[bN];omega
 have O:pos<s:=by omega
 have P:s<=Bg:=by omega
 have p:=U (show e=s-pos by omega);have HB:=U l;clear h l E;go_in
 go_wp2_with(go_at_call 166;refine t.mono ?_;rintro K T⟨rfl,rfl⟩)
 go_quiet(fail)
 go_wp2;go_ret2
 have w:=J p;have B:=J HB;subst w;exact⟨rfl,below_drewN B _⟩
def EH(h:b<18446744073709551616):Nm (fQ b):=by
 have a:=qT b h;have c:tG.size<=100:=by decide
 unfold Nm fQ;rw[la];omega
def zN(h:b<18446744073709551616):Nm (fa b):=by
 have a:=qT b h;have c:Rs.size<=100:=by decide
 unfold Nm fa;rw[la];omega
def Ov:Nm iR:=by unfold Nm;decide
def EI:Nm eh:=by unfold Nm;decide
def Z.of_heap{a b c:Y}(h:Z p a b)(j:(c.os,c.tape,c.output,c.heap)=(b.os,b.tape,b.output,b.heap)):Z p a c:=by
 obtain⟨e,g,i,d⟩:c.os=b.os/\c.tape=b.tape/\c.output=b.output/\c.heap=b.heap:=by simpa using j
 exact⟨e.trans h.os,g.trans h.tape,i.trans h.output,by rw[d];exact h.size,λk b j=>by rw[d];exact h.block k b j⟩
def cZ(S:eV)(w:Y):Z S w w.drew:=⟨rfl,rfl,rfl,ah _,λ_ _ _=>rfl⟩
def iY(S:eV)(w:Y)(q:M):Z S w (w.drewN q):=⟨rfl,rfl,rfl,ah _,λ_ _ _=>rfl⟩
def cG.Vc(h:cG a b i){t:TypeId}{k:M×M}(e:a.heap[c]?=H (aw V t k))(m:t≠62)(q:t≠100)(r:t≠165)(n:t≠105)(s:t≠5):¬i.aO b c:=by
 rintro(rfl|rfl|rfl|f|⟨x,o,f⟩|⟨p,j,rfl|f⟩);exact kw e h.ie m rfl;exact h.now.tag e rfl;exact h.safe.tag e rfl;obtain⟨d,g⟩:=fE h.steps f;grind
 obtain⟨d,l,g⟩:=(h.each x o).2.2 c f;grind
 exact kw e (h.files p j).1 n rfl;obtain⟨d,g⟩:=fE (h.files p j).2.1 f;grind
def L5(w e:Y)(d:M)(K:DK)(n:M)(f:eR)(h:Ending):Prop:=∃c,pJ w e d K c/\vq K c/\(∀k,c.aO d k->K.aO d k)/\((∃g a b,h=aM (dq #[bD g a n b,.nilIface])/\n<=b/\Bytes e (bD g a n b) f)\/(0<K.fx.bd/\∃q,h=aM (dq #[az,eD q])/\lP e q 8))
def Px(E:g<18446744073709551616){cut u aU:X}{n:M}(bb:rp)(bi:da)(h:lH a b (aA c) g cut u aU m D n d C)(N:cG a c i)(hg:ld i.files (fQ g)=H bi)(h1:bb.pos+bb.size<=y bi.bytes)(h3:0<bb.size)(hp:Pow a):cY aZ 319 #[aA b,bb.value] a λba o=>L5 a o c i bb.size ((bi.bytes.drop bb.pos).take bb.size) ba:=by
 obtain⟨pos,e,k,first,v⟩:=bb;simp only at h1 h3;unfold rp.value;simp only;have bn:=ak h.box;have l:Below (z<|G a) a (cN a<|aw #[ar pos,ar e,ar k,am first,am v] 328):=(Below.refl _ a).alloc (ah _) _;have f:=h.below l h.lt.1 h.lt.2;have aD:=Cs (R c 0) f;have bk:∀(bl:Bool)(a:Y),(Op.unary .not<|aN bl).run aZ a=.ok (aN<|!bl) a:=λ_ _=>rfl;have L:=cellAt f.box 0 rfl;obtain⟨j,r⟩:∃j,j=cN a (aw #[ar pos,ar e,ar k,am first,am v] 328):=⟨_,rfl⟩;have w:Ad j (z<|G a) ⟨pos,e,k,first,v⟩:=by rw[r];exact aJ _ rfl
 have aF:z (G j)=z (G a)+1:=by rw[r];simp
 have A:b<z (G j):=by omega
 rw[<-r]at l f aD L;have al:aW j (R (z<|G a) 0)=H (ar pos):=w.cells.1;have an:aW j (R (z<|G a) 1)=H (ar e):=w.cells.2.1;have aa:Pow j:=hp.aj (S:=ay) (Z.aR l)<|λaV=>aV;have V:cG j c i:=N.aj (S:=ay) (Z.aR l)<|λ_ _ aV=>aV;have HN:=U (show∀W,W.heap=j.heap->cY aZ 100 #[aA b] W λba o=>ba=aM (am<|fQ g)/\Below (z<|G W) W o fromλW F=>Cw b (aA c) g E cut u aU m D n d C ⟨by rw[F];exact f.box,λi bl e=>by rw[dt (w:=j)<|by rw[F]];exact f.cells i bl e,f.ne,f.le,f.small⟩<|aa.dw<|by rw[F]);have au:¬i.aO c b:=N.Vc h.box (by decide) (by decide) (by decide) (by decide) (by decide);have O:¬i.aO c (z<|G a):=λaV=>by have:=N.lt _ aV;omega
 have ap:y bi.bytes<=1099511627776:=by have:=pm hg;have:=N.room;have:=N.kK;omega
 have HR:=U (show∀W,Below (z<|G j.drew) j.drew W->cY aZ 90 #[aA c,am<|fQ g,ar pos,ar e] W λba o=>∃v d,ba=aM (dq #[v,d])/\(aW o (R b 0)=H (aA c)/\aW o (R (z<|G a) 0)=H (ar pos)/\aW o (R (z<|G a) 1)=H (ar e))/\L5 a o c i e ((bi.bytes.drop pos).take e) (aM<|dq #[v,d])fromλW bg=>by
  have F:Z ay j W:=(cZ _ j).cz<|Z.aR (S:=ay) bg;have bf:=V.aj F<|λ_ _ aV=>aV;have ax:pJ a W c i i:=((pJ.refl N).still<|Z.aR l).still F;apply(BK (fQ g) pos e bf hg (by omega) (by omega)<|EH E).mono;rintro ba o⟨K',t,av,ad,hr⟩;have P:Z (i.aO c) j o:=(F.mono (T:=i.aO c) cL).trans t.aj<|λ_ aV=>.inl aV;have ac:aW o (R b 0)=H (aA c)/\aW o (R (z<|G a) 0)=H (ar pos)/\aW o (R (z<|G a) 1)=H (ar e):=⟨P.cell L au A,P.cell al O (by omega),P.cell an O<|by omega⟩;rcases hr with⟨v',rfl,ho⟩|⟨hb,q,rfl,hq⟩
  .have x:y ((bi.bytes.drop pos).take e)=e:=by simp;omega
   have K:=ho.bytes;rcases K.shape with⟨_,h0⟩|⟨br,Q,bd,rfl,ao⟩
   .rw[h0]at x;grind
   .rw[x]at ao K|-;exact⟨_,_,rfl,ac,K',ax.trans t,av,ad,.inl ⟨br,Q,bd,rfl,ao,K⟩⟩
  .exact⟨_,_,rfl,ac,K',ax.trans t,av,ad,.inr ⟨hb,q,rfl,hq⟩⟩)
 obtain⟨HB,HW,HZ,bm⟩:=fY l r aF w;have B:z (G a)<z (G j):=by omega
 clear h l N hg ap h1 hp f aa V w aF r au O;go_in
 go_wp2_with(go_at_call 166;rw[<-(J HW)];refine aD.mono ?_;rintro ba w1⟨rfl,bh⟩;subst bh)
 go_region_held3(λd=>aW d (R b 0)=H (aA c)/\aW d (R (z<|G a) 0)=H (ar pos)/\aW d (R (z<|G a) 1)=H (ar e)) (first|assumption|go_keep) (first
  |(go_at_call 100;go_loud(refine(HN w1.drew rfl).mono ?_;rintro ba w2⟨rfl,s⟩;have bo:aW w2 (R b 0)=H (aA c)/\aW w2 (R (z<|G a) 0)=H (.int .i64 pos)/\aW w2 (R (z<|G a) 1)=H (.int .i64 e):=⟨(s.cell (p:=(R b 0)) A).trans (by rw[bF];exact L),(s.cell (p:=(R (z<|G a) 0)) B).trans (by rw[bF];exact al),(s.cell (p:=(R (z<|G a) 1)) B).trans (by rw[bF];exact an)⟩;have bc:=U s;clear s))
  |(go_at_call 90;go_loud(refine(HR w2 bc).mono ?_;rintro ba w3⟨rv,bq,rfl,bp,r1⟩;have R1:=U r1;clear r1)))
 go_wp2;go_ret2
 exact R1
def dK(a:dS):eR:=(a.map<|λc=>iN<|fP c).flatten
theorem gy(a:eR):y (iN a)=y a+4:=by simp[iN,cH]
theorem oY(c:cR)(a:dS):dK (c::a)=iN (fP c)++dK a:=by simp[dK]
theorem JL(b a:dS):dK (b++a)=dK b++dK a:=by simp[dK]
def Db(a:dS)(i:M)(h:i<y a):dK a=dK (a.take i)++(iN (fP a[i])++dK (a.drop<|i+1)):=by
 grind[take_append_drop,drop_eq_getElem_cons,JL,oY]
def Ft(a:dS)(rest:eR)(i:M)(h:i<y a):((dK a++rest).drop<|y<|dK<|a.take i).take (y (fP a[i])+4)=iN (fP a[i]):=by
 rw[Db a i h,bA,tr,bA,<-gy,kS]
def JK(a:dS)(i:M)(h:i<y a):y (dK<|a.take i)+(y (fP a[i])+4)<=y (dK a):=by
 rw[Db a i h];simp[gy]
structure uj(ks:mq)(cs:dS):Prop where
 len:y ks=y cs
 ne:0<y cs
 EA:∀i(hi:i<y ks)(hc:i<y cs),ks[i].Of cs[i]
 pos:∀i(hi:i<y ks),ks[i].pos=y (dK<|cs.take i)
 iP:∀c∈cs,∀x∈c,x.Good
 mj:dV cs.flatten
 Du:cs.Pairwise gU
 small:∀c∈cs,y c<=1000
def Bytes.same{V:iV}{n0:M}{S:eV}(h:Bytes a d n)(i:kO V n0 S a f)(j:∀k,cK d=H k->k<n0/\¬V.F k):Bytes f d n:=by
 rcases h with⟨rfl,rfl⟩|⟨l,b,c,rfl,e,g⟩;exact .inl ⟨rfl,rfl⟩;exact .inr ⟨l,b,c,rfl,e,λk h=>i.cell (.inr<|j l rfl)<|g k h⟩
def nE.ZD(V:iV)(q e:M)(i cut l C:X)(s m g j b a:M)(h:mq)(d:dS)(P:Y)(K:lH P e (cX none) i cut l C s m g (bD j b (y<|dK d) a) h)(k:uj h d)(W:Bytes P (bD j b (y<|dK d) a) (dK d))(w:y (dK d)<=a)(A:y (dK d)<=1000000000000)(D:e<q/\¬V.F e)(E:s<q/\¬V.F s)(Q:j<q/\¬V.F j)(B:Steps P)(x:1<q/\¬V.F 1):nE V q e h d P where
 mem:=⟨_,_,_,_,_,_,_,_,_,K,D,E⟩
 len:=k.len
 EA:=k.EA
 iP:=k.iP
 mj:=k.mj
 Du:=k.Du
 small:=k.small
 steps:=B
 Ar:=x
 bytes:=by
  intro r F t aa L T;have O:=k.EA r F t;have c:=k.pos r F;have u:=JK d r t;refine(TN j b (y<|dK d) a h[r] (K.same L D E) (by rw[c,O.size];exact u) w (by rw[O.size];omega) A).mono ?_;rintro ad W'⟨rfl,f⟩;refine .inl ⟨j,b+h[r].pos,a-h[r].pos,rfl,by rw[c,O.size];omega,?_,V.eY T (Z.aR (S:=ay) f) cL,Z.aR f⟩;have o:Bytes aa (bD j b (y<|dK d) a) (dK d):=W.same L (λac v=>by cases v;exact Q);have hd:=o.Cf (n:=h[r].pos) (by rw[c];omega);have N:=Bytes.take (bs:=(dK d).drop h[r].pos) (n:=h[r].size) (by simpa using hd) (by simp;rw[c,O.size];omega);have p:=Ft d [] r t;rw[dM,<-c,<-O.size]at p;rw[p]at N;refine N.below f<|λac v=>?_;cases v;have hx:=o.lt (bs:=dK d) (by grind) j rfl;exact hx
def JI(a:Prop)(c:M)(b:DK)(F:eV):iV where
 Xp:=a
 D W:=(∀k,F k->k<z (G W))/\∃K,cG W c K/\vq b K/\(∀k,K.aO c k->F k)/\Fx b.fx K.fx
 F:=F
 eY:=by
  rintro w l S⟨f,K,g,h,d,i⟩e j;exact⟨λk a=>ag (f k a) e.size,K,g.aj e<|λk a c=>j k c<|d k a,h,d,i⟩
 lt:=by
  grind
def nE.Qe(e:Prop)(v:M)(h:DK)(F:eV)(n a ao:M)(hu:ao<18446744073709551616)(cut f K:X)(s i b:M)(u:ab)(r:mq)(j:dS)(ad:da)(rest:eR)(ac:Y)(W:lH ac a (aA v) ao cut f K s i b u r)(c:uj r j)(hf:ld h.files (fQ ao)=H ad)(l:ad.bytes=dK j++rest)(B:h.fx.ok)(hX:0<h.fx.bd->e)(Q:a<n/\¬F a)(S:s<n/\¬F s)(E:Steps ac)(m:1<n/\¬F 1)(D:Pow ac)(C:2<n/\¬F 2):nE (JI e v h F) n a r j ac where
 mem:=⟨_,_,_,_,_,_,_,_,_,W,Q,S⟩
 len:=c.len
 EA:=c.EA
 iP:=c.iP
 mj:=c.mj
 Du:=c.Du
 small:=c.small
 steps:=E
 Ar:=m
 bytes:=by
  rintro aa V w ap hs⟨A,av,hK,N,O,P⟩;have an:=c.EA aa V w;have d:=c.pos aa V;have al:=JK j aa w;refine(Px hu r[aa] ad (W.same hs Q S) hK (by rw[N.1];exact hf) (by rw[d,an.size,l,af];omega) (by rw[an.size];omega)<|D.dw<|hs.2 _<|.inl C).mono ?_;rintro ax L⟨K',p,f1,f3,hr⟩;have T:(JI e v h F).D L:=⟨λE m=>ag (A E m) p.aj.size,K',p.ok,N.trans f1,λE m=>O E<|f3 E m,P.trans p.fx⟩;have ht:Z F ap L:=p.aj.mono<|λE m=>.inl<|O E m;rcases hr with⟨au,g,t,rfl,x,o⟩|⟨o,q,rfl,hq⟩
  .refine .inl ⟨au,g,t,rfl,x,?_,T,ht⟩;have k:=Ft j rest aa w;rw[<-d,<-an.size,<-l]at k;rw[k]at o;exact o
  .exact .inr ⟨hX<|P.pos B o,q,rfl,hq,T,ht⟩
def SM:(prog.info? 328).map (λi=>(i.zero,i.size,i.bytes))=H (H<|dC #[ar 0,ar 0,ar 0,am ⟨#[]⟩,am ⟨#[]⟩],5,56):=by kernel_rfl
def Pw(w:Y)(x a b u v:ab)(t:TypeId):∀j q,[x,a,b,u,v][j]?=H q->aW (cN w<|aw #[x,a,b,u,v] t) (((R (z<|G w) 0):Addr).add j)=H q:=by
 intro j q c;rw[dB];simp_all
def Z.fH(h:eE a f d s):Z (λk=>cK d=H k) a f:=Z.ee h.grown<|λ_ e=>.inl e
def eP.aj{w w':Y}{b:M}{t:TypeId}{S:eV}(h:eP w b d t)(c:Z S w w')(a:¬S b):eP w' b d t:=(c.block b (ak h) a).trans h
def eZ(w:Y)(b i:M)(u:ab):Z (λk=>k=b) w (cq w (R b i) u):=(Z.refl (λk=>k=b) w).setCell b i u<|.inl rfl
structure lG(W:Y)(base bl bd bp bk bf bt:M)(lv dv pv kv:ab)(fr to:M)(ds ps:eR)(ks:mq):Prop where
 l:eP W bl lv 87
 d:eP W bd dv 103
 p:eP W bp pv 103
 k:eP W bk kv 259
 f:eP W bf (ar fr) 3
 t:eP W bt (ar to) 3
 od:fc W base dv ds
 op:fc W base pv ps
 ok:W.ownsRow base 328 5 kv (y ks) (eO ks)
 ne:∀x,cK dv=H x->cK pv≠H x
 ord:bl<bd/\bd<bp/\bp<bk/\bk<bf/\bf<bt/\bt<base
 size:base<=z (G W)
def FD(a:mq)(k:rp):eO (a++[k])=eO a++k.cells:=by simp[eO]
def lG.jP{e k i l bk j m:M}{h:ab}{p:eR}(o:lG a e k i l bk j m d s L h b c n p C)(q:g<e):¬(cK s=H g)/\¬(cK L=H g)/\¬(cK h=H g):=⟨λf=>by have:=(o.od.lt g f).1;omega,λf=>by have:=(o.op.lt g f).1;omega,λf=>by have:=(bM o.ok g f).1;omega⟩
def km(h:a.ownsRow b c g d m B)(f:D<b):(cq a (R D S) s).ownsRow b c g d m B:=(eZ a D S s).own h (λk e i=>by have:=(bM h k e).1;omega)
def lG.kd{e l j m bk k o:M}{h:ab}{t:eR}(i:lG a e l j m bk k o d s L h b c n t C):(∀x,cK h=H x->cK s≠H x)/\(∀x,cK h=H x->cK L≠H x):=by
 constructor;intro x p g;obtain⟨c1,q⟩:=fE i.ok p;obtain⟨c2,r⟩:=fE i.od g;grind
 intro x p g;obtain⟨c1,q⟩:=fE i.ok p;obtain⟨c2,r⟩:=fE i.op g;grind
def lG.piece{e o m j bk n p:M}{t g:ab}{q A ps1:eR}(h:lG a e o m j bk n p d s L t b c q A C)(i:Z (λr=>cK L=H r) a f)(x:cK g=cK L\/∃v,cK g=H v/\z (G a)<=v)(w:fc f e g ps1):lG (cq f (R j 0) g) e o m j bk n p d s g t b c q ps1 C:=by
 have D:=h.ord;refine⟨(h.l.aj i (h.jP<|by omega).2.1).other _ (by omega),(h.d.aj i (h.jP<|by omega).2.1).other _ (by omega),(h.p.aj i (h.jP<|by omega).2.1).set _,(h.k.aj i (h.jP<|by omega).2.1).other _ (by omega),(h.f.aj i (h.jP<|by omega).2.1).other _ (by omega),(h.t.aj i (h.jP<|by omega).2.1).other _ (by omega),km (i.own h.od<|λr l=>h.ne r l) (by omega),km w (by omega),km (i.own h.ok<|λr l=>h.kd.2 r l) (by omega),λE l k=>?_,D,by rw[gP];exact aC h.size i.size⟩;rcases x with u|⟨v,u,B⟩;exact h.ne E l<|u▸k;rw[u]at k;cases k;have:=(h.od.lt _ l).2;omega
def lG.blocks{e m k o bk l p:M}{r i:ab}{t:eR}{w ks1:mq}(h:lG a e m k o bk l p d s L r b c n t w)(g:Z (λq=>cK r=H q) a f)(v:f.ownsRow e 328 5 i (y ks1) (eO ks1)):lG (cq f (R bk 0) i) e m k o bk l p d s L i b c n t ks1:=by
 have x:=h.ord;exact⟨(h.l.aj g (h.jP<|by omega).2.2).other _ (by omega),(h.d.aj g (h.jP<|by omega).2.2).other _ (by omega),(h.p.aj g (h.jP<|by omega).2.2).other _ (by omega),(h.k.aj g (h.jP<|by omega).2.2).set _,(h.f.aj g (h.jP<|by omega).2.2).other _ (by omega),(h.t.aj g (h.jP<|by omega).2.2).other _ (by omega),km (g.own h.od<|λq u j=>h.kd.1 q j u) (by omega),km (g.own h.op<|λq u j=>h.kd.2 q j u) (by omega),km v (by omega),h.ne,x,by rw[gP];exact aC h.size g.size⟩
def lG.data{e n k o bk m p:M}{r g:ab}{v ds1 t:eR}(h:lG a e n k o bk m p d s L r b c v t C)(i:Z (λq=>cK s=H q) a A)(D:cK g=cK s\/∃w,cK g=H w/\z (G a)<=w)(B:fc A e g ds1):lG (cq A (R k 0) g) e n k o bk m p d g L r b c ds1 t C:=by
 have K:=h.ord;refine⟨(h.l.aj i (h.jP<|by omega).1).other _ (by omega),(h.d.aj i (h.jP<|by omega).1).set _,(h.p.aj i (h.jP<|by omega).1).other _ (by omega),(h.k.aj i (h.jP<|by omega).1).other _ (by omega),(h.f.aj i (h.jP<|by omega).1).other _ (by omega),(h.t.aj i (h.jP<|by omega).1).other _ (by omega),km B (by omega),km (i.own h.op<|λq l j=>h.ne q j l) (by omega),km (i.own h.ok<|λq l=>h.kd.1 q l) (by omega),λx l j=>?_,K,by rw[gP];exact aC h.size i.size⟩;rcases D with u|⟨w,u,E⟩;exact h.ne x (u▸l) j;rw[u]at l;cases l;have:=(h.op.lt _ j).2;omega
def lG.fin{e k j i bk f l:M}{p m:ab}{o:eR}(h:lG a e k j i bk f l d L p m b g n o C):lG (cq (cq a (R i 0) az) (R f 0)<|ar g) e k j i bk f l d L az m g g n [] C:=by
 have t:=h.ord;exact⟨(h.l.other _<|by omega).other _ (by omega),(h.d.other _<|by omega).other _ (by omega),(h.p.set _).other _ (by omega),(h.k.other _<|by omega).other _ (by omega),(h.f.other _<|by omega).set _,(h.t.other _<|by omega).other _ (by omega),km (km h.od<|by omega) (by omega),fc.nil _ _,km (km h.ok<|by omega) (by omega),(λx _ r=>by cases r),t,by rw[gP,gP];exact h.size⟩
def lG.G7{e j i g bk f k:M}{l:ab}{m:eR}(h:lG a e j i g bk f k d s L l b c n m C):lG (cq (cq a (R f 0)<|ar c) (R g 0) az) e j i g bk f k d s az l c c n [] C:=by
 have p:=h.ord;exact⟨(h.l.other _<|by omega).other _ (by omega),(h.d.other _<|by omega).other _ (by omega),(h.p.other _<|by omega).set _,(h.k.other _<|by omega).other _ (by omega),(h.f.set _).other _ (by omega),(h.t.other _<|by omega).other _ (by omega),km (km h.od<|by omega) (by omega),fc.nil _ _,km (km h.ok<|by omega) (by omega),(λx _ o=>by cases o),p,by rw[gP,gP];exact h.size⟩
def lG.at{e m k o bk l j:M}{q:ab}{r:eR}(h:lG a e m k o bk l j d s L q c g n r C)(t:M):lG (cq a (R j 0)<|ar t) e m k o bk l j d s L q c t n r C:=by
 have u:=h.ord;exact⟨h.l.other _ (by omega),h.d.other _ (by omega),h.p.other _ (by omega),h.k.other _ (by omega),h.f.other _ (by omega),h.t.set _,km h.od (by omega),km h.op (by omega),km h.ok (by omega),h.ne,u,by rw[gP];exact h.size⟩
def vh(a b:M)(c e d:ab)(x:M):Prop:=(a<=x/\x<=b)\/cK c=H x\/cK e=H x\/cK d=H x
def lG.low{e f l o bk m h:M}{i:ab}{p:eR}(j:lG a e f l o bk m h d s L i b c n p C):∀x,vh f h s L i x->f<=x:=by
 have q:=j.ord;rintro x(⟨g,_⟩|g|g|g);exact g;have:=(j.od.lt x g).1;omega;have:=(j.op.lt x g).1;omega;have:=(bM j.ok x g).1;omega
def lG.aj{W w':Y}{a l j m bk k o:M}{q:ab}{r:eR}(h:lG W a l j m bk k o d s L q c g n r C)(e:Z ay W w'):lG w' a l j m bk k o d s L q c g n r C:=⟨h.l.aj e id,h.d.aj e id,h.p.aj e id,h.k.aj e id,h.f.aj e id,h.t.aj e id,e.own h.od<|λ_ _ p=>p,e.own h.op<|λ_ _ p=>p,e.own h.ok<|λ_ _ p=>p,h.ne,h.ord,aC h.size e.size⟩
def lG.p9{e l q t bk r m:M}{o:ab}{u:eR}(i:lG a e l q t bk r m d s L o b c n u C)(g:Z p a f)(h:∀k,vh l m s L o k->¬p k):lG f e l q t bk r m d s L o b c n u C:=by
 have j:=i.ord;exact⟨i.l.aj g<|h _<|.inl ⟨by omega,by omega⟩,i.d.aj g<|h _<|.inl ⟨by omega,by omega⟩,i.p.aj g<|h _<|.inl ⟨by omega,by omega⟩,i.k.aj g<|h _<|.inl ⟨by omega,by omega⟩,i.f.aj g<|h _<|.inl ⟨by omega,by omega⟩,i.t.aj g<|h _<|.inl ⟨by omega,by omega⟩,g.own i.od<|λk j=>h k<|.inr<|.inl j,g.own i.op<|λk j=>h k<|.inr<|.inr<|.inl j,g.own i.ok<|λk j=>h k<|.inr<|.inr<|.inr j,i.ne,i.ord,aC i.size g.size⟩
def lG.vP{e g k m bk l h:M}{j:ab}{o:eR}(i:lG a e g k m bk l h d s L j b c n o C):∀x,vh g h s L j x->x<z (G a):=by
 have q:=i.ord;have p:=i.size;rintro x(⟨_,f⟩|f|f|f);omega;exact(i.od.lt x f).2;exact(i.op.lt x f).2;exact(bM i.ok x f).2
def Z.low{B k i:M}(h:Z p a f)(c:∀x,p x->B<=x)(g:k<B)(b:aW a (R k i)=H d):aW f (R k i)=H d:=h.cell b (λe=>by have:=c k e;omega)<|cC a (R k i) b
def kp{P:Program}{x:Oper}{w:Act}{aa:Act->Y->Prop}{ao:Exit->Act->Y->Prop}(al an:Operand)(A:TypeId)(o:x.op=Op.call {callee:=Callee.builtin Builtin.append,args:=#[al,an],argTypes:=#[A,A]})(b:M)(t:TypeId)(u:TypeInfo)(i:ab)(c bytes:M)(V:P.underlying A=H (.slice t))(N:P.info? t=H u)(hz:u.zero=H i)(h:u.size=c)(n:u.bytes=bytes)(q:i.cells.size=c)(p:0<c)(C:ab)(v:M)(r:gW)(S:w.eval al=C)(j:a.ownsRow b t c C v r)(m:Addr)(s ac:M)(d:gW)(W:w.eval an=I (H m) s ac)(O:y d=s*c)(g:∀ad B,d[ad]?=H B->aW a (m.add ad)=H B)(D:∀B∈d,B.oneCell'=ci)(hn:v+s<=140737488355328)(e:(v+s)*bytes<=140737488355328)(f:b<=z (G a))(L:∀k l,l.ownsRow b t c k (v+s) (r++d)->eE a l C k->aa (w.put x.dst k) l):Oper.wp P x w a aa ao:=by
 obtain⟨k,l,Q,E,F,_,K⟩:=nj (P:=P) a b A x.type t u i c bytes V N hz h n q p C v r j m s ac d O g D (by unfold maxLen;omega) e f;unfold Oper.wp;simp[execOp,o,resolve,invoke,builtin,S,W,Q,Result.andThen];exact L k l E<|eE.of F K
def tX(h:Bytes a (bD b c g m) n):∀j u,(n.map<|Value.int .u8)[j]?=H u->aW a (((R b c):Addr).add j)=H u:=by
 intro j u k;rw[dB];rcases h with⟨h,_⟩|⟨f,e,d,h,_,i⟩;cases h;grind
def Yo{f A B q bk N t:M}(al e u bh:M)(t1:M){j:eR}(kf kl:ae)(h:lG a f A B q bk N t (bD al e bh u) d s L b c n j C)(hT:Steps a)(hg:al<A)(c0:aW a (R al<|e+b*4)=H (am kf))(c1:aW a (R al<|e+t1*4)=H (am kl))(dm:b<bh)(dx:t1<bh)(cm:c=t1+1)(dn:b<=t1)(hL:bh<=1000000000)(dk:y n<=100000000000)(dv:y j<=100000)(dr:y C<=1000000000):cY aZ 220 #[aA q,aA bk,aA B,aA t,aA N,aA A] a λcB w'=>
 cB=aM (dq #[])/\(∃an aD,lG w' f A B q bk N t (bD al e bh u) an az aD c c (n++iN j) [] (C++[⟨y n,y j+4,c-b,kf,kl⟩])/\(∀K,cK an=H K->cK d=H K\/z (G a)<=K)/\(∀K,cK aD=H K->cK L=H K\/z (G a)<=K))/\Z (vh A t d s L) a w':=by
 obtain⟨i0,cf,cr,cs,cu⟩:=di SM
 obtain⟨j0,ch,cn,co,cp⟩:=di qi
 have cE:=h.ord
 have cl:=h.size
 have bt:=Eg hT h.op cl<|by omega
 obtain⟨Q,P,cd⟩:=aB h.od
 obtain⟨V,S,ck⟩:=aB h.ok
 subst cd
 subst ck
 have q1:=h.p.cell
 have q2:=h.p.free
 have D:=h.low
 have bi:=U c0
 have bl:=U c1
 obtain⟨MO,bf⟩:∃MO,c-b=MO:=⟨_,rfl⟩
 rw[bf]
 have e1:(c:X)-(b:X)=(MO:X):=by omega
 have e2:(c:X)-1=(t1:X):=by omega
 have e3:IntKind.i64.wrap (MO:X)=(MO:X):=by rw[bN];omega
 have e4:IntKind.i64.wrap (t1:X)=(t1:X):=by rw[bN];omega
 have e5:(b:X)<(bh:X):=by omega
 have e6:(t1:X)<(bh:X):=by omega
 have ca:=U (show∀x w1,fc w1 f x (j++le 4 (mV j))->eE a w1 s x->∃pb k pc,x=bD pb k (y j+4) pc/\(aW w1 (R q 0)=H s/\w1.frozen? (R q 0)=aX)/\lG (cq w1 (R q 0) x) f A B q bk N t (bD al e bh u) (I Q (y n) P) x (I V (y C) S) b c n (j++le 4 (mV j)) C/\Z (vh A t (I Q (y n) P) s<|I V (y C) S) a (cq w1 (R q 0) x)from by
  intro x w1 ao W;have w:y (j++le 4 (mV j))=y j+4:=by simp[cH]
  have aa:=h.p.aj (Z.fH W) (h.jP<|by omega).2.1;have g:=h.piece (Z.fH W) W.vp ao;have E:=((Z.fH W).mono (T:=vh A t (I Q (y n) P) s<|I V (y C) S)<|λK F=>.inl<|.inr<|.inr<|.inl F).setCell q 0 x<|.inl<|.inl ⟨by omega,by omega⟩;rcases ao.bytes.shape with⟨_,h0⟩|⟨pb,k,pc,h0,h1⟩
  .rw[h0]at w;simp at w
  grind[eP.cell,eP.free])
 clear h hT c0 c1 cm bf
 go_in
 go_wp2_with(go_at_call 182;refine bt.mono ?_;rintro cB w1⟨x,rfl,ao,W⟩;obtain⟨pb,k,pc,rfl,⟨cc,ce⟩,g,E⟩:=ca x w1 ao W;have bp:=U g;have bo:=U E;clear g E ao W)
 have g:=J bp
 have E:=J bo
 clear bp bo cc ce
 generalize cq w1 (R q 0) (bD pb k (y j+4) pc)=p at*
 clear bt q1 q2
 have k0:aW p (R al<|e+b*4)=H (am kf):=E.low D hg bi
 have k1:aW p (R al<|e+t1*4)=H (am kl):=E.low D hg bl
 have l1:=g.l.cell
 have l2:=g.d.cell
 have l3:=g.p.cell
 have l4:=g.k.cell
 have l5:=g.f.cell
 have l6:=g.t.cell
 have bq:=U (show∀(m:Obj)O o,o.ownsRow f 328 5 O (y C+1) (eO C++[ar<|y n,ar<|(y j:X)+4,ar MO,am kf,am kl])->eE (cN p m).drew o (I V (y C) S) O->lG (cq o (R bk 0) O) f A B q bk N t (bD al e bh u) (I Q (y n) P) (bD pb k (y j+4) pc) O b c n (j++le 4 (mV j)) (C++[⟨y n,y j+4,MO,kf,kl⟩])/\Z (vh A t (I Q (y n) P) s<|I V (y C) S) a (cq o (R bk 0) O)/\(aW o (R al<|e+b*4)=H (am kf)/\aW o (R al<|e+t1*4)=H (am kl)/\aW o (R A 0)=H (bD al e bh u)/\aW o (R B 0)=H (I Q (y n) P)/\aW o (R q 0)=H (bD pb k (y j+4:M) pc)/\aW o (R N 0)=H (ar b)/\aW o (R t 0)=H (ar c))/\aW o (R bk 0)=H (I V (y C) S)/\(aW (cq o (R bk 0) O) (R al<|e+b*4)=H (am kf)/\aW (cq o (R bk 0) O) (R al<|e+t1*4)=H (am kl)/\aW (cq o (R bk 0) O) (R A 0)=H (bD al e bh u)/\aW (cq o (R bk 0) O) (R B 0)=H (I Q (y n) P)/\aW (cq o (R bk 0) O) (R q 0)=H (bD pb k (y j+4:M) pc)/\aW (cq o (R bk 0) O) (R N 0)=H (ar b)/\aW (cq o (R bk 0) O) (R t 0)=H (ar c))/\o.frozen? (R bk 0)=aX/\(∀K,cK O=H K->cK (I V (y C) S)=H K\/z (G a)<=K)from by
  intro m O o ap av;have w:Z (λK=>cK (I V (y C) S)=H K) p o:=(((Z.refl _ p).alloc m).trans (cZ _ _)<|λK F=>.inl F).trans (Z.fH av)<|λK F=>.inl F;have aa:=g.k.aj w (g.jP<|by omega).2.2;have l:=g.blocks (ks1:=C++[⟨y n,y j+4,MO,kf,kl⟩]) w (by rw[FD,af];exact ap);have bg:∀K,cK (I V (y C) S)=H K->f<=K:=λK F=>(bM g.ok K F).1;have ac:Z (vh A t (I Q (y n) P) s<|I V (y C) S) a (cq o (R bk 0) O):=(E.trans w<|λK F=>.inl<|.inr<|.inr<|.inr F).setCell bk 0 _<|.inl<|.inl ⟨by omega,by omega⟩;exact⟨l,ac,⟨w.low bg (by omega) k0,w.low bg (by omega) k1,(g.l.aj w (g.jP<|by omega).2.2).cell,(g.d.aj w (g.jP<|by omega).2.2).cell,(g.p.aj w (g.jP<|by omega).2.2).cell,(g.f.aj w (g.jP<|by omega).2.2).cell,(g.t.aj w (g.jP<|by omega).2.2).cell⟩,aa.cell,⟨ac.low D hg bi,ac.low D hg bl,l.l.cell,l.d.cell,l.p.cell,l.f.cell,l.t.cell⟩,aa.free,λK F=>by
   rcases av.vp with cB|⟨cx,cB,hy⟩
   .grind
   .rw[cB]at F;cases F;have h1:=E.size;have h2:z (G p)<z (G (cN p m).drew):=by simp_all
    grind⟩)
 have bn:=U g.ok
 have cM:f<=z (G p):=g.size
 have b1:al<z (G p):=by omega
 have b2:A<z (G p):=by omega
 have b3:B<z (G p):=by omega
 have b4:q<z (G p):=by omega
 have b5:bk<z (G p):=by omega
 have b6:N<z (G p):=by omega
 have b7:t<z (G p):=by omega
 clear g E
 have hS:(aW p.drew (R al<|e+b*4)=H (am kf)/\aW p.drew (R al<|e+t1*4)=H (am kl)/\aW p.drew (R A 0)=H (bD al e bh u)/\aW p.drew (R B 0)=H (I Q (y n) P)/\aW p.drew (R q 0)=H (bD pb k (y j+4:M) pc)/\aW p.drew (R bk 0)=H (I V (y C) S)/\aW p.drew (R N 0)=H (ar b)/\aW p.drew (R t 0)=H (ar c)):=⟨by rw[bF];exact k0,by rw[bF];exact k1,by rw[bF];exact l1,by rw[bF];exact l2,by rw[bF];exact l3,by rw[bF];exact l4,by rw[bF];exact l5,by rw[bF];exact l6⟩
 rename_i QQ KK br
 refine dR (λm=>(aW m (R al<|e+b*4)=H (am kf)/\aW m (R al<|e+t1*4)=H (am kl)/\aW m (R A 0)=H (bD al e bh u)/\aW m (R B 0)=H (I Q (y n) P)/\aW m (R q 0)=H (bD pb k (y j+4:M) pc)/\aW m (R bk 0)=H (I V (y C) S)/\aW m (R N 0)=H (ar b)/\aW m (R t 0)=H (ar c))) 22 (by kernel_rfl) ?_
 refine fh 0 ?_
 iterate 20 (refine iz (v:=?_) hS rfl (by kernel_rfl) lk rfl ?_ ?_;rotate_left;(focus(intro m hX;obtain⟨x0,x1,x2,x3,x4,x5,x6,x7⟩:=hX;go_simp;try rfl));simp only[Act.put,dW,Nat.reduceAdd])
 apply ii
 refine bj (i:=20) rfl rfl (by kernel_rfl) ?_
 intro cT aV
 go_simp
 refine aV _ _ (λ_=>?_) ?_
 .exact⟨by rw[bF,fC b1];exact k0,by rw[bF,fC b1];exact k1,by rw[bF,fC b2];exact l1,by rw[bF,fC b3];exact l2,by rw[bF,fC b4];exact l3,by rw[bF,fC b5];exact l4,by rw[bF,fC b6];exact l5,by rw[bF,fC b7];exact l6⟩
 refine bj (i:=21) rfl rfl (by kernel_rfl) ?_
 intro db ba
 simp only[de,cD,cI]
 refine kp (.tmp 8) (.tmp 28) 259 rfl f 328 i0 (dC #[ar 0,ar 0,ar 0,am ⟨#[]⟩,am ⟨#[]⟩]) 5 56 underlying259 cf cr cs cu rfl (by decide) (I V (y C) S) (y C) (eO C) rfl (ke (aT bn<|aw #[ar<|y n,ar<|(y j:X)+4,ar MO,am kf,am kl] 328) rfl) (R (z<|G p) 0) 1 1 [ar<|y n,ar<|(y j:X)+4,ar MO,am kf,am kl] rfl rfl (Pw _ _ _ _ _ _ _) (by simp[Value.oneCell']) (by omega) (by omega) (by simp;omega) ?_
 intro O o ap av
 obtain⟨l,ac,⟨s0,s1,s2,s3,s4,s6,s7⟩,s5,⟨z0,z1,z2,z3,z4,z6,z7⟩,bs,bc⟩:=bq _ O o ap av
 obtain⟨bv,bu,cj⟩:=aB ap
 subst cj
 refine ba _ _ (λ_=>⟨s0,s1,s2,s3,s4,s5,s6,s7⟩) ?_
 simp only[Act.put,dW]
 refine bj (i:=22) rfl rfl (by kernel_rfl) ?_
 intro dc bb
 go_simp
 refine bb _ _ FQ ?_
 refine eS (by kernel_rfl) ?_ _
 show KK _ _
 apply br
 clear br aV ba bb z0 z1 z2 z3 z4 z6 z7 s0 s1 s2 s3 s4 s5 s6 s7 bs ap av hS k0 k1 l1 l2 l3 l4 l5 l6 b1 b2 b3 b4 b5 b6 b7 bq bn
 have aF:=U bc
 clear bc
 generalize cq o (R bk 0) (I bv (y C+1) bu)=W3 at*
 generalize(I bv (y C+1) bu)=cw at*
 have l2:=l.d.cell
 have l3:=l.p.cell
 have cv:=l.size
 have bE:=U l.od
 have bx:=U l.op.bytes
 have ds:y (j++le 4 (mV j))=y j+4:=by simp[cH]
 have cb:=U (show∀v4 w4,w4.ownsRow f 5 1 v4 (y n+(y j+4)) (n.map (Value.int .u8)++(j++le 4 (mV j)).map (Value.int .u8))->eE W3 w4 (I Q (y n) P) v4->(aW w4 (R B 0)=H (I Q (y n) P)/\w4.frozen? (R B 0)=aX)/\lG (cq w4 (R B 0) v4) f A B q bk N t (bD al e bh u) v4 (bD pb k (y j+4) pc) cw b c (n++iN j) (j++le 4 (mV j)) (C++[⟨y n,y j+4,MO,kf,kl⟩])/\Z (vh A t (I Q (y n) P) s<|I V (y C) S) a (cq w4 (R B 0) v4)/\(∀K,cK v4=H K->cK (I Q (y n) P)=H K\/z (G a)<=K)from by
  intro v4 w4 au ax;have w:=Z.fH ax;have aa:=l.d.aj w (l.jP<|by omega).1;have bg:=l.data (ds1:=n++iN j) w ax.vp<|fc.of au (by rw[af,gy]) (by unfold iN;rw[aP,aP,aP]);exact⟨⟨aa.cell,aa.free⟩,bg,(ac.trans w<|λK F=>.inl<|.inr<|.inl F).setCell B 0 _<|.inl<|.inl ⟨by omega,by omega⟩,λK F=>by
   grind[eE.vp,Nat.le_trans,Z.size]⟩)
 clear l ac
 go_wp2_with(first
  |(at_builtin;go_loud(refine cA _ rfl (.tmp 30) (.tmp 31) 103 rfl f 5 j0 (.int .u8 0) 1 1 underlying103 ch cn co cp rfl (by decide) _ (y n) (n.map (Value.int .u8)) rfl bE (R pb k) (y j+4) pc ((j++le 4 (mV j)).map (Value.int .u8)) rfl (by grind) (tX bx) (by intro dT hu;simp only[bR]at hu;obtain⟨cx,_,rfl⟩:=hu;rfl) (by omega) (by omega) cv ?_;intro v4 w4 au ax;obtain⟨⟨y0,y1⟩,r,ad,bd⟩:=cb v4 w4 au ax;obtain⟨x4,c4,rfl⟩:=aB au;have aU:=U bd;clear bd;have bT:=U r;have bL:=U ad;clear au ax r ad)))
 have r:=J bT
 have ad:=J bL
 have y2:=r.p.cell
 have y3:=r.p.free
 have y4:=r.f.cell
 have y5:=r.f.free
 have y6:=r.t.cell
 have n1:N≠q:=by omega
 have n2:t≠q:=by omega
 have n3:t≠N:=by omega
 have bm:=U (show∀w,(w=(cq (cq (cq w4 (R B 0)<|I x4 (y n+(y j+4)) c4) (R q 0) az) (R N 0)<|ar c).drew\/w=(cq (cq (cq w4 (R B 0)<|I x4 (y n+(y j+4)) c4) (R N 0)<|ar c) (R q 0) az).drew)->(∃an aD,lG w f A B q bk N t (bD al e bh u) an az aD c c (n++iN j) [] (C++[⟨y n,y j+4,MO,kf,kl⟩])/\(∀K,cK an=H K->cK (I Q (y n) P)=H K\/z (G a)<=K)/\(∀K,cK aD=H K->cK (I V (y C) S)=H K\/z (G a)<=K))/\Z (vh A t (I Q (y n) P) s<|I V (y C) S) a w from by
  rintro w(rfl|rfl)
  .exact⟨⟨_,_,r.fin.aj<|cZ _ _,aU,aF⟩,((ad.setCell q 0 _<|.inl<|.inl ⟨by omega,by omega⟩).setCell N 0 _<|.inl<|.inl ⟨by omega,by omega⟩).trans (cZ _ _)<|λK F=>.inl F⟩
  .exact⟨⟨_,_,r.G7.aj (cZ _ _),aU,aF⟩,((ad.setCell N 0 _ (.inl (.inl ⟨by omega,by omega⟩))).setCell q 0 _ (.inl (.inl ⟨by omega,by omega⟩))).trans (cZ _ _) (λK F=>.inl F)⟩)
 clear r ad
 go_region
 all_goals
  go_end0;refine⟨rfl,bm _ ?_⟩;grind
def Fh(c:cR):ae:=(c[0]?.map E.key).getD ⟨#[]⟩
def LX(c:cR):ae:=(c[y c-1]?.map E.key).getD ⟨#[]⟩
def MV(p:M)(c:cR):rp:=⟨p,y (fP c)+4,y c,Fh c,LX c⟩
def bW:M->dS->mq
 |_,[]=>[]
 |p,c::a=>MV p c::bW (p+(y (fP c)+4)) a
def jX:∀(a:dS)(p:M),y (bW p a)=y a
 |[],_=>rfl
 |c::a,p=>by rw[bW,aY,jX a,aY]
def Dg(c:cR):∀(a:dS)(p:M),bW p (a++[c])=bW p a++[MV (p+y (dK a)) c]
 |[],p=>by simp[bW,dK]
 |d::a,p=>by
  rw[df,bW,Dg c a,bW,df,oY,af,gy];grind
def zY:∀(a:dS)(p i:M)(f:i<y (bW p a))(b:i<y a),(bW p a)[i]=MV (p+y (dK<|a.take i)) a[i]
 |[],_,i,_,b=>absurd b<|gq i
 |c::a,p,0,_,_=>by simp[bW,dK]
 |c::a,p,i+1,f,b=>by
  have e:i<y (bW (p+(y (fP c)+4)) a):=by simpa[bW]using f
  have d:i<y a:=by simpa using b
  have h:=zY a (p+(y (fP c)+4)) i e d;simp only[bW,cD,si,oY,af,gy];rw[h];grind
def Ic(h:0<y e):Fh e=(e[0]'h).key:=by
 unfold Fh;rw[aQ h];rfl
def LW(h:0<y e):LX e=(e[y e-1]'(by omega)).key:=by
 unfold LX;rw[aQ<|by omega];rfl
def WE(h:0<y e)(p:M):(MV p e).Of e:=⟨h,rfl,rfl,Ic h,LW h⟩
def JH:∀(c:cR),y c<=y (fP c)
 |[]=>by simp[fP]
 |x::c=>by
  have:=JH c;unfold fP at*;rw[dU,af,aY];have:8<=y (Ce x):=by unfold Ce;rw[af,cH];omega
  omega
structure qo(l:cR)(cs:dS):Prop where
 flat:cs.flatten=l
 fit:∀c∈cs,0<y c/\y (fP c)+4<=512
 Du:cs.Pairwise gU
def qo.kG(h:qo e l)(d:e≠[])(g:∀x∈e,x.Good)(j:dV e):uj (bW 0 l) l where
 len:=jX l 0
 ne:=by
  cases l with
  |nil=>exact absurd h.flat.symm<|by simpa using d
  |cons f l=>simp
 EA:=λi c a=>by
  rw[zY l 0 i c a];exact WE (h.fit _<|aq a).1 _
 pos:=λi c=>by
  have a:i<y l:=by rw[jX]at c;exact c
  rw[zY l 0 i c a];simp[MV]
 iP:=λf a x c=>g x (by rw[<-h.flat];grind[mem_flatten])
 mj:=by rw[h.flat];exact j
 Du:=h.Du
 small:=λf a=>by
  have:=(h.fit f a).2;have:=JH f;omega
def qo.length(h:qo e l):y l<=y e:=by
 rw[<-h.flat];have:=h.fit;clear h;induction l with
 |nil=>simp
 |cons c l b=>
  have a:=(this c<|by simp).1;have f:=b (λd a=>this d<|by simp[a]);grind
def qo.data(h:qo e l):y (dK l)<=512*y l:=by
 have:=h.fit;clear h;induction l with
 |nil=>simp[dK]
 |cons c l b=>
  have a:=(this c<|by simp).2;have g:=b (λd a=>this d<|by simp[a]);rw[oY,af,gy,aY];omega
def vO(k:rp):eR:=le 4 k.size++(le 4 k.count++(eF k.first++eF k.last))
def fI(a:mq):eR:=le 4 (y a)++a.flatMap vO
section
open Shelf
attribute [local go_sem] Oper.semAt_some
def Pj(a:dS)(c:cR):dK (a++[c])=dK a++iN (fP c):=by simp[dK]
def Qu{a:cR}(h:e.take b=K++a)(j:b<=y e){i:M}(g:i<y a):∃f:y K+i<y e,e[y K+i]=a[i]:=by
 have d:b=y K+y a:=by have:=bS y h;grind
 refine⟨by omega,?_⟩;have c:(e.take b)[y K+i]'(by simp;omega)=(K++a)[y K+i]'(by simp;omega):=by simp only[h]
 rw[ly,ud<|by omega]at c;simpa using c
def Qp{g o r u bk t p:M}(D f n:M)(q:cR)(e:dS)(c:cR)(T:lG a g o r u bk t p (bD D f (y q) n) d s L (y e.flatten) b (dK e) (fP c) (bW 0 e))(V:Steps a)(hg:D<o)(W:∀ac ad,(aK q)[ac]?=H ad->aW a (R D<|f+ac)=H ad)(hcut:q.take b=e.flatten++c)(F:b<=y q)(k:0<y c)(hl:y q<=1000000)(h:∀B∈e,0<y B/\y (fP B)+4<=512)(C:y (fP c)+4<=512):cY aZ 220 #[aA u,aA bk,aA r,aA p,aA t,aA o] a λaa A=>
 aa=aM (dq #[])/\(∃l m,lG A g o r u bk t p (bD D f (y q) n) l az m (y (e++[c]).flatten) b (dK<|e++[c]) (fP []) (bW 0<|e++[c])/\(∀x,cK l=H x->cK d=H x\/z (G a)<=x)/\(∀x,cK m=H x->cK L=H x\/z (G a)<=x))/\Z (vh o p d s L) a A:=by
 have j:b=y e.flatten+y c:=by
  have:=bS y hcut;grind
 have v:y e<=y e.flatten:=by
  have:=h;clear T hcut j h;induction e with
  |nil=>simp
  |cons B e x=>
   have v:=(this B<|by simp).1;have E:=x (λP w=>this P<|by simp[w]);grind
 have E:y (dK e)<=512*y e:=by
  have:=h;clear T hcut j h v;induction e with
  |nil=>simp[dK]
  |cons B e x=>
   have v:=(this B<|by simp).2;have E:=x (λP w=>this P<|by simp[w]);rw[oY,af,gy,aY];omega
 obtain⟨i1,Q⟩:=Qu hcut F k
 obtain⟨i2,S⟩:=Qu hcut F (i:=y c-1)<|by omega
 have O:=(eI q _ i1).1
 have c1:=(eI q _ i2).1
 rw[Q]at O
 rw[S]at c1
 have hb:=jX e 0
 refine(Yo D f n (y q) (y e.flatten+(y c-1)) (Fh c) (LX c) T V hg ?_ ?_ (by omega) (by omega) (by omega) (by omega) (by omega) (by omega) (by omega)<|by omega).mono ?_
 .rw[Ic k];grind
 .rw[LW k];exact W _ _ c1
 .rintro aa A⟨rfl,⟨l,m,hv,hx⟩,ht⟩;refine⟨rfl,⟨l,m,?_,hx⟩,ht⟩;have K:y (e++[c]).flatten=b:=by rw[j];simp
  have N:bW 0 (e++[c])=bW 0 e++[⟨y<|dK e,y (fP c)+4,b-y e.flatten,Fh c,LX c⟩]:=by
   rw[Dg,j,vt,dE];rfl
  rw[K,N,Pj];exact hv
def fc.base{c base':M}(h:fc a c d n)(e:base'<=c):fc a base' d n:=fX h e
def fc.Zs(i:fc a b d n)(e:0<y n):∃g c h,d=bD g c (y n) h:=by
 rcases i.bytes.shape with⟨_,f⟩|⟨g,c,h,f,j⟩;rw[f]at e;simp at e;grind
structure Gu(w:Y)(lv:ab)(p:cR)(B:eV)(W:Y):Prop where
 ex:∃cs cur dv pv kv,lG W (z (G w)+8) (z<|G w) (z (G w)+1) (z (G w)+2) (z (G w)+3) (z (G w)+4) (z (G w)+5) lv dv pv kv (y cs.flatten) (y p) (dK cs) (fP cur) (bW 0 cs)/\p=cs.flatten++cur/\(∀c∈cs,0<y c/\y (fP c)+4<=512)/\y (fP cur)+4<=512/\(cur=[]->p=[])/\(cs++[cur]).Pairwise gU/\∀k,B k↔vh (z<|G w) (z (G w)+5) dv pv kv k
 fn:eP W (z (G w)+6) (.func (.func 220) #[] #[aA<|z (G w)+2,aA<|z (G w)+3,aA<|z (G w)+1,aA<|z (G w)+5,aA<|z (G w)+4,aA<|z<|G w]) 1
 aj:Z ay w W
def Gu.lt(l:Gu a d e p A):∀k,p k->z (G a)<=k/\k<z (G A):=by
 obtain⟨i,g,j,n,m,h,_,_,_,_,_,c⟩:=l.ex;exactλk g=>⟨h.low k<|(c k).1 g,h.vP k<|(c k).1 g⟩
def Gu.stays{T:eV}(n:Gu a d e p f)(h:Z T f A)(c:∀k,T k->¬p k/\z (G a)+7<=k):Gu a d e p A:=by
 obtain⟨l,b,m,w,v,u,o,q,r,s,t,i⟩:=n.ex;exact⟨⟨l,b,m,w,v,u.p9 h<|λk g j=>(c k j).1<|(i k).2 g,o,q,r,s,t,i⟩,n.fn.aj h (λj=>by have:=(c _ j).2;omega),n.aj.trans h<|λk g=>.inr (by have:=(c k g).2;omega)⟩
def Qa{w W2 j w6:Y}{K h g i v6:ab}{p gg cur:cR}{cs:dS}{B:eV}(e:lG j (z (G w)+8) (z<|G w) (z (G w)+1) (z (G w)+2) (z (G w)+3) (z (G w)+4) (z (G w)+5) K h g i (y cs.flatten) (y p) (dK cs) (fP cur) (bW 0 cs))(N:eP j (z (G w)+6) (.func (.func 220) #[] #[aA<|z (G w)+2,aA<|z (G w)+3,aA<|z (G w)+1,aA<|z (G w)+5,aA<|z (G w)+4,aA<|z<|G w]) 1)(x:Z ay w j)(F:Z B W2 j)(a:∀k,vh (z<|G w) (z (G w)+5) h g i k->B k\/z (G W2)<=k)(hcut:p=cs.flatten++cur)(m:∀c∈cs,0<y c/\y (fP c)+4<=512)(t:y (fP cur)+y (fP gg)+4<=512)(n:0<y gg)(v:(cs++[cur]).Pairwise gU)(q:gU p gg)(O:w6.ownsRow (z (G w)+8) 5 1 v6 (y (fP cur)+y (fP gg)) ((fP cur).map (Value.int .u8)++(fP gg).map (Value.int .u8)))(C:eE j w6 g v6):(aW w6 (R (z (G w)+2) 0)=H g/\w6.frozen? (R (z (G w)+2) 0)=aX)/\(aW (cq w6 (R (z (G w)+2) 0) v6) (R (z (G w)+5) 0)=H (ar<|y p)/\(cq w6 (R (z (G w)+2) 0) v6).frozen? (R (z (G w)+5) 0)=aX)/\∃E,Gu w K (p++gg) E (cq (cq w6 (R (z (G w)+2) 0) v6) (R (z (G w)+5) 0)<|ar ((y p+y gg:M):X))/\Z B W2 (cq (cq w6 (R (z (G w)+2) 0) v6) (R (z (G w)+5) 0)<|ar ((y p+y gg:M):X))/\∀k,E k->B k\/z (G W2)<=k:=by
 have d:=Z.fH C;have l:=e.p.aj d (e.jP<|by omega).2.1;have f:=e.piece (ps1:=fP<|cur++gg) d C.vp (fc.of O (by rw[yu,af])<|by rw[yu,aP]);have A:=f.at (y p+y gg);have u:∀k,cK g=H k->z (G w)+8<=k:=λk o=>(e.op.lt k o).1;have b:Z (vh (z<|G w) (z (G w)+5) h g i) j (cq (cq w6 (R (z (G w)+2) 0) v6) (R (z (G w)+5) 0)<|ar ((y p+y gg:M):X)):=((d.mono (T:=vh (z<|G w) (z (G w)+5) h g i)<|λk o=>.inl<|.inr<|.inr<|.inl o).setCell _ 0 _<|.inl<|.inl ⟨by omega,by omega⟩).setCell _ 0 _<|.inl<|.inl ⟨by omega,by omega⟩;refine⟨⟨l.cell,l.free⟩,⟨f.t.cell,f.t.free⟩,vh (z<|G w) (z (G w)+5) h v6 i,⟨⟨cs,cur++gg,h,v6,i,by rw[af];exact A,by rw[hcut,bA],m,by rw[yu,af];exact t,λc=>?_,?_,λk=>qY⟩,?_,?_⟩,F.trans b a,?_⟩;rw[mB]at c;rw[c.2]at n;simp at n;obtain⟨Q,_,S⟩:=bQ.1 v;refine bQ.2 ⟨Q,by simp,λc L W P=>?_⟩;rw[dp.1 P];intro V D s r;rcases aG.1 r with r|r;exact S c L cur (by simp) V D s r;exact q V (by rw[hcut];grind[mem_append_left,mem_flatten]) s r
 .exact N.aj b (by
   rintro(⟨_,c⟩|c|c|c)
   .omega
   .have:=(e.od.lt _ c).1;omega
   .have:=u _ c;omega
   .have:=(bM e.ok _ c).1;omega)
 exact x.trans b<|λk o=>.inr<|e.low k o;rintro k(c|c|c|c);exact a k<|.inl c;exact a k<|.inr<|.inl c;rcases C.vp with r|⟨V,r,D⟩;exact a k<|.inr<|.inr<|.inl<|r▸c;rw[r]at c;cases c;exact .inr<|aC F.size D;exact a k<|.inr<|.inr<|.inr c
def Es(L b f:M)(hT:Steps a)(hg:L<z (G a))(hc:∀cw cj,(aK e)[cw]?=H cj->aW a (R L<|b+cw)=H cj)(cs:y e<=f)(dn:0<y e)(Q:∀bf∈e,bf.Good)(hs:dV e)(c:∀L∈im e,y L<=10)(hl:y e<=1000000):cY aZ 159 #[bD L b (y e) f] a λad w'=>∃dv kv o,ad=aM (dq #[dv,kv])/\qo e o/\fc w' (z<|G a) dv (dK o)/\w'.ownsRow (z<|G a) 328 5 kv (y o) (eO<|bW 0 o)/\Z ay a w':=by
 obtain⟨i0,br,ca,cb,cc⟩:=di qi;have bL:=hT.lt;have cr:=AU (bD L b (y e) f) _ _ _ rfl;have hE:kC a (bD L b (y e) f) e:=⟨by rw[fV],.inr ⟨L,b,f,rfl,cs,hc⟩⟩;obtain⟨HT,HC,HG,cl⟩:=fY hT hc Q c;clear hT hc Q c;refine(dP (n:=3)).1 ?_;refine callsIn_of_wp_marks func159 rfl trivial ?_ rfl;simp only[ntmps159,fo,aY,dG,Nat.reduceAdd,Nat.reduceSub,eM,eL,fp,eX,cV,df];have cu:=uV (P:=aZ) (w:=(cN (cN (cN (cN (cN (cN (cN a<|aw #[bD L b (y e) f] 87)<|aw #[az] 103)<|aw #[az] 103)<|aw #[az] 259)<|aw #[ar 0] 3)<|aw #[ar 0] 3)<|aw #[.nilFunc] 1)) (b:=z (G a)+1+1+1+1+1+1) (u:=.nilFunc) (t:=1) (aJ _<|by simp) (.func (.func 220) #[] #[aA<|z (G a)+1+1,aA<|z (G a)+1+1+1,aA<|z (G a)+1,aA<|z (G a)+1+1+1+1+1,aA<|z (G a)+1+1+1+1,aA<|z<|G a]) rfl;gi_wp2_with(refine⟨trivial,?_⟩;gi_at_call 152;refine(dP.2<|cr _).mono ?_;rintro ad w1⟨rfl,rfl⟩)
 clear cu;obtain⟨W0,i⟩:∃W0,(cN (cN (cN (cN (cN (cN (cN (cN a<|aw #[bD L b (y e) f] 87)<|aw #[az] 103)<|aw #[az] 103)<|aw #[az] 259)<|aw #[ar 0] 3)<|aw #[ar 0] 3)<|aw #[.func (.func 220) #[] #[aA<|z (G a)+1+1,aA<|z (G a)+1+1+1,aA<|z (G a)+1,aA<|z (G a)+1+1+1+1+1,aA<|z (G a)+1+1+1+1,aA<|z<|G a]] 1)<|aw #[bD L b (y e) f] 87)=W0:=⟨_,rfl⟩;have dr:z (G W0)=z (G a)+8:=by rw[<-i];simp
 have bT:Z ay a W0:=by rw[<-i];exact(((((((cF ay a).alloc _).alloc _).alloc _).alloc _).alloc _).alloc _).alloc _
 have co:eP W0 (z (G a)+7) (bD L b (y e) f) 87:=by rw[<-i];exact aJ _<|by simp
 have hA0:Gu a (bD L b (y e) f) (io []) (vh (z<|G a) (z (G a)+5) az az az) W0:=by refine⟨⟨[],[],az,az,az,⟨?_,?_,?_,?_,?_,?_,fc.nil _ _,fc.nil _ _,cO _ _ _ _,(by simp[cK]),by omega,by omega⟩,rfl,by simp,by simp[fP],λ_=>rfl,by simp,λk=>qY⟩,?_,bT⟩;rw[<-i];grind[eP.alloc,aJ];rw[<-i];exact eP.alloc (eP.alloc (eP.alloc (eP.alloc (eP.alloc (eP.alloc (aJ _<|by simp) _) _) _) _) _) _;rw[<-i];exact eP.alloc (eP.alloc (eP.alloc (eP.alloc (eP.alloc (aJ _<|by simp) _) _) _) _) _;rw[<-i];exact eP.alloc (eP.alloc (eP.alloc (eP.alloc (aJ _<|by simp) _) _) _) _;rw[<-i];exact eP.alloc (eP.alloc (eP.alloc (aJ _<|by simp) _) _) _;rw[<-i];exact eP.alloc (eP.alloc (aJ _<|by simp) _) _;rw[<-i];exact eP.alloc (aJ _<|by simp) _
 rw[i];refine pj (m:=3) (arg:=Gq<|bD L b (y e) f) (V:=zf) (n0:=z<|G a) (gf:=215) (lb:=#[aA<|z (G a)+7]) (l:=nQ 0<|im e) (S:=λk=>k=z (G a)+7) ?geval (enters_of func215 (by kernel_rfl) rfl) (λ_=>rfl) (wB (z<|G a) 2 co (hE.aj bT<|λk c=>⟨id,(show L=k by simpa[cK]using c)▸hg⟩) (λk c=>(show L=k by simpa[cK]using c)▸hg) (by omega)<|by omega) trivial (by omega) (λk c=>by omega) (λpre bg cf=>Gu a (bD L b (y e) f) (io pre) bg cf) (λ_ _ _ _=>False) _ hA0 (λk c l=>by rcases l with⟨_,l⟩|l|l|l<;>first|omega|(simp[cK]at l)) (λpre bg cf x=>x.lt) ?st (λ_ _ _ _ _ _ h=>h.elim) ?body ?done ?stop;case geval=>rfl
 (case st=>intro pre bg cf q T x g hT;refine x.stays g<|λk c=>⟨(hT k c).1,?_⟩;rcases(hT k c).2 with l|l|l;omega;exact l.elim;omega);(case stop=>grind)
 case body=>
  rintro lr pre⟨cd,g⟩bg cf dm bi bu T x _;obtain⟨hn,ea,c⟩:=Jq hs T;have bp:0<y g:=gl.2 c.ne;have dk:cd+y g+y ea=y e:=by rw[c.all,hn];simp;omega
  have O:=Be hE c.all c.ne;rw[<-hn]at O;unfold Gq;unfold zG at O|-;simp only at O|-;have cE:y g<=10:=cl g (by obtain⟨_,eb,ad⟩:=yT _ _ _ _ _ T;rw[<-ad];simp);have bo:∀bf∈g,bf.Good:=λbf a=>HG bf (by rw[c.all];simp[a]);generalize f-cd=dT at*;obtain⟨HA,HK,HN⟩:=dz x c hn;clear x T c hn;gi_wp2;refine⟨Z.refl _ _,λW2 bc=>?_⟩;have hA2:=HA.stays bc (λk c=>by grind);have ba:kC W2 (bD L (b+cd*4) (y g) dT) g:=O.aj hA2.aj<|λk c=>(show L=k by simpa[cK]using c)▸⟨id,hg⟩;have bx:=Er ba (λk c=>(show L=k by simpa[cK]using c)▸ag hg hA2.aj.size) bo (by omega);obtain⟨o,d,dv,pv,kv,hv,hcut,t,w,K,u,hB⟩:=hA2.ex;have cp:0<y (fP g)/\y (fP g)<=350:=by
   have h1:=Qq bo;have W:=JH g;omega
  obtain⟨px,pc,bE⟩:=aB hv.op;obtain⟨ch,hb⟩:∃ch,y (fP g)=ch:=⟨_,rfl⟩;obtain⟨ck,ha⟩:∃ck,y (fP d)=ck:=⟨_,rfl⟩;rw[hb]at cp;rw[ha]at bE w;obtain⟨HV,HF,aU,an,HB,C⟩:=lf hv hA2.fn hA2.aj bc hB hcut;obtain⟨D,cx,bh,Hb,Ha,cT⟩:=lf t K u hb ha ba;clear hA2 ba O hv hcut t K u hB hb ha bc;subst bE;gi_wp2_with fail
  refine⟨trivial,(CallsIn.inRound lr<|dP.2 bx).mono ?_⟩;rintro ad B⟨b2,rfl,bb,n⟩;obtain⟨cm,F,cn,bl⟩:=bb.Zs (by rw[J Hb];omega);rw[J Hb]at bl;subst bl;have j:=HV.aj n;have bn:=HF.aj n id;have y5:=j.p.cell;have y9:=bn.cell;obtain⟨al,aF,q⟩:=dz j bb n;clear j bn bb n bx;have av:lr<z (G W2):=ag bu.1 an.size;have dc:z (G cf)<=z (G W2):=an.size;have bv:y (io pre)=cd:=HN.symm;by_cases cB:(512:X)<(ck:X)+ch+4
  .have ao:0<y d:=by
    rcases gB (y d)with l|l
    .obtain rfl:=aL l;have:=J Ha;simp[fP]at this;omega
    .exact l
   have au:=HK.all;have aa:Z ay a B:=aU.cz q;have s:=Qp L b f e o d al (HT.below (aa.below (ah _) cL) bL) hg (λcw cj hj=>aa.cell (HC cw cj hj) id hg) (by rw[au,bA,kS];exact C) (by omega) ao hl D (by rw[J Ha];exact w);clear aa au;gi_wp2_with fail
   refine⟨trivial,(CallsIn.inRound lr<|dP.2<|Ef ((ck:X)+ch) _ (by omega)<|by omega).mono ?_⟩;rintro ad w4⟨rfl,cv⟩;subst w4;gi_wp2_with fail
   refine⟨trivial,(CallsIn.inRound lr<|dP.2 s).mono ?_⟩;rintro ad w5⟨rfl,⟨db,ds,ap,bm,bs⟩,W⟩;have r:∀k,vh (z<|G a) (z (G a)+5) dv (I px ck pc) kv k->bg k:=λk c=>(HB k).2 c;have bq:=HV.vP;have bt:=HV.low;have bk:fc w5 (z<|G W2) (bD cm F ch cn) (fP g):=W.own aF (λk c l=>by have:=bq k l;have:=(aF.lt k c).1;omega);have bd:=ap.size;have y6:=ap.p.cell;have cM:=q.size;have u:=J bh;have aD:=U<|tX bk.bytes;have aV:=U (λ(v6:ab)(w6:Y)ho hw=>Qa (w:=a) (w6:=w6) (v6:=v6) (p:=io pre) (cs:=o++[d]) (cur:=[]) (gg:=g) (B:=bg) (W2:=W2) ap ((HF.aj q id).aj W (by
    rintro(⟨_,l⟩|l|l|l)
    .omega
    .have:=(HV.od.lt _ l).1;omega
    .have:=(HV.op.lt _ l).1;omega
    .have:=(bM HV.ok _ l).1;omega))
    ((aU.cz q).trans W<|λk c=>.inr<|bt k c) ((q.mono cL).trans W<|λk c=>.inl<|r k c)
    (by
     rintro k(l|l|l|l)
     .exact .inl<|r k<|.inl l
     .rcases bm k l with ad|ad
      .exact .inl<|r k<|.inr<|.inl ad
      grind
     .simp[cK]at l
     .rcases bs k l with ad|ad
      .exact .inl<|r k<|.inr<|.inr<|.inr ad
      grind)
    (by rw[J C];simp) (by
     intro l hc;rcases aG.1 hc with hc|hc
     .exact D l hc
     grind[mem_singleton,J])
    (by rw[J Hb];simp[fP];omega) bp (bQ.2 ⟨u,by simp,λbf _ ce a=>by rw[dp.1 a];intro _ _ dx hz;cases hz⟩) HK.low ho hw)
   clear ap bm bs W r bq bt bk u s y5 y9;gi_wp2_with(first
    |(gi_at_builtin;refine fi _ rfl (.tmp 27) (.tmp 28) 103 rfl (z (G a)+8) 5 i0 (.int .u8 0) 1 1 underlying103 br ca cb cc rfl (by decide) _ 0 ((fP []).map (Value.int .u8)) rfl (cO _ _ _ _) (R cm F) ch cn ((fP g).map (Value.int .u8)) rfl (by rw[dj,J Hb,rB]) aD (by intro cj hu;simp only[bR]at hu;obtain⟨ce,_,rfl⟩:=hu;rfl) (by omega) (by omega) bd ?_;intro v6 w6 v ac;obtain⟨⟨y0,y1⟩,⟨y2,y3⟩,B2,hP,A,N⟩:=aV v6 w6 (by rw[J Hb];exact v) ac;obtain⟨x6,c6,rfl⟩:=aB v;simp only[dE]at y2 y3 hP A;rw[bv]at y2;have HP:=U hP;have E:=U A;have ax:=U N;clear v ac hP A N))
   have e1:io (pre++[(cd,g)])=io pre++g:=tT _ _ _;have e2:((cd:X)+y g)=((y (io pre)+y g:M):X):=by omega
   rw[e2];refine⟨trivial,B2,?_,(an.mono<|λk c=>.inl<|.inr c).trans E<|λk c=>.inl<|.inl c,E.block lr av bi,λk c=>(ax k c).imp_right<|λl=>by omega⟩;show Gu a _ (io<|pre++[(cd,g)]) B2 _;rw[e1];exact HP
  .have r:∀k,vh (z<|G a) (z (G a)+5) dv (I px ck pc) kv k->bg k:=λk c=>(HB k).2 c;have bd:=al.size;have aD:=U<|tX aF.bytes;have aV:=U<|λ(v6:ab)(w6:Y)ho hw=>Qa (w:=a) (w6:=w6) (v6:=v6) (p:=io pre) (cs:=o) (cur:=d) (gg:=g) (B:=bg) (W2:=W2) al (HF.aj q id) (aU.cz q) (q.mono cL) (λk c=>.inl<|r k c) C D (by rw[J Ha,J Hb];omega) bp bh HK.low ho hw;clear r y9;gi_wp2_with fail
   refine⟨trivial,(CallsIn.inRound lr<|dP.2<|Ef ((ck:X)+ch) _ (by omega)<|by omega).mono ?_⟩;rintro ad w4⟨rfl,cv⟩;subst w4;gi_wp2_with(first
    |(gi_at_builtin;refine fi _ rfl (.tmp 27) (.tmp 28) 103 rfl (z (G a)+8) 5 i0 (.int .u8 0) 1 1 underlying103 br ca cb cc rfl (by decide) _ ck ((fP d).map (Value.int .u8)) rfl (by have W:=al.op;unfold fc at W;rw[J Ha]at W;exact W) (R cm F) ch cn ((fP g).map (Value.int .u8)) rfl (by rw[dj,J Hb,rB]) aD (by intro cj hu;simp only[bR]at hu;obtain⟨ce,_,rfl⟩:=hu;rfl) (by omega) (by omega) bd ?_;intro v6 w6 v ac;obtain⟨⟨y0,y1⟩,⟨y2,y3⟩,B2,hP,A,N⟩:=aV v6 w6 (by rw[J Ha,J Hb];exact v) ac;obtain⟨x6,c6,rfl⟩:=aB v;rw[bv]at y2;have HP:=U hP;have E:=U A;have ax:=U N;clear v ac hP A N))
   have e1:io (pre++[(cd,g)])=io pre++g:=tT _ _ _;have e2:((cd:X)+y g)=((y (io pre)+y g:M):X):=by omega
   rw[e2];refine⟨trivial,B2,?_,(an.mono<|λk c=>.inl<|.inr c).trans E<|λk c=>.inl<|.inl c,E.block lr av bi,λk c=>(ax k c).imp_right<|λl=>by omega⟩;show Gu a _ (io<|pre++[(cd,g)]) B2 _;rw[e1];exact HP
 (case done=>intro W bg cf aD x E _ hK;obtain⟨o,d,dv,pv,kv,hv,hcut,t,w,K,u,hB⟩:=x.ex;rw[Bb]at hcut K hv;(have ao:0<y d:=by grind);have s:=Qp L b f e o d hv (HT.below (x.aj.below (ah _) cL) bL) hg (λcw cj hj=>x.aj.cell (HC cw cj hj) id hg) (by rw[bI];exact hcut) (ah _) ao hl t w;have r:¬vh (z<|G a) (z (G a)+5) dv pv kv W:=λl=>E<|(hB W).2 l;have HX:=U (show∀B g q,lG B (z (G a)+8) (z<|G a) (z (G a)+1) (z (G a)+2) (z (G a)+3) (z (G a)+4) (z (G a)+5) (bD L b (y e) f) g az q (y (o++[d]).flatten) (y e) (dK<|o++[d]) (fP []) (bW 0<|o++[d])->Z (vh (z<|G a) (z (G a)+5) dv pv kv) cf B->(∀bf,cK g=H bf->cK dv=H bf\/z (G cf)<=bf)->(∀bf,cK q=H bf->cK kv=H bf\/z (G cf)<=bf)->(fc B (z<|G a) g (dK<|o++[d])/\B.ownsRow (z<|G a) 328 5 q (y<|o++[d]) (eO<|bW 0<|o++[d]))/\Z ay a B/\B.heap[W]?=H (.deferred<|H [])/\cK g≠H W/\cK q≠H W from by intro B g q j n hd c;have h1:=j.ok;rw[jX]at h1;have F:=ak hK;exact⟨⟨j.od.base (by omega),fX h1<|by omega⟩,x.aj.trans n<|λk c=>.inr<|hv.low k c,(n.block W F r).trans hK,λl=>by rcases hd W l with ad|ad;exact r<|.inr<|.inl ad;omega,λl=>by rcases c W l with ad|ad;exact r<|.inr<|.inr<|.inr ad;omega⟩);have au:=x.fn.cell;have HP:=U<|show qo e (o++[d])from⟨by rw[hcut];simp,λl hc=>by grind,u⟩;clear x hcut t K u hB hv E r ao;generalize o++[d]=ap at*;(gi_wp2_with fail);refine⟨trivial,(dP.2 s).mono ?_⟩;rintro ad B⟨rfl,⟨g,q,j,N,O⟩,n⟩;have z1:=j.d.cell;have z2:=j.k.cell;obtain⟨⟨v,A⟩,T,C,av,ax⟩:=HX B g q j n N O;obtain⟨x4,c4,rfl⟩:=aB v;obtain⟨x5,c5,rfl⟩:=aB A;obtain⟨aa,ac,al,an⟩:=fY v A T C;have F:=ak C;clear j n v A T C N O au s hK;(gi_wp2_with fail);refine sS.2 ?_;(go_quiet(fail));gi_wp2;refine⟨by simp,.inl ⟨_,_,rfl,run_takeDeferred an,?_⟩⟩;refine⟨_,pK rfl _ _ _,?_⟩;have D:=(iY (λk=>k=W) B nq).trans (gF (B.drewN nq) W<|.deferred none)<|λ_ h=>.inl h;exact⟨_,_,ap,rfl,HP,D.own aa<|λk c l=>av (by rw[<-l];exact c),D.own ac<|λk c l=>ax (by rw[<-l];exact c),al.trans D<|λk c=>.inr<|by omega⟩)
end
structure Iv(w0 w:Y)(x:M)(k:rp)(o:ab)(bs:eR):Prop where
 own:fc w (z<|G w0) o bs
 box:Ad w x k
 ne:cK o≠H x
 aj:Z ay w0 w
def Iv.wrote{o:rp}{c:eR}(h:Iv a f b o d n)(g:eE f A d s)(k:fc A (z<|G a) s c):Iv a A b o s c:=by
 have i:=ak h.box;refine⟨k,h.box.aj (Z.ee (S:=λj=>cK d=H j) g.grown<|λ_ e=>.inl e) h.ne,λe=>?_,h.aj.trans (Z.ee (S:=λj=>cK d=H j) g.grown<|λ_ e=>.inl e)<|λj e=>.inr (h.own.lt j e).1⟩;rcases g.vp with m|⟨l,m,p⟩;exact h.ne<|m.symm.trans e;grind
def Iv.size{x:M}{k:rp}(h:Iv a A x k d n):z (G a)<=z (G A):=h.aj.size
structure rp.Fits(k:rp):Prop where
 size:k.size<=1000000
 count:k.count<=1000000
 first:k.first.size<=255
 last:k.last.size<=255
def Mm{k:rp}(h:k.Fits):y (vO k)<=520:=by
 have:=h.first;have:=h.last;simp[vO,eF,cH,ic];omega
def mF{ks:mq}(h:∀k∈ks,k.Fits):y (ks.flatMap vO)<=520*y ks:=by
 induction ks with
 |nil=>simp
 |cons k ks b=>
  have a:=Mm (h k<|by simp);have c:=b (λj a=>h j<|by simp[a]);rw[dU,af,aY];omega
def tD{n:X}(a:0<=n)(b:n<4294967296):IntKind.u32.wrap n=n:=by rw[IntKind.wrap_u32];omega
def IU(a:mq)(E f k:M)(w:Y)(hb:E<z (G w))(hc:∀L al,(eO a)[L]?=H al->aW w (R E<|f+L)=H al)(hl:y a<=1000000)(o:∀V∈a,V.Fits):cY aZ 225 #[bD E f (y a) k] w λK w'=>∃v',K=aM v'/\fc w' (z<|G w) v' (fI a)/\Z ay w w':=by
 have u:=jv (baseqq:=z<|G w) (v:=az) (bs:=[]) (y a:M) (w:=w) (fc.nil _ _) (ah _) (by simp) (by omega) (by omega);have e0:=tD (n:=(y a:M)) (by omega) (by omega);have HC:=U hc;have HK:=U o;clear hc o;go_in
 go_wp2_with(go_at_call 181;refine u.mono ?_;rintro K w1⟨v1,rfl,g,i⟩;have N:=U g;have O:=U i;clear g i)
 go_loopw [3,12] (λo i wr=>∃n:M,n<=y a/\i=ar n/\fc wr (z<|G w) o (le 4 (y a)++(a.take n).flatMap vO)/\Z ay w wr) (λ_ i _=>y a-(intOf i).toNat)
 case atStart=>exact⟨0,bP _,rfl,by simpa using J N,Z.ee (S:=ay) O.grown (by intro V o;simp[cK]at o)⟩
 (case round=>obtain⟨n,hn,rfl,c,e⟩:=hrel;have ad:=e.size;by_cases l:n<y a;(.have m:∀L ac,L<5->(rp.cells a[n])[L]?=H ac->aW wr (R E<|f+n*5+L)=H ac:=λL ac b c=>e.cell (by rw[bw];exact HC _ _<|(iG a n L l b).trans c) (λd=>d) hb;have t:=HK a[n]<|aq l;(have aa:y (le 4 (y a)++(a.take n).flatMap vO)<=600000000:=by have h1:=mF (ks:=a.take n)<|λV o=>HK V<|dZ o;grind[length_append,cH]);have HS:=U (show(le 4 (y a)++(a.take n).flatMap vO)++vO a[n]=le 4 (y a)++(a.take<|n+1).flatMap vO from by rw[bA,ai l,fG];simp);generalize a[n]=V at*;generalize le 4 (y a)++(a.take n).flatMap vO=F at*;obtain⟨pos,d,b,first,j⟩:=V;have p0:=m 0 _ (by omega) rfl;have p1:=m 1 _ (by omega) rfl;have p2:=m 2 _ (by omega) rfl;have p3:=m 3 _ (by omega) rfl;have p4:=m 4 _ (by omega) rfl;clear m;simp only[kH]at p0 p1 p2 p3 p4;have f1:=t.size;have f2:=t.count;have f3:=t.first;have f4:=t.last;simp only at f1 f2 f3 f4;have e1:=tD (n:=(d:M)) (by omega) (by omega);have e2:=tD (n:=(b:M)) (by omega) (by omega);have hA:Iv w (cN wr<|aw #[ar pos,ar d,ar b,am first,am j] 328) (z<|G wr) ⟨pos,d,b,first,j⟩ u3 F:=⟨c.alloc _,aJ _ rfl,λK=>by have:=(c.lt _ K).2;omega,e.alloc _⟩;have W:=U hA;clear c e t hA;(go_wp2_with fail);refine(jv (d:M) W.own (by simp;omega) (by omega) (by omega)<|by omega).mono ?_;rintro K w1⟨v1,rfl,g,i⟩;have hA1:=W.wrote i g;obtain⟨k0,k1,k2,k3,k4⟩:=hA1.box.cells;simp only at k0 k1 k2 k3 k4;have P:=hA1.size;have p:=U hA1;clear hA1 g i;(go_wp2_with fail);refine(jv (b:M) p.own P (by rw[af,cH];omega) (by omega)<|by omega).mono ?_;rintro K w2⟨v2,rfl,v,B⟩;have hA2:=p.wrote B v;obtain⟨m0,m1,m2,m3,m4⟩:=hA2.box.cells;simp only at m0 m1 m2 m3 m4;have Q:=hA2.size;have q:=U hA2;clear hA2 v B;(go_wp2_with fail);refine(pu (z<|G w) v2 ((F++le 4 d)++le 4 b) first _ q.own Q (by rw[af,af,cH,cH];omega) f3).mono ?_;rintro K w3⟨v3,rfl,x,C⟩;have hA3:=q.wrote C x;obtain⟨q0,q1,q2,q3,q4⟩:=hA3.box.cells;simp only at q0 q1 q2 q3 q4;have T:=hA3.size;have r:=U hA3;clear hA3 x C;(go_wp2_with fail);refine(pu (z<|G w) v3 (((F++le 4 d)++le 4 b)++(first.size:X)::kR first) j _ r.own T (by grind[length_append,cH,length_cons,ic]) f4).mono ?_;rintro K w4⟨v4,rfl,A,D⟩;have hA4:=r.wrote D A;have s:=U hA4;clear hA4 A D;go_wp2;go_roundw;(case rel=>refine⟨n+1,l,by go_num,?_,s.aj⟩;rw[<-J HS];have:=s.own;simpa[vO,eF]using this);case measure=>simp[intOf];omega);(have b:n=y a:=by omega);subst b;rw[bI]at c;have d:=U c;have j:=U e;clear c e;go_wp2;go_ret;exact⟨_,rfl,d,j⟩)
structure rp.Can(k:rp):Prop where
 size:k.size<=512
 c1:1<=k.count
 c2:k.count<=100
 f1:1<=k.first.size
 f8:k.first.size<=8
 l1:1<=k.last.size
 l8:k.last.size<=8
 le:ja k.last k.first=aX
def OR:(prog.info? 328).map (λi=>(i.zero,i.size,i.bytes))=H (H<|dC #[ar 0,ar 0,ar 0,am ⟨#[]⟩,am ⟨#[]⟩],5,56):=by kernel_rfl
def TM(x c d u v:ab)(t:TypeId)(e:b=z (G a)):∀j q,[x,c,d,u,v][j]?=H q->aW (cN a<|aw #[x,c,d,u,v] t) (((R b 0):Addr).add j)=H q:=by
 intro j q f;subst e;rw[dB];simp_all
def TO(a:mq)(k:rp):eO (a++[k])=eO a++[ar k.pos,ar k.size,ar k.count,am k.first,am k.last]:=by simp[eO,rp.cells]
def Jl(a b:ae):(Op.bytesLess a.toList b.toList||a.toList==b.toList)=!ja b a:=by rw[<-Qo];simp
def Yb(t:TypeId)(a b:ae):binOp .leq t (am a) (am b)=pure (aN<|Op.bytesLess a.toList b.toList||a.toList==b.toList):=by simp[binOp,Op.stringOp]
def Hu(s:ae)(w:Y)(b:1<=s.size)(c:s.size<=8):cY aZ 70 #[am s] w λe a=>e=aM (aN ci)/\a=w:=by
 grind[qQ]
def VN(k:rp)(w:Y)(h:k.Can):cY aZ 194 #[k.value] w λo p=>o=aM (aN ci)/\p=cN w (aw #[ar k.pos,ar k.size,ar k.count,am k.first,am k.last] 328):=by
 obtain⟨pos,j,b,first,a⟩:=k;have l:=h.size;have m:=h.c1;have n:=h.c2;have e:=h.f1;have f:=h.f8;have g:=h.l1;have i:=h.l8;have q:(Op.bytesLess first.toList a.toList||first.toList==a.toList)=ci:=by rw[Jl];simp only[h.le];rfl
 simp only at l m n e f g i;unfold rp.value;simp only;clear h;go_in
 go_wp2_with fail
 apply(Hu first _ e f).mono;rintro o d⟨rfl,c⟩;subst d;go_wp2_with fail
 apply(Hu a _ g i).mono;rintro o d⟨rfl,c⟩;subst d;go_wp2;go_ret;simp_all
def tE(a:mq):M:=(a.map rp.size).sum
def sg(a:mq):M:=(a.map rp.count).sum
def jp(a:mq):ae:=(a.getLast?.map rp.last).getD ⟨#[]⟩
structure Kg(ks:mq):Prop where
 ne:1<=y ks
 len:y ks<=100
 can:∀k∈ks,k.Can
 MO:sg ks<=100
 pos:∀n(h:n<y ks),ks[n].pos=tE (ks.take n)
 M2:∀n(h:n<y ks),ja (jp<|ks.take n) ks[n].first=ci
def NI(a:mq)(k:rp):tE (a++[k])=tE a+k.size:=by simp[tE]
def Cj(a:mq)(k:rp):sg (a++[k])=sg a+k.count:=by simp[sg]
def EY(a:mq)(k:rp):jp (a++[k])=k.last:=by simp[jp]
def Ci(a:mq)(n:M):sg (a.take n)<=sg a:=by
 have h:=bS (λl=>(l.map rp.count).sum)<|bV n a;simp only[aP,fw]at h;unfold sg;omega
def KF{ks:mq}(h:∀k∈ks,k.Can):tE ks<=512*y ks:=by
 induction ks with
 |nil=>simp[tE]
 |cons k ks b=>
  have a:=(h k<|by simp).size;have c:=b (λj a=>h j<|by simp[a]);unfold tE at*;grind
def rp.Can.fits{k:rp}(h:k.Can):k.Fits:=⟨by have:=h.size;omega,by have:=h.c2;omega,by have:=h.f8;omega,by have:=h.l8;omega⟩
def AW(s:ae)(b:s.size<=255):kh (eF s):=by
 intro x a;unfold eF at a;rcases bJ.1 a with rfl|a;omega;exact kh.text s x a
def VJ{k:rp}(h:k.Fits):kh (vO k):=(kh.le 4 _).append<|(kh.le 4 _).append<|(AW _ h.first).append<|AW _ h.last
def Jv(h:∀k∈C,k.Fits):kh (C.flatMap vO):=by
 intro x a;obtain⟨k,b,a⟩:=lS.1 a;exact VJ (h k b) x a
structure Kf(w0 w:Y)(rb:M)(num cut isz sum:X)(ks:mq)(o:ab)(n:M):Prop where
 own:w.ownsRow (z<|G w0) 328 5 o n (eO<|ks.take n)
 rd:Rd w rb ((ks.drop n).flatMap vO) aX
 box:w.heap[z<|G w0]?=H (aw #[aE num,dA cut,dA isz,dA sum] 185 (0,0))
 aj:Z ay w0 w
 UE:z (G w0)<rb
 wU:∀k,cK o=H k->rb<k
def DQ(dv m K:M)(num:X)(hT:Steps a)(hP:Kg C)(hb:Bytes a (bD dv m (y<|fI C) K) (fI C)):cY aZ 140 #[bD dv m (y<|fI C) K,dC #[aE num,dA (tE C:M),dA (y (fI C):M),dA<|mV<|fI C]] a λP w'=>
 ∃b,P=aM (dq #[b,aN ci])/\w'.ownsRow (z<|G a) 328 5 b (y C) (eO C)/\Z ay a w':=by
 have t:∀l∈C,l.Fits:=λl j=>(hP.can l j).fits
 have cw:y (fI C)<=52004:=by
  have h1:=mF t;have b:=hP.len;unfold fI;rw[af,cH];omega
 have bm:0<y (fI C):=by unfold fI;rw[af,cH];omega
 have db:tE C<=51200:=by have:=KF hP.can;have:=hP.len;omega
 obtain⟨i0,bl,bT,ca,cd⟩:=di OR
 obtain⟨aF,hL⟩:∃aF,y (fI C)=aF:=⟨_,rfl⟩
 obtain⟨aU,hS⟩:∃aU,tE C=aU:=⟨_,rfl⟩
 obtain⟨ce,hN⟩:∃ce,y C=ce:=⟨_,rfl⟩
 rw[hL]at cw bm
 rw[hS]at db
 rw[hL,hS]
 have e1:IntKind.i64.wrap (aF:X)=aF:=by rw[bN];omega
 have e2:IntKind.i64.wrap (aU:X)=aU:=by rw[bN];omega
 have bv:∀cr,cr.heap=(cN a<|aw #[aE num,dA aU,dA aF,dA<|mV<|fI C] 185).heap->cY aZ 146 #[bD dv m aF K] cr λP w'=>P=aM (dA<|mV<|fI C)/\w'=cr:=by
  intro cr b;refine sU _ (fI C) cr ((hT.alloc _).of_heap b) ?_ (by omega);rw[<-hL];exact(hb.alloc _).of_heap b
 have dT:dv<z (G a):=hb.lt (by grind) dv rfl
 obtain⟨HB,HT,HP,HF,HL,HS,HN⟩:=zo hb hT hP t hL hS hN
 clear hb hT hP t hL hS hN
 generalize mV (fI C)=dx at*
 go_in
 go_wp2_with fail
 go_quiet(first|(go_at_call 146;refine Calls.quiet_of_same (bv _ rfl)))
 have L:∃f,(cN a<|aw #[aE num,dA aU,dA aF,dA dx] 185).drewN nq=f/\Z ay a f/\f.heap[z<|G a]?=H (aw #[aE num,dA aU,dA aF,dA dx] 185 (0,0))/\Bytes f (bD dv m aF K) (fI C)/\z (G a)<z (G f):=by
  refine⟨_,rfl,(cF ay a).of_heap rfl,aJ _ rfl,?_,by simp⟩;have:=HB.alloc<|aw #[aE num,dA aU,dA aF,dA dx] 185;rw[J HL]at this;exact this.of_heap rfl
 obtain⟨f,L,bE,bp,bg,cb⟩:=L
 rw[L]
 have cE:=mY bg (by intro l j;cases j;grind)
 have cp:=U bE
 have bb:=U bp
 clear L bE bp bg
 go_wp2_with fail
 apply cE.mono
 rintro P w2⟨rfl,V,aD⟩
 subst aD
 have cs:=HP.ne
 have cu:=HP.len
 rw[J HN]at cs cu
 have S:fI C=le 4 (ce:M)++C.flatMap vO:=by unfold fI;rw[J HN]
 have dr:=sF (z<|G f) (ce:M) (C.flatMap vO) _ (S▸V) (Jv HF) (by have:=mF HF;rw[J HN]at this;omega) (by omega)<|by omega
 clear V S
 go_wp2_with fail
 apply dr.mono
 rintro P w3⟨rfl,W,au⟩
 have co:=U W
 have cj:=U au
 have ds:=au.size
 simp at ds
 clear W au
 go_wp2_with(first
  |(at_make;go_loud(refine kr _ rfl _ _ 259 rfl (z (G a)) 328 i0 (.agg #[.int .i64 0,.int .i64 0,.int .i64 0,.string ⟨#[]⟩,.string ⟨#[]⟩]) 5 underlying259 bl bT ca _ _ _ ce rfl rfl (by omega) (by rw[cd];omega) (by unfold maxLen;omega) (by omega) ?_;intro w4 T Q;have cm:=U T;have ac:=U Q;clear T Q)))
 have ei:=ac.size
 have hA0:Kf a w4 (z<|G f) num aU aF dx C (bD (z<|G w3) 0 0 ce) 0:=by
  have c:Z (λl=>l=z (G f)) f w3:=(cF (λl=>l=z (G f)) f).trans (fA cj)<|λ_ h=>.inl h;have b:Z (λl=>l=z (G f)) f w4:=c.cz (Z.ee (S:=ay) ac<|by simp);refine⟨cm,co.laid ac,(b.block _ (ak bb) (by intro P;omega)).trans bb,cp.trans b (λl j=>.inr<|by omega),cb,?_⟩;intro l j;simp[cK]at j;omega
 have cf:=U hA0
 clear hA0
 go_loopw [8,9,10,11,39] (λo p q l i wr=>∃n:M,n<=ce/\i=dA n/\p=ar (tE (C.take n):M)/\q=ar (sg (C.take n):M)/\l=am (jp<|C.take n)/\Kf a wr (z<|G f) num aU aF dx C o n) (λ_ _ _ _ i _=>ce-(intOf i).toNat)
 case atStart=>exact⟨0,bP _,rfl,rfl,rfl,rfl,cf⟩
 case round=>
  obtain⟨n,ef,rfl,rfl,rfl,rfl,e⟩:=hrel;have s:=e.own;obtain⟨ox,oc,ho⟩:=aB s;have ed:=e.rd.lt;have ej:=e.aj.size;have ap:=Ci C n;have cv:=HP.MO;by_cases bo:n<ce
  .have p:n<y C:=by rw[J HN];exact bo
   have g:=HP.can C[n]<|aq p;have B:=HP.pos n p;have x:=HP.M2 n p;have k:=e.rd;rw[bG p,dU]at k;have A:kh ((C.drop<|n+1).flatMap vO):=Jv<|λl j=>HF l<|dQ j;have cB:y ((C.drop<|n+1).flatMap vO)<=52000:=by
    have h1:=mF (ks:=C.drop<|n+1)<|λl j=>HF l<|dQ j;grind[J]
   have D:C.take (n+1)=C.take n++[C[n]]:=ai p;have aa:tE (C.take n)<=51200:=by
    have h1:=KF (ks:=C.take n)<|λl j=>HP.can l<|dZ j;grind
   rw[<-B]at aa|-;have bd:=U B;have F:=U D;generalize C[n]=l at*;generalize hR:(C.drop<|n+1).flatMap vO=ao at*;have HR:=U hR;clear hR;have u:=λcr=>VN l cr g;have cx:=g.fits;obtain⟨pos,d,b,first,c⟩:=l;have f1:=g.size;have f2:=g.c2;have f3:=g.f8;have f4:=g.l8;simp only at f1 f2 f3 f4 aa x;unfold vO at k;simp only[bA]at k;unfold rp.value at u;simp only at u;have a8:(Op.bytesLess first.toList (jp<|C.take n).toList||first.toList==(jp<|C.take n).toList)=aX:=by rw[Jl,x];rfl
   have av:kh (eF c++ao):=(AW _<|by omega).append A;have ax:kh (eF first++(eF c++ao)):=(AW _<|by omega).append av;have bn:kh (le 4 b++(eF first++(eF c++ao))):=(kh.le 4 _).append ax;have ea:y (eF c)<=9:=by unfold eF;rw[aY,ic];omega
   have eb:y (eF first)<=9:=by unfold eF;rw[aY,ic];omega
   have e3:IntKind.i64.wrap (d:X)=d:=by rw[bN];omega
   have e4:IntKind.i64.wrap (b:X)=b:=by rw[bN];omega
   have dk:=sF (z<|G f) (d:M) _ wr k bn (by grind[length_append,cH]) (by omega) (by omega);obtain⟨ck,cl,ba,HA,bc⟩:=iO av ax A e (show∀(x:Bool)(a:Y),(Op.unary .not<|aN x).run aZ a=.ok (aN<|!x) a fromλ_ _=>rfl);clear e s k av ax bn A g x cx B D;subst ho;generalize jp (C.take n)=ll at*;obtain⟨cc,v⟩:∃cc,sg (C.take n)=cc:=⟨_,rfl⟩;rw[v]at ap|-;have ch:=U v;clear v;go_wp2_with fail
   apply dk.mono;rintro P w5⟨rfl,br,bh⟩;have aD:=sF (z<|G f) (b:M) _ w5 br cl (by simp only[af];omega) (by omega) (by omega);have ad:=U bh;clear br bh;go_wp2_with fail
   apply aD.mono;rintro P w6⟨rfl,bs,bi⟩;have dm:=PK (z<|G f) first w6 bs ck (by simp only[af];omega) (by omega)
   have al:=U bi;clear bs bi;go_wp2_with fail
   apply dm.mono;rintro P w7⟨rfl,bt,bk⟩;have dn:=PK (z<|G f) c w7 bt ba (by omega) (by omega);have an:=U bk;clear bt bk;go_wp2_with fail
   apply dn.mono;rintro P w⟨rfl,bu,O⟩;have HX:=U (show∀o2 o,o.ownsRow (z<|G a) 328 5 o2 (n+1) (eO (C.take n)++[ar pos,ar d,ar b,am first,am c])->eE (cN (cN (cN w<|aw #[ar pos,ar d,ar b,am first,am c] 328)<|aw #[ar pos,ar d,ar b,am first,am c] 328)<|aw #[ar pos,ar d,ar b,am first,am c] 328) o (I ox n oc) o2->Ad o (z<|G w) ⟨pos,d,b,first,c⟩/\Kf a o (z<|G f) num aU aF dx C o2 (n+1)from by
    intro o2 o r i;have e:=J HA;have E:Z (λl=>l=z (G f)) wr w:=(((fA ad).trans (fA al)<|λ_ h=>.inl h).trans (fA an)<|λ_ h=>.inl h).trans (fA O)<|λ_ h=>.inl h;have bx:=E.size;have bq:=e.own.lt;have bL:Z (λl=>cK (I ox n oc)=H l) w o:=((((Z.refl (λl=>cK (I ox n oc)=H l) w).alloc _).alloc _).alloc _).trans (Z.fH i)<|λ_ h=>.inl h;have N:Ad (cN w<|aw #[ar pos,ar d,ar b,am first,am c] 328) (z<|G w) ⟨pos,d,b,first,c⟩:=aJ _ rfl;have dc:Z (λl=>cK (I ox n oc)=H l) (cN w<|aw #[ar pos,ar d,ar b,am first,am c] 328) o:=(((Z.refl (λl=>cK (I ox n oc)=H l) _).alloc _).alloc _).trans (Z.fH i)<|λ_ h=>.inl h;have bf:=e.wU;refine⟨N.aj dc (λP=>by have:=(bq _ P).2;omega),?_,?_,?_,?_,e.UE,?_⟩
    .rw[J F,TO];exact r
    .have cM:=((bu.laid<|dD w (aw #[ar pos,ar d,ar b,am first,am c] 328) none).laid<|dD _ (aw #[ar pos,ar d,ar b,am first,am c] 328) none).laid<|dD _ (aw #[ar pos,ar d,ar b,am first,am c] 328) none;have cT:=cM.wrote i bf;rw[J HR];exact cT
    .exact(bL.block _ (by omega) (λP=>by have:=bf _ P;have:=e.UE;omega)).trans<|(E.block _ (ak e.box) (λP=>by have:=e.UE;omega)).trans e.box
    .exact(e.aj.trans E<|λl j=>.inr (by have:=e.UE;omega)).trans bL<|λl j=>.inr (bq l j).1
    .intro l j;rcases i.vp with en|⟨em,en,hy⟩
     .simp_all
     .rw[en]at j;cases j;simp at hy;omega)
   have bx:z (G f)<z (G w):=by
    have:=ad.size;have:=al.size;have:=an.size;have:=O.size;omega
   have cn:=U (show w.ownsRow (z<|G a) 328 5 (I ox n oc) n (eO<|C.take n)from by
    have e:=J HA;have E:Z (λl=>l=z (G f)) wr w:=(((fA ad).trans (fA al) (λ_ h=>.inl h)).trans (fA an) (λ_ h=>.inl h)).trans (fA O) (λ_ h=>.inl h);exact E.own e.own (λl j P=>by have:=e.wU l j;omega))
   have ec:=J bc;clear bu O;go_wp2_with fail
   apply(u _).mono;rintro P w9⟨rfl,eg⟩;subst w9;go_wp2_with(first
    |(at_builtin;go_loud(refine cA _ rfl (.tmp 62) (.tmp 64) 259 rfl (z (G a)) 328 i0 (.agg #[.int .i64 0,.int .i64 0,.int .i64 0,.string ⟨#[]⟩,.string ⟨#[]⟩]) 5 56 underlying259 bl bT ca cd rfl (by decide) (.slice ox n oc) n (eO (C.take n)) rfl (aT (aT (aT cn _) _) _) (R (z (G w)+2) 0) 1 1 [.int .i64 pos,.int .i64 d,.int .i64 b,.string first,.string c] rfl rfl (TM _ _ _ _ _ _ (by simp)) (by simp[Value.oneCell']) (by omega) (by omega) (by simp;omega) ?_;intro o2 o r i;obtain⟨N,hA10⟩:=HX o2 o r i;obtain⟨m0,m1,m2,m3,m4⟩:=N.cells;simp only at m0 m1 m2 m3 m4;obtain⟨el,ek,rfl⟩:=aB r;have aV:=U hA10;clear r i hA10 N)))
   go_quiet(fail)
   go_wp2;go_roundw;case rel=>
    refine⟨n+1,bo,by go_num,?_,?_,?_,?_⟩
    .rw[J F,NI,<-J bd];go_num
    .rw[J F,Cj,J ch];go_num
    .rw[J F,EY]
    .have e:=J aV;exact⟨e.own,e.rd,e.box,e.aj.of_heap rfl,e.UE,e.wU⟩
   case measure=>simp[intOf];omega
  .have i:n=ce:=by omega
   subst i;have b:C.take n=C:=by rw[<-J HN,bI]
   have k:=e.rd;have d:C.drop n=[]:=by rw[<-J HN,gv]
   rw[d]at k;have c:=yw k (by simp);simp only[vA,qH,nG,uP]at c;have r:=cellAt e.box 1 rfl;rw[b]at ap|-;rw[J HS];rw[ho,b]at s;have p:=U s;have g:=U e.aj;clear e s k d b;obtain⟨cc,v⟩:∃cc,sg C=cc:=⟨_,rfl⟩;rw[v]at cv ap|-;clear v;have o:((cc:X)<=100)=True:=by simp;omega
   subst ho;go_wp2_with fail
   apply c.mono;rintro P w5⟨rfl,u⟩;subst w5;go_wp2;go_ret2
   exact⟨_,rfl,by rw[J HN];exact p,g⟩
abbrev Fs:=cJ<|ae×eR
variable{F:Fs}
def vw(a:cJ da):Fs:=a.map<|λf=>(f.name,f.bytes)
def dh:Fs->ae->Option eR
 |[],_=>none
 |f::r,n=>if f.1=n then H f.2 else dh r n
def xp:Fs->ae->Fs
 |[],_=>[]
 |f::r,n=>if f.1=n then r else f::xp r n
def oG:Fs->ae×eR->Fs
 |[],f=>[f]
 |g::r,f=>if g.1=f.1 then f::r else g::oG r f
def mG(a:Fs):M:=(a.map (·.2.length)).sum
def Un(a:cJ da):fB a=mG (vw a):=by
 unfold fB mG vw;rw[gG];rfl
theorem sM(a:cJ da)(n:ae):dh (vw a) n=(ld a n).map da.bytes:=by
 induction a with
 |nil=>rfl
 |cons f r b=>
  unfold vw at*;by_cases h:f.name=n<;>simp[dh,ld,h,b]
def Uj(a:cJ da)(n:ae):vw (mH a n)=xp (vw a) n:=by
 induction a with
 |nil=>rfl
 |cons f r b=>
  unfold vw at*;by_cases h:f.name=n<;>simp[xp,mH,h,b]
def xK(a:cJ da)(f:da):vw (nN a f)=oG (vw a) (f.name,f.bytes):=by
 induction a with
 |nil=>rfl
 |cons g r b=>
  unfold vw at*;by_cases h:g.name=f.name<;>simp[oG,nN,h,b]
theorem yW(h:dh F t=H n):oG F (t,n)=F:=by
 induction F with
 |nil=>cases h
 |cons g r b=>
  obtain⟨a,c⟩:=g;by_cases e:a=t
  .subst e;simp[dh]at h;simp[oG,h]
  .simp[dh,e]at h;simp[oG,e,b h]
def Hz(d c:eR)(h:dh F t=none):oG (F++[(t,d)]) (t,c)=F++[(t,c)]:=by
 induction F with
 |nil=>simp[oG]
 |cons g r b=>
  obtain⟨a,f⟩:=g;by_cases e:a=t
  .simp[dh,e]at h
  .simp[dh,e]at h;simp[oG,e,b h]
def gh(a b:Fs)(n:ae):dh (a++b) n=(dh a n).or (dh b n):=by
 induction a with
 |nil=>simp[dh]
 |cons g r c=>by_cases e:g.1=n<;>simp[dh,e,c]
def mh(b:Fs)(f:ae×eR)(n:ae):dh (oG b f) n=if f.1=n then H f.2 else dh b n:=by
 induction b with
 |nil=>by_cases e:f.1=n<;>simp[oG,dh,e]
 |cons h r g=>
  by_cases e:h.1=f.1
  .by_cases a:f.1=n<;>simp[oG,dh,e,a]
  .by_cases a:h.1=n
   .have c:¬f.1=n:=λb=>e<|a.trans b.symm;have d:¬n=f.1:=λb=>c b.symm;simp[oG,dh,a,c,d]
   .simp[oG,dh,e,a,g]
def nU(h:dh F t=H n):(t,n)∈F:=by
 induction F with
 |nil=>cases h
 |cons g r c=>
  obtain⟨a,b⟩:=g;by_cases e:a=t
  .subst e;simp[dh]at h;simp[h]
  .simp[dh,e]at h;grind
def jq{a:cJ da}(h:dh (vw a) t=H n):∃F,ld a t=H F/\F.bytes=n:=by
 rw[sM]at h;simp_all
def wF{a:cJ da}(h:dh (vw a) t=none):ld a t=none:=by
 rw[sM]at h;simp_all
def Dx(C:mi [.cr t,.ap t n,.sy t] i x)(f:dh (vw i.files) t=none):vw x.files=vw i.files++[(t,n)]/\y x.gT=y i.gT+1:=by
 obtain⟨g,⟨D,u,l,w,m⟩,h,⟨F,E,j,o,A,p⟩,v,⟨e,k,c1,c2,c3⟩,q,B,r⟩:=C;have c:vw g.files=vw i.files++[(t,[])]:=by rw[l];simp[vw]
 have b:dh (vw g.files) t=H []:=by rw[c,gh,f];simp[dh]
 have hF:F.bytes=[]:=by rw[sM,j]at b;simpa using b
 have d:vw h.files=vw i.files++[(t,n)]:=by rw[o,xK];simp only[hF,cV,(je j).1];rw[c];exact Hz [] n f
 have a:dh (vw h.files) t=H n:=by rw[d,gh,f];simp[dh]
 have s:e.bytes=n:=by rw[sM,k]at a;simpa using a
 refine⟨?_,by rw[r,c3,p,m];simp⟩;rw[q,c1,xK];simp only[s,(je k).1];rw[yW a,d]
def Km{db:M}{K:DK}(a:ae)(an b g:M){bs:eR}{w:Y}(h:cG w db K)(P:dh (vw K.files) a=none)(hn:y K.gT<=1000000000000)(al:K.fx.room<1000000000)(ac:y bs<=1099511627776)(D:kh bs)(B:∀ap au,(bs.map<|Value.int .u8)[ap]?=H au->aW w (R an<|b+ap)=H au)(f:an<z (G w))(i:¬K.aO db an)(k:Nm a):cY aZ 226 #[aA db,am a,bD an b (y bs) g] w λF E=>xz w E db K [.cr a,.ap a bs,.sy a] F:=by
 have C:=wF P;have j:=Ik a h C hn k
 have HX:=U (show∀r c,pJ w r db K c->Gs (.cr a) K c->cY aZ 117 #[aA db,am a,bD an b (y bs) g] r λF E=>xz r E db c [.ap a bs] F from by
  rintro r c p⟨ax,l,hf,_⟩;have hv:vw c.files=vw K.files++[(a,[])]:=by rw[hf];simp[vw]
  have e:dh (vw c.files) a=H []:=by rw[hv,gh,P];simp[dh]
  obtain⟨ao,hF,A⟩:=jq e;exact Ir a an b g bs p.ok hF (.inl (by rw[p.fx.room];exact al)) ac D (λap au c=>p.aj.cell (B ap au c) i f) (ag f p.aj.size) (λF=>i (.inl F)) k)
 have HY:=U (show∀s c d,Gs (.cr a) K c->Gs (.ap a bs) c d->cG s db d->cY aZ 81 #[aA db,am a] s λF E=>xz s E db d [.sy a] F from by
  rintro s c d⟨ax,l,hf,_⟩⟨ao,aD,L,x,N,O⟩p;have hv:vw c.files=vw K.files++[(a,[])]:=by rw[hf];simp[vw]
  have e:dh (vw c.files) a=H []:=by rw[hv,gh,P];simp[dh]
  have A:ao.bytes=[]:=by
   rw[sM,L]at e;simpa using e
  have ad:dh (vw d.files) a=H bs:=by
   rw[x,xK,mh];simp[(je L).1,A]
  obtain⟨av,hG,aa⟩:=jq ad;exact PM a p hG (by rw[aa];omega) k)
 have HO:=U h.wS;clear h P C B i D;go_in
 go_wp2_with fail
 apply j.mono;rintro F r⟨v1,c,rfl,n⟩;rcases n.uz with⟨rfl,o1⟩|⟨aU,q,aF,r1,r2,rfl,r3⟩;rotate_left;(.have v:=U n;clear n r1 r2 r3 j;go_wp2;go_ret;exact⟨_,c,rfl,zg.more (m:=[.ap a bs,.sy a])<|J v⟩);have s1:Gs (.cr a) K c:=by obtain⟨K',V,W,a3,a4⟩:=o1;obtain⟨ax,l,x,N,O⟩:=V;exact⟨ax,l,W.trans x,a3.trans N,a4.trans O⟩
 have ha:=HX r c n.nW s1;obtain⟨t,u,T⟩:=dz n.nW o1 s1;clear n o1 s1 j;go_wp2_with fail
 apply ha.mono;rintro F s⟨v2,d,rfl,o⟩;rcases o.uz with⟨rfl,o2⟩|⟨aU,q,aF,r1,r2,rfl,r3⟩;rotate_left;(.have v:=U<|zg.more (m:=[.sy a])<|zg.seq HO t u o;clear o r1 r2 r3 ha;go_wp2;go_ret;exact⟨_,d,rfl,v⟩);have s2:Gs (.ap a bs) c d:=by obtain⟨K',V,W,a3,a4⟩:=o2;obtain⟨ao,aD,L,x,N,O⟩:=V;exact⟨ao,aD,L,W.trans x,a3.trans N,a4.trans O⟩
 have hs:=HY s c d T s2 o.nW.ok;have Q:=U<|t.trans o.nW;have S:=U<|mi.JX u o2;clear o o2 s2 ha;go_wp2_with fail
 apply hs.mono;rintro F w3⟨v3,K3,rfl,h3⟩;have hr:=zg.seq HO Q S h3;have v:=U hr;clear h3 hr hs;go_wp2;go_ret;exact⟨_,K3,rfl,v⟩
def PU{db:M}{K:DK}(a:ae){bs:eR}{w:Y}(h:cG w db K)(x:dh (vw K.files) a=H bs)(r:Nm a):cY aZ 54 #[aA db,am a] w λv N=>L2 w N db K bs v:=by
 obtain⟨F,hF,rfl⟩:=jq x;have E:y F.bytes<=1099511627776:=by have:=pm hF;have:=h.room;have:=h.kK;omega
 have l:=PN a h r;have i:=U<|λ(u:Y)D(k:pJ w u db K {K with fx:=D})=>BK a 0 (y F.bytes) k.ok hF (bP _) E r;have C:=U h.wS;clear h x;go_in
 go_wp2_with fail
 apply l.mono;rintro v u⟨D,k,⟨B,o,rfl⟩|⟨o,_⟩|⟨p,q,rfl,s⟩⟩;(·(obtain rfl:F=B:=by rw[hF]at o;cases o;rfl);have d:=i u D k;rw[List.drop_zero,bI]at d;have m:=U k;clear k l i o hF;(go_wp2_with fail);apply d.mono;rintro v O⟨n,b,e,c,⟨L,rfl,A⟩|⟨p,q,rfl,s⟩⟩;(.have f:=U<|m.trans b;have HB:=U<|Qb A m.aj.size;obtain⟨j,g⟩:Hid (vq _ n)/\Hid (∀a,n.aO db a->K.aO db a):=⟨e,c⟩;clear b e c A d;go_wp2;(go_ret2);exact⟨n,f,j,g,.inl ⟨L,rfl,HB⟩⟩);have f:=U<|m.trans b;have HB:=U<|m.fx.pos C p;have t:=U s;obtain⟨j,g⟩:Hid (vq _ n)/\Hid (∀a,n.aO db a->K.aO db a):=⟨e,c⟩;clear b e c p s d;go_wp2;(go_ret2);exact⟨n,f,j,g,.inr ⟨HB,q,rfl,t⟩⟩);rw[hF]at o;cases o;obtain⟨m,HB,t⟩:=dz k p s;clear k p s l i;go_wp2;(go_ret2);exact⟨_,m,⟨rfl,rfl,rfl⟩,λ_ v=>v,.inr ⟨HB,q,rfl,t⟩⟩
def L0(w c:Y)(b:M)(K:DK)(e:Ending):Prop:=∃a q d,pJ w c b K a/\vq K a/\(∀k,a.aO b k->K.aO b k)/\e=aM (dq #[az,eD q])/\lP c q d/\(d=10\/d=8/\0<K.fx.bd)
def GX{db:M}{K:DK}(a:ae){w:Y}(h:cG w db K)(l:dh (vw K.files) a=none)(i:Nm a):cY aZ 54 #[aA db,am a] w λj m=>L0 w m db K j:=by
 have b:=PN a h i;have hF:=wF l;clear h l;go_in
 go_wp2_with fail
 apply b.mono;rintro j o⟨p,d,⟨n,g,rfl⟩|⟨g,q,rfl,c⟩|⟨k,q,rfl,c⟩⟩;rw[hF]at g;cases g;(.have e:=U d;have f:=U c;clear d c b;go_wp2;(go_ret2);exact⟨_,q,10,e,⟨rfl,rfl,rfl⟩,λ_ j=>j,rfl,f,.inl rfl⟩);obtain⟨e,HB,f⟩:=dz d k c;clear d k c b;go_wp2;(go_ret2);exact⟨_,q,8,e,⟨rfl,rfl,rfl⟩,λ_ j=>j,rfl,f,.inr ⟨rfl,HB⟩⟩
def rY(i:a.ownsRow b c g d m B)(l:0<m):∃f e,d=bD f 0 m e/\b<=f/\f<z (G a)/\m<=e:=by
 obtain⟨j,⟨_,k⟩|⟨f,e,h,n,o,p,q,_⟩⟩:=i;omega;grind
structure No(w0 w:Y)(tb:M)(l:cR)(cs:dS)(bb xq db Gl:M):Prop where
 pieces:qo l cs
 mem:lH w tb (cX none) 0 0 0 0 bb 0 xq (bD db 0 (y<|dK cs) Gl) (bW 0 cs)
 data:fc w (z<|G w0) (bD db 0 (y<|dK cs) Gl) (dK cs)
 Gp:w.ownsRow (z<|G w0) 328 5 (bD bb 0 (y<|bW 0 cs) xq) (y<|bW 0 cs) (eO<|bW 0 cs)
 new:z (G w0)<=tb
 aj:Z ay w0 w
def DU(s:cR)(x d l:M)(W:Y)(N:Steps W)(S:x<z (G W))(O:∀aa ac,(aK s)[aa]?=H ac->aW W (R x<|d+aa)=H ac)(u:y s<=l)(v:0<y s)(m:∀al∈s,al.Good)(hs:dV s)(i:∀x∈im s,y x<=10)(V:y s<=1000000):cY aZ 103 #[bD x d (y s) l] W λad k=>∃j c e a f b,ad=aM (aA j)/\No W k j s c e a f b:=by
 have w:=Es x d l N S O u v m hs i V
 have E:=U (show∀o r c k,qo s c->fc k (z<|G W) o (dK c)->k.ownsRow (z<|G W) 328 5 r (y c) (eO<|bW 0 c)->Z ay W k->∃e a f b,r=bD e 0 (y<|bW 0 c) a/\o=bD f 0 (y<|dK c) b/\No W (cN k<|aw #[cX none,aE 0,dA 0,dA 0,dA 0,bD e 0 (y<|bW 0 c) a,bD f 0 (y<|dK c) b] 263) (z<|G k) s c e a f b from by
  intro o r c k n p i q;rw[<-jX c 0]at i;have g:0<y (bW 0 c):=by
   rw[jX];rcases gB (y c)with K|K
   .obtain rfl:=aL K;have:=n.flat;grind
   .exact K
  have t:0<y (dK c):=by
   rw[jX]at g;have:=JK c 0 g;omega
  have Q:=n.length;obtain⟨e,a,rfl,b1,b2,F⟩:=rY i g;obtain⟨f,b,rfl,d1,d2,d3⟩:=rY p t;refine⟨e,a,f,b,rfl,rfl,n,⟨aJ _ rfl,?_,g,F,by rw[jX];omega⟩,p.alloc _,aT i _,q.size,q.alloc _⟩;intro aa ac hj;obtain⟨h1,⟨L,h0⟩|⟨b',B,A,L,_,P⟩⟩:=dJ<|aT i<|aw #[cX none,aE 0,dA 0,dA 0,dA 0,bD e 0 (y<|bW 0 c) a,bD f 0 (y<|dK c) b] 263
  .omega
  grind)
 go_in
 go_wp2_with(go_at_call 159;refine w.mono ?_;rintro ad C⟨o,r,c,rfl,n,p,i,q⟩;obtain⟨e,a,f,b,rfl,rfl,hF⟩:=E o r c C n p i q;have D:=U hF;clear n p i q hF)
 go_ret;exact⟨z<|G C,c,e,a,f,b,rfl,D⟩
def zH:∀(a:dS)(p:M),tE (bW p a)=y (dK a)
 |[],_=>by simp[tE,bW,dK]
 |c::a,p=>by
  have h:=zH a<|p+(y (fP c)+4);unfold tE at*;rw[bW,cy,zj,h,oY,af,gy];rfl
def Ck:∀(a:dS)(p:M),sg (bW p a)=y a.flatten
 |[],_=>by simp[sg,bW]
 |c::a,p=>by
  have h:=Ck a<|p+(y (fP c)+4);unfold sg at*;rw[bW,cy,zj,h,bK,af];rfl
def MU(n:M):∀(a:dS)(p:M),(bW p a).take n=bW p (a.take n):=by
 induction n with
 |zero=>intro a p;simp[bW]
 |succ n b=>
  intro a p;cases a with
  |nil=>simp[bW]
  |cons c a=>rw[bW,si,b,si,bW]
def qo.idx(k:qo K l)(j:K≠[])(i:∀x∈K,x.Good)(w:dV K)(v:y K<=100):Kg (bW 0 l):=by
 have a:=k.kG j i w;have r:=k.length;have d:∀a∈l,∀x∈a,x∈K:=λa c x b=>by rw[<-k.flat];grind[mem_flatten]
 refine⟨?_,?_,?_,?_,?_,?_⟩;rw[a.len];exact a.ne;rw[a.len];omega;intro A u;obtain⟨m,q,rfl⟩:=dY u;(have c:m<y l:=by rw[<-a.len];exact q);have o:=a.EA m q c;have b:=aq c;have t:=k.fit _ b;have h:=i _<|d _ b _<|aq o.ne;have p:=i _ (d _ b _<|aq<|show y l[m]-1<y l[m]by omega);have g:dV l[m]:=a.mj.sub<|dl b;(have s:y l[m]<=y K:=by rw[<-k.flat];exact(dl b).length_le);refine⟨by rw[o.size];exact t.2,by rw[o.count];exact o.ne,by rw[o.count];omega,by rw[o.first];exact h.VA,by rw[o.first];exact h.Mf,by rw[o.last];exact p.VA,by rw[o.last];exact p.Mf,?_⟩;rw[o.first,o.last];exact g.Dz o.ne<|aq _;rw[Ck,k.flat];exact v;intro n f;(have c:n<y l:=by rw[<-a.len];exact f);rw[MU,zH,a.pos n f]
 .intro n f;have c:n<y l:=by rw[<-a.len];exact f
  have o:=a.EA n f c;have h:=i _<|d _ (aq c) _<|aq o.ne;cases n with
  |zero=>
   rw[xD];show ja ⟨#[]⟩ _=ci;rw[o.first];cases e:ja ⟨#[]⟩ (l[0][0]'o.ne).key with
   |true=>rfl
   |false=>
    have b:=ot e<|Jp _;have:=h.VA;rw[<-b]at this;exact absurd this<|by decide
  |succ n=>
   have g:n<y (bW 0 l):=by omega
   have b:n<y l:=by omega
   rw[ai g,EY];have m:=a.EA n g b;rw[m.last,o.first];exact(cU.1 a.Du n (n+1) b c<|by omega) _ (aq _) _<|aq _
def nC(a:dS):eR:=dK a++fI (bW 0 a)
def Cu(u:M)(a:dS):cJ wM:=[.cr<|fQ u,.ap (fQ u)<|nC a,.sy<|fQ u]
def H7(w g:Y)(b f u x h e a:M)(K:DK)(c:dS)(j:Ending):Prop:=∃v d,j=aM v/\cG g f d/\Z (λk=>K.aO f k\/k=b\/k=x) w g/\(∀k,d.aO f k->K.aO f k\/z (G w)<=k)/\Fx K.fx d.fx/\((v=.nilIface/\mi (Cu u c) K d/\lH g b (aA f) u (y<|dK c) (y<|fI<|bW 0 c) (mV<|fI<|bW 0 c) h e a az (bW 0 c))\/∃l q i,l<+:Cu u c/\mi l K d/\v=eD q/\lP g q i/\QF K.fx i)
def Zy(h:a.ownsRow b c g d m B):∀k,cK d=H k->k<z (G a):=λk e=>(bM h k e).2
def Gm{α β:Type}(K:α->β->Prop){a:α}{b:β}(h:K a b->Q)(k:K a b):Q:=h k
def Xk{l m n o p k q a' b' c' d' e' g':ab}{t:TypeId}{c:M×M}(r:a.heap[b]?=H (aw #[l,m,n,o,p,k,q] t c)):(cq (cq (cq (cq (cq (cq a (R b 0) a') (R b 1) b') (R b 2) c') (R b 3) d') (R b 4) e') (R b 6) g').heap[b]?=H (aw #[a',b',c',d',e',k,g'] t c):=by
 have d:=aH (i:=0) (u:=a') r;have e:=aH (i:=1) (u:=b') d;have f:=aH (i:=2) (u:=c') e;have g:=aH (i:=3) (u:=d') f;have h:=aH (i:=4) (u:=e') g;have j:=aH (i:=6) (u:=g') h;rw[j];simp
def IF{e k E L:M}{N F O m0:X}(o:lH a b (cX none) N F O m0 D S e d (bW 0 l))(p:Z (λn=>n=m) a f)(h:pJ f A c i x)(hv:mi (Cu g l) i x)(t:A.heap[b]?=H (aw #[cX none,aE N,dA F,dA O,dA m0,bD D S (y<|bW 0 l) e,bD m 0 E k] 263 (0,0)))(aa:¬i.aO c b)(u:¬i.aO c D)(v:D≠b)(w:D≠m)(W:y (dK l)=E)(hL:y (fI<|bW 0 l)=L)(K:b<z (G a)):H7 a (cq (cq (cq (cq (cq (cq A (R b 0)<|aA c) (R b 1)<|aE g) (R b 2)<|dA E) (R b 3)<|dA L) (R b 4)<|dA<|mV<|fI<|bW 0 l) (R b 6) az).drew b c g m D S e i l (aM .nilIface):=by
 have r:=p.size;have q:=Xk (a':=aA c) (b':=aE g) (c':=dA E) (d':=dA L) (e':=dA<|mV<|fI<|bW 0 l) (g':=az) t;have C:Z (λn=>n=b) A (cq (cq (cq (cq (cq (cq A (R b 0)<|aA c) (R b 1)<|aE g) (R b 2)<|dA E) (R b 3)<|dA L) (R b 4)<|dA<|mV<|fI<|bW 0 l) (R b 6) az):=((((((gZ b A).setCell b 1 _<|.inl rfl).setCell b 2 _<|.inl rfl).setCell b 3 _<|.inl rfl).setCell b 4 _<|.inl rfl).setCell b 6 _<|.inl rfl);generalize(cq (cq (cq (cq (cq (cq A (R b 0)<|aA c) (R b 1)<|aE g) (R b 2)<|dA E) (R b 3)<|dA L) (R b 4)<|dA<|mV<|fI<|bW 0 l) (R b 6) az)=wf at*;have j:Z (λn=>n=b) A wf.drew:=C.of_heap rfl;have B:∀n,x.aO c n->i.aO c n\/z (G a)<=n:=λn s=>(h.aO n s).elim .inl (λb=>.inr<|by omega);refine⟨_,x,rfl,h.ok.aj j<|λn s P=>?_,?_,B,h.fx,.inl ⟨rfl,hv,?_,?_,o.ne,o.le,o.small⟩⟩;grind
 exact((p.mono (T:=λn=>i.aO c n\/n=b\/n=m)<|λn P=>.inl<|.inr<|.inr P).trans h.aj<|λn s=>.inl<|.inl s).trans j<|λn P=>.inl<|.inr<|.inl P;rw[W,hL];exact q;intro ac ad hj;have Q:=p.cell (o.cells ac ad hj) w o.lt.2;have V:=h.aj.cell Q u<|ag o.lt.2 r;exact j.cell V v<|ag o.lt.2<|aC r h.aj.size
def IG(bp:M)(hu:bp<18446744073709551616){n0 c0 s0 m0:X}{k:M}(w d:M)(j:dS)(h:lH a b (cX none) n0 c0 s0 m0 g m D (bD w 0 (y<|dK j) d) (bW 0 j))(hd:fc a k (bD w 0 (y<|dK j) d) (dK j))(hb:k<=z (G a))(hP:Kg (bW 0 j))(cf:kh (dK j))(hT:Steps a)(ax:Pow a)(eu:y (dK j)<=100000)(F:cG a c x)(hg:dh (vw x.files) (fQ bp)=none)(hn:y x.gT<=1000000000000)(K:x.fx.room<1000000000)(ei:¬x.aO c w)(bl:¬x.aO c b)(dT:¬x.aO c g)(ea:g≠b)(eb:g≠w):cY aZ 167 #[aA b,aA c,aE bp] a λao w'=>H7 a w' b c bp w g m D x j ao:=by
 have s:∀an∈bW 0 j,an.Fits:=λan V=>(hP.can an V).fits;have en:=hP.len;have cl:=IU (bW 0 j) g m D a h.lt.2 h.cells (by omega) s;have ev:y (fI<|bW 0 j)<=52004:=by have h1:=mF s;unfold fI;rw[af,cH];omega
 have ce:0<y (fI<|bW 0 j):=by unfold fI;rw[af,cH];omega
 have av:kh (fI<|bW 0 j):=(kh.le 4 _).append<|Jv s;have f:=h.box;have t0:=cellAt f 0 rfl;have t5:=cellAt f 5 rfl;have t6:=cellAt f 6 rfl;obtain⟨i0,ec,ej,ek,el⟩:=di qi;obtain⟨A,hD⟩:∃A,y (dK j)=A:=⟨_,rfl⟩;obtain⟨ba,hL⟩:∃ba,y (fI<|bW 0 j)=ba:=⟨_,rfl⟩;have e1:=tD (n:=(A:M)) (by omega) (by omega);have e2:=tD (n:=(ba:M)) (by omega) (by omega);have bx:=U (show∀v1 p,fc p (z<|G a) v1 (fI<|bW 0 j)->Z ay a p->∃N xc,v1=bD N 0 ba xc/\z (G a)<=N/\N<z (G p)/\aW p (R b 6)=H (bD w 0 A d)/\b<z (G p)/\(∀eg,Z ay p eg->cY aZ 146 #[bD N 0 ba xc] eg λao w'=>ao=aM (dA<|mV<|fI<|bW 0 j)/\w'=eg)from by intro v1 p ho ht;obtain⟨N,xc,rfl,a1,a2,_⟩:=rY ho ce;rw[<-hL,<-hD];refine⟨N,xc,rfl,a1,a2,ht.cell t6 id<|ak f,ag (ak f) ht.size,λeg hW=>?_⟩;have ed:=ht.cz hW;exact sU _ (fI<|bW 0 j) eg (hT.below (ed.below (ah _) cL) hT.lt) (fc.bytes<|hW.own ho<|λ_ _ bo=>bo)<|by omega);have cu:=U h;clear h;rw[hD]at t6;go_in
 go_wp2_with fail
 apply cl.mono;rintro ao p⟨v1,rfl,bh,bk⟩;obtain⟨N,xc,rfl,y0,y1,y2,y3,L⟩:=bx v1 p bh bk;have bt:=U bh;have aV:=U bk;have l:=ak f;have aF:¬b=w:=λao=>by obtain⟨_,hc⟩:=fE hd (k:=w) rfl;grind
 clear bh bk t0 t5 cl;go_wp2_with fail
 rename_i QQ KK C;apply Gm KK
 .intro bn;go_region_held3(λB=>aW B (R b 6)=H (bD w 0 A d)) (first|assumption|go_keep) (first
   |(go_at_call 146;refine(L p.drew<|cZ _ _).mono ?_;rintro ao w2⟨rfl,eg⟩;subst w2;have ed:aW p.drew (R b 6)=H (bD w 0 A d):=y2)
   |(go_at_call 146;refine(L (cN p (.cells #[.int .u64 0,.int .u32 0,.int .u32 0,.int .u32 0] 185)).drew ((cF _ p).of_heap rfl)).mono ?_;rintro ao w2⟨rfl,eg⟩;subst w2;have ed:aW (cN p (.cells #[.int .u64 0,.int .u32 0,.int .u32 0,.int .u32 0] 185)).drew (R b 6)=H (bD w 0 A d):=(by rw[bF,fC y3];exact y2)))
  all_goals exact bn
 apply C;clear C L;have Q:∃O,(cN p<|aw #[aE bp,dA A,dA ba,dA<|mV<|fI<|bW 0 j] 185).drew=O/\Z ay a O/\O.heap[z<|G p]?=H (aw #[aE bp,dA A,dA ba,dA<|mV<|fI<|bW 0 j] 185 (0,0))/\fc O (z<|G a) (bD N 0 ba xc) (fI<|bW 0 j):=⟨_,rfl,(aV.alloc _).of_heap rfl,aJ _ rfl,bt.alloc _⟩;obtain⟨O,Q,t,bd,cj⟩:=Q;rw[Q];have ew:z (G a)<=z (G p):=aV.size;generalize z (G p)=u at*;clear Q bt aV bx y2 y3;have eq:=t.size;have dx:=hT.below (t.below (ah _) cL) hT.lt;have hS:aW O.drew (R b 6)=H (bD w 0 A d):=by rw[bF];exact t.cell t6 id l
 go_wp2_with fail
 rename_i QQ KK C;refine dR (λB=>aW B (R b 6)=H (bD w 0 A d)) 10 (by kernel_rfl) ?_;refine fh 0 ?_;iterate 2 (refine iz (v:=?_) hS rfl (by kernel_rfl) lk rfl ?_ ?_;rotate_left;(focus(intro B hX;go_simp;try rfl));simp only[Act.put,dW,Nat.reduceAdd])
 apply ii;refine fh 3 ?_;iterate 5 (refine iz (v:=?_) hS rfl (by kernel_rfl) lk rfl ?_ ?_;rotate_left;(focus(intro B hX;go_simp;try rfl));simp only[Act.put,dW,Nat.reduceAdd])
 apply ii;refine bj (i:=2) rfl rfl (by kernel_rfl) ?_;intro K2 bE;go_simp;have hx:=Zy hd w rfl;have aD:Pow O.drew:=ax.aj (t.of_heap rfl) id;apply(BD bp hu aD).mono;rintro ao W3⟨rfl,E⟩;have aa:Z ay a W3:=(t.of_heap (c:=O.drew) rfl).cz<|Z.aR (S:=ay) E;have ef:=E.size;have ey:z (G O)<=z (G W3):=ef;have cb:aW W3 (R b 6)=H (bD w 0 A d):=aa.cell t6 id l;have bf:W3.heap[u]?=H (aw #[aE bp,dA A,dA ba,dA<|mV<|fI<|bW 0 j] 185 (0,0)):=(E.block u<|ak bd).trans bd;have ck:fc W3 (z<|G a) (bD N 0 ba xc) (fI<|bW 0 j):=(Z.aR (S:=ay) E).own cj<|λ_ _ bo=>bo;have cd:fc W3 k (bD w 0 A d) (dK j):=by rw[<-hD];exact aa.own hd<|λ_ _ bo=>bo
 refine bE _ _ (λ_=>cb) ?_;refine bj (i:=8) rfl rfl (by kernel_rfl) ?_;intro K8 bL;simp only[de,cD,cI];refine kp (.tmp 34) (.tmp 35) 103 rfl k 5 i0 (rD 0) 1 1 underlying103 ec ej ek el rfl (by decide) (bD w 0 A d) A ((dK j).map<|Value.int .u8) rfl (by have h0:=cd;unfold fc at h0;rw[hD]at h0;exact h0) (R N 0) ba xc ((fI<|bW 0 j).map<|Value.int .u8) rfl (by rw[dj,hL,rB]) (tX ck.bytes) (by intro bp hu;simp only[bR]at hu;obtain⟨em,_,rfl⟩:=hu;rfl) (by omega) (by omega) (by omega) ?_;intro v4 w4 bi bm;have bc:fc w4 k v4 (nC j):=fc.of bi (by unfold nC;rw[af,hD,hL]) (by unfold nC;rw[aP]);have ad:=Z.fH bm;obtain⟨yb,yc,rfl,g1,g2,g3⟩:=rY bi (by omega);have ac:Z (λan=>an=w) a w4:=(aa.mono (T:=λan=>an=w) cL).trans ad (λan V=>by simp[cK]at V;grind);have bb:aW w4 (R b 6)=H (bD w 0 A d):=ac.cell t6 (λao=>aF ao) l;have ch:w4.heap[u]?=H (aw #[aE bp,dA A,dA ba,dA<|mV<|fI<|bW 0 j] 185 (0,0)):=(ad.block u (ak bf) (λao=>by simp[cK]at ao;omega)).trans bf;have au:cG w4 c x:=F.aj ac<|λan V ao=>ei<|ao▸V;have P:A+ba=y (nC j):=by unfold nC;rw[af,hD,hL]
 have cm:¬x.aO c yb:=by intro bo;rcases bm.vp with ed|⟨em,ed,hy⟩;simp[cK]at ed;grind;simp[cK]at ed;subst ed;have:=F.lt _ bo;omega
 have al:=Km (db:=c) (K:=x) (fQ bp) yb 0 yc (bs:=(nC j)) (w:=w4) au hg hn K (by rw[<-P];omega) (cf.append av) (Bytes.cells (by rw[<-P];exact bc.bytes)) g2 cm<|EH hu;rw[<-P]at al;obtain⟨cs,cw,aU,r⟩:=fY bc ad ch ac;clear P cm bi bm bc ad ch ac g1 g2 g3 cd ck bf cb E;refine bL _ _ (λ_=>bb) ?_;simp only[Act.put,dW];refine bj (i:=9) rfl rfl (by kernel_rfl) ?_;intro K9 bT;go_simp;apply al.mono;rintro ao w5⟨v5,K5,rfl,W⟩;have o:=W.nW;have cc:aW w5 (R b 6)=H (bD w 0 A d):=o.aj.cell bb bl<|ag l r.size;refine bT _ _ (λ_=>cc) ?_;refine bj (i:=10) rfl rfl (by kernel_rfl) ?_;intro es ap;go_simp;refine ap _ _ FQ ?_;refine eS (by kernel_rfl) ?_ _;show KK _ _;apply C;clear C bE bL bT ap;rcases W.uz with⟨rfl,o5⟩|⟨eA,q,bo,r1,r2,rfl,r3,r4⟩;rotate_left;(.have HR:=U<|show H7 a w5 b c bp w g m D x j (aM<|eD q)from⟨_,K5,rfl,o.ok,(r.mono (T:=λan=>x.aO c an\/an=b\/an=w)<|λan ao=>.inl<|.inr<|.inr ao).trans o.aj<|λan V=>.inl<|.inl V,λan V=>(o.aO an V).elim .inl<|λbo=>.inr<|aC r.size bo,o.fx,.inr ⟨eA,q,bo,r1,r2,rfl,r3,r4⟩⟩;clear W o r1 r2 r3 r4 al;go_wp2;go_ret;exact HR);have e:w5.heap[b]?=H (aw #[cX none,aE n0,dA c0,dA s0,dA m0,bD g m (y<|bW 0 j) D,bD w 0 A d] 263 (0,0)):=by rw[<-hD];exact(o.aj.block b (ag l r.size) bl).trans<|(r.block b l aF).trans f
 have bg:w5.heap[u]?=H (aw #[aE bp,dA A,dA ba,dA<|mV<|fI<|bW 0 j] 185 (0,0)):=(o.aj.block u (ak aU) (λbo=>by have:=F.lt _ bo;omega)).trans aU;have hQ:(aW w5.drew (R u 0)=H (aE bp)/\aW w5.drew (R u 1)=H (dA A)/\aW w5.drew (R u 2)=H (dA ba)/\aW w5.drew (R u 3)=H (dA<|mV<|fI<|bW 0 j)):=by simp only[bF];refine⟨?_,?_,?_,?_⟩<;>(rw[cg bg];rfl)
 obtain⟨bu,cv,bq,bv,er⟩:=iO e bg o o5 F;clear bg o W o5 F f hd hS bb cc t6 hg hn K hT ax aD dx t aa bd cj al au cf av hP;obtain⟨cn,co,cp,cr⟩:=hQ;simp only[bF]at cn co cp cr;have cB:=cellAt e 0 rfl;have cE:=cellAt e 1 rfl;have cM:=cellAt e 2 rfl;have cT:=cellAt e 3 rfl;have db:=cellAt e 4 rfl;have dc:=cellAt e 6 rfl;have dk:=cP (i:=0) e;have dm:=cP (i:=1) e;have dn:=cP (i:=2) e;have dr:=cP (i:=3) e;have ds:=cP (i:=4) e;have dv:=cP (i:=6) e;have ex:u≠b:=by omega
 have eo:b≠u:=by omega
 clear e;go_wp2_with fail
 rename_i et cx ca;apply Gm cx;(.intro bn;(go_region);all_goals exact bn);refine ca _ _ ?_;have br:=U<|IF cu r bq bv bu bl dT ea eb hD hL l;clear cB cE cM cT db dc dk dm dn dr ds dv cn co cp cr bu cv bq bv r aU cs cw;go_wp2;go_ret;exact br
def H8(w e:Y)(c u:M)(K:DK)(D L:M)(i:X)(g:mq)(h:Ending):Prop:=∃d,pJ w e c K d/\vq K d/\(∀k,d.aO c k->K.aO c k)/\((∃a f b,h=aM (dq #[aA a,.nilIface])/\lH e a (aA c) u D L i f 0 b az g/\z (G w)<=a/\z (G w)<=f)\/(0<K.fx.bd/\∃q,h=aM (dq #[cX none,eD q])/\Af e q))
def Kw(T:M)(hu:T<18446744073709551616)(d:dS)(hP:Kg (bW 0 d))(hT:Steps a)(D:Pow a)(bm:y (dK d)<=100000)(ba:¬i.aO b 1)(v:cG a b i)(hg:dh (vw i.files) (fQ T)=H (nC d)):cY aZ 85 #[aA b,ES T (y<|dK d) (y<|fI<|bW 0 d)<|mV<|fI<|bW 0 d] a λan k=>H8 a k b T i (y<|dK d) (y<|fI<|bW 0 d) (mV<|fI<|bW 0 d) (bW 0 d) an:=by
 have l:∀bf∈bW 0 d,bf.Fits:=λbf hk=>(hP.can bf hk).fits;have av:=hP.len;have bp:=hP.ne;have bo:y (fI<|bW 0 d)<=52004:=by have h1:=mF l;unfold fI;rw[af,cH];omega
 have C:0<y (fI<|bW 0 d):=by unfold fI;rw[af,cH];omega
 have aV:=zH d 0;have bn:y (nC d)=y (dK d)+y (fI<|bW 0 d):=by unfold nC;rw[af]
 have hcut:((nC d).drop<|y<|dK d).take (y<|fI<|bW 0 d)=fI (bW 0 d):=by unfold nC;simp
 obtain⟨bE,hF,N⟩:=jq hg;obtain⟨aa,hD⟩:∃aa,y (dK d)=aa:=⟨_,rfl⟩;obtain⟨L,V⟩:∃L,y (fI<|bW 0 d)=L:=⟨_,rfl⟩;obtain⟨bd,hc⟩:∃bd,mV (fI<|bW 0 d)=bd:=⟨_,rfl⟩;have e1:IntKind.i64.wrap (aa:X)=aa:=by rw[bN];omega
 have e2:IntKind.i64.wrap (L:X)=L:=by rw[bN];omega
 have bi:=U (show∀g,Z ay a g->cY aZ 90 #[aA b,am<|fQ T,ar aa,ar L] g λan k=>∃B,pJ a k b i B/\vq i B/\(∀bf,B.aO b bf->i.aO b bf)/\Z (i.aO b) g k/\((∃r s,an=aM (dq #[bD r 0 L s,.nilIface])/\fc k (z<|G g) (bD r 0 L s) (fI<|bW 0 d))\/(0<i.fx.bd/\∃q,an=aM (dq #[az,eD q])/\Af k q))from by
  intro g o;have au:=v.aj o<|λ_ _=>id;refine(BK (fQ T) aa L au hF (by rw[N];omega) (by omega)<|EH hu).mono ?_;rintro an k⟨B,u,h1,h3,hr⟩;refine⟨B,((pJ.refl v).still o).trans u,h1,h3,u.aj,?_⟩;rcases hr with⟨v',rfl,W⟩|hr
  .rw[N,<-hD,<-V,hcut]at W;obtain⟨r,s,rfl,a1,a2,_⟩:=rY W C;rw[V]at W|-;exact .inl ⟨r,s,rfl,W⟩
  .exact .inr hr)
 have bk:=U (show∀A r s g(B:DK),pJ a A b i B->fc A g (bD r 0 L s) (fI<|bW 0 d)->cY aZ 140 #[bD r 0 L s,dC #[aE T,dA aa,dA L,dA bd]] A λan k=>∃t c,an=aM (dq #[bD t 0 (y<|bW 0 d) c,aN ci])/\z (G A)<=t/\lH (cN k<|aw #[aA b,aE T,dA aa,dA L,dA bd,bD t 0 (y<|bW 0 d) c,az] 263) (z<|G k) (aA b) T aa L bd t 0 c az (bW 0 d)/\Z ay A k from by intro A r s g B u W;have bb:Steps A:=λbf hk=>u.aj.cell (hT bf hk) ba hT.lt;have au:=fc.bytes W;rw[<-V]at au;have x:=DQ r 0 s T bb hP au;rw[aV,hD,V,hc]at x;apply x.mono;rintro an k⟨v',rfl,ax,br⟩;obtain⟨t,c,rfl,a1,a2,a3⟩:=rY ax (by omega);refine⟨t,c,rfl,a1,⟨aJ _ rfl,?_,by omega,a3,by omega⟩,br⟩;intro bL bT hj;obtain⟨h1,⟨h2,h0⟩|⟨b',bu,bs,h2,_,bv⟩⟩:=dJ<|aT ax<|aw #[aA b,aE T,dA aa,dA L,dA bd,bD t 0 (y<|bW 0 d) c,az] 263;omega;grind);have bt:∀(x:Bool)(a:Y),(Op.unary .not<|aN x).run aZ a=.ok (aN<|!x) a:=λ_ _=>rfl;have HPow:=U D;have bg:=U v;unfold ES;rw[hD,V,hc];clear hP hT D bm ba v hg l bo C aV bn hcut hF N hD V hc av bp;generalize y (bW 0 d)=bx at*;go_in
 go_wp2_with fail
 apply(BD T hu<|HPow.aj (cF ay a) id).mono;rintro an w2⟨rfl,O⟩;have m:w2.heap[z<|G a]?=H (aw #[aE T,dA aa,dA L,dA bd] 185 (0,0)):=(O.block _<|by simp).trans<|aJ _ rfl;have o:Z ay a w2:=(cF ay a).cz<|Z.aR (S:=ay) O;have c0:=cellAt m 0 rfl;have c1:=cellAt m 1 rfl;have c2:=cellAt m 2 rfl;have aU:=bi w2 o;have ac:=U m;clear m o O;go_wp2_with fail
 apply aU.mono;rintro an A⟨K3,e,w,j,Q,bq⟩;have P:¬i.aO b (z<|G a):=λbd=>by have:=bg.lt _ bd;omega
 have f:=(Q.block _ (ak ac) P).trans ac;have d0:=cellAt f 0 rfl;have d1:=cellAt f 1 rfl;have d2:=cellAt f 2 rfl;have d3:=cellAt f 3 rfl;rcases bq with⟨r,s,rfl,aD⟩|⟨ap,q3,rfl,aF⟩;rotate_left;(.obtain⟨E,F,K,g,au⟩:=iO e w j ap aF;clear f e w j Q P ap aF aU;go_wp2;(go_ret2);exact⟨K3,E,F,K,.inr ⟨g,q3,rfl,au⟩⟩);have x:=bk A r s _ K3 e aD;obtain⟨ad,E,F,K⟩:=fY f e w j;clear f e w j aD Q P;go_wp2_with fail
 apply x.mono;rintro an w4⟨t,c,rfl,bl,ao,p⟩;have n:=(p.block _ (ak ad) id).trans ad;have g0:=cellAt n 0 rfl;have g1:=cellAt n 1 rfl;have g2:=cellAt n 2 rfl;have g3:=cellAt n 3 rfl;have bh:=U ao;have al:=U p;clear ao p n;go_wp2;go_ret2
 have e:=J E;have bc:=e.aj.size;have p:=al.alloc<|aw #[aA b,aE T,dA aa,dA L,dA bd,bD t 0 bx c,az] 263;exact⟨K3,e.still p,F,K,.inl ⟨z<|G w4,t,c,rfl,bh,aC bc al.size,aC bc bl⟩⟩
structure bz where
 tb:M
 ks:mq
 cs:dS
 num:M
abbrev cW:=cJ bz
variable{O:bz}
def bz.ptr(t:bz):ab:=aA t.tb
def bz.all(t:bz):cR:=t.cs.flatten
def iZ(a:mq):ae:=(a.head?.map rp.first).getD ⟨#[]⟩
def EZ(h:0<y C):jp C=(C[y C-1]'(by omega)).last:=by
 unfold jp;rw[List.getLast?_eq_getElem?,aQ<|by omega];rfl
def Cc(h:0<y C):iZ C=(C[0]'h).first:=by
 unfold iZ;cases C with
 |nil=>simp at h
 |cons k r=>rfl
def Nt(w:Y)(t:bz):Prop:=∃h b cut c f g d a e,lH w t.tb h b cut c f g d a e t.ks
def Nt.first(n:Nt a O):cY aZ 142 #[O.ptr] a λm j=>m=aM (am<|iZ O.ks)/\j=a:=by
 obtain⟨l,c,cut,d,i,k,e,b,h,g⟩:=n;rw[Cc g.ne];exact Tb g
def Nt.last(m:Nt a O):cY aZ 141 #[O.ptr] a λl i=>l=aM (am<|jp O.ks)/\∃q,i=a.drewN q:=by
 obtain⟨k,c,cut,d,h,j,e,b,g,f⟩:=m;rw[EZ f.ne];exact Vw f
def lH.dw{w w':Y}{a cut e f:X}(h:lH w c d a cut e f g m D s C)(i:w'.heap[c]?=w.heap[c]?)(j:w'.heap[g]?=w.heap[g]?):lH w' c d a cut e f g m D s C:=⟨i.trans h.box,λl u k=>(dt (w:=w) j).trans<|h.cells l u k,h.ne,h.le,h.small⟩
def Nt.of_heap{w w':Y}(n:Nt w O)(m:w'.heap=w.heap):Nt w' O:=by
 obtain⟨k,d,cut,e,i,j,g,b,h,l⟩:=n;exact⟨k,d,cut,e,i,j,g,b,h,l.dw (by rw[m])<|by rw[m]⟩
def Nt.below(m:Nt a O)(j:Below (z<|G a) a f):Nt f O:=by
 obtain⟨l,c,cut,d,i,k,e,b,g,h⟩:=m;exact⟨l,c,cut,d,i,k,e,b,g,h.dw (j.block _ h.lt.1)<|j.block _ h.lt.2⟩
structure iW(w:Y)(v:ab)(ts:cJ bz):Prop where
 row:Row w 1 v (y ts) (ts.map bz.ptr)
 lt:∀k,cK v=H k->k<z (G w)
 each:∀t∈ts,Nt w t
 small:y ts<=1000000000
def iW.below{e:cJ bz}(h:iW a d e)(b:Below (z<|G a) a f):iW f d e:=by
 refine⟨(Z.aR (S:=ay) b).row h.row<|λk c=>⟨id,h.lt k c⟩,λk c=>ag (h.lt k c) b.size,λt g=>(h.each t g).below b,h.small⟩
def Bn(a:cJ bz):Prop:=a.Pairwise<|λb c=>ja (jp b.ks) (jp c.ks)=ci
def LI{k bk:M}{c:cJ bz}(f:ae)(h:iW a d c)(m:eP a k d 90)(l:eP a bk (am f) 9)(i:M)(t:i<y c):cY aZ 255 #[ar i,aA k,aA bk] a λp j=>p=aM (aN<|!ja (jp c[i].ks) f)/\∃q,j=a.drewN q:=by
 obtain⟨g,⟨_,B⟩|⟨w,e,o,rfl,_,r⟩⟩:=h.row;omega;have u:aW a (R w<|e+i)=H c[i].ptr:=by simp_all
 have b:∀W,W.heap=a.heap->cY aZ 141 #[c[i].ptr] W λp j=>p=aM (am<|jp c[i].ks)/\∃q,j=W.drewN q:=λW e=>((h.each _<|aq t).of_heap e).last;have c1:=m.cell;have c2:=l.cell;have s:=Jz;have v:=h.small;have x:(i:X)<(y c:X):=by omega
 have A:(0:X)<=(i:X):=by omega
 unfold ja;unfold bz.ptr at u b;generalize jp c[i].ks=C at*;generalize c[i].tb=n at*;clear h m l g r;go_in
 go_wp2_with fail
 go_quiet(first|(go_at_call 141;refine Calls.quiet_of (b _ rfl)))
 go_wp2;go_ret;exact⟨rfl,nq,rfl⟩
variable{j W:cW}
def uj.E1(h:uj C l):0<y C:=by rw[h.len];exact h.ne
def uj.yl(h:uj C l):∃x∈l.flatten,x.key=jp C:=by
 have b:=h.E1;have a:y C-1<y l:=by have:=h.len;omega
 have o:=h.EA (y C-1) (by omega) a;have n:=o.ne;exact⟨_,bC.2 ⟨_,aq a,aq<|show y l[y C-1]-1<y l[y C-1]by omega⟩,by rw[EZ b,o.last]⟩
def uj.Ib(h:uj C l):∃x∈l.flatten,x.key=iZ C:=by
 have b:=h.E1;have a:0<y l:=by have:=h.len;omega
 have o:=h.EA 0 (by omega) a;exact⟨_,bC.2 ⟨_,aq a,aq o.ne⟩,by rw[Cc b,o.first]⟩
def uj.DA(h:uj C l)(f:w∈l.flatten):ja (jp C) w.key=aX:=by
 have e:=h.E1;have b:y C-1<y l:=by have:=h.len;omega
 have o:=h.EA (y C-1) (by omega) b;obtain⟨j,c,a⟩:=bC.1 f;obtain⟨i,d,rfl⟩:=dY c;rw[EZ e,o.last];rcases ik i (y C-1)with g|g;exact lu<|cU.1 h.Du i _ d b g w a _<|aq (by have:=o.ne;omega);(have:i=y C-1:=by have:=h.len;omega);subst this;exact dV.Dz (h.mj.sub<|dl<|aq b) o.ne a
def uj.yt(h:uj C l)(g:w∈l.flatten):ja w.key (iZ C)=aX:=by
 have f:=h.E1;have b:0<y l:=by have:=h.len;omega
 have o:=h.EA 0 (by omega) b;obtain⟨j,c,a⟩:=bC.1 g;obtain⟨i,e,rfl⟩:=dY c;rw[Cc f,o.first];rcases gB i with d|d;subst d;exact dV.yt (h.mj.sub<|dl<|aq b) o.ne a;exact lu<|cU.1 h.Du 0 i b e d _ (aq o.ne) w a
def bZ(a:cW):cR:=(a.map bz.all).flatten
def zb(t:bz)(a:cW):bZ (t::a)=t.all++bZ a:=by simp[bZ]
theorem fR(a b:cW):bZ (a++b)=bZ a++bZ b:=by simp[bZ]
theorem lZ:w∈bZ j↔∃t∈j,w∈t.all:=by
 unfold bZ;grind
structure ji(ts:cW):Prop where
 pure:∀t∈ts,uj t.ks t.cs
 mj:dV (bZ ts)
 Du:(ts.map bz.all).Pairwise gU
def ji.pair(i:ji j)(e:b<y j)(f:c<y j)(d:b<c){a:E}(g:w∈j[b].all)(h:a∈j[c].all):ja w.key a.key=ci:=by
 exact cU.1 i.Du b c (by simpa using e) (by simpa using f) d w (by simpa using g) a<|by simpa using h
def ji.AS(h:ji j):Bn j:=by
 refine cU.2<|λk l b c a=>?_;obtain⟨x,f,d⟩:=(h.pure _<|aq b).yl;obtain⟨i,g,e⟩:=(h.pure _<|aq c).yl;rw[<-d,<-e];exact h.pair b c a f g
def ji.each(h:ji j)(a:O∈j):dV O.all:=h.mj.sub<|dl<|bR.2 ⟨O,a,rfl⟩
structure qn(ts:cW)(key:ae)(k:M):Prop where
 le:k<=y ts
 low:∀i(hi:i<y ts),i<k->ja (jp ts[i].ks) key=ci
 vP:∀i(hi:i<y ts),k<=i->ja (jp ts[i].ks) key=aX
def ji.Ca(o:ji j)(c:ae)(k:qn j c b):(((j.drop b).map bz.all).map<|fZ c).flatten=fZ c (bZ j):=by
 have e:bZ j=bZ (j.take b)++bZ (j.drop b):=by rw[<-fR,bV]
 have f:fZ c (bZ<|j.take b)=[]:=by unfold fZ;rw[gS];intro x m;obtain⟨t,l,d⟩:=lZ.1 m;obtain⟨n,p,rfl⟩:=dY l;rw[ly]at d;(have a:n<b/\n<y j:=by grind);have h:=k.low n a.2 a.1;have i:=(o.pure _<|aq a.2).DA d;rw[ym i h];simp
 have g:∀l:dS,(l.map<|fZ c).flatten=fZ c l.flatten:=by
  intro l;induction l with
  |nil=>rfl
  |cons d r a=>simp only[cy,bK,a];unfold fZ;rw[kU]
 rw[g,e];unfold fZ at*;rw[kU,f,cV];rfl
def ji.Bc(l:ji j)(g:qn j t b)(x:E)(n:x∈bZ j)(c:x.key=t):∃r:b<y j,x∈j[b].all:=by
 obtain⟨s,h,d⟩:=lZ.1 n;obtain⟨q,f,rfl⟩:=dY h;have e:=(l.pure _ h).DA d;rcases nr q b with i|i|i;have:=ym e<|g.low q f i;rw[c,fO]at this;cases this;grind
 (have a:b<y j:=by omega);obtain⟨p,o,k⟩:=(l.pure _<|aq a).yl;have m:=g.vP b a<|ah _;have:=l.pair a f i o d;rw[k,c,m]at this;cases this
def ji.yX(h:ji j)(b:qn j t (y j))(d:X):iC d (bZ j) t=none:=by
 refine rj<|λx c a=>?_;obtain⟨e,_⟩:=h.Bc b x c a;omega
def ji.Cd(h:ji j)(e:qn j t b)(d:b<y j)(c:X):iC c (bZ j) t=iC c j[b].all t:=by
 have:=Bd (cs:=j.map bz.all) (k:=t) (i:=b) (by simpa using d) (λx f a=>by obtain⟨_,g⟩:=h.Bc e x f a;grind) h.Du c;unfold bZ;grind
def zR(b:ae)(h:iW a d j)(Q:Bn j):cY aZ 223 #[d,am b] a λN W=>∃n:M,N=aM (ar n)/\qn j b n/\Below (z<|G a) a W:=by
 have C:Below (z<|G a) a (cN (cN a<|aw #[d] 90)<|aw #[am b] 9):=((Below.refl _ a).alloc (ah _) _).alloc (by simp) _;have P:=h.below C;have F:=h.small
 have v:=zI (f:=255) #[aA<|z<|G a,aA<|z (G a)+1] (y j) (λi=>if c:i<y j then !ja (jp j[i].ks) b else ci) (cN (cN a<|aw #[d] 90)<|aw #[am b] 9) (enters_of func255 (by kernel_rfl) rfl) (by omega) (by
  intro ac S B u T;have t:ac<y j:=by omega
  simp only[u,t,Ag]at T|-;rcases mw B with ad|ad
  .have l:=cU.1 Q ac S t u ad;grind[lq]
  grind)
  (by
   intro i c aa l;have A:=P.below l;have D:eP aa (z (G a)) d 90:=(l.block _ (by simp;omega)).trans (eP.alloc (aJ _ rfl) _);have E:eP aa (z (G a)+1) (am b) 9:=(l.block _ (by simp)).trans (aJ _ (by simp));apply(LI b A D E i c).mono;rintro N W'⟨rfl,q,rfl⟩;simp only[c,Ag];exact⟨trivial,below_drewN (Below.refl _ _) _⟩)
 have o:=U v;have HB:=U C;have V:=h.row.2;clear v P C h Q;have K:(d=az/\y j=0)\/∃S e p,d=bD S e (y j) p:=by grind
 clear V;have k:∀(N:Ending)(L:Y)(n:M),n<=y j->(∀i,i<n->(if c:i<y j then !ja (jp j[i].ks) b else ci)=aX)->(∀i,n<=i->i<y j->(if c:i<y j then !ja (jp j[i].ks) b else ci)=ci)->qn j b n:=by intro N L n g m r;refine⟨g,λi c l=>?_,λi c l=>?_⟩;(have:=m i l;grind);grind
 rcases K with⟨rfl,O⟩|⟨S,e,p,rfl⟩;(.obtain rfl:j=[]:=aL O;clear k O F;(go_in);(go_wp2_with(go_at_call 210;refine o.mono ?_;rintro N L⟨n,rfl,g,m,r,s⟩;have w:=U g;have x:=U s;clear g m r s));go_ret;have g:=J w;refine⟨n,rfl,⟨g,λi c=>absurd c<|gq i,λi c=>absurd c<|gq i⟩,HB.trans<|x.mono HB.size⟩);(go_in);(go_wp2_with(go_at_call 210;refine o.mono ?_;rintro N L⟨n,rfl,g,m,r,s⟩;have w:=U g;have l:=U m;have t:=U r;have x:=U s;clear g m r s));go_ret;exact⟨n,rfl,k (aM .nilIface) a n w l t,HB.trans<|x.mono HB.size⟩
structure sQ(V:iV)(n0:M)(v:ab)(ts:cW)(w:Y):Prop where
 row:Row w 1 v (y ts) (ts.map bz.ptr)
 loc:∀k,cK v=H k->k<n0/\¬V.F k
 each:∀t∈ts,nE V n0 t.tb t.ks t.cs w
 side:ji ts
 small:y ts<=1000000000
def nE.Uo(l:nE r b O.tb O.ks O.cs a):Nt a O:=by
 obtain⟨j,d,cut,e,h,i,f,c,g,k,_⟩:=l.mem;exact⟨j,d,cut,e,h,i,f,c,g,k⟩
def sQ.mem(h:sQ r c d j a)(f:c<=z (G a)):iW a d j:=⟨h.row,λk e=>ag (h.loc k e).1 f,λt g=>(h.each t g).Uo,h.small⟩
def Row.same{V:iV}{n0:M}{S:eV}(p:Row a b d c B)(l:kO V n0 S a f)(m:∀n,cK d=H n->n<n0/\¬V.F n):Row f b d c B:=by
 obtain⟨j,h⟩:=p;refine⟨j,?_⟩;rcases h with h|⟨o,e,g,rfl,i,k⟩;exact .inl h;exact .inr ⟨o,e,g,rfl,i,λj u h=>l.cell (.inr<|m o rfl)<|k j u h⟩
def sQ.same{V:iV}{n0:M}(h:sQ V n0 d j a)(b:kO V n0 ay a f):sQ V n0 d j f:=⟨h.row.same b h.loc,h.loc,λt c=>(h.each t c).same b,h.side,h.small⟩
def sQ.cell{k b c d o:M}(l:sQ r k (bD b c o d) j a){i:M}(n:i<y j):aW a (R b<|c+i)=H j[i].ptr:=by
 obtain⟨_,⟨g,_⟩|⟨b',h,e,g,_,m⟩⟩:=l.row;cases g;grind
def sQ.shape(h:sQ r b d j a):(d=az/\j=[])\/∃f c e,d=bD f c (y j) e:=by
 rcases h.row.2 with⟨g,i⟩|⟨f,c,e,g,_⟩;grind
 grind
def Ma(k:M)(n:ae)(h:sQ r b d j a)(L:eP a c d 90)(x:eP a g (ar k) 3)(B:eP a m (am n) 9)(Q:r.D a)(t:b<=z (G a))(hF:∀k,r.F k->k<b)(F:b<=c)(D:b<=g)(E:b<=m)(o:M)(A:k+o<y j):cY aZ 312 #[ar o,aA c,aA g,aA m] a λP f=>(∃v p,P=aM (dq #[v,.nilIface])/\jf r b v (fZ n j[k+o].all) p f/\r.D f/\Z r.F a f/\(∀k,p k->z (G a)<=k))\/∃ad,Dp r a f r.F P (λd=>dq #[ad,d]):=by
 rcases h.shape with⟨_,h0⟩|⟨O,e,q,rfl⟩;grind
 have c1:=L.cell;have c2:=x.cell;have c3:=B.cell;have K:=h.cell A;have T:=(h.loc O rfl);have ac:=h.small;have s:cY aZ 313 #[j[k+o].ptr,am n] a.drew λP f=>∃v p,P=aM v/\jf r b v (fZ n j[k+o].all) p f/\r.D f/\Z r.F a.drew f/\(∀k,p k->z (G a)<=k):=Cx (n0:=b) (tbqq:=j[k+o].tb) (ks:=j[k+o].ks) (cs:=j[k+o].cs) n ((h.each _<|aq A).same ⟨ah _,λ_ _=>rfl⟩) (r.eY Q (cZ ay a) cL) t hF
 have w:=U (show∀f,Z r.F a.drew f->aW f (R c 0)=H (bD O e (y j) q)/\aW f (R g 0)=H (ar k)/\aW f (R O<|e+(k+o))=H j[k+o].ptr/\aW f (R m 0)=H (am n)from by
  intro f i;have C:∀x,b<=x->¬r.F x:=λx c a=>by have:=hF x a;omega
  exact⟨i.cell c1 (C _ F) (ak L),i.cell c2 (C _ D) (ak x),i.cell K T.2 (ag T.1 t),i.cell c3 (C _ E) (ak B)⟩)
 have hW:Z r.F a a.drew:=cZ _ _;generalize j[k+o]=tt at*;obtain⟨u,V⟩:∃u,k+o=u:=⟨_,rfl⟩;rw[V]at K w A;have S:(k:X)+(o:X)=(u:X):=by omega
 have e1:(u:X)<(y j:X):=by omega
 have e2:(0:X)<=(u:X):=by omega
 have e3:u<1000000000:=by omega
 have e4:IntKind.i64.wrap (u:X)=(u:X):=by rw[bN];omega
 have e5:wrap64 (u:X)=(u:X):=by unfold wrap64;omega
 unfold bz.ptr at K w s;generalize tt.all=al at*;generalize tt.tb=l at*;clear h L x B Q hF V;go_in
 go_wp2_with fail
 go_region_held3(λa=>aW a (R c 0)=H (bD O e (y j) q)/\aW a (R g 0)=H (ar k)/\aW a (R O<|e+u)=H (aA l)/\aW a (R m 0)=H (am n)) (first|assumption|go_keep) (first
  |(go_at_call 313;refine s.mono ?_;rintro P w1⟨v1,S1,rfl,W,r2,N,r4⟩;have aa:=w w1 N;have R1:=U W;have R2:=U r2;have R3:=U N;have R4:=U r4;clear W r2 N r4))
 go_wp2;go_ret2
 exact .inl ⟨v1,S1,rfl,R1,R2,hW.trans R3<|λ_ c=>.inl c,R4⟩
def Vs(V:iV)(b:M)(v:ab)(h e g m:M)(o:cW)(n:ae):zt V b (((o.drop m).map bz.all).map<|fZ n)where
 f:=312
 cb:=#[aA h,aA e,aA g]
 inv:=λW=>sQ V b v o W/\(eP W h v 90/\eP W e (ar m) 3/\eP W g (am n) 9)/\(b<=h/\b<=e/\b<=g)/\b<=z (G W)/\∀m,V.F m->m<b
 S:=λx=>x=h\/x=e\/x=g
 Ub:=enters_of func312 (by kernel_rfl) rfl
 call:=by
  rintro r q w⟨l,⟨i,j,k⟩,c,a,hF⟩p;have d:m+r<y o:=by simp at q;omega
  rw[kQ,kQ,pR];exact Ma m n l i j k p a hF c.1 c.2.1 c.2.2 r d
 eY:=by
  rintro W p⟨l,⟨i,j,k⟩,c,a,hF⟩d;exact⟨l.same<|d.mono cL,⟨i.same d<|.inl rfl,j.same d<|.inr<|.inl rfl,k.same d<|.inr<|.inr rfl⟩,c,aC a d.1,hF⟩
 lt:=by
  grind
def Sz(g:ae)(h:sQ r b d j a)(hD:r.D a)(i:b<=z (G a))(hF:∀k,r.F k->k<b):cY aZ 309 #[d,am g] a λC o=>∃u p,C=aM u/\jf r b u (fZ g<|bZ j) p o/\r.D o/\Z r.F a o/\(∀k,p k->z (G a)<=k):=by
 have q:Below (z<|G a) a (cN (cN a<|aw #[d] 90)<|aw #[am g] 9):=((Below.refl _ a).alloc (ah _) _).alloc (by simp) _;have v:=zR g ((h.mem i).below q) h.side.AS;have ad:=h.small;have O:=h.shape
 have W:=U (show∀(e:Y)(k:M),Below (z<|G<|cN (cN a<|aw #[d] 90)<|aw #[am g] 9) (cN (cN a<|aw #[d] 90)<|aw #[am g] 9) e->qn j g k->cY aZ 311 #[ar ((y j-k:M):X),.func (.func 312) #[] #[aA<|z<|G a,aA<|z<|G e,aA<|z (G a)+1]] (cN e<|aw #[ar k] 3) λC o=>∃u p,C=aM u/\jf r b u (fZ g<|bZ j) p o/\r.D o/\Z r.F a o/\(∀k,p k->z (G a)<=k)from by
  intro e k c m;have s:=c.size;simp at s;have l:Z ay a (cN e<|aw #[ar k] 3):=(((Z.aR (S:=ay) q).cz<|Z.aR (S:=ay) c).alloc _);have P:eP e (z<|G a) d 90:=(c.block _ (by simp;omega)).trans<|eP.alloc (aJ _ rfl) _;have Q:eP e (z (G a)+1) (am g) 9:=(c.block _<|by simp).trans (aJ _<|by simp);have N:sQ r b d j (cN e<|aw #[ar k] 3):=h.same<|l.same i cL cL;have f:=Iq (Vs r b d (z<|G a) (z<|G e) (z (G a)+1) k j g) (cN e<|aw #[ar k] 3) ⟨N,⟨P.alloc _,aJ _ rfl,Q.alloc _⟩,⟨i,by omega,by omega⟩,aC i l.size,hF⟩ (aC i l.size) hF (by simp;omega);have hl:y (((j.drop k).map bz.all).map<|fZ g)=y j-k:=by simp
  rw[hl]at f;apply f.mono;rintro C o⟨u,p,rfl,hg,hb,hS⟩;rw[h.side.Ca g m]at hg;have n:=l.cz (Z.aR (S:=ay) hb);refine⟨u,p,rfl,hg,r.eY hD n cL,n.mono cL,λan hx=>?_⟩;have al:=l.size;rcases hS an hx with(aa|aa|aa)|aa<;>omega)
 have HY:=U (show∀e,Below (z<|G<|cN (cN a<|aw #[d] 90)<|aw #[am g] 9) (cN (cN a<|aw #[d] 90)<|aw #[am g] 9) e->aW e (R (z<|G a) 0)=H d/\z (G a)<z (G e)from by intro e c;have s:=c.size;simp at s;exact⟨eP.cell (t:=90)<|(c.block _ (by simp;omega)).trans<|eP.alloc (aJ _ rfl) _,by omega⟩);clear h hD hF q;rcases O with⟨rfl,rfl⟩|⟨ao,T,ac,rfl⟩;(·(go_in);(go_wp2_with fail);apply v.mono;rintro C e⟨k,rfl,m,c⟩;obtain rfl:k=0:=Nat.le_zero.1 m.le;have f:=W e 0 c m;obtain⟨y1,y2⟩:=HY e c;clear m c;(go_wp2_with fail);apply f.mono;rintro C w2⟨V,L,rfl,w,x,A,B⟩;have D:=U w;have E:=U x;have F:=U A;have K:=U B;clear w x A B;go_wp2;go_ret;exact⟨V,L,rfl,D,E,F,K⟩);(go_in);(go_wp2_with fail);apply v.mono;rintro C e⟨k,rfl,m,c⟩;have N:=m.le;have f:=W e k c m;obtain⟨y1,y2⟩:=HY e c;obtain⟨l,n⟩:∃l,y j-k=l:=⟨_,rfl⟩;rw[n]at f;(have P:(y j:X)-(k:X)=(l:X):=by omega);(have Q:l<=1000000000:=by omega);(have q6:IntKind.i64.wrap (l:X)=(l:X):=by rw[bN];omega);clear m c n;(go_wp2_with fail);apply f.mono;rintro C w2⟨V,L,rfl,w,x,A,B⟩;have D:=U w;have E:=U x;have F:=U A;have K:=U B;clear w x A B;go_wp2;go_ret;exact⟨V,L,rfl,D,E,F,K⟩
def ND(h:qn j t b)(a:qn j t c):b=c:=by
 rcases nr b c with e|e|e;have f:=a.low b (by have:=a.le;omega) e;have d:=h.vP b (by have:=a.le;omega)<|ah _;rw[f]at d;cases d;exact e;have f:=h.low c (by have:=h.le;omega) e;have d:=a.vP c (by have:=h.le;omega)<|ah _;rw[f]at d;cases d
def DZ:∀{f:cW},Bn f->∀b,∃k,qn f b k
 |[],_,_=>⟨0,ah _,λi a=>absurd a<|gq i,λi a=>absurd a<|gq i⟩
 |t::f,h,b=>by
  obtain⟨j,g⟩:=bB.1 h;cases e:ja (jp t.ks) b with
  |true=>
   obtain⟨k,d⟩:=DZ g b;refine⟨k+1,Nat.succ_le_succ d.le,λi a c=>?_,λi a c=>?_⟩
   .cases i with
    |zero=>exact e
    |succ i=>exact d.low i (by simpa using a)<|by omega
   .cases i with
    |zero=>omega
    |succ i=>exact d.vP i (by simpa using a)<|by omega
  |false=>
   refine⟨0,bP _,λi a c=>absurd c<|gq i,λi a _=>?_⟩;grind[getElem_mem,lq]
def SA(g:ae)(x:X)(h:sQ r b d j a)(hD:r.D a)(s:b<=z (G a))(hF:∀w,r.F w->w<b):cY aZ 308 #[d,am g,aE x] a λac N=>QH r a N (iC x (bZ j) g) ac:=by
 obtain⟨w,u⟩:=DZ h.side.AS g;have m:Below (z<|G a) a (cN a<|aw #[am ⟨#[]⟩,am ⟨#[]⟩,aN aX,aE 0] 171):=(Below.refl _ a).alloc (ah _) _;have av:=h.small;have F:cY aZ 223 #[d,am g] (cN a<|aw #[am ⟨#[]⟩,am ⟨#[]⟩,aN aX,aE 0] 171) λac N=>ac=aM (ar w)/\Below (z<|G a) a N/\iM N (z<|G a) zE:=by apply(zR g ((h.mem s).below m) h.side.AS).mono;rintro ac N⟨o,rfl,A,l⟩;obtain rfl:w=o:=ND u A;exact⟨rfl,m.trans<|l.mono m.size,(l.block _<|by simp).trans<|aJ _ rfl⟩
 have v:∀ad,b<=ad->¬r.F ad:=λad V a=>by have:=hF ad a;omega
 obtain⟨P,C,e⟩:=dz v (λW(t:Below (z<|G a) a W)=>r.eY hD (Z.aR (S:=ay) t) cL)<|λW(t:Below (z<|G a) a W)=>h.same<|(Z.aR (S:=ay) t).same s cL cL;by_cases p:w<y j;(.rcases h.shape with⟨_,h0⟩|⟨ax,L,ap,rfl⟩;(grind);rw[h.side.Cd u p x];have HC:=U<|λW(t:Below (z<|G a) a W)=>(e W t).cell p;have o:=U<|λW(t:Below (z<|G a) a W)=>Cy (n0:=b) (tbqq:=j[w].tb) (ks:=j[w].ks) (cs:=j[w].cs) g x ((e W t).each _<|aq p) (C W t) (aC s t.size) hF;have A:∀W,Below (z<|G a) a W->cY aZ 310 #[aA<|j[w].tb,am g,aE x] W λac N=>QH r W N (iC x j[w].all g) ac:=J o;(have e1:((w:X)==(y j:X))=aX:=by simp;omega);(have e2:(w:X)<(y j:X):=by omega);(have e3:(0:X)<=(w:X):=by omega);clear o h u hD hF v m e;unfold bz.ptr at HC;generalize iC x j[w].all g=fe at*;generalize j[w].tb=aa at*;have o:=U A;clear A;(go_in);(go_wp2_with(go_at_call 223;refine F.mono ?_;rintro ac B⟨rfl,f,c⟩;have hc:=HC B f;have au:=o B f;have n:=U c;have k:=U f;clear c f));refine au.mono ?_;rintro ac w2⟨⟨xk,xv,xd,xb⟩,ok,ev,rfl,T,Q,K⟩;have l:=n.aj K<|P _ s;obtain⟨z0,z1,z2,z3⟩:=l.cells;have y0:=l.free (i:=0);have y1:=l.free (i:=1);have y2:=l.free (i:=2);have y3:=l.free (i:=3);obtain⟨O,al,ao,an⟩:=fY l Q K T;clear l Q K T;unfold E.value;simp only;go_wp2;refine ct (fD rfl _ _ (z<|G a) ⟨xk,xv,xd,xb⟩ _ _ rfl<|O.put ⟨xk,xv,xd,xb⟩) rfl ?_;have D:=iL w2 (z<|G a) ⟨xk,xv,xd,xb⟩;exact⟨⟨xk,xv,xd,xb⟩,ok,ev,rfl,an.imp id<|λ⟨a,b,c,q,d,e⟩=>⟨a,b,c,q,d,e.aj D O.sep⟩,r.eY al D (λad V=>by subst V;exact P _ s),((Z.aR (S:=r.F) k).trans ao<|λw u=>.inl u).trans D<|λad V=>.inr<|by omega⟩);(have A:w=y j:=by have:=u.le;omega);subst A;have l:=h.side.yX u x;rw[l];rcases h.shape with⟨rfl,rfl⟩|⟨ax,L,ap,rfl⟩;(.clear h u hD hF v m l p e;(go_in);(go_wp2_with(go_at_call 223;refine F.mono ?_;rintro ac B⟨rfl,f,c⟩;obtain⟨z0,z1,z2,z3⟩:=c.cells;have y0:=c.free (i:=0);have y1:=c.free (i:=1);have y2:=c.free (i:=2);have y3:=c.free (i:=3);have n:=U c;have k:=U f;clear c f));refine ct (fD rfl _ _ (z<|G a) zE _ _ rfl<|n.put zE) rfl ?_;have o:Below (z<|G a) a (vH B (z<|G a) zE):=k.trans ((iL B (z<|G a) zE).below k.size<|λad V=>by omega);exact⟨zE,aX,.nilIface,rfl,.inl rfl,C _ o,Z.aR o⟩);clear h u hD hF v m l p e;(go_in);(go_wp2_with(go_at_call 223;refine F.mono ?_;rintro ac B⟨rfl,f,c⟩;obtain⟨z0,z1,z2,z3⟩:=c.cells;have y0:=c.free (i:=0);have y1:=c.free (i:=1);have y2:=c.free (i:=2);have y3:=c.free (i:=3);have n:=U c;have k:=U f;clear c f));refine ct (fD rfl _ _ (z<|G a) zE _ _ rfl<|n.put zE) rfl ?_;have o:Below (z<|G a) a (vH B (z<|G a) zE):=k.trans ((iL B (z<|G a) zE).below k.size<|λad V=>by omega);exact⟨zE,aX,.nilIface,rfl,.inl rfl,C _ o,Z.aR o⟩
def IH{w:Y}(t:bz)(h:Nt w t)(A:sg t.ks<=1000000000):cY aZ 189 #[t.ptr] w λW Q=>W=aM (ar (sg t.ks:M))/\Below (z<|G w) w Q:=by
 obtain⟨V,k,cut,o,P,q,b,i,x,f⟩:=h;obtain⟨u,a,T,num⟩:=t;simp only at A f|-;unfold bz.ptr;simp only;have B:=cellAt f.box 5 rfl;have m:=f.lt;have D:=f.small;have v:=U f.cells;clear f;go_in
 go_wp2;go_loopw [3,11] (λc i wr=>∃n:M,n<=y a/\i=ar n/\c=ar (sg (a.take n):M)/\Below (z<|G w) w wr) (λ_ i _=>y a-(intOf i).toNat)
 case atStart=>exact⟨0,bP _,rfl,rfl,Below.refl _ _⟩
 (case round=>obtain⟨n,hn,rfl,rfl,d⟩:=hrel;have C:=Ci a n;have c:=Ci a<|n+1;by_cases j:n<y a;(.have e:∀c i,c<5->(rp.cells a[n])[c]?=H i->aW wr (R q<|b+n*5+c)=H i:=λc i f g=>(d.cell (p:=(R q<|b+n*5+c)) m.2).trans (by rw[bw];exact v _ _<|(iG a n c j f).trans g);rw[ai j,Cj]at c;have g:=U (show sg (a.take<|n+1)=sg (a.take n)+a[n].count by rw[ai j,Cj]);generalize a[n]=aa at*;obtain⟨pos,s,l,first,r⟩:=aa;have F:=e 0 _ (by omega) rfl;have K:=e 1 _ (by omega) rfl;have L:=e 2 _ (by omega) rfl;have N:=e 3 _ (by omega) rfl;have O:=e 4 _ (by omega) rfl;clear e;simp only[kH]at F K L N O;simp only at c g;generalize sg (a.take n)=S at*;have HB:=U d;have E:=d.size;clear d;go_wp2;go_roundw;(case rel=>exact⟨n+1,j,by go_num,by rw[J g];go_num,HB.alloc E _⟩);case measure=>simp[intOf];omega);(have e:n=y a:=by omega);subst e;rw[bI];have HB:=U d;clear d;go_wp2;go_ret;exact⟨rfl,HB⟩)
def kg(a:cW):M:=(a.map<|λt=>sg t.ks).sum
def Im(a:cW)(t:bz):kg (a++[t])=kg a+sg t.ks:=by simp[kg]
def Il(a:cW)(n:M):kg (a.take n)<=kg a:=by
 have h:=bS (λl=>(l.map (λt:bz=>sg t.ks)).sum)<|bV n a;simp only[aP,fw]at h;unfold kg;omega
def Wy(h:O∈j):sg O.ks<=kg j:=by
 induction j with
 |nil=>cases h
 |cons b r a=>
  unfold kg at*;grind
def iW.cell{b c d n:M}(k:iW a (bD b c n d) j){i:M}(m:i<y j):aW a (R b<|c+i)=H j[i].ptr:=by
 obtain⟨_,⟨g,_⟩|⟨b',h,e,g,_,l⟩⟩:=k.row;cases g;grind
def iW.shape(h:iW a d j):(d=az/\j=[])\/∃e b c,d=bD e b (y j) c/\y j<=c:=by
 rcases h.row.2 with⟨f,g⟩|⟨e,b,c,f,g,_⟩;grind
 grind
def zS(h:iW a d j)(B:kg j<=1000000000):cY aZ 188 #[d] a λx w=>x=aM (ar (kg j:M))/\Below (z<|G a) a w:=by
 have v:=h.small;rcases h.shape with⟨rfl,rfl⟩|⟨E,m,s,rfl,_⟩;(.clear h;(go_in);go_wp2;(go_loopw [3,8] (λr o wr=>o=ar 0/\r=ar 0/\wr=a) (λ_ _ _=>0));(case atStart=>grind);(case round=>obtain⟨rfl,rfl,rfl⟩:=hrel;go_wp2;go_ret;exact⟨rfl,Below.refl _ _⟩));(.have q:=U h;clear h;(go_in);go_wp2;(go_loopw [3,8] (λr o wr=>∃n:M,n<=y j/\o=ar n/\r=ar (kg (j.take n):M)/\Below (z<|G a) a wr) (λ_ o _=>y j-(intOf o).toNat));(case atStart=>exact⟨0,bP _,rfl,rfl,Below.refl _ _⟩);(case round=>obtain⟨n,C,rfl,rfl,e⟩:=hrel;have t:=Il j n;have g:=Il j<|n+1;by_cases c:n<y j;(.have b:=q.below e;have u:=b.cell c;rw[ai c,Im]at g;have l:=U (show kg (j.take<|n+1)=kg (j.take n)+sg j[n].ks by rw[ai c,Im]);have i:=IH (w:=wr) j[n] (b.each _<|aq c) (by have:=Wy<|aq c;omega);clear b;unfold bz.ptr at u i;generalize sg j[n].ks=F at*;generalize j[n].tb=p at*;generalize kg (j.take n)=A at*;have HB:=U e;clear e;(go_wp2_with fail);apply i.mono;rintro x D⟨rfl,f⟩;have k:=U f;clear f;go_wp2;go_roundw;(case rel=>exact⟨n+1,c,by go_num,by rw[J l];go_num,HB.trans<|k.mono HB.size⟩);case measure=>simp[intOf];omega);(have b:n=y j:=by omega);subst b;rw[bI];have HB:=U e;clear e;go_wp2;go_ret;exact⟨rfl,HB⟩))
section
open Shelf
attribute [local go_sem] Oper.semAt_some
def oE(v:ab):M->dS->gW
 |_,[]=>[]
 |n,p::a=>zG v n (y p)::oE v (n+y p) a
def Gb(v:ab):∀(n:M)(a:dS),y (oE v n a)=y a
 |_,[]=>rfl
 |n,p::a=>by rw[oE,aY,aY,Gb]
def CI(v:ab)(p:cR):∀(n:M)(a:dS),oE v n (a++[p])=oE v n a++[zG v (n+y a.flatten)<|y p]
 |_,[]=>by simp[oE]
 |n,q::a=>by
  rw[df,oE,CI,oE,df,bK,af,bw]
structure Dv(W:Y)(base N1:M)(v pv:ab)(ps:dS)(t:M):Prop where
 p:eP W N1 pv 354
 f:eP W (N1+1) (ar<|y ps.flatten) 3
 to:eP W (N1+2) (ar t) 3
 o:W.ownsRow base 87 1 pv (y ps) (oE v 0 ps)
 n9:∀k,cK pv=H k->k<N1\/N1+4<=k
 size:N1+4<=z (G W)
 bs:base<=N1
def JZ(a:M)(b:ab)(k:M):Prop:=(a<=k/\k<a+3)\/cK b=H k
def Dv.aj{T:eV}(j:Dv a c g d s l m)(e:Z T a A)(h:∀k,JZ g s k->¬T k):Dv A c g d s l m:=⟨j.p.aj e<|h _<|.inl ⟨by omega,by omega⟩,j.f.aj e<|h _<|.inl ⟨by omega,by omega⟩,j.to.aj e<|h _<|.inl ⟨by omega,by omega⟩,e.own j.o<|λk n=>h k<|.inr n,j.n9,aC j.size e.size,j.bs⟩
def Dv.at(h:Dv a c g d s l m)(n:M):Dv (cq a (R (g+2) 0)<|ar n) c g d s l n:=⟨h.p.other _ (by omega),h.f.other _ (by omega),h.to.set _,(eZ a _ 0 _).own h.o (λk e j=>by have:=h.n9 k e;omega),h.n9,by rw[gP];exact h.size,h.bs⟩
def Dv.more{p:cR}(t:Dv a b c d s l g)(v:eE a f s L)(C:g=y l.flatten+y p)(A:f.ownsRow b 87 1 L (y l+1) (oE d 0 l++[zG d (y l.flatten)<|y p])):(aW f (R c 0)=H s/\f.frozen? (R c 0)=aX)/\(aW (cq f (R c 0) L) (R (c+1) 0)=H (ar<|y l.flatten)/\(cq f (R c 0) L).frozen? (R (c+1) 0)=aX)/\aW (cq f (R c 0) L) (R (c+2) 0)=H (ar g)/\Dv (cq (cq f (R c 0) L) (R (c+1) 0)<|ar g) b c d L (l++[p]) g/\Z (JZ c s) a (cq (cq f (R c 0) L) (R (c+1) 0)<|ar g)/\∀k,JZ c L k->JZ c s k\/z (G a)<=k:=by
 have e:=Z.fH v;have D:=t.size;have h:∀x,c<=x->x<c+3->¬(cK s=H x):=λx e g n=>by have:=t.n9 x n;omega
 have o:=t.p.aj e (h _ (by omega)<|by omega);have r:=(t.f.aj e<|h _ (by omega)<|by omega).other (b':=c) (i:=0) L (by omega);have w:=(t.to.aj e<|h _ (by omega)<|by omega).other (b':=c) (i:=0) L (by omega);have j:∀k,cK L=H k->k<c\/c+4<=k:=by intro k u;rcases v.vp with n|⟨x,n,B⟩;exact t.n9 k<|n▸u;grind
 refine⟨⟨o.cell,o.free⟩,⟨r.cell,r.free⟩,w.cell,⟨(o.set L).other _ (by omega),?_,w.other _ (by omega),?_,j,?_,t.bs⟩,?_,?_⟩;have:=r.set<|ar g;rw[C]at this|-;rw[eH,af];grind
 rw[af,CI,dE];refine(eZ _ _ 0 _).own ((eZ _ _ 0 _).own A ?_) ?_;(grind);grind
 rw[gP,gP];have:=e.size;omega;exact((e.mono (T:=JZ c s)<|λk u=>.inl<|.inr u).setCell _ 0 _<|.inl<|.inl ⟨by omega,by omega⟩).setCell _ 0 _<|.inl<|.inl ⟨by omega,by omega⟩;rintro k(n|n);exact .inl<|.inl n;rcases v.vp with q|⟨x,q,B⟩;exact .inl<|.inr<|q▸n;grind
structure Dk(w:Y)(N1:M)(v:ab)(n L:M)(pre:cJ (M×cR))(B:eV)(W:Y):Prop where
 ex:∃ps cur pv,Dv W (z (G w)+2) N1 v pv ps (y<|io pre)/\io pre=ps.flatten++cur/\(∀rest,jw n L 0 0 [] (pre.map (·.2)++rest)=ps++jw n L (y ps) (y<|io pre) cur rest)/\∀k,B k↔JZ N1 pv k
 l:eP W (z<|G w) v 87
 n:eP W (z (G w)+1) (ar n) 3
 aj:Z ay w W
def Dk.lt{pre:cJ (M×cR)}(n:Dk a c d g m pre p A):∀k,p k->z (G a)+2<=k/\k<z (G A):=by
 obtain⟨o,h,q,e,_,_,i⟩:=n.ex;intro k j;have:=e.bs;have:=e.size;rcases(i k).1 j with l|l;grind
 have:=bM e.o k l;grind
def Dk.stays{pre:cJ (M×cR)}{T:eV}(o:Dk a b d c g pre p f)(h:Z T f A)(e:∀k,T k->¬p k/\b+3<=k):Dk a b d c g pre p A:=by
 obtain⟨s,i,t,n,q,r,m⟩:=o.ex;have:=n.bs;exact⟨⟨s,i,t,n.aj h<|λk j l=>(e k l).1<|(m k).2 j,q,r,m⟩,o.l.aj h (λl=>by have:=(e _ l).2;omega),o.n.aj h (λl=>by have:=(e _ l).2;omega),o.aj.trans h<|λk j=>.inr (by have:=(e k j).2;omega)⟩
def NE{pre:dS}{gg:cR}(h:∀rest,jw b c 0 0 [] (pre++rest)=l++jw b c (y l) g e rest):((y l+1)*c/b<=g+y gg->∀rest,jw b c 0 0 [] (pre++[gg]++rest)=(l++[e++gg])++jw b c (y<|l++[e++gg]) (g+y gg) [] rest)/\(¬(y l+1)*c/b<=g+y gg->∀rest,jw b c 0 0 [] (pre++[gg]++rest)=l++jw b c (y l) (g+y gg) (e++gg) rest):=by
 constructor;intro a rest;rw[bA,h,df,cV,nM,dH a];simp;intro a rest;rw[bA,h,df,cV,nM,dF a]
def VG:(prog.info? 87).map (λi=>(i.zero,i.size,i.bytes))=H (H az,1,24):=by kernel_rfl
def Ri(h:kC a d e)(hs:dV e)(hl:y e<=1000000)(u:∀k,cK d=H k->k<z (G a)):cY aZ 224 #[d] a λeg w'=>∃v',eg=aM v'/\w'.ownsRow (z<|G a) 87 1 v' (y<|gC e) (oE d 0<|gC e)/\Z ay a w':=by
 obtain⟨i0,cd,cr,cs,cu⟩:=di VG;obtain⟨bl,n,cp⟩:=bY h;have dT:=AU d bl (y e) n cp;obtain⟨N,hN⟩:∃N,rZ (y e)=N:=⟨_,rfl⟩;have el:N<=10418:=by unfold rZ at hN;omega
 have bx:0<y e->0<N:=by unfold rZ at hN;omega
 have e1:Int.tdiv ((y e:X)+96-1) 96=(N:X):=by(have:((y e:X)+96-1)=((y e+95:M):X):=by omega);rw[this,<-hN];unfold rZ;grind
 unfold gC;rw[hN];obtain⟨HN,db,HH,HV⟩:=fY hN bx h u;clear h u hN bx;subst cp;refine(dP (n:=3)).1 ?_;refine callsIn_of_wp_marks func224 rfl trivial ?_ rfl;simp only[ntmps224,fo,aY,dG,Nat.reduceAdd,Nat.reduceSub,eM,eL,fp,eX,cV,df]
 gi_wp2_with(first
  |(gi_at_make;go_loud(refine wpListIn_make_own _ rfl _ _ 354 rfl (z (G a)+2) 87 i0 az 1 underlying354 cd cr cs _ _ _ N rfl rfl (by omega) (by rw[cu];omega) (by unfold maxLen;omega) (by simp) ?_;intro g ck w;have Q:eP g (z<|G a) (.slice bl (y e) n) 87:=(w.block _ (by simp<;>omega)<|by simp).trans<|eP.alloc (aJ _ rfl) _;have T:eP g (z (G a)+1) (.int .i64 N) 3:=(w.block _ (by simp<;>omega)<|by simp).trans (aJ _<|by simp);have y0:=Q.cell;have y1:=T.cell;have y2:=ak Q;have y3:=ak T;have y4:z (G a)<z (G g)+1:=(by omega);have y5:z (G a)<z (G g)+1+1:=(by omega);have cx:=U Q;have cB:=U T;have aU:Hid (g.ownsRow (z (G a)+2) 87 1 (bD (z (G a)+1+1) 0 0 N) 0 []):=U (by simp_all);have cM:=U w;clear ck w Q T))
  |(refine⟨trivial,?_⟩;gi_at_call 152;refine(dP.2 (dT _)).mono ?_;rintro eg w1⟨rfl,rfl⟩))
 obtain⟨W0,t⟩:∃W0,(cN (cN (cN (cN g<|aw #[bD (z (G a)+1+1) 0 0 N] 354)<|aw #[ar 0] 3)<|aw #[ar 0] 3)<|aw #[I bl (y e) n] 87)=W0:=⟨_,rfl⟩;have ew:z (G W0)=z (G g)+4:=by rw[<-t];simp
 have ec:Z ay a g:=(((Z.refl ay a).alloc<|aw #[I bl (y e) n] 87).alloc<|aw #[ar N] 3).cz (Z.ee (S:=ay) cM<|by simp);have x:Z ay g W0:=by rw[<-t];exact(((cF ay g).alloc _).alloc _).alloc _
 have cm:Z ay a W0:=ec.cz x;have dv:eP W0 (z (G g)+3) (I bl (y e) n) 87:=by rw[<-t];exact aJ _<|by simp
 have br:kC W0 (I bl (y e) n) e:=HH.aj cm<|λk b=>⟨id,HV k b⟩;have hA0:Dk a (z<|G g) (I bl (y e) n) N (y e) [] (JZ (z<|G g)<|bD (z (G a)+1+1) 0 0 N) W0:=by refine⟨⟨[],[],_,⟨?_,?_,?_,?_,?_,by omega,by omega⟩,rfl,λrest=>rfl,λk=>qY⟩,cx.aj x id,cB.aj x id,cm⟩;rw[<-t];grind[eP.alloc,aJ];rw[<-t];exact eP.alloc (eP.alloc (aJ _<|by simp) _) _;rw[<-t];exact eP.alloc (aJ _<|by simp) _;exact x.own aU<|λ_ _ n=>n;intro k b;have:=(aU.lt k b).2;exact .inl this
 clear y0 y1 y4 y5;rw[t];refine pj (m:=3) (arg:=Gq<|I bl (y e) n) (V:=zf) (n0:=z<|G a) (gf:=215) (lb:=#[aA<|z (G g)+3]) (l:=nQ 0<|im e) (S:=λk=>k=z (G g)+3) ?geval (enters_of func215 (by kernel_rfl) rfl) (λ_=>rfl) (wB (z<|G a) 2 dv br HV (by omega)<|by omega) trivial (by omega) (λk b=>by omega) (λpre av bq=>Dk a (z<|G g) (I bl (y e) n) N (y e) pre av bq) (λ_ _ _ _=>False) _ hA0 (λk b n=>by rcases n with⟨_,n⟩|n;omega;have:=(aU.lt k n).2;omega) (λpre av bq D k b=>⟨by have:=(D.lt k b).1;omega,(D.lt k b).2⟩) ?st (λ_ _ _ _ _ _ h=>h.elim) ?body ?done ?stop;case geval=>rfl
 (case st=>intro pre av bq f l D ht c;refine D.stays ht<|λk b=>⟨(c k b).1,?_⟩;rcases(c k b).2 with n|n|n;omega;exact n.elim;omega);(case stop=>grind)
 case body=>
  rintro lr pre⟨ax,l⟩av bq es dr ch K D _;obtain⟨hn,eA,b⟩:=Jq hs K;have eo:0<y l:=gl.2 b.ne;have er:ax+y l+y eA=y e:=by rw[b.all,hn];simp;omega
  obtain⟨cv,c,ek,hx,eq⟩:=br.some (by omega);cases hx;have dx:∀q∈pre.map (·.2),q≠[]:=by
   obtain⟨_,au,eg⟩:=yT _ _ _ _ _ K;exactλq hq=>AT e q (by rw[<-eg];simp[hq])
  unfold Gq zG;simp only;have F:=hn.symm;have HA:=U D;clear D K b hn;gi_wp2;refine⟨Z.refl _ _,λP bh=>?_⟩;have hA2:=HA.stays bh (λk b=>by grind);obtain⟨j,A,pv,u,hcut,r,hB⟩:=hA2.ex;rw[F]at u r;have et:y j<=ax:=by
   have h1:=r [];rw[dM]at h1;have h2:j=jw N (y e) 0 0 [] (pre.map (·.2)):=by rw[h1];simp[jw]
   have h3:=CR (ps:=j) (by rw[h2];exact KD _ _ _ _ dx);have h4:=bS y hcut;rw[F,af]at h4;omega
  have cb:y j.flatten+y A=ax:=by rw[<-F,hcut,af]
  obtain⟨px,pc,bf⟩:=aB u.o;have z0:=u.to.cell;have z1:=u.to.free;have co:=u.at (ax+y l);have aa:Z av P (cq P (R (z (G g)+2) 0)<|ar ((ax+y l:M):X)):=(Z.refl av P).setCell _ 0 _<|.inl<|(hB _).2<|.inl ⟨by omega,by omega⟩;have ce:=hA2.l.aj aa (λn=>by have:=(HA.lt _ n).1;omega);have cj:=hA2.n.aj aa (λn=>by have:=(HA.lt _ n).1;omega);obtain⟨q,hq⟩:∃q,(y j+1)*y e/N=q:=⟨_,rfl⟩;obtain⟨cw,hp⟩:∃cw,(y j+1)*y e=cw:=⟨_,rfl⟩;have eu:cw<=1000001*1000000:=by rw[<-hp];exact Nat.mul_le_mul (by omega) hl
  have a1:((y j:X)+1)*(y e:X)=(cw:X):=by rw[<-hp];grind
  have a2:Int.tdiv (cw:X) (N:X)=(q:X):=by rw[<-hq,hp];grind
  have em:=db (by omega);have bg:=NE (gg:=l) r;rw[hq]at bg;have b1:((N:X)==0)=aX:=by simp;omega
  have b2:IntKind.i64.wrap (cw:X)=(cw:X):=by rw[bN];omega
  have ev:q<=cw:=by rw[<-hq,hp];exact Nat.div_le_self _ _
  have b3:IntKind.i64.wrap (q:X)=(q:X):=by rw[bN];omega
  have dm:¬((N:X)=0):=by omega
  have dn:¬(N=0):=by omega
  obtain⟨ba,HB,aV,O,bo,al⟩:=lf co hB aa bh bg hcut;obtain⟨aF,dc,bm,bn,aD⟩:=iO cb F ce cj hA2;clear co hB aa bh bg hcut F ce cj r u hq hp hA2 cb;subst bf;gi_wp2_with fail
  rw[show z (G g)+1+1=z (G g)+2 from rfl,show z (G g)+2+1=z (G g)+3 from rfl,show((ax:X)+(y l:X))=((ax+y l:M):X)by push_cast;rfl];generalize ds:cq P (R (z (G g)+2) 0) (ar ((ax+y l:M):X))=W3 at*;clear ds;have s0:=ba.to.cell;have s1:=ba.p.cell;have s2:=bm.cell;have s3:=bn.cell;obtain⟨au,L⟩:∃au,ax+y l=au:=⟨_,rfl⟩;rw[L]at s0|-;rename_i QQ KK bv;refine Bv (by kernel_rfl) (by kernel_rfl) (by kernel_rfl) (λey a h=>h) ?_;repeat(quiet_step (fail))
  refine wpQuiet_nil ?_;rintro _⟨nq,rfl⟩;show KK _ _;apply bv;clear bv;have b4:IntKind.i64.wrap ((y j:X)+1)=(y j:X)+1:=by rw[bN];omega
  rw[b4,a1,b2,a2,b3];obtain⟨p,bb⟩:∃p,W3.drewN nq=p:=⟨_,rfl⟩;have o:Z ay W3 p:=by rw[<-bb];exact iY _ W3 nq
  rw[bb];have bi:=ba.aj o<|λ_ _=>id;have ex:Z (λk=>av k\/k=lr) bq p:=((O.mono<|λk b=>.inl<|.inr b).trans aV<|λk b=>.inl<|.inl b).cz o;have W:=bm.aj o id;have ea:=bn.aj o id;have cn:Z ay a p:=(aD.aj.trans aV<|λk b=>.inr (by have:=(aD.lt k b).1;omega)).cz o;have ap:Z av P p:=aV.cz o;have cf:lr<z (G P):=ag ch.1 O.size;have en:z (G bq)<=z (G P):=O.size;have v:=U (show∀(E:Y)(pf:ab)(f:dS)(ac:cR),Dv E (z (G a)+2) (z<|G g) (bD cv c (y e) n) pf f (ax+y l)->io pre++l=f.flatten++ac->(∀rest,jw N (y e) 0 0 [] (pre.map (·.2)++[l]++rest)=f++jw N (y e) (y f) (ax+y l) ac rest)->Z av p E->(∀k,JZ (z<|G g) pf k->av k\/z (G p)<=k)->BM zf (λpre av bq=>Dk a (z<|G g) (bD cv c (y e) n) N (y e) pre av bq) (λ_ _ _ _=>False) (pre++[(ax,l)]) av bq P lr .normal ⟨#[],[]⟩ E fromλE pf f ac h1 h2 h3 h4 h5=>by
   have e1:io (pre++[(ax,l)])=io pre++l:=tT _ _ _;have e2:y (io<|pre++[(ax,l)])=ax+y l:=by rw[e1,af,J dc]
   have B:∀k,av k->z (G a)+2<=k:=λk b=>(aD.lt k b).1;have s:Z av P E:=ap.trans h4 (λk b=>.inl b);refine⟨trivial,JZ (z (G g)) pf,⟨⟨f,ac,pf,by rw[e2];exact h1,by rw[e1];exact h2,by rw[e2,aP];exact h3,λk=>qY⟩,W.aj h4 (λn=>by have:=B _ n;omega),ea.aj h4 (λn=>by have:=B _ n;omega),cn.trans h4 (λk b=>.inr (by have:=B k b;omega))⟩,(O.mono (λk b=>.inl (.inr b))).trans s (λk b=>.inl (.inl b)),s.block lr cf dr,λk b=>(h5 k b).imp_right (λn=>by have:=ap.size;omega)⟩)
  clear bb s0 s1 s2 s3 a1 a2 b1 b2 b3 b4 dm dn z0 z1;have cc:y j.flatten<=au/\y j.flatten<au:=by have:=J aF;omega
  by_cases cl:q<=au
  .have eb:(q:X)<=(au:X):=by omega
   have E:∀f:Y,Z ay p f->Dv f (z (G a)+2) (z<|G g) (bD cv c (y e) n) (I px (y j) pc) j au:=λf ht=>L▸bi.aj ht (λ_ _=>id);have cE:=U E;have cT:=U W;obtain⟨ad,hf⟩:∃ad,y j.flatten=ad:=⟨_,rfl⟩;have bp:=U (show∀f:Y,Z ay p f->aW f (R (z<|G g) 0)=H (I px (y j) pc)/\aW f (R (z<|G a) 0)=H (bD cv c (y e) n)/\aW f (R (z (G g)+1) 0)=H (ar (ad:X))/\aW f (R (z (G g)+2) 0)=H (ar (au:X))fromλf ht=>⟨(E f ht).p.cell,(W.aj ht id).cell,hf▸(E f ht).f.cell,(E f ht).to.cell⟩);rw[hf]at cc;have Hf:=U hf;have bE:=bp p.drew<|cZ _ p;have b4:(ad:X)<=(au:X):=by omega
   have b5:(au:X)<=(n:X):=by omega
   have b6:¬(n-ad=0):=by omega
   have b7:(0:X)<=(ad:X):=by omega
   have ej:¬(n=ad):=by omega
   clear E W hf;gi_wp2_with fail
   rename_i ei dk an;refine uu (λf=>aW f (R (z<|G g) 0)=H (I px (y j) pc)/\aW f (R (z<|G a) 0)=H (bD cv c (y e) n)/\aW f (R (z (G g)+1) 0)=H (ar (ad:X))/\aW f (R (z (G g)+2) 0)=H (ar (au:X))) 7 (by kernel_rfl) (by kernel_rfl) (λey a h=>h) ?_;refine fh 0 ?_;iterate 5 (refine iz (v:=?_) bE rfl (by kernel_rfl) lk rfl ?_ ?_;rotate_left;(focus(rintro f⟨z0,z1,z2,z3⟩;go_simp;try rfl));simp only[Act.put,dW,Nat.reduceAdd])
   apply ii;refine bj (i:=5) rfl rfl (by kernel_rfl) ?_;intro K5 bs;go_simp;have B:Z ay p (cN p<|aw #[bD cv (c+ad*4) (au-ad)<|n-ad] 87).drew:=(cF _ p).of_heap rfl;have s:=cE _ B;have ef:=s.size;refine bs _ _ (λ_=>bp _ B) ?_;try simp only[Act.put,dW]
   refine bj (i:=6) rfl rfl (by kernel_rfl) ?_;intro K6 bt;simp only[de,cD,cI];refine kp (.tmp 32) (.tmp 37) 354 rfl (z (G a)+2) 87 i0 az 1 24 underlying354 cd cr cs cu rfl (by decide) (I px (y j) pc) (y j) (oE (bD cv c (y e) n) 0 j) rfl s.o (R (z<|G p) 0) 1 1 [bD cv (c+ad*4) (au-ad)<|n-ad] rfl rfl (pN _ _ _) (by simp[Value.oneCell']) (by omega) (by omega) (by grind) ?_;intro v6 w6 bd bk;obtain⟨x6,c6,ed⟩:=aB bd;subst ed;obtain⟨⟨y0,y1⟩,⟨y4,y5⟩,y6,ca,bT,bL⟩:=s.more (p:=A++l) bk (by rw[af];have:=J aF;omega) (by
    have eg:zG (bD cv c (y e) n) (y j.flatten) (y<|A++l)=bD cv (c+ad*4) (au-ad) (n-ad):=by
     unfold zG;simp only;rw[J Hf,show y (A++l)=au-ad by rw[af];have:=J aF;have:=J Hf;omega]
    rw[eg];exact bd)
   have ac:=Z.fH bk;have bc:∀bl,z (G g)<=bl->bl<z (G g)+3->¬(cK (I px (y j) pc)=H bl):=λbl h1 h2 q=>by have:=s.n9 bl q;omega
   refine bt _ _ (λ_=>⟨y0,((cT.aj B id).aj ac (λq=>by have:=(bM s.o _ q).1;omega)).cell,Hf▸(s.f.aj ac<|bc _ (by omega)<|by omega).cell,(s.to.aj ac<|bc _ (by omega)<|by omega).cell⟩) ?_;try simp only[Act.put,dW]
   have ao:=v _ _ _ [] (L▸ca) (by rw[J al];simp) (bo.1 (by rw[L];exact cl)) (((Z.refl ay p).cz B|>.mono cL).trans bT<|λk b=>.inl<|(HB k).2 b)<|λk b=>(bL k b).imp (λn=>(HB k).2 n) (λn=>by have:=B.size;omega);have C:=U ao;rw[J Hf]at y4;clear ao ca bT bL s bd bk ac bc B ef v;refine bj (i:=7) rfl rfl (by kernel_rfl) ?_;intro K7 bu;go_simp;refine bu _ _ (λq=>(q rfl).elim) ?_;refine eS (by kernel_rfl) ?_ _;show dk _ _;refine an _ _ ?_;clear an bs bt bu bE;gi_wp2;exact C
  .have eb:¬((q:X)<=(au:X)):=by omega
   have C:=U<|v p _ j (A++l) bi (by rw[J al,bA]) (bo.2 (by rw[L];exact cl)) (Z.refl _ _)<|λk b=>.inl<|(HB k).2 b;clear v bi;gi_wp2;exact C
 (case done=>intro v av bq F D o _ s;obtain⟨j,A,pv,u,hcut,r,hB⟩:=D.ex;rw[Bb]at hcut u r;(have c:jw N (y e) 0 0 [] (im e)=j:=by have:=r [];rw[BW,dM]at this;rw[this];simp[jw]);have l:=U c;obtain⟨px,pc,bf⟩:=aB u.o;have L:=u.p.cell;have p:cK pv≠H v:=λq=>o<|(hB v).2<|.inr q;obtain⟨C,B,E⟩:=dz u.o s D.aj;have K:=ak s;clear D u hcut r hB s c;subst bf;gi_wp2;have f:=gF bq v<|.deferred none;refine⟨by simp,.inl ⟨_,_,rfl,run_takeDeferred B,?_⟩⟩;refine⟨_,iw rfl _ _ _,?_⟩;exact⟨_,rfl,by rw[J l];exact fX (f.own C<|λk b q=>p (by rw[<-q];exact b)) (by omega),E.trans f<|λk b=>.inr (by subst b;omega)⟩)
end
def iW.take{ts:cW}(h:iW a (bD b c (y ts) g) ts)(i:M)(m:i<=y ts):iW a (bD b c i g) (ts.take i):=by
 have j:y (ts.take i)=i:=by simp;omega
 have l:=h.shape;refine⟨⟨by simp,.inr ⟨b,c,g,by rw[j],?_,λp u d=>?_⟩⟩,λo f=>h.lt o f,λt k=>h.each t<|dZ k,by have:=h.small;omega⟩;grind
 rw[uM,oS]at d;split at d;rename_i e;rw[fq,aQ<|by omega]at d;cases d;exact h.cell (by omega);cases d
def iW.drop(h:iW a (bD b c (y j) g) j)(i:M)(n:i<=y j):iW a (bD b (c+i) (y j-i)<|g-i) (j.drop i):=by
 have k:y (j.drop i)=y j-i:=by simp
 have m:=h.shape;refine⟨⟨by simp,.inr ⟨b,c+i,g-i,by rw[k],?_,λo u e=>?_⟩⟩,λp f=>h.lt p (by simpa[cK]using f),λt l=>h.each t<|dQ l,by have:=h.small;omega⟩;grind
 rw[List.map_drop,List.getElem?_drop]at e;(have d:i+o<y j:=by grind);rw[fq,aQ d]at e;cases e;rw[bw];exact h.cell d
def iW.empty(h:iW a (bD b c m g) j)(d:M):iW a (bD b d 0 0) []:=⟨⟨rfl,.inr ⟨b,d,0,rfl,ah _,(by grind)⟩⟩,(λk e=>h.lt k<|by simpa[cK]using e),(by grind),bP _⟩
structure zv(ts:cW)(lo hi:ae)(i j:M):Prop where
 Zp:qn ts lo i
 le:i<=j
 kK:j<=y ts
 within:∀k(hk:k<y ts),i<=k->k<j->ja hi (iZ ts[k].ks)=aX
 behind:∀(hj:j<y ts),ja hi (iZ ts[j].ks)=ci
def Mb(K r:ae)(h:iW a d j)(T:Bn j):cY aZ 161 #[d,am K,am r] a λaa L=>∃i F V W v3,aa=aM (dq #[V,W,v3])/\zv j K r i F/\iW L V (j.take i)/\iW L W ((j.drop i).take<|F-i)/\iW L v3 (j.drop F)/\(∀k,cK V=H k\/cK W=H k\/cK v3=H k->cK d=H k)/\Below (z<|G a) a L:=by
 have ao:=h.small;have C:=zR K h T;rcases h.shape with⟨rfl,rfl⟩|⟨ac,g,c,rfl,ad⟩;(.clear h T;(go_in);(go_wp2_with fail);apply C.mono;rintro aa w1⟨k,rfl,e,m⟩;obtain rfl:k=0:=Nat.le_zero.1 e.le;have O:=U e;have HB:=U m;clear e m;go_wp2;(go_loopw [10] (λF wr=>F=ar 0/\wr=w1) (λ_ _=>0));(case atStart=>grind);(case round=>obtain⟨rfl,f⟩:=hrel;subst wr;(go_wp2_with fail);(go_quiet(fail));go_wp2;(go_ret3);have b:iW (w1.drewN nq) az []:=⟨⟨rfl,.inl ⟨rfl,rfl⟩⟩,(by intro k e;cases e),(by grind),bP _⟩;exact⟨0,0,_,_,_,rfl,⟨O,ah _,ah _,λk e=>absurd e<|gq k,λE=>absurd E<|kP 0⟩,b,b,b,(by simp_all),below_drewN HB _⟩))
 .have HL:=U h;clear h T;have an:=Yb;go_in
  go_wp2_with fail
  apply C.mono;rintro aa w1⟨i,rfl,e,m⟩;have v:=e.le;have O:=U e;have HB:=U m;clear e m;go_wp2;go_loopw [10] (λF wr=>∃n:M,i<=n/\n<=y j/\F=ar n/\(∀k(e:k<y j),i<=k->k<n->ja r (iZ j[k].ks)=aX)/\Below (z<|G a) a wr) (λF _=>y j-(intOf F).toNat)
  case atStart=>exact⟨i,ah _,v,rfl,λk _ ad ac=>absurd ad (by omega),HB⟩
  case round=>
   obtain⟨n,S,B,rfl,hw,P⟩:=hrel;have f:=HL.below P;obtain⟨al,HW,l⟩:=dz f hw P;clear hw P;have e1:(i:X)<=(n:X):=by omega
   have e2:(n:X)<=(y j:X):=by omega
   have e3:(i:X)<=(y j:X):=by omega
   have e4:(n:X)<=(c:X):=by omega
   have e5:(i:X)<=(c:X):=by omega
   have e6:(y j:X)<=(c:X):=by omega
   have q:=U (show(∀(E:n<y j),ja r (iZ j[n].ks)=ci)->zv j K r i n/\iW wr (bD ac g i c) (j.take i)/\iW wr (bD ac (g+i) (n-i)<|c-i) ((j.drop i).take<|n-i)/\iW wr (bD ac (g+n) (y j-n)<|c-n) (j.drop n)from by
    intro o;refine⟨⟨O,S,B,HW,o⟩,f.take i v,?_,f.drop n B⟩;have u:=f.drop i v;have D:=iW.take (ts:=j.drop i) (by rw[jc];exact u) (n-i) (by rw[jc];omega);exact D)
   by_cases p:n<y j
   .have hp:=f.cell p;have u:=(f.each _<|aq p).first;have e7:(n:X)<(y j:X):=by omega
    have e8:(0:X)<=(n:X):=by omega
    have o:=Jl (iZ j[n].ks) r;clear f;unfold bz.ptr at hp u;cases hkl:ja r (iZ j[n].ks)with
    |false=>
     rw[hkl]at o;simp only[nG]at o;have HN:=U (show∀k(e:k<y j),k=n->ja r (iZ j[k].ks)=aX fromλk e aa=>by grind);clear hkl;generalize iZ j[n].ks=fk at*;generalize j[n].tb=D at*;go_wp2_with fail
     apply u.mono;rintro aa Q⟨rfl,N⟩;subst Q;go_wp2;go_roundw;case rel=>exact⟨n+1,by omega,p,by go_num,λk e ad ac=>by rcases ik k n with ap|ap;exact HW k e ad ap;exact HN k e (by omega),l⟩
     case measure=>simp[intOf];omega
    |true=>
     rw[hkl]at o;simp only[uO]at o;have x:=U<|q<|λ_=>hkl;clear hkl;generalize iZ j[n].ks=fk at*;generalize j[n].tb=D at*;go_wp2_with fail
     apply u.mono;rintro aa Q⟨rfl,N⟩;subst Q;go_wp2_with fail
     go_quiet(fail)
     go_wp2;go_ret3
     obtain⟨s,t,w,A⟩:=J x;have b:Below (z<|G wr) wr (wr.drewN nq):=below_drewN (Below.refl _ _) _;exact⟨i,n,_,_,_,rfl,s,t.below b,w.below b,A.below b,(by intro k e;simpa[cK]using e),below_drewN l _⟩
   .have u:n=y j:=by omega
    have x:=U<|q<|λE=>absurd E p;have e7:¬(n:X)<(y j:X):=by omega
    have hE:=f.empty g;have N:=U hE;clear f hE;have D:=U (show j.drop n=[]by rw[u,gv]);rcases ik n c with hc|hc
    .have o:¬(c-n=0):=by omega
     have d2:¬(c-i=0):=by omega
     clear u;go_wp2_with fail
     go_quiet(fail)
     go_wp2;go_ret3
     obtain⟨s,t,w,A⟩:=J x;have b:Below (z<|G wr) wr (wr.drewN nq):=below_drewN (Below.refl _ _) _;exact⟨i,n,_,_,_,rfl,s,t.below b,w.below b,A.below b,(by intro k e;simpa[cK]using e),below_drewN l _⟩
    .have o:c=n:=by omega
     subst o;clear u;rcases ik i c with Q|Q
     .have d2:¬(c-i=0):=by omega
      go_wp2_with fail
      go_quiet(fail)
      go_wp2;go_ret3
      obtain⟨s,t,w,A⟩:=J x;have b:Below (z<|G wr) wr (wr.drewN nq):=below_drewN (Below.refl _ _) _;refine⟨i,c,_,_,_,rfl,s,t.below b,w.below b,?_,(by intro k e;simpa[cK]using e),below_drewN l _⟩;rw[J D];exact N.below b
     .have o:i=c:=by omega
      subst o;go_wp2_with fail
      go_quiet(fail)
      go_wp2;go_ret3
      obtain⟨s,t,w,A⟩:=J x;have b:Below (z<|G wr) wr (wr.drewN nq):=below_drewN (Below.refl _ _) _;refine⟨i,i,_,_,_,rfl,s,t.below b,?_,?_,(by intro k e;simpa[cK]using e),below_drewN l _⟩
      .rw[J D,Aj];exact N.below b
      .rw[J D];exact N.below b
def iW.of_heap{w w':Y}(i:iW w d j)(k:w'.heap=w.heap):iW w' d j:=by
 refine⟨?_,λq n=>by rw[k];exact i.lt q n,λt o=>(i.each t o).of_heap k,i.small⟩;obtain⟨h,g|⟨p,b,e,g,l,m⟩⟩:=i.row;exact⟨h,.inl g⟩;exact⟨h,.inr ⟨p,b,e,g,l,λn u i=>(dt (w:=w)<|by rw[k]).trans<|m n u i⟩⟩
def Xf(a:cW):Prop:=∀i(h:i+1<y a),ja (jp a[i].ks) (iZ a[i+1].ks)=ci
def ji.apart(h:ji j):Xf j:=by
 intro i a;obtain⟨x,d,b⟩:=(h.pure _<|aq<|show i<y j by omega).yl;obtain⟨f,e,c⟩:=(h.pure _<|aq a).Ib;rw[<-b,<-c];exact h.pair (show i<y j by omega) a (by omega) d e
def TQ(h:iW a d j)(l:Xf j):cY aZ 86 #[d] a λu g=>u=aM (aN ci)/\Below (z<|G a) a g:=by
 have E:=h.small;rcases h.shape with⟨rfl,rfl⟩|⟨W,s,B,rfl,_⟩;(.clear h l;(go_in);go_wp2;(go_loopw [6] (λw wr=>w=ar 0/\wr=a) (λ_ _=>0));(case atStart=>grind);(case round=>obtain⟨rfl,rfl⟩:=hrel;go_wp2;go_ret;exact⟨rfl,Below.refl _ _⟩))
 .have A:=U h;have x:=U l;have C:=Jz;clear h l;go_in
  go_wp2;go_loopw [6] (λw wr=>∃n:M,n<=y j/\w=ar n/\Below (z<|G a) a wr) (λw _=>y j-(intOf w).toNat)
  case atStart=>exact⟨0,bP _,rfl,Below.refl _ _⟩
  case round=>
   obtain⟨n,D,rfl,o⟩:=hrel;have b:=A.below o;have HB:=U o;clear o;by_cases i:n<y j
   .rcases gB n with k|k
    .subst k;clear b;go_wp2_with fail
     go_quiet(fail)
     go_wp2;go_roundw;case rel=>exact⟨1,by omega,by go_num,below_drewN HB _⟩
     case measure=>simp[intOf];omega
    .obtain⟨m,rfl⟩:∃m,n=m+1:=⟨n-1,by omega⟩;have r:=b.cell (show m<y j by omega);have f:=b.cell i;have e:∀W,W.heap=wr.heap->cY aZ 141 #[j[m].ptr] W λu g=>u=aM (am<|jp j[m].ks)/\∃q,g=W.drewN q:=λW a=>((b.each _<|aq<|show m<y j by omega).of_heap a).last;have c:∀W,W.heap=wr.heap->cY aZ 142 #[j[m+1].ptr] W λu g=>u=aM (am<|iZ j[m+1].ks)/\g=W:=λW a=>((b.each _<|aq i).of_heap a).first;have p:=x m i;unfold ja at p;clear b;unfold bz.ptr at r f e c;generalize jp j[m].ks=S at*;generalize iZ j[m+1].ks=T at*;generalize j[m].tb=V at*;generalize j[m+1].tb=t2 at*;obtain⟨t,v⟩:∃t,m+1=t:=⟨_,rfl⟩;rw[v]at f i k D|-;have F:(t:X)-1=(m:X):=by omega
     have K:(m:X)<(y j:X):=by omega
     have L:(t:X)<(y j:X):=by omega
     have N:IntKind.i64.wrap (m:X)=(m:X):=by rw[bN];omega
     have O:(0:X)<(t:X):=by omega
     have P:(0:X)<=(m:X):=by omega
     have Q:m<y j:=by omega
     clear v;go_wp2_with fail
     go_quiet(first
      |(go_at_call 141;refine Calls.quiet_of (e _ rfl))
      |(go_at_call 142;refine Calls.quiet_of_same (c _ rfl)))
     go_wp2;go_roundw;case rel=>exact⟨t+1,by omega,by go_num,below_drewN HB _⟩
     case measure=>simp[intOf];omega
   .have c:n=y j:=by omega
    subst c;clear b;go_wp2;go_ret;exact⟨rfl,HB⟩
def JY(w:Y)(d:M)(t:bz):Prop:=∃c b a,lH w t.tb (aA d) t.num (y<|dK t.cs) (y<|fI t.ks) (mV<|fI t.ks) c b a az t.ks
def JY.Uo(h:JY a b O):Nt a O:=by
 obtain⟨e,d,c,f⟩:=h;exact⟨_,_,_,_,_,e,d,c,_,f⟩
def JY.below(i:JY a b O)(g:Below (z<|G a) a f):JY f b O:=by
 obtain⟨h,d,c,e⟩:=i;exact⟨h,d,c,e.dw (g.block _ e.lt.1)<|g.block _ e.lt.2⟩
def bz.wy(t:bz):gW:=[aE t.num,dA<|y<|dK t.cs,dA<|y<|fI t.ks,dA<|mV<|fI t.ks]
def dy(a:cW):gW:=a.flatMap bz.wy
def ER(a:cW)(t:bz):dy (a++[t])=dy a++t.wy:=by simp[dy]
def Mj:(prog.info? 185).map (λi=>(i.zero,i.size,i.bytes))=H (H<|dC #[aE 0,dA 0,dA 0,dA 0],4,24):=by kernel_rfl
def Df(x c d u:ab)(t:TypeId)(e:b=z (G a)):∀j q,[x,c,d,u][j]?=H q->aW (cN a<|aw #[x,c,d,u] t) (((R b 0):Addr).add j)=H q:=by
 intro j q f;subst e;rw[dB];simp_all
def OJ(w:Y)(db:M)(ap:ab)(b:cW)(h:iW w ap b)(F:∀av∈b,JY w db av)(hl:y b<=100000000):cY aZ 168 #[ap] w λao V=>∃T,ao=aM T/\V.ownsRow (z<|G w) 185 4 T (y b) (dy b)/\Below (z<|G w) w V:=by
 obtain⟨K,k,l,m,o⟩:=di Mj;rcases h.shape with⟨rfl,rfl⟩|⟨ax,L,ac,rfl,_⟩
 .clear h F;go_in
  go_wp2_with(first
   |(at_make;go_loud(refine kr _ rfl _ _ 124 rfl (z (G w)) 185 K (.agg #[.int .u64 0,.int .u32 0,.int .u32 0,.int .u32 0]) 4 underlying124 k l m _ _ _ 0 rfl rfl (by omega) (by rw[o];omega) (by grind) (ah _) ?_;intro W d c;have j:=U d;have i:=U c;clear d c)))
  go_loopw [3,11] (λan P wr=>P=ar 0/\wr.ownsRow (z<|G w) 185 4 an 0 []/\wr=W) (λ_ _ _=>0)
  case atStart=>exact⟨rfl,j,rfl⟩
  case round=>
   obtain⟨rfl,s,a⟩:=hrel;subst wr;obtain⟨au,aa,rfl⟩:=aB s;have p:=U s;clear s;go_wp2;go_ret;exact⟨_,rfl,p,(Z.ee (S:=ay) i<|by simp).below (ah _) cL⟩
 .have HL:=U h;have HW:=U F;clear h F;go_in
  go_wp2_with(first
   |(at_make;go_loud(refine kr _ rfl _ _ 124 rfl (z (G w)) 185 K (.agg #[.int .u64 0,.int .u32 0,.int .u32 0,.int .u32 0]) 4 underlying124 k l m _ _ _ (y b) rfl rfl (by omega) (by rw[o];omega) (by unfold maxLen;omega) (ah _) ?_;intro W d c;have j:=U d;have i:=U c;clear d c)))
  go_loopw [3,11] (λan P wr=>∃n:M,n<=y b/\P=ar n/\wr.ownsRow (z<|G w) 185 4 an n (dy<|b.take n)/\Z ay w wr) (λ_ P _=>y b-(intOf P).toNat)
  case atStart=>exact⟨0,bP _,rfl,j,Z.ee (S:=ay) i<|by simp⟩
  case round=>
   obtain⟨n,hn,rfl,a,e⟩:=hrel;have q:=e.below (ah _) cL;have al:=e.size;obtain⟨au,aa,s⟩:=aB a;by_cases g:n<y b
   .have hp:=(HL.below q).cell g;obtain⟨bb,N,v,O⟩:=(HW _<|aq g).below q;have r:=Vl O;obtain⟨C,p,HT⟩:=dz (show dy (b.take<|n+1)=dy (b.take n)++[aE b[n].num,dA<|y<|dK b[n].cs,dA<|y<|fI b[n].ks,dA<|mV<|fI b[n].ks]by rw[ai g,ER];rfl) a e;have E:=a.lt;clear O a e q;unfold bz.ptr at hp;unfold ES at r;generalize b[n].num=x0 at*;generalize y (dK b[n].cs)=x1 at*;generalize y (fI b[n].ks)=x2 at*;generalize mV (fI b[n].ks)=x3 at*;generalize b[n].tb=Q at*;subst s;go_wp2_with fail
    apply r.mono;rintro ao w1⟨rfl,f⟩;have A:=U<|(Z.aR (S:=ay) f).own p<|λ_ _ aa=>aa;have ad:=f.size;have x:=U f;clear f;go_wp2_with(first
     |(at_builtin;go_loud(refine cA _ rfl (.tmp 15) (.tmp 18) 124 rfl (z (G w)) 185 K (.agg #[.int .u64 0,.int .u32 0,.int .u32 0,.int .u32 0]) 4 24 underlying124 k l m o rfl (by decide) (.slice au n aa) n (dy (b.take n)) rfl (aT A _) (R (z (G w1)) 0) 1 1 [.int .u64 x0,.int .u32 x1,.int .u32 x2,.int .u32 x3] rfl rfl (Df _ _ _ _ _ rfl) (by simp[Value.oneCell']) (by omega) (by omega) (by simp;omega) ?_;intro o2 w2 t u;have B:=U t;have D:=U u;clear t u)))
    go_roundw;case rel=>
     refine⟨n+1,g,by go_num,by rw[J C];exact B,?_⟩;exact((HT.cz<|Z.aR (S:=ay) x).alloc _).trans (Z.fH D)<|λk a=>.inr (E k a).1
    case measure=>simp[intOf];omega
   .have f:n=y b:=by omega
    subst f;rw[bI]at a;have p:=U a;have HB:=U q;clear a q e;go_wp2;go_ret;exact⟨_,rfl,p,HB⟩
def LD(v:ab)(w:Y):(Go.method 541 90 v "From").run aZ w=.ok (309,v) w:=by kernel_rfl
def LC(v:ab)(w:Y):(Go.method 541 186 v "From").run aZ w=.ok (313,v) w:=by kernel_rfl
def lK.yj(h:sQ r b d j a)(c:b<=z (G a))(hF:∀k,r.F k->k<b):lK r b (.iface 90 d) (bZ j) a:=⟨_,d,_,d,rfl,LD d,enters_of func309 (by kernel_rfl) rfl,λg i e f=>Sz g (h.same e) f (aC c e.1) hF⟩
def lK.table(h:nE r b O.tb O.ks O.cs a)(c:b<=z (G a))(hF:∀k,r.F k->k<b):lK r b (.iface 186 O.ptr) O.all a:=⟨_,O.ptr,_,O.ptr,rfl,LC O.ptr,enters_of func313 (by kernel_rfl) rfl,λf g d e=>Cx f (h.same d) e (aC c d.1) hF⟩
def Ju:(prog.info? 169).map (λi=>(i.zero,i.size,i.bytes))=H (H .nilIface,1,16):=by kernel_rfl
structure TV(w:Y)(base:M)(t:bz)(bb xq x Gl:M):Prop where
 ks:t.ks=bW 0 t.cs
 num:t.num=0
 pieces:qo t.all t.cs
 mem:lH w t.tb (cX none) 0 0 0 0 bb 0 xq (bD x 0 (y<|dK t.cs) Gl) t.ks
 data:fc w base (bD x 0 (y<|dK t.cs) Gl) (dK t.cs)
 Gp:w.ownsRow base 328 5 (bD bb 0 (y t.ks) xq) (y t.ks) (eO t.ks)
 new:base<=t.tb
def WV(w:Y)(a:M)(t:bz):Prop:=∃d b x c,TV w a t d b x c
def TV.aj{S:eV}{w w':Y}{g a x d:M}(h:TV w c O g a x d)(e:Z S w w')(l:¬S O.tb)(k:¬S g)(m:¬S x):TV w' c O g a x d:=⟨h.ks,h.num,h.pieces,h.mem.dw (e.block _ h.mem.lt.1 l)<|e.block _ h.mem.lt.2 k,e.own h.data (λn j=>by cases j;exact m),e.own h.Gp (λn j=>by cases j;exact k),h.new⟩
def TV.other(n:TV a b O c g m D)(r:Z p a f)(k:∀o,p o->∃d T e,a.heap[o]?=H (aw d T e)/\T≠263/\T≠328/\T≠5):TV f b O c g m D:=by
 refine n.aj r (λl=>?_) (λl=>?_)<|λl=>?_;obtain⟨d,T,e,h,j,_⟩:=k _ l;exact kw h n.mem.box j rfl;obtain⟨d,T,e,h,_,j,_⟩:=k _ l;obtain⟨c2,q⟩:=fE n.Gp (k:=c) rfl;grind
 obtain⟨d,T,e,h,_,_,j⟩:=k _ l;obtain⟨c2,q⟩:=fE n.data (k:=m) rfl;grind
structure NT where
 t:bz
 bb:M
 xq:M
 x:M
 Gl:M
def NT.Ok(w:Y)(a:M)(p:NT):Prop:=TV w a p.t p.bb p.xq p.x p.Gl
def NT.has(p:NT)(k:M):Prop:=k=p.t.tb\/k=p.bb\/k=p.x
def NT.mW(p q:NT):Prop:=∀k,p.has k->¬q.has k
def NT.Ok.lt{p:NT}(h:p.Ok a c):∀k,p.has k->c<=k/\k<z (G a):=by
 rintro k(rfl|rfl|rfl);exact⟨h.new,h.mem.lt.1⟩;exact⟨(h.Gp.lt _ rfl).1,h.mem.lt.2⟩;exact fc.lt h.data _ rfl
def NT.Ok.aj{S:eV}{w w':Y}{p:NT}(h:p.Ok w c)(d:Z S w w')(a:∀k,p.has k->¬S k):p.Ok w' c:=TV.aj h d (a _<|.inl rfl) (a _<|.inr<|.inl rfl)<|a _<|.inr<|.inr rfl
def NT.Ok.base{c base':M}{p:NT}(h:p.Ok a c)(d:base'<=c):p.Ok a base':=⟨h.ks,h.num,h.pieces,h.mem,h.data.base d,fX h.Gp d,aC d h.new⟩
def NT.Ok.G1{p:NT}(h:p.Ok a b):WV a b p.t:=⟨_,_,_,_,h⟩
def qu(w:Y)(a:M)(d:cW):Prop:=∃c:cJ NT,c.map NT.t=d/\(∀p∈c,p.Ok w a)/\c.Pairwise NT.mW
def qu.nil(w:Y)(a:M):qu w a []:=⟨[],rfl,by simp,List.Pairwise.nil⟩
def qu.each(h:qu a c j):∀t∈j,WV a c t:=by
 obtain⟨g,rfl,d,_⟩:=h;intro t f;obtain⟨p,e,rfl⟩:=bR.1 f;exact(d p e).G1
def qu.aj{w w':Y}(g:qu w c j)(h:Z ay w w'):qu w' c j:=by
 obtain⟨k,a,d,e⟩:=g;exact⟨k,a,λp g=>(d p g).aj h<|λ_ _ l=>l,e⟩
def qu.other(l:qu a b j)(m:Z p a f)(k:∀o,p o->∃c T d,a.heap[o]?=H (aw c T d)/\T≠263/\T≠328/\T≠5):qu f b j:=by
 obtain⟨n,e,g,h⟩:=l;exact⟨n,e,λq l=>TV.other (g q l) m k,h⟩
def qu.base{c base':M}(h:qu a c j)(g:base'<=c):qu a base' j:=by
 obtain⟨i,d,e,f⟩:=h;exact⟨i,d,λp h=>(e p h).base g,f⟩
def Gc{a:cJ NT}{q:NT}(h:a.Pairwise NT.mW)(b:∀p∈a,p.mW q):(a++[q]).Pairwise NT.mW:=by
 rw[bQ];grind
def He(v:ab):∀(n:M)(a:dS)(i:M)(b:i<y a),(oE v n a)[i]?=H (zG v (n+y (a.take i).flatten)<|y a[i])
 |_,[],_,b=>absurd b<|gq _
 |n,p::a,0,_=>by simp[oE]
 |n,p::a,i+1,b=>by
  rw[oE,vz,He v (n+y p) a i<|by simpa using b];grind
def RR(h:kC a d e)(g:l.flatten=e)(f:b<y l)(c:l[b]≠[]):kC a (zG d (0+y (l.take b).flatten)<|y l[b]) l[b]:=by
 rw[dE];refine Be (s:=(l.drop<|b+1).flatten) h ?_ c;have i:l=l.take b++l[b]::l.drop (b+1):=by rw[<-bG f,bV]
 rw[<-g];grind
def wC:(prog.info? 186).map (λi=>(i.zero,i.size,i.bytes))=H (H<|cX none,1,8):=by kernel_rfl
def Mx(l:cR):fZ ⟨#[]⟩ l=l:=gm.2 (λx _=>by rw[Jp];rfl)
def vL(c:ab)(a b:cW):cJ (ab×cR):=(.iface 90 c,bZ b)::a.map (λt=>(.iface 186 t.ptr,t.all))
def rL(d:eR)(a:Bool)(b c:cW):cR:=gL d a<|bZ c::b.map bz.all
def XC(w:Y)(x:ab)(T:TypeId):(cN w<|aw #[x] T).ownsRow (z<|G w) T 1 (bD (z<|G w) 0 1 1) 1 [x]:=⟨rfl,.inr ⟨z<|G w,1,#[x],rfl,ah _,aJ _ rfl,ah _,by unfold maxLen;omega,rfl,rfl⟩⟩
structure Ke(W wr:Y)(base:M)(o:ab)(ps:dS)(n:M)(tm:cW):Prop where
 own:wr.ownsRow base 186 1 o n (tm.map bz.ptr)
 len:y tm=n
 all:tm.map bz.all=ps.take n
 each:qu wr base tm
 aj:Z ay W wr
def Ke.step{W wr w1 w2:Y}{o o2:ab}{e:dS}{a:M}{i:Obj}(t:Ke W wr b o l c j)(E:c<y l)(Q:b<=z (G W))(C:∀k,cK o=H k->z (G W)<=k)(f:No wr w1 g l[c] e m D S a)(F:w2.ownsRow b 186 1 o2 (c+1) (j.map bz.ptr++[aA g]))(r:eE (cN w1 i) w2 o o2):∃s,Ke W w2 b o2 l (c+1) s/\∀k,cK o2=H k->z (G W)<=k:=by
 have K:=t.aj.size;have L:=f.aj.size;have x:Z (λk=>cK o=H k) wr w2:=((f.aj.mono (T:=λk=>cK o=H k) cL).alloc i).trans (Z.fH r)<|λ_ d=>.inl d;have n:∀k,cK o=H k->∃e,wr.heap[k]?=H (aw e 186 (0,0)):=λk d=>fE t.own d;have q:Z (λk=>cK o=H k) w1 w2:=((Z.refl (λk=>cK o=H k) w1).alloc i).trans (Z.fH r)<|λ_ d=>.inl d;refine⟨j++[⟨g,bW 0 e,e,0⟩],⟨?_,by rw[af,t.len];rfl,?_,?_,t.aj.trans x<|λk d=>.inr<|C k d⟩,?_⟩;rw[aP];exact F;rw[aP,t.all,ai E];show _++[e.flatten]=_;rw[f.pieces.flat];obtain⟨O,A,u,B⟩:=t.each;have v:NT.Ok w1 (z<|G wr) ⟨⟨g,bW 0 e,e,0⟩,m,D,S,a⟩:=⟨rfl,rfl,by have:=f.pieces;rw[<-this.flat]at this;exact this,f.mem,f.data,f.Gp,f.new⟩;refine⟨O++[⟨⟨g,bW 0 e,e,0⟩,m,D,S,a⟩],by rw[aP,A];rfl,λN h=>?_,Gc B<|λN h k d p=>?_⟩;rcases aG.1 h with h|h;exact TV.other (u N h) x (λk d=>by grind);rw[dp]at h;subst h;refine TV.other (NT.Ok.base v<|by omega) q<|λk d=>?_;obtain⟨P,w⟩:=n k d;exact⟨P,_,_,(f.aj.block k (ak w) id).trans w,by decide,by decide,by decide⟩;have w:=((u N h).lt k d).2;have P:=(v.lt k p).1;omega;intro k d;rcases r.vp with u|⟨p,u,h⟩;(grind);rw[u]at d;cases d;simp at h;omega
def ve(h:kC a d e)(hs:dV e)(o:qV 5 e)(hg:∀bl∈e,bl.Good)(hl:y e<=1000000)(hv:∀P,cK d=H P->P<z (G a))(hT:Steps a):cY aZ 165 #[d] a λbf L=>∃vm,∃l:cW,bf=aM vm/\L.ownsRow (z<|G a) 186 1 vm (y l) (l.map bz.ptr)/\l.map bz.all=gC e/\qu L (z<|G a) l/\Z ay a L:=by
 obtain⟨j0,ap,aU,aV,ba⟩:=di wC;have t:=Ri h hs hl hv;obtain⟨bl,bd,aF⟩:=bY h
 have W:=U (show∀n(x:n<y (gC e))(wr:Y),Z ay a wr->∃O b j,(oE d 0<|gC e)[n]?=H (bD O b (y (gC e)[n]) j)/\cY aZ 103 #[bD O b (y (gC e)[n]) j] wr λbf L=>∃i cs bc c db f,bf=aM (aA i)/\No wr L i (gC e)[n] cs bc c db f from by
  intro n x wr E;have C:(gC e)[n]∈gC e:=aq x;have k:=Ew e _ C;have A:=RR h (wk e) x k;obtain⟨O,b,j,u,B⟩:=A.some<|gl.2 k;have p:O<z (G a):=by
   obtain⟨N,S,Q,g,_⟩:=h.some (by have:=(BO C).length_le;have:=gl.2 k;omega);subst g;unfold zG at u;cases u;exact hv _ rfl
  rw[u]at A;refine⟨O,b,j,by rw[He d 0 (gC e) n x,u],?_⟩;obtain⟨_,⟨q,_⟩|⟨b',F,m,q,_,hc⟩⟩:=id A
  .cases q
  .cases q;have g:=BO C;exact DU (gC e)[n] O b j wr (λP hk=>E.cell (hT P hk) id hT.lt) (ag p E.size) (λi u c=>E.cell (hc i u c) id p) B (gl.2 k) (λa f=>hg a (g.subset f)) (hs.sub g) (λq d=>aC ((o.sub g).keys q d) (by omega)) (by have:=g.length_le;omega))
 have an:y (gC e)<=1000000:=aC (uC e) hl;clear h hs o hg hl hv hT;generalize gC e=K at*;obtain⟨ad,hN⟩:∃ad,y K=ad:=⟨_,rfl⟩;rw[hN]at t an;have HN:=U hN;clear hN;subst aF;go_in
 go_wp2_with fail
 apply t.mono;rintro bf W3⟨pv,rfl,r,s⟩;obtain⟨px,pc,rfl⟩:=aB r;have v:=U r;have w:=U s;have D:z (G a)<=z (G W3):=s.size;clear r s t;go_wp2;go_loopw [3,9] (λo i wr=>∃n:M,n<=ad/\i=ar n/\∃l,Ke W3 wr (z<|G a) o K n l/\∀P,cK o=H P->z (G W3)<=P) (λ_ i _=>ad-(intOf i).toNat)
 case atStart=>exact⟨0,bP _,rfl,[],⟨cO _ _ _ _,rfl,rfl,qu.nil _ _,Z.refl _ _⟩,(by intro P hk;cases hk)⟩
 case round=>
  obtain⟨n,bg,rfl,l,g,j⟩:=hrel;obtain⟨ox,oc,ho⟩:=aB g.own;by_cases k:n<ad
  .obtain⟨pg,bk,av,_,ax,_⟩:=rY v (by omega);cases av;have B:n<y K:=by rw[J HN];exact k
   obtain⟨O,b,m,aD,A⟩:=W n B wr<|w.cz g.aj;have ao:aW wr (R pg n)=H (bD O b (y K[n]) m):=by
    refine g.aj.cell ?_ id ax;obtain⟨_,⟨bd,_⟩|⟨b',F,al,bd,_,hc⟩⟩:=dJ v
    .cases bd
    grind
   have N:=U g;have u:=U j;have bi:=g.aj.size;have e8:(n:X)<(ad:X):=by omega
   have e9:(0:X)<=(n:X):=by omega
   clear g j aD;generalize x:K[n]=pn at*;have aa:=U x;have S:=U B;clear x;subst ho;go_wp2_with fail
   apply A.mono;rintro bf w4⟨i,cs,bc,c,db,f,rfl,p⟩;have T:=U<|p.aj.own N.own<|λ_ _ bd=>bd;have bh:=p.aj.size;have Q:=U p;clear p;go_wp2_with(first
    |(at_builtin;go_loud(refine cA _ rfl (.tmp 13) (.tmp 16) 90 rfl (z (G a)) 186 j0 (.pointer none) 1 8 underlying90 ap aU aV ba rfl (by decide) (.slice ox n oc) n (l.map bz.ptr) rfl (aT T _) (R (z (G w4)) 0) 1 1 [aA i] rfl rfl (pN _ _ _) (by simp[Value.oneCell']) (by omega) (by omega) (by simp;omega) ?_;intro o2 w5 C E;have V:=U C;have ac:=U E;clear C E)))
   go_roundw;case rel=>
    have p:=J Q;rw[<-J aa]at p;obtain⟨bb,al,au⟩:=N.step S D u p V ac;exact⟨n+1,k,by go_num,bb,al,au⟩
   case measure=>simp[intOf];omega
  .have p:n=ad:=by omega
   subst p;have N:=U g;clear g j;subst ho;go_wp2;go_ret;have g:=J N;refine⟨_,l,rfl,by rw[g.len];exact g.own,?_,g.each,w.cz g.aj⟩;rw[g.all,<-J HN,bI]
def EP(s K m L:M)(n:ab)(b c:cW)(h1:∀o(V:o<y b),aW a (R K<|m+o)=H b[o].ptr)(ac:K<s/\¬r.F K)(N:∀ba∈b,nE r s ba.tb ba.ks ba.cs a)(aF:y b<=100000000)(h2:sQ r s n c a)(hD:r.D a)(k:s<=z (G a))(hF:∀A,r.F A->A<s)(hl:y (cQ<|bZ c::b.map bz.all)<=1000000):cY aZ 162 #[bD K m (y b) L,n] a λax t=>(∃vm,ax=aM (dq #[vm,.nilIface])/\t.ownsRow (z<|G a) 171 4 vm (y<|cQ<|bZ c::b.map bz.all) (aK<|cQ<|bZ c::b.map bz.all)/\r.D t/\Z r.F a t)\/Dp r a t r.F ax (λbb=>dq #[az,bb]):=by
 obtain⟨i0,ad,ap,au,av⟩:=di Ju;have v:y (vL n b c)=y b+1:=by simp[vL]
 have j:∀wr d,Z ay a wr->wr.ownsRow (z<|G a) 169 1 d (y b+1) ((vL n b c).map (·.1))->cY aZ 123 #[d,am ⟨#[]⟩] wr λax t=>∃l f,ax=aM l/\jf r s l (cQ<|bZ c::b.map bz.all) f t/\r.D t/\Z r.F wr t/\(∀A,f A->z (G wr)<=A):=by
  intro wr d ht B;have i:kO r s ay a wr:=ht.same k cL cL;have hn:=BJ s (vL n b c) d ⟨#[]⟩ (by rw[v];exact dJ B) (λA p=>⟨(B.lt A p).2,λaa=>by have:=hF A aa;have:=(B.lt A p).1;omega⟩) (by omega) (by
   intro o V;cases o with
   |zero=>exact(lK.yj h2 k hF).same i
   |succ o=>
    have e:o<y b:=by rw[v]at V;omega
    have:(vL n b c)[o+1]=(.iface 186 b[o].ptr,b[o].all):=by simp[vL]
    rw[this];exact(lK.table (N _ (aq e)) k hF).same i) (r.eY hD ht cL) (aC k ht.size) hF
  have w:(vL n b c).map (·.2)=bZ c::b.map bz.all:=by simp[vL]
  rw[w,oB (g:=id)<|λa _=>Mx a,xF]at hn;exact hn
 obtain⟨NL,P⟩:∃NL,cQ (bZ c::b.map bz.all)=NL:=⟨_,rfl⟩;rw[P]at j hl|-;clear P;have C:=U j;have HC:=U (show∀wr,Z ay a wr->∀o(V:o<y b),aW wr (R K<|m+o)=H b[o].ptr fromλwr ht o V=>ht.cell (h1 o V) id<|ag ac.1 k);clear h1 N h2 hD j;go_in
 go_wp2;go_loopw [6,14] (λd o wr=>∃u:M,u<=y b/\o=ar u/\wr.ownsRow (z<|G a) 169 1 d (u+1) (((vL n b c).take<|u+1).map (·.1))/\Z ay a wr) (λ_ o _=>y b-(intOf o).toNat)
 case atStart=>exact⟨0,bP _,rfl,XC _ _ _,(cF _ _)⟩
 case round=>
  obtain⟨u,hn,rfl,d,e⟩:=hrel;obtain⟨bd,aa,B⟩:=aB d;have aD:=e.size;have ao:=d.lt;by_cases W:u<y b
  .have F:=HC wr e u W;have x:=U (show((vL n b c).take<|u+1+1).map (·.1)=((vL n b c).take<|u+1).map (·.1)++[.iface 186<|aA<|b[u].tb]from by
    rw[ai (by rw[v];omega),aP];simp[vL,bz.ptr])
   have E:=U d;have HT:=U e;clear d e;unfold bz.ptr at F;generalize b[u].tb=l at*;subst B;go_wp2_with(first
    |(at_builtin;go_loud(refine cA _ rfl (.tmp 18) (.tmp 21) 166 rfl (z (G a)) 169 i0 .nilIface 1 16 underlying166 ad ap au av rfl (by decide) (.slice bd (u+1) aa) (u+1) (((vL n b c).take (u+1)).map (·.1)) rfl (aT E _) (R (z (G wr)) 0) 1 1 [.iface 186 (aA l)] rfl rfl (pN _ _ _) (by simp[Value.oneCell']) (by omega) (by omega) (by simp;omega) ?_;intro O w2 f i;have w:=U f;have D:=U i;clear f i)))
   go_roundw;case rel=>
    refine⟨u+1,W,by go_num,by rw[J x];exact w,?_⟩;exact(HT.alloc _).trans (Z.fH D)<|λA p=>.inr (ao A p).1
   case measure=>simp[intOf];omega
  .have al:u=y b:=by omega
   subst al;rw[eT<|by omega]at d;have an:=C wr u6 e d;have HT:=U e;clear d e;subst B;go_wp2_with fail
   apply an.mono;rintro ax w1⟨v1,S1,rfl,S,O,x,Q⟩;have F:=U<|HT.mono (T:=r.F) cL|>.trans x (λ_ aa=>.inl aa);have aV:=HT.size;have aU:=x.size;have w:=Dc S O (by omega);have E:=U Q;clear x S O Q;go_wp2_with fail
   apply w.mono;rintro ax w2(⟨bc,rfl,f,i,l⟩|⟨hX,q,rfl,hq,i,l⟩)
   .obtain⟨rx,rc,rfl⟩:=aB f;have D:=U<|And.intro (fX (base':=z<|G a) f<|by omega) (And.intro i (F.trans l<|λA p=>p.elim (λaa=>.inr (by have:=E A aa;omega)) .inl));clear f i l w;go_wp2;go_ret2
    exact .inl ⟨_,rfl,D.1,D.2.1,D.2.2⟩
   .have D:=U<|show Dp r a w2 r.F (aM<|dq #[az,eD q]) (λbb=>dq #[az,bb])from⟨hX,q,rfl,hq,i,F.trans l<|λA p=>p.elim (λaa=>.inr (by have:=E A aa;omega)) .inl⟩;clear hX hq i l w;go_wp2;go_ret2
    exact .inr D
def Sy(n:M)(w:Y)(v:n<=1000000000):cY aZ 158 #[az,ar n] w λt r=>∃q,t=aM q/\r.ownsRow (z<|G w) 186 1 q 0 []/\Z ay w r:=by
 obtain⟨l,j,k,s,e⟩:=di wC;have u:¬((n:X)<0):=by omega
 rcases gB n with g|g;(.subst g;(go_in);go_wp2;go_ret;exact⟨_,rfl,cO _ _ _ _,Z.refl _ _⟩)
 .have c:(Builtin.firstCells l.size 0 az).run aZ w.drew=.ok ([]:gW).toArray w.drew:=run_firstCells_none w.drew l.size 0 0 0;have d:∀m,(Builtin.append_ #[90,3] m #[az,ar n]).run aZ w=_:=λm=>
   Lib.run_append_grow_zeros w 90 3 m 186 l (cX none) .i64 .i64 underlying90 underlying3 j k none 0 0 [] c n g (by omega) (by omega) (by omega) (by rw[e];omega) (tf (by omega) (by rw[e];omega))
  simp only[dE]at d;have i:n<=grownCap w n 0 186:=grownCap_ge w _ _ _;have b:=grownCap_le_maxLen w n 0 186 (by unfold maxLen;omega);obtain⟨a,o⟩:∃a,a=grownCap w n 0 186:=⟨_,rfl⟩;rw[<-o]at d i b;have f:=U<|show(cN w<|aw (Builtin.zeroCells #[cX none] n++Builtin.zeroCells #[cX none] (a-n)) 186).drew.ownsRow (z<|G w) 186 1 (bD (z<|G w) 0 0 a) 0 []from ke (World.ownsRow_made w _ a (ah _) b (by simp[size_zeroCells];omega)) rfl;have p:a<=9223372036854775807:=by unfold maxLen at b;omega
  clear c o b;go_in
  go_wp2_with(at_builtin;refine Lib.wpList_append_run _ rfl _ _ _ _ rfl _ _ rfl rfl _ _ (d _) ?_)
  go_ret;exact⟨_,rfl,f,(cF ay w).of_heap rfl⟩
def qd(a:cJ (ab×cW)):gW:=(a.map<|λp=>p.2.map bz.ptr).flatten
def lO(a:cJ (ab×cW)):M:=(a.map<|λp=>y p.2).sum
def Oh(a:cJ (ab×cW))(p:ab×cW):qd (a++[p])=qd a++p.2.map bz.ptr:=by simp[qd]
def GF(a:cJ (ab×cW))(p:ab×cW):lO (a++[p])=lO a+y p.2:=by simp[lO]
def BE(a:cJ (ab×cW))(n:M):lO (a.take n)<=lO a:=by
 have h:=bS (λl=>(l.map (λp:ab×cW=>y p.2)).sum)<|bV n a;simp only[aP,fw]at h;unfold lO;omega
def tW(N f u:M)(a:cJ (ab×cW))(w:Y)(hc:∀i(k:i<y a),aW w (R N<|f+i)=H a[i].1)(hb:N<z (G w))(hr:∀i(k:i<y a),Row w 1 a[i].1 (y a[i].2)<|a[i].2.map bz.ptr)(E:∀i(k:i<y a),∀ax,cK a[i].1=H ax->ax<z (G w))(hn:y a<=1000000)(hs:lO a<=100000000):cY aZ 102 #[bD N f (y a) u] w λbc w'=>∃v',bc=aM v'/\w'.ownsRow (z<|G w) 186 1 v' (lO a) (qd a)/\Z ay w w':=by
 obtain⟨i0,B,ap,au,av⟩:=di wC;have HC:=U (show∀wr,Z ay w wr->∀i(k:i<y a),aW wr (R N<|f+i)=H a[i].1 fromλwr ht i k=>ht.cell (hc i k) id hb);have HR:=U (show∀wr,Z ay w wr->∀i(k:i<y a),Row wr 1 a[i].1 (y a[i].2) (a[i].2.map bz.ptr)fromλwr ht i k=>ht.row (hr i k)<|λax hk=>⟨id,E i k ax hk⟩);clear hc hr E;go_in
 go_wp2;go_loopw [3,11] (λac i wr=>∃n:M,n<=y a/\i=ar n/\ac=ar (lO (a.take n):M)/\wr=w) (λ_ i _=>y a-(intOf i).toNat)
 case atStart=>exact⟨0,bP _,rfl,rfl,rfl⟩
 case round=>
  obtain⟨n,aV,rfl,rfl,ba⟩:=hrel;subst wr;by_cases g:n<y a
  .have ad:=HC w (Z.refl _ _) n g;have o:=HR w (Z.refl _ _) n g;have p:=BE a<|n+1;have d:=U (show lO (a.take<|n+1)=lO (a.take n)+y a[n].2 by rw[ai g,GF]);rw[J d]at p;generalize a[n].1=bf at*;generalize a[n].2=P at*;generalize lO (a.take n)=l at*;obtain⟨O,⟨rfl,v⟩|⟨bb,j,t,rfl,al,x⟩⟩:=o
   .have b:=U v;clear O v;go_wp2;go_roundw;case rel=>exact⟨n+1,g,by go_num,by rw[J d,J b,kH],trivial⟩
    case measure=>simp[intOf];omega
   .clear O x;have b:¬((l:X)+(y P:X)<0):=by omega
    go_wp2;go_roundw;case rel=>exact⟨n+1,g,by go_num,by rw[J d];go_num,trivial⟩
    case measure=>simp[intOf];omega
  .have m:n=y a:=by omega
   subst m;rw[bI];have A:=Sy (lO a) w (by omega);obtain⟨s,hM⟩:∃s,lO a=s:=⟨_,rfl⟩;rw[hM]at A hs|-;have Q:=U hM;clear hM;go_wp2_with fail
   apply A.mono;rintro bc w1⟨v1,rfl,C,F⟩;have S:=U C;have W:=U F;clear C F;go_wp2;go_loopw [6,27] (λo i wr=>∃n:M,n<=y a/\i=ar n/\wr.ownsRow (z<|G w) 186 1 o (lO<|a.take n) (qd<|a.take n)/\Z ay w wr) (λ_ i _=>y a-(intOf i).toNat)
   case atStart=>exact⟨0,bP _,rfl,S,W⟩
   case round=>
    obtain⟨n,aD,rfl,b,e⟩:=hrel;have an:=b.lt;have ao:=e.size;have aF:=BE a n;by_cases c:n<y a
    .have ad:=HC wr e n c;have o:=HR wr e n c;have p:=BE a<|n+1;have d:=U (show lO (a.take<|n+1)=lO (a.take n)+y a[n].2 by rw[ai c,GF]);have r:=U (show qd (a.take<|n+1)=qd (a.take n)++a[n].2.map bz.ptr by rw[ai c,Oh]);rw[J d,J Q]at p;generalize a[n].1=bf at*;generalize a[n].2=P at*;generalize qd (a.take n)=pn at*;generalize lO (a.take n)=l at*;obtain⟨aU,ac,ho⟩:=aB b;have q:=U b;have L:=U e;clear b e;subst ho;obtain⟨O,⟨rfl,v⟩|⟨bb,j,t,rfl,al,x⟩⟩:=o
     .obtain rfl:=aL v;clear O v;have D:∀a,(Builtin.append_ #[90,90] a #[I aU l ac,az]).run aZ wr=.ok (I aU l ac) wr:=λa=>run_append_owned_none wr (z<|G w) 90 a 186 i0 1 underlying90 B (I aU l ac) l pn q;go_wp2_with(at_builtin;refine Lib.wpList_append_run _ rfl _ _ _ _ rfl _ _ rfl rfl _ _ (D _) ?_)
      go_roundw;case rel=>
       refine⟨n+1,c,by go_num,?_,L⟩;rw[J d,J r];simpa using J q
      case measure=>simp[intOf];omega
     .go_wp2_with(first
       |(at_builtin;go_loud(refine cA _ rfl (.tmp 31) (.tmp 32) 90 rfl (z (G w)) 186 i0 (.pointer none) 1 8 underlying90 B ap au av rfl (by decide) (.slice aU l ac) l pn rfl q (R bb j) (y P) t (P.map bz.ptr) rfl (by simp) (λbg bd hj=>by rw[dB];grind) (by intro bd hu;obtain⟨bh,_,rfl⟩:=bR.1 hu;rfl) (by omega) (by omega) ao ?_;intro o2 w2 D K;have V:=U D;have aa:=U K;clear D K)))
      go_roundw;case rel=>
       refine⟨n+1,c,by go_num,by rw[J d,J r];exact V,?_⟩;exact L.trans (Z.fH aa)<|λax hk=>.inr (an ax hk).1
      case measure=>simp[intOf];omega
    .have m:n=y a:=by omega
     subst m;rw[bI,J Q]at b;obtain⟨aU,ac,ho⟩:=aB b;have q:=U b;have L:=U e;clear b e;subst ho;go_wp2;go_ret;exact⟨_,rfl,by rw[J Q];exact q,L⟩
structure Dm(w:Y)(lb lo:M)(Ls:cJ (ab×cW)):Prop where
 len:y Ls=4
 cell:∀i(hi:i<y Ls),aW w (R lb<|lo+i)=H Ls[i].1
 row:∀i(hi:i<y Ls),Row w 1 Ls[i].1 (y Ls[i].2)<|Ls[i].2.map bz.ptr
 pa:∀i(hi:i<y Ls),∀k,cK Ls[i].1=H k->k<z (G w)
 small:lO Ls<=100000000
def Dm.lt{d:cJ (ab×cW)}(h:Dm a c g d):c<z (G a):=cC a (R c<|g+0)<|h.cell 0 (by have:=h.len;omega)
def sJ{w:Y}{lb lo:M}(a:cJ (ab×cW))(h:Dm w lb lo a):cY aZ 99 #[cX<|H<|R lb lo] w λj w'=>∃e,j=aM e/\w'.ownsRow (z<|G w) 186 1 e (lO a) (qd a)/\Z ay w w':=by
 have b:=tW lb lo 4 a w h.cell h.lt h.row h.pa (by have:=h.len;omega) h.small;rw[h.len]at b;clear h;go_in
 go_wp2_with fail
 apply b.mono;rintro j k⟨i,rfl,c,d⟩;have f:=U c;have g:=U d;clear c d;go_wp2;go_ret;exact⟨i,rfl,f,g⟩
def jO(a:cJ (ab×cW))(n:M):Bool:=(a.drop n).all<|λp=>p.2.isEmpty
def Fo{a:cJ (ab×cW)}(h:b<y a):jO a b=(a[b].2.isEmpty&&jO a (b+1)):=by
 unfold jO;rw[bG h,List.all_cons]
def CQ{w:Y}{lb lo:M}(n:M)(d:cJ (ab×cW))(h:Dm w lb lo d)(V:n<=4):cY aZ 163 #[cX<|H<|R lb lo,ar n] w λL K=>L=aM (aN<|jO d n)/\K=w:=by
 have f:=h.len;have F:=h.small;have v:=U h.cell;have x:=U h.row;clear h;rcases ik n 4 with C|C;(·(have N:(n:X)<=4:=by omega);(have O:¬(4-n=0):=by omega);(have P:¬(4=n):=by omega);(have Q:(0:X)<=(n:X):=by omega);(go_in);go_wp2;(go_loopw [12] (λu wr=>∃m:M,n+m<=4/\u=ar m/\jO d n=jO d (n+m)/\wr=w) (λu _=>4-n-(intOf u).toNat));(case atStart=>grind);(case round=>obtain⟨m,T,rfl,e,p⟩:=hrel;subst wr;by_cases E:m<4-n;(·(have l:n+m<y d:=by omega);have k:=v (n+m) l;have o:=x (n+m) l;have b:=Fo l;rw[<-bw]at k;have HEq:=U e;clear e;generalize d[n+m].1=aa at*;generalize d[n+m].2=s at*;(have B:(m:X)<((4-n:M):X):=by omega);obtain⟨j,⟨rfl,t⟩|⟨W,r,A,rfl,D,g⟩⟩:=o;(.obtain rfl:=aL t;have c:=U b;clear j t b;go_wp2;go_roundw;(case rel=>exact⟨m+1,by omega,by go_num,by rw[J HEq,J c];rfl,trivial⟩);case measure=>simp[intOf];omega);(.rcases gB (y s)with q|q;(.obtain rfl:=aL q;have c:=U b;clear j b g q;go_wp2;go_roundw;(case rel=>exact⟨m+1,by omega,by go_num,by rw[J HEq,J c];rfl,trivial⟩);case measure=>simp[intOf];omega);(have i:s.isEmpty=aX:=by grind);rw[i,xG]at b;have c:=U b;clear j b g i;(have S:(0:X)<(y s:X):=by omega);go_wp2;go_ret;exact⟨by rw[J HEq,J c];rfl,rfl⟩));(have b:n+m=4:=by omega);(have a:jO d n=ci:=by rw[e,b,<-f];unfold jO;rw[gv];rfl);have c:=U a;(have B:¬(m:X)<((4-n:M):X):=by omega);clear a e b;go_wp2;go_ret;exact⟨by rw[J c];rfl,rfl⟩));(·(obtain rfl:n=4:=by omega);(have a:jO d 4=ci:=by rw[<-f];unfold jO;rw[gv];rfl);rw[a];(go_in);go_wp2;(go_loopw [12] (λu wr=>u=ar 0/\wr=w) (λ_ _=>0));(case atStart=>grind);(case round=>obtain⟨rfl,p⟩:=hrel;subst wr;go_wp2;go_ret;simp_all))
def Ww(h:j.Sublist W):kg j<=kg W:=by
 induction h with
 |slnil=>grind
 |cons x _ a=>unfold kg at*;grind
 |cons_cons x _ a=>unfold kg at*;grind
def Jk{w:Y}(b c u:M){ts1 p:cW}(hi:u+1<4)(c1:aW w (R b<|c+u)=H d)(c2:aW w (R b<|c+(u+1))=H s)(K:b<z (G w))(Q:iW w d ts1)(h2:iW w s p)(hs:Bn p)(ax:0<y ts1)(av:kg p<=1000000000):cY aZ 160 #[cX<|H<|R b c,ar u] w λt e=>∃aa:M,t=aM (ar aa)/\aa<y ts1/\Below (z<|G w) w e:=by
 rcases Q.shape with⟨_,h0⟩|⟨b1,ba,aV,rfl,_⟩;grind
 have bf:=Q.small;have e1:(u:X)<4:=by omega
 have e2:(0:X)<=(u:X):=by omega
 obtain⟨ad,al,HS,ac⟩:=fY Q h2 hs c2;clear Q h2 hs c2;go_in
 go_wp2;go_loopw [5,6,19] (λa le n wr=>∃aa aU k:M,aa<y ts1/\aU<=9223372036854775807/\k<=y ts1/\a=ar aa/\le=ar aU/\n=ar k/\Below (z<|G w) w wr) (λ_ _ n _=>y ts1-(intOf n).toNat)
 case atStart=>exact⟨0,9223372036854775807,0,ax,ah _,bP _,rfl,rfl,rfl,Below.refl _ _⟩
 case round=>
  obtain⟨aa,aU,k,hj,hm,hk,rfl,rfl,rfl,j⟩:=hrel;have HB:=U j;by_cases a:k<y ts1
  .have f:=ad.below j;have C:=al.below j;have hp:=f.cell a;have c2:aW wr (R b<|c+(u+1))=H s:=(j.cell (p:=(R b<|c+(u+1))) K).trans ac;have m:∀W,W.heap=wr.heap->cY aZ 142 #[ts1[k].ptr] W λt e=>t=aM (am<|iZ ts1[k].ks)/\e=W:=λW i=>((f.each _<|aq a).of_heap i).first;have n:∀W,W.heap=wr.heap->cY aZ 141 #[ts1[k].ptr] W λt e=>t=aM (am<|jp ts1[k].ks)/\∃q,e=W.drewN q:=λW i=>((f.each _<|aq a).of_heap i).last;have hcut:∀W,W.heap=wr.heap->W.os=wr.os->W.tape=wr.tape->W.output=wr.output->cY aZ 161 #[s,am<|iZ ts1[k].ks,am<|jp ts1[k].ks] W λt e=>∃T O V,t=aM (dq #[T,O,V])/\(∃S,iW e O S/\kg S<=1000000000)/\Below (z<|G w) w e/\aW e (R b<|c+(u+1))=H s:=by
    intro W i an ao ap;apply(Mb (iZ ts1[k].ks) (jp ts1[k].ks) (C.of_heap i) HS).mono;rintro t e⟨bh,bg,T,O,V,rfl,_,_,aD,_,_,g⟩;have l:Below (z<|G w) w W:=j.of_heap (by rw[i,an,ao,ap]);refine⟨T,O,V,rfl,⟨_,aD,aC (Ww<|(nt _ _).trans<|kj _ _) av⟩,l.trans<|g.mono l.size,?_⟩;exact(g.cell (p:=(R b<|c+(u+1)))<|ag K l.size).trans<|(dt (w:=wr)<|by rw[i]).trans c2
   clear j f C;unfold bz.ptr at hp m n;generalize iZ ts1[k].ks=s1 at*;generalize jp ts1[k].ks=s2 at*;generalize ts1[k].tb=bb at*;obtain⟨r,L⟩:∃r,u+1=r:=⟨_,rfl⟩;rw[L]at c2 hcut hi;have e3:(u:X)+1=(r:X):=by omega
   have e4:(r:X)<4:=by omega
   have e5:(0:X)<=(r:X):=by omega
   have e6:IntKind.i64.wrap (r:X)=(r:X):=by rw[bN];omega
   have e7:r<4:=by omega
   clear L;go_wp2_with fail
   rename_i QQ KK bc;go_region_held3(λa=>aW a (R b<|c+r)=H s) (first|assumption|go_keep) (first
    |(go_at_call 142;refine(m wr.drew rfl).mono ?_;rintro t w1⟨rfl,aF⟩;subst w1;have o:aW wr.drew (R b<|c+r)=H s:=c2)
    |(go_at_call 141;refine(n wr.drew rfl).mono ?_;rintro t w1⟨rfl,q,aF⟩;subst w1;have o:aW (wr.drew.drewN q) (R b<|c+r)=H s:=c2)
    |(go_at_call 161;refine(hcut (wr.drewN (1+q)) rfl rfl rfl rfl).mono ?_;rintro t w1⟨T,O,V,rfl,N,E,o⟩;have A:=U N;have x:=U E;clear N E))
   obtain⟨S,B,au⟩:=J A;have F:=zS B au;clear B A hcut m n o;generalize kg S=P at*;go_wp2_with fail
   apply F.mono;rintro t w2⟨rfl,D⟩;have v:=U<|x.trans<|D.mono x.size;clear D F;by_cases bd:P<aU
   .have e8:(P:X)<(aU:X):=by omega
    go_wp2;go_roundw;case rel=>exact⟨k,P,k+1,a,by omega,a,rfl,rfl,by go_num,v⟩
    case measure=>simp[intOf];omega
   .have e8:¬(P:X)<(aU:X):=by omega
    go_wp2;go_roundw;case rel=>exact⟨aa,aU,k+1,hj,hm,a,rfl,rfl,by go_num,v⟩
    case measure=>simp[intOf];omega
  .have f:k=y ts1:=by omega
   subst f;clear j;go_wp2;go_ret;exact⟨aa,rfl,hj,HB⟩
section
open Shelf
attribute [local go_sem] Oper.semAt_some
def bk(a:gW):M->cJ (M×ab)
 |0=>[]
 |j+1=>(j,a.getD j .nilIface)::bk a j
def YG(p:M×ab):Array ab:=#[ar p.1,p.2]
def JT(v:ab)(x:Option Addr)(n c:M)(a:v=I x n c)(w:Y):cY aZ 183 #[v] w λe b=>e=aM (.func (.func 231) #[] #[aA<|z<|G w])/\b=cN w (aw #[v] 90):=by
 subst a;go_in
 go_wp2;go_ret;simp_all
def Pz(E aV:M)(V:eP a b d 90)(hr:Row a 1 d (y B) B)(m:∀o,cK d=H o->o<E)(W:E<=z (G a))(av:y B<=1000000000):Iu YG zf E aV 231 #[aA b] (bk B<|y B) (λo=>o=b) a:=by
 intro lr aF Jx aD aU hs hD hJ u A aa hY;obtain⟨ax,an,hv⟩:=bY hr;obtain⟨HB,HR,N,HS,HJ,Q,HY,O⟩:=CV V hr m hs hJ u hY A;have ao:aW aU (R b 0)=H d:=hs.cell (.inl rfl) V.cell;clear V hr m hs hJ u A aa hY hD;subst hv;refine qX func231 rfl trivial ?_ rfl;simp only[ntmps231,fo,aY,dG,Nat.reduceAdd,Nat.reduceSub,eM,eL,fp,eX,cV,df];gi_wp2;gi_loopw [3] (λi wr=>∃(j:M)(pre:cJ (M×ab))(r:eV),i=ar ((j:X)-1)/\j<=y B/\bk B (y B)=pre++bk B j/\aF pre r wr/\(∀o,o=b->¬r o)/\kO zf E (λo=>o=b) a wr) (λi _=>(intOf i+1).toNat)
 case atStart=>exact⟨y B,[],aD,by go_num,ah _,rfl,HJ,Q,HS⟩
 case round=>
  obtain⟨j,pre,r,rfl,hj,l,f,g,c⟩:=hrel;have ap:aW wr (R b 0)=H (I ax (y B) an):=c.cell (.inl rfl) HB.cell;cases j with
  |zero=>
   have p:=U f;have L:=U l;clear f g c l;gi_wp2;refine vS (iX rfl _ _ _) rfl ?_;refine⟨⟨_,rfl⟩,.inl ⟨r,?_,trivial⟩⟩;have l:=J L;rw[show bk B 0=[]from rfl,dM]at l;rw[l];exact p
  |succ j=>
   have ej:(((j+1:M):X)-1)=(j:X):=by omega
   rw[ej];have q:B.getD j .nilIface=B[j]:=by rw[tq,aQ hj];rfl
   have v:∃al e,ax=H (R al e)/\aW wr (R al<|e+j)=H B[j]:=by
    obtain⟨h1,⟨K,h0⟩|⟨au,w,F,K,ad,T⟩⟩:=J HR
    .omega
    .cases K;exact⟨au,w,rfl,c.cell (.inr ⟨N _ rfl,id⟩)<|T j _<|aQ hj⟩
   obtain⟨al,e,D,v⟩:=v;have n:(pre++[(j,B[j])])<+:bk B (y B):=⟨bk B j,by rw[l,show bk B (j+1)=(j,B.getD j .nilIface)::bk B j from rfl,q];simp⟩;have x:bk B (y B)=(pre++[(j,B[j])])++bk B j:=by rw[l,show bk B (j+1)=(j,B.getD j .nilIface)::bk B j from rfl,q];simp
   have L:=U x;obtain⟨fn,ac,C,body,hy,hR⟩:=HY pre (j,B[j]) r wr n f trivial;unfold YG at hy;simp only at hy;obtain⟨P,p,S⟩:=dz hR f c;have k:=U g;clear f c g l x n hR q ej;generalize B[j]=xj at*;have e1:(j:X)<(y B:X):=by omega
   have e2:(0:X)<=(j:X):=by omega
   subst D;gi_wp2;refine⟨(λan=>(by cases an)),P.mono ?_⟩;rintro ba W3(⟨rfl,_,B3,t,i,s⟩|⟨rfl,D⟩)
   .have K:=U t;have T:=U i;have F:=U s;clear t i s;gi_wp2;go_roundw;case rel=>
     have i:=J T;have c:=J S;have au:b<z (G wr):=ag (ak HB) c.1;refine⟨j,pre++[(j,xj)],B3,by go_num,by omega,L,K,λo w ad=>?_,?_⟩
     .rcases F o ad with ad|ad
      .exact k o w ad
      grind
     .refine c.trans ?_;exact i.same (aC W c.1) (λo w=>⟨by grind,k o w⟩) (λo w a=>by have:=(O _ _ _ p o w).1;omega)
    case measure=>simp[intOf]
   .have w:=U D;clear D;gi_wp2;refine ct (iX rfl _ _ _) rfl ?_;exact⟨⟨_,rfl⟩,.inr ⟨_,w⟩⟩
end
section
open Shelf
attribute [local go_sem] Oper.semAt_some
structure RB(w0:Y)(vs:gW)(B:eV)(W:Y):Prop where
 row:∃v,eP W (z<|G w0) v 166/\W.ownsRow (z (G w0)+1) 169 1 v (y vs) vs/\(∀k,B k↔k=z (G w0)\/cK v=H k)
 aj:Z ay w0 W
def RB.lt(h:RB a B p A):∀k,p k->z (G a)<=k/\k<z (G A):=by
 intro k e;obtain⟨v,i,c,d⟩:=h.row;rcases(d k).1 e with g|g;grind
 have:=c.lt k g;grind
def RB.stays{T:eV}(j:RB a B p f)(e:Z T f A)(c:∀k,T k->¬p k/\z (G a)<=k):RB a B p A:=by
 obtain⟨v,g,i,b⟩:=j.row;exact⟨⟨v,(e.block _ (ak g)<|λh=>(c _ h).1<|(b _).2<|.inl rfl).trans g,e.own i<|λk d h=>(c k h).1<|(b k).2<|.inr d,b⟩,j.aj.trans e<|λk d=>.inr (c k d).2⟩
def RB.more{j:eV}{v c x:ab}{E:Obj}(D:RB a B j f)(r:eP f (z<|G a) v 166)(o:∀k,j k↔k=z (G a)\/cK v=H k)(w:f.ownsRow (z (G a)+1) 169 1 v (y B) B)(t:eE (cN f E) A v c)(d:A.ownsRow (z (G a)+1) 169 1 c (y B+1) (B++[x])):∃l,RB a (B++[x]) l (cq A (R (z<|G a) 0) c)/\Z j f (cq A (R (z<|G a) 0) c)/\(∀k,l k->j k\/z (G f)<=k):=by
 have h:∀k,cK v=H k->z (G a)+1<=k/\k<z (G f):=λk b=>w.lt k b;have s:∀k,cK c=H k->z (G a)+1<=k:=λk b=>(d.lt k b).1;have q:Z (λk=>cK v=H k) f A:=((Z.refl (λk=>cK v=H k) f).alloc E).trans (Z.ee (S:=λk=>cK v=H k) t.grown<|λk b=>.inl b)<|λk b=>.inl b;have g:eP A (z<|G a) v 166:=(q.block _ (ak r) (λn=>by have:=(h _ n).1;omega)).trans r;have e:Z j f (cq A (R (z<|G a) 0) c):=(q.mono (T:=j)<|λk b=>.inl<|(o k).2<|.inr b).setCell _ _ _<|.inl<|(o _).2<|.inl rfl;refine⟨λk=>k=z (G a)\/cK c=H k,⟨⟨c,g.set _,?_,λk=>qY⟩,?_⟩,e,?_⟩;rw[show y (B++[x])=y B+1 by simp];exact d.kept (dN A _ _ _) (by grind);exact D.aj.trans e<|λk b=>.inr (D.lt k b).1;rintro k(n|n);(grind);rcases t.vp with C|⟨F,C,u⟩;(grind);rw[C]at n;cases n;simp at u;grind
def NV(t:bz):ab:=.iface 186 t.ptr
def Ga(p:ab×cW):ab:=.iface 90 p.1
end
section
open Shelf
attribute [local go_sem] Oper.semAt_some
def WF(a:cW):∀j,j<=y a->(bk (a.map bz.ptr) j).map (λp=>Value.iface 186 p.2)=((a.take j).map NV).reverse
 |0,_=>by simp[bk]
 |j+1,h=>by
  have b:j<y a:=h;rw[bk,cy,WF a j (by omega),ai b,aP,List.reverse_append];simp only[cy,gR,uq,List.reverse_nil,cV,jF,mP,vr];rw[tq,fq,aQ b];rfl
def pt(a b c d:ab×cW):gW:=((a.2.map NV).reverse)++[Ga b]++[Ga c]++[Ga d]
def OD{w:Y}{lb lo:M}(p0 p1 p2 p3:ab×cW)(h:Dm w lb lo [p0,p1,p2,p3]):cY aZ 119 #[cX<|H<|R lb lo] w λej w'=>∃v',ej=aM v'/\w'.ownsRow (z<|G w) 169 1 v' (y<|pt p0 p1 p2 p3) (pt p0 p1 p2 p3)/\Z ay w w':=by
 obtain⟨i0,bo,bp,bq,bi⟩:=di Ju;obtain⟨v0,e⟩:=p0;obtain⟨v1,q⟩:=p1;obtain⟨v2,r⟩:=p2;obtain⟨v3,s⟩:=p3;have c0:aW w (R lb lo)=H v0:=h.cell 0 (by simp);have c1:aW w (R lb<|lo+1)=H v1:=h.cell 1 (by simp);have c2:aW w (R lb<|lo+2)=H v2:=h.cell 2 (by simp);have c3:aW w (R lb<|lo+3)=H v3:=h.cell 3 (by simp);have bT:Row w 1 v0 (y e) (e.map bz.ptr):=h.row 0 (by simp);have cu:∀ba,cK v0=H ba->ba<z (G w):=h.pa 0 (by simp);obtain⟨x0,ao,rfl⟩:=bY bT;obtain⟨x1,K,rfl⟩:∃bx aV,v1=I bx (y q) aV:=bY (h.row 1<|by simp);obtain⟨x2,L,rfl⟩:∃bx aV,v2=I bx (y r) aV:=bY (h.row 2<|by simp);obtain⟨x3,N,rfl⟩:∃bx aV,v3=I bx (y s) aV:=bY (h.row 3<|by simp);have dx:y e<=100000000:=by have:=h.small;simp[lO]at this;omega
 have bL:=h.lt;obtain⟨bE,dc,dk,dn,cd⟩:=iO c1 c2 c3 bT cu;clear h bT cu c1 c2 c3;refine(dP (n:=3)).1 ?_;refine callsIn_of_wp_marks func119 rfl trivial ?_ rfl;simp only[ntmps119,fo,aY,dG,Nat.reduceAdd,Nat.reduceSub,eM,eL,fp,eX,cV,df];gi_wp2;refine wpIn_loop_rounds 5 ?_;rw[roundsIn_succ];gi_wp2;rename_i QQ KK x;apply Gm KK;(.intro au;refine sS.2 ?_;(go_region);all_goals exact au);apply x;clear x;have dv:=λdr=>JT (I x0 (y e) ao) x0 (y e) ao rfl dr;gi_wp2_with(refine⟨trivial,?_⟩;gi_at_call 183;refine(dP.2<|dv _).mono ?_;rintro ej w1⟨rfl,rfl⟩)
 have e1:z (G (cN (cN w<|aw #[az] 166)<|aw #[I x0 (y e) ao] 90).drew)=z (G w)+2:=by simp
 obtain⟨W0,ax⟩:∃W0,(cN (cN w<|aw #[az] 166)<|aw #[I x0 (y e) ao] 90).drew=W0:=⟨_,rfl⟩;rw[ax]at e1;have bh:Z ay w W0:=by rw[<-ax];exact((cF ay w).alloc _).of_heap rfl
 have cv:eP W0 (z (G w)+1) (I x0 (y e) ao) 90:=by rw[<-ax];exact aJ (w:=cN w<|aw #[az] 166) _<|by simp
 have cw:eP W0 (z<|G w) az 166:=by rw[<-ax];exact eP.alloc (w:=cN w<|aw #[az] 166) (aJ (w:=w) _ rfl) _
 have bv:Row W0 1 (I x0 (y e) ao) (y<|e.map bz.ptr) (e.map bz.ptr):=by rw[dj];exact bh.row dn<|λba hk=>⟨id,cd ba hk⟩
 have cp:RB w [] (λba=>ba=z (G w)) W0:=⟨⟨az,cw,cO _ _ _ _,λba=>by simp[cK]⟩,bh⟩;rw[ax];refine pj (α:=M×ab) (arg:=YG) (m:=3) (V:=zf) (n0:=z<|G w) (gf:=231) (lb:=#[aA<|z (G w)+1]) (l:=bk (e.map bz.ptr)<|y<|e.map bz.ptr) (S:=λba=>ba=z (G w)+1) ?geval (enters_of func231 (by kernel_rfl) rfl) (λ_=>rfl) (Pz (z<|G w) 2 cv bv cd bh.size (by simp;omega)) trivial bh.size ?slt (λpre dT dr=>RB w (pre.map<|λea=>Value.iface 186 ea.2) dT dr) (λ_ _ _ _=>False) (λba=>ba=z (G w)) cp ?sb ?lt ?st (λ_ _ _ _ _ _ h=>h.elim) ?body ?done ?stop;case geval=>rfl
 (case slt=>grind);(case sb=>grind);(case lt=>intro pre dT dr h ba hk;exact h.lt ba hk);(case st=>intro pre dT dr u T h t o;refine h.stays t<|λba hk=>⟨(o ba hk).1,?_⟩;rcases(o ba hk).2 with aV|aV|aV;omega;exact aV.elim;omega);(case stop=>grind)
 case body=>
  intro lr pre bx dT dr bc aa al t hC _;obtain⟨xi,T⟩:=bx;obtain⟨C,u⟩:∃C,pre.map (λea=>Value.iface 186 ea.2)=C:=⟨_,rfl⟩;have Q:y C<=100000000:=by
   have:=t.length_le;rw[<-u];simp only[dj,af,aY,dG]at this|-;have hb:∀(a:gW)an,y (bk a an)=an:=λa an=>by induction an with|zero=>rfl|succ an ih=>simp[bk,ih]
   rw[hb]at this;omega
  rw[u]at hC;obtain⟨HC,av,ad⟩:=dz hC u t;clear hC t u;obtain⟨NN,v⟩:∃NN,y C=NN:=⟨_,rfl⟩;have i:=U v;unfold YG;simp only;gi_wp2;refine⟨Z.refl _ _,λW2 o=>?_⟩;have g:RB w C dT W2:=HC.stays o (λba hk=>by grind);obtain⟨db,k,b,j⟩:=g.row;rw[v]at b;have ap:aW W2 (R (z<|G w) 0)=H db:=k.cell;have aD:W2.frozen? (R (z<|G w) 0)=aX:=k.free;obtain⟨ex,ec,O⟩:=aB b;have F:=ak k;have bb:NN<=100000000:=by omega
  obtain⟨bE,P,f,p,W⟩:=iO g k b j o;clear g k b j o Q v;subst O;gi_wp2_with(first
   |(gi_at_builtin;refine fi _ rfl (.tmp 27) (.tmp 30) 166 rfl (z (G w)+1) 169 i0 .nilIface 1 16 underlying166 bo bp bq bi rfl (by decide) (.slice ex NN ec) NN C rfl (aT f (.cells #[Value.iface 186 T] 169)) (R (z (G W2)) 0) 1 1 [Value.iface 186 T] rfl rfl (vQ _ _ _) (Va rfl) (by omega) (by omega) (by simp;omega) ?_;intro cb w3 a d;obtain⟨aU,aF,rfl⟩:=aB a;have c:eP w3 (z (G w)) (.slice ex NN ec) 166:=(d.grown.block _ (ak (P.alloc (.cells #[Value.iface 186 T] 169))) (λaV=>by have:=(f.lt _ aV.symm).1;omega)).trans (P.alloc _);have D:=c.cell;have E:=c.free;clear c;have A:=U a;have B:=U d;clear a d))
  obtain⟨B',q1,q2,q3⟩:=bE.more (x:=Value.iface 186 T) P p (by rw[J i];exact f) B (by rw[J i];exact A);have o:=J W;have bi:=o.size;have ac:Z (λba=>dT ba\/ba=lr) dr W2:=o.mono<|λba hk=>.inl<|.inr hk;refine⟨trivial,B',?_,ac.trans q2<|λba hk=>.inl<|.inl hk,q2.block lr (by omega) aa,λba hk=>?_⟩
  .grind[J]
  grind
 case done=>
  intro cc B1 W1 ei hC bd _ hK;have cM:(bk (e.map bz.ptr)<|y<|e.map bz.ptr).map (λea=>Value.iface 186 ea.2)=(e.map NV).reverse:=by
   rw[dj,WF e _<|ah _,bI]
  rw[cM]at hC;obtain⟨T,W⟩:∃NN,y (e.map NV).reverse=NN:=⟨_,rfl⟩;have cr:T<=100000000:=by rw[<-W];simpa using dx
  have t:(e.map NV).reverse++[Ga (I x1 (y q) K,q)]++[Ga (I x2 (y r) L,r)]++[Ga (I x3 (y s) N,s)]=pt (I x0 (y e) ao,e) (I x1 (y q) K,q) (I x2 (y r) L,r) (I x3 (y s) N,s):=rfl;unfold Ga at t;simp only at t;generalize(e.map NV).reverse=bl at hC W t;have C:=U hC;have o:=U hK;clear hC hK cM;clear ax cv cw bv cp bh;gi_wp2;rw[roundsIn_succ];have cx:aW W1 (R lb<|lo+1)=H (I x1 (y q) K):=C.aj.cell bE id bL;gi_wp2;rename_i QQ KK x;apply Gm KK
  .intro au;refine sS.2 ?_;go_region
   all_goals exact au
  apply x;clear x cx;have g:RB w bl B1 W1.drew:=C.stays (cZ ay W1) cL;have u:W1.drew.heap[cc]?=H (.deferred<|H []):=J o;generalize W1.drew=U1 at g u|-;clear C o;obtain⟨db,k,b,j⟩:=g.row;rw[W]at b;have ap:aW U1 (R (z<|G w) 0)=H db:=k.cell;have aD:U1.frozen? (R (z<|G w) 0)=aX:=k.free;obtain⟨cl,ch,O⟩:=aB b;have F:=ak k;obtain⟨P,f,p,C,av,i⟩:=lf k b j g u W;clear k b j g u W;subst O;gi_wp2_with(first
   |(gi_at_builtin;refine fi _ rfl (.tmp 18) (.tmp 21) 166 rfl (z (G w)+1) 169 i0 .nilIface 1 16 underlying166 bo bp bq bi rfl (by decide) (.slice cl T ch) T bl rfl (aT f (.cells #[Value.iface 90 (.slice x1 (y q) K)] 169)) (R (z (G U1)) 0) 1 1 [Value.iface 90 (.slice x1 (y q) K)] rfl rfl (vQ _ _ _) (Va rfl) (by omega) (by omega) (by simp;omega) ?_;intro cb w3 a d;obtain⟨aU,aF,rfl⟩:=aB a;have c:eP w3 (z (G w)) (.slice cl T ch) 166:=(d.grown.block _ (ak (P.alloc (.cells #[Value.iface 90 (.slice x1 (y q) K)] 169))) (λaV=>by have:=(f.lt _ aV.symm).1;omega)).trans (P.alloc _);have D:=c.cell;have E:=c.free;clear c;have A:=U a;have B:=U d;clear a d))
  obtain⟨B2,q1,q2,q3⟩:=C.more (x:=Value.iface 90<|I x1 (y q) K) P p (by rw[J i];exact f) B (by rw[J i];exact A);have bf:¬B2 cc:=λaV=>(q3 cc aV).elim bd (λbT=>by have:=ak av;omega);have v:=(q2.block cc (ak av) bd).trans av;generalize cq w3 (R (z<|G w) 0) (I aU (T+1) aF)=W2 at q1 v|-;have aa:y (bl++[Value.iface 90<|I x1 (y q) K])=T+1:=by rw[af,J i];rfl
  generalize bl++[Value.iface 90<|I x1 (y q) K]=bm at q1 aa t;have bb:=U q1;have ce:=U v;have bt:T+1<=100000000+1:=by omega
  clear q1 q2 q3 v P f p C av i B A bd F cr D E;clear ap aD;obtain⟨al,ad⟩:∃bx,T+1=bx:=⟨_,rfl⟩;rw[ad]at aa bt;clear ad;rw[roundsIn_succ];have cB:aW W2 (R lb<|lo+2)=H (I x2 (y r) L):=bb.aj.cell dc id bL;gi_wp2;rename_i QQ KK x;apply Gm KK
  .intro au;refine sS.2 ?_;go_region
   all_goals exact au
  apply x;clear x cB;have g:RB w bm B2 W2.drew:=bb.stays (cZ ay W2) cL;have u:W2.drew.heap[cc]?=H (.deferred<|H []):=J ce;generalize W2.drew=U2 at g u|-;clear bb ce;obtain⟨db,k,b,j⟩:=g.row;rw[aa]at b;have ap:aW U2 (R (z<|G w) 0)=H db:=k.cell;have aD:U2.frozen? (R (z<|G w) 0)=aX:=k.free;obtain⟨cm,cj,O⟩:=aB b;have F:=ak k;obtain⟨P,f,p,Q,o,i⟩:=lf k b j g u aa;clear k b j g u aa;subst O;gi_wp2_with(first
   |(gi_at_builtin;refine fi _ rfl (.tmp 18) (.tmp 21) 166 rfl (z (G w)+1) 169 i0 .nilIface 1 16 underlying166 bo bp bq bi rfl (by decide) (.slice cm al cj) al bm rfl (aT f (.cells #[Value.iface 90 (.slice x2 (y r) L)] 169)) (R (z (G U2)) 0) 1 1 [Value.iface 90 (.slice x2 (y r) L)] rfl rfl (vQ _ _ _) (Va rfl) (by omega) (by omega) (by simp;omega) ?_;intro cb w3 a d;obtain⟨aU,aF,rfl⟩:=aB a;have c:eP w3 (z (G w)) (.slice cm al cj) 166:=(d.grown.block _ (ak (P.alloc (.cells #[Value.iface 90 (.slice x2 (y r) L)] 169))) (λaV=>by have:=(f.lt _ aV.symm).1;omega)).trans (P.alloc _);have D:=c.cell;have E:=c.free;clear c;have A:=U a;have B:=U d;clear a d))
  obtain⟨B3,q1,q2,q3⟩:=Q.more (x:=Value.iface 90<|I x2 (y r) L) P p (by rw[J i];exact f) B (by rw[J i];exact A);have bg:¬B3 cc:=λaV=>(q3 cc aV).elim bf (λbT=>by have:=ak o;omega);have v:=(q2.block cc (ak o) bf).trans o;generalize cq w3 (R (z<|G w) 0) (I aU (al+1) aF)=W3 at q1 v|-;have ac:y (bm++[Value.iface 90<|I x2 (y r) L])=al+1:=by rw[af,J i];rfl
  generalize bm++[Value.iface 90<|I x2 (y r) L]=bn at q1 ac t;have bc:=U q1;have cf:=U v;have bu:al+1<=100000000+2:=by omega
  clear q1 q2 q3 v P f p Q o i B A bf F bt D E;clear ap aD;obtain⟨an,ad⟩:∃bx,al+1=bx:=⟨_,rfl⟩;rw[ad]at ac bu;clear ad;rw[roundsIn_succ];have cE:aW W3 (R lb<|lo+3)=H (I x3 (y s) N):=bc.aj.cell dk id bL;gi_wp2;rename_i QQ KK x;apply Gm KK
  .intro au;refine sS.2 ?_;go_region
   all_goals exact au
  apply x;clear x cE;have g:RB w bn B3 W3.drew:=bc.stays (cZ ay W3) cL;have u:W3.drew.heap[cc]?=H (.deferred<|H []):=J cf;generalize W3.drew=U3 at g u|-;clear bc cf;obtain⟨db,k,b,j⟩:=g.row;rw[ac]at b;have ap:aW U3 (R (z<|G w) 0)=H db:=k.cell;have aD:U3.frozen? (R (z<|G w) 0)=aX:=k.free;obtain⟨cn,ck,O⟩:=aB b;have F:=ak k;obtain⟨P,f,p,Q,o,i⟩:=lf k b j g u ac;clear k b j g u ac;subst O;gi_wp2_with(first
   |(gi_at_builtin;refine fi _ rfl (.tmp 18) (.tmp 21) 166 rfl (z (G w)+1) 169 i0 .nilIface 1 16 underlying166 bo bp bq bi rfl (by decide) (.slice cn an ck) an bn rfl (aT f (.cells #[Value.iface 90 (.slice x3 (y s) N)] 169)) (R (z (G U3)) 0) 1 1 [Value.iface 90 (.slice x3 (y s) N)] rfl rfl (vQ _ _ _) (Va rfl) (by omega) (by omega) (by simp;omega) ?_;intro cb w3 a d;obtain⟨aU,aF,rfl⟩:=aB a;have c:eP w3 (z (G w)) (.slice cn an ck) 166:=(d.grown.block _ (ak (P.alloc (.cells #[Value.iface 90 (.slice x3 (y s) N)] 169))) (λaV=>by have:=(f.lt _ aV.symm).1;omega)).trans (P.alloc _);have D:=c.cell;have E:=c.free;clear c;have A:=U a;have B:=U d;clear a d))
  obtain⟨B4,q1,q2,q3⟩:=Q.more (x:=Value.iface 90<|I x3 (y s) N) P p (by rw[J i];exact f) B (by rw[J i];exact A);have co:¬B4 cc:=λaV=>(q3 cc aV).elim bg (λbT=>by have:=ak o;omega);have v:=(q2.block cc (ak o) bg).trans o;generalize cq w3 (R (z<|G w) 0) (I aU (an+1) aF)=W4 at q1 v|-;have bs:y (bn++[Value.iface 90<|I x3 (y s) N])=an+1:=by rw[af,J i];rfl
  generalize bn++[Value.iface 90<|I x3 (y s) N]=ec at q1 bs t;have br:=U q1;have dm:=U v;have cs:an+1<=100000000+3:=by omega
  clear q1 q2 q3 v P f p Q o i B A bg F bu D E;clear ap aD;obtain⟨eb,ad⟩:∃bx,an+1=bx:=⟨_,rfl⟩;rw[ad]at bs cs;clear ad;rw[roundsIn_succ];obtain⟨db,k,b,j⟩:=br.row;have ap:aW W4 (R (z<|G w) 0)=H db:=k.cell;obtain⟨eg,ef,O⟩:=aB b;have f:=U b;have p:=U j;subst O;clear k b j;gi_wp2;have cT:=gF W4 cc<|.deferred none;refine⟨by simp,.inl ⟨_,_,rfl,run_takeDeferred dm,?_⟩⟩;refine⟨_,iw rfl _ _ _,?_⟩;have b:=J f;have hB:=J p;rw[t]at b hB;have hx:=cT.own b<|λba hk aV=>co<|(hB cc).2<|.inr (by rw[<-aV];exact hk);refine⟨_,rfl,?_,br.aj.trans cT<|λba hk=>.inr (by subst hk;omega)⟩;obtain⟨h1,⟨h2,h0⟩|⟨ek,ed,ds,h2,hb,ca⟩⟩:=hx
  .exact⟨h1,.inl ⟨h2,h0⟩⟩
  .exact⟨h1,.inr ⟨ek,ed,ds,h2,by omega,ca⟩⟩
end
section
open Shelf
theorem SX{a d:gW}(h:y B=b*4)(i:c<=b)(j:y a=4)(k:y d=(b+1-c)*4+g):(((B.take (c*4)++d).take (c*4)++a++(B.take (c*4)++d).drop (c*4+y a)).take ((c+1)*4)++B.drop (c*4)++((B.take (c*4)++d).take (c*4)++a++(B.take (c*4)++d).drop (c*4+y a)).drop ((c+1)*4+y (B.drop<|c*4))).take ((b+1)*4)=B.take (c*4)++a++B.drop (c*4):=by
 have e:y (B.take<|c*4)=c*4:=by rw[dO];omega
 have f:(B.take (c*4)++d).take (c*4)=B.take (c*4):=oQ e;rw[f,oQ (by simp;omega),oQ (by simp;omega)]
def Mh(e F n i:M)(A:Array ab)(d:gW)(ax:e<=z (G a))(hg:a.heap[F]?=H (aw A 171 (0,0)))(av:A.size=n*4)(t:A.toList.take (n*4)=d)(hv:iM a b w)(hi:i<n)(hn:n<=1000000000)(h1:∀al∈d,al.oneCell'=ci):cY aZ 151 #[bD F 0 n n,ar i,bD b 0 1 1] a λbu w'=>∃c,bu=aM (bD (z<|G a) 0 (n+1) c)/\w'.ownsRow e 171 4 (bD (z<|G a) 0 (n+1) c) (n+1) (d.take (i*4)++aK [w]++d.drop (i*4))/\Z ay a w':=by
 have aa:y d=n*4:=by rw[<-t,dO,lR];omega
 have ap:=ak hg;have aV:=ak hv;obtain⟨i0,aD,ba,bc,ac⟩:=di mZ;have D:(prog.info? 171).map (·.size)=H 4:=by kernel_rfl
 have Q:(n:X)+1-(i:X)=((n+1-i:M):X):=by omega
 have C:i+(n+1-i)=n+1:=by omega
 have x:(Builtin.firstCells i0.size i<|bD F 0 i n).run aZ a.drew=.ok (d.take<|i*4).toArray a.drew:=by
  rw[bc];exact run_firstCells_some a.drew 4 i (R F 0) i n (d.take<|i*4) (by rw[dO];omega) (λbg al v=>by
   rw[dB,dE];rw[oS]at v;split at v
   .have:=qe (w:=a.drew) hg t bg al 0 (by simpa using v);grind
   .cases v)
 have s:∀j,(Builtin.append_ #[87,3] j #[bD F 0 i n,ar<|(n:X)+1-(i:X)]).run aZ a=.ok (bD (z<|G a) 0 (n+1)<|grownCap a (n+1) n 171) (cN a.drew<|aw ((d.take<|i*4).toArray++Builtin.zeroCells wo.cells (n+1-i)++Builtin.zeroCells wo.cells (grownCap a (n+1) n 171-(n+1))) 171):=λj=>by have h:=Lib.run_append_grow_zeros a 87 3 j 171 i0 _ .i64 .i64 underlying87 underlying3 aD ba (H<|R F 0) i n (d.take<|i*4) x (n+1-i) (by omega) (by omega) (by omega) (by omega) (by rw[ac];omega) (by rw[ac,C];exact tf (by omega)<|by omega);rw[C]at h;rw[Q];exact h
 obtain⟨c,hG⟩:∃c,c=grownCap a (n+1) n 171:=⟨_,rfl⟩;rw[<-hG]at s;have ao:n+1<=c:=by rw[hG];exact grownCap_ge a _ _ _
 have N:c<=maxLen:=by rw[hG];exact grownCap_le_maxLen a (n+1) n _ (by unfold maxLen;omega)
 have bd:c<=9223372036854775807:=by unfold maxLen at N;omega
 obtain⟨zs,l⟩:∃zs:gW,zs=(Builtin.zeroCells wo.cells (n+1-i)++Builtin.zeroCells wo.cells (c-(n+1))).toList:=⟨_,rfl⟩;have bb:y zs=(n+1-i)*4+(c-(n+1))*4:=by rw[l];simp[Builtin.zeroCells,wo,Value.cells]
 have k:((d.take<|i*4).toArray++Builtin.zeroCells wo.cells (n+1-i)++Builtin.zeroCells wo.cells (c-(n+1)))=(d.take (i*4)++zs).toArray:=by rw[l,Array.append_assoc];grind
 rw[k]at s;have T:y (aK [w])=4:=rfl;have V:y (d.drop<|i*4)=(n-i)*4:=by rw[jc,aa];omega
 obtain⟨f,p⟩:∃f,f=d.take (i*4)++zs:=⟨_,rfl⟩;obtain⟨g,q⟩:∃g,g=f.take (i*4)++aK [w]++f.drop (i*4+y (aK [w])):=⟨_,rfl⟩;obtain⟨m,r⟩:∃m,m=g.take ((i+1)*4)++d.drop (i*4)++g.drop ((i+1)*4+y (d.drop<|i*4)):=⟨_,rfl⟩;have aF:y f=c*4:=by rw[p,af,dO];omega
 have aU:y g=c*4:=by rw[q];simp only[af,dO,jc];omega
 have S:y m=c*4:=by rw[r];simp only[af,dO,jc];omega
 have u:m.take ((n+1)*4)=d.take (i*4)++aK [w]++d.drop (i*4):=by rw[r,q,p];grind[SX]
 rw[<-p]at s;have O:∀(W:Y),W.heap[z<|G a]?=H (aw f.toArray 171 (0,0))->W.heap[b]?=a.heap[b]?->∀j o,(Builtin.copy_ #[87,86] j #[bD (z<|G a) (i*4) (n+1-i) o,bD b 0 1 1]).run aZ W=.ok (goInt<|Nat.min 1<|n+1-i) (W.setRow (z<|G a) g.toArray):=λW hW B j o=>by rw[q];refine rh W _ _ j 171 4 (z<|G a) (i*4) _ o (R b 0) _ 1 f.toArray _ (aK [w]) underlying87 D hW ?_ (λbg al v=>?_) (by simp;omega)<|BR w;rw[T];simp only[Nat.min_def];split<;>omega;rw[dB,cg<|B.trans hv,dE];simpa[aK,E.cells]using v
 have P:∀(W:Y),W.heap[z<|G a]?=H (aw g.toArray 171 (0,0))->W.heap[F]?=a.heap[F]?->∀j o sc,(Builtin.copy_ #[87,87] j #[bD (z<|G a) ((i+1)*4) (n-i) o,bD F (i*4) (n-i) sc]).run aZ W=.ok (goInt<|Nat.min (n-i)<|n-i) (W.setRow (z<|G a) m.toArray):=λW hW B j o sc=>by rw[r];refine rh W _ _ j 171 4 (z<|G a) ((i+1)*4) _ o (R F<|i*4) _ sc g.toArray _ (d.drop<|i*4) underlying87 D hW ?_ (λbg al v=>by rw[dB];exact qe (B.trans hg) t bg al _ v) (by simp;omega)<|λal hu=>h1 al<|dQ hu;rw[V];grind
 have hA1:((cN a<|aw f.toArray 171).drew).heap[z<|G a]?=H (aw f.toArray 171 (0,0)):=aJ (w:=a) _ rfl;have hA2:((cN a<|aw f.toArray 171).drew).heap[b]?=a.heap[b]?:=fU (w:=a) _ aV;have L:(((cN a<|aw f.toArray 171).drew.setRow (z<|G a) g.toArray).drew).heap[z<|G a]?=H (aw g.toArray 171 (0,0)):=uk _ _ _ _ _ _ hA1;have an:(((cN a<|aw f.toArray 171).drew.setRow (z<|G a) g.toArray).drew).heap[F]?=a.heap[F]?:=(sC _ _ _ _<|by omega).trans<|fU (w:=a) _ ap;have K:=U (show((((cN a<|aw f.toArray 171).drew.setRow (z<|G a) g.toArray).drew).setRow (z<|G a) m.toArray).ownsRow e 171 4 (bD (z<|G a) 0 (n+1) c) (n+1) (d.take (i*4)++aK [w]++d.drop (i*4))/\Z ay a ((((cN a<|aw f.toArray 171).drew.setRow (z<|G a) g.toArray).drew).setRow (z<|G a) m.toArray)from by refine⟨⟨by grind,.inr ⟨z<|G a,c,m.toArray,rfl,ax,uk _ _ _ _ _ _ L,ao,N,by simpa using S,u⟩⟩,?_⟩;have t1:Z ay a (cN a<|aw f.toArray 171).drew:=(cF ay a).of_heap rfl;have t2:Z ay a ((cN a<|aw f.toArray 171).drew.setRow (z<|G a) g.toArray).drew:=(t1.trans (Cv _ (z<|G a) g.toArray)<|λk b=>.inr<|by omega).of_heap rfl;exact t2.trans (Cv _ (z<|G a) m.toArray)<|λk b=>.inr<|by omega);have au:=λj o=>O _ hA1 hA2 j o;have bt:¬((i:X)=(n:X)):=by omega
 have bq:IntKind.i64.wrap ((i:X)+1)=(i:X)+1:=by rw[bN];omega
 have br:IntKind.i64.wrap ((n:X)+1)=(n:X)+1:=by rw[bN];omega
 have bs:IntKind.i64.wrap ((n:X)+1-(i:X))=(n:X)+1-(i:X):=by rw[bN];omega
 have bp:((i:X)+1).toNat=i+1:=by omega
 have bf:((n:X)+1).toNat=n+1:=by omega
 have bk:(0:X)<=(i:X)+1:=by omega
 have bo:i<=n:=by omega
 have bl:(i:X)<=(n:X)+1:=by omega
 have bm:(n:X)<(n:X)+1:=by omega
 have bh:¬(c=i):=by omega
 have bi:¬(c=i+1):=by omega
 have bn:¬(n=i):=by omega
 have ad:prog.follows .mixedOrders=ci:=by kernel_rfl
 clear p q r aF aU S u T V bb k l hG C Q x aa t h1 av D hv hg;go_in
 go_wp2_with(at_builtin;refine Lib.wpList_append_run _ rfl _ _ _ _ rfl _ _ rfl rfl _ _ (s _) ?_)
 go_region_law_o (refine zm rfl _ _ 87 87 rfl (bD (z<|G a) ((i+1)*4) (n-i)<|c-(i+1)) (bD F (i*4) (n-i)<|n-i) (by simp[Act.eval,Act.put]) (by simp[Act.eval,Act.put]) (P _ L an 3 _ _) ?_)
 go_wp2;go_ret;exact⟨c,rfl,K⟩
def OP{w:Y}{baseqq:M}{v:ab}{n:M}(t:M){xs:gW}{x:E}{vb:M}(q:w.ownsRow baseqq 171 4 v n xs)(B:baseqq<=z (G w))(r:iM w vb x)(p:cK v≠H vb)(O:t<=n)(o:n<=1000000000)(A:∀P∈xs,P.oneCell'=ci):cY aZ 151 #[v,ar t,bD vb 0 1 1] w λu i=>∃d,u=aM d/\i.ownsRow baseqq 171 4 d (n+1) (xs.take (t*4)++aK [x]++xs.drop (t*4))/\Z (λK=>cK v=H K) w i/\(cK d=cK v\/∃N,cK d=H N/\z (G w)<=N):=by
 have s:=q.1;by_cases k:t=n;subst k;apply(OO q B r o).mono;rintro u i⟨d,rfl,f,c⟩;refine⟨d,rfl,?_,Z.ee c.grown<|λK l=>.inl l,c.vp⟩;rw[<-s,bI,gv,dM];exact f;rcases q.2 with⟨rfl,rfl⟩|⟨L,a,e,rfl,j,C,F,m,g,h⟩;omega;by_cases b:n+1<=a;refine(Js baseqq L a n t e xs j C b (by unfold maxLen at m;omega) g h r (λu=>p (by rw[u];rfl)) (by omega) o A).mono ?_;rintro u i⟨rfl,f,c⟩;exact⟨_,rfl,f,c.mono<|λK l=>.inl (by rw[l];rfl),.inl rfl⟩;(obtain rfl:a=n:=by omega);apply(Mh baseqq L a t e xs B C g h r (by omega) o A).mono;rintro u i⟨D,rfl,f,c⟩;exact⟨_,rfl,f,c.mono cL,.inr ⟨_,rfl,ah _⟩⟩
end
section
open Shelf
attribute [local go_sem] Oper.semAt_some
def Yf:(prog.info? 88).map (λi=>(i.zero,i.size,i.bytes))=H (H<|aE 0,1,8):=by kernel_rfl
structure Nf(w:Y)(bm:M)(pre:eR)(B:eV)(W:Y):Prop where
 ex:∃pv,eP W (z<|G w) pv 203/\W.ownsRow (z (G w)+1) 88 1 pv (y pre) (pre.map<|Value.int .u64)/\∀k,B k↔k=z (G w)\/cK pv=H k
 aj:Z (λk=>k=bm) w W
def Nf.lt{pre:eR}(i:Nf a c pre p A):∀k,p k->z (G a)<=k/\k<z (G A):=by
 obtain⟨l,j,d,e⟩:=i.ex;intro k g;rcases(e k).1 g with rfl|h;grind
 have:=bM d k h;omega
def Nf.stays{pre:eR}{T:eV}(m:Nf a b pre p f)(g:Z T f A)(d:∀k,T k->¬p k/\(k=b\/z (G a)<=k)):Nf a b pre p A:=by
 obtain⟨l,i,j,c⟩:=m.ex;exact⟨⟨l,i.aj g<|λh=>(d _ h).1<|(c _).2<|.inl rfl,g.own j<|λk e h=>(d k h).1<|(c k).2<|.inr e,c⟩,m.aj.trans g<|λk e=>(d k e).2⟩
def Gr(aV:jM){F:eR}(hb:eP a b (.map<|H c) 78)(hm:oP a c aV)(av:xL aV F)(hl:y F<=1000000):cY aZ 253 #[az,.func (.func 219) #[] #[aA b]] a λbl w'=>
 ∃c,∃ad:eR,bl=aM c/\ad.Perm F/\w'.ownsRow (z<|G a) 88 1 c (y ad) (ad.map<|Value.int .u64)/\Z (λk=>k=b) a w':=by
 obtain⟨i0,ap,ax,aD,aF⟩:=di Yf
 have bb:=ak hb
 have P:=hm.lt
 refine(dP (n:=3)).1 ?_
 refine callsIn_of_wp_marks func253 rfl trivial ?_ rfl
 simp only[ntmps253,fo,aY,dG,Nat.reduceAdd,Nat.reduceSub,eM,eL,fp,eX,cV,df]
 gi_wp2
 obtain⟨B,o⟩:∃B,cN a (aw #[az] 203)=B:=⟨_,rfl⟩
 have bf:z (G B)=z (G a)+1:=by rw[<-o];simp
 have x:Z ay a B:=by rw[<-o];exact(cF ay a)
 have hA0:Nf a b [] (λk=>k=z (G a)) B:=⟨⟨az,by rw[<-o];exact aJ _ rfl,cO _ _ _ _,λk=>by simp[cK]⟩,x.mono cL⟩
 rw[o]
 refine uv (m:=3) (arg:=YF) (V:=zf) (n0:=z<|G a) (gf:=219) (lb:=#[aA b]) (pp:=λad _=>∃bk,(ad++bk).Perm F) (ff:=λad=>ad.Perm F) (S:=λk=>k=b) (λ_ h=>.inr<|.inr h) ?geval (enters_of func219 (by kernel_rfl) rfl) (λ_=>rfl) (IC (z<|G a) 2 b c aV F B (hb.aj x id) (hm.dw<|x.block _ P id) av P<|by omega) trivial (by omega) (λk d=>by omega) (λpre K ac=>Nf a b pre K ac) (λ_ _ _ _=>False) _ hA0 (λk d p=>by omega) (λpre K ac i=>i.lt) ?st (λ_ _ _ _ _ _ h=>h.elim) ?body ?done ?stop
 case geval=>rfl
 case st=>
  intro pre K ac g bi i f e;refine i.stays f<|λk d=>⟨(e k d).1,?_⟩;rcases(e k d).2 with p|p|p
  .exact .inl p
  .exact p.elim
  grind
 case stop=>
  grind
 case body=>
  rintro lr pre aU K ac bc ao T⟨bk,s⟩i _;have bd:y pre+1<=1000000:=by have:=s.length_eq;grind
  unfold YF;simp only;have HA:=U i;clear i s;gi_wp2;refine⟨Z.refl _ _,λC f=>?_⟩;have hA2:=HA.stays f (λk d=>by grind);obtain⟨pv,A,u,O⟩:=hA2.ex;obtain⟨E,D,v⟩:=aB u;have z0:=A.cell;have bg:=ak A;have Q:lr<z (G C):=ag T.1 f.size;have ba:=f.size;obtain⟨HV,N,HB,al,an⟩:=iO A u O f hA2.aj;clear A u O f hA2;subst v;have HX:=U (show∀(j:ab)(l:Y),l.ownsRow (z (G a)+1) 88 1 j (y pre+1) (pre.map (Value.int .u64)++[aE aU])->eE (cN C<|aw #[aE aU] 88) l (I E (y pre) D) j->(aW l (R (z<|G a) 0)=H (I E (y pre) D)/\l.frozen? (R (z<|G a) 0)=aX)/\BM zf (λpre K ac=>Nf a b pre K ac) (λ_ _ _ _=>False) (pre++[aU]) K ac C lr .normal ⟨#[],[]⟩ (cq l (R (z<|G a) 0) j)fromλj l e g=>by
   have W:=(Z.refl ay C).alloc<|aw #[aE aU] 88;have aa:=Z.fH g;have au:¬(cK (I E (y pre) D)=H (z<|G a)):=λp=>by have:=(N.lt _ p).1;omega
   have t:eP l (z<|G a) (I E (y pre) D) 203:=(HV.aj W id).aj aa au;have w:Z K C (cq l (R (z<|G a) 0) j):=((W.mono (T:=K) cL).trans (aa.mono (T:=K)<|λk d=>.inl<|(HB k).2<|.inr d)<|λk d=>.inl d).setCell _ 0 _<|.inl<|(HB _).2<|.inl rfl;refine⟨⟨t.cell,t.free⟩,trivial,λk=>k=z (G a)\/cK j=H k,⟨⟨j,t.set j,?_,λk=>qY⟩,an.trans w<|λk d=>.inr (by rcases(HB k).1 d with p|p;omega;have:=(N.lt _ p).1;omega)⟩,(al.mono<|λk d=>.inl<|.inr d).trans w<|λk d=>.inl<|.inl d,w.block lr Q ao,λk d=>?_⟩
   .rw[af,aP];exact(eZ _ _ 0 _).own e (λk d p=>by have:=(bM e k d).1;omega)
   .rcases d with p|p
    .exact .inl<|(HB k).2<|.inl p
    .rcases g.vp with q|⟨bh,q,hy⟩
     .exact .inl<|(HB k).2<|.inr<|q▸p
     .rw[q]at p;cases p;exact .inr (by simp at hy;omega))
  gi_wp2_with(first
   |(gi_at_builtin;refine fi _ rfl (.tmp 8) (.tmp 10) 203 rfl (z (G a)+1) 88 i0 (.int .u64 0) 1 8 underlying203 ap ax aD aF rfl (by decide) (.slice E (y pre) D) (y pre) (pre.map (Value.int .u64)) rfl (aT N _) (R (z (G C)) 0) 1 1 [.int .u64 aU] rfl rfl (pN _ _ _) (by simp[Value.oneCell']) (by omega) (by omega) (by simp;omega) ?_;intro j l e g;obtain⟨⟨y0,y1⟩,r⟩:=HX j l e g;obtain⟨x6,c6,rfl⟩:=aB e;have L:=U r;clear e g r))
  exact L
 case done=>
  intro ad s K ac e C i j _ r;obtain⟨pv,A,u,O⟩:=i.ex;obtain⟨E,D,v⟩:=aB u;have z0:=A.cell;have l:cK pv≠H s:=λq=>j<|(O s).2<|.inr q;obtain⟨N,t,w,g⟩:=fY u r i.aj e;have L:=ak r;clear i A u O r e;subst v;gi_wp2;have f:=gF ac s<|.deferred none;refine⟨by simp,.inl ⟨_,_,rfl,run_takeDeferred t,?_⟩⟩;refine⟨_,iw rfl _ _ _,?_⟩;exact⟨_,ad,rfl,g,fX (f.own N<|λk d q=>l (by rw[<-q];exact d)) (by omega),w.trans f<|λk d=>.inr (by subst d;omega)⟩
def JP(m:jM)(o:eP a b (.map<|H c) 78)(q:oP a c m)(f:xL m n)(p:y n<=1000000):cY aZ 217 #[.func (.func 219) #[] #[aA b]] a λr k=>
 ∃g,∃l:eR,r=aM g/\l.Perm n/\k.ownsRow (z<|G a) 88 1 g (y l) (l.map<|Value.int .u64)/\Z (λd=>d=b) a k:=by
 have h:=Gr m o q f p
 go_in
 go_wp2_with fail
 apply h.mono
 rintro r u⟨g,l,rfl,i,e,j⟩
 obtain⟨t,s,rfl⟩:=aB e
 have d:=U<|And.intro i (And.intro e j)
 clear i e j
 go_wp2
 go_ret
 exact⟨_,l,rfl,d.1,d.2.1,d.2.2⟩
end
