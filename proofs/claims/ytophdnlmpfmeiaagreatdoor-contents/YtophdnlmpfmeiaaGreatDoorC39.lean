import Derived.Deep.Slices
import Derived.LaidHandle
import Derived.LaidSub
import Derived.Laws.StructEq
import Derived.Lib.LaidTab
import Derived.Test.YtophdnlmpfmeiaaGreatDoorRows
import Derived.Test.YtophdnlmpfmeiaaGreatDoorC37
import Derived.Test.YtophdnlmpfmeiaaGreatDoorC38
namespace Go.Proofs.YtophdnlmpfmeiaaGreatDoor
open ChangeShapes WideShapes RowKit Proofs.Tryz
set_option maxHeartbeats 16000000
set_option linter.all false
set_option maxRecDepth 100000
theorem qj:(prog.info? 42).map (λi=>(i.zero,i.size,i.bytes))=some (some (.agg #[.string ⟨#[]⟩,.string ⟨#[]⟩,.bool false]),3,40):=by kernel_rfl
theorem OY(n v:aa)(m:Bool)(w:J):(binOp .neq 42 (.agg #[.string n,.string v,.bool m]) (.agg #[.string n,.string v,.bool m])).run prog w=.ok (.bool false) w:=by
 have j:prog.underlying 42=some (.struct (prog.fieldsOf 42)):=by kernel_rfl
 have k:prog.stoodInHeld 42=false:=by kernel_rfl
 rw[run_neq_struct,show(10000:Nat)=9999+1 from rfl,run_equalIn_agg w 9999 _ _ _ j k];simp only[Program.fieldsOf,underlying42];go_simp
theorem zI(j:List nk):(cZ j).length=j.length*3:=by
 induction j with
 |nil=>rfl
 |cons m j k=>
  unfold cZ at*;rw[cF,ag,k,aE];simp only[ky,aE,cH];omega
theorem PH(k:List nk):∀u∈cZ k,u.oneCell'=true:=by
 intro u j;unfold cZ at j;obtain⟨m,_,i⟩:=iP.1 j;simp only[ky,aD,cS,gX]at i;rcases i with rfl|rfl|rfl<;>rfl
theorem uG{P:Program}(w:J){o:Array Oper}{m:List Oper}{y:Oper}{z:Act}{U:Exit->Act->J->Prop}(x:y.guard=none)(ac ad:Operand)(B:TypeId)(H:y.op=.call {callee:=.builtin .append,args:=#[ac,ad],argTypes:=#[B,B]})(A:TypeId)(i:TypeInfo)(T:M)(Q:P.underlying B=some (.slice A))(F:P.info? A=some i)(S:i.zero=some T)(L:z.eval ac=.slice none 0 0)(r:Addr)(q V:Nat)(j:List M)(R:z.eval ad=.slice (some r) q V)(G:j.length=q*i.size)(n:∀X v,j[X]?=some v->w.cell? (r.add X)=some v)(D:0<q)(t:q<=maxLen)(u:(q:Int)<=9223372036854775807)(s:q*i.bytes<=281474976710656)(al:∀k,q<=k->k<=maxLen->wpList P o U m (z.put y.dst (.slice (some ⟨w.heap.size,0,none⟩) q k)) (w.drew.alloc (.cells (j.toArray++Builtin.zeroCells T.cells (k-q)) A))):wpList P o U (y::m) z w:=by
 refine iG x λan E=>?_;have K:=run_append_nil w B y.type A i T Q F S r q V j G n D u s;unfold Oper.wp execOp;simp only[H,resolve,invoke,builtin,iH,lS,ir,qx,aY,df,L,R,K];exact E _ _ (al _ (grownCap_ge _ _ _ _) (oE _ _ _ _ t))
def zH(j:List nk)(m:Nat):Array M:=(cZ j).toArray++Builtin.zeroCells #[.string ⟨#[]⟩,.string ⟨#[]⟩,.bool false] m
theorem Bb(m:List nk)(s:Nat):∀u∈(zH m s).toList,(∃t,u=.string t)\/∃r,u=.bool r:=by
 intro u j;unfold zH at j;rw[Array.toList_append,aw]at j;rcases j with j|j
 ·unfold cZ at j;obtain⟨n,_,k⟩:=iP.1 (by simpa using j);simp only[ky,aD,cS,gX]at k;rcases k with rfl|rfl|rfl
  ·exact .inl ⟨_,rfl⟩
  ·exact .inl ⟨_,rfl⟩
  ·exact .inr ⟨_,rfl⟩
 ·unfold Builtin.zeroCells at j;obtain⟨i,_,k⟩:=Array.mem_map.1 (Array.mem_toList_iff.1 j);have o:(#[Value.string ⟨#[]⟩,.string ⟨#[]⟩,.bool false]:Array M).size=3:=rfl;rw[o]at k;have n:i%3=0\/i%3=1\/i%3=2:=by omega
  rcases n with q|q|q
  ·rw[q]at k;exact .inl ⟨_,k.symm⟩
  ·rw[q]at k;exact .inl ⟨_,k.symm⟩
  ·rw[q]at k;exact .inr ⟨_,k.symm⟩
theorem vE(j:List nk)(q k:Nat)(u:M)(n:(cZ j)[k]?=some u):(zH j q)[k]?=some u:=by
 have o:k<(cZ j).length:=by
  rcases cJ k (cZ j).length with m|m
  ·exact m
  ·rw[ci m]at n;cases n
 unfold zH;rw[kj (by simpa using o)];simpa using n
section
variable{c W:J}{d f sb e:Nat}{h:Option Nat}{mem dw:Int}{b a:M}{g:List KV}{O:List (Nat×Obj)}{C N:Nat}{l:List KV}{closed:Bool}
theorem yw(dc:ja c W d f sb e h mem dw b a g O C N l closed l closed)(eo eq:Int)(es et:aa)(X k o H:Nat)(j:List nk)(hn:o=j.length)(cp:0<o)(fd:o<=H)(ef:o<=1000000000)(ch:X<c.heap.size)(cd:∀E bg,(cZ j)[E]?=some bg->c.cell? ⟨X,k+E,none⟩=some bg)(hz:∀fn∈j,fn.key.size<=140737488351232/\fn.val.size<=140737488351232)(hC:C+iW j<=1000000)(hN:N+1<=100000000):Calls prog 7 #[.pointer (some ⟨d,0,none⟩),vM 1 eo eq es et (.slice (some ⟨X,k,none⟩) o H)] W λG w'=>G=.returned (.bool true)/\wD c w' d O (C+iW j) (N+1):=by
 obtain⟨i0,ee,ek,el,em⟩:=bK qj;obtain⟨t,T⟩:∃t,W.heap.size=t:=⟨_,rfl⟩;obtain⟨A,ao⟩:∃A,W.alloc (eV 1 eo eq es et (.slice (some ⟨X,k,none⟩) o H))=A:=⟨_,rfl⟩;have h1:ja c A d f sb e h mem dw b a g ((t,eV 1 eo eq es et (.slice (some ⟨X,k,none⟩) o H))::O) C N l closed l closed:=by
  rw[<-ao];exact dc.add ((I.refl _ W).alloc _) (by omega) (az _ T.symm)
 have al:=dc.CN;have bo:=Z (show∀p∈O,p.1<t fromλp hp=>by have:=ak (dc.obj hp);omega);have ex:=dc.lens;have U:A.heap.size=t+1:=by rw[<-ao,<-T];simp
 have fk:=dc.ay.size;have y:∀bi,I (λ_=>False) c bi->∀E bg,(cZ j)[E]?=some bg->bi.cell? ⟨X,k+E,none⟩=some bg:=λbi hX E bg hj=>hX.cell (cd E bg hj) id ch;have hL:∀bi,I (λ_=>False) c bi->tD bi (.slice (some ⟨X,k,none⟩) o H) j:=λbi hX=>⟨zI j,.inr ⟨X,k,H,by rw[hn],by omega,y bi hX⟩⟩;have fl:=ak dc.box;have dn:=Z h1;have bp:=Z ao;have HL:=Z hL;have an:=Z y;have u:=Z al;have q:=Z T;have ad:(cZ j).length=o*3:=by rw[zI,hn]
 have z:=Z hn;have HZ:=Z hz;unfold vM;have c5:A.cell? ⟨t,5,none⟩=some (.slice (some ⟨X,k,none⟩) o H):=h1.dO.2.2.2.2.2;have cm:∀E bg,(cZ j)[E]?=some bg->A.cell? ((⟨X,k,none⟩:Addr).add E)=some bg:=λE bg hj=>by rw[ct];exact y A h1.ay E bg hj
 have dT:=Z cm;have r:=Z U;have dk:=Z ad;clear dc h1 al y hL cd hz hn cm ad T U;go_enter func7,ntmps7
 unfold eV at bp;go_wp2_with(first
  |(at_builtin;rw[Y bp];go_loud(refine uG _ rfl (.tmp 40) (.tmp 42) 29 rfl 42 i0 (.agg #[.string ⟨#[]⟩,.string ⟨#[]⟩,.bool false]) underlying29 ee ek rfl ⟨X,k,none⟩ o H (cZ j) rfl (by rw[el];exact Y dk) (Y dT) cp (by unfold maxLen;omega) (by omega) (by rw[em];omega) ?_;intro x ed eu)))
 obtain⟨m,R⟩:∃m,A.heap.size=m:=⟨_,rfl⟩;have U:=Y r;obtain⟨F,P⟩:∃F,(A.alloc (.cells (zH j (x-o)) 42)).drew=F:=⟨_,rfl⟩;have D:I (λ_=>False) A F:=by rw[<-P];exact((I.refl (λ_=>False) A).alloc _).of_heap rfl
 have Q:F.heap[m]?=some (.cells (zH j (x-o)) 42 (0,0)):=by rw[<-P];exact az (w:=A) _ R.symm
 have h2:ja c F d f sb e h mem dw b a g ((m,.cells (zH j (x-o)) 42 (0,0))::(t,eV 1 eo eq es et (.slice (some ⟨X,k,none⟩) o H))::O) C N l closed l closed:=(Y dn).add D (by omega) Q;have br:ja c F d f sb e h mem dw b a g ((t,eV 1 eo eq es et (.slice (some ⟨X,k,none⟩) o H))::(m,.cells (zH j (x-o)) 42 (0,0))::O) C N l closed l closed:=h2.drop (λp hp=>by
  simp only[aD]at hp|-;rcases hp with bh|bh|bh
  ·exact .inr (.inl bh)
  ·exact .inl bh
  ·exact .inr (.inr bh))
 have L:=br.still (bS (λ_=>False) F);have fe:=D.size;have cj:m<F.heap.size:=ak Q;have cc:tD F.drew (.slice (some ⟨m,0,none⟩) o x) j:=⟨zI j,.inr ⟨m,0,x,by rw[Y z],by rw[<-Y z];exact ed,λE bg hj=>by
  rw[aQ,cw,aj Q];exact vE j _ E bg hj⟩⟩
 have bf:=λk=>zg L (.slice (some ⟨m,0,none⟩) o x) j k cc (λcT hk=>by
  have n:m=cT:=dm hk;have B:=(Y u).2.2.2.2.1;have V:=Y q;exact⟨by rw[<-n];exact cj,by omega⟩) (Y HZ) (by rw[<-Y z];exact ef) hC hN
 obtain⟨wn,bd⟩:∃wn:Int,(if closed then 6 else eB j)=wn:=⟨_,rfl⟩;obtain⟨la,ba⟩:∃la,(if closed then l else nj l j)=la:=⟨_,rfl⟩;simp only[bd,ba]at bf;have bT:=bj L.gG.2.1 L.dO.2.1;have eb:=Z bd;have dx:=Z ba;have s:=Z R;have en:=Y q;clear U;have ac:(A.alloc (.cells ((cZ j).toArray++Builtin.zeroCells #[.string ⟨#[]⟩,.string ⟨#[]⟩,.bool false] (x-o)) 42)).drew=F:=P;rw[R,ac];clear D h2 br L cc bd ba c5 P ac R Q;try rw[en]
 rename_i QQ KK bt;refine bM (λbi=>bi.cell? ⟨d,1,none⟩=some (.pointer (some ⟨sb,0,none⟩))/\bi.cell? ⟨t,1,none⟩=some (.int .i64 eo)) 10 (by kernel_rfl) ?_;refine cz 0 ?_;iterate 9 (refine cy (v:=?_) bT rfl (by kernel_rfl) (λ_ _ _ dc=>dc) (Or.inl ⟨by rfl,?_⟩) ?_;rotate_left;(focus(rintro bi⟨z0,z1⟩;go_simp;try with_reducible rfl));simp only[Act.put,Nat.reduceAdd,ab,ae,af,av,am,ap])
 refine dG ?_;refine aI (i:=9) rfl rfl (by kernel_rfl) ?_;intro KC bs;go_simp;refine(bf _).mono ?_;rintro G W3⟨rfl,h3⟩;have ca:=bj h3.gG.2.1 h3.dO.2.1;have bl:=Z h3;refine bs _ _ (λ_=>ca) ?_;try simp only[Act.put,ab,ae,af,av,am,ap]
 refine aI (i:=10) rfl rfl (by kernel_rfl) ?_;intro KL bv;go_simp;refine bv _ _ (λH=>(H rfl).elim) ?_;refine cr (by kernel_rfl) ?_ _;show KK _ _;refine bt _ _ ?_;have y5:W3.cell? ⟨t,5,none⟩=some (.slice (some ⟨X,k,none⟩) o H):=h3.dO.2.2.2.2.2;have cv:=ug j (.slice (some ⟨X,k,none⟩) o H) W3 (by rw[<-Y z];omega) ((Y HL) W3 h3.ay) (λcT hk=>by cases hk;exact ah ch h3.ay.size);clear bT ca bf bs bv bt h3;go_wp2_with fail
 refine cv.mono ?_;rintro G W4⟨v4,rfl,S,ax⟩;have h4:=(Y bl).still (I.aR ax);have ey:=ax.size;have ev:m<W3.heap.size:=ak ((Y bl).obj (aJ _ (cK ..)));have bc:=oe e h l closed v4 j W4 h4.ref (cW S) (λcT hk=>(aK S cT hk).2) (by rw[<-Y z];omega);rw[Y eb,rD,Y dx]at bc;obtain⟨fs,fr,ej⟩:=aC S;subst ej;have y2:W4.cell? ⟨d,2,none⟩=some (.pointer (some ⟨e,0,none⟩)):=h4.gG.2.2.1;have ds:=Z h4;clear S ax h4 cv y5;go_wp2_with fail
 refine bc.mono ?_;rintro G W5⟨rfl,⟨cM,cs,bb⟩,ce⟩;have h5:=(Y ds).Do ce cs bb;have ei:cM≠some m:=λG=>by
  rcases bb with bh|bh
  ·have:=(Y u).1 m (bh▸G);have:=Y q;have:=Y s;have:=Y r;omega
  ·have:=bh m G;omega
 have cx:=kF wn W5 h5.xN;have dv:=Z h5;clear bc cs bb ce h5 y2;go_wp2_with fail
 refine cx.mono ?_;rintro G W6⟨rfl,cb⟩;have h6:=(Y dv).still (I.aR cb);have cB:W6.heap[m]?=some (.cells (zH j (x-o)) 42 (0,0)):=h6.obj (p:=(m,.cells (zH j (x-o)) 42 (0,0))) (aJ _ (cK ..));have cE:W6.cell? ⟨t,5,none⟩=some (.slice (some ⟨X,k,none⟩) o H):=h6.dO.2.2.2.2.2;have ck:t≠m:=by have:=Y s;have:=Y r;omega
 have cn:t<W6.heap.size:=ak (h6.obj (cK ..));have bn:=Z h6;have bq:=Z cB;have ec:=Z cE;clear cb cx h6 cB cE;go_wp2_with fail
 go_loopw [10] (λk wr=>∃(i:Nat)(K:Array M),i<=o/\k=.int .i64 i/\wr.heap[m]?=some (.cells K 42 (0,0))/\(∀E,i*3<=E->K[E]?=(zH j (x-o))[E]?)/\I (λcT=>cT=m) W6 wr) (λk _=>o-(intOf k).toNat)
 case atStart=>exact⟨0,_,aU _,rfl,Y bq,λ_ _=>rfl,I.refl _ _⟩
 case round=>
  obtain⟨i,K,hi,rfl,hx,n,B⟩:=hrel;by_cases cl:i<o
  ·have bx:i<j.length:=by rw[<-Y z];exact cl
   obtain⟨q0,q1,q2⟩:=iO j i bx;have V:I (λ_=>False) c wr:=(Y bn).ay.trans B (λcT G=>.inr (by have:cT=m:=G;have:=Y s;have:=Y r;omega));have a0:=(Y an) wr V _ _ q0;have a1:=(Y an) wr V _ _ q1;have a2:=(Y an) wr V _ _ q2;have b0:wr.cell? ⟨m,i*3,none⟩=_:=(aj hx).trans ((n _ (by omega)).trans (vE j (x-o) _ _ q0));have b1:wr.cell? ⟨m,i*3+1,none⟩=_:=(aj hx).trans ((n _ (by omega)).trans (vE j (x-o) _ _ q1));have b2:wr.cell? ⟨m,i*3+2,none⟩=_:=(aj hx).trans ((n _ (by omega)).trans (vE j (x-o) _ _ q2));have y5:wr.cell? ⟨t,5,none⟩=some (.slice (some ⟨X,k,none⟩) o H):=B.cell (Y ec) ck cn;have yf:∀E,wr.frozen? ⟨m,E,none⟩=false:=λE=>by simp[World.frozen?,hx]
   rw[<-aP]at a1 a2;have eg:=OY j[i].key j[i].val j[i].del;generalize j[i]=fb at*;obtain⟨xk,xv,xd⟩:=fb;simp only at a0 a1 a2 b0 b1 b2 eg;have e1:(i:Int)<(o:Int):=by omega
   have e0:(0:Int)<=(i:Int):=by omega
   have HX:=Z hx;have bk:=Z n;have ea:=Z B;clear hx n B V q0 q1 q2;go_wp2_with fail
   go_quiet(fail)
   go_wp2;go_roundw;case rel=>
    have hd:(wr.drewN nq).heap[m]?=some (.cells K 42 (0,0)):=Y HX;refine⟨i+1,_,cl,by go_num,aL (aL (aL hd)),λE hj=>?_,?_⟩
    ·rw[gS (by omega),gS (by omega),gS (by omega)];exact(Y bk) E (by omega)
    ·exact((((Y ea).trans (ft (λcT=>cT=m) wr nq) (λ_ bh=>.inl bh)).setCell _ _ _ (.inl rfl)).setCell _ _ _ (.inl rfl)).setCell _ _ _ (.inl rfl)
   case measure=>simp[intOf];omega
  ·have ea:i=o:=by omega
   subst ea;have e1:¬((i:Int)<(i:Int)):=by omega
   have bx:∀p∈O,p.1<t:=(Y bo);have V:=(Y bn).MY (O':=O) (by have:=Y s;have:=Y r;omega) ⟨_,aJ _ (cK ..)⟩ (Y bq) (λbh o H=>by rcases Bb _ _ _ H with⟨_,G⟩|⟨_,G⟩<;>cases G) (λbh H=>by rcases Bb _ _ _ H with⟨_,G⟩|⟨_,G⟩<;>cases G) ei (λG=>by have:=(Y u).2.1 m G;have:=Y q;have:=Y s;have:=Y r;omega) (λG=>by have:=(Y u).2.2.1 m G;have:=Y q;have:=Y s;have:=Y r;omega) B (λp hp=>⟨aJ _ (aJ _ hp),by have:=bx p hp;have:=Y s;have:=Y r;omega⟩);have bk:=Z V;clear V hx n B bx;go_wp2_with fail
   refine(nr wn _).mono ?_;rintro G W9⟨rfl,eg⟩;subst W9;go_wp2;go_ret;exact⟨rfl,f,sb,e,cM,mem,dw,b,a,g,la,closed,Y bk⟩
end
theorem CT(m:Addr)(n:Nat)(w:J):Calls prog 13 #[.slice (some m) 0 n] w λo k=>∃j,o=.returned j/\ES k w.heap.size j []/\Below w.heap.size w k:=by
 go_enter func13,ntmps13
 go_wp2;go_loopw [3,4] (λp i wr=>i=.int .i64 0/\p=.slice none 0 0/\wr=w) (λ_ _ _=>0)
 case atStart=>exact⟨rfl,rfl,rfl⟩
 case round=>
  obtain⟨rfl,rfl,rfl⟩:=hrel;go_wp2;go_ret;exact⟨_,rfl,bC _ _ _ _,Below.refl _ _⟩
section
variable{h W:J}{c e sb d:Nat}{g:Option Nat}{mem dw:Int}{b a:M}{f:List KV}{O:List (Nat×Obj)}{C N:Nat}{l:List KV}{closed:Bool}
theorem rX(bn:ja h W c e sb d g mem dw b a f O C N l closed l closed)(cc cd:Int)(ce ch:aa)(t:Addr)(an:Nat)(hC:C+iW []<=1000000)(hN:N+1<=100000000):Calls prog 7 #[.pointer (some ⟨c,0,none⟩),vM 1 cc cd ce ch (.slice (some t) 0 an)] W λbT w'=>bT=.returned (.bool true)/\wD h w' c O (C+iW []) (N+1):=by
 obtain⟨i0,bo,bq,br,bs⟩:=bK qj;obtain⟨A,o⟩:∃A,W.heap.size=A:=⟨_,rfl⟩;obtain⟨q,u⟩:∃q,W.alloc (eV 1 cc cd ce ch (.slice (some t) 0 an))=q:=⟨_,rfl⟩;have h1:ja h q c e sb d g mem dw b a f ((A,eV 1 cc cd ce ch (.slice (some t) 0 an))::O) C N l closed l closed:=by
  rw[<-u];exact bn.add ((I.refl _ W).alloc _) (by omega) (az _ o.symm)
 have ca:=bn.lens;have s:=bn.CN;have X:q.heap.size=A+1:=by rw[<-u,<-o];simp
 have cm:=ak bn.box;have ao:=Z h1;have D:=Z u;have p:=Z o;have bg:=Z X;have B:=Z s;unfold vM;have c5:q.cell? ⟨A,5,none⟩=some (.slice (some t) 0 an):=h1.dO.2.2.2.2.2;clear bn h1 o X s;go_enter func7,ntmps7
 unfold eV at D;go_wp2_with(first
  |(at_builtin;rw[Y D];go_loud(refine aX _ rfl (.tmp 40) (.tmp 42) 29 rfl q.heap.size 42 i0 (.agg #[.string ⟨#[]⟩,.string ⟨#[]⟩,.bool false]) 3 40 underlying29 bo bq br bs rfl (by decide) (.slice none 0 0) 0 [] rfl (bC _ _ _ _) t 0 an [] rfl rfl (by simp) (by simp) (by omega) (by omega) (ai _) ?_;intro v2 E j al;obtain⟨bl,bk,rfl⟩:=aC j;have bf:=Z j;have bh:=Z al;clear j al)))
 have k:I (λ_=>False) q E:=I.bz (Y bh).grown (λbt r=>by cases r);have j:E.ownsRow q.heap.size 42 3 (.slice bl 0 bk) 0 []:=Y bf;have m:=((Y ao).still k).still (bS (λ_=>False) E);have ck:=k.size;have S:tD E.drew (.slice bl 0 bk) []:=(bS (λ_=>False) E).row (cW j) (λbt r=>⟨id,(aK j bt r).2⟩);have z:=λk=>zg m (.slice bl 0 bk) [] k S (λbt r=>⟨(aK j bt r).2,by have:=(aK j bt r).1;have:=(Y B).2.2.2.2.1;have:=Y p;have:=Y bg;omega⟩) (by simp) (by simp) hC hN;obtain⟨wn,y⟩:∃wn:Int,(if closed then 6 else eB [])=wn:=⟨_,rfl⟩;obtain⟨la,w⟩:∃la,(if closed then l else nj l [])=la:=⟨_,rfl⟩;simp only[y,w]at z;have L:=bj m.gG.2.1 m.dO.2.1;have bi:=Z y;have bd:=Z w;have bv:=Y p;clear k j m S y w c5;try rw[bv]
 rename_i QQ KK H;refine bM (λcj=>cj.cell? ⟨c,1,none⟩=some (.pointer (some ⟨sb,0,none⟩))/\cj.cell? ⟨A,1,none⟩=some (.int .i64 cc)) 10 (by kernel_rfl) ?_;refine cz 0 ?_;iterate 9 (refine cy (v:=?_) L rfl (by kernel_rfl) (λ_ _ _ bn=>bn) (Or.inl ⟨by rfl,?_⟩) ?_;rotate_left;(focus(rintro cj⟨z0,z1⟩;go_simp;try with_reducible rfl));simp only[Act.put,Nat.reduceAdd,ab,ae,af,av,am,ap])
 refine dG ?_;refine aI (i:=9) rfl rfl (by kernel_rfl) ?_;intro KC G;go_simp;refine(z _).mono ?_;rintro bT W3⟨rfl,F⟩;have P:=bj F.gG.2.1 F.dO.2.1;have ax:=Z F;refine G _ _ (λ_=>P) ?_;try simp only[Act.put,ab,ae,af,av,am,ap]
 refine aI (i:=10) rfl rfl (by kernel_rfl) ?_;intro KL K;go_simp;refine K _ _ (λan=>(an rfl).elim) ?_;refine cr (by kernel_rfl) ?_ _;show KK _ _;refine H _ _ ?_;have y5:W3.cell? ⟨A,5,none⟩=some (.slice (some t) 0 an):=F.dO.2.2.2.2.2;have ac:=CT t an W3;clear L P z G K H F;go_wp2_with fail
 refine ac.mono ?_;rintro bT W4⟨v4,rfl,n,Q⟩;have h4:=(Y ax).still (I.aR Q);have x:=oe d g l closed v4 [] W4 h4.ref (cW n) (λbt r=>(aK n bt r).2) (by simp;omega);rw[Y bi,rD,Y bd]at x;obtain⟨dx,dc,bp⟩:=aC n;subst bp;have y2:W4.cell? ⟨c,2,none⟩=some (.pointer (some ⟨d,0,none⟩)):=h4.gG.2.2.1;have ba:=Z h4;clear n Q h4 ac y5;go_wp2_with fail
 refine x.mono ?_;rintro bT W5⟨rfl,⟨bx,V,U⟩,T⟩;have h5:=(Y ba).Do T V U;have ad:=kF wn W5 h5.xN;have bb:=Z h5;clear x V U T h5 y2;go_wp2_with fail
 refine ad.mono ?_;rintro bT W6⟨rfl,R⟩;have bc:=Z ((Y bb).still (I.aR R));clear R ad;go_wp2_with fail
 go_loopw [10] (λj wr=>j=.int .i64 0/\wr=W6) (λ_ _=>0)
 case atStart=>exact⟨rfl,rfl⟩
 case round=>
  obtain⟨rfl,cb⟩:=hrel;subst wr;go_wp2_with fail
  refine(nr wn _).mono ?_;rintro bT W9⟨rfl,cl⟩;subst W9;go_wp2;go_ret;exact⟨rfl,e,sb,d,bx,mem,dw,b,a,f,la,closed,(Y bc).drop (λp j=>aJ _ j)⟩
theorem yx(bf:ja h W c e sb d g mem dw b a f O C N l closed l closed)(bp bq:Int)(br bs:aa)(hC:C+iW []<=1000000)(hN:N+1<=100000000):Calls prog 7 #[.pointer (some ⟨c,0,none⟩),vM 1 bp bq br bs (.slice none 0 0)] W λbl w'=>bl=.returned (.bool true)/\wD h w' c O (C+iW []) (N+1):=by
 obtain⟨i0,bv,cb,cc,cd⟩:=bK qj;obtain⟨B,o⟩:∃B,W.heap.size=B:=⟨_,rfl⟩;obtain⟨q,u⟩:∃q,W.alloc (eV 1 bp bq br bs (.slice none 0 0))=q:=⟨_,rfl⟩;have h1:ja h q c e sb d g mem dw b a f ((B,eV 1 bp bq br bs (.slice none 0 0))::O) C N l closed l closed:=by
  rw[<-u];exact bf.add ((I.refl _ W).alloc _) (by omega) (az _ o.symm)
 have bn:=bf.lens;have s:=bf.CN;have X:q.heap.size=B+1:=by rw[<-u,<-o];simp
 have ca:=ak bf.box;have al:=Z h1;have E:=Z u;have p:=Z o;have bc:=Z X;have D:=Z s;unfold vM;have c5:q.cell? ⟨B,5,none⟩=some (.slice none 0 0):=h1.dO.2.2.2.2.2;clear bf h1 o X s;go_enter func7,ntmps7
 unfold eV at E;go_wp2_with fail
 rw[Y E];obtain⟨t,w⟩:∃t,q=t:=⟨_,rfl⟩;have k:I (λ_=>False) q t:=by rw[<-w];exact I.refl _ _
 have j:t.ownsRow q.heap.size 42 3 (.slice none 0 0) 0 []:=bC _ _ _ _;rw[w];clear w;have m:=((Y al).still k).still (bS (λ_=>False) t);have bx:=k.size;have S:tD t.drew (.slice none 0 0) []:=(bS (λ_=>False) t).row (cW j) (λbh r=>⟨id,(aK j bh r).2⟩);have A:=λk=>zg m (.slice none 0 0) [] k S (λbh r=>⟨(aK j bh r).2,by have:=(aK j bh r).1;have:=(Y D).2.2.2.2.1;have:=Y p;have:=Y bc;omega⟩) (by simp) (by simp) hC hN;obtain⟨wn,z⟩:∃wn:Int,(if closed then 6 else eB [])=wn:=⟨_,rfl⟩;obtain⟨la,x⟩:∃la,(if closed then l else nj l [])=la:=⟨_,rfl⟩;simp only[z,x]at A;have L:=bj m.gG.2.1 m.dO.2.1;have bd:=Z z;have bb:=Z x;have bi:=Y p;clear k j m S z x c5;try rw[bi]
 rename_i QQ KK H;refine bM (λbt=>bt.cell? ⟨c,1,none⟩=some (.pointer (some ⟨sb,0,none⟩))/\bt.cell? ⟨B,1,none⟩=some (.int .i64 bp)) 10 (by kernel_rfl) ?_;refine cz 0 ?_;iterate 9 (refine cy (v:=?_) L rfl (by kernel_rfl) (λ_ _ _ bf=>bf) (Or.inl ⟨by rfl,?_⟩) ?_;rotate_left;(focus(rintro bt⟨z0,z1⟩;go_simp;try with_reducible rfl));simp only[Act.put,Nat.reduceAdd,ab,ae,af,av,am,ap])
 refine dG ?_;refine aI (i:=9) rfl rfl (by kernel_rfl) ?_;intro KC G;go_simp;refine(A _).mono ?_;rintro bl W3⟨rfl,F⟩;have P:=bj F.gG.2.1 F.dO.2.1;have an:=Z F;refine G _ _ (λ_=>P) ?_;try simp only[Act.put,ab,ae,af,av,am,ap]
 refine aI (i:=10) rfl rfl (by kernel_rfl) ?_;intro KL K;go_simp;refine K _ _ (λce=>(ce rfl).elim) ?_;refine cr (by kernel_rfl) ?_ _;show KK _ _;refine H _ _ ?_;have y5:W3.cell? ⟨B,5,none⟩=some (.slice none 0 0):=F.dO.2.2.2.2.2;have ac:=ug [] (.slice none 0 0) W3 (by simp) ⟨rfl,.inl ⟨rfl,rfl⟩⟩ (λbh r=>by cases r);clear L P A G K H F;go_wp2_with fail
 refine ac.mono ?_;rintro bl W4⟨v4,rfl,n,Q⟩;have h4:=(Y an).still (I.aR Q);have y:=oe d g l closed v4 [] W4 h4.ref (cW n) (λbh r=>(aK n bh r).2) (by simp;omega);rw[Y bd,rD,Y bb]at y;obtain⟨dx,dc,bg⟩:=aC n;subst bg;have y2:W4.cell? ⟨c,2,none⟩=some (.pointer (some ⟨d,0,none⟩)):=h4.gG.2.2.1;have ao:=Z h4;clear n Q h4 ac y5;go_wp2_with fail
 refine y.mono ?_;rintro bl W5⟨rfl,⟨bk,V,U⟩,T⟩;have h5:=(Y ao).Do T V U;have ad:=kF wn W5 h5.xN;have ax:=Z h5;clear y V U T h5 y2;go_wp2_with fail
 refine ad.mono ?_;rintro bl W6⟨rfl,R⟩;have ba:=Z ((Y ax).still (I.aR R));clear R ad;go_wp2_with fail
 go_loopw [10] (λj wr=>j=.int .i64 0/\wr=W6) (λ_ _=>0)
 case atStart=>exact⟨rfl,rfl⟩
 case round=>
  obtain⟨rfl,bo⟩:=hrel;subst wr;go_wp2_with fail
  refine(nr wn _).mono ?_;rintro bl W9⟨rfl,bT⟩;subst W9;go_wp2;go_ret;exact⟨rfl,e,sb,d,bk,mem,dw,b,a,f,la,closed,(Y ba).drop (λp j=>aJ _ j)⟩
end
section
variable{b W W':J}{d e sb g:Nat}{h:Option Nat}{mem dw:Int}{c a:M}{f:List KV}{O:List (Nat×Obj)}{C N:Nat}{l:List KV}{closed:Bool}
theorem FI(Q:ja b W d e sb g h mem dw c a f O C N l closed l closed)(A B:Int)(S T:aa)(o i s z:Nat)(j k:aa)(m:Bool)(V:A<0)(G:0<s)(r:s<=z)(p:s<=1000000000000)(q:o<b.heap.size)(w:b.cell? ⟨o,i,none⟩=some (.string j))(x:b.cell? ⟨o,i+1,none⟩=some (.string k))(y:b.cell? ⟨o,i+2,none⟩=some (.bool m))(H:j.size<=140737488351232/\k.size<=140737488351232)(E:C+iW [⟨j,k,m⟩]<=1000000)(F:N+1<=100000000):Calls prog 11 #[.pointer (some ⟨d,0,none⟩),vM 4 A B S T (.slice (some ⟨o,i,none⟩) s z)] W λP L=>P=.returned (.bool true)/\wD b L d O (C+iW [⟨j,k,m⟩]) (N+1):=by
 have u:=Q.still ((I.refl (λ_=>False) W).alloc (eV 4 A B S T (.slice (some ⟨o,i,none⟩) s z)));have n:=Jg u A B S T o i s z j k m G r p q w x y H E F;have U:(0:Int)<(s:Int):=by omega
 unfold vM at n|-;unfold eV at n;clear Q u w x y;go_enter func11,ntmps11
 go_wp2_with fail
 refine n.mono ?_;rintro P R⟨rfl,t,K,v⟩;have D:=Z v;clear v n;go_wp2;go_ret;exact⟨rfl,e,sb,g,t,mem,dw,c,a,f,K,closed,Y D⟩
theorem qG(i A B:Int)(S T:aa)(x:Option Addr)(r p:Nat)(P:J->Prop)(q:i=2\/i=3\/i=4)(j:Calls prog 11 #[.pointer (some ⟨d,0,none⟩),vM i A B S T (.slice x r p)] (W.alloc (eV i A B S T (.slice x r p))) λn k=>n=.returned (.bool true)/\P k):Calls prog 7 #[.pointer (some ⟨d,0,none⟩),vM i A B S T (.slice x r p)] W λn k=>n=.returned (.bool true)/\P k:=by
 unfold vM at j|-;unfold eV at j;rcases q with rfl|rfl|rfl;all_goals
  go_enter func7,ntmps7
  go_wp2_with fail
  refine j.mono ?_;rintro n s⟨rfl,m⟩;have o:=Z m;clear m j;go_wp2;go_ret;exact⟨rfl,Y o⟩
end
def wD.mono{y W:J}{z:Nat}{O:List (Nat×Obj)}{C C' N g:Nat}(B:wD y W z O C N)(D:C<=C')(h:C'<=1000000)(E:N<=g)(o:g<=100000000):wD y W z O C' g:=by
 obtain⟨A,sb,L,H,q,dw,r,e,G,l,d,B⟩:=B;exact⟨A,sb,L,H,q,dw,r,e,G,l,d,B.mono D h E o⟩
def wD.still{e W W':J}{f:Nat}{O:List (Nat×Obj)}{C N:Nat}(h:wD e W f O C N)(l:I (λ_=>False) W W'):wD e W' f O C N:=by
 obtain⟨g,sb,q,o,c,dw,d,b,n,r,a,h⟩:=h;exact⟨g,sb,q,o,c,dw,d,b,n,r,a,h.still l⟩
def Mu(o:Ao):Nat:=if o.kd=1 then iW o.cs else if o.kd=4 then iW (o.cs.take 1)else 0
def Ct{a:List nk}(q:jo a=0):∀x∈a,1<=x.key.size:=by
 induction a with
 |nil=>simp
 |cons e a c=>
  unfold jo at q;split at q
  ·cases q
  ·rename_i d;split at q
   ·cases q
   ·intro x b;rcases aD.1 b with rfl|b
    ·omega
    ·exact c q x b
def Hs(a:List nk):2*iW a<=Ap a:=by
 unfold iW;by_cases q:eB a=0
 ·rw[dr q];have b:∀x∈a,1<=x.key.size:=by
   unfold eB at q;split at q
   ·cases q
   ·exact Ct q
  clear q;induction a with
  |nil=>simp
  |cons d a c=>
   have e:=b d (by simp);have f:=c (λx a=>b x (aJ _ a));unfold Ap at*;simp only[aE,aY,fA];omega
 ·rw[dd q];omega
def OX(o:Ao):2*Mu o<=Pf o:=by
 unfold Mu Pf;split
 ·have:=Hs o.cs;omega
 ·split
  ·have:=Hs (o.cs.take 1);have:=Ko o.cs 1;omega
  ·omega
def KA(E W:J)(F P Q:Nat)(o:Ao)(y:wD E W F [] P Q)(hk:1<=o.kd/\o.kd<=6)(h:MT E o.L o.cs)(C:o.S.size<=140737488351232)(t:∀d∈o.cs,d.key.size<=140737488351232/\d.val.size<=140737488351232)(l:o.cs.length<=1000000000)(k:P+Mu o<=1000000)(p:Q+1<=100000000):Calls prog 7 #[.pointer (some ⟨F,0,none⟩),vM o.kd o.A o.B o.S o.T o.L] W λK u=>K=.returned (.bool true)/\wD E u F [] (P+Mu o) (Q+1):=by
 obtain⟨db,sb,rb,pb,ac,dw,ad,V,lo,an,G,y⟩:=y;obtain⟨m,A,B,S,T,al,a⟩:=o;simp only at hk h C t l|-;obtain⟨x,d,hL⟩:=we h;subst hL;have O:m=1\/m=2\/m=3\/m=4\/m=5\/m=6:=by omega
 have b:∀{f:J}{c e:Nat},wD E f F [] c e->c<=P+Mu ⟨m,A,B,S,T,.slice x a.length d,a⟩->e<=Q+1->wD E f F [] (P+Mu ⟨m,A,B,S,T,.slice x a.length d,a⟩) (Q+1):=λq g h=>q.mono g k h p;have e:∀k,I (λ_=>False) W (W.alloc (eV k A B S T (.slice x a.length d))):=λk=>(I.refl _ W).alloc _;rcases O with rfl|rfl|rfl|rfl|rfl|rfl
 ·have L:Mu ⟨1,A,B,S,T,.slice x a.length d,a⟩=iW a:=rfl;rw[L]at k|-;rcases h with⟨⟨D,⟨n,U⟩|⟨N,f,H,n,s,z⟩⟩,q⟩|⟨D,R,X,n⟩
  ·have g:a=[]:=lA.1 U;subst g;cases n;exact yx y A B S T k p
  ·cases n;have r:=q N rfl;by_cases j:a.length=0
   ·have g:a=[]:=lA.1 j;subst g;exact rX y A B S T ⟨N,f,none⟩ d k p
   ·exact yw y A B S T N f a.length d a rfl (by omega) s l r z t k p
  ·subst D;cases n;exact rX y A B S T R d k p
 ·refine qG 2 A B S T x a.length d _ (.inl rfl) ((KY (y.still (e 2)) A B S T x a.length d C).mono ?_);rintro K u⟨rfl,c⟩;exact⟨rfl,b ⟨_,_,_,_,_,_,_,_,_,_,_,c⟩ (by omega) (by omega)⟩
 ·refine qG 3 A B S T x a.length d _ (.inr (.inl rfl)) ((IF (y.still (e 3)) A B S T x a.length d).mono ?_);rintro K u⟨rfl,R,g,X,c⟩;exact⟨rfl,b ⟨_,_,_,_,_,_,_,_,_,_,_,c⟩ (by omega) (by omega)⟩
 ·by_cases R:0<A
  ·refine qG 4 A B S T x a.length d _ (.inr (.inr rfl)) ((vV (y.still (e 4)) A B S T x a.length d R).mono ?_);rintro K u⟨rfl,c⟩;exact⟨rfl,b ⟨_,_,_,_,_,_,_,_,_,_,_,c⟩ (by omega) (by omega)⟩
  ·by_cases j:A<0->a.length=0
   ·refine qG 4 A B S T x a.length d _ (.inr (.inr rfl)) ((xL (y.still (e 4)) A B S T x a.length d (by omega) j).mono ?_);rintro K u⟨rfl,c⟩;exact⟨rfl,b ⟨_,_,_,_,_,_,_,_,_,_,_,c⟩ (by omega) (by omega)⟩
   ·obtain⟨X,j⟩:=Classical.not_imp.1 j
    ·rcases h with⟨⟨D,⟨n,U⟩|⟨N,f,H,n,s,z⟩⟩,q⟩|⟨D,_⟩
     ·omega
     ·cases n;have r:=q N rfl;rcases a with _|⟨g,a⟩
      ·simp at j
      ·have L:Mu ⟨4,A,B,S,T,.slice (some ⟨N,f,none⟩) (g::a).length d,g::a⟩=iW [⟨g.key,g.val,g.del⟩]:=rfl;rw[L]at k|-;refine qG 4 A B S T _ (g::a).length d _ (.inr (.inr rfl)) ?_;exact FI (y.still (e 4)) A B S T N f _ d g.key g.val g.del (by omega) (by simp) s (by omega) r (z 0 _ rfl) (z 1 _ rfl) (z 2 _ rfl) (t g (by simp)) k p
     ·rw[D]at j;simp at j
 ·refine(Fk y A B S T x a.length d).mono ?_;rintro K u⟨rfl,c⟩;exact⟨rfl,b c (by omega) (by omega)⟩
 ·refine(Ic y A B S T x a.length d p).mono ?_;rintro K u⟨rfl,c|c⟩
  ·exact⟨rfl,b c (by omega) (by omega)⟩
  ·exact⟨rfl,b c (by omega) (by omega)⟩
def wD.ay{d W:J}{r:Nat}{O:List (Nat×Obj)}{C N:Nat}(h:wD d W r O C N):I (λ_=>False) d W:=by
 obtain⟨y,sb,B,A,g,dw,o,e,z,l,a,h⟩:=h;exact h.ay
def Pk{a:List Ao}{i:Nat}(h:a.length+xW a<=1048576):xW (a.take i)<=1048576:=by
 have:=Fa a i;omega
def MU(a:List nk):a.length<=Ap a:=by
 induction a with
 |nil=>simp
 |cons c a b=>
  unfold Ap at*;simp only[aE,aY,fA];omega
def wD.outs{C W:J}{k:Nat}{O:List (Nat×Obj)}{E N:Nat}(n:wD C W k O E N):∃f p e g t wc,W.cell? ⟨k,5,none⟩=some (.slice f p e)/\W.cell? ⟨k,6,none⟩=some (.slice g t wc)/\∀a,I (λ_=>False) W a->Calls prog 8 #[.slice f p e,.slice g t wc] a λD s=>D=.returned (.bool true)/\∃B,s=a.drewN B:=by
 obtain⟨F,sb,K,H,y,dw,j,b,d,L,c,n⟩:=n;obtain⟨_,z,A,_,_,q,r,G⟩:=n.CN;obtain⟨f,e,l⟩:=lE q;obtain⟨g,wc,m⟩:=lE r;refine⟨f,d.length,e,g,d.length,wc,by rw[n.gG.2.2.2.1,l],by rw[n.gG.2.2.2.2,m],λa o=>?_⟩;rw[<-l,<-m];refine(kV j b d d a (o.row q (λx h=>⟨id,z x h⟩)) (o.row r (λx h=>⟨id,A x h⟩)) (by omega) (by omega)).mono ?_;rintro D s⟨rfl,B,u⟩;exact⟨by simp,B,u⟩
def FN(bb r ba:Nat)(a:List Ao)(bk bl:Int)(w:J)(ax:zR w (.slice (some ⟨bb,r,none⟩) a.length ba) a)(hS:Steps w)(hP:Pow w)(hE:kK w):Calls prog 4 #[.slice (some ⟨bb,r,none⟩) a.length ba,.int .i64 bk,.int .i64 bl,.int .i64 6,.int .i64 0] w λT w'=>T=.returned (.bool true)/\I (λ_=>False) w w':=by
 have f:=Fp bb r ba a w ax;have bc:∀(x:Bool)(w:J),(Op.unary .not (.bool x)).run prog w=.ok (.bool (!x)) w:=λ_ _=>rfl;by_cases s:a.length+xW a<=1048576
 ·rw[oF s]at f;have j:=Z ax;have p:=Z hS;have ad:=Z hP;have V:=Z hE;clear ax hS hP hE;go_enter func4,ntmps4
  go_wp2_with fail
  refine f.mono ?_;rintro T o⟨rfl,bd,m⟩;have n:I (λ_=>False) w o:=by rw[m];exact ft _ _ _
  have P:=Bk o bk bl (Steps.ay (Y p) n id) ((Y ad).ay n id) ((Y V).ay n id);have k:=Z n;clear f m n;go_wp2_with fail
  refine P.mono ?_;rintro T w2⟨h,rfl,h2⟩;have X:=Z h2;clear P h2;go_wp2_with fail
  go_loopw [14] (λb wr=>∃(i C:Nat),i<=a.length/\b=.int .i64 i/\wD o wr h [] C (i+1)/\2*C<=xW (a.take i)) (λb _=>a.length-(intOf b).toNat)
  case atStart=>exact⟨0,0,aU _,rfl,Y X,by simp⟩
  case round=>
   obtain⟨i,C,hi,rfl,K,hC⟩:=hrel;by_cases e:i<a.length
   ·have d:=au e;have O:I (λ_=>False) w wr:=(Y k).trans K.ay (λ_ bd=>bd.elim);have b:∀F c,a[i].cells[F]?=some c->wr.cell? ⟨bb,r+i*6+F,none⟩=some c:=λF c u=>by
     have y:F<6:=by
      rcases cJ F 6 with q|q
      ·exact q
      ·rw[ci (by exact q)]at u;cases u
     obtain⟨q1,⟨z,q0⟩|⟨g',H,G,z,Q,N⟩⟩:=(Y j).row
     ·cases z
     ·have q:=(Y j).lt bb rfl;cases z;rw[aP];exact O.cell (N _ _ ((mq a i e F y).trans u)) id q
    have c0:=b 0 _ rfl;have c1:=b 1 _ rfl;have c2:=b 2 _ rfl;have c3:=b 3 _ rfl;have c4:=b 4 _ rfl;have c5:=b 5 _ rfl;rw[kD]at c0;have x:=(Y j).MS _ d;have g:=(Y j).str _ d;have R:=(Y j).Qu _ d;have ao:=CO a i e;have an:=Fa a (i+1);have al:=OX a[i];have t:MT o a[i].L a[i].cs:=x.ay (Y k);have bi:a[i].cs.length<=1048576:=by
     have q:a[i].cs.length<=Ap a[i].cs:=by
      exact MU _
     have h2:Pf a[i]=a[i].S.size+a[i].T.size+Ap a[i].cs:=rfl;omega
    obtain⟨lx,lc,L⟩:=we x;have c:(1<=a[i].kd/\a[i].kd<=6)->∀f,wD o f h [] C (i+1)->Calls prog 7 #[.pointer (some ⟨h,0,none⟩),vM a[i].kd a[i].A a[i].B a[i].S a[i].T a[i].L] f λT w'=>T=.returned (.bool true)/\wD o w' h [] (C+Mu a[i]) (i+1+1):=λb f m=>KA o f h C (i+1) a[i] m b t g.1 R (by omega) (by omega) (by omega);have E:2*(C+Mu a[i])<=xW (a.take (i+1)):=by omega
    have D:2*C<=xW (a.take (i+1)):=by omega
    have l:∀f,wD o f h [] C (i+1)->wD o f h [] C (i+1+1):=λf m=>m.mono (ai _) (by omega) (by omega) (by omega);have B:=Z l;unfold vM at c;rw[L]at c5 c;generalize Mu a[i]=cc at*;generalize a[i].kd=S at*;generalize a[i].A=oA at*;generalize a[i].B=oB at*;generalize a[i].S=oS at*;generalize a[i].T=oT at*;generalize a[i].cs.length=ol at*;have e1:(i:Int)<(a.length:Int):=by omega
    have e0:(0:Int)<=(i:Int):=by omega
    have W:=Z K;have p:=Z c;have U:=Z E;have A:=Z D;clear K hC O b x g R ao an al t L c E D l d;by_cases bg:S<1
    ·go_wp2;go_roundw;case rel=>exact⟨i+1,C,e,by go_num,(Y B) _ ((Y W).still ((I.refl _ wr).alloc _)),Y A⟩
     case measure=>simp[intOf];omega
    ·by_cases bh:6<S
     ·have q:¬S=0:=by omega
      go_wp2;go_roundw;case rel=>exact⟨i+1,C,e,by go_num,(Y B) _ ((Y W).still ((I.refl _ wr).alloc _)),Y A⟩
      case measure=>simp[intOf];omega
     ·have g:=(Y p) ⟨by omega,by omega⟩ _ ((Y W).still ((I.refl (λ_=>False) wr).alloc (eV S oA oB oS oT (.slice lx ol lc))));unfold eV at g;clear p;go_wp2_with fail
      refine g.mono ?_;rintro T z⟨rfl,h4⟩;obtain⟨ox,on,oc,wx,wn,wc,y5,y6,Q⟩:=h4.outs;have u:=Q z.drew (bS _ _);have q:z.drew.cell? ⟨h,5,none⟩=some (.slice ox on oc)/\z.drew.cell? ⟨h,6,none⟩=some (.slice wx wn wc):=by
       rw[aQ,aQ];exact⟨y5,y6⟩
      have ac:=Z h4;clear g h4 Q y5 y6;go_wp2_with fail
      rename_i QQ KK G;refine bM (λbf=>bf.cell? ⟨h,5,none⟩=some (.slice ox on oc)/\bf.cell? ⟨h,6,none⟩=some (.slice wx wn wc)) 9 (by kernel_rfl) ?_;refine cz 0 ?_;iterate 8 (refine cy (v:=?_) q rfl (by kernel_rfl) (λ_ _ _ ax=>ax) (Or.inl ⟨by rfl,?_⟩) ?_;rotate_left;(focus(rintro bf⟨z0,z1⟩;go_simp;try with_reducible rfl));simp only[Act.put,Nat.reduceAdd,ab,ae,af,av,am,ap])
      refine dG ?_;refine aI (i:=8) rfl rfl (by kernel_rfl) ?_;intro KC F;go_simp;refine u.mono ?_;rintro T w5⟨rfl,q5,y⟩;have t5:I (λ_=>False) z.drew w5:=by rw[y];exact ft _ _ _
      have N:w5.cell? ⟨h,5,none⟩=some (.slice ox on oc)/\w5.cell? ⟨h,6,none⟩=some (.slice wx wn wc):=by
       rw[y];exact⟨(bI (w:=z.drew) rfl).trans q.1,(bI (w:=z.drew) rfl).trans q.2⟩
      refine F _ _ (λ_=>N) ?_;try simp only[Act.put,ab,ae,af,av,am,ap]
      refine aI (i:=9) rfl rfl (by kernel_rfl) ?_;intro KL H;go_simp;refine H _ _ (λba=>(ba rfl).elim) ?_;refine cr (by kernel_rfl) ?_ _;show KK _ _;refine G _ _ ?_;clear q N u y t5 F H G;go_wp2;go_roundw;case rel=>exact⟨i+1,C+cc,e,by go_num,(Y ac).still (ft _ _ _),Y U⟩
      case measure=>simp[intOf];omega
   ·have e1:¬((i:Int)<(a.length:Int)):=by omega
    have HT:=Z ((Y k).trans K.ay (λ_ bd=>bd.elim));clear K;go_wp2;go_ret;exact⟨rfl,Y HT⟩
 ·rw[nL s]at f;clear ax hS hP hE;go_enter func4,ntmps4
  go_wp2_with fail
  refine f.mono ?_;rintro T o⟨rfl,bd,m⟩;have HT:=Z (show I (λ_=>False) w o by rw[m];exact ft _ _ _);clear f m;go_wp2;go_ret;exact⟨rfl,Y HT⟩
def yR(x:Option Addr)(q:Nat)(p T:Int)(w:J)(e:Steps w)(d:Pow w)(c:kK w):Calls prog 4 #[.slice x 0 q,.int .i64 p,.int .i64 T,.int .i64 6,.int .i64 0] w λh g=>h=.returned (.bool true)/\I (λ_=>False) w g:=by
 have b:Calls prog 5 #[.slice x 0 q] w λh g=>h=.returned (.bool true)/\g=w:=by
  clear e d c;go_enter func5,ntmps5
  go_wp2_with fail
  go_loopw [4] (λf wr=>f=.int .i64 0/\wr=w) (λ_ _=>0)
  case atStart=>exact⟨rfl,rfl⟩
  case round=>
   obtain⟨rfl,l⟩:=hrel;subst wr;go_wp2;go_ret;exact⟨rfl,rfl⟩
 have a:=Bk w p T e d c;have j:∀(x:Bool)(w:J),(Op.unary .not (.bool x)).run prog w=.ok (.bool (!x)) w:=λ_ _=>rfl;clear e d c;go_enter func4,ntmps4
 go_wp2_with fail
 refine b.mono ?_;rintro h n⟨rfl,m⟩;subst n;go_wp2_with fail
 refine a.mono ?_;rintro h o⟨r,rfl,i⟩;have k:=Z i.ay;clear a i b;go_wp2_with fail
 go_loopw [14] (λf wr=>f=.int .i64 0/\wr=o) (λ_ _=>0)
 case atStart=>exact⟨rfl,rfl⟩
 case round=>
  obtain⟨rfl,l⟩:=hrel;subst wr;go_wp2;go_ret;exact⟨rfl,Y k⟩
def IN(v:M)(g:List Ao)(h T:Int)(w:J)(l:zR w v g)(f:Steps w)(e:Pow w)(d:kK w):Calls prog 4 #[v,.int .i64 h,.int .i64 T,.int .i64 6,.int .i64 0] w λm k=>m=.returned (.bool true)/\I (λ_=>False) w k:=by
 have j:=l.row;obtain⟨q,⟨c,p⟩|⟨n,b,a,c,i,o⟩⟩:=j
 ·rw[c];exact yR none 0 h T w f e d
 ·subst c;exact FN n b a g h T w l f e d
def Cp(v:M)(a:List Ao)(k T:Int)(w:J)(h:zR w v a)(d:Steps w)(c:Pow w)(b:kK w):Calls prog 3 #[v,.int .i64 k,.int .i64 T] w λm j=>m=.returned (.bool true)/\I (λ_=>False) w j:=by
 have e:=IN v a k T w h d c b;have i:∃x l,v=.slice x a.length l:=lE h.row;obtain⟨x,l,rfl⟩:=i;clear h d c b;go_enter func3,ntmps3
 go_wp2_with fail
 refine e.mono ?_;rintro m n⟨rfl,f⟩;have g:=Z f;clear e f;go_wp2;go_ret;exact⟨rfl,Y g⟩
def Am(x:Option Addr)(i:Nat)(h T:Int)(w:J)(c:Steps w)(b:Pow w)(a:kK w):Calls prog 3 #[.slice x 0 i,.int .i64 h,.int .i64 T] w λj g=>j=.returned (.bool true)/\I (λ_=>False) w g:=by
 have d:=yR x i h T w c b a;clear c b a;go_enter func3,ntmps3
 go_wp2_with fail
 refine d.mono ?_;rintro j k⟨rfl,e⟩;have f:=Z e;clear d e;go_wp2;go_ret;exact⟨rfl,Y f⟩
theorem LV:prog.globalNamed "levels/code.steps" =some 1:=by kernel_rfl
theorem Qm:prog.globalNamed "internal/strconv.uint64pow10" =some 3:=by kernel_rfl
theorem Pz:prog.globalNamed "errors.errorType" =some 0:=by kernel_rfl
theorem Ov:(prog.globals[1]?).map (·.type)=some 330:=by kernel_rfl
theorem PZ:(prog.globals[3]?).map (·.type)=some 356:=by kernel_rfl
theorem Ot:prog.underlying 330=some (.array 16 96):=by kernel_rfl
theorem PX:prog.underlying 356=some (.array 20 103):=by kernel_rfl
theorem Po:prog.underlying 96=some (.int .u32):=by kernel_rfl
theorem Pn:prog.underlying 103=some (.int .u64):=by kernel_rfl
theorem Qd:(prog.cutTypes.find? (·.1== "internal/reflectlite.rtype")).map (·.2)=some 210:=by kernel_rfl
theorem OJ:((List.range 413).filter λt=>prog.rowNamed t [101,114,114,111,114])=[50]:=by kernel_rfl
theorem Kt:prog.types.size=413:=by kernel_rfl
def vp:List (String×DataW Unit):=[("levels/code.steps",Rows.laid_levels_code_steps),("math/bits.deBruijn32tab",Rows.laid_math_bits_deBruijn32tab),("math/bits.deBruijn64tab",Rows.laid_math_bits_deBruijn64tab),("internal/strconv.uint64pow10",Rows.laid_internal_strconv_uint64pow10),("errors.errorType",Rows.laid_errors_errorType),("strconv.ErrRange",Rows.laid_strconv_ErrRange),("strconv.ErrSyntax",Rows.laid_strconv_ErrSyntax)]
theorem Nq{W:J}(m:laidMetH prog vp W):Steps W/\Pow W/\kK W:=by
 obtain⟨c,d⟩:=laidMetH_iff.1 m;have f:=c.filter (λx=>x.1== "levels/code.steps");rw[show((vp.filter λx=>x.2.handleName?.isNone).filter λx=>x.1== "levels/code.steps")=[("levels/code.steps",Rows.laid_levels_code_steps)]by kernel_rfl]at f;have g:=c.filter (λx=>x.1== "internal/strconv.uint64pow10");rw[show((vp.filter λx=>x.2.handleName?.isNone).filter λx=>x.1== "internal/strconv.uint64pow10")=[("internal/strconv.uint64pow10",Rows.laid_internal_strconv_uint64pow10)]by kernel_rfl]at g;rw[show(vp.filter λx=>x.2.handleName?.isSome)=[("errors.errorType",Rows.laid_errors_errorType)]by kernel_rfl]at d;refine⟨?_,?_,?_⟩
 ·have b:Lib.TabIs prog W "levels/code.steps" .u32 [0,498536548,997073096,651767980,1994146192,1802195444,1303535960,1342533948,3988292384,4027552580,3604390888,3412177804,2607071920,2262029012,2685067896,3183342108]:=Lib.tabIs_of_head LV Ov Ot Po (by kernel_rfl) (by kernel_rfl) f;intro k a;rw[World.var?_cell LV b k];have:∀k,k<16->(([0,498536548,997073096,651767980,1994146192,1802195444,1303535960,1342533948,3988292384,4027552580,3604390888,3412177804,2607071920,2262029012,2685067896,3183342108]:List Int).map λz=>Value.int .u32 z).toArray[k]?=some (.int .u32 (NJ k)):=by
   intro k a;match k,a with
   |0,_|1,_|2,_|3,_|4,_|5,_|6,_|7,_|8,_|9,_|10,_|11,_|12,_|13,_|14,_|15,_=>rfl
   |n+16,m=>exact absurd m (by omega)
  exact this k a
 ·exact Lib.tabIs_of_head Qm PZ PX Pn (by kernel_rfl) (by kernel_rfl) g
 ·obtain⟨a,u,p,h,i,j,k,b⟩:=d _ (bE.2 rfl);have l:a=[101,114,114,111,114]:=(dm h).symm;subst l;obtain rfl:=dm (Qd.symm.trans i);have e:p∈(List.range 413).filter λt=>prog.rowNamed t [101,114,114,111,114]:=eH.2 ⟨jz.2 (by rw[<-Kt];exact j),k⟩;rw[OJ]at e;obtain rfl:=bE.1 e;have o:typeHandle prog 50=.pointer (some ⟨8,50,none⟩):=by kernel_rfl
  rw[o]at b;unfold kK;simpa using World.var?_cell Pz b 0
theorem ED{W:J}{base n:Nat}{f:Addr}{a:List M}(h:W.cells? base f n=some a):a.length=n/\∀j,j<n->W.cell? (f.add j)=a[j]?:=by
 unfold World.cells? at h;split at h
 ·have e:=Lib.mapM_length h;refine⟨by simpa using e,λj d=>?_⟩;obtain⟨g,b,c⟩:=Lib.mapM_at h j j (by simp[d]);rw[c,b]
 ·cases h
theorem Db{W:J}{q:Addr}{e a:Nat}(g:0<e)(o:0<a){Q:Nat->List M->Prop}(y:∀i,i<e->∃d,W.cells? 0 (q.add (i*a)) a=some d/\Q i d):∃h b,q=⟨h,b,none⟩/\h<W.heap.size/\∀i,i<e->∃d,d.length=a/\(∀p,p<a->W.cell? ⟨h,b+i*a+p,none⟩=d[p]?)/\Q i d:=by
 obtain⟨d,m,_⟩:=y 0 g;obtain⟨s,k⟩:=ED m;have j:=k 0 o;rw[Nat.zero_mul]at j;have t:(q.add 0).add 0=q:=rfl;rw[t]at j;obtain⟨h,b,c⟩:=q;have x:∃A,W.cell? ⟨h,b,c⟩=some A:=⟨d[0]'(by omega),by rw[j];exact aA (by omega)⟩;obtain⟨A,f⟩:=x;have l:h<W.heap.size/\c=none:=by
  unfold World.cell? at f;simp only at f;split at f
  ·rename_i B E C r;refine⟨?_,?_⟩
   ·rcases cJ h W.heap.size with z|z
    ·exact z
    ·rw[dy z]at r;cases r
   ·split at f
    ·cases f
    ·rename_i n;cases c with
     |none=>rfl
     |some D=>simp at n
  ·cases f
 obtain⟨l,rfl⟩:=l;refine⟨h,b,rfl,l,λi u=>?_⟩;obtain⟨d,m,w⟩:=y i u;obtain⟨s,k⟩:=ED m;refine⟨d,s,λp v=>?_,w⟩;rw[<-k p v,Go.Deep.add_add];unfold Addr.add;by_cases z:i*a+p=0
 ·rw[dr z,aP,z];rfl
 ·rw[dd z,aP]
def tF(P:Program)(t:TypeId):Option (List (TypeId×Nat)):=match P.underlying t with
 |some (.struct a)=>some (a.toList.map λf=>(f.type,f.offset))
 |_=>none
theorem uN{P:Program}{t:TypeId}{l:List (TypeId×Nat)}(h:tF P t=some l):∃a,P.underlying t=some (.struct a)/\a.toList.map (λf=>(f.type,f.offset))=l:=by
 unfold tF at h;split at h
 ·rename_i a b;exact⟨a,b,dm h⟩
 ·cases h
theorem xe{H:Type}{d:TypeId×M->H}{P:Program}{w:J}{base e:Nat}{n:Nat->Bool}{a:Bool}{t:TypeId}{l:List M}{x:DataW H×List MemPlace}{r:List (TypeId×Nat)}(p:tF P t=some r)(A:DataW.trod d P w base n a e t l=some x):∃(c:List (DataW H×List MemPlace))(s:Nat),x.1=.agg (c.map (·.1))/\c.length=r.length/\∀(k h b:Nat),r[k]?=some (h,b)->∃y,c[k]?=some y/\DataW.trod d P w base n a s h ((l.drop b).take (P.cellsOf h))=some y:=by
 obtain⟨z,q,rfl⟩:=uN p;obtain⟨c,s,_,rfl,_,j,o⟩:=DataW.trod_struct q A;refine⟨c,s,rfl,by simpa using j,λk h b m=>?_⟩;rw[cP,lU]at m;obtain⟨v,f,u⟩:=m;cases u;have i:=o k v (by simpa using f);have g:k<c.length:=by
  have:=(gV.1 f).1;simp at this;omega
 exact⟨c[k],aA g,by rw[i,aA g]⟩
theorem sJ{H:Type}{P:Program}{e:TypeId}:∀{l:List (DataW H)}{d:DataW H},d∈l->∀n∈d.weights P e,n∈DataW.weightsAll P e l
 |[],_,h,_,_=>by cases h
 |x::r,d,h,n,a=>by
  rw[DataW.weightsAll];rcases aD.1 h with rfl|h
  ·exact cX _ a
  ·exact dV _ (sJ h n a)
theorem tY{H:Type}{P:Program}{t e:TypeId}(c:P.underlying t=some (.slice e))(a b:List (DataW H)):(DataW.slice a b).weights P t=(a.length+b.length)*P.bytesOf e::(DataW.weightsAll P e a++DataW.weightsAll P e b):=by
 rw[DataW.weights,c]
theorem wL{H:Type}{P:Program}{t:TypeId}{l:List (TypeId×Nat)}(b:tF P t=some l)(a:List (DataW H)):(DataW.agg a).weights P t=DataW.weightsEach P (l.map (·.1)) a:=by
 obtain⟨d,c,rfl⟩:=uN b;rw[DataW.weights,c];simp only[fY];rfl
theorem Od:tF prog 42=some [(9,0),(9,1),(4,2)]:=by kernel_rfl
theorem Pp:tF prog 31=some [(3,0),(3,1),(3,2),(9,3),(9,4),(29,5)]:=by kernel_rfl
theorem Ks:prog.underlying 29=some (.slice 42):=by kernel_rfl
theorem Ou:prog.underlying 22=some (.slice 31):=by kernel_rfl
theorem MX:prog.underlying 9=some .string:=by kernel_rfl
theorem Ob:prog.underlying 4=some .bool:=by kernel_rfl
theorem Fe:prog.underlying 3=some (.int .i64):=by kernel_rfl
theorem PI:prog.cellsOf 9=1:=by kernel_rfl
theorem PK:prog.cellsOf 4=1:=by kernel_rfl
theorem Qp:prog.cellsOf 3=1:=by kernel_rfl
theorem PJ:prog.cellsOf 29=1:=by kernel_rfl
theorem Qq:prog.cellsOf 42=3:=by kernel_rfl
theorem Qz:prog.cellsOf 31=6:=by kernel_rfl
theorem Qs:prog.bytesOf 42=40:=by kernel_rfl
theorem QA:prog.bytesOf 31=80:=by kernel_rfl
theorem ud(l:List nk):(cZ l).length=l.length*3:=by
 induction l with
 |nil=>rfl
 |cons c l a=>
  have e:cZ (c::l)=ky c++cZ l:=rfl;rw[e,ag,a,aE];have:(ky c).length=3:=rfl;omega
theorem uW(l:List Ao):(nz l).length=l.length*6:=by
 induction l with
 |nil=>rfl
 |cons c l a=>
  have e:nz (c::l)=c.cells++nz l:=rfl;rw[e,ag,a,aE];have:c.cells.length=6:=rfl;omega
theorem mf{a:List M}{k:Nat}{u:M}(h:(a.drop k).take 1=[u]):a[k]?=some u:=by
 have b:=bB (λl=>l[0]?) h;simpa[jF,jG]using b
section
variable{H:Type}{enc:TypeId×M->H}
theorem Lh{W:J}{C:Nat->Bool}{b:Bool}{a:Nat}{c:List M}{K:DataW H×List MemPlace}(L:DataW.trod enc prog W 0 C b a 42 c=some K):∃l:nk,c[0]?=some (.string l.key)/\c[1]?=some (.string l.val)/\c[2]?=some (.bool l.del)/\(∀B,(∀G∈K.1.weights prog 42,G<=B)->l.key.size<=B/\l.val.size<=B):=by
 obtain⟨r,G,z,y,h⟩:=xe Od L;obtain⟨D,e,o⟩:=h 0 _ _ rfl;obtain⟨E,f,p⟩:=h 1 _ _ rfl;obtain⟨F,g,q⟩:=h 2 _ _ rfl;rw[PI]at o p;rw[PK]at q;obtain⟨m,s,v,_⟩:=ma MX o;obtain⟨n,t,w,_⟩:=ma MX p;obtain⟨A,u,x⟩:=DataW.trod_bool Ob q;refine⟨⟨m,n,A⟩,mf s,mf t,mf u,λB d=>?_⟩;have i:r=[D,E,F]:=by
  match r,y,e,f,g with
  |[j,k,N],_,e,f,g=>
   simp at e f g;rw[e,f,g]
 rw[z,i,wL Od,v,w,x]at d;simp only[aY,df,DataW.weightsEach,DataW.weights,aw,aD,cS,gX]at d;have j:=d m.data.toList.length (by simp);have k:=d n.data.toList.length (by simp);rw[gM]at j k;exact⟨j,k⟩
theorem IU{W:J}{l:Nat}{V:M}{ac:DataW H×List MemPlace}(al:DataW.trod enc prog W 0 (λ_=>true) true l 29 [V]=some ac)(s:∀p∈ac.1.weights prog 29,p<=140737488351232):∃g:List nk,MT W V g/\(∀k∈g,k.key.size<=140737488351232/\k.val.size<=140737488351232)/\g.length<=10000000000000:=by
 rcases Go.Deep.open_slice Ks al with⟨h,_⟩|⟨ad,a,G,X,p,E,F,h,_,U,_,B,K,m⟩
 ·simp only[jh,oG]at h;exact⟨[],.inl ⟨⟨rfl,.inl ⟨h,rfl⟩⟩,λan q=>by rw[h]at q;cases q⟩,by simp,by simp⟩
 ·simp only[jh,oG]at h;simp only[iY]at B;subst h B;by_cases P:a=0
  ·subst P;exact⟨[],.inr ⟨rfl,ad,X,rfl⟩,by simp,by simp⟩
  ·rw[Qq]at m;obtain⟨D,e,rfl,R,t⟩:=Db (Q:=λi g=>DataW.trod enc prog W 0 (λ_=>true) true p 42 g=some (E i,F i)) (by omega:0<a) (by omega:0<3) (λi c=>m i (by omega));have o:∀i,i<a->∃k:nk,W.cell? ⟨D,e+i*3,none⟩=some (.string k.key)/\W.cell? ⟨D,e+i*3+1,none⟩=some (.string k.val)/\W.cell? ⟨D,e+i*3+2,none⟩=some (.bool k.del)/\(∀B,(∀p∈(E i).weights prog 42,p<=B)->k.key.size<=B/\k.val.size<=B):=by
    intro i c;obtain⟨g,r,f,u⟩:=t i c;obtain⟨k,x,y,z,L⟩:=Lh u;exact⟨k,(f 0 (by omega)).trans x,(f 1 (by omega)).trans y,(f 2 (by omega)).trans z,L⟩
   have C:Inhabited nk:=⟨⟨⟨#[]⟩,⟨#[]⟩,false⟩⟩;obtain⟨w,A⟩:=Go.Deep.choose_lt o;rw[K,tY Ks,Qs]at s;have n:a<=10000000000000:=by
    have:=s _ (cK);simp only[bW,List.length_range]at this;omega
   have v:∀i,i<a->∀p∈(E i).weights prog 42,p<=140737488351232:=λi c p b=>s p (aJ _ (cX _ (sJ (aZ.2 ⟨i,jz.2 c,rfl⟩) p b)));have b:((List.range a).map w).length=a:=by simp
   refine⟨(List.range a).map w,.inl ⟨⟨by rw[ud],.inr ⟨D,e,X,by rw[b],by rw[b];exact U,λj ao d=>?_⟩⟩,λan q=>by cases q;exact R⟩,λk S=>?_,by rw[b];exact n⟩
   ·have T:j<a*3:=by
     have:=(gV.1 d).1;rw[ud,b]at this;exact this
    have c:j/3<a:=by omega
    obtain⟨x,y,z⟩:=iO ((List.range a).map w) (j/3) (by rw[b];exact c);obtain⟨L,N,O,_⟩:=A (j/3) c;have r:j%3=0\/j%3=1\/j%3=2:=by omega
    have u:((List.range a).map w)[j/3]'(by rw[b];exact c)=w (j/3):=by simp
    rw[u]at x y z;rcases r with r|r|r
    ·have f:j=j/3*3:=by omega
     rw[f]at d|-;rw[x]at d;rw[L,d]
    ·have f:j=j/3*3+1:=by omega
     rw[f]at d|-;rw[y]at d;rw[<-aP,N,d]
    ·have f:j=j/3*3+2:=by omega
     rw[f]at d|-;rw[z]at d;rw[<-aP,O,d]
   ·obtain⟨i,c,rfl⟩:=aZ.1 S;have f:=jz.1 c;exact(A i f).2.2.2 _ (v i f)
end
section
variable{H:Type}{enc:TypeId×M->H}
theorem No{ad:J}{b:Nat}{m:List M}{an:DataW H×List MemPlace}(W:DataW.trod enc prog ad 0 (λ_=>true) true b 31 m=some an)(c:∀u∈an.1.weights prog 31,u<=140737488351232):∃r:Ao,(∀w,w<6->m[w]?=r.cells[w]?)/\MT ad r.L r.cs/\(r.S.size<=140737488351232/\r.T.size<=140737488351232)/\(∀al∈r.cs,al.key.size<=140737488351232/\al.val.size<=140737488351232)/\r.cs.length<=10000000000000:=by
 obtain⟨E,u,hx,hl,a⟩:=xe Pp W;obtain⟨y0,e,z⟩:=a 0 _ _ rfl;obtain⟨y1,f,A⟩:=a 1 _ _ rfl;obtain⟨y2,g,B⟩:=a 2 _ _ rfl;obtain⟨y3,h,C⟩:=a 3 _ _ rfl;obtain⟨y4,i,D⟩:=a 4 _ _ rfl;obtain⟨y5,j,k⟩:=a 5 _ _ rfl;rw[Qp]at z A B;rw[PI]at C D;rw[PJ]at k;obtain⟨s0,F,P,_⟩:=sH Fe z;obtain⟨s1,G,R,_⟩:=sH Fe A;obtain⟨s2,K,S,_⟩:=sH Fe B;obtain⟨x,N,T,_⟩:=ma MX C;obtain⟨y,O,U,_⟩:=ma MX D;have X:∃L,(m.drop 5).take 1=[L]:=by
  rcases Go.Deep.open_slice Ks k with⟨n,_⟩|⟨ax,ac,V,ba,u,ao,Pl,n,_⟩
  ·exact⟨_,n⟩
  ·exact⟨_,n⟩
 obtain⟨L,v⟩:=X;rw[v]at k;have q:E=[y0,y1,y2,y3,y4,y5]:=by
  match E,hl,e,f,g,h,i,j with
  |[n,V,z2,s,t,z5],_,e,f,g,h,i,j=>
   simp at e f g h i j;rw[e,f,g,h,i,j]
 rw[hx,q,wL Pp,P,R,S,T,U]at c;simp only[aY,df,DataW.weightsEach]at c;have s:=c x.data.toList.length (by simp[DataW.weights]);have t:=c y.data.toList.length (by simp[DataW.weights]);rw[gM]at s t;obtain⟨l,d,p,o⟩:=IU k (λu a=>c u (by simp[a]));refine⟨⟨s0,s1,s2,x,y,L,l⟩,λw hj=>?_,d,⟨s,t⟩,p,o⟩;match w,hj with
 |0,_=>exact mf F
 |1,_=>exact mf G
 |2,_=>exact mf K
 |3,_=>exact mf N
 |4,_=>exact mf O
 |5,_=>exact mf v
 |u+6,W=>exact absurd W (by omega)
theorem DC{W:J}{g:Nat}{v:M}{G:DataW H×List MemPlace}(ad:DataW.trod enc prog W 0 (λ_=>true) true g 22 [v]=some G)(t:∀q∈G.1.weights prog 22,q<=140737488351232):(∃G F,v=.slice G 0 F)\/∃U,zR W v U:=by
 rcases Go.Deep.open_slice Ou ad with⟨f,_⟩|⟨an,a,L,al,q,V,K,f,_,T,_,B,N,h⟩
 ·simp only[jh,oG]at f;exact .inl ⟨_,_,f⟩
 ·simp only[jh,oG]at f;simp only[iY]at B;subst f B;by_cases O:a=0
  ·subst O;exact .inl ⟨_,_,rfl⟩
  ·right;rw[Qz]at h;obtain⟨ac,p,rfl,P,u⟩:=Db (Q:=λi y=>DataW.trod enc prog W 0 (λ_=>true) true q 31 y=some (V i,K i)) (by omega:0<a) (by omega:0<6) (λi b=>h i (by omega));rw[N,tY Ou,QA]at t;have m:a<=10000000000000:=by
    have:=t _ (cK);simp only[bW,List.length_range]at this;omega
   have x:∀i,i<a->∀q∈(V i).weights prog 31,q<=140737488351232:=λi b q c=>t q (aJ _ (cX _ (sJ (aZ.2 ⟨i,jz.2 b,rfl⟩) q c)));have n:∀i,i<a->∃o:Ao,(∀j,j<6->W.cell? ⟨ac,p+i*6+j,none⟩=o.cells[j]?)/\MT W o.L o.cs/\(o.S.size<=140737488351232/\o.T.size<=140737488351232)/\(∀F∈o.cs,F.key.size<=140737488351232/\F.val.size<=140737488351232)/\o.cs.length<=10000000000000:=by
    intro i b;obtain⟨y,w,s,z⟩:=u i b;obtain⟨o,A,D⟩:=No z (x i b);exact⟨o,λj l=>(s j l).trans (A j l),D⟩
   have E:Inhabited Ao:=⟨⟨0,0,0,⟨#[]⟩,⟨#[]⟩,.slice none 0 0,[]⟩⟩;obtain⟨r,k⟩:=Go.Deep.choose_lt n;have d:((List.range a).map r).length=a:=by simp
   have c:∀o∈(List.range a).map r,∃i,i<a/\r i=o:=λo e=>by
    obtain⟨i,b,rfl⟩:=aZ.1 e;exact⟨i,jz.1 b,rfl⟩
   refine⟨(List.range a).map r,⟨⟨by rw[uW],.inr ⟨ac,p,al,by rw[d],by rw[d];exact T,λj ax l=>?_⟩⟩,λo e=>?_,λao S=>by cases S;exact P,λo e=>?_,λo e=>?_,by rw[d];exact m,λo e=>?_⟩⟩
   ·have R:j<a*6:=by
     have:=(gV.1 l).1;rw[uW,d]at this;exact this
    have b:j/6<a:=by omega
    have D:j%6<6:=by omega
    have s:=mq ((List.range a).map r) (j/6) (by rw[d];exact b) (j%6) D;have A:=(k (j/6) b).1 (j%6) D;have w:((List.range a).map r)[j/6]'(by rw[d];exact b)=r (j/6):=by simp
    rw[w]at s;have z:j/6*6+j%6=j:=by omega
    rw[z]at s;rw[aP,z]at A;rw[A,<-s,l]
   ·obtain⟨i,b,rfl⟩:=c o e;exact(k i b).2.1
   ·obtain⟨i,b,rfl⟩:=c o e;exact(k i b).2.2.1
   ·obtain⟨i,b,rfl⟩:=c o e;exact(k i b).2.2.2.1
   ·obtain⟨i,b,rfl⟩:=c o e;exact(k i b).2.2.2.2
end
end Go.Proofs.YtophdnlmpfmeiaaGreatDoor
