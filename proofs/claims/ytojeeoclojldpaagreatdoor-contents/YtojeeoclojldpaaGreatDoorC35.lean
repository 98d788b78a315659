import Derived.Laws.StructEq
import Derived.Test.YtojeeoclojldpaaGreatDoorC34
open _root_ renaming List.length→y,Option.some→H,Array.size→z,Go.World.heap→G,Go.World.cell?→aT,Go.World.alloc→ct,Bool.false→bF,Bool.true→bW,Nat→M,Int→Z,List→cr,Go.Calls→cy,Go.Proofs.Tryz.prog→bG,Go.Value.slice→J,Go.Value.string→ai,Go.Value.bool→aL,Go.Value.agg→eC
namespace Go.Proofs.YtojeeoclojldpaaGreatDoor
open ChangeShapes WideShapes RowKit Proofs.Tryz
set_option maxHeartbeats 16000000
set_option linter.all false
set_option maxRecDepth 100000
theorem ut:(prog.info? 42).map (λi=>(i.zero,i.size,i.bytes))=H (H<|eC #[ai ⟨#[]⟩,ai ⟨#[]⟩,aL bF],3,40):=by kernel_rfl
theorem Xy(m v:ab)(k:Bool)(w:I):(binOp .neq 42 (eC #[ai m,ai v,aL k])<|eC #[ai m,ai v,aL k]).run bG w=.ok (aL bF) w:=by
 have i:prog.underlying 42=H (.struct<|prog.fieldsOf 42):=by kernel_rfl
 have j:prog.stoodInHeld 42=bF:=by kernel_rfl
 rw[run_neq_struct,show(10000:M)=9999+1 from rfl,run_equalIn_agg w 9999 _ _ _ i j];simp only[Program.fieldsOf,underlying42];go_simp
theorem Fa(i:uz):y (eO i)=y i*3:=by
 induction i with
 |nil=>rfl
 |cons k i j=>
  unfold eO at*;rw[dI,af,j,ay];simp only[oD,ay,cL];omega
theorem zL{P:Program}(x:I){o:Array Oper}{k:cr Oper}{w:Oper}{A:Act}{ac:Exit->Act->I->Prop}(u:w.guard=none)(an au:Operand)(D:TypeId)(Q:w.op=.call {callee:=.builtin .append,args:=#[an,au],argTypes:=#[D,D]})(B:TypeId)(v:TypeInfo)(n:aa)(V:P.underlying D=H (.slice B))(K:P.info? B=H v)(hz:v.zero=H n)(T:A.eval an=aK)(q:Addr)(p ad:M)(i:iU)(X:A.eval au=J (H q) p ad)(L:y i=p*v.size)(m:∀al ao,i[al]?=H ao->aT x (q.add al)=H ao)(E:0<p)(s:p<=maxLen)(t:(p:Z)<=9223372036854775807)(r:p*v.bytes<=281474976710656)(av:∀j,p<=j->j<=maxLen->wpList P o ac k (A.put w.dst<|bD (z<|G x) 0 p j) (ct x.drew<|ar (i.toArray++Builtin.zeroCells n.cells (j-p)) B)):wpList P o ac (w::k) A x:=by
 refine kO u λax F=>?_;have S:=run_append_nil x D w.type B v n V K hz q p ad i L m E t r;unfold Oper.wp execOp;simp only[Q,resolve,invoke,builtin,jX,pJ,jm,List.map_toArray,aY,eW,T,X,S];exact F _ _<|av _ (grownCap_ge _ _ _ _)<|sB _ _ _ _ s
def EZ(i:uz)(m:M):Array aa:=(eO i).toArray++Builtin.zeroCells #[ai ⟨#[]⟩,ai ⟨#[]⟩,aL bF] m
theorem Hl(k:uz)(r:M):∀u∈(EZ k r).toList,(∃s,u=ai s)\/∃p,u=aL p:=by
 intro u i;unfold EZ at i;rw[nV,am]at i;rcases i with i|i;unfold eO at i;obtain⟨m,_,j⟩:=lZ.1 (by simpa using i);simp only[oD,az,eG,kK]at j;rcases j with rfl|rfl|rfl;exact .inl ⟨_,rfl⟩;exact .inl ⟨_,rfl⟩;exact .inr ⟨_,rfl⟩;unfold Builtin.zeroCells at i;obtain⟨o,_,j⟩:=Array.mem_map.1<|rj.1 i;have n:(#[ai ⟨#[]⟩,ai ⟨#[]⟩,aL bF]:Array aa).size=3:=rfl;rw[n]at j;(have m:o%3=0\/o%3=1\/o%3=2:=by omega);rcases m with q|q|q;rw[q]at j;exact .inl ⟨_,j.symm⟩;rw[q]at j;exact .inl ⟨_,j.symm⟩;rw[q]at j;exact .inr ⟨_,j.symm⟩
theorem AF(i:uz)(o j:M)(u:aa)(m:(eO i)[j]?=H u):(EZ i o)[j]?=H u:=by
 have n:j<y (eO i):=by rcases dF j (y<|eO i)with k|k;exact k;rw[dl k]at m;cases m
 unfold EZ;rw[nt<|by simpa using n];simpa using m
section
variable{e W:I}{f db sbqq g:M}{h:PB}{mem b:Z}{d c:aa}{lo:iH}{O:cr (M×Obj)}{C N:M}{l:LC}{a:Bool}
theorem Dx(dT:jR e W f db sbqq g h mem b d c lo O C N l a l a)(ek el:Z)(em en:ab)(av i o ao:M)(j:uz)(hn:o=y j)(cp:0<o)(ey:o<=ao)(ec:o<=1000000000)(ch:av<z (G e))(bg:∀L bm,(eO j)[L]?=H bm->aT e (R av<|i+L)=H bm)(hz:∀fk∈j,fk.key.size<=140737488351232/\fk.val.size<=140737488351232)(hC:C+lw j<=1000000)(hN:N+1<=100000000):cy bG 7 #[aA f,AN 1 ek el em en<|bD av i o ao] W λau w'=>au=aO (aL bW)/\BN e w' f O (C+lw j) (N+1):=by
 obtain⟨i0,eb,ef,eg,ei⟩:=cz ut;obtain⟨r,ad⟩:∃r,z (G W)=r:=⟨_,rfl⟩;obtain⟨B,bd⟩:∃B,ct W (gR 1 ek el em en<|bD av i o ao)=B:=⟨_,rfl⟩;have h1:jR e B f db sbqq g h mem b d c lo ((r,gR 1 ek el em en<|bD av i o ao)::O) C N l a l a:=by rw[<-bd];exact dT.add ((Y.refl _ W).alloc _) (by omega)<|aD _ ad.symm
 have bb:=dT.FN;have bq:=U (show∀cM∈O,cM.1<r fromλcM hp=>by have:=ak<|dT.obj hp;omega);have es:=dT.lens;have al:z (G B)=r+1:=by rw[<-bd,<-ad];simp
 have fd:=dT.aw.size;have u:∀k,Y aB e k->∀L bm,(eO j)[L]?=H bm->aT k (R av<|i+L)=H bm:=λk hX L bm hj=>hX.cell (bg L bm hj) id ch;have hL:∀k,Y aB e k->xV k (bD av i o ao) j:=λk hX=>⟨Fa j,.inr ⟨av,i,ao,by rw[hn],by omega,u k hX⟩⟩;have fe:=ak dT.box;obtain⟨dc,br,eu,HL,bc,E,s⟩:=ww h1 bd bg hL u bb ad;have ba:y (eO j)=o*3:=by rw[Fa,hn]
 have A:=U hn;have HZ:=U hz;unfold AN;have c5:aT B (R r 5)=H (bD av i o ao):=h1.fG.2.2.2.2.2;have cm:∀L bm,(eO j)[L]?=H bm->aT B (((R av i):Addr).add L)=H bm:=λL bm hj=>by rw[dt];exact u B h1.aw L bm hj
 obtain⟨dn,p,cT⟩:=dC cm al ba;clear dT h1 bb u hL bg hz hn cm ba ad al;go_in
 unfold gR at br
 go_wp2_with(first
  |(at_builtin;rw[ae br];go_loud(refine zL _ rfl (.tmp 40) (.tmp 42) 29 rfl 42 i0 (.agg #[.string ⟨#[]⟩,.string ⟨#[]⟩,.bool bF]) underlying29 eb ef rfl (R av i) o ao (eO j) rfl (by rw[eg];exact cT) dn cp (by unfold maxLen;omega) (by omega) (by rw[ei];omega) ?_;intro t ea eo)))
 obtain⟨m,X⟩:∃m,z (G B)=m:=⟨_,rfl⟩;have al:=ae p;obtain⟨Q,F⟩:∃Q,(ct B<|ar (EZ j<|t-o) 42).drew=Q:=⟨_,rfl⟩;have K:Y aB B Q:=by rw[<-F];exact((Y.refl aB B).alloc _).of_heap rfl
 have V:Q.heap[m]?=H (ar (EZ j<|t-o) 42 (0,0)):=by rw[<-F];exact aD (w:=B) _ X.symm
 have h2:jR e Q f db sbqq g h mem b d c lo ((m,ar (EZ j<|t-o) 42 (0,0))::(r,gR 1 ek el em en<|bD av i o ao)::O) C N l a l a:=dc.add K (by omega) V
 have bt:jR e Q f db sbqq g h mem b d c lo ((r,gR 1 ek el em en<|bD av i o ao)::(m,ar (EZ j<|t-o) 42 (0,0))::O) C N l a l a:=h2.drop (λcM hp=>by
  simp only[az]at hp|-;rcases hp with q|q|q
  .exact .inr<|.inl q
  .exact .inl q
  .exact .inr (.inr q))
 have T:=bt.still<|cf aB Q;have fb:=K.size;have cj:m<z (G Q):=ak V;have cd:xV Q.drew (bD m 0 o t) j:=⟨Fa j,.inr ⟨m,0,t,by rw[ae A],by rw[<-ae A];exact ea,λL bm hj=>by rw[bB,cQ,bN V];exact AF j _ L bm hj⟩⟩;have bl:=λi=>Ew T (bD m 0 o t) j i cd (λcE hk=>by have n:m=cE:=dD hk;have D:=E.2.2.2.2.1;have g2:=ae s;exact⟨by rw[<-n];exact cj,by omega⟩) HZ (by rw[<-ae A];exact ec) hC hN;obtain⟨wn,bk⟩:∃wn:Z,(if a then 6 else fY j)=wn:=⟨_,rfl⟩;obtain⟨la,bh⟩:∃la,(if a then l.1 else qP l.1 j)=la:=⟨_,rfl⟩;simp only[bk,bh]at bl;have ca:=And.intro T.jr.2.1 T.fG.2.1;obtain⟨dv,dm,x,ev⟩:=gx bk bh X F;have ej:=ae s;clear al;have ax:(ct B<|ar ((eO j).toArray++Builtin.zeroCells #[ai ⟨#[]⟩,ai ⟨#[]⟩,aL bF] (t-o)) 42).drew=Q:=F;rw[X,ax];clear K h2 bt T cd bk bh c5 F ax X V;try rw[ej]
 rename_i QQ KK bv;refine cJ (λk=>aT k (R f 1)=H (aA sbqq)/\aT k (R r 1)=H (ap ek)) 10 (by kernel_rfl) ?_;refine dA 0 ?_;iterate 9 (refine fw (v:=?_) ca rfl (by kernel_rfl) jU rfl ?_ ?_;rotate_left;(focus(rintro k⟨z0,z1⟩;go_simp;try rfl));simp only[Act.put,du,iy,Nat.reduceAdd])
 apply eX;refine aP (i:=9) rfl rfl (by kernel_rfl) ?_;intro KC bu;go_simp;apply(bl _).mono;rintro au W3⟨rfl,h3⟩;have cb:=And.intro h3.jr.2.1 h3.fG.2.1;have bo:=U h3;refine bu _ _ (λ_=>cb) ?_;try simp only[Act.put,du,iy]
 refine aP (i:=10) rfl rfl (by kernel_rfl) ?_;intro KL bx;go_simp;refine bx _ _ yR ?_;refine dp (by kernel_rfl) ?_ _;show KK _ _;apply bv;have y5:aT W3 (R r 5)=H (bD av i o ao):=h3.fG.2.2.2.2.2;have cu:=zb j (bD av i o ao) W3 (by rw[<-ae A];omega) (HL W3 h3.aw) (λcE hk=>by cases hk;exact ag ch h3.aw.size);clear ca cb bl bu bx bv h3;go_wp2_with fail
 apply cu.mono;rintro au W4⟨v4,rfl,ac,bf⟩;have h4:=bo.still<|Y.aW bf;have et:=bf.size;have eq:m<z (G W3):=ak<|bo.obj<|aJ _<|dy ..;have bi:=rY h.1 h4.ref (dH ac) (λcE hk=>(aI ac cE hk).2) (by rw[<-ae A];omega);rw[ae dv,vM,ae dm]at bi;obtain⟨fn,fl,ee⟩:=aC ac;subst ee;have y2:aT W4 (R f 2)=H (aA g):=h4.jr.2.2.1;have dd:=U h4;clear ac bf h4 cu y5;go_wp2_with fail
 apply bi.mono;rintro au W5⟨rfl,⟨ff,cs,co⟩,ce⟩;have h5:=dd.KE ce cs co;have cv:=nJ wn h5.CQ;have dk:=U h5;clear bi cs co ce h5 y2;go_wp2_with fail
 apply cv.mono;rintro au W6⟨rfl,cc⟩;have h6:=dk.still<|Y.aW cc;have cx:W6.heap[m]?=H (ar (EZ j<|t-o) 42 (0,0)):=h6.obj (p:=(m,ar (EZ j<|t-o) 42 (0,0)))<|aJ _<|dy ..;have cB:aT W6 (R r 5)=H (bD av i o ao):=h6.fG.2.2.2.2.2;have ck:r≠m:=by have:=ae x;have:=ae p;omega
 have cn:r<z (G W6):=ak<|h6.obj<|dy ..;obtain⟨bp,bs,dx⟩:=dC h6 cx cB;clear cc cv h6 cx cB;go_wp2_with fail
 go_loopw [10] (λi wr=>∃(P:M)(S:Array aa),P<=o/\i=ap P/\wr.heap[m]?=H (ar S 42 (0,0))/\(∀L,P*3<=L->S[L]?=(EZ j<|t-o)[L]?)/\Y (λcE=>cE=m) W6 wr) (λi _=>o-(intOf i).toNat)
 case atStart=>exact⟨0,_,bA _,rfl,bs,λ_ _=>rfl,Y.refl _ _⟩
 (case round=>obtain⟨P,S,hi,rfl,hx,n,D⟩:=hrel;by_cases cl:P<o;(·(have bT:P<y j:=by rw[<-ae A];exact cl);obtain⟨q0,q1,q2⟩:=kU j P bT;have an:Y aB e wr:=bp.aw.trans D<|λcE au=>.inr (by have:cE=m:=au;have:=ae x;have:=ae p;omega);have a0:=bc wr an _ _ q0;have a1:=bc wr an _ _ q1;have a2:=bc wr an _ _ q2;have b0:aT wr (R m<|P*3)=_:=(bN hx).trans<|(n _<|by omega).trans<|AF j (t-o) _ _ q0;have b1:aT wr (R m<|P*3+1)=_:=(bN hx).trans<|(n _<|by omega).trans<|AF j (t-o) _ _ q1;have b2:aT wr (R m<|P*3+2)=_:=(bN hx).trans<|(n _<|by omega).trans<|AF j (t-o) _ _ q2;have y5:aT wr (R r 5)=H (bD av i o ao):=D.cell dx ck cn;(have yf:∀L,wr.frozen? (R m L)=bF:=λL=>by simp[World.frozen?,hx]);rw[<-aV]at a1 a2;have ed:=Xy j[P].key j[P].val j[P].del;generalize j[P]=ex at*;obtain⟨xk,xv,xd⟩:=ex;simp only at a0 a1 a2 b0 b1 b2 ed;(have e1:(P:Z)<(o:Z):=by omega);(have e0:(0:Z)<=(P:Z):=by omega);obtain⟨HX,bn,ds⟩:=dC hx n D;clear hx n D an q0 q1 q2;(go_wp2_with fail);(go_quiet(fail));go_wp2;go_roundw;(case rel=>have hd:(wr.drewN nq).heap[m]?=H (ar S 42 (0,0)):=ae HX;refine⟨P+1,_,cl,by go_num,aR<|aR<|aR hd,λL hj=>?_,?_⟩;rw[jy (by omega),jy (by omega),jy<|by omega];exact bn L (by omega);exact(((ds.trans (ia (λcE=>cE=m) wr nq)<|λ_ q=>.inl q).setCell _ _ _<|.inl rfl).setCell _ _ _<|.inl rfl).setCell _ _ _<|.inl rfl);case measure=>simp[intOf];omega);(have ds:P=o:=by omega);subst ds;(have e1:¬((P:Z)<(P:Z)):=by omega);have bT:∀cM∈O,cM.1<r:=bq;have an:=bp.Vw (O':=O) (by have:=ae x;have:=ae p;omega) ⟨_,aJ _<|dy ..⟩ bs (λq o ao=>by rcases Hl _ _ _ ao with⟨_,au⟩|⟨_,au⟩<;>cases au) (λq ao=>by rcases Hl _ _ _ ao with⟨_,au⟩|⟨_,au⟩<;>cases au) (λau=>by have:=E.2.1 m au;have:=ae s;have:=ae x;have:=ae p;omega) (λau=>by have:=E.2.2.1 m au;have:=ae s;have:=ae x;have:=ae p;omega) D<|λcM hp=>⟨aJ _<|aJ _ hp,by have:=bT cM hp;have:=ae x;have:=ae p;omega⟩;have bn:=U an;clear an hx n D bT;(go_wp2_with fail);apply(qV wn _).mono;rintro au W9⟨rfl,ed⟩;subst W9;go_wp2;go_ret;exact⟨rfl,db,sbqq,g,_,mem,b,d,c,lo,_,a,bn⟩)
end
theorem JX(k:Addr)(m:M)(w:I):cy bG 13 #[J (H k) 0 m] w λn j=>∃i,n=aO i/\My j (z<|G w) i []/\Below (z<|G w) w j:=by
 go_in
 go_wp2;go_loopw [3,4] (λp o wr=>o=ap 0/\p=aK/\wr=w) (λ_ _ _=>0)
 case atStart=>exact⟨rfl,rfl,rfl⟩
 (case round=>obtain⟨rfl,rfl,rfl⟩:=hrel;go_wp2;go_ret;exact⟨_,rfl,bK _ _ _ _,Below.refl _ _⟩)
section
variable{h W:I}{e db sbqq f:M}{g:PB}{mem b:Z}{d c:aa}{lo:iH}{O:cr (M×Obj)}{C N:M}{l:LC}{a:Bool}
theorem wo(cb:jR h W e db sbqq f g mem b d c lo O C N l a l a)(ce ch:Z)(cj ck:ab)(u:Addr)(bq:M)(hC:C+lw []<=1000000)(hN:N+1<=100000000):cy bG 7 #[aA e,AN 1 ce ch cj ck<|J (H u) 0 bq] W λca w'=>ca=aO (aL bW)/\BN h w' e O (C+lw []) (N+1):=by
 obtain⟨i0,br,bt,bu,bv⟩:=cz ut;obtain⟨E,o⟩:∃E,z (G W)=E:=⟨_,rfl⟩;obtain⟨q,w⟩:∃q,ct W (gR 1 ce ch cj ck<|J (H u) 0 bq)=q:=⟨_,rfl⟩;have h1:jR h q e db sbqq f g mem b d c lo ((E,gR 1 ce ch cj ck<|J (H u) 0 bq)::O) C N l a l a:=by rw[<-w];exact cb.add ((Y.refl _ W).alloc _) (by omega)<|aD _ o.symm
 have cc:=cb.lens;have s:=cb.FN;have av:z (G q)=E+1:=by rw[<-w,<-o];simp
 have cn:=ak cb.box;obtain⟨bc,K,p,bl,F⟩:=jP h1 w o av s;unfold AN;have c5:aT q (R E 5)=H (J (H u) 0 bq):=h1.fG.2.2.2.2.2;clear cb h1 o av s;go_in
 unfold gR at K
 go_wp2_with(first
  |(at_builtin;rw[ae K];go_loud(refine bS _ rfl (.tmp 40) (.tmp 42) 29 rfl (z (G q)) 42 i0 (.agg #[.string ⟨#[]⟩,.string ⟨#[]⟩,.bool bF]) 3 40 underlying29 br bt bu bv rfl (by decide) aK 0 [] rfl (bK _ _ _ _) u 0 bq [] rfl rfl (by simp) (by simp) (by omega) (by omega) (ah _) ?_;intro v2 L j bb;obtain⟨bp,bo,rfl⟩:=aC j;have bk:=U j;have bm:=U bb;clear j bb)))
 have k:Y aB q L:=Y.dN bm.grown (λbx r=>by cases r);have j:L.ownsRow (z<|G q) 42 3 (J bp 0 bo) 0 []:=ae bk;have m:=(bc.still k).still<|cf aB L;have cl:=k.size;have al:xV L.drew (J bp 0 bo) []:=(cf aB L).row (dH j)<|λbx r=>⟨id,(aI j bx r).2⟩;have D:=λk=>Ew m (J bp 0 bo) [] k al (λbx r=>⟨(aI j bx r).2,by have:=(aI j bx r).1;have:=F.2.2.2.2.1;have:=ae p;have:=ae bl;omega⟩) (by simp) (by simp) hC hN;obtain⟨wn,B⟩:∃wn:Z,(if a then 6 else fY [])=wn:=⟨_,rfl⟩;obtain⟨la,x⟩:∃la,(if a then l.1 else qP l.1 [])=la:=⟨_,rfl⟩;simp only[B,x]at D;have V:=And.intro m.jr.2.1 m.fG.2.1;have bn:=U B;have bi:=U x;have bT:=ae p;clear k j m al B x c5;try rw[bT]
 rename_i QQ KK S;refine cJ (λt=>aT t (R e 1)=H (aA sbqq)/\aT t (R E 1)=H (ap ce)) 10 (by kernel_rfl) ?_;refine dA 0 ?_;iterate 9 (refine fw (v:=?_) V rfl (by kernel_rfl) jU rfl ?_ ?_;rotate_left;(focus(rintro t⟨z0,z1⟩;go_simp;try rfl));simp only[Act.put,du,iy,Nat.reduceAdd])
 apply eX;refine aP (i:=9) rfl rfl (by kernel_rfl) ?_;intro KC Q;go_simp;apply(D _).mono;rintro ca W3⟨rfl,P⟩;have X:=And.intro P.jr.2.1 P.fG.2.1;have bd:=U P;refine Q _ _ (λ_=>X) ?_;try simp only[Act.put,du,iy]
 refine aP (i:=10) rfl rfl (by kernel_rfl) ?_;intro KL T;go_simp;refine T _ _ yR ?_;refine dp (by kernel_rfl) ?_ _;show KK _ _;apply S;have y5:aT W3 (R E 5)=H (J (H u) 0 bq):=P.fG.2.2.2.2.2;have ax:=JX u bq W3;clear V X D Q T S P;go_wp2_with fail
 apply ax.mono;rintro ca W4⟨v4,rfl,n,ac⟩;have h4:=bd.still<|Y.aW ac;have A:=rY g.1 h4.ref (dH n) (λbx r=>(aI n bx r).2) (by simp;omega);rw[ae bn,vM,ae bi]at A;obtain⟨dx,dc,bs⟩:=aC n;subst bs;have y2:aT W4 (R e 2)=H (aA f):=h4.jr.2.2.1;have bf:=U h4;clear n ac h4 ax y5;go_wp2_with fail
 apply A.mono;rintro ca W5⟨rfl,⟨co,au,ao⟩,an⟩;have h5:=bf.KE an au ao;have ba:=nJ wn h5.CQ;have bg:=U h5;clear A au ao an h5 y2;go_wp2_with fail
 apply ba.mono;rintro ca W6⟨rfl,ad⟩;have bh:=U<|bg.still<|Y.aW ad;clear ad ba;go_wp2_with fail
 go_loopw [10] (λj wr=>j=ap 0/\wr=W6) (λ_ _=>0)
 case atStart=>exact⟨rfl,rfl⟩
 (case round=>obtain⟨rfl,cd⟩:=hrel;subst wr;(go_wp2_with fail);apply(qV wn _).mono;rintro ca W9⟨rfl,cm⟩;subst W9;go_wp2;go_ret;exact⟨rfl,db,sbqq,f,_,mem,b,d,c,lo,_,a,bh.drop<|λp j=>aJ _ j⟩)
theorem Dy(bp:jR h W e db sbqq f g mem b d c lo O C N l a l a)(bs bt:Z)(bu bv:ab)(hC:C+lw []<=1000000)(hN:N+1<=100000000):cy bG 7 #[aA e,AN 1 bs bt bu bv aK] W λbo w'=>bo=aO (aL bW)/\BN h w' e O (C+lw []) (N+1):=by
 obtain⟨i0,bx,cc,cd,ce⟩:=cz ut;obtain⟨F,o⟩:∃F,z (G W)=F:=⟨_,rfl⟩;obtain⟨q,w⟩:∃q,ct W (gR 1 bs bt bu bv aK)=q:=⟨_,rfl⟩;have h1:jR h q e db sbqq f g mem b d c lo ((F,gR 1 bs bt bu bv aK)::O) C N l a l a:=by rw[<-w];exact bp.add ((Y.refl _ W).alloc _) (by omega)<|aD _ o.symm
 have bq:=bp.lens;have s:=bp.FN;have av:z (G q)=F+1:=by rw[<-w,<-o];simp
 have cb:=ak bp.box;obtain⟨bb,L,p,bi,K⟩:=jP h1 w o av s;unfold AN;have c5:aT q (R F 5)=H aK:=h1.fG.2.2.2.2.2;clear bp h1 o av s;go_in
 unfold gR at L;go_wp2_with fail
 rw[ae L];obtain⟨t,x⟩:∃t,q=t:=⟨_,rfl⟩;have k:Y aB q t:=by rw[<-x];exact Y.refl _ _
 have j:t.ownsRow (z<|G q) 42 3 aK 0 []:=bK _ _ _ _;rw[x];clear x;have m:=(bb.still k).still<|cf aB t;have bT:=k.size;have al:xV t.drew aK []:=(cf aB t).row (dH j)<|λbm r=>⟨id,(aI j bm r).2⟩;have E:=λk=>Ew m aK [] k al (λbm r=>⟨(aI j bm r).2,by have:=(aI j bm r).1;have:=K.2.2.2.2.1;have:=ae p;have:=ae bi;omega⟩) (by simp) (by simp) hC hN;obtain⟨wn,D⟩:∃wn:Z,(if a then 6 else fY [])=wn:=⟨_,rfl⟩;obtain⟨la,A⟩:∃la,(if a then l.1 else qP l.1 [])=la:=⟨_,rfl⟩;simp only[D,A]at E;have V:=And.intro m.jr.2.1 m.fG.2.1;have bk:=U D;have bh:=U A;have bn:=ae p;clear k j m al D A c5;try rw[bn]
 rename_i QQ KK S;refine cJ (λu=>aT u (R e 1)=H (aA sbqq)/\aT u (R F 1)=H (ap bs)) 10 (by kernel_rfl) ?_;refine dA 0 ?_;iterate 9 (refine fw (v:=?_) V rfl (by kernel_rfl) jU rfl ?_ ?_;rotate_left;(focus(rintro u⟨z0,z1⟩;go_simp;try rfl));simp only[Act.put,du,iy,Nat.reduceAdd])
 apply eX;refine aP (i:=9) rfl rfl (by kernel_rfl) ?_;intro KC Q;go_simp;apply(E _).mono;rintro bo W3⟨rfl,P⟩;have X:=And.intro P.jr.2.1 P.fG.2.1;have bc:=U P;refine Q _ _ (λ_=>X) ?_;try simp only[Act.put,du,iy]
 refine aP (i:=10) rfl rfl (by kernel_rfl) ?_;intro KL T;go_simp;refine T _ _ yR ?_;refine dp (by kernel_rfl) ?_ _;show KK _ _;apply S;have y5:aT W3 (R F 5)=H aK:=P.fG.2.2.2.2.2;have ax:=zb [] aK W3 (by simp) ⟨rfl,.inl ⟨rfl,rfl⟩⟩ (λbm r=>by cases r);clear V X E Q T S P;go_wp2_with fail
 apply ax.mono;rintro bo W4⟨v4,rfl,n,ac⟩;have h4:=bc.still<|Y.aW ac;have B:=rY g.1 h4.ref (dH n) (λbm r=>(aI n bm r).2) (by simp;omega);rw[ae bk,vM,ae bh]at B;obtain⟨dx,dc,bl⟩:=aC n;subst bl;have y2:aT W4 (R e 2)=H (aA f):=h4.jr.2.2.1;have bd:=U h4;clear n ac h4 ax y5;go_wp2_with fail
 apply B.mono;rintro bo W5⟨rfl,⟨ch,au,ao⟩,an⟩;have h5:=bd.KE an au ao;have ba:=nJ wn h5.CQ;have bf:=U h5;clear B au ao an h5 y2;go_wp2_with fail
 apply ba.mono;rintro bo W6⟨rfl,ad⟩;have bg:=U<|bf.still<|Y.aW ad;clear ad ba;go_wp2_with fail
 go_loopw [10] (λj wr=>j=ap 0/\wr=W6) (λ_ _=>0)
 case atStart=>exact⟨rfl,rfl⟩
 (case round=>obtain⟨rfl,br⟩:=hrel;subst wr;(go_wp2_with fail);apply(qV wn _).mono;rintro bo W9⟨rfl,ca⟩;subst W9;go_wp2;go_ret;exact⟨rfl,db,sbqq,f,_,mem,b,d,c,lo,_,a,bg.drop<|λp j=>aJ _ j⟩)
end
section
variable{h W:I}{f db sbqq g:M}{e:PB}{mem b:Z}{d c:aa}{lo:iH}{O:cr (M×Obj)}{C N:M}{l:LC}{a:Bool}
theorem CN(bh:jR h W f db sbqq g e mem b d c lo O C N l a l a)(A bk:Z)(S T:ab)(bq:Option Addr)(bi bo:M)(e2:A<=0)(hn:A<0->bi=0):cy bG 11 #[aA f,AN 4 A bk S T<|J bq bi bo] W λbg w'=>bg=aO (aL bW)/\jR h w' f db sbqq g e mem b d c lo O C N l a l a:=by
 obtain⟨w,an⟩:∃w,z (G W)=w:=⟨_,rfl⟩;have h1:jR h (ct W<|gR 4 A bk S T<|J bq bi bo) f db sbqq g e mem b d c lo ((w,gR 4 A bk S T<|J bq bi bo)::O) C N l a l a:=bh.add ((Y.refl _ W).alloc _) (by omega)<|aD _ an.symm;have o:=h1.still<|cf aB _;have k:=Ex o S T A;have D:=And.intro o.jr.2.1 (And.intro o.fG.2.2.2.1 (And.intro o.fG.2.2.2.2.1 o.fG.2.1));have bp:=ak bh.box;have bf:=bh.lens;have bb:y (if a then []else mO l.1 S T A)<=1000000:=by have:=nC l.1 S T A;split;simp;omega
 have t:=λW'(q:mj W' g e.1 l.1 a e.2)=>tS e.1 S T A q (by omega);have V:(if a=bW\/A<=0 then []else mO l.1 S T A)=[]:=by exact dw<|.inr e2
 rw[V]at k;obtain⟨Q,hR⟩:∃Q,(if a then []else mO l.1 S T A)=Q:=⟨_,rfl⟩;obtain⟨gn,al⟩:∃gn:Z,(if a then 6 else 0)=gn:=⟨_,rfl⟩;skip
 rw[hR]at bb;simp only[hR,al]at t;have x:=U t;by_cases e1:A<0;case' pos=>obtain rfl:=hn e1
 (all_goals clear hn;unfold AN;unfold gR at k D;clear bh h1 o hR al t V;(go_in);(go_wp2_with fail);(try rw[an]);rename_i QQ KK r;refine cJ (λj=>aT j (R f 1)=H (aA sbqq)/\aT j (R w 3)=H (ai S)/\aT j (R w 4)=H (ai T)/\aT j (R w 1)=H (ap A)) 11 (by kernel_rfl) ?_;refine dA 0 ?_;(iterate 10 (refine fw (v:=?_) D rfl (by kernel_rfl) jU rfl ?_ ?_;rotate_left;(focus(rintro j⟨z0,z1,z2,z3⟩;go_simp;try rfl));simp only[Act.put,du,iy,Nat.reduceAdd]));apply eX;refine aP (i:=10) rfl rfl (by kernel_rfl) ?_;intro KC p;go_simp;apply k.mono;rintro bg W2⟨v2,rfl,K,o⟩;obtain⟨bn,bm,bc⟩:=aC K;subst bc;have u:=o.still<|cf aB W2;have X:=And.intro o.jr.2.1 (And.intro o.fG.2.2.2.1 (And.intro o.fG.2.2.2.2.1 o.fG.2.1));have B:=U K;have n:=U u;refine p _ _ (λ_=>X) ?_;(try simp only[Act.put,du,iy]);refine aP (i:=11) rfl rfl (by kernel_rfl) ?_;intro KL s;go_simp;refine s _ _ yR ?_;refine dp (by kernel_rfl) ?_ _;show KK _ _;apply r;have ao:=x _ n.ref;have ac:=And.intro n.jr.2.2.1 (And.intro n.fG.2.2.2.1 (And.intro n.fG.2.2.2.2.1 n.fG.2.1));clear D X k K o u p s r x;(go_wp2_with fail);rename_i QQ KK r;refine cJ (λj=>aT j (R f 2)=H (aA g)/\aT j (R w 3)=H (ai S)/\aT j (R w 4)=H (ai T)/\aT j (R w 1)=H (ap A)) 15 (by kernel_rfl) ?_;refine dA 0 ?_;(iterate 10 (refine fw (v:=?_) ac rfl (by kernel_rfl) jU rfl ?_ ?_;rotate_left;(focus(rintro j⟨z0,z1,z2,z3⟩;go_simp;try rfl));simp only[Act.put,du,iy,Nat.reduceAdd]));apply eX;refine aP (i:=10) rfl rfl (by kernel_rfl) ?_;intro KC p;go_simp;apply ao.mono;rintro bg W3⟨v3,rfl,L,F⟩;obtain⟨bx,br,bd⟩:=aC L;subst bd;have u:=n.still<|Y.aW F;have E:=And.intro u.jr.2.2.1 (And.intro u.fG.2.2.2.1 (And.intro u.fG.2.2.2.2.1 u.fG.2.1));have ad:jQ W3 (J bn (y ([]:iH)) bm) ([]:iH):=(Y.aW (S:=aB) F).row ((cf aB W2).row (dH B)<|λk j=>⟨id,(aI B k j).2⟩)<|λk j=>⟨id,(aI B k j).2⟩;obtain⟨ba,bl,av⟩:=dC ad L u;have y1:aT W3 (R w 1)=H (ap A):=u.fG.2.1;refine p _ _ (λ_=>E) ?_;(try simp only[Act.put,du,iy]);refine dA 11 ?_;(iterate 4 (refine fw (v:=?_) E rfl (by kernel_rfl) jU rfl ?_ ?_;rotate_left;(focus(rintro j⟨z0,z1,z2,z3⟩;go_simp;try rfl));simp only[Act.put,du,iy,Nat.reduceAdd]));apply eX;refine aP (i:=15) rfl rfl (by kernel_rfl) ?_;intro KL s;go_simp;refine s _ _ yR ?_;refine dp (by kernel_rfl) ?_ _;show KK _ _;apply r;have P:=ou (m:=([]:iH)) ba (show jQ W3 aK []from⟨rfl,.inl ⟨rfl,rfl⟩⟩) (by simp) (by simp);simp only[nh]at P;clear ao ac E p s r ad L u F;(go_wp2_with fail);apply P.mono;rintro bg W5⟨rfl,kq,au⟩;have ax:=U<|av.still (W':=W5) (by rw[au];exact ia _ _ _);clear P au;go_wp2;go_ret;exact⟨rfl,ax.drop<|λp j=>aJ _ j⟩)
end
section
variable{h W:I}{f db sbqq g:M}{e:PB}{mem b:Z}{d c:aa}{lo:iH}{O:cr (M×Obj)}{C N:M}{l:LC}{a:Bool}
theorem Bd(bh:jR h W f db sbqq g e mem b d c lo O C N l a l a)(A bi:Z)(S T:ab)(bp:Option Addr)(bo bm:M)(hA:0<A):cy bG 11 #[aA f,AN 4 A bi S T<|J bp bo bm] W λbg w'=>bg=aO (aL bW)/\jR h w' f db sbqq g e mem b d c lo O C N l a l a:=by
 obtain⟨u,al⟩:∃u,z (G W)=u:=⟨_,rfl⟩;have h1:jR h (ct W<|gR 4 A bi S T<|J bp bo bm) f db sbqq g e mem b d c lo ((u,gR 4 A bi S T<|J bp bo bm)::O) C N l a l a:=bh.add ((Y.refl _ W).alloc _) (by omega)<|aD _ al.symm;have n:=h1.still<|cf aB _;have k:=Ex n S T A;have D:=And.intro n.jr.2.1 (And.intro n.fG.2.2.2.1 (And.intro n.fG.2.2.2.2.1 n.fG.2.1));have bn:=ak bh.box;have bf:=bh.lens;have bb:y (if a then []else mO l.1 S T A)<=1000000:=by have:=nC l.1 S T A;split;simp;omega
 have s:=λW'(q:mj W' g e.1 l.1 a e.2)=>tS e.1 S T A q (by omega);have Q:(if a=bW\/A<=0 then []else mO l.1 S T A)=(if a then []else mO l.1 S T A):=by cases a<;>simp<;>omega
 rw[Q]at k;obtain⟨w,hR⟩:∃w,(if a then []else mO l.1 S T A)=w:=⟨_,rfl⟩;obtain⟨gn,ad⟩:∃gn:Z,(if a then 6 else 0)=gn:=⟨_,rfl⟩;rw[hR]at k;rw[hR]at bb;simp only[hR,ad]at s;have x:=U s;have e1:¬(A<0):=by omega
 have e2:¬(A<=0):=by omega
 unfold AN;unfold gR at k D;clear bh h1 n hR ad s Q;go_in
 go_wp2_with fail
 try rw[al]
 rename_i QQ KK p;refine cJ (λj=>aT j (R f 1)=H (aA sbqq)/\aT j (R u 3)=H (ai S)/\aT j (R u 4)=H (ai T)/\aT j (R u 1)=H (ap A)) 11 (by kernel_rfl) ?_;refine dA 0 ?_;iterate 10 (refine fw (v:=?_) D rfl (by kernel_rfl) jU rfl ?_ ?_;rotate_left;(focus(rintro j⟨z0,z1,z2,z3⟩;go_simp;try rfl));simp only[Act.put,du,iy,Nat.reduceAdd])
 apply eX;refine aP (i:=10) rfl rfl (by kernel_rfl) ?_;intro KC o;go_simp;apply k.mono;rintro bg W2⟨v2,rfl,K,n⟩;obtain⟨bl,bk,bc⟩:=aC K;subst bc;have t:=n.still<|cf aB W2;have V:=And.intro n.jr.2.1 (And.intro n.fG.2.2.2.1 (And.intro n.fG.2.2.2.2.1 n.fG.2.1));have B:=U K;have m:=U t;refine o _ _ (λ_=>V) ?_;try simp only[Act.put,du,iy]
 refine aP (i:=11) rfl rfl (by kernel_rfl) ?_;intro KL r;go_simp;refine r _ _ yR ?_;refine dp (by kernel_rfl) ?_ _;show KK _ _;apply p;have an:=x _ m.ref;have X:=And.intro m.jr.2.2.1 (And.intro m.fG.2.2.2.1 (And.intro m.fG.2.2.2.2.1 m.fG.2.1));clear D V k K n t o r p x;go_wp2_with fail
 rename_i QQ KK p;refine cJ (λj=>aT j (R f 2)=H (aA g)/\aT j (R u 3)=H (ai S)/\aT j (R u 4)=H (ai T)/\aT j (R u 1)=H (ap A)) 15 (by kernel_rfl) ?_;refine dA 0 ?_;iterate 10 (refine fw (v:=?_) X rfl (by kernel_rfl) jU rfl ?_ ?_;rotate_left;(focus(rintro j⟨z0,z1,z2,z3⟩;go_simp;try rfl));simp only[Act.put,du,iy,Nat.reduceAdd])
 apply eX;refine aP (i:=10) rfl rfl (by kernel_rfl) ?_;intro KC o;go_simp;apply an.mono;rintro bg W3⟨v3,rfl,L,F⟩;obtain⟨bx,bq,bd⟩:=aC L;subst bd;have t:=m.still<|Y.aW F;have E:=And.intro t.jr.2.2.1 (And.intro t.fG.2.2.2.1 (And.intro t.fG.2.2.2.2.1 t.fG.2.1));have ac:jQ W3 (J bl (y w) bk) w:=(Y.aW (S:=aB) F).row ((cf aB W2).row (dH B)<|λk j=>⟨id,(aI B k j).2⟩)<|λk j=>⟨id,(aI B k j).2⟩;obtain⟨ba,ax,au⟩:=dC ac L t;have y1:aT W3 (R u 1)=H (ap A):=t.fG.2.1;refine o _ _ (λ_=>E) ?_;try simp only[Act.put,du,iy]
 refine dA 11 ?_;iterate 4 (refine fw (v:=?_) E rfl (by kernel_rfl) jU rfl ?_ ?_;rotate_left;(focus(rintro j⟨z0,z1,z2,z3⟩;go_simp;try rfl));simp only[Act.put,du,iy,Nat.reduceAdd])
 apply eX;refine aP (i:=15) rfl rfl (by kernel_rfl) ?_;intro KL r;go_simp;refine r _ _ yR ?_;refine dp (by kernel_rfl) ?_ _;show KK _ _;apply p;have P:=ou ba (pC.Pm ax) (by omega) (by omega);simp only[nh]at P;clear an X E o r p ac L t F;go_wp2_with fail
 apply P.mono;rintro bg W5⟨rfl,kq,ao⟩;have av:=U<|au.still (W':=W5) (by rw[ao];exact ia _ _ _);clear P ao;go_wp2;go_ret;exact⟨rfl,av.drop<|λp j=>aJ _ j⟩
end
section
variable{d W W':I}{f db sbqq g:M}{h:PB}{mem b:Z}{e c:aa}{lo:iH}{O:cr (M×Obj)}{C N:M}{l:LC}{a:Bool}
theorem Nu(ad:jR d W f db sbqq g h mem b e c lo O C N l a l a)(B E:Z)(S T:ab)(o i s D:M)(j k:ab)(m:Bool)(hA:B<0)(P:0<s)(r:s<=D)(p:s<=1000000000000)(q:o<z (G d))(w:aT d (R o i)=H (ai j))(x:aT d (R o<|i+1)=H (ai k))(A:aT d (R o<|i+2)=H (aL m))(Q:j.size<=140737488351232/\k.size<=140737488351232)(K:C+lw [⟨j,k,m⟩]<=1000000)(L:N+1<=100000000):cy bG 11 #[aA f,AN 4 B E S T<|bD o i s D] W λac X=>ac=aO (aL bW)/\BN d X f O (C+lw [⟨j,k,m⟩]) (N+1):=by
 have u:=ad.still<|(Y.refl aB W).alloc<|gR 4 B E S T<|bD o i s D;have n:=Rr u B E S T o i s D j k m P r p q w x A Q K L;have e1:(0:Z)<(s:Z):=by omega
 unfold AN at n|-;unfold gR at n;clear ad u w x A;go_in
 go_wp2_with fail
 apply n.mono;rintro ac W2⟨rfl,t,V,v⟩;have F:=U v;clear v n;go_wp2;go_ret;exact⟨rfl,db,sbqq,g,t,mem,b,e,c,lo,V,a,F⟩
theorem uR(i A B:Z)(S T:ab)(x:Option Addr)(r p:M)(P:I->Prop)(q:i=2\/i=3\/i=4\/i=8\/i=9)(j:cy bG 11 #[aA f,AN i A B S T<|J x r p] (ct W<|gR i A B S T<|J x r p) λn k=>n=aO (aL bW)/\P k):cy bG 7 #[aA f,AN i A B S T<|J x r p] W λn k=>n=aO (aL bW)/\P k:=by
 unfold AN at j|-;unfold gR at j;rcases q with rfl|rfl|rfl|rfl|rfl;(all_goals(go_in);(go_wp2_with fail);apply j.mono;rintro n s⟨rfl,m⟩;have o:=U m;clear m j;go_wp2;go_ret;exact⟨rfl,o⟩)
end
