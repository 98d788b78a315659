import Derived.Test.YtophdnlmpfmeiaaGreatDoorC31
import Derived.Test.YtophdnlmpfmeiaaGreatDoorC33
namespace Go.Proofs.YtophdnlmpfmeiaaGreatDoor
open ChangeShapes WideShapes RowKit Proofs.Tryz
set_option maxHeartbeats 16000000
set_option linter.all false
set_option maxRecDepth 100000
section
open Go.Conc.Locks
def Cs{a:List nk}(h:jo a=0):(∀x∈a,1<=x.key.size/\x.key.size<=8)/\∀x∈a,x.del=false->x.val.size<=16:=by
 induction a with
 |nil=>simp
 |cons j r f=>
  unfold jo at h;split at h
  ·cases h
  ·rename_i k;split at h
   ·cases h
   ·rename_i d;obtain⟨g,i⟩:=f h;constructor
    ·intro x c;rcases aD.1 c with e|e
     ·rw[e];omega
     ·exact g x e
    ·intro x c b;rcases aD.1 c with e|e
     ·rw[e]at b|-;have:¬16<j.val.size:=λg=>d ⟨b,g⟩;omega
     ·exact i x e b
def EC{a:List nk}(h:eB a=0):a.length<=8/\(∀x∈a,1<=x.key.size/\x.key.size<=8)/\∀x∈a,x.del=false->x.val.size<=16:=by
 unfold eB at h;split at h
 ·cases h
 ·rename_i b;exact⟨by omega,Cs h⟩
def uF(w:J)(sb:Nat)(s:SR)(l:M)(c:Bool)(h:bX w sb s 0)(e:s.closed=true):Calls prog 12 #[.pointer (some ⟨sb,0,none⟩),l,.bool c] w λg d=>g=.returned (kr 6)/\bX d sb s 0/\I (λk=>k=sb) w d:=by
 have j:w.cell? ⟨sb,0,none⟩=some (.int .i32 0):=h.cell rfl;have n:w.frozen? ⟨sb,0,none⟩=false:=h.free;have b:=h.gH 1;have a:=jC _ sb s 1 b;rw[e]at a;simp only[iY]at a;have m:(w.setCell ⟨sb,0,none⟩ (.int .i32 1)).cell? ⟨sb,0,none⟩=some (.int .i32 1):=b.cell rfl;have o:(w.setCell ⟨sb,0,none⟩ (.int .i32 1)).frozen? ⟨sb,0,none⟩=false:=b.free;have i:=Z (show bX ((w.setCell ⟨sb,0,none⟩ (.int .i32 1)).setCell ⟨sb,0,none⟩ (.int .i32 0)) sb s 0/\I (λk=>k=sb) w ((w.setCell ⟨sb,0,none⟩ (.int .i32 1)).setCell ⟨sb,0,none⟩ (.int .i32 0))from⟨b.gH 0,((I.refl (λk=>k=sb) w).setCell sb 0 _ (.inl rfl)).setCell sb 0 _ (.inl rfl)⟩);clear h b e;unfold kr at a|-;simp only[Int.reduceEq,ji]at a|-;go_enter_defers func12,ntmps12
 go_wp2_with fail
 refine(lock_free ⟨sb,0,none⟩ _ j n).mono ?_;rintro g d⟨rfl,rfl⟩;go_wp2_with fail
 refine a.mono ?_;rintro g d⟨rfl,rfl⟩;go_wp2;refine ij (f:=40) (args:=#[.pointer (some ⟨sb,0,none⟩)]) (by simp) (by simp[go_sem]) ?_;refine(unlock_deferred ⟨sb,0,none⟩ .returning _ m o).mono ?_;rintro g q p⟨rfl,rfl,rfl⟩;exact⟨_,iL rfl _ _ _,rfl,Y i⟩
def iW(a:List nk):Nat:=if eB a=0 then a.length else 0
def ua(m:List E)(R:List (List E))(n:Int)(a:List nk):aa->Option aa:=if eB a=0 then seen (cq m (a.map (kw n))::R)else seen (m::R)
def EW.unlock{w b:J}{sb:Nat}{u:SR}{K:DK}{C N:Nat}{n:aa->Option aa}{i:SR}{c:DK}{s:List E}{o p q r:List ar}{g:Nat}{e:List (List E)}(h:EW w b sb u 1 K C N n i c s o p q r g e):b.cell? ⟨sb,6,none⟩=some .nilIface/\b.frozen? ⟨sb,6,none⟩=false/\∀t,t=6\/t=0->∀W,W=(b.setCell ⟨sb,6,none⟩ .nilIface)->W.cell? ⟨sb,0,none⟩=some (.int .i32 1)/\W.frozen? ⟨sb,0,none⟩=false/\EW w (W.setCell ⟨sb,0,none⟩ (.int .i32 0)) sb u 0 K C N n i c s o p q r g e:=by
 have d:¬c.aS u.aH sb:=by have:=h.inv.st.rf;rw[h.same.1]at this;exact this
 have m:=ak h.box;refine⟨h.box.cell rfl,h.box.free,?_⟩;rintro t _ W rfl;have a:bX (b.setCell ⟨sb,6,none⟩ .nilIface) sb i 1:=(aL h.box).trans rfl;have j:=h.eA.set d 6 .nilIface;have k:=j.set d 0 (.int .i32 0);have l:eN b ((b.setCell ⟨sb,6,none⟩ .nilIface).setCell ⟨sb,0,none⟩ (.int .i32 0)) i.aH sb c c:=((eN.refl h.inv.st.aH).set h.inv.st.rf 6 .nilIface).set h.inv.st.rf 0 (.int .i32 0);exact⟨a.cell rfl,a.free,a.gH 0,h.inv.eA m l rfl (ai _) rfl h.inv.loose,h.sL,k,h.same⟩
def xY(B:J)(sb:Nat)(v:SR)(Q:DK)(V:List E)(R S T U:List ar)(an tb ao:Nat)(ls:List (List E))(w:M)(b:List nk)(p:Bool)(ax:bX B sb v 0)(z:Inv B sb v Q V R S T U an tb ao ls)(O:v.closed=false)(hc:tD B w b)(s:∀u,w.ownBlock=some u->u<B.heap.size/\u≠sb)(hz:∀ba∈b,ba.key.size<=140737488351232/\ba.val.size<=140737488351232)(hr:b.length<=1000000000)(hC:an+iW b<=1000000)(hN:ao+1<=100000000):Calls prog 12 #[.pointer (some ⟨sb,0,none⟩),w,.bool p] B λK j=>K=.returned (kr (eB b))/\kC B j sb v 0 Q (an+iW b) (ao+1) (ua V (bZ R S T U) ((v.aO:Int)+1) b):=by
 have P:=ak ax;have c0:B.cell? ⟨sb,0,none⟩=some (.int .i32 0):=ax.cell rfl;have f0:B.frozen? ⟨sb,0,none⟩=false:=ax.free;have l:=qO z.st.aH z.st.rf 1;have x:=ax.gH 1;have e:=z.eA P l rfl (ai _) rfl z.loose;have F:I (λu=>u=sb) B (B.setCell ⟨sb,0,none⟩ (.int .i32 1)):=(I.refl (λu=>u=sb) B).setCell sb 0 _ (.inl rfl);have r:tD (B.setCell ⟨sb,0,none⟩ (.int .i32 1)) w b:=F.row hc (λu A=>⟨(s u A).2,(s u A).1⟩);have c:∀u,w.ownBlock=some u->u<(B.setCell ⟨sb,0,none⟩ (.int .i32 1)).heap.size:=λu A=>by rw[gp];exact(s u A).1
 generalize hW:B.setCell ⟨sb,0,none⟩ (.int .i32 1)=L at l x e F r c;have h:=jC _ sb v 1 x;rw[O]at h;simp only[ic,ji]at h;have g:=DO w b L r c (by omega) hz;have m:eB b=0->∀d,I (λ_=>False) L d->Calls prog 43 #[.pointer (some ⟨sb,0,none⟩),w,.bool p] d λK j=>K=.returned .nilIface/\kC B j sb v 1 Q (an+iW b) (ao+1) (ua V (bZ R S T U) ((v.aO:Int)+1) b):=λi d a=>by
  obtain⟨q1,q2,q3⟩:=EC i;have t:eN L d v.aH sb Q Q:=⟨e.st.aH.ay a (λ_ _=>id),a.mono (λ_ W=>W.elim),λ_ W=>.inl W⟩;have X:=e.eA (ak x) t rfl (ai _) rfl e.loose;have k:bX d sb v 1:=(a.block sb (ak x) id).trans x;have N:iW b=b.length:=by unfold iW;rw[dr i]
  have ad:ua V (bZ R S T U) ((v.aO:Int)+1) b=seen (cq V (b.map (kw ((v.aO:Int)+1)))::bZ R S T U):=by unfold ua;rw[dr i]
  rw[N,ad];refine(Nh d sb v 1 Q V R S T U an tb ao ls w b p k X (a.row r (λu A=>⟨id,c u A⟩)) (λu A=>ah (c u A) a.size) q1 q2 q3 (λba hx=>(hz ba hx).2) (by rw[<-N];exact hC) hN).mono ?_;rintro K j⟨rfl,s',K',m',a',b',c',d',H,G,y⟩;exact⟨rfl,s',K',m',a',b',c',d',H,G,y.box,y.inv,y.sL,(l.trans t).trans y.eA,y.same⟩
 have n:eB b≠0->∀d,I (λ_=>False) L d->d.cell? ⟨sb,0,none⟩=some (.int .i32 1)/\d.frozen? ⟨sb,0,none⟩=false/\kC B (d.setCell ⟨sb,0,none⟩ (.int .i32 0)) sb v 0 Q (an+iW b) (ao+1) (ua V (bZ R S T U) ((v.aO:Int)+1) b):=λi d a=>by
  have t:eN L d v.aH sb Q Q:=⟨e.st.aH.ay a (λ_ _=>id),a.mono (λ_ W=>W.elim),λ_ W=>.inl W⟩;have k:bX d sb v 1:=(a.block sb (ak x) id).trans x;have N:=(l.trans t).set z.st.rf 0 (.int .i32 0);refine⟨k.cell rfl,k.free,v,Q,V,R,S,T,U,tb,ls,k.gH 0,(z.eA P N rfl (ai _) rfl z.loose).mono (by omega) hC (by omega) hN,λW=>by unfold ua;rw[dd i],N,rfl,rfl,rfl,rfl⟩
 obtain⟨cx,cc,ac⟩:=bA hc;subst ac;have C:=Z m;have D:=Z n;have HW:=Z hW;clear ax z l x e O hW m n hc s r c F hz;by_cases i:eB b=0
 ·have m:=(Y C) i;have q:kr (eB b)=.nilIface:=by rw[i];rfl
  rw[q]at g|-;clear C D i;go_enter_defers func12,ntmps12
  go_wp2_with fail
  refine(lock_free ⟨sb,0,none⟩ _ c0 f0).mono ?_;rintro K j⟨rfl,o⟩;rw[Y HW]at o;subst j;go_wp2_with fail
  refine h.mono ?_;rintro K j⟨rfl,o⟩;subst j;unfold kr;simp only[iY];go_wp2_with fail
  refine g.mono ?_;rintro K w2⟨rfl,a⟩;have hd:=m w2 a;clear m g h a;go_wp2_with fail
  refine hd.mono ?_;rintro K w3⟨rfl,s',K',m',a',b',c',d',H,G,y⟩;obtain⟨q6,r6,hu⟩:=y.unlock;obtain⟨d0,g0,N⟩:=hu 6 (.inl rfl) _ rfl;have X:=Z N;clear y N hu hd;go_wp2;refine ij (f:=40) (args:=#[.pointer (some ⟨sb,0,none⟩)]) (by simp) (by simp[go_sem]) ?_;refine(unlock_deferred ⟨sb,0,none⟩ .returning _ d0 g0).mono ?_;rintro K u' al⟨rfl,rfl,rfl⟩;exact⟨_,iL rfl _ _ _,rfl,s',K',m',a',b',c',d',H,G,Y X⟩
 ·have n:=(Y D) i;obtain⟨ad,X⟩:∃ad,eB b=ad:=⟨_,rfl⟩;have q:kr (eB b)=.iface 55 (.int .i64 ad):=by unfold kr;rw[dd i,X]
  rw[q]at g|-;clear C D i X q;go_enter_defers func12,ntmps12
  go_wp2_with fail
  refine(lock_free ⟨sb,0,none⟩ _ c0 f0).mono ?_;rintro K j⟨rfl,o⟩;rw[Y HW]at o;subst j;go_wp2_with fail
  refine h.mono ?_;rintro K j⟨rfl,o⟩;subst j;unfold kr;simp only[iY];go_wp2_with fail
  refine g.mono ?_;rintro K w2⟨rfl,a⟩;obtain⟨d0,g0,N⟩:=n w2 a;have HP:=Z N;clear n g h a N;go_wp2;refine ij (f:=40) (args:=#[.pointer (some ⟨sb,0,none⟩)]) (by simp) (by simp[go_sem]) ?_;refine(unlock_deferred ⟨sb,0,none⟩ .returning _ d0 g0).mono ?_;rintro K u' al⟨rfl,rfl,rfl⟩;exact⟨_,iL rfl _ _ _,rfl,Y HP⟩
end
section
open Go.Shelf
attribute [local go_sem] Oper.semAt_some
def kF(n:Int)(w:J)(a:kK w):Calls prog 15 #[kr n] w λe b=>e=.returned (.int .i64 n)/\Below w.heap.size w b:=by
 unfold kr;split
 ·rename_i h;subst h;exact CV w
 ·exact Fh n w a
def NQ(w:J)(c:nk):tD (w.alloc (.cells #[.string c.key,.string c.val,.bool c.del] 42)) (.slice (some ⟨w.heap.size,0,none⟩) 1 1) [c]:=by
 have h:(w.alloc (.cells #[.string c.key,.string c.val,.bool c.del] 42)).heap[w.heap.size]?=some (.cells #[.string c.key,.string c.val,.bool c.del] 42 (0,0)):=az _ rfl;refine⟨rfl,.inr ⟨w.heap.size,0,1,rfl,ai _,λj u a=>?_⟩⟩;rw[aj h,cw];simpa[cZ,ky]using a
def LA(a:J)(sb:Nat)(b:List KV)(B:Nat->Prop)(W:J):Prop:=Acc (λk=>k=sb) a [] a.heap.size 37 68 2 (a.heap.size+1) b.length (eQ b) B W
def AJ(ac:J)(sb:Nat)(fs:SR)(lo hi:aa)(D:List KV)(F G:aa)(E:Bool)(n:Int)(fu:J->Prop)(Q:SR->J->Prop)(F0:Nat->Prop)(fr:sb<ac.heap.size)(hF:∀k,F0 k->k<ac.heap.size)(hA:∀W,I (λ_=>False) ac W->W.heap.size=ac.heap.size+1->Calls prog 60 #[.pointer (some ⟨sb,0,none⟩),.string lo,.string hi] W λbg L=>∃v bt bs,bg=.returned v/\EV W L sb v D bt bs/\I F0 W L/\fu L)(hW:∀r W db,fu r->I (λ_=>False) r W->tD W (.slice (some ⟨db,0,none⟩) 1 1) [⟨F,G,E⟩]->db<W.heap.size->db≠sb->Calls prog 12 #[.pointer (some ⟨sb,0,none⟩),.slice (some ⟨db,0,none⟩) 1 1,.bool false] W λbg L=>bg=.returned (kr n)/\∃c,bX L sb c 0/\c.closed=fs.closed/\I F0 W L/\Q c L)(hQ:∀c W W',Q c W->I (λk=>k=sb) W W'->bX W' sb c 0->Q c W')(hE:∀c W,Q c W->kK W)(cs:fs.closed=true->D=[])(en:D.length<=1000000000):Calls prog 59 #[.pointer (some ⟨sb,0,none⟩),.string lo,.string hi,.agg #[.string F,.string G,.bool E]] ac λbg L=>∃v' c,bg=.returned (.tuple #[v',.int .i64 n])/\vK ac L v' D/\Q c L:=by
 obtain⟨i0,ej,es,et,eu⟩:=bK tf;have cx:∀c:SR,c.closed=fs.closed->(if c.closed=true then []else D)=D:=by
  intro c bg;split
  ·rename_i bf;rw[bg]at bf;rw[cs bf]
  ·rfl
 have O:I (λ_=>False) ac (ac.alloc (.cells #[.string F,.string G,.bool E] 42)):=(I.refl (λ_=>False) ac).alloc _;have bd:(ac.alloc (.cells #[.string F,.string G,.bool E] 42)).heap[ac.heap.size]?=some (.cells #[.string F,.string G,.bool E] 42 (0,0)):=az _ rfl;have y:(ac.alloc (.cells #[.string F,.string G,.bool E] 42)).heap.size=ac.heap.size+1:=by simp
 have ce:=hA _ O y;have dx:=Z cx;have HX:=Z (bj O (bj bd y));have HW:=Z hW;have HQ:=Z hQ;have HE:=Z hE;have HF:=Z hF;clear cx O bd y hA hW hQ hE cs hF;refine(dM (n:=3)).1 ?_;refine callsIn_of_wp_marks func59 rfl trivial ?_ rfl;simp only[ntmps59,gC,aE,cH,Nat.reduceAdd,Nat.reduceSub,fq,fp,gD,fI,cL,dI];gi_wp2_with(refine⟨trivial,?_⟩;gi_at_call 60;refine(dM.2 ce).mono ?_;rintro bg o⟨v2,bt,bs,rfl,ei,d,ca⟩;obtain⟨eq,⟨u2,cm,u⟩,ck,cv⟩:=ei;subst eq;have R:=(d.block _ (ak (Y HX).2.1) (λg=>by have:=(Y HF) _ g;omega)).trans (Y HX).2.1;have k0:o.cell? ⟨ac.heap.size,0,none⟩=some (.string F):=(by rw[aj R];rfl);have k1:o.cell? ⟨ac.heap.size,1,none⟩=some (.string G):=(by rw[aj R];rfl);have k2:o.cell? ⟨ac.heap.size,2,none⟩=some (.bool E):=(by rw[aj R];rfl);have bk:=Z cm;have dn:=Z u;have bi:=Z ck;have ds:=Z cv;have bn:=Z d;have dT:=Z ca;clear cm u ck cv d ca ce R)
 gi_wp2_with(refine⟨trivial,?_⟩;gi_at_call 12;refine(dM.2 ((Y HW) o (o.alloc (.cells #[.string F,.string G,.bool E] 42)) o.heap.size (Y dT) ((I.refl (λ_=>False) o).alloc _) (NQ o ⟨F,G,E⟩) (by simp) (by have:=(Y bn).size;have:=(Y HX).2.2;omega))).mono ?_;rintro bg e⟨rfl,c,ch,cp,cE,cb⟩;have em:∃ey fv,kr n=ey/\ey=fv:=⟨_,_,rfl,rfl⟩;have bh:=Z ch;have dk:=Z cp;have bp:=Z cE;have bl:=Z cb;clear ch cp cE cb k0 k1 k2 em)
 obtain⟨O,bd,y⟩:=Y HX;have d:=Y bn;have hF:=Y HF;have fl:=d.size;have el:=(Y bp).size;simp at el;obtain⟨fe,fd⟩:=Y ds;have al:bt<o.heap.size/\bs<o.heap.size:=⟨ak (Y bk),ak (Y bi)⟩;have cB:I F0 o e:=((I.refl F0 o).alloc (.cells #[.string F,.string G,.bool E] 42)).trans (Y bp) (λ_ g=>.inl g);have bb:∀k,ac.heap.size<=k->¬F0 k:=λk b g=>by have:=hF k g;omega
 have u:=Y dn;have w:∀k,u2.ownBlock=some k->ac.heap.size+1<=k/\k<o.heap.size:=λk b=>by
  have:=u.lt k b;rw[y]at this;exact this
 obtain⟨s,N⟩:∃s,e.alloc (.cells #[.slice none 0 0] 37)=s:=⟨_,rfl⟩;have A:I (λ_=>False) e s:=by rw[<-N];exact(I.refl (λ_=>False) e).alloc _
 have eg:dY s e.heap.size (.slice none 0 0) 37:=by rw[<-N];exact az _ rfl
 have fn:s.heap.size=e.heap.size+1:=by rw[<-N];simp
 have z:I F0 o s:=cB.trans A (λ_ g=>g.elim);have cn:dY s bt u2 37:=(z.block _ al.1 (bb _ (by omega))).trans (Y bk);have cl:dY s bs (.pointer (some ⟨sb,0,none⟩)) 35:=(z.block _ al.2 (bb _ (by omega))).trans (Y bi);have ek:=cW (z.own u (λk b g=>bb k (by have:=(w k b).1;omega) g));have ef:bX s sb c 0:=(A.block sb (ak (Y bh)) id).trans (Y bh);have ec:LA e sb [] (λk=>k=e.heap.size) s:=by
  refine⟨λp a=>by simp at a,⟨.slice none 0 0,eg,bC _ _ _ _,λk=>by simp[Value.ownBlock]⟩,λp a=>by simp at a,⟨ai _,by omega⟩,A.mono (λ_ g=>g.elim)⟩
 have x:=Bm e.heap.size 2 bt bs sb c u2 D s cn cl ek (by omega) (by omega) (λk b=>⟨by have:=(w k b).2;omega,by have:=(w k b).1;omega⟩) (by omega) (by omega) en;rw[(Y dx) c (Y dk)]at x;rw[N];refine wI (m:=3) (V:=JH sb c) (n0:=e.heap.size) (gf:=94) (lb:=#[.pointer (some ⟨bt,0,none⟩),.pointer (some ⟨bs,0,none⟩)]) (l:=D) (S:=λk=>k=bt\/k=bs\/u2.ownBlock=some k) ?geval (enters_of func94 (by kernel_rfl) rfl) (λ_=>rfl) x ef (by omega) ?slt (λa cT W=>LA e sb a cT W) (λ_ _ _ _=>False) (λk=>k=e.heap.size) ec ?sb ?lt ?st (λ_ _ _ _ _ _ bf=>bf.elim) ?body ?done ?stop;case geval=>rfl
 case slt=>
  rintro k(g|g|g)
  ·omega
  ·omega
  ·have:=(w k g).2;omega
 case sb=>
  rintro k(g|g|g)ea
  ·omega
  ·omega
  ·have:=(w k g).2;omega
 case lt=>
  intro a cT W bf k b;exact bf.lt k b
 case st=>
  intro a cT W W' T bf j h;refine bf.stays j (λk b=>⟨(h k b).1,?_⟩);rcases(h k b).2 with g|g
  ·exact .inl g
  ·exact .inr (by omega)
 case stop=>
  intro dc g a cT W _ bf;exact bf.elim
 case body=>
  intro lr a ey cT W fk bq eo an hC t;obtain⟨xk,xv⟩:=ey;have ee:a.length+1<=1000000000:=by
   have h1:=an.length_le;simp at h1;omega
  have HC:=Z hC;have p:=Z t;clear hC t an;unfold Hw;simp only;gi_wp2;refine⟨I.refl _ _,λr d=>?_⟩;have ax:LA e sb a cT r:=(Y HC).stays d (λk b=>by subst b;exact⟨bq,.inr (by omega)⟩);obtain⟨v,P,f,B⟩:=ax.row;have ba:r.cell? ⟨e.heap.size,0,none⟩=some v:=P.cell;have fb:r.frozen? ⟨e.heap.size,0,none⟩=false:=P.free;have ad:e.heap.size<r.heap.size:=ak P;obtain⟨K,H,bc⟩:=aC f;have bT:=Z ax;have HV:=Z P;have q:=Z f;have ao:=Z B;have bo:=Z d;clear ax P f B d;subst bc;gi_wp2_with(first
   |(gi_at_builtin;refine fg _ rfl (.tmp 26) (.tmp 30) 37 rfl (e.heap.size+1) 68 i0 (.agg #[.string ⟨#[]⟩,.string ⟨#[]⟩]) 2 32 underlying37 ej es et eu rfl (by decide) (.slice K a.length H) a.length (eQ a) rfl (aM (Y q) (.cells #[.string xk,.string xv] 68)) ⟨r.heap.size,0,none⟩ 1 1 (lj (xk,xv)) rfl rfl (Ge _ (xk,xv) _) (OK _) (by omega) (by omega) (by simp;omega) ?_;intro v2 w3 h C;obtain⟨X,U,rfl⟩:=aC h;have j:dY w3 e.heap.size (.slice K a.length H) 37:=(C.grown.block _ (ak ((Y HV).alloc (.cells #[.string xk,.string xv] 68))) (λg=>by have:=((Y q).lt _ g.symm).1;omega)).trans ((Y HV).alloc _);have eb:=j.cell;have ed:=j.free;have ev:=ak j;clear j;have cc:=Z h;have cd:=Z C;clear h C))
  have f:=Y q;have bx:=Y cd;have dv:I (λk=>(Value.slice K a.length H).ownBlock=some k) r w3:=((I.refl (λk=>(Value.slice K a.length H).ownBlock=some k) r).alloc (.cells #[.string xk,.string xv] 68)).trans (I.bz (S:=λk=>(Value.slice K a.length H).ownBlock=some k) bx.grown (λk b=>.inl b)) (λk b=>.inl b);have cM:(Value.slice X (a.length+1) U).ownBlock=(Value.slice K a.length H).ownBlock\/∃ex,(Value.slice X (a.length+1) U).ownBlock=some ex/\r.heap.size<=ex:=by
   rcases bx.sr with ea|⟨ex,ea,hg⟩
   ·exact .inl ea
   ·exact .inr ⟨ex,ea,by simp at hg;omega⟩
  obtain⟨B',q1,q2,q3⟩:=(Y bT).more (Y HV) (Y ao) f dv cM (Y cc);have cj:LA e sb (a++[(xk,xv)]) B' (w3.setCell ⟨e.heap.size,0,none⟩ (.slice X (a.length+1) U)):=by
   unfold LA;rw[zo,ag];exact q1
  have d:=Y bo;have br:I (λk=>cT k\/k=lr) W (w3.setCell ⟨e.heap.size,0,none⟩ (.slice X (a.length+1) U)):=(d.mono (T:=λk=>cT k\/k=lr) (λk b=>.inl (.inr b))).trans q2 (λk b=>.inl (.inl b));have bv:∀k,(cT k\/k=lr)->k≠sb:=λk b g=>by
   rcases b with ea|ea
   ·have:=((Y HC).lt k ea).1;omega
   ·omega
  exact⟨(JH sb c).dF (Y p) br (λk b g=>bv k b g),B',cj,br,q2.block lr (by have:=d.size;omega) bq,λk b=>(q3 k b).imp_right (λg=>by have:=d.size;omega)⟩
 case done=>
  intro dc cT W ev hC eb t hK;obtain⟨v,P,f,B⟩:=hC.row;have ba:W.cell? ⟨e.heap.size,0,none⟩=some v:=P.cell;have ad:=ak P;obtain⟨K,H,bc⟩:=aC f;have HC:=Z hC;have q:=Z f;have ao:=Z B;have p:=Z t;have HK:=Z hK;clear hC P f B t hK;subst bc;have cc:Q c W:=(Y HQ) c e W (Y bl) (Y HC).ay (Y p);have bo:kK W.drew:=show kK W from(Y HE) c W cc;have cM:=kF n W.drew bo;have cd:W.drew.cell? ⟨e.heap.size,0,none⟩=some (.slice K D.length H):=ba;clear cc bo;gi_wp2_with fail
  rename_i QQ KK bT;refine ou (Q:=Exit.then KK (λ_ _ _=>False)) ?_ (by intro bg a1 W1 hh;cases bg<;>first|exact hh|exact hh.elim);refine vO (λex=>ex.cell? ⟨e.heap.size,0,none⟩=some (.slice K D.length H)) 4 (by kernel_rfl) (by kernel_rfl) (λfb ac bf=>bf) ?_;refine cz 0 ?_;iterate 2 (refine cy (v:=?_) cd rfl (by kernel_rfl) (λ_ _ _ bf=>bf) (Or.inl ⟨by rfl,?_⟩) ?_;rotate_left;(focus(intro ex hX;go_simp;try with_reducible rfl));simp only[Act.put,Nat.reduceAdd,ab,ae,af])
  refine dG ?_;refine aI (i:=2) rfl rfl (by kernel_rfl) ?_;intro K2 bq;go_simp;refine cM.mono ?_;rintro bg X⟨rfl,cj⟩;have h:I (λ_=>False) W X:=(bS (λ_=>False) W).trans (I.aR (S:=λ_=>False) cj) (λ_ g=>g.elim);have C:=h.cell ba id ad;refine bq _ _ (λ_=>C) ?_;try simp only[Act.put,ab,ae,af]
  refine aI (i:=3) rfl rfl (by kernel_rfl) ?_;intro K3 br;go_simp;refine br _ _ (λ_=>C) ?_;try simp only[Act.put,ab,ae,af]
  refine aI (i:=4) rfl rfl (by kernel_rfl) ?_;intro K4 bv;go_simp;refine bv _ _ (λg=>(g rfl).elim) ?_;refine cr (by kernel_rfl) ?_ _;show KK _ _;refine bT _ _ ?_;have j:bX X sb c 0:=(h.block sb (ak (Y p)) id).trans (Y p);have bx:X.heap[dc]?=some (.deferred (some [])):=(h.block dc (ak (Y HK)) id).trans (Y HK);have an:=Z j;have dv:=Z bx;have ax:=Z h;clear bT bq br bv j bx h C cd cM cj;gi_wp2;have hB:=Y ao;have n3:¬(Value.slice K D.length H).ownBlock=some dc:=λg=>eb ((hB _).2 (.inr (.inr g)));have U:=dp X dc (.deferred none);have ed:dc≠sb:=by omega
  have ee:bX (X.putObj dc (.deferred none)) sb c 0:=(U.block sb (ak (Y an)) (λg=>ed g.symm)).trans (Y an);have eo:I (λk=>k=sb) e (X.putObj dc (.deferred none)):=((Y HC).ay.trans (Y ax) (λ_ g=>g.elim)).trans U (λk b=>by subst b;exact .inr (by omega));refine⟨by simp,.inl ⟨_,_,rfl,run_takeDeferred (Y dv),?_⟩⟩;refine⟨_,uA rfl _ _ _,_,c,rfl,?_,(Y HQ) c e _ (Y bl) eo ee⟩;have f:=(Y ax).own (Y q) (λ_ _ g=>g);exact gI (U.own f (λk b g=>by subst g;exact n3 b)) (by omega)
end
def kK.ay{S:Nat->Prop}{w w':J}(h:kK w)(d:I S w w')(a:¬S 0):kK w':=by
 unfold kK at*;exact d.cell h a (cI _ _ h)
def Inv.reads{w c:J}{sb:Nat}{s:SR}{K:DK}{t:List E}{a j l m:List ar}{C i N:Nat}{h:List (List E)}(u:Inv w sb s K t a j l m C i N h)(d:sb<w.heap.size)(r:tr w c sb s K t a j l m C):∃b,eN w c s.aH sb K b/\b.files=K.files/\(∀k,b.aS s.aH k->K.aS s.aH k)/\bX c sb s 0/\Inv c sb s b t a j l m C i N h:=by
 obtain⟨b,g,e,o,p,q,_⟩:=r;exact⟨b,g,e,p,q,u.eA d g (by rw[e]) (by rw[o];exact ai _) rfl u.loose⟩
def ng{w c:J}{a sb:Nat}{K:DK}(d:bR w a K)(b:I (λ_=>False) w c):eN w c a sb K K:=⟨d.ay b (λ_ _=>id),b.mono (λ_ q=>q.elim),λ_ q=>.inl q⟩
def wq{w c:J}{a sb:Nat}{K:DK}(d:bR w a K)(e:¬K.aS a sb)(b:I (λk=>k=sb) w c):eN w c a sb K K:=⟨d.ay b (λ_ q f=>e (f▸q)),b.mono (λ_ q=>.inl (.inr q)),λ_ q=>.inl q⟩
def Ad(w:J)(sb:Nat)(s:SR)(m l o p:aa)(n:Bool)(y:bX w sb s 0)(r:s.closed=true)(u:kK w)(v:0≠sb):Calls prog 59 #[.pointer (some ⟨sb,0,none⟩),.string m,.string l,.agg #[.string o,.string p,.bool n]] w λt a=>∃j,t=.returned (.tuple #[j,.int .i64 6])/\vK w a j []/\bX a sb s 0/\I (λk=>k=sb) w a:=by
 have f:=ak y;refine(AJ w sb s m l [] o p n 6 (λa=>bX a sb s 0/\I (λk=>k=sb) w a) (λi a=>i=s/\bX a sb s 0/\I (λk=>k=sb) w a) (λk=>k=sb) f (λk A=>by omega) (λW q _=>?_) ?_ ?_ ?_ (λ_=>rfl) (by simp)).mono ?_
 ·refine(zN W sb s m l ((q.block sb f id).trans y) r).mono ?_;rintro t a⟨z,g,e,rfl,x,c,b⟩;exact⟨z,g,e,rfl,x,b,c,(q.mono (T:=λk=>k=sb) (λ_ h=>h.elim)).trans b (λ_ h=>.inl h)⟩
 ·rintro x W z⟨c,d⟩b _ _ _;refine(uF W sb s _ false ((b.block sb (ak c) id).trans c) r).mono ?_;rintro t a⟨rfl,e,g⟩;exact⟨rfl,s,e,rfl,g,rfl,e,(d.trans b (λ_ h=>h.elim)).trans g (λ_ h=>.inl h)⟩
 ·rintro i W e⟨rfl,_,d⟩b c;exact⟨rfl,c,d.trans b (λ_ h=>.inl h)⟩
 ·rintro i W⟨_,_,d⟩;exact u.ay d v
 ·rintro t a⟨j,i,rfl,e,_,c,b⟩;exact⟨j,rfl,e,c,b⟩
def Dz(D:J)(sb:Nat)(s:SR)(K:DK)(N:List E)(F G H L:List ar)(O tb ac:Nat)(X:List (List E))(x w e f:aa)(h:Bool)(al:bX D sb s 0)(y:Inv D sb s K N F G H L O tb ac X)(Q:s.closed=false)(hE:kK D)(hg:0≠sb/\¬K.aS s.aH 0)(hz:e.size<=140737488351232/\f.size<=140737488351232)(hC:O+iW [⟨e,f,h⟩]<=1000000)(hN:ac+1<=100000000)(V:(oU x w 0 (N::bZ F G H L)).length<=1000000000):Calls prog 59 #[.pointer (some ⟨sb,0,none⟩),.string x,.string w,.agg #[.string e,.string f,.bool h]] D λad g=>∃C,ad=.returned (.tuple #[C,.int .i64 (eB [⟨e,f,h⟩])])/\vK D g C (oU x w 0 (N::bZ F G H L))/\kC D g sb s 0 K (O+iW [⟨e,f,h⟩]) (ac+1) (ua N (bZ F G H L) ((s.aO:Int)+1) [⟨e,f,h⟩]):=by
 have u:=ak al;refine(AJ D sb s x w _ e f h (eB [⟨e,f,h⟩]) (λg=>∃d,eN D g s.aH sb K d/\(∀A,d.aS s.aH A->K.aS s.aH A)/\bX g sb s 0/\Inv g sb s d N F G H L O tb ac X) (λv g=>∃d q l m n o c b,EW D g sb s 0 K (O+iW [⟨e,f,h⟩]) (ac+1) (ua N (bZ F G H L) ((s.aO:Int)+1) [⟨e,f,h⟩]) v d q l m n o c b) (λA=>K.aS s.aH A\/A=sb) u ?_ (λW hW _=>?_) ?_ ?_ ?_ (λB=>by rw[Q]at B;cases B) V).mono ?_
 ·rintro A(B|B)
  ·exact y.st.aH.lt _ B
  ·omega
 ·have p:=ng (sb:=sb) y.st.aH hW;have j:bX W sb s 0:=(hW.block sb u id).trans al;have i:=y.eA u p rfl (ai _) rfl y.loose;refine(EO W sb s K N F G H L O x w j i.st Q).mono ?_;rintro ad g⟨an,S,R,rfl,U,T⟩;obtain⟨d,k,_,P,t,r⟩:=i.reads (ak j) T;exact⟨an,S,R,rfl,U,k.ay,d,p.trans k,P,t,r⟩
 ·rintro W2 W cb⟨K2,T,P,t,r⟩z S R U;have p:=ng (sb:=sb) r.st.aH z;have j:bX W sb s 0:=(z.block sb (ak t) id).trans t;have i:=r.eA (ak t) p rfl (ai _) rfl r.loose;refine(xY W sb s K2 N F G H L O tb ac X _ [⟨e,f,h⟩] false j i Q S (λA hk=>by cases hk;exact⟨R,U⟩) (λan hx=>by rw[bE]at hx;rw[hx];exact hz) (by simp) hC hN).mono ?_;rintro ad g⟨rfl,v,d,q,l,m,n,o,c,b,a⟩;exact⟨rfl,v,a.box,a.same.2.1,a.eA.ay.mono (λA B=>.inl (B.imp (P A) id)),d,q,l,m,n,o,c,b,a.box,a.inv,a.sL,(T.trans p).trans a.eA,a.same⟩
 ·rintro v W r⟨d,q,l,m,n,o,c,b,a⟩z t;have p:=wq a.inv.st.aH a.inv.st.rf z;have k:eN W r s.aH sb d d:=by rw[<-a.same.1];exact p
  exact⟨d,q,l,m,n,o,c,b,t,a.inv.eA (ak a.box) p rfl (ai _) rfl a.inv.loose,a.sL,a.eA.trans k,a.same⟩
 ·rintro v W⟨d,q,l,m,n,o,c,b,a⟩;exact hE.ay a.eA.ay (λB=>B.elim hg.2 hg.1)
 ·rintro ad g⟨C,v,rfl,r,d,q,l,m,n,o,c,b,a⟩;exact⟨C,rfl,r,v,d,q,l,m,n,o,c,b,a⟩
def Ft(H:J)(sb:Nat)(s:SR)(V:Int)(bg:DK)(m:List E)(B C D F:List ar)(bf tb bh:Nat)(ls:List (List E))(h:bX H sb s V)(d:Inv H sb s bg m B C D F bf tb bh ls)(hN:bh+1<=100000000):Calls prog 54 #[.pointer (some ⟨sb,0,none⟩)] H λq e=>q=.returned .nilIface/\kC H e sb s V bg bf (bh+1) (seen (m::bZ B C D F)):=by
 have O:=ak h;have k3:H.cell? ⟨sb,3,none⟩=some (.int .i64 s.mem):=h.cell rfl;have k8:H.cell? ⟨sb,8,none⟩=some (.int .i64 s.fF):=h.cell rfl;have HH:=Z h;have HV:=Z d;clear h d;go_enter func54,ntmps54
 go_wp2;go_quiet(fail)
 rename_i KK g;show KK _ _;refine g _ _ ?_;clear g;have n:I (λ_=>False) H (H.drewN nq):=(I.refl (λ_=>False) H).of_heap rfl;generalize H.drewN nq=U at n|-;generalize decide (s.mem<=(s.fF:Int))=o;have h:=Y HH;have d:=Y HV;have b:bX U sb s V:=(n.block sb O id).trans h;have j:=ng (sb:=sb) d.st.aH n;have c:=d.eA O j rfl (ai _) rfl d.loose;obtain⟨mx,mc,k⟩:=bA d.st.mem;obtain⟨u,p,P⟩:=bA d.st.l0.row;obtain⟨w,c1,Q⟩:=bA d.st.l1.row;obtain⟨x,c2,R⟩:=bA d.st.l2.row;obtain⟨y,c3,S⟩:=bA d.st.l3.row;have bp:U.cell? ⟨sb,10,none⟩=some (.slice u B.length p):=by rw[<-P];exact b.cell rfl
 have bq:U.cell? ⟨sb,11,none⟩=some (.slice w C.length c1):=by rw[<-Q];exact b.cell rfl
 have br:U.cell? ⟨sb,12,none⟩=some (.slice x D.length c2):=by rw[<-R];exact b.cell rfl
 have bs:U.cell? ⟨sb,13,none⟩=some (.slice y F.length c3):=by rw[<-S];exact b.cell rfl
 have q7:U.cell? ⟨sb,7,none⟩=some (.slice mx m.length mc):=by rw[<-k];exact b.cell rfl
 have q9:U.cell? ⟨sb,9,none⟩=some (.int .u64 s.aO):=b.cell rfl;have bi:∀W,(Instr.index 107 (.agg #[.slice u B.length p,.slice w C.length c1,.slice x D.length c2,.slice y F.length c3]) (.int .i64 0)).run prog W=.ok (.slice u B.length p) W:=λ_=>by kernel_rfl
 have bk:∀W,(Instr.index 107 (.agg #[.slice u B.length p,.slice w C.length c1,.slice x D.length c2,.slice y F.length c3]) (.int .i64 1)).run prog W=.ok (.slice w C.length c1) W:=λ_=>by kernel_rfl
 have bl:∀W,(Instr.index 107 (.agg #[.slice u B.length p,.slice w C.length c1,.slice x D.length c2,.slice y F.length c3]) (.int .i64 2)).run prog W=.ok (.slice x D.length c2) W:=λ_=>by kernel_rfl
 have bn:∀W,(Instr.index 107 (.agg #[.slice u B.length p,.slice w C.length c1,.slice x D.length c2,.slice y F.length c3]) (.int .i64 3)).run prog W=.ok (.slice y F.length c3) W:=λ_=>by kernel_rfl
 have ao:Calls prog 86 #[.pointer (some ⟨sb,0,none⟩),.int .i64 0,.slice u B.length p] U λq e=>q=.returned (.bool (qR s.dw 0 B.length))/\e=U:=nF U sb s V 0 B.length u p b (by omega);have ax:Calls prog 86 #[.pointer (some ⟨sb,0,none⟩),.int .i64 1,.slice w C.length c1] U λq e=>q=.returned (.bool (qR s.dw 1 C.length))/\e=U:=nF U sb s V 1 C.length w c1 b (by omega);have ba:Calls prog 86 #[.pointer (some ⟨sb,0,none⟩),.int .i64 2,.slice x D.length c2] U λq e=>q=.returned (.bool (qR s.dw 2 D.length))/\e=U:=nF U sb s V 2 D.length x c2 b (by omega);have bb:Calls prog 86 #[.pointer (some ⟨sb,0,none⟩),.int .i64 3,.slice y F.length c3] U λq e=>q=.returned (.bool (qR s.dw 3 F.length))/\e=U:=nF U sb s V 3 F.length y c3 b (by omega);have t:∀X,I (λ_=>False) U X->Calls prog 66 #[.pointer (some ⟨sb,0,none⟩),.slice mx m.length mc,.int .u64 s.aO] X λq e=>q=.returned .nilIface/\kC H e sb s V bg bf (bh+1) (seen (m::bZ B C D F)):=λX hX=>by
  have A:=ng (sb:=sb) c.st.aH hX;have a:=c.eA (ak b) A rfl (ai _) rfl c.loose;have N:bX X sb s V:=(hX.block sb (ak b) id).trans b;have z:∀L∈m,(tb:Int)<L.bV/\L.bV<=(tb+ls.length:Nat):=λL r=>by
   rw[a.mem]at r;rcases ko r with ac|ac
   ·cases ac
   ·exact a.lp.pV L ac
  have an:=a.Kl;have bc:m.length<=100:=by
   have h1:=mV [] ls.flatten;rw[<-a.mem]at h1;have h2:=a.lp.sum;simp[jw]at h1;omega
  have bd:=yz X sb s V bg m m (.slice mx m.length mc) B C D F bf bf s.aO tb ls N a.st a.BO a.pr (by rw[<-k];exact a.st.mem) (λac b=>(a.st.rI ac (by rw[k];exact b)).lt) a.st.li a.st.gU bc (λL r=>(z L r).1) (λL r=>by have:=(z L r).2;rw[an];exact this) (by omega) (by have:=a.st.mG;omega) a.st.jU a.MQ.2.2.1 a.nE a.Iw.1 (by have:=a.bn;have:=a.jU;omega) (by have:=a.nx;have:=a.jU;omega) (by have:=a.cY;have:=a.jU;omega);refine bd.mono ?_;rintro q e⟨rfl,v0,v1,v2,v3,K',num,a',b',c',d',G⟩;exact⟨rfl,_,K',[],a',b',c',d',s.aO,[],G.box,G.inv a.MQ a.nx (by have:=a.bn;omega) hN,λac=>by rw[qf];exact G.sL ac,(j.trans A).trans G.eA,rfl,rfl,rfl,rfl⟩
 have al:=Z (show kC H U sb s V bg bf (bh+1) (seen (m::bZ B C D F))from⟨s,bg,m,B,C,D,F,tb,ls,b,c.mono (ai _) c.st.jU (by omega) hN,λ_=>rfl,j,rfl,rfl,rfl,rfl⟩);have K:=Z t;clear h d b j c t k P Q R S n k3 k8;go_wp2;go_loopw [3,20] (λa i wr=>∃(ad:Nat)(o:Bool),ad<=4/\i=.int .i64 ad/\a=.bool o/\wr=U) (λ_ i _=>4-(intOf i).toNat)
 case atStart=>exact⟨0,o,by omega,by go_num,rfl,rfl⟩
 case round=>
  obtain⟨ad,o,hj,rfl,rfl,bo⟩:=hrel;subst wr;have bc:ad=0\/ad=1\/ad=2\/ad=3\/ad=4:=by omega
  rcases bc with rfl|rfl|rfl|rfl|rfl
  ·cases o
   ·go_wp2_with(go_at_call 86;refine ao.mono ?_;rintro q G⟨rfl,hw⟩;subst G)
    go_roundw;case rel=>exact⟨1,_,by omega,by go_num,rfl,trivial⟩
    case measure=>simp[intOf]
   ·go_wp2;go_roundw;case rel=>exact⟨1,_,by omega,by go_num,rfl,trivial⟩
    case measure=>simp[intOf]
  ·cases o
   ·go_wp2_with(go_at_call 86;refine ax.mono ?_;rintro q G⟨rfl,hw⟩;subst G)
    go_roundw;case rel=>exact⟨2,_,by omega,by go_num,rfl,trivial⟩
    case measure=>simp[intOf]
   ·go_wp2;go_roundw;case rel=>exact⟨2,_,by omega,by go_num,rfl,trivial⟩
    case measure=>simp[intOf]
  ·cases o
   ·go_wp2_with(go_at_call 86;refine ba.mono ?_;rintro q G⟨rfl,hw⟩;subst G)
    go_roundw;case rel=>exact⟨3,_,by omega,by go_num,rfl,trivial⟩
    case measure=>simp[intOf]
   ·go_wp2;go_roundw;case rel=>exact⟨3,_,by omega,by go_num,rfl,trivial⟩
    case measure=>simp[intOf]
  ·cases o
   ·go_wp2_with(go_at_call 86;refine bb.mono ?_;rintro q G⟨rfl,hw⟩;subst G)
    go_roundw;case rel=>exact⟨4,_,by omega,by go_num,rfl,trivial⟩
    case measure=>simp[intOf]
   ·go_wp2;go_roundw;case rel=>exact⟨4,_,by omega,by go_num,rfl,trivial⟩
    case measure=>simp[intOf]
  ·cases o
   ·go_wp2;go_ret;exact⟨rfl,Y al⟩
   ·go_wp2_with fail
    rename_i KK g;have a:U.drew.cell? ⟨sb,7,none⟩=some (.slice mx m.length mc)/\U.drew.cell? ⟨sb,9,none⟩=some (.int .u64 s.aO):=⟨q7,q9⟩;refine tX (λ(X:J)=>X.cell? ⟨sb,7,none⟩=some (.slice mx m.length mc)/\X.cell? ⟨sb,9,none⟩=some (.int .u64 s.aO)) 9 (by kernel_rfl) ?_;refine dX (i:=0) (v:=?_) rfl (by omega) (by kernel_rfl) (by kernel_rfl) (by kernel_rfl) (by kernel_rfl) (by kernel_rfl) (λ_ _ _ h=>h) (Or.inl ⟨by rfl,?_⟩) a ?_;rotate_left
    ·rintro X⟨z,A⟩;go_simp;try with_reducible rfl
    simp only[Act.put,ab,ae,af];refine dX (i:=1) (v:=?_) rfl (by omega) (by kernel_rfl) (by kernel_rfl) (by kernel_rfl) (by kernel_rfl) (by kernel_rfl) (λ_ _ _ h=>h) (Or.inl ⟨by rfl,?_⟩) a ?_;rotate_left
    ·rintro X⟨z,A⟩;go_simp;try with_reducible rfl
    simp only[Act.put,ab,ae,af];refine dX (i:=2) (v:=?_) rfl (by omega) (by kernel_rfl) (by kernel_rfl) (by kernel_rfl) (by kernel_rfl) (by kernel_rfl) (λ_ _ _ h=>h) (Or.inl ⟨by rfl,?_⟩) a ?_;rotate_left
    ·rintro X⟨z,A⟩;go_simp;try with_reducible rfl
    simp only[Act.put,ab,ae,af];refine dX (i:=3) (v:=?_) rfl (by omega) (by kernel_rfl) (by kernel_rfl) (by kernel_rfl) (by kernel_rfl) (by kernel_rfl) (λ_ _ _ h=>h) (Or.inl ⟨by rfl,?_⟩) a ?_;rotate_left
    ·rintro X⟨z,A⟩;go_simp;try with_reducible rfl
    simp only[Act.put,ab,ae,af];refine dX (i:=4) (v:=?_) rfl (by omega) (by kernel_rfl) (by kernel_rfl) (by kernel_rfl) (by kernel_rfl) (by kernel_rfl) (λ_ _ _ h=>h) (Or.inl ⟨by rfl,?_⟩) a ?_;rotate_left
    ·rintro X⟨z,A⟩;go_simp;try with_reducible rfl
    simp only[Act.put,ab,ae,af];refine dX (i:=5) (v:=?_) rfl (by omega) (by kernel_rfl) (by kernel_rfl) (by kernel_rfl) (by kernel_rfl) (by kernel_rfl) (λ_ _ _ h=>h) (Or.inl ⟨by rfl,?_⟩) a ?_;rotate_left
    ·rintro X⟨z,A⟩;go_simp;try with_reducible rfl
    simp only[Act.put,ab,ae,af];refine dX (i:=6) (v:=?_) rfl (by omega) (by kernel_rfl) (by kernel_rfl) (by kernel_rfl) (by kernel_rfl) (by kernel_rfl) (λ_ _ _ h=>h) (Or.inl ⟨by rfl,?_⟩) a ?_;rotate_left
    ·rintro X⟨z,A⟩;go_simp;try with_reducible rfl
    simp only[Act.put,ab,ae,af];refine dX (i:=7) (v:=?_) rfl (by omega) (by kernel_rfl) (by kernel_rfl) (by kernel_rfl) (by kernel_rfl) (by kernel_rfl) (λ_ _ _ h=>h) (Or.inl ⟨by rfl,?_⟩) a ?_;rotate_left
    ·rintro X⟨z,A⟩;go_simp;try with_reducible rfl
    simp only[Act.put,ab,ae,af];refine dX (i:=8) (v:=?_) rfl (by omega) (by kernel_rfl) (by kernel_rfl) (by kernel_rfl) (by kernel_rfl) (by kernel_rfl) (λ_ _ _ h=>h) (Or.inl ⟨by rfl,?_⟩) a ?_;rotate_left
    ·rintro X⟨z,A⟩;go_simp;try with_reducible rfl
    simp only[Act.put,ab,ae,af];refine oO (i:=9) rfl rfl (by kernel_rfl) ?_;intro K9 L;go_simp;refine((Y K) U.drew (bS _ U)).mono ?_;rintro q w7⟨rfl,N⟩;have an:=Z N;refine L _ _ (λac=>by omega) ?_;clear N L;try simp only[Act.put,ab,ae,af]
    refine oO (i:=10) rfl rfl (by kernel_rfl) ?_;intro bd r;go_simp;refine r _ _ (λac=>by omega) ?_;refine wK (by kernel_rfl) ?_ _;show KK _ _;refine g _ _ ?_;clear g r;go_wp2;go_ret;exact⟨rfl,Y an⟩
def SR.qi(s:SR)(u0 u1 u2 u3:M)(next log aO:Nat)(a:Bool):SR:={s with l0:=u0,l1:=u1,l2:=u2,l3:=u3,next:=next,log:=log,aO:=aO,ga:=a}
def Nx(cb:J)(sb:Nat)(s:SR)(cc:Int)(next f aO nf:Nat)(eg dx:J->M->M->M->M->Prop)(D:Nat->Prop)(cd:bX cb sb s cc)(bh:∀q,D q->q<cb.heap.size)(bi:¬D sb)(hL:Calls prog 77 #[.pointer (some ⟨s.aH,0,none⟩)] cb λca H=>∃z t r A u c1 B w c2 C x c3,ca=.returned (.tuple #[.agg #[.int .u64 next,.int .u64 f,.int .u64 aO,.slice z t r,.slice A u c1,.slice B w c2,.slice C x c3],.nilIface])/\eg H (.slice z t r) (.slice A u c1) (.slice B w c2) (.slice C x c3)/\I D cb H)(hO:∀W1 dk v0 v1 v2 v3,eg W1 v0 v1 v2 v3->I (λ_=>False) W1 dk->Calls prog 78 #[.pointer (some ⟨s.aH,0,none⟩),.agg #[v0,v1,v2,v3]] dk λca H=>∃z t r A u c1 B w c2 C x c3,ca=.returned (.tuple #[.agg #[.slice z t r,.slice A u c1,.slice B w c2,.slice C x c3],.nilIface])/\dx H (.slice z t r) (.slice A u c1) (.slice B w c2) (.slice C x c3)/\I D dk H)(hS:∀dk u0 u1 u2 u3,dx dk u0 u1 u2 u3->∀W',I (λq=>q=sb) dk W'->dx W' u0 u1 u2 u3/\Calls prog 79 #[.pointer (some ⟨s.aH,0,none⟩)] W' λca H=>∃ej h,ca=.returned (.slice ej nf h)/\I (λ_=>False) W' H):Calls prog 51 #[.pointer (some ⟨sb,0,none⟩)] cb λca H=>ca=.returned .nilIface/\∃u0 u1 u2 u3,bX H sb (s.qi u0 u1 u2 u3 next f aO (decide (0<nf))) cc/\dx H u0 u1 u2 u3/\I (λq=>D q\/q=sb) cb H:=by
 have cM:=ak cd;have k2:cb.cell? ⟨sb,2,none⟩=some (.pointer (some ⟨s.aH,0,none⟩)):=cd.cell rfl;have HH:=Z cd;have HF:=Z bh;have HO:=Z hO;have HS:=Z hS;clear cd bh hO hS;go_enter func51,ntmps51
 go_wp2_with fail
 refine hL.mono ?_;rintro ca b⟨z,t,r,A,u,c1,B,w,c2,C,x,c3,rfl,bn,ax⟩;obtain⟨d,N⟩:∃d,b.alloc (.cells #[.int .u64 next,.int .u64 f,.int .u64 aO,.slice z t r,.slice A u c1,.slice B w c2,.slice C x c3] 155)=d:=⟨_,rfl⟩;have F:I (λ_=>False) b d:=by rw[<-N];exact(I.refl (λ_=>False) b).alloc _
 have c:d.heap[b.heap.size]?=some (.cells #[.int .u64 next,.int .u64 f,.int .u64 aO,.slice z t r,.slice A u c1,.slice B w c2,.slice C x c3] 155 (0,0)):=by rw[<-N];exact az _ rfl
 have ba:I D cb d:=ax.trans F (λ_ h=>h.elim);have E:bX d sb s cc:=(ba.block sb cM bi).trans (Y HH);have ee:=ax.size;have cm:=Z N;have bg:=Z F;have ch:=Z bn;have ck:=Z ba;have L:=Z E;have n:=Z c;clear bn ax ba E c N F hL;go_wp2_with fail
 rw[Y cm];rename_i KK bl;have E:=Y L;have c:=Y n;have bq:d.drew.cell? ⟨sb,2,none⟩=some (.pointer (some ⟨s.aH,0,none⟩))/\d.drew.cell? ⟨b.heap.size,3,none⟩=some (.slice z t r)/\d.drew.cell? ⟨b.heap.size,4,none⟩=some (.slice A u c1)/\d.drew.cell? ⟨b.heap.size,5,none⟩=some (.slice B w c2)/\d.drew.cell? ⟨b.heap.size,6,none⟩=some (.slice C x c3):=⟨E.cell rfl,by show d.cell? _=_;rw[aj c];rfl,by show d.cell? _=_;rw[aj c];rfl,by show d.cell? _=_;rw[aj c];rfl,by show d.cell? _=_;rw[aj c];rfl⟩;clear E c;have cj:=Z (show∀al:J,(∀q,q=sb\/q=b.heap.size->al.heap[q]?=d.heap[q]?)->al.cell? ⟨sb,2,none⟩=some (.pointer (some ⟨s.aH,0,none⟩))/\al.cell? ⟨b.heap.size,3,none⟩=some (.slice z t r)/\al.cell? ⟨b.heap.size,4,none⟩=some (.slice A u c1)/\al.cell? ⟨b.heap.size,5,none⟩=some (.slice B w c2)/\al.cell? ⟨b.heap.size,6,none⟩=some (.slice C x c3)fromλal hX=>by
  have hb:bX al sb s cc:=(hX sb (.inl rfl)).trans (Y L);have hs:=(hX _ (.inr rfl)).trans (Y n);exact⟨hb.cell rfl,by rw[aj hs];rfl,by rw[aj hs];rfl,by rw[aj hs];rfl,by rw[aj hs];rfl⟩)
 refine bM (λ(al:J)=>al.cell? ⟨sb,2,none⟩=some (.pointer (some ⟨s.aH,0,none⟩))/\al.cell? ⟨b.heap.size,3,none⟩=some (.slice z t r)/\al.cell? ⟨b.heap.size,4,none⟩=some (.slice A u c1)/\al.cell? ⟨b.heap.size,5,none⟩=some (.slice B w c2)/\al.cell? ⟨b.heap.size,6,none⟩=some (.slice C x c3)) 14 (by kernel_rfl) ?_;refine cz 0 ?_;iterate 7 (refine cy (v:=?_) bq rfl (by kernel_rfl) (λ_ _ _ cd=>cd) (Or.inl ⟨by rfl,?_⟩) ?_;rotate_left;(focus(rintro al⟨z2,y3,y4,y5,y6⟩;go_simp;try with_reducible rfl));simp only[Act.put,Nat.reduceAdd,ab,ae,af])
 refine dG ?_;refine aI (i:=7) rfl rfl (by kernel_rfl) ?_;intro K7 bk;go_simp;refine((Y HO) b d.drew _ _ _ _ (Y ch) ((Y bg).trans (bS (λ_=>False) d) (λ_ h=>h.elim))).mono ?_;rintro ca y⟨z0,l0,d0,z1,l1,d1,z2,l2,d2,z3,l3,d3,rfl,bo,bx⟩;have o:I D d y:=(bS D d).trans bx (λ_ h=>.inl h);have ds:=ak (Y n);have g:∀q,q=sb\/q=b.heap.size->y.heap[q]?=d.heap[q]?:=λq hq=>o.block q (by have:=ak (Y L);rcases hq with h|h<;>omega) (λh=>by
  rcases hq with ei|ei
  ·exact bi (ei▸h)
  ·have:=(Y HF) q h;omega)
 have an:=(Y cj) y g;refine bk _ _ (λ_=>an) ?_;try simp only[Act.put,ab,ae,af]
 refine cz 8 ?_;iterate 5 (refine cy (v:=?_) an rfl (by kernel_rfl) (λ_ _ _ cd=>cd) (Or.inl ⟨by rfl,?_⟩) ?_;rotate_left;(focus(rintro al⟨z2,y3,y4,y5,y6⟩;go_simp;try with_reducible rfl));simp only[Act.put,Nat.reduceAdd,ab,ae,af])
 refine dG ?_;refine aI (i:=13) rfl rfl (by kernel_rfl) ?_;intro dT V;have k:bX y sb s cc:=(g sb (.inl rfl)).trans (Y L);have fz:∀i,y.frozen? ⟨sb,i,none⟩=false:=λi=>k.free;have cv:y.cell? ⟨sb,10,none⟩=some s.l0:=k.cell rfl;have cx:y.cell? ⟨sb,11,none⟩=some s.l1:=k.cell rfl;have cB:y.cell? ⟨sb,12,none⟩=some s.l2:=k.cell rfl;have cE:y.cell? ⟨sb,13,none⟩=some s.l3:=k.cell rfl;go_simp;obtain⟨e,O⟩:∃e,(((y.setCell ⟨sb,10,none⟩ (.slice z0 l0 d0)).setCell ⟨sb,11,none⟩ (.slice z1 l1 d1)).setCell ⟨sb,12,none⟩ (.slice z2 l2 d2)).setCell ⟨sb,13,none⟩ (.slice z3 l3 d3)=e:=⟨_,rfl⟩;have j:bX e sb {s with l0:=.slice z0 l0 d0,l1:=.slice z1 l1 d1,l2:=.slice z2 l2 d2,l3:=.slice z3 l3 d3} cc:=by
  rw[<-O];exact(aL (aL (aL (aL k)))).trans rfl
 have p:I (λq=>q=sb) y e:=by
  rw[<-O];exact((((I.refl (λq=>q=sb) y).setCell sb 10 _ (.inl rfl)).setCell sb 11 _ (.inl rfl)).setCell sb 12 _ (.inl rfl)).setCell sb 13 _ (.inl rfl)
 have a:e.heap[b.heap.size]?=some (.cells #[.int .u64 next,.int .u64 f,.int .u64 aO,.slice z t r,.slice A u c1,.slice B w c2,.slice C x c3] 155 (0,0)):=(p.block _ (by have:=o.size;omega) (by omega)).trans ((g _ (.inr rfl)).trans (Y n));rw[O];have bp:e.cell? ⟨sb,2,none⟩=some (.pointer (some ⟨s.aH,0,none⟩))/\e.cell? ⟨b.heap.size,3,none⟩=some (.slice z t r)/\e.cell? ⟨b.heap.size,4,none⟩=some (.slice A u c1)/\e.cell? ⟨b.heap.size,5,none⟩=some (.slice B w c2)/\e.cell? ⟨b.heap.size,6,none⟩=some (.slice C x c3):=⟨j.cell rfl,by rw[aj a];rfl,by rw[aj a];rfl,by rw[aj a];rfl,by rw[aj a];rfl⟩;refine V _ _ (λ_=>bp) ?_;try simp only[Act.put,ab,ae,af]
 refine aI (i:=14) rfl rfl (by kernel_rfl) ?_;intro ea W;go_simp;refine W _ _ (λh=>(h rfl).elim) ?_;refine cr (by kernel_rfl) ?_ _;show KK _ _;refine bl _ _ ?_;have s0:e.cell? ⟨b.heap.size,0,none⟩=some (.int .u64 next):=by rw[aj a];rfl
 have s1:e.cell? ⟨b.heap.size,1,none⟩=some (.int .u64 f):=by rw[aj a];rfl
 have s2:e.cell? ⟨b.heap.size,2,none⟩=some (.int .u64 aO):=by rw[aj a];rfl
 have v9:e.cell? ⟨sb,9,none⟩=some (.int .u64 s.aO):=j.cell rfl;have db:e.cell? ⟨sb,14,none⟩=some (.int .u64 s.next):=j.cell rfl;have dc:e.cell? ⟨sb,15,none⟩=some (.int .u64 s.log):=j.cell rfl;have cs:∀i,e.frozen? ⟨sb,i,none⟩=false:=λi=>j.free;have dv:b.heap.size≠sb:=by omega
 have ed:=ak j;have ec:=ak a;have ad:I (λq=>D q\/q=sb) cb e:=(((Y ck).mono (T:=λq=>D q\/q=sb) (λ_ h=>.inl (.inl h))).trans o (λ_ h=>.inl (.inl h))).trans p (λ_ h=>.inl (.inr h));have bf:=Z ((Y HS) y _ _ _ _ bo);have ce:=Z j;have S:=Z p;have cl:=Z ad;clear bl bk V W bp an bq k j p a fz cv cx cB cE g o bx bo O ad k2;go_wp2_with fail
 rename_i cp X;apply Cn cp
 ·intro cT;go_region
  all_goals exact cT
 refine X _ _ ?_;clear X;obtain⟨W6,P⟩:∃W6,(((e.setCell ⟨sb,14,none⟩ (.int .u64 next)).setCell ⟨sb,15,none⟩ (.int .u64 f)).setCell ⟨sb,9,none⟩ (.int .u64 aO)).drew=W6:=⟨_,rfl⟩;have G:I (λq=>q=sb) e W6:=by
  rw[<-P];exact((((I.refl (λq=>q=sb) e).setCell sb 14 _ (.inl rfl)).setCell sb 15 _ (.inl rfl)).setCell sb 9 _ (.inl rfl)).trans (bS (λq=>q=sb) _) (λ_ h=>.inl h)
 have ao:bX W6 sb (s.qi (.slice z0 l0 d0) (.slice z1 l1 d1) (.slice z2 l2 d2) (.slice z3 l3 d3) next f aO s.ga) cc:=by
  rw[<-P];exact Eq.trans (show _=_ from aL (aL (aL (Y ce)))) rfl
 have bt:=(Y bf) W6 ((Y S).trans G (λ_ h=>.inl h));have r2:W6.cell? ⟨sb,2,none⟩=some (.pointer (some ⟨s.aH,0,none⟩)):=ao.cell rfl;have bs:=bt.2;have bc:=Z ao;have U:=Z G;have cn:=Z P;clear ao G P bt s0 s1 s2 v9 db dc cs;rw[Y cn];go_wp2_with fail
 refine bs.mono ?_;rintro ca w7⟨x7,c7,rfl,R⟩;have Q:bX w7 sb (s.qi (.slice z0 l0 d0) (.slice z1 l1 d1) (.slice z2 l2 d2) (.slice z3 l3 d3) next f aO s.ga) cc:=(R.block sb (ak (Y bc)) id).trans (Y bc);have ef:w7.cell? ⟨sb,19,none⟩=some (.bool s.ga):=Q.cell rfl;have eb:w7.frozen? ⟨sb,19,none⟩=false:=Q.free;have bb:I (λq=>q=sb) w7 (w7.setCell ⟨sb,19,none⟩ (.bool (decide (0<nf)))):=(I.refl (λq=>q=sb) w7).setCell sb 19 _ (.inl rfl);have br:bX (w7.setCell ⟨sb,19,none⟩ (.bool (decide (0<nf)))) sb (s.qi (.slice z0 l0 d0) (.slice z1 l1 d1) (.slice z2 l2 d2) (.slice z3 l3 d3) next f aO (decide (0<nf))) cc:=(aL Q).trans rfl;have ac:=(((Y S).trans (Y U) (λ_ h=>.inl h)).trans R (λ_ h=>h.elim)).trans bb (λ_ h=>.inl h);have bv:=((Y bf) _ ac).1;have bT:I (λq=>D q\/q=sb) cb (w7.setCell ⟨sb,19,none⟩ (.bool (decide (0<nf)))):=(((Y cl).trans (Y U) (λ_ h=>.inl (.inr h))).trans R (λ_ h=>h.elim)).trans bb (λ_ h=>.inl (.inr h));have bd:=Z (bj br (bj bv bT));have dn:decide ((0:Int)<(nf:Int))=decide (0<nf):=by simp
 clear Q bb br ac bv bT R bs;go_wp2;go_ret;refine⟨rfl,.slice z0 l0 d0,.slice z1 l1 d1,.slice z2 l2 d2,.slice z3 l3 d3,?_⟩;exact Y bd
def Dn(w:J)(sb:Nat)(s:SR)(z:Int)(K:DK)(r:bX w sb s z)(d:bR w s.aH K)(q:Pow w)(u:s.log<18446744073709551616)(p:cR (vw K.files) (fM s.log)=none):Calls prog 52 #[.pointer (some ⟨sb,0,none⟩)] w λi h=>i=.returned .nilIface/\I (λ_=>False) w h:=by
 have a:=rJ s.log u w q;have y:w.cell? ⟨sb,15,none⟩=some (.int .u64 s.log):=r.cell rfl;have g:∀W,I (λ_=>False) w W->W.cell? ⟨sb,2,none⟩=some (.pointer (some ⟨s.aH,0,none⟩))/\Calls prog 80 #[.pointer (some ⟨s.aH,0,none⟩),.string (fM s.log)] W λi h=>i=.returned (.tuple #[.slice none 0 0,.iface 225 (.pointer (some ⟨W.heap.size,0,none⟩))])/\h=W.alloc (.cells #[.string (fM s.log),.int .i64 10] 227):=λW o=>
  ⟨bX.cell ((o.block sb (ak r) id).trans r) rfl,AF s.aH K (fM s.log) W (d.ay o (λ_ _=>id)) p⟩
 have e:∀(W:J),Calls prog 81 #[.iface 225 (.pointer (some ⟨W.heap.size,0,none⟩)),.iface 55 (.int .i64 10)] (W.alloc (.cells #[.string (fM s.log),.int .i64 10] 227)) λi h=>i=.returned (.bool true)/\h=W.alloc (.cells #[.string (fM s.log),.int .i64 10] 227):=λW=>Hg W.heap.size 10 _ (by
  have:(W.alloc (.cells #[.string (fM s.log),.int .i64 10] 227)).heap[W.heap.size]?=some (.cells #[.string (fM s.log),.int .i64 10] 227 (0,0)):=az _ rfl;rw[aj this];rfl)
 clear r d q p;generalize fM s.log=nm at*;go_enter func52,ntmps52
 go_wp2_with fail
 refine a.mono ?_;rintro i k⟨rfl,c⟩;have b:I (λ_=>False) w k:=I.aR c;obtain⟨A,v⟩:=g k b;have t:=e k;have j:=Z (b.alloc (.cells #[.string nm,.int .i64 10] 227));clear g e b c a;go_wp2_with fail
 refine v.mono ?_;rintro i n⟨rfl,x⟩;subst n;go_wp2_with fail
 refine t.mono ?_;rintro i n⟨rfl,x⟩;subst n;go_wp2;go_ret;exact⟨rfl,Y j⟩
def SR.rG(s:SR)(a:M)(j n:Nat):SR:={s with memory:=a,fF:=n,aO:=s.aO+j}
def Dy(s:SR)(a:s.memory=.slice none 0 0)(b:s.fF=0):s.rG (.slice none 0 0) 0 0=s:=by
 cases s;simp_all[SR.rG]
def CZ{ls:List (List E)}(j:Nat):((ls.take j).map List.length).sum<=(ls.map List.length).sum:=by
 conv=>rhs;rw[<-bF j ls]
 rw[aN,eG];omega
def FC(bn:J)(sb:Nat)(s:SR)(k:Int)(bo:DK)(ls:List (List E))(eq:bX bn sb s k)(ao:bR bn s.aH bo)(V:¬bo.aS s.aH sb)(hp:Pow bn)(hT:Steps bn)(bx:1≠sb/\¬bo.aS s.aH 1)(hl:s.log<18446744073709551616)(ba:CI ((s.aO:Int)+1) ls)(e:cR (vw bo.files) (fM s.log)=some (jq ((s.aO:Int)+1) ls))(cp:0<(jq ((s.aO:Int)+1) ls).length)(ea:(jq ((s.aO:Int)+1) ls).length<=200000)(hm:s.memory=.slice none 0 0)(ce:s.fF=0)(es:s.aO<=1000000000):Calls prog 52 #[.pointer (some ⟨sb,0,none⟩)] bn λbr L=>br=.returned .nilIface/\∃K p,bX L sb {s.rG K ls.length (ls.map List.length).sum with bQ:=true,rq:=false,gT:=true} k/\L.ownsRow bn.heap.size 177 4 K (cq [] ls.flatten).length (aF (cq [] ls.flatten))/\eN bn L s.aH sb bo p/\p.files=bo.files/\p.cY=bo.cY/\(∀k,p.aS s.aH k->bo.aS s.aH k):=by
 have eb:=ak eq;have U:=rJ s.log hl bn hp;have ed:bn.cell? ⟨sb,15,none⟩=some (.int .u64 s.log):=eq.cell rfl;have fk:IntKind.u64.wrap ((s.aO:Int)+1)=(s.aO:Int)+1:=by rw[eZ];omega
 obtain⟨rb,C⟩:∃rb,jq ((s.aO:Int)+1) ls=rb:=⟨_,rfl⟩;have cv:∀W,I (λ_=>False) bn W->W.cell? ⟨sb,2,none⟩=some (.pointer (some ⟨s.aH,0,none⟩))/\Calls prog 80 #[.pointer (some ⟨s.aH,0,none⟩),.string (fM s.log)] W λbr L=>∃j w,br=.returned (.tuple #[.slice (some ⟨j,0,none⟩) rb.length w,.nilIface])/\dq L W.heap.size (.slice (some ⟨j,0,none⟩) rb.length w) rb/\rb.length<=w/\w<=9223372036854775807/\bX L sb s k/\Steps L/\∃p,eN bn L s.aH sb bo p/\p.files=bo.files/\p.cY=bo.cY/\∀k,p.aS s.aH k->bo.aS s.aH k:=λW b=>by
  have a:bX W sb s k:=(b.block sb eb id).trans eq;refine⟨a.cell rfl,?_⟩;refine(Dq s.aH bo (fM s.log) rb W (ao.ay b (λ_ _=>id)) (by rw[<-C];exact e) (by rw[<-C];omega)).mono ?_;rintro br L⟨H,rfl,x,p,hd,e1,e2,e3⟩;have g:=(ng (sb:=sb) ao b).trans (eN.of hd);have d:bX L sb s k:=(hd.ay.block sb (ak a) V).trans a;have c:Steps L:=λeo a=>hd.ay.cell (b.cell (hT eo a) id (cI _ _ (hT eo a))) bx.2 (ah (cI _ _ (hT eo a)) b.size);have r:=x;obtain⟨q1,⟨q2,q0⟩|⟨t,z,A,q2,D,G,h,o,v⟩⟩:=r
  ·rw[C]at cp;omega
  ·subst q2;exact⟨t,z,rfl,x,h,by unfold maxLen at o;omega,d,c,p,g,e1,e2,e3⟩
 have dc:=Z cv;have bq:=Z ba;have ad:=Z C;have HM:=Z (bj hm ce);have en:=ba.sum;clear eq ao hp hT bx e cp ea cv ba C hm ce hl;generalize fM s.log=nm at*;go_enter func52,ntmps52
 go_wp2_with fail
 refine U.mono ?_;rintro br w1⟨rfl,ca⟩;have bg:I (λ_=>False) bn w1:=I.aR ca;obtain⟨k2,hr⟩:=(Y dc) w1 bg;have ev:=bg.size;clear bg ca U;go_wp2_with fail
 refine hr.mono ?_;rintro br w2⟨rx,rc,rfl,B,cc,cd,al,bv,bs⟩;have q9:w2.cell? ⟨sb,9,none⟩=some (.int .u64 s.aO):=al.cell rfl;have ex:w1.heap.size<=rx:=(B.lt rx rfl).1;have bb:=BU rx 0 rc ((s.aO:Int)+1) ls w2 bv (Y bq) (by rw[Y ad];exact cc) cd (B.lt rx rfl).2 (by rw[Y ad];exact dq.bytes B);rw[Y ad]at bb;have cj:=LI 10 w2;have em:=(B.lt rx rfl).2;have bp:=Z al;have cM:=Z bs;clear al bs hr B cc cd bv k2 ed;go_wp2_with fail
 refine cj.mono ?_;rintro br ei⟨rfl,hw⟩;subst ei;go_wp2_with fail
 refine bb.mono ?_;rintro br R⟨x3,c3,X,rfl,bc,an,bh⟩;obtain⟨n,q⟩:∃n,R.alloc (.cells #[.slice x3 ls.length c3,.bool false] 167)=n:=⟨_,rfl⟩;have bi:I (λ_=>False) w2 n:=by rw[<-q];exact bh.alloc _
 have F:I (λ_=>False) R n:=by rw[<-q];exact(I.refl (λ_=>False) R).alloc _
 have ey:=bh.size;have bd:n.heap.size=R.heap.size+1:=by rw[<-q];simp
 have y:n.heap[R.heap.size]?=some (.cells #[.slice x3 ls.length c3,.bool false] 167 (0,0)):=by rw[<-q];exact az _ rfl
 have cb:bX n sb s k:=(bi.block sb (ak (Y bp)) id).trans (Y bp);have bt:Row n 1 (.slice x3 ls.length c3) ls.length X:=cW (F.own bc (λ_ _ w=>w));have bT:∀j(a:j<X.length)(b:j<ls.length),n.ownsRow (w2.heap.size+2) 177 4 X[j] ls[j].length (aF ls[j]):=λj a b=>F.own (an.2 j a b) (λ_ _ w=>w);have S:∀t,(Value.slice x3 ls.length c3).ownBlock=some t->w2.heap.size+2<=t/\t<R.heap.size:=λt e=>bc.lt t e;have ek:n.cell? ⟨R.heap.size,0,none⟩=some (.slice x3 ls.length c3):=by rw[aj y];rfl
 have dv:=Z an.1;have db:=Z bt;have ds:=Z bT;have cE:=Z S;have cT:=Z y;have cB:=Z cb;have dn:=Z bi;have dk:=Z bd;have dx:=Z q;clear bc an bh F y cb bt bT S bi bd bb cj q9 q;go_wp2;rw[Y dx];go_loopw [47] (λi wr=>∃(j:Nat)(K:M),j<=ls.length/\i=.int .i64 j/\bX wr sb (s.rG K j ((ls.take j).map List.length).sum) k/\wr.ownsRow bn.heap.size 177 4 K (cq [] (ls.take j).flatten).length (aF (cq [] (ls.take j).flatten))/\I (λk=>k=sb) n wr) (λi _=>ls.length-(intOf i).toNat)
 case atStart=>
  have br:=Dy s (Y HM).1 (Y HM).2;refine⟨0,.slice none 0 0,aU _,by go_num,?_,bC _ _ _ _,I.refl _ _⟩;show bX n sb (s.rG (.slice none 0 0) 0 0) k;rw[br];exact Y cB
 case round=>
  obtain⟨j,K,hj,rfl,a,c,d⟩:=hrel;have bd:=Y dk;have fb:=d.size;obtain⟨v,A⟩:∃v,s.aO+j=v:=⟨_,rfl⟩;obtain⟨o,h⟩:∃o,((ls.take j).map List.length).sum=o:=⟨_,rfl⟩;have bf:=CZ (ls:=ls) j;have ck:ls.length<=(ls.map List.length).sum:=yu (λl hl=>((Y bq).one l hl).1);have el:ls.length<=31:=by omega
  have ax:(ls.take j).flatten.length=o:=by rw[<-h,jw]
  have P:=mV [] (ls.take j).flatten;rw[ax]at P;rw[h]at bf;obtain⟨mx,mc,cm⟩:=aC c;have ee:wr.cell? ⟨sb,7,none⟩=some K:=a.cell rfl;have ef:wr.cell? ⟨sb,8,none⟩=some (.int .i64 o):=by rw[<-h];exact a.cell rfl
  have eg:wr.cell? ⟨sb,9,none⟩=some (.int .u64 v):=by rw[<-A];exact a.cell rfl
  by_cases z:j<ls.length
  ·have e1:(j:Int)<(ls.length:Int):=by omega
   have e2:(0:Int)<=(j:Int):=by omega
   have cl:j<X.length:=by rw[Y dv];exact z
   have Q:=(Y ds) j cl z;have bk:∀t,X[j].ownBlock=some t->w2.heap.size+2<=t/\t<n.heap.size:=λt e=>Q.lt t e;have cx:=d.own Q (λt e w=>by have:=(bk t e).1;omega);have ch:∃b a,x3=some ⟨b,a,none⟩/\wr.cell? ⟨b,a+j,none⟩=some X[j]:=by
    obtain⟨q1,⟨q2,q0⟩|⟨t,x,ej,q2,eu,hc⟩⟩:=Y db
    ·omega
    ·cases q2;have et:=(Y cE) t rfl;exact⟨t,x,rfl,d.cell (hc j _ (aA cl)) (by omega) (by omega)⟩
   obtain⟨b3,o3,ec,ch⟩:=ch;subst ec;have O:((ls.take (j+1)).map List.length).sum=o+ls[j].length:=by rw[aq z,aN,eG,h];simp
   have D:=CZ (ls:=ls) (j+1);rw[O]at D;have cs:cq (cq [] (ls.take j).flatten) ls[j]=cq [] (ls.take (j+1)).flatten:=by
    rw[aq z,dl,ub];simp
   have bl:=yi K X[j] (cq [] (ls.take j).flatten) ls[j] wr (cW c) (cW cx) (fG.cq dK _) (by simp at P;omega) (λt e=>(c.lt t e).2) (λt e=>by have:=(bk t e).2;omega);rw[cs]at bl;obtain⟨xj,fr,W⟩:=aC Q;obtain⟨N,dT⟩:∃N,ls[j].length=N:=⟨_,rfl⟩;rw[dT]at W O D;generalize X[j]=vj at*;have fd:IntKind.i64.wrap ((o:Int)+(N:Int))=(o:Int)+(N:Int):=by rw[bu];omega
   have fe:IntKind.u64.wrap ((v:Int)+1)=(v:Int)+1:=by rw[eZ];omega
   have HF:=Z (show∀g b,I (λ_=>False) wr g->g.ownsRow wr.heap.size 177 4 b (cq [] (ls.take (j+1)).flatten).length (aF (cq [] (ls.take (j+1)).flatten))->(g.cell? ⟨sb,7,none⟩=some K/\g.cell? ⟨sb,8,none⟩=some (.int .i64 o)/\g.cell? ⟨sb,9,none⟩=some (.int .u64 v)/\∀i,g.frozen? ⟨sb,i,none⟩=false)/\bX (((g.setCell ⟨sb,7,none⟩ b).setCell ⟨sb,8,none⟩ (.int .i64 ((o:Int)+N))).setCell ⟨sb,9,none⟩ (.int .u64 ((v:Int)+1))) sb (s.rG b (j+1) ((ls.take (j+1)).map List.length).sum) k/\(((g.setCell ⟨sb,7,none⟩ b).setCell ⟨sb,8,none⟩ (.int .i64 ((o:Int)+N))).setCell ⟨sb,9,none⟩ (.int .u64 ((v:Int)+1))).ownsRow bn.heap.size 177 4 b (cq [] (ls.take (j+1)).flatten).length (aF (cq [] (ls.take (j+1)).flatten))/\I (λk=>k=sb) n (((g.setCell ⟨sb,7,none⟩ b).setCell ⟨sb,8,none⟩ (.int .i64 ((o:Int)+N))).setCell ⟨sb,9,none⟩ (.int .u64 ((v:Int)+1)))fromλg b G r=>by
    have x:bX g sb (s.rG K j ((ls.take j).map List.length).sum) k:=(G.block sb (ak a) id).trans a;have H:I (λk=>k=sb) g (((g.setCell ⟨sb,7,none⟩ b).setCell ⟨sb,8,none⟩ (.int .i64 ((o:Int)+N))).setCell ⟨sb,9,none⟩ (.int .u64 ((v:Int)+1))):=(((I.refl (λk=>k=sb) g).setCell sb 7 _ (.inl rfl)).setCell sb 8 _ (.inl rfl)).setCell sb 9 _ (.inl rfl);refine⟨⟨x.cell rfl,by rw[<-h];exact x.cell rfl,by rw[<-A];exact x.cell rfl,λi=>x.free⟩,?_,?_,(d.trans G (λ_ w=>w.elim)).trans H (λ_ w=>.inl w)⟩
    ·have hx:=aL (i:=9) (u:=.int .u64 ((v:Int)+1)) (aL (i:=8) (u:=.int .i64 ((o:Int)+N)) (aL (i:=7) (u:=b) x));have e9:((v:Int)+1)=((s.aO+(j+1):Nat):Int):=by rw[<-A];push_cast;omega
     have e8:((o:Int)+N)=((((ls.take (j+1)).map List.length).sum:Nat):Int):=by rw[O];push_cast;omega
     rw[e9,e8]at hx|-;exact hx.trans rfl
    ·exact gI (H.own r (λt e w=>by have:=(r.lt t e).1;have:=ak a;omega)) (by omega))
   clear a c d Q bk cx O D cs P ax bf ck A h;subst cm;subst W;go_wp2_with fail
   refine bl.mono ?_;rintro br g⟨b,rfl,r,G⟩;obtain⟨fn,fl,cn⟩:=aC r;obtain⟨⟨y7,y8,y9,fz⟩,hF⟩:=(Y HF) g b G r;have ac:=Z hF;clear hF G r bl;subst cn;go_wp2;go_roundw;case rel=>exact⟨j+1,_,z,by go_num,(Y ac).1,(Y ac).2.1,(Y ac).2.2⟩
   case measure=>simp[intOf];omega
  ·have e1:¬(j:Int)<(ls.length:Int):=by omega
   have b:j=ls.length:=by omega
   have g:=(d.block _ (by omega) (by omega)).trans (Y cT);have y1:wr.cell? ⟨R.heap.size,1,none⟩=some (.bool false):=by rw[aj g];rfl
   have fz:∀i,wr.frozen? ⟨sb,i,none⟩=false:=λi=>a.free;have ch:wr.cell? ⟨sb,16,none⟩=some (.bool s.bQ):=a.cell rfl;have cl:wr.cell? ⟨sb,17,none⟩=some (.bool s.rq):=a.cell rfl;have cn:wr.cell? ⟨sb,18,none⟩=some (.bool s.gT):=a.cell rfl;have ac:=ak g;have bk:=ak a;have bl:R.heap.size≠sb:=by omega
   have x:=Z a;have G:=Z c;have N:=Z d;have D:=Z b;clear a c d g b bf ck ax P A h ee ef eg cm;go_wp2_with fail
   rename_i KK r;apply Cn KK
   ·intro Q;go_region
    all_goals exact Q
   refine r _ _ ?_;clear r;go_wp2;go_ret;have b:=Y D;subst b;have a:=Y x;have c:=Y G;rw[bD]at a c;obtain⟨p,hd,e3,e4,W⟩:=Y cM;have H:I (λk=>k=sb) wr ((((wr.setCell ⟨sb,16,none⟩ (.bool true)).setCell ⟨sb,17,none⟩ (.bool false)).setCell ⟨sb,18,none⟩ (.bool true)).drew):=((((I.refl (λk=>k=sb) wr).setCell sb 16 _ (.inl rfl)).setCell sb 17 _ (.inl rfl)).setCell sb 18 _ (.inl rfl)).trans (bS _ _) (λ_ w=>.inl w);have O:=(((Y dn).mono (T:=λk=>k=sb) (λ_ w=>w.elim)).trans (Y N) (λ_ w=>.inl w)).trans H (λ_ w=>.inl w);refine⟨rfl,K,p,?_,H.own c (λt e w=>by have:=(c.lt t e).1;omega),hd.trans (wq hd.ok (λeo=>V (W _ eo)) O),e3,e4,W⟩;have hx:=aL (i:=18) (u:=.bool true) (aL (i:=17) (u:=.bool false) (aL (i:=16) (u:=.bool true) a));exact Eq.trans (show _=_ from hx) rfl
end Go.Proofs.YtophdnlmpfmeiaaGreatDoor
