import Derived.Test.YtophdnlmpfmeiaaGreatDoorC24
namespace Go.Proofs.YtophdnlmpfmeiaaGreatDoor
open ChangeShapes WideShapes RowKit Proofs.Tryz
set_option maxHeartbeats 16000000
set_option linter.all false
set_option maxRecDepth 100000
section
open Go.Shelf
attribute [local go_sem] Oper.semAt_some
def tf:(prog.info? 68).map (λi=>(i.zero,i.size,i.bytes))=some (some (.agg #[.string ⟨#[]⟩,.string ⟨#[]⟩]),2,32):=by kernel_rfl
def OK(p:KV):∀u∈lj p,u.oneCell'=true:=by
 intro u a;simp[lj]at a;rcases a with rfl|rfl<;>rfl
def Ge(w:J)(p:KV)(t:TypeId):∀j u,(lj p)[j]?=some u->(w.alloc (.cells #[.string p.1,.string p.2] t)).cell? ((⟨w.heap.size,0,none⟩:Addr).add j)=some u:=by
 intro j u a;rw[ct];have h:(w.alloc (.cells #[.string p.1,.string p.2] t)).heap[w.heap.size]?=some (.cells #[.string p.1,.string p.2] t (0,0)):=az _ rfl;rw[aj h,cw];simpa[lj]using a
def zo(l:List KV)(p:KV):eQ (l++[p])=eQ l++lj p:=by simp[eQ]
def PA(V:gz)(a:J)(b:aa)(limit:Int)(n:Nat)(c:List KV)(B:Nat->Prop)(W:J):Prop:=Acc V.F a [(a.heap.size,.string b,9),(a.heap.size+1,.int .i64 limit,3),(a.heap.size+2,.slice none 0 0,37),(a.heap.size+3,.nilIface,50)] (a.heap.size+4) 37 68 2 (a.heap.size+5) n (eQ c) B W
def IQ(V:gz)(n0:Nat)(w:J)(sb:Nat)(ls:SR)(k:Int)(p0 p1 p2 p3:M×List ar)(bx:List (M×List E))(lo h:aa)(limit:Int)(eu:bX w sb ls k)(mx:Option Addr)(mn mc:Nat)(gv:ls.memory=.slice mx mn mc)(kd:xQ w sb 10 [p0,p1,p2,p3])(ca:bx.map (·.1)=uP ls.memory p0 p1 p2 p3)(le:∀i(h:i<bx.length),jK V n0 bx[i].1 bx[i].2 w)(lc:V.D w)(hg:n0<=w.heap.size)(hF:∀k,V.F k->k<n0)(hm:∀hn∈dt lo (bx.map (·.2)),hn.key.size<=281474976710656/\hn.val.size<=281474976710656)(K:(dt lo (bx.map (·.2))).length<=1000000000):Calls prog 57 #[.pointer (some ⟨sb,0,none⟩),.string lo,.string h,.int .i64 limit] w λbt w'=>∃v',bt=.returned (.tuple #[v',.nilIface])/\w'.ownsRow w.heap.size 68 2 v' (pC h limit [] (((dt lo (bx.map (·.2))).filter (λbt=>!bt.del)).map tR)).length (eQ (pC h limit [] (((dt lo (bx.map (·.2))).filter (λbt=>!bt.del)).map tR)))/\V.D w'/\I V.F w w':=by
 obtain⟨hp,hQ⟩:∃hp,(dt lo (bx.map (·.2))).filter (λbt=>!bt.del)=hp:=⟨_,rfl⟩;rw[hQ];obtain⟨ao,hP⟩:∃ao,pC h limit [] (hp.map tR)=ao:=⟨_,rfl⟩;rw[hP];have cM:=Z hQ;have hA:=Z hP;clear hQ hP;have fz:bx.length<=1000000000:=by
  have K:(mQ p0 p1 p2 p3).length+1=bx.length:=by
   have:=bB List.length ca;simp[uP]at this;omega
  have:=kd.small;rw[<-K];simp[mQ,jm]at this|-;omega
 obtain⟨i0,kc,kv,kx,la⟩:=bK tf;have y:I (λ_=>False) w (((((w.alloc (.cells #[.string h] 9)).alloc (.cells #[.int .i64 limit] 3)).alloc (.cells #[.slice none 0 0] 37)).alloc (.cells #[.nilIface] 50)).alloc (.cells #[.slice none 0 0] 37)):=(((((I.refl (λ_=>False) w).alloc _).alloc _).alloc _).alloc _).alloc _;have bo:(((((w.alloc (.cells #[.string h] 9)).alloc (.cells #[.int .i64 limit] 3)).alloc (.cells #[.slice none 0 0] 37)).alloc (.cells #[.nilIface] 50)).alloc (.cells #[.slice none 0 0] 37)).heap.size=w.heap.size+5:=by simp
 have en:dY (((((w.alloc (.cells #[.string h] 9)).alloc (.cells #[.int .i64 limit] 3)).alloc (.cells #[.slice none 0 0] 37)).alloc (.cells #[.nilIface] 50)).alloc (.cells #[.slice none 0 0] 37)) w.heap.size (.string h) 9:=dY.alloc (dY.alloc (dY.alloc (dY.alloc (az _ rfl) _) _) _) _;have eo:dY (((((w.alloc (.cells #[.string h] 9)).alloc (.cells #[.int .i64 limit] 3)).alloc (.cells #[.slice none 0 0] 37)).alloc (.cells #[.nilIface] 50)).alloc (.cells #[.slice none 0 0] 37)) (w.heap.size+1) (.int .i64 limit) 3:=dY.alloc (dY.alloc (dY.alloc (az _ (by simp)) _) _) _;have s:dY (((((w.alloc (.cells #[.string h] 9)).alloc (.cells #[.int .i64 limit] 3)).alloc (.cells #[.slice none 0 0] 37)).alloc (.cells #[.nilIface] 50)).alloc (.cells #[.slice none 0 0] 37)) (w.heap.size+2) (.slice none 0 0) 37:=dY.alloc (dY.alloc (az _ (by simp)) _) _;have t:dY (((((w.alloc (.cells #[.string h] 9)).alloc (.cells #[.int .i64 limit] 3)).alloc (.cells #[.slice none 0 0] 37)).alloc (.cells #[.nilIface] 50)).alloc (.cells #[.slice none 0 0] 37)) (w.heap.size+3) .nilIface 50:=dY.alloc (az _ (by simp)) _;have eq:dY (((((w.alloc (.cells #[.string h] 9)).alloc (.cells #[.int .i64 limit] 3)).alloc (.cells #[.slice none 0 0] 37)).alloc (.cells #[.nilIface] 50)).alloc (.cells #[.slice none 0 0] 37)) (w.heap.size+4) (.slice none 0 0) 37:=az _ (by simp);obtain⟨W5,hR⟩:∃W5,(((((w.alloc (.cells #[.string h] 9)).alloc (.cells #[.int .i64 limit] 3)).alloc (.cells #[.slice none 0 0] 37)).alloc (.cells #[.nilIface] 50)).alloc (.cells #[.slice none 0 0] 37))=W5:=⟨_,rfl⟩;rw[hR]at y bo en eo s t eq;have he:=Df W5 sb ls k p0 p1 p2 p3 ((y.block sb (ak eu) id).trans eu) mx mn mc gv (kd.ay y id (λ_ _ _ _ d=>d));have eg:(mQ p0 p1 p2 p3).length+1=bx.length:=by
  have:=bB List.length ca;simp[uP]at this;omega
 rw[eg,<-ca]at he;have gA:∀w6 v6,w6.ownsRow W5.heap.size 175 1 v6 bx.length (bx.map (·.1))->I (λ_=>False) W5 w6->Calls prog 92 #[v6,.string lo] w6 λbt w'=>∃v' a,bt=.returned v'/\gy V n0 v' (dt lo (bx.map (·.2))) a w'/\V.D w'/\I V.F w w'/\(∀k,a k->w.heap.size+5<=k)/\I V.F W5 w':=by
  intro w6 v6 U z;have c:I (λ_=>False) w w6:=y.trans z (λ_ d=>d.elim);refine(zb V n0 bx v6 lo w6 (cW U) (λk b=>⟨(U.lt k b).2,λhf=>by have:=hF k hf;have:=(U.lt k b).1;omega⟩) fz (λi h=>(le i h).same (c.same hg (λ_ d=>d.elim) (λ_ d=>d.elim))) (V.dF lc c (λ_ d=>d.elim)) (aB hg c.size) hF).mono ?_;rintro bt w7⟨v7,S7,rfl,ef,Q,br,cb⟩;refine⟨v7,S7,rfl,ef,Q,(c.mono (T:=V.F) (λ_ d=>d.elim)).trans br (λ_ d=>.inl d),λk b=>?_,(z.mono (T:=V.F) (λ_ d=>d.elim)).trans br (λ_ d=>.inl d)⟩;have:=cb k b;have:=z.size;omega
 have hy:=Z gA;have dc:=Z (bj en (bj eo (bj s (bj t (bj eq bo)))));clear gA y bo en eo s t eq;have hJ:=Z hm;have HF:=Z hF;have ey:=Z K;clear eu kd ca le lc gv hm K hF eg;refine(dM (n:=3)).1 ?_;refine callsIn_of_wp_marks func57 rfl trivial ?_ rfl;simp only[ntmps57,gC,aE,cH,Nat.reduceAdd,Nat.reduceSub,fq,fp,gD,fI,cL,dI];gi_wp2_with(refine⟨trivial,?_⟩;gi_at_call 87;refine(dM.2 (he)).mono ?_;rintro bt w6⟨v6,rfl,U,z⟩;obtain⟨x6,c6,ks⟩:=aC U;subst ks;have hz:=Z U;have hH:=Z z;clear U z)
 gi_wp2_with(refine⟨trivial,?_⟩;gi_at_call 92;refine(dM.2 ((Y hy) _ _ (Y hz) (Y hH))).mono ?_;rintro bt w7⟨v7,S7,rfl,ef,Q,br,cb,cv⟩;obtain⟨f7,fe,rfl,gs,hc⟩:=ef;have hx:=Z (show gy V n0 (.func (.func f7) #[] fe) (dt lo (bx.map (·.2))) S7 w7 from⟨f7,fe,rfl,gs,hc⟩);have hs:=Z Q;have hI:=Z br;have hE:=Z cb;have bi:=Z cv;clear Q br cb gs hc cv)
 gi_wp2_with(refine⟨trivial,?_⟩;gi_at_call 91;refine(dM.2 (wW V n0 _ _ S7 w7 (Y hx))).mono ?_;rintro bt w8⟨v8,S8,rfl,kb,R,fL⟩;obtain⟨f8,bk,rfl,gt,C⟩:=kb;have hw:=Z gt;have hD:=Z C;have hr:=Z R;have hG:=Z fL;clear gt C R fL)
 gi_wp2_with(refine⟨trivial,?_⟩;gi_at_call 90;refine(dM.2 (Ew f8 bk w8)).mono ?_;rintro bt w9⟨rfl,mp⟩;subst w9)
 have C:=Y hD;rw[Y cM]at C;have R:=Y hr;have mm:=C.own.size;have hF:∀k,V.F k->k<w.heap.size:=λk b=>by have:=(Y HF) k b;omega
 have kl:I V.F w w8:=(Y hI).trans (I.aR (S:=λ_=>False) R) (λ_ d=>d.elim);have cm:∀k,S8 k->w.heap.size+5<=k:=λk b=>by
  rcases(Y hG) k b with d|d
  ·exact(Y hE) k d
  ·have:=(Y bi).size;have:=(Y dc).2.2.2.2.2;omega
 obtain⟨W9,cc⟩:∃W9,w8.alloc (.cells #[.func (.func f8) #[] bk] 187)=W9:=⟨_,rfl⟩;have an:I (λ_=>False) w8 W9:=by rw[<-cc];exact(I.refl (λ_=>False) w8).alloc _
 have hU:dY W9 w8.heap.size (.func (.func f8) #[] bk) 187:=by rw[<-cc];exact az _ rfl
 have mo:W9.heap.size=w8.heap.size+1:=by rw[<-cc];simp
 have X:I V.F w W9:=kl.trans an (λ_ d=>d.elim);have hi:I V.F W5 W9:=((Y bi).trans (I.aR (S:=λ_=>False) R) (λ_ d=>d.elim)).trans an (λ_ d=>d.elim);have hd:Bo V n0 f8 bk hp S8 W9:=C.same (an.same C.own.size (λk b=>⟨(C.own.each k b).2,λd=>d⟩) (λ_ d=>d.elim));have hN:V.D W9:=V.dF (V.dF (Y hs) (I.aR (S:=λ_=>False) R) (λ_ d=>d.elim)) an (λ_ d=>d.elim);have ll:w.heap.size+5<=w8.heap.size:=by have:=(Y bi).size;have:=(Y dc).2.2.2.2.2;have:=R.size;omega
 have hM:PA V w h limit 0 [] (λk=>k=w.heap.size\/k=w.heap.size+1\/k=w.heap.size+2\/k=w.heap.size+3\/k=w.heap.size+4) W9:=by
  obtain⟨e,f,o,x3,p,bo⟩:=Y dc;have b:∀{a:Nat}{v:M}{t:TypeId},dY W5 a v t->w.heap.size<=a->dY W9 a v t:=λho bb=>(hi.block _ (ak ho) (λd=>by have:=hF _ d;omega)).trans ho;refine⟨?_,⟨.slice none 0 0,b p (by omega),bC _ _ _ _,λk=>by simp[Value.ownBlock];omega⟩,?_,by omega,X⟩
  ·intro u c;simp only[aD,cS,gX]at c;rcases c with rfl|rfl|rfl|rfl
   ·exact b e (by simp)
   ·exact b f (by simp)
   ·exact b o (by simp)
   ·exact b x3 (by simp)
  ·intro u c;simp only[aD,cS,gX]at c;rcases c with rfl|rfl|rfl|rfl<;>simp
 rw[cc];have hP:=Y hA;refine ye (m:=3) (V:=V) (n0:=n0) (gf:=137) (lb:=#[.pointer (some ⟨w8.heap.size,0,none⟩)]) (l:=hp) (S:=λk=>S8 k\/k=w8.heap.size) ?geval (enters_of func137 (by kernel_rfl) rfl) rfl (zC V n0 2 w8.heap.size f8 bk hp S8 W9 hU (Y hw) hd (by omega) (λd=>by have:=(C.own.each _ d).2;omega)) hN (by omega) ?slt (λa cj W=>PA V w h limit a.length (a.map tR) cj W/\(∀x,hp=a++x->ao=pC h limit (a.map tR) (x.map tR))) (λd _ cj W=>d=.exit 0/\PA V w h limit ao.length ao cj W/\V.D W) (λk=>k=w.heap.size\/k=w.heap.size+1\/k=w.heap.size+2\/k=w.heap.size+3\/k=w.heap.size+4) ⟨hM,λx kf=>by rw[<-hP,kf];rfl⟩ ?sb ?lt ?st ?xst ?body ?done ?stop;case geval=>rfl
 case slt=>
  rintro k(d|d)
  ·have:=(hd.own.each k d).2;exact this
  ·omega
 case sb=>
  rintro k(d|d)lp
  ·have:=cm k d;omega
  ·omega
 case lt=>
  rintro a cj W⟨eu,_⟩k b;have:=eu.lt k b;exact⟨by omega,this.2⟩
 case st=>
  rintro a cj W W' T⟨eu,c⟩ht hT;refine⟨eu.stays ht (λk b=>⟨(hT k b).1,?_⟩),c⟩;have:=X.size;rcases(hT k b).2 with(d|d)|d|d
  ·have:=cm k d;exact .inr (by omega)
  ·exact .inr (by omega)
  ·exact .inl d
  ·exact .inr (by omega)
 case xst=>
  rintro d a cj W W' T⟨h1,O,h3⟩ht hT;have:=X.size;exact⟨h1,O.stays ht (λk b=>⟨(hT k b).1,.inr (by have:=(hT k b).2;omega)⟩),V.dF h3 ht (λk b hf=>by have:=(hT k b).2;have:=hF k hf;omega)⟩
 case stop=>
  rintro cB d a cj W hO⟨rfl,B,D⟩P hK;obtain⟨v,hv,j,L⟩:=B.row;have cd:W.cell? ⟨w.heap.size+1+1+1+1,0,none⟩=some v:=hv.cell;have s:=B.fix (w.heap.size+2,.slice none 0 0,37) (by simp);have t:=B.fix (w.heap.size+3,.nilIface,50) (by simp);have hX:W.cell? ⟨w.heap.size+1+1,0,none⟩=some (.slice none 0 0):=s.cell;have iu:W.frozen? ⟨w.heap.size+1+1,0,none⟩=false:=s.free;have hY:W.cell? ⟨w.heap.size+1+1+1,0,none⟩=some .nilIface:=t.cell;have iv:W.frozen? ⟨w.heap.size+1+1+1,0,none⟩=false:=t.free;obtain⟨r,q,bs⟩:=aC j;have dk:=Z s;have dn:=Z t;have HC:=Z B;have HV:=Z hv;have N:=Z j;have ax:=Z L;have bd:=Z D;have HK:=Z hK;clear B hv j L D hK s t;subst bs;gi_wp2;have hB:=Y ax;have B:=Y HC;have n1:cB≠w.heap.size+2:=λd=>P ((hB _).2 (.inl ⟨(w.heap.size+2,.slice none 0 0,37),by simp,d.symm⟩));have n2:cB≠w.heap.size+3:=λd=>P ((hB _).2 (.inl ⟨(w.heap.size+3,.nilIface,50),by simp,d.symm⟩));have n3:¬(Value.slice r ao.length q).ownBlock=some cB:=λd=>P ((hB _).2 (.inr (.inr d)));have dx:((W.setCell ⟨w.heap.size+2,0,none⟩ (.slice r ao.length q)).setCell ⟨w.heap.size+3,0,none⟩ .nilIface).heap[cB]?=some (.deferred (some [])):=by
   rw[eP _ n2,eP _ n1];exact Y HK
  have G:dY ((W.setCell ⟨w.heap.size+2,0,none⟩ (.slice r ao.length q)).setCell ⟨w.heap.size+3,0,none⟩ .nilIface) (w.heap.size+2) (.slice r ao.length q) 37:=((Y dk).set _).other _ (by omega);have H:dY ((W.setCell ⟨w.heap.size+2,0,none⟩ (.slice r ao.length q)).setCell ⟨w.heap.size+3,0,none⟩ .nilIface) (w.heap.size+3) .nilIface 50:=((Y dn).other _ (by omega)).set _;have ac:=dp ((W.setCell ⟨w.heap.size+2,0,none⟩ (.slice r ao.length q)).setCell ⟨w.heap.size+3,0,none⟩ .nilIface) cB (.deferred none);have el:I (λk=>k=w.heap.size+2\/k=w.heap.size+3) W ((W.setCell ⟨w.heap.size+2,0,none⟩ (.slice r ao.length q)).setCell ⟨w.heap.size+3,0,none⟩ .nilIface):=((I.refl (λk=>k=w.heap.size+2\/k=w.heap.size+3) W).setCell _ 0 _ (.inl (.inl rfl))).setCell _ 0 _ (.inl (.inr rfl));have ad:=(el.mono (T:=λk=>k=w.heap.size+2\/k=w.heap.size+3\/k=cB) (λk b=>.inl (b.elim .inl (λd=>.inr (.inl d))))).trans ac (λk b=>.inl (.inr (.inr b)));have bc:∀k,w.heap.size<=k->¬V.F k:=λk b hf=>by have:=hF k hf;omega
  have bb:∀k,(k=w.heap.size+2\/k=w.heap.size+3\/k=cB)->w.heap.size<=k:=by have:=X.size;rintro k(d|d|d)<;>omega
  refine⟨by simp,.inl ⟨_,_,rfl,run_takeDeferred dx,?_⟩⟩;refine⟨_,ul rfl underlying37 _ _ (w.heap.size+2) (w.heap.size+3) (.slice r ao.length q) .nilIface rfl rfl ?_ ?_,?_⟩
  ·exact(dY.cell ((ac.block _ (ak G) (λd=>n1 d.symm)).trans G))
  ·exact(dY.cell ((ac.block _ (ak H) (λd=>n2 d.symm)).trans H))
  ·refine⟨_,rfl,?_,V.dF (Y bd) ad (λk b=>bc k (bb k b)),B.ay.trans ad (λk b=>.inr (bb k b))⟩;have j:=Y N;have kt:=ad.own j (λk b d=>by
    have:=(j.lt k b).1;rcases d with d|d|d
    ·omega
    ·omega
    ·subst d;exact n3 b)
   obtain⟨h1,⟨O,h0⟩|⟨hq,hL,ds,O,ho,g⟩⟩:=kt
   ·exact⟨h1,.inl ⟨O,h0⟩⟩
   ·exact⟨h1,.inr ⟨hq,hL,ds,O,by omega,g⟩⟩
 case body=>
  rintro lr a hn cj W eg fl lg hb⟨B,hcut⟩D;obtain⟨x,g⟩:=hb;have gr:=hcut (hn::x) (by rw[<-g];simp);have K:a.length+1<=1000000000:=by
   have h1:=bB List.length g;have O:=bB List.length (Y cM);have h3:=gY (λbt=>!bt.del) (dt lo (bx.map (·.2)));have u:=Y ey;simp at h1 O;omega
  have es:hn.key.size<=281474976710656/\hn.val.size<=281474976710656:=(Y hJ) hn (by
   have:hn∈(dt lo (bx.map (·.2))).filter (λbt=>!bt.del):=by rw[Y cM,<-g];simp
   exact(eH.1 this).1)
  have ha:a.map tR++[tR hn]=(a++[hn]).map tR:=by simp
  have HC:=Z B;have bd:=Z D;have ex:=Z gr;have cT:=Z g;clear B D gr hcut g;obtain⟨c,f,o,e⟩:=hn;unfold E.value;simp only at es;simp only;gi_wp2;refine⟨(I.refl _ _).alloc _,λA bp=>?_⟩;have bl:PA V w h limit a.length (a.map tR) cj A:=((Y HC).stays ((I.refl (λ_=>False) W).alloc (.cells #[.string c,.string f,.bool o,.int .u64 e] 177)) (λ_ d=>d.elim)).stays bp (λk b=>by subst b;exact⟨fl,.inr (by have:=X.size;omega)⟩);have dv:fX A W.heap.size ⟨c,f,o,e⟩:=fX.ay (az _ rfl) bp (by omega);obtain⟨v,hv,j,L⟩:=bl.row;have hV:A.cell? ⟨w.heap.size,0,none⟩=some (.string h):=(bl.fix (w.heap.size,.string h,9) (by simp)).cell;have hW:A.cell? ⟨w.heap.size+1,0,none⟩=some (.int .i64 limit):=(bl.fix (w.heap.size+1,.int .i64 limit,3) (by simp)).cell;have cd:A.cell? ⟨w.heap.size+4,0,none⟩=some v:=hv.cell;obtain⟨r,q,bs⟩:=aC j;obtain⟨ec,ed,ip,it⟩:=dv.cells;have ev:=Z bl;have HV:=Z hv;have N:=Z j;have ax:=Z L;have fb:=Z bp;have hu:=Z dv;have hh:W.heap.size+1<=A.heap.size:=by have:=bp.size;simp at this;omega
  clear bl dv hv j L bp;subst bs;have ln:=hh;have ch:I (λk=>cj k\/k=lr) W A:=((I.refl (λk=>cj k\/k=lr) W).alloc (.cells #[.string c,.string f,.bool o,.int .u64 e] 177)).trans (Y fb) (λk b=>.inl (.inr b));have bc:∀k,w.heap.size<=k->¬V.F k:=λk b hf=>by have:=hF k hf;omega
  have bT:V.D A:=V.dF (V.dF (Y bd) ((I.refl (λ_=>False) W).alloc _) (λ_ d=>d.elim)) (Y fb) (λk b=>by subst b;exact bc _ (by have:=X.size;omega));by_cases p:(!(h.toList==[])&&!ep c h)=true
  ·have F:ao=a.map tR:=by
    rw[Y ex,aY,pC];exact dr p
   have gi:(h.toList==[])=false:=by cases h1:(h.toList==[])<;>simp[h1]at p|-
   have ea:ep c h=false:=by cases O:ep c h<;>simp[O]at p|-
   unfold ep at ea;have db:=Z ch;have cE:=Z bT;have bf:=Z F;clear ch bT F p;gi_wp2;refine⟨cj,⟨rfl,?_,Y cE⟩,Y db,rfl,λk b=>.inl b⟩;rw[Y bf,bW];exact Y ev
  ·have ei:(h.toList==[])=true\/((h.toList==[])=false/\ep c h=true):=by
    cases h1:(h.toList==[])<;>cases O:ep c h<;>simp[h1,O]at p|-
   have cn:ao=if((a.length:Int)+1==limit)=true then a.map tR++[tR ⟨c,f,o,e⟩]else pC h limit (a.map tR++[tR ⟨c,f,o,e⟩]) (x.map tR):=by
    rw[Y ex,aY,pC,bW];exact dd p
   have ck:=Z cn;have al:=ak (Y hu);have cs:=ak (Y HV);have ba:A.drew.cell? ⟨w.heap.size+1+1+1+1,0,none⟩=some (.slice r a.length q)/\A.drew.cell? ⟨W.heap.size,0,none⟩=some (.string c)/\A.drew.cell? ⟨W.heap.size,1,none⟩=some (.string f):=⟨cd,ec,ed⟩;have bh:=Z (show∀fd,I (λ_=>False) A fd->fd.cell? ⟨w.heap.size+1+1+1+1,0,none⟩=some (.slice r a.length q)/\fd.cell? ⟨W.heap.size,0,none⟩=some (.string c)/\fd.cell? ⟨W.heap.size,1,none⟩=some (.string f)fromλfd b=>⟨b.cell ba.1 id cs,b.cell ba.2.1 id al,b.cell ba.2.2 id al⟩);have ih:=λW=>qY c W es.1;have gn:=λW=>qY f W es.2;have hS:w.heap.size+5<=A.heap.size:=by omega
   have db:=Z ch;have cE:=Z bT;clear ch bT p cn;rcases ei with gi|⟨gi,ea⟩;case' inl=>gi_wp2_with fail
   case' inr=>unfold ep at ea;gi_wp2_with fail
   all_goals
    rename_i QQ KK fx;refine uH (λfd=>fd.cell? ⟨w.heap.size+1+1+1+1,0,none⟩=some (.slice r a.length q)/\fd.cell? ⟨W.heap.size,0,none⟩=some (.string c)/\fd.cell? ⟨W.heap.size,1,none⟩=some (.string f)) 10 (by kernel_rfl) (by kernel_rfl) (λms w eu=>eu) ?_;refine cz 0 ?_;iterate 3 (refine cy (v:=?_) ba rfl (by kernel_rfl) (λ_ _ _ eu=>eu) (Or.inl ⟨by rfl,?_⟩) ?_;rotate_left;(focus(rintro fd⟨z0,z1,z2⟩;go_simp;try with_reducible rfl));simp only[Act.put,Nat.reduceAdd,ab,ae,af])
    refine dG ?_;refine cz 4 ?_;iterate 2 (refine cy (v:=?_) ba rfl (by kernel_rfl) (λ_ _ _ eu=>eu) (Or.inl ⟨by rfl,?_⟩) ?_;rotate_left;(focus(rintro fd⟨z0,z1,z2⟩;go_simp;try with_reducible rfl));simp only[Act.put,Nat.reduceAdd,ab,ae,af])
    refine dG ?_;refine aI (i:=3) rfl rfl (by kernel_rfl) ?_;intro K3 fn;go_simp;refine(ih _).mono ?_;rintro bt w4⟨rfl,gj⟩;have ek:I (λ_=>False) A w4:=(bS (λ_=>False) A).trans (I.aR (S:=λ_=>False) gj) (λ_ d=>d.elim);refine fn _ _ (λ_=>(Y bh) w4 ek) ?_;try simp only[Act.put,ab,ae,af]
    refine aI (i:=6) rfl rfl (by kernel_rfl) ?_;intro K6 fr;go_simp;refine(gn _).mono ?_;rintro bt w5⟨rfl,gk⟩;have y:I (λ_=>False) A w5:=ek.trans (I.aR (S:=λ_=>False) gk) (λ_ d=>d.elim);refine fr _ _ (λ_=>(Y bh) w5 y) ?_;try simp only[Act.put,ab,ae,af]
    refine aI (i:=7) rfl rfl (by kernel_rfl) ?_;intro K7 fs;go_simp;refine fs _ _ (λ_=>(Y bh) w5 y) ?_;try simp only[Act.put,ab,ae,af]
    refine aI (i:=8) rfl rfl (by kernel_rfl) ?_;intro K8 fu;go_simp;have z:=y.alloc (.cells #[.string c,.string f] 68);refine fu _ _ (λ_=>(Y bh) _ z) ?_;try simp only[Act.put,ab,ae,af]
    have bo:=y.size;refine aI (i:=9) rfl rfl (by kernel_rfl) ?_;intro K9 fv;simp only[av,am,ap];refine ix (.tmp 33) (.tmp 41) 37 rfl (w.heap.size+5) 68 i0 (.agg #[.string ⟨#[]⟩,.string ⟨#[]⟩]) 2 32 underlying37 kc kv kx la rfl (by decide) (.slice r a.length q) a.length (eQ (a.map tR)) rfl (z.own (Y N) (λ_ _ d=>d)) ⟨w5.heap.size,0,none⟩ 1 1 (lj (tR ⟨c,f,o,e⟩)) rfl rfl (Ge _ (tR ⟨c,f,o,e⟩) _) (OK _) (by omega) (by omega) (by simp;omega) ?_;intro v3 w3 ej em;obtain⟨x3,c3,kq⟩:=aC ej;subst kq;have bq:I (λk=>(Value.slice r a.length q).ownBlock=some k) A w3:=(z.mono (T:=λk=>(Value.slice r a.length q).ownBlock=some k) (λ_ d=>d.elim)).trans (I.bz (S:=λk=>(Value.slice r a.length q).ownBlock=some k) em.grown (λk b=>.inl b)) (λk b=>.inl b);have eb:dY w3 (w.heap.size+4) (.slice r a.length q) 37:=(bq.block _ cs (λd=>by have:=((Y N).lt _ d).1;omega)).trans (Y HV);have ee:¬(Value.slice r a.length q).ownBlock=some W.heap.size:=λd=>by have:=((Y HC).lt _ (((Y ax) _).2 (.inr (.inr d)))).2;omega
    have dT:w3.cell? ⟨w.heap.size+1+1+1+1,0,none⟩=some (.slice r a.length q)/\w3.cell? ⟨W.heap.size,0,none⟩=some (.string c)/\w3.cell? ⟨W.heap.size,1,none⟩=some (.string f):=⟨eb.cell,bq.cell ec ee al,bq.cell ed ee al⟩;refine fv _ _ (λ_=>dT) ?_;simp only[Act.put,ab,ae,af];refine aI (i:=10) rfl rfl (by kernel_rfl) ?_;intro lv cl;have il:=dT.1;have ka:w3.frozen? ⟨w.heap.size+1+1+1+1,0,none⟩=false:=eb.free;go_simp;refine cl _ _ (λd=>(d rfl).elim) ?_;refine cr (by kernel_rfl) ?_ _;show KK _ _;refine fx _ _ ?_;have ge:(Value.slice x3 (a.length+1) c3).ownBlock=(Value.slice r a.length q).ownBlock\/∃hq,(Value.slice x3 (a.length+1) c3).ownBlock=some hq/\A.heap.size<=hq:=by
     rcases em.sr with lp|⟨hq,lp,md⟩
     ·exact .inl lp
     ·exact .inr ⟨hq,lp,by simp at md;omega⟩
    obtain⟨B',q1,q2,q3⟩:=(Y ev).more (Y HV) (Y ax) (Y N) bq ge ej;have bg:Hid (PA V w h limit (a.length+1) (a.map tR++[tR ⟨c,f,o,e⟩]) B' (w3.setCell ⟨w.heap.size+1+1+1+1,0,none⟩ (.slice x3 (a.length+1) c3))):=Z (by unfold PA;rw[zo];exact q1);have bv:Hid (I cj A (w3.setCell ⟨w.heap.size+1+1+1+1,0,none⟩ (.slice x3 (a.length+1) c3))):=Z q2;have hC:=Z q3;clear q1 q2 q3 fx fn fr fs fu fv cl bq eb dT il ka ej em ge ee ek y z gj gk ba bh;obtain⟨W7,gc⟩:∃W7,w3.setCell ⟨w.heap.size+1+1+1+1,0,none⟩ (.slice x3 (a.length+1) c3)=W7:=⟨_,rfl⟩;rw[gc]at bg bv|-;clear gc;obtain⟨v7,hj,cx,hk⟩:=(Y bg).row;obtain⟨x7,c7,hl⟩:=aC cx;subst hl;have lx:W7.cell? ⟨w.heap.size+1+1+1+1,0,none⟩=some (.slice x7 (a.length+1) c7):=hj.cell;have mb:W7.cell? ⟨w.heap.size+1,0,none⟩=some (.int .i64 limit):=((Y bg).fix (w.heap.size+1,.int .i64 limit,3) (by simp)).cell;have Q:V.D W7:=V.dF (Y cE) (Y bv) (λk b=>bc k ((Y HC).lt k b).1);have gb:I (λk=>cj k\/k=lr) W W7:=(Y db).trans (Y bv) (λk b=>.inl (.inl b));have cp:W7.heap[lr]?=A.heap[lr]?:=(Y bv).block lr (by omega) fl;have fk:∀k,B' k->cj k\/W.heap.size<=k:=λk b=>((Y hC) k b).imp_right (λd=>by omega);have u:=Z (bj Q (bj gb (bj cp fk)));clear Q gb cp fk hj cx hk hV hW cd ec ed ip it;by_cases bn:(a.length:Int)+1=limit
    ·have ce:((a.length:Int)+1==limit)=true:=by simpa using bn
     have F:ao=a.map tR++[tR ⟨c,f,o,e⟩]:=by rw[Y ck];exact dr ce
     have bf:=Z F;clear F;gi_wp2;refine⟨B',⟨rfl,?_,(Y u).1⟩,(Y u).2.1,(Y u).2.2.1,(Y u).2.2.2⟩;rw[Y bf,ag,bW];exact Y bg
    ·have ce:¬((a.length:Int)+1==limit)=true:=by simpa using bn
     have F:ao=pC h limit (a.map tR++[tR ⟨c,f,o,e⟩]) (x.map tR):=by rw[Y ck];exact dd ce
     have bf:=Z F;have mg:((a.length:Int)+1==limit)=false:=by simpa using bn
     clear F ce;gi_wp2;refine⟨(Y u).1,B',⟨?_,λet kf=>?_⟩,(Y u).2.1,(Y u).2.2.1,(Y u).2.2.2⟩
     ·rw[ag,<-ha];exact Y bg
     ·have kk:x=et:=by
       have:=Y cT;rw[kf]at this;exact List.append_cancel_left this
      rw[<-kk,<-ha];exact Y bf
 case done=>
  rintro cB cj W hO⟨B,hcut⟩P D hK;have c:ao=hp.map tR:=by rw[hcut [] (by simp)];rfl
  have B:PA V w h limit ao.length ao cj W:=by rw[c,bW];exact B
  clear c hcut;obtain⟨v,hv,j,L⟩:=B.row;have cd:W.cell? ⟨w.heap.size+1+1+1+1,0,none⟩=some v:=hv.cell;have s:=B.fix (w.heap.size+2,.slice none 0 0,37) (by simp);have t:=B.fix (w.heap.size+3,.nilIface,50) (by simp);have hX:W.cell? ⟨w.heap.size+1+1,0,none⟩=some (.slice none 0 0):=s.cell;have iu:W.frozen? ⟨w.heap.size+1+1,0,none⟩=false:=s.free;have hY:W.cell? ⟨w.heap.size+1+1+1,0,none⟩=some .nilIface:=t.cell;have iv:W.frozen? ⟨w.heap.size+1+1+1,0,none⟩=false:=t.free;obtain⟨r,q,bs⟩:=aC j;have dk:=Z s;have dn:=Z t;have HC:=Z B;have HV:=Z hv;have N:=Z j;have ax:=Z L;have bd:=Z D;have HK:=Z hK;clear B hv j L D hK s t;subst bs;gi_wp2;have hB:=Y ax;have B:=Y HC;have n1:cB≠w.heap.size+2:=λd=>P ((hB _).2 (.inl ⟨(w.heap.size+2,.slice none 0 0,37),by simp,d.symm⟩));have n2:cB≠w.heap.size+3:=λd=>P ((hB _).2 (.inl ⟨(w.heap.size+3,.nilIface,50),by simp,d.symm⟩));have n3:¬(Value.slice r ao.length q).ownBlock=some cB:=λd=>P ((hB _).2 (.inr (.inr d)));have dx:((W.setCell ⟨w.heap.size+2,0,none⟩ (.slice r ao.length q)).setCell ⟨w.heap.size+3,0,none⟩ .nilIface).heap[cB]?=some (.deferred (some [])):=by
   rw[eP _ n2,eP _ n1];exact Y HK
  have G:dY ((W.setCell ⟨w.heap.size+2,0,none⟩ (.slice r ao.length q)).setCell ⟨w.heap.size+3,0,none⟩ .nilIface) (w.heap.size+2) (.slice r ao.length q) 37:=((Y dk).set _).other _ (by omega);have H:dY ((W.setCell ⟨w.heap.size+2,0,none⟩ (.slice r ao.length q)).setCell ⟨w.heap.size+3,0,none⟩ .nilIface) (w.heap.size+3) .nilIface 50:=((Y dn).other _ (by omega)).set _;have ac:=dp ((W.setCell ⟨w.heap.size+2,0,none⟩ (.slice r ao.length q)).setCell ⟨w.heap.size+3,0,none⟩ .nilIface) cB (.deferred none);have el:I (λk=>k=w.heap.size+2\/k=w.heap.size+3) W ((W.setCell ⟨w.heap.size+2,0,none⟩ (.slice r ao.length q)).setCell ⟨w.heap.size+3,0,none⟩ .nilIface):=((I.refl (λk=>k=w.heap.size+2\/k=w.heap.size+3) W).setCell _ 0 _ (.inl (.inl rfl))).setCell _ 0 _ (.inl (.inr rfl));have ad:=(el.mono (T:=λk=>k=w.heap.size+2\/k=w.heap.size+3\/k=cB) (λk b=>.inl (b.elim .inl (λd=>.inr (.inl d))))).trans ac (λk b=>.inl (.inr (.inr b)));have bc:∀k,w.heap.size<=k->¬V.F k:=λk b hf=>by have:=hF k hf;omega
  have bb:∀k,(k=w.heap.size+2\/k=w.heap.size+3\/k=cB)->w.heap.size<=k:=by have:=X.size;rintro k(d|d|d)<;>omega
  refine⟨by simp,.inl ⟨_,_,rfl,run_takeDeferred dx,?_⟩⟩;refine⟨_,ul rfl underlying37 _ _ (w.heap.size+2) (w.heap.size+3) (.slice r ao.length q) .nilIface rfl rfl ?_ ?_,?_⟩
  ·exact(dY.cell ((ac.block _ (ak G) (λd=>n1 d.symm)).trans G))
  ·exact(dY.cell ((ac.block _ (ak H) (λd=>n2 d.symm)).trans H))
  ·refine⟨_,rfl,?_,V.dF (Y bd) ad (λk b=>bc k (bb k b)),B.ay.trans ad (λk b=>.inr (bb k b))⟩;have j:=Y N;have kt:=ad.own j (λk b d=>by
    have:=(j.lt k b).1;rcases d with d|d|d
    ·omega
    ·omega
    ·subst d;exact n3 b)
   obtain⟨h1,⟨O,h0⟩|⟨hq,hL,ds,O,ho,g⟩⟩:=kt
   ·exact⟨h1,.inl ⟨O,h0⟩⟩
   ·exact⟨h1,.inr ⟨hq,hL,ds,O,by omega,g⟩⟩
end
end Go.Proofs.YtophdnlmpfmeiaaGreatDoor
