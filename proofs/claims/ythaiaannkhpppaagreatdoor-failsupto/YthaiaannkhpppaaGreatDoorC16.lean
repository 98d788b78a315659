import Derived.Test.YthaiaannkhpppaaGreatDoorC13
open _root_ renaming Option.some→H,Array.size→z,Go.World.heap→G,Go.World.cell?→aW,Go.World.setCell→cq,Go.World.alloc→cN,Bool.false→aX,Bool.true→ci,Nat→M,Int→X,Go.Calls→cY,Go.Proofs.Tryz.prog→aZ,Go.Value.slice→I,Go.Value.string→am,Go.Value.bool→aN,Go.Value.tuple→dq
namespace Go.Proofs.YthaiaannkhpppaaGreatDoor
open ChangeShapes WideShapes RowKit Proofs.Tryz
set_option maxHeartbeats 16000000
set_option linter.all false
set_option maxRecDepth 100000
variable{a f A:Y}{b:M}{k N:X}{o:SR}{p:eV}
section
open Conc.Locks
def Ym{b q:M}(e:lQ f b o 1 q)(g:Z (λk=>k=b) a f)(d:Below (z<|G f) f A):aW A (R b 0)=H (jN 1)/\A.frozen? (R b 0)=aX/\lQ (cq A (R b 0)<|jN 0) b o 0 q/\Z (λk=>k=b) a (cq A (R b 0)<|jN 0):=by
 have c:lQ A b o 1 q:=e.aj (Z.aR (S:=ay) d) id;exact⟨c.cellAt 0 rfl,c.free,c.lB 0,(g.trans (Z.aR (S:=λk=>k=b) d)<|λ_ e=>.inl e).setCell b 0 _<|.inl rfl⟩
structure QG(w w':Y)(sb:M)(s:SR)(q:M)(c:X)(q':M):Prop where
 err:lP w' q' c
 zn:lP w' q c
 box:lQ w' sb s 0 q
 aj:Z (λk=>k=sb) w w'
def Cb{b q:M}(t:lQ a b o 0 q)(v:o.closed=aX)(e:lP a q k)(w:kB a)(i:b≠0):cY aZ 31 #[aA b] (cq a (R b 0)<|jN 1) λp c=>∃f,p=aM (eD f)/\aW c (R b 0)=H (jN 1)/\c.frozen? (R b 0)=aX/\QG a (cq c (R b 0)<|jN 0) b o q k f:=by
 have l:Z (λc=>c=b) a (cq a (R b 0)<|jN 1):=gZ b a;have g:=t.lB 1;have j:=e.aj l<|e.qg (sbqq:=b) t;refine(Lf g v j<|w.aj l<|λp=>i p.symm).mono ?_;rintro p c⟨f,rfl,d,n⟩;obtain⟨r,s,u,m⟩:=Ym g l n;have h:lQ c b o 1 q:=g.aj (Z.aR (S:=ay) n) id;exact⟨f,rfl,r,s,d.aj (gZ b c)<|d.qg (sbqq:=b) h,e.aj m<|e.qg (sbqq:=b) t,u,m⟩
def Yk{b q:M}(j:ae)(h:lQ a b o 0 q)(l:o.closed=aX)(n:lP a q k)(m:kB a)(e:b≠0):cY aZ 14 #[aA b,am j] a λr p=>∃i,r=aM (dq #[am ⟨#[]⟩,aN aX,eD i])/\QG a p b o q k i:=by
 have s:=h.cellAt 0 rfl;have u:a.frozen? (R b 0)=aX:=h.free;have g:=Cb h l n m e;clear h l n m e;go_enter_defers func14,ntmps14
 go_wp2_with fail
 apply(lock_free (R b 0) _ s u).mono;rintro r p⟨rfl,rfl⟩;go_wp2_with fail
 apply g.mono;rintro r x⟨i,rfl,t,v,c⟩;have d:=U c;clear c g;go_wp2;refine gN (f:=30) (args:=#[aA b]) (by simp) (by simp[go_sem]) ?_;apply(unlock_deferred (R b 0) .returning _ t v).mono;rintro r A w⟨rfl,rfl,rfl⟩;exact⟨_,og rfl _ _ _,i,rfl,d⟩
def QJ{b q:M}(t:ab)(i:Bool)(h:lQ a b o 0 q)(l:o.closed=aX)(n:lP a q k)(m:kB a)(e:b≠0):cY aZ 12 #[aA b,t,aN i] a λr p=>∃j,r=aM (eD j)/\QG a p b o q k j:=by
 have s:=h.cellAt 0 rfl;have v:a.frozen? (R b 0)=aX:=h.free;have g:=Cb h l n m e;clear h l n m e;go_enter_defers func12,ntmps12
 go_wp2_with fail
 apply(lock_free (R b 0) _ s v).mono;rintro r p⟨rfl,rfl⟩;go_wp2_with fail
 apply g.mono;rintro r A⟨j,rfl,u,w,c⟩;have d:=U c;clear c g;go_wp2;refine gN (f:=30) (args:=#[aA b]) (by simp) (by simp[go_sem]) ?_;apply(unlock_deferred (R b 0) .returning _ u w).mono;rintro r B x⟨rfl,rfl,rfl⟩;exact⟨_,iw rfl _ _ _,j,rfl,d⟩
def UA{b q:M}(x w:ae)(c:X)(h:lQ a b o 0 q)(l:o.closed=aX)(n:lP a q k)(m:kB a)(g:b≠0):cY aZ 38 #[aA b,am x,am w,ar c] a λr p=>∃j,r=aM (dq #[az,eD j])/\QG a p b o q k j:=by
 have s:=h.cellAt 0 rfl;have u:a.frozen? (R b 0)=aX:=h.free;have i:=Cb h l n m g;clear h l n m g;go_enter_defers func38,ntmps38
 go_wp2_with fail
 apply(lock_free (R b 0) _ s u).mono;rintro r p⟨rfl,rfl⟩;go_wp2_with fail
 apply i.mono;rintro r B⟨j,rfl,t,v,d⟩;have e:=U d;clear d i;go_wp2;refine gN (f:=30) (args:=#[aA b]) (by simp) (by simp[go_sem]) ?_;apply(unlock_deferred (R b 0) .returning _ t v).mono;rintro r C A⟨rfl,rfl,rfl⟩;exact⟨_,pK rfl _ _ _,j,rfl,e⟩
def IL{b q:M}(h:lQ a b o 0 q)(j:o.closed=aX)(m:lP a q k)(l:kB a)(e:b≠0):cY aZ 46 #[aA b] a λp n=>∃i,p=aM (dq #[ar 0,eD i])/\QG a n b o q k i:=by
 have r:=h.cellAt 0 rfl;have t:a.frozen? (R b 0)=aX:=h.free;have g:=Cb h j m l e;clear h j m l e;go_enter_defers func46,ntmps46
 go_wp2_with fail
 apply(lock_free (R b 0) _ r t).mono;rintro p n⟨rfl,rfl⟩;go_wp2_with fail
 apply g.mono;rintro p w⟨i,rfl,s,u,c⟩;have d:=U c;clear c g;go_wp2;refine gN (f:=30) (args:=#[aA b]) (by simp) (by simp[go_sem]) ?_;apply(unlock_deferred (R b 0) .returning _ s u).mono;rintro p x v⟨rfl,rfl,rfl⟩;exact⟨_,pK rfl _ _ _,i,rfl,d⟩
def Rn{b q:M}(h:lQ a b o 0 q)(j:o.closed=aX)(m:lP a q k)(l:kB a)(e:b≠0):cY aZ 47 #[aA b] a λp n=>∃i,p=aM (dq #[az,eD i])/\QG a n b o q k i:=by
 have r:=h.cellAt 0 rfl;have t:a.frozen? (R b 0)=aX:=h.free;have g:=Cb h j m l e;clear h j m l e;go_enter_defers func47,ntmps47
 go_wp2_with fail
 apply(lock_free (R b 0) _ r t).mono;rintro p n⟨rfl,rfl⟩;go_wp2_with fail
 apply g.mono;rintro p w⟨i,rfl,s,u,c⟩;have d:=U c;clear c g;go_wp2;refine gN (f:=30) (args:=#[aA b]) (by simp) (by simp[go_sem]) ?_;apply(unlock_deferred (R b 0) .returning _ s u).mono;rintro p x v⟨rfl,rfl,rfl⟩;exact⟨_,pK rfl _ _ _,i,rfl,d⟩
def Io{b q:M}(h:lQ a b o 0 q)(e:o.closed=ci):cY aZ 23 #[aA b] a λk d=>k=aM (ui 6)/\lQ d b o 0 q/\Z (λn=>n=b) a d:=by
 have i:=h.cellAt 0 rfl;have l:a.frozen? (R b 0)=aX:=h.free;have c:=h.lB 1;have c5:aW (cq a (R b 0)<|jN 1) (R b 5)=H (aN ci):=by rw[<-e];exact c.cellAt 5 rfl
 have j:=c.cellAt 0 rfl;have m:(cq a (R b 0)<|jN 1).frozen? (R b 0)=aX:=c.free;have g:=U<|show lQ (cq (cq a (R b 0)<|jN 1) (R b 0)<|jN 0) b o 0 q/\Z (λn=>n=b) a (cq (cq a (R b 0)<|jN 1) (R b 0)<|jN 0)from⟨c.lB 0,(gZ b a).setCell b 0 _<|.inl rfl⟩;clear h c e;go_enter_defers func23,ntmps23
 go_wp2_with(go_at_call 29;refine(lock_free (R b 0) _ i l).mono ?_;rintro k d⟨rfl,rfl⟩)
 refine gN (f:=30) (args:=#[aA b]) (by simp) (by simp[go_sem]) ?_;apply(unlock_deferred (R b 0) .returning _ j m).mono;rintro k r p⟨rfl,rfl,rfl⟩;exact⟨_,iw rfl _ _ _,rfl,g⟩
end
section
open Conc.Locks
def TG{b q:M}(h:lQ a b o 0 q)(A:o.closed=aX)(v:lP a q k):cY aZ 23 #[aA b] a λP r=>P=aM (eD q)/\lP r q k/\lQ r b o.shut 0 q/\Z (λx=>x=b) a r:=by
 have D:=h.cellAt 0 rfl;have Q:a.frozen? (R b 0)=aX:=h.free;obtain⟨d,e⟩:∃d,cq a (R b 0) (jN 1)=d:=⟨_,rfl⟩;have c:lQ d b o 1 q:=by rw[<-e];exact h.lB 1
 have n:Z (λx=>x=b) a d:=by rw[<-e];exact(gZ b a)
 have c5:aW d (R b 5)=H (aN aX):=by rw[<-A];exact c.cellAt 5 rfl
 have c6:=c.cellAt 6 rfl;have c7:=c.cellAt 7 rfl;have E:=c.cellAt 10 rfl;have F:=c.cellAt 11 rfl;have K:=c.cellAt 12 rfl;have L:=c.cellAt 13 rfl;have N:=c.cellAt 16 rfl;have aa:d.frozen? (R b 16)=aX:=c.free;have g5:d.frozen? (R b 5)=aX:=c.free;have g7:d.frozen? (R b 7)=aX:=c.free;have S:d.frozen? (R b 10)=aX:=c.free;have T:d.frozen? (R b 11)=aX:=c.free;have V:d.frozen? (R b 12)=aX:=c.free;have W:d.frozen? (R b 13)=aX:=c.free;obtain⟨j,g⟩:∃j,cq (cq (cq (cq (cq (cq (cq d (R b 5)<|aN ci) (R b 7) az) (R b 10) az) (R b 11) az) (R b 12) az) (R b 13) az) (R b 16) (.map none)=j:=⟨_,rfl⟩;have m:lQ j b o.shut 1 q:=by have B:=aH (i:=16) (u:=.map none)<|aH (i:=13) (u:=az)<|aH (i:=12) (u:=az)<|aH (i:=11) (u:=az)<|aH (i:=10) (u:=az)<|aH (i:=7) (u:=az)<|aH (i:=5) (u:=aN ci) c;rw[g]at B;exact B
 have p:Z (λx=>x=b) a j:=by rw[<-g];exact((((((n.setCell b 5 _<|.inl rfl).setCell b 7 _<|.inl rfl).setCell b 10 _<|.inl rfl).setCell b 11 _<|.inl rfl).setCell b 12 _<|.inl rfl).setCell b 13 _<|.inl rfl).setCell b 16 _<|.inl rfl
 have l:=p.setCell b 0 (jN 0)<|.inl rfl;have C:=U<|show lP (j.setCell (R b 0)<|jN 0) q k/\lQ (j.setCell (R b 0)<|jN 0) b o.shut 0 q/\Z (λx=>x=b) a (j.setCell (R b 0)<|jN 0)from⟨v.aj l<|v.qg (sbqq:=b) h,m.lB 0,l⟩;have O:=m.cellAt 0 rfl;have k0:j.frozen? (R b 0)=aX:=m.free;have k6:=m.cellAt 6 rfl;have s:=U e;have t:=U g;clear h c n A v m p l e g;go_enter_defers func23,ntmps23
 go_wp2_with fail
 apply(lock_free (R b 0) _ D Q).mono;rintro P r⟨rfl,w⟩;rw[J s]at w;subst r;go_wp2;rw[J t];refine gN (f:=30) (args:=#[aA b]) (by simp) (by simp[go_sem]) ?_;apply(unlock_deferred (R b 0) .returning _ O k0).mono;rintro P u' ac⟨rfl,rfl,rfl⟩;exact⟨_,iw rfl _ _ _,rfl,C⟩
end
section
open Conc.Locks Shelf
attribute [local go_sem] Oper.semAt_some
def C6(p:KV):Array ab:=#[am p.1,am p.2]
def WQ(o s:M){d bs:M}{x:Option Addr}(c:eP a d (I x 0 b) 64):Iu C6 zf o s 128 #[aA d,aA bs] [] (λq=>q=d) a:=by
 intro r t p B W j l i e f g m;have n:aW W (R d 0)=H (I x 0 b):=j.cell (.inl rfl) c.cell;have k:=U i;clear c j l i e f g m;refine qX func128 rfl trivial ?_ rfl;simp only[ntmps128,fo,aY,dG,Nat.reduceAdd,Nat.reduceSub,eM,eL,fp,eX,cV,df];gi_wp2;gi_loopw [8] (λi wr=>i=ar 0/\wr=W) (λ_ _=>0)
 case atStart=>exact⟨by go_num,rfl⟩
 (case round=>obtain⟨rfl,rfl⟩:=hrel;gi_wp2;refine vS (iX rfl _ _ _) rfl ?_;exact⟨⟨_,rfl⟩,.inl ⟨B,k,trivial⟩⟩)
def QU{b q:M}(w v:ae)(h:lQ a b o 0 q)(j:o.closed=aX)(m:lP a q k)(l:kB a)(e:b≠0):cY aZ 127 #[aA b,am w,am v] a λp n=>p=aM az/\∃i,QG a n b o q k i:=by
 have r:=h.cellAt 0 rfl;have t:a.frozen? (R b 0)=aX:=h.free;have g:=Cb h j m l e;clear h j m l e;go_enter_defers func127,ntmps127
 go_wp2_with fail
 apply(lock_free (R b 0) _ r t).mono;rintro p n⟨rfl,rfl⟩;go_wp2_with fail
 apply g.mono;rintro p A⟨i,rfl,s,u,c⟩;have d:=U c;clear c g;go_wp2;refine gN (f:=30) (args:=#[aA b]) (by simp) (by simp[go_sem]) ?_;apply(unlock_deferred (R b 0) .returning _ s u).mono;rintro p B x⟨rfl,rfl,rfl⟩;exact⟨_,iw rfl _ _ _,rfl,i,d⟩
def lP.Qc{q:M}(n:lP a q N)(l:Z p a f)(i:∀k,p k->∃d t e,a.heap[k]?=H (aw d t e)/\t≠201):lP f q N:=by
 obtain⟨b,c,j⟩:=n;refine⟨b,(l.block q (ak c)<|λm=>?_).trans c,j⟩;obtain⟨d,t,e,g,h⟩:=i q m;rw[c]at g;cases g;exact h rfl
def QG.alloc{w w':Y}{a q b:M}(h:QG w w' a o q k b)(c:Obj):QG w (cN w' c) a o q k b:=⟨h.err.aj (cF ay w') id,h.zn.aj (cF ay w') id,h.box.aj (cF ay w') id,h.aj.alloc c⟩
def YH{b q:M}(v t:ae)(h:lQ a b o 0 q)(r:o.closed=aX)(u:lP a q k)(s:kB a)(m:b≠0):cY aZ 80 #[aA b,am v,am t] a λD w=>∃j A,D=aM (.func (.func 128) #[] #[aA j,aA A])/\eP w j az 64/\z (G a)<=j/\∃n,QG a w b o q k n:=by
 obtain⟨f,d⟩:∃f,cN a (aw #[aA b] 36)=f:=⟨_,rfl⟩;have c:Z ay a f:=by rw[<-d];exact cF ay a
 have B:z (G f)=z (G a)+1:=by rw[<-d];simp
 have e:=QU v t (h.aj c id) r (u.aj c id) (s.aj c id) m;have i:=U d;have g:=U c;clear h r u s d c;go_in
 go_wp2_with fail
 rw[J i];apply e.mono;rintro D p⟨rfl,n,l⟩;have C:=l.aj.size;have x:=U l;clear l e;go_wp2;go_ret;refine⟨_,_,rfl,aJ _ rfl,by omega,n,?_⟩;have hF:=J x;exact⟨hF.err.aj (cF ay p) id,hF.zn.aj (cF ay p) id,hF.box.aj (cF ay p) id,((g.mono (T:=λa=>a=b) cL).trans hF.aj<|λ_ q=>.inl q).alloc _⟩
def IX{c q:M}(lo hi:ae)(b:X)(aa:0<b)(h:lQ a c o 0 q)(hc:o.closed=aX)(hq:lP a q k)(hg:kB a)(Q:c≠0):cY aZ 48 #[aA c,am lo,am hi,ar b] a λi w'=>i=aM az/\∃q',QG a w' c o q k q':=by
 obtain⟨w,f⟩:∃w,cN (cN a<|aw #[ar b] 3) (aw #[az] 64)=w:=⟨_,rfl⟩;have d:Z ay a w:=by rw[<-f];exact(cF ay a).alloc _
 have g:eP w (z (G a)+1) az 64:=by rw[<-f];exact aJ _<|by simp
 have u:z (G w)=z (G a)+2:=by rw[<-f];simp
 have x:=YH lo hi (h.aj d id) hc (hq.aj d id) (hg.aj d id) Q;have e0:¬b<=0:=by omega
 have ao:=ak h;obtain⟨HX,K⟩:=And.intro (U<|And.intro d (And.intro g u)) (U f);clear d g u h hc hq hg f;refine(dP (n:=3)).1 ?_;refine callsIn_of_wp_marks func48 rfl trivial ?_ rfl;simp only[ntmps48,fo,aY,dG,Nat.reduceAdd,Nat.reduceSub,eM,eL,fp,eX,cV,df];gi_wp2_with(refine⟨trivial,?_⟩;gi_at_call 80;rw[J K];refine(dP.2 x).mono ?_;rintro i D⟨v,L,rfl,A,s,q',hf⟩;have j:=U A;have F:=U s;have HF:=U hf;clear A s hf x)
 obtain⟨d,g,u⟩:=J HX;have hF:=J HF;have an:=hF.aj.size;have s:=J F;have P:eP D (z (G a)+1) az 64:=(hF.aj.block _ (ak g)<|λk=>by omega).trans g;have t:=WQ (z<|G a) 2 (bs:=L) j;refine pj (m:=3) (V:=zf) (n0:=z<|G a) (gf:=128) (lb:=#[aA v,aA L]) (l:=[]) (S:=λe=>e=v) ?geval (enters_of func128 (by kernel_rfl) rfl) (λ_=>rfl) t trivial (by omega) ?slt (λpre E W=>pre=[]/\eP W (z (G a)+1) az 64/\Z (λe=>e=v) D W/\E=λe=>e=z (G a)+1) (λ_ _ _ _=>False) (λe=>e=z (G a)+1) ⟨rfl,P,Z.refl _ _,rfl⟩ ?sb ?lt ?st ?xst ?body ?done ?stop;case geval=>rfl
 (case slt=>rintro e rfl;exact ak j);(case sb=>rintro e rfl i;omega);(case lt=>rintro pre E W⟨_,p,_,rfl⟩e rfl;exact⟨by omega,ak p⟩);(case st=>rintro pre E W W' ap⟨T,p,C,rfl⟩B r;refine⟨T,(B.block _ (ak p)<|λO=>(r _ O).1 rfl).trans p,C.trans B<|λe O=>?_,rfl⟩;rcases(r e O).2 with i|i|i;exact .inl i;exact i.elim;exact .inr i);(case xst=>rintro k pre E W W' ap h;exact h.elim);(case body=>rintro lr pre al E W ad T O B;simp at B);(case done=>rintro ac E W N⟨_,p,C,rfl⟩ad O hK;have al:aW W (R (z (G a)+1) 0)=H az:=p.cell;obtain⟨H3,HK⟩:=And.intro (U C) (U hK);clear p C O hK;gi_wp2;have T:=gF W ac<|.deferred none;have r:Z (λe=>e=v) D (W.putObj ac<|.deferred none):=H3.trans T<|λe i=>.inr (by have e':e=ac:=i;omega);refine⟨by simp,.inl ⟨_,_,rfl,run_takeDeferred HK,?_⟩⟩;refine⟨_,iw rfl _ _ _,rfl,q',?_⟩;(have B:∀e,e=v->∃a t b,D.heap[e]?=H (aw a t b)/\t≠201:=λe i=>by rw[i];exact⟨_,_,_,j,by decide⟩);exact⟨hF.err.Qc r B,hF.zn.Qc r B,hF.box.aj r (λi=>by omega),((d.mono (T:=λe=>e=c) cL).trans hF.aj<|λ_ q=>.inl q).trans r<|λe i=>.inr (by have e':e=v:=i;omega)⟩);(case stop=>rintro ac k pre E W N h;exact h.elim)
end
