import Derived.Test.YthaiaannkhpppaaGreatDoorC13
import Derived.Test.YthaiaannkhpppaaGreatDoorC14
open _root_ renaming List.length→y,Option.some→H,Array.size→z,Go.World.heap→G,Go.Value.ownBlock→cK,Go.World.cell?→aW,Go.World.setCell→cq,Go.World.alloc→cN,Bool.false→aX,Bool.true→ci,Nat→M,Int→X,List→cJ,Go.Calls→cY,Go.undef→iH,Go.Proofs.Tryz.prog→aZ,Go.Value.slice→I,Go.Value.string→am,Go.Value.bool→aN,Go.Value.pointer→cX,Go.Value.tuple→dq,Go.Value.agg→dC
namespace Go.Proofs.YthaiaannkhpppaaGreatDoor
open ChangeShapes WideShapes RowKit Proofs.Tryz
set_option maxHeartbeats 16000000
set_option linter.all false
set_option maxRecDepth 100000
variable{a f A:Y}{b c g m D S:M}{d s L:ab}{e:cR}{i x:DK}{j W u v:cW}{k N:X}{l:dS}{n:eR}{o:SR}{p:eV}{F:Fs}{O:bz}
section
open Conc.Locks
def Ym{b q:M}(e:lQ f b o 1 q)(g:Z (λk=>k=b) a f)(d:Below (z<|G f) f A):aW A (R b 0)=H (jN 1)/\A.frozen? (R b 0)=aX/\lQ (cq A (R b 0)<|jN 0) b o 0 q/\Z (λk=>k=b) a (cq A (R b 0)<|jN 0):=by
 have c:lQ A b o 1 q:=e.aj (Z.aR (S:=ay) d) id;exact⟨c.cellAt 0 rfl,c.free,c.lB 0,(g.trans (Z.aR (S:=λk=>k=b) d)<|λ_ e=>.inl e).setCell b 0 _<|.inl rfl⟩
structure QG(w w':Y)(sb:M)(s:SR)(q:M)(c:X)(q':M):Prop where
 err:lP w' q' c
 zn:lP w' q c
 box:lQ w' sb s 0 q
 aj:Z (λk=>k=sb) w w'
def Cb{b q:M}(t:lQ a b o 0 q)(v:o.closed=aX)(e:lP a q k)(w:kB a)(i:b≠0):cY aZ 31 #[aA b] (cq a (R b 0)<|jN 1) λp c=>∃f,p=aM (eD f)/\aW c (R b 0)=H (jN 1)/\c.frozen? (R b 0)=aX/\QG a (cq c (R b 0)<|jN 0) b o q k f:=by
 have l:Z (λc=>c=b) a (cq a (R b 0)<|jN 1):=gZ b a;have g:=t.lB 1;have j:=e.aj l<|e.qg (sbqq:=b) t;refine(Lf g v j<|w.aj l<|λp=>i p.symm).mono ?_;rintro p c⟨f,rfl,d,n⟩;obtain⟨r,s,u,m⟩:=Ym g l n;have h:lQ c b o 1 q:=g.aj (Z.aR (S:=ay) n) id;exact⟨f,rfl,r,s,d.aj (gZ b c)<|d.qg (sbqq:=b) h,e.aj m<|e.qg (sbqq:=b) t,u,m⟩
def Yk{b q:M}(j:ae)(h:lQ a b o 0 q)(l:o.closed=aX)(n:lP a q k)(m:kB a)(e:b≠0):cY aZ 14 #[aA b,am j] a λr p=>∃i,r=aM (dq #[am ⟨#[]⟩,aN aX,eD i])/\QG a p b o q k i:=by
 have s:=h.cellAt 0 rfl;have u:a.frozen? (R b 0)=aX:=h.free;have g:=Cb h l n m e;clear h l n m e;go_enter_defers func14,ntmps14
 go_wp2_with fail
 apply(lock_free (R b 0) _ s u).mono;rintro r p⟨rfl,rfl⟩;go_wp2_with fail
 apply g.mono;rintro r x⟨i,rfl,t,v,c⟩;have d:=U c;clear c g;go_wp2;refine gN (f:=30) (args:=#[aA b]) (by simp) (by simp[go_sem]) ?_;apply(unlock_deferred (R b 0) .returning _ t v).mono;rintro r A w⟨rfl,rfl,rfl⟩;exact⟨_,og rfl _ _ _,i,rfl,d⟩
def QJ{b q:M}(t:ab)(i:Bool)(h:lQ a b o 0 q)(l:o.closed=aX)(n:lP a q k)(m:kB a)(e:b≠0):cY aZ 12 #[aA b,t,aN i] a λr p=>∃j,r=aM (eD j)/\QG a p b o q k j:=by
 have s:=h.cellAt 0 rfl;have v:a.frozen? (R b 0)=aX:=h.free;have g:=Cb h l n m e;clear h l n m e;go_enter_defers func12,ntmps12
 go_wp2_with fail
 apply(lock_free (R b 0) _ s v).mono;rintro r p⟨rfl,rfl⟩;go_wp2_with fail
 apply g.mono;rintro r A⟨j,rfl,u,w,c⟩;have d:=U c;clear c g;go_wp2;refine gN (f:=30) (args:=#[aA b]) (by simp) (by simp[go_sem]) ?_;apply(unlock_deferred (R b 0) .returning _ u w).mono;rintro r B x⟨rfl,rfl,rfl⟩;exact⟨_,iw rfl _ _ _,j,rfl,d⟩
def UA{b q:M}(x w:ae)(c:X)(h:lQ a b o 0 q)(l:o.closed=aX)(n:lP a q k)(m:kB a)(g:b≠0):cY aZ 38 #[aA b,am x,am w,ar c] a λr p=>∃j,r=aM (dq #[az,eD j])/\QG a p b o q k j:=by
 have s:=h.cellAt 0 rfl;have u:a.frozen? (R b 0)=aX:=h.free;have i:=Cb h l n m g;clear h l n m g;go_enter_defers func38,ntmps38
 go_wp2_with fail
 apply(lock_free (R b 0) _ s u).mono;rintro r p⟨rfl,rfl⟩;go_wp2_with fail
 apply i.mono;rintro r B⟨j,rfl,t,v,d⟩;have e:=U d;clear d i;go_wp2;refine gN (f:=30) (args:=#[aA b]) (by simp) (by simp[go_sem]) ?_;apply(unlock_deferred (R b 0) .returning _ t v).mono;rintro r C A⟨rfl,rfl,rfl⟩;exact⟨_,pK rfl _ _ _,j,rfl,e⟩
def IL{b q:M}(h:lQ a b o 0 q)(j:o.closed=aX)(m:lP a q k)(l:kB a)(e:b≠0):cY aZ 46 #[aA b] a λp n=>∃i,p=aM (dq #[ar 0,eD i])/\QG a n b o q k i:=by
 have r:=h.cellAt 0 rfl;have t:a.frozen? (R b 0)=aX:=h.free;have g:=Cb h j m l e;clear h j m l e;go_enter_defers func46,ntmps46
 go_wp2_with fail
 apply(lock_free (R b 0) _ r t).mono;rintro p n⟨rfl,rfl⟩;go_wp2_with fail
 apply g.mono;rintro p w⟨i,rfl,s,u,c⟩;have d:=U c;clear c g;go_wp2;refine gN (f:=30) (args:=#[aA b]) (by simp) (by simp[go_sem]) ?_;apply(unlock_deferred (R b 0) .returning _ s u).mono;rintro p x v⟨rfl,rfl,rfl⟩;exact⟨_,pK rfl _ _ _,i,rfl,d⟩
def Rn{b q:M}(h:lQ a b o 0 q)(j:o.closed=aX)(m:lP a q k)(l:kB a)(e:b≠0):cY aZ 47 #[aA b] a λp n=>∃i,p=aM (dq #[az,eD i])/\QG a n b o q k i:=by
 have r:=h.cellAt 0 rfl;have t:a.frozen? (R b 0)=aX:=h.free;have g:=Cb h j m l e;clear h j m l e;go_enter_defers func47,ntmps47
 go_wp2_with fail
 apply(lock_free (R b 0) _ r t).mono;rintro p n⟨rfl,rfl⟩;go_wp2_with fail
 apply g.mono;rintro p w⟨i,rfl,s,u,c⟩;have d:=U c;clear c g;go_wp2;refine gN (f:=30) (args:=#[aA b]) (by simp) (by simp[go_sem]) ?_;apply(unlock_deferred (R b 0) .returning _ s u).mono;rintro p x v⟨rfl,rfl,rfl⟩;exact⟨_,pK rfl _ _ _,i,rfl,d⟩
def Io{b q:M}(h:lQ a b o 0 q)(e:o.closed=ci):cY aZ 23 #[aA b] a λk d=>k=aM (ui 6)/\lQ d b o 0 q/\Z (λn=>n=b) a d:=by
 have i:=h.cellAt 0 rfl;have l:a.frozen? (R b 0)=aX:=h.free;have c:=h.lB 1;have c5:aW (cq a (R b 0)<|jN 1) (R b 5)=H (aN ci):=by rw[<-e];exact c.cellAt 5 rfl
 have j:=c.cellAt 0 rfl;have m:(cq a (R b 0)<|jN 1).frozen? (R b 0)=aX:=c.free;have g:=U<|show lQ (cq (cq a (R b 0)<|jN 1) (R b 0)<|jN 0) b o 0 q/\Z (λn=>n=b) a (cq (cq a (R b 0)<|jN 1) (R b 0)<|jN 0)from⟨c.lB 0,(gZ b a).setCell b 0 _<|.inl rfl⟩;clear h c e;go_enter_defers func23,ntmps23
 go_wp2_with(go_at_call 29;refine(lock_free (R b 0) _ i l).mono ?_;rintro k d⟨rfl,rfl⟩)
 refine gN (f:=30) (args:=#[aA b]) (by simp) (by simp[go_sem]) ?_;apply(unlock_deferred (R b 0) .returning _ j m).mono;rintro k r p⟨rfl,rfl,rfl⟩;exact⟨_,iw rfl _ _ _,rfl,g⟩
end
section
open Conc.Locks
def TG{b q:M}(h:lQ a b o 0 q)(A:o.closed=aX)(v:lP a q k):cY aZ 23 #[aA b] a λP r=>P=aM (eD q)/\lP r q k/\lQ r b o.shut 0 q/\Z (λx=>x=b) a r:=by
 have D:=h.cellAt 0 rfl;have Q:a.frozen? (R b 0)=aX:=h.free;obtain⟨d,e⟩:∃d,cq a (R b 0) (jN 1)=d:=⟨_,rfl⟩;have c:lQ d b o 1 q:=by rw[<-e];exact h.lB 1
 have n:Z (λx=>x=b) a d:=by rw[<-e];exact(gZ b a)
 have c5:aW d (R b 5)=H (aN aX):=by rw[<-A];exact c.cellAt 5 rfl
 have c6:=c.cellAt 6 rfl;have c7:=c.cellAt 7 rfl;have E:=c.cellAt 10 rfl;have F:=c.cellAt 11 rfl;have K:=c.cellAt 12 rfl;have L:=c.cellAt 13 rfl;have N:=c.cellAt 16 rfl;have aa:d.frozen? (R b 16)=aX:=c.free;have g5:d.frozen? (R b 5)=aX:=c.free;have g7:d.frozen? (R b 7)=aX:=c.free;have S:d.frozen? (R b 10)=aX:=c.free;have T:d.frozen? (R b 11)=aX:=c.free;have V:d.frozen? (R b 12)=aX:=c.free;have W:d.frozen? (R b 13)=aX:=c.free;obtain⟨j,g⟩:∃j,cq (cq (cq (cq (cq (cq (cq d (R b 5)<|aN ci) (R b 7) az) (R b 10) az) (R b 11) az) (R b 12) az) (R b 13) az) (R b 16) (.map none)=j:=⟨_,rfl⟩;have m:lQ j b o.shut 1 q:=by have B:=aH (i:=16) (u:=.map none)<|aH (i:=13) (u:=az)<|aH (i:=12) (u:=az)<|aH (i:=11) (u:=az)<|aH (i:=10) (u:=az)<|aH (i:=7) (u:=az)<|aH (i:=5) (u:=aN ci) c;rw[g]at B;exact B
 have p:Z (λx=>x=b) a j:=by rw[<-g];exact((((((n.setCell b 5 _<|.inl rfl).setCell b 7 _<|.inl rfl).setCell b 10 _<|.inl rfl).setCell b 11 _<|.inl rfl).setCell b 12 _<|.inl rfl).setCell b 13 _<|.inl rfl).setCell b 16 _<|.inl rfl
 have l:=p.setCell b 0 (jN 0)<|.inl rfl;have C:=U<|show lP (j.setCell (R b 0)<|jN 0) q k/\lQ (j.setCell (R b 0)<|jN 0) b o.shut 0 q/\Z (λx=>x=b) a (j.setCell (R b 0)<|jN 0)from⟨v.aj l<|v.qg (sbqq:=b) h,m.lB 0,l⟩;have O:=m.cellAt 0 rfl;have k0:j.frozen? (R b 0)=aX:=m.free;have k6:=m.cellAt 6 rfl;have s:=U e;have t:=U g;clear h c n A v m p l e g;go_enter_defers func23,ntmps23
 go_wp2_with fail
 apply(lock_free (R b 0) _ D Q).mono;rintro P r⟨rfl,w⟩;rw[J s]at w;subst r;go_wp2;rw[J t];refine gN (f:=30) (args:=#[aA b]) (by simp) (by simp[go_sem]) ?_;apply(unlock_deferred (R b 0) .returning _ O k0).mono;rintro P u' ac⟨rfl,rfl,rfl⟩;exact⟨_,iw rfl _ _ _,rfl,C⟩
end
section
open Conc.Locks Shelf
attribute [local go_sem] Oper.semAt_some
def C6(p:KV):Array ab:=#[am p.1,am p.2]
def WQ(o s:M){d bs:M}{x:Option Addr}(c:eP a d (I x 0 b) 64):Iu C6 zf o s 128 #[aA d,aA bs] [] (λq=>q=d) a:=by
 intro r t p B W j l i e f g m;have n:aW W (R d 0)=H (I x 0 b):=j.cell (.inl rfl) c.cell;have k:=U i;clear c j l i e f g m;refine qX func128 rfl trivial ?_ rfl;simp only[ntmps128,fo,aY,dG,Nat.reduceAdd,Nat.reduceSub,eM,eL,fp,eX,cV,df];gi_wp2;gi_loopw [8] (λi wr=>i=ar 0/\wr=W) (λ_ _=>0)
 case atStart=>exact⟨by go_num,rfl⟩
 (case round=>obtain⟨rfl,rfl⟩:=hrel;gi_wp2;refine vS (iX rfl _ _ _) rfl ?_;exact⟨⟨_,rfl⟩,.inl ⟨B,k,trivial⟩⟩)
def QU{b q:M}(w v:ae)(h:lQ a b o 0 q)(j:o.closed=aX)(m:lP a q k)(l:kB a)(e:b≠0):cY aZ 127 #[aA b,am w,am v] a λp n=>p=aM az/\∃i,QG a n b o q k i:=by
 have r:=h.cellAt 0 rfl;have t:a.frozen? (R b 0)=aX:=h.free;have g:=Cb h j m l e;clear h j m l e;go_enter_defers func127,ntmps127
 go_wp2_with fail
 apply(lock_free (R b 0) _ r t).mono;rintro p n⟨rfl,rfl⟩;go_wp2_with fail
 apply g.mono;rintro p A⟨i,rfl,s,u,c⟩;have d:=U c;clear c g;go_wp2;refine gN (f:=30) (args:=#[aA b]) (by simp) (by simp[go_sem]) ?_;apply(unlock_deferred (R b 0) .returning _ s u).mono;rintro p B x⟨rfl,rfl,rfl⟩;exact⟨_,iw rfl _ _ _,rfl,i,d⟩
def lP.Qc{q:M}(n:lP a q N)(l:Z p a f)(i:∀k,p k->∃d t e,a.heap[k]?=H (aw d t e)/\t≠201):lP f q N:=by
 obtain⟨b,c,j⟩:=n;refine⟨b,(l.block q (ak c)<|λm=>?_).trans c,j⟩;obtain⟨d,t,e,g,h⟩:=i q m;rw[c]at g;cases g;exact h rfl
def QG.alloc{w w':Y}{a q b:M}(h:QG w w' a o q k b)(c:Obj):QG w (cN w' c) a o q k b:=⟨h.err.aj (cF ay w') id,h.zn.aj (cF ay w') id,h.box.aj (cF ay w') id,h.aj.alloc c⟩
def YH{b q:M}(v t:ae)(h:lQ a b o 0 q)(r:o.closed=aX)(u:lP a q k)(s:kB a)(m:b≠0):cY aZ 80 #[aA b,am v,am t] a λD w=>∃j A,D=aM (.func (.func 128) #[] #[aA j,aA A])/\eP w j az 64/\z (G a)<=j/\∃n,QG a w b o q k n:=by
 obtain⟨f,d⟩:∃f,cN a (aw #[aA b] 36)=f:=⟨_,rfl⟩;have c:Z ay a f:=by rw[<-d];exact cF ay a
 have B:z (G f)=z (G a)+1:=by rw[<-d];simp
 have e:=QU v t (h.aj c id) r (u.aj c id) (s.aj c id) m;have i:=U d;have g:=U c;clear h r u s d c;go_in
 go_wp2_with fail
 rw[J i];apply e.mono;rintro D p⟨rfl,n,l⟩;have C:=l.aj.size;have x:=U l;clear l e;go_wp2;go_ret;refine⟨_,_,rfl,aJ _ rfl,by omega,n,?_⟩;have hF:=J x;exact⟨hF.err.aj (cF ay p) id,hF.zn.aj (cF ay p) id,hF.box.aj (cF ay p) id,((g.mono (T:=λa=>a=b) cL).trans hF.aj<|λ_ q=>.inl q).alloc _⟩
def IX{c q:M}(lo hi:ae)(b:X)(aa:0<b)(h:lQ a c o 0 q)(hc:o.closed=aX)(hq:lP a q k)(hg:kB a)(Q:c≠0):cY aZ 48 #[aA c,am lo,am hi,ar b] a λi w'=>i=aM az/\∃q',QG a w' c o q k q':=by
 obtain⟨w,f⟩:∃w,cN (cN a<|aw #[ar b] 3) (aw #[az] 64)=w:=⟨_,rfl⟩;have d:Z ay a w:=by rw[<-f];exact(cF ay a).alloc _
 have g:eP w (z (G a)+1) az 64:=by rw[<-f];exact aJ _<|by simp
 have u:z (G w)=z (G a)+2:=by rw[<-f];simp
 have x:=YH lo hi (h.aj d id) hc (hq.aj d id) (hg.aj d id) Q;have e0:¬b<=0:=by omega
 have ao:=ak h;obtain⟨HX,K⟩:=And.intro (U<|And.intro d (And.intro g u)) (U f);clear d g u h hc hq hg f;refine(dP (n:=3)).1 ?_;refine callsIn_of_wp_marks func48 rfl trivial ?_ rfl;simp only[ntmps48,fo,aY,dG,Nat.reduceAdd,Nat.reduceSub,eM,eL,fp,eX,cV,df];gi_wp2_with(refine⟨trivial,?_⟩;gi_at_call 80;rw[J K];refine(dP.2 x).mono ?_;rintro i D⟨v,L,rfl,A,s,q',hf⟩;have j:=U A;have F:=U s;have HF:=U hf;clear A s hf x)
 obtain⟨d,g,u⟩:=J HX;have hF:=J HF;have an:=hF.aj.size;have s:=J F;have P:eP D (z (G a)+1) az 64:=(hF.aj.block _ (ak g)<|λk=>by omega).trans g;have t:=WQ (z<|G a) 2 (bs:=L) j;refine pj (m:=3) (V:=zf) (n0:=z<|G a) (gf:=128) (lb:=#[aA v,aA L]) (l:=[]) (S:=λe=>e=v) ?geval (enters_of func128 (by kernel_rfl) rfl) (λ_=>rfl) t trivial (by omega) ?slt (λpre E W=>pre=[]/\eP W (z (G a)+1) az 64/\Z (λe=>e=v) D W/\E=λe=>e=z (G a)+1) (λ_ _ _ _=>False) (λe=>e=z (G a)+1) ⟨rfl,P,Z.refl _ _,rfl⟩ ?sb ?lt ?st ?xst ?body ?done ?stop;case geval=>rfl
 (case slt=>rintro e rfl;exact ak j);(case sb=>rintro e rfl i;omega);(case lt=>rintro pre E W⟨_,p,_,rfl⟩e rfl;exact⟨by omega,ak p⟩);(case st=>rintro pre E W W' ap⟨T,p,C,rfl⟩B r;refine⟨T,(B.block _ (ak p)<|λO=>(r _ O).1 rfl).trans p,C.trans B<|λe O=>?_,rfl⟩;rcases(r e O).2 with i|i|i;exact .inl i;exact i.elim;exact .inr i);(case xst=>rintro k pre E W W' ap h;exact h.elim);(case body=>rintro lr pre al E W ad T O B;simp at B);(case done=>rintro ac E W N⟨_,p,C,rfl⟩ad O hK;have al:aW W (R (z (G a)+1) 0)=H az:=p.cell;obtain⟨H3,HK⟩:=And.intro (U C) (U hK);clear p C O hK;gi_wp2;have T:=gF W ac<|.deferred none;have r:Z (λe=>e=v) D (W.putObj ac<|.deferred none):=H3.trans T<|λe i=>.inr (by have e':e=ac:=i;omega);refine⟨by simp,.inl ⟨_,_,rfl,run_takeDeferred HK,?_⟩⟩;refine⟨_,iw rfl _ _ _,rfl,q',?_⟩;(have B:∀e,e=v->∃a t b,D.heap[e]?=H (aw a t b)/\t≠201:=λe i=>by rw[i];exact⟨_,_,_,j,by decide⟩);exact⟨hF.err.Qc r B,hF.zn.Qc r B,hF.box.aj r (λi=>by omega),((d.mono (T:=λe=>e=c) cL).trans hF.aj<|λ_ q=>.inl q).trans r<|λe i=>.inr (by have e':e=v:=i;omega)⟩);(case stop=>rintro ac k pre E W N h;exact h.elim)
end
open List
def M8(w d:Y)(c:M)(K:DK)(next e a:M)(p:cJ cW)(r:Ending):Prop:=(∃l g f m h c1 n i c2 o j c3,r=aM (dq #[dC #[aE next,aE e,aE a,I l g f,I m h c1,I n i c2,I o j c3],.nilIface])/\(∀(s:M)(v:ab)(D:cW),[I l g f,I m h c1,I n i c2,I o j c3][s]?=H v->p[s]?=H D->d.ownsRow (z<|G w) 185 4 v (y D) (dy D))/\∃b,pJ w d c K b/\vq K b/\∀k,b.aO c k->K.aO c k)\/∃b,pJ w d c K b/\vq K b/\(∀k,b.aO c k->K.aO c k)/\0<K.fx.bd/\∃q,r=aM (dq #[J6,eD q])/\lP d q 8
def Sn(next d c:M)(g:cJ cW)(h:cG a b i)(hT:Steps a)(bq:¬i.aO b 1)(h4:y g=4)(hn:next<18446744073709551616)(hl:d<next)(bT:c<18446744073709551616)(cc:y g.flatten<=1000000)(bm:∀bE∈g.flatten,bE.oH)(ba:(g.flatten.map bz.num).Nodup)(aU:∀bE∈g.flatten,bE.num<next/\bE.num≠d)(hg:dh (vw i.files) eh=H (fT next d c g)):cY aZ 50 #[aA b] a λp o=>M8 a o b i next d c g p:=by
 obtain⟨W1,s⟩:∃W1,cN a (aw #[aE 0,aE 0,aE 0,az,az,az,az] 127)=W1:=⟨_,rfl⟩;have A:Z ay a W1:=by rw[<-s];exact(cF ay a)
 have t:W1.heap[z<|G a]?=H (aw #[aE 0,aE 0,aE 0,az,az,az,az] 127 (0,0)):=by rw[<-s];exact aJ _ rfl
 have cb:z (G W1)=z (G a)+1:=by rw[<-s];simp
 have aF:y (fT next d c g)<=21000100/\0<y (fT next d c g):=by(have C:fT next d c g=iN (le 8 (next:M)++(le 8 (d:M)++(le 8 (c:M)++qc g 0))):=by unfold fT qc;simp);have Q:=Ax g 0;rw[C,gy];grind[length_append,cH]
 have au:=U h.lt
 have w:cY aZ 54 #[aA b,am eh] W1 λp o=>(∃bs B,p=aM (dq #[bD bs 0 (y<|fT next d c g) B,.nilIface])/\o.heap[z<|G a]?=H (aw #[aE 0,aE 0,aE 0,az,az,az,az] 127 (0,0))/\(∃m,pJ a o b i m/\vq i m/\∀k,m.aO b k->i.aO b k)/\z (G a)<z (G o)/\cY aZ 84 #[bD bs 0 (y<|fT next d c g) B] o λp C=>
  ∃S L F V N c1 W O c2 x3 P c3,p=aM (dq #[dC #[aE next,aE d,aE c,I S L F,I V N c1,I W O c2,I x3 P c3],aN ci])/\
  (∀(bx:M)(bL:ab)(bt:cW),[I S L F,I V N c1,I W O c2,I x3 P c3][bx]?=H bL->g[bx]?=H bt->C.ownsRow (z (G o)) 185 4 bL (y bt) (dy bt))/\Z ay o C)\/(0<i.fx.bd/\∃q,p=aM (dq #[az,eD q])/\lP o q 8/\o.heap[z (G a)]?=H (aw #[aE 0,aE 0,aE 0,az,az,az,az] 127 (0,0))/\∃m,pJ a o b i m/\vq i m/\∀k,m.aO b k->i.aO b k):=by
  apply(PU (db:=b) (K:=i) eh (w:=W1) (h.aj A<|λ_ _=>id) hg EI).mono
  rintro p o⟨m,j,e1,e3,⟨v',rfl,ho⟩|⟨D,q,rfl,n⟩⟩
  rotate_left
  .have v:¬i.aO b (z<|G a):=λB=>by have:=h.lt _ B;omega
   exact .inr ⟨D,q,rfl,n,(j.aj.block _ (ak t) v).trans t,m,⟨j.ok,(A.mono (T:=i.aO b) cL).trans j.aj<|λ_ B=>.inl B,λk B=>.inl<|e3 k B,j.fx⟩,e1,e3⟩
  left
  have Q:=ho
  obtain⟨q1,⟨q2,q0⟩|⟨bi,cp,ao,q2,aD,hh,bb,bd,al⟩⟩:=Q
  .omega
  .subst q2;have ap:Steps o:=Steps.aj (Steps.aj hT A id) j.aj bq;have v:¬i.aO b (z<|G a):=λB=>by have:=h.lt _ B;omega
   refine⟨bi,cp,rfl,(j.aj.block _ (ak t) v).trans t,⟨m,⟨j.ok,(A.mono (T:=i.aO b) cL).trans j.aj<|λ_ B=>.inl B,λk B=>.inl<|e3 k B,j.fx⟩,e1,e3⟩,by have:=j.aj.size;omega,?_⟩;grind[Pg,fc.bytes]
 have ac:=λW=>VB 10 W;unfold eh at w;obtain⟨SL,ax⟩:∃SL,y (fT next d c g)=SL:=⟨_,rfl⟩;rw[ax]at w;have bl:=U s;have bn:∀a:Y,(binOp .neq 47 .nilIface .nilIface).run aZ a=.ok (aN aX) a:=λ_=>rfl;have bv:∀(bs:Bool)(a:Y),(Op.unary .not<|aN bs).run aZ a=.ok (aN<|!bs) a:=λ_ _=>rfl;clear h hT hg bm ba aU A t s ax aF;go_in
 go_wp2_with fail
 rw[J bl];apply w.mono;rintro p w2(⟨bs,B,rfl,av,r,aV,K⟩|⟨D,q,rfl,n,f,r⟩);rotate_left;(·(have bb:aW w2 (R q 1)=H (ar 8):=by obtain⟨Q,n,_⟩:=n;exact cellAt n 1 rfl);have aD:=AV q 8 10 (by decide) w2 bb;have t0:=cellAt f 0 rfl;have t1:=cellAt f 1 rfl;have t2:=cellAt f 2 rfl;have t3:=cellAt f 3 rfl;have t4:=cellAt f 4 rfl;have t5:=cellAt f 5 rfl;have t6:=cellAt f 6 rfl;(have fz:∀E,w2.frozen? (R (z<|G a) E)=aX:=λE=>by simp[World.frozen?,f]);obtain⟨bd,HQ,ao,aa⟩:=fY D n f r;clear D n f r bb w ac bn;(go_wp2_with fail);apply aD.mono;rintro p w1⟨rfl,hw⟩;subst w1;clear aD;go_wp2;have l:=aH (i:=6) (u:=az)<|aH (i:=5) (u:=az)<|aH (i:=4) (u:=az)<|aH (i:=3) (u:=az)<|aH (i:=2) (u:=aE 0)<|aH (i:=1) (u:=aE 0)<|aH (i:=0) (u:=aE 0) ao;refine ct (qM rfl _ _ (z<|G a) 0 0 0 _ _ _ _ _ _ rfl l ⟨_,_,_,rfl⟩ ⟨_,_,_,rfl⟩ ⟨_,_,_,rfl⟩ ⟨_,_,_,rfl⟩) rfl ?_;obtain⟨K2,C,bi,ap⟩:=J aa;have al:Z (λk=>k=z (G a)) w2 _:=((((((((Z.refl (λk=>k=z (G a)) w2).setCell (z<|G a) 0 (aE 0)<|.inl rfl).setCell (z<|G a) 1 (aE 0)<|.inl rfl).setCell (z<|G a) 2 (aE 0)<|.inl rfl).setCell (z<|G a) 3 az<|.inl rfl).setCell (z<|G a) 4 az<|.inl rfl).setCell (z<|G a) 5 az<|.inl rfl).setCell (z<|G a) 6 az<|.inl rfl);(have bo:∀k,K2.aO b k->k≠z (G a):=λk q p=>by have:=au k<|ap k q;omega);refine .inr ⟨K2,⟨C.ok.aj al<|λk q p=>bo k q p,C.aj.trans al (λk p=>.inr<|by omega),C.aO,C.fx⟩,bi,ap,bd,q,rfl,?_⟩;obtain⟨Q,n,bp⟩:=J HQ;refine⟨Q,(al.block q (ak n)<|λp=>?_).trans n,bp⟩;have:=J ao;rw[<-p,n]at this;simp[aw]at this);have bf:=U av;have aa:=U r;clear av r w;go_wp2_with fail
 apply(ac _).mono;rintro p br⟨rfl,hw⟩;subst br;go_wp2_with fail
 apply K.mono;rintro p w3⟨S,L,F,V,N,c1,W,O,c2,x3,P,c3,rfl,x,an⟩;have e:=(an.block _ aV id).trans bf;have bu:=ak e;have bk:=U an;have bh:=U x;have t0:=cellAt e 0 rfl;have t1:=cellAt e 1 rfl;have t2:=cellAt e 2 rfl;have t3:=cellAt e 3 rfl;have t4:=cellAt e 4 rfl;have t5:=cellAt e 5 rfl;have t6:=cellAt e 6 rfl;have ca:∀E,w3.frozen? (R (z<|G a) E)=aX:=λE=>by simp[World.frozen?,e]
 have bg:=U e;clear x an e K ac;go_wp2;have l:=aH (i:=6) (u:=I x3 P c3)<|aH (i:=5) (u:=I W O c2)<|aH (i:=4) (u:=I V N c1)<|aH (i:=3) (u:=I S L F)<|aH (i:=2) (u:=aE c)<|aH (i:=1) (u:=aE d)<|aH (i:=0) (u:=aE next) bg;have bc:=((((((((Z.refl (λk=>k=z (G a)) w3).setCell (z<|G a) 0 (aE next)<|.inl rfl).setCell (z<|G a) 1 (aE d)<|.inl rfl).setCell (z<|G a) 2 (aE c)<|.inl rfl).setCell (z<|G a) 3 (I S L F)<|.inl rfl).setCell (z<|G a) 4 (I V N c1)<|.inl rfl).setCell (z<|G a) 5 (I W O c2)<|.inl rfl).setCell (z<|G a) 6 (I x3 P c3)<|.inl rfl).alloc<|aw #[aE next,aE d,aE c,I S L F,I V N c1,I W O c2,I x3 P c3] 127;have ad:=(fU (aw #[aE next,aE d,aE c,I S L F,I V N c1,I W O c2,I x3 P c3] 127)<|ak l).trans l;refine ct (qM rfl _ _ (z<|G a) next d c _ _ _ _ _ _ rfl ad ⟨_,_,_,rfl⟩ ⟨_,_,_,rfl⟩ ⟨_,_,_,rfl⟩ ⟨_,_,_,rfl⟩) rfl ?_;refine .inl ⟨S,L,F,V,N,c1,W,O,c2,x3,P,c3,rfl,?_,?_⟩;intro bx bL bt hv Q;have C:=bh bx bL bt hv Q;exact fX (bc.own C (λq n p=>by have:=(C.lt q n).1;have:q=z (G a):=p;omega)) (by omega);obtain⟨m,j,e1,e3⟩:=J aa;have C:Z (λk=>k=z (G a)) w2 _:=(bk.mono (T:=λk=>k=z (G a)) cL).trans bc<|λ_ B=>.inl B;have v:∀k,m.aO b k->k<z (G a):=λk B=>au k<|e3 k B;exact⟨m,⟨j.ok.aj C (λk B p=>by have:=v k B;have:k=z (G a):=p;omega),j.aj.trans C<|λk p=>.inr (by have:k=z (G a):=p;omega),j.aO,j.fx⟩,e1,e3⟩
def SR.wi(s:SR)(a:ab)(j n:M):SR:={s with memory:=a,fm:=n,aS:=s.aS+j}
def Lp(s:SR)(a:s.memory=az)(b:s.fm=0):s.wi az 0 0=s:=by
 cases s;simp_all[SR.wi]
def Kz{lsqq:dS}(j:M):((lsqq.take j).map y).sum<=(lsqq.map y).sum:=by
 grind[take_append_drop]
def kW(a:dS):cR:=a.foldl (λm l=>gV [] m l) []
theorem zL(a:dS)(l:cR):kW (a++[l])=gV [] (kW a) l:=by simp[kW]
def Sf(l:cR):∀(p:Option E)(a:ae),(∀q,p=H q->q.key=a)->(p=none->∀e∈l,e.key≠a)->lL [] p l=nR a l:=by
 induction l with
 |nil=>intro p a _ _;rfl
 |cons e r f=>
  intro p a i d;rw[lL,nR];cases p with
  |none=>
   have b:pD [] none e=ci:=rfl;rw[dH b,dF (d rfl e<|by simp),f (H e) e.key (λq c=>by cases c;rfl)<|λg=>by cases g]
  |some q=>
   have c:=i q rfl;by_cases g:e.key=a
   .have b:pD [] (H q) e=aX:=by simp[pD,c,g]
    rw[dF (by rw[b];simp),dH g,f (H e) e.key (λx d=>by cases d;rfl)<|λh=>by cases h]
   .have b:pD [] (H q) e=ci:=by simp[pD,c];grind
    rw[dH b,dF g,f (H e) e.key (λx d=>by cases d;rfl)<|λh=>by cases h]
def Vf(h:gJ e)(b:∀x∈e,x.bO<=k):dI [] e=jT k e:=by
 unfold dI jT;rw[gm.2<|λx a=>by grind];exact Sf e none ⟨#[]⟩ (λq a=>by cases a)<|λ_=>h.key
def XB(u:Ac k l):∀j,j<=y l->kW (l.take j)=ia [] (l.take j).flatten/\gJ (kW<|l.take j)/\(∀x∈kW (l.take j),x.bO<=k+j-1)/\jT (k+j-1) (kW<|l.take j)=kW (l.take j):=by
 intro j;induction j with
 |zero=>intro _;exact⟨rfl,gJ.nil,by simp[kW],rfl⟩
 |succ j t=>
  intro v;obtain⟨g,h,p,q⟩:=t (by omega);have a:j<y l:=by omega
  have s:=u.iP l[j]<|aq a;have r:∀x∈l[j],x.bO=(k+j-1)+1:=λx b=>by rw[u.num j a x b];omega
  have i:∀e∈l[j],e.key≠⟨#[]⟩:=λe a=>uE<|s e a;have m:kW (l.take<|j+1)=gV [] (kW<|l.take j) l[j]:=by rw[ai a,zL]
  have d:gJ (fM (kW<|l.take j) l[j]):=h.fM i;have c:∀x∈fM (kW<|l.take j) l[j],x.bO<=(k+j-1)+1:=λx b=>by
   grind[yh]
  have n:=Vf d c;have e:jT ((k+j-1)+1) (gV [] (kW<|l.take j) l[j])=gV [] (kW<|l.take j) l[j]:=by
   show jT _ (dI [] _)=dI [] _;rw[Bj d<|.inr c,n]
  have f:=Gz h p i r [];rw[e,q,g]at f;have o:k+((j+1:M):X)-1=(k+j-1)+1:=by grind
  rw[m,o];refine⟨?_,d.sub<|vC [] _ _,λx b=>c x<|(vC [] _ _).subset b,e⟩;rw[g,f,ai a,eH,uZ];simp
def VT(a:dS):∀m,dV m->dV (a.foldl (λm l=>gV [] m l) m):=by
 induction a with
 |nil=>grind
 |cons l r b=>grind[Bz]
theorem GZ(a:dS):dV (kW a):=VT a [] dV.nil
def VU(a:dS):∀m:cR,y (a.foldl (λm l=>gV [] m l) m)<=y m+(a.map y).sum:=by
 induction a with
 |nil=>intro m;simp
 |cons l r b=>
  grind[yH]
def Hc(a:dS):y (kW a)<=(a.map y).sum:=by
 have:=VU a [];simpa[kW]using this
def UH{f:X}{lsqq:dS}(h:lsqq≠[]):0<y (jZ f lsqq):=by
 rcases lsqq with _|⟨l,r⟩;grind
 unfold jZ pI;grind[length_append,gy,cH]
def I4(w d:Y)(b:M)(s:SR)(k:X)(K:DK)(a:dS)(f:Ending):Prop:=(f=aM .nilIface/\∃e c,cS d b {s.wi e (y a) (a.map y).sum with ez:=ci,xe:=aX,jx:=ci} k/\d.ownsRow (z<|G w) 171 4 e (y<|kW a) (aK<|kW a)/\fJ w d s.aI b K c/\vq K c/\(∀k,c.aO s.aI k->K.aO s.aI k))\/∃c,fJ w d s.aI b K c/\vq K c/\0<K.fx.bd/\∃q,f=aM (eD q)/\lP d q 8
def Od(c:dS)(h:cS a b o k)(W:cG a o.aI i)(au:¬i.aO o.aI b)(hp:Pow a)(hT:Steps a)(bo:1≠b/\¬i.aO o.aI 1)(hl:o.log<18446744073709551616)(ac:Ac ((o.aS:X)+1) c)(p:dh (vw i.files) (fa o.log)=H (jZ ((o.aS:X)+1) c))(cM:y (jZ ((o.aS:X)+1) c)<=200000)(hm:o.memory=az)(bt:o.fm=0)(ed:o.aS<=1000000000)(dc:Ng a i b o []):cY aZ 25 #[aA b] a λan m=>I4 a m b o k i c an:=by
 have cT:=ak h;have ap:=yQ o.log hl hp;have dm:=cS.cellAt h 17 rfl;have eo:IntKind.u64.wrap ((o.aS:X)+1)=(o.aS:X)+1:=by rw[gH];omega
 obtain⟨rb,s⟩:∃rb,jZ ((o.aS:X)+1) c=rb:=⟨_,rfl⟩
 have ce:∀V,Z ay a V->aW V (R b 2)=H (aA o.aI)/\cY aZ 54 #[aA o.aI,am<|fa o.log] V λan m=>(∃x al,an=aM (dq #[I x (y rb) al,.nilIface])/\(cY aZ 56 #[I x (y rb) al,aE<|(o.aS:X)+1] m λan j=>∃x k D,an=aM (dq #[dC #[I x (y c) k,aN aX],aN ci])/\j.ownsRow (z (G m)+2) 86 1 (I x (y c) k) (y c) D/\FP j (z (G m)+2) D c/\Z ay m j)/\z (G a)<=z (G m)/\cS m b o k/\∃w,fJ a m o.aI b i w/\vq i w/\∀k,w.aO o.aI k->i.aO o.aI k)\/∃q,an=aM (dq #[az,eD q])/\I4 a m b o k i c (aM<|eD q)/\aW m (R q 1)=H (ar 8):=λV e=>by
  have g:cS V b o k:=(e.block b cT id).trans h;refine⟨g.cell rfl,?_⟩;refine(PU (db:=o.aI) (K:=i) (fa o.log) (bs:=rb) (w:=V) (W.aj e<|λ_ _=>id) (by rw[<-s];exact p)<|zN hl).mono ?_;rintro an m⟨w,S,e1,e3,⟨v',rfl,N⟩|⟨C,q,rfl,d⟩⟩;rotate_left
  .exact .inr ⟨q,rfl,.inr ⟨w,(oX (sbqq:=b) W e).trans<|fJ.of S,e1,C,q,rfl,d⟩,by obtain⟨ck,d,_⟩:=d;exact cellAt d 1 rfl⟩
  left;have n:=(oX (sbqq:=b) W e).trans<|fJ.of S;have l:cS m b o k:=(S.aj.block b (ak g) au).trans g;have B:Steps m:=λq d=>S.aj.cell (e.cell (hT q d) id<|cC _ _<|hT q d) bo.2<|ag (cC _ _<|hT q d) e.size;have r:z (G a)<=z (G m):=aC e.size S.aj.size;have P:=N;obtain⟨q1,⟨q2,q0⟩|⟨v,aa,ad,q2,av,hh,K,L,Q⟩⟩:=P
  .have t:rb=[]:=aL (by simpa using q0);have E:c=[]:=by
    cases c with
    |nil=>rfl
    |cons eq ax=>
     have h1:=UH (f:=(o.aS:X)+1) (lsqq:=eq::ax) (by simp);rw[s,t]at h1;simp at h1
   subst q2;refine⟨none,0,by rw[t];rfl,?_,r,l,w,n,e1,e3⟩;rw[t,E];exact LM _ m
  .subst q2;refine⟨H<|R v 0,aa,rfl,?_,r,l,w,n,e1,e3⟩;have:=Jj v 0 aa B ac (by rw[s];exact K) (by unfold maxLen at L;omega) (N.lt v rfl).2 (by rw[s];exact fc.bytes N);rw[s]at this;exact this
 obtain⟨HH,cs,cp,ec,HM⟩:=iO h ce ac s<|And.intro hm bt;have eb:=ac.sum;clear h W hp hT bo p cM ce ac s hm bt hl;generalize fa o.log=ck at*;go_in
 go_wp2_with fail
 apply ap.mono;rintro an w1⟨rfl,bq⟩;have bg:Z ay a w1:=Z.aR bq;obtain⟨k2,hr⟩:=cs w1 bg;have ei:=bg.size;clear bg bq ap;go_wp2_with fail
 apply hr.mono;rintro an w2(⟨rx,rc,rfl,bT,ej,aV,aU⟩|⟨q,rfl,hP,cd⟩);rotate_left;(.have e:=AV q 8 10 (by decide) w2 cd;have d:=U hP;clear hP hr cd;(go_wp2_with fail);apply e.mono;rintro an w3⟨rfl,hw⟩;subst w3;clear e;go_wp2;go_ret;show I4 _ _ _ _ _ _ _ (aM<|eD q);exact J d);have q9:=cS.cellAt aV 9 rfl;have bx:=VB 10 w2;obtain⟨bm,cn,cv⟩:=dz aV aU (show∃w,Ng w2 w b o []from by obtain⟨w,S,_⟩:=aU;exact⟨w,dc.fj S⟩);clear aV aU hr k2 dm;go_wp2_with fail
 apply bx.mono;rintro an dv⟨rfl,hw⟩;subst dv;go_wp2_with fail
 apply bT.mono;rintro an w3⟨x3,c3,D,rfl,bb,ba,bh⟩;obtain⟨x,A⟩:∃x,cN w3 (aw #[I x3 (y c) c3,aN aX] 140)=x:=⟨_,rfl⟩;have bi:Z ay w2 x:=by rw[<-A];exact bh.alloc _
 have O:Z ay w3 x:=by rw[<-A];exact(cF ay w3)
 have ek:=bh.size;have bd:z (G x)=z (G w3)+1:=by rw[<-A];simp
 have F:x.heap[z<|G w3]?=H (aw #[I x3 (y c) c3,aN aX] 140 (0,0)):=by rw[<-A];exact aJ _ rfl
 have br:cS x b o k:=(bi.block b (ak bm) id).trans bm;have bn:Row x 1 (I x3 (y c) c3) (y c) D:=dJ<|O.own bb<|λ_ _ al=>al;have bp:∀j(h1:j<y D)(a:j<y c),x.ownsRow (z (G w2)+2) 171 4 D[j] (y c[j]) (aK c[j]):=λj h1 a=>O.own (ba.2 j h1 a)<|λ_ _ al=>al;have ao:∀v,cK (I x3 (y c) c3)=H v->z (G w2)+2<=v/\v<z (G w3):=λv p=>bb.lt v p;have dT:=cellAt F 0 rfl;obtain⟨cx,cr,cw,cm,co,cl,aF,cu,cB⟩:=yr ba.1 bn bp ao F br bi bd A;clear bb ba bh O F br bn bp ao bi bd bT bx q9 A;go_wp2;rw[J cB];go_loopw [47] (λbl wr=>∃(j:M)(mv:ab),j<=y c/\bl=ar j/\cS wr b (o.wi mv j ((c.take j).map y).sum) k/\wr.ownsRow (z<|G a) 171 4 mv (y<|kW<|c.take j) (aK<|kW<|c.take j)/\Z (λk=>k=b) x wr) (λbl _=>y c-(intOf bl).toNat)
 (case atStart=>have an:=Lp o HM.1 HM.2;refine⟨0,az,bP _,by go_num,?_,cO _ _ _ _,Z.refl _ _⟩;show cS x b (o.wi az 0 0) k;rw[an];exact cl)
 case round=>
  obtain⟨j,mv,hj,rfl,d,g,l⟩:=hrel;have bd:=J cu;have el:=l.size;obtain⟨C,L⟩:∃C,o.aS+j=C:=⟨_,rfl⟩;obtain⟨t,n⟩:∃t,((c.take j).map y).sum=t:=⟨_,rfl⟩;have bf:=Kz (lsqq:=c) j;have bE:y c<=(c.map y).sum:=II<|λeq hl=>(cp.one eq hl).1;have ea:y c<=31:=by omega
  have bv:y (c.take j).flatten=t:=by rw[<-n,sk]
  have bc:=Hc<|c.take j;rw[n]at bc;rw[n]at bf;obtain⟨mx,mc,ca⟩:=aB g;have dn:=cS.cellAt d 7 rfl;have dr:aW wr (R b 8)=H (ar t):=by rw[<-n];exact d.cell rfl
  have ds:aW wr (R b 9)=H (aE C):=by rw[<-L];exact d.cell rfl
  by_cases K:j<y c
  .have e1:(j:X)<(y c:X):=by omega
   have e2:(0:X)<=(j:X):=by omega
   have bL:j<y D:=by rw[J cx];exact K
   have ad:=cw j bL K;have bk:∀v,cK D[j]=H v->z (G w2)+2<=v/\v<z (G x):=λv p=>ad.lt v p;have ch:=l.own ad (λv p al=>by have:=(bk v p).1;omega);have bu:∃b a,x3=H (R b a)/\aW wr (R b<|a+j)=H D[j]:=by
    obtain⟨q1,⟨q2,q0⟩|⟨v,E,dx,q2,eg,hc⟩⟩:=J cr
    .omega
    .cases q2;have ef:=cm v rfl;exact⟨v,E,rfl,l.cell (hc j _<|aQ bL) (by omega)<|by omega⟩
   obtain⟨b3,o3,dk,bu⟩:=bu;subst dk;have aa:((c.take<|j+1).map y).sum=t+y c[j]:=by rw[ai K,aP,fw,n];simp
   have N:=Kz (lsqq:=c)<|j+1;rw[aa]at N;have cc:gV [] (kW<|c.take j) c[j]=kW (c.take<|j+1):=by rw[ai K,zL]
   obtain⟨Kx,cf⟩:=J cv;obtain⟨mb,m1,m2,m3⟩:=cf.ex;have m4:oP wr mb (Zr []):=m2.dw<|((l.block mb (by have:=aF.size;have:=m3.lt;omega) m3.ne).trans<|aF.block mb m3.lt id);have ax:=Bx b (o.wi mv j ((c.take j).map y).sum) k [] D[j] c[j] d m1 m4 (by simp) (dJ g) (λv p=>(g.lt v p).2) (dJ ch) (λv p=>by have:=(bk v p).2;omega) (GZ _) (by omega);have cj:cY aZ 58 #[aA b,D[j]] wr λan m=>∃v',an=aM v'/\m.ownsRow (z<|G wr) 171 4 v' (y<|kW<|c.take<|j+1) (aK<|kW<|c.take<|j+1)/\Z ay wr m:=by rw[<-cc];exact ax
   clear ax m1 m2 m3 m4 cf;obtain⟨xj,et,av⟩:=aB ad;obtain⟨V,cE⟩:∃V,y c[j]=V:=⟨_,rfl⟩;rw[cE]at av aa N;generalize D[j]=vj at*;have em:IntKind.i64.wrap ((t:X)+(V:X))=(t:X)+(V:X):=by rw[bN];omega
   have en:IntKind.u64.wrap ((C:X)+1)=(C:X)+1:=by rw[gH];omega
   have HF:=U (show∀r e,Z ay wr r->r.ownsRow (z<|G wr) 171 4 e (y<|kW<|c.take<|j+1) (aK<|kW<|c.take<|j+1)->(aW r (R b 7)=H mv/\aW r (R b 8)=H (ar t)/\aW r (R b 9)=H (aE C)/\∀bl,r.frozen? (R b bl)=aX)/\cS (cq (cq (cq r (R b 7) e) (R b 8)<|ar<|(t:X)+V) (R b 9)<|aE<|(C:X)+1) b (o.wi e (j+1) ((c.take<|j+1).map y).sum) k/\(cq (cq (cq r (R b 7) e) (R b 8)<|ar<|(t:X)+V) (R b 9)<|aE<|(C:X)+1).ownsRow (z<|G a) 171 4 e (y<|kW<|c.take<|j+1) (aK<|kW<|c.take<|j+1)/\Z (λk=>k=b) x (cq (cq (cq r (R b 7) e) (R b 8)<|ar<|(t:X)+V) (R b 9)<|aE<|(C:X)+1)fromλr e P B=>by
    have E:cS r b (o.wi mv j ((c.take j).map y).sum) k:=(P.block b (ak d) id).trans d;have Q:Z (λk=>k=b) r (cq (cq (cq r (R b 7) e) (R b 8)<|ar<|(t:X)+V) (R b 9)<|aE<|(C:X)+1):=((gZ b r).setCell b 8 _<|.inl rfl).setCell b 9 _<|.inl rfl;refine⟨⟨E.cell rfl,by rw[<-n];exact E.cell rfl,by rw[<-L];exact E.cell rfl,λbl=>E.free⟩,?_,?_,(l.cz P).trans Q<|λ_ al=>.inl al⟩
    .have hx:=aH (i:=9) (u:=aE<|(C:X)+1)<|aH (i:=8) (u:=ar<|(t:X)+V)<|aH (i:=7) (u:=e) E;have e9:((C:X)+1)=((o.aS+(j+1):M):X):=by rw[<-L];grind
     have e8:((t:X)+V)=((((c.take<|j+1).map y).sum:M):X):=by rw[aa];grind
     rw[e9,e8]at hx|-;exact hx.trans rfl
    .exact fX (Q.own B (λv p al=>by have:=(B.lt v p).1;have:=ak d;omega)) (by omega))
   clear d g l ad bk ch aa N cc bc bv bf bE L n;subst ca;subst av;go_wp2_with fail
   apply cj.mono;rintro an r⟨e,rfl,B,P⟩;obtain⟨es,er,cb⟩:=aB B;obtain⟨⟨y7,y8,y9,fz⟩,hF⟩:=HF r e P B;have aD:=U hF;clear hF P B cj;subst cb;go_wp2;go_roundw;case rel=>exact⟨j+1,_,K,by go_num,aD.1,aD.2.1,aD.2.2⟩
   case measure=>simp[intOf];omega
  .have e1:¬(j:X)<(y c:X):=by omega
   have e:j=y c:=by omega
   have r:=(l.block _ (by omega)<|by omega).trans co;have y1:=cellAt r 1 rfl;have fz:∀bl,wr.frozen? (R b bl)=aX:=λbl=>d.free;have bk:=cS.cellAt d 18 rfl;have bu:=cS.cellAt d 19 rfl;have bL:=cS.cellAt d 20 rfl;have av:=ak r;have ax:=ak d;have aD:z (G w3)≠b:=by omega
   obtain⟨E,P,V,N⟩:=fY d g l e;clear d g l r e bf bE bv bc L n dn dr ds ca;go_wp2_with fail
   rename_i KK B;apply Gm KK
   .intro ad;go_region
    all_goals exact ad
   apply B;clear B;go_wp2;go_ret;have e:=J N;subst e;have d:=J E;have g:=J P;rw[bI]at d g;obtain⟨w,S,e3,e5⟩:=J cn;have Q:Z (λk=>k=b) wr ((cq (cq (cq wr (R b 18)<|aN ci) (R b 19)<|aN aX) (R b 20)<|aN ci).drew):=(((gZ b wr).setCell b 19 _<|.inl rfl).setCell b 20 _<|.inl rfl).trans (cZ _ _)<|λ_ al=>.inl al;have aa:=((aF.mono (T:=λk=>k=b) cL).trans V<|λ_ al=>.inl al).trans Q<|λ_ al=>.inl al;refine .inl ⟨rfl,mv,w,?_,Q.own g (λv p al=>by have:=(g.lt v p).1;omega),S.trans<|Tw S.ok (λq=>au<|e5 _ q) aa,e3,e5⟩;have hx:=aH (i:=20) (u:=aN ci)<|aH (i:=19) (u:=aN aX)<|aH (i:=18) (u:=aN ci) d;exact Eq.trans (show _=_ from hx) rfl
def j8(w c:Y)(b:M)(s:SR)(K:DK)(T:cW)(e:Ending):Prop:=∃a,List.Perm a (K.files.map da.name)/\xz w c s.aI K ((lC s.log T a).map .rm) e
def Wz(n p g r:cW)(S:cS a b o k)(hl:Dm a b 10 [(o.l0,n),(o.l1,p),(o.l2,g),(o.l3,r)])(hT:∀aa∈n++p++g++r,QC a aa)(hp:Pow a)(L:o.log<18446744073709551616)(Q:y (n++p++g++r)<=10000000)(f:cG a o.aI i)(x:¬i.aO o.aI b)(O:y i.gT+y i.files<=1000000000000)(K:y i.files<=100000000)(P:∀V∈i.files.map da.name,V=eh\/FN V):∀W t d,Z ay a W->List.Perm d (i.files.map da.name)->W.ownsRow (z<|G a) 9 1 t (y<|lC o.log (n++p++g++r) d) (strs<|lC o.log (n++p++g++r) d)->cY aZ 59 #[aA b,t] W λm D=>∃C,m=aM C/\j8 a D b o i (n++p++g++r) (aM C):=by
 intro W t d s e v;have c:(lC o.log (n++p++g++r) d).Sublist d:=eW;have l:(vw i.files).map (·.1)=i.files.map da.name:=by unfold vw;rw[gG];rfl
 have u:d.Nodup:=e.nodup_iff.2 (by rw[<-l];exact f.nodup);have h:∀A∈lC o.log (n++p++g++r) d,A∈i.files.map da.name:=λA q=>e.mem_iff.1<|c.subset q;have N:=c.length_le;have w:=e.length_eq;rw[dj]at w
 apply(En (K:=i) t (lC o.log (n++p++g++r) d) ((s.block b (ak S) id).trans S) (f.aj s<|λ_ _=>id) x (dJ v) (λj q=>⟨(v.lt j q).2,λF=>by have:=f.lt j F;have:=(v.lt j q).1;omega⟩) (u.sublist c) (λA q=>pF (by rw[l];exact h A q)) (by omega) (λA q=>by
  rcases P A (h A q)with m|m|⟨ac,B,m|m⟩
  .rw[m];exact EI
  .rw[m];exact Ov
  .rw[m];exact EH B
  .rw[m];exact zN B)).mono
 rintro m D⟨C,E,rfl,j⟩;exact⟨C,rfl,d,e,C,E,rfl,⟨j.nW.ok,(s.mono (T:=i.aO o.aI) cL).trans j.nW.aj<|λ_ q=>.inl q,λq g=>(j.nW.aO q g).imp id<|λF=>aC s.size F,j.nW.fx⟩,j.uz⟩
def TH(t u v w:cW)(h:cS a b o k)(A:Dm a b 10 [(o.l0,t),(o.l1,u),(o.l2,v),(o.l3,w)])(x:∀W∈t++u++v++w,QC a W)(C:Pow a)(e:o.log<18446744073709551616)(g:y (t++u++v++w)<=10000000)(c:cG a o.aI i)(p:¬i.aO o.aI b)(l:y i.gT+y i.files<=1000000000000)(d:y i.files<=100000000)(B:∀T∈i.files.map da.name,T=eh\/FN T):cY aZ 26 #[aA b] a λN Q=>j8 a Q b o i (t++u++v++w) N:=by
 have j:=Gf t u v w h A x C e g c d B;have n:=Wz t u v w h A x C e g c p l d B;have s:=U n;have r:=U j;clear n h A x C c B l d g e p j;generalize t++u++v++w=V at*;go_in
 go_wp2_with fail
 apply r.mono;rintro N S⟨O,rfl,K,m,f,q⟩;have E:=s S O K q m f;obtain⟨x1,c1,D⟩:=aB f;subst D;clear m f q;generalize lC o.log V K=aa at*;go_wp2_with fail
 apply E.mono;rintro N w2⟨P,rfl,F⟩;have L:=U F;clear F E;go_wp2;go_ret;show j8 _ _ _ _ _ _ (aM P);exact J L
structure TS(fs:Fs)(W:Y)(db sb:M)(f:DK)(u0 u1 u2 u3:ab)(a b c d a' b' c' d':cW):Prop where
 aI:cG W db f
 l0:Dn fs W f db sb u0 a'
 l1:Dn fs W f db sb u1 b'
 l2:Dn fs W f db sb u2 c'
 l3:Dn fs W f db sb u3 d'
 k0:js a a'
 k1:js b b'
 k2:js c c'
 k3:js d d'
 Hj:((a'++b'++c'++d').map bz.tb).Nodup
structure Ud(db:M)(K f:DK):Prop where
 GK:vq K f
 fx:Fx K.fx f.fx
 aO:∀k,f.aO db k->K.aO db k
theorem Ud.refl(db:M)(K:DK):Ud db K K:=⟨⟨rfl,rfl,rfl⟩,Fx.refl _,λ_ h=>h⟩
theorem Ud.trans{db:M}{K j f:DK}(h:Ud db K j)(k:Ud db j f):Ud db K f:=⟨h.GK.trans k.GK,h.fx.trans k.fx,λq c=>h.aO q<|k.aO q c⟩
section
variable{fs fs':Fs}{W m:Y}{db sbqq:M}{K j f n:DK}{u0 u1 u2 u3:ab}{a b c d a' b' c' d':cW}
theorem TS.Vq(h:TS fs W db sbqq f u0 u1 u2 u3 a b c d a' b' c' d'):js (a++b++c++d) (a'++b'++c'++d'):=((h.k0.append h.k1).append h.k2).append h.k3
theorem TS.fj(p:TS fs W db sbqq f u0 u1 u2 u3 a b c d a' b' c' d')(o:fJ W m db sbqq f n)(q:∀t∈a++b++c++d,dh fs' (fQ t.num)=dh fs (fQ t.num)):TS fs' m db sbqq n u0 u1 u2 u3 a b c d a' b' c' d':=by
 have h:∀t∈a'++b'++c'++d',dh fs' (fQ t.num)=dh fs (fQ t.num):=λt k=>by obtain⟨u,r,s⟩:=p.Vq.mem k;rw[<-rI s];exact q u r
 exact⟨o.ok,p.l0.fj o (λt k=>h t<|by simp[k]),p.l1.fj o (λt k=>h t<|by simp[k]),p.l2.fj o (λt k=>h t<|by simp[k]),p.l3.fj o (λt k=>h t<|by simp[k]),p.k0,p.k1,p.k2,p.k3,p.Hj⟩
theorem TS.aj(o:TS fs W db sbqq f u0 u1 u2 u3 a b c d a' b' c' d')(h:Z (λq=>q=sbqq) W m)(k:¬f.aO db sbqq):TS fs m db sbqq f u0 u1 u2 u3 a b c d a' b' c' d':=o.fj ⟨o.aI.aj h<|λr c p=>k<|p▸c,h.mono<|λ_ c=>.inl<|.inr c,λ_ c=>.inl c,Fx.refl _⟩<|λ_ _=>rfl
theorem oH.of{t:bz}(h:Bl t):t.oH:=by
 refine⟨h.num,by have:=h.small;omega,?_⟩;rw[h.ks];have o:=mF (ks:=bW 0 t.cs)<|λp k=>(h.idx.can p k).fits;have k:=h.idx.len;unfold fI;rw[af,cH];omega
theorem vG{w:Y}{h r:M}{v:ab}{q:gW}(s:Row w h v r q):∃x c,v=I x r c:=by
 obtain⟨u,⟨p,t⟩|⟨A,o,k,p,_⟩⟩:=s;grind
 grind
theorem Dl.ZJ{E W:Y}{gb lb:M}{mv:gW}{v:cJ cW}(u:Dl E W db j f gb lb mv [u0,u1,u2,u3] v)(O:pq v=pq [a,b,c,d])(ac:sbqq<z (G E))(B:∀t∈a++b++c++d,Bl t)(hf:∀t∈a++b++c++d,dh fs (fQ t.num)=H (nC t.cs)):∃a' b' c' d',TS fs W db sbqq f u0 u1 u2 u3 a b c d a' b' c' d':=by
 have D:=u.FW;obtain⟨a',b',c',d',rfl⟩:∃a' b' c' d',v=[a',b',c',d']:=by rcases v with _|⟨o,_|⟨F,_|⟨T,_|⟨v3,_|⟨v4,aa⟩⟩⟩⟩⟩<;>simp at D;grind
 simp only[pq,cy,gR,mP,vr]at O;obtain⟨s0,s1,s2,s3⟩:=O;have P:js a a':=s0;have Q:js b b':=s1;have S:js c c':=s2;have V:js d d':=s3;have L:=u.ord;have q:js (a++b++c++d) (a'++b'++c'++d'):=((P.append Q).append S).append V;have r:=q.Us B;have k:∀x,lb<x->x<z (G W)->Aside W f db sbqq x:=λx o h=>⟨h,λc=>by have:=u.low x<|u.same.2.2 x c;omega,by omega⟩;have s:∀t∈a'++b'++c'++d',rV W db fs (Aside W f db sbqq) t:=λt h=>by obtain⟨F,o,A,T,g2,g3,g4,_⟩:=u.oK t (by simpa using h);obtain⟨q1,q2,q3,q4,q5⟩:=r t h;refine⟨⟨F,0,o,A,k F g3 g4⟩,k t.tb T g2,q1,q5,q2,q3,q4,?_⟩;obtain⟨ad,hu,aa⟩:=q.mem h;rw[<-rI aa,<-yK aa];exact hf ad hu
 have p:∀(F:M)(aa:ab)(T:cW),[u0,u1,u2,u3][F]?=H aa->[a',b',c',d'][F]?=H T->(∀t∈T,t∈a'++b'++c'++d')->Dn fs W f db sbqq aa T:=λF aa T o hT A=>
  ⟨dJ<|u.rows F aa T o hT,λx p=>k x (u.own o p).1 (u.own o p).2,λt h=>s t<|A t h⟩
 refine⟨a',b',c',d',u.aI,p 0 _ _ rfl rfl (λt h=>by simp[h]),p 1 _ _ rfl rfl (λt h=>by simp[h]),p 2 _ _ rfl rfl (λt h=>by simp[h]),p 3 _ _ rfl rfl (λt h=>by simp[h]),P,Q,S,V,?_⟩;have:=u.Hj;grind
end
structure ub(w:Y)(db:M)(mem kG:X)(K:DK)(C N:M)(i:RS)(nx l tb:M)(a b c d:cW)(ez:Bool)(ls:dS):Prop where
 aI:cG w db K
 oN:YL (vw K.files) mem kG C N i nx l tb a b c d ez ls
 kK:C<=1000000
 zF:N<=100000000
 gT:∀ns,List.Perm ns (K.files.map da.name)->y K.gT+y (lC l (a++b++c++d) ns)<=9000000+2*N
 steps:Steps w
 pow:Pow w
 fS:¬K.aO db 1
 ml:¬K.aO db 2
section
variable{w w':Y}{db:M}{mem g:X}{K:DK}{C N:M}{i:RS}{nx l tbqq:M}{a b c d:cW}{e:Bool}{lsqq:dS}
theorem ub.aj(h:ub w db mem g K C N i nx l tbqq a b c d e lsqq)(k:Z ay w w'):ub w' db mem g K C N i nx l tbqq a b c d e lsqq:={h with aI:=h.aI.aj k<|λ_ _=>id,steps:=Steps.aj h.steps k id,pow:=h.pow.aj k id}
theorem Aq(fs:cJ da):(vw fs).map (·.1)=fs.map da.name:=by unfold vw;rw[gG];rfl
theorem ub.files(h:ub w db mem g K C N i nx l tbqq a b c d e lsqq):y K.files<=4000000:=by
 have:=h.oN.qD.Kj.len h.aI.nodup;simpa[vw]using this
theorem ub.count(o:ub w db mem g K C N i nx l tbqq a b c d e lsqq):y (a++b++c++d)<=1000000:=by
 have k:=o.oN.qD.iP;have p:=rG (ts:=a) (λt h=>k t<|by simp[h]);have q:=rG (ts:=b) (λt h=>k t<|by simp[h]);have r:=rG (ts:=c) (λt h=>k t<|by simp[h]);have s:=rG (ts:=d) (λt h=>k t<|by simp[h]);have:=o.oN.rE;have:=o.kK;simp only[af];omega
theorem ub.qf(B:ub w db mem g K C N i nx l tbqq a b c d e lsqq)(t:dh (vw K.files) eh=none):∀W,Pow W->∀v∈K.files.map da.name,YN W v:=by
 intro W u v r;rw[<-Aq]at r;obtain⟨q,h⟩:=pF r;have k:=B.oN.qD.first t v q;rcases B.oN.qD.names v q h with o|o|⟨A,s,o|o⟩;rw[o,t]at h;cases h;exact⟨0,aX,by omega,λm _=>by rw[o];exact ED m⟩;exact⟨A,ci,k A h<|.inl o,λm p=>by rw[o];exact EB s<|u.aj p id⟩;exact⟨A,ci,k A h<|.inr o,λm p=>by rw[o];exact EE s<|u.aj p id⟩
theorem Sq{sbqq:M}{aV:X}{P:SR}(bb:cS w sbqq P aV)(hs:P.aI=db)(L:¬K.aO db sbqq)(o:ub w db mem g K C N i nx l tbqq a b c d e lsqq):cY aZ 24 #[aA sbqq] w λT w'=>(T=aM .nilIface/\∃u0 u1 u2 u3,cS w' sbqq (P.wA u0 u1 u2 u3 nx l tbqq<|decide<|0<y K.files) aV/\(∃f a' b' c' d',TS (vw K.files) w' db sbqq f u0 u1 u2 u3 a b c d a' b' c' d'/\Ud db K f)/\Z (λq=>K.aO db q\/q=sbqq) w w')\/0<K.fx.bd/\∃q,T=aM (eD q)/\Af w' q/\(∃f,cG w' db f/\Ud db K f)/\Z (λq=>K.aO db q\/q=sbqq) w w':=by
 subst hs;have t:=o.aI;have v:=o.oN.qD;have O:=ak bb;have aU:=o.count;have ap:nx<18446744073709551616:=by have:=o.oN.nx;have:=o.zF;omega
 have ax:tbqq<18446744073709551616:=by have:=o.oN.bn;have:=o.zF;omega
 have aa:y K.files<=100000000:=by have:=o.files;omega
 refine XY w sbqq P aV nx l tbqq (y K.files) (λw' v0 v1 v2 v3=>∃j,cG w' P.aI j/\Ud P.aI K j/\Z (K.aO P.aI) w w'/\∀(A:M)(Q:ab)(S:cW),[v0,v1,v2,v3][A]?=H Q->[a,b,c,d][A]?=H S->Row w' 4 Q (y S) (dy S)/\∀q,cK Q=H q->z (G w)<=q/\q<z (G w')) (λw' u0 u1 u2 u3=>∃f a' b' c' d',TS (vw K.files) w' P.aI sbqq f u0 u1 u2 u3 a b c d a' b' c' d'/\Ud P.aI K f) (λw'=>∃f,cG w' P.aI f/\Ud P.aI K f) (K.aO P.aI) bb t.lt L ?_ ?_ ?_ ?_;rintro W m⟨f,x,k⟩u;exact⟨f,x.aj u<|λq c T=>L<|k.aO _<|T▸c,k⟩;rcases v.state with x|⟨x,rfl,rfl,rfl,rfl,rfl,rfl,rfl⟩;apply(Sn nx l tbqq [a,b,c,d] t o.steps o.fS rfl ap v.lt ax (by grind) (λaF u=>oH.of<|v.iP aF<|by simpa using u) (by simpa using v.qf) (λaF u=>v.low aF<|by simpa using u) x).mono;rintro T w'(⟨x0,V,c0,x1,n1,c1,x2,n2,c2,x3,n3,c3,rfl,h,j,k,B,D⟩|⟨j,k,B,D,F,q,rfl,p⟩);exact .inl ⟨x0,V,c0,x1,n1,c1,x2,n2,c2,x3,n3,c3,rfl,⟨j,k.ok,⟨B,k.fx,D⟩,k.aj,λA Q S s E=>⟨dJ<|h A Q S s E,λq p=>(h A Q S s E).lt q p⟩⟩,k.aj⟩;exact .inr ⟨F,q,rfl,p,k.aj,j,k.ok,B,k.fx,D⟩;refine(Sp t aa o.pow o.ml (o.qf x) x).mono ?_;rintro T w'⟨j,k,B,D,rfl|⟨F,q,rfl,p⟩⟩;refine .inl ⟨none,0,0,none,0,0,none,0,0,none,0,0,rfl,⟨j,k.ok,⟨B,k.fx,D⟩,k.aj,λA Q S s E=>?_⟩,k.aj⟩;(have T:Q=az/\S=[]:=by rcases A with _|_|_|_|A<;>simp at s E<;>exact⟨s.symm,E⟩);rw[T.1,T.2];exact⟨⟨rfl,.inl ⟨rfl,rfl⟩⟩,λq p=>by cases p⟩;exact .inr ⟨F,q,rfl,p,k.aj,j,k.ok,B,k.fx,D⟩;(.rintro W1 W v0 v1 v2 v3⟨j,ac,k,av,h⟩x;obtain⟨x0,c0,e0⟩:=vG (h 0 _ _ rfl rfl).1;obtain⟨x1,c1,B⟩:=vG (h 1 _ _ rfl rfl).1;obtain⟨x2,c2,e2⟩:=vG (h 2 _ _ rfl rfl).1;obtain⟨x3,c3,D⟩:=vG (h 3 _ _ rfl rfl).1;subst e0 B e2 D;have F:Z (K.aO P.aI) w W:=av.cz x;refine(Ez (db:=P.aI) (K:=j) [a,b,c,d] x0 x1 x2 x3 _ c0 _ c1 _ c2 _ c3 (ac.aj x<|λ_ _=>id) (Steps.aj o.steps F o.fS) (o.pow.aj F o.ml) (λq=>o.fS<|k.aO _ q) (λq=>o.ml<|k.aO _ q) rfl (λA Q ba s r=>x.row (h A Q ba s r).1<|λq p=>⟨id,((h A Q ba s r).2 q p).2⟩) (λA Q s q p=>?_) (λaF u=>v.iP aF<|by simpa using u) (λaF u=>by rw[k.GK.1];exact v.oK aF<|by simpa using u) (λA ba hj r=>?_)<|by grind).mono ?_;(have hj:∃S,[a,b,c,d][A]?=H S:=by rcases A with _|_|_|_|A;simp_all;simp_all;simp_all;simp_all;simp at s);obtain⟨S,E⟩:=hj;have V:=(h A Q S s E).2 q p;exact⟨ag V.2 x.size,λh=>by have:=t.lt q<|k.aO q h;omega⟩;have V:=o.oN.s1;have g2:=o.oN.s2;have g3:=o.oN.s3;rcases A with _|_|_|_|A;omega;simp at r;rw[<-r];exact V;simp at r;rw[<-r];exact g2;simp at r;rw[<-r];exact g3;simp at r;(.rintro T w'(⟨y0,m0,d0,y1,m1,d1,y2,m2,d2,y3,m3,d3,rfl,f,Ts,V,au⟩|⟨hx,q,rfl,p,aD,f,ad,⟨an,ao⟩,al⟩);rotate_left;exact⟨none,0,0,none,0,0,none,0,0,none,0,0,_,rfl,.inr ⟨k.fx.pos t.wS hx,q,rfl,p,f,ad,k.trans ⟨an,ao,al⟩⟩,aD.mono<|λq c=>.inl<|k.aO q c⟩;refine⟨y0,m0,d0,y1,m1,d1,y2,m2,d2,y3,m3,d3,_,rfl,.inl ⟨rfl,?_⟩,V.aj.mono<|λq c=>.inl<|k.aO q c⟩;obtain⟨a',b',c',d',p⟩:=V.ZJ (sbqq:=sbqq) (fs:=vw K.files) au (ag O F.size) v.iP v.oK;exact⟨f,a',b',c',d',p,k.trans ⟨V.same.2.1.1,V.same.2.1.2,V.same.2.2⟩⟩));rintro W u0 u1 u2 u3⟨f,a',b',c',d',p,r⟩m u;have k:=p.aj u<|λc=>L<|r.aO _ c;refine⟨⟨f,a',b',c',d',k,r⟩,?_⟩;refine(EV k.aI (by rw[r.GK.1];exact aa)).mono ?_;rintro T w'⟨v',ns,rfl,V,F,ac⟩;obtain⟨ad,cc,s⟩:=aB F;(have x:y ns=y K.files:=by have:=V.length_eq;rw[r.GK.1]at this;grind);rw[s,x];grind
end
def Lc{o:Func}{u:Tmp}(x:o.results=#[.cell u 92])(a:Array ab)(w:Y)(q:M)(k l m n:Option Addr)(g h i j c d e f:M)(v:TypeId)(p:M×M)(t:a.getD u iH=aA q)(r:w.heap[q]?=H (aw #[I k g c,I l h d,I m i e,I n j f] v p)):(results o a).run aZ w=.ok (dC #[I k g c,I l h d,I m i e,I n j f]) w:=by
 have b:a[u]?.getD iH=aA q:=by simpa using t
 have s:=ku (P:=aZ) w q v 92 #[I k g c,I l h d,I m i e,I n j f] p _ r underlying92 rfl (by kernel_rfl);simp[results,x,b,asAddr,s]
def Sw(p:eR)(h:kC a d e)(hm:Row a 1 s (y p) (p.map<|Value.int .u64))(hs:dV e)(hg:∀aF∈e,aF.Good)(hl:y e<=1000000)(h4:y p<=4)(hv:∀m,cK d=H m->m<z (G a))(v:∀m,cK s=H m->m<z (G a))(hT:Steps a)(au:1<z (G a)):cY aZ 124 #[d,s] a λaa w'=>∃v3,∃l:cW,aa=aM (dC #[az,az,az,v3])/\w'.ownsRow (z<|G a) 186 1 v3 (y l) (l.map bz.ptr)/\l.map bz.all=gC (gA<|dI p e)/\qu w' (z<|G a) l/\Z ay a w':=by
 have k:Z ay a (cN a<|aw #[az,az,az,az] 92):=(cF ay a);have F:(cN a<|aw #[az,az,az,az] 92).heap[z<|G a]?=H (aw #[az,az,az,az] 92 (0,0)):=aJ _ rfl;have V:z (G<|cN a<|aw #[az,az,az,az] 92)=z (G a)+1:=by simp
 have P:=zO p (k.row h<|λm f=>⟨id,hv m f⟩) hs hl (k.row hm<|λm f=>⟨id,v m f⟩) (by omega) (λm f=>ag (hv m f) k.size)<|λm f=>ag (v m f) k.size;obtain⟨x1,n1,av⟩:=bY h;obtain⟨x2,n2,ax⟩:=bY hm;obtain⟨an,ac,al⟩:=dz k F hT;clear h hm hv v k F hT;subst av ax;go_in
 go_wp2_with fail
 apply P.mono;rintro aa w2⟨v2,rfl,n,x⟩;have L:=MZ (dJ n) (hs.sub<|jn p e) (aC (jn p e).length_le hl)<|λm f=>(n.lt m f).2;obtain⟨y2,d2,rfl⟩:=aB n;have ao:=U<|an.cz x;have C:=U<|(x.block _ (by rw[V];omega) id).trans ac;clear n x P;go_wp2_with fail
 apply L.mono;rintro aa w3⟨v3,rfl,o,A⟩;have g:=(kq<|dI p e).trans<|jn p e;have E:=U<|ao.cz A;have Q:=ve (dJ o) (hs.sub g) (((yI hs).sub<|kq _).mono<|by omega) (λaF a=>hg aF<|g.subset a) (aC g.length_le hl) (λm f=>(o.lt m f).2)<|λm f=>E.cell (al m f) id au;obtain⟨y3,d3,rfl⟩:=aB o;have r:=U<|(A.block _ (ak C) id).trans C;clear o A L g;go_wp2_with fail
 apply Q.mono;rintro aa w4⟨v4,l,rfl,w,T,N,B⟩;have c:=(B.block _ (ak r) id).trans r;have aD:z (G a)+1<=z (G w3):=by have:=ak r;omega
 have ap:=U<|E.cz B;obtain⟨y4,d4,rfl⟩:=aB w;have HR:=U<|And.intro w (And.intro T N);have g0:=cellAt c 0 rfl;have g1:=cellAt c 1 rfl;have g2:=cellAt c 2 rfl;have g3:=cellAt c 3 rfl;have f0:=cP (i:=0) c;have f1:=cP (i:=1) c;have f2:=cP (i:=2) c;have f3:=cP (i:=3) c;obtain⟨t,u⟩:∃t,cq (cq (cq (cq w4 (R (z<|G a) 0) az) (R (z<|G a) 1) az) (R (z<|G a) 2) az) (R (z<|G a) 3) (I y4 (y l) d4)=t:=⟨_,rfl⟩;have K:t.heap[z<|G a]?=H (aw #[az,az,az,I y4 (y l) d4] 92 (0,0)):=by rw[<-u];exact ET c
 have j:Z (λq=>q=z (G a)) w4 t:=by rw[<-u];exact(((gZ (z<|G a) w4).setCell _ _ _<|.inl rfl).setCell _ _ _<|.inl rfl).setCell _ _ _<|.inl rfl
 have W:Z ay a t:=ap.trans j<|λm aa=>.inr (by have e':m=z (G a):=aa;omega);have S:t.ownsRow (z<|G a) 186 1 (I y4 (y l) d4) (y l) (l.map bz.ptr):=fX (j.own HR.1 (λm f c=>by have c':m=z (G a):=c;have:=(HR.1.lt m f).1;omega)) (by omega);have O:qu t (z<|G a) l:=(HR.2.2.other j (λm aa=>by have e':m=z (G a):=aa;rw[e'];grind)).base (by omega);have ad:=U K;have D:=U<|And.intro S (And.intro HR.2.1 (And.intro O W));clear w T N B c K j W S O Q;go_wp2;clear u g0 g1 g2 g3 f0 f1 f2 f3;refine ct (Lc rfl _ _ (z<|G a) none none none y4 0 0 0 (y l) 0 0 0 d4 _ _ rfl ad) rfl ?_;exact⟨_,l,rfl,D⟩
def ji.nil:ji []:=⟨by simp,dV.nil,by simp⟩
def UU(h:rV a b F p O):Nt a O:=by
 obtain⟨f,d,c,e,_⟩:=h.mem;exact⟨_,_,_,_,_,_,_,_,_,e⟩
def Vd(h:WV a b O):Nt a O:=by
 obtain⟨e,c,x,d,h⟩:=h;exact⟨_,_,_,_,_,_,_,_,_,h.mem⟩
def Dn.St(h:Dn F a i c g d j)(f:y j<=1000000000):iW a d j:=⟨h.row,λl e=>(h.loc l e).lt,λt k=>UU<|h.each t k,f⟩
def EW(w:Y):iW w az []:=⟨⟨rfl,.inl ⟨rfl,rfl⟩⟩,λk a=>(by cases a),by simp,by simp⟩
def LS.least{O Q:ab}{S o:cW}(r:LS a b c g i j [] m d s L O W u v S)(B:Z (i.aO b) a f)(K:(nD b i).D f)(w:qu f (z<|G a) o)(p:o.map bz.all=gC e)(A:dV e)(k:qV 5 e)(t:∀aa∈e,aa.Good)(x:f.ownsRow (z<|G a) 186 1 Q (y o) (o.map bz.ptr))(F:y e<=m):∃q,LS f b c g i j q m az az az Q [] [] [] o:=by
 have h':=r.aj B K;obtain⟨q,T,C,D,E,V,N⟩:=r.pB B w p A k t;rw[cV]at C D E;have l:=lF p;have h:Row f 1 az (y ([]:cW)) (([]:cW).map bz.ptr):=⟨rfl,.inl ⟨rfl,rfl⟩⟩;refine⟨q,{h' with news:=C,apart:=D,r0:=h,r1:=h,r2:=h,r3:=dJ x,b0:=λP n=>(by cases n),b1:=λP n=>(by cases n),b2:=λP n=>(by cases n),b3:=wl x r.aO r.KL r.le,x0:=by simp,x1:=by simp,x2:=by simp,x3:=E,nodup:=by simpa using N,s1:=ji.nil,s2:=ji.nil,s3:=GL p w.each A k t,rE:=?_}⟩;rw[l];simpa[bZ]using F
def Rg:∀(a:dS)(d:M)(c:cR),d+y a.flatten=b->(∀k∈a,k≠[])->y (jw 1 b 0 d c a)<=1:=by
 intro a;induction a with
 |nil=>intro _ _ _ _;simp[jw]
 |cons k a j=>
  intro d c e f;rw[bK,af]at e;rw[nM];split
  .rename_i l;have i:a=[]:=by
    cases a with
    |nil=>rfl
    |cons g h=>
     have m:=gl.2 (f g<|by simp);rw[bK,af]at e;simp at l;omega
   rw[i];simp[jw]
  .exact j _ _ (by omega)<|λq a=>f q<|by simp[a]
def RP{l:cR}(h:y l<=96):y (gC l)<=1:=by
 by_cases c:l=[];have:=uC l;rw[c]at this|-;exact aC this (by simp);have b:=wu c;(have a:rZ (y l)=1:=by unfold rZ at*;omega);unfold gC;rw[a];exact Rg _ _ _ (by rw[ou];omega)<|AT l
structure Ze(w W:Y)(sb lb:M)(s:SR)(k:X)(K:DK)(m:cR)(a b c d:cW)(C tb N:M)(ls:dS)(sn:gz)(v3:ab)(tm:cW)(qs:cJ NT):Prop where
 sv:SV w sb s k lb K (a++b++c++d) C s.aS (rf sn) (λt=>eQ t<|m::bU a b c d) W az az az v3 [] [] [] tm qs
 zn:∃K',fJ w W s.aI sb K K'/\Inv W sb s K' m a b c d C tb N ls sn
 n7:iW W v3 tm
 MO:kg tm<=1000000000
 len:kg tm=y (gA<|dI (rf sn)<|cQ<|m::bU a b c d)
def Ze.aj{K:Y}{O:DK}{ac b ad al:cW}{aa:M}{N:gz}{L:cJ NT}(p:Ze a A c g o k O e ac b ad al m D aa l N d j L)(h:Z ay A K):Ze a K c g o k O e ac b ad al m D aa l N d j L:=by
 obtain⟨P,W,v⟩:=p.zn;have t:=oX (sbqq:=c) v.st.aI h;refine⟨⟨p.sv.ls.aj (h.mono cL)<|(nD o.aI O).eY p.sv.ls.D h cL,(h.block g (ak p.sv.lb) id).trans p.sv.lb,p.sv.pr,p.sv.sG,(h.block c (ak p.sv.box) id).trans p.sv.box,p.sv.aj.cz h,p.sv.fst⟩,⟨P,W.trans t,v.fj (ak p.sv.box) t rfl (ah _) rfl v.loose⟩,⟨h.row p.n7.row<|λk w=>⟨id,p.n7.lt k w⟩,λk w=>ag (p.n7.lt k w) h.size,λan C=>?_,p.n7.small⟩,p.MO,p.len⟩;obtain⟨V,q,cut,r,E,Q,s,n,u,B⟩:=p.n7.each an C;exact⟨V,q,cut,r,E,Q,s,n,u,B.dw (h.block _ B.lt.1 id)<|h.block _ B.lt.2 id⟩
def ZP{ac:Y}{k:X}{F b K L:cW}{v:dS}{w:gz}(aF:cS a c o k)(r:Inv a c o i e F b K L m D S v w)(hp:n.Perm (rf w))(ad:(nD o.aI i).D f)(V:Z (i.aO o.aI) a f)(an:Z ay f A)(ho:A.ownsRow (z<|G f) 186 1 d (y j) (j.map bz.ptr))(s:j.map bz.all=gC (gA<|dI n<|cQ<|e::bU F b K L))(hn:qu A (z<|G f) j)(hW:Z ay A ac)(hl:ac.heap[g]?=H (aw #[az,az,az,d] 92 (0,0))):∃qs,Ze a ac c g o k i e F b K L m D S v w d j qs:=by
 rw[EK hp]at s;have C:=ak aF;have h:=r.all;obtain⟨p1,p2,p3⟩:=JO h s;have u:dV (cQ<|e::bU F b K L):=oU h.mj h.pB;have t:=(kq<|dI (rf w)<|cQ<|e::bU F b K L).trans<|jn (rf w)<|cQ<|e::bU F b K L;have x:∀ax∈cQ (e::bU F b K L),ax.Good:=λax hx=>h.iP ax<|(eN _).mem_iff.1 hx;have ao:qV 5 (gA<|dI (rf w)<|cQ<|e::bU F b K L):=((yI u).sub<|kq _).mono (by rw[qK];have:=r.Ae.len;omega);have O:=lF s;have au:=r.st.rE;have aa:=r.st.kK;have W:Z ay f ac:=an.cz hW;have p:Z (i.aO o.aI) a ac:=V.cz W;have N:(nD o.aI i).D ac:=(nD o.aI i).eY ad W cL;have P:qu ac (z<|G f) j:=hn.aj hW;have B:ac.ownsRow (z<|G f) 186 1 d (y j) (j.map bz.ptr):=hW.own ho<|λ_ _ q=>q;have al:=r.st.r7 (C':=m) C r.Hj (by omega) aa;have Q:=V.size;obtain⟨qs,E⟩:=al.least p N (P.base Q) s (u.sub t) ao (λax hx=>x ax<|t.subset hx) (fX B Q) (by rw[<-O];omega);obtain⟨K',hd,e1,e2,e3⟩:=Og (sbqq:=c) (fJ.refl r.st.aI) N p;have hb:cS ac c o k:=(p.block c C r.st.wR).trans aF;refine⟨qs,⟨E,hl,p1,p2,hb,p,λq=>?_⟩,⟨K',hd,r.fj C hd (by rw[e1]) (by rw[e2.1];grind) rfl r.loose⟩,⟨dJ B,λk hk=>(B.lt k hk).2,λav T=>Vd<|P.each av T,?_⟩,?_,?_⟩;(have ap:y j=y (gC<|gA<|dI (rf w)<|cQ<|e::bU F b K L):=by rw[<-s];simp);have aD:=r.ZG;(have h5:y (cQ<|e::bU F b K L)=y e:=by have hq:=bS y q;simp only[af,dG]at hq;have e0:F=[]:=aL (by omega);have e1:b=[]:=aL (by omega);have e2:K=[]:=aL (by omega);have e3:L=[]:=aL (by omega);rw[(eN _).length_eq,e0,e1,e2,e3];simp[bU,bZ]);have h6:=t.length_le;have h7:=RP (l:=gA<|dI (rf w)<|cQ<|e::bU F b K L) (by omega);simp only[dG];omega;have:=jz E.s3.pure;omega;rw[wJ<|λav T=>E.ks<|E.x3 av T];omega;rw[wJ<|λav T=>E.ks<|E.x3 av T,O]
def Nd{l b n p:cW}(j:ST a c o i e l b n p m)(f:Y)(t:ab)(s:Z ay a f)(r:f.ownsRow (z<|G a) 169 1 t (y (pt (o.l0,l) (o.l1,b) (o.l2,n) (o.l3,p))+1) (xQ o.memory (o.l0,l) (o.l1,b) (o.l2,n) (o.l3,p))):cY aZ 123 #[t,am ⟨#[]⟩] f λB u=>∃A v,B=aM A/\jf (nD o.aI i) (z<|G a) A (cQ<|e::bU l b n p) v u/\(nD o.aI i).D u/\Z (nD o.aI i).F f u/\(∀k,v k->z (G f)<=k):=by
 have hF:∀k,(nD o.aI i).F k->k<z (G a):=j.aI.lt;have d:kO (nD o.aI i) (z<|G a) ay a f:=s.same (ah _) cL cL;have h:y (oz o e l b n p)=y (pt (o.l0,l) (o.l1,b) (o.l2,n) (o.l3,p))+1:=by have:=bS y<|yL o e l b n p;rw[dj]at this;rw[this];simp[xQ]
 have w:=j.count;have x:=BJ (z<|G a) (oz o e l b n p) t ⟨#[]⟩ (by rw[yL,h];exact dJ r) (λk f=>⟨(r.lt k f).2,λq=>by have:=hF k q;have:=(r.lt k f).1;omega⟩) (by simp only[oz,aY,af,List.length_reverse,dj,dG];omega) (λe a=>(j.JA _<|aq a).same d) ((nD o.aI i).eY j.Sb s cL) s.size hF;rw[qL,oB (g:=id)<|λl _=>Mx l,xF]at x;exact x
def M7(a b c d:cW)(n:M):Prop:=a=[]/\b=[]/\c=[]/\kg d=n
def Xb(w n:Y)(a:M)(s:SR)(o:X)(K:DK)(C N:M)(m:gz)(k:M)(i:X->ae->Option ae)(p:M):Prop:=∃l h j d e f g c b,FO w n a s o K C N m k i l h j d e f g c b/\M7 d e f g p
def D7(w e:Y)(a:M)(s:SR)(k:X)(K:DK)(C N:M)(f:gz)(d:M)(c:X->RS)(n:M)(v:ab):Prop:=(v=.nilIface/\Xb w e a s k K C N f d c n)\/L4 w e a s k K C N (c d) (c d) (aM v)
def map_nil(h:j.map bz.all=([]:cW).map bz.all):j=[]:=by simpa using h
def MM{S b C aa:cW}(w:gz)(h:cS a c o k)(d:Inv a c o x e S b C aa g m D l w)(hT:FJ o S b C)(hN:D+1<=100000000)(dk:x.fx.room<1000000000):cY aZ 78 #[aA c] a λac F=>∃ba,ac=aM ba/\D7 a F c o k x g (D+1) w o.aS (λad=>eQ ad<|e::bU S b C aa) (y<|gA<|dI (rf w)<|cQ<|e::bU S b C aa) ba:=by
 obtain⟨mx,mc,dc⟩:=bY d.st.mem;have cp:=Ei (o.l0,S) (o.l1,b) (o.l2,C) (o.l3,aa) h mx (y e) mc dc<|d.st.E3 h;have bm:=Nd d.st;have Q:=d.all;have bl:=d.st.flat;have bh:=d.st.kK;have cc:y (cQ<|e::bU S b C aa)<=1000000:=by have:=(eN<|e::bU S b C aa).length_eq;omega
 have br:=ak h;obtain⟨mb,q1,q2,q3⟩:=d.Ae.ex;have h4:=d.Ae.len
 have cm:∀n,Z (x.aO o.aI) a n->cY aZ 97 #[aA c] n λac F=>∃e,∃E:eR,ac=aM e/\E.Perm (rf w)/\F.ownsRow (z<|G n) 88 1 e (y E) (E.map<|Value.int .u64)/\Z ay n F:=λn ht=>
  ya (b:=mb) w ((ht.block c br d.st.wR).trans h) q1 (q2.dw<|ht.block _ q2.lt q3.aO) h4
 have bo:∀n P ba c(E:eR),Z (x.aO o.aI) a n->Z ay n P->E.Perm (rf w)->n.ownsRow (z<|G a) 171 4 ba (y<|cQ<|e::bU S b C aa) (aK<|cQ<|e::bU S b C aa)->P.ownsRow (z<|G n) 88 1 c (y E) (E.map<|Value.int .u64)->cY aZ 124 #[ba,c] P λac F=>∃s,∃f:cW,ac=aM (dC #[az,az,az,s])/\F.ownsRow (z<|G P) 186 1 s (y f) (f.map bz.ptr)/\f.map bz.all=gC (gA<|dI E<|cQ<|e::bU S b C aa)/\qu F (z<|G P) f/\Z ay P F:=λn P ba c E t p hp au V=>by have A:=p.own au<|λ_ _ q=>q;exact Sw E (dJ A) (dJ V) (oU Q.mj Q.pB) (λx a=>Q.iP x<|(eN _).mem_iff.1 a) cc (by have:=hp.length_eq;rw[qK]at this;omega) (λq hq=>(A.lt q hq).2) (λq hq=>(V.lt q hq).2) (Steps.aj d.st.kA.steps (t.cz p) d.st.kA.fS.aO)<|ag d.st.kA.fS.lt (t.cz p).size
 have bg:∀W B s f v,Ze a W c B o k x e S b C aa g m D l w s f v->cY aZ 105 #[aA c,dC #[az,az,az,s],aE o.aS] W λac F=>∃ba,ac=aM ba/\D7 a F c o k x g (D+1) w o.aS (λad=>eQ ad<|e::bU S b C aa) (y<|gA<|dI (rf w)<|cQ<|e::bU S b C aa) ba:=λW B s f v O=>by refine(Eb B g o.aS (rf w) _ W _ _ _ _ [] [] [] f v O.sv h d.st d.qD d.Xw.1 (by have:=d.bn;have:=d.kK;omega) (by have:=d.nx;have:=d.kK;omega) (by have:=d.gT;have:=d.kK;omega) dk).mono ?_;rintro ac F(⟨rfl,K',num,a',b',c',d',hO,e0,e1,e2,e3⟩|⟨ba,K',rfl,hs,hI⟩);rotate_left;refine⟨ba,rfl,.inr ⟨ba,K',rfl,hs,.inl ?_⟩⟩;rcases hI with cT|⟨num,a',b',c',d',cT,e0,e1,e2,e3⟩;exact(d.Xz hT cT).mono (ah _) (by omega);have e0:=map_nil e0;have e1:=map_nil e1;have e2:=map_nil e2;refine cT.oN ?_ d.CJ.1 d.nx (by have:=d.bn;omega) (by omega);rw[e0,e1,e2];have:=d.CJ.2.2.1;show(0:X)<o.kG/\(0:X)<=o.kG/\(0:X)<=o.kG;omega;have e0:=map_nil e0;have e1:=map_nil e1;have e2:=map_nil e2;have e4:bZ d'=bZ f:=bS List.flatten e3;refine⟨_,rfl,.inl ⟨rfl,_,K',[],a',b',c',d',o.aS,[],⟨hO.box,hO.inv d.CJ d.nx (by have:=d.bn;omega) hN d.Ae d.Xg<|ah _,λad ht q=>by rw[lW];exact hO.sG ad (ht.imp_right (λac=>by rw[ac];grind)) q,hO.fj,⟨rfl,rfl,rfl,rfl,rfl,rfl⟩,rfl,by have:=d.CJ.1;show((0:M):X)<o.mem;omega,?_⟩,e0,e1,e2,?_⟩⟩;rw[e0,e1,e2];have:=d.CJ.2.2.1;show(0:X)<o.kG/\(0:X)<=o.kG/\(0:X)<=o.kG;omega;rw[wJ<|λad q=>(hO.st.l3.each ad q).ks,e4,<-O.len,wJ<|λad ht=>O.sv.ls.ks<|O.sv.ls.x3 ad ht]
 have av:∀W B s f v,AF [S,b,C,aa] [[],[],[],f] 4->Ze a W c B o k x e S b C aa g m D l w s f v->cY aZ 49 #[aA c] W λac F=>∃ba,ac=aM ba/\D7 a F c o k x g (D+1) w o.aS (λad=>eQ ad<|e::bU S b C aa) (y<|gA<|dI (rf w)<|cQ<|e::bU S b C aa) ba:=λW B s f v N O=>by obtain⟨K1,aF,L⟩:=O.zn;have f0:=(N 0<|by omega).1;have f1:=(N 1<|by omega).1;have f2:=(N 2<|by omega).1;have f3:=(N 3<|by omega).2;apply(L.safe O.sv.box).mono;rintro ac F(⟨rfl,K',hd,hb,hI,_⟩|⟨ba,K',rfl,hs,hf⟩);rotate_left;obtain⟨q,C,rfl,q3,q4⟩:=hs.err;refine⟨_,rfl,.inr ⟨_,K',rfl,⟨aF.trans hs.fj,hs.box,q,C,rfl,q3,aF.fx.Xh d.st.aI.wS q4⟩,.inl ?_⟩⟩;rw[hf];exact(L.oN hT).mono (ah _) (by omega);exact⟨_,rfl,.inl ⟨rfl,_,K',e,S,b,C,aa,m,l,⟨hb,hI.mono (ah _) bh (by omega) hN,λ_ _ _=>rfl,aF.trans hd,⟨rfl,rfl,rfl,rfl,rfl,rfl⟩,rfl,hT⟩,aL f0,aL f1,aL f2,f3.trans O.len⟩⟩
 have bf:∀W B s f v,Ze a W c B o k x e S b C aa g m D l w s f v->cY aZ 125 #[cX<|H<|R c 10,aA B] W λac F=>∃dT,ac=aM (aN dT)/\(dT=ci->AF [S,b,C,aa] [[],[],[],f] 4)/\Z ay W F:=λW B s f v O=>by have cr:=d.st.count;have cu:=d.st.rE;(have hk:∀a:cW,(∀ad∈a,ad.ks=bW 0 ad.cs)->y (bZ a)<=1000000->kg a<=1000000000:=λa c d=>by rw[wJ c];omega);refine JV W c B o.l0 o.l1 o.l2 o.l3 az az az s S b C aa [] [] [] f (λj hX=>?_) ⟨hk S (λad q=>(d.st.l0.each ad q).ks) (by omega),hk b (λad q=>(d.st.l1.each ad q).ks) (by omega),hk C (λad q=>(d.st.l2.each ad q).ks) (by omega),hk aa (λad q=>(d.st.l3.each ad q).ks) (by omega),by simp[kg],by simp[kg],by simp[kg],O.MO⟩;have aD:=O.aj hX;obtain⟨K1,aF,L⟩:=aD.zn;have hb:=aD.sv.box;have hl:=aD.sv.lb;exact⟨⟨hb.cell rfl,hb.cell rfl,hb.cell rfl,hb.cell rfl⟩,⟨by rw[cg hl];rfl,by rw[cg hl];rfl,by rw[cg hl];rfl,by rw[cg hl];rfl⟩,⟨L.st.l0.St (by omega),L.st.l1.St (by omega),L.st.l2.St (by omega),L.st.l3.St<|by omega⟩,⟨EW _,EW _,EW _,aD.n7⟩⟩
 have bb:=U<|λ(n P r W:Y)(B:M)(s:ab)(f:cW)(E:eR)(hp:E.Perm (rf w))(K:(nD o.aI x).D n)(t:Z (x.aO o.aI) a n)(p:Z ay n P)(aV:Z ay P r)(g:r.ownsRow (z<|G P) 186 1 s (y f) (f.map bz.ptr))(aU:f.map bz.all=gC (gA<|dI E<|cQ<|e::bU S b C aa))(c:qu r (z<|G P) f)(hW:Z ay r W)(hl:W.heap[B]?=H (aw #[az,az,az,s] 92 (0,0)))=>ZP (k:=k) h d hp K t (p.cz aV) (fX g p.size) aU (c.base p.size) hW hl;have bv:=U (show∀n q3,(nD o.aI x).Xp->Af n q3->(nD o.aI x).D n->Z (x.aO o.aI) a n->D7 a n c o k x g (D+1) w o.aS (λad=>eQ ad<|e::bU S b C aa) (y<|gA<|dI (rf w)<|cQ<|e::bU S b C aa) (eD q3)fromλn q3 hX hq hD ht=>by obtain⟨K',hd,e1,e2,e3⟩:=Og (sbqq:=c) (fJ.refl d.st.aI) hD ht;exact .inr ⟨_,K',rfl,⟨hd,⟨o,(ht.block c br d.st.wR).trans h,rfl,rfl⟩,q3,8,rfl,hq,.inl ⟨rfl,hX⟩⟩,.inl (by rw[e1];exact(d.oN hT).mono (ah _)<|by omega)⟩);have bx:=U (show∀W B s f v,Ze a W c B o k x e S b C aa g m D l w s f v->aW W (R c 8)=H (ar o.fm)/\aW W (R c 9)=H (aE o.aS)/\W.heap[B]?=H (aw #[az,az,az,s] 92 (0,0))fromλW B s f v O=>⟨O.sv.box.cell rfl,O.sv.box.cell rfl,O.sv.lb⟩);obtain⟨ML,bd⟩:∃ML,cQ (e::bU S b C aa)=ML:=⟨_,rfl⟩;rw[bd]at bm bo bb cc;obtain⟨cw,cB,cx,bc,bi,bu⟩:=lf bm cm bo bg av bf;clear h d hT bm cm bo bg av bf Q bl bh br q1 q2 q3 h4 bd;go_in
 go_wp2_with fail
 apply cp.mono;rintro ac w1⟨v1,rfl,bp,bs⟩;have hf:=cw w1 v1 bs bp;obtain⟨y1,e1,dm⟩:=aB bp;subst dm;have bL:=U bs;clear bp bs cp;go_wp2_with fail
 apply hf.mono;rintro ac w2⟨v2,S2,rfl,ch,cb,bt,cd⟩;have dv:=bL.size;have dx:=bt.size;have bk:=Dc ch cb (by omega);have bT:=U<|(bL.mono (T:=x.aO o.aI) cL).trans bt<|λ_ q=>.inl q;have bE:=U cd;clear ch cb bt cd hf;go_wp2_with fail
 apply bk.mono;rintro ac n(⟨s,rfl,au,K,t⟩|⟨cf,q3,rfl,co,K,t⟩);rotate_left;(.have u:Z (x.aO o.aI) a n:=bT.trans t<|λq hq=>hq.elim (λcT=>.inr (by have:=bE q cT;omega)) .inl;have HP:=U<|bv n q3 cf co K u;clear cf co K t u bk;go_wp2;go_ret;exact⟨_,rfl,HP⟩);have u:Z (x.aO o.aI) a n:=bT.trans t<|λq hq=>hq.elim (λcT=>.inr (by have:=bE q cT;omega)) .inl;have A:n.ownsRow (z<|G a) 171 4 s (y ML) (aK ML):=fX au (by omega);obtain⟨y3,e3,dn⟩:=aB au;subst dn;have cl:=cB n u;obtain⟨cE,ca,cv⟩:=dz A u K;clear au A K t u bk dv dx;go_wp2_with fail
 apply cl.mono;rintro ac P⟨v4,E,rfl,hp,V,p⟩;have cj:=cx n P _ v4 E ca p hp cE V;obtain⟨y4,e4,dr⟩:=aB V;subst dr;have HP:=U hp;have cM:=U p;clear V p hp cl;go_wp2_with fail
 apply cj.mono;rintro ac r⟨v5,f,rfl,bq,aU,cn,aV⟩;obtain⟨y5,e5,ds⟩:=aB bq;subst ds;obtain⟨W,hW⟩:∃W,cN r (aw #[az,az,az,I y5 (y f) e5] 92)=W:=⟨_,rfl⟩;have ce:W.heap[z<|G r]?=H (aw #[az,az,az,I y5 (y f) e5] 92 (0,0)):=by rw[<-hW];exact aJ _ rfl
 have cs:Z ay r W:=by rw[<-hW];exact(cF ay r)
 obtain⟨v,hC⟩:=bb n P r W (z<|G r) _ f E HP cv ca cM aV bq aU cn cs ce;obtain⟨b8,b9,ck⟩:=bx W _ _ f v hC;have HC:=U hC;clear bq aU cn aV cj ce cs hC;by_cases ea:o.fm=0
 .have db:decide ((o.fm:X)=0)=ci:=xB (by omega);go_wp2_with fail
  apply(bu W _ _ f v HC).mono;rintro ac W8⟨dT,rfl,N,cr⟩;have cu:=U N;have aD:=HC.aj cr;obtain⟨c8,c9,bn⟩:=bx W8 _ _ f v aD;have ax:=U aD;clear aD cr ck b8 b9 N;cases dT with
  |true=>
   go_wp2_with fail
   apply(bi W8 _ _ f v (cu trivial) ax).mono;rintro ac w9⟨v9,rfl,hP⟩;have al:=U hP;clear hP;go_wp2;go_ret;exact⟨_,rfl,al⟩
  |false=>
   go_wp2_with fail
   rename_i QQ KK ap;have hS:W8.drew.heap[z<|G r]?=H (aw #[az,az,az,I y5 (y f) e5] 92 (0,0))/\aW W8.drew (R c 9)=H (aE o.aS):=⟨bn,c9⟩;refine jj (λj=>j.heap[z<|G r]?=H (aw #[az,az,az,I y5 (y f) e5] 92 (0,0))/\aW j (R c 9)=H (aE o.aS)) 6 (by kernel_rfl) ?_;refine kF 0 ?_;iterate 6 (refine uS (v:=?_) hS rfl (by kernel_rfl) lk rfl ?_ ?_;rotate_left;(focus(rintro j⟨z0,z1⟩;have x0:aW j (R (z<|G r) 0)=H az:=(by rw[cg z0];rfl);have x1:aW j (R (z<|G r) 1)=H az:=(by rw[cg z0];rfl);have x2:aW j (R (z<|G r) 2)=H az:=(by rw[cg z0];rfl);have x3:aW j (R (z<|G r) 3)=H (I y5 (y f) e5):=(by rw[cg z0];rfl);go_simp;try rfl));simp only[Act.put,dW,iS,Nat.reduceAdd])
   apply oC;refine fy (i:=6) rfl rfl (by kernel_rfl) ?_;intro K6 an;go_simp;apply(bc _ _ _ f v<|ax.aj<|cZ ay _).mono;rintro ac w9⟨v9,rfl,hP⟩;have al:=U hP;refine an _ _ (λC=>(by omega)) ?_;try simp only[Act.put,dW,iS]
   clear an hP hS;refine fy (i:=7) rfl rfl (by kernel_rfl) ?_;intro K7 ao;go_simp;refine ao _ _ (λC=>(by omega)) ?_;try simp only[Act.put,dW,iS]
   clear ao;refine ju (by kernel_rfl) ?_ _;show KK _ _;apply ap;clear ap;go_wp2;go_ret;exact⟨_,rfl,al⟩
 (.have db:decide ((o.fm:X)=0)=aX:=decide_eq_false (by omega);have ax:=HC;have bn:=ck;have c9:=b9;(go_wp2_with fail);rename_i QQ KK ap;have hS:W.drew.heap[z<|G r]?=H (aw #[az,az,az,I y5 (y f) e5] 92 (0,0))/\aW W.drew (R c 9)=H (aE o.aS):=⟨bn,c9⟩;refine jj (λj=>j.heap[z<|G r]?=H (aw #[az,az,az,I y5 (y f) e5] 92 (0,0))/\aW j (R c 9)=H (aE o.aS)) 6 (by kernel_rfl) ?_;refine kF 0 ?_;(iterate 6 (refine uS (v:=?_) hS rfl (by kernel_rfl) lk rfl ?_ ?_;rotate_left;(focus(rintro j⟨z0,z1⟩;have x0:aW j (R (z<|G r) 0)=H az:=(by rw[cg z0];rfl);have x1:aW j (R (z<|G r) 1)=H az:=(by rw[cg z0];rfl);have x2:aW j (R (z<|G r) 2)=H az:=(by rw[cg z0];rfl);have x3:aW j (R (z<|G r) 3)=H (I y5 (y f) e5):=(by rw[cg z0];rfl);go_simp;try rfl));simp only[Act.put,dW,iS,Nat.reduceAdd]));apply oC;refine fy (i:=6) rfl rfl (by kernel_rfl) ?_;intro K6 an;go_simp;apply(bc _ _ _ f v<|ax.aj<|cZ ay _).mono;rintro ac w9⟨v9,rfl,hP⟩;have al:=U hP;refine an _ _ (λC=>(by omega)) ?_;(try simp only[Act.put,dW,iS]);clear an hP hS;refine fy (i:=7) rfl rfl (by kernel_rfl) ?_;intro K7 ao;go_simp;refine ao _ _ (λC=>(by omega)) ?_;(try simp only[Act.put,dW,iS]);clear ao;refine ju (by kernel_rfl) ?_ _;show KK _ _;apply ap;clear ap;go_wp2;go_ret;exact⟨_,rfl,al⟩)
section
open Conc.Locks
def Gn(S:gz)(h:cS a b o 0)(E:Inv a b o i e j W u v c g m l S)(hT:FJ o j W u)(F:o.closed=aX)(hN:m+1<=100000000)(hE:∀bf,Z (λbg=>i.aO o.aI bg\/bg=b) a bf->kB bf)(aV:i.fx.room<1000000000):cY aZ 42 #[aA b] a λD B=>(D=aM .nilIface/\Xb a B b o 0 i c (m+1) S o.aS (λbd=>eQ bd<|e::bU j W u v) (y<|gA<|dI (rf S)<|cQ<|e::bU j W u v))\/J9 a B b o i c (m+1) (eQ o.aS<|e::bU j W u v) (eQ o.aS<|e::bU j W u v) D:=by
 have al:=ak h;have c0:=cS.cellAt h 0 rfl;have f0:a.frozen? (R b 0)=aX:=h.free;have t:=yR E.st.aI E.st.wR 1;have C:=h.lB 1;have n:=E.fj al t rfl (ah _) rfl E.loose;generalize hW:cq a (R b 0) (jN 1)=T at t C n;have x:=uA C;rw[F]at x;have ao:cY aZ 31 #[aA b] T λD B=>D=aM .nilIface/\Below (z<|G T) T B:=x;have ac:∀V,Z ay T V->cY aZ 78 #[aA b] V λD B=>∃aD,D=aM aD/\D7 a B b o 1 i c (m+1) S o.aS (λbd=>eQ bd<|e::bU j W u v) (y<|gA<|dI (rf S)<|cQ<|e::bU j W u v) aD:=λV N=>by have K:fJ T V o.aI b i i:=⟨n.st.aI.aj N<|λ_ _=>id,N.mono cL,λ_ q=>.inl q,Fx.refl _⟩;have au:=n.fj (ak C) K rfl (ah _) rfl n.loose;have av:cS V b o 1:=(N.block b (ak C) id).trans C;apply(MM S av au hT hN aV).mono;rintro D B⟨aD,rfl,hz⟩;refine⟨aD,rfl,?_⟩;rcases hz with⟨rfl,s',k,m',a',b',c',d',P,O,p,A⟩|⟨v',k,D,hs,hr⟩;exact .inl ⟨rfl,s',k,m',a',b',c',d',P,O,⟨p.box,p.inv,p.sG,(t.trans K).trans p.fj,p.same,p.Di,p.tid⟩,A⟩;obtain⟨q,cc,e2,L,Q⟩:=hs.err;exact .inr ⟨v',k,D,⟨(t.trans K).trans hs.fj,hs.box,q,cc,e2,L,Q⟩,hr⟩
 have ad:=λw3 w4 k q q1 u(c:fJ a w3 o.aI b i k)e L Q d C=>TR.fin (w:=a) (w3:=w3) (w4:=w4) (sbqq:=b) (q:=q) (q1:=q1) (s:=o) (K:=i) (K':=k) (c:=u) E.st.wR al F c e L Q d C;obtain⟨ap,HW,ax,HE,aF⟩:=iO ac hW ad hE E.st.wR;clear h E hT t C n F hW ac x ad hE;go_enter_defers func42,ntmps42
 go_wp2_with fail
 apply(lock_free (R b 0) _ c0 f0).mono;rintro D B⟨rfl,ba⟩;rw[J HW]at ba;subst B;go_wp2_with fail
 apply ao.mono;rintro D Wr⟨rfl,aa⟩;have hd:=ap Wr<|Z.aR aa;clear aa ao;go_wp2_with fail
 apply hd.mono;rintro D w3⟨v3,rfl,bb⟩;rcases bb with⟨rfl,s',k,m',a',b',c',d',P,O,p,A⟩|⟨v',k,e3,d,an⟩;(.have K:=U A;have w:=If p.box;have V:=U p;clear p hd A;(go_wp2_with fail);apply w.mono;rintro D w4⟨rfl,s⟩;obtain⟨d0,g0,r⟩:=V.fin s;have N:=U r;clear r s w;go_wp2;refine gN (f:=30) (args:=#[aA b]) (by simp) (by simp[go_sem]) ?_;apply(unlock_deferred (R b 0) .returning _ d0 g0).mono;rintro D u' bc⟨rfl,rfl,rfl⟩;exact⟨_,iw rfl _ _ _,.inl ⟨rfl,s',k,m',a',b',c',d',P,O,N,K⟩⟩);obtain⟨q,cc,rfl,L,Q⟩:=d.err;cases e3;obtain⟨s',K,e1,e2⟩:=d.box;have V:¬k.aO o.aI b:=λa=>(d.fj.aO b a).elim aF (λa=>by omega);have w:=Ig K L<|HE _ (d.fj.set V 6<|eD q).aj;obtain⟨au,HQ,av,aU,aD⟩:=iO d.fj L Q d.box an;clear d L Q an K e1 e2 V hd;(go_wp2_with fail);apply w.mono;rintro D w4⟨q1,rfl,N,s⟩;obtain⟨d0,g0,r⟩:=ax w3 w4 k q q1 cc au aU HQ av s N;have HP:=U<|And.intro r aD;clear r s N w;go_wp2;refine gN (f:=30) (args:=#[aA b]) (by simp) (by simp[go_sem]) ?_;apply(unlock_deferred (R b 0) .returning _ d0 g0).mono;rintro D u' bc⟨rfl,rfl,rfl⟩;refine⟨_,iw rfl _ _ _,?_⟩;exact .inr ⟨eD q1,k,rfl,HP.1,HP.2⟩
end
def KG(sn:gz)(h:cS a b o k)(n:Inv a b o i e j W u v c g m l sn)(N:FJ o j W u):cY aZ 27 #[aA b] a λB q=>B=aM .nilIface/\Z ay a q:=by
 have aa:decide (o.mem<=(o.fm:X))=aX:=by have:=N.1;simp;omega
 have D:nz o.kG 0 (y j)=aX:=by have:=N.2.1;simp[nz];omega
 have E:nz o.kG 1 (y W)=aX:=by have:=N.2.2.1;simp[nz];omega
 have F:nz o.kG 2 (y u)=aX:=by have:=N.2.2.2;simp[nz];omega
 have K:nz o.kG 3 (y v)=aX:=by simp[nz]
 have ac:=ak h;have k3:=cS.cellAt h 3 rfl;have k8:=cS.cellAt h 8 rfl;have HH:=U h;have HV:=U n;clear h n;go_in
 go_wp2;go_quiet(fail)
 rename_i KK L;show KK _ _;apply L;clear L;have p:Z ay a (a.drewN nq):=(Z.refl ay a).of_heap rfl;generalize a.drewN nq=d at p|-;try rw[aa]
 have au:=U p;have h:=J HH;have n:=J HV;have f:cS d b o k:=(p.block b ac id).trans h;have O:=oX (sbqq:=b) n.st.aI p;have av:=n.fj ac O rfl (ah _) rfl n.loose;obtain⟨mx,mc,V⟩:=bY n.st.mem;obtain⟨s,r,ad⟩:=bY n.st.l0.row;obtain⟨t,c1,al⟩:=bY n.st.l1.row;obtain⟨w,c2,an⟩:=bY n.st.l2.row;obtain⟨x,c3,ao⟩:=bY n.st.l3.row;have bb:aW d (R b 10)=H (I s (y j) r):=by rw[<-ad];exact f.cell rfl
 have bc:aW d (R b 11)=H (I t (y W) c1):=by rw[<-al];exact f.cell rfl
 have bd:aW d (R b 12)=H (I w (y u) c2):=by rw[<-an];exact f.cell rfl
 have bf:aW d (R b 13)=H (I x (y v) c3):=by rw[<-ao];exact f.cell rfl
 have q7:aW d (R b 7)=H (I mx (y e) mc):=by rw[<-V];exact f.cell rfl
 have q9:=cS.cellAt f 9 rfl;have aD:∀C,(Instr.index 92 (dC #[I s (y j) r,I t (y W) c1,I w (y u) c2,I x (y v) c3])<|ar 0).run aZ C=.ok (I s (y j) r) C:=λ_=>by kernel_rfl
 have aF:∀C,(Instr.index 92 (dC #[I s (y j) r,I t (y W) c1,I w (y u) c2,I x (y v) c3])<|ar 1).run aZ C=.ok (I t (y W) c1) C:=λ_=>by kernel_rfl
 have aU:∀C,(Instr.index 92 (dC #[I s (y j) r,I t (y W) c1,I w (y u) c2,I x (y v) c3])<|ar 2).run aZ C=.ok (I w (y u) c2) C:=λ_=>by kernel_rfl
 have aV:∀C,(Instr.index 92 (dC #[I s (y j) r,I t (y W) c1,I w (y u) c2,I x (y v) c3])<|ar 3).run aZ C=.ok (I x (y v) c3) C:=λ_=>by kernel_rfl
 have P:cY aZ 61 #[aA b,ar 0,I s (y j) r] d λB q=>B=aM (aN<|nz o.kG 0<|y j)/\q=d:=rO 0 (y j) s r f (by omega);have Q:cY aZ 61 #[aA b,ar 1,I t (y W) c1] d λB q=>B=aM (aN<|nz o.kG 1<|y W)/\q=d:=rO 1 (y W) t c1 f (by omega);have S:cY aZ 61 #[aA b,ar 2,I w (y u) c2] d λB q=>B=aM (aN<|nz o.kG 2<|y u)/\q=d:=rO 2 (y u) w c2 f (by omega);have T:cY aZ 61 #[aA b,ar 3,I x (y v) c3] d λB q=>B=aM (aN<|nz o.kG 3<|y v)/\q=d:=rO 3 (y v) x c3 f (by omega);rw[D]at P;rw[E]at Q;rw[F]at S;rw[K]at T;clear h n f O av V ad al an ao p k3 k8 aa D E F K N;go_wp2;go_loopw [3,20] (λo a wr=>∃(ap:M),ap<=4/\a=ar ap/\o=aN aX/\wr=d) (λ_ a _=>4-(intOf a).toNat)
 case atStart=>exact⟨0,by omega,by go_num,rfl,rfl⟩
 (case round=>obtain⟨ap,hj,rfl,rfl,ba⟩:=hrel;subst wr;(have ax:ap=0\/ap=1\/ap=2\/ap=3\/ap=4:=by omega);rcases ax with rfl|rfl|rfl|rfl|rfl;(·(go_wp2_with(go_at_call 61;refine P.mono ?_;rintro B A⟨rfl,hw⟩;subst A));go_roundw;(case rel=>exact⟨1,by omega,by go_num,rfl,trivial⟩);case measure=>simp[intOf]);(·(go_wp2_with(go_at_call 61;refine Q.mono ?_;rintro B A⟨rfl,hw⟩;subst A));go_roundw;(case rel=>exact⟨2,by omega,by go_num,rfl,trivial⟩);case measure=>simp[intOf]);(·(go_wp2_with(go_at_call 61;refine S.mono ?_;rintro B A⟨rfl,hw⟩;subst A));go_roundw;(case rel=>exact⟨3,by omega,by go_num,rfl,trivial⟩);case measure=>simp[intOf]);(·(go_wp2_with(go_at_call 61;refine T.mono ?_;rintro B A⟨rfl,hw⟩;subst A));go_roundw;(case rel=>exact⟨4,by omega,by go_num,rfl,trivial⟩);case measure=>simp[intOf]);go_wp2;go_ret;exact⟨rfl,au⟩)
theorem Eu{tbqq:M}{lsqq:dS}(t:Ac ((tbqq:X)+1) lsqq):kW lsqq=ia [] lsqq.flatten/\dV (ia [] lsqq.flatten)/\jT (tbqq+y lsqq:M) (ia [] lsqq.flatten)=ia [] lsqq.flatten/\qV 5 (ia [] lsqq.flatten)/\y (ia [] lsqq.flatten)<=(lsqq.map y).sum:=by
 obtain⟨g,h,k,f⟩:=XB t (y lsqq)<|ah _;rw[bI]at g h k f;have r:(tbqq:X)+1+y lsqq-1=((tbqq+y lsqq:M):X):=by grind
 rw[r]at f;have m:=Hc lsqq;rw[<-g];refine⟨rfl,h.mj,f,?_,m⟩;rcases wY lsqq with q|⟨v,u,q⟩;rw[q];exact qV.nil _;grind[zL,By,GZ]
theorem DJ(j:M)(f:cW):nw j f eh=ci:=by simp[nw]
theorem Kr(j:M)(f:cW):nw j f (fa j)=ci:=by simp[nw]
theorem Kq{j:M}{f:cW}{t:bz}(h:t∈f):nw j f (fQ t.num)=ci:=by
 unfold nw;rw[Bool.or_eq_true,ol];exact .inr ⟨t,h,by simp⟩
theorem QN{j:M}{h f:cW}(m:js h f):nw j f=nw j h:=by
 funext x;unfold nw;congr 1;have k:=m.map (λt=>decide<|x=fQ t.num)<|λ_=>rfl;have g:∀k:cW,k.any (λt=>decide<|x=fQ t.num)=(k.map<|λt=>decide<|x=fQ t.num).any id:=λk=>by rw[List.any_map];rfl
 rw[g,g,k]
theorem Hs{j:M}{g f:cW}(h:js g f)(o:cJ ae):lC j f o=lC j g o:=by
 unfold lC;rw[QN h]
section
variable{fs:Fs}{nx j tbqq:M}{a b c d a' b' c' d':cW}{e:Bool}{lsqq:dS}{o:cJ ae}{mem i:X}{C N:M}{l:RS}
theorem sh.del(h:sh fs nx j tbqq a b c d e lsqq)(f:(fs.map (·.1)).Nodup)(B:∀k∈o,nw j (a++b++c++d) k=aX):sh (wT fs o) nx j tbqq a b c d e lsqq:=by
 have m:∀k,nw j (a++b++c++d) k=ci->dh (wT fs o) k=dh fs k:=λk q=>nV (λg=>by rw[B k g]at q;cases q);have t:=m _<|DJ j<|a++b++c++d;have r:=m _<|Kr j<|a++b++c++d;refine{h with names:=λk g q=>h.names k g (qR f q).2,Kj:=?_,first:=λq k g D A=>h.first (by rw[<-t];exact q) k g D (qR f A).2,Ge:=λq=>by rw[r];exact h.Ge q,state:=by rw[t];exact h.state,log:=λq=>by rw[r];exact h.log q,oK:=λE u=>by rw[m _<|Kq u];exact h.oK E u};obtain⟨L,v,x⟩:=h.Kj;exact⟨L,v,λD g q=>x D g (qR f q).2⟩
theorem sh.Vq(h:sh fs nx j tbqq a b c d e lsqq)(r:js a a')(t:js b b')(u:js c c')(v:js d d'):sh fs nx j tbqq a' b' c' d' e lsqq:=by
 have f:js (a++b++c++d) (a'++b'++c'++d'):=((r.append t).append u).append v;refine{h with state:=?_,oK:=λL g=>?_,qf:=?_,low:=λL g=>?_,iP:=f.Us h.iP};rcases h.state with q|⟨q,A,B,D,E,F⟩;(refine .inl<|q.trans ?_;unfold fT;grind[js.rP]);grind[js.nil]
 obtain⟨x,k,m⟩:=f.mem g;rw[<-rI m,<-yK m];exact h.oK x k;rw[f.map bz.num<|λ_=>rfl];exact h.qf;obtain⟨x,k,m⟩:=f.mem g;rw[<-rI m];exact h.low x k
theorem sh.qD(h:sh fs nx j tbqq a b c d e lsqq)(t:∀m k,dh fs m=H k->nw j (a++b++c++d) m=ci):FU fs nx j tbqq a b c d e lsqq where
 names:=λm k q=>by
  have:=t m k q;rw[Ks]at this;rcases this with f|f|⟨u,r,f⟩
  .simp only[tg]at f;exact .inl f
  .simp only[tg]at f;refine .inr<|.inl ⟨f,?_⟩;cases g:e with
   |true=>rfl
   |false=>
    have:=h.Ge g;rw[<-f,q]at this;cases this
  .simp only[tg]at f;exact .inr<|.inr ⟨u,r,f⟩
 state:=h.state
 log:=h.log
 vJ:=h.vJ
 oK:=h.oK
 qf:=h.qf
 low:=h.low
 lt:=h.lt
 iP:=h.iP
theorem YL.del(h:YL fs mem i C N l nx j tbqq a b c d e lsqq)(f:(fs.map (·.1)).Nodup)(g:∀k∈o,nw j (a++b++c++d) k=aX):YL (wT fs o) mem i C N l nx j tbqq a b c d e lsqq:={h with qD:=h.qD.del f g}
end
structure j5(w w':Y)(db sb:M)(mem kG:X)(K:DK)(C N:M)(R0:RS)(s:SR)(K':DK)(m:cR)(a b c d:cW)(tb:M)(ls:dS):Prop where
 box:cS w' sb s 0
 inv:Inv w' sb s K' m a b c d C tb N ls []
 tid:FJ s a b c
 sG:∀q,eQ s.aS (m::bU a b c d) q=R0 q
 same:s.aI=db/\s.closed=aX/\s.mem=mem/\s.kG=kG/\s.Hv=0/\s.ow=H (z (G w)+1)
 fj:fJ w w' db sb K K'
 size:z (G w)+4<=z (G w')
 aO:∀k,K'.aO db k->K.aO db k\/z (G w)+4<=k
 ops:∃o,List.Perm o (K.files.map da.name)/\mi ((lC s.log (a++b++c++d) o).map .rm) K K'
def FK(w w':Y)(db sbqq:M)(mem i:X)(K:DK)(C N:M)(g:RS):Prop:=∃s f m a b c d tbqq lsqq,j5 w w' db sbqq mem i K C N g s f m a b c d tbqq lsqq
def L3(w w':Y)(db:M)(mem i:X)(K:DK)(C N:M)(l:RS)(q:M):Prop:=∃f c,cG w' db f/\xy (vw f.files) mem i C N l/\Z (K.aO db) w w'/\(∀k,f.aO db k->K.aO db k\/z (G w)<=k)/\Fx K.fx f.fx/\lP w' q c/\QF K.fx c
structure L1(w W:Y)(db sb:M)(mem kG:X)(K:DK)(nx j tb:M)(ez:Bool)(ls:dS)(a b c d:cW)(s:SR)(K':DK)(a' b' c' d':cW):Prop where
 box:cS W sb s 0
 UX:TS (vw K.files) W db sb K' s.l0 s.l1 s.l2 s.l3 a b c d a' b' c' d'
 GK:vq K K'
 fj:fJ w W db sb K K'
 aO:∀k,K'.aO db k->K.aO db k\/z (G w)+4<=k
 same:s.aI=db/\s.closed=aX/\s.mem=mem/\s.kG=kG/\s.Hv=0/\s.ow=H (z (G w)+1)
 qf:s.next=nx/\s.log=j/\s.ez=ez/\s.aS=tb+y ls/\s.fm=(ls.map y).sum/\s.xe=aX
 lo:s.jx=ci->s.ez=ci
 mem:kC W s.memory (ia [] ls.flatten)
 sI:∀k,cK s.memory=H k->Aside W K' db sb k
 Ae:Ng W K' sb s []
 size:z (G w)+4<=z (G W)
section
variable{w W w':Y}{db sbqq:M}{mem i:X}{K p n:DK}{C N:M}{l:RS}{nx j tbqq:M}{a b c d a' b' c' d':cW}{e:Bool}{lsqq:dS}{s:SR}
theorem AD{w:Y}{db:M}{fs:Fs}{A:eV}{t:bz}(k:rV w db fs A t):QC w t:=by
 obtain⟨m,g,f,h,_⟩:=k.mem;exact⟨k.num,_,_,_,_,_,_,_,_,h⟩
theorem G2{fs:Fs}{sbqq:M}{k:X}(h:Dn fs W K db sbqq s.l0 a)(m:Dn fs W K db sbqq s.l1 b)(q:Dn fs W K db sbqq s.l2 c)(r:Dn fs W K db sbqq s.l3 d)(u:y (a++b++c++d)<=1000000)(t:cS W sbqq s k):Dm W sbqq 10 [(s.l0,a),(s.l1,b),(s.l2,c),(s.l3,d)]:=by
 refine⟨rfl,λg f=>?_,λg f=>?_,λg f=>?_,?_⟩;(have:g=0\/g=1\/g=2\/g=3:=by grind);rcases this with rfl|rfl|rfl|rfl<;>exact t.cell rfl;(have:g=0\/g=1\/g=2\/g=3:=by grind);rcases this with rfl|rfl|rfl|rfl;exact h.row;exact m.row;exact q.row;exact r.row;(have:g=0\/g=1\/g=2\/g=3:=by grind);rcases this with rfl|rfl|rfl|rfl;exactλk f=>(h.loc k f).lt;exactλk f=>(m.loc k f).lt;exactλk f=>(q.loc k f).lt;exactλk f=>(r.loc k f).lt;simp only[af]at u;simp[lO];omega
theorem ON(f:ub w db mem i K C N l nx j tbqq a b c d e lsqq)(h:L1 w W db sbqq mem i K nx j tbqq e lsqq a b c d s p a' b' c' d')(aa:sbqq=z (G w)+2)(r:1<=mem/\mem<=32/\2<=i/\i<=6)(m:fJ W w' db sbqq p n)(hb:cS w' sbqq s 0)(L:FU (vw n.files) nx j tbqq a b c d e lsqq)(A:y n.gT<=9000000+2*N):Inv w' sbqq s n (ia [] lsqq.flatten) a' b' c' d' C tbqq N lsqq []/\FJ s a' b' c'/\∀q,eQ s.aS (ia [] lsqq.flatten::bU a' b' c' d') q=l q:=by
 obtain⟨_,p1,Q,p3,p4⟩:=Eu f.oN.lp;obtain⟨S,e2,T,V,e5,e6⟩:=h.same;obtain⟨O,n2,n3,u,P,n6⟩:=h.qf;have g:=h.UX.fj (fs':=vw n.files) m<|λt k=>(L.oK t k).trans (f.oN.qD.oK t k).symm;have F:=f.steps.lt;have D:=f.pow.lt;have x:=h.fj.trans m;subst S T V;have k:=js.bU g.k0 g.k1 g.k2 g.k3;have E:Aside w K s.aI sbqq 1:=⟨F,f.fS,by omega⟩;have B:Aside w K s.aI sbqq 2:=⟨D,f.ml,by omega⟩;refine⟨{st:=?_,qD:=?_,pr:=?_,lp:=f.oN.lp,mem:=by rw[u];exact Q,Ua:=λac t=>?_,XU:=p4,l7:=p3,Ae:=h.Ae.fj m,Xg:=λ_ q=>(by cases q),Di:=u,MP:=P,xe:=n6,Hj:=g.Hj,nx:=by rw[O];exact f.oN.nx,bn:=by rw[u];exact f.oN.bn,gT:=A,CJ:=r,loose:=h.lo,kK:=f.zF},⟨by rw[P];exact f.oN.tid.1,?_⟩,λq=>?_⟩;refine⟨Av h.mem m h.sI,λal q=>(h.sI al q).fj m,g.l0,g.l1,g.l2,g.l3,m.ok,λq=>?_,?_,?_,f.kK,p1,?_,g.k1.side f.oN.s1,g.k2.side f.oN.s2,g.k3.side f.oN.s3⟩;rcases m.aO _ q with ad|ad;rcases h.aO _ ad with v|v;have:=f.aI.lt _ v;omega;omega;have:=ak h.box;omega;exact PG.fj ⟨f.steps,f.pow,E,B⟩ x;rw[g.k0.bZ,g.k1.bZ,g.k2.bZ,g.k3.bZ];exact f.oN.rE;intro ac t;rcases EQ t with v|v;simp at v;obtain⟨ad,hl,t⟩:=bC.1 v;exact f.oN.lp.iP ad hl ac t;rw[O,n2,n3];exact L.Vq g.k0 g.k1 g.k2 g.k3;rw[k];exact f.oN.pr;rw[u];rcases EQ t with q|q;cases q;exact f.oN.lp.wU ac q;obtain⟨v,t2,t3⟩:=f.oN.tid.2;rw[PE,g.k0.lens,g.k1.lens,g.k2.lens];exact⟨v,t2,t3⟩;rw[k,u,<-f.oN.sG q,eQ,cy,Q]
theorem vq.oN{fs:Fs}(h:vq K p)(f:xy (vw K.files) mem i C N l):xy (vw p.files) mem i C N l:=by rw[h.1];exact f
theorem BQ(h:ub w db mem i K C N l nx j tbqq a b c d e lsqq)(ho:1<=mem/\mem<=32/\2<=i/\i<=6):cY aZ 10 #[aA db,dC #[ar mem,ar i]] w λaU w'=>(aU=aM (dq #[aA<|z (G w)+2,.nilIface])/\FK w w' db (z (G w)+2) mem i K C N l)\/∃q,aU=aM (dq #[cX none,eD q])/\L3 w w' db mem i K C N l q:=by
 have u:=h.aI.lt;have hI:=h.oN.qD;have ad:xy (vw K.files) mem i C N l:=⟨_,_,_,_,_,_,_,_,_,h.oN⟩;have D:¬K.aO db (z (G w)+2):=λq=>by have:=u _ q;omega
 have bg:nx<18446744073709551616:=by have:=h.oN.nx;have:=h.zF;omega
 have al:j<18446744073709551616:=by have:=hI.lt;omega
 have bd:=h.oN.bn;have bc:=h.count;have bf:=h.files;have V:∀{w':Y},Z (λq=>K.aO db q\/q=z (G w)+2) w w'->Z (K.aO db) w w':=λh=>h.mono (λ_ q=>q.imp id<|λaU=>by omega);refine XJ db mem i w ho (λW=>Z ay w W/\cS W (z (G w)+2) (SR.fresh db mem i<|z (G w)+1) 0/\oP W (z (G w)+1) []/\z (G W)=z (G w)+4) (λW=>∃u0 u1 u2 u3 n a' b' c' d',cS W (z (G w)+2) ((SR.fresh db mem i<|z (G w)+1).wA u0 u1 u2 u3 nx j tbqq<|decide<|0<y K.files) 0/\TS (vw K.files) W db (z (G w)+2) n u0 u1 u2 u3 a b c d a' b' c' d'/\Ud db K n/\Z (λq=>K.aO db q\/q=z (G w)+2) w W/\oP W (z (G w)+1) []/\z (G w)+4<=z (G W)) (λW=>∃s p a' b' c' d',L1 w W db (z (G w)+2) mem i K nx j tbqq e lsqq a b c d s p a' b' c' d') (λW=>FK w W db (z (G w)+2) mem i K C N l) (λW=>FK w W db (z (G w)+2) mem i K C N l) (λW q=>L3 w W db mem i K C N l q) (λW h1 h2 h3 h4=>⟨h1,h2,h3,h4⟩) ?_ ?_ ?_ ?_;rintro W⟨k,hb,ap,aD⟩;apply(Sq hb rfl D<|h.aj k).mono;rintro aU w'(⟨rfl,u0,u1,u2,u3,t,⟨n,a',b',c',d',B,m⟩,g⟩|⟨A,q,rfl,B,⟨n,v,m⟩,g⟩);have E:=g.size;refine .inl ⟨rfl,⟨u0,u1,u2,u3,n,a',b',c',d',t,B,m,(k.mono (T:=λq=>K.aO db q\/q=z (G w)+2) cL).trans g<|λ_ q=>.inl q,ap.dw (g.block _ (by omega)<|λq=>q.elim (λq=>by have:=u _ q;omega)<|λq=>by omega),by omega⟩,?_⟩;exact g.block _ (by omega) (λq=>q.elim (λq=>by have:=u _ q;omega)<|λq=>by omega);exact .inr ⟨q,rfl,n,8,v,by rw[m.GK.1];exact ad,V<|(k.mono (T:=λq=>K.aO db q\/q=z (G w)+2) cL).trans g<|λ_ q=>.inl q,λL c=>.inl<|m.aO L c,m.fx,B,.inl ⟨rfl,A⟩⟩
 .rintro W⟨u0,u1,u2,u3,n,a',b',c',d',hb,B,m,k,ap,aD⟩;have F:vw n.files=vw K.files:=by rw[m.GK.1]
  have E:¬n.aO db (z (G w)+2):=λq=>D<|m.aO _ q;have ac:Pow W:=h.pow.aj k<|λq=>q.elim h.ml (λq=>by have:=h.pow.lt;omega);have aV:Steps W:=Steps.aj h.steps k<|λq=>q.elim h.fS (λq=>by have:=h.steps.lt;omega);have aa:∀w',Z (λq=>n.aO db q\/q=z (G w)+2) W w'->w'.heap[z (G w)+3]?=W.heap[z (G w)+3]?:=λw' h'=>h'.block _ (by omega) (λq=>q.elim (λq=>by have:=u _<|m.aO _ q;omega)<|λq=>by omega);have ao:∀w' g,Z (λq=>n.aO db q\/q=z (G w)+2) W w'->(∀L,g.aO db L->n.aO db L)->oP w' (z (G w)+1) []/\Aside w' g db (z (G w)+2) (z (G w)+1):=λw' g h' h=>⟨ap.dw (h'.block _ (by omega)<|λq=>q.elim (λq=>by have:=u _<|m.aO _ q;omega)<|λq=>by omega),by have:=h'.size;omega,λq=>by have:=u _<|m.aO _<|h _ q;omega,by omega⟩;have aF:Ng W n (z (G w)+2) ((SR.fresh db mem i<|z (G w)+1).wA u0 u1 u2 u3 nx j tbqq<|decide<|0<y K.files) []:=⟨⟨z (G w)+1,rfl,ao W n (Z.refl _ W)<|λ_ q=>q⟩,by simp⟩;have P:fJ w W db (z (G w)+2) K n:=⟨B.aI,k.mono<|λ_ q=>.inl q,λL q=>.inl<|m.aO L q,m.fx⟩;cases hlgd:e with
  |false=>
   have an:=hI.vJ hlgd;have au:dh (vw n.files) (fa j)=none:=by rw[F];exact hI.Ge hlgd
   apply(Le hb B.aI ac al au).mono;rintro aU w'⟨O,Q,v,g,rfl|⟨A,q,rfl,ax⟩⟩;rotate_left
   .have r:=P.trans<|fJ.of (sbqq:=z (G w)+2) Q;exact .inr ⟨q,rfl,O,8,r.ok,by rw[v.1,m.GK.1];exact ad,V r.aj,r.aO,r.fx,ax,.inl ⟨rfl,m.fx.pos h.aI.wS A⟩⟩
   have S:fJ W w' db (z (G w)+2) n O:=fJ.of Q;have r:=P.trans S;have av:=B.fj (fs':=vw K.files) S<|λ_ _=>rfl;refine .inl ⟨rfl,⟨(SR.fresh db mem i<|z (G w)+1).wA u0 u1 u2 u3 nx j tbqq<|decide<|0<y K.files,O,a',b',c',d',?_⟩,aa w' S.aj⟩;exact⟨(Q.aj.block _ (ak hb) E).trans hb,av,m.GK.trans v,r,λL q=>.inl<|m.aO L<|g L q,⟨rfl,rfl,rfl,rfl,rfl,rfl⟩,⟨rfl,rfl,rfl,by rw[an];rfl,by rw[an];rfl,rfl⟩,λq=>(by cases q),by rw[an];exact⟨rfl,.inl ⟨rfl,rfl⟩⟩,λL q=>(by cases q),⟨⟨z (G w)+1,rfl,ao w' O S.aj g⟩,by simp⟩,aC aD Q.aj.size⟩
  |true=>
   have S:y (jZ ((tbqq:X)+1) lsqq)<=200000:=by
    have h1:=xV (f:=(tbqq:X)+1)<|λba hl=>⟨h.oN.lp.iP ba hl,(h.oN.lp.one ba hl).2⟩;have h2:=II<|λba hl=>(h.oN.lp.one ba hl).1;have h3:=h.oN.lp.sum;omega
   refine(Od lsqq hb B.aI E ac aV ⟨by have:=h.steps.lt;omega,λq=>h.fS<|m.aO _ q⟩ al h.oN.lp (by rw[F];exact hI.log hlgd) S rfl rfl (by show tbqq<=1000000000;have:=h.zF;omega) aF).mono ?_;rintro aU w'(⟨rfl,mv,O,t,Q,x,v,g⟩|⟨O,x,v,A,q,rfl,ax⟩);rotate_left
   .have r:=P.trans x;exact .inr ⟨q,rfl,O,8,r.ok,by rw[v.1,m.GK.1];exact ad,V r.aj,r.aO,r.fx,ax,.inl ⟨rfl,m.fx.pos h.aI.wS A⟩⟩
   have r:=P.trans x;have av:=B.fj (fs':=vw K.files) x<|λ_ _=>rfl;refine .inl ⟨rfl,⟨{((SR.fresh db mem i<|z (G w)+1).wA u0 u1 u2 u3 nx j tbqq<|decide<|0<y K.files).wi mv (y lsqq) (lsqq.map y).sum with ez:=ci,xe:=aX,jx:=ci},O,a',b',c',d',?_⟩,aa w' x.aj⟩;exact⟨t,av,m.GK.trans v,r,λL q=>.inl<|m.aO L<|g L q,⟨rfl,rfl,rfl,rfl,rfl,rfl⟩,⟨rfl,rfl,rfl,rfl,rfl,rfl⟩,λ_=>rfl,by rw[<-(Eu h.oN.lp).1];exact dJ Q,λL q=>by
    have h1:=Q.lt L q;exact⟨h1.2,λbb=>by have:=u _ (m.aO _ (g L bb));omega,by omega⟩,⟨⟨z (G w)+1,rfl,ao w' O x.aj g⟩,by simp⟩,aC aD x.aj.size⟩
 .rintro W⟨s,p,a',b',c',d',g⟩;have ax:=g;obtain⟨es,ec,em,et,eg⟩:=g.same;subst es;have P:=g.UX.Vq;have F:vw p.files=vw K.files:=by rw[g.GK.1]
  have hn:∀S∈p.files.map da.name,S=eh\/FN S:=λS O=>by
   rw[g.GK.1,<-Aq]at O;obtain⟨bs,v⟩:=pF O;exact hI.names S bs v
  have Q:((vw K.files).map (·.1)).Nodup:=h.aI.nodup;have aF:y (a'++b'++c'++d')=y (a++b++c++d):=P.lens;have E:¬p.aO s.aI (z (G w)+2):=λq=>by
   rcases g.aO _ q with bb|bb
   .exact D bb
   .omega
  have ao:y p.gT<=9000000+2*N:=by
   have h1:=h.gT _<|lU _;rw[g.GK.2.2];omega
  have au:=h.zF;refine(TH a' b' c' d' g.box (G2 g.UX.l0 g.UX.l1 g.UX.l2 g.UX.l3 (by omega) g.box) (λav k=>?_) (h.pow.aj g.fj.aj<|λq=>q.elim h.ml (λq=>by have:=h.pow.lt;omega)) (by rw[g.qf.2.1];exact al) (by omega) g.UX.aI E (by rw[g.GK.1];omega) (by rw[g.GK.1];omega) hn).mono ?_
  .rcases aG.1 k with k|k
   .rcases aG.1 k with k|k
    .rcases aG.1 k with k|k
     .exact AD<|g.UX.l0.each av k
     .exact AD<|g.UX.l1.each av k
    .exact AD<|g.UX.l2.each av k
   .exact AD<|g.UX.l3.each av k
  .rintro aU w'⟨o,O,aV,n,rfl,S⟩;rw[Hs P,g.qf.2.1]at S;rw[g.GK.1]at O;have x:fJ W w' s.aI (z (G w)+2) p n:=fJ.of S.nW;have r:=g.fj.trans x;have hu:∀an∈lC j (a++b++c++d) o,nw j (a++b++c++d) an=aX:=λan q=>by
    have:=(dL.1 q).2;simpa using this
   rcases S.uz with⟨rfl,v⟩|⟨ba,q,c',hp,v,rfl,B,hc⟩
   .obtain⟨g1,g2⟩:=Ey v;rw[F]at g1;have aa:FU (vw n.files) nx j tbqq a b c d e lsqq:=by
     rw[g1];refine(hI.del Q hu).qD<|λan bs q=>?_;obtain⟨z1,z2⟩:=qR Q q;cases yqq:nw j (a++b++c++d) an with
     |true=>rfl
     |false=>
      refine absurd (dL.2 ⟨O.mem_iff.2 ?_,by rw[yqq];rfl⟩) z1;rw[<-Aq];exact bR.2 ⟨_,nU z2,rfl⟩
    have t:cS w' (z (G w)+2) s 0:=(S.nW.aj.block _ (ak g.box) E).trans g.box;have ac:∀L,n.aO s.aI L->K.aO s.aI L\/z (G w)+4<=L:=λL q=>(x.aO L q).elim (g.aO L)<|λbb=>.inr<|aC g.size bb;obtain⟨i1,i2,i3⟩:=ON h g rfl ho x t aa (by rw[g2,g.GK.2.2];exact h.gT o O);refine .inl ⟨rfl,⟨s,n,_,a',b',c',d',tbqq,lsqq,t,i1,i2,i3,⟨rfl,ec,em,et,eg⟩,r,aC g.size x.aj.size,ac,o,O,by rw[Hs P,g.qf.2.1];exact v.pre g.GK⟩,?_⟩;refine x.aj.block _ (by have:=g.size;omega) (λc=>c.elim (λc=>?_)<|λc=>by omega);rcases g.aO _ c with q|q
    .have:=u _ q;omega
    .omega
   .refine .inr ⟨q,rfl,n,c',r.ok,?_,V r.aj,r.aO,r.fx,B,g.fj.fx.Xh h.aI.wS hc⟩;have hl:ba=((lC j (a++b++c++d) o).take<|y ba).map .rm:=by
     obtain⟨aa,S⟩:=hp;rw[uM,<-S,kS]
    rw[hl]at v;rw[(Ey v).1,F];exact⟨_,_,_,_,_,_,_,_,_,h.oN.del Q<|λan q=>hu an<|dZ q⟩
 rintro W⟨s,p,O,a',b',c',d',E,v,g⟩;obtain⟨es,ec,em,et,eg⟩:=g.same;subst es;apply(KG [] g.box g.inv g.tid).mono;rintro aU w'⟨rfl,k⟩;have x:=oX (sbqq:=z (G w)+2) g.inv.st.aI k;have t:cS w' (z (G w)+2) s 0:=(k.block _ (ak g.box) id).trans g.box;exact⟨rfl,⟨s,p,O,a',b',c',d',E,v,t,g.inv.fj (ak g.box) x rfl (ah _) rfl g.inv.loose,g.tid,g.sG,⟨rfl,ec,em,et,eg⟩,g.fj.trans x,aC g.size k.size,g.aO,g.ops⟩,k.block _ (by have:=g.size;omega) id⟩
end
structure Xe(W:Y)(K:DK)(db sb:M)(s:SR)(k:M):Prop extends Aside W K db sb k where
 Ae:s.ow≠H k
structure Xa(W g:Y)(db sb:M)(s:SR)(K K':DK):Prop where
 ok:cG g db K'
 aj:Z (λk=>(K.aO db k\/k=sb)\/s.ow=H k) W g
 aO:∀k,K'.aO db k->K.aO db k\/z (G W)<=k
 fx:Fx K.fx K'.fx
def YM(W:Y)(x:M):Prop:=∃h w u,W.heap[x]?=H (aw h w u)/\w≠263/\((∀D,Value.string D∉h.toList)\/∀A B,Value.int A B∉h.toList)/\∀q,Value.pointer (H<|R q 0)∈h.toList->∃k t r,W.heap[q]?=H (aw k t r)/\t≠263
section
variable{w0 W g:Y}{db sbqq x:M}{mem e:X}{Cl i:eV}{s s':SR}{K K':DK}{m o:cR}{a b c d a' b' c' d':cW}{C C' tbqq n N N':M}{lsqq j:dS}{l l':kD}{S:eV}{v:ab}{ts:cW}{p:gz}{f z':Prop}
theorem fJ.dm(h:fJ W g db sbqq K K'):Xa W g db sbqq s K K':=⟨h.ok,h.aj.mono<|λ_ q=>.inl<|.inl q,h.aO,h.fx⟩
theorem Aside.grow{q:M}(h:Aside W K db sbqq q)(k:z (G W)<=z (G g)):Aside g K db sbqq q:=⟨ag h.lt k,h.aO,h.ne⟩
theorem Xe.grow{q:M}(k:Xe W K db sbqq s q)(h:z (G W)<=z (G g)):Xe g K db sbqq s q:=⟨k.toAside.grow h,k.Ae⟩
theorem Xe.nW{k:M}(h:Xe W K db sbqq s k)(q:Xa W g db sbqq s K K')(r:∀k,s'.ow=H k->s.ow=H k):Xe g K' db sbqq s' k:=⟨⟨ag h.lt q.aj.size,λc=>(q.aO k c).elim h.aO (λd=>by have:=h.lt;omega),h.ne⟩,λt=>h.Ae<|r k t⟩
theorem Xe.off{k:M}(h:Xe W K db sbqq s k)(c:(K.aO db k\/k=sbqq)\/s.ow=H k):False:=c.elim (λc=>c.elim h.aO h.ne) h.Ae
theorem Xe.block{k:M}(q:Xe W K db sbqq s k)(h:Xa W g db sbqq s K K'):g.heap[k]?=W.heap[k]?:=h.aj.block k q.lt q.off
end
theorem GS{S:eV}{P F:Y}{h an:M}{v:ab}{q:gW}(ht:Z S P F)(hr:Row P h v an q)(hl:∀al,cK v=H al->al<z (G P))(A:0<y q->∀x,S x->∃u ao B,P.heap[x]?=H (aw u ao B)/\∃(ac:M)(O:ab),q[ac]?=H O/\O∉u.toList):Row F h v an q:=by
 obtain⟨E,⟨r,q0⟩|⟨L,k,t,r,w,D⟩⟩:=hr;exact⟨E,.inl ⟨r,q0⟩⟩;refine⟨E,.inr ⟨L,k,t,r,w,λad O V=>?_⟩⟩;(have Q:¬S L:=by intro hs;(have aa:ad<y q:=by grind);obtain⟨u,ao,B,hx,ac,u',T,hu⟩:=A (by omega) L hs;have:=D ac u' T;rw[cg hx]at this;grind);exact ht.cell (D ad O V) Q<|hl L (by rw[r];rfl)
theorem Tq{m:cR}{k:Array ab}(h:(∀u,Value.string u∉k.toList)\/∀w A,Value.int w A∉k.toList)(q:0<y (aK m)):∃(t:M)(u:ab),(aK m)[t]?=H u/\u∉k.toList:=by
 rcases m with _|⟨r,m⟩;simp[aK]at q;rcases h with h|h;exact⟨0,am r.key,by simp[aK,E.cells],h _⟩;exact⟨3,aE r.bO,by simp[aK,E.cells],h _ _⟩
theorem RK{ts:cW}{h:Array ab}(q:∀t∈ts,t.ptr∉h.toList)(k:0<y (ts.map bz.ptr)):∃(r:M)(u:ab),(ts.map bz.ptr)[r]?=H u/\u∉h.toList:=by
 rcases ts with _|⟨t,ts⟩;simp at k;exact⟨0,t.ptr,by simp,q t<|by simp⟩
theorem NC{S:eV}{aa w':Y}{tbqq:M}{P:ab}{k cut q E:X}{w t h:M}{A:ab}{r:mq}(O:lH aa tbqq P k cut q E w t h A r)(V:Z S aa w')(T:∀x,S x->YM aa x):lH w' tbqq P k cut q E w t h A r:=by
 have B:¬S tbqq:=λu=>by obtain⟨cs,ad,fr,L,h1,_⟩:=T tbqq u;exact kw O.box L (λr=>h1 r.symm) rfl
 have F:=O.ne;have Q:(eO r)[3]?=H (am (r[0]'F).first):=by rcases r with _|⟨ac,r⟩;simp at F;simp[eO,rp.cells]
 have D:¬S w:=λu=>by obtain⟨cs,ad,fr,L,_,u,_⟩:=T w u;(have h0:(eO r)[0]?=H (ar (r[0]'F).pos):=by rcases r with _|⟨ac,r⟩;simp at F;simp[eO,rp.cells]);rcases u with u|u;(have:=O.cells 3 _ Q;rw[cg L]at this;grind);have:=O.cells 0 _ h0;rw[cg L]at this;grind
 exact O.dw (V.block tbqq (ak O.box) B)<|V.block w (cC _ _<|O.cells 3 _ Q) D
section
variable{w0 W g:Y}{db sbqq x:M}{mem e:X}{Cl i:eV}{s s':SR}{K K':DK}{m o:cR}{a b c d a' b' c' d':cW}{C C' tbqq n N N':M}{lsqq j:dS}{l l':kD}{S:eV}{v:ab}{ts:cW}{p:gz}{f z':Prop}
theorem Dn.BA{D:Fs}(E:Dn D W K db sbqq v ts)(r:Z S W g)(F:∀x,S x->YM W x):Dn D g K db sbqq v ts where
 row:=GS r E.row (λaa t=>(E.loc aa t).lt) (λT x hs=>by
  obtain⟨L,ac,P,hx,_,_,V⟩:=F x hs;exact⟨L,ac,P,hx,RK (λA q c=>by
   obtain⟨B,k,h,u,_⟩:=(E.each A q).mem;obtain⟨O,t',Q,hq,w⟩:=V _ c;exact kw u.box hq (λh=>w h.symm) rfl) T⟩)
 loc:=λaa t=>(E.loc aa t).grow r.size
 each:=λA q=>by
  obtain⟨⟨B,k,h,u,w⟩,L,O,P,Q,T,V,q8⟩:=E.each A q;exact⟨⟨B,k,h,NC u r F,w.grow r.size⟩,L.grow r.size,O,P,Q,T,V,q8⟩
theorem Inv.BA(h:Inv W sbqq s K m a b c d C tbqq N lsqq p)(k:Z S W g)(L:∀x,S x->Aside W K s.aI sbqq x)(q:∀x,S x->YM W x)(B:¬S 1/\¬S 2):Inv g sbqq s K m a b c d C tbqq N lsqq p:={h with
 st:={h.st with
  mem:=GS k h.st.mem (λu r=>(h.st.sI u r).lt) (λE x F=>by
   obtain⟨w,P,A,t,_,r,_⟩:=q x F;exact⟨w,P,A,t,Tq r E⟩)
  sI:=λu r=>(h.st.sI u r).grow k.size
  l0:=h.st.l0.BA k q
  l1:=h.st.l1.BA k q
  l2:=h.st.l2.BA k q
  l3:=h.st.l3.BA k q
  aI:=h.st.aI.aj k<|λu c D=>(L u D).aO c
  kA:=⟨Steps.aj h.st.kA.steps k B.1,h.st.kA.pow.aj k B.2,h.st.kA.fS.grow k.size,h.st.kA.ml.grow k.size⟩}
 Ae:=by
  obtain⟨b,E,u,F⟩:=h.Ae.ex;refine⟨⟨b,E,u.dw (k.block b u.lt (λD=>?_)),F.grow k.size⟩,h.Ae.len⟩;obtain⟨w,P,A,t,_⟩:=q b D;obtain⟨Q,r,O,_⟩:=u;rw[O]at t;cases t}
structure CW(w0 W:Y)(db sb:M)(mem kG:X)(Cl:eV)(s:SR)(K:DK)(m:cR)(a b c d:cW)(C tb N:M)(ls:dS)(l:kD)(f:Prop):Prop where
 GG:cS W sb s 0
 yA:s.closed=aX/\s.aI=db/\s.mem=mem/\s.kG=kG
 inv:Inv W sb s K m a b c d C tb N ls []
 tid:FJ s a b c
 Bi:wN ((m::bU a b c d).map<|jT s.aS) l
 len:y l<=C
 aj:Z ay w0 W
 low:(∀k,K.aO db k->z (G w0)<=k)/\z (G w0)<=sb
 EU:∀k,s.ow=H k->z (G w0)<=k/\k<z (G W)
 cl:∀k,Cl k->Xe W K db sb s k/\z (G w0)<=k
 g0:Steps w0/\Pow w0/\kB w0
 rm:K.fx.room<1000000000
 qt:f->K.fx.bd=0
def uc(w0 W:Y)(db sbqq:M)(mem e:X)(Cl:eV)(C N:M)(l:kD)(f:Prop):Prop:=∃s K m a b c d tbqq lsqq,CW w0 W db sbqq mem e Cl s K m a b c d C tbqq N lsqq l f
def sP(w0:Y)(Cl:eV):eV:=λk=>z (G w0)<=k/\¬Cl k
theorem CW.sN(h:CW w0 W db sbqq mem e Cl s K m a b c d C tbqq N lsqq l f):kB W:=h.g0.2.2.aj h.aj id
theorem CW.kA(h:CW w0 W db sbqq mem e Cl s K m a b c d C tbqq N lsqq l f)(r:∀x,S x->z (G w0)<=x):¬S 1/\¬S 2:=by
 have k:=h.g0.1.lt;have q:=h.g0.2.1.lt;grind
theorem CW.ZH(h:CW w0 W db sbqq mem e Cl s K m a b c d C tbqq N lsqq l f)(k:Xa W g db sbqq s K K'):Z (sP w0 Cl) W g:=k.aj.mono<|λr q=>.inl ⟨q.elim (λq=>q.elim (h.low.1 r) (λt=>by have:=h.low.2;omega))<|λt=>(h.EU r t).1,λc=>(h.cl r c).1.off q⟩
theorem CW.nW(r:CW w0 W db sbqq mem e Cl s K m a b c d C tbqq N lsqq l f)(t:Xa W g db sbqq s K K')(h:∀k,s'.ow=H k->s.ow=H k)(A:cS g sbqq s' 0)(u:s'.closed=aX/\s'.aI=db/\s'.mem=mem/\s'.kG=e)(w:Inv g sbqq s' K' o a' b' c' d' C' n N' j [])(E:FJ s' a' b' c')(B:wN ((o::bU a' b' c' d').map<|jT s'.aS) l')(D:y l'<=C'):CW w0 g db sbqq mem e Cl s' K' o a' b' c' d' C' n N' j l' f where
 GG:=A
 yA:=u
 inv:=w
 tid:=E
 Bi:=B
 len:=D
 aj:=r.aj.trans t.aj<|λk q=>.inr<|q.elim (λq=>q.elim (r.low.1 k) (λh=>by have:=r.low.2;omega))<|λh=>(r.EU k h).1
 low:=⟨λk q=>(t.aO k q).elim (r.low.1 k)<|λh=>aC r.aj.size h,r.low.2⟩
 EU:=λk q=>⟨(r.EU k<|h k q).1,ag (r.EU k<|h k q).2 t.aj.size⟩
 cl:=λk q=>⟨(r.cl k q).1.nW t h,(r.cl k q).2⟩
 g0:=r.g0
 rm:=by rw[t.fx.room];exact r.rm
 qt:=λq=>t.fx.bd<|r.qt q
theorem CW.ij(h:CW w0 W db sbqq mem e Cl s K m a b c d C tbqq N lsqq l f)(t:Z S W g)(r:∀x,S x->Cl x/\YM W x)(A:∀k,i k->Cl k\/z (G W)<=k/\k<z (G g)):CW w0 g db sbqq mem e i s K m a b c d C tbqq N lsqq l f where
 GG:=(t.block sbqq (ak h.GG)<|λq=>(h.cl sbqq (r sbqq q).1).1.ne rfl).trans h.GG
 yA:=h.yA
 inv:=by
  have w:=h.yA.2.1;subst w;exact h.inv.BA t (λx q=>(h.cl x (r x q).1).1.toAside) (λx q=>(r x q).2)<|h.kA<|λx q=>(h.cl x (r x q).1).2
 tid:=h.tid
 Bi:=h.Bi
 len:=h.len
 aj:=h.aj.trans t<|λk q=>.inr (h.cl k (r k q).1).2
 low:=h.low
 EU:=λk q=>⟨(h.EU k q).1,ag (h.EU k q).2 t.size⟩
 cl:=λk q=>by
  have u:∀k,K.aO db k->k<z (G W):=by
   have w:=h.yA.2.1;subst w;exact h.inv.st.aI.lt
  rcases A k q with q|q
  .exact⟨(h.cl k q).1.grow t.size,(h.cl k q).2⟩
  .exact⟨⟨⟨q.2,λc=>by have:=u k c;omega,λw=>by have:=ak h.GG;omega⟩,λw=>by have:=(h.EU k w).2;omega⟩,aC h.aj.size q.1⟩
 g0:=h.g0
 rm:=h.rm
 qt:=h.qt
theorem uc.ij(h:uc w0 W db sbqq mem e Cl C N l f)(t:Z S W g)(r:∀x,S x->Cl x/\YM W x)(q:∀k,i k->Cl k\/z (G W)<=k/\k<z (G g)):uc w0 g db sbqq mem e i C N l f:=by
 obtain⟨s,K,m,a,b,c,d,tbqq,lsqq,h⟩:=h;exact⟨s,K,m,a,b,c,d,tbqq,lsqq,h.ij t r q⟩
theorem uc.still(k:uc w0 W db sbqq mem e Cl C N l f)(h:Z ay W g):uc w0 g db sbqq mem e Cl C N l f:=k.ij h cL<|λ_ q=>.inl q
theorem uc.sN(h:uc w0 W db sbqq mem e Cl C N l f):kB W:=by
 obtain⟨s,K,m,a,b,c,d,tbqq,lsqq,h⟩:=h;exact h.sN
theorem uc.aj(h:uc w0 W db sbqq mem e Cl C N l f):Z ay w0 W:=by
 obtain⟨s,K,m,a,b,c,d,tbqq,lsqq,h⟩:=h;exact h.aj
theorem uc.mono(h:uc w0 W db sbqq mem e Cl C N l f)(t:C<=C')(q:C'<=1000000)(u:N<=N')(r:N'<=100000000):uc w0 W db sbqq mem e Cl C' N' l f:=by
 obtain⟨s,K,m,a,b,c,d,tbqq,lsqq,h⟩:=h;exact⟨s,K,m,a,b,c,d,tbqq,lsqq,{h with inv:=h.inv.mono t q u r,len:=aC h.len t}⟩
theorem uc.quiet(h:uc w0 W db sbqq mem e Cl C N l f)(k:z'->f):uc w0 W db sbqq mem e Cl C N l z':=by
 obtain⟨s,K,m,a,b,c,d,tbqq,lsqq,h⟩:=h;exact⟨s,K,m,a,b,c,d,tbqq,lsqq,{h with qt:=λq=>h.qt (k q)}⟩
end
def UR(u:a.ownsRow b c 1 (bD g 0 m D) m (n.map<|Value.int .u8))(q:S<=y n):a.ownsRow b c 1 (bD g 0 S D) (y<|n.take S) ((n.take S).map<|Value.int .u8):=by
 obtain⟨l,⟨j,_⟩|⟨t,i,d,k,o,p,r,e,f,h⟩⟩:=u;cases j;cases k;(have s:y n=m:=by simpa using l);refine⟨by simp,.inr ⟨g,D,d,by rw[dO,wO q],o,p,by rw[dO];omega,e,f,?_⟩⟩;rw[uM,<-h,xE,dO];congr 1;omega
def TB{K:DK}{al:da}(h:cG a b K)(hf:K.files=[al])(hs:K.sm=[(al.name,kM<|H al.pa)])(hm:K.gT=[])(hn:al.safe=c/\c<=y al.bytes)(hl:y al.bytes<=1000000000)(ac:0<y al.bytes):cY aZ 13 #[aA b,aE 0,aE 0] a λg w'=>g=aM (dq #[])/\∃D bE,pJ a w' b K D/\D.files=[⟨al.name,al.pa,bE,al.bytes.take c,c⟩]/\D.gT=[]:=by
 have aU:=h.steps;rw[hm]at aU;obtain⟨mx,mc,bt⟩:=aB aU;have cn:=@rq aZ;have f:=h.ie;rw[bt]at f;have c0:=cellAt f 0 rfl;have c1:=cellAt f 1 rfl;have c2:=cellAt f 2 rfl;have c4:=cellAt f 4 rfl;have c5:=cellAt f 5 rfl;have f0:=cP (i:=0) f;have f2:=cP (i:=2) f;have f4:=cP (i:=4) f;have f5:=cP (i:=5) f;have ao:=U h.safe;have HD:=U h;have ck:=ak f;have hF:=h.files al (by rw[hf];simp);have bm:b≠K.sb:=h.safe.tag f;obtain⟨o,p⟩:∃o,cN (cq (cq (cq (cq a (R b 0)<|.map<|H<|z<|G a) (R b 2) az) (R b 4)<|ar 0) (R b 5)<|ar 0) (.map #[] 0)=o:=⟨_,rfl⟩;have N:Z (λk=>k=b) a o:=by rw[<-p];exact((((eZ a b 0 _).setCell b 2 _<|.inl rfl).setCell b 4 _<|.inl rfl).setCell b 5 _<|.inl rfl).alloc _
 have cr:z (G o)=z (G a)+1:=by rw[<-p];simp
 have Q:jQ o b (z<|G a) K.sb az {K.fx with wt:=0,bd:=0}:=by unfold jQ;rw[<-p];exact(fU _ (by simp;omega)).trans<|(aH<|aH<|aH<|aH f).trans rfl
 have B:gM o (z<|G a) []:=⟨#[],0,by rw[<-p];exact aJ _ (by simp),rfl,qw 0⟩;have ad:gM o K.sb K.sm:=h.safe.aj N<|λg=>bm g.symm;have n:al.pa≠b/\cK al.data≠H b:=⟨kw hF.1 f (by decide),zM hF.2.1 f<|by decide⟩;have bi:wL o al:=hF.aj N n.1<|λk g c=>n.2 (by rw[g];grind);clear h aU f hF;go_in
 go_wp2_with fail
 refine gX 1 ?_;rw[gd];have ce:=U p;obtain⟨bb,C,an,bL,cd⟩:=iO Q B ad bi N;clear Q B ad bi N p ao
 go_wp2_with(first
  |(at_range;rw[J ce];refine qZ _ rfl _ 59 rfl 9 102 underlying59 K.sb _ rfl an ?_;intro w0 V bo co;have bT:=U V;have bf:=U bo;clear V bo))
 obtain⟨au,d,cf,e,ch⟩:=al;simp only at*;obtain⟨rfl,aa⟩:=hn;obtain⟨L,q2,q3⟩:=J bL;simp only at L q2 q3;have l:Z ay o w0:=Z.ee bf (by simp);have a1:=(l.block d (ak L) id).trans L;obtain⟨j,w,cm,_,_,cl⟩:=rY q2 ac;subst cm;have cw:=(l.block b (ak<|J bb) id).trans<|J bb;refine gX 2 ?_;rw[gd]
 go_wp2_with(first
  |(at_next;refine pW _ rfl _ rfl K.sb (z (G o)) _ _ rfl bT ?_ ?_))
 intro pre pk pv bv w2 r W bp cp bn;obtain⟨rfl,rfl,rfl,rfl⟩:pre=[]/\pk=au/\pv=kM (H d)/\bv=[]:=by rcases pre with _|⟨bE,pre⟩;simp at r;exact⟨rfl,r.1.1.symm,r.1.2.symm,r.2⟩;simp at r
 simp only[kM]at bn;have s:Z (λk=>k=z (G a)+1) w0 w2:=fA bp;have cj:d<z (G o):=ak L;have a2:=(s.block d (by have:=l.size;omega) (λg=>by have E:d=z (G a)+1:=g;omega)).trans a1;have ap:=(s.block b (by have:=l.size;omega) (λg=>by have E:b=z (G a)+1:=g;omega)).trans cw;have y0:=cellAt a2 0 rfl;have y1:=cellAt a2 1 rfl;have z0:=cP (i:=0) a2;have z1:=cP (i:=1) a2;have x0:=cellAt ap 0 rfl;have v1:IntKind.i64.wrap ((y e:X)-(c:X))=(y e:X)-c:=by rw[bN];omega
 have v2:IntKind.i64.wrap ((y e:X)-(c:X)+1)=(y e:X)-c+1:=by rw[bN];omega
 have v3:IntKind.u64.wrap ((y e:X)-(c:X)+1)=(y e:X)-c+1:=by rw[gH];omega
 have v4:((y e:X)-(c:X)+1==0)=aX:=by rw[kE];omega
 have v5:(0:X).tmod ((y e:X)-(c:X)+1)=0:=Int.zero_tmod _;go_wp2_with fail
 go_quiet(fail)
 rename_i nq;have v6:IntKind.i64.wrap ((c:X)+0)=(c:X):=by rw[bN];omega
 have v7:(0:X)<=(c:X):=by omega
 have v8:(c:X)<=(w:X):=by omega
 go_wp2_with fail
 rename_i KK bl;obtain⟨i,hU⟩:∃i,w2.drewN nq=i:=⟨_,rfl⟩;have tU:Z ay w2 i:=by rw[<-hU];exact iY _ _ _
 have bh:=(tU.block d (ak a2) id).trans a2;rw[hU];have x:aW i.drew (R d 0)=H (bD j 0 (y e) w)/\aW i.drew (R d 1)=H (ar c)/\i.drew.frozen? (R d 0)=aX:=⟨cellAt bh 0 rfl,cellAt bh 1 rfl,cP (i:=0) bh⟩;refine dR (λm=>aW m (R d 0)=H (bD j 0 (y e) w)/\aW m (R d 1)=H (ar c)/\m.frozen? (R d 0)=aX) 14 (by kernel_rfl) ?_;refine fh 0 ?_;iterate 11 (refine iz (v:=?_) x rfl (by kernel_rfl) lk rfl ?_ ?_;rotate_left;(focus(rintro m⟨z0,z1,z2⟩;go_simp;try rfl));simp only[Act.put,dW,iS,Nat.reduceAdd])
 refine iz (v:=bD j 0 c w) x rfl (by kernel_rfl) lk rfl ?_ ?_;(.rintro m⟨z0,z1,z2⟩;(have A:(Instr.sliceAt 103 (bD j 0 (y e) w) none (H<|ar c) none).run aZ m=.ok (bD j 0 c w) m:=by go_simp);show(execOp _ _).run _ _=_;(have v9:IntKind.i64.wrap (c:X)=(c:X):=by rw[bN];omega);simp[execOp,Act.eval,v9,A,Result.andThen]);simp only[Act.put,dW,iS,Nat.reduceAdd];apply ii;refine bj (i:=12) rfl rfl (by kernel_rfl) ?_;intro cE O;go_simp;refine O _ _ (λ_=>x) ?_;try simp only[Act.put,dW,iS]
 clear O;refine bj (i:=13) rfl rfl (by kernel_rfl) ?_;intro cM P;go_simp;refine P _ _ (λ_=>x) ?_;try simp only[Act.put,dW,iS]
 clear P;refine bj (i:=14) rfl rfl (by kernel_rfl) ?_;intro K1 bk;go_simp;refine bk _ _ FQ ?_;try simp only[Act.put,dW,iS]
 clear bk x;refine eS (by kernel_rfl) ?_ _;show KK _ _;apply bl;clear bl;obtain⟨bg,hV⟩:∃bg,(cq i (R d 0)<|bD j 0 c w).drew=bg:=⟨_,rfl⟩;have tV:Z (λk=>k=d) i bg:=by rw[<-hV];exact((eZ i d 0 _)).cz<|cZ ay _
 have ba:bg.heap[d]?=H (aw #[bD j 0 c w,ar c] 105 (0,0)):=by rw[<-hV];exact(aH bh).trans rfl
 rw[hV];have cv:z (G w2)=z (G a)+2:=by omega
 have aF:d≠b:=n.1;have cu:=tU.size;have u:bg.heap[b]?=H (aw #[.map<|H<|z<|G a,.map<|H K.sb,az,ar K.fx.room,ar 0,ar 0,ar K.fx.reads,ar K.fx.Si] 62 (0,0)):=(tV.block b (by omega)<|λg=>aF<|Eq.symm g).trans<|(tU.block b (by omega) id).trans ap;have mN:∀aV A,gM (bg.setCell (R d aV) A) (z<|G a) []:=λaV A=>by have m0:=(J C).aj l id;have m2:=m0.aj s (λg=>by have E:z (G a)=z (G a)+1:=g;omega);have m3:=(m2.aj tU id).aj tV (λg=>by have E:z (G a)=d:=g;exact(J C).tag L E.symm);exact m3.aj (eZ bg d aV A) (λg=>by have E:z (G a)=d:=g;exact(J C).tag L E.symm)
 have y0:=cellAt ba 0 rfl;have y1:=cellAt ba 1 rfl;have z1:=cP (i:=1) ba;have x0:=cellAt u 0 rfl;have cc:=U mN;clear mN
 go_wp2_with(first
  |(at_mapUpdate;go_loud(refine xH _ rfl _ _ _ 59 rfl 9 102 underlying59 underlying9 (z (G a)) [] rfl (cc 1 (ar c)) pk _ rfl rfl ?_;intro w5 bs bq;have cb:=U bs;have ca:=U bq;clear bs bq)))
 have tS:Z (λk=>k=d) bg (bg.setCell (R d 1)<|ar c):=eZ bg d 1 _;have t5:Z (λk=>k=z (G a)) (bg.setCell (R d 1)<|ar c) w5:=fA ca;have t:Z (λk=>k=d\/k=z (G a)) w2 w5:=(((tU.mono (T:=λk=>k=d\/k=z (G a)) cL).trans tV<|λ_ q=>.inl<|.inl q).trans tS<|λ_ q=>.inl<|.inl q).trans t5<|λ_ q=>.inl<|.inr q;have aD:d≠K.sb:=an.tag L;have F:z (G a)≠K.sb:=λg=>by have:=(J HD).safe.lt;omega
 have bu:d≠z (G a):=C.tag L;have br:K.sb<z (G a):=(J HD).safe.lt;have g5:pH w5 K.sb (z (G a)+1) [(pk,kM<|H d)] []:=W.kept (t.block _ (by omega)<|λq=>q.elim (λg=>aD g.symm)<|λg=>F g.symm) (t.block _ (by omega)<|λq=>q.elim (λg=>by omega)<|λg=>by omega);have HG:=U g5;have cs:=t.size;have bx:Z (λk=>k=b\/k=d) a w5:=((((cd.mono (T:=λk=>k=b\/k=d)<|λ_ q=>.inl<|.inl q).cz l).trans s<|λk g=>.inr (by have E:k=z (G a)+1:=g;omega))).trans t<|λk q=>q.elim (λg=>.inl<|.inr g)<|λg=>.inr<|by omega
 have S:∃D bE,pJ a w5 b K D/\D.files=[⟨pk,d,bE,e.take c,c⟩]/\D.gT=[]:=by
  have hH:=J HD;have av:(⟨pk,d,bD j 0 (y e) w,e,c⟩:da)∈K.files:=by rw[hf];simp
  have ax:=hH.files _ av;have cT:j≠d:=λg=>zM ax.2.1 ax.1 (by decide) (by show H j=H d;rw[g]);have cx:j<z (G o):=(q2.lt j rfl).2;have cB:j<z (G a):=(ax.2.1.lt j rfl).2;have tt:Z (λk=>k=d\/k=z (G a)\/k=z (G a)+1) o w5:=((l.mono (T:=λk=>k=d\/k=z (G a)\/k=z (G a)+1) cL).trans s<|λ_ q=>.inl<|.inr<|.inr q).trans t<|λ_ q=>.inl<|q.elim .inl<|λq=>.inr<|.inl q;refine⟨{K with nb:=z<|G a,mv:=az,files:=[⟨pk,d,bD j 0 c w,e.take c,c⟩],gT:=[],fx:={K.fx with wt:=0,bd:=0}},bD j 0 c w,⟨⟨?_,cb,?_,F,cO _ _ _ _,by simp,?_,by simp,⟨by simp,by simp⟩,?_,hH.kK⟩,?_,?_,⟨λ_=>⟨by simp,by simp⟩,rfl,λ_=>rfl⟩⟩,rfl,rfl⟩
  .exact(t5.block b (by rw[gP];exact ak u) (λg=>by have E:b=z (G a):=g;omega)).trans<|(tS.block b (ak u)<|λg=>aF<|Eq.symm g).trans u
  .have:=an.aj tt (λq=>by rcases q with g|g|g;exact aD g.symm;exact F g.symm;omega);exact this
  .intro dc A;simp at A;subst A;refine⟨?_,?_,λbE hx=>q3 bE<|dZ hx⟩
   .exact(t5.block d (by rw[gP];exact ak ba)<|λg=>bu g).trans<|(aH ba).trans rfl
   .have ho:=tt.own q2 (λk hk q=>by
     have db:j=k:=by simpa[cK]using hk
     rcases q with g|g|g<;>omega)
    exact UR ho aa
  .have h1:=hH.room;rw[hf]at h1;simp[fB]at h1|-;omega
  .exact bx.mono (λk q=>.inl (by
    rcases q with rfl|rfl
    .exact .inl rfl
    .exact .inr (.inr (.inr (.inr (.inr ⟨_,av,.inl rfl⟩))))))
  .rintro k(g|g|g|g|⟨db,hy,_⟩|⟨dc,A,g⟩)
   .exact .inl<|.inl g
   .exact .inr (by have E:k=z (G a):=g;omega)
   .exact .inl<|.inr<|.inr<|.inl g
   .cases g
   .cases hy
   .simp at A;subst A;refine .inl<|.inr<|.inr<|.inr<|.inr<|.inr ⟨_,av,?_⟩;rcases g with g|g
    .exact .inl g
    .exact .inr<|by simpa[cK]using g
 have bc:=U S;clear S bx cs g5 br bu F aD t t5 tS y0 y1 z1 x0 u cu aF cv ba tV hV bh tU hU v1 v2 v3 v4 v5 v6 v7 v8 a2 ap s cj bn W bp cp r a1 cw l L q2 q3 z0 n c0 c1 c2 c4 c5 f0 f2 f4 f5 cn bt ck bm hm hs hf cl ac hl aa cr co;rw[gd]
 go_wp2_with(first
  |(at_next;refine pW _ rfl _ rfl K.sb (z (G a)+1) _ _ rfl HG ?_ ?_))
 go_end0;obtain⟨D,bE,h1,A,h3⟩:=J bc;exact⟨rfl,D,h1,⟨bE,A⟩,h3⟩
def UN:PR 0 (bU [] [] [] []):=by
 have e:bU [] [] [] []=[[],[],[]]:=rfl;rw[e];have a:PR 0 ([]:dS):=⟨List.Pairwise.nil,by simp,by simp,by simp⟩;grind[PR.Lu]
def vF:ji []:=⟨by simp,List.Pairwise.nil,List.Pairwise.nil⟩
def PV(b:1<=k/\k<=32/\2<=N/\N<=6):YL [] k N 0 0 (λ_=>none) 2 1 0 [] [] [] [] aX []where
 qD:=by
  refine⟨λn a h=>?_,⟨[],by simp,λm a h=>?_⟩,λ_ n a m h=>?_,λ_=>rfl,.inr ⟨rfl,rfl,rfl,rfl,rfl,rfl,rfl,rfl⟩,λh=>(by cases h),λ_=>rfl,by simp,by simp,by simp,by omega,by simp⟩
  .simp[dh]at h
  .simp[dh]at h
  .simp[dh]at h
 pr:=UN
 lp:=⟨by simp,by simp,by simp,by simp,by omega,by simp⟩
 rE:=by simp[ia,bZ]
 s1:=vF
 s2:=vF
 s3:=vF
 nx:=by omega
 bn:=by simp
 tid:=⟨by simp;omega,by simp[PE];omega⟩
 sG:=λq=>by
  have:seen (ia [] ([]:dS).flatten::(bU [] [] [] []).map (jT ((0+y ([]:dS):M):X))) q=none:=by
   rfl
  exact this
def Xy{a:RS}(l:(y e:X)<k/\2<=N)(b:Ac (((0:M):X)+1) [e])(j:y e<=8)(f:∀q,seen (ia [] [e].flatten::(bU [] [] [] []).map (jT ((0+1:M):X))) q=a q):YL [(fa 1,jZ 1 [e])] k N 8 1 a 2 1 0 [] [] [] [] ci [e]where
 qD:=by
  have i:fa 1≠eh:=kL 1;refine⟨λn d h=>?_,⟨[fa 1],by simp,λm d h=>?_⟩,λ_ n d m h g=>?_,λh=>(by cases h),.inr ⟨by simp[dh,i],rfl,rfl,rfl,rfl,rfl,rfl,rfl⟩,λ_=>by simp[dh],λh=>(by cases h),by simp,by simp,by simp,by omega,by simp⟩
  .by_cases c:fa 1=n
   .exact .inr<|.inr ⟨1,by omega,.inr c.symm⟩
   .simp[dh,c]at h
  .by_cases c:fa 1=m
   .simp[c]
   .simp[dh,c]at h
  .by_cases c:fa 1=n
   .rcases g with q|q
    .exact absurd (q.symm.trans c.symm)<|iA _ _
    .have:=AO<|c.trans q;omega
   .simp[dh,c]at h
 pr:=UN
 lp:=b
 rE:=by
  have:=(Eu b).2.2.2.2;simp[bZ]at this|-;omega
 s1:=vF
 s2:=vF
 s3:=vF
 nx:=by omega
 bn:=by simp
 tid:=⟨by simp;omega,by simp[PE];omega⟩
 sG:=f
def SH{w:gz}(r:Inv a b o i e j W u v c g m l w)(t:i.files=[]):e=[]/\j=[]/\W=[]/\u=[]/\v=[]/\g=0/\l=[]/\o.ez=aX/\o.log=1/\o.aS=0/\o.fm=0:=by
 have d:=r.qD;rw[t]at d
 have n:o.ez=aX:=by
  cases q:o.ez with
  |false=>rfl
  |true=>
   have:=d.log q;simp[vw,dh]at this
 have f:=d.vJ n;rcases d.state with q|⟨_,rfl,rfl,rfl,rfl,_,s,rfl⟩;simp[vw,dh]at q;subst f;have p:=r.XU;have h:=r.Di;have k:=r.MP;simp at p h k;exact⟨p,rfl,rfl,rfl,rfl,rfl,rfl,n,s,h,k⟩
def Ou{f:Iw}(h:QF f k)(a:f.bd=0)(b:f.room=1099511627776):False:=by
 rcases h with⟨_,q⟩|⟨_,q⟩<;>omega
def RX(v:mi (Eo o n++([.sy<|fa o.log]++[.sd])) i x)(B:o.ez=aX)(A:i.files=[])(D:i.sm=[])(C:i.gT=[]):∃g f,x.files=[⟨fa o.log,g,f,n,y n⟩]/\x.sm=[(fa o.log,kM<|H g)]/\x.gT=[]:=by
 unfold Eo Fv at v;rw[dF (by rw[B];simp)]at v;obtain⟨K,⟨g,E,c,j,k⟩,h,⟨F,f,d,e,l,m⟩,L,⟨b,c1,c2,c3,c4⟩,N,⟨p,q,r⟩,s,t,u⟩:=v;rw[A,cV]at c;rw[c]at d;have hF:F=⟨fa o.log,g,az,[],0⟩:=by simpa[ld]using d.symm
 subst hF;rw[c]at e;have a:h.files=[⟨fa o.log,g,f,n,0⟩]:=by rw[e];simp[nN]
 rw[a]at c1;have w:b=⟨fa o.log,g,f,n,0⟩:=by simpa[ld]using c1.symm
 subst w;rw[a]at c2;refine⟨g,f,?_,?_,by rw[u,r]⟩;rw[s,p,c2];simp[nN];rw[t,q,c3,c4,l,m,j,k,D,C];rfl
def UV{F0:da}(j:mi (Eo o n) i x)(k:o.ez=ci)(b:i.files=[F0])(l:F0.name=fa o.log):∃m,x.files=[{F0 with data:=m,bytes:=F0.bytes++n}]/\x.sm=i.sm/\x.gT=i.gT:=by
 unfold Eo Fv at j;rw[dH k,cV]at j;obtain⟨p,⟨F,m,a,c,d,e⟩,f,g,h⟩:=j;have hF:F=F0:=by rw[b]at a;simpa[ld,l]using a.symm
 subst hF;refine⟨m,?_,g.trans d,h.trans e⟩;rw[f,c,b];simp[nN]
