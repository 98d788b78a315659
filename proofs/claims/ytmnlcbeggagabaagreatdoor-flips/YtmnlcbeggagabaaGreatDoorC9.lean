import Derived.Test.YtmnlcbeggagabaaGreatDoorC7
import Derived.Test.YtmnlcbeggagabaaGreatDoorC8
open _root_ renaming List.length→y,Option.some→H,Array.size→z,Go.World.heap→G,Go.Value.ownBlock→cz,Go.World.cell?→aS,Go.World.setCell→cA,Go.World.alloc→cG,Bool.false→bj,Bool.true→ci,Nat→M,Int→U,List→cS,Go.Calls→cD,Go.undef→ix,Go.Proofs.Tryz.prog→aZ,Go.Value.slice→J,Go.Value.string→am,Go.Value.bool→aK,Go.Value.tuple→dd,Go.Value.agg→dD
namespace Go.Proofs.YtmnlcbeggagabaaGreatDoor
open ChangeShapes WideShapes RowKit Proofs.Tryz List
set_option maxHeartbeats 16000000
set_option linter.all false
set_option maxRecDepth 100000
variable{a f B:Z}{b c g m x:M}{d u:ab}{e:cI}{k:U}{l:dJ}{n:dN}{X:eT}{t:iL}{v:ae}{w:E}{K:Bool}
section
open Shelf
attribute [local go_sem] Oper.semAt_some
def Lo(f:M)(a:Array ab)(w:Z):cD aZ 178 #[.func (.func f) #[] a] w λe b=>e=aJ (.func (.func 226) #[] #[aA<|z<|G w])/\b=cG w (ay #[.func (.func f) #[] a] 240):=by
 go_in
 go_wp2;go_ret;simp_all
def mP:(prog.info? 170).map (λi=>(i.zero,i.size,i.bytes))=H (H vP,4,48):=by kernel_rfl
structure xB(V:iL)(S:eT)(w0:Z)(N:M)(pre:cI)(B:eT)(W:Z):Prop where
 JR:eG W (z<|G w0) aw 88
 err:eG W (z (G w0)+1) .nilIface 41
 row:∃v,eG W (z (G w0)+2) v 88/\W.ownsRow (z (G w0)+3) 170 4 v (y pre) (aI pre)/\(∀k,B k↔k=z (G w0)\/k=z (G w0)+1\/k=z (G w0)+2\/cz v=H k)
 le:y pre<=N
 ap:I (λk=>S k\/V.F k) w0 W
def xB.lt{S:eT}(j:xB t S a c e X B):∀k,X k->z (G a)<=k/\k<z (G B):=by
 intro k i;obtain⟨v,l,g,h⟩:=j.row;rcases(h k).1 i with d|d|d|d;grind
 grind
 grind
 have:=g.lt k d;grind
def xB.stays{m:eT}{T:eT}(i:xB t X a b e m f)(g:I T f B)(d:∀k,T k->¬m k/\((X k\/t.F k)\/z (G a)<=k)):xB t X a b e m B:=by
 obtain⟨v,l,n,c⟩:=i.row;exact⟨(g.block _ (ar i.JR)<|λh=>(d _ h).1<|(c _).2<|.inl rfl).trans i.JR,(g.block _ (ar i.err)<|λh=>(d _ h).1<|(c _).2<|.inr<|.inl rfl).trans i.err,⟨v,(g.block _ (ar l)<|λh=>(d _ h).1<|(c _).2<|.inr<|.inr<|.inl rfl).trans l,g.own n<|λk j h=>(d k h).1<|(c k).2<|.inr<|.inr<|.inr j,c⟩,i.le,i.ap.trans g<|λk j=>(d k j).2⟩
def vg{d:Func}{p q:Tmp}{e:TypeId}(n:d.results=#[.cell p e,.cell q 41]){m:TypeId}(j:prog.underlying e=H (.slice m))(a:Array ab)(w:Z)(f g:M)(u v:ab)(k:a.getD p ix=aA f)(l:a.getD q ix=aA g)(h:aS w (R f 0)=H u)(i:aS w (R g 0)=H v):(results d a).run aZ w=.ok (dd #[u,v]) w:=by
 have b:a[p]?.getD ix=aA f:=by simpa using k
 have c:a[q]?.getD ix=aA g:=by simpa using l
 simp[results,n,b,c,asAddr,loadVar,isAgg,underlying,j,underlying41,h,i,Result.andThen]
def eP{O:Fence}{P:Program}(A:Z){m:Array Oper}{f:cS Oper}{E:Oper}{F:Act}{aa:Exit->Act->Z->Prop}(s:E.guard=none)(al an:Operand)(K:TypeId)(t:E.op=.call {callee:=.builtin .append,args:=#[al,an],argTypes:=#[K,K]})(a:M)(B:TypeId)(C:TypeInfo)(j:ab)(c bytes:M)(W:P.underlying K=H (.slice B))(S:P.info? B=H C)(hz:C.zero=H j)(i:C.size=c)(r:C.bytes=bytes)(v:j.cells.size=c)(u:0<c)(N:ab)(D:M)(w:iF)(V:F.eval al=N)(k:A.ownsRow a B c N D w)(p:Addr)(x ac:M)(d:iF)(X:F.eval an=J (H p) x ac)(T:y d=x*c)(h:∀ad L,d[ad]?=H L->aS A (p.add ad)=H L)(Q:∀L∈d,L.oneCell'=ci)(hn:D+x<=140737488355328)(e:(D+x)*bytes<=140737488355328)(g:a<=z (G A))(ao:∀n o,o.ownsRow a B c n (D+x) (w++d)->eC A o N n->wpListIn O b P m aa f (F.put E.dst n) o):wpListIn O b P m aa (E::f) F A:=by
 refine vX s λau q=>?_;obtain⟨n,o,l,r1,r2,r3,r4⟩:=mX (P:=P) A a K E.type B C j c bytes W S hz i r v u N D w k p x ac d T h Q (by unfold maxLen;omega) e g;unfold Oper.wpIn;refine⟨?_,?_⟩;simp[Oper.about,t,resolve,Target.leads,rN];rw[Oper.semAt_plain O _ _ (by rw[t];grind)];simp[execOp,t,resolve,invoke,builtin,V,X,l,Result.andThen];exact q _ _<|ao n o r1<|eC.of r2 r4
theorem vF(w:Z)(x:E)(t:TypeId):∀j u,(aI [x])[j]?=H u->aS (cG w<|ay #[am x.key,am x.val,aK x.del,aE x.bJ] t) (((R (z<|G w) 0):Addr).add j)=H u:=by
 intro j u a;rw[dt];have h:(cG w<|ay #[am x.key,am x.val,aK x.del,aE x.bJ] t).heap[z<|G w]?=H (ay #[am x.key,am x.val,aK x.del,aE x.bJ] t (0,0)):=aH _ rfl;rw[bV h,dr];simpa[aI,E.cells]using a
theorem Bb(x:E):∀u∈aI [x],u.oneCell'=ci:=by
 intro u a;simp[aI,E.cells]at a;rcases a with rfl|rfl|rfl|rfl<;>rfl
def xB.more{v:eT}{x:E}{O:Obj}(w:xB t X a b e v f)(r:eG f (z (G a)+2) d 88)(C:∀k,v k↔k=z (G a)\/k=z (G a)+1\/k=z (G a)+2\/cz d=H k)(L:f.ownsRow (z (G a)+3) 170 4 d (y e) (aI e))(P:y e+1<=b)(F:eC (cG f O) B d u)(h:B.ownsRow (z (G a)+3) 170 4 u (y e+1) (aI e++aI [x])):∃A,xB t X a b (e++[x]) A (cA B (R (z (G a)+2) 0) u)/\I v f (cA B (R (z (G a)+2) 0) u)/\(∀k,A k->v k\/z (G f)<=k):=by
 have s:∀k,cz d=H k->z (G a)+3<=k/\k<z (G f):=λk c=>L.lt k c;have D:∀k,cz u=H k->z (G a)+3<=k:=λk c=>(h.lt k c).1;have Q:=ar r;have l:I (λk=>cz d=H k) f B:=((I.refl (λk=>cz d=H k) f).alloc O).trans (I.dW (S:=λk=>cz d=H k) F.grown<|λk c=>.inl c)<|λk c=>.inl c;have g:∀k,k<z (G a)+3->¬cz d=H k:=λk c m=>by have:=(s k m).1;omega
 have n:eG B (z<|G a) aw 88:=(l.block _ (ar w.JR)<|g _<|by omega).trans w.JR;have o:eG B (z (G a)+1) .nilIface 41:=(l.block _ (ar w.err)<|g _<|by omega).trans w.err;have q:eG B (z (G a)+2) d 88:=(l.block _ (ar r)<|g _<|by omega).trans r;have j:I v f (cA B (R (z (G a)+2) 0) u):=(l.mono (T:=v)<|λk c=>.inl<|(C k).2<|.inr<|.inr<|.inr c).setCell _ _ _<|.inl<|(C _).2<|.inr<|.inr<|.inl rfl;refine⟨λk=>k=z (G a)\/k=z (G a)+1\/k=z (G a)+2\/cz u=H k,⟨n.other _ (by omega),o.other _ (by omega),⟨u,q.set _,?_,λk=>qH⟩,by simp;omega,?_⟩,j,?_⟩;(have K:y (e++[x])=y e+1:=by simp);rw[K,fI];exact h.kept (du B _ _ _) (by grind);exact w.ap.trans j<|λk c=>.inr (w.lt k c).1;rintro k(m|m|m|m);(grind);(grind);(grind);rcases F.uj with N|⟨S,N,K⟩;(grind);rw[N]at m;cases m;simp at K;grind
def Ci(hX:¬t.Xp)(hg:iT t c d e X a)(hD:t.D a)(hl:y e<=1000000000):cD aZ 129 #[d] a λce w'=>∃v',ce=aJ (dd #[v',.nilIface])/\w'.ownsRow (z<|G a) 170 4 v' (y e) (aI e)/\t.D w'/\I (λk=>X k\/t.F k) a w':=by
 obtain⟨br,cb,rfl,he,K⟩:=hg;obtain⟨HE,HR,HD⟩:=dz he K hD;have bf:=Lo br cb;obtain⟨i0,bg,bk,bl,al⟩:=cU mP;clear he K hD;refine(dS (n:=3)).1 ?_;refine callsIn_of_wp_marks func129 rfl trivial ?_ rfl;simp only[ntmps129,ga,aW,eD,Nat.reduceAdd,Nat.reduceSub,eX,eW,gd,fq,de,dl];gi_wp2_with(refine⟨trivial,?_⟩;gi_at_call 178;refine(dS.2<|bf _).mono ?_;rintro ce w1⟨rfl,rfl⟩)
 have K:=af HR;obtain⟨O,r⟩:∃O,(cG (cG (cG (cG a<|ay #[aw] 88)<|ay #[.nilIface] 41)<|ay #[aw] 88)<|ay #[.func (.func br) #[] cb] 240)=O:=⟨_,rfl⟩;have ca:z (G O)=z (G a)+4:=by rw[<-r];simp
 have ac:I az a O:=by rw[<-r];exact(((cK az a).alloc _).alloc _).alloc _
 have bc:eG O (z (G a)+3) (.func (.func br) #[] cb) 240:=by rw[<-r];exact aH _<|by simp
 have aU:xB t X a (y e) [] (λk=>k=z (G a)\/k=z (G a)+1\/k=z (G a)+2) O:=by refine⟨?_,?_,⟨aw,?_,cO _ _ _ _,λk=>by simp[cz]⟩,bG _,ac.mono cC⟩;rw[<-r];grind[eG.alloc,aH];rw[<-r];exact eG.alloc (eG.alloc (aH _<|by simp) _) _;rw[<-r];exact eG.alloc (aH _<|by simp) _
 have bh:Ax t c br cb e X O:=K.same<|ac.same K.own.size (λk g=>⟨(K.own.each k g).2,λF=>F⟩) cC;have aV:t.D O:=t.eQ HD ac cC;have bT:=K.own.size;have ba:∀k,X k->k<z (G a):=λk g=>(K.own.each k g).2;rw[r];refine oN (arg:=Xn) (m:=3) (V:=t) (n0:=c) (gf:=226) (lb:=#[aA<|z (G a)+3]) (l:=e) (S:=λk=>X k\/k=z (G a)+3) ?geval (enters_of func226 (by kernel_rfl) rfl) (λ_=>rfl) (ND hX 2 cb bc HE bh (by omega) (λF=>by have:=ba _ F;omega)) aV (by omega) ?slt (λp ao W=>xB t X a (y e) p ao W) (λ_ _ _ _=>False) (λk=>k=z (G a)\/k=z (G a)+1\/k=z (G a)+2) aU ?sb ?lt ?st (λ_ _ _ _ _ _ h=>h.elim) ?body ?done ?stop;case geval=>rfl
 (case slt=>grind);(case sb=>grind);(case lt=>intro p ao W h k g;have:=h.lt k g;grind);(case st=>intro p ao W j cj h i f;refine h.stays i<|λk g=>⟨(f k g).1,?_⟩;grind);(case stop=>grind)
 case body=>
  intro lr p ch ao W bE aF bo P u A;have an:y p+1<=y e:=by have:=P.length_le;grind
  have HC:=Y u;have Q:=Y A;clear u A P;obtain⟨j,l,i,f⟩:=ch;unfold Xn E.value;simp only;gi_wp2;refine⟨(cK _ _),λT q=>?_⟩;have L:xB t X a (y e) p ao T:=((HC.stays ((I.refl az W).alloc<|ay #[am j,am l,aK i,aE f] 170) cC).stays q<|λk g=>by grind);have V:iG T (z<|G W) ⟨j,l,i,f⟩:=iG.ap (aH _ rfl) q (by omega);obtain⟨d,N,o,C⟩:=L.row;have bd:aS T (R (z (G a)+1+1) 0)=H d:=N.cell;have bx:T.frozen? (R (z (G a)+1+1) 0)=bj:=N.free;obtain⟨x,w,ad⟩:=aC o;obtain⟨bs,bt,bu,bv⟩:=V.cells;have bp:=ar V;have bq:=ar N;have bb:z (G a)+3<=z (G T):=by have:=L.ap.size;have:=q.size;grind
  obtain⟨au,HV,v,S,ax⟩:=jk L N o C q;clear L V N o C q;subst ad;gi_wp2_with(first
   |(gi_at_builtin;refine eP _ rfl (.tmp 14) (.tmp 16) 88 rfl (z (G a)+3) 170 i0 vP 4 48 underlying88 bg bk bl al rfl (by decide) (.slice x (y p) w) (y p) (aI p) rfl (aX v (.cells #[.string j,.string l,.bool i,.int .u64 f] 170)) (R (z (G T)) 0) 1 1 (aI [⟨j,l,i,f⟩]) rfl rfl (vF _ ⟨j,l,i,f⟩ _) (Bb _) (by omega) (by omega) (by simp;omega) ?_;intro v2 w3 s D;obtain⟨cd,cc,rfl⟩:=aC s;have B:eG w3 (z (G a)+1+1) (.slice x (y p) w) 88:=(D.grown.block _ (ar (HV.alloc (.cells #[.string j,.string l,.bool i,.int .u64 f] 170))) (λF=>by have:=(v.lt _ F.symm).1;omega)).trans (HV.alloc _);have bm:=B.cell;have bn:=B.free;clear B;have av:=Y s;have aD:=Y D;clear s D))
  obtain⟨B',q1,q2,q3⟩:=au.more (x:=⟨j,l,i,f⟩) HV S v an aD av;have q:=af ax;have al:=q.size;simp at al;have bi:I (λk=>ao k\/k=lr) W T:=((I.refl (λk=>ao k\/k=lr) W).alloc<|ay #[am j,am l,aK i,aE f] 170).trans q<|λk g=>.inl<|.inr g;have aa:∀k,z (G a)<=k->¬t.F k:=λk g hf=>by have:=K.own.aM k hf;omega
  refine⟨?_,B',q1,bi.trans q2<|λk g=>.inl<|.inl g,q2.block lr (by omega) aF,λk g=>?_⟩
  .refine t.eQ (t.eQ (t.eQ Q (cK az W) cC) q<|λk g=>by grind) q2<|λk g=>aa k (HC.lt k g).1
  grind
 (case done=>intro D ao W au u j A hK;obtain⟨d,N,o,C⟩:=u.row;have bd:aS W (R (z (G a)+1+1) 0)=H d:=N.cell;have av:=u.JR.cell;have aD:=u.JR.free;have ax:=u.err.cell;have aF:=u.err.free;obtain⟨x,w,ad⟩:=aC o;obtain⟨HC,HV,v,S,Q,HK⟩:=kY u N o C A hK;clear u N o C A hK;subst ad;gi_wp2;have T:=af S;have u:=af HC;have n1:D≠z (G a):=λF=>j<|(T _).2<|.inl F;have n2:D≠z (G a)+1:=λF=>j<|(T _).2<|.inr<|.inl F;have n3:¬cz (J x (y e) w)=H D:=λF=>j<|(T _).2<|.inr<|.inr<|.inr F;(have V:(cA (cA W (R (z<|G a) 0)<|J x (y e) w) (R (z (G a)+1) 0) .nilIface).heap[D]?=H (.deferred<|H []):=by rw[iI _ n2,iI _ n1];exact HK);have f:eG (cA (cA W (R (z<|G a) 0)<|J x (y e) w) (R (z (G a)+1) 0) .nilIface) (z<|G a) (J x (y e) w) 88:=(u.JR.set _).other _ (by omega);have i:eG (cA (cA W (R (z<|G a) 0)<|J x (y e) w) (R (z (G a)+1) 0) .nilIface) (z (G a)+1) .nilIface 41:=(u.err.other _<|by omega).set _;have q:=gZ (cA (cA W (R (z<|G a) 0)<|J x (y e) w) (R (z (G a)+1) 0) .nilIface) D<|.deferred none;have an:I (λk=>k=z (G a)\/k=z (G a)+1) W (cA (cA W (R (z<|G a) 0)<|J x (y e) w) (R (z (G a)+1) 0) .nilIface):=((I.refl (λk=>k=z (G a)\/k=z (G a)+1) W).setCell _ 0 _<|.inl<|.inl rfl).setCell _ 0 _<|.inl<|.inr rfl;have s:=(an.mono (T:=λk=>k=z (G a)\/k=z (G a)+1\/k=D)<|λk g=>.inl<|g.elim .inl<|λF=>.inr<|.inl F).trans q<|λk g=>.inl<|.inr<|.inr g;(have aa:∀k,z (G a)<=k->¬t.F k:=λk g hf=>by have:=K.own.aM k hf;omega);(have B:∀k,(k=z (G a)\/k=z (G a)+1\/k=D)->z (G a)<=k:=by rintro k(F|F|F)<;>omega);refine⟨by simp,.inl ⟨_,_,rfl,run_takeDeferred V,?_⟩⟩;refine⟨_,vg rfl underlying88 _ _ (z<|G a) (z (G a)+1) (J x (y e) w) .nilIface rfl rfl ?_ ?_,?_⟩;exact(eG.cell<|(q.block _ (ar f)<|λF=>n1 F.symm).trans f);exact(eG.cell<|(q.block _ (ar i)<|λF=>n2 F.symm).trans i);refine⟨_,rfl,?_,t.eQ Q s<|λk g=>aa k<|B k g,u.ap.trans s<|λk g=>.inr<|B k g⟩;have o:=af v;have hx:=s.own o (λk g F=>by have:=(o.lt k g).1;grind);obtain⟨h1,⟨P,h0⟩|⟨bb,cp,L,P,hb,l⟩⟩:=hx;exact⟨h1,.inl ⟨P,h0⟩⟩;exact⟨h1,.inr ⟨bb,cp,L,P,by omega,l⟩⟩)
end
def Ek:Option E->ab
 |some x=>.tuple #[x.value,.bool ci,.nilIface]
 |none=>.tuple #[vP,.bool bj,.nilIface]
def Ir(t:TypeId)(a b:ae):binOp .geq t (am a) (am b)=pure (aK !(Op.bytesLess a.toList b.toList)):=by simp[binOp,Op.stringOp]
def zW(O:ae)(A:U)(h:jU a d e)(C:dK e)(hl:y e<=1000000000000)(w:∀A,cz d=H A->A<z (G a)):cD aZ 295 #[d,am O,aE A] a λaa w'=>aa=aJ (Ek<|ir A e O)/\Below (z<|G a) a w':=by
 have m:Below (z<|G a) a (cG a<|ay #[am ⟨#[]⟩,am ⟨#[]⟩,aK bj,aE 0] 170):=(Below.refl _ a).alloc (ai _) _;have L:=AY d O A (cG a<|ay #[am ⟨#[]⟩,am ⟨#[]⟩,aK bj,aE 0] 170) (h.below m w) C hl (λA b=>by have:=w A b;simp;omega);have n:=Nw C O ⟨#[]⟩ bj A;have x:=Y<|Hm e ⟨O,⟨#[]⟩,bj,A⟩;generalize lh e ⟨O,⟨#[]⟩,bj,A⟩=p at*;by_cases s:p<y e;(·(have e1:((p:U)==(y e:U))=bj:=by simp;omega);(have e2:(p:U)<(y e:U):=by omega);(have e3:(0:U)<=(p:U):=by omega);obtain⟨P,⟨rfl,h0⟩|⟨u,b,ad,rfl,B,N⟩⟩:=h;omega;have v:=eh e p s;have t:=Y N;have j:=w u rfl;by_cases k:e[p].key=O;(.rw[n,zj ⟨s,k⟩];clear N w P B n C;subst k;generalize e[p]=al at*;obtain⟨F,K,E,D⟩:=al;simp only at v L;have r:=Y v;clear v;(go_in);(go_wp2_with(go_at_call 157;refine L.mono ?_;rintro aa l⟨rfl,g⟩;have f:Below (z<|G a) a l:=m.trans<|g.mono m.size;have q0:aS l (R u<|b+p*4)=H (am F):=(f.cell (p:=(R u<|b+p*4)) j).trans<|t _ _ r.1;have q1:aS l (R u<|b+p*4+1)=H (am K):=(f.cell (p:=(R u<|b+p*4+1)) j).trans (by rw[bF];exact t _ _ r.2.1);have q2:aS l (R u<|b+p*4+2)=H (aK E):=(f.cell (p:=(R u<|b+p*4+2)) j).trans (by rw[bF];exact t _ _ r.2.2.1);have q3:aS l (R u<|b+p*4+3)=H (aE D):=(f.cell (p:=(R u<|b+p*4+3)) j).trans (by rw[bF];exact t _ _ r.2.2.2);have c:iG l (z<|G a) ⟨⟨#[]⟩,⟨#[]⟩,bj,0⟩:=(g.block _<|by simp).trans<|aH _ rfl;obtain⟨W,X,z2,z3⟩:=c.cells;have Q:=c.free (i:=0);have S:=c.free (i:=1);have T:=c.free (i:=2);have V:=c.free (i:=3);have q:=Y c;have o:=Y f;clear c f g));refine cg (fp rfl _ _ (z<|G a) ⟨F,K,E,D⟩ _ _ rfl<|q.put ⟨F,K,E,D⟩) rfl ?_;exact⟨rfl,(((o.setCell (p:=(R (z<|G a) 0)) (ai _) _).setCell (p:=(R (z<|G a) 1)) (ai _) _).setCell (p:=(R (z<|G a) 2)) (ai _) _).setCell (p:=(R (z<|G a) 3)) (ai _) _⟩);have e4:=GY k;rw[n,dif_neg<|λac=>k ac.2];clear N w P B n C k;generalize e[p]=al at*;obtain⟨F,K,E,D⟩:=al;simp only at v e4;have r:=Y v;clear v;(go_in);(go_wp2_with(go_at_call 157;refine L.mono ?_;rintro aa l⟨rfl,g⟩;have f:Below (z<|G a) a l:=m.trans<|g.mono m.size;have q0:aS l (R u<|b+p*4)=H (am F):=(f.cell (p:=(R u<|b+p*4)) j).trans<|t _ _ r.1;have q1:aS l (R u<|b+p*4+1)=H (am K):=(f.cell (p:=(R u<|b+p*4+1)) j).trans (by rw[bF];exact t _ _ r.2.1);have q2:aS l (R u<|b+p*4+2)=H (aK E):=(f.cell (p:=(R u<|b+p*4+2)) j).trans (by rw[bF];exact t _ _ r.2.2.1);have q3:aS l (R u<|b+p*4+3)=H (aE D):=(f.cell (p:=(R u<|b+p*4+3)) j).trans (by rw[bF];exact t _ _ r.2.2.2);have c:iG l (z<|G a) ⟨⟨#[]⟩,⟨#[]⟩,bj,0⟩:=(g.block _<|by simp).trans<|aH _ rfl;obtain⟨W,X,z2,z3⟩:=c.cells;have Q:=c.free (i:=0);have S:=c.free (i:=1);have T:=c.free (i:=2);have V:=c.free (i:=3);have q:=Y c;have o:=Y f;clear c f g));refine cg (fp rfl _ _ (z<|G a) ⟨⟨#[]⟩,⟨#[]⟩,bj,0⟩ _ _ rfl<|q.put ⟨⟨#[]⟩,⟨#[]⟩,bj,0⟩) rfl ?_;exact⟨rfl,(((o.setCell (p:=(R (z<|G a) 0)) (ai _) _).setCell (p:=(R (z<|G a) 1)) (ai _) _).setCell (p:=(R (z<|G a) 2)) (ai _) _).setCell (p:=(R (z<|G a) 3)) (ai _) _⟩);(have b:p=y e:=by have:=af x;omega);rw[n,dif_neg<|λac=>s ac.1];have j:=bN h;clear h C n s w x;subst b;obtain⟨r,k,rfl⟩:=j;(have e1:((y e:U)==(y e:U))=ci:=by simp);(go_in);(go_wp2_with(go_at_call 157;refine L.mono ?_;rintro aa l⟨rfl,g⟩;have f:Below (z<|G a) a l:=m.trans<|g.mono m.size;have c:iG l (z<|G a) ⟨⟨#[]⟩,⟨#[]⟩,bj,0⟩:=(g.block _<|by simp).trans<|aH _ rfl;obtain⟨W,X,z2,z3⟩:=c.cells;have Q:=c.free (i:=0);have S:=c.free (i:=1);have T:=c.free (i:=2);have V:=c.free (i:=3);have q:=Y c;have o:=Y f;clear c f g));refine cg (fp rfl _ _ (z<|G a) ⟨⟨#[]⟩,⟨#[]⟩,bj,0⟩ _ _ rfl<|q.put ⟨⟨#[]⟩,⟨#[]⟩,bj,0⟩) rfl ?_;exact⟨rfl,(((o.setCell (p:=(R (z<|G a) 0)) (ai _) _).setCell (p:=(R (z<|G a) 1)) (ai _) _).setCell (p:=(R (z<|G a) 2)) (ai _) _).setCell (p:=(R (z<|G a) 3)) (ai _) _⟩
def Mw(ao:ab)(w:Z)(h:jU w ao e)(D:dK e)(hl:y e<=1000000000000)(F:∀au,cz ao=H au->au<z (G w)):cD aZ 297 #[ao] w λav w'=>av=aJ (aK ci)/\Below (z<|G w) w w':=by
 have x:∀(W:Bool)(w:Z),(Op.unary .not<|aK W).run aZ w=.ok (aK<|!W) w:=λ_ _=>rfl;obtain⟨h1,⟨rfl,h0⟩|⟨i,a,aa,rfl,al,v⟩⟩:=h;(·(go_in);go_wp2;(go_loop [6] (λK=>K=aq 0) (λ_=>0));(case atStart=>rfl);(case round=>obtain rfl:=hrel;go_wp2;go_ret;exact⟨rfl,Below.refl _ _⟩));(.have X:=Y v;have HS:=Y D;have n:=F i rfl;clear v D h1 F;(go_in);go_wp2;(go_loopw [6] (λK wr=>∃o:M,o<=y e/\K=aq o/\Below (z<|G w) w wr) (λK _=>y e-(intOf K).toNat));(case atStart=>exact⟨0,bG _,rfl,Below.refl _ _⟩);(case round=>obtain⟨o,an,rfl,d⟩:=hrel;have HB:=Y d;by_cases k:o<y e;(.rcases gm o with l|l;(.subst l;clear d;go_wp2;(go_quiet(fail));go_wp2;go_roundw;(case rel=>exact⟨1,by omega,rfl,below_drewN HB _⟩);case measure=>simp[intOf];omega);(.obtain⟨p,rfl⟩:∃p,o=p+1:=⟨o-1,by omega⟩;(have A:p<y e:=by omega);have b:∀j u,(aI e)[j]?=H u->aS wr (R i<|a+j)=H u:=λj u c=>(d.cell (p:=(R i<|a+j)) n).trans<|X j u c;have f:=eh e p A;have g:=eh e (p+1) k;have r:=b _ _ f.1;have c1:=b _ _ f.2.1;have c2:=b _ _ f.2.2.1;have c3:=b _ _ f.2.2.2;have d0:=b _ _ g.1;have s:=b _ _ g.2.1;have t:=b _ _ g.2.2.1;have u:=b _ _ g.2.2.2;simp only[<-bF]at c1 c2 c3 s t u;have m:=λW=>Bz e[p] e[p+1] W;rw[cJ.1 (af HS) p (p+1) A k<|by omega]at m;have ad:i<z (G wr):=cW _ _ r;clear f g d b;generalize e[p]=W at*;generalize e[p+1]=q at*;obtain⟨O,P,N,L⟩:=W;obtain⟨T,V,S,Q⟩:=q;unfold E.value at m;simp only at m r c1 c2 c3 d0 s t u;(have C:(0:U)<(p:U)+1:=by omega);(have e2:(0:U)<=(p:U):=by omega);(have e3:(p:U)<(y e:U):=by omega);(have e4:(0:U)<=(p:U)+1:=by omega);(have e5:(p:U)+1<(y e:U):=by omega);(have e9:IntKind.i64.wrap (p:U)=(p:U):=by rw[bS];omega);(have ac:wrap64 (p:U)=(p:U):=by unfold wrap64;omega);(go_wp2_with fail);(go_region_held3(λc=>aS c (R i<|a+p*4)=H (am O)/\aS c (R i<|a+p*4+1)=H (am P)/\aS c (R i<|a+p*4+2)=H (aK N)/\aS c (R i<|a+p*4+3)=H (aE L)/\aS c (R i<|a+(p+1)*4)=H (am T)/\aS c (R i<|a+(p+1)*4+1)=H (am V)/\aS c (R i<|a+(p+1)*4+2)=H (aK S)/\aS c (R i<|a+(p+1)*4+3)=H (aE Q)) (first|assumption|go_keep) (first|(go_at_call 208;refine(m _).mono ?_;rintro av w1⟨rfl,rfl⟩)));go_wp2;go_roundw;(case rel=>have j:Below (z<|G wr) wr (cG (cG wr<|ay #[am O,am P,aK N,aE L] 170)<|ay #[am T,am V,aK S,aE Q] 170):=((Below.refl _ wr).alloc (ai _) _).alloc (by simp) _;refine⟨p+1+1,by omega,by go_num,HB.trans ?_⟩;exact Below.mono (B:=z<|G wr) ⟨j.os,j.tape,j.output,j.size,j.block⟩ HB.size);case measure=>simp[intOf];omega));clear d;go_wp2;go_ret;exact⟨rfl,HB⟩))
def Rd.laid(h:Rd a b n K)(d:a.grownBy f none):Rd f b n K:=by
 obtain⟨v,e,g,c⟩:=h;refine⟨v,(d.block b (ar e)<|by simp).trans e,g.grown d ?_,c⟩;grind
def Rd.lt(h:Rd a c n K):c<z (G a):=by
 obtain⟨v,d,_⟩:=h;exact ar d
def Rd.put(F:Rd B c n K)(v:iG B g w)(o:c≠g)(h:E):Rd (uB B g h) c n K:=by
 obtain⟨L,q,x,C⟩:=F;have s:=iD B g h;refine⟨L,(s.block c (ar q) o).trans q,?_,C⟩;rcases x with⟨t,u⟩|⟨b,d,i,t,l,A⟩;exact .inl ⟨t,u⟩;refine .inr ⟨b,d,i,t,l,λD r=>?_⟩;have e:=A D r;(have k:b≠g:=by rintro rfl;rw[bV v,aN r]at e;grind);have m:b<z (G B):=cW B (R b<|d+D) e;have j:=s.block b m k;rw[da (w:=B) (w':=uB B g h) (a:=(R b<|d+D)) j];exact e
def I.TM(h:I (λk=>k=b) a f):a.grownBy f (H b):=⟨h.os,h.tape,h.output,h.size,λk c d=>h.block k c<|λe=>d<|by rw[e]⟩
def iG.grown(h:iG a b w)(d:a.grownBy f (H c))(e:c≠b):iG f b w:=(d.block b (ar h)<|by grind).trans h
def zD{c:Func}{p u:Tmp}(i:c.results=#[.cell p 170,.tmp u])(a:Array ab)(w:Z)(g:M)(x:E)(t:TypeId)(d:M×M)(h:a.getD p ix=aA g)(e:w.heap[g]?=H (ay #[am x.key,am x.val,aK x.del,aE x.bJ] t d)):(results c a).run aZ w=.ok (dd #[x.value,a.getD u ix]) w:=by
 have b:a[p]?.getD ix=aA g:=by simpa using h
 have f:=kj (P:=aZ) w g t 170 #[am x.key,am x.val,aK x.del,aE x.bJ] d _ e underlying170 rfl (by kernel_rfl);simp[results,i,b,asAddr,f,Result.andThen,E.value]
def FB(m:M){x:E}(a:dN)(C:Z)(h:Rd C m (nP x++a) bj)(B:jn (nP x++a))(hr:y (nP x++a)<=140737488351232)(hx:x.Good):cD aZ 155 #[aA m] C λad w'=>ad=aJ (dd #[E.value {x with bJ:=0},aK ci])/\Rd w' m a bj/\C.grownBy w' (H m):=by
 obtain⟨b,c,s,r⟩:=x;have au:=hx.Tz;have av:=hx.KN;have hv:=hx.val;have hd:=hx.del;simp only at au av hv hd;have e0:nP ⟨b,c,s,r⟩++a=oG s::(dZ b++(dZ c++a)):=by simp[nP]
 rw[e0]at h B hr;have A:jn (dZ b++(dZ c++a)):=λac hy=>B ac<|dC _ hy;have K:jn (dZ c++a):=λac hy=>A ac<|kU _ hy;have W:y (dZ b++(dZ c++a))<=140737488351232:=by grind
 have ax:y (dZ c++a)<=140737488351232:=by rw[ag]at W;omega
 have k:=λal(S:Rd al m (oG s::(dZ b++(dZ c++a))) bj)=>Ez S B hr;have v:=λal(S:Rd al m (dZ b++(dZ c++a)) bj)=>CV S A W;have w:=λal(S:Rd al m (dZ c++a) bj)=>CV S K ax;obtain⟨ka,kb⟩:=KL s<|dZ b++(dZ c++a);obtain⟨ta,_⟩:=uY b<|dZ c++a;obtain⟨N,_⟩:=uY c a;simp only[ka,kb]at k;simp only[ta,uZ]at v;simp only[N,uZ]at w;have aD:=λal(S:Rd al m a bj)=>FH S;have T:=qA b;have V:=wW c;have bc:∀(x:Bool)(C:Z),(Op.unary .not<|aK x).run aZ C=.ok (aK<|!x) C:=λ_ _=>rfl;have an:decide (1<=b.size/\b.size<=8)=ci:=by simp[au,av]
 have ao:decide (c.size<=16)=ci:=by simp[hv]
 rw[an]at T;rw[ao]at V;have F:=λal=>T al (by omega);have L:=λal=>V al (by omega);have bd:=h.lt;have HR:=Y<|h.laid<|dy C (ay #[am ⟨#[]⟩,am ⟨#[]⟩,aK bj,aE 0] 170) none;clear h B A K hr W ax ka kb ta N e0 hx T V an ao;cases s with
 |true=>
  have aU:c=⟨#[]⟩:=hd rfl;subst aU;simp only[oG]at k;go_in
  go_wp2_with(first
   |(go_at_call 154;refine(k _<|af HR).mono ?_;rintro ad w1⟨rfl,t,f⟩;have P:=Y t;have o:=Y f;have aV:=f.size;clear t f k)
   |(go_at_call 200;refine(v _<|af P).mono ?_;rintro ad w2⟨rfl,u,g⟩;have Q:=Y u;have p:=Y g;have ba:=g.size;clear u g v)
   |(go_at_call 200;refine(w _<|af Q).mono ?_;rintro ad D⟨rfl,j,e⟩;have q:=Y j;have O:=Y e;have bb:=e.size;have d:iG D (z<|G C) zE:=(((iG.grown (aH _ rfl) (af o)<|by omega).grown (af p)<|by omega).grown e<|by omega);obtain⟨z0,z1,z2,z3⟩:=d.cells;have y0:=d.free (i:=0);have y1:=d.free (i:=1);have y2:=d.free (i:=2);have y3:=d.free (i:=3);have aF:=ar d;have n:=Y d;clear j e w d)
   |(go_at_call 146;refine(aD _<|(af q).laid<|dy D _ none).mono ?_;rintro ad w4⟨rfl,rfl⟩)
   |(go_at_call 71;refine(F _).mono ?_;rintro ad w5⟨rfl,rfl⟩)
   |(go_at_call 72;refine(L _).mono ?_;rintro ad w6⟨rfl,rfl⟩))
  refine cg (zD rfl _ _ (z<|G C) ⟨b,⟨#[]⟩,ci,0⟩ _ _ rfl<|((af n).put ⟨b,⟨#[]⟩,ci,0⟩).alloc _) rfl ?_;have j:=af q;have f:=af o;have g:=af p;have e:=af O;have X:=(j.put (af n) (by omega) (⟨b,⟨#[]⟩,ci,0⟩:E)).laid<|dy _ (ay #[am (⟨b,⟨#[]⟩,ci,0⟩:E).key,am (⟨b,⟨#[]⟩,ci,0⟩:E).val,aK (⟨b,⟨#[]⟩,ci,0⟩:E).del,aE (⟨b,⟨#[]⟩,ci,0⟩:E).bJ] 170) none;have ht:I (λaa=>aa=m) C ((uB D (z<|G C) (⟨b,⟨#[]⟩,ci,0⟩:E)).alloc<|ay #[am (⟨b,⟨#[]⟩,ci,0⟩:E).key,am (⟨b,⟨#[]⟩,ci,0⟩:E).val,aK (⟨b,⟨#[]⟩,ci,0⟩:E).del,aE (⟨b,⟨#[]⟩,ci,0⟩:E).bJ] 170):=by
   refine((((((cK (λaa=>aa=m) C).trans (fj f)<|λaa l=>.inl l).trans (fj g)<|λaa l=>.inl l).trans (fj e)<|λaa l=>.inl l).trans (iD D (z<|G C) (⟨b,⟨#[]⟩,ci,0⟩:E))<|λaa l=>.inr<|by omega).alloc _)
  exact⟨rfl,X,ht.TM⟩
 |false=>
  simp only[oG]at k;go_in
  go_wp2_with(first
   |(go_at_call 154;refine(k _<|af HR).mono ?_;rintro ad w1⟨rfl,t,f⟩;have P:=Y t;have o:=Y f;have aV:=f.size;clear t f k)
   |(go_at_call 200;refine(v _<|af P).mono ?_;rintro ad w2⟨rfl,u,g⟩;have Q:=Y u;have p:=Y g;have ba:=g.size;clear u g v)
   |(go_at_call 200;refine(w _<|af Q).mono ?_;rintro ad D⟨rfl,j,e⟩;have q:=Y j;have O:=Y e;have bb:=e.size;have d:iG D (z<|G C) zE:=(((iG.grown (aH _ rfl) (af o)<|by omega).grown (af p)<|by omega).grown e<|by omega);obtain⟨z0,z1,z2,z3⟩:=d.cells;have y0:=d.free (i:=0);have y1:=d.free (i:=1);have y2:=d.free (i:=2);have y3:=d.free (i:=3);have aF:=ar d;have n:=Y d;clear j e w d)
   |(go_at_call 146;refine(aD _<|(af q).laid<|dy D _ none).mono ?_;rintro ad w4⟨rfl,rfl⟩)
   |(go_at_call 71;refine(F _).mono ?_;rintro ad w5⟨rfl,rfl⟩)
   |(go_at_call 72;refine(L _).mono ?_;rintro ad w6⟨rfl,rfl⟩))
  refine cg (zD rfl _ _ (z<|G C) ⟨b,c,bj,0⟩ _ _ rfl<|((af n).put ⟨b,c,bj,0⟩).alloc _) rfl ?_;have j:=af q;have f:=af o;have g:=af p;have e:=af O;have X:=(j.put (af n) (by omega) (⟨b,c,bj,0⟩:E)).laid<|dy _ (ay #[am (⟨b,c,bj,0⟩:E).key,am (⟨b,c,bj,0⟩:E).val,aK (⟨b,c,bj,0⟩:E).del,aE (⟨b,c,bj,0⟩:E).bJ] 170) none;have ht:I (λaa=>aa=m) C ((uB D (z<|G C) (⟨b,c,bj,0⟩:E)).alloc<|ay #[am (⟨b,c,bj,0⟩:E).key,am (⟨b,c,bj,0⟩:E).val,aK (⟨b,c,bj,0⟩:E).del,aE (⟨b,c,bj,0⟩:E).bJ] 170):=by
   refine((((((cK (λaa=>aa=m) C).trans (fj f)<|λaa l=>.inl l).trans (fj g)<|λaa l=>.inl l).trans (fj e)<|λaa l=>.inl l).trans (iD D (z<|G C) (⟨b,c,bj,0⟩:E))<|λaa l=>.inr<|by omega).alloc _)
  exact⟨rfl,X,ht.TM⟩
def gy(a:dN):dN:=a++le 4 (kO a)
def Bp(e:E):dN:=le 8 e.bJ++nP e
def eZ(c:cI):dN:=c.flatMap Bp
def Be(a:dN):kI (le 4<|kO a)=kO a:=by
 rw[zY 4 _<|vD a];exact Int.emod_eq_of_lt (vD a) (by have:=xq a;grind)
def Cc(a:0<=k)(b:k<18446744073709551616):kI (le 8 k)=k:=by
 rw[zY 8 _ a];grind
def CS(ok:Bool)(t d e:M)(c b:dN)(A:Steps a)(C:y b=4)(m:jn b)(D:(kI b !=kO c)=!ok)(W:y c+4<=e)(hr:y c+4<=1000000000)(B:Bytes a (aY t d (y c+4) e) (c++b)):cD aZ 142 #[aY t d (y c+4:M) e] a λF w'=>
 F=aJ (if ok=ci then dd #[aY t d (y c) e,aK ci]else dd #[aw,aK bj])/\Below (z<|G a) a w':=by
 have X:=A.lt
 have S:t<z (G a):=B.lt (by intro h;simp_all) t rfl
 have j:Bytes a (aY t d (y<|c++b) e) (c++b):=by rw[ag,C];exact B
 have r:Bytes a (aY t d (y c) e) c:=by
  have:=j.take (n:=y c) (by simp);rwa[py]at this
 have s:Bytes a (aY t (d+y c) 4<|e-y c) b:=by
  have:=j.Bq (n:=y c) (by simp);rwa[sk,ag,C,uk]at this
 have E:num b bj 4=kI b:=by
  unfold num jv;rw[eI (by simp[C]),dp<|by omega]
 obtain⟨K,L,N,P⟩:=fX r s m A
 have T:(num b bj 4 !=kO c)=!ok:=by rw[E];exact D
 clear B j r s E m A D
 cases ok
 all_goals
  simp only[qI,lR]at T;go_in
  go_wp2_with fail
  refine(mO L (λaa V=>by have:=Qb V;grind)).mono ?_;rintro F u⟨rfl,o,f⟩;have q:z (G u)=z (G a)+1:=by rw[f];simp
  have i:Below (z<|G a) a u:=by rw[f];exact(Below.refl _ _).alloc (ai _) _
  have l:Hid (Steps u):=by rw[f];exact P.alloc _
  have k:Hid (Bytes u (aY t d (y c) e) c):=by rw[f];exact K.alloc _
  obtain⟨O,HB,Q⟩:=dz o i q;clear o f q i;go_wp2_with fail
  go_region_with(first
   |(go_at_call 145;refine(Jk (z<|G a) bj _ ?_ N<|by omega).mono ?_;exact O.of_heap rfl;rintro F w2⟨rfl,p,g⟩;have x:=Y<|Steps.grown (by exact Steps.of_heap l rfl) g (by simp;omega);have v:=Y<|Bytes.grown (by exact Bytes.of_heap k rfl) g<|.inl (by simp[cz];omega);have w:=Y (Below.grown (by exact Below.of_heap HB rfl) g (by simp[af Q])<|by simp);clear p g)
   |(go_at_call 153;refine(qt _ c _ ?_ ?_ (by omega)).mono ?_;(first|exact x.of_heap rfl|exact l.of_heap rfl);(first|exact v.of_heap rfl|exact k.of_heap rfl);rintro F w3⟨rfl,rfl⟩))
  all_goals
   go_wp2;go_ret2
   exact⟨by rfl,by first|exact w.of_heap rfl|exact Below.of_heap HB rfl⟩
def ww(f b d:M)(c:dN)(g:Steps a)(e:y c+4<=d)(i:y c+4<=1000000000)(h:Bytes a (aY f b (y c+4) d) (gy c)):cD aZ 142 #[aY f b (y c+4:M) d] a λk j=>
 k=aJ (dd #[aY f b (y c) d,aK ci])/\Below (z<|G a) a j:=
 CS ci f b d c _ g (bU _ _) (jn.le 4 _) (by rw[Be];simp) e i h
def yJ(i b n c:M)(f:dN)(m:Steps a)(s:ui f)(p:n=y f)(g:n<=c)(q:n<=1000000000)(o:Bytes a (aY i b n c) f):cD aZ 142 #[aY i b n c] a λj r=>j=aJ (dd #[aw,aK bj])/\Below (z<|G a) a r:=by
 obtain⟨e,d,rfl,h,k,l⟩:=s;have j:n=y e+4:=by rw[p,ag,h]
 subst j;exact CS bj i b c e d m h k (by simpa using l) g q o
def Rn(c:cI)(n:M)(h:n<y c):eZ (c.drop n)=le 8 c[n].bJ++(nP c[n]++eZ (c.drop<|n+1)):=by
 unfold eZ;rw[bD h,dI];simp[Bp]
def Ae(h:w.Good):jn (nP w):=by
 unfold nP;have c:∀s:ae,s.size<=255->jn (dZ s):=λs d b a=>by unfold dZ at a;rcases bR.1 a with rfl|a;omega;exact jn.text s b a
 intro b a;rcases bR.1 a with rfl|a;unfold oG;split<;>omega;rcases aG.1 a with a|a;exact c _ (by have:=h.KN;omega) b a;exact c _ (by have:=h.val;omega) b a
def Eh(h:∀x∈e,x.Good):jn (eZ e):=by
 intro b a;unfold eZ at a;obtain⟨x,c,a⟩:=nL.1 a;unfold Bp at a;rcases aG.1 a with a|a;exact jn.le 8 _ b a;exact Ae (h x c) b a
def tI(h:w.Good):y (Bp w)<=35:=by
 have a:=h.KN;have b:=h.val;unfold Bp nP dZ;grind[bU,gY]
def xg{c:cI}(h:∀x∈c,x.Good):y (eZ c)<=35*y c:=by
 induction c with
 |nil=>simp[eZ]
 |cons x r d=>
  have a:=tI (h x<|by simp);have f:=d (λa b=>h a<|by simp[b]);have e:eZ (x::r)=Bp x++eZ r:=by simp[eZ]
  rw[e,ag,aW];omega
structure pV where
 pos:M
 size:M
 count:M
 first:ae
 last:ae
abbrev ml:=cS pV
def pV.value(k:pV):ab:=dD #[aq k.pos,aq k.size,aq k.count,am k.first,am k.last]
def pV.cells(k:pV):iF:=[aq k.pos,aq k.size,aq k.count,am k.first,am k.last]
structure pV.Of(k:pV)(c:cI):Prop where
 ne:0<y c
 size:k.size=y (eZ c)+4
 count:k.count=y c
 first:k.first=(c[0]'ne).key
 last:k.last=(c[y c-1]'(by omega)).key
def BC(w:Z)(b:M)(k:pV):Prop:=w.heap[b]?=H (ay #[aq k.pos,aq k.size,aq k.count,am k.first,am k.last] 331 (0,0))
def BC.cells{k:pV}(h:BC a b k):aS a (R b 0)=H (aq k.pos)/\aS a (R b 1)=H (aq k.size)/\aS a (R b 2)=H (aq k.count)/\aS a (R b 3)=H (am k.first)/\aS a (R b 4)=H (am k.last):=by
 refine⟨?_,?_,?_,?_,?_⟩<;>rw[bV h]<;>rfl
def BC.ap{w w':Z}{b:M}{k:pV}{S:eT}(h:BC w b k)(c:I S w w')(a:¬S b):BC w' b k:=(c.block b (ar h) a).trans h
def xV(x:E)(t:TypeId)(c:b=z (G a)):∀j u,(aI [x])[j]?=H u->aS (cG a<|ay #[am x.key,am x.val,aK x.del,aE x.bJ] t) (((R b 0):Addr).add j)=H u:=by
 grind[vF]
def Rd.wrote(m:Rd a b n K)(g:eC a f d u)(i:∀k,cz d=H k->b<k):Rd f b n K:=by
 obtain⟨j,e,h,c⟩:=m;refine⟨j,(g.grown.block b (ar e) (λl=>by have:=i b l.symm;omega)).trans e,h.grown g.grown ?_,c⟩;cases hu:cz j with
 |none=>exact .inr rfl
 |some k=>
  grind
structure UH(w0 w:Z)(rb:M)(k:pV)(c:cI)(o:ab)(n:M):Prop where
 own:w.ownsRow (z<|G w0) 170 4 o n (aI<|c.take n)
 rd:Rd w rb (eZ<|c.drop n) bj
 box:BC w (z<|G w0) k
 Yv:Below (z<|G w0) w0 w
 SA:z (G w0)<rb
 ne:cz o≠H rb/\cz o≠H (z<|G w0)
 uO:∀k,cz o=H k->rb<k
def CZ(al c l:M)(t:pV)(hT:Steps a)(g:t.Of e)(hg:∀ce∈e,ce.Good)(hs:dK e)(dm:y e<=1000)(bd:t.size<=l)(x:Bytes a (aY al c t.size l) (gy<|eZ e)):cD aZ 311 #[aY al c t.size l,t.value] a λaa N=>
 ∃v',aa=aJ (dd #[v',aK ci])/\N.ownsRow (z<|G a) 170 4 v' (y e) (aI e)/\Below (z<|G a) a N:=by
 have dk:=xg hg
 obtain⟨i0,bs,cb,cc,cd⟩:=cU mP
 obtain⟨pos,f,aV,first,b⟩:=t
 have bu:=g.ne
 have u:f=y (eZ e)+4:=g.size
 have bt:aV=y e:=g.count
 have bi:=Y<|show first=(e[0]'bu).key from g.first
 have bk:=Y<|show b=(e[y e-1]'(by omega)).key from g.last
 clear g
 subst bt
 simp only at x bd
 unfold pV.value
 simp only
 have bo:Below (z<|G a) a (cG a<|ay #[aq pos,aq f,aq<|y e,am first,am b] 331):=(Below.refl _ a).alloc (ai _) _
 have cs:al<z (G a):=x.lt (by unfold gy;intro h;have:=bQ y h;simp[bU]at this) al rfl
 have ca:cD aZ 142 #[aY al c f l] (cG a<|ay #[aq pos,aq f,aq<|y e,am first,am b] 331) λaa N=>
  aa=aJ (dd #[aY al c (y<|eZ e) l,aK ci])/\Below (z<|G<|cG a<|ay #[aq pos,aq f,aq<|y e,am first,am b] 331) (cG a<|ay #[aq pos,aq f,aq<|y e,am first,am b] 331) N:=by
   rw[u]at x bd|-;exact ww al c l (eZ e) (hT.alloc _) bd (by omega)<|x.alloc _
 have ax:Bytes a (aY al c (y<|eZ e) l) (eZ e):=by
  have d:Bytes a (aY al c (y<|gy<|eZ e) l) (gy<|eZ e):=by rw[u]at x;unfold gy at*;rw[ag,bU];exact x
  have:=d.take (n:=y<|eZ e) (by simp[gy]);unfold gy at this;rwa[py]at this
 have db:∀(ce:Bool)(a:Z),(Op.unary .not<|aK ce).run aZ a=.ok (aK<|!ce) a:=λ_ _=>rfl
 obtain⟨ad,HG,HS,HB,cj⟩:=jk ax hg hs bo u
 clear x hT ax hg hs bo u
 go_in
 go_wp2_with(first
  |(go_at_call 142;refine ca.mono ?_;rintro aa w⟨rfl,bb⟩;have V:BC w (z<|G a) ⟨pos,f,y e,first,b⟩:=(bb.block _<|by simp).trans<|aH _ rfl;obtain⟨k0,k1,k2,k3,k4⟩:=V.cells;simp only at k0 k1 k2 k3 k4;have o:Below (z<|G a) a w:=HB.trans (bb.mono<|by simp);have cT:=ar V;have bv:=mO (ad.below o (by intro t g;cases g;exact cs)) (by intro t g;cases g;grind);have O:=Y V;have aU:=Y o;clear bb V o)
  |(go_at_call 143;refine bv.mono ?_;rintro aa w2⟨rfl,aD,cB⟩;subst cB;have bm:=Y aD;clear aD)
  |(at_make;refine ki _ rfl _ _ 88 rfl (z (G a)) 170 i0 vP 4 underlying88 bs cb cc _ _ _ (y e) rfl rfl (by omega) (by rw[cd];omega) (by unfold maxLen;omega) (by simp;omega) ?_;intro w3 av B;have r:I az w w3:=(cK az w).bW (I.dW (S:=az) B (by simp));have bp:=O.ap r (λe=>e);obtain⟨m0,m1,m2,m3,m4⟩:=bp.cells;simp only at m0 m1 m2 m3 m4;have bn:=Y r;clear bp r;have A:=Y av;have ac:=Y B;clear av B))
 have bc:=af ac
 have cE:=bc.size
 simp at cE
 have cx:z (G<|cG w<|ay #[aY al c (y<|eZ e) l,aK bj] 328)=z (G w)+1:=by simp
 have r:=af bn
 have hA0:UH a w3 (z<|G w) ⟨pos,f,y e,first,b⟩ e (aY (z (G w)+1) 0 0<|y e) 0:=by
  have i:=af A;rw[cx]at i;refine⟨i,?_,O.ap r<|λe=>e,aU.trans<|(r.below (ai _) cC).mono aU.size,by omega,⟨?_,?_⟩,?_⟩
  .exact bm.laid bc
  .simp[cz]
  .have:=ar O;simp[cz];omega
  .intro t g;simp[cz]at g;omega
 have bh:=Y hA0
 clear hA0 bc r
 go_loopw [9,35] (λo i wr=>∃n:M,n<=y e/\i=aq n/\UH a wr (z<|G w) ⟨pos,f,y e,first,b⟩ e o n) (λ_ i _=>y e-(intOf i).toNat)
 case atStart=>exact⟨0,bG _,rfl,bh⟩
 case round=>
  obtain⟨n,dn,rfl,k⟩:=hrel;have i:=k.own;obtain⟨X,K,ho⟩:=aC i;have dv:=k.Yv.size;have an:=k.box.cells;simp only at an;obtain⟨q0,q1,q2,q3,q4⟩:=an;have dc:=k.rd.lt;have HA:=Y k;by_cases P:n<y e
  .have v:=HG e[n]<|ak P;have q:=k.rd;rw[Rn e n P]at q;have C:jn (eZ<|e.drop<|n+1):=Eh<|λce b=>HG ce<|dH b;have bf:y (eZ<|e.drop<|n+1)<=35*1000:=by
    have h1:=xg (c:=e.drop<|n+1)<|λce b=>HG ce<|dH b;grind
   have D:=Ae v;have p:=tI v;have bg:y (nP e[n])<=35:=by unfold Bp at p;rw[ag]at p;omega
   have d:=Ku q ((jn.le 8 _).append<|D.append C) (by grind[length_append,bU]);have Q:=mz (le 8 e[n].bJ)<|nP e[n]++eZ (e.drop<|n+1);rw[bU]at Q;have au:num (le 8 e[n].bJ++(nP e[n]++eZ (e.drop<|n+1))) bj 8=e[n].bJ:=by unfold num;rw[Q];exact Cc v.b0 v.b1
   rw[Q,au]at d;simp only at d;have m:=λW(a:Rd W (z<|G w) (nP e[n]++eZ (e.drop<|n+1)) bj)=>FB (z<|G w) (eZ<|e.drop<|n+1) W a (D.append C) (by grind) v;have co:Hid (aI (e.take n)++aI [e[n]]=aI (e.take<|n+1)):=by rw[<-fI,aj P];exact Y rfl
   clear k i q C bf D p bg Q au v;generalize e[n]=ce at*;obtain⟨xk,xv,xd,xb⟩:=ce;simp only at d m;unfold E.value at m;simp only at m;subst ho;go_wp2_with(first
    |(go_at_call 144;refine d.mono ?_;rintro aa w4⟨rfl,bx,bq⟩;have cl:=Y bx;have ch:=Y bq;clear bx bq)
    |(go_at_call 155;refine(m w4 cl).mono ?_;rintro aa L⟨rfl,bE,br⟩;have s:I (λt=>t=z (G w)) wr L:=(fj ch).trans (fj br)<|λt g=>.inl g;have F:=aX (aX (s.own HA.own<|λt g e=>HA.ne.1 (by rw[<-e];exact g))<|.cells #[.string xk,.string xv,.bool xd,.int .u64 xb] 170)<|.cells #[.string xk,.string xv,.bool xd,.int .u64 xb] 170;have ds:=s.size;have bl:=Y F;have cn:=Y s;have cm:=Y bE;clear bE br F s)
    |(at_builtin;refine ct _ rfl (.tmp 48) (.tmp 50) 88 rfl (z (G a)) 170 i0 vP 4 48 underlying88 bs cb cc cd rfl (by decide) (.slice X n K) n (aI (e.take n)) rfl bl (R (z (G L)+1) 0) 1 1 (aI [⟨xk,xv,xd,xb⟩]) rfl rfl (xV ⟨xk,xv,xd,xb⟩ _ (by simp)) (Bb _) (by omega) (by omega) (by simp;omega) ?_;intro o2 w6 j aF;have ck:=Y j;have cp:=Y aF;clear j aF))
   go_roundw;case rel=>
    refine⟨n+1,P,by go_num,?_⟩;have k:=af HA;have s:=af cn;have T:=af cp;have j:=af ck;have cu:=k.own.lt;have bT:I (λt=>cz (J X n K)=H t) L w6:=(((I.refl (λt=>cz (J X n K)=H t) L).alloc _).alloc _).trans (I.dW (S:=λt=>cz (J X n K)=H t) T.grown<|λt g=>.inl g)<|λt g=>.inl g;have ao:∀t,t<z (G L)->cz (J X n K)≠H t->cz o2≠H t:=by
     intro t g hn aa;rcases T.uj with cM|⟨ba,cM,hg⟩
     .grind
     .rw[cM]at aa;cases aa;simp at hg;omega
    refine⟨?_,?_,?_,?_,k.SA,⟨ao _ (by omega) k.ne.1,ao _ (by omega) k.ne.2⟩,?_⟩
    .rw[<-af co];exact j
    .have hr:=af cm;have cv:=hr.laid<|dy L (ay #[am xk,am xv,aK xd,aE xb] 170) none;have cw:=cv.laid<|dy _ (ay #[am xk,am xv,aK xd,aE xb] 170) none;exact cw.wrote T k.uO
    .exact(k.box.ap s (λe=>by have:=k.SA;omega)).ap bT<|λe=>k.ne.2 e
    .refine(k.Yv.trans<|s.below k.Yv.size (λt g=>by have:=k.SA;omega)).trans<|bT.below (by omega)<|λt g=>(cu t g).1
    .intro t g;rcases T.uj with cM|⟨ba,cM,hg⟩
     .exact k.uO t<|cM.symm.trans g
     .rw[cM]at g;cases g;simp at hg;omega
   case measure=>simp[intOf];omega
  .have ck:n=y e:=by omega
   subst ck;have q:=k.rd;rw[fZ]at q;have ch:∀W,W.heap=wr.heap->cD aZ 147 #[aA<|z<|G w] W λaa N=>aa=aJ (aK ci)/\N=W:=by
    intro W D;have:=xp (q.of_heap D) (by simp[eZ]);simpa[eZ]using this
   have hE:jU wr (J X (y e) K) e:=by
    have h1:=dE i;rw[ho,bL]at h1;exact h1
   have Q:∀al,cz (J X (y e) K)=H al->al<z (G wr):=λal x=>by rw[<-ho]at x;exact(i.lt al x).2
   have p:∀W,W.heap=wr.heap->cD aZ 297 #[J X (y e) K] W λaa N=>aa=aJ (aK ci)/\Below (z<|G W) W N:=by
    intro W D;refine Mw (J X (y e) K) W ?_ HS (by omega) (λal x=>by rw[D];exact Q al x);obtain⟨h1,⟨h2,h0⟩|⟨ba,br,ao,h2,bq,bT⟩⟩:=hE
    .grind
    .exact⟨h1,.inr ⟨ba,br,ao,h2,bq,λj u b=>(da (w:=wr)<|by rw[D]).trans<|bT j u b⟩⟩
   obtain⟨bE,⟨au,cp⟩|⟨ba,d,cn,au,bl,F⟩⟩:=hE
   .omega
   have aF:=(eh e 0 bu).1;have bf:=(eh e (y e-1)<|by omega).1;have f0:aS wr (R ba<|d+0*4)=H (am e[0].key):=F _ _ aF;have fL:aS wr (R ba<|d+(y e-1)*4)=H (am e[y e-1].key):=F _ _ bf;rw[<-af bi]at f0;rw[<-af bk]at fL;cases au;subst ho;clear k i q bE bl F aF bf;rw[zn,lq]at f0;have m:Below (z<|G a) a wr:=HA.Yv;have C:∀W,Below (z<|G wr) wr W->∃v',Ending.returned (dd #[aY ba d (y e) K,aK ci])=aJ (dd #[v',aK ci])/\W.ownsRow (z<|G a) 170 4 v' (y e) (aI e)/\Below (z<|G a) a W:=by
    intro W D;have k:=af HA;have h1:=k.own;rw[bL]at h1;refine⟨_,rfl,?_,m.trans<|D.mono m.size⟩;exact(I.aQ (S:=az) D).own h1<|λ_ _ e=>e
   have T:=Y C;have bg:=Q ba rfl;have v:z (G a)<z (G wr):=ar HA.box;clear C m cj bi bk O aU ad bm A ac bn bh HA HG HS HB ca bv Q;obtain⟨s,hp⟩:∃s,y e-1=s:=⟨_,rfl⟩;have e1:(y e:U)-1=(s:U):=by omega
   have e2:(s:U)<(y e:U):=by omega
   have e3:(0:U)<=(s:U):=by omega
   have e4:s<y e:=by omega
   have e5:¬((y e:U)<(y e:U)):=by omega
   have e6:s<=1000:=by omega
   have e9:IntKind.i64.wrap (s:U)=(s:U):=by rw[bS];omega
   have co:wrap64 (s:U)=(s:U):=by unfold wrap64;omega
   rw[hp]at fL;have cl:∀W,W.heap=wr.heap->cD aZ 297 #[aY ba d (y e) K] W λaa N=>aa=aJ (aK ci)/\Below (z<|G W) W N:=p;clear p hp;go_wp2_with fail
   go_region_held3(λc=>aS c (R ba d)=H (am first)/\aS c (R ba<|d+s*4)=H (am b)/\aS c (R (z<|G a) 3)=H (am first)/\aS c (R (z<|G a) 4)=H (am b)) (first|assumption|go_keep) (first
    |(go_at_call 147;refine(ch wr.drew rfl).mono ?_;rintro aa w4⟨rfl,cm⟩;subst cm)
    |(go_at_call 297;refine(cl wr.drew rfl).mono ?_;rintro aa L⟨rfl,j⟩;have a0:aS L (R ba d)=H (.string first):=(j.cell (p:=(R ba d)) bg).trans f0;have a1:aS L (R ba (d+s*4))=H (.string b):=(j.cell (p:=(R ba (d+s*4))) bg).trans fL;have a2:aS L (R (z (G a)) 3)=H (.string first):=(j.cell (p:=(R (z (G a)) 3)) v).trans q3;have a3:aS L (R (z (G a)) 4)=H (.string b):=(j.cell (p:=(R (z (G a)) 4)) v).trans q4;have bx:=Y j;clear j))
   go_wp2;go_ret2
   have j:=af bx;exact T _ ⟨j.os,j.tape,j.output,j.size,j.block⟩
def ES(t b e:M)(p:pV)(k:dN)(q:Steps a)(h:ui k)(n:p.size=y k)(j:p.size<=e)(s:p.size<=1000000000)(m:Bytes a (aY t b p.size e) k):cD aZ 311 #[aY t b p.size e,p.value] a λv u=>v=aJ (dd #[aw,aK bj])/\Below (z<|G a) a u:=by
 obtain⟨pos,d,c,first,f⟩:=p;simp only at n j s m;unfold pV.value;simp only;have i:Below (z<|G a) a (cG a<|ay #[aq pos,aq d,aq c,am first,am f] 331):=(Below.refl _ a).alloc (ai _) _;have o:=yJ t b d e k (q.alloc<|ay #[aq pos,aq d,aq c,am first,am f] 331) h n j s<|m.alloc _;have r:∀(x:Bool)(a:Z),(Op.unary .not<|aK x).run aZ a=.ok (aK<|!x) a:=λ_ _=>rfl;have HB:=Y i;clear m q h i n;go_in
 go_wp2_with(go_at_call 142;refine o.mono ?_;rintro v w⟨rfl,g⟩;have l:=Y g;clear g)
 go_ret2
 exact⟨rfl,HB.trans<|l.mono HB.size⟩
variable{C:ml}
def ez(l:ml):iF:=l.flatMap pV.cells
theorem Bv(l:ml):y (ez l)=y l*5:=by
 induction l with
 |nil=>rfl
 |cons e r a=>unfold ez at*;rw[dI,ag,a];simp[pV.cells];omega
def iw(l:ml)(n j:M)(h:n<y l)(b:j<5):(ez l)[n*5+j]?=(pV.cells l[n])[j]?:=by
 have e:ez l=ez (l.take n)++(pV.cells l[n]++ez (l.drop<|n+1)):=by(have a:l=l.take n++l[n]::l.drop (n+1):=by rw[<-bD h,bX]);(conv=>lhs;rw[a]);simp only[ez,fV,dI]
 grind[Bv,getElem?_append_right,getElem?_append_left]
structure lB(w:Z)(tb:M)(dv:ab)(number cut isize sum:U)(bb boff vV:M)(dav:ab)(ks:ml):Prop where
 box:w.heap[tb]?=H (ay #[dv,aE number,dh cut,dh isize,dh sum,aY bb boff (y ks) vV,dav] 265 (0,0))
 cells:∀j u,(ez ks)[j]?=H u->aS w (R bb<|boff+j)=H u
 ne:0<y ks
 le:y ks<=vV
 small:y ks<=1000000000
def QX{e cut i j:U}(h:lB a b d e cut i j c g m u C):cD aZ 151 #[aA b] a λn l=>n=aJ (am (C[0]'h.ne).first)/\l=a:=by
 have k:=cellAt h.box 5 rfl;have f:=h.ne;have o:aS a (R c<|g+3)=H (am (C[0]'f).first):=h.cells _ _ (iw C 0 3 f<|by decide);have p:(0:U)<(y C:U):=by omega
 generalize(C[0]'f).first=s at*;clear h;go_in
 go_wp2;go_ret;simp_all
def Tt{e cut f i:U}(h:lB a b d e cut f i c g m u C):cD aZ 150 #[aA b] a λr o=>r=aJ (am (C[y C-1]'(by have:=h.ne;omega)).last)/\∃q,o=a.drewN q:=by
 have k:=cellAt h.box 5 rfl;have l:=h.ne;have n:=h.small;obtain⟨p,j⟩:∃p,y C-1=p:=⟨_,rfl⟩;have x:aS a (R c<|g+p*5+4)=H (am (C[y C-1]'(by omega)).last):=by subst j;rw[bF];exact h.cells _ _<|iw C (y C-1) 4 (by omega)<|by decide
 have s:(y C:U)-1=(p:U):=by omega
 have t:(p:U)<(y C:U):=by omega
 have v:(0:U)<=(p:U):=by omega
 have w:p<y C:=by omega
 generalize(C[y C-1]'(by omega)).last=A at*;clear h j;go_in
 go_wp2;go_quiet(fail)
 go_wp2;go_ret;exact⟨rfl,nq,rfl⟩
def MV(l:M){bk:M}{e cut f k:U}(i:ae)(h:lB a b d e cut f k c g m u C)(o:eG a l (aA b) 189)(n:eG a bk (am i) 9)(j:M)(s:j<y C):cD aZ 309 #[aq j,aA l,aA bk] a λv t=>v=aJ (aK<|!iX C[j].last i)/\∃q,t=a.drewN q:=by
 have p:=cellAt h.box 5 rfl;have A:aS a (R c<|g+j*5+4)=H (am C[j].last):=by rw[bF];exact h.cells _ _<|iw C j 4 s<|by decide
 have c1:=o.cell;have c2:=n.cell;have r:=Ir;have w:(j:U)<(y C:U):=by omega
 have x:(0:U)<=(j:U):=by omega
 unfold iX;generalize C[j].last=B at*;clear h o n;go_in
 go_wp2;go_quiet(fail)
 go_wp2;go_ret;exact⟨rfl,nq,rfl⟩
def lB.below{e cut h i:U}{B:M}(j:lB a b d e cut h i c g m u C)(k:Below B a f)(l:b<B)(n:c<B):lB f b d e cut h i c g m u C:=⟨(k.block b l).trans j.box,λq r o=>(k.cell (p:=(R c<|g+q)) n).trans<|j.cells q r o,j.ne,j.le,j.small⟩
def lB.lt{e cut h i:U}(j:lB a c d e cut h i g m x u C):c<z (G a)/\g<z (G a):=⟨ar j.box,cW a (R g<|m+(0*5+0))<|j.cells _ _<|iw C 0 0 j.ne<|by decide⟩
def zJ{f cut n D:U}(e:ae)(h:lB a b d f cut n D c g m u C)(hs:C.Pairwise (λT al=>iX T.last al.last=ci)):cD aZ 305 #[aA b,am e] a λV w'=>∃E:M,V=aJ (aq E)/\E<=y C/\(∀j(i:j<y C),j<E->iX C[j].last e=ci)/\(∀j(i:j<y C),E<=j->iX C[j].last e=bj)/\Below (z<|G a) a w':=by
 have o:=h.lt;have w:Below (z<|G a) a (cG (cG a<|ay #[aA b] 189)<|ay #[am e] 9):=((Below.refl _ a).alloc (ai _) _).alloc (by simp) _;have r:=h.below w o.1 o.2;have aa:=cellAt r.box 5 rfl
 have p:=yN #[aA<|z<|G a,aA<|z (G a)+1] (y C) (λj=>if i:j<y C then !iX C[j].last e else ci) (cG (cG a<|ay #[aA b] 189)<|ay #[am e] 9) (enters_of func309 (by kernel_rfl) rfl) (by have:=h.small;omega) (by
  intro T al X B W;have v:T<y C:=by omega
  simp only[B,v,zj]at W|-;grind[Nat.lt_or_eq_of_le,pairwise_iff_getElem,li])
  (by
   intro j i ad k;have t:=r.below k (by simp;omega) (by simp;omega);have x:eG ad (z (G a)) (aA b) 189:=(k.block _ (by simp;omega)).trans (eG.alloc (aH _ rfl) _);have A:eG ad (z (G a)+1) (am e) 9:=(k.block _ (by simp)).trans (aH _ (by simp));apply(MV (z (G a)) e t x A j i).mono;rintro V W'⟨rfl,q,rfl⟩;simp only[i,zj];exact⟨trivial,below_drewN (Below.refl _ _) _⟩)
 have s:=Y p;have HB:=Y w;have ac:=r.lt.1;clear p r w h hs;go_in
 go_wp2_with(go_at_call 206;refine s.mono ?_;rintro V w1⟨E,rfl,F,K,L,N⟩;have O:=Y F;have P:=Y K;have Q:=Y L;have S:=Y N;clear F K L N)
 go_ret;refine⟨E,rfl,O,λj i l=>?_,λj i l=>?_,HB.trans<|S.mono HB.size⟩;have:=P j l;grind
 have:=Q j l i;grind
def Xt(V:iL)(c a:M)(w:Z):Prop:=∀W,kw V c az w W->cD aZ 107 #[aA a] W λe b=>∃s,e=aJ (am s)/\Below (z<|G W) W b
structure mV(V:iL)(n0 tb:M)(ks:ml)(cs:dJ)(w:Z):Prop where
 mem:∃dv number cut isize sum bb boff vV dav,lB w tb dv number cut isize sum bb boff vV dav ks/\(tb<n0/\¬V.F tb)/\(bb<n0/\¬V.F bb)
 len:y ks=y cs
 DG:∀i(hi:i<y ks)(hc:i<y cs),ks[i].Of cs[i]
 iH:∀c∈cs,∀x∈c,x.Good
 mh:dK cs.flatten
 Cw:cs.Pairwise gS
 small:∀c∈cs,y c<=1000
 bytes:∀i(hi:i<y ks)(hc:i<y cs)W,kw V n0 az w W->V.D W->cD aZ 310 #[aA tb,ks[i].value] W λe W'=>
  ∃b off cap bs,e=aJ (dd #[aY b off ks[i].size cap,.nilIface])/\ks[i].size<=cap/\Bytes W' (aY b off ks[i].size cap) bs/\(bs=gy (eZ cs[i])\/V.Xp/\ui bs/\ks[i].size=y bs/\ks[i].size<=1000000000/\Xt V n0 tb w)/\V.D W'/\I V.F W W'
 steps:Steps w
 zx:1<n0/\¬V.F 1
def lB.same{V:iL}{n0:M}{S:eT}{e cut h i:U}(j:lB a b d e cut h i c g m u C)(k:kw V n0 S a f)(l:b<n0/\¬V.F b)(n:c<n0/\¬V.F c):lB f b d e cut h i c g m u C:=⟨(k.2 b<|.inl l).trans j.box,λp q o=>k.cell (.inr n)<|j.cells p q o,j.ne,j.le,j.small⟩
def Steps.same{V:iL}{n0:M}{S:eT}(h:Steps a)(d:kw V n0 S a f)(b:1<n0/\¬V.F 1):Steps f:=λk c=>d.cell (.inr b)<|h k c
def mV.same{V:iL}{n0 d:M}(h:mV V n0 d C l a)(m:kw V n0 az a f):mV V n0 d C l f:=by
 obtain⟨t,c,cut,e,p,r,i,b,o,E,j,k⟩:=h.mem;exact⟨⟨t,c,cut,e,p,r,i,b,o,E.same m j k,j,k⟩,h.len,h.DG,h.iH,h.mh,h.Cw,h.small,λK D B W A x=>(h.bytes K D B W (m.trans A) x).mono (by rintro L F⟨q,g,n,s,j,k,u,v,w⟩;exact⟨q,g,n,s,j,k,u,v.imp id<|λ⟨c,q,e,i,o⟩=>⟨c,q,e,i,λb h=>o b<|m.trans h⟩,w⟩),h.steps.same m h.zx,h.zx⟩
def JU(h:mV t b c C l a)(hD:t.D a)(hn:b<=z (G a))(hF:∀ao,t.F ao->ao<b)(p:M)(Q:p<y C)(hc:p<y l):cD aZ 306 #[aA c,aq p] a λav w'=>(∃X,av=aJ (dd #[X,.nilIface])/\w'.ownsRow (z<|G a) 170 4 X (y l[p]) (aI l[p])/\t.D w'/\I t.F a w')\/RX t a w' t.F av (λbt=>dd #[aw,bt]):=by
 obtain⟨dv,ax,cut,bi,bq,bb,k,au,bm,F,bp,bn⟩:=h.mem;have bo:=cellAt F.box 5 rfl;have g0:aS a (R bb<|k+p*5)=H (aq C[p].pos):=F.cells _ _ (iw C p 0 Q<|by decide);have g1:aS a (R bb<|k+p*5+1)=H (aq C[p].size):=by rw[bF];exact F.cells _ _<|iw C p 1 Q<|by decide
 have g2:aS a (R bb<|k+p*5+2)=H (aq C[p].count):=by rw[bF];exact F.cells _ _<|iw C p 2 Q<|by decide
 have g3:aS a (R bb<|k+p*5+3)=H (am C[p].first):=by rw[bF];exact F.cells _ _<|iw C p 3 Q<|by decide
 have g4:aS a (R bb<|k+p*5+4)=H (am C[p].last):=by rw[bF];exact F.cells _ _<|iw C p 4 Q<|by decide
 have e2:(p:U)<(y C:U):=by omega
 have e3:(0:U)<=(p:U):=by omega
 have n:=ak hc;have P:=h.DG p Q hc;have u:=h.iH _ n;have o:=h.small _ n;have K:dK l[p]:=h.mh.sub<|cV n;have s:=h.bytes p Q hc;have x:=h.steps;have w:=h.zx;have bl:∀(x:Bool)(a:Z),(Op.unary .not<|aK x).run aZ a=.ok (aK<|!x) a:=λ_ _=>rfl;have al:∀ao,b<=ao->¬t.F ao:=λao hk a=>by have:=hF ao a;omega
 obtain⟨pos,e,d,first,g,bh⟩:∃pos e d first g,C[p]=⟨pos,e,d,first,g⟩:=⟨_,_,_,_,_,rfl⟩
 rw[bh]at g0 g1 g2 g3 g4 P s;simp only at g0 g1 g2 g3 g4;unfold pV.value at s;simp only at s;have D:I az a (cG a<|ay #[aq pos,aq e,aq d,am first,am g] 331):=(cK _ _);have bd:=s _ (D.same hn cC cC)<|t.eQ hD D cC;have bk:=(F.lt).2;have aa:=Y (show∀j,I t.F (cG a<|ay #[aq pos,aq e,aq d,am first,am g] 331) j->Steps j fromλj ht=>(x.same (S:=az) (D.same (V:=t) hn cC cC) w).same (S:=az) (ht.same (V:=t) (by simp;omega) cC<|λao hk _=>hk) w);have HX:=Y (show∀j ba f m,I t.F (cG a<|ay #[aq pos,aq e,aq d,am first,am g] 331) j->e<=m->Bytes j (aY ba f e m) (gy<|eZ l[p])->cD aZ 311 #[aY ba f e m,dD #[aq pos,aq e,aq d,am first,am g]] j λav w'=>∃X,av=aJ (dd #[X,aK ci])/\w'.ownsRow (z<|G j) 170 4 X (y l[p]) (aI l[p])/\Below (z<|G j) j w' from by intro j ba f m ht r hB;exact CZ ba f m ⟨pos,e,d,first,g⟩ (aa j ht) P u K o r hB);have aV:=Y al;have aF:=Y<|λW(h:I t.F a W)=>h.same (V:=t) (n0:=b) (S:=az) hn cC<|λao hk _=>hk;clear F P u o K s x w n h hD hF al;go_in
 go_wp2_with fail
 refine bd.mono ?_;rintro av j⟨ba,f,m,bs,rfl,r,hB,bg,B,i⟩;have W:BC j (z<|G a) ⟨pos,e,d,first,g⟩:=BC.ap (aH _ rfl) i<|aV _ hn;obtain⟨k0,k1,k2,k3,k4⟩:=W.cells;simp only at k0 k1 k2 k3 k4;have hz:=i.size;simp at hz;have O:=Y<|(D.mono (T:=t.F) cC).trans i<|λao hk=>.inl hk;rcases bg with rfl|⟨hX,ad,ac,bf,E⟩;(.have A:=HX j ba f m i r hB;obtain⟨N,aU⟩:=And.intro (Y B) (Y i);clear r hB B i W;(go_wp2_with(go_at_call 311;refine A.mono ?_;rintro av w3⟨X,rfl,v,q⟩;have aD:=Y v;have L:=Y q;clear v q));(go_ret2);have an:I az j w3:=I.aQ L;refine .inl ⟨X,rfl,?_,t.eQ N an cC,O.bW an⟩;obtain⟨h1,⟨h2,h0⟩|⟨br,cp,bc,h2,hb,V⟩⟩:=af aD;exact⟨h1,.inl ⟨h2,h0⟩⟩;exact⟨h1,.inr ⟨br,cp,bc,h2,by omega,V⟩⟩)
 .have A:=ES ba f m ⟨pos,e,d,first,g⟩ bs (aa j i) ad ac r bf hB;unfold pV.value at A;simp only at A;obtain⟨N,aU,HN⟩:=dz B i E;clear r hB B i W ad ac E;go_wp2_with(first
   |(go_at_call 311;refine A.mono ?_;rintro av w3⟨rfl,q⟩;have E:=HN w3<|aF w3<|O.bW<|I.aQ (S:=az) q;have L:=Y q;clear q)
   |(go_at_call 107;refine E.mono ?_;rintro av w4⟨aD,rfl,v⟩;have an:=Y v;clear v)
   |(go_at_call 57;refine(tJ aD w4).mono ?_;rintro av w5⟨rfl,rfl⟩))
  go_ret2
  have V:I az j w4:=(I.aQ (S:=az) L).bW<|I.aQ (S:=az) an;exact .inr ⟨hX,_,rfl,vL.new aD w4,t.eQ N (V.alloc _) cC,(O.bW V).alloc _⟩
def mV.zZ(h:mV t b c C l a):C.Pairwise (λo p=>iX o.last p.last=ci):=by
 refine cJ.2<|λm n j k f=>?_;have d:m<y l:=by have:=h.len;omega
 have e:n<y l:=by have:=h.len;omega
 have g:=h.DG m j d;have i:=h.DG n k e;rw[g.last,i.last];have:=cJ.1 h.Cw m n d e f;have q:=g.ne;have r:=i.ne;exact this _ (ak<|by omega) _<|ak<|by omega
def mV.Bk(o:mV t b c C l a)(e:ae)(k:M)(q:∀i(s:i<y C),i<k->iX C[i].last e=ci):((l.drop k).map<|fO e).flatten=fO e l.flatten:=by
 have m:l.flatten=(l.take k).flatten++(l.drop k).flatten:=by rw[<-eK,bX]
 have w:fO e (l.take k).flatten=[]:=by unfold fO;rw[iB];intro A u;obtain⟨x,r,h⟩:=bB.1 u;obtain⟨i,s,rfl⟩:=dR r;rw[jY]at h;(have d:i<k/\i<y l:=by grind);(have f:i<y C:=by have:=o.len;omega);have v:=o.DG i f d.2;have g:dK l[i]:=o.mh.sub<|cV<|ak d.2;have j:=q i f d.1;rw[v.last]at j;have p:=g.CD v.ne h;rw[wV p j];simp
 have n:∀d:dJ,(d.map<|fO e).flatten=fO e d.flatten:=by
  intro d;induction d with
  |nil=>rfl
  |cons g r f=>simp only[cr,bO,f];unfold fO;rw[mw]
 rw[n,m];grind
def ET(bt:M)(k:M){E:dJ}(K:ae)(h:mV t b c C E a)(ht:eG a bt (aA c) 189)(hg:eG a g (aq k) 3)(W:eG a m (am K) 9)(hn:b<=m)(hD:t.D a)(ao:b<=z (G a))(hF:∀k,t.F k->k<b)(D:M)(hi:k+D<y C)(hc:k+D<y E):cD aZ 308 #[aq D,aA bt,aA g,aA m] a λau X=>(∃v' S',au=aJ (dd #[v',.nilIface])/\iT t b v' (fO K E[k+D]) S' X/\t.D X/\I t.F a X/\(∀k,S' k->z (G a)<=k))\/∃ba,RX t a X t.F au (λaU=>dd #[ba,aU]):=by
 have c1:=ht.cell;have c2:=hg.cell;have c3:=W.cell;have S:=JU h hD ao hF (k+D) hi hc;have f:=ak hc;have u:dK E[k+D]:=h.mh.sub<|cV f;have an:=h.small _ f;have s:k+D<1000000000:=by grind[mV.mem,lB.small]
 have P:=ar W;have Q:¬t.F m:=λhf=>by have:=hF m hf;omega
 obtain⟨HL,HS,N,HF⟩:=fX W u (show∀aD∈E[k+D],aD.bJ<18446744073709551616 fromλaD hx=>(h.iH _ f aD hx).b1) hF;clear ht hg W h hD f hF u hi;have V:IntKind.i64.wrap ((k:U)+(D:U))=((k+D:M):U):=by rw[bS];omega
 have v:wrap64 ((k:U)+(D:U))=((k+D:M):U):=by unfold wrap64;omega
 obtain⟨ax,hm⟩:∃ax,k+D=ax:=⟨_,rfl⟩;simp only[hm]at S an HS N V v s|-;have av:(k:U)+(D:U)=(ax:U):=by omega
 generalize E[ax]=aV at*;clear hm V v;go_in
 go_wp2_with fail
 refine S.mono ?_;rintro au L(⟨v1,rfl,e,j,d⟩|⟨hX,q,rfl,hq,j,d⟩);(.have al:aS L (R m 0)=H (am K):=d.cell c3 Q P;have O:jU L v1 aV:=dE e;have r:=e.lt;have T:=d.size;have B:=Ej t b K O HS N (by omega) (λk F=>⟨λhf=>by have:=HF k hf;have:=(r k F).1;omega,(r k F).2⟩) (by omega) HF;obtain⟨x,A,ac⟩:=dz j d r;clear e j d O r;(go_wp2_with(go_at_call 296;refine B.mono ?_;rintro au w2⟨v2,S2,rfl,p,n,o⟩;have aa:=Y p;have w:=Y n;have ad:=Y o;clear p n o));(go_ret2);have i:I az L w2:=I.aQ w;refine .inl ⟨v2,S2,rfl,aa,t.eQ x i cC,A.bW i,λk' F=>?_⟩;rcases ad k' F with aF|aF;exact(ac k' aF.1).1;omega);have al:aS L (R m 0)=H (am K):=d.cell c3 Q P;have T:=d.size;have B:=Ej t b K (v:=aw) (l:=[]) (w:=L) ⟨rfl,.inl ⟨rfl,rfl⟩⟩ .nil (λaD hx=>by cases hx) (by simp) (λk F=>by cases F) (by omega) HF;obtain⟨x,A,r⟩:=dz j d hq;clear j d hq;(go_wp2_with fail);refine B.mono ?_;rintro au w2⟨v2,S2,rfl,p,n,o⟩;have w:=Y n;clear p n o;go_wp2;(go_ret2);have i:I az L w2:=I.aQ w;exact .inr ⟨v2,hX,q,rfl,r.ap i cC,t.eQ x i cC,A.bW i⟩
def Sj(V:iL)(c a d g h o:M)(r:ml)(i:dJ)(p:ae)(q:y r=y i):yy V c ((i.drop o).map<|fO p)where
 f:=308
 cb:=#[aA d,aA g,aA h]
 inv:=λW=>mV V c a r i W/\(eG W d (aA a) 189/\eG W g (aq o) 3/\eG W h (am p) 9)/\(c<=d/\c<=g/\c<=h)/\c<=z (G W)/\∀o,V.F o->o<c
 S:=λx=>x=d\/x=g\/x=h
 RT:=enters_of func308 (by kernel_rfl) rfl
 call:=by
  rintro u t w⟨m,⟨j,k,l⟩,n,b,hF⟩s;have e:o+u<y i:=by simp at t;omega
  rw[kL,pA];exact ET d o p m j k l n.2.2 s b hF u (by omega) e
 eQ:=by
  rintro W s⟨m,⟨j,k,l⟩,n,b,hF⟩e;exact⟨m.same<|e.mono cC,⟨j.same e<|.inl rfl,k.same e<|.inr<|.inl rfl,l.same e<|.inr<|.inr rfl⟩,n,aB b e.1,hF⟩
 lt:=by
  grind
def BH{n0 tbqq:M}{ks:ml}{cs:dJ}(f:ae)(h:mV t n0 tbqq ks cs a)(hD:t.D a)(n:n0<=z (G a))(hF:∀k,t.F k->k<n0):cD aZ 304 #[aA tbqq,am f] a λad j=>∃w s,ad=aJ w/\iT t n0 w (fO f cs.flatten) s j/\t.D j/\I t.F a j/\(∀k,s k->z (G a)<=k):=by
 have l:Below (z<|G a) a (cG (cG a<|ay #[aA tbqq] 189)<|ay #[am f] 9):=((Below.refl _ a).alloc (ai _) _).alloc (by simp) _;obtain⟨dv,E,cut,aa,aU,L,g,d,an,C,ax,ao⟩:=h.mem;have e:=C.lt;have T:=zJ f (C.below l e.1 e.2) h.zZ;have r:=h.len;have av:=C.small
 have HX:=Y (show∀(c:Z)(k:M),Below (z<|G<|cG (cG a<|ay #[aA tbqq] 189)<|ay #[am f] 9) (cG (cG a<|ay #[aA tbqq] 189)<|ay #[am f] 9) c->k<=y ks->(∀d(e:d<y ks),d<k->iX ks[d].last f=ci)->∀W,W.heap=(cG c<|ay #[aq k] 3).heap->I az (cG c<|ay #[aq k] 3) W->cD aZ 302 #[aq ((y ks-k:M):U),.func (.func 308) #[] #[aA<|z<|G a,aA<|z<|G c,aA<|z (G a)+1]] W λad j=>∃w s,ad=aJ w/\iT t n0 w (fO f cs.flatten) s j/\t.D j/\I t.F a j/\(∀k,s k->z (G a)<=k)/\Below (z<|G W) W j from by
  intro c k b hk Q W u O;have v:=b.size;simp at v;have i:I az a W:=(((I.aQ (S:=az) l).bW<|I.aQ (S:=az) b).alloc _).bW O;have V:eG c (z<|G a) (aA tbqq) 189:=(b.block _ (by simp;omega)).trans<|eG.alloc (aH _ rfl) _;have X:eG c (z (G a)+1) (am f) 9:=(b.block _<|by simp).trans (aH _<|by simp);have y1:eG W (z<|G a) (aA tbqq) 189:=by rw[eG,u];exact V.alloc _
  have y2:eG W (z (G a)+1) (am f) 9:=by rw[eG,u];exact X.alloc _
  have y3:eG W (z<|G c) (aq k) 3:=by rw[eG,u];exact aH _ rfl
  have N:mV t n0 tbqq ks cs W:=h.same<|i.same n cC cC;have A:=GD (Sj t n0 tbqq (z<|G a) (z<|G c) (z (G a)+1) k ks cs f r) W ⟨N,⟨y1,y3,y2⟩,⟨n,by omega,by omega⟩,aB n i.size,hF⟩ (aB n i.size) hF (by simp;omega);have hl:y ((cs.drop k).map<|fO f)=y ks-k:=by simp;omega
  rw[hl]at A;apply A.mono;rintro ad j⟨w,s,rfl,hg,hb,hS⟩;rw[h.Bk f k Q]at hg;have D:I az W j:=I.aQ hb;have o:=i.bW D;refine⟨w,s,rfl,hg,t.eQ hD o cC,o.mono cC,λaV hx=>?_,hb⟩;have aF:=i.size;rcases hS aV hx with(al|al|al)|al
  .omega
  .omega
  .omega
  .omega)
 have m:∀W,Below (z<|G a) a W->aS W (R tbqq 5)=H (aY L g (y ks) d):=λW b=>by rw[bV (C.below b e.1 e.2).box];rfl
 have K:=Y m;have HB:=Y l;have aD:=e.1;clear h C hD hF m l e r;go_in
 go_wp2_with(go_at_call 305;refine T.mono ?_;rintro ad c⟨k,rfl,hk,B,P,b⟩;have q:Below (z<|G a) a c:=HB.trans<|b.mono HB.size;have m:=K c q;have v:=b.size;have x1:aS c (R (z<|G a) 0)=H (aA tbqq):=eG.cell<|(b.block _ (by simp;omega)).trans<|eG.alloc (aH _ rfl) _;have x:=Y<|HX c k b hk B;clear B P b q)
 simp at v;have q1:z (G a)<z (G c):=by omega
 have q2:tbqq<z (G c):=by omega
 obtain⟨ac,hd⟩:∃ac,y ks-k=ac:=⟨_,rfl⟩;rw[hd]at x;have q3:(y ks:U)-(k:U)=(ac:U):=by omega
 have q4:ac<=1000000000:=by omega
 have q6:IntKind.i64.wrap (ac:U)=(ac:U):=by rw[bS];omega
 clear hd
 go_region_held3(λb=>aS b (R (z<|G a) 0)=H (aA tbqq)/\aS b (R tbqq 5)=H (aY L g (y ks) d)/\aS b (R (z<|G c) 0)=H (aq k)) (first|assumption|go_keep) (first
  |(go_at_call 302;refine(x ((cG c (.cells #[.int .i64 k] 3)).drew) rfl ⟨rfl,rfl,rfl,ai _,λ_ _ _=>rfl⟩).mono ?_;rintro ad w2⟨v2,S2,rfl,r1,r2,r3,r4,F⟩;have R1:=Y r1;have R2:=Y r2;have R3:=Y r3;have R4:=Y r4;have au:aS w2 (R (z (G a)) 0)=H (aA tbqq)/\aS w2 (R tbqq 5)=H (aY L g (y ks) d)/\aS w2 (R (z (G c)) 0)=H (.int .i64 k):=⟨(F.cell (p:=(R (z (G a)) 0)) (by simp;omega)).trans (by rw[bH,pt _ _ _ q1];exact x1),(F.cell (p:=(R tbqq 5)) (by simp;omega)).trans (by rw[bH,pt _ _ _ q2];exact m),(F.cell (p:=(R (z (G c)) 0)) (by simp)).trans (by simp)⟩;clear r1 r2 r3 r4 F))
 go_wp2;go_ret;exact⟨v2,S2,rfl,R1,R2,R3,R4⟩
structure zf(ks:ml)(key:ae)(k:M):Prop where
 le:k<=y ks
 low:∀i(hi:i<y ks),i<k->iX ks[i].last key=ci
 uI:∀i(hi:i<y ks),k<=i->iX ks[i].last key=bj
def Pr(l:C.Pairwise (λj f=>iX j.last f.last=ci))(d:ae):∃k,zf C d k:=by
 induction C with
 |nil=>exact⟨0,ai _,λi a=>by simp at a,λi a=>by simp at a⟩
 |cons f r h=>
  obtain⟨m,g⟩:=bA.1 l;cases c:iX f.last d with
  |true=>
   obtain⟨k,e⟩:=h g;refine⟨k+1,by have:=e.le;simp;omega,λi a b=>?_,λi a b=>?_⟩
   .cases i with
    |zero=>exact c
    |succ i=>exact e.low i (by simpa using a)<|by omega
   .cases i with
    |zero=>omega
    |succ i=>exact e.uI i (by simpa using a)<|by omega
  |false=>
   refine⟨0,bG _,λi a b=>by omega,λi a _=>?_⟩;grind[getElem_mem,li]
def zf.eq(h:zf C v b)(a:zf C v c):b=c:=by
 rcases mY b c with e|e|e;have f:=a.low b (by have:=a.le;omega) e;have d:=h.uI b (by have:=a.le;omega)<|ai _;rw[f]at d;cases d;exact e;have f:=h.low c (by have:=h.le;omega) e;have d:=a.uI c (by have:=h.le;omega)<|ai _;rw[f]at d;cases d
def mV.Ak(o:mV t b c C l a)(r:zf C v g)(x:E)(w:x∈l.flatten)(i:x.key=v):∃j:g<y l,x∈l[g]:=by
 obtain⟨D,j,h⟩:=bB.1 w;obtain⟨n,q,rfl⟩:=dR j;have d:n<y C:=by have:=o.len;omega
 have A:=o.DG n d q;have m:dK l[n]:=o.mh.sub<|cV j;have k:=m.CD A.ne h;rcases mY n g with u|u|u;have:=r.low n d u;rw[A.last]at this;have:=wV k this;rw[i,fN]at this;cases this;grind
 (have f:g<y C:=by omega);(have e:g<y l:=by omega);have s:=o.DG g f e;have p:=r.uI g f<|ai _;rw[s.last]at p;have B:=s.ne;have:=cJ.1 o.Cw g n e q u _ (ak<|show y l[g]-1<y l[g]by omega) x h;rw[i,p]at this;cases this
def mV.xS(k:mV t b c C l a)(m:zf C v g)(n:∀(r:g<y C),iX v C[g].first=ci)(q:U):ir q l.flatten v=none:=by
 refine qO<|λx o e=>?_;obtain⟨i,h⟩:=k.Ak m x o e;have d:g<y C:=by have:=k.len;omega
 have p:=k.DG g d i;have j:=n d;have f:dK l[g]:=k.mh.sub<|cV<|ak i;rw[p.first,<-e,f.wZ p.ne h]at j;cases j
def mV.Bn(j:mV t b c C l a)(h:zf C v g)(f:g<y l)(e:U):ir e l.flatten v=ir e l[g] v:=Al f (λx i d=>j.Ak h x i d) j.Cw e
