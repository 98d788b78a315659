import Derived.BigRegion
import Derived.Test.YtbiejblbclolmaaGreatDoorC4
import Derived.Test.YtbiejblbclolmaaGreatDoorC5
open _root_ renaming List.length→y,Option.some→H,Array.size→z,Go.World.heap→G,Go.Value.ownBlock→cI,Go.World.cell?→aW,Go.World.setCell→cH,Go.World.alloc→dd,Bool.false→bw,Bool.true→cf,Nat→M,Int→U,List→ci,Go.Calls→cY,Go.undef→iM,Go.Proofs.Tryz.prog→bA,Go.Value.slice→I,Go.Value.string→am,Go.Value.bool→aM,Go.Value.pointer→dC,Go.Value.tuple→dA,Go.Value.agg→dL
namespace Go.Proofs.YtbiejblbclolmaaGreatDoor
open ChangeShapes WideShapes RowKit Proofs.Tryz List
set_option maxHeartbeats 16000000
set_option linter.all false
set_option maxRecDepth 100000
variable{a f A:Y}{b c i l F V:M}{d t L:ab}{e K:cU}{g x:DK}{k:U}{m:dX}{n:eF}{o:fh}{W:SR}{r:ae}{s:ja}{w:E}{B:ix}{C:mM}{D:Fs}{O:aX}{P:ci aX}
section
open Shelf
attribute [local go_sem] Oper.semAt_some
def QS(a:dX)(c:cU):dU (a++[c])=dU a++gS (fU c):=by simp[dU]
def Sc{a:cU}(h:e.take b=K++a)(j:b<=y e){i:M}(g:i<y a):∃f:y K+i<y e,e[y K+i]=a[i]:=by
 have d:b=y K+y a:=by have:=bS y h;grind
 refine⟨by omega,?_⟩;have c:(e.take b)[y K+i]'(by simp;omega)=(K++a)[y K+i]'(by simp;omega):=by simp only[h]
 rw[kA,uB<|by omega]at c;simpa using c
def RZ{g o r u bk s p:M}(D f n:M)(q:cU)(e:dX)(c:cU)(T:lY a g o r u bk s p (bI D f (y q) n) d t L (y e.flatten) b (dU e) (fU c) (bX 0 e))(V:Steps a)(hg:D<o)(W:∀ac ad,(aI q)[ac]?=H ad->aW a (R D<|f+ac)=H ad)(hcut:q.take b=e.flatten++c)(F:b<=y q)(k:0<y c)(hl:y q<=1000000)(h:∀B∈e,0<y B/\y (fU B)+4<=512)(C:y (fU c)+4<=512):cY bA 214 #[aD u,aD bk,aD r,aD p,aD s,aD o] a λaa A=>
 aa=aN (dA #[])/\(∃l m,lY A g o r u bk s p (bI D f (y q) n) l az m (y (e++[c]).flatten) b (dU<|e++[c]) (fU []) (bX 0<|e++[c])/\(∀x,cI l=H x->cI d=H x\/z (G a)<=x)/\(∀x,cI m=H x->cI L=H x\/z (G a)<=x))/\Z (vM o p d t L) a A:=by
 have j:b=y e.flatten+y c:=by
  have:=bS y hcut;grind
 have v:y e<=y e.flatten:=by
  have:=h;clear T hcut j h;induction e with
  |nil=>simp
  |cons B e x=>
   have v:=(this B<|by simp).1;have E:=x (λP w=>this P<|by simp[w]);grind
 have E:y (dU e)<=512*y e:=by
  have:=h;clear T hcut j h v;induction e with
  |nil=>simp[dU]
  |cons B e x=>
   have v:=(this B<|by simp).2;have E:=x (λP w=>this P<|by simp[w]);rw[pL,af,gO,aO];omega
 obtain⟨i1,Q⟩:=Sc hcut F k
 obtain⟨i2,S⟩:=Sc hcut F (i:=y c-1)<|by omega
 have O:=(eQ q _ i1).1
 have c1:=(eQ q _ i2).1
 rw[Q]at O
 rw[S]at c1
 have hb:=kg e 0
 refine(Zy D f n (y q) (y e.flatten+(y c-1)) (GA c) (Nx c) T V hg ?_ ?_ (by omega) (by omega) (by omega) (by omega) (by omega) (by omega) (by omega)<|by omega).mono ?_
 .rw[Jn k];grind
 .rw[Nw k];exact W _ _ c1
 .rintro aa A⟨rfl,⟨l,m,hv,hx⟩,ht⟩;refine⟨rfl,⟨l,m,?_,hx⟩,ht⟩;have K:y (e++[c]).flatten=b:=by rw[j];simp
  have N:bX 0 (e++[c])=bX 0 e++[⟨y<|dU e,y (fU c)+4,b-y e.flatten,GA c,Nx c⟩]:=by
   rw[Es,j,vS,dM];rfl
  rw[K,N,QS];exact hv
def fg.base{c base':M}(h:fg a c d n)(e:base'<=c):fg a base' d n:=gl h e
def fg.B5(i:fg a b d n)(e:0<y n):∃g c h,d=bI g c (y n) h:=by
 rcases i.bytes.shape with⟨_,f⟩|⟨g,c,h,f,j⟩;rw[f]at e;simp at e;grind
structure Ih(w:Y)(lv:ab)(p:cU)(B:fh)(W:Y):Prop where
 ex:∃cs cur dv pv kv,lY W (z (G w)+8) (z<|G w) (z (G w)+1) (z (G w)+2) (z (G w)+3) (z (G w)+4) (z (G w)+5) lv dv pv kv (y cs.flatten) (y p) (dU cs) (fU cur) (bX 0 cs)/\p=cs.flatten++cur/\(∀c∈cs,0<y c/\y (fU c)+4<=512)/\y (fU cur)+4<=512/\(cur=[]->p=[])/\(cs++[cur]).Pairwise ii/\∀k,B k↔vM (z<|G w) (z (G w)+5) dv pv kv k
 fn:eX W (z (G w)+6) (.func (.func 214) #[] #[aD<|z (G w)+2,aD<|z (G w)+3,aD<|z (G w)+1,aD<|z (G w)+5,aD<|z (G w)+4,aD<|z<|G w]) 1
 aj:Z aw w W
def Ih.lt(l:Ih a d e o A):∀k,o k->z (G a)<=k/\k<z (G A):=by
 obtain⟨i,g,j,n,m,h,_,_,_,_,_,c⟩:=l.ex;exactλk g=>⟨h.low k<|(c k).1 g,h.wz k<|(c k).1 g⟩
def Ih.stays{T:fh}(i:Ih a d e o f)(c:Z T f A)(u:∀r,T r->¬o r/\z (G a)+7<=r):Ih a d e o A:=by
 obtain⟨g,b,h,t,s,q,j,k,l,m,n,p⟩:=i.ex;exact⟨⟨g,b,h,t,s,q.L0 c (by grind),j,k,l,m,n,p⟩,i.fn.aj c (by grind),i.aj.trans c<|by grind⟩
def RK{w W2 j w6:Y}{K h g i v6:ab}{p gg cur:cU}{cs:dX}{B:fh}(e:lY j (z (G w)+8) (z<|G w) (z (G w)+1) (z (G w)+2) (z (G w)+3) (z (G w)+4) (z (G w)+5) K h g i (y cs.flatten) (y p) (dU cs) (fU cur) (bX 0 cs))(N:eX j (z (G w)+6) (.func (.func 214) #[] #[aD<|z (G w)+2,aD<|z (G w)+3,aD<|z (G w)+1,aD<|z (G w)+5,aD<|z (G w)+4,aD<|z<|G w]) 1)(x:Z aw w j)(F:Z B W2 j)(a:∀k,vM (z<|G w) (z (G w)+5) h g i k->B k\/z (G W2)<=k)(hcut:p=cs.flatten++cur)(m:∀c∈cs,0<y c/\y (fU c)+4<=512)(t:y (fU cur)+y (fU gg)+4<=512)(n:0<y gg)(v:(cs++[cur]).Pairwise ii)(q:ii p gg)(O:w6.ownsRow (z (G w)+8) 5 1 v6 (y (fU cur)+y (fU gg)) ((fU cur).map (Value.int .u8)++(fU gg).map (Value.int .u8)))(C:eJ j w6 g v6):(aW w6 (R (z (G w)+2) 0)=H g/\w6.frozen? (R (z (G w)+2) 0)=bw)/\(aW (cH w6 (R (z (G w)+2) 0) v6) (R (z (G w)+5) 0)=H (aq<|y p)/\(cH w6 (R (z (G w)+2) 0) v6).frozen? (R (z (G w)+5) 0)=bw)/\∃E,Ih w K (p++gg) E (cH (cH w6 (R (z (G w)+2) 0) v6) (R (z (G w)+5) 0)<|aq ((y p+y gg:M):U))/\Z B W2 (cH (cH w6 (R (z (G w)+2) 0) v6) (R (z (G w)+5) 0)<|aq ((y p+y gg:M):U))/\∀k,E k->B k\/z (G W2)<=k:=by
 have d:=Z.fN C;have l:=e.p.aj d (e.lG<|by omega).2.1;have f:=e.piece (ps1:=fU<|cur++gg) d C.vQ (fg.of O (by rw[yX,af])<|by rw[yX,aE]);have A:=f.at (y p+y gg);have u:∀k,cI g=H k->z (G w)+8<=k:=λk o=>(e.op.lt k o).1;have b:Z (vM (z<|G w) (z (G w)+5) h g i) j (cH (cH w6 (R (z (G w)+2) 0) v6) (R (z (G w)+5) 0)<|aq ((y p+y gg:M):U)):=((d.mono (T:=vM (z<|G w) (z (G w)+5) h g i)<|λk o=>.inl<|.inr<|.inr<|.inl o).setCell _ 0 _<|.inl<|.inl ⟨by omega,by omega⟩).setCell _ 0 _<|.inl<|.inl ⟨by omega,by omega⟩;refine⟨⟨l.cell,l.free⟩,⟨f.t.cell,f.t.free⟩,vM (z<|G w) (z (G w)+5) h v6 i,⟨⟨cs,cur++gg,h,v6,i,by rw[af];exact A,by rw[hcut,bj],m,by rw[yX,af];exact t,λc=>?_,?_,λk=>rK⟩,?_,?_⟩,F.trans b a,?_⟩;rw[kN]at c;rw[c.2]at n;simp at n;obtain⟨Q,_,S⟩:=aZ.1 v;refine aZ.2 ⟨Q,by simp,λc L W P=>?_⟩;rw[cL.1 P];intro V D s r;rcases aA.1 r with r|r;exact S c L cur (by simp) V D s r;exact q V (by rw[hcut];grind[mem_append_left,mem_flatten]) s r
 .exact N.aj b (by
   rintro(⟨_,c⟩|c|c|c)
   .omega
   .have:=(e.od.lt _ c).1;omega
   .have:=u _ c;omega
   .have:=(bN e.ok _ c).1;omega)
 exact x.trans b<|λk o=>.inr<|e.low k o;rintro k(c|c|c|c);exact a k<|.inl c;exact a k<|.inr<|.inl c;rcases C.vQ with r|⟨V,r,D⟩;exact a k<|.inr<|.inr<|.inl<|r▸c;rw[r]at c;cases c;exact .inr<|aB F.size D;exact a k<|.inr<|.inr<|.inr c
def FK(ac b f:M)(hT:Steps a)(hg:ac<z (G a))(hc:∀cx cl,(aI e)[cx]?=H cl->aW a (R ac<|b+cx)=H cl)(dc:y e<=f)(dm:0<y e)(O:∀bh∈e,bh.Good)(hs:eh e)(c:∀ac∈iA e,y ac<=10)(hl:y e<=1000000):cY bA 149 #[bI ac b (y e) f] a λad w'=>∃dv kv q,ad=aN (dA #[dv,kv])/\qM e q/\fg w' (z<|G a) dv (dU q)/\w'.ownsRow (z<|G a) 320 5 kv (y q) (eS<|bX 0 q)/\Z aw a w':=by
 obtain⟨i0,bt,cb,cc,cd⟩:=dl qG;have bT:=hT.lt;have cs:=BN (bI ac b (y e) f) _ _ _ rfl;have hE:kJ a (bI ac b (y e) f) e:=⟨by rw[fX],(by grind)⟩;obtain⟨HT,HC,HG,cn⟩:=gw hT hc O c;clear hT hc O c;refine(eD (n:=3)).1 ?_;refine callsIn_of_wp_marks func149 rfl trivial ?_ rfl;simp only[ntmps149,gA,aO,dB,Nat.reduceAdd,Nat.reduceSub,ft,fq,gB,fM,du,cR];have cv:=vF (P:=bA) (w:=(dd (dd (dd (dd (dd (dd (dd a<|ay #[bI ac b (y e) f] 73)<|ay #[az] 86)<|ay #[az] 86)<|ay #[az] 243)<|ay #[aq 0] 3)<|ay #[aq 0] 3)<|ay #[.nilFunc] 1)) (b:=z (G a)+1+1+1+1+1+1) (u:=.nilFunc) (t:=1) (aK _<|by simp) (.func (.func 214) #[] #[aD<|z (G a)+1+1,aD<|z (G a)+1+1+1,aD<|z (G a)+1,aD<|z (G a)+1+1+1+1+1,aD<|z (G a)+1+1+1+1,aD<|z<|G a]) rfl;gi_wp2_with(refine⟨trivial,?_⟩;gi_at_call 142;refine(eD.2<|cs _).mono ?_;rintro ad w1⟨rfl,rfl⟩)
 clear cv;obtain⟨W0,j⟩:∃W0,(dd (dd (dd (dd (dd (dd (dd (dd a<|ay #[bI ac b (y e) f] 73)<|ay #[az] 86)<|ay #[az] 86)<|ay #[az] 243)<|ay #[aq 0] 3)<|ay #[aq 0] 3)<|ay #[.func (.func 214) #[] #[aD<|z (G a)+1+1,aD<|z (G a)+1+1+1,aD<|z (G a)+1,aD<|z (G a)+1+1+1+1+1,aD<|z (G a)+1+1+1+1,aD<|z<|G a]] 1)<|ay #[bI ac b (y e) f] 73)=W0:=⟨_,rfl⟩;have dn:z (G W0)=z (G a)+8:=by rw[<-j];simp
 have ca:Z aw a W0:=by rw[<-j];exact(((((((cO aw a).alloc _).alloc _).alloc _).alloc _).alloc _).alloc _).alloc _
 have cq:eX W0 (z (G a)+7) (bI ac b (y e) f) 73:=by rw[<-j];exact aK _<|by simp
 have hA0:Ih a (bI ac b (y e) f) (iB []) (vM (z<|G a) (z (G a)+5) az az az) W0:=by refine⟨⟨[],[],az,az,az,⟨?_,?_,?_,?_,?_,?_,fg.nil _ _,fg.nil _ _,cK _ _ _ _,(by simp[cI]),by omega,by omega⟩,rfl,by simp,by simp[fU],λ_=>rfl,by simp,λl=>rK⟩,?_,ca⟩;rw[<-j];grind[eX.alloc,aK];rw[<-j];exact eX.alloc (eX.alloc (eX.alloc (eX.alloc (eX.alloc (eX.alloc (aK _<|by simp) _) _) _) _) _) _;rw[<-j];exact eX.alloc (eX.alloc (eX.alloc (eX.alloc (eX.alloc (aK _<|by simp) _) _) _) _) _;rw[<-j];exact eX.alloc (eX.alloc (eX.alloc (eX.alloc (aK _<|by simp) _) _) _) _;rw[<-j];exact eX.alloc (eX.alloc (eX.alloc (aK _<|by simp) _) _) _;rw[<-j];exact eX.alloc (eX.alloc (aK _<|by simp) _) _;rw[<-j];exact eX.alloc (aK _<|by simp) _
 rw[j];refine se (m:=3) (arg:=Ic<|bI ac b (y e) f) (V:=BZ) (n0:=z<|G a) (gf:=209) (lb:=#[aD<|z (G a)+7]) (l:=ou 0<|iA e) (S:=λl=>l=z (G a)+7) ?geval (enters_of func209 (by kernel_rfl) rfl) (λ_=>rfl) (xA (z<|G a) 2 cq (hE.aj ca<|λl c=>⟨id,(show ac=l by simpa[cI]using c)▸hg⟩) (λl c=>(show ac=l by simpa[cI]using c)▸hg) (by omega)<|by omega) trivial (by omega) (λl c=>by omega) (λg bi cj=>Ih a (bI ac b (y e) f) (iB g) bi cj) (λ_ _ _ _=>False) _ hA0 (λl c n=>by rcases n with⟨_,n⟩|n|n|n<;>first|omega|(simp[cI]at n)) (λg bi cj x=>x.lt) ?st (by simp) ?body ?done ?stop;case geval=>rfl
 (case st=>intro g bi cj r T x i hT;refine x.stays i<|λl c=>⟨(hT l c).1,?_⟩;rcases(hT l c).2 with n|n|n;omega;exact n.elim;omega);(case stop=>grind)
 case body=>
  rintro lr g⟨ce,i⟩bi cj dk bl bv Q x _;obtain⟨hn,dT,c⟩:=KB hs Q;have br:0<y i:=gN.2 c.ne;have df:ce+y i+y dT=y e:=by rw[c.all,hn];simp;omega
  have N:=Ca hE c.all c.ne;rw[<-hn]at N;unfold Ic;unfold Ap at N|-;simp only at N|-;have cM:y i<=10:=cn i (by obtain⟨_,ea,ad⟩:=zy _ _ _ _ _ Q;rw[<-ad];simp);have bq:∀bh∈i,bh.Good:=λbh a=>HG bh (by rw[c.all];simp[a]);generalize f-ce=dx at*;obtain⟨HA,HK,HN⟩:=dF x c hn;clear x Q c hn;gi_wp2;refine⟨Z.refl _ _,λW2 bf=>?_⟩;have hA2:=HA.stays bf (λl c=>by grind);have bc:kJ W2 (bI ac (b+ce*4) (y i) dx) i:=N.aj hA2.aj<|λl c=>(show ac=l by simpa[cI]using c)▸⟨id,hg⟩;have bE:=FJ bc (λl c=>(show ac=l by simpa[cI]using c)▸ai hg hA2.aj.size) bq (by omega);obtain⟨q,d,dv,pv,kv,hv,hcut,t,w,K,u,hB⟩:=hA2.ex;have cr:0<y (fU i)/\y (fU i)<=350:=by
   have h1:=Sa bq;have T:=KY i;omega
  obtain⟨px,pc,bL⟩:=aC hv.op;obtain⟨ck,hb⟩:∃ck,y (fU i)=ck:=⟨_,rfl⟩;obtain⟨cm,ha⟩:∃cm,y (fU d)=cm:=⟨_,rfl⟩;rw[hb]at cr;rw[ha]at bL w;obtain⟨HV,HF,ba,an,HB,D⟩:=lw hv hA2.fn hA2.aj bf hB hcut;obtain⟨au,cB,bk,Hb,Ha,cS⟩:=lw t K u hb ha bc;clear hA2 bc N hv hcut t K u hB hb ha bf;subst bL;gi_wp2_with fail
  refine⟨trivial,(CallsIn.inRound lr<|eD.2 bE).mono ?_⟩;rintro ad C⟨b2,rfl,bd,o⟩;obtain⟨co,F,cp,bn⟩:=bd.B5 (by rw[J Hb];omega);rw[J Hb]at bn;subst bn;have k:=HV.aj o;have bp:=HF.aj o id;have y5:=k.p.cell;have y9:=bp.cell;obtain⟨al,aV,r⟩:=dF k bd o;clear k bp bd o bE;have ax:lr<z (G W2):=ai bv.1 an.size;have db:z (G cj)<=z (G W2):=an.size;have bx:y (iB g)=ce:=HN.symm;by_cases cE:(512:U)<(cm:U)+ck+4
  .have ao:0<y d:=by
    rcases gH (y d)with n|n
    .obtain rfl:=aS n;have:=J Ha;simp[fU]at this;omega
    .exact n
   have av:=HK.all;have W:Z aw a C:=ba.cz r;have s:=RZ ac b f e q d al (HT.below (W.below (ag _) cJ) bT) hg (λcx cl hj=>W.cell (HC cx cl hj) id hg) (by rw[av,bj,ld];exact D) (by omega) ao hl au (by rw[J Ha];exact w);clear W av;gi_wp2_with fail
   refine⟨trivial,(CallsIn.inRound lr<|eD.2<|Fy ((cm:U)+ck) _ (by omega)<|by omega).mono ?_⟩;rintro ad w4⟨rfl,cw⟩;subst w4;gi_wp2_with fail
   refine⟨trivial,(CallsIn.inRound lr<|eD.2 s).mono ?_⟩;rintro ad w5⟨rfl,⟨cT,dr,ap,bo,bu⟩,T⟩;have A:∀l,vM (z<|G a) (z (G a)+5) dv (I px cm pc) kv l->bi l:=λl c=>(HB l).2 c;have bs:=HV.wz;have cu:=HV.low;have bm:fg w5 (z<|G W2) (bI co F ck cp) (fU i):=T.own aV (λl c n=>by have:=bs l n;have:=(aV.lt l c).1;omega);have bg:=ap.size;have y6:=ap.p.cell;have cN:=r.size;have u:=J bk;have aU:=X<|uy bm.bytes;have bb:=X (λ(v6:ab)(w6:Y)ho hw=>RK (w:=a) (w6:=w6) (v6:=v6) (p:=iB g) (cs:=q++[d]) (cur:=[]) (gg:=i) (B:=bi) (W2:=W2) ap ((HF.aj r id).aj T (by
    rintro(⟨_,n⟩|n|n|n)
    .omega
    .have:=(HV.od.lt _ n).1;omega
    .have:=(HV.op.lt _ n).1;omega
    .have:=(bN HV.ok _ n).1;omega))
    ((ba.cz r).trans T<|by grind) ((r.mono cJ).trans T<|by grind)
    (by
     rintro l(n|n|n|n)
     .exact .inl<|A l<|.inl n
     .rcases bo l n with ad|ad
      .exact .inl<|A l<|.inr<|.inl ad
      grind
     .simp[cI]at n
     .rcases bu l n with ad|ad
      .exact .inl<|A l<|.inr<|.inr<|.inr ad
      grind)
    (by rw[J D];simp) (by
     grind[mem_singleton,J])
    (by rw[J Hb];simp[fU];omega) br (aZ.2 ⟨u,by simp,λbh _ ch a=>by rw[cL.1 a];intro _ _ ds hz;cases hz⟩) HK.low ho hw)
   clear ap bo bu T A bs cu bm u s y5 y9;gi_wp2_with(first
    |(gi_at_builtin;refine gp _ rfl (.tmp 27) (.tmp 28) 86 rfl (z (G a)+8) 5 i0 (.int .u8 0) 1 1 underlying86 bt cb cc cd rfl (by decide) _ 0 ((fU []).map (Value.int .u8)) rfl (cK _ _ _ _) (R co F) ck cp ((fU i).map (Value.int .u8)) rfl (by rw[bU,J Hb,rZ]) aU (by intro cl hu;simp only[bH]at hu;obtain⟨ch,_,rfl⟩:=hu;rfl) (by omega) (by omega) bg ?_;intro v6 w6 v aa;obtain⟨⟨y0,y1⟩,⟨y2,y3⟩,B2,hP,B,L⟩:=bb v6 w6 (by rw[J Hb];exact v) aa;obtain⟨x6,c6,rfl⟩:=aC v;simp only[dM]at y2 y3 hP B;rw[bx]at y2;have HP:=X hP;have E:=X B;have aF:=X L;clear v aa hP B L))
   have e1:iB (g++[(ce,i)])=iB g++i:=uv _ _ _;have e2:((ce:U)+y i)=((y (iB g)+y i:M):U):=by omega
   rw[e2];refine⟨trivial,B2,?_,(an.mono<|by simp).trans E (by grind),E.block lr ax bl,λl c=>(aF l c).imp_right<|λn=>by omega⟩;show Ih a _ (iB<|g++[(ce,i)]) B2 _;rw[e1];exact HP
  .have A:∀l,vM (z<|G a) (z (G a)+5) dv (I px cm pc) kv l->bi l:=λl c=>(HB l).2 c;have bg:=al.size;have aU:=X<|uy aV.bytes;have bb:=X<|λ(v6:ab)(w6:Y)ho hw=>RK (w:=a) (w6:=w6) (v6:=v6) (p:=iB g) (cs:=q) (cur:=d) (gg:=i) (B:=bi) (W2:=W2) al (HF.aj r id) (ba.cz r) (r.mono cJ) (by grind) D au (by rw[J Ha,J Hb];omega) br bk HK.low ho hw;clear A y9;gi_wp2_with fail
   refine⟨trivial,(CallsIn.inRound lr<|eD.2<|Fy ((cm:U)+ck) _ (by omega)<|by omega).mono ?_⟩;rintro ad w4⟨rfl,cw⟩;subst w4;gi_wp2_with(first
    |(gi_at_builtin;refine gp _ rfl (.tmp 27) (.tmp 28) 86 rfl (z (G a)+8) 5 i0 (.int .u8 0) 1 1 underlying86 bt cb cc cd rfl (by decide) _ cm ((fU d).map (Value.int .u8)) rfl (by have T:=al.op;unfold fg at T;rw[J Ha]at T;exact T) (R co F) ck cp ((fU i).map (Value.int .u8)) rfl (by rw[bU,J Hb,rZ]) aU (by intro cl hu;simp only[bH]at hu;obtain⟨ch,_,rfl⟩:=hu;rfl) (by omega) (by omega) bg ?_;intro v6 w6 v aa;obtain⟨⟨y0,y1⟩,⟨y2,y3⟩,B2,hP,B,L⟩:=bb v6 w6 (by rw[J Ha,J Hb];exact v) aa;obtain⟨x6,c6,rfl⟩:=aC v;rw[bx]at y2;have HP:=X hP;have E:=X B;have aF:=X L;clear v aa hP B L))
   have e1:iB (g++[(ce,i)])=iB g++i:=uv _ _ _;have e2:((ce:U)+y i)=((y (iB g)+y i:M):U):=by omega
   rw[e2];refine⟨trivial,B2,?_,(an.mono<|by simp).trans E (by grind),E.block lr ax bl,λl c=>(aF l c).imp_right<|λn=>by omega⟩;show Ih a _ (iB<|g++[(ce,i)]) B2 _;rw[e1];exact HP
 (case done=>intro W bi cj aU x F _ hK;obtain⟨q,d,dv,pv,kv,hv,hcut,t,w,K,u,hB⟩:=x.ex;rw[BV]at hcut K hv;(have ao:0<y d:=by grind);have s:=RZ ac b f e q d hv (HT.below (x.aj.below (ag _) cJ) bT) hg (λcx cl hj=>x.aj.cell (HC cx cl hj) id hg) (by rw[aY];exact hcut) (ag _) ao hl t w;have v:¬vM (z<|G a) (z (G a)+5) dv pv kv W:=λn=>F<|(hB W).2 n;have HX:=X (show∀C i r,lY C (z (G a)+8) (z<|G a) (z (G a)+1) (z (G a)+2) (z (G a)+3) (z (G a)+4) (z (G a)+5) (bI ac b (y e) f) i az r (y (q++[d]).flatten) (y e) (dU<|q++[d]) (fU []) (bX 0<|q++[d])->Z (vM (z<|G a) (z (G a)+5) dv pv kv) cj C->(∀bh,cI i=H bh->cI dv=H bh\/z (G cj)<=bh)->(∀bh,cI r=H bh->cI kv=H bh\/z (G cj)<=bh)->(fg C (z<|G a) i (dU<|q++[d])/\C.ownsRow (z<|G a) 320 5 r (y<|q++[d]) (eS<|bX 0<|q++[d]))/\Z aw a C/\C.heap[W]?=H (.deferred<|H [])/\cI i≠H W/\cI r≠H W from by intro C i r k o hd c;have h1:=k.ok;rw[kg]at h1;have L:=ak hK;exact⟨⟨k.od.base (by omega),gl h1<|by omega⟩,x.aj.trans o<|λl c=>.inr<|hv.low l c,(o.block W L v).trans hK,λn=>by rcases hd W n with ad|ad;exact v<|.inr<|.inl ad;omega,λn=>by rcases c W n with ad|ad;exact v<|.inr<|.inr<|.inr ad;omega⟩);have av:=x.fn.cell;have HP:=X<|show qM e (q++[d])from⟨by rw[hcut];simp,λn hc=>by grind,u⟩;clear x hcut t K u hB hv F v ao;generalize q++[d]=au at*;(gi_wp2_with fail);refine⟨trivial,(eD.2 s).mono ?_⟩;rintro ad C⟨rfl,⟨i,r,k,N,Q⟩,o⟩;have z1:=k.d.cell;have z2:=k.k.cell;obtain⟨⟨A,B⟩,T,D,ax,aF⟩:=HX C i r k o N Q;obtain⟨x4,c4,rfl⟩:=aC A;obtain⟨x5,c5,rfl⟩:=aC B;obtain⟨aa,al,an,ap⟩:=gw A B T D;have L:=ak D;clear k o A B T D N Q av s hK;(gi_wp2_with fail);refine zg.2 ?_;(go_quiet(fail));gi_wp2;refine⟨by simp,.inl ⟨_,_,rfl,run_takeDeferred ap,?_⟩⟩;refine⟨_,AT rfl _ _ _,?_⟩;have E:=(jl (λl=>l=W) C nq).trans (iw (C.drewN nq) W<|.deferred none)<|λ_ h=>.inl h;exact⟨_,_,au,rfl,HP,E.own aa<|λl c n=>ax (by rw[<-n];exact c),E.own al<|λl c n=>aF (by rw[<-n];exact c),an.trans E<|by grind⟩)
end
def uk(h:a.ownsRow b c i d l B)(m:0<l):∃g e,d=bI g 0 l e/\b<=g/\g<z (G a)/\l<=e:=by
 obtain⟨j,⟨_,k⟩|⟨g,e,f,n,o,p,q,_⟩⟩:=h;omega;grind
structure OT(w0 w:Y)(tb:M)(l:cU)(cs:dX)(bb ya db Ia:M):Prop where
 pieces:qM l cs
 mem:lZ w tb (dC none) 0 0 0 0 bb 0 ya (bI db 0 (y<|dU cs) Ia) (bX 0 cs)
 data:fg w (z<|G w0) (bI db 0 (y<|dU cs) Ia) (dU cs)
 fF:w.ownsRow (z<|G w0) 320 5 (bI bb 0 (y<|bX 0 cs) ya) (y<|bX 0 cs) (eS<|bX 0 cs)
 new:z (G w0)<=tb
 aj:Z aw w0 w
def Fi(s:cU)(x d l:M)(W:Y)(N:Steps W)(S:x<z (G W))(O:∀aa ac,(aI s)[aa]?=H ac->aW W (R x<|d+aa)=H ac)(u:y s<=l)(v:0<y s)(m:∀al∈s,al.Good)(hs:eh s)(i:∀x∈iA s,y x<=10)(V:y s<=1000000):cY bA 96 #[bI x d (y s) l] W λad k=>∃j c e a f b,ad=aN (aD j)/\OT W k j s c e a f b:=by
 have w:=FK x d l N S O u v m hs i V
 have E:=X (show∀o r c k,qM s c->fg k (z<|G W) o (dU c)->k.ownsRow (z<|G W) 320 5 r (y c) (eS<|bX 0 c)->Z aw W k->∃e a f b,r=bI e 0 (y<|bX 0 c) a/\o=bI f 0 (y<|dU c) b/\OT W (dd k<|ay #[dC none,aG 0,dI 0,dI 0,dI 0,bI e 0 (y<|bX 0 c) a,bI f 0 (y<|dU c) b] 247) (z<|G k) s c e a f b from by
  intro o r c k n p i q;rw[<-kg c 0]at i;have g:0<y (bX 0 c):=by
   rw[kg];rcases gH (y c)with K|K
   .obtain rfl:=aS K;have:=n.flat;grind
   .exact K
  have t:0<y (dU c):=by
   rw[kg]at g;have:=Lc c 0 g;omega
  have Q:=n.length;obtain⟨e,a,rfl,b1,b2,F⟩:=uk i g;obtain⟨f,b,rfl,d1,d2,d3⟩:=uk p t;refine⟨e,a,f,b,rfl,rfl,n,⟨aK _ rfl,?_,g,F,by rw[kg];omega⟩,p.alloc _,aT i _,q.size,q.alloc _⟩;intro aa ac hj;obtain⟨h1,⟨L,h0⟩|⟨b',B,A,L,_,P⟩⟩:=dR<|aT i<|ay #[dC none,aG 0,dI 0,dI 0,dI 0,bI e 0 (y<|bX 0 c) a,bI f 0 (y<|dU c) b] 247
  .omega
  grind)
 go_in
 go_wp2_with(go_at_call 149;refine w.mono ?_;rintro ad C⟨o,r,c,rfl,n,p,i,q⟩;obtain⟨e,a,f,b,rfl,rfl,hF⟩:=E o r c C n p i q;have D:=X hF;clear n p i q hF)
 go_ret;exact⟨z<|G C,c,e,a,f,b,rfl,D⟩
def Ei{b:Fs}(h:D.Perm b):pI D=pI b:=(h.map _).sum_nat
def XP(h:bY a b g)(K:((vw g.files).map (·.1)).Nodup):cY bA 21 #[.pointer<|H ⟨b,0,none⟩] a λbu w'=>∃e K',bu=.returned (.pointer<|H ⟨e,0,none⟩)/\bY w' e K'/\(vw K'.files).Perm (vw g.files)/\K'.eP=[]/\(∀k,K'.aL e k->z (G a)<=k)/\Z (λ_=>False) a w'/\K'.fx=⟨g.fx.room,0,0,0,0,g.fx.any⟩/\(K'.sm=K'.files.map aX.nm/\K'.nh=[])/\∀f∈K'.files,f.safe=y f.bytes:=by
 have cT:∀f∈g.files,y f.bytes<=1099511627776:=λf a=>h.len a;have ax:=h.room;have ac:=h.jV;have fr:aW a ⟨b,0,none⟩=H (.map<|H g.nb):=by rw[ct h.gG];rfl
 have fs:aW a ⟨b,3,none⟩=H (.int .i64 g.fx.room):=by rw[ct h.gG];rfl
 have cN:=yF a g.fx.room g.fx.any ac;obtain⟨HD,HB,HN⟩:=dF h cT K;go_in
 go_wp2_with fail
 apply cN.mono;rintro bu w1⟨rfl,w,cS⟩;have aU:Z (λ_=>False) a w1:=Z.aQ cS;have ao:=(J HD).aj aU<|λ_ _=>id;have ew:aW w1 ⟨b,0,none⟩=H (.map<|H g.nb):=by rw[ct ao.gG];rfl
 obtain⟨e,cb⟩:∃e,z (G a)+2=e:=⟨_,rfl⟩;rw[cb]at w|-;obtain⟨C,u⟩:∃C,mB (z<|G a) g.fx.room g.fx.any=C:=⟨_,rfl⟩;rw[u]at w;have ed:C.eP=[]:=by rw[<-u];rfl
 have dk:C.files=[]:=by rw[<-u];rfl
 have an:=X (show C.fx=⟨g.fx.room,0,0,0,0,g.fx.any⟩/\(C.sm=[]/\C.nh=[])by rw[<-u];exact⟨rfl,rfl,rfl⟩);have cv:=X<|And.intro ax ac;have ce:∀k,C.aL e k->z (G a)<=k:=by intro k p;rw[<-u,<-cb]at p;rcases p with m|m|m|m|⟨gj,hx,m⟩|⟨fn,hg,m⟩;omega;have:k=z (G a):=m;omega;have:k=z (G a)+1:=m;omega;cases m;cases hx;cases hg
 obtain⟨bp,fe,P,cx,bi,cs,al⟩:=zX ao.now ao w aU ce ed dk;have gg:=aU.size
 go_wp2_with(first
  |(at_range;refine rL _ rfl _ 60 rfl 9 85 underlying60 g.nb _ rfl (J bp) ?_;intro w0 cj dr gb;have bk:=X cj;have Q:=X dr))
 go_frame
 obtain⟨O,ek⟩:∃O,z (G w1)=O:=⟨_,rfl⟩;rw[ek]at bk|-;have eA:z (G a)<=O:=by omega
 obtain⟨bc,cw,bh⟩:=dF ((J P).aj (Z.ep (S:=λ_=>False) (J Q)<|by simp)<|λ_ _=>id) ((J cx).cz<|Z.ep (S:=λ_=>False) (J Q)<|by simp) (show∀k,C.aL e k->z (G a)<=k/\k≠O fromλk p=>⟨(J bi) k p,by have:=(J P).lt k p;omega⟩);go_loopw [4] (λ_ wr=>∃(es:ci aX)(K':DK),(vw K'.files++vw es).Perm (vw g.files)/\K'.eP=[]/\bY wr e K'/\(∀k,K'.aL e k->z (G a)<=k/\k≠O)/\pZ wr g.nb O (g.files.map aX.nm) (es.map aX.nm)/\(∀f∈es,f∈g.files)/\Z (λ_=>False) a wr/\K'.fx=⟨g.fx.room,0,0,0,0,g.fx.any⟩/\(K'.sm=K'.files.map aX.nm/\K'.nh=[])/\∀f∈K'.files,f.safe=y f.bytes) (λ_ wr=>wr.rangeLeft g.nb O)
 (case atStart=>refine⟨g.files,C,?_,J cs,J bc,J bh,J bk,λ_ m=>m,J cw,(J an).1,⟨by rw[(J an).2.1,J al];rfl,(J an).2.2⟩,by rw[J al];simp⟩;rw[J al];exact jx _)
 case round=>
  obtain⟨es,K',hp,hm,dc,dn,dx,hL,ht,hx⟩:=hrel;have HX:=X hx;obtain⟨bn,HT,HP,bd,l,HL,HM⟩:=zX dx ht hp dc dn hL hm;go_wp2_with(first
   |(at_next;refine sZ _ rfl _ rfl g.nb O _ _ rfl (J bn) ?_ ?_))
  .intro c;obtain rfl:es=[]:=by simpa using c
   go_wp2;go_ret;refine⟨e,rfl,K',J bd,?_,J HM,λk p=>((J l) k p).1,J HT,J HX⟩;have:=J HP;simpa[vw]using this
  .intro gi pk pv eB n en ck ds gc fv;obtain⟨fb,f,fd,rfl,rfl,co,rfl⟩:=BB en;simp only[aX.nm,jr,io]at co;obtain⟨rfl,rfl⟩:=co;have cp:Z (λk=>k=O) wr n:=fo ds;have ad:Z (λ_=>False) a n:=(J HT).trans cp (λgj hx=>.inr<|by omega);have x:=(J bd).aj cp<|λk p bu=>((J l) k p).2 bu;have cd:f∈g.files:=(J HL) f (by simp);have dm:=(J HD).files f cd;have j:=dm.aj ad id<|λ_ _ m=>m;have cc:=JB (v:=f.data) (bs:=f.bytes) (w:=n.drew) (j.2.1.bytes.of_heap rfl) ((J HB) f cd)<|λk p=>((bN j.2.1 k p).2:k<z (G n));have ec:=ak j.1;have k0:aW n.drew ⟨e,0,none⟩=H (.map<|H K'.nb):=by rw[bF,ct x.gG];rfl
   have kd:aW n.drew ⟨f.jM,0,none⟩=H f.data:=by rw[bF,ct j.1];rfl
   obtain⟨eu,et,df⟩:=aC j.2.1;have V:=ak x.gG;obtain⟨c,t,s,bg⟩:=gw x ad ck j;rw[df]at kd cc;go_wp2_with fail
   rename_i QQ KK cM;refine eH (λd=>aW d ⟨e,0,none⟩=H (.map<|H K'.nb)/\aW d ⟨f.jM,0,none⟩=H (.slice eu (y f.bytes) et)) 17 (by kernel_rfl) ?_;have bL:=And.intro k0 kd;refine fw 0 ?_;iterate 9 (refine Bc (v:=?_) bL rfl (by kernel_rfl) (λ_ _ _ h=>h) (Or.inl ⟨by rfl,?_⟩) ?_;rotate_left;(focus(rintro d⟨z0,z1⟩;go_simp;try with_reducible rfl));try simp only[Act.put,Nat.reduceAdd,cZ,eN,ez])
   apply iG;refine fw 10 ?_;iterate 5 (refine Bc (v:=?_) bL rfl (by kernel_rfl) (λ_ _ _ h=>h) (Or.inl ⟨by rfl,?_⟩) ?_;rotate_left;(focus(rintro d⟨z0,z1⟩;go_simp;try with_reducible rfl));try simp only[Act.put,Nat.reduceAdd,cZ,eN,ez])
   apply iG;refine bG (i:=9) rfl rfl (by kernel_rfl) ?_;intro K9 cE;go_simp;apply cc.mono;rintro bu o⟨v3,rfl,cn,ca⟩;obtain⟨x3,c3,eo⟩:=aC cn;subst eo;have N:Z (λ_=>False) n o:=(dh (λ_=>False) n).cz<|Z.aQ (S:=λ_=>False) ca;have E:aW o ⟨e,0,none⟩=H (.map<|H K'.nb)/\aW o ⟨f.jM,0,none⟩=H (.slice eu (y f.bytes) et):=⟨N.cell (by rw[bF]at k0;exact k0) id V,N.cell (by rw[bF]at kd;exact kd) id ec⟩;refine cE _ _ (λ_=>E) ?_;try simp only[Act.put,cZ,eN,ez]
   refine lN (i:=15) (v:=?_) rfl rfl (by kernel_rfl) (by kernel_rfl) (by kernel_rfl) (by kernel_rfl) (λ_ _ _ h=>h) (Or.inl ⟨by rfl,?_⟩) E ?_;rotate_left
   .rintro d⟨z0,z1⟩;go_simp;try with_reducible rfl
   try simp only[Act.put,cZ,eN,ez]
   refine bG (i:=16) rfl rfl (by kernel_rfl) ?_;intro fk bx;go_simp;have el:=N.size;refine bx _ _ (λ_=>⟨by rw[fE<|by omega];exact E.1,by rw[fE<|by omega];exact E.2⟩) ?_;try simp only[Act.put,cZ,eN,ez]
   obtain⟨W4,F⟩:∃W4,dd o (.cells #[.slice x3 (y f.bytes) c3,.int .i64<|y f.bytes] 88)=W4:=⟨_,rfl⟩;rw[F];have aV:Z (λ_=>False) n W4:=by rw[<-F];exact N.alloc _
   have eg:W4.heap[z<|G o]?=H (.cells #[.slice x3 (y f.bytes) c3,.int .i64<|y f.bytes] 88 (0,0)):=by rw[<-F];exact aK _ rfl
   have ei:W4.ownsRow (z<|G n.drew) 5 1 (.slice x3 (y f.bytes) c3) (y f.bytes) (f.bytes.map<|Value.int .u8):=by rw[<-F];exact aT cn _
   have av:=(J c).now.aj aV id;refine bG (i:=17) rfl rfl (by kernel_rfl) ?_;intro fl bE;try simp only[da,cD,cG]
   refine By (.tmp 24) (.tmp 25) (.tmp 37) 60 rfl 9 85 underlying60 underlying9 K'.nb _ rfl av f.name (.pointer<|H ⟨z<|G o,0,none⟩) rfl rfl ?_;intro B au ch em;refine bE _ _ IY ?_;refine fm (by kernel_rfl) ?_ _;show KK _ _;apply cM;have W:f.name∉K'.files.map aX.name:=by
    have hp:=(J HP).map<|λ(gj:ae×eF)=>gj.1;have K:=hp.nodup_iff.2<|J HN;rw[aE,kw]at K;intro hc;refine K.2.2 f.name ?_ f.name ?_ rfl
    .simpa[vw]using hc
    .simp[vw]
   have A:=Eh W;rw[wW A]at au;have ba:Z (λk=>k=K'.nb) n B:=(aV.mono (T:=λk=>k=K'.nb) cJ).trans (fo ch)<|λ_ m=>.inl m;have db:e≠K'.nb:=rP (J c).now (J c).gG;have fu:e≠K'.sb:=rP (J c).safe (J c).gG;have cl:B.heap[e]?=n.heap[e]?:=ba.block e V db;have y0:aW B.drew ⟨e,0,none⟩=H (.map<|H K'.nb):=by rw[bF,ct<|cl.trans (J c).gG];rfl
   have y1:aW B.drew ⟨e,1,none⟩=H (.map<|H K'.sb):=by rw[bF,ct<|cl.trans (J c).gG];rfl
   have aF:gv B K'.sb K'.sm:=(J c).safe.aj ba<|λbu=>(J c).ne bu.symm;have dT:=NS (v:=.pointer<|H ⟨z<|G o,0,none⟩) A;have cm:gv B.drew K'.nb (K'.files.map aX.nm++[(f.name,.pointer<|H ⟨z<|G o,0,none⟩)]):=au.aj (dh (λ_=>False) B) id;have L:gv B.drew K'.sb K'.sm:=aF.aj (dh (λ_=>False) B) id;obtain⟨j0,ea,eb,fx,fz⟩:=dl yT;obtain⟨cB,bo,D,cu,cq⟩:=iY ba eg ei au ch;have br:=X L;obtain⟨er,cr,bm,eq,bq⟩:=iY aV dT A W<|And.intro el em;go_wp2_with fail
   have bT:=And.intro y0 (And.intro y1 cm);refine eH (λd=>aW d ⟨e,0,none⟩=H (.map<|H K'.nb)/\aW d ⟨e,1,none⟩=H (.map<|H K'.sb)/\gv d K'.nb (K'.files.map aX.nm++[(f.name,.pointer<|H ⟨z<|G o,0,none⟩)])) 11 (by kernel_rfl) ?_;refine fw 0 ?_;iterate 10 (refine Bc (v:=?_) bT rfl (by kernel_rfl) (λ_ _ _ h=>h) (Or.inl ⟨by rfl,?_⟩) ?_;rotate_left;(focus(rintro d⟨z0,z1,z2⟩;go_simp;try rfl));simp only[Act.put,Nat.reduceAdd,cZ,eN,ez,da,cD,cG])
   apply iG;refine lN (i:=10) (v:=.pointer<|H ⟨z<|G o,0,none⟩) rfl rfl (by kernel_rfl) (by kernel_rfl) (by kernel_rfl) (by kernel_rfl) (λ_ _ _ h=>h) (Or.inl ⟨by rfl,?_⟩) bT ?_
   .rintro d⟨z0,z1,z2⟩;have ap:=yu underlying60 underlying9 ea eb z2 f.name;rw[J cr]at ap;simp only[oJ]at ap;go_simp;try with_reducible rfl
   simp only[Act.put,cZ,eN,ez,da,cD,cG];refine bG (i:=11) rfl rfl (by kernel_rfl) ?_;intro ff bv;try simp only[da,cD,cG]
   refine By (.tmp 41) (.tmp 42) (.tmp 48) 60 rfl 9 85 underlying60 underlying9 K'.sb _ rfl (J br) f.name (.pointer<|H ⟨z<|G o,0,none⟩) rfl rfl ?_;intro w6 ef dv ge;refine bv _ _ IY ?_;refine fm (by kernel_rfl) ?_ _;have bb:Z (λk=>k=K'.sb) B w6:=(dh (λk=>k=K'.sb) B).trans (fo dv)<|λ_ m=>.inl m;have q:Z (λk=>k=K'.nb\/k=K'.sb) n w6:=((J cB).mono (T:=λk=>k=K'.nb\/k=K'.sb)<|by simp).trans bb (by simp);have aa:Z (λk=>k=K'.nb\/k=K'.sb) W4 w6:=((Z.ep (S:=λk=>k=K'.nb\/k=K'.sb) (J cq)<|by grind)).trans bb (by simp);have r:=X<|show z (G n)<=z (G o)/\True from⟨(J bq).1,trivial⟩;have ex:=(J c).lt K'.nb<|.inr<|.inl rfl;have ey:=(J c).lt K'.sb<|.inr<|.inr<|.inl rfl;have bf:=X ((J c).add (f:=⟨f.name,z<|G o,.slice x3 (y f.bytes) c3,f.bytes,y f.bytes⟩) (J HM) (J HX).2.1.2 q ((J cu).aj bb<|λbu=>(J c).ne bu) ef ⟨(aa.block _ (ak<|J bo) (λm=>by have:=(J r).1;rcases m with m|m<;>omega)).trans<|J bo,gl (aa.own (J D) (λk p m=>by have:=((J D).lt k p).1;have bu:z (G n.drew)=z (G n):=rfl;rcases m with m|m<;>omega))<|bK _,(J bg).2.2.1,by simp,by simp,(J bg).2.2.2.2.2⟩ (J r).1 (λk p=>((J D).lt k p).1) (by
    have h1:=Ei<|J HP;have h2:=(J cv).1;show eV (K'.files++[_])<=4611686018427387904;rw[wa]at h2|-;have h3:pI (vw<|K'.files++[⟨f.name,z<|G o,.slice x3 (y f.bytes) c3,f.bytes,y f.bytes⟩])<=pI (vw K'.files++vw (fb++f::fd)):=by
     simp[pI,vw];omega
    omega))
   have bt:=X ((J t).trans q (λk m=>by
    have h1:=((J l) K'.nb (.inr (.inl rfl))).1;have h2:=((J l) K'.sb (.inr (.inr (.inl rfl)))).1;grind))
   have ev:g.nb<z (G a):=(J HD).lt g.nb<|.inr<|.inl rfl;have bl:=X ((J s).kept (q.block _ (by have:=(J t).size;omega) (λm=>by
    have h1:=((J l) K'.nb (.inr (.inl rfl))).1;have h2:=((J l) K'.sb (.inr (.inr (.inl rfl)))).1;rcases m with m|m<;>omega)) (q.block _ (J s).lt (λm=>by
     have h1:=((J l) K'.nb (.inr (.inl rfl))).2;have h2:=((J l) K'.sb (.inr (.inr (.inl rfl)))).2;rcases m with m|m<;>omega)))
   go_wp2;go_roundw;case rel=>
    obtain⟨ej,ap⟩:=J bf;refine⟨fb++fd,{K' with files:=K'.files++[⟨f.name,z<|G o,.slice x3 (y f.bytes) c3,f.bytes,y f.bytes⟩],sm:=K'.sm.put f.name (.pointer<|H ⟨z<|G o,0,none⟩)},?_,J HM,ej,?_,?_,λfn hg=>(J HL) fn ?_,J bt,(J HX).1,?_,λfn hg=>?_⟩
    .refine List.Perm.trans ?_<|J HP;show List.Perm (vw (K'.files++[⟨f.name,z<|G o,.slice x3 (y f.bytes) c3,f.bytes,y f.bytes⟩])++vw (fb++fd)) (vw K'.files++vw (fb++f::fd));simp only[vw,aE,bR,iz,bj,jQ];exact nC _ rf.symm
    .intro k p;have ca:=(J r).1;have gf:=(J t).size;have fL:=(J s).lt;rcases ap k p with m|m|m
     .exact(J l) k m
     .have:k=z (G o):=m;grind
     .have:=((J D).lt k m).1;have bu:z (G n.drew)=z (G n):=rfl;grind
    .rw[aE];exact J bl
    .grind
    .refine⟨?_,(J HX).2.1.2⟩;show K'.sm.put f.name _=(K'.files++[_]).map aX.nm;rw[(J HX).2.1.1,wW<|J bm,aE];rfl
    grind[J,mem_singleton]
   case measure=>rw[(J bl).left_eq,(J bn).left_eq];simp
def Wd(u:a.ownsRow b c 1 (bI i 0 l F) l (n.map<|Value.int .u8))(q:V<=y n):a.ownsRow b c 1 (bI i 0 V F) (y<|n.take V) ((n.take V).map<|Value.int .u8):=by
 obtain⟨m,⟨j,_⟩|⟨t,h,d,k,o,p,r,e,f,g⟩⟩:=u;cases j;cases k;(have s:y n=l:=by simpa using m);refine⟨by simp,.inr ⟨i,F,d,by rw[dp,pA q],o,p,by rw[dp];omega,e,f,?_⟩⟩;rw[vy,<-g,yi,dp];grind
def Le(a:M)(f:aX):M:=f.safe.toNat+a% (y f.bytes-f.safe.toNat+1)
def aX.cut(a:M)(f:aX)(b:ab):aX:={f with data:=b,bytes:=f.bytes.take<|Le a f,safe:=Le a f}
def ZB{tailqq:M}(a:0<=O.safe)(b:O.safe<=y O.bytes):Le tailqq O<=y O.bytes:=by
 unfold Le;have:=wK tailqq (show 0<y O.bytes-O.safe.toNat+1 by omega);omega
def bY.cut{K:DK}{R1 R2:ci aX}(i:bY a b K)(C:K.nh=R1++O::R2)(Q:K.eP=[])(u:Z (λk=>k=O.jM\/k=K.nb) a f)(r:gv f K.nb (K.files.map aX.nm++[O.nm]))(hF:mi f (O.cut c d))(p:∀k,cI d=H k->cI O.data=H k)(L:eV K.files+y O.bytes<=4611686018427387904):bY f b {K with files:=K.files++[O.cut c d],nh:=R1++R2}/\∀k,({K with files:=K.files++[O.cut c d],nh:=R1++R2}:DK).aL b k->K.aL b k:=by
 have j:O∈K.nh:=by rw[C];simp
 have o:=i.qa O j;have l:∀g∈R1++R2,g∈K.nh:=(by grind);have s:=i.EF;rw[C]at s;have w:∀g∈R1++R2,js O g:=λg e=>by obtain⟨B,D,A⟩:=aZ.1 s;rcases aA.1 e with q|q;exact(A g q O<|by simp).symm;simp_all
 have m:∀{k N:M}{A:Array ab}{B:M×M},a.heap[k]?=H (ay A N B)->N≠88->¬(k=O.jM\/k=K.nb):=by rintro k N A B D E(h|h);exact iQ D o.1 E h;exact i.now.tag D h
 have n:∀g,mi a g->js O g->mi f g:=λg e t=>by refine e.aj u ?_ ?_;rintro(h|h);exact t.1 h.symm;exact i.now.tag e.1 h;intro k A;obtain⟨v,F⟩:=eT e.2.1 A;grind
 have hcut:∀g,js O g->js (O.cut c d) g:=λg t=>⟨t.1,λk h=>t.2 k<|p k h⟩;refine⟨⟨?_,?_,?_,i.ne,?_,?_,?_,?_,i.tu,?_,i.jV,?_,?_,?_⟩,?_⟩;exact(u.block b (ak i.gG)<|m i.gG<|by decide).trans i.gG;rw[aE];exact r;refine i.safe.aj u ?_;rintro(h|h);exact i.safe.tag o.1 h.symm;exact i.ne h.symm;refine u.own i.steps<|λk h=>?_;obtain⟨v,F⟩:=eT i.steps h;grind
 grind
 intro g e;rcases aA.1 e with q|q;exact n g (i.files g q) (i.wD O j g q).symm;grind
 refine aZ.2 ⟨i.apart,pN _ _,λg e P x=>?_⟩;rw[cL.1 x];exact(hcut g (i.wD O j g e).symm).symm;show eV (K.files++[O.cut c d])<=_;(have:y (O.bytes.take<|Le c O)<=y O.bytes:=by rw[dp];omega);simp[eV,aX.cut]at L this|-;omega;intro g e;exact n g (i.qa g<|l g e)<|w g e;intro g e P x;rcases aA.1 x with q|q;exact i.wD g (l g e) P q;grind
 grind
 rintro k(h|h|h|h|h|⟨g,e,h⟩);exact .inl h;exact .inr<|.inl h;exact .inr<|.inr<|.inl h;exact .inr<|.inr<|.inr<|.inl h;(grind);rcases aA.1 e with e|e;rcases aA.1 e with q|q;exact .inr (by grind);rw[cL.1 q]at h;exact .inr<|.inr<|.inr<|.inr<|.inr ⟨O,DK.E9 j,h.imp id<|p k⟩;exact .inr<|by grind
def vL(a:M)(f:aX):ae×eF:=(f.name,f.bytes.take<|Le a f)
def X4(w d:Y)(c a:M)(K:DK)(L:ci aX)(e:Ending):Prop:=e=aN (dA #[])/\∃b,qQ w d c K b/\(vw b.files).Perm (L.map<|vL a)/\b.eP=[]/\b.fx={K.fx with wt:=0,bd:=0}
def KJ(K:DK)(nb:M)(D:eU)(A a:ci aX):DK:={K with nb:=nb,mv:=az,fx:={K.fx with wt:=0,bd:=0},files:=A,nh:=a,sm:=D,eP:=[]}
structure Af(K:DK)(L:ci aX)(D:eU):Prop where
 nm:L.map aX.nm=D
 has:∀f∈L,∃g∈K.files++K.nh,f.jM=g.jM/\f.data=g.data/\f.bytes=g.bytes/\f.safe=g.safe
 apart:L.Pairwise js
 nodup:(L.map aX.name).Nodup
 len:y L<=4000000
def Af.file{D:eU}(l:Af g P D)(j:bY a b g)(h:O∈P):mi a O:=by
 obtain⟨k,i,c,d,e,f⟩:=l.has O h;have:=j.all i;unfold mi at*;rw[c,d,e,f];exact this
def Af.start{K:DK}{D:eU}(s:Af K P D)(j:bY a b K)(r:Z (λk=>k=b\/k=K.sb) a f)(n:iW f b c K.sb az {K.fx with wt:=0,bd:=0})(o:gv f c [])(q:gv f K.sb D)(i:c≠K.sb)(p:z (G a)<=c):bY f b (KJ K c D [] P)/\∀k,(KJ K c D [] P).aL b k->K.aL b k\/z (G a)<=k:=by
 refine⟨⟨n,o,q,i,cK _ _ _ _,(by intro x d;cases d),(by intro x d;cases d),List.Pairwise.nil,⟨by simp[KJ],by simp[KJ]⟩,by simp[KJ,eV],j.jV,?_,λu _ x d=>(by cases d),s.apart⟩,?_⟩;intro m g;have hF:=s.file j g;refine hF.aj r ?_ ?_;rintro(e|e);exact iQ hF.1 j.gG (by decide) e;exact j.safe.tag hF.1 e;intro k e;obtain⟨l,h⟩:=eT hF.2.1 e;rintro(e|e);exact iQ h j.gG (by decide) e;exact j.safe.tag h e;rintro k(e|e|e|e|⟨x,d,_⟩|⟨m,g,e⟩);exact .inl<|.inl e;(have h:k=c:=e;grind);exact .inl<|.inr<|.inr<|.inl e;cases e;cases d;(have h:m∈P:=by simpa[KJ]using g);obtain⟨u,v,l,t,_⟩:=s.has m h;exact .inl<|.inr<|by grind
def Af.total{A e:ci aX}{D:eU}(o:Af g P D)(p:bY a b g)(m:(vw A++e.map (vL c)).Perm (P.map<|vL c))(l:O∈P):eV A+y O.bytes<=4611686018427387904:=by
 have r:=Ei m
 have j:∀d:ci aX,(∀i∈d,i∈P)->pI (d.map<|vL c)<=y d*1099511627776:=by
  intro d;induction d with
  |nil=>intro _;simp[pI]
  |cons i d n=>
   intro h;have f:=n (λx c=>h x<|by simp[c]);have k:=(o.file p<|h i<|by simp).2.2.2.2.2;simp[pI,vL]at f|-;grind
 have f:=j P<|λ_ q=>q;have k:=(o.file p l).2.2.2.2.2;have s:eV A=pI (vw A):=wa A;have t:pI (vw A++e.map (vL c))=pI (vw A)+pI (e.map<|vL c):=by simp[pI]
 have u:=o.len;omega
def XJ{c:eF}{e:Option Addr}{d n:M}(h:fg a 0 (I e (y c) d) c)(j:n<=y c):fg a 0 (I e n d) (c.take n)/\y c<=d/\∀b,Sem.run bA (Instr.sliceAt 86 (I e (y c) d) none (H<|aq n) none) b=.ok (I e n d) b:=by
 have o:=h;rcases o.2 with⟨m,r⟩|⟨t,k,l,m,_,_,q,_⟩;(.injection m with f i g;have p:c=[]:=aS i;subst p;(obtain rfl:n=0:=by simpa using j);subst f g;refine⟨h,by simp,λb=>?_⟩;show Sem.run bA (Instr.sliceAt 86 (I none 0 0) none (H<|aq (0:M)) none) b=_;go_simp);injection m with f i g;subst f g;refine⟨Wd h j,by omega,λb=>?_⟩;(have p:(0:U)<=(n:U):=by omega);(have s:(n:U)<=(d:U):=by omega);go_simp
def XK(A c:M)(fk:A<18446744073709551616)(gj:c<18446744073709551616)(h:bY a b g)(hn:y g.eP<=1000000000000)(gE:Af g P (((g.eP.take<|A% (y g.eP+1)).map (·.2)).foldl kP g.sm)):cY bA 9 #[aD b,aG A,aG c] a λm w'=>X4 a w' b c g P m:=by
 obtain⟨k,hk⟩:∃k,A% (y g.eP+1)=k:=⟨_,rfl⟩;rw[hk]at gE;have gb:k<=y g.eP:=by have:=wK A (show 0<y g.eP+1 by omega);omega
 have cT:b≠g.sb:=h.safe.tag h.gG;have ey:=@rW bA;obtain⟨mx,mc,E⟩:=aC h.steps;have cM:=cellAt h.gG 2 rfl;rw[E]at cM;have u1:IntKind.i64.wrap ((y g.eP:U)+1)=(y g.eP:U)+1:=by rw[bP];omega
 have u2:IntKind.u64.wrap ((y g.eP:U)+1)=(y g.eP:U)+1:=by rw[eZ];omega
 have u3:((y g.eP:U)+1==0)=bw:=by rw[oT];omega
 have u4:(A:U).tmod ((y g.eP:U)+1)=(k:U):=by rw[<-hk,tY<|by omega];simp
 have u5:IntKind.i64.wrap (k:U)=(k:U):=by rw[bP];omega
 have u6:IntKind.u64.wrap (k:U)=(k:U):=by rw[eZ];omega
 have ex:y g.eP<=mc:=by rcases h.steps.2 with⟨m,e0⟩|⟨ei,cv,au,m,_,_,dr,_⟩;omega;grind
 have av:∀W,Sem.run bA (Instr.sliceAt 61 (I mx (y g.eP) mc) none (H<|aq k) none) W=.ok (I mx k mc) W:=by intro W;rcases h.steps.2 with⟨m,e0⟩|⟨ei,cv,au,m,_,_,dr,_⟩;(.rw[E]at m;injection m with e1 e2 e3;(obtain rfl:k=0:=by omega);subst e1 e3;rw[e2];go_simp);rw[E]at m;cases m;(have d:(0:U)<=(k:U):=by omega);(have e:(k:U)<=(mc:U):=by omega);go_simp
 have aa:∀wr,Z (λk=>k=g.sb) a wr->aW wr (R b 1)=H (.map<|H g.sb)/\iW wr b g.nb g.sb g.mv g.fx:=by intro wr r;have d:iW wr b g.nb g.sb g.mv g.fx:=(r.block b (ak h.gG) cT).trans h.gG;exact⟨by rw[ct d];rfl,d⟩
 have bT:∀(wr:Y)(K:M)(p:K<y g.eP)(aU:eU),Z (λk=>k=g.sb) a wr->gv wr g.sb aU->cY bA 20 #[.map<|H g.sb,g.eP[K].1] wr λm w'=>m=aN (dA #[])/\gv w' g.sb (kP aU g.eP[K].2)/\wr.grownBy w' (H g.sb):=by intro wr K p aU r hm;have d:=(h.each g.eP[K]<|ar p).aj r (λk m hk=>by obtain⟨au,f,e⟩:=(h.each g.eP[K]<|ar p).2.2 k m;exact h.safe.tag e hk);exact Df aU g.eP[K].2 hm d.1 (by have:=d.2.1;omega)
 have bt:∀K(p:K<y g.eP)wr,Z (λk=>k=g.sb) a wr->∃ei,mx=H (R ei 0)/\aW wr (R ei K)=H g.eP[K].1:=by intro K p wr r;rcases h.steps.2 with⟨m,e0⟩|⟨ei,cv,au,m,_,hg,dr,_⟩;omega;have e:=m;rw[E]at e;injection e with e1 e2 e3;refine⟨ei,e1,r.cell ?_ (h.Bh (by rw[m];rfl)).1<|ak hg⟩;have d:=h.steps;rw[m]at d;have:=World.ownsRow.cellAt d K (by omega);rw[this];simp[p]
 have cn:=X h.safe;have cc:=X aa;have co:=X bT;have N:=X bt;have HD:=X h;have HL:=X gE;go_in
 go_wp2;go_loopw [29] (λaF wr=>∃K:M,K<=k/\aF=aq K/\Z (λk=>k=g.sb) a wr/\gv wr g.sb (((g.eP.take K).map (·.2)).foldl kP g.sm)) (λaF _=>k-(intOf aF).toNat)
 case atStart=>exact⟨0,bK _,rfl,Z.refl _ _,J cn⟩
 case round=>
  obtain⟨K,eA,rfl,r,hm⟩:=hrel;obtain⟨aU,hD⟩:∃aU,((g.eP.take K).map (·.2)).foldl kP g.sm=aU:=⟨_,rfl⟩;rw[hD]at hm;have bq:=X hD;obtain⟨es,n⟩:=cc wr r;have HT:=X r;have HM:=X hm;by_cases p:K<k
  .have d:K<y g.eP:=by omega
   obtain⟨ei,j,bu⟩:=N K d wr r;subst j;have l:=X<|co wr K d aU r hm;clear r hm n;go_wp2_with(first
    |(go_at_call 20;refine l.mono ?_;rintro m w2⟨rfl,e,ad⟩;have i:=X e;have f:=X ad;clear e ad))
   go_roundw;case rel=>exact⟨K+1,by omega,by go_num,HT.trans (fo f)<|λha m=>.inl m,by rw[ah d,aE,gd,J bq];exact i⟩
   case measure=>simp[intOf];omega
  .obtain rfl:K=k:=by omega
   have hq:=J bq;have ap:=X (show Af g P aU by rw[<-hq];exact J HL);have eu:=ak n;have j:=n;rw[E]at j;have c0:=cellAt j 0 rfl;have c2:=cellAt j 2 rfl;have c4:=cellAt j 4 rfl;have c5:=cellAt j 5 rfl;have f0:=cQ (i:=0) n;have f2:=cQ (i:=2) n;have f4:=cQ (i:=4) n;have f5:=cQ (i:=5) n;obtain⟨W1,B⟩:∃W1,dd (cH (cH (cH (cH wr (R b 0)<|.map<|H<|z<|G wr) (R b 2) az) (R b 4)<|aq 0) (R b 5)<|aq 0) (.map #[] 0)=W1:=⟨_,rfl⟩;have ca:Z (λk=>k=b) wr W1:=by
    rw[<-B];exact((((fy wr b 0 _).setCell b 2 _<|.inl rfl).setCell b 4 _<|.inl rfl).setCell b 5 _<|.inl rfl).alloc _
   have ff:z (G W1)=z (G wr)+1:=by rw[<-B];simp
   have ac:iW W1 b (z<|G wr) g.sb az {g.fx with wt:=0,bd:=0}:=by
    unfold iW;rw[<-B];exact(gq _ (by simp;omega)).trans<|(aJ<|aJ<|aJ<|aJ n).trans rfl
   have al:gv W1 (z<|G wr) []:=⟨#[],0,by rw[<-B];exact aK _ (by simp),rfl,qS 0⟩;have x:gv W1 g.sb aU:=hm.aj ca<|λm=>cT m.symm;have fl:=(J HD).safe.lt;have ed:=r.size;have cb:Z (λk=>k=b\/k=g.sb) a W1:=(r.mono (T:=λk=>k=b\/k=g.sb)<|by simp).trans ca (by simp);have bo:=(J ap).start (J HD) cb ac al x (by omega) ed;have cN:aW W1 (R b 1)=H (.map<|H g.sb):=by rw[ct ac];rfl
   have bn:=(J ap).nm;rw[<-bn]at x;have cr:=X B;obtain⟨cm,u,bf⟩:=dF x bo cb;clear HL hq bq hm N co cc av p ac al x bo cb B r ca n j cN u1 u2 u3 u4 u5 u6 cM E ex cn bn;go_wp2_with(first
    |(at_range;rw[J cr];refine rL _ rfl _ 60 rfl 9 85 underlying60 g.sb _ rfl (J cm) ?_;intro w0 bl dm fd;have br:=X bl;have Q:=X dm;clear bl dm))
   go_frame
   obtain⟨L,ea⟩:∃L,z (G W1)=L:=⟨_,rfl⟩;rw[ea]at br|-;have bg:bY w0 b (KJ g (z<|G wr) aU [] P):=(J u).1.aj (Z.ep (S:=aw) (J Q)<|by simp)<|λ_ _=>id;have bh:∀k,(KJ g (z<|G wr) aU [] P).aL b k->(g.aL b k\/z (G a)<=k)/\k≠L:=λk q=>⟨(J u).2 k q,by have:=(J u).1.lt k q;omega⟩;have cE:Z (g.aL b) a w0:=((J bf).mono (T:=g.aL b)<|λk q=>.inl<|q.elim .inl<|λm=>.inr<|.inr<|.inl m).cz (Z.ep (S:=aw) (J Q)<|by simp);have gg:z (G a)<=L:=by omega
   have gi:g.sb≠z (G wr):=by omega
   have eb:L<z (G w0):=by omega
   obtain⟨aV,bb,cp⟩:=dF bg bh cE;clear bg bh cE u bf Q fd ea ff cr cm ed eu c0 c2 c4 c5 f0 f2 f4 f5 es HT HM ey eA;generalize z (G wr)=s at*;go_loopw [9] (λ_ d=>∃(ax t:ci aX),(vw ax++t.map (vL c)).Perm (P.map<|vL c)/\(∀f∈t,f∈P)/\bY d b (KJ g s aU ax t)/\(∀k,(KJ g s aU ax t).aL b k->(g.aL b k\/z (G a)<=k)/\k≠L)/\pZ d g.sb L (P.map aX.nm) (t.map aX.nm)/\Z (g.aL b) a d/\L<z (G d)) (λ_ d=>d.rangeLeft g.sb L)
   case atStart=>exact⟨[],P,jx _,λ_ q=>q,J aV,J bb,J br,J cp,eb⟩
   case round=>
    obtain⟨ax,t,hp,hR,cS,dk,dn,r,eb⟩:=hrel;obtain⟨HP,HR,ch,O,cj,HT⟩:=lw hp hR cS dk dn r;clear hp hR cS dk dn r aV bb br cp;go_wp2_with(first
     |(at_next;refine sZ _ rfl _ rfl g.sb L _ _ rfl (J cj) ?_ ?_))
    .intro d;obtain rfl:t=[]:=by simpa using d
     go_wp2;go_end0;exact⟨rfl,KJ g s aU ax [],⟨J ch,J HT,λk q=>(J O k q).1,⟨λ_=>⟨by simp[KJ],by simp[KJ]⟩,rfl,λ_=>rfl,rfl⟩⟩,(by show(vw ax).Perm _;simpa using J HP),rfl,rfl⟩
    .intro gs pk pv fs w2 ec bm ad fe fz;obtain⟨A',f,ef,rfl,rfl,dT,rfl⟩:=BB ec;simp only[aX.nm,jr,io]at dT;obtain⟨rfl,rfl⟩:=dT;have t2:Z (λk=>k=L) wr w2:=fo ad;have o:=(J ch).aj t2<|λk hk m=>((J O) k hk).2 m;have db:f∈P:=(J HR) f (by simp);have e:mi w2 f:=o.qa f (show f∈A'++f::ef by simp);have bp:=(J ap).total (J HD) (J HP) db;have bk:eU.get (ax.map aX.nm) f.name=none:=by
      refine Eh<|λq=>?_;have fb:=((J HP).map (·.1)).nodup_iff.2 (by have:=(J ap).nodup;simpa[vL,kC]using this);have e1:(vw ax++(A'++f::ef).map (vL c)).map (·.1)=ax.map aX.name++(A'++f::ef).map aX.name:=by simp[vw,vL,kC]
      rw[e1]at fb;grind
     have an:gv w2 s (ax.map aX.nm):=o.now;have d:iW w2 b s g.sb az {g.fx with wt:=0,bd:=0}:=o.gG;have bu:=ZB (tailqq:=c) e.2.2.2.1 e.2.2.2.2.1;have fx:=e.2.2.2.2.2;obtain⟨dx,dc,D⟩:=aC e.2.1;have bx:=e.2.1;rw[D]at bx;obtain⟨bv,ev,av⟩:=XJ (n:=Le c f) bx bu;obtain⟨sf,ao⟩:∃sf:M,f.safe=sf:=⟨f.safe.toNat,by have:=e.2.2.2.1;omega⟩;obtain⟨w,C⟩:∃w,Le c f=w:=⟨_,rfl⟩;obtain⟨lf,bE⟩:∃lf,c% (y f.bytes-sf+1)=lf:=⟨_,rfl⟩;have fn:sf<=y f.bytes:=by have:=e.2.2.2.2.1;omega
     have aa:w=sf+lf:=by rw[<-C,<-bE];unfold Le;rw[ao];rfl
     have i:=e.1;rw[D,ao]at i;rw[C]at bu bv av;have ej:=X e;obtain⟨cl,bs,ba,cq,ck,cd⟩:=lw (And.intro bp bk) an o t2 bm bv;have y0:=cellAt i 0 rfl;have y1:=cellAt i 1 rfl;have z0:=cQ (i:=0) i;have z1:=cQ (i:=1) i;have x0:=cellAt d 0 rfl;have gf:f.jM≠b:=iQ i d (by decide);have ds:lf<y f.bytes-sf+1:=by rw[<-bE];grind
     have v1:IntKind.i64.wrap ((y f.bytes:U)-(sf:U))=(y f.bytes:U)-sf:=by rw[bP];omega
     have v2:IntKind.i64.wrap ((y f.bytes:U)-(sf:U)+1)=(y f.bytes:U)-sf+1:=by rw[bP];omega
     have v3:IntKind.u64.wrap ((y f.bytes:U)-(sf:U)+1)=(y f.bytes:U)-sf+1:=by rw[eZ];omega
     have v4:((y f.bytes:U)-(sf:U)+1==0)=bw:=by rw[oT];omega
     have v5:(c:U).tmod ((y f.bytes:U)-(sf:U)+1)=(lf:U):=by
      grind
     have gt:IntKind.i64.wrap (lf:U)=(lf:U):=by rw[bP];omega
     have gx:IntKind.u64.wrap (lf:U)=(lf:U):=by rw[eZ];omega
     have v6:IntKind.i64.wrap ((sf:U)+(lf:U))=(w:U):=by rw[bP];omega
     have HF:=X<|And.intro C (And.intro ao (And.intro D aa));clear aa C ao D e o t2 bm bv bp bk an bx ec ad fe bE ev ds db;go_wp2_with fail
     go_quiet(fail)
     rename_i nq;go_wp2_with fail
     rename_i KK cB;obtain⟨l,hU⟩:∃l,w2.drewN nq=l:=⟨_,rfl⟩;have tU:Z aw w2 l:=by rw[<-hU];exact jl _ _ _
     have eg:=(tU.block f.jM (ak i) id).trans i;rw[hU];have W:aW l.drew (R f.jM 0)=H (I dx (y f.bytes) dc)/\aW l.drew (R f.jM 1)=H (aq sf)/\l.drew.frozen? (R f.jM 0)=bw:=⟨cellAt eg 0 rfl,cellAt eg 1 rfl,cQ (i:=0) eg⟩;refine eH (λV=>aW V (R f.jM 0)=H (I dx (y f.bytes) dc)/\aW V (R f.jM 1)=H (aq sf)/\V.frozen? (R f.jM 0)=bw) 14 (by kernel_rfl) ?_;refine fw 0 ?_;iterate 11 (refine iS (v:=?_) W rfl (by kernel_rfl) lQ rfl ?_ ?_;rotate_left;(focus(rintro V⟨z0,z1,z2⟩;go_simp;try rfl));simp only[Act.put,ig,rA,Nat.reduceAdd])
     refine iS (v:=I dx w dc) W rfl (by kernel_rfl) lQ rfl ?_ ?_
     .rintro V⟨z0,z1,z2⟩;show(execOp _ _).run _ _=_;simp[execOp,Act.eval,v6,av,Result.andThen]
     simp only[Act.put,ig,rA,Nat.reduceAdd];apply iG;refine bG (i:=12) rfl rfl (by kernel_rfl) ?_;intro fu cx;go_simp;refine cx _ _ (λ_=>W) ?_;refine bG (i:=13) rfl rfl (by kernel_rfl) ?_;intro fv bi;go_simp;refine bi _ _ (λ_=>W) ?_;clear bi;refine bG (i:=14) rfl rfl (by kernel_rfl) ?_;intro K1 cw;go_simp;refine cw _ _ IY ?_;try simp only[Act.put,ig,rA]
     clear cw W;refine fm (by kernel_rfl) ?_ _;show KK _ _;apply cB;clear cB;obtain⟨cs,hV⟩:∃cs,(cH l (R f.jM 0)<|I dx w dc).drew=cs:=⟨_,rfl⟩;have tV:Z (λk=>k=f.jM) l cs:=by rw[<-hV];exact((fy l f.jM 0 _)).cz<|dh aw _
     have cu:cs.heap[f.jM]?=H (ay #[I dx w dc,aq sf] 88 (0,0)):=by rw[<-hV];exact(aJ eg).trans rfl
     rw[hV];have eB:f.jM≠s:=(J bs).tag i;have gn:=tU.size;have eq:cs.heap[b]?=H (ay #[.map<|H s,.map<|H g.sb,az,aq g.fx.room,aq 0,aq 0,aq g.fx.reads,aq g.fx.Nd] 63 (0,0)):=(tV.block b (by have:=ak d;omega)<|by omega).trans<|(tU.block b (ak d) id).trans d;have mN:∀aF fb,gv (cs.setCell (R f.jM aF) fb) s (ax.map aX.nm):=λaF fb=>
      ((((J bs).aj tU id).aj tV<|by omega).aj (fy cs f.jM aF fb)<|by omega)
     have y0:=cellAt cu 0 rfl;have y1:=cellAt cu 1 rfl;have z1:=cQ (i:=1) cu;have x0:=cellAt eq 0 rfl;have em:=X mN;go_wp2_with(first
      |(at_mapUpdate;go_loud(refine ym _ rfl _ _ _ 60 rfl 9 85 underlying60 underlying9 s _ rfl (em 1 (aq w)) f.name _ rfl rfl ?_;intro w5 bL ew;have el:=X bL;have ek:=X ew)))
     obtain⟨C,ao,D,aa⟩:=J HF;have bL:gv w5 s (ax.map aX.nm++[f.nm]):=by
      have:=J el;rw[wW (J cl).2]at this;exact this
     have tS:Z (λk=>k=f.jM) cs (cs.setCell (R f.jM 1)<|aq w):=fy cs f.jM 1 _;have t5:Z (λk=>k=s) (cs.setCell (R f.jM 1)<|aq w) w5:=fo ek;have F:Z (λk=>k=f.jM\/k=s) w2 w5:=(((tU.mono (T:=λk=>k=f.jM\/k=s) cJ).trans tV<|by simp).trans tS<|by simp).trans t5 (by simp);have er:mi w5 (f.cut c<|I dx w dc):=by
      unfold mi aX.cut;simp only;rw[C];refine⟨?_,?_,λha hx=>(J ej).2.2.1 ha<|gC hx,by omega,by rw[dp];omega,by rw[dp];omega⟩
      .exact(t5.block f.jM (by rw[im];exact ak cu)<|λm=>eB m).trans<|(aJ cu).trans rfl
      .refine F.own (J cd)<|λk hk=>?_;obtain⟨au,hc⟩:=eT (J cd) hk;rintro(m|m)
       .grind
       .exact(J bs).tag hc m
     have et:=(J ba).cut (R1:=A') (R2:=ef) rfl rfl F bL er (λk m=>by rw[D];cases dx with|none=>cases m|some hb=>exact m) (J cl).1;have fr:=F.size;have gk:=(J cq).size;have gr:=(J HT).size;have dv:(KJ g s aU ax<|A'++f::ef).aL b s:=.inr<|.inl rfl;have df:(KJ g s aU ax<|A'++f::ef).aL b f.jM:=.inr<|.inr<|.inr<|.inr<|.inr ⟨f,DK.E9 (show f∈A'++f::ef by simp),.inl rfl⟩;have fL:f.jM≠g.sb:=(J ba).safe.tag i;have bc:=X<|(J ck).kept (F.block g.sb (by omega)<|by omega)<|F.block L (by omega)<|λq=>q.elim (λm=>(J O _ df).2 m.symm)<|λm=>(J O _ dv).2 m.symm;have eo:=X ((((J HT).trans (J cq)<|by grind)).trans F (λk q=>by
      grind[J]))
     have ce:=X et;have gc:=(J bc).left_eq;have ge:=(J cj).left_eq;have hrel:(vw (ax++[f.cut c<|I dx w dc])++(A'++ef).map (vL c)).Perm (P.map<|vL c):=by
      refine List.Perm.trans ?_<|J HP;have e1:vw (ax++[f.cut c<|I dx w dc])=vw ax++[vL c f]:=by simp[vw,aX.cut,vL]
      rw[e1,bj];refine nC _ ?_;simp only[aE,bR,cR,du];exact rf.symm
     have en:=X hrel;go_roundw;case rel=>exact⟨_,_,_,_,_,_,_,_,_,_,_,_,_,_,_,_,_,_,_,_,_,_,_,_,_,_,_,_,_,_,_,_,_,_,_,_,_,_,_,_,_,_,_,_,_,_,_,_,_,_,_,⟨ax++[f.cut c<|I dx w dc],A'++ef,J en,λei hg=>J HR ei (by grind),(J ce).1,λk q=>J O k<|(J ce).2 k q,by simpa using J bc,J eo,by omega⟩,rfl⟩
     grind
theorem tD(a:ci aX)(f:aX):(mL a f).Perm (f::jg a f.name):=by
 induction a with
 |nil=>exact jx _
 |cons g r b=>
  by_cases e:g.name=f.name
  .rw[mL,di e,jg,di e]
  .rw[mL,dt e,jg,dt e];exact(b.cons g).trans<|List.Perm.swap f g _
theorem nB(h:dV P r=H O):P.Perm (O::jg P r):=by
 induction P with
 |nil=>cases h
 |cons g b a=>
  by_cases e:g.name=r
  .rw[dV,di e]at h;cases h;rw[jg,di e]
  .rw[dV,dt e]at h;rw[jg,dt e];exact((a h).cons g).trans<|List.Perm.swap O g _
def Dt(h:dV P r=none):jg P r=P:=by
 induction P with
 |nil=>rfl
 |cons g b a=>
  by_cases e:g.name=r
  .rw[dV,di e]at h;cases h
  .rw[dV,dt e]at h;rw[jg,dt e,a h]
def fF(K:DK):ci M:=(K.files++K.nh).map aX.jM
def iX(K:DK)(k:M):eU:=((K.eP.take k).map (·.2)).foldl kP K.sm
theorem Ma{u:nU}(r:xH u g x)(p:∀m n,u=.rn m n->m≠n):∃h,(fF x).Perm (fF g++h)/\∀q,u=.cr q->∃s e,h=[s]/\x.files=g.files++[⟨q,s,az,[],0⟩]/\x.eP=g.eP++[(e,[(q,H s)])]:=by
 rcases u with q|⟨q,v⟩|q|⟨m,n⟩|q|_
 .obtain⟨s,e,a,b,i,_⟩:=r;obtain⟨_,c⟩:=dD b;refine⟨[s],?_,λt h=>?_⟩
  .unfold fF;rw[a,c];grind
  grind
 .obtain⟨F,j,d,a,b,i⟩:=r;have f:=(dq d).1;subst f;obtain⟨_,c⟩:=dD b;refine⟨[],?_,λt h=>by cases h⟩;unfold fF;rw[a,c,dz,aE,aE];refine qo _ ?_;have k:=(tD g.files {F with data:=j,bytes:=F.bytes++v}).map aX.jM;have l:=(nB d).map aX.jM;grind
 .obtain⟨F,d,a,b,i⟩:=r;have f:=(dq d).1;subst f;obtain⟨_,c⟩:=dD b;refine⟨[],?_,λt h=>by cases h⟩;unfold fF;rw[a,c,dz,aE,aE];refine qo _ ?_;have k:=(tD g.files {F with safe:=y F.bytes}).map aX.jM;have l:=(nB d).map aX.jM;grind
 .obtain⟨F,e,d,a,b,i⟩:=r;obtain⟨_,c⟩:=dD b;refine⟨[],?_,λt h=>by cases h⟩;unfold fF;rw[a,c,dz];have j:=p m n rfl;have k:=(tD (jg g.files m) {F with name:=n}).map aX.jM;have l:=(nB d).map aX.jM;simp only[bR]at k l;rw[aE,aE,aE];cases hr:dV g.files n with
  |none=>
   have w:jg (jg g.files m) n=jg g.files m:=Dt (by rw[qJ j];exact hr);rw[w]at k;grind
  |some o=>
   have w:=(nB (show dV (jg g.files m) n=H o by rw[qJ j];exact hr)).map aX.jM;grind
 .obtain⟨F,e,d,a,b,i⟩:=r;obtain⟨_,c⟩:=dD b;refine⟨[],?_,λt h=>by cases h⟩;unfold fF;rw[a,c,dz];have l:=(nB d);grind
 .obtain⟨a,b,i⟩:=r;obtain⟨_,c⟩:=dD b;refine⟨[],?_,λt h=>by cases h⟩;unfold fF;rw[a,c,dz]
theorem wg{o:nU}(h:xH o g x)(a:∀b c,o=.rn b c->b≠c)(d:(fF x).Nodup):(fF g).Nodup:=by
 grind[Ma,nodup_append]
def oM{l:ci nU}(e:∀f g,nU.rn f g∈l->f≠g):∀{K a:DK},jT l K a->(fF a).Nodup->(fF K).Nodup:=by
 induction l with
 |nil=>
  rintro K a⟨c,d,h⟩b;unfold fF at*;rw[c,(dD d).2]at b;exact b
 |cons o l i=>
  rintro K a⟨h,c,d⟩b;grind[wg,mem_cons_of_mem]
def bY.fF(h:bY a c g):(fF g).Nodup:=by
 have f:(g.files++g.nh).Pairwise js:=aZ.2 ⟨h.apart,h.EF,λi d j e=>h.wD j e i d⟩;exact gW.2<|f.imp<|λq=>q.1
structure qN(K:DK):Prop where
 now:iX K (y K.eP)=K.files.map aX.nm
 each:∀k,k<=y K.eP->((iX K k).map (·.1)).Nodup/\((iX K k).map (·.2)).Nodup/\∀p∈iX K k,∃b∈fF K,p.2=jr (H b)
def lT(a:x.sm=g.sm)(b:x.eP=g.eP)(k:M):iX x k=iX g k:=by
 unfold iX;rw[a,b]
def Fm{c:ab×ci Mv}(a:x.sm=g.sm)(b:x.eP=g.eP++[c]):(∀k,k<=y g.eP->iX x k=iX g k)/\iX x (y g.eP+1)=kP (iX g<|y g.eP) c.2:=by
 unfold iX;rw[a,b];grind
def qN.names(h:qN g):(g.files.map aX.name).Nodup:=by
 have:=(h.each _<|ag _).1;rw[h.now,ee]at this;exact this
theorem qN.Kh(d:(g.files.map aX.name).Nodup)(a:(fF g).Nodup):((g.files.map aX.nm).map (·.1)).Nodup/\((g.files.map aX.nm).map (·.2)).Nodup/\∀p∈g.files.map aX.nm,∃f∈fF g,p.2=jr (H f):=by
 refine⟨by rw[ee];exact d,?_,λp e=>?_⟩;rw[ee];(have b:(g.files.map aX.jM).Nodup:=by unfold fF at a;rw[aE]at a;grind);have c:=gW.1 b;refine gW.2<|c.imp<|λ{i f}q h=>q ?_;simpa[aX.nm,jr]using h;obtain⟨c,b,rfl⟩:=bH.1 e;exact⟨c.jM,bH.2 ⟨c,ib _ b,rfl⟩,rfl⟩
def qN.grow{h:ab×ci Mv}(j:qN g)(e:x.sm=g.sm)(a:x.eP=g.eP++[h])(l:kP (g.files.map aX.nm) h.2=x.files.map aX.nm)(o:(x.files.map aX.name).Nodup)(m:(fF x).Nodup)(p:∀f∈fF g,f∈fF x):qN x:=by
 obtain⟨c,i⟩:=Fm e a;have d:iX x (y x.eP)=x.files.map aX.nm:=by rw[a,af];grind[qN.now]
 refine⟨d,λk n=>?_⟩;by_cases b:k<=y g.eP;rw[c k b];obtain⟨q,f,r⟩:=j.each k b;grind
 grind[length_append,qN.Kh]
def qN.still(h:qN g)(c:x.sm=g.sm)(a:x.eP=g.eP)(d:x.files.map aX.nm=g.files.map aX.nm)(i:∀e∈fF g,e∈fF x):qN x:=by
 have f:=lT c a;refine⟨by rw[f,a,h.now,d],λk b=>?_⟩;rw[f k];rw[a]at b;obtain⟨j,e,l⟩:=h.each k b;grind
theorem yV(h:dV P r=none):r∉P.map aX.name:=by
 induction P with
 |nil=>simp
 |cons g b a=>
  by_cases e:g.name=r
  .rw[dV,di e]at h;cases h
  .rw[dV,dt e]at h;rw[bR,bM,not_or];grind
theorem Jw(h:(P.map aX.name).Nodup):r∉(jg P r).map aX.name:=by
 cases hg:dV P r with
 |none=>
  rw[Dt hg];exact yV hg
 |some b=>
  have a:=((nB hg).map aX.name).nodup_iff.1 h;rw[bR,gQ,(dq hg).1]at a;exact a.1
def zn{F Gqq:aX}(h:dV P F.name=H Gqq)(a:F.jM=Gqq.jM):(mL P F).map aX.nm=P.map aX.nm:=by
 rw[Bu,a,MI (dq h).2.2]
def qN.step{o:nU}(m:qN g)(i:xH o g x)(j:∀r l,o=.rn r l->r≠l)(n:(fF x).Nodup):qN x:=by
 obtain⟨t,w,_⟩:=Ma i j;have a:∀l∈fF g,l∈fF x:=(by grind);have s:=m.names;rcases o with q|⟨q,u⟩|q|⟨r,l⟩|q|_
 .obtain⟨v,k,c,d,b,p⟩:=i;refine m.grow (dD d).1 b ?_ ?_ n a
  .show kP _ [(q,H v)]=_;rw[xu,c];simp only[IZ,BR<|tH p];simp[aX.nm]
  grind[nodup_append,yV]
 .obtain⟨F,p,e,c,d,b⟩:=i;have h:=(dq e).1;subst h;exact m.still (dD d).1 b (by rw[c];exact zn e rfl) a
 .obtain⟨F,e,c,d,b⟩:=i;have h:=(dq e).1;subst h;exact m.still (dD d).1 b (by rw[c];exact zn e rfl) a
 .obtain⟨F,k,e,c,d,b⟩:=i;have p:=j r l rfl;refine m.grow (dD d).1 b ?_ ?_ n a
  .rw[c,<-Jv (f:={F with name:=l}) (λt=>p t.symm),Cd,Bu];rfl
  grind[tD,nodup_cons,lR,Jw]
 .obtain⟨F,k,e,c,d,b⟩:=i;refine m.grow (dD d).1 b ?_ ?_ n a
  .show kP _ [(q,none)]=_;rw[xu,c,Cd];rfl
  grind[lR]
 .obtain⟨c,d,b⟩:=i;have p:iX x 0=x.files.map aX.nm:=by
   have:=m.now;unfold iX at*;rw[aY]at this;rw[b,c,(dD d).1];exact this
  refine⟨by rw[b];exact p,λA v=>?_⟩;grind[qN.Kh]
def qN.ops{l:ci nU}(e:∀h f,nU.rn h f∈l->h≠f):∀{K a:DK},qN K->jT l K a->(fF a).Nodup->qN a:=by
 induction l with
 |nil=>
  rintro K a i⟨c,b,g⟩d;exact i.still (dD b).1 g (by rw[c]) (λf q=>by unfold fF at*;rw[c,(dD b).2];exact q)
 |cons o l j=>
  rintro K a i⟨k,c,b⟩d;have g:=λh f q=>e h f<|dQ _ q;exact j g (i.step c (by grind)<|oM g b d) b d
def qN.start{K:DK}(a:K.sm=K.files.map aX.nm)(b:K.eP=[])(d:(K.files.map aX.name).Nodup)(c:(fF K).Nodup):qN K:=by
 have e:∀k,iX K k=K.files.map aX.nm:=λk=>by unfold iX;rw[b,a];simp
 exact⟨e _,λk _=>by rw[e];exact qN.Kh d c⟩
def Ve(k:P.Pairwise js):∀f∈P,∀g∈P,f.jM≠g.jM->js f g:=by
 induction P with
 |nil=>simp
 |cons x r m=>
  obtain⟨c,l⟩:=bz.1 k;intro f e g h i;rcases bM.1 e with j|a<;>rcases bM.1 h with d|b
  .grind
  .rw[j];exact c g b
  .rw[d];exact(c f a).symm
  grind
def Je{fs:ci aX}:∀(D:eU),(∀p∈D,∃c∈fs.map aX.jM,p.2=jr (H c))->∃L:ci aX,L.map aX.nm=D/\∀f∈L,∃g∈fs,f={g with name:=f.name}
 |[],_=>⟨[],rfl,by simp⟩
 |p::D,h=>by
  obtain⟨L,a,d⟩:=Je D (λq b=>h q<|by simp[b]);obtain⟨c,b,e⟩:=h p (by simp);obtain⟨g,j,rfl⟩:=bH.1 b;refine⟨{g with name:=p.1}::L,?_,λf i=>?_⟩
  .rw[bR,a];show(p.1,jr<|H g.jM)::D=_;rw[<-e]
  grind
def qN.link(D:qN x)(f:bY a b x)(v:c<=y x.eP)(E:y (iX x c)<=4000000):∃L,Af x L (iX x c)/\∀n∈L,∃g∈x.files++x.nh,n={g with name:=n.name}:=by
 obtain⟨l,m,r⟩:=D.each c v;obtain⟨L,d,e⟩:=Je (fs:=x.files++x.nh) (iX x c) r;refine⟨L,⟨d,λn p=>?_,?_,?_,?_⟩,e⟩;grind
 have w:(x.files++x.nh).Pairwise js:=aZ.2 ⟨f.apart,f.EF,λn p g h=>f.wD g h n p⟩;rw[<-d,ee]at m;have s:=gW.1 m;refine List.Pairwise.imp_of_mem (λ{A B}t u q=>?_) s;obtain⟨g,h,C⟩:=e A t;obtain⟨o,i,k⟩:=e B u;have j:g.jM≠o.jM:=λc=>q (by show jr (H A.jM)=jr (H B.jM);rw[C,k];grind);have:=Ve w g h o i j;rw[C,k];exact this;rw[<-d,ee]at l;exact l;grind
structure rV.Can(k:rV):Prop where
 size:k.size<=512
 c1:1<=k.count
 c2:k.count<=100
 f1:1<=k.first.size
 f8:k.first.size<=8
 l1:1<=k.last.size
 l8:k.last.size<=8
 le:jj k.last k.first=bw
def Qx:(prog.info? 320).map (λi=>(i.zero,i.size,i.bytes))=H (H<|dL #[aq 0,aq 0,aq 0,am ⟨#[]⟩,am ⟨#[]⟩],5,56):=by kernel_rfl
def UY(x c d u v:ab)(t:TypeId)(e:b=z (G a)):∀j q,[x,c,d,u,v][j]?=H q->aW (dd a<|ay #[x,c,d,u,v] t) (((R b 0):Addr).add j)=H q:=by
 intro j q f;subst e;rw[dJ];simp_all
def Vb(a:mM)(k:rV):eS (a++[k])=eS a++[aq k.pos,aq k.size,aq k.count,am k.first,am k.last]:=by simp[eS,rV.cells]
def Ku(a b:ae):(Op.bytesLess a.toList b.toList||a.toList==b.toList)=!jj b a:=by rw[<-RY];simp
def Zn(t:TypeId)(a b:ae):binOp .leq t (am a) (am b)=pure (aM<|Op.bytesLess a.toList b.toList||a.toList==b.toList):=by simp[binOp,Op.stringOp]
def Ji(s:ae)(w:Y)(b:1<=s.size)(c:s.size<=8):cY bA 70 #[am s] w λe a=>e=aN (aM cf)/\a=w:=by
 grind[rC]
def Xe(k:rV)(w:Y)(h:k.Can):cY bA 188 #[k.value] w λo p=>o=aN (aM cf)/\p=dd w (ay #[aq k.pos,aq k.size,aq k.count,am k.first,am k.last] 320):=by
 obtain⟨pos,j,b,first,a⟩:=k;have l:=h.size;have m:=h.c1;have n:=h.c2;have e:=h.f1;have f:=h.f8;have g:=h.l1;have i:=h.l8;have q:(Op.bytesLess first.toList a.toList||first.toList==a.toList)=cf:=by rw[Ku];simp only[h.le];rfl
 simp only at l m n e f g i;unfold rV.value;simp only;go_in
 go_wp2_with fail
 apply(Ji first _ e f).mono;rintro o d⟨rfl,c⟩;subst d;go_wp2_with fail
 apply(Ji a _ g i).mono;rintro o d⟨rfl,c⟩;subst d;go_wp2;go_ret;simp_all
def ug(a:mM):M:=(a.map rV.size).sum
def sN(a:mM):M:=(a.map rV.count).sum
def jF(a:mM):ae:=(a.getLast?.map rV.last).getD ⟨#[]⟩
structure OS(ks:mM):Prop where
 ne:1<=y ks
 len:y ks<=100
 can:∀k∈ks,k.Can
 Oq:sN ks<=100
 pos:∀n(h:n<y ks),ks[n].pos=ug (ks.take n)
 asc:∀n(h:n<y ks),jj (jF<|ks.take n) ks[n].first=cf
def Po(a:mM)(k:rV):ug (a++[k])=ug a+k.size:=by simp[ug]
def Dw(a:mM)(k:rV):sN (a++[k])=sN a+k.count:=by simp[sN]
def Gr(a:mM)(k:rV):jF (a++[k])=k.last:=by simp[jF]
def Dv(a:mM)(n:M):sN (a.take n)<=sN a:=by
 have h:=bS (λl=>(l.map rV.count).sum)<|bO n a;simp only[aE,ga]at h;unfold sN;omega
def Mf{ks:mM}(h:∀k∈ks,k.Can):ug ks<=512*y ks:=by
 induction ks with
 |nil=>simp[ug]
 |cons k ks b=>
  have a:=(h k<|by simp).size;have c:=b (λj a=>h j<|by simp[a]);unfold ug at*;grind
def rV.Can.fits{k:rV}(h:k.Can):k.Fits:=⟨by have:=h.size;omega,by have:=h.c2;omega,by have:=h.f8;omega,by have:=h.l8;omega⟩
def BP(s:ae)(b:s.size<=255):kr (eL s):=by
 intro x a;unfold eL at a;rcases bM.1 a with rfl|a;omega;exact kr.text s x a
def WZ{k:rV}(h:k.Fits):kr (wy k):=(kr.le 4 _).append<|(kr.le 4 _).append<|(BP _ h.first).append<|BP _ h.last
def KG(h:∀k∈C,k.Fits):kr (C.flatMap wy):=by
 intro x a;obtain⟨k,b,a⟩:=kW.1 a;exact WZ (h k b) x a
structure LD(w0 w:Y)(rb:M)(num cut isz sum:U)(ks:mM)(o:ab)(n:M):Prop where
 own:w.ownsRow (z<|G w0) 320 5 o n (eS<|ks.take n)
 rd:Rd w rb ((ks.drop n).flatMap wy) bw
 box:w.heap[z<|G w0]?=H (ay #[aG num,dI cut,dI isz,dI sum] 178 (0,0))
 aj:Z aw w0 w
 C6:z (G w0)<rb
 xO:∀k,cI o=H k->rb<k
def Fe(dr l K:M)(num:U)(hT:Steps a)(hP:OS C)(hb:Bytes a (bI dr l (y<|fP C) K) (fP C)):cY bA 129 #[bI dr l (y<|fP C) K,dL #[aG num,dI (ug C:M),dI (y (fP C):M),dI<|lJ<|fP C]] a λP w'=>
 ∃b,P=aN (dA #[b,aM cf])/\w'.ownsRow (z<|G a) 320 5 b (y C) (eS C)/\Z aw a w':=by
 have t:∀o∈C,o.Fits:=λo j=>(hP.can o j).fits
 have cx:y (fP C)<=52004:=by
  have h1:=ov t;have b:=hP.len;unfold fP;rw[af,cg];omega
 have bn:0<y (fP C):=by unfold fP;rw[af,cg];omega
 have cT:ug C<=51200:=by have:=Mf hP.can;have:=hP.len;omega
 obtain⟨i0,bm,ca,cb,ce⟩:=dl Qx
 obtain⟨aU,hL⟩:∃aU,y (fP C)=aU:=⟨_,rfl⟩
 obtain⟨aV,hS⟩:∃aV,ug C=aV:=⟨_,rfl⟩
 obtain⟨ch,hN⟩:∃ch,y C=ch:=⟨_,rfl⟩
 rw[hL]at cx bn
 rw[hS]at cT
 rw[hL,hS]
 have e1:IntKind.i64.wrap (aU:U)=aU:=by rw[bP];omega
 have e2:IntKind.i64.wrap (aV:U)=aV:=by rw[bP];omega
 have bx:∀cs,cs.heap=(dd a<|ay #[aG num,dI aV,dI aU,dI<|lJ<|fP C] 178).heap->cY bA 136 #[bI dr l aU K] cs λP w'=>P=aN (dI<|lJ<|fP C)/\w'=cs:=by
  intro cs b;refine tA _ (fP C) cs ((hT.alloc _).of_heap b) ?_ (by omega);rw[<-hL];exact(hb.alloc _).of_heap b
 have dv:dr<z (G a):=hb.lt (by grind) dr rfl
 obtain⟨HB,HT,HP,HF,HL,HS,HN⟩:=zX hb hT hP t hL hS hN
 clear hb hT hP t hL hS hN
 generalize lJ (fP C)=ds at*
 go_in
 go_wp2_with fail
 go_quiet(first|(go_at_call 136;refine Calls.quiet_of_same (bx _ rfl)))
 have L:∃f,(dd a<|ay #[aG num,dI aV,dI aU,dI ds] 178).drewN nq=f/\Z aw a f/\f.heap[z<|G a]?=H (ay #[aG num,dI aV,dI aU,dI ds] 178 (0,0))/\Bytes f (bI dr l aU K) (fP C)/\z (G a)<z (G f):=by
  refine⟨_,rfl,(cO aw a).of_heap rfl,aK _ rfl,?_,by simp⟩;have:=HB.alloc<|ay #[aG num,dI aV,dI aU,dI ds] 178;rw[J HL]at this;exact this.of_heap rfl
 obtain⟨f,L,bL,bq,bh,cd⟩:=L
 rw[L]
 have cM:=lV bh (by intro o j;cases j;grind)
 have cr:=X bL
 have bc:=X bq
 clear L bL bq bh
 go_wp2_with fail
 apply cM.mono
 rintro P w2⟨rfl,V,aF⟩
 subst aF
 have cu:=HP.ne
 have cv:=HP.len
 rw[J HN]at cu cv
 have S:fP C=le 4 (ch:M)++C.flatMap wy:=by unfold fP;rw[J HN]
 have dm:=qu (z<|G f) (ch:M) (C.flatMap wy) _ (S▸V) (KG HF) (by have:=ov HF;rw[J HN]at this;omega) (by omega)<|by omega
 clear V S
 go_wp2_with fail
 apply dm.mono
 rintro P w3⟨rfl,W,au⟩
 have cq:=X W
 have cl:=X au
 have dn:=au.size
 simp at dn
 clear W au
 go_wp2_with(first
  |(at_make;go_loud(refine kG _ rfl _ _ 243 rfl (z (G a)) 320 i0 (.agg #[.int .i64 0,.int .i64 0,.int .i64 0,.string ⟨#[]⟩,.string ⟨#[]⟩]) 5 underlying243 bm ca cb _ _ _ ch rfl rfl (by omega) (by rw[ce];omega) (by unfold maxLen;omega) (by omega) ?_;intro w4 T Q;have co:=X T;have ac:=X Q;clear T Q)))
 have ef:=ac.size
 have hA0:LD a w4 (z<|G f) num aV aU ds C (bI (z<|G w3) 0 0 ch) 0:=by
  have c:Z (λo=>o=z (G f)) f w3:=(cO (λo=>o=z (G f)) f).trans (fo cl)<|λ_ h=>.inl h;have b:Z (λo=>o=z (G f)) f w4:=c.cz (Z.ep (S:=aw) ac<|by simp);refine⟨co,cq.laid ac,(b.block _ (ak bc) (by intro P;omega)).trans bc,cr.trans b (by grind),cd,?_⟩;intro o j;simp[cI]at j;omega
 have cj:=X hA0
 clear hA0
 go_loopw [8,9,10,11,39] (λo p q l i wr=>∃n:M,n<=ch/\i=dI n/\p=aq (ug (C.take n):M)/\q=aq (sN (C.take n):M)/\l=am (jF<|C.take n)/\LD a wr (z<|G f) num aV aU ds C o n) (λ_ _ _ _ i _=>ch-(intOf i).toNat)
 case atStart=>exact⟨0,bK _,rfl,rfl,rfl,rfl,cj⟩
 case round=>
  obtain⟨n,ec,rfl,rfl,rfl,rfl,e⟩:=hrel;have s:=e.own;obtain⟨ox,oc,ho⟩:=aC s;have eb:=e.rd.lt;have eg:=e.aj.size;have ap:=Dv C n;have cw:=HP.Oq;by_cases bp:n<ch
  .have p:n<y C:=by rw[J HN];exact bp
   have g:=HP.can C[n]<|ar p;have B:=HP.pos n p;have x:=HP.asc n p;have k:=e.rd;rw[bJ p,dY]at k;have A:kr ((C.drop<|n+1).flatMap wy):=KG<|λo j=>HF o<|gD j;have cE:y ((C.drop<|n+1).flatMap wy)<=52000:=by
    have h1:=ov (ks:=C.drop<|n+1)<|λo j=>HF o<|gD j;grind[J]
   have D:C.take (n+1)=C.take n++[C[n]]:=ah p;have aa:ug (C.take n)<=51200:=by
    have h1:=Mf (ks:=C.take n)<|λo j=>HP.can o<|gC j;grind
   rw[<-B]at aa|-;have bf:=X B;have F:=X D;generalize C[n]=o at*;generalize hR:(C.drop<|n+1).flatMap wy=ao at*;have HR:=X hR;clear hR;have u:=λcs=>Xe o cs g;have cB:=g.fits;obtain⟨pos,d,b,first,c⟩:=o;have f1:=g.size;have f2:=g.c2;have f3:=g.f8;have f4:=g.l8;simp only at f1 f2 f3 f4 aa x;unfold wy at k;simp only[bj]at k;unfold rV.value at u;simp only at u;have a8:(Op.bytesLess first.toList (jF<|C.take n).toList||first.toList==(jF<|C.take n).toList)=bw:=by rw[Ku,x];rfl
   have av:kr (eL c++ao):=(BP _<|by omega).append A;have ax:kr (eL first++(eL c++ao)):=(BP _<|by omega).append av;have bo:kr (le 4 b++(eL first++(eL c++ao))):=(kr.le 4 _).append ax;have dx:y (eL c)<=9:=by unfold eL;rw[aO,iq];omega
   have dT:y (eL first)<=9:=by unfold eL;rw[aO,iq];omega
   have e3:IntKind.i64.wrap (d:U)=d:=by rw[bP];omega
   have e4:IntKind.i64.wrap (b:U)=b:=by rw[bP];omega
   have dc:=qu (z<|G f) (d:M) _ wr k bo (by grind[length_append,cg]) (by omega) (by omega);obtain⟨cm,cn,bb,HA,bd⟩:=iY av ax A e (show∀(x:Bool)(a:Y),(Op.unary .not<|aM x).run bA a=.ok (aM<|!x) a fromλ_ _=>rfl);clear e s k av ax bo A g x cB B D;subst ho;generalize jF (C.take n)=ll at*;obtain⟨cc,v⟩:∃cc,sN (C.take n)=cc:=⟨_,rfl⟩;rw[v]at ap|-;have ck:=X v;clear v;go_wp2_with fail
   apply dc.mono;rintro P w5⟨rfl,bs,bi⟩;have aF:=qu (z<|G f) (b:M) _ w5 bs cn (by simp only[af];omega) (by omega) (by omega);have ad:=X bi;clear bs bi;go_wp2_with fail
   apply aF.mono;rintro P w6⟨rfl,bt,bk⟩;have df:=Rv (z<|G f) first w6 bt cm (by simp only[af];omega) (by omega)
   have al:=X bk;clear bt bk;go_wp2_with fail
   apply df.mono;rintro P w7⟨rfl,bu,bl⟩;have dk:=Rv (z<|G f) c w7 bu bb (by omega) (by omega);have an:=X bl;clear bu bl;go_wp2_with fail
   apply dk.mono;rintro P w⟨rfl,bv,O⟩;have HX:=X (show∀o2 m,m.ownsRow (z<|G a) 320 5 o2 (n+1) (eS (C.take n)++[aq pos,aq d,aq b,am first,am c])->eJ (dd (dd (dd w<|ay #[aq pos,aq d,aq b,am first,am c] 320)<|ay #[aq pos,aq d,aq b,am first,am c] 320)<|ay #[aq pos,aq d,aq b,am first,am c] 320) m (I ox n oc) o2->AO m (z<|G w) ⟨pos,d,b,first,c⟩/\LD a m (z<|G f) num aV aU ds C o2 (n+1)from by
    intro o2 m r i;have e:=J HA;have E:Z (λo=>o=z (G f)) wr w:=(((fo ad).trans (fo al)<|λ_ h=>.inl h).trans (fo an)<|λ_ h=>.inl h).trans (fo O)<|λ_ h=>.inl h;have bE:=E.size;have br:=e.own.lt;have bT:Z (λo=>cI (I ox n oc)=H o) w m:=((((Z.refl (λo=>cI (I ox n oc)=H o) w).alloc _).alloc _).alloc _).trans (Z.fN i)<|λ_ h=>.inl h;have N:AO (dd w<|ay #[aq pos,aq d,aq b,am first,am c] 320) (z<|G w) ⟨pos,d,b,first,c⟩:=aK _ rfl;have db:Z (λo=>cI (I ox n oc)=H o) (dd w<|ay #[aq pos,aq d,aq b,am first,am c] 320) m:=(((Z.refl (λo=>cI (I ox n oc)=H o) _).alloc _).alloc _).trans (Z.fN i)<|λ_ h=>.inl h;have bg:=e.xO;refine⟨N.aj db (λP=>by have:=(br _ P).2;omega),?_,?_,?_,?_,e.C6,?_⟩
    .rw[J F,Vb];exact r
    .have cN:=((bv.laid<|dP w (ay #[aq pos,aq d,aq b,am first,am c] 320) none).laid<|dP _ (ay #[aq pos,aq d,aq b,am first,am c] 320) none).laid<|dP _ (ay #[aq pos,aq d,aq b,am first,am c] 320) none;have cS:=cN.wrote i bg;rw[J HR];exact cS
    .exact(bT.block _ (by omega) (λP=>by have:=bg _ P;have:=e.C6;omega)).trans<|(E.block _ (ak e.box)<|by omega).trans e.box
    .exact(e.aj.trans E<|λo j=>(by omega)).trans bT<|λo j=>.inr (br o j).1
    .intro o j;rcases i.vQ with el|⟨ek,el,hy⟩
     .simp_all
     .rw[el]at j;cases j;simp at hy;omega)
   have bE:z (G f)<z (G w):=by
    have:=ad.size;have:=al.size;have:=an.size;have:=O.size;omega
   have cp:=X (show w.ownsRow (z<|G a) 320 5 (I ox n oc) n (eS<|C.take n)from by
    have e:=J HA;have E:Z (λo=>o=z (G f)) wr w:=(((fo ad).trans (fo al) (λ_ h=>.inl h)).trans (fo an) (λ_ h=>.inl h)).trans (fo O) (λ_ h=>.inl h);exact E.own e.own (λo j P=>by have:=e.xO o j;omega))
   have ea:=J bd;clear bv O;go_wp2_with fail
   apply(u _).mono;rintro P w9⟨rfl,ed⟩;subst w9;go_wp2_with(first
    |(at_builtin;go_loud(refine cC _ rfl (.tmp 62) (.tmp 64) 243 rfl (z (G a)) 320 i0 (.agg #[.int .i64 0,.int .i64 0,.int .i64 0,.string ⟨#[]⟩,.string ⟨#[]⟩]) 5 56 underlying243 bm ca cb ce rfl (by decide) (.slice ox n oc) n (eS (C.take n)) rfl (aT (aT (aT cp _) _) _) (R (z (G w)+2) 0) 1 1 [.int .i64 pos,.int .i64 d,.int .i64 b,.string first,.string c] rfl rfl (UY _ _ _ _ _ _ (by simp)) (by simp[Value.oneCell']) (by omega) (by omega) (by simp;omega) ?_;intro o2 m r i;obtain⟨N,hA10⟩:=HX o2 m r i;obtain⟨m0,m1,m2,m3,m4⟩:=N.cells;simp only at m0 m1 m2 m3 m4;obtain⟨ej,ei,rfl⟩:=aC r;have ba:=X hA10;clear r i hA10 N)))
   go_quiet(fail)
   go_wp2;go_roundw;case rel=>
    refine⟨n+1,bp,by go_num,?_,?_,?_,?_⟩
    .rw[J F,Po,<-J bf];go_num
    .rw[J F,Dw,J ck];go_num
    .rw[J F,Gr]
    .have e:=J ba;exact⟨e.own,e.rd,e.box,e.aj.of_heap rfl,e.C6,e.xO⟩
   case measure=>simp[intOf];omega
  .have i:n=ch:=by omega
   subst i;have b:C.take n=C:=by rw[<-J HN,aY]
   have k:=e.rd;have d:C.drop n=[]:=by rw[<-J HN,gz]
   rw[d]at k;have c:=yY k (by simp);simp only[vV,ri,nX,vA]at c;have r:=cellAt e.box 1 rfl;rw[b]at ap|-;rw[J HS];rw[ho,b]at s;have p:=X s;have g:=X e.aj;clear e s k d b;obtain⟨cc,v⟩:∃cc,sN C=cc:=⟨_,rfl⟩;rw[v]at cw ap|-;clear v;have m:((cc:U)<=100)=True:=by simp;omega
   subst ho;go_wp2_with fail
   apply c.mono;rintro P w5⟨rfl,u⟩;subst w5;go_wp2;go_ret2
   exact⟨_,rfl,by rw[J HN];exact p,g⟩
def Aq:∀(a:dX)(p:M),ug (bX p a)=y (dU a)
 |[],_=>by simp[ug,bX,dU]
 |c::a,p=>by
  have h:=Aq a<|p+(y (fU c)+4);unfold ug at*;rw[bX,bR,vu,h,pL,af,gO];rfl
def Dx:∀(a:dX)(p:M),sN (bX p a)=y a.flatten
 |[],_=>by simp[sN,bX]
 |c::a,p=>by
  have h:=Dx a<|p+(y (fU c)+4);unfold sN at*;rw[bX,bR,vu,h,bW,af];rfl
def Oz(n:M):∀(a:dX)(p:M),(bX p a).take n=bX p (a.take n):=by
 induction n with
 |zero=>intro a p;simp[bX]
 |succ n b=>
  intro a p;cases a with
  |nil=>simp[bX]
  |cons c a=>rw[bX,sO,b,sO,bX]
def qM.idx(k:qM K m)(j:K≠[])(i:∀x∈K,x.Good)(w:eh K)(v:y K<=100):OS (bX 0 m):=by
 have a:=k.kK j i w;have r:=k.length;have d:∀a∈m,∀x∈a,x∈K:=λa c x b=>by rw[<-k.flat];grind[mem_flatten]
 refine⟨?_,?_,?_,?_,?_,?_⟩;rw[a.len];exact a.ne;rw[a.len];omega;intro A u;obtain⟨l,q,rfl⟩:=eC u;(have c:l<y m:=by rw[<-a.len];exact q);have o:=a.FT l q c;have b:=ar c;have t:=k.fit _ b;have h:=i _<|d _ b _<|ar o.ne;have p:=i _ (d _ b _<|ar<|show y m[l]-1<y m[l]by omega);have g:eh m[l]:=a.mJ.sub<|dw b;(have s:y m[l]<=y K:=by rw[<-k.flat];exact(dw b).length_le);refine⟨by rw[o.size];exact t.2,by rw[o.count];exact o.ne,by rw[o.count];omega,by rw[o.first];exact h.WP,by rw[o.first];exact h.NG,by rw[o.last];exact p.WP,by rw[o.last];exact p.NG,?_⟩;rw[o.first,o.last];exact g.EN o.ne<|ar _;rw[Dx,k.flat];exact v;intro n f;(have c:n<y m:=by rw[<-a.len];exact f);rw[Oz,Aq,a.pos n f]
 .intro n f;have c:n<y m:=by rw[<-a.len];exact f
  have o:=a.FT n f c;have h:=i _<|d _ (ar c) _<|ar o.ne;cases n with
  |zero=>
   rw[yh];show jj ⟨#[]⟩ _=cf;rw[o.first];cases e:jj ⟨#[]⟩ (m[0][0]'o.ne).key with
   |true=>rfl
   |false=>
    have b:=nN e<|Kz _;have:=h.WP;rw[<-b]at this;exact absurd this<|by decide
  |succ n=>
   have g:n<y (bX 0 m):=by omega
   have b:n<y m:=by omega
   rw[ah g,Gr];have l:=a.FT n g b;rw[l.last,o.first];exact(cV.1 a.GW n (n+1) b c<|by omega) _ (ar _) _<|ar _
def pu(a:dX):eF:=dU a++fP (bX 0 a)
def xK(u:M)(a:dX):ci nU:=[.cr<|fG u,.ap (fG u)<|pu a,.sy<|fG u]
def V2(w g:Y)(b f u x h e a:M)(K:DK)(c:dX)(j:Ending):Prop:=∃v d,j=aN v/\bY g f d/\Z (λk=>K.aL f k\/k=b\/k=x) w g/\(∀k,d.aL f k->K.aL f k\/z (G w)<=k)/\Fx K.fx d.fx/\((v=.nilIface/\jT (xK u c) K d/\lZ g b (aD f) u (y<|dU c) (y<|fP<|bX 0 c) (lJ<|fP<|bX 0 c) h e a az (bX 0 c))\/∃l q i,l<+:xK u c/\jT l K d/\v=fj q/\sF g q i/\Sm K.fx i)
def D7(h:a.ownsRow b c i d l B):∀k,cI d=H k->k<z (G a):=λk e=>(bN h k e).2
def Oj{α β:Type}(K:α->β->Prop){b:α}{c:β}{a:Prop}(h:K b c->a)(k:K b c):a:=h k
def YF{l m n o p k q a' b' c' d' e' g':ab}{t:TypeId}{c:M×M}(r:a.heap[b]?=H (ay #[l,m,n,o,p,k,q] t c)):(cH (cH (cH (cH (cH (cH a (R b 0) a') (R b 1) b') (R b 2) c') (R b 3) d') (R b 4) e') (R b 6) g').heap[b]?=H (ay #[a',b',c',d',e',k,g'] t c):=by
 have d:=aJ (i:=0) (u:=a') r;have e:=aJ (i:=1) (u:=b') d;have f:=aJ (i:=2) (u:=c') e;have g:=aJ (i:=3) (u:=d') f;have h:=aJ (i:=4) (u:=e') g;have j:=aJ (i:=6) (u:=g') h;rw[j];simp
def JQ{e k D L:M}{N C O m0:U}(o:lZ a b (dC none) N C O m0 F V e d (bX 0 m))(p:Z (λn=>n=l) a f)(h:qQ f A c g x)(hv:jT (xK i m) g x)(s:A.heap[b]?=H (ay #[dC none,aG N,dI C,dI O,dI m0,bI F V (y<|bX 0 m) e,bI l 0 D k] 247 (0,0)))(aa:¬g.aL c b)(t:¬g.aL c F)(u:F≠b)(v:F≠l)(S:y (dU m)=D)(W:y (fP<|bX 0 m)=L)(K:b<z (G a)):V2 a (cH (cH (cH (cH (cH (cH A (R b 0)<|aD c) (R b 1)<|aG i) (R b 2)<|dI D) (R b 3)<|dI L) (R b 4)<|dI<|lJ<|fP<|bX 0 m) (R b 6) az).drew b c i l F V e g m (aN .nilIface):=by
 have r:=p.size;have q:=YF (a':=aD c) (b':=aG i) (c':=dI D) (d':=dI L) (e':=dI<|lJ<|fP<|bX 0 m) (g':=az) s;have B:Z (λn=>n=b) A (cH (cH (cH (cH (cH (cH A (R b 0)<|aD c) (R b 1)<|aG i) (R b 2)<|dI D) (R b 3)<|dI L) (R b 4)<|dI<|lJ<|fP<|bX 0 m) (R b 6) az):=((((((iT b A).setCell b 1 _<|.inl rfl).setCell b 2 _<|.inl rfl).setCell b 3 _<|.inl rfl).setCell b 4 _<|.inl rfl).setCell b 6 _<|.inl rfl);generalize(cH (cH (cH (cH (cH (cH A (R b 0)<|aD c) (R b 1)<|aG i) (R b 2)<|dI D) (R b 3)<|dI L) (R b 4)<|dI<|lJ<|fP<|bX 0 m) (R b 6) az)=wf at*;have j:Z (λn=>n=b) A wf.drew:=B.of_heap rfl;have w:∀n,x.aL c n->g.aL c n\/z (G a)<=n:=λn E=>(h.aL n E).elim .inl (by grind);refine⟨_,x,rfl,h.ok.aj j<|λn E al=>?_,?_,w,h.fx,.inl ⟨rfl,hv,?_,?_,o.ne,o.le,o.small⟩⟩;grind
 exact((p.mono (T:=λn=>g.aL c n\/n=b\/n=l)<|by simp).trans h.aj<|by grind).trans j (by simp);rw[S,W];exact q;intro ac ad hj;have P:=p.cell (o.cells ac ad hj) v o.lt.2;have Q:=h.aj.cell P t<|ai o.lt.2 r;exact j.cell Q u<|ai o.lt.2<|aB r h.aj.size
def JR(bo:M)(hu:bo<18446744073709551616){n0 c0 s0 m0:U}{k:M}(x d:M)(f:dX)(h:lZ a b (dC none) n0 c0 s0 m0 l F V (bI x 0 (y<|dU f) d) (bX 0 f))(hd:fg a k (bI x 0 (y<|dU f) d) (dU f))(hb:k<=z (G a))(hP:OS (bX 0 f))(ch:kr (dU f))(hT:Steps a)(ap:Pow a)(eq:y (dU f)<=100000)(C:bY a c g)(hg:cX (vw g.files) (fG bo)=none)(hn:y g.eP<=1000000000000)(E:EH g.fx)(eu:¬g.aL c x)(bi:¬g.aL c b)(ds:¬g.aL c l)(dv:l≠b)(dx:l≠x):cY bA 157 #[aD b,aD c,aG bo] a λbp w'=>V2 a w' b c bo x l F V g f bp:=by
 have s:∀bl∈bX 0 f,bl.Fits:=λbl hk=>(hP.can bl hk).fits;have ej:=hP.len;have cm:=Kb (bX 0 f) l F V a h.lt.2 h.cells (by omega) s;have er:y (fP<|bX 0 f)<=52004:=by have h1:=ov s;unfold fP;rw[af,cg];omega
 have ce:0<y (fP<|bX 0 f):=by unfold fP;rw[af,cg];omega
 have ao:kr (fP<|bX 0 f):=(kr.le 4 _).append<|KG s;have j:=h.box;have t0:=cellAt j 0 rfl;have t5:=cellAt j 5 rfl;have t6:=cellAt j 6 rfl;obtain⟨i0,dT,ed,ef,eg⟩:=dl qG;obtain⟨D,hD⟩:∃D,y (dU f)=D:=⟨_,rfl⟩;obtain⟨aU,hL⟩:∃aU,y (fP<|bX 0 f)=aU:=⟨_,rfl⟩;have e1:=uf (n:=(D:M)) (by omega) (by omega);have e2:=uf (n:=(aU:M)) (by omega) (by omega);have bx:=X (show∀v1 p,fg p (z<|G a) v1 (fP<|bX 0 f)->Z aw a p->∃L xc,v1=bI L 0 aU xc/\z (G a)<=L/\L<z (G p)/\aW p (R b 6)=H (bI x 0 D d)/\b<z (G p)/\(∀ec,Z aw p ec->cY bA 136 #[bI L 0 aU xc] ec λbp w'=>bp=aN (dI<|lJ<|fP<|bX 0 f)/\w'=ec)from by intro v1 p ho ht;obtain⟨L,xc,rfl,a1,a2,_⟩:=uk ho ce;rw[<-hL,<-hD];refine⟨L,xc,rfl,a1,a2,ht.cell t6 id<|ak j,(by grind),λec hW=>?_⟩;have ea:=ht.cz hW;exact tA _ (fP<|bX 0 f) ec (hT.below (ea.below (ag _) cJ) hT.lt) (fg.bytes<|hW.own ho<|λ_ _ bn=>bn)<|by omega);have cu:=X h;clear h;rw[hD]at t6;go_in
 go_wp2_with fail
 apply cm.mono;rintro bp p⟨v1,rfl,bf,bh⟩;obtain⟨L,xc,rfl,y0,y1,y2,y3,K⟩:=bx v1 p bf bh;have bt:=X bf;have aF:=X bh;have m:=ak j;have av:¬b=x:=λbp=>by obtain⟨_,hc⟩:=eT hd (k:=x) rfl;grind
 clear bf bh t0 t5 cm;go_wp2_with fail
 rename_i QQ KK A;apply Oj KK
 .intro bm;go_region_held3(λw=>aW w (R b 6)=H (bI x 0 D d)) (first|assumption|go_keep) (first
   |(go_at_call 136;refine(K p.drew<|dh _ _).mono ?_;rintro bp w2⟨rfl,ec⟩;subst w2;have ea:aW p.drew (R b 6)=H (bI x 0 D d):=y2)
   |(go_at_call 136;refine(K (dd p (.cells #[.int .u64 0,.int .u32 0,.int .u32 0,.int .u32 0] 178)).drew ((cO _ p).of_heap rfl)).mono ?_;rintro bp w2⟨rfl,ec⟩;subst w2;have ea:aW (dd p (.cells #[.int .u64 0,.int .u32 0,.int .u32 0,.int .u32 0] 178)).drew (R b 6)=H (bI x 0 D d):=(by rw[bF,fE y3];exact y2)))
  all_goals exact bm
 apply A;clear A K;have P:∃N,(dd p<|ay #[aG bo,dI D,dI aU,dI<|lJ<|fP<|bX 0 f] 178).drew=N/\Z aw a N/\N.heap[z<|G p]?=H (ay #[aG bo,dI D,dI aU,dI<|lJ<|fP<|bX 0 f] 178 (0,0))/\fg N (z<|G a) (bI L 0 aU xc) (fP<|bX 0 f):=⟨_,rfl,(aF.alloc _).of_heap rfl,aK _ rfl,bt.alloc _⟩;obtain⟨N,P,t,bb,ck⟩:=P;rw[P];have es:z (G a)<=z (G p):=aF.size;generalize z (G p)=u at*;clear P bt aF bx y2 y3;have el:=t.size;have dr:=hT.below (t.below (ag _) cJ) hT.lt;have hS:aW N.drew (R b 6)=H (bI x 0 D d):=by rw[bF];exact t.cell t6 id m
 go_wp2_with fail
 rename_i QQ KK A;refine eH (λw=>aW w (R b 6)=H (bI x 0 D d)) 10 (by kernel_rfl) ?_;refine fw 0 ?_;iterate 2 (refine iS (v:=?_) hS rfl (by kernel_rfl) lQ rfl ?_ ?_;rotate_left;(focus(intro w hX;go_simp;try rfl));simp only[Act.put,ig,Nat.reduceAdd])
 apply iG;refine fw 3 ?_;iterate 5 (refine iS (v:=?_) hS rfl (by kernel_rfl) lQ rfl ?_ ?_;rotate_left;(focus(intro w hX;go_simp;try rfl));simp only[Act.put,ig,Nat.reduceAdd])
 apply iG;refine bG (i:=2) rfl rfl (by kernel_rfl) ?_;intro K2 bE;go_simp;have hx:=D7 hd x rfl;have au:Pow N.drew:=ap.aj (t.of_heap rfl) id;apply(CJ bo hu au).mono;rintro bp W3⟨rfl,B⟩;have W:Z aw a W3:=(t.of_heap (c:=N.drew) rfl).cz<|Z.aQ (S:=aw) B;have eb:=B.size;have ev:z (G N)<=z (G W3):=eb;have cb:aW W3 (R b 6)=H (bI x 0 D d):=W.cell t6 id m;have bc:W3.heap[u]?=H (ay #[aG bo,dI D,dI aU,dI<|lJ<|fP<|bX 0 f] 178 (0,0)):=(B.block u<|ak bb).trans bb;have cl:fg W3 (z<|G a) (bI L 0 aU xc) (fP<|bX 0 f):=(Z.aQ (S:=aw) B).own ck<|λ_ _ bn=>bn;have cd:fg W3 k (bI x 0 D d) (dU f):=by rw[<-hD];exact W.own hd<|λ_ _ bn=>bn
 refine bE _ _ (λ_=>cb) ?_;refine bG (i:=8) rfl rfl (by kernel_rfl) ?_;intro K8 bL;simp only[da,cD,cG];refine kE (.tmp 34) (.tmp 35) 86 rfl k 5 i0 (td 0) 1 1 underlying86 dT ed ef eg rfl (by decide) (bI x 0 D d) D ((dU f).map<|Value.int .u8) rfl (by have h0:=cd;unfold fg at h0;rw[hD]at h0;exact h0) (R L 0) aU xc ((fP<|bX 0 f).map<|Value.int .u8) rfl (by rw[bU,hL,rZ]) (uy cl.bytes) (by intro bo hu;simp only[bH]at hu;obtain⟨ei,_,rfl⟩:=hu;rfl) (by omega) (by omega) (by omega) ?_;intro v4 w4 bg bk;have ba:fg w4 k v4 (pu f):=fg.of bg (by unfold pu;rw[af,hD,hL]) (by unfold pu;rw[aE]);have ac:=Z.fN bk;obtain⟨yb,yc,rfl,g1,g2,g3⟩:=uk bg (by omega);have aa:Z (λbl=>bl=x) a w4:=(W.mono (T:=λbl=>bl=x) cJ).trans ac (λbl hk=>by simp[cI]at hk;grind);have aV:aW w4 (R b 6)=H (bI x 0 D d):=aa.cell t6 (λbp=>av bp) m;have cj:w4.heap[u]?=H (ay #[aG bo,dI D,dI aU,dI<|lJ<|fP<|bX 0 f] 178 (0,0)):=(ac.block u (ak bc) (λbp=>by simp[cI]at bp;omega)).trans bc;have an:bY w4 c g:=C.aj aa (by grind);have O:D+aU=y (pu f):=by unfold pu;rw[af,hD,hL]
 have cn:¬g.aL c yb:=by intro bn;rcases bk.vQ with ea|⟨ei,ea,hy⟩;simp[cI]at ea;grind;simp[cI]at ea;subst ea;have:=C.lt _ bn;omega
 have ad:=LN (db:=c) (K:=g) (fG bo) yb 0 yc (bs:=(pu f)) (w:=w4) an hg hn E (by rw[<-O];omega) (ch.append ao) (Bytes.cells (by rw[<-O];exact ba.bytes)) g2 cn<|Ga hu;rw[<-O]at ad;obtain⟨cs,cw,ax,r⟩:=gw ba ac cj aa;clear O cn bg bk ba ac cj aa g1 g2 g3 cd cl bc cb B;refine bL _ _ (λ_=>aV) ?_;simp only[Act.put,ig];refine bG (i:=9) rfl rfl (by kernel_rfl) ?_;intro K9 bT;go_simp;apply ad.mono;rintro bp w5⟨v5,K5,rfl,Q⟩;have o:=Q.pa;have cc:aW w5 (R b 6)=H (bI x 0 D d):=o.aj.cell aV bi<|ai m r.size;refine bT _ _ (λ_=>cc) ?_;refine bG (i:=10) rfl rfl (by kernel_rfl) ?_;intro en al;go_simp;refine al _ _ IY ?_;refine fm (by kernel_rfl) ?_ _;show KK _ _;apply A;clear A bE bL bT al;rcases Q.wG with⟨rfl,o5⟩|⟨ew,q,bn,r1,r2,rfl,r3,r4⟩;rotate_left;(.have HR:=X<|show V2 a w5 b c bo x l F V g f (aN<|fj q)from⟨_,K5,rfl,o.ok,(r.mono (T:=λbl=>g.aL c bl\/bl=b\/bl=x)<|by simp).trans o.aj (by grind),λbl hk=>(o.aL bl hk).elim .inl<|λbn=>.inr<|aB r.size bn,o.fx,.inr ⟨ew,q,bn,r1,r2,rfl,r3,r4⟩⟩;clear Q o r1 r2 r3 r4 ad;go_wp2;go_ret;exact HR);have e:w5.heap[b]?=H (ay #[dC none,aG n0,dI c0,dI s0,dI m0,bI l F (y<|bX 0 f) V,bI x 0 D d] 247 (0,0)):=by rw[<-hD];exact(o.aj.block b (ai m r.size) bi).trans<|(r.block b m av).trans j
 have bd:w5.heap[u]?=H (ay #[aG bo,dI D,dI aU,dI<|lJ<|fP<|bX 0 f] 178 (0,0)):=(o.aj.block u (ak ax) (λbn=>by have:=C.lt _ bn;omega)).trans ax;have hQ:(aW w5.drew (R u 0)=H (aG bo)/\aW w5.drew (R u 1)=H (dI D)/\aW w5.drew (R u 2)=H (dI aU)/\aW w5.drew (R u 3)=H (dI<|lJ<|fP<|bX 0 f)):=by simp only[bF];refine⟨?_,?_,?_,?_⟩<;>(rw[ct bd];rfl)
 obtain⟨bu,cv,bq,bv,em⟩:=iY e bd o o5 C;clear bd o Q o5 C j hd hS aV cc t6 hg hn E hT ap au dr t W bb ck ad an ch ao hP;obtain⟨co,cp,cq,cr⟩:=hQ;simp only[bF]at co cp cq cr;have cB:=cellAt e 0 rfl;have cE:=cellAt e 1 rfl;have cM:=cellAt e 2 rfl;have cN:=cellAt e 3 rfl;have cS:=cellAt e 4 rfl;have cT:=cellAt e 6 rfl;have db:=cQ (i:=0) e;have dc:=cQ (i:=1) e;have df:=cQ (i:=2) e;have dk:=cQ (i:=3) e;have dm:=cQ (i:=4) e;have dn:=cQ (i:=6) e;have et:u≠b:=by omega
 have ek:b≠u:=by omega
 clear e;go_wp2_with fail
 rename_i eo cx ca;apply Oj cx;(.intro bm;(go_region);all_goals exact bm);refine ca _ _ ?_;have br:=X<|JQ cu r bq bv bu bi ds dv dx hD hL m;clear cB cE cM cN cS cT db dc df dk dm dn co cp cq cr bu cv bq bv r ax cs cw;go_wp2;go_ret;exact br
def V3(w e:Y)(c u:M)(K:DK)(D L:M)(i:U)(g:mM)(h:Ending):Prop:=∃d,qQ w e c K d/\qc K d/\(∀k,d.aL c k->K.aL c k)/\((∃a f b,h=aN (dA #[aD a,.nilIface])/\lZ e a (aD c) u D L i f 0 b az g/\z (G w)<=a/\z (G w)<=f)\/(0<K.fx.bd/\∃q,h=aN (dA #[dC none,fj q])/\AS e q))
def LX(E:M)(hu:E<18446744073709551616)(d:dX)(hP:OS (bX 0 d))(hT:Steps a)(al:Pow a)(bs:y (dU d)<=100000)(bk:¬g.aL b 1)(C:bY a b g)(hg:cX (vw g.files) (fG E)=H (pu d)):cY bA 78 #[aD b,Gj E (y<|dU d) (y<|fP<|bX 0 d)<|lJ<|fP<|bX 0 d] a λP i=>V3 a i b E g (y<|dU d) (y<|fP<|bX 0 d) (lJ<|fP<|bX 0 d) (bX 0 d) P:=by
 have D:∀au∈bX 0 d,au.Fits:=λau hk=>(hP.can au hk).fits;have bo:=hP.len;have bv:=hP.ne;have bu:y (fP<|bX 0 d)<=52004:=by have h1:=ov D;unfold fP;rw[af,cg];omega
 have ac:0<y (fP<|bX 0 d):=by unfold fP;rw[af,cg];omega
 have bi:=Aq d 0;have bt:y (pu d)=y (dU d)+y (fP<|bX 0 d):=by unfold pu;rw[af]
 have hcut:((pu d).drop<|y<|dU d).take (y<|fP<|bX 0 d)=fP (bX 0 d):=by unfold pu;simp
 obtain⟨bE,hF,Q⟩:=ji hg;obtain⟨F,hD⟩:∃F,y (dU d)=F:=⟨_,rfl⟩;obtain⟨L,T⟩:∃L,y (fP<|bX 0 d)=L:=⟨_,rfl⟩;obtain⟨ap,hc⟩:∃ap,lJ (fP<|bX 0 d)=ap:=⟨_,rfl⟩;have e1:IntKind.i64.wrap (F:U)=F:=by rw[bP];omega
 have e2:IntKind.i64.wrap (L:U)=L:=by rw[bP];omega
 have aF:=X (show∀e,Z aw a e->cY bA 83 #[aD b,am<|fG E,aq F,aq L] e λP i=>∃v,qQ a i b g v/\qc g v/\(∀au,v.aL b au->g.aL b au)/\Z (g.aL b) e i/\((∃l m,P=aN (dA #[bI l 0 L m,.nilIface])/\fg i (z<|G e) (bI l 0 L m) (fP<|bX 0 d))\/(0<g.fx.bd/\∃q,P=aN (dA #[az,fj q])/\AS i q))from by
  intro e r;have W:=C.aj r<|λ_ _=>id;refine(CV (fG E) F L W hF (by rw[Q];omega) (by omega)<|Ga hu).mono ?_;rintro P i⟨v,n,h1,h3,hr⟩;refine⟨v,((qQ.refl C).still r).trans n,h1,h3,n.aj,?_⟩;rcases hr with⟨v',rfl,ho⟩|hr
  .rw[Q,<-hD,<-T,hcut]at ho;obtain⟨l,m,rfl,a1,a2,_⟩:=uk ho ac;rw[T]at ho|-;grind
  .exact .inr hr)
 have aU:=X (show∀u l m e(v:DK),qQ a u b g v->fg u e (bI l 0 L m) (fP<|bX 0 d)->cY bA 129 #[bI l 0 L m,dL #[aG E,dI F,dI L,dI ap]] u λP i=>∃k c,P=aN (dA #[bI k 0 (y<|bX 0 d) c,aM cf])/\z (G u)<=k/\lZ (dd i<|ay #[aD b,aG E,dI F,dI L,dI ap,bI k 0 (y<|bX 0 d) c,az] 247) (z<|G i) (aD b) E F L ap k 0 c az (bX 0 d)/\Z aw u i from by intro u l m e v n ho;have an:Steps u:=λau hk=>n.aj.cell (hT au hk) bk hT.lt;have W:=fg.bytes ho;rw[<-T]at W;have t:=Fe l 0 m E an hP W;rw[bi,hD,T,hc]at t;apply t.mono;rintro P i⟨v',rfl,ad,bl⟩;obtain⟨k,c,rfl,a1,a2,a3⟩:=uk ad (by omega);refine⟨k,c,rfl,a1,⟨aK _ rfl,?_,by omega,a3,by omega⟩,bl⟩;intro bL bT hj;obtain⟨h1,⟨h2,h0⟩|⟨b',bq,bn,h2,_,br⟩⟩:=dR<|aT ad<|ay #[aD b,aG E,dI F,dI L,dI ap,bI k 0 (y<|bX 0 d) c,az] 247;omega;grind);have bp:∀(x:Bool)(a:Y),(Op.unary .not<|aM x).run bA a=.ok (aM<|!x) a:=λ_ _=>rfl;have HPow:=X al;have av:=X C;unfold Gj;rw[hD,T,hc];generalize y (bX 0 d)=bx at*;go_in
 go_wp2_with fail
 apply(CJ E hu<|HPow.aj (cO aw a) id).mono;rintro P w2⟨rfl,V⟩;have o:w2.heap[z<|G a]?=H (ay #[aG E,dI F,dI L,dI ap] 178 (0,0)):=(V.block _<|by simp).trans<|aK _ rfl;have r:Z aw a w2:=(cO aw a).cz<|Z.aQ (S:=aw) V;have c0:=cellAt o 0 rfl;have c1:=cellAt o 1 rfl;have c2:=cellAt o 2 rfl;have bh:=aF w2 r;have K:=X o;go_wp2_with fail
 apply bh.mono;rintro P u⟨K3,f,aa,w,bm,bg⟩;have bc:¬g.aL b (z<|G a):=λap=>by have:=av.lt _ ap;omega
 have j:=(bm.block _ (ak K) bc).trans K;have d0:=cellAt j 0 rfl;have d1:=cellAt j 1 rfl;have d2:=cellAt j 2 rfl;have d3:=cellAt j 3 rfl;rcases bg with⟨l,m,rfl,bd⟩|⟨ba,q3,rfl,bf⟩;rotate_left;(.obtain⟨x,A,B,e,W⟩:=iY f aa w ba bf;go_wp2;(go_ret2);exact⟨K3,x,A,B,.inr ⟨e,q3,rfl,W⟩⟩);have t:=aU u l m _ K3 f bd;obtain⟨N,x,A,B⟩:=gw j f aa w;go_wp2_with fail
 apply t.mono;rintro P w4⟨k,c,rfl,bb,aV,s⟩;have p:=(s.block _ (ak N) id).trans N;have g0:=cellAt p 0 rfl;have g1:=cellAt p 1 rfl;have g2:=cellAt p 2 rfl;have g3:=cellAt p 3 rfl;have ax:=X aV;have O:=X s;go_wp2;go_ret2
 have f:=J x;have ao:=f.aj.size;have s:=O.alloc<|ay #[aD b,aG E,dI F,dI L,dI ap,bI k 0 bx c,az] 247;exact⟨K3,f.still s,A,B,.inl ⟨z<|G w4,k,c,rfl,ax,aB ao O.size,aB ao bb⟩⟩
structure bB where
 tb:M
 ks:mM
 cs:dX
 num:M
abbrev cP:=ci bB
variable{Q:bB}
def bB.ptr(t:bB):ab:=aD t.tb
def bB.all(t:bB):cU:=t.cs.flatten
def jm(a:mM):ae:=(a.head?.map rV.first).getD ⟨#[]⟩
def Gs(h:0<y C):jF C=(C[y C-1]'(by omega)).last:=by
 unfold jF;rw[List.getLast?_eq_getElem?,aR<|by omega];rfl
def Dn(h:0<y C):jm C=(C[0]'h).first:=by
 unfold jm;cases C with
 |nil=>simp at h
 |cons k r=>rfl
def OW(w:Y)(t:bB):Prop:=∃h b cut c f g d a e,lZ w t.tb h b cut c f g d a e t.ks
def OW.first(n:OW a Q):cY bA 131 #[Q.ptr] a λm j=>m=aN (am<|jm Q.ks)/\j=a:=by
 obtain⟨l,c,cut,d,i,k,e,b,h,g⟩:=n;rw[Dn g.ne];exact Uv g
def OW.last(m:OW a Q):cY bA 130 #[Q.ptr] a λl i=>l=aN (am<|jF Q.ks)/\∃q,i=a.drewN q:=by
 obtain⟨k,c,cut,d,h,j,e,b,g,f⟩:=m;rw[Gs f.ne];exact WK f
def lZ.dG{w w':Y}{a cut e f:U}(h:lZ w c d a cut e f i l F t C)(g:w'.heap[c]?=w.heap[c]?)(j:w'.heap[i]?=w.heap[i]?):lZ w' c d a cut e f i l F t C:=⟨g.trans h.box,λm u k=>(dy (w:=w) j).trans<|h.cells m u k,h.ne,h.le,h.small⟩
def OW.of_heap{w w':Y}(n:OW w Q)(m:w'.heap=w.heap):OW w' Q:=by
 obtain⟨k,d,cut,e,i,j,g,b,h,l⟩:=n;exact⟨k,d,cut,e,i,j,g,b,h,l.dG (by rw[m])<|by rw[m]⟩
def OW.below(m:OW a Q)(j:Below (z<|G a) a f):OW f Q:=by
 obtain⟨l,c,cut,d,i,k,e,b,g,h⟩:=m;exact⟨l,c,cut,d,i,k,e,b,g,h.dG (j.block _ h.lt.1)<|j.block _ h.lt.2⟩
structure jh(w:Y)(v:ab)(ts:ci bB):Prop where
 row:Row w 1 v (y ts) (ts.map bB.ptr)
 lt:∀k,cI v=H k->k<z (G w)
 each:∀t∈ts,OW w t
 small:y ts<=1000000000
def jh.below{e:ci bB}(h:jh a d e)(b:Below (z<|G a) a f):jh f d e:=by
 refine⟨(Z.aQ (S:=aw) b).row h.row<|λk c=>⟨id,h.lt k c⟩,λk c=>ai (h.lt k c) b.size,λt g=>(h.each t g).below b,h.small⟩
def Cn(a:ci bB):Prop:=a.Pairwise<|λb c=>jj (jF b.ks) (jF c.ks)=cf
def Nk{k bk:M}{c:ci bB}(f:ae)(h:jh a d c)(m:eX a k d 76)(l:eX a bk (am f) 9)(i:M)(t:i<y c):cY bA 249 #[aq i,aD k,aD bk] a λp j=>p=aN (aM<|!jj (jF c[i].ks) f)/\∃q,j=a.drewN q:=by
 obtain⟨g,⟨_,B⟩|⟨w,e,o,rfl,_,r⟩⟩:=h.row;omega;have u:aW a (R w<|e+i)=H c[i].ptr:=by simp_all
 have b:∀W,W.heap=a.heap->cY bA 130 #[c[i].ptr] W λp j=>p=aN (am<|jF c[i].ks)/\∃q,j=W.drewN q:=λW e=>((h.each _<|ar t).of_heap e).last;have c1:=m.cell;have c2:=l.cell;have s:=KL;have v:=h.small;have x:(i:U)<(y c:U):=by omega
 have A:(0:U)<=(i:U):=by omega
 unfold jj;unfold bB.ptr at u b;generalize jF c[i].ks=C at*;generalize c[i].tb=n at*;clear h m l g r;go_in
 go_wp2_with fail
 go_quiet(first|(go_at_call 130;refine Calls.quiet_of (b _ rfl)))
 go_wp2;go_ret;exact⟨rfl,nq,rfl⟩
variable{j p:cP}
def uF.Q7(h:uF C m):0<y C:=by rw[h.len];exact h.ne
def uF.yP(h:uF C m):∃x∈m.flatten,x.key=jF C:=by
 have b:=h.Q7;have a:y C-1<y m:=by have:=h.len;omega
 have o:=h.FT (y C-1) (by omega) a;have n:=o.ne;exact⟨_,bC.2 ⟨_,ar a,ar<|show y m[y C-1]-1<y m[y C-1]by omega⟩,by rw[Gs b,o.last]⟩
def uF.Jm(h:uF C m):∃x∈m.flatten,x.key=jm C:=by
 have b:=h.Q7;have a:0<y m:=by have:=h.len;omega
 have o:=h.FT 0 (by omega) a;exact⟨_,bC.2 ⟨_,ar a,ar o.ne⟩,by rw[Dn b,o.first]⟩
def uF.EO(h:uF C m)(f:w∈m.flatten):jj (jF C) w.key=bw:=by
 have e:=h.Q7;have b:y C-1<y m:=by have:=h.len;omega
 have o:=h.FT (y C-1) (by omega) b;obtain⟨j,c,a⟩:=bC.1 f;obtain⟨i,d,rfl⟩:=eC c;rw[Gs e,o.last];rcases iy i (y C-1)with g|g;exact lH (cV.1 h.GW i _ d b g w a _<|by simp);(have:i=y C-1:=by have:=h.len;omega);subst this;exact eh.EN (h.mJ.sub<|dw<|ar b) o.ne a
def uF.yW(h:uF C m)(g:w∈m.flatten):jj w.key (jm C)=bw:=by
 have f:=h.Q7;have b:0<y m:=by have:=h.len;omega
 have o:=h.FT 0 (by omega) b;obtain⟨j,c,a⟩:=bC.1 g;obtain⟨i,e,rfl⟩:=eC c;rw[Dn f,o.first];rcases gH i with d|d;subst d;exact eh.yW (h.mJ.sub<|dw<|ar b) o.ne a;exact lH<|cV.1 h.GW 0 i b e d _ (ar o.ne) w a
def cA(a:cP):cU:=(a.map bB.all).flatten
def zH(t:bB)(a:cP):cA (t::a)=t.all++cA a:=by simp[cA]
theorem fW(a b:cP):cA (a++b)=cA a++cA b:=by simp[cA]
theorem np:w∈cA j↔∃t∈j,w∈t.all:=by
 unfold cA;grind
structure jn(ts:cP):Prop where
 pure:∀t∈ts,uF t.ks t.cs
 mJ:eh (cA ts)
 GW:(ts.map bB.all).Pairwise ii
def jn.pair(i:jn j)(e:b<y j)(f:c<y j)(d:b<c){a:E}(g:w∈j[b].all)(h:a∈j[c].all):jj w.key a.key=cf:=by
 exact cV.1 i.GW b c (by simpa using e) (by simpa using f) d w (by simpa using g) a<|by simpa using h
def jn.BK(h:jn j):Cn j:=by
 refine cV.2<|λk l b c a=>?_;obtain⟨x,f,d⟩:=(h.pure _<|ar b).yP;obtain⟨i,g,e⟩:=(h.pure _<|ar c).yP;rw[<-d,<-e];exact h.pair b c a f g
def jn.each(h:jn j)(a:Q∈j):eh Q.all:=h.mJ.sub<|dw<|by grind
structure qL(ts:cP)(key:ae)(k:M):Prop where
 le:k<=y ts
 low:∀i(hi:i<y ts),i<k->jj (jF ts[i].ks) key=cf
 wz:∀i(hi:i<y ts),k<=i->jj (jF ts[i].ks) key=bw
def jn.Dm(o:jn j)(c:ae)(k:qL j c b):(((j.drop b).map bB.all).map<|gm c).flatten=gm c (cA j):=by
 have e:cA j=cA (j.take b)++cA (j.drop b):=by rw[<-fW,bO]
 have f:gm c (cA<|j.take b)=[]:=by unfold gm;rw[ie];intro x m;obtain⟨t,l,d⟩:=np.1 m;obtain⟨n,p,rfl⟩:=eC l;rw[kA]at d;(have a:n<b/\n<y j:=by grind);have h:=k.low n a.2 a.1;have i:=(o.pure _<|ar a.2).EO d;rw[yQ i h];simp
 have g:∀l:dX,(l.map<|gm c).flatten=gm c l.flatten:=by
  intro l;induction l with
  |nil=>rfl
  |cons d r a=>simp only[bR,bW,a];unfold gm;rw[li]
 rw[g,e];unfold gm at*;rw[li,f,du];rfl
def jn.BW(l:jn j)(g:qL j r b)(x:E)(n:x∈cA j)(c:x.key=r):∃s:b<y j,x∈j[b].all:=by
 obtain⟨t,h,d⟩:=np.1 n;obtain⟨q,f,rfl⟩:=eC h;have e:=(l.pure _ h).EO d;rcases nJ q b with i|i|i;have:=yQ e<|g.low q f i;rw[c,fT]at this;cases this;grind
 (have a:b<y j:=by omega);obtain⟨p,o,k⟩:=(l.pure _<|ar a).yP;have m:=g.wz b a<|ag _;have:=l.pair a f i o d;rw[k,c,m]at this;cases this
def jn.zC(h:jn j)(b:qL j r (y j))(d:U):iI d (cA j) r=none:=by
 refine rQ<|λx c a=>?_;obtain⟨e,_⟩:=h.BW b x c a;omega
def jn.Do(h:jn j)(e:qL j r b)(d:b<y j)(c:U):iI c (cA j) r=iI c j[b].all r:=by
 have:=BX (cs:=j.map bB.all) (k:=r) (i:=b) (by simpa using d) (λx f a=>by obtain⟨_,g⟩:=h.BW e x f a;grind) h.GW c;unfold cA;grind
def AA(b:ae)(h:jh a d j)(S:Cn j):cY bA 218 #[d,am b] a λK V=>∃l:M,K=aN (aq l)/\qL j b l/\Below (z<|G a) a V:=by
 have L:Below (z<|G a) a (dd (dd a<|ay #[d] 76)<|ay #[am b] 9):=((Below.refl _ a).alloc (ag _) _).alloc (by simp) _;have P:=h.below L;have T:=h.small
 have D:=Ar (f:=249) #[aD<|z<|G a,aD<|z (G a)+1] (y j) (λi=>if k:i<y j then !jj (jF j[i].ks) b else cf) (dd (dd a<|ay #[d] 76)<|ay #[am b] 9) (enters_of func249 (by kernel_rfl) rfl) (by omega) (by
  intro aa N A p Q;have o:aa<y j:=by omega
  simp only[p,o,AU]at Q|-;rcases mR A with ac|ac
  .have g:=cV.1 S aa N o p ac;grind[la]
  grind)
  (by
   intro i k W g;have x:=P.below g;have B:eX W (z (G a)) d 76:=(g.block _ (by simp;omega)).trans (eX.alloc (aK _ rfl) _);have C:eX W (z (G a)+1) (am b) 9:=(g.block _ (by simp)).trans (aK _ (by simp));apply(Nk b x B C i k).mono;rintro K W'⟨rfl,q,rfl⟩;simp only[k,AU];exact⟨trivial,below_drewN (Below.refl _ _) _⟩)
 have m:=X D;have HB:=X L;have hv:=h.row.2;have E:(d=az/\y j=0)\/∃N c n,d=bI N c (y j) n:=by grind
 have r:∀(K:Ending)(F:Y)(l:M),l<=y j->(∀i,i<l->(if k:i<y j then !jj (jF j[i].ks) b else cf)=bw)->(∀i,l<=i->i<y j->(if k:i<y j then !jj (jF j[i].ks) b else cf)=cf)->qL j b l:=by intro K F l e s v;refine⟨e,λi k g=>?_,λi k g=>?_⟩;(have:=s i g;grind);grind
 rcases E with⟨rfl,O⟩|⟨N,c,n,rfl⟩;(.obtain rfl:j=[]:=aS O;(go_in);(go_wp2_with(go_at_call 204;refine m.mono ?_;rintro K F⟨l,rfl,e,s,v,w⟩;have t:=X e;have u:=X w));go_ret;have e:=J t;refine⟨l,rfl,⟨e,(by simp),(by simp)⟩,HB.trans<|u.mono HB.size⟩);(go_in);(go_wp2_with(go_at_call 204;refine m.mono ?_;rintro K F⟨l,rfl,e,s,v,w⟩;have t:=X e;have g:=X s;have o:=X v;have u:=X w));go_ret;exact⟨l,rfl,r (aN .nilIface) a l t g o,HB.trans<|u.mono HB.size⟩
structure tw(V:ja)(n0:M)(v:ab)(ts:cP)(w:Y):Prop where
 row:Row w 1 v (y ts) (ts.map bB.ptr)
 loc:∀k,cI v=H k->k<n0/\¬V.F k
 each:∀t∈ts,nT V n0 t.tb t.ks t.cs w
 side:jn ts
 small:y ts<=1000000000
def nT.VD(l:nT s b Q.tb Q.ks Q.cs a):OW a Q:=by
 obtain⟨j,d,cut,e,h,i,f,c,g,k,_⟩:=l.mem;exact⟨j,d,cut,e,h,i,f,c,g,k⟩
def tw.mem(h:tw s c d j a)(f:c<=z (G a)):jh a d j:=⟨h.row,λk e=>ai (h.loc k e).1 f,λt g=>(h.each t g).VD,h.small⟩
def Row.same{V:ja}{n0:M}{S:fh}(p:Row a b d c B)(l:kS V n0 S a f)(m:∀n,cI d=H n->n<n0/\¬V.F n):Row f b d c B:=by
 obtain⟨j,h⟩:=p;refine⟨j,?_⟩;rcases h with h|⟨o,e,g,rfl,i,k⟩;exact .inl h;exact .inr ⟨o,e,g,rfl,i,λj u h=>l.cell (.inr<|m o rfl)<|k j u h⟩
def tw.same{V:ja}{n0:M}(h:tw V n0 d j a)(b:kS V n0 aw a f):tw V n0 d j f:=⟨h.row.same b h.loc,h.loc,λt c=>(h.each t c).same b,h.side,h.small⟩
def tw.cell{k b c d o:M}(l:tw s k (bI b c o d) j a){i:M}(n:i<y j):aW a (R b<|c+i)=H j[i].ptr:=by
 obtain⟨_,⟨g,_⟩|⟨b',h,e,g,_,m⟩⟩:=l.row;cases g;grind
def tw.shape(h:tw s b d j a):(d=az/\j=[])\/∃f c e,d=bI f c (y j) e:=by
 rcases h.row.2 with⟨g,i⟩|⟨f,c,e,g,_⟩;grind
 grind
theorem NB(k:M)(n:ae)(h:tw s b d j a)(Q:eX a c d 76)(O:eX a i (aq k) 3)(P:eX a l (am n) 9)(hD:s.D a)(t:b<=z (G a))(hF:∀k,s.F k->k<b)(D:b<=c)(B:b<=i)(C:b<=l)(o:M)(x:k+o<y j):cY bA 312 #[aq o,aD c,aD i,aD l] a λK f=>(∃v p,K=aN (dA #[v,.nilIface])/\jp s b v (gm n j[k+o].all) p f/\s.D f/\Z s.F a f/\(∀k,p k->z (G a)<=k))\/∃ad,EA s a f s.F K (λd=>dA #[ad,d]):=by
 rcases h.shape with⟨_,h0⟩|⟨F,e,q,rfl⟩;grind
 have c1:=Q.cell;have c2:=O.cell;have c3:=P.cell;have E:=h.cell x;have N:=(h.loc F rfl);have ac:=h.small;have r:cY bA 313 #[j[k+o].ptr,am n] a.drew λK f=>∃v p,K=aN v/\jp s b v (gm n j[k+o].all) p f/\s.D f/\Z s.F a.drew f/\(∀k,p k->z (G a)<=k):=DP (n0:=b) (tbqq:=j[k+o].tb) (ks:=j[k+o].ks) (cs:=j[k+o].cs) n ((h.each _<|ar x).same ⟨ag _,λ_ _=>rfl⟩) (s.fc hD (dh aw a) cJ) t hF
 have w:=X (show∀f,Z s.F a.drew f->aW f (R c 0)=H (bI F e (y j) q)/\aW f (R i 0)=H (aq k)/\aW f (R F<|e+(k+o))=H j[k+o].ptr/\aW f (R l 0)=H (am n)from by
  intro f g;have A:∀x,b<=x->¬s.F x:=(by grind);exact⟨g.cell c1 (A _ D) (ak Q),g.cell c2 (A _ B) (ak O),g.cell E N.2 (ai N.1 t),g.cell c3 (A _ C) (ak P)⟩)
 have hW:Z s.F a a.drew:=dh _ _;generalize j[k+o]=T at*;obtain⟨u,hm⟩:∃u,k+o=u:=⟨_,rfl⟩;rw[hm]at E w x;have L:(k:U)+(o:U)=(u:U):=by omega
 have e1:(u:U)<(y j:U):=by omega
 have e2:(0:U)<=(u:U):=by omega
 have e3:u<1000000000:=by omega
 have e4:IntKind.i64.wrap (u:U)=(u:U):=by rw[bP];omega
 have e5:wrap64 (u:U)=(u:U):=by unfold wrap64;omega
 unfold bB.ptr at E w r;generalize T.all=al at*;generalize T.tb=m at*;go_in
 go_wp2_with fail
 go_region_held3(λa=>aW a (R c 0)=H (bI F e (y j) q)/\aW a (R i 0)=H (aq k)/\aW a (R F<|e+u)=H (aD m)/\aW a (R l 0)=H (am n)) (first|assumption|go_keep) (first
  |(go_at_call 313;refine r.mono ?_;rintro K w1⟨v1,S1,rfl,r1,r2,S,r4⟩;have aa:=w w1 S;have V:=X r1;have W:=X r2;have R3:=X S;have R4:=X r4))
 go_wp2;go_ret2
 exact .inl ⟨v1,S1,rfl,V,W,hW.trans R3<|λ_ c=>.inl c,R4⟩
def WG(V:ja)(a:M)(v:ab)(g d e k:M)(h:cP)(o:ae):Ad V a (((h.drop k).map bB.all).map<|gm o)where
 f:=312
 cb:=#[aD g,aD d,aD e]
 inv:=λW=>tw V a v h W/\(eX W g v 76/\eX W d (aq k) 3/\eX W e (am o) 9)/\(a<=g/\a<=d/\a<=e)/\a<=z (G W)/\∀k,V.F k->k<a
 S:=λx=>x=g\/x=d\/x=e
 Vq:=enters_of func312 (by kernel_rfl) rfl
 call:=by
  rintro r q w⟨m,⟨i,j,l⟩,n,c,hF⟩p;have b:k+r<y h:=by grind
  rw[kX,kX,ql];grind[NB]
 fc:=by
  rintro W p⟨m,⟨i,j,l⟩,n,c,hF⟩b;exact⟨m.same<|b.mono cJ,⟨i.same b<|.inl rfl,j.same b<|.inr<|.inl rfl,l.same b<|.inr<|.inr rfl⟩,n,aB c b.1,hF⟩
 lt:=by
  grind
def TZ(g:ae)(h:tw s b d j a)(hD:s.D a)(i:b<=z (G a))(hF:∀k,s.F k->k<b):cY bA 309 #[d,am g] a λw n=>∃r o,w=aN r/\jp s b r (gm g<|cA j) o n/\s.D n/\Z s.F a n/\(∀k,o k->z (G a)<=k):=by
 have u:Below (z<|G a) a (dd (dd a<|ay #[d] 76)<|ay #[am g] 9):=((Below.refl _ a).alloc (ag _) _).alloc (by simp) _;have v:=AA g ((h.mem i).below u) h.side.BK;have ad:=h.small;have F:=h.shape
 have W:=X (show∀(e:Y)(k:M),Below (z<|G<|dd (dd a<|ay #[d] 76)<|ay #[am g] 9) (dd (dd a<|ay #[d] 76)<|ay #[am g] 9) e->qL j g k->cY bA 311 #[aq ((y j-k:M):U),.func (.func 312) #[] #[aD<|z<|G a,aD<|z<|G e,aD<|z (G a)+1]] (dd e<|ay #[aq k] 3) λw n=>∃r o,w=aN r/\jp s b r (gm g<|cA j) o n/\s.D n/\Z s.F a n/\(∀k,o k->z (G a)<=k)from by
  intro e k c p;have q:=c.size;simp at q;have l:Z aw a (dd e<|ay #[aq k] 3):=(((Z.aQ (S:=aw) u).cz<|Z.aQ (S:=aw) c).alloc _);have K:eX e (z<|G a) d 76:=(c.block _ (by simp;omega)).trans<|eX.alloc (aK _ rfl) _;have L:eX e (z (G a)+1) (am g) 9:=(c.block _<|by simp).trans (aK _<|by simp);have E:tw s b d j (dd e<|ay #[aq k] 3):=h.same<|l.same i cJ cJ;have f:=JC (WG s b d (z<|G a) (z<|G e) (z (G a)+1) k j g) (dd e<|ay #[aq k] 3) ⟨E,⟨K.alloc _,aK _ rfl,L.alloc _⟩,⟨i,by omega,by omega⟩,aB i l.size,hF⟩ (aB i l.size) hF (by simp;omega);have hl:y (((j.drop k).map bB.all).map<|gm g)=y j-k:=by simp
  rw[hl]at f;apply f.mono;rintro w n⟨r,o,rfl,hg,hb,hS⟩;rw[h.side.Dm g p]at hg;have m:=l.cz (Z.aQ (S:=aw) hb);refine⟨r,o,rfl,hg,s.fc hD m cJ,m.mono cJ,λan hx=>?_⟩;have al:=l.size;rcases hS an hx with(aa|aa|aa)|aa<;>omega)
 have HY:=X (show∀e,Below (z<|G<|dd (dd a<|ay #[d] 76)<|ay #[am g] 9) (dd (dd a<|ay #[d] 76)<|ay #[am g] 9) e->aW e (R (z<|G a) 0)=H d/\z (G a)<z (G e)from by intro e c;have q:=c.size;simp at q;exact⟨eX.cell (t:=76)<|(c.block _ (by simp;omega)).trans<|eX.alloc (aK _ rfl) _,by omega⟩);rcases F with⟨rfl,rfl⟩|⟨ao,N,ac,rfl⟩;(·(go_in);(go_wp2_with fail);apply v.mono;rintro w e⟨k,rfl,p,c⟩;obtain rfl:k=0:=Nat.le_zero.1 p.le;have f:=W e 0 c p;obtain⟨y1,y2⟩:=HY e c;(go_wp2_with fail);apply f.mono;rintro w w2⟨V,D,rfl,O,P,Q,T⟩;have x:=X O;have A:=X P;have B:=X Q;have C:=X T;go_wp2;go_ret;exact⟨V,D,rfl,x,A,B,C⟩);(go_in);(go_wp2_with fail);apply v.mono;rintro w e⟨k,rfl,p,c⟩;have E:=p.le;have f:=W e k c p;obtain⟨y1,y2⟩:=HY e c;obtain⟨l,m⟩:∃l,y j-k=l:=⟨_,rfl⟩;rw[m]at f;(have K:(y j:U)-(k:U)=(l:U):=by omega);(have L:l<=1000000000:=by omega);(have q6:IntKind.i64.wrap (l:U)=(l:U):=by rw[bP];omega);(go_wp2_with fail);apply f.mono;rintro w w2⟨V,D,rfl,O,P,Q,T⟩;have x:=X O;have A:=X P;have B:=X Q;have C:=X T;go_wp2;go_ret;exact⟨V,D,rfl,x,A,B,C⟩
def Ph(h:qL j r b)(a:qL j r c):b=c:=by
 rcases nJ b c with e|e|e;have f:=a.low b (by have:=a.le;omega) e;have d:=h.wz b (by have:=a.le;omega)<|ag _;rw[f]at d;cases d;exact e;have f:=h.low c (by have:=h.le;omega) e;have d:=a.wz c (by have:=h.le;omega)<|ag _;rw[f]at d;cases d
def Fo:∀{f:cP},Cn f->∀a,∃k,qL f a k
 |[],_,_=>⟨0,ag _,(by simp),(by simp)⟩
 |t::f,h,a=>by
  obtain⟨j,g⟩:=bz.1 h;cases e:jj (jF t.ks) a with
  |true=>
   obtain⟨k,d⟩:=Fo g a;refine⟨k+1,Nat.succ_le_succ d.le,λi b c=>?_,λi b c=>?_⟩
   .cases i with
    |zero=>exact e
    |succ i=>exact d.low i (by simpa using b)<|by omega
   .cases i with
    |zero=>omega
    |succ i=>exact d.wz i (by simpa using b)<|by omega
  |false=>
   refine⟨0,bK _,(by simp),λi b _=>?_⟩;grind[getElem_mem,la]
def Ua(c:ae)(t:U)(h:tw s b d j a)(hD:s.D a)(l:b<=z (G a))(hF:∀r,s.F r->r<b):cY bA 308 #[d,am c,aG t] a λT B=>Sn s a B (iI t (cA j) c) T:=by
 obtain⟨r,w⟩:=Fo h.side.BK c;have o:Below (z<|G a) a (dd a<|ay #[am ⟨#[]⟩,am ⟨#[]⟩,aM bw,aG 0] 171):=(Below.refl _ a).alloc (ag _) _;have av:=h.small;have N:cY bA 218 #[d,am c] (dd a<|ay #[am ⟨#[]⟩,am ⟨#[]⟩,aM bw,aG 0] 171) λT B=>T=aN (aq r)/\Below (z<|G a) a B/\jb B (z<|G a) zE:=by apply(AA c ((h.mem l).below o) h.side.BK).mono;rintro T B⟨v,rfl,x,g⟩;obtain rfl:r=v:=Ph w x;exact⟨rfl,o.trans<|g.mono o.size,(g.block _<|by simp).trans<|aK _ rfl⟩
 have L:∀au,b<=au->¬s.F au:=(by grind);obtain⟨F,C,f⟩:=dF L (λW(n:Below (z<|G a) a W)=>s.fc hD (Z.aQ (S:=aw) n) cJ)<|λW(n:Below (z<|G a) a W)=>h.same<|(Z.aQ (S:=aw) n).same l cJ cJ;by_cases p:r<y j;(.rcases h.shape with⟨_,h0⟩|⟨ax,A,al,rfl⟩;(grind);rw[h.side.Do w p t];have HC:=X<|λW(n:Below (z<|G a) a W)=>(f W n).cell p;have v:=X<|λW(n:Below (z<|G a) a W)=>DQ (n0:=b) (tbqq:=j[r].tb) (ks:=j[r].ks) (cs:=j[r].cs) c t ((f W n).each _<|ar p) (C W n) (aB l n.size) hF;have K:∀W,Below (z<|G a) a W->cY bA 310 #[aD<|j[r].tb,am c,aG t] W λT B=>Sn s W B (iI t j[r].all c) T:=J v;(have e1:((r:U)==(y j:U))=bw:=by simp;omega);(have e2:(r:U)<(y j:U):=by omega);(have e3:(0:U)<=(r:U):=by omega);unfold bB.ptr at HC;generalize iI t j[r].all c=fe at*;generalize j[r].tb=P at*;have v:=X K;(go_in);(go_wp2_with(go_at_call 218;refine N.mono ?_;rintro T Q⟨rfl,k,e⟩;have hc:=HC Q k;have ap:=v Q k;have u:=X e;have m:=X k));refine ap.mono ?_;rintro T w2⟨⟨xk,xv,xd,V⟩,ok,ev,rfl,ao,an,O⟩;have g:=u.aj O<|F _ l;obtain⟨z0,z1,z2,z3⟩:=g.cells;have y0:=g.free (i:=0);have y1:=g.free (i:=1);have y2:=g.free (i:=2);have y3:=g.free (i:=3);obtain⟨D,aa,ad,ac⟩:=gw g an O ao;unfold E.value;simp only;go_wp2;refine cy (fV rfl _ _ (z<|G a) ⟨xk,xv,xd,V⟩ _ _ rfl<|D.put ⟨xk,xv,xd,V⟩) rfl ?_;have x:=jc w2 (z<|G a) ⟨xk,xv,xd,V⟩;exact⟨⟨xk,xv,xd,V⟩,ok,ev,rfl,ac.imp id<|λ⟨a,b,c,q,d,e⟩=>⟨a,b,c,q,d,e.aj x D.sep⟩,s.fc aa x (λau hx=>by subst hx;exact F _ l),((Z.aQ (S:=s.F) m).trans ad<|λr w=>.inl w).trans x<|by simp⟩);(·(have x:r=y j:=by have:=w.le;omega);subst x;have g:=h.side.zC w t;rw[g];rcases h.shape with⟨rfl,rfl⟩|⟨ax,A,al,rfl⟩;(all_goals clear h w hD hF L o g p f;(go_in);(go_wp2_with(go_at_call 218;refine N.mono ?_;rintro T Q⟨rfl,k,e⟩;obtain⟨z0,z1,z2,z3⟩:=e.cells;have y0:=e.free (i:=0);have y1:=e.free (i:=1);have y2:=e.free (i:=2);have y3:=e.free (i:=3);have u:=X e;have m:=X k));refine cy (fV rfl _ _ (z<|G a) zE _ _ rfl<|u.put zE) rfl ?_;have v:Below (z<|G a) a (yC Q (z<|G a) zE):=m.trans ((jc Q (z<|G a) zE).below m.size<|λau hx=>by omega);exact⟨zE,bw,.nilIface,rfl,.inl rfl,C _ v,Z.aQ v⟩))
def JS{w:Y}(t:bB)(h:OW w t)(A:sN t.ks<=1000000000):cY bA 229 #[t.ptr] w λW Q=>W=aN (aq (sN t.ks:M))/\Below (z<|G w) w Q:=by
 obtain⟨V,k,cut,o,P,q,b,g,x,f⟩:=h;obtain⟨u,a,T,num⟩:=t;simp only at A f|-;unfold bB.ptr;simp only;have B:=cellAt f.box 5 rfl;have m:=f.lt;have D:=f.small;have v:=X f.cells;go_in
 go_wp2;go_loopw [3,11] (λc i wr=>∃n:M,n<=y a/\i=aq n/\c=aq (sN (a.take n):M)/\Below (z<|G w) w wr) (λ_ i _=>y a-(intOf i).toNat)
 case atStart=>exact⟨0,bK _,rfl,rfl,Below.refl _ _⟩
 (case round=>obtain⟨n,hn,rfl,rfl,i⟩:=hrel;have C:=Dv a n;have c:=Dv a<|n+1;by_cases j:n<y a;(.have e:∀c g,c<5->(rV.cells a[n])[c]?=H g->aW wr (R q<|b+n*5+c)=H g:=λc g d f=>(i.cell (p:=(R q<|b+n*5+c)) m.2).trans (by rw[bD];exact v _ _<|(iL a n c j d).trans f);rw[ah j,Dw]at c;have d:=X (show sN (a.take<|n+1)=sN (a.take n)+a[n].count by rw[ah j,Dw]);generalize a[n]=aa at*;obtain⟨pos,s,l,first,r⟩:=aa;have F:=e 0 _ (by omega) rfl;have K:=e 1 _ (by omega) rfl;have L:=e 2 _ (by omega) rfl;have N:=e 3 _ (by omega) rfl;have O:=e 4 _ (by omega) rfl;simp only[kL]at F K L N O;simp only at c d;generalize sN (a.take n)=S at*;have HB:=X i;have E:=i.size;go_wp2;go_roundw;(case rel=>exact⟨n+1,j,by go_num,by rw[J d];go_num,HB.alloc E _⟩);case measure=>simp[intOf];omega);(have d:n=y a:=by omega);subst d;rw[aY];have HB:=X i;go_wp2;go_ret;exact⟨rfl,HB⟩)
def ku(a:cP):M:=(a.map<|λt=>sN t.ks).sum
def JA(a:cP)(t:bB):ku (a++[t])=ku a+sN t.ks:=by simp[ku]
def Jz(a:cP)(n:M):ku (a.take n)<=ku a:=by
 have h:=bS (λl=>(l.map (λt:bB=>sN t.ks)).sum)<|bO n a;simp only[aE,ga]at h;unfold ku;omega
def XU(h:Q∈j):sN Q.ks<=ku j:=by
 induction j with
 |nil=>cases h
 |cons b r a=>
  unfold ku at*;grind
def jh.cell{b c d n:M}(k:jh a (bI b c n d) j){i:M}(m:i<y j):aW a (R b<|c+i)=H j[i].ptr:=by
 obtain⟨_,⟨g,_⟩|⟨b',h,e,g,_,l⟩⟩:=k.row;cases g;grind
def jh.shape(h:jh a d j):(d=az/\j=[])\/∃e b c,d=bI e b (y j) c/\y j<=c:=by
 rcases h.row.2 with⟨f,g⟩|⟨e,b,c,f,g,_⟩;grind
 grind
def AB(h:jh a d j)(B:ku j<=1000000000):cY bA 217 #[d] a λx w=>x=aN (aq (ku j:M))/\Below (z<|G a) a w:=by
 have v:=h.small;rcases h.shape with⟨rfl,rfl⟩|⟨E,m,s,rfl,_⟩;(.clear h;(go_in);go_wp2;(go_loopw [3,8] (λr o wr=>o=aq 0/\r=aq 0/\wr=a) (λ_ _ _=>0));(case atStart=>grind);(case round=>obtain⟨rfl,rfl,rfl⟩:=hrel;go_wp2;go_ret;exact⟨rfl,Below.refl _ _⟩));(.have q:=X h;(go_in);go_wp2;(go_loopw [3,8] (λr o wr=>∃n:M,n<=y j/\o=aq n/\r=aq (ku (j.take n):M)/\Below (z<|G a) a wr) (λ_ o _=>y j-(intOf o).toNat));(case atStart=>exact⟨0,bK _,rfl,rfl,Below.refl _ _⟩);(case round=>obtain⟨n,C,rfl,rfl,k⟩:=hrel;have t:=Jz j n;have e:=Jz j<|n+1;by_cases b:n<y j;(.have c:=q.below k;have u:=c.cell b;rw[ah b,JA]at e;have i:=X (show ku (j.take<|n+1)=ku (j.take n)+sN j[n].ks by rw[ah b,JA]);have f:=JS (w:=wr) j[n] (c.each _<|ar b) (by have:=XU<|ar b;omega);unfold bB.ptr at u f;generalize sN j[n].ks=F at*;generalize j[n].tb=p at*;generalize ku (j.take n)=A at*;have HB:=X k;(go_wp2_with fail);apply f.mono;rintro x D⟨rfl,l⟩;have g:=X l;go_wp2;go_roundw;(case rel=>exact⟨n+1,b,by go_num,by rw[J i];go_num,HB.trans<|g.mono HB.size⟩);case measure=>simp[intOf];omega);(have c:n=y j:=by omega);subst c;rw[aY];have HB:=X k;go_wp2;go_ret;exact⟨rfl,HB⟩))
section
open Shelf
attribute [local go_sem] Oper.semAt_some
def oX(v:ab):M->dX->ix
 |_,[]=>[]
 |n,p::a=>Ap v n (y p)::oX v (n+y p) a
def Hs(v:ab):∀(n:M)(a:dX),y (oX v n a)=y a
 |_,[]=>rfl
 |n,p::a=>by rw[oX,aO,aO,Hs]
def DW(v:ab)(p:cU):∀(n:M)(a:dX),oX v n (a++[p])=oX v n a++[Ap v (n+y a.flatten)<|y p]
 |_,[]=>by simp[oX]
 |n,q::a=>by
  rw[cR,oX,DW,oX,cR,bW,af,bD]
structure EG(W:Y)(base N1:M)(v pv:ab)(ps:dX)(t:M):Prop where
 p:eX W N1 pv 346
 f:eX W (N1+1) (aq<|y ps.flatten) 3
 to:eX W (N1+2) (aq t) 3
 o:W.ownsRow base 73 1 pv (y ps) (oX v 0 ps)
 I9:∀k,cI pv=H k->k<N1\/N1+4<=k
 size:N1+4<=z (G W)
 bs:base<=N1
def Lw(a:M)(b:ab)(k:M):Prop:=(a<=k/\k<a+3)\/cI b=H k
def EG.aj{T:fh}(h:EG a c l d t m V)(e:Z T a A)(g:∀k,Lw l t k->¬T k):EG A c l d t m V:=⟨h.p.aj e<|g _<|.inl ⟨by omega,by omega⟩,h.f.aj e<|g _<|.inl ⟨by omega,by omega⟩,h.to.aj e<|g _<|.inl ⟨by omega,by omega⟩,e.own h.o<|λk j=>g k<|.inr j,h.I9,aB h.size e.size,h.bs⟩
def EG.at(h:EG a c l d t m V)(n:M):EG (cH a (R (l+2) 0)<|aq n) c l d t m n:=⟨h.p.other _ (by omega),h.f.other _ (by omega),h.to.set _,(fy a _ 0 _).own h.o (λk e g=>by have:=h.I9 k e;omega),h.I9,by rw[im];exact h.size,h.bs⟩
def EG.more{g:dX}{p:cU}(r:EG a b c d t g l)(u:eJ a f t L)(C:l=y g.flatten+y p)(A:f.ownsRow b 73 1 L (y g+1) (oX d 0 g++[Ap d (y g.flatten)<|y p])):(aW f (R c 0)=H t/\f.frozen? (R c 0)=bw)/\(aW (cH f (R c 0) L) (R (c+1) 0)=H (aq<|y g.flatten)/\(cH f (R c 0) L).frozen? (R (c+1) 0)=bw)/\aW (cH f (R c 0) L) (R (c+2) 0)=H (aq l)/\EG (cH (cH f (R c 0) L) (R (c+1) 0)<|aq l) b c d L (g++[p]) l/\Z (Lw c t) a (cH (cH f (R c 0) L) (R (c+1) 0)<|aq l)/\∀k,Lw c L k->Lw c t k\/z (G a)<=k:=by
 have e:=Z.fN u;have D:=r.size;have w:∀x,c<=x->x<c+3->¬(cI t=H x):=λx e h j=>by have:=r.I9 x j;omega
 have n:=r.p.aj e (by grind);have o:=(r.f.aj e<|by grind).other (b':=c) (i:=0) L (by omega);have v:=(r.to.aj e<|by grind).other (b':=c) (i:=0) L (by omega);have h:∀k,cI L=H k->k<c\/c+4<=k:=by intro k s;rcases u.vQ with j|⟨x,j,B⟩;exact r.I9 k<|j▸s;grind
 refine⟨⟨n.cell,n.free⟩,⟨o.cell,o.free⟩,v.cell,⟨(n.set L).other _ (by omega),?_,v.other _ (by omega),?_,h,?_,r.bs⟩,?_,?_⟩;have:=o.set<|aq l;rw[C]at this|-;rw[dW,af];grind
 rw[af,DW,dM];refine(fy _ _ 0 _).own ((fy _ _ 0 _).own A ?_) ?_;(grind);grind
 rw[im,im];have:=e.size;omega;exact((e.mono (T:=Lw c t)<|λk s=>.inl<|.inr s).setCell _ 0 _<|.inl<|.inl ⟨by omega,by omega⟩).setCell _ 0 _<|.inl<|.inl ⟨by omega,by omega⟩;rintro k(j|j);exact .inl<|.inl j;rcases u.vQ with q|⟨x,q,B⟩;exact .inl<|.inr<|q▸j;grind
structure Ev(w:Y)(N1:M)(v:ab)(n L:M)(pre:ci (M×cU))(B:fh)(W:Y):Prop where
 ex:∃ps cur pv,EG W (z (G w)+2) N1 v pv ps (y<|iB pre)/\iB pre=ps.flatten++cur/\(∀rest,jO n L 0 0 [] (pre.map (·.2)++rest)=ps++jO n L (y ps) (y<|iB pre) cur rest)/\∀k,B k↔Lw N1 pv k
 l:eX W (z<|G w) v 73
 n:eX W (z (G w)+1) (aq n) 3
 aj:Z aw w W
def Ev.lt{g:ci (M×cU)}(p:Ev a c d i l g o A):∀k,o k->z (G a)+2<=k/\k<z (G A):=by
 obtain⟨q,h,r,e,_,_,j⟩:=p.ex;intro k m;have:=e.bs;have:=e.size;rcases(j k).1 m with n|n;grind
 have:=bN e.o k n;grind
def Ev.stays{e:ci (M×cU)}{T:fh}(k:Ev a b d c i e o f)(g:Z T f A)(s:∀p,T p->¬o p/\b+3<=p):Ev a b d c i e o A:=by
 obtain⟨q,h,r,j,l,m,n⟩:=k.ex;have:=j.bs;exact⟨⟨q,h,r,j.aj g (by grind),l,m,n⟩,k.l.aj g (by grind),k.n.aj g (by grind),k.aj.trans g<|by grind⟩
def Pj{gg:cU}{a:dX}(h:∀rest,jO b c 0 0 [] (m++rest)=a++jO b c (y a) i e rest):((y a+1)*c/b<=i+y gg->∀rest,jO b c 0 0 [] (m++[gg]++rest)=(a++[e++gg])++jO b c (y<|a++[e++gg]) (i+y gg) [] rest)/\(¬(y a+1)*c/b<=i+y gg->∀rest,jO b c 0 0 [] (m++[gg]++rest)=a++jO b c (y a) (i+y gg) (e++gg) rest):=by
 constructor;intro d rest;rw[bj,h,cR,du,oo,di d];simp;intro d rest;rw[bj,h,cR,du,oo,dt d]
def WW:(prog.info? 73).map (λi=>(i.zero,i.size,i.bytes))=H (H az,1,24):=by kernel_rfl
def SJ(h:kJ a d e)(hs:eh e)(hl:y e<=1000000)(w:∀k,cI d=H k->k<z (G a)):cY bA 219 #[d] a λea w'=>∃v',ea=aN v'/\w'.ownsRow (z<|G a) 73 1 v' (y<|gJ e) (oX d 0<|gJ e)/\Z aw a w':=by
 obtain⟨i0,bq,cd,ce,ch⟩:=dl WW;obtain⟨bc,n,cb⟩:=bZ h;have dk:=BN d bc (y e) n cb;obtain⟨N,hN⟩:∃N,sJ (y e)=N:=⟨_,rfl⟩;have ej:N<=10418:=by unfold sJ at hN;omega
 have cE:0<y e->0<N:=by unfold sJ at hN;omega
 have e1:Int.tdiv ((y e:U)+96-1) 96=(N:U):=by(have:((y e:U)+96-1)=((y e+95:M):U):=by omega);rw[this,<-hN];unfold sJ;grind
 unfold gJ;rw[hN];obtain⟨HN,cq,HH,HV⟩:=gw hN cE h w;subst cb;refine(eD (n:=3)).1 ?_;refine callsIn_of_wp_marks func219 rfl trivial ?_ rfl;simp only[ntmps219,gA,aO,dB,Nat.reduceAdd,Nat.reduceSub,ft,fq,gB,fM,du,cR]
 gi_wp2_with(first
  |(gi_at_make;go_loud(refine wpListIn_make_own _ rfl _ _ 346 rfl (z (G a)+2) 73 i0 az 1 underlying346 bq cd ce _ _ _ N rfl rfl (by omega) (by rw[ch];omega) (by unfold maxLen;omega) (by simp) ?_;intro g eb C;have ax:eX g (z<|G a) (.slice bc (y e) n) 73:=(C.block _ (by simp<;>omega)<|by simp).trans<|eX.alloc (aK _ rfl) _;have aF:eX g (z (G a)+1) (.int .i64 N) 3:=(C.block _ (by simp<;>omega)<|by simp).trans (aK _<|by simp);have y0:=ax.cell;have y1:=aF.cell;have y2:=ak ax;have y3:=ak aF;have y4:z (G a)<z (G g)+1:=(by omega);have y5:z (G a)<z (G g)+1+1:=(by omega);have cl:=X ax;have cm:=X aF;have ap:Hid (g.ownsRow (z (G a)+2) 73 1 (bI (z (G a)+1+1) 0 0 N) 0 []):=X (by simp_all);have co:=X C))
  |(refine⟨trivial,?_⟩;gi_at_call 142;refine(eD.2 (dk _)).mono ?_;rintro ea w1⟨rfl,rfl⟩))
 obtain⟨W,s⟩:∃W,(dd (dd (dd (dd g<|ay #[bI (z (G a)+1+1) 0 0 N] 346)<|ay #[aq 0] 3)<|ay #[aq 0] 3)<|ay #[I bc (y e) n] 73)=W:=⟨_,rfl⟩;have ev:z (G W)=z (G g)+4:=by rw[<-s];simp
 have dv:Z aw a g:=(((Z.refl aw a).alloc<|ay #[I bc (y e) n] 73).alloc<|ay #[aq N] 3).cz (Z.ep (S:=aw) co<|by simp);have u:Z aw g W:=by rw[<-s];exact(((cO aw g).alloc _).alloc _).alloc _
 have bL:Z aw a W:=dv.cz u;have db:eX W (z (G g)+3) (I bc (y e) n) 73:=by rw[<-s];exact aK _<|by simp
 have bl:kJ W (I bc (y e) n) e:=HH.aj bL<|λk b=>⟨id,HV k b⟩;have hA0:Ev a (z<|G g) (I bc (y e) n) N (y e) [] (Lw (z<|G g)<|bI (z (G a)+1+1) 0 0 N) W:=by refine⟨⟨[],[],_,⟨?_,?_,?_,?_,?_,by omega,by omega⟩,rfl,λrest=>rfl,λk=>rK⟩,cl.aj u id,cm.aj u id,bL⟩;rw[<-s];grind[eX.alloc,aK];rw[<-s];exact eX.alloc (eX.alloc (aK _<|by simp) _) _;rw[<-s];exact eX.alloc (aK _<|by simp) _;exact u.own ap<|λ_ _ n=>n;intro k b;have:=(ap.lt k b).2;exact .inl this
 rw[s];refine se (m:=3) (arg:=Ic<|I bc (y e) n) (V:=BZ) (n0:=z<|G a) (gf:=209) (lb:=#[aD<|z (G g)+3]) (l:=ou 0<|iA e) (S:=λk=>k=z (G g)+3) ?geval (enters_of func209 (by kernel_rfl) rfl) (λ_=>rfl) (xA (z<|G a) 2 db bl HV (by omega)<|by omega) trivial (by omega) (λk b=>by omega) (λj ad bk=>Ev a (z<|G g) (I bc (y e) n) N (y e) j ad bk) (λ_ _ _ _=>False) _ hA0 (λk b n=>by rcases n with⟨_,n⟩|n;omega;have:=(ap.lt k n).2;omega) (λj ad bk F k b=>⟨by have:=(F.lt k b).1;omega,(F.lt k b).2⟩) ?st (λ_ _ _ _ _ _ h=>h.elim) ?body ?done ?stop;case geval=>rfl
 (case st=>intro j ad bk f T F ht c;refine F.stays ht<|λk b=>⟨(c k b).1,?_⟩;rcases(c k b).2 with n|n|n;omega;exact n.elim;omega);(case stop=>grind)
 case body=>
  rintro lr j⟨al,o⟩ad bk er cv bs D F _;obtain⟨hn,eA,b⟩:=KB hs D;have en:0<y o:=gN.2 b.ne;have eq:al+y o+y eA=y e:=by rw[b.all,hn];simp;omega
  obtain⟨cj,c,ei,hx,eo⟩:=bl.some (by omega);cases hx;have df:∀q∈j.map (·.2),q≠[]:=by
   obtain⟨_,an,ea⟩:=zy _ _ _ _ _ D;exactλq hq=>BM e q (by rw[<-ea];simp[hq])
  unfold Ic Ap;simp only;have P:=hn.symm;have HA:=X F;clear F D b hn;gi_wp2;refine⟨Z.refl _ _,λL bE=>?_⟩;have hA2:=HA.stays bE (λk b=>by grind);obtain⟨l,A,pv,w,hcut,v,hB⟩:=hA2.ex;rw[P]at w v;have es:y l<=al:=by
   have h1:=v [];rw[dz]at h1;have h2:l=jO N (y e) 0 0 [] (j.map (·.2)):=by rw[h1];simp[jO]
   have h3:=Ed (ps:=l) (by rw[h2];exact Md _ _ _ _ df);have h4:=bS y hcut;rw[P,af]at h4;omega
  have dc:y l.flatten+y A=al:=by rw[<-P,hcut,af]
  obtain⟨px,pc,aV⟩:=aC w.o;have z0:=w.to.cell;have z1:=w.to.free;have dx:=w.at (al+y o);have ba:Z ad L (cH L (R (z (G g)+2) 0)<|aq ((al+y o:M):U)):=(Z.refl ad L).setCell _ 0 _<|.inl<|(hB _).2<|.inl ⟨by omega,by omega⟩;have dm:=hA2.l.aj ba (λn=>by have:=(HA.lt _ n).1;omega);have dn:=hA2.n.aj ba (λn=>by have:=(HA.lt _ n).1;omega);obtain⟨q,hq⟩:∃q,(y l+1)*y e/N=q:=⟨_,rfl⟩;obtain⟨ck,hp⟩:∃ck,(y l+1)*y e=ck:=⟨_,rfl⟩;have et:ck<=1000001*1000000:=by rw[<-hp];exact Nat.mul_le_mul (by omega) hl
  have a1:((y l:U)+1)*(y e:U)=(ck:U):=by rw[<-hp];grind
  have a2:Int.tdiv (ck:U) (N:U)=(q:U):=by rw[<-hq,hp];grind
  have ek:=cq (by omega);have bx:=Pj (gg:=o) v;rw[hq]at bx;have b1:((N:U)==0)=bw:=by simp;omega
  have b2:IntKind.i64.wrap (ck:U)=(ck:U):=by rw[bP];omega
  have eu:q<=ck:=by rw[<-hq,hp];exact Nat.div_le_self _ _
  have b3:IntKind.i64.wrap (q:U)=(q:U):=by rw[bP];omega
  have ed:¬((N:U)=0):=by omega
  have ef:¬(N=0):=by omega
  obtain⟨av,HB,au,K,bh,Q⟩:=lw dx hB ba bE bx hcut;obtain⟨bd,cr,bf,bg,ao⟩:=iY dc P dm dn hA2;subst aV;gi_wp2_with fail
  rw[show z (G g)+1+1=z (G g)+2 from rfl,show z (G g)+2+1=z (G g)+3 from rfl,show((al:U)+(y o:U))=((al+y o:M):U)by push_cast;rfl];generalize el:cH L (R (z (G g)+2) 0) (aq ((al+y o:M):U))=W3 at*;have s0:=av.to.cell;have s1:=av.p.cell;have s2:=bf.cell;have s3:=bg.cell;obtain⟨an,E⟩:∃an,al+y o=an:=⟨_,rfl⟩;rw[E]at s0|-;rename_i QQ KK cB;refine Cx (by kernel_rfl) (by kernel_rfl) (by kernel_rfl) (λey a h=>h) ?_;repeat(quiet_step (fail))
  refine wpQuiet_nil ?_;rintro _⟨nq,rfl⟩;show KK _ _;apply cB;have b4:IntKind.i64.wrap ((y l:U)+1)=(y l:U)+1:=by rw[bP];omega
  rw[b4,a1,b2,a2,b3];obtain⟨r,bn⟩:∃r,W3.drewN nq=r:=⟨_,rfl⟩;have p:Z aw W3 r:=by rw[<-bn];exact jl _ W3 nq
  rw[bn];have ca:=av.aj p<|λ_ _=>id;have ew:Z (λk=>ad k\/k=lr) bk r:=((K.mono<|λk b=>.inl<|.inr b).trans au<|λk b=>.inl<|.inl b).cz p;have aU:=bf.aj p id;have dr:=bg.aj p id;have bT:Z aw a r:=(ao.aj.trans au<|λk b=>.inr (by have:=(ao.lt k b).1;omega)).cz p;have ac:Z ad L r:=au.cz p;have br:lr<z (G L):=ai bs.1 K.size;have em:z (G bk)<=z (G L):=K.size;have T:=X (show∀(O:Y)(pf:ab)(f:dX)(cu:cU),EG O (z (G a)+2) (z<|G g) (bI cj c (y e) n) pf f (al+y o)->iB j++o=f.flatten++cu->(∀rest,jO N (y e) 0 0 [] (j.map (·.2)++[o]++rest)=f++jO N (y e) (y f) (al+y o) cu rest)->Z ad r O->(∀k,Lw (z<|G g) pf k->ad k\/z (G r)<=k)->CX BZ (λj ad bk=>Ev a (z<|G g) (bI cj c (y e) n) N (y e) j ad bk) (λ_ _ _ _=>False) (j++[(al,o)]) ad bk L lr .normal ⟨#[],[]⟩ O fromλO pf f cu h1 h2 h3 h4 h5=>by
   have e1:iB (j++[(al,o)])=iB j++o:=uv _ _ _;have e2:y (iB<|j++[(al,o)])=al+y o:=by rw[e1,af,J cr]
   have B:∀k,ad k->z (G a)+2<=k:=λk b=>(ao.lt k b).1;have t:Z ad L O:=ac.trans h4 (λk b=>.inl b);refine⟨trivial,Lw (z (G g)) pf,⟨⟨f,cu,pf,by rw[e2];exact h1,by rw[e1];exact h2,by rw[e2,aE];exact h3,λk=>rK⟩,aU.aj h4 (λn=>by have:=B _ n;omega),dr.aj h4 (λn=>by have:=B _ n;omega),bT.trans h4 (λk b=>.inr (by have:=B k b;omega))⟩,(K.mono (λk b=>.inl (.inr b))).trans t (λk b=>.inl (.inl b)),t.block lr br cv,λk b=>(h5 k b).imp_right (λn=>by have:=ac.size;omega)⟩)
  have bp:y l.flatten<=an/\y l.flatten<an:=by have:=J bd;omega
  by_cases bv:q<=an
  .have ds:(q:U)<=(an:U):=by omega
   have O:∀f:Y,Z aw r f->EG f (z (G a)+2) (z<|G g) (bI cj c (y e) n) (I px (y l) pc) l an:=λf ht=>E▸ca.aj ht (λ_ _=>id);have cn:=X O;have cp:=X aU;obtain⟨aa,hf⟩:∃aa,y l.flatten=aa:=⟨_,rfl⟩;have bi:=X (show∀f:Y,Z aw r f->aW f (R (z<|G g) 0)=H (I px (y l) pc)/\aW f (R (z<|G a) 0)=H (bI cj c (y e) n)/\aW f (R (z (G g)+1) 0)=H (aq (aa:U))/\aW f (R (z (G g)+2) 0)=H (aq (an:U))fromλf ht=>⟨(O f ht).p.cell,(aU.aj ht id).cell,hf▸(O f ht).f.cell,(O f ht).to.cell⟩);rw[hf]at bp;have Hf:=X hf;have cM:=bi r.drew<|dh _ r;have b4:(aa:U)<=(an:U):=by omega
   have b5:(an:U)<=(n:U):=by omega
   have b6:¬(n-aa=0):=by omega
   have b7:(0:U)<=(aa:U):=by omega
   have eg:¬(n=aa):=by omega
   gi_wp2_with fail
   rename_i ec cs bm;refine uO (λf=>aW f (R (z<|G g) 0)=H (I px (y l) pc)/\aW f (R (z<|G a) 0)=H (bI cj c (y e) n)/\aW f (R (z (G g)+1) 0)=H (aq (aa:U))/\aW f (R (z (G g)+2) 0)=H (aq (an:U))) 7 (by kernel_rfl) (by kernel_rfl) (λey a h=>h) ?_;refine fw 0 ?_;iterate 5 (refine iS (v:=?_) cM rfl (by kernel_rfl) lQ rfl ?_ ?_;rotate_left;(focus(rintro f⟨z0,z1,z2,z3⟩;go_simp;try rfl));simp only[Act.put,ig,Nat.reduceAdd])
   apply iG;refine bG (i:=5) rfl rfl (by kernel_rfl) ?_;intro K5 cu;go_simp;have B:Z aw r (dd r<|ay #[bI cj (c+aa*4) (an-aa)<|n-aa] 73).drew:=(cO _ r).of_heap rfl;have t:=cn _ B;have ex:=t.size;refine cu _ _ (λ_=>bi _ B) ?_;refine bG (i:=6) rfl rfl (by kernel_rfl) ?_;intro K6 cw;simp only[da,cD,cG];refine kE (.tmp 32) (.tmp 37) 346 rfl (z (G a)+2) 73 i0 az 1 24 underlying346 bq cd ce ch rfl (by decide) (I px (y l) pc) (y l) (oX (bI cj c (y e) n) 0 l) rfl t.o (R (z<|G r) 0) 1 1 [bI cj (c+aa*4) (an-aa)<|n-aa] rfl rfl (qf _ _ _) (by simp[Value.oneCell']) (by omega) (by omega) (by grind) ?_;intro v6 w6 bu cc;obtain⟨x6,c6,dT⟩:=aC bu;subst dT;obtain⟨⟨y0,y1⟩,⟨y4,y5⟩,y6,cT,cS,cN⟩:=t.more (p:=A++o) cc (by rw[af];have:=J bd;omega) (by
    have ea:Ap (bI cj c (y e) n) (y l.flatten) (y<|A++o)=bI cj (c+aa*4) (an-aa) (n-aa):=by
     unfold Ap;grind[J,length_append]
    rw[ea];exact bu)
   have bb:=Z.fN cc;have bt:∀bc,z (G g)<=bc->bc<z (G g)+3->¬(cI (I px (y l) pc)=H bc):=λbc h1 h2 q=>by have:=t.I9 bc q;omega
   refine cw _ _ (λ_=>⟨y0,((cp.aj B id).aj bb (λq=>by have:=(bN t.o _ q).1;omega)).cell,Hf▸(t.f.aj bb<|bt _ (by omega)<|by omega).cell,(t.to.aj bb<|bt _ (by omega)<|by omega).cell⟩) ?_;have bo:=T _ _ _ [] (E▸cT) (by rw[J Q];simp) (bh.1 (by rw[E];exact bv)) (((Z.refl aw r).cz B|>.mono cJ).trans cS<|λk b=>.inl<|(HB k).2 b)<|λk b=>(cN k b).imp (λn=>(HB k).2 n) (λn=>by have:=B.size;omega);have x:=X bo;rw[J Hf]at y4;refine bG (i:=7) rfl rfl (by kernel_rfl) ?_;intro K7 cx;go_simp;refine cx _ _ (λq=>(q rfl).elim) ?_;refine fm (by kernel_rfl) ?_ _;show cs _ _;refine bm _ _ ?_;gi_wp2;exact x
  .have ds:¬((q:U)<=(an:U)):=by omega
   have x:=X<|T r _ l (A++o) ca (by rw[J Q,bj]) (bh.2 (by rw[E];exact bv)) (Z.refl _ _)<|λk b=>.inl<|(HB k).2 b;gi_wp2;exact x
 (case done=>intro D ad bk K F o _ t;obtain⟨l,A,pv,w,hcut,v,hB⟩:=F.ex;rw[BV]at hcut w v;(have r:jO N (y e) 0 0 [] (iA e)=l:=by have:=v [];rw[Di,dz]at this;rw[this];simp[jO]);have f:=X r;obtain⟨px,pc,aV⟩:=aC w.o;have O:=w.p.cell;have p:cI pv≠H D:=λq=>o<|(hB D).2<|.inr q;obtain⟨B,x,E⟩:=dF w.o t F.aj;have L:=ak t;subst aV;gi_wp2;have c:=iw bk D<|.deferred none;refine⟨by simp,.inl ⟨_,_,rfl,run_takeDeferred x,?_⟩⟩;refine⟨_,kT rfl _ _ _,?_⟩;exact⟨_,rfl,by rw[J f];exact gl (c.own B<|λk b q=>p (by rw[<-q];exact b)) (by omega),E.trans c<|λk b=>.inr (by subst b;omega)⟩)
end
def jh.take{ts:cP}(h:jh a (bI b c (y ts) i) ts)(e:M)(m:e<=y ts):jh a (bI b c e i) (ts.take e):=by
 have j:y (ts.take e)=e:=by simp;omega
 have l:=h.shape;refine⟨⟨by simp,.inr ⟨b,c,i,by rw[j],?_,λp u d=>?_⟩⟩,λo g=>h.lt o g,λt k=>h.each t<|gC k,by have:=h.small;omega⟩;grind
 rw[vy,pE]at d;split at d;rename_i f;rw[fB,aR<|by omega]at d;cases d;exact h.cell (by omega);cases d
def jh.drop(h:jh a (bI b c (y j) i) j)(e:M)(n:e<=y j):jh a (bI b (c+e) (y j-e)<|i-e) (j.drop e):=by
 have k:y (j.drop e)=y j-e:=by simp
 have m:=h.shape;refine⟨⟨by simp,.inr ⟨b,c+e,i-e,by rw[k],?_,λo u f=>?_⟩⟩,λp g=>h.lt p (by simpa[cI]using g),λt l=>h.each t<|gD l,by have:=h.small;omega⟩;grind
 rw[List.map_drop,List.getElem?_drop]at f;(have d:e+o<y j:=by grind);rw[fB,aR d]at f;cases f;rw[bD];exact h.cell d
def jh.empty(h:jh a (bI b c l i) j)(d:M):jh a (bI b d 0 0) []:=⟨⟨rfl,(by simp)⟩,(λk e=>h.lt k<|by simpa[cI]using e),(by grind),bK _⟩
structure Ag(ts:cP)(lo hi:ae)(i j:M):Prop where
 A8:qL ts lo i
 le:i<=j
 jV:j<=y ts
 within:∀k(hk:k<y ts),i<=k->k<j->jj hi (jm ts[k].ks)=bw
 behind:∀(hj:j<y ts),jj hi (jm ts[j].ks)=cf
def NC(F q:ae)(h:jh a d j)(hs:Cn j):cY bA 151 #[d,am F,am q] a λW K=>∃i E Q S T,W=aN (dA #[Q,S,T])/\Ag j F q i E/\jh K Q (j.take i)/\jh K S ((j.drop i).take<|E-i)/\jh K T (j.drop E)/\(∀k,cI Q=H k\/cI S=H k\/cI T=H k->cI d=H k)/\Below (z<|G a) a K:=by
 have an:=h.small;have C:=AA F h hs;rcases h.shape with⟨rfl,rfl⟩|⟨ac,f,c,rfl,aa⟩;(.clear h hs;(go_in);(go_wp2_with fail);apply C.mono;rintro W V⟨k,rfl,e,t⟩;obtain rfl:k=0:=Nat.le_zero.1 e.le;have N:=X e;have HB:=X t;go_wp2;(go_loopw [10] (λE wr=>E=aq 0/\wr=V) (λ_ _=>0));(case atStart=>grind);(case round=>obtain⟨rfl,g⟩:=hrel;subst wr;(go_wp2_with fail);(go_quiet(fail));go_wp2;(go_ret3);have b:jh (V.drewN nq) az []:=⟨⟨rfl,.inl ⟨rfl,rfl⟩⟩,(by intro k e;cases e),(by grind),bK _⟩;exact⟨0,0,_,_,_,rfl,⟨N,ag _,ag _,(by simp),(by simp)⟩,b,b,b,(by simp_all),below_drewN HB _⟩))
 .have HL:=X h;have al:=Zn;go_in
  go_wp2_with fail
  apply C.mono;rintro W V⟨i,rfl,e,t⟩;have v:=e.le;have N:=X e;have HB:=X t;go_wp2;go_loopw [10] (λE wr=>∃n:M,i<=n/\n<=y j/\E=aq n/\(∀k(e:k<y j),i<=k->k<n->jj q (jm j[k].ks)=bw)/\Below (z<|G a) a wr) (λE _=>y j-(intOf E).toNat)
  case atStart=>exact⟨i,ag _,v,rfl,(by grind),HB⟩
  case round=>
   obtain⟨n,P,B,rfl,hw,hb⟩:=hrel;have g:=HL.below hb;obtain⟨ad,HW,l⟩:=dF g hw hb;have e1:(i:U)<=(n:U):=by omega
   have e2:(n:U)<=(y j:U):=by omega
   have e3:(i:U)<=(y j:U):=by omega
   have e4:(n:U)<=(c:U):=by omega
   have e5:(i:U)<=(c:U):=by omega
   have e6:(y j:U)<=(c:U):=by omega
   have p:=X (show(∀(a:n<y j),jj q (jm j[n].ks)=cf)->Ag j F q i n/\jh wr (bI ac f i c) (j.take i)/\jh wr (bI ac (f+i) (n-i)<|c-i) ((j.drop i).take<|n-i)/\jh wr (bI ac (f+n) (y j-n)<|c-n) (j.drop n)from by
    intro m;refine⟨⟨N,P,B,HW,m⟩,g.take i v,?_,g.drop n B⟩;have u:=g.drop i v;have D:=jh.take (ts:=j.drop i) (by rw[iP];exact u) (n-i) (by rw[iP];omega);exact D)
   by_cases o:n<y j
   .have hp:=g.cell o;have u:=(g.each _<|ar o).first;have e7:(n:U)<(y j:U):=by omega
    have e8:(0:U)<=(n:U):=by omega
    have m:=Ku (jm j[n].ks) q;unfold bB.ptr at hp u;cases hkl:jj q (jm j[n].ks)with
    |false=>
     rw[hkl]at m;simp only[nX]at m;have HN:=X (show∀k(e:k<y j),k=n->jj q (jm j[k].ks)=bw fromλk e W=>by grind);generalize jm j[n].ks=fk at*;generalize j[n].tb=D at*;go_wp2_with fail
     apply u.mono;rintro W O⟨rfl,L⟩;subst O;go_wp2;go_roundw;case rel=>exact⟨n+1,by omega,o,by go_num,λk e b ac=>by rcases iy k n with ao|ao;exact HW k e b ao;exact HN k e (by omega),l⟩
     case measure=>simp[intOf];omega
    |true=>
     rw[hkl]at m;simp only[vz]at m;have x:=X<|p<|λ_=>hkl;generalize jm j[n].ks=fk at*;generalize j[n].tb=D at*;go_wp2_with fail
     apply u.mono;rintro W O⟨rfl,L⟩;subst O;go_wp2_with fail
     go_quiet(fail)
     go_wp2;go_ret3
     obtain⟨r,s,w,A⟩:=J x;have b:Below (z<|G wr) wr (wr.drewN nq):=below_drewN (Below.refl _ _) _;exact⟨i,n,_,_,_,rfl,r,s.below b,w.below b,A.below b,(by intro k e;simpa[cI]using e),below_drewN l _⟩
   .have u:n=y j:=by omega
    have x:=X<|p<|λa=>absurd a o;have e7:¬(n:U)<(y j:U):=by omega
    have hE:=g.empty f;have L:=X hE;have D:=X (show j.drop n=[]by rw[u,gz]);rcases iy n c with hc|hc
    .have m:¬(c-n=0):=by omega
     have d2:¬(c-i=0):=by omega
     clear u;go_wp2_with fail
     go_quiet(fail)
     go_wp2;go_ret3
     obtain⟨r,s,w,A⟩:=J x;have b:Below (z<|G wr) wr (wr.drewN nq):=below_drewN (Below.refl _ _) _;exact⟨i,n,_,_,_,rfl,r,s.below b,w.below b,A.below b,(by intro k e;simpa[cI]using e),below_drewN l _⟩
    .have m:c=n:=by omega
     subst m;clear u;rcases iy i c with O|O
     .have d2:¬(c-i=0):=by omega
      go_wp2_with fail
      go_quiet(fail)
      go_wp2;go_ret3
      obtain⟨r,s,w,A⟩:=J x;have b:Below (z<|G wr) wr (wr.drewN nq):=below_drewN (Below.refl _ _) _;refine⟨i,c,_,_,_,rfl,r,s.below b,w.below b,?_,(by intro k e;simpa[cI]using e),below_drewN l _⟩;rw[J D];exact L.below b
     .have m:i=c:=by omega
      subst m;go_wp2_with fail
      go_quiet(fail)
      go_wp2;go_ret3
      obtain⟨r,s,w,A⟩:=J x;have b:Below (z<|G wr) wr (wr.drewN nq):=below_drewN (Below.refl _ _) _;refine⟨i,i,_,_,_,rfl,r,s.below b,?_,?_,(by intro k e;simpa[cI]using e),below_drewN l _⟩
      .rw[J D,AY];exact L.below b
      .rw[J D];exact L.below b
def jh.of_heap{w w':Y}(i:jh w d j)(k:w'.heap=w.heap):jh w' d j:=by
 refine⟨?_,λq n=>by rw[k];exact i.lt q n,λt o=>(i.each t o).of_heap k,i.small⟩;obtain⟨h,g|⟨p,b,e,g,l,m⟩⟩:=i.row;exact⟨h,.inl g⟩;exact⟨h,.inr ⟨p,b,e,g,l,λn u i=>(dy (w:=w)<|by rw[k]).trans<|m n u i⟩⟩
def Yx(a:cP):Prop:=∀i(h:i+1<y a),jj (jF a[i].ks) (jm a[i+1].ks)=cf
def jn.apart(h:jn j):Yx j:=by
 intro i a;obtain⟨x,d,b⟩:=(h.pure _<|ar<|show i<y j by omega).yP;obtain⟨f,e,c⟩:=(h.pure _<|ar a).Jm;rw[<-b,<-c];exact h.pair (by omega) a (by omega) d e
def Vd(h:jh a d j)(l:Yx j):cY bA 79 #[d] a λu g=>u=aN (aM cf)/\Below (z<|G a) a g:=by
 have E:=h.small;rcases h.shape with⟨rfl,rfl⟩|⟨W,s,B,rfl,_⟩;(.clear h l;(go_in);go_wp2;(go_loopw [6] (λw wr=>w=aq 0/\wr=a) (λ_ _=>0));(case atStart=>grind);(case round=>obtain⟨rfl,rfl⟩:=hrel;go_wp2;go_ret;exact⟨rfl,Below.refl _ _⟩))
 .have A:=X h;have x:=X l;have C:=KL;clear h l;go_in
  go_wp2;go_loopw [6] (λw wr=>∃n:M,n<=y j/\w=aq n/\Below (z<|G a) a wr) (λw _=>y j-(intOf w).toNat)
  case atStart=>exact⟨0,bK _,rfl,Below.refl _ _⟩
  case round=>
   obtain⟨n,D,rfl,o⟩:=hrel;have b:=A.below o;have HB:=X o;clear o;by_cases i:n<y j
   .rcases gH n with k|k
    .subst k;clear b;go_wp2_with fail
     go_quiet(fail)
     go_wp2;go_roundw;case rel=>exact⟨1,by omega,by go_num,below_drewN HB _⟩
     case measure=>simp[intOf];omega
    .obtain⟨m,rfl⟩:∃m,n=m+1:=⟨n-1,by omega⟩;have r:=b.cell (show m<y j by omega);have f:=b.cell i;have e:∀W,W.heap=wr.heap->cY bA 130 #[j[m].ptr] W λu g=>u=aN (am<|jF j[m].ks)/\∃q,g=W.drewN q:=λW a=>((b.each _<|ar<|show m<y j by omega).of_heap a).last;have c:∀W,W.heap=wr.heap->cY bA 131 #[j[m+1].ptr] W λu g=>u=aN (am<|jm j[m+1].ks)/\g=W:=λW a=>((b.each _<|ar i).of_heap a).first;have p:=x m i;unfold jj at p;clear b;unfold bB.ptr at r f e c;generalize jF j[m].ks=S at*;generalize jm j[m+1].ks=T at*;generalize j[m].tb=V at*;generalize j[m+1].tb=t2 at*;obtain⟨t,v⟩:∃t,m+1=t:=⟨_,rfl⟩;rw[v]at f i k D|-;have F:(t:U)-1=(m:U):=by omega
     have K:(m:U)<(y j:U):=by omega
     have L:(t:U)<(y j:U):=by omega
     have N:IntKind.i64.wrap (m:U)=(m:U):=by rw[bP];omega
     have O:(0:U)<(t:U):=by omega
     have P:(0:U)<=(m:U):=by omega
     have Q:m<y j:=by omega
     clear v;go_wp2_with fail
     go_quiet(first
      |(go_at_call 130;refine Calls.quiet_of (e _ rfl))
      |(go_at_call 131;refine Calls.quiet_of_same (c _ rfl)))
     go_wp2;go_roundw;case rel=>exact⟨t+1,by omega,by go_num,below_drewN HB _⟩
     case measure=>simp[intOf];omega
   .have c:n=y j:=by omega
    subst c;clear b;go_wp2;go_ret;exact⟨rfl,HB⟩
def Lu(w:Y)(d:M)(t:bB):Prop:=∃c b a,lZ w t.tb (aD d) t.num (y<|dU t.cs) (y<|fP t.ks) (lJ<|fP t.ks) c b a az t.ks
def Lu.VD(h:Lu a b Q):OW a Q:=by
 obtain⟨e,d,c,f⟩:=h;exact⟨_,_,_,_,_,e,d,c,_,f⟩
def Lu.below(i:Lu a b Q)(g:Below (z<|G a) a f):Lu f b Q:=by
 obtain⟨h,d,c,e⟩:=i;exact⟨h,d,c,e.dG (g.block _ e.lt.1)<|g.block _ e.lt.2⟩
def bB.xy(t:bB):ix:=[aG t.num,dI<|y<|dU t.cs,dI<|y<|fP t.ks,dI<|lJ<|fP t.ks]
def dH(a:cP):ix:=a.flatMap bB.xy
def Gi(a:cP)(t:bB):dH (a++[t])=dH a++t.xy:=by simp[dH]
def NK:(prog.info? 178).map (λi=>(i.zero,i.size,i.bytes))=H (H<|dL #[aG 0,dI 0,dI 0,dI 0],4,24):=by kernel_rfl
def Er(x c d u:ab)(t:TypeId)(e:b=z (G a)):∀j q,[x,c,d,u][j]?=H q->aW (dd a<|ay #[x,c,d,u] t) (((R b 0):Addr).add j)=H q:=by
 intro j q f;subst e;rw[dJ];simp_all
def Qp(w:Y)(db:M)(ap:ab)(a:cP)(h:jh w ap a)(L:∀av∈a,Lu w db av)(hl:y a<=100000000):cY bA 158 #[ap] w λao Q=>∃P,ao=aN P/\Q.ownsRow (z<|G w) 178 4 P (y a) (dH a)/\Below (z<|G w) w Q:=by
 obtain⟨E,j,l,m,o⟩:=dl NK;rcases h.shape with⟨rfl,rfl⟩|⟨ax,F,aa,rfl,_⟩
 .clear h L;go_in
  go_wp2_with(first
   |(at_make;go_loud(refine kG _ rfl _ _ 107 rfl (z (G w)) 178 E (.agg #[.int .u64 0,.int .u32 0,.int .u32 0,.int .u32 0]) 4 underlying107 j l m _ _ _ 0 rfl rfl (by omega) (by rw[o];omega) (by grind) (ag _) ?_;intro T d c;have g:=X d;have f:=X c)))
  go_loopw [3,11] (λan N wr=>N=aq 0/\wr.ownsRow (z<|G w) 178 4 an 0 []/\wr=T) (λ_ _ _=>0)
  case atStart=>exact⟨rfl,g,rfl⟩
  case round=>
   obtain⟨rfl,s,b⟩:=hrel;subst wr;obtain⟨au,V,rfl⟩:=aC s;have p:=X s;go_wp2;go_ret;exact⟨_,rfl,p,(Z.ep (S:=aw) f<|by simp).below (ag _) cJ⟩
 .have W:=X h;have HW:=X L;go_in
  go_wp2_with(first
   |(at_make;go_loud(refine kG _ rfl _ _ 107 rfl (z (G w)) 178 E (.agg #[.int .u64 0,.int .u32 0,.int .u32 0,.int .u32 0]) 4 underlying107 j l m _ _ _ (y a) rfl rfl (by omega) (by rw[o];omega) (by unfold maxLen;omega) (ag _) ?_;intro T d c;have g:=X d;have f:=X c)))
  go_loopw [3,11] (λan N wr=>∃n:M,n<=y a/\N=aq n/\wr.ownsRow (z<|G w) 178 4 an n (dH<|a.take n)/\Z aw w wr) (λ_ N _=>y a-(intOf N).toNat)
  case atStart=>exact⟨0,bK _,rfl,g,Z.ep (S:=aw) f<|by simp⟩
  case round=>
   obtain⟨n,hn,rfl,b,k⟩:=hrel;have B:=k.below (ag _) cJ;have al:=k.size;obtain⟨au,V,s⟩:=aC b;by_cases e:n<y a
   .have hp:=(W.below B).cell e;obtain⟨bb,K,r,hm⟩:=(HW _<|ar e).below B;have q:=Ww hm;obtain⟨x,p,HT⟩:=dF (show dH (a.take<|n+1)=dH (a.take n)++[aG a[n].num,dI<|y<|dU a[n].cs,dI<|y<|fP a[n].ks,dI<|lJ<|fP a[n].ks]by rw[ah e,Gi];rfl) b k;have ac:=b.lt;unfold bB.ptr at hp;unfold Gj at q;generalize a[n].num=x0 at*;generalize y (dU a[n].cs)=x1 at*;generalize y (fP a[n].ks)=x2 at*;generalize lJ (fP a[n].ks)=x3 at*;generalize a[n].tb=O at*;subst s;go_wp2_with fail
    apply q.mono;rintro ao w1⟨rfl,i⟩;have u:=X<|(Z.aQ (S:=aw) i).own p<|λ_ _ V=>V;have ad:=i.size;have t:=X i;go_wp2_with(first
     |(at_builtin;go_loud(refine cC _ rfl (.tmp 15) (.tmp 18) 107 rfl (z (G w)) 178 E (.agg #[.int .u64 0,.int .u32 0,.int .u32 0,.int .u32 0]) 4 24 underlying107 j l m o rfl (by decide) (.slice au n V) n (dH (a.take n)) rfl (aT u _) (R (z (G w1)) 0) 1 1 [.int .u64 x0,.int .u32 x1,.int .u32 x2,.int .u32 x3] rfl rfl (Er _ _ _ _ _ rfl) (by simp[Value.oneCell']) (by omega) (by omega) (by simp;omega) ?_;intro o2 w2 C D;have v:=X C;have A:=X D)))
    go_roundw;case rel=>
     refine⟨n+1,e,by go_num,by rw[J x];exact v,?_⟩;exact((HT.cz<|Z.aQ (S:=aw) t).alloc _).trans (Z.fN A)<|by grind
    case measure=>simp[intOf];omega
   .have i:n=y a:=by omega
    subst i;rw[aY]at b;have p:=X b;have HB:=X B;go_wp2;go_ret;exact⟨_,rfl,p,HB⟩
def Ng(v:ab)(w:Y):(Go.method 541 76 v "From").run bA w=.ok (309,v) w:=by kernel_rfl
def Nf(v:ab)(w:Y):(Go.method 541 179 v "From").run bA w=.ok (313,v) w:=by kernel_rfl
def mh.yO(h:tw s b d j a)(c:b<=z (G a))(hF:∀k,s.F k->k<b):mh s b (.iface 76 d) (cA j) a:=⟨_,d,_,d,rfl,Ng d,enters_of func309 (by kernel_rfl) rfl,λg i e f=>TZ g (h.same e) f (aB c e.1) hF⟩
def mh.table(h:nT s b Q.tb Q.ks Q.cs a)(c:b<=z (G a))(hF:∀k,s.F k->k<b):mh s b (.iface 179 Q.ptr) Q.all a:=⟨_,Q.ptr,_,Q.ptr,rfl,Nf Q.ptr,enters_of func313 (by kernel_rfl) rfl,λf g d e=>DP f (h.same d) e (aB c d.1) hF⟩
def KF:(prog.info? 169).map (λi=>(i.zero,i.size,i.bytes))=H (H .nilIface,1,16):=by kernel_rfl
structure Vj(w:Y)(base:M)(t:bB)(bb ya x Ia:M):Prop where
 ks:t.ks=bX 0 t.cs
 num:t.num=0
 pieces:qM t.all t.cs
 mem:lZ w t.tb (dC none) 0 0 0 0 bb 0 ya (bI x 0 (y<|dU t.cs) Ia) t.ks
 data:fg w base (bI x 0 (y<|dU t.cs) Ia) (dU t.cs)
 fF:w.ownsRow base 320 5 (bI bb 0 (y t.ks) ya) (y t.ks) (eS t.ks)
 new:base<=t.tb
def Yn(w:Y)(a:M)(t:bB):Prop:=∃d b x c,Vj w a t d b x c
def Vj.aj{S:fh}{w w':Y}{g a x d:M}(h:Vj w c Q g a x d)(e:Z S w w')(l:¬S Q.tb)(k:¬S g)(m:¬S x):Vj w' c Q g a x d:=⟨h.ks,h.num,h.pieces,h.mem.dG (e.block _ h.mem.lt.1 l)<|e.block _ h.mem.lt.2 k,e.own h.data (λn j=>by cases j;exact m),e.own h.fF (λn j=>by cases j;exact k),h.new⟩
def Vj.other(m:Vj a b Q c l F V)(q:Z o a f)(j:∀n,o n->∃d T e,a.heap[n]?=H (ay d T e)/\T≠247/\T≠320/\T≠5):Vj f b Q c l F V:=by
 refine m.aj q (λk=>?_) (λk=>?_)<|λk=>?_;obtain⟨d,T,e,g,h,_⟩:=j _ k;exact iQ g m.mem.box h rfl;obtain⟨d,T,e,g,_,h,_⟩:=j _ k;obtain⟨c2,p⟩:=eT m.fF (k:=c) rfl;grind
 obtain⟨d,T,e,g,_,_,h⟩:=j _ k;obtain⟨c2,p⟩:=eT m.data (k:=F) rfl;grind
structure NT where
 t:bB
 bb:M
 ya:M
 x:M
 Ia:M
def NT.Ok(w:Y)(a:M)(p:NT):Prop:=Vj w a p.t p.bb p.ya p.x p.Ia
def NT.has(p:NT)(k:M):Prop:=k=p.t.tb\/k=p.bb\/k=p.x
def NT.js(p q:NT):Prop:=∀k,p.has k->¬q.has k
def NT.Ok.lt{p:NT}(h:p.Ok a c):∀k,p.has k->c<=k/\k<z (G a):=by
 rintro k(rfl|rfl|rfl);exact⟨h.new,h.mem.lt.1⟩;exact⟨(h.fF.lt _ rfl).1,h.mem.lt.2⟩;exact fg.lt h.data _ rfl
def NT.Ok.aj{S:fh}{w w':Y}{p:NT}(h:p.Ok w c)(d:Z S w w')(a:∀k,p.has k->¬S k):p.Ok w' c:=Vj.aj h d (a _<|.inl rfl) (a _<|.inr<|.inl rfl)<|a _<|.inr<|.inr rfl
def NT.Ok.base{c base':M}{p:NT}(h:p.Ok a c)(d:base'<=c):p.Ok a base':=⟨h.ks,h.num,h.pieces,h.mem,h.data.base d,gl h.fF d,aB d h.new⟩
def NT.Ok.U1{p:NT}(h:p.Ok a b):Yn a b p.t:=⟨_,_,_,_,h⟩
def qR(w:Y)(a:M)(d:cP):Prop:=∃c:ci NT,c.map NT.t=d/\(∀p∈c,p.Ok w a)/\c.Pairwise NT.js
def qR.nil(w:Y)(a:M):qR w a []:=⟨[],rfl,by simp,List.Pairwise.nil⟩
def qR.each(h:qR a c j):∀t∈j,Yn a c t:=by
 obtain⟨g,rfl,d,_⟩:=h;intro t f;obtain⟨p,e,rfl⟩:=bH.1 f;exact(d p e).U1
def qR.aj{w w':Y}(g:qR w c j)(h:Z aw w w'):qR w' c j:=by
 obtain⟨k,a,d,e⟩:=g;exact⟨k,a,λp g=>(d p g).aj h<|λ_ _ l=>l,e⟩
def qR.other(l:qR a b j)(m:Z o a f)(k:∀p,o p->∃c T d,a.heap[p]?=H (ay c T d)/\T≠247/\T≠320/\T≠5):qR f b j:=by
 obtain⟨n,e,g,h⟩:=l;exact⟨n,e,λq l=>Vj.other (g q l) m k,h⟩
def qR.base{c base':M}(h:qR a c j)(g:base'<=c):qR a base' j:=by
 obtain⟨i,d,e,f⟩:=h;exact⟨i,d,λp h=>(e p h).base g,f⟩
def Ht{a:ci NT}{q:NT}(h:a.Pairwise NT.js)(b:∀p∈a,p.js q):(a++[q]).Pairwise NT.js:=by
 rw[aZ];grind
def IT(v:ab):∀(n:M)(a:dX)(i:M)(b:i<y a),(oX v n a)[i]?=H (Ap v (n+y (a.take i).flatten)<|y a[i])
 |_,[],_,b=>(by grind)
 |n,p::a,0,_=>by simp[oX]
 |n,p::a,i+1,b=>by
  rw[oX,vU,IT v (n+y p) a i<|by simpa using b];grind
def Tu(h:kJ a d e)(g:m.flatten=e)(f:b<y m)(c:m[b]≠[]):kJ a (Ap d (0+y (m.take b).flatten)<|y m[b]) m[b]:=by
 rw[dM];refine Ca (s:=(m.drop<|b+1).flatten) h ?_ c;have i:m=m.take b++m[b]::m.drop (b+1):=by rw[<-bJ f,bO]
 rw[<-g];grind
def xB:(prog.info? 179).map (λi=>(i.zero,i.size,i.bytes))=H (H<|dC none,1,8):=by kernel_rfl
def NX(l:cU):gm ⟨#[]⟩ l=l:=fK.2 (λx _=>by rw[Kz];rfl)
def wu(c:ab)(a b:cP):ci (ab×cU):=(.iface 76 c,cA b)::a.map (λt=>(.iface 179 t.ptr,t.all))
def sk(d:eF)(a:Bool)(b c:cP):cU:=gX d a<|cA c::b.map bB.all
def YW(w:Y)(x:ab)(T:TypeId):(dd w<|ay #[x] T).ownsRow (z<|G w) T 1 (bI (z<|G w) 0 1 1) 1 [x]:=⟨rfl,.inr ⟨z<|G w,1,#[x],rfl,ag _,aK _ rfl,ag _,by unfold maxLen;omega,rfl,rfl⟩⟩
structure LC(W wr:Y)(base:M)(o:ab)(ps:dX)(n:M)(tm:cP):Prop where
 own:wr.ownsRow base 179 1 o n (tm.map bB.ptr)
 len:y tm=n
 all:tm.map bB.all=ps.take n
 each:qR wr base tm
 aj:Z aw W wr
def LC.step{W wr w1 w2:Y}{o o2:ab}{e:dX}{a:M}{h:Obj}(t:LC W wr b o m c j)(C:c<y m)(Q:b<=z (G W))(P:∀k,cI o=H k->z (G W)<=k)(f:OT wr w1 i m[c] e l F V a)(D:w2.ownsRow b 179 1 o2 (c+1) (j.map bB.ptr++[aD i]))(r:eJ (dd w1 h) w2 o o2):∃s,LC W w2 b o2 m (c+1) s/\∀k,cI o2=H k->z (G W)<=k:=by
 have E:=t.aj.size;have K:=f.aj.size;have x:Z (λk=>cI o=H k) wr w2:=((f.aj.mono (T:=λk=>cI o=H k) cJ).alloc h).trans (Z.fN r)<|λ_ d=>.inl d;have n:∀k,cI o=H k->∃e,wr.heap[k]?=H (ay e 179 (0,0)):=λk d=>eT t.own d;have q:Z (λk=>cI o=H k) w1 w2:=((Z.refl (λk=>cI o=H k) w1).alloc h).trans (Z.fN r)<|λ_ d=>.inl d;refine⟨j++[⟨i,bX 0 e,e,0⟩],⟨?_,by rw[af,t.len];rfl,?_,?_,t.aj.trans x<|by grind⟩,?_⟩;rw[aE];exact D;rw[aE,t.all,ah C];show _++[e.flatten]=_;rw[f.pieces.flat];obtain⟨N,A,u,B⟩:=t.each;have v:NT.Ok w1 (z<|G wr) ⟨⟨i,bX 0 e,e,0⟩,l,F,V,a⟩:=⟨rfl,rfl,by have:=f.pieces;rw[<-this.flat]at this;exact this,f.mem,f.data,f.fF,f.new⟩;refine⟨N++[⟨⟨i,bX 0 e,e,0⟩,l,F,V,a⟩],by rw[aE,A];rfl,λL g=>?_,Ht B<|λL g k d p=>?_⟩;rcases aA.1 g with g|g;exact Vj.other (u L g) x (λk d=>by grind);rw[cL]at g;subst g;refine Vj.other (NT.Ok.base v<|by omega) q<|λk d=>?_;obtain⟨O,w⟩:=n k d;exact⟨O,_,_,(f.aj.block k (ak w) id).trans w,by decide,by decide,by decide⟩;have w:=((u L g).lt k d).2;have O:=(v.lt k p).1;omega;intro k d;rcases r.vQ with u|⟨p,u,g⟩;(grind);rw[u]at d;cases d;simp at g;omega
def vI(h:kJ a d e)(hs:eh e)(B:rH 5 e)(hg:∀bm∈e,bm.Good)(hl:y e<=1000000)(hv:∀L,cI d=H L->L<z (G a))(hT:Steps a):cY bA 155 #[d] a λbf E=>∃vm,∃k:cP,bf=aN vm/\E.ownsRow (z<|G a) 179 1 vm (y k) (k.map bB.ptr)/\k.map bB.all=gJ e/\qR E (z<|G a) k/\Z aw a E:=by
 obtain⟨j0,an,aU,aV,ba⟩:=dl xB;have x:=SJ h hs hl hv;obtain⟨bm,bd,ax⟩:=bZ h
 have S:=X (show∀n(t:n<y (gJ e))(wr:Y),Z aw a wr->∃K b i,(oX d 0<|gJ e)[n]?=H (bI K b (y (gJ e)[n]) i)/\cY bA 96 #[bI K b (y (gJ e)[n]) i] wr λbf E=>∃g cs bc c db f,bf=aN (aD g)/\OT wr E g (gJ e)[n] cs bc c db f from by
  intro n t wr O;have N:(gJ e)[n]∈gJ e:=ar t;have o:=FO e _ N;have u:=Tu h (wY e) t o;obtain⟨K,b,i,s,F⟩:=u.some (by grind);have m:K<z (G a):=by
   obtain⟨P,T,Q,j,_⟩:=h.some (by have:=(Da N).length_le;have:=gN.2 o;omega);subst j;unfold Ap at s;cases s;exact hv _ rfl
  rw[s]at u;refine⟨K,b,i,by rw[IT d 0 (gJ e) n t,s],?_⟩;obtain⟨_,⟨q,_⟩|⟨b',C,l,q,_,hc⟩⟩:=id u
  .cases q
  .cases q;have j:=Da N;exact Fi (gJ e)[n] K b i wr (λL hk=>O.cell (hT L hk) id hT.lt) (ai m O.size) (λd u a=>O.cell (hc d u a) id m) F (by grind) (by grind) (hs.sub j) (λq c=>aB ((B.sub j).keys q c) (by omega)) (by have:=j.length_le;omega))
 have ac:y (gJ e)<=1000000:=aB (uX e) hl;generalize gJ e=D at*;obtain⟨W,hN⟩:∃W,y D=W:=⟨_,rfl⟩;rw[hN]at x ac;have HN:=X hN;subst ax;go_in
 go_wp2_with fail
 apply x.mono;rintro bf W3⟨pv,rfl,v,w⟩;obtain⟨px,pc,rfl⟩:=aC v;have p:=X v;have r:=X w;have A:z (G a)<=z (G W3):=w.size;go_wp2;go_loopw [3,9] (λo i wr=>∃n:M,n<=W/\i=aq n/\∃k,LC W3 wr (z<|G a) o D n k/\∀L,cI o=H L->z (G W3)<=L) (λ_ i _=>W-(intOf i).toNat)
 case atStart=>exact⟨0,bK _,rfl,[],⟨cK _ _ _ _,rfl,rfl,qR.nil _ _,Z.refl _ _⟩,(by intro L hk;cases hk)⟩
 case round=>
  obtain⟨n,bg,rfl,k,i,s⟩:=hrel;obtain⟨ox,oc,ho⟩:=aC i.own;by_cases j:n<W
  .obtain⟨pg,bl,au,_,av,_⟩:=uk p (by omega);cases au;have u:n<y D:=by rw[J HN];exact j
   obtain⟨K,b,l,bh,t⟩:=S n u wr<|r.cz i.aj;have al:aW wr (R pg n)=H (bI K b (y D[n]) l):=by
    refine i.aj.cell ?_ id av;obtain⟨_,⟨bd,_⟩|⟨b',C,aa,bd,_,hc⟩⟩:=dR p
    .cases bd
    grind
   have F:=X i;have o:=X s;have bk:=i.aj.size;have e8:(n:U)<(W:U):=by omega
   have e9:(0:U)<=(n:U):=by omega
   generalize ad:D[n]=pn at*;have T:=X ad;have O:=X u;subst ho;go_wp2_with fail
   apply t.mono;rintro bf w4⟨g,cs,bc,c,db,f,rfl,m⟩;have P:=X<|m.aj.own F.own<|λ_ _ bd=>bd;have bi:=m.aj.size;have N:=X m;go_wp2_with(first
    |(at_builtin;go_loud(refine cC _ rfl (.tmp 13) (.tmp 16) 76 rfl (z (G a)) 179 j0 (.pointer none) 1 8 underlying76 an aU aV ba rfl (by decide) (.slice ox n oc) n (k.map bB.ptr) rfl (aT P _) (R (z (G w4)) 0) 1 1 [aD g] rfl rfl (qf _ _ _) (by simp[Value.oneCell']) (by omega) (by omega) (by simp;omega) ?_;intro o2 w5 ap aF;have Q:=X ap;have V:=X aF)))
   go_roundw;case rel=>
    have m:=J N;rw[<-J T]at m;obtain⟨bb,aa,ao⟩:=F.step O A o m Q V;exact⟨n+1,j,by go_num,bb,aa,ao⟩
   case measure=>simp[intOf];omega
  .have m:n=W:=by omega
   subst m;have F:=X i;subst ho;go_wp2;go_ret;have i:=J F;refine⟨_,k,rfl,by rw[i.len];exact i.own,?_,i.each,r.cz i.aj⟩;rw[i.all,<-J HN,aY]
def Gg(n E f F:M)(i:ab)(b c:cP)(h1:∀j(K:j<y b),aW a (R E<|f+j)=H b[j].ptr)(aU:E<n/\¬s.F E)(aF:∀bd∈b,nT s n bd.tb bd.ks bd.cs a)(aV:y b<=100000000)(h2:tw s n i c a)(hD:s.D a)(l:n<=z (G a))(hF:∀x,s.F x->x<n)(hl:y (de<|cA c::b.map bB.all)<=1000000):cY bA 152 #[bI E f (y b) F,i] a λav o=>(∃vm,av=aN (dA #[vm,.nilIface])/\o.ownsRow (z<|G a) 171 4 vm (y<|de<|cA c::b.map bB.all) (aI<|de<|cA c::b.map bB.all)/\s.D o/\Z s.F a o)\/EA s a o s.F av (λbf=>dA #[az,bf]):=by
 obtain⟨i0,ad,ao,ap,au⟩:=dl KF;have t:y (wu i b c)=y b+1:=by simp[wu]
 have m:∀wr d,Z aw a wr->wr.ownsRow (z<|G a) 169 1 d (y b+1) ((wu i b c).map (·.1))->cY bA 163 #[d,am ⟨#[]⟩] wr λav o=>∃f e,av=aN f/\jp s n f (de<|cA c::b.map bB.all) e o/\s.D o/\Z s.F wr o/\(∀x,e x->z (G wr)<=x):=by
  intro wr d N w;have k:kS s n aw a wr:=N.same l cJ cJ;have hn:=CU n (wu i b c) d ⟨#[]⟩ (by rw[t];exact dR w) (λx v=>⟨(w.lt x v).2,λQ=>by have:=hF x Q;have:=(w.lt x v).1;omega⟩) (by omega) (by
   intro j K;cases j with
   |zero=>exact(mh.yO h2 l hF).same k
   |succ j=>
    have r:j<y b:=by rw[t]at K;omega
    have:(wu i b c)[j+1]=(.iface 179 b[j].ptr,b[j].all):=by simp[wu]
    rw[this];exact(mh.table (by grind) l hF).same k) (s.fc hD N cJ) (aB l N.size) hF
  have u:(wu i b c).map (·.2)=cA c::b.map bB.all:=by simp[wu]
  rw[u,oV (g:=id)<|λl _=>NX l,yj]at hn;exact hn
 obtain⟨NL,V⟩:∃NL,de (cA c::b.map bB.all)=NL:=⟨_,rfl⟩;rw[V]at m hl|-;have A:=X m;have HC:=X (show∀wr,Z aw a wr->∀j(K:j<y b),aW wr (R E<|f+j)=H b[j].ptr fromλwr N j K=>N.cell (h1 j K) id<|by omega);go_in
 go_wp2;go_loopw [6,14] (λo j wr=>∃p:M,p<=y b/\j=aq p/\wr.ownsRow (z<|G a) 169 1 o (p+1) (((wu i b c).take<|p+1).map (·.1))/\Z aw a wr) (λ_ j _=>y b-(intOf j).toNat)
 case atStart=>exact⟨0,bK _,rfl,YW _ _ _,(cO _ _)⟩
 case round=>
  obtain⟨p,hn,rfl,d,e⟩:=hrel;obtain⟨bh,Q,w⟩:=aC d;have ax:=e.size;have bc:=d.lt;by_cases L:p<y b
  .have S:=HC wr e p L;have B:=X (show((wu i b c).take<|p+1+1).map (·.1)=((wu i b c).take<|p+1).map (·.1)++[.iface 179<|aD<|b[p].tb]from by
    rw[ah (by rw[t];omega),aE];simp[wu,bB.ptr])
   have O:=X d;have P:=X e;unfold bB.ptr at S;generalize b[p].tb=r at*;subst w;go_wp2_with(first
    |(at_builtin;go_loud(refine cC _ rfl (.tmp 18) (.tmp 21) 166 rfl (z (G a)) 169 i0 .nilIface 1 16 underlying166 ad ao ap au rfl (by decide) (.slice bh (p+1) Q) (p+1) (((wu i b c).take (p+1)).map (·.1)) rfl (aT O _) (R (z (G wr)) 0) 1 1 [.iface 179 (aD r)] rfl rfl (qf _ _ _) (by simp[Value.oneCell']) (by omega) (by omega) (by simp;omega) ?_;intro W w2 k D;have u:=X k;have C:=X D)))
   go_roundw;case rel=>
    refine⟨p+1,L,by go_num,by rw[J B];exact u,?_⟩;exact(P.alloc _).trans (Z.fN C)<|by grind
   case measure=>simp[intOf];omega
  .have al:p=y b:=by omega
   subst al;rw[dN<|by omega]at d;have an:=A wr u6 e d;have P:=X e;subst w;go_wp2_with fail
   apply an.mono;rintro av w1⟨v1,S1,rfl,ac,S,O,W⟩;have D:=X<|P.mono (T:=s.F) cJ|>.trans O (λ_ Q=>.inl Q);have bb:=P.size;have ba:=O.size;have aa:=En ac S (by omega);have C:=X W;go_wp2_with fail
   apply aa.mono;rintro av w2(⟨bg,rfl,k,r,u⟩|⟨hX,q,rfl,hq,r,u⟩)
   .obtain⟨rx,rc,rfl⟩:=aC k;have B:=X<|And.intro (gl (base':=z<|G a) k<|by omega) (And.intro r (D.trans u<|λx v=>v.elim (λQ=>.inr (by have:=C x Q;omega)) .inl));go_wp2;go_ret2
    exact .inl ⟨_,rfl,B.1,B.2.1,B.2.2⟩
   .have B:=X<|show EA s a w2 s.F (aN<|dA #[az,fj q]) (λbf=>dA #[az,bf])from⟨hX,q,rfl,hq,r,D.trans u<|λx v=>v.elim (λQ=>.inr (by have:=C x Q;omega)) .inl⟩;go_wp2;go_ret2
    exact .inr B
def TY(n:M)(w:Y)(v:n<=1000000000):cY bA 148 #[az,aq n] w λt r=>∃q,t=aN q/\r.ownsRow (z<|G w) 179 1 q 0 []/\Z aw w r:=by
 obtain⟨p,j,k,s,e⟩:=dl xB;have u:¬((n:U)<0):=by omega
 rcases gH n with g|g;(.subst g;(go_in);go_wp2;go_ret;exact⟨_,rfl,cK _ _ _ _,Z.refl _ _⟩)
 .have c:(Builtin.firstCells p.size 0 az).run bA w.drew=.ok ([]:ix).toArray w.drew:=rfl;have d:∀l,(Builtin.append_ #[76,3] l #[az,aq n]).run bA w=_:=λl=>
   Lib.run_append_grow_zeros w 76 3 l 179 p (dC none) .i64 .i64 underlying76 underlying3 j k none 0 0 [] c n g (by omega) (by omega) (by omega) (by rw[e];omega) (tM (by omega) (by rw[e];omega))
  simp only[dM]at d;have i:n<=grownCap w n 0 179:=grownCap_ge w _ _ _;have b:=grownCap_le_maxLen w n 0 179 (by unfold maxLen;omega);obtain⟨a,m⟩:∃a,a=grownCap w n 0 179:=⟨_,rfl⟩;rw[<-m]at d i b;have f:=X<|show(dd w<|ay (Builtin.zeroCells #[dC none] n++Builtin.zeroCells #[dC none] (a-n)) 179).drew.ownsRow (z<|G w) 179 1 (bI (z<|G w) 0 0 a) 0 []from kj (World.ownsRow_made w _ a (ag _) b (by simp[size_zeroCells];omega)) rfl;have o:a<=9223372036854775807:=by unfold maxLen at b;omega
  clear c m b;go_in
  go_wp2_with(at_builtin;refine Lib.wpList_append_run _ rfl _ _ _ _ rfl _ _ rfl rfl _ _ (d _) ?_)
  go_ret;exact⟨_,rfl,f,(cO aw w).of_heap rfl⟩
def qB(a:ci (ab×cP)):ix:=(a.map<|λp=>p.2.map bB.ptr).flatten
def mq(a:ci (ab×cP)):M:=(a.map<|λp=>y p.2).sum
def PK(a:ci (ab×cP))(p:ab×cP):qB (a++[p])=qB a++p.2.map bB.ptr:=by simp[qB]
def Iu(a:ci (ab×cP))(p:ab×cP):mq (a++[p])=mq a+y p.2:=by simp[mq]
def CK(a:ci (ab×cP))(n:M):mq (a.take n)<=mq a:=by
 have h:=bS (λl=>(l.map (λp:ab×cP=>y p.2)).sum)<|bO n a;simp only[aE,ga]at h;unfold mq;omega
def ux(C e u:M)(a:ci (ab×cP))(w:Y)(hc:∀i(k:i<y a),aW w (R C<|e+i)=H a[i].1)(hb:C<z (G w))(hr:∀i(k:i<y a),Row w 1 a[i].1 (y a[i].2)<|a[i].2.map bB.ptr)(ad:∀i(k:i<y a),∀bf,cI a[i].1=H bf->bf<z (G w))(hn:y a<=1000000)(hs:mq a<=100000000):cY bA 95 #[bI C e (y a) u] w λbd w'=>∃v',bd=aN v'/\w'.ownsRow (z<|G w) 179 1 v' (mq a) (qB a)/\Z aw w w':=by
 obtain⟨i0,A,ap,au,av⟩:=dl xB;have HC:=X (show∀wr,Z aw w wr->∀i(k:i<y a),aW wr (R C<|e+i)=H a[i].1 fromλwr ht i k=>ht.cell (hc i k) id hb);have HR:=X (show∀wr,Z aw w wr->∀i(k:i<y a),Row wr 1 a[i].1 (y a[i].2) (a[i].2.map bB.ptr)fromλwr ht i k=>ht.row (hr i k)<|by grind);clear hc hr ad;go_in
 go_wp2;go_loopw [3,11] (λP i wr=>∃n:M,n<=y a/\i=aq n/\P=aq (mq (a.take n):M)/\wr=w) (λ_ i _=>y a-(intOf i).toNat)
 case atStart=>exact⟨0,bK _,rfl,rfl,rfl⟩
 case round=>
  obtain⟨n,aV,rfl,rfl,bb⟩:=hrel;subst wr;by_cases f:n<y a
  .have S:=HC w (Z.refl _ _) n f;have o:=HR w (Z.refl _ _) n f;have p:=CK a<|n+1;have d:=X (show mq (a.take<|n+1)=mq (a.take n)+y a[n].2 by rw[ah f,Iu]);rw[J d]at p;generalize a[n].1=bh at*;generalize a[n].2=E at*;generalize mq (a.take n)=l at*;obtain⟨Q,⟨rfl,D⟩|⟨bc,j,t,rfl,V,v⟩⟩:=o
   .have b:=X D;clear Q D;go_wp2;go_roundw;case rel=>exact⟨n+1,f,by go_num,by rw[J d,J b,kL],trivial⟩
    case measure=>simp[intOf];omega
   .clear Q v;have b:¬((l:U)+(y E:U)<0):=by omega
    go_wp2;go_roundw;case rel=>exact⟨n+1,f,by go_num,by rw[J d];go_num,trivial⟩
    case measure=>simp[intOf];omega
  .have m:n=y a:=by omega
   subst m;rw[aY];have x:=TY (mq a) w (by omega);obtain⟨s,hM⟩:∃s,mq a=s:=⟨_,rfl⟩;rw[hM]at x hs|-;have F:=X hM;go_wp2_with fail
   apply x.mono;rintro bd w1⟨v1,rfl,aa,an⟩;have K:=X aa;have N:=X an;go_wp2;go_loopw [6,27] (λo i wr=>∃n:M,n<=y a/\i=aq n/\wr.ownsRow (z<|G w) 179 1 o (mq<|a.take n) (qB<|a.take n)/\Z aw w wr) (λ_ i _=>y a-(intOf i).toNat)
   case atStart=>exact⟨0,bK _,rfl,K,N⟩
   case round=>
    obtain⟨n,ax,rfl,c,g⟩:=hrel;have ba:=c.lt;have al:=g.size;have aF:=CK a n;by_cases b:n<y a
    .have S:=HC wr g n b;have o:=HR wr g n b;have p:=CK a<|n+1;have d:=X (show mq (a.take<|n+1)=mq (a.take n)+y a[n].2 by rw[ah b,Iu]);have r:=X (show qB (a.take<|n+1)=qB (a.take n)++a[n].2.map bB.ptr by rw[ah b,PK]);rw[J d,J F]at p;generalize a[n].1=bh at*;generalize a[n].2=E at*;generalize qB (a.take n)=pn at*;generalize mq (a.take n)=l at*;obtain⟨aU,P,W⟩:=aC c;have q:=X c;have B:=X g;subst W;obtain⟨Q,⟨rfl,D⟩|⟨bc,j,t,rfl,V,v⟩⟩:=o
     .obtain rfl:=aS D;have L:∀a,(Builtin.append_ #[76,76] a #[I aU l P,az]).run bA wr=.ok (I aU l P) wr:=λa=>run_append_owned_none wr (z<|G w) 76 a 179 i0 1 underlying76 A (I aU l P) l pn q;go_wp2_with(at_builtin;refine Lib.wpList_append_run _ rfl _ _ _ _ rfl _ _ rfl rfl _ _ (L _) ?_)
      go_roundw;case rel=>
       refine⟨n+1,b,by go_num,?_,B⟩;rw[J d,J r];simpa using J q
      case measure=>simp[intOf];omega
     .go_wp2_with(first
       |(at_builtin;go_loud(refine cC _ rfl (.tmp 31) (.tmp 32) 76 rfl (z (G w)) 179 i0 (.pointer none) 1 8 underlying76 A ap au av rfl (by decide) (.slice aU l P) l pn rfl q (R bc j) (y E) t (E.map bB.ptr) rfl (by simp) (λbi bg hj=>by rw[dJ];grind) (by intro bg hu;obtain⟨bk,_,rfl⟩:=bH.1 hu;rfl) (by omega) (by omega) al ?_;intro o2 w2 ac ao;have L:=X ac;have O:=X ao)))
      go_roundw;case rel=>
       refine⟨n+1,b,by go_num,by rw[J d,J r];exact L,?_⟩;exact B.trans (Z.fN O)<|by grind
      case measure=>simp[intOf];omega
    .have m:n=y a:=by omega
     subst m;rw[aY,J F]at c;obtain⟨aU,P,W⟩:=aC c;have q:=X c;have B:=X g;subst W;go_wp2;go_ret;exact⟨_,rfl,by rw[J F];exact q,B⟩
structure Ey(w:Y)(lb lo:M)(Ls:ci (ab×cP)):Prop where
 len:y Ls=4
 cell:∀i(hi:i<y Ls),aW w (R lb<|lo+i)=H Ls[i].1
 row:∀i(hi:i<y Ls),Row w 1 Ls[i].1 (y Ls[i].2)<|Ls[i].2.map bB.ptr
 jM:∀i(hi:i<y Ls),∀k,cI Ls[i].1=H k->k<z (G w)
 small:mq Ls<=100000000
def Ey.lt{d:ci (ab×cP)}(h:Ey a c i d):c<z (G a):=cF a (R c<|i+0)<|h.cell 0 (by have:=h.len;omega)
def th{w:Y}{lb lo:M}(a:ci (ab×cP))(h:Ey w lb lo a):cY bA 92 #[dC<|H<|R lb lo] w λj w'=>∃e,j=aN e/\w'.ownsRow (z<|G w) 179 1 e (mq a) (qB a)/\Z aw w w':=by
 have b:=ux lb lo 4 a w h.cell h.lt h.row h.jM (by have:=h.len;omega) h.small;rw[h.len]at b;clear h;go_in
 go_wp2_with fail
 apply b.mono;rintro j k⟨i,rfl,c,d⟩;have f:=X c;have g:=X d;clear c d;go_wp2;go_ret;exact⟨i,rfl,f,g⟩
def jU(a:ci (ab×cP))(n:M):Bool:=(a.drop n).all<|λp=>p.2.isEmpty
def GH{a:ci (ab×cP)}(h:b<y a):jU a b=(a[b].2.isEmpty&&jU a (b+1)):=by
 unfold jU;rw[bJ h,List.all_cons]
def Ec{w:Y}{lb lo:M}(n:M)(d:ci (ab×cP))(h:Ey w lb lo d)(V:n<=4):cY bA 153 #[dC<|H<|R lb lo,aq n] w λL K=>L=aN (aM<|jU d n)/\K=w:=by
 have f:=h.len;have F:=h.small;have v:=X h.cell;have x:=X h.row;clear h;rcases iy n 4 with C|C;(·(have N:(n:U)<=4:=by omega);(have O:¬(4-n=0):=by omega);(have P:¬(4=n):=by omega);(have Q:(0:U)<=(n:U):=by omega);(go_in);go_wp2;(go_loopw [12] (λu wr=>∃m:M,n+m<=4/\u=aq m/\jU d n=jU d (n+m)/\wr=w) (λu _=>4-n-(intOf u).toNat));(case atStart=>grind);(case round=>obtain⟨m,T,rfl,e,p⟩:=hrel;subst wr;by_cases E:m<4-n;(·(have l:n+m<y d:=by omega);have k:=v (n+m) l;have o:=x (n+m) l;have b:=GH l;rw[<-bD]at k;have HEq:=X e;clear e;generalize d[n+m].1=aa at*;generalize d[n+m].2=s at*;(have B:(m:U)<((4-n:M):U):=by omega);obtain⟨j,⟨rfl,t⟩|⟨W,r,A,rfl,D,g⟩⟩:=o;(.obtain rfl:=aS t;have c:=X b;clear j t b;go_wp2;go_roundw;(case rel=>exact⟨m+1,by omega,by go_num,by rw[J HEq,J c];rfl,trivial⟩);case measure=>simp[intOf];omega);(.rcases gH (y s)with q|q;(.obtain rfl:=aS q;have c:=X b;clear j b g q;go_wp2;go_roundw;(case rel=>exact⟨m+1,by omega,by go_num,by rw[J HEq,J c];rfl,trivial⟩);case measure=>simp[intOf];omega);(have i:s.isEmpty=bw:=by grind);rw[i,yl]at b;have c:=X b;clear j b g i;(have S:(0:U)<(y s:U):=by omega);go_wp2;go_ret;exact⟨by rw[J HEq,J c];rfl,rfl⟩));(have b:n+m=4:=by omega);(have a:jU d n=cf:=by rw[e,b,<-f];unfold jU;rw[gz];rfl);have c:=X a;(have B:¬(m:U)<((4-n:M):U):=by omega);clear a e b;go_wp2;go_ret;exact⟨by rw[J c];rfl,rfl⟩));(·(obtain rfl:n=4:=by omega);(have a:jU d 4=cf:=by rw[<-f];unfold jU;rw[gz];rfl);rw[a];(go_in);go_wp2;(go_loopw [12] (λu wr=>u=aq 0/\wr=w) (λ_ _=>0));(case atStart=>grind);(case round=>obtain⟨rfl,p⟩:=hrel;subst wr;go_wp2;go_ret;simp_all))
def XR(h:j.Sublist p):ku j<=ku p:=by
 induction h with
 |slnil=>grind
 |cons x _ a=>unfold ku at*;grind
 |cons_cons x _ a=>unfold ku at*;grind
def Kt{w:Y}(b c n:M){ts1 l:cP}(hi:n+1<4)(c1:aW w (R b<|c+n)=H d)(c2:aW w (R b<|c+(n+1))=H t)(x:b<z (G w))(S:jh w d ts1)(h2:jh w t l)(hs:Cn l)(av:0<y ts1)(ap:ku l<=1000000000):cY bA 150 #[dC<|H<|R b c,aq n] w λm e=>∃L:M,m=aN (aq L)/\L<y ts1/\Below (z<|G w) w e:=by
 rcases S.shape with⟨_,h0⟩|⟨b1,bc,bb,rfl,_⟩;grind
 have bh:=S.small;have e1:(n:U)<4:=by omega
 have e2:(0:U)<=(n:U):=by omega
 obtain⟨O,P,HS,N⟩:=gw S h2 hs c2;go_in
 go_wp2;go_loopw [5,6,19] (λa le n wr=>∃L ba k:M,L<y ts1/\ba<=9223372036854775807/\k<=y ts1/\a=aq L/\le=aq ba/\n=aq k/\Below (z<|G w) w wr) (λ_ _ n _=>y ts1-(intOf n).toNat)
 case atStart=>exact⟨0,9223372036854775807,0,av,ag _,bK _,rfl,rfl,rfl,Below.refl _ _⟩
 case round=>
  obtain⟨L,ba,k,hj,hm,hk,rfl,rfl,rfl,s⟩:=hrel;have HB:=X s;by_cases a:k<y ts1
  .have g:=O.below s;have V:=P.below s;have hp:=g.cell a;have c2:aW wr (R b<|c+(n+1))=H t:=(s.cell (p:=(R b<|c+(n+1))) x).trans N;have u:∀W,W.heap=wr.heap->cY bA 131 #[ts1[k].ptr] W λm e=>m=aN (am<|jm ts1[k].ks)/\e=W:=λW i=>((g.each _<|ar a).of_heap i).first;have v:∀W,W.heap=wr.heap->cY bA 130 #[ts1[k].ptr] W λm e=>m=aN (am<|jF ts1[k].ks)/\∃q,e=W.drewN q:=λW i=>((g.each _<|ar a).of_heap i).last;have hcut:∀W,W.heap=wr.heap->W.os=wr.os->W.tape=wr.tape->W.output=wr.output->cY bA 151 #[t,am<|jm ts1[k].ks,am<|jF ts1[k].ks] W λm e=>∃E B F,m=aN (dA #[E,B,F])/\(∃D,jh e B D/\ku D<=1000000000)/\Below (z<|G w) w e/\aW e (R b<|c+(n+1))=H t:=by
    intro W i aa ac ad;apply(NC (jm ts1[k].ks) (jF ts1[k].ks) (V.of_heap i) HS).mono;rintro m e⟨bk,bi,E,B,F,rfl,_,_,aU,_,_,f⟩;have j:Below (z<|G w) w W:=s.of_heap (by rw[i,aa,ac,ad]);refine⟨E,B,F,rfl,⟨_,aU,aB (XR<|(qj _ _).trans<|lM _ _) ap⟩,j.trans<|f.mono j.size,?_⟩;exact(f.cell (p:=(R b<|c+(n+1)))<|ai x j.size).trans<|(dy (w:=wr)<|by rw[i]).trans c2
   unfold bB.ptr at hp u v;generalize jm ts1[k].ks=s1 at*;generalize jF ts1[k].ks=s2 at*;generalize ts1[k].tb=bd at*;obtain⟨p,ax⟩:∃p,n+1=p:=⟨_,rfl⟩;rw[ax]at c2 hcut hi;have e3:(n:U)+1=(p:U):=by omega
   have e4:(p:U)<4:=by omega
   have e5:(0:U)<=(p:U):=by omega
   have e6:IntKind.i64.wrap (p:U)=(p:U):=by rw[bP];omega
   have e7:p<4:=by omega
   go_wp2_with fail
   rename_i QQ KK bf;go_region_held3(λa=>aW a (R b<|c+p)=H t) (first|assumption|go_keep) (first
    |(go_at_call 131;refine(u wr.drew rfl).mono ?_;rintro m K⟨rfl,aV⟩;subst K;have A:aW wr.drew (R b<|c+p)=H t:=c2)
    |(go_at_call 130;refine(v wr.drew rfl).mono ?_;rintro m K⟨rfl,q,aV⟩;subst K;have A:aW (wr.drew.drewN q) (R b<|c+p)=H t:=c2)
    |(go_at_call 151;refine(hcut (wr.drewN (1+q)) rfl rfl rfl rfl).mono ?_;rintro m K⟨E,B,F,rfl,aF,an,A⟩;have Q:=X aF;have r:=X an))
   obtain⟨D,T,ao⟩:=J Q;have au:=AB T ao;generalize ku D=C at*;go_wp2_with fail
   apply au.mono;rintro m w2⟨rfl,al⟩;have o:=X<|r.trans<|al.mono r.size;by_cases bg:C<ba
   .have e8:(C:U)<(ba:U):=by omega
    go_wp2;go_roundw;case rel=>exact⟨k,C,k+1,a,by omega,a,rfl,rfl,by go_num,o⟩
    case measure=>simp[intOf];omega
   .have e8:¬(C:U)<(ba:U):=by omega
    go_wp2;go_roundw;case rel=>exact⟨L,ba,k+1,hj,hm,a,rfl,rfl,by go_num,o⟩
    case measure=>simp[intOf];omega
  .have f:k=y ts1:=by omega
   subst f;go_wp2;go_ret;exact⟨L,rfl,hj,HB⟩
def uo(b:eF)(a:Bool)(c:dX):(gX b a c).Sublist (dZ b<|de c):=by
 unfold gX;grind[kF]
def uq{ms:eF}{lowest:Bool}(c:eh (de m))(e:∀x∈de m,x.Good)(d:y (de m)<=1000000)(f:y ms<=4):eh (gX ms lowest m)/\rH 5 (gX ms lowest m)/\(∀x∈gX ms lowest m,x.Good)/\y (gX ms lowest m)<=1000000:=by
 have a:=uo ms lowest m;have b:=a.trans<|jy ms<|de m;exact⟨c.sub b,((zk c).sub a).mono (by omega),(by grind),aB b.length_le d⟩
def IX{V:ja}{W:Y}{ms:eF}{mx:Option Addr}{mc:M}(b:cU)(s:Row W 1 (I mx (y ms) mc) (y ms) (ms.map<|Value.int .u64))(l:∀k,cI (I mx (y ms) mc)=H k->k<z (G W)/\¬V.F k)(t:y ms<=4)(p:eh b)(o:y b<=1000000):(∀(c:Y)(a:M)(m:Option Addr)(i:M),Z V.F W c->c.ownsRow a 171 4 (I m (y b) i) (y b) (aI b)->cY bA 89 #[I m (y b) i,I mx (y ms) mc] c λr g=>∃f,r=aN f/\g.ownsRow (z<|G c) 171 4 f (y<|dZ ms b) (aI<|dZ ms b)/\Z aw c g)/\(∀(h:Y)(a:M)(n:Option Addr)(j:M),h.ownsRow a 171 4 (I n (y<|dZ ms b) j) (y<|dZ ms b) (aI<|dZ ms b)->cY bA 154 #[I n (y<|dZ ms b) j] h λr g=>∃f,r=aN f/\g.ownsRow (z<|G h) 171 4 f (y<|ij<|dZ ms b) (aI<|ij<|dZ ms b)/\Z aw h g):=by
 constructor;intro c a m i q e;exact Ax ms (dR e) p o (q.row s<|by grind) (by omega) (λk d=>(e.lt k d).2)<|λk d=>ai (l k d).1 q.size;intro h a n j e;exact OF (dR e) (p.sub<|jy ms b) (aB (jy ms b).length_le o)<|λk d=>(e.lt k d).2
def ru{c:Func}{E Q:Tmp}(S:c.results=#[.cell E 78,.tmp Q])(a:Array ab)(w:Y)(g:M)(e f h i:ab)(O:TypeId)(d:M×M)(r:a.getD E iM=aD g)(p:w.heap[g]?=H (ay #[e,f,h,i] O d))(j:∃x n k,e=I x n k)(l:∃x n k,f=I x n k)(m:∃x n k,h=I x n k)(o:∃x n k,i=I x n k):(results c a).run bA w=.ok (dA #[dL #[e,f,h,i],a.getD Q iM]) w:=by
 obtain⟨F,A,s,rfl⟩:=j;obtain⟨K,B,t,rfl⟩:=l;obtain⟨L,C,u,rfl⟩:=m;obtain⟨N,D,v,rfl⟩:=o;have b:a[E]?.getD iM=aD g:=by simpa using r
 have q:=kH (P:=bA) w g O 78 #[I F A s,I K B t,I L C u,I N D v] d _ p underlying78 rfl (by kernel_rfl);simp[results,S,b,asAddr,q,Result.andThen]
def Gk{e f g h a' b' c' d':ab}{t:TypeId}{c:M×M}(j:a.heap[b]?=H (ay #[e,f,g,h] t c)):(cH (cH (cH (cH a (R b 0) a') (R b 1) b') (R b 2) c') (R b 3) d').heap[b]?=H (ay #[a',b',c',d'] t c):=by
 have d:=aJ (i:=3) (u:=d')<|aJ (i:=2) (u:=c')<|aJ (i:=1) (u:=b')<|aJ (i:=0) (u:=a') j;rw[d];simp
abbrev bL(v:ab):ab:=dA #[dL #[az,az,az,az],v]
def Ye{b q:M}(h:s.Xp)(j:AS f q)(g:s.D f)(k:Z s.F a f)(i:f.heap[b]?=H (ay #[az,az,az,az] 78 (0,0)))(n:z (G a)<=b)(m:¬s.F b):∀d,d=cH (cH (cH (cH f (R b 0) az) (R b 1) az) (R b 2) az) (R b 3) az->d.heap[b]?=H (ay #[az,az,az,az] 78 (0,0))/\EA s a d s.F (aN<|bL<|fj q) bL:=by
 rintro d rfl;have e:=Gk (a':=az) (b':=az) (c':=az) (d':=az) i;have c:Z (λl=>l=b) f (cH (cH (cH (cH f (R b 0) az) (R b 1) az) (R b 2) az) (R b 3) az):=(((iT b f).setCell _ 1 _<|.inl rfl).setCell _ 2 _<|.inl rfl).setCell _ 3 _<|.inl rfl;exact⟨e,h,q,rfl,j.aj c (λl b _=>by rw[b];grind),s.fc g c (by grind),k.trans c<|by grind⟩
def UM(P i f:M)(x1 w x:Option Addr)(n1 t u c1 c2 c3:M)(d:cP)(N O:cP)(bq:Row a 1 (bI P i (y d) f) (y d) (d.map bB.ptr))(ax:P<b/\¬s.F P)(cd:∀ej∈d,nT s b ej.tb ej.ks ej.cs a)(h1:tw s b (I x1 n1 c1) j a)(dv:Row a 1 (I w t c2) (y N) (N.map bB.ptr))(dx:Row a 1 (I x u c3) (y O) (O.map bB.ptr))(cM:∀n,cI (I w t c2)=H n->n<b/\¬s.F n)(cN:∀n,cI (I x u c3)=H n->n<b/\¬s.F n)(hD:s.D a)(an:b<=z (G a))(hF:∀n,s.F n->n<b)(hT:Steps a)(cm:1<b/\¬s.F 1)(ba:y d+y j+y N+y O<=1000000)(p:eF)(mx:Option Addr)(mc:M)(hm:Row a 1 (I mx (y p) mc) (y p) (p.map<|Value.int .u64))(dm:∀n,cI (I mx (y p) mc)=H n->n<b/\¬s.F n)(co:y p<=4)(c:Bool)(bd:c=(N.isEmpty&&O.isEmpty))(hs:eh (de<|cA j::d.map bB.all))(hg:∀es∈de (cA j::d.map bB.all),es.Good)(hl:y (de<|cA j::d.map bB.all)<=1000000):cY bA 97 #[dL #[bI P i (y d) f,I x1 n1 c1,I w t c2,I x u c3],aq 0,I mx (y p) mc] a λW v=>(∃C bh A,∃e:cP,W=aN (dA #[dL #[az,I C bh A,I w t c2,I x u c3],.nilIface])/\v.ownsRow (z<|G a) 179 1 (I C bh A) (y e) (e.map bB.ptr)/\e.map bB.all=gJ (sk p c d j)/\qR v (z<|G a) e/\s.D v/\Z s.F a v)\/EA s a v s.F W bL:=by
 have hW:Z aw a (dd (dd a<|ay #[bI P i (y d) f,I x1 n1 c1,I w t c2,I x u c3] 78)<|ay #[az,az,az,az] 78):=(cO _ a).alloc _;generalize aU:dd (dd a<|ay #[bI P i (y d) f,I x1 n1 c1,I w t c2,I x u c3] 78) (ay #[az,az,az,az] 78)=bc at hW;have aF:bc.heap[z<|G a]?=H (ay #[bI P i (y d) f,I x1 n1 c1,I w t c2,I x u c3] 78 (0,0)):=by rw[<-aU];grind[gq,aK]
 have ch:bc.heap[z (G a)+1]?=H (ay #[az,az,az,az] 78 (0,0)):=by rw[<-aU];exact aK _<|by simp
 have al:∀r,Z aw a r->kS s b aw a r:=λr ht=>ht.same an cJ cJ;have bm:∀n,b<=n->¬s.F n:=(by grind)
 have cn:∀r,Z s.F bc r->Ey r (z<|G a) 0 [(bI P i (y d) f,d),(I x1 n1 c1,j),(I w t c2,N),(I x u c3,O)]:=by
  intro r ac;have bf:∀bs c,Row a 1 bs (y c) (c.map bB.ptr)->(∀n,cI bs=H n->n<b/\¬s.F n)->Row r 1 bs (y c) (c.map bB.ptr):=λbs c hr B=>
   ac.row (hW.row hr<|by grind) (by grind)
  have hz:z (G a)<=z (G r):=aB hW.size ac.size;have ce:=(ac.block _ (ak aF)<|bm _ an).trans aF;have bl:∀L bs,(#[bI P i (y d) f,I x1 n1 c1,I w t c2,I x u c3]:Array ab)[L]?=H bs->aW r (R (z<|G a)<|0+L)=H bs:=by
   intro L bs hv;rw[ct ce,dM];exact hv
  refine⟨rfl,λL hi=>?_,λL hi=>?_,λL hi n B=>?_,by simp[mq];omega⟩
  .match L,hi with
   |0,_=>grind
   |1,_=>grind
   |2,_=>grind
   |3,_=>grind
  .match L,hi with
   |0,_=>exact bf _ _ bq (λn W=>by cases W;exact ax)
   |1,_=>exact bf _ _ h1.row<|λn W=>h1.loc n W
   |2,_=>grind
   |3,_=>grind
  .match L,hi with
   |0,_=>cases B;grind
   |1,_=>exact ai (h1.loc n B).1<|aB an hz
   |2,_=>grind
   |3,_=>grind
 have ad:∀r,Z s.F bc r->cY bA 153 #[aD<|z<|G a,aq 2] r λW v=>W=aN (aM c)/\v=r:=by intro r ac;have h:=Ec (w:=r) (lb:=z<|G a) (lo:=0) 2 _ (cn _ ac) (by omega);(have he:jU [(bI P i (y d) f,d),(I x1 n1 c1,j),(I w t c2,N),(I x u c3,O)] 2=c:=by rw[bd];simp[jU]);rw[he]at h;exact h
 have aV:∀q,cY bA 152 #[bI P i (y d) f,I x1 n1 c1] (bc.drewN q) λW v=>(∃c,W=aN (dA #[c,.nilIface])/\v.ownsRow (z<|G bc) 171 4 c (y<|de<|cA j::d.map bB.all) (aI<|de<|cA j::d.map bB.all)/\s.D v/\Z s.F (bc.drewN q) v)\/EA s (bc.drewN q) v s.F W (λbs=>dA #[az,bs]):=by intro q;have bf:Z aw a (bc.drewN q):=hW.of_heap rfl;have ba:=al _ bf;refine Gg b P i f (I x1 n1 c1) d j ?_ ax (λej ht=>(cd ej ht).same ba) (by omega) (h1.same ba) (s.fc hD bf cJ) (aB an bf.size) hF hl;intro L hi;obtain⟨_,⟨ec,_⟩|⟨b',ei,ce,ec,_,hc⟩⟩:=bq.same ba (λn W=>by cases W;exact ax);cases ec;grind
 have cj:=IX (V:=s) (W:=bc) (ms:=p) (mx:=mx) (mc:=mc) (de<|cA j::d.map bB.all) (hW.row hm<|by grind) (by grind) co hs hl;have ck:∀r,Z s.F bc r->Steps r:=λr ht n B=>ht.cell (hW.cell (hT n B) id hT.lt) cm.2 (by grind);have cl:eh (sk p c d j)/\rH 5 (sk p c d j)/\(∀es∈sk p c d j,es.Good)/\y (sk p c d j)<=1000000:=uq hs hg hl co;obtain⟨bt,ao,cs,cu,bu,cv,ap,HW,V⟩:=yU aF ch ad aV cj ck cl hW bm;have em:∀e:cP,e.map bB.all=gJ (sk p c d j)->y e<=100000000:=by intro e h;have:=bS y h;rw[bU]at this;have:=uX<|sk p c d j;omega
 have cE:=X aU;have eq:=hW.size;have cp:sk p c d j=if c then ij (dZ p<|de<|cA j::d.map bB.all)else dZ p (de<|cA j::d.map bB.all):=rfl;have bE:=X cp;clear bq ax cd h1 dv dx cM cN hD hF hT cm bd hg hl hs hm dm aF ch al cn ad aV cj ck cl hW bm aU cp;generalize de (cA j::d.map bB.all)=ML at*;generalize sk p c d j=cc at*;go_in
 go_wp2_with fail
 go_quiet(fail)
 rw[J cE];have aV:=cu nq;go_wp2_with fail
 apply aV.mono;rintro W D(⟨eb,rfl,E,aa,K⟩|⟨cT,q1,rfl,ds,aa,K⟩);rotate_left;(.have g:Z s.F bc D:=(jl s.F bc nq).trans K<|λ_ h=>.inl h;have l:=(g.block _ (ak ao)<|V _<|by omega).trans ao;have q0:=cellAt l 0 rfl;have bf:=cellAt l 1 rfl;have q2:=cellAt l 2 rfl;have q3:=cellAt l 3 rfl;have g0:=cQ (i:=0) l;have g1:=cQ (i:=1) l;have g2:=cQ (i:=2) l;have g3:=cQ (i:=3) l;have S:=X (Ye cT ds aa ((HW.mono (T:=s.F) cJ).trans g<|λ_ h=>.inl h) l (by omega)<|V _<|by omega);go_wp2;obtain⟨r1,r2⟩:=S _ rfl;refine cy (ru rfl _ _ (z (G a)+1) az az az az _ _ rfl r1 ⟨_,_,_,rfl⟩ ⟨_,_,_,rfl⟩ ⟨_,_,_,rfl⟩ ⟨_,_,_,rfl⟩) rfl ?_;exact .inr r2);have g:Z s.F bc D:=(jl s.F bc nq).trans K<|λ_ h=>.inl h;obtain⟨m,k,rfl⟩:=aC E;have dn:=bu.1 D _ m k g E;have bi:=X aa;have bT:=X g;go_wp2_with fail
 apply dn.mono;rintro W Q⟨vn,rfl,bp,cq⟩;have bg:Z s.F bc Q:=bT.cz cq;have cS:=s.fc bi cq cJ;obtain⟨xn,ed,rfl⟩:=aC bp;have ad:=cs Q bg;have df:=bu.2 Q _ xn ed bp;have eg:=bT.size;obtain⟨bx,au,cx⟩:=dF cS bg bp;cases c;(case' false=>obtain rfl:cc=dZ p ML:=J bE;(go_wp2_with fail);apply ad.mono;rintro W br⟨rfl,ea⟩;subst br;obtain⟨bk,av,bv⟩:=dF (gl (base':=z<|G a) cx<|by omega) au bx;generalize Q=w3 at*);(case' true=>obtain rfl:cc=ij (dZ p ML):=J bE;(go_wp2_with fail);apply ad.mono;rintro W br⟨rfl,ea⟩;subst br;(go_wp2_with fail);apply df.mono;rintro W w3⟨vb,rfl,bf,ce⟩;obtain⟨xn,ed,rfl⟩:=aC bf;obtain⟨bk,av,bv⟩:=dF (gl (base':=z<|G a) bf (by have:=au.size;omega)) (au.cz ce)<|s.fc bx ce cJ)
 all_goals
  have dr:=vI (dR bk) ap.1 ap.2.1 ap.2.2.1 ap.2.2.2 (λn B=>(bk.lt n B).2)<|cv w3 av;go_wp2_with fail
  apply dr.mono;rintro W D⟨eb,e,rfl,E,db,bn,K⟩;have g:Z s.F bc D:=av.cz K;have aa:=s.fc bv K cJ;have eo:=av.size;obtain⟨m,k,rfl⟩:=aC E;have dc:=(g.block _ (ak bt)<|V _ an).trans bt;have l:=(g.block _ (ak ao)<|V _<|by omega).trans ao;have en:=g.size;have bn:=bn.base (base':=z<|G a) (by omega);have hC:cY bA 95 #[bI (z<|G D) 0 3 3] (dd D<|ay #[az,I m (y e) k,az] 76) λW v=>∃v',W=aN v'/\v.ownsRow (z<|G a) 179 1 v' (y e) (e.map bB.ptr)/\Z aw D v:=by
   have bl:∀L bs,(#[I none 0 0,I m (y e) k,az]:Array ab)[L]?=H bs->aW (dd D<|ay #[az,I m (y e) k,az] 76) (R (z<|G D)<|0+L)=H bs:=by
    simp_all
   have dT:Row (dd D<|ay #[az,I m (y e) k,az] 76) 1 (I m (y e) k) (y e) (e.map bB.ptr):=dR<|aT E _;have h:=ux (z<|G D) 0 3 [(I none 0 0,[]),(I m (y e) k,e),(I none 0 0,[])] (dd D<|ay #[az,I m (y e) k,az] 76) ?_ (by simp) ?_ ?_ (by simp) (by simp[mq];grind)
   .have e1:mq [(I none 0 0,[]),(I m (y e) k,e),(I none 0 0,[])]=y e:=by simp[mq]
    have e2:qB [(I none 0 0,[]),(I m (y e) k,e),(I none 0 0,[])]=e.map bB.ptr:=by simp[qB]
    rw[e1,e2]at h;apply h.mono;rintro W v⟨v',rfl,ho,ht⟩;exact⟨v',rfl,gl ho (by simp;omega),(cO aw D).cz ht⟩
   .grind
   .intro L hi;match L,hi with
    |0,_=>exact⟨rfl,.inl ⟨rfl,rfl⟩⟩
    |1,_=>exact dT
    |2,_=>exact⟨rfl,.inl ⟨rfl,rfl⟩⟩
   .intro L hi n B;match L,hi with
    |0,_=>cases B
    |1,_=>have:=(bN E n B).2;simp;omega
    |2,_=>cases B
  obtain⟨cw,bi,cB,cr,ca,cb⟩:=lw bn aa g db dc l;go_wp2_with fail
  apply hC.mono;rintro W Q⟨er,rfl,bo,F⟩;obtain⟨C,A,rfl⟩:=aC bo;have AQ:=(F.block _ (ak ca) id).trans ca;have o:=(F.block _ (ak cb) id).trans cb;have p0:=cellAt AQ 0 rfl;have p1:=cellAt AQ 1 rfl;have p2:=cellAt AQ 2 rfl;have p3:=cellAt AQ 3 rfl;have f0:=cQ (i:=0) AQ;have f1:=cQ (i:=1) AQ;have q0:=cellAt o 0 rfl;have q1:=cellAt o 1 rfl;have q2:=cellAt o 2 rfl;have q3:=cellAt o 3 rfl;have g0:=cQ (i:=0) o;have g1:=cQ (i:=1) o;have g2:=cQ (i:=2) o;have g3:=cQ (i:=3) o;obtain⟨el,au,ek⟩:=dF bo F o;have S:=X (show∀wf,wf=cH (cH (cH (cH (cH (cH Q (R (z<|G a) 0) az) (R (z<|G a) 1)<|I C (y e) A) (R (z (G a)+1) 0) az) (R (z (G a)+1) 1)<|I C (y e) A) (R (z (G a)+1) 2)<|I w t c2) (R (z (G a)+1) 3) (I x u c3)->wf.heap[z (G a)+1]?=H (ay #[az,I C (y e) A,I w t c2,I x u c3] 78 (0,0))/\wf.ownsRow (z<|G a) 179 1 (I C (y e) A) (y e) (e.map bB.ptr)/\qR wf (z<|G a) e/\s.D wf/\Z s.F a wf from by
   rintro wf rfl;have hx:((cH (cH Q (R (z<|G a) 0) az) (R (z<|G a) 1)<|I C (y e) A)).heap[z (G a)+1]?=H (ay #[az,az,az,az] 78 (0,0)):=(km _<|by omega).trans<|(km _<|by omega).trans o;have bb:Z (λn=>n=z (G a)\/n=z (G a)+1) Q (cH (cH (cH (cH (cH (cH Q (R (z<|G a) 0) az) (R (z<|G a) 1)<|I C (y e) A) (R (z (G a)+1) 0) az) (R (z (G a)+1) 1)<|I C (y e) A) (R (z (G a)+1) 2)<|I w t c2) (R (z (G a)+1) 3)<|I x u c3):=((((((Z.refl _ Q).setCell _ 0 _<|.inl<|.inl rfl).setCell _ 1 _<|.inl<|.inl rfl).setCell _ 0 _<|.inl<|.inr rfl).setCell _ 1 _<|.inl<|.inr rfl).setCell _ 2 _<|.inl<|.inr rfl).setCell _ 3 _<|.inl<|.inr rfl;have dk:=Gk (a':=az) (b':=I C (y e) A) (c':=I w t c2) (d':=I x u c3) hx;generalize cH (cH (cH (cH (cH (cH Q (R (z<|G a) 0) az) (R (z<|G a) 1)<|I C (y e) A) (R (z (G a)+1) 0) az) (R (z (G a)+1) 1)<|I C (y e) A) (R (z (G a)+1) 2)<|I w t c2) (R (z (G a)+1) 3) (I x u c3)=wf at*;have ef:∀n,(n=z (G a)\/n=z (G a)+1)->∃b,Q.heap[n]?=H (ay b 78 (0,0)):=by
    grind
   refine⟨dk,bb.own bo<|λn B ec=>?_,?_,s.fc (s.fc bi F cJ) bb<|λn B=>V n (by rcases B with ec|ec<;>omega),?_⟩
   .grind[eT,iQ]
   .refine((cw.aj F).other bb<|λn B=>?_).base (by omega);grind
   .exact(((HW.mono (T:=s.F) cJ).trans cB (λ_ h=>.inl h)).cz F).trans bb (by simp))
  go_wp2;obtain⟨r1,r2,r3,r4,r5⟩:=S _ rfl;refine cy (ru rfl _ _ (z (G a)+1) az (I C (y e) A) (I w t c2) (I x u c3) _ _ rfl r1 ⟨_,_,_,rfl⟩ ⟨_,_,_,rfl⟩ ⟨_,_,_,rfl⟩ ⟨_,_,_,rfl⟩) rfl ?_;exact .inl ⟨C,y e,A,e,rfl,r2,cr,r3,r4,r5⟩
theorem sB{us ts:cP}(h:us.Sublist ts):(cA us).Sublist (cA ts):=by
 induction h with
 |slnil=>grind
 |cons x _ a=>rw[zH];grind
 |cons_cons x _ a=>rw[zH,zH];grind
def jn.sub(h:jn p)(a:j.Sublist p):jn j:=⟨λt b=>h.pure t<|a.subset b,h.mJ.sub<|sB a,h.GW.sublist<|a.map _⟩
def WF(h:jh a (bI b c (y j) i) j)(d:y j<=i)(f:l<=y j):jh a (I (if i=l then H (R b c)else H (R b<|c+l)) (y j-l)<|i-l) (j.drop l):=by
 by_cases g:i=l;(have e:y j=l:=by omega);rw[di g,<-e,gz,AY,show i-y j=0 by omega];exact h.empty c;rw[dt g];exact h.drop l f
def ZG{w1:Y}{ta tbqq:cP}(a:M)(f:jh w1 d ta)(g:jh w1 t tbqq)(s:y ta+y tbqq<=10000000)(u:a<=z (G w1))(T:TypeId):cY bA 95 #[bI (z<|G w1) 0 2 2] ((dd w1<|ay #[d,t] T).drew) λq j=>∃e,q=aN e/\j.ownsRow a 179 1 e (y<|ta++tbqq) ((ta++tbqq).map bB.ptr)/\Z aw w1 j:=by
 have b:Z aw w1 ((dd w1<|ay #[d,t] T).drew):=(cO _ w1).of_heap rfl;have h:∀k v,(#[d,t]:Array ab)[k]?=H v->aW ((dd w1<|ay #[d,t] T).drew) (R (z<|G w1)<|0+k)=H v:=by simp_all
 have r:=ux (z<|G w1) 0 2 [(d,ta),(t,tbqq)] ((dd w1<|ay #[d,t] T).drew) ?_ (by simp) ?_ ?_ (by simp) (by simp[mq];omega);(have m:mq [(d,ta),(t,tbqq)]=y (ta++tbqq):=by simp[mq]);(have n:qB [(d,ta),(t,tbqq)]=(ta++tbqq).map bB.ptr:=by simp[qB]);rw[m,n]at r;apply r.mono;rintro q j⟨e,rfl,o,p⟩;exact⟨e,rfl,gl o (by simp;omega),b.cz p⟩;grind
 .intro k i;match k,i with
  |0,_=>exact b.row f.row<|λl c=>⟨id,f.lt l c⟩
  |1,_=>exact b.row g.row<|λl c=>⟨id,g.lt l c⟩
 .intro k i l c;match k,i with
  |0,_=>have:=f.lt l c;simp;omega
  |1,_=>have:=g.lt l c;simp;omega
def ZF(e b f:cP)(c:M)(s:Row a 1 d (y e) (e.map bB.ptr))(i:∀k,cI d=H k->k<z (G a))(u:Row a 1 t (y b) (b.map bB.ptr))(j:∀k,cI t=H k->k<z (G a))(v:Row a 1 L (y f) (f.map bB.ptr))(m:∀k,cI L=H k->k<z (G a))(C:y e+y b+y f<=10000000)(D:c<=z (G a))(T:TypeId):cY bA 95 #[bI (z<|G a) 0 3 3] (dd a<|ay #[d,t,L] T) λA p=>∃h,A=aN h/\p.ownsRow c 179 1 h (y<|e++b++f) ((e++b++f).map bB.ptr)/\Z aw a p:=by
 have g:Z aw a (dd a<|ay #[d,t,L] T):=(cO _ a);have l:∀q v,(#[d,t,L]:Array ab)[q]?=H v->aW (dd a<|ay #[d,t,L] T) (R (z<|G a)<|0+q)=H v:=by simp_all
 have B:=ux (z<|G a) 0 3 [(d,e),(t,b),(L,f)] (dd a<|ay #[d,t,L] T) ?_ (by simp) ?_ ?_ (by simp) (by simp[mq];omega);(have o:mq [(d,e),(t,b),(L,f)]=y (e++b++f):=by simp[mq]);(have r:qB [(d,e),(t,b),(L,f)]=(e++b++f).map bB.ptr:=by simp[qB]);rw[o,r]at B;apply B.mono;rintro A p⟨h,rfl,w,x⟩;exact⟨h,rfl,gl w (by simp;omega),g.cz x⟩;grind
 .intro q n;match q,n with
  |0,_=>exact g.row s<|by grind
  |1,_=>exact g.row u<|by grind
  |2,_=>exact g.row v<|by grind
 .intro q n k o;match q,n with
  |0,_=>have:=i k o;simp;omega
  |1,_=>have:=j k o;simp;omega
  |2,_=>have:=m k o;simp;omega
section
open Shelf
attribute [local go_sem] Oper.semAt_some
def bk(a:ix):M->ci (M×ab)
 |0=>[]
 |j+1=>(j,a.getD j .nilIface)::bk a j
def ZR(p:M×ab):Array ab:=#[aq p.1,p.2]
def Lp(v:ab)(x:Option Addr)(n c:M)(a:v=I x n c)(w:Y):cY bA 183 #[v] w λe b=>e=aN (.func (.func 231) #[] #[aD<|z<|G w])/\b=dd w (ay #[v] 76):=by
 subst a;go_in
 go_wp2;go_ret;simp_all
def Rk(F bb:M)(W:eX a b d 76)(hr:Row a 1 d (y B) B)(n:∀p,cI d=H p->p<F)(aa:F<=z (G a))(ax:y B<=1000000000):OR ZR BZ F bb 231 #[aD b] (bk B<|y B) (λp=>p=b) a:=by
 intro lr aV Jx aU ba hs hD hJ v C ac hY;obtain⟨aF,ao,hv⟩:=bZ hr;obtain⟨HB,HR,O,HS,HJ,S,HY,P⟩:=Gw W hr n hs hJ v hY C;have ap:aW ba (R b 0)=H d:=hs.cell (.inl rfl) W.cell;clear W hr n hs hJ v C ac hY hD;subst hv;refine vq func231 rfl trivial ?_ rfl;simp only[ntmps231,gA,aO,dB,Nat.reduceAdd,Nat.reduceSub,ft,fq,gB,fM,du,cR];gi_wp2;gi_loopw [3] (λi wr=>∃(j:M)(f:ci (M×ab))(s:fh),i=aq ((j:U)-1)/\j<=y B/\bk B (y B)=f++bk B j/\aV f s wr/\(∀p,p=b->¬s p)/\kS BZ F (λp=>p=b) a wr) (λi _=>(intOf i+1).toNat)
 case atStart=>exact⟨y B,[],aU,by go_num,ag _,rfl,HJ,S,HS⟩
 case round=>
  obtain⟨j,f,s,rfl,hj,m,g,i,c⟩:=hrel;have au:aW wr (R b 0)=H (I aF (y B) ao):=c.cell (.inl rfl) HB.cell;cases j with
  |zero=>
   have q:=X g;have N:=X m;clear g i c m;gi_wp2;refine AW (ju rfl _ _ _) rfl ?_;refine⟨⟨_,rfl⟩,.inl ⟨s,?_,trivial⟩⟩;have m:=J N;rw[show bk B 0=[]from rfl,dz]at m;rw[m];exact q
  |succ j=>
   have ej:(((j+1:M):U)-1)=(j:U):=by omega
   rw[ej];have r:B.getD j .nilIface=B[j]:=by rw[tR,aR hj];rfl
   have w:∃an e,aF=H (R an e)/\aW wr (R an<|e+j)=H B[j]:=by
    obtain⟨h1,⟨L,h0⟩|⟨al,x,K,L,V,hc⟩⟩:=J HR
    .omega
    .cases L;exact⟨al,x,rfl,c.cell (.inr ⟨O _ rfl,id⟩)<|by grind⟩
   obtain⟨an,e,E,w⟩:=w;have o:(f++[(j,B[j])])<+:bk B (y B):=⟨bk B j,by rw[m,show bk B (j+1)=(j,B.getD j .nilIface)::bk B j from rfl,r];simp⟩;have A:bk B (y B)=(f++[(j,B[j])])++bk B j:=by rw[m,show bk B (j+1)=(j,B.getD j .nilIface)::bk B j from rfl,r];simp
   have N:=X A;obtain⟨fn,ad,D,body,hy,hR⟩:=HY f (j,B[j]) s wr o g trivial;unfold ZR at hy;simp only at hy;obtain⟨Q,q,T⟩:=dF hR g c;have l:=X i;clear g c i m A o hR r ej;generalize B[j]=xj at*;have e1:(j:U)<(y B:U):=by omega
   have e2:(0:U)<=(j:U):=by omega
   subst E;gi_wp2;refine⟨(λao=>(by cases ao)),Q.mono ?_⟩;rintro bc W3(⟨rfl,_,B3,u,k,t⟩|⟨rfl,E⟩)
   .have L:=X u;have V:=X k;have K:=X t;clear u k t;gi_wp2;go_roundw;case rel=>
     have k:=J V;have c:=J T;have av:b<z (G wr):=ai (ak HB) c.1;refine⟨j,f++[(j,xj)],B3,by go_num,by omega,N,L,λp x al=>?_,?_⟩
     .rcases K p al with al|al
      .exact l p x al
      grind
     .refine c.trans ?_;exact k.same (aB aa c.1) (λp x=>⟨by grind,l p x⟩) (λp x a=>by have:=(P _ _ _ q p x).1;omega)
    case measure=>simp[intOf]
   .have x:=X E;clear E;gi_wp2;refine cy (ju rfl _ _ _) rfl ?_;exact⟨⟨_,rfl⟩,.inr ⟨_,x⟩⟩
end
section
open Shelf
attribute [local go_sem] Oper.semAt_some
structure RB(w0:Y)(vs:ix)(B:fh)(W:Y):Prop where
 row:∃v,eX W (z<|G w0) v 166/\W.ownsRow (z (G w0)+1) 169 1 v (y vs) vs/\(∀k,B k↔k=z (G w0)\/cI v=H k)
 aj:Z aw w0 W
def RB.lt(h:RB a B o A):∀k,o k->z (G a)<=k/\k<z (G A):=by
 intro k e;obtain⟨v,i,c,d⟩:=h.row;rcases(d k).1 e with g|g;grind
 have:=c.lt k g;grind
def RB.stays{T:fh}(h:RB a B o f)(b:Z T f A)(g:∀k,T k->¬o k/\z (G a)<=k):RB a B o A:=by
 obtain⟨v,c,d,e⟩:=h.row;exact⟨⟨v,(b.block _ (ak c)<|by grind).trans c,b.own d (by grind),e⟩,h.aj.trans b<|by grind⟩
def RB.more{v b x:ab}{C:Obj}(D:RB a B o f)(l:eX f (z<|G a) v 166)(E:∀k,o k↔k=z (G a)\/cI v=H k)(t:f.ownsRow (z (G a)+1) 169 1 v (y B) B)(q:eJ (dd f C) A v b)(d:A.ownsRow (z (G a)+1) 169 1 b (y B+1) (B++[x])):∃h,RB a (B++[x]) h (cH A (R (z<|G a) 0) b)/\Z o f (cH A (R (z<|G a) 0) b)/\(∀k,h k->o k\/z (G f)<=k):=by
 have u:∀k,cI v=H k->z (G a)+1<=k/\k<z (G f):=λk c=>t.lt k c;have n:∀k,cI b=H k->z (G a)+1<=k:=λk c=>(d.lt k c).1;have j:Z (λk=>cI v=H k) f A:=((Z.refl (λk=>cI v=H k) f).alloc C).trans (Z.ep (S:=λk=>cI v=H k) q.grown<|λk c=>.inl c)<|λk c=>.inl c;have g:eX A (z<|G a) v 166:=(j.block _ (ak l)<|by grind).trans l;have e:Z o f (cH A (R (z<|G a) 0) b):=(j.mono (T:=o)<|by grind).setCell _ _ _ (by grind);refine⟨λk=>k=z (G a)\/cI b=H k,⟨⟨b,g.set _,?_,λk=>rK⟩,?_⟩,e,?_⟩;rw[show y (B++[x])=y B+1 by simp];exact d.kept (dS A _ _ _) (by grind);exact D.aj.trans e (by grind);rintro k(r|r);(grind);rcases q.vQ with w|⟨F,w,s⟩;(grind);rw[w]at r;cases r;simp at s;grind
def Py(t:bB):ab:=.iface 179 t.ptr
def Hr(p:ab×cP):ab:=.iface 76 p.1
end
section
open Shelf
attribute [local go_sem] Oper.semAt_some
def XZ(a:cP):∀j,j<=y a->(bk (a.map bB.ptr) j).map (λp=>Value.iface 179 p.2)=((a.take j).map Py).reverse
 |0,_=>by simp[bk]
 |j+1,h=>by
  have b:j<y a:=h;rw[bk,bR,XZ a j (by omega),ah b,aE,List.reverse_append];simp only[bR,iz,uL,List.reverse_nil,du,jQ,ni,vR];rw[tR,fB,aR b];rfl
def po(a b c d:ab×cP):ix:=((a.2.map Py).reverse)++[Hr b]++[Hr c]++[Hr d]
def V6(w:Y)(a o:M)(v:ab):Prop:=∃x n c,v=I x n c/\aW w (R a o)=H (I x n c)
def Qj{w:Y}{lb lo:M}(p0 p1 p2 p3:ab×cP)(h:Ey w lb lo [p0,p1,p2,p3]):cY bA 119 #[dC<|H<|R lb lo] w λcx w'=>∃v',cx=aN v'/\w'.ownsRow (z<|G w) 169 1 v' (y<|po p0 p1 p2 p3) (po p0 p1 p2 p3)/\Z aw w w':=by
 obtain⟨i0,bo,bt,bu,ba⟩:=dl KF;obtain⟨v0,a⟩:=p0;obtain⟨v1,p⟩:=p1;obtain⟨v2,q⟩:=p2;obtain⟨v3,r⟩:=p3;have c0:aW w (R lb lo)=H v0:=h.cell 0 (by simp);have c1:aW w (R lb<|lo+1)=H v1:=h.cell 1 (by simp);have c2:aW w (R lb<|lo+2)=H v2:=h.cell 2 (by simp);have c3:aW w (R lb<|lo+3)=H v3:=h.cell 3 (by simp);have bq:Row w 1 v0 (y a) (a.map bB.ptr):=h.row 0 (by simp);have ch:∀D,cI v0=H D->D<z (G w):=h.jM 0 (by simp);obtain⟨x0,k,rfl⟩:=bZ bq;obtain⟨x1,P,rfl⟩:∃bc ac,v1=I bc (y p) ac:=bZ (h.row 1<|by simp);obtain⟨x2,Q,rfl⟩:∃bc ac,v2=I bc (y q) ac:=bZ (h.row 2<|by simp);obtain⟨x3,T,rfl⟩:∃bc ac,v3=I bc (y r) ac:=bZ (h.row 3<|by simp);have cm:y a<=100000000:=by have:=h.small;simp[mq]at this;omega
 have cl:=h.lt;obtain⟨ap,bL,bT,cc,bd⟩:=iY c1 c2 c3 bq ch;refine(eD (n:=3)).1 ?_;refine callsIn_of_wp_marks func119 rfl trivial ?_ rfl;simp only[ntmps119,gA,aO,dB,Nat.reduceAdd,Nat.reduceSub,ft,fq,gB,fM,du,cR];gi_wp2;refine wpIn_loop_rounds 5 ?_;rw[roundsIn_succ];gi_wp2;rename_i QQ KK aa;apply Oj KK;(.intro bb;refine zg.2 ?_;(go_region);all_goals exact bb);apply aa;have cj:=λav=>Lp (I x0 (y a) k) x0 (y a) k rfl av;gi_wp2_with(refine⟨trivial,?_⟩;gi_at_call 183;refine(eD.2<|cj _).mono ?_;rintro cx w1⟨rfl,rfl⟩)
 have e1:z (G (dd (dd w<|ay #[az] 166)<|ay #[I x0 (y a) k] 76).drew)=z (G w)+2:=by simp
 obtain⟨W0,A⟩:∃W0,(dd (dd w<|ay #[az] 166)<|ay #[I x0 (y a) k] 76).drew=W0:=⟨_,rfl⟩;rw[A]at e1;have E:Z aw w W0:=by rw[<-A];exact((cO aw w).alloc _).of_heap rfl
 have bl:eX W0 (z (G w)+1) (I x0 (y a) k) 76:=by rw[<-A];exact aK (w:=dd w<|ay #[az] 166) _<|by simp
 have bm:eX W0 (z<|G w) az 166:=by rw[<-A];exact eX.alloc (w:=dd w<|ay #[az] 166) (aK (w:=w) _ rfl) _
 have ao:Row W0 1 (I x0 (y a) k) (y<|a.map bB.ptr) (a.map bB.ptr):=by rw[bU];exact E.row cc<|λD s=>⟨id,bd D s⟩
 have bg:RB w [] (λD=>D=z (G w)) W0:=⟨⟨az,bm,cK _ _ _ _,λD=>by simp[cI]⟩,E⟩;rw[A];refine se (α:=M×ab) (arg:=ZR) (m:=3) (V:=BZ) (n0:=z<|G w) (gf:=231) (lb:=#[aD<|z (G w)+1]) (l:=bk (a.map bB.ptr)<|y<|a.map bB.ptr) (S:=λD=>D=z (G w)+1) ?geval (enters_of func231 (by kernel_rfl) rfl) (λ_=>rfl) (Rk (z<|G w) 2 bl ao bd E.size (by simp;omega)) trivial E.size ?slt (λK bE av=>RB w (K.map<|λcp=>Value.iface 179 cp.2) bE av) (λ_ _ _ _=>False) (λD=>D=z (G w)) bg ?sb ?lt ?st (λ_ _ _ _ _ _ h=>h.elim) ?body ?done ?stop;case geval=>rfl
 (case slt=>grind);(case sb=>grind);(case lt=>intro K bE av h D s;exact h.lt D s);(case st=>intro K bE av L W h v e;refine h.stays v<|λD s=>⟨(e D s).1,?_⟩;rcases(e D s).2 with ac|ac|ac;omega;exact ac.elim;omega);(case stop=>grind)
 case body=>
  intro lr K bc bE av br aF bh v hC _;obtain⟨xi,xv⟩:=bc;obtain⟨C,L⟩:∃C,K.map (λcp=>Value.iface 179 cp.2)=C:=⟨_,rfl⟩;have au:y C<=100000000:=by
   have:=v.length_le;rw[<-L];simp only[bU,af,aO,dB]at this|-;have hb:∀(a:ix)bi,y (bk a bi)=bi:=λa bi=>by induction bi with|zero=>rfl|succ bi ih=>simp[bk,ih]
   rw[hb]at this;omega
  rw[L]at hC;obtain⟨HC,bp,bf⟩:=dF hC L v;clear hC v L;obtain⟨j,d⟩:∃j,y C=j:=⟨_,rfl⟩;have t:=X d;unfold ZR;simp only;gi_wp2;refine⟨Z.refl _ _,λW e=>?_⟩;have o:RB w C bE W:=HC.stays e (λD s=>by grind);obtain⟨cq,B,c,u⟩:=o.row;rw[d]at c;have aU:aW W (R (z<|G w) 0)=H cq:=B.cell;have bn:W.frozen? (R (z<|G w) 0)=bw:=B.free;obtain⟨ex,ec,F⟩:=aC c;have an:=ak B;have ce:j<=100000000:=by omega
  obtain⟨ap,HV,i,x,ax⟩:=iY o B c u e;clear o B c u e au d;subst F;gi_wp2_with(first
   |(gi_at_builtin;refine gp _ rfl (.tmp 27) (.tmp 30) 166 rfl (z (G w)+1) 169 i0 .nilIface 1 16 underlying166 bo bt bu ba rfl (by decide) (.slice ex j ec) j C rfl (aT i (.cells #[Value.iface 179 xv] 169)) (R (z (G W)) 0) 1 1 [Value.iface 179 xv] rfl rfl (Dy _ _ _) (E0 rfl) (by omega) (by omega) (by simp;omega) ?_;intro cn w3 b g;obtain⟨bx,bv,rfl⟩:=aC b;have f:eX w3 (z (G w)) (.slice ex j ec) 166:=(g.grown.block _ (ak (HV.alloc (.cells #[Value.iface 179 xv] 169))) (λac=>by have:=(i.lt _ ac.symm).1;omega)).trans (HV.alloc _);have ad:=f.cell;have al:=f.free;clear f;have N:=X b;have O:=X g;clear b g))
  obtain⟨B',q1,q2,q3⟩:=ap.more (x:=Value.iface 179 xv) HV x (by rw[J t];exact i) O (by rw[J t];exact N);have e:=J ax;have ba:=e.size;have aV:Z (λD=>bE D\/D=lr) av W:=e.mono<|λD s=>.inl<|.inr s;refine⟨trivial,B',?_,aV.trans q2<|λD s=>.inl<|.inl s,q2.block lr (by omega) aF,λD s=>?_⟩
  .grind[J]
  grind
 (case done=>intro co bE av cv hC W _ hK;(have bp:(bk (a.map bB.ptr)<|y<|a.map bB.ptr).map (λcp=>Value.iface 179 cp.2)=(a.map Py).reverse:=by rw[bU,XZ a _<|ag _,aY]);rw[bp]at hC;obtain⟨j,d⟩:∃j,y (a.map Py).reverse=j:=⟨_,rfl⟩;(have ce:j<=100000000:=by rw[<-d];simpa using cm);have e:(a.map Py).reverse++[Hr (I x1 (y p) P,p)]++[Hr (I x2 (y q) Q,q)]++[Hr (I x3 (y r) T,r)]=po (I x0 (y a) k,a) (I x1 (y p) P,p) (I x2 (y q) Q,q) (I x3 (y r) T,r):=rfl;unfold Hr at e;simp only at e;generalize(a.map Py).reverse=C at hC d e;obtain⟨RV,bi⟩:∃b,po (I x0 (y a) k,a) (I x1 (y p) P,p) (I x2 (y q) Q,q) (I x3 (y r) T,r)=b:=⟨_,rfl⟩;rw[bi]at e;have HL:V6 w lb (lo+1) (I x1 (y p) P)/\V6 w lb (lo+2) (I x2 (y q) Q)/\V6 w lb (lo+3) (I x3 (y r) T)/\True:=⟨⟨_,_,_,rfl,ap⟩,⟨_,_,_,rfl,bL⟩,⟨_,_,_,rfl,bT⟩,trivial⟩;have v:=X hC;have HK:=X hK;clear hC hK bp;clear A bl bm ao bg E;gi_wp2;(iterate 3 (rw[roundsIn_succ];obtain⟨⟨xa,na,ca,bs,cb⟩,HL⟩:=HL;rw[bs]at e;clear bs;have ck:=v.aj.cell cb id cl;gi_wp2;rename_i QQ KK aa;apply Oj KK;(focus(intro bb;refine zg.2 ?_;go_region;all_goals exact bb));apply aa;clear aa ck;have o:RB w C bE av.drew:=v.stays (dh aw av) cJ;have ax:av.drew.heap[co]?=H (.deferred<|H []):=J HK;generalize av.drew=au at o ax|-;clear v HK;obtain⟨cq,B,c,u⟩:=o.row;rw[d]at c;have aU:aW au (R (z<|G w) 0)=H cq:=B.cell;have bn:au.frozen? (R (z<|G w) 0)=bw:=B.free;obtain⟨ex,ec,F⟩:=aC c;have an:=ak B;obtain⟨HV,i,x,bf,L,t⟩:=lw B c u o ax d;clear B c u o ax d;subst F;gi_wp2_with(first|(gi_at_builtin;refine gp _ rfl (.tmp 18) (.tmp 21) 166 rfl (z (G w)+1) 169 i0 .nilIface 1 16 underlying166 bo bt bu ba rfl (by decide) (.slice ex j ec) j C rfl (aT i<|.cells #[Value.iface 76<|.slice xa na ca] 169) (R (z<|G au) 0) 1 1 [Value.iface 76<|.slice xa na ca] rfl rfl (Dy _ _ _) (E0 rfl) (by omega) (by omega) (by simp;omega) ?_;intro cn w3 b g;obtain⟨bx,bv,rfl⟩:=aC b;have f:eX w3 (z<|G w) (.slice ex j ec) 166:=(g.grown.block _ (ak<|HV.alloc<|.cells #[Value.iface 76<|.slice xa na ca] 169) (λac=>by have:=(i.lt _ ac.symm).1;omega)).trans<|HV.alloc _;have ad:=f.cell;have al:=f.free;clear f;have N:=X b;have O:=X g;clear b g));obtain⟨bE,q1,q2,q3⟩:=bf.more (x:=Value.iface 76<|I xa na ca) HV x (by rw[J t];exact i) O (by rw[J t];exact N);have aF:=(q2.block co (ak L) W).trans L;have W:¬bE co:=λac=>(q3 co ac).elim W<|λcE=>(by have:=ak L;omega);generalize cH w3 (R (z<|G w) 0) (I bx (j+1) bv)=av at q1 aF|-;have d:y (C++[Value.iface 76<|I xa na ca])=j+1:=(by rw[af,J t];rfl);generalize C++[Value.iface 76<|I xa na ca]=C at q1 d e;have v:=X q1;have HK:=X aF;clear q1 q2 q3 aF HV i x bf L t O N an ad al;clear aU bn;obtain⟨j,bh,cw⟩:∃bc,j+1=bc/\bc<=j+1:=⟨_,rfl,ag _⟩;rw[bh]at d;clear bh));rw[roundsIn_succ];obtain⟨cq,B,c,u⟩:=v.row;have aU:aW av (R (z<|G w) 0)=H cq:=B.cell;obtain⟨cu,cs,F⟩:=aC c;have i:=X c;have x:=X u;subst F;gi_wp2;have br:=iw av co<|.deferred none;refine⟨by simp,.inl ⟨_,_,rfl,run_takeDeferred HK,?_⟩⟩;refine⟨_,kT rfl _ _ _,?_⟩;have c:=J i;have hB:=J x;subst bi;rw[e]at c hB;have hx:=br.own c<|λD s ac=>W<|(hB co).2<|.inr (by rw[<-ac];exact s);refine⟨_,rfl,?_,v.aj.trans br<|λD s=>.inr (by subst s;omega)⟩;obtain⟨h1,⟨h2,h0⟩|⟨cB,cr,cd,h2,hb,aV⟩⟩:=hx;exact⟨h1,.inl ⟨h2,h0⟩⟩;exact⟨h1,.inr ⟨cB,cr,cd,h2,by omega,aV⟩⟩)
end
def Ey.aj{w w':Y}{d:ci (ab×cP)}{S:fh}(h:Ey w c l d)(g:Z S w w')(j:¬S c)(m:∀i(a:i<y d),∀k,cI d[i].1=H k->¬S k):Ey w' c l d:=⟨h.len,λi a=>g.cell (h.cell i a) j h.lt,λi a=>g.row (h.row i a)<|λk e=>⟨m i a k e,h.jM i a k e⟩,λi a k e=>ai (h.jM i a k e) g.size,h.small⟩
def pT{e:Addr}(n:a.ownsRow b c 1 (I (H e) i l) i B):∀k u,B[k]?=H u->aW a (e.add k)=H u:=by
 intro k u h;obtain⟨o,⟨d,_⟩|⟨t,m,f,d,p,g,r,q,s,j⟩⟩:=n;cases d;cases d;rw[dJ,ct g,dM];rw[<-j,pE]at h;grind
def yx(a:ab)(b c d e:ab×cP):ix:=.iface 73 a::po b c d e
def FB(q r s t:ab×cP)(h:cW a c W k)(g:Option Addr)(f e:M)(ad:W.memory=I g f e)(hl:Ey a c 10 [q,r,s,t]):cY bA 74 #[aD c] a λaU w'=>∃v',aU=aN v'/\w'.ownsRow (z<|G a) 169 1 v' (y (po q r s t)+1) (yx W.memory q r s t)/\Z aw a w':=by
 obtain⟨i0,aa,al,an,ao⟩:=dl KF;have w:=cW.cellAt h 7 rfl;have o:=ak h;have m:=X<|λB(O:Z aw a B)=>Qj (w:=B) (lb:=c) (lo:=10) q r s t<|hl.aj O id<|λ_ _ _ _=>id;have F:y (po q r s t)<=100000003/\1<=y (po q r s t):=by have:=hl.small;simp[po,mq]at this|-;omega
 have L:∀l∈po q r s t,l.oneCell'=cf:=by intro l d;simp only[po,aA,rh,bH,cL]at d;rcases d with((⟨p,_,rfl⟩|rfl)|rfl)|rfl<;>rfl
 obtain⟨ap,hn⟩:∃ap,y (po q r s t)=ap:=⟨_,rfl⟩;rw[hn]at F;unfold yx;rw[ad]at w|-;generalize aV:po q r s t=VS at*;go_in
 go_wp2_with fail
 rename_i QQ KK V;refine eH (λu=>aW u (R c 7)=H (I g f e)) 11 (by kernel_rfl) ?_;have C:aW a.drew (R c 7)=H (I g f e):=w;refine fw 0 ?_;iterate 5 (refine iS (v:=?_) C rfl (by kernel_rfl) lQ rfl ?_ ?_;rotate_left;(focus(intro u hX;go_simp;try rfl));simp only[Act.put,ig,Nat.reduceAdd])
 apply iG;refine fw 6 ?_;iterate 3 (refine iS (v:=?_) C rfl (by kernel_rfl) lQ rfl ?_ ?_;rotate_left;(focus(intro u hX;go_simp;try rfl));simp only[Act.put,ig,Nat.reduceAdd])
 apply iG;have K:∀(B:Y)(b:M),B.heap[b]?=H (ay #[.iface 73<|I g f e] 169 (0,0))->z (G a)<=b->B.ownsRow (z<|G a) 169 1 (bI b 0 1 1) 1 [.iface 73<|I g f e]:=by intro B b hb d;exact⟨rfl,.inr ⟨b,1,#[.iface 73<|I g f e],rfl,d,hb,ag _,by unfold maxLen;omega,rfl,rfl⟩⟩
 refine uQ (α:=M×ab) (λQ B=>Z aw a B/\B.heap[Q.1]?=H (ay #[.iface 73<|I g f e] 169 (0,0))/\z (G a)<=Q.1/\B.ownsRow (z<|G a) 169 1 Q.2 ap VS/\cI Q.2≠H Q.1) (λQ=>{tmps:=#[aD c,iM,az,aD c,aD c,dC<|H<|R c 7,I g f e,.iface 73<|I g f e,bI Q.1 0 1 1,aD c,aD c,dC<|H<|R c 10,Q.2,iM],defers:=[]}) #[true,true,true,true,true,true,true,true,true,true,false,false] 2 ?_ ?_;(.intro N;refine ue (i:=5) (j:=9) rfl rfl rfl rfl (by kernel_rfl) ?_ ?_;(.intro au T;go_simp;have x:Z aw a (dd a<|ay #[.iface 73<|I g f e] 169).drew:=(cO aw a).of_heap rfl;have E:(dd a<|ay #[.iface 73<|I g f e] 169).drew.heap[z<|G a]?=H (ay #[.iface 73<|I g f e] 169 (0,0)):=aK (w:=a) _ rfl;refine T _ _ (λ_=>x.cell w id o) ?_;refine bG (i:=9) rfl rfl (by kernel_rfl) ?_;intro K2 n;go_simp;apply(m _ x).mono;rintro aU P⟨v1,rfl,d,p⟩;have S:=(p.block _ (ak E) id).trans E;have l:=x.cz p;refine n _ _ (λ_=>l.cell w id o) ?_;have ac:=λk a=>(d.lt k a).1;simp at ac;refine jZ (N (z<|G a,v1) P ⟨l,S,ag _,?_,?_⟩) (by kernel_rfl);rw[hn]at d;obtain⟨q1,⟨q2,q0⟩|⟨bb,cp,D,q2,qb,A⟩⟩:=d;(grind);exact⟨q1,.inr ⟨bb,cp,D,q2,by grind,A⟩⟩;grind);intro au T;go_simp;apply(m _<|dh _ a).mono;rintro aU P⟨v1,rfl,d,p⟩;have l:Z aw a P:=(dh aw a).cz p;refine T _ _ (λ_=>l.cell w id o) ?_;refine bG (i:=5) rfl rfl (by kernel_rfl) ?_;intro K2 n;go_simp;have x:=l.alloc<|ay #[.iface 73<|I g f e] 169;refine n _ _ (λ_=>x.cell w id o) ?_;refine jZ (N (z<|G P,v1) _ ⟨x,aK _ rfl,l.size,?_,?_⟩) (by kernel_rfl);rw[hn]at d;exact aT d _;intro ax;have:=(d.lt _ ax).2;omega);rintro⟨b,au⟩B⟨O,hb,ac,N,ba⟩;have P:=K B b hb ac;(obtain⟨av,d,rfl⟩:∃a ax,au=I (H a) ap ax:=by rcases N.2 with⟨_,h0⟩|⟨bb,aF,D,h2,_⟩;omega;grind);refine bG (i:=10) rfl rfl (by kernel_rfl) ?_;intro K2 n;simp only[da,cD,cG];refine kE (.tmp 8) (.tmp 12) 166 rfl (z<|G a) 169 i0 .nilIface 1 16 underlying166 aa al an ao rfl (by decide) (bI b 0 1 1) 1 [.iface 73<|I g f e] rfl P av ap d VS rfl N.1 ?_ L (by omega) (by omega) O.size ?_;exact pT N;intro v3 w3 p T;obtain⟨x3,c3,S⟩:=aC p;subst S;have l:Z aw a w3:=O.trans (fo T.grown) (by grind);refine n _ _ (λ_=>l.cell w id o) ?_;simp only[Act.put,ig];refine bG (i:=11) rfl rfl (by kernel_rfl) ?_;intro K3 E;go_simp;refine E _ _ IY ?_;refine fm (by kernel_rfl) ?_ _;show KK _ _;apply V;have x:=X p;have A:=X l;go_wp2;go_ret;refine⟨_,rfl,?_,A⟩;rw[show ap+1=1+ap from Ba _ _];exact x
