import Derived.Defers
import Derived.Laws.CopyRow
import Derived.Laws.NewBlocks
import Derived.Lib.AppendZerosOnto
import Derived.Lib.Overlaps
import Derived.Shelf.RegionOpenPlain
import Derived.Test.YtbiejblbclolmaaGreatDoorC3
open _root_ renaming List.length→y,Option.some→H,Array.size→z,Go.World.heap→G,Go.Value.ownBlock→cI,Go.World.cell?→aW,Go.World.setCell→cH,Go.World.alloc→dd,Bool.false→bw,Bool.true→cf,Nat→M,Int→U,List→ci,Go.Calls→cY,Go.undef→iM,Go.Proofs.Tryz.prog→bA,Go.Value.slice→I,Go.Value.string→am,Go.Value.bool→aM,Go.Value.pointer→dC,Go.Value.tuple→dA,Go.Value.agg→dL
namespace Go.Proofs.YtbiejblbclolmaaGreatDoor
open ChangeShapes WideShapes RowKit Proofs.Tryz List
set_option maxHeartbeats 16000000
set_option linter.all false
set_option maxRecDepth 100000
variable{a f A:Y}{b c i:M}{d t:ab}{e:cU}{k:U}{o:fh}{w:E}{B:ix}{T:Prop}
def BZ:ja:=⟨λ_=>True,λ_=>False,λ_ _ _=>trivial,λ_ h=>h.elim,False⟩
section
open Shelf
attribute [local go_sem] Oper.semAt_some
def Ap(v:ab)(n c:M):ab:=match v with
 | .slice (H ⟨d,a,none⟩) _ b=>.slice (H ⟨d,a+n*4,none⟩) c<|b-n
 |v=>v
def Ic(v:ab)(p:M×cU):Array ab:=#[Ap v p.1<|y p.2]
def Ca{o p g s:cU}(r:kJ a d o)(f:o=p++g++s)(i:g≠[]):kJ a (Ap d (y p)<|y g) g:=by
 have k:0<y g:=gN.2 i;obtain⟨u,⟨rfl,t⟩|⟨q,b,c,rfl,n,h⟩⟩:=r;have:=bS y f;grind;have m:=bS y f;simp at m;refine⟨by rw[fX],.inr ⟨q,b+y p*4,c-y p,rfl,by omega,λj v l=>?_⟩⟩;have e:j<y g*4:=by rw[<-fX];grind
 have:=h (y p*4+j) v (by rw[f,fY,fY,bj,fp (by rw[fX];omega),fX,show y p*4+j-y p*4=j by omega,ic (by rw[fX];exact e)];exact l);rw[bD];exact this
def BN(v:ab)(x:Option Addr)(n c:M)(a:v=I x n c)(w:Y):cY bA 142 #[v] w λe b=>e=aN (.func (.func 209) #[] #[dC<|H ⟨z<|G w,0,none⟩])/\b=dd w (ay #[v] 73):=by
 subst a;go_in
 go_wp2;go_ret;simp_all
def Uc(r:b<=c)(s:c<y e)(A:∀j(u:j+1<y e),b<=j->j<c->e[j+1].key=e[j].key)(w:∀B:c+1<y e,e[c+1].key≠e[c].key):∃i,e.drop b=i++e.drop (c+1)/\i≠[]/\y i=c+1-b/\iA (e.drop b)=i::iA (e.drop<|c+1):=by
 have p:e.drop b=(e.drop b).take (c+1-b)++e.drop (c+1):=by(conv=>lhs;rw[<-bO (c+1-b) (e.drop b)]);rw[List.drop_drop,show b+(c+1-b)=c+1 by omega]
 have v:∀t(d:t<=c)(a:b<=t),(e[t]'(by omega)).key=(e[b]'(by omega)).key:=by
  intro t;induction t with
  |zero=>grind
  |succ t g=>
   grind
 have d:y ((e.drop b).take<|c+1-b)=c+1-b:=by simp;omega
 have f:(e.drop b).take (c+1-b)≠[]:=λa=>by rw[a]at d;grind
 have a:∀x∈(e.drop b).take (c+1-b),x.key=(e[b]'(by omega)).key:=by grind[getElem_of_mem]
 refine⟨_,p,f,d,?_⟩;conv=>lhs;rw[p]
 rw[NF _ _ ?_,WN f<|λx n h o=>(a x n).trans (a h o).symm];rfl;intro q k t m;have l:=a q<|List.mem_of_getLast? k;(have g:c+1<y e:=by grind);rw[bJ g]at m;grind
def xA(W bu:M)(hb:eX a b d 73)(hr:kJ a d e)(Q:∀p,cI d=H p->p<W)(bd:W<=z (G a))(bs:y e<=1000000000):OR (Ic d) BZ W bu 209 #[dC<|H ⟨b,0,none⟩] (ou 0<|iA e) (λp=>p=b) a:=by
 intro lr bt Jx bk bg hs hD hJ ba o bf hY;obtain⟨bv,E,hv⟩:=bZ hr;obtain⟨HB,HR,al,HS,HJ,au,HY,ao,C⟩:=yU hb hr Q hs hJ ba hY o<|λc bk bg q(h:bt c bk bg)=>bf c bk bg (bg.drewN q) (λ_=>False) h (Z.aQ<|below_drewN (Below.refl _ bg) q) cJ;have bm:aW bg ⟨b,0,none⟩=H d:=hs.cell (.inl rfl) hb.cell;subst hv;refine vq func209 rfl trivial ?_ rfl;simp only[ntmps209,gA,aO,dB,Nat.reduceAdd,Nat.reduceSub,ft,fq,gB,fM,du,cR];gi_wp2;gi_loopw [3,7] (λf d wr=>∃(l i:M)(c:ci (M×cU))(r:fh),f=aq l/\d=aq i/\l<=i/\i<=y e/\ou 0 (iA e)=c++ou l (iA<|e.drop l)/\(∀j(w:j<y e),l<=j->j<i->∃h:j+1<y e,e[j+1].key=e[j].key)/\bt c r wr/\(∀p,p=b->¬r p)/\kS BZ W (λp=>p=b) a wr) (λ_ d _=>y e-(intOf d).toNat)
 case atStart=>exact⟨0,0,[],bk,rfl,rfl,ag _,bK _,rfl,λj _ _ h=>by omega,HJ,au,HS⟩
 case round=>
  obtain⟨l,i,c,r,rfl,rfl,bb,bq,hl,L,aV,K,g⟩:=hrel;have bn:aW wr ⟨b,0,none⟩=H (I bv (y e) E):=g.cell (.inl rfl) HB.cell;obtain⟨HL,A,n,D⟩:=gw hl L aV g;have k:=X K;by_cases o:i<y e
  .obtain⟨bh,f,s,hx,P,v⟩:∃bh f s,I bv (y e) E=I (H ⟨bh,f,none⟩) (y e) s/\y e<=s/\∀j a,(aI e)[j]?=H a->aW wr ⟨bh,f+j,none⟩=H a:=by
    obtain⟨F,⟨t,N⟩|⟨aa,x,u,t,P,B⟩⟩:=J HR
    .omega
    .exact⟨aa,x,u,t,P,λj a w=>g.cell (.inr ⟨al aa (by rw[t];rfl),id⟩)<|B j a w⟩
   cases hx;have e1:(i:U)<(y e:U):=by omega
   have e2:(0:U)<=(i:U):=by omega
   have g0:=v _ _ (eQ e i o).1;by_cases hn:∃h:i+1<y e,e[i+1].key=e[i].key
   .obtain⟨m,x⟩:=hn;have g1:=v _ _ (eQ e (i+1) m).1;rw[x]at g1;have u:=X (show∀j(w:j<y e),l<=j->j<i+1->∃h:j+1<y e,e[j+1].key=e[j].key fromλj w F t=>by
     rcases mR (show j<=i by omega)with T|T
     .exact A j w F T
     grind)
    generalize e[i].key=B at*;have e3:(i:U)+1<(y e:U):=by omega
    have e4:(0:U)<=(i:U)+1:=by omega
    gi_wp2;refine zg.2 ?_;go_quiet(fail)
    gi_wp2;go_roundw;case rel=>exact⟨l,i+1,c,r,rfl,by go_num,by omega,by omega,HL,u,C _ _ _ _ n,k,D.trans ⟨ag _,λ_ _=>rfl⟩⟩
    case measure=>simp[intOf];omega
   .obtain⟨aa,bo,bp,N,O⟩:=Uc bb o (λj w F t=>(A j (by omega) F t).2)<|λh E=>hn ⟨h,E⟩;have S:(c++[(l,aa)])<+:ou 0 (iA e):=⟨ou (l+y aa)<|iA<|e.drop<|i+1,by rw[J HL,O,ou];simp⟩;have bc:ou 0 (iA e)=(c++[(l,aa)])++ou (i+1) (iA<|e.drop<|i+1):=by rw[J HL,O,ou,N,show l+(i+1-l)=i+1 by omega];simp
    have B:=X S;have an:=X bc;have e6:(l:U)<=(i:U)+1:=by omega
    have e7:(i:U)+1<=(E:U):=by omega
    have e8:¬(E-l=0):=by omega
    have e9:(0:U)<=(l:U):=by omega
    have e4:(0:U)<=(i:U)+1:=by omega
    have ax:=X (λq=>show YieldAt Fence.wide (bu-1) bA lr #[I (H ⟨bh,f+l*4,none⟩) (i+1-l)<|E-l] (wr.drewN q) _ from by
     have:=HY c (l,aa) r (wr.drewN q) B (C _ _ _ q n) trivial;unfold Ic Ap at this;simp only[N]at this;exact this)
    rcases iy (i+1) (y e)with m|m;case' inl=>
     have g1:=v _ _ (eQ e (i+1) m).1;have bl:=JT<|λE=>hn ⟨m,E⟩;have e3:(i:U)+1<(y e:U):=by omega
    case' inr=>
     have e3:((i:U)+1<(y e:U))=False:=by simp;omega
    all_goals
     gi_wp2;refine zg.2 ?_;go_quiet(fail)
     obtain⟨fn,bi,V,body,hy,hR⟩:=ax nq;have ap:=X hR;gi_wp2;refine⟨(λE=>(by cases E)),ap.mono ?_⟩;rintro bx W3(⟨rfl,_,B3,aU,u,aF⟩|⟨rfl,hx⟩)
     .have ad:=X aU;have av:=X u;have ac:=X aF;gi_wp2;go_roundw;case rel=>
       have u:=J av;have g:=J D;have br:b<z (G wr):=ai (ak HB) g.1;refine⟨i+1,i+1,c++[(l,aa)],B3,by go_num,by go_num,ag _,by omega,an,λj _ F t=>by omega,ad,λp x T=>?_,?_⟩
       .rcases ac p T with T|T
        .exact k p x T
        .subst x;exact absurd (show z (G wr)<=_ from T)<|by omega
       .refine g.trans<|kS.trans (b:=wr.drewN nq) ⟨ag _,λ_ _=>rfl⟩ ?_;exact u.same (aB bd g.1) (λp x=>⟨by simp_all,k p x⟩) (λp x a=>by have:=(ao _ _ _ n p x).1;omega)
      case measure=>simp[intOf];omega
     .have HX:=X hx;gi_wp2;refine cy (ju rfl _ _ _) rfl ?_;exact⟨⟨_,rfl⟩,.inr ⟨_,HX⟩⟩
  .have s:i=y e:=by omega
   have m:l=y e:=by
    rcases iy l (y e)with T|T
    .obtain⟨h,_⟩:=L (y e-1) (by omega) (by omega) (by omega);omega
    .omega
   have f:=X (show ou 0 (iA e)=c by rw[hl,m,gz];simp[iA,ou]);have e1:((i:U)<(y e:U))=False:=by simp;omega
   gi_wp2;refine AW (ju rfl _ _ _) rfl ?_;first|refine⟨⟨_,rfl⟩,.inl ⟨⟨r,?_⟩,trivial⟩⟩|refine⟨⟨_,rfl⟩,.inl ⟨r,?_,trivial⟩⟩
   rw[J f];exact n
end
section
open Shelf
attribute [local go_sem] Oper.semAt_some
def Uj(u:Array ab)(e:eF)(p:U->Bool)(Q:Enters bA b)(x:Row a 1 d (y e) (e.map<|Value.int .u64))(hv:∀A,cI d=H A->A<z (G a))(hn:y e<=1000000000)(S:∀B∈e,∀W,Below (z<|G a) a W->cY bA b (#[aG B]++u) W λv F=>v=aN (aM<|p B)/\Below (z<|G W) W F):cY bA 210 #[d,.func (.func b) #[] u] a λv w'=>(∃A:U,v=aN (aq A)/\decide (0<=A)=e.any p)/\Below (z<|G a) a w':=by
 have eg:∀c a,(callFunc b c).run bA a=.ok (.enter b c) a:=Q;obtain⟨aa,ac,r⟩:=bZ x;obtain⟨D,E,C⟩:=dF x hv S;subst r;go_in
 go_wp2;go_loopw [8] (λi wr=>∃n:M,n<=y e/\i=aq n/\Below (z<|G a) a wr/\(e.take n).any p=bw) (λi _=>y e-(intOf i).toNat)
 case atStart=>exact⟨0,bK _,rfl,Below.refl _ _,rfl⟩
 case round=>
  obtain⟨n,V,rfl,g,m⟩:=hrel;have HB:=X g;by_cases i:n<y e
  .obtain⟨K,f,hx,P⟩:∃K f,aa=H (R K f)/\aW wr (R K<|f+n)=H (aG e[n]):=by
    obtain⟨h1,⟨w,h0⟩|⟨N,j,t,w,T,O⟩⟩:=J D
    .omega
    .cases w;exact⟨N,j,rfl,(g.cell (p:=(R N<|j+n))<|E N rfl).trans<|O n _<|by simp[i]⟩
   subst hx;have c:=C e[n] (ar i) wr g;have L:(n:U)<(y e:U):=by omega
   have e2:(0:U)<=(n:U):=by omega
   have s:(e.take<|n+1).any p=p e[n]:=by rw[ah i,List.any_append,m];simp
   have q:=X s;have o:=X<|ar i;generalize e[n]=B at*;cases hp:p B with
   |true=>
    rw[hp]at c;have j:=X<|show e.any p=cf from rj.2 ⟨B,o,hp⟩;go_wp2_with(go_at_fn b;refine c.mono ?_;rintro v w1⟨rfl,l⟩;have k:=X l)
    go_ret;exact⟨⟨n,rfl,by rw[J j];simp⟩,HB.trans<|k.mono HB.size⟩
   |false=>
    rw[hp]at c;have j:=X<|q.trans hp;go_wp2_with(go_at_fn b;refine c.mono ?_;rintro v w1⟨rfl,l⟩;have k:=X l)
    go_roundw;case rel=>exact⟨n+1,i,by go_num,HB.trans<|k.mono HB.size,j⟩
    case measure=>simp[intOf];omega
  .have c:n=y e:=by omega
   have f:=X (show e.any p=bw by rw[<-m,c,aY]);have L:((n:U)<(y e:U))=False:=by simp;omega
   go_wp2;go_ret;exact⟨⟨-1,rfl,by rw[J f];simp⟩,HB⟩
def Lh(e:Array ab)(c:eF)(s:U->Bool)(m:Enters bA b)(g:Row a 1 d (y c) (c.map<|Value.int .u64))(q:∀r,cI d=H r->r<z (G a))(p:y c<=1000000000)(n:∀u∈c,∀W,Below (z<|G a) a W->cY bA b (#[aG u]++e) W λi k=>i=aN (aM<|s u)/\Below (z<|G W) W k):cY bA 144 #[d,.func (.func b) #[] e] a λi t=>i=aN (aM<|c.any s)/\Below (z<|G a) a t:=by
 have h:=Uj e c s m g q p n;obtain⟨x,w,f⟩:=bZ g;subst f;go_in
 go_wp2_with(go_at_call 210;refine h.mono ?_;rintro i v⟨⟨r,rfl,o⟩,l⟩;have j:=X o;have HB:=X l)
 go_ret;rw[<-J j];exact⟨rfl,HB⟩
def MX(g:M)(m:U)(O:g<y e)(L:0<g)(P:y e<=1000000000)(s:jb a b e[g])(w:eX a c d 73)(t:kJ a d e)(q:eX a i (aq g) 3):cY bA 143 #[aG m,aD b,aD c,aD i] a λC x=>C=aN (aM<|decide (e[g].bQ<=m)&&decide (m<(e[g-1]'(by omega)).bQ))/\x=a:=by
 obtain⟨_,_,_,Q⟩:=s.cells;have c1:=w.cell;have c2:=q.cell;obtain⟨p,v⟩:∃p,g=p+1:=⟨g-1,by omega⟩;subst v;obtain⟨N,⟨rfl,o⟩|⟨B,f,l,rfl,u,r⟩⟩:=t;omega;have j:p<y e:=by omega
 have K:aW a (R B<|f+p*4+3)=H (aG e[p].bQ):=by rw[bD];exact r _ _ (eQ e p j).2.2.2
 have D:(0:U)<=(p:U):=by omega
 have E:(p:U)<(y e:U):=by omega
 have F:IntKind.i64.wrap (p:U)=(p:U):=by rw[bP];omega
 have n:wrap64 (p:U)=(p:U):=by unfold wrap64;omega
 simp only[Nat.add_sub_cancel];generalize e[p].bQ=S at*;generalize e[p+1].bQ=A at*;by_cases k:A<=m;(.simp only[k,uJ,Bool.true_and];(go_in);go_wp2;go_ret;simp_all);simp only[k,AV,yl];(go_in);go_wp2;go_ret;simp_all
structure sG(W0:Y)(S:fh)(bl:M)(lst:cU)(B:fh)(W:Y):Prop where
 row:∃v,eX W bl v 73/\W.ownsRow (z<|G W0) 171 4 v (y lst) (aI lst)/\∀k,B k↔k=bl\/cI v=H k
 aj:Z (λk=>k=bl\/S k) W0 W
def sG.lt{S B:fh}(j:sG a S c e B A){n0:M}(m:n0<=c)(n:n0<=z (G a)):∀k,B k->n0<=k/\k<z (G A):=by
 intro k h;obtain⟨v,l,d,g⟩:=j.row;rcases(g k).1 h with i|i;grind
 have:=d.lt k i;grind
def sG.stays{B T:fh}(i:sG a o b e B f)(c:Z T f A)(j:∀k,T k->¬B k/\(o k\/z (G a)<=k)):sG a o b e B A:=by
 obtain⟨v,d,g,h⟩:=i.row;exact⟨⟨v,(c.block _ (ak d)<|by grind).trans d,c.own g (by grind),h⟩,i.aj.trans c<|by grind⟩
def sG.more{e:Y}{B:fh}{c xs:cU}(L:sG a o b c B f)(r:b<z (G a))(F:eX f b d 73)(D:Z aw f A)(C:eJ A e d t)(h:e.ownsRow (z<|G a) 171 4 t (y c+y xs) (aI c++aI xs)):∃v,sG a o b (c++xs) v (cH e (R b 0) t)/\Z B f (cH e (R b 0) t)/\(∀k,v k->B k\/z (G f)<=k):=by
 obtain⟨l,q,E,N⟩:=L.row;obtain rfl:l=d:=by have K:=q.symm.trans F;simpa using K
 have w:Z (λk=>cI l=H k) f e:=(D.mono cJ).trans (Z.ep (S:=λk=>cI l=H k) C.grown<|λk g=>.inl g)<|λk g=>.inl g;have s:∀k,k<z (G a)->¬cI l=H k:=λk g n=>by have:=(E.lt k n).1;omega
 have u:eX e b l 73:=(w.block _ (ak q)<|s _ r).trans q;have j:Z B f (cH e (R b 0) t):=(w.mono (T:=B)<|by grind).setCell _ _ _ (by grind);refine⟨λk=>k=b\/cI t=H k,⟨⟨t,u.set _,?_,λk=>rK⟩,?_⟩,j,?_⟩;rw[af,fY];exact h.kept (dS e _ _ _) (by right;intro n;have:=(h.lt _ n).1;omega);refine L.aj.trans j<|λk g=>?_;grind
 rintro k(n|n);(grind);rcases C.vQ with K|⟨P,K,O⟩;(grind);rw[K]at n;cases n;have:=D.size;grind
end
section
open Shelf
attribute [local go_sem] Oper.semAt_some
def gl{c base' l e n:M}(r:a.ownsRow c l e d n B)(k:base'<=c):a.ownsRow base' l e d n B:=by
 obtain⟨j,h⟩:=r;refine⟨j,?_⟩;rcases h with h|⟨q,g,i,m,b,o,p⟩;exact .inl h;exact .inr ⟨q,g,i,m,aB k b,o,p⟩
def MY(a:eF)(l:cU):y (dZ a l)<=y l:=(jy a l).length_le
def kJ.aj{S:fh}{w w':Y}(h:kJ w d e)(a:Z S w w')(c:∀k,cI d=H k->¬S k/\k<z (G w)):kJ w' d e:=a.row h c
def kJ.some(h:kJ a d e)(l:0<y e):∃g b c,d=bI g b (y e) c/\y e<=c:=by
 obtain⟨j,⟨rfl,i⟩|⟨g,b,c,rfl,f,k⟩⟩:=h;omega;grind
def Ax(b:eF)(h:kJ a d e)(hs:eh e)(hl:y e<=1000000)(hm:Row a 1 t (y b) (b.map<|Value.int .u64))(fb:y b<=1000)(hv:∀k,cI d=H k->k<z (G a))(cT:∀k,cI t=H k->k<z (G a)):cY bA 89 #[d,t] a λcl w'=>∃v',cl=aN v'/\w'.ownsRow (z<|G a) 171 4 v' (y<|dZ b e) (aI<|dZ b e)/\Z aw a w':=by
 obtain⟨i0,bE,ce,ch,cj⟩:=dl nz;obtain⟨ef,W,cc⟩:=bZ h;obtain⟨mx,mc,bT⟩:=bZ hm;have cM:=BN d ef (y e) W cc;obtain⟨HH,HM,HV,ac⟩:=gw h hm hv cT;subst bT;subst cc;refine(eD (n:=3)).1 ?_;refine callsIn_of_wp_marks func89 rfl trivial ?_ rfl;simp only[ntmps89,gA,aO,dB,Nat.reduceAdd,Nat.reduceSub,ft,fq,gB,fM,du,cR];gi_wp2_with(refine⟨trivial,?_⟩;gi_at_call 142;refine(eD.2<|cM _).mono ?_;rintro cl w1⟨rfl,rfl⟩)
 obtain⟨l,x⟩:∃l,(dd (dd (dd a<|ay #[I mx (y b) mc] 196)<|ay #[az] 73)<|ay #[I ef (y e) W] 73)=l:=⟨_,rfl⟩;have fd:z (G l)=z (G a)+3:=by rw[<-x];simp
 have bk:Z aw a l:=by rw[<-x];exact((cO aw a).alloc _).alloc _
 have cx:eX l (z<|G a) (I mx (y b) mc) 196:=by rw[<-x];grind[eX.alloc,aK]
 have cB:eX l (z (G a)+1) az 73:=by rw[<-x];exact eX.alloc (aK _<|by simp) _
 have cE:eX l (z (G a)+2) (I ef (y e) W) 73:=by rw[<-x];exact aK _<|by simp
 have bb:kJ l (I ef (y e) W) e:=HH.aj bk<|λk c=>⟨id,HV k c⟩;have hA0:sG l (λk=>k=z (G a)+2) (z (G a)+1) (dZ b<|iB []) (λk=>k=z (G a)+1) l:=⟨⟨_,cB,cK _ _ _ _,λk=>by simp[cI]⟩,Z.refl _ _⟩;rw[x];refine se (m:=3) (arg:=Ic<|I ef (y e) W) (V:=BZ) (n0:=z<|G a) (gf:=209) (lb:=#[aD<|z (G a)+2]) (l:=ou 0<|iA e) (S:=λk=>k=z (G a)+2) ?geval (enters_of func209 (by kernel_rfl) rfl) (λ_=>rfl) (xA (z<|G a) 2 cE bb HV (by omega)<|by omega) trivial (by omega) (λk c=>by omega) (λf bn bm=>sG l (λk=>k=z (G a)+2) (z (G a)+1) (dZ b<|iB f) bn bm) (λ_ _ _ _=>False) (λk=>k=z (G a)+1) hA0 (λk c W=>by omega) ?lt ?st (by simp) ?body ?done ?stop;case geval=>rfl
 case lt=>exactλf bn bm hA=>hA.lt (by omega)<|by omega
 (case st=>intro f bn bm i T hA ht g;refine hA.stays ht<|λk c=>⟨(g k c).1,?_⟩;rcases(g k c).2 with W|W|W;exact .inl W;exact W.elim;exact .inr W);(case stop=>grind)
 case body=>
  rintro lr f⟨cm,m⟩bn bm eB cr eb K hA _;obtain⟨hn,fl,c⟩:=KB hs K;have es:0<y m:=gN.2 c.ne;have eA:cm+y m+y fl=y e:=by rw[c.all,hn];simp;omega
  obtain⟨cn,w,el,hx,ew⟩:=bb.some (by omega);cases hx;have al:=Ca bb c.all c.ne;rw[<-hn]at al;unfold Ic;unfold Ap at al|-;simp only at al|-;have dr:∀k,bn k->k<z (G bm):=λk c=>(hA.lt (n0:=z<|G a) (by omega) (by omega) k c).2;obtain⟨HA,HK,HP,HN⟩:=gw hA c K hn;clear hA K c hn;gi_wp2;refine⟨(cO _ _),λW2 cb=>?_⟩;have bi:Z (λk=>k=lr) bm W2:=(cO (λk=>k=lr) bm).trans cb<|λk c=>.inl c;have hA2:=HA.stays bi (λk c=>by grind);have bf:eX W2 (z<|G bm) (bI cn (w+cm*4) (y m)<|W-cm) 73:=(cb.block _ (by simp)<|by omega).trans<|aK _ rfl;have dT:=bf.cell;have en:=bi.size;have cw:z (G bm)<z (G W2):=ak bf;have eq:cn<z (G a):=HV cn rfl;gi_wp2;gi_loopw [15] (λc wr=>∃(i:M)(T:fh),c=aq i/\i<=y m/\sG l (λk=>k=z (G a)+2) (z (G a)+1) (dZ b (iB f)++dZ b (m.take i)) T wr/\Z bn W2 wr/\(∀k,T k->bn k\/z (G W2)<=k)) (λc _=>y m-(intOf c).toNat)
  case atStart=>exact⟨0,bn,rfl,bK _,by simpa[dZ,mj]using hA2,Z.refl _ _,λk c=>.inl c⟩
  case round=>
   obtain⟨i,T,rfl,et,hA1,o,ba⟩:=hrel;by_cases u:i<y m
   .have bc:kJ wr (bI cn (w+cm*4) (y m)<|W-cm) m:=al.aj hA1.aj<|λk c=>(show cn=k by simpa[cI]using c)▸(by omega);have bx:eX wr (z<|G a) (I mx (y b) mc) 196:=(hA1.aj.block _ (by omega)<|by omega).trans cx;have df:Row wr 1 (I mx (y b) mc) (y b) (b.map<|Value.int .u64):=hA1.aj.row (bk.row HM<|λk c=>⟨id,ac k c⟩) (λk c=>by have:=ac k c;grind);have an:eX wr (z<|G bm) (bI cn (w+cm*4) (y m)<|W-cm) 73:=(o.block _ cw<|by grind).trans bf;obtain⟨lv,v,A,bL⟩:=hA1.row;obtain⟨ex,ec,bg⟩:=aC A;have cS:=v.cell;have ey:=v.free;have dv:=bx.cell;have dx:=an.cell;obtain⟨em,⟨bt,cs⟩|⟨b',ed,dn,bt,cs,n⟩⟩:=id bc
    .omega
    cases bt;have ao:=eQ m i u;have g0:=n _ _ ao.1;have g1:=n _ _ ao.2.1;have g2:=n _ _ ao.2.2.1;have g3:=n _ _ ao.2.2.2;simp only[<-bD]at g1 g2 g3;have e1:(i:U)<(y m:U):=by omega
    have e2:(0:U)<=(i:U):=by omega
    have eo:=ak bx;have cN:=ak v;have dk:=ak an;have bv:cn<z (G wr):=cF _ _ g0;have ea:y (dZ b (iB f)++dZ b (m.take i))+1<=2000000:=by
     have q1:=MY b<|iB f;have q2:=MY b<|m.take i;have q3:y (iB f)=cm:=HN.symm;have s:=sP i m;rw[af];omega
    have ca:=TE (ms:=b) HK.same u;have C:=X (show∀(r q:Y)v5,Z aw wr r->eJ r q lv v5->q.ownsRow (z<|G l) 171 4 v5 (y (dZ b (iB f)++dZ b (m.take i))+1) (aI (dZ b (iB f)++dZ b (m.take i))++aI [m[i]])->wanted b m i u=cf->∃T,sG l (λk=>k=z (G a)+2) (z (G a)+1) (dZ b (iB f)++dZ b (m.take<|i+1)) T (cH q (R (z (G a)+1) 0) v5)/\Z bn W2 (cH q (R (z (G a)+1) 0) v5)/\(∀k,T k->bn k\/z (G W2)<=k)fromλr q v5 ht E D p=>by
     obtain⟨s,q1,q2,q3⟩:=hA1.more (xs:=[m[i]]) (by omega) v ht E D;rw[ca,di p,<-bj];refine⟨s,q1,o.trans q2 ba,λk c=>?_⟩;grind[Nat.le_trans,Z.size])
    have ax:=X (show∀(r:Y),Z aw wr r->wanted b m i u=bw->sG l (λk=>k=z (G a)+2) (z (G a)+1) (dZ b (iB f)++dZ b (m.take<|i+1)) T r/\Z bn W2 r fromλr ht p=>by
     rw[ca,dt (by simp[p]),dz];exact⟨hA1.stays ht cJ,o.cz ht⟩)
    obtain⟨bo,br,ap,ej,cq,au,B,eg,ei⟩:=yU hA1 o ba bc df v A an n;generalize ds:dZ b (iB f)++dZ b (m.take i)=g at*;subst bg;have co:=X (show 0<i->∀a d:Y,Z aw wr a->Below (z<|G a) a d->eX a (z<|G wr) (aq i) 3->jb a (z (G wr)+1) m[i]->∀ck,cY bA 143 (#[aG ck]++#[aD<|z (G wr)+1,aD<|z<|G bm,aD<|z<|G wr]) d λcl b=>cl=aN (aM<|decide (m[i].bQ<=ck)&&decide (ck<(m[i-1]'(by omega)).bQ))/\Below (z<|G d) d b fromλh0 a d D s q1 q2 ck=>by
     apply(MX i ck u h0 (by omega) (q2.below s (ak q2)) ((s.block _ (by grind)).trans ((D.block _ dk id).trans an)) ((bc.aj D (λk c=>⟨id,(show cn=k by simpa[cI]using c)▸bv⟩)).below s (λk c=>(show cn=k by simpa[cI]using c)▸ai bv D.size)) ((s.block _ (ak q1)).trans q1)).mono;grind[Below.refl])
    have bs:=X<|show wanted b m i u=(decide (i=0)||b.any (λck=>decide (m[i].bQ<=ck)&&decide (ck<(m[i-1]'(by omega)).bQ)))from rfl;generalize er:m[i]=dm at*;obtain⟨P,Q,O,N⟩:=dm;simp only at g0 g1 g2 g3;rcases gH i with h0|h0
    .subst h0;simp only[AX,kL]at g0 g1 g2 g3;have j:Z aw wr (dd (dd wr<|ay #[aq 0] 3)<|ay #[am P,am Q,aM O,aG N] 171):=(cO _ _).alloc _;have s:=X<|j.own B<|λ_ _ W=>W;have aa:=X (show∀q:Y,(dd (dd (dd wr<|ay #[aq 0] 3)<|ay #[am P,am Q,aM O,aG N] 171)<|ay #[am P,am Q,aM O,aG N] 171).grownBy q (cI<|I ex (y g) ec)->aW q (R (z (G a)+1) 0)=H (I ex (y g) ec)/\q.frozen? (R (z (G a)+1) 0)=bw fromλq hg=>by
      have E:eX q (z (G a)+1) (I ex (y g) ec) 73:=(hg.block _ (by have:=ak au;simp;omega) (λcl=>by have:=(B.lt _ cl.symm).1;omega)).trans (eX.alloc (eX.alloc (eX.alloc au _) _) _);exact⟨E.cell,E.free⟩)
     have ad:=X j;gi_wp2_with fail
     refine⟨trivial,?_⟩;gi_wp2_with(first
      |(gi_at_builtin;refine gp _ rfl (.tmp 28) (.tmp 30) 73 rfl (z (G l)) 171 i0 xg 4 48 underlying73 bE ce ch cj rfl (by decide) (.slice ex (y g) ec) (y g) (aI g) rfl (aT s (.cells #[.string P,.string Q,.bool O,.int .u64 N] 171)) (R (z (G wr)+1+1) 0) 1 1 (aI [⟨P,Q,O,N⟩]) rfl (by rw[fX];rfl) (zG ⟨P,Q,O,N⟩ _ (by simp)) (Dd _) (by omega) (by omega) (by simp;omega) ?_;intro v5 q F L;obtain⟨x5,c5,bl⟩:=aC F;subst bl;have D:=aa q L.grown;obtain⟨db,dc⟩:=D;have av:=X F;have aU:=X L))
     refine⟨⟨1,?_⟩,by simp[intOf];omega⟩;obtain⟨B2,r1,r2,r3⟩:=C _ q _ ((ad).alloc _) aU av (by rw[J bs];simp);grind
    .have e0:((i:U)==0)=bw:=by simp;omega
     obtain⟨r,s⟩:∃r,dd (dd wr<|ay #[aq i] 3) (ay #[am P,am Q,aM O,aG N] 171)=r:=⟨_,rfl⟩;have j:Z aw wr r:=by rw[<-s];exact(cO _ _).alloc _
     have E:=Lh #[aD<|z (G wr)+1,aD<|z<|G bm,aD<|z<|G wr] b _ (enters_of func143 (by kernel_rfl) rfl) (j.row cq<|λk c=>⟨id,by have:=ac k c;omega⟩) (λk c=>by have:=ac k c;have:=j.size;omega) (by omega)<|λck _ d a=>co h0 r d j a (by rw[<-s];grind[eX.alloc,aK]) (by rw[<-s];exact aK _<|by simp) ck;have cd:=J bs;rw[show decide (i=0)=bw by simp;omega,zR]at cd;rw[<-cd]at E;have cu:jb r (z (G wr)+1) ⟨P,Q,O,N⟩:=by rw[<-s];exact aK _<|by simp
     have cv:eX r (z (G a)+1) (I ex (y g) ec) 73:=(j.block _ cN id).trans au;have ff:=j.size;obtain⟨bp,aa,ad,ek⟩:=gw cu cv j s;cases p:wanted b m i u with
     |true=>
      rw[p]at E;have aV:=X p;subst s;gi_wp2_with fail
      refine⟨trivial,(CallsIn.inRound lr<|eD.2 E).mono ?_⟩;rintro cl w4⟨rfl,D⟩;have bh:=ad.cz<|Z.aQ (S:=aw) D;have n:=bp.below D<|ak bp;have bd:eX w4 (z (G a)+1) (I ex (y g) ec) 73:=(D.block _<|ak aa).trans aa;obtain⟨z0,z1,z2,z3⟩:=n.cells;simp only at z0 z1 z2 z3;have z4:=bd.cell;obtain⟨bq,aF,cp⟩:=dF (bh.own B<|λ_ _ W=>W) bh bd;have fe:=bh.size;have eu:=ak n;have ev:=ak bd;generalize z (G wr)+1=fk at*;gi_wp2_with(first
       |(gi_at_builtin;refine gp _ rfl (.tmp 28) (.tmp 30) 73 rfl (z (G l)) 171 i0 xg 4 48 underlying73 bE ce ch cj rfl (by decide) (.slice ex (y g) ec) (y g) (aI g) rfl (aT bq (.cells #[.string P,.string Q,.bool O,.int .u64 N] 171)) (R (z (G w4)) 0) 1 1 (aI [⟨P,Q,O,N⟩]) rfl (by rw[fX];rfl) (zG ⟨P,Q,O,N⟩ _ rfl) (Dd _) (by omega) (by omega) (by simp;omega) ?_;intro v5 q F L;obtain⟨x5,c5,bl⟩:=aC F;subst bl;have bu:eX q (z (G a)+1) (.slice ex (y g) ec) 73:=(L.grown.block _ (by simp;omega) (λcl=>by have:=(bq.lt _ cl.symm).1;omega)).trans (cp.alloc _);have db:=bu.cell;have dc:=bu.free;have av:=X F;have aU:=X L))
      refine⟨⟨i+1,?_⟩,by simp[intOf];omega⟩;obtain⟨B2,r1,r2,r3⟩:=C _ q _ (aF.alloc _) aU av aV;exact⟨B2,by go_num,by omega,r1,r2,r3⟩
     |false=>
      rw[p]at E;have aV:=X p;subst s;gi_wp2_with fail
      refine⟨trivial,(CallsIn.inRound lr<|eD.2 E).mono ?_⟩;rintro cl w4⟨rfl,D⟩;have aF:=X<|ad.cz<|Z.aQ (S:=aw) D;gi_wp2;refine⟨⟨i+1,?_⟩,by simp[intOf];omega⟩;obtain⟨r1,r2⟩:=ax _ aF aV;exact⟨T,by go_num,by omega,r1,r2,ap⟩
   .have g:i=y m:=by omega
    have e1:((i:U)<(y m:U))=False:=by simp;omega
    obtain⟨bo,br,ap⟩:=dF hA1 o ba;gi_wp2;have o:=J br;have hA1:=J bo;refine⟨trivial,T,?_,(bi.mono<|by simp).trans o (by grind),o.block lr (by omega) cr,λk c=>(ap k c).imp_right<|λW=>by omega⟩;show sG l _ _ (dZ b<|iB<|f++[(cm,m)]) T wr;rw[uv,(J HK).Na,show dZ b m=dZ b (m.take i)by rw[g,aY]];exact hA1
 (case done=>intro D bn bm n hA j _ m;obtain⟨lv,v,A,bL⟩:=hA.row;rw[BV]at A;obtain⟨ex,ec,bg⟩:=aC A;have cS:=v.cell;obtain⟨HA,B,i,HK⟩:=gw hA A bL m;have o:=ak m;subst bg;gi_wp2;have g:=iw bm D<|.deferred none;refine⟨by simp,.inl ⟨_,_,rfl,run_takeDeferred HK,?_⟩⟩;refine⟨_,kT rfl _ _ _,?_⟩;have hx:=g.own B (λk c W=>j<|(i D).2<|by grind);refine⟨_,rfl,gl hx (by omega),bk.trans (HA.aj.trans g<|by grind)<|by simp⟩)
end
def UJ(c:cU)(x:E):fU (c++[x])=fU c++Dq x:=by simp[fU]
def yX(c d:cU):fU (c++d)=fU c++fU d:=by simp[fU]
def Sa{c:cU}(h:∀x∈c,x.Good):y (fU c)<=35*y c:=by
 induction c with
 |nil=>simp[fU]
 |cons x r d=>
  have a:=vf (h x<|by simp);have f:=d (λa b=>h a<|by simp[b]);have e:fU (x::r)=Dq x++fU r:=by simp[fU]
  rw[e,af,aO];omega
def FJ(h:kJ a d e)(hv:∀an,cI d=H an->an<z (G a))(hg:∀bb∈e,bb.Good)(hl:y e<=1000):cY bA 215 #[d] a λao w'=>∃v',ao=aN v'/\fg w' (z<|G a) v' (fU e)/\Z aw a w':=by
 obtain⟨bb,au,al⟩:=bZ h;obtain⟨HH,HV,HG⟩:=dF h hv hg;subst al;go_in
 go_wp2;go_loopw [3,8] (λc b wr=>∃i:M,i<=y e/\b=aq i/\fg wr (z<|G a) c (fU<|e.take i)/\Z aw a wr) (λ_ b _=>y e-(intOf b).toNat)
 case atStart=>exact⟨0,bK _,rfl,by simpa[fU]using fg.nil _ _,Z.refl _ _⟩
 case round=>
  obtain⟨i,hi,rfl,x,E⟩:=hrel;obtain⟨D,C,t⟩:=aC x;by_cases m:i<y e
  .have l:=HG _<|ar m;obtain⟨ax,⟨w,O⟩|⟨ap,u,av,w,O,P⟩⟩:=J HH
   .omega
   cases w;have T:ap<z (G a):=HV ap rfl;have j:∀a b,(aI e)[a]?=H b->aW wr (R ap<|u+a)=H b:=λa b c=>E.cell (P a b c) id T;have k:=eQ e i m;have g0:=j _ _ k.1;have g1:=j _ _ k.2.1;have g2:=j _ _ k.2.2.1;have g3:=j _ _ k.2.2.2;simp only[<-bD]at g1 g2 g3;have aU:y (fU<|e.take i)<=35000:=by
    have:=Sa (c:=e.take i)<|λv a=>HG v<|gC a;have:=sP i e;omega
   have L:=X (show fU (e.take<|i+1)=fU (e.take i)++Dq e[i]by rw[ah m,UJ]);have aV:=E.size;have N:=X E;have c:cI (I D (y<|fU<|e.take i) C)≠H (z<|G wr):=λao=>by rw[<-t]at ao;have:=(x.lt _ ao).2;omega
   have e1:(i:U)<(y e:U):=by omega
   have e2:(0:U)<=(i:U):=by omega
   have B:=X x;generalize fU (e.take i)=s at*;subst t;generalize e[i]=v at*;obtain⟨q,r,p,g⟩:=v;simp only at g0 g1 g2 g3;have k1:=l.NG;have k2:=l.val;have k3:=l.b0;have k4:=l.b1;simp only at k1 k2 k3 k4;have Q:fg (dd wr<|ay #[am q,am r,aM p,aG g] 171) (z<|G a) (I D (y s) C) s:=aT B _;have K:=X Q;go_wp2_with fail
   go_region_held3(λe=>aW e (R (z<|G wr) 0)=H (am q)/\aW e (R (z<|G wr) 1)=H (am r)/\aW e (R (z<|G wr) 2)=H (aM p)/\aW e (R (z<|G wr) 3)=H (aG g)) (first|assumption|go_keep) (first
    |(go_at_call 178;refine(pS (baseqq:=z<|G a) (v:=(.slice D (y s) C)) (bs:=s) g (w:=(dd wr<|.cells #[.string q,.string r,.bool p,.int .u64 g] 171).drew) (K.of_heap rfl) (by simp;omega) (by omega) k3 k4).mono ?_;rintro ao A⟨v1,rfl,W,b⟩;have n:cI v1≠H (z<|G wr):=b.ne c (by simp);have o:aW A (R (z<|G wr) 0)=H (.string q)/\aW A (R (z<|G wr) 1)=H (.string r)/\aW A (R (z<|G wr) 2)=H (.bool p)/\aW A (R (z<|G wr) 3)=H (.int .u64 g):=⟨b.cell (by simp) c,b.cell (by simp) c,b.cell (by simp) c,b.cell (by simp) c⟩;have ba:z (G wr)<z (G A):=(by have:=b.grown.size;simp at this;omega);have O1:=X W;have W1:=X b)
    |(go_at_call 180;refine(RI (z (G a)) v1 (s++le 8 g) ⟨q,r,p,g⟩ _ ?_ (by omega) (by simp[cg];omega) (by grind) (by grind)).mono ?_;exact O1.of_heap rfl;rintro ao F⟨v2,rfl,aa,f⟩;have aF:aW F (R (z (G wr)) 0)=H (.string q)/\aW F (R (z (G wr)) 1)=H (.string r)/\aW F (R (z (G wr)) 2)=H (.bool p)/\aW F (R (z (G wr)) 3)=H (.int .u64 g):=⟨f.cell o.1 n,f.cell o.2.1 n,f.cell o.2.2.1 n,f.cell o.2.2.2 n⟩;have O2:=X aa;have W2:=X (W1.trans f)))
   go_wp2;have hW:=J W2;have ac:Z aw a (dd wr<|ay #[am q,am r,aM p,aG g] 171):=N.alloc _;have ad:Z aw a (dd wr<|ay #[am q,am r,aM p,aG g] 171).drew:=ac.trans (S:=aw) ⟨rfl,rfl,rfl,ag _,λ_ _ _=>rfl⟩<|λ_ au=>.inl au;refine⟨⟨i+1,m,by go_num,?_,ad.trans (Z.ep (S:=λan=>cI (I D (y s) C)=H an) hW.grown<|λan V=>.inl V)<|λan V=>.inr (B.lt an V).1⟩,by simp[intOf];omega⟩;rw[J L];have:=J O2;rwa[bj]at this
  .have b:i=y e:=by omega
   have e1:((i:U)<(y e:U))=False:=by simp;omega
   subst t;rw[b,aY]at x|-;have B:=X x;have N:=X E;go_wp2;go_ret;exact⟨_,rfl,B,N⟩
section
open Shelf
attribute [local go_sem] Oper.semAt_some
section
variable{F:Fence}{n:M}{P:Program}(w:Y){ops:Array Oper}{rest:ci Oper}{o:Oper}{a:Act}{Q:Exit->Act->Y->Prop}
theorem EB(i:o.guard=none)(f:Operand)(t:TypeId)(b:o.op=Op.range t f)(v s:TypeId)(k:P.underlying t=H (.map v s))(g:M)(m:oG)(j:a.eval f=.map (H g))(u:pz w g m)(h:∀c,qO c g (z<|G w) m m->w.grownBy c none->z (G c)=z (G w)+1->wpListIn F n P ops Q rest (a.put o.dst<|aD<|z<|G w) c):wpListIn F n P ops Q (o::rest) a w:=by
 refine yg i λr e=>?_;obtain⟨c,d,l,p,q⟩:=Px k u;unfold Oper.wpIn;refine⟨?_,?_⟩;simp[Oper.about,b];rw[Oper.semAt_plain F _ _ (by rw[b];grind)];simp[execOp,b,j,d,Result.andThen];exact e _ _<|h c l p q
theorem EV(l:o.guard=none)(j:Operand)(d:o.op=Op.next j bw)(m r:M)(q left:oG)(sK:a.eval j=aD r)(t:qO w m r q left)(e:left=[]->wpListIn F n P ops Q rest (a.put o.dst<|dA #[aM bw]) w)(i:∀f p c g,left=f++p::c->qO g m r q (f++c)->w.grownBy g (H r)->z (G g)=z (G w)->(Instr.entry<|aD r).run P g=.ok (dA #[aq p.1,p.2]) g->wpListIn F n P ops Q rest (a.put o.dst<|dA #[aM cf,aq p.1,p.2]) g):wpListIn F n P ops Q (o::rest) a w:=by
 refine yg l λs h=>?_;unfold Oper.wpIn;refine⟨?_,?_⟩;simp[Oper.about,d];rw[Oper.semAt_plain F _ _ (by rw[d];grind)];rcases SZ (P:=P) t o.type with⟨k,b⟩|⟨f,p,c,g,B,b,u,v,x,A⟩;simp[execOp,d,sK,b,Result.andThen];exact h _ _<|e k;simp[execOp,d,sK,b,Result.andThen];exact h _ _<|by grind
end
def ZQ(v:U):Array ab:=#[aG v]
def yq(m:oG)(b:eF):Prop:=m.map (·.2)=b.map (Value.int .u64)
theorem JM(n0 cq m L:M)(bE:oG)(v:eF)(w:Y)(hb:eX w m (.map<|H L) 64)(hm:pz w L bE)(bx:yq bE v)(bk:L<n0)(bq:n0<=z (G w)):r9 ZQ BZ n0 cq 213 #[aD m] (λcm _=>∃cr,(cm++cr).Perm v) (λcm=>cm.Perm v) (λk=>k=m) w:=by
 intro lr cp Jx co al hs hD hJ bi bo bs hY;have cc:aW al (R m 0)=H (.map<|H L):=hs.cell (.inl rfl) hb.cell;have bp:pz al L bE:=hm.dG<|hs.2 L<|.inl ⟨bk,id⟩;obtain⟨HB,HM,bb,HS,HJ,ax,HY,B,D⟩:=yU hb bp bx hs hJ bi hY bo bs;refine vq func213 rfl trivial ?_ rfl;simp only[ntmps213,gA,aO,dB,Nat.reduceAdd,Nat.reduceSub,ft,fq,gB,fM,du,cR]
 gi_wp2_with(first
  |(refine EB _ rfl _ 64 rfl 3 74 underlying64 L _ rfl HM ?_;intro w0 S bl cj;have an:=X S;have A:=X bl))
 have t:=HS.1;have ce:m<z (G al):=ai (ak HB) t;have aa:Z aw al w0:=Z.ep A (by simp);have bL:=B _ _ _ HJ;gi_loopg [] (y bE) (λk wr=>∃(b:eF)(left:oG)(vl:eF)(q:fh),y left=k/\yq left vl/\(b++vl).Perm v/\qO wr L (z<|G al) bE left/\cp b q wr/\(∀k,k=m->¬q k)/\kS BZ n0 (λk=>k=m) w wr/\¬q (z<|G al))
 (case atStart=>refine⟨[],bE,v,co,rfl,bb,jx _,an,D _ _ _ _ _ HJ aa cJ,ax,HS.trans<|aa.same (aB bq t) (by grind) cJ,(by grind)⟩);(case round=>obtain⟨b,left,vl,q,bn,f,u,bm,bh,O,d,bd⟩:=hrel;have cd:aW wr (R m 0)=H (.map<|H L):=d.cell (.inl rfl) HB.cell;obtain⟨E,C,ao,s⟩:=gw f u bm bh;have l:=X O;obtain⟨aF,r,au⟩:=dF d bd bn;(gi_wp2_with(first|(refine EV _ rfl _ rfl L (z<|G al) _ _ rfl ao ?_ ?_)));(.intro c;subst c;(have e:vl=[]:=by have:=J E;unfold yq at this;simp_all);subst e;gi_wp2;refine AW (ju rfl _ _ _) rfl ?_;exact⟨⟨_,rfl⟩,.inl ⟨b,q,by simpa using J C,s,trivial⟩⟩);(.intro i pk pv g w1 hl T V W bT;subst hl;have f:=J E;unfold yq at f;rw[aE,bR]at f;obtain⟨va,vd,rfl,bt,bv⟩:=iO.1 f.symm;obtain⟨cn,vc,rfl,hv,bu⟩:=nW.1 bv;simp only at hv;subst hv;have ac:Z (λk=>k=z (G al)) wr w1:=Z.ep V (λk p=>by grind);obtain⟨aV,c,ba⟩:=dF ac T (show yq (i++g) (va++vc)from by unfold yq;rw[aE,aE,bt,bu]);have j:=X<|show((b++[cn])++(va++vc)).Perm v from List.Perm.trans (by rw[bj];grind) C;have bf:=D _ _ _ _ _ s ac (λk p=>by subst p;exact⟨r,.inr<|.inr t⟩);have K:=X<|HY b cn q w1 ⟨va++vc,j⟩ bf trivial;unfold ZQ at K;obtain⟨fn,ca,ad,body,hy,hR⟩:=J K;have av:=X hR;gi_wp2;refine⟨(λN=>(by cases N)),av.mono ?_⟩;rintro cs W3(⟨rfl,_,B3,bg,e,bc⟩|⟨rfl,hx⟩);(.have ap:=X bg;have aU:=X e;have x:=X bc;gi_wp2;(gi_roundg (y<|i++g));(case measure=>have:=J au;grind);(case rel=>have e:=J aU;have d:=J aF;have cl:z (G wr)=z (G w1):=W.symm;have br:=c.lt;have ch:=c.ne;have cb:∀k,q k->n0<=k:=λk p=>(B _ _ _ s k p).1;have ck:=d.1;refine⟨b++[cn],i++g,va++vc,B3,rfl,ba,j,c.kept (e.block L (by omega)<|by grind)<|e.block _ br r,ap,λk p N=>?_,?_,λN=>?_⟩;(rcases x k N with N|N;exact l k p N;grind);refine(d.trans<|aV.same (by omega) (by grind)<|by grind).trans (e.same (by omega) (λk p=>⟨by omega,l k p⟩)<|by grind);rcases x _ N with N|N;exact r N;omega));have x:=X hx;gi_wp2;refine cy (ju rfl _ _ _) rfl ?_;exact⟨⟨_,rfl⟩,.inr ⟨_,x⟩⟩))
end
def Qn(a:0<=k)(b:k<4294967296):mF (le 4 k)=k:=by
 rw[BJ 4 k a];grind
def qu(a:M)(n:U)(rest:eF)(w:Y)(j:Rd w a (le 4 n++rest) bw)(b:kr rest)(k:y rest<=140737488350000)(f:0<=n)(g:n<4294967296):cY bA 125 #[aD a] w λi e=>i=aN (dI n)/\Rd e a rest bw/\w.grownBy e (H a):=by
 have c:=mT (le 4 n) rest;rw[cg]at c;have d:=LP a bw w j ((kr.le 4 n).append b) (by grind[length_append,cg]);have h:num (le 4 n++rest) bw 4=n:=by unfold num;rw[c];exact Qn f g
 rw[c,h]at d;exact d
def BF(a:M)(n:U)(rest:eF)(w:Y)(j:Rd w a (le 8 n++rest) bw)(b:kr rest)(k:y rest<=140737488350000)(f:0<=n)(g:n<18446744073709551616):cY bA 124 #[aD a] w λi e=>i=aN (aG n)/\Rd e a rest bw/\w.grownBy e (H a):=by
 have c:=mT (le 8 n) rest;rw[cg]at c;have d:=Nn j ((kr.le 8 n).append b) (by grind[length_append,cg]);have h:num (le 8 n++rest) bw 8=n:=by unfold num;rw[c];exact Ef f g
 rw[c,h]at d;exact d
def ZK(a:M)(n:U){rest:eF}(w:Y)(k:Rd w a (n::rest) bw)(b:kr rest)(l:y rest<=140737488350000)(g:0<=n)(h:n<256):cY bA 137 #[aD a] w λj f=>j=aN (td n)/\Rd f a rest bw/\w.grownBy f (H a):=by
 have c:=mT [n] rest;simp only[aO,dB,dM,cR,du]at c;have e:=GP k (by intro x d;rcases bM.1 d with rfl|d;exact⟨g,h⟩;exact b x d) (by grind);have i:num (n::rest) bw 1=n:=by unfold num;rw[c];simp[mF]
 rw[c,i]at e;exact e
def Rv(b:M)(s:ae){rest:eF}(w:Y)(i:Rd w b (eL s++rest) bw)(c:kr rest)(j:y rest<=140737488350000)(k:s.size<=255):cY bA 187 #[aD b] w λh d=>h=aN (am s)/\Rd d b rest bw/\w.grownBy d (H b):=by
 have f:=(wQ s rest).1;have e:kr (eL s++rest):=by intro x a;rcases aA.1 a with a|a;unfold eL at a;rcases bM.1 a with rfl|a;omega;exact kr.text s x a;exact c x a
 have g:=Fb i e (by simp only[af,eL,aO,iq];omega);rw[f]at g;grind[wR]
def rO{P:Program}(w:Y)(k A B c:TypeId)(e m o b g:M)(n:Addr)(d i:M)(a:Array ab)(D:TypeId)(f:ix)(x:P.underlying k=H (.slice c))(u:(P.info? c).map (·.size)=H e)(q:w.heap[m]?=H (ay a D (0,0)))(t:y f=Nat.min d b*e)(h:∀C v,f[C]?=H v->aW w (n.add C)=H v)(l:o+y f<=a.size)(p:∀v∈f,v.oneCell'=cf):(Builtin.copy_ #[k,A] B #[bI m o b g,I (H n) d i]).run P w=.ok (goInt<|Nat.min d b) (w.setRow m (a.toList.take o++f++a.toList.drop (o+y f)).toArray):=by
 have s:=run_loadCells_list (P:=P) w n f h;have j:=run_storeCells_at P m o D f 0 a w q (by grind) p;cases hq:P.info? c with
 |none=>simp[hq]at u
 |some E=>
  have r:E.size=e:=by grind
  simp[Builtin.copy_,fI x,Builtin.lenOf,Builtin.firstCells,sizeOf,typeInfo,hq,r,<-t,s,j]
def DL(w:Y)(g:M)(a:Array ab):Z (λk=>k=g) w (w.setRow g a):=⟨rfl,rfl,rfl,by simp,λk _ b=>sX w g k a b⟩
theorem WR{a d:ix}(j:B.take (b*4)=a)(k:y a=b*4)(l:c<=b)(i:y d=4)(e:(b+1)*4<=y B):(((B.take ((c+1)*4)++a.drop (c*4)++B.drop ((c+1)*4+y (a.drop<|c*4))).take (c*4)++d++(B.take ((c+1)*4)++a.drop (c*4)++B.drop ((c+1)*4+y (a.drop<|c*4))).drop (c*4+y d)).take<|(b+1)*4)=a.take (c*4)++d++a.drop (c*4):=by
 have f:y (B.take<|(c+1)*4)=c*4+4:=by rw[dp];omega
 have g:(B.take ((c+1)*4)++a.drop (c*4)++B.drop ((c+1)*4+y (a.drop<|c*4))).take (c*4)=a.take (c*4):=by rw[bj,dK (by omega),yi,<-j,yi];grind
 have h:(B.take ((c+1)*4)++a.drop (c*4)++B.drop ((c+1)*4+y (a.drop<|c*4))).drop (c*4+y d)=a.drop (c*4)++B.drop ((c+1)*4+y (a.drop<|c*4)):=by rw[bj,i,<-f,tT]
 rw[g,h,<-bj,pB (by simp;omega)]
def Wk(l:cU):∀u∈aI l,u.oneCell'=cf:=by
 intro u a;induction l with
 |nil=>cases a
 |cons x r b=>
  rw[show x::r=[x]++r from rfl,fY,aA]at a;grind[Dd]
def Rf(h:kJ f d e)(S:y e<=1000000000)(k:∀s,cI d=H s->s<z (G f)):cY bA 139 #[d] f λQ u=>∃t,Q=aN t/\u.ownsRow (z<|G f) 171 4 t (y e) (aI e)/\Below (z<|G f) f u:=by
 obtain⟨P,L,p,q,r⟩:=dl nz;obtain⟨D,⟨rfl,C⟩|⟨A,b,j,rfl,O,F⟩⟩:=h;(.obtain rfl:e=[]:=aS C;have K:∀f:Y,(binOp .eql 73 az az).run bA f=.ok (aM cf) f:=λ_=>rfl;(go_in);go_wp2;go_ret;exact⟨_,rfl,cK _ _ _ _,Below.refl _ _⟩)
 .have E:A<z (G f):=k A rfl;have v:=X F;have w:=X D;have m:(dd f<|ay #[] 171).ownsRow (z<|G f) 171 4 (bI (z<|G f) 0 0 0) 0 []:=World.ownsRow_lit f #[] 0 (ag _) (by decide) rfl;have x:=X m;have K:∀(f:Y)a n c,(binOp .eql 73 (I (H a) n c) az).run bA f=.ok (aM bw) f:=λ_ _ _ _=>rfl;go_in
  go_wp2_with(first
   |(at_builtin;refine cC _ rfl (.tmp 5) (.tmp 6) 73 rfl (z (G f)) 171 P xg 4 48 underlying73 L p q r rfl (by decide) _ 0 [] rfl x (R A b) (y e) j (aI e) rfl w (λT V N=>by rw[dJ,fE E];exact v T V N) (Wk e) (by omega) (by omega) (by simp) ?_;intro W w2 l o;have g:=X l;have i:=X o))
  go_ret;refine⟨_,rfl,by simpa using J g,?_⟩;have:=i.below (B:=z<|G f) (by simp) (by rintro s⟨⟩;grind);exact⟨this.os,this.tape,this.output,aB (by simp) this.size,λs b=>(this.block s b).trans<|Below.heap_alloc f _ s b⟩
def CT{P:Program}{t d e f:TypeId}(c:P.underlying t=H (.slice f))(b:P.underlying d=H (.slice f))(x a:ab)(w:Y):(Builtin.append_ #[t,d] e #[x,a]).run P w=(Builtin.append_ #[t,t] e #[x,a]).run P w:=by
 cases x<;>try(simp[Builtin.append_,fI c];done)
 cases hq:P.info? f<;>simp[Builtin.append_,fI c,fI b,sizeOf,typeInfo,hq]
def oa{P:Program}(w:Y){j:Array Oper}{rest:ci Oper}{B:Oper}{D:Act}{ac:Exit->Act->Y->Prop}(o:B.guard=none)(an ao:Operand)(aa C:TypeId)(V:B.op=.call {callee:=.builtin .append,args:=#[an,ao],argTypes:=#[aa,C]})(a:M)(t:TypeId)(x:TypeInfo)(h:ab)(b bytes:M)(v:P.underlying aa=H (.slice t))(q:P.underlying C=H (.slice t))(S:P.info? t=H x)(hz:x.zero=H h)(g:x.size=b)(n:x.bytes=bytes)(r:h.cells.size=b)(p:0<b)(F:ab)(A:M)(s:ix)(hs:D.eval an=F)(i:w.ownsRow a t b F A s)(m:Addr)(u ad:M)(c:ix)(hx:D.eval ao=I (H m) u ad)(T:y c=u*b)(f:∀al E,c[al]?=H E->aW w (m.add al)=H E)(K:∀E∈c,E.oneCell'=cf)(hn:A+u<=140737488355328)(d:(A+u)*bytes<=140737488355328)(e:a<=z (G w))(ap:∀k l,l.ownsRow a t b k (A+u) (s++c)->eJ w l F k->wpList P j ac rest (D.put B.dst k) l):wpList P j ac (B::rest) D w:=by
 obtain⟨k,l,W,L,N,_,O⟩:=nG (P:=P) w a aa B.type t x h b bytes v S hz g n r p F A s i m u ad c T f K (by unfold maxLen;omega) d e;refine lK o λau Q=>?_;unfold Oper.wp;simp[execOp,V,resolve,invoke,builtin,hs,hx,CT v q,W,Result.andThen];exact Q _ _<|ap k l L<|eJ.of N O
def Qu(o:a.ownsRow b 171 4 d c B)(r:b<=z (G a))(O:jb a i w)(S:c<=1000000000):cY bA 141 #[d,aq c,bI i 0 1 1] a λQ D=>∃x,Q=aN x/\D.ownsRow b 171 4 x (c+1) (B++aI [w])/\eJ a D d x:=by
 obtain⟨v,t,l,m,n⟩:=dl nz;have L:∀A P,(aI [w])[A]?=H P->aW a (((R i 0):Addr).add A)=H P:=by intro A P s;rw[dJ,ct O,dM];simpa[aI,E.cells]using s
 have p:=X L;have q:=X o;rcases o.2 with⟨rfl,rfl⟩|⟨T,k,K,rfl,_,_,N,u,_⟩;(.clear o;(go_in);(go_wp2_with(at_builtin;refine oa _ rfl (.tmp 23) (.tmp 24) 73 72 rfl b 171 v xg 4 48 underlying73 underlying72 t l m n rfl (by decide) _ 0 B rfl q (R i 0) 1 1 (aI [w]) rfl rfl p (Dd w) (by omega) (by omega) r ?_;intro C F g j;have e:=X g;have f:=X j));go_ret;exact⟨_,rfl,by simpa using J e,f⟩);clear o;(have A:k<=9223372036854775807:=by unfold maxLen at u;omega);by_cases s:k=c;(.subst s;(go_in);(go_wp2_with(at_builtin;refine oa _ rfl (.tmp 23) (.tmp 24) 73 72 rfl b 171 v xg 4 48 underlying73 underlying72 t l m n rfl (by decide) _ k B rfl q (R i 0) 1 1 (aI [w]) rfl rfl p (Dd w) (by omega) (by omega) r ?_;intro C F g j;have e:=X g;have f:=X j));go_ret;exact⟨_,rfl,e,f⟩);(go_in);(go_wp2_with(at_builtin;refine oa _ rfl (.tmp 23) (.tmp 24) 73 72 rfl b 171 v xg 4 48 underlying73 underlying72 t l m n rfl (by decide) _ c B rfl q (R i 0) 1 1 (aI [w]) rfl rfl p (Dd w) (by omega) (by omega) r ?_;intro C F g j;have e:=X g;have f:=X j));go_ret;exact⟨_,rfl,e,f⟩
section
open Shelf
attribute [local go_sem] Oper.semAt_some
def Yd(l:cU):y (ij l)<=y l:=(kF l).length_le
def Xu(h:(aI<|e.take b)[c]?=H d):(aI e)[c]?=H d:=by
 grind[fY,take_append_drop,getElem?_append_left,List.getElem?_eq_some_iff]
def N0:ab->M
 | .slice _ n _=>n
 |_=>0
def OF(h:kJ a d e)(hs:eh e)(hl:y e<=1000000)(hv:∀k,cI d=H k->k<z (G a)):cY bA 154 #[d] a λca w'=>∃v',ca=aN v'/\w'.ownsRow (z<|G a) 171 4 v' (y<|ij e) (aI<|ij e)/\Z aw a w':=by
 obtain⟨i0,bh,bp,bq,br⟩:=dl nz;obtain⟨bL,v,ad⟩:=bZ h;have bi:=BN d bL (y e) v ad;have HH:=X h;have HV:=X hv;clear h hv;subst ad;refine(eD (n:=3)).1 ?_;refine callsIn_of_wp_marks func154 rfl trivial ?_ rfl;simp only[ntmps154,gA,aO,dB,Nat.reduceAdd,Nat.reduceSub,ft,fq,gB,fM,du,cR];gi_wp2_with(refine⟨trivial,?_⟩;gi_at_call 142;refine(eD.2<|bi _).mono ?_;rintro ca w1⟨rfl,rfl⟩)
 obtain⟨l,o⟩:∃l,(dd (dd a<|ay #[az] 73)<|ay #[I bL (y e) v] 73)=l:=⟨_,rfl⟩;have cp:z (G l)=z (G a)+2:=by rw[<-o];simp
 have ac:Z aw a l:=by rw[<-o];exact(cO aw a).alloc _
 have bd:eX l (z<|G a) az 73:=by rw[<-o];grind[eX.alloc,aK]
 have bf:eX l (z (G a)+1) (I bL (y e) v) 73:=by rw[<-o];exact aK _<|by simp
 have C:kJ l (I bL (y e) v) e:=HH.aj ac<|λk b=>⟨id,HV k b⟩;have hA0:sG l (λk=>k=z (G a)+1) (z<|G a) (ij<|iB []) (λk=>k=z (G a)) l:=⟨⟨_,bd,cK _ _ _ _,λk=>by simp[cI]⟩,Z.refl _ _⟩;rw[o];refine se (m:=3) (arg:=Ic<|I bL (y e) v) (V:=BZ) (n0:=z<|G a) (gf:=209) (lb:=#[aD<|z (G a)+1]) (l:=ou 0<|iA e) (S:=λk=>k=z (G a)+1) ?geval (enters_of func209 (by kernel_rfl) rfl) (λ_=>rfl) (xA (z<|G a) 2 bf C HV (by omega)<|by omega) trivial (by omega) (λk b=>by omega) (λg bs aV=>sG l (λk=>k=z (G a)+1) (z<|G a) (ij<|iB g) bs aV) (λ_ _ _ _=>False) (λk=>k=z (G a)) hA0 (λk b v=>by omega) ?lt ?st (λ_ _ _ _ _ _ h=>h.elim) ?body ?done ?stop;case geval=>rfl
 case lt=>exactλg bs aV p=>p.lt (by omega)<|by omega
 (case st=>intro g bs aV n T p f c;refine p.stays f<|λk b=>⟨(c k b).1,?_⟩;rcases(c k b).2 with v|v|v;exact .inl v;exact v.elim;exact .inr v);(case stop=>grind)
 case body=>
  rintro lr g⟨an,s⟩bs aV cm ba bx x p _;obtain⟨hn,cq,b⟩:=KB hs x;have ch:0<y s:=gN.2 b.ne;have cl:an+y s+y cq=y e:=by rw[b.all,hn];simp;omega
  obtain⟨ao,f,cb,hx,cj⟩:=C.some (by omega);cases hx;have n:=Ca C b.all b.ne;rw[<-hn]at n;unfold Ic;unfold Ap at n|-;simp only at n|-;have bu:∀k,bs k->k<z (G aV):=λk b=>(p.lt (n0:=z<|G a) (by omega) (by omega) k b).2;have ce:y s<=v-an:=by omega
  generalize v-an=bT at*;obtain⟨HA,HK,HN⟩:=dF p b hn;clear p x b hn;gi_wp2;refine⟨Z.refl _ _,λW2 w=>?_⟩;have hA2:=HA.stays w (λk b=>by grind);have cd:ao<z (G a):=HV ao rfl;have W:kJ W2 (bI ao (f+an*4) (y s) bT) s:=n.aj hA2.aj<|λk b=>(show ao=k by simpa[cI]using b)▸⟨λq=>by rcases q with q|q<;>omega,by omega⟩;obtain⟨bb,⟨Q,bc⟩|⟨b',bE,bt,Q,bc,T⟩⟩:=id W
  .omega
  cases Q;obtain⟨lv,j,i,E⟩:=hA2.row;obtain⟨ex,ec,F⟩:=aC i;have bl:=j.cell;have ck:=j.free;have bk:=ak j;have cc:=w.size;obtain⟨A,ap,ax,O,t⟩:=iY T hA2 w j i;have al:z (G l)<=z (G W2):=hA2.aj.size;have bv:y (ij<|iB g)+y s<=1000000:=by have:=Yd<|iB g;have:=J HN;omega
  clear T hA2 w j i E W n bb;generalize aa:ij (iB g)=u at*;subst F;gi_wp2;gi_loop [4] (λa=>∃N:M,N<=y s/\a=bI ao (f+an*4) N bT/\vZ s=vZ (s.take N)) (λa=>N0 a)
  case atStart=>exact⟨y s,ag _,rfl,by rw[aY]⟩
  case round=>
   obtain⟨N,hj,rfl,bn⟩:=hrel;have P:=X bn;have c:(N=0\/∃h:N-1<y s,s[N-1].del=bw)\/∃r,∃_:r<y s,N=r+1/\s[r].del=cf:=by
    grind
   rcases c with c|⟨r,hp,rfl,hd⟩
   .have aF:=X<|Sv hj P c;have bg:(N=0\/∃r,N=r+1/\aW W2 (R ao<|f+an*4+r*4+2)=H (aM bw)):=by
     rcases c with h|⟨h1,h2⟩
     .exact .inl h
     .cases N with
      |zero=>exact .inl rfl
      |succ r=>
       have g2:=A _ _ (eQ s r<|by omega).2.2.1;rw[<-bD]at g2;grind
    have au:=X (show∀i u,(aI<|s.take N)[i]?=H u->aW W2 (((R ao<|f+an*4):Addr).add i)=H u fromλi u a=>by rw[dJ];exact A _ _<|Xu a);have B:=X (show y (s.take N)=N by simp;omega);clear c;have bm:=J B;generalize s.take N=gj at*;rcases bg with rfl|⟨r,rfl,g2⟩;case' inr=>
     have e2:(0:U)<=(r:U):=by omega
     have e3:(r:U)<(r:U)+1:=by omega
     have e4:(0:U)<(r:U)+1:=by omega
    all_goals
     clear bm;gi_wp2_with(first
      |(gi_at_builtin;refine gp _ rfl (.tmp 25) (.tmp 26) 73 rfl (z (G l)) 171 i0 xg 4 48 underlying73 bh bp bq br rfl (by decide) (.slice ex (y u) ec) (y u) (aI u) rfl t (R ao (f+an*4)) _ bT (aI gj) rfl (by rw[fX,J B]) au (Wk gj) (by omega) (by omega) al ?_;intro v5 w5 K L;obtain⟨x5,c5,bo⟩:=aC K;subst bo;have D:eX w5 (z (G a)) (.slice ex (y u) ec) 73:=(L.grown.block _ bk (λca=>by have:=(t.lt _ ca.symm).1;omega)).trans O;have cn:=D.cell;have co:=D.free;have av:=X K;have aU:=X L;clear K L D))
     obtain⟨B2,r1,r2,r3⟩:=ap.more (xs:=gj) (by omega) O (Z.refl _ _) aU (by rw[J B];exact av);refine⟨trivial,B2,?_,(ax.mono<|λk b=>.inl<|.inr b).trans r2<|λk b=>.inl<|.inl b,r2.block lr (by omega) ba,λk b=>(r3 k b).imp_right<|λv=>by omega⟩;show sG l _ _ (ij<|iB<|g++[(an,s)]) B2 _;rw[uv,(J HK).bare,J aF,aa];exact r1
   .have g2:=A _ _ (eQ s r hp).2.2.1;rw[hd,<-bD]at g2;have B:=X<|P.trans<|Sw hp hd;clear hd;have e2:(0:U)<=(r:U):=by omega
    have e3:(r:U)<(r:U)+1:=by omega
    have e4:(0:U)<(r:U)+1:=by omega
    have D:(r:U)<=(bT:U):=by omega
    gi_wp2;exact⟨⟨r,by omega,rfl,B⟩,by simp[N0]⟩
 (case done=>intro D bs aV s p n _ r;obtain⟨lv,j,i,E⟩:=p.row;rw[BV]at i;obtain⟨ex,ec,F⟩:=aC i;have bl:=j.cell;obtain⟨HA,t,f,HK⟩:=gw p i E r;have u:=ak r;subst F;gi_wp2;have c:=iw aV D<|.deferred none;refine⟨by simp,.inl ⟨_,_,rfl,run_takeDeferred HK,?_⟩⟩;refine⟨_,kT rfl _ _ _,?_⟩;have hx:=c.own t<|λk b v=>n<|(f D).2<|.inr (by rw[<-v];exact b);refine⟨_,rfl,gl hx (by omega),ac.trans (HA.aj.trans c<|λk b=>.inr (by subst b;omega))<|λk b=>.inr (by rcases b with v|v<;>omega)⟩)
end
section
open Shelf
def zT{P:Program}{b:Array Oper}{o:Oper}{e:Act}{K:Act->Y->Prop}{Q:Exit->Act->Y->Prop}(k:o.guard=none)(p x:Operand)(g h:TypeId)(c:o.op=Op.call {callee:=Callee.builtin Builtin.copy,args:=#[p,x],argTypes:=#[g,h]})(v u:ab)(j:e.eval p=v)(n:e.eval x=u)(l:(Builtin.copy_ #[g,h] o.type #[v,u]).run P a=.ok d f)(i:K (e.put o.dst d) f):if Region.wanted o (yielded b e.tmps)=cf then Oper.wp P o e a K Q else T:=by
 have m:Region.wanted o (yielded b e.tmps)=cf:=by simp[Region.wanted,k]
 rw[di m];unfold Oper.wp;simp[execOp,c,resolve,invoke,builtin,j,n,l,Result.andThen];exact i
def SO(w:Y):(Go.sizeOf 171).run bA w=.ok 4 w:=by kernel_rfl
def qC{w:Y}{g:TypeId}{a:Array ab}(d:w.heap[c]?=H (ay a g (0,0)))(f:a.toList.take (b*4)=B)(j:M)(u:ab)(o:M)(e:(B.drop o)[j]?=H u):aW w (R c<|o+j)=H u:=by
 rw[ct d];rw[List.getElem?_drop,<-f,pE]at e;grind
def KD(f k d n i:M)(l:Array ab)(m:ix)(L:f<=k)(Q:a.heap[k]?=H (ay l 171 (0,0)))(C:n+1<=d)(aa:d<=9223372036854775807)(K:l.size=d*4)(v:l.toList.take (n*4)=m)(p:jb a b w)(s:b≠k)(hi:i<n)(hn:n<=1000000000)(h1:∀an∈m,an.oneCell'=cf):cY bA 141 #[bI k 0 n d,aq i,bI b 0 1 1] a λbb w'=>bb=aN (bI k 0 (n+1) d)/\w'.ownsRow f 171 4 (bI k 0 (n+1) d) (n+1) (m.take (i*4)++aI [w]++m.drop (i*4))/\Z (λal=>al=k) a w':=by
 have P:y m=n*4:=by rw[<-v,dp,mr];omega
 have ac:∀lb o,(callFunc 207 #[bI b 0 1 1,bI k ((i+1)*4) lb o]).run bA a=.ok (.value<|aM bw) a:=λlb o=>by rw[eO func207 (by kernel_rfl) (by kernel_rfl) (by kernel_rfl) (e:=Extern.SlicesOverlaps.overlaps #[72,72] #[4]) (by kernel_rfl),Lib.run_overlaps_apart a 72 4 171 underlying72 4 SO (R b 0) (R k<|(i+1)*4) 1 1 lb o s _ _ 4 (d*4) (by unfold jb at p;simp[World.shape?,p];rfl) (by simp[World.shape?,Q,K];rfl) (by omega) (by unfold jb at p;simp[World.frozen?,p]) (by unfold jb at p;simp[World.frozen?,p])];rfl
 have t:(prog.info? 171).map (·.size)=H 4:=by kernel_rfl
 have O:y (m.drop<|i*4)=(n-i)*4:=by rw[iP,P];omega
 obtain⟨c,j⟩:∃c,c=(l.toList.take ((i+1)*4)++m.drop (i*4)++l.toList.drop ((i+1)*4+y (m.drop<|i*4))):=⟨_,rfl⟩;have T:y c=d*4:=by rw[j];grind
 have D:∀x q o,(Builtin.copy_ #[73,73] x #[bI k ((i+1)*4) (n-i) q,bI k (i*4) (n+1-i) o]).run bA a.drew=.ok (goInt<|Nat.min (n+1-i)<|n-i) (a.drew.setRow k c.toArray):=λx q o=>by rw[j];refine rO a.drew _ _ x 171 4 k ((i+1)*4) _ q (R k<|i*4) _ o l _ (m.drop<|i*4) underlying73 t Q ?_ (λbc an V=>by rw[dJ];exact qC Q v bc an _ V) (by omega) (by grind);rw[O];grind
 have r:(a.drew.setRow k c.toArray).heap[k]?=H (ay c.toArray 171 (0,0)):=uH _ _ _ _ _ _ Q;obtain⟨e,g⟩:∃e,e=(c.take (i*4)++aI [w]++c.drop (i*4+y (aI [w]))):=⟨_,rfl⟩;have u:y (aI [w])=4:=rfl;have N:jb (a.drew.setRow k c.toArray) b w:=(sX a.drew k b _ s).trans p;have F:∀(W:Y),W.heap=(a.drew.setRow k c.toArray).heap->∀x q,(Builtin.copy_ #[73,72] x #[bI k (i*4) (n+1-i) q,bI b 0 1 1]).run bA W=.ok (goInt<|Nat.min 1<|n+1-i) (W.setRow k e.toArray):=λW A x q=>by rw[g];refine rO W _ _ x 171 4 k (i*4) _ q (R b 0) _ 1 c.toArray _ (aI [w]) underlying73 t (by rw[A];exact r) ?_ (λbc an V=>?_) (by simp;omega)<|Dd w;rw[u];simp only[Nat.min_def];split<;>omega;rw[dJ,ct (show jb W b w by unfold jb;rw[A];exact N),dM];simpa[aI,E.cells]using V
 have ba:¬((i:U)=(n:U)):=by omega
 have aU:IntKind.i64.wrap ((i:U)+1)=(i:U)+1:=by rw[bP];omega
 have aV:IntKind.i64.wrap ((n:U)+1)=(n:U)+1:=by rw[bP];omega
 have aF:((i:U)+1).toNat=i+1:=by omega
 have ad:((n:U)+1).toNat=n+1:=by omega
 have au:(0:U)<=(i:U)+1:=by omega
 have ax:i<=n:=by omega
 have av:(i:U)<=(n:U)+1:=by omega
 have ao:¬(d=i):=by omega
 have ap:¬(d=i+1):=by omega
 have S:prog.follows .mixedOrders=cf:=by kernel_rfl
 have B:=X (show∀W:Y,W.heap=(a.drew.setRow k c.toArray).heap->W.os=a.os->W.tape=a.tape->W.output=a.output->(W.setRow k e.toArray).ownsRow f 171 4 (bI k 0 (n+1) d) (n+1) (m.take (i*4)++aI [w]++m.drop (i*4))/\Z (λal=>al=k) a (W.setRow k e.toArray)from by
  intro W A e1 e2 e3;refine⟨⟨by simp[u];omega,.inr ⟨k,d,e.toArray,rfl,L,uH _ _ _ _ _ _ (by rw[A];exact r),C,aa,?_,?_⟩⟩,⟨e1,e2,e3,?_,?_⟩⟩
  .rw[g];grind
  .rw[List.toList_toArray,g,j];grind[WR]
  .rw[setRow_size,A,setRow_size];simp_all
  .intro al hk o;rw[sX _ _ _ _ o,A,sX _ _ _ _ o];rfl)
 clear T O j g u N r P h1 v K t p s L;go_in
 go_wp2_with(simp only[ac])
 go_region_law_o (refine zT rfl _ _ 73 73 rfl _ _ (by simp[Act.eval,Act.put]) (by simp[Act.eval,Act.put]) (D _ _ _) ?_)
 go_wp2_with(at_builtin;refine wpList_copy_run _ rfl _ _ 73 72 rfl _ _ rfl rfl (F _ rfl _ _) ?_)
 go_ret;exact⟨rfl,B _ rfl rfl rfl rfl⟩
end
structure SR where
 aH:M
 mem:U
 kK:U
 closed:Bool
 memory:ab
 eG:M
 aP:M
 l0:ab
 l1:ab
 l2:ab
 l3:ab
 next:M
 zY:M
 mP:Option M
 log:M
 dO:Bool
 pj:Bool
 iU:Bool
 gK:Bool
variable{W:SR}
def SR.cells(s:SR)(k:U):Array ab:=#[nE k,dI 0,aD s.aH,aq s.mem,aq s.kK,aM s.closed,.nilIface,s.memory,aq s.eG,aG s.aP,s.l0,s.l1,s.l2,s.l3,aG s.next,aq s.zY,.map s.mP,aG s.log,aM s.dO,aM s.pj,aM s.iU,aM s.gK]
def cW(w:Y)(a:M)(s:SR)(k:U):Prop:=w.heap[a]?=H (ay (s.cells k) 80 (0,0))
def cW.cell(h:cW a c W k){i:M}(e:(W.cells k)[i]?=H d):aW a (R c i)=H d:=by
 rw[ct h];exact e
def cW.cellAt(h:cW a b W k)(i:M)(e:(W.cells k).toList[i]?=H d):aW a (R b i)=H d:=h.cell (by rw[<-e];simp)
def cW.free{b i:M}(h:cW a b W k):a.frozen? (R b i)=bw:=cQ h
def cW.aj{S:fh}{w w':Y}(h:cW w c W k)(d:Z S w w')(a:¬S c):cW w' c W k:=(d.block c (ak h) a).trans h
def G0(w:Y)(t:ab):cY bA 29 #[.nilIface,t] w λe a=>e=aN (aM bw)/\a=w:=by
 go_in
 go_wp2;go_ret;simp_all
def Jj(w:Y):cY bA 69 #[.nilIface] w λe a=>e=aN .nilIface/\Below (z<|G w) w a:=by
 go_in
 go_wp2_with(go_at_call 29;refine(G0 _ _).mono ?_;rintro e b⟨rfl,rfl⟩)
 go_ret;exact⟨rfl,(Below.refl _ w).alloc (ag _) _⟩
def uU(h:cW a b W k):cY bA 32 #[aD b] a λf e=>f=aN (xF<|if W.closed then 6 else 0)/\Below (z<|G a) a e:=by
 have c5:aW a (R b 5)=H (aM W.closed):=h.cell rfl;have g:aW a (R b 6)=H .nilIface:=h.cell rfl;have d:=Jj a;cases hc:W.closed with
 |true=>
  rw[hc]at c5;clear h hc;go_in
  go_wp2;go_ret;exact⟨rfl,Below.refl _ _⟩
 |false=>
  rw[hc]at c5;clear h hc;go_in
  go_wp2_with(go_at_call 69;refine d.mono ?_;rintro f i⟨rfl,c⟩;have HB:=X c;clear c)
  go_ret;exact⟨rfl,HB⟩
def nP(a:U)(i n:M):Bool:=if i=0 then decide (a<=(n:U))else decide (i<3)&&decide (a<(n:U))
def sq(i n:M)(x:Option Addr)(f:M)(h:cW a b W k)(j:i<4):cY bA 48 #[aD b,aq i,I x n f] a λg e=>g=aN (aM<|nP W.kK i n)/\e=a:=by
 have c4:aW a (R b 4)=H (aq W.kK):=h.cell rfl;generalize W.kK=d at*;clear h;have c:i=0\/i=1\/i=2\/i=3:=by omega
 rcases c with rfl|rfl|rfl|rfl;(·(go_in);go_wp2;go_ret;exact⟨rfl,rfl⟩);(·(go_in);go_wp2;go_ret;exact⟨rfl,rfl⟩);(·(go_in);go_wp2;go_ret;exact⟨rfl,rfl⟩);(go_in);go_wp2;go_ret;exact⟨rfl,rfl⟩
section
open Conc.Locks
def cW.qx(h:cW a b W k)(j:U):cW (cH a (R b 0)<|nE j) b W j:=by
 have:=aJ (i:=0) (u:=nE j) h;exact this
end

def SR.fresh(c:M)(b a:U)(d:M):SR:=⟨c,b,a,bw,az,0,0,az,az,az,az,0,0,H d,0,bw,bw,bw,bw⟩
def JU(a:M):Array ab:=#[.func (.func 16) #[aD a] #[],.func (.func 17) #[aD a] #[],.func (.func 18) #[aD a] #[],.func (.func 19) #[aD a] #[]]
def pz.at1(w:Y)(o:Obj):pz (dd (dd w o)<|.map #[] 0) (z (G w)+1) []:=by
 have h:=pz.new<|dd w o;simp_all
def YZ(t:M)(c a:U)(w:Y)(ho:1<=c/\c<=32/\2<=a/\a<=6)(s x A B C:Y->Prop)(r:Y->M->Prop)(D:∀W,Z aw w W->cW W (z (G w)+2) (SR.fresh t c a<|z (G w)+1) 0->pz W (z (G w)+1) []->z (G W)=z (G w)+4->s W)(V:∀W,s W->cY bA 16 #[aD<|z (G w)+2] W λm d=>(m=aN .nilIface/\x d/\d.heap[z (G w)+3]?=W.heap[z (G w)+3]?)\/∃q,m=aN (fj q)/\r d q)(h1:∀W,x W->cY bA 17 #[aD<|z (G w)+2] W λm d=>(m=aN .nilIface/\A d/\d.heap[z (G w)+3]?=W.heap[z (G w)+3]?)\/∃q,m=aN (fj q)/\r d q)(h2:∀W,A W->cY bA 18 #[aD<|z (G w)+2] W λm d=>(m=aN .nilIface/\B d/\d.heap[z (G w)+3]?=W.heap[z (G w)+3]?)\/∃q,m=aN (fj q)/\r d q)(h3:∀W,B W->cY bA 19 #[aD<|z (G w)+2] W λm d=>m=aN .nilIface/\C d/\d.heap[z (G w)+3]?=W.heap[z (G w)+3]?):cY bA 8 #[aD t,dL #[aq c,aq a]] w λm d=>(m=aN (dA #[aD<|z (G w)+2,.nilIface])/\C d)\/∃q,m=aN (dA #[dC none,fj q])/\r d q:=by
 obtain⟨o1,o2,o3,o4⟩:=ho;have e1:¬c<1:=by omega
 have e2:¬32<c:=by omega
 have e3:¬a<2:=by omega
 have e4:¬6<a:=by omega
 have P:∀b w,(callFunc 16 b).run bA w=.ok (.enter 16 b) w:=enters_of func16 (by kernel_rfl) rfl;have Q:∀b w,(callFunc 17 b).run bA w=.ok (.enter 17 b) w:=enters_of func17 (by kernel_rfl) rfl;have S:∀b w,(callFunc 18 b).run bA w=.ok (.enter 18 b) w:=enters_of func18 (by kernel_rfl) rfl;have T:∀b w,(callFunc 19 b).run bA w=.ok (.enter 19 b) w:=enters_of func19 (by kernel_rfl) rfl;obtain⟨F,K,L,N,O⟩:=iY (show s (dd (dd (dd (dd w<|ay #[aq c,aq a] 29)<|.map #[] 0)<|ay ((SR.fresh t c a<|z (G w)+1).cells 0) 80)<|ay (JU<|z (G w)+2) 81)/\(dd (dd (dd (dd w<|ay #[aq c,aq a] 29)<|.map #[] 0)<|ay ((SR.fresh t c a<|z (G w)+1).cells 0) 80)<|ay (JU<|z (G w)+2) 81).heap[z (G w)+3]?=H (ay (JU<|z (G w)+2) 81 (0,0))from⟨D _ ((((cO aw w).alloc _).alloc _).alloc _) ((gq _<|by simp).trans<|aK _<|by simp) (((pz.at1 w _).alloc _).alloc _) (by simp),aK _<|by simp⟩) V h1 h2 h3;have aa:=@rW bA;go_in
 go_wp2;go_loopw [44] (λi wr=>∃(u:M),u<=4/\i=aq u/\((u=0/\s wr)\/(u=1/\x wr)\/(u=2/\A wr)\/(u=3/\B wr)\/(u=4/\C wr))/\wr.heap[z (G w)+3]?=H (ay (JU<|z (G w)+2) 81 (0,0))) (λi _=>4-(intOf i).toNat)
 case atStart=>exact⟨0,by omega,by go_num,.inl ⟨rfl,F.1⟩,F.2⟩
 (case round=>obtain⟨u,hj,rfl,j,k⟩:=hrel;have f0:=cellAt k 0 rfl;have f1:=cellAt k 1 rfl;have f2:=cellAt k 2 rfl;have f3:=cellAt k 3 rfl;have l:=X k;rcases j with⟨rfl,j⟩|⟨rfl,j⟩|⟨rfl,j⟩|⟨rfl,j⟩|⟨rfl,j⟩;(.have n:=K wr j;(go_wp2_with fail);refine n.mono ?_;rintro m E(⟨rfl,g,i⟩|⟨q,rfl,p⟩);rotate_left;(.have o:=X p;go_wp2;(go_ret2);exact .inr ⟨q,rfl,o⟩);have f:=X g;have e:=X<|i.trans l;go_wp2;go_roundw;(case rel=>exact⟨1,by omega,by go_num,.inr<|.inl ⟨rfl,f⟩,e⟩);case measure=>simp[intOf]);(.have n:=L wr j;(go_wp2_with fail);refine n.mono ?_;rintro m E(⟨rfl,g,i⟩|⟨q,rfl,p⟩);rotate_left;(.have o:=X p;go_wp2;(go_ret2);exact .inr ⟨q,rfl,o⟩);have f:=X g;have e:=X<|i.trans l;go_wp2;go_roundw;(case rel=>exact⟨2,by omega,by go_num,.inr<|.inr<|.inl ⟨rfl,f⟩,e⟩);case measure=>simp[intOf]);(.have n:=N wr j;(go_wp2_with fail);refine n.mono ?_;rintro m E(⟨rfl,g,i⟩|⟨q,rfl,p⟩);rotate_left;(.have o:=X p;go_wp2;(go_ret2);exact .inr ⟨q,rfl,o⟩);have f:=X g;have e:=X<|i.trans l;go_wp2;go_roundw;(case rel=>exact⟨3,by omega,by go_num,.inr<|.inr<|.inr<|.inl ⟨rfl,f⟩,e⟩);case measure=>simp[intOf]);(.have n:=O wr j;(go_wp2_with(go_at_fn 19;refine n.mono ?_;rintro m E⟨rfl,g,i⟩;have f:=X g;have e:=X<|i.trans l));go_roundw;(case rel=>exact⟨4,by omega,by go_num,.inr<|.inr<|.inr<|.inr<|⟨rfl,f⟩,e⟩);case measure=>simp[intOf]);have v:=X j;go_wp2;(go_ret2);exact .inl ⟨rfl,v⟩)
section
open ChangeMaps (setBlock)
def lD(w:Y)(e:M)(f:TypeDesc)(d:ab->Prop):Prop:=∃c b,w.heap[e]?=H (.map c b)/\MapKept.Stamped c b/\(∀x∈c.toList,MapKept.IsKey f x.key)/\(∀x∈c.toList,x.val=dL #[])/\∀k,d k↔∃x∈c.toList,x.key=k
theorem lD.lt{w:Y}{b:M}{e:TypeDesc}{d:ab->Prop}(h:lD w b e d):b<z (G w):=by
 obtain⟨_,_,c,_⟩:=h;exact ak c
theorem lD.dG{w w':Y}{b:M}{h:TypeDesc}{d:ab->Prop}(j:lD w b h d)(i:w'.heap[b]?=w.heap[b]?):lD w' b h d:=by
 obtain⟨e,c,f,g⟩:=j;exact⟨e,c,i.trans f,g⟩
theorem lD.new(w:Y)(d:TypeDesc):lD (dd w<|.map #[] 0) (z<|G w) d aw:=by
 refine⟨#[],0,?_,⟨by simp,by simp,by simp⟩,by simp,by simp,by simp⟩;show(w.heap.push _)[z<|G w]?=_;simp
theorem lD.congr{w:Y}{l:M}{m:TypeDesc}{d c:ab->Prop}(p:lD w l m d)(n:∀k,c k↔d k):lD w l m c:=by
 obtain⟨e,b,f,g,h,i,j⟩:=p;exact⟨e,b,f,g,h,i,λk=>(n k).trans<|j k⟩
theorem CS{P:Program}{w:Y}{mt q k s:M}{t:TypeDesc}{p:ab->Prop}{B:TypeInfo}(x:P.underlying mt=H (.map q k))(i:P.underlying q=H t)(v:P.info? k=H B)(A:B.zero=H (dL #[]))(D:lD w s t p)(n:ab)(d:MapKept.IsKey t n)(r:Bool)(K:r=cf↔p n):(Instr.lookup mt (.map<|H s) n cf).run P w=.ok (dA #[dL #[],aM r]) w:=by
 obtain⟨e,b,u,L,j,N,F⟩:=D;have g:=iF (P:=P) (w:=w) (k:=n) i d e.isEmpty 9999;have h:(getObj s).run P w=.ok (.map e b) w:=by simp[getObj,Sem.run,u]
 unfold Instr.lookup;rw[jY,fI x];simp only[nI,jY,h,wJ];rw[show(10000:M)=9999+1 from rfl,g];simp only[nI];rcases MapKept.findNow_spec d e.toList 0 j with⟨f,l⟩|⟨O,C,f,l,E⟩;have c:=ir (P:=P) (w:=w) i f;(have:r=bw:=by grind);simp[c,zeroValue,typeInfo,v,A,this];have c:=ir (P:=P) (w:=w) i f;have m:C∈e.toList:=eR l;have:r=cf:=(by grind);simp_all
theorem Au{P:Program}{w:Y}{mt B D r:M}{C:TypeDesc}{A:ab->Prop}(u:P.underlying mt=H (.map B D))(l:P.underlying B=H C)(N:lD w r C A)(n:ab)(d:MapKept.IsKey C n):∃m,(Instr.mapUpdate mt (.map<|H r) n<|dL #[]).run P w=.ok () m/\lD m r C (λx=>A x\/x=n)/\w.grownBy m (H r)/\z (G m)=z (G w):=by
 obtain⟨c,b,i,t,j,O,L⟩:=N;have h:=qi (P:=P) i;rcases MapKept.findNow_spec d c.toList 0 j with⟨p,k⟩|⟨v,e,p,k,E⟩;refine⟨setBlock w r<|.map (c.push {key:=n,val:=dL #[],born:=b})<|b+1,?_,?_,mG _ _ _,by simp[setBlock]⟩;simp[Instr.mapUpdate,fI u,h,iF l d,ir l p,jw _ i,Result.andThen,setBlock];refine⟨_,_,(iN i).1,MapKept.stamped_push t k,?_,?_,?_⟩;(grind);(grind);intro x;simp only[Array.toList_push,aA,cL];grind
 (have F:c[v]?=H e:=by simpa using k);have s:e∈c.toList:=eR k;refine⟨setBlock w r<|.map (c.modify v λe=>{e with key:=n,val:=dL #[]}) b,?_,?_,mG _ _ _,by simp[setBlock]⟩;simp[Instr.mapUpdate,fI u,h,iF l d,ir l p,F,E,vt d,jw _ i,Result.andThen,setBlock];have K:∀b,c[v]?=H b->b.key=n:=(by grind);refine⟨_,_,(iN i).1,wL t _ _ (λ_ _=>rfl) (by grind),MapKept.isKey_modify j _ _ (by grind),?_,?_⟩;(grind[Array.toList_modify,getElem?_of_mem,mem_of_getElem?]);intro x;have g:((c.modify v λe=>{e with key:=n,val:=dL #[]}).toList.map (·.key))=c.toList.map (·.key):=MapKept.modify_keys _ _ (by grind);(have q:(∃b∈(c.modify v λe=>{e with key:=n,val:=dL #[]}).toList,b.key=x)↔∃b∈c.toList,b.key=x:=by rw[<-bH (f:=λb:MapEntry=>b.key),<-bH (f:=λb:MapEntry=>b.key),g]);rw[q,<-L x];grind
section
variable{P:Program}(w:Y){ops:Array Oper}{rest:ci Oper}{o:Oper}{a:Act}{Q:Exit->Act->Y->Prop}
theorem vC(m:o.guard=none)(h x i:Operand)(A:TypeId)(f:o.op=Op.mapUpdate A h x i)(v C:TypeId)(q:P.underlying A=H (.map v C))(k:TypeDesc)(n:P.underlying v=H k)(j:M)(g:ab->Prop)(p:a.eval h=.map (H j))(D:lD w j k g)(b:ab)(e:MapKept.IsKey k b)(s:a.eval x=b)(r:a.eval i=dL #[])(l:∀w',lD w' j k (λx=>g x\/x=b)->w.grownBy w' (H j)->wpList P ops Q rest (a.put o.dst iM) w'):wpList P ops Q (o::rest) a w:=by
 refine lK m λB d=>?_;obtain⟨w',c,t,u,_⟩:=Au q n D b e;unfold Oper.wp;simp[execOp,f,p,s,r,c,Result.andThen];exact d _ _<|l w' t u
end
end
structure Acc(S:fh)(w0:Y)(fx:ci (M×ab×TypeId))(lb:M)(c b:TypeId)(a base n:M)(xs:ix)(B:fh)(W:Y):Prop where
 fix:∀p∈fx,eX W p.1 p.2.1 p.2.2
 row:∃v,eX W lb v c/\W.ownsRow base b a v n xs/\(∀k,B k↔(∃p∈fx,p.1=k)\/k=lb\/cI v=H k)
 R6:∀p∈fx,z (G w0)<=p.1/\p.1<base/\p.1≠lb
 R5:z (G w0)<=lb/\lb<base
 aj:Z S w0 W
section
variable{S:fh}{w0 W:Y}{fx:ci (M×ab×TypeId)}{lb:M}{c b:TypeId}{a baseqq n:M}{xs:ix}{B:fh}
theorem Acc.lt(h:Acc S w0 fx lb c b a baseqq n xs B W):∀k,B k->z (G w0)<=k/\k<z (G W):=by
 intro k j;obtain⟨v,l,g,i⟩:=h.row;have:=h.R5;rcases(i k).1 j with⟨p,d,e⟩|e|e;subst e;exact⟨(h.R6 p d).1,ak<|h.fix p d⟩;grind
 have:=g.lt k e;grind
theorem Acc.stays{e:Y}{T:fh}(h:Acc S w0 fx lb c b a baseqq n xs B W)(d:Z T W e)(l:∀k,T k->¬B k/\(S k\/z (G w0)<=k)):Acc S w0 fx lb c b a baseqq n xs B e:=by
 obtain⟨v,f,i,j⟩:=h.row;exact⟨λp g=>(d.block _ (ak<|h.fix p g)<|by grind).trans<|h.fix p g,⟨v,(d.block _ (ak f)<|by grind).trans f,d.own i (by grind),j⟩,h.R6,h.R5,h.aj.trans d<|λk m=>(l k m).2⟩
theorem Acc.more{e:Y}{v d:ab}{w:M}{j:ix}(l:Acc S w0 fx lb c b a baseqq n xs B W)(t:eX W lb v c)(N:∀k,B k↔(∃p∈fx,p.1=k)\/k=lb\/cI v=H k)(E:W.ownsRow baseqq b a v n xs)(r:Z (λk=>cI v=H k) W e)(A:cI d=cI v\/∃L,cI d=H L/\z (G W)<=L)(g:e.ownsRow baseqq b a d w j):∃s,Acc S w0 fx lb c b a baseqq w j s (cH e (R lb 0) d)/\Z B W (cH e (R lb 0) d)/\(∀k,s k->B k\/z (G W)<=k):=by
 have F:∀k,cI v=H k->baseqq<=k/\k<z (G W):=λk f=>E.lt k f;have u:∀k,cI d=H k->baseqq<=k:=λk f=>(g.lt k f).1;have D:=l.R5;have q:eX e lb v c:=(r.block _ (ak t)<|by grind).trans t;have h:Z B W (cH e (R lb 0) d):=(r.mono (T:=B)<|by grind).setCell _ _ _ (by grind);refine⟨λk=>(∃p∈fx,p.1=k)\/k=lb\/cI d=H k,⟨λp o=>?_,⟨d,q.set _,?_,λk=>rK⟩,l.R6,l.R5,?_⟩,h,?_⟩;obtain⟨O,P,K⟩:=l.R6 p o;have C:eX e p.1 p.2.1 p.2.2:=(r.block _ (ak<|l.fix p o)<|by grind).trans<|l.fix p o;exact C.other _ K;exact g.kept (dS e _ _ _) (by grind);exact l.aj.trans h<|λk f=>.inr (l.lt k f).1;grind
end
