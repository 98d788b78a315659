import Derived.Test.YthaiaannkhpppaaGreatDoorC5
import Derived.Test.YthaiaannkhpppaaGreatDoorC6
open _root_ renaming List.length→y,Option.some→H,Array.size→z,Go.World.heap→G,Go.Value.ownBlock→cK,Go.World.cell?→aW,Go.World.alloc→cN,Bool.false→aX,Bool.true→ci,Nat→M,Int→X,Go.Calls→cY,Go.Proofs.Tryz.prog→aZ,Go.Value.slice→I,Go.Value.bool→aN
namespace Go.Proofs.YthaiaannkhpppaaGreatDoor
open ChangeShapes WideShapes RowKit Proofs.Tryz List
set_option maxHeartbeats 16000000
set_option linter.all false
set_option maxRecDepth 100000
variable{a:Y}{b c:M}{d:ab}{e:cR}
section
open Shelf
attribute [local go_sem] Oper.semAt_some
def WJ(l:cR):y (gA l)<=y l:=(kq l).length_le
def Wg(h:(aK<|e.take b)[c]?=H d):(aK e)[c]?=H d:=by
 grind[fW,take_append_drop,getElem?_append_left,List.getElem?_eq_some_iff]
def A8:ab->M
 | .slice _ n _=>n
 |_=>0
def MZ(h:kC a d e)(hs:dV e)(hl:y e<=1000000)(hv:∀k,cK d=H k->k<z (G a)):cY aZ 164 #[d] a λbL w'=>∃v',bL=aM v'/\w'.ownsRow (z<|G a) 171 4 v' (y<|gA e) (aK<|gA e)/\Z ay a w':=by
 obtain⟨i0,bg,bn,bo,bp⟩:=di mZ;obtain⟨bx,u,ad⟩:=bY h;have bh:=AU d bx (y e) u ad;have HH:=U h;have HV:=U hv;clear h hv;subst ad;refine(dP (n:=3)).1 ?_;refine callsIn_of_wp_marks func164 rfl trivial ?_ rfl;simp only[ntmps164,fo,aY,dG,Nat.reduceAdd,Nat.reduceSub,eM,eL,fp,eX,cV,df];gi_wp2_with(refine⟨trivial,?_⟩;gi_at_call 152;refine(dP.2<|bh _).mono ?_;rintro bL w1⟨rfl,rfl⟩)
 obtain⟨j,o⟩:∃j,(cN (cN a<|aw #[az] 87)<|aw #[I bx (y e) u] 87)=j:=⟨_,rfl⟩;have cm:z (G j)=z (G a)+2:=by rw[<-o];simp
 have ac:Z ay a j:=by rw[<-o];exact(cF ay a).alloc _
 have bc:eP j (z<|G a) az 87:=by rw[<-o];grind[eP.alloc,aJ]
 have bd:eP j (z (G a)+1) (I bx (y e) u) 87:=by rw[<-o];exact aJ _<|by simp
 have C:kC j (I bx (y e) u) e:=HH.aj ac<|λk b=>⟨id,HV k b⟩;have hA0:rW j (λk=>k=z (G a)+1) (z<|G a) (gA<|io []) (λk=>k=z (G a)) j:=⟨⟨_,bc,cO _ _ _ _,λk=>by simp[cK]⟩,Z.refl _ _⟩;rw[o];refine pj (m:=3) (arg:=Gq<|I bx (y e) u) (V:=zf) (n0:=z<|G a) (gf:=215) (lb:=#[aA<|z (G a)+1]) (l:=nQ 0<|im e) (S:=λk=>k=z (G a)+1) ?geval (enters_of func215 (by kernel_rfl) rfl) (λ_=>rfl) (wB (z<|G a) 2 bd C HV (by omega)<|by omega) trivial (by omega) (λk b=>by omega) (λpre bq aU=>rW j (λk=>k=z (G a)+1) (z<|G a) (gA<|io pre) bq aU) (λ_ _ _ _=>False) (λk=>k=z (G a)) hA0 (λk b u=>by omega) ?lt ?st (λ_ _ _ _ _ _ h=>h.elim) ?body ?done ?stop;case geval=>rfl
 case lt=>exactλpre bq aU l=>l.lt (by omega)<|by omega
 (case st=>intro pre bq aU n T l f c;refine l.stays f<|λk b=>⟨(c k b).1,?_⟩;rcases(c k b).2 with u|u|u;exact .inl u;exact u.elim;exact .inr u);(case stop=>grind)
 case body=>
  rintro lr pre⟨an,r⟩bq aU cj aV bu x l _;obtain⟨hn,cn,b⟩:=Jq hs x;have cd:0<y r:=gl.2 b.ne;have ch:an+y r+y cn=y e:=by rw[b.all,hn];simp;omega
  obtain⟨ao,f,bT,hx,ce⟩:=C.some (by omega);cases hx;have n:=Be C b.all b.ne;rw[<-hn]at n;unfold Gq;unfold zG at n|-;simp only at n|-;have bs:∀k,bq k->k<z (G aU):=λk b=>(l.lt (n0:=z<|G a) (by omega) (by omega) k b).2;have cc:y r<=u-an:=by omega
  generalize u-an=bE at*;obtain⟨HA,HK,HN⟩:=dz l b hn;clear l x b hn;gi_wp2;refine⟨Z.refl _ _,λW2 w=>?_⟩;have hA2:=HA.stays w (λk b=>by grind);have cb:ao<z (G a):=HV ao rfl;have T:kC W2 (bD ao (f+an*4) (y r) bE) r:=n.aj hA2.aj<|λk b=>(show ao=k by simpa[cK]using b)▸⟨λq=>by rcases q with q|q<;>omega,by omega⟩;obtain⟨ba,⟨P,bb⟩|⟨b',bv,br,P,bb,Q⟩⟩:=id T
  .omega
  cases P;obtain⟨lv,i,g,v⟩:=hA2.row;obtain⟨ex,ec,E⟩:=aB g;have bk:=i.cell;have cf:=i.free;have bi:=ak i;have ca:=w.size;obtain⟨A,ap,ax,N,s⟩:=iO Q hA2 w i g;have al:z (G j)<=z (G W2):=hA2.aj.size;have bt:y (gA<|io pre)+y r<=1000000:=by have:=WJ<|io pre;have:=J HN;omega
  clear Q hA2 w i g v T n ba;generalize W:gA (io pre)=t at*;subst E;gi_wp2;gi_loop [4] (λa=>∃L:M,L<=y r/\a=bD ao (f+an*4) L bE/\vD r=vD (r.take L)) (λa=>A8 a)
  case atStart=>exact⟨y r,ah _,rfl,by rw[bI]⟩
  case round=>
   obtain⟨L,hj,rfl,aa⟩:=hrel;have O:=U aa;clear aa;have c:(L=0\/∃h:L-1<y r,r[L-1].del=aX)\/∃p,∃_:p<y r,L=p+1/\r[p].del=ci:=by
    grind
   rcases c with c|⟨p,hp,rfl,hd⟩
   .have aD:=U<|QP hj O c;have bf:(L=0\/∃p,L=p+1/\aW W2 (R ao<|f+an*4+p*4+2)=H (aN aX)):=by
     rcases c with h|⟨h1,h2⟩
     .exact .inl h
     .cases L with
      |zero=>exact .inl rfl
      |succ p=>
       have g2:=A _ _ (eI r p<|by omega).2.2.1;rw[<-bw]at g2;grind
    have au:=U (show∀i u,(aK<|r.take L)[i]?=H u->aW W2 (((R ao<|f+an*4):Addr).add i)=H u fromλi u a=>by rw[dB];exact A _ _<|Wg a);have B:=U (show y (r.take L)=L by simp;omega);clear c;have bl:=J B;generalize r.take L=gj at*;rcases bf with rfl|⟨p,rfl,g2⟩;case' inr=>
     have e2:(0:X)<=(p:X):=by omega
     have e3:(p:X)<(p:X)+1:=by omega
     have e4:(0:X)<(p:X)+1:=by omega
    all_goals
     clear bl;gi_wp2_with(first
      |(gi_at_builtin;refine fi _ rfl (.tmp 25) (.tmp 26) 87 rfl (z (G j)) 171 i0 wo 4 48 underlying87 bg bn bo bp rfl (by decide) (.slice ex (y t) ec) (y t) (aK t) rfl s (R ao (f+an*4)) _ bE (aK gj) rfl (by rw[fV,J B]) au (UZ gj) (by omega) (by omega) al ?_;intro v5 w5 F K;obtain⟨x5,c5,bm⟩:=aB F;subst bm;have D:eP w5 (z (G a)) (.slice ex (y t) ec) 87:=(K.grown.block _ bi (λbL=>by have:=(s.lt _ bL.symm).1;omega)).trans N;have ck:=D.cell;have cl:=D.free;have av:=U F;have aF:=U K;clear F K D))
     obtain⟨B2,r1,r2,r3⟩:=ap.more (xs:=gj) (by omega) N (Z.refl _ _) aF (by rw[J B];exact av);refine⟨trivial,B2,?_,(ax.mono<|λk b=>.inl<|.inr b).trans r2<|λk b=>.inl<|.inl b,r2.block lr (by omega) aV,λk b=>(r3 k b).imp_right<|λu=>by omega⟩;show rW j _ _ (gA<|io<|pre++[(an,r)]) B2 _;rw[tT,(J HK).bare,J aD,W];exact r1
   .have g2:=A _ _ (eI r p hp).2.2.1;rw[hd,<-bw]at g2;have B:=U<|O.trans<|QR hp hd;clear hd;have e2:(0:X)<=(p:X):=by omega
    have e3:(p:X)<(p:X)+1:=by omega
    have e4:(0:X)<(p:X)+1:=by omega
    have D:(p:X)<=(bE:X):=by omega
    gi_wp2;exact⟨⟨p,by omega,rfl,B⟩,by simp[A8]⟩
 (case done=>intro D bq aU r l n _ p;obtain⟨lv,i,g,v⟩:=l.row;rw[Bb]at g;obtain⟨ex,ec,E⟩:=aB g;have bk:=i.cell;obtain⟨HA,s,f,HK⟩:=fY l g v p;have t:=ak p;clear l i g v p;subst E;gi_wp2;have c:=gF aU D<|.deferred none;refine⟨by simp,.inl ⟨_,_,rfl,run_takeDeferred HK,?_⟩⟩;refine⟨_,iw rfl _ _ _,?_⟩;have hx:=c.own s<|λk b u=>n<|(f D).2<|.inr (by rw[<-u];exact b);refine⟨_,rfl,fX hx (by omega),ac.trans (HA.aj.trans c<|λk b=>.inr (by subst b;omega))<|λk b=>.inr (by rcases b with u|u<;>omega)⟩)
end
