import Derived.Test.YtmnlcbeggagabaaGreatDoorC11
import Derived.Test.YtmnlcbeggagabaaGreatDoorC12
open _root_ renaming List.length→y,Option.some→H,Array.size→z,Go.World.heap→G,Go.Value.ownBlock→cz,Go.World.cell?→aS,Go.World.alloc→cG,Bool.false→bj,Bool.true→ci,Nat→M,Int→U,Go.Calls→cD,Go.Proofs.Tryz.prog→aZ,Go.Value.slice→J,Go.Value.bool→aK
namespace Go.Proofs.YtmnlcbeggagabaaGreatDoor
open ChangeShapes WideShapes RowKit Proofs.Tryz List
set_option maxHeartbeats 16000000
set_option linter.all false
set_option maxRecDepth 100000
variable{a:Z}{b c:M}{d:ab}{e:cI}
section
open Shelf
attribute [local go_sem] Oper.semAt_some
def UC(l:cI):y (gI l)<=y l:=(kh l).length_le
def Ue(h:(aI<|e.take b)[c]?=H d):(aI e)[c]?=H d:=by
 grind[fI,take_append_drop,getElem?_append_left,List.getElem?_eq_some_iff]
def XV:ab->M
 | .slice _ n _=>n
 |_=>0
def LI(h:jU a d e)(hs:dK e)(hl:y e<=1000000)(hv:∀k,cz d=H k->k<z (G a)):cD aZ 171 #[d] a λca w'=>∃v',ca=aJ v'/\w'.ownsRow (z<|G a) 170 4 v' (y<|gI e) (aI<|gI e)/\I az a w':=by
 obtain⟨i0,bh,bo,bp,bq⟩:=cU mP;obtain⟨bE,v,ad⟩:=bN h;have bi:=Ab d bE (y e) v ad;have HH:=Y h;have HV:=Y hv;clear h hv;subst ad;refine(dS (n:=3)).1 ?_;refine callsIn_of_wp_marks func171 rfl trivial ?_ rfl;simp only[ntmps171,ga,aW,eD,Nat.reduceAdd,Nat.reduceSub,eX,eW,gd,fq,de,dl];gi_wp2_with(refine⟨trivial,?_⟩;gi_at_call 159;refine(dS.2<|bi _).mono ?_;rintro ca w1⟨rfl,rfl⟩)
 obtain⟨l,p⟩:∃l,(cG (cG a<|ay #[aw] 88)<|ay #[J bE (y e) v] 88)=l:=⟨_,rfl⟩;have cp:z (G l)=z (G a)+2:=by rw[<-p];simp
 have ac:I az a l:=by rw[<-p];exact(cK az a).alloc _
 have bd:eG l (z<|G a) aw 88:=by rw[<-p];grind[eG.alloc,aH]
 have bf:eG l (z (G a)+1) (J bE (y e) v) 88:=by rw[<-p];exact aH _<|by simp
 have D:jU l (J bE (y e) v) e:=HH.ap ac<|λk b=>⟨id,HV k b⟩;have hA0:rm l (λk=>k=z (G a)+1) (z<|G a) (gI<|ie []) (λk=>k=z (G a)) l:=⟨⟨_,bd,cO _ _ _ _,λk=>by simp[cz]⟩,I.refl _ _⟩;rw[p];refine oN (m:=3) (arg:=Fo<|J bE (y e) v) (V:=Am) (n0:=z<|G a) (gf:=211) (lb:=#[aA<|z (G a)+1]) (l:=nz 0<|ic e) (S:=λk=>k=z (G a)+1) ?geval (enters_of func211 (by kernel_rfl) rfl) (λ_=>rfl) (vr (z<|G a) 2 bf D HV (by omega)<|by omega) trivial (by omega) (λk b=>by omega) (λj br aV=>rm l (λk=>k=z (G a)+1) (z<|G a) (gI<|ie j) br aV) (λ_ _ _ _=>False) (λk=>k=z (G a)) hA0 (λk b v=>by omega) ?lt ?st (λ_ _ _ _ _ _ h=>h.elim) ?body ?done ?stop;case geval=>rfl
 case lt=>exactλj br aV n=>n.lt (by omega)<|by omega
 (case st=>intro j br aV o T n f c;refine n.stays f<|λk b=>⟨(c k b).1,?_⟩;rcases(c k b).2 with v|v|v;exact .inl v;exact v.elim;exact .inr v);(case stop=>grind)
 case body=>
  rintro lr j⟨an,s⟩br aV cm ba bv A n _;obtain⟨hn,cs,b⟩:=Ii hs A;have ch:0<y s:=gB.2 b.ne;have cl:an+y s+y cs=y e:=by rw[b.all,hn];simp;omega
  obtain⟨ao,f,cb,hx,cj⟩:=D.some (by omega);cases hx;have o:=An D b.all b.ne;rw[<-hn]at o;unfold Fo;unfold yL at o|-;simp only at o|-;have bt:∀k,br k->k<z (G aV):=λk b=>(n.lt (n0:=z<|G a) (by omega) (by omega) k b).2;have ce:y s<=v-an:=by omega
  generalize v-an=bT at*;obtain⟨HA,HK,HN⟩:=dz n b hn;clear n A b hn;gi_wp2;refine⟨I.refl _ _,λW2 x=>?_⟩;have hA2:=HA.stays x (λk b=>by grind);have cd:ao<z (G a):=HV ao rfl;have W:jU W2 (aY ao (f+an*4) (y s) bT) s:=o.ap hA2.ap<|λk b=>(show ao=k by simpa[cz]using b)▸⟨λq=>by rcases q with q|q<;>omega,by omega⟩;obtain⟨bb,⟨Q,bc⟩|⟨b',bx,bs,Q,bc,T⟩⟩:=id W
  .omega
  cases Q;obtain⟨lv,i,g,w⟩:=hA2.row;obtain⟨ex,ec,F⟩:=aC g;have bl:=i.cell;have ck:=i.free;have bk:=ar i;have cc:=x.size;obtain⟨B,au,aD,O,t⟩:=jk T hA2 x i g;have al:z (G l)<=z (G W2):=hA2.ap.size;have bu:y (gI<|ie j)+y s<=1000000:=by have:=UC<|ie j;have:=af HN;omega
  clear T hA2 x i g w W o bb;generalize X:gI (ie j)=u at*;subst F;gi_wp2;gi_loop [4] (λa=>∃N:M,N<=y s/\a=aY ao (f+an*4) N bT/\uu s=uu (s.take N)) (λa=>XV a)
  case atStart=>exact⟨y s,ai _,rfl,by rw[bL]⟩
  case round=>
   obtain⟨N,hj,rfl,aa⟩:=hrel;have P:=Y aa;clear aa;have c:(N=0\/∃h:N-1<y s,s[N-1].del=bj)\/∃r,∃_:r<y s,N=r+1/\s[r].del=ci:=by
    grind
   rcases c with c|⟨r,hp,rfl,hd⟩
   .have aF:=Y<|Pd hj P c;have bg:(N=0\/∃r,N=r+1/\aS W2 (R ao<|f+an*4+r*4+2)=H (aK bj)):=by
     rcases c with h|⟨h1,h2⟩
     .exact .inl h
     .cases N with
      |zero=>exact .inl rfl
      |succ r=>
       have g2:=B _ _ (eh s r<|by omega).2.2.1;rw[<-bF]at g2;grind
    have av:=Y (show∀i u,(aI<|s.take N)[i]?=H u->aS W2 (((R ao<|f+an*4):Addr).add i)=H u fromλi u a=>by rw[dt];exact B _ _<|Ue a);have C:=Y (show y (s.take N)=N by simp;omega);clear c;have bm:=af C;generalize s.take N=gj at*;rcases bg with rfl|⟨r,rfl,g2⟩;case' inr=>
     have e2:(0:U)<=(r:U):=by omega
     have e3:(r:U)<(r:U)+1:=by omega
     have e4:(0:U)<(r:U)+1:=by omega
    all_goals
     clear bm;gi_wp2_with(first
      |(gi_at_builtin;refine eP _ rfl (.tmp 25) (.tmp 26) 88 rfl (z (G l)) 170 i0 vP 4 48 underlying88 bh bo bp bq rfl (by decide) (.slice ex (y u) ec) (y u) (aI u) rfl t (R ao (f+an*4)) _ bT (aI gj) rfl (by rw[fH,af C]) av (SU gj) (by omega) (by omega) al ?_;intro v5 w5 K L;obtain⟨x5,c5,bn⟩:=aC K;subst bn;have E:eG w5 (z (G a)) (.slice ex (y u) ec) 88:=(L.grown.block _ bk (λca=>by have:=(t.lt _ ca.symm).1;omega)).trans O;have cn:=E.cell;have co:=E.free;have ax:=Y K;have aU:=Y L;clear K L E))
     obtain⟨B2,r1,r2,r3⟩:=au.more (xs:=gj) (by omega) O (I.refl _ _) aU (by rw[af C];exact ax);refine⟨trivial,B2,?_,(aD.mono<|λk b=>.inl<|.inr b).trans r2<|λk b=>.inl<|.inl b,r2.block lr (by omega) ba,λk b=>(r3 k b).imp_right<|λv=>by omega⟩;show rm l _ _ (gI<|ie<|j++[(an,s)]) B2 _;rw[sP,(af HK).bare,af aF,X];exact r1
   .have g2:=B _ _ (eh s r hp).2.2.1;rw[hd,<-bF]at g2;have C:=Y<|P.trans<|Pe hp hd;clear hd;have e2:(0:U)<=(r:U):=by omega
    have e3:(r:U)<(r:U)+1:=by omega
    have e4:(0:U)<(r:U)+1:=by omega
    have E:(r:U)<=(bT:U):=by omega
    gi_wp2;exact⟨⟨r,by omega,rfl,C⟩,by simp[XV]⟩
 (case done=>intro x br aV s n o _ r;obtain⟨lv,i,g,w⟩:=n.row;rw[Aj]at g;obtain⟨ex,ec,F⟩:=aC g;have bl:=i.cell;obtain⟨HA,t,f,HK⟩:=fX n g w r;have u:=ar r;clear n i g w r;subst F;gi_wp2;have c:=gZ aV x<|.deferred none;refine⟨by simp,.inl ⟨_,_,rfl,run_takeDeferred HK,?_⟩⟩;refine⟨_,jP rfl _ _ _,?_⟩;have hx:=c.own t<|λk b v=>o<|(f x).2<|.inr (by rw[<-v];exact b);refine⟨_,rfl,fM hx (by omega),ac.trans (HA.ap.trans c<|λk b=>.inr (by subst b;omega))<|λk b=>.inr (by rcases b with v|v<;>omega)⟩)
end
