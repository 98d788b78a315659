import Derived.Shelf.Pu.ParseUintPublic10
import Derived.Test.YtgbhcncpienkcaaGreatDoorC5
import Derived.Test.YtgbhcncpienkcaaGreatDoorC6
open _root_ renaming List.length→y,Option.some→H,Array.size→z,Go.World.heap→G,Go.Value.ownBlock→ct,Go.World.cell?→aO,Go.World.setCell→cA,Go.World.alloc→cF,Bool.false→aY,Bool.true→bU,Nat→M,Int→Z,List→cw,Go.Calls→cD,Go.undef→ix,Go.Proofs.Tryz.prog→bz,Go.Value.slice→J,Go.Value.string→aj,Go.Value.bool→aK,Go.Value.pointer→fj,Go.Value.tuple→dw,Go.Value.agg→dW
namespace Go.Proofs.YtgbhcncpienkcaaGreatDoor
open ChangeShapes WideShapes RowKit Proofs.Tryz List
set_option maxHeartbeats 16000000
set_option linter.all false
set_option maxRecDepth 100000
variable{a f C:Y}{b c g l A:M}{d u:aa}{e:cJ}{i o r s:cf}{j:DK}{k:dL}{m K S:Z}{n:SR}{p:eO}{W:ab}{x:iC}{D:Bool}{F:jN}{V:Array aa}
structure Za(w0 w:Y)(rb:M)(l:cJ)(o:aa)(m:M):Prop where
 own:w.ownsRow (z<|G w0) 180 4 o m (aF<|l.take m)
 rd:Rd w rb ((l.drop m).flatMap oe) aY
 aw:I az w0 w
 Vc:z (G w0)<=rb
 wN:∀k,ct o=H k->rb<k
def FA(h:∀x∈e,x.Good):kE (e.flatMap oe):=by
 intro x a;obtain⟨c,b,a⟩:=mD.1 a;exact AR (h c b) x a
def Eg(cp k al:M)(l:cJ)(bh:Z)(w:Y)(hg:∀P∈l,P.Good)(hn:∀P∈l,P.bP=bh)(bT:0<=bh)(ca:bh<18446744073709551616)(h1:1<=y l)(h8:y l<=8)(hb:Bytes w (bB cp k (y<|iG bh l) al) (iG bh l)):cD bz 182 #[bB cp k (y<|iG bh l) al,aJ bh] w λch w'=>
 ∃a,ch=aL (dw #[a,aK bU])/\w'.ownsRow (z<|G w) 180 4 a (y l) (aF l)/\I az w w':=by
 obtain⟨i0,av,bd,bf,bg⟩:=cH oh
 have bx:=pN hg
 have bv:cp<z (G w):=hb.lt (by unfold iG;simp_all) cp rfl
 have F:=nr hb (by intro o e;cases e;exact bv)
 obtain⟨ac,hN⟩:∃ac,y l=ac:=⟨_,rfl⟩
 obtain⟨BL,an⟩:∃BL,y (iG bh l)=BL:=⟨_,rfl⟩
 rw[an]at F|-
 have ck:∀(P:Bool)(w:Y),(Op.unary .not<|aK P).run bz w=.ok (aK<|!P) w:=λ_ _=>rfl
 obtain⟨Q,HG,bk⟩:=dA hN hg hn
 rw[hN]at h1 h8
 clear hb hg hn an hN
 go_in
 go_wp2_with fail
 apply F.mono
 rintro ch w1⟨rfl,t,K⟩
 have bc:I az w w1:=by rw[K];exact(cK _ w)
 have cm:z (G w)<z (G w1):=by rw[K];simp
 have r:=FA HG
 have cj:y (l.flatMap oe)<=280:=by rw[ae Q]at bx;omega
 have ax:=AH (z<|G w) bh ((ac:Z)::l.flatMap oe) w1 (by have h:=t;unfold iG at h;rw[ae Q]at h;exact h) (by intro P N;rcases bH.1 N with rfl|N;omega;exact r P N) (by rw[aS];omega) bT ca
 have br:=U bc
 clear t K bc F
 go_wp2_with fail
 apply ax.mono
 rintro ch w2⟨rfl,u,B⟩
 have aq:=YE (z<|G w) (ac:Z) w2 u r (by omega) (by omega)<|by omega
 have cn:=B.size
 have bl:=U B
 clear u B ax
 go_wp2_with fail
 apply aq.mono
 rintro ch w3⟨rfl,v,C⟩
 have bq:=U v
 have co:=C.size
 have bm:=U C
 clear v C aq
 have e1:¬((ac:Z)<1):=by omega
 have e2:¬((8:Z)<(ac:Z)):=by omega
 go_wp2_with(first
  |(at_make;go_loud(refine jJ _ rfl _ _ 96 rfl (z (G w)) 180 i0 xe 4 underlying96 av bd bf _ _ _ ac rfl rfl (by omega) (by rw[bg];omega) (by unfold maxLen;omega) (by omega) ?_;intro w4 s p;have bn:=U s;have A:=U p;clear s p)))
 have cv:=A.size
 have hA0:Za w w4 (z<|G w) l (bB (z<|G w3) 0 0 ac) 0:=by
  have a:I (λo=>o=z (G w)) w1 w3:=(fm bl).trans (fm bm)<|λ_ h=>.inl h;have b:I az w w3:=br.trans a (λo e=>.inr<|by omega);refine⟨bn,bq.laid A,b.cr (I.dJ (S:=az) A<|by simp),ai _,?_⟩;intro o e;simp[ct]at e;omega
 have bi:=U hA0
 clear hA0
 go_loopw [8,28] (λo i wr=>∃m:M,m<=ac/\i=tL m/\Za w wr (z<|G w) l o m) (λ_ i _=>ac-(intOf i).toNat)
 case atStart=>exact⟨0,bj _,rfl,bi⟩
 case round=>
  obtain⟨m,hm,rfl,d⟩:=hrel;have c:=d.own;obtain⟨ox,oc,ho⟩:=aA c;have cu:=d.aw.size;have cl:=d.rd.lt;have HA:=U d;by_cases ba:m<ac
  .have g:m<y l:=by rw[ae Q];exact ba
   have n:=HG l[m]<|ak g;have ao:=bk l[m]<|ak g;have f:=d.rd;rw[aZ g,dF]at f;have q:kE ((l.drop<|m+1).flatMap oe):=FA<|λP N=>HG P<|dK N;have D:y ((l.drop<|m+1).flatMap oe)<=280:=by
    have L:=pN (l:=l.drop<|m+1)<|λP N=>HG P<|dK N;grind[ae]
   have cq:=CL n;have b:=He (z<|G w) ((l.drop<|m+1).flatMap oe) wr f ((AR n).append q) (by grind) n;have bt:=U (show aF (l.take m)++aF [l[m]]=aF (l.take<|m+1)by rw[<-fQ,ah g]);clear d c f q D n;generalize l[m]=P at*;obtain⟨W,X,V,T⟩:=P;simp only at b ao;subst ao;unfold E.value at b;simp only at b;subst ho;go_wp2_with fail
   apply b.mono;rintro ch O⟨rfl,bb,au⟩;have i:I (λo=>o=z (G w)) wr O:=fm au;have j:=aN (aN (i.own HA.own (λo e c=>by have:=HA.wN o e;omega))<|ar #[aj W,aj X,aK V,aJ T] 180)<|ar #[aj W,aj X,aK V,aJ T] 180;have cs:=i.size;obtain⟨ad,bs,bp⟩:=dA j i bb;clear bb au j i;go_wp2_with(first
    |(at_builtin;go_loud(refine bO _ rfl (.tmp 39) (.tmp 41) 96 rfl (z (G w)) 180 i0 xe 4 48 underlying96 av bd bf bg rfl (by decide) (.slice ox m oc) m (aF (l.take m)) rfl ad (R (z (G O)+1) 0) 1 1 (aF [⟨W,X,V,T⟩]) rfl rfl (yQ ⟨W,X,V,T⟩ _ (by simp)) (BQ _) (by omega) (by omega) (by simp;omega) ?_;intro o2 w6 a x;have bo:=U a;have bu:=U x;clear a x)))
   go_roundw;case rel=>
    refine⟨m+1,ba,by go_num,?_⟩;have d:=ae HA;have i:=ae bs;have L:=ae bu;have a:=ae bo;have cb:=d.own.lt;have ce:I (λo=>ct (J ox m oc)=H o) O w6:=(((I.refl (λo=>ct (J ox m oc)=H o) O).alloc _).alloc _).trans (I.eT L)<|λo e=>.inl e;refine⟨by rw[<-ae bt];exact a,?_,(d.aw.trans i<|λo e=>.inr<|by omega).trans ce<|λo e=>.inr (cb o e).1,d.Vc,?_⟩
    .have hr:=ae bp;have cc:=hr.laid<|dt O (ar #[aj W,aj X,aK V,aJ T] 180) none;have cd:=cc.laid<|dt _ (ar #[aj W,aj X,aK V,aJ T] 180) none;exact cd.wrote L d.wN
    .intro o e;rcases L.ur with cc|⟨cd,cc,hy⟩
     .exact d.wN o<|cc.symm.trans e
     .rw[cc]at e;cases e;simp at hy;omega
   case measure=>simp[intOf];omega
  .have j:m=ac:=by omega
   subst j;have g:l.take m=l:=by rw[<-ae Q,aX]
   have b:l.drop m=[]:=by rw[<-ae Q,gh]
   have f:=d.rd;rw[b]at f;have a:=ye f (by simp);simp only[uU,qV,nI,ux]at a;rw[ho,g]at c;have n:=U c;have i:=U d.aw;clear d c f b g;subst ho;go_wp2_with fail
   apply a.mono;rintro ch O⟨rfl,q⟩;subst O;go_wp2;go_ret2
   exact⟨_,rfl,by rw[ae Q];exact n,i⟩
def lM:Z->dL->eO
 |_,[]=>[]
 |f,l::r=>Dv f l++lM (f+1) r
structure Gg(f:Z)(ls:dL):Prop where
 iX:∀l∈ls,∀x∈l,x.Good
 num:∀i(hi:i<y ls),∀x∈ls[i],x.bP=f+i
 one:∀l∈ls,1<=y l/\y l<=8
 sum:(ls.map y).sum<32
 f0:0<=f
 f1:f+y ls<18446744073709551616
def CK{n:Z}(h:∀x∈e,x.Good)(a:y e<=8):y (Dv n e)<=400:=by
 have:=pN h;unfold Dv iG;grind[length_append,gy,cC,length_cons]
def ue{f:Z}{lsqq:dL}(h:∀l∈lsqq,(∀x∈l,x.Good)/\y l<=8):y (lM f lsqq)<=400*y lsqq:=by
 induction lsqq generalizing f with
 |nil=>simp[lM]
 |cons l r b=>
  have a:=CK (n:=f) (h l<|by simp).1 (h l<|by simp).2;have c:=b (f:=f+1) (λx a=>h x<|by simp[a]);rw[lM,af,aS];omega
def Ej(h:∀l∈k,1<=y l):y k<=(k.map y).sum:=by
 induction k with
 |nil=>simp
 |cons l r b=>
  have a:=h l (by simp);have c:=b (λx a=>h x<|by simp[a]);grind
def QA(w:Y)(b:M)(c:iC)(a:dL):Prop:=y c=y a/\∀i(d:i<y c)(e:i<y a),w.ownsRow b 180 4 c[i] (y a[i])<|aF a[i]
def Tw:(prog.info? 96).map (λi=>(i.zero,i.size,i.bytes))=H (H aD,1,24):=by kernel_rfl
structure NP(w0 w:Y)(f:Z)(ls:dL)(b zqq c m:M)(o:aa)(vs:iC):Prop where
 box:w.heap[z (G w0)+1]?=H (ar #[o,aK aY] 212 (0,0))
 NZ:w.heap[z<|G w0]?=H (ar #[aD,aK aY] 212 (0,0))
 own:w.ownsRow (z (G w0)+2) 96 1 o m vs
 j4:QA w (z (G w0)+2) vs (ls.take m)
 bytes:Bytes w0 (bB b zqq (y<|lM (f+m)<|ls.drop m) c) (lM (f+m)<|ls.drop m)
 cap:y (lM (f+m)<|ls.drop m)<=c/\c<=9223372036854775807
 aw:I az w0 w
def Gp(h:b<y k):((k.take<|b+1).map y).sum=((k.take b).map y).sum+y k[b]:=by
 rw[ah h,aQ,eR];simp
def Lg(a:dL)(m:M):((a.take m).map y).sum<=(a.map y).sum:=by
 have h:=bX (λl=>(l.map y).sum)<|bN m a;grind
def NP.step{c K w1 w2:Y}{N D L z' c' g:M}{p o2 bv:aa}{h:Obj}(q:NP c K m k N D L g p x)(hm:g<y k)(l:I az K w1)(P:w1.ownsRow (z<|G K) 180 4 bv (y k[g]) (aF k[g]))(F:w2.ownsRow (z (G c)+2) 96 1 o2 (g+1) (x++[bv]))(X:eL (cF w1 h) w2 p o2)(s:Bytes c (bB N z' (y<|lM (m+(g+1:M))<|k.drop<|g+1) c') (lM (m+(g+1:M))<|k.drop<|g+1))(t:y (lM (m+(g+1:M))<|k.drop<|g+1)<=c'/\c'<=9223372036854775807):NP c (cA w2 (R (z (G c)+1) 0) o2) m k N z' c' (g+1) o2 (x++[bv])/\aO w2 (R (z (G c)+1) 0)=H p/\w2.frozen? (R (z (G c)+1) 0)=aY:=by
 have hz:=am q.box;have ac:=q.aw.size;have f:=aG q.own;have n:I (λb=>ct p=H b) w1 w2:=((I.refl (λb=>ct p=H b) w1).alloc h).trans (I.eT X)<|λ_ a=>.inl a;have w:I (λb=>ct p=H b) K w2:=(l.mono (T:=λb=>ct p=H b) cO).trans n<|λ_ a=>.inl a;have o:∀b,ct p=H b->∃i,K.heap[b]?=H (ar i 96 (0,0)):=λb a=>fR q.own a;have e:w2.heap[z (G c)+1]?=H (ar #[p,aK aY] 212 (0,0)):=(w.block _ hz (λO=>by have:=(f _ O).1;omega)).trans q.box;have d:I (λb=>b=z (G c)+1) w2 (cA w2 (R (z (G c)+1) 0) o2):=(I.refl _ w2).setCell _ 0 _<|.inl rfl;refine⟨⟨?_,?_,?_,?_,s,t,?_⟩,by rw[bL e];rfl,dE e⟩;have:=aT (i:=0) (u:=o2) e;grind
 exact(iw _<|by omega).trans<|(w.block _ (am q.NZ) (λO=>by have:=(f _ O).1;omega)).trans q.NZ;exact d.own F (λb a L=>by have:=(aG F b a).1;omega);obtain⟨v1,v2⟩:=q.j4;(have A:y x=g:=by rw[v1];simp;omega);refine⟨by grind,λr h1 h2=>?_⟩;(have B:∀(V:Y)(al:aa)(ad:M)(C:iC),V.ownsRow (z (G c)+2) 180 4 al ad C->I (λb=>ct p=H b) V w2->(∀b,ct p=H b->∃i,V.heap[b]?=H (ar i 96 (0,0)))->(cA w2 (R (z (G c)+1) 0) o2).ownsRow (z (G c)+2) 180 4 al ad C:=by intro V al ad C W v S;have j:=v.own W (λb a L=>by grind[fR,lL]);exact d.own j (λb a L=>by have:=(aG j b a).1;omega));rcases gU r g with Q|Q;(have E:(x++[bv])[r]=x[r]'(by omega):=uv (by omega);grind);(have v:r=g:=by grind);subst v;(have E:(x++[bv])[r]=bv:=by rw[tI<|by omega];simp[A]);have C:(k.take<|r+1)[r]=k[r]:=lC;rw[E,C];refine B w1 _ _ _ (er P<|by omega) n<|λb a=>?_;obtain⟨i,j⟩:=o b a;exact⟨i,(l.block b (am j) id).trans j⟩;exact(q.aw.trans w<|λb a=>.inr (by have:=(f b a).1;omega)).trans d<|λb a=>.inr<|by omega
def LM{c:Func}{p u:Tmp}(j:c.results=#[.cell p 212,.tmp u])(a:Array aa)(w:Y)(g:M)(x:Option Addr)(n k:M)(e:Bool)(t:TypeId)(d:M×M)(i:a.getD p ix=ay g)(f:w.heap[g]?=H (ar #[J x n k,aK e] t d)):(results c a).run bz w=.ok (dw #[dW #[J x n k,aK e],a.getD u ix]) w:=by
 have b:a[p]?.getD ix=ay g:=by simpa using i
 have h:=kJ (P:=bz) w g t 212 #[J x n k,aK e] d _ f underlying212 rfl (by kernel_rfl);simp[results,j,b,asAddr,h,Result.andThen]
def Bytes.back(n:Bytes f (bB b c g l) p)(j:I az a f)(h:b<z (G a)):Bytes a (bB b c g l) p:=by
 rcases n with⟨e,_⟩|⟨k,o,m,e,d,i⟩;cases e;cases e;exact .inr ⟨_,_,_,rfl,d,λk e=>(cR (w:=a)<|j.block _ h id).symm.trans<|i k e⟩
def UQ:aa->M
 | .slice _ n _=>n
 |_=>0
def RV(x:Option Addr)(n c:M):UQ (J x n c)=n:=rfl
def St(f:Z)(a:dL)(m:M)(h:m<y a):lM (f+(m:M)) (a.drop m)=iM (le 4 (y<|iG (f+(m:M)) a[m])++le 4 (ng<|iG (f+(m:M)) a[m]))++iG (f+(m:M)) a[m]++lM (f+((m+1:M):M)) (a.drop<|m+1):=by
 rw[aZ h,lM];unfold Dv;grind
def JL(ba d n:M)(hT:Steps a)(hP:Gg m k)(bq:y (lM m k)<=n)(co:n<=9223372036854775807)(N:ba<z (G a))(hb:Bytes a (bB ba d (y<|lM m k) n) (lM m k)):cD bz 109 #[bB ba d (y<|lM m k) n,aJ m] a λca w'=>
 ∃ds bc F,ca=aL (dw #[dW #[J ds (y k) bc,aK aY],aK bU])/\w'.ownsRow (z (G a)+2) 96 1 (J ds (y k) bc) (y k) F/\QA w' (z (G a)+2) F k/\I az a w':=by
 obtain⟨i0,cq,cx,cB,cE⟩:=cH Tw
 have dm:∀(ds:Bool)(a:Y),(Op.unary .not<|aK ds).run bz a=.ok (aK<|!ds) a:=λ_ _=>rfl
 have dk:y k<32:=Nat.lt_of_le_of_lt (Ej<|λl Q=>(hP.one l Q).1) hP.sum
 have dT:=hP.f0
 have ea:=hP.f1
 obtain⟨RL,ad⟩:∃RL,y (lM m k)=RL:=⟨_,rfl⟩
 have hA0:NP a (cF (cF a<|ar #[aD,aK aY] 212)<|ar #[aD,aK aY] 212) m k ba d n 0 aD []:=by
  refine⟨aB _ (by simp),(gl _<|by simp).trans<|aB _ rfl,bK _ _ _ _,⟨rfl,λcb h1=>absurd h1<|ft cb⟩,?_,?_,(cK _ a).alloc _⟩
  .simpa using hb
  grind
 obtain⟨bd,HT,V,cl⟩:=gH hA0 hT hP ad
 rw[ad]
 clear hA0 hT hP hb bq co ad
 go_in
 go_wp2
 go_loopw [0,7] (λbv b wr=>∃j e bb eg F,j<=y k/\bv=bB ba e (y<|lM (m+(j:M))<|k.drop j) bb/\b=ap (((k.take j).map y).sum:M)/\NP a wr m k ba e bb j eg F) (λbv _ _=>UQ bv)
 case atStart=>exact⟨0,d,n,_,_,bj _,by rw[<-ae cl];simp,rfl,bd⟩
 case round=>
  obtain⟨j,e,bb,eg,F,hm,rfl,rfl,c⟩:=hrel;have ax:∀ac,I az wr ac->Steps ac:=λac hW=>HT.below ((c.aw.cr hW).below (ai _) cO) HT.lt;obtain⟨s,r,ho⟩:=aA c.own;have v:=cellAt c.box 0 rfl;have dx:=cellAt c.box 1 rfl;have ec:=c.aw.size;have bT:=am c.box;by_cases p:j<y k
  .have S:=ak p;have B:=V.iX _ S;have C:=V.num j p;have D:=V.one _ S;have E:=Gp p;have bs:=Lg k<|j+1;have cv:=V.sum;have br:=St m k j p;have o:=c.bytes;have g:=c.cap;have av:=ue (f:=m+((j+1:M):Z)) (lsqq:=k.drop<|j+1)<|λl Q=>⟨V.iX l<|dK Q,(V.one l<|dK Q).2⟩;have cp:y (k.drop<|j+1)<=32:=by simp;omega
   rw[br]at o g|-;have HA:=U c;obtain⟨l,Q⟩:∃l,k[j]=l:=⟨_,rfl⟩;rw[Q]at B C D E o g|-;have ce:=U Q;obtain⟨q,hq⟩:∃q:Z,m+(j:M)=q:=⟨_,rfl⟩;rw[hq]at C o g|-;have cs:0<=q:=by omega
   have cu:q<18446744073709551616:=by omega
   obtain⟨b,an⟩:∃b,lM (m+((j+1:M):Z)) (k.drop<|j+1)=b:=⟨_,rfl⟩;rw[an]at o g av|-;have cn:y (iG q l)<=1000:=by have:=pN B;unfold iG;rw[af,aS,cC];omega
   have L:0<y (iG q l):=by unfold iG;rw[af,cC];omega
   have t:y (iM (le 4 (y<|iG q l)++le 4 (ng<|iG q l))++iG q l++b)=12+y (iG q l)+y b:=by grind[length_append,gy,cC]
   have O:Bytes wr (bB ba e (y<|iM (le 4 (y<|iG q l)++le 4 (ng<|iG q l))++iG q l++b) bb) (iM (le 4 (y<|iG q l)++le 4 (ng<|iG q l))++iG q l++b):=o.below (c.aw.below (ai _) cO) (λbc P=>by cases P;exact N);have hcut:=MD ba e bb _ (iG q l) b (w:=wr) (ax wr<|I.refl _ _) L (by omega) (by omega) t g.1 g.2 O;have i:=c.own;rw[ho]at i v;have ck:=U i;obtain⟨LL,bm⟩:∃LL,y (iM (le 4 (y<|iG q l)++le 4 (ng<|iG q l))++iG q l++b)=LL:=⟨_,rfl⟩;rw[bm]at hcut t|-;obtain⟨K,A⟩:∃K,y l=K:=⟨_,rfl⟩;obtain⟨BL,x⟩:∃BL,y (iG q l)=BL:=⟨_,rfl⟩;have bk:=U<|λ(ac:Y)(hW:I az wr ac)(ao:Bytes ac (bB ba (e+12) BL<|bb-12) (iG q l))=>Eg ba (e+12) (bb-12) l q ac B C cs cu D.1 D.2 (by rw[x];exact ao);have T:∀ac,I az wr ac->Bytes ac (bB ba (e+12) BL<|bb-12) (iG q l)->cD bz 182 #[bB ba (e+12) BL<|bb-12,aJ q] ac λca w'=>∃a,ca=aL (dw #[a,aK bU])/\w'.ownsRow (z<|G ac) 180 4 a K (aF l)/\I az ac w':=by
    intro ac hW ao;have h:=bk ac hW ao;rw[x,A]at h;exact h
   have bl:=U T;have ch:=U A;rw[x]at hcut t;obtain⟨RN,al⟩:∃RN,y b=RN:=⟨_,rfl⟩;rw[al]at hcut t av;rw[A]at E D;obtain⟨S0,bn⟩:∃S0,((k.take j).map y).sum=S0:=⟨_,rfl⟩;rw[bn]at E|-;obtain⟨cm,X,W,HQ⟩:=gH E an al hq;have db:(0:Z)<(LL:Z):=by omega
   have a1:IntKind.u64.wrap (j:Z)=j:=by rw[gZ];omega
   have a2:IntKind.u64.wrap q=q:=by rw[gZ];omega
   have a3:IntKind.i64.wrap ((S0:Z)+(K:Z))=(S0:Z)+K:=by rw[bw];omega
   have a4:¬((32:Z)<=(S0:Z)+(K:Z)):=by omega
   have a5:m+(j:Z)=q:=hq;have he:∀(b:Addr)(n bc:M)(a:Y),(binOp .eql 135 (J (H b) n bc) aD).run bz a=.ok (aK aY) a:=λ_ _ _ _=>rfl;have bf:=U (show RN<LL by omega);clear ax c B C bs cv br o g av cp Q hq an cn L t O bm A x T i al bn bk;subst ho;go_wp2_with fail
   apply hcut.mono;rintro ca w1⟨z',c',rfl,g1,g2,bo,bp,w⟩;have dc:aO w1 (R (z (G a)+1) 0)=H (J s j r):=w.cell v id bT;have bu:=bl w1 w<|bo.below (w.below (ai _) cO) (λbc P=>by cases P;show ba<z (G wr);omega);have bh:=U w;have cd:=U bp;clear bo bp w hcut;go_wp2_with fail
   apply bu.mono;rintro ca w2⟨bv,rfl,au,bt⟩;obtain⟨cT,cM,rfl⟩:=aA au;have f:I az wr w2:=bh.cr bt;have dd:aO w2 (R (z (G a)+1) 0)=H (J s j r):=f.cell v id bT;have dn:=f.size;obtain⟨bg,cj,bi⟩:=dA (f.own ck<|λ_ _ bb=>bb) (er au bh.size) f;clear au bt f bu;go_wp2_with(first
    |(at_builtin;go_loud(refine bO _ rfl (.tmp 50) (.tmp 52) 210 rfl (z (G a)+2) 96 i0 aD 1 24 underlying210 cq cx cB cE rfl (by decide) (.slice s j r) j F rfl (aN bg _) (R (z (G w2)) 0) 1 1 [.slice cT K cM] rfl rfl (pT _ _ _) (by simp[Value.oneCell']) (by omega) (by omega) (by simp;omega) ?_;intro o2 w3 aq bx;obtain⟨hA3,dv,eb⟩:=HA.step (z':=z') (c':=c') (w1:=w2) (w2:=w3) (o2:=o2) (bv:=.slice cT K cM) p bi (by rw[ae ce];have h:=ae cj;have ca:=ae ch;rw[<-ca]at h;rw[ca];rw[ca]at h;exact h) aq bx (by rw[ae X];have hh:=cd.back HA.aw N;rw[<-ae W]at hh;exact hh) (by rw[ae X,ae W];simp_all);obtain⟨ef,ed,rfl⟩:=aA aq;have cc:=U hA3;clear aq bx hA3)))
   go_roundw;case rel=>exact⟨j+1,z',c',_,_,p,by rw[ae X,ae W],by rw[ae cm];go_num,cc⟩
   case measure=>
    simp only[RV];exact bf
  .have i:j=y k:=by omega
   have w:k.drop j=[]:=by rw[i,gh]
   have x:k.take j=k:=by rw[i,aX]
   have D:z (G a)<z (G wr):=am c.NZ;have S:=cellAt c.NZ 0 rfl;have T:=cellAt c.NZ 1 rfl;have W:=dE (i:=0) c.NZ;have X:=dE (i:=1) c.NZ;have f:=c.own;have b:=c.j4;have A:=c.aw;have o:=c.NZ;rw[ho]at f v;rw[x]at b;rw[i]at f v;rw[w];show Code.wp _ _ _ _ _;have t:=U (show(cA (cA wr (R (z<|G a) 0)<|J s (y k) r) (R (z<|G a) 1)<|aK aY).heap[z<|G a]?=H (ar #[J s (y k) r,aK aY] 212 (0,0))/\(cA (cA wr (R (z<|G a) 0)<|J s (y k) r) (R (z<|G a) 1)<|aK aY).ownsRow (z (G a)+2) 96 1 (J s (y k) r) (y k) F/\QA (cA (cA wr (R (z<|G a) 0)<|J s (y k) r) (R (z<|G a) 1)<|aK aY) (z (G a)+2) F k/\I az a (cA (cA wr (R (z<|G a) 0)<|J s (y k) r) (R (z<|G a) 1)<|aK aY)from by
    have g:I (λbc=>bc=z (G a)) wr (cA (cA wr (R (z (G a)) 0) (J s (y k) r)) (R (z (G a)) 1) (aK aY)):=(gW (z (G a)) wr).setCell (z (G a)) 1 _ (.inl rfl);refine⟨?_,g.own f (λbc P bb=>by have:=(aG f bc P).1;omega),⟨b.1,λcb h1 B=>g.own (b.2 cb h1 B) (λbc P bb=>by have:=(aG (b.2 cb h1 B) bc P).1;omega)⟩,A.trans g (λbc P=>.inr (by omega))⟩;have B:=aT (i:=1) (u:=aK aY) (aT (i:=0) (u:=J s (y k) r) o);simpa using B)
   subst i;clear c ax f b A o w x bd V;subst ho;have C:y (lM (m+(y k:M)) [])=0:=rfl;rw[C];go_wp2;obtain⟨E,K,L,O⟩:=ae t;refine cP (LM rfl _ _ (z<|G a) s (y k) r aY _ _ rfl E) rfl ?_;exact⟨s,r,F,rfl,K,L,O⟩
structure Xv(w0 w:Y)(x:M)(ob:Obj)(o:aa)(bs:eO):Prop where
 own:eP w (z<|G w0) o bs
 box:w.heap[x]?=H ob
 ne:ct o≠H x
 aw:I az w0 w
def Xv.wrote{j:Obj}{c:eO}(h:Xv a f b j d p)(i:eL f C d u)(l:eP C (z<|G a) u c):Xv a C b j u c:=by
 have e:=am h.box;have g:=I.eT i;refine⟨l,(g.block b e h.ne).trans h.box,λk=>?_,h.aw.trans g<|λq k=>.inr (h.own.lt q k).1⟩;rcases i.ur with n|⟨m,n,o⟩;exact h.ne<|n.symm.trans k;grind
def uM(t:bA):eO:=le 8 t.num++(le 4 (y<|dG t.cs)++(le 4 (y<|fo t.ks)++le 4 (ng<|fo t.ks)))
def se(a:cf):eO:=le 4 (y a)++a.flatMap uM
def iH(next b a:Z)(c:cw cf):eO:=iM<|le 8 next++le 8 b++le 8 a++(c.map se).flatten
def Nl(t:bA):y (uM t)=20:=by simp[uM,cC]
theorem pP(a:cf):y (se a)=4+20*y a:=by
 unfold se;rw[af,cC];induction a with
 |nil=>rfl
 |cons t r b=>rw[dF,af,Nl,aS];omega
structure bA.oD(t:bA):Prop where
 num:t.num<18446744073709551616
 d:y (dG t.cs)<4294967296
 i:y (fo t.ks)<4294967296
def Ii(a:cf)(n j:M)(h:n<y a)(d:j<4):(dy a)[n*4+j]?=(bA.wq a[n])[j]?:=by
 have e:∀(l:cf),y (dy l)=y l*4:=by
  intro l;induction l with
  |nil=>rfl
  |cons t r b=>unfold dy at*;rw[dF,af,b];simp[bA.wq];omega
 have f:dy a=dy (a.take n)++(bA.wq a[n]++dy (a.drop<|n+1)):=by(have b:a=a.take n++a[n]::a.drop (n+1):=by rw[<-aZ h,bN]);have c:dy a=dy (a.take n++a[n]::a.drop (n+1)):=bX dy b;rw[c];unfold dy;rw[gd,dF]
 grind
def PX(next g c:Z)(P Q S T:Option Addr)(K c1 c2 c3:M)(m0 m1 m2 m3:cf)(hT:Steps a)(r0:Row a 4 (J P (y m0) K) (y m0) (dy m0))(r1:Row a 4 (J Q (y m1) c1) (y m1) (dy m1))(r2:Row a 4 (J S (y m2) c2) (y m2) (dy m2))(r3:Row a 4 (J T (y m3) c3) (y m3) (dy m3))(b0:∀k,ct (J P (y m0) K)=H k->k<z (G a))(b1:∀k,ct (J Q (y m1) c1)=H k->k<z (G a))(b2:∀k,ct (J S (y m2) c2)=H k->k<z (G a))(b3:∀k,ct (J T (y m3) c3)=H k->k<z (G a))(k0:∀bi∈m0,bi.oD)(k1:∀bi∈m1,bi.oD)(k2:∀bi∈m2,bi.oD)(k3:∀bi∈m3,bi.oD)(hn:0<=next/\next<18446744073709551616)(hl:0<=g/\g<18446744073709551616)(hb:0<=c/\c<18446744073709551616)(hs:y m0+y m1+y m2+y m3<=1000000):cD bz 229 #[dW #[aJ next,aJ g,aJ c,J P (y m0) K,J Q (y m1) c1,J S (y m2) c2,J T (y m3) c3]] a λC w'=>∃v',C=aL v'/\eP w' (z<|G a) v' (iH next g c [m0,m1,m2,m3])/\I az a w':=by
 obtain⟨OB,L⟩:∃OB:Obj,OB=ar #[aJ next,aJ g,aJ c,J P (y m0) K,J Q (y m1) c1,J S (y m2) c2,J T (y m3) c3] 202:=⟨_,rfl⟩;have t:∀(cq:Y)(bh:M)(cp:aa),cq.heap[z<|G a]?=H OB->(#[aJ next,aJ g,aJ c,J P (y m0) K,J Q (y m1) c1,J S (y m2) c2,J T (y m3) c3]:Array aa)[bh]?=H cp->aO cq (R (z<|G a) bh)=H cp:=by grind[bL]
 have hA0:Xv a (cF a OB) (z<|G a) OB aD []:=⟨eP.nil _ _,aB _ rfl,(by intro C;cases C),(cK _ a)⟩;have p1:=pG next hA0.own hA0.aw.size (by simp) hn.1 hn.2
 obtain⟨bk,l,HT,cc,cd,ce,ch,bn⟩:=FB hA0 t hT r0 r1 r2 r3 b0;obtain⟨bo,bp,bq,bv,bx,bT,ca,cb⟩:=FB b1 b2 b3 k0 k1 k2 k3 L;rw[L]at p1;clear hA0 t hT r0 r1 r2 r3 b0 b1 b2 b3 k0 k1 k2 k3 L;go_in
 go_wp2_with fail
 apply p1.mono;rintro C w1⟨v1,rfl,ac,N⟩;rw[<-ae cb]at N;have hA1:=bk.wrote N ac;have d1:=l w1 1 _ hA1.box rfl;have p2:=pG g hA1.own hA1.aw.size (by simp[cC]) hl.1 hl.2;have bl:=U hA1;clear hA1 ac N p1;go_wp2_with fail
 apply p2.mono;rintro C w2⟨v2,rfl,ad,ba⟩;have hA2:=bl.wrote ba ad;have d2:=l w2 2 _ hA2.box rfl;have p3:=pG c hA2.own hA2.aw.size (by simp[cC]) hb.1 hb.2;have bm:=U hA2;clear hA2 ad ba p2 d1;go_wp2_with fail
 apply p3.mono;rintro C w3⟨v3,rfl,al,bb⟩;have hA3:=bm.wrote bb al;have d3:=l w3 3 _ hA3.box rfl;have d4:=l w3 4 _ hA3.box rfl;have d5:=l w3 5 _ hA3.box rfl;have d6:=l w3 6 _ hA3.box rfl;have W:=U hA3.own;have cl:=U hA3.aw;clear hA3 al bb p3 d2;obtain⟨f,j⟩:∃f,(([]++le 8 next)++le 8 g)++le 8 c=f:=⟨_,rfl⟩;have cB:y f=24:=by rw[<-j];simp[cC]
 have X:=U j;rw[j]at W;clear j;go_wp2;go_loopw [3,21] (λdc bh wr=>∃k:M,k<=4/\bh=ap k/\eP wr (z<|G a) dc (f++(([m0,m1,m2,m3].take k).map se).flatten)/\I az a wr) (λ_ bh _=>4-(intOf bh).toNat)
 case atStart=>exact⟨0,bj _,rfl,by simpa using ae W,cl⟩
 (case round=>obtain⟨k,hk,rfl,i,m⟩:=hrel;have ax:=m.size;have av:=i.lt;(have s:∀k,y (f++(([m0,m1,m2,m3].take k).map se).flatten)<=30000000:=by intro k;(have h1:y ((([m0,m1,m2,m3].take k).map se).flatten)<=y ((([m0,m1,m2,m3]).map se).flatten):=by grind[Sublist.length_le,flatten_append,take_append_drop,sublist_append_left]);grind[pP,length_append]);rcases gU k 4 with cn|cn;(·(obtain⟨b,x,cM,HR,HB,HK,cx,v,cE⟩:∃(b:cf)(x:Option Addr)(cM:M),Hid (Row a 4 (J x (y b) cM) (y b)<|dy b)/\Hid (∀k,ct (J x (y b) cM)=H k->k<z (G a))/\Hid (∀bi∈b,bi.oD)/\y b<=1000000/\f++(([m0,m1,m2,m3].take<|k+1).map se).flatten=(f++(([m0,m1,m2,m3].take k).map se).flatten)++se b/\∀cq,(Instr.index 200 (dW #[J P (y m0) K,J Q (y m1) c1,J S (y m2) c2,J T (y m3) c3])<|ap k).run bz cq=.ok (J x (y b) cM) cq:=by(have d:k=0\/k=1\/k=2\/k=3:=by omega);rcases d with rfl|rfl|rfl|rfl;exact⟨m0,P,K,cc,bn,bv,by omega,by simp,λ_=>by kernel_rfl⟩;exact⟨m1,Q,c1,cd,bo,bx,by omega,by simp,λ_=>by kernel_rfl⟩;exact⟨m2,S,c2,ce,bp,bT,by omega,by simp,λ_=>by kernel_rfl⟩;exact⟨m3,T,c3,ch,bq,ca,by omega,by simp,λ_=>by kernel_rfl⟩);(have cT:(k:Z)<4:=by omega);have cs:=s k;have co:=s<|k+1;have ck:=U v;clear s v;generalize f++(([m0,m1,m2,m3].take k).map se).flatten=bs at*;have a1:=sR (n:=(y b:M)) (by omega) (by omega);have pw:=jL (y b:M) i ax (by omega) (by omega) (by omega);have F:=U m;clear i m;(go_wp2_with fail);apply pw.mono;rintro C w4⟨v4,rfl,u,w⟩;have D:=U u;have E:=U<|F.trans (I.eT w)<|λl j=>.inr (av l j).1;clear u w pw;go_wp2;(go_loopw [3,31] (λdc bh wr=>∃q:M,q<=y b/\bh=ap q/\eP wr (z<|G a) dc ((bs++le 4 (y b:M))++(b.take q).flatMap uM)/\I az a wr) (λ_ bh _=>y b-(intOf bh).toNat));(case atStart=>exact⟨0,bj _,rfl,by simpa using ae D,E⟩);(case round=>obtain⟨q,hq,rfl,d,e⟩:=hrel;have cu:=e.size;by_cases A:q<y b;(.obtain⟨_,⟨hx,h0⟩|⟨cv,O,dd,hx,_,hc⟩⟩:=ae HR;omega;(.cases hx;have cm:cv<z (G a):=HB cv rfl;have hg:∀l cp,l<4->(bA.wq b[q])[l]?=H cp->aO wr (R cv<|O+q*4+l)=H cp:=λl cp j a=>e.cell (by rw[aV];exact hc _ _<|(Ii b q l A j).trans a) id cm;have B:=HK _<|ak A;(have db:y ((bs++le 4 (y b:M))++(b.take q).flatMap uM)<=100000000:=by have h1:=pP<|b.take q;unfold se at h1;rw[af,cC]at h1;(have h2:y (b.take q)<=1000000:=by simp;omega);simp only[af,cC];omega);have cj:=U (show((bs++le 4 (y b:M))++(b.take q).flatMap uM)++(le 8 (b[q].num:M)++(le 4 (y<|dG b[q].cs)++(le 4 (y<|fo b[q].ks)++le 4 (ng<|fo b[q].ks))))=(bs++le 4 (y b:M))++(b.take<|q+1).flatMap uM from by rw[ah A,gd,<-bD];simp[uM]);have g0:=hg 0 _ (by omega) rfl;have g1:=hg 1 _ (by omega) rfl;have g2:=hg 2 _ (by omega) rfl;have g3:=hg 3 _ (by omega) rfl;have o1:=B.num;have o2:=B.d;have o3:=B.i;have o4:=zR<|fo b[q].ks;have o5:=Ci<|fo b[q].ks;clear hg B;simp only[jn]at g0 g1 g2 g3;generalize b[q].num=y0 at*;generalize y (dG b[q].cs)=y1 at*;generalize y (fo b[q].ks)=y2 at*;generalize ng (fo b[q].ks)=y3 at*;generalize((bs++le 4 (y b:M))++(b.take q).flatMap uM)=B0 at*;have hE:Xv a (cF wr<|ar #[aJ y0,dq y1,dq y2,dq y3] 289) (z<|G wr) (ar #[aJ y0,dq y1,dq y2,dq y3] 289) u3 B0:=⟨d.alloc _,aB _ rfl,λC=>by have:=(d.lt _ C).2;omega,e.alloc _⟩;have z1:=pG (y0:M) hE.own hE.aw.size (by omega) (by omega) (by omega);have HE:=U hE;clear hE d e;(go_wp2_with fail);apply z1.mono;rintro C w5⟨v5,rfl,an,bc⟩;have o:=HE.wrote bc an;have f1:=cellAt o.box 1 rfl;have z2:=jL (y1:M) o.own o.aw.size (by rw[af,cC];omega) (by omega) (by omega);have br:=U o;clear o an bc z1;(go_wp2_with fail);apply z2.mono;rintro C w6⟨v6,rfl,ao,bd⟩;have p:=br.wrote bd ao;have f2:=cellAt p.box 2 rfl;have z3:=jL (y2:M) p.own p.aw.size (by simp only[af,cC];omega) (by omega) (by omega);have bt:=U p;clear p ao bd z2;(go_wp2_with fail);apply z3.mono;rintro C w7⟨v7,rfl,aq,bf⟩;have r:=bt.wrote bf aq;have f3:=cellAt r.box 3 rfl;have z4:=jL y3 r.own r.aw.size (by simp only[af,cC];omega) o4 o5;have bu:=U r;clear r aq bf z3;(go_wp2_with fail);apply z4.mono;rintro C w8⟨v8,rfl,au,bg⟩;have V:=U<|bu.wrote bg au;clear au bg z4;go_wp2;go_roundw;(case rel=>refine⟨q+1,A,by go_num,?_,V.aw⟩;rw[<-ae cj];have h:=V.own;simpa using h);case measure=>simp[intOf];omega));(·(have p:q=y b:=by omega);subst p;rw[aX]at d;have r:=U d;have o:=U e;clear d e;go_wp2;go_roundw;(case rel=>refine⟨k+1,by omega,by go_num,?_,o⟩;rw[ae ck];have h:=ae r;unfold se;simpa using h);case measure=>simp[intOf];omega)));(·(obtain rfl:k=4:=by omega);have b:((4:M):Z)=4:=rfl;have d:=Eu (HT.below (m.below (ai _) cO) HT.lt) i ax (by have:=s 4;omega);have F:=U m;clear i m s;(go_wp2_with fail);apply d.mono;rintro C w4⟨v4,rfl,u,w⟩;have D:=U u;have E:=U<|F.trans (I.eT w)<|λl j=>.inr (av l j).1;clear u w;go_wp2;go_ret;refine⟨_,rfl,?_,E⟩;have h:=ae D;unfold iH iM;(have C:f++(([m0,m1,m2,m3].take 4).map se).flatten=le 8 next++le 8 g++le 8 c++([m0,m1,m2,m3].map se).flatten:=by rw[<-ae X];simp);rw[C]at h;exact h))
def TQ{a:Fs}(d:eO)(h:dX a W=none):vF (a++[(W,d)]) W=a:=by
 induction a with
 |nil=>simp[vF]
 |cons g r c=>
  obtain⟨b,f⟩:=g;by_cases e:b=W
  .simp[dX,e]at h
  .simp[dX,e]at h;simp[vF,e,c h]
def Ty(next c b:Z)(d:cw cf):kE (iH next c b d):=by
 unfold iH iM;refine(kE.append ?_ ?_).append<|kE.le 4 _;exact((kE.le 8 _).append<|kE.le 8 _).append<|kE.le 8 _;intro x a;obtain⟨l,e,a⟩:=bE.1 a;obtain⟨f,_,rfl⟩:=bW.1 e;unfold se at a;rcases aE.1 a with a|a;exact kE.le 4 _ x a;obtain⟨t,_,a⟩:=mD.1 a;unfold uM at a;simp only[aE]at a;rcases a with a|a|a|a;exact kE.le 8 _ x a;exact kE.le 4 _ x a;exact kE.le 4 _ x a;exact kE.le 4 _ x a
def Va(g:M)(K:DK)(next c b:Z)(x0 x1 x2 x3:Option Addr)(F c1 c2 c3:M)(m0 m1 m2 m3:cf)(hT:Steps a)(r0:Row a 4 (J x0 (y m0) F) (y m0) (dy m0))(r1:Row a 4 (J x1 (y m1) c1) (y m1) (dy m1))(r2:Row a 4 (J x2 (y m2) c2) (y m2) (dy m2))(r3:Row a 4 (J x3 (y m3) c3) (y m3) (dy m3))(b0:∀k,ct (J x0 (y m0) F)=H k->k<z (G a))(b1:∀k,ct (J x1 (y m1) c1)=H k->k<z (G a))(b2:∀k,ct (J x2 (y m2) c2)=H k->k<z (G a))(b3:∀k,ct (J x3 (y m3) c3)=H k->k<z (G a))(k0:∀bg∈m0,bg.oD)(k1:∀bg∈m1,bg.oD)(k2:∀bg∈m2,bg.oD)(k3:∀bg∈m3,bg.oD)(hn:0<=next/\next<18446744073709551616)(hl:0<=c/\c<18446744073709551616)(hb:0<=b/\b<18446744073709551616)(hs:y m0+y m1+y m2+y m3<=1000000)(w:cQ a g K)(hg:dX (vw K.files) vf=none)(bi:y K.eJ<=100000000000)(A:ij (vw K.files)+21000000<=1099511627776):cD bz 168 #[ay g,dW #[aJ next,aJ c,aJ b,J x0 (y m0) F,J x1 (y m1) c1,J x2 (y m2) c2,J x3 (y m3) c3]] a λj o=>
 j=aL .nilIface/\∃d,qI a o g K d/\vw d.files=tu (vw K.files) (gP,iH next c b [m0,m1,m2,m3])/\d.eJ=[]:=by
 obtain⟨bc,p⟩:∃bc,cF a (ar #[aJ next,aJ c,aJ b,J x0 (y m0) F,J x1 (y m1) c1,J x2 (y m2) c2,J x3 (y m3) c3] 202)=bc:=⟨_,rfl⟩
 have hW:I az a bc:=by rw[<-p];exact(cK _ a)
 have ad:Steps bc:=by rw[<-p];exact hT.alloc _
 have f:∀{v n xs},Row a 4 v n xs->(∀k,ct v=H k->k<z (G a))->Row bc 4 v n xs:=λb hk=>hW.row b<|λk j=>⟨id,hk k j⟩
 have hz:=hW.size
 have P:=PX next c b x0 x1 x2 x3 F c1 c2 c3 m0 m1 m2 m3 ad (f r0 b0) (f r1 b1) (f r2 b2) (f r3 b3) (λk j=>ag (b0 k j) hz) (λk j=>ag (b1 k j) hz) (λk j=>ag (b2 k j) hz) (λk j=>ag (b3 k j) hz) k0 k1 k2 k3 hn hl hb hs
 have S:=Ty next c b [m0,m1,m2,m3]
 have ac:y (iH next c b [m0,m1,m2,m3])<=20001000/\0<y (iH next c b [m0,m1,m2,m3]):=by
  unfold iH;rw[gy];simp only[af,cC,bZ,fW,bG,iB,dH,pP];omega
 have L:=λD(v1:aa)(ht:I az bc D)(ho:eP D (z<|G bc) v1 (iH next c b [m0,m1,m2,m3]))=>show∃bh bd,v1=bB bh 0 (y<|iH next c b [m0,m1,m2,m3]) bd/\cD bz 227 #[ay g,aj vf,v1] D λj o=>j=aL .nilIface/\∃d,qI a o g K d/\vw d.files=vw K.files++[(vf,iH next c b [m0,m1,m2,m3])]/\y d.eJ=y K.eJ+1 from by
  obtain⟨bh,bd,rfl,a1,a2,_⟩:=uE ho ac.2;have B:I az a D:=hW.cr ht;refine⟨bh,bd,rfl,(GX (db:=g) (K:=K) vf bh 0 bd (w:=D) (w.aw B<|λ_ _=>id) hg (by omega) (by omega) S (Bytes.cells<|eP.bytes ho) a2 (λcc=>by have:=w.lt _ cc;omega)).mono ?_⟩;rintro j o⟨rfl,d,u,hv,hm⟩;exact⟨rfl,d,⟨u.ok,(B.mono (T:=K.aU g) cO).trans u.aw<|λ_ h=>.inl h,λk hk=>(u.aU k hk).elim .inl<|λbd=>.inr<|aC B.size bd⟩,hv,hm⟩
 have av:=U L
 generalize iH next c b [m0,m1,m2,m3]=SB at*
 have s:∀r i,qI a r g K i->vw i.files=vw K.files++[(vf,SB)]->y i.eJ=y K.eJ+1->cD bz 230 #[ay g,aj vf,aj gP] r λj o=>j=aL .nilIface/\∃d,qI a o g K d/\vw d.files=tu (vw K.files) (gP,SB)/\y d.eJ=y K.eJ+2:=by
  intro r i e m q;have bf:dX (vw i.files) vf=H SB:=by rw[m,jM,hg];simp[dX]
  obtain⟨bk,hF,B⟩:=ju bf;apply(OP vf gP bk e.ok hF (by decide)<|by omega).mono;rintro j o⟨rfl,d,u,hf,hm⟩;refine⟨rfl,d,e.trans u,?_,by omega⟩;rw[hf,DY,UC,m,TQ SB hg];simp only[B]
 have l:∀r i,qI a r g K i->y i.eJ=y K.eJ+2->cD bz 104 #[ay g] r λj o=>j=aL .nilIface/\∃d,qI a o g K d/\d.files=i.files/\d.eJ=[]:=by
  intro r i e q;apply(CI e.ok<|by omega).mono;rintro j o⟨rfl,d,u,hf,hm⟩;exact⟨rfl,d,e.trans u,hf,hm⟩
 obtain⟨E,t,bb⟩:=dA s l p
 clear hT r0 r1 r2 r3 b0 b1 b2 b3 k0 k1 k2 k3 hn hl hb w hg A hW ad f hz S ac L s l p
 go_in
 go_wp2_with fail
 rw[ae bb]
 apply P.mono
 rintro j D⟨v1,rfl,X,an⟩
 obtain⟨bh,bd,rfl,C⟩:=av D v1 an X
 clear X an P
 unfold vf at C
 go_wp2_with fail
 apply C.mono
 rintro j r⟨rfl,i,e,m,q⟩
 have x:=E r i e m q
 clear e m q C
 unfold vf gP at x
 go_wp2_with fail
 apply x.mono
 rintro j w3⟨rfl,K3,N,ao,V⟩
 have al:=t w3 K3 N V
 have ba:=U ao
 clear N ao V x
 go_wp2_with fail
 apply al.mono
 rintro j w4⟨rfl,K4,O,Q,W⟩
 obtain⟨aq,au,ax⟩:=dA O Q W
 clear O Q W al
 go_wp2
 go_ret
 exact⟨rfl,K4,aq,by rw[ae au];exact ba,ax⟩
def vE(a:Fs)(b:cw ab):Fs:=b.foldl vF a
def Ki{a:Fs}{m:ab}(h:m≠W):dX (vF a W) m=dX a m:=by
 induction a with
 |nil=>rfl
 |cons g r d=>
  obtain⟨c,f⟩:=g;by_cases e:c=W
  .simp only[vF,e,ir,dX];rw[dr<|λc=>h c.symm]
  .by_cases b:c=m
   .subst b;simp only[vF,dr h,dX,ir]
   .simp only[vF,dr e,dX,dr b,d]
def PT(a:Fs)(b:cw ab)(n:ab):vE a (b++[n])=vF (vE a b) n:=by simp[vE]
theorem tD{a:Fs}{b:cw ab}(h:W∉b):dX (vE a b) W=dX a W:=by
 induction b generalizing a with
 |nil=>rfl
 |cons n r d=>
  show dX (vE (vF a n) r) W=dX a W;rw[d (λc=>h<|by simp[c]),Ki<|λc=>h<|by simp[c]]
def EC{K:DK}(ax:aa)(c:cw ab)(h:bJ a b n m)(A:cQ a n.aH K)(V:¬K.aU n.aH b)(hr:Row a 1 ax (y c) (c.map Value.string))(W:∀av,ct ax=H av->av<z (G a)/\¬K.aU n.aH av)(l:c.Nodup)(o:∀bf∈c,∃T,dX (vw K.files) bf=H T)(hm:y K.eJ+y c<=1000000000000):cD bz 111 #[ay b,ax] a λbb w'=>bb=aL .nilIface/\∃Q,qI a w' n.aH K Q/\vw Q.files=vE (vw K.files) c/\y Q.eJ=y K.eJ+y c:=by
 have au:=am h;rcases hr with⟨w,⟨rfl,X⟩|⟨ba,p,ad,rfl,ao,hc⟩⟩;(.obtain rfl:=aP X;have q:=U<|qI.refl A;clear h A V W l o w X;(go_in);go_wp2;(go_loopw [10] (λB wr=>B=ap 0/\wr=a) (λ_ _=>0));(case atStart=>grind);(case round=>obtain⟨rfl,d⟩:=hrel;subst wr;go_wp2;go_ret;exact⟨rfl,K,q,rfl,rfl⟩));(.have hb:=W ba rfl;obtain⟨HB,HC,HN,N,O,C⟩:=jX h hc V l o<|qI.refl A;clear h A V W l o w hc;(go_in);go_wp2;(go_loopw [10] (λB wr=>∃(e:M)(j:DK),e<=y c/\B=ap e/\qI a wr n.aH K j/\vw j.files=vE (vw K.files) (c.take e)/\y j.eJ=y K.eJ+e) (λB _=>y c-(intOf B).toNat));(case atStart=>exact⟨0,K,bj _,rfl,C,rfl,rfl⟩);(case round=>obtain⟨e,j,aq,rfl,k,d,g⟩:=hrel;by_cases f:e<y c;(.have al:aO wr (R ba<|p+e)=H (aj c[e]):=k.aw.cell (HC e _ (by rw[dP,aI f];rfl)) hb.2 hb.1;have s:=HB.aw k.aw HN;have c2:=bJ.cellAt s 2 rfl;(have i:c[e]∉c.take e:=by intro bd;obtain⟨B,hi,he⟩:=dO bd;(have an:B<e/\B<y c:=by grind);rw[lC]at he;have:=(List.nodup_iff_pairwise_ne.1 N);grind[pairwise_iff_getElem]);obtain⟨T,r⟩:=O _<|ak f;(have hg:dX (vw j.files) c[e]=H T:=by rw[d,tD i];exact r);obtain⟨bc,hF,_⟩:=ju hg;have x:=OQ c[e] bc k.ok hF (by omega);obtain⟨P,q,L⟩:=dA (show vE (vw K.files) (c.take<|e+1)=vF (vw j.files) c[e]by rw[ah f,PT,d]) k g;clear k d g s i hg hF r;generalize c[e]=ac at*;(go_wp2_with fail);apply x.mono;rintro bb w1⟨rfl,S,t,u,v⟩;obtain⟨D,E,F⟩:=dA (q.trans t) (show vw S.files=vE (vw K.files) (c.take<|e+1)by rw[ae P,u,UC]) (show y S.eJ=y K.eJ+(e+1)by rw[v,ae L];omega);clear t u v x;go_wp2;go_roundw;(case rel=>exact⟨e+1,S,f,by go_num,D,E,F⟩);case measure=>simp[intOf];omega);(have i:e=y c:=by omega);subst i;rw[aX]at d;obtain⟨q,s,r⟩:=dA k d g;clear k d g;go_wp2;go_ret;exact⟨rfl,j,q,s,r⟩))
def ma(a:Z)(c:Qz):E:=⟨c.key,if c.del then⟨#[]⟩else c.val,c.del,a⟩
def Nk{e:uP}(b:Z)(hp:yp a d e)(hv:∀k,ct d=H k->k<z (G a))(hr:y e<=1000000)(hz:∀co∈e,co.key.size<=140737488351232/\co.val.size<=140737488351232):cD bz 86 #[d,.int .u64 b] a λcp w'=>∃v',cp=.returned v'/\w'.ownsRow (z<|G a) 180 4 v' (y e) (aF<|e.map<|ma b)/\I (λ_=>False) a w':=by
 have cs:∀(co:Bool)(a:Y),(Op.unary .not<|.bool co).run bz a=.ok (.bool<|!co) a:=λ_ _=>rfl;obtain⟨i0,bc,bf,bg,bh⟩:=cH oh;obtain⟨dd,cc,cd⟩:=bM hp;obtain⟨HP,HV,HZ⟩:=dA hp hv hz;clear hp hv hz;subst cd;go_in
 go_wp2_with(at_make;refine jJ _ rfl _ _ 96 rfl (z<|G a) 180 i0 xe 4 underlying96 bc bf bg _ _ _ (y e) rfl rfl rfl (by rw[bh];omega) (by unfold maxLen;omega) (ai _) ?_;intro w1 Q P;have ac:=U Q;have bk:=U P;clear Q P)
 go_loopw [5,14] (λo bT wr=>∃(k:M),k<=y e/\bT=.int .i64 k/\wr.ownsRow (z<|G a) 180 4 o k (aF<|(e.take k).map<|ma b)/\I (λ_=>False) a wr) (λ_ bT _=>y e-(intOf bT).toNat)
 case atStart=>exact⟨0,bj _,rfl,ac,I.dJ bk<|by simp⟩
 case round=>
  obtain⟨k,hk,rfl,ho,E⟩:=hrel;obtain⟨nx,nc,ch⟩:=aA ho;subst ch;by_cases A:k<y e
  .have e1:(k:Z)<(y e:Z):=by omega
   obtain⟨cb,⟨bu,cx⟩|⟨bx,f,cv,bu,ce,hc⟩⟩:=ae HP
   .exfalso;omega
   cases bu;have N:bx<z (G a):=HV bx rfl;have hg:=kX e k A;have cB:bx<z (G wr):=ag N E.size;have ck:aO wr ⟨bx,f+k*3,none⟩=H (.string e[k].key):=E.cell (hc _ _ hg.1) id N;have cl:aO wr ⟨bx,f+k*3+1,none⟩=H (.string e[k].val):=E.cell (by rw[aV];grind) id N;have cm:aO wr ⟨bx,f+k*3+2,none⟩=H (.bool e[k].del):=E.cell (by rw[aV];grind) id N;have cn:=HZ _<|ak A;obtain⟨bl,HO,HT⟩:=dA (show(e.take<|k+1).map (ma b)=(e.take k).map (ma b)++[ma b e[k]]by rw[ah A,aQ];rfl) ho E;clear hg hc cb ce ho E;generalize e[k]=co at*;obtain⟨g,p,l⟩:=co;simp only at ck cl cm cn;have bq:=λao=>rl g ao (by omega);have br:=λao=>rl p ao (by omega);go_wp2_with fail
   rename_i QQ KK bm;have m:(cF wr<|.cells #[.string g,.string p,.bool l] 44).heap[z<|G wr]?=H (.cells #[.string g,.string p,.bool l] 44 (0,0)):=aB _ rfl;have ba:I (λ_=>False) a (cF wr<|.cells #[.string g,.string p,.bool l] 44):=HT.alloc _;have av:=aN HO<|.cells #[.string g,.string p,.bool l] 44;generalize cF wr (.cells #[.string g,.string p,.bool l] 44)=j at m ba av|-;generalize z (G wr)=r at m|-;have x:aO j.drew ⟨r,0,none⟩=H (.string g)/\aO j.drew ⟨r,2,none⟩=H (.bool l):=⟨by show aO j _=_;rw[bL m];rfl,by show aO j _=_;rw[bL m];rfl⟩;have B:=am m;obtain⟨w,bi,ad,W⟩:=gH (show∀i,I (λ_=>False) j i->aO i ⟨r,0,none⟩=H (.string g)/\aO i ⟨r,2,none⟩=H (.bool l)fromλi a=>⟨a.cell x.1 id B,a.cell x.2 id B⟩) m ba av;clear m ba av;refine cI (λi=>aO i ⟨r,0,none⟩=H (.string g)/\aO i ⟨r,2,none⟩=H (.bool l)) 8 (by kernel_rfl) ?_;refine cY 0 ?_;iterate 2 (refine eM (v:=?_) x rfl (by kernel_rfl) iW rfl ?_ ?_;rotate_left;(focus(rintro i⟨z0,z2⟩;go_simp;try rfl));simp only[Act.put,dD,Nat.reduceAdd])
   apply eC;refine cY 3 ?_;iterate 3 (refine eM (v:=?_) x rfl (by kernel_rfl) iW rfl ?_ ?_;rotate_left;(focus(rintro i⟨z0,z2⟩;go_simp;try rfl));simp only[Act.put,dD,Nat.reduceAdd])
   apply eC;refine ua (α:=M) (λc ao=>I (λ_=>False) j ao/\ao.heap[c]?=H (.cells #[.string ⟨#[]⟩,.string ⟨#[]⟩,.bool aY,.int .u64 0] 180 (0,0))/\z (G j)<=c) (λc=>{tmps:=#[.slice (H ⟨bx,f,none⟩) (y e) cc,.int .u64 b,ix,ix,.slice none 0 0,.slice nx k nc,ix,.pointer<|H ⟨r,0,none⟩,.pointer<|H ⟨c,0,none⟩,.slice (H ⟨bx,f,none⟩) (y e) cc,.int .i64<|y e,.slice (H ⟨z<|G a,0,none⟩) 0<|y e,.slice (H ⟨bx,f,none⟩) (y e) cc,.int .i64<|y e,.int .i64 k,.bool bU,.pointer<|H ⟨bx,f+k*3,none⟩,.agg #[.string g,.string p,.bool l],.pointer<|H ⟨r,0,none⟩,.string g,.string g,.pointer<|H ⟨r,2,none⟩,.bool l,.int .u64 b,.agg #[.string g,.string ⟨#[]⟩,.bool l,.int .u64 b],u25,u26,u27,u28,u29,u30,u31,u32,u33,u34,u35,u36,ix],defers:=[]}) #[true,true,true,true,true,true,true,true,false] 1 ?_ ?_
   .intro bp;refine sQ (i:=2) (j:=7) rfl rfl rfl rfl (by kernel_rfl) ?_ ?_
    .intro dc hK;go_simp;apply(bq _).mono;rintro cp w4⟨rfl,L⟩;have t:I (λ_=>False) j w4:=(ci (λ_=>False) j).cr<|I.aR (S:=λ_=>False) L;have bn:=w w4 t;refine hK _ _ (λ_=>bn) ?_;try simp only[Act.put,dD]
     refine lF (i:=6) (v:=?_) rfl rfl (by kernel_rfl) (by kernel_rfl) (by kernel_rfl) (by kernel_rfl) (λ_ _ _ h=>h) (Or.inl ⟨by rfl,?_⟩) bn ?_;rotate_left
     .rintro i⟨z0,z2⟩;go_simp;try with_reducible rfl
     try simp only[Act.put,dD]
     refine aM (i:=7) rfl rfl (by kernel_rfl) ?_;intro K2 au;go_simp;have F:=t.alloc<|.cells #[.string ⟨#[]⟩,.string ⟨#[]⟩,.bool aY,.int .u64 0] 180;refine au _ _ (λ_=>w _ F) ?_;exact kj (bp (z<|G w4) _ ⟨F,aB _ rfl,t.size⟩)<|by kernel_rfl
    .intro dc hK;go_simp;have t:I (λ_=>False) j ((cF j<|.cells #[.string ⟨#[]⟩,.string ⟨#[]⟩,.bool aY,.int .u64 0] 180).drew):=(cK (λ_=>False) j).of_heap rfl;have L:((cF j<|.cells #[.string ⟨#[]⟩,.string ⟨#[]⟩,.bool aY,.int .u64 0] 180).drew).heap[z<|G j]?=H (.cells #[.string ⟨#[]⟩,.string ⟨#[]⟩,.bool aY,.int .u64 0] 180 (0,0)):=aB (w:=j) _ rfl;refine hK _ _ (λ_=>w _ t) ?_;refine aM (i:=2) rfl rfl (by kernel_rfl) ?_;intro K2 au;go_simp;apply(bq _).mono;rintro cp w5⟨rfl,bo⟩;have F:I (λ_=>False) j w5:=t.cr<|I.aR (S:=λ_=>False) bo;have ca:=((I.aR (S:=λ_=>False) bo).block _ (am L) id).trans L;have bn:=w _ F;refine au _ _ (λ_=>bn) ?_;try simp only[Act.put,dD]
     refine lF (i:=6) (v:=?_) rfl rfl (by kernel_rfl) (by kernel_rfl) (by kernel_rfl) (by kernel_rfl) (λ_ _ _ h=>h) (Or.inl ⟨by rfl,?_⟩) bn ?_;rotate_left
     .rintro i⟨z0,z2⟩;go_simp;try with_reducible rfl
     try simp only[Act.put,dD]
     exact kj (bp (z<|G j) _ ⟨F,ca,ai _⟩)<|by kernel_rfl
   rintro c ao⟨E,O,s⟩;have bt:=am O;refine aM (i:=8) rfl rfl (by kernel_rfl) ?_;intro dc hK;have q0:aO ao ⟨c,0,none⟩=H (.string ⟨#[]⟩):=by rw[bL O];rfl
   have q1:aO ao ⟨c,1,none⟩=H (.string ⟨#[]⟩):=by rw[bL O];rfl
   have q2:aO ao ⟨c,2,none⟩=H (.bool aY):=by rw[bL O];rfl
   have q3:aO ao ⟨c,3,none⟩=H (.int .u64 0):=by rw[bL O];rfl
   have fz:∀db,ao.frozen? ⟨c,db,none⟩=aY:=λdb=>by simp[World.frozen?,O]
   go_simp;refine hK _ _ wX ?_;refine cW (by kernel_rfl) ?_ _;show KK _ _;apply bm;have aq:ii (cA (cA (cA (cA ao ⟨c,0,none⟩<|.string g) ⟨c,1,none⟩<|.string ⟨#[]⟩) ⟨c,2,none⟩<|.bool l) ⟨c,3,none⟩<|.int .u64 b) c ⟨g,⟨#[]⟩,l,b⟩:=aT<|aT<|aT<|aT O;have o:I (λ_=>False) j (cA (cA (cA (cA ao ⟨c,0,none⟩<|.string g) ⟨c,1,none⟩<|.string ⟨#[]⟩) ⟨c,2,none⟩<|.bool l) ⟨c,3,none⟩<|.int .u64 b):=(((E.setCell _ _ _<|.inr s).setCell _ _ _<|.inr s).setCell _ _ _<|.inr s).setCell _ _ _<|.inr s;have bb:=ad.cr o;have ax:=o.own W<|λ_ _ d=>d;have n:=(o.block _ B id).trans bi;have cT:c≠r:=by omega
   have bv:z (G a)<=c:=aC ad.size s;have cj:ct (Value.slice nx k nc)≠H c:=λcp=>by have:=(W.lt c cp).2;omega
   generalize(cA (cA (cA (cA ao ⟨c,0,none⟩<|.string g) ⟨c,1,none⟩<|.string ⟨#[]⟩) ⟨c,2,none⟩<|.bool l) ⟨c,3,none⟩<|.int .u64 b)=W5 at aq bb ax n|-;have d0:aO W5 ⟨r,0,none⟩=H (.string g):=by rw[bL n];rfl
   have d1:aO W5 ⟨r,1,none⟩=H (.string p):=by rw[bL n];rfl
   have d2:aO W5 ⟨r,2,none⟩=H (.bool l):=by rw[bL n];rfl
   have cq:=am n;obtain⟨V,al,X,cu⟩:=gH aq bb ax n;clear aq bb ax n o bm hK E O q0 q1 q2 q3 fz bi ad W w x s bt;obtain⟨g0,g1,g2,g3⟩:=V.cells;simp only at g0 g1 g2 g3;have bs:=am V;cases l with
   |true=>
    go_wp2_with(at_builtin;refine bO _ rfl (.tmp 32) (.tmp 34) 96 rfl (z<|G a) 180 i0 xe 4 48 underlying96 bc bf bg bh rfl (by decide) (.slice nx k nc) k (aF<|(e.take k).map<|ma b) rfl (aN X<|.cells #[.string g,.string ⟨#[]⟩,.bool bU,.int .u64 b] 180) ⟨z<|G W5,0,none⟩ 1 1 (aF [⟨g,⟨#[]⟩,bU,b⟩]) rfl rfl (wE _ ⟨g,⟨#[]⟩,bU,b⟩ _) (BQ _) (by omega) (by omega) (by have:=al.size;simp;omega) ?_;intro v7 w7 C K;have u:=U C;have an:=U K;clear C K)
    obtain⟨x7,c7,bd⟩:=aA u;subst bd;go_roundw;case rel=>
     refine⟨k+1,A,by go_num,?_,?_⟩
     .rw[ae bl,fQ];exact u
     .exact(al.alloc _).trans (I.dJ (S:=λq=>ct (Value.slice nx k nc)=H q) an.grown<|λq D=>.inl D)<|λq D=>.inr (X.lt q D).1
    case measure=>simp[intOf];omega
   |false=>
    go_wp2_with fail
    apply(br _).mono;rintro cp w6⟨rfl,bp⟩;have F:I (λ_=>False) W5 w6:=I.aR bp;have t:ii w6 c ⟨g,⟨#[]⟩,aY,b⟩:=(F.block _ bs id).trans V;have ca:z (G a)<=c:=bv;have bo:=(al.cr F).setCell c 1 (.string p)<|.inr bv;have bn:=(((F.mono (T:=λq=>q=c) cO).setCell c 1 (.string p)<|.inl rfl)).own X<|λq D d=>cj (by rw[<-d];exact D);obtain⟨h0,h1,h2,h3⟩:=t.cells;simp only at h0 h1 h2 h3;have cE:w6.frozen? ⟨c,1,none⟩=aY:=by unfold ii at t;simp[World.frozen?,t]
    have cM:=am t;have au:=U bo;have L:=U bn;clear t bo bn F bp g0 g1 g2 g3 d0 d1 d2;go_wp2_with(at_builtin;refine bO _ rfl (.tmp 32) (.tmp 34) 96 rfl (z<|G a) 180 i0 xe 4 48 underlying96 bc bf bg bh rfl (by decide) (.slice nx k nc) k (aF<|(e.take k).map<|ma b) rfl (aN L<|.cells #[.string g,.string p,.bool aY,.int .u64 b] 180) ⟨z<|G w6,0,none⟩ 1 1 (aF [⟨g,p,aY,b⟩]) rfl rfl (by have D:=wE (cA w6 ⟨c,1,none⟩<|.string p) ⟨g,p,aY,b⟩ 180;rwa[gM]at D) (BQ _) (by omega) (by omega) (by have:=au.size;simp;omega) ?_;intro v7 w7 C K;have u:=U C;have an:=U K;clear C K)
    obtain⟨x7,c7,bd⟩:=aA u;subst bd;go_roundw;case rel=>
     refine⟨k+1,A,by go_num,?_,?_⟩
     .rw[ae bl,fQ];exact u
     .exact(au.alloc _).trans (I.dJ (S:=λq=>ct (Value.slice nx k nc)=H q) an.grown<|λq D=>.inl D)<|λq D=>.inr (L.lt q D).1
    case measure=>simp[intOf];omega
  .have e1:¬(k:Z)<(y e:Z):=by omega
   have c:k=y e:=by omega
   obtain⟨g,f,HO,HT⟩:=gH (show aF (e.map<|ma b)=aF ((e.take k).map<|ma b)by rw[c,aX]) c ho E;clear ho E c;go_wp2;go_ret;exact⟨_,rfl,by rw[ae g,<-ae f];exact HO,HT⟩
section
open Shelf
def JR:Go.Shelf.Ren:=⟨λ|14=>270|16=>286|17=>287|19=>294|20=>295|21=>296|22=>297|23=>298|24=>299|25=>192|27=>301|26=>300|28=>302|29=>303|30=>265|31=>266|32=>267|33=>268|35=>140|34=>281|36=>282|37=>283|38=>284|39=>291|40=>292|n=>n,λ|9=>9|3=>3|22=>98|24=>50|25=>128|4=>4|34=>408|5=>5|36=>46|37=>135|0=>0|39=>410|21=>21|44=>416|47=>369|50=>419|48=>417|2=>2|52=>390|55=>392|59=>402|60=>91|20=>20|61=>403|65=>413|66=>414|67=>228|n=>n,λ|0=>5|1=>6|2=>2|3=>3|4=>4|n=>n⟩
def VW:Go.Proofs.LaysPu.n14 bz JR:={mixed:=by kernel_rfl,f14:=func270.trans (bX H<|by kernel_rfl),f16:=func286.trans (bX H<|by kernel_rfl),f17:=func287.trans (bX H<|by kernel_rfl),f19:=func294.trans (bX H<|by kernel_rfl),f20:=func295.trans (bX H<|by kernel_rfl),f21:=func296.trans (bX H<|by kernel_rfl),f22:=func297.trans (bX H<|by kernel_rfl),f23:=func298.trans (bX H<|by kernel_rfl),f24:=func299.trans (bX H<|by kernel_rfl),f25:=func192.trans (bX H<|by kernel_rfl),f26:=func300.trans (bX H<|by kernel_rfl),f27:=func301.trans (bX H<|by kernel_rfl),f28:=func302.trans (bX H<|by kernel_rfl),f29:=func303.trans (bX H<|by kernel_rfl),f30:=func265.trans (bX H<|by kernel_rfl),f31:=func266.trans (bX H<|by kernel_rfl),f32:=func267.trans (bX H<|by kernel_rfl),f33:=func268.trans (bX H<|by kernel_rfl),f34:=func281.trans (bX H<|by kernel_rfl),f35:=func140.trans (bX H<|by kernel_rfl),f36:=func282.trans (bX H<|by kernel_rfl),f37:=func283.trans (bX H<|by kernel_rfl),f38:=func284.trans (bX H<|by kernel_rfl),f39:=func291.trans (bX H<|by kernel_rfl),f40:=func292.trans (bX H<|by kernel_rfl),t0:=underlying0,a0:=isAgg0,z0:=sizeOf0,v0:=zeroValue0,i0:=by kernel_rfl,t2:=underlying2,a2:=isAgg2,z2:=sizeOf2,v2:=zeroValue2,i2:=by kernel_rfl,t3:=underlying3,a3:=isAgg3,z3:=sizeOf3,v3:=zeroValue3,i3:=by kernel_rfl,t4:=underlying4,a4:=isAgg4,z4:=sizeOf4,v4:=zeroValue4,i4:=by kernel_rfl,t5:=underlying5,a5:=isAgg5,z5:=sizeOf5,v5:=zeroValue5,i5:=by kernel_rfl,t9:=underlying9,a9:=isAgg9,z9:=sizeOf9,v9:=zeroValue9,i9:=by kernel_rfl,t20:=underlying20,a20:=isAgg20,z20:=sizeOf20,v20:=zeroValue20,i20:=by kernel_rfl,t21:=underlying21,a21:=isAgg21,z21:=sizeOf21,v21:=zeroValue21,i21:=by kernel_rfl,t22:=underlying98,a22:=isAgg98,z22:=sizeOf98,v22:=zeroValue98,i22:=by kernel_rfl,t24:=underlying50,a24:=isAgg50,z24:=sizeOf50,v24:=zeroValue50,i24:=by kernel_rfl,t25:=underlying128,a25:=isAgg128,z25:=sizeOf128,v25:=zeroValue128,i25:=by kernel_rfl,t34:=underlying408,a34:=isAgg408,z34:=sizeOf408,v34:=zeroValue408,i34:=by kernel_rfl,c34:=by kernel_rfl,t36:=underlying46,a36:=isAgg46,z36:=sizeOf46,v36:=zeroValue46,i36:=by kernel_rfl,t37:=underlying135,a37:=isAgg135,z37:=sizeOf135,v37:=zeroValue135,i37:=by kernel_rfl,t39:=underlying410,a39:=isAgg410,z39:=sizeOf410,v39:=zeroValue410,i39:=by kernel_rfl,t44:=underlying416,a44:=isAgg416,z44:=sizeOf416,v44:=zeroValue416,i44:=by kernel_rfl,t47:=underlying369,a47:=isAgg369,z47:=sizeOf369,v47:=zeroValue369,i47:=by kernel_rfl,t48:=underlying417,a48:=isAgg417,z48:=sizeOf417,v48:=zeroValue417,i48:=by kernel_rfl,t50:=underlying419,a50:=isAgg419,z50:=sizeOf419,v50:=zeroValue419,i50:=by kernel_rfl,t52:=underlying390,a52:=isAgg390,z52:=sizeOf390,v52:=zeroValue390,i52:=by kernel_rfl,t55:=underlying392,a55:=isAgg392,z55:=sizeOf392,v55:=zeroValue392,i55:=by kernel_rfl,t59:=underlying402,a59:=isAgg402,z59:=sizeOf402,v59:=zeroValue402,i59:=by kernel_rfl,t60:=underlying91,a60:=isAgg91,z60:=sizeOf91,v60:=zeroValue91,i60:=by kernel_rfl,t61:=underlying403,a61:=isAgg403,z61:=sizeOf403,t65:=underlying413,a65:=isAgg413,z65:=sizeOf413,v65:=zeroValue413,i65:=by kernel_rfl,t66:=underlying414,a66:=isAgg414,z66:=sizeOf414,v66:=zeroValue414,i66:=by kernel_rfl,t67:=underlying228,a67:=isAgg228,z67:=sizeOf228,v67:=zeroValue228,i67:=by kernel_rfl,g0:=by kernel_rfl,m0:=by kernel_rfl,g1:=by kernel_rfl,m1:=by kernel_rfl,g2:=by kernel_rfl,m2:=by kernel_rfl,g3:=by kernel_rfl,m3:=by kernel_rfl,g4:=by kernel_rfl,m4:=by kernel_rfl}
def Nv(w:Y)(e:TypeId)(s:ab):Below (z<|G w) w (Lib.bytesWorld w e s):=⟨rfl,rfl,rfl,by rw[Lib.bytesWorld_size];omega,λk a=>Lib.bytesWorld_at_old w e s k<|by omega⟩
def SE(w:Y):cD bz 270 #[aj ⟨#[49]⟩,ap 10,ap 64] w λe a=>e=aL (dw #[aJ 1,.nilIface])/\I az w a:=by
 have h:=Any.strconv_ParseUint_10_at64_ok VW ⟨#[49]⟩ (by decide) 1 (by kernel_rfl) w;refine zu h ?_;rintro e a⟨rfl,rfl|rfl⟩;exact⟨rfl,I.refl _ _⟩;exact⟨rfl,I.aR (S:=az)<|Nv w _ _⟩
def Sx(w:Y):cD bz 293 #[aj ⟨#[108,111,103,45,49]⟩,aj ⟨#[116,97,98,108,101,45]⟩] w λe a=>e=aL (aK aY)/\a=w:=by
 go_in
 go_wp2;go_ret;exact⟨rfl,rfl⟩
def Pa(w:Y):cD bz 293 #[aj ⟨#[108,111,103,45,49]⟩,aj ⟨#[108,111,103,45]⟩] w λe a=>e=aL (aK bU)/\a=w:=by
 go_in
 go_wp2;go_ret;refine⟨?_,rfl⟩;kernel_rfl
def Yw(w:Y):cD bz 269 #[aj ⟨#[108,111,103,45,49]⟩,aj ⟨#[116,97,98,108,101,45]⟩] w λe b=>e=aL (dw #[aj ⟨#[108,111,103,45,49]⟩,aK aY])/\b=w:=by
 have a:=Sx w;have d:cD bz 285 #[aj ⟨#[108,111,103,45,49]⟩,aj ⟨#[116,97,98,108,101,45]⟩] w λe b=>e=aL (dw #[aj ⟨#[108,111,103,45,49]⟩,aK aY])/\b=w:=by(go_in);(go_wp2_with(go_at_call 293;refine a.mono ?_;rintro e c⟨rfl,f⟩;subst c));(go_ret2);exact⟨rfl,rfl⟩
 go_in
 go_wp2_with(go_at_call 285;refine d.mono ?_;rintro e c⟨rfl,f⟩;subst c)
 go_ret2
 exact⟨rfl,rfl⟩
def WU(w:Y):cD bz 269 #[aj ⟨#[108,111,103,45,49]⟩,aj ⟨#[108,111,103,45]⟩] w λe b=>e=aL (dw #[aj ⟨#[49]⟩,aK bU])/\b=w:=by
 have a:=Pa w;have d:cD bz 285 #[aj ⟨#[108,111,103,45,49]⟩,aj ⟨#[108,111,103,45]⟩] w λe b=>e=aL (dw #[aj ⟨#[49]⟩,aK bU])/\b=w:=by(go_in);(go_wp2_with(go_at_call 293;refine a.mono ?_;rintro e c⟨rfl,f⟩;subst c));(go_ret2);refine⟨?_,rfl⟩;kernel_rfl
 go_in
 go_wp2_with(go_at_call 285;refine d.mono ?_;rintro e c⟨rfl,f⟩;subst c)
 go_ret2
 exact⟨rfl,rfl⟩
def Rg:FN 1=⟨#[49]⟩:=by
 unfold FN;rw[Lib.decDigits];simp
def Pg(m:Pow a):cD bz 232 #[aj ⟨#[108,111,103,45,49]⟩] a λj p=>j=aL (dw #[aJ 1,aK bU])/\I az a p:=by
 have e:=SE a;have b:=λW(h:I az a W)=>tz 1 (by omega)<|Pow.aw m h id;rw[Rg]at b;clear m;have l:=Yw a;have n:=WU a;go_in
 go_wp2_with fail
 apply l.mono;rintro j f⟨rfl,o⟩;subst f;go_wp2_with fail
 apply n.mono;rintro j f⟨rfl,o⟩;subst f;go_wp2_with fail
 apply e.mono;rintro j f⟨rfl,c⟩;have k:=b f c;have g:=U c;clear c b e l n;go_wp2_with fail
 apply k.mono;rintro j q⟨rfl,d⟩;have i:=U<|g.cr<|I.aR (S:=az) d;clear d k;go_wp2;go_ret2
 exact⟨rfl,i⟩
end
def wa{c:Func}{F S:Tmp}(T:c.results=#[.cell F 202,.tmp S])(a:Array aa)(w:Y)(g:M)(n A k:Z)(e f h i:aa)(Q:TypeId)(d:M×M)(r:a.getD F ix=ay g)(p:w.heap[g]?=H (ar #[aJ n,aJ A,aJ k,e,f,h,i] Q d))(j:∃x n k,e=J x n k)(l:∃x n k,f=J x n k)(m:∃x n k,h=J x n k)(o:∃x n k,i=J x n k):(results c a).run bz w=.ok (dw #[dW #[aJ n,aJ A,aJ k,e,f,h,i],a.getD S ix]) w:=by
 obtain⟨K,B,s,rfl⟩:=j;obtain⟨L,C,t,rfl⟩:=l;obtain⟨N,D,u,rfl⟩:=m;obtain⟨O,E,v,rfl⟩:=o;have b:a[F]?.getD ix=ay g:=by simpa using r
 have q:=kJ (P:=bz) w g Q 202 #[aJ n,aJ A,aJ k,J K B s,J L C t,J N D u,J O E v] d _ p underlying202 rfl (by kernel_rfl);simp[results,T,b,asAddr,q,Result.andThen]
def C7:aa:=dW #[aJ 2,aJ 1,aJ 0,aD,aD,aD,aD]
def OF{db:M}{K:DK}(h:cQ a db K)(hn:y K.files<=100000000)(hp:Pow a)(g:∀au∈K.files.map df.name,au=⟨#[108,111,103,45,49]⟩):cD bz 174 #[ay db] a λal w'=>al=aL (dw #[C7,.nilIface])/\I az a w':=by
 have o:I az a (cF (cF a<|ar #[aJ 0,aJ 0,aJ 0,aD,aD,aD,aD] 202)<|ar #[aJ 2,aJ 1,aJ 0,aD,aD,aD,aD] 202):=(cK az a).alloc _;have B:(cF (cF a<|ar #[aJ 0,aJ 0,aJ 0,aD,aD,aD,aD] 202)<|ar #[aJ 2,aJ 1,aJ 0,aD,aD,aD,aD] 202).heap[z<|G a]?=H (ar #[aJ 0,aJ 0,aJ 0,aD,aD,aD,aD] 202 (0,0)):=(gl _<|by simp).trans<|aB _ rfl;have C:(cF (cF a<|ar #[aJ 0,aJ 0,aJ 0,aD,aD,aD,aD] 202)<|ar #[aJ 2,aJ 1,aJ 0,aD,aD,aD,aD] 202).heap[z (G a)+1]?=H (ar #[aJ 2,aJ 1,aJ 0,aD,aD,aD,aD] 202 (0,0)):=aB _ (by simp);have F:=AI (db:=db) (K:=K) (h.aw o<|λ_ _=>id) hn;obtain⟨V,q,r,HP,HA⟩:=je o B C hp g;clear h hp g o B C;go_in
 go_wp2_with fail
 apply F.mono;rintro al w3⟨v3,f,rfl,n,m,e⟩;obtain⟨x3,c3,X⟩:=aA m;subst X;have A:=V.cr e;have D:=(e.block _ (am q) id).trans q;have E:=(e.block _ (am r) id).trans r;have ao:y f<=100000000:=by have:=n.length_eq;grind
 have L:∀x∈f,x=⟨#[108,111,103,45,49]⟩:=λx hx=>HA x<|n.mem_iff.1 hx;obtain⟨w,x,s,t,S⟩:=je m A D E L;clear m e A D E L n F;go_wp2;go_loopw [13] (λj wr=>∃(P:M),P<=y f/\j=ap P/\I az w3 wr) (λj _=>y f-(intOf j).toNat)
 case atStart=>exact⟨0,bj _,by go_num,I.refl _ _⟩
 (case round=>obtain⟨P,hj,rfl,i⟩:=hrel;have d:=(i.block _ (am s) id).trans s;have b:=(i.block _ (am t) id).trans t;by_cases l:P<y f;(·(have e1:(P:Z)<(y f:Z):=by omega);(have e2:(0:Z)<=(P:Z):=by omega);have N:=Pg<|HP.aw (x.cr i) id;(have k:∃ad c,x3=H (R ad c)/\aO wr (R ad<|c+P)=H (aj ⟨#[108,111,103,45,49]⟩):=by obtain⟨q1,⟨q2,q0⟩|⟨aq,Q,ac,q2,an,hc⟩⟩:=da w;omega;cases q2;refine⟨aq,Q,rfl,?_⟩;(have hg:(strs f)[P]?=H (aj f[P]):=by simp[strs,l]);rw[(ae S) _<|ak l]at hg;exact i.cell (hc _ _ hg) id (w.lt aq rfl).2);obtain⟨ad,c,hx,k⟩:=k;subst hx;obtain⟨T,u,v⟩:=dA i d b;clear i d b;(go_wp2_with fail);apply N.mono;rintro al w4⟨rfl,p⟩;have O:=(p.block _ (am v) id).trans v;have y0:=cellAt O 0 rfl;have W:=U<|T.cr p;clear p O N k;go_wp2;go_roundw;(case rel=>exact⟨P+1,l,by go_num,W⟩);case measure=>simp[intOf];omega);(have e1:¬(P:Z)<(y f:Z):=by omega);have y0:=cellAt b 0 rfl;have O:=cellAt b 1 rfl;have Q:=cellAt b 2 rfl;have W:=cellAt b 3 rfl;have y4:=cellAt b 4 rfl;have y5:=cellAt b 5 rfl;have y6:=cellAt b 6 rfl;(have N:∀j,wr.frozen? (R (z<|G a) j)=aY:=λj=>by simp[World.frozen?,d]);(have c:∀j,j<7->∃p,aO wr (R (z<|G a) j)=H p:=λj b=>by rw[bL d];simp_all);obtain⟨u0,z0⟩:=c 0 (by omega);obtain⟨u1,z1⟩:=c 1 (by omega);obtain⟨u2,z2⟩:=c 2 (by omega);obtain⟨u3,z3⟩:=c 3 (by omega);obtain⟨u4,z4⟩:=c 4 (by omega);obtain⟨u5,z5⟩:=c 5 (by omega);obtain⟨u6,z6⟩:=c 6 (by omega);have T:=U i;have u:=U d;clear i d b c;go_wp2;have k:=aT (i:=6) (u:=aD)<|aT (i:=5) (u:=aD)<|aT (i:=4) (u:=aD)<|aT (i:=3) (u:=aD)<|aT (i:=2) (u:=aJ 0)<|aT (i:=1) (u:=aJ 1)<|aT (i:=0) (u:=aJ 2) u;refine cP (wa rfl _ _ (z<|G a) 2 1 0 _ _ _ _ _ _ rfl k ⟨_,_,_,rfl⟩ ⟨_,_,_,rfl⟩ ⟨_,_,_,rfl⟩ ⟨_,_,_,rfl⟩) rfl ?_;refine⟨rfl,?_⟩;have v:=x.cr T;exact((((((v.setCell _ 0 _<|.inr<|ai _).setCell _ 1 _<|.inr<|ai _).setCell _ 2 _<|.inr<|ai _).setCell _ 3 _<|.inr<|ai _).setCell _ 4 _<|.inr<|ai _).setCell _ 5 _<|.inr<|ai _).setCell _ 6 _<|.inr<|ai _)
def Rd.aw{S:fA}{w w':Y}(r:Rd w c p D)(k:I S w w')(h:∀l,S l->c<l):Rd w' c p D:=by
 have g:=r.lt;obtain⟨v,q,n,j⟩:=r;refine⟨v,(k.block c g<|λm=>kU _<|h _ m).trans q,?_,j⟩;rcases n with⟨rfl,rfl⟩|⟨b,a,d,rfl,e,o⟩;exact .inl ⟨rfl,rfl⟩;have:=j b rfl;exact .inr ⟨b,a,d,rfl,e,λl c=>k.cell (o l c) (λm=>by have:=h _ m;omega)<|by omega⟩
structure sw(w0 wr:Y)(sb rb mb:M)(nx lg bt:Z)(vs:iC)(Ds:cw cf)(ks:aa->Prop)(rest:eO):Prop where
 box:wr.heap[sb]?=H (ar (aJ nx::aJ lg::aJ bt::vs).toArray 202 (0,0))
 zx:y vs=4
 Bb:y Ds=4
 rows:∀(j:M)(v:aa)(D:cf),vs[j]?=H v->Ds[j]?=H D->wr.ownsRow (mb+1) 289 4 v (y D) (dy D)
 ne:∀(j j':M)(v v':aa)(q:M),j≠j'->vs[j]?=H v->vs[j']?=H v'->ct v=H q->ct v'≠H q
 set:ly wr mb (.int .u64) ks
 rd:Rd wr rb rest aY
 aw:I az w0 wr
 ord:z (G w0)<=rb/\rb<sb/\sb<mb/\mb<z (G wr)
def sw.row{n wr:Y}{a:cw cf}{l:aa->Prop}(h:sw n wr b c g m K S x a l p){j:M}(k:x[j]?=H d):∃D,a[j]?=H D/\wr.ownsRow (g+1) 289 4 d (y D) (dy D):=by
 have f:j<4:=by rw[<-h.zx];grind
 have e:a[j]?=H (a[j]'(by rw[h.Bb];exact f)):=aI _;exact⟨_,e,h.rows j d _ k e⟩
def sw.own{n wr:Y}{a:cw cf}{k:aa->Prop}(o:sw n wr c g l m K S x a k p)(j:x[A]?=H d){q:M}(e:ct d=H q):l<q/\q<z (G wr):=by
 obtain⟨D,_,h⟩:=o.row j;have:=aG h q e;omega
def sw.cell{h wr:Y}{d:cw cf}{e:aa->Prop}{a:eO}(k:sw h wr c g l m K S x d e a)(j:M):aO wr (R c<|3+j)=x[j]?:=by
 rw[bL k.box,vN 3 j];simp
def sw.read{j wr e:Y}{f:cw cf}{i:aa->Prop}{a:eO}(h:sw j wr b c g m K S x f i p)(d:I (λl=>l=c) wr e)(k:Rd e c a aY):sw j e b c g m K S x f i a where
 box:=(d.block b (am h.box) (by have:=h.ord;omega)).trans h.box
 zx:=h.zx
 Bb:=h.Bb
 rows:=λl v D b g=>d.own (h.rows l v D b g) (λq k n=>by have:=h.own b k;have:=h.ord;omega)
 ne:=h.ne
 set:=h.set.di<|d.block g h.ord.2.2.2 (by have:=h.ord;omega)
 rd:=k
 aw:=h.aw.trans d<|λl b=>.inr (by have:=h.ord;omega)
 ord:=⟨h.ord.1,h.ord.2.1,h.ord.2.2.1,ag h.ord.2.2.2 d.size⟩
def sw.still{f wr h:Y}{a:cw cf}{e:aa->Prop}(i:sw f wr b c g m K S x a e p)(d:I az wr h):sw f h b c g m K S x a e p:=i.read (d.mono cO)<|i.rd.aw d cO
def sw.EU{i wr e:Y}{f:cw cf}{l d:aa->Prop}(h:sw i wr b c g m K S x f l p)(a:wr.grownBy e (H g))(k:ly e g (.int .u64) d):sw i e b c g m K S x f d p where
 box:=(a.block b (am h.box) (by have:=h.ord;grind)).trans h.box
 zx:=h.zx
 Bb:=h.Bb
 rows:=λo v D b g=>(fm a).own (h.rows o v D b g) (λq k j=>by have:=h.own b k;omega)
 ne:=h.ne
 set:=k
 rd:=h.rd.aw (fm a) (λn j=>by have:=h.ord;omega)
 aw:=h.aw.trans (fm a)<|λn j=>.inr (by have:=h.ord;have:n=g:=j;omega)
 ord:=⟨h.ord.1,h.ord.2.1,h.ord.2.2.1,ag h.ord.2.2.2 a.size⟩
def sw.ks{i wr:Y}{e:Z}{d:cw cf}{f a:aa->Prop}(h:sw i wr c g l m K e x d f p)(j:∀k,a k↔f k):sw i wr c g l m K e x d a p:={h with set:=h.set.congr j}
def sw.put{X wr r:Y}{O:cw cf}{W:aa->Prop}{w:eO}{D':cf}(s:sw X wr c g l m K S x O W w)(v:x[A]?=H d)(L:eL wr r d u)(Q:r.ownsRow (l+1) 289 4 u (y D') (dy D')):sw X (cA r (R c<|3+A) u) c g l m K S (x.set A u) (O.set A D') W w:=by
 have C:I (λF=>ct d=H F) wr r:=I.eT L;have o:=λq=>s.own (q:=q) v;have t:=s.ord;have D:r.heap[c]?=H (ar (aJ m::aJ K::aJ S::x).toArray 202 (0,0)):=(C.block c (am s.box) (λk=>by have:=o _ k;omega)).trans s.box;have j:I (λF=>F=c) r (cA r (R c<|3+A) u):=(gW c r);have B:∀q,ct u=H q->l<q/\q<z (G r):=λq a=>by have:=aG Q q a;omega
 refine⟨?_,by rw[eS];exact s.zx,by rw[eS];exact s.Bb,?_,?_,?_,?_,?_,?_⟩;rw[aT D,vN 3 A];simp;intro V ac n i e;by_cases k:A=V;subst k;rw[ik]at i e;rw[v]at i;obtain⟨N,h,_⟩:=s.row v;rw[h]at e;cases i;cases e;exact j.own Q (λq a k=>by have:=B q a;omega);rw[gu k]at i e;have h:=C.own (s.rows V ac n i e)<|λq a E=>s.ne V A ac d q (Ne.symm k) i v a E;exact j.own h (λq a k=>by have:=s.own i a;omega);intro V i' ac u' q n i h a;by_cases k:A=V;subst k;rw[gu n]at h;rw[ik,v]at i;cases i;intro e;change ct u=H q at a;rcases L.ur with E|⟨N,E,hy⟩;exact s.ne _ _ _ _ q n v h (E.symm.trans a) e;rw[E]at a;cases a;have:=s.own h e;omega;rw[gu k]at i;by_cases P:A=i';subst P;rw[ik,v]at h;cases h;intro e;change ct u=H q at e;rcases L.ur with E|⟨N,E,hy⟩;exact s.ne _ _ _ _ q n i v a<|E.symm.trans e;rw[E]at e;cases e;have:=s.own i a;omega;rw[gu P]at h;exact s.ne _ _ _ _ q n i h a;exact(s.set.di<|C.block l t.2.2.2 (λk=>by have:=o _ k;omega)).di (j.block l (ag t.2.2.2 C.size)<|by omega);exact(s.rd.aw C (λF k=>by have:=o _ k;omega)).aw j (λF k=>by have:F=c:=k;omega);exact(s.aw.trans C<|λF k=>.inr (by have:=o _ k;omega)).trans j<|λF k=>.inr (by have:F=c:=k;omega);grind[gM,Nat.lt_of_lt_of_le,I.size]
structure nX(Ms Ds:cw cf)(i k:M):Prop where
 low:∀j,j<i->Ds[j]?=Ms[j]?
 now:∀m,Ms[i]?=H m->Ds[i]?=H (m.take k)
 vz:∀j,i<j->j<4->Ds[j]?=H []
theorem nX.start(c:cw cf):nX c [[],[],[],[]] 0 0 where
 low:=λj h=>absurd h<|ft j
 now:=λm _=>rfl
 vz:=λj h d=>by
  grind
theorem nX.xP{c e:cw cf}{i:M}{m:cf}(h:nX c e i (y m))(f:c[i]?=H m)(d:y c=4):nX c e (i+1) 0 where
 low:=λj g=>by
  rcases gU j i with k|k
  .exact h.low j k
  .obtain rfl:j=i:=by omega
   rw[f,h.now m f,aX]
 now:=λj f=>by
  have:i+1<4:=by
   rw[<-d];grind
  rw[sJ];exact h.vz _ (Nat.lt_succ_self i) this
 vz:=λj g d=>h.vz j (by omega) d
theorem nX.one{d f:cw cf}{i k:M}{m:cf}(h:nX d f i k)(g:d[i]?=H m):nX d (f.set i<|m.take<|k+1) i (k+1)where
 low:=λj e=>by rw[gu<|by omega];exact h.low j e
 now:=λl c=>by
  rw[g]at c;cases c;rw[ik,h.now m g];rfl
 vz:=λj e c=>by rw[gu<|by omega];exact h.vz j e c
theorem nX.all{d c:cw cf}(h:nX d c 4 0)(g:y d=4)(f:y c=4):c=d:=by
 refine tY<|λj=>?_;rcases gU j 4 with e|e;exact h.low j e;grind
def xH(c:cw cf)(i k:M):cf:=(c.take i).flatten++((c[i]?).getD []).take k
theorem Sz(c:cw cf):xH c 0 0=[]:=by simp[xH]
theorem Vp{c:cw cf}{i k:M}{m:cf}(d:c[i]?=H m)(e:k<y m):xH c i (k+1)=xH c i k++[m[k]]:=by
 unfold xH;rw[d];simp_all
theorem Pb{c:cw cf}{i:M}{m:cf}(e:c[i]?=H m):xH c (i+1) 0=xH c i (y m):=by
 unfold xH;rw[e];have d:i<y c:=by grind
 have f:c[i]=m:=by rw[aI d]at e;grind
 simp only[mB,aX,sJ,ee];rw[ah d,dB,f];simp
theorem EK{c:cw cf}{i k:M}{m:cf}(d:c[i]?=H m)(g:k<y m):c.flatten=xH c i k++m[k]::(m.drop (k+1)++(c.drop<|i+1).flatten):=by
 have f:i<y c:=by grind
 have j:c[i]=m:=by rw[aI f]at d;grind
 have e:c.flatten=(c.take i).flatten++(m++(c.drop<|i+1).flatten):=by grind[take_append_drop,drop_eq_getElem_cons,flatten_append,flatten_cons]
 have h:m.take k++m[k]::m.drop (k+1)=m:=by rw[<-aZ g,bN]
 unfold xH;rw[d,e];grind
theorem Pc{c:cw cf}{i k:M}{m:cf}(f:(c.flatten.map bA.num).Nodup)(e:c[i]?=H m)(d:k<y m):∀u∈xH c i k,u.num≠m[k].num:=by
 grind[EK,nodup_append,mem_map_of_mem]
theorem SX{c:cw cf}{i k:M}{m:cf}(e:c[i]?=H m)(d:k<y m):m[k]∈c.flatten:=by
 rw[EK e d];simp
def ql(c:cw cf)(i:M):eO:=((c.drop i).map se).flatten
theorem LN{c:cw cf}{i:M}{m:cf}(e:c[i]?=H m):ql c i=le 4 (y m)++(m.flatMap uM++ql c (i+1)):=by
 have d:i<y c:=by grind
 have f:c[i]=m:=by rw[aI d]at e;grind
 unfold ql;rw[aZ d,bZ,bG,f];unfold se;rw[bD]
theorem Sq{c:cw cf}{i:M}(h:y c<=i):ql c i=[]:=by
 unfold ql;rw[List.drop_eq_nil_iff.2 h];rfl
theorem Wp(t:bA):kE (uM t):=(kE.le 8 _).append<|(kE.le 4 _).append<|(kE.le 4 _).append<|kE.le 4 _
theorem BX(m:cf):kE (m.flatMap uM):=λx d=>by
 obtain⟨t,_,c⟩:=mD.1 d;exact Wp t x c
theorem vu(d:cw cf)(i:M):kE (ql d i):=λx c=>by
 unfold ql at c;obtain⟨l,e,c⟩:=bE.1 c;obtain⟨m,_,rfl⟩:=bW.1 e;exact((kE.le 4 _).append<|BX m) x c
theorem Ba(m:cf):y (m.flatMap uM)=20*y m:=by
 have:=pP m;unfold se at this;rw[af,cC]at this;omega
theorem Ap(c:cw cf):∀i,y (ql c i)<=4*y c+20*y c.flatten:=by
 intro i;unfold ql
 have h:∀L:cw cf,y ((L.map se).flatten)=4*y L+20*y L.flatten:=by
  intro L;induction L with
  |nil=>rfl
  |cons m L d=>
   rw[bZ,bG,af,d,pP,bG,af,aS];omega
 rw[h];have e:y (c.drop i)<=y c:=by simp
 have f:y (c.drop i).flatten<=y c.flatten:=by(conv=>rhs;rw[<-bN i c,dB,af]);omega
 omega
section
variable{P:Program}(w:Y){b:Array Oper}{rest:cw Oper}{o:Oper}{a:Act}{Q:Exit->Act->Y->Prop}
theorem Gm(p:o.guard=none)(j x k:Operand)(D:TypeId)(h:o.op=Op.insert D j x k)(C F:TypeId)(s:P.underlying D=H (.map C F))(m:TypeDesc)(q:P.underlying C=H m)(l:M)(i:aa->Prop)(r:a.eval j=.map (H l))(K:ly w l m i)(c:aa)(g:MapKept.IsKey m c)(u:a.eval x=c)(t:a.eval k=dW #[])(n:∀d,ly d l m (λx=>i x\/x=c)->w.grownBy d (H l)->z (G d)=z (G w)->wpList P b Q rest (a.put o.dst ix) d):wpList P b Q (o::rest) a w:=by
 refine kP p λE f=>?_;obtain⟨d,e,v,A,B⟩:=zF s q K c g;unfold Oper.wp;simp[execOp,h,r,u,t,e,Result.andThen];exact f _ _<|n d v A B
end
def Tc(h:cQ a b j)(O:y j.files<=100000000)(F:Pow a)(l:∀S∈j.files.map df.name,S=⟨#[108,111,103,45,49]⟩)(E:dX (vw j.files) gP=none):cD bz 105 #[ay b] a λL Q=>L=aL (dw #[C7,.nilIface])/\I az a Q:=by
 obtain⟨e,f⟩:∃e,cF a (ar #[aJ 0,aJ 0,aJ 0,aD,aD,aD,aD] 202)=e:=⟨_,rfl⟩;obtain⟨m,d⟩:∃m,cF e (ar #[aj gP,ap 10] 227)=m:=⟨_,rfl⟩;have o:I az a e:=by rw[<-f];exact(cK az a)
 have k:I az a m:=by rw[<-d];exact o.alloc _
 have C:e.heap[z<|G a]?=H (ar #[aJ 0,aJ 0,aJ 0,aD,aD,aD,aD] 202 (0,0)):=by rw[<-f];exact aB _ rfl
 have s:m.heap[z<|G a]?=H (ar #[aJ 0,aJ 0,aJ 0,aD,aD,aD,aD] 202 (0,0)):=by rw[<-d];grind[gl,am]
 have t:aO m (R (z<|G e) 1)=H (ap 10):=by(have:m.heap[z<|G e]?=H (ar #[aj gP,ap 10] 227 (0,0)):=by rw[<-d];exact aB _ rfl);rw[bL this];rfl
 have i:=Hu (db:=b) (K:=j) gP (w:=e) (h.aw o<|λ_ _=>id) E;rw[d]at i;unfold gP at i;have u:=QU (z<|G e) 10 m t;have n:=OF (db:=b) (K:=j) (h.aw k<|λ_ _=>id) O (F.aw k id) l;unfold C7 at n|-;obtain⟨A,r,B⟩:=dA k s f;clear h F l E o k C s f d t;go_in
 go_wp2_with fail
 rw[ae B];apply i.mono;rintro L D⟨rfl,P⟩;subst D;go_wp2_with fail
 apply u.mono;rintro L D⟨rfl,P⟩;subst D;go_wp2_with fail
 apply n.mono;rintro L K⟨rfl,p⟩;have g:=(p.block _ (am r) id).trans r;have T:∀q,K.frozen? (R (z<|G a) q)=aY:=λq=>by simp[World.frozen?,g]
 have c:∀q,q<7->∃w,aO K (R (z<|G a) q)=H w:=λq b=>by rw[bL g];simp_all
 obtain⟨u0,V⟩:=c 0 (by omega);obtain⟨u1,W⟩:=c 1 (by omega);obtain⟨u2,X⟩:=c 2 (by omega);obtain⟨u3,z3⟩:=c 3 (by omega);obtain⟨u4,z4⟩:=c 4 (by omega);obtain⟨u5,z5⟩:=c 5 (by omega);obtain⟨u6,z6⟩:=c 6 (by omega);have N:=U<|A.cr p;have x:=U g;clear p g c i u n;go_wp2;have v:=aT (i:=6) (u:=aD)<|aT (i:=5) (u:=aD)<|aT (i:=4) (u:=aD)<|aT (i:=3) (u:=aD)<|aT (i:=2) (u:=aJ 0)<|aT (i:=1) (u:=aJ 1)<|aT (i:=0) (u:=aJ 2) x;refine cP (wa rfl _ _ (z<|G a) 2 1 0 _ _ _ _ _ _ rfl v ⟨_,_,_,rfl⟩ ⟨_,_,_,rfl⟩ ⟨_,_,_,rfl⟩ ⟨_,_,_,rfl⟩) rfl ?_;refine⟨rfl,?_⟩;exact((((((N.setCell _ 0 _<|.inr<|ai _).setCell _ 1 _<|.inr<|ai _).setCell _ 2 _<|.inr<|ai _).setCell _ 3 _<|.inr<|ai _).setCell _ 4 _<|.inr<|ai _).setCell _ 5 _<|.inr<|ai _).setCell _ 6 _<|.inr<|ai _
def WW(h:cQ a b j)(cq:∀f∈j.files,y f.bytes<=1099511627776)(L:((vw j.files).map (·.1)).Nodup):cD bz 30 #[.pointer<|H ⟨b,0,none⟩] a λcj w'=>∃g K',cj=.returned (.pointer<|H ⟨g,0,none⟩)/\cQ w' g K'/\(vw K'.files).Perm (vw j.files)/\K'.eJ=[]/\(∀k,K'.aU g k->z (G a)<=k)/\I (λ_=>False) a w':=by
 have el:aO a ⟨b,0,none⟩=H (.map<|H j.nb):=by rw[bL h.iq];rfl
 have em:aO a ⟨b,3,none⟩=H (.int .i64 1099511627776):=by rw[bL h.iq];rfl
 have cn:=CR a;obtain⟨HD,HB,HN⟩:=dA h cq L;clear h cq L;go_in
 go_wp2_with fail
 apply cn.mono;rintro cj w1⟨rfl,r,cp⟩;have al:I (λ_=>False) a w1:=I.aR cp;have ac:=(ae HD).aw al<|λ_ _=>id;have fq:aO w1 ⟨b,0,none⟩=H (.map<|H j.nb):=by rw[bL ac.iq];rfl
 obtain⟨g,bi⟩:∃g,z (G a)+2=g:=⟨_,rfl⟩;rw[bi]at r|-;obtain⟨K1,D⟩:∃K1,rK (z<|G a)=K1:=⟨_,rfl⟩;rw[D]at r;have dd:K1.eJ=[]:=by rw[<-D];rfl
 have cu:K1.files=[]:=by rw[<-D];rfl
 have ba:∀k,K1.aU g k->z (G a)<=k:=by intro k o;rw[<-D,<-bi]at o;rcases o with d|d|d|d|⟨gn,hx,d⟩|⟨gr,hg,d⟩;omega;have:k=z (G a):=d;omega;have:k=z (G a)+1:=d;omega;cases d;cases hx;cases hg
 obtain⟨cb,fL,x,ce,au,eg,eb⟩:=xV ac.now ac r al ba dd cu;have eF:=al.size;clear cn cp al ac r ba dd cu D bi el em
 go_wp2_with(first
  |(at_range;refine uz _ rfl _ 78 rfl 9 134 underlying78 j.nb _ rfl (ae cb) ?_;intro w0 bb cE ey;have bv:=U bb;have B:=U cE;clear bb cE))
 go_frame
 obtain⟨rb,dv⟩:∃rb,z (G w1)=rb:=⟨_,rfl⟩;rw[dv]at bv|-;have fu:z (G a)<=rb:=by omega
 obtain⟨bq,ej,bu⟩:=dA ((ae x).aw (I.dJ (S:=λ_=>False) (ae B)<|by simp)<|λ_ _=>id) ((ae ce).cr<|I.dJ (S:=λ_=>False) (ae B)<|by simp) (show∀k,K1.aU g k->z (G a)<=k/\k≠rb fromλk o=>⟨(ae au) k o,by have:=(ae x).lt k o;omega⟩);clear x ce au B eF ey dv;go_loopw [4] (λ_ wr=>∃(ff:cw df)(K':DK),(vw K'.files++vw ff).Perm (vw j.files)/\K'.eJ=[]/\cQ wr g K'/\(∀k,K'.aU g k->z (G a)<=k/\k≠rb)/\qE wr j.nb rb (j.files.map df.nm) (ff.map df.nm)/\(∀f∈ff,f∈j.files)/\I (λ_=>False) a wr) (λ_ wr=>wr.rangeLeft j.nb rb)
 (case atStart=>refine⟨j.files,K1,?_,ae eg,ae bq,ae bu,ae bv,λ_ d=>d,ae ej⟩;rw[ae eb];exact mG _)
 case round=>
  obtain⟨ff,K',hp,hm,cs,cB,db,hL,ht⟩:=hrel;obtain⟨bT,HT,HP,br,m,HL,HM⟩:=xV db ht hp cs cB hL hm;clear db ht hp cs cB hL hm;go_wp2_with(first
   |(at_next;refine vS _ rfl _ rfl j.nb rb _ _ rfl (ae bT) ?_ ?_))
  .intro c;obtain rfl:ff=[]:=by grind
   go_wp2;go_ret;refine⟨g,rfl,K',ae br,?_,ae HM,λk o=>((ae m) k o).1,ae HT⟩;have:=ae HP;simpa[vw]using this
  .intro gk pk pv fv n ea bc cM ez gg;obtain⟨fx,f,fz,rfl,rfl,ds,rfl⟩:=EX ea;simp only[df.nm,pm,ji]at ds;obtain⟨rfl,rfl⟩:=ds;have bp:I (λk=>k=rb) wr n:=fm cM;have V:I (λ_=>False) a n:=(ae HT).trans bp (λgn hx=>.inr<|by omega);have s:=(ae br).aw bp<|λk o cj=>((ae m) k o).2 cj;have cv:f∈j.files:=(ae HL) f (by simp);have cx:=(ae HD).files f cv;have l:=cx.aw V id<|λ_ _ d=>d;have bk:=IH (v:=f.data) (bs:=f.bytes) (w:=n.drew) (l.2.1.bytes.of_heap rfl) ((ae HB) f cv)<|λk o=>((aG l.2.1 k o).2:k<z (G n));have ev:=am l.1;have k0:aO n.drew ⟨g,0,none⟩=H (.map<|H K'.nb):=by rw[bY,bL s.iq];rfl
   have kd:aO n.drew ⟨f.pS,0,none⟩=H f.data:=by rw[bY,bL l.1];rfl
   obtain⟨fl,fk,eo⟩:=aA l.2.1;have bd:=am s.iq;obtain⟨c,C,A,ec⟩:=gH s V bc l;clear ea bc cM ez bp V s cx l;rw[eo]at kd bk;go_wp2_with fail
   rename_i QQ KK cm;refine cI (λe=>aO e ⟨g,0,none⟩=H (.map<|H K'.nb)/\aO e ⟨f.pS,0,none⟩=H (.slice fl (y f.bytes) fk)) 17 (by kernel_rfl) ?_;have bg:=And.intro k0 kd;refine cY 0 ?_;iterate 9 (refine xw (v:=?_) bg rfl (by kernel_rfl) (λ_ _ _ h=>h) (Or.inl ⟨by rfl,?_⟩) ?_;rotate_left;(focus(rintro e⟨z0,z1⟩;go_simp;try with_reducible rfl));try simp only[Act.put,Nat.reduceAdd,cz,dC,dl])
   apply eC;refine cY 10 ?_;iterate 5 (refine xw (v:=?_) bg rfl (by kernel_rfl) (λ_ _ _ h=>h) (Or.inl ⟨by rfl,?_⟩) ?_;rotate_left;(focus(rintro e⟨z0,z1⟩;go_simp;try with_reducible rfl));try simp only[Act.put,Nat.reduceAdd,cz,dC,dl])
   apply eC;refine aM (i:=9) rfl rfl (by kernel_rfl) ?_;intro K9 cl;go_simp;apply bk.mono;rintro cj q⟨v3,rfl,bo,bh⟩;obtain⟨x3,c3,eB⟩:=aA bo;subst eB;have P:I (λ_=>False) n q:=(ci (λ_=>False) n).cr<|I.aR (S:=λ_=>False) bh;have E:aO q ⟨g,0,none⟩=H (.map<|H K'.nb)/\aO q ⟨f.pS,0,none⟩=H (.slice fl (y f.bytes) fk):=⟨P.cell (by rw[bY]at k0;exact k0) id bd,P.cell (by rw[bY]at kd;exact kd) id ev⟩;refine cl _ _ (λ_=>E) ?_;try simp only[Act.put,cz,dC,dl]
   refine lF (i:=15) (v:=?_) rfl rfl (by kernel_rfl) (by kernel_rfl) (by kernel_rfl) (by kernel_rfl) (λ_ _ _ h=>h) (Or.inl ⟨by rfl,?_⟩) E ?_;rotate_left
   .rintro e⟨z0,z1⟩;go_simp;try with_reducible rfl
   try simp only[Act.put,cz,dC,dl]
   refine aM (i:=16) rfl rfl (by kernel_rfl) ?_;intro gc av;go_simp;have dx:=P.size;refine av _ _ (λ_=>⟨by rw[ia<|by omega];exact E.1,by rw[ia<|by omega];exact E.2⟩) ?_;try simp only[Act.put,cz,dC,dl]
   obtain⟨W4,F⟩:∃W4,cF q (.cells #[.slice x3 (y f.bytes) c3,.int .i64<|y f.bytes] 138)=W4:=⟨_,rfl⟩;rw[F];have an:I (λ_=>False) n W4:=by rw[<-F];exact P.alloc _
   have dm:W4.heap[z<|G q]?=H (.cells #[.slice x3 (y f.bytes) c3,.int .i64<|y f.bytes] 138 (0,0)):=by rw[<-F];exact aB _ rfl
   have dn:W4.ownsRow (z<|G n.drew) 5 1 (.slice x3 (y f.bytes) c3) (y f.bytes) (f.bytes.map<|Value.int .u8):=by rw[<-F];exact aN bo _
   have K:=(ae c).now.aw an id;refine aM (i:=17) rfl rfl (by kernel_rfl) ?_;intro ge ax;try simp only[cy,bF,bQ]
   refine Ay (.tmp 24) (.tmp 25) (.tmp 37) 78 rfl 9 134 underlying78 underlying9 K'.nb _ rfl K f.name (.pointer<|H ⟨z<|G q,0,none⟩) rfl rfl ?_;intro W ad bm dT;refine ax _ _ wX ?_;refine cW (by kernel_rfl) ?_ _;show KK _ _;apply cm;have N:f.name∉K'.files.map df.name:=by
    have hp:=(ae HP).map<|λ(gn:ab×eO)=>gn.1;have L:=hp.nodup_iff.2<|ae HN;rw[aQ,iK]at L;intro hc;refine L.2.2 f.name ?_ f.name ?_ rfl
    .simpa[vw]using hc
    .simp[vw]
   have t:=Na N;rw[EG t]at ad;have ao:I (λk=>k=K'.nb) n W:=(an.mono (T:=λk=>k=K'.nb) cO).trans (fm bm)<|λ_ d=>.inl d;have en:g≠K'.nb:=rC (ae c).now (ae c).iq;have gf:g≠K'.sb:=rC (ae c).safe (ae c).iq;have bn:W.heap[g]?=n.heap[g]?:=ao.block g bd en;have y0:aO W.drew ⟨g,0,none⟩=H (.map<|H K'.nb):=by rw[bY,bL<|bn.trans (ae c).iq];rfl
   have y1:aO W.drew ⟨g,1,none⟩=H (.map<|H K'.sb):=by rw[bY,bL<|bn.trans (ae c).iq];rfl
   have O:gI W K'.sb K'.sm:=(ae c).safe.aw ao<|λcj=>(ae c).ne cj.symm;have dc:=MZ (v:=.pointer<|H ⟨z<|G q,0,none⟩) t;have bf:gI W.drew K'.nb (K'.files.map df.nm++[(f.name,.pointer<|H ⟨z<|G q,0,none⟩)]):=ad.aw (ci (λ_=>False) W) id;have u:gI W.drew K'.sb K'.sm:=O.aw (ci (λ_=>False) W) id;obtain⟨j0,eq,eu,es,et⟩:=cH uj;clear es et;obtain⟨ek,ca,X,ei,ed⟩:=je ao dm dn ad bm;have cd:=U u;obtain⟨fe,ef,fb,fd,cc⟩:=je an dc t N<|And.intro dx dT;clear dc t N dx dT cm cl av ax bg E k0 kd bo bh bk K ad bm O u bn dm dn ao an P F;go_wp2_with fail
   have co:=And.intro y0 (And.intro y1 bf);clear y0 y1 bf;refine cI (λe=>aO e ⟨g,0,none⟩=H (.map<|H K'.nb)/\aO e ⟨g,1,none⟩=H (.map<|H K'.sb)/\gI e K'.nb (K'.files.map df.nm++[(f.name,.pointer<|H ⟨z<|G q,0,none⟩)])) 11 (by kernel_rfl) ?_;refine cY 0 ?_;iterate 10 (refine xw (v:=?_) co rfl (by kernel_rfl) (λ_ _ _ h=>h) (Or.inl ⟨by rfl,?_⟩) ?_;rotate_left;(focus(rintro e⟨z0,z1,z2⟩;go_simp;try rfl));simp only[Act.put,Nat.reduceAdd,cz,dC,dl,cy,bF,bQ])
   apply eC;refine lF (i:=10) (v:=.pointer<|H ⟨z<|G q,0,none⟩) rfl rfl (by kernel_rfl) (by kernel_rfl) (by kernel_rfl) (by kernel_rfl) (λ_ _ _ h=>h) (Or.inl ⟨by rfl,?_⟩) co ?_
   .rintro e⟨z0,z1,z2⟩;have bl:=uc underlying78 underlying9 eq eu z2 f.name;rw[ae ef]at bl;simp only[mB]at bl;clear z0 z1 z2;go_simp;try with_reducible rfl
   simp only[Act.put,cz,dC,dl,cy,bF,bQ];refine aM (i:=11) rfl rfl (by kernel_rfl) ?_;intro gb ck;try simp only[cy,bF,bQ]
   refine Ay (.tmp 41) (.tmp 42) (.tmp 48) 78 rfl 9 134 underlying78 underlying9 K'.sb _ rfl (ae cd) f.name (.pointer<|H ⟨z<|G q,0,none⟩) rfl rfl ?_;intro w6 dk cT eA;refine ck _ _ wX ?_;refine cW (by kernel_rfl) ?_ _;have aq:I (λk=>k=K'.sb) W w6:=(ci (λk=>k=K'.sb) W).trans (fm cT)<|λ_ d=>.inl d;have p:I (λk=>k=K'.nb\/k=K'.sb) n w6:=((ae ek).mono (T:=λk=>k=K'.nb\/k=K'.sb)<|λ_ d=>.inl<|.inl d).trans aq<|λ_ d=>.inl<|.inr d;have Q:I (λk=>k=K'.nb\/k=K'.sb) W4 w6:=((I.dJ (S:=λk=>k=K'.nb\/k=K'.sb) (ae ed)<|by grind)).trans aq<|λ_ d=>.inl<|.inr d;have w:=U<|show z (G n)<=z (G q)/\True from⟨(ae cc).1,trivial⟩;have fr:=(ae c).lt K'.nb<|.inr<|.inl rfl;have fs:=(ae c).lt K'.sb<|.inr<|.inr<|.inl rfl;have bt:=U<|(ae c).add (f:=⟨f.name,z<|G q,.slice x3 (y f.bytes) c3,f.bytes,y f.bytes⟩) (ae HM) p ((ae ei).aw aq<|λcj=>(ae c).ne cj) dk ⟨(Q.block _ (am<|ae ca) (λd=>by have:=(ae w).1;rcases d with d|d<;>omega)).trans<|ae ca,er (Q.own (ae X) (λk o d=>by have:=((ae X).lt k o).1;have cj:z (G n.drew)=z (G n):=rfl;rcases d with d|d<;>omega))<|bj _,(ae ec).2.2⟩ (ae w).1<|λk o=>((ae X).lt k o).1;have ch:=U ((ae C).trans p (λk d=>by
    have h1:=((ae m) K'.nb<|.inr<|.inl rfl).1;have h2:=((ae m) K'.sb<|.inr<|.inr<|.inl rfl).1;rcases d with d|d
    .grind
    grind))
   have fn:j.nb<z (G a):=(ae HD).lt j.nb<|.inr<|.inl rfl;have bx:=U ((ae A).kept (p.block _ (by have:=(ae C).size;omega) (λd=>by
    have h1:=((ae m) K'.nb (.inr (.inl rfl))).1;have h2:=((ae m) K'.sb (.inr (.inr (.inl rfl)))).1;rcases d with d|d<;>omega)) (p.block _ (ae A).lt (λd=>by
     have h1:=((ae m) K'.nb (.inr (.inl rfl))).2;have h2:=((ae m) K'.sb (.inr (.inr (.inl rfl)))).2;rcases d with d|d<;>omega)))
   clear dk cT eA aq p Q;go_wp2;go_roundw;case rel=>
    obtain⟨ex,bl⟩:=ae bt;refine⟨fx++fz,{K' with files:=K'.files++[⟨f.name,z<|G q,.slice x3 (y f.bytes) c3,f.bytes,y f.bytes⟩],sm:=K'.sm.put f.name (.pointer<|H ⟨z<|G q,0,none⟩)},?_,ae HM,ex,?_,?_,λgr hg=>(ae HL) gr ?_,ae ch⟩
    .refine List.Perm.trans ?_<|ae HP;show List.Perm (vw (K'.files++[⟨f.name,z<|G q,.slice x3 (y f.bytes) c3,f.bytes,y f.bytes⟩])++vw (fx++fz)) (vw K'.files++vw (fx++f::fz));simp only[vw,aQ,bZ,fW,bD,jU];exact qN _ uT.symm
    .intro k o;have bh:=(ae w).1;have gj:=(ae C).size;have gi:=(ae A).lt;rcases bl k o with d|d|d
     .exact(ae m) k d
     .have:k=z (G q):=d;grind
     .have:=((ae X).lt k d).1;have cj:z (G n.drew)=z (G n):=rfl;grind
    .rw[aQ];exact ae bx
    .simp only[aE,bH]at hg|-;grind
   case measure=>rw[(ae bx).left_eq,(ae bT).left_eq];simp
def uh(a:cw oo):M:=y<|a.filter<|λx=>x.live
def Fl(a:cw oo)(x:oo):uh (a++[x])=uh a+(if x.live then 1 else 0):=by
 unfold uh;rw[lf,af];cases h:x.live<;>simp[h]
def Fm(a:cw oo):uh a<=y a:=eK _ _
def UP(a:cw oo)(x:oo):Gs (a++[x])=Gs a++[aK x.live,x.v]:=by
 induction a with
 |nil=>rfl
 |cons c r b=>simp only[cL,Gs,b]
def EE(f:Option M)(h:mO a b f F bU d):cD bz 24 #[ay b] a λi g=>i=aL (dw #[ap 0,ap 6])/\g=a:=by
 obtain⟨⟨v,c,_,_⟩,_,_⟩:=h;have e:=cellAt c 2 rfl;clear c;go_in
 go_wp2;go_ret2
 simp_all
def Ju(E:Option M)(c:cw oo)(h:mO a b E F aY d)(o:KF a d c)(P:4<=uh c):cD bz 24 #[ay b] a λN K=>N=aL (dw #[ap 0,ap 2])/\K=a:=by
 obtain⟨⟨T,n,_,_⟩,_,_⟩:=h;have u:=cellAt n 1 rfl;have v:=cellAt n 2 rfl;have B:=o.small;have A:=Fm c;rcases o.row.2 with⟨_,O⟩|⟨L,g,t,rfl,x,i⟩;omega;have s:=U (show∀l(e:l<y c),aO a (R L<|g+l*2)=H (aK c[l].live)fromλl e=>i _ _ (yz c l e).1);clear n o i;go_in
 go_wp2;go_loopw [4,5] (λe l wr=>∃j:M,j<=y c/\l=ap j/\e=ap (uh (c.take j):M)/\wr=a) (λ_ l _=>y c-(intOf l).toNat)
 case atStart=>exact⟨0,bj _,rfl,rfl,rfl⟩
 case round=>
  obtain⟨j,Q,rfl,rfl,D⟩:=hrel;subst wr;by_cases f:j<y c
  .have r:=s j f;have e:=Fl (c.take j) c[j];rw[<-ah f]at e;have p:=Fm<|c.take j;have m:y (c.take j)<=y c:=by rw[dU];omega
   have w:(j:Z)<(y c:Z):=by omega
   have k:=U e;clear e m;generalize uh (c.take j)=q at*;have S:q<=1000000000:=by rw[dU]at p;omega
   have C:IntKind.i64.wrap ((q:Z)+1)=(q:Z)+1:=by rw[bw];omega
   clear p;cases hl:c[j].live with
   |true=>
    rw[hl]at r k;go_wp2;go_roundw;case rel=>exact⟨j+1,f,by go_num,by rw[ae k];simp,trivial⟩
    case measure=>simp[intOf];omega
   |false=>
    rw[hl]at r k;go_wp2;go_roundw;case rel=>exact⟨j+1,f,by go_num,by rw[ae k];simp,trivial⟩
    case measure=>simp[intOf];omega
  .have e:j=y c:=by omega
   subst e;rw[aX]at*;have k:(4:Z)<=(uh c:Z):=by omega
   go_wp2;go_ret2
   simp_all
def Wk:(prog.info? 77).map (λi=>(i.zero,i.size,i.bytes))=H (H<|dW #[aK aY,aD],2,32):=by kernel_rfl
theorem GV(g:∀x∈V.toList,ZU x)(e:0<V.size)(a:d∈(Builtin.zeroCells V b).toList):ZU d:=by
 unfold Builtin.zeroCells at a;obtain⟨i,_,f⟩:=Array.mem_map.1<|Array.mem_toList_iff.1 a;have c:i%V.size<V.size:=Nat.mod_lt _ e;rw[Array.getElem!_eq_getD,Array.getD_eq_getD_getElem?,tK c,mB]at f;rw[<-f];grind
def BP{P:Program}{ao:Oper}{ba:Act}{bg:Act->Y->Prop}{bk:Exit->Act->Y->Prop}(bi bb:Operand)(aq:TypeId)(ad:ao.op=Op.call {callee:=Callee.builtin Builtin.append,args:=#[bi,bb],argTypes:=#[aq,aq]})(c:M)(N:TypeId)(V:TypeInfo)(j:aa)(d bytes:M)(T:P.underlying aq=H (.slice N))(Q:P.info? N=H V)(hz:V.zero=H j)(l:V.size=d)(D:V.bytes=bytes)(an:j.cells.size=d)(al:0<d)(ax:aa)(W:M)(x:iC)(hs:ba.eval bi=ax)(i:a.ownsRow c N d ax W x)(v:Addr)(L au:M)(b:iC)(hx:ba.eval bb=J (H v) L au)(F:y b=L*d)(f:∀av u,b[av]?=H u->aO a (v.add av)=H u)(h1:∀u∈b,u.oneCell'=bU)(hn:W+L<=140737488355328)(e:(W+L)*bytes<=140737488355328)(o:c<=z (G a))(hm:0<L)(kz:∀u∈j.cells.toList,ZU u)(kn:∀u∈b,ZU u)(ko:zX a ax)(hK:∀s t,t.ownsRow c N d s (W+L) (x++b)->eL a t ax s->zX t s->bg (ba.put ao.dst s) t):Oper.wp P ao ba a bg bk:=by
 obtain⟨s,t,S,h2,h3,_,h5⟩:=ny (P:=P) a c aq ao.type N V j d bytes T Q hz l D an al ax W x i v L au b F f h1 (by unfold maxLen;omega) e o;have p:zX t s:=by subst l;subst D;rcases i.2 with⟨rfl,rfl⟩|⟨X,n,h,rfl,bc,O,bf,bd,ac,r⟩;(have g:=run_append_nil (P:=P) a aq ao.type N V j T Q hz v L au b F f hm (by omega) (by have k:=e;grind);rw[S]at g;injection g with B C;intro bh h t' fr p w u m;subst B C;cases p;have E:=(jl a.drew _).symm.trans w;grind[Array.toList_append,GV]);by_cases k:W+L<=n;((have q:W*V.size+y b<=h.size:=by rw[F,ac,<-xp];exact kw _ k);have g:=run_append_room (P:=P) a aq ao.type N V T Q X W n h O v L au b F f h1 k q;rw[S]at g;injection g with B C;intro bh A t' fr p w u m;subst B C;cases p;rw[tQ a X h _ N _ O]at w;cases w;have KP:∀bb∈h.toList,ZU bb:=ko X h _ _ rfl O;grind);have q:∀av u,x[av]?=H u->aO a (((R X 0):Addr).add av)=H u:=i.cells (g:=X) rfl;have g:=run_append_grow (P:=P) a aq ao.type N V j T Q hz (R X 0) W n x i.1 q v L au b F f (by omega) (by omega)<|sG (by omega) e;rw[S]at g;injection g with B C;intro bh A t' fr p w u m;subst B C;cases p;have E:=(jl a.drew _).symm.trans w;cases E;rw[ow,aE,ow,aE]at m;rcases m with(m|m)|m;(have K:u∈x:=by simpa using m);rw[<-r]at K;exact ko X h _ _ rfl O u<|fJ K;(grind);grind[GV]
 unfold Oper.wp;simp[execOp,ad,resolve,invoke,builtin,hs,hx,S,Result.andThen];exact hK s t h2 (eL.of h3 h5) p
def Jt(pb:Option M)(g:cw oo)(h:mO a b pb F aY d)(hn:KF a d g)(h4:uh g<4)(ho:a.ownsRow c 77 2 d (y g) (Gs g))(Q:c<=z (G a))(bf:ct d≠H b)(bd:zX a d):cD bz 24 #[ay b] a λao w'=>ao=aL (dw #[ap<|(y g:Z)+1,ap 0])/\∃bn f,ct bn=pb/\mT a bn F/\w'.heap[b]?=H (ar #[bn,f,aK aY] 35 (0,0))/\w'.ownsRow c 77 2 f (y<|g++[(⟨bU,bn,F⟩:oo)]) (Gs<|g++[(⟨bU,bn,F⟩:oo)])/\I (λL=>L=b\/ct d=H L) a w'/\zX w' f/\(ct f=ct d\/∃bm,ct f=H bm/\z (G a)<=bm):=by
 obtain⟨i0,bs,ca,cb,cc⟩:=cH Wk;obtain⟨⟨bn,hh,hp,bi⟩,_,_⟩:=h;have ba:=cellAt hh 0 rfl;have bb:=cellAt hh 1 rfl;have cm:=cellAt hh 2 rfl;have X:b<z (G a):=am hh;have co:=hn.small;obtain⟨o,n,m,bx⟩:∃x a cd,bn=J x a cd:=by rcases hp.shape with ao|⟨bl,e,O,ao⟩;(grind);grind
 obtain⟨A,x,bv⟩:=aA ho
 have HC:=U (show∀bl e O,d=bB bl e (y g) O->∀al(b:al<y g),aO a (R bl<|e+al*2)=H (aK g[al].live)fromλbl e O ao al b=>by
  rcases hn.row.2 with⟨q,_⟩|⟨b',bk,an,q,bu,br⟩
  .rw[q]at ao;cases ao
  grind[yz])
 have bp:=U (show 0<y g->∃bl e,A=H (R bl e)fromλhp=>by
  rcases hn.row.2 with⟨_,q⟩|⟨b',bk,an,q,bu,br⟩
  .omega
  grind)
 obtain⟨HH,HO,HP,HN,HK,bo⟩:=jX hh ho (And.intro bi hp) bf bd (show∀L,ct d=H L->L<z (G a)fromλL S=>(ho.lt L S).2);clear hh hp bi hn ho bf bd;subst bx bv;go_in
 go_wp2;go_loopw [4,5] (λcd al wr=>∃B:M,B<=y g/\al=ap B/\cd=ap (uh (g.take B):M)/\wr=a) (λ_ al _=>y g-(intOf al).toNat)
 case atStart=>exact⟨0,bj _,rfl,rfl,rfl⟩
 case round=>
  obtain⟨B,hj,rfl,rfl,cp⟩:=hrel;subst wr;by_cases u:B<y g
  .obtain⟨bl,e,j⟩:=bp (by omega);have p:=HC bl e x (by rw[j]) B u;subst j;have i:=Fl (g.take B) g[B];rw[<-ah u]at i;have l:=Fm<|g.take B;have r:(B:Z)<(y g:Z):=by omega
   have k:=U i;clear i;generalize uh (g.take B)=q at*;have t:q<=1000000000:=by rw[dU]at l;omega
   have s:IntKind.i64.wrap ((q:Z)+1)=(q:Z)+1:=by rw[bw];omega
   clear l;cases hl:g[B].live with
   |true=>
    rw[hl]at p k;go_wp2;go_roundw;case rel=>exact⟨B+1,u,by go_num,by rw[ae k];simp,trivial⟩
    case measure=>simp[intOf];omega
   |false=>
    rw[hl]at p k;go_wp2;go_roundw;case rel=>exact⟨B+1,u,by go_num,by rw[ae k];simp,trivial⟩
    case measure=>simp[intOf];omega
  .have bt:B=y g:=by omega
   subst bt;rw[aX]at*;have cl:¬((4:Z)<=(uh g:Z)):=by omega
   go_wp2_with fail
   rename_i QQ KK av;have ax:aO a.drew (R b 1)=H (J A (y g) x)/\aO a.drew (R b 0)=H (J o n m):=⟨bb,ba⟩;refine cI (λN=>aO N (R b 1)=H (J A (y g) x)/\aO N (R b 0)=H (J o n m)) 14 (by kernel_rfl) ?_;refine cY 0 ?_;iterate 10 (refine eM (v:=?_) ax rfl (by kernel_rfl) iW rfl ?_ ?_;rotate_left;(focus(rintro N⟨z0,z1⟩;go_simp;try rfl));simp only[Act.put,dD,gz,Nat.reduceAdd])
   apply eC;refine aM (i:=10) rfl rfl (by kernel_rfl) ?_;intro K1 aq;go_simp;obtain⟨W1,s⟩:∃W1,(cF a<|ar #[aK bU,J o n m] 77).drew=W1:=⟨_,rfl⟩;have i:I az a W1:=by rw[<-s];exact(cK az a).of_heap rfl
   have bg:∀B ce,[aK bU,J o n m][B]?=H ce->aO W1 (((R (z<|G a) 0):Addr).add B)=H ce:=by rw[<-s];exact IL a [aK bU,J o n m] _
   have bh:=i.own HO<|λ_ _ q=>q;have bq:c<=z (G W1):=aC Q i.size;have cq:=i.size;rw[s];refine aq _ _ (λ_=>⟨i.cell bb id X,i.cell ba id X⟩) ?_;try simp only[Act.put,dD,gz]
   clear aq s;refine aM (i:=11) rfl rfl (by kernel_rfl) ?_;intro K2 au;try simp only[cy,bF,bQ]
   refine BP (.tmp 35) (.tmp 41) 33 rfl c 77 i0 (dW #[aK aY,aD]) 2 32 underlying33 bs ca cb cc rfl (by decide) (J A (y g) x) (y g) (Gs g) rfl bh (R (z<|G a) 0) 1 1 [aK bU,J o n m] rfl rfl bg (by simp[Value.oneCell']) (by omega) (by omega) bq (by omega) (by intro ce hu;simp[Value.cells]at hu;rcases hu with rfl|rfl;exact .inl ⟨_,rfl⟩;exact .inr ⟨_,_,_,rfl⟩) (by intro ce hu;simp at hu;rcases hu with rfl|rfl;exact .inl ⟨_,rfl⟩;exact .inr ⟨_,_,_,rfl⟩) (HK.aw i (λ_ _=>id) bo) ?_;intro f p v w bc;have ac:=I.eT w;have k:p.heap[b]?=H (ar #[J o n m,J A (y g) x,aK aY] 35 (0,0)):=(ac.block b (by omega) HN).trans<|(i.block b X id).trans HH;have r:aO p (R b 1)=H (J A (y g) x)/\aO p (R b 0)=H (J o n m):=⟨by rw[bL k];rfl,by rw[bL k];rfl⟩;have cn:=dE (i:=1) k;have l:ct f≠H b:=λq=>by
    rcases w.ur with ao|⟨bm,ao,hg⟩
    .exact HN<|ao▸q
    grind
   have t:(cA p (R b 1) f).heap[b]?=H (ar #[J o n m,f,aK aY] 35 (0,0)):=(aT k).trans rfl;have V:zX (cA p (R b 1) f) f:=bc.aw (rH p b 1 f) (λL S cd=>l (by rw[S];grind))<|λL S=>(v.lt L S).2;have W:=(rH p b 1 f).own v<|λL S cd=>l (by rw[S];grind);have ad:I (λL=>L=b\/ct (J A (y g) x)=H L) a (cA p (R b 1) f):=((i.mono (T:=λL=>L=b\/ct (J A (y g) x)=H L) cO).trans ac<|λ_ q=>.inl<|.inr q).trans (rH p b 1 f)<|λ_ q=>.inl<|.inl q;have K:ct f=ct (J A (y g) x)\/∃bm,ct f=H bm/\z (G a)<=bm:=w.ur.imp id<|λ⟨bm,ao,hg⟩=>⟨bm,ao,by omega⟩;obtain⟨x2,c2,bT⟩:=aA v;subst bT;obtain⟨W3,P⟩:∃W3,cA p (R b 1) (J x2 (y g+1) c2)=W3:=⟨_,rfl⟩;rw[P]at t W ad V;have k1:=cellAt t 1 rfl;have j:=U<|And.intro t (And.intro W (And.intro ad (And.intro V K)));refine au _ _ (λ_=>r) ?_;try simp only[Act.put,dD,gz]
   clear au v w bc ac k l t W ad V K ax i bg bh;refine aM (i:=12) rfl rfl (by kernel_rfl) ?_;intro ch C;go_simp;refine C _ _ (λ_=>r) ?_;try simp only[Act.put,dD,gz]
   clear C;refine aM (i:=13) rfl rfl (by kernel_rfl) ?_;intro cj D;go_simp;refine D _ _ (λ_=>r) ?_;try simp only[Act.put,dD,gz]
   clear D;refine aM (i:=14) rfl rfl (by kernel_rfl) ?_;intro ck E;go_simp;try rw[P]
   refine E _ _ wX ?_;try simp only[Act.put,dD,gz]
   clear E P r;refine cW (by kernel_rfl) ?_ _;show KK _ _;apply av;clear av;go_wp2;go_ret2
   refine⟨by simp,J o n m,_,HP.1,HP.2,j.1,?_,j.2.2⟩;rw[UP,af];exact j.2.1
def CB{P:Program}{d:Array Oper}{Q:Exit->Act->Y->Prop}{e:Region.Mode}{S:Y->Prop}{i m:M}{o:Oper}{c:Array Bool}{l:Act}(n:d[i]?=H o)(p:Region.wanted o (yielded d l.tmps)=bU)(k:Region.ready e d c=[i])(r:∀K:Act->Y->Prop,(∀g f,(i<m->S f)->nt P e d Q S m b (c.setIfInBounds i bU) g f->K g f)->Oper.wp P o l a K Q):nt P e d Q S m (b+1) c l a:=by
 refine⟨λh=>(by rw[k]at h;cases h),λq j=>?_⟩;rw[k]at j;obtain rfl:q=i:=by simpa using j
 unfold wpOp;grind
def AF(a c:cw cf)(j:M):Prop:=∀i,i<j->y (a.getD i [])=y (c.getD i [])/\iF (a.getD i [])=iF (c.getD i [])
def AF.nx{a d:cw cf}(h:AF a d c)(e:y (a.getD c [])=y (d.getD c []))(f:iF (a.getD c [])=iF (d.getD c [])):AF a d (c+1):=λi g=>by
 rcases uu.1 g with q|rfl;exact h i q;exact⟨e,f⟩
def Kz(ad:Y)(c o:M)(p0 p1 p2 p3 q0 q1 q2 q3:aa)(x C D E K L N O:cf)(e:∀W,I az ad W->(aO W (R c 10)=H p0/\aO W (R c 11)=H p1/\aO W (R c 12)=H p2/\aO W (R c 13)=H p3)/\(aO W (R o 0)=H q0/\aO W (R o 1)=H q1/\aO W (R o 2)=H q2/\aO W (R o 3)=H q3)/\(iS W p0 x/\iS W p1 C/\iS W p2 D/\iS W p3 E)/\(iS W q0 K/\iS W q1 L/\iS W q2 N/\iS W q3 O))(hc:iF x<=1000000000/\iF C<=1000000000/\iF D<=1000000000/\iF E<=1000000000/\iF K<=1000000000/\iF L<=1000000000/\iF N<=1000000000/\iF O<=1000000000):cD bz 100 #[fj<|H<|R c 10,ay o] ad λax w'=>∃bc,ax=aL (aK bc)/\(bc=bU->AF [x,C,D,E] [K,L,N,O] 4)/\I az ad w':=by
 have one:∀(k j:M)(p q:aa)(g b:cf),(∀W,I az ad W->(aO W (R c k)=H p/\aO W (R o j)=H q)/\iS W p g/\iS W q b)->iF g<=1000000000->iF b<=1000000000->∃(ac:Y->Prop)(ao f:Option Addr)(al an:M)(A B:cf),(∀W,I az ad W->ac W/\iS W (J ao (y A) al) A/\iS W (J f (y B) an) B)/\(∀a,ac a->aO a (R c k)=H (J ao (y A) al)/\aO a (R o j)=H (J f (y B) an))/\iF A<=1000000000/\iF B<=1000000000/\A=g/\B=b:=by intro k j p q g b h bb ba;obtain⟨_,s,t⟩:=h ad<|I.refl _ ad;obtain⟨ao,al,rfl⟩:=bM s.row;obtain⟨f,an,rfl⟩:=bM t.row;exact⟨_,ao,f,al,an,g,b,h,λa h=>h,bb,ba,rfl,rfl⟩
 have F:∀j,j<4->∃(ac:Y->Prop)(ao f:Option Addr)(al an:M)(A B:cf),(∀W,I az ad W->ac W/\iS W (J ao (y A) al) A/\iS W (J f (y B) an) B)/\(∀a,ac a->aO a (R c<|10+j)=H (J ao (y A) al)/\aO a (R o j)=H (J f (y B) an))/\iF A<=1000000000/\iF B<=1000000000/\A=[x,C,D,E].getD j []/\B=[K,L,N,O].getD j []:=by obtain⟨g,i,k,l,m0,m1,m2,m3⟩:=hc;intro j hj;rcases(show j=0\/j=1\/j=2\/j=3 by omega)with rfl|rfl|rfl|rfl;exact one 10 0 _ _ _ _ (λW d=>⟨⟨(e W d).1.1,(e W d).2.1.1⟩,(e W d).2.2.1.1,(e W d).2.2.2.1⟩) g m0;exact one 11 1 _ _ _ _ (λW d=>⟨⟨(e W d).1.2.1,(e W d).2.1.2.1⟩,(e W d).2.2.1.2.1,(e W d).2.2.2.2.1⟩) i m1;exact one 12 2 _ _ _ _ (λW d=>⟨⟨(e W d).1.2.2.1,(e W d).2.1.2.2.1⟩,(e W d).2.2.1.2.2.1,(e W d).2.2.2.2.2.1⟩) k m2;exact one 13 3 _ _ _ _ (λW d=>⟨⟨(e W d).1.2.2.2,(e W d).2.1.2.2.2⟩,(e W d).2.2.1.2.2.2,(e W d).2.2.2.2.2.2⟩) l m3
 have HP:=U F;clear e hc one F;generalize [x,C,D,E]=As at HP|-;generalize [K,L,N,O]=Bs at HP|-;go_in
 go_wp2;go_loopw [6] (λav wr=>∃j:M,j<=4/\av=ap j/\AF As Bs j/\I az ad wr) (λav _=>4-(intOf av).toNat)
 case atStart=>exact⟨0,by omega,by go_num,λav a=>absurd a<|ft av,I.refl _ _⟩
 (case round=>obtain⟨j,hj,rfl,m,ht⟩:=hrel;by_cases h4:j<4;(.obtain⟨ac,ao,f,al,an,A,B,d,hX,bb,ba,eA,eB⟩:=HP j h4;have aq:=U<|show y A=y B->iF A=iF B->AF As Bs (j+1)fromλa c=>m.nx (by rw[<-eA,<-eB];exact a) (by rw[<-eA,<-eB];exact c);clear m eA eB;have t:=ht.cr<|ci az wr;obtain⟨k,hL,_⟩:=d wr.drew t;have p:=zQ hL bb;have HQ:=U<|λW(a:I az ad W)=>And.intro (d W a).1 (zQ (d W a).2.2 ba);have HT:=U t;clear ht t d hL;rcases(show j=0\/j=1\/j=2\/j=3 by omega)with rfl|rfl|rfl|rfl;(all_goals simp only[Nat.reduceAdd]at hX;have w:=U hX;clear hX;by_cases l:y A=y B;(.have el:((y A:Z)!=(y B:Z))=aY:=bne_eq_false_iff_eq.2 (by omega);have u:=U l;clear l;obtain⟨eb,ec⟩:∃eb,((iF A:Z)!=(iF B:Z))=eb:=⟨_,rfl⟩;(go_wp2_with fail);rename_i QQ KK i;refine kV ac 28 (by kernel_rfl) ?_;refine lE 0 ?_;(iterate 19 (refine qe (v:=?_) k rfl (by kernel_rfl) (λ_ _ _ h=>h) (Or.inl ⟨by rfl,?_⟩) ?_;rotate_left;(focus(intro a n;obtain⟨z0,z1⟩:=w a n;go_simp;try with_reducible rfl));simp only[Act.put,Nat.reduceAdd,cz,dC,dl,cy,bF,bQ]));apply qd;refine lE 20 ?_;(iterate 5 (refine qe (v:=?_) k rfl (by kernel_rfl) (λ_ _ _ h=>h) (Or.inl ⟨by rfl,?_⟩) ?_;rotate_left;(focus(intro a n;obtain⟨z0,z1⟩:=w a n;go_simp;try with_reducible rfl));simp only[Act.put,Nat.reduceAdd,cz,dC,dl,cy,bF,bQ]));apply qd;refine CB (i:=19) rfl (by rfl) (by kernel_rfl) ?_;intro K1 P;go_simp;apply p.mono;rintro ax W1⟨rfl,T⟩;have r:=HT.cr<|I.aR (S:=az) T;obtain⟨S,X⟩:=HQ W1 r;have au:=U r;refine P _ _ (λ_=>S) ?_;(try simp only[Act.put,cz,dC,dl,cy,bF,bQ]);clear P T r p k S;refine CB (i:=25) rfl (by rfl) (by kernel_rfl) ?_;intro K2 Q;go_simp;apply X.mono;rintro ax W2⟨rfl,V⟩;have s:=au.cr<|I.aR (S:=az) V;have k:=(HQ W2 s).1;have g:=U s;refine Q _ _ (λ_=>k) ?_;(try simp only[Act.put,cz,dC,dl,cy,bF,bQ]);clear Q V s X;refine lE 26 ?_;(iterate 2 (refine qe (v:=?_) k rfl (by kernel_rfl) (λ_ _ _ h=>h) (Or.inl ⟨by rfl,?_⟩) ?_;rotate_left;(focus(intro a n;obtain⟨z0,z1⟩:=w a n;go_simp;try with_reducible rfl));simp only[Act.put,Nat.reduceAdd,cz,dC,dl,cy,bF,bQ]));apply qd;refine kW (by kernel_rfl) ?_ _;show KK _ _;apply i;clear i k;cases eb;(.have HN:=U<|aq u (by have:=bne_eq_false_iff_eq.1 ec;omega);go_wp2;go_roundw;(case rel=>first|exact⟨1,by omega,by go_num,HN,g⟩|exact⟨2,by omega,by go_num,HN,g⟩|exact⟨3,by omega,by go_num,HN,g⟩|exact⟨4,by omega,by go_num,HN,g⟩);case measure=>simp[intOf]);go_wp2;go_ret;exact⟨aY,rfl,(λq=>by cases q),g⟩);(.have el:((y A:Z)!=(y B:Z))=bU:=zt.2 (by omega);clear l;(go_wp2_with fail);rename_i QQ KK i;refine kV ac 28 (by kernel_rfl) ?_;refine lE 0 ?_;(iterate 14 (refine qe (v:=?_) k rfl (by kernel_rfl) (λ_ _ _ h=>h) (Or.inl ⟨by rfl,?_⟩) ?_;rotate_left;(focus(intro a n;obtain⟨z0,z1⟩:=w a n;go_simp;try with_reducible rfl));simp only[Act.put,Nat.reduceAdd,cz,dC,dl,cy,bF,bQ]));apply qd;refine lE 14 ?_;(iterate 13 (refine qe (v:=ix) k rfl (by kernel_rfl) (λ_ _ _ h=>h) (Or.inr ⟨by rfl,rfl⟩) ?_;simp only[Act.put,Nat.reduceAdd,cz,dC,dl,cy,bF,bQ]));apply qd;refine lE 27 ?_;(iterate 1 (refine qe (v:=?_) k rfl (by kernel_rfl) (λ_ _ _ h=>h) (Or.inl ⟨by rfl,?_⟩) ?_;rotate_left;(focus(intro a n;obtain⟨z0,z1⟩:=w a n;go_simp;try with_reducible rfl));simp only[Act.put,Nat.reduceAdd,cz,dC,dl,cy,bF,bQ]));apply qd;refine kW (by kernel_rfl) ?_ _;show KK _ _;apply i;clear i k p;go_wp2;go_ret;exact⟨aY,rfl,(λq=>by cases q),HT⟩)));(obtain rfl:j=4:=by omega);have HT:=U ht;have g:=U m;clear ht m;go_wp2;go_ret;exact⟨bU,rfl,(λ_=>g),HT⟩)
def Ko{c:cf}(k:PR b (e::bV i o r s))(j:c.map bA.all=gR (gA<|dI p<|cG<|e::bV i o r s)):PR b (bV [] [] [] c)/\(∀t,(t∈p\/(b:Z)<=t)->∀n,eY t (bV [] [] [] c) n=eY t (e::bV i o r s) n)/\y (cg c)<=y e+y (cg i)+y (cg o)+y (cg r)+y (cg s):=by
 obtain⟨A,K⟩:∃A,A=(e::((i.map bA.all).reverse++[cg o,cg r])).reverse:=⟨_,rfl⟩;have f:e::bV i o r s=A.reverse++[cg s]:=by rw[K,List.reverse_reverse];simp[bV]
 have L:(cg s::A).Perm (e::bV i o r s):=by rw[f];grind[perm_append_comm,reverse_perm]
 have w:cG (cg s::A)=cG (e::bV i o r s):=tf k.mh k.nR L;have a:=k.row;rw[f]at a;have m:=k.nR;rw[f]at m;obtain⟨Q,O,u⟩:=zv (A:=A) (b:=cg s) (ms:=p) (lowest:=bU) (λr b=>a r<|by simp[b]) (a _<|by simp) m;have B:gO p bU (cg s::A)=gA (dI p<|cG<|e::bV i o r s):=by unfold gO;rw[dz rfl,w]
 rw[B]at O u;have v:cg c=gA (dI p<|cG<|e::bV i o r s):=lQ j;have h:∀x∈cg c,x∈(e::bV i o r s).flatten:=λx d=>by rw[v]at d;exact(dY _).mem_iff.1<|(js p _).subset<|(kg _).subset d
 have g:bV [] [] [] c=[[],[],cg c]:=by simp[bV,cg]
 refine⟨?_,λt N n=>?_,?_⟩;rw[g];(have l:PR b ([]++(e::bV i o r s)++[]):=by simpa using k);have E:=l.B5 (M':=[cg c]) (by unfold kh;simp) (by grind) (λx d=>h x<|by simpa using d);grind[PR.Mj]
 rw[g,mJ,mJ];have:=yB (C:=[]) (Mqq:=A.reverse++[cg s]) (M':=[gA<|dI p<|cG<|e::bV i o r s]) (D:=[]) (u t [] (N.imp_right<|λq x d=>vR (k.low x (by rw[f];exact d)) q)<|λ_ n=>rfl) n;rw[<-f,<-v]at this;grind
 rw[v];have l:=(kg<|dI p<|cG<|e::bV i o r s).length_le;have E:=(js p<|cG<|e::bV i o r s).length_le;have F:=(dY<|e::bV i o r s).length_eq;(have P:y ((i.map bA.all).reverse).flatten=y (cg i):=by have:=((tU<|i.map bA.all).flatten).length_eq;rw[this];rfl);rw[bG,af]at F;grind
def Qj{K:DK}(h:cQ a b K):cD bz 18 #[ay b] a λs p=>s=aL (dw #[ap K.reads,ap K.oC])/\qI a p b K {K with reads:=0,oC:=0}:=by
 have n:=cellAt h.iq 6 rfl;have o:=cellAt h.iq 7 rfl;have l:=U h;clear h;go_in
 go_wp2;go_quiet(fail)
 rename_i m e;show m _ _;apply e;clear e;have g:I az a (a.drewN nq):=(I.refl az a).of_heap rfl;generalize a.drewN nq=d at g|-;have f:cQ d b K:=(ae l).aw g<|λ_ _=>id;have j:=f.Bf 0 0;have q:=cellAt f.iq 6 rfl;have t:=dE (i:=6) f.iq;have c:(cA d (R b 6)<|ap 0).heap[b]?=H (ar #[.map<|H K.nb,.map<|H K.sb,K.mv,ap 1099511627776,ap 0,ap 0,ap 0,ap K.oC] 81 (0,0)):=by rw[aT f.iq];rfl
 have r:=cellAt c 7 rfl;have u:=dE (i:=7) c;have k:=U<|show qI a _ b K {K with reads:=0,oC:=0}from⟨j.ok,(g.mono cO).trans j.aw<|λ_ d=>.inl d,λe c=>.inl c⟩;clear f j c g;go_wp2;go_ret2
 exact⟨rfl,k⟩
