import Derived.Test.YtceammfgahaodaaGreatDoorC8
open _root_ renaming List.length→z,Option.some→M,Array.size→G,Go.World.heap→H,Go.Value.ownBlock→bY,Go.World.cell?→aS,Go.World.setCell→ct,Go.World.alloc→cF,Bool.false→bF,Bool.true→bX,Nat→R,Int→Y,List→cD,Go.Calls→cA,Go.undef→iE,Go.Proofs.Tryz.prog→bG,Go.Value.slice→ah,Go.Value.string→aj,Go.Value.bool→aO,Go.Value.pointer→fA,Go.Value.tuple→dE,Go.Value.agg→eB
namespace Go.Proofs.YtceammfgahaodaaGreatDoor
open ChangeShapes WideShapes RowKit Proofs.Tryz
set_option maxHeartbeats 16000000
set_option linter.all false
set_option maxRecDepth 100000
variable{a f B:I}{b c g l y:R}{d t L:aa}{e:cK}{j:DK}{k:dX}{m D Q:Y}{o:eP}{v:ab}{w:E}{x:jd}{C:Bool}
def iK(n:Y)(l:cK):eP:=le 8 n++((z l:Y)::l.flatMap oh)
def Dc(n:Y)(l:cK):eP:=iJ (le 4 (z<|iK n l)++le 4 (mQ<|iK n l))++iK n l
def Cr(h:w.Good):z (oh w)<=35:=by
 have:=ul h;unfold BQ at this;rw[af]at this;omega
def pQ{l:cK}(h:∀x∈l,x.Good):z (l.flatMap oh)<=35*z l:=by
 induction l with
 |nil=>simp
 |cons x r c=>
  have a:=Cr (h x<|by simp);have d:=c (λa b=>h a<|by simp[b]);rw[dN,af,aC];omega
structure Xo(w0 w:I)(hv bv:aa)(hs bs:eP):Prop where
 head:eQ w (G<|H w0) hv hs
 body:eQ w (G<|H w0) bv bs
 ne:∀k,bY hv=M k->bY bv≠M k
 ay:J az w0 w
def Xo.wrote{e c:eP}(h:Xo a f d t o e)(j:eY f B d L)(m:eQ B (G<|H a) L c):Xo a B L t c e:=by
 have i:=J.fH j;refine⟨m,i.own h.body<|λk b p=>h.ne k p b,λk b g=>?_,h.ay.trans i<|λk b=>.inr (h.head.lt k b).1⟩;rcases j.uq with l|⟨n,l,q⟩;exact h.ne k (l.symm.trans b) g;rw[l]at b;cases b;have:=(h.body.lt _ g).2;omega
def NZ(l:cK)(au a bn:R)(w:I)(hT:Steps w)(hg:au<G (H w))(hc:∀cs cp,(aH l)[cs]?=M cp->aS w (U au<|a+cs)=M cp)(k:0<z l)(c:∀al∈l,al.Good)(hl:z l<=8):cA bG 123 #[bE au a (z l) bn] w λao w'=>∃v',ao=aP v'/\eQ w' (G<|H w) v' (Dc (l[0]'k).bK l)/\J az w w':=by
 obtain⟨i0,bt,ce,ch,cj⟩:=cL qC;have u:=c _<|ar k;have co:=pQ c;have bo:aS w (U au<|a+3)=M (aL (l[0]'k).bK):=by have:=hc _ _ (eG l 0 k).2.2.2;simpa using this
 obtain⟨r,hn⟩:∃r,(l[0]'k).bK=r:=⟨_,rfl⟩;have F:=u.b0;have K:=u.b1;rw[hn]at F K bo|-;have bx:=pJ (baseqq:=G<|H w) (v:=aG) (bs:=[]) r (w:=w) (eQ.nil _ _) (ai _) (by simp) F K;have e1:IntKind.u8.wrap (z l:Y)=z l:=by rw[IntKind.wrap_u8];omega
 obtain⟨HC,HG,HT⟩:=dI hc c hT;clear hc c u hn hT;go_in
 go_wp2_with fail
 apply bx.mono;rintro ao w1⟨v1,rfl,y,W⟩;have B:J az w w1:=(J.fH W).mono (λav g=>by simp[bY]at g);have bv:=uf (G<|H w) v1 ([]++le 8 r) (z l:Y) w1 y B.size (by simp[cq]);have bb:=Z y;have bi:=Z B;clear y B W;go_wp2_with fail
 apply bv.mono;rintro ao w2⟨v2,rfl,L,X⟩;have bk:=Z<|bi.trans (J.fH X)<|λav g=>.inr (bb.lt av g).1;have bd:=Z L;clear L X;go_wp2;go_loopw [3,19] (λo i wr=>∃m:R,m<=z l/\i=aq m/\eQ wr (G<|H w) o (le 8 r++((z l:Y)::(l.take m).flatMap oh))/\J az w wr) (λ_ i _=>z l-(intOf i).toNat)
 case atStart=>exact⟨0,bB _,rfl,by simpa using ae bd,bk⟩
 case round=>
  obtain⟨m,hm,rfl,b,d⟩:=hrel;have cc:=d.size;by_cases q:m<z l
  .have j:=HG l[m]<|ar q;have e:=eG l m q;have C:aS wr (U au<|a+m*4)=M (aj l[m].key):=d.cell (HC _ _ e.1) id hg;have D:aS wr (U au<|a+m*4+1)=M (aj l[m].val):=d.cell (by rw[aY];exact HC _ _ e.2.1) id hg;have N:aS wr (U au<|a+m*4+2)=M (aO l[m].del):=d.cell (by rw[aY];exact HC _ _ e.2.2.1) id hg;have O:aS wr (U au<|a+m*4+3)=M (aL l[m].bK):=d.cell (by rw[aY];exact HC _ _ e.2.2.2) id hg;have o:z (le 8 r++((z l:Y)::(l.take m).flatMap oh))<=1000:=by
    have P:=pQ (l:=l.take m)<|λal hx=>HG al<|eI hx;have Q:z (l.take m)<=8:=by simp;omega
    rw[af,aC,cq];omega
   have A:=Z (show(le 8 r++((z l:Y)::(l.take m).flatMap oh))++oh l[m]=le 8 r++((z l:Y)::(l.take<|m+1).flatMap oh)from by
    rw[ak q,gh];simp)
   clear e;generalize l[m]=al at*;have f:=PP (G<|H w) u3 (le 8 r++((z l:Y)::(l.take m).flatMap oh)) al (cF wr<|aw #[aj al.key,aj al.val,aO al.del,aL al.bK] 164) (b.alloc _) (by simp;omega) (by omega) (by have:=j.Me;omega) (by have:=j.val;omega);generalize(le 8 r++((z l:Y)::(l.take m).flatMap oh))=cm at*;have x:=b.lt;have s:=Z d;clear b d j o;obtain⟨V,xv,T,S⟩:=al;simp only at C D N O f;unfold E.value at f;simp only at f;go_wp2_with fail
   apply f.mono;rintro ao w3⟨v3,rfl,n,i⟩;have p:=Z n;have t:=Z i;clear n i;go_wp2;go_roundw;case rel=>
    refine⟨m+1,q,by go_num,by rw[<-ae A];exact p,?_⟩;exact(s.alloc _).trans (J.fH t)<|λav g=>.inr (x av g).1
   case measure=>simp[intOf];omega
  .have bu:m=z l:=by omega
   subst bu;rw[bP]at b;have bp:z (iK r l)<=1000:=by unfold iK;rw[af,aC,cq];omega
   have s:0<z (iK r l):=by unfold iK;rw[af,cq];omega
   have f:eQ wr (G<|H w) u3 (iK r l):=b;obtain⟨bg,bc,cd,_,_,_⟩:=uC f s;subst cd;obtain⟨e,j⟩:∃e,z (iK r l)=e:=⟨_,rfl⟩;have D:=Z (show Dc r l=iJ (le 4 (e:R)++le 4 (mQ<|iK r l))++iK r l by rw[<-j];rfl);rw[j]at bp s;have bT:=jM (baseqq:=G<|H w) (v:=aG) (bs:=[]) (e:R) (w:=wr) (eQ.nil _ _) cc (by simp) (by omega) (by omega);have e2:IntKind.u32.wrap (e:Y)=e:=sY (by omega) (by omega);have HO:=Z f;have bl:=Z d;rw[j];have p:=Z j;clear b f d j;generalize iK r l=an at*;go_wp2_with fail
   apply bT.mono;rintro ao w3⟨v3,rfl,n,i⟩;have hA3:Xo w w3 v3 (bE bg 0 e bc) ([]++le 4 (e:R)) an:=by
    have T:J az wr w3:=(J.fH i).mono (λav g=>by simp[bY]at g);have Q:eQ wr (G<|H w) (bE bg 0 e bc) an:=by have:=ae HO;rw[ae p]at this;exact this
    refine⟨n,T.own Q<|λ_ _ cu=>cu,λav g hb=>?_,bl.cw T⟩;rcases i.uq with cn|⟨cl,cn,hy⟩
    .rw[cn]at g;cases g
    .rw[cn]at g;cases g;have:=(Q.lt _ hb).2;omega
   have A:∀W,J az w W->Steps W:=λW a=>HT.below (a.below (ai _) cN) HT.lt;have cb:=sF (bE bg 0 e bc) an w3 (A _ hA3.ay) (eQ.bytes hA3.body) (by rw[ae p];omega);have t:=Z hA3;have bh:=Z A;clear hA3 n i A;go_wp2_with fail
   apply cb.mono;rintro ao w4⟨rfl,C⟩;subst w4;have br:=zP an;have bq:=BT an;have S:=jM (mQ an) t.head t.ay.size (by simp[cq]) br bq;generalize mQ an=cB at*;go_wp2_with fail
   apply S.mono;rintro ao w4⟨v4,rfl,N,C⟩;have hA4:=t.wrote C N;have ca:=DY (bh _ hA4.ay) hA4.head hA4.ay.size (by simp[cq]);have ax:=Z hA4;clear N C hA4;go_wp2_with fail
   apply ca.mono;rintro ao w5⟨v5,rfl,O,ac⟩;have hA5:=ax.wrote ac O;have x:z ((([]++le 4 (e:R))++le 4 cB)++le 4 (mQ<|([]++le 4 (e:R))++le 4 cB))=12:=by simp[cq]
   obtain⟨hx,bs,V⟩:=aB hA5.head;rw[x]at V;subst V;have ck:=hA5.ay.size;have o:=Z hA5;have ba:=Z x;clear O ac hA5 x;go_wp2_with(first
    |(at_builtin;go_loud(refine bV _ rfl (.tmp 36) (.tmp 37) 126 rfl (G (H w)) 5 i0 (.int .u8 0) 1 1 underlying126 bt ce ch cj rfl (by decide) (.slice hx 12 bs) 12 (((([]++le 4 (e:R))++le 4 cB)++le 4 (mQ (([]++le 4 (e:R))++le 4 cB))).map (Value.int .u8)) rfl (by have h0:=o.head;unfold eQ at h0;rw[ae ba]at h0;exact h0) (U bg 0) e bc (an.map (Value.int .u8)) rfl (by rw[cV,ae p,rE]) (tJ (eQ.bytes o.body)) (by intro cp hu;simp only[bz]at hu;obtain⟨cl,_,rfl⟩:=hu;rfl) (by omega) (by omega) ck ?_;intro v6 w6 P ad;have bf:=Z P;have bm:=Z ad;clear P ad)))
   go_ret;refine⟨_,rfl,?_,o.ay.trans (J.fH bm)<|λav g=>.inr (o.head.lt av g).1⟩;rw[ae D];refine eQ.of bf ?_ ?_
   .rw[af,gC,ae p,af,cq,cq]
   .unfold iJ;simp
def LN(O a c bl:R)(B b:eP){w:I}(hT:Steps w)(bp:0<z B)(hB:z B<=100000)(hR:z b<=1000000000)(hL:bl=12+z B+z b)(br:bl<=c)(cb:c<=9223372036854775807)(hb:Bytes w (bE O a bl c) (iJ (le 4 (z B)++le 4 (mQ B))++B++b)):cA bG 156 #[bE O a bl c] w λad w'=>∃bk bt,ad=aP (dE #[bE O (a+12) (z B)<|c-12,bE O bk (z b) bt,aO bX])/\z b<=bt/\bt<=9223372036854775807/\Bytes w (bE O (a+12) (z B)<|c-12) B/\Bytes w (bE O bk (z b) bt) b/\J az w w':=by
 have D:O<G (H w):=hb.lt (by intro ad;have:=bW z ad;simp[iJ,cq]at this) O rfl;have E:z (iJ<|le 4 (z B)++le 4 (mQ B))=12:=by simp[iJ,cq]
 have k:z (iJ (le 4 (z B)++le 4 (mQ B))++B++b)=bl:=by rw[af,af,E,hL]
 rw[<-k]at hb;have f:=hb.take (n:=12) (by rw[k];omega);have e:=hb.BR (n:=12) (by rw[k];omega);rw[aW,iP (by omega),da<|by omega]at f;rw[k,aW,List.drop_append_of_le_length (by omega),qh (by omega),cJ]at e;obtain⟨d,hM⟩:∃d,bl-12=d:=⟨_,rfl⟩;obtain⟨N,hC⟩:∃N,c-12=N:=⟨_,rfl⟩;rw[hM,hC]at e;have y:z (B++b)=d:=by rw[af];omega
 rw[<-y]at e;have o:=e.take (n:=z B) (by simp);rw[qd]at o;have C:=e.BR (n:=z B) (by simp);rw[sR,y]at C
 have bh:=xz O a c (le 4 (z B)++le 4 (mQ B)) hT (by simp[cq];omega) (by simp[cq]) (by
  have:z (le 4 (z B)++le 4 (mQ B))+4=12:=by simp[cq]
  rw[this];exact f)
 have bb:z (le 4 (z B)++le 4 (mQ B))=8:=by simp[cq]
 rw[bb]at bh;have s:Bytes w (bE O a 8 c) (le 4 (z B)++le 4 (mQ B)):=by rw[<-E]at f;have q:=f.take (n:=8) (by omega);(have e8:(iJ<|le 4 (z B)++le 4 (mQ B)).take 8=le 4 (z B)++le 4 (mQ B):=by unfold iJ;rw[iP (by omega),da<|by omega]);rw[e8]at q;exact q
 have A:d-z B=z b:=by omega
 obtain⟨g,j⟩:∃g,z B=g:=⟨_,rfl⟩;obtain⟨RL,l⟩:∃RL,z b=RL:=⟨_,rfl⟩;obtain⟨cB,p⟩:∃cB,mQ B=cB:=⟨_,rfl⟩;have v:∀W,J az w W->cA bG 188 #[bE O (a+12) g N] W λad w'=>ad=aP (dz cB)/\w'=W:=by intro W hW;have q:=hW.below (ai _) cN;rw[<-j,<-p];exact sF _ B W (hT.below q hT.lt) (o.below q (λbq r=>by cases r;exact D))<|by omega
 have an:=zP B;have ao:=BT B;rw[p]at an ao;obtain⟨Q,T,ac,bn⟩:=gD s v o C;rw[j,l]at A hL;rw[j]at bp hB;rw[l]at hR;obtain⟨i,S,bo⟩:=dI j l p;have e1:(12:Y)<=(bl:Y):=by omega
 have e2:(bl:Y)<=(c:Y):=by omega
 have e3:¬(bl:Y)<12:=by omega
 have e4:¬(c=12):=by omega
 have e5:¬(c-12=0):=by omega
 have e6:(12:Y)<=(c:Y):=by omega
 have e7:(g:Y)<=(d:Y):=by omega
 have e8:(g:Y)<=(N:Y):=by omega
 have e9:¬((d:Y)<(g:Y)):=by omega
 have bu:IntKind.u64.wrap (g:Y)=g:=by rw[ib];omega
 have bv:IntKind.u64.wrap (d:Y)=d:=by rw[ib];omega
 have bx:(d:Y)<=(N:Y):=by omega
 have bs:∀(cd:Bool)(w:I),(Op.unary .not<|aO cd).run bG w=.ok (aO<|!cd) w:=λ_ _=>rfl;have ca:RL+g<=N:=by omega
 have bT:N<=9223372036854775807:=by omega
 clear hb f e s v o C hT j l p hL k y E bb;rw[ae i,ae S,hC];go_in
 go_wp2_with fail
 apply bh.mono;rintro ad L⟨rfl,m⟩;have bf:J az w L:=J.aV m;have ba:=nu (Q.below m (λbq r=>by cases r;exact D)) (by intro bq r;cases r;exact ag D m.size);have V:=Z bf;clear m bf;go_wp2_with fail
 apply ba.mono;rintro ad w2⟨rfl,t,K⟩;have bg:J az L w2:=by rw[K];exact(cI _ L)
 have cc:G (H L)<G (H w2):=by rw[K];simp
 have bi:=sq (G<|H L) (g:R) (le 4<|mQ B) w2 (by rw[<-ae i];exact t) (kG.le 4 _) (by simp[cq]) (by omega) (by omega);have bm:=Z bg;clear t K bg ba;go_wp2_with fail
 apply bi.mono;rintro ad w3⟨rfl,u,au⟩;have x:=sq (G<|H L) cB [] w3 (by rw[<-ae bo];simpa using u) (by intro cd hx;cases hx) (by simp) an ao;have av:=Z au;clear u au bi;go_wp2_with fail
 apply x.mono;rintro ad P⟨rfl,bc,ax⟩;have F:J az w P:=by have h3:J (λbq=>bq=G (H L)) w2 P:=(fy av).trans (fy ax)<|λ_ h=>.inl h;exact(V.cw bm).trans h3<|λbq r=>.inr (by have:=V.size;omega)
 have bd:∀W,W.heap=P.heap->W.os=P.os->W.tape=P.tape->W.output=P.output->cA bG 188 #[bE O (a+12) g N] W λad w'=>ad=aP (dz cB)/\w'=W:=λW b c h3 d=>T W (F.of_heap<|by rw[b,c,h3,d]);have X:=Z F;clear bc ax x F;by_cases al:N=g;(·(obtain rfl:RL=0:=by omega);(obtain rfl:d=N:=by omega);subst al;clear A;(go_wp2_with fail);(go_quiet(first|(go_at_call 188;refine Calls.quiet_of_same (bd _ rfl rfl rfl rfl))));go_wp2;(go_ret3);refine⟨a+12,0,rfl,ai _,by omega,?_,?_,X.of_heap rfl⟩;have h:=ae ac;rw[ae i]at h;exact h;obtain rfl:=aR S;exact .inr ⟨O,a+12,0,rfl,ai _,λbq r=>absurd r<|gL bq⟩);(have q:¬(N-g=0):=by omega);have d2:¬(N=g):=al;(go_wp2_with fail);(go_quiet(first|(go_at_call 188;refine Calls.quiet_of_same (bd _ rfl rfl rfl rfl))));go_wp2;(go_ret3);refine⟨a+12+g,N-g,rfl,by omega,by omega,?_,?_,X.of_heap rfl⟩;have h:=ae ac;rw[ae i]at h;exact h;have h:=ae bn;rw[ae i,A]at h;exact h
structure XA(w0 w:I)(rb:R)(l:cK)(o:aa)(m:R):Prop where
 own:w.ownsRow (G<|H w0) 164 4 o m (aH<|l.take m)
 rd:Rd w rb ((l.drop m).flatMap oh) bF
 ay:J az w0 w
 TP:G (H w0)<=rb
 wJ:∀k,bY o=M k->rb<k
def Fb(h:∀x∈e,x.Good):kG (e.flatMap oh):=by
 intro x a;obtain⟨c,b,a⟩:=mF.1 a;exact AH (h c b) x a
def DJ(cp k ad:R)(l:cK)(bh:Y)(w:I)(hg:∀P∈l,P.Good)(hn:∀P∈l,P.bK=bh)(ca:0<=bh)(cb:bh<18446744073709551616)(h1:1<=z l)(h8:z l<=8)(hb:Bytes w (bE cp k (z<|iK bh l) ad) (iK bh l)):cA bG 157 #[bE cp k (z<|iK bh l) ad,aL bh] w λbi w'=>
 ∃a,bi=aP (dE #[a,aO bX])/\w'.ownsRow (G<|H w) 164 4 a (z l) (aH l)/\J az w w':=by
 obtain⟨i0,av,bd,bf,bg⟩:=cL ot
 have bT:=pQ hg
 have bx:cp<G (H w):=hb.lt (by unfold iK;intro bi;have:=bW z bi;simp[cq]at this) cp rfl
 have F:=nu hb (by intro o e;cases e;exact bx)
 obtain⟨X,hN⟩:∃X,z l=X:=⟨_,rfl⟩
 obtain⟨BL,al⟩:∃BL,z (iK bh l)=BL:=⟨_,rfl⟩
 rw[al]at F|-
 have ck:∀(P:Bool)(w:I),(Op.unary .not<|aO P).run bG w=.ok (aO<|!P) w:=λ_ _=>rfl
 obtain⟨A,HG,bl⟩:=dI hN hg hn
 rw[hN]at h1 h8
 clear hb hg hn al hN
 go_in
 go_wp2_with fail
 apply F.mono
 rintro bi w1⟨rfl,t,K⟩
 have bc:J az w w1:=by rw[K];exact(cI _ w)
 have cm:G (H w)<G (H w1):=by rw[K];simp
 have r:=Fb HG
 have cj:z (l.flatMap oh)<=280:=by rw[ae A]at bT;omega
 have ax:=AA (G<|H w) bh ((X:Y)::l.flatMap oh) w1 (by have h:=t;unfold iK at h;rw[ae A]at h;exact h) (by intro P N;rcases aD.1 N with rfl|N;omega;exact r P N) (by rw[aC];omega) ca cb
 have bs:=Z bc
 clear t K bc F
 go_wp2_with fail
 apply ax.mono
 rintro bi w2⟨rfl,u,B⟩
 have ao:=Xe (G<|H w) (X:Y) w2 u r (by omega) (by omega)<|by omega
 have cn:=B.size
 have bm:=Z B
 clear u B ax
 go_wp2_with fail
 apply ao.mono
 rintro bi w3⟨rfl,v,C⟩
 have br:=Z v
 have co:=C.size
 have bn:=Z C
 clear v C ao
 have e1:¬((X:Y)<1):=by omega
 have e2:¬((8:Y)<(X:Y)):=by omega
 go_wp2_with(first
  |(at_make;go_loud(refine lN _ rfl _ _ 101 rfl (G (H w)) 164 i0 wX 4 underlying101 av bd bf _ _ _ X rfl rfl (by omega) (by rw[bg];omega) (by unfold maxLen;omega) (by omega) ?_;intro w4 s p;have bo:=Z s;have y:=Z p;clear s p)))
 have cx:=y.size
 have hA0:XA w w4 (G<|H w) l (bE (G<|H w3) 0 0 X) 0:=by
  have a:J (λo=>o=G (H w)) w1 w3:=(fy bm).trans (fy bn)<|λ_ h=>.inl h;have b:J az w w3:=bs.trans a (λo e=>.inr<|by omega);refine⟨bo,br.laid y,b.cw (J.dR (S:=az) y<|by simp),ai _,?_⟩;intro o e;simp[bY]at e;omega
 have bk:=Z hA0
 clear hA0
 go_loopw [8,28] (λo i wr=>∃m:R,m<=X/\i=tP m/\XA w wr (G<|H w) l o m) (λ_ i _=>X-(intOf i).toNat)
 case atStart=>exact⟨0,bB _,rfl,bk⟩
 case round=>
  obtain⟨m,hm,rfl,d⟩:=hrel;have c:=d.own;obtain⟨ox,oc,ho⟩:=aB c;have cv:=d.ay.size;have cl:=d.rd.lt;have HA:=Z d;by_cases ba:m<X
  .have g:m<z l:=by rw[ae A];exact ba
   have n:=HG l[m]<|ar g;have an:=bl l[m]<|ar g;have f:=d.rd;rw[bH g,dN]at f;have q:kG ((l.drop<|m+1).flatMap oh):=Fb<|λP N=>HG P<|dw N;have D:z ((l.drop<|m+1).flatMap oh)<=280:=by
    have L:=pQ (l:=l.drop<|m+1)<|λP N=>HG P<|dw N;have h3:z (l.drop<|m+1)<=8:=by simp;rw[ae A];omega
    omega
   have cs:=Cr n;have b:=GC (G<|H w) ((l.drop<|m+1).flatMap oh) wr f ((AH n).append q) (by simp only[af];omega) n;have bu:=Z (show aH (l.take m)++aH [l[m]]=aH (l.take<|m+1)by rw[<-fT,ak g]);clear d c f q D n;generalize l[m]=P at*;obtain⟨V,W,T,Q⟩:=P;simp only at b an;subst an;unfold E.value at b;simp only at b;subst ho;go_wp2_with fail
   apply b.mono;rintro bi O⟨rfl,bb,au⟩;have i:J (λo=>o=G (H w)) wr O:=fy au;have j:=aU (aU (i.own HA.own (λo e c=>by have:=HA.wJ o e;omega))<|aw #[aj V,aj W,aO T,aL Q] 164)<|aw #[aj V,aj W,aO T,aL Q] 164;have cu:=i.size;obtain⟨ac,bt,bq⟩:=dI j i bb;clear bb au j i;go_wp2_with(first
    |(at_builtin;go_loud(refine bV _ rfl (.tmp 39) (.tmp 41) 101 rfl (G (H w)) 164 i0 wX 4 48 underlying101 av bd bf bg rfl (by decide) (.slice ox m oc) m (aH (l.take m)) rfl ac (U (G (H O)+1) 0) 1 1 (aH [⟨V,W,T,Q⟩]) rfl rfl (yM ⟨V,W,T,Q⟩ _ (by simp)) (BA _) (by omega) (by omega) (by simp;omega) ?_;intro o2 w6 a x;have bp:=Z a;have bv:=Z x;clear a x)))
   go_roundw;case rel=>
    refine⟨m+1,ba,by go_num,?_⟩;have d:=ae HA;have i:=ae bt;have L:=ae bv;have a:=ae bp;have cc:=d.own.lt;have ch:J (λo=>bY (ah ox m oc)=M o) O w6:=(((J.refl (λo=>bY (ah ox m oc)=M o) O).alloc _).alloc _).trans (J.fH L)<|λo e=>.inl e;refine⟨by rw[<-ae bu];exact a,?_,(d.ay.trans i<|λo e=>.inr<|by omega).trans ch<|λo e=>.inr (cc o e).1,d.TP,?_⟩
    .have hr:=ae bq;have cd:=hr.laid<|dA O (aw #[aj V,aj W,aO T,aL Q] 164) none;have ce:=cd.laid<|dA _ (aw #[aj V,aj W,aO T,aL Q] 164) none;exact ce.wrote L d.wJ
    .intro o e;rcases L.uq with cd|⟨ce,cd,hy⟩
     .exact d.wJ o<|cd.symm.trans e
     .rw[cd]at e;cases e;simp at hy;omega
   case measure=>simp[intOf];omega
  .have j:m=X:=by omega
   subst j;have g:l.take m=l:=by rw[<-ae A,bP]
   have b:l.drop m=[]:=by rw[<-ae A,gx]
   have f:=d.rd;rw[b]at f;have a:=xZ f (by simp);simp only[uU,qV,nL,uv]at a;rw[ho,g]at c;have n:=Z c;have i:=Z d.ay;clear d c f b g;subst ho;go_wp2_with fail
   apply a.mono;rintro bi O⟨rfl,q⟩;subst O;go_wp2;go_ret2
   exact⟨_,rfl,by rw[ae A];exact n,i⟩
def lY:Y->dX->eP
 |_,[]=>[]
 |f,l::r=>Dc f l++lY (f+1) r
structure FH(f:Y)(ls:dX):Prop where
 jb:∀l∈ls,∀x∈l,x.Good
 num:∀i(hi:i<z ls),∀x∈ls[i],x.bK=f+i
 one:∀l∈ls,1<=z l/\z l<=8
 sum:(ls.map z).sum<32
 f0:0<=f
 f1:f+z ls<18446744073709551616
def Cq{n:Y}(h:∀x∈e,x.Good)(a:z e<=8):z (Dc n e)<=400:=by
 have:=pQ h;unfold Dc iK;simp only[af,gC,cq,aC];omega
def ue{f:Y}{lsqq:dX}(h:∀l∈lsqq,(∀x∈l,x.Good)/\z l<=8):z (lY f lsqq)<=400*z lsqq:=by
 induction lsqq generalizing f with
 |nil=>simp[lY]
 |cons l r b=>
  have a:=Cq (n:=f) (h l<|by simp).1 (h l<|by simp).2;have c:=b (f:=f+1) (λx a=>h x<|by simp[a]);rw[lY,af,aC];omega
def DO(h:∀l∈k,1<=z l):z k<=(k.map z).sum:=by
 induction k with
 |nil=>simp
 |cons l r b=>
  have a:=h l (by simp);have c:=b (λx a=>h x<|by simp[a]);simp only[aC,aZ,iT];omega
def Pz(w:I)(b:R)(c:jd)(a:dX):Prop:=z c=z a/\∀i(d:i<z c)(e:i<z a),w.ownsRow b 164 4 c[i] (z a[i])<|aH a[i]
def Si:(prog.info? 101).map (λi=>(i.zero,i.size,i.bytes))=M (M aG,1,24):=by kernel_rfl
structure MY(w0 w:I)(f:Y)(ls:dX)(b zqq c m:R)(o:aa)(vs:jd):Prop where
 box:w.heap[G (H w0)+1]?=M (aw #[o,aO bF] 199 (0,0))
 Lb:w.heap[G<|H w0]?=M (aw #[aG,aO bF] 199 (0,0))
 own:w.ownsRow (G (H w0)+2) 101 1 o m vs
 Yt:Pz w (G (H w0)+2) vs (ls.take m)
 bytes:Bytes w0 (bE b zqq (z<|lY (f+m)<|ls.drop m) c) (lY (f+m)<|ls.drop m)
 cap:z (lY (f+m)<|ls.drop m)<=c/\c<=9223372036854775807
 ay:J az w0 w
def FP(h:b<z k):((k.take<|b+1).map z).sum=((k.take b).map z).sum+z k[b]:=by
 rw[ak h,aQ,gw];simp
def Kv(a:dX)(m:R):((a.take m).map z).sum<=(a.map z).sum:=by
 have h:=bW (λl=>(l.map z).sum)<|ci m a;simp only[aQ,gw]at h;omega
def MY.step{c N w1 w2:I}{S L O z' c' g:R}{v o2 bv:aa}{n:Obj}(w:MY c N m k S L O g v x)(hm:g<z k)(p:J az N w1)(hb:w1.ownsRow (G<|H N) 164 4 bv (z k[g]) (aH k[g]))(P:w2.ownsRow (G (H c)+2) 101 1 o2 (g+1) (x++[bv]))(hw:eY (cF w1 n) w2 v o2)(C:Bytes c (bE S z' (z<|lY (m+(g+1:R))<|k.drop<|g+1) c') (lY (m+(g+1:R))<|k.drop<|g+1))(D:z (lY (m+(g+1:R))<|k.drop<|g+1)<=c'/\c'<=9223372036854775807):MY c (ct w2 (U (G (H c)+1) 0) o2) m k S z' c' (g+1) o2 (x++[bv])/\aS w2 (U (G (H c)+1) 0)=M v/\w2.frozen? (U (G (H c)+1) 0)=bF:=by
 have hz:=am w.box;have ac:=w.ay.size;have i:=aI w.own;have q:J (λb=>bY v=M b) w1 w2:=((J.refl (λb=>bY v=M b) w1).alloc n).trans (J.fH hw)<|λ_ a=>.inl a;have y:J (λb=>bY v=M b) N w2:=(p.mono (T:=λb=>bY v=M b) cN).trans q<|λ_ a=>.inl a;have f:∀b,bY v=M b->∃j,N.heap[b]?=M (aw j 101 (0,0)):=λb a=>fK w.own a;have h:w2.heap[G (H c)+1]?=M (aw #[v,aO bF] 199 (0,0)):=(y.block _ hz (λX=>by have:=(i _ X).1;omega)).trans w.box;have d:J (λb=>b=G (H c)+1) w2 (ct w2 (U (G (H c)+1) 0) o2):=(J.refl _ w2).setCell _ 0 _<|.inl rfl;refine⟨⟨?_,?_,?_,?_,C,D,?_⟩,by rw[bL h];rfl,dW h⟩;have:=aT (i:=0) (u:=o2) h;simpa using this;exact(iC _<|by omega).trans<|(y.block _ (am w.Lb) (λX=>by have:=(i _ X).1;omega)).trans w.Lb;exact d.own P (λb a O=>by have:=(aI P b a).1;omega);obtain⟨v1,v2⟩:=w.Yt;(have s:z x=g:=by rw[v1];simp;omega);refine⟨by simp[s];omega,λl h1 h2=>?_⟩;(have t:∀(V:I)(al:aa)(ad:R)(K:jd),V.ownsRow (G (H c)+2) 164 4 al ad K->J (λb=>bY v=M b) V w2->(∀b,bY v=M b->∃j,V.heap[b]?=M (aw j 101 (0,0)))->(ct w2 (U (G (H c)+1) 0) o2).ownsRow (G (H c)+2) 164 4 al ad K:=by intro V al ad K Q E F;have r:=E.own Q (λb a O=>by obtain⟨j,e⟩:=F b O;obtain⟨W,o⟩:=fK Q a;exact iA e o (by decide) rfl);exact d.own r (λb a O=>by have:=(aI r b a).1;omega));rcases dK l g with hi|hi;have A:(x++[bv])[l]=x[l]'(by omega):=oK (by omega);(have B:(k.take<|g+1)[l]=(k.take g)[l]'(by simp;omega):=by rw[gB,gB]);rw[A,B];exact t N _ _ _ (v2 l (by omega) (by simp;omega)) y f;(have o:l=g:=by simp at h2;omega);subst o;(have A:(x++[bv])[l]=bv:=by rw[ou<|by omega];simp[s]);have B:(k.take<|l+1)[l]=k[l]:=gB;rw[A,B];refine t w1 _ _ _ (eM hb<|by omega) q<|λb a=>?_;obtain⟨j,e⟩:=f b a;exact⟨j,(p.block b (am e) id).trans e⟩;exact(w.ay.trans y<|λb a=>.inr (by have:=(i b a).1;omega)).trans d<|λb a=>.inr<|by omega
def KZ{c:Func}{p u:Tmp}(j:c.results=#[.cell p 199,.tmp u])(a:Array aa)(w:I)(g:R)(x:Option Addr)(n k:R)(e:Bool)(t:TypeId)(d:R×R)(i:a.getD p iE=aA g)(f:w.heap[g]?=M (aw #[ah x n k,aO e] t d)):(results c a).run bG w=.ok (dE #[eB #[ah x n k,aO e],a.getD u iE]) w:=by
 have b:a[p]?.getD iE=aA g:=by simpa using i
 have h:=lO (P:=bG) w g t 199 #[ah x n k,aO e] d _ f underlying199 rfl (by kernel_rfl);simp[results,j,b,asAddr,h,Result.andThen]
def Bytes.back(n:Bytes f (bE b c g l) o)(j:J az a f)(h:b<G (H a)):Bytes a (bE b c g l) o:=by
 rcases n with⟨e,_⟩|⟨k,p,m,e,d,i⟩;cases e;cases e;exact .inr ⟨_,_,_,rfl,d,λk e=>(cP (w:=a)<|j.block _ h id).symm.trans<|i k e⟩
def TG:aa->R
 | .slice _ n _=>n
 |_=>0
def QO(x:Option Addr)(n c:R):TG (ah x n c)=n:=rfl
def Rj(f:Y)(a:dX)(m:R)(h:m<z a):lY (f+(m:R)) (a.drop m)=iJ (le 4 (z<|iK (f+(m:R)) a[m])++le 4 (mQ<|iK (f+(m:R)) a[m]))++iK (f+(m:R)) a[m]++lY (f+((m+1:R):R)) (a.drop<|m+1):=by
 rw[bH h,lY];unfold Dc;have:f+(m:R)+1=f+((m+1:R):Y):=by omega
 rw[this]
def Jj(bb d n:R)(hT:Steps a)(hP:FH m k)(O:z (lY m k)<=n)(br:n<=9223372036854775807)(L:bb<G (H a))(hb:Bytes a (bE bb d (z<|lY m k) n) (lY m k)):cA bG 98 #[bE bb d (z<|lY m k) n,aL m] a λcb w'=>
 ∃dv bd E,cb=aP (dE #[eB #[ah dv (z k) bd,aO bF],aO bX])/\w'.ownsRow (G (H a)+2) 101 1 (ah dv (z k) bd) (z k) E/\Pz w' (G (H a)+2) E k/\J az a w':=by
 obtain⟨i0,cs,cB,cE,cM⟩:=cL Si
 have dn:∀(dv:Bool)(a:I),(Op.unary .not<|aO dv).run bG a=.ok (aO<|!dv) a:=λ_ _=>rfl
 have dm:z k<32:=Nat.lt_of_le_of_lt (DO<|λl Q=>(hP.one l Q).1) hP.sum
 have ea:=hP.f0
 have eb:=hP.f1
 obtain⟨RL,ad⟩:∃RL,z (lY m k)=RL:=⟨_,rfl⟩
 have hA0:MY a (cF (cF a<|aw #[aG,aO bF] 199)<|aw #[aG,aO bF] 199) m k bb d n 0 aG []:=by
  refine⟨aE _ (by simp),(ga _<|by simp).trans<|aE _ rfl,bN _ _ _ _,⟨rfl,λcc h1=>absurd h1<|gL cc⟩,?_,?_,(cI _ a).alloc _⟩
  .simpa using hb
  .simpa using⟨O,br⟩
 obtain⟨bf,HT,V,cm⟩:=gD hA0 hT hP ad
 rw[ad]
 clear hA0 hT hP hb O br ad
 go_in
 go_wp2
 go_loopw [0,7] (λbv b wr=>∃j e bc eg E,j<=z k/\bv=bE bb e (z<|lY (m+(j:R))<|k.drop j) bc/\b=aq (((k.take j).map z).sum:R)/\MY a wr m k bb e bc j eg E) (λbv _ _=>TG bv)
 case atStart=>exact⟨0,d,n,_,_,bB _,by rw[<-ae cm];simp,rfl,bf⟩
 case round=>
  obtain⟨j,e,bc,eg,E,hm,rfl,rfl,c⟩:=hrel;have ba:∀ac,J az wr ac->Steps ac:=λac hW=>HT.below ((c.ay.cw hW).below (ai _) cN) HT.lt;obtain⟨s,r,ho⟩:=aB c.own;have v:=cellAt c.box 0 rfl;have dT:=cellAt c.box 1 rfl;have ed:=c.ay.size;have ca:=am c.box;by_cases p:j<z k
  .have S:=ar p;have A:=V.jb _ S;have B:=V.num j p;have C:=V.one _ S;have D:=FP p;have bt:=Kv k<|j+1;have cx:=V.sum;have bs:=Rj m k j p;have o:=c.bytes;have g:=c.cap;have ax:=ue (f:=m+((j+1:R):Y)) (lsqq:=k.drop<|j+1)<|λl Q=>⟨V.jb l<|dw Q,(V.one l<|dw Q).2⟩;have cp:z (k.drop<|j+1)<=32:=by simp;omega
   rw[bs]at o g|-;have HA:=Z c;obtain⟨l,Q⟩:∃l,k[j]=l:=⟨_,rfl⟩;rw[Q]at A B C D o g|-;have ch:=Z Q;obtain⟨q,hq⟩:∃q:Y,m+(j:R)=q:=⟨_,rfl⟩;rw[hq]at B o g|-;have cu:0<=q:=by omega
   have cv:q<18446744073709551616:=by omega
   obtain⟨b,an⟩:∃b,lY (m+((j+1:R):Y)) (k.drop<|j+1)=b:=⟨_,rfl⟩;rw[an]at o g ax|-;have co:z (iK q l)<=1000:=by have:=pQ A;unfold iK;rw[af,aC,cq];omega
   have K:0<z (iK q l):=by unfold iK;rw[af,cq];omega
   have t:z (iJ (le 4 (z<|iK q l)++le 4 (mQ<|iK q l))++iK q l++b)=12+z (iK q l)+z b:=by simp only[af,gC,cq]
   have N:Bytes wr (bE bb e (z<|iJ (le 4 (z<|iK q l)++le 4 (mQ<|iK q l))++iK q l++b) bc) (iJ (le 4 (z<|iK q l)++le 4 (mQ<|iK q l))++iK q l++b):=o.below (c.ay.below (ai _) cN) (λbd P=>by cases P;exact L);have hcut:=LN bb e bc _ (iK q l) b (w:=wr) (ba wr<|J.refl _ _) K (by omega) (by omega) t g.1 g.2 N;have i:=c.own;rw[ho]at i v;have cl:=Z i;obtain⟨LL,bn⟩:∃LL,z (iJ (le 4 (z<|iK q l)++le 4 (mQ<|iK q l))++iK q l++b)=LL:=⟨_,rfl⟩;rw[bn]at hcut t|-;obtain⟨F,y⟩:∃F,z l=F:=⟨_,rfl⟩;obtain⟨BL,x⟩:∃BL,z (iK q l)=BL:=⟨_,rfl⟩;have bl:=Z<|λ(ac:I)(hW:J az wr ac)(ao:Bytes ac (bE bb (e+12) BL<|bc-12) (iK q l))=>DJ bb (e+12) (bc-12) l q ac A B cu cv C.1 C.2 (by rw[x];exact ao);have T:∀ac,J az wr ac->Bytes ac (bE bb (e+12) BL<|bc-12) (iK q l)->cA bG 157 #[bE bb (e+12) BL<|bc-12,aL q] ac λcb w'=>∃a,cb=aP (dE #[a,aO bX])/\w'.ownsRow (G<|H ac) 164 4 a F (aH l)/\J az ac w':=by
    intro ac hW ao;have h:=bl ac hW ao;rw[x,y]at h;exact h
   have bm:=Z T;have cj:=Z y;rw[x]at hcut t;obtain⟨RN,al⟩:∃RN,z b=RN:=⟨_,rfl⟩;rw[al]at hcut t ax;rw[y]at D C;obtain⟨S0,bo⟩:∃S0,((k.take j).map z).sum=S0:=⟨_,rfl⟩;rw[bo]at D|-;obtain⟨cn,X,W,HQ⟩:=gD D an al hq;have dc:(0:Y)<(LL:Y):=by omega
   have a1:IntKind.u64.wrap (j:Y)=j:=by rw[ib];omega
   have a2:IntKind.u64.wrap q=q:=by rw[ib];omega
   have a3:IntKind.i64.wrap ((S0:Y)+(F:Y))=(S0:Y)+F:=by rw[bQ];omega
   have a4:¬((32:Y)<=(S0:Y)+(F:Y)):=by omega
   have a5:m+(j:Y)=q:=hq;have he:∀(b:Addr)(n bd:R)(a:I),(binOp .eql 126 (ah (M b) n bd) aG).run bG a=.ok (aO bF) a:=λ_ _ _ _=>rfl;have bg:=Z (show RN<LL by omega);clear ba c A B bt cx bs o g ax cp Q hq an co K t N bn y x T i al bo bl;subst ho;go_wp2_with fail
   apply hcut.mono;rintro cb w1⟨z',c',rfl,g1,g2,bp,bq,w⟩;have dd:aS w1 (U (G (H a)+1) 0)=M (ah s j r):=w.cell v id ca;have bx:=bm w1 w<|bp.below (w.below (ai _) cN) (λbd P=>by cases P;show bb<G (H wr);omega);have bi:=Z w;have ce:=Z bq;clear bp bq w hcut;go_wp2_with fail
   apply bx.mono;rintro cb w2⟨bv,rfl,av,bu⟩;obtain⟨db,cT,rfl⟩:=aB av;have f:J az wr w2:=bi.cw bu;have dk:aS w2 (U (G (H a)+1) 0)=M (ah s j r):=f.cell v id ca;have ds:=f.size;obtain⟨bh,ck,bk⟩:=dI (f.own cl<|λ_ _ bc=>bc) (eM av bi.size) f;clear av bu f bx;go_wp2_with(first
    |(at_builtin;go_loud(refine bV _ rfl (.tmp 50) (.tmp 52) 197 rfl (G (H a)+2) 101 i0 aG 1 24 underlying197 cs cB cE cM rfl (by decide) (.slice s j r) j E rfl (aU bh _) (U (G (H w2)) 0) 1 1 [.slice db F cT] rfl rfl (pX _ _ _) (by simp[Value.oneCell']) (by omega) (by omega) (by simp;omega) ?_;intro o2 w3 au bT;obtain⟨hA3,dx,ec⟩:=HA.step (z':=z') (c':=c') (w1:=w2) (w2:=w3) (o2:=o2) (bv:=.slice db F cT) p bk (by rw[ae ch];have h:=ae ck;have cb:=ae cj;rw[<-cb]at h;rw[cb];rw[cb]at h;exact h) au bT (by rw[ae X];have hh:=ce.back HA.ay L;rw[<-ae W]at hh;exact hh) (by rw[ae X,ae W];exact⟨g1,g2⟩);obtain⟨ef,ee,rfl⟩:=aB au;have cd:=Z hA3;clear au bT hA3)))
   go_roundw;case rel=>exact⟨j+1,z',c',_,_,p,by rw[ae X,ae W],by rw[ae cn];go_num,cd⟩
   case measure=>
    simp only[QO];exact bg
  .have i:j=z k:=by omega
   have w:k.drop j=[]:=by rw[i,gx]
   have x:k.take j=k:=by rw[i,bP]
   have C:G (H a)<G (H wr):=am c.Lb;have S:=cellAt c.Lb 0 rfl;have T:=cellAt c.Lb 1 rfl;have W:=dW (i:=0) c.Lb;have X:=dW (i:=1) c.Lb;have f:=c.own;have b:=c.Yt;have y:=c.ay;have o:=c.Lb;rw[ho]at f v;rw[x]at b;rw[i]at f v;rw[w];show Code.wp _ _ _ _ _;have t:=Z (show(ct (ct wr (U (G<|H a) 0)<|ah s (z k) r) (U (G<|H a) 1)<|aO bF).heap[G<|H a]?=M (aw #[ah s (z k) r,aO bF] 199 (0,0))/\(ct (ct wr (U (G<|H a) 0)<|ah s (z k) r) (U (G<|H a) 1)<|aO bF).ownsRow (G (H a)+2) 101 1 (ah s (z k) r) (z k) E/\Pz (ct (ct wr (U (G<|H a) 0)<|ah s (z k) r) (U (G<|H a) 1)<|aO bF) (G (H a)+2) E k/\J az a (ct (ct wr (U (G<|H a) 0)<|ah s (z k) r) (U (G<|H a) 1)<|aO bF)from by
    have g:J (λbd=>bd=G (H a)) wr (ct (ct wr (U (G (H a)) 0) (ah s (z k) r)) (U (G (H a)) 1) (aO bF)):=(ij (G (H a)) wr).setCell (G (H a)) 1 _ (.inl rfl);refine⟨?_,g.own f (λbd P bc=>by have:=(aI f bd P).1;omega),⟨b.1,λcc h1 A=>g.own (b.2 cc h1 A) (λbd P bc=>by have:=(aI (b.2 cc h1 A) bd P).1;omega)⟩,y.trans g (λbd P=>.inr (by omega))⟩;have A:=aT (i:=1) (u:=aO bF) (aT (i:=0) (u:=ah s (z k) r) o);simpa using A)
   subst i;clear c ba f b y o w x bf V;subst ho;have B:z (lY (m+(z k:R)) [])=0:=rfl;rw[B];go_wp2;obtain⟨D,F,K,N⟩:=ae t;refine cO (KZ rfl _ _ (G<|H a) s (z k) r bF _ _ rfl D) rfl ?_;exact⟨s,r,E,rfl,F,K,N⟩
structure VZ(w0 w:I)(x:R)(ob:Obj)(o:aa)(bs:eP):Prop where
 own:eQ w (G<|H w0) o bs
 box:w.heap[x]?=M ob
 ne:bY o≠M x
 ay:J az w0 w
def VZ.wrote{k:Obj}{c:eP}(h:VZ a f b k d o)(j:eY f B d t)(m:eQ B (G<|H a) t c):VZ a B b k t c:=by
 have e:=am h.box;have i:=J.fH j;refine⟨m,(i.block b e h.ne).trans h.box,λg=>?_,h.ay.trans i<|λq g=>.inr (h.own.lt q g).1⟩;rcases j.uq with l|⟨n,l,p⟩;exact h.ne<|l.symm.trans g;rw[l]at g;cases g;omega
def uK(t:bJ):eP:=le 8 t.num++(le 4 (z<|dL t.cs)++(le 4 (z<|fp t.ks)++le 4 (mQ<|fp t.ks)))
def oQ(a:cR):eP:=le 4 (z a)++a.flatMap uK
def iM(next b a:Y)(c:cD cR):eP:=iJ<|le 8 next++le 8 b++le 8 a++(c.map oQ).flatten
def My(t:bJ):z (uK t)=20:=by simp[uK,cq]
def pR(a:cR):z (oQ a)=4+20*z a:=by
 unfold oQ;rw[af,cq];induction a with
 |nil=>rfl
 |cons t r b=>rw[dN,af,My,aC];omega
structure bJ.oG(t:bJ):Prop where
 num:t.num<18446744073709551616
 d:z (dL t.cs)<4294967296
 i:z (fp t.ks)<4294967296
def Hi(a:cR)(n j:R)(h:n<z a)(g:j<4):(du a)[n*4+j]?=(bJ.uG a[n])[j]?:=by
 have e:∀(l:cR),z (du l)=z l*4:=by
  intro l;induction l with
  |nil=>rfl
  |cons t r c=>unfold du at*;rw[dN,af,c];simp[bJ.uG];omega
 have f:du a=du (a.take n)++(bJ.uG a[n]++du (a.drop<|n+1)):=by(have c:a=a.take n++a[n]::a.drop (n+1):=by rw[<-bH h,ci]);have d:du a=du (a.take n++a[n]::a.drop (n+1)):=bW du c;rw[d];unfold du;rw[gh,dN]
 have b:z (du<|a.take n)=n*4:=by rw[e];simp;omega
 rw[f,dJ (by omega),b,show n*4+j-n*4=j by omega,gm (by simp[bJ.uG];omega)]
def OX(next g c:Y)(O P Q S:Option Addr)(K c1 c2 c3:R)(m0 m1 m2 m3:cR)(hT:Steps a)(r0:Row a 4 (ah O (z m0) K) (z m0) (du m0))(r1:Row a 4 (ah P (z m1) c1) (z m1) (du m1))(r2:Row a 4 (ah Q (z m2) c2) (z m2) (du m2))(r3:Row a 4 (ah S (z m3) c3) (z m3) (du m3))(b0:∀k,bY (ah O (z m0) K)=M k->k<G (H a))(b1:∀k,bY (ah P (z m1) c1)=M k->k<G (H a))(b2:∀k,bY (ah Q (z m2) c2)=M k->k<G (H a))(b3:∀k,bY (ah S (z m3) c3)=M k->k<G (H a))(k0:∀bk∈m0,bk.oG)(k1:∀bk∈m1,bk.oG)(k2:∀bk∈m2,bk.oG)(k3:∀bk∈m3,bk.oG)(hn:0<=next/\next<18446744073709551616)(hl:0<=g/\g<18446744073709551616)(hb:0<=c/\c<18446744073709551616)(hs:z m0+z m1+z m2+z m3<=1000000):cA bG 203 #[eB #[aL next,aL g,aL c,ah O (z m0) K,ah P (z m1) c1,ah Q (z m2) c2,ah S (z m3) c3]] a λC w'=>∃v',C=aP v'/\eQ w' (G<|H a) v' (iM next g c [m0,m1,m2,m3])/\J az a w':=by
 obtain⟨X,y⟩:∃X:Obj,X=aw #[aL next,aL g,aL c,ah O (z m0) K,ah P (z m1) c1,ah Q (z m2) c2,ah S (z m3) c3] 187:=⟨_,rfl⟩;have t:∀(cu:I)(bi:R)(cs:aa),cu.heap[G<|H a]?=M X->(#[aL next,aL g,aL c,ah O (z m0) K,ah P (z m1) c1,ah Q (z m2) c2,ah S (z m3) c3]:Array aa)[bi]?=M cs->aS cu (U (G<|H a) bi)=M cs:=by intro cu bi cs b hv;rw[y]at b;rw[bL b];exact hv
 have hA0:VZ a (cF a X) (G<|H a) X aG []:=⟨eQ.nil _ _,aE _ rfl,(by intro C;cases C),(cI _ a)⟩;have p1:=pJ next hA0.own hA0.ay.size (by simp) hn.1 hn.2
 obtain⟨bl,l,HT,cd,ce,ch,cj,bo⟩:=Fc hA0 t hT r0 r1 r2 r3 b0;obtain⟨bp,bq,br,bx,bT,ca,cb,cc⟩:=Fc b1 b2 b3 k0 k1 k2 k3 y;rw[y]at p1;clear hA0 t hT r0 r1 r2 r3 b0 b1 b2 b3 k0 k1 k2 k3 y;go_in
 go_wp2_with fail
 apply p1.mono;rintro C w1⟨v1,rfl,ac,L⟩;rw[<-ae cc]at L;have hA1:=bl.wrote L ac;have d1:=l w1 1 _ hA1.box rfl;have p2:=pJ g hA1.own hA1.ay.size (by simp[cq]) hl.1 hl.2;have bm:=Z hA1;clear hA1 ac L p1;go_wp2_with fail
 apply p2.mono;rintro C w2⟨v2,rfl,ad,bb⟩;have hA2:=bm.wrote bb ad;have d2:=l w2 2 _ hA2.box rfl;have p3:=pJ c hA2.own hA2.ay.size (by simp[cq]) hb.1 hb.2;have bn:=Z hA2;clear hA2 ad bb p2 d1;go_wp2_with fail
 apply p3.mono;rintro C w3⟨v3,rfl,al,bc⟩;have hA3:=bn.wrote bc al;have d3:=l w3 3 _ hA3.box rfl;have d4:=l w3 4 _ hA3.box rfl;have d5:=l w3 5 _ hA3.box rfl;have d6:=l w3 6 _ hA3.box rfl;have V:=Z hA3.own;have cm:=Z hA3.ay;clear hA3 al bc p3 d2;obtain⟨f,j⟩:∃f,(([]++le 8 next)++le 8 g)++le 8 c=f:=⟨_,rfl⟩;have cT:z f=24:=by rw[<-j];simp[cq]
 have W:=Z j;rw[j]at V;clear j;go_wp2;go_loopw [3,21] (λdk bi wr=>∃k:R,k<=4/\bi=aq k/\eQ wr (G<|H a) dk (f++(([m0,m1,m2,m3].take k).map oQ).flatten)/\J az a wr) (λ_ bi _=>4-(intOf bi).toNat)
 case atStart=>exact⟨0,bB _,rfl,by simpa using ae V,cm⟩
 (case round=>obtain⟨k,hk,rfl,i,m⟩:=hrel;have ba:=m.size;have ax:=i.lt;(have s:∀k,z (f++(([m0,m1,m2,m3].take k).map oQ).flatten)<=30000000:=by intro k;(have h1:z ((([m0,m1,m2,m3].take k).map oQ).flatten)<=z ((([m0,m1,m2,m3]).map oQ).flatten):=by refine qi ?_;(have C:([m0,m1,m2,m3].map oQ).flatten=(([m0,m1,m2,m3].take k).map oQ).flatten++(([m0,m1,m2,m3].drop k).map oQ).flatten:=by rw[<-dQ,<-aQ,ci]);rw[C];exact oJ _ _);(have h2:z ((([m0,m1,m2,m3]).map oQ).flatten)=16+20*(z m0+z m1+z m2+z m3):=by simp[pR];omega);rw[af];omega);rcases dK k 4 with co|co;(·(obtain⟨b,x,cM,HR,HB,HK,cE,v,db⟩:∃(b:cR)(x:Option Addr)(cM:R),Hid (Row a 4 (ah x (z b) cM) (z b)<|du b)/\Hid (∀k,bY (ah x (z b) cM)=M k->k<G (H a))/\Hid (∀bk∈b,bk.oG)/\z b<=1000000/\f++(([m0,m1,m2,m3].take<|k+1).map oQ).flatten=(f++(([m0,m1,m2,m3].take k).map oQ).flatten)++oQ b/\∀cu,(Instr.index 185 (eB #[ah O (z m0) K,ah P (z m1) c1,ah Q (z m2) c2,ah S (z m3) c3])<|aq k).run bG cu=.ok (ah x (z b) cM) cu:=by(have d:k=0\/k=1\/k=2\/k=3:=by omega);rcases d with rfl|rfl|rfl|rfl;exact⟨m0,O,K,cd,bo,bx,by omega,by simp,λ_=>by kernel_rfl⟩;exact⟨m1,P,c1,ce,bp,bT,by omega,by simp,λ_=>by kernel_rfl⟩;exact⟨m2,Q,c2,ch,bq,ca,by omega,by simp,λ_=>by kernel_rfl⟩;exact⟨m3,S,c3,cj,br,cb,by omega,by simp,λ_=>by kernel_rfl⟩);(have dc:(k:Y)<4:=by omega);have cv:=s k;have cp:=s<|k+1;have cl:=Z v;clear s v;generalize f++(([m0,m1,m2,m3].take k).map oQ).flatten=bs at*;have a1:=sY (n:=(z b:R)) (by omega) (by omega);have pw:=jM (z b:R) i ba (by omega) (by omega) (by omega);have F:=Z m;clear i m;(go_wp2_with fail);apply pw.mono;rintro C w4⟨v4,rfl,u,w⟩;have D:=Z u;have E:=Z<|F.trans (J.fH w)<|λl j=>.inr (ax l j).1;clear u w pw;go_wp2;(go_loopw [3,31] (λdk bi wr=>∃q:R,q<=z b/\bi=aq q/\eQ wr (G<|H a) dk ((bs++le 4 (z b:R))++(b.take q).flatMap uK)/\J az a wr) (λ_ bi _=>z b-(intOf bi).toNat));(case atStart=>exact⟨0,bB _,rfl,by simpa using ae D,E⟩);(case round=>obtain⟨q,hq,rfl,d,e⟩:=hrel;have cx:=e.size;by_cases A:q<z b;(.obtain⟨_,⟨hx,h0⟩|⟨cB,N,dm,hx,_,hc⟩⟩:=ae HR;omega;(.cases hx;have cn:cB<G (H a):=HB cB rfl;have hg:∀l cs,l<4->(bJ.uG b[q])[l]?=M cs->aS wr (U cB<|N+q*4+l)=M cs:=λl cs j hv=>e.cell (by rw[aY];exact hc _ _<|(Hi b q l A j).trans hv) id cn;have B:=HK _<|ar A;(have dd:z ((bs++le 4 (z b:R))++(b.take q).flatMap uK)<=100000000:=by have h1:=pR<|b.take q;unfold oQ at h1;rw[af,cq]at h1;(have h2:z (b.take q)<=1000000:=by simp;omega);simp only[af,cq];omega);have ck:=Z (show((bs++le 4 (z b:R))++(b.take q).flatMap uK)++(le 8 (b[q].num:R)++(le 4 (z<|dL b[q].cs)++(le 4 (z<|fp b[q].ks)++le 4 (mQ<|fp b[q].ks))))=(bs++le 4 (z b:R))++(b.take<|q+1).flatMap uK from by rw[ak A,gh,<-aW];simp[uK]);have g0:=hg 0 _ (by omega) rfl;have g1:=hg 1 _ (by omega) rfl;have g2:=hg 2 _ (by omega) rfl;have g3:=hg 3 _ (by omega) rfl;have o1:=B.num;have o2:=B.d;have o3:=B.i;have o4:=zP<|fp b[q].ks;have o5:=BT<|fp b[q].ks;clear hg B;simp only[ju]at g0 g1 g2 g3;generalize b[q].num=y0 at*;generalize z (dL b[q].cs)=y1 at*;generalize z (fp b[q].ks)=y2 at*;generalize mQ (fp b[q].ks)=y3 at*;generalize((bs++le 4 (z b:R))++(b.take q).flatMap uK)=B0 at*;have hE:VZ a (cF wr<|aw #[aL y0,dz y1,dz y2,dz y3] 266) (G<|H wr) (aw #[aL y0,dz y1,dz y2,dz y3] 266) u3 B0:=⟨d.alloc _,aE _ rfl,λC=>by have:=(d.lt _ C).2;omega,e.alloc _⟩;have z1:=pJ (y0:R) hE.own hE.ay.size (by omega) (by omega) (by omega);have HE:=Z hE;clear hE d e;(go_wp2_with fail);apply z1.mono;rintro C w5⟨v5,rfl,an,bd⟩;have o:=HE.wrote bd an;have f1:=cellAt o.box 1 rfl;have z2:=jM (y1:R) o.own o.ay.size (by rw[af,cq];omega) (by omega) (by omega);have bt:=Z o;clear o an bd z1;(go_wp2_with fail);apply z2.mono;rintro C w6⟨v6,rfl,ao,bf⟩;have p:=bt.wrote bf ao;have f2:=cellAt p.box 2 rfl;have z3:=jM (y2:R) p.own p.ay.size (by simp only[af,cq];omega) (by omega) (by omega);have bu:=Z p;clear p ao bf z2;(go_wp2_with fail);apply z3.mono;rintro C w7⟨v7,rfl,au,bg⟩;have r:=bu.wrote bg au;have f3:=cellAt r.box 3 rfl;have z4:=jM y3 r.own r.ay.size (by simp only[af,cq];omega) o4 o5;have bv:=Z r;clear r au bg z3;(go_wp2_with fail);apply z4.mono;rintro C w8⟨v8,rfl,av,bh⟩;have T:=Z<|bv.wrote bh av;clear av bh z4;go_wp2;go_roundw;(case rel=>refine⟨q+1,A,by go_num,?_,T.ay⟩;rw[<-ae ck];have h:=T.own;simpa using h);case measure=>simp[intOf];omega));(·(have p:q=z b:=by omega);subst p;rw[bP]at d;have r:=Z d;have o:=Z e;clear d e;go_wp2;go_roundw;(case rel=>refine⟨k+1,by omega,by go_num,?_,o⟩;rw[ae cl];have h:=ae r;unfold oQ;simpa using h);case measure=>simp[intOf];omega)));(·(obtain rfl:k=4:=by omega);have b:((4:R):Y)=4:=rfl;have d:=DY (HT.below (m.below (ai _) cN) HT.lt) i ba (by have:=s 4;omega);have F:=Z m;clear i m s;(go_wp2_with fail);apply d.mono;rintro C w4⟨v4,rfl,u,w⟩;have D:=Z u;have E:=Z<|F.trans (J.fH w)<|λl j=>.inr (ax l j).1;clear u w;go_wp2;go_ret;refine⟨_,rfl,?_,E⟩;have h:=ae D;unfold iM iJ;(have C:f++(([m0,m1,m2,m3].take 4).map oQ).flatten=le 8 next++le 8 g++le 8 c++([m0,m1,m2,m3].map oQ).flatten:=by rw[<-ae W];simp);rw[C]at h;exact h))
def SE{a:Fs}(d:eP)(h:ew a v=none):vA (a++[(v,d)]) v=a:=by
 induction a with
 |nil=>simp[vA]
 |cons g r c=>
  obtain⟨b,f⟩:=g;by_cases e:b=v
  .simp[ew,e]at h
  .simp[ew,e]at h;simp[vA,e,c h]
def Sk(next c b:Y)(d:cD cR):kG (iM next c b d):=by
 unfold iM iJ;refine(kG.append ?_ ?_).append<|kG.le 4 _;exact((kG.le 8 _).append<|kG.le 8 _).append<|kG.le 8 _;intro x a;obtain⟨l,e,a⟩:=bC.1 a;obtain⟨f,_,rfl⟩:=bz.1 e;unfold oQ at a;rcases ap.1 a with a|a;exact kG.le 4 _ x a;obtain⟨t,_,a⟩:=mF.1 a;unfold uK at a;simp only[ap]at a;rcases a with a|a|a|a;exact kG.le 8 _ x a;exact kG.le 4 _ x a;exact kG.le 4 _ x a;exact kG.le 4 _ x a
def TN(g:R)(K:DK)(next c b:Y)(x0 x1 x2 x3:Option Addr)(E c1 c2 c3:R)(m0 m1 m2 m3:cR)(hT:Steps a)(r0:Row a 4 (ah x0 (z m0) E) (z m0) (du m0))(r1:Row a 4 (ah x1 (z m1) c1) (z m1) (du m1))(r2:Row a 4 (ah x2 (z m2) c2) (z m2) (du m2))(r3:Row a 4 (ah x3 (z m3) c3) (z m3) (du m3))(b0:∀k,bY (ah x0 (z m0) E)=M k->k<G (H a))(b1:∀k,bY (ah x1 (z m1) c1)=M k->k<G (H a))(b2:∀k,bY (ah x2 (z m2) c2)=M k->k<G (H a))(b3:∀k,bY (ah x3 (z m3) c3)=M k->k<G (H a))(k0:∀bg∈m0,bg.oG)(k1:∀bg∈m1,bg.oG)(k2:∀bg∈m2,bg.oG)(k3:∀bg∈m3,bg.oG)(hn:0<=next/\next<18446744073709551616)(hl:0<=c/\c<18446744073709551616)(hb:0<=b/\b<18446744073709551616)(hs:z m0+z m1+z m2+z m3<=1000000)(w:cU a g K)(hg:ew (vw K.files) vh=none)(bi:z K.eU<=100000000000)(y:iy (vw K.files)+21000000<=1099511627776):cA bG 142 #[aA g,eB #[aL next,aL c,aL b,ah x0 (z m0) E,ah x1 (z m1) c1,ah x2 (z m2) c2,ah x3 (z m3) c3]] a λj o=>
 j=aP .nilIface/\∃d,rW a o g K d/\vw d.files=tC (vw K.files) (gY,iM next c b [m0,m1,m2,m3])/\d.eU=[]:=by
 obtain⟨bc,p⟩:∃bc,cF a (aw #[aL next,aL c,aL b,ah x0 (z m0) E,ah x1 (z m1) c1,ah x2 (z m2) c2,ah x3 (z m3) c3] 187)=bc:=⟨_,rfl⟩
 have hW:J az a bc:=by rw[<-p];exact(cI _ a)
 have ac:Steps bc:=by rw[<-p];exact hT.alloc _
 have f:∀{v n xs},Row a 4 v n xs->(∀k,bY v=M k->k<G (H a))->Row bc 4 v n xs:=λb hk=>hW.row b<|λk j=>⟨id,hk k j⟩
 have hz:=hW.size
 have O:=OX next c b x0 x1 x2 x3 E c1 c2 c3 m0 m1 m2 m3 ac (f r0 b0) (f r1 b1) (f r2 b2) (f r3 b3) (λk j=>ag (b0 k j) hz) (λk j=>ag (b1 k j) hz) (λk j=>ag (b2 k j) hz) (λk j=>ag (b3 k j) hz) k0 k1 k2 k3 hn hl hb hs
 have Q:=Sk next c b [m0,m1,m2,m3]
 have X:z (iM next c b [m0,m1,m2,m3])<=20001000/\0<z (iM next c b [m0,m1,m2,m3]):=by
  unfold iM;rw[gC];simp only[af,cq,aZ,fi,aX,fR,cS,pR];omega
 have F:=λC(v1:aa)(ht:J az bc C)(ho:eQ C (G<|H bc) v1 (iM next c b [m0,m1,m2,m3]))=>show∃bh bd,v1=bE bh 0 (z<|iM next c b [m0,m1,m2,m3]) bd/\cA bG 200 #[aA g,aj vh,v1] C λj o=>j=aP .nilIface/\∃d,rW a o g K d/\vw d.files=vw K.files++[(vh,iM next c b [m0,m1,m2,m3])]/\z d.eU=z K.eU+1 from by
  obtain⟨bh,bd,rfl,a1,a2,_⟩:=uC ho X.2;have A:J az a C:=hW.cw ht;refine⟨bh,bd,rfl,(Gy (db:=g) (K:=K) vh bh 0 bd (w:=C) (w.ay A<|λ_ _=>id) hg (by omega) (by omega) Q (Bytes.cells<|eQ.bytes ho) a2 (λcc=>by have:=w.lt _ cc;omega)).mono ?_⟩;rintro j o⟨rfl,d,u,hv,hm⟩;exact⟨rfl,d,⟨u.ok,(A.mono (T:=K.bw g) cN).trans u.ay<|λ_ h=>.inl h,λk hk=>(u.bw k hk).elim .inl<|λbd=>.inr<|aF A.size bd⟩,hv,hm⟩
 have av:=Z F
 generalize iM next c b [m0,m1,m2,m3]=SB at*
 have s:∀r i,rW a r g K i->vw i.files=vw K.files++[(vh,SB)]->z i.eU=z K.eU+1->cA bG 204 #[aA g,aj vh,aj gY] r λj o=>j=aP .nilIface/\∃d,rW a o g K d/\vw d.files=tC (vw K.files) (gY,SB)/\z d.eU=z K.eU+2:=by
  intro r i e m q;have bf:ew (vw i.files) vh=M SB:=by rw[m,jN,hg];simp[ew]
  obtain⟨bk,hF,A⟩:=jz bf;apply(NS vh gY bk e.ok hF (by decide)<|by omega).mono;rintro j o⟨rfl,d,u,hf,hm⟩;refine⟨rfl,d,e.trans u,?_,by omega⟩;rw[hf,DC,Tr,m,SE SB hg];simp only[A]
 have l:∀r i,rW a r g K i->z i.eU=z K.eU+2->cA bG 92 #[aA g] r λj o=>j=aP .nilIface/\∃d,rW a o g K d/\d.files=i.files/\d.eU=[]:=by
  intro r i e q;apply(Co e.ok<|by omega).mono;rintro j o⟨rfl,d,u,hf,hm⟩;exact⟨rfl,d,e.trans u,hf,hm⟩
 obtain⟨D,t,bb⟩:=dI s l p
 clear hT r0 r1 r2 r3 b0 b1 b2 b3 k0 k1 k2 k3 hn hl hb w hg y hW ac f hz Q X F s l p
 go_in
 go_wp2_with fail
 rw[ae bb]
 apply O.mono
 rintro j C⟨v1,rfl,W,al⟩
 obtain⟨bh,bd,rfl,B⟩:=av C v1 al W
 clear W al O
 unfold vh at B
 go_wp2_with fail
 apply B.mono
 rintro j r⟨rfl,i,e,m,q⟩
 have x:=D r i e m q
 clear e m q B
 unfold vh gY at x
 go_wp2_with fail
 apply x.mono
 rintro j w3⟨rfl,K3,L,an,S⟩
 have ad:=t w3 K3 L S
 have ba:=Z an
 clear L an S x
 go_wp2_with fail
 apply ad.mono
 rintro j w4⟨rfl,K4,N,P,V⟩
 obtain⟨ao,au,ax⟩:=dI N P V
 clear N P V ad
 go_wp2
 go_ret
 exact⟨rfl,K4,ao,by rw[ae au];exact ba,ax⟩
def vW{c:Func}{E Q:Tmp}(S:c.results=#[.cell E 187,.tmp Q])(a:Array aa)(w:I)(g:R)(n y k:Y)(e f h i:aa)(O:TypeId)(d:R×R)(r:a.getD E iE=aA g)(p:w.heap[g]?=M (aw #[aL n,aL y,aL k,e,f,h,i] O d))(j:∃x n k,e=ah x n k)(l:∃x n k,f=ah x n k)(m:∃x n k,h=ah x n k)(o:∃x n k,i=ah x n k):(results c a).run bG w=.ok (dE #[eB #[aL n,aL y,aL k,e,f,h,i],a.getD Q iE]) w:=by
 obtain⟨F,A,s,rfl⟩:=j;obtain⟨K,B,t,rfl⟩:=l;obtain⟨L,C,u,rfl⟩:=m;obtain⟨N,D,v,rfl⟩:=o;have b:a[E]?.getD iE=aA g:=by simpa using r
 have q:=lO (P:=bG) w g O 187 #[aL n,aL y,aL k,ah F A s,ah K B t,ah L C u,ah N D v] d _ p underlying187 rfl (by kernel_rfl);simp[results,S,b,asAddr,q,Result.andThen]
def Za:aa:=eB #[aL 2,aL 1,aL 0,aG,aG,aG,aG]
def NE{db:R}{K:DK}(h:cU a db K)(hn:z K.files<=100000000)(hp:Pow a)(g:∀av∈K.files.map dp.name,av=⟨#[108,111,103,45,49]⟩):cA bG 148 #[aA db] a λal w'=>al=aP (dE #[Za,.nilIface])/\J az a w':=by
 have o:J az a (cF (cF a<|aw #[aL 0,aL 0,aL 0,aG,aG,aG,aG] 187)<|aw #[aL 2,aL 1,aL 0,aG,aG,aG,aG] 187):=(cI az a).alloc _;have A:(cF (cF a<|aw #[aL 0,aL 0,aL 0,aG,aG,aG,aG] 187)<|aw #[aL 2,aL 1,aL 0,aG,aG,aG,aG] 187).heap[G<|H a]?=M (aw #[aL 0,aL 0,aL 0,aG,aG,aG,aG] 187 (0,0)):=(ga _<|by simp).trans<|aE _ rfl;have B:(cF (cF a<|aw #[aL 0,aL 0,aL 0,aG,aG,aG,aG] 187)<|aw #[aL 2,aL 1,aL 0,aG,aG,aG,aG] 187).heap[G (H a)+1]?=M (aw #[aL 2,aL 1,aL 0,aG,aG,aG,aG] 187 (0,0)):=aE _ (by simp);have E:=EP (db:=db) (K:=K) (h.ay o<|λ_ _=>id) hn;obtain⟨T,q,r,HP,HA⟩:=jX o A B hp g;clear h hp g o A B;go_in
 go_wp2_with fail
 apply E.mono;rintro al w3⟨v3,f,rfl,n,m,e⟩;obtain⟨x3,c3,W⟩:=aB m;subst W;have y:=T.cw e;have C:=(e.block _ (am q) id).trans q;have D:=(e.block _ (am r) id).trans r;have ao:z f<=100000000:=by have:=n.length_eq;simp at this;omega
 have F:∀x∈f,x=⟨#[108,111,103,45,49]⟩:=λx X=>HA x<|n.mem_iff.1 X;obtain⟨w,x,s,t,Q⟩:=jX m y C D F;clear m e y C D F n E;go_wp2;go_loopw [13] (λj wr=>∃(O:R),O<=z f/\j=aq O/\J az w3 wr) (λj _=>z f-(intOf j).toNat)
 case atStart=>exact⟨0,bB _,by go_num,J.refl _ _⟩
 (case round=>obtain⟨O,hj,rfl,i⟩:=hrel;have d:=(i.block _ (am s) id).trans s;have b:=(i.block _ (am t) id).trans t;by_cases l:O<z f;(·(have e1:(O:Y)<(z f:Y):=by omega);(have e2:(0:Y)<=(O:Y):=by omega);have L:=Ol<|HP.ay (x.cw i) id;(have k:∃ad c,x3=M (U ad c)/\aS wr (U ad<|c+O)=M (aj ⟨#[108,111,103,45,49]⟩):=by obtain⟨q1,⟨q2,q0⟩|⟨au,P,ac,q2,an,hc⟩⟩:=dr w;omega;cases q2;refine⟨au,P,rfl,?_⟩;(have hg:(strs f)[O]?=M (aj f[O]):=by simp[strs,l]);rw[(ae Q) _<|ar l]at hg;exact i.cell (hc _ _ hg) id (w.lt au rfl).2);obtain⟨ad,c,X,k⟩:=k;subst X;obtain⟨S,u,v⟩:=dI i d b;clear i d b;(go_wp2_with fail);apply L.mono;rintro al w4⟨rfl,p⟩;have N:=(p.block _ (am v) id).trans v;have y0:=cellAt N 0 rfl;have V:=Z<|S.cw p;clear p N L k;go_wp2;go_roundw;(case rel=>exact⟨O+1,l,by go_num,V⟩);case measure=>simp[intOf];omega);(have e1:¬(O:Y)<(z f:Y):=by omega);have y0:=cellAt b 0 rfl;have P:=cellAt b 1 rfl;have V:=cellAt b 2 rfl;have y3:=cellAt b 3 rfl;have y4:=cellAt b 4 rfl;have y5:=cellAt b 5 rfl;have y6:=cellAt b 6 rfl;(have N:∀j,wr.frozen? (U (G<|H a) j)=bF:=λj=>by simp[World.frozen?,d]);(have c:∀j,j<7->∃p,aS wr (U (G<|H a) j)=M p:=λj L=>by rw[bL d];exact⟨_,ow<|by simpa using L⟩);obtain⟨u0,z0⟩:=c 0 (by omega);obtain⟨u1,z1⟩:=c 1 (by omega);obtain⟨u2,z2⟩:=c 2 (by omega);obtain⟨u3,z3⟩:=c 3 (by omega);obtain⟨u4,z4⟩:=c 4 (by omega);obtain⟨u5,z5⟩:=c 5 (by omega);obtain⟨u6,z6⟩:=c 6 (by omega);have S:=Z i;have u:=Z d;clear i d b c;go_wp2;have k:=aT (i:=6) (u:=aG)<|aT (i:=5) (u:=aG)<|aT (i:=4) (u:=aG)<|aT (i:=3) (u:=aG)<|aT (i:=2) (u:=aL 0)<|aT (i:=1) (u:=aL 1)<|aT (i:=0) (u:=aL 2) u;refine cO (vW rfl _ _ (G<|H a) 2 1 0 _ _ _ _ _ _ rfl k ⟨_,_,_,rfl⟩ ⟨_,_,_,rfl⟩ ⟨_,_,_,rfl⟩ ⟨_,_,_,rfl⟩) rfl ?_;refine⟨rfl,?_⟩;have v:=x.cw S;exact((((((v.setCell _ 0 _<|.inr<|ai _).setCell _ 1 _<|.inr<|ai _).setCell _ 2 _<|.inr<|ai _).setCell _ 3 _<|.inr<|ai _).setCell _ 4 _<|.inr<|ai _).setCell _ 5 _<|.inr<|ai _).setCell _ 6 _<|.inr<|ai _)
def Rd.ay{S:fN}{w w':I}(r:Rd w c o C)(k:J S w w')(h:∀l,S l->c<l):Rd w' c o C:=by
 have g:=r.lt;obtain⟨v,q,n,j⟩:=r;refine⟨v,(k.block c g<|λm=>lh _<|h _ m).trans q,?_,j⟩;rcases n with⟨rfl,rfl⟩|⟨b,a,d,rfl,e,p⟩;exact .inl ⟨rfl,rfl⟩;have:=j b rfl;exact .inr ⟨b,a,d,rfl,e,λl c=>k.cell (p l c) (λm=>by have:=h _ m;omega)<|by omega⟩
structure sD(w0 wr:I)(sb rb mb:R)(nx lg bt:Y)(vs:jd)(Ds:cD cR)(ks:aa->Prop)(rest:eP):Prop where
 box:wr.heap[sb]?=M (aw (aL nx::aL lg::aL bt::vs).toArray 187 (0,0))
 zp:z vs=4
 AS:z Ds=4
 rows:∀(j:R)(v:aa)(D:cR),vs[j]?=M v->Ds[j]?=M D->wr.ownsRow (mb+1) 266 4 v (z D) (du D)
 ne:∀(j j':R)(v v':aa)(q:R),j≠j'->vs[j]?=M v->vs[j']?=M v'->bY v=M q->bY v'≠M q
 set:lJ wr mb (.int .u64) ks
 rd:Rd wr rb rest bF
 ay:J az w0 wr
 ord:G (H w0)<=rb/\rb<sb/\sb<mb/\mb<G (H wr)
def sD.row{q wr:I}{a:cD cR}{p:aa->Prop}(l:sD q wr b c g m D Q x a p o){j:R}(e:x[j]?=M d):∃h,a[j]?=M h/\wr.ownsRow (g+1) 266 4 d (z h) (du h):=by
 have n:j<4:=by rw[<-l.zp];rcases dK j (z x)with k|k;exact k;rw[dy k]at e;cases e
 have f:a[j]?=M (a[j]'(by rw[l.AS];exact n)):=aK _;exact⟨_,f,l.rows j d _ e f⟩
def sD.own{n wr:I}{a:cD cR}{k:aa->Prop}(p:sD n wr c g l m D Q x a k o)(j:x[y]?=M d){q:R}(e:bY d=M q):l<q/\q<G (H wr):=by
 obtain⟨r,_,h⟩:=p.row j;have:=aI h q e;omega
def sD.cell{e wr:I}{a:cD cR}{d:aa->Prop}(h:sD e wr c g l m D Q x a d o)(j:R):aS wr (U c<|3+j)=x[j]?:=by
 rw[bL h.box,vI 3 j];simp
def sD.read{j wr e:I}{f:cD cR}{i:aa->Prop}{a:eP}(h:sD j wr b c g m D Q x f i o)(d:J (λl=>l=c) wr e)(k:Rd e c a bF):sD j e b c g m D Q x f i a where
 box:=(d.block b (am h.box) (by have:=h.ord;omega)).trans h.box
 zp:=h.zp
 AS:=h.AS
 rows:=λn v l b g=>d.own (h.rows n v l b g) (λq k p=>by have:=h.own b k;have:=h.ord;omega)
 ne:=h.ne
 set:=h.set.dq<|d.block g h.ord.2.2.2 (by have:=h.ord;omega)
 rd:=k
 ay:=h.ay.trans d<|λl b=>.inr (by have:=h.ord;omega)
 ord:=⟨h.ord.1,h.ord.2.1,h.ord.2.2.1,ag h.ord.2.2.2 d.size⟩
def sD.still{f wr h:I}{a:cD cR}{e:aa->Prop}(i:sD f wr b c g m D Q x a e o)(d:J az wr h):sD f h b c g m D Q x a e o:=i.read (d.mono cN)<|i.rd.ay d cN
def sD.EA{j wr e:I}{f:cD cR}{l d:aa->Prop}(h:sD j wr b c g m D Q x f l o)(a:wr.grownBy e (M g))(k:lJ e g (.int .u64) d):sD j e b c g m D Q x f d o where
 box:=(a.block b (am h.box) (by have:=h.ord;intro i;cases i;omega)).trans h.box
 zp:=h.zp
 AS:=h.AS
 rows:=λr v p b g=>(fy a).own (h.rows r v p b g) (λq k i=>by have:=h.own b k;omega)
 ne:=h.ne
 set:=k
 rd:=h.rd.ay (fy a) (λn i=>by have:=h.ord;omega)
 ay:=h.ay.trans (fy a)<|λn i=>.inr (by have:=h.ord;have:n=g:=i;omega)
 ord:=⟨h.ord.1,h.ord.2.1,h.ord.2.2.1,ag h.ord.2.2.2 a.size⟩
def sD.ks{f wr:I}{d:cD cR}{e a:aa->Prop}(h:sD f wr c g l m D Q x d e o)(i:∀k,a k↔e k):sD f wr c g l m D Q x d a o:={h with set:=h.set.congr i}
def sD.put{W wr u:I}{N:cD cR}{V:aa->Prop}{D':cR}(v:sD W wr c g l m D Q x N V o)(w:x[y]?=M d)(K:eY wr u d t)(P:u.ownsRow (l+1) 266 4 t (z D') (du D')):sD W (ct u (U c<|3+y) t) c g l m D Q (x.set y t) (N.set y D') V o:=by
 have B:J (λF=>bY d=M F) wr u:=J.fH K;have s:=λq=>v.own (q:=q) w;have a:=v.ord;have C:u.heap[c]?=M (aw (aL m::aL D::aL Q::x).toArray 187 (0,0)):=(B.block c (am v.box) (λn=>by have:=s _ n;omega)).trans v.box;have k:J (λF=>F=c) u (ct u (U c<|3+y) t):=(ij c u);have A:∀q,bY t=M q->l<q/\q<G (H u):=λq e=>by have:=aI P q e;omega
 refine⟨?_,by rw[eT];exact v.zp,by rw[eT];exact v.AS,?_,?_,?_,?_,?_,?_⟩;rw[aT C,vI 3 y];simp;intro S ac r j h;by_cases n:y=S;subst n;rw[gM]at j h;rw[w]at j;obtain⟨L,i,_⟩:=v.row w;rw[i]at h;cases j;cases h;exact k.own P (λq e n=>by have:=A q e;omega);rw[fO n]at j h;have i:=B.own (v.rows S ac r j h)<|λq e E=>v.ne S y ac d q (Ne.symm n) j w e E;exact k.own i (λq e n=>by have:=v.own j e;omega);intro S i' ac u' q r j i e;by_cases n:y=S;subst n;rw[fO r]at i;rw[gM,w]at j;cases j;intro h;change bY t=M q at e;rcases K.uq with E|⟨L,E,X⟩;exact v.ne _ _ _ _ q r w i (E.symm.trans e) h;rw[E]at e;cases e;have:=v.own i h;omega;rw[fO n]at j;by_cases O:y=i';subst O;rw[gM,w]at i;cases i;intro h;change bY t=M q at h;rcases K.uq with E|⟨L,E,X⟩;exact v.ne _ _ _ _ q r j w e<|E.symm.trans h;rw[E]at h;cases h;have:=v.own j e;omega;rw[fO O]at i;exact v.ne _ _ _ _ q r j i e;exact(v.set.dq<|B.block l a.2.2.2 (λn=>by have:=s _ n;omega)).dq (k.block l (ag a.2.2.2 B.size)<|by omega);exact(v.rd.ay B (λF n=>by have:=s _ n;omega)).ay k (λF n=>by have:F=c:=n;omega);exact(v.ay.trans B<|λF n=>.inr (by have:=s _ n;omega)).trans k<|λF n=>.inr (by have:F=c:=n;omega);exact⟨a.1,a.2.1,a.2.2.1,by rw[gE];exact ag a.2.2.2 B.size⟩
structure oa(Ms Ds:cD cR)(i k:R):Prop where
 low:∀j,j<i->Ds[j]?=Ms[j]?
 now:∀m,Ms[i]?=M m->Ds[i]?=M (m.take k)
 vt:∀j,i<j->j<4->Ds[j]?=M []
theorem oa.start(c:cD cR):oa c [[],[],[],[]] 0 0 where
 low:=λj h=>absurd h<|gL j
 now:=λm _=>rfl
 vt:=λj h d=>by
  rcases j with _|_|_|_|j
  .omega
  .rfl
  .rfl
  .rfl
  .omega
theorem oa.xN{c g:cD cR}{i:R}{m:cR}(k:oa c g i (z m))(h:c[i]?=M m)(e:z c=4):oa c g (i+1) 0 where
 low:=λj l=>by
  rcases dK j i with f|f
  .exact k.low j f
  .obtain rfl:j=i:=by omega
   rw[h,k.now m h,bP]
 now:=λh d=>by
  have:i+1<4:=by
   rw[<-e];rcases dK (i+1) (z c)with f|f
   .exact f
   .rw[dy f]at d;cases d
  rw[xg];exact k.vt _ (Nat.lt_succ_self i) this
 vt:=λj l e=>k.vt j (by omega) e
theorem oa.one{d f:cD cR}{i k:R}{m:cR}(h:oa d f i k)(g:d[i]?=M m):oa d (f.set i<|m.take<|k+1) i (k+1)where
 low:=λj e=>by rw[fO<|by omega];exact h.low j e
 now:=λl c=>by
  rw[g]at c;cases c;rw[gM,h.now m g];rfl
 vt:=λj e c=>by rw[fO<|by omega];exact h.vt j e c
theorem oa.all{d c:cD cR}(h:oa d c 4 0)(g:z d=4)(f:z c=4):c=d:=by
 refine qf<|λj=>?_;rcases dK j 4 with e|e;exact h.low j e;rw[dy (by omega),dy<|by omega]
def xF(c:cD cR)(i k:R):cR:=(c.take i).flatten++((c[i]?).getD []).take k
theorem Ro(c:cD cR):xF c 0 0=[]:=by simp[xF]
theorem Ud{c:cD cR}{i k:R}{m:cR}(e:c[i]?=M m)(d:k<z m):xF c i (k+1)=xF c i k++[m[k]]:=by
 unfold xF;rw[e];simp only[ia];rw[ak d,aW]
theorem Oe{c:cD cR}{i:R}{m:cR}(d:c[i]?=M m):xF c (i+1) 0=xF c i (z m):=by
 unfold xF;rw[d];have e:i<z c:=by rcases dK i (z c)with f|f;exact f;rw[dy f]at d;cases d
 have g:c[i]=m:=by rw[aK e]at d;exact dF d
 simp only[ia,bP,xg,dO];rw[ak e,dQ,g];simp
theorem Eo{c:cD cR}{i k:R}{m:cR}(d:c[i]?=M m)(l:k<z m):c.flatten=xF c i k++m[k]::(m.drop (k+1)++(c.drop<|i+1).flatten):=by
 have e:i<z c:=by rcases dK i (z c)with f|f;exact f;rw[dy f]at d;cases d
 have n:c[i]=m:=by rw[aK e]at d;exact dF d
 have g:c.flatten=(c.take i).flatten++(m++(c.drop<|i+1).flatten):=by(conv=>lhs;rw[<-ci i c,bH e]);rw[dQ,aX,n]
 have h:m.take k++m[k]::m.drop (k+1)=m:=by rw[<-bH l,ci]
 unfold xF;rw[d,g];simp only[ia];have j:m++(c.drop<|i+1).flatten=m.take k++m[k]::(m.drop (k+1)++(c.drop<|i+1).flatten):=by(conv=>lhs;rw[<-h]);rw[aW];rfl
 rw[j,aW]
theorem Og{c:cD cR}{i k:R}{m:cR}(d:(c.flatten.map bJ.num).Nodup)(f:c[i]?=M m)(e:k<z m):∀u∈xF c i k,u.num≠m[k].num:=by
 intro u g h;rw[Eo f e,aQ,aZ,jx]at d;exact d.2.2 u.num (ie g) m[k].num (by simp) h
theorem RJ{c:cD cR}{i k:R}{m:cR}(e:c[i]?=M m)(d:k<z m):m[k]∈c.flatten:=by
 rw[Eo e d];simp
def qu(c:cD cR)(i:R):eP:=((c.drop i).map oQ).flatten
theorem La{c:cD cR}{i:R}{m:cR}(d:c[i]?=M m):qu c i=le 4 (z m)++(m.flatMap uK++qu c (i+1)):=by
 have e:i<z c:=by rcases dK i (z c)with f|f;exact f;rw[dy f]at d;cases d
 have g:c[i]=m:=by rw[aK e]at d;exact dF d
 unfold qu;rw[bH e,aZ,aX,g];unfold oQ;rw[aW]
theorem Rg{c:cD cR}{i:R}(h:z c<=i):qu c i=[]:=by
 unfold qu;rw[List.drop_eq_nil_iff.2 h];rfl
theorem UY(t:bJ):kG (uK t):=(kG.le 8 _).append<|(kG.le 4 _).append<|(kG.le 4 _).append<|kG.le 4 _
theorem BI(m:cR):kG (m.flatMap uK):=λx d=>by
 obtain⟨t,_,c⟩:=mF.1 d;exact UY t x c
theorem vq(d:cD cR)(i:R):kG (qu d i):=λx c=>by
 unfold qu at c;obtain⟨l,e,c⟩:=bC.1 c;obtain⟨m,_,rfl⟩:=bz.1 e;exact((kG.le 4 _).append<|BI m) x c
theorem AR(m:cR):z (m.flatMap uK)=20*z m:=by
 have:=pR m;unfold oQ at this;rw[af,cq]at this;omega
theorem Al(c:cD cR):∀i,z (qu c i)<=4*z c+20*z c.flatten:=by
 intro i;unfold qu
 have h:∀L:cD cR,z ((L.map oQ).flatten)=4*z L+20*z L.flatten:=by
  intro L;induction L with
  |nil=>rfl
  |cons m L d=>
   rw[aZ,aX,af,d,pR,aX,af,aC];omega
 rw[h];have e:z (c.drop i)<=z c:=by simp
 have f:z (c.drop i).flatten<=z c.flatten:=by(conv=>rhs;rw[<-ci i c,dQ,af]);omega
 omega
section
variable{P:Program}(w:I){b:Array Oper}{rest:cD Oper}{o:Oper}{a:Act}{Q:Exit->Act->I->Prop}
theorem FN(p:o.guard=none)(j x k:Operand)(C:TypeId)(h:o.op=Op.insert C j x k)(B E:TypeId)(s:P.underlying C=M (.map B E))(m:TypeDesc)(q:P.underlying B=M m)(l:R)(i:aa->Prop)(r:a.eval j=.map (M l))(F:lJ w l m i)(c:aa)(g:MapKept.IsKey m c)(u:a.eval x=c)(t:a.eval k=eB #[])(n:∀d,lJ d l m (λx=>i x\/x=c)->w.grownBy d (M l)->G (H d)=G (H w)->wpList P b Q rest (a.put o.dst iE) d):wpList P b Q (o::rest) a w:=by
 refine kX p λD f=>?_;obtain⟨d,e,v,y,A⟩:=zx s q F c g;unfold Oper.wp;simp[execOp,h,r,u,t,e,Result.andThen];exact f _ _<|n d v y A
end
def RQ(h:cU a b j)(O:z j.files<=100000000)(E:Pow a)(l:∀S∈j.files.map dp.name,S=⟨#[108,111,103,45,49]⟩)(D:ew (vw j.files) gY=none):cA bG 93 #[aA b] a λK Q=>K=aP (dE #[Za,.nilIface])/\J az a Q:=by
 obtain⟨e,f⟩:∃e,cF a (aw #[aL 0,aL 0,aL 0,aG,aG,aG,aG] 187)=e:=⟨_,rfl⟩;obtain⟨m,d⟩:∃m,cF e (aw #[aj gY,aq 10] 222)=m:=⟨_,rfl⟩;have p:J az a e:=by rw[<-f];exact(cI az a)
 have k:J az a m:=by rw[<-d];exact p.alloc _
 have n:e.heap[G<|H a]?=M (aw #[aL 0,aL 0,aL 0,aG,aG,aG,aG] 187 (0,0)):=by rw[<-f];exact aE _ rfl
 have t:m.heap[G<|H a]?=M (aw #[aL 0,aL 0,aL 0,aG,aG,aG,aG] 187 (0,0)):=by rw[<-d];exact(ga _<|am n).trans n
 have u:aS m (U (G<|H e) 1)=M (aq 10):=by(have:m.heap[G<|H e]?=M (aw #[aj gY,aq 10] 222 (0,0)):=by rw[<-d];exact aE _ rfl);rw[bL this];rfl
 have i:=GQ (db:=b) (K:=j) gY (w:=e) (h.ay p<|λ_ _=>id) D;rw[d]at i;unfold gY at i;have v:=PV (G<|H e) 10 m u;have o:=NE (db:=b) (K:=j) (h.ay k<|λ_ _=>id) O (E.ay k id) l;unfold Za at o|-;obtain⟨A,s,B⟩:=dI k t f;clear h E l D p k n t f d u;go_in
 go_wp2_with fail
 rw[ae B];apply i.mono;rintro K C⟨rfl,P⟩;subst C;go_wp2_with fail
 apply v.mono;rintro K C⟨rfl,P⟩;subst C;go_wp2_with fail
 apply o.mono;rintro K F⟨rfl,q⟩;have g:=(q.block _ (am s) id).trans s;have T:∀r,F.frozen? (U (G<|H a) r)=bF:=λr=>by simp[World.frozen?,g]
 have c:∀r,r<7->∃x,aS F (U (G<|H a) r)=M x:=λr N=>by rw[bL g];exact⟨_,ow<|by simpa using N⟩
 obtain⟨u0,V⟩:=c 0 (by omega);obtain⟨u1,W⟩:=c 1 (by omega);obtain⟨u2,X⟩:=c 2 (by omega);obtain⟨u3,z3⟩:=c 3 (by omega);obtain⟨u4,z4⟩:=c 4 (by omega);obtain⟨u5,z5⟩:=c 5 (by omega);obtain⟨u6,z6⟩:=c 6 (by omega);have L:=Z<|A.cw q;have y:=Z g;clear q g c i v o;go_wp2;have w:=aT (i:=6) (u:=aG)<|aT (i:=5) (u:=aG)<|aT (i:=4) (u:=aG)<|aT (i:=3) (u:=aG)<|aT (i:=2) (u:=aL 0)<|aT (i:=1) (u:=aL 1)<|aT (i:=0) (u:=aL 2) y;refine cO (vW rfl _ _ (G<|H a) 2 1 0 _ _ _ _ _ _ rfl w ⟨_,_,_,rfl⟩ ⟨_,_,_,rfl⟩ ⟨_,_,_,rfl⟩ ⟨_,_,_,rfl⟩) rfl ?_;refine⟨rfl,?_⟩;exact((((((L.setCell _ 0 _<|.inr<|ai _).setCell _ 1 _<|.inr<|ai _).setCell _ 2 _<|.inr<|ai _).setCell _ 3 _<|.inr<|ai _).setCell _ 4 _<|.inr<|ai _).setCell _ 5 _<|.inr<|ai _).setCell _ 6 _<|.inr<|ai _
def Ci{P:Program}{d:Array Oper}{Q:Exit->Act->I->Prop}{g:Region.Mode}{S:I->Prop}{i o:R}{p:Oper}{c:Array Bool}{l:Act}(m:d[i]?=M p)(n:Region.wanted p (yielded d l.tmps)=bX)(k:Region.ready g d c=[i])(q:∀K:Act->I->Prop,(∀f e,(i<o->S e)->nz P g d Q S o b (c.setIfInBounds i bX) f e->K f e)->Oper.wp P p l a K Q):nz P g d Q S o (b+1) c l a:=by
 refine⟨λh=>(by rw[k]at h;cases h),λr j=>?_⟩;rw[k]at j;obtain rfl:r=i:=by simpa using j
 unfold wpOp;simp only[m];rw[dt n];exact .inl<|q _<|λf e h j=>⟨h,j⟩
def JW(F:I)(c n:R)(p0 p1 p2 p3 q0 q1 q2 q3:aa)(a0 a1 a2 a3 b0 b1 b2 b3:cR)(e:∀W,J az F W->(aS W (U c 10)=M p0/\aS W (U c 11)=M p1/\aS W (U c 12)=M p2/\aS W (U c 13)=M p3)/\(aS W (U n 0)=M q0/\aS W (U n 1)=M q1/\aS W (U n 2)=M q2/\aS W (U n 3)=M q3)/\(iX W p0 a0/\iX W p1 a1/\iX W p2 a2/\iX W p3 a3)/\(iX W q0 b0/\iX W q1 b1/\iX W q2 b2/\iX W q3 b3))(hc:lK a0<=1000000000/\lK a1<=1000000000/\lK a2<=1000000000/\lK a3<=1000000000/\lK b0<=1000000000/\lK b1<=1000000000/\lK b2<=1000000000/\lK b3<=1000000000):cA bG 88 #[fA<|M<|U c 10,aA n] F λad w'=>∃ao,ad=aP (aO ao)/\J az F w':=by
 have one:∀(i k:R)(p q:aa)(g b:cR),(∀W,J az F W->(aS W (U c i)=M p/\aS W (U n k)=M q)/\iX W p g/\iX W q b)->lK g<=1000000000->lK b<=1000000000->∃(S:I->Prop)(T f:Option Addr)(P Q:R)(A B:cR),(∀W,J az F W->S W/\iX W (ah T (z A) P) A/\iX W (ah f (z B) Q) B)/\(∀a,S a->aS a (U c i)=M (ah T (z A) P)/\aS a (U n k)=M (ah f (z B) Q))/\lK A<=1000000000/\lK B<=1000000000:=by intro i k p q g b h an al;obtain⟨_,s,t⟩:=h F<|J.refl _ F;obtain⟨T,P,rfl⟩:=bS s.row;obtain⟨f,Q,rfl⟩:=bS t.row;exact⟨_,T,f,P,Q,g,b,h,λa h=>h,an,al⟩
 have u:∀k,k<4->∃(S:I->Prop)(T f:Option Addr)(P Q:R)(A B:cR),(∀W,J az F W->S W/\iX W (ah T (z A) P) A/\iX W (ah f (z B) Q) B)/\(∀a,S a->aS a (U c<|10+k)=M (ah T (z A) P)/\aS a (U n k)=M (ah f (z B) Q))/\lK A<=1000000000/\lK B<=1000000000:=by obtain⟨g,i,j,l,m0,m1,m2,m3⟩:=hc;intro k hj;rcases(show k=0\/k=1\/k=2\/k=3 by omega)with rfl|rfl|rfl|rfl;exact one 10 0 _ _ _ _ (λW d=>⟨⟨(e W d).1.1,(e W d).2.1.1⟩,(e W d).2.2.1.1,(e W d).2.2.2.1⟩) g m0;exact one 11 1 _ _ _ _ (λW d=>⟨⟨(e W d).1.2.1,(e W d).2.1.2.1⟩,(e W d).2.2.1.2.1,(e W d).2.2.2.2.1⟩) i m1;exact one 12 2 _ _ _ _ (λW d=>⟨⟨(e W d).1.2.2.1,(e W d).2.1.2.2.1⟩,(e W d).2.2.1.2.2.1,(e W d).2.2.2.2.2.1⟩) j m2;exact one 13 3 _ _ _ _ (λW d=>⟨⟨(e W d).1.2.2.2,(e W d).2.1.2.2.2⟩,(e W d).2.2.1.2.2.2,(e W d).2.2.2.2.2.2⟩) l m3
 have HP:=Z u;clear e hc one u;go_in
 go_wp2;go_loopw [6] (λac wr=>∃k:R,k<=4/\ac=aq k/\J az F wr) (λac _=>4-(intOf ac).toNat)
 case atStart=>exact⟨0,by omega,by go_num,J.refl _ _⟩
 (case round=>obtain⟨k,hj,rfl,L⟩:=hrel;by_cases h4:k<4;(.obtain⟨S,T,f,P,Q,A,B,d,hX,an,al⟩:=HP k h4;have s:=L.cw<|cg az wr;obtain⟨j,hL,_⟩:=d wr.drew s;have o:=zN hL an;have HQ:=Z<|λW(a:J az F W)=>And.intro (d W a).1 (zN (d W a).2.2 al);have K:=Z s;clear L s d hL;rcases(show k=0\/k=1\/k=2\/k=3 by omega)with rfl|rfl|rfl|rfl;(all_goals simp only[Nat.reduceAdd]at hX;have t:=Z hX;clear hX;by_cases m:z A=z B;(.have el:((z A:Y)!=(z B:Y))=bF:=bne_eq_false_iff_eq.2 (by omega);clear m;obtain⟨eb,ec⟩:∃eb,((lK A:Y)!=(lK B:Y))=eb:=⟨_,rfl⟩;(go_wp2_with fail);rename_i QQ X i;refine lX S 28 (by kernel_rfl) ?_;refine nk 0 ?_;(iterate 19 (refine sW (v:=?_) j rfl (by kernel_rfl) (λ_ _ _ h=>h) (Or.inl ⟨by rfl,?_⟩) ?_;rotate_left;(focus(intro a l;obtain⟨N,O⟩:=t a l;go_simp;try with_reducible rfl));simp only[Act.put,Nat.reduceAdd,cH,dM,dH,cy,bU,cf]));apply sa;refine nk 20 ?_;(iterate 5 (refine sW (v:=?_) j rfl (by kernel_rfl) (λ_ _ _ h=>h) (Or.inl ⟨by rfl,?_⟩) ?_;rotate_left;(focus(intro a l;obtain⟨N,O⟩:=t a l;go_simp;try with_reducible rfl));simp only[Act.put,Nat.reduceAdd,cH,dM,dH,cy,bU,cf]));apply sa;refine Ci (i:=19) rfl (by rfl) (by kernel_rfl) ?_;intro K1 w;go_simp;apply o.mono;rintro ad W1⟨rfl,C⟩;have p:=K.cw<|J.aV (S:=az) C;obtain⟨y,E⟩:=HQ W1 p;have V:=Z p;refine w _ _ (λ_=>y) ?_;(try simp only[Act.put,cH,dM,dH,cy,bU,cf]);clear w C p o j y;refine Ci (i:=25) rfl (by rfl) (by kernel_rfl) ?_;intro K2 x;go_simp;apply E.mono;rintro ad W2⟨rfl,D⟩;have r:=V.cw<|J.aV (S:=az) D;have j:=(HQ W2 r).1;have g:=Z r;refine x _ _ (λ_=>j) ?_;(try simp only[Act.put,cH,dM,dH,cy,bU,cf]);clear x D r E;refine nk 26 ?_;(iterate 2 (refine sW (v:=?_) j rfl (by kernel_rfl) (λ_ _ _ h=>h) (Or.inl ⟨by rfl,?_⟩) ?_;rotate_left;(focus(intro a l;obtain⟨N,O⟩:=t a l;go_simp;try with_reducible rfl));simp only[Act.put,Nat.reduceAdd,cH,dM,dH,cy,bU,cf]));apply sa;refine lS (by kernel_rfl) ?_ _;show X _ _;apply i;clear i j;cases eb;(.go_wp2;go_roundw;(case rel=>first|exact⟨1,by omega,by go_num,g⟩|exact⟨2,by omega,by go_num,g⟩|exact⟨3,by omega,by go_num,g⟩|exact⟨4,by omega,by go_num,g⟩);case measure=>simp[intOf]);go_wp2;go_ret;exact⟨bF,rfl,g⟩);(.have el:((z A:Y)!=(z B:Y))=bX:=zl.2 (by omega);clear m;(go_wp2_with fail);rename_i QQ X i;refine lX S 28 (by kernel_rfl) ?_;refine nk 0 ?_;(iterate 14 (refine sW (v:=?_) j rfl (by kernel_rfl) (λ_ _ _ h=>h) (Or.inl ⟨by rfl,?_⟩) ?_;rotate_left;(focus(intro a l;obtain⟨N,O⟩:=t a l;go_simp;try with_reducible rfl));simp only[Act.put,Nat.reduceAdd,cH,dM,dH,cy,bU,cf]));apply sa;refine nk 14 ?_;(iterate 13 (refine sW (v:=iE) j rfl (by kernel_rfl) (λ_ _ _ h=>h) (Or.inr ⟨by rfl,rfl⟩) ?_;simp only[Act.put,Nat.reduceAdd,cH,dM,dH,cy,bU,cf]));apply sa;refine nk 27 ?_;(iterate 1 (refine sW (v:=?_) j rfl (by kernel_rfl) (λ_ _ _ h=>h) (Or.inl ⟨by rfl,?_⟩) ?_;rotate_left;(focus(intro a l;obtain⟨N,O⟩:=t a l;go_simp;try with_reducible rfl));simp only[Act.put,Nat.reduceAdd,cH,dM,dH,cy,bU,cf]));apply sa;refine lS (by kernel_rfl) ?_ _;show X _ _;apply i;clear i j o;go_wp2;go_ret;exact⟨bF,rfl,K⟩)));(obtain rfl:k=4:=by omega);have K:=Z L;clear L;go_wp2;go_ret;exact⟨bX,rfl,K⟩)
