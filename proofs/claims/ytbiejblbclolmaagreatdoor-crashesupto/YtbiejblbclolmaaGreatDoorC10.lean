import Derived.Test.YtbiejblbclolmaaGreatDoorC9
open _root_ renaming List.length→y,Option.some→H,Array.size→z,Go.World.heap→G,Go.Value.ownBlock→cI,Go.World.cell?→aW,Go.World.setCell→cH,Go.World.alloc→dd,Bool.false→bw,Bool.true→cf,Nat→M,Int→U,List→ci,Go.Calls→cY,Go.Proofs.Tryz.prog→bA,Go.Value.slice→I,Go.Value.string→am,Go.Value.bool→aM,Go.Value.pointer→dC,Go.Value.tuple→dA,Go.Value.agg→dL
namespace Go.Proofs.YtbiejblbclolmaaGreatDoor
open ChangeShapes WideShapes RowKit Proofs.Tryz List
set_option maxHeartbeats 16000000
set_option linter.all false
set_option maxRecDepth 100000
variable{a f A:Y}{b c i l F V:M}{d t L:ab}{e K:cU}{g x:DK}{j p u v:cP}{k N:U}{m:dX}{n:eF}{o:fh}{W:SR}{r:ae}{w:E}{D:Fs}{O:aX}{P:ci aX}{Q:bB}{S:Bool}
structure Yw(w0 w:Y)(x:M)(ob:Obj)(o:ab)(bs:eF):Prop where
 own:fg w (z<|G w0) o bs
 box:w.heap[x]?=H ob
 ne:cI o≠H x
 aj:Z aw w0 w
def Yw.wrote{j:Obj}{c:eF}(h:Yw a f b j d n)(i:eJ f A d t)(l:fg A (z<|G a) t c):Yw a A b j t c:=by
 have e:=ak h.box;have g:=Z.fN i;refine⟨l,(g.block b e h.ne).trans h.box,λk=>?_,h.aj.trans g<|λq k=>.inr (h.own.lt q k).1⟩;rcases i.vQ with o|⟨m,o,p⟩;exact h.ne<|o.symm.trans k;grind
def vK(t:bB):eF:=le 8 t.num++(le 4 (y<|dU t.cs)++(le 4 (y<|fP t.ks)++le 4 (lJ<|fP t.ks)))
def sM(a:cP):eF:=le 4 (y a)++a.flatMap vK
def fS(next b a:U)(c:ci cP):eF:=gS<|le 8 next++le 8 b++le 8 a++(c.map sM).flatten
def Oe(t:bB):y (vK t)=20:=by simp[vK,cg]
theorem sw(a:cP):y (sM a)=4+20*y a:=by
 unfold sM;rw[af,cg];induction a with
 |nil=>rfl
 |cons t r b=>rw[dY,af,Oe,aO];omega
structure bB.oZ(t:bB):Prop where
 num:t.num<18446744073709551616
 d:y (dU t.cs)<4294967296
 i:y (fP t.ks)<4294967296
def Jb(a:cP)(n j:M)(h:n<y a)(d:j<4):(dH a)[n*4+j]?=(bB.xy a[n])[j]?:=by
 have e:∀(l:cP),y (dH l)=y l*4:=by
  intro l;induction l with
  |nil=>rfl
  |cons t r b=>unfold dH at*;rw[dY,af,b];simp[bB.xy];omega
 have f:dH a=dH (a.take n)++(bB.xy a[n]++dH (a.drop<|n+1)):=by(have b:a=a.take n++a[n]::a.drop (n+1):=by rw[<-bJ h,bO]);have c:dH a=dH (a.take n++a[n]::a.drop (n+1)):=bS dH b;rw[c];unfold dH;rw[fJ,dY]
 grind
def QJ(next f c:U)(N O P Q:Option Addr)(A c1 c2 c3:M)(m0 m1 m2 m3:cP)(hT:Steps a)(r0:Row a 4 (I N (y m0) A) (y m0) (dH m0))(r1:Row a 4 (I O (y m1) c1) (y m1) (dH m1))(r2:Row a 4 (I P (y m2) c2) (y m2) (dH m2))(r3:Row a 4 (I Q (y m3) c3) (y m3) (dH m3))(b0:∀k,cI (I N (y m0) A)=H k->k<z (G a))(b1:∀k,cI (I O (y m1) c1)=H k->k<z (G a))(b2:∀k,cI (I P (y m2) c2)=H k->k<z (G a))(b3:∀k,cI (I Q (y m3) c3)=H k->k<z (G a))(k0:∀ao∈m0,ao.oZ)(k1:∀ao∈m1,ao.oZ)(k2:∀ao∈m2,ao.oZ)(k3:∀ao∈m3,ao.oZ)(hn:0<=next/\next<18446744073709551616)(hl:0<=f/\f<18446744073709551616)(hb:0<=c/\c<18446744073709551616)(hs:y m0+y m1+y m2+y m3<=1000000):cY bA 223 #[dL #[aG next,aG f,aG c,I N (y m0) A,I O (y m1) c1,I P (y m2) c2,I Q (y m3) c3]] a λu w'=>∃v',u=aN v'/\fg w' (z<|G a) v' (fS next f c [m0,m1,m2,m3])/\Z aw a w':=by
 obtain⟨W,aa⟩:∃W:Obj,W=ay #[aG next,aG f,aG c,I N (y m0) A,I O (y m1) c1,I P (y m2) c2,I Q (y m3) c3] 110:=⟨_,rfl⟩;have C:∀(cm:Y)(an:M)(cl:ab),cm.heap[z<|G a]?=H W->(#[aG next,aG f,aG c,I N (y m0) A,I O (y m1) c1,I P (y m2) c2,I Q (y m3) c3]:Array ab)[an]?=H cl->aW cm (R (z<|G a) an)=H cl:=by grind[ct]
 have hA0:Yw a (dd a W) (z<|G a) W az []:=⟨fg.nil _ _,aK _ rfl,(by intro u;cases u),(cO _ a)⟩;have p1:=pS next hA0.own hA0.aj.size (by simp) hn.1 hn.2
 obtain⟨ap,i,HT,bk,bl,bm,bn,ax⟩:=Gw hA0 C hT r0 r1 r2 r3 b0;obtain⟨aF,aU,aV,bd,bf,bg,bh,bi⟩:=Gw b1 b2 b3 k0 k1 k2 k3 aa;rw[aa]at p1;go_in
 go_wp2_with fail
 apply p1.mono;rintro u w1⟨v1,rfl,bv,al⟩;rw[<-J bi]at al;have hA1:=ap.wrote al bv;have d1:=i w1 1 _ hA1.box rfl;have p2:=pS f hA1.own hA1.aj.size (by simp[cg]) hl.1 hl.2;have au:=X hA1;go_wp2_with fail
 apply p2.mono;rintro u w2⟨v2,rfl,bx,cc⟩;have hA2:=au.wrote cc bx;have d2:=i w2 2 _ hA2.box rfl;have p3:=pS c hA2.own hA2.aj.size (by simp[cg]) hb.1 hb.2;have av:=X hA2;go_wp2_with fail
 apply p3.mono;rintro u w3⟨v3,rfl,bE,cd⟩;have hA3:=av.wrote cd bE;have d3:=i w3 3 _ hA3.box rfl;have d4:=i w3 4 _ hA3.box rfl;have d5:=i w3 5 _ hA3.box rfl;have d6:=i w3 6 _ hA3.box rfl;have T:=X hA3.own;have bq:=X hA3.aj;obtain⟨d,j⟩:∃d,(([]++le 8 next)++le 8 f)++le 8 c=d:=⟨_,rfl⟩;have cr:y d=24:=by rw[<-j];simp[cg]
 have V:=X j;rw[j]at T;go_wp2;go_loopw [3,21] (λcw an wr=>∃k:M,k<=4/\an=aq k/\fg wr (z<|G a) cw (d++(([m0,m1,m2,m3].take k).map sM).flatten)/\Z aw a wr) (λ_ an _=>4-(intOf an).toNat)
 case atStart=>exact⟨0,bK _,rfl,by simpa using J T,bq⟩
 (case round=>obtain⟨k,hk,rfl,l,t⟩:=hrel;have ad:=t.size;have ac:=l.lt;(have B:∀k,y (d++(([m0,m1,m2,m3].take k).map sM).flatten)<=30000000:=by intro k;(have h1:y ((([m0,m1,m2,m3].take k).map sM).flatten)<=y ((([m0,m1,m2,m3]).map sM).flatten):=by grind[Sublist.length_le,flatten_append,take_append_drop,sublist_append_left]);grind[sw,length_append]);rcases iy k 4 with bt|bt;(·(obtain⟨b,m,cM,HR,HB,HK,cq,F,cs⟩:∃(b:cP)(m:Option Addr)(cM:M),Hid (Row a 4 (I m (y b) cM) (y b)<|dH b)/\Hid (∀k,cI (I m (y b) cM)=H k->k<z (G a))/\Hid (∀ao∈b,ao.oZ)/\y b<=1000000/\d++(([m0,m1,m2,m3].take<|k+1).map sM).flatten=(d++(([m0,m1,m2,m3].take k).map sM).flatten)++sM b/\∀cm,(Instr.index 108 (dL #[I N (y m0) A,I O (y m1) c1,I P (y m2) c2,I Q (y m3) c3])<|aq k).run bA cm=.ok (I m (y b) cM) cm:=by(have e:k=0\/k=1\/k=2\/k=3:=by omega);rcases e with rfl|rfl|rfl|rfl;exact⟨m0,N,A,bk,ax,bd,by omega,by simp,λ_=>by kernel_rfl⟩;exact⟨m1,O,c1,bl,aF,bf,by omega,by simp,λ_=>by kernel_rfl⟩;exact⟨m2,P,c2,bm,aU,bg,by omega,by simp,λ_=>by kernel_rfl⟩;exact⟨m3,Q,c3,bn,aV,bh,by omega,by simp,λ_=>by kernel_rfl⟩);(have cu:(k:U)<4:=by omega);have cn:=B k;have bu:=B<|k+1;have bp:=X F;generalize d++(([m0,m1,m2,m3].take k).map sM).flatten=bs at*;have a1:=uf (n:=(y b:M)) (by omega) (by omega);have pw:=jN (y b:M) l ad (by omega) (by omega) (by omega);have x:=X t;(go_wp2_with fail);apply pw.mono;rintro u w4⟨v4,rfl,D,K⟩;have v:=X D;have w:=X<|x.trans (Z.fN K)<|λj i=>.inr (ac j i).1;go_wp2;(go_loopw [3,31] (λcw an wr=>∃q:M,q<=y b/\an=aq q/\fg wr (z<|G a) cw ((bs++le 4 (y b:M))++(b.take q).flatMap vK)/\Z aw a wr) (λ_ an _=>y b-(intOf an).toNat));(case atStart=>exact⟨0,bK _,rfl,by simpa using J v,w⟩);(case round=>obtain⟨q,hq,rfl,e,g⟩:=hrel;have co:=g.size;by_cases s:q<y b;(.obtain⟨_,⟨hx,h0⟩|⟨cp,L,cx,hx,_,hc⟩⟩:=J HR;omega;(.cases hx;have br:cp<z (G a):=HB cp rfl;have hg:∀j cl,j<4->(bB.xy b[q])[j]?=H cl->aW wr (R cp<|L+q*4+j)=H cl:=λj cl i a=>g.cell (by rw[bD];exact hc _ _<|(Jb b q j s i).trans a) id br;have E:=HK _<|ar s;(have cv:y ((bs++le 4 (y b:M))++(b.take q).flatMap vK)<=100000000:=by have h1:=sw<|b.take q;unfold sM at h1;rw[af,cg]at h1;(have h2:y (b.take q)<=1000000:=by simp;omega);simp only[af,cg];omega);have bo:=X (show((bs++le 4 (y b:M))++(b.take q).flatMap vK)++(le 8 (b[q].num:M)++(le 4 (y<|dU b[q].cs)++(le 4 (y<|fP b[q].ks)++le 4 (lJ<|fP b[q].ks))))=(bs++le 4 (y b:M))++(b.take<|q+1).flatMap vK from by rw[ah s,fJ,<-bj];simp[vK]);have g0:=hg 0 _ (by omega) rfl;have g1:=hg 1 _ (by omega) rfl;have g2:=hg 2 _ (by omega) rfl;have g3:=hg 3 _ (by omega) rfl;have o1:=E.num;have o2:=E.d;have o3:=E.i;have o4:=za<|fP b[q].ks;have o5:=AG<|fP b[q].ks;simp only[kL]at g0 g1 g2 g3;generalize b[q].num=y0 at*;generalize y (dU b[q].cs)=y1 at*;generalize y (fP b[q].ks)=y2 at*;generalize lJ (fP b[q].ks)=y3 at*;generalize((bs++le 4 (y b:M))++(b.take q).flatMap vK)=B0 at*;have hE:Yw a (dd wr<|ay #[aG y0,dI y1,dI y2,dI y3] 178) (z<|G wr) (ay #[aG y0,dI y1,dI y2,dI y3] 178) u3 B0:=⟨e.alloc _,aK _ rfl,λu=>by have:=(e.lt _ u).2;omega,g.alloc _⟩;have z1:=pS (y0:M) hE.own hE.aj.size (by omega) (by omega) (by omega);have HE:=X hE;(go_wp2_with fail);apply z1.mono;rintro u w5⟨v5,rfl,bL,ce⟩;have o:=HE.wrote ce bL;have f1:=cellAt o.box 1 rfl;have z2:=jN (y1:M) o.own o.aj.size (by rw[af,cg];omega) (by omega) (by omega);have ba:=X o;(go_wp2_with fail);apply z2.mono;rintro u w6⟨v6,rfl,bT,ch⟩;have p:=ba.wrote ch bT;have f2:=cellAt p.box 2 rfl;have z3:=jN (y2:M) p.own p.aj.size (by simp only[af,cg];omega) (by omega) (by omega);have bb:=X p;(go_wp2_with fail);apply z3.mono;rintro u w7⟨v7,rfl,ca,cj⟩;have r:=bb.wrote cj ca;have f3:=cellAt r.box 3 rfl;have z4:=jN y3 r.own r.aj.size (by simp only[af,cg];omega) o4 o5;have bc:=X r;(go_wp2_with fail);apply z4.mono;rintro u w8⟨v8,rfl,cb,ck⟩;have S:=X<|bc.wrote ck cb;go_wp2;go_roundw;(case rel=>refine⟨q+1,s,by go_num,?_,S.aj⟩;rw[<-J bo];have h:=S.own;simpa using h);case measure=>simp[intOf];omega));(·(have p:q=y b:=by omega);subst p;rw[aY]at e;have r:=X e;have o:=X g;go_wp2;go_roundw;(case rel=>refine⟨k+1,by omega,by go_num,?_,o⟩;rw[J bp];have h:=J r;unfold sM;simpa using h);case measure=>simp[intOf];omega)));(·(obtain rfl:k=4:=by omega);have b:((4:M):U)=4:=rfl;have e:=Fz (HT.below (t.below (ag _) cJ) HT.lt) l ad (by have:=B 4;omega);have x:=X t;(go_wp2_with fail);apply e.mono;rintro u w4⟨v4,rfl,D,K⟩;have v:=X D;have w:=X<|x.trans (Z.fN K)<|λj i=>.inr (ac j i).1;go_wp2;go_ret;refine⟨_,rfl,?_,w⟩;have h:=J v;unfold fS gS;(have u:d++(([m0,m1,m2,m3].take 4).map sM).flatten=le 8 next++le 8 f++le 8 c++([m0,m1,m2,m3].map sM).flatten:=by rw[<-J V];simp);rw[u]at h;exact h))
theorem UE(c:eF)(h:cX D r=none):xY (D++[(r,c)]) r=D:=by
 induction D with
 |nil=>simp[xY]
 |cons g f b=>
  obtain⟨a,d⟩:=g;by_cases e:a=r
  .simp[cX,e]at h
  .simp[cX,e]at h;simp[xY,e,b h]
def Ul(next c b:U)(d:ci cP):kr (fS next c b d):=by
 unfold fS gS;refine(kr.append ?_ ?_).append<|kr.le 4 _;exact((kr.le 8 _).append<|kr.le 8 _).append<|kr.le 8 _;intro x a;obtain⟨l,e,a⟩:=bC.1 a;obtain⟨f,_,rfl⟩:=bH.1 e;unfold sM at a;rcases aA.1 a with a|a;exact kr.le 4 _ x a;obtain⟨t,_,a⟩:=kW.1 a;unfold vK at a;simp only[aA]at a;rcases a with a|a|a|a;exact kr.le 8 _ x a;exact kr.le 4 _ x a;exact kr.le 4 _ x a;exact kr.le 4 _ x a
def Bg(a:eF):ci nU:=[.cr ik,.ap ik a,.sy ik]++[.rn ik dE]++[.sd]
def pU{l m:ci nU}(i:jT (l++m) g x):∃a,jT l g a/\jT m a x:=by
 induction l generalizing g with
 |nil=>exact⟨g,⟨rfl,rfl,rfl⟩,i⟩
 |cons o l h=>
  obtain⟨a,c,d⟩:=i;obtain⟨b,e,f⟩:=h d;exact⟨b,⟨a,c,e⟩,f⟩
def VP(f:M)(K:DK)(next c b:U)(x0 x1 x2 x3:Option Addr)(F c1 c2 c3:M)(m0 m1 m2 m3:cP)(hT:Steps a)(r0:Row a 4 (I x0 (y m0) F) (y m0) (dH m0))(r1:Row a 4 (I x1 (y m1) c1) (y m1) (dH m1))(r2:Row a 4 (I x2 (y m2) c2) (y m2) (dH m2))(r3:Row a 4 (I x3 (y m3) c3) (y m3) (dH m3))(b0:∀C,cI (I x0 (y m0) F)=H C->C<z (G a))(b1:∀C,cI (I x1 (y m1) c1)=H C->C<z (G a))(b2:∀C,cI (I x2 (y m2) c2)=H C->C<z (G a))(b3:∀C,cI (I x3 (y m3) c3)=H C->C<z (G a))(k0:∀bg∈m0,bg.oZ)(k1:∀bg∈m1,bg.oZ)(k2:∀bg∈m2,bg.oZ)(k3:∀bg∈m3,bg.oZ)(hn:0<=next/\next<18446744073709551616)(hl:0<=c/\c<18446744073709551616)(hb:0<=b/\b<18446744073709551616)(hs:y m0+y m1+y m2+y m3<=1000000)(j:bY a f K)(P:cX (vw K.files) ik=none)(bl:y K.eP<=100000000000)(k:EH K.fx):cY bA 159 #[aD f,dL #[aG next,aG c,aG b,I x0 (y m0) F,I x1 (y m1) c1,I x2 (y m2) c2,I x3 (y m3) c3]] a λL B=>ye a B f K (Bg<|fS next c b [m0,m1,m2,m3]) L:=by
 obtain⟨al,p⟩:∃al,dd a (ay #[aG next,aG c,aG b,I x0 (y m0) F,I x1 (y m1) c1,I x2 (y m2) c2,I x3 (y m3) c3] 110)=al:=⟨_,rfl⟩;have O:Z aw a al:=by rw[<-p];exact(cO _ a)
 have aa:Steps al:=by rw[<-p];exact hT.alloc _
 have d:∀{v n xs},Row a 4 v n xs->(∀C,cI v=H C->C<z (G a))->Row al 4 v n xs:=λb c=>O.row b (by grind);have hz:=O.size;have aV:=QJ next c b x0 x1 x2 x3 F c1 c2 c3 m0 m1 m2 m3 aa (d r0 b0) (d r1 b1) (d r2 b2) (d r3 b3) (by grind) (by grind) (by grind) (by grind) k0 k1 k2 k3 hn hl hb hs
 have Q:=Ul next c b [m0,m1,m2,m3]
 have W:y (fS next c b [m0,m1,m2,m3])<=20001000/\0<y (fS next c b [m0,m1,m2,m3]):=by unfold fS;rw[gO];simp only[af,cg,bR,iz,bW,kY,dB,sw];omega
 have N:=λl(v1:ab)(ht:Z aw al l)(ho:fg l (z<|G al) v1 (fS next c b [m0,m1,m2,m3]))=>show∃bh aU,v1=bI bh 0 (y<|fS next c b [m0,m1,m2,m3]) aU/\cY bA 221 #[aD f,am ik,v1] l λL B=>ye l B f K [.cr ik,.ap ik<|fS next c b [m0,m1,m2,m3],.sy ik] L from by obtain⟨bh,aU,rfl,a1,a2,_⟩:=uk ho W.2;have ba:Z aw a l:=O.cz ht;exact⟨bh,aU,rfl,LN (db:=f) (K:=K) ik bh 0 aU (w:=l) (j.aj ba<|λ_ _=>id) P (by omega) k (by omega) Q (Bytes.cells<|fg.bytes ho) a2 (λb=>by have:=j.lt _ b;omega) Qa⟩
 have av:=X N;generalize fS next c b [m0,m1,m2,m3]=SB at*
 have r:∀o e,bY o f e->jT [.cr ik,.ap ik SB,.sy ik] K e->cY bA 224 #[aD f,am ik,am dE] o λL B=>ye o B f e [.rn ik dE] L:=by intro o e u w;obtain⟨bf,bk⟩:=EL w P;(have ba:cX (vw e.files) ik=H SB:=by rw[bf,gu,P];simp[cX]);obtain⟨bm,hF,bi⟩:=ji ba;exact Tj ik dE u hF (by decide) (by omega) Qa
 have i:∀o e,bY o f e->jT ([.cr ik,.ap ik SB,.sy ik]++[.rn ik dE]) K e->cY bA 105 #[aD f] o λL B=>ye o B f e [.sd] L:=by intro o e u w;refine Fj u ?_;obtain⟨K3,h1,h2⟩:=pU w;obtain⟨_,ba⟩:=EL h1 P;obtain⟨K4,⟨bm,bf,_,_,_,a3⟩,_,_,b3⟩:=h2;rw[b3,a3,af];grind
 have g:=X j.tu;have an:=X<|λl(ht:Z aw al l)=>(qQ.refl j).still<|O.cz ht;obtain⟨E,t,aF⟩:=dF r i p;clear hT r0 r1 r2 r3 b0 b1 b2 b3 k0 k1 k2 k3 hn hl hb j P k O aa d hz Q W N r i p;go_in
 go_wp2_with fail
 rw[J aF];apply aV.mono;rintro L l⟨v1,rfl,bb,ac⟩;obtain⟨bh,aU,rfl,ad⟩:=av l v1 ac bb;have ao:=X<|an l ac;unfold ik at ad;go_wp2_with fail
 apply ad.mono;rintro L o⟨v2,e,rfl,x⟩;have T:=zO.seq g ao (show jT [] K K from⟨rfl,rfl,rfl⟩) x;rcases x.wG with⟨rfl,o2⟩|⟨bn,q,aU,r1,r2,rfl,r3⟩;rotate_left;(.have D:=X<|zO.more (m:=[.sd])<|zO.more (m:=[.rn ik dE]) T;go_wp2;go_ret;exact⟨_,e,rfl,D⟩);have S:=E o e x.pa.ok o2;have ap:=X T.pa;have s:=X o2;unfold ik dE at S;go_wp2_with fail
 apply S.mono;rintro L w3⟨v3,K3,rfl,A⟩;have V:=zO.seq g ap s A;rcases A.wG with⟨rfl,o3⟩|⟨bn,q,aU,r1,r2,rfl,r3⟩;rotate_left;(.have D:=X<|zO.more (m:=[.sd]) V;go_wp2;go_ret;exact⟨_,K3,rfl,D⟩);have bd:=t w3 K3 A.pa.ok<|jT.Hk s o3;have au:=X V.pa;have ax:=X<|jT.Hk s o3;go_wp2_with fail
 apply bd.mono;rintro L w4⟨v4,K4,rfl,bc⟩;have D:=X<|zO.seq g au ax bc;go_wp2;go_ret;exact⟨_,K4,rfl,D⟩
structure Cj(t:bB):Prop where
 ks:t.ks=bX 0 t.cs
 pure:uF t.ks t.cs
 idx:OS (bX 0 t.cs)
 small:y (dU t.cs)<=100000
 num:t.num<18446744073709551616
structure Hm(fs:Fs)(nx lg tb:M)(a b c d:cP)(dO:Bool)(ls:dX):Prop where
 names:∀n bs,cX fs n=H bs->n=dE\/(n=dj lg/\dO=cf)\/∃t∈a++b++c++d,n=fG t.num
 state:cX fs dE=H (fS nx lg tb [a,b,c,d])\/(cX fs dE=none/\a=[]/\b=[]/\c=[]/\d=[]/\nx=2/\lg=1/\tb=0)
 log:dO=cf->∃jk,Ys ((tb:U)+1+y ls) jk/\cX fs (dj lg)=H (zJ ((tb:U)+1) ls jk)
 um:dO=bw->ls=[]
 pm:∀t∈a++b++c++d,cX fs (fG t.num)=H (pu t.cs)
 oY:((a++b++c++d).map bB.num).Nodup
 low:∀t∈a++b++c++d,t.num<nx/\t.num≠lg
 lt:lg<nx
 jf:∀t∈a++b++c++d,Cj t
def IW:∀{l m:ci ae},l.Nodup->(∀x∈l,x∈m)->y l<=y m
 |[],_,_,_=>bK _
 |x::l,m,a,c=>by
  rw[gQ]at a;obtain⟨m1,m2,rfl⟩:=tW (c x<|by simp);have b:∀a∈l,a∈m1++m2:=(by grind);have d:=IW a.2 b;grind
theorem su(h:r∈D.map (·.1)):∃b,cX D r=H b:=by
 induction D with
 |nil=>simp at h
 |cons f c a=>
  unfold cX;by_cases e:f.1=r
  .simp_all
  grind
def Ni(h:cX D r=H n):r∈D.map (·.1):=bH.2 ⟨_,oD h,rfl⟩
theorem KP(h:r∉D.map (·.1)):cX D r=none:=by
 cases c:cX D r with
 |none=>rfl
 |some b=>exact absurd (Ni c) h
def GC(a:(D.map (·.1)).Nodup){f:ae×eF}(h:f∈D):cX D f.1=H f.2:=by
 induction D with
 |nil=>cases h
 |cons g r b=>
  rw[bR,gQ]at a;unfold cX;grind
def QH(a:Fs)(n:ae):((xY a n).map (·.1)).Sublist (a.map (·.1)):=by
 induction a with
 |nil=>exact kB _
 |cons f r b=>
  unfold xY;grind
theorem UD(a:(D.map (·.1)).Nodup)(n:ae):cX (xY D n) n=none:=by
 induction D with
 |nil=>rfl
 |cons f r b=>
  rw[bR,gQ]at a;unfold xY;by_cases e:f.1=n
  .rw[di e];grind[KP]
  .rw[dt e];unfold cX;rw[dt e];exact b a.2
def QG(c:(D.map (·.1)).Nodup){a:ci ae}(h:r∈a):cX (ve D a) r=none:=by
 induction a generalizing D with
 |nil=>cases h
 |cons m e d=>
  have b:((xY D m).map (·.1)).Nodup:=c.sublist<|QH D m;show cX (ve (xY D m) e) r=none;by_cases f:r∈e
  .exact d b f
  grind[mW,UD]
def rE(b:(D.map (·.1)).Nodup){a:ci ae}(h:cX (ve D a) r=H n):r∉a/\cX D r=H n:=by
 by_cases c:r∈a;rw[QG b c]at h;cases h;grind[mW]
def bY.nodup(k:bY a b g):((vw g.files).map (·.1)).Nodup:=by
 obtain⟨e,c,_,i,j⟩:=k.now;have f:e.toList.map (·.key)=(g.files.map aX.nm).map (λp=>am p.1):=by have:=bS (List.map Prod.fst) i;grind[map_map,Function.comp_def]
 have d:=j.2.2;rw[f]at d;have h:(vw g.files).map (·.1)=(g.files.map aX.nm).map (·.1):=by simp[vw,aX.nm,ee,kC]
 rw[h];rw[ee]at d|-;grind
theorem Um{c:dX}(h:∀f∈c,∀x∈f,x.Good):kr (dU c):=by
 induction c with
 |nil=>intro x g;simp[dU]at g
 |cons f r j=>
  rw[pL];exact((NO<|h f<|by simp).append<|kr.le 4 _).append<|by grind
theorem Zj{w:Y}(g h j k:Option Addr)(f c1 c2 c3:M)(l m n o:cP)(s:Row w 1 (I g (y l) f) (y l) (l.map bB.ptr))(t:Row w 1 (I h (y m) c1) (y m) (m.map bB.ptr))(u:Row w 1 (I j (y n) c2) (y n) (n.map bB.ptr))(v:Row w 1 (I k (y o) c3) (y o) (o.map bB.ptr))(A:∀p,cI (I g (y l) f)=H p->p<z (G w))(B:∀p,cI (I h (y m) c1)=H p->p<z (G w))(C:∀p,cI (I j (y n) c2)=H p->p<z (G w))(D:∀p,cI (I k (y o) c3)=H p->p<z (G w))(x:y (l++m++n++o)<=10000000):Ey (dd w<|ay #[I g (y l) f,I h (y m) c1,I j (y n) c2,I k (y o) c3] 78) (z<|G w) 0 [(I g (y l) f,l),(I h (y m) c1,m),(I j (y n) c2,n),(I k (y o) c3,o)]:=by
 have c:Z aw w (dd w<|ay #[I g (y l) f,I h (y m) c1,I j (y n) c2,I k (y o) c3] 78):=(cO _ _);have q:(dd w<|ay #[I g (y l) f,I h (y m) c1,I j (y n) c2,I k (y o) c3] 78).heap[z<|G w]?=H (ay #[I g (y l) f,I h (y m) c1,I j (y n) c2,I k (y o) c3] 78 (0,0)):=aK _ rfl;refine⟨rfl,λi r=>?_,λi r=>?_,λi r=>?_,by rw[SC];omega⟩;(have:i=0\/i=1\/i=2\/i=3:=by grind);rcases this with rfl|rfl|rfl|rfl<;>(rw[ct q];rfl);(have:i=0\/i=1\/i=2\/i=3:=by grind);rcases this with rfl|rfl|rfl|rfl;exact c.row s (by grind);exact c.row t (by grind);exact c.row u (by grind);exact c.row v (by grind);grind
def wF(nx0 c:M)(n:ae):Prop:=n=ik\/∃m,nx0<=m/\m<c/\n=fG m
def LF(nx0 c:M)(l:ci nU):Prop:=∀o∈l,(∃n,wF nx0 c n/\o=.cr n)\/(∃n f,wF nx0 c n/\o=.ap n f)\/∃n,wF nx0 c n/\o=.sy n
theorem LF.Hk{nx0 c:M}{l m:ci nU}(h:LF nx0 c l)(k:LF nx0 c m):LF nx0 c (l++m):=λo f=>(aA.1 f).elim (h o)<|k o
theorem KH{nx0 c:M}{l m:ci nU}(h:l<+:m)(k:LF nx0 c m):LF nx0 c l:=λo f=>k o<|h.subset f
theorem Rt{nx0 c u:M}{f:dX}(j:nx0<=u)(g:u<c):LF nx0 c (xK u f):=by
 have k:wF nx0 c (fG u):=.inr ⟨u,j,g,rfl⟩;intro o h;simp only[xK,bM,gR,nV]at h;grind
theorem Ki{nx0 f:M}{us:cP}(j:∀u∈us,u.num<f):LF nx0 f (zU nx0 us):=by
 intro o c;obtain⟨u,g,c⟩:=kW.1 c;by_cases h:nx0<=u.num;rw[di h]at c;exact Rt h (j u g) o c;grind
theorem zo{l:ci nU}:∀{K g:DK},jT l K g->y g.eP<=y K.eP+y l:=by
 induction l with
 |nil=>
  intro K g h;rw[h.2.2];simp
 |cons o l k=>
  rintro K g⟨h,f,j⟩;have:=k j;have:y h.eP<=y K.eP+1:=by
   rcases o with n|⟨n,m⟩|n|⟨p,q⟩|n|_
   .obtain⟨_,_,_,_,c,_⟩:=f;rw[c];simp
   .obtain⟨_,_,_,_,_,c⟩:=f;rw[c];simp
   .obtain⟨_,_,_,_,c⟩:=f;rw[c];simp
   .obtain⟨_,_,_,_,_,c⟩:=f;rw[c];simp
   .obtain⟨_,_,_,_,_,c⟩:=f;rw[c];simp
   .obtain⟨_,_,c⟩:=f;rw[c];simp
  rw[aO];omega
section
variable{w wr w2:Y}{db sbqq baseqq:M}{K d e:DK}{b:cP}{ps:ci NT}{T us:cP}{nx0 a i num:M}
theorem CM.free(o:CF w db sbqq baseqq K b ps T nx0 a)(h:CM w db sbqq baseqq K b ps T nx0 a wr d us i num):cX (vw d.files) (fG num)=none:=by
 obtain⟨j,f,g⟩:=h.files;rw[f,gu,o.fresh num h.kU.1,jv];cases c:cX j (fG num)with
 |none=>rfl
 |some t=>
  obtain⟨u,k,n,l⟩:=g _<|oD c;simp only[io]at n;have r:=oh n.1;rcases h.OV u k with m|⟨q,s,_,_,_,m⟩
  .have:=o.low u m;omega
  .omega
theorem CM.RR(h:CF w db sbqq baseqq K b ps T nx0 a)(c:CM w db sbqq baseqq K b ps T nx0 a wr d us i num):∀u∈us,u.num<nx0+y T:=by
 intro u f;have:=c.kU;have:=h.nx;have:=h.small;have:=c.le;rcases c.OV u f with g|⟨p,_,_,_,_,g⟩;have:=h.low u g;omega;omega
structure Z4(w w':Y)(db:M)(K K':DK)(ps:ci NT)(nx0 tp q:M):Prop where
 ok:bY w' db K'
 aj:Z (Wr db K ps) w w'
 aL:∀k,K'.aL db k->K.aL db k\/z (G w)<=k
 fx:Fx K.fx K'.fx
 ops:∃l,LF nx0 tp l/\jT l K K'/\y K'.eP<=y K.eP+2000000
 err:∃c,sF w' q c/\Sm K.fx c
theorem CM.write(m:CF w db sbqq baseqq K b ps T nx0 a)(c:CM w db sbqq baseqq K b ps T nx0 a wr d us i num)(V:i<y T){p:NT}(r:p∈ps)(k:p.t=T[i]):cY bA 157 #[aD<|T[i].tb,aD db,aG num] wr λad N=>∃aa s,ad=aN aa/\((aa=.nilIface/\∃L,CM w db sbqq baseqq K b ps T nx0 a N s L (i+1)<|num+1)\/∃q,aa=fj q/\Z4 w N db K s ps nx0 (nx0+y T) q):=by
 have f:=c.rest p r (by rw[k,<-kM V];grind);have j:=(m.news p r).2;have u:num<18446744073709551616:=by have:=c.kU.2;have:=m.nx;have:=m.small;omega
 have l:EH d.fx:=c.fx.o6 m.room;have F:=(m.news p r).1.lt;have h:∀n,p.has n->¬d.aL db n:=λn t o=>by rcases c.aL n o with O|O;have:=m.aL n O;have:=(F n t).1;omega;grind
 have D:p.bb≠p.t.tb:=by obtain⟨x,S⟩:=eT f.fF (k:=p.bb) rfl;exact iQ S f.mem.box<|by decide
 have E:p.bb≠p.x:=by obtain⟨x,S⟩:=eT f.fF (k:=p.bb) rfl;obtain⟨P,ac⟩:=eT f.data (k:=p.x) rfl;grind
 have g:=f.mem;rw[f.ks]at g;rw[<-k];refine(JR num u p.x p.Ia p.t.cs g f.data (by have:=m.le;have:=c.aj.size;omega) j.idx (Um j.pure.jf) c.steps c.pow j.small c.aH (c.free m) (by have:=c.eP;have:=m.eP;have:=m.small;omega) l (h _<|.inr<|.inr rfl) (h _<|.inl rfl) (h _<|.inr<|.inl rfl) D E).mono ?_;rintro ad N⟨aa,s,rfl,A,v,B,C,⟨rfl,Q,h6⟩|⟨al,q,o,W,r2,rfl,r3,r4⟩⟩;exact⟨_,s,rfl,.inl ⟨rfl,_,c.wrote m V r k A v B Q C h6 u⟩⟩;refine⟨_,s,rfl,.inr ⟨q,rfl,A,?_,?_,c.fx.trans C,⟨_,(Ki<|c.RR m).Hk<|KH W<|Rt c.kU.1 (by have:=c.kU.2;omega),jT.Hk c.ops r2,by have A:=zo r2;have v:=W.length_le;have B:=c.eP;have C:=c.le;have Q:=m.small;simp only[xK,aO,dB]at v;omega⟩,o,r3,c.fx.Yz m.tu r4⟩⟩;refine c.aj.trans v<|λn t=>?_;rcases t with o|o|o;rcases c.aL n o with O|O;exact .inl<|.inl O;exact .inr O;exact .inl<|.inr ⟨p,r,.inl o⟩;exact .inl<|.inr ⟨p,r,.inr o⟩;intro n t;rcases B n t with o|o;exact c.aL n o;exact .inr<|aB c.aj.size o
end
def SR.settled(s:SR)(a b c d:ab)(n num:M):SR:={s with memory:=az,eG:=0,aP:=n,l0:=a,l1:=b,l2:=c,l3:=d,next:=num+1,log:=num,dO:=bw,pj:=bw,iU:=bw,gK:=bw}
def A9{h:cP}(i:j.map (λt=>(t.tb,t.ks,t.cs))=(p++u++v++h).map (λt=>(t.tb,t.ks,t.cs))):∃a b c d,j=a++b++c++d/\a.map (λt=>(t.tb,t.ks,t.cs))=p.map (λt=>(t.tb,t.ks,t.cs))/\b.map (λt=>(t.tb,t.ks,t.cs))=u.map (λt=>(t.tb,t.ks,t.cs))/\c.map (λt=>(t.tb,t.ks,t.cs))=v.map (λt=>(t.tb,t.ks,t.cs))/\d.map (λt=>(t.tb,t.ks,t.cs))=h.map (λt=>(t.tb,t.ks,t.cs)):=by
 rw[aE,aE,aE]at i;obtain⟨x,d,rfl,e,k⟩:=iO.1 i;obtain⟨g,c,rfl,f,l⟩:=iO.1 e;obtain⟨a,b,rfl,m,n⟩:=iO.1 f;grind
def iH(h:j.map (λt=>(t.tb,t.ks,t.cs))=p.map (λt=>(t.tb,t.ks,t.cs))):j.map bB.ptr=p.map bB.ptr/\y j=y p/\j.map bB.all=p.map bB.all/\cA j=cA p:=by
 have a:=bS (List.map (λe:M×mM×dX=>dC<|H<|R e.1 0)) h;have d:=bS y h;have b:=bS (List.map (λe:M×mM×dX=>e.2.2.flatten)) h;simp only[ee,kC]at a b;have c:j.map bB.all=p.map bB.all:=b;refine⟨a,by simpa using d,c,?_⟩;unfold cA;rw[c]
def Rx(a:eF):ci nU:=[.cr ik,.ap ik a,.sy ik]++[.rn ik dE]
def Sp(w l:Y)(a:M)(s:SR)(k:U)(b o p:M)(K:DK)(m:ci NT)(x A B C:ab)(q r u v j:cP):Prop:=∃(n wr:Y)(i c:DK)(h d e f g:cP)(num:M),Z aw w n/\CM n s.aH a b K j m (q++r++u++v) s.next p wr i h (y<|q++r++u++v) num/\h=d++e++f++g/\d.map (λt=>(t.tb,t.ks,t.cs))=q.map (λt=>(t.tb,t.ks,t.cs))/\e.map (λt=>(t.tb,t.ks,t.cs))=r.map (λt=>(t.tb,t.ks,t.cs))/\f.map (λt=>(t.tb,t.ks,t.cs))=u.map (λt=>(t.tb,t.ks,t.cs))/\g.map (λt=>(t.tb,t.ks,t.cs))=v.map (λt=>(t.tb,t.ks,t.cs))/\cW l a (s.settled x A B C o num) k/\bY l s.aH c/\vw c.files=ve (ow (vw i.files) (dE,fS ((num:U)+1) num o [d,e,f,g])) (lC s j h)/\((ow (vw i.files) (dE,fS ((num:U)+1) num o [d,e,f,g])).map (·.1)).Nodup/\y c.eP=y (lC s j h)/\(∀k,k<z (G w)->¬K.aL s.aH k->k≠a->l.heap[k]?=wr.heap[k]?)/\Z (λk=>Wr s.aH K m k\/k=a) w l/\(∀k,c.aL s.aH k->K.aL s.aH k\/z (G w)<=k)/\Fx K.fx c.fx/\jT (Rx (fS ((num:U)+1) num o [d,e,f,g])++(.sd::(lC s j h).map .rm)) i c
structure X5(w w':Y)(sb:M)(s:SR)(k:U)(K K':DK)(ps:ci NT)(v:ab):Prop where
 ok:bY w' s.aH K'
 aj:Z (λk=>Wr s.aH K ps k\/k=sb) w w'
 aL:∀k,K'.aL s.aH k->K.aL s.aH k\/z (G w)<=k
 fx:Fx K.fx K'.fx
 box:∃s',cW w' sb s' k/\s'.closed=s.closed/\s'.aH=s.aH
 err:∃q c,v=fj q/\sF w' q c/\Sm K.fx c
def CmL(w:Y)(b:M)(s:SR)(a u l:M)(K m:DK)(r:ci NT)(n o p q i:cP):Prop:=∃(k wr:Y)(h:DK)(g c d e f:cP)(num:M)(j:ci nU),Z aw w k/\CM k s.aH b a K i r (n++o++p++q) s.next l wr h g (y<|n++o++p++q) num/\g=c++d++e++f/\c.map (λt=>(t.tb,t.ks,t.cs))=n.map (λt=>(t.tb,t.ks,t.cs))/\d.map (λt=>(t.tb,t.ks,t.cs))=o.map (λt=>(t.tb,t.ks,t.cs))/\e.map (λt=>(t.tb,t.ks,t.cs))=p.map (λt=>(t.tb,t.ks,t.cs))/\f.map (λt=>(t.tb,t.ks,t.cs))=q.map (λt=>(t.tb,t.ks,t.cs))/\j<+: .sd::(lC s i g).map .rm/\jT (Rx (fS ((num:U)+1) num u [c,d,e,f])++j) h m
def S3(w g:Y)(b:M)(s:SR)(q:U)(a t e:M)(K:DK)(d:ci NT)(l m n o:ab)(h i j k f:cP)(p:Ending):Prop:=(p=aN .nilIface/\Sp w g b s q a t e K d l m n o h i j k f)\/∃v c,p=aN v/\X5 w g b s q K c d v/\((∃r,LF s.next (s.next+y (h++i++j++k)) r/\jT r K c/\y c.eP<=y K.eP+2000000)\/CmL w b s a t e K c d h i j k f)
def A6{nx0 tp:M}{l:ci nU}(i:l<+:Bg n):LF nx0 tp l\/∃c,l=Rx n++c/\c<+:[.sd]:=by
 have j:wF nx0 tp ik:=.inl rfl;have g:LF nx0 tp [.cr ik,.ap ik n,.sy ik]:=by intro o e;grind
 obtain⟨m,b⟩:=i;have h:=bS y b;have a:l=(Bg n).take (y l):=by rw[<-b,ld]
 have f:y (Bg n)=5:=rfl;rw[af,f]at h;by_cases d:y l<=3;refine .inl<|KH ?_ g;rw[a];have e:(Bg n).take 3=[.cr ik,.ap ik n,.sy ik]:=rfl;rw[<-e];grind
 (have:y l=4\/y l=5:=by omega);rcases this with d|d;rw[d]at a;exact .inr ⟨[],a,List.nil_prefix⟩;rw[d]at a;exact .inr ⟨[.sd],a,gy _⟩
theorem Fk(m:jT (Rx n) g x)(a:cX (vw g.files) ik=none):vw x.files=ow (vw g.files) (dE,n):=by
 obtain⟨b,c,h,⟨F,f,i,j,_,_⟩,k,_,_⟩:=pU (l:=[.cr ik,.ap ik n,.sy ik]) m;obtain⟨e,_⟩:=EL c a;have d:cX (vw b.files) ik=H n:=by rw[e,gu,a];simp[cX]
 grind[kQ,wO,Vy,UE]
def A7{a:ci ae}(h:jT (Rx n++(.sd::a.map .rm)) g x)(j:cX (vw g.files) ik=none):vw x.files=ve (ow (vw g.files) (dE,n)) a/\y x.eP=y a:=by
 obtain⟨b,f,c,⟨d,_,e⟩,i⟩:=pU h;grind[FQ,Fk]
def Oo{s:SR}(e rM av B0:M)(ps:ci NT)(v0 v1 v2 v3:ab)(bn bo ao bp a0 b0 c0 d0:cP)(h:cW a b s k)(hL:LS a s.aH b e g (a0++b0++c0++d0) ps rM v0 v1 v2 v3 bn bo ao bp)(hF:∀bL,Z aw a bL->CF bL s.aH b e g (a0++b0++c0++d0) ps (bn++bo++ao++bp) s.next B0)(kd:Ey a b 10 [(s.l0,a0),(s.l1,b0),(s.l2,c0),(s.l3,d0)])(pw:bY a s.aH g)(hj:¬g.aL s.aH b)(rT:av<1000000000000000)(oj:s.log<18446744073709551616)(rs:y (a0++b0++c0++d0)<=1000000)(hc:∀av fn,cX (vw g.files) av=H fn->av≠ik)(bs:∃x av ao,s.memory=I x av ao)(kc:∀bu,bu=s.l0\/bu=s.l1\/bu=s.l2\/bu=s.l3->∀k,cI bu=H k->LB s.aH b e g k)(db:∀us,(lC s (a0++b0++c0++d0) us).Nodup/\∀av∈lC s (a0++b0++c0++d0) us,av≠dE/\(∃fn,cX (vw g.files) av=H fn)/\Nm av):cY bA 98 #[aD b,dL #[v0,v1,v2,v3],aG av] a λdm w'=>S3 a w' b s k e av B0 g ps v0 v1 v2 v3 bn bo ao bp (a0++b0++c0++d0) dm:=by
 obtain⟨x0,n,rfl⟩:=bZ hL.r0;obtain⟨x1,o,rfl⟩:=bZ hL.r1;obtain⟨x2,p,rfl⟩:=bZ hL.r2;obtain⟨x3,r,rfl⟩:=bZ hL.r3;have pv:=hL.count;have ka:y (bn++bo++ao++bp)<=1000000:=by grind
 have gE:=Zj x0 x1 x2 x3 n o p r bn bo ao bp hL.r0 hL.r1 hL.r2 hL.r3 (λk d=>(hL.b0 k d).1) (λk d=>(hL.b1 k d).1) (λk d=>(hL.b2 k d).1) (λk d=>(hL.b3 k d).1) (by omega);obtain⟨WB,dv⟩:∃WB,dd a (ay #[I x0 (y bn) n,I x1 (y bo) o,I x2 (y ao) p,I x3 (y bp) r] 78)=WB:=⟨_,rfl⟩;rw[dv]at gE;obtain⟨bE,ll⟩:∃bE,bn++bo++ao++bp=bE:=⟨_,rfl⟩;have cS:=th _ gE;rw[RJ,SC,ll]at cS;have hq:Z aw a WB:=by rw[<-dv];exact(cO _ _)
 have hX:WB.heap[z<|G a]?=H (ay #[I x0 (y bn) n,I x1 (y bo) o,I x2 (y ao) p,I x3 (y bp) r] 78 (0,0)):=by rw[<-dv];exact aK _ rfl
 have jK:=(hq.block b (ak h) id).trans h;have rn:=cW.cellAt jK 14 rfl;rw[ll]at hF ka;obtain⟨HH,i,HF,mg,hy,bv,cj,dr,ls⟩:=yU h hL hF hq hX ll kd kc db;obtain⟨ry,rx,rv,bs⟩:=bs;have lx:=X bs;clear h hL hF gE hq hX jK ll kd kc db bs;go_in
 go_wp2_with fail
 apply cS.mono;rintro dm w1⟨rz,rfl,hd,hl⟩;obtain⟨xT,rR,oC⟩:=aC hd;subst oC;have V:Z aw a w1:=mg.cz hl;have ge:=HF w1 V;have hZ:=pw.aj V<|λ_ _=>id;have hY:=CM.start ge (λca h0=>(i.qa ca h0).Dj<|λk d=>V.block k (by have:=d.1;have:=i.le;omega) id) hZ (λk d=>V.cell (i.steps k d) id (by have:=i.fR.1;have:=i.le;omega))<|i.pow.aj V id;obtain⟨hN,aa,P,lp,aF,ce,mm⟩:=zX hd V ge hY ((V.block b (ak HH) id).trans HH) ((hl.block (z<|G a) (ak hy) id).trans hy) (show z (G a)+1=z (G WB)by rw[<-dv];simp);clear hd hl V ge hY cS hZ pw;go_wp2_with fail
 go_loopw [7,22] (λbf fe wr=>∃(dn num:M)(L:DK)(us:cP),fe=aq dn/\bf=aG num/\CM w1 s.aH b e g (a0++b0++c0++d0) ps bE s.next B0 wr L us dn num) (λ_ fe _=>y bE-(intOf fe).toNat)
 case atStart=>exact⟨0,s.next,g,[],rfl,rfl,lp⟩
 case round=>
  obtain⟨dn,num,L,us,rfl,rfl,t⟩:=hrel;have ro:=i.le;have qt:=i.Mj;have bT:∀k,z (G a)<=k->¬Wr s.aH g ps k:=by
   rintro k d(ao|⟨cc,hp,ao|ao⟩)
   .have:=i.aL k ao;omega
   .have:=((i.news cc hp).1.lt k<|.inl ao).2;omega
   .have:=((i.news cc hp).1.lt k<|.inr<|.inr ao).2;omega
  have hi:¬Wr s.aH g ps b:=by
   rintro(ao|⟨cc,hp,ao|ao⟩)
   .exact hj ao
   .have:=((i.news cc hp).1.lt b<|.inl ao).1;omega
   .have:=((i.news cc hp).1.lt b<|.inr<|.inr ao).1;omega
  have rt:=J mm;have bb:=(t.aj.block b (ak aF) hi).trans aF;by_cases dc:dn<y bE
  .have f:=t.aj.own hN<|λk d=>bT k (by have:=(hN.lt k d).1;omega);obtain⟨C,K,D⟩:∃C,xT=H (R C 0)/\aW wr (R C dn)=H bE[dn].ptr:=by
    rcases f.2 with⟨h2,h0⟩|⟨F,c,mo,h2,_⟩
    .omega
    .cases h2;refine⟨F,rfl,?_⟩;have:=pT f dn bE[dn].ptr (by rw[fB,aR dc];rfl);rwa[dJ,dM]at this
   subst K;unfold bB.ptr at D;have e1:(dn:U)<(y bE:U):=by omega
   rcases P.xt bE[dn] (ar dc)with h0|⟨cc,hp,j⟩
   .obtain⟨hs,au,v,hm,_⟩:=(t.nh bE[dn] h0).mem;have c:=DI _ hm;have HM:=X<|t.skip P dc h0;clear t f bb hm h0 bT;generalize bE[dn].tb=A at*;go_wp2_with fail
    apply c.mono;rintro dm w2⟨rfl,E⟩;subst w2;clear c;go_wp2;go_roundw;case rel=>exact⟨dn+1,num,L,_,by go_num,rfl,HM⟩
    case measure=>simp[intOf];omega
   .have Q:=t.rest cc hp (by rw[j,<-kM dc];grind);have m:=ES Q.mem;rw[j]at m;have u:=t.write P dc hp j;have kf:num+1<9223372036854775807:=by have:=t.kU.2;have:=P.nx;have:=P.small;omega
    have c2:=cW.cellAt bb 2 rfl;clear t f bb Q bT j hp;generalize bE[dn].tb=A at*;go_wp2_with fail
    apply m.mono;rintro dm w2⟨rfl,E⟩;subst w2;clear m;go_wp2_with fail
    apply u.mono;rintro dm w2⟨v2,K2,rfl,⟨rfl,N,w⟩|⟨q,rfl,c⟩⟩;rotate_left
    .have HR:=X<|show S3 a w2 b s k e av B0 g ps (I x0 (y bn) n) (I x1 (y bo) o) (I x2 (y ao) p) (I x3 (y bp) r) bn bo ao bp (a0++b0++c0++d0) (aN<|fj q)from .inr ⟨_,K2,rfl,⟨c.ok,(aa.mono (T:=λk=>Wr s.aH g ps k\/k=b) cJ).trans c.aj<|λ_ q=>.inl<|.inl q,λk d=>(c.aL k d).imp id<|λao=>aB aa.size ao,c.fx,⟨s,(c.aj.block b (ak aF) hi).trans aF,rfl,rfl⟩,q,by grind[Z4.err]⟩,.inl (by rw[J bv];exact c.ops)⟩;clear c u;go_wp2;go_ret;exact HR
    have B:=X w;clear w u;go_wp2;go_roundw;case rel=>exact⟨dn+1,num+1,K2,N,by go_num,by go_num,B⟩
    case measure=>simp[intOf];omega
  .have od:dn=y bE:=by have:=t.le;omega
   rw[od]at t;have jB:us.map (λca=>(ca.tb,ca.ks,ca.cs))=(bn++bo++ao++bp).map (λca=>(ca.tb,ca.ks,ca.cs)):=by rw[t.same,aY,J bv]
   obtain⟨u,w,A,B,bd,mp,mx,mE,mN⟩:=A9 jB;obtain⟨fr,fs,ms,mv⟩:=iH mp;obtain⟨fu,fv,mA,mC⟩:=iH mx;obtain⟨fx,fL,mI,mK⟩:=iH mE;obtain⟨gb,gc,mU,na⟩:=iH mN;have ha:∀bu,qZ a s.aH b e g bu->∀k,cI bu=H k->¬Wr s.aH g ps k:=by
    rintro bu hv k d(q|⟨cc,hp,q|q⟩)
    .exact(hv k d).2.1 q
    .have Q:=(i.news cc hp).1;rcases(hv k d).2.2.2 with F|⟨er,ks,F⟩
     .have:=(Q.lt k<|.inl q).1;omega
     .exact iQ F Q.mem.box (by decide) q
    .have Q:=(i.news cc hp).1;rcases(hv k d).2.2.2 with F|⟨er,ks,F⟩
     .have:=(Q.lt k<|.inr<|.inr q).1;omega
     .obtain⟨mo,oi⟩:=eT Q.data (k:=cc.x) rfl;grind
   have bt:Z (Wr s.aH g ps) a wr:=(aa.mono (T:=Wr s.aH g ps) cJ).trans t.aj<|λ_ q=>.inl q;have N:∀bu(ts c:cP),qZ a s.aH b e g bu->Row a 1 bu (y ts) (ts.map bB.ptr)->c.map bB.ptr=ts.map bB.ptr->y c=y ts->Row wr 1 bu (y c) (c.map bB.ptr):=λbu ts c hv kk e1 e2=>by
    rw[e1,e2];exact bt.row kk<|λk d=>⟨ha bu hv k d,(hv k d).1⟩
   have jk:∀cb∈us,Lu wr s.aH cb:=λcb hu=>by
    have er:∀{V:fh},sD wr s.aH (vw L.files) V cb->Lu wr s.aH cb:=λho=>by
     obtain⟨hs,au,v,hm,_⟩:=ho.mem;refine⟨hs,au,v,?_⟩;rw[<-ho.ks]at hm;exact hm
    rcases t.OV cb hu with q|⟨cc,_,_,q,_⟩
    .exact er<|t.nh cb q
    .exact er q
   have gj:∀bL,Z aw wr bL->∀cb∈us,Lu bL s.aH cb:=λbL ht cb hu=>by
    obtain⟨hs,au,v,hm⟩:=jk cb hu;exact⟨hs,au,v,hm.dG (ht.block _ (ak hm.box) id)<|ht.block _ hm.lt.2 id⟩
   have df:∀bu(ts:cP),(∀ca∈ts,ca∈us)->y ts<=1000000->(∀k,cI bu=H k->k<z (G wr))->Row wr 1 bu (y ts) (ts.map bB.ptr)->∀bL,Z aw wr bL->cY bA 158 #[bu] bL λdm w'=>∃a,dm=aN a/\w'.ownsRow (z<|G bL) 178 4 a (y ts) (dH ts)/\Below (z<|G bL) bL w':=λbu ts er b d kk bL ht=>by
    refine Qp bL s.aH bu ts ⟨ht.row kk (by grind),λk dm=>ai (d k dm) ht.size,λca h=>(gj bL ht ca<|er ca h).VD,by omega⟩ (by grind)<|by omega
   have sb:=bt.size;have et:=df _ u (by grind) (by omega) (λk d=>by have:=(i.b0 k d).1;omega)<|N _ bn u i.b0 i.r0 fr fs;have eu:=df _ w (by grind) (by omega) (λk d=>by have:=(i.b1 k d).1;omega)<|N _ bo w i.b1 i.r1 fu fv;have ev:=df _ A (by grind) (by omega) (λk d=>by have:=(i.b2 k d).1;omega)<|N _ ao A i.b2 i.r2 fx fL;have ew:=df _ B (by grind) (by omega) (λk d=>by have:=(i.b3 k d).1;omega)<|N _ bp B i.b3 i.r3 gb gc;obtain⟨hP,hQ,hS,hT⟩:=gw (N _ bn u i.b0 i.r0 fr fs) (N _ bo w i.b1 i.r1 fu fv) (N _ ao A i.b2 i.r2 fx fL)<|N _ bp B i.b3 i.r3 gb gc;have an:=(t.aj.block (z<|G a) (ak ce)<|bT _<|ag _).trans ce;have cB:=cellAt an 0 rfl;have cE:=cellAt an 1 rfl;have cM:=cellAt an 2 rfl;have cN:=cellAt an 3 rfl;have qr:=ak an;have kf:num+1<9223372036854775807:=by have:=t.kU.2;have:=P.nx;have:=P.small;omega
   have oI:IntKind.u64.wrap ((num:U)+1)=(num:U)+1:=by rw[eZ];omega
   have e1:¬(dn:U)<(y bE:U):=by omega
   obtain⟨HM,hI,hJ,hK,hM,ek,bm⟩:=zX t et eu ev ew bb bt;obtain⟨bh,hz,HEq,rc,ra,rb⟩:=lw bd an (And.intro mp (And.intro mx (And.intro mE mN))) bT gj ha;clear t df et eu ev ew bb bt bd an mp mx mE mN fr fs ms mv fu fv mA mC fx fL mI mK gb gc mU na N jk gj ha bT jB hi;go_wp2_with fail
   obtain⟨c,kn⟩:∃c,z (G wr)=c:=⟨_,rfl⟩;obtain⟨W0,jC⟩:∃W0,dd wr (ay #[aG<|(num:U)+1,aG num,aG av,az,az,az,az] 110)=W0:=⟨_,rfl⟩;have eA:W0.heap[c]?=H (ay #[aG<|(num:U)+1,aG num,aG av,az,az,az,az] 110 (0,0)):=by rw[<-jC];exact aK _ kn.symm
   have fd:Z aw wr W0:=by rw[<-jC];exact(cO _ _)
   have ap:=X eA;have em:=X fd;clear eA fd;have px:∀bL,(Instr.index 78 (dL #[I x0 (y bn) n,I x1 (y bo) o,I x2 (y ao) p,I x3 (y bp) r])<|aq 0).run bA bL=.ok (I x0 (y bn) n) bL:=λ_=>by kernel_rfl
   have qb:∀bL,(Instr.index 78 (dL #[I x0 (y bn) n,I x1 (y bo) o,I x2 (y ao) p,I x3 (y bp) r])<|aq 1).run bA bL=.ok (I x1 (y bo) o) bL:=λ_=>by kernel_rfl
   have qk:∀bL,(Instr.index 78 (dL #[I x0 (y bn) n,I x1 (y bo) o,I x2 (y ao) p,I x3 (y bp) r])<|aq 2).run bA bL=.ok (I x2 (y ao) p) bL:=λ_=>by kernel_rfl
   have qq:∀bL,(Instr.index 78 (dL #[I x0 (y bn) n,I x1 (y bo) o,I x2 (y ao) p,I x3 (y bp) r])<|aq 3).run bA bL=.ok (I x3 (y bp) r) bL:=λ_=>by kernel_rfl
   refine jd 5 ?_;rw[gZ];go_wp2_with fail
   apply(hI W0 em).mono;rintro dm w2⟨m0,rfl,eb,ac⟩;obtain⟨y0,z0,on⟩:=aC eb;subst on;have E:Z aw W0 w2:=Z.aQ ac;have m:=(E.block c (ak ap) id).trans ap;have g0:=cellAt m 3 rfl;have f0:=cQ (i:=3) m;have D:(cH w2 (R c 3)<|I y0 (y u) z0).heap[c]?=H (ay #[aG<|(num:U)+1,aG num,aG av,(I y0 (y u) z0),az,az,az] 110 (0,0)):=(aJ m).trans rfl;have j:Z (λk=>k=c) W0 (cH w2 (R c 3)<|I y0 (y u) z0):=(E.mono (T:=λk=>k=c) cJ).setCell _ _ _<|.inl rfl;obtain⟨W1,jD⟩:∃W1,cH w2 (R c 3) (I y0 (y u) z0)=W1:=⟨_,rfl⟩;rw[jD]at D j;obtain⟨aU,en,cl⟩:=dF D (em.trans j<|λk d=>.inr<|by omega) (show W1.ownsRow (z<|G W0) 178 4 (I y0 (y u) z0) (y u) (dH u)by rw[<-jD];exact eb.kept (dS _ _ _ _)<|.inr (λq=>by have:=(eb.lt _ q).1;have:=ak ap;omega));clear D j E m ac eb;go_wp2_with fail
   rw[gZ];go_wp2_with fail
   apply(hJ W1 en).mono;rintro dm w2⟨m1,rfl,ec,ac⟩;obtain⟨y1,z1,op⟩:=aC ec;subst op;have E:Z aw W1 w2:=Z.aQ ac;have m:=(E.block c (ak aU) id).trans aU;have g1:=cellAt m 4 rfl;have f1:=cQ (i:=4) m;have D:(cH w2 (R c 4)<|I y1 (y w) z1).heap[c]?=H (ay #[aG<|(num:U)+1,aG num,aG av,(I y0 (y u) z0),(I y1 (y w) z1),az,az] 110 (0,0)):=(aJ m).trans rfl;have j:Z (λk=>k=c) W1 (cH w2 (R c 4)<|I y1 (y w) z1):=(E.mono (T:=λk=>k=c) cJ).setCell _ _ _<|.inl rfl;obtain⟨W2,jE⟩:∃W2,cH w2 (R c 4) (I y1 (y w) z1)=W2:=⟨_,rfl⟩;rw[jE]at D j;obtain⟨bk,eo,cp,cm⟩:=gw D (en.trans j<|λk d=>.inr<|by omega) (show W2.ownsRow (z<|G W1) 178 4 (I y1 (y w) z1) (y w) (dH w)by rw[<-jE];exact ec.kept (dS _ _ _ _)<|.inr (λq=>by have:=(ec.lt _ q).1;have:=ak aU;omega))<|j.own cl (λk d q=>by have:=(cl.lt k d).1;have:=ak ap;omega);clear D j E m ac ec;go_wp2_with fail
   rw[gZ];go_wp2_with fail
   apply(hK W2 eo).mono;rintro dm w2⟨m2,rfl,ed,ac⟩;obtain⟨y2,z2,os⟩:=aC ed;subst os;have E:Z aw W2 w2:=Z.aQ ac;have m:=(E.block c (ak bk) id).trans bk;have g2:=cellAt m 5 rfl;have f2:=cQ (i:=5) m;have D:(cH w2 (R c 5)<|I y2 (y A) z2).heap[c]?=H (ay #[aG<|(num:U)+1,aG num,aG av,(I y0 (y u) z0),(I y1 (y w) z1),(I y2 (y A) z2),az] 110 (0,0)):=(aJ m).trans rfl;have j:Z (λk=>k=c) W2 (cH w2 (R c 5)<|I y2 (y A) z2):=(E.mono (T:=λk=>k=c) cJ).setCell _ _ _<|.inl rfl;obtain⟨W3,jG⟩:∃W3,cH w2 (R c 5) (I y2 (y A) z2)=W3:=⟨_,rfl⟩;rw[jG]at D j;obtain⟨cw,eq,cs,cn,cq⟩:=iY D (eo.trans j<|λk d=>.inr<|by omega) (show W3.ownsRow (z<|G W2) 178 4 (I y2 (y A) z2) (y A) (dH A)by rw[<-jG];exact ed.kept (dS _ _ _ _)<|.inr (λq=>by have:=(ed.lt _ q).1;have:=ak bk;omega)) (j.own cm (λk d q=>by have:=(cm.lt k d).1;have:=ak ap;omega))<|j.own cp (λk d q=>by have:=(cp.lt k d).1;have:=ak aU;omega);clear D j E m ac ed;go_wp2_with fail
   rw[gZ];go_wp2_with fail
   apply(hM W3 eq).mono;rintro dm w2⟨m3,rfl,ef,ac⟩;obtain⟨y3,z3,ox⟩:=aC ef;subst ox;have E:Z aw W3 w2:=Z.aQ ac;have m:=(E.block c (ak cw) id).trans cw;have g3:=cellAt m 6 rfl;have f3:=cQ (i:=6) m;have D:(cH w2 (R c 6)<|I y3 (y B) z3).heap[c]?=H (ay #[aG<|(num:U)+1,aG num,aG av,(I y0 (y u) z0),(I y1 (y w) z1),(I y2 (y A) z2),(I y3 (y B) z3)] 110 (0,0)):=(aJ m).trans rfl;have j:Z (λk=>k=c) W3 (cH w2 (R c 6)<|I y3 (y B) z3):=(E.mono (T:=λk=>k=c) cJ).setCell _ _ _<|.inl rfl;obtain⟨W4,jH⟩:∃W4,cH w2 (R c 6) (I y3 (y B) z3)=W4:=⟨_,rfl⟩;rw[jH]at D j;obtain⟨cx,T,cv,co,cr,cu⟩:=lw D (eq.trans j<|λk d=>.inr<|by omega) (show W4.ownsRow (z<|G W3) 178 4 (I y3 (y B) z3) (y B) (dH B)by rw[<-jH];exact ef.kept (dS _ _ _ _)<|.inr (λq=>by have:=(ef.lt _ q).1;have:=ak cw;omega)) (j.own cn (λk d q=>by have:=(cn.lt k d).1;have:=ak ap;omega)) (j.own cq (λk d q=>by have:=(cq.lt k d).1;have:=ak aU;omega))<|j.own cs (λk d q=>by have:=(cs.lt k d).1;have:=ak bk;omega);clear D j E m ac ef;go_wp2_with fail
   rw[gZ];go_wp2_with fail
   have cT:cW W4 b s k:=(T.block b (ak ek) id).trans ek;have jA:∀f:Y,f.heap=W4.heap->(λ(f:Y)=>aW f (R b 2)=H (aD s.aH)/\aW f (R c 0)=H (aG<|(num:U)+1)/\aW f (R c 1)=H (aG num)/\aW f (R c 2)=H (aG av)/\aW f (R c 3)=H (I y0 (y u) z0)/\aW f (R c 4)=H (I y1 (y w) z1)/\aW f (R c 5)=H (I y2 (y A) z2)/\aW f (R c 6)=H (I y3 (y B) z3)) f:=by
    intro f er;have h1:f.heap[b]?=W4.heap[b]?:=by rw[er]
    have h2:f.heap[c]?=W4.heap[c]?:=by rw[er]
    have ks:cW f b s k:=h1.trans cT;have oi:=h2.trans cx;refine⟨ks.cell rfl,?_,?_,?_,?_,?_,?_,?_⟩<;>(rw[ct oi];rfl)
   have es:=jA W4.drew rfl;have ch:=X cT;clear jA cT;have eg:cX (vw L.files) ik=none:=by
    obtain⟨pr,gn,er⟩:=HM.files;rw[gn,gu];cases q:cX (vw g.files) ik with
    |some fn=>grind
    |none=>
     rw[jv];cases q2:cX pr ik with
     |none=>rfl
     |some fn=>
      obtain⟨cb,_,dm,_⟩:=er _<|oD q2;grind[Prod.mk.injEq,pF]
   have ff:=X eg;clear eg;have ko:cY bA 159 #[aD s.aH,dL #[aG<|(num:U)+1,aG num,aG av,I y0 (y u) z0,I y1 (y w) z1,I y2 (y A) z2,I y3 (y B) z3]] W4.drew λdm w'=>ye W4.drew w' s.aH L (Bg<|fS ((num:U)+1) num av [u,w,A,B]) dm:=by
    have t:=J HM;have bd:=J bh;have ks:Z aw wr W4.drew:=T.of_heap rfl;have Q:∀cb∈us,cb.oZ:=λcb hu=>by
     have hx:∀{V:fh},sD wr s.aH (vw L.files) V cb->cb.oZ:=λho=>by
      refine⟨ho.num,by have:=ho.small;omega,?_⟩;have h1:=ov<|λk d=>(ho.idx.can k d).fits;have h2:=ho.idx.len;rw[ho.ks];unfold fP;rw[af,cg];omega
     rcases t.OV cb hu with q|⟨cc,_,_,q,_⟩
     .exact hx<|t.nh cb q
     .exact hx q
    have oi:y u+y w+y A+y B<=1000000:=by
     have:=t.len;rw[bd]at this;grind
    have eg:=J ff;have er:EH L.fx:=t.fx.o6 P.room;refine VP s.aH L ((num:U)+1) num av y0 y1 y2 y3 z0 z1 z2 z3 u w A B (λk d=>ks.cell (t.steps k d) id t.steps.lt) (dR co) (dR cr) (dR cu) (dR cv) (λk d=>(co.lt k d).2) (λk d=>(cr.lt k d).2) (λk d=>(cu.lt k d).2) (λk d=>(cv.lt k d).2) (λca h=>Q ca (by rw[bd];simp[h])) (λca h=>Q ca (by rw[bd];simp[h])) (λca h=>Q ca (by rw[bd];simp[h])) (λca h=>Q ca (by rw[bd];simp[h])) (by omega) (by omega) (by omega) oi (t.aH.aj ks<|λ_ _=>id) eg (by have:=t.eP;have:=P.eP;omega) er
   have md:=X ko;clear ko;rename_i QQ KK ip;refine eH (λ(f:Y)=>aW f (R b 2)=H (aD s.aH)/\aW f (R c 0)=H (aG<|(num:U)+1)/\aW f (R c 1)=H (aG num)/\aW f (R c 2)=H (aG av)/\aW f (R c 3)=H (I y0 (y u) z0)/\aW f (R c 4)=H (I y1 (y w) z1)/\aW f (R c 5)=H (I y2 (y A) z2)/\aW f (R c 6)=H (I y3 (y B) z3)) 6 (by kernel_rfl) ?_;refine fw 0 ?_;iterate 5 (refine iS (v:=?_) es rfl (by kernel_rfl) lQ rfl ?_ ?_;rotate_left;(focus(rintro f⟨s2,q0,q1,q2,q3,q4,q5,q6⟩;go_simp;try rfl));simp only[Act.put,ig,Nat.reduceAdd])
   apply iG;refine bG (i:=5) rfl rfl (by kernel_rfl) ?_;intro K5 ih;go_simp;apply md.mono;rintro dm w5⟨v5,bx,rfl,hg⟩;have dx:=hg.pa;have kb:∀k,L.aL s.aH k->k<c:=λk d=>by have:=HM.aH.lt k d;omega
   have hk:¬L.aL s.aH b:=λq=>by
    rcases HM.aL b q with F|F
    .exact hj F
    .have:=ak aF;omega
   have gk:cW w5 b s k:=(dx.aj.block b (ak ch) hk).trans ch;have O:w5.heap[c]?=_:=(dx.aj.block c (ak cx) (λq=>by have:=kb _ q;omega)).trans cx;obtain⟨cd,el,K,mc,hU⟩:=iY gk O dx hg.wG hk;refine ih _ _ (λ_=>⟨gk.cell rfl,(by rw[ct O];rfl),(by rw[ct O];rfl),(by rw[ct O];rfl),(by rw[ct O];rfl),(by rw[ct O];rfl),(by rw[ct O];rfl),(by rw[ct O];rfl)⟩) ?_;clear ih dx hg gk O kb hk;try simp only[Act.put,ig]
   refine bG (i:=6) rfl rfl (by kernel_rfl) ?_;intro K6 il;go_simp;refine il _ _ (λq=>(q rfl).elim) ?_;refine fm (by kernel_rfl) ?_ _;show KK _ _;apply ip;clear ip il es;rcases J mc with⟨rfl,o5⟩|⟨l5,q5,c5,r1,r2,rfl,r3,r4⟩;rotate_left
   .have ks:=aa.size;have W:Z (L.aL s.aH) wr w5:=(T.mono (T:=L.aL s.aH) cJ).trans ((dh (L.aL s.aH) W4).trans K.aj<|λ_ q=>.inl q)<|λ_ q=>.inl q;have hR:∀x,L.aL s.aH x->(Wr s.aH g ps x\/x=b)\/z (G a)<=x:=λx hx=>by
     rcases HM.aL x hx with F|F
     .exact .inl<|.inl<|.inl F
     grind
    have er:X5 a w5 b s k g bx ps (fj q5):=⟨K.ok,(bm.mono (T:=λk=>Wr s.aH g ps k\/k=b)<|λ_ q=>.inl<|.inl q).trans W hR,λk' bc=>by
     rcases K.aL k' bc with F|F
     .exact(HM.aL k' F).imp id<|λao=>by omega
     .have:=T.size;have:=bm.size;simp at F;grind,HM.fx.trans K.fx,⟨s,cd,rfl,rfl⟩,q5,c5,rfl,r3,HM.fx.Yz P.tu r4⟩
    have HR:=X (show S3 a w5 b s k e av B0 g ps (I x0 (y bn) n) (I x1 (y bo) o) (I x2 (y ao) p) (I x3 (y bp) r) bn bo ao bp (a0++b0++c0++d0) (aN<|fj q5)from .inr ⟨_,bx,rfl,er,by
     rcases A6 (nx0:=s.next) (tp:=s.next+y bE) r1 with F|⟨l2,dm,F⟩
     .exact .inl ⟨_,by rw[J bv];exact(Ki<|HM.RR P).Hk F,jT.Hk HM.ops r2,by have h1:=zo r2;have h2:=r1.length_le;have h3:=HM.eP;have h4:=HM.le;have h5:=P.small;simp only[Bg,af,aO,dB]at h2;omega⟩
     .refine .inr ⟨w1,wr,L,us,u,w,A,B,num,l2,aa,by rw[J bv];exact HM,bh,HEq.1,HEq.2.1,HEq.2.2.1,HEq.2.2.2,F.trans ?_,by rw[<-dm];exact r2⟩;grind⟩)
    clear er W hR r1 r2 r3 r4;go_wp2;go_ret;have hR:=J HR;simp_all
   have hr:vw bx.files=ow (vw L.files) (dE,fS ((num:U)+1) num av [u,w,A,B])/\bx.eP=[]:=by
    obtain⟨K1,h1,K2,⟨a1,_,a3⟩,b1,_,b3⟩:=pU (l:=Rx<|fS ((num:U)+1) num av [u,w,A,B]) o5;exact⟨by rw[b1,a1];exact Fk h1 ff,b3.trans a3⟩
   have hW:=X hr.1;have lv:=X hr.2;have hO:=X o5;clear hr o5;have t:=J HM;have kv:z (G a)<z (G w1):=ak ce;have qv:=t.aj.size;have W:Z (L.aL s.aH) wr w5:=(T.mono (T:=L.aL s.aH) cJ).trans ((dh (L.aL s.aH) W4).trans K.aj<|λ_ q=>.inl q)<|λ_ q=>.inl q;have hb:∀k,k<z (G w1)->¬g.aL s.aH k->¬L.aL s.aH k:=λk h1 h2 q=>(t.aL k q).elim h2 (λF=>by omega);have ea:∀k,k<z (G w1)->¬g.aL s.aH k->w5.heap[k]?=wr.heap[k]?:=λk h1 h2=>W.block k (by omega)<|hb k h1 h2;have oc:=i.le;have rr:∀cc∈ps,∀k,cc.has k->k<z (G w1)/\¬g.aL s.aH k:=λcc hp k d=>by
    have h1:=(i.news cc hp).1.lt k d;exact⟨by omega,λq=>by have:=i.aL k q;omega⟩
   have ol:∀k,LB s.aH b e g k->k<z (G w1)/\¬g.aL s.aH k:=λk d=>⟨by have:=d.1;omega,d.2.1⟩;have nS:∀{V:fh}{cb:bB},sD wr s.aH (vw L.files) V cb->(∀k,V k->k<z (G w1)/\¬g.aL s.aH k)->Sk w5 cb:=λho er=>by
    obtain⟨hs,au,v,hm,ks⟩:=(ho.Dj<|λk d=>ea k (er k d).1 (er k d).2).mem;exact⟨ho.num,_,_,_,_,hs,au,v,_,hm⟩
   have iv:∀ca∈a0++b0++c0++d0,Sk w5 ca:=λca h0=>nS (t.nh ca h0) ol;have nO:∀cb∈u++w++A++B,Sk w5 cb:=λcb hu=>by
    rw[<-J bh]at hu;rcases t.OV cb hu with q|⟨cc,hp,_,q,_⟩
    .exact iv cb q
    grind
   have iu:Ey w5 b 10 [(s.l0,a0),(s.l1,b0),(s.l2,c0),(s.l3,d0)]:=by
    refine cj.aj (S:=λk=>Wr s.aH g ps k\/L.aL s.aH k) ((bm.mono (T:=λk=>Wr s.aH g ps k\/L.aL s.aH k)<|λ_ q=>.inl<|.inl q).trans W<|λ_ q=>.inl<|.inr q) ?_ ?_
    .rintro(q|q)
     .rcases q with F|⟨cc,hp,F|F⟩
      .exact hj F
      .have:=((i.news cc hp).1.lt b<|.inl F).1;omega
      .have:=((i.news cc hp).1.lt b<|.inr<|.inr F).1;omega
     .exact hU q
    .intro fe ks k' bc q;have er:LB s.aH b e g k':=by
      have:fe=0\/fe=1\/fe=2\/fe=3:=by grind
      rcases this with rfl|rfl|rfl|rfl
      .exact dr _ (.inl rfl) k' bc
      .exact dr _ (.inr<|.inl rfl) k' bc
      .exact dr _ (.inr<|.inr<|.inl rfl) k' bc
      .exact dr _ (.inr<|.inr<|.inr rfl) k' bc
     rcases q with F|F
     .rcases F with F|⟨cc,hp,F|F⟩
      .simp_all
      .have:=((i.news cc hp).1.lt k'<|.inl F).1;have:=er.1;omega
      .have:=((i.news cc hp).1.lt k'<|.inr<|.inr F).1;have:=er.1;omega
     simp_all
   have ax:∀bu(ts:cP),qZ a s.aH b e g bu->Row wr 1 bu (y ts) (ts.map bB.ptr)->Row w5 1 bu (y ts) (ts.map bB.ptr)/\∀k,cI bu=H k->k<z (G w5):=λbu ts hv kk=>
    ⟨W.row kk<|λk d=>⟨hb k (by have:=(hv k d).1;omega) (hv k d).2.1,by have:=(hv k d).1;omega⟩,λk d=>by have:=(hv k d).1;have:=W.size;omega⟩
   have q0:=ax _ u i.b0 hP;have q1:=ax _ w i.b1 hQ;have q2:=ax _ A i.b2 hS;have q3:=ax _ B i.b3 hT;have qs:y (u++w++A++B)<=1000000:=by rw[<-J bh,t.len];exact ka
   have hf:Pow w5:=t.pow.dG<|ea _ (by have:=i.mz.1;omega) i.mz.2.1;have ey:=Kf a0 b0 c0 d0 u w A B cd iu q0.1 q1.1 q2.1 q3.1 q0.2 q1.2 q2.2 q3.2 iv nO hf oj (by omega) (by omega);have ba:=(ea (z<|G a) kv (λq=>by have:=i.aL _ q;omega)).trans hz;have cB:=cellAt ba 0 rfl;have cE:=cellAt ba 1 rfl;have cM:=cellAt ba 2 rfl;have cN:=cellAt ba 3 rfl;rw[<-J bh]at ey;obtain⟨lt,aV,ej,mb⟩:=gw ea W ba hb;go_wp2_with fail
   apply ey.mono;rintro dm w6⟨v6,rfl,he,ei⟩;obtain⟨ns,ex⟩:∃ns,lC s (a0++b0++c0++d0) us=ns:=⟨_,rfl⟩;rw[ex]at he;obtain⟨x6,c6,oy⟩:=aC he;subst oy;have C:cW w6 b s k:=(ei.block b (ak cd) id).trans cd;have eB:w6.heap[c]?=_:=(ei.block c (ak el) id).trans el;have br:w6.heap[z<|G a]?=_:=(ei.block (z<|G a) (ak ej) id).trans ej;obtain⟨ky,kx,gr⟩:=bZ (cj.row 0<|by simp);obtain⟨lb,kz,gs⟩:=bZ (cj.row 1<|by simp);obtain⟨le,lc,gt⟩:=bZ (cj.row 2<|by simp);obtain⟨lg,lf,gx⟩:=bZ (cj.row 3<|by simp);simp only[cG,cD]at gr gs gt gx;obtain⟨hD,hE,hG,hH⟩:=gw gr gs gt gx;have k7:aW w6 (R b 7)=H (I ry rx rv):=by rw[<-J lx];exact C.cell rfl
   have k8:=cW.cellAt C 8 rfl;have k9:=cW.cellAt C 9 rfl;have pb:aW w6 (R b 10)=H (I ky (y a0) kx):=by rw[<-gr];exact C.cell rfl
   have pc:aW w6 (R b 11)=H (I lb (y b0) kz):=by rw[<-gs];exact C.cell rfl
   have pd:aW w6 (R b 12)=H (I le (y c0) lc):=by rw[<-gt];exact C.cell rfl
   have pe:aW w6 (R b 13)=H (I lg (y d0) lf):=by rw[<-gx];exact C.cell rfl
   have pf:=cW.cellAt C 14 rfl;have pg:=cW.cellAt C 17 rfl;have pi:=cW.cellAt C 18 rfl;have pk:=cW.cellAt C 19 rfl;have pn:=cW.cellAt C 20 rfl;have pp:=cW.cellAt C 21 rfl;have fz:∀fe,w6.frozen? (R b fe)=bw:=λfe=>C.free;have f7:=fz 7;have f8:=fz 8;have f9:=fz 9;have nb:=fz 10;have nc:=fz 11;have nd:=fz 12;have ne:=fz 13;have nf:=fz 14;have nl:=fz 15;have nm:=fz 16;have nn:=fz 17;have no:=fz 18;have nq:=fz 19;have cB:=cellAt br 0 rfl;have cE:=cellAt br 1 rfl;have cM:=cellAt br 2 rfl;have cN:=cellAt br 3 rfl;have t0:=cellAt eB 0 rfl;have t1:=cellAt eB 1 rfl;have n1:z (G a)≠b:=by omega
   have n2:c≠b:=by omega
   have n3:b≠z (G a):=by omega
   have n4:b≠c:=by omega
   obtain⟨lm,ds,me,ck⟩:=gw C he ei ex;go_wp2_with fail
   rename_i rm mn it;obtain⟨W7,gf⟩:∃W7,cH (cH (cH w6 (R b 7) az) (R b 8)<|aq 0) (R b 9) (aG av)=W7:=⟨_,rfl⟩;have ad:cW W7 b {s with memory:=az,eG:=0,aP:=av} k:=by rw[<-gf];exact(aJ<|aJ<|aJ lm).trans rfl
   have bi:Z (λk=>k=b) w6 W7:=by rw[<-gf];exact((iT b w6).setCell _ _ _<|.inl rfl).setCell _ _ _<|.inl rfl
   have cB:aW W7 (R (z<|G a) 0)=H (I x0 (y bn) n):=bi.cell cB n1<|rU cB;have cE:aW W7 (R (z<|G a) 1)=H (I x1 (y bo) o):=bi.cell cE n1<|rU cE;have cM:aW W7 (R (z<|G a) 2)=H (I x2 (y ao) p):=bi.cell cM n1<|rU cM;have cN:aW W7 (R (z<|G a) 3)=H (I x3 (y bp) r):=bi.cell cN n1<|rU cN;have t0:aW W7 (R c 0)=H (aG<|(num:U)+1):=bi.cell t0 n2<|rU t0;have t1:aW W7 (R c 1)=H (aG num):=bi.cell t1 n2<|rU t1;have pb:aW W7 (R b 10)=H (I ky (y a0) kx):=by rw[<-J hD];exact ad.cell rfl
   have pc:aW W7 (R b 11)=H (I lb (y b0) kz):=by rw[<-J hE];exact ad.cell rfl
   have pd:aW W7 (R b 12)=H (I le (y c0) lc):=by rw[<-J hG];exact ad.cell rfl
   have pe:aW W7 (R b 13)=H (I lg (y d0) lf):=by rw[<-J hH];exact ad.cell rfl
   have pf:=cW.cellAt ad 14 rfl;have nb:W7.frozen? (R b 10)=bw:=ad.free;have nc:W7.frozen? (R b 11)=bw:=ad.free;have nd:W7.frozen? (R b 12)=bw:=ad.free;have ne:W7.frozen? (R b 13)=bw:=ad.free;have nf:W7.frozen? (R b 14)=bw:=ad.free;have ln:=X ad;have fk:=X bi;rw[gf];apply Oj mn
   .intro er;go_region
    all_goals exact er
   refine it _ _ ?_;obtain⟨W8,gg⟩:∃W8,(cH (cH (cH (cH (cH W7 (R b 10)<|I x0 (y bn) n) (R b 11)<|I x1 (y bo) o) (R b 12)<|I x2 (y ao) p) (R b 13)<|I x3 (y bp) r) (R b 14)<|aG<|(num:U)+1).drew=W8:=⟨_,rfl⟩;have al:cW W8 b {s with memory:=az,eG:=0,aP:=av,l0:=I x0 (y bn) n,l1:=I x1 (y bo) o,l2:=I x2 (y ao) p,l3:=I x3 (y bp) r,next:=num+1} k:=by
    rw[<-gg];exact(aJ<|aJ<|aJ<|aJ<|aJ ln).trans rfl
   have kt:Z (λk=>k=b) W7 W8:=by
    rw[<-gg];exact(((((iT b W7).setCell _ _ _<|.inl rfl).setCell _ _ _<|.inl rfl).setCell _ _ _<|.inl rfl).setCell _ _ _<|.inl rfl).cz<|dh aw _
   have t1:aW W8 (R c 1)=H (aG num):=kt.cell t1 n2<|rU t1;have pg:=cW.cellAt al 17 rfl;have pi:=cW.cellAt al 18 rfl;have pk:=cW.cellAt al 19 rfl;have pn:=cW.cellAt al 20 rfl;have pp:=cW.cellAt al 21 rfl;have nl:W8.frozen? (R b 17)=bw:=al.free;have nm:W8.frozen? (R b 18)=bw:=al.free;have nn:W8.frozen? (R b 19)=bw:=al.free;have no:W8.frozen? (R b 20)=bw:=al.free;have nq:W8.frozen? (R b 21)=bw:=al.free;have lo:=X al;have fl:=X kt;rw[gg];go_wp2_with fail
   obtain⟨W9,gi⟩:∃W9,cH (cH (cH (cH (cH W8 (R b 17)<|aG num) (R b 18)<|aM bw) (R b 19)<|aM bw) (R b 20)<|aM bw) (R b 21) (aM bw)=W9:=⟨_,rfl⟩;have jI:cW W9 b (s.settled (I x0 (y bn) n) (I x1 (y bo) o) (I x2 (y ao) p) (I x3 (y bp) r) av num) k:=by
    rw[<-gi];exact(aJ<|aJ<|aJ<|aJ<|aJ lo).trans rfl
   have hn:Z (λk=>k=b) W8 W9:=by
    rw[<-gi];exact((((iT b W8).setCell _ _ _<|.inl rfl).setCell _ _ _<|.inl rfl).setCell _ _ _<|.inl rfl).setCell _ _ _<|.inl rfl
   have fb:Z (λk=>k=b) w5 W9:=((me.mono (T:=λk=>k=b) cJ).trans (fk.trans (fl.trans hn<|λ_ q=>.inl q)<|λ_ q=>.inl q)<|λ_ q=>.inl q);rw[gi];have hc:=J ck;have dT:=ls us;rw[hc]at dT;have dk:¬bx.aL s.aH b:=λq=>by
    rcases K.aL b q with F|F
    .exact hU F
    .have:=ak ch;simp at F;omega
   have nv:bY W9 s.aH bx:=K.ok.aj fb (λk d q=>by rw[q]at d;exact dk d);have om:=FH (I x6 (y ns) c6) ns jI nv dk (dR<|((fk.trans (fl.trans hn<|λ_ q=>.inl q)<|λ_ q=>.inl q)).own ds (λk d q=>by have:=(ds.lt k d).1;have:=ak cd;omega)) (λdn a=>⟨ai (ds.lt dn a).2<|((fk.trans (fl.trans hn<|λ_ q=>.inl q)<|λ_ q=>.inl q)).size,λq=>by have h1:=(ds.lt dn a).1;have h2:=K.ok.lt dn q;omega⟩) dT.1 (λbf er=>by
    obtain⟨oi,⟨fn,ks⟩,_⟩:=dT.2 bf er;obtain⟨pr,gn,_⟩:=HM.files;refine⟨fn,?_⟩;rw[J hW,lI,dt (λq=>oi q.symm),gn,gu,ks];rfl) (by
    rw[J lv];have:y ns<=1+y (a0++b0++c0++d0):=by
     rw[<-hc];unfold lC;rw[af,bU];have h1:y (mH (a0++b0++c0++d0) us)<=y (a0++b0++c0++d0):=eW _ _;split<;>simp<;>simp at h1<;>omega
    grind) (λbf er=>(dT.2 bf er).2.2)
   have hw:=X jI;have bl:=X fb;apply om.mono;rintro dm w'⟨v8,K8,rfl,kl⟩;have bg:=X kl.pa;have hh:=kl.wG;have nA:∀k,k<z (G a)->¬g.aL s.aH k->k≠b->w'.heap[k]?=wr.heap[k]?:=by
    intro k' h1 h2 h3;have g1:w5.heap[k']?=wr.heap[k']?:=lt k' (by omega) h2;have g2:W9.heap[k']?=w5.heap[k']?:=bl.block k' (by have:=aV.size;omega) h3;refine(bg.aj.block k' (by have:=aV.size;have:=bl.size;omega)<|λq=>?_).trans<|g2.trans g1;rcases K.aL k' q with F|F
    .exact mb k' (by omega) h2 F
    .have:=T.size;simp at F;omega
   have ob:Z (λk=>Wr s.aH g ps k\/k=b) a w':=by
    have oS:=aV.size;have oL:=T.size;have hR:∀x,L.aL s.aH x->(Wr s.aH g ps x\/x=b)\/z (G a)<=x:=λx hx=>by
     rcases HM.aL x hx with F|F
     .exact .inl<|.inl<|.inl F
     grind
    refine(((bm.mono (T:=λk=>Wr s.aH g ps k\/k=b)<|λ_ q=>.inl<|.inl q).trans aV hR).trans bl<|by simp).trans bg.aj<|λx hx=>?_;rcases K.aL x hx with F|F
    .exact hR x F
    .simp at F;grind
   have nw:∀k,K8.aL s.aH k->g.aL s.aH k\/z (G a)<=k:=by
    intro k' bc;have oS:=aV.size;have oL:=T.size;have er:=bl.size;rcases bg.aL k' bc with F|F
    .rcases K.aL k' F with F|F
     .rcases HM.aL k' F with F|F
      .exact .inl F
      grind
     .simp at F;grind
    grind
   have nt:cW w' b (s.settled (I x0 (y bn) n) (I x1 (y bo) o) (I x2 (y ao) p) (I x3 (y bp) r) av num) k:=(bg.aj.block b (ak hw) dk).trans hw;have nK:Fx g.fx K8.fx:=(HM.fx.trans K.fx).trans bg.fx;obtain⟨lr,hV,hB,hA,hC⟩:=iY nA ob nw nt nK;rcases hh with⟨rfl,o8⟩|⟨l8,q8,c8,r1,r2,rfl,r3,r4⟩
   .have bq:jT (Rx (fS ((num:U)+1) num av [u,w,A,B])++(.sd::ns.map .rm)) L K8:=by
     have:=jT.Hk hO o8;rwa[show Bg (fS ((num:U)+1) num av [u,w,A,B])++ns.map nU.rm=Rx (fS ((num:U)+1) num av [u,w,A,B])++(.sd::ns.map .rm)from rfl]at this
    obtain⟨e1,e2⟩:=A7 bq ff;have er:=X<|show Sp a w' b s k e av B0 g ps (I x0 (y bn) n) (I x1 (y bo) o) (I x2 (y ao) p) (I x3 (y bp) r) bn bo ao bp (a0++b0++c0++d0)from⟨w1,wr,L,K8,us,u,w,A,B,num,aa,by rw[J bv];exact HM,bh,HEq.1,HEq.2.1,HEq.2.2.1,HEq.2.2.2,hA,bg.ok,by rw[J ck];exact e1,by rw[<-J hW];exact K.ok.nodup,by rw[J ck];exact e2,lr,hV,hB,hC,by rw[J ck];exact bq⟩;go_wp2;go_ret;exact .inl ⟨rfl,er⟩
   .have bq:jT (Rx (fS ((num:U)+1) num av [u,w,A,B])++(.sd::l8)) L K8:=by
     have:=jT.Hk hO r2;rwa[show Bg (fS ((num:U)+1) num av [u,w,A,B])++l8=Rx (fS ((num:U)+1) num av [u,w,A,B])++(.sd::l8)from rfl]at this
    have HR:=X<|show S3 a w' b s k e av B0 g ps (I x0 (y bn) n) (I x1 (y bo) o) (I x2 (y ao) p) (I x3 (y bp) r) bn bo ao bp (a0++b0++c0++d0) (aN<|fj q8)from .inr ⟨_,K8,rfl,⟨bg.ok,hV,hB,hC,⟨_,hA,rfl,rfl⟩,q8,c8,rfl,r3,(HM.fx.trans K.fx).Yz P.tu r4⟩,.inr ⟨w1,wr,L,us,u,w,A,B,num,_,aa,by rw[J bv];exact HM,bh,HEq.1,HEq.2.1,HEq.2.2.1,HEq.2.2.2,by rw[J ck];grind,bq⟩⟩;go_wp2;go_ret;exact HR
theorem yN{u v:M}(h:dj u=dj v):u=v:=by
 have:=tv h;rw[tG,tG,tX]at this;rw[<-rS u,this,rS]
theorem QC{fs:Fs}{f:ae×eF}{x:ae}(h:x∈(ow fs f).map (·.1)):x=f.1\/x∈fs.map (·.1):=by
 induction fs with
 |nil=>left;simpa[ow]using h
 |cons i r j=>
  by_cases g:i.1=f.1
  .simp only[ow,di g,bR,bM]at h|-;grind
  .simp only[ow,dt g,bR,bM]at h|-;grind
theorem QB{fs:Fs}{g:ae×eF}(h:(fs.map (·.1)).Nodup):((ow fs g).map (·.1)).Nodup:=by
 induction fs with
 |nil=>simp[ow]
 |cons i r j=>
  rw[bR,gQ]at h;by_cases f:i.1=g.1
  .simp only[ow,di f,bR,gQ];rw[<-f];exact h
  .simp only[ow,dt f,bR,gQ];grind[QC]
def Cm(n:ae):Prop:=n=ik\/∃m,m<18446744073709551616/\(n=fG m\/n=dj m)
def OU(n:M)(fs:Fs):Prop:=∃L:ci ae,y L<=n/\∀m f,cX fs m=H f->m∈L
theorem OU.len{n:M}{fs:Fs}(h:OU n fs)(g:(fs.map (·.1)).Nodup):y fs<=n:=by
 obtain⟨L,i,j⟩:=h;have:=IW (m:=L) g (λx h=>by grind[su]);rw[bU]at this;omega
theorem Hm.BY{fs:Fs}{nx lg tbqq:M}{a b c d:cP}{e:Bool}{lsqq:dX}(h:Hm fs nx lg tbqq a b c d e lsqq)(i:y (a++b++c++d)<=1000000):OU 1000002 fs:=by
 refine⟨dE::dj lg::(a++b++c++d).map (λt=>fG t.num),by grind,λm g q=>?_⟩;rcases h.names m g q with f|⟨f,_⟩|⟨t,j,f⟩;simp[f];simp[f];grind
theorem OU.Qy{n nx tp:M}{fs fs':Fs}(k:OU n fs)(h:∀m f,cX fs' m=H f->wF nx tp m\/cX fs m=H f):OU (n+1+(tp-nx)) fs':=by
 obtain⟨L,o,p⟩:=k;refine⟨L++ik::(List.range<|tp-nx).map (λr=>fG<|nx+r),by simp;omega,λm f q=>?_⟩;rcases h m f q with(g|⟨s,i,j,g⟩)|g;simp[g];refine aA.2<|.inr<|dQ _<|bH.2 ⟨s-nx,(by grind),?_⟩;rw[g];grind
 grind
theorem OU.mono{n g:M}{fs:Fs}(j:OU n fs)(m:n<=g):OU g fs:=by
 obtain⟨L,k,h⟩:=j;exact⟨L,by omega,h⟩
theorem OU.one{n:M}{fs fs':Fs}{x:ae}(h:OU n fs)(g:∀m f,cX fs' m=H f->m=x\/∃b,cX fs m=H b):OU (n+1) fs':=by
 obtain⟨L,i,j⟩:=h;refine⟨x::L,by simp;omega,λm f q=>?_⟩;grind
structure mO(fs:Fs)(nx lg tb:M)(a b c d:cP)(dO:Bool)(ls:dX):Prop where
 names:∀n bs,cX fs n=H bs->n=dE\/Cm n
 BY:OU 4000000 fs
 first:cX fs dE=none->∀n bs m,cX fs n=H bs->n=fG m\/n=dj m->m<=2
 Dg:dO=bw->cX fs (dj lg)=none
 state:cX fs dE=H (fS nx lg tb [a,b,c,d])\/(cX fs dE=none/\a=[]/\b=[]/\c=[]/\d=[]/\nx=2/\lg=1/\tb=0)
 log:dO=cf->∃jk,Ys ((tb:U)+1+y ls) jk/\cX fs (dj lg)=H (zJ ((tb:U)+1) ls jk)
 um:dO=bw->ls=[]
 pm:∀t∈a++b++c++d,cX fs (fG t.num)=H (pu t.cs)
 oY:((a++b++c++d).map bB.num).Nodup
 low:∀t∈a++b++c++d,t.num<nx/\t.num≠lg
 lt:lg<nx
 jf:∀t∈a++b++c++d,Cj t
section
variable{fs:Fs}{K K':DK}{nx lg tbqq tp:M}{a b c d:cP}{e:Bool}{lsqq:dX}{l:ci nU}
theorem Hm.left(h:Hm fs nx lg tbqq a b c d e lsqq)(o:nx<=18446744073709551616)(k:y (a++b++c++d)<=1000000):mO fs nx lg tbqq a b c d e lsqq where
 BY:=(h.BY k).mono<|by omega
 names:=λn i q=>by
  rcases h.names n i q with f|⟨f,_⟩|⟨t,j,f⟩
  .exact .inl f
  .exact .inr<|.inr ⟨lg,by have:=h.lt;omega,.inr f⟩
  .exact .inr<|.inr ⟨t.num,by have:=(h.low t j).1;omega,.inl f⟩
 first:=λq n i p m k=>by
  rcases h.state with f|⟨_,rfl,rfl,rfl,rfl,rfl,rfl,rfl⟩
  .rw[f]at q;cases q
  .rcases h.names n i m with f|⟨f,_⟩|⟨t,j,_⟩
   .grind
   .grind[gI,yN]
   .simp at j
 Dg:=λq=>by
  cases g:cX fs (dj lg)with
  |none=>rfl
  |some i=>
   rcases h.names _ _ g with f|⟨_,f⟩|⟨t,j,f⟩
   .grind[ke]
   .rw[q]at f;cases f
   .exact absurd f.symm<|gI _ _
 state:=h.state
 log:=h.log
 um:=h.um
 pm:=h.pm
 oY:=h.oY
 low:=h.low
 lt:=h.lt
 jf:=h.jf
theorem Wi(r:LF nx tp l):∀{K:DK},jT l K K'->(∀n,¬wF nx tp n->cX (vw K'.files) n=cX (vw K.files) n)/\∀n j,cX (vw K'.files) n=H j->wF nx tp n\/cX (vw K.files) n=H j:=by
 induction l with
 |nil=>intro K x;rw[x.1];grind
 |cons v l t=>
  rintro K⟨p,k,s⟩;obtain⟨A,B⟩:=t (λv f=>r v<|by grind) s;have u:∃m,wF nx tp m/\∀n,n≠m->cX (vw p.files) n=cX (vw K.files) n:=by
   rcases r v (by simp)with⟨m,g,rfl⟩|⟨m,j,g,rfl⟩|⟨m,g,rfl⟩
   .obtain⟨C,w,f,_⟩:=k;refine⟨m,g,λn h=>?_⟩;have:vw p.files=vw K.files++[(m,[])]:=by rw[f];simp[vw]
    rw[this,gu];have o:¬m=n:=λq=>h q.symm;simp[cX,o]
   .obtain⟨F,o,i,f,_⟩:=k;refine⟨m,g,λn h=>?_⟩;rw[f,wO,lI,dt<|λq=>h (by rw[<-q];exact(dq i).1)]
   .obtain⟨F,i,f,_⟩:=k;refine⟨m,g,λn h=>?_⟩;rw[f,wO,lI,dt<|λq=>h (by rw[<-q];exact(dq i).1)]
  grind
theorem mO.Qy(h:mO (vw K.files) nx lg tbqq a b c d e lsqq)(s:LF nx tp l)(u:jT l K K')(B:tp<=18446744073709551616)(F:cX (vw K.files) dE=none->tp<=3)(C:OU 2000000 (vw K.files))(A:tp<=nx+1000000):mO (vw K'.files) nx lg tbqq a b c d e lsqq:=by
 obtain⟨j,k⟩:=Wi s u;have w:¬wF nx tp dE:=by rintro(f|⟨m,_,_,f⟩);exact qw f;exact mV m f.symm
 have i:¬wF nx tp (dj lg):=by rintro(f|⟨m,_,_,f⟩);exact ut _ f;exact gI _ _ f.symm
 have n:cX (vw K'.files) dE=cX (vw K.files) dE:=j _ w;refine{h with BY:=(C.Qy k).mono (by omega),names:=λp g q=>?_,first:=λq p g m v t=>?_,Dg:=λq=>by rw[j _ i];exact h.Dg q,state:=by rw[n];exact h.state,log:=λq=>by rw[j _ i];exact h.log q,pm:=λD o=>?_};rcases k p g q with(f|⟨m,_,E,f⟩)|f;exact .inr<|.inl f;exact .inr<|.inr ⟨m,by omega,.inl f⟩;exact h.names p g f;rw[n]at q;rcases k p g v with(f|⟨L,r,E,f⟩)|f;(grind[pF,ut]);(grind[oh,gI]);exact h.first q p g m f t;rw[j];exact h.pm D o;rintro(f|⟨m,r,_,f⟩);exact pF _ f;have:=oh f;have:=(h.low D o).1;omega
theorem Qo{h:eF}{g:ci ae}(q:l<+: .sd::g.map .rm)(u:jT (Rx h++l) K K')(o:cX (vw K.files) ik=none):∃v,vw K'.files=ve (ow (vw K.files) (dE,h)) (g.take v):=by
 obtain⟨s,n,j⟩:=pU u;have i:=Fk n o;cases l with
 |nil=>exact⟨0,by rw[j.1,i];rfl⟩
 |cons w l=>
  obtain⟨rfl,f⟩:=qW.1 q;obtain⟨t,⟨m,_,_⟩,k⟩:=j;refine⟨y l,?_⟩;have p:l=(g.take<|y l).map .rm:=by
   obtain⟨x,r⟩:=f;rw[vy,<-r,ld]
  rw[p]at k;rw[(FQ k).1,m,i]
end
def gk(F:aX):M×eF×U:=(F.jM,F.bytes,F.safe)
def LI(K:DK):ci (M×eF×U):=(K.files++K.nh).map gk
def QV(a:M)(x:eF)(s:U):M:=s.toNat+a% (y x-s.toNat+1)
def Rr(K:DK)(D:eU)(a:M)(c:Fs):Prop:=∀n b,cX c n=H b↔∃d x s,D.get n=H (jr<|H d)/\(d,x,s)∈LI K/\b=x.take (QV a x s)
theorem Zd(c:(fF g).Nodup){d:eF}(h:(b,n,k)∈LI g)(a:(b,d,N)∈LI g):n=d/\k=N:=by
 unfold LI at h a;unfold fF at c;generalize g.files++g.nh=o at*;induction o with
 |nil=>cases h
 |cons j r m=>
  rw[bR,gQ]at c;rw[bR,bM]at h a;have i:∀{a:eF}{t:U},(b,a,t)∈r.map gk->b∈r.map aX.jM:=λq=>by
   obtain⟨l,f,e⟩:=bH.1 q;exact bH.2 ⟨l,f,(bS (·.1) e)⟩
  rcases h with h|h<;>rcases a with a|a
  .have e:=h.trans a.symm;grind
  .have e:b=j.jM:=bS (·.1) h;grind
  .have e:b=j.jM:=bS (·.1) a;grind
  grind
def Nb{o:nU}(q:xH o g x)(j:∀d e,o=.rn d e->d≠e)(s:o=.sd\/(∃t,o=.rm t)\/∃d e,o=.rn d e):(LI x).Perm (LI g):=by
 rcases s with rfl|⟨t,rfl⟩|⟨d,e,rfl⟩;obtain⟨a,b,n⟩:=q;unfold LI;rw[a,(dD b).2];obtain⟨F,k,m,a,b,n⟩:=q;unfold LI;rw[a,(dD b).2];grind[Perm.map,nB,append_assoc,perm_append_singleton]
 .obtain⟨F,k,m,a,b,n⟩:=q;obtain⟨_,r⟩:=dD b;have c:=j d e rfl;unfold LI;rw[a,r];have f:=(tD (jg g.files d) {F with name:=e}).map gk;have i:=(nB m).map gk;simp only[bR]at f i;rw[aE,aE,aE];cases hr:dV g.files e with
  |none=>
   have l:jg (jg g.files d) e=jg g.files d:=Dt (by rw[qJ c];exact hr);rw[l]at f;simp only[Option.toList_none,iz,dz];exact(f.trans i.symm).append_right _
  |some h=>
   have p:=(nB (show dV (jg g.files d) e=H h by rw[qJ c];exact hr)).map gk;simp only[Option.toList_some,bR,iz];have l:=i.trans<|p.cons<|gk F;simp only[bR]at l;refine(f.append_right _).trans<|List.Perm.trans ?_ (l.append_right _).symm;rw[cR,cR,cR];refine List.Perm.cons _ ?_;rw[<-bj];grind
def Rr.perm(d:(LI x).Perm (LI g)){c:eU}(h:Rr x c b D):Rr g c b D:=λn a=>by
 rw[h n a];grind
def vP(K:DK)(n:ae):Option ab:=eU.get (K.files.map aX.nm) n
theorem fA(K:DK)(n:ae):vP K n=(dV K.files n).map (λF=>jr<|H F.jM):=by
 unfold vP;cases h:dV K.files n with
 |none=>exact tH h
 |some F=>exact(dq h).2.2
def wB{a:ci aX}:dV (P++a) r=(dV P r).or (dV a r):=by
 induction P with
 |nil=>simp[dV]
 |cons f c b=>
  by_cases e:f.name=r
  .simp[dV,e]
  .simp[dV,e,b]
def kp:dV (mL P O) r=if O.name=r then H O else dV P r:=by
 induction P with
 |nil=>simp[dV,mL]
 |cons g c b=>
  by_cases e:g.name=O.name
  .by_cases a:O.name=r
   .simp[dV,mL,e,a]
   .simp[dV,mL,e,a]
  .by_cases a:g.name=r
   .have:¬O.name=r:=(by grind);rw[mL,dt e,dV,di a,dt this,dV,di a]
   .simp[dV,mL,e,a,b]
def zZ(h:(P.map aX.name).Nodup):dV (jg P r) r=none:=by
 cases q:dV (jg P r) r with
 |none=>rfl
 |some a=>
  have b:=dq q;grind[Jw]
def pY(T:cP)(n:ae):Prop:=n=dE\/∃t∈T,n=fG t.num
def zM(K:DK)(n:ae):Prop:=∀F,dV K.files n=H F->F.safe=y F.bytes
structure Vo(K:DK)(D:eU)(lg:M)(T:cP):Prop where
 I6:∀n,pY T n->D.get n=vP K n
 log:D.get (dj lg)=none\/D.get (dj lg)=vP K (dj lg)
 names:∀n v,D.get n=H v->n=dE\/Cm n
 first:D.get dE=none->∀n v m,D.get n=H v->n=fG m\/n=dj m->m<=2
 BY:y D<=4000000
def eU.Qh{D:eU}(h:D.get r=H d):r∈D.map (·.1):=by
 induction D with
 |nil=>cases h
 |cons p b a=>
  by_cases e:p.1=r
  .simp[e]
  .rw[eU.get,dt e]at h;grind
def QF(h:jr (H b)=jr (H c)):b=c:=by simpa[jr]using h
def Zi(h:dV g.files r=H O):(O.jM,O.bytes,O.safe)∈LI g:=bH.2 ⟨O,ib _ (dq h).2.1,rfl⟩
def Rr.none{e:eU}(h:Rr g e b D)(d:e.get r=none):cX D r=none:=by
 cases q:cX D r with
 |none=>rfl
 |some c=>
  obtain⟨i,x,s,a,_⟩:=(h r c).1 q;rw[d]at a;cases a
def Rr.file{c:eU}(h:Rr g c b D)(hF:dV g.files r=H O)(a:c.get r=vP g r):cX D r=H (O.bytes.take<|QV b O.bytes O.safe):=by
 refine(h r _).2 ⟨O.jM,O.bytes,O.safe,?_,Zi hF,rfl⟩;rw[a,fA,hF];rfl
def QU(h:k=y n):n.take (QV b n k)=n:=by
 rw[h];exact dN (by unfold QV;simp)
def Rr.used{h:eU}(i:Rr g h b D)(a:Vo g h c j)(d:pY j r)(f:zM g r):cX D r=cX (vw g.files) r:=by
 have e:=a.I6 r d;cases q:dV g.files r with
 |none=>
  rw[kQ,q];rw[fA,q]at e;exact i.none e
 |some F=>rw[i.file q e,QU<|f F q,kQ,q];rfl
def Ys.take{q:U}{a:eF}(h:Ys q a)(k:M):Ys q (a.take k):=by
 rcases h with rfl|⟨l,b,c,d,e⟩;exact .inl (by simp);exact .inr<|by grind
def mO.Se{E:eU}(d:mO (vw g.files) c i l j p u v S m)(x:wE ((l:U)+1) m)(hw:∀n,pY (j++p++u++v) n->zM g n)(h:Vo g E i (j++p++u++v))(r:Rr g E b D):∃a s,s<=y m/\mO D c i l j p u v a (m.take s)/\∀A,A<=y m->E.get (dj i)=vP g (dj i)->(∀F,dV g.files (dj i)=H F->(y (kO ((l:U)+1)<|m.take A):U)<=F.safe)->A<=s:=by
 have T:∀n,pY (j++p++u++v) n->cX D n=cX (vw g.files) n:=λn q=>r.used h q<|hw n q;have C:=T dE<|.inl rfl
 have L:∃a s,s<=y m/\(a=bw->cX D (dj i)=none)/\(a=cf->∃e,Ys ((l:U)+1+y (m.take s)) e/\cX D (dj i)=H (zJ ((l:U)+1) (m.take s) e))/\(a=bw->m.take s=[])/\∀A,A<=y m->E.get (dj i)=vP g (dj i)->(∀F,dV g.files (dj i)=H F->(y (kO ((l:U)+1)<|m.take A):U)<=F.safe)->A<=s:=by
  cases hg:E.get (dj i)with
  |none=>
   refine⟨bw,0,bK _,λ_=>r.none hg,λq=>(by cases q),λ_=>rfl,λA k K _=>?_⟩;have f:dV g.files (dj i)=none:=by
    rw[fA]at K;cases zqq:dV g.files (dj i)with
    |none=>rfl
    |some F=>rw[zqq]at K;cases K
   cases o:S with
   |false=>
    rw[d.um o]at k;simpa using k
   |true=>
    obtain⟨e,_,N⟩:=d.log o;rw[kQ,f]at N;cases N
  |some ap=>
   have K:E.get (dj i)=vP g (dj i):=h.log.elim (by grind) id;cases hF:dV g.files (dj i)with
   |none=>
    rw[fA,hF,hg]at K;cases K
   |some F=>
    have o:S=cf:=by
     cases o:S with
     |true=>rfl
     |false=>
      have:=d.Dg o;rw[kQ,hF]at this;cases this
    obtain⟨e,hj,N⟩:=d.log o;rw[kQ,hF]at N;have gb:F.bytes=kO ((l:U)+1) m++e:=gP N;have P:=r.file hF K;rw[gb]at P;obtain⟨f,O⟩:∃f,QV b (kO ((l:U)+1) m++e) F.safe=f:=⟨_,rfl⟩;have aa:F.safe<=f:=by rw[<-O];unfold QV;omega
    rw[O]at P;by_cases ac:f<=y (kO ((l:U)+1) m)
    .obtain⟨s,j2,r1,V,r3,r4⟩:=IL m ((l:U)+1) f;refine⟨cf,s,V,λq=>(by cases q),λ_=>⟨j2,?_,?_⟩,λq=>(by cases q),λA k _ C=>r4 A k (by have:=C F rfl;omega)⟩
     .rw[dp,pA V];rcases r3 with q|⟨W,q1,q2,q3⟩
      .exact .inl q
      .have B:W∈m:=eR q1;exact .inr ⟨W,x.jf W B,(x.one W B).2,q2,q3⟩
     grind[zJ.eq_1]
    .refine⟨cf,y m,ag _,λq=>(by cases q),λ_=>⟨e.take<|f-y (kO ((l:U)+1) m),?_,?_⟩,λq=>(by cases q),λA k _ _=>k⟩
     .rw[aY];exact hj.take _
     grind[take_length,zJ.eq_1,take_append,take_of_length_le]
 obtain⟨a,s,k1,k2,k3,k4,k5⟩:=L;refine⟨a,s,k1,⟨λn t q=>?_,⟨E.map (·.1),by rw[bU];exact h.BY,λad t q=>?_⟩,λq n t ad hq B=>?_,k2,by rw[C];exact d.state,k3,k4,λan Q=>by rw[T _<|.inr ⟨an,Q,rfl⟩];exact d.pm an Q,d.oY,d.low,d.lt,d.jf⟩,k5⟩;obtain⟨p,ao,al,w,_⟩:=(r n t).1 q;exact h.names n _ w;obtain⟨p,ao,al,w,_⟩:=(r ad t).1 q;exact eU.Qh w;obtain⟨p,ao,al,w,_⟩:=(r n t).1 hq;refine h.first ?_ n _ ad w B;rw[h.I6 _<|.inl rfl,fA];rw[C]at q;rw[tr q];rfl
structure Vk(K:DK):Prop where
 names:∀n v,vP K n=H v->n=dE\/Cm n
 first:vP K dE=none->∀n v m,vP K n=H v->n=fG m\/n=dj m->m<=2
 BY:y K.files<=4000000
section
variable{K K':DK}{lg tbqq nx j0:M}{T a b c d:cP}{e:Bool}{lsqq:dX}{P Q:Fs->Prop}{o:nU}{l:ci nU}
theorem MU{n:ae}{v:ab}(h:vP K n=H v):∃f,cX (vw K.files) n=H f:=by
 rw[fA]at h;rw[kQ];cases q:dV K.files n with
 |none=>rw[q]at h;cases h
 |some F=>simp_all
theorem MV{n:ae}(h:vP K n=none):cX (vw K.files) n=none:=by
 rw[fA]at h;rw[kQ];simp_all
theorem mO.tu(i:mO (vw K.files) nx lg tbqq a b c d e lsqq)(j:qN K):Vk K where
 names n v q:=by
  obtain⟨f,h⟩:=MU q;exact i.names n f h
 first q n v m hv hm:=by
  obtain⟨f,h⟩:=MU hv;exact i.first (MV q) n f m h hm
 BY:=by
  have g:=i.BY.len (by unfold vw;rw[ee];exact j.names);unfold vw at g;rwa[bU]at g
theorem Vo.YO(h:Vk K):Vo K (K.files.map aX.nm) lg T:=⟨λ_ _=>rfl,.inr rfl,h.names,h.first,by rw[bU];exact h.BY⟩
structure uG(K:DK)(lg:M)(T:cP):Prop where
 Gm:qN K
 G5:∀k,k<=y K.eP->Vo K (iX K k) lg T
 J5:∀n,pY T n->zM K n
def ZV(lg:M)(T:cP):nU->Prop
 | .inl n=>¬pY T n
 | .inr (.inl (n,_))=>¬pY T n
 | .inr (.inr (.inl n))=>¬pY T n
 | .inr (.inr (.inr (.inl (_,_))))=>False
 | .inr (.inr (.inr (.inr (.inl n))))=>¬pY T n/\n≠dj lg
 | .inr (.inr (.inr (.inr (.inr _))))=>True
theorem CO(r:xH o K K')(v:qN K'):∀k,k<=y K'.eP->iX K' k=K'.files.map aX.nm\/∃i,i<=y K.eP/\iX K' k=iX K i:=by
 have m:∀x,K'.sm=K.sm->K'.eP=K.eP++[x]->∀k,k<=y K'.eP->iX K' k=K'.files.map aX.nm\/∃i,i<=y K.eP/\iX K' k=iX K i:=λx h f k p=>by obtain⟨t,_⟩:=Fm h f;by_cases q:k<=y K.eP;(grind);grind[length_append,qN.now]
 intro k p;rcases o with s|⟨s,u⟩|s|⟨x,j⟩|s|_
 .obtain⟨t,j,h,f,g,_⟩:=r;grind
 .obtain⟨F,x,n,h,f,g⟩:=r;exact .inr ⟨k,by rw[<-g];exact p,lT (dD f).1 g k⟩
 .obtain⟨F,n,h,f,g⟩:=r;exact .inr ⟨k,by rw[<-g];exact p,lT (dD f).1 g k⟩
 .obtain⟨F,t,n,h,f,g⟩:=r;grind
 .obtain⟨F,j,n,h,f,g⟩:=r;grind
 .obtain⟨h,f,g⟩:=r;grind[qN.now]
theorem YJ(s:xH o K K')(i:ZV lg T o):(∀n,pY T n->dV K'.files n=dV K.files n)/\(vP K (dj lg)=none\/vP K' (dj lg)=vP K (dj lg)):=by
 rcases o with n|⟨n,t⟩|n|⟨x,j⟩|n|_
 .obtain⟨v,j,g,p,r,u⟩:=s;have k:∀m,¬m=n->dV K'.files m=dV K.files m:=λm q=>by
   rw[g,wB,dV,dt<|λf=>q f.symm];cases dV K.files m<;>rfl
  refine⟨λm q=>k m<|λf=>i<|f▸q,?_⟩;by_cases q:dj lg=n
  .grind[fA]
  grind[fA]
 .obtain⟨F,x,h,g,p,r⟩:=s;have k:∀m,¬m=n->dV K'.files m=dV K.files m:=λm q=>by
   rw[g,kp,dt<|λf=>q<|f.symm.trans (dq h).1]
  refine⟨λm q=>k m<|λf=>i<|f▸q,.inr ?_⟩;by_cases q:dj lg=n
  .rw[fA,fA,g,kp,di<|(dq h).1.trans q.symm,q,h];rfl
  .rw[fA,fA,k _ q]
 .obtain⟨F,h,g,p,r⟩:=s;have k:∀m,¬m=n->dV K'.files m=dV K.files m:=λm q=>by
   rw[g,kp,dt<|λf=>q<|f.symm.trans (dq h).1]
  refine⟨λm q=>k m<|λf=>i<|f▸q,.inr ?_⟩;by_cases q:dj lg=n
  .rw[fA,fA,g,kp,di<|(dq h).1.trans q.symm,q,h];rfl
  .rw[fA,fA,k _ q]
 .exact absurd i id
 .obtain⟨F,j,h,g,p,r⟩:=s;have k:∀m,¬m=n->dV K'.files m=dV K.files m:=λm q=>by rw[g,qJ<|λf=>q f.symm]
  refine⟨λm q=>k m<|λf=>i.1<|f▸q,.inr ?_⟩;rw[fA,fA,k _<|λf=>i.2 f.symm]
 .obtain⟨g,p,r⟩:=s;grind[fA]
theorem Kg(g:ZV lg T o):∀x f,o=.rn x f->x≠f:=λx f h=>by
 rw[h]at g;exact absurd g id
theorem Vo.Dj{D:eU}(h:Vo K D lg T)(f:∀n,pY T n->dV K'.files n=dV K.files n)(g:vP K (dj lg)=none\/vP K' (dj lg)=vP K (dj lg)):Vo K' D lg T:=by
 refine{h with I6:=λn q=>by rw[h.I6 n q,fA,fA,f n q],log:=?_};grind[Vo.log]
theorem uG.step(n:uG K lg T)(h:xH o K K')(j:ZV lg T o)(p:(fF K').Nodup)(r:qN K'->Vk K'):uG K' lg T:=by
 have f:=n.Gm.step h (Kg j) p;obtain⟨i,m⟩:=YJ h j;refine⟨f,λv s=>?_,λu q F hF=>n.J5 u q F (by rw[<-i u q];exact hF)⟩;rcases CO h f v s with k|⟨t,g,k⟩;rw[k];exact Vo.YO<|r f;rw[k];exact(n.G5 t g).Dj i m
theorem qN.pC(h:qN K)(f:qc K K'):qN K':=h.still (dD f.2.1).1 f.2.2 (by rw[f.1]) (λb q=>by unfold fF at*;rw[f.1,(dD f.2.1).2];exact q)
theorem uG.pC(h:uG K lg T)(f:qc K K'):uG K' lg T:=by
 have i:=lT (dD f.2.1).1 f.2.2;refine⟨h.Gm.pC f,λk g=>?_,λn q F hF=>h.J5 n q F (by rw[<-f.1];exact hF)⟩;rw[i k];exact(h.G5 k (by rw[<-f.2.2];exact g)).Dj (λ_ _=>by rw[f.1])<|.inr<|by rw[fA,fA,f.1]
theorem qc.refl(K:DK):qc K K:=⟨rfl,rfl,rfl⟩
theorem uG.ops(m:∀o∈l,ZV lg T o):∀{K K':DK},uG K lg T->jT l K K'->(fF K').Nodup->(∀g f,g<+:l->jT g K f->qN f->Vk f)->uG K' lg T:=by
 induction l with
 |nil=>
  intro K K' p h _ _;exact p.pC h
 |cons o l u=>
  rintro K K' p⟨f,h,i⟩j k;have t:∀x f,nU.rn x f∈l->x≠f:=λx f q=>Kg (m _<|dQ _ q) x f rfl;refine u (by grind) (p.step h (m o<|by simp) (oM t i j)<|k [o] f ⟨l,rfl⟩ ⟨f,h,qc.refl _⟩) i j<|λg n v s r=>k (o::g) n ?_ ⟨f,h,s⟩ r;grind
structure yf(K:DK)(lg tb:M)(ls:dX)(j0:M):Prop where
 le:j0<=y ls
 log:0<j0->∀k,k<=y K.eP->(iX K k).get (dj lg)=vP K (dj lg)
 R7:0<j0->∀F,dV K.files (dj lg)=H F->(y (kO ((tb:U)+1)<|ls.take j0):U)<=F.safe
def vO(K:DK)(P:Fs->Prop):Prop:=∀k,k<=y K.eP->y (iX K k)<=4000000/\∀f g,Rr K (iX K k) f g->P g
theorem vO.mono(k:vO K P)(j:∀g,P g->Q g):vO K Q:=λm h=>⟨(k m h).1,λt g q=>j g<|(k m h).2 t g q⟩
def LA(nx lg tbqq:M)(a b c d:cP)(lsqq:dX)(j0:M)(g:Fs):Prop:=∃f j,j0<=j/\j<=y lsqq/\mO g nx lg tbqq a b c d f (lsqq.take j)
theorem uG.Vr(k:uG K lg (a++b++c++d))(i:yf K lg tbqq lsqq j0)(r:mO (vw K.files) nx lg tbqq a b c d e lsqq)(h:wE ((tbqq:U)+1) lsqq):vO K (LA nx lg tbqq a b c d lsqq j0):=λt g=>by
 refine⟨(k.G5 t g).BY,λf u s=>?_⟩;obtain⟨j,v,m,n,p⟩:=r.Se h k.J5 (k.G5 t g) s;refine⟨j,v,?_,m,n⟩;by_cases q:0<j0;exact p j0 i.le (i.log q t g)<|i.R7 q;omega
theorem vO.pC(i:vO K P)(f:qc K K'):vO K' P:=λk g=>by
 have j:=lT (dD f.2.1).1 f.2.2 k;rw[j];rw[f.2.2]at g;refine⟨(i k g).1,λt h q=>(i k g).2 t h<|q.perm ?_⟩;unfold LI;rw[f.1,(dD f.2.1).2]
theorem vO.step(u:vO K P)(k:xH o K K')(t:o=.sd\/(∃w,o=.rm w)\/∃x g,o=.rn x g)(j:∀x g,o=.rn x g->x≠g)(p:qN K')(s:y K'.files<=4000000/\∀f i,Rr K' (K'.files.map aX.nm) f i->P i):vO K' P:=λv r=>by
 rcases CO k p v r with n|⟨m,h,n⟩;rw[n,bU];exact s;rw[n];exact⟨(u m h).1,λn i q=>(u m h).2 n i<|q.perm<|Nb k j t⟩
theorem vO.late(w:∀o∈l,o=.sd\/∃E,o=.rm E):∀{K K':DK},vO K P->qN K->jT l K K'->(fF K').Nodup->(∀m g,m<+:l->jT m K g->qN g->y g.files<=4000000/\∀h n,Rr g (g.files.map aX.nm) h n->P n)->vO K' P:=by
 induction l with
 |nil=>
  intro K K' t _ f _ _;exact t.pC f
 |cons o l C=>
  rintro K K' t u⟨g,k,p⟩q r;have j:∀g∈o::l,∀x f,g=.rn x f->x≠f:=(by grind);have B:∀x f,nU.rn x f∈l->x≠f:=(by grind);have i:=u.step k (j o<|by simp)<|oM B p q;refine C (by grind) (t.step k ((w o<|by simp).imp id .inl) (j o<|by simp) i<|r [o] g ⟨l,rfl⟩ ⟨g,k,qc.refl _⟩ i) i p q<|λm s D A v=>r (o::m) s ?_ ⟨g,k,A⟩ v;grind
theorem zM.step{s:ae}(w:zM K s)(j:xH o K K')(C:∀u,o≠ .ap s u)(v:∀x,o=.rn x s->zM K x)(A:(K.files.map aX.name).Nodup):zM K' s:=by
 intro g f;rcases o with B|⟨B,u⟩|B|⟨x,i⟩|B|_
 .obtain⟨L,i,h,n,p,E⟩:=j;rw[h,wB]at f;cases q:dV K.files s with
  |some F=>
   have D:=w F q;rw[q]at f;grind
  |none=>
   rw[q]at f;by_cases t:B=s
   .simp[dV,t]at f;rw[<-f];rfl
   .simp[dV,t]at f
 .obtain⟨F,x,m,h,n,p⟩:=j;rw[h,kp,dt<|λr=>C u<|by rw[<-r,<-(dq m).1]]at f;exact w g f
 .obtain⟨F,m,h,n,p⟩:=j;rw[h,kp]at f;by_cases t:F.name=s
  .rw[di t]at f;grind
  .rw[dt t]at f;exact w g f
 .obtain⟨F,r,m,h,n,p⟩:=j;rw[h,kp]at f;by_cases t:i=s
  .rw[di t]at f;have D:=v x (by rw[t]) F m;grind
  .rw[dt t]at f;by_cases k:x=s
   .rw[k,zZ A]at f;cases f
   .rw[qJ k]at f;exact w g f
 .obtain⟨F,i,m,h,n,p⟩:=j;rw[h]at f;by_cases k:B=s
  .rw[k,zZ A]at f;cases f
  .rw[qJ k]at f;exact w g f
 .obtain⟨h,n,p⟩:=j;rw[h]at f;exact w g f
theorem zM.sy{n:ae}(j:xH (.sy n) K K'):zM K' n:=by
 obtain⟨F,h,i,k,m⟩:=j;intro g f;rw[i,kp,di (dq h).1]at f;cases f;rfl
theorem zM.ops{n:ae}(k:∀o∈l,(∀m,o≠ .ap n m)/\(∀x,o≠ .rn x n)/\∀x f,o=.rn x f->x≠f):∀{K K':DK},zM K n->qN K->jT l K K'->(fF K').Nodup->zM K' n:=by
 induction l with
 |nil=>
  rintro K K' p _ g _ F hF;exact p F (by rw[<-g.1];exact hF)
 |cons o l r=>
  rintro K K' p i⟨s,g,h⟩j;have q:∀x f,nU.rn x f∈l->x≠f:=(by grind);exact r (by grind) (p.step g (k o<|by simp).1 (by grind) i.names) (i.step g (k o<|by simp).2.2<|oM q h j) h j
end
def VQ(h:j.map (λQ=>(Q.tb,Q.ks,Q.cs))=p.map (λQ=>(Q.tb,Q.ks,Q.cs)))(b:Q∈j):∃u∈p,Q.tb=u.tb/\Q.ks=u.ks/\Q.cs=u.cs:=by
 have a:(Q.tb,Q.ks,Q.cs)∈p.map (λQ=>(Q.tb,Q.ks,Q.cs)):=by rw[<-h];grind
 grind
def tC(h:j.map (λt=>(t.tb,t.ks,t.cs))=p.map (λt=>(t.tb,t.ks,t.cs)))(a:jn p):jn j:=by
 refine⟨λt d=>?_,by rw[(iH h).2.2.2];exact a.mJ,by rw[(iH h).2.2.1];exact a.GW⟩;obtain⟨u,e,_,b,c⟩:=VQ h d;rw[b,c];exact a.pure u e
def IG{e f g h:cP}(a:j.map (λt=>(t.tb,t.ks,t.cs))=e.map (λt=>(t.tb,t.ks,t.cs)))(b:p.map (λt=>(t.tb,t.ks,t.cs))=f.map (λt=>(t.tb,t.ks,t.cs)))(c:u.map (λt=>(t.tb,t.ks,t.cs))=g.map (λt=>(t.tb,t.ks,t.cs)))(d:v.map (λt=>(t.tb,t.ks,t.cs))=h.map (λt=>(t.tb,t.ks,t.cs))):bV j p u v=bV e f g h:=by
 unfold bV;rw[(iH a).2.2.1,(iH b).2.2.2,(iH c).2.2.2,(iH d).2.2.2]
def J3(e f g h a b c d:cP):Prop:=a.map bB.all=e.map bB.all/\b.map bB.all=f.map bB.all/\c.map bB.all=g.map bB.all/\d.map bB.all=h.map bB.all
structure ZT(w w':Y)(sb:M)(s:SR)(k:U)(n C:M)(K:DK)(v0 v1 v2 v3:ab)(a b c d:cP)(K':DK)(num:M)(a' b' c' d':cP):Prop where
 box:cW w' sb (s.settled v0 v1 v2 v3 n num) k
 st:ST w' sb (s.settled v0 v1 v2 v3 n num) K' [] a' b' c' d' C
 rD:Hm (vw K'.files) (num+1) num n a' b' c' d' bw []
 fx:Fx K.fx K'.fx
 rows:bV a' b' c' d'=bV a b c d
 DY:((a'++b'++c'++d').map bB.tb).Nodup
 eP:y K'.eP<=1000001
 num:s.next<=num/\num<=s.next+1000000
 aL:∀k,K'.aL s.aH k->K.aL s.aH k\/z (G w)<=k
 al:J3 a b c d a' b' c' d'
structure P9(s:SR)(num:M)(a b c d a' b' c' d':cP):Prop where
 rows:bV a' b' c' d'=bV a b c d
 num:s.next<=num/\num<=s.next+1000000
 al:J3 a b c d a' b' c' d'
 s1:jn b'
 s2:jn c'
 s3:jn d'
structure r8(s:SR)(n:M)(K K':DK)(T0:cP)(num:M)(a' b' c' d':cP)(ns:ci ae)(l2:ci nU)(KR:DK):Prop where
 nw:jT (zU s.next<|a'++b'++c'++d') K KR
 sv:jT (Rx (fS ((num:U)+1) num n [a',b',c',d'])++l2) KR K'
 pre:l2<+: .sd::ns.map .rm
 Z8:cX (vw KR.files) ik=none
 new:∀j,mO (ve (ow (vw KR.files) (dE,fS ((num:U)+1) num n [a',b',c',d']))<|ns.take j) (num+1) num n a' b' c' d' bw []
 gone:∀m∈ns,¬pY (a'++b'++c'++d') m/\m≠dj num
 pm:∀t∈a'++b'++c'++d',(t∈T0\/s.next<=t.num)/\t.num<num
 O6:num<=s.next+1000000/\(cX (vw K.files) dE=none->num<=3)
 eP:y K'.eP<=y K.eP+5000000
def DG(s:SR)(n:M)(K a:DK)(c:cP)(num:M)(d e f g:cP)(i:ci ae)(h:ci nU):Prop:=∃b,r8 s n K a c num d e f g i h b
def DG.pre{c:DK}{num:M}{d:cP}{i:ci ae}{e:ci nU}(h:DG W b x c j num p u v d i e)(a:qc g x):DG W b g c j num p u v d i e:=by
 obtain⟨k,h⟩:=h;exact⟨k,{h with nw:=h.nw.pre a,O6:=⟨h.O6.1,by rw[<-a.1];exact h.O6.2⟩,eP:=by rw[<-a.2.2];exact h.eP}⟩
def Ij(s:SR)(K b:DK):Prop:=∃l a,LF s.next a l/\jT l K b/\a<=s.next+1000000/\(cX (vw K.files) dE=none->a<=3)/\y b.eP<=y K.eP+5000000
def Ij.pre{b:DK}(k:Ij W x b)(a:qc g x):Ij W g b:=by
 obtain⟨l,j,c,d,e,h,i⟩:=k;exact⟨l,j,c,d.pre a,e,by rw[<-a.1];exact h,by rw[<-a.2.2];exact i⟩
def CmF(w h:Y)(a:M)(s:SR)(m:U)(p F:M)(K:DK)(n:ci NT)(q r t u:ab)(v A B C i j k l:cP)(D:Ending):Prop:=(D=aN .nilIface/\∃b num c d e f,ZT w h a s m p F K q r t u v A B C b num c d e f/\Z (λm=>Wr s.aH K n m\/m=a) w h/\∃g,DG s p K b (i++j++k++l) num c d e f g<|.sd::g.map .rm)\/∃E b,D=aN E/\X5 w h a s m K b n E/\(Ij s K b\/∃num c d e f g o,DG s p K b (i++j++k++l) num c d e f g o/\P9 s num v A B C c d e f)
def Re(e df cd ce:M)(ps:ci NT)(v0 v1 v2 v3:ab)(bg bh bf bi j l m n:cP)(cc:dX)(dT:cW a b W k)(d:LS a W.aH b e g (j++l++m++n) ps df v0 v1 v2 v3 bg bh bf bi)(cq:Ey a b 10 [(W.l0,j),(W.l1,l),(W.l2,m),(W.l3,n)])(hd:bY a W.aH g)(bT:¬g.aL W.aH b)(C:Hm (vw g.files) W.next W.log ce j l m n W.dO cc)(dv:y (kO ((ce:U)+1) cc)<=200000)(hn:cd<1000000000000000)(dr:W.next<=900000000000000)(cs:y g.eP<=10000000000)(bL:y (j++l++m++n)<=1000000)(br:∃x cd bf,W.memory=I x cd bf)(cp:∀aF,aF=W.l0\/aF=W.l1\/aF=W.l2\/aF=W.l3->∀k,cI aF=H k->LB W.aH b e g k)(cx:EH g.fx)(aU:cX (vw g.files) dE=none->y (bg++bh++bf++bi)<=1):cY bA 98 #[aD b,dL #[v0,v1,v2,v3],aG cd] a λp w'=>CmF a w' b W k cd df g ps v0 v1 v2 v3 bg bh bf bi j l m n p:=by
 have bl:=d.count;have D:∀t∈j++l++m++n,t.num<W.next:=λt c=>(C.low t c).1;have bq:∀t∈j++l++m++n,∀u∈j++l++m++n,t.num=u.num->t=u:=by intro t c u O p;obtain⟨ef,hi,rfl⟩:=ia.1 c;obtain⟨db,hj,rfl⟩:=ia.1 O;have hn:=cV.1 C.oY;grind
 have ap:∀w,W.next<=w->cX (vw g.files) (fG w)=none:=by
  intro w v;cases q:cX (vw g.files) (fG w)with
  |none=>rfl
  |some A=>
   rcases C.names _ _ q with p|⟨p,_⟩|⟨t,c,p⟩
   .grind[mV]
   .grind[gI]
   grind[oh]
 have ch:∀h,Z aw a h->CF h W.aH b e g (j++l++m++n) ps (bg++bh++bf++bi) W.next 201000000000:=λh c=>{le:=aB d.le c.size,aL:=d.aL,Mj:=d.Mj,xt:=λt f=>(by simp only[aA]at f;rcases f with((q|q)|q)|q<;>first|exact d.x0 t q|exact d.x1 t q|exact d.x2 t q|exact d.x3 t q),nodup:=d.nodup,apart:=d.apart,news:=λba hp=>⟨(d.news ba hp).1.aj c<|λ_ _ q=>q,(d.news ba hp).2⟩,inj:=bq,low:=D,fresh:=ap,fR:=d.fR,mz:=d.mz,small:=by grind,nx:=by omega,room:=cx,tu:=hd.tu,eP:=cs}
 have ad:∀h,(lC W (j++l++m++n) h).Nodup/\∀w∈lC W (j++l++m++n) h,w≠dE/\(∃A,cX (vw g.files) w=H A)/\Nm w:=by
  intro h;have al:(mH (j++l++m++n) h).Sublist (j++l++m++n):=eY;have bt:((mH (j++l++m++n) h).map<|λt=>fG t.num).Nodup:=by
   have r:((mH (j++l++m++n) h).map bB.num).Nodup:=C.oY.sublist<|al.map _;unfold List.Nodup at r|-;rw[gW]at r|-;grind[oh]
  have aV:∀w∈(mH (j++l++m++n) h).map (λt=>fG t.num),w≠dE/\(∃A,cX (vw g.files) w=H A)/\Nm w:=by
   intro w v;obtain⟨t,c,rfl⟩:=bH.1 v;exact⟨mV _,⟨_,C.pm t<|al.subset c⟩,Ga (by have:=(C.low t<|al.subset c).1;omega)⟩
  unfold lC;cases S:W.dO with
  |false=>
   rw[dt (by simp),du];grind
  |true=>
   rw[di rfl];refine⟨?_,λw v=>?_⟩
   .rw[jQ,gQ];grind[gI]
   .rcases aA.1 v with q|q
    .rw[cL]at q;rw[q];exact⟨ke _,(C.log S).elim<|λ_ q=>⟨_,q.2⟩,Aw (by have:=C.lt;omega)⟩
    .exact aV w q
 refine(Oo e df cd 201000000000 ps v0 v1 v2 v3 bg bh bf bi j l m n dT d ch cq hd bT hn (by have:=C.lt;omega) bL (λw A v p=>?_) br cp ad).mono ?_;rcases C.names _ _ v with q|⟨q,_⟩|⟨t,_,q⟩;exact qw<|q.symm.trans p;(grind[ut]);grind[pF]
 have cw:W.next<=18446744073709551616:=by omega
 have late:∀{w1 wr:Y}{B:DK}{h E F K L:cP}{num:M},CM w1 W.aH b e g (j++l++m++n) ps (bg++bh++bf++bi) W.next 201000000000 wr B h (y<|bg++bh++bf++bi) num->h=E++F++K++L->E.map (λt=>(t.tb,t.ks,t.cs))=bg.map (λt=>(t.tb,t.ks,t.cs))->F.map (λt=>(t.tb,t.ks,t.cs))=bh.map (λt=>(t.tb,t.ks,t.cs))->K.map (λt=>(t.tb,t.ks,t.cs))=bf.map (λt=>(t.tb,t.ks,t.cs))->L.map (λt=>(t.tb,t.ks,t.cs))=bi.map (λt=>(t.tb,t.ks,t.cs))->∀{K':DK}{l2:ci nU},jT (Rx (fS ((num:U)+1) num cd [E,F,K,L])++l2) B K'->l2<+: .sd::(lC W (j++l++m++n) h).map .rm->r8 W cd g K' (j++l++m++n) num E F K L (lC W (j++l++m++n) h) l2 B/\P9 W num bg bh bf bi E F K L:=by
  intro w1 wr B h E F K L num o f ea eb ec ed K' l2 au av;obtain⟨gs,aa,ac⟩:=o.files;have cv:cX (vw B.files) ik=none:=by
   cases q:cX (vw B.files) ik with
   |none=>rfl
   |some A=>
    rw[aa,gu]at q;cases q1:cX (vw g.files) ik with
    |some dk=>
     rcases C.names _ _ q1 with p|⟨p,_⟩|⟨t,_,p⟩
     .exact absurd p.symm qw
     .exact absurd p.symm<|ut _
     .exact absurd p.symm<|pF _
    |none=>
     rw[q1,jv]at q;obtain⟨u,_,p,_⟩:=ac _<|oD q;grind[Prod.mk.injEq,pF]
  have cm:cX (vw g.files) dE=none->num<=3:=λq=>by
   have r:=aU q;have Q:=o.kU.2;rcases C.state with p|⟨_,_,_,_,_,p,_⟩
   .rw[p]at q;cases q
   .omega
  have bs:y K'.eP<=y g.eP+5000000:=by
   have r:=zo au;have Q:=av.length_le;have h3:=o.eP;have h4:y (lC W (j++l++m++n) h)<=1000001:=by
    unfold lC;rw[af,bU];have h5:y (mH (j++l++m++n) h)<=y (j++l++m++n):=eW _ _;split<;>simp only[aO,dB]<;>omega
   simp only[Rx,af,aO,dB,bU]at r Q h3 bl;omega
  refine⟨⟨by rw[<-f];exact o.ops,au,av,cv,λdb=>?_,λw v=>?_,λt c=>?_,⟨by have:=o.kU.2;grind,cm⟩,bs⟩,?_⟩;rotate_left
  .have dk:W.log<num:=by have:=C.lt;have:=o.kU.1;omega
   rw[<-f];unfold lC at v;rcases aA.1 v with P|P
   .cases S:W.dO with
    |false=>rw[S]at P;simp at P
    |true=>
     rw[S,di rfl,cL]at P;rw[P];refine⟨?_,λq=>?_⟩
     .rintro(q|⟨t,_,q⟩)
      .exact ke _ q
      .exact gI _ _ q.symm
     grind[yN]
   .obtain⟨t,c,p⟩:=bH.1 P;rw[<-p];refine⟨?_,gI _ _⟩;rintro(q|⟨u,O,q⟩)
    .exact mV _ q
    .have e2:=oh q;unfold mH at c;rw[eK]at c;have:h.any (λu=>u.num==t.num)=cf:=(by grind);rw[this]at c;simp at c
  .rw[<-f]at c;rcases o.OV t c with q|⟨ba,_,_,_,q,q2⟩
   .exact⟨.inl q,by have:=D t q;have:=o.kU.1;omega⟩
   grind
  .exact⟨IG ea eb ec ed,⟨o.kU.1,by have:=o.kU.2;grind⟩,⟨(iH ea).2.2.1,(iH eb).2.2.1,(iH ec).2.2.1,(iH ed).2.2.1⟩,tC eb d.s1,tC ec d.s2,tC ed d.s3⟩
  have bv:num<=W.next+1000000:=by have:=o.kU.2;grind
  obtain⟨bb,hj⟩:∃bb,bb=ve (ow (vw B.files) (dE,fS ((num:U)+1) num cd [E,F,K,L])) ((lC W (j++l++m++n) h).take db):=⟨_,rfl⟩;rw[<-hj];have bt:((ow (vw B.files) (dE,fS ((num:U)+1) num cd [E,F,K,L])).map (·.1)).Nodup:=QB o.aH.nodup;have dm:=ad h;have cj:∀u∈h,cX (vw B.files) (fG u.num)=H (pu u.cs)/\Cj u/\u.num<num:=λu O=>by
   rcases o.OV u O with q|⟨ba,hp,_,q,_,q2⟩
   .have:=o.nh u q;exact⟨this.file,⟨this.ks,this.pure,this.idx,this.small,this.num⟩,by have:=D u q;have:=o.kU.1;omega⟩
   .exact⟨q.file,⟨q.ks,q.pure,q.idx,q.small,q.num⟩,q2⟩
  have bx:∀u∈h,fG u.num∉(lC W (j++l++m++n) h).take db:=λu O q=>by
   have q:=gC q;unfold lC at q;rcases aA.1 q with P|P
   .grind[mem_singleton,gI]
   .obtain⟨t,c,p⟩:=bH.1 P;have e2:=oh p;unfold mH at c;rw[eK]at c;have:h.any (λu=>u.num==t.num)=cf:=(by grind);rw[this]at c;simp at c
  have al:∀w A,cX (bb) w=H A->w=dE\/cX (vw B.files) w=H A:=λw A v=>by
   rw[hj]at v;obtain⟨_,Q⟩:=rE bt v;rw[lI]at Q;by_cases q:dE=w
   .grind
   grind
  have aV:∀w A,cX (vw B.files) w=H A->w=dE\/(w=dj W.log)\/∃u,u<num/\w=fG u:=λw A v=>by
   rw[aa,gu]at v;cases P:cX (vw g.files) w with
   |none=>
    rw[P,jv]at v;obtain⟨u,O,p,_⟩:=ac _<|oD v;grind
   |some bk=>
    rcases C.names _ _ P with p|⟨p,_⟩|⟨t,c,p⟩
    .exact .inl p
    .grind
    .exact .inr<|.inr ⟨t.num,by have:=D t c;have:=o.kU.1;omega,p⟩
  have cS:W.log<num:=by have:=C.lt;have:=o.kU.1;omega
  have ca:cX (bb) dE=H (fS ((num:U)+1) num cd [E,F,K,L]):=by
   rw[hj,mW (by grind),lI,di rfl]
  have bm:OU 4000000 (bb):=by
   refine(((C.BY bL).Qy (nx:=W.next) (tp:=W.next+1000000) (fs':=vw B.files)<|λw A q=>?_).one (x:=dE) (fs':=bb)<|by grind).mono (by omega);rw[aa,gu]at q;cases P:cX (vw g.files) w with
   |none=>
    rw[P,jv]at q;obtain⟨u,O,p,_⟩:=ac _<|oD q;simp only[io]at p;refine .inl<|.inr ⟨u.num,?_,?_,p.1⟩
    .grind
    grind
   |some bk=>
    rw[P,Option.some_or]at q;exact .inr q
  refine⟨?_,bm,λq=>?_,λ_=>?_,.inl (by rw[ca];rfl),λq=>(by cases q),λ_=>rfl,λt c=>?_,by rw[<-f];exact o.oY,λt c=>?_,by omega,λt c=>?_⟩
  .intro w A v;rcases al w A v with p|p
   .exact .inl p
   .rcases aV w A p with p|p|⟨u,r,p⟩
    .exact .inl p
    .exact .inr<|.inr<|by grind
    .exact .inr<|.inr ⟨u,by omega,.inl p⟩
  .rw[ca]at q;cases q
  .cases q:cX (bb) (dj num)with
   |none=>rfl
   |some A=>
    rcases al _ A q with p|p
    .grind[ke]
    .rcases aV _ A p with p|p|⟨u,_,p⟩
     .grind[ke]
     .have:=yN p;omega
     .exact absurd p.symm<|gI _ _
  .rw[<-f]at c;rw[hj,mW<|bx t c,lI,dt<|λq=>mV _ q.symm];grind
  .rw[<-f]at c;have:=(cj t c).2.2;omega
  grind
 rintro p w'(⟨rfl,w1,wr,B,K8,h,E,F,K,L,num,cb,o,f,ea,eb,ec,ed,ck,cl,bd,bu,cr,co,ax,bn,cn,bE⟩|⟨aF,K',rfl,hE,⟨eg,hl,ho,bs⟩|⟨w1,wr,B,h,E,F,K,L,num,l2,cb,o,f,ea,eb,ec,ed,av,au⟩⟩);rotate_left
 .exact .inr ⟨aF,K',rfl,hE,.inl ⟨eg,_,hl,ho,by grind,λq=>by
   have r:=aU q;rcases C.state with p|⟨_,_,_,_,_,p,_⟩
   .rw[p]at q;cases q
   .omega,by omega⟩⟩
 exact .inr ⟨aF,K',rfl,hE,.inr ⟨num,E,F,K,L,_,l2,⟨B,(late o f ea eb ec ed au av).1⟩,(by grind)⟩⟩;have dx:=cb.size;have dn:=d.le;have cT:=d.Mj;have cu:∀aF,qZ a W.aH b e g aF->∀k,cI aF=H k->¬(Wr W.aH g ps k\/k=b):=by rintro aF hv k s(q|q);(rcases q with q|⟨ba,hp,q|q⟩;exact(hv k s).2.1 q;have al:=(d.news ba hp).1;rcases(hv k s).2.2.2 with P|⟨aV,fr,P⟩;have:=(al.lt k<|.inl q).1;omega;exact iQ P al.mem.box (by decide) q;have al:=(d.news ba hp).1;rcases(hv k s).2.2.2 with P|⟨aV,fr,P⟩;have:=(al.lt k<|.inr<|.inr q).1;omega;obtain⟨bb,hc⟩:=eT al.data (k:=ba.x) rfl;grind);exact(hv k s).2.2.1 q
 have ao:∀k,k<z (G a)->¬g.aL W.aH k->k≠b->Aside w' K8 W.aH b k:=λk r Q h3=>
  ⟨ai r ax.size,(by grind),h3⟩
 have i:∀k,LB W.aH b e g k->k<z (G a)/\¬g.aL W.aH k/\k≠b:=λk s=>⟨by have:=s.1;omega,s.2.1,s.2.2⟩;have ds:∀ba∈ps,∀k,ba.has k->k<z (G a)/\¬g.aL W.aH k/\k≠b:=λba hp k s=>by have r:=(d.news ba hp).1.lt k s;exact⟨r.2,λq=>by have:=d.aL k q;omega,by omega⟩
 have V:∀u∈h,fG u.num∉lC W (j++l++m++n) h:=by intro u O q;unfold lC at q;rcases aA.1 q with P|P;(grind[mem_singleton,gI]);obtain⟨t,c,p⟩:=bH.1 P;have e2:=oh p;unfold mH at c;rw[eK]at c;have:h.any (λu=>u.num==t.num)=cf:=rj.2 (by grind);rw[this]at c;simp at c
 have bo:∀w,w∉lC W (j++l++m++n) h->w≠dE->cX (vw K8.files) w=cX (vw B.files) w:=λw r Q=>by rw[bd,mW r,lI,dt<|λq=>Q q.symm]
 have bc:∀u∈h,∃dc:M->Prop,sD wr W.aH (vw B.files) dc u/\(∀k,dc k->k<z (G a)/\¬g.aL W.aH k/\k≠b)/\u.num<num:=λu O=>by rcases o.OV u O with q|⟨ba,hp,_,q,_,q2⟩;exact⟨_,o.nh u q,i,by have:=D u q;have:=o.kU.1;omega⟩;grind
 have hO:∀u∈h,sD w' W.aH (vw K8.files) (Aside w' K8 W.aH b) u:=λu O=>by obtain⟨dc,ho,hA,_⟩:=bc u O;have r:=ho.Dj (w':=w') (by grind);obtain⟨bb,aV,al,v,ha⟩:=r.mem;refine⟨(by grind),ao _ (hA _ r.loc).1 (hA _ r.loc).2.1 (hA _ r.loc).2.2,r.ks,r.num,r.pure,r.idx,r.small,?_⟩;rw[bo _ (V u O)<|mV _];exact r.file
 have bv:num<=W.next+1000000:=by have:=o.kU.2;grind
 have N:∀aF(d c:cP),qZ a W.aH b e g aF->Row a 1 aF (y d) (d.map bB.ptr)->c.map (λt=>(t.tb,t.ks,t.cs))=d.map (λt=>(t.tb,t.ks,t.cs))->(∀t∈c,t∈h)->LvO w' K8 W.aH b aF c:=λaF d c hv hr he f=>by obtain⟨e1,e2,_,_⟩:=iH he;refine⟨?_,λk s=>ao k (hv k s).1 (hv k s).2.1 (hv k s).2.2.1,(by grind)⟩;rw[e1,e2];exact ax.row hr<|λk s=>⟨cu aF hv k s,(hv k s).1⟩
 have bp:∀k,LB W.aH b e g k->w'.heap[k]?=a.heap[k]?:=λk s=>ax.block k (by have:=s.1;omega) (by
  rintro(q|q)
  .rcases q with q|⟨ba,hp,q|q⟩
   .exact s.2.1 q
   .have:=((d.news ba hp).1.lt k<|.inl q).1;have:=s.1;omega
   .have:=((d.news ba hp).1.lt k<|.inr<|.inr q).1;have:=s.1;omega
  grind)
 have cB:∀t∈E,t∈h:=λt c=>by rw[f];simp[c]
 have cE:∀t∈F,t∈h:=λt c=>by rw[f];simp[c]
 have cM:∀t∈K,t∈h:=λt c=>by rw[f];simp[c]
 have cN:∀t∈L,t∈h:=(by grind);have an:=o.same;rw[aY]at an;refine .inl ⟨rfl,K8,num,E,F,K,L,⟨ck,?_,?_,cn,IG ea eb ec ed,?_,?_,⟨o.kU.1,bv⟩,bn,(iH ea).2.2.1,(iH eb).2.2.1,(iH ec).2.2.1,(iH ed).2.2.1⟩,ax,_,B,(late o f ea eb ec ed bE<|gy _).1⟩;exact{mem:=⟨rfl,.inl ⟨rfl,rfl⟩⟩,tg:=λk s=>(by cases s),l0:=N v0 bg E d.b0 d.r0 ea cB,l1:=N v1 bh F d.b1 d.r1 eb cE,l2:=N v2 bf K d.b2 d.r2 ec cM,l3:=N v3 bi L d.b3 d.r3 ed cN,aH:=cl,xM:=λq=>(bn b q).elim bT (λP=>by omega),kI:=⟨λdb hj=>(dy (w:=a)<|bp _ d.fR).trans<|d.steps db hj,d.pow.dG<|bp _ d.mz,ao _ (i _ d.fR).1 (i _ d.fR).2.1 (i _ d.fR).2.2,ao _ (i _ d.mz).1 (i _ d.mz).2.1 (i _ d.mz).2.2⟩,sI:=(by rw[(iH ea).2.2.2,(iH eb).2.2.2,(iH ec).2.2.2,(iH ed).2.2.2];have:=d.sI;grind),jV:=d.jV,mJ:=eh.nil,jf:=by simp,s1:=tC eb d.s1,s2:=tC ec d.s2,s3:=tC ed d.s3}
 .have al:∀t∈E++F++K++L,t.num<num:=λt c=>by
   rw[<-f]at c;grind
  refine{names:=?_,state:=.inl ?_,log:=λq=>(by cases q),um:=λ_=>rfl,pm:=?_,oY:=by rw[<-f];exact o.oY,low:=λt c=>⟨by have:=al t c;omega,by have:=al t c;omega⟩,lt:=by omega,jf:=?_}
  .intro w A v;rw[bd]at v;obtain⟨r,Q⟩:=rE bu v;rw[lI]at Q;by_cases q:dE=w
   .grind
   rw[dt q]at Q;obtain⟨gs,aa,ac⟩:=o.files;rw[aa,gu]at Q;cases P:cX (vw g.files) w with
   |none=>
    rw[P,jv]at Q;obtain⟨u,O,p,_⟩:=ac _<|oD Q;grind
   |some bk=>
    rcases C.names _ _ P with p|⟨p,S⟩|⟨t,c,p⟩
    .grind
    .refine absurd ?_ r;unfold lC;rw[S,di rfl,p];simp
    .by_cases aV:h.any (λu=>u.num==t.num)=cf
     .grind
     .refine absurd ?_ r;unfold lC;rw[p];refine aA.2<|.inr<|bH.2 ⟨t,?_,rfl⟩;unfold mH;rw[eK];grind
  .rw[bd,mW (by grind),lI,di rfl];rfl
  .intro t c;rw[<-f]at c;exact(hO t c).file
  .intro t c;rw[<-f]at c;have:=hO t c;exact⟨this.ks,this.pure,this.idx,this.small,this.num⟩
 rw[<-f,Wy (T:=bg++bh++bf++bi) (i:=y<|bg++bh++bf++bi) (by rw[aY];exact an),aY];exact d.nodup;rw[cr];unfold lC;rw[af,bU];have r:y (mH (j++l++m++n) h)<=y (j++l++m++n):=eW _ _;grind
def tJ(h:Aside a g b c i):LB b c (z<|G a) g i:=⟨h.lt,h.aL,h.ne⟩
def sD.Pa{B:fh}(h:sD a b D o Q)(e:∀k,o k->B k):sD a b D B Q:=by
 obtain⟨f,d,c,i,g⟩:=h.mem;exact⟨⟨f,d,c,i,e _ g⟩,e _ h.loc,h.ks,h.num,h.pure,h.idx,h.small,h.file⟩
def ST.L1{C C':M}(h:ST a b W g e j p u v C)(l:b<z (G a))(f:((j++p++u++v).map bB.tb).Nodup)(m:y (cA j)+y (cA p)+y (cA u)+y (cA v)<=C')(i:C'<=1000000):LS a W.aH b (z<|G a) g (j++p++u++v) [] C' W.l0 W.l1 W.l2 W.l3 j p u v where
 D:=h.TC
 tu:=h.aH.tu
 le:=ag _
 aL:=h.aH.lt
 Mj:=l
 steps:=h.kI.steps
 pow:=h.kI.pow
 fR:=tJ h.kI.fR
 mz:=tJ h.kI.mz
 qa:=λt d=>by
  simp only[aA]at d;rcases d with((q|q)|q)|q
  .exact(h.l0.each t q).Pa<|λ_=>tJ
  .exact(h.l1.each t q).Pa<|λ_=>tJ
  .exact(h.l2.each t q).Pa<|λ_=>tJ
  .exact(h.l3.each t q).Pa<|λ_=>tJ
 news:=by simp
 apart:=List.Pairwise.nil
 r0:=h.l0.row
 r1:=h.l1.row
 r2:=h.l2.row
 r3:=h.l3.row
 b0:=λk c=>⟨(h.l0.loc k c).lt,(h.l0.loc k c).aL,(h.l0.loc k c).ne,.inl (h.l0.loc k c).lt⟩
 b1:=λk c=>⟨(h.l1.loc k c).lt,(h.l1.loc k c).aL,(h.l1.loc k c).ne,.inl (h.l1.loc k c).lt⟩
 b2:=λk c=>⟨(h.l2.loc k c).lt,(h.l2.loc k c).aL,(h.l2.loc k c).ne,.inl (h.l2.loc k c).lt⟩
 b3:=λk c=>⟨(h.l3.loc k c).lt,(h.l3.loc k c).aL,(h.l3.loc k c).ne,.inl (h.l3.loc k c).lt⟩
 x0:=λt d=>.inl<|by simp[d]
 x1:=λt d=>.inl<|by simp[d]
 x2:=λt d=>.inl<|by simp[d]
 x3:=λt d=>.inl<|by simp[d]
 nodup:=f
 s1:=h.s1
 s2:=h.s2
 s3:=h.s3
 sI:=m
 jV:=i
def LS.G6{C n:ab}{s w:cP}{p:NT}(h:LS a b c i g j [] l d t L C u v s w)(B:Z aw a f)(A:p.Ok f (z<|G a))(r:OP p.t)(x:f.ownsRow (z<|G a) 179 1 n (y<|u++[p.t]) ((u++[p.t]).map bB.ptr))(F:y (cA u)+y (cA v)+y (cA s)+y (cA w)+y p.t.all<=l):LS f b c i g j [p] l n t L C (u++[p.t]) v s w:=by
 have h':=h.aj (B.mono cJ)<|(nR b g).fc h.D B cJ;refine{h' with news:=?_,apart:=by simp,r0:=dR x,b0:=wZ x h.aL h.Mj h.le,x0:=?_,x1:=λk q=>(h.x1 k q).more [p],x2:=λk q=>(h.x2 k q).more [p],x3:=λk q=>(h.x3 k q).more [p],nodup:=?_,sI:=?_};intro q e;rw[cL]at e;subst e;exact⟨A.base h.le,r⟩;intro k q;rcases aA.1 q with q|q;exact(h.x0 k q).more [p];rw[cL]at q;exact .inr ⟨p,by simp,q.symm⟩;(have e:(u++[p.t]++v++s++w).Perm (p.t::(u++v++s++w)):=by simp_all);rw[(e.map bB.tb).nodup_iff,bR,gQ];refine⟨λq=>?_,h.nodup⟩;obtain⟨k,m,K⟩:=bH.1 q;have D:=A.new;(have E:k.tb<z (G a):=by simp only[aA]at m;rcases m with((o|o)|o)|o;exact XT.DM h<|h.x0 k o;exact XT.DM h<|h.x1 k o;exact XT.DM h<|h.x2 k o;exact XT.DM h<|h.x3 k o);omega;rw[fW];(have:cA [p.t]=p.t.all:=by simp[cA]);rw[this,af];omega
def Xi(h:OT a f b e m c i l F)(g:e≠[])(j:∀x∈e,x.Good)(k:eh e)(n:y e<=100):NT.Ok f (z<|G a) ⟨⟨b,bX 0 m,m,0⟩,c,i,l,F⟩/\OP ⟨b,bX 0 m,m,0⟩/\bB.all ⟨b,bX 0 m,m,0⟩=e:=by
 have d:m.flatten=e:=h.pieces.flat;refine⟨⟨rfl,rfl,by show qM m.flatten m;rw[d];exact h.pieces,h.mem,h.data,h.fF,h.new⟩,⟨h.pieces.kK g j k,h.pieces.idx g j k n,?_⟩,d⟩;have o:=h.pieces.data;have p:=h.pieces.length;grind
def LS.C8{w:ci NT}{x:ab}{E:cP}(h:LS a b c i g j w l d t L x p u v E):∃k,LS a b c i k j w l d t L x p u v E/\bY a b k/\qc g k/\(∀n,k.aL b n->g.aL b n)/\Fx g.fx k.fx:=by
 obtain⟨B,k,r,s,o,A⟩:=h.D;have f:∀n,LB b c i g n->LB b c i k n:=λn m=>⟨m.1,λq=>m.2.1<|o n q,m.2.2⟩;have e:∀r,qZ a b c i g r->qZ a b c i k r:=λr f n m=>⟨(f n m).1,λq=>(f n m).2.1<|o n q,(f n m).2.2⟩;refine⟨k,{h with D:=KU r r.lt,tu:=r.tu,aL:=λn m=>h.aL n<|o n m,fR:=f _ h.fR,mz:=f _ h.mz,qa:=λF C=>?_,b0:=e _ h.b0,b1:=e _ h.b1,b2:=e _ h.b2,b3:=e _ h.b3},r,s,o,A⟩;rw[s.1];exact(h.qa F C).Pa f
def LS.other{N:ci NT}{O:ab}{aa:cP}(h:LS a b c l g j N F d t L O p u v aa)(r:Z o a f)(C:∀k,o k->l<=k/\∃w x,a.heap[k]?=H (ay w 78 x)):LS f b c l g j N F d t L O p u v aa:=by
 have hF:∀k,o k->¬(nR b g).F k:=λk e q=>by have:=h.aL k q;have:=(C k e).1;omega
 have s:∀k,LB b c l g k->¬o k:=λk e q=>by have:=e.1;have:=(C k q).1;omega
 have m:∀B,qZ a b c l g B->∀k,cI B=H k->¬o k:=λB A k e q=>by obtain⟨V,w,x,q2⟩:=C k q;rcases(A k e).2.2.2 with S|⟨E,P,S⟩;omega;grind
 have n:∀B,qZ a b c l g B->qZ f b c l g B:=λB A k e=>by obtain⟨E,P,S,V⟩:=A k e;exact⟨ai E r.size,P,S,V.imp id<|λ⟨w,x,a⟩=>⟨w,x,(r.block k E<|m B A k e).trans a⟩⟩
 refine{h with D:=(nR b g).fc h.D r hF,le:=aB h.le r.size,steps:=λad W=>r.cell (h.steps ad W) (s _ h.fR)<|ai h.fR.1 h.le,pow:=h.pow.dG<|r.block _ (ai h.mz.1 h.le)<|s _ h.mz,qa:=λal Q=>(h.qa al Q).Dj<|λk e=>r.block k (ai e.1 h.le)<|s k e,news:=λac K=>⟨?_,(h.news ac K).2⟩,r0:=r.row h.r0<|λk e=>⟨m _ h.b0 k e,(h.b0 k e).1⟩,r1:=r.row h.r1<|λk e=>⟨m _ h.b1 k e,(h.b1 k e).1⟩,r2:=r.row h.r2<|λk e=>⟨m _ h.b2 k e,(h.b2 k e).1⟩,r3:=r.row h.r3<|λk e=>⟨m _ h.b3 k e,(h.b3 k e).1⟩,b0:=n _ h.b0,b1:=n _ h.b1,b2:=n _ h.b2,b3:=n _ h.b3};exact Vj.other (h.news ac K).1 r<|by grind
structure SV(w:Y)(sb:M)(s:SR)(k:U)(lb:M)(K:DK)(T0:cP)(C n:M)(ms:eF)(R0:U->ae->Option ae)(wr:Y)(v0 v1 v2 v3:ab)(a b c d:cP)(ps:ci NT):Prop where
 ls:LS wr s.aH sb (z<|G w) K T0 ps C v0 v1 v2 v3 a b c d
 lb:wr.heap[lb]?=H (ay #[v0,v1,v2,v3] 78 (0,0))
 pr:PR n (bV a b c d)
 rl:∀t,(t∈ms\/(n:U)<=t)->∀q,eM t (bV a b c d) q=R0 t q
 box:cW wr sb s k
 aj:Z (K.aL s.aH) w wr
 fst:T0=[]->y a+y b+y c+y d<=1
def Ly(w:Y)(a:M)(s:SR)(o:U)(d:M)(K:DK)(c:cP)(C p:M)(e:eF)(b:U->ae->Option ae)(wr:Y):Prop:=∃g h i j k l m n f,SV w a s o d K c C p e b wr g h i j k l m n f
def so(w:Y)(a i:M):M:=match aW w (R a i)with
 |some (.slice _ n _)=>n
 |_=>0
def BI{x:Option Addr}{c:M}(h:aW a (R b i)=H (I x l c)):so a b i=l:=by
 unfold so;rw[h]
def SV.put{L wr d:Y}{A:U->ae->Option ae}{C D E K u0 u1 u2 u3:ab}{aa b ac ad o r s t:cP}{V m:ci NT}(u:SV L c W k i g j l F n A wr C D E K aa b ac ad V)(O:z (G L)<=i)(w:¬g.aL W.aH c)(N:LS d W.aH c (z<|G L) g j m l u0 u1 u2 u3 o r s t)(P:PR F (bV o r s t))(Q:∀x,(x∈n\/(F:U)<=x)->∀q,eM x (bV o r s t) q=eM x (bV aa b ac ad) q)(e:Z (g.aL W.aH) wr d)(hz:j=[]->False):d.heap[i]?=H (ay #[C,D,E,K] 78 (0,0))/\SV L c W k i g j l F n A (cH (cH (cH (cH d (R i 0) u0) (R i 1) u1) (R i 2) u2) (R i 3) u3) u0 u1 u2 u3 o r s t m:=by
 have v:¬g.aL W.aH i:=λq=>by have:=u.ls.aL i q;omega
 have h:=(e.block i (ak u.lb) v).trans u.lb;have a:Z (λq=>q=i) d (cH (cH (cH (cH d (R i 0) u0) (R i 1) u1) (R i 2) u2) (R i 3) u3):=(((iT i d).setCell _ _ _<|.inl rfl).setCell _ _ _<|.inl rfl).setCell _ _ _<|.inl rfl;have S:c<z (G L):=u.ls.Mj;refine⟨h,N.other a (λq hq=>by grind),Gk h,P,λx e q=>(Q x e q).trans<|u.rl x e q,?_,?_,?_⟩;have B:=(e.block c (ak u.box) w).trans u.box;exact(a.block c (ak B)<|λq=>by omega).trans B;exact(u.aj.trans e<|λ_ q=>.inl q).trans a (by grind);grind
def OL.aL{h:gL}(k:OL a g c W h)(e:Z (g.aL W.aH) a A):OL A g c W h:=by
 obtain⟨b,i,j,d⟩:=k.ex;exact⟨⟨b,i,j.dG<|e.block _ d.lt d.aL,ai d.lt e.size,d.aL,d.ne⟩,k.len⟩
def LS.E3{w wr:Y}{m:ci NT}{o e:ab}{s:cP}(r:LS wr b c i g j m l d t L o p u v s)(h:Z aw wr w)(a:w.ownsRow (z<|G wr) 74 1 e (y n) (n.map<|Value.int .u64)):LS w b c i g j m l d t L o p u v s/\Row w 1 e (y n) (n.map<|Value.int .u64)/\∀k,cI e=H k->k<z (G w)/\¬g.aL b k:=⟨r.aj (h.mono cJ)<|(nR b g).fc r.D h cJ,dR a,λk f=>⟨(bN a k f).2,λq=>by have:=r.aL k q;have:=r.le;have:=(bN a k f).1;omega⟩⟩
structure Lx(w w':Y)(sb:M)(s:SR)(k:U)(n C:M)(K:DK)(ms:eF)(R0:U->ae->Option ae)(v0 v1 v2 v3:ab)(K':DK)(num:M)(a' b' c' d':cP):Prop where
 box:cW w' sb (s.settled v0 v1 v2 v3 n num) k
 st:ST w' sb (s.settled v0 v1 v2 v3 n num) K' [] a' b' c' d' C
 rD:Hm (vw K'.files) (num+1) num n a' b' c' d' bw []
 pr:PR n (bV a' b' c' d')
 rl:∀t,(t∈ms\/(n:U)<=t)->∀q,eM t (bV a' b' c' d') q=R0 t q
 DY:((a'++b'++c'++d').map bB.tb).Nodup
 eP:y K'.eP<=1000001
 num:s.next<=num/\num<=s.next+1000000
 fa:fO w w' s.aH sb K K'
def Lv(a:U)(b c d:cP):Prop:=(y b:U)<a/\(y c:U)<=a/\(y d:U)<=a
def Q0(a:U)(b i:M)(w:Y):Prop:=∀j,j<i->nP a j (so w b j)=bw
def Q0.tid{n o q K:Option Addr}{e f L r:cP}(A:Q0 k b 4 a)(d:a.heap[b]?=H (ay #[I n (y j) i,I o (y p) l,I q (y u) F,I K c V] 78 (0,0)))(B:J3 j p u L v e f r):Lv k v e f:=by
 have g:=A 0 (by omega);have h:=A 1 (by omega);have m:=A 2 (by omega);rw[BI (x:=n) (c:=i)<|(ct d).trans rfl]at g;rw[BI (x:=o) (c:=l)<|(ct d).trans rfl]at h;rw[BI (x:=q) (c:=F)<|(ct d).trans rfl]at m;obtain⟨s,t,w,_⟩:=B;have C:=bS y s;have D:=bS y t;have E:=bS y w;simp only[bU]at C D E;simp[nP]at g h m;unfold Lv;omega
def PR.mono(h:PR c m)(d:c<=l):PR l m:=⟨h.pW,h.mJ,h.jf,λx a=>by have:=h.low x a;omega⟩
structure Vf(w w':Y)(sb:M)(s:SR)(k:U)(K K':DK)(v:ab):Prop where
 fa:fO w w' s.aH sb K K'
 box:∃s',cW w' sb s' k/\s'.closed=s.closed/\s'.aH=s.aH
 err:∃q c,v=fj q/\sF w' q c/\Sm K.fx c
structure Yp(s:SR)(n C:M)(ms:eF)(R0:U->ae->Option ae)(num:M)(a' b' c' d':cP):Prop where
 pr:PR n (bV a' b' c' d')
 rl:∀t,(t∈ms\/(n:U)<=t)->∀q,eM t (bV a' b' c' d') q=R0 t q
 num:s.next<=num/\num<=s.next+1000000
 s1:jn b'
 s2:jn c'
 s3:jn d'
 sI:y (cA a')+y (cA b')+y (cA c')+y (cA d')<=C
def Ft(lb:M)(bb V:M)(ms:eF)(R0:U->ae->Option ae)(wr:Y)(O P Q S:ab)(bc b aa bd:cP)(ps:ci NT)(D:SV a c W k lb g (j++p++u++v) bb V ms R0 wr O P Q S bc b aa bd ps)(h0:cW a c W k)(d:ST a c W g e j p u v i)(hI:Hm (vw g.files) W.next W.log l j p u v W.dO m)(au:y (kO ((l:U)+1) m)<=200000)(hn:V<1000000000000000)(ap:W.next<=900000000000000)(ao:y g.eP<=10000000000)(av:EH g.fx):cY bA 98 #[aD c,dL #[O,P,Q,S],aG V] wr λaF K=>(aF=aN .nilIface/\∃n num r s t w,Lx a K c W k V bb g ms R0 O P Q S n num r s t w/\J3 bc b aa bd r s t w/\∃C,DG W V g n (j++p++u++v) num r s t w C<|.sd::C.map .rm)\/∃ba n,aF=aN ba/\Vf a K c W k g n ba/\(Ij W g n\/∃num r s t w C l2,Yp W V bb ms R0 num r s t w/\J3 bc b aa bd r s t w/\DG W V g n (j++p++u++v) num r s t w C l2):=by
 obtain⟨K1,ad,al,x,e3,N⟩:=D.ls.C8;obtain⟨e1,_,e2⟩:=id x;have aU:=d.count;have ax:y (j++p++u++v)<=1000000:=by have B:=d.sI;have h2:=d.jV;have:=lB<|λaV A=>(d.l0.each aV A).pure;have:=lB d.s1.pure;have:=lB d.s2.pure;have:=lB d.s3.pure;grind
 have an:Ey wr c 10 [(W.l0,j),(W.l1,p),(W.l2,u),(W.l3,v)]:=by refine(d.Q9 h0).aj D.aj d.xM<|λB hi f h=>?_;(have:B=0\/B=1\/B=2\/B=3:=by grind);rcases this with rfl|rfl|rfl|rfl;exact(d.l0.loc f h).aL;exact(d.l1.loc f h).aL;exact(d.l2.loc f h).aL;exact(d.l3.loc f h).aL
 have bg:=D.ls.Mj;refine(Re (z<|G a) bb V l ps O P Q S bc b aa bd j p u v m D.box ad an al (λq=>d.xM<|e3 c q) (by rw[e1];exact hI) au hn ap (by rw[e2];exact ao) ax ?_ ?_ (N.o6 av) ?_).mono ?_;obtain⟨B,aa,aF⟩:=bZ d.mem;grind
 have B:∀f,Aside a g W.aH c f->LB W.aH c (z<|G a) K1 f:=λf q=>⟨q.lt,λbf=>q.aL<|e3 f bf,q.ne⟩;rintro ba(rfl|rfl|rfl|rfl)f h;exact B _<|d.l0.loc f h;exact B _<|d.l1.loc f h;exact B _<|d.l2.loc f h;exact B _<|d.l3.loc f h;intro q;rw[e1]at q;rcases hI.state with aF|⟨_,rfl,rfl,rfl,rfl,_⟩;rw[aF]at q;cases q;have B:=D.fst rfl;grind
 have hz:=D.aj.size
 have hT:∀{K:Y},Z (λk=>Wr W.aH K1 ps k\/k=c) wr K->Z (λf=>g.aL W.aH f\/f=c) a K:=λA=>(D.aj.mono (T:=λf=>g.aL W.aH f\/f=c)<|by grind).trans A (λf q=>by
  rcases q with(q|⟨bh,B,q⟩)|q
  .grind
  .refine .inr ?_;rcases q with q|q
   .exact((D.ls.news bh B).1.lt f<|.inl q).1
   .exact((D.ls.news bh B).1.lt f<|.inr<|.inr q).1
  grind)
 have L:∀{n:DK},(∀k,n.aL W.aH k->K1.aL W.aH k\/z (G wr)<=k)->∀k,n.aL W.aH k->g.aL W.aH k\/z (G a)<=k:=(by grind);rintro aF K(⟨rfl,n,num,r,s,t,w,o,A,C,E⟩|⟨ba,n,rfl,F,ac⟩);exact .inl ⟨rfl,n,num,r,s,t,w,⟨o.box,o.st,o.rD,by rw[o.rows];exact D.pr,λaV A q=>by rw[o.rows];exact D.rl aV A q,o.DY,o.eP,o.num,⟨o.st.aH,hT A,L o.aL,N.trans o.fx⟩⟩,o.al,C,E.pre x⟩;obtain⟨q,aa,r1,r2,r3⟩:=F.err;refine .inr ⟨ba,n,rfl,⟨⟨F.ok,hT F.aj,L F.aL,N.trans F.fx⟩,F.box,q,aa,r1,r2,N.Yz D.ls.tu r3⟩,ac.imp (λbf=>bf.pre x) ?_⟩;rintro⟨num,r,s,t,w,C,l2,E,B⟩;refine⟨num,r,s,t,w,C,l2,⟨by rw[B.rows];exact D.pr,λaV A q=>by rw[B.rows];exact D.rl aV A q,B.num,B.s1,B.s2,B.s3,?_⟩,B.al,E.pre x⟩;have:=D.ls.sI;obtain⟨q0,q1,q2,q3⟩:=B.al;unfold cA at this|-;rw[q0,q1,q2,q3];exact this
def Ly.step{bb wr:Y}{P:gL}{R0:U->ae->Option ae}(hS:Ly bb b W k c g j i l (tB P) R0 wr)(av:z (G bb)<=c)(ax:¬g.aL W.aH b)(ac:OL bb g b W P)(ba:2<=W.kK)(ad:M)(hi:ad<4):∃(u v w x:Option Addr)(n0 n1 n2 n3 A B C D:M)(bg:Option Addr)(an ao:M)(bf:Bool),wr.heap[c]?=H (ay #[I u n0 A,I v n1 B,I w n2 C,I x n3 D] 78 (0,0))/\(#[I u n0 A,I v n1 B,I w n2 C,I x n3 D]:Array ab)[ad]?=H (I bg an ao)/\(cY bA 48 #[aD b,aq (ad:M),I bg an ao] wr λN w2=>N=aN (aM bf)/\w2=wr)/\(bf=cf->∀(p:Y)(V:Option Addr)(Q:M)(r:eF),Z aw wr p->p.ownsRow (z<|G wr) 74 1 (I V (y r) Q) (y r) (r.map<|Value.int .u64)->r.Perm (tB P)->cY bA 97 #[dL #[I u n0 A,I v n1 B,I w n2 C,I x n3 D],aq (ad:M),I V (y r) Q] p λN w2=>(∃(r0 r1 r2 r3:Option Addr)(m0 m1 m2 m3 t0 t1 t2 t3:M),N=aN (dA #[dL #[I r0 m0 t0,I r1 m1 t1,I r2 m2 t2,I r3 m3 t3],.nilIface])/\w2.heap[c]?=H (ay #[I u n0 A,I v n1 B,I w n2 C,I x n3 D] 78 (0,0))/\Ly bb b W k c g j i l (tB P) R0 (cH (cH (cH (cH w2 (R c 0)<|I r0 m0 t0) (R c 1)<|I r1 m1 t1) (R c 2)<|I r2 m2 t2) (R c 3)<|I r3 m3 t3)/\so (cH (cH (cH (cH w2 (R c 0)<|I r0 m0 t0) (R c 1)<|I r1 m1 t1) (R c 2)<|I r2 m2 t2) (R c 3)<|I r3 m3 t3) c ad<so wr c ad/\∀al,al<ad->so (cH (cH (cH (cH w2 (R c 0)<|I r0 m0 t0) (R c 1)<|I r1 m1 t1) (R c 2)<|I r2 m2 t2) (R c 3)<|I r3 m3 t3) c al=so wr c al)\/EA (nR W.aH g) p w2 (g.aL W.aH) N bL/\w2.heap[c]?=H (ay #[I u n0 A,I v n1 B,I w n2 C,I x n3 D] 78 (0,0)))/\bf=nP W.kK ad (so wr c ad)/\∀ap,Z aw wr ap->cY bA 90 #[aD b] ap λN w2=>∃S,∃r:eF,N=aN S/\r.Perm (tB P)/\w2.ownsRow (z<|G wr) 74 1 S (y r) (r.map<|Value.int .u64)/\Z aw wr w2:=by
 obtain⟨v0,v1,S,v3,bc,aF,aU,bd,ps,a⟩:=hS;obtain⟨u,A,rfl⟩:=bZ a.ls.r0;obtain⟨v,B,rfl⟩:=bZ a.ls.r1;obtain⟨w,C,rfl⟩:=bZ a.ls.r2;obtain⟨x,D,rfl⟩:=bZ a.ls.r3;have O:∀ap,Z aw wr ap->cY bA 90 #[aD b] ap λN w2=>∃S,∃r:eF,N=aN S/\r.Perm (tB P)/\w2.ownsRow (z<|G wr) 74 1 S (y r) (r.map<|Value.int .u64)/\Z aw wr w2:=λap hW=>by obtain⟨mb,m1,m2,m3⟩:=(ac.aL a.aj).ex;apply(yH (b:=mb) P ((hW.block b (ak a.box) id).trans a.box) m1 (m2.dG<|hW.block _ m3.lt id) ac.len).mono;rintro N w2⟨S,r,rfl,l1,l2,l3⟩;exact⟨S,r,rfl,l1,gl l2 hW.size,hW.cz l3⟩
 have h4:∀r:eF,r.Perm (tB P)->y r<=4:=λr F=>by have:=F.length_eq;rw[rk]at this;have:=ac.len;omega
 have fin:=λ(p w2:Y)(r:eF)(u0 u1 u2 u3:ab)(c d c' f:cP)(m:ci NT)(t:Z aw wr p)(F:r.Perm (tB P))(n:LS w2 W.aH b (z<|G bb) g j m i u0 u1 u2 u3 c d c' f)(h:PR l (bV c d c' f))(s:∀au,(au∈r\/(l:U)<=au)->∀q,eM au (bV c d c' f) q=eM au (bV bc aF aU bd) q)(e:Z (g.aL W.aH) p w2)(u:j=[]->False)=>a.put av ax n h (by grind) ((t.mono (T:=g.aL W.aH) cJ).trans e<|λ_ q=>.inl q) u;have aV:∀(p w2:Y)(N:Ending),Z aw wr p->EA (nR W.aH g) p w2 (g.aL W.aH) N bL->w2.heap[c]?=wr.heap[c]?:=λp w2 N t hB=>by obtain⟨_,_,_,_,_,e⟩:=hB;exact(e.block c (ai (ak a.lb) t.size) (λq=>by have:=a.ls.aL c q;omega)).trans<|t.block c (ak a.lb) id
 have d:∀{ap:Y}{u0 u1 u2 u3:ab}(al:M)(r:Option Addr)(m au:M),ap.heap[c]?=H (ay #[u0,u1,u2,u3] 78 (0,0))->#[u0,u1,u2,u3][al]?=H (I r m au)->so ap c al=m:=λal r m au a b=>BI (x:=r) (c:=au)<|(ct a).trans b;rcases(show ad=0\/ad=1\/ad=2\/ad=3 by omega)with rfl|rfl|rfl|rfl;(.refine⟨u,v,w,x,_,_,_,_,A,B,C,D,u,y bc,A,_,a.lb,rfl,sq 0 (y bc) u A a.box (by omega),λL p V Q r t ho F=>?_,by rw[d 0 _ _ _ a.lb rfl],O⟩;(have f:0<y bc:=by unfold nP at L;grind);have E:=a.ls.E3 t ho;apply(E.1.N8 a.pr f r V Q E.2.1 E.2.2<|h4 r F).mono;rintro N w2(⟨x',n',c',tm,n,rfl,s,h,m,e⟩|hB);rotate_left;(grind[SV.lb]);obtain⟨x1,K⟩:=fin p w2 r _ _ _ _ _ _ _ _ n t F s h m e (λq=>by have f1:=a.fst q;simp[nP]at L;omega);exact .inl ⟨_,_,_,_,_,_,_,_,_,_,_,_,rfl,x1,⟨_,_,_,_,_,_,_,_,n,K⟩,by rw[d 0 _ _ _ K.lb rfl,d 0 _ _ _ a.lb rfl];omega,λal hj=>by omega⟩);(.refine⟨u,v,w,x,_,_,_,_,A,B,C,D,v,y aF,B,_,a.lb,rfl,sq 1 (y aF) v B a.box (by omega),λL p V Q r t ho F=>?_,by rw[d 1 _ _ _ a.lb rfl],O⟩;(have f:0<y aF:=by unfold nP at L;grind);have E:=a.ls.E3 t ho;apply(E.1.N7 a.pr f r V Q E.2.1 E.2.2<|h4 r F).mono;rintro N w2(⟨xl,nl,cl,x',n',c',b2,c2,n,rfl,s,aa,h,m,e⟩|hB);rotate_left;(grind[SV.lb]);obtain⟨x1,K⟩:=fin p w2 r _ _ _ _ _ _ _ _ n t F s h m e (λq=>by have f1:=a.fst q;simp[nP]at L;omega);obtain⟨_,_,N⟩:=bZ s.r1;cases N;exact .inl ⟨_,_,_,_,_,_,_,_,_,_,_,_,rfl,x1,⟨_,_,_,_,_,_,_,_,n,K⟩,by rw[d 1 _ _ _ K.lb rfl,d 1 _ _ _ a.lb rfl];omega,λal hj=>by obtain rfl:al=0:=(by omega);rw[d 0 _ _ _ K.lb rfl,d 0 _ _ _ a.lb rfl]⟩);(.refine⟨u,v,w,x,_,_,_,_,A,B,C,D,w,y aU,C,_,a.lb,rfl,sq 2 (y aU) w C a.box (by omega),λL p V Q r t ho F=>?_,by rw[d 2 _ _ _ a.lb rfl],O⟩;(have f:0<y aU:=by unfold nP at L;grind);have E:=a.ls.E3 t ho;apply(E.1.N6 a.pr f r V Q E.2.1 E.2.2<|h4 r F).mono;rintro N w2(⟨xl,nl,cl,x',n',c',c2,d2,n,rfl,s,aa,h,m,e⟩|hB);rotate_left;(grind[SV.lb]);obtain⟨x1,K⟩:=fin p w2 r _ _ _ _ _ _ _ _ n t F s h m e (λq=>by have f1:=a.fst q;simp[nP]at L;omega);obtain⟨_,_,N⟩:=bZ s.r2;cases N;exact .inl ⟨_,_,_,_,_,_,_,_,_,_,_,_,rfl,x1,⟨_,_,_,_,_,_,_,_,n,K⟩,by rw[d 2 _ _ _ K.lb rfl,d 2 _ _ _ a.lb rfl];omega,λal hj=>by rcases(show al=0\/al=1 by omega)with rfl|rfl;(rw[d 0 _ _ _ K.lb rfl,d 0 _ _ _ a.lb rfl]);(rw[d 1 _ _ _ K.lb rfl,d 1 _ _ _ a.lb rfl])⟩);refine⟨u,v,w,x,_,_,_,_,A,B,C,D,x,y bd,D,_,a.lb,rfl,sq 3 (y bd) x D a.box (by omega),λL=>?_,by rw[d 3 _ _ _ a.lb rfl],O⟩;simp[nP]at L
structure Inv(w:Y)(sb:M)(s:SR)(K:DK)(m:cU)(a b c d:cP)(C tb N:M)(ls:dX)(sn:gL):Prop where
 st:ST w sb s K m a b c d C
 rD:Hm (vw K.files) s.next s.log tb a b c d s.dO ls
 pr:PR tb (bV a b c d)
 lp:wE ((tb:U)+1) ls
 mem:kq s.aP m=gT [] ls.flatten
 Vp:∀x∈m,(tb:U)<x.bQ/\x.bQ<=s.aP
 n9:y m<=(ls.map y).sum
 I5:rH 5 m
 AP:OL w K sb s sn
 Yy:∀p∈sn,p.2<=s.aP
 DA:s.aP=tb+y ls
 Ot:s.eG=(ls.map y).sum
 pj:s.pj=bw->s.dO=cf->cX (vw K.files) (dj s.log)=H (kO ((tb:U)+1) ls)
 DY:((a++b++c++d).map bB.tb).Nodup
 nx:s.next<=2+1000001*N
 bn:s.aP<=N
 eP:y K.eP<=9000000+2*N
 DX:1<=s.mem/\s.mem<=32/\2<=s.kK/\s.kK<=6
 loose:s.iU=cf->s.dO=cf
 jV:N<=100000000
def ST.Xz(h:ST a b W g e j p u v c)(k:b<z (G a))(d:fO a f W.aH b g x)(i:∀n,cX (vw x.files) (fG n)=cX (vw g.files) (fG n)):ST f b W x e j p u v c where
 mem:=Bm h.mem d h.tg
 tg:=λi b=>(h.tg i b).fa d
 l0:=h.l0.fa d<|λ_ _=>i _
 l1:=h.l1.fa d<|λ_ _=>i _
 l2:=h.l2.fa d<|λ_ _=>i _
 l3:=h.l3.fa d<|λ_ _=>i _
 aH:=d.ok
 xM:=λu=>(d.aL b u).elim h.xM<|λi=>by omega
 kI:=h.kI.fa d
 sI:=h.sI
 jV:=h.jV
 mJ:=h.mJ
 jf:=h.jf
 s1:=h.s1
 s2:=h.s2
 s3:=h.s3
def ST.l7{d:SR}{C C':M}(h:ST a b W g e j p u v C)(t:d.aH=W.aH/\d.l0=W.l0/\d.l1=W.l1/\d.l2=W.l2/\d.l3=W.l3)(o:kJ a d.memory K)(f:∀s,cI d.memory=H s->Aside a g W.aH b s)(q:eh K)(n:∀x∈K,x.Good)(w:y K+C<=C'+y e)(r:C'<=1000000):ST a b d g K j p u v C':=by
 obtain⟨c,i,k,l,m⟩:=t;refine{mem:=o,tg:=by rw[c];exact f,l0:=by rw[c,i];exact h.l0,l1:=by rw[c,k];exact h.l1,l2:=by rw[c,l];exact h.l2,l3:=by rw[c,m];exact h.l3,aH:=by rw[c];exact h.aH,xM:=by rw[c];exact h.xM,kI:=by rw[c];exact h.kI,sI:=by have:=h.sI;omega,jV:=r,mJ:=q,jf:=n,s1:=h.s1,s2:=h.s2,s3:=h.s3}
def ST.fields{s s':SR}(h:ST a b s g e j p u v c)(f:s'.aH=s.aH/\s'.l0=s.l0/\s'.l1=s.l1/\s'.l2=s.l2/\s'.l3=s.l3)(d:s'.memory=s.memory):ST a b s' g e j p u v c:=h.l7 f (by rw[d];exact h.mem) (by rw[d];exact h.tg) h.mJ h.jf (by omega) h.jV
def IM(f:U)(a:dX)(l:cU):kO f (a++[l])=kO f a++pq (f+y a) l:=by
 induction a generalizing f with
 |nil=>simp[kO]
 |cons x r b=>
  rw[cR,kO,b,kO,bj,aO];grind
def wE.snoc(h:wE k m)(j:∀x∈e,x.Good)(f:∀x∈e,x.bQ=k+y m)(d:1<=y e/\y e<=8)(b:(m.map y).sum+y e<32)(g:k+y m+1<18446744073709551616):wE k (m++[e])where
 jf:=λx a=>by
  rcases aA.1 a with c|c
  .exact h.jf x c
  grind
 num:=λi b x a=>by
  by_cases c:i<y m
  .rw[List.getElem_append_left c]at a;exact h.num i c x a
  grind
 one:=λx a=>by
  rcases aA.1 a with c|c
  .exact h.one x c
  grind
 sum:=by rw[aE,ga];simpa using b
 f0:=h.f0
 f1:=by rw[af];grind
def pt(l m n:cU):gT l (m++n)=gT (gT l m) n:=by
 unfold gT;rw[gd]
def Gh{l m:cU}(h:w∈gT l m):w∈l\/w∈m:=by
 induction m generalizing l with
 |nil=>exact .inl h
 |cons e r a=>
  rcases a (l:=qY l e) h with c|c
  .grind[zr]
  grind
def wE.xO(h:wE ((b:U)+1) m):∀x∈m.flatten,(b:U)<x.bQ/\x.bQ<=(b+y m:M):=by
 intro x e;obtain⟨l,d,a⟩:=bC.1 e;obtain⟨i,c,rfl⟩:=ia.1 d;have:=h.num i c x a;grind
def Inv.E4{d:gL}(h:Inv a b W g e j p u v c i l m d):y e<=31:=by
 have f:=h.n9;have k:=h.lp.sum;omega
def Inv.row{k:cP}{f:gL}(h:Inv a b W g e p u v k c i l m f):gV e:=⟨h.st.mJ,λn d=>uZ<|h.st.jf n d⟩
def Inv.all{j b k n:cP}{f:gL}(h:Inv a c W g e j b k n i l F m f):PR W.aP (e::bV j b k n):=h.pr.cons (by have:=h.DA;omega) h.st.mJ h.st.jf (λx d=>(h.Vp x d).1)<|λx d=>(h.Vp x d).2
def gh(b:gL)(m a:cU):cU:=dZ (tB b)<|fQ m a
def Inv.L6{n:gL}(h:Inv a b W g e j p u v c i l m n):y (kO ((i:U)+1) m)<=200000/\y m<=31:=by
 have o:=DU (f:=(i:U)+1)<|λk d=>⟨h.lp.jf k d,(h.lp.one k d).2⟩;have q:=Pg<|λk d=>(h.lp.one k d).1;have r:=h.lp.sum;grind
def Inv.CI{f:gL}(h:Inv a b W g e j p u v c i l m f):y (j++p++u++v)<=1000000:=by
 have d:=h.st.sI;have k:=h.st.jV;have:=lB<|λt d=>(h.st.l0.each t d).pure;have:=lB h.st.s1.pure;have:=lB h.st.s2.pure;have:=lB h.st.s3.pure;grind
def Lx.inv{h:gL}{w:U->ae->Option ae}{s:ab}{num:M}(m:Lx a f c W k i l g (tB h) w d t L s x num j p u v)(e:1<=W.mem/\W.mem<=32/\2<=W.kK/\W.kK<=6)(C:W.next<=2+1000001*F)(B:i<=F+1)(A:F+1<=100000000)(r:OL a g c W h)(o:∀D∈h,D.2<=W.aP)(n:W.aP<=i):Inv f c (W.settled d t L s i num) x [] j p u v l i (F+1) [] h where
 st:=m.st
 rD:=m.rD
 pr:=m.pr
 lp:=⟨by simp,by simp,by simp,by simp,by omega,by simp;omega⟩
 mem:=rfl
 Vp:=by simp
 n9:=by simp
 I5:=rH.nil _
 AP:=(r.fa m.fa).fields ⟨rfl,rfl⟩
 Yy:=λD e=>aB (o D e) n
 DA:=rfl
 Ot:=rfl
 pj:=λ_ q=>(by cases q)
 DY:=m.DY
 nx:=by have:=m.num;show num+1<=_;omega
 bn:=B
 eP:=by have:=m.eP;omega
 DX:=e
 loose:=λq=>(by cases q)
 jV:=A
def ZU(w k:Y)(a:M)(s:SR)(t:U)(n C:M)(K:DK)(j:eF)(h:U->ae->Option ae)(i:cP)(r:Ending):Prop:=(r=aN .nilIface/\∃m o p q e num b c d f,Lx w k a s t n C K j h m o p q e num b c d f/\Lv s.kK b c d/\∃g,DG s n K e i num b c d f g<|.sd::g.map .rm)\/∃v e,r=aN v/\Vf w k a s t K e v/\(Ij s K e\/∃num b c d f g l,Yp s n C j h num b c d f/\Lv s.kK b c d/\DG s n K e i num b c d f g l)
def Pt(mv:ab){au:cP}(eg cB:M)(h:cW a b W k)(t:ST a b W g e j u v au c)(cs:((j++u++v++au).map bB.tb).Nodup)(gj:PR i (bV j u v au))(hv:kJ a mv K)(fu:∀k,cI mv=H k->k<z (G a))(gb:eh K)(gt:rH 5 K)(fx:∀hN∈K,hN.Good)(hw:y K<=100)(fs:∀hN∈K,(i:U)<hN.bQ)(fn:∀hN∈K,hN.bQ<=cB)(gr:i<=cB)(jE:y (cA j)+y (cA u)+y (cA v)+y (cA au)+y K<=eg)(hl:eg<=1000000)(gn:2<=W.kK)(hI:Hm (vw g.files) W.next W.log i j u v au W.dO m)(hB:y (kO ((i:U)+1) m)<=200000)(il:cB<1000000000000000)(hz:W.next<=900000000000000)(hx:y g.eP<=10000000000)(sn:gL)(gk:OL a g b W sn)(hC:EH g.fx):cY bA 49 #[aD b,mv,aG cB] a λei w'=>ZU a w' b W k cB eg g (tB sn) (λhK=>eM hK<|K::bV j u v au) (j++u++v++au) ei:=by
 have ec:=ak h;have bt:=t.L1 (C':=eg) ec cs (by omega) hl;have cp:=λd wr v0 v1 v2 v3 a1 b1 c1 d1 b a=>Ft d eg cB (tB sn) (λhK=>eM hK<|K::bV j u v au) wr v0 v1 v2 v3 a1 b1 c1 d1 b a h t hI hB il hz hx hC
 have en:=X (show∀K',qc g K'->Ij W g K' fromλK' hQ=>⟨[],W.next,λo a=>(by cases a),hQ,by omega,λq=>by
  rcases hI.state with ei|⟨_,_,_,_,_,ei,_⟩
  .rw[ei]at q;cases q
  .omega,by rw[hQ.2.2];omega⟩)
 obtain⟨y0,z0,ds⟩:=bZ t.l0.row;obtain⟨y1,z1,dv⟩:=bZ t.l1.row;obtain⟨y2,z2,dx⟩:=bZ t.l2.row;obtain⟨y3,z3,dT⟩:=bZ t.l3.row;have iu:aW a (R b 10)=H (I y0 (y j) z0):=by rw[<-ds];exact h.cell rfl
 have iv:aW a (R b 11)=H (I y1 (y u) z1):=by rw[<-dv];exact h.cell rfl
 have jk:aW a (R b 12)=H (I y2 (y v) z2):=by rw[<-dx];exact h.cell rfl
 have jA:aW a (R b 13)=H (I y3 (y au) z3):=by rw[<-dT];exact h.cell rfl
 rw[ds,dv,dx,dT]at bt;obtain⟨L,dn⟩:∃L,dd a (ay #[I y0 (y j) z0,I y1 (y u) z1,I y2 (y v) z2,I y3 (y au) z3] 78)=L:=⟨_,rfl⟩;have bl:Z aw a L:=by rw[<-dn];exact(cO _ _)
 have ex:L.heap[z<|G a]?=H (ay #[I y0 (y j) z0,I y1 (y u) z1,I y2 (y v) z2,I y3 (y au) z3] 78 (0,0)):=by rw[<-dn];exact aK _ rfl
 have ck:=bt.aj (bl.mono cJ)<|(nR W.aH g).fc bt.D bl cJ;have et:cW L b W k:=(bl.block b ec id).trans h;have bk:=t.aH.lt;have cw:=t.xM;obtain⟨mx,mc,gc⟩:=bZ hv;obtain⟨er,HM,hg,dc,db,eo,S,w,ek⟩:=yU t hv fu gb fx gj cp ck ex;obtain⟨dk,cE,HH,he,hb,cc,cS,hZ,hh⟩:=yU bl et h fs fn cw bk gc gk;have hT:z (G L)=z (G a)+1:=by rw[<-dn];simp
 clear h t cs gj hv fu gb fx fs fn hI cp bt ck ex bl et cw bk ds dv dx dT gk;subst gc;obtain⟨R0,bu⟩:∃R0:U->ae->Option ae,(λhK=>eM hK<|K::bV j u v au)=R0:=⟨_,rfl⟩;obtain⟨d,hu⟩:∃d,z (G a)=d:=⟨_,rfl⟩;have fr:z (G a)<=d:=by omega
 have eq:=X bu;have O:=J S;rw[bu]at O;clear S;have S:=X O;rw[bu];clear O bu;have cb:=X hu;by_cases it:y K=0;(case' pos=>(have cq:¬(0:U)<(y K:U):=by omega);have l:K=[]:=aS it;have N:=X<|show Ly a b W k d g (j++u++v++au) eg cB (tB sn) R0 L from⟨_,_,_,_,j,u,v,au,[],w,by rw[<-J cb];exact ek,eo.mono gr,λhK _ q=>by rw[<-J eq,l];grind[lk],cE,dk.mono cJ,λq=>by simp_all⟩;clear l;(go_in);(go_wp2_with fail);obtain⟨W7,P⟩:∃W7,L=W7:=⟨_,rfl⟩;rw[P];rw[P]at N;clear P)
 case' neg=>
  have cq:(0:U)<(y K:U):=by omega
  obtain⟨mg,mo,ge,fz,ac⟩:∃gx Q,mx=H (R gx Q)/\y K<=mc/\∀bo hW,(aI K)[bo]?=H hW->aW a (R gx<|Q+bo)=H hW:=by
   obtain⟨_,⟨q1,q2⟩|⟨gx,Q,ih,q1,q2,q3⟩⟩:=J HM
   .grind
   grind
  subst ge;have hy:K≠[]:=(by grind);have ea:mg<z (G a):=hg mg rfl;have bm:Z aw a L.drew:=dk.cz<|dh aw L;have cr:=Fi K mg mo mc L.drew (λbo hj=>bm.cell (er.kI.steps bo hj) id er.kI.fR.lt) (by have:=bm.size;omega) (λbo hW hj=>bm.cell (ac bo hW hj) id ea) fz (by omega) db dc (λq hq=>aB (gt.keys q hq)<|by omega) (by omega);clear ac;go_in
  go_wp2_with fail
  rename_i QQ KK bd hA;have hS:L.drew.heap[d]?=H (ay #[I y0 (y j) z0,I y1 (y u) z1,I y2 (y v) z2,I y3 (y au) z3] 78 (0,0)):=by rw[<-J cb];exact ek
  refine eH (λ(s:Y)=>s.heap[d]?=H (ay #[I y0 (y j) z0,I y1 (y u) z1,I y2 (y v) z2,I y3 (y au) z3] 78 (0,0))) 8 rfl ?_;refine fw 0 ?_;iterate 3 (refine iS (v:=?_) hS rfl (by kernel_rfl) lQ rfl ?_ ?_;rotate_left;(focus(intro s hX;have x0:aW s (R d 0)=H (I y0 (y j) z0):=(by rw[ct hX];rfl);go_simp;try rfl));simp only[Act.put,ig,Nat.reduceAdd])
  apply iG;refine bG (i:=3) rfl rfl (by kernel_rfl) ?_;intro K3 aV;go_simp;apply cr.mono;rintro ei n⟨l,r,hO,V,xb,aa,rfl,hf⟩;obtain⟨gg,gf,bg⟩:=Xi hf hy db dc hw;have ao:=(hf.aj.block d (ak hS) id).trans hS;refine aV _ _ (λ_=>ao) ?_;clear aV cr;try simp only[Act.put,ig]
  refine bG (i:=4) rfl rfl (by kernel_rfl) ?_;intro K4 ba;go_simp;have ed:Z aw n (dd n<|ay #[aD l] 179):=(cO _ _);have eB:=(ed.block d (ak ao) id).trans ao;refine ba _ _ (λ_=>eB) ?_;clear ba;try simp only[Act.put,ig]
  refine bG (i:=5) rfl rfl (by kernel_rfl) ?_;intro K5 bb;go_simp;obtain⟨W5,bf⟩:∃W5,dd (dd n<|ay #[aD l] 179) (ay #[I y0 (y j) z0,bI (z<|G n) 0 1 1] 76)=W5:=⟨_,rfl⟩;have bT:Z aw n W5:=by rw[<-bf];exact ed.alloc _
  have bv:=(bT.block d (ak ao) id).trans ao;have cm:W5.heap[z<|G n]?=H (ay #[aD l] 179 (0,0)):=by rw[<-bf];grind[gq,aK]
  have bh:W5.heap[z (G n)+1]?=H (ay #[I y0 (y j) z0,bI (z<|G n) 0 1 1] 76 (0,0)):=by rw[<-bf];exact aK _<|by simp
  rw[bf];refine bb _ _ (λ_=>bv) ?_;clear bb bf;try simp only[Act.put,ig]
  refine bG (i:=6) rfl rfl (by kernel_rfl) ?_;intro K6 an;go_simp;have F:Z aw L W5:=((dh aw L).cz hf.aj).cz bT;have co:=ux (z (G n)+1) 0 2 [((I y0 (y j) z0:ab),j),(bI (z<|G n) 0 1 1,[⟨l,bX 0 r,r,0⟩])] W5 (by
   intro o hs;have:o=0\/o=1:=by grind
   rcases this with rfl|rfl<;>(rw[ct bh];rfl)) (ak bh) (by
    intro o hs;have:o=0\/o=1:=by grind
    rcases this with rfl|rfl
    .exact F.row w.r0<|λk a=>⟨id,(w.b0 k a).1⟩
    .refine⟨rfl,.inr ⟨z (G n),0,1,rfl,ag _,λbo hW hj=>?_⟩⟩;rw[ct cm,dM];simpa[bB.ptr]using hj) (by
    intro o hs;have:o=0\/o=1:=by grind
    rcases this with rfl|rfl
    .exactλk a=>ai (w.b0 k a).1 F.size
    .exactλk a=>by cases a;grind) (by simp) (by have:=w.count;simp[mq];omega)
  apply co.mono;rintro ei w6⟨v6,rfl,bL,ca⟩;have ap:=(ca.block d (ak bv) id).trans bv;have ch:mq [((I y0 (y j) z0:ab),j),(bI (z<|G n) 0 1 1,[⟨l,bX 0 r,r,0⟩])]=y (j++[(⟨l,bX 0 r,r,0⟩:bB)]):=by simp[mq]
  have ce:qB [((I y0 (y j) z0:ab),j),(bI (z<|G n) 0 1 1,[⟨l,bX 0 r,r,0⟩])]=(j++[(⟨l,bX 0 r,r,0⟩:bB)]).map bB.ptr:=by simp[qB]
  rw[ch,ce]at bL;obtain⟨x6,c6,hE⟩:=aC bL;subst hE;refine an _ _ (λ_=>ap) ?_;clear an co;try simp only[Act.put,ig]
  refine bG (i:=7) rfl rfl (by kernel_rfl) ?_;intro K7 D;go_simp;refine D _ _ (λ_=>ap) ?_;clear D;try simp only[Act.put,ig]
  refine bG (i:=8) rfl rfl (by kernel_rfl) ?_;intro K8 E;have x0:=cellAt ap 0 rfl;have hL:=cQ (i:=0) ap;go_simp;have al:Z aw L w6:=F.cz ca;have cx:Z aw n w6:=bT.cz ca;have cu:NT.Ok w6 (z<|G L) ⟨⟨l,bX 0 r,r,0⟩,hO,V,xb,aa⟩:=NT.Ok.aj gg cx<|λ_ _ q=>q;have ew:=w.G6 (p:=⟨⟨l,bX 0 r,r,0⟩,hO,V,xb,aa⟩) al cu gf (gl bL F.size) (by
   grind)
  have C:Z (λq=>q=d) w6 (cH w6 (R d 0)<|I x6 (y<|j++[(⟨l,bX 0 r,r,0⟩:bB)]) c6):=(iT d w6);have cj:=ew.other C (λq hq=>by grind);have cv:PR cB (bV (j++[(⟨l,bX 0 r,r,0⟩:bB)]) u v au):=by
   rw[FC,bg];exact eo.cons gr dc db he hb
  have N:=X<|show Ly a b W k d g (j++u++v++au) eg cB (tB sn) R0 (cH w6 (R d 0)<|I x6 (y<|j++[(⟨l,bX 0 r,r,0⟩:bB)]) c6)from⟨_,_,_,_,_,u,v,au,_,cj,(aJ ap).trans rfl,cv,λhK _ q=>by rw[FC,bg,<-J eq],(C.block b (by grind)<|λq=>by omega).trans<|(al.block b (ak cE) id).trans cE,((dk.cz al).mono (T:=g.aL W.aH) cJ).trans C (by grind),λq=>by grind⟩;refine E _ _ (λq=>(q rfl).elim) ?_;refine fm rfl ?_ _;show KK _ _;apply bd;clear bd E cj ew cv C cu cx al ap bL ca cm bh bv bT eB ed ao gg gf bg hf hS x0 hL F ch ce;have cd:y (j++[(⟨l,bX 0 r,r,0⟩:bB)])=y j+1:=by simp
  rw[cd]at N;obtain⟨W7,P⟩:∃W7,cH w6 (R d 0) (I x6 (y j+1) c6)=W7:=⟨_,rfl⟩;rw[P];rw[P]at N;clear P cd;go_wp2_with fail
 all_goals
  clear cq;go_loopw [25] (λf wr=>∃(o:M)(ha:U),o<=4/\ha=o/\f=aq ha/\Ly a b W k d g (j++u++v++au) eg cB (tB sn) R0 wr/\Q0 W.kK d o wr) (λf _=>4-(intOf f).toNat)
  case atStart=>exact⟨0,0,by omega,rfl,rfl,N,λbo hj=>(by grind)⟩
  case round=>
   obtain⟨o,ha,hs,hI,rfl,dm,cl⟩:=hrel;have ax:=X cl;clear cl;by_cases h4:o<4
   .have N:=X dm;have df:=X<|λ(wr:Y)(h:Ly a b W k d g (j++u++v++au) eg cB (tB sn) R0 wr)=>h.step fr cc hh gn o h4;obtain⟨me,fv⟩:∃me:Y->M,∀l,me l=so l d o:=⟨_,λ_=>rfl⟩;have el:=X fv;clear dm fv;obtain⟨LL,bs⟩:∃LL:Y->Prop,LL=Q0 W.kK d o:=⟨_,rfl⟩;have bq:=X (show∀l,LL l->nP W.kK o (so l d o)=bw->Q0 W.kK d (o+1) l fromλl h1 h2 bo hj=>by
     rw[bs]at h1;rcases vr.1 hj with q|q
     .exact h1 bo q
     grind)
    have hd:=X (show∀l a,LL l->(∀bo,bo<o->so a d bo=so l d bo)->LL a fromλl a h1 h2=>by
     rw[bs]at h1|-;exactλbo hj=>by rw[h2 bo hj];exact h1 bo hj)
    rw[<-bs]at ax;clear bs;rcases(show(o=0/\ha=0)\/(o=1/\ha=1)\/(o=2/\ha=2)\/(o=3/\ha=3)by omega)with⟨rfl,rfl⟩|⟨rfl,rfl⟩|⟨rfl,rfl⟩|⟨rfl,rfl⟩;all_goals
     clear hI;go_wp2_with fail
     go_loopw [9] (λ_ wr=>Ly a b W k d g (j++u++v++au) eg cB (tB sn) R0 wr/\LL wr) (λ_ wr=>me wr)
     case atStart=>exact⟨N,ax⟩
     case round=>
      obtain⟨hrel,eA⟩:=hrel;have HR:=X hrel;have cM:=X (show cW wr b W k/\Z (g.aL W.aH) a wr from by obtain⟨_,_,_,_,_,_,_,_,_,fd⟩:=hrel;exact⟨fd.box,fd.aj⟩);have aF:=X eA;obtain⟨p0,p1,p2,p3,n0,n1,n2,n3,q0,q1,q2,q3,hN,jB,jC,jD,x,hU,A,dr,fl,fL⟩:=df wr hrel;have bp:=X fl;cases gP hU;have g0:=cellAt x 0 rfl;have g1:=cellAt x 1 rfl;have g2:=cellAt x 2 rfl;have g3:=cellAt x 3 rfl;have em:=X fL;have br:=X x;clear fL x hU hrel eA fl;cases jD
      .clear dr em br;go_wp2_with fail
       apply A.mono;rintro ei n⟨rfl,hG⟩;subst n;clear A g0 g1 g2 g3;go_wp2;go_roundw;case rel=>first|exact⟨1,1,by omega,rfl,rfl,HR,bq _ aF bp.symm⟩|exact⟨2,2,by omega,rfl,rfl,HR,bq _ aF bp.symm⟩|exact⟨3,3,by omega,rfl,rfl,HR,bq _ aF bp.symm⟩|exact⟨4,4,by omega,rfl,rfl,HR,bq _ aF bp.symm⟩
       case measure=>simp[intOf]
      .have cN:=X<|dr rfl;clear dr;go_wp2_with fail
       apply A.mono;rintro ei n⟨rfl,hG⟩;subst n;clear A;go_wp2_with fail
       rename_i QQ KK bd;have hS:wr.drew.heap[d]?=H (ay #[I p0 n0 q0,I p1 n1 q1,I p2 n2 q2,I p3 n3 q3] 78 (0,0)):=J br;refine je (λ(s:Y)=>s.heap[d]?=H (ay #[I p0 n0 q0,I p1 n1 q1,I p2 n2 q2,I p3 n3 q3] 78 (0,0))) 6 rfl ?_;refine ki 0 ?_;iterate 3 (refine uc (v:=?_) hS rfl (by kernel_rfl) lQ rfl ?_ ?_;rotate_left;(focus(intro s hX;have x0:aW s (R d 0)=H (I p0 n0 q0):=(by rw[ct hX];rfl);have x1:aW s (R d 1)=H (I p1 n1 q1):=(by rw[ct hX];rfl);have x2:aW s (R d 2)=H (I p2 n2 q2):=(by rw[ct hX];rfl);have x3:aW s (R d 3)=H (I p3 n3 q3):=(by rw[ct hX];rfl);go_simp;try rfl));simp only[Act.put,ig,Nat.reduceAdd])
       apply oe;refine fD (i:=3) rfl rfl (by kernel_rfl) ?_;intro K3 aV;go_simp;apply(em wr.drew<|dh _ _).mono;rintro ei wm⟨vm,lm,rfl,gi,eb,bn⟩;obtain⟨hM,hk,hF⟩:=aC eb;subst hF;have bi:=cN wm hM hk lm bn eb gi;have fb:wm.heap[d]?=H (ay #[I p0 n0 q0,I p1 n1 q1,I p2 n2 q2,I p3 n3 q3] 78 (0,0)):=(bn.block d (ak br) id).trans br;refine aV _ _ (λ_=>fb) ?_;try simp only[Act.put,ig]
       refine fD (i:=4) rfl rfl (by kernel_rfl) ?_;intro K4 ba;go_simp;apply bi.mono;rintro ei n ad;obtain⟨r0,r1,r2,r3,m0,m1,m2,m3,t0,t1,t2,t3,gE,rfl,f,ad⟩:∃(r0 r1 r2 r3:Option Addr)(m0 m1 m2 m3 t0 t1 t2 t3:M)(gE:ab),ei=aN (dA #[dL #[I r0 m0 t0,I r1 m1 t1,I r2 m2 t2,I r3 m3 t3],gE])/\n.heap[d]?=H (ay #[I p0 n0 q0,I p1 n1 q1,I p2 n2 q2,I p3 n3 q3] 78 (0,0))/\((gE=.nilIface/\Ly a b W k d g (j++u++v++au) eg cB (tB sn) R0 (cH (cH (cH (cH n (R d 0)<|I r0 m0 t0) (R d 1)<|I r1 m1 t1) (R d 2)<|I r2 m2 t2) (R d 3)<|I r3 m3 t3)/\so (cH (cH (cH (cH n (R d 0)<|I r0 m0 t0) (R d 1)<|I r1 m1 t1) (R d 2)<|I r2 m2 t2) (R d 3)<|I r3 m3 t3) d _<so wr d _/\∀bo,bo<_->so (cH (cH (cH (cH n (R d 0)<|I r0 m0 t0) (R d 1)<|I r1 m1 t1) (R d 2)<|I r2 m2 t2) (R d 3)<|I r3 m3 t3) d bo=so wr d bo)\/∃q,gE=fj q/\ZU a (cH (cH (cH (cH n (R d 0)<|I r0 m0 t0) (R d 1)<|I r1 m1 t1) (R d 2)<|I r2 m2 t2) (R d 3)<|I r3 m3 t3) b W k cB eg g (tB sn) R0 (j++u++v++au) (aN<|fj q)):=by
        rcases ad with⟨r0,r1,r2,r3,m0,m1,m2,m3,t0,t1,t2,t3,rfl,f,bx,B,bE⟩|⟨⟨hX,q,rfl,hq,hn,gs⟩,f⟩
        .exact⟨r0,r1,r2,r3,m0,m1,m2,m3,t0,t1,t2,t3,_,rfl,f,.inl ⟨rfl,bx,B,bE⟩⟩
        .refine⟨none,none,none,none,0,0,0,0,0,0,0,0,fj q,rfl,f,.inr ⟨q,rfl,?_⟩⟩;have C:Z (λq=>q=d) n (cH (cH (cH (cH n (R d 0) az) (R d 1) az) (R d 2) az) (R d 3) az):=(((iT d n).setCell _ _ _<|.inl rfl).setCell _ _ _<|.inl rfl).setCell _ _ _<|.inl rfl;have ht:¬g.aL W.aH d:=λgx=>by have:=cS d gx;omega
         have hm:=(nR W.aH g).fc hn C (λk j=>by rw[j];exact ht);obtain⟨_,K3,ev,ho,hr,hH⟩:=hm;have ip:b<z (G a):=ec;have fk:=(bn.block b (ak cM.1) id).trans cM.1;have ff:=(gs.block b (ak fk) cc).trans fk;have hp:=(C.block b (ak ff)<|λgx=>by omega).trans ff;have hD:Z (g.aL W.aH) a n:=(cM.2.cz bn).trans gs<|λ_ gx=>.inl gx;refine .inr ⟨_,K3,rfl,⟨⟨ev,(hD.mono (T:=λk=>g.aL W.aH k\/k=b)<|λ_ gx=>.inl<|.inl gx).trans C (λk j=>.inr<|by omega),λk j=>.inl<|hr k j,hH⟩,⟨W,hp,rfl,rfl⟩,q,8,rfl,hq.aj C (λk j _=>by rw[j];exact⟨_,78,_,f,by decide⟩),.inl ⟨rfl,hX⟩⟩,.inl<|en K3 ho⟩
       have g0:=cellAt f 0 rfl;have f0:=cQ (i:=0) f;have g1:=cellAt f 1 rfl;have f1:=cQ (i:=1) f;have g2:=cellAt f 2 rfl;have f2:=cQ (i:=2) f;have g3:=cellAt f 3 rfl;have f3:=cQ (i:=3) f;have aU:=X ad;clear ad;refine ba _ _ (λ_=>f) ?_;try simp only[Act.put,ig]
       refine fD (i:=5) rfl rfl (by kernel_rfl) ?_;intro K5 bb;go_simp;refine bb _ _ (λ_=>f) ?_;try simp only[Act.put,ig]
       clear aV ba bb;apply Oj KK
       .intro ef;refine EW (i:=6) (j:=7) rfl rfl rfl rfl (by kernel_rfl) ?_ ?_
        .intro K6 an;go_simp;refine an _ _ (λv=>(by omega)) ?_;try simp only[Act.put,ig]
         refine EW (i:=7) (j:=8) rfl rfl rfl rfl (by kernel_rfl) ?_ ?_
         .intro K7 D;go_simp;refine D _ _ (λv=>(by omega)) ?_;try simp only[Act.put,ig]
          refine fD (i:=8) rfl rfl (by kernel_rfl) ?_;intro K8 E;go_simp;refine E _ _ (λv=>(by omega)) ?_;try simp only[Act.put,ig]
          refine fD (i:=9) rfl rfl (by kernel_rfl) ?_;intro K9 bc;go_simp;refine bc _ _ (λv=>(by omega)) ?_;try simp only[Act.put,ig]
          refine jo rfl ?_ _;exact ef
         .intro K8 E;go_simp;refine E _ _ (λv=>(by omega)) ?_;try simp only[Act.put,ig]
          refine fD (i:=7) rfl rfl (by kernel_rfl) ?_;intro K7 D;go_simp;refine D _ _ (λv=>(by omega)) ?_;try simp only[Act.put,ig]
          refine fD (i:=9) rfl rfl (by kernel_rfl) ?_;intro K9 bc;go_simp;refine bc _ _ (λv=>(by omega)) ?_;try simp only[Act.put,ig]
          refine jo rfl ?_ _;exact ef
        .intro K7 D;go_simp;refine D _ _ (λv=>(by omega)) ?_;try simp only[Act.put,ig]
         refine fD (i:=6) rfl rfl (by kernel_rfl) ?_;intro K6 an;go_simp;refine an _ _ (λv=>(by omega)) ?_;try simp only[Act.put,ig]
         refine fD (i:=8) rfl rfl (by kernel_rfl) ?_;intro K8 E;go_simp;refine E _ _ (λv=>(by omega)) ?_;try simp only[Act.put,ig]
         refine fD (i:=9) rfl rfl (by kernel_rfl) ?_;intro K9 bc;go_simp;refine bc _ _ (λv=>(by omega)) ?_;try simp only[Act.put,ig]
         refine jo rfl ?_ _;exact ef
       apply bd;clear bd hS fb eb bn gi f bi;rcases J aU with⟨rfl,bx,B,bE⟩|⟨q,rfl,cn⟩
       .obtain⟨hi,cT,hc⟩:=dF bx B bE;clear bx B bE aU;go_wp2;go_roundw;case rel=>exact⟨hi,hd _ _ aF hc⟩
        case measure=>
         rw[J el,J el];exact cT
       .have ej:=X cn;clear cn aU;go_wp2;go_ret;exact ej
   .obtain⟨rfl,rfl⟩:o=4/\ha=4:=by omega
    clear hI;obtain⟨v0,v1,v2,v3,a1,b1,c1,d1,hJ,hV⟩:=dm;obtain⟨p0,q0,rfl⟩:=bZ hV.ls.r0;obtain⟨p1,q1,rfl⟩:=bZ hV.ls.r1;obtain⟨p2,q2,rfl⟩:=bZ hV.ls.r2;obtain⟨p3,q3,rfl⟩:=bZ hV.ls.r3;have g0:=cellAt hV.lb 0 rfl;have g1:=cellAt hV.lb 1 rfl;have g2:=cellAt hV.lb 2 rfl;have g3:=cellAt hV.lb 3 rfl;have es:=X<|λa' b' c' d'(q:J3 a1 b1 c1 d1 a' b' c' d')=>(J ax).tid hV.lb q;have av:=X<|S d wr _ _ _ _ a1 b1 c1 d1 hJ hV;clear hV;go_wp2_with fail
    apply av.mono;rintro ei n(⟨rfl,K',num,a',b',c',d',hR,fe,ey⟩|⟨hY,K',rfl,hP,eu⟩)
    .have HP:=X<|show ZU a n b W k cB eg g (tB sn) R0 (j++u++v++au) (aN .nilIface)from .inl ⟨rfl,_,_,_,_,K',num,a',b',c',d',hR,es _ _ _ _ fe,ey⟩;clear hR fe ey av;go_wp2;go_ret;exact HP
    .have HP:=X<|show ZU a n b W k cB eg g (tB sn) R0 (j++u++v++au) (aN hY)from .inr ⟨hY,K',rfl,hP,eu.imp id<|λ⟨num,a',b',c',d',l,f,h1,h2,d⟩=>⟨num,a',b',c',d',l,f,h1,es _ _ _ _ h2,d⟩⟩;clear hP eu av;go_wp2;go_ret;exact HP
section
variable{w:Y}{sbqq:M}{s:SR}{K:DK}{m e:cU}{a b c d:cP}{C tbqq N:M}{lsqq:dX}{f:gL}
theorem vY(f:gL)(m e:cU):(gh f m e).Sublist (fQ m e):=jy _ _
theorem zj(f:gL)(m e:cU):y (gh f m e)<=y m+y e:=aB (vY f m e).length_le<|yn m e
theorem Ip{x:E}(h:x∈gh f m e):x∈m\/x∈e:=yL<|(vY f m e).subset h
theorem CB(h:eh m)(f:gL)(e:cU):eh (gh f m e):=(h.fQ e).sub<|vY f m e
theorem CA(h:eh m)(g:y f<=4)(e:cU):rH 5 (gh f m e):=(zk<|h.fQ e).mono (by rw[rk];omega)
theorem Io(l:gV m){g:U}(k:∀x∈m,x.bQ<=g)(j:∀h∈e,h.key≠⟨#[]⟩)(i:∀h∈e,h.bQ=g+1)(f:gL):kq (g+1) (gh f m e)=gT (kq g m) e:=by
 have:=yw (rest:=[]) (ms:=tB f) l (by simp) j i k (by simp);unfold gh;grind
theorem Inv.zV(h:Inv w sbqq s K m a b c d C tbqq N lsqq f)(i:∀x∈e,x.Good)(j:∀x∈e,x.bQ=(s.aP:U)+1):(∀x∈gh f m e,x.Good)/\(∀x∈gh f m e,(tbqq:U)<x.bQ/\x.bQ<=(s.aP:U)+1)/\kq ((s.aP:U)+1) (gh f m e)=gT (gT [] lsqq.flatten) e:=by
 have k:=h.DA;refine⟨λx g=>(Ip g).elim (h.st.jf x)<|i x,λx g=>?_,?_⟩;rcases Ip g with q|q;have:=h.Vp x q;omega;grind
 rw[Io h.row (λx g=>(h.Vp x g).2) (λl k=>uZ<|i l k) j f,h.mem]
theorem Inv.Wl(l:Inv w sbqq s K m a b c d C tbqq N lsqq f)(k:∀x∈e,x.Good)(i:∀x∈e,x.bQ=(s.aP:U)+1){t:U}(g:t∈tB f)(q:ae):eM t (gh f m e::bV a b c d) q=eM t (m::bV a b c d) q:=by
 have h:t<=s.aP:=by unfold tB at g;obtain⟨p,j,rfl⟩:=bH.1 g;exact_mod_cast l.Yy p j
 unfold eM;rw[show gh f m e=dZ (tB f) (fQ m e)from rfl,FA l.row (λn j=>uZ<|k n j) i g h]
theorem Inv.Wo(h:Inv w sbqq s K m a b c d C tbqq N lsqq f)(k:∀x∈e,x.Good)(i:∀x∈e,x.bQ=(s.aP:U)+1)(q:ae):eM ((s.aP:U)+1) (gh f m e::bV a b c d) q=seen (gT (kq s.aP m) e::(bV a b c d).map (kq s.aP)) q:=by
 unfold eM;rw[show gh f m e=dZ (tB f) (fQ m e)from rfl,yw h.row h.pr.row (λn j=>uZ<|k n j) i (λx g=>(h.Vp x g).2) (λr l x g=>by have o:=h.pr.low x<|bC.2 ⟨r,l,g⟩;have:=h.DA;omega)]
end
def SR.zV(s:SR)(c:ab)(a:M)(b:Bool):SR:={s with memory:=c,eG:=s.eG+a,aP:=s.aP+1,dO:=cf,iU:=cf,gK:=b}
def Inv.left{d:gL}(h:Inv a b W g e j p u v c i l m d):mO (vw g.files) W.next W.log i j p u v W.dO m:=h.rD.left (by have:=h.nx;have:=h.jV;omega) h.CI
def Inv.BY{d:gL}(h:Inv a b W g e j p u v c i l m d):OU 1000002 (vw g.files):=h.rD.BY h.CI
def mO.l9{a:Fs}{e:dX}(h:mO D b c i j p u v S m)(r:c<18446744073709551616)(t:OU 1000002 D)(d:∀n,cX a n=if dj c=n then H (kO ((i:U)+1) e)else cX D n):mO a b c i j p u v cf e:=by
 have o:cX a dE=cX D dE:=by rw[d,dt<|ke _]
 refine{h with BY:=(t.one (x:=dj c) (λw f q=>by rw[d]at q;by_cases g:dj c=w;exact .inl g.symm;rw[dt g]at q;grind)).mono (by omega),names:=λn f q=>?_,first:=λq n f w k l=>?_,Dg:=λq=>(by cases q),state:=by rw[o];exact h.state,log:=λ_=>⟨[],.inl rfl,by rw[d,di rfl,zJ,dz]⟩,um:=λq=>(by cases q),pm:=λB s=>by rw[d,dt<|λq=>gI _ _ q.symm];exact h.pm B s};rw[d]at q;by_cases g:dj c=n;exact .inr<|.inr ⟨c,r,.inr g.symm⟩;rw[dt g]at q;exact h.names n f q;rw[o]at q;rw[d]at k;by_cases g:dj c=n;rcases l with u|u;exact absurd (u.symm.trans g.symm)<|gI _ _;have:=yN<|g.trans u;rcases h.state with A|⟨_,_,_,_,_,_,A,_⟩;rw[A]at q;cases q;omega;rw[dt g]at k;exact h.first q n f w k l
def Zs(h:∀x∈e,x.Good)(c:y e<=8):kr (pq k e):=by
 have a:kr (gY k e):=by unfold gY;refine(kr.le 8 _).append ?_;intro x b;rcases bM.1 b with q|q;rw[q];constructor<;>omega;exact Gv h x q
 unfold pq gS;exact((((kr.le 4 _).append<|kr.le 4 _).append<|kr.le 4 _)).append a
def wC(s:SR):ci nU:=if s.dO then []else [.cr<|dj s.log]
def qA(s:SR)(a:eF):ci nU:=wC s++[.ap (dj s.log) a]
def G9(w g:Y)(a:M)(s:SR)(k:U)(K:DK)(q:cU)(m n o p:cP)(C c N:M)(b:dX)(i:gL)(d:cU)(j:Ending):Prop:=(j=aN .nilIface/\∃h f e,cW g a (s.zV h (y d) f) k/\Inv g a (s.zV h (y d) f) e (gh i q d) m n o p (C+y d) c (N+1) (b++[d]) i/\fO w g s.aH a K e/\jT (qA s<|pq ((c:U)+1+y b) d) K e/\((s.dO=bw->f=cf)/\(s.dO=cf->f=s.gK)))\/∃v e,j=aN v/\Vf w g a s k K e v/\∃l,l<+:qA s (pq ((c:U)+1+y b) d)/\jT l K e
def MD{s:SR}{hi:cP}(sn:gL)(h:cW a b s k)(n:Inv a b s g e j p u hi c l F m sn)(gr:s.pj=bw)(hs:kJ a d K)(gc:∀k,cI d=H k->Aside a g s.aH b k)(bs:0<y K)(h8:y K<=8)(ht:∀ey∈K,ey.Good)(ho:∀ey∈K,ey.bQ=(s.aP:U)+1)(hu:s.eG+y K<32)(hC:c+y K<=1000000)(hN:F+1<=100000000)(gk:EH g.fx\/eV g.files<=999999000):cY bA 73 #[aD b,d] a λbm w'=>G9 a w' b s k g e j p u hi c l F m sn K bm:=by
 have er:=n.st;have aF:=ak h;have ac:s.log<18446744073709551616:=by have:=n.rD.lt;have:=n.nx;have:=n.jV;omega
 have el:=zv s.log ac er.kI.pow;obtain⟨eb,eo,eA,ge,cu,br⟩:∃co A V,d=bI co A (y K) V/\y K<=V/\∀cB ex,(aI K)[cB]?=H ex->aW a (R co<|A+cB)=H ex:=by obtain⟨_,⟨q1,q2⟩|⟨co,A,V,q1,q4,q3⟩⟩:=hs;omega;grind
 have cj:=X cu;subst ge;have al:=gc eb rfl;obtain⟨mx,mc,gj⟩:=bZ er.mem;have hl:=cW.cellAt h 17 rfl;obtain⟨D,HH,HE,HG,HB,cS,cl⟩:=zX n h br ht ho el gj;obtain⟨lg,ek⟩:∃lg,s.dO=lg:=⟨_,rfl⟩;have hh:∀(ey:Bool)(a:Y),(Op.unary .not<|aM ey).run bA a=.ok (aM<|!ey) a:=λ_ _=>rfl;go_in
 go_wp2_with fail
 apply cS.mono;rintro bm w1⟨rfl,fv⟩;have cw:Z aw a w1:=Z.aQ fv;have gb:fO a w1 s.aH b g g:=⟨D.st.aH.aj cw<|λ_ _=>id,cw.mono cJ,λ_ q=>.inl q,Fx.refl _⟩;have x:cW w1 b s k:=(cw.block b aF id).trans HH;have gE:aW w1 (R b 18)=H (aM lg):=by rw[<-ek];exact x.cell rfl
 have k2:=cW.cellAt x 2 rfl;have ha:=cW.cellAt x 21 rfl;have fr:w1.frozen? (R b 18)=bw:=x.free;have fs:w1.frozen? (R b 21)=bw:=x.free;obtain⟨w,bo,t⟩:=dF x gb ek;cases lg
 case' true=>
  go_wp2_with fail
  obtain⟨S,N⟩:∃S,w1=S:=⟨_,rfl⟩;obtain⟨E,av⟩:∃E,s.gK=E:=⟨_,rfl⟩;have HX:=X (show∃f F3,fO a S s.aH b g f/\dV f.files (dj s.log)=H F3/\F3.bytes=kO ((l:U)+1) m/\y f.eP<=y g.eP+1/\(∀q L,ow (vw f.files) (dj s.log,L)=q->∀an,cX q an=if dj s.log=an then H L else cX (vw g.files) an)/\eV f.files=eV g.files/\(jT (wC s) g f/\((s.dO=bw->E=cf)/\(s.dO=cf->E=s.gK)))/\cW S b {s with dO:=cf,gK:=E} k from by
   obtain⟨F3,q1,q2⟩:=ji<|D.pj gr t;refine⟨g,F3,by rw[<-N];exact bo,q1,q2,by omega,λq L bm an=>by rw[<-bm,lI],rfl,⟨by unfold wC;rw[J t];exact⟨rfl,rfl,rfl⟩,⟨λq=>(by rw[J t]at q;cases q),λ_=>av.symm⟩⟩,?_⟩;rw[<-N,<-av];have:=J w;have bm:s={s with dO:=cf,gK:=s.gK}:=by rw[<-J t]
   rw[<-bm];exact this)
  rw[N]
 case' false=>
  have bf:cX (vw g.files) (dj s.log)=none:=by
   cases q:cX (vw g.files) (dj s.log)with
   |none=>rfl
   |some L=>
    rcases D.rD.names _ _ q with bm|⟨_,bm⟩|⟨hG,_,bm⟩
    .grind[ke]
    .rw[J t]at bm;cases bm
    .exact absurd bm.symm<|gI _ _
  have fL:=Jy (dj s.log) bo.ok (tr bf) (by have:=D.eP;have:=D.jV;omega)<|Aw ac;go_wp2_with fail
  apply fL.mono;rintro bm w2⟨v2,f,rfl,bu⟩;rcases bu.wG with⟨rfl,o2⟩|⟨l2,q2,c2,r1,r2,rfl,r3,r4⟩;rotate_left
  .have bv:¬g.aL s.aH b:=D.st.xM;have hE:Vf a w2 b s k g f (fj q2):=⟨bo.trans<|fO.of bu.pa,⟨s,(bu.pa.aj.block b (ak w) bv).trans w,rfl,rfl⟩,q2,c2,rfl,r3,r4⟩;have HR:=X<|show G9 a w2 b s k g e j p u hi c l F m sn K (aN<|fj q2)from .inr ⟨_,f,rfl,hE,l2,by unfold qA wC;rw[J t];grind,r2⟩;go_wp2;go_ret;exact HR
  have cr:=bu.pa;obtain⟨hk,⟨g2,y2,f1,f2,f3⟩,f4,f5,f6⟩:=o2;have gf:f.files=g.files++[⟨dj s.log,g2,az,[],0⟩]:=f4.trans f1;have gn:=f5.trans f2;have gi:=f6.trans f3.1;have ff:=X f3.2;have bv:¬g.aL s.aH b:=D.st.xM;have A:cW w2 b s k:=(cr.aj.block b (ak w) bv).trans w;have eq:¬f.aL s.aH b:=cr.EM bv<|ak w;have gE:aW w2 (R b 18)=H (aM bw):=by rw[<-J t];exact A.cell rfl
  have k2:=cW.cellAt A 2 rfl;have ha:=cW.cellAt A 21 rfl;have fr:w2.frozen? (R b 18)=bw:=A.free;have fs:w2.frozen? (R b 21)=bw:=A.free;obtain⟨cN,fb,ck,cT,bT,V⟩:=lw A cr gf gi eq bf;have fl:=X gn;go_wp2_with fail
  obtain⟨S,N⟩:∃S,cH (cH w2 (R b 18)<|aM cf) (R b 21) (aM cf)=S:=⟨_,rfl⟩;obtain⟨E,av⟩:∃E,cf=E:=⟨_,rfl⟩;have HX:=X (show∃f F3,fO a S s.aH b g f/\dV f.files (dj s.log)=H F3/\F3.bytes=kO ((l:U)+1) m/\y f.eP<=y g.eP+1/\(∀q L,ow (vw f.files) (dj s.log,L)=q->∀an,cX q an=if dj s.log=an then H L else cX (vw g.files) an)/\eV f.files=eV g.files/\(jT (wC s) g f/\((s.dO=bw->E=cf)/\(s.dO=cf->E=s.gK)))/\cW S b {s with dO:=cf,gK:=E} k from by
   have gg:m=[]:=D.rD.um t;have ev:vw f.files=vw g.files++[(dj s.log,[])]:=by rw[J ck];simp[vw]
   have ei:cX (vw f.files) (dj s.log)=H []:=by rw[ev,gu,J V];simp[cX]
   obtain⟨F3,q1,q2⟩:=ji ei;refine⟨f,F3,?_,q1,by rw[q2,gg];rfl,by rw[J cT];simp,λq L bm an=>?_,by rw[J ck];simp[eV],⟨by unfold wC;rw[J t];exact jT.one ⟨_,_,ck,fl,J cT,J ff⟩,⟨λ_=>av.symm,λq=>by rw[J t]at q;cases q⟩⟩,?_⟩
   .rw[<-N];exact((bo.trans<|fO.of fb).set bT _ _).set bT _ _
   .rw[<-bm,ev,Jk [] L V,gu];by_cases co:dj s.log=an
    .rw[di co,<-co,J V];simp[cX]
    .rw[dt co];cases cX (vw g.files) an<;>simp[cX,co]
   .rw[<-N,<-av];exact(aJ (aJ cN)).trans rfl)
  rw[N];clear N av
 (all_goals obtain⟨f,F3,ap,ds,ca,cd,bc,bl,bg,cp⟩:=J HX;have W:=X bg;clear bg;have ce:¬f.aL s.aH b:=ap.sb D.st.xM aF;have bk:=D.st.Xz aF ap (λan=>by have:=bc _ F3.bytes rfl<|fG an;rw[dt<|λq=>gI _ _ q.symm]at this;rw[<-this];grind[dq,kQ,zB]);have ba:=al.fa ap;have bb:∀cB ex,(aI K)[cB]?=H ex->aW S (R eb<|eo+cB)=H ex:=λcB ex hj=>al.cell ap<|HE cB ex hj;have bh:=PI K eb eo eA S.drew (λcB hj=>bk.kI.steps cB hj) ba.lt bb bs HG h8;(have dr:(K[0]'bs).bQ=(l:U)+1+y m:=by have h1:=HB _<|ar bs;have h2:=D.DA;rw[h1,h2];grind);rw[dr]at bh;have k2:=cW.cellAt cp 2 rfl;obtain⟨aU,bp,bE,dc,bL,cn⟩:=lw ap ds ca cd bc bl;obtain⟨cE,hd,dm,dk,hc,hb⟩:=lw cp bk ce bh bb ba;clear ap ds ca cd bc bl cp bk ce bh dr bb ba;rename_i QQ KK dT;have ea:aW S.drew (R b 2)=H (aD s.aH):=k2;refine eH (λ(dn:Y)=>aW dn (R b 2)=H (aD s.aH)) 8 (by kernel_rfl) ?_;refine fw 0 ?_;(iterate 6 (refine iS (v:=?_) ea rfl (by kernel_rfl) lQ rfl ?_ ?_;rotate_left;(focus(intro dn hX;go_simp;try rfl));simp only[Act.put,ig,Nat.reduceAdd]));apply iG;refine bG (i:=6) rfl rfl (by kernel_rfl) ?_;intro K6 fu;go_simp;apply dk.mono;rintro bm w4⟨v4,rfl,bt,et⟩;have C:Z aw S w4:=(dh aw S).cz et;have ec:aW w4 (R b 2)=H (aD s.aH):=C.cell k2 id<|rU k2;refine fu _ _ (λ_=>ec) ?_;obtain⟨L,P⟩:∃L,pq ((l:U)+1+y m) K=L:=⟨_,rfl⟩;rw[P]at bt;(have fx:y L<=400:=by rw[<-P];exact sh HG h8);(have eg:0<y L:=by rw[<-P];unfold pq;rw[af,gO];omega);obtain⟨vb,vc,gs,eu,ch,_⟩:=uk bt eg;subst gs;have ef:=JD (db:=s.aH) (K:=f) (dj s.log) vb 0 vc L (w0:=w4) (aU.ok.aj C<|λ_ _=>id) bp (by rw[J cn];exact gk.imp aU.fx.o6<|λq=>by omega) (by omega) (by rw[<-P];exact Zs HG h8) (λcB ex hj=>by have:=pT bt cB ex hj;rwa[dJ]at this) ch (λbm=>by have h1:=aU.ok.lt s.aH<|.inl rfl;have h2:z (G S.drew)=z (G S):=rfl;omega)<|Aw ac;refine bG (i:=7) rfl rfl (by kernel_rfl) ?_;intro K7 dv;go_simp;apply ef.mono;rintro bm w5⟨v5,Q,rfl,cv⟩;have au:=cv.pa;have cq:cW w4 b {s with dO:=cf,gK:=E} k:=(C.block b (ak cE) id).trans cE;have ao:cW w5 b {s with dO:=cf,gK:=E} k:=(au.aj.block b (ak cq) dm).trans cq;refine dv _ _ (λ_=>ao.cell rfl) ?_;clear dv ef;(try simp only[Act.put,ig]);refine bG (i:=8) rfl rfl (by kernel_rfl) ?_;intro K8 dx;go_simp;refine dx _ _ (λq=>(q rfl).elim) ?_;refine fm (by kernel_rfl) ?_ _;show KK _ _;apply dT;clear dT dx ea ec;have ad:fO a w5 s.aH b g Q:=aU.trans ⟨au.ok,(C.mono (T:=λk=>f.aL s.aH k\/k=b) cJ).trans au.aj (by grind),λk q=>(au.aL k q).imp id<|λco=>aB C.size co,au.fx⟩;(have gx:∀an,cX (vw f.files) an=if dj s.log=an then H (kO ((l:U)+1) m)else cX (vw g.files) an:=λan=>by have h1:=bL _ (kO ((l:U)+1) m) rfl an;rw[<-h1];(have h2:cX (vw f.files) (dj s.log)=H (kO ((l:U)+1) m):=by rw[kQ,J bp,Option.map_some,J bE]);rw[zB h2]);(have cb:∀{Q:DK},xH (.ap (dj s.log) L) f Q->∀an,cX (vw Q.files) an=if dj s.log=an then H (kO ((l:U)+1)<|m++[K])else cX (vw g.files) an:=λ{Q}hv an=>by obtain⟨F5,x5,f0,f1,_,_⟩:=hv;(obtain rfl:F3=F5:=by rw[J bp]at f0;cases f0;rfl);(have ew:vw Q.files=ow (vw f.files) (dj s.log,kO ((l:U)+1)<|m++[K]):=by rw[f1,wO,IM,P,<-J bE];show ow _ (F3.name,_)=_;rw[(dq<|J bp).1]);rw[ew];exact bL _ _ rfl an);rcases cv.wG with⟨rfl,o5⟩|⟨l5,q5,c5,r1,r2,rfl,r3,r4⟩;rotate_left;(.have hE:Vf a w5 b s k g Q (fj q5):=⟨ad,⟨_,ao,rfl,rfl⟩,q5,c5,rfl,r3,aU.fx.Yz D.st.aH.tu r4⟩;have HR:=X<|show G9 a w5 b s k g e j p u hi c l F m sn K (aN<|fj q5)from .inr ⟨_,Q,rfl,hE,_,by unfold qA;rw[P];simp_all,jT.Hk W.1 r2⟩;go_wp2;go_ret;exact HR);have ej:=cb (show xH (.ap (dj s.log) L) f Q from by obtain⟨fn,⟨F5,x5,f0,f1,f2,f3⟩,f4,f5,f6⟩:=o5;exact⟨F5,x5,f0,f4.trans f1,f5.trans f2,f6.trans f3⟩);(have em:Q.eP=f.eP:=by obtain⟨fn,⟨F5,x5,f0,f1,f2,f3⟩,f4,f5,f6⟩:=o5;grind);have df:=X<|show jT (qA s<|pq ((l:U)+1+y m) K) g Q/\((s.dO=bw->E=cf)/\(s.dO=cf->E=s.gK))from⟨by rw[P];exact jT.Hk W.1 o5,W.2⟩;clear cv o5 gx cb;have bi:¬Q.aL s.aH b:=ad.sb D.st.xM aF;have aa:=ej;have hD:=cW.cellAt ao 20 rfl;have hm:w5.frozen? (R b 20)=bw:=ao.free;obtain⟨W6,ed⟩:∃W6,cH w5 (R b 20) (aM cf)=W6:=⟨_,rfl⟩;(have bq:cW W6 b {s with dO:=cf,gK:=E,iU:=cf} k:=by rw[<-ed];exact(aJ ao).trans rfl);(have r:fO a W6 s.aH b g Q:=by rw[<-ed];exact ad.set bi _ _);have B:=D.st.Xz aF r (λan=>by rw[aa,dt<|λq=>gI _ _ q.symm]);have cc:=al.fa r;have bd:=B.mem;rw[J cl]at bd;obtain⟨mb,m1,m2,m3⟩:=(D.AP.fa r).ex;have bx:=Cz b {s with dO:=cf,gK:=E,iU:=cf} k sn (bI eb eo (y K) eA) K bq m1 m2 D.AP.len B.mem (λk a=>(B.tg k a).lt) ⟨fX K,.inr ⟨eb,eo,eA,rfl,cj,λcB ex hj=>al.cell r<|HE cB ex hj⟩⟩ (λk a=>by cases a;exact cc.lt) B.mJ (by have:=D.E4;omega);have bx:cY bA 45 #[aD b,bI eb eo (y K) eA] W6 λbm w'=>∃a,bm=aN a/\w'.ownsRow (z<|G W6) 171 4 a (y<|gh sn e K) (aI<|gh sn e K)/\Z aw W6 w':=bx;(have k7:aW W6 (R b 7)=H (I mx (y e) mc):=by rw[<-J cl];exact bq.cell rfl);obtain⟨o,cM,fd,he,aV,fe⟩:=lw aa bq r B bi em;clear ad ej aa cq ao au em bt et C bq r B cc bd bi P fx eg eu ch;(go_wp2_with fail);apply bx.mono;rintro bm w7⟨v7,rfl,ax,cx⟩;obtain⟨x7,c7,gt⟩:=aC ax;subst gt;have O:cW w7 b {s with dO:=cf,gK:=E,iU:=cf} k:=(cx.block b (ak cM) id).trans cM;(have k7:aW w7 (R b 7)=H (I mx (y e) mc):=by rw[<-J cl];exact O.cell rfl);have k8:=cW.cellAt O 8 rfl;have k9:=cW.cellAt O 9 rfl;have f7:w7.frozen? (R b 7)=bw:=O.free;have f8:w7.frozen? (R b 8)=bw:=O.free;have f9:w7.frozen? (R b 9)=bw:=O.free;have hp:s.aP<=F:=D.bn;(have hz:IntKind.i64.wrap ((s.eG:U)+(y K:U))=(s.eG:U)+(y K:U):=by rw[bP];omega);(have hA:IntKind.u64.wrap ((s.aP:U)+1)=(s.aP:U)+1:=by rw[eZ];omega);obtain⟨eB,fk,cm⟩:=dF O ax cx;clear O ax cx bx;go_wp2;go_ret;have n:=J D;have r:=J fd;have hg:=zj sn e K;obtain⟨n1,n2,n3⟩:=n.zV HG HB;(have cs:fO a (cH (cH (cH w7 (R b 7)<|I x7 (y<|gh sn e K) c7) (R b 8)<|aq<|(s.eG:U)+(y K:U)) (R b 9)<|aG<|(s.aP:U)+1) s.aH b g Q:=by have h1:fO a w7 s.aH b g Q:=r.trans ⟨r.ok.aj cm<|λ_ _=>id,cm.mono cJ,λ_ q=>.inl q,Fx.refl _⟩;exact((h1.set aV _ _).set aV _ _).set aV _ _);have es:=n.st.Xz aF cs (λan=>by rw[(J o),dt<|λq=>gI _ _ q.symm]);have ax:=J fk;have hf:=cm.size;have hB:z (G a)<=z (G W6):=r.aj.size;have en:∀q,cI (I x7 (y<|gh sn e K) c7)=H q->z (G W6)<=q/\q<z (G w7):=λq hq=>ax.lt q hq;have hr:=r.ok.lt;refine .inl ⟨rfl,I x7 (y<|gh sn e K) c7,E,Q,?_,?_,cs,(J df).1,(J df).2⟩;exact(aJ<|aJ<|aJ eB).trans rfl;refine{st:=?_,rD:=?_,pr:=n.pr,lp:=?_,mem:=?_,Vp:=?_,n9:=?_,I5:=CA n.st.mJ n.AP.len K,AP:=(n.AP.fa cs).fields ⟨rfl,rfl⟩,Yy:=λhF hw=>(by have:=n.Yy hF hw;show hF.2<=s.aP+1;omega),DA:=?_,Ot:=?_,pj:=λ_ _=>?_,DY:=n.DY,nx:=?_,bn:=?_,eP:=?_,DX:=n.DX,loose:=λ_=>rfl,jV:=hN};(refine es.l7 (C':=c+y K) ⟨rfl,rfl,rfl,rfl,rfl⟩ ?_ ?_ (CB n.st.mJ sn K) n1 (by omega) hC;show Row _ 4 (I x7 (y<|gh sn e K) c7) _ _;refine dR ((((ax.kept (dS _ _ _ _) ?_).kept (dS _ _ _ _) ?_).kept (dS _ _ _ _) ?_))<;>exact(by grind);intro q hq;have h1:=en q hq;refine⟨?_,λco=>?_,by omega⟩;simp_all;grind);refine{names:=λan L hn=>?_,state:=?_,log:=λ_=>?_,um:=λq=>(by cases q),pm:=λhG hy=>?_,oY:=n.rD.oY,low:=n.rD.low,lt:=n.rD.lt,jf:=n.rD.jf};(rw[J o]at hn;by_cases co:dj s.log=an;exact .inr<|.inl ⟨co.symm,rfl⟩;rw[dt co]at hn;rcases n.rD.names _ _ hn with q|⟨q,_⟩|q;exact .inl q;exact absurd q.symm co;grind);rw[J o,dt<|ke _];exact n.rD.state;refine⟨[],.inl rfl,?_⟩;rw[J o,zJ,dz];show(if dj s.log=dj s.log then _ else _)=_;rw[di rfl];rw[J o,dt<|λq=>gI _ _ q.symm];exact n.rD.pm hG hy;(have fz:=n.DA;refine n.lp.snoc HG (λey hx=>?_) ⟨bs,h8⟩ ?_ ?_;rw[(J HB) ey hx,fz];grind;have:=n.Ot;omega;grind);(show kq ((s.aP+1:M):U) (gh sn e K)=_;rw[dW,bW,kY,dz,pt,<-n3];grind);(intro ey hx;have:=n2 ey hx;show _/\ey.bQ<=((s.aP+1:M):U);grind);(rw[aE,ga];have:=n.n9;grind);(show s.aP+1=l+y (m++[K]);have:=n.DA;rw[af];grind);show s.eG+y K=_;rw[aE,ga,n.Ot];simp;rw[J o];show(if dj s.log=dj s.log then _ else _)=_;rw[di rfl];show s.next<=_;have:=n.nx;omega;show s.aP+1<=F+1;omega;have h1:=n.eP;have h2:=J fe;have h3:=J dc;rw[h2];omega)
section
variable{K K' g:DK}{lg tbqq nx j0 n num:M}{T h a b c d a' b' c' d':cP}{e:Bool}{lsqq:dX}{P Q:Fs->Prop}{o:nU}{l l2:ci nU}{s:SR}{f:ci ae}
theorem yf.step(B:yf K lg tbqq lsqq j0)(r:xH o K K')(A:ZV lg T o)(D:0<j0->o≠ .cr (dj lg))(L:o=.sy (dj lg)->∀F,dV K.files (dj lg)=H F->F.safe<=y F.bytes)(C:qN K'):yf K' lg tbqq lsqq j0:=by
 have u:0<j0->vP K' (dj lg)=vP K (dj lg)/\∀p,dV K'.files (dj lg)=H p->∃F,dV K.files (dj lg)=H F/\F.safe<=p.safe:=λq=>by
  rcases o with N|⟨N,O⟩|N|⟨W,v⟩|N|_
  .obtain⟨aa,v,i,t,w,S⟩:=r;have k:dV K'.files (dj lg)=dV K.files (dj lg):=by
    rw[i,wB,dV,dt<|λj=>D q<|by rw[<-j]];cases dV K.files (dj lg)<;>rfl
   exact⟨by rw[fA,fA,k],(by grind)⟩
  .obtain⟨F,W,m,i,t,w⟩:=r;by_cases k:F.name=dj lg
   .have hF:dV K.files (dj lg)=H F:=by rw[<-k,(dq m).1];exact m
    refine⟨by rw[fA,fA,i,kp,di k,hF];rfl,λp j=>⟨F,hF,?_⟩⟩;rw[i,kp,di k]at j;grind
   .have x:dV K'.files (dj lg)=dV K.files (dj lg):=by rw[i,kp,dt k]
    exact⟨by rw[fA,fA,x],(by grind)⟩
  .obtain⟨F,m,i,t,w⟩:=r;by_cases k:F.name=dj lg
   .have hF:dV K.files (dj lg)=H F:=by rw[<-k,(dq m).1];exact m
    refine⟨by rw[fA,fA,i,kp,di k,hF];rfl,λp j=>⟨F,hF,?_⟩⟩;rw[i,kp,di k]at j;cases j;exact L (by rw[<-(dq m).1,k]) F hF
   .have x:dV K'.files (dj lg)=dV K.files (dj lg):=by rw[i,kp,dt k]
    exact⟨by rw[fA,fA,x],(by grind)⟩
  .exact absurd A id
  .obtain⟨F,v,m,i,t,w⟩:=r;have k:dV K'.files (dj lg)=dV K.files (dj lg):=by rw[i,qJ A.2]
   exact⟨by rw[fA,fA,k],(by grind)⟩
  .obtain⟨i,t,w⟩:=r;exact⟨by rw[fA,fA,i],(by grind)⟩
 refine⟨B.le,λq V E=>?_,λq p j=>?_⟩;rcases CO r C V E with k|⟨v,m,k⟩;rw[k];rfl;rw[k,B.log q v m,(u q).1];obtain⟨F,i,t⟩:=(u q).2 p j;have:=B.R7 q F i;omega
theorem yf.pC(j:yf K lg tbqq lsqq j0)(i:qc K K'):yf K' lg tbqq lsqq j0:=by
 have p:=lT (dD i.2.1).1 i.2.2;refine⟨j.le,λq m k=>?_,λq F hF=>j.R7 q F (by rw[<-i.1];exact hF)⟩;rw[p m,j.log q m (by rw[<-i.2.2];exact k),fA,fA,i.1]
theorem yf.ops(r:∀o∈l,ZV lg T o/\(0<j0->o≠ .cr (dj lg))/\o≠ .sy (dj lg)):∀{K K':DK},yf K lg tbqq lsqq j0->qN K->jT l K K'->(fF K').Nodup->yf K' lg tbqq lsqq j0:=by
 induction l with
 |nil=>
  intro K K' v _ i _;exact v.pC i
 |cons o l B=>
  rintro K K' v w⟨C,k,m⟩p;have A:∀x i,nU.rn x i∈l->x≠i:=λx i q=>Kg (r _<|dQ _ q).1 x i rfl;obtain⟨j,t,u⟩:=r o (by simp);have i:=w.step k (Kg j)<|oM A m p;exact B (by grind) (v.step k j t (λr=>absurd r u) i) i m p
theorem Xc{k:M}(x:∀t∈T,t.num<nx)(p:LF nx k l):∀o∈l,ZV lg T o/\(0<j0->o≠ .cr (dj lg))/\o≠ .sy (dj lg):=by
 have j:∀n,wF nx k n->¬pY T n/\n≠dj lg:=by rintro n(rfl|⟨m,v,w,rfl⟩);refine⟨?_,λq=>ut _ q.symm⟩;rintro(q|⟨t,_,q⟩);exact qw q.symm;exact pF _ q.symm;refine⟨?_,gI _ _⟩;rintro(q|⟨t,A,q⟩);exact mV _ q;grind[oh]
 intro o r;rcases p o r with⟨m,i,rfl⟩|⟨m,u,i,rfl⟩|⟨m,i,rfl⟩;exact⟨(j m i).1,λ_ q=>(j m i).2 (by cases q;rfl),λq=>(by cases q)⟩;exact⟨(j m i).1,λ_ q=>(by cases q),λq=>(by cases q)⟩;exact⟨(j m i).1,λ_ q=>(by cases q),(by grind)⟩
theorem uG.Qy{tp:M}(C:uG K lg (a++b++c++d))(w:yf K lg tbqq lsqq j0)(p:Hm (vw K.files) nx lg tbqq a b c d e lsqq)(r:LF nx tp l)(t:jT l K K')(v:(fF K').Nodup)(D:nx<=1000000000000000)(k:y (a++b++c++d)<=1000000)(B:tp<=nx+1000000)(A:cX (vw K.files) dE=none->tp<=3):uG K' lg (a++b++c++d)/\yf K' lg tbqq lsqq j0/\mO (vw K'.files) nx lg tbqq a b c d e lsqq:=by
 have j:=Xc (lg:=lg) (j0:=j0) (T:=a++b++c++d) (λt q=>(p.low t q).1) r;have i:∀{u:ci nU}{m:DK},LF nx tp u->jT u K m->mO (vw m.files) nx lg tbqq a b c d e lsqq:=λj r=>(p.left (by omega) k).Qy j r (by omega) A ((p.BY k).mono<|by omega) B;exact⟨uG.ops (λo q=>(j o q).1) C t v<|λu m p A k=>(i (KH p r) A).tu k,yf.ops (T:=a++b++c++d) j w C.Gm t v,i r t⟩
theorem EJ{D x:ae}{E:eF}(F:jT [.cr D,.ap D E,.sy D] K K')(B:qN K)(C:(fF K').Nodup)(V:zM K x\/x=D):zM K' x:=by
 obtain⟨O,A,S,m,w,p,r⟩:=F;have i:zM w x->zM K' x:=λq F hF=>q F (by rw[<-r.1];exact hF);by_cases N:x=D;rw[N]at i|-;exact i<|zM.sy p;have L:=V.resolve_right N;(have v:(fF w).Nodup:=by unfold fF at*;rw[r.1,(dD r.2.1).2]at C;exact C);have k:=wg p (by simp) v;have u:=wg m (by simp) k;have j:=B.step A (by simp) u;have t:=j.step m (by simp) k;exact i<|((L.step A (λ_ q=>(by cases q)) (λ_ q=>(by cases q)) B.names).step m (by grind) (λ_ q=>(by cases q)) j.names).step p (λ_ q=>(by cases q)) (λ_ q=>(by cases q)) t.names
theorem RQ{nx:M}{j:cP}:∀x i,nU.rn x i∈zU nx j->x≠i:=λx i q=>by
 obtain⟨u,k,q⟩:=kW.1 q;split at q;simp[xK]at q;cases q
theorem PW{B:ae}:∀{r:cP}{K K':DK},jT (zU nx r) K K'->qN K->(fF K').Nodup->(zM K B\/∃u∈r,nx<=u.num/\B=fG u.num)->zM K' B
 |[],K,K',k,_,_,m=>by
  rcases m with m|⟨u,i,_⟩
  .exactλF hF=>m F (by rw[<-k.1];exact hF)
  .cases i
 |u::r,K,K',k,p,w,m=>by
  have k:jT ((if nx<=u.num then xK u.num u.cs else [])++zU nx r) K K':=k;obtain⟨C,i,t⟩:=pU k;have j:=oM RQ t w;by_cases E:nx<=u.num
  .rw[di E]at i;have v:qN C:=p.ops (λB k q=>by simp[xK]at q) i j;refine PW t v w ?_;rcases m with m|⟨L,x,D,A⟩
   .exact .inl<|EJ i p j<|.inl m
   .rcases bM.1 x with rfl|x
    .exact .inl<|EJ i p j<|.inr A
    grind
  .rw[dt E]at i;refine PW t (p.pC i) w ?_;rcases m with m|⟨L,x,D,A⟩
   .exact .inl<|λF hF=>m F (by rw[<-i.1];exact hF)
   grind
def Yo(n num:M)(a' b' c' d':cP)(j:Fs):Prop:=∃i,mO j (num+1) num n a' b' c' d' i []
theorem WD{i:U}(j:0<=i)(k:i<18446744073709551616):wE i []:=⟨by simp,(by simp),by simp,by simp,j,by simpa using k⟩
theorem DG.Vr(aa:DG s n K K' (a++b++c++d) num a' b' c' d' f l2)(hC:uG K s.log (a++b++c++d))(hS:yf K s.log tbqq lsqq j0)(hI:Hm (vw K.files) s.next s.log tbqq a b c d s.dO lsqq)(bn:wE ((tbqq:U)+1) lsqq)(hb:(fF K').Nodup)(hn:n<1000000000000000)(hx:s.next<=900000000000000)(bo:y (a++b++c++d)<=1000000):(qN K'/\vO K' (λr=>LA s.next s.log tbqq a b c d lsqq j0 r\/Yo n num a' b' c' d' r))/\(l2=.sd::f.map .rm->uG K' num (a'++b'++c'++d')):=by
 obtain⟨g,aa⟩:=aa;obtain⟨SB,bl⟩:∃SB,fS ((num:U)+1) num n [a',b',c',d']=SB:=⟨_,rfl⟩;have bg:=aa.sv;have S:=aa.new;rw[bl]at bg S;obtain⟨E,bf,w⟩:=pU bg;obtain⟨KA,C,bp⟩:=pU (l:=[.cr ik,.ap ik SB,.sy ik]) (m:=[.rn ik dE]) bf;obtain⟨F,A,k⟩:=bp;have br:ik≠dE:=λW=>qw W.symm;have aV:∀o∈l2,o=.sd\/∃n,o=.rm n:=λo D=>by rcases bM.1 (aa.pre.subset D)with W|W;exact .inl W;grind
 have bc:∀x j,nU.rn x j∈l2->x≠j:=(by grind);have av:=oM bc w hb;have u:(fF F).Nodup:=by unfold fF at*;rw[k.1,(dD k.2.1).2]at av;exact av
 have B:∀x j,nU.rn ik dE=.rn x j->x≠j:=λx j W=>by grind
 have v:=wg A B u;have ax:=oM (by simp) C v;have al:qN g:=hC.Gm.ops RQ aa.nw ax;have ap:qN KA:=al.ops (by simp) C v;have t:qN F:=ap.step A B u;have ad:qN E:=t.pC k;have bk:LF s.next num (zU s.next (a'++b'++c'++d')++[.cr ik,.ap ik SB,.sy ik]):=(Ki<|λu hu=>(aa.pm u hu).2).Hk (λo D=>by have hn:wF s.next num ik:=.inl rfl;grind);obtain⟨oC,oS,oI⟩:=hC.Qy hS hI bk (jT.Hk aa.nw C) v (by omega) bo aa.O6.1 aa.O6.2;have bi:vO KA (λr=>LA s.next s.log tbqq a b c d lsqq j0 r\/Yo n num a' b' c' d' r):=(oC.Vr oS oI bn).mono<|λ_ q=>.inl q;have wA:∀x,pY (a'++b'++c'++d') x->x≠dE->zM KA x:=λx hu hx=>by refine EJ C al v<|.inl<|PW aa.nw hC.Gm ax ?_;rcases hu with W|⟨ao,p,W⟩;(grind);rcases(aa.pm ao p).1 with q|q;exact .inl<|hC.J5 x<|.inr ⟨ao,q,W⟩;grind
 have w2:∀x,pY (a'++b'++c'++d') x->zM E x:=λx hu=>by(have an:zM F x:=by by_cases W:x=dE;intro aU p;obtain⟨ao,j,h0,h1,_⟩:=A;rw[h1,kp,di W.symm]at p;cases p;exact EJ C al v (.inr rfl) ao h0;exact(wA x hu W).step A (λ_ q=>(by cases q)) (by grind) ap.names);exactλao hF=>an ao (by rw[<-k.1];exact hF)
 have wl:∀{m:ci nU}{i:DK},m<+:l2->jT m E i->qN i->(fF i).Nodup->∀x,pY (a'++b'++c'++d') x->zM i x:=λ{m i}V D ac au x hu=>by grind[zM.ops]
 have L:∀{m:ci nU}{i:DK},m<+:l2->jT m E i->mO (vw i.files) (num+1) num n a' b' c' d' bw []:=λ{m i}V D=>by obtain⟨bs,p⟩:=Qo (V.trans aa.pre) (jT.Hk bf D) aa.Z8;rw[p];exact S bs
 have hd:∀{m:ci nU}{i:DK},m<+:l2->jT m E i->qN i->(fF i).Nodup->y i.files<=4000000/\∀p r,Rr i (i.files.map aX.nm) p r->LA s.next s.log tbqq a b c d lsqq j0 r\/Yo n num a' b' c' d' r:=λ{m i}V D ac au=>by have ao:=L V D;have aU:=ao.tu ac;refine⟨aU.BY,λp r hv=>.inr ?_⟩;obtain⟨bq,bs,g1,g2,_⟩:=ao.Se (WD (by omega)<|by omega) (wl V D ac au) (Vo.YO aU) hv;rw[List.take_nil]at g2;exact⟨bq,g2⟩
 have bm:∀{m:ci nU}{i:DK},m<+:l2->jT m E i->qN i->(fF i).Nodup:=λ{m i}V D _=>by
  have q:(fF i).Perm (fF E):=by
   have an:∀{l:ci nU},(∀o∈l,o=.sd\/∃n,o=.rm n)->∀{K K':DK},jT l K K'->(LI K').Perm (LI K):=by
    intro l;induction l with
    |nil=>
     rintro _ K K' p;unfold LI;rw[p.1,(dD p.2.1).2]
    |cons o l ih=>
     rintro hk K K'⟨i,h1,h2⟩;refine(ih (λo q=>hk o<|dQ _ q) h2).trans<|Nb h1 (λx j W=>?_)<|(hk o<|by simp).imp id .inl;rcases hk o (by simp)with p|⟨_,p⟩<;>rw[p]at W<;>cases W
   have:=(an (λo q=>aV o<|V.subset q) D).map (·.1);unfold LI at this;rw[ee,ee]at this;exact this
  grind
 have bh:vO E (λr=>LA s.next s.log tbqq a b c d lsqq j0 r\/Yo n num a' b' c' d' r):=by refine vO.pC (vO.step bi A (by simp) B t ?_) k;have:=@hd [] F ⟨l2,rfl⟩ ⟨k.1.symm,k.2.1.symm,k.2.2.symm⟩ t u;exact this
 refine⟨⟨ad.ops bc w hb,vO.late aV bh ad w hb<|by grind⟩,λW=>?_⟩;rw[W]at w hd wl L bm;obtain⟨KS,O,bd⟩:=w;have aF:=oM (λx j q=>by grind) bd hb;have N:qN KS:=ad.step O (by simp) aF;have ba:jT [.sd] E KS:=⟨KS,O,qc.refl _⟩;have bb:[nU.sd]<+: .sd::f.map .rm:=⟨_,rfl⟩;have cS:uG KS num (a'++b'++c'++d'):=by refine⟨N,λp hk=>?_,wl bb ba N aF⟩;(have:p=y KS.eP:=by rw[O.2.2]at hk|-;simpa using hk);rw[this,N.now];exact Vo.YO<|(L bb ba).tu N
 refine uG.ops (λo q=>?_) cS bd hb<|λm i V hq hL=>(@L (.sd::m) _ ?_ ⟨KS,O,hq⟩).tu hL;obtain⟨bt,p,rfl⟩:=bH.1 q;exact aa.gone bt p;grind
theorem Ij.Vr(B:Ij s K K')(t:uG K s.log (a++b++c++d))(v:yf K s.log tbqq lsqq j0)(u:Hm (vw K.files) s.next s.log tbqq a b c d s.dO lsqq)(i:wE ((tbqq:U)+1) lsqq)(w:(fF K').Nodup)(C:s.next<=900000000000000)(j:y (a++b++c++d)<=1000000):qN K'/\vO K' (LA s.next s.log tbqq a b c d lsqq j0):=by
 obtain⟨l,D,m,p,q,r,_⟩:=B;obtain⟨k,A,x⟩:=t.Qy v u m p w (by omega) j q r;exact⟨k.Gm,k.Vr A x i⟩
end
abbrev RS:=ae->Option ae
structure P7(fs:Fs)(mem kK:U)(C N:M)(Rqq:ae->Option ae)(nx lg tb:M)(a b c d:cP)(dO:Bool)(ls:dX):Prop where
 rD:mO fs nx lg tb a b c d dO ls
 pr:PR tb (bV a b c d)
 lp:wE ((tb:U)+1) ls
 sI:y (gT [] ls.flatten)+y (cA a)+y (cA b)+y (cA c)+y (cA d)<=C
 s1:jn b
 s2:jn c
 s3:jn d
 nx:nx<=2+1000001*N
 bn:tb+y ls<=N
 tid:(((ls.map y).sum:M):U)<mem/\Lv kK a b c
 rl:∀q,seen (gT [] ls.flatten::(bV a b c d).map (kq ((tb+y ls:M):U))) q=Rqq q
def Ig(fs:Fs)(j h:U)(C N:M)(i:ae->Option ae):Prop:=∃l k tbqq a b c d e lsqq,P7 fs j h C N i l k tbqq a b c d e lsqq
section
variable{fs:Fs}{w:Y}{sbqq:M}{s:SR}{K:DK}{m:cU}{a b c d:cP}{C tbqq N:M}{lsqq:dX}{g:gL}{f:cU}
theorem Ig.mono{k e:U}{C' N':M}{j:ae->Option ae}(h:Ig fs k e C N j)(q:C<=C')(l:N<=N'):Ig fs k e C' N' j:=by
 obtain⟨nx,n,tbqq,a,b,c,d,o,lsqq,h⟩:=h;exact⟨nx,n,tbqq,a,b,c,d,o,lsqq,{h with sI:=by have:=h.sI;omega,nx:=by have:=h.nx;have:1000001*N<=1000001*N':=Nat.mul_le_mul_left _ l;omega,bn:=by have:=h.bn;omega}⟩
def pO(tbqq:M)(a b c d:cP)(lsqq:dX)(j:M):RS:=λq=>seen (gT [] (lsqq.take j).flatten::(bV a b c d).map (kq ((tbqq+j:M):U))) q
theorem wE.take{k:U}{lsqq:dX}(h:wE k lsqq)(o:M):wE k (lsqq.take o):=by
 refine⟨λl e=>h.jf l<|gC e,λp j x i=>?_,λl e=>h.one l<|gC e,Nat.lt_of_le_of_lt (yt lsqq o) h.sum,h.f0,?_⟩;rw[kA]at i;exact h.num p (by rw[dp]at j;omega) x i;have:=h.f1;rw[dp];omega
theorem Tm{l:cU}(k:wH l)(h:E):y l<=y (qY l h):=by
 unfold qY;rw[af,aO];induction l with
 |nil=>simp
 |cons x r j=>
  have n:=j k.tail;by_cases c1:jj x.key h.key=cf
  .grind
  .have o:r.filter (λe=>jj h.key e.key)=r:=fK.2 (λe i=>by
    have:=k.head e i;grind[la,nN])
   grind
theorem FL:∀(m:cU){l:cU},wH l->y l<=y (gT l m)
 |[],_,_=>ag _
 |e::m,_,h=>aB (Tm h e)<|FL m<|h.qY e
theorem MG{i e:U}{p t j:M}{h:Bool}(v:mO fs p t tbqq a b c d h (lsqq.take j))(A:j<=y lsqq)(o:PR tbqq (bV a b c d))(k:wE ((tbqq:U)+1) lsqq)(F:y (gT [] lsqq.flatten)+y (cA a)+y (cA b)+y (cA c)+y (cA d)<=C)(B:jn b)(D:jn c)(E:jn d)(n:p<=2+1000001*N)(x:tbqq+y lsqq<=N)(r:(((lsqq.map y).sum:M):U)<i/\Lv e a b c):Ig fs i e C N (pO tbqq a b c d lsqq j):=by
 refine⟨p,t,tbqq,a,b,c,d,h,lsqq.take j,v,o,k.take j,?_,B,D,E,n,by rw[dp];omega,⟨by have:=yt lsqq j;have:=r.1;omega,r.2⟩,λq=>?_⟩;have u:=FL (lsqq.drop j).flatten<|wH.gT (l:=[]) (by exact List.Pairwise.nil) (lsqq.take j).flatten;rw[<-pt,<-dW,bO]at u;omega;rw[dp,pA A];rfl
theorem Inv.L9{e:Bool}(h:Inv w sbqq s K m a b c d C tbqq N lsqq g)(k:(s.eG:U)<s.mem/\Lv s.kK a b c)(j:mO fs s.next s.log tbqq a b c d e lsqq):P7 fs s.mem s.kK C N (eM s.aP<|m::bV a b c d) s.next s.log tbqq a b c d e lsqq:=by
 refine⟨j,h.pr,h.lp,?_,h.st.s1,h.st.s2,h.st.s3,h.nx,by rw[<-h.DA];exact h.bn,by rw[<-h.Ot];exact k,λq=>?_⟩;have i:y (kq s.aP m)<=y m:=aB (xE _ _).length_le (by grind);rw[h.mem]at i;have:=h.st.sI;omega;rw[<-h.DA,<-h.mem];rfl
theorem Inv.j8(h:Inv w sbqq s K m a b c d C tbqq N lsqq g):pO tbqq a b c d lsqq (y lsqq)=eM s.aP (m::bV a b c d):=by
 funext q;unfold pO;rw[aY,<-h.DA,<-h.mem];rfl
theorem Inv.MG{k:M}(h:Inv w sbqq s K m a b c d C tbqq N lsqq g)(p:(s.eG:U)<s.mem/\Lv s.kK a b c)(o:LA s.next s.log tbqq a b c d lsqq k fs):∃j,k<=j/\j<=y lsqq/\Ig fs s.mem s.kK C N (pO tbqq a b c d lsqq j):=by
 obtain⟨q,j,l,i,n⟩:=o;have e:=h.L9 p h.left;exact⟨j,l,i,Proofs.YtbiejblbclolmaaGreatDoor.MG n i h.pr h.lp e.sI h.st.s1 h.st.s2 h.st.s3 h.nx e.bn e.tid⟩
theorem Inv.T8{o:M}(h:Inv w sbqq s K m a b c d C tbqq N lsqq g)(T:Lv s.kK a b c)(k:∀Q∈f,Q.Good)(A:∀Q∈f,Q.bQ=(s.aP:U)+1)(i:0<y f)(u:y f<=8)(E:(s.eG:U)+(y f:U)<s.mem)(x:LA s.next s.log tbqq a b c d (lsqq++[f]) o fs):∃n,o<=n/\n<=y lsqq+1/\Ig fs s.mem s.kK (C+y f) (N+1) (pO tbqq a b c d (lsqq++[f]) n):=by
 obtain⟨O,n,r,j,v⟩:=x;obtain⟨V,W,P⟩:=h.zV k A;have D:=h.DA;have e:=h.Ot;have L:=h.DX;have l:=h.jV;have B:=h.bn;have F:=h.nx;have p:gT [] (lsqq++[f]).flatten=gT (gT [] lsqq.flatten) f:=by rw[dW,pt];simp
 have q:((lsqq++[f]).map y).sum=s.eG+y f:=by rw[e];simp
 refine⟨n,r,by simpa using j,Proofs.YtbiejblbclolmaaGreatDoor.MG v j h.pr (h.lp.snoc k (by grind) ⟨i,u⟩ (by rw[<-e];omega)<|by omega) ?_ h.st.s1 h.st.s2 h.st.s3 (by omega) (by simp;omega)<|by grind⟩;have t:y (kq ((s.aP:U)+1)<|gh g m f)<=y (gh g m f):=aB (xE _ _).length_le (by grind);have S:=zj g m f;rw[P]at t;rw[p];have:=h.st.sI;omega
theorem Inv.j9(n:Inv w sbqq s K m a b c d C tbqq N lsqq g)(k:∀x∈f,x.Good)(j:∀x∈f,x.bQ=(s.aP:U)+1):pO tbqq a b c d (lsqq++[f]) (y lsqq+1)=eM ((s.aP:U)+1) (gh g m f::bV a b c d):=by
 obtain⟨o,p,l⟩:=n.zV k j;have e:=n.DA;have h:gT [] (lsqq++[f]).flatten=gT (gT [] lsqq.flatten) f:=by rw[dW,pt];simp
 have i:((tbqq+(y lsqq+1):M):U)=(s.aP:U)+1:=by rw[e];omega
 funext q;unfold pO;rw[dN (by simp),i,h,<-l];rfl
theorem IE{j:M}(e:j<=y lsqq):pO tbqq a b c d (lsqq++[f]) j=pO tbqq a b c d lsqq j:=by
 unfold pO;rw[dK e]
theorem Yp.qP{o num:M}{x:eF}{p:U->ae->Option ae}{e h i j:cP}(k:Yp s o C x p num e h i j)(l:Yo o num e h i j fs)(r:Lv s.kK e h i)(B:1<=s.mem)(v:s.next<=2+1000001*N)(t:o<=N+1)(A:N<=1000000000000000):Ig fs s.mem s.kK C (N+1) (p o):=by
 have u:=k.num;obtain⟨n,l⟩:=l;refine⟨num+1,num,o,e,h,i,j,n,[],l,k.pr,⟨by simp,by simp,by simp,by simp,by omega,by simp;omega⟩,by have:=k.sI;simpa[gT]using this,k.s1,k.s2,k.s3,by omega,by simpa using t,⟨by simp;omega,r⟩,λq=>?_⟩;rw[<-k.rl o (.inr<|sa _) q,<-lk];rfl
end
structure YB(K:DK)(s:SR)(T:cP)(tb:M)(ls:dX)(j0:M):Prop where
 Lf:uG K s.log T
 RA:yf K s.log tb ls j0
 lb:s.iU=bw->s.dO=cf->zM K (dj s.log)
 ln:s.gK=bw->s.dO=cf->∀k,k<=y K.eP->(iX K k).get (dj s.log)=vP K (dj s.log)
def CQ(K:DK)(s:SR)(a b c d:cP)(tbqq:M)(lsqq:dX)(Q:RS->Prop):Prop:=∃j0,YB K s (a++b++c++d) tbqq lsqq j0/\∀j,j0<=j->j<=y lsqq->Q (pO tbqq a b c d lsqq j)
def CP(K:DK)(mem tabqq:U)(C N:M)(Q:RS->Prop):Prop:=(qN K/\y K.eP<=1000000000000)/\vO K (λk=>∃j,Ig k mem tabqq C N j/\Q j)
section
variable{K K':DK}{lg tbqq nx j0 C C' N N' n num:M}{T a b c d a' b' c' d':cP}{h:Bool}{lsqq:dX}{o:nU}{l l2:ci nU}{s s':SR}{g:ci ae}{Q Q':RS->Prop}{mem tabqq:U}{w w':Y}{sbqq:M}{m i:cU}{f:gL}{e:cU}{bs:eF}
theorem CP.mono(v:CP K mem tabqq C N Q)(r:C<=C')(t:N<=N')(u:∀j,Q j->Q' j):CP K mem tabqq C' N' Q':=⟨v.1,v.2.mono<|λ_⟨j,k,q⟩=>⟨j,k.mono r t,u j q⟩⟩
theorem CP.pC(k:CP K mem tabqq C N Q)(j:qc K K'):CP K' mem tabqq C N Q:=⟨⟨k.1.1.pC j,by rw[j.2.2];exact k.1.2⟩,k.2.pC j⟩
theorem CQ.mono(t:CQ K s a b c d tbqq lsqq Q)(r:∀j,Q j->Q' j):CQ K s a b c d tbqq lsqq Q':=by
 obtain⟨j0,k,q⟩:=t;exact⟨j0,k,λv t u=>r _<|q v t u⟩
theorem YB.pC(v:YB K s T tbqq lsqq j0)(j:qc K K')(u:s'={s with closed:=s'.closed,zY:=s'.zY,mP:=s'.mP}):YB K' s' T tbqq lsqq j0:=by
 have k:s'.log=s.log:=by rw[u]
 have t:s'.dO=s.dO:=by rw[u]
 have x:s'.iU=s.iU:=by rw[u]
 have A:s'.gK=s.gK:=by rw[u]
 have q:=lT (dD j.2.1).1 j.2.2;refine⟨by rw[k];exact v.Lf.pC j,by rw[k];exact v.RA.pC j,?_,?_⟩;rw[k,t,x];exactλp r F hF=>v.lb p r F (by rw[<-j.1];exact hF);rw[k,t,A];exactλp r t k=>by rw[q t,v.ln p r t (by rw[<-j.2.2];exact k),fA,fA,j.1]
theorem CQ.pC(r:CQ K s a b c d tbqq lsqq Q)(p:qc K K')(q:s'={s with closed:=s'.closed,zY:=s'.zY,mP:=s'.mP}):CQ K' s' a b c d tbqq lsqq Q:=by
 obtain⟨j0,j,k⟩:=r;exact⟨j0,j.pC p q,k⟩
theorem Inv.cp(k:Inv w sbqq s K m a b c d C tbqq N lsqq f)(p:(s.eG:U)<s.mem/\Lv s.kK a b c)(r:CQ K s a b c d tbqq lsqq Q):CP K s.mem s.kK C N Q:=by
 obtain⟨j0,j,A⟩:=r;refine⟨⟨j.Lf.Gm,by have:=k.eP;have:=k.jV;omega⟩,(j.Lf.Vr j.RA k.left k.lp).mono<|λt q=>?_⟩;obtain⟨B,u,v,x⟩:=k.MG p q;grind
theorem YT{α:Type}{x:α}{l:ci α}(k:l<+:[x]):l=[]\/l=[x]:=by
 rcases l with _|⟨j,l⟩;exact .inl rfl;grind
theorem M0{α:Type}{x j:α}{l:ci α}(p:l<+:[x,j]):l=[]\/l=[x]\/l=[x,j]:=by
 rcases l with _|⟨k,l⟩;exact .inl rfl;grind[YT]
theorem QD(p:Vk K)(r:K'.files.map aX.nm=K.files.map aX.nm):Vk K':=by
 have j:∀n,vP K' n=vP K n:=λn=>by unfold vP;rw[r]
 have k:=bS y r;rw[bU,bU]at k;exact⟨λn v q=>p.names n v (by rw[<-j];exact q),λq n v m r t=>p.first (by rw[<-j];exact q) n v m (by rw[<-j];exact r) t,by rw[k];exact p.BY⟩
theorem F1(B:Vk K)(k:xH (.cr<|dj lg) K K')(t:lg<18446744073709551616)(D:vP K dE=none->lg<=2)(F:y K.files<4000000):Vk K':=by
 obtain⟨L,A,r,_,_,E⟩:=k;have j:∀n,n≠dj lg->vP K' n=vP K n:=λn q=>by rw[fA,fA,r,wB,dV,dt<|λj=>q j.symm];cases dV K.files n<;>rfl
 have k:=j dE<|λp=>ke _ p.symm;refine⟨λn x q=>?_,λq n x m v u=>?_,by rw[r,af];simp;omega⟩;by_cases p:n=dj lg;exact .inr<|.inr ⟨lg,t,.inr p⟩;exact B.names n x (by rw[<-j n p];exact q);rw[k]at q;by_cases p:n=dj lg;(grind[gI,yN]);exact B.first q n x m (by rw[<-j n p];exact v) u
theorem KN(A:lg<18446744073709551616):∀{l:ci nU}{K K':DK},Vk K->jT l K K'->(∀o∈l,(∃n bs,o=.ap n bs)\/(∃n,o=.sy n)\/o=.sd\/o=.cr (dj lg))->(vP K dE=none->lg<=2)->y K.files+y l<=4000000->Vk K'
 |[],K,K',D,P,_,_,_=>QD D<|by rw[P.1]
 |o::l,K,K',D,⟨k,t,L⟩,B,v,O=>by
  have r:Vk k/\(vP k dE=none->lg<=2)/\y k.files+y l<=4000000:=by
   rw[aO]at O;have j:k.files.map aX.nm=K.files.map aX.nm->Vk k/\(vP k dE=none->lg<=2)/\y k.files+y l<=4000000:=λx=>by
    have E:=bS y x;rw[bU,bU]at E;exact⟨QD D x,λq=>v (by unfold vP at*;rw[<-x];exact q),by omega⟩
   rcases B o (by simp)with⟨n,bs,rfl⟩|⟨n,rfl⟩|rfl|rfl
   .obtain⟨F,x,u,p,_⟩:=t;exact j (by rw[p];exact zn (Gqq:=F) (F:={F with data:=x,bytes:=F.bytes++bs}) (by show dV K.files F.name=H F;rw[(dq u).1];exact u) rfl)
   .obtain⟨F,u,p,_⟩:=t;exact j (by rw[p];exact zn (Gqq:=F) (F:={F with safe:=y F.bytes}) (by show dV K.files F.name=H F;rw[(dq u).1];exact u) rfl)
   .exact j<|by rw[t.1]
   .refine⟨F1 D t A v (by omega),λq=>v ?_,?_⟩
    .obtain⟨S,x,p,_,_,E⟩:=t;rw[fA,p,wB]at q;rw[fA];grind
    .obtain⟨S,x,p,_,_,E⟩:=t;rw[p,af];grind
  exact KN A r.1 L (λo q=>B o<|dQ _ q) r.2.1 r.2.2
theorem BG:¬pY T (dj lg):=by
 rintro(q|⟨t,_,q⟩);exact ke _ q;exact gI _ _ q.symm
theorem Inv.oY(j:Inv w sbqq s K m a b c d C tbqq N lsqq f)(p:qN K):s.log<18446744073709551616/\(vP K dE=none->s.log<=2)/\y K.files<=1000002:=by
 refine⟨by have:=j.rD.lt;have:=j.nx;have:=j.jV;omega,λq=>?_,?_⟩;rcases j.rD.state with k|⟨_,_,_,_,_,_,k,_⟩;rw[MV q]at k;cases k;omega;have k:=j.BY.len (by unfold vw;rw[ee];exact p.names);unfold vw at k;rwa[bU]at k
theorem VV(j:o∈qA s bs):(o=.cr (dj s.log)/\s.dO=bw)\/o=.ap (dj s.log) bs:=by
 unfold qA wC at j;grind
theorem YB.L7(A:YB K s (a++b++c++d) tbqq lsqq j0)(t:Inv w sbqq s K m a b c d C tbqq N lsqq f)(v:l<+:qA s bs)(D:jT l K K')(B:(fF K').Nodup):uG K' s.log (a++b++c++d)/\yf K' s.log tbqq lsqq j0:=by
 obtain⟨F,L,P⟩:=t.oY A.Lf.Gm;have j:∀{x:ci nU},x<+:qA s bs->y x<=2:=λq=>by have:=q.length_le;unfold qA wC at this;cases u:s.dO<;>rw[u]at this<;>simp at this<;>omega
 have k:∀o∈l,ZV s.log (a++b++c++d) o/\(0<j0->o≠ .cr (dj s.log))/\o≠ .sy (dj s.log):=λo q=>by rcases VV (v.subset q)with⟨rfl,u⟩|rfl;(refine⟨BG,λq=>?_,λr=>(by cases r)⟩;have:=A.RA.le;rw[t.rD.um u]at this;grind);exact⟨BG,λ_ r=>(by cases r),λr=>(by cases r)⟩
 refine⟨uG.ops (λo q=>(k o q).1) A.Lf D B<|λx O p E _=>?_,yf.ops (T:=a++b++c++d) k A.RA A.Lf.Gm D B⟩;refine KN F (t.left.tu A.Lf.Gm) E (λo q=>?_) L (by have:=j<|p.trans v;omega);rcases VV ((p.trans v).subset q)with⟨r,_⟩|r;grind
 grind
theorem yf.snoc(j:yf K lg tbqq lsqq j0):yf K lg tbqq (lsqq++[e]) j0:=by
 refine⟨by have:=j.le;rw[af];omega,j.log,λq F hF=>?_⟩;rw[dK j.le];exact j.R7 q F hF
theorem YS(k:Inv w sbqq s K m a b c d C tbqq N lsqq f)(E:s.pj=bw)(t:l<+:qA s (pq ((tbqq:U)+1+y lsqq) e))(x:jT l K K')(W:qN K):(∃L,mO (vw K'.files) s.next s.log tbqq a b c d L lsqq)\/mO (vw K'.files) s.next s.log tbqq a b c d cf (lsqq++[e]):=by
 obtain⟨O,n2,n3⟩:=k.oY W;have Hk:∀{j A:DK}{F:aX},xH (.ap (dj s.log)<|pq ((tbqq:U)+1+y lsqq) e) j A->dV j.files (dj s.log)=H F->F.bytes=kO ((tbqq:U)+1) lsqq->(∀n,n≠dj s.log->cX (vw j.files) n=cX (vw K.files) n)->mO (vw A.files) s.next s.log tbqq a b c d cf (lsqq++[e]):=λ{j A F}D hF u t=>by obtain⟨r,V,q,p,_⟩:=D;(obtain rfl:F=r:=by rw[hF]at q;cases q;rfl);refine k.left.l9 O k.BY<|λn=>?_;rw[p,wO,lI];show(if F.name=n then H (F.bytes++_)else _)=_;rw[(dq hF).1,u,IM];by_cases v:dj s.log=n;rw[di v,di v];grind
 cases hl:s.dO with
 |true=>
  unfold qA wC at t;rw[hl]at t;rcases YT t with rfl|rfl
  .exact .inl ⟨_,by rw[x.1];exact k.left⟩
  .obtain⟨j,p,B⟩:=x;obtain⟨F,P,S⟩:=ji<|k.pj E hl;rw[B.1];grind
 |false=>
  have v:=k.rD.um hl;have r:cX (vw K.files) (dj s.log)=none:=k.left.Dg hl;have u:∀{j:DK},xH (.cr<|dj s.log) K j->(∀n,cX (vw j.files) n=if dj s.log=n then H (kO ((tbqq:U)+1) lsqq)else cX (vw K.files) n)/\∃F,dV j.files (dj s.log)=H F/\F.bytes=kO ((tbqq:U)+1) lsqq:=λ{j}D=>by
   obtain⟨ac,aa,p,_,_,V⟩:=D;refine⟨λn=>?_,_,by rw[p,wB,V,dV,di rfl];rfl,by rw[v];rfl⟩;rw[p,show vw (K.files++[⟨dj s.log,ac,az,[],0⟩])=vw K.files++[(dj s.log,[])]by simp[vw],gu,v];by_cases q:dj s.log=n
   .rw[di q,<-q,r];simp[cX,kO]
   .rw[dt q];cases cX (vw K.files) n<;>simp[cX,q]
  unfold qA wC at t;rw[hl]at t;rcases M0 t with rfl|rfl|rfl
  .exact .inl ⟨_,by rw[x.1];exact k.left⟩
  .obtain⟨j,p,B⟩:=x;rw[B.1];exact .inl ⟨cf,k.left.l9 O k.BY (u p).1⟩
  .obtain⟨j,p,A,B,q⟩:=x;obtain⟨P,F,S,V⟩:=u p;rw[q.1];grind
theorem EZ{j k:ci aX}(p:j.Perm k):eV j=eV k:=(p.map _).sum_nat
theorem MH(q:jT (qA s bs) K K'):eV K'.files=eV K.files+y bs:=by
 have cr:∀{j k:DK}{n:ae},xH (.cr n) j k->eV k.files=eV j.files:=λt=>by obtain⟨x,v,p,_⟩:=t;rw[p];simp[eV]
 have u:∀{j k:DK}{n:ae},xH (.ap n bs) j k->eV k.files=eV j.files+y bs:=λ{j k n}t=>by obtain⟨F,B,v,p,_⟩:=t;have x:=EZ<|nB v;have A:=EZ<|tD j.files {F with data:=B,bytes:=F.bytes++bs};rw[p,A,x];simp only[eV,bR,vu,af,(dq v).1];omega
 unfold qA wC at q;cases hl:s.dO with
 |true=>
  rw[hl]at q;obtain⟨j,p,r⟩:=q;rw[r.1,u p]
 |false=>
  rw[hl]at q;obtain⟨j,p,k,r,v⟩:=q;rw[v.1,u r,cr p]
theorem CQ.T7(av:CQ K s a b c d tbqq lsqq Q)(j:Inv w sbqq s K m a b c d C tbqq N lsqq f)(W:(s.eG:U)<s.mem/\Lv s.kK a b c)(L:s.pj=bw)(B:∀ap∈e,ap.Good)(r:∀ap∈e,ap.bQ=(s.aP:U)+1)(t:0<y e)(V:y e<=8)(D:(s.eG:U)+(y e:U)<s.mem)(F:l<+:qA s (pq ((tbqq:U)+1+y lsqq) e))(E:jT l K K')(hb:(fF K').Nodup):CP K' s.mem s.kK (C+y e) (N+1) (λp=>Q p\/p=eM ((s.aP:U)+1) (gh f m e::bV a b c d)):=by
 obtain⟨j0,S,h2⟩:=av;obtain⟨v,P⟩:=S.L7 j F E hb;refine⟨⟨v.Gm,by have O:=zo E;have k:=F.length_le;have u:=j.eP;have A:=j.jV;unfold qA wC at k;rw[af]at k;split at k<;>simp only[aO,dB]at k<;>omega⟩,?_⟩;rcases YS j L F E S.Lf.Gm with⟨ao,x⟩|x;refine(v.Vr P x j.lp).mono<|λfs q=>?_;obtain⟨ad,O,k,u⟩:=j.MG W q;exact⟨_,u.mono (by omega) (by omega),.inl<|h2 ad O k⟩;have aa:=j.DA;have A:=j.Ot;have an:=j.DX;have ac:=j.jV;have al:=j.bn;refine(v.Vr P.snoc x<|j.lp.snoc B (by grind) ⟨t,V⟩ (by rw[<-A];omega)<|by omega).mono<|λfs q=>?_;obtain⟨ad,O,k,u⟩:=j.T8 W.2 B r t V D q;refine⟨_,u,?_⟩;by_cases au:ad<=y lsqq;(rw[IE au];grind);(obtain rfl:ad=y lsqq+1:=by omega);exact .inr<|j.j9 B r
theorem CQ.rec{mv:ab}{t:Bool}(ad:CQ K s a b c d tbqq lsqq Q)(D:Inv w sbqq s K m a b c d C tbqq N lsqq f)(hg:∀F∈e,F.Good)(v:∀F∈e,F.bQ=(s.aP:U)+1)(r:jT (qA s<|pq ((tbqq:U)+1+y lsqq) e) K K')(u:(fF K').Nodup)(p:(s.dO=bw->t=cf)/\(s.dO=cf->t=s.gK)):CQ K' (s.zV mv (y e) t) a b c d tbqq (lsqq++[e]) (λk=>Q k\/k=eM ((s.aP:U)+1) (gh f m e::bV a b c d)):=by
 obtain⟨j0,B,h2⟩:=ad;obtain⟨V,W⟩:=B.L7 D (gy _) r u;refine⟨j0,⟨V,W.snoc,λq=>(by cases q),λq _ E hk=>?_⟩,λac q1 q2=>?_⟩
 .have q:t=bw:=q;cases hl:s.dO with
  |false=>rw[p.1 hl]at q;cases q
  |true=>
   rw[p.2 hl]at q;unfold qA wC at r;rw[hl]at r;obtain⟨L,s1,j⟩:=r;have aa:(fF L).Nodup:=by
    unfold fF at*;rw[j.1,(dD j.2.1).2]at u;exact u
   obtain⟨al,F,x,P,S,A⟩:=s1;have O:iX K' E=iX K E:=lT ((dD j.2.1).1.trans (dD S).1) (j.2.2.trans A) E;show(iX K' E).get (dj s.log)=vP K' (dj s.log);rw[O,B.ln q hl E (by rw[<-A,<-j.2.2];exact hk),fA,fA,j.1,P,kp,di (dq x).1,x];rfl
 by_cases j:ac<=y lsqq;(rw[IE j];grind);(obtain rfl:ac=y lsqq+1:=by rw[af]at q2;grind);exact .inr<|D.j9 hg v
theorem YB.X8(u:YB K s (a++b++c++d) tbqq lsqq j0)(B:Inv w sbqq s K m a b c d C tbqq N lsqq f)(x:l<+:nM s)(q:jT l K K')(F:(fF K').Nodup):uG K' s.log (a++b++c++d)/\yf K' s.log tbqq lsqq j0:=by
 obtain⟨P,S,V⟩:=B.oY u.Lf.Gm;have E:∀F,dV K.files (dj s.log)=H F->F.safe<=y F.bytes:=λF hF=>(B.st.aH.files F (dq hF).2.1).2.2.2.2.1;have sy:∀{j:DK},xH (.sy<|dj s.log) K j->(fF j).Nodup->uG j s.log (a++b++c++d)/\yf j s.log tbqq lsqq j0:=λ{j}k A=>by have c1:=u.Lf.step k BG A<|λ_=>KN P (l:=[.sy<|dj s.log]) (B.left.tu u.Lf.Gm) ⟨j,k,qc.refl _⟩ (by simp) S (by simp;omega);exact⟨c1,u.RA.step (T:=a++b++c++d) k BG (λ_ L=>(by cases L)) (λ_=>E) c1.Gm⟩
 have O:∀{j v:DK},uG j s.log (a++b++c++d)/\yf j s.log tbqq lsqq j0->xH .sd j v->(fF v).Nodup->uG v s.log (a++b++c++d)/\yf v s.log tbqq lsqq j0:=λ{j v}r k D=>by have c2:=r.1.step (o:=.sd) k trivial D (λ_=>by have A:=r.1.G5 _<|ag _;rw[r.1.Gm.now]at A;have:Vk j:=⟨A.names,A.first,by have:=A.BY;rwa[bU]at this⟩;exact QD this<|by rw[k.1]);exact⟨c2,r.2.step (T:=a++b++c++d) k trivial (λ_ L=>(by cases L)) (λL=>(by cases L)) c2.Gm⟩
 have fin:∀{j:DK},uG j s.log (a++b++c++d)/\yf j s.log tbqq lsqq j0->qc j K'->uG K' s.log (a++b++c++d)/\yf K' s.log tbqq lsqq j0:=λr k=>⟨r.1.pC k,r.2.pC k⟩;have DY:∀{j:DK},qc j K'->(fF j).Nodup:=λ{j}k=>by unfold fF at*;rw[k.1,(dD k.2.1).2]at F;exact F
 unfold nM at x;cases e1:s.iU<;>cases e2:s.gK<;>rw[e1,e2]at x;rw[List.prefix_nil.1 x]at q;exact fin ⟨u.Lf,u.RA⟩ q;rcases YT x with rfl|rfl;exact fin ⟨u.Lf,u.RA⟩ q;obtain⟨j,t,p⟩:=q;exact fin (O ⟨u.Lf,u.RA⟩ t<|DY p) p;rcases YT x with rfl|rfl;exact fin ⟨u.Lf,u.RA⟩ q;obtain⟨j,t,p⟩:=q;exact fin (sy t<|DY p) p;rcases M0 x with rfl|rfl|rfl;exact fin ⟨u.Lf,u.RA⟩ q;obtain⟨j,t,p⟩:=q;exact fin (sy t<|DY p) p;obtain⟨j,t,v,p,A⟩:=q;exact fin (O (sy t<|wg p (by simp)<|DY A) p<|DY A) A
theorem B6(j:Inv w sbqq s K m a b c d C tbqq N lsqq f)(k:vw K'.files=vw K.files):mO (vw K'.files) s.next s.log tbqq a b c d s.dO lsqq:=by rw[k];exact j.left
theorem CQ.L4(L:CQ K s a b c d tbqq lsqq Q)(j:Inv w sbqq s K m a b c d C tbqq N lsqq f)(v:(s.eG:U)<s.mem/\Lv s.kK a b c)(r:l<+:nM s)(p:jT l K K')(A:vw K'.files=vw K.files)(x:(fF K').Nodup):CP K' s.mem s.kK C N Q:=by
 obtain⟨j0,u,O⟩:=L;obtain⟨k,t⟩:=u.X8 j r p x
 refine⟨⟨k.Gm,by
  have B:=zo p;have D:=r.length_le;have E:=j.eP;have P:=j.jV;have S:y (nM s)<=2:=by unfold nM;split<;>split<;>simp
  omega⟩,(k.Vr t (B6 j A) j.lp).mono (λF q=>?_)⟩
 obtain⟨V,B,D,E⟩:=j.MG v q;grind
theorem YB.X9(V:YB K s (a++b++c++d) tbqq lsqq j0)(L:Inv w sbqq s K m a b c d C tbqq N lsqq f)(u:jT (nM s) K K')(hf:vw K'.files=vw K.files)(hb:(fF K').Nodup):uG K' s.log (a++b++c++d)/\yf K' s.log tbqq lsqq (y lsqq)/\(s.dO=cf->zM K' (dj s.log)/\∀k,k<=y K'.eP->(iX K' k).get (dj s.log)=vP K' (dj s.log)):=by
 obtain⟨S,g2⟩:=V.X8 L (gy _) u hb;have v:s.dO=cf->zM K' (dj s.log)/\∀k,k<=y K'.eP->(iX K' k).get (dj s.log)=vP K' (dj s.log):=λD=>by(have pC:∀{j:DK},qc j K'->zM j (dj s.log)->(∀k,k<=y j.eP->(iX j k).get (dj s.log)=vP j (dj s.log))->zM K' (dj s.log)/\∀k,k<=y K'.eP->(iX K' k).get (dj s.log)=vP K' (dj s.log):=λ{j}r F O=>by refine⟨λP hF=>F P (by rw[<-r.1];exact hF),λk B=>?_⟩;rw[lT (dD r.2.1).1 r.2.2 k,O k (by rw[<-r.2.2];exact B),fA,fA,r.1]);(have W:∀{j p:DK},xH .sd j p->qc p K'->∀k,k<=y p.eP->(iX p k).get (dj s.log)=vP p (dj s.log):=λ{j p}r O k B=>by have F:qN p:=S.Gm.pC ⟨O.1.symm,O.2.1.symm,O.2.2.symm⟩;(have:k=y p.eP:=by rw[r.2.2]at B|-;simpa using B);rw[this,F.now];rfl);(have sy:∀{j:DK},xH (.sy<|dj s.log) K j->(∀k,k<=y K.eP->(iX K k).get (dj s.log)=vP K (dj s.log))->∀k,k<=y j.eP->(iX j k).get (dj s.log)=vP j (dj s.log):=λ{j}r q k B=>by obtain⟨P,F,f1,f2,O⟩:=r;rw[lT (dD f2).1 O k,q k (by rw[<-O];exact B),fA,fA,f1,kp,di (dq F).1,F];rfl);have E:∀{j p:DK},xH .sd j p->zM j (dj s.log)->zM p (dj s.log):=λr q P hF=>q P (by rw[<-r.1];exact hF);unfold nM at u;cases e1:s.iU<;>cases e2:s.gK<;>rw[e1,e2]at u;exact pC u (V.lb e1 D)<|V.ln e2 D;obtain⟨j,x,A⟩:=u;exact pC A (E x<|V.lb e1 D)<|W x A;obtain⟨j,x,A⟩:=u;exact pC A (zM.sy x)<|sy x<|V.ln e2 D;obtain⟨j,x,p,A,F⟩:=u;exact pC F (E A<|zM.sy x)<|W A F
 have t:0<y lsqq->s.dO=cf:=λq=>by
  cases D:s.dO with
  |true=>rfl
  |false=>rw[L.rD.um D]at q;simp at q
 refine⟨S,⟨ag _,λq=>(v<|t q).2,λq P hF=>?_⟩,v⟩;rw[aY,(v<|t q).1 P hF];obtain⟨jk,_,aa⟩:=L.rD.log<|t q;rw[<-hf,kQ,hF]at aa;rw[gP aa,zJ,af];omega
theorem CQ.sf(B:CQ K s a b c d tbqq lsqq Q)(p:Inv w sbqq s K m a b c d C tbqq N lsqq f)(A:jT (nM s) K K')(x:vw K'.files=vw K.files)(v:(fF K').Nodup):CQ K' {s with iU:=bw,gK:=bw} a b c d tbqq lsqq (λj=>j=eM s.aP (m::bV a b c d)):=by
 obtain⟨j0,u,D⟩:=B;obtain⟨r,t,k⟩:=u.X9 p A x v;refine⟨y lsqq,⟨r,t,λ_ q=>(k q).1,λ_ q=>(k q).2⟩,λE F L=>?_⟩;rw[show E=y lsqq by omega,p.j8]
theorem CQ.o7{ms:eF}{v:U->RS}(ac:CQ K s a b c d tbqq lsqq Q)(k:Inv w sbqq s K m a b c d C tbqq N lsqq f)(P:(s.eG:U)<s.mem/\Lv s.kK a b c)(B:(fF K').Nodup)(S:n<=N+1)(O:C<=C')(W:Ij s K K'\/∃num a' b' c' d' g l2,Yp s n C' ms v num a' b' c' d'/\Lv s.kK a' b' c'/\DG s n K K' (a++b++c++d) num a' b' c' d' g l2):CP K' s.mem s.kK C' (N+1) (λj=>Q j\/j=v n):=by
 obtain⟨j0,u,L⟩:=ac;have D:=k.jV;have V:=k.nx;have nh:∀{x:Fs},LA s.next s.log tbqq a b c d lsqq j0 x->∃j,Ig x s.mem s.kK C' (N+1) j/\(Q j\/j=v n):=λq=>by obtain⟨ad,p,r,q3⟩:=k.MG P q;exact⟨_,q3.mono O (by omega),.inl<|L ad p r⟩
 rcases W with aa|⟨num,a',b',c',d',g,l2,E,F,A⟩;obtain⟨p,r⟩:=aa.Vr u.Lf u.RA k.rD k.lp B (by omega) k.CI;exact⟨⟨p,by obtain⟨_,_,_,_,_,_,t⟩:=aa;have:=k.eP;omega⟩,r.mono<|λ_=>nh⟩;obtain⟨⟨p,r⟩,_⟩:=A.Vr u.Lf u.RA k.rD k.lp B (by omega) (by omega) k.CI;refine⟨⟨p,by obtain⟨_,t⟩:=A;have:=t.eP;have:=k.eP;omega⟩,r.mono<|λx q=>q.elim nh<|λq=>?_⟩;exact⟨_,E.qP q F k.DX.1 k.nx S (by omega),.inr rfl⟩
theorem CQ.late{E F L O:ab}{p:RS}(S:CQ K s a b c d tbqq lsqq Q)(j:Inv w sbqq s K m a b c d C tbqq N lsqq f)(u:(fF K').Nodup)(W:n<=N+1)(B:∃g,DG s n K K' (a++b++c++d) num a' b' c' d' g<|.sd::g.map .rm)(A:∀q,eM n (bV a' b' c' d') q=p q):CQ K' (s.settled E F L O n num) a' b' c' d' n [] (λk=>k=p):=by
 obtain⟨j0,r,V⟩:=S;have t:=j.jV;have v:=j.nx;obtain⟨g,P⟩:=B;have c1:=(P.Vr r.Lf r.RA j.rD j.lp u (by omega) (by omega) j.CI).2 rfl;refine⟨0,⟨c1,⟨bK _,(by simp),(by simp)⟩,λ_ q=>(by cases q),λ_ q=>(by cases q)⟩,λaa q1 D=>?_⟩;obtain rfl:aa=0:=by simpa using D
 funext q;rw[<-A q,<-lk];rfl
end
def Inv.mono{o b q r:cP}{C C' d N N':M}{l:gL}(h:Inv a c W g e o b q r C d N m l)(s:C<=C')(j:C'<=1000000)(n:N<=N')(k:N'<=100000000):Inv a c W g e o b q r C' d N' m l:={h with st:={h.st with sI:=by have:=h.st.sI;omega,jV:=j},nx:=by have:=h.nx;have:1000001*N<=1000001*N':=Nat.mul_le_mul_left _ n;omega,bn:=by have:=h.bn;omega,eP:=by have:=h.eP;omega,jV:=k}
def Inv.fa{s s':SR}{E b K L:cP}{v:gL}(h:Inv a c s g e E b K L i l F m v)(p:c<z (G a))(u:fO a f s.aH c g x)(n:vw x.files=vw g.files)(N:y x.eP<=y g.eP)(d:s'={s with iU:=s'.iU,gK:=s'.gK,closed:=s'.closed})(o:s'.iU=cf->s.dO=cf):Inv f c s' x e E b K L i l F m v:=by
 have q:=(h.st.fa p u n).fields (s':=s') (by rw[d];grind) (by rw[d]);have r:s'.next=s.next:=by rw[d]
 have t:s'.log=s.log:=by rw[d]
 have k:s'.dO=s.dO:=by rw[d]
 have j:s'.aP=s.aP:=by rw[d]
 have w:s'.eG=s.eG:=by rw[d]
 have A:s'.pj=s.pj:=by rw[d]
 have B:s'.mem=s.mem:=by rw[d]
 have C:s'.kK=s.kK:=by rw[d]
 have D:s'.aH=s.aH/\s'.mP=s.mP:=by rw[d];grind
 exact⟨q,by rw[n,r,t,k];exact h.rD,h.pr,h.lp,by rw[j];exact h.mem,by rw[j];exact h.Vp,h.n9,h.I5,(h.AP.fa u).fields D,by rw[j];exact h.Yy,by rw[j];exact h.DA,by rw[w];exact h.Ot,by rw[n,t,k,A];exact h.pj,h.DY,by rw[r];exact h.nx,by rw[j];exact h.bn,by have:=h.eP;omega,by rw[B,C];exact h.DX,by rw[k];exact o,h.jV⟩
def xe{l:ci nU}(t:l<+:nM W)(f:jT l g x):vw x.files=vw g.files/\y x.eP<=y g.eP:=by
 have h:∀l:ci nU,(∀o∈l,(∃s,o=.sy s)\/o=.sd)->∀g,jT l g x->vw x.files=vw g.files/\y x.eP<=y g.eP:=by
  intro l;induction l with
  |nil=>
   rintro _ g⟨d,_,a⟩;rw[d,a];exact⟨rfl,ag _⟩
  |cons o l r=>
   rintro k g⟨m,d,e⟩;obtain⟨j,c⟩:=r (λx a=>k x<|dQ _ a) m e;rcases k o lh with⟨s,rfl⟩|rfl
   .obtain⟨F,a,n,_,p⟩:=d;have e:cX (vw g.files) s=H F.bytes:=by rw[kQ,a];rfl
    refine⟨?_,by rw[<-p];exact c⟩;rw[j,n,wO];simp only[(dq a).1];rw[zB e]
   .obtain⟨a,_,n⟩:=d;refine⟨by rw[j,a],?_⟩;rw[n]at c;simp at c;rw[c];simp
 refine h l (λo f=>?_) g f;have:=t.subset f;unfold nM at this;simp only[aA]at this;rcases this with q|q;by_cases i:W.iU=cf;rw[di i]at q;exact .inl ⟨_,cL.1 q⟩;rw[dt i]at q;cases q;by_cases i:W.gK=cf;rw[di i]at q;exact .inr<|cL.1 q;rw[dt i]at q;cases q
def SfP(w e:Y)(a:M)(s:SR)(k:U)(K:DK)(n:cU)(h i j m:cP)(C d N:M)(c:dX)(f:gL)(g:Ending):Prop:=(g=aN .nilIface/\∃b,fO w e s.aH a K b/\cW e a {s with iU:=bw,gK:=bw} k/\Inv e a {s with iU:=bw,gK:=bw} b n h i j m C d N c f/\jT (nM s) K b)\/∃v b,g=aN v/\Vf w e a s k K b v/\vw b.files=vw K.files/\∃l,l<+:nM s/\jT l K b
def Inv.safe{C b u D:cP}{s:gL}(h:Inv a c W g e C b u D i l V m s)(p:cW a c W k):cY bA 62 #[aD c] a λE t=>SfP a t c W k g e C b u D i l V m s E:=by
 refine(BE p h.st.aH h.st.xM h.st.kI.pow (by have:=h.rD.lt;have:=h.nx;have:=h.jV;omega) (λq=>(h.rD.log<|h.loose q).elim<|λ_ K=>⟨_,K.2⟩) (by have:=h.eP;have:=h.jV;omega)).mono ?_;rintro E t⟨P,o,N,O,rfl,n,d,A⟩;rcases n.wG with⟨rfl,j⟩|⟨L,q,u,r,j,rfl,B,x⟩;obtain⟨rfl,rfl⟩:=A rfl;obtain⟨v,w⟩:=xe (gy _) j;exact .inl ⟨rfl,o,n.pa,d,h.fa (ak p) n.pa v w rfl<|λq=>(by cases q),j⟩;exact .inr ⟨_,o,rfl,⟨n.pa,⟨_,d,rfl,rfl⟩,q,u,rfl,B,x⟩,(xe r j).1,L,r,j⟩
theorem GG{c:LH}(a:1<=c.key.size/\c.key.size<=8)(f:c.del=bw->c.val.size<=16)(b:0<=k)(d:k<18446744073709551616):(kV k c).Good:=by
 refine⟨a.1,a.2,?_,?_,b,d⟩
 .unfold kV;cases q:c.del with
  |true=>simp[ByteArray.size]
  |false=>grind
 intro q;have e:c.del=cf:=q;simp[kV,e]
def GY(s:SR)(a b c:cP):Prop:=(s.eG:U)<s.mem/\Lv s.kK a b c
structure JH(w w':Y)(sb:M)(s:SR)(k:U)(K:DK)(C N:M)(sn:gL)(nb:M)(R0:U->ae->Option ae)(s':SR)(K':DK)(m':cU)(a' b' c' d':cP)(tb':M)(ls':dX):Prop where
 box:cW w' sb s' k
 inv:Inv w' sb s' K' m' a' b' c' d' C tb' N ls' sn
 rl:∀t,(t∈tB sn\/t=(nb:U))->∀q,eM t (m'::bV a' b' c' d') q=R0 t q
 fa:fO w w' s.aH sb K K'
 same:s'.aH=s.aH/\s'.closed=s.closed/\s'.mem=s.mem/\s'.kK=s.kK/\s'.zY=s.zY/\s'.mP=s.mP
 DA:s'.aP=nb
 tid:GY s' a' b' c'
def ZY(b:Bool)(Q:RS->Prop)(c:RS):RS->Prop:=λa=>(b=bw/\Q a)\/a=c
def Z2(s:SR)(K:DK)(n:M)(a:SR)(b:DK):Prop:=s.pj=bw->(s.eG:U)+(n:U)<s.mem->a.eG=s.eG+n/\a.pj=bw/\eV b.files<=eV K.files+400
def ZX(s:SR)(K:DK)(n:M)(P:RS->Prop)(d:SR)(c:DK)(b:M)(a:dX)(e f g h:cP):Prop:=CQ c d e f g h b a P/\Z2 s K n d c
abbrev PX:=SR->DK->M->dX->cP->cP->cP->cP->Prop
def Vm(w o:Y)(b:M)(s:SR)(p:U)(K:DK)(C N:M)(n:gL)(m:M)(k:U->ae->Option ae)(d:PX):Prop:=∃j e l f g h i c a,JH w o b s p K C N n m k j e l f g h i c a/\d j e c a f g h i
def fO.cz{w d w':Y}(h:fO d w' c i g x)(a:Z aw w d):fO w w' c i g x:=⟨h.ok,(a.mono (T:=λk=>g.aL c k\/k=i) cJ).trans h.aj<|λ_ q=>.inl q,λk q=>(h.aL k q).imp id<|λe=>aB a.size e,h.fx⟩
def Vm.aj{w o w':Y}{n:gL}{m:M}{j:U->ae->Option ae}{a:PX}(h:Vm o w' c W k g l V n m j a)(t:Z aw w o):Vm w w' c W k g l V n m j a:=by
 obtain⟨s',p,v,q,b',r,s,e,d,h,u⟩:=h;exact⟨s',p,v,q,b',r,s,e,d,⟨h.box,h.inv,h.rl,h.fa.cz t,h.same,h.DA,h.tid⟩,u⟩
def Vf.aj{w e w':Y}{a:DK}(h:Vf e w' c W k g a d)(j:Z aw w e):Vf w w' c W k g a d:=⟨h.fa.cz j,h.box,h.err⟩
def Z3(w e:Y)(b:M)(s:SR)(k:U)(K:DK)(C N:M)(Q:RS->Prop)(d:RS)(f:Ending):Prop:=∃v c,f=aN v/\Vf w e b s k K c v/\CP c s.mem s.kK C N (λa=>Q a\/a=d)
def Vl(w e:Y)(a:M)(s:SR)(k:U)(K:DK)(C N:M)(f:gL)(d:M)(Q:RS->Prop)(c:U->RS)(b:PX)(v:ab):Prop:=(v=.nilIface/\Vm w e a s k K C N f d c b)\/Z3 w e a s k K C N Q (c d) (aN v)
def Vl.aj{w n w':Y}{m:gL}{j:M}{Q:RS->Prop}{e:U->RS}{a:PX}(p:Vl n w' c W k g l V m j Q e a d)(h:Z aw w n):Vl w w' c W k g l V m j Q e a d:=p.imp (λq=>⟨q.1,q.2.aj h⟩)<|λ⟨d,o,s,r,p⟩=>⟨d,o,s,r.aj h,p⟩
def Inv.zp{d:gL}(n:Inv a b W g e j p u v c i l m d)(f:k∈tB d\/k=(W.aP:U))(q:ae):eM k (e::bV j p u v) q=eM k (gh d e []::bV j p u v) q:=by
 unfold eM;rw[show gh d e []=dZ (tB d) e from rfl,JX n.row<|f.imp_right (λo x h=>by rw[o];exact(n.Vp x h).2)]
def nk(n:M)(a:cU):M:=if y a=0 then n else n+1
def YP(s:gL){Q:oR}(K:Bool)(h:cW a b W k)(hV:Inv a b W g e j p u v c l F m s)(hT:GY W j p u){bi:RS->Prop}(hq:CQ g W j p u v l m bi)(hc:Hh a d Q)(h8:y Q<=8)(hk:∀bg∈Q,1<=bg.key.size/\bg.key.size<=8)(hv:∀bg∈Q,bg.del=bw->bg.val.size<=16)(cl:∀bg∈Q,bg.val.size<=140737488351232)(hC:c+y Q<=1000000)(hN:F+1<=100000000)(bv:EH g.fx\/eV g.files<=999999000/\(W.eG:U)+(y Q:U)<W.mem/\W.pj=bw):cY bA 35 #[aD b,d,aM K] a λbs w'=>∃cn,bs=aN cn/\Vl a w' b W k g (c+y Q) (F+1) s (nk W.aP<|Q.map<|kV<|(W.aP:U)+1) bi (λbf=>eM bf<|gh s e (Q.map<|kV<|(W.aP:U)+1)::bV j p u v) (ZX W g (y<|Q.map<|kV<|(W.aP:U)+1)<|ZY K bi<|eM (nk W.aP<|Q.map<|kV<|(W.aP:U)+1)<|gh s e (Q.map<|kV<|(W.aP:U)+1)::bV j p u v) cn:=by
 have ck:=ak h;have dm:=hV.bn;have aa:=Xv ((W.aP:U)+1) hc (by omega)<|λbg hx=>⟨by have:=(hk bg hx).2;omega,cl bg hx⟩;obtain⟨f,ax⟩:∃f,Q.map (kV<|(W.aP:U)+1)=f:=⟨_,rfl⟩;rw[ax]at aa|-;have bu:y f=y Q:=by rw[<-ax];simp
 have aU:∀bg∈f,bg.Good:=λbg hx=>by rw[<-ax]at hx;grind[GG]
 have bo:∀bg∈f,bg.bQ=(W.aP:U)+1:=λbg hx=>by rw[<-ax]at hx;obtain⟨o,r,rfl⟩:=bH.1 hx;rfl
 obtain⟨ec,eb,cw⟩:=zu hc;subst cw;rw[<-bu]at aa hC h8 bv|-;have k9:=cW.cellAt h 9 rfl;have ea:IntKind.u64.wrap ((W.aP:U)+1)=(W.aP:U)+1:=by rw[eZ];omega
 obtain⟨HH,HV,HG,ad,P,HQ⟩:=lw h hV aU bo hT hq;have ds:y Q=y f:=bu.symm;clear h hV aU bo hc hk hv cl ax bu hT hq;go_in
 go_wp2_with fail
 apply aa.mono;rintro bs w1⟨v1,rfl,bl,bd⟩;obtain⟨x1,c1,cM⟩:=aC bl;subst cM;have bt:fO a w1 W.aH b g g:=⟨HV.st.aH.aj bd<|λ_ _=>id,bd.mono cJ,λ_ q=>.inl q,Fx.refl _⟩;have cc:cW w1 b W k:=(bd.block b ck id).trans HH;have bT:Inv w1 b W g e j p u v c l F m s:=HV.fa ck bt rfl (ag _) rfl HV.loose;have hA1:∀q,cI (I x1 (y f) c1)=H q->Aside w1 g W.aH b q:=λq hq=>by have o:=bl.lt q hq;exact⟨o.2,λcT=>by have:=HV.st.aH.lt q cT;omega,by omega⟩
 obtain⟨bL,au,B,x,bx,db⟩:=lw bl bd cc bT hA1 bt;clear bl bd cc bT hA1 bt aa HV HH;by_cases hz:y f=0
 .have o:f=[]:=aS hz;have cx:¬(0:U)<(y f:U):=by omega
  cases K with
  |true=>
   have V:=x.safe B;go_wp2_with fail
   apply V.mono;rintro bs w2(⟨rfl,K2,L,S,N,E⟩|⟨v2,K2,rfl,O,r,l2,ba,E⟩)
   .have HP:=X<|show Vl w1 w2 b W k g (c+y f) (F+1) s (nk W.aP f) bi (λbf=>eM bf<|gh s e f::bV j p u v) (ZX W g (y f)<|ZY cf bi<|eM (nk W.aP f)<|gh s e f::bV j p u v) .nilIface from .inl ⟨rfl,_,K2,e,j,p,u,v,l,m,⟨S,N.mono (by omega) hC (by omega) hN,λbf ht q=>by rw[o]at ht|-;exact N.zp ht q,L,⟨rfl,rfl,rfl,rfl,rfl,rfl⟩,by rw[o];rfl,P⟩,(HQ.sf x E (xe (gy _) E).1 L.ok.fF).mono<|λbk q=>.inr<|q.trans (show eM W.aP (e::bV j p u v)=eM (nk W.aP f) (gh s e f::bV j p u v)from by funext q;rw[o];exact x.zp (.inr rfl) q),λq _=>⟨by rw[hz];rfl,q,by rw[wa,wa,(xe (gy _) E).1];omega⟩⟩;clear L E S N V;go_wp2;go_ret;exact⟨_,rfl,HP.aj au⟩
   .obtain⟨q2,c2,rfl,r3,r4⟩:=O.err;have HP:=X<|show Vl w1 w2 b W k g (c+y f) (F+1) s (nk W.aP f) bi (λbf=>eM bf<|gh s e f::bV j p u v) (ZX W g (y f)<|ZY cf bi<|eM (nk W.aP f)<|gh s e f::bV j p u v) (fj q2)from .inr ⟨_,K2,rfl,O,(HQ.L4 x P ba E r O.fa.ok.fF).mono (by omega) (by omega)<|λ_ q=>.inl q⟩;clear O r ba E r3 r4 V;go_wp2;go_ret;exact⟨_,rfl,HP.aj au⟩
  |false=>
   have HP:=X<|show Vl w1 w1 b W k g (c+y f) (F+1) s (nk W.aP f) bi (λbf=>eM bf<|gh s e f::bV j p u v) (ZX W g (y f)<|ZY bw bi<|eM (nk W.aP f)<|gh s e f::bV j p u v) .nilIface from .inl ⟨rfl,W,g,e,j,p,u,v,l,m,⟨B,x.mono (by omega) hC (by omega) hN,λbf ht q=>by rw[o]at ht|-;exact x.zp ht q,fO.refl x.st.aH,⟨rfl,rfl,rfl,rfl,rfl,rfl⟩,by rw[o];rfl,P⟩,(J HQ).mono<|λbk q=>.inl ⟨rfl,q⟩,λq _=>⟨by rw[hz];rfl,q,by omega⟩⟩;go_wp2;go_ret;exact⟨_,rfl,HP.aj au⟩
 .have cx:(0:U)<(y f:U):=by omega
  have k8:=cW.cellAt B 8 rfl;have k3:=cW.cellAt B 3 rfl;have bn:=cW.cellAt B 19 rfl;have k7:∃mx mc,W.memory=I mx (y e) mc:=by
   obtain⟨bg,u,bs⟩:=bZ x.st.mem;grind
  obtain⟨mx,mc,cj⟩:=k7;have k7:aW w1 (R b 7)=H (I mx (y e) mc):=by rw[<-cj];exact B.cell rfl
  have k9:=cW.cellAt B 9 rfl;have dr:W.eG<32:=by rw[(J x).Ot];exact x.lp.sum
  have dT:IntKind.i64.wrap ((W.eG:U)+(y f:U))=(W.eG:U)+(y f:U):=by rw[bP];omega
  clear cj;by_cases A:W.mem<=(W.eG:U)+(y f:U)\/W.pj=cf
  .have cB:W.mem<=(W.eG:U)+(y f:U)\/¬W.mem<=(W.eG:U)+(y f:U)/\W.pj=cf:=by
    by_cases q:W.mem<=(W.eG:U)+(y f:U)
    .exact .inl q
    .exact .inr ⟨q,A.resolve_left q⟩
   have ch:EH g.fx:=bv.elim id<|λq=>A.elim (λa=>absurd q.2.1<|by omega) (λa=>by rw[q.2.2]at a;cases a);have bq:=X A;clear A;rcases cB with aF|⟨aF,ao⟩;case' inr=>
    rw[ao]at bn;clear ao
   all_goals
    go_wp2_with fail
    go_quiet(fail)
    go_wp2_with fail
    obtain⟨o,hU⟩:∃o,w1.drewN nq=o:=⟨_,rfl⟩;have C:Z aw w1 o:=by rw[<-hU];exact jl _ _ _
    have T:fO w1 o W.aH b g g:=⟨x.st.aH.aj C<|λ_ _=>id,C.mono cJ,λ_ q=>.inl q,Fx.refl _⟩;have D:cW o b W k:=(C.block b (ak B) id).trans B;have t:Inv o b W g e j p u v c l F m s:=x.fa (ak B) T rfl (ag _) rfl x.loose;have av:∀q,cI (I x1 (y f) c1)=H q->Aside o g W.aH b q:=λq hq=>(bx q hq).fa T;have aV:=C.own bL<|λ_ _ q=>q;have an:=X<|au.cz C;rw[hU];clear hU;have dv:=t.E4;have w:nk W.aP f=W.aP+1:=by unfold nk;rw[dt hz]
    have ce:fO o o.drew W.aH b g g:=uz t.st.aH<|below_drewN (Below.refl _ o) 1;obtain⟨mb,m1,m2,m3⟩:=(t.AP.fa ce).ex;have bp:=Cz b W k s (I x1 (y f) c1) f (by exact D) m1 m2 t.AP.len (by exact t.st.mem) (λq hq=>(t.st.tg q hq).lt) (dR<|by exact aV) (λq hq=>(av q hq).lt) t.st.mJ (by omega);have cm:cY bA 45 #[aD b,I x1 (y f) c1] o.drew λbs w'=>∃a,bs=aN a/\w'.ownsRow (z<|G o) 171 4 a (y<|gh s e f) (aI<|gh s e f)/\Z aw o.drew w':=bp;clear bp m1 m2 m3 ce;have A:∀w6 v6,w6.ownsRow (z<|G o) 171 4 v6 (y<|gh s e f) (aI<|gh s e f)->Z aw o.drew w6->cY bA 49 #[aD b,v6,aG<|(W.aP:U)+1] w6 λbs w'=>∃cn,bs=aN cn/\Vl w6 w' b W k g (c+y f) (F+1) s (nk W.aP f) bi (λbf=>eM bf<|gh s e f::bV j p u v) (ZX W g (y f)<|ZY K bi<|eM (nk W.aP f)<|gh s e f::bV j p u v) cn:=λw6 v6 ac bb=>by
     have ap:Z aw o w6:=(dh aw o).cz bb;have cd:fO o w6 W.aH b g g:=⟨t.st.aH.aj ap<|λ_ _=>id,ap.mono cJ,λ_ q=>.inl q,Fx.refl _⟩;have r:=t.fa (ak D) cd rfl (ag _) rfl t.loose;have cv:cW w6 b W k:=(ap.block b (ak D) id).trans D;have dx:=zj s e f;obtain⟨n1,n2,n3⟩:=r.zV HG ad;have dn:=r.DA;have cE:=Pt v6 (c+y f) (W.aP+1) cv r.st r.DY r.pr (dR ac) (λq hq=>(ac.lt q hq).2) (CB r.st.mJ s f) (CA r.st.mJ r.AP.len f) n1 (by omega) (λbg hx=>(n2 bg hx).1) (λbg hx=>by have:=(n2 bg hx).2;grind) (by omega) (by have:=r.st.sI;omega) hC r.DX.2.2.1 r.rD r.L6.1 (by omega) (by have:=r.nx;have:=r.jV;omega) (by have:=r.eP;have:=r.jV;omega) s r.AP ch;apply cE.mono;rintro bs w'(⟨rfl,v0,v1,v2,v3,K',num,a',b',c',d',hO,cu,cq⟩|⟨cn,K',rfl,hs,hI⟩)
     .exact⟨_,rfl,.inl ⟨rfl,_,K',[],a',b',c',d',W.aP+1,[],⟨hO.box,hO.inv r.DX r.nx (by omega) hN r.AP r.Yy (by omega),λbf ht q=>by rw[lk];exact hO.rl bf (ht.imp_right (λbs=>by rw[bs,w];grind)) q,hO.fa,⟨rfl,rfl,rfl,rfl,rfl,rfl⟩,w.symm,by have:=r.DX.1;show((0:M):U)<W.mem;omega,cu⟩,((J HQ).late r hO.fa.ok.fF (by omega) cq<|λq=>hO.rl _ (.inr<|by exact sa _) q).mono (λbk q=>.inr<|by rw[q,w]),λa q2=>absurd (J bq) (by rw[a];simp;omega)⟩⟩
     .exact⟨_,rfl,.inr ⟨_,K',rfl,hs,by rw[w];exact(J HQ).o7 r P hs.fa.ok.fF (by omega) (by omega) hI⟩⟩
    have cS:=cW.cellAt D 9 rfl;obtain⟨cp,bE,al,dc⟩:=gw cm A t D;clear cm A t D av aV T C k7 k8 k9 k3 bn;rename_i KK cb;have bc:aW o.drew (R b 9)=H (aG W.aP):=cS;refine je (λ(br:Y)=>aW br (R b 9)=H (aG W.aP)) 9 (by kernel_rfl) ?_;refine ki 0 ?_;iterate 3 (refine uc (v:=?_) bc rfl (by kernel_rfl) lQ rfl ?_ ?_;rotate_left;(focus(rintro br z9;go_simp;try rfl));simp only[Act.put,ig,Nat.reduceAdd])
    apply oe;refine ki 4 ?_;iterate 5 (refine uc (v:=?_) bc rfl (by kernel_rfl) lQ rfl ?_ ?_;rotate_left;(focus(rintro br z9;go_simp;try rfl));simp only[Act.put,ig,Nat.reduceAdd])
    apply oe;refine fD (i:=3) rfl rfl (by kernel_rfl) ?_;intro K6 ca;go_simp;apply cp.mono;rintro bs w6⟨v6,rfl,ac,bb⟩;obtain⟨x6,c6,cN⟩:=aC ac;subst cN;have cs:aW w6 (R b 9)=H (aG W.aP):=bb.cell bc id<|rU bc;refine ca _ _ (λ_=>cs) ?_;clear ca;try simp only[Act.put,ig]
    refine fD (i:=9) rfl rfl (by kernel_rfl) ?_;intro df bh;go_simp;apply(bE w6 _ ac bb).mono;rintro bs w7⟨v7,rfl,cr⟩;have co:=X cr;refine bh _ _ (λq=>by omega) ?_;clear bh;try simp only[Act.put,ig]
    refine fD (i:=10) rfl rfl (by kernel_rfl) ?_;intro dk bm;go_simp;refine bm _ _ (λq=>by omega) ?_;refine jo (by kernel_rfl) ?_ _;show KK _ _;apply cb;clear cb bm;go_wp2;go_ret;exact⟨_,rfl,co.aj<|(an.cz<|dh aw o).cz bb⟩
  .have aF:¬W.mem<=(W.eG:U)+(y f:U):=λq=>A<|.inl q;have ao:W.pj=bw:=by
    cases q:W.pj with
    |false=>rfl
    |true=>exact absurd (.inr q) A
   rw[ao]at bn;have bh:=X ao;clear A ao;go_wp2_with fail
   go_quiet(fail)
   go_wp2_with fail
   obtain⟨o,hU⟩:∃o,w1.drewN nq=o:=⟨_,rfl⟩;have C:Z aw w1 o:=by rw[<-hU];exact jl _ _ _
   have T:fO w1 o W.aH b g g:=⟨x.st.aH.aj C<|λ_ _=>id,C.mono cJ,λ_ q=>.inl q,Fx.refl _⟩;have D:cW o b W k:=(C.block b (ak B) id).trans B;have t:Inv o b W g e j p u v c l F m s:=x.fa (ak B) T rfl (ag _) rfl x.loose;have av:∀q,cI (I x1 (y f) c1)=H q->Aside o g W.aH b q:=λq hq=>(bx q hq).fa T;have aV:=C.own bL<|λ_ _ q=>q;have an:=X<|au.cz C;rw[hU];clear hU;have bm:=MD s D t bh (dR aV) av (by omega) h8 HG ad (by have:=t.DX;omega) hC hN<|bv.imp id<|λq=>q.1;have al:=X t;have w:nk W.aP f=W.aP+1:=by unfold nk;rw[dt hz]
   clear t D av aV T C k7 k8 k9 k3 bn;apply bm.mono;rintro bs w2(⟨rfl,cm,ch,K2,S,N,L,bb,ac⟩|⟨v2,K2,rfl,O,l2,ba,E⟩)
   .cases K with
    |true=>
     have V:=N.safe S;obtain⟨ap,bp,bE,br⟩:=gw L bb ac N;clear bm S N L bb ac;go_wp2_with fail
     apply V.mono;rintro bs w3(⟨rfl,K3,bq,ca,cd,r⟩|⟨v3,K3,rfl,bc,cb,l3,ce,r⟩)
     .have HP:=X<|show Vl o w3 b W k g (c+y f) (F+1) s (nk W.aP f) bi (λbf=>eM bf<|gh s e f::bV j p u v) (ZX W g (y f)<|ZY cf bi<|eM (nk W.aP f)<|gh s e f::bV j p u v) .nilIface from .inl ⟨rfl,_,K3,_,j,p,u,v,l,_,⟨ca,cd,λ_ _ _=>rfl,ap.trans bq,⟨rfl,rfl,rfl,rfl,rfl,rfl⟩,by rw[w];rfl,by show((W.eG+y f:M):U)<W.mem;omega,P.2⟩,(((J HQ).rec al HG ad bp ap.ok.fF bE).sf br r (xe (gy _) r).1 bq.ok.fF).mono<|λbk q=>.inr (by rw[q,w];rfl),λ_ _=>⟨rfl,J bh,by rw[wa,(xe (gy _) r).1,<-wa,MH bp];have:=sh (n:=(l:U)+1+y m) (J HG) h8;omega⟩⟩;clear bq r ca cd V;go_wp2;go_ret;exact⟨_,rfl,HP.aj an⟩
     .obtain⟨q3,c3,rfl,r3,r4⟩:=bc.err;have HP:=X (show Vl o w3 b W k g (c+y f) (F+1) s (nk W.aP f) bi (λbf=>eM bf<|gh s e f::bV j p u v) (ZX W g (y f)<|ZY cf bi<|eM (nk W.aP f)<|gh s e f::bV j p u v) (fj q3)from .inr ⟨_,K3,rfl,⟨ap.trans bc.fa,bc.box,q3,c3,rfl,r3,ap.fx.Yz al.st.aH.tu r4⟩,by
       rw[w];exact((J HQ).rec al HG ad bp ap.ok.fF bE).L4 br ⟨by show((W.eG+y f:M):U)<W.mem;omega,P.2⟩ ce r cb bc.fa.ok.fF⟩)
      clear bc cb ce r r3 r4 V;go_wp2;go_ret;exact⟨_,rfl,HP.aj an⟩
    |false=>
     have HP:=X<|show Vl o w2 b W k g (c+y f) (F+1) s (nk W.aP f) bi (λbf=>eM bf<|gh s e f::bV j p u v) (ZX W g (y f)<|ZY bw bi<|eM (nk W.aP f)<|gh s e f::bV j p u v) .nilIface from .inl ⟨rfl,_,K2,_,j,p,u,v,l,_,⟨S,N,λ_ _ _=>rfl,L,⟨rfl,rfl,rfl,rfl,rfl,rfl⟩,by rw[w];rfl,by show((W.eG+y f:M):U)<W.mem;omega,P.2⟩,((J HQ).rec al HG ad bb L.ok.fF ac).mono<|λbk q=>q.imp (λcT=>⟨rfl,cT⟩) (λcT=>by rw[cT,w];rfl),λ_ _=>⟨rfl,J bh,by rw[MH bb];have:=sh (n:=(l:U)+1+y m) (J HG) h8;omega⟩⟩;clear bm S N L bb ac;go_wp2;go_ret;exact⟨_,rfl,HP.aj an⟩
   .obtain⟨q2,c2,rfl,r3,r4⟩:=O.err;have HP:=X<|show Vl o w2 b W k g (c+y f) (F+1) s (nk W.aP f) bi (λbf=>eM bf<|gh s e f::bV j p u v) (ZX W g (y f)<|ZY K bi<|eM (nk W.aP f)<|gh s e f::bV j p u v) (fj q2)from .inr ⟨_,K2,rfl,O,by rw[w];exact(J HQ).T7 al P bh HG ad (by omega) h8 (by omega) ba E O.fa.ok.fF⟩;clear O ba E r3 r4 bm;go_wp2;go_ret;exact⟨_,rfl,HP.aj an⟩
