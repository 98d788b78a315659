import Derived.Test.YthaiaannkhpppaaGreatDoorC9
import Derived.Test.YthaiaannkhpppaaGreatDoorC10
open _root_ renaming List.length→y,Option.some→H,Array.size→z,Go.World.heap→G,Go.Value.ownBlock→cK,Go.World.cell?→aW,Go.World.setCell→cq,Go.World.alloc→cN,Bool.false→aX,Bool.true→ci,Nat→M,Int→X,List→cJ,Go.Calls→cY,Go.undef→iH,Go.Proofs.Tryz.prog→aZ,Go.Value.slice→I,Go.Value.string→am,Go.Value.bool→aN,Go.Value.pointer→cX,Go.Value.tuple→dq,Go.Value.agg→dC
namespace Go.Proofs.YthaiaannkhpppaaGreatDoor
open ChangeShapes WideShapes RowKit Proofs.Tryz List
set_option maxHeartbeats 16000000
set_option linter.all false
set_option maxRecDepth 100000
variable{a f A:Y}{b c g m D:M}{d s:ab}{i x:DK}{k N:X}{n:eR}{t:ae}{B:gW}{F:Fs}{P:Bool}
structure Xd(w0 w:Y)(x:M)(ob:Obj)(o:ab)(bs:eR):Prop where
 own:fc w (z<|G w0) o bs
 box:w.heap[x]?=H ob
 ne:cK o≠H x
 aj:Z ay w0 w
def Xd.wrote{j:Obj}{c:eR}(h:Xd a f b j d n)(i:eE f A d s)(l:fc A (z<|G a) s c):Xd a A b j s c:=by
 have e:=ak h.box;have g:=Z.fH i;refine⟨l,(g.block b e h.ne).trans h.box,λk=>?_,h.aj.trans g<|λq k=>.inr (h.own.lt q k).1⟩;rcases i.vp with o|⟨m,o,p⟩;exact h.ne<|o.symm.trans k;grind
def vg(t:bz):eR:=le 8 t.num++(le 4 (y<|dK t.cs)++(le 4 (y<|fI t.ks)++le 4 (mV<|fI t.ks)))
def rP(a:cW):eR:=le 4 (y a)++a.flatMap vg
def fT(next b a:X)(c:cJ cW):eR:=iN<|le 8 next++le 8 b++le 8 a++(c.map rP).flatten
def ME(t:bz):y (vg t)=20:=by simp[vg,cH]
theorem pG(a:cW):y (rP a)=4+20*y a:=by
 unfold rP;rw[af,cH];induction a with
 |nil=>rfl
 |cons t r b=>rw[dU,af,ME,aY];omega
structure bz.oH(t:bz):Prop where
 num:t.num<18446744073709551616
 d:y (dK t.cs)<4294967296
 i:y (fI t.ks)<4294967296
def Ho(a:cW)(n j:M)(h:n<y a)(d:j<4):(dy a)[n*4+j]?=(bz.wy a[n])[j]?:=by
 have e:∀(l:cW),y (dy l)=y l*4:=by
  intro l;induction l with
  |nil=>rfl
  |cons t r b=>unfold dy at*;rw[dU,af,b];simp[bz.wy];omega
 have f:dy a=dy (a.take n)++(bz.wy a[n]++dy (a.drop<|n+1)):=by(have b:a=a.take n++a[n]::a.drop (n+1):=by rw[<-bG h,bV]);have c:dy a=dy (a.take n++a[n]::a.drop (n+1)):=bS dy b;rw[c];unfold dy;rw[fG,dU]
 grind
def Pa(next g c:X)(P Q S T:Option Addr)(K c1 c2 c3:M)(m0 m1 m2 m3:cW)(hT:Steps a)(r0:Row a 4 (I P (y m0) K) (y m0) (dy m0))(r1:Row a 4 (I Q (y m1) c1) (y m1) (dy m1))(r2:Row a 4 (I S (y m2) c2) (y m2) (dy m2))(r3:Row a 4 (I T (y m3) c3) (y m3) (dy m3))(b0:∀k,cK (I P (y m0) K)=H k->k<z (G a))(b1:∀k,cK (I Q (y m1) c1)=H k->k<z (G a))(b2:∀k,cK (I S (y m2) c2)=H k->k<z (G a))(b3:∀k,cK (I T (y m3) c3)=H k->k<z (G a))(k0:∀bd∈m0,bd.oH)(k1:∀bd∈m1,bd.oH)(k2:∀bd∈m2,bd.oH)(k3:∀bd∈m3,bd.oH)(hn:0<=next/\next<18446744073709551616)(hl:0<=g/\g<18446744073709551616)(hb:0<=c/\c<18446744073709551616)(hs:y m0+y m1+y m2+y m3<=1000000):cY aZ 228 #[dC #[aE next,aE g,aE c,I P (y m0) K,I Q (y m1) c1,I S (y m2) c2,I T (y m3) c3]] a λC w'=>∃v',C=aM v'/\fc w' (z<|G a) v' (fT next g c [m0,m1,m2,m3])/\Z ay a w':=by
 obtain⟨OB,L⟩:∃OB:Obj,OB=aw #[aE next,aE g,aE c,I P (y m0) K,I Q (y m1) c1,I S (y m2) c2,I T (y m3) c3] 127:=⟨_,rfl⟩;have t:∀(cj:Y)(bc:M)(ch:ab),cj.heap[z<|G a]?=H OB->(#[aE next,aE g,aE c,I P (y m0) K,I Q (y m1) c1,I S (y m2) c2,I T (y m3) c3]:Array ab)[bc]?=H ch->aW cj (R (z<|G a) bc)=H ch:=by grind[cg]
 have hA0:Xd a (cN a OB) (z<|G a) OB az []:=⟨fc.nil _ _,aJ _ rfl,(by intro C;cases C),(cF _ a)⟩;have p1:=py next hA0.own hA0.aj.size (by simp) hn.1 hn.2
 obtain⟨bf,l,HT,bx,bE,bL,bT,bi⟩:=CV hA0 t hT r0 r1 r2 r3 b0;obtain⟨bk,bl,bm,bq,br,bt,bu,bv⟩:=CV b1 b2 b3 k0 k1 k2 k3 L;rw[L]at p1;clear hA0 t hT r0 r1 r2 r3 b0 b1 b2 b3 k0 k1 k2 k3 L;go_in
 go_wp2_with fail
 apply p1.mono;rintro C w1⟨v1,rfl,ac,N⟩;rw[<-J bv]at N;have hA1:=bf.wrote N ac;have d1:=l w1 1 _ hA1.box rfl;have p2:=py g hA1.own hA1.aj.size (by simp[cH]) hl.1 hl.2;have bg:=U hA1;clear hA1 ac N p1;go_wp2_with fail
 apply p2.mono;rintro C w2⟨v2,rfl,ad,aD⟩;have hA2:=bg.wrote aD ad;have d2:=l w2 2 _ hA2.box rfl;have p3:=py c hA2.own hA2.aj.size (by simp[cH]) hb.1 hb.2;have bh:=U hA2;clear hA2 ad aD p2 d1;go_wp2_with fail
 apply p3.mono;rintro C w3⟨v3,rfl,al,aF⟩;have hA3:=bh.wrote aF al;have d3:=l w3 3 _ hA3.box rfl;have d4:=l w3 4 _ hA3.box rfl;have d5:=l w3 5 _ hA3.box rfl;have d6:=l w3 6 _ hA3.box rfl;have W:=U hA3.own;have cc:=U hA3.aj;clear hA3 al aF p3 d2;obtain⟨f,j⟩:∃f,(([]++le 8 next)++le 8 g)++le 8 c=f:=⟨_,rfl⟩;have co:y f=24:=by rw[<-j];simp[cH]
 have aa:=U j;rw[j]at W;clear j;go_wp2;go_loopw [3,21] (λcu bc wr=>∃k:M,k<=4/\bc=ar k/\fc wr (z<|G a) cu (f++(([m0,m1,m2,m3].take k).map rP).flatten)/\Z ay a wr) (λ_ bc _=>4-(intOf bc).toNat)
 case atStart=>exact⟨0,bP _,rfl,by simpa using J W,cc⟩
 (case round=>obtain⟨k,hk,rfl,i,m⟩:=hrel;have ax:=m.size;have av:=i.lt;(have s:∀k,y (f++(([m0,m1,m2,m3].take k).map rP).flatten)<=30000000:=by intro k;(have h1:y ((([m0,m1,m2,m3].take k).map rP).flatten)<=y ((([m0,m1,m2,m3]).map rP).flatten):=by grind[Sublist.length_le,flatten_append,take_append_drop,sublist_append_left]);grind[pG,length_append]);rcases ik k 4 with ce|ce;(·(obtain⟨b,x,cM,HR,HB,HK,cn,v,cp⟩:∃(b:cW)(x:Option Addr)(cM:M),Hid (Row a 4 (I x (y b) cM) (y b)<|dy b)/\Hid (∀k,cK (I x (y b) cM)=H k->k<z (G a))/\Hid (∀bd∈b,bd.oH)/\y b<=1000000/\f++(([m0,m1,m2,m3].take<|k+1).map rP).flatten=(f++(([m0,m1,m2,m3].take k).map rP).flatten)++rP b/\∀cj,(Instr.index 125 (dC #[I P (y m0) K,I Q (y m1) c1,I S (y m2) c2,I T (y m3) c3])<|ar k).run aZ cj=.ok (I x (y b) cM) cj:=by(have d:k=0\/k=1\/k=2\/k=3:=by omega);rcases d with rfl|rfl|rfl|rfl;exact⟨m0,P,K,bx,bi,bq,by omega,by simp,λ_=>by kernel_rfl⟩;exact⟨m1,Q,c1,bE,bk,br,by omega,by simp,λ_=>by kernel_rfl⟩;exact⟨m2,S,c2,bL,bl,bt,by omega,by simp,λ_=>by kernel_rfl⟩;exact⟨m3,T,c3,bT,bm,bu,by omega,by simp,λ_=>by kernel_rfl⟩);(have cr:(k:X)<4:=by omega);have ck:=s k;have cf:=s<|k+1;have cb:=U v;clear s v;generalize f++(([m0,m1,m2,m3].take k).map rP).flatten=bs at*;have a1:=tD (n:=(y b:M)) (by omega) (by omega);have pw:=jv (y b:M) i ax (by omega) (by omega) (by omega);have F:=U m;clear i m;(go_wp2_with fail);apply pw.mono;rintro C w4⟨v4,rfl,u,w⟩;have D:=U u;have E:=U<|F.trans (Z.fH w)<|λl j=>.inr (av l j).1;clear u w pw;go_wp2;(go_loopw [3,31] (λcu bc wr=>∃q:M,q<=y b/\bc=ar q/\fc wr (z<|G a) cu ((bs++le 4 (y b:M))++(b.take q).flatMap vg)/\Z ay a wr) (λ_ bc _=>y b-(intOf bc).toNat));(case atStart=>exact⟨0,bP _,rfl,by simpa using J D,E⟩);(case round=>obtain⟨q,hq,rfl,d,e⟩:=hrel;have cl:=e.size;by_cases A:q<y b;(.obtain⟨_,⟨hx,h0⟩|⟨cm,O,cv,hx,_,hc⟩⟩:=J HR;omega;(.cases hx;have cd:cm<z (G a):=HB cm rfl;have hg:∀l ch,l<4->(bz.wy b[q])[l]?=H ch->aW wr (R cm<|O+q*4+l)=H ch:=λl ch j a=>e.cell (by rw[bw];exact hc _ _<|(Ho b q l A j).trans a) id cd;have B:=HK _<|aq A;(have cs:y ((bs++le 4 (y b:M))++(b.take q).flatMap vg)<=100000000:=by have h1:=pG<|b.take q;unfold rP at h1;rw[af,cH]at h1;(have h2:y (b.take q)<=1000000:=by simp;omega);simp only[af,cH];omega);have ca:=U (show((bs++le 4 (y b:M))++(b.take q).flatMap vg)++(le 8 (b[q].num:M)++(le 4 (y<|dK b[q].cs)++(le 4 (y<|fI b[q].ks)++le 4 (mV<|fI b[q].ks))))=(bs++le 4 (y b:M))++(b.take<|q+1).flatMap vg from by rw[ai A,fG,<-bA];simp[vg]);have g0:=hg 0 _ (by omega) rfl;have g1:=hg 1 _ (by omega) rfl;have g2:=hg 2 _ (by omega) rfl;have g3:=hg 3 _ (by omega) rfl;have o1:=B.num;have o2:=B.d;have o3:=B.i;have o4:=zV<|fI b[q].ks;have o5:=Ch<|fI b[q].ks;clear hg B;simp only[kH]at g0 g1 g2 g3;generalize b[q].num=y0 at*;generalize y (dK b[q].cs)=y1 at*;generalize y (fI b[q].ks)=y2 at*;generalize mV (fI b[q].ks)=y3 at*;generalize((bs++le 4 (y b:M))++(b.take q).flatMap vg)=B0 at*;have hE:Xd a (cN wr<|aw #[aE y0,dA y1,dA y2,dA y3] 185) (z<|G wr) (aw #[aE y0,dA y1,dA y2,dA y3] 185) u3 B0:=⟨d.alloc _,aJ _ rfl,λC=>by have:=(d.lt _ C).2;omega,e.alloc _⟩;have z1:=py (y0:M) hE.own hE.aj.size (by omega) (by omega) (by omega);have HE:=U hE;clear hE d e;(go_wp2_with fail);apply z1.mono;rintro C w5⟨v5,rfl,an,aU⟩;have o:=HE.wrote aU an;have f1:=cellAt o.box 1 rfl;have z2:=jv (y1:M) o.own o.aj.size (by rw[af,cH];omega) (by omega) (by omega);have bn:=U o;clear o an aU z1;(go_wp2_with fail);apply z2.mono;rintro C w6⟨v6,rfl,ao,aV⟩;have p:=bn.wrote aV ao;have f2:=cellAt p.box 2 rfl;have z3:=jv (y2:M) p.own p.aj.size (by simp only[af,cH];omega) (by omega) (by omega);have bo:=U p;clear p ao aV z2;(go_wp2_with fail);apply z3.mono;rintro C w7⟨v7,rfl,ap,ba⟩;have r:=bo.wrote ba ap;have f3:=cellAt r.box 3 rfl;have z4:=jv y3 r.own r.aj.size (by simp only[af,cH];omega) o4 o5;have bp:=U r;clear r ap ba z3;(go_wp2_with fail);apply z4.mono;rintro C w8⟨v8,rfl,au,bb⟩;have V:=U<|bp.wrote bb au;clear au bb z4;go_wp2;go_roundw;(case rel=>refine⟨q+1,A,by go_num,?_,V.aj⟩;rw[<-J ca];have h:=V.own;simpa using h);case measure=>simp[intOf];omega));(·(have p:q=y b:=by omega);subst p;rw[bI]at d;have r:=U d;have o:=U e;clear d e;go_wp2;go_roundw;(case rel=>refine⟨k+1,by omega,by go_num,?_,o⟩;rw[J cb];have h:=J r;unfold rP;simpa using h);case measure=>simp[intOf];omega)));(·(obtain rfl:k=4:=by omega);have b:((4:M):X)=4:=rfl;have d:=Eg (HT.below (m.below (ah _) cL) HT.lt) i ax (by have:=s 4;omega);have F:=U m;clear i m s;(go_wp2_with fail);apply d.mono;rintro C w4⟨v4,rfl,u,w⟩;have D:=U u;have E:=U<|F.trans (Z.fH w)<|λl j=>.inr (av l j).1;clear u w;go_wp2;go_ret;refine⟨_,rfl,?_,E⟩;have h:=J D;unfold fT iN;(have C:f++(([m0,m1,m2,m3].take 4).map rP).flatten=le 8 next++le 8 g++le 8 c++([m0,m1,m2,m3].map rP).flatten:=by rw[<-J aa];simp);rw[C]at h;exact h))
def Tl(c:eR)(h:dh F t=none):xp (F++[(t,c)]) t=F:=by
 induction F with
 |nil=>simp[xp]
 |cons g r b=>
  obtain⟨a,d⟩:=g;by_cases e:a=t
  .simp[dh,e]at h
  .simp[dh,e]at h;simp[xp,e,b h]
def SP(next c b:X)(d:cJ cW):kh (fT next c b d):=by
 unfold fT iN;refine(kh.append ?_ ?_).append<|kh.le 4 _;exact((kh.le 8 _).append<|kh.le 8 _).append<|kh.le 8 _;intro x a;obtain⟨l,e,a⟩:=bC.1 a;obtain⟨f,_,rfl⟩:=bR.1 e;unfold rP at a;rcases aG.1 a with a|a;exact kh.le 4 _ x a;obtain⟨t,_,a⟩:=lS.1 a;unfold vg at a;simp only[aG]at a;rcases a with a|a|a|a;exact kh.le 8 _ x a;exact kh.le 4 _ x a;exact kh.le 4 _ x a;exact kh.le 4 _ x a
def Cz(a:eR):cJ wM:=[.cr iR,.ap iR a,.sy iR]++[.rn iR eh]++[.sd]
def vI{l m:cJ wM}(h:mi (l++m) i x):∃a,mi l i a/\mi m a x:=by
 induction l generalizing i with
 |nil=>exact⟨i,⟨rfl,rfl,rfl⟩,h⟩
 |cons o l g=>
  obtain⟨a,c,d⟩:=h;obtain⟨b,e,f⟩:=g d;exact⟨b,⟨a,c,e⟩,f⟩
def UB(f:M)(S:DK)(next c b:X)(x0 x1 x2 x3:Option Addr)(c0 c1 c2 c3:M)(m0 m1 m2 m3:cW)(hT:Steps a)(r0:Row a 4 (I x0 (y m0) c0) (y m0) (dy m0))(O:Row a 4 (I x1 (y m1) c1) (y m1) (dy m1))(P:Row a 4 (I x2 (y m2) c2) (y m2) (dy m2))(Q:Row a 4 (I x3 (y m3) c3) (y m3) (dy m3))(b0:∀k,cK (I x0 (y m0) c0)=H k->k<z (G a))(b1:∀k,cK (I x1 (y m1) c1)=H k->k<z (G a))(b2:∀k,cK (I x2 (y m2) c2)=H k->k<z (G a))(b3:∀k,cK (I x3 (y m3) c3)=H k->k<z (G a))(k0:∀bf∈m0,bf.oH)(k1:∀bf∈m1,bf.oH)(k2:∀bf∈m2,bf.oH)(k3:∀bf∈m3,bf.oH)(hn:0<=next/\next<18446744073709551616)(hl:0<=c/\c<18446744073709551616)(hb:0<=b/\b<18446744073709551616)(hs:y m0+y m1+y m2+y m3<=1000000)(j:cG a f S)(hg:dh (vw S.files) iR=none)(bk:y S.gT<=100000000000)(p:S.fx.room<1000000000):cY aZ 169 #[aA f,dC #[aE next,aE c,aE b,I x0 (y m0) c0,I x1 (y m1) c1,I x2 (y m2) c2,I x3 (y m3) c3]] a λt N=>xz a N f S (Cz<|fT next c b [m0,m1,m2,m3]) t:=by
 obtain⟨ax,u⟩:∃ax,cN a (aw #[aE next,aE c,aE b,I x0 (y m0) c0,I x1 (y m1) c1,I x2 (y m2) c2,I x3 (y m3) c3] 127)=ax:=⟨_,rfl⟩;have hW:Z ay a ax:=by rw[<-u];exact(cF _ a)
 have au:Steps ax:=by rw[<-u];exact hT.alloc _
 have d:∀{v n xs},Row a 4 v n xs->(∀k,cK v=H k->k<z (G a))->Row ax 4 v n xs:=λc b=>hW.row c<|λk t=>⟨id,b k t⟩;have hz:=hW.size;have ad:=Pa next c b x0 x1 x2 x3 c0 c1 c2 c3 m0 m1 m2 m3 au (d r0 b0) (d O b1) (d P b2) (d Q b3) (λk t=>ag (b0 k t) hz) (λk t=>ag (b1 k t) hz) (λk t=>ag (b2 k t) hz) (λk t=>ag (b3 k t) hz) k0 k1 k2 k3 hn hl hb hs
 have al:=SP next c b [m0,m1,m2,m3]
 have ap:y (fT next c b [m0,m1,m2,m3])<=20001000/\0<y (fT next c b [m0,m1,m2,m3]):=by unfold fT;rw[gy];simp only[af,cH,cy,gR,bK,iK,dG,pG];omega
 have ac:=λr(v1:ab)(ht:Z ay ax r)(ho:fc r (z<|G ax) v1 (fT next c b [m0,m1,m2,m3]))=>show∃bg bb,v1=bD bg 0 (y<|fT next c b [m0,m1,m2,m3]) bb/\cY aZ 226 #[aA f,am iR,v1] r λt N=>xz r N f S [.cr iR,.ap iR<|fT next c b [m0,m1,m2,m3],.sy iR] t from by obtain⟨bg,bb,rfl,a1,a2,_⟩:=rY ho ap.2;have bc:Z ay a r:=hW.cz ht;exact⟨bg,bb,rfl,Km (db:=f) (K:=S) iR bg 0 bb (w:=r) (j.aj bc<|λ_ _=>id) hg (by omega) p (by omega) al (Bytes.cells<|fc.bytes ho) a2 (λb=>by have:=j.lt _ b;omega) Ov⟩
 have V:=U ac;generalize fT next c b [m0,m1,m2,m3]=SB at*
 have C:∀s e,cG s f e->mi [.cr iR,.ap iR SB,.sy iR] S e->cY aZ 229 #[aA f,am iR,am eh] s λt N=>xz s N f e [.rn iR eh] t:=by intro s e F K;obtain⟨bd,bi⟩:=Dx K hg;(have bc:dh (vw e.files) iR=H SB:=by rw[bd,gh,hg];simp[dh]);obtain⟨bl,hF,bh⟩:=jq bc;exact RF iR eh F hF (by decide) (by omega) Ov
 have i:∀s e,cG s f e->mi ([.cr iR,.ap iR SB,.sy iR]++[.rn iR eh]) S e->cY aZ 82 #[aA f] s λt N=>xz s N f e [.sd] t:=by intro s e F K;refine DV F ?_;obtain⟨K3,h1,h2⟩:=vI K;obtain⟨_,bc⟩:=Dx h1 hg;obtain⟨K4,⟨bl,bd,_,_,_,a3⟩,_,_,b3⟩:=h2;rw[b3,a3,af];simp only[List.length_singleton];omega
 have g:=U j.wS;have T:=U<|λr(ht:Z ay ax r)=>(pJ.refl j).still<|hW.cz ht;obtain⟨aa,E,ba⟩:=dz C i u;clear hT r0 O P Q b0 b1 b2 b3 k0 k1 k2 k3 hn hl hb j hg p hW au d hz al ap ac C i u;go_in
 go_wp2_with fail
 rw[J ba];apply ad.mono;rintro t r⟨v1,rfl,an,L⟩;obtain⟨bg,bb,rfl,B⟩:=V r v1 L an;have aD:=U<|T r L;clear an L ad T V;unfold iR at B;go_wp2_with fail
 apply B.mono;rintro t s⟨v2,e,rfl,l⟩;have x:=zg.seq g aD (show mi [] S S from⟨rfl,rfl,rfl⟩) l;rcases l.uz with⟨rfl,o2⟩|⟨bm,q,bb,O,P,rfl,Q⟩;rotate_left;(.have W:=U<|zg.more (m:=[.sd])<|zg.more (m:=[.rn iR eh]) x;clear l x O P Q B;go_wp2;go_ret;exact⟨_,e,rfl,W⟩);have w:=aa s e l.nW.ok o2;have aF:=U x.nW;have D:=U o2;clear l x o2 B;unfold iR eh at w;go_wp2_with fail
 apply w.mono;rintro t w3⟨v3,K3,rfl,o⟩;have A:=zg.seq g aF D o;rcases o.uz with⟨rfl,o3⟩|⟨bm,q,bb,O,P,rfl,Q⟩;rotate_left;(.have W:=U<|zg.more (m:=[.sd]) A;clear o A O P Q w;go_wp2;go_ret;exact⟨_,K3,rfl,W⟩);have av:=E w3 K3 o.nW.ok<|mi.JX D o3;have aU:=U A.nW;have aV:=U<|mi.JX D o3;clear o A o3 w;go_wp2_with fail
 apply av.mono;rintro t w4⟨v4,K4,rfl,ao⟩;have W:=U<|zg.seq g aU aV ao;clear ao av;go_wp2;go_ret;exact⟨_,K4,rfl,W⟩
def qM{c:Func}{F S:Tmp}(T:c.results=#[.cell F 127,.tmp S])(a:Array ab)(w:Y)(g:M)(n A k:X)(e f h i:ab)(Q:TypeId)(d:M×M)(r:a.getD F iH=aA g)(p:w.heap[g]?=H (aw #[aE n,aE A,aE k,e,f,h,i] Q d))(j:∃x n k,e=I x n k)(l:∃x n k,f=I x n k)(m:∃x n k,h=I x n k)(o:∃x n k,i=I x n k):(results c a).run aZ w=.ok (dq #[dC #[aE n,aE A,aE k,e,f,h,i],a.getD S iH]) w:=by
 obtain⟨K,B,s,rfl⟩:=j;obtain⟨L,C,t,rfl⟩:=l;obtain⟨N,D,u,rfl⟩:=m;obtain⟨O,E,v,rfl⟩:=o;have b:a[F]?.getD iH=aA g:=by simpa using r
 have q:=ku (P:=aZ) w g Q 127 #[aE n,aE A,aE k,I K B s,I L C t,I N D u,I O E v] d _ p underlying127 rfl (by kernel_rfl);simp[results,T,b,asAddr,q,Result.andThen]
def D9:ab:=dC #[aE 2,aE 1,aE 0,az,az,az,az]
def YN(w:Y)(f:ae):Prop:=∃(n:M)(ok:Bool),n<=2/\∀W,Z ay w W->cY aZ 132 #[am f] W λe a=>WU W a e n ok
def NO{db:M}{K:DK}(h:cG a db K)(hn:y K.files<=100000000)(hp:Pow a)(i:∀aD∈K.files.map da.name,YN a aD):cY aZ 83 #[aA db] a λan w'=>an=aM (dq #[D9,.nilIface])/\Z ay a w':=by
 have p:Z ay a (cN (cN a<|aw #[aE 0,aE 0,aE 0,az,az,az,az] 127)<|aw #[aE 2,aE 1,aE 0,az,az,az,az] 127):=(cF ay a).alloc _;have D:(cN (cN a<|aw #[aE 0,aE 0,aE 0,az,az,az,az] 127)<|aw #[aE 2,aE 1,aE 0,az,az,az,az] 127).heap[z<|G a]?=H (aw #[aE 0,aE 0,aE 0,az,az,az,az] 127 (0,0)):=(fU _<|by simp).trans<|aJ _ rfl;have E:(cN (cN a<|aw #[aE 0,aE 0,aE 0,az,az,az,az] 127)<|aw #[aE 2,aE 1,aE 0,az,az,az,az] 127).heap[z (G a)+1]?=H (aw #[aE 2,aE 1,aE 0,az,az,az,az] 127 (0,0)):=aJ _ (by simp);have N:=EV (db:=db) (K:=K) (h.aj p<|λ_ _=>id) hn;obtain⟨V,s,t,HP,HA⟩:=iO p D E hp i;clear h hp i p D E;go_in
 go_wp2_with fail
 apply N.mono;rintro an w3⟨v3,e,rfl,o,n,g⟩;obtain⟨x3,c3,aa⟩:=aB n;subst aa;have C:=V.cz g;have F:=(g.block _ (ak s) id).trans s;have L:=(g.block _ (ak t) id).trans t;have av:y e<=100000000:=by have:=o.length_eq;grind
 have O:∀x∈e,YN a x:=λx hx=>HA x<|o.mem_iff.1 hx;obtain⟨A,B,u,v,S⟩:=iO n C F L O;clear n g C F L O o N;go_wp2;go_loopw [13] (λk wr=>∃(r:M),r<=y e/\k=ar r/\Z ay w3 wr) (λk _=>y e-(intOf k).toNat)
 case atStart=>exact⟨0,bP _,by go_num,Z.refl _ _⟩
 (case round=>obtain⟨r,hj,rfl,j⟩:=hrel;have d:=(j.block _ (ak u) id).trans u;have b:=(j.block _ (ak v) id).trans v;by_cases m:r<y e;(·(have e1:(r:X)<(y e:X):=by omega);(have e2:(0:X)<=(r:X):=by omega);obtain⟨nn,ok,ap,f⟩:=(J S) _<|aq m;have f:=f wr<|B.cz j;(have au:¬(2:X)<(nn:X):=by omega);(have l:∃al c,x3=H (R al c)/\aW wr (R al<|c+r)=H (am e[r]):=by obtain⟨q1,⟨q2,q0⟩|⟨ax,Q,ac,q2,ao,hc⟩⟩:=dJ A;omega;cases q2;refine⟨ax,Q,rfl,?_⟩;(have hg:(strs e)[r]?=H (am e[r]):=by simp[strs,m]);exact j.cell (hc _ _ hg) id (A.lt ax rfl).2);obtain⟨al,c,hx,l⟩:=l;subst hx;obtain⟨T,w,x⟩:=dz j d b;clear j d b;generalize e[r]=ad at*;(go_wp2_with fail);apply f.mono;rintro an w4⟨rfl,q⟩;have P:=(q.block _ (ak x) id).trans x;have y0:=cellAt P 0 rfl;have W:=U<|T.cz q;clear q P f l;cases ok;(all_goals go_wp2;go_roundw;(case rel=>exact⟨r+1,m,by go_num,W⟩);case measure=>simp[intOf];omega));(have e1:¬(r:X)<(y e:X):=by omega);have y0:=cellAt b 0 rfl;have P:=cellAt b 1 rfl;have Q:=cellAt b 2 rfl;have W:=cellAt b 3 rfl;have y4:=cellAt b 4 rfl;have y5:=cellAt b 5 rfl;have y6:=cellAt b 6 rfl;(have x:∀k,wr.frozen? (R (z<|G a) k)=aX:=λk=>by simp[World.frozen?,d]);(have c:∀k,k<7->∃l,aW wr (R (z<|G a) k)=H l:=λk b=>by rw[cg d];simp_all);obtain⟨u0,z0⟩:=c 0 (by omega);obtain⟨u1,z1⟩:=c 1 (by omega);obtain⟨u2,z2⟩:=c 2 (by omega);obtain⟨u3,z3⟩:=c 3 (by omega);obtain⟨u4,z4⟩:=c 4 (by omega);obtain⟨u5,z5⟩:=c 5 (by omega);obtain⟨u6,z6⟩:=c 6 (by omega);have T:=U j;have w:=U d;clear j d b c;go_wp2;have f:=aH (i:=6) (u:=az)<|aH (i:=5) (u:=az)<|aH (i:=4) (u:=az)<|aH (i:=3) (u:=az)<|aH (i:=2) (u:=aE 0)<|aH (i:=1) (u:=aE 1)<|aH (i:=0) (u:=aE 2) w;refine ct (qM rfl _ _ (z<|G a) 2 1 0 _ _ _ _ _ _ rfl f ⟨_,_,_,rfl⟩ ⟨_,_,_,rfl⟩ ⟨_,_,_,rfl⟩ ⟨_,_,_,rfl⟩) rfl ?_;refine⟨rfl,?_⟩;have q:=B.cz T;exact((((((q.setCell _ 0 _<|.inr<|ah _).setCell _ 1 _<|.inr<|ah _).setCell _ 2 _<|.inr<|ah _).setCell _ 3 _<|.inr<|ah _).setCell _ 4 _<|.inr<|ah _).setCell _ 5 _<|.inr<|ah _).setCell _ 6 _<|.inr<|ah _)
def Rd.aj{S:eV}{w w':Y}{rest:eR}(q:Rd w c rest P)(k:Z S w w')(h:∀l,S l->c<l):Rd w' c rest P:=by
 have g:=q.lt;obtain⟨v,p,n,j⟩:=q;refine⟨v,(k.block c g<|λm=>kP _<|h _ m).trans p,?_,j⟩;rcases n with⟨rfl,rfl⟩|⟨b,a,d,rfl,e,o⟩;exact .inl ⟨rfl,rfl⟩;have:=j b rfl;exact .inr ⟨b,a,d,rfl,e,λl c=>k.cell (o l c) (λm=>by have:=h _ m;omega)<|by omega⟩
structure sR(w0 wr:Y)(sb rb mb:M)(nx lg bt:X)(vs:gW)(Ds:cJ cW)(ks:ab->Prop)(rest:eR):Prop where
 box:wr.heap[sb]?=H (aw (aE nx::aE lg::aE bt::vs).toArray 127 (0,0))
 zC:y vs=4
 Bg:y Ds=4
 rows:∀(j:M)(v:ab)(D:cW),vs[j]?=H v->Ds[j]?=H D->wr.ownsRow (mb+1) 185 4 v (y D) (dy D)
 ne:∀(j j':M)(v v':ab)(q:M),j≠j'->vs[j]?=H v->vs[j']?=H v'->cK v=H q->cK v'≠H q
 set:lh wr mb (.int .u64) ks
 rd:Rd wr rb rest aX
 aj:Z ay w0 wr
 ord:z (G w0)<=rb/\rb<sb/\sb<mb/\mb<z (G wr)
def sR.row{n wr:Y}{nx m f:X}{a:cJ cW}{l:ab->Prop}{rest:eR}(h:sR n wr b c g nx m f B a l rest){j:M}(k:B[j]?=H d):∃D,a[j]?=H D/\wr.ownsRow (g+1) 185 4 d (y D) (dy D):=by
 have i:j<4:=by rw[<-h.zC];grind
 have e:a[j]?=H (a[j]'(by rw[h.Bg];exact i)):=aQ _;exact⟨_,e,h.rows j d _ k e⟩
def sR.own{o wr:Y}{e:X}{a:cJ cW}{n:ab->Prop}{rest:eR}(p:sR o wr c g m k N e B a n rest)(l:B[D]?=H d){q:M}(h:cK d=H q):m<q/\q<z (G wr):=by
 obtain⟨r,_,j⟩:=p.row l;have:=bM j q h;omega
def sR.cell{h wr:Y}{d:X}{a:cJ cW}{e:ab->Prop}{rest:eR}(l:sR h wr c g m k N d B a e rest)(j:M):aW wr (R c<|3+j)=B[j]?:=by
 rw[cg l.box,Am 3 j];simp
def sR.read{l wr e:Y}{i:X}{f:cJ cW}{j:ab->Prop}{rest a:eR}(h:sR l wr b c g k N i B f j rest)(d:Z (λn=>n=c) wr e)(m:Rd e c a aX):sR l e b c g k N i B f j a where
 box:=(d.block b (ak h.box) (by have:=h.ord;omega)).trans h.box
 zC:=h.zC
 Bg:=h.Bg
 rows:=λn v D b g=>d.own (h.rows n v D b g) (λq m o=>by have:=h.own b m;have:=h.ord;omega)
 ne:=h.ne
 set:=h.set.dw<|d.block g h.ord.2.2.2 (by have:=h.ord;omega)
 rd:=m
 aj:=h.aj.trans d<|λn b=>.inr (by have:=h.ord;omega)
 ord:=⟨h.ord.1,h.ord.2.1,h.ord.2.2.1,ag h.ord.2.2.2 d.size⟩
def sR.still{h wr i:Y}{d:X}{a:cJ cW}{f:ab->Prop}{rest:eR}(j:sR h wr b c g k N d B a f rest)(e:Z ay wr i):sR h i b c g k N d B a f rest:=j.read (e.mono cL)<|j.rd.aj e cL
def sR.CK{j wr e:Y}{i:X}{f:cJ cW}{n d:ab->Prop}{rest:eR}(h:sR j wr b c g k N i B f n rest)(a:wr.grownBy e (H g))(m:lh e g (.int .u64) d):sR j e b c g k N i B f d rest where
 box:=(a.block b (ak h.box) (by have:=h.ord;grind)).trans h.box
 zC:=h.zC
 Bg:=h.Bg
 rows:=λp v D b g=>(fA a).own (h.rows p v D b g) (λq m l=>by have:=h.own b m;omega)
 ne:=h.ne
 set:=m
 rd:=h.rd.aj (fA a) (λo l=>by have:=h.ord;omega)
 aj:=h.aj.trans (fA a)<|λo l=>.inr (by have:=h.ord;have:o=g:=l;omega)
 ord:=⟨h.ord.1,h.ord.2.1,h.ord.2.2.1,ag h.ord.2.2.2 a.size⟩
def sR.ks{j wr:Y}{nx i e:X}{d:cJ cW}{f a:ab->Prop}{rest:eR}(h:sR j wr c g m nx i e B d f rest)(l:∀k,a k↔f k):sR j wr c g m nx i e B d a rest:={h with set:=h.set.congr l}
def sR.put{W wr r:Y}{F:X}{O:cJ cW}{V:ab->Prop}{rest:eR}{D':cW}(t:sR W wr c g m k N F B O V rest)(v:B[D]?=H d)(K:eE wr r d s)(Q:r.ownsRow (m+1) 185 4 s (y D') (dy D')):sR W (cq r (R c<|3+D) s) c g m k N F (B.set D s) (O.set D D') V rest:=by
 have x:Z (λE=>cK d=H E) wr r:=Z.fH K;have o:=λq=>t.own (q:=q) v;have u:=t.ord;have A:r.heap[c]?=H (aw (aE k::aE N::aE F::B).toArray 127 (0,0)):=(x.block c (ak t.box) (λl=>by have:=o _ l;omega)).trans t.box;have j:Z (λE=>E=c) r (cq r (R c<|3+D) s):=(gZ c r);have w:∀q,cK s=H q->m<q/\q<z (G r):=λq a=>by have:=bM Q q a;omega
 refine⟨?_,by rw[iE];exact t.zC,by rw[iE];exact t.Bg,?_,?_,?_,?_,?_,?_⟩;rw[aH A,Am 3 D];simp;intro S aa n i e;by_cases l:D=S;subst l;rw[iq]at i e;rw[v]at i;obtain⟨L,h,_⟩:=t.row v;rw[h]at e;cases i;cases e;exact j.own Q (λq a l=>by have:=w q a;omega);rw[gw l]at i e;have h:=x.own (t.rows S aa n i e)<|λq a C=>t.ne S D aa d q (Ne.symm l) i v a C;exact j.own h (λq a l=>by have:=t.own i a;omega);intro S i' aa u' q n i h a;by_cases l:D=S;subst l;rw[gw n]at h;rw[iq,v]at i;cases i;intro e;change cK s=H q at a;rcases K.vp with C|⟨L,C,hy⟩;exact t.ne _ _ _ _ q n v h (C.symm.trans a) e;rw[C]at a;cases a;have:=t.own h e;omega;rw[gw l]at i;by_cases P:D=i';subst P;rw[iq,v]at h;cases h;intro e;change cK s=H q at e;rcases K.vp with C|⟨L,C,hy⟩;exact t.ne _ _ _ _ q n i v a<|C.symm.trans e;rw[C]at e;cases e;have:=t.own i a;omega;rw[gw P]at h;exact t.ne _ _ _ _ q n i h a;exact(t.set.dw<|x.block m u.2.2.2 (λl=>by have:=o _ l;omega)).dw (j.block m (ag u.2.2.2 x.size)<|by omega);exact(t.rd.aj x (λE l=>by have:=o _ l;omega)).aj j (λE l=>by have:E=c:=l;omega);exact(t.aj.trans x<|λE l=>.inr (by have:=o _ l;omega)).trans j<|λE l=>.inr (by have:E=c:=l;omega);grind[gP,Nat.lt_of_lt_of_le,Z.size]
structure nZ(Ms Ds:cJ cW)(i k:M):Prop where
 low:∀j,j<i->Ds[j]?=Ms[j]?
 now:∀m,Ms[i]?=H m->Ds[i]?=H (m.take k)
 vP:∀j,i<j->j<4->Ds[j]?=H []
theorem nZ.start(b:cJ cW):nZ b [[],[],[],[]] 0 0 where
 low:=λj h=>absurd h<|gq j
 now:=λm _=>rfl
 vP:=λj h c=>by
  grind
theorem nZ.yj{b d:cJ cW}{i:M}{m:cW}(h:nZ b d i (y m))(e:b[i]?=H m)(c:y b=4):nZ b d (i+1) 0 where
 low:=λj f=>by
  rcases ik j i with g|g
  .exact h.low j g
  .obtain rfl:j=i:=by omega
   rw[e,h.now m e,bI]
 now:=λg e=>by
  have:i+1<4:=by
   rw[<-c];grind
  rw[xD];exact h.vP _ (Nat.lt_succ_self i) this
 vP:=λj f c=>h.vP j (by omega) c
theorem nZ.one{c e:cJ cW}{i k:M}{m:cW}(h:nZ c e i k)(f:c[i]?=H m):nZ c (e.set i<|m.take<|k+1) i (k+1)where
 low:=λj d=>by rw[gw<|by omega];exact h.low j d
 now:=λg b=>by
  rw[f]at b;cases b;rw[iq,h.now m f];rfl
 vP:=λj d b=>by rw[gw<|by omega];exact h.vP j d b
theorem nZ.all{d c:cJ cW}(h:nZ d c 4 0)(g:y d=4)(f:y c=4):c=d:=by
 refine ut<|λj=>?_;rcases ik j 4 with e|e;exact h.low j e;grind
def xW(b:cJ cW)(i k:M):cW:=(b.take i).flatten++((b[i]?).getD []).take k
theorem RM(b:cJ cW):xW b 0 0=[]:=by simp[xW]
theorem UM{b:cJ cW}{i k:M}{m:cW}(c:b[i]?=H m)(d:k<y m):xW b i (k+1)=xW b i k++[m[k]]:=by
 unfold xW;rw[c];simp_all
theorem Ol{b:cJ cW}{i:M}{m:cW}(d:b[i]?=H m):xW b (i+1) 0=xW b i (y m):=by
 unfold xW;rw[d];have c:i<y b:=by grind
 have e:b[i]=m:=by rw[aQ c]at d;grind
 simp only[oh,bI,xD,dM];rw[ai c,eH,e];simp
theorem Et{b:cJ cW}{i k:M}{m:cW}(c:b[i]?=H m)(f:k<y m):b.flatten=xW b i k++m[k]::(m.drop (k+1)++(b.drop<|i+1).flatten):=by
 have e:i<y b:=by grind
 have h:b[i]=m:=by rw[aQ e]at c;grind
 have d:b.flatten=(b.take i).flatten++(m++(b.drop<|i+1).flatten):=by grind[take_append_drop,drop_eq_getElem_cons,flatten_append,flatten_cons]
 have g:m.take k++m[k]::m.drop (k+1)=m:=by rw[<-bG f,bV]
 unfold xW;rw[c,d];grind
theorem Om{b:cJ cW}{i k:M}{m:cW}(e:(b.flatten.map bz.num).Nodup)(d:b[i]?=H m)(c:k<y m):∀u∈xW b i k,u.num≠m[k].num:=by
 grind[Et,nodup_append,mem_map_of_mem]
theorem Sk{b:cJ cW}{i k:M}{m:cW}(d:b[i]?=H m)(c:k<y m):m[k]∈b.flatten:=by
 rw[Et d c];simp
def qc(b:cJ cW)(i:M):eR:=((b.drop i).map rP).flatten
theorem Ld{b:cJ cW}{i:M}{m:cW}(d:b[i]?=H m):qc b i=le 4 (y m)++(m.flatMap vg++qc b (i+1)):=by
 have c:i<y b:=by grind
 have e:b[i]=m:=by rw[aQ c]at d;grind
 unfold qc;rw[bG c,cy,bK,e];unfold rP;rw[bA]
theorem RE{b:cJ cW}{i:M}(h:y b<=i):qc b i=[]:=by
 unfold qc;rw[List.drop_eq_nil_iff.2 h];rfl
theorem VK(t:bz):kh (vg t):=(kh.le 8 _).append<|(kh.le 4 _).append<|(kh.le 4 _).append<|kh.le 4 _
theorem BX(m:cW):kh (m.flatMap vg):=λx c=>by
 obtain⟨t,_,b⟩:=lS.1 c;exact VK t x b
theorem vN(c:cJ cW)(i:M):kh (qc c i):=λx b=>by
 unfold qc at b;obtain⟨l,d,b⟩:=bC.1 b;obtain⟨m,_,rfl⟩:=bR.1 d;exact((kh.le 4 _).append<|BX m) x b
theorem Bf(m:cW):y (m.flatMap vg)=20*y m:=by
 have:=pG m;unfold rP at this;rw[af,cH]at this;omega
theorem Ax(b:cJ cW):∀i,y (qc b i)<=4*y b+20*y b.flatten:=by
 intro i;unfold qc
 have h:∀L:cJ cW,y ((L.map rP).flatten)=4*y L+20*y L.flatten:=by
  intro L;induction L with
  |nil=>rfl
  |cons m L c=>
   rw[cy,bK,af,c,pG,bK,af,aY];omega
 rw[h];have d:y (b.drop i)<=y b:=by simp
 have e:y (b.drop i).flatten<=y b.flatten:=by(conv=>rhs;rw[<-bV i b,eH,af]);omega
 omega
section
variable{P:Program}(w:Y){ops:Array Oper}{rest:cJ Oper}{o:Oper}{a:Act}{Q:Exit->Act->Y->Prop}
theorem FV(n:o.guard=none)(i x j:Operand)(C:TypeId)(g:o.op=Op.insert C i x j)(B E:TypeId)(r:P.underlying C=H (.map B E))(l:TypeDesc)(p:P.underlying B=H l)(k:M)(h:ab->Prop)(q:a.eval i=.map (H k))(F:lh w k l h)(b:ab)(f:MapKept.IsKey l b)(t:a.eval x=b)(s:a.eval j=dC #[])(m:∀c,lh c k l (λx=>h x\/x=b)->w.grownBy c (H k)->z (G c)=z (G w)->wpList P ops Q rest (a.put o.dst iH) c):wpList P ops Q (o::rest) a w:=by
 refine lw n λD e=>?_;obtain⟨c,d,u,v,A⟩:=zJ r p F b f;unfold Oper.wp;simp[execOp,g,q,t,s,d,Result.andThen];exact e _ _<|m c u v A
end
def J6:ab:=dC #[aE 0,aE 0,aE 0,az,az,az,az]
def M9(w d:Y)(c:M)(K:DK)(a:ab)(e:Ending):Prop:=∃b,pJ w d c K b/\vq K b/\(∀k,b.aO c k->K.aO c k)/\(e=aM (dq #[a,.nilIface])\/0<K.fx.bd/\∃q,e=aM (dq #[J6,eD q])/\lP d q 8)
def Sp(h:cG a b i)(hn:y i.files<=100000000)(hp:Pow a)(ad:¬i.aO b 2)(D:∀av,Pow av->∀ax∈i.files.map da.name,YN av ax)(hm:dh (vw i.files) eh=none):cY aZ 50 #[aA b] a λu w'=>M9 a w' b i D9 u:=by
 obtain⟨N,v⟩:∃N,cN a (aw #[aE 0,aE 0,aE 0,az,az,az,az] 127)=N:=⟨_,rfl⟩;have C:Z ay a N:=by rw[<-v];exact(cF ay a)
 have T:N.heap[z<|G a]?=H (aw #[aE 0,aE 0,aE 0,az,az,az,az] 127 (0,0)):=by rw[<-v];exact aJ _ rfl
 have ac:¬i.aO b (z<|G a):=λau=>by have:=h.lt _ au;omega
 have B:=GX (db:=b) (K:=i) eh (w:=N) (h.aj C<|λ_ _=>id) hm EI;have W:pJ a N b i i:=(pJ.refl h).still C;have HX:=U (show∀e s,pJ N e b i s->vq i s->cY aZ 83 #[aA b] e λu w'=>u=aM (dq #[D9,.nilIface])/\Z ay e w' fromλe s P hs=>by have x:Pow e:=(hp.aj C id).aj P.aj ad;exact NO (db:=b) (K:=s) P.ok (by rw[hs.1];exact hn) x (by rw[hs.1];exact D e x));unfold eh at B;unfold D9 at HX;have Q:=U T;have ao:=U v;have S:=U W;have K:=U ac;clear h hp D hm C T v ad ac W;go_in
 go_wp2_with fail
 rw[J ao];apply B.mono;rintro u e⟨s,q,au,g,o,w,rfl,t,hc⟩;have f:=(g.aj.block _ (ak Q) K).trans Q;have A:aW e (R q 1)=H (ar au):=by obtain⟨E,t,_⟩:=t;exact cellAt t 1 rfl
 rcases hc with rfl|⟨rfl,V⟩;(.have n:=Qk q 10 e A;have aa:=HX e s g o;have al:=U<|S.trans g;have L:=U o;have m:=U w;have l:=U f;clear t A g o w f B;(go_wp2_with fail);apply n.mono;rintro u w1⟨rfl,hw⟩;subst w1;(go_wp2_with fail);apply aa.mono;rintro u w3⟨rfl,P⟩;have x:=(P.block _ (ak l) id).trans l;(have fz:∀k,w3.frozen? (R (z<|G a) k)=aX:=λk=>by simp[World.frozen?,x]);(have c:∀k,k<7->∃F,aW w3 (R (z<|G a) k)=H F:=λk hi=>by rw[cg x];simp_all);obtain⟨u0,z0⟩:=c 0 (by omega);obtain⟨u1,z1⟩:=c 1 (by omega);obtain⟨u2,z2⟩:=c 2 (by omega);obtain⟨u3,z3⟩:=c 3 (by omega);obtain⟨u4,z4⟩:=c 4 (by omega);obtain⟨u5,z5⟩:=c 5 (by omega);obtain⟨u6,z6⟩:=c 6 (by omega);have d:=U<|J al|>.still P;have an:=U x;clear P x c n aa;go_wp2;have p:=aH (i:=6) (u:=az)<|aH (i:=5) (u:=az)<|aH (i:=4) (u:=az)<|aH (i:=3) (u:=az)<|aH (i:=2) (u:=aE 0)<|aH (i:=1) (u:=aE 1)<|aH (i:=0) (u:=aE 2) an;refine ct (qM rfl _ _ (z<|G a) 2 1 0 _ _ _ _ _ _ rfl p ⟨_,_,_,rfl⟩ ⟨_,_,_,rfl⟩ ⟨_,_,_,rfl⟩ ⟨_,_,_,rfl⟩) rfl ?_;have ap:=d.aj.size;have j:Z (λr=>r=z (G a)) w3 _:=((((((((Z.refl (λr=>r=z (G a)) w3).setCell (z<|G a) 0 (aE 2)<|.inl rfl).setCell (z<|G a) 1 (aE 1)<|.inl rfl).setCell (z<|G a) 2 (aE 0)<|.inl rfl).setCell (z<|G a) 3 az<|.inl rfl).setCell (z<|G a) 4 az<|.inl rfl).setCell (z<|G a) 5 az<|.inl rfl).setCell (z<|G a) 6 az<|.inl rfl);have O:∀r,s.aO b r->r≠z (G a):=λr q u=>K<|u▸m r q;exact⟨s,⟨d.ok.aj j<|λr q u=>O r q u,d.aj.trans j (λr u=>.inr<|by omega),d.aO,d.fx⟩,L,m,.inl rfl⟩);have n:=AV q 8 10 (by decide) e A;have HQ:=U t;have HP:=U<|And.intro (S.trans g) (And.intro o w);have l:=U f;(have fz:∀k,e.frozen? (R (z<|G a) k)=aX:=λk=>by simp[World.frozen?,f]);(have c:∀k,k<7->∃F,aW e (R (z<|G a) k)=H F:=λk hi=>by rw[cg f];simp_all);obtain⟨u0,z0⟩:=c 0 (by omega);obtain⟨u1,z1⟩:=c 1 (by omega);obtain⟨u2,z2⟩:=c 2 (by omega);obtain⟨u3,z3⟩:=c 3 (by omega);obtain⟨u4,z4⟩:=c 4 (by omega);obtain⟨u5,z5⟩:=c 5 (by omega);obtain⟨u6,z6⟩:=c 6 (by omega);have x:=U V;clear t A g o w f B c V;(go_wp2_with fail);apply n.mono;rintro u w1⟨rfl,hw⟩;subst w1;clear n;go_wp2;have p:=aH (i:=6) (u:=az)<|aH (i:=5) (u:=az)<|aH (i:=4) (u:=az)<|aH (i:=3) (u:=az)<|aH (i:=2) (u:=aE 0)<|aH (i:=1) (u:=aE 0)<|aH (i:=0) (u:=aE 0) l;refine ct (qM rfl _ _ (z<|G a) 0 0 0 _ _ _ _ _ _ rfl p ⟨_,_,_,rfl⟩ ⟨_,_,_,rfl⟩ ⟨_,_,_,rfl⟩ ⟨_,_,_,rfl⟩) rfl ?_;obtain⟨d,L,m⟩:=J HP;have ap:=d.aj.size;have j:Z (λr=>r=z (G a)) e _:=((((((((Z.refl (λr=>r=z (G a)) e).setCell (z<|G a) 0 (aE 0)<|.inl rfl).setCell (z<|G a) 1 (aE 0)<|.inl rfl).setCell (z<|G a) 2 (aE 0)<|.inl rfl).setCell (z<|G a) 3 az<|.inl rfl).setCell (z<|G a) 4 az<|.inl rfl).setCell (z<|G a) 5 az<|.inl rfl).setCell (z<|G a) 6 az<|.inl rfl);have O:∀r,s.aO b r->r≠z (G a):=λr q u=>K<|u▸m r q;refine⟨s,⟨d.ok.aj j<|λr q u=>O r q u,d.aj.trans j (λr u=>.inr<|by omega),d.aO,d.fx⟩,L,m,.inr ⟨x,q,rfl,?_⟩⟩;obtain⟨E,t,P⟩:=J HQ;refine⟨E,(j.block q (ak t)<|λu=>?_).trans t,P⟩;have:=J l;rw[<-u,t]at this;simp[aw]at this
def Ct{P:Program}{d:Array Oper}{Q:Exit->Act->Y->Prop}{e:Region.Mode}{S:Y->Prop}{i m:M}{o:Oper}{c:Array Bool}{l:Act}(n:d[i]?=H o)(p:Region.wanted o (yielded d l.tmps)=ci)(k:Region.ready e d c=[i])(r:∀K:Act->Y->Prop,(∀g f,(i<m->S f)->nh P e d Q S m b (c.setIfInBounds i ci) g f->K g f)->Oper.wp P o l a K Q):nh P e d Q S m (b+1) c l a:=by
 refine⟨λh=>(by rw[k]at h;cases h),λq j=>?_⟩;rw[k]at j;obtain rfl:q=i:=by simpa using j
 unfold wpOp;grind
def AF(a c:cJ cW)(j:M):Prop:=∀i,i<j->y (a.getD i [])=y (c.getD i [])/\kg (a.getD i [])=kg (c.getD i [])
def AF.nx{a d:cJ cW}(h:AF a d c)(e:y (a.getD c [])=y (d.getD c []))(f:kg (a.getD c [])=kg (d.getD c [])):AF a d (c+1):=λi g=>by
 rcases uK.1 g with q|rfl;exact h i q;exact⟨e,f⟩
def JV(ad:Y)(c o:M)(p0 p1 p2 p3 q0 q1 q2 q3:ab)(x C D E K L N O:cW)(e:∀W,Z ay ad W->(aW W (R c 10)=H p0/\aW W (R c 11)=H p1/\aW W (R c 12)=H p2/\aW W (R c 13)=H p3)/\(aW W (R o 0)=H q0/\aW W (R o 1)=H q1/\aW W (R o 2)=H q2/\aW W (R o 3)=H q3)/\(iW W p0 x/\iW W p1 C/\iW W p2 D/\iW W p3 E)/\(iW W q0 K/\iW W q1 L/\iW W q2 N/\iW W q3 O))(hc:kg x<=1000000000/\kg C<=1000000000/\kg D<=1000000000/\kg E<=1000000000/\kg K<=1000000000/\kg L<=1000000000/\kg N<=1000000000/\kg O<=1000000000):cY aZ 125 #[cX<|H<|R c 10,aA o] ad λax w'=>∃aU,ax=aM (aN aU)/\(aU=ci->AF [x,C,D,E] [K,L,N,O] 4)/\Z ay ad w':=by
 have one:∀(k j:M)(p q:ab)(g b:cW),(∀W,Z ay ad W->(aW W (R c k)=H p/\aW W (R o j)=H q)/\iW W p g/\iW W q b)->kg g<=1000000000->kg b<=1000000000->∃(ac:Y->Prop)(ao f:Option Addr)(al an:M)(A B:cW),(∀W,Z ay ad W->ac W/\iW W (I ao (y A) al) A/\iW W (I f (y B) an) B)/\(∀a,ac a->aW a (R c k)=H (I ao (y A) al)/\aW a (R o j)=H (I f (y B) an))/\kg A<=1000000000/\kg B<=1000000000/\A=g/\B=b:=by intro k j p q g b h aF aD;obtain⟨_,s,t⟩:=h ad<|Z.refl _ ad;obtain⟨ao,al,rfl⟩:=bY s.row;obtain⟨f,an,rfl⟩:=bY t.row;exact⟨_,ao,f,al,an,g,b,h,λa h=>h,aF,aD,rfl,rfl⟩
 have F:∀j,j<4->∃(ac:Y->Prop)(ao f:Option Addr)(al an:M)(A B:cW),(∀W,Z ay ad W->ac W/\iW W (I ao (y A) al) A/\iW W (I f (y B) an) B)/\(∀a,ac a->aW a (R c<|10+j)=H (I ao (y A) al)/\aW a (R o j)=H (I f (y B) an))/\kg A<=1000000000/\kg B<=1000000000/\A=[x,C,D,E].getD j []/\B=[K,L,N,O].getD j []:=by obtain⟨g,i,k,l,m0,m1,m2,m3⟩:=hc;intro j hj;rcases(show j=0\/j=1\/j=2\/j=3 by omega)with rfl|rfl|rfl|rfl;exact one 10 0 _ _ _ _ (λW d=>⟨⟨(e W d).1.1,(e W d).2.1.1⟩,(e W d).2.2.1.1,(e W d).2.2.2.1⟩) g m0;exact one 11 1 _ _ _ _ (λW d=>⟨⟨(e W d).1.2.1,(e W d).2.1.2.1⟩,(e W d).2.2.1.2.1,(e W d).2.2.2.2.1⟩) i m1;exact one 12 2 _ _ _ _ (λW d=>⟨⟨(e W d).1.2.2.1,(e W d).2.1.2.2.1⟩,(e W d).2.2.1.2.2.1,(e W d).2.2.2.2.2.1⟩) k m2;exact one 13 3 _ _ _ _ (λW d=>⟨⟨(e W d).1.2.2.2,(e W d).2.1.2.2.2⟩,(e W d).2.2.1.2.2.2,(e W d).2.2.2.2.2.2⟩) l m3
 have HP:=U F;clear e hc one F;generalize [x,C,D,E]=As at HP|-;generalize [K,L,N,O]=Bs at HP|-;go_in
 go_wp2;go_loopw [6] (λav wr=>∃j:M,j<=4/\av=ar j/\AF As Bs j/\Z ay ad wr) (λav _=>4-(intOf av).toNat)
 case atStart=>exact⟨0,by omega,by go_num,λav a=>absurd a<|gq av,Z.refl _ _⟩
 (case round=>obtain⟨j,hj,rfl,m,ht⟩:=hrel;by_cases h4:j<4;(.obtain⟨ac,ao,f,al,an,A,B,d,hX,aF,aD,eA,eB⟩:=HP j h4;have ap:=U<|show y A=y B->kg A=kg B->AF As Bs (j+1)fromλa c=>m.nx (by rw[<-eA,<-eB];exact a) (by rw[<-eA,<-eB];exact c);clear m eA eB;have t:=ht.cz<|cZ ay wr;obtain⟨k,hL,_⟩:=d wr.drew t;have p:=zS hL aF;have HQ:=U<|λW(a:Z ay ad W)=>And.intro (d W a).1 (zS (d W a).2.2 aD);have HT:=U t;clear ht t d hL;rcases(show j=0\/j=1\/j=2\/j=3 by omega)with rfl|rfl|rfl|rfl;(all_goals simp only[Nat.reduceAdd]at hX;have w:=U hX;clear hX;by_cases l:y A=y B;(.have el:((y A:X)!=(y B:X))=aX:=bne_eq_false_iff_eq.2 (by omega);have u:=U l;clear l;obtain⟨eb,ec⟩:∃eb,((kg A:X)!=(kg B:X))=eb:=⟨_,rfl⟩;(go_wp2_with fail);rename_i QQ KK i;refine jj ac 28 (by kernel_rfl) ?_;refine kF 0 ?_;(iterate 19 (refine tB (v:=?_) k rfl (by kernel_rfl) (λ_ _ _ h=>h) (Or.inl ⟨by rfl,?_⟩) ?_;rotate_left;(focus(intro a n;obtain⟨z0,z1⟩:=w a n;go_simp;try with_reducible rfl));simp only[Act.put,Nat.reduceAdd,dd,eG,dX,de,cD,cI]));apply oC;refine kF 20 ?_;(iterate 5 (refine tB (v:=?_) k rfl (by kernel_rfl) (λ_ _ _ h=>h) (Or.inl ⟨by rfl,?_⟩) ?_;rotate_left;(focus(intro a n;obtain⟨z0,z1⟩:=w a n;go_simp;try with_reducible rfl));simp only[Act.put,Nat.reduceAdd,dd,eG,dX,de,cD,cI]));apply oC;refine Ct (i:=19) rfl (by rfl) (by kernel_rfl) ?_;intro K1 P;go_simp;apply p.mono;rintro ax W1⟨rfl,T⟩;have r:=HT.cz<|Z.aR (S:=ay) T;obtain⟨S,aa⟩:=HQ W1 r;have au:=U r;refine P _ _ (λ_=>S) ?_;(try simp only[Act.put,dd,eG,dX,de,cD,cI]);clear P T r p k S;refine Ct (i:=25) rfl (by rfl) (by kernel_rfl) ?_;intro K2 Q;go_simp;apply aa.mono;rintro ax W2⟨rfl,V⟩;have s:=au.cz<|Z.aR (S:=ay) V;have k:=(HQ W2 s).1;have g:=U s;refine Q _ _ (λ_=>k) ?_;(try simp only[Act.put,dd,eG,dX,de,cD,cI]);clear Q V s aa;refine kF 26 ?_;(iterate 2 (refine tB (v:=?_) k rfl (by kernel_rfl) (λ_ _ _ h=>h) (Or.inl ⟨by rfl,?_⟩) ?_;rotate_left;(focus(intro a n;obtain⟨z0,z1⟩:=w a n;go_simp;try with_reducible rfl));simp only[Act.put,Nat.reduceAdd,dd,eG,dX,de,cD,cI]));apply oC;refine ju (by kernel_rfl) ?_ _;show KK _ _;apply i;clear i k;cases eb;(.have HN:=U<|ap u (by have:=bne_eq_false_iff_eq.1 ec;omega);go_wp2;go_roundw;(case rel=>first|exact⟨1,by omega,by go_num,HN,g⟩|exact⟨2,by omega,by go_num,HN,g⟩|exact⟨3,by omega,by go_num,HN,g⟩|exact⟨4,by omega,by go_num,HN,g⟩);case measure=>simp[intOf]);go_wp2;go_ret;exact⟨aX,rfl,(λq=>by cases q),g⟩);(.have el:((y A:X)!=(y B:X))=ci:=zw.2 (by omega);clear l;(go_wp2_with fail);rename_i QQ KK i;refine jj ac 28 (by kernel_rfl) ?_;refine kF 0 ?_;(iterate 14 (refine tB (v:=?_) k rfl (by kernel_rfl) (λ_ _ _ h=>h) (Or.inl ⟨by rfl,?_⟩) ?_;rotate_left;(focus(intro a n;obtain⟨z0,z1⟩:=w a n;go_simp;try with_reducible rfl));simp only[Act.put,Nat.reduceAdd,dd,eG,dX,de,cD,cI]));apply oC;refine kF 14 ?_;(iterate 13 (refine tB (v:=iH) k rfl (by kernel_rfl) (λ_ _ _ h=>h) (Or.inr ⟨by rfl,rfl⟩) ?_;simp only[Act.put,Nat.reduceAdd,dd,eG,dX,de,cD,cI]));apply oC;refine kF 27 ?_;(iterate 1 (refine tB (v:=?_) k rfl (by kernel_rfl) (λ_ _ _ h=>h) (Or.inl ⟨by rfl,?_⟩) ?_;rotate_left;(focus(intro a n;obtain⟨z0,z1⟩:=w a n;go_simp;try with_reducible rfl));simp only[Act.put,Nat.reduceAdd,dd,eG,dX,de,cD,cI]));apply oC;refine ju (by kernel_rfl) ?_ _;show KK _ _;apply i;clear i k p;go_wp2;go_ret;exact⟨aX,rfl,(λq=>by cases q),HT⟩)));(obtain rfl:j=4:=by omega);have HT:=U ht;have g:=U m;clear ht m;go_wp2;go_ret;exact⟨ci,rfl,(λ_=>g),HT⟩)
