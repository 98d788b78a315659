import Derived.Test.YtmnlcbeggagabaaGreatDoorC21
import Derived.Test.YtmnlcbeggagabaaGreatDoorC22
open _root_ renaming List.length→y,Option.some→H,Array.size→z,Go.World.heap→G,Go.Value.ownBlock→cz,Go.World.cell?→aS,Go.World.setCell→cA,Go.World.alloc→cG,Bool.false→bj,Bool.true→ci,Nat→M,Int→U,List→cS,Go.Calls→cD,Go.undef→ix,Go.Proofs.Tryz.prog→aZ,Go.Value.slice→J,Go.Value.string→am,Go.Value.bool→aK,Go.Value.pointer→dF,Go.Value.tuple→dd,Go.Value.agg→dD
namespace Go.Proofs.YtmnlcbeggagabaaGreatDoor
open ChangeShapes WideShapes RowKit Proofs.Tryz List
set_option maxHeartbeats 16000000
set_option linter.all false
set_option maxRecDepth 100000
variable{a f B:Z}{b c g m x:M}{d u:ab}{i:DK}{k D S:U}{n V:dN}{o:SR}{v:ae}{A:iF}{F:Fs}{K:Bool}
structure UP(w0 w:Z)(x:M)(ob:Obj)(o:ab)(bs:dN):Prop where
 own:eE w (z<|G w0) o bs
 box:w.heap[x]?=H ob
 ne:cz o≠H x
 ap:I az w0 w
def UP.wrote{i:Obj}(h:UP a f b i d n)(g:eC f B d u)(k:eE B (z<|G a) u V):UP a B b i u V:=by
 have c:=ar h.box;have e:=I.fy g;refine⟨k,(e.block b c h.ne).trans h.box,λj=>?_,h.ap.trans e<|λp j=>.inr (h.own.lt p j).1⟩;rcases g.uj with m|⟨l,m,o⟩;exact h.ne<|m.symm.trans j;grind
def ue(t:bw):dN:=le 8 t.num++(le 4 (y<|dw t.cs)++(le 4 (y<|eO t.ks)++le 4 (kO<|eO t.ks)))
def ru(a:cN):dN:=le 4 (y a)++a.flatMap ue
def iq(next b a:U)(c:cS cN):dN:=gy<|le 8 next++le 8 b++le 8 a++(c.map ru).flatten
def Ln(t:bw):y (ue t)=20:=by simp[ue,bU]
theorem nD(a:cN):y (ru a)=4+20*y a:=by
 unfold ru;rw[ag,bU];induction a with
 |nil=>rfl
 |cons t r b=>rw[dI,ag,Ln,aW];omega
structure bw.nZ(t:bw):Prop where
 num:t.num<18446744073709551616
 d:y (dw t.cs)<4294967296
 i:y (eO t.ks)<4294967296
def Gc(a:cN)(n j:M)(h:n<y a)(d:j<4):(dq a)[n*4+j]?=(bw.vq a[n])[j]?:=by
 have e:∀(l:cN),y (dq l)=y l*4:=by
  intro l;induction l with
  |nil=>rfl
  |cons t r b=>unfold dq at*;rw[dI,ag,b];simp[bw.vq];omega
 have f:dq a=dq (a.take n)++(bw.vq a[n]++dq (a.drop<|n+1)):=by(have b:a=a.take n++a[n]::a.drop (n+1):=by rw[<-bD h,bX]);have c:dq a=dq (a.take n++a[n]::a.drop (n+1)):=bQ dq b;rw[c];unfold dq;rw[fV,dI]
 grind
def NC(next g c:U)(P Q S T:Option Addr)(K c1 c2 c3:M)(m0 m1 m2 m3:cN)(hT:Steps a)(r0:Row a 4 (J P (y m0) K) (y m0) (dq m0))(r1:Row a 4 (J Q (y m1) c1) (y m1) (dq m1))(r2:Row a 4 (J S (y m2) c2) (y m2) (dq m2))(r3:Row a 4 (J T (y m3) c3) (y m3) (dq m3))(b0:∀k,cz (J P (y m0) K)=H k->k<z (G a))(b1:∀k,cz (J Q (y m1) c1)=H k->k<z (G a))(b2:∀k,cz (J S (y m2) c2)=H k->k<z (G a))(b3:∀k,cz (J T (y m3) c3)=H k->k<z (G a))(k0:∀bd∈m0,bd.nZ)(k1:∀bd∈m1,bd.nZ)(k2:∀bd∈m2,bd.nZ)(k3:∀bd∈m3,bd.nZ)(hn:0<=next/\next<18446744073709551616)(hl:0<=g/\g<18446744073709551616)(hb:0<=c/\c<18446744073709551616)(hs:y m0+y m1+y m2+y m3<=1000000):cD aZ 224 #[dD #[aE next,aE g,aE c,J P (y m0) K,J Q (y m1) c1,J S (y m2) c2,J T (y m3) c3]] a λC w'=>∃v',C=aJ v'/\eE w' (z<|G a) v' (iq next g c [m0,m1,m2,m3])/\I az a w':=by
 obtain⟨OB,L⟩:∃OB:Obj,OB=ay #[aE next,aE g,aE c,J P (y m0) K,J Q (y m1) c1,J S (y m2) c2,J T (y m3) c3] 126:=⟨_,rfl⟩;have t:∀(cl:Z)(bc:M)(ck:ab),cl.heap[z<|G a]?=H OB->(#[aE next,aE g,aE c,J P (y m0) K,J Q (y m1) c1,J S (y m2) c2,J T (y m3) c3]:Array ab)[bc]?=H ck->aS cl (R (z<|G a) bc)=H ck:=by grind[bV]
 have hA0:UP a (cG a OB) (z<|G a) OB aw []:=⟨eE.nil _ _,aH _ rfl,(by intro C;cases C),(cK _ a)⟩;have p1:=oV next hA0.own hA0.ap.size (by simp) hn.1 hn.2
 obtain⟨bf,l,HT,bx,bE,bT,ca,bi⟩:=Ce hA0 t hT r0 r1 r2 r3 b0;obtain⟨bk,bl,bm,bq,br,bt,bu,bv⟩:=Ce b1 b2 b3 k0 k1 k2 k3 L;rw[L]at p1;clear hA0 t hT r0 r1 r2 r3 b0 b1 b2 b3 k0 k1 k2 k3 L;go_in
 go_wp2_with fail
 apply p1.mono;rintro C w1⟨v1,rfl,aa,N⟩;rw[<-af bv]at N;have hA1:=bf.wrote N aa;have d1:=l w1 1 _ hA1.box rfl;have p2:=oV g hA1.own hA1.ap.size (by simp[bU]) hl.1 hl.2;have bg:=Y hA1;clear hA1 aa N p1;go_wp2_with fail
 apply p2.mono;rintro C w2⟨v2,rfl,ac,aD⟩;have hA2:=bg.wrote aD ac;have d2:=l w2 2 _ hA2.box rfl;have p3:=oV c hA2.own hA2.ap.size (by simp[bU]) hb.1 hb.2;have bh:=Y hA2;clear hA2 ac aD p2 d1;go_wp2_with fail
 apply p3.mono;rintro C w3⟨v3,rfl,ad,aF⟩;have hA3:=bh.wrote aF ad;have d3:=l w3 3 _ hA3.box rfl;have d4:=l w3 4 _ hA3.box rfl;have d5:=l w3 5 _ hA3.box rfl;have d6:=l w3 6 _ hA3.box rfl;have W:=Y hA3.own;have cd:=Y hA3.ap;clear hA3 ad aF p3 d2;obtain⟨f,j⟩:∃f,(([]++le 8 next)++le 8 g)++le 8 c=f:=⟨_,rfl⟩;have cs:y f=24:=by rw[<-j];simp[bU]
 have X:=Y j;rw[j]at W;clear j;go_wp2;go_loopw [3,21] (λcx bc wr=>∃k:M,k<=4/\bc=aq k/\eE wr (z<|G a) cx (f++(([m0,m1,m2,m3].take k).map ru).flatten)/\I az a wr) (λ_ bc _=>4-(intOf bc).toNat)
 case atStart=>exact⟨0,bG _,rfl,by simpa using af W,cd⟩
 (case round=>obtain⟨k,hk,rfl,i,m⟩:=hrel;have ax:=m.size;have av:=i.lt;(have s:∀k,y (f++(([m0,m1,m2,m3].take k).map ru).flatten)<=30000000:=by intro k;(have h1:y ((([m0,m1,m2,m3].take k).map ru).flatten)<=y ((([m0,m1,m2,m3]).map ru).flatten):=by grind[Sublist.length_le,flatten_append,take_append_drop,sublist_append_left]);grind[nD,length_append]);rcases gA k 4 with ch|ch;(·(obtain⟨b,x,cM,HR,HB,HK,cp,v,cu⟩:∃(b:cN)(x:Option Addr)(cM:M),Hid (Row a 4 (J x (y b) cM) (y b)<|dq b)/\Hid (∀k,cz (J x (y b) cM)=H k->k<z (G a))/\Hid (∀bd∈b,bd.nZ)/\y b<=1000000/\f++(([m0,m1,m2,m3].take<|k+1).map ru).flatten=(f++(([m0,m1,m2,m3].take k).map ru).flatten)++ru b/\∀cl,(Instr.index 124 (dD #[J P (y m0) K,J Q (y m1) c1,J S (y m2) c2,J T (y m3) c3])<|aq k).run aZ cl=.ok (J x (y b) cM) cl:=by(have d:k=0\/k=1\/k=2\/k=3:=by omega);rcases d with rfl|rfl|rfl|rfl;exact⟨m0,P,K,bx,bi,bq,by omega,by simp,λ_=>by kernel_rfl⟩;exact⟨m1,Q,c1,bE,bk,br,by omega,by simp,λ_=>by kernel_rfl⟩;exact⟨m2,S,c2,bT,bl,bt,by omega,by simp,λ_=>by kernel_rfl⟩;exact⟨m3,T,c3,ca,bm,bu,by omega,by simp,λ_=>by kernel_rfl⟩);(have cv:(k:U)<4:=by omega);have cm:=s k;have cj:=s<|k+1;have cc:=Y v;clear s v;generalize f++(([m0,m1,m2,m3].take k).map ru).flatten=bs at*;have a1:=sA (n:=(y b:M)) (by omega) (by omega);have pw:=jq (y b:M) i ax (by omega) (by omega) (by omega);have F:=Y m;clear i m;(go_wp2_with fail);apply pw.mono;rintro C w4⟨v4,rfl,u,w⟩;have D:=Y u;have E:=Y<|F.trans (I.fy w)<|λl j=>.inr (av l j).1;clear u w pw;go_wp2;(go_loopw [3,31] (λcx bc wr=>∃q:M,q<=y b/\bc=aq q/\eE wr (z<|G a) cx ((bs++le 4 (y b:M))++(b.take q).flatMap ue)/\I az a wr) (λ_ bc _=>y b-(intOf bc).toNat));(case atStart=>exact⟨0,bG _,rfl,by simpa using af D,E⟩);(case round=>obtain⟨q,hq,rfl,d,e⟩:=hrel;have cn:=e.size;by_cases A:q<y b;(.obtain⟨_,⟨hx,h0⟩|⟨co,O,cB,hx,_,hc⟩⟩:=af HR;omega;(.cases hx;have ce:co<z (G a):=HB co rfl;have hg:∀l ck,l<4->(bw.vq b[q])[l]?=H ck->aS wr (R co<|O+q*4+l)=H ck:=λl ck j a=>e.cell (by rw[bF];exact hc _ _<|(Gc b q l A j).trans a) id ce;have B:=HK _<|ak A;(have cw:y ((bs++le 4 (y b:M))++(b.take q).flatMap ue)<=100000000:=by have h1:=nD<|b.take q;unfold ru at h1;rw[ag,bU]at h1;(have h2:y (b.take q)<=1000000:=by simp;omega);simp only[ag,bU];omega);have cb:=Y (show((bs++le 4 (y b:M))++(b.take q).flatMap ue)++(le 8 (b[q].num:M)++(le 4 (y<|dw b[q].cs)++(le 4 (y<|eO b[q].ks)++le 4 (kO<|eO b[q].ks))))=(bs++le 4 (y b:M))++(b.take<|q+1).flatMap ue from by rw[aj A,fV,<-bz];simp[ue]);have g0:=hg 0 _ (by omega) rfl;have g1:=hg 1 _ (by omega) rfl;have g2:=hg 2 _ (by omega) rfl;have g3:=hg 3 _ (by omega) rfl;have o1:=B.num;have o2:=B.d;have o3:=B.i;have o4:=vD<|eO b[q].ks;have o5:=xq<|eO b[q].ks;clear hg B;simp only[lq]at g0 g1 g2 g3;generalize b[q].num=y0 at*;generalize y (dw b[q].cs)=y1 at*;generalize y (eO b[q].ks)=y2 at*;generalize kO (eO b[q].ks)=y3 at*;generalize((bs++le 4 (y b:M))++(b.take q).flatMap ue)=B0 at*;have hE:UP a (cG wr<|ay #[aE y0,dh y1,dh y2,dh y3] 188) (z<|G wr) (ay #[aE y0,dh y1,dh y2,dh y3] 188) u3 B0:=⟨d.alloc _,aH _ rfl,λC=>by have:=(d.lt _ C).2;omega,e.alloc _⟩;have z1:=oV (y0:M) hE.own hE.ap.size (by omega) (by omega) (by omega);have HE:=Y hE;clear hE d e;(go_wp2_with fail);apply z1.mono;rintro C w5⟨v5,rfl,al,aU⟩;have o:=HE.wrote aU al;have f1:=cellAt o.box 1 rfl;have z2:=jq (y1:M) o.own o.ap.size (by rw[ag,bU];omega) (by omega) (by omega);have bn:=Y o;clear o al aU z1;(go_wp2_with fail);apply z2.mono;rintro C w6⟨v6,rfl,an,aV⟩;have p:=bn.wrote aV an;have f2:=cellAt p.box 2 rfl;have z3:=jq (y2:M) p.own p.ap.size (by simp only[ag,bU];omega) (by omega) (by omega);have bo:=Y p;clear p an aV z2;(go_wp2_with fail);apply z3.mono;rintro C w7⟨v7,rfl,ao,ba⟩;have r:=bo.wrote ba ao;have f3:=cellAt r.box 3 rfl;have z4:=jq y3 r.own r.ap.size (by simp only[ag,bU];omega) o4 o5;have bp:=Y r;clear r ao ba z3;(go_wp2_with fail);apply z4.mono;rintro C w8⟨v8,rfl,au,bb⟩;have V:=Y<|bp.wrote bb au;clear au bb z4;go_wp2;go_roundw;(case rel=>refine⟨q+1,A,by go_num,?_,V.ap⟩;rw[<-af cb];have h:=V.own;simpa using h);case measure=>simp[intOf];omega));(·(have p:q=y b:=by omega);subst p;rw[bL]at d;have r:=Y d;have o:=Y e;clear d e;go_wp2;go_roundw;(case rel=>refine⟨k+1,by omega,by go_num,?_,o⟩;rw[af cc];have h:=af r;unfold ru;simpa using h);case measure=>simp[intOf];omega)));(·(obtain rfl:k=4:=by omega);have b:((4:M):U)=4:=rfl;have d:=Dl (HT.below (m.below (ai _) cC) HT.lt) i ax (by have:=s 4;omega);have F:=Y m;clear i m s;(go_wp2_with fail);apply d.mono;rintro C w4⟨v4,rfl,u,w⟩;have D:=Y u;have E:=Y<|F.trans (I.fy w)<|λl j=>.inr (av l j).1;clear u w;go_wp2;go_ret;refine⟨_,rfl,?_,E⟩;have h:=af D;unfold iq gy;(have C:f++(([m0,m1,m2,m3].take 4).map ru).flatten=le 8 next++le 8 g++le 8 c++([m0,m1,m2,m3].map ru).flatten:=by rw[<-af X];simp);rw[C]at h;exact h))
def Rj(c:dN)(h:dB F v=none):uL (F++[(v,c)]) v=F:=by
 induction F with
 |nil=>simp[uL]
 |cons g r b=>
  obtain⟨a,d⟩:=g;by_cases e:a=v
  .simp[dB,e]at h
  .simp[dB,e]at h;simp[uL,e,b h]
def Gk(next c b:U)(d:cS cN):jn (iq next c b d):=by
 unfold iq gy;refine(jn.append ?_ ?_).append<|jn.le 4 _;exact((jn.le 8 _).append<|jn.le 8 _).append<|jn.le 8 _;intro x a;obtain⟨l,e,a⟩:=bB.1 a;obtain⟨f,_,rfl⟩:=bM.1 e;unfold ru at a;rcases aG.1 a with a|a;exact jn.le 4 _ x a;obtain⟨t,_,a⟩:=nL.1 a;unfold ue at a;simp only[aG]at a;rcases a with a|a|a|a;exact jn.le 8 _ x a;exact jn.le 4 _ x a;exact jn.le 4 _ x a;exact jn.le 4 _ x a
def Sy(g:M)(K:DK)(next c b:U)(x0 x1 x2 x3:Option Addr)(F c1 c2 c3:M)(m0 m1 m2 m3:cN)(hT:Steps a)(r0:Row a 4 (J x0 (y m0) F) (y m0) (dq m0))(r1:Row a 4 (J x1 (y m1) c1) (y m1) (dq m1))(r2:Row a 4 (J x2 (y m2) c2) (y m2) (dq m2))(r3:Row a 4 (J x3 (y m3) c3) (y m3) (dq m3))(b0:∀k,cz (J x0 (y m0) F)=H k->k<z (G a))(b1:∀k,cz (J x1 (y m1) c1)=H k->k<z (G a))(b2:∀k,cz (J x2 (y m2) c2)=H k->k<z (G a))(b3:∀k,cz (J x3 (y m3) c3)=H k->k<z (G a))(k0:∀bb∈m0,bb.nZ)(k1:∀bb∈m1,bb.nZ)(k2:∀bb∈m2,bb.nZ)(k3:∀bb∈m3,bb.nZ)(hn:0<=next/\next<18446744073709551616)(hl:0<=c/\c<18446744073709551616)(hb:0<=b/\b<18446744073709551616)(hs:y m0+y m1+y m2+y m3<=1000000)(w:cH a g K)(hg:dB (vw K.files) uz=none)(bd:y K.dM<=100000000000)(A:ii (vw K.files)+21000000<=1099511627776):cD aZ 176 #[aA g,dD #[aE next,aE c,aE b,J x0 (y m0) F,J x1 (y m1) c1,J x2 (y m2) c2,J x3 (y m3) c3]] a λj o=>
 j=aJ .nilIface/\∃d,oA a o g K d/\vw d.files=sN (vw K.files) (fm,iq next c b [m0,m1,m2,m3])/\d.dM=[]:=by
 obtain⟨aU,p⟩:∃aU,cG a (ay #[aE next,aE c,aE b,J x0 (y m0) F,J x1 (y m1) c1,J x2 (y m2) c2,J x3 (y m3) c3] 126)=aU:=⟨_,rfl⟩
 have hW:I az a aU:=by rw[<-p];exact(cK _ a)
 have ac:Steps aU:=by rw[<-p];exact hT.alloc _
 have f:∀{v n xs},Row a 4 v n xs->(∀k,cz v=H k->k<z (G a))->Row aU 4 v n xs:=λb hk=>hW.row b<|λk j=>⟨id,hk k j⟩
 have hz:=hW.size
 have P:=NC next c b x0 x1 x2 x3 F c1 c2 c3 m0 m1 m2 m3 ac (f r0 b0) (f r1 b1) (f r2 b2) (f r3 b3) (λk j=>ah (b0 k j) hz) (λk j=>ah (b1 k j) hz) (λk j=>ah (b2 k j) hz) (λk j=>ah (b3 k j) hz) k0 k1 k2 k3 hn hl hb hs
 have S:=Gk next c b [m0,m1,m2,m3]
 have aa:y (iq next c b [m0,m1,m2,m3])<=20001000/\0<y (iq next c b [m0,m1,m2,m3]):=by
  unfold iq;rw[fC];simp only[ag,bU,cr,gQ,bO,iA,eD,nD];omega
 have L:=λD(v1:ab)(ht:I az aU D)(ho:eE D (z<|G aU) v1 (iq next c b [m0,m1,m2,m3]))=>show∃bc aV,v1=aY bc 0 (y<|iq next c b [m0,m1,m2,m3]) aV/\cD aZ 222 #[aA g,am uz,v1] D λj o=>j=aJ .nilIface/\∃d,oA a o g K d/\vw d.files=vw K.files++[(uz,iq next c b [m0,m1,m2,m3])]/\y d.dM=y K.dM+1 from by
  obtain⟨bc,aV,rfl,a1,a2,_⟩:=oE ho aa.2;have B:I az a D:=hW.bW ht;refine⟨bc,aV,rfl,(Fv (db:=g) (K:=K) uz bc 0 aV (w:=D) (w.ap B<|λ_ _=>id) hg (by omega) (by omega) S (Bytes.cells<|eE.bytes ho) a2 (λcc=>by have:=w.lt _ cc;omega)).mono ?_⟩;rintro j o⟨rfl,d,u,hv,hm⟩;exact⟨rfl,d,⟨u.ok,(B.mono (T:=K.aO g) cC).trans u.ap<|λ_ h=>.inl h,λk hk=>(u.aO k hk).elim .inl<|λaV=>.inr<|aB B.size aV⟩,hv,hm⟩
 have av:=Y L
 generalize iq next c b [m0,m1,m2,m3]=SB at*
 have s:∀r i,oA a r g K i->vw i.files=vw K.files++[(uz,SB)]->y i.dM=y K.dM+1->cD aZ 225 #[aA g,am uz,am fm] r λj o=>j=aJ .nilIface/\∃d,oA a o g K d/\vw d.files=sN (vw K.files) (fm,SB)/\y d.dM=y K.dM+2:=by
  intro r i e m q;have ba:dB (vw i.files) uz=H SB:=by rw[m,jr,hg];simp[dB]
  obtain⟨bf,hF,B⟩:=gR ba;apply(MN uz fm bf e.ok hF (by decide)<|by omega).mono;rintro j o⟨rfl,d,u,hf,hm⟩;refine⟨rfl,d,e.trans u,?_,by omega⟩;rw[hf,AK,Sd,m,Rj SB hg];simp only[B]
 have l:∀r i,oA a r g K i->y i.dM=y K.dM+2->cD aZ 79 #[aA g] r λj o=>j=aJ .nilIface/\∃d,oA a o g K d/\d.files=i.files/\d.dM=[]:=by
  intro r i e q;apply(Js e.ok<|by omega).mono;rintro j o⟨rfl,d,u,hf,hm⟩;exact⟨rfl,d,e.trans u,hf,hm⟩
 obtain⟨E,t,aF⟩:=dz s l p
 clear hT r0 r1 r2 r3 b0 b1 b2 b3 k0 k1 k2 k3 hn hl hb w hg A hW ac f hz S aa L s l p
 go_in
 go_wp2_with fail
 rw[af aF]
 apply P.mono
 rintro j D⟨v1,rfl,X,al⟩
 obtain⟨bc,aV,rfl,C⟩:=av D v1 al X
 clear X al P
 unfold uz at C
 go_wp2_with fail
 apply C.mono
 rintro j r⟨rfl,i,e,m,q⟩
 have x:=E r i e m q
 clear e m q C
 unfold uz fm at x
 go_wp2_with fail
 apply x.mono
 rintro j w3⟨rfl,K3,N,an,V⟩
 have ad:=t w3 K3 N V
 have aD:=Y an
 clear N an V x
 go_wp2_with fail
 apply ad.mono
 rintro j w4⟨rfl,K4,O,Q,W⟩
 obtain⟨ao,au,ax⟩:=dz O Q W
 clear O Q W ad
 go_wp2
 go_ret
 exact⟨rfl,K4,ao,by rw[af au];exact aD,ax⟩
def Rd.ap{S:eT}{w w':Z}(r:Rd w c n K)(k:I S w w')(h:∀l,S l->c<l):Rd w' c n K:=by
 have g:=r.lt;obtain⟨v,q,o,j⟩:=r;refine⟨v,(k.block c g<|λm=>kF _<|h _ m).trans q,?_,j⟩;rcases o with⟨rfl,rfl⟩|⟨b,a,d,rfl,e,p⟩;exact .inl ⟨rfl,rfl⟩;have:=j b rfl;exact .inr ⟨b,a,d,rfl,e,λl c=>k.cell (p l c) (λm=>by have:=h _ m;omega)<|by omega⟩
structure rW(w0 wr:Z)(sb rb mb:M)(nx lg bt:U)(vs:iF)(Ds:cS cN)(ks:ab->Prop)(rest:dN):Prop where
 box:wr.heap[sb]?=H (ay (aE nx::aE lg::aE bt::vs).toArray 126 (0,0))
 yI:y vs=4
 Ap:y Ds=4
 rows:∀(j:M)(v:ab)(D:cN),vs[j]?=H v->Ds[j]?=H D->wr.ownsRow (mb+1) 188 4 v (y D) (dq D)
 ne:∀(j j':M)(v v':ab)(q:M),j≠j'->vs[j]?=H v->vs[j']?=H v'->cz v=H q->cz v'≠H q
 set:kZ wr mb (.int .u64) ks
 rd:Rd wr rb rest bj
 ap:I az w0 wr
 ord:z (G w0)<=rb/\rb<sb/\sb<mb/\mb<z (G wr)
def rW.row{o wr:Z}{a:cS cN}{m:ab->Prop}(h:rW o wr b c g k D S A a m n){j:M}(l:A[j]?=H d):∃f,a[j]?=H f/\wr.ownsRow (g+1) 188 4 d (y f) (dq f):=by
 have i:j<4:=by rw[<-h.yI];grind
 have e:a[j]?=H (a[j]'(by rw[h.Ap];exact i)):=aN _;exact⟨_,e,h.rows j d _ l e⟩
def rW.own{o wr:Z}{a:cS cN}{l:ab->Prop}(p:rW o wr c g m k D S A a l n)(j:A[x]?=H d){q:M}(e:cz d=H q):m<q/\q<z (G wr):=by
 obtain⟨r,_,h⟩:=p.row j;have:=bK h q e;omega
def rW.cell{e wr:Z}{a:cS cN}{d:ab->Prop}(h:rW e wr c g m k D S A a d n)(j:M):aS wr (R c<|3+j)=A[j]?:=by
 rw[bV h.box,zp 3 j];simp
def rW.read{i wr d:Z}{e:cS cN}{f:ab->Prop}(h:rW i wr b c g k D S A e f n)(a:I (λl=>l=c) wr d)(j:Rd d c V bj):rW i d b c g k D S A e f V where
 box:=(a.block b (ar h.box) (by have:=h.ord;omega)).trans h.box
 yI:=h.yI
 Ap:=h.Ap
 rows:=λm v l b g=>a.own (h.rows m v l b g) (λq j o=>by have:=h.own b j;have:=h.ord;omega)
 ne:=h.ne
 set:=h.set.di<|a.block g h.ord.2.2.2 (by have:=h.ord;omega)
 rd:=j
 ap:=h.ap.trans a<|λl b=>.inr (by have:=h.ord;omega)
 ord:=⟨h.ord.1,h.ord.2.1,h.ord.2.2.1,ah h.ord.2.2.2 a.size⟩
def rW.still{f wr h:Z}{a:cS cN}{e:ab->Prop}(i:rW f wr b c g k D S A a e n)(d:I az wr h):rW f h b c g k D S A a e n:=i.read (d.mono cC)<|i.rd.ap d cC
def rW.zN{i wr e:Z}{f:cS cN}{m d:ab->Prop}(h:rW i wr b c g k D S A f m n)(a:wr.grownBy e (H g))(l:kZ e g (.int .u64) d):rW i e b c g k D S A f d n where
 box:=(a.block b (ar h.box) (by have:=h.ord;grind)).trans h.box
 yI:=h.yI
 Ap:=h.Ap
 rows:=λr v p b g=>(fj a).own (h.rows r v p b g) (λq l j=>by have:=h.own b l;omega)
 ne:=h.ne
 set:=l
 rd:=h.rd.ap (fj a) (λo j=>by have:=h.ord;omega)
 ap:=h.ap.trans (fj a)<|λo j=>.inr (by have:=h.ord;have:o=g:=j;omega)
 ord:=⟨h.ord.1,h.ord.2.1,h.ord.2.2.1,ah h.ord.2.2.2 a.size⟩
def rW.ks{i wr:Z}{e:U}{d:cS cN}{f a:ab->Prop}(h:rW i wr c g m k D e A d f n)(l:∀j,a j↔f j):rW i wr c g m k D e A d a n:={h with set:=h.set.congr l}
def rW.put{X wr s:Z}{O:cS cN}{W:ab->Prop}{D':cN}(t:rW X wr c g m k D S A O W n)(w:A[x]?=H d)(L:eC wr s d u)(Q:s.ownsRow (m+1) 188 4 u (y D') (dq D')):rW X (cA s (R c<|3+x) u) c g m k D S (A.set x u) (O.set x D') W n:=by
 have C:I (λK=>cz d=H K) wr s:=I.fy L;have r:=λq=>t.own (q:=q) w;have v:=t.ord;have E:s.heap[c]?=H (ay (aE k::aE D::aE S::A).toArray 126 (0,0)):=(C.block c (ar t.box) (λl=>by have:=r _ l;omega)).trans t.box;have j:I (λK=>K=c) s (cA s (R c<|3+x) u):=(iV c s);have B:∀q,cz u=H q->m<q/\q<z (G s):=λq a=>by have:=bK Q q a;omega
 refine⟨?_,by rw[gU];exact t.yI,by rw[gU];exact t.Ap,?_,?_,?_,?_,?_,?_⟩;rw[aL E,zp 3 x];simp;intro V aa o i e;by_cases l:x=V;subst l;rw[ij]at i e;rw[w]at i;obtain⟨N,h,_⟩:=t.row w;rw[h]at e;cases i;cases e;exact j.own Q (λq a l=>by have:=B q a;omega);rw[gh l]at i e;have h:=C.own (t.rows V aa o i e)<|λq a F=>t.ne V x aa d q (Ne.symm l) i w a F;exact j.own h (λq a l=>by have:=t.own i a;omega);intro V i' aa u' q o i h a;by_cases l:x=V;subst l;rw[gh o]at h;rw[ij,w]at i;cases i;intro e;change cz u=H q at a;rcases L.uj with F|⟨N,F,hy⟩;exact t.ne _ _ _ _ q o w h (F.symm.trans a) e;rw[F]at a;cases a;have:=t.own h e;omega;rw[gh l]at i;by_cases P:x=i';subst P;rw[ij,w]at h;cases h;intro e;change cz u=H q at e;rcases L.uj with F|⟨N,F,hy⟩;exact t.ne _ _ _ _ q o i w a<|F.symm.trans e;rw[F]at e;cases e;have:=t.own i a;omega;rw[gh P]at h;exact t.ne _ _ _ _ q o i h a;exact(t.set.di<|C.block m v.2.2.2 (λl=>by have:=r _ l;omega)).di (j.block m (ah v.2.2.2 C.size)<|by omega);exact(t.rd.ap C (λK l=>by have:=r _ l;omega)).ap j (λK l=>by have:K=c:=l;omega);exact(t.ap.trans C<|λK l=>.inr (by have:=r _ l;omega)).trans j<|λK l=>.inr (by have:K=c:=l;omega);grind[gN,Nat.lt_of_lt_of_le,I.size]
structure nH(Ms Ds:cS cN)(i k:M):Prop where
 low:∀j,j<i->Ds[j]?=Ms[j]?
 now:∀m,Ms[i]?=H m->Ds[i]?=H (m.take k)
 uI:∀j,i<j->j<4->Ds[j]?=H []
theorem nH.start(c:cS cN):nH c [[],[],[],[]] 0 0 where
 low:=λj h=>absurd h<|gC j
 now:=λm _=>rfl
 uI:=λj h d=>by
  grind
theorem nH.wS{c e:cS cN}{i:M}{m:cN}(h:nH c e i (y m))(f:c[i]?=H m)(d:y c=4):nH c e (i+1) 0 where
 low:=λj g=>by
  rcases gA j i with k|k
  .exact h.low j k
  .obtain rfl:j=i:=by omega
   rw[f,h.now m f,bL]
 now:=λj f=>by
  have:i+1<4:=by
   rw[<-d];grind
  rw[we];exact h.uI _ (Nat.lt_succ_self i) this
 uI:=λj g d=>h.uI j (by omega) d
theorem nH.one{d f:cS cN}{i k:M}{m:cN}(h:nH d f i k)(g:d[i]?=H m):nH d (f.set i<|m.take<|k+1) i (k+1)where
 low:=λj e=>by rw[gh<|by omega];exact h.low j e
 now:=λl c=>by
  rw[g]at c;cases c;rw[ij,h.now m g];rfl
 uI:=λj e c=>by rw[gh<|by omega];exact h.uI j e c
theorem nH.all{d c:cS cN}(h:nH d c 4 0)(g:y d=4)(f:y c=4):c=d:=by
 refine tA<|λj=>?_;rcases gA j 4 with e|e;exact h.low j e;grind
def wH(c:cS cN)(i k:M):cN:=(c.take i).flatten++((c[i]?).getD []).take k
theorem PS(c:cS cN):wH c 0 0=[]:=by simp[wH]
theorem SH{c:cS cN}{i k:M}{m:cN}(d:c[i]?=H m)(e:k<y m):wH c i (k+1)=wH c i k++[m[k]]:=by
 unfold wH;rw[d];simp_all
theorem MT{c:cS cN}{i:M}{m:cN}(e:c[i]?=H m):wH c (i+1) 0=wH c i (y m):=by
 unfold wH;rw[e];have d:i<y c:=by grind
 have f:c[i]=m:=by rw[aN d]at e;grind
 simp only[lP,bL,we,dO];rw[aj d,eK,f];simp
theorem DC{c:cS cN}{i k:M}{m:cN}(d:c[i]?=H m)(g:k<y m):c.flatten=wH c i k++m[k]::(m.drop (k+1)++(c.drop<|i+1).flatten):=by
 have f:i<y c:=by grind
 have j:c[i]=m:=by rw[aN f]at d;grind
 have e:c.flatten=(c.take i).flatten++(m++(c.drop<|i+1).flatten):=by grind[take_append_drop,drop_eq_getElem_cons,flatten_append,flatten_cons]
 have h:m.take k++m[k]::m.drop (k+1)=m:=by rw[<-bD g,bX]
 unfold wH;rw[d,e];grind
theorem MU{c:cS cN}{i k:M}{m:cN}(f:(c.flatten.map bw.num).Nodup)(e:c[i]?=H m)(d:k<y m):∀u∈wH c i k,u.num≠m[k].num:=by
 grind[DC,nodup_append,mem_map_of_mem]
theorem Qo{c:cS cN}{i k:M}{m:cN}(e:c[i]?=H m)(d:k<y m):m[k]∈c.flatten:=by
 rw[DC e d];simp
def pI(c:cS cN)(i:M):dN:=((c.drop i).map ru).flatten
theorem JQ{c:cS cN}{i:M}{m:cN}(e:c[i]?=H m):pI c i=le 4 (y m)++(m.flatMap ue++pI c (i+1)):=by
 have d:i<y c:=by grind
 have f:c[i]=m:=by rw[aN d]at e;grind
 unfold pI;rw[bD d,cr,bO,f];unfold ru;rw[bz]
theorem PI{c:cS cN}{i:M}(h:y c<=i):pI c i=[]:=by
 unfold pI;rw[List.drop_eq_nil_iff.2 h];rfl
theorem TI(t:bw):jn (ue t):=(jn.le 8 _).append<|(jn.le 4 _).append<|(jn.le 4 _).append<|jn.le 4 _
theorem Bh(m:cN):jn (m.flatMap ue):=λx d=>by
 obtain⟨t,_,c⟩:=nL.1 d;exact TI t x c
theorem uG(d:cS cN)(i:M):jn (pI d i):=λx c=>by
 unfold pI at c;obtain⟨l,e,c⟩:=bB.1 c;obtain⟨m,_,rfl⟩:=bM.1 e;exact((jn.le 4 _).append<|Bh m) x c
theorem Ao(m:cN):y (m.flatMap ue)=20*y m:=by
 have:=nD m;unfold ru at this;rw[ag,bU]at this;omega
theorem zF(c:cS cN):∀i,y (pI c i)<=4*y c+20*y c.flatten:=by
 intro i;unfold pI
 have h:∀L:cS cN,y ((L.map ru).flatten)=4*y L+20*y L.flatten:=by
  intro L;induction L with
  |nil=>rfl
  |cons m L d=>
   rw[cr,bO,ag,d,nD,bO,ag,aW];omega
 rw[h];have e:y (c.drop i)<=y c:=by simp
 have f:y (c.drop i).flatten<=y c.flatten:=by(conv=>rhs;rw[<-bX i c,eK,ag]);omega
 omega
section
variable{P:Program}(w:Z){b:Array Oper}{rest:cS Oper}{o:Oper}{a:Act}{Q:Exit->Act->Z->Prop}
theorem EQ(p:o.guard=none)(j x k:Operand)(D:TypeId)(h:o.op=Op.insert D j x k)(C F:TypeId)(s:P.underlying D=H (.map C F))(m:TypeDesc)(q:P.underlying C=H m)(l:M)(i:ab->Prop)(r:a.eval j=.map (H l))(K:kZ w l m i)(c:ab)(g:MapKept.IsKey m c)(u:a.eval x=c)(t:a.eval k=dD #[])(n:∀d,kZ d l m (λx=>i x\/x=c)->w.grownBy d (H l)->z (G d)=z (G w)->wpList P b Q rest (a.put o.dst ix) d):wpList P b Q (o::rest) a w:=by
 refine kA p λE f=>?_;obtain⟨d,e,v,A,B⟩:=yP s q K c g;unfold Oper.wp;simp[execOp,h,r,u,t,e,Result.andThen];exact f _ _<|n d v A B
end
def KJ(a:M)(b:cN):ab->Prop:=λx=>x=aE a\/∃t∈b,x=aE t.num
theorem NM(et e m next d b:M)(f:cS cN)(hT:Steps a)(h4:y f=4)(jE:next<18446744073709551616)(jD:d<next)(ia:b<18446744073709551616)(gn:y f.flatten<=1000000)(n:∀bh∈f.flatten,bh.nZ)(ce:(f.flatten.map bw.num).Nodup)(cb:∀bh∈f.flatten,bh.num<next/\bh.num≠d)(T:y (iq next d b f)<=m)(ex:et<z (G a))(hb:Bytes a (aY et e (y<|iq next d b f) m) (iq next d b f)):cD aZ 92 #[aY et e (y<|iq next d b f) m] a λw w'=>
 ∃x0 n0 c0 x1 n1 c1 x2 n2 c2 x3 n3 c3,w=aJ (dd #[dD #[aE next,aE d,aE b,J x0 n0 c0,J x1 n1 c1,J x2 n2 c2,J x3 n3 c3],aK ci])/\(∀(ea:M)(aD:ab)(hU:cN),[J x0 n0 c0,J x1 n1 c1,J x2 n2 c2,J x3 n3 c3][ea]?=H aD->f[ea]?=H hU->w'.ownsRow (z<|G a) 188 4 aD (y hU) (dq hU))/\I az a w':=by
 obtain⟨i0,hD,bg,hL,hM⟩:=cU KS
 obtain⟨u0,hI,hK,iu,iv⟩:=cU Ef
 have hW:∀(hS:Bool)(a:Z),(Op.unary .not<|aK hS).run aZ a=.ok (aK<|!hS) a:=λ_ _=>rfl
 have it:=@qQ aZ
 obtain⟨u,W⟩:∃u,u=le 8 (next:M)++(le 8 (d:M)++(le 8 (b:M)++pI f 0)):=⟨_,rfl⟩
 have gk:iq next d b f=gy u:=by
  rw[W];unfold iq pI;simp
 have bd:=zF f
 rw[h4]at bd
 have hF:y u<=21000000:=by
  rw[W];have:=bd 0;grind[length_append,bU]
 rw[gk]at T hb|-
 rw[fC]at T hb|-
 have gr:I az a (cG a<|ay #[aE 0,aE 0,aE 0,aw,aw,aw,aw] 126):=(cK _ a)
 have ds:=ww et e m u (hT.alloc<|ay #[aE 0,aE 0,aE 0,aw,aw,aw,aw] 126) T (by omega)<|hb.alloc _
 have gb:(cG a<|ay #[aE 0,aE 0,aE 0,aw,aw,aw,aw] 126).heap[z<|G a]?=H (ay #[aE 0,aE 0,aE 0,aw,aw,aw,aw] 126 (0,0)):=aH _ rfl
 have ey:Bytes a (aY et e (y u) m) u:=by
  unfold gy at hb;rcases hb with⟨w,_⟩|⟨o,r,p,w,l,g⟩
  .cases w
  .simp only[Value.slice.injEq,tu,Addr.mk.injEq]at w;obtain⟨⟨rfl,rfl,_⟩,_,rfl⟩:=w;refine .inr ⟨_,_,_,rfl,by omega,λk hk=>?_⟩;have:=g k (by simp;omega);rw[gP hk]at this;exact this
 obtain⟨PL,cT⟩:∃PL,y u=PL:=⟨_,rfl⟩
 rw[cT]at ds|-
 obtain⟨hg,hw,aF,hs,bo,ej⟩:=kY ey gr gb cT W ce
 obtain⟨hn,ei,ac,H4,aa⟩:=jk n cb bd h4 gn
 clear hb ey T gk hF gr gb cT W ce n cb bd h4 gn hT
 go_in
 go_wp2_with fail
 apply ds.mono
 rintro w w1⟨rfl,bb⟩
 have ba:I az a w1:=hw.bW<|I.aQ (S:=az) bb
 have ad:=Y<|I.aQ (S:=az) bb
 have db:=(I.aQ (S:=az) bb).block _ (ar aF) id|>.trans aF
 have ev:Bytes w1 (aY et e PL m) u:=by
  rw[<-af hs];exact hg.below (ba.below (ai _) cC) (λk hk=>by cases hk;exact ex)
 have hG:=ba.size
 have gc:=ar db
 have fx:=mO ev (by intro k hk;cases hk;grind)
 have bs:=Y ba
 have cE:=Y db
 clear ds bb ba db ev
 go_wp2_with fail
 apply fx.mono
 rintro w w2⟨rfl,i,bf⟩
 subst bf
 obtain⟨s,dk⟩:∃s,z (G w1)=s:=⟨_,rfl⟩
 have bq:=Y<|ad.alloc<|ay #[aY et e PL m,aK bj] 328
 have bg:z (G<|cG a<|ay #[aE 0,aE 0,aE 0,aw,aw,aw,aw] 126)<=s:=by have:=ad.size;omega
 have eq:=Y<|bs.alloc<|ay #[aY et e PL m,aK bj] 328
 have ht:=Y<|(eU (ay #[aY et e PL m,aK bj] 328)<|ar cE).trans cE
 have hH:s<z (G<|cG w1<|ay #[aY et e PL m,aK bj] 328):=by simp[dk]
 rw[dk]at i|-
 rw[af bo]at i
 have hY:z (G a)<s:=by omega
 clear fx dk bs cE bo
 generalize cG w1 (ay #[aY et e PL m,aK bj] 328)=w2 at*
 have fl:=zV s (next:M) _ w2 i ((jn.le 8 _).append<|(jn.le 8 _).append<|uG f 0) (by have:=ac 0;have:=af aa;grind[length_append,bU]) (by omega)<|by omega
 clear i
 go_wp2_with fail
 apply fl.mono
 rintro w w3⟨rfl,cm,fb⟩
 have fn:=zV s (d:M) _ w3 cm ((jn.le 8 _).append<|uG f 0) (by have:=ac 0;have:=af aa;grind[length_append,bU]) (by omega)<|by omega
 have ef:=Y fb
 clear cm fb fl
 go_wp2_with fail
 apply fn.mono
 rintro w w4⟨rfl,cn,fd⟩
 have fr:=zV s (b:M) _ w4 cn (uG f 0) (by have:=ac 0;have:=af aa;omega) (by omega)<|by omega
 have eg:=Y fd
 clear cn fd fn
 go_wp2_with fail
 apply fr.mono
 rintro w C⟨rfl,co,fe⟩
 have ax:I (λk=>k=s) w2 C:=((fj ef).trans (fj eg)<|λ_ h=>.inl h).trans (fj fe)<|λ_ h=>.inl h
 have br:=Y<|bq.trans ax<|λk hk=>.inr (by have:k=s:=hk;omega)
 have ge:s<z (G C):=by have:=ax.size;omega
 have bp:=Y co
 clear co fe fr ax ef eg eq ht bq ad
 have A:kZ (cG (cG C<|ay #[aE next,aE d,aE b,aw,aw,aw,aw] 126)<|.map #[] 0) (z (G C)+1) (.int .u64) az:=by
  have:=kZ.new (cG C<|ay #[aE next,aE d,aE b,aw,aw,aw,aw] 126)<|.int .u64;simp_all
 have eA:(cG (cG C<|ay #[aE next,aE d,aE b,aw,aw,aw,aw] 126)<|.map #[] 0).heap[z<|G C]?=H (ay #[aE next,aE d,aE b,aw,aw,aw,aw] 126 (0,0)):=(eU _<|by simp).trans<|aH _ rfl
 have P:=Y A
 have ec:=Y eA
 clear A eA
 go_wp2_with((refine EQ _ rfl _ _ _ 259 rfl 89 80 underlying259 (.int .u64) underlying89 (z (G C)+1) _ rfl P (aE d) rfl rfl rfl ?_;intro w8 gf ff hd;have eo:=Y gf;have cB:=Y ff;have er:=Y hd;clear gf ff hd))
 have hA0:rW (cG a<|ay #[aE 0,aE 0,aE 0,aw,aw,aw,aw] 126) w8 (z<|G C) s (z (G C)+1) next d b [aw,aw,aw,aw] [[],[],[],[]] (KJ d<|wH f 0 0) (pI f 0):=by
  have g:I (λk=>k=z (G C)+1) C w8:=((cK (λk=>k=z (G C)+1) C).alloc _).trans (fj cB)<|λ_ dT=>.inl dT;refine⟨?_,rfl,rfl,?_,?_,eo.congr<|λk=>?_,bp.ap g (λk hk=>by have:k=z (G C)+1:=hk;omega),br.trans g<|λk hk=>.inr (by have:k=z (G C)+1:=hk;omega),⟨bg,ge,by omega,?_⟩⟩
  .exact(cB.block _ (by simp;omega)<|by grind).trans ec
  .intro ea aD l F hT;have w:aD=aw/\l=[]:=by
    rcases ea with _|_|_|_|ea<;>simp at F hT<;>exact⟨F.symm,hT⟩
   rw[w.1,w.2];exact cO _ _ _ _
  .intro ea l aD o q _ F _ hq;have w:aD=aw:=by
    rcases ea with _|_|_|_|ea<;>simp at F<;>exact F.symm
   rw[w]at hq;cases hq
  .unfold KJ;rw[PS];simp
  .rw[af er];simp
 have cx:=Y hA0
 obtain⟨c,gg⟩:∃c,z (G C)=c:=⟨_,rfl⟩
 rw[gg]at cx|-
 obtain⟨mb,fu⟩:∃mb,c+1=mb:=⟨_,rfl⟩
 rw[fu]at cx|-
 have cc:∀(j:M)(B:cN),f[j]?=H B->y B<=1000000:=λj B hm=>by
  have h1:=af aa;have h2:y B<=y f.flatten:=by
   have:B∈f:=ew hm;exact pE<|cV this
  omega
 have ho:=Y cc
 clear hA0 eo cB er P ec bp br gg fu cc ge hG gc hH bg
 go_wp2_with fail
 go_loopw [35] (λe wr=>∃(j:M)(vs:iF)(Ds:cS cN),j<=4/\e=aq j/\rW (cG a<|ay #[aE 0,aE 0,aE 0,aw,aw,aw,aw] 126) wr c s mb next d b vs Ds (KJ d<|wH f j 0) (pI f j)/\nH f Ds j 0) (λe _=>4-(intOf e).toNat)
 case atStart=>exact⟨0,_,_,bG _,rfl,cx,nH.start f⟩
 case round=>
  obtain⟨j,vs,Ds,jC,rfl,o,aU⟩:=hrel;by_cases fs:j<4
  .have fk:j<y f:=by rw[af H4];exact fs
   obtain⟨B,hm⟩:∃B,f[j]?=H B:=⟨_,aN fk⟩;have ip:=ho j B hm;have dm:=o.rd;rw[JQ hm]at dm;have hc:=rO s (y B:M) _ wr dm ((Bh B).append<|uG f<|j+1) (by have:=ac<|j+1;have:=af aa;rw[ag,Ao];omega) (by omega) (by omega);obtain⟨HA,hv,HM⟩:=dz o aU hm;have e1:(j:U)<4:=by omega
   clear o aU hm dm fk;go_wp2_with fail
   apply hc.mono;rintro w w9⟨rfl,cp,fg⟩;have hf:=Y<|HA.read (fj fg) cp;clear cp fg hc HA;go_wp2_with fail
   go_loopw [9] (λe g=>∃(k:M)(vs:iF)(Ds:cS cN),k<=y B/\e=dh (y B-k:M)/\rW (cG a<|ay #[aE 0,aE 0,aE 0,aw,aw,aw,aw] 126) g c s mb next d b vs Ds (KJ d<|wH f j k) ((B.drop k).flatMap ue++pI f (j+1))/\nH f Ds j k) (λe _=>(intOf e).toNat)
   case atStart=>exact⟨0,_,_,bG _,rfl,by rw[List.drop_zero];exact hf,hv⟩
   case round=>
    obtain⟨k,dx,hZ,hk,rfl,hA2,x⟩:=hrel;by_cases r:k<y B
    .have hm:=af HM;have au:=Qo hm r;have n:=hn _ au;have dc:=ei _ au;have eB:=MU ej hm r;have gj:=SH hm r;have cs:=x.one hm (k:=k);have gs:B.take (k+1)=B.take k++[B[k]]:=aj r;have eu:=x.now B hm;have i:=hA2.rd;rw[bD r,dI,bz]at i;have hC:y ((B.drop<|k+1).flatMap ue++pI f (j+1))<=100000000:=by
      have:=ac<|j+1;have:=af aa;have h1:y (B.drop<|k+1)<=y B:=by simp
      rw[ag,Ao];omega
     have aV:jn ((B.drop<|k+1).flatMap ue++pI f (j+1)):=(Bh _).append<|uG f<|j+1;generalize hR:(B.drop<|k+1).flatMap ue++pI f (j+1)=cM at i hC aV|-;have HR:=Y hR;clear hR;generalize B[k]=bh at*;unfold ue at i;simp only[bz]at i;have ib:=vD<|eO bh.ks;have ih:=xq<|eO bh.ks;have q1:=n.num;have q2:=n.d;have q3:=n.i;have fv:bh.vq=[aE bh.num,dh<|y<|dw bh.cs,dh<|y<|eO bh.ks,dh<|kO<|eO bh.ks]:=rfl;have cd:¬KJ d (wH f j k) (aE bh.num):=by
      rintro(dT|⟨eb,hu,dT⟩)
      .simp only[Value.int.injEq,true_and]at dT;exact dc.2<|by omega
      .simp only[Value.int.injEq,true_and]at dT;exact eB eb hu<|by omega
     have ca:∀hS,KJ d (wH f j<|k+1) hS↔(KJ d (wH f j k) hS\/hS=aE bh.num):=λhS=>by
      unfold KJ;rw[gj];simp only[aG,dA];constructor
      .rintro(dT|⟨eb,hu|rfl,dT⟩)
       .simp_all
       .exact .inl<|.inr ⟨eb,hu,dT⟩
       .exact .inr dT
      .rintro((dT|⟨eb,hu,dT⟩)|dT)
       .exact .inl dT
       .exact .inr ⟨eb,.inl hu,dT⟩
       simp_all
     have hV:=dc.1;obtain⟨hi,hp,hl,hx,hh,el⟩:=kY ca cd fv gs eu cs;clear ca cd fv gs eu cs gj eB dc au n x hm;generalize bh.num=D at*;generalize y (dw bh.cs)=tl at*;generalize y (eO bh.ks)=X at*;generalize kO (eO bh.ks)=K at*;have a1:jn (le 4 K++cM):=(jn.le 4 _).append aV;have a2:jn (le 4 (X:M)++(le 4 K++cM)):=(jn.le 4 _).append a1;have a3:jn (le 4 (tl:M)++(le 4 (X:M)++(le 4 K++cM))):=(jn.le 4 _).append a2;have gx:=zV s (D:M) _ wr i a3 (by simp only[ag,bU];omega) (by omega) (by omega);obtain⟨he,I1,I2,IR⟩:=fX hA2 a1 a2 aV;have e2:(0:U)<((y B-k:M):U):=by omega
     clear hA2 i a1 a2 a3 aV;go_wp2_with fail
     apply gx.mono;rintro w hN⟨rfl,ch,bu⟩;have bf:=rO s (tl:M) _ hN ch I2 (by simp only[ag,bU];omega) (by omega) (by omega);have bk:=Y bu;clear ch bu gx;go_wp2_with fail
     apply bf.mono;rintro w hO⟨rfl,cj,bv⟩;have gE:=rO s (X:M) _ hO cj I1 (by simp only[ag,bU];omega) (by omega) (by omega);have bl:=Y bv;clear cj bv bf;go_wp2_with fail
     apply gE.mono;rintro w hP⟨rfl,ck,bx⟩;have ha:=rO s K _ hP ck IR (by omega) (by omega) (by omega);have bm:=Y bx;clear ck bx gE;go_wp2_with fail
     apply ha.mono;rintro w L⟨rfl,cl,bE⟩;have cv:I (λk=>k=s) wr L:=(((fj bk).trans (fj bl)<|λ_ h=>.inl h).trans (fj bm)<|λ_ h=>.inl h).trans (fj bE)<|λ_ h=>.inl h;have hA13:=he.read cv cl;have hA14:=hA13.still<|(I.refl az L).alloc<|ay #[aE D,dh tl,dh X,dh K] 188;have hA15:=hA14.still<|(I.refl az _).alloc<|ay #[] 80;have hE:=AS underlying259 underlying89 hI hK hA14.set (aE D) rfl bj (by simp only[sq,false_iff];exact hp);have gi:=FH hA15.rd;obtain⟨O,hr,v⟩:=dz hA15 (show∀(aD:ab)(q:M),dx[j]?=H aD->cz aD=H q->q<z (G L)fromλaD q F hq=>(hA13.own F hq).2)<|show(cG (cG L<|ay #[aE D,dh tl,dh X,dh K] 188)<|ay #[] 80).heap[z<|G L]?=H (ay #[aE D,dh tl,dh X,dh K] 188 (0,0))from(eU _<|by simp).trans<|aH _ rfl;clear cl bE cv hA13 hA14 hA15 ha bk bl bm;go_wp2_with fail
     apply gi.mono;rintro w hQ⟨rfl,hX⟩;subst hQ;obtain⟨mk,n⟩:∃mk,z (G L)=mk:=⟨_,rfl⟩;have hj:=Y n;rw[n]at v|-;clear hE gi n;generalize cG (cG L<|ay #[aE D,dh tl,dh X,dh K] 188) (ay #[] 80)=es at*;have g0:aS es (R mk 0)=H (aE D):=by rw[bV<|af v];rfl
     have g1:aS es (R c 0)=H (aE next):=by rw[bV (af O).box];rfl
     have e3:¬((next:U)<=(D:U)):=by omega
     go_wp2_with(at_mapUpdate;go_loud(refine tX _ rfl _ _ _ 259 rfl 89 80 underlying259 (.int .u64) underlying89 mb _ rfl O.set (aE D) rfl rfl rfl ?_;intro t cu bT;have en:=Y cu;have bn:=Y bT;clear cu bT))
     have hA16:=(O.zN bn en).ks hi;have p:=(bn.block mk (ar v) (by intro w;have w:=gT w;obtain⟨jB,jA,il,_⟩:=O.set;have h2:=af v;rw[w,il]at h2;cases h2)).trans v;have gt:j<y dx:=by rw[hA16.yI];exact fs
     obtain⟨aD,F⟩:∃aD,dx[j]?=H aD:=⟨_,aN gt⟩;have V:=hA16.rows j aD _ F hh;obtain⟨ox,oc,fL⟩:=aC V;have dn:y (B.take k)=k:=by rw[dj];omega
     rw[dn]at V fL;have k0:aS t (R c<|3+j)=H aD:=(hA16.cell j).trans F;have k1:=cellAt p 0 rfl;have k2:=cellAt p 1 rfl;have k3:=cellAt p 2 rfl;have k4:=cellAt p 3 rfl;have ao:=ar hA16.box;have l:=ar p;have fz:=hA16.ord;obtain⟨ek,bi,HV,hy⟩:=fX V hA16 F dn;have e0:(0:U)<=(j:U):=by omega
     clear hA16 p V F dn gt g0 g1;subst fL;have Q:aS t.drew (R c<|3+j)=H (J ox k oc)/\aS t.drew (R mk 0)=H (aE D)/\aS t.drew (R mk 1)=H (dh tl)/\aS t.drew (R mk 2)=H (dh X)/\aS t.drew (R mk 3)=H (dh K):=by
      rw[bH,bH,bH,bH,bH];simp_all
     refine yh (by kernel_rfl) ?_;refine wpAny_take (i:=8) (v:=dF<|H<|R c 3) rfl (by kernel_rfl) (by kernel_rfl) (by kernel_rfl) (λ_ _ _ h=>h) (Or.inl ⟨by rfl,λg=>?_⟩) ?_
     .go_simp;try with_reducible rfl
     simp only[Act.put,eF,jx];refine qK (S:=λg=>aS g (R c<|3+j)=H (J ox k oc)/\aS g (R mk 0)=H (aE D)/\aS g (R mk 1)=H (dh tl)/\aS g (R mk 2)=H (dh X)/\aS g (R mk 3)=H (dh K)) (m:=10) _ _ _ _ ?_;refine eR 0 ?_;iterate 6 (refine iC (v:=?_) Q rfl (by kernel_rfl) ma rfl ?_ ?_;rotate_left;(focus(rintro g⟨z0,z1,z2,z3,z4⟩;go_simp;try rfl));simp only[Act.put,eF,jx,Nat.reduceAdd])
     apply ig;refine bC (i:=6) rfl rfl (by kernel_rfl) ?_;intro K6 hA;go_simp;refine hA _ _ (λ_=>?_) ?_
     .rw[bH,bH,bH,bH,bH,fo ao,fo l,fo l,fo l,fo l];simp_all
     try simp only[Act.put,eF,jx]
     refine bC (i:=7) rfl rfl (by kernel_rfl) ?_;intro K7 hB;try simp only[cQ,cq,cy]
     refine kg (.tmp 81) (.tmp 83) 123 rfl (mb+1) 188 i0 (dD #[aE 0,dh 0,dh 0,dh 0]) 4 24 underlying123 hD bg hL hM rfl (by decide) (J ox k oc) k (dq<|B.take k) rfl (ku (aX ek<|ay #[aE D,dh tl,dh X,dh K] 188) rfl) (R (z<|G t) 0) 1 1 [aE D,dh tl,dh X,dh K] rfl rfl (Cm _ _ _ _ _ rfl) (by simp[Value.oneCell']) (by omega) (by omega) (by simp;omega) ?_;intro v3 N av cw;have dv:eC (cG t<|ay #[aE D,dh tl,dh X,dh K] 188) N (J ox k oc) v3:=eC.of_heap cw rfl;have hA17:=bi.still<|(I.refl az t).alloc<|ay #[aE D,dh tl,dh X,dh K] 188;have bt:=hA17.put (D':=B.take<|k+1) HV dv (by rw[af hx,DU,af hl,ag,af hy];exact av);have E:=I.fy dv;have fw:cz (J ox k oc)≠H c:=λw=>by have:=(ek.lt c w).1;omega
     have bc:cz (J ox k oc)≠H mk:=λw=>by have:=hr _ _ HV w;have:=af hj;omega
     have s0:aS N (R c<|3+j)=H (J ox k oc):=E.cell (by rw[fo ao];exact k0) fw (by simp;omega);have s1:aS N (R mk 0)=H (aE D):=E.cell (by rw[fo l];exact k1) bc (by simp;omega);have s2:aS N (R mk 1)=H (dh tl):=E.cell (by rw[fo l];exact k2) bc (by simp;omega);have s3:aS N (R mk 2)=H (dh X):=E.cell (by rw[fo l];exact k3) bc (by simp;omega);have s4:aS N (R mk 3)=H (dh K):=E.cell (by rw[fo l];exact k4) bc (by simp;omega);have an:=(E.block c (by simp;omega) fw).trans<|(eU _ ao).trans bi.box;have f0:N.frozen? (R c<|3+j)=bj:=by simp[World.frozen?,an]
     obtain⟨x3,c3,hJ⟩:=aC av;subst hJ;refine hB _ _ (λ_=>⟨s0,s1,s2,s3,s4⟩) ?_;try simp only[Act.put,eF,jx]
     refine lu (i:=9) (v:=?_) rfl rfl (by kernel_rfl) (by kernel_rfl) (by kernel_rfl) (by kernel_rfl) (λ_ _ _ h=>h) (Or.inl ⟨by rfl,?_⟩) (And.intro s0 (And.intro s1 (And.intro s2 (And.intro s3 s4)))) ?_;rotate_left
     .rintro g⟨z0,z1,z2,z3,z4⟩;go_simp;try with_reducible rfl
     simp only[Act.put,eF,jx];refine bC (i:=10) rfl rfl (by kernel_rfl) ?_;intro hz al;have ed:=Y bt;clear bt hA17 dv E av cw an s1 s2 s3 s4 k0 k1 k2 k3 k4 Q;go_simp;refine al _ _ Fc ?_;refine eN (by kernel_rfl) ?_ _;have em:=Y el;have a5:IntKind.u32.wrap (((y B-k:M):U)-1)=((y B-(k+1):M):U):=by rw[IntKind.wrap_u32];omega
     go_wp2;go_roundw;case rel=>exact⟨k+1,_,_,r,rfl,by rw[af HR];exact ed,em⟩
     case measure=>simp[intOf];omega
    .have t:k=y B:=by omega
     subst t;rw[fZ,uq,de,<-MT (af HM)]at hA2;have l:=Y<|x.wS HM H4;have p:=Y hA2;have e5:¬((0:U)<((y B-y B:M):U)):=by omega
     clear hA2 x;go_wp2;go_roundw;case rel=>exact⟨j+1,_,_,by omega,by go_num,p,l⟩
     case measure=>simp[intOf];omega
  .have bi:j=4:=by omega
   subst bi;rw[PI<|Nat.le_of_eq<|af H4]at o;have au:=aU.all H4 o.Ap;subst au;have x:=xp o.rd (by simp);simp only[ql,lR,tT]at x;have bk:=o.yI;obtain⟨v0,v1,v2,v3,rfl⟩:∃v0 v1 v2 v3,vs=[v0,v1,v2,v3]:=by
    rcases vs with _|⟨v0,_|⟨v1,_|⟨v2,_|⟨v3,_|⟨v4,bt⟩⟩⟩⟩⟩<;>simp at bk;grind
   obtain⟨E,bu,o0⟩:=o.row (j:=0) rfl;obtain⟨K,bv,o1⟩:=o.row (j:=1) rfl;obtain⟨L,bx,o2⟩:=o.row (j:=2) rfl;obtain⟨N,bE,o3⟩:=o.row (j:=3) rfl;obtain⟨x0,O,rfl⟩:=aC o0;obtain⟨x1,V,rfl⟩:=aC o1;obtain⟨x2,X,rfl⟩:=aC o2;obtain⟨x3,y3,rfl⟩:=aC o3;have hR:=(o.ap.block _ (ar aF) id).trans aF;have fz:=o.ord;have r0:=cellAt o.box 0 rfl;have r1:=cellAt o.box 1 rfl;have r2:=cellAt o.box 2 rfl;have r3:=cellAt o.box 3 rfl;have r4:=cellAt o.box 4 rfl;have r5:=cellAt o.box 5 rfl;have r6:=cellAt o.box 6 rfl;have HA:=Y o;have D:=Y hR;have e5:¬((4:U)<4):=by omega
   have e6:(d:U)<(next:U):=by omega
   clear o aU o0 o1 o2 o3 hR;go_wp2_with fail
   rename_i QQ KK aV;refine dL (λg=>aS g (R c 0)=H (aE next)/\aS g (R c 1)=H (aE d)/\aS g (R c 2)=H (aE b)/\aS g (R c 3)=H (J x0 (y E) O)/\aS g (R c 4)=H (J x1 (y K) V)/\aS g (R c 5)=H (J x2 (y L) X)/\aS g (R c 6)=H (J x3 (y N) y3)) 11 (by kernel_rfl) ?_;have p:wr.drew.heap[z<|G a]?=_:=af D;have v:=Y<|HA.still<|cR az wr;have Q:aS wr.drew (R c 0)=H (aE next)/\aS wr.drew (R c 1)=H (aE d)/\aS wr.drew (R c 2)=H (aE b)/\aS wr.drew (R c 3)=H (J x0 (y E) O)/\aS wr.drew (R c 4)=H (J x1 (y K) V)/\aS wr.drew (R c 5)=H (J x2 (y L) X)/\aS wr.drew (R c 6)=H (J x3 (y N) y3):=by
    rw[bH,bH,bH,bH,bH,bH,bH];simp_all
   have x:=xp v.rd (by simp);simp only[ql,lR,tT]at x;clear r0 r1 r2 r3 r4 r5 r6 HA D;generalize wr.drew=bn at*;refine eR 0 ?_;iterate 2 (refine iC (v:=?_) Q rfl (by kernel_rfl) ma rfl ?_ ?_;rotate_left;(focus(rintro g⟨z0,z1,z2,z3,z4,z5,z6⟩;go_simp;try rfl));simp only[Act.put,eF,jx,Nat.reduceAdd])
   apply ig;refine bC (i:=2) rfl rfl (by kernel_rfl) ?_;intro K2 av;go_simp;apply x.mono;rintro w w'⟨rfl,bT⟩;subst w';refine av _ _ (λ_=>Q) ?_;try simp only[Act.put,eF,jx]
   refine eR 3 ?_;iterate 7 (refine iC (v:=?_) Q rfl (by kernel_rfl) ma rfl ?_ ?_;rotate_left;(focus(rintro g⟨z0,z1,z2,z3,z4,z5,z6⟩;go_simp;try rfl));simp only[Act.put,eF,jx,Nat.reduceAdd])
   apply ig;refine bC (i:=10) rfl rfl (by kernel_rfl) ?_;intro hz al;have bc:∀j,bn.frozen? (R (z<|G a) j)=bj:=λj=>by simp[World.frozen?,p]
   have t0:=cellAt p 0 rfl;have t1:=cellAt p 1 rfl;have t2:=cellAt p 2 rfl;have t3:=cellAt p 3 rfl;have t4:=cellAt p 4 rfl;have t5:=cellAt p 5 rfl;have t6:=cellAt p 6 rfl;have D:=Y p;clear p;go_simp;have A:=aL (i:=6) (u:=J x3 (y N) y3)<|aL (i:=5) (u:=J x2 (y L) X)<|aL (i:=4) (u:=J x1 (y K) V)<|aL (i:=3) (u:=J x0 (y E) O)<|aL (i:=2) (u:=aE b)<|aL (i:=1) (u:=aE d)<|aL (i:=0) (u:=aE next) D;have t:=(((((((I.refl (λk=>k=z (G a)) bn).setCell (z<|G a) 0 (aE next)<|.inl rfl).setCell (z<|G a) 1 (aE d)<|.inl rfl).setCell (z<|G a) 2 (aE b)<|.inl rfl).setCell (z<|G a) 3 (J x0 (y E) O)<|.inl rfl).setCell (z<|G a) 4 (J x1 (y K) V)<|.inl rfl).setCell (z<|G a) 5 (J x2 (y L) X)<|.inl rfl).setCell (z<|G a) 6 (J x3 (y N) y3)<|.inl rfl;generalize(cA (cA (cA (cA (cA (cA (cA bn (R (z<|G a) 0)<|aE next) (R (z<|G a) 1)<|aE d) (R (z<|G a) 2)<|aE b) (R (z<|G a) 3)<|J x0 (y E) O) (R (z<|G a) 4)<|J x1 (y K) V) (R (z<|G a) 5)<|J x2 (y L) X) (R (z<|G a) 6)<|J x3 (y N) y3)=W9 at*;have r:c≠z (G a):=by
    have h1:z (G<|cG a<|ay #[aE 0,aE 0,aE 0,aw,aw,aw,aw] 126)=z (G a)+1:=by simp
    omega
   have l:=ar v.box;refine al _ _ (λ_=>⟨t.cell Q.1 r l,t.cell Q.2.1 r l,t.cell Q.2.2.1 r l,t.cell Q.2.2.2.1 r l,t.cell Q.2.2.2.2.1 r l,t.cell Q.2.2.2.2.2.1 r l,t.cell Q.2.2.2.2.2.2 r l⟩) ?_;try simp only[Act.put,eF,jx]
   refine bC (i:=11) rfl rfl (by kernel_rfl) ?_;intro bm ao;obtain⟨P,an,bl⟩:=dz A t r;clear A t r t0 t1 t2 t3 t4 t5 t6 bc Q x;go_simp;refine ao _ _ Fc ?_;refine eN (by kernel_rfl) ?_ _;show KK _ _;apply aV;go_wp2;refine cg (qx rfl _ _ (z<|G a) next d b _ _ _ _ _ _ rfl P ⟨_,_,_,rfl⟩ ⟨_,_,_,rfl⟩ ⟨_,_,_,rfl⟩ ⟨_,_,_,rfl⟩) rfl ?_;refine⟨x0,y E,O,x1,y K,V,x2,y L,X,x3,y N,y3,rfl,?_,?_⟩
   .intro ea aD hU F bt;have hr:=v.rows ea aD hU F bt;refine fM (an.own hr<|λq hq w=>?_) ?_
    .have:=v.own F hq;have h1:z (G<|cG a<|ay #[aE 0,aE 0,aE 0,aw,aw,aw,aw] 126)=z (G a)+1:=by simp
     have:q=z (G a):=w;omega
    .omega
   .exact(((cK az a).bW v.ap).trans an<|λk w=>.inr (by have:k=z (G a):=w;omega))
def Fy(a:M)(b:cN):ab->Prop:=λx=>x=am fm\/x=am (fD a)\/∃t∈b,x=am (gu t.num)
def oX{P:Program}{r:Oper}{f:Act}{K:Act->Z->Prop}{Q:Exit->Act->Z->Prop}(h x i:Operand)(v:TypeId)(e:r.op=Op.insert v h x i)(u w:TypeId)(o:P.underlying v=H (.map u w))(k:TypeDesc)(m:P.underlying u=H k)(j:M)(g:ab->Prop)(n:f.eval h=.map (H j))(A:kZ a j k g)(b:ab)(d:MapKept.IsKey k b)(q:f.eval x=b)(p:f.eval i=dD #[])(l:∀w',kZ w' j k (λx=>g x\/x=b)->a.grownBy w' (H j)->K (f.put r.dst ix) w'):Oper.wp P r f a K Q:=by
 obtain⟨w',c,s,t,_⟩:=yP o m A b d;unfold Oper.wp;simp[execOp,e,n,q,p,c,Result.andThen];exact l w' s t
def wT(bo bp aD bq:cN)(h:cf a b o k)(X:Cy a b 10 [(o.l0,bo),(o.l1,bp),(o.l2,aD),(o.l3,bq)])(hT:∀cs∈bo++bp++aD++bq,OV a cs)(hp:Pow a)(ce:o.log<18446744073709551616)(cj:y (bo++bp++aD++bq)<=10000000)(bi:cH a o.aM i)(cd:y i.files<=100000000)(hn:∀K∈i.files.map cX.name,K=fm\/K=fD o.log\/∃cs∈bo++bp++aD++bq,K=gu cs.num):cD aZ 60 #[aA b] a λt w'=>t=aJ aw/\I az a w':=by
 obtain⟨u0,ck,co,cT,dc⟩:=cU Ef;have cB:=@qQ aZ;have cp:∀(K:Bool)(a:Z),(Op.unary .not<|aK K).run aZ a=.ok (aK<|!K) a:=λ_ _=>rfl;have aa:∀W,I az a W->cD aZ 53 #[aE o.log] W λt w'=>t=aJ (am<|fD o.log)/\Below (z<|G W) W w':=λW N=>tE o.log ce<|hp.ap N id;have F:∀W,I az a W->cD aZ 106 #[dF<|H<|R b 10] W λt w'=>∃v',t=aJ v'/\w'.ownsRow (z<|G W) 189 1 v' (y<|bo++bp++aD++bq) ((bo++bp++aD++bq).map bw.ptr)/\I az W w':=λW N=>by have f:Cy W b 10 [(o.l0,bo),(o.l1,bp),(o.l2,aD),(o.l3,bq)]:=⟨X.len,λB a=>N.cell (X.cell B a) id X.lt,λB a=>N.row (X.row B a)<|λq c=>⟨id,X.oM B a q c⟩,λB a q c=>ah (X.oM B a q c) N.size,X.small⟩;have:=rQ _ f;rw[Ox,Pj]at this;exact this
 have bk:∀W,I az a W->cD aZ 7 #[aA o.aM] W λt w'=>∃v' w,t=aJ v'/\List.Perm w (i.files.map cX.name)/\w'.ownsRow (z<|G W) 9 1 v' (y w) (strs w)/\I az W w':=λW N=>wR (db:=o.aM) (K:=i) (w:=W) (bi.ap N<|λ_ _=>id) cd;have bn:=ar h;have c2:=cf.cellAt h 2 rfl;have ca:=cf.cellAt h 17 rfl;obtain⟨T,bg⟩:∃T,bo++bp++aD++bq=T:=⟨_,rfl⟩;rw[bg]at hT F cj hn;obtain⟨HH,aU,HP,HN,C,bb,bs⟩:=yt h hT hp hn aa F bk;clear h hT hp hn aa F bk X bi bg;generalize o.log=g at*;generalize o.aM=db at*;go_in
 go_wp2_with fail
 rename_i QQ KK bf;refine dL (λD=>aS D (R b 17)=H (aE g)) 11 (by kernel_rfl) ?_;have al:∀W,I az a W->aS W (R b 17)=H (aE g):=λW N=>N.cell ca id bn;have ax:I az a a.drew:=cR _ a;have L:=al _ ax;have cM:z (G a.drew)=z (G a):=rfl;have l:=Y al;have bc:=Y ax;clear al ax;refine lu (i:=1) (v:=?_) rfl rfl (by kernel_rfl) (by kernel_rfl) (by kernel_rfl) (by kernel_rfl) (λ_ _ _ h=>h) (Or.inl ⟨by rfl,?_⟩) L ?_;rotate_left;(.rintro D z0;go_simp;try with_reducible rfl);simp only[Act.put,eF,jx];refine eR 3 ?_;iterate 4 (refine iC (v:=?_) L rfl (by kernel_rfl) ma rfl ?_ ?_;rotate_left;(focus(rintro D z0;go_simp;try rfl));simp only[Act.put,eF,jx,Nat.reduceAdd])
 apply ig;refine lu (i:=8) (v:=?_) rfl rfl (by kernel_rfl) (by kernel_rfl) (by kernel_rfl) (by kernel_rfl) (λ_ _ _ h=>h) (Or.inl ⟨by rfl,?_⟩) L ?_;rotate_left;(.rintro D z0;go_simp;try with_reducible rfl);simp only[Act.put,eF,jx];refine tC (α:=M) (λd W=>I az a W/\z (G a)<=d/\kZ W d .string (λK=>K=am ⟨#[115,116,97,116,101]⟩\/K=am (fD g))) (λd=>{tmps:=#[aA b,ix,aw,ix,ix,ix,ix,ix,ix,ix,ix,.map<|H d,dD #[],aA b,aA b,dF<|H<|R b 17,aE g,am<|fD g,dD #[],ix,ix,ix,ix,ix,ix,ix,ix,ix,ix,ix,ix,ix,ix,ix,ix,ix,ix,ix,ix,ix,ix,ix,ix,ix,ix,ix,ix,ix,ix,ix,ix,ix,ix,ix,ix,ix,ix,ix,ix,ix,ix,ix],defers:=[]}) #[true,true,true,true,true,true,true,true,true,true,false,false] 2 ?_ ?_;(.intro au;refine tC (α:=M) (λd W=>I az a W/\z (G a)<=d/\kZ W d .string az) (λd=>{tmps:=#[aA b,ix,aw,ix,ix,ix,ix,ix,ix,ix,ix,.map<|H d,dD #[],aA b,aA b,dF<|H<|R b 17,aE g,am<|fD g,dD #[],ix,ix,ix,ix,ix,ix,ix,ix,ix,ix,ix,ix,ix,ix,ix,ix,ix,ix,ix,ix,ix,ix,ix,ix,ix,ix,ix,ix,ix,ix,ix,ix,ix,ix,ix,ix,ix,ix,ix,ix,ix,ix,ix],defers:=[]}) #[ci,ci,bj,ci,ci,ci,ci,ci,ci,bj,bj,bj] 4 ?_ ?_;(.intro ad;refine sy (i:=0) (j:=7) rfl rfl rfl rfl (by kernel_rfl) ?_ ?_;(.intro i hK;go_simp;have u:=(kZ.new a .string).di (w':=(cG a<|.map #[] 0).drew) rfl;have E:I az a (cG a<|.map #[] 0).drew:=(cK az a).of_heap rfl;refine hK _ _ (λ_=>l _ E) ?_;(try simp only[Act.put,eF,jx]);generalize(cG a<|.map #[] 0).drew=W1 at*;refine sy (i:=2) (j:=7) rfl rfl rfl rfl (by kernel_rfl) ?_ ?_;(.intro K2 p;(try simp only[cQ,cq,cy]);refine oX (.tmp 11) (.const<|am ⟨#[115,116,97,116,101]⟩) (.tmp 12) 208 rfl 9 80 underlying208 .string underlying9 (z<|G a) _ rfl u (am ⟨#[115,116,97,116,101]⟩) trivial rfl rfl ?_;intro w5 n r;have f:I az a w5:=E.trans (fj r)<|λk t=>.inr (by have:k=z (G a):=t;omega);refine p _ _ (λ_=>l _ f) ?_;(try simp only[Act.put,eF,jx]);refine bC (i:=7) rfl rfl (by kernel_rfl) ?_;intro K3 bd;go_simp;apply(C _ f).mono;rintro t A⟨rfl,s⟩;have e:I az a A:=f.bW<|I.aQ (S:=az) s;have O:=n.di<|s.block _ n.lt;refine bd _ _ (λ_=>l _ e) ?_;(try simp only[Act.put,eF,jx]);refine bC (i:=9) rfl rfl (by kernel_rfl) ?_;intro K4 bh;(try simp only[cQ,cq,cy]);refine oX (.tmp 11) (.tmp 17) (.tmp 18) 208 rfl 9 80 underlying208 .string underlying9 (z<|G a) _ rfl O (am<|fD g) trivial rfl rfl ?_;intro w7 aF av;have P:I az a w7:=e.trans (fj av)<|λk t=>.inr (by have:k=z (G a):=t;omega);refine bh _ _ (λ_=>l _ P) ?_;exact jM (au (z<|G a) _ ⟨P,ai _,aF.congr<|λK=>by simp⟩)<|by kernel_rfl);intro K2 p;go_simp;apply(C _ E).mono;rintro t A⟨rfl,s⟩;have e:I az a A:=E.bW<|I.aQ (S:=az) s;have O:=u.di<|s.block _ u.lt;refine p _ _ (λ_=>l _ e) ?_;(try simp only[Act.put,eF,jx]);exact jM (ad (z<|G a) _ ⟨e,ai _,O⟩)<|by kernel_rfl);intro i hK;go_simp;apply(C _ bc).mono;rintro t A⟨rfl,s⟩;have e:I az a A:=bc.bW<|I.aQ (S:=az) s;refine hK _ _ (λ_=>l _ e) ?_;(try simp only[Act.put,eF,jx]);refine bC (i:=0) rfl rfl (by kernel_rfl) ?_;intro K2 p;go_simp;have u:=e.alloc<|.map #[] 0;refine p _ _ (λ_=>l _ u) ?_;(try simp only[Act.put,eF,jx]);exact jM (ad (z<|G A) _ ⟨u,e.size,kZ.new A .string⟩)<|by kernel_rfl);rintro d W⟨x,an,c⟩;refine sy (i:=2) (j:=9) rfl rfl rfl rfl (by kernel_rfl) ?_ ?_;intro i hK;(try simp only[cQ,cq,cy]);refine oX (.tmp 11) (.const<|am ⟨#[115,116,97,116,101]⟩) (.tmp 12) 208 rfl 9 80 underlying208 .string underlying9 d _ rfl c (am ⟨#[115,116,97,116,101]⟩) trivial rfl rfl ?_;intro w5 n r;have f:I az a w5:=x.trans (fj r)<|λk t=>.inr (by have:k=d:=t;omega);refine hK _ _ (λ_=>l _ f) ?_;(try simp only[Act.put,eF,jx]);refine bC (i:=9) rfl rfl (by kernel_rfl) ?_;intro K2 p;(try simp only[cQ,cq,cy]);refine oX (.tmp 11) (.tmp 17) (.tmp 18) 208 rfl 9 80 underlying208 .string underlying9 d _ rfl n (am<|fD g) trivial rfl rfl ?_;intro A E u;have s:I az a A:=f.trans (fj u)<|λk t=>.inr (by have:k=d:=t;omega);refine p _ _ (λ_=>l _ s) ?_;exact jM (au d _ ⟨s,an,E.congr<|λK=>by simp⟩) (by kernel_rfl);intro i hK;(try simp only[cQ,cq,cy]);refine oX (.tmp 11) (.tmp 17) (.tmp 18) 208 rfl 9 80 underlying208 .string underlying9 d _ rfl c (am<|fD g) trivial rfl rfl ?_;intro w5 n r;have f:I az a w5:=x.trans (fj r)<|λk t=>.inr (by have:k=d:=t;omega);refine hK _ _ (λ_=>l _ f) ?_;(try simp only[Act.put,eF,jx]);refine bC (i:=2) rfl rfl (by kernel_rfl) ?_;intro K2 p;(try simp only[cQ,cq,cy]);refine oX (.tmp 11) (.const<|am ⟨#[115,116,97,116,101]⟩) (.tmp 12) 208 rfl 9 80 underlying208 .string underlying9 d _ rfl n (am ⟨#[115,116,97,116,101]⟩) trivial rfl rfl ?_;intro A E u;have s:I az a A:=f.trans (fj u)<|λk t=>.inr (by have:k=d:=t;omega);refine p _ _ (λ_=>l _ s) ?_;exact jM (au d _ ⟨s,an,E.congr<|λK=>by grind⟩)<|by kernel_rfl);rintro d W⟨x,an,c⟩;refine lu (i:=10) (v:=?_) rfl rfl (by kernel_rfl) (by kernel_rfl) (by kernel_rfl) (by kernel_rfl) (λ_ _ _ h=>h) (Or.inl ⟨by rfl,?_⟩) (l _ x) ?_;rotate_left;(.rintro D z0;go_simp;try with_reducible rfl);simp only[Act.put,eF,jx];refine bC (i:=11) rfl rfl (by kernel_rfl) ?_;intro cu V;go_simp;refine V _ _ Fc ?_;refine eN (by kernel_rfl) ?_ _;show KK _ _;apply bf;have ac:=c.lt;have m:=Y c;have ba:=Y x;clear c x V bf L;go_wp2_with fail
 apply(bb W ba).mono;rintro t A⟨v6,rfl,ao,e⟩;obtain⟨x6,c6,cl⟩:=aC ao;subst cl;obtain⟨bv,bE,aV,bt⟩:=fX (m.di<|e.block _ ac id) (ba.bW e) ao<|show d<z (G W)from ac;have O:=e.size;clear ao e m;go_wp2_with fail
 go_loopw [25] (λB wr=>∃Q:M,Q<=y T/\B=aq Q/\kZ wr d .string (Fy g<|T.take Q)/\I (λk=>k=d) A wr) (λB _=>y T-(intOf B).toNat)
 case atStart=>exact⟨0,bG _,rfl,bv.congr (λK=>by unfold Fy fm;simp),I.refl _ _⟩
 case round=>
  obtain⟨Q,hn,rfl,c,f⟩:=hrel;have E:I az a wr:=bE.trans f<|λk e=>.inr (by have:k=d:=e;omega);by_cases p:Q<y T
  .have n:=f.own aV (λk e aD=>by have:=(aV.lt k e).1;have:=af bt;have:k=d:=aD;omega);obtain⟨b6,bu,bh⟩:∃b6,x6=H (R b6 0)/\aS wr (R b6 Q)=H T[Q].ptr:=by
    rcases n.2 with⟨h2,h0⟩|⟨cw,cb,cc,h2,_⟩
    .omega
    .cases h2;refine⟨cw,rfl,?_⟩;have:=oW n Q T[Q].ptr (by rw[fc,aN p];rfl);rwa[dt,dr]at this
   subst bu;have au:=(aU T[Q]<|ak p).ap E|>.name (HP.ap E id);have bm:=Y (show∀K,Fy g (T.take<|Q+1) K↔Fy g (T.take Q) K\/K=am (gu T[Q].num)fromλK=>by
    unfold Fy;rw[aj p];grind)
   have r:=c.lt;have m:=Y c;have s:=Y f;have e1:(Q:U)<(y T:U):=by omega
   clear c f E n;unfold bw.ptr at bh;generalize gu T[Q].num=ad at*;generalize T[Q].tb=bx at*;go_wp2_with fail
   apply au.mono;rintro t w7⟨rfl,u⟩;have bd:=Y<|m.di<|u.block d r;have br:=Y<|s.bW<|I.aQ (S:=az) u;clear u au;go_wp2_with(at_mapUpdate;refine tX _ rfl _ _ _ 208 rfl 9 80 underlying208 .string underlying9 d _ rfl bd (am ad) trivial rfl rfl ?_;intro w8 av P;have bl:=Y av;have aF:=Y P;clear av P)
   go_roundw;case rel=>exact⟨Q+1,p,by go_num,bl.congr bm,br.trans (fj aF)<|λ_ aD=>.inl aD⟩
   case measure=>simp[intOf];omega
  .have bl:Q=y T:=by omega
   rw[bl,bL]at c;have e1:¬(Q:U)<(y T:U):=by omega
   have r:=c.lt;have cv:aS wr (R b 2)=H (aA db):=E.cell c2 id bn;have m:=Y c;have bd:=Y E;clear c f bl;go_wp2_with fail
   apply(bs wr bd).mono;rintro t w9⟨v9,w,rfl,av,au,P⟩;obtain⟨x9,c9,cm⟩:=aC au;subst cm;have cE:y w<=100000000:=by have:=av.length_eq;grind
   obtain⟨bx,bu,bT⟩:=dz (m.di<|P.block d r id) au<|bd.bW P;have br:=Y (show∀K∈w,Fy g T (am K)fromλK hx=>by
    rcases HN K (av.mem_iff.1 hx)with t|t|⟨cs,u,t⟩
    .exact .inl<|by rw[t]
    .exact .inr<|.inl<|by rw[t]
    .exact .inr (.inr ⟨cs,u,by rw[t]⟩))
   have ch:=ah r P.size;clear au P av;go_wp2_with fail
   go_loopw [6,40] (λo B a=>∃aF:M,aF<=y w/\o=aw/\B=aq aF/\I az w9 a) (λ_ B _=>y w-(intOf B).toNat)
   case atStart=>exact⟨0,bG _,rfl,rfl,I.refl _ _⟩
   case round=>
    obtain⟨aF,hm,rfl,rfl,f⟩:=hrel;by_cases u:aF<y w
    .have n:=f.own bu<|λ_ _ aD=>aD;obtain⟨b9,cn,bh⟩:∃b9,x9=H (R b9 0)/\aS wr (R b9 aF)=H (am w[aF]):=by
      rcases n.2 with⟨h2,h0⟩|⟨cw,cb,cc,h2,_⟩
      .omega
      .cases h2;refine⟨cw,rfl,?_⟩;have:=oW n aF (am w[aF]) (by simp[strs,u]);rwa[dt,dr]at this
     subst cn;have bm:=bx.di<|f.block d ch id;have cx:=AS underlying208 underlying9 ck co bm (am w[aF]) trivial ci (by simp only[true_iff];exact br _<|ak u);have e2:(aF:U)<(y w:U):=by omega
     have s:=Y f;clear f n bm;generalize w[aF]=ad at*;go_wp2;go_roundw;case rel=>exact⟨aF+1,u,rfl,by go_num,s.alloc _⟩
     case measure=>simp[intOf];omega
    .have e2:¬(aF:U)<(y w:U):=by omega
     have s:=Y<|bT.bW f;clear f;go_wp2;go_ret;exact⟨rfl,s⟩
def Ew(x A g B:cN)(h:cf a b o k)(F:Cy a b 10 [(o.l0,x),(o.l1,A),(o.l2,g),(o.l3,B)])(E:∀Q∈x++A++g++B,OV a Q)(L:Pow a)(s:o.log<18446744073709551616)(u:y (x++A++g++B)<=10000000)(d:cH a o.aM i)(v:¬i.aO o.aM b)(t:y i.dM<=1000000000000)(p:y i.files<=100000000)(K:∀V∈i.files.map cX.name,V=fm\/V=fD o.log\/∃Q∈x++A++g++B,V=gu Q.num):cD aZ 26 #[aA b] a λw l=>w=aJ .nilIface/\∃c,oA a l o.aM i c/\vw c.files=vw i.files/\y c.dM=y i.dM:=by
 have r:=wT x A g B h F E L s u d p K;have e:∀W,I az a W->cD aZ 59 #[aA b,aw] W λw l=>w=aJ .nilIface/\∃c,oA a l o.aM i c/\vw c.files=vw i.files/\y c.dM=y i.dM:=λW j=>by apply(Dw (K:=i) aw [] ((j.block b (ar h) id).trans h) (d.ap j<|λ_ _=>id) v ⟨rfl,.inl ⟨rfl,rfl⟩⟩ (λa g=>by cases g) List.nodup_nil (by simp)<|by simpa using t).mono;rintro w l⟨rfl,c,n,O,P⟩;exact⟨rfl,c,⟨n.ok,(j.mono (T:=i.aO o.aM) cC).trans n.ap<|λ_ q=>.inl q,λq g=>(n.aO q g).imp id<|λa=>aB j.size a⟩,O,by simpa using P⟩
 have m:=Y e;clear e h F E L d K;go_in
 go_wp2_with fail
 apply r.mono;rintro w S⟨rfl,f⟩;have C:=m S f;go_wp2_with fail
 apply C.mono;rintro w W⟨rfl,D⟩;have N:=Y D;clear D C f;go_wp2;go_ret;exact⟨rfl,N⟩
