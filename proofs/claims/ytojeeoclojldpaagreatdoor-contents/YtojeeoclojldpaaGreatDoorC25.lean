import Derived.Test.YtojeeoclojldpaaGreatDoorC20
open _root_ renaming List.length→y,Option.some→H,Array.size→z,Go.World.heap→G,Go.Value.ownBlock→bV,Go.World.cell?→aT,Go.World.alloc→ct,Nat→M,Int→Z,List→cr,Go.Calls→cy,Go.Proofs.Tryz.prog→bG,Go.Value.slice→J,Go.Value.string→ai,Go.Value.agg→eC
namespace Go.Proofs.YtojeeoclojldpaaGreatDoor
open ChangeShapes WideShapes RowKit Proofs.Tryz
set_option maxHeartbeats 16000000
set_option linter.all false
set_option maxRecDepth 100000
variable{a f C:I}{b:M}{d s:aa}{o:eI}{v:ab}
structure Vp(w0 w:I)(x:M)(ob:Obj)(o:aa)(bs:eI):Prop where
 own:eH w (z<|G w0) o bs
 box:w.heap[x]?=H ob
 ne:bV o≠H x
 aw:Y aB w0 w
def Vp.wrote{k:Obj}{c:eI}(h:Vp a f b k d o)(j:eP f C d s)(m:eH C (z<|G a) s c):Vp a C b k s c:=by
 have e:=ak h.box;have i:=Y.fy j;refine⟨m,(i.block b e h.ne).trans h.box,λg=>?_,h.aw.trans i<|λq g=>.inr (h.own.lt q g).1⟩;rcases j.uc with l|⟨n,l,p⟩;exact h.ne<|l.symm.trans g;rw[l]at g;cases g;omega
def uw(t:bJ):eI:=le 8 t.num++(le 4 (y<|dG t.cs)++(le 4 (y<|fa t.ks)++le 4 (mr<|fa t.ks)))
def oC(a:cP):eI:=le 4 (y a)++a.flatMap uw
def iF(next b a:Z)(c:cr cP):eI:=iC<|le 8 next++le 8 b++le 8 a++(c.map oC).flatten
def LZ(t:bJ):y (uw t)=20:=by simp[uw,bY]
def py(a:cP):y (oC a)=4+20*y a:=by
 unfold oC;rw[af,bY];induction a with
 |nil=>rfl
 |cons t r b=>rw[dI,af,LZ,ay];omega
structure bJ.oa(t:bJ):Prop where
 num:t.num<18446744073709551616
 d:y (dG t.cs)<4294967296
 i:y (fa t.ks)<4294967296
def GO(a:cP)(n j:M)(h:n<y a)(g:j<4):(dh a)[n*4+j]?=(bJ.ur a[n])[j]?:=by
 have e:∀(l:cP),y (dh l)=y l*4:=by
  intro l;induction l with
  |nil=>rfl
  |cons t r c=>unfold dh at*;rw[dI,af,c];simp[bJ.ur];omega
 have f:dh a=dh (a.take n)++(bJ.ur a[n]++dh (a.drop<|n+1)):=by(have c:a=a.take n++a[n]::a.drop (n+1):=by rw[<-bE h,bX]);have d:dh a=dh (a.take n++a[n]::a.drop (n+1)):=bU dh c;rw[d];unfold dh;rw[fZ,dI]
 have b:y (dh<|a.take n)=n*4:=by rw[e];simp;omega
 rw[f,dE (by omega),b,show n*4+j-n*4=j by omega,gd (by simp[bJ.ur];omega)]
def Oq(next g c:Z)(P Q S T:Option Addr)(L c1 c2 c3:M)(m0 m1 m2 m3:cP)(hT:Steps a)(r0:Row a 4 (J P (y m0) L) (y m0) (dh m0))(r1:Row a 4 (J Q (y m1) c1) (y m1) (dh m1))(r2:Row a 4 (J S (y m2) c2) (y m2) (dh m2))(r3:Row a 4 (J T (y m3) c3) (y m3) (dh m3))(b0:∀k,bV (J P (y m0) L)=H k->k<z (G a))(b1:∀k,bV (J Q (y m1) c1)=H k->k<z (G a))(b2:∀k,bV (J S (y m2) c2)=H k->k<z (G a))(b3:∀k,bV (J T (y m3) c3)=H k->k<z (G a))(k0:∀bk∈m0,bk.oa)(k1:∀bk∈m1,bk.oa)(k2:∀bk∈m2,bk.oa)(k3:∀bk∈m3,bk.oa)(hn:0<=next/\next<18446744073709551616)(hl:0<=g/\g<18446744073709551616)(hb:0<=c/\c<18446744073709551616)(hs:y m0+y m1+y m2+y m3<=1000000):cy bG 203 #[eC #[aH next,aH g,aH c,J P (y m0) L,J Q (y m1) c1,J S (y m2) c2,J T (y m3) c3]] a λD w'=>∃v',D=aO v'/\eH w' (z<|G a) v' (iF next g c [m0,m1,m2,m3])/\Y aB a w':=by
 obtain⟨OB,A⟩:∃OB:Obj,OB=ar #[aH next,aH g,aH c,J P (y m0) L,J Q (y m1) c1,J S (y m2) c2,J T (y m3) c3] 187:=⟨_,rfl⟩;have t:∀(cu:I)(bi:M)(cs:aa),cu.heap[z<|G a]?=H OB->(#[aH next,aH g,aH c,J P (y m0) L,J Q (y m1) c1,J S (y m2) c2,J T (y m3) c3]:Array aa)[bi]?=H cs->aT cu (R (z<|G a) bi)=H cs:=by intro cu bi cs b hv;rw[A]at b;rw[bN b];exact hv
 have hA0:Vp a (ct a OB) (z<|G a) OB aK []:=⟨eH.nil _ _,aD _ rfl,(by intro D;cases D),(Y.refl _ a).alloc _⟩;have p1:=pa next hA0.own hA0.aw.size (by simp) hn.1 hn.2
 obtain⟨bl,l,HT,cd,ce,ch,cj,bo⟩:=EM hA0 t hT r0 r1 r2 r3 b0;obtain⟨bp,bq,br,bx,bT,ca,cb,cc⟩:=EM b1 b2 b3 k0 k1 k2 k3 A;rw[A]at p1;clear hA0 t hT r0 r1 r2 r3 b0 b1 b2 b3 k0 k1 k2 k3 A;go_in
 go_wp2_with fail
 apply p1.mono;rintro D w1⟨v1,rfl,ac,N⟩;rw[<-ae cc]at N;have hA1:=bl.wrote N ac;have d1:=l w1 1 _ hA1.box rfl;have p2:=pa g hA1.own hA1.aw.size (by simp[bY]) hl.1 hl.2;have bm:=U hA1;clear hA1 ac N p1;go_wp2_with fail
 apply p2.mono;rintro D w2⟨v2,rfl,ad,bb⟩;have hA2:=bm.wrote bb ad;have d2:=l w2 2 _ hA2.box rfl;have p3:=pa c hA2.own hA2.aw.size (by simp[bY]) hb.1 hb.2;have bn:=U hA2;clear hA2 ad bb p2 d1;go_wp2_with fail
 apply p3.mono;rintro D w3⟨v3,rfl,al,bc⟩;have hA3:=bn.wrote bc al;have d3:=l w3 3 _ hA3.box rfl;have d4:=l w3 4 _ hA3.box rfl;have d5:=l w3 5 _ hA3.box rfl;have d6:=l w3 6 _ hA3.box rfl;have W:=U hA3.own;have cm:=U hA3.aw;clear hA3 al bc p3 d2;obtain⟨f,j⟩:∃f,(([]++le 8 next)++le 8 g)++le 8 c=f:=⟨_,rfl⟩;have cT:y f=24:=by rw[<-j];simp[bY]
 have X:=U j;rw[j]at W;clear j;go_wp2;go_loopw [3,21] (λdk bi wr=>∃k:M,k<=4/\bi=ap k/\eH wr (z<|G a) dk (f++(([m0,m1,m2,m3].take k).map oC).flatten)/\Y aB a wr) (λ_ bi _=>4-(intOf bi).toNat)
 case atStart=>exact⟨0,bA _,rfl,by simpa using ae W,cm⟩
 (case round=>obtain⟨k,hk,rfl,i,m⟩:=hrel;have ba:=m.size;have ax:=i.lt;(have s:∀k,y (f++(([m0,m1,m2,m3].take k).map oC).flatten)<=30000000:=by intro k;(have h1:y ((([m0,m1,m2,m3].take k).map oC).flatten)<=y ((([m0,m1,m2,m3]).map oC).flatten):=by refine pR ?_;(have D:([m0,m1,m2,m3].map oC).flatten=(([m0,m1,m2,m3].take k).map oC).flatten++(([m0,m1,m2,m3].drop k).map oC).flatten:=by rw[<-dP,<-aM,bX]);rw[D];exact oh _ _);(have h2:y ((([m0,m1,m2,m3]).map oC).flatten)=16+20*(y m0+y m1+y m2+y m3):=by simp[py];omega);rw[af];omega);rcases dF k 4 with co|co;(·(obtain⟨b,x,cM,HR,HB,HK,cE,v,db⟩:∃(b:cP)(x:Option Addr)(cM:M),Hid (Row a 4 (J x (y b) cM) (y b)<|dh b)/\Hid (∀k,bV (J x (y b) cM)=H k->k<z (G a))/\Hid (∀bk∈b,bk.oa)/\y b<=1000000/\f++(([m0,m1,m2,m3].take<|k+1).map oC).flatten=(f++(([m0,m1,m2,m3].take k).map oC).flatten)++oC b/\∀cu,(Instr.index 185 (eC #[J P (y m0) L,J Q (y m1) c1,J S (y m2) c2,J T (y m3) c3])<|ap k).run bG cu=.ok (J x (y b) cM) cu:=by(have d:k=0\/k=1\/k=2\/k=3:=by omega);rcases d with rfl|rfl|rfl|rfl;exact⟨m0,P,L,cd,bo,bx,by omega,by simp,λ_=>by kernel_rfl⟩;exact⟨m1,Q,c1,ce,bp,bT,by omega,by simp,λ_=>by kernel_rfl⟩;exact⟨m2,S,c2,ch,bq,ca,by omega,by simp,λ_=>by kernel_rfl⟩;exact⟨m3,T,c3,cj,br,cb,by omega,by simp,λ_=>by kernel_rfl⟩);(have dc:(k:Z)<4:=by omega);have cv:=s k;have cp:=s<|k+1;have cl:=U v;clear s v;generalize f++(([m0,m1,m2,m3].take k).map oC).flatten=bs at*;have a1:=sL (n:=(y b:M)) (by omega) (by omega);have pw:=jv (y b:M) i ba (by omega) (by omega) (by omega);have K:=U m;clear i m;(go_wp2_with fail);apply pw.mono;rintro D w4⟨v4,rfl,u,w⟩;have E:=U u;have F:=U<|K.trans (Y.fy w)<|λl j=>.inr (ax l j).1;clear u w pw;go_wp2;(go_loopw [3,31] (λdk bi wr=>∃q:M,q<=y b/\bi=ap q/\eH wr (z<|G a) dk ((bs++le 4 (y b:M))++(b.take q).flatMap uw)/\Y aB a wr) (λ_ bi _=>y b-(intOf bi).toNat));(case atStart=>exact⟨0,bA _,rfl,by simpa using ae E,F⟩);(case round=>obtain⟨q,hq,rfl,d,e⟩:=hrel;have cx:=e.size;by_cases B:q<y b;(.obtain⟨_,⟨hx,h0⟩|⟨cB,O,dm,hx,_,hc⟩⟩:=ae HR;omega;(.cases hx;have cn:cB<z (G a):=HB cB rfl;have hg:∀l cs,l<4->(bJ.ur b[q])[l]?=H cs->aT wr (R cB<|O+q*4+l)=H cs:=λl cs j hv=>e.cell (by rw[aV];exact hc _ _<|(GO b q l B j).trans hv) id cn;have C:=HK _<|aq B;(have dd:y ((bs++le 4 (y b:M))++(b.take q).flatMap uw)<=100000000:=by have h1:=py<|b.take q;unfold oC at h1;rw[af,bY]at h1;(have h2:y (b.take q)<=1000000:=by simp;omega);simp only[af,bY];omega);have ck:=U (show((bs++le 4 (y b:M))++(b.take q).flatMap uw)++(le 8 (b[q].num:M)++(le 4 (y<|dG b[q].cs)++(le 4 (y<|fa b[q].ks)++le 4 (mr<|fa b[q].ks))))=(bs++le 4 (y b:M))++(b.take<|q+1).flatMap uw from by rw[aj B,fZ,<-aU];simp[uw]);have g0:=hg 0 _ (by omega) rfl;have g1:=hg 1 _ (by omega) rfl;have g2:=hg 2 _ (by omega) rfl;have g3:=hg 3 _ (by omega) rfl;have o1:=C.num;have o2:=C.d;have o3:=C.i;have o4:=zx<|fa b[q].ks;have o5:=BC<|fa b[q].ks;clear hg C;simp only[jn]at g0 g1 g2 g3;generalize b[q].num=y0 at*;generalize y (dG b[q].cs)=y1 at*;generalize y (fa b[q].ks)=y2 at*;generalize mr (fa b[q].ks)=y3 at*;generalize((bs++le 4 (y b:M))++(b.take q).flatMap uw)=B0 at*;have hE:Vp a (ct wr<|ar #[aH y0,dq y1,dq y2,dq y3] 266) (z<|G wr) (ar #[aH y0,dq y1,dq y2,dq y3] 266) u3 B0:=⟨d.alloc _,aD _ rfl,λD=>by have:=(d.lt _ D).2;omega,e.alloc _⟩;have z1:=pa (y0:M) hE.own hE.aw.size (by omega) (by omega) (by omega);have HE:=U hE;clear hE d e;(go_wp2_with fail);apply z1.mono;rintro D w5⟨v5,rfl,an,bd⟩;have o:=HE.wrote bd an;have f1:=cellAt o.box 1 rfl;have z2:=jv (y1:M) o.own o.aw.size (by rw[af,bY];omega) (by omega) (by omega);have bt:=U o;clear o an bd z1;(go_wp2_with fail);apply z2.mono;rintro D w6⟨v6,rfl,ao,bf⟩;have p:=bt.wrote bf ao;have f2:=cellAt p.box 2 rfl;have z3:=jv (y2:M) p.own p.aw.size (by simp only[af,bY];omega) (by omega) (by omega);have bu:=U p;clear p ao bf z2;(go_wp2_with fail);apply z3.mono;rintro D w7⟨v7,rfl,au,bg⟩;have r:=bu.wrote bg au;have f3:=cellAt r.box 3 rfl;have z4:=jv y3 r.own r.aw.size (by simp only[af,bY];omega) o4 o5;have bv:=U r;clear r au bg z3;(go_wp2_with fail);apply z4.mono;rintro D w8⟨v8,rfl,av,bh⟩;have V:=U<|bv.wrote bh av;clear av bh z4;go_wp2;go_roundw;(case rel=>refine⟨q+1,B,by go_num,?_,V.aw⟩;rw[<-ae ck];have h:=V.own;simpa using h);case measure=>simp[intOf];omega));(·(have p:q=y b:=by omega);subst p;rw[bP]at d;have r:=U d;have o:=U e;clear d e;go_wp2;go_roundw;(case rel=>refine⟨k+1,by omega,by go_num,?_,o⟩;rw[ae cl];have h:=ae r;unfold oC;simpa using h);case measure=>simp[intOf];omega)));(·(obtain rfl:k=4:=by omega);have b:((4:M):Z)=4:=rfl;have d:=DF (HT.below (m.below (ah _) cG) HT.lt) i ba (by have:=s 4;omega);have K:=U m;clear i m s;(go_wp2_with fail);apply d.mono;rintro D w4⟨v4,rfl,u,w⟩;have E:=U u;have F:=U<|K.trans (Y.fy w)<|λl j=>.inr (ax l j).1;clear u w;go_wp2;go_ret;refine⟨_,rfl,?_,F⟩;have h:=ae E;unfold iF iC;(have D:f++(([m0,m1,m2,m3].take 4).map oC).flatten=le 8 next++le 8 g++le 8 c++([m0,m1,m2,m3].map oC).flatten:=by rw[<-ae X];simp);rw[D]at h;exact h))
def Sa{a:Fs}(d:eI)(h:dX a v=none):vi (a++[(v,d)]) v=a:=by
 induction a with
 |nil=>simp[vi]
 |cons g r c=>
  obtain⟨b,f⟩:=g;by_cases e:b=v
  .simp[dX,e]at h
  .simp[dX,e]at h;simp[vi,e,c h]
def RG(next c b:Z)(d:cr cP):kA (iF next c b d):=by
 unfold iF iC;refine(kA.append ?_ ?_).append<|kA.le 4 _;exact((kA.le 8 _).append<|kA.le 8 _).append<|kA.le 8 _;intro x a;obtain⟨l,e,a⟩:=bz.1 a;obtain⟨f,_,rfl⟩:=aZ.1 e;unfold oC at a;rcases am.1 a with a|a;exact kA.le 4 _ x a;obtain⟨t,_,a⟩:=lZ.1 a;unfold uw at a;simp only[am]at a;rcases a with a|a|a|a;exact kA.le 8 _ x a;exact kA.le 4 _ x a;exact kA.le 4 _ x a;exact kA.le 4 _ x a
def Tk(g:M)(K:DK)(next c b:Z)(x0 x1 x2 x3:Option Addr)(F c1 c2 c3:M)(m0 m1 m2 m3:cP)(hT:Steps a)(r0:Row a 4 (J x0 (y m0) F) (y m0) (dh m0))(r1:Row a 4 (J x1 (y m1) c1) (y m1) (dh m1))(r2:Row a 4 (J x2 (y m2) c2) (y m2) (dh m2))(r3:Row a 4 (J x3 (y m3) c3) (y m3) (dh m3))(b0:∀k,bV (J x0 (y m0) F)=H k->k<z (G a))(b1:∀k,bV (J x1 (y m1) c1)=H k->k<z (G a))(b2:∀k,bV (J x2 (y m2) c2)=H k->k<z (G a))(b3:∀k,bV (J x3 (y m3) c3)=H k->k<z (G a))(k0:∀bh∈m0,bh.oa)(k1:∀bh∈m1,bh.oa)(k2:∀bh∈m2,bh.oa)(k3:∀bh∈m3,bh.oa)(hn:0<=next/\next<18446744073709551616)(hl:0<=c/\c<18446744073709551616)(hb:0<=b/\b<18446744073709551616)(hs:y m0+y m1+y m2+y m3<=1000000)(w:cK a g K)(hg:dX (vw K.files) uS=none)(bk:y K.eM<=100000000000)(A:ij (vw K.files)+21000000<=1099511627776):cy bG 142 #[aA g,eC #[aH next,aH c,aH b,J x0 (y m0) F,J x1 (y m1) c1,J x2 (y m2) c2,J x3 (y m3) c3]] a λj o=>
 j=aO .nilIface/\∃d,rG a o g K d/\vw d.files=td (vw K.files) (gP,iF next c b [m0,m1,m2,m3])/\d.eM=[]:=by
 obtain⟨bd,p⟩:∃bd,ct a (ar #[aH next,aH c,aH b,J x0 (y m0) F,J x1 (y m1) c1,J x2 (y m2) c2,J x3 (y m3) c3] 187)=bd:=⟨_,rfl⟩
 have hW:Y aB a bd:=by rw[<-p];exact(Y.refl _ a).alloc _
 have ad:Steps bd:=by rw[<-p];exact hT.alloc _
 have f:∀{v n xs},Row a 4 v n xs->(∀k,bV v=H k->k<z (G a))->Row bd 4 v n xs:=λb hk=>hW.row b<|λk j=>⟨id,hk k j⟩
 have hz:=hW.size
 have P:=Oq next c b x0 x1 x2 x3 F c1 c2 c3 m0 m1 m2 m3 ad (f r0 b0) (f r1 b1) (f r2 b2) (f r3 b3) (λk j=>ag (b0 k j) hz) (λk j=>ag (b1 k j) hz) (λk j=>ag (b2 k j) hz) (λk j=>ag (b3 k j) hz) k0 k1 k2 k3 hn hl hb hs
 have S:=RG next c b [m0,m1,m2,m3]
 have ac:y (iF next c b [m0,m1,m2,m3])<=20001000/\0<y (iF next c b [m0,m1,m2,m3]):=by
  unfold iF;rw[gu];simp only[af,bY,aY,eW,aX,fM,cL,py];omega
 have L:=λD(v1:aa)(ht:Y aB bd D)(ho:eH D (z<|G bd) v1 (iF next c b [m0,m1,m2,m3]))=>show∃bi bf,v1=bD bi 0 (y<|iF next c b [m0,m1,m2,m3]) bf/\cy bG 200 #[aA g,ai uS,v1] D λj o=>j=aO .nilIface/\∃d,rG a o g K d/\vw d.files=vw K.files++[(uS,iF next c b [m0,m1,m2,m3])]/\y d.eM=y K.eM+1 from by
  obtain⟨bi,bf,rfl,a1,a2,_⟩:=um ho ac.2;have B:Y aB a D:=hW.ci ht;refine⟨bi,bf,rfl,(Gf (db:=g) (K:=K) uS bi 0 bf (w:=D) (w.aw B<|λ_ _=>id) hg (by omega) (by omega) S (Bytes.cells<|eH.bytes ho) a2 (λcc=>by have:=w.lt _ cc;omega)).mono ?_⟩;rintro j o⟨rfl,d,u,hv,hm⟩;exact⟨rfl,d,⟨u.ok,(B.mono (T:=K.bj g) cG).trans u.aw<|λ_ h=>.inl h,λk hk=>(u.bj k hk).elim .inl<|λbf=>.inr<|aE B.size bf⟩,hv,hm⟩
 have ax:=U L
 generalize iF next c b [m0,m1,m2,m3]=SB at*
 have s:∀r i,rG a r g K i->vw i.files=vw K.files++[(uS,SB)]->y i.eM=y K.eM+1->cy bG 204 #[aA g,ai uS,ai gP] r λj o=>j=aO .nilIface/\∃d,rG a o g K d/\vw d.files=td (vw K.files) (gP,SB)/\y d.eM=y K.eM+2:=by
  intro r i e m q;have bg:dX (vw i.files) uS=H SB:=by rw[m,jw,hg];simp[dX]
  obtain⟨bl,hF,B⟩:=js bg;apply(Np uS gP bl e.ok hF (by decide)<|by omega).mono;rintro j o⟨rfl,d,u,hf,hm⟩;refine⟨rfl,d,e.trans u,?_,by omega⟩;rw[hf,Dl,SN,m,Sa SB hg];simp only[B]
 have l:∀r i,rG a r g K i->y i.eM=y K.eM+2->cy bG 92 #[aA g] r λj o=>j=aO .nilIface/\∃d,rG a o g K d/\d.files=i.files/\d.eM=[]:=by
  intro r i e q;apply(BZ e.ok<|by omega).mono;rintro j o⟨rfl,d,u,hf,hm⟩;exact⟨rfl,d,e.trans u,hf,hm⟩
 obtain⟨E,t,bc⟩:=dC s l p
 clear hT r0 r1 r2 r3 b0 b1 b2 b3 k0 k1 k2 k3 hn hl hb w hg A hW ad f hz S ac L s l p
 go_in
 go_wp2_with fail
 rw[ae bc]
 apply P.mono
 rintro j D⟨v1,rfl,X,an⟩
 obtain⟨bi,bf,rfl,C⟩:=ax D v1 an X
 clear X an P
 unfold uS at C
 go_wp2_with fail
 apply C.mono
 rintro j r⟨rfl,i,e,m,q⟩
 have x:=E r i e m q
 clear e m q C
 unfold uS gP at x
 go_wp2_with fail
 apply x.mono
 rintro j w3⟨rfl,K3,N,ao,V⟩
 have al:=t w3 K3 N V
 have bb:=U ao
 clear N ao V x
 go_wp2_with fail
 apply al.mono
 rintro j w4⟨rfl,K4,O,Q,W⟩
 obtain⟨au,av,ba⟩:=dC O Q W
 clear O Q W al
 go_wp2
 go_ret
 exact⟨rfl,K4,au,by rw[ae av];exact bb,ba⟩
