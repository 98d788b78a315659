import Derived.Test.YtophdnlmpfmeiaaGreatDoorC22
namespace Go.Proofs.YtophdnlmpfmeiaaGreatDoor
open ChangeShapes WideShapes RowKit Proofs.Tryz
set_option maxHeartbeats 16000000
set_option linter.all false
set_option maxRecDepth 100000
structure MO(w0 w:J)(x:Nat)(ob:Obj)(o:M)(bs:List Int):Prop where
 own:dq w w0.heap.size o bs
 box:w.heap[x]?=some ob
 ne:o.ownBlock≠some x
 ay:I (λ_=>False) w0 w
def MO.wrote{f w e:J}{x:Nat}{m:Obj}{r d:M}{o a:List Int}(h:MO f w x m r o)(j:du w e r d)(q:dq e f.heap.size d a):MO f e x m d a:=by
 have b:=ak h.box;have i:=I.dU j;refine⟨q,(i.block x b h.ne).trans h.box,λg=>?_,h.ay.trans i (λt g=>.inr (h.own.lt t g).1)⟩;rcases j.sr with p|⟨y,p,s⟩
 ·exact h.ne (p.symm.trans g)
 ·rw[p]at g;cases g;omega
def qo(t:ar):List Int:=le 8 t.num++(le 4 (cC t.cs).length++(le 4 (dz t.ks).length++le 4 (jv (dz t.ks))))
def kN(a:List ar):List Int:=le 4 a.length++a.flatMap qo
def fJ(next a aO:Int)(b:List (List ar)):List Int:=fS (le 8 next++le 8 a++le 8 aO++(b.map kN).flatten)
def Ev(t:ar):(qo t).length=20:=by simp[qo,bw]
def lL(a:List ar):(kN a).length=4+20*a.length:=by
 unfold kN;rw[ag,bw];induction a with
 |nil=>rfl
 |cons t r b=>rw[cF,ag,Ev,aE];omega
structure ar.kP(t:ar):Prop where
 num:t.num<18446744073709551616
 d:(cC t.cs).length<4294967296
 i:(dz t.ks).length<4294967296
def AP(a:List ar)(n j:Nat)(h:n<a.length)(g:j<4):(cf a)[n*4+j]?=(ar.qh a[n])[j]?:=by
 have e:∀(l:List ar),(cf l).length=l.length*4:=by
  intro l;induction l with
  |nil=>rfl
  |cons t r c=>unfold cf at*;rw[cF,ag,c];simp[ar.qh];omega
 have f:cf a=cf (a.take n)++(ar.qh a[n]++cf (a.drop (n+1))):=by
  have c:a=a.take n++a[n]::a.drop (n+1):=by rw[<-bm h,bF]
  have d:cf a=cf (a.take n++a[n]::a.drop (n+1)):=bB cf c;rw[d];unfold cf;rw[dZ,cF]
 have b:(cf (a.take n)).length=n*4:=by rw[e];simp;omega
 rw[f,dD (by omega),b,show n*4+j-n*4=j by omega,fH (by simp[ar.qh];omega)]
def Gt(next c aO:Int)(E F G H:Option Addr)(C c1 c2 c3:Nat)(m0 m1 m2 m3:List ar)(w:J)(hT:Steps w)(r0:Row w 4 (.slice E m0.length C) m0.length (cf m0))(r1:Row w 4 (.slice F m1.length c1) m1.length (cf m1))(r2:Row w 4 (.slice G m2.length c2) m2.length (cf m2))(r3:Row w 4 (.slice H m3.length c3) m3.length (cf m3))(b0:∀k,Value.ownBlock (.slice E m0.length C)=some k->k<w.heap.size)(b1:∀k,Value.ownBlock (.slice F m1.length c1)=some k->k<w.heap.size)(b2:∀k,Value.ownBlock (.slice G m2.length c2)=some k->k<w.heap.size)(b3:∀k,Value.ownBlock (.slice H m3.length c3)=some k->k<w.heap.size)(k0:∀bi∈m0,bi.kP)(k1:∀bi∈m1,bi.kP)(k2:∀bi∈m2,bi.kP)(k3:∀bi∈m3,bi.kP)(hn:0<=next/\next<18446744073709551616)(hl:0<=c/\c<18446744073709551616)(hb:0<=aO/\aO<18446744073709551616)(hs:m0.length+m1.length+m2.length+m3.length<=1000000):Calls prog 203 #[.agg #[.int .u64 next,.int .u64 c,.int .u64 aO,.slice E m0.length C,.slice F m1.length c1,.slice G m2.length c2,.slice H m3.length c3]] w λy w'=>∃v',y=.returned v'/\dq w' w.heap.size v' (fJ next c aO [m0,m1,m2,m3])/\I (λ_=>False) w w':=by
 obtain⟨K,u⟩:∃K:Obj,K=.cells #[.int .u64 next,.int .u64 c,.int .u64 aO,.slice E m0.length C,.slice F m1.length c1,.slice G m2.length c2,.slice H m3.length c3] 155:=⟨_,rfl⟩;have p:∀(cB:J)(bh:Nat)(cx:M),cB.heap[w.heap.size]?=some K->(#[Value.int .u64 next,.int .u64 c,.int .u64 aO,.slice E m0.length C,.slice F m1.length c1,.slice G m2.length c2,.slice H m3.length c3]:Array M)[bh]?=some cx->cB.cell? ⟨w.heap.size,bh,none⟩=some cx:=by
  intro cB bh cx a hv;rw[u]at a;rw[aj a];exact hv
 have hA0:MO w (w.alloc K) w.heap.size K (.slice none 0 0) []:=⟨dq.nil _ _,az _ rfl,(by intro y;cases y),(I.refl _ w).alloc _⟩;have p1:=lG w.heap.size (.slice none 0 0) [] next (w.alloc K) hA0.own hA0.ay.size (by simp) hn.1 hn.2
 have bk:=Z hA0;have h:=Z p;have HT:=Z hT;have cd:=Z r0;have ce:=Z r1;have ch:=Z r2;have cj:=Z r3;have bo:=Z b0;have bp:=Z b1;have bq:=Z b2;have br:=Z b3;have bx:=Z k0;have bT:=Z k1;have ca:=Z k2;have cb:=Z k3;have cc:=Z u;rw[u]at p1;clear hA0 p hT r0 r1 r2 r3 b0 b1 b2 b3 k0 k1 k2 k3 u;go_enter func203,ntmps203
 go_wp2_with fail
 refine p1.mono ?_;rintro y w1⟨v1,rfl,V,D⟩;rw[<-Y cc]at D;have hA1:=(Y bk).wrote D V;have d1:=(Y h) w1 1 _ hA1.box rfl;have p2:=lG w.heap.size v1 ([]++le 8 next) c w1 hA1.own hA1.ay.size (by simp[bw]) hl.1 hl.2;have bl:=Z hA1;clear hA1 V D p1;go_wp2_with fail
 refine p2.mono ?_;rintro y w2⟨v2,rfl,W,ba⟩;have hA2:=(Y bl).wrote ba W;have d2:=(Y h) w2 2 _ hA2.box rfl;have p3:=lG w.heap.size v2 (([]++le 8 next)++le 8 c) aO w2 hA2.own hA2.ay.size (by simp[bw]) hb.1 hb.2;have bn:=Z hA2;clear hA2 W ba p2 d1;go_wp2_with fail
 refine p3.mono ?_;rintro y w3⟨v3,rfl,X,bb⟩;have hA3:=(Y bn).wrote bb X;have d3:=(Y h) w3 3 _ hA3.box rfl;have d4:=(Y h) w3 4 _ hA3.box rfl;have d5:=(Y h) w3 5 _ hA3.box rfl;have d6:=(Y h) w3 6 _ hA3.box rfl;have R:=Z hA3.own;have cm:=Z hA3.ay;clear hA3 X bb p3 d2;obtain⟨b,g⟩:∃b,(([]++le 8 next)++le 8 c)++le 8 aO=b:=⟨_,rfl⟩;have ds:b.length=24:=by rw[<-g];simp[bw]
 have S:=Z g;rw[g]at R;clear g;go_wp2;go_loopw [3,21] (λea bh wr=>∃k:Nat,k<=4/\bh=.int .i64 k/\dq wr w.heap.size ea (b++(([m0,m1,m2,m3].take k).map kN).flatten)/\I (λ_=>False) w wr) (λ_ bh _=>4-(intOf bh).toNat)
 case atStart=>exact⟨0,aU _,rfl,by simpa using Y R,Y cm⟩
 case round=>
  obtain⟨k,hk,rfl,f,i⟩:=hrel;have ax:=i.size;have ao:=f.lt;have o:∀k,(b++(([m0,m1,m2,m3].take k).map kN).flatten).length<=30000000:=by
   intro k;have h1:((([m0,m1,m2,m3].take k).map kN).flatten).length<=((([m0,m1,m2,m3]).map kN).flatten).length:=by
    refine lZ ?_;have y:([m0,m1,m2,m3].map kN).flatten=(([m0,m1,m2,m3].take k).map kN).flatten++(([m0,m1,m2,m3].drop k).map kN).flatten:=by rw[<-dl,<-aN,bF]
    rw[y];exact List.sublist_append_left _ _
   have h2:((([m0,m1,m2,m3]).map kN).flatten).length=16+20*(m0.length+m1.length+m2.length+m3.length):=by simp[lL];omega
   rw[ag];omega
  rcases cJ k 4 with cp|cp
  ·obtain⟨e,dc,cM,HR,HB,HK,dn,s,dv⟩:∃(e:List ar)(dc:Option Addr)(cM:Nat),Hid (Row w 4 (.slice dc e.length cM) e.length (cf e))/\Hid (∀k,Value.ownBlock (.slice dc e.length cM)=some k->k<w.heap.size)/\Hid (∀bi∈e,bi.kP)/\e.length<=1000000/\b++(([m0,m1,m2,m3].take (k+1)).map kN).flatten=(b++(([m0,m1,m2,m3].take k).map kN).flatten)++kN e/\∀cB,(Instr.index 153 (.agg #[.slice E m0.length C,.slice F m1.length c1,.slice G m2.length c2,.slice H m3.length c3]) (.int .i64 k)).run prog cB=.ok (.slice dc e.length cM) cB:=by
    have a:k=0\/k=1\/k=2\/k=3:=by omega
    rcases a with rfl|rfl|rfl|rfl
    ·exact⟨m0,E,C,cd,bo,bx,by omega,by simp,λ_=>by kernel_rfl⟩
    ·exact⟨m1,F,c1,ce,bp,bT,by omega,by simp,λ_=>by kernel_rfl⟩
    ·exact⟨m2,G,c2,ch,bq,ca,by omega,by simp,λ_=>by kernel_rfl⟩
    ·exact⟨m3,H,c3,cj,br,cb,by omega,by simp,λ_=>by kernel_rfl⟩
   have dx:(k:Int)<4:=by omega
   have cT:=o k;have cs:=o (k+1);have cl:=Z s;clear o s;generalize b++(([m0,m1,m2,m3].take k).map kN).flatten=L at*;have a1:=oP (n:=(e.length:Nat)) (by omega) (by omega);have pw:=gQ w.heap.size u3 L (e.length:Nat) wr f ax (by omega) (by omega) (by omega);have B:=Z i;clear f i;go_wp2_with fail
   refine pw.mono ?_;rintro y w4⟨v4,rfl,r,t⟩;have z:=Z r;have A:=Z ((Y B).trans (I.dU t) (λh g=>.inr (ao h g).1));clear r t pw;go_wp2;go_loopw [3,31] (λea bh wr=>∃q:Nat,q<=e.length/\bh=.int .i64 q/\dq wr w.heap.size ea ((L++le 4 (e.length:Nat))++(e.take q).flatMap qo)/\I (λ_=>False) w wr) (λ_ bh _=>e.length-(intOf bh).toNat)
   case atStart=>exact⟨0,aU _,rfl,by simpa using Y z,Y A⟩
   case round=>
    obtain⟨q,hq,rfl,a,d⟩:=hrel;have db:=d.size;by_cases v:q<e.length
    ·obtain⟨_,⟨hx,h0⟩|⟨dk,cv,eb,hx,_,hc⟩⟩:=Y HR
     ·omega
     ·cases hx;have cn:dk<w.heap.size:=(Y HB) dk rfl;have U:∀h cx,h<4->(ar.qh e[q])[h]?=some cx->wr.cell? ⟨dk,cv+q*4+h,none⟩=some cx:=λh cx g hv=>d.cell (by rw[aP];exact hc _ _ ((AP e q h v g).trans hv)) id cn;have x:=(Y HK) _ (au v);have dT:((L++le 4 (e.length:Nat))++(e.take q).flatMap qo).length<=100000000:=by
       have h1:=lL (e.take q);unfold kN at h1;rw[ag,bw]at h1;have h2:(e.take q).length<=1000000:=by simp;omega
       simp only[ag,bw];omega
      have ck:=Z (show((L++le 4 (e.length:Nat))++(e.take q).flatMap qo)++(le 8 (e[q].num:Nat)++(le 4 (cC e[q].cs).length++(le 4 (dz e[q].ks).length++le 4 (jv (dz e[q].ks)))))=(L++le 4 (e.length:Nat))++(e.take (q+1)).flatMap qo from by
       rw[aq v,dZ,<-aV];simp[qo])
      have g0:=U 0 _ (by omega) rfl;have g1:=U 1 _ (by omega) rfl;have g2:=U 2 _ (by omega) rfl;have g3:=U 3 _ (by omega) rfl;have o1:=x.num;have o2:=x.d;have o3:=x.i;have o4:=uw (dz e[q].ks);have o5:=wv (dz e[q].ks);clear U x;simp only[kD]at g0 g1 g2 g3;generalize e[q].num=N at*;generalize(cC e[q].cs).length=O at*;generalize(dz e[q].ks).length=y2 at*;generalize jv (dz e[q].ks)=y3 at*;generalize((L++le 4 (e.length:Nat))++(e.take q).flatMap qo)=P at*;have hE:MO w (wr.alloc (.cells #[.int .u64 N,.int .u32 O,.int .u32 y2,.int .u32 y3] 233)) wr.heap.size (.cells #[.int .u64 N,.int .u32 O,.int .u32 y2,.int .u32 y3] 233) u3 P:=⟨a.alloc _,az _ rfl,λy=>by have:=(a.lt _ y).2;omega,d.alloc _⟩;have z1:=lG w.heap.size u3 P (N:Nat) _ hE.own hE.ay.size (by omega) (by omega) (by omega);have HE:=Z hE;clear hE a d;go_wp2_with fail
      refine z1.mono ?_;rintro y w5⟨v5,rfl,ac,bc⟩;have j:=(Y HE).wrote bc ac;have f1:w5.cell? ⟨wr.heap.size,1,none⟩=some (.int .u32 O):=by rw[aj j.box];rfl
      have z2:=gQ w.heap.size v5 (P++le 8 N) (O:Nat) w5 j.own j.ay.size (by rw[ag,bw];omega) (by omega) (by omega);have bs:=Z j;clear j ac bc z1;go_wp2_with fail
      refine z2.mono ?_;rintro y w6⟨v6,rfl,ad,bd⟩;have l:=(Y bs).wrote bd ad;have f2:w6.cell? ⟨wr.heap.size,2,none⟩=some (.int .u32 y2):=by rw[aj l.box];rfl
      have z3:=gQ w.heap.size v6 ((P++le 8 N)++le 4 O) (y2:Nat) w6 l.own l.ay.size (by simp only[ag,bw];omega) (by omega) (by omega);have bt:=Z l;clear l ad bd z2;go_wp2_with fail
      refine z3.mono ?_;rintro y w7⟨v7,rfl,al,bf⟩;have m:=(Y bt).wrote bf al;have f3:w7.cell? ⟨wr.heap.size,3,none⟩=some (.int .u32 y3):=by rw[aj m.box];rfl
      have z4:=gQ w.heap.size v7 (((P++le 8 N)++le 4 O)++le 4 y2) y3 w7 m.own m.ay.size (by simp only[ag,bw];omega) o4 o5;have bv:=Z m;clear m al bf z3;go_wp2_with fail
      refine z4.mono ?_;rintro y w8⟨v8,rfl,an,bg⟩;have Q:=Z ((Y bv).wrote bg an);clear an bg z4;go_wp2;go_roundw;case rel=>
       refine⟨q+1,v,by go_num,?_,(Y Q).ay⟩;rw[<-Y ck];have cE:=(Y Q).own;simpa using cE
      case measure=>simp[intOf];omega
    ·have l:q=e.length:=by omega
     subst l;rw[bD]at a;have m:=Z a;have j:=Z d;clear a d;go_wp2;go_roundw;case rel=>
      refine⟨k+1,by omega,by go_num,?_,Y j⟩;rw[Y cl];have cE:=Y m;unfold kN;simpa using cE
     case measure=>simp[intOf];omega
  ·obtain rfl:k=4:=by omega
   have a:((4:Nat):Int)=4:=rfl;have d:=yG w.heap.size u3 (b++(([m0,m1,m2,m3].take 4).map kN).flatten) wr ((Y HT).below (i.below (ai _) (λ_ c=>c.elim)) (Y HT).lt) f ax (by have:=o 4;omega);have B:=Z i;clear f i o;go_wp2_with fail
   refine d.mono ?_;rintro y w4⟨v4,rfl,r,t⟩;have z:=Z r;have A:=Z ((Y B).trans (I.dU t) (λh g=>.inr (ao h g).1));clear r t;go_wp2;go_ret;refine⟨_,rfl,?_,Y A⟩;have cE:=Y z;unfold fJ fS;have y:b++(([m0,m1,m2,m3].take 4).map kN).flatten=le 8 next++le 8 c++le 8 aO++([m0,m1,m2,m3].map kN).flatten:=by rw[<-Y S];simp
   rw[y]at cE;exact cE
def JF{a:Fs}{n:aa}(d:List Int)(h:cR a n=none):qW (a++[(n,d)]) n=a:=by
 induction a with
 |nil=>simp[qW]
 |cons g r c=>
  obtain⟨b,f⟩:=g;by_cases e:b=n
  ·simp[cR,e]at h
  ·simp[cR,e]at h;simp[qW,e,c h]
def Jq(next b aO:Int)(c:List (List ar)):iq (fJ next b aO c):=by
 unfold fJ fS;refine(iq.append ?_ ?_).append (iq.le 4 _)
 ·exact((iq.le 8 _).append (iq.le 8 _)).append (iq.le 8 _)
 ·intro x a;obtain⟨l,d,a⟩:=bH.1 a;obtain⟨e,_,rfl⟩:=aZ.1 d;unfold kN at a;rcases aw.1 a with a|a
  ·exact iq.le 4 _ x a
  ·obtain⟨t,_,a⟩:=iP.1 a;unfold qo at a;simp only[aw]at a;rcases a with a|a|a|a
   ·exact iq.le 8 _ x a
   ·exact iq.le 4 _ x a
   ·exact iq.le 4 _ x a
   ·exact iq.le 4 _ x a
def KJ(e:Nat)(K:DK)(next a aO:Int)(x0 x1 x2 x3:Option Addr)(D c1 c2 c3:Nat)(m0 m1 m2 m3:List ar)(w:J)(hT:Steps w)(r0:Row w 4 (.slice x0 m0.length D) m0.length (cf m0))(r1:Row w 4 (.slice x1 m1.length c1) m1.length (cf m1))(r2:Row w 4 (.slice x2 m2.length c2) m2.length (cf m2))(r3:Row w 4 (.slice x3 m3.length c3) m3.length (cf m3))(b0:∀k,Value.ownBlock (.slice x0 m0.length D)=some k->k<w.heap.size)(b1:∀k,Value.ownBlock (.slice x1 m1.length c1)=some k->k<w.heap.size)(b2:∀k,Value.ownBlock (.slice x2 m2.length c2)=some k->k<w.heap.size)(b3:∀k,Value.ownBlock (.slice x3 m3.length c3)=some k->k<w.heap.size)(k0:∀bc∈m0,bc.kP)(k1:∀bc∈m1,bc.kP)(k2:∀bc∈m2,bc.kP)(k3:∀bc∈m3,bc.kP)(hn:0<=next/\next<18446744073709551616)(hl:0<=a/\a<18446744073709551616)(hb:0<=aO/\aO<18446744073709551616)(hs:m0.length+m1.length+m2.length+m3.length<=1000000)(t:bR w e K)(hg:cR (vw K.files) qI=none)(bf:K.cY.length<=100000000000)(x:eW (vw K.files)+21000000<=1099511627776):Calls prog 160 #[.pointer (some ⟨e,0,none⟩),.agg #[.int .u64 next,.int .u64 a,.int .u64 aO,.slice x0 m0.length D,.slice x1 m1.length c1,.slice x2 m2.length c2,.slice x3 m3.length c3]] w λg m=>
 g=.returned .nilIface/\∃b,nJ w m e K b/\vw b.files=ph (vw K.files) (eS,fJ next a aO [m0,m1,m2,m3])/\b.cY=[]:=by
 obtain⟨ac,o⟩:∃ac,w.alloc (.cells #[.int .u64 next,.int .u64 a,.int .u64 aO,.slice x0 m0.length D,.slice x1 m1.length c1,.slice x2 m2.length c2,.slice x3 m3.length c3] 155)=ac:=⟨_,rfl⟩
 have hW:I (λ_=>False) w ac:=by rw[<-o];exact(I.refl _ w).alloc _
 have U:Steps ac:=by rw[<-o];exact hT.alloc _
 have d:∀{v n xs},Row w 4 v n xs->(∀k,v.ownBlock=some k->k<w.heap.size)->Row ac 4 v n xs:=λa hk=>hW.row a (λk g=>⟨id,hk k g⟩)
 have hz:=hW.size
 have H:=Gt next a aO x0 x1 x2 x3 D c1 c2 c3 m0 m1 m2 m3 ac U (d r0 b0) (d r1 b1) (d r2 b2) (d r3 b3) (λk g=>ah (b0 k g) hz) (λk g=>ah (b1 k g) hz) (λk g=>ah (b2 k g) hz) (λk g=>ah (b3 k g) hz) k0 k1 k2 k3 hn hl hb hs
 have N:=Jq next a aO [m0,m1,m2,m3]
 have R:(fJ next a aO [m0,m1,m2,m3]).length<=20001000/\0<(fJ next a aO [m0,m1,m2,m3]).length:=by
  unfold fJ;rw[eF];simp only[ag,bw,aY,df,aT,dH,cH,lL];omega
 have E:=λA(v1:M)(ht:I (λ_=>False) ac A)(ho:dq A ac.heap.size v1 (fJ next a aO [m0,m1,m2,m3]))=>show∃bd C,v1=.slice (some ⟨bd,0,none⟩) (fJ next a aO [m0,m1,m2,m3]).length C/\Calls prog 201 #[.pointer (some ⟨e,0,none⟩),.string qI,v1] A λg m=>g=.returned .nilIface/\∃b,nJ w m e K b/\vw b.files=vw K.files++[(qI,fJ next a aO [m0,m1,m2,m3])]/\b.cY.length=K.cY.length+1 from by
  obtain⟨bd,C,rfl,a1,a2,_⟩:=qg ho R.2;have y:I (λ_=>False) w A:=hW.trans ht (λ_ C=>C.elim);refine⟨bd,C,rfl,(Aq e K qI bd 0 C _ A (t.ay y (λ_ _=>id)) hg (by omega) (by omega) N (Bytes.cells (dq.bytes ho)) a2 (λcc=>by have:=t.lt _ cc;omega)).mono ?_⟩;rintro g m⟨rfl,b,s,hv,hm⟩;exact⟨rfl,b,⟨s.ok,(y.mono (T:=K.aS e) (λ_ C=>C.elim)).trans s.ay (λ_ h=>.inl h),λk hk=>(s.aS k hk).elim .inl (λC=>.inr (aB y.size C))⟩,hv,hm⟩
 have an:=Z E
 generalize fJ next a aO [m0,m1,m2,m3]=SB at*
 have q:∀l f,nJ w l e K f->vw f.files=vw K.files++[(qI,SB)]->f.cY.length=K.cY.length+1->Calls prog 204 #[.pointer (some ⟨e,0,none⟩),.string qI,.string eS] l λg m=>g=.returned .nilIface/\∃b,nJ w m e K b/\vw b.files=ph (vw K.files) (eS,SB)/\b.cY.length=K.cY.length+2:=by
  intro l f c j p;have bb:cR (vw f.files) qI=some SB:=by rw[j,gR,hg];simp[cR]
  obtain⟨bg,hF,y⟩:=gJ bb;refine(FD e f qI eS bg l c.ok hF (by decide) (by omega)).mono ?_;rintro g m⟨rfl,b,s,hf,hm⟩;refine⟨rfl,b,c.trans s,?_,by omega⟩;rw[hf,yj,Kr,j,JF SB hg];simp only[y]
 have h:∀l f,nJ w l e K f->f.cY.length=K.cY.length+2->Calls prog 76 #[.pointer (some ⟨e,0,none⟩)] l λg m=>g=.returned .nilIface/\∃b,nJ w m e K b/\b.files=f.files/\b.cY=[]:=by
  intro l f c p;refine(wQ e f l c.ok (by omega)).mono ?_;rintro g m⟨rfl,b,s,hf,hm⟩;exact⟨rfl,b,c.trans s,hf,hm⟩
 have B:=Z q
 have r:=Z h
 have ba:=Z o
 clear hT r0 r1 r2 r3 b0 b1 b2 b3 k0 k1 k2 k3 hn hl hb t hg x hW U d hz N R E q h o
 go_enter func160,ntmps160
 go_wp2_with fail
 rw[Y ba]
 refine H.mono ?_
 rintro g A⟨v1,rfl,Q,W⟩
 obtain⟨bd,C,rfl,z⟩:=(Y an) A v1 W Q
 clear Q W H
 unfold qI at z
 go_wp2_with fail
 refine z.mono ?_
 rintro g l⟨rfl,f,c,j,p⟩
 have u:=(Y B) l f c j p
 clear c j p z
 unfold qI eS at u
 go_wp2_with fail
 refine u.mono ?_
 rintro g w3⟨rfl,K3,F,X,O⟩
 have V:=(Y r) w3 K3 F O
 have ax:=Z X
 clear F X O u
 go_wp2_with fail
 refine V.mono ?_
 rintro g w4⟨rfl,K4,G,L,P⟩
 have ad:=Z G
 have al:=Z L
 have ao:=Z P
 clear G L P V
 go_wp2
 go_ret
 exact⟨rfl,K4,Y ad,by rw[Y al];exact Y ax,Y ao⟩
end Go.Proofs.YtophdnlmpfmeiaaGreatDoor
