import Derived.BigRegion
import Derived.Test.YtojeeoclojldpaaGreatDoorC14
import Derived.Test.YtojeeoclojldpaaGreatDoorC15
open _root_ renaming List.length→y,Option.some→H,Array.size→z,Go.World.heap→G,Go.Value.ownBlock→bV,Go.World.cell?→aT,Go.World.setCell→bZ,Go.World.alloc→ct,Bool.false→bF,Bool.true→bW,Nat→M,Int→Z,List→cr,Go.Calls→cy,Go.Proofs.Tryz.prog→bG,Go.Value.slice→J,Go.Value.string→ai,Go.Value.bool→aL,Go.Value.pointer→fp,Go.Value.tuple→dB,Go.Value.agg→eC
namespace Go.Proofs.YtojeeoclojldpaaGreatDoor
open ChangeShapes WideShapes RowKit Proofs.Tryz
set_option maxHeartbeats 16000000
set_option linter.all false
set_option maxRecDepth 100000
variable{a f C:I}{b c g l B P:M}{d s N:aa}{e L:cA}{j O:DK}{k:dW}{o:eI}{X:fJ}{r:jj}{v:ab}{w:E}{x:iU}{A:mw}
section
open Go.Shelf
attribute [local go_sem] Oper.semAt_some
def Oz(a:dW)(c:cA):dG (a++[c])=dG a++iC (fE c):=by simp[dG]
def PC{a:cA}(h:e.take b=L++a)(j:b<=y e){i:M}(g:i<y a):∃f:y L+i<y e,e[y L+i]=a[i]:=by
 have d:b=y L+y a:=by have:=bU y h;simp at this;omega
 refine⟨by omega,?_⟩;have c:(e.take b)[y L+i]'(by simp;omega)=(L++a)[y L+i]'(by simp;omega):=by simp only[h]
 rw[gq,nQ<|by omega]at c;simpa using c
def Px{g o r u bk t p:M}(E f n:M)(q:cA)(e:dW)(c:cA)(V:lQ a g o r u bk t p (bD E f (y q) n) d s N (y e.flatten) b (dG e) (fE c) (bO 0 e))(W:Steps a)(X:E<o)(K:∀ad al,(aF q)[ad]?=H al->aT a (R E<|f+ad)=H al)(hcut:q.take b=e.flatten++c)(L:b<=y q)(k:0<y c)(hl:y q<=1000000)(h:∀B∈e,0<y B/\y (fE B)+4<=512)(D:y (fE c)+4<=512):cy bG 220 #[aA u,aA bk,aA r,aA p,aA t,aA o] a λac A=>
 ac=aO (dB #[])/\(∃l m,lQ A g o r u bk t p (bD E f (y q) n) l aK m (y (e++[c]).flatten) b (dG<|e++[c]) (fE []) (bO 0<|e++[c])/\(∀x,bV l=H x->bV d=H x\/z (G a)<=x)/\(∀x,bV m=H x->bV N=H x\/z (G a)<=x))/\Y (ux o p d s N) a A:=by
 have j:b=y e.flatten+y c:=by
  have:=bU y hcut;simp only[dL,af]at this;omega
 have v:y e<=y e.flatten:=by
  have:=h;clear V hcut j h;induction e with
  |nil=>simp
  |cons B e x=>
   have v:=(this B<|by simp).1;have F:=x (λQ w=>this Q<|by simp[w]);simp only[ay,aX,af];omega
 have F:y (dG e)<=512*y e:=by
  have:=h;clear V hcut j h v;induction e with
  |nil=>simp[dG]
  |cons B e x=>
   have v:=(this B<|by simp).2;have F:=x (λQ w=>this Q<|by simp[w]);rw[oN,af,gu,ay];omega
 obtain⟨i1,S⟩:=PC hcut L k
 obtain⟨i2,T⟩:=PC hcut L (i:=y c-1)<|by omega
 have C:=(ez q _ i1).1
 have c1:=(ez q _ i2).1
 rw[S]at C
 rw[T]at c1
 have hb:=jZ e 0
 refine(Wh E f n (y q) (y e.flatten+(y c-1)) (EO c) (Lu c) V W X ?_ ?_ (by omega) (by omega) (by omega) (by omega) (by omega) (by omega) (by omega)<|by omega).mono ?_
 .rw[Hg k];simpa using K _ _ C
 .rw[Lt k];exact K _ _ c1
 .rintro ac A⟨rfl,⟨l,m,hv,hx⟩,ht⟩;refine⟨rfl,⟨l,m,?_,hx⟩,ht⟩;have O:y (e++[c]).flatten=b:=by rw[j];simp
  have P:bO 0 (e++[c])=bO 0 e++[⟨y<|dG e,y (fE c)+4,b-y e.flatten,EO c,Lu c⟩]:=by
   rw[CC,j,uC,cQ];rfl
  rw[O,P,Oz];exact hv
def eH.base{b base':M}(h:eH a b d o)(c:base'<=b):eH a base' d o:=eQ h c
def eH.Xa(i:eH a b d o)(e:0<y o):∃g c h,d=bD g c (y o) h:=by
 rcases i.bytes.shape with⟨_,f⟩|⟨g,c,h,f,j⟩;rw[f]at e;simp at e;exact⟨g,c,h,f⟩
structure Gb(w:I)(lv:aa)(p:cA)(B:fJ)(W:I):Prop where
 ex:∃cs cur dv pv kv,lQ W (z (G w)+8) (z<|G w) (z (G w)+1) (z (G w)+2) (z (G w)+3) (z (G w)+4) (z (G w)+5) lv dv pv kv (y cs.flatten) (y p) (dG cs) (fE cur) (bO 0 cs)/\p=cs.flatten++cur/\(∀c∈cs,0<y c/\y (fE c)+4<=512)/\y (fE cur)+4<=512/\(cur=[]->p=[])/\(cs++[cur]).Pairwise gQ/\∀k,B k↔ux (z<|G w) (z (G w)+5) dv pv kv k
 fn:dV W (z (G w)+6) (.func (.func 220) #[] #[aA<|z (G w)+2,aA<|z (G w)+3,aA<|z (G w)+1,aA<|z (G w)+5,aA<|z (G w)+4,aA<|z<|G w]) 1
 aw:Y aB w W
def Gb.lt(j:Gb a d e X C):∀k,X k->z (G a)<=k/\k<z (G C):=by
 obtain⟨h,c,i,m,l,g,_,_,_,_,_,b⟩:=j.ex;exactλk c=>⟨g.low k<|(b k).1 c,g.uZ k<|(b k).1 c⟩
def Gb.stays{T:fJ}(n:Gb a d e X f)(h:Y T f C)(c:∀k,T k->¬X k/\z (G a)+7<=k):Gb a d e X C:=by
 obtain⟨l,b,m,v,u,t,o,p,q,r,s,i⟩:=n.ex;exact⟨⟨l,b,m,v,u,t.XP h<|λk g j=>(c k j).1<|(i k).2 g,o,p,q,r,s,i⟩,n.fn.aw h (λj=>by have:=(c _ j).2;omega),n.aw.trans h<|λk g=>.inr (by have:=(c k g).2;omega)⟩
def Pk{w W2 j w6:I}{L h g i v6:aa}{p gg cur:cA}{cs:dW}{B:fJ}(e:lQ j (z (G w)+8) (z<|G w) (z (G w)+1) (z (G w)+2) (z (G w)+3) (z (G w)+4) (z (G w)+5) L h g i (y cs.flatten) (y p) (dG cs) (fE cur) (bO 0 cs))(N:dV j (z (G w)+6) (.func (.func 220) #[] #[aA<|z (G w)+2,aA<|z (G w)+3,aA<|z (G w)+1,aA<|z (G w)+5,aA<|z (G w)+4,aA<|z<|G w]) 1)(A:Y aB w j)(F:Y B W2 j)(a:∀k,ux (z<|G w) (z (G w)+5) h g i k->B k\/z (G W2)<=k)(hcut:p=cs.flatten++cur)(m:∀c∈cs,0<y c/\y (fE c)+4<=512)(u:y (fE cur)+y (fE gg)+4<=512)(n:0<y gg)(x:(cs++[cur]).Pairwise gQ)(q:gQ p gg)(O:w6.ownsRow (z (G w)+8) 5 1 v6 (y (fE cur)+y (fE gg)) ((fE cur).map (Value.int .u8)++(fE gg).map (Value.int .u8)))(D:eP j w6 g v6):(aT w6 (R (z (G w)+2) 0)=H g/\w6.frozen? (R (z (G w)+2) 0)=bF)/\(aT (bZ w6 (R (z (G w)+2) 0) v6) (R (z (G w)+5) 0)=H (ap<|y p)/\(bZ w6 (R (z (G w)+2) 0) v6).frozen? (R (z (G w)+5) 0)=bF)/\∃E,Gb w L (p++gg) E (bZ (bZ w6 (R (z (G w)+2) 0) v6) (R (z (G w)+5) 0)<|ap ((y p+y gg:M):Z))/\Y B W2 (bZ (bZ w6 (R (z (G w)+2) 0) v6) (R (z (G w)+5) 0)<|ap ((y p+y gg:M):Z))/\∀k,E k->B k\/z (G W2)<=k:=by
 have d:=Y.fy D;have l:=e.p.aw d (e.jW<|by omega).2.1;have f:=e.piece (ps1:=fE<|cur++gg) d D.uc (eH.of O (by rw[xM,af])<|by rw[xM,aM]);have C:=f.at (y p+y gg);have v:∀k,bV g=H k->z (G w)+8<=k:=λk o=>(e.op.lt k o).1;have b:Y (ux (z<|G w) (z (G w)+5) h g i) j (bZ (bZ w6 (R (z (G w)+2) 0) v6) (R (z (G w)+5) 0)<|ap ((y p+y gg:M):Z)):=((d.mono (T:=ux (z<|G w) (z (G w)+5) h g i)<|λk o=>.inl<|.inr<|.inr<|.inl o).setCell _ 0 _<|.inl<|.inl ⟨by omega,by omega⟩).setCell _ 0 _<|.inl<|.inl ⟨by omega,by omega⟩;refine⟨⟨l.cell,l.free⟩,⟨f.t.cell,f.t.free⟩,ux (z<|G w) (z (G w)+5) h v6 i,⟨⟨cs,cur++gg,h,v6,i,by rw[af];exact C,by rw[hcut,aU],m,by rw[xM,af];exact u,λc=>?_,?_,λk=>qT⟩,?_,?_⟩,F.trans b a,?_⟩;rw[kR]at c;rw[c.2]at n;simp at n;obtain⟨Q,_,S⟩:=bR.1 x;refine bR.2 ⟨Q,by simp,λc K W P=>?_⟩;rw[bH.1 P];intro V t s r;rcases am.1 r with r|r;exact S c K cur (by simp) V t s r;exact q V (by rw[hcut];exact ik _<|bz.2 ⟨c,K,t⟩) s r
 .exact N.aw b (by
   rintro(⟨_,c⟩|c|c|c)
   .omega
   .have:=(e.od.lt _ c).1;omega
   .have:=v _ c;omega
   .have:=(aI e.ok _ c).1;omega)
 exact A.trans b<|λk o=>.inr<|e.low k o;rintro k(c|c|c|c);exact a k<|.inl c;exact a k<|.inr<|.inl c;rcases D.uc with r|⟨V,r,t⟩;exact a k<|.inr<|.inr<|.inl<|r▸c;rw[r]at c;cases c;exact .inr<|aE F.size t;exact a k<|.inr<|.inr<|.inr c
def DW(Q b f:M)(hT:Steps a)(hg:Q<z (G a))(x:∀dT cB,(aF e)[dT]?=H cB->aT a (R Q<|b+dT)=H cB)(dm:y e<=f)(dn:0<y e)(X:∀bo∈e,bo.Good)(hs:dQ e)(c:∀Q∈ie e,y Q<=10)(hl:y e<=1000000):cy bG 172 #[bD Q b (y e) f] a λao w'=>∃dv kv r,ao=aO (dB #[dv,kv])/\qo e r/\eH w' (z<|G a) dv (dG r)/\w'.ownsRow (z<|G a) 347 5 kv (y r) (ep<|bO 0 r)/\Y aB a w':=by
 obtain⟨i0,cb,cn,co,cp⟩:=cz qh;have cl:=hT.lt;have dk:=Ap (bD Q b (y e) f) _ _ _ rfl;have hE:kw a (bD Q b (y e) f) e:=⟨by rw[fN],.inr ⟨Q,b,f,rfl,dm,x⟩⟩;obtain⟨HT,HC,HG,cM⟩:=gx hT x X c;clear hT x X c;refine(cX (n:=3)).1 ?_;refine callsIn_of_wp_marks func172 rfl trivial ?_ rfl;simp only[ntmps172,eR,ay,cL,Nat.reduceAdd,Nat.reduceSub,dS,dR,eS,er,cC,cq];have ds:=ow (P:=bG) (w:=(ct (ct (ct (ct (ct (ct (ct a<|ar #[bD Q b (y e) f] 102)<|ar #[aK] 126)<|ar #[aK] 126)<|ar #[aK] 289)<|ar #[ap 0] 3)<|ar #[ap 0] 3)<|ar #[.nilFunc] 1)) (b:=z (G a)+1+1+1+1+1+1) (u:=.nilFunc) (t:=1) (aD _<|by simp) (.func (.func 220) #[] #[aA<|z (G a)+1+1,aA<|z (G a)+1+1+1,aA<|z (G a)+1,aA<|z (G a)+1+1+1+1+1,aA<|z (G a)+1+1+1+1,aA<|z<|G a]) rfl;gi_wp2_with(refine⟨trivial,?_⟩;gi_at_call 79;refine(cX.2<|dk _).mono ?_;rintro ao w1⟨rfl,rfl⟩)
 clear ds;obtain⟨W0,l⟩:∃W0,(ct (ct (ct (ct (ct (ct (ct (ct a<|ar #[bD Q b (y e) f] 102)<|ar #[aK] 126)<|ar #[aK] 126)<|ar #[aK] 289)<|ar #[ap 0] 3)<|ar #[ap 0] 3)<|ar #[.func (.func 220) #[] #[aA<|z (G a)+1+1,aA<|z (G a)+1+1+1,aA<|z (G a)+1,aA<|z (G a)+1+1+1+1+1,aA<|z (G a)+1+1+1+1,aA<|z<|G a]] 1)<|ar #[bD Q b (y e) f] 102)=W0:=⟨_,rfl⟩;have ek:z (G W0)=z (G a)+8:=by rw[<-l];simp
 have cm:Y aB a W0:=by rw[<-l];exact((((((((Y.refl aB a).alloc _).alloc _).alloc _).alloc _).alloc _).alloc _).alloc _).alloc _
 have dc:dV W0 (z (G a)+7) (bD Q b (y e) f) 102:=by rw[<-l];exact aD _<|by simp
 have hA0:Gb a (bD Q b (y e) f) (ig []) (ux (z<|G a) (z (G a)+5) aK aK aK) W0:=by refine⟨⟨[],[],aK,aK,aK,⟨?_,?_,?_,?_,?_,?_,eH.nil _ _,eH.nil _ _,bK _ _ _ _,(by simp[bV]),by omega,by omega⟩,rfl,by simp,by simp[fE],λ_=>rfl,by simp,λk=>qT⟩,?_,cm⟩;rw[<-l];exact dV.alloc (dV.alloc (dV.alloc (dV.alloc (dV.alloc (dV.alloc (dV.alloc (aD _ rfl) _) _) _) _) _) _) _;rw[<-l];exact dV.alloc (dV.alloc (dV.alloc (dV.alloc (dV.alloc (dV.alloc (aD _<|by simp) _) _) _) _) _) _;rw[<-l];exact dV.alloc (dV.alloc (dV.alloc (dV.alloc (dV.alloc (aD _<|by simp) _) _) _) _) _;rw[<-l];exact dV.alloc (dV.alloc (dV.alloc (dV.alloc (aD _<|by simp) _) _) _) _;rw[<-l];exact dV.alloc (dV.alloc (dV.alloc (aD _<|by simp) _) _) _;rw[<-l];exact dV.alloc (dV.alloc (aD _<|by simp) _) _;rw[<-l];exact dV.alloc (aD _<|by simp) _
 rw[l];refine nw (m:=3) (arg:=FY<|bD Q b (y e) f) (V:=Az) (n0:=z<|G a) (gf:=127) (lb:=#[aA<|z (G a)+7]) (l:=nz 0<|ie e) (S:=λk=>k=z (G a)+7) ?geval (enters_of func127 (by kernel_rfl) rfl) (λ_=>rfl) (vT (z<|G a) 2 dc (hE.aw cm<|λk c=>⟨id,(show Q=k by simpa[bV]using c)▸hg⟩) (λk c=>(show Q=k by simpa[bV]using c)▸hg) (by omega)<|by omega) trivial (by omega) (λk c=>by omega) (λg bp cv=>Gb a (bD Q b (y e) f) (ig g) bp cv) (λ_ _ _ _=>False) _ hA0 (λk c j=>by rcases j with⟨_,j⟩|j|j|j<;>first|omega|(simp[bV]at j)) (λg bp cv C=>C.lt) ?st (λ_ _ _ _ _ _ h=>h.elim) ?body ?done ?stop;case geval=>rfl
 (case st=>intro g bp cv t T C i hT;refine C.stays i<|λk c=>⟨(hT k c).1,?_⟩;rcases(hT k c).2 with j|j|j;omega;exact j.elim;omega);(case stop=>intro bq j g bp cv _ h;exact h.elim)
 case body=>
  rintro lr g⟨cs,i⟩bp cv ej bi ce ac C _;obtain⟨hn,eo,c⟩:=IW hs ac;have bT:0<y i:=gF.2 c.ne;have ei:cs+y i+y eo=y e:=by rw[c.all,hn];simp;omega
  have W:=AA hE c.all c.ne;rw[<-hn]at W;unfold FY;unfold zd at W|-;simp only at W|-;have ec:y i<=10:=cM i (by obtain⟨_,eq,ao⟩:=yt _ _ _ _ _ ac;rw[<-ao];simp);have bx:∀bo∈i,bo.Good:=λbo a=>HG bo (by rw[c.all];simp[a]);generalize f-cs=en at*;obtain⟨HA,HK,HN⟩:=dC C c hn;clear C ac c hn;gi_wp2;refine⟨Y.refl _ _,λW2 bm=>?_⟩;have hA2:=HA.stays bm (λk c=>by subst c;exact⟨bi,by omega⟩);have bk:kw W2 (bD Q (b+cs*4) (y i) en) i:=W.aw hA2.aw<|λk c=>(show Q=k by simpa[bV]using c)▸⟨id,hg⟩;have cj:=DV bk (λk c=>(show Q=k by simpa[bV]using c)▸ag hg hA2.aw.size) bx (by omega);obtain⟨r,d,dv,pv,kv,hv,hcut,s,q,B,w,hB⟩:=hA2.ex;have dd:0<y (fE i)/\y (fE i)<=350:=by
   have h1:=Py bx;have h2:=Jl i;omega
  obtain⟨px,pc,ck⟩:=aC hv.op;obtain⟨cx,hb⟩:∃cx,y (fE i)=cx:=⟨_,rfl⟩;obtain⟨cE,ha⟩:∃cE,y (fE d)=cE:=⟨_,rfl⟩;rw[hb]at dd;rw[ha]at ck q;obtain⟨HV,HF,bg,av,HB,K⟩:=kG hv hA2.fn hA2.aw bm hB hcut;obtain⟨L,ea,br,Hb,Ha,ee⟩:=kG s B w hb ha bk;clear hA2 bk W hv hcut s B w hB hb ha bm;subst ck;gi_wp2_with fail
  refine⟨trivial,(CallsIn.inRound lr<|cX.2 cj).mono ?_⟩;rintro ao F⟨b2,rfl,bl,o⟩;obtain⟨cT,O,db,bt⟩:=bl.Xa (by rw[ae Hb];omega);rw[ae Hb]at bt;subst bt;have n:=HV.aw o;have bv:=HF.aw o id;have y5:=n.p.cell;have y9:=bv.cell;obtain⟨au,bf,t⟩:=dC n bl o;clear n bv bl o cj;have bb:lr<z (G W2):=ag ce av.size;have eg:z (G cv)<=z (G W2):=av.size;have ch:y (ig g)=cs:=HN.symm;by_cases eb:(512:Z)<(cE:Z)+cx+4
  .have E:0<y d:=by
    rcases fT (y d)with j|j
    .obtain rfl:=aQ j;have:=ae Ha;simp[fE]at this;omega
    .exact j
   have ba:=HK.all;have al:Y aB a F:=bg.ci t;have v:=Px Q b f e r d au (HT.below (al.below (ah _) cG) cl) hg (λdT cB hj=>al.cell (HC dT cB hj) id hg) (by rw[ba,aU,pM];exact K) (by omega) E hl L (by rw[ae Ha];exact q);clear al ba;gi_wp2_with fail
   refine⟨trivial,(CallsIn.inRound lr<|cX.2<|DE ((cE:Z)+cx) _ (by omega)<|by omega).mono ?_⟩;rintro ao w4⟨rfl,dx⟩;subst w4;gi_wp2_with fail
   refine⟨trivial,(CallsIn.inRound lr<|cX.2 v).mono ?_⟩;rintro ao w5⟨rfl,⟨ef,el,ax,bu,cc⟩,ad⟩;have u:∀k,ux (z<|G a) (z (G a)+5) dv (J px cE pc) kv k->bp k:=λk c=>(HB k).2 c;have ca:=HV.uZ;have cd:=HV.low;have bs:eH w5 (z<|G W2) (bD cT O cx db) (fE i):=ad.own bf (λk c j=>by have:=ca k j;have:=(bf.lt k c).1;omega);have bn:=ax.size;have y6:=ax.p.cell;have ed:=t.size;have w:=ae br;have bd:=U<|tu bs.bytes;have bh:=U (λ(v6:aa)(w6:I)ho hw=>Pk (w:=a) (w6:=w6) (v6:=v6) (p:=ig g) (cs:=r++[d]) (cur:=[]) (gg:=i) (B:=bp) (W2:=W2) ax ((HF.aw t id).aw ad (by
    rintro(⟨_,j⟩|j|j|j)
    .omega
    .have:=(HV.od.lt _ j).1;omega
    .have:=(HV.op.lt _ j).1;omega
    .have:=(aI HV.ok _ j).1;omega))
    ((bg.ci t).trans ad<|λk c=>.inr<|cd k c) ((t.mono cG).trans ad<|λk c=>.inl<|u k c)
    (by
     rintro k(j|j|j|j)
     .exact .inl<|u k<|.inl j
     .rcases bu k j with ao|ao
      .exact .inl<|u k<|.inr<|.inl ao
      .exact .inr<|by omega
     .simp[bV]at j
     .rcases cc k j with ao|ao
      .exact .inl<|u k<|.inr<|.inr<|.inr ao
      .exact .inr (by omega))
    (by rw[ae K];simp) (by
     intro j x;rcases am.1 x with x|x
     .exact L j x
     .rw[bH.1 x,ae Ha];exact⟨E,q⟩)
    (by rw[ae Hb];simp[fE];omega) bT (bR.2 ⟨w,by simp,λbo _ cu a=>by rw[bH.1 a];intro _ _ em hz;cases hz⟩) HK.low ho hw)
   clear ax bu cc ad u ca cd bs w v y5 y9;gi_wp2_with(first
    |(gi_at_builtin;refine dY _ rfl (.tmp 27) (.tmp 28) 126 rfl (z (G a)+8) 5 i0 (.int .u8 0) 1 1 underlying126 cb cn co cp rfl (by decide) _ 0 ((fE []).map (Value.int .u8)) rfl (bK _ _ _ _) (R cT O) cx db ((fE i).map (Value.int .u8)) rfl (by rw[cU,ae Hb,rf]) bd (by intro cB hu;simp only[aZ]at hu;obtain⟨cu,_,rfl⟩:=hu;rfl) (by omega) (by omega) bn ?_;intro v6 w6 A an;obtain⟨⟨y0,y1⟩,⟨y2,y3⟩,B2,hP,D,T⟩:=bh v6 w6 (by rw[ae Hb];exact A) an;obtain⟨x6,c6,rfl⟩:=aC A;simp only[cQ]at y2 y3 hP D;rw[ch]at y2;have HP:=U hP;have N:=U D;have bc:=U T;clear A an hP D T))
   have e1:ig (g++[(cs,i)])=ig g++i:=th _ _ _;have e2:((cs:Z)+y i)=((y (ig g)+y i:M):Z):=by omega
   rw[e2];refine⟨trivial,B2,?_,(av.mono<|λk c=>.inl<|.inr c).trans N<|λk c=>.inl<|.inl c,N.block lr bb bi,λk c=>(bc k c).imp_right<|λj=>by omega⟩;show Gb a _ (ig<|g++[(cs,i)]) B2 _;rw[e1];exact HP
  .have u:∀k,ux (z<|G a) (z (G a)+5) dv (J px cE pc) kv k->bp k:=λk c=>(HB k).2 c;have bn:=au.size;have bd:=U<|tu bf.bytes;have bh:=U<|λ(v6:aa)(w6:I)ho hw=>Pk (w:=a) (w6:=w6) (v6:=v6) (p:=ig g) (cs:=r) (cur:=d) (gg:=i) (B:=bp) (W2:=W2) au (HF.aw t id) (bg.ci t) (t.mono cG) (λk c=>.inl<|u k c) K L (by rw[ae Ha,ae Hb];omega) bT br HK.low ho hw;clear u y9;gi_wp2_with fail
   refine⟨trivial,(CallsIn.inRound lr<|cX.2<|DE ((cE:Z)+cx) _ (by omega)<|by omega).mono ?_⟩;rintro ao w4⟨rfl,dx⟩;subst w4;gi_wp2_with(first
    |(gi_at_builtin;refine dY _ rfl (.tmp 27) (.tmp 28) 126 rfl (z (G a)+8) 5 i0 (.int .u8 0) 1 1 underlying126 cb cn co cp rfl (by decide) _ cE ((fE d).map (Value.int .u8)) rfl (by have h0:=au.op;unfold eH at h0;rw[ae Ha]at h0;exact h0) (R cT O) cx db ((fE i).map (Value.int .u8)) rfl (by rw[cU,ae Hb,rf]) bd (by intro cB hu;simp only[aZ]at hu;obtain⟨cu,_,rfl⟩:=hu;rfl) (by omega) (by omega) bn ?_;intro v6 w6 A an;obtain⟨⟨y0,y1⟩,⟨y2,y3⟩,B2,hP,D,T⟩:=bh v6 w6 (by rw[ae Ha,ae Hb];exact A) an;obtain⟨x6,c6,rfl⟩:=aC A;rw[ch]at y2;have HP:=U hP;have N:=U D;have bc:=U T;clear A an hP D T))
   have e1:ig (g++[(cs,i)])=ig g++i:=th _ _ _;have e2:((cs:Z)+y i)=((y (ig g)+y i:M):Z):=by omega
   rw[e2];refine⟨trivial,B2,?_,(av.mono<|λk c=>.inl<|.inr c).trans N<|λk c=>.inl<|.inl c,N.block lr bb bi,λk c=>(bc k c).imp_right<|λj=>by omega⟩;show Gb a _ (ig<|g++[(cs,i)]) B2 _;rw[e1];exact HP
 (case done=>intro bq bp cv bc C N _ hK;obtain⟨r,d,dv,pv,kv,hv,hcut,s,q,B,w,hB⟩:=C.ex;rw[Aw]at hcut B hv;(have E:0<y d:=by rcases fT (y d)with j|j;have:=B<|aQ j;subst this;simp at dn;exact j);have v:=Px Q b f e r d hv (HT.below (C.aw.below (ah _) cG) cl) hg (λdT cB hj=>C.aw.cell (HC dT cB hj) id hg) (by rw[bP];exact hcut) (ah _) E hl s q;have u:¬ux (z<|G a) (z (G a)+5) dv pv kv bq:=λj=>N<|(hB bq).2 j;have HX:=U (show∀F i t,lQ F (z (G a)+8) (z<|G a) (z (G a)+1) (z (G a)+2) (z (G a)+3) (z (G a)+4) (z (G a)+5) (bD Q b (y e) f) i aK t (y (r++[d]).flatten) (y e) (dG<|r++[d]) (fE []) (bO 0<|r++[d])->Y (ux (z<|G a) (z (G a)+5) dv pv kv) cv F->(∀bo,bV i=H bo->bV dv=H bo\/z (G cv)<=bo)->(∀bo,bV t=H bo->bV kv=H bo\/z (G cv)<=bo)->(eH F (z<|G a) i (dG<|r++[d])/\F.ownsRow (z<|G a) 347 5 t (y<|r++[d]) (ep<|bO 0<|r++[d]))/\Y aB a F/\F.heap[bq]?=H (.deferred<|H [])/\bV i≠H bq/\bV t≠H bq from by intro F i t n o hd c;have h1:=n.ok;rw[jZ]at h1;have O:=ak hK;exact⟨⟨n.od.base (by omega),eQ h1<|by omega⟩,C.aw.trans o<|λk c=>.inr<|hv.low k c,(o.block bq O u).trans hK,λj=>by rcases hd bq j with ao|ao;exact u<|.inr<|.inl ao;omega,λj=>by rcases c bq j with ao|ao;exact u<|.inr<|.inr<|.inr ao;omega⟩);have ax:=C.fn.cell;have HP:=U<|show qo e (r++[d])from⟨by rw[hcut];simp,λj x=>by rcases am.1 x with x|x;exact s j x;rw[bH.1 x];exact⟨E,q⟩,w⟩;clear C hcut s B w hB hv N u E;generalize r++[d]=av at*;(gi_wp2_with fail);refine⟨trivial,(cX.2 v).mono ?_⟩;rintro ao F⟨rfl,⟨i,t,n,T,W⟩,o⟩;have z1:=n.d.cell;have z2:=n.k.cell;obtain⟨⟨A,D⟩,ac,K,ba,bb⟩:=HX F i t n o T W;obtain⟨x4,c4,rfl⟩:=aC A;obtain⟨x5,c5,rfl⟩:=aC D;obtain⟨ad,al,an,au⟩:=gx A D ac K;have O:=ak K;clear n o A D ac K T W ax v hK;(gi_wp2_with fail);refine sj.2 ?_;(go_quiet(fail));gi_wp2;refine⟨by simp,.inl ⟨_,_,rfl,run_takeDeferred au,?_⟩⟩;refine⟨_,kP rfl _ _ _,?_⟩;have L:=(ia (λk=>k=bq) F nq).trans (gD (F.drewN nq) bq<|.deferred none)<|λ_ h=>.inl h;exact⟨_,_,av,rfl,HP,L.own ad<|λk c j=>ba (by rw[<-j];exact c),L.own al<|λk c j=>bb (by rw[<-j];exact c),an.trans L<|λk c=>.inr<|by omega⟩)
end
def um(n:a.ownsRow b c g d l x)(q:0<l):∃f e,d=bD f 0 l e/\b<=f/\f<z (G a)/\l<=e:=by
 obtain⟨o,⟨_,p⟩|⟨f,e,k,h,i,j,m,_⟩⟩:=n;omega;exact⟨f,e,h,i,ak j,m⟩
structure MC(w0 w:I)(tb:M)(l:cA)(cs:dW)(bb wL db FU:M):Prop where
 pieces:qo l cs
 mem:lR w tb (fp none) 0 0 0 0 bb 0 wL (bD db 0 (y<|dG cs) FU) (bO 0 cs)
 data:eH w (z<|G w0) (bD db 0 (y<|dG cs) FU) (dG cs)
 FW:w.ownsRow (z<|G w0) 347 5 (bD bb 0 (y<|bO 0 cs) wL) (y<|bO 0 cs) (ep<|bO 0 cs)
 new:z (G w0)<=tb
 aw:Y aB w0 w
def Dv(t:cA)(A d l:M)(W:I)(Q:Steps W)(X:A<z (G W))(S:∀F K,(aF t)[F]?=H K->aT W (R A<|d+F)=H K)(w:y t<=l)(n:0<y t)(m:∀ad∈t,ad.Good)(hs:dQ t)(i:∀A∈ie t,y A<=10)(hl:y t<=1000000):cy bG 118 #[bD A d (y t) l] W λac k=>∃j c e a f b,ac=aO (aA j)/\MC W k j t c e a f b:=by
 have x:=DW A d l Q X S w n m hs i hl
 have N:=U (show∀p s c k,qo t c->eH k (z<|G W) p (dG c)->k.ownsRow (z<|G W) 347 5 s (y c) (ep<|bO 0 c)->Y aB W k->∃e a f b,s=bD e 0 (y<|bO 0 c) a/\p=bD f 0 (y<|dG c) b/\MC W (ct k<|ar #[fp none,aH 0,dq 0,dq 0,dq 0,bD e 0 (y<|bO 0 c) a,bD f 0 (y<|dG c) b] 293) (z<|G k) t c e a f b from by
  intro p s c k o q i r;rw[<-jZ c 0]at i;have g:0<y (bO 0 c):=by
   rw[jZ];rcases fT (y c)with P|P
   .obtain rfl:=aQ P;have:=o.flat;simp at this;rw[this]at n;simp at n
   .exact P
  have v:0<y (dG c):=by
   rw[jZ]at g;have:=Jm c 0 g;omega
  have V:=o.length;obtain⟨e,a,rfl,b1,b2,O⟩:=um i g;obtain⟨f,b,rfl,d1,d2,d3⟩:=um q v;refine⟨e,a,f,b,rfl,rfl,o,⟨aD _ rfl,?_,g,O,by rw[jZ];omega⟩,q.alloc _,aS i _,r.size,r.alloc _⟩;intro F K hj;obtain⟨h1,⟨C,h0⟩|⟨b',D,B,C,_,u⟩⟩:=dH<|aS i<|ar #[fp none,aH 0,dq 0,dq 0,dq 0,bD e 0 (y<|bO 0 c) a,bD f 0 (y<|dG c) b] 293
  .omega
  .cases C;exact u F K hj)
 go_in
 go_wp2_with(go_at_call 172;refine x.mono ?_;rintro ac E⟨p,s,c,rfl,o,q,i,r⟩;obtain⟨e,a,f,b,rfl,rfl,hF⟩:=N p s c E o q i r;have L:=U hF;clear o q i r hF)
 go_ret;exact⟨z<|G E,c,e,a,f,b,rfl,L⟩
def zf:∀(a:dW)(p:M),sM (bO p a)=y (dG a)
 |[],_=>by simp[sM,bO,dG]
 |c::a,p=>by
  have h:=zf a<|p+(y (fE c)+4);unfold sM at*;rw[bO,aY,iL,h,oN,af,gu];rfl
def BF:∀(a:dW)(p:M),rL (bO p a)=y a.flatten
 |[],_=>by simp[rL,bO]
 |c::a,p=>by
  have h:=BF a<|p+(y (fE c)+4);unfold rL at*;rw[bO,aY,iL,h,aX,af];rfl
def Mi(n:M):∀(a:dW)(p:M),(bO p a).take n=bO p (a.take n):=by
 induction n with
 |zero=>intro a p;simp[bO]
 |succ n b=>
  intro a p;cases a with
  |nil=>simp[bO]
  |cons c a=>rw[bO,rP,b,rP,bO]
def qo.idx(l:qo L k)(j:L≠[])(i:∀x∈L,x.Good)(w:dQ L)(v:y L<=100):JN (bO 0 k):=by
 have a:=l.wH j i w;have r:=l.length;have d:∀a∈k,∀x∈a,x∈L:=λa c x b=>by rw[<-l.flat];exact bz.2 ⟨a,c,b⟩
 refine⟨?_,?_,?_,?_,?_,?_⟩;rw[a.len];exact a.ne;rw[a.len];omega;intro A u;obtain⟨m,q,rfl⟩:=dO u;(have c:m<y k:=by rw[<-a.len];exact q);have o:=a.Ee m q c;have b:=aq c;have t:=l.fit _ b;have h:=i _<|d _ b _<|aq o.ne;have p:=i _ (d _ b _<|aq<|show y k[m]-1<y k[m]by omega);have g:dQ k[m]:=a.mq.sub<|cN b;(have s:y k[m]<=y L:=by rw[<-l.flat];exact(cN b).length_le);refine⟨by rw[o.size];exact t.2,by rw[o.count];exact o.ne,by rw[o.count];omega,by rw[o.first];exact h.Uh,by rw[o.first];exact h.LD,by rw[o.last];exact p.Uh,by rw[o.last];exact p.LD,?_⟩;rw[o.first,o.last];exact g.CX o.ne<|aq _;rw[BF,l.flat];exact v;intro n f;(have c:n<y k:=by rw[<-a.len];exact f);rw[Mi,zf,a.pos n f]
 .intro n f;have c:n<y k:=by rw[<-a.len];exact f
  have o:=a.Ee n f c;have h:=i _<|d _ (aq c) _<|aq o.ne;cases n with
  |zero=>
   rw[wS];show ic ⟨#[]⟩ _=bW;rw[o.first];cases e:ic ⟨#[]⟩ (k[0][0]'o.ne).key with
   |true=>rfl
   |false=>
    have b:=nN e<|IV _;have:=h.Uh;rw[<-b]at this;exact absurd this<|by decide
  |succ n=>
   have g:n<y (bO 0 k):=by omega
   have b:n<y k:=by omega
   rw[aj g,ED];have m:=a.Ee n g b;rw[m.last,o.first];exact(cw.1 a.CS n (n+1) b c<|by omega) _ (aq _) _<|aq _
def mu(a:dW):eI:=dG a++fa (bO 0 a)
def Xj(h:a.ownsRow b c g d l x):∀k,bV d=H k->k<z (G a):=λk e=>(aI h k e).2
def CR{α β:Type}(K:α->β->Prop){b:α}{c:β}{a:Prop}(h:K b c->a)(k:K b c):a:=h k
def Vx{l m n o p k q a' b' c' d' e' g':aa}{t:TypeId}{c:M×M}(r:a.heap[b]?=H (ar #[l,m,n,o,p,k,q] t c)):(bZ (bZ (bZ (bZ (bZ (bZ a (R b 0) a') (R b 1) b') (R b 2) c') (R b 3) d') (R b 4) e') (R b 6) g').heap[b]?=H (ar #[a',b',c',d',e',k,g'] t c):=by
 have d:=aR (i:=0) (u:=a') r;have e:=aR (i:=1) (u:=b') d;have f:=aR (i:=2) (u:=c') e;have g:=aR (i:=3) (u:=d') f;have h:=aR (i:=4) (u:=e') g;have j:=aR (i:=6) (u:=g') h;rw[j];simp
def Ij{e n D L:M}{S K V m0:Z}(o:lR a b (fp none) S K V m0 B P e d (bO 0 k))(p:Y (λh=>h=l) a f)(i:rG f C c j O)(hv:vw O.files=vw j.files++[(gI g,mu k)])(hn:y O.eM=y j.eM+1)(v:C.heap[b]?=H (ar #[fp none,aH S,dq K,dq V,dq m0,bD B P (y<|bO 0 k) e,bD l 0 D n] 293 (0,0)))(F:¬j.bj c b)(w:¬j.bj c B)(x:B≠b)(A:B≠l)(hD:y (dG k)=D)(hL:y (fa<|bO 0 k)=L)(Q:b<z (G a)):∃u,cK (bZ (bZ (bZ (bZ (bZ (bZ C (R b 0)<|aA c) (R b 1)<|aH g) (R b 2)<|dq D) (R b 3)<|dq L) (R b 4)<|dq<|mr<|fa<|bO 0 k) (R b 6) aK).drew c u/\Y (λh=>j.bj c h\/h=b\/h=l) a (bZ (bZ (bZ (bZ (bZ (bZ C (R b 0)<|aA c) (R b 1)<|aH g) (R b 2)<|dq D) (R b 3)<|dq L) (R b 4)<|dq<|mr<|fa<|bO 0 k) (R b 6) aK).drew/\(∀h,u.bj c h->j.bj c h\/z (G a)<=h)/\vw u.files=vw j.files++[(gI g,mu k)]/\y u.eM=y j.eM+1/\lR (bZ (bZ (bZ (bZ (bZ (bZ C (R b 0)<|aA c) (R b 1)<|aH g) (R b 2)<|dq D) (R b 3)<|dq L) (R b 4)<|dq<|mr<|fa<|bO 0 k) (R b 6) aK).drew b (aA c) g (y<|dG k) (y<|fa<|bO 0 k) (mr<|fa<|bO 0 k) B P e aK (bO 0 k):=by
 have t:=p.size;have q:=Vx (a':=aA c) (b':=aH g) (c':=dq D) (d':=dq L) (e':=dq<|mr<|fa<|bO 0 k) (g':=aK) v;have E:Y (λh=>h=b) C (bZ (bZ (bZ (bZ (bZ (bZ C (R b 0)<|aA c) (R b 1)<|aH g) (R b 2)<|dq D) (R b 3)<|dq L) (R b 4)<|dq<|mr<|fa<|bO 0 k) (R b 6) aK):=(((((((Y.refl (λh=>h=b) C).setCell b 0 _<|.inl rfl).setCell b 1 _<|.inl rfl).setCell b 2 _<|.inl rfl).setCell b 3 _<|.inl rfl).setCell b 4 _<|.inl rfl).setCell b 6 _<|.inl rfl);generalize(bZ (bZ (bZ (bZ (bZ (bZ C (R b 0)<|aA c) (R b 1)<|aH g) (R b 2)<|dq D) (R b 3)<|dq L) (R b 4)<|dq<|mr<|fa<|bO 0 k) (R b 6) aK)=wf at*;have m:Y (λh=>h=b) C wf.drew:=E.of_heap rfl;have r:∀h,O.bj c h->j.bj c h\/z (G a)<=h:=λh s=>(i.bj h s).elim .inl (λW=>.inr<|by omega);refine⟨O,i.ok.aw m<|λh s N=>?_,?_,r,hv,hn,?_,?_,o.ne,o.le,o.small⟩;rcases r h s with W|W;exact F<|N▸W;omega;exact((p.mono (T:=λh=>j.bj c h\/h=b\/h=l)<|λh N=>.inl<|.inr<|.inr N).trans i.aw<|λh s=>.inl<|.inl s).trans m<|λh N=>.inl<|.inr<|.inl N;rw[hD,hL];exact q;intro ac ad hj;have X:=p.cell (o.cells ac ad hj) A o.lt.2;have h2:=i.aw.cell X w<|ag o.lt.2 t;exact m.cell h2 x<|ag o.lt.2<|aE t i.aw.size
def Ik(br:M)(hu:br<18446744073709551616){n0 c0 s0 m0:Z}(E d:M)(k:dW)(h:lR a b (fp none) n0 c0 s0 m0 g l B (bD E 0 (y<|dG k) d) (bO 0 k))(hd:eH a P (bD E 0 (y<|dG k) d) (dG k))(hb:P<=z (G a))(hP:JN (bO 0 k))(co:kA (dG k))(hT:Steps a)(al:Pow a)(fr:y (dG k)<=100000)(A:cK a c j)(hg:dX (vw j.files) (gI br)=none)(hn:y j.eM<=1000000000000)(bl:ij (vw j.files)+200000<=1099511627776)(cE:¬j.bj c E)(bn:¬j.bj c b)(em:¬j.bj c g)(en:g≠b)(eo:g≠E):cy bG 140 #[aA b,aA c,aH br] a λau w'=>au=aO .nilIface/\∃K',cK w' c K'/\Y (λV=>j.bj c V\/V=b\/V=E) a w'/\(∀V,K'.bj c V->j.bj c V\/z (G a)<=V)/\vw K'.files=vw j.files++[(gI br,mu k)]/\y K'.eM=y j.eM+1/\lR w' b (aA c) br (y<|dG k) (y<|fa<|bO 0 k) (mr<|fa<|bO 0 k) g l B aK (bO 0 k):=by
 have p:∀V∈bO 0 k,V.Fits:=λV hk=>(hP.can V hk).fits;have fd:=hP.len;have cx:=IB (bO 0 k) g l B a h.lt.2 h.cells (by omega) p;have fs:y (fa<|bO 0 k)<=52004:=by have h1:=lq p;unfold fa;rw[af,bY];omega
 have cn:0<y (fa<|bO 0 k):=by unfold fa;rw[af,bY];omega
 have ad:kA (fa<|bO 0 k):=(kA.le 4 _).append<|Jc p;have f:=h.box;have t0:=cellAt f 0 rfl;have t5:=cellAt f 5 rfl;have t6:=cellAt f 6 rfl;obtain⟨i0,eq,ev,ex,ey⟩:=cz qh;obtain⟨D,W⟩:∃D,y (dG k)=D:=⟨_,rfl⟩;obtain⟨ba,hL⟩:∃ba,y (fa<|bO 0 k)=ba:=⟨_,rfl⟩;have e1:=sL (n:=(D:M)) (by omega) (by omega);have e2:=sL (n:=(ba:M)) (by omega) (by omega);have cb:=U (show∀v1 o,eH o (z<|G a) v1 (fa<|bO 0 k)->Y aB a o->∃F xc,v1=bD F 0 ba xc/\z (G a)<=F/\F<z (G o)/\aT o (R b 6)=H (bD E 0 D d)/\b<z (G o)/\(∀eu,Y aB o eu->cy bG 188 #[bD F 0 ba xc] eu λau w'=>au=aO (dq<|mr<|fa<|bO 0 k)/\w'=eu)from by intro v1 o ho ht;obtain⟨F,xc,rfl,a1,a2,_⟩:=um ho cn;rw[<-hL,<-W];refine⟨F,xc,rfl,a1,a2,ht.cell t6 id<|ak f,ag (ak f) ht.size,λeu hW=>?_⟩;have es:=ht.ci hW;exact sk _ (fa<|bO 0 k) eu (hT.below (es.below (ah _) cG) hT.lt) (eH.bytes<|hW.own ho<|λ_ _ cc=>cc)<|by omega);have dm:=U h;clear h;rw[W]at t6;go_in
 go_wp2_with fail
 apply cx.mono;rintro au o⟨v1,rfl,bi,bm⟩;obtain⟨F,xc,rfl,y0,y1,y2,y3,C⟩:=cb v1 o bi bm;have bx:=U bi;have ax:=U bm;have m:=ak f;have ao:¬b=E:=λau=>by obtain⟨_,hc⟩:=fD hd (k:=E) rfl;exact io f hc (by decide) au
 clear bi bm t0 t5 cx;go_wp2_with fail
 rename_i QQ KK u;apply CR KK
 .intro bq;go_region_held3(λt=>aT t (R b 6)=H (bD E 0 D d)) (first|assumption|go_keep) (first
   |(go_at_call 188;refine(C o.drew<|cf _ _).mono ?_;rintro au w2⟨rfl,eu⟩;subst w2;have es:aT o.drew (R b 6)=H (bD E 0 D d):=y2)
   |(go_at_call 188;refine(C (ct o (.cells #[.int .u64 0,.int .u32 0,.int .u32 0,.int .u32 0] 266)).drew (((Y.refl _ o).alloc _).of_heap rfl)).mono ?_;rintro au w2⟨rfl,eu⟩;subst w2;have es:aT (ct o (.cells #[.int .u64 0,.int .u32 0,.int .u32 0,.int .u32 0] 266)).drew (R b 6)=H (bD E 0 D d):=(by rw[bB,fm y3];exact y2)))
  all_goals exact bq
 apply u;clear u C;have L:∃K,(ct o<|ar #[aH br,dq D,dq ba,dq<|mr<|fa<|bO 0 k] 266).drew=K/\Y aB a K/\K.heap[z<|G o]?=H (ar #[aH br,dq D,dq ba,dq<|mr<|fa<|bO 0 k] 266 (0,0))/\eH K (z<|G a) (bD F 0 ba xc) (fa<|bO 0 k):=⟨_,rfl,(ax.alloc _).of_heap rfl,aD _ rfl,bx.alloc _⟩;obtain⟨K,L,q,bf,cu⟩:=L;rw[L];have fu:z (G a)<=z (G o):=ax.size;generalize z (G o)=r at*;clear L bx ax cb y2 y3;have ff:=q.size;have el:=hT.below (q.below (ah _) cG) hT.lt;have hS:aT K.drew (R b 6)=H (bD E 0 D d):=by rw[bB];exact q.cell t6 id m
 go_wp2_with fail
 rename_i QQ KK u;refine cJ (λt=>aT t (R b 6)=H (bD E 0 D d)) 10 (by kernel_rfl) ?_;refine dA 0 ?_;iterate 2 (refine fw (v:=?_) hS rfl (by kernel_rfl) jU rfl ?_ ?_;rotate_left;(focus(intro t hX;go_simp;try rfl));simp only[Act.put,du,Nat.reduceAdd])
 apply eX;refine dA 3 ?_;iterate 5 (refine fw (v:=?_) hS rfl (by kernel_rfl) jU rfl ?_ ?_;rotate_left;(focus(intro t hX;go_simp;try rfl));simp only[Act.put,du,Nat.reduceAdd])
 apply eX;refine aP (i:=2) rfl rfl (by kernel_rfl) ?_;intro K2 cd;go_simp;have hx:=Xj hd E rfl;have an:Pow K.drew:=al.aw (q.of_heap rfl) id;apply(AV br hu an).mono;rintro au W3⟨rfl,w⟩;have N:Y aB a W3:=(q.of_heap (c:=K.drew) rfl).ci<|Y.aW (S:=aB) w;have et:=w.size;have fx:z (G K)<=z (G W3):=et;have ck:aT W3 (R b 6)=H (bD E 0 D d):=N.cell t6 id m;have bg:W3.heap[r]?=H (ar #[aH br,dq D,dq ba,dq<|mr<|fa<|bO 0 k] 266 (0,0)):=(w.block r<|ak bf).trans bf;have cv:eH W3 (z<|G a) (bD F 0 ba xc) (fa<|bO 0 k):=(Y.aW (S:=aB) w).own cu<|λ_ _ cc=>cc;have cm:eH W3 P (bD E 0 D d) (dG k):=by rw[<-W];exact N.own hd<|λ_ _ cc=>cc
 refine cd _ _ (λ_=>ck) ?_;refine aP (i:=8) rfl rfl (by kernel_rfl) ?_;intro K8 ce;simp only[dj,cD,cO];refine kF (.tmp 34) (.tmp 35) 126 rfl P 5 i0 (tC 0) 1 1 underlying126 eq ev ex ey rfl (by decide) (bD E 0 D d) D ((dG k).map<|Value.int .u8) rfl (by have h0:=cm;unfold eH at h0;rw[W]at h0;exact h0) (R F 0) ba xc ((fa<|bO 0 k).map<|Value.int .u8) rfl (by rw[cU,hL,rf]) (tu cv.bytes) (by intro br hu;simp only[aZ]at hu;obtain⟨fb,_,rfl⟩:=hu;rfl) (by omega) (by omega) (by omega) ?_;intro v4 w4 bk bo;have bd:eH w4 P v4 (mu k):=eH.of bk (by unfold mu;rw[af,W,hL]) (by unfold mu;rw[aM]);have Q:=Y.fy bo;obtain⟨yb,yc,rfl,g1,g2,g3⟩:=um bk (by omega);have O:Y (λV=>V=E) a w4:=(N.mono (T:=λV=>V=E) cG).trans Q (λV hk=>by simp[bV]at hk;exact .inl hk.symm);have bc:aT w4 (R b 6)=H (bD E 0 D d):=O.cell t6 (λau=>ao au) m;have cp:w4.heap[r]?=H (ar #[aH br,dq D,dq ba,dq<|mr<|fa<|bO 0 k] 266 (0,0)):=(Q.block r (ak bg) (λau=>by simp[bV]at au;omega)).trans bg;have ac:cK w4 c j:=A.aw O<|λV hk au=>cE<|au▸hk;have bb:D+ba=y (mu k):=by unfold mu;rw[af,W,hL]
 have cM:¬j.bj c yb:=by intro cc;rcases bo.uc with es|⟨fb,es,hy⟩;simp[bV]at es;subst es;exact cE cc;simp[bV]at es;subst es;have:=A.lt _ cc;omega
 have bp:=Gf (db:=c) (K:=j) (gI br) yb 0 yc (bs:=(mu k)) (w:=w4) ac hg hn (by omega) (co.append ad) (Bytes.cells (by rw[<-bb];exact bd.bytes)) g2 cM;rw[<-bb]at bp;obtain⟨dk,ds,av,s⟩:=gx bd Q cp O;clear bb cM bk bo bd Q cp O g1 g2 g3 cm cv bg ck w;refine ce _ _ (λ_=>bc) ?_;simp only[Act.put,du];refine aP (i:=9) rfl rfl (by kernel_rfl) ?_;intro K9 ch;go_simp;apply bp.mono;rintro au w5⟨rfl,K5,x,cB,cs⟩;have cl:aT w5 (R b 6)=H (bD E 0 D d):=x.aw.cell bc bn<|ag m s.size;refine ch _ _ (λ_=>cl) ?_;refine aP (i:=10) rfl rfl (by kernel_rfl) ?_;intro fl X;go_simp;refine X _ _ yR ?_;refine dp (by kernel_rfl) ?_ _;show KK _ _;apply u;clear u cd ce ch X;have e:w5.heap[b]?=H (ar #[fp none,aH n0,dq c0,dq s0,dq m0,bD g l (y<|bO 0 k) B,bD E 0 D d] 293 (0,0)):=by rw[<-W];exact(x.aw.block b (ag m s.size) bn).trans<|(s.block b m ao).trans f
 have bh:w5.heap[r]?=H (ar #[aH br,dq D,dq ba,dq<|mr<|fa<|bO 0 k] 266 (0,0)):=(x.aw.block r (ak av) (λcc=>by have:=A.lt _ cc;omega)).trans av;have hQ:(aT w5.drew (R r 0)=H (aH br)/\aT w5.drew (R r 1)=H (dq D)/\aT w5.drew (R r 2)=H (dq ba)/\aT w5.drew (R r 3)=H (dq<|mr<|fa<|bO 0 k)):=by simp only[bB];refine⟨?_,?_,?_,?_⟩<;>(rw[bN bh];rfl)
 obtain⟨bT,dn,bt,ca,bv,fk⟩:=kG e bh x cB cs A;clear bh x cB cs A f hd hS bc cl t6 hg hn bl hT al an el q N bf cu bp ac co ad hP;obtain⟨cT,db,dc,dd⟩:=hQ;simp only[bB]at cT db dc dd;have dx:=cellAt e 0 rfl;have dT:=cellAt e 1 rfl;have ea:=cellAt e 2 rfl;have eb:=cellAt e 3 rfl;have ec:=cellAt e 4 rfl;have ed:=cellAt e 6 rfl;have ee:=dK (i:=0) e;have ef:=dK (i:=1) e;have eg:=dK (i:=2) e;have ei:=dK (i:=3) e;have ej:=dK (i:=4) e;have ek:=dK (i:=6) e;have fv:r≠b:=by omega
 have fe:b≠r:=by omega
 clear e;go_wp2_with fail
 rename_i fn dv cj;apply CR dv;(.intro bq;(go_region);all_goals exact bq);refine cj _ _ ?_;have bu:=U<|Ij dm s bt ca bv bT bn em en eo W hL m;clear dx dT ea eb ec ed ee ef eg ei ej ek cT db dc dd bT dn bt ca bv s av dk ds;go_wp2;go_ret;exact⟨rfl,bu⟩
def Kb(F:M)(hu:F<18446744073709551616)(d:dW)(X:JN (bO 0 d))(hT:Steps a)(C:Pow a)(bs:y (dG d)<=100000)(ba:¬j.bj b 1)(E:cK a b j)(hg:dX (vw j.files) (gI F)=H (mu d)):cy bG 150 #[aA b,Ev F (y<|dG d) (y<|fa<|bO 0 d)<|mr<|fa<|bO 0 d] a λbg m=>
 ∃e i c,bg=aO (dB #[aA e,.nilIface])/\lR m e (aA b) F (y<|dG d) (y<|fa<|bO 0 d) (mr<|fa<|bO 0 d) i 0 c aK (bO 0 d)/\z (G a)<=e/\z (G a)<=i/\∃f,rG a m b j f/\f.files=j.files/\f.eM=j.eM/\∀O,f.bj b O->j.bj b O:=by
 have o:∀O∈bO 0 d,O.Fits:=λO hk=>(X.can O hk).fits
 have an:=X.len
 have bv:=X.ne
 have bu:y (fa<|bO 0 d)<=52004:=by
  have h1:=lq o;unfold fa;rw[af,bY];omega
 have A:0<y (fa<|bO 0 d):=by unfold fa;rw[af,bY];omega
 have ax:=zf d 0
 have bt:y (mu d)=y (dG d)+y (fa<|bO 0 d):=by unfold mu;rw[af]
 have hcut:((mu d).drop<|y<|dG d).take (y<|fa<|bO 0 d)=fa (bO 0 d):=by unfold mu;simp
 obtain⟨cd,hF,u⟩:=js hg
 obtain⟨P,hD⟩:∃P,y (dG d)=P:=⟨_,rfl⟩
 obtain⟨L,K⟩:∃L,y (fa<|bO 0 d)=L:=⟨_,rfl⟩
 obtain⟨bf,hc⟩:∃bf,mr (fa<|bO 0 d)=bf:=⟨_,rfl⟩
 have e1:IntKind.i64.wrap (P:Z)=P:=by rw[bQ];omega
 have e2:IntKind.i64.wrap (L:Z)=L:=by rw[bQ];omega
 have bo:=U (show∀g,Y aB a g->cy bG 154 #[aA b,ai<|gI F,ap P,ap L] g λbg m=>∃s t,bg=aO (dB #[bD s 0 L t,.nilIface])/\eH m (z<|G g) (bD s 0 L t) (fa<|bO 0 d)/\Y (j.bj b) g m/\∃f,rG a m b j f/\f.files=j.files/\f.eM=j.eM/\∀O,f.bj b O->j.bj b O from by
  intro g r;have ad:=E.aw r (λ_ _=>id);refine(Be (gI F) cd P L ad hF (by rw[u];omega) (by rw[u];omega) (by omega)).mono ?_;rintro bg m⟨v',rfl,N,f,n,h1,h2,h3⟩;rw[u,<-hD,<-K,hcut]at N;obtain⟨s,t,rfl,a1,a2,_⟩:=um N A;rw[K]at N|-;exact⟨s,t,rfl,N,n.aw,f,⟨n.ok,(r.mono (T:=j.bj b) cG).trans n.aw (λ_ h=>.inl h),λO hk=>.inl (h3 O hk)⟩,h1,h2,h3⟩)
 have bp:=U (show∀w s t g(f:DK),rG a w b j f->eH w g (bD s 0 L t) (fa<|bO 0 d)->cy bG 213 #[bD s 0 L t,eC #[aH F,dq P,dq L,dq bf]] w λbg m=>
  ∃i c,bg=aO (dB #[bD i 0 (y<|bO 0 d) c,aL bW])/\z (G w)<=i/\lR (ct m<|ar #[aA b,aH F,dq P,dq L,dq bf,bD i 0 (y<|bO 0 d) c,aK] 293) (z<|G m) (aA b) F P L bf i 0 c aK (bO 0 d)/\Y aB w m from by
   intro w s t g f n N;have bb:Steps w:=λO hk=>n.aw.cell (hT O hk) ba hT.lt;have ad:=eH.bytes N;rw[<-K]at ad;have v:=Dq s 0 t F bb X ad;rw[ax,hD,K,hc]at v;apply v.mono;rintro bg m⟨v',rfl,au,bT⟩;obtain⟨i,c,rfl,a1,a2,a3⟩:=um au (by omega);refine⟨i,c,rfl,a1,⟨aD _ rfl,?_,by omega,a3,by omega⟩,bT⟩;intro ch cj hj;obtain⟨h1,⟨h2,h0⟩|⟨b',cc,ca,h2,_,br⟩⟩:=dH<|aS au<|ar #[aA b,aH F,dq P,dq L,dq bf,bD i 0 (y<|bO 0 d) c,aK] 293
   .omega
   .cases h2;exact br ch cj hj)
 have cb:∀(x:Bool)(a:I),(Op.unary .not<|aL x).run bG a=.ok (aL<|!x) a:=λ_ _=>rfl
 have HPow:=U C
 have bi:=U E
 unfold Ev
 rw[hD,K,hc]
 clear X hT C bs ba E hg o bu A ax bt hcut hF u hD K hc an bv
 generalize y (bO 0 d)=ce at*
 go_in
 go_wp2_with fail
 apply(AV F hu<|HPow.aw ((Y.refl aB a).alloc _) id).mono
 rintro bg w2⟨rfl,D⟩
 have p:w2.heap[z<|G a]?=H (ar #[aH F,dq P,dq L,dq bf] 266 (0,0)):=(D.block _<|by simp).trans<|aD _ rfl
 have r:Y aB a w2:=((Y.refl aB a).alloc _).ci<|Y.aW (S:=aB) D
 have c0:=cellAt p 0 rfl
 have c1:=cellAt p 1 rfl
 have c2:=cellAt p 2 rfl
 have bx:=bo w2 r
 have Q:=U p
 clear p r D
 go_wp2_with fail
 apply bx.mono
 rintro bg w⟨s,t,rfl,av,bc,K3,e,al,B,x⟩
 have ao:¬j.bj b (z<|G a):=λbf=>by have:=bi.lt _ bf;omega
 have k:=(bc.block _ (ak Q) ao).trans Q
 have d0:=cellAt k 0 rfl
 have d1:=cellAt k 1 rfl
 have d2:=cellAt k 2 rfl
 have d3:=cellAt k 3 rfl
 have v:=bp w s t _ K3 e av
 obtain⟨V,bh,bk,bn,bl⟩:=jP k e al B x
 clear k e al B x av bc ao
 go_wp2_with fail
 apply v.mono
 rintro bg w4⟨i,c,rfl,bq,ac,l⟩
 have q:=(l.block _ (ak V) id).trans V
 have g0:=cellAt q 0 rfl
 have g1:=cellAt q 1 rfl
 have g2:=cellAt q 2 rfl
 have g3:=cellAt q 3 rfl
 have bm:=U ac
 have W:=U l
 clear ac l q
 go_wp2
 go_ret2
 have e:=ae bh
 have bd:=e.aw.size
 have l:=W.alloc<|ar #[aA b,aH F,dq P,dq L,dq bf,bD i 0 ce c,aK] 293
 refine⟨z<|G w4,i,c,rfl,bm,aE bd W.size,aE bd bq,K3,?_,bk,bn,bl⟩
 exact⟨e.ok.aw l<|λ_ _=>id,e.aw.ci l,e.bj⟩
structure bJ where
 tb:M
 ks:mw
 cs:dW
 num:M
abbrev cP:=cr bJ
variable{S:bJ}
def bJ.ptr(t:bJ):aa:=aA t.tb
def bJ.all(t:bJ):cA:=t.cs.flatten
def iW(a:mw):ab:=(a.head?.map qR.first).getD ⟨#[]⟩
def EE(h:0<y A):iT A=(A[y A-1]'(by omega)).last:=by
 unfold iT;rw[List.getLast?_eq_getElem?,aG<|by omega];rfl
def Bw(h:0<y A):iW A=(A[0]'h).first:=by
 unfold iW;cases A with
 |nil=>simp at h
 |cons k r=>rfl
def PN(w:I)(t:bJ):Prop:=∃h b cut c f g d a e,lR w t.tb h b cut c f g d a e t.ks
def PN.first{t:bJ}(n:PN a t):cy bG 175 #[t.ptr] a λm j=>m=aO (ai<|iW t.ks)/\j=a:=by
 obtain⟨l,c,cut,d,i,k,e,b,h,g⟩:=n;rw[Bw g.ne];exact RQ g
def PN.last{t:bJ}(m:PN a t):cy bG 176 #[t.ptr] a λl i=>l=aO (ai<|iT t.ks)/\∃q,i=a.drewN q:=by
 obtain⟨k,c,cut,d,h,j,e,b,g,f⟩:=m;rw[EE f.ne];exact Ud f
def lR.de{w w':I}{a cut e f:Z}(h:lR w b d a cut e f c g l s A)(i:w'.heap[b]?=w.heap[b]?)(j:w'.heap[c]?=w.heap[c]?):lR w' b d a cut e f c g l s A:=⟨i.trans h.box,λm u k=>(cH (w:=w) j).trans<|h.cells m u k,h.ne,h.le,h.small⟩
def PN.of_heap{w w':I}(n:PN w S)(m:w'.heap=w.heap):PN w' S:=by
 obtain⟨k,d,cut,e,i,j,g,b,h,l⟩:=n;exact⟨k,d,cut,e,i,j,g,b,h,l.de (by rw[m])<|by rw[m]⟩
def PN.below(m:PN a S)(j:Below (z<|G a) a f):PN f S:=by
 obtain⟨l,c,cut,d,i,k,e,b,g,h⟩:=m;exact⟨l,c,cut,d,i,k,e,b,g,h.de (j.block _ h.lt.1)<|j.block _ h.lt.2⟩
structure kZ(w:I)(v:aa)(ts:cr bJ):Prop where
 row:Row w 1 v (y ts) (ts.map bJ.ptr)
 lt:∀k,bV v=H k->k<z (G w)
 each:∀t∈ts,PN w t
 small:y ts<=1000000000
def kZ.below{e:cr bJ}(h:kZ a d e)(b:Below (z<|G a) a f):kZ f d e:=by
 refine⟨(Y.aW (S:=aB) b).row h.row<|λk c=>⟨id,h.lt k c⟩,λk c=>ag (h.lt k c) b.size,λt g=>(h.each t g).below b,h.small⟩
def AK(a:cr bJ):Prop:=a.Pairwise<|λb c=>ic (iT b.ks) (iT c.ks)=bW
def Lj{k bk:M}{c:cr bJ}(f:ab)(h:kZ a d c)(o:dV a k d 105)(n:dV a bk (ai f) 9)(i:M)(m:i<y c):cy bG 260 #[ap i,aA k,aA bk] a λs j=>s=aO (aL<|!ic (iT c[i].ks) f)/\∃q,j=a.drewN q:=by
 obtain⟨g,⟨_,B⟩|⟨w,e,r,rfl,_,l⟩⟩:=h.row;omega;have u:aT a (R w<|e+i)=H c[i].ptr:=by refine l i _ ?_;rw[dz,aG m];rfl
 have b:∀W,W.heap=a.heap->cy bG 176 #[c[i].ptr] W λs j=>s=aO (ai<|iT c[i].ks)/\∃q,j=W.drewN q:=λW e=>((h.each _<|aq m).of_heap e).last;have c1:=o.cell;have c2:=n.cell;have t:=Jg;have v:=h.small;have x:(i:Z)<(y c:Z):=by omega
 have A:(0:Z)<=(i:Z):=by omega
 unfold ic;unfold bJ.ptr at u b;generalize iT c[i].ks=C at*;generalize c[i].tb=p at*;clear h o n g l;go_in
 go_wp2_with fail
 go_quiet(first|(go_at_call 176;refine Calls.quiet_of (b _ rfl)))
 go_wp2;go_ret;exact⟨rfl,nq,rfl⟩
variable{i p u:cP}
def tD.Yn(h:tD A k):0<y A:=by rw[h.len];exact h.ne
def tD.xC(h:tD A k):∃x∈k.flatten,x.key=iT A:=by
 have b:=h.Yn;have a:y A-1<y k:=by have:=h.len;omega
 have o:=h.Ee (y A-1) (by omega) a;have n:=o.ne;exact⟨_,bz.2 ⟨_,aq a,aq<|show y k[y A-1]-1<y k[y A-1]by omega⟩,by rw[EE b,o.last]⟩
def tD.He(h:tD A k):∃x∈k.flatten,x.key=iW A:=by
 have b:=h.Yn;have a:0<y k:=by have:=h.len;omega
 have o:=h.Ee 0 (by omega) a;exact⟨_,bz.2 ⟨_,aq a,aq o.ne⟩,by rw[Bw b,o.first]⟩
def tD.CY(h:tD A k)(f:w∈k.flatten):ic (iT A) w.key=bF:=by
 have e:=h.Yn;have b:y A-1<y k:=by have:=h.len;omega
 have o:=h.Ee (y A-1) (by omega) b;obtain⟨j,c,a⟩:=bz.1 f;obtain⟨i,d,rfl⟩:=dO c;rw[EE e,o.last];rcases dF i (y A-1)with g|g;exact lI<|cw.1 h.CS i _ d b g w a _<|aq (by have:=o.ne;omega);(have:i=y A-1:=by have:=h.len;omega);subst this;exact dQ.CX (h.mq.sub<|cN<|aq b) o.ne a
def tD.xJ(h:tD A k)(g:w∈k.flatten):ic w.key (iW A)=bF:=by
 have f:=h.Yn;have b:0<y k:=by have:=h.len;omega
 have o:=h.Ee 0 (by omega) b;obtain⟨j,c,a⟩:=bz.1 g;obtain⟨i,e,rfl⟩:=dO c;rw[Bw f,o.first];rcases fT i with d|d;subst d;exact dQ.xJ (h.mq.sub<|cN<|aq b) o.ne a;exact lI<|cw.1 h.CS 0 i b e d _ (aq o.ne) w a
def cg(a:cP):cA:=(a.map bJ.all).flatten
def yA(t:bJ)(a:cP):cg (t::a)=t.all++cg a:=by simp[cg]
def eL(a b:cP):cg (a++b)=cg a++cg b:=by simp[cg]
def lk:w∈cg i↔∃t∈i,w∈t.all:=by
 unfold cg;constructor;intro h;obtain⟨d,c,b⟩:=bz.1 h;obtain⟨t,a,rfl⟩:=aZ.1 c;exact⟨t,a,b⟩;rintro⟨t,a,b⟩;exact bz.2 ⟨_,aZ.2 ⟨t,a,rfl⟩,b⟩
structure ly(ts:cP):Prop where
 pure:∀t∈ts,tD t.ks t.cs
 mq:dQ (cg ts)
 CS:(ts.map bJ.all).Pairwise gQ
def ly.pair(j:ly i)(e:b<y i)(f:c<y i)(d:b<c){a:E}(g:w∈i[b].all)(h:a∈i[c].all):ic w.key a.key=bW:=by
 exact cw.1 j.CS b c (by simpa using e) (by simpa using f) d w (by simpa using g) a<|by simpa using h
def ly.An(h:ly i):AK i:=by
 refine cw.2<|λk l b c a=>?_;obtain⟨x,f,d⟩:=(h.pure _<|aq b).xC;obtain⟨j,g,e⟩:=(h.pure _<|aq c).xC;rw[<-d,<-e];exact h.pair b c a f g
def ly.each(h:ly i)(a:S∈i):dQ S.all:=h.mq.sub<|cN<|aZ.2 ⟨S,a,rfl⟩
structure qn(ts:cP)(key:ab)(k:M):Prop where
 le:k<=y ts
 low:∀i(hi:i<y ts),i<k->ic (iT ts[i].ks) key=bW
 uZ:∀i(hi:i<y ts),k<=i->ic (iT ts[i].ks) key=bF
def ly.Bu(p:ly i)(c:ab)(m:qn i c b):(((i.drop b).map bJ.all).map<|fR c).flatten=fR c (cg i):=by
 have e:cg i=cg (i.take b)++cg (i.drop b):=by rw[<-eL,bX]
 have f:fR c (cg<|i.take b)=[]:=by unfold fR;rw[gN];intro x n;obtain⟨t,l,d⟩:=lk.1 n;obtain⟨o,k,rfl⟩:=dO l;rw[gq]at d;(have a:o<b/\o<y i:=by simp at k;omega);have h:=m.low o a.2 a.1;have j:=(p.pure _<|aq a.2).CY d;rw[xD j h];simp
 have g:∀l:dW,(l.map<|fR c).flatten=fR c l.flatten:=by
  intro l;induction l with
  |nil=>rfl
  |cons d r a=>simp only[aY,aX,a];unfold fR;rw[iV]
 rw[g,e];unfold fR at*;rw[iV,f,cC];rfl
def ly.Ax(l:ly i)(h:qn i v b)(x:E)(n:x∈cg i)(d:x.key=v):∃r:b<y i,x∈i[b].all:=by
 obtain⟨t,j,c⟩:=lk.1 n;obtain⟨q,e,rfl⟩:=dO j;have f:=(l.pure _ j).CY c;rcases kB q b with g|g|g;have:=xD f<|h.low q e g;rw[d,fj]at this;cases this;subst g;exact⟨e,c⟩;(have a:b<y i:=by omega);obtain⟨p,o,k⟩:=(l.pure _<|aq a).xC;have m:=h.uZ b a<|ah _;have:=l.pair a e g o c;rw[k,d,m]at this;cases this
def ly.yw(h:ly i)(b:qn i v (y i))(d:Z):iA d (cg i) v=none:=by
 refine qY<|λx c a=>?_;obtain⟨e,_⟩:=h.Ax b x c a;omega
def ly.Bx(h:ly p)(f:qn p v b)(d:b<y p)(e:Z):iA e (cg p) v=iA e p[b].all v:=by
 have:=Ay (cs:=p.map bJ.all) (k:=v) (i:=b) (by simpa using d) (λx g c=>by obtain⟨_,a⟩:=h.Ax f x g c;exact⟨by simpa using d,by simpa using a⟩) h.CS e;unfold cg;simpa using this
def zt(b:ab)(h:kZ a s i)(X:AK i):cy bG 223 #[s,ai b] a λT w'=>∃p:M,T=aO (ap p)/\qn i b p/\Below (z<|G a) a w':=by
 have L:Below (z<|G a) a (ct (ct a<|ar #[s] 105)<|ar #[ai b] 9):=((Below.refl _ a).alloc (ah _) _).alloc (by simp) _;have W:=h.below L;have P:=h.small
 have w:=zg (f:=260) #[aA<|z<|G a,aA<|z (G a)+1] (y i) (λg=>if e:g<y i then !ic (iT i[g].ks) b else bW) (ct (ct a<|ar #[s] 105)<|ar #[ai b] 9) (enters_of func260 (by kernel_rfl) rfl) (by omega) (by
  intro ad D K v A;have u:ad<y i:=by omega
  simp only[v,u,oE]at A|-;rcases lf K with E|E
  .have m:=cw.1 X ad D u v E;cases d:ic (iT i[D].ks) b with
   |false=>rfl
   |true=>have:=lH m d;rw[this]at A;cases A
  .subst E;exact A)
  (by
   intro g e ac m;have F:=W.below m;have N:dV ac (z (G a)) s 105:=(m.block _ (by simp;omega)).trans (dV.alloc (aD _ rfl) _);have O:dV ac (z (G a)+1) (ai b) 9:=(m.block _ (by simp)).trans (aD _ (by simp));apply(Lj b F N O g e).mono;rintro T W'⟨rfl,q,rfl⟩;simp only[e,oE];exact⟨trivial,below_drewN (Below.refl _ _) _⟩)
 have r:=U w;have x:=U L;have hv:=h.row.2;clear w W L h X;have Q:(s=aK/\y i=0)\/∃D c j,s=bD D c (y i) j:=by rcases hv with E|⟨D,c,j,E,_⟩;exact .inl E;exact .inr ⟨D,c,j,E⟩
 clear hv;have l:∀(T:Ending)(S:I)(p:M),p<=y i->(∀g,g<p->(if e:g<y i then !ic (iT i[g].ks) b else bW)=bF)->(∀g,p<=g->g<y i->(if e:g<y i then !ic (iT i[g].ks) b else bW)=bW)->qn i b p:=by intro T S p k n o;refine⟨k,λg e m=>?_,λg e m=>?_⟩;have:=n g m;simp only[e,oE]at this;simpa using this;have:=o g m e;simp only[e,oE]at this;simpa using this
 rcases Q with⟨rfl,V⟩|⟨D,c,j,rfl⟩;(.obtain rfl:i=[]:=aQ V;clear l V P;(go_in);(go_wp2_with(go_at_call 224;refine r.mono ?_;rintro T S⟨p,rfl,k,n,o,t⟩;have B:=U k;have C:=U t;clear k n o t));go_ret;have k:=ae B;refine⟨p,rfl,⟨k,λg e=>absurd e<|gG g,λg e=>absurd e<|gG g⟩,x.trans<|C.mono x.size⟩);(go_in);(go_wp2_with(go_at_call 224;refine r.mono ?_;rintro T S⟨p,rfl,k,n,o,t⟩;have B:=U k;have m:=U n;have u:=U o;have C:=U t;clear k n o t));go_ret;exact⟨p,rfl,l (aO .nilIface) a p B m u,x.trans<|C.mono x.size⟩
structure sh(V:jj)(n0:M)(v:aa)(ts:cP)(w:I):Prop where
 row:Row w 1 v (y ts) (ts.map bJ.ptr)
 loc:∀k,bV v=H k->k<n0/\¬V.F k
 each:∀t∈ts,nE V n0 t.tb t.ks t.cs w
 side:ly ts
 small:y ts<=1000000000
def nE.SS(l:nE r b S.tb S.ks S.cs a):PN a S:=by
 obtain⟨j,d,cut,e,h,i,f,c,g,k,_⟩:=l.mem;exact⟨j,d,cut,e,h,i,f,c,g,k⟩
def sh.mem(h:sh r b d i a)(e:b<=z (G a)):kZ a d i:=⟨h.row,λk c=>ag (h.loc k c).1 e,λt f=>(h.each t f).SS,h.small⟩
def Row.same{V:jj}{n0:M}{S:fJ}(p:Row a b d c x)(l:jz V n0 S a f)(m:∀n,bV d=H n->n<n0/\¬V.F n):Row f b d c x:=by
 obtain⟨j,h⟩:=p;refine⟨j,?_⟩;rcases h with h|⟨o,e,g,rfl,i,k⟩;exact .inl h;exact .inr ⟨o,e,g,rfl,i,λj u h=>l.cell (.inr<|m o rfl)<|k j u h⟩
def sh.same{V:jj}{n0:M}(h:sh V n0 d i a)(b:jz V n0 aB a f):sh V n0 d i f:=⟨h.row.same b h.loc,h.loc,λt c=>(h.each t c).same b,h.side,h.small⟩
def sh.cell(m:sh r b (bD c g B l) u a){i:M}(k:i<y u):aT a (R c<|g+i)=H u[i].ptr:=by
 obtain⟨_,⟨d,_⟩|⟨b',h,e,d,_,j⟩⟩:=m.row;cases d;cases d;refine j i _ ?_;rw[dz,aG k];rfl
def sh.shape(j:sh r b d p a):(d=aK/\p=[])\/∃f c e,d=bD f c (y p) e:=by
 rcases j.row.2 with⟨g,h⟩|⟨f,c,e,g,_⟩;exact .inl ⟨g,aQ h⟩;exact .inr ⟨f,c,e,g⟩
def Lw(k:M)(n:ab)(h:sh r b d i a)(L:dV a c d 105)(A:dV a g (ap k) 3)(B:dV a l (ai n) 9)(P:r.D a)(t:b<=z (G a))(hF:∀k,r.F k->k<b)(F:b<=c)(D:b<=g)(E:b<=l)(o:M)(w:k+o<y i):cy bG 323 #[ap o,aA c,aA g,aA l] a λac f=>∃v p,ac=aO (dB #[v,.nilIface])/\ji r b v (fR n i[k+o].all) p f/\r.D f/\Y r.F a f/\(∀k,p k->z (G a)<=k):=by
 rcases h.shape with⟨_,h0⟩|⟨O,e,q,rfl⟩;subst h0;simp at w;have c1:=L.cell;have c2:=A.cell;have c3:=B.cell;have K:=h.cell w;have S:=(h.loc O rfl);have al:=h.small;have s:cy bG 324 #[i[k+o].ptr,ai n] a.drew λac f=>∃v p,ac=aO v/\ji r b v (fR n i[k+o].all) p f/\r.D f/\Y r.F a.drew f/\(∀k,p k->z (G a)<=k):=BX (n0:=b) (tbqq:=i[k+o].tb) (ks:=i[k+o].ks) (cs:=i[k+o].cs) n ((h.each _<|aq w).same ⟨ah _,λ_ _=>rfl⟩) (r.fi P (cf aB a) cG) t hF
 have x:=U (show∀f,Y r.F a.drew f->aT f (R c 0)=H (bD O e (y i) q)/\aT f (R g 0)=H (ap k)/\aT f (R O<|e+(k+o))=H i[k+o].ptr/\aT f (R l 0)=H (ai n)from by
  intro f j;have C:∀x,b<=x->¬r.F x:=λx c a=>by have:=hF x a;omega
  exact⟨j.cell c1 (C _ F) (ak L),j.cell c2 (C _ D) (ak A),j.cell K S.2 (ag S.1 t),j.cell c3 (C _ E) (ak B)⟩)
 have hW:Y r.F a a.drew:=cf _ _;generalize i[k+o]=tt at*;obtain⟨u,T⟩:∃u,k+o=u:=⟨_,rfl⟩;rw[T]at K x w;have Q:(k:Z)+(o:Z)=(u:Z):=by omega
 have e1:(u:Z)<(y i:Z):=by omega
 have e2:(0:Z)<=(u:Z):=by omega
 have e3:u<1000000000:=by omega
 have e4:IntKind.i64.wrap (u:Z)=(u:Z):=by rw[bQ];omega
 have e5:wrap64 (u:Z)=(u:Z):=by unfold wrap64;omega
 unfold bJ.ptr at K x s;generalize tt.all=an at*;generalize tt.tb=m at*;clear h L A B P hF T;go_in
 go_wp2_with fail
 go_region_held3(λa=>aT a (R c 0)=H (bD O e (y i) q)/\aT a (R g 0)=H (ap k)/\aT a (R O<|e+u)=H (aA m)/\aT a (R l 0)=H (ai n)) (first|assumption|go_keep) (first
  |(go_at_call 324;refine s.mono ?_;rintro ac w1⟨v1,S1,rfl,V,W,N,X⟩;have ad:=x w1 N;have R1:=U V;have R2:=U W;have R3:=U N;have R4:=U X;clear V W N X))
 go_wp2;go_ret2
 exact⟨v1,S1,rfl,R1,R2,hW.trans R3<|λ_ c=>.inl c,R4⟩
def TZ(V:jj)(b:M)(v:aa)(j h i l:M)(q:cP)(m:ab):AH V b (((q.drop l).map bJ.all).map<|fR m)where
 f:=323
 cb:=#[aA j,aA h,aA i]
 inv:=λW=>sh V b v q W/\(dV W j v 105/\dV W h (ap l) 3/\dV W i (ai m) 9)/\(b<=j/\b<=h/\b<=i)/\b<=z (G W)/\∀l,V.F l->l<b
 S:=λx=>x=j\/x=h\/x=i
 SD:=enters_of func323 (by kernel_rfl) rfl
 call:=by
  rintro t s W⟨k,⟨c,d,e⟩,⟨n,o,p⟩,a,hF⟩r;have g:l+t<y q:=by simp at s;omega
  have:=Lw l m k c d e r a hF n o p t g;simpa using this
 fi:=by
  rintro W s⟨k,⟨c,d,e⟩,r,a,hF⟩g;exact⟨k.same<|g.mono cG,⟨c.same g<|.inl rfl,d.same g<|.inr<|.inl rfl,e.same g<|.inr<|.inr rfl⟩,r,aE a g.1,hF⟩
 lt:=by
  rintro W⟨_,⟨c,d,e⟩,⟨n,o,p⟩,_⟩x(rfl|rfl|rfl)
  .exact⟨n,ak c⟩
  .exact⟨o,ak d⟩
  .exact⟨p,ak e⟩
def Rt(g:ab)(h:sh r b d i a)(hD:r.D a)(j:b<=z (G a))(hF:∀k,r.F k->k<b):cy bG 320 #[d,ai g] a λC o=>∃u p,C=aO u/\ji r b u (fR g<|cg i) p o/\r.D o/\Y r.F a o/\(∀k,p k->z (G a)<=k):=by
 have q:Below (z<|G a) a (ct (ct a<|ar #[d] 105)<|ar #[ai g] 9):=((Below.refl _ a).alloc (ah _) _).alloc (by simp) _;have v:=zt g ((h.mem j).below q) h.side.An;have al:=h.small;have O:=h.shape
 have W:=U (show∀(e:I)(k:M),Below (z<|G<|ct (ct a<|ar #[d] 105)<|ar #[ai g] 9) (ct (ct a<|ar #[d] 105)<|ar #[ai g] 9) e->qn i g k->cy bG 322 #[ap ((y i-k:M):Z),.func (.func 323) #[] #[aA<|z<|G a,aA<|z<|G e,aA<|z (G a)+1]] (ct e<|ar #[ap k] 3) λC o=>∃u p,C=aO u/\ji r b u (fR g<|cg i) p o/\r.D o/\Y r.F a o/\(∀k,p k->z (G a)<=k)from by
  intro e k c m;have s:=c.size;simp at s;have l:Y aB a (ct e<|ar #[ap k] 3):=(((Y.aW (S:=aB) q).ci<|Y.aW (S:=aB) c).alloc _);have P:dV e (z<|G a) d 105:=(c.block _ (by simp;omega)).trans<|dV.alloc (aD _ rfl) _;have Q:dV e (z (G a)+1) (ai g) 9:=(c.block _<|by simp).trans (aD _<|by simp);have N:sh r b d i (ct e<|ar #[ap k] 3):=h.same<|l.same j cG cG;have f:=Hr (TZ r b d (z<|G a) (z<|G e) (z (G a)+1) k i g) (ct e<|ar #[ap k] 3) ⟨N,⟨P.alloc _,aD _ rfl,Q.alloc _⟩,⟨j,by omega,by omega⟩,aE j l.size,hF⟩ (aE j l.size) hF (by simp;omega);have hl:y (((i.drop k).map bJ.all).map<|fR g)=y i-k:=by simp
  rw[hl]at f;apply f.mono;rintro C o⟨u,p,rfl,hg,hb,hS⟩;rw[h.side.Bu g m]at hg;have n:=l.ci (Y.aW (S:=aB) hb);refine⟨u,p,rfl,hg,r.fi hD n cG,n.mono cG,λao hx=>?_⟩;have an:=l.size;rcases hS ao hx with(ac|ac|ac)|ac<;>omega)
 have X:=U (show∀e,Below (z<|G<|ct (ct a<|ar #[d] 105)<|ar #[ai g] 9) (ct (ct a<|ar #[d] 105)<|ar #[ai g] 9) e->aT e (R (z<|G a) 0)=H d/\z (G a)<z (G e)from by intro e c;have s:=c.size;simp at s;exact⟨dV.cell (t:=105)<|(c.block _ (by simp;omega)).trans<|dV.alloc (aD _ rfl) _,by omega⟩);clear h hD hF q;rcases O with⟨rfl,rfl⟩|⟨au,T,ad,rfl⟩;(·(go_in);(go_wp2_with fail);apply v.mono;rintro C e⟨k,rfl,m,c⟩;obtain rfl:k=0:=Nat.le_zero.1 m.le;have f:=W e 0 c m;obtain⟨y1,y2⟩:=X e c;clear m c;(go_wp2_with fail);apply f.mono;rintro C w2⟨V,L,rfl,w,x,A,B⟩;have D:=U w;have E:=U x;have F:=U A;have K:=U B;clear w x A B;go_wp2;go_ret;exact⟨V,L,rfl,D,E,F,K⟩);(go_in);(go_wp2_with fail);apply v.mono;rintro C e⟨k,rfl,m,c⟩;have N:=m.le;have f:=W e k c m;obtain⟨y1,y2⟩:=X e c;obtain⟨l,n⟩:∃l,y i-k=l:=⟨_,rfl⟩;rw[n]at f;(have P:(y i:Z)-(k:Z)=(l:Z):=by omega);(have Q:l<=1000000000:=by omega);(have q6:IntKind.i64.wrap (l:Z)=(l:Z):=by rw[bQ];omega);clear m c n;(go_wp2_with fail);apply f.mono;rintro C w2⟨V,L,rfl,w,x,A,B⟩;have D:=U w;have E:=U x;have F:=U A;have K:=U B;clear w x A B;go_wp2;go_ret;exact⟨V,L,rfl,D,E,F,K⟩
def MT(h:qn i v b)(a:qn i v c):b=c:=by
 rcases kB b c with e|e|e;have f:=a.low b (by have:=a.le;omega) e;have d:=h.uZ b (by have:=a.le;omega)<|ah _;rw[f]at d;cases d;exact e;have f:=h.low c (by have:=h.le;omega) e;have d:=a.uZ c (by have:=h.le;omega)<|ah _;rw[f]at d;cases d
def Dz:∀{d:cP},AK d->∀a,∃k,qn d a k
 |[],_,_=>⟨0,ah _,λi b=>absurd b<|gG i,λi b=>absurd b<|gG i⟩
 |t::d,l,a=>by
  obtain⟨h,j⟩:=bw.1 l;cases e:ic (iT t.ks) a with
  |true=>
   obtain⟨k,g⟩:=Dz j a;refine⟨k+1,Nat.succ_le_succ g.le,λi b c=>?_,λi b c=>?_⟩
   .cases i with
    |zero=>exact e
    |succ i=>exact g.low i (by simpa using b)<|by omega
   .cases i with
    |zero=>omega
    |succ i=>exact g.uZ i (by simpa using b)<|by omega
  |false=>
   refine⟨0,bA _,λi b c=>absurd c<|gG i,λi b _=>?_⟩;cases i with
   |zero=>exact e
   |succ i=>
    have g:=h _ (aq<|show i<y d by simpa using b);cases f:ic (iT<|(t::d)[i+1].ks) a with
    |false=>rfl
    |true=>
     have:ic (iT t.ks) a=bW:=lH g f;rw[e]at this;cases this
def Ru(l:ab)(L:Z)(h:sh r b d p a)(hD:r.D a)(n:b<=z (G a))(hF:∀F,r.F F->F<b):cy bG 319 #[d,ai l,aH L] a λac K=>ac=aO (tf<|iA L (cg p) l)/\r.D K/\Y r.F a K:=by
 obtain⟨F,v⟩:=Dz h.side.An l;have s:Below (z<|G a) a (ct a<|ar #[ai ⟨#[]⟩,ai ⟨#[]⟩,aL bF,aH 0] 164):=(Below.refl _ a).alloc (ah _) _;have ao:=h.small;have D:cy bG 223 #[d,ai l] (ct a<|ar #[ai ⟨#[]⟩,ai ⟨#[]⟩,aL bF,aH 0] 164) λac K=>ac=aO (ap F)/\Below (z<|G a) a K/\ii K (z<|G a) zE:=by apply(zt l ((h.mem n).below s) h.side.An).mono;rintro ac K⟨j,rfl,o,e⟩;obtain rfl:F=j:=MT v o;exact⟨rfl,s.trans<|e.mono s.size,(e.block _<|by simp).trans<|aD _ rfl⟩
 have C:∀ad,b<=ad->¬r.F ad:=λad N a=>by have:=hF ad a;omega
 obtain⟨A,P,g⟩:=dC C (λX(B:Below (z<|G a) a X)=>r.fi hD (Y.aW (S:=aB) B) cG)<|λX(B:Below (z<|G a) a X)=>h.same<|(Y.aW (S:=aB) B).same n cG cG;by_cases t:F<y p
 .rcases h.shape with⟨_,h0⟩|⟨au,W,an,rfl⟩
  .subst h0;simp at t
  rw[h.side.Bx v t L];have HC:=U<|λX(B:Below (z<|G a) a X)=>(g X B).cell t;have q:=U<|λX(B:Below (z<|G a) a X)=>BY (n0:=b) (tbqq:=p[F].tb) (ks:=p[F].ks) (cs:=p[F].cs) l L ((g X B).each _<|aq t) (P X B) (aE n B.size) hF;have j:∀X,Below (z<|G a) a X->cy bG 321 #[aA<|p[F].tb,ai l,aH L] X λac K=>ac=aO (tf<|iA L p[F].all l)/\r.D K/\Y r.F X K:=ae q;have e1:((F:Z)==(y p:Z))=bF:=by simp;omega
  have e2:(F:Z)<(y p:Z):=by omega
  have e3:(0:Z)<=(F:Z):=by omega
  clear q h v hD hF C s g;unfold bJ.ptr at HC;generalize iA L p[F].all l=fe at*;generalize p[F].tb=al at*;cases fe with
  |none=>
   simp only[tf,wO]at j;have q:=U j;clear j;go_in
   go_wp2_with(first
    |(go_at_call 223;refine D.mono ?_;rintro ac x⟨rfl,f,c⟩;have hc:=HC x f;have V:=q x f;have m:=U c;have k:=U f;clear c f)
    |(go_at_call 321;refine V.mono ?_;rintro ac w2⟨rfl,u,o⟩;have e:=m.aw o (A _ n);obtain⟨z0,z1,z2,z3⟩:=e.cells;have y0:=e.free (i:=0);have y1:=e.free (i:=1);have y2:=e.free (i:=2);have y3:=e.free (i:=3);have Q:=U e;have O:=U u;have T:=U o;clear e u o))
   refine cI (fW rfl _ _ (z<|G a) zE _ _ rfl<|Q.put zE) rfl ?_;have w:=ja w2 (z<|G a) zE;refine⟨rfl,r.fi O w (λad N=>by subst N;exact A _ n),((Y.aW (S:=r.F) k).trans T<|λF v=>.inl v).trans w<|λad N=>.inr<|by omega⟩
  |some ad=>
   obtain⟨xk,xv,xd,xb⟩:=ad;simp only[tf,E.value]at j;have q:=U j;clear j;go_in
   go_wp2_with(first
    |(go_at_call 223;refine D.mono ?_;rintro ac x⟨rfl,f,c⟩;have hc:=HC x f;have V:=q x f;have m:=U c;have k:=U f;clear c f)
    |(go_at_call 321;refine V.mono ?_;rintro ac w2⟨rfl,u,o⟩;have e:=m.aw o (A _ n);obtain⟨z0,z1,z2,z3⟩:=e.cells;have y0:=e.free (i:=0);have y1:=e.free (i:=1);have y2:=e.free (i:=2);have y3:=e.free (i:=3);have Q:=U e;have O:=U u;have T:=U o;clear e u o))
   refine cI (fW rfl _ _ (z<|G a) ⟨xk,xv,xd,xb⟩ _ _ rfl<|Q.put ⟨xk,xv,xd,xb⟩) rfl ?_;have w:=ja w2 (z<|G a) ⟨xk,xv,xd,xb⟩;refine⟨rfl,r.fi O w (λad N=>by subst N;exact A _ n),((Y.aW (S:=r.F) k).trans T<|λF v=>.inl v).trans w<|λad N=>.inr<|by omega⟩
 (have o:F=y p:=by have:=v.le;omega);subst o;have e:=h.side.yw v L;rw[e];rcases h.shape with⟨rfl,rfl⟩|⟨au,W,an,rfl⟩;(.clear h v hD hF C s e t g;(go_in);(go_wp2_with(go_at_call 223;refine D.mono ?_;rintro ac x⟨rfl,f,c⟩;obtain⟨z0,z1,z2,z3⟩:=c.cells;have y0:=c.free (i:=0);have y1:=c.free (i:=1);have y2:=c.free (i:=2);have y3:=c.free (i:=3);have m:=U c;have k:=U f;clear c f));refine cI (fW rfl _ _ (z<|G a) zE _ _ rfl<|m.put zE) rfl ?_;have j:Below (z<|G a) a (wK x (z<|G a) zE):=k.trans ((ja x (z<|G a) zE).below k.size<|λad N=>by omega);exact⟨rfl,P _ j,Y.aW j⟩);clear h v hD hF C s e t g;(go_in);(go_wp2_with(go_at_call 223;refine D.mono ?_;rintro ac x⟨rfl,f,c⟩;obtain⟨z0,z1,z2,z3⟩:=c.cells;have y0:=c.free (i:=0);have y1:=c.free (i:=1);have y2:=c.free (i:=2);have y3:=c.free (i:=3);have m:=U c;have k:=U f;clear c f));refine cI (fW rfl _ _ (z<|G a) zE _ _ rfl<|m.put zE) rfl ?_;have j:Below (z<|G a) a (wK x (z<|G a) zE):=k.trans ((ja x (z<|G a) zE).below k.size<|λad N=>by omega);exact⟨rfl,P _ j,Y.aW j⟩
def Il{w:I}(u:bJ)(h:PN w u)(B:rL u.ks<=1000000000):cy bG 198 #[u.ptr] w λX S=>X=aO (ap (rL u.ks:M))/\Below (z<|G w) w S:=by
 obtain⟨W,k,cut,q,Q,r,b,i,A,f⟩:=h;obtain⟨v,a,V,num⟩:=u;simp only at B f|-;unfold bJ.ptr;simp only;have C:=cellAt f.box 5 rfl;have o:=f.lt;have E:=f.small;have x:=U f.cells;clear f;go_in
 go_wp2;go_loopw [3,11] (λc i wr=>∃n:M,n<=y a/\i=ap n/\c=ap (rL (a.take n):M)/\Below (z<|G w) w wr) (λ_ i _=>y a-(intOf i).toNat)
 case atStart=>exact⟨0,bA _,rfl,rfl,Below.refl _ _⟩
 (case round=>obtain⟨n,hn,rfl,rfl,d⟩:=hrel;have D:=BD a n;have c:=BD a<|n+1;by_cases j:n<y a;(.have e:∀c v,c<5->(qR.cells a[n])[c]?=H v->aT wr (R r<|b+n*5+c)=H v:=λc v f g=>(d.cell (p:=(R r<|b+n*5+c)) o.2).trans (by rw[aV];exact x _ _<|(ir a n c j f).trans g);rw[aj j,BE]at c;have g:=U (show rL (a.take<|n+1)=rL (a.take n)+a[n].count by rw[aj j,BE]);generalize a[n]=ac at*;obtain⟨pos,t,m,first,s⟩:=ac;have K:=e 0 _ (by omega) rfl;have L:=e 1 _ (by omega) rfl;have N:=e 2 _ (by omega) rfl;have O:=e 3 _ (by omega) rfl;have P:=e 4 _ (by omega) rfl;clear e;simp only[jn]at K L N O P;simp only at c g;generalize rL (a.take n)=T at*;have l:=U d;have F:=d.size;clear d;go_wp2;go_roundw;(case rel=>exact⟨n+1,j,by go_num,by rw[ae g];go_num,l.alloc F _⟩);case measure=>simp[intOf];omega);(have e:n=y a:=by omega);subst e;rw[bP];have l:=U d;clear d;go_wp2;go_ret;exact⟨rfl,l⟩)
def sg(a:cP):M:=(a.map<|λt=>rL t.ks).sum
def Hn(a:cP)(t:bJ):sg (a++[t])=sg a+rL t.ks:=by simp[sg]
def Hm(a:cP)(n:M):sg (a.take n)<=sg a:=by
 have h:=bU (λl=>(l.map (λt:bJ=>rL t.ks)).sum)<|bX n a;simp only[aM,gl]at h;unfold sg;omega
def UV(h:S∈i):rL S.ks<=sg i:=by
 induction i with
 |nil=>cases h
 |cons b r a=>
  unfold sg at*;rcases az.1 h with rfl|h
  .simp
  .have:=a h;simp only[aY,iL];omega
def kZ.cell(m:kZ a (bD b c l g) u){i:M}(k:i<y u):aT a (R b<|c+i)=H u[i].ptr:=by
 obtain⟨_,⟨d,_⟩|⟨b',h,e,d,_,j⟩⟩:=m.row;cases d;cases d;refine j i _ ?_;rw[dz,aG k];rfl
def kZ.shape(h:kZ a d p):(d=aK/\p=[])\/∃e b c,d=bD e b (y p) c/\y p<=c:=by
 rcases h.row.2 with⟨f,g⟩|⟨e,b,c,f,g,_⟩;exact .inl ⟨f,aQ g⟩;exact .inr ⟨e,b,c,f,g⟩
def NU(h:kZ a d i)(C:sg i<=1000000000):cy bG 137 #[d] a λA x=>A=aO (ap (sg i:M))/\Below (z<|G a) a x:=by
 have w:=h.small;rcases h.shape with⟨rfl,rfl⟩|⟨F,o,t,rfl,_⟩;(.clear h;(go_in);go_wp2;(go_loopw [3,8] (λs p wr=>p=ap 0/\s=ap 0/\wr=a) (λ_ _ _=>0));(case atStart=>exact⟨rfl,rfl,rfl⟩);(case round=>obtain⟨rfl,rfl,rfl⟩:=hrel;go_wp2;go_ret;exact⟨rfl,Below.refl _ _⟩));(.have r:=U h;clear h;(go_in);go_wp2;(go_loopw [3,8] (λs p wr=>∃n:M,n<=y i/\p=ap n/\s=ap (sg (i.take n):M)/\Below (z<|G a) a wr) (λ_ p _=>y i-(intOf p).toNat));(case atStart=>exact⟨0,bA _,rfl,rfl,Below.refl _ _⟩);(case round=>obtain⟨n,D,rfl,rfl,e⟩:=hrel;have u:=Hm i n;have g:=Hm i<|n+1;by_cases c:n<y i;(.have b:=r.below e;have v:=b.cell c;rw[aj c,Hn]at g;have m:=U (show sg (i.take<|n+1)=sg (i.take n)+rL i[n].ks by rw[aj c,Hn]);have j:=Il (w:=wr) i[n] (b.each _<|aq c) (by have:=UV<|aq c;omega);clear b;unfold bJ.ptr at v j;generalize rL i[n].ks=K at*;generalize i[n].tb=q at*;generalize sg (i.take n)=B at*;have k:=U e;clear e;(go_wp2_with fail);apply j.mono;rintro A E⟨rfl,f⟩;have l:=U f;clear f;go_wp2;go_roundw;(case rel=>exact⟨n+1,c,by go_num,by rw[ae m];go_num,k.trans<|l.mono k.size⟩);case measure=>simp[intOf];omega);(have b:n=y i:=by omega);subst b;rw[bP];have k:=U e;clear e;go_wp2;go_ret;exact⟨rfl,k⟩))
