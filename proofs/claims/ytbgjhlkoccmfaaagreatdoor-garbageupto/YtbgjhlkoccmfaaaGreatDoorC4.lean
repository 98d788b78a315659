import Derived.Carry
import Derived.Laws.OwnMore
import Derived.Test.YtbgjhlkoccmfaaaGreatDoorC3
open _root_ renaming List.length→y,Option.some→M,Array.size→G,Go.World.heap→H,Go.Value.ownBlock→cN,Go.World.cell?→bA,Go.World.setCell→cP,Go.World.alloc→dw,Bool.false→bD,Bool.true→cz,Nat→R,Int→Y,List→cy,Go.Calls→cR,Go.undef→jn,Go.Proofs.Tryz.prog→bN,Go.Value.slice→am,Go.Value.string→aw,Go.Value.bool→aO,Go.Value.pointer→ee,Go.Value.tuple→de,Go.Value.agg→ef,Go.World.frozen?→iI,Go.World.ownsRow→fE,Go.Value.nilIface→ic,Go.Act.put→ii,Nat.reduceAdd→ke,Go.RowKit.Below→gD,Bool→eN,Option.none→dE,rfl→z,Or.inl→J,Or.inr→bu
namespace Go.Proofs.YtbgjhlkoccmfaaaGreatDoor
open ChangeShapes WideShapes RowKit Proofs.Tryz List
set_option maxHeartbeats 16000000
set_option linter.all false
set_option maxRecDepth 100000
variable{a e:Z}{b c k n T:R}{d w:ae}{f:DK}{i:dB}{m:eD}{r:Y}{s:jv}{B:af}{O:iG}{Q:iF}
structure pw where
 p:R
 D:R
 A:R
 eJ:af
 eP:af
abbrev ld:=cy pw
def pw.t(k:pw):ae:=ef #[ay k.p,ay k.D,ay k.A,aw k.eJ,aw k.eP]
def pw.bU(k:pw):iF:=[ay k.p,ay k.D,ay k.A,aw k.eJ,aw k.eP]
structure pw.Of(k:pw)(c:dB):Prop where
 ne:0<y c
 D:k.D=y (iH c)+4
 A:k.A=y c
 eJ:k.eJ=(c[0]'ne).D
 eP:k.eP=(c[y c-1]'U).D
structure pw.Fl(k:pw)(c:dB):Prop where
 ne:0<y c
 eJ:k.eJ=(c[0]'ne).D
 eP:k.eP=(c[y c-1]'U).D
def Cg(w:Z)(b:R)(k:pw):Prop:=w.heap[b]?=M (aK #[ay k.p,ay k.D,ay k.A,aw k.eJ,aw k.eP] 383 (0,0))
def Cg.bU{k:pw}(h:Cg a b k):bA a (X b 0)=M (ay k.p)/\bA a (X b 1)=M (ay k.D)/\bA a (X b 2)=M (ay k.A)/\bA a (X b 3)=M (aw k.eJ)/\bA a (X b 4)=M (aw k.eP):=by
 refine⟨?_,?_,?_,?_,?_⟩<;>rw[cE h]<;>rfl
def Cg.aA{w w':Z}{b:R}{k:pw}{S:fC}(h:Cg w b k)(c:I S w w')(a:¬S b):Cg w' b k:=(c.A b (az h) a).trans h
def AW(x:E)(t:TypeId)(c:b=G (H a)):∀j u,(bj [x])[j]?=M u->bA (dw a<|aK #[aw x.D,aw x.l,aO x.dP,bw x.f] t) (((X b 0):Addr).add j)=M u:=by
 grind[yN]
def Rd.lB{m6:eN}(h:Rd a b m m6)(g:fo a e d w)(j:∀k,cN d=M k->b<k):Rd e b m m6:=by
 let⟨u,f,i,c⟩:=h;refine⟨u,(g.dF.block b (az f) aI).trans f,i.dF g.dF ?_,c⟩;cases hu:cN u with
 |none=>exact bu z
 |some k=>
  grind
structure S5(w0 w:Z)(rb:R)(k:pw)(pre:eD)(c:dB)(r:eD)(o:ae):Prop where
 aZ:fE w (G<|H w0) 223 4 o (y c) (bj c)
 rd:Rd w rb r bD
 eq:pre=iH c++r
 L:kj r
 S:∀x∈c,x.Good
 g:Cg w (G<|H w0) k
 l:gD (G<|H w0) w0 w
 d:G (H w0)<rb
 ne:cN o≠M rb/\cN o≠M (G<|H w0)
 f:∀k,cN o=M k->rb<k
def TbP(w b:Z)(k:pw)(d:eD)(e:Ending):Prop:=∃(a:ae)(ok:eN),e=aN (de #[a,aO ok])/\gD (G<|H w) w b/\(ok=cz->∃c,d=ik (iH c)/\k.Of c/\(∀x∈c,x.Good)/\gG c/\fE b (G<|H w) 223 4 a (y c) (bj c))
def OR{rest:eD}{m6:eN}(a:kj rest)(h:(fZ rest m6 8).2.1=bD):m6=bD/\rest=le 8 (dz rest m6 8)++(fZ rest m6 8).1:=by
 let⟨b,c,d⟩:=uH h;have:=LJ _ (kj.lP (n:=8) (m6:=m6) a).2;rw[d]at this;exact⟨b,by unfold dz;rw[this];exact c⟩
def IC(x:pw)(hT:Steps a)(hb:Bytes a d m)(ba:kj m)(hr:y m<=1000000)(cB:1<=x.A/\x.A<=1000)(hv:∀bd,cN d=M bd->bd<G (H a)):cR bN 347 #[d,x.t] a λbf w'=>TbP a w' x m bf:=by
 let⟨i0,bL,ch,cj,ck⟩:=cZ oP;let⟨pos,l,b,first,e⟩:=x;simp only at cB;unfold pw.t;simp only;have bs:gD (G<|H a) a (dw a<|aK #[ay pos,ay l,ay b,aw first,aw e] 383):=(Below.refl _ a).alloc (aq _) _;have ce:=Bw d m (w:=dw a<|aK #[ay pos,ay l,ay b,aw first,aw e] 383) (hT.aE _) (hb.aE _) ba U;have dT:∀(cm:eN)(a:Z),(Op.unary .not<|aO cm).run bN a=.ok (aO<|!cm) a:=λ_ _=>rfl;let⟨bi,HB,bk⟩:=eU hb bs ba;clear hb hT bs ba;go_in
 go_wp21;go_call ce as bf u⟨hU,aD⟩;have P:Cg u (G<|H a) ⟨pos,l,b,first,e⟩:=(aD.block _ ar).trans<|aQ _ z;let⟨k0,k1,k2,k3,k4⟩:=P.bU;simp only at k0 k1 k2 k3 k4;have B:gD (G<|H a) a u:=HB.trans<|aD.mono ar;have dx:=az P;have L:=ak P;have o:=ak B;clear aD P B ce;obtain⟨rfl,_⟩|⟨bd,r,ax,c,rfl,ei,C,rfl⟩:=hU;(.go_wp2;(go_ret2);exact⟨aF,bD,z,o,ar⟩);by_cases cd:y c+4=l;rotate_left;(·(have f:(((y c:Y)+4)!=(l:Y))=cz:=by simp;omega);go_wp2;(go_ret2);exact⟨aF,bD,z,o,ar⟩);subst cd;have cx:bd<G (H a):=hv bd z;have an:Bytes a (bX bd r (y c) ax) c:=by(have f:Bytes a (bX bd r (y<|ik c) ax) (ik c):=by have:=ag bi;rw[C]at this;rw[show y (ik c)=y c+4 by unfold ik;rw[ai,dh]];exact this);have:=f.ou (n:=y c) (by simp[ik]);unfold ik at this;rwa[rN]at this
 have cb:kj c:=λcm hx=>bk cm (by rw[C];unfold ik;simp[hx]);have db:y c<=1000000:=by rw[C]at hr;unfold ik at hr;rw[ai]at hr;omega
 have ca:=oN (an.dD o (by intro x w;cases w;exact cx)) (by intro x w;cases w;show bd<_;have:=o.size;omega);have bm:=ak cb;have bh:=ak C;clear an cb C bi bk hr;have eb:(((y c:Y)+4)!=((y c:Y)+4))=bD:=ar
 go_wp2_with(first
  |(go_at_call 176;refine ca.mono ?_;rintro bf w2⟨rfl,ao,dr⟩;subst dr;have bn:=ak ao;clear ao)
  |(at_make;refine kg _ z _ _ 103 z (G (H a)) 223 i0 yu 4 underlying103 bL ch cj _ _ _ b z z U (by rw[ck];omega) (by unfold maxLen;omega) dW ?_;intro w3 ad D;have p:I aC u w3:=(cI aC u).t (I.eF (S:=aC) D ar);have bv:=L.aA p (λi=>i);let⟨m0,m1,m2,m3,m4⟩:=bv.bU;simp only at m0 m1 m2 m3 m4;have bo:=ak p;clear bv p;have A:=ak ad;have V:=ak D;clear ad D))
 have aV:=ag V;have ds:=aV.size;simp at ds;have dk:G (H<|dw u<|aK #[bX bd r (y c) ax,aO bD] 380)=G (H u)+1:=ar;have p:=ag bo;have hA0:S5 a w3 (G<|H u) ⟨pos,y c+4,b,first,e⟩ c [] c (bX (G (H u)+1) 0 0 b):=by have al:=ag A;rw[dk]at al;refine⟨al,bn.nj aV,z,bm,ar,L.aA p<|λi=>i,o.trans<|(p.dD (aq _) cY).mono o.size,U,⟨?_,?_⟩,?_⟩;simp[cN];have:=az L;simp[cN];omega;intro x w;simp[cN]at w;omega
 have bg:=ak hA0;clear hA0 aV p;go_loopw [9,35] (λo ec wr=>∃(i:dB)(bc:eD),y i<=b/\ec=ay (y i)/\S5 a wr (G<|H u) ⟨pos,y c+4,b,first,e⟩ c i bc o) (λ_ ec _=>b-(intOf ec).toNat)
 exact⟨[],c,bQ _,z,bg⟩;(.obtain⟨i,bc,ej,rfl,g⟩:=hrel;let⟨Q,K,ho⟩:=aM g.aZ;have cd:=g.l.size;have ab:=g.g.bU;simp only at ab;let⟨q0,q1,q2,q3,q4⟩:=ab;have ea:=g.rd.lt;(have el:y bc<=1000000:=by have:=g.eq;rw[this,ai]at db;omega);have T:=ak g;by_cases cT:y i<b;(.have i1:=kj.lP (n:=8) (m6:=bD) g.L;have l1:=je bc bD 8;have b1:=λq=>OR (rest:=bc) (m6:=bD) g.L q;have n1:=jV (n:=8) (m6:=bD) g.L;have k:=Hf g.rd g.L U;clear g;generalize dz bc bD 8=bt at*;generalize fZ bc bD 8=en at*;let⟨A1,A2,A3⟩:=en;simp only at*;have t:=λW(a:Rd W (G<|H u) A1 A2)=>Ji (G<|H u) a i1.1 U;subst ho;go_wp21;go_call k as bf w4⟨rfl,bE,bq⟩;have dn:=t w4 bE;have cl:=ak bq;clear bq bE t k;go_wp21;go_call dn as bf v⟨cm,ok,r2,s2,rfl,bT,br,eg,cM,bx,_⟩;let⟨xk,xv,xd,xb⟩:=cm;unfold E.t;simp only;have j:I (λx=>x=G (H u)) wr v:=(gI cl).aj (gI cM)<|λ_=>J;have bp:gD (G<|H a) a v:=T.l.trans<|j.dD T.l.size<|zZ T.d;have bb:=ak bp;have av:=ak j;clear j bp;cases ok;(.go_wp2;(go_ret2);exact⟨aF,bD,z,bb.alloc bb.size _,ar⟩);obtain⟨rfl,rfl,hg,ed,N⟩:=bx rfl;have s:=bC (bC ((ag av).aZ T.aZ<|λx w i=>T.ne.1 (by rw[<-i];exact w))<|.cells #[.string xk,.string xv,.bool xd,.int .u64 bt] 223)<|.cells #[.string xk,.string xv,.bool xd,.int .u64 bt] 223;have em:=(ag av).D;let⟨bl,cu,co,cn,aU,cs,cp⟩:=zY s bT br hg b1 N n1;clear s bT br hg b1 N bx i1 n1;(go_wp2_with(at_builtin;refine cq _ z (.tmp 48) (.tmp 50) 103 z (G<|H a) 223 i0 yu 4 48 underlying103 bL ch cj ck z cg (.slice Q (y i) K) (y i) (bj i) z bl (X (G (H v)+1) 0) 1 1 (bj [⟨xk,xv,xd,bt⟩]) z z (AW ⟨xk,xv,xd,bt⟩ _ ar) (DT _) U U dW ?_;intro o2 w6 f ac;have cr:=ak f;have cv:=ak ac;clear f ac));go_roundw;(.have g:=ag T;have j:=ag av;have O:=ag cv;have f:=ag cr;have ek:=g.aZ.lt;have F:=ag cn;let⟨_,dd⟩:=ag aU rfl;refine⟨i++[⟨xk,xv,xd,bt⟩],r2,by rw[ai];exact cT,by rw[ai];go_num,?_⟩;have cc:I (λx=>cN (am Q (y i) K)=M x) v w6:=(((I.bI (λx=>cN (am Q (y i) K)=M x) v).aE _).aE _).aj (I.eF (S:=λx=>cN (am Q (y i) K)=M x) O.dF<|λ_=>J)<|λ_=>J;(have aa:∀x,x<G (H v)->cN (am Q (y i) K)≠M x->cN o2≠M x:=by intro x w hn bf;obtain dv|⟨ap,dv,hg⟩:=O.f;(grind);rw[dv]at bf;cases bf;simp at hg;omega);refine⟨?_,?_,?_,co,?_,?_,?_,g.d,⟨aa _ U g.ne.1,aa _ U g.ne.2⟩,?_⟩;rw[ai,ig];exact f;have hr:=ag cu;have N:=hr.nj<|eR v (aK #[aw xk,aw xv,aO xd,bw bt] 223) dE;have dc:=N.nj<|eR _ (aK #[aw xk,aw xv,aO xd,bw bt] 223) dE;exact dc.lB O g.f;rw[g.eq,dd,ag cs];simp[iH,yJ,oC];intro cm hx;obtain q|q:=aP.1 hx;exact g.S cm q;obtain rfl:=bY.1 q;have:=ag cp;exact⟨F.L,F.f,F.l,F.dP,this.1,by simp at this;show bt<_;omega⟩;exact(g.g.aA j U).aA cc<|λi=>g.ne.2 i;refine(g.l.trans<|j.dD g.l.size aI).trans<|cc.dD U aI;intro x w;obtain dv|⟨ap,dv,hg⟩:=O.f;exact g.f x<|dv.symm.trans w;rw[dv]at w;cases w;simp at hg;omega);simp[intOf];omega);(.obtain rfl:y i=b:=U;(have bt:∀W,W.heap=wr.heap->cR bN 180 #[aJ<|G<|H u] W λbf w'=>bf=aN (aO bc.isEmpty)/\w'=W:=by intro W hW;have:=Af (g.rd.df hW) U;simpa using this);(have hE:lG wr (am Q (y i) K) i:=by have t:=dQ g.aZ;rwa[ho]at t);(have bb:∀bd,cN (am Q (y i) K)=M bd->bd<G (H wr):=λbd hb=>by rw[<-ho]at hb;exact(g.aZ.lt bd hb).2);(have cc:∀W,W.heap=wr.heap->cR bN 333 #[am Q (y i) K] W λbf w'=>bf=aN (aO<|BB i)/\gD (G<|H W) W w':=by intro W hW;refine Rf (am Q (y i) K) W ?_ U (by rw[hW];exact bb);obtain⟨t,⟨h2,h0⟩|⟨ap,cl,bl,h2,bT,co⟩⟩:=hE;(grind);exact⟨t,bu ⟨ap,cl,bl,h2,bT,λj u b=>(dZ (w:=wr)<|by rw[hW]).trans<|co j u b⟩⟩);obtain⟨cn,⟨bp,cs⟩|⟨ap,f,cp,bp,bE,aU⟩⟩:=hE;omega;have f0:bA wr (X ap<|f+0*4)=M (aw (i[0]'U).D):=aU _ _ (fI i 0 U).1;have fL:bA wr (X ap<|f+(y i-1)*4)=M (aw (i[y i-1]'U).D):=aU _ _ (fI i (y i-1) U).1;cases bp;(have ac:∀W,gD (G<|H wr) wr W->gD (G<|H a) a W/\(bc=[]->BB i=cz->(i[0]'U).D=first->(i[y i-1]'U).D=e->∃b,m=ik (iH b)/\pw.Of ⟨pos,y c+4,y i,first,e⟩ b/\(∀cm∈b,cm.Good)/\gG b/\fE W (G<|H a) 223 4 (bX ap f (y i) K) (y b) (bj b)):=by intro W hW;refine⟨g.l.trans<|hW.mono g.l.size,λz1 z2 z3 z4=>⟨i,?_,⟨U,?_,z,z3.symm,z4.symm⟩,g.S,XS z2,?_⟩⟩;rw[ag bh,g.eq,z1,eu];rw[g.eq,z1,eu];have t:=g.aZ;rw[ho]at t;exact(I.p (S:=aC) hW).aZ t<|λ_ _ i=>i);have s:=ak ac;have bx:=bb ap z;have aa:G (H a)<G (H wr):=az T.g;subst ho;clear g cn bE aU ac bb;rw[xX,mf]at f0;generalize(i[0]'U).D=ka at*;generalize(i[y i-1]'U).D=kb at*;let⟨O,hp⟩:∃O,y i-1=O:=⟨_,rfl⟩;have e1:(y i:Y)-1=(O:Y):=U;have e2:(O:Y)<(y i:Y):=U;have e0:(0:Y)<(y i:Y):=U;have e00:0<y i:=U;have e3:(0:Y)<=(O:Y):=U;have e4:O<y i:=U;have e5:¬((y i:Y)<(y i:Y)):=U;have e6:O<=1000:=U;(have e9:IntKind.i64.wrap (O:Y)=(O:Y):=by rw[bR];omega);(have cr:wrap64 (O:Y)=(O:Y):=by unfold wrap64;omega);rw[hp]at fL;clear hp L o bn A V bo bg T bm bh HB ca;(have hD:bc.isEmpty=bD\/(bc.isEmpty=cz/\BB i=bD)\/(bc.isEmpty=cz/\BB i=cz/\(ka.toList==first.toList)=bD)\/(bc.isEmpty=cz/\BB i=cz/\(ka.toList==first.toList)=cz/\(kb.toList==e.toList)=bD)\/(bc.isEmpty=cz/\BB i=cz/\(ka.toList==first.toList)=cz/\(kb.toList==e.toList)=cz):=by cases bc.isEmpty<;>cases BB i<;>cases(ka.toList==first.toList)<;>cases(kb.toList==e.toList)<;>simp);have F:bA wr.drew (X ap f)=M (aw ka)/\bA wr.drew (X ap<|f+O*4)=M (aw kb)/\bA wr.drew (X (G<|H a) 3)=M (aw first)/\bA wr.drew (X (G<|H a) 4)=M (aw e):=⟨f0,fL,q3,q4⟩;obtain t|⟨t,h2⟩|⟨t,h2,h3⟩|⟨t,h2,h3,h4⟩|⟨t,h2,h3,h4⟩:=hD;(all_goals rw[t]at bt);(all_goals first|rw[h2]at cc|skip);(all_goals go_wp21;rename_i QQ KK N;refine zq (λj4=>bA j4 (X ap f)=M (aw ka)/\bA j4 (X ap<|f+O*4)=M (aw kb)/\bA j4 (X (G<|H a) 3)=M (aw first)/\bA j4 (X (G<|H a) 4)=M (aw e)) z ?_;(iterate 1 (refine qi F ?_;simp only[ii,eh,fU,ke]));refine Cn (i:=1) z z aH ?_;intro K1 bq;go_simp;go_call bt wr.drew rfl as bf w4⟨rfl,rfl⟩;refine bq _ _ F ?_;clear bq;simp only[ii,eh,fU,ke];iterate 1 (refine qi F ?_;simp only[ii,eh,fU,ke]));(·(iterate 2 (refine Bt F z aH wP aH ?_;simp only[ii,eh,fU,ke]));(iterate 2 (refine qi F ?_;simp only[ii,eh,fU,ke]));(iterate 7 (refine Bt F z aH wP aH ?_;simp only[ii,eh,fU,ke]));(iterate 2 (refine qi F ?_;simp only[ii,eh,fU,ke]));(iterate 10 (refine Bt F z aH wP aH ?_;simp only[ii,eh,fU,ke]));(iterate 2 (refine qi F ?_;simp only[ii,eh,fU,ke]));refine zu aH ?_ _;show KK _ _;apply N;go_wp2;(go_ret2);exact⟨_,bD,z,(ag s _<|below_drewN (Below.refl _ _) _).1,ar⟩);(all_goals(iterate 1 (refine qi F ?_;simp only[ii,eh,fU,ke]));refine Cn (i:=4) z aH aH ?_;intro K4 br;go_simp;go_call cc wr.drew rfl as bf v⟨rfl,k⟩;have j:bA v (X ap f)=M (aw ka)/\bA v (X ap<|f+O*4)=M (aw kb)/\bA v (X (G<|H a) 3)=M (aw first)/\bA v (X (G<|H a) 4)=M (aw e):=⟨(k.cell (p:=(X ap f)) bx).trans f0,(k.cell (p:=(X ap<|f+O*4)) bx).trans fL,(k.cell (p:=(X (G<|H a) 3)) aa).trans q3,(k.cell (p:=(X (G<|H a) 4)) aa).trans q4⟩;have av:=ak<|show gD (G<|H wr) wr v from⟨k.os,k.tape,k.output,k.size,k.block⟩;clear k;refine br _ _ j ?_;clear br;simp only[ii,eh,fU,ke];iterate 2 (refine qi j ?_;simp only[ii,eh,fU,ke]));(·(iterate 7 (refine Bt j z aH wP aH ?_;simp only[ii,eh,fU,ke]));(iterate 2 (refine qi j ?_;simp only[ii,eh,fU,ke]));(iterate 10 (refine Bt j z aH wP aH ?_;simp only[ii,eh,fU,ke]));(iterate 2 (refine qi j ?_;simp only[ii,eh,fU,ke]));refine zu aH ?_ _;show KK _ _;apply N;go_wp2;(go_ret2);exact⟨_,bD,z,(ag s _<|ag av).1,ar⟩);(all_goals iterate 9 (refine qi j ?_;(try simp only[ii,eh,fU,ke])));(·(iterate 10 (refine Bt j z aH wP aH ?_;(try simp only[ii,eh,fU,ke])));(iterate 2 (refine qi j ?_;(try simp only[ii,eh,fU,ke])));refine zu aH ?_ _;show KK _ _;apply N;go_wp2;(go_ret2);exact⟨_,bD,z,(ag s _<|ag av).1,ar⟩);(all_goals(iterate 12 (refine qi j ?_;(try simp only[ii,eh,fU,ke])));refine zu aH ?_ _;show KK _ _;apply N;go_wp2;(go_ret2);have hf:=ag s _<|ag av);exact⟨_,bD,z,hf.1,ar⟩;exact⟨_,cz,z,hf.1,λ_=>hf.2 (dV t) h2 (Ao<|dV h3)<|Ao<|dV h4⟩))
variable{L:ld}
def fM(l:ld):iF:=l.flatMap pw.bU
theorem Em(l:ld):y (fM l)=y l*5:=by
 induction l with
 |nil=>rfl
 |cons e r a=>unfold fM at*;rw[dR,ai,a];simp[pw.bU];omega
def ju(l:ld)(n j:R)(h:n<y l)(b:j<5):(fM l)[n*5+j]?=(pw.bU l[n])[j]?:=by
 have:fM l=fM (l.take n)++(pw.bU l[n]++fM (l.drop<|n+1)):=by(have a:l=l.take n++l[n]::l.drop (n+1):=by rw[<-dm h,du]);(conv=>lhs;rw[a]);simp only[fM,gS,dR]
 grind[Em,getElem?_append_right,getElem?_append_left]
structure mR(w:Z)(tb:R)(dv:ae)(number cut isize sum:Y)(bb boff vW:R)(dav:ae)(ks:ld):Prop where
 g:w.heap[tb]?=M (aK #[dv,bw number,eI cut,eI isize,eI sum,bX bb boff (y ks) vW,dav] 323 (0,0))
 bU:∀j u,(fM ks)[j]?=M u->bA w (X bb<|boff+j)=M u
 ne:0<y ks
 le:y ks<=vW
 f:y ks<=1000000000
def Wm{g f i:Y}(h:mR a b d r g f i c k n w L):cR bN 184 #[aJ b] a λl j=>l=aN (aw (L[0]'h.ne).eJ)/\j=a:=by
 have:=aX h.g 5;have e:=h.ne;have:bA a (X c<|k+3)=M (aw (L[0]'e).eJ):=h.bU _ _<|ju L 0 3 e cg;have:(0:Y)<(y L:Y):=U;generalize(L[0]'e).eJ=s at*;clear h;go_in
 go_wp2;go_ret;simp_all
def Zd{f e g:Y}(h:mR a b d r f e g c k n w L):cR bN 183 #[aJ b] a λl j=>l=aN (aw (L[y L-1]'(bP h.ne)).eP)/\∃q,j=a.drewN q:=by
 have:=aX h.g 5;have:=h.ne;have:=h.f;let⟨p,i⟩:∃p,y L-1=p:=⟨_,rfl⟩;have:bA a (X c<|k+p*5+4)=M (aw (L[y L-1]'U).eP):=by subst i;rw[bJ];exact h.bU _ _<|ju L (y L-1) 4 U cg
 have:(y L:Y)-1=(p:Y):=U;have:(p:Y)<(y L:Y):=U;have:(0:Y)<=(p:Y):=U;have:p<y L:=U;generalize(L[y L-1]'U).eP=s at*;clear h i;go_in
 go_wp2;go_quiet(fail)
 go_wp2;go_ret;exact⟨z,nq,z⟩
def RW(l:R){bk:R}{g e j:Y}(f:af)(h:mR a b d r g e j c k n w L)(o:fF a l (aJ b) 235)(m:fF a bk (aw f) 9)(i:R)(p:i<y L):cR bN 345 #[ay i,aJ l,aJ bk] a λt s=>t=aN (aO<|!kH L[i].eP f)/\∃q,s=a.drewN q:=by
 have:=aX h.g 5;have:bA a (X c<|k+i*5+4)=M (aw L[i].eP):=by rw[bJ];exact h.bU _ _<|ju L i 4 p cg
 have:=o.u;have:=m.u;have:=LZ;have:(i:Y)<(y L:Y):=U;have:(0:Y)<=(i:Y):=U;unfold kH;generalize L[i].eP=u at*;clear h o m;go_in
 go_wp2;go_quiet(fail)
 go_wp2;go_ret;exact⟨z,nq,z⟩
def mR.dD{g f i:Y}{B:R}(h:mR a b d r g f i c k n w L)(j:gD B a e)(m:b<B)(o:c<B):mR e b d r g f i c k n w L:=⟨(j.block b m).trans h.g,λs u q=>(j.cell (p:=(X c<|k+s)) o).trans<|h.bU s u q,h.ne,h.le,h.f⟩
def mR.lt{w:Z}{i g m:Y}{e a:R}{j:ae}(h:mR w c d r i g m n e a j L):c<G (H w)/\n<G (H w):=⟨az h.g,cA w (X n<|e+(0*5+0))<|h.bU _ _<|ju L 0 0 h.ne cg⟩
def CB{p l C:Y}(e:af)(h:mR a b d r p l C c k n w L)(hs:L.Pairwise (λT ac=>kH T.eP ac.eP=cz)):cR bN 341 #[aJ b,aw e] a λV w'=>∃D:R,V=aN (ay D)/\D<=y L/\(∀i(f:i<y L),i<D->kH L[i].eP e=cz)/\(∀i(f:i<y L),D<=i->kH L[i].eP e=bD)/\gD (G<|H a) a w':=by
 have m:=h.lt;have u:gD (G<|H a) a (dw (dw a<|aK #[aJ b] 235)<|aK #[aw e] 9):=((Below.refl _ a).alloc (aq _) _).alloc ar _;have o:=h.dD u m.1 m.2;have:=aX o.g 5
 have B:=BD #[aJ<|G<|H a,aJ<|G (H a)+1] (y L) (λi=>if f:i<y L then !kH L[i].eP e else cz) (dw (dw a<|aK #[aJ b] 235)<|aK #[aw e] 9) (enters_of func345 aH z) (bP h.f) (by
  intro T ac aa A W;have t:T<y L:=U;simp only[A,t,Ay]at W|-;grind[Nat.lt_or_eq_of_le,pairwise_iff_getElem,mz])
  (by
   intro i f ab g;have s:=o.dD g dW dW;have v:fF ab (G (H a)) (aJ b) 235:=(g.block _ dW).trans (fF.aE (aQ _ z) _);have x:fF ab (G (H a)+1) (aw e) 9:=(g.block _ ar).trans (aQ _ ar);go_call RW (G (H a)) e s v x i f as V W'⟨rfl,q,rfl⟩;simp only[f,Ay];exact⟨trivial,below_drewN (Below.refl _ _) _⟩)
 have:=o.lt.1;clear o h hs;go_in
 go_wp2_with(go_at_call 247;refine B.mono ?_;rintro V w1⟨D,rfl,E,F,K,N⟩;have O:=ak E;have P:=ak F;have Q:=ak K;have S:=ak N;clear E F K N)
 go_ret;refine⟨D,z,O,λi f j=>?_,λi f j=>?_,u.trans<|S.mono u.size⟩;have:=P i j;grind
 have:=Q i j f;grind
structure nY(V:jv)(n0 tb:R)(ks:ld)(cs:iG)(w:Z):Prop where
 D:∃dv number cut isize sum bb boff vW dav,mR w tb dv number cut isize sum bb boff vW dav ks/\(tb<n0/\¬V.F tb)/\(bb<n0/\¬V.F bb)
 dL:y ks=y cs
 l:∀i(hi:i<y ks)(hc:i<y cs),ks[i].Fl cs[i]
 S:∀c∈cs,∀x∈c,x.Good
 o:gG cs.flatten
 L:cs.Pairwise lJ
 f:∀c∈cs,y c<=1000
 t:∀i(hi:i<y ks)(hc:i<y cs)W,la V n0 aC w W->V.D W->cR bN 342 #[aJ tb,ay i] W λe W'=>(∃v',e=aN (de #[v',ic])/\fE W' (G<|H W) 223 4 v' (y cs[i]) (bj cs[i])/\V.D W'/\I V.F W W')\/Et V W W' V.F e (λv=>de #[aF,v])
def mR.bM{V:jv}{n0:R}{S:fC}{g f i:Y}(h:mR a b d r g f i c k n w L)(j:la V n0 S a e)(l:b<n0/\¬V.F b)(m:c<n0/\¬V.F c):mR e b d r g f i c k n w L:=⟨(j.2 b<|J l).trans h.g,λp u o=>j.u (bu m)<|h.bU p u o,h.ne,h.le,h.f⟩
def Steps.bM{V:jv}{n0:R}{S:fC}(h:Steps a)(d:la V n0 S a e)(b:1<n0/\¬V.F 1):Steps e:=λk c=>d.u (bu b)<|h k c
def nY.bM{V:jv}{n0 n:R}(h:nY V n0 n L O a)(m:la V n0 aC a e):nY V n0 n L O e:=by
 let⟨p,c,g,d,j,o,f,b,i,u,k,l⟩:=h.D;exact⟨⟨p,c,g,d,j,o,f,b,i,u.bM m k l,k,l⟩,h.dL,h.l,h.S,h.o,h.L,h.f,λv t s W r q=>h.t v t s W (m.aj r) q⟩
def Oh(h:nY s b c L O a)(f:s.D a)(_:b<=G (H a))(_:∀l,s.F l->l<b)(i:R)(j:i<y L)(g:i<y O):cR bN 342 #[aJ c,ay i] a λk d=>(∃e,k=aN (de #[e,ic])/\fE d (G<|H a) 223 4 e (y O[i]) (bj O[i])/\s.D d/\I s.F a d)\/Et s a d s.F k (λv=>de #[aF,v]):=h.t i j g a (la.bI s b aC a) f
def nY.A(h:nY s b c L O a):L.Pairwise (λn o=>kH n.eP o.eP=cz):=by
 refine cW.2<|λl m j k f=>?_;have d:l<y O:=bP h.dL;have e:m<y O:=bP h.dL;have g:=h.l l j d;have i:=h.l m k e;rw[g.eP,i.eP];have:=cW.1 h.L l m d e f;have p:=g.ne;have q:=i.ne;exact this _ ar _ ar
def nY.Eb(h:nY s b c L O a)(e:af)(k:R)(p:∀j(r:j<y L),j<k->kH L[j].eP e=cz):((O.drop k).map<|iY e).flatten=iY e O.flatten:=by
 have m:O.flatten=(O.take k).flatten++(O.drop k).flatten:=by rw[<-lW,du]
 have:iY e (O.take k).flatten=[]:=by unfold iY;rw[oq];intro x t;let⟨v,q,i⟩:=dO.1 t;obtain⟨j,r,rfl⟩:=dJ q;rw[oY]at i;have d:j<k/\j<y O:=aI;have f:j<y L:=bP h.dL;have u:=h.l j f d.2;have g:gG O[j]:=h.o.kE<|eC<|aB d.2;have l:=p j f d.1;rw[u.eP]at l;have o:=g.FJ u.ne i;rw[DX o l];simp
 have n:∀l:iG,(l.map<|iY e).flatten=iY e l.flatten:=by
  intro l;induction l with
  |nil=>rfl
  |cons f g d=>simp only[bO,di,d];unfold iY;rw[mB]
 rw[n,m];grind
theorem IE(bt:R)(i:R)(B:af)(h:nY s b c L O a)(ht:fF a bt (aJ c) 235)(hg:fF a k (ay i) 3)(Q:fF a n (aw B) 9)(hn:b<=n)(hD:s.D a)(ac:b<=G (H a))(hF:∀i,s.F i->i<b)(x:R)(hi:i+x<y L)(hc:i+x<y O):cR bN 344 #[ay x,aJ bt,aJ k,aJ n] a λad S=>(∃v' S',ad=aN (de #[v',ic])/\kA s b v' (iY B O[i+x]) S' S/\s.D S/\I s.F a S/\(∀i,S' i->G (H a)<=i))\/∃aU,Et s a S s.F ad (λax=>de #[aU,ax]):=by
 have:=ht.u;have:=hg.u;have c3:=Q.u;have N:=Oh h hD ac hF (i+x) hi hc;have f:=aB hc;have r:gG O[i+x]:=h.o.kE<|eC f;have ab:=h.f _ f;have p:i+x<1000000000:=by grind[nY.D,mR.f]
 have F:=az Q;have K:¬s.F n:=aI;let⟨HL,HS,D,V⟩:=js Q r (show∀ao∈O[i+x],ao.f<18446744073709551616 fromλao hx=>(h.S _ f ao hx).b1) hF;clear ht hg Q h hD f hF r hi;have P:IntKind.i64.wrap ((i:Y)+(x:Y))=((i+x:R):Y):=by rw[bR];omega
 have t:wrap64 ((i:Y)+(x:Y))=((i+x:R):Y):=by unfold wrap64;omega
 let⟨an,hm⟩:∃an,i+x=an:=⟨_,rfl⟩;simp only[hm]at N ab HS D P t p|-;have:(i:Y)+(x:Y)=(an:Y):=U;generalize O[an]=aD at*;clear hm P t;go_in
 go_wp21;go_call N as ad C(⟨v1,rfl,d,u,e⟩|⟨hX,q,rfl,hq,u,e⟩);(.have ap:bA C (X n 0)=M (aw B):=e.u c3 K F;have E:lG C v1 aD:=dQ d;have w:=d.lt;have al:=e.D;have v:=Hq s b B E HS D U (λi A=>⟨λa=>gW (V i a)<|(w i A).1,(w i A).2⟩) U V;clear d E;(go_wp2_with(go_at_call 332;refine v.mono ?_;rintro ad w2⟨v2,S2,rfl,o,m,j⟩;have W:=ak o;have T:=ak m;have aa:=ak j;clear o m j));(go_ret2);have g:I aC C w2:=I.p T;refine J ⟨v2,S2,z,W,s.l u g cY,e.t g,λk' A=>?_⟩;obtain av|av:=aa k' A;exact(w k' av.1).1;omega);have:bA C (X n 0)=M (aw B):=e.u c3 K F;have:=e.D;have v:=Hq s b B (v:=aF) (l:=[]) (w:=C) ⟨z,J ⟨z,z⟩⟩ .km (λao hx=>by cases hx) ar (λi A=>by cases A) U V;go_wp21;go_call v as ad w2⟨v2,S2,rfl,o,m,j⟩;clear o j;go_wp2;(go_ret2);have g:I aC C w2:=I.p m;exact bu ⟨v2,hX,q,z,hq.aA g cY,s.l u g cY,e.t g⟩
def XN(V:jv)(a r g d e k:R)(s:ld)(h:iG)(t:af)(p:y s=y h):Bm V a ((h.drop k).map<|iY t)where
 f:=344
 cb:=#[aJ g,aJ d,aJ e]
 A:=λW=>nY V a r s h W/\(fF W g (aJ r) 235/\fF W d (ay k) 3/\fF W e (aw t) 9)/\(a<=g/\a<=d/\a<=e)/\a<=G (H W)/\∀k,V.F k->k<a
 S:=λx=>x=g\/x=d\/x=e
 o:=enters_of func344 aH z
 uh:=by
  rintro w v x⟨n,⟨i,j,m⟩,q,c,hF⟩u;have b:k+w<y h:=aI;rw[mw,rP];grind[IE]
 l:=by
  rintro W u⟨n,⟨i,j,m⟩,q,c,hF⟩b;exact⟨n.bM<|b.aT cY,⟨i.bM b<|J z,j.bM b<|bu<|J z,m.bM b<|bu<|bu z⟩,q,aR c b.1,hF⟩
 lt:=by
  grind
def EC{n0 j8:R}{ks:ld}{cs:iG}(f:af)(h:nY s n0 j8 ks cs a)(hD:s.D a)(u:n0<=G (H a))(hF:∀k,s.F k->k<n0):cR bN 340 #[aJ j8,aw f] a λac i=>∃w r,ac=aN w/\kA s n0 w (iY f cs.flatten) r i/\s.D i/\I s.F a i/\(∀k,r k->G (H a)<=k):=by
 have j:gD (G<|H a) a (dw (dw a<|aK #[aJ j8] 235)<|aK #[aw f] 9):=((Below.refl _ a).alloc (aq _) _).alloc ar _;let⟨dv,E,al,aa,aV,K,g,d,an,C,ax,ao⟩:=h.D;have e:=C.lt;have Q:=CB f (C.dD j e.1 e.2) h.A;have q:=h.dL;have av:=C.f
 have HX:=ak (show∀(c:Z)(k:R),gD (G<|H<|dw (dw a<|aK #[aJ j8] 235)<|aK #[aw f] 9) (dw (dw a<|aK #[aJ j8] 235)<|aK #[aw f] 9) c->k<=y ks->(∀d(e:d<y ks),d<k->kH ks[d].eP f=cz)->∀W,W.heap=(dw c<|aK #[ay k] 3).heap->I aC (dw c<|aK #[ay k] 3) W->cR bN 338 #[ay ((y ks-k:R):Y),.func (.func 344) #[] #[aJ<|G<|H a,aJ<|G<|H c,aJ<|G (H a)+1]] W λac i=>∃w r,ac=aN w/\kA s n0 w (iY f cs.flatten) r i/\s.D i/\I s.F a i/\(∀k,r k->G (H a)<=k)/\gD (G<|H W) W i from by
  intro c k b hk P W t N;have v:=b.size;simp at v;have m:I aC a W:=(((I.p (S:=aC) j).t<|I.p (S:=aC) b).aE _).t N;have T:fF c (G<|H a) (aJ j8) 235:=(b.block _ dW).trans<|fF.aE (aQ _ z) _;have V:fF c (G (H a)+1) (aw f) 9:=(b.block _ ar).trans<|aQ _ ar;have y1:fF W (G<|H a) (aJ j8) 235:=by rw[fF,t];exact T.aE _
  have y2:fF W (G (H a)+1) (aw f) 9:=by rw[fF,t];exact V.aE _
  have y3:fF W (G<|H c) (ay k) 3:=by rw[fF,t];exact aQ _ z
  have L:nY s n0 j8 ks cs W:=h.bM<|m.bM u cY cY;have A:=Kn (XN s n0 j8 (G<|H a) (G<|H c) (G (H a)+1) k ks cs f q) W ⟨L,⟨y1,y3,y2⟩,⟨u,U,U⟩,aR u m.D,hF⟩ aI hF dW;have hl:y ((cs.drop k).map<|iY f)=y ks-k:=by simp;omega
  rw[hl]at A;go_call A as ac i⟨w,r,rfl,hg,hb,hS⟩;rw[h.Eb f k P]at hg;have D:I aC W i:=I.p hb;have n:=m.t D;refine⟨w,r,z,hg,s.l hD n cY,n.aT cY,λba hx=>?_,hb⟩;have aU:=m.D;obtain(ad|ad|ad)|ad:=hS ba hx
  .omega
  .omega
  .omega
  .omega)
 have l:∀W,gD (G<|H a) a W->bA W (X j8 5)=M (bX K g (y ks) d):=λW b=>by rw[cE (C.dD b e.1 e.2).g];rfl
 have F:=ak l;have HB:=ak j;have aD:=e.1;clear h C hD hF l j e q;go_in
 go_wp2_with(go_at_call 341;refine Q.mono ?_;rintro ac c⟨k,rfl,hk,B,O,b⟩;have o:gD (G<|H a) a c:=HB.trans<|b.mono HB.size;have l:=F c o;have v:=b.size;have x1:bA c (X (G<|H a) 0)=M (aJ j8):=fF.u<|(b.block _ dW).trans<|fF.aE (aQ _ z) _;have x:=ak<|HX c k b hk B;clear B O b o)
 simp at v;have q1:G (H a)<G (H c):=U;have q2:j8<G (H c):=U;let⟨ab,hd⟩:∃ab,y ks-k=ab:=⟨_,rfl⟩;rw[hd]at x;have q3:(y ks:Y)-(k:Y)=(ab:Y):=U;have q4:ab<=1000000000:=U;have q6:IntKind.i64.wrap (ab:Y)=(ab:Y):=by rw[bR];omega
 clear hd
 go_region_held3(λb=>bA b (X (G<|H a) 0)=M (aJ j8)/\bA b (X j8 5)=M (bX K g (y ks) d)/\bA b (X (G<|H c) 0)=M (ay k)) (first|assumption|go_keep) (first
  |(go_at_call 338;refine(x ((dw c (.cells #[.int .i64 k] 3)).drew) z ⟨z,z,z,aq _,λ_ _ _=>rfl⟩).mono ?_;rintro ac w2⟨v2,S2,rfl,r1,r2,r3,r4,r5⟩;have R1:=ak r1;have R2:=ak r2;have R3:=ak r3;have R4:=ak r4;have ap:bA w2 (X (G (H a)) 0)=M (aJ j8)/\bA w2 (X j8 5)=M (bX K g (y ks) d)/\bA w2 (X (G (H c)) 0)=M (.int .i64 k):=⟨(r5.cell (p:=(X (G (H a)) 0)) dW).trans (by rw[cL,rI _ _ _ q1];exact x1),(r5.cell (p:=(X j8 5)) dW).trans (by rw[cL,rI _ _ _ q2];exact l),(r5.cell (p:=(X (G (H c)) 0)) ar).trans ar⟩))
 go_wp2;go_ret;exact⟨v2,S2,z,R1,R2,R3,R4⟩
structure Cd(ks:ld)(key:af)(k:R):Prop where
 le:k<=y ks
 da:∀i(hi:i<y ks),i<k->kH ks[i].eP key=cz
 xR:∀i(hi:i<y ks),k<=i->kH ks[i].eP key=bD
def UP(h:L.Pairwise (λl f=>kH l.eP f.eP=cz))(d:af):∃k,Cd L d k:=by
 induction L with
 |nil=>exact⟨0,aq _,λi a=>by simp at a,λi a=>by simp at a⟩
 |cons f r j=>
  let⟨m,g⟩:=dp.1 h;cases c:kH f.eP d with
  |true=>
   let⟨k,e⟩:=j g;refine⟨k+1,by have:=e.le;simp;omega,λi a b=>?_,λi a b=>?_⟩
   .cases i with
    |zero=>exact c
    |succ i=>exact e.da i (dV a) U
   .cases i with
    |zero=>omega
    |succ i=>exact e.xR i (dV a) U
  |false=>
   refine⟨0,bQ _,λi a b=>U,λi a _=>?_⟩;grind[getElem_mem,mz]
def Cd.eq(h:Cd L B b)(a:Cd L B c):b=c:=by
 obtain e|e|e:=mU b c;have f:=a.da b (bP a.le) e;have d:=h.xR b (bP a.le)<|aq _;rw[f]at d;cases d;exact e;have f:=h.da c (bP h.le) e;have d:=a.xR c (bP h.le)<|aq _;rw[f]at d;cases d
def nY.CU(h:nY s b c L O a)(q:Cd L B k)(x:E)(u:x∈O.flatten)(i:x.D=B):∃j:k<y O,x∈O[k]:=by
 let⟨A,j,g⟩:=dO.1 u;obtain⟨n,p,rfl⟩:=dJ j;have d:n<y L:=bP h.dL;have v:=h.l n d p;have m:gG O[n]:=h.o.kE<|eC j;have l:=m.FJ v.ne g;obtain t|t|t:=mU n k;have:=q.da n d t;rw[v.eP]at this;have:=DX l this;rw[i,jr]at this;cases this;grind
 have f:k<y L:=U;have e:k<y O:=U;have r:=h.l k f e;have o:=q.xR k f<|aq _;rw[r.eP]at o;have w:=r.ne;have:=cW.1 h.L k n e p t _ (aB<|show y O[k]-1<y O[k]by omega) x g;rw[i,o]at this;cases this
def nY.AT(h:nY s b c L O a)(l:Cd L B k)(m:∀(q:k<y L),kH B L[k].eJ=cz)(p:Y):kD p O.flatten B=dE:=by
 refine tB<|λx n e=>?_;let⟨i,g⟩:=h.CU l x n e;have d:k<y L:=bP h.dL;have o:=h.l k d i;have j:=m d;have f:gG O[k]:=h.o.kE<|eC<|aB i;rw[o.eJ,<-e,f.xU o.ne g]at j;cases j
def nY.Ec(h:nY s b c L O a)(f:Cd L B k)(e:k<y O)(d:Y):kD d O.flatten B=kD d O[k] B:=CV e (h.CU f) h.L d
def Up(V:jv)(w c:Z)(d:Option E)(e:Ending):Prop:=∃(b:E)(ok:eN)(a:ae),e=aN (de #[b.t,aO ok,a])/\(de #[b.t,aO ok,a]=Hs d\/V.Xp/\b=zE/\ok=bD/\∃q,a=eW q/\tD c q)/\V.D c/\I V.F w c
def L9(t:TypeId)(a b:af):binOp .gtr t (aw a) (aw b)=pure (aO !(Op.bytesLess a.toList b.toList||a.toList==b.toList)):=by simp[binOp,Op.stringOp]
def Uc(a b:af):(!(Op.bytesLess a.toList b.toList||a.toList==b.toList))=kH b a:=by
 show(!(kH a b||a.toList==b.toList))=kH b a;grind[td,Ao,jr,ow]
def ED{n0 j8:R}{ks:ld}{cs:iG}(d:af)(C:Y)(h:nY s n0 j8 ks cs a)(hD:s.D a)(n:n0<=G (H a))(hF:∀o,s.F o->o<n0):cR bN 337 #[aJ j8,aw d,bw C] a λao w'=>Up s a w' (kD C cs.flatten d) ao:=by
 let⟨o,r⟩:=UP h.A d;have L:gD (G<|H a) a (dw a<|aK #[aw ⟨#[]⟩,aw ⟨#[]⟩,aO bD,bw 0] 223):=(Below.refl _ a).alloc (aq _) _;let⟨dv,ap,bk,bg,bo,bi,B,u,bl,hm,bn,bm⟩:=h.D;have l:=hm.lt;have al:=h.dL;have:=hm.f;have Q:cR bN 341 #[aJ j8,aw d] (dw a<|aK #[aw ⟨#[]⟩,aw ⟨#[]⟩,aO bD,bw 0] 223) λao w'=>ao=aN (ay o)/\gD (G<|H a) a w'/\jQ w' (G<|H a) zE:=by go_call CB d (hm.dD L l.1 l.2) h.A as ao w'⟨m,rfl,t,w,x,f⟩;obtain rfl:o=m:=r.eq ⟨t,w,x⟩;exact⟨z,L.trans<|f.mono L.size,(f.block _ ar).trans<|aQ _ z⟩
 have N:∀W,gD (G<|H a) a W->bA W (X j8 5)=M (bX bi B (y ks) u):=λW v=>by rw[cE (hm.dD v l.1 l.2).g];rfl
 have D:=ak N;have A:∀av,n0<=av->¬s.F av:=aI;have F:=ak<|λW(v:gD (G<|H a) a W)=>s.l hD (I.p (S:=aC) v) cY;have:=L9;by_cases O:o<y ks
 .have ab:∀W,gD (G<|H a) a W->bA W (X bi<|B+o*5+3)=M (aw ks[o].eJ):=λW v=>by rw[bJ];exact(hm.dD v l.1 l.2).bU _ _<|ju ks o 3 O cg
  have V:=ak ab;have e1:((o:Y)==(y ks:Y))=bD:=by simp;omega
  have:(o:Y)<(y ks:Y):=U;have:(0:Y)<=(o:Y):=U;have ad:=Uc ks[o].eJ d;cases hfk:kH d ks[o].eJ with
  |true=>
   rw[hfk]at ad;have g:=h.AT r (λ_=>hfk) C;rw[g];generalize ks[o].eJ=fk at*;go_in
   go_wp2_with(go_at_call 341;refine Q.mono ?_;rintro ao j⟨rfl,c,b⟩;have N:=D j c;have ab:=V j c;let⟨z0,z1,z2,z3⟩:=b.bU;have y0:=b.bS (i:=0);have y1:=b.bS (i:=1);have y2:=b.bS (i:=2);have y3:=b.bS (i:=3);have k:=ak b;have e:=ak c)
   refine ci (gZ z _ _ (G<|H a) zE _ _ z<|k.gL zE) z ?_;have p:gD (G<|H a) a (yp j (G<|H a) zE):=e.trans<|(kr j (G<|H a) zE).dD e.size<|λav hx=>U;exact⟨zE,bD,ic,z,J z,F _ p,I.p p⟩
  |false=>
   rw[hfk]at ad;have x:o<y cs:=U;rw[h.Ec r x C];have bf:gG cs[o]:=h.o.kE<|eC<|aB x;have:=h.f _<|aB x;let⟨aV,ba,HL⟩:=eU (λW(v:gD (G<|H a) a W)=>Oh (h.bM<|(I.p (S:=aC) v).bM n cY cY) (F W v) (aR n v.size) hF o O x) bf al;generalize ks[o].eJ=fk at*;generalize cs[o]=bh at*;have ac:=(λe(w2 j:Z)(a:fE w2 (G<|H j) 223 4 e (y bh) (bj bh))=>CL d C (dQ a) ba U<|λc b=>(a.lt c b).2);go_in
   go_wp2_with(go_at_call 341;refine Q.mono ?_;rintro ao j⟨rfl,c,b⟩;have N:=D j c;have:=V j c;have bd:=aV j c;have k:=ak b;have e:=ak c)
   go_call bd as ao w2(⟨v2,rfl,P,K,t⟩|⟨hX,q,rfl,hq,K,t⟩)
   .have w:=ac v2 w2 j P;let⟨aD,ax,bb⟩:=eU (k.aA t<|A _ n) K t;let⟨g9,ok,hy⟩:∃(g9:E)(ok:eN),Hs (kD C bh d)=de #[g9.t,aO ok,ic]:=by
     cases kD C bh d with
     |none=>exact⟨zE,bD,z⟩
     |some av=>exact⟨av,cz,z⟩
    rw[hy]at w;let⟨xk,xv,xd,xb⟩:=g9;unfold E.t at w;simp only at w;go_wp2_with(go_at_call 331;refine w.mono ?_;rintro ao w3⟨rfl,aa⟩;have f:=aD.aA (I.p (S:=aC) aa)<|λbh=>bh;let⟨z0,z1,z2,z3⟩:=f.bU;have y0:=f.bS (i:=0);have y1:=f.bS (i:=1);have y2:=f.bS (i:=2);have y3:=f.bS (i:=3);have aU:=ak f;have T:=ak aa)
    refine ci (gZ z _ _ (G<|H a) ⟨xk,xv,xd,xb⟩ _ _ z<|aU.gL ⟨xk,xv,xd,xb⟩) z ?_;have an:I s.F a w3:=((I.p (S:=s.F) e).aj bb<|λo r=>J r).aj (I.p (S:=s.F) T)<|λo r=>J r;have m:=kr w3 (G<|H a) ⟨xk,xv,xd,xb⟩;have bc:=s.l ax (I.p (S:=aC) T) cY;exact⟨⟨xk,xv,xd,xb⟩,ok,ic,z,J hy.symm,s.l bc m (λav hx=>by subst hx;exact A _ n),an.aj m ar⟩
   .have f:=k.aA t<|A _ n;let⟨z0,z1,z2,z3⟩:=f.bU;have y0:=f.bS (i:=0);have y1:=f.bS (i:=1);have y2:=f.bS (i:=2);have y3:=f.bS (i:=3);go_wp2;refine ci (gZ z _ _ (G<|H a) zE _ _ z<|f.gL zE) z ?_;have m:=kr w2 (G<|H a) zE;exact⟨zE,bD,eW q,z,bu ⟨hX,z,z,q,z,hq.aA m f.nZ⟩,s.l K m (λav hx=>by subst hx;exact A _ n),((I.p (S:=s.F) e).aj t<|λo r=>J r).aj m ar⟩
 have f:o=y ks:=bP r.le;have g:=h.AT r (λa=>absurd a O) C;rw[g];(have:((o:Y)==(y ks:Y))=cz:=by simp;omega);subst f;(go_in);(go_wp2_with(go_at_call 341;refine Q.mono ?_;rintro ao j⟨rfl,c,b⟩;have:=D j c;let⟨z0,z1,z2,z3⟩:=b.bU;have:=b.bS (i:=0);have:=b.bS (i:=1);have:=b.bS (i:=2);have:=b.bS (i:=3);have k:=ak b;have e:=ak c));refine ci (gZ z _ _ (G<|H a) zE _ _ z<|k.gL zE) z ?_;have p:gD (G<|H a) a (yp j (G<|H a) zE):=e.trans<|(kr j (G<|H a) zE).dD e.size<|λav hx=>U;exact⟨zE,bD,ic,z,J z,F _ p,I.p p⟩
section
open Shelf
attribute [local go_sem] Oper.semAt_some
theorem fj{w:Z}{g base' m a n:R}(h:fE w g m a d n Q)(k:base'<=g):fE w base' m a d n Q:=by
 let⟨j,e⟩:=h;refine⟨j,?_⟩;obtain e|⟨r,c,i,o,b,p,q⟩:=e;exact J e;exact bu ⟨r,c,i,o,aR k b,p,q⟩
def OC(a:eD)(l:dB):y (gw a l)<=y l:=(oF a l).length_le
def lG.aA{S:fC}{w w':Z}{l:dB}(h:lG w d l)(a:I S w w')(c:∀k,cN d=M k->¬S k/\k<G (H w)):lG w' d l:=a.bV h c
def lG.Gg(h:lG a d i)(l:0<y i):∃f b c,d=bX f b (y i) c/\y i<=c:=by
 obtain⟨j,⟨rfl,g⟩|⟨f,b,c,rfl,e,k⟩⟩:=h;omega;grind
def yx(b:eD)(h:lG a d i)(hs:yP i)(hl:y i<=3000000000)(hm:Row a 1 w (y b) (b.map<|Value.int .u64))(em:y b<=1000)(hv:∀k,cN d=M k->k<G (H a))(ad:∀k,cN w=M k->k<G (H a)):cR bN 94 #[d,w] a λcl w'=>∃v',cl=aN v'/\fE w' (G<|H a) 223 4 v' (y<|gw b i) (bj<|gw b i)/\I aC a w':=by
 let⟨i0,bE,ce,ch,cj⟩:=cZ oP;let⟨dv,T,cc⟩:=cG h;let⟨mx,mc,bT⟩:=cG hm;have cT:=CQ d dv (y i) T cc;subst bT;subst cc;refine(ew (n:=3)).1 ?_;refine callsIn_of_wp_marks func94 z trivial ?_ z;simp only[ntmps94,gp,bK,eE,ke,Nat.reduceSub,fh,fc,gq,fH,ep,dt];gi_wp2_with(refine⟨trivial,?_⟩;gi_at_call 142;refine(ew.2<|cT _).mono ?_;rintro cl w1⟨rfl,rfl⟩)
 let⟨l,v⟩:∃l,(dw (dw (dw a<|aK #[am mx (y b) mc] 208)<|aK #[aF] 103)<|aK #[am dv (y i) T] 103)=l:=⟨_,rfl⟩;have:G (H l)=G (H a)+3:=by rw[<-v];simp
 have bh:I aC a l:=v▸((cI aC a).aE _).aE _;have cx:fF l (G<|H a) (am mx (y b) mc) 208:=by rw[<-v];grind[fF.aE,aQ]
 have cB:fF l (G (H a)+1) aF 103:=v▸fF.aE (aQ _ ar) _;have cM:fF l (G (H a)+2) (am dv (y i) T) 103:=v▸aQ _ ar;have aV:lG l (am dv (y i) T) i:=h.aA bh<|λk c=>⟨id,hv k c⟩;have hA0:ua l (λk=>k=G (H a)+2) (G (H a)+1) (gw b<|jj []) (λk=>k=G (H a)+1) l:=⟨⟨_,cB,ct _ _ _ _,λk=>by simp[cN]⟩,I.bI _ _⟩;rw[v];refine tL (m:=3) (arg:=IZ<|am dv (y i) T) (V:=CY) (n0:=G<|H a) (gf:=209) (lb:=#[aJ<|G (H a)+2]) (l:=pM 0<|ji i) (S:=λk=>k=G (H a)+2) ?geval (enters_of func209 aH z) (λ_=>rfl) (yD (G<|H a) 2 cM aV hv U U) trivial U (λk c=>U) (λe bl bk=>ua l (λk=>k=G (H a)+2) (G (H a)+1) (gw b<|jj e) bl bk) (λ_ _ _ _=>False) (λk=>k=G (H a)+1) hA0 (λk c T=>U) ?lt ?st ar ?body ?done ?stop;rfl;exactλe bl bk W=>W.lt U U;(case st=>intro e bl bk g j W ht f;refine W.gR ht<|λk c=>⟨(f k c).1,?_⟩;obtain T|T|T:=(f k c).2;exact J T;exact T.elim;exact bu T);(case stop=>grind)
 .rintro lr e⟨cm,m⟩bl bk el cs dr F W _;let⟨hn,eo,c⟩:=LO hs F;have:0<y m:=ja.2 c.ne;have:cm+y m+y eo=y i:=by rw[c.dq,hn];simp;omega
  let⟨cn,u,eb,hx,ek⟩:=aV.Gg U;cases hx;have aa:=Da aV c.dq c.ne;rw[<-hn]at aa;unfold IZ;unfold Bz at aa|-;simp only at aa|-;have:∀k,bl k->k<G (H bk):=λk c=>(W.lt (n0:=G<|H a) U U k c).2;let⟨HA,HK,HP,HN⟩:=js W c F hn;clear W F c hn;gi_wp2;refine⟨(cI _ _),λW2 cb=>?_⟩;have bg:I (λk=>k=lr) bk W2:=(cI (λk=>k=lr) bk).aj cb<|λk c=>J c;have hA2:=HA.gR bg<|λk c=>aI;have bc:fF W2 (G<|H bk) (bX cn (u+cm*4) (y m)<|T-cm) 103:=(cb.A _ ar U).trans<|aQ _ z;have:=bc.u;have:=bg.D;have cv:G (H bk)<G (H W2):=az bc;have:cn<G (H a):=hv cn z;gi_wp2;gi_loopw [15] (λc wr=>∃(j:R)(Q:fC),c=ay j/\j<=y m/\ua l (λk=>k=G (H a)+2) (G (H a)+1) (gw b (jj e)++gw b (m.take j)) Q wr/\I bl W2 wr/\(∀k,Q k->bl k\/G (H W2)<=k)) (λc _=>y m-(intOf c).toNat)
  .exact⟨0,bl,z,bQ _,by simpa[gw,nT]using hA2,I.bI _ _,λk c=>J c⟩
  .obtain⟨j,Q,rfl,ei,hA1,o,aU⟩:=hrel;by_cases s:j<y m
   .have ba:lG wr (bX cn (u+cm*4) (y m)<|T-cm) m:=aa.aA hA1.aA<|λk c=>(show cn=k by simpa[cN]using c)▸U;have bx:fF wr (G<|H a) (am mx (y b) mc) 208:=(hA1.aA.A _ U U).trans cx;have dc:Row wr 1 (am mx (y b) mc) (y b) (b.map<|Value.int .u64):=hA1.aA.bV (bh.bV hm<|λk c=>⟨id,ad k c⟩)<|λk c=>zZ<|ad k c;have ab:fF wr (G<|H bk) (bX cn (u+cm*4) (y m)<|T-cm) 103:=(o.A _ cv aI).trans bc;let⟨lv,t,A,bL⟩:=hA1.bV;let⟨ex,ec,bd⟩:=aM A;have ej:=t.u;have:=t.bS;have:=bx.u;have:=ab.u;obtain⟨ed,⟨bq,cu⟩|⟨b',ds,dk,bq,cu,n⟩⟩:=id ba
    .omega
    cases bq;have ac:=fI m j s;have g0:=n _ _ ac.1;have g1:=n _ _ ac.2.1;have g2:=n _ _ ac.2.2.1;have g3:=n _ _ ac.2.2.2;simp only[<-bJ]at g1 g2 g3;have e1:(j:Y)<(y m:Y):=U;have:(0:Y)<=(j:Y):=U;have:=az bx;have db:=az t;have dd:=az ab;have bv:cn<G (H wr):=cA _ _ g0;have:y (gw b (jj e)++gw b (m.take j))+1<=20000000000:=by
     have q1:=OC b<|jj e;have q2:=OC b<|m.take j;have q3:y (jj e)=cm:=HN.symm;have:=uk j m;rw[ai];omega
    have ca:=VC (ms:=b) HK.bM s;have B:=ak (show∀(r q:Z)v5,I aC wr r->fo r q lv v5->fE q (G<|H l) 223 4 v5 (y (gw b (jj e)++gw b (m.take j))+1) (bj (gw b (jj e)++gw b (m.take j))++bj [m[j]])->wanted b m j s=cz->∃Q,ua l (λk=>k=G (H a)+2) (G (H a)+1) (gw b (jj e)++gw b (m.take<|j+1)) Q (cP q (X (G (H a)+1) 0) v5)/\I bl W2 (cP q (X (G (H a)+1) 0) v5)/\(∀k,Q k->bl k\/G (H W2)<=k)fromλr q v5 ht D C p=>by
     let⟨x,q1,q2,q3⟩:=hA1.jl (xs:=[m[j]]) U t ht D C;rw[ca,fW p,<-cw];refine⟨x,q1,o.aj q2 aU,λk c=>?_⟩;grind[Nat.le_trans,I.D])
    have av:=ak (show∀(r:Z),I aC wr r->wanted b m j s=bD->ua l (λk=>k=G (H a)+2) (G (H a)+1) (gw b (jj e)++gw b (m.take<|j+1)) Q r/\I bl W2 r fromλr ht p=>by
     rw[ca,fN (by simp[p]),eu];exact⟨hA1.gR ht cY,o.t ht⟩)
    let⟨bm,bo,al,ea,cr,ao,an,dx,dT⟩:=Hp hA1 o aU ba dc t A ab n;generalize dn:gw b (jj e)++gw b (m.take j)=f at*;subst bd;have co:=ak (show 0<j->∀a d:Z,I aC wr a->gD (G<|H a) a d->fF a (G<|H wr) (ay j) 3->jQ a (G (H wr)+1) m[j]->∀ck,cR bN 143 (#[bw ck]++#[aJ<|G (H wr)+1,aJ<|G<|H bk,aJ<|G<|H wr]) d λcl b=>cl=aN (aO<|decide (m[j].f<=ck)&&decide (ck<(m[j-1]'U).f))/\gD (G<|H d) d b fromλh0 a d C x q1 q2 ck=>by
     apply(OA j ck s h0 U (q2.dD x (az q2)) ((x.block _ aI).trans ((C.A _ dd id).trans ab)) ((ba.aA C (λk c=>⟨id,(show cn=k by simpa[cN]using c)▸bv⟩)).dD x (λk c=>(show cn=k by simpa[cN]using c)▸au bv C.D)) ((x.block _ (az q1)).trans q1)).mono;grind[Below.refl])
    have bp:=ak<|show wanted b m j s=(decide (j=0)||b.any (λck=>decide (m[j].f<=ck)&&decide (ck<(m[j-1]'U).f)))from rfl;generalize eg:m[j]=g9 at*;let⟨O,P,N,L⟩:=g9;simp only at g0 g1 g2 g3;obtain h0|h0:=fO j
    .subst h0;simp only[xX,mf]at g0 g1 g2 g3;have g:I aC wr (dw (dw wr<|aK #[ay 0] 3)<|aK #[aw O,aw P,aO N,bw L] 223):=(cI _ _).aE _;have C:=ak<|g.aZ an<|λ_ _ T=>T;have x:=ak (show∀q:Z,(dw (dw (dw wr<|aK #[ay 0] 3)<|aK #[aw O,aw P,aO N,bw L] 223)<|aK #[aw O,aw P,aO N,bw L] 223).grownBy q (cN<|am ex (y f) ec)->bA q (X (G (H a)+1) 0)=M (am ex (y f) ec)/\iI q (X (G (H a)+1) 0)=bD fromλq hg=>by
      have hb:fF q (G (H a)+1) (am ex (y f) ec) 103:=(hg.block _ (by have:=az ao;simp;omega) (λcl=>bP ((an.lt _ cl.symm).1))).trans (fF.aE (fF.aE (fF.aE ao _) _) _);exact⟨hb.u,hb.bS⟩)
     gi_wp2_with fail
     refine⟨trivial,?_⟩;gi_wp2_with(first
      |(gi_at_builtin;refine gm _ z (.tmp 28) (.tmp 30) 103 z (G (H l)) 223 i0 yu 4 48 underlying103 bE ce ch cj z cg (.slice ex (y f) ec) (y f) (bj f) z (bC C (.cells #[.string O,.string P,.bool N,.int .u64 L] 223)) (X (G (H wr)+1+1) 0) 1 1 (bj [⟨O,P,N,L⟩]) z (by rw[ie];rfl) (AW ⟨O,P,N,L⟩ _ ar) (DT _) U U dW ?_;intro v5 q E K;let⟨x5,c5,bi⟩:=aM E;subst bi;have D:=x q K.dF;let⟨ax,bb⟩:=D;have ap:=ak E;have aD:=ak K))
     refine⟨⟨1,?_⟩,by simp[intOf];omega⟩;let⟨B2,r1,r2,r3⟩:=B _ q _ ((g).aE _) aD ap (by rw[ag bp];simp);grind
    .have:((j:Y)==0)=bD:=by simp;omega
     let⟨r,x⟩:∃r,dw (dw wr<|aK #[ay j] 3) (aK #[aw O,aw P,aO N,bw L] 223)=r:=⟨_,rfl⟩;have g:I aC wr r:=x▸(cI _ _).aE _;have D:=Mt #[aJ<|G (H wr)+1,aJ<|G<|H bk,aJ<|G<|H wr] b _ (enters_of func143 aH z) (g.bV cr<|λk c=>⟨id,bP<|ad k c⟩) (λk c=>gW (ad k c) g.D) U<|λck _ d a=>co h0 r d g a (by rw[<-x];grind[fF.aE,aQ]) (x▸aQ _ ar) ck;have cd:=ag bp;rw[show decide (j=0)=bD by simp;omega,Be]at cd;rw[<-cd]at D;have br:jQ r (G (H wr)+1) ⟨O,P,N,L⟩:=x▸aQ _ ar;have bs:fF r (G (H a)+1) (am ex (y f) ec) 103:=(g.A _ db id).trans ao;have:=g.D;cases p:wanted b m j s with
     |true=>
      rw[p]at D;subst x;gi_wp2_with fail
      refine⟨trivial,(CallsIn.inRound lr<|ew.2 D).mono ?_⟩;rintro cl w4⟨rfl,C⟩;have bf:=g.t<|I.p (S:=aC) C;have n:=br.dD C<|az br;have bb:fF w4 (G (H a)+1) (am ex (y f) ec) 103:=(C.block _<|az bs).trans bs;let⟨z0,z1,z2,z3⟩:=n.bU;simp only at z0 z1 z2 z3;have:=bb.u;let⟨bn,ax,cp⟩:=eU (bf.aZ an<|λ_ _ T=>T) bf bb;have:=bf.D;have:=az n;have:=az bb;generalize G (H wr)+1=en at*;gi_wp2_with(first
       |(gi_at_builtin;refine gm _ z (.tmp 28) (.tmp 30) 103 z (G (H l)) 223 i0 yu 4 48 underlying103 bE ce ch cj z cg (.slice ex (y f) ec) (y f) (bj f) z (bC bn (.cells #[.string O,.string P,.bool N,.int .u64 L] 223)) (X (G (H w4)) 0) 1 1 (bj [⟨O,P,N,L⟩]) z (by rw[ie];rfl) (AW ⟨O,P,N,L⟩ _ z) (DT _) U U dW ?_;intro v5 q E K;let⟨x5,c5,bi⟩:=aM E;subst bi;have bt:fF q (G (H a)+1) (.slice ex (y f) ec) 103:=(K.dF.block _ dW (λcl=>bP ((bn.lt _ cl.symm).1))).trans (cp.aE _);have:=bt.u;have:=bt.bS;have ap:=ak E;have aD:=ak K))
      refine⟨⟨j+1,?_⟩,by simp[intOf];omega⟩;let⟨B2,r1,r2,r3⟩:=B _ q _ (ax.aE _) aD ap p;exact⟨B2,dM,U,r1,r2,r3⟩
     |false=>
      rw[p]at D;subst x;gi_wp2_with fail
      refine⟨trivial,(CallsIn.inRound lr<|ew.2 D).mono ?_⟩;rintro cl w4⟨rfl,C⟩;have ax:=ak<|g.t<|I.p (S:=aC) C;gi_wp2;refine⟨⟨j+1,?_⟩,by simp[intOf];omega⟩;let⟨r1,r2⟩:=av _ ax p;exact⟨Q,dM,U,r1,r2,al⟩
   .have f:j=y m:=U;have:((j:Y)<(y m:Y))=False:=by simp;omega
    let⟨bm,bo,al⟩:=eU hA1 o aU;gi_wp2;have o:=ag bo;have hA1:=ag bm;refine⟨trivial,Q,?_,(bg.aT ar).aj o aI,o.A lr U cs,λk c=>(al k c).imp_right<|λT=>U⟩;show ua l _ _ (gw b<|jj<|e++[(cm,m)]) Q wr;rwa[vH,(ag HK).A,show gw b m=gw b (m.take j)by rw[f,cQ]]
 (case done=>intro D bl bk m W g _ j;obtain⟨lv,t,A,bL⟩:=W.bV;rw[CT]at A;obtain⟨ex,ec,bd⟩:=aM A;have:=t.u;have:=az j;subst bd;gi_wp2;have f:=iC bk D<|.deferred dE;refine⟨ar,J ⟨_,_,z,run_takeDeferred j,?_⟩⟩;refine⟨_,gH z _ _ _,?_⟩;have hx:=f.aZ A<|λk c T=>g<|(bL D).2 aI;refine⟨_,z,fj hx U,bh.aj (W.aA.aj f aI) ar⟩)
end
def Wz(c:dB)(x:E):iH (c++[x])=iH c++yJ x:=by simp[iH]
def Ae(c d:dB):iH (c++d)=iH c++iH d:=by simp[iH]
def Ug{c:dB}(h:∀x∈c,x.Good):y (iH c)<=35*y c:=by
 induction c with
 |nil=>simp[iH]
 |cons x r d=>
  have:=Ad<|h x ar;have:=d (λa b=>h a<|by simp[b]);have e:iH (x::r)=yJ x++iH r:=by simp[iH]
  rw[e,ai,bK];omega
def GG(h:lG a d i)(hv:∀ab,cN d=M ab->ab<G (H a))(hg:∀aU∈i,aU.Good)(hl:y i<=1000):cR bN 253 #[d] a λac w'=>∃v',ac=aN v'/\fA w' (G<|H a) v' (iH i)/\I aC a w':=by
 let⟨aU,al,aa⟩:=cG h;subst aa;go_in
 go_wp2;go_loopw [3,8] (λc b wr=>∃g:R,g<=y i/\b=ay g/\fA wr (G<|H a) c (iH<|i.take g)/\I aC a wr) (λ_ b _=>y i-(intOf b).toNat)
 exact⟨0,bQ _,z,by simpa[iH]using fA.km _ _,I.bI _ _⟩
 .obtain⟨g,hi,rfl,v,C⟩:=hrel;let⟨B,A,t⟩:=aM v;by_cases m:g<y i
  .have l:=hg _<|aB m;obtain⟨ao,⟨w,K⟩|⟨ad,u,an,w,K,L⟩⟩:=h
   .omega
   cases w;have O:ad<G (H a):=hv ad z;have j:∀a b,(bj i)[a]?=M b->bA wr (X ad<|u+a)=M b:=λa b c=>C.u (L a b c) id O;have k:=fI i g m;have g0:=j _ _ k.1;have g1:=j _ _ k.2.1;have g2:=j _ _ k.2.2.1;have g3:=j _ _ k.2.2.2;simp only[<-bJ]at g1 g2 g3;have av:y (iH<|i.take g)<=35000:=by
    have:=Ug (c:=i.take g)<|λF a=>hg F<|iy a;have:=uk g i;omega
   have E:=ak (show iH (i.take<|g+1)=iH (i.take g)++yJ i[g]by rw[aG m,Wz]);have ax:=C.D;have c:cN (am B (y<|iH<|i.take g) A)≠M (G<|H wr):=λac=>by rw[<-t]at ac;have:=(v.lt _ ac).2;omega
   have e1:(g:Y)<(y i:Y):=U;have e2:(0:Y)<=(g:Y):=U;generalize iH (i.take g)=s at*;subst t;generalize i[g]=F at*;let⟨q,r,p,f⟩:=F;simp only at g0 g1 g2 g3;have k1:=l.f;have k2:=l.l;have k3:=l.b0;have k4:=l.b1;simp only at k1 k2 k3 k4;have N:fA (dw wr<|aK #[aw q,aw r,aO p,bw f] 223) (G<|H a) (am B (y s) A) s:=bC v _;go_wp21;go_region_held3(λg=>bA g (X (G<|H wr) 0)=M (aw q)/\bA g (X (G<|H wr) 1)=M (aw r)/\bA g (X (G<|H wr) 2)=M (aO p)/\bA g (X (G<|H wr) 3)=M (bw f)) (first|assumption|go_keep) (first
    |(go_at_call 224;refine(rj (n6:=G<|H a) (v:=(.slice B (y s) A)) (bs:=s) f (w:=(dw wr<|.cells #[.string q,.string r,.bool p,.int .u64 f] 223).drew) (N.df z) dW U k3 k4).mono ?_;rintro ac x⟨v1,rfl,Q,b⟩;have n:cN v1≠M (G<|H wr):=b.ne c ar;have o:bA x (X (G<|H wr) 0)=M (.string q)/\bA x (X (G<|H wr) 1)=M (.string r)/\bA x (X (G<|H wr) 2)=M (.bool p)/\bA x (X (G<|H wr) 3)=M (.int .u64 f):=⟨b.u ar c,b.u ar c,b.u ar c,b.u ar c⟩;have aD:G (H wr)<G (H x):=(by have:=b.dF.size;simp at this;omega);have O1:=ak Q;have W1:=ak b)
    |(go_at_call 226;refine(TP (G (H a)) v1 (s++le 8 f) ⟨q,r,p,f⟩ _ ?_ U (by simp[dh];omega) aI aI).mono ?_;exact O1.df z;rintro ac D⟨v2,rfl,T,e⟩;have ap:bA D (X (G (H wr)) 0)=M (.string q)/\bA D (X (G (H wr)) 1)=M (.string r)/\bA D (X (G (H wr)) 2)=M (.bool p)/\bA D (X (G (H wr)) 3)=M (.int .u64 f):=⟨e.u o.1 n,e.u o.2.1 n,e.u o.2.2.1 n,e.u o.2.2.2 n⟩;have O2:=ak T;have W2:=ak (W1.aj e)))
   go_wp2;have hW:=ag W2;have V:I aC a (dw wr<|aK #[aw q,aw r,aO p,bw f] 223):=C.aE _;have W:I aC a (dw wr<|aK #[aw q,aw r,aO p,bw f] 223).drew:=V.aj (S:=aC) ⟨z,z,z,aq _,λ_ _ _=>rfl⟩<|λ_ al=>J al;refine⟨⟨g+1,m,dM,?_,W.aj (I.eF (S:=λab=>cN (am B (y s) A)=M ab) hW.dF<|λab P=>J P)<|λab P=>bu (v.lt ab P).1⟩,by simp[intOf];omega⟩;rw[ag E];have:=ag O2;rwa[cw]at this
  .have b:g=y i:=U;have:((g:Y)<(y i:Y))=False:=by simp;omega
   subst t;rw[b,cQ]at v|-;go_wp2;go_ret;exact⟨_,z,v,C⟩
section
open Shelf
attribute [local go_sem] Oper.semAt_some
def z8(l:dB):y (kN l)<=y l:=(nV l).length_le
def ZS(h:(bj<|i.take b)[c]?=M d):(bj i)[c]?=M d:=by
 grind[ig,take_append_drop,getElem?_append_left,List.getElem?_eq_some_iff]
def zce:ae->R
 | .slice _ n _=>n
 |_=>0
def Ql(h:lG a d i)(hs:gG i)(hl:y i<=3000000000)(hv:∀k,cN d=M k->k<G (H a)):cR bN 198 #[d] a λbr w'=>∃v',br=aN v'/\fE w' (G<|H a) 223 4 v' (y<|kN i) (bj<|kN i)/\I aC a w':=by
 let⟨i0,bb,bh,bi,bk⟩:=cZ oP;let⟨bp,u,W⟩:=cG h;have bc:=CQ d bp (y i) u W;have HH:=ak h;clear h;subst W;refine(ew (n:=3)).1 ?_;refine callsIn_of_wp_marks func198 z trivial ?_ z;simp only[ntmps198,gp,bK,eE,ke,Nat.reduceSub,fh,fc,gq,fH,ep,dt];gi_wp2_with(refine⟨trivial,?_⟩;gi_at_call 142;refine(ew.2<|bc _).mono ?_;rintro br w1⟨rfl,rfl⟩)
 let⟨l,o⟩:∃l,(dw (dw a<|aK #[aF] 103)<|aK #[am bp (y i) u] 103)=l:=⟨_,rfl⟩;have:G (H l)=G (H a)+2:=by rw[<-o];simp
 have T:I aC a l:=o▸(cI aC a).aE _;have aU:fF l (G<|H a) aF 103:=by rw[<-o];grind[fF.aE,aQ]
 have aV:fF l (G (H a)+1) (am bp (y i) u) 103:=o▸aQ _ ar;have x:lG l (am bp (y i) u) i:=HH.aA T<|λk b=>⟨id,hv k b⟩;have hA0:ua l (λk=>k=G (H a)+1) (G<|H a) (kN<|jj []) (λk=>k=G (H a)) l:=⟨⟨_,aU,ct _ _ _ _,λk=>by simp[cN]⟩,I.bI _ _⟩;rw[o];refine tL (m:=3) (arg:=IZ<|am bp (y i) u) (V:=CY) (n0:=G<|H a) (gf:=209) (lb:=#[aJ<|G (H a)+1]) (l:=pM 0<|ji i) (S:=λk=>k=G (H a)+1) ?geval (enters_of func209 aH z) (λ_=>rfl) (yD (G<|H a) 2 aV x hv U U) trivial U (λk b=>U) (λf bl ap=>ua l (λk=>k=G (H a)+1) (G<|H a) (kN<|jj f) bl ap) (λ_ _ _ _=>False) (λk=>k=G (H a)) hA0 (λk b u=>U) ?lt ?st (λ_ _ _ _ _ _ h=>h.elim) ?body ?done ?stop;rfl;exactλf bl ap p=>p.lt U U;intro f bl ap n r p e c;refine p.gR e<|λk b=>⟨(c k b).1,?_⟩;obtain u|u|u:=(c k b).2;exact J u;exact u.elim;exact bu u;(case stop=>grind)
 .rintro lr f⟨ab,s⟩bl ap bx av bn v p _;let⟨hn,bE,b⟩:=LO hs.zy v;have:0<y s:=ja.2 b.ne;have:ab+y s+y bE=y i:=by rw[b.dq,hn];simp;omega
  let⟨ac,e,bs,hx,bv⟩:=x.Gg U;cases hx;have n:=Da x b.dq b.ne;rw[<-hn]at n;unfold IZ;unfold Bz at n|-;simp only at n|-;have:∀k,bl k->k<G (H ap):=λk b=>(p.lt (n0:=G<|H a) U U k b).2;have:y s<=u-ab:=U;generalize u-ab=bq at*;let⟨HA,HK,HN⟩:=eU p b hn;clear p v b hn;gi_wp2;refine⟨I.bI _ _,λW2 F=>?_⟩;have hA2:=HA.gR F<|λk b=>aI;have:ac<G (H a):=hv ac z;have O:lG W2 (bX ac (e+ab*4) (y s) bq) s:=n.aA hA2.aA<|λk b=>(show ac=k by simpa[cN]using b)▸⟨λq=>by obtain q|q:=q<;>omega,U⟩;obtain⟨ax,⟨N,aD⟩|⟨b',bo,bm,N,aD,A⟩⟩:=id O
  .omega
  cases N;let⟨lv,j,g,C⟩:=hA2.bV;let⟨ex,ec,D⟩:=aM g;have bt:=j.u;have:=j.bS;have bd:=az j;have:=F.D;have aa:G (H l)<=G (H W2):=hA2.aA.D;have:y (kN<|jj f)+y s<=3000000000:=gW (z8<|jj f)<|ag HN;clear C O n ax;generalize P:kN (jj f)=t at*;subst D;gi_wp2;gi_loop [4] (λa=>∃L:R,L<=y s/\a=bX ac (e+ab*4) L bq/\xB s=xB (s.take L)) zce
  .exact⟨y s,aq _,z,by rw[cQ]⟩
  .obtain⟨L,hj,rfl,Q⟩:=hrel;have c:(L=0\/∃h:L-1<y s,s[L-1].dP=bD)\/∃r,∃_:r<y s,L=r+1/\s[r].dP=cz:=by
    grind
   obtain c|⟨r,hp,rfl,hd⟩:=c
   .have an:=ak<|Uw hj Q c;have ba:(L=0\/∃r,L=r+1/\bA W2 (X ac<|e+ab*4+r*4+2)=M (aO bD)):=by
     obtain h|⟨h1,h2⟩:=c
     .exact J h
     .cases L with
      |zero=>exact J z
      |succ r=>
       have g2:=A _ _ (fI s r U).2.2.1;rw[<-bJ]at g2;grind
    have ad:=ak (show∀i u,(bj<|s.take L)[i]?=M u->bA W2 (((X ac<|e+ab*4):Addr).add i)=M u fromλi u a=>by rw[dS];exact A _ _<|ZS a);have w:=ak (show y (s.take L)=L by simp;omega);clear c;have bf:=ag w;generalize s.take L=gj at*;obtain rfl|⟨r,rfl,g2⟩:=ba;case' inr=>
     have e2:(0:Y)<=(r:Y):=U;have e3:(r:Y)<(r:Y)+1:=U;have e4:(0:Y)<(r:Y)+1:=U
    all_goals
     clear bf;gi_wp2_with(first
      |(gi_at_builtin;refine gm _ z (.tmp 25) (.tmp 26) 103 z (G (H l)) 223 i0 yu 4 48 underlying103 bb bh bi bk z cg (.slice ex (y t) ec) (y t) (bj t) z g (X ac (e+ab*4)) _ bq (bj gj) z (by rw[ie,ag w]) ad (YC gj) U U aa ?_;intro v5 w5 E K;let⟨x5,c5,bg⟩:=aM E;subst bg;have B:fF w5 (G (H a)) (.slice ex (y t) ec) 103:=(K.dF.block _ bd (λbr=>bP ((g.lt _ br.symm).1))).trans j;have:=B.u;have:=B.bS;have al:=ak E;have ao:=ak K;clear E K B))
     let⟨B2,r1,r2,r3⟩:=hA2.jl (xs:=gj) U j (I.bI _ _) ao<|ag w▸al;refine⟨trivial,B2,?_,(F.aT<|λk b=>J<|bu b).aj r2<|λk b=>J<|J b,r2.A lr U av,λk b=>(r3 k b).imp_right<|λu=>U⟩;show ua l _ _ (kN<|jj<|f++[(ab,s)]) B2 _;rwa[vH,(ag HK).t,ag an,P]
   .have g2:=A _ _ (fI s r hp).2.2.1;rw[hd,<-bJ]at g2;have w:=ak<|Q.trans<|Ux hp hd;clear hd;have:(0:Y)<=(r:Y):=U;have:(r:Y)<(r:Y)+1:=U;have:(0:Y)<(r:Y)+1:=U;have:(r:Y)<=(bq:Y):=U;gi_wp2;exact⟨⟨r,U,z,w⟩,by simp[zce]⟩
 intro s bl ap r p e _ n;let⟨lv,j,g,C⟩:=p.bV;rw[CT]at g;obtain⟨ex,ec,D⟩:=aM g;have:=j.u;have:=az n;subst D;gi_wp2;have c:=iC ap s<|.deferred dE;refine⟨ar,J ⟨_,_,z,run_takeDeferred n,?_⟩⟩;refine⟨_,gH z _ _ _,?_⟩;have hx:=c.aZ g<|λk b u=>e<|(C s).2<|bu<|u▸b;refine⟨_,z,fj hx U,T.aj (p.aA.aj c<|λk b=>bu (by subst b;omega))<|λk b=>bu (by obtain u|u:=b<;>omega)⟩
end
def Bytes.bU(h:Bytes a (bX b c (y m) k) m):∀j u,(m.map<|Value.int .u8)[j]?=M u->bA a (X b<|c+j)=M u:=by
 obtain⟨f,_⟩|⟨g,e,d,f,_,i⟩:=h;cases f;grind
def Ej{v:ae}{bs:eD}{w:Z}(h:Bytes w v bs)(P:y bs<=1099511627776)(g:∀q,cN v=M q->q<G (H w)):cR bN 27 #[v] w λN t=>∃s,N=aN s/\fA t (G<|H w) s bs/\gD (G<|H w) w t:=by
 let⟨K,D,m,o,p⟩:=cZ pN;obtain⟨rfl,rfl⟩|⟨x,e,k,rfl,F⟩:=h.fS;(.have C:∀w:Z,(binOp .eql 31 aF aF).run bN w=.ok (aO cz) w:=λ_=>rfl;(go_in);go_wp2;go_ret;exact⟨_,z,fA.km _ _,Below.refl _ _⟩)
 .have A:x<G (H w):=g x z;have u:=ak h.bU;have l:fE (dw w<|aK #[] 5) (G<|H w) 5 1 (bX (G<|H w) 0 0 0) 0 []:=World.ownsRow_lit w #[] 0 (aq _) cg z;have C:∀(w:Z)a n c,(binOp .eql 31 (am (M a) n c) aF).run bN w=.ok (aO bD) w:=λ_ _ _ _=>rfl;clear h g;go_in
  go_wp2_with(first
   |(at_builtin;refine cq _ z (.tmp 5) (.tmp 6) 31 z (G (H w)) 5 K (.int .u8 0) 1 1 underlying31 D m o p z cg _ 0 [] z l (X x e) (y bs) k (bs.map (Value.int .u8)) z ar (λQ L E=>by rw[dS,gQ A];exact u Q L E) (by intro L r;simp only[cC]at r;obtain⟨O,_,rfl⟩:=r;rfl) U U ar ?_;intro S T b d;have i:=ak b;have j:=ak d;clear b d))
  go_ret;refine⟨_,z,fA.of i ar ar,?_⟩;have:=j.dD (B:=G<|H w) ar (by rintro q⟨⟩;grind);exact⟨this.os,this.tape,this.output,aR ar this.size,λq b=>(this.block q b).trans<|Below.heap_alloc w _ q b⟩
def cJ.A{K:DK}(h:cJ a b K)(r m:Y):pT a (cP (cP a (X b 6)<|ay r) (X b 7)<|ay m) b K {K with fx:={K.fx with L:=r,f:=m}}:=by
 have d:I (λk=>k=b) a (cP (cP a (X b 6)<|ay r) (X b 7)<|ay m):=(iQ b a).aL b 7 _<|J z;have c:lV (cP a (X b 6)<|ay r) b K.nb K.sb K.mv {K.fx with L:=r}:=by unfold lV;rw[aY h.S];rfl
 exact h.R9 (by unfold lV;rw[aY c];rfl) d ⟨id,z,id,z⟩
def Lq(h:fE a b k n d T Q)(m:c<=b):fE a c k n d T Q:=by
 obtain⟨i,l|⟨o,e,f,j,g,r⟩⟩:=h;exact⟨i,J l⟩;exact⟨i,bu ⟨o,e,f,j,aR m g,r⟩⟩
def RdP(w c:Z)(b:R)(K:DK)(e:eD)(f:Ending):Prop:=∃a,pT w c b K a/\wS K a/\(∀k,a.j b k->K.j b k)/\((∃d,f=aN (de #[d,ic])/\fA c (G<|H w) d e)\/(0<K.fx.bd/\∃q,f=aN (de #[aF,eW q])/\rE c q 8))
def Jv(c:af){F:dj}(s A:R)(h:cJ a b f)(hg:ij f.ah c=M F)(ha:s<=y F.bB)(hn:A<=1099511627776)(ao:Nm c):cR bN 121 #[aJ b,aw c,ay s,ay A] a λj w'=>RdP a w' b f ((F.bB.drop s).take A) j:=by
 have:y F.bB<=1099511627776:=h.dL (eM hg).2.1;have:=aX h.S 6;have:=cV (i:=6) h.S;have k:∀W,bA (cP a (X b 6)<|ay W) (X b 7)=M (ay f.fx.f)/\iI (cP a (X b 6)<|ay W) (X b 7)=bD:=by intro W;(have S:lV (cP a (X b 6)<|ay W) b f.nb f.sb f.mv {f.fx with L:=W}:=by unfold lV;rw[aY h.S];rfl);exact⟨by rw[cE S];rfl,cV S⟩
 have:=λW=>(k W).1;have:=λW=>(k W).2;have HF:=ak<|λW m=>tA c (h.A W m).ok ao;have r:=ak h.A;let⟨u,hk,aV,p⟩:∃u,u=min A (y F.bB-s)/\s+u<=y F.bB/\(F.bB.drop s).take u=(F.bB.drop s).take A:=⟨min A<|y F.bB-s,rfl,U,by rw[List.take_eq_take_iff];simp⟩;let⟨n,E⟩:∃n,(F.bB.drop s).take A=n:=⟨_,rfl⟩;rw[E]at p|-;have al:y n<=1099511627776:=by rw[<-E];simp;omega
 have:=ak h.L;have an:f.fx.f<A\/¬f.fx.f<A:=U;obtain hm|hm:=an
 all_goals
  go_in
  go_wp21;go_call HF _ _ as j w1⟨bf,hd,ht,⟨B,k,rfl⟩|⟨k,_⟩|⟨O,q,rfl,hq⟩⟩;case inr.inl=>
   rw[show ij f.ah c=M F from hg]at k;cases k
  case inr.inr=>
   have HD:=ak<|(r _ _).aj hd;go_wp2;go_ret2
   exact⟨_,HD,⟨z,z,z⟩,λ_ j=>j,bu ⟨O,q,z,hq⟩⟩
  have ac:B=F:=by rw[show ij f.ah c=M F from hg]at k;cases k;rfl
  subst ac;have hF:=hd.ok.ah B (eM hg).2.1;have Q:=aX hF.1 0;have x:=hF.2.1;have K:=fA.bB x;have T:=(r _ _).aj hd;have av:=T.aA.D;have g:=ak (λ(ax:ae)(O:Bytes w1 ax n)(ho:∀aa,cN ax=M aa->cN B.A=M aa)=>
   show cR bN 27 #[ax] w1 λj w'=>∃v',j=aN v'/\fA w' (G<|H a) v' n/\∃c,pT a w' b f c/\wS f c/\∀u,c.j b u->f.j b u from(Ej O al<|λu j=>(aS x u<|ho u j).2).mono (by
    rintro j w'⟨v',rfl,ap,P⟩;exact⟨v',z,Lq ap av,_,T.bH (I.p P),⟨z,z,z⟩,λ_ j=>j⟩))
  have N:=(show _ from x).2;obtain⟨m,D⟩|⟨aU,o,aD,m,_,_,bd,bb,_,_⟩:=N
  .have t:B.bB=[]:=bG D;have ad:s=0:=by rw[t]at ha;simpa using ha
   have w:n=[]:=by rw[<-p,t];simp
   subst ad;rw[m]at Q;have AY:=ak (g aF (by rw[w];grind)<|λaa j=>by cases j);obtain V|V:=fO A
   .subst V;go_wp2_with(first
     |(go_at_call 27;refine(ag AY).mono ?_;rintro j w2⟨v2,rfl,l,C,e⟩;have v:=ak l;have d:=ak e))
    go_ret2
    exact⟨C,(ag d).1,(ag d).2.1,(ag d).2.2,J ⟨_,z,v⟩⟩
   .go_wp2_with(first
     |(go_at_call 27;refine(ag AY).mono ?_;rintro j w2⟨v2,rfl,l,C,e⟩;have v:=ak l;have d:=ak e))
    go_ret2
    exact⟨C,(ag d).1,(ag d).2.1,(ag d).2.2,J ⟨_,z,v⟩⟩
  .have ab:Bytes w1 (bX aU s u<|o-s) n:=by
    rw[m]at K;have k:=K.Ed ha;rw[ez]at k;have h2:=Bytes.ou (bs:=B.bB.drop s) (dV k) (n:=u) dW;rwa[p]at h2
   have w:s=o->Bytes w1 (bX aU 0 u 0) n:=by
    intro j;obtain rfl:u=0:=U;rw[show n=[]by rw[<-p];simp];exact bu ar
   have AY:=ak<|λ(ax:ae)(O:Bytes w1 ax n)(ho:∀aa,cN ax=M aa->M aU=M aa)=>g ax O<|λaa j=>m▸ho aa j;rw[m]at Q;have:s<=o:=U;by_cases ba:s=o;all_goals
    by_cases bc:A<=y B.bB-s;all_goals
     go_wp21;refine(ag AY _ ?_<|λaa j=>by exact j).mono ?_
     .have k:=ab;have D:=w;first
       |((have j:u=A:=U);rw[j]at D;exact D U)
       |((have j:u=0:=U);rw[j]at D;grind)
       |((have j:u=A:=U);rwa[j]at k)
       |(grind)
     rintro j w2⟨v2,rfl,l,C,e⟩;go_wp2;go_ret2
     exact⟨C,e.1,e.2.1,e.2.2,J ⟨_,z,l⟩⟩
def RQ(c:af){ab:dj}(ad ac:R)(h:cJ a b f)(F:ij f.ah c=M ab)(ha:y ab.bB<ad)(hn:ac<=1099511627776)(S:Nm c):cR bN 121 #[aJ b,aw c,ay ad,ay ac] a λk E=>RdP a E b f [] k:=by
 have:y ab.bB<=1099511627776:=h.dL (eM F).2.1;have:=aX h.S 6;have:=cV (i:=6) h.S;have o:∀D,bA (cP a (X b 6)<|ay D) (X b 7)=M (ay f.fx.f)/\iI (cP a (X b 6)<|ay D) (X b 7)=bD:=by intro D;(have B:lV (cP a (X b 6)<|ay D) b f.nb f.sb f.mv {f.fx with L:=D}:=by unfold lV;rw[aY h.S];rfl);exact⟨by rw[cE B];rfl,cV B⟩
 have:=λD=>(o D).1;have:=λD=>(o D).2;have HF:=ak<|λD m=>tA c (h.A D m).ok S;have n:=ak h.A;have:=ak h.L;have Q:f.fx.f<ac\/¬f.fx.f<ac:=U;obtain hm|hm:=Q
 all_goals
  go_in
  go_wp21;go_call HF _ _ as k w1⟨ax,P,ht,⟨p,o,rfl⟩|⟨o,_⟩|⟨w,q,rfl,hq⟩⟩;case inr.inl=>
   rw[show ij f.ah c=M ab from F]at o;cases o
  case inr.inr=>
   have HD:=ak<|(n _ _).aj P;go_wp2;go_ret2
   exact⟨_,HD,⟨z,z,z⟩,λ_ k=>k,bu ⟨w,q,z,hq⟩⟩
  have O:p=ab:=by rw[show ij f.ah c=M ab from F]at o;cases o;rfl
  subst O;have hF:=P.ok.ah p (eM F).2.1;have A:=aX hF.1 0;have s:=hF.2.1;have:=fA.bB s;have C:=(n _ _).aj P;have W:=C.aA.D;have g:=ak (λ(aa:ae)(w:Bytes w1 aa [])(T:∀K,cN aa=M K->cN p.A=M K)=>
   show cR bN 27 #[aa] w1 λk E=>∃N,k=aN N/\fA E (G<|H a) N []/\∃c,pT a E b f c/\wS f c/\∀d,c.j b d->f.j b d from(Ej w ar<|λd k=>(aS s d<|T d k).2).mono (by
    rintro k E⟨N,rfl,V,x⟩;exact⟨N,z,Lq V W,_,C.bH (I.p x),⟨z,z,z⟩,λ_ k=>k⟩))
  have v:=(show _ from s).2;have:¬((ad:Y)<=(y p.bB:Y)):=U;obtain⟨m,h0⟩|⟨av,u,al,m,_,_,ap,ao,_,_⟩:=v
  .rw[m]at A;have AY:=ak (g aF (J ⟨z,z⟩)<|λK k=>by cases k);have:y p.bB=0:=h0;have:(0:Y)<ad:=U;obtain l|l:=fO ac
   .subst l;go_wp2_with(first
     |(go_at_call 27;refine(ag AY).mono ?_;rintro k w2⟨v2,rfl,j,t,e⟩;have r:=ak j;have d:=ak e))
    go_ret2
    exact⟨t,(ag d).1,(ag d).2.1,(ag d).2.2,J ⟨_,z,r⟩⟩
   .go_wp2_with(first
     |(go_at_call 27;refine(ag AY).mono ?_;rintro k w2⟨v2,rfl,j,t,e⟩;have r:=ak j;have d:=ak e))
    go_ret2
    exact⟨t,(ag d).1,(ag d).2.1,(ag d).2.2,J ⟨_,z,r⟩⟩
  .have AY:=ak<|λ(aa:ae)(w:Bytes w1 aa [])(T:∀K,cN aa=M K->M av=M K)=>g aa w<|λK k=>m▸T K k;rw[m]at A;have:(y p.bB:Y)<=(u:Y):=U;by_cases an:y p.bB=u;all_goals
    obtain l|l:=fO ac;all_goals
     go_wp21;refine(ag AY _ ?_<|λK k=>by exact k).mono ?_
     .exact bu ar
     rintro k w2⟨v2,rfl,j,t,e⟩;go_wp2;go_ret2
     exact⟨t,e.1,e.2.1,e.2.2,J ⟨_,z,j⟩⟩
def zeu(w c:Z)(b:R)(K:DK)(e:Ending):Prop:=∃a,pT w c b K a/\wS K a/\(∀k,a.j b k->K.j b k)/\∃q d,e=aN (de #[aF,eW q])/\rE c q d/\1<=d
def Oi(c:af)(x n:R)(h:cJ a b f)(t:ij f.ah c=dE)(B:n<=1099511627776)(k:Nm c):cR bN 121 #[aJ b,aw c,ay x,ay n] a λm v=>zeu a v b f m:=by
 have:=aX h.S 6;have:=cV (i:=6) h.S;have d:∀r,bA (cP a (X b 6)<|ay r) (X b 7)=M (ay f.fx.f)/\iI (cP a (X b 6)<|ay r) (X b 7)=bD:=by intro r;(have g:lV (cP a (X b 6)<|ay r) b f.nb f.sb f.mv {f.fx with L:=r}:=by unfold lV;rw[aY h.S];rfl);exact⟨by rw[cE g];rfl,cV g⟩
 have:=λr=>(d r).1;have:=λr=>(d r).2;have p:=ak<|λr m=>tA c (h.A r m).ok k;have e:=ak h.A;have:=ak h.L;have j:f.fx.f<n\/¬f.fx.f<n:=U;obtain u|u:=j;(all_goals(go_in);go_wp21;go_call p _ _ as m D⟨E,s,C,⟨w,d,rfl⟩|⟨d,q,rfl,l⟩|⟨A,q,rfl,l⟩⟩;rw[show ij f.ah c=dE from t]at d;cases d;(all_goals have o:=ak<|(e _ _).aj s;go_wp2;(go_ret2);exact⟨_,o,⟨z,z,z⟩,λ_ m=>m,q,_,z,l,cg⟩))
def RgP(w d:Z)(c:R)(K:DK)(a:af)(h n:R)(g:Ending):Prop:=∃b,pT w d c K b/\wS K b/\(∀k,b.j c k->K.j c k)/\((∃e F,ij K.ah a=M F/\g=aN (de #[e,ic])/\fA d (G<|H w) e ((F.bB.drop h).take n))\/∃q f,g=aN (de #[aF,eW q])/\rE d q f/\1<=f)
def GC(c:af)(m n:R)(h:cJ a b f)(p:n<=1099511627776)(e:Nm c):cR bN 121 #[aJ b,aw c,ay m,ay n] a λg d=>RgP a d b f c m n g:=by
 cases hg:ij f.ah c with
 |none=>
  go_call Oi c m n h hg p e as g d⟨i,j,k,l,o⟩;exact⟨i,j,k,l,bu o⟩
 |some F=>
  have t:∀o g d,o=(F.bB.drop m).take n->RdP a d b f o g->RgP a d b f c m n g:=by
   rintro o g d rfl⟨i,j,k,l,⟨v,r,s⟩|⟨_,q,r,s⟩⟩
   .exact⟨i,j,k,l,J ⟨v,F,hg,r,s⟩⟩
   .exact⟨i,j,k,l,bu ⟨q,8,r,s,cg⟩⟩
  by_cases u:m<=y F.bB
  .exact(Jv c m n h hg u p e).mono<|λg d q=>t _ g d z q
  .exact(RQ c m n h hg U p e).mono<|λg d q=>t _ g d (by rw[rQ U];simp) q
def vA(b:R)(r:Y)(a:eN):DK:=⟨b,b+1,aF,⟨r,0,0,0,0,a⟩,[],[],[],[]⟩
def JK(w:Z):iP (dw w<|.map #[] 0) (G<|H w) []:=⟨#[],0,jp _ _,rfl,sG 0⟩
def zP(w:Z)(r:Y)(b:eN)(e:0<=r/\r<=1099511627776):cR bN 14 #[ay r] w λg c=>g=aN (aJ<|G (H w)+2)/\cJ c (G (H w)+2) (vA (G<|H w) r b)/\gD (G<|H w) w c:=by
 have d:=@tE bN;have a:cJ (dw (dw (dw w<|.map #[] 0)<|.map #[] 0)<|aK #[.map<|M<|G<|H w,.map<|M<|G (H w)+1,aF,ay r,ay 0,ay 0,ay 0,ay 0] 89) (G (H w)+2) (vA (G<|H w) r b):=by refine⟨?_,((JK w).aE _).aE _,?_,by simp[vA],ct _ _ _ _,by simp[vA],by simp[vA],by simp[vA],by simp[vA,Fg.ok],by simp[vA,fw],e,by simp[vA],by simp[vA],by simp[vA]⟩;have:=jp (dw (dw w<|.map #[] 0)<|.map #[] 0)<|aK #[.map<|M<|G<|H w,.map<|M<|G (H w)+1,aF,ay r,ay 0,ay 0,ay 0,ay 0] 89;simpa[lV,vA]using this;have:=(JK<|dw w<|.map #[] 0).aE<|aK #[.map<|M<|G<|H w,.map<|M<|G (H w)+1,aF,ay r,ay 0,ay 0,ay 0,ay 0] 89;simpa[vA]using this
 go_in
 go_wp2;go_ret;exact⟨z,a,((((Below.refl _ w).alloc (aq _) _).alloc ar _).alloc dW _)⟩
def BG:∀{m:gU}{k:af},m.jo k=dE->m.gL k d=m++[(k,d)]
 |[],k,_=>rfl
 |p::r,k,h=>by
  unfold gU.jo at h;by_cases e:p.1=k
  .rw[fW e]at h;cases h
  .rw[fN e]at h;unfold gU.gL;rw[fN e,BG h];rfl
def Ps{v:ae}:∀{m:gU}{k:af},m.jo k=dE->gU.jo (m++[(k,v)]) k=M v
 |[],k,_=>by simp[gU.jo]
 |p::r,k,h=>by
  unfold gU.jo at h;by_cases e:p.1=k
  .rw[fW e]at h;cases h
  .rw[fN e]at h;show gU.jo (p::(r++[(k,v)])) k=M v;unfold gU.jo;rw[fN e];exact Ps h
def Pu{a:cy dj}(h:B∉a.map dj.dA):gU.jo (a.map dj.nm) B=dE:=by
 induction a with
 |nil=>rfl
 |cons f a b=>
  rw[bO,dy,not_or]at h;rw[bO];unfold gU.jo;rw[fN<|λe=>h.1 e.symm];exact b h.2
def tv{m:gU}{e:Array ae}{t:TypeId}{g:R×R}(h:iP a b m)(d:a.heap[c]?=M (aK e t g)):c≠b:=by
 rintro rfl;let⟨k,j,i,_⟩:=h;rw[i]at d;cases d
def cJ.sP{K:DK}{f:dj}{m:gU}(h:cJ a b K)(C:K.l=[])(j:K.qP=[])(r:I (λk=>k=K.nb\/k=K.sb) a e)(s:iP e K.nb (K.ah.map dj.nm++[f.nm]))(l:iP e K.sb m)(B:sB e f)(A:G (H a)<=f.l)(v:∀k,cN f.A=M k->G (H a)<=k)(w:fw (K.ah++[f])<=4611686018427387904):cJ e b {K with ah:=K.ah++[f],sm:=m}/\∀k,DK.j b {K with ah:=K.ah++[f],sm:=m} k->K.j b k\/k=f.l\/cN f.A=M k:=by
 have g:∀{k:R}{b:Array ae}{t:TypeId}{c:R×R},a.heap[k]?=M (aK b t c)->¬(k=K.nb\/k=K.sb):=λi n=>n.elim (tv h.l i)<|tv h.D i;refine⟨⟨?_,?_,l,h.ne,?_,?_,?_,?_,h.L,w,h.v,by rw[j];simp,by rw[j];simp,by rw[j];simp⟩,?_⟩;exact(r.A b (az h.S)<|g h.S).trans h.S;rwa[bz];exact r.aZ h.o (λk i n=>by let⟨o,u⟩:=gh h.o i;grind);grind
 intro t c;obtain c|c:=aP.1 c;have d:=h.ah t c;exact d.aA r (g d.1) (λk i n=>by let⟨o,u⟩:=gh d.2.1 i;grind);grind
 show(K.ah++[f]).Pairwise mG;rw[eH];refine⟨h.fq,nJ _ _,λt c x p=>?_⟩;obtain rfl:=bY.1 p;have d:=h.ah t c;refine⟨λD=>bP<|az d.1,λk i q=>?_⟩;have:=(aS d.2.1 k i).2;have:=v k q;omega;rintro k(n|n|n|n|⟨x,p,n⟩|⟨t,c,n⟩);exact J<|J n;exact J<|bu<|J n;exact J<|bu<|bu<|J n;exact J<|bu<|bu<|bu<|J n;(grind);obtain c|c:=aP.1 c;obtain c|c:=aP.1 c;exact J<|bu aI;(grind);grind
def CE{P:Program}{s:Oper}{i:Act}{K:Act->Z->Prop}{Q:Exit->Act->Z->Prop}(j B k:Operand)(A:TypeId)(g:s.op=Op.mapUpdate A j B k)(w C:TypeId)(p:P.underlying A=M (.map w C))(n:P.underlying w=M .string)(l:R)(x:gU)(o:i.eval j=.map (M l))(h:iP a l x)(b:af)(c:ae)(r:i.eval B=aw b)(q:i.eval k=c)(m:∀d,iP d l (x.gL b c)->a.grownBy d (M l)->G (H d)=G (H a)->K (i.put s.dst jn) d):Oper.wp P s i a K Q:=by
 let⟨d,e,t,u,v⟩:=EE p n h b c;unfold Oper.wp;simp[execOp,g,o,r,q,e,Result.andThen];exact m d t u v
section
open Shelf
attribute [local go_sem] Oper.semAt_some
section
variable{F:Fence}{n:R}{P:Program}(w:Z){b:Array Oper}{rest:cy Oper}{o:Oper}{a:Act}{Q:Exit->Act->Z->Prop}
theorem Fi(k:o.guard=dE)(g:Operand)(t:TypeId)(c:o.op=Op.range t g)(x v:TypeId)(m:P.underlying t=M (.map x v))(i:R)(p:ia)(l:a.eval g=.map (M i))(h:kP w i p)(j:∀d,sA d i (G<|H w) p p->w.grownBy d dE->G (H d)=G (H w)+1->wpListIn F n P b Q rest (a.put o.dst<|aJ<|G<|H w) d):wpListIn F n P b Q (o::rest) a w:=by
 refine zk k λu f=>?_;let⟨d,e,q,r,s⟩:=Rv m h;unfold Oper.wpIn;refine⟨?_,?_⟩;simp[Oper.about,c];rw[Oper.semAt_plain F _ _ (by rw[c];grind)];simp[execOp,c,l,e,Result.andThen];exact f _ _<|j d q r s
theorem FT(q:o.guard=dE)(l:Operand)(e:o.op=Op.next l bD)(s r:R)(t left:ia)(QF:a.eval l=aJ r)(h:sA w s r t left)(f:left=[]->wpListIn F n P b Q rest (a.put o.dst<|de #[aO bD]) w)(k:∀g p d i,left=g++p::d->sA i s r t (g++d)->w.grownBy i (M r)->G (H i)=G (H w)->(Instr.entry<|aJ r).run P i=.ok (de #[ay p.1,p.2]) i->wpListIn F n P b Q rest (a.put o.dst<|de #[aO cz,ay p.1,p.2]) i):wpListIn F n P b Q (o::rest) a w:=by
 refine zk q λu j=>?_;unfold Oper.wpIn;refine⟨?_,?_⟩;simp[Oper.about,e];rw[Oper.semAt_plain F _ _ (by rw[e];grind)];obtain⟨m,c⟩|⟨g,p,d,i,C,c,v,x,A,B⟩:=Vb (P:=P) h o.type;simp[execOp,e,QF,c,Result.andThen];exact j _ _<|f m;simp[execOp,e,QF,c,Result.andThen];exact j _ _ aI
end
def O7(v:Y):Array ae:=#[bw v]
def zA(m:ia)(c:eD):Prop:=m.map (·.2)=c.map (Value.int .u64)
theorem Kz(n0 ce m E:R)(br:ia)(x:eD)(w:Z)(hb:fF w m (.map<|M E) 94)(hm:kP w E br)(bq:zA br x)(bf:E<n0)(bl:n0<=G (H w)):T6 O7 CY n0 ce 213 #[aJ m] (λca _=>∃ch,(ca++ch).Perm x) (λca=>ca.Perm x) (λk=>k=m) w:=by
 intro lr cd Jx cc ad hs hD hJ bd T V hY;have bx:bA ad (X m 0)=M (.map<|M E):=hs.u (J z) hb.u;have bk:kP ad E br:=hm.dU<|hs.2 E<|J ⟨bf,id⟩;refine th func213 z trivial ?_ z;simp only[ntmps213,gp,bK,eE,ke,Nat.reduceSub,fh,fc,gq,fH,ep,dt]
 gi_wp2_with(first
  |(refine Fi _ z _ 94 z 3 104 underlying94 E _ z bk ?_;intro w0 N bg bT;have al:=ak N;have A:=ak bg))
 have u:=hs.1;have bL:m<G (H ad):=au (az hb) u;have aa:I aC ad w0:=I.eF A ar;have bs:=T _ _ _ hJ;gi_loopg [] (y br) (λk wr=>∃(c:eD)(left:ia)(vl:eD)(r:fC),y left=k/\zA left vl/\(c++vl).Perm x/\sA wr E (G<|H ad) br left/\cd c r wr/\(∀k,k=m->¬r k)/\la CY n0 (λk=>k=m) w wr/\¬r (G<|H ad))
 refine⟨[],br,x,cc,z,bq,pA _,al,V _ _ _ _ _ hJ aa cY,bd,hs.aj<|aa.bM (aR bl u) aI cY,aI⟩;(.let⟨c,left,vl,r,bi,g,v,bh,bc,p,e,aV⟩:=hrel;have bE:bA wr (X m 0)=M (.map<|M E):=e.u (J z) hb.u;let⟨C,B,an,t⟩:=js g v bh bc;let⟨av,s,ap⟩:=eU e aV bi;(gi_wp2_with(first|(refine FT _ z _ z E (G<|H ad) _ _ z an ?_ ?_)));(.intro d;subst d;(have f:vl=[]:=by have:=ag C;unfold zA at this;simp_all);subst f;gi_wp2;exact xW (jc z _ _ _) z ⟨⟨_,z⟩,J ⟨c,r,dV<|ag B,t,trivial⟩⟩);(.intro j pk pv i w1 hl O S W bt;subst hl;have g:=ag C;unfold zA at g;rw[bz,bO]at g;obtain⟨va,vd,rfl,bn,bp⟩:=jz.1 g.symm;obtain⟨cb,vc,rfl,hv,bo⟩:=py.1 bp;simp only at hv;subst hv;have ab:I (λk=>k=G (H ad)) wr w1:=I.eF S<|λk q=>aI;let⟨aD,d,aU⟩:=eU ab O (show zA (j++i) (va++vc)from by unfold zA;rw[bz,bz,bn,bo]);have l:=ak<|show((c++[cb])++(va++vc)).Perm x from List.Perm.trans (by rw[cw];grind) B;have ba:=V _ _ _ _ _ t ab (λk q=>by subst q;exact⟨s,bu<|bu u⟩);have D:=ak<|hY c cb r w1 ⟨va++vc,l⟩ ba trivial;unfold O7 at D;let⟨fn,bv,ac,body,hy,hR⟩:=ag D;gi_wp2;refine⟨(λK=>(by cases K)),hR.mono ?_⟩;rintro cj W3(⟨rfl,_,B3,bb,f,L⟩|⟨rfl,hx⟩);(.have ao:=ak bb;have ax:=ak f;gi_wp2;(gi_roundg (y<|j++i));(case measure=>have:=ag ap;grind);have f:=ag ax;have e:=ag av;have:G (H wr)=G (H w1):=W.symm;have bm:=d.lt;have:=d.ne;have:∀k,r k->n0<=k:=λk q=>(T _ _ _ t k q).1;have:=e.1;refine⟨c++[cb],j++i,va++vc,B3,z,aU,l,d.qT (f.A E U aI)<|f.A _ bm s,ao,λk q K=>?_,?_,λK=>?_⟩;(obtain K|K:=L k K;exact p k q K;grind);refine(e.aj<|aD.bM U aI aI).aj<|f.bM U (λk q=>⟨U,p k q⟩) aI;obtain K|K:=L _ K;exact s K;omega);have HX:=ak hx;gi_wp2;exact ci (jc z _ _ _) z ⟨⟨_,z⟩,bu ⟨_,HX⟩⟩))
end
structure SR where
 f:R
 D:Y
 ub:Y
 d:eN
 L:ae
 o:R
 S:R
 l0:ae
 l1:ae
 l2:ae
 l3:ae
 t:R
 v:R
 n:Option R
 l:R
 i:eN
 my:eN
 k:eN
 x:eN
variable{o:SR}
def SR.bU(s:SR)(k:Y):Array ae:=#[iD k,eI 0,aJ s.f,ay s.D,ay s.ub,aO s.d,ic,s.L,ay s.o,bw s.S,s.l0,s.l1,s.l2,s.l3,bw s.t,ay s.v,.map s.n,bw s.l,aO s.i,aO s.my,aO s.k,aO s.x]
def cU(w:Z)(a:R)(s:SR)(k:Y):Prop:=w.heap[a]?=M (aK (s.bU k) 110 (0,0))
def cU.u{w:Z}(h:cU w c o r){i:R}(a:(o.bU r)[i]?=M d):bA w (X c i)=M d:=by
 rwa[cE h]
def cU.bW{w:Z}(h:cU w b o r)(i:R)(e:(o.bU r).toList[i]?=M d):bA w (X b i)=M d:=h.u (by rw[<-e];simp)
def cU.bS{w:Z}{a i:R}(h:cU w a o r):iI w (X a i)=bD:=cV h
def cU.aA{S:fC}{w w':Z}(h:cU w c o r)(d:I S w w')(a:¬S c):cU w' c o r:=(d.A c (az h) a).trans h
def zai(w:Z)(t:ae):cR bN 32 #[ic,t] w λe a=>e=aN (aO bD)/\a=w:=by
 go_in
 go_wp2;go_ret;simp_all
def JP(w:Z):cR bN 103 #[ic] w λe a=>e=aN ic/\gD (G<|H w) w a:=by
 go_in
 go_wp2_with(go_at_call 32;refine(zai _ _).mono ?_;rintro e b⟨rfl,rfl⟩)
 go_ret;exact⟨z,(Below.refl _ w).alloc (aq _) _⟩
def mY(h:cU a b o r):cR bN 49 #[aJ b] a λf e=>f=aN (uf<|if o.d then 6 else 0)/\gD (G<|H a) a e:=by
 have c5:bA a (X b 5)=M (aO o.d):=h.u z;have:bA a (X b 6)=M ic:=h.u z;have d:=JP a;cases hc:o.d with
 |true=>
  rw[hc]at c5;clear h hc;go_in
  go_wp2;go_ret;exact⟨z,Below.refl _ _⟩
 |false=>
  rw[hc]at c5;clear h hc;go_in
  go_wp2_with(go_at_call 103;refine d.mono ?_;rintro f g⟨rfl,c⟩;have HB:=ak c;clear c)
  go_ret;exact⟨z,HB⟩
def qe(a:Y)(i n:R):eN:=if i=0 then decide (a<=(n:Y))else decide (i<3)&&decide (a<(n:Y))
def tT(i n:R)(x:Option Addr)(f:R)(h:cU a c o r)(j:i<4):cR bN 77 #[aJ c,ay i,am x n f] a λg e=>g=aN (aO<|qe o.ub i n)/\e=a:=by
 have:bA a (X c 4)=M (ay o.ub):=h.u z;generalize o.ub=k at*;clear h;have d:i=0\/i=1\/i=2\/i=3:=U;obtain rfl|rfl|rfl|rfl:=d;(·(go_in);go_wp2;go_ret;exact⟨z,z⟩);(·(go_in);go_wp2;go_ret;exact⟨z,z⟩);(·(go_in);go_wp2;go_ret;exact⟨z,z⟩);(go_in);go_wp2;go_ret;exact⟨z,z⟩
section
open Conc.Locks
def cU.jh(h:cU a b o r)(j:Y):cU (cP a (X b 0)<|iD j) b o j:=by
 have:=aY (i:=0) (u:=iD j) h;exact this
end

def SR.wC(b:R)(a c:Y)(d:R):SR:=⟨b,a,c,bD,aF,0,0,aF,aF,aF,aF,0,0,M d,0,bD,bD,bD,bD⟩
def KJ(a:R):Array ae:=#[.func (.func 28) #[aJ a] #[],.func (.func 29) #[aJ a] #[],.func (.func 30) #[aJ a] #[],.func (.func 31) #[aJ a] #[]]
def kP.at1(w:Z)(o:Obj):kP (dw (dw w o)<|.map #[] 0) (G (H w)+1) []:=by
 have:=kP.lY<|dw w o;simp_all
def I5(s:R)(c l:Y)(w:Z)(S:1<=c/\c<=32/\2<=l/\l<=6)(r v x A B:Z->Prop)(o:Z->R->Prop)(p:∀W,I aC w W->cU W (G (H w)+2) (SR.wC s c l<|G (H w)+1) 0->kP W (G (H w)+1) []->G (H W)=G (H w)+4->r W)(E:∀W,r W->cR bN 28 #[aJ<|G (H w)+2] W λm d=>(m=aN ic/\v d/\d.heap[G (H w)+3]?=W.heap[G (H w)+3]?)\/∃q,m=aN (eW q)/\o d q)(F:∀W,v W->cR bN 29 #[aJ<|G (H w)+2] W λm d=>(m=aN ic/\x d/\d.heap[G (H w)+3]?=W.heap[G (H w)+3]?)\/∃q,m=aN (eW q)/\o d q)(K:∀W,x W->cR bN 30 #[aJ<|G (H w)+2] W λm d=>(m=aN ic/\A d/\d.heap[G (H w)+3]?=W.heap[G (H w)+3]?)\/∃q,m=aN (eW q)/\o d q)(L:∀W,A W->cR bN 31 #[aJ<|G (H w)+2] W λm d=>(m=aN ic/\B d/\d.heap[G (H w)+3]?=W.heap[G (H w)+3]?)\/∃q,m=aN (eW q)/\o d q):cR bN 10 #[aJ s,ef #[ay c,ay l]] w λm d=>(m=aN (de #[aJ<|G (H w)+2,ic])/\B d)\/∃q,m=aN (de #[ee dE,eW q])/\o d q:=by
 let⟨T,V,o3,o4⟩:=S;have:¬c<1:=U;have:¬32<c:=U;have:¬l<2:=U;have:¬6<l:=U;have:∀a w,(callFunc 28 a).run bN w=.ok (.enter 28 a) w:=enters_of func28 aH z;have:∀a w,(callFunc 29 a).run bN w=.ok (.enter 29 a) w:=enters_of func29 aH z;have:∀a w,(callFunc 30 a).run bN w=.ok (.enter 30 a) w:=enters_of func30 aH z;have:∀a w,(callFunc 31 a).run bN w=.ok (.enter 31 a) w:=enters_of func31 aH z;let⟨D,N,O,P,Q⟩:=oa (show r (dw (dw (dw (dw w<|aK #[ay c,ay l] 38)<|.map #[] 0)<|aK ((SR.wC s c l<|G (H w)+1).bU 0) 110)<|aK (KJ<|G (H w)+2) 80)/\(dw (dw (dw (dw w<|aK #[ay c,ay l] 38)<|.map #[] 0)<|aK ((SR.wC s c l<|G (H w)+1).bU 0) 110)<|aK (KJ<|G (H w)+2) 80).heap[G (H w)+3]?=M (aK (KJ<|G (H w)+2) 80 (0,0))from⟨p _ ((((cI aC w).aE _).aE _).aE _) ((gy _ ar).trans<|aQ _ ar) (((kP.at1 w _).aE _).aE _) ar,aQ _ ar⟩) E F K L;clear T V o3 o4 p E F K L;have:=@tE bN;go_in
 go_wp2;go_loopw [44] (λi wr=>∃(t:R),t<=4/\i=ay t/\((t=0/\r wr)\/(t=1/\v wr)\/(t=2/\x wr)\/(t=3/\A wr)\/(t=4/\B wr))/\wr.heap[G (H w)+3]?=M (aK (KJ<|G (H w)+2) 80 (0,0))) (λi _=>4-(intOf i).toNat)
 exact⟨0,U,dM,J ⟨z,D.1⟩,D.2⟩;(.obtain⟨t,hj,rfl,f,e⟩:=hrel;have:=aX e 0;have:=aX e 1;have:=aX e 2;have:=aX e 3;obtain⟨rfl,f⟩|⟨rfl,f⟩|⟨rfl,f⟩|⟨rfl,f⟩|⟨rfl,f⟩:=f;(.have j:=N wr f;clear f;go_wp21;go_call j as m C(⟨rfl,i,b⟩|⟨q,rfl,k⟩);rotate_left;(.have n:=ak k;clear k j;go_wp2;(go_ret2);exact bu ⟨q,z,n⟩);have g:=ak<|b.trans e;clear b j;go_wp2;go_roundw;exact⟨1,U,dM,bu<|J ⟨z,i⟩,g⟩;simp[intOf]);(.have j:=O wr f;clear f;go_wp21;go_call j as m C(⟨rfl,i,b⟩|⟨q,rfl,k⟩);rotate_left;(.have n:=ak k;clear k j;go_wp2;(go_ret2);exact bu ⟨q,z,n⟩);have g:=ak<|b.trans e;clear b j;go_wp2;go_roundw;exact⟨2,U,dM,bu<|bu<|J ⟨z,i⟩,g⟩;simp[intOf]);(.have j:=P wr f;clear f;go_wp21;go_call j as m C(⟨rfl,i,b⟩|⟨q,rfl,k⟩);rotate_left;(.have n:=ak k;clear k j;go_wp2;(go_ret2);exact bu ⟨q,z,n⟩);have g:=ak<|b.trans e;clear b j;go_wp2;go_roundw;exact⟨3,U,dM,bu<|bu<|bu<|J ⟨z,i⟩,g⟩;simp[intOf]);(.have j:=Q wr f;clear f;go_wp21;go_call j as m C(⟨rfl,i,b⟩|⟨q,rfl,k⟩);rotate_left;(.have n:=ak k;clear k j;go_wp2;(go_ret2);exact bu ⟨q,z,n⟩);have g:=ak<|b.trans e;clear b j;go_wp2;go_roundw;exact⟨4,U,dM,bu<|bu<|bu<|bu<|⟨z,i⟩,g⟩;simp[intOf]);have u:=ak f;clear f;go_wp2;(go_ret2);exact J ⟨z,u⟩)
def Uo{α:Type}(e:α->Array ae)(V:jv)(h n j:R)(l:Array ae)(m:cy α)(S:fC)(w:Z):Prop:=∀(g:R)(d:cy α->fC->Z->Prop)(f:cy α->Z->Prop)(B:fC)(W:Z),la V h S w W->V.D W->d [] B W->(∀k,S k->¬B k)->(∀a B W,d a B W->∀k,B k->h<=k/\k<G (H W))->(∀a B W b T,d a B W->I T W b->(∀k,T k->¬B k/\(V.F k\/G (H w)<=k))->d a B b)->(∀a x B W,(a++[x])<+:m->d a B W->V.D W->YieldAt Fence.wide (n-1) bN g (e x) W λi b=>
 (i=aN (aO cz)/\V.D b/\∃c,d (a++[x]) c b/\I B W b/\(∀k,c k->B k\/G (H W)<=k))\/(i=aN (aO bD)/\f (a++[x]) b))->
 CallsIn Fence.wide n bN j (#[.func (.yield g) #[] #[]]++l) W λi b=>(∃v,i=aN v)/\((∃c,d m c b/\V.D b)\/(∃a,f a b))
def Uo.q{α:Type}{a:α->Array ae}{d:Array ae}{l:cy α}{S:fC}{w:Z}(h:Uo a s c k n d l S w):Un a s c k n d (λt _=>t<+:l) (·=l) S (λv=>s.F v\/G (H w)<=v) w:=by
 intro u x e B W f g j m o q r;apply(h u x e B W f g j m o q r).mono;grind
def Ev{α:Type}{c:α->Array ae}{m:R}{F:Operand}{u:Array Tmp}{b body:Code}{Q:Exit->Act->Z->Prop}{a:Act}{V:jv}{n0 gf:R}{lb:Array ae}{l:cy α}{S:fC}(C:a.eval F=.func (.func gf) #[] lb)(w:Enters bN gf)(q:∀K,(c K).size=u.size)(QF:Uo c V n0 (m-1) gf lb l S e)(A:V.D e)(p:n0<=G (H e))(i:∀t,S t->t<G (H e))(v:cy α->fC->Z->Prop)(s:Code->cy α->fC->Z->Prop)(B:fC):Tu c m F u b body Q a e V n0 (λE _=>E<+:l) S (λt=>V.F t\/G (H e)<=t) v s B (∀(D:R)(B:fC)(W:Z),G (H e)<=D->v l B W->¬B D->V.D W->W.heap[D]?=M (.deferred<|M [])->Q .normal {a with defers:={target:=.collected D,args:=#[]}::a.defers} W):=λx k o r j d f g=>tK (λ_ h=>bu h) C w q QF.q A p i v s B x k o r j d (λ_ D B W n=>n▸f D B W) g
